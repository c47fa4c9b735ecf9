import PyProof.Rows.All
import Wide.All
import OpenK.AllK
import Wide.FinOn
import KE.KLam
import KE.KNestM
import KE.KSortTup
import Lean
import OpenK.KCls
import PyProof.CollectWalk
import PyProof.CompMap
import PyProof.DictStraight
import PyProof.EqAt
import PyProof.EqKinds
import PyProof.ExcArgs
import PyProof.ExcBaseAll.Exception
import PyProof.FactsAll.set
import PyProof.FactsBase
import PyProof.InstStoreFacts
import PyProof.ListRange
import PyProof.LongRange
import PyProof.MakeMany
import PyProof.MinMaxWalk
import PyProof.NeKinds
import PyProof.Rows.SetFrom
import PyProof.Rows.SortWalk
import PyProof.SeqI3
import PyProof.SetKind
import PyProof.SetNew
import PyProof.SetScanFacts
import PyProof.StationsW
import PyProof.TupleCall
import PyProof.WalkInts
import PyProof.Walks
import PySem.Challenge.RW_letterdesk_k06_whole_waiting_and_overdue
set_option Elab.async false
set_option linter.all false
set_option maxRecDepth 100000
set_option maxHeartbeats 4000000
open Array renaming length_toList → cXf, getElem?_eq_getElem → cXl, getElem?_toList → cXr, getElem?_eq_some_iff → cZk, getD → cZn, getElem?_eq_none → cZM, getElem?_extract_of_lt → cJS, getElem?_append_left → cJ2, perm_iff_toList_perm → cJ3
open Classical renaming choose_spec → cJx
open False renaming elim → cXp
open ForInStep renaming yield → cJC
open Int renaming toNat_natCast → cQt, zero_add → cX2, not_lt → cZI
open List renaming getElem?_eq_getElem → bYR, length_map → bYW, mem_cons → bY1, getElem?_eq_some_iff → bY3, mem_cons_of_mem → bY4, range → bY5, mem_cons_self → bY7, mem_singleton → bY9, mem_of_getElem? → cQa, size_toArray → cQb, getElem?_map → cQc, length_append → cQf, mem_append_right → cQg, getElem?_append_right → cQi, getElem?_eq_none → cQs, mem_range → cQu, mem_append → cQw, getElem?_append_left → cQz, getD → cQC, map_cons → cQF, getElem_of_mem → cQJ, length_range → cQL, take_length → cQP, length_cons → cQR, length_filter_le → cQS, take_add_one → cQU, append_nil → cQV, mem_map → cQX, mem_filter → cQ0, toArray → cQ1, filter_append → cQ3, length_singleton → cQ5, length_pos_iff → cQ6, append_assoc → cQ8, length_take → cXb, map_append → cXc, pairwise_singleton → cXi, pairwise_cons → cXj, contains_iff_mem → cXt, filter_cons_of_neg → cXy, filter_cons_of_pos → cXz, eq_nil_of_length_eq_zero → cXG, getElem_inj → cXH, lookup_cons → cXI, mem_append_left → cXP, filter_sublist → cXU, getElem?_range → cXV, getElem_mem → cXX, length → cX0, length_nil → cX3, map_map → cX4, nodup_cons → cX5, ext_getElem? → cZa, any_cons → cZc, lookup → cZd, contains_cons → cZf, find?_cons → cZh, range_succ → cZi, nodup_append → cZl, pairwise_iff_getElem → cZo, replicate → cZq, not_mem_nil → cZt, filterMap_cons → cZC, filter_eq_self → cZD, getElem?_set_self → cZN, all_eq_true → cZ1, append_inj' → cZ2, nodup_range → cZ3, all_cons → cZ6, zip → cJh, pairwise_map → cJn, cons_append → cJu, countP_cons → cJv, forIn_cons → cJD, getElem?_set_ne → cJE, pairwise_append → cJF, map_congr_left → cJO, toList_toArray → cJP, Perm → cJY, filter_congr → cJ5, foldl_append → cJ6, getElem?_eq_none_iff → cVd, length_erase_of_mem → cVi
open List.Nodup renaming mem_erase_iff → cVh
open Nat renaming le_refl → bYZ, ne_of_lt → cQj, lt_of_lt_of_le → cQl, le_trans → cQv, zero_le → cQQ, lt_succ_of_lt → cQ2, lt_irrefl → cQ4, sub_self → cXe, le_succ_of_le → cXq, not_lt_zero → cXE, lt_succ_self → cXJ, le_succ → cX1, le_of_eq → cZu, le_of_lt → cZv, ne_of_gt → cZw, lt_or_ge → cZU
open Ne renaming symm → cQB
open Option.some renaming inj → cQd, injEq → cJ7
open PyProof.Rows renaming seqObj → cQI, envOfC → cXQ, IntsAre → cZp, get?_update_seq → cZK, IsTup → cZQ, callWith_type1 → cZX, listUpdate_at → cZ8, entry_list_sort → cJT, args_list_sort → cJ0, slot_list_sort → cJ1
open PyProof.Rows.F renaming plain_set_update_loop → cZg, entry_set_update_loop → cJi
open PyProof.Rows.IntsAre renaming int_at → cJZ
open PySem renaming Value → bYS, wpAny_bind → bYU, Shared → bYV, wpAny_pure → bYY, wpAny → bY0, model → bY2, Program → cQe, sizeLine → cQk, World → cQm, mainGlobals → cQq, sizeLine_eq → cQr, starEach → cQy, Around → cQA, bootBuiltins → cQD, Paired → cQH, wpAny_mono → cQW, rawInt → cXa, wpAny_holding → cXd, mem_of_lookup → cXn, compareOp → cXo, backTo → cXw, wpAny_Call_Name_kw → cXx, SetTable → cXD, Builtin → cXF, codeAny_mono → cXL, wpAny_call_entry → cXM, FuncData → cXR, wpAny_newObj_type → cXS, wpAny_truthy_bool → cXT, wpAny_setField → cXZ, Scope → cX8, codeAny_builtin → cX9, codeAny → cZb, keywordEach → cZe, wpAny_passesOwn → cZj, wpAny_setState_of → cZm, binaryOp → cZz, bindArgs → cZA, wpAny_askSetting → cZB, wpAny_setEntries_of → cZE, wpAny_callSpecial?_slot → cZF, attributeBase → cZG, behindInMarks → cZH, sysModules → cZL, NameKind → cZO, isSubtype → cZY, pickOrder → cZZ, setFlight → cZ0, backToKw → cZ4, wpAny_call → cZ5, plainId_quiet → cZ9, wpAny_attempt → cJa, wpAny_newList → cJb, holding → cJc, sliceBounds → cJd, valueAt → cJe, getMethod → cJk, noteFrame → cJl, scanBound → cJm, wpAny_standAt → cJt, builtinLookup_eq_fast → cJA, plainObj_wpAny_Assign_Attribute → cJB, assignEach → cJH, codeAny_call_builtin → cJI, isInstance → cJJ, letOwnedTupleGo → cJK, wpAny_execs_nil → cJL, wpAny_ite_split → cJM, wpAny_fieldsOf → cJV, fits_of_scanBound → cVa, foldedSetIterable → cVb, wpAny_pyIter_list → cVc, wpAny_comprehension_free → cVk
open PySem.Around renaming under_plainId → cXO
open PySem.Builtin.List renaming listExtendWith → cZW, listTooLong → cJg, listLengthHint → cJW, listSameRef → cVg
open PySem.Calls renaming call_function_entry → cJf, Name_function_global → cJ4
open PySem.Code renaming quiet_builtin → cJX
open PySem.F renaming plainAttrs_list → cQh, slot_list_append → cQo, type_list_append → cQp, called_set → cXK, slot_list_pop → cJy, type_list_pop → cJz, excBase_Exception → cVe, plain_extend_loop → cVf, args_tuple_add_2 → cVj
open PySem.Heap renaming get?_push_of_some → bYX, lt_size → bY6, get?_push_size → cQn, get?_update_other → cQx, get?_update_self → cQZ, size_push → cXs, SameBut → cXW, ExtBut → cJs, get?_update_ne → cJN
open PySem.Heap.SameBut renaming update → cXm
open PySem.Obj renaming mapSeq → cQM, mapFields → cQ9, isFreed_of_fields → cXh, data_mapFields → cXk
open PySem.Paired renaming length → cXA, snoc → cZP
open PySem.PassesOwn renaming never → cQG
open PySem.SeqAt renaming EqAt → cVm
open PySem.SetTable renaming below → cQT, grown → cZs, insertAt → cZT
open PySem.SetTable.below renaming go → cZS
open PySem.SetTable.probe renaming go → cJ9
open PySem.Str renaming ofString → cJj
open PySem.W renaming Frag → bYT, mg_none_of → bY8, findIn → cQE, kitOne → cQK, nsIn → cQN, keepIn → cQO, fnOf → cQY, katRev → cQ7, kia_one → cXu, kia_tup → cXv, codeIn → cXB, emptyDict → cXC, mg_of → cXN, CodeHd → cXY, instObj → cX6, kla_obj → cX7, tabObj → cZr, isFn → cZx, plainGet → cZy, callWith_K → cZJ, hasDictIn → cZR, methodCall_KW → cZV, mroIn → cZ7, kitx_dict → cJo, kitx_list → cJp, plainOver → cJq, specialIn → cJr, codeHdIn → cJw, callWith_K0 → cJQ, plainGet_of → cJR, lookIn → cJU, methodObj → cJ8, KatTups → cVl
open PySem.W.KatTups renaming cons → cJG
open True renaming intro → cXg
abbrev A0:="_law_rows"
abbrev A1:="self"
abbrev AA:="_law_number"
abbrev AB:="list"
abbrev AC:="number"
abbrev AD:="tuple"
abbrev AE:="__init__"
abbrev AF:="_law_shut"
abbrev AG:="words"
abbrev AH:="_law_deed"
abbrev AI:="_law_k"
abbrev AJ:="book"
abbrev AK:="_law_date"
abbrev AL:="letter"
abbrev AM:="deed"
abbrev AN:="_law_cells"
abbrev AO:="__debug__"
abbrev AQ:="set_iterator"
abbrev AR:="sorted"
abbrev AS:="waiting"
abbrev AT:="overdue"
abbrev AU:="term"
abbrev AV:="_law_found"
abbrev AW:="answers_to_each"
abbrev AX:="_law_script"
abbrev AY:="isinstance"
abbrev AZ:="day"
abbrev Aa:="partner"
abbrev Ab:="letter_at"
abbrev Ac:="__name__"
abbrev Ad:="__getattribute__"
abbrev Ae:="range"
abbrev Af:="_law_good"
abbrev Ag:="shut"
abbrev Ah:="Book"
abbrev Ai:="Refused"
abbrev Aj:="bool"
abbrev Ak:="BaseException"
abbrev Al:="links"
abbrev Am:="date"
abbrev An:="_law_one"
abbrev Ao:="int"
abbrev Ap:="str"
abbrev Aq:="_law_kids_of"
abbrev Ar:="open_by_rest"
abbrev As:="_law_done_by"
abbrev At:="dates"
abbrev Au:="void"
abbrev Av:="_law_deeds"
abbrev Aw:="_law_due"
abbrev Ax:="__setattr__"
abbrev Ay:="_law_family"
abbrev Az:="answers"
abbrev B0:="letters"
abbrev B1:="_law_standing_of"
abbrev B2:="answered"
abbrev B3:="_law_list_on"
abbrev B4:="set"
abbrev B5:="check_term"
abbrev B6:="check_days"
abbrev B7:="thread"
abbrev B8:="__classdict__"
abbrev B9:="_law_waits_on"
abbrev BA:="_law_late"
abbrev BB:="_law_goal"
abbrev BC:="waiting_pairs"
abbrev BD:="asked_day"
abbrev BE:="reply_day"
abbrev BF:="_law_with_one"
abbrev BG:="_law_turn"
abbrev BH:="_law_unturned"
abbrev BI:="dict_reverseitemiterator"
abbrev BJ:="copies"
abbrev BK:="out"
abbrev BL:="_law_entered"
abbrev BM:="_law_told_of"
abbrev BN:="_law_hanging"
abbrev BO:="_law_deed_at"
abbrev BP:="_law_book_of"
abbrev BQ:="__next__"
abbrev BR:="standing_states"
abbrev BS:="_law_due_by"
abbrev BT:="_law_term"
abbrev BU:="Exception"
abbrev BV:="way"
abbrev BW:="state"
abbrev BX:="other"
abbrev BY:="person"
abbrev BZ:="closed_days"
abbrev Ba:="reply"
abbrev Bb:="thread_of"
abbrev Bc:="_law_near"
abbrev Bd:="is_answered_by"
abbrev Be:="StopIteration"
abbrev Bf:="_law_dated"
abbrev Bg:="answers_to"
abbrev Bh:="name"
abbrev Bi:="add_letter"
abbrev Bj:="lay_thread"
abbrev Bl:="check_hanging"
abbrev Bm:="deeds"
abbrev Bn:="_law_about"
abbrev Bo:="ann"
abbrev Bp:="_law_story"
abbrev Bq:="_law_alike"
abbrev Br:="_law_whole"
abbrev Bs:="_law_bound"
abbrev Bt:="_law_far"
abbrev Bu:="file"
abbrev Bv:="loose"
abbrev Bw:="_law_pair"
abbrev Bx:="_law_lost"
abbrev By:="_law_hung"
abbrev Bz:="other_way"
abbrev C0:="_law_room"
abbrev C5:="_law_most"
abbrev C6:="type"
abbrev C7:="Letter"
abbrev C8:="has_gone_to"
abbrev C9:="answered_by"
abbrev CA:="ask_letters"
abbrev CC:="ask_waiting"
abbrev CD:="ask_overdue"
abbrev CF:="answer"
abbrev CG:="_law_j"
abbrev CH:="len"
abbrev CI:="place_of"
abbrev CJ:="standing"
abbrev CK:="_law_dates"
abbrev CM:="letters_in"
abbrev CN:="ask_thread"
abbrev CO:="ask_copies"
abbrev CP:="copied"
abbrev CQ:="due_day"
abbrev CS:="asked"
abbrev CT:="_law_at"
abbrev CU:="link"
theorem dk {p:Prop}[Decidable p](h:decide p=true:=by decide +kernel):p:=of_decide_eq_true h
namespace L2
open PySem PySem.Spec PyProof.Rows
inductive Ez2{α0 α1:Type}(P:α0->α1->Prop):Prop|mk(a0 a1)(_:P a0 a1)
inductive Ez3{α0 α1 α2:Type}(P:α0->α1->α2->Prop):Prop|mk(a0 a1 a2)(_:P a0 a1 a2)
inductive Ez4{α0 α1 α2 α3:Type}(P:α0->α1->α2->α3->Prop):Prop|mk(a0 a1 a2 a3)(_:P a0 a1 a2 a3)
inductive Ez7{α0 α1 α2 α3 α4 α5 α6:Type}(P:α0->α1->α2->α3->α4->α5->α6->Prop):Prop|mk(a0 a1 a2 a3 a4 a5 a6)(_:P a0 a1 a2 a3 a4 a5 a6)
abbrev Key:=Sum Int Str
def aWJ:Key->bYS->Bool
 |.inl k,v=>Value.isInt k v
 |.inr x,v=>Value.isStrOf x v
def bYD(w:cQm):Key->Int
 |.inl k=>hashInt k
 |.inr x=>hashStr w x
def zB:∀ {k:Key} {v:bYS},aWJ k v=true->(∃i t,k=Sum.inl i/\v=Value.int i t)\/(∃x t,k=Sum.inr x/\v=Value.str x t)
 |.inl i,v,h=>by obtain⟨t,e⟩:=Value.isInt_shape (k:=i) (v:=v) h;exact .inl ⟨i,t,rfl,e⟩
 |.inr x,v,h=>by obtain⟨t,e⟩:=Value.isStrOf_shape (x:=x) (v:=v) h;exact .inr ⟨x,t,rfl,e⟩
def aYg(i:Int)(t:Tok):aWJ (.inl i) (.int i t)=true:=by simp[aWJ,Value.isInt]
def aYh(x:Str)(t:Tok):aWJ (.inr x) (.str x t)=true:=by simp[aWJ,Value.isStrOf]
def bWJ(a b:Int):decide ((Sum.inl a:Key)=Sum.inl b)=(a==b):=by
 by_cases e:a=b
 ·subst e;simp
 ·have h:¬ (Sum.inl a:Key)=Sum.inl b:=λq=>e (Sum.inl.inj q);rw[decide_eq_false h];exact(beq_eq_false_iff_ne.mpr e).symm
def bWM(a b:Str):decide ((Sum.inr a:Key)=Sum.inr b)=decide (a=b):=by
 by_cases e:a=b
 ·subst e;simp
 ·have h:¬ (Sum.inr a:Key)=Sum.inr b:=λq=>e (Sum.inr.inj q);rw[decide_eq_false h,decide_eq_false e]
def bWK(a:Int)(b:Str):decide ((Sum.inl a:Key)=Sum.inr b)=false:=decide_eq_false (λq=>nomatch q)
def bWL(a:Str)(b:Int):decide ((Sum.inr a:Key)=Sum.inl b)=false:=decide_eq_false (λq=>nomatch q)
def zD(prog:cQe)(w:cQm):PySem.KeyKind prog w Key where
 is:=aWJ
 hash:=bYD w
 inj:=λv a b ha hb=>by
  rcases zB ha with⟨i,t,rfl,rfl⟩|⟨x,t,rfl,rfl⟩
  ·rcases zB hb with⟨j,u,rfl,e⟩|⟨y,u,rfl,e⟩
   ·injection e with e1 _;rw[e1]
   ·exact nomatch e
  ·rcases zB hb with⟨j,u,rfl,e⟩|⟨y,u,rfl,e⟩
   ·exact nomatch e
   ·injection e with e1 _;rw[e1]
 byValue:=λk v h=>by
  rcases zB h with⟨i,t,rfl,rfl⟩|⟨x,t,rfl,rfl⟩<;> rfl
 pyHash:=λhv h=>by
  rcases zB hv with⟨i,t,rfl,rfl⟩|⟨x,t,rfl,rfl⟩
  ·exact wpAny_pyHash_int h
  ·exact wpAny_pyHash_str h
 eqBool:=λhu hv h=>by
  rcases zB hu with⟨i,t,rfl,rfl⟩|⟨x,t,rfl,rfl⟩
  ·rcases zB hv with⟨j,u,rfl,rfl⟩|⟨y,u,rfl,rfl⟩
   ·rw[bWJ]at h;exact wpAny_eqBool_int h
   ·rw[bWK]at h;exact SeqAt.EqAt.int_str i t y u _ _ _ _ h
  ·rcases zB hv with⟨j,u,rfl,rfl⟩|⟨y,u,rfl,rfl⟩
   ·rw[bWL]at h;exact SeqAt.EqAt.str_int x t j u _ _ _ _ h
   ·rw[bWM]at h;exact wpAny_eqBool_str h
 «strs»:=λk x t v h=>by
  rcases zB h with⟨i,u,rfl,e⟩|⟨y,u,rfl,e⟩
  ·exact nomatch e
  ·injection e with e1 _
   subst e1
   cases v<;> rfl
def aJM(prog:cQe)(w:cQm)(i:Int)(t:Tok):(zD prog w).is (.inl i) (.int i t)=true:=aYg i t
def qK(prog:cQe)(w:cQm)(x:Str)(t:Tok):(zD prog w).is (.inr x) (.str x t)=true:=aYh x t
end L2
namespace L2
open PySem PySem.Spec PyProof.Rows
inductive V where
 |non|bl (b:Bool)|int (i:Int)|str (x:Str)|byt (b:Array UInt8)|flt (b:UInt64)|ref (a:Addr)|ty (n:String)
 deriving DecidableEq
def zO:V->bYS->Prop
 |.non,u=>u=Value.none
 |.bl b,u=>u=Value.bool b
 |.int i,u=>∃t,u=Value.int i t
 |.str x,u=>∃t,u=Value.str x t
 |.byt b,u=>∃t,u=Value.bytes b t
 |.flt b,u=>∃t,u=Value.float b t
 |.ref a,u=>u=Value.ref a
 |.ty n,u=>u=Value.type n
abbrev xW:List V->List bYS->Prop:=cQH zO
def xW.length{xs:List V}{us:List bYS}(r:xW xs us):xs.length=us.length:=cXA r
def xW.get:∀ {xs:List V} {us:List bYS} {i:Nat} {x:V},xW xs us->xs[i]? =some x->∃u,us[i]? =some u/\zO x u
 |_,_,_,_,.nil,e=>by simp at e
 |_,_,0,_,.cons r _,e=>by simp at e;subst e;exact⟨_,rfl,r⟩
 |_,_,i+1,x,.cons _ t,e=>by obtain⟨u,h1,h2⟩:=xW.get (i:=i) (x:=x) t (by simpa using e);exact⟨u,by simpa using h1,h2⟩
def xW.set{x:V}{u:bYS}(r:zO x u):∀ {xs:List V} {us:List bYS} (i:Nat),xW xs us->xW (xs.set i x) (us.set i u)
 |_,_,_,.nil=> .nil
 |_,_,0,.cons _ t=> .cons r t
 |_,_,i+1,.cons q t=> .cons q (xW.set r i t)
def xW.append:∀ {xs ys:List V} {us a:List bYS},xW xs us->xW ys a->xW (xs++ys) (us++a)
 |_,_,_,_,.nil,s=>s
 |_,_,_,_,.cons r t,s=> .cons r (xW.append t s)
def xW.take:∀ {xs:List V} {us:List bYS} (n:Nat),xW xs us->xW (xs.take n) (us.take n)
 |_,_,0,_=> .nil
 |_,_,_+1,.nil=> .nil
 |_,_,n+1,.cons r t=> .cons r (xW.take n t)
def xW.drop:∀ {xs:List V} {us:List bYS} (n:Nat),xW xs us->xW (xs.drop n) (us.drop n)
 |_,_,0,r=>r
 |_,_,_+1,.nil=> .nil
 |_,_,n+1,.cons _ t=>xW.drop n t
def aZi:Option V->Option bYS->Prop
 |some v,some u=>zO v u
 |none,none=>True
 |_,_=>False
def KV{κ:Type}:List (κ×V)->List (κ×bYS)->Prop:=cQH λ(p:κ×V)(q:κ×bYS)=>p.1=q.1/\zO p.2 q.2
def kV:Key->V
 |.inl i=> .int i
 |.inr x=> .str x
inductive HO where
 |lst (xs:List V)
 |tup (xs:List V)
 |dK (kvs:List (Key×V))|dT (kvs:List (List Key×V))
 |set (S:Int->Bool) (n:Nat)
 |ins (C dx:Addr) (fs:List (Str×V))
 |own (x:Addr)
 |xd (fs:List (Str×V))
 |met (f x:Addr)
 |rng (lo hi:Int)
 |frz (o:Obj) (u:HO)
 |tbl (ps:Array bYS)
 |ext (φ:Heap->Prop)
abbrev Hp:=Addr->Option HO
def upd(H:Hp)(a:Addr)(o:HO):Hp:=λb=>if b=a then some o else H b
def yB{H:Hp}{a:Addr}{o:HO}:upd H a o a=some o:=by unfold upd;rw[if_pos rfl]
def yI{H:Hp}{a b:Addr}{o:HO}(h:b≠a):upd H a o b=H b:=by unfold upd;rw[if_neg h]
def jE{H:Hp}{a:Addr}{o u:HO}:upd (upd H a o) a u=upd H a u:=by
 funext b;unfold upd;split<;> rfl
def aXd{H:Hp}{a b:Addr}{o u:HO}(h:H a=some o)(h':H b=some u)(d:o≠u):a≠b:=by
 intro e;subst e;rw[h]at h';exact d (cQd h')
def yJ{H:Hp}{a b:Addr}{o:HO}(h:H a=some o)(h':H b=none):a≠b:=by
 intro e;subst e;rw[h]at h';cases h'
section
variable (P:cQe)(w:cQm)
def zH(H:Hp)(h:Heap)(a:Addr):HO->Prop
 |.lst xs=>xs.length<=cQk/\∃ (b:List bYS)(n:Nat),xW xs b/\h.get? a=some {cls:= .type AB,data:= .seq b.toArray n}
 |.tup xs=>xs.length<=cQk/\∃b:List bYS,xW xs b/\cZQ h a b.toArray
 |.dK c=>c.length<=cQk/\(a==cZL)=false/\∃d,KV c d/\h.DictOf (zD P w) a d
 |.dT c=>c.length<=cQk/\(a==cZL)=false/\∃xs:List (List Key×Addr×bYS),
   cQH (λ(p:List Key×V)(q:List Key×Addr×bYS)=>p.1=q.1/\H q.2.1=some (.tup (p.1.map kV))/\zO p.2 q.2.2) c xs/\
   ∃o es e,h.get? a=some o/\o.ExactDict/\o.data= .dict es e/\es.toList=xs.map (entryOfKey (tupleKind (zD P w)))/\(xs.map (·.1)).Nodup
 |.set S n=>h.SetOf (intKind P w) a S n
 |.ins C dx fs=>H dx=some (.own a)/\fs.length<=1000/\dx≠a/\h.get? a=some (cX6 C dx)/\
   ∃mA,h.Ns1 dx mA/\(∀f,aZi (fs.lookup f) (mA f))/\PySem.Within mA (fs.map (·.1))
 |.own _=>∃o,h.get? a=some o
 |.xd fs=>∃mA,h.Ns1 a mA/\∀f,aZi (fs.lookup f) (mA f)
 |.rng lo hi=>∃t u v,h.get? a=some {cls:= .type Ae,data:= .fields #[.int lo t,.int hi u,.int 1 v] }
 |.frz o u=>h.get? a=some o/\zH H h a u
 |.tbl ps=>h.get? a=some {cls:= .none,data:= .fields ps}
 |.met f x=>h.get? a=some (cJ8 (.ref f) (.ref x))
 |.ext φ=>φ h/\(∃o,h.get? a=some o)/\∀h1 h2:Heap,φ h1->(∀o,h1.get? a=some o->h2.get? a=some o)->φ h2
def HOk(H:Hp)(h:Heap):Prop:=∀a o,H a=some o->zH P w H h a o
end
section
variable {P:cQe}{w:cQm}{H H':Hp}{h h':Heap}{a:Addr}{o:HO}
def zH.lt(x:zH P w H h a o):a<h.objs.size:=by
 cases o with
 |lst xs=>obtain⟨_,_,_,_,e⟩:=x;exact bY6 e
 |tup xs=>obtain⟨_,_,_,p⟩:=x;exact p.lt
 |dK b=>obtain⟨_,_,_,_,o,_,_,e,_⟩:=x;exact bY6 e
 |dT b=>obtain⟨_,_,_,_,o,_,_,e,_⟩:=x;exact bY6 e
 |set S n=>obtain⟨o,_,_,_,e,_⟩:=x;exact bY6 e
 |ins C dx fs=>obtain⟨_,_,_,e,_⟩:=x;exact bY6 e
 |own y=>obtain⟨_,e⟩:=x;exact bY6 e
 |xd fs=>obtain⟨_,⟨_,_,_,e,_⟩,_⟩:=x;exact bY6 e
 |rng lo hi=>obtain⟨_,_,_,e⟩:=x;exact bY6 e
 |frz c u=>obtain⟨e,_⟩:=x;exact bY6 e
 |tbl ps=>exact bY6 (show h.get? a=some _ from x)
 |met f y=>exact bY6 (show h.get? a=some _ from x)
 |ext φ=>obtain⟨_,⟨_,e⟩,_⟩:=x;exact bY6 e
def Paired.mapP{α β:Type}{F G:α->β->Prop}:∀ {d:List α} {c:List β},cQH F d c->(∀a b,F a b->G a b)->cQH G d c
 |_,_,.nil,_=> .nil
 |_,_,.cons r t,f=> .cons (f _ _ r) (Paired.mapP t f)
def zH.stay(x:zH P w H h a o)(k:∀b u,(b=a\/H b=some (.own a))->h.get? b=some u->h'.get? b=some u) (A:∀b,H b=some (.own a)->H' b=some (.own a)) (E:∀b xs,H b=some (.tup xs)->H' b=some (.tup xs)):zH P w H' h' a o:=by
 induction o with
 |lst xs=>obtain⟨z,j,n,r,e⟩:=x;exact⟨z,j,n,r,k _ _ (.inl rfl) e⟩
 |tup xs=>obtain⟨z,j,r,g,e,c⟩:=x;exact⟨z,j,r,g,k _ _ (.inl rfl) e,c⟩
 |dK l=>obtain⟨z,y,B,r,g,es,i,e,c⟩:=x;exact⟨z,y,B,r,g,es,i,k _ _ (.inl rfl) e,c⟩
 |dT l=>obtain⟨z,y,xs,r,g,es,i,e,c⟩:=x;exact⟨z,y,xs,Paired.mapP r λp q z=>⟨z.1,E _ _ z.2.1,z.2.2⟩,g,es,i,k _ _ (.inl rfl) e,c⟩
 |set S n=>obtain⟨g,es,i,t,e,c⟩:=x;exact⟨g,es,i,t,k _ _ (.inl rfl) e,c⟩
 |ins C dx fs=>obtain⟨d,z,ne,e,mA,⟨m,es,i,s,c⟩,r⟩:=x;exact⟨A _ d,z,ne,k _ _ (.inl rfl) e,mA,⟨m,es,i,k _ _ (.inr d) s,c⟩,r⟩
 |own y=>obtain⟨g,e⟩:=x;exact⟨g,k _ _ (.inl rfl) e⟩
 |xd fs=>obtain⟨mA,⟨m,es,i,e,c⟩,r⟩:=x;exact⟨mA,⟨m,es,i,k _ _ (.inl rfl) e,c⟩,r⟩
 |rng lo hi=>obtain⟨t,u,v,e⟩:=x;exact⟨t,u,v,k _ _ (.inl rfl) e⟩
 |frz g u D=>obtain⟨e,q⟩:=x;exact⟨k _ _ (.inl rfl) e,D q⟩
 |tbl ps=>have e:h.get? a=some {cls:= .none,data:= .fields ps}:=x;show h'.get? a=some {cls:= .none,data:= .fields ps};exact k a _ (.inl rfl) e
 |met f y=>have e:h.get? a=some (cJ8 (.ref f) (.ref y)):=x;show h'.get? a=some (cJ8 (.ref f) (.ref y));exact k a _ (.inl rfl) e
 |ext φ=>obtain⟨p,⟨o,e⟩,st⟩:=x;exact⟨st _ _ p λo q=>k _ _ (.inl rfl) q,⟨o,k _ _ (.inl rfl) e⟩,st⟩
def HOk.lt(x:HOk P w H h)(e:H a=some o):a<h.objs.size:=(x a o e).lt
def HOk.fresh(x:HOk P w H h)(e:h.objs.size<=a):H a=none:=by
 cases q:H a with
 |none=>rfl
 |some u=>exact absurd (cQl (x.lt q) e) (cQ4 _)
def HOk.kept(x:HOk P w H h)(k:∀b u,h.get? b=some u->h'.get? b=some u):HOk P w H h':=λa o e=>
 (x a o e).stay (λb u _ q=>k b u q) (λ_ q=>q) λ_ _ q=>q
def HOk.laid(x:HOk P w H h)(k:∀b u,h.get? b=some u->h'.get? b=some u)(i:h.objs.size<=a)(d:zH P w (upd H a o) h' a o):HOk P w (upd H a o) h':=λb u e=>by
 have f:=x.fresh i;by_cases g:b=a
 ·subst g;rw[yB]at e;cases e;exact d
 ·rw[yI g]at e;exact(x b u e).stay (λc v _ q=>k c v q) (λc q=>by rw[yI (yJ q f)];exact q) λc xs q=>by rw[yI (yJ q f)];exact q
end
def Rd(H:Hp)(a:Addr)(u:HO):Prop:=H a=some u\/∃o,H a=some (.frz o u)
def Rd.ok{P:cQe}{w:cQm}{H:Hp}{h:Heap}{a:Addr}{u:HO}(r:Rd H a u)(x:HOk P w H h):zH P w H h a u:=by
 rcases r with r|⟨o,r⟩
 ·exact x a u r
 ·obtain⟨_,q⟩:=x a _ r;exact q
def Mut:Option HO->Prop
 |some (.lst _)=>True
 |some (.dK _)=>True
 |some (.dT _)=>True
 |some (.set _ _)=>True
 |some (.ins _ _ _)=>True
 |some (.ext _)=>True
 |_=>False
section
variable {P:cQe}{w:cQm}{H:Hp}{h h':Heap}{x e:Addr}{o':HO}
def HOk.write(ok:HOk P w H h)(g:Mut (H x))(n:e=x\/H e=some (.own x))(k:∀b u,b≠e->h.get? b=some u->h'.get? b=some u)(m:∃u,h'.get? e=some u)
  (l:zH P w (upd H x o') h' x o'):HOk P w (upd H x o') h':=λb u q=>by
 have d:∀c y,H c=some (.own y)->c≠x:=λc y r z=>by subst z;rw[r]at g;exact g
 have f:∀c xs,H c=some (.tup xs)->c≠x:=λc xs r z=>by subst z;rw[r]at g;exact g
 by_cases i:b=x
 ·subst i;rw[yB]at q;cases q;exact l
 ·rw[yI i]at q;by_cases a:b=e
  ·have o:H b=some (.own x):=by
    rcases n with z|z
    ·exact absurd (a.trans z) i
    ·rw[a];exact z
   rw[q]at o;cases o;obtain⟨v,p⟩:=m;exact⟨v,by rw[a];exact p⟩
  ·refine(ok b u q).stay (λc v j r=>k c v ?_ r) (λc r=>by rw[yI (d c b r)];exact r) λc xs r=>by rw[yI (f c xs r)];exact r
   rcases j with rfl|j
   ·exact a
   ·rintro rfl;rcases n with z|z
    ·exact d c b j z
    ·rw[j]at z;cases z;exact i rfl
end
structure Un(fs ex:List Addr)(H H':Hp)(h h':Heap):Prop where
 keep:∀b o,h.get? b=some o->H b=none->b∉fs->b∉ex->h'.get? b=some o
 slot:∀b o,h.get? b=some o->H b=none->b∈fs->b∉ex->∃sl,h'.get? b=some {o with slots:=sl}
 free:∀b o,h.get? b=some o->H b=none->b∉ex->H' b=none
 there:∀b o,h.get? b=some o->b∉ex->∃o',h'.get? b=some o'
 tups:∀b xs,H b=some (.tup xs)->H' b=some (.tup xs)
 frzs:∀b o u,H b=some (.frz o u)->H' b=some (.frz o u)
 tbls:∀b ps,H b=some (.tbl ps)->∃more,H' b=some (.tbl (ps++more))
section
variable {fs fs' ex ex':List Addr}{H H1 H2:Hp}{h h1 h2 h':Heap}{a x e:Addr}{o:HO}
def Un.any(u:Un fs ex H H1 h h1){b:Addr}{a:Obj}(q:h.get? b=some a)(n:H b=none)(d:b∉ex):∃e,h1.get? b=some {a with slots:=e}:=by
 by_cases c:b∈fs
 ·exact u.slot b a q n c d
 ·exact⟨a.slots,u.keep b a q n c d⟩
def Un.kept(k:∀b u,h.get? b=some u->h'.get? b=some u):Un fs ex H H h h':=
 ⟨λb a q _ _ _=>k b a q,λb a q _ _ _=>⟨a.slots,k b a q⟩,λ_ _ _ n _=>n,λb a q _=>⟨a,k b a q⟩,λ_ _ q=>q,λ_ _ _ q=>q,λ_ ps q=>⟨#[],by rw[q];simp⟩⟩
def Un.refl:Un fs ex H H h h:=Un.kept λ_ _ q=>q
def Un.laid(k:∀b u,h.get? b=some u->h'.get? b=some u)(hp:h.objs.size<=a)(hn:H a=none):Un fs ex H (upd H a o) h h' where
 keep:=λb u q _ _ _=>k b u q
 slot:=λb u q _ _ _=>⟨u.slots,k b u q⟩
 free:=λb u q n _=>by rw[yI (cQj (cQl (bY6 q) hp))];exact n
 there:=λb u q _=>⟨u,k b u q⟩
 tups:=λb xs q=>by rw[yI (yJ q hn)];exact q
 frzs:=λb u xs q=>by rw[yI (yJ q hn)];exact q
 tbls:=λb ps q=>⟨#[],by rw[yI (yJ q hn),q];simp⟩
def Un.write(c:Mut (H x))(j:e=x\/H e=some (.own x))(k:∀b u,b≠e->h.get? b=some u->h'.get? b=some u)(f:∃u,h'.get? e=some u):Un fs ex H (upd H x o) h h':=by
 have i:∀b,H b=none->b≠x:=λb n z=>by subst z;rw[n]at c;exact c
 have g:∀b,H b=none->b≠e:=λb n z=>by
  subst z;rcases j with r|r
  ·exact i b n r
  ·rw[n]at r;cases r
 have d:∀b u,H b=some u->¬Mut (some u)->b≠x:=λb u q nm z=>by subst z;rw[q]at c;exact nm c
 refine⟨λb u q n _ _=>k b u (g b n) q,λb u q n _ _=>⟨u.slots,k b u (g b n) q⟩,λb u q n _=>by rw[yI (i b n)];exact n,λb u q _=>?_,
  λb xs q=>by rw[yI (d b _ q λz=>z)];exact q,λb u xs q=>by rw[yI (d b _ q λz=>z)];exact q,λb ps q=>⟨#[],by rw[yI (d b _ q λz=>z),q];simp⟩⟩
 by_cases a:b=e
 ·subst a;exact f
 ·exact⟨u,k b u a q⟩
end
def trk(h:Heap)(H:Hp):List Addr:=(bY5 h.objs.size).filter λa=>(H a).isSome
def aYa(h:Heap)(H:Hp):Heap:=PySem.W.hideAll h (trk h H)
def aYb(h:Heap)(H:Hp):(aYa h H).objs.size=h.objs.size:=PySem.W.hideAll_size _ _
def bXp{h:Heap}{H:Hp}{b:Addr}{o:Obj}(e:h.get? b=some o)(n:H b=none):(aYa h H).get? b=some o:=
 PySem.W.hideAll_get _ e λa=>by have q:(H b).isSome=true:=(cQ0.mp a).2;rw[n]at q;simp at q
def bJ9{h:Heap}{H:Hp}{b:Addr}{o:Obj}(e:(aYa h H).get? b=some o):h.get? b=some o/\H b=none:=by
 have a:h.get? b=some o:=PySem.W.of_hideAll (trk h H) e;refine⟨a,?_⟩;cases q:H b with
 |none=>rfl
 |some x=>have c:b∈trk h H:=cQ0.mpr ⟨cQu.mpr (bY6 a),by simp[q]⟩;have z:(aYa h H).get? b=none:=PySem.W.hideAll_none (trk h H) c;rw[z]at e;cases e
def bJI(g h:Heap)(L:Addr):List (Addr×Obj):=(bY5 h.objs.size).filterMap λa=>if a=L\/(g.get? a).isSome=true then none else(h.get? a).map λo=>(a,o)
def jY(g h:Heap)(L d:Addr):List (Addr×Obj):=(bJI g h L).filter λp=>decide (p.1≠d)
end L2
namespace L2
open PySem PySem.Spec PyProof.Rows
structure Mod(K:bYT)(mg:Str->Option bYS)(base:Heap):Prop where
 kin:K.In base
 glob:base.Ns cQq mg
 blt:∃mb,base.Ns builtinsNs mb/\∀x:Str,x≠Ac->mb x=cQD x
 nolimit:base.NoLimit
structure Cx where
 prog:cQe
 w:cQm
 K:bYT
 mg:Str->Option bYS
 base:Heap
 A:cQA
 N:List Str
 s₀:bYV
 H₀:Hp
 env:Env
 outer:List Env
 stack:List Env
 ex:List Addr
 fn:Str->Bool
 calm:Bool
 pn:List (Addr×Obj)
 xe:bYS->bYV->Prop
def frs(l:List Env):List Addr:=l.filterMap (·.frame)
abbrev Cx.fs(X:Cx):List Addr:=frs X.outer
def Vis(a:cX8)(x:Str):Prop:=a.names.lookup x=some .local\/a.names.lookup x=some .cell\/a.names.lookup x=some .free
def Loc(a:cX8)(x:Str):Prop:=a.names.lookup x=some .local\/a.names.lookup x=some .cell
def bYx(env:Env)(h:Heap)(m:Str->Option bYS)(x:Str)(u:bYS):Prop:=
 (env.kindOf x=some .local/\m x=some u)\/((env.kindOf x=some .cell\/env.kindOf x=some .free)/\∃c,env.cells.lookup x=some c/\h.IsCell c (some u))
structure Cx.Ok(X:Cx):Prop where
 mod:Mod X.K X.mg X.base
 kind:X.env.scope.kind= .function
 glob:X.env.globals=cQq
 blt:X.env.builtins=builtinsNs
 above:X.s₀.heap.objs.size<=X.env.locals
 inj:∀x y c,X.env.cells.lookup x=some c->X.env.cells.lookup y=some c->x=y
 has:∀x,(X.env.kindOf x=some .cell\/X.env.kindOf x=some .free)->∃c,X.env.cells.lookup x=some c
 cab:∀x c,X.fn x=true->X.env.cells.lookup x=some c->X.s₀.heap.objs.size<=c
 hd:X.calm=true->X.A.handled=none
 frames:X.A.frames=some X.stack
 stk:X.stack=X.outer\/(X.stack=X.env::X.outer/\X.env.frame=some X.env.locals)
 exf:∀b∈X.ex,b≠X.env.locals/\∀x c,X.env.cells.lookup x=some c->c≠b
 bs:∀b o,X.base.get? b=some o->X.s₀.heap.get? b=some o/\X.H₀ b=none
 bsz:X.base.objs.size<=X.s₀.heap.objs.size
 noex:∀b o,X.base.get? b=some o->b∉X.ex
 exfs:∀b∈X.ex,b∉X.fs
 funs:X.s₀.heap.FunFrames X.base X.outer
 frf:∀b∈X.fs,X.H₀ b=none
structure Inv(X:Cx)(pins:List (Addr×Obj))(σ:List (Option V))(H:Hp)(s:bYV):Prop where
 ok:X.Ok
 os:s.os=X.s₀.os
 bare:AllBare s.gens
 base:Un X.fs X.ex X.H₀ H X.s₀.heap s.heap
 loc:∃m,s.heap.Ns X.env.locals m/\∀ (i:Nat)(x:Str)(v:V),X.N[i]? =some x->σ[i]? =some (some v)->Vis X.env.scope x->∃u,zO v u/\bYx X.env s.heap m x u
 cell:∀x c,X.env.cells.lookup x=some c->∃v,s.heap.IsCell c v
 free:H X.env.locals=none
 freeC:∀x c,X.env.cells.lookup x=some c->H c=none
 pin:∀p∈X.pn++pins,s.heap.get? p.1=some p.2/\H p.1=none/\p.1≠X.env.locals/\p.1∉X.fs/\∀v,p.2.data≠ .cell v
 hok:HOk X.prog X.w H s.heap
 len:σ.length=X.N.length
section
variable {X:Cx}{pins:List (Addr×Obj)}{σ:List (Option V)}{H H':Hp}{s:bYV}{h':Heap}
def Cx.Ok.nofr(ok:X.Ok){b:Addr}{o:Obj}(e:X.base.get? b=some o):b∉X.fs:=λa=>by
 have:=(ok.funs.mem a).1;rw[e]at this;cases this
def Inv.bs(I:Inv X pins σ H s):∀b o,X.base.get? b=some o->s.heap.get? b=some o/\H b=none:=λb o e=>
 ⟨I.base.keep b o (I.ok.bs b o e).1 (I.ok.bs b o e).2 (I.ok.nofr e) (I.ok.noex b o e),I.base.free b o (I.ok.bs b o e).1 (I.ok.bs b o e).2 (I.ok.noex b o e)⟩
def Inv.bk(I:Inv X pins σ H s):∀b o,X.base.get? b=some o->s.heap.get? b=some o:=λb o e=>(I.bs b o e).1
def Inv.mod(I:Inv X pins σ H s):Mod X.K X.mg X.base:=I.ok.mod
def Inv.kIn(I:Inv X pins σ H s):X.K.In s.heap:=I.ok.mod.kin.keeps I.bk
def Inv.nolimit(I:Inv X pins σ H s):s.heap.NoLimit:=I.ok.mod.nolimit.keeps I.bk
def Inv.lt(I:Inv X pins σ H s):X.env.locals<s.heap.objs.size:=let ⟨_,hn,_⟩:=I.loc;hn.lt
def Inv.sz(I:Inv X pins σ H s):X.s₀.heap.objs.size<=s.heap.objs.size:=cQv I.ok.above (cZv I.lt)
def Inv.nofs(I:Inv X pins σ H s){a:Addr}(h:s.heap.objs.size<=a):a∉X.fs:=λb=>by
 obtain⟨_,o,c,_⟩:=I.ok.funs.mem b;exact absurd (cQl (bY6 c) (cQv I.sz h)) (cQ4 _)
def Inv.cne(I:Inv X pins σ H s):∀x c,X.env.cells.lookup x=some c->c≠X.env.locals:=λx c e z=>by
 obtain⟨v,o,f,d⟩:=I.cell x c e;obtain⟨m,⟨o',es,g,a,b,_⟩,_⟩:=I.loc;rw[z,a]at f;cases f;rw[b]at d;cases d
def Inv.funs(I:Inv X pins σ H s):s.heap.FunFrames X.base X.outer:=by
 have all:∀ (l:List Env),(∀b∈frs l,b∈X.fs)->X.s₀.heap.FunFrames X.base l->s.heap.FunFrames X.base l:=by
  intro l;induction l with
  |nil=>intro _ _;trivial
  |cons env r k=>intro f hl;obtain⟨g,⟨L,o,d,j,i,h⟩,m⟩:=hl;have a:L∈X.fs:=f L (by unfold frs;rw[cZC,d];exact bY7);obtain⟨n,e⟩:=I.base.slot L o i (I.ok.frf L a) a λz=>I.ok.exfs L z a;exact⟨g,⟨L,_,d,j,e,h⟩,k (λb c=>f b (by unfold frs;rw[cZC,d];exact bY4 _ c)) m⟩
 exact all X.outer (λ_ c=>c) I.ok.funs
def Inv.stack(I:Inv X pins σ H s):s.heap.FunFrames X.base X.stack:=by
 rcases I.ok.stk with e|⟨e,b⟩
 ·rw[e];exact I.funs
 ·rw[e];obtain⟨m,a,_⟩:=I.loc;refine .cons (by rw[I.ok.kind];decide) b a ?_ I.funs;exact Heap.get?_none_of_le (cQv I.ok.bsz I.ok.above)
def Inv.stkSub(I:Inv X pins σ H s):∀b∈frs X.stack,b∈X.env.locals::X.fs:=λb a=>by
 rcases I.ok.stk with e|⟨e,c⟩
 ·rw[e]at a;exact bY4 _ a
 ·rw[e]at a;unfold frs at a;rw[cZC,c]at a;exact a
def Inv.stkFree(I:Inv X pins σ H s):∀b∈frs X.stack,H b=none:=λb a=>by
 rcases bY1.mp (I.stkSub b a)with e|a
 ·rw[e];exact I.free
 ·obtain⟨_,o,c,_⟩:=I.ok.funs.mem a;exact I.base.free b o c (I.ok.frf b a) λz=>I.ok.exfs b z a
def Inv.step{g':Array GenState}{t':Nat}{d':Drawn}{ch:List Addr}(I:Inv X pins σ H s) (j:∀b∈ch,(b∈X.ex\/X.s₀.heap.objs.size<=b)/\b≠X.env.locals/\(∀x c,X.env.cells.lookup x=some c->c≠b)/\∀p∈X.pn++pins,p.1≠b) (keep:∀b o,b≠X.env.locals->b∉X.fs->b∉ch->s.heap.get? b=some o->H b=none->h'.get? b=some o) (A:∀b o,b≠X.env.locals->b∈X.fs->b∉ch->s.heap.get? b=some o->H b=none->∃K,h'.get? b=some {o with slots:=K}) (f:∀b o,b∉ch->s.heap.get? b=some o->H b=none->H' b=none) (there:∀b o,b∉ch->s.heap.get? b=some o->∃o',h'.get? b=some o') (J:∀b xs,H b=some (.tup xs)->H' b=some (.tup xs)) (G:∀b o u,H b=some (.frz o u)->H' b=some (.frz o u)) (F:∀b ps,H b=some (.tbl ps)->∃more,H' b=some (.tbl (ps++more))) (W:∀m,s.heap.Ns X.env.locals m->h'.Ns X.env.locals m) (M:HOk X.prog X.w H' h') (U:AllBare g'): Inv X pins σ H' {s with heap:=h',gens:=g',drawn:=d',toks:=t'}:=by
 have E:∀b o,X.s₀.heap.get? b=some o->b≠X.env.locals:=λb o e=>cQj (cQl (bY6 e) I.ok.above);have y:∀b o,X.s₀.heap.get? b=some o->b∉X.ex->b∉ch:=λb o e a B=>by
  rcases(j b B).1 with z|z
  ·exact a z
  ·exact absurd (cQl (bY6 e) z) (cQ4 _)
 have h:∀x c,X.env.cells.lookup x=some c->∀v,s.heap.IsCell c v->h'.IsCell c v:=λx c e v ⟨o,C,L⟩=>by
  have g:c∉ch:=λz=>(j c z).2.2.1 x c e rfl;by_cases Q:c∈X.fs
  ·obtain⟨K,q⟩:=A c o (I.cne x c e) Q g C (I.freeC x c e);exact⟨_,q,L⟩
  ·exact⟨o,keep c o (I.cne x c e) Q g C (I.freeC x c e),L⟩
 refine⟨I.ok,I.os,U,⟨λb o e n B a=>?_,λb o e n B a=>?_,λb o e n a=>?_,λb o e a=>?_,λb xs e=>J b xs (I.base.tups b xs e),λb o xs e=>G b o xs (I.base.frzs b o xs e),λb ps e=>?_⟩,?_,λx c e=>?_,?_,λx c e=>?_,λp O=>?_,M,I.len⟩
 ·exact keep b o (E b o e) B (y b o e a) (I.base.keep b o e n B a) (I.base.free b o e n a)
 ·obtain⟨K,t⟩:=I.base.slot b o e n B a;obtain⟨N,D⟩:=A b _ (E b o e) B (y b o e a) t (I.base.free b o e n a);exact⟨N,D⟩
 ·obtain⟨o',t⟩:=I.base.there b o e a;exact f b o' (y b o e a) t (I.base.free b o e n a)
 ·obtain⟨o',t⟩:=I.base.there b o e a;exact there b o' (y b o e a) t
 ·obtain⟨R,t⟩:=I.base.tbls b ps e;obtain⟨V,D⟩:=F b _ t;exact⟨R++V,by rw[D,Array.append_assoc]⟩
 ·obtain⟨m,T,hl⟩:=I.loc;refine⟨m,W m T,λi x v t D S=>?_⟩;obtain⟨u,r,l⟩:=hl i x v t D S;refine⟨u,r,?_⟩;rcases l with l|⟨k,c,e,z⟩
  ·exact .inl l
  ·exact .inr ⟨k,c,e,h x c e _ z⟩
 ·obtain⟨v,z⟩:=I.cell x c e;exact⟨v,h x c e v z⟩
 ·obtain⟨m,⟨o,_,_,C,_⟩,_⟩:=I.loc;exact f _ o (λz=>(j _ z).2.1 rfl) C I.free
 ·obtain⟨v,o,C,L⟩:=I.cell x c e;exact f c o (λz=>(j c z).2.2.1 x c e rfl) C (I.freeC x c e)
 ·obtain⟨e,n,ne,P,d⟩:=I.pin p O;have g:p.1∉ch:=λz=>(j p.1 z).2.2.2 p O rfl;exact⟨keep p.1 p.2 ne P g e n,f p.1 p.2 g e n,ne,P,d⟩
def Inv.un{t':Nat}(I:Inv X pins σ H s)(u:Un X.fs [] H H' s.heap h')(d:HOk X.prog X.w H' h'):Inv X pins σ H' {s with heap:=h',toks:=t'}:=by
 obtain⟨m,⟨o,es,p,h,r⟩,_⟩:=id I.loc;obtain⟨l,j⟩:=u.any h I.free (by simp);exact I.step (g':=s.gens) (d':=s.drawn) (ch:= []) (λ_ z=>nomatch z) (λb o _ f _ e n=>u.keep b o e n f (by simp)) (λb o _ f _ e n=>u.slot b o e n f (by simp)) (λb o _ e n=>u.free b o e n (by simp)) (λb o _ e=>u.there b o e (by simp)) u.tups u.frzs u.tbls (λq i=>by
  obtain⟨o',c,g,a,k⟩:=i;rw[h]at a;cases a;exact⟨_,c,g,j,k⟩) d I.bare
def Inv.call{g':Array GenState}{t':Nat}{d':Drawn}{ch:List Addr}(I:Inv X pins σ H s)(u:Un (frs X.stack) ch H H' s.heap h')(h:HOk X.prog X.w H' h')(q:AllBare g') (f:∀b∈ch,(b∈X.ex\/X.s₀.heap.objs.size<=b)/\b≠X.env.locals/\(∀x c,X.env.cells.lookup x=some c->c≠b)/\∀p∈X.pn++pins,p.1≠b): Inv X pins σ H' {s with heap:=h',gens:=g',drawn:=d',toks:=t'}:=by
 obtain⟨m,⟨o,es,A,k,r⟩,_⟩:=id I.loc;obtain⟨y,i⟩:=u.any k I.free λz=>(f _ z).2.1 rfl;exact I.step (ch:=ch) f (λb o i t a e n=>u.keep b o e n (λz=>(bY1.mp (I.stkSub b z)).elim i t) a) (λb o _ _ a e n=>u.any e n a) (λb o a e n=>u.free b o e n a) (λb o a e=>u.there b o e a) u.tups u.frzs u.tbls (λB l=>by
  obtain⟨o',g,j,d,v⟩:=l;rw[k]at d;cases d;exact⟨_,g,j,i,v⟩) h q
def Inv.turned{t':Nat}{it:Addr}(I:Inv X pins σ H s)(k:∀b o,b≠it->s.heap.get? b=some o->h'.get? b=some o)(i:H it=none)(f:it≠X.env.locals) (h1:it∈X.ex\/X.s₀.heap.objs.size<=it) (h2:∀x c,X.env.cells.lookup x=some c->c≠it) (l:∀p∈X.pn++pins,p.1≠it):Inv X pins σ H {s with heap:=h',toks:=t'}:=by
 have d:∀b u,H b=some u->b≠it:=λb u e z=>by rw[z,i]at e;cases e
 refine I.step (g':=s.gens) (d':=s.drawn) (ch:= [it]) (λb t=>?_) (λb o _ _ a e _=>k b o (λz=>a (by simp[z])) e) (λb o _ _ a e _=>⟨o.slots,k b o (λz=>a (by simp[z])) e⟩) (λ_ _ _ _ n=>n)
  (λb o a e=>⟨o,k b o (λz=>a (by simp[z])) e⟩) (λ_ _ e=>e) (λ_ _ _ e=>e) (λb ps e=>⟨#[],by rw[e];simp⟩) (λm g=>?_) (λb u e=>?_) I.bare
 ·have e:b=it:=by simpa using t
  subst e;exact⟨h1,f,h2,l⟩
 ·obtain⟨o,es,j,h,r⟩:=g;exact⟨o,es,j,k _ o (cQB f) h,r⟩
 ·refine(I.hok b u e).stay (λc v a q=>k c v ?_ q) (λ_ q=>q) λ_ _ q=>q;rcases a with z|z
  ·rw[z];exact d b u e
  ·exact d c _ z
def Inv.tok(I:Inv X pins σ H s)(t:Nat):Inv X pins σ H {s with toks:=t}:=I.un (h':=s.heap) (t':=t) Un.refl I.hok
def Inv.kept{t':Nat}(I:Inv X pins σ H s)(k:∀b u,s.heap.get? b=some u->h'.get? b=some u):Inv X pins σ H {s with heap:=h',toks:=t'}:=I.un (Un.kept k) (I.hok.kept k)
def Inv.laid{a:Addr}{o:HO}{t':Nat}(I:Inv X pins σ H s)(k:∀b u,s.heap.get? b=some u->h'.get? b=some u)(d:s.heap.objs.size<=a)(c:zH X.prog X.w (upd H a o) h' a o):
  Inv X pins σ (upd H a o) {s with heap:=h',toks:=t'}:=I.un (Un.laid k d (I.hok.fresh d)) (I.hok.laid k d c)
def Inv.write{x e:Addr}{o:HO}{t':Nat}(I:Inv X pins σ H s)(d:Mut (H x))(f:e=x\/H e=some (.own x))(k:∀b u,b≠e->s.heap.get? b=some u->h'.get? b=some u)(a:∃u,h'.get? e=some u)
  (c:zH X.prog X.w (upd H x o) h' x o):Inv X pins σ (upd H x o) {s with heap:=h',toks:=t'}:=I.un (Un.write d f k a) (I.hok.write d f k a c)
def Inv.pins_of{a:List (Addr×Obj)}(I:Inv X pins σ H s)(h:∀p∈a,s.heap.get? p.1=some p.2/\H p.1=none/\p.1≠X.env.locals/\p.1∉X.fs/\∀v,p.2.data≠ .cell v):Inv X a σ H s:=
 ⟨I.ok,I.os,I.bare,I.base,I.loc,I.cell,I.free,I.freeC,λp b=>(cQw.mp b).elim (λz=>I.pin p (cXP _ z)) (h p),I.hok,I.len⟩
def aVN{N:List Str}(d:N.Nodup){i j:Nat}{x:Str}(a:N[i]? =some x)(b:N[j]? =some x):i=j:=by
 obtain⟨h1,e⟩:=bY3.mp a;obtain⟨h2,c⟩:=bY3.mp b;exact(cXH d).mp (e.trans c.symm)
def aQ4{M:Model}{A:cQA}{E:bYS->bYV->Prop}{i:Nat}{x:Str}{v:V}{u:bYS}{Q:Unit->bYV->Prop}(I:Inv X pins σ H s)(hN:X.N.Nodup)(hi:X.N[i]? =some x)(B:Loc X.env.scope x)(r:zO v u) (h:∀s',Inv X pins (σ.set i (some v)) H s'->(∃a,cXW a s.heap s'.heap/\(a=X.env.locals\/X.env.cells.lookup x=some a))->Q () s') (hf:X.fn x=true\/X.env.scope.names.lookup x=some .local:=by first|exact .inl rfl|exact .inr rfl|assumption):bY0 M A (storeName X.env x u) Q E s:=by
 obtain⟨m,hn,hl⟩:=id I.loc;have R:(X.env.scope.kind== .class || (X.env.scope.kind== .module && X.env.locals !=X.env.globals))=false:=by rw[I.ok.kind];rfl
 have hiσ:i<σ.length:=by rw[I.len];exact(bY3.mp hi).1
 have cne:=I.cne;have g:∀ {a:Addr} {h':Heap},(∃o,s.heap.get? a=some o/\H a=none)->cXW a s.heap h'->HOk X.prog X.w H h':=λ{a h'} ha f b ob e=>by
  obtain⟨_,_,C⟩:=ha;refine(I.hok b ob e).stay (λc T t q=>(f.2 c ?_).trans q) (λ_ q=>q) λ_ _ q=>q;rintro rfl;rcases t with rfl|t
  ·rw[C]at e;cases e
  ·rw[C]at t;cases t
 rcases B with F|F
 ·refine wpAny_storeName_local F hn (λh' W f=>?_) R;obtain⟨oL,_,_,a0,_⟩:=id hn;refine h _ ⟨I.ok,I.os,I.bare,⟨λb o e n K B=>?_,λb o e n K B=>?_,I.base.free,λb o e B=>?_,I.base.tups,I.base.frzs,I.base.tbls⟩,⟨_,W,λj y v' l D e3=>?_⟩,λy c e=>?_,I.free,I.freeC,λp Z=>?_,g ⟨oL,a0,I.free⟩ f,by simpa using I.len⟩ ⟨_,f,.inl rfl⟩
  ·exact(f.2 b (cQj (cQl (bY6 e) I.ok.above))).trans (I.base.keep b o e n K B)
  ·obtain⟨Y,l⟩:=I.base.slot b o e n K B;exact⟨Y,(f.2 b (cQj (cQl (bY6 e) I.ok.above))).trans l⟩
  ·obtain⟨o',l⟩:=I.base.there b o e B;exact⟨o',(f.2 b (cQj (cQl (bY6 e) I.ok.above))).trans l⟩
  ·by_cases G:j=i
   ·subst G;rw[hi]at l;cases l;rw[cZN hiσ]at D;cases D;exact⟨u,r,.inl ⟨F,by simp⟩⟩
   ·rw[cJE (cQB G)]at D;obtain⟨u',r',q⟩:=hl j y v' l D e3;refine⟨u',r',?_⟩;rcases q with⟨k,e⟩|⟨k,c,e,z⟩
    ·refine .inl ⟨k,?_⟩;have:y≠x:=λe=>G (aVN hN l (e ▸ hi));simp[this,e]
    ·exact .inr ⟨k,c,e,z.sameBut f (cne y c e)⟩
  ·obtain⟨T,z⟩:=I.cell y c e;exact⟨T,z.sameBut f (cne y c e)⟩
  ·obtain⟨e,n,ne,nf,d⟩:=I.pin p Z;exact⟨(f.2 p.1 ne).trans e,n,ne,nf,d⟩
 ·have J:X.fn x=true:=by
   rcases hf with z|z
   ·exact z
   ·rw[z]at F;cases F
  obtain⟨c,t⟩:=I.ok.has x (.inl F);obtain⟨T,z⟩:=I.cell x c t;refine wpAny_storeName_cell I.ok.kind F t z (λh' S f=>?_);obtain⟨oc,O,P⟩:=id z;refine h {s with heap:=h'} ⟨I.ok,I.os,I.bare,⟨λb o e n K B=>?_,λb o e n K B=>?_,I.base.free,λb o e B=>?_,I.base.tups,I.base.frzs,I.base.tbls⟩,⟨m,hn.sameBut f (cQB (cne x c t)),λj y v' l D e3=>?_⟩,λy U e=>?_,I.free,I.freeC,λp Z=>?_,g ⟨oc,O,I.freeC x c t⟩ f,by simpa using I.len⟩ ⟨c,f,.inr t⟩
  ·exact(f.2 b (cQj (cQl (bY6 e) (I.ok.cab x c J t)))).trans (I.base.keep b o e n K B)
  ·obtain⟨Y,l⟩:=I.base.slot b o e n K B;exact⟨Y,(f.2 b (cQj (cQl (bY6 e) (I.ok.cab x c J t)))).trans l⟩
  ·obtain⟨o',l⟩:=I.base.there b o e B;exact⟨o',(f.2 b (cQj (cQl (bY6 e) (I.ok.cab x c J t)))).trans l⟩
  ·by_cases G:j=i
   ·subst G;rw[hi]at l;cases l;rw[cZN hiσ]at D;cases D;exact⟨u,r,.inr ⟨.inl F,c,t,S⟩⟩
   ·rw[cJE (cQB G)]at D;obtain⟨u',r',q⟩:=hl j y v' l D e3;refine⟨u',r',?_⟩;rcases q with q|⟨k,U,e,z'⟩
    ·exact .inl q
    ·refine .inr ⟨k,U,e,z'.sameBut f ?_⟩;rintro rfl;exact G (aVN hN l (I.ok.inj _ _ _ e t ▸ hi))
  ·by_cases L:U=c
   ·subst L;exact⟨_,S⟩
   ·obtain⟨w2,z2⟩:=I.cell y U e;exact⟨w2,z2.sameBut f L⟩
  ·obtain⟨e,n,ne,nf,d⟩:=I.pin p Z;refine⟨(f.2 p.1 ?_).trans e,n,ne,nf,d⟩;intro q;rw[q,O]at e;have q':oc=p.2:=cQd e;exact d T (by rw[<- q'];exact P)
def aWk{M:Model}{A:cQA}{E:bYS->bYV->Prop}{i:Nat}{x:Str}{v:V}{u:bYS}{Q:Unit->bYV->Prop}(I:Inv X pins σ H s)(b:X.N.Nodup)(hi:X.N[i]? =some x)(c:Loc X.env.scope x)(r:zO v u) (h:∀s',Inv X pins (σ.set i (some v)) H s'->Q () s') (a:X.fn x=true\/X.env.scope.names.lookup x=some .local:=by first|exact .inl rfl|exact .inr rfl|assumption):bY0 M A (storeName X.env x u) Q E s:=
 aQ4 I b hi c r (λs' d _=>h s' d) a
def Inv.call'{s':bYV}{ch:List Addr}(I:Inv X pins σ H s)(j:s'.os=s.os)(u:Un (frs X.stack) ch H H' s.heap s'.heap)(d:HOk X.prog X.w H' s'.heap)(i:AllBare s'.gens) (a:∀b∈ch,(b∈X.ex\/X.s₀.heap.objs.size<=b)/\b≠X.env.locals/\(∀x c,X.env.cells.lookup x=some c->c≠b)/\∀p∈X.pn++pins,p.1≠b):Inv X pins σ H' s':=by
 obtain⟨h',h,g,f,o'⟩:=s';have e:o'=s.os:=j;subst e;exact I.call (g':=h) (t':=f) (d':=g) u d i a
end
abbrev XK:=bYS->Option Addr->Hp->Prop
abbrev St:=List (Option V)
abbrev VK:=V->Hp->Prop
abbrev TE:=St->Hp->VK->Prop
abbrev TT:=St->Hp->(Bool->Hp->Prop)->Prop
abbrev TA:=St->Hp->(List V->Hp->Prop)->Prop
structure aJo where
 nx:St->Hp->Prop
 rt:VK
 bk:St->Hp->Prop:=λ_ _=>False
 ct:St->Hp->Prop:=λ_ _=>False
abbrev TS:=aJo->St->Hp->Prop
inductive EP(X:Cx)(pins:List (Addr×Obj))(σ:St)(Q:VK)(u:bYS)(s':bYV):Prop|mk(v H')(_:Inv X pins σ H' s')(_:zO v u)(_:Q v H')
def TP(X:Cx)(pins:List (Addr×Obj))(σ:St)(Q:Bool->Hp->Prop)(b:Bool)(s':bYV):Prop:=∃H',Inv X pins σ H' s'/\Q b H'
inductive AP(X:Cx)(pins:List (Addr×Obj))(σ:St)(Q:List V->Hp->Prop)(us:List bYS)(s':bYV):Prop|mk(vs H')(_:Inv X pins σ H' s')(_:xW vs us)(_:Q vs H')
inductive NxP(X:Cx)(pins:List (Addr×Obj))(s':bYV)(N:St->Hp->Prop):Prop|mk(σ' H')(_:Inv X pins σ' H' s')(_:N σ' H')
inductive RtP(X:Cx)(pins:List (Addr×Obj))(s':bYV)(N:VK)(u:bYS):Prop|mk(v σ' H')(_:Inv X pins σ' H' s')(_:zO v u)(_:N v H')
def SP(X:Cx)(pins:List (Addr×Obj))(D:aJo)(f:Flow)(s':bYV):Prop:=
 match f with
 |.next=>NxP X pins s' D.nx
 |.brk=>NxP X pins s' D.bk
 |.cont=>NxP X pins s' D.ct
 |.ret u=>RtP X pins s' D.rt u
def PE(X:Cx)(e:Expr)(t:TE):Prop:=
 ∀ (pins:List (Addr×Obj))(s:bYV)(σ:St)(H:Hp)(Q:VK),Inv X pins σ H s->t σ H Q->bY0 (bY2 X.prog X.w) X.A (eval e X.env) (EP X pins σ Q) X.xe s
def PT(X:Cx)(e:Expr)(t:TT):Prop:=
 ∀ (pins:List (Addr×Obj))(s:bYV)(σ:St)(H:Hp)(Q:Bool->Hp->Prop),Inv X pins σ H s->t σ H Q->bY0 (bY2 X.prog X.w) X.A (isTrue e X.env (eval e X.env)) (TP X pins σ Q) X.xe s
def PW(X:Cx)(e:Expr)(t:TT):Prop:=
 ∀ (a:Sem bYS)(pins:List (Addr×Obj))(s:bYV)(σ:St)(H:Hp)(Q:Bool->Hp->Prop),Inv X pins σ H s->t σ H Q->bY0 (bY2 X.prog X.w) X.A (isTrue e X.env a) (TP X pins σ Q) X.xe s
def PW.pt{X:Cx}{e:Expr}{t:TT}(h:PW X e t):PT X e t:=h _
def PA(X:Cx)(es:List Expr)(t:TA):Prop:=
 ∀ (pos:Pos)(pins:List (Addr×Obj))(s:bYV)(σ:St)(H:Hp)(Q:List V->Hp->Prop),Inv X pins σ H s->t σ H Q->bY0 (bY2 X.prog X.w) X.A (spliced (cXw pos (cQy es X.env))) (AP X pins σ Q) X.xe s
def PS(X:Cx)(st:Stmt)(t:TS):Prop:=
 ∀ (pins:List (Addr×Obj))(s:bYV)(σ:St)(H:Hp)(D:aJo),Inv X pins σ H s->t D σ H->bY0 (bY2 X.prog X.w) X.A (exec st X.env) (SP X pins D) X.xe s
def PSs(X:Cx)(st:List Stmt)(t:TS):Prop:=
 ∀ (pins:List (Addr×Obj))(s:bYV)(σ:St)(H:Hp)(D:aJo),Inv X pins σ H s->t D σ H->bY0 (bY2 X.prog X.w) X.A (execs st X.env) (SP X pins D) X.xe s
def thn{α:Type}{t:Sem α}{Q b:α->bYV->Prop}{M:Model}{A:cQA}{E:bYS->bYV->Prop}{s:bYV}(h:bY0 M A t Q E s)(c:∀a s,Q a s->b a s):bY0 M A t b E s:=cQW h c λ_ _ x=>x
end L2
namespace L2
open PySem PySem.Spec PyProof.Rows
section
variable {X:Cx}
def bin{a b:Expr}{ta tb:TE}(g:PE X a ta)(i:PE X b tb){pins:List (Addr×Obj)}{s:bYV}{σ:St}{H:Hp}{R:V->V->Hp->Prop}(I:Inv X pins σ H s)(h:ta σ H λx H1=>tb σ H1 λy H2=>R x y H2) {α:Type} {Q:α->bYV->Prop} {f:bYS->bYS->Sem α} (j:∀v u e x y H2,Inv X pins σ H2 e->zO x v->zO y u->R x y H2->bY0 (bY2 X.prog X.w) X.A (f v u) Q X.xe e): bY0 (bY2 X.prog X.w) X.A (eval a X.env) (λv d=>bY0 (bY2 X.prog X.w) X.A (eval b X.env) (λu c=>bY0 (bY2 X.prog X.w) X.A (f v u) Q X.xe c) X.xe d) X.xe s:=by
 refine thn (g pins s σ H _ I h) λv s1 ⟨x,H1,I1,r1,q1⟩=>?_;refine thn (i pins s1 σ H1 _ I1 q1) λu e ⟨y,H2,I2,r2,q2⟩=>?_;exact j v u e x y H2 I2 r1 r2 q2
inductive bWc(i:Nat)(σ:St)(H:Hp)(Q:VK):Prop|mk(v)(_:σ[i]? =some (some v))(_:Q v H)
def tC(v:V):TE:=λ_ H Q=>Q v H
def bJm{i:Nat}{x:Str}{pos:Pos}(n:X.N[i]? =some x)(o:Vis X.env.scope x)(d:(x==(AO:Str))=false:=by decide)(f:(x==(B8:Str))=false:=by decide):PE X (.Name x pos) (bWc i):=by
 intro pins s σ H Q I h;obtain⟨v,e,h⟩:=h;obtain⟨m,k,hl⟩:=I.loc;obtain⟨u,r,l⟩:=hl i x v n e o;have fin:EP X pins σ Q u s:=⟨v,H,I,r,h⟩;rcases l with⟨b,j⟩|⟨b,c,g,a⟩
 ·exact wpAny_Name (wpAny_loadName_local I.ok.kind b k j fin) d
 ·rcases b with b|b
  ·exact wpAny_Name (wpAny_loadName_cell I.ok.kind b g a fin) d
  ·exact wpAny_Name (wpAny_loadName_free I.ok.kind b g a fin f) d
def yE{i j pos}:PE X (.Constant (.int i) j pos) (tC (.int i)):=λ_ _ _ H _ I h=>wpAny_Constant_int ⟨.int i,H,I.tok _,⟨_,rfl⟩,h⟩
def wQ{b j pos}:PE X (.Constant (.bool b) j pos) (tC (.bl b)):=λ_ _ _ H _ I h=>Constant_bool ⟨.bl b,H,I,rfl,h⟩
def x6{j pos}:PE X (.Constant .none j pos) (tC .non):=λ_ _ _ H _ I h=>Constant_none ⟨.non,H,I,rfl,h⟩
def yR{x j pos}:PE X (.Constant (.str x) j pos) (tC (.str x)):=λ_ _ _ H _ I h=>Calls.Constant_str ⟨.str x,H,I.tok _,⟨_,rfl⟩,h⟩
def Gl(X:Cx)(x:Str):Prop:=X.env.kindOf x=some .globalImplicit
def uX{E:bYS->bYV->Prop}{pins:List (Addr×Obj)}{s:bYV}{σ:St}{H:Hp}{x:Str}{u:bYS}{pos:Pos}{Q:bYS->bYV->Prop}(I:Inv X pins σ H s)(a:Gl X x)(c:X.mg x=some u)(h:Q u s) (b:(x==(AO:Str))=false:=by decide):bY0 (bY2 X.prog X.w) X.A (eval (.Name x pos) X.env) Q E s:=
 cJ4 I.ok.kind a (Calls.loadGlobal_global (by rw[I.ok.glob];exact I.mod.glob.keeps I.bk) c h) b
def aXq{E:bYS->bYV->Prop}{pins:List (Addr×Obj)}{s:bYV}{σ:St}{H:Hp}{x:Str}{u:bYS}{pos:Pos}{Q:bYS->bYV->Prop}(I:Inv X pins σ H s)(c:Gl X x)(b:X.mg x=none)(e:cQD x=some u)(h:Q u s) (d:x≠Ac:=by decide) (a:(x==(AO:Str))=false:=by decide):bY0 (bY2 X.prog X.w) X.A (eval (.Name x pos) X.env) Q E s:=by
 obtain⟨f,h1,h2⟩:=I.mod.blt;exact cJ4 I.ok.kind c (Calls.loadGlobal_builtin (by rw[I.ok.glob];exact I.mod.glob.keeps I.bk) b (by rw[I.ok.blt];exact h1.keeps I.bk) ((h2 x d).trans e) h) a
def uC{x:Str}{v:V}{u:bYS}{pos:Pos}(a:Gl X x)(c:X.mg x=some u)(r:zO v u)(b:(x==(AO:Str))=false:=by decide):PE X (.Name x pos) (tC v):=
 λ_ _ _ H _ I h=>uX I a c ⟨v,H,I,r,h⟩ b
def xS{x:Str}{v:V}{u:bYS}{pos:Pos}(a:Gl X x)(d:X.mg x=none)(e:cQD x=some u)(r:zO v u)(b:x≠Ac:=by decide)(c:(x==(AO:Str))=false:=by decide):PE X (.Name x pos) (tC v):=
 λ_ _ _ H _ I h=>aXq I a d e ⟨v,H,I,r,h⟩ b c
variable {a b:Expr}{ta tb:TE}{pos:Pos}
def PC(X:Cx)(op:CmpOp)(a b:Expr)(t:TE):Prop:=
 ∀ (pins:List (Addr×Obj))(s:bYV)(σ:St)(H:Hp)(Q:VK),Inv X pins σ H s->t σ H Q->
  bY0 (bY2 X.prog X.w) X.A (eval a X.env) (λv c=>bY0 (bY2 X.prog X.w) X.A (eval b X.env) (λu d=>bY0 (bY2 X.prog X.w) X.A (cXo op v u) (EP X pins σ Q) X.xe d) X.xe c) X.xe s
def bXI(b:Expr){op:CmpOp}(h:op≠ .In)(h2:op≠ .NotIn):cZH op b=false:=by
 have c:(op==CmpOp.In)=false:=by cases op<;> first|rfl|exact absurd rfl h
 have a:(op==CmpOp.NotIn)=false:=by cases op<;> first|rfl|exact absurd rfl h2
 cases b<;> simp[cZH,c,a]
inductive tBQ(Q:Bool->Hp->Prop)(x:V)(H1:Hp):Prop|mk(c)(_:x= .bl c)(_:Q c H1)
def tB(t:TE):TT:=λσ H Q=>t σ H λx H1=>tBQ Q x H1
def bW6{op:CmpOp}{t:TE}(h:PC X op a b t)(h1:cZH op b=false:=by first|exact bXI _ (by decide) (by decide)|rfl):PT X (.Compare a [op] [b] pos) (tB t):=by
 intro pins s σ H Q I hw;refine wpAny_isTrue_Compare1 (thn (h pins s σ H _ I hw) λv e h1=>thn h1 λu f h2=>thn h2 λc s3 ⟨x,H1,I1,r1,q1⟩=>?_) h1;obtain⟨d,rfl,q⟩:=q1;cases r1;exact cXT ⟨H1,I1,q⟩
def xZ{e:Expr}{t:TE}(h:PE X e t)(b:∀a,isTrue e X.env a=(do let v <- a;standAt e.pos;cJc [v] (truthy v)):=by intro _;rfl):PT X e (tB t):=by
 intro pins s σ H Q I hw;refine isTrue_plain (thn (h pins s σ H _ I hw) λv s1 ⟨x,H1,I1,r1,q1⟩=>?_) (b _);obtain⟨d,rfl,q⟩:=q1;cases r1;exact cXT ⟨H1,I1,q⟩
variable {tA tB':TT}{jY:List Expr}
def bYK(t u:TT):TT:=λσ H Q=>t σ H λc H1=>if c=true then u σ H1 Q else Q false H1
def tOr(t u:TT):TT:=λσ H Q=>t σ H λc H1=>if c=true then Q true H1 else u σ H1 Q
def bYO(t:TT):TT:=λσ H Q=>t σ H λc H1=>Q (!c) H1
def wR(b:PT X a tA):PW X (.BoolOp .And [a] pos) tA:=by
 intro d pins s σ H Q I h;refine isTrue_and (thn (b pins s σ H Q I h) λc f e=>?_);cases c with
 |true=>exact isTrue_and_nil e
 |false=>exact e
def vU(b:PT X a tA):PW X (.BoolOp .Or [a] pos) tA:=by
 intro d pins s σ H Q I h;refine isTrue_or (thn (b pins s σ H Q I h) λc f e=>?_);cases c with
 |false=>exact isTrue_or_nil e
 |true=>exact e
def vT(f:PT X a tA)(e:PW X (.BoolOp .And (b::jY) pos) tB'):PW X (.BoolOp .And (a::b::jY) pos) (bYK tA tB'):=by
 intro d pins s σ H Q I h;refine isTrue_and (thn (f pins s σ H _ I h) λc s1 ⟨H1,I1,q1⟩=>?_);cases c with
 |true=>exact e d pins s1 σ H1 Q I1 q1
 |false=>exact⟨H1,I1,q1⟩
def jX(f:PT X a tA)(e:PW X (.BoolOp .Or (b::jY) pos) tB'):PW X (.BoolOp .Or (a::b::jY) pos) (tOr tA tB'):=by
 intro d pins s σ H Q I h;refine isTrue_or (thn (f pins s σ H _ I h) λc s1 ⟨H1,I1,q1⟩=>?_);cases c with
 |true=>exact⟨H1,I1,q1⟩
 |false=>exact e d pins s1 σ H1 Q I1 q1
def vG(b:PT X a tA):PT X (.UnaryOp .Not a pos) (bYO tA):=by
 intro pins s σ H Q I h;exact isTrue_not (b pins s σ H (λc H1=>Q (!c) H1) I h)
inductive bKn(tb:TE)(σ:St)(Q:VK)(x:V)(H1:Hp):Prop|mk(c)(_:x= .bl c)(_:if c=true then tb σ H1 Q else Q (.bl false) H1)
def bK9(ta tb:TE):TE:=λσ H Q=>ta σ H λx H1=>bKn tb σ Q x H1
inductive bYe(tb:TE)(σ:St)(Q:VK)(x:V)(H1:Hp):Prop|mk(c)(_:x= .bl c)(_:if c=true then Q (.bl true) H1 else tb σ H1 Q)
def bYP(ta tb:TE):TE:=λσ H Q=>ta σ H λx H1=>bYe tb σ Q x H1
inductive bKr(Q:VK)(x:V)(H1:Hp):Prop|mk(c)(_:x= .bl c)(_:Q (.bl (!c)) H1)
def bYd(ta:TE):TE:=λσ H Q=>ta σ H λx H1=>bKr Q x H1
def aZV{op}{t:TE}(h:PE X a t):PE X (.BoolOp op [a] pos) t:=λpins s σ H Q I hw=>BoolOp_one (h pins s σ H Q I hw)
def aVU(f:PE X a ta)(e:PE X (.BoolOp .And (b::jY) pos) tb):PE X (.BoolOp .And (a::b::jY) pos) (bK9 ta tb):=by
 intro pins s σ H Q I h;refine BoolOp_and (thn (f pins s σ H _ I h) λv s1 ⟨x,H1,I1,r1,d⟩=>?_);obtain⟨c,rfl,d⟩:=d;cases r1;refine cXT ?_;cases c with
 |true=>exact e pins s1 σ H1 Q I1 d
 |false=>exact⟨.bl false,H1,I1,rfl,d⟩
def bW2(f:PE X a ta)(e:PE X (.BoolOp .Or (b::jY) pos) tb):PE X (.BoolOp .Or (a::b::jY) pos) (bYP ta tb):=by
 intro pins s σ H Q I h;refine BoolOp_or (thn (f pins s σ H _ I h) λv s1 ⟨x,H1,I1,r1,d⟩=>?_);obtain⟨c,rfl,d⟩:=d;cases r1;refine cXT ?_;cases c with
 |false=>exact e pins s1 σ H1 Q I1 d
 |true=>exact⟨.bl true,H1,I1,rfl,d⟩
def bJl(d:PE X a ta):PE X (.UnaryOp .Not a pos) (bYd ta):=by
 intro pins s σ H Q I h;refine UnaryOp_ (thn (d pins s σ H _ I h) λv s1 ⟨x,H1,I1,r1,b⟩=>?_);obtain⟨c,rfl,b⟩:=b;cases r1;exact not_of (cXT ⟨.bl (!c),H1,I1,rfl,b⟩)
def tIf(t:TT)(ta tb:TE):TE:=λσ H Q=>t σ H λc H1=>if c=true then ta σ H1 Q else tb σ H1 Q
def aVV{c:Expr}(g:PT X c tA)(f:PE X a ta)(e:PE X b tb):PE X (.IfExp c a b pos) (tIf tA ta tb):=by
 intro pins s σ H Q I h;refine wpAny_IfExp (thn (g pins s σ H _ I h) λd s1 ⟨H1,I1,q1⟩=>?_);cases d with
 |true=>exact f pins s1 σ H1 Q I1 q1
 |false=>exact e pins s1 σ H1 Q I1 q1
end
end L2
namespace L2
open PySem PySem.Spec PyProof.Rows
def SqL(K:bYT)(H:Hp)(a:Addr)(xs:List V):Prop:=
 Rd H a (.lst xs)\/
  ∃ (o:Obj)(b:Array bYS)(n:Nat),K.lookup a=some o/\o.cls= .type AB/\o.dict=none/\o.data= .seq b n/\b.size<=cQk/\xW xs b.toList
def SqT(K:bYT)(H:Hp)(a:Addr)(xs:List V):Prop:=
 Rd H a (.tup xs)\/
  ∃ (o:Obj)(b:Array bYS)(n:Nat),K.lookup a=some o/\o.cls= .type AD/\o.data= .seq b n/\b.size<=cQk/\xW xs b.toList
def bYz:bYS->Option V
 |.none=>some .non
 |.bool b=>some (.bl b)
 |.int i _=>some (.int i)
 |.str x _=>some (.str x)
 |.bytes b _=>some (.byt b)
 |.float b _=>some (.flt b)
 |.ref a=>some (.ref a)
 |.type n=>some (.ty n)
 |_=>none
def zO.abs{x:V}{u:bYS}(r:zO x u):bYz u=some x:=by
 cases x with
 |non=>cases r;rfl
 |bl _=>cases r;rfl
 |int _=>obtain⟨t,rfl⟩:=r;rfl
 |str _=>obtain⟨t,rfl⟩:=r;rfl
 |byt _=>obtain⟨t,rfl⟩:=r;rfl
 |flt _=>obtain⟨t,rfl⟩:=r;rfl
 |ref _=>cases r;rfl
 |ty _=>cases r;rfl
def zO.inj{x y:V}{u:bYS}(r:zO x u)(q:zO y u):x=y:=cQd (r.abs.symm.trans q.abs)
def xW.inj:∀ {xs ys:List V} {us:List bYS},xW xs us->xW ys us->xs=ys
 |_,_,_,.nil,.nil=>rfl
 |_,_,_,.cons r t,.cons r' t'=>by rw[r.inj r',xW.inj t t']
section
variable {X:Cx}{pins:List (Addr×Obj)}{σ:St}{H:Hp}{s:bYV}{a:Addr}{xs ys:List V}
def SqL.of{K:bYT}(h:H a=some (.lst xs)):SqL K H a xs:= .inl (.inl h)
def SqT.of{K:bYT}(h:H a=some (.tup xs)):SqT K H a xs:= .inl (.inl h)
def Inv.list(I:Inv X pins σ H s)(h:SqL X.K H a xs):∃b:List bYS,xW xs b/\PlainL s.heap a b.toArray/\xs.length<=cQk:=by
 rcases h with h|⟨o,b,n,c,g,d,f,i,r⟩
 ·obtain⟨z,b,n,r,e⟩:=h.ok I.hok;exact⟨b,r,⟨_,n,e,rfl,rfl,rfl⟩,z⟩
 ·refine⟨b.toList,r,⟨o,n,I.kIn a o c,g,d,by simpa using f⟩,?_⟩;have e:=r.length;simp only[cXf]at e;omega
def Inv.tuple(I:Inv X pins σ H s)(h:SqT X.K H a xs):∃b:List bYS,xW xs b/\cZQ s.heap a b.toArray/\xs.length<=cQk:=by
 rcases h with h|⟨o,b,n,c,f,d,g,r⟩
 ·obtain⟨z,b,r,p⟩:=h.ok I.hok;exact⟨b,r,p,z⟩
 ·refine⟨b.toList,r,⟨o,I.kIn a o c,f,n,by simpa using d⟩,?_⟩;have e:=r.length;simp only[cXf]at e;omega
def Inv.list_inj(I:Inv X pins σ H s)(h:SqL X.K H a xs)(h':SqL X.K H a ys):xs=ys:=by
 obtain⟨c,r,⟨o,n,e,_,_,d⟩,_⟩:=I.list h;obtain⟨b,i,⟨o',j,f,_,_,g⟩,_⟩:=I.list h';rw[e]at f;cases f;rw[d]at g;injection g with d1 _;have:c=b:=by simpa using congrArg Array.toList d1
 subst this;exact r.inj i
end
abbrev Cx.wish(X:Cx)(E:bYS->bYV->Prop):Cx:={X with xe:=E}
abbrev Cx.nox(X:Cx):Cx:=X.wish λ_ _=>False
def Cx.Ok.wish{X:Cx}(ok:X.Ok)(E:bYS->bYV->Prop):(X.wish E).Ok:=
 ⟨ok.mod,ok.kind,ok.glob,ok.blt,ok.above,ok.inj,ok.has,ok.cab,ok.hd,ok.frames,ok.stk,ok.exf,ok.bs,ok.bsz,ok.noex,ok.exfs,ok.funs,ok.frf⟩
def Cx.Ok.unwish{X:Cx}{E:bYS->bYV->Prop}(ok:(X.wish E).Ok):X.Ok:=
 ⟨ok.mod,ok.kind,ok.glob,ok.blt,ok.above,ok.inj,ok.has,ok.cab,ok.hd,ok.frames,ok.stk,ok.exf,ok.bs,ok.bsz,ok.noex,ok.exfs,ok.funs,ok.frf⟩
section
variable {X:Cx}{pins:List (Addr×Obj)}{σ:St}{H:Hp}{s:bYV}{E:bYS->bYV->Prop}
def Inv.wish(I:Inv X pins σ H s)(E:bYS->bYV->Prop):Inv (X.wish E) pins σ H s:=⟨I.ok.wish E,I.os,I.bare,I.base,I.loc,I.cell,I.free,I.freeC,I.pin,I.hok,I.len⟩
def Inv.unwish(I:Inv (X.wish E) pins σ H s):Inv X pins σ H s:=⟨I.ok.unwish,I.os,I.bare,I.base,I.loc,I.cell,I.free,I.freeC,I.pin,I.hok,I.len⟩
def SP.unwish{D:aJo}{f:Flow}{s':bYV}(h:SP (X.wish E) pins D f s'):SP X pins D f s':=by
 cases f with
 |next=>obtain⟨a,H',I,q⟩:=h;exact⟨a,H',I.unwish,q⟩
 |brk=>obtain⟨a,H',I,q⟩:=h;exact⟨a,H',I.unwish,q⟩
 |cont=>obtain⟨a,H',I,q⟩:=h;exact⟨a,H',I.unwish,q⟩
 |ret u=>obtain⟨v,a,H',I,r,q⟩:=h;exact⟨v,a,H',I.unwish,r,q⟩
def PSs.nox{st:List Stmt}{t:TS}(h:PSs X.nox st t):PSs X st t:=λpins s σ H D I hw=>
 cQW (h pins s σ H D (I.wish _) hw) (λ_ _ q=>q.unwish) λ_ _ z=>cXp z
end
section
variable {X:Cx}{st:Stmt}{jY:List Stmt}{t u:TS}{e:Expr}{te:TE}{pos:Pos}
def aJh:TS:=λD σ H=>D.nx σ H
def bKI(t u:TS):TS:=λD σ H=>t {D with nx:=u D} σ H
def yS:PSs X [] aJh:=λ_ _ σ H _ I h=>cJL ⟨σ,H,I,h⟩
def yC(h1:PS X st t)(h2:PSs X jY u):PSs X (st::jY) (bKI t u):=by
 intro pins s σ H D I h;refine wpAny_execs_cons (thn (h1 pins s σ H {D with nx:=u D} I h) λf c q=>?_);cases f with
 |next=>obtain⟨a,H',b,q⟩:=q;exact h2 pins c a H' D b q
 |ret v=>exact q
 |brk=>exact q
 |cont=>exact q
def yF(h1:PS X st t):PSs X [st] t:=by
 intro pins s σ H D I h;refine wpAny_execs_cons (thn (h1 pins s σ H D I h) λf a q=>?_);cases f with
 |next=>exact cJL q
 |ret v=>exact q
 |brk=>exact q
 |cont=>exact q
def Inv.quiet{pins:List (Addr×Obj)}{σ:St}{H:Hp}{s:bYV}(I:Inv X pins σ H s):interactive X.env=false:=by simp[interactive,I.ok.kind]
def aVw(te:TE):TS:=λD σ H=>te σ H λ_ H1=>D.nx σ H1
def yY(b:PE X e te)(a:swapsWith e none pos.line X.env=pure false:=by rfl):PS X (.Expr e pos) (aVw te):=by
 intro pins s σ H D I h;exact wpAny_Expr_any (thn (b pins s σ H _ I h) λv s1 ⟨x,H1,I1,r1,q1⟩=>⟨σ,H1,I1,q1⟩) I.quiet a
def bYr(te:TE):TS:=λD σ H=>te σ H D.rt
def yP(a:PE X e te):PS X (.Return (some e) pos) (bYr te):=by
 intro pins s σ H D I h;exact wpAny_Return_some (thn (a pins s σ H _ I h) λv s1 ⟨x,H1,I1,r1,q1⟩=>⟨x,σ,H1,I1,r1,q1⟩)
def bKH(c:TT)(t u:TS):TS:=λD σ H=>c σ H λb H1=>if b=true then t D σ H1 else u D σ H1
def y7{c:Expr}{a b:List Stmt}{tc:TT}(g:PT X c tc)(f:PSs X a t)(e:PSs X b u):PS X (.If c a b pos) (bKH tc t u):=by
 intro pins s σ H D I h;refine wpAny_If (thn (g pins s σ H _ I h) λd s1 ⟨H1,I1,q1⟩=>?_);cases d with
 |true=>exact f pins s1 σ H1 D I1 q1
 |false=>exact e pins s1 σ H1 D I1 q1
end
abbrev TG:=V->St->Hp->(St->Hp->Prop)->Prop
abbrev TGs:=List V->St->Hp->(St->Hp->Prop)->Prop
def PG(X:Cx)(a:Expr)(t:TG):Prop:=
 ∀ (pins:List (Addr×Obj))(s:bYV)(σ:St)(H:Hp)(v:V)(u:bYS)(Q:St->Hp->Prop),Inv X pins σ H s->zO v u->t v σ H Q->
  bY0 (bY2 X.prog X.w) X.A (assign a X.env u) (λ_ s'=>NxP X pins s' Q) X.xe s
def PGs(X:Cx)(c:List Expr)(t:TGs):Prop:=
 ∀ (pins:List (Addr×Obj))(s:bYV)(σ:St)(H:Hp)(b:List V)(a:List bYS)(Q:St->Hp->Prop),Inv X pins σ H s->xW b a->t b σ H Q->
  bY0 (bY2 X.prog X.w) X.A (assignInOrder ((cJH c X.env).map (·.2)) a) (λ_ s'=>NxP X pins s' Q) X.xe s
abbrev bKO:=V->V->V->Hp->(Hp->Prop)->Prop
def bYl(X:Cx)(t:bKO):Prop:=
 ∀ (pins:List (Addr×Obj))(s:bYV)(σ:St)(H:Hp)(o i v:V)(a b u:bYS)(Q:Hp->Prop),Inv X pins σ H s->zO o a->zO i b->zO v u->t o i v H Q->
  bY0 (bY2 X.prog X.w) X.A (setItem a b u) (λ_ s'=>∃H',Inv X pins σ H' s'/\Q H') X.xe s
section
variable {X:Cx}{pos:Pos}
def yW(i:Nat):TG:=λv σ H Q=>Q (σ.set i (some v)) H
def y9{i:Nat}{x:Str}(b:X.N.Nodup:=by exact ‹yN _ _ _›.nd)(hi:X.N[i]? =some x:=by rfl)(d:Loc X.env.scope x:=by first|exact Or.inl rfl|exact Or.inr rfl)(a:X.fn x=true\/X.env.scope.names.lookup x=some .local:=by first|exact .inl rfl|exact .inr rfl|assumption):PG X (.Name x pos) (yW i):=by
 intro pins s σ H v u Q I r h;exact wpAny_assign_Name (aWk I b hi d r (λs' c=>⟨_,H,c,h⟩) a)
inductive bYA(vs:List V)(σ:St)(H:Hp)(Q:St->Hp->Prop):Prop|mk(_:vs= [])(_:Q σ H)
inductive bKT(t:TG)(u:TGs)(vs:List V)(σ:St)(H:Hp)(Q:St->Hp->Prop):Prop|mk(v r)(_:vs=v::r)(_:t v σ H λσ' H'=>u r σ' H' Q)
def aQH:PGs X [] bYA:=by
 intro pins s σ H b a Q I r h;obtain⟨e,h⟩:=h;subst e;cases r;exact assignInOrder_nil ⟨σ,H,I,h⟩
def zE{e:Expr}{es:List Expr}{t:TG}{u:TGs}(h1:PG X e t)(h2:PGs X es u) (c:(cJH (e::es) X.env).map (·.2)=assign e X.env::(cJH es X.env).map (·.2):=by rfl):PGs X (e::es) (bKT t u):=by
 intro pins s σ H d g Q I r h;obtain⟨v,f,b,h⟩:=h;subst b;cases r with
 |cons r a=>rw[c];refine assignInOrder_cons (thn (h1 pins s σ H _ _ _ I r h) λ_ s1 ⟨σ1,H1,I1,q1⟩=>?_);exact h2 pins s1 σ1 H1 _ _ Q I1 a q1
inductive bYC(K:bYT)(n:Nat)(t:TGs)(v:V)(σ:St)(H:Hp)(Q:St->Hp->Prop):Prop|mk(a xs)(_:v= .ref a)(_:SqT K H a xs)(_:xs.length=n)(_:t xs σ H Q)
def aZW{es:List Expr}{k:Nat}{t:TGs}{n:Nat}(p:X.calm=true)(h:PGs X es t) (g:(cJH es X.env).length=n:=by rfl) (c:(cJH es X.env).findIdx? (·.1)=none:=by rfl):PG X (.Tuple es k pos) (bYC X.K n t):=by
 intro pins s σ H v u Q I r hw;obtain⟨a,xs,m,l,hl,hw⟩:=hw;subst m;cases r;obtain⟨j,d,q,w⟩:=I.tuple l;refine assign_Tuple_tuple (I.ok.hd p) q (by simp[g,<- hl,d.length]) c λh' f=>?_;have i:Inv X pins σ H {s with heap:=h'}:=I.kept (t':=s.toks) λb o e=>f b o (cQj (bY6 e)) e;exact h pins _ σ H xs _ Q i (by simpa using d) hw
def bYB(to a:TE)(t:bKO):TG:=λv σ H Q=>to σ H λo H1=>a σ H1 λi H2=>t o i v H2 λb=>Q σ b
def qE{o i:Expr}{to a:TE}{t:bKO}(b:PE X o to)(hi:PE X i a)(d:bYl X t)
  (c:∀v,assign (.Subscript o i pos) X.env v=(do
   let ov <- cJc [v] (eval o X.env)
   let iv <- cJc [v,ov] (eval i X.env)
   standAt pos
   cJc [v,ov,iv] (setItem ov iv v)
   release [v,ov,iv] []):=by intro _;rfl):PG X (.Subscript o i pos) (bYB to a t):=by
 intro pins s σ H v u Q I r h
 rw[c]
 refine bYU (cXd (thn (b pins s σ H _ I h) λov s1 ⟨x,H1,I1,r1,q1⟩=>?_))
 refine bYU (cXd (thn (hi pins s1 σ H1 _ I1 q1) λiv s2 ⟨y,H2,I2,r2,q2⟩=>?_))
 refine bYU (cJt (bYU (cXd (thn (d pins s2 σ H2 x y v ov iv u _ I2 r1 r2 r q2) λ_ s3 ⟨H3,I3,q3⟩=>?_))))
 exact wpAny_release ⟨σ,H3,I3,q3⟩
def bKG(te:TE)(g:TG):TS:=λD σ H=>te σ H λx H1=>g x σ H1 D.nx
def vF{tg e:Expr}{te:TE}{g:TG}(b:PE X e te)(a:PG X tg g)(c:swapsWithSole [tg] e pos.line X.env=pure false:=by rfl)(hw:swappedStores [tg] e X.env=pure none:=by rfl)
  (h1:(cJH [tg] X.env).map (·.2)= [assign tg X.env]:=by rfl):PS X (.Assign [tg] e pos) (bKG te g):=by
 intro pins s σ H D I h
 refine wpAny_Assign_stores (thn (b pins s σ H _ I h) λv s1 ⟨x,H1,I1,r1,q1⟩=>?_) c hw
 rw[h1]
 exact thn (a pins s1 σ H1 x v _ I1 r1 q1) λ_ d q=>q
def yU{i:Nat}{x:Str}{e:Expr}{te:TE}{pos':Pos}(b:PE X e te)(g:X.N.Nodup:=by exact ‹yN _ _ _›.nd)(hi:X.N[i]? =some x:=by rfl)(a:Loc X.env.scope x:=by first|exact Or.inl rfl|exact Or.inr rfl)(f:swapsWith e (some (.Name x pos')) pos.line X.env=pure false:=by rfl)(d:X.fn x=true\/X.env.scope.names.lookup x=some .local:=by first|exact .inl rfl|exact .inr rfl|assumption):
  PS X (.Assign [.Name x pos'] e pos) (bKG te (yW i)):=by
 intro pins s σ H D I h
 refine wpAny_Assign_Name (thn (b pins s σ H _ I h) λv s1 ⟨y,H1,I1,r1,q1⟩=>?_) f
 exact aWk I1 g hi a r1 (λj c=>⟨_,H1,c,q1⟩) d
end
section
variable {X:Cx}{pos:Pos}
def bKv(c:TT)(tb:TS):TS:=λD σ H=>∃W:Nat->St->Hp->Prop,(∃m,W m σ H)/\∀m σ H,W m σ H->
 c σ H λb H1=>if b=true then ∃N:St->Hp->Prop,(∀a H',N a H'->∃d,d<m/\W d a H')/\tb {D with nx:=N,ct:=N,bk:=D.nx} σ H1 else D.nx σ H1
def uD{c:Expr}{body:List Stmt}{tc:TT}{tb:TS}(r:PassesOwn (bY2 X.prog X.w) X.A X.env X.xe)(C:PT X c tc)(B:PSs X body tb):PS X (.While c body [] pos) (bKv tc tb):=by
 intro pins s σ H D I h;obtain⟨W,⟨y,z⟩,turn⟩:=h;refine wpAny_While (codeAny_whileLoop (λn s'=>∃e H',Inv X pins e H' s'/\W n e H') ?_ y ⟨σ,H,I,z⟩);rintro n t ⟨d,H1,u,x⟩;refine cZj r (thn (C pins t d H1 _ u (turn n d H1 x)) λb s2 ⟨H2,I2,j⟩=>?_);cases b with
 |true=>
  obtain⟨N,q,j⟩:=j;rw[if_pos rfl];refine cZj r (thn (B pins s2 d H2 _ I2 j) λf E i=>?_);cases f with
  |next=>obtain⟨a,g,m,k⟩:=i;obtain⟨p,l,o⟩:=q a g k;exact⟨p,l,a,g,m,o⟩
  |cont=>obtain⟨a,g,m,k⟩:=i;obtain⟨p,l,o⟩:=q a g k;exact⟨p,l,a,g,m,o⟩
  |brk=>exact i
  |ret v=>exact i
 |false=>rw[if_neg Bool.false_ne_true];exact cJL ⟨d,H2,I2,j⟩
end
structure It where
 go:Nat->Hp->Prop
 yld:Nat->Hp->V->Hp->Prop
 stop:Nat->Hp->Prop
def bZ4(X:Cx)(pins:List (Addr×Obj))(H:Hp)(b:Addr):Prop:=
 H b=none/\b≠X.env.locals/\b∉X.fs/\(b∈X.ex\/X.s₀.heap.objs.size<=b)/\(∀x c,X.env.cells.lookup x=some c->c≠b)/\∀p∈X.pn++pins,p.1≠b
def Inv.fpOk{X:Cx}{pins:List (Addr×Obj)}{σ:St}{H H':Hp}{s:bYV}{b:Addr}(I:Inv X pins σ H s)(a:s.heap.objs.size<=b)(d:H' b=none):bZ4 X pins H' b:=by
 refine⟨d,cZw (cQl I.lt a),I.nofs a,.inr (cQv I.sz a),λx c e z=>?_,λp f z=>?_⟩
 ·obtain⟨v,q⟩:=I.cell x c e;exact absurd (cQl q.lt (by rw[z];exact a)) (cQ4 _)
 ·exact absurd (cQl (bY6 (I.pin p f).1) (by rw[z];exact a)) (cQ4 _)
structure bKB(P:cQe)(w:cQm)(K:bYT)(tg:Expr)(J:It)(fp:List Addr)(it:Addr)(tn:Nat->Heap->Prop):Prop where
 mem:it∈fp
 obj:∀i h,tn i h->∀b∈fp,∃o,h.get? b=some o/\∀v,o.data≠ .cell v
 keep:∀i h h',tn i h->(∀b∈fp,∀o,h.get? b=some o->h'.get? b=some o)->tn i h'
 item:∀ (X:Cx),X.prog=P->X.w=w->X.K=K->X.calm=true->∀ (i:Nat)(pins:List (Addr×Obj))(s:bYV)(σ:St)(H:Hp)(E:bYS->bYV->Prop),Inv X pins σ H s->(∀b∈fp,bZ4 X pins H b)->tn i s.heap->J.go i H->
  bY0 (bY2 P w) X.A (pyNext (.ref it)) (λr s1=>∃u,r=some u/\
   bY0 (bY2 P w) X.A (cJK tg (.ref it) u) (λ_ s2=>∃x H',Inv X pins σ H' s2/\zO x u/\J.yld i H x H'/\tn (i+1) s2.heap/\∀b∈fp,H' b=none) E s1) E s
 done:∀ (X:Cx),X.prog=P->X.w=w->X.K=K->X.calm=true->∀ (i:Nat)(pins:List (Addr×Obj))(s:bYV)(σ:St)(H:Hp)(E:bYS->bYV->Prop),Inv X pins σ H s->(∀b∈fp,bZ4 X pins H b)->tn i s.heap->J.stop i H->
  bY0 (bY2 P w) X.A (pyNext (.ref it)) (λr s1=>r=none/\Inv X pins σ H s1) E s
 self:∀ (A:cQA)(i:Nat)(s:bYV)(Q:bYS->bYV->Prop)(E:bYS->bYV->Prop),tn i s.heap->Q (.ref it) s->bY0 (bY2 P w) A (pyIter (.ref it)) Q E s
abbrev TI:=St->Hp->(It->Hp->Prop)->Prop
def PIE(X:Cx)(pins:List (Addr×Obj))(σ:St)(tg:Expr)(R:It->Hp->Prop)(a:bYS)(c:bYV):Prop:=
 ∃ (e:Addr)(d:List Addr)(tn:Nat->Heap->Prop)(J:It)(H':Hp),a= .ref e/\Inv X pins σ H' c/\bKB X.prog X.w X.K tg J d e tn/\tn 0 c.heap/\(∀b∈d,bZ4 X pins H' b)/\R J H'
def PI(X:Cx)(tg a:Expr)(b:TI):Prop:=
 ∀ (pins:List (Addr×Obj))(s:bYV)(σ:St)(H:Hp)(R:It->Hp->Prop),Inv X pins σ H s->b σ H R->
  bY0 (bY2 X.prog X.w) X.A (eval a X.env) (λv c=>bY0 (bY2 X.prog X.w) X.A (pyIter v) (PIE X pins σ tg R) X.xe c) X.xe s
def bWF{M:Model}{A:cQA}{E:bYS->bYV->Prop}{s:bYV}{tg:Expr}{it:Addr}{u:bYS}{o:Obj}{n:String}{vs:Array bYS}{Q:Unit->bYV->Prop}(d:s.heap.get? it=some o)(e:o.cls= .type n)(c:o.data= .fields vs) (b: ["enumerate","zip","dict_itemiterator",BI,"odict_iterator","itertools.zip_longest","itertools.pairwise"].contains n=false) (a:Q () s):bY0 M A (cJK tg (.ref it) u) Q E s:=by
 unfold cJK;cases tg<;> first
  |exact bYY a
  |(cases u<;> first
    |exact bYY a
    |(refine bYU (wpAny_load d ?_)
      rw[e,c]
      show bY0 M A (if(["enumerate","zip","dict_itemiterator",BI,"odict_iterator","itertools.zip_longest","itertools.pairwise"].contains n && vs[0]? ==some (cXa _))=true then _ else _) Q E s
      rw[if_neg (by intro h;rw[b,Bool.false_and]at h;cases h)]
      exact bYY a))
def Itl(K:bYT)(a:Addr):It:=
 ⟨λi H=>∃xs x,SqL K H a xs/\xs[i]? =some x,λi H x H'=>H'=H/\∀xs,SqL K H a xs->xs[i]? =some x,λi H=>∃xs,SqL K H a xs/\xs.length<=i⟩
def Itr(lo:Int)(n:Nat):It:=⟨λi _=>i<n,λi H x H'=>H'=H/\x= .int (lo+i),λi _=>n<=i⟩
def bQ2{P:cQe}{w:cQm}{K:bYT}{tg:Expr}(a it:Addr):bKB P w K tg (Itl K a) [it] it (λi h=>h.IsListIter it a i) where
 mem:=by simp
 obj:=λi h st b hb=>by
  have e:b=it:=by simpa using hb
  subst e
  obtain⟨o,e,c,d⟩:=st
  exact⟨o,e,λv z=>by rw[d]at z;cases z⟩
 keep:=λi h h' st k=>st.at λo e=>k it (by simp) o e
 item:=by
  intro X hP hw hK hc i pins s σ H E I hf st hg
  subst hP hw hK
  obtain⟨xs,x,hq,hx⟩:=hg
  obtain⟨its,rv,p,hz⟩:=I.list hq
  obtain⟨u,hu,ru⟩:=rv.get hx
  obtain⟨f0,f1,f2,f3,f4,f5⟩:=hf it (by simp)
  refine wpAny_pyNext_list_item st p.isList (x:=u) (by simpa using hu) λh' st' sb=>?_
  have I1:Inv X pins σ H {s with heap:=h'}:=I.turned (t':=s.toks) (λb o hb e=>(sb.2 b hb).trans e) f0 f1 f3 f4 f5
  obtain⟨o,e,c,d⟩:=id st'
  exact⟨u,rfl,bWF (s:={s with heap:=h'}) e c d (by decide) ⟨x,H,I1,ru,⟨rfl,λys hy=>by rw[I.list_inj hy hq];exact hx⟩,st',λb hb=>(hf b hb).1⟩⟩
 done:=by
  intro X hP hw hK hc i pins s σ H E I hf st hg
  subst hP hw hK
  obtain⟨xs,hq,hx⟩:=hg
  obtain⟨its,rv,p,hz⟩:=I.list hq
  obtain⟨f0,f1,f2,f3,f4,f5⟩:=hf it (by simp)
  have hl:=rv.length
  exact wpAny_pyNext_list_end (I.ok.hd hc) st p.isList (by simp;omega) λh' eb=>⟨rfl,I.turned (t':=s.toks) (λb o hb e=>eb b o hb e) f0 f1 f3 f4 f5⟩
 self:=λ_ _ _ _ _ st h=>wpAny_pyIter_listiter st h
def aKG{P:cQe}{w:cQm}{K:bYT}{tg:Expr}(it:Addr)(lo:Int)(n:Nat):bKB P w K tg (Itr lo n) [it] it (λi h=>IsRangeIter h it (lo+(i:Nat)*1) ((n:Int) - (i:Nat)) 1) where
 mem:=by simp
 obj:=λi h st b hb=>by
  have e:b=it:=by simpa using hb
  subst e
  exact⟨_,st,λv z=>by
   have z':Data.fields _=Data.cell v:=z
   cases z'⟩
 keep:=λi h h' st k=>k it (by simp) _ st
 item:=by
  intro X hP hw hK hc i pins s σ H E I hf st hg
  subst hP hw hK
  obtain⟨f0,f1,f2,f3,f4,f5⟩:=hf it (by simp)
  have W:=Walks.range (prog:=X.prog) (w:=X.w) (I.ok.hd hc) it lo 1 n
  refine W.item i s _ _ hg st λv h' tk hv st' kk=>?_
  obtain⟨t,rfl⟩:=hv
  have I1:Inv X pins σ H {s with heap:=h',toks:=tk}:=I.turned (λb o hb e=>kk b o (by simpa using hb) e) f0 f1 f3 f4 f5
  refine⟨_,rfl,bWF (s:={s with heap:=h',toks:=tk}) (n:="range_iterator") st' rfl rfl (by decide) ⟨.int (lo+i),H,I1,⟨t,?_⟩,⟨rfl,rfl⟩,st',λb hb=>(hf b hb).1⟩⟩
  rw[Int.mul_one]
 done:=by
  intro X hP hw hK hc i pins s σ H E I hf st hg
  subst hP hw hK
  obtain⟨f0,f1,f2,f3,f4,f5⟩:=hf it (by simp)
  exact wpAny_pyNext_range_end (I.ok.hd hc) st (by have:n<=i:=hg;omega) λh' eb=>⟨rfl,I.turned (t':=s.toks) (λb o hb e=>eb b o hb e) f0 f1 f3 f4 f5⟩
 self:=λ_ _ _ _ _ st h=>wpAny_pyIter_rangeiter st h
end L2
open L2.SqL renaming of → CV
open L2.SqT renaming of → CW
namespace L2
open PySem PySem.Spec PyProof.Rows
section
variable {X:Cx}{tg:Expr}
inductive bWH(K:bYT)(R:It->Hp->Prop)(x:V)(H1:Hp):Prop|mk(a)(_:x= .ref a)(_:(∃xs,SqL K H1 a xs))(_:R (Itl K a) H1)
def bKU(K:bYT)(tl:TE):TI:=λσ H R=>tl σ H λx H1=>bWH K R x H1
def xL{l:Expr}{tl:TE}(hl:PE X l tl):PI X tg l (bKU X.K tl):=by
 intro pins s σ H R I h;refine thn (hl pins s σ H _ I h) λv s1 ⟨x,H1,I1,r1,q1⟩=>?_;obtain⟨a,e,⟨xs,d⟩,q⟩:=q1;subst e;cases r1;obtain⟨c,g,p,i⟩:=I1.list d;refine cVc p.isList ?_;refine⟨s1.heap.objs.size,[s1.heap.objs.size],_,_,H1,rfl,I1.kept (t':=s1.toks) λb o e=>bYX _ e,bQ2 a _,⟨_,cQn _ rfl,rfl,rfl⟩,λb f=>?_,q⟩;have e:b=s1.heap.objs.size:=by simpa using f
 subst e;exact I1.fpOk (bYZ _) (I1.hok.fresh (bYZ _))
def bZg{pins:List (Addr×Obj)}{σ:St}{H:Hp}{s:bYV}{R:It->Hp->Prop}{E:bYS->bYV->Prop}{lo hi:Int}{t u v:Tok}{tk:Nat}(I:Inv X pins σ H s)(h1: -(2 ^ 62)<=lo)(h2:lo<2 ^ 62)(d: -(2 ^ 62)<=hi)(f:hi<2 ^ 62) (q:R (Itr lo (hi - lo).toNat) H):bY0 (bY2 X.prog X.w) X.A (pyIter (.ref s.heap.objs.size)) (PIE X pins σ tg R) E {s with heap:=s.heap.push {cls:= .type Ae,data:= .fields #[.int lo t,.int hi u,.int 1 v] },toks:=tk}:=by
 refine wpAny_pyIter_range (IsRange.new ..) (small_one h1 h2 d f) ?_;have a:Inv X pins σ H {s with heap:=s.heap.push {cls:= .type Ae,data:= .fields #[.int lo t,.int hi u,.int 1 v] },toks:=tk}:=I.kept λb o e=>bYX _ e;refine⟨(s.heap.push {cls:= .type Ae,data:= .fields #[.int lo t,.int hi u,.int 1 v] }).objs.size,[(s.heap.push {cls:= .type Ae,data:= .fields #[.int lo t,.int hi u,.int 1 v] }).objs.size],_,_,H,rfl,a.kept (t':=tk) λb o e=>bYX _ e,aKG _ lo (hi - lo).toNat,?_,λb h=>?_,q⟩
 ·have g:lo+((0:Nat):Int)*1=lo:=by simp
  have c:(((hi - lo).toNat:Nat):Int) - ((0:Nat):Int)=Builtin.Range.rangeSize lo hi 1:=by rw[rangeSize_one];split<;> omega
  show IsRangeIter _ _ (lo+((0:Nat):Int)*1) ((((hi - lo).toNat:Nat):Int) - ((0:Nat):Int)) 1;rw[g,c];exact cQn _ rfl
 ·have e:b=(s.heap.push {cls:= .type Ae,data:= .fields #[.int lo t,.int hi u,.int 1 v] }).objs.size:=by simpa using h
  subst e;exact a.fpOk (bYZ _) (a.hok.fresh (bYZ _))
inductive bWI(R:It->Hp->Prop)(vs:List V)(H1:Hp):Prop|mk(j:Int)(_:vs= [.int j])(_: -(2 ^ 62)<=j)(_:j<2 ^ 62)(_:R (Itr 0 j.toNat) H1)
def bKV(ta:TA):TI:=λσ H R=>ta σ H λa H1=>bWI R a H1
def zL{a:Expr}{ta:TA}{p pos:Pos}(d:Gl X Ae)(c:X.mg Ae=none)(i:PA X [a] ta)(k:cQy [a] X.env= [(false,eval a X.env)]:=by rfl):PI X tg (.Call (.Name Ae p) [a] [] pos) (bKV ta):=by
 intro pins s σ H R I h;refine Call_ (aXq I d c boot_range (cZX (thn (i pos pins s σ H _ I h) λus s1 ⟨vs,H1,I1,r1,b⟩=>?_) k rfl));obtain⟨j,e,b,f,q⟩:=b;subst e;cases r1 with
 |cons r g=>cases g;obtain⟨t,rfl⟩:=r;exact call_range_1 (bZg I1 (by omega) (by omega) b f (by simpa using q))
def bYN(d:TI)(g:TG)(tb:TS):TS:=λD σ H=>d σ H λJ H1=>∃W:Nat->Nat->St->Hp->Prop,(∃m,W 0 m σ H1)/\∀i m σ H,W i m σ H->
 (J.stop i H/\D.nx σ H)\/(J.go i H/\∃N:St->Hp->Prop,(∀a H',N a H'->∃c,c<m/\W (i+1) c a H')/\∀x H',J.yld i H x H'->g x σ H' λb H2=>tb {D with nx:=N,ct:=N,bk:=D.nx} b H2)
def aZY(a:List Addr)(h:Heap):List (Addr×Obj):=a.filterMap λb=>(h.get? b).map λo=>(b,o)
def jO{a:List Addr}{h:Heap}{b:Addr}{o:Obj}(c:b∈a)(e:h.get? b=some o):(b,o)∈aZY a h:=List.mem_filterMap.mpr ⟨b,c,by rw[e];rfl⟩
def aYB{a:List Addr}{h:Heap}{p:Addr×Obj}(f:p∈aZY a h):p.1∈a/\h.get? p.1=some p.2:=by
 obtain⟨b,d,e⟩:=List.mem_filterMap.mp f;cases q:h.get? b with
 |none=>rw[q]at e;cases e
 |some o=>rw[q]at e;have c:(b,o)=p:=cQd e;subst c;exact⟨d,q⟩
def Inv.pinned{pins:List (Addr×Obj)}{σ:St}{H:Hp}{s:bYV}{a:List Addr}(I:Inv X pins σ H s)(k:∀b∈a,bZ4 X pins H b)(h:∀b∈a,∃o,s.heap.get? b=some o/\∀v,o.data≠ .cell v):Inv X (pins++aZY a s.heap) σ H s:=
 I.pins_of λp l=>(cQw.mp l).elim (λz=>I.pin p (cQg _ z)) λz=>by obtain⟨f,e⟩:=aYB z;obtain⟨j,g,i,_⟩:=k p.1 f;obtain⟨o,c,d⟩:=h p.1 f;rw[e]at c;cases c;exact⟨e,j,g,i,d⟩
def Inv.unpinned{pins pl:List (Addr×Obj)}{σ:St}{H:Hp}{s:bYV}(I:Inv X (pins++pl) σ H s):Inv X pins σ H s:=I.pins_of λp a=>I.pin p (cQg _ (cXP _ a))
def zT{k:Expr}{body:List Stmt}{U:TI}{g:TG}{tb:TS}{pos:Pos}(G:PassesOwn (bY2 X.prog X.w) X.A X.env X.xe)(R:X.calm=true)(hi:PI X tg k U)(hg:PG X tg g)(y:PSs X body tb) (hs:∀x,cVb k X.env x=pure x:=by intro _;rfl):PS X (.For tg k body [] pos) (bYN U g tb):=by
 intro pins s σ H D I h;refine wpAny_For (thn (hi pins s σ H _ I h) λv s1 h1=>thn h1 λa0 s2 h2=>?_) hs;obtain⟨it,B,tn,J,H2,e,I2,T,P,S,W,⟨m0,w0⟩,turn⟩:=h2;subst e;have t:∀ {H':Hp},(∀b∈B,H' b=none)->∀b∈B,bZ4 X pins H' b:=λZ b y=>⟨Z b y,(S b y).2⟩;refine codeAny_forLoop_any (λn s'=>∃i p H',Inv X pins p H' s'/\tn i s'.heap/\(∀b∈B,H' b=none)/\W i n p H') ?_ m0 ⟨0,σ,H2,I2,P,λb y=>(S b y).1,w0⟩;rintro n V ⟨i,l,L,Q,K,E,w3⟩;rcases turn i n l L w3 with⟨C,qn⟩|⟨go,N,hN,step⟩
 ·refine cZj G (thn (T.done X rfl rfl rfl R i pins V l L X.xe Q (t E) K C) λr s4 ⟨hr,I4⟩=>?_);subst hr;exact cJL ⟨l,L,I4,qn⟩
 ·refine cZj G (thn (T.item X rfl rfl rfl R i pins V l L X.xe Q (t E) K go) λr s4 ⟨u,hr,h4⟩=>?_);subst hr;refine cZj G (thn h4 λ_ s5 ⟨x,H5,I5,r5,y5,st5,fr5⟩=>?_);have O:=I5.pinned (t fr5) (T.obj _ _ st5);refine cZj G (thn (hg _ s5 l H5 x u _ O r5 (step x H5 y5)) λ_ s6 ⟨σ6,H6,I6,q6⟩=>?_);refine cZj G (thn (y _ s6 σ6 H6 _ I6 q6) λf M z=>?_);have q:∀ {a:St} {j:Hp},Inv X (pins++aZY B s5.heap) a j M->N a j->∃m,m<n/\∃i p H',Inv X pins p H' M/\tn i M.heap/\(∀b∈B,H' b=none)/\W i m p H':=λ{a j} c F=>by
   obtain⟨m',Y,w7⟩:=hN a j F;refine⟨m',Y,i+1,a,j,c.unpinned,T.keep _ _ _ st5 λb y o e=>(c.pin (b,o) (cQg _ (cQg _ (jO y e)))).1,λb y=>?_,w7⟩;obtain⟨o,e,d⟩:=T.obj _ _ st5 b y;exact(c.pin (b,o) (cQg _ (cQg _ (jO y e)))).2.1
  cases f with
  |next=>obtain⟨a,j,c,F⟩:=z;exact q c F
  |cont=>obtain⟨a,j,c,F⟩:=z;exact q c F
  |brk=>obtain⟨a,j,c,z⟩:=z;exact⟨a,j,c.unpinned,z⟩
  |ret v=>obtain⟨x7,a,j,c,r7,z⟩:=z;exact⟨x7,a,j,c.unpinned,r7,z⟩
end
def zJ{K:bYT}{a:Addr}{xs:List V}{g:TG}{tb:TS}{D:aJo}{σ:St}{H:Hp}(b:Nat->St->Hp->Prop)(h0:b 0 σ H)(hl:∀i σ H,i<=xs.length->b i σ H->SqL K H a xs) (l:∀i x σ H,xs[i]? =some x->b i σ H->g x σ H λc H2=>tb {D with nx:=b (i+1),ct:=b (i+1),bk:=D.nx} c H2) (j:∀σ H,b xs.length σ H->D.nx σ H): ∃W:Nat->Nat->St->Hp->Prop,(∃m,W 0 m σ H)/\∀i m σ H,W i m σ H-> ((Itl K a).stop i H/\D.nx σ H)\/((Itl K a).go i H/\∃N:St->Hp->Prop,(∀d H',N d H'->∃h,h<m/\W (i+1) h d H')/\∀x H',(Itl K a).yld i H x H'->g x σ H' λc H2=>tb {D with nx:=N,ct:=N,bk:=D.nx} c H2):=by
 refine⟨λi m σ H=>m=xs.length - i/\i<=xs.length/\b i σ H,⟨xs.length,by simp,cQQ _,h0⟩,?_⟩;rintro i m σ H ⟨rfl,hi,p⟩;have q:=hl i σ H hi p;by_cases f:i<xs.length
 ·refine .inr ⟨⟨xs,xs[i],q,by simp[f]⟩,b (i+1),λd H' k=>⟨xs.length - (i+1),by omega,rfl,f,k⟩,λx H' y=>?_⟩;obtain⟨e,y⟩:=y;subst e;exact l i x σ _ (y xs q) p
 ·have e:i=xs.length:=by omega
  subst e;exact .inl ⟨⟨xs,q,bYZ _⟩,j σ H p⟩
def z7{lo:Int}{n:Nat}{g:TG}{tb:TS}{D:aJo}{σ:St}{H:Hp}(d:Nat->St->Hp->Prop)(h0:d 0 σ H) (k:∀i σ H,i<n->d i σ H->g (.int (lo+i)) σ H λa H2=>tb {D with nx:=d (i+1),ct:=d (i+1),bk:=D.nx} a H2) (h:∀σ H,d n σ H->D.nx σ H): ∃W:Nat->Nat->St->Hp->Prop,(∃m,W 0 m σ H)/\∀i m σ H,W i m σ H-> ((Itr lo n).stop i H/\D.nx σ H)\/((Itr lo n).go i H/\∃N:St->Hp->Prop,(∀c H',N c H'->∃f,f<m/\W (i+1) f c H')/\∀x H',(Itr lo n).yld i H x H'->g x σ H' λa H2=>tb {D with nx:=N,ct:=N,bk:=D.nx} a H2):=by
 refine⟨λi m σ H=>m=n - i/\i<=n/\d i σ H,⟨n,by simp,cQQ _,h0⟩,?_⟩;rintro i m σ H ⟨rfl,hi,p⟩;by_cases b:i<n
 ·refine .inr ⟨b,d (i+1),λc H' j=>⟨n - (i+1),by omega,rfl,b,j⟩,λx H' y=>?_⟩;obtain⟨e,y⟩:=y;subst e y;exact k i σ _ b p
 ·have e:i=n:=by omega
  subst e;exact .inl ⟨bYZ _,h σ H p⟩
end L2
namespace L2
open PySem PySem.Spec PyProof.Rows
abbrev R2:=V->V->Hp->VK->Prop
def OpR(X:Cx)(f:bYS->bYS->Sem bYS)(r:R2):Prop:=
 ∀ (pins:List (Addr×Obj))(s:bYV)(σ:St)(H:Hp)(x y:V)(v u:bYS)(Q:VK),Inv X pins σ H s->zO x v->zO y u->r x y H Q->
  bY0 (bY2 X.prog X.w) X.A (f v u) (EP X pins σ Q) X.xe s
def UnR(X:Cx)(f:bYS->Sem bYS)(r:V->Hp->VK->Prop):Prop:=
 ∀ (pins:List (Addr×Obj))(s:bYV)(σ:St)(H:Hp)(x:V)(v:bYS)(Q:VK),Inv X pins σ H s->zO x v->r x H Q->
  bY0 (bY2 X.prog X.w) X.A (f v) (EP X pins σ Q) X.xe s
def qF(X:Cx)(f:bYS)(r:List V->Hp->VK->Prop):Prop:=
 ∀ (pins:List (Addr×Obj))(s:bYV)(σ:St)(H:Hp)(xs:List V)(a:List bYS)(Q:VK),Inv X pins σ H s->xW xs a->r xs H Q->
  bY0 (bY2 X.prog X.w) X.A (call f a) (EP X pins σ Q) X.xe s
def tOp(r:R2)(ta tb:TE):TE:=λσ H Q=>ta σ H λx H1=>tb σ H1 λy H2=>r x y H2 Q
def tUn(r:V->Hp->VK->Prop)(ta:TE):TE:=λσ H Q=>ta σ H λx H1=>r x H1 Q
inductive rI(C:Int->Int->Prop)(g:Int->Int->V)(x:V)(y:V)(H:Hp)(Q:VK):Prop|mk(i j)(_:x= .int i)(_:y= .int j)(_:C i j)(_:Q (g i j) H)
inductive rI0(g:Int->Int->V)(x:V)(y:V)(H:Hp)(Q:VK):Prop|mk(i j)(_:x= .int i)(_:y= .int j)(_:Q (g i j) H)
inductive rU(g:Int->V)(x:V)(H:Hp)(Q:VK):Prop|mk(i)(_:x= .int i)(_:Q (g i) H)
section
variable {X:Cx}{a b c:Expr}{ta tb tc:TE}{pos:Pos}
def bKQ(g:PE X a ta)(i:PE X b tb){pins:List (Addr×Obj)}{s:bYV}{σ:St}{H:Hp}{R:V->V->Hp->Prop}(I:Inv X pins σ H s) (h:ta σ H λx H1=>tb σ H1 λy H2=>R x y H2) {Q:bYS->bYV->Prop} {f:bYS->bYS->Sem bYS} (j:∀v u e x y H2,Inv X pins σ H2 e->zO x v->zO y u->R x y H2->bY0 (bY2 X.prog X.w) X.A (f v u) Q X.xe e): bY0 (bY2 X.prog X.w) X.A (eval a X.env) (λv d=>bY0 (bY2 X.prog X.w) X.A (eval b X.env) (λu c=>bY0 (bY2 X.prog X.w) X.A (f v u) Q X.xe c) X.xe d) X.xe s:=by
 refine thn (g pins s σ H _ I h) λv s1 ⟨x,H1,I1,r1,q1⟩=>?_;refine thn (i pins s1 σ H1 _ I1 q1) λu e ⟨y,H2,I2,r2,q2⟩=>?_;exact j v u e x y H2 I2 r1 r2 q2
def yV{op:Operator}{r:R2}(c:OpR X (cZz op) r)(g:PE X a ta)(j:PE X b tb):PE X (.BinOp a op b pos) (tOp r ta tb):=by
 intro pins s σ H Q I h;exact wpAny_BinOp (bKQ g j I h λv u d x y H2 f i e q=>c pins d σ H2 x y v u Q f i e q)
def aYY{op:UnaryOp}{r:V->Hp->VK->Prop}(b:UnR X (unaryOp op) r)(c:PE X a ta):PE X (.UnaryOp op a pos) (tUn r ta):=by
 intro pins s σ H Q I h;exact UnaryOp_ (thn (c pins s σ H _ I h) λv s1 ⟨x,H1,I1,r1,q1⟩=>b pins s1 σ H1 x v Q I1 r1 q1)
def opI{f:bYS->bYS->Sem bYS}{C:Int->Int->Prop}{g:Int->Int->Int} (a:∀ (i j:Int)(t u:Tok)(s:bYV)(Q:bYS->bYV->Prop)(E:bYS->bYV->Prop),C i j->Q (.int (g i j) s.toks) {s with toks:=s.toks+1}->bY0 (bY2 X.prog X.w) X.A (f (.int i t) (.int j u)) Q E s): OpR X f (rI C λi j=> .int (g i j)):=by
 intro pins s σ H x y v u Q I d b h;obtain⟨i,j,rfl,rfl,e,q⟩:=h;obtain⟨t,rfl⟩:=d;obtain⟨c,rfl⟩:=b;exact a i j t c s _ _ e ⟨.int (g i j),H,I.tok _,⟨_,rfl⟩,q⟩
def bYm{f:bYS->bYS->Sem bYS}{g:Int->Int->Int} (a:∀ (i j:Int)(t u:Tok)(s:bYV)(Q:bYS->bYV->Prop)(E:bYS->bYV->Prop),Q (.int (g i j) s.toks) {s with toks:=s.toks+1}->bY0 (bY2 X.prog X.w) X.A (f (.int i t) (.int j u)) Q E s): OpR X f (rI0 λi j=> .int (g i j)):=by
 intro pins s σ H x y v u Q I d b h;obtain⟨i,j,rfl,rfl,q⟩:=h;obtain⟨t,rfl⟩:=d;obtain⟨c,rfl⟩:=b;exact a i j t c s _ _ ⟨.int (g i j),H,I.tok _,⟨_,rfl⟩,q⟩
def bKD{f:bYS->bYS->Sem bYS}{g:Int->Int->Bool} (a:∀ (i j:Int)(t u:Tok)(s:bYV)(Q:bYS->bYV->Prop)(E:bYS->bYV->Prop),Q (.bool (g i j)) s->bY0 (bY2 X.prog X.w) X.A (f (.int i t) (.int j u)) Q E s): OpR X f (rI0 λi j=> .bl (g i j)):=by
 intro pins s σ H x y v u Q I d b h;obtain⟨i,j,rfl,rfl,q⟩:=h;obtain⟨t,rfl⟩:=d;obtain⟨c,rfl⟩:=b;exact a i j t c s _ _ ⟨.bl (g i j),H,I,rfl,q⟩
def bYv(i j:Int):Prop:=0<j/\j<1073741824
def bYi(i j:Int):Prop:=0<=j/\j<=1000000/\i.natAbs<2 ^ 64
def bKJ(i j:Int):Prop:=(-(2 ^ 64)<i/\i<2 ^ 64)\/(-(2 ^ 64)<j/\j<2 ^ 64)
def bKJ.ok{i j:Int}(h:bKJ i j):IntMulOk i j:=by
 rcases h with⟨h1,h2⟩|⟨h1,h2⟩
 ·exact .of_left (intBits_le_64 h1 h2)
 ·exact .of_right (intBits_le_64 h1 h2)
def x9:OpR X (cZz .Add) (rI0 λi j=> .int (i+j)):=bYm λ_ _ _ _ _ _ _ q=>add_int q
def wU:OpR X (cZz .Sub) (rI0 λi j=> .int (i - j)):=bYm λ_ _ _ _ _ _ _ q=>sub_int q
def aVQ:OpR X (cZz .Mult) (rI bKJ λi j=> .int (i*j)):=opI λ_ _ _ _ _ _ _ a q=>mul_int q a.ok
def X6:OpR X (cZz .FloorDiv) (rI bYv λi j=> .int (i / j)):=opI λi j _ _ _ _ _ a q=>by
 have h1:(0:Int)<j:=a.1;have h2:j<1073741824:=a.2;exact floordiv_int (by omega) (by rw[Int.fdiv_eq_ediv_of_nonneg i (by omega)];exact q) (.inl (PyProof.noPylong_small (by omega)))
def y0:OpR X (cZz .Mod) (rI (λ_ j=>0<j) λi j=> .int (i % j)):=opI λi j _ _ _ _ _ a q=>by
 have h1:(0:Int)<j:=a;exact mod_int' (by omega) (by rw[Int.fmod_eq_emod_of_nonneg i (by omega)];exact q)
def aQC:OpR X (cZz .Pow) (rI bYi λi j=> .int (i ^ j.toNat)):=opI λ_ _ _ _ _ _ _ a q=>pow_int_small a.1 a.2.1 a.2.2 q
def unI{f:bYS->Sem bYS}{g:Int->Int} (a:∀ (i:Int)(t:Tok)(s:bYV)(Q:bYS->bYV->Prop)(E:bYS->bYV->Prop),Q (.int (g i) s.toks) {s with toks:=s.toks+1}->bY0 (bY2 X.prog X.w) X.A (f (.int i t)) Q E s): UnR X f (rU λi=> .int (g i)):=by
 intro pins s σ H x v Q I b h;obtain⟨i,rfl,q⟩:=h;obtain⟨t,rfl⟩:=b;exact a i t s _ _ ⟨.int (g i),H,I.tok _,⟨_,rfl⟩,q⟩
def aJk:UnR X (unaryOp .USub) (rU λi=> .int (-i)):=unI λ_ _ _ _ _ q=>neg_int q
end
def bYo:V->V->Bool
 |.non,.non=>true|.non,.int _=>true|.int _,.non=>true|.non,.bl _=>true|.bl _,.non=>true|.non,.str _=>true|.str _,.non=>true
 |.int _,.int _=>true|.bl _,.bl _=>true|.str _,.str _=>true|.byt _,.byt _=>true
 |.int _,.str _=>true|.str _,.int _=>true|.bl _,.str _=>true|.str _,.bl _=>true
 |_,_=>false
inductive rEq(x:V)(y:V)(H:Hp)(Q:VK):Prop|mk(_:bYo x y=true)(_:Q (.bl (decide (x=y))) H)
inductive rNe(x:V)(y:V)(H:Hp)(Q:VK):Prop|mk(_:bYo x y=true)(_:Q (.bl (!decide (x=y))) H)
def aKZ{i j:Int}:decide (V.int i=V.int j)=(i==j):=by
 rw[Bool.eq_iff_iff];simp
def bZ8{i j:Bool}:decide (V.bl i=V.bl j)=(i==j):=by
 rw[Bool.eq_iff_iff];simp
def aK0{i j:Str}:decide (V.str i=V.str j)=(i==j):=by
 rw[Bool.eq_iff_iff];simp
def aKY{i j:Array UInt8}:decide (V.byt i=V.byt j)=(i.toList==j.toList):=by
 rw[Bool.eq_iff_iff];cases i;cases j;simp
section
variable {X:Cx}{a b c:Expr}{ta tb tc:TE}{pos:Pos}
def xR{pins:List (Addr×Obj)}{σ:St}{H:Hp}{s:bYV}{Q:VK}{k a:Bool}(I:Inv X pins σ H s)(q:Q (.bl k) H)(e:k=a):EP X pins σ Q (.bool a) s:=by
 subst e;exact⟨.bl k,H,I,rfl,q⟩
def zI:OpR X (cXo .Eq) rEq:=by
 intro pins s σ H x y v u Q I d a h;obtain⟨c,q⟩:=h;cases x with
 |non=>
  cases d;cases y with
  |non=>cases a;exact PySem.EqNone.eq_none_none (xR I q (by simp))
  |bl j=>cases a;exact PySem.EqNone.eq_none_bool (xR I q (by simp))
  |int j=>obtain⟨b,rfl⟩:=a;exact PySem.EqNone.eq_none_int (xR I q (by simp))
  |str j=>obtain⟨b,rfl⟩:=a;exact PySem.EqNone.eq_none_str (xR I q (by simp))
  |_=>exact absurd (show false=true from c) Bool.false_ne_true
 |bl i=>
  cases d;cases y with
  |non=>cases a;exact PySem.EqNone.eq_bool_none (xR I q (by simp))
  |bl j=>cases a;exact eq_bool (xR I q bZ8)
  |str j=>obtain⟨b,rfl⟩:=a;exact PySem.EqMixed.eq_bool_str (xR I q (by simp))
  |_=>exact absurd (show false=true from c) Bool.false_ne_true
 |int i=>
  obtain⟨t,rfl⟩:=d;cases y with
  |non=>cases a;exact PySem.EqNone.eq_int_none (xR I q (by simp))
  |int j=>obtain⟨b,rfl⟩:=a;exact eq_int (xR I q aKZ)
  |str j=>obtain⟨b,rfl⟩:=a;exact PySem.EqMixed.eq_int_str (xR I q (by simp))
  |_=>exact absurd (show false=true from c) Bool.false_ne_true
 |str i=>
  obtain⟨t,rfl⟩:=d;cases y with
  |non=>cases a;exact PySem.EqNone.eq_str_none (xR I q (by simp))
  |bl j=>cases a;exact PySem.EqMixed.eq_str_bool (xR I q (by simp))
  |int j=>obtain⟨b,rfl⟩:=a;exact PySem.EqMixed.eq_str_int (xR I q (by simp))
  |str j=>obtain⟨b,rfl⟩:=a;exact eq_str (xR I q aK0)
  |_=>exact absurd (show false=true from c) Bool.false_ne_true
 |byt i=>
  obtain⟨t,rfl⟩:=d;cases y with
  |byt j=>obtain⟨b,rfl⟩:=a;exact PySem.W.eq_bytes (xR I q aKY)
  |_=>exact absurd (show false=true from c) Bool.false_ne_true
 |_=>cases y<;> exact absurd (show false=true from c) Bool.false_ne_true
def Y1:OpR X (cXo .NotEq) rNe:=by
 intro pins s σ H x y v u Q I d a h;obtain⟨c,q⟩:=h;cases x with
 |non=>
  cases d;cases y with
  |non=>cases a;exact PySem.EqNone.ne_none_none (xR I q (by simp))
  |bl j=>cases a;exact PySem.EqNone.ne_none_bool (xR I q (by simp))
  |int j=>obtain⟨b,rfl⟩:=a;exact PySem.EqNone.ne_none_int (xR I q (by simp))
  |str j=>obtain⟨b,rfl⟩:=a;exact PySem.EqNone.ne_none_str (xR I q (by simp))
  |_=>exact absurd (show false=true from c) Bool.false_ne_true
 |bl i=>
  cases d;cases y with
  |non=>cases a;exact PySem.EqNone.ne_bool_none (xR I q (by simp))
  |bl j=>cases a;exact ne_bool (xR I q (congrArg not bZ8))
  |str j=>obtain⟨b,rfl⟩:=a;exact PySem.EqMixed.ne_bool_str (xR I q (by simp))
  |_=>exact absurd (show false=true from c) Bool.false_ne_true
 |int i=>
  obtain⟨t,rfl⟩:=d;cases y with
  |non=>cases a;exact PySem.EqNone.ne_int_none (xR I q (by simp))
  |int j=>obtain⟨b,rfl⟩:=a;exact ne_int (xR I q (congrArg not aKZ))
  |str j=>obtain⟨b,rfl⟩:=a;exact PySem.EqMixed.ne_int_str (xR I q (by simp))
  |_=>exact absurd (show false=true from c) Bool.false_ne_true
 |str i=>
  obtain⟨t,rfl⟩:=d;cases y with
  |non=>cases a;exact PySem.EqNone.ne_str_none (xR I q (by simp))
  |bl j=>cases a;exact PySem.EqMixed.ne_str_bool (xR I q (by simp))
  |int j=>obtain⟨b,rfl⟩:=a;exact PySem.EqMixed.ne_str_int (xR I q (by simp))
  |str j=>obtain⟨b,rfl⟩:=a;exact ne_str (xR I q (congrArg not aK0))
  |_=>exact absurd (show false=true from c) Bool.false_ne_true
 |byt i=>
  obtain⟨t,rfl⟩:=d;cases y with
  |byt j=>obtain⟨b,rfl⟩:=a;exact PySem.W.ne_bytes (xR I q (congrArg not aKY))
  |_=>exact absurd (show false=true from c) Bool.false_ne_true
 |_=>cases y<;> exact absurd (show false=true from c) Bool.false_ne_true
def vM:OpR X (cXo .Lt) (rI0 λi j=> .bl (decide (i<j))):=bKD λ_ _ _ _ _ _ _ q=>lt_int q
def aYS:OpR X (cXo .LtE) (rI0 λi j=> .bl (decide (i<=j))):=bKD λ_ _ _ _ _ _ _ q=>le_int q
def aXh:OpR X (cXo .Gt) (rI0 λi j=> .bl (decide (j<i))):=bKD λ_ _ _ _ _ _ _ q=>gt_int q
def bKX:OpR X (cXo .GtE) (rI0 λi j=> .bl (decide (j<=i))):=bKD λ_ _ _ _ _ _ _ q=>ge_int q
inductive bVs(x:V)(y:V)(H:Hp)(Q:VK):Prop|mk(_:y= .non)(_:Q (.bl (decide (x= .non))) H)
def aXs:OpR X (cXo .Is) bVs:=by
 intro pins s σ H x y v u Q I a b h;obtain⟨rfl,q⟩:=h;cases b;refine is_none_gen (xR I q ?_);cases x<;> first
  |(cases a;rfl)
  |(obtain⟨t,rfl⟩:=a;rfl)
inductive bX7(x:V)(y:V)(H:Hp)(Q:VK):Prop|mk(_:y= .non)(_:Q (.bl (!decide (x= .non))) H)
def wA:OpR X (cXo .IsNot) bX7:=by
 intro pins s σ H x y v u Q I a b h;obtain⟨rfl,q⟩:=h;cases b;refine isnot_none_gen (xR I q ?_);cases x<;> first
  |(cases a;rfl)
  |(obtain⟨t,rfl⟩:=a;rfl)
def bJj(b:Expr){op:CmpOp}(h:op≠ .In:=by decide)(h2:op≠ .NotIn:=by decide):cZH op b=false:=by
 have c:(op==CmpOp.In)=false:=by cases op<;> first|rfl|exact absurd rfl h
 have a:(op==CmpOp.NotIn)=false:=by cases op<;> first|rfl|exact absurd rfl h2
 cases b<;> simp[cZH,c,a]
def zR{op:CmpOp}{r:R2}(d:OpR X (cXo op) r)(i:PE X a ta)(k:PE X b tb)(c:cZH op b=false:=by first|exact bJj _|with_unfolding_all rfl):PE X (.Compare a [op] [b] pos) (tOp r ta tb):=by
 intro pins s σ H Q I h;exact wpAny_Compare1 (bKQ i k I h λv u e x y H2 g j f q=>d pins e σ H2 x y v u Q g j f q) c
inductive bKu(Q:Bool->Hp->Prop)(x:V)(H':Hp):Prop|mk(k)(_:x= .bl k)(_:Q k H')
def bKt(t:TE):TT:=λσ H Q=>t σ H λx H'=>bKu Q x H'
def yM{op:CmpOp}{r:R2}(g:OpR X (cXo op) r)(i:PE X a ta)(d:PE X b tb)(f:cZH op b=false:=by first|exact bJj _|with_unfolding_all rfl):PT X (.Compare a [op] [b] pos) (bKt (tOp r ta tb)):=by
 intro pins s σ H Q I h;refine wpAny_isTrue_Compare1 (thn (i pins s σ H _ I h) λv s1 ⟨x,H1,I1,r1,q1⟩=>thn (d pins s1 σ H1 _ I1 q1) λu s2 ⟨y,H2,I2,r2,q2⟩=>
  thn (g pins s2 σ H2 x y v u _ I2 r1 r2 q2) λc s3 ⟨z,H3,I3,r3,k,e,q3⟩=>?_) f
 subst e;cases r3;exact cXT ⟨H3,I3,q3⟩
inductive bV9(r':R2)(tc:TE)(σ:St)(Q:VK)(y:V)(z:V)(H3:Hp):Prop|mk(k)(_:z= .bl k)(_:(if k=true then tc σ H3 λw' H4=>r' y w' H4 Q else Q (.bl false) H3))
def bKo(r a:R2)(ta tb tc:TE):TE:=λσ H Q=>ta σ H λx H1=>tb σ H1 λy H2=>r x y H2 λz b=>bV9 a tc σ Q y z b
def bZe{op f:CmpOp}{r i:R2}(m:OpR X (cXo op) r)(g:OpR X (cXo f) i)(o:PE X a ta)(p:PE X b tb)(q:PE X c tc) (l:lastMarks [op,f] [b,c]=false:=by with_unfolding_all rfl):PT X (.Compare a [op,f] [b,c] pos) (bKt (bKo r i ta tb tc)):=by
 intro pins s σ H Q I h;refine isTrue_chain (thn (o pins s σ H _ I h) λv s1 ⟨x,H1,I1,r1,q1⟩=>test_link (thn (p pins s1 σ H1 _ I1 q1) λu s2 ⟨y,H2,I2,r2,q2⟩=>
  thn (m pins s2 σ H2 x y v u _ I2 r1 r2 q2) λd s3 ⟨z,H3,I3,r3,k,e,q3⟩=>?_)) l
 subst e;cases r3;refine cXT ?_;cases k with
 |false=>obtain⟨t,j,n⟩:=q3;cases j;exact ite_ff ⟨H3,I3,n⟩
 |true=>refine ite_tt (test_last (thn (q pins s3 σ H3 _ I3 q3) λw' s4 ⟨z',H4,I4,r4,q4⟩=>thn (g pins s4 σ H4 y z' u w' _ I4 r2 r4 q4) λd' s5 ⟨z2,H5,I5,r5,k2,e2,q5⟩=>?_));subst e2;cases r5;exact cXT ⟨H5,I5,q5⟩
def aZN:(cQk:Nat)<2 ^ 63:=by rw[cQr];decide
inductive aJ0(x:V)(y:V)(H:Hp)(Q:VK):Prop|mk(i j)(_:x= .str i)(_:y= .str j)(_:i.length+j.length<=cQk)(_:Q (.str (i++j)) H)
def aXr:OpR X (cZz .Add) aJ0:=by
 intro pins s σ H x y v u Q I d a h;obtain⟨i,j,rfl,rfl,c,q⟩:=h;obtain⟨t,rfl⟩:=d;obtain⟨b,rfl⟩:=a;exact add_str (λb tk=>⟨.str (i++j),H,I.tok _,⟨_,rfl⟩,q⟩) c
def aQ7{x:V}{us:List bYS}(r:xW [x] us):∃u,us= [u]/\zO x u:=by
 cases r with
 |cons a b=>cases b;exact⟨_,rfl,a⟩
def bKy{x y:V}{us:List bYS}(r:xW [x,y] us):∃u a,us= [u,a]/\zO x u/\zO y a:=by
 cases r with
 |cons c e=>
  cases e with
  |cons b d=>cases d;exact⟨_,_,rfl,c,b⟩
inductive aWv(xs:List V)(H:Hp)(Q:VK):Prop|mk(i j)(_:xs= [.int i,.int j])(_:Q (.int (if j > i then j else i)) H)
def aKR(b:X.calm=true):qF X (.builtin "max") aWv:=by
 intro pins s σ H xs e Q I r h;obtain⟨i,j,rfl,q⟩:=h;obtain⟨u,c,rfl,⟨t,rfl⟩,⟨d,rfl⟩⟩:=bKy r;refine max_two_ints (I.ok.hd b) λh' tk k=>⟨_,H,I.kept k,?_,q⟩;by_cases a:j > i
 ·rw[if_pos a,if_pos a];exact⟨_,rfl⟩
 ·rw[if_neg a,if_neg a];exact⟨_,rfl⟩
inductive aWw(xs:List V)(H:Hp)(Q:VK):Prop|mk(i j)(_:xs= [.int i,.int j])(_:Q (.int (if j<i then j else i)) H)
def aKS(b:X.calm=true):qF X (.builtin "min") aWw:=by
 intro pins s σ H xs e Q I r h;obtain⟨i,j,rfl,q⟩:=h;obtain⟨u,c,rfl,⟨t,rfl⟩,⟨d,rfl⟩⟩:=bKy r;refine min_two_ints (I.ok.hd b) λh' tk k=>⟨_,H,I.kept k,?_,q⟩;by_cases a:j<i
 ·rw[if_pos a,if_pos a];exact⟨_,rfl⟩
 ·rw[if_neg a,if_neg a];exact⟨_,rfl⟩
def vC:qF X (.type Ao) (λxs H Q=>(∃i,xs= [.int i]/\Q (.int i) H)\/∃k,xs= [.bl k]/\Q (.int (if k then 1 else 0)) H):=by
 intro pins s σ H xs b Q I r h;rcases h with⟨i,rfl,q⟩|⟨k,rfl,q⟩
 ·obtain⟨u,rfl,t,rfl⟩:=aQ7 r;exact call_int_int ⟨.int i,H,I,⟨_,rfl⟩,q⟩
 ·obtain⟨u,rfl,a⟩:=aQ7 r;cases a;exact call_int_bool ⟨.int (if k then 1 else 0),H,I.tok _,⟨_,rfl⟩,q⟩
end
end L2
namespace L2
open PySem PySem.Spec PyProof.Rows
structure bJE(h:Heap)(x dx C:Addr)(mA:Str->Option bYS):Prop where
 obj:h.get? x=some (cX6 C dx)
 ns:h.Ns1 dx mA
 ne:dx≠x
def aZO{h:Heap}{dx:Addr}{mA:Str->Option bYS}(n:h.Ns1 dx mA):∃c,h.get? dx=some c/\∀name,cJU name c=some (mA name):=by
 obtain⟨o,es,l,i,f,d,_,g⟩:=n;refine⟨o,i,λname=>?_⟩;have e:=g name;unfold nsFind findBy at e;rw[<- Array.find?_toList]at e;unfold cJU;rw[f];dsimp only;split
 ·rename_i y q;rw[q]at e;exact congrArg some e
 ·rename_i q;rw[q]at e;have a:es.toList.any (·.refKey)=false:=by
   rw[List.any_eq_false];intro y k;obtain⟨z,t,b⟩:=d y (Array.mem_toList_iff.mp k);simp[DictEntry.refKey,b]
  have j:¬es.toList.any (·.refKey)=true:=by rw[a];exact Bool.false_ne_true
  rw[if_neg j];exact congrArg some e
def bJE.look{h:Heap}{x dx C:Addr}{mA:Str->Option bYS}(I:bJE h x dx C mA):∃a,PySem.W.InstAt h x (cX6 C dx) C (some a)/\∀name,cJU name a=some (mA name):=
 let ⟨a,ho,hl⟩:=aZO I.ns
 ⟨a,⟨I.obj,rfl,rfl,ho⟩,hl⟩
section
variable {prog:cQe}{w:cQm}{A:cQA}{E:bYS->bYV->Prop}{s:bYV}{K:bYT}{x dx C f:Addr}{mA:Str->Option bYS}{name:Str}{v:bYS}
def bJV{a:Bool}{Q:bYS->bYV->Prop}(X:K.In s.heap)(I:bJE s.heap x dx C mA)(c:cZy K C name=true)(f:cZR K C=true) (e:cQE K (.ref C) name=some none) (d:mA name=some v) (b:PySem.W.handedIn v=true) (h:Q v {s with toks:=s.toks+1}): bY0 (bY2 prog w) A (getAttr (.ref x) name a) Q E s:=by
 obtain⟨g,J,hl⟩:=I.look;exact PySem.W.get_value X J (cJR c).1 (PySem.W.findObj_own f e rfl (by rw[hl,d])) b h
def bXm{pl:Sem Bool}{Q:bYS×List bYS->bYV->Prop}(X:K.In s.heap)(I:bJE s.heap x dx C mA)(a:cZy K C name=true) (b:cQE K (.ref C) name=some (some (.ref f))) (e:cZx K (.ref f)=true) (c:mA name=none) (h:Q (.ref f,[.ref x]) s): bY0 (bY2 prog w) A (cJk (.ref x) name pl) Q E s:=by
 obtain⟨d,J,hl⟩:=I.look;exact PySem.W.method_fn X J (cJR a).1 (cJR a).2 b (beq_iff_eq.mp e) (by show(cJU name d).map (·.isSome)=some false;rw[hl,c];rfl) h
def bV3{j:List Str}{Q:Unit->bYV->Prop}(X:K.In s.heap)(I:bJE s.heap x dx C mA) (n:cQE K (.ref C) Ax=some (some (.builtin "object.__setattr__"))) (o:cJq K C=true) (q:PySem.W.takerIn K C name=some none) (l:cZR K C=true) (hw:PySem.Within mA j) (hsz:j.length<=cQk) (h:∀h',bJE h' x dx C (λy=>if y=name then some v else mA y)->cXW dx s.heap h'->Q () {s with heap:=h',toks:=s.toks+2}): bY0 (bY2 prog w) A (setAttr (.ref x) name v) Q E s:=by
 obtain⟨B,J,hl⟩:=I.look;refine PySem.W.set_plain X J n (PySem.W.osa_open (s:={s with toks:=s.toks+1}) (r:=none) X J o q λb=>?_);obtain⟨u,p,f⟩:=PySem.W.any_some l;have k:s.heap.get? x=some ⟨.ref C,some dx,.plain, #[]⟩:=I.obj;refine bYU (bYY (bYU (bYU (wpAny_loadPart k (bYU (PySem.W.Looks.here (s:={s with toks:=s.toks+1}) (PySem.W.looks_clsIn X p) ?_))))));rw[f];refine bYY (a:=some dx) (bYU (bYY (bYU ?_)));refine wpAny_nsSet1 (s:={s with toks:=s.toks+1}) I.ns λh' c d=>?_;obtain⟨z,t,m,g,i,e⟩:=c.count (PySem.Within.cons name v hw);refine bYU (wpAny_lookBehind g (by rw[i];exact pastItsLine_dict (cQv e (by rw[cQR];omega))) ?_);exact bYY (h _ ⟨(d.2 _ (cQB I.ne)).trans I.obj,c,I.ne⟩ d)
def bXF{R:Result->bYV->Prop}{vs:List bYS}{a:List (Str×bYS)}(X:K.In s.heap)(c:PySem.W.makesIn K C=true) (hi:cQE K (.ref C) AE=some (some (.ref f))) (b:PySem.W.typeIn K (.ref f)=some (.type "function")) (h:cZb (bY2 prog w) (A.under (.builtin "type.__call__" ⟨.ref C::vs,a⟩)) (.call (.ref f) ⟨.ref (s.heap.objs.size+1)::vs,a⟩) (PySem.W.InitBack (s.heap.objs.size+1) R) {s with heap:=(s.heap.push cXC).push (cX6 C s.heap.objs.size) }): cZb (bY2 prog w) A (.call (.ref C) ⟨vs,a⟩) R s:=by
 obtain⟨i,g,d,t,e⟩:=s;exact PySem.W.make_core (PySem.W.makes_of X c) (PySem.W.looks_findIn X hi) (λself=>PySem.W.bind_fn X self b) (.inl rfl) h
end
def aXi(f:Str)(v:V):List (Str×V)->List (Str×V)
 |[]=> [(f,v)]
 |(g,x)::r=>if g=f then(g,v)::r else(g,x)::aXi f v r
def aQw(f g:Str)(v:V):∀fs:List (Str×V),(aXi f v fs).lookup g=if g=f then some v else fs.lookup g
 |[]=>by
  show cZd g [(f,v)]=_;by_cases h:g=f
  ·have a:(g==f)=true:=beq_iff_eq.mpr h;simp only[cZd,a,if_pos h]
  ·have a:(g==f)=false:=beq_eq_false_iff_ne.mpr h;simp only[cZd,a,if_neg h]
 |(k,x)::r=>by
  have c:=aQw f g v r;rw[show aXi f v ((k,x)::r)=(if k=f then(k,v)::r else(k,x)::aXi f v r)from rfl];by_cases b:k=f
  ·rw[if_pos b];by_cases h:g=k
   ·have a:(g==k)=true:=beq_iff_eq.mpr h;simp only[cZd,a,if_pos (h.trans b)]
   ·have a:(g==k)=false:=beq_eq_false_iff_ne.mpr h;simp only[cZd,a,if_neg (λe:g=f=>h (e.trans b.symm))]
  ·rw[if_neg b];by_cases h:g=k
   ·have a:(g==k)=true:=beq_iff_eq.mpr h;simp only[cZd,a,if_neg (λe:g=f=>b (h.symm.trans e))]
   ·have a:(g==k)=false:=beq_eq_false_iff_ne.mpr h;simp only[cZd,a];exact c
def aQn(f:Str)(v:V):∀fs:List (Str×V),f∈(aXi f v fs).map (·.1)/\∀g,g∈fs.map (·.1)->g∈(aXi f v fs).map (·.1)
 |[]=>⟨by simp[aXi],λg h=>by simp at h⟩
 |(k,x)::r=>by
  obtain⟨c,b⟩:=aQn f v r;rw[show aXi f v ((k,x)::r)=(if k=f then(k,v)::r else(k,x)::aXi f v r)from rfl];by_cases a:k=f
  ·rw[if_pos a];subst a;exact⟨by simp,λg h=>by simpa using h⟩
  ·rw[if_neg a];refine⟨?_,λg h=>?_⟩
   ·rw[cQF];exact bY4 _ c
   ·rw[cQF]at h ⊢;rcases bY1.mp h with e|e
    ·exact bY1.mpr (.inl e)
    ·exact bY4 _ (b g e)
def aQv(f:Str)(v:V):∀fs:List (Str×V),(aXi f v fs).length<=fs.length+1
 |[]=>by simp[aXi]
 |(k,x)::r=>by
  have b:=aQv f v r;rw[show aXi f v ((k,x)::r)=(if k=f then(k,v)::r else(k,x)::aXi f v r)from rfl];by_cases a:k=f
  ·rw[if_pos a,cQR,cQR];omega
  ·rw[if_neg a,cQR,cQR];omega
def aZi.some_of{v:V}{o:Option bYS}(r:aZi (some v) o):∃u,o=some u/\zO v u:=by
 cases o with
 |none=>exact(show False from r).elim
 |some u=>exact⟨u,rfl,r⟩
def aZi.none_of{o:Option bYS}(r:aZi none o):o=none:=by
 cases o with
 |none=>rfl
 |some u=>exact(show False from r).elim
def aZB{v:V}{u:bYS}(r:zO v u):PySem.W.handedIn u=true:=by
 cases v with
 |non=>cases (show u=Value.none from r);rfl
 |bl b=>cases (show u=Value.bool b from r);rfl
 |int i=>obtain⟨t,e⟩:=(show ∃t,u=Value.int i t from r);cases e;rfl
 |str x=>obtain⟨t,e⟩:=(show ∃t,u=Value.str x t from r);cases e;rfl
 |byt b=>obtain⟨t,e⟩:=(show ∃t,u=Value.bytes b t from r);cases e;rfl
 |flt b=>obtain⟨t,e⟩:=(show ∃t,u=Value.float b t from r);cases e;rfl
 |ref a=>cases (show u=Value.ref a from r);rfl
 |ty n=>cases (show u=Value.type n from r);rfl
section
variable {P:cQe}{w:cQm}{H H':Hp}{h h':Heap}{a C dx:Addr}{fs fs':List (Str×V)}
def aQk(b:HOk P w H h)(e:H a=some (.ins C dx fs)):∃mA,bJE h a dx C mA/\(∀f,aZi (fs.lookup f) (mA f))/\PySem.Within mA (fs.map (·.1))/\fs.length<=1000/\H dx=some (.own a):=by
 obtain⟨d,z,ne,c,mA,n,r,q⟩:=(show zH P w H h a (.ins C dx fs)from b a _ e);exact⟨mA,⟨c,n,ne⟩,r,q,z,d⟩
end
structure Cls(K:bYT)(C:Addr):Prop where
 pg:cZy K C Str.empty=true
 hd:cZR K C=true
 po:cJq K C=true
 sa:cQE K (.ref C) Ax=some (some (.builtin "object.__setattr__"))
def Cls.get{K:bYT}{C:Addr}(c:Cls K C)(f:Str):cZy K C f=true:=c.pg
def wL(K:bYT)(C:Addr)(f:Str):Prop:=cQE K (.ref C) f=some none
def wL.taker{K:bYT}{C:Addr}{f:Str}(n:wL K C f):PySem.W.takerIn K C f=some none:=by
 unfold PySem.W.takerIn;rw[show cQE K (.ref C) f=some none from n];rfl
structure bWj(K:bYT)(C:Addr)(m:Str)(f:Addr):Prop where
 at_:cQE K (.ref C) m=some (some (.ref f))
 fn:cZx K (.ref f)=true
 kp:cQO K (.ref f)=true
section
variable {X:Cx}{pins:List (Addr×Obj)}{σ:St}{H:Hp}{s:bYV}{a C dx:Addr}{fs:List (Str×V)}{f:Str}{v:V}{A:cQA}{E:bYS->bYV->Prop}
def aWG{b:Bool}{Q:bYS->bYV->Prop}(I:Inv X pins σ H s)(e:H a=some (.ins C dx fs))(c:Cls X.K C)(n:wL X.K C f)(l:fs.lookup f=some v) (h:∀u s',Inv X pins σ H s'->zO v u->Q u s'):bY0 (bY2 X.prog X.w) A (getAttr (.ref a) f b) Q E s:=by
 obtain⟨mA,O,r,_,_,_⟩:=aQk I.hok e;obtain⟨u,g,d⟩:=aZi.some_of (v:=v) (o:=mA f) (by rw[<- l];exact r f);exact bJV I.kIn O (c.get f) c.hd n g (aZB d) (h u _ (I.tok _) d)
def X4{m:Str}{g:Addr}{pl:Sem Bool}{Q:bYS×List bYS->bYV->Prop}(I:Inv X pins σ H s)(e:H a=some (.ins C dx fs))(c:Cls X.K C)(k:bWj X.K C m g)(l:fs.lookup m=none) (h:Q (.ref g,[.ref a]) s):bY0 (bY2 X.prog X.w) A (cJk (.ref a) m pl) Q E s:=by
 obtain⟨mA,O,r,_,_,_⟩:=aQk I.hok e;have b:mA m=none:=aZi.none_of (by rw[<- l];exact r m);exact bXm I.kIn O (c.get m) k.at_ k.fn b h
def aKB{y:V}{u:bYS}{Q:Unit->bYV->Prop}(I:Inv X pins σ H s)(e:H a=some (.ins C dx fs))(c:Cls X.K C)(n:wL X.K C f)(hl:fs.length<1000)(m:zO y u) (h:∀s',Inv X pins σ (upd H a (.ins C dx (aXi f y fs))) s'->Q () s'):bY0 (bY2 X.prog X.w) A (setAttr (.ref a) f u) Q E s:=by
 obtain⟨mA,O,r,i,_,j⟩:=aQk I.hok e;have t:(fs.map (·.1)).length<=cQk:=by rw[bYW,cQr];omega
 refine bV3 I.kIn O c.sa c.po n.taker c.hd i t λh' d p=>h _ ?_;have k:∃o,h'.get? dx=some o:=let ⟨o,_,_,e',_⟩:=d.ns;⟨o,e'⟩;refine I.write (x:=a) (e:=dx) (by rw[e];exact cXg) (.inr j) (λb q v z=>(p.2 b v).trans z) k ?_;refine⟨by rw[yI O.ne];exact j,?_,O.ne,d.obj,_,d.ns,λg=>?_,λg l=>?_⟩
 ·have:=aQv f y fs;omega
 ·show aZi ((aXi f y fs).lookup g) (if g=f then some u else mA g);rw[aQw];by_cases q:g=f
  ·rw[if_pos q,if_pos q];exact m
  ·rw[if_neg q,if_neg q];exact r g
 ·by_cases q:g=f
  ·rw[q];exact(aQn f y fs).1
  ·refine(aQn f y fs).2 g (i g λz=>l ?_);show(if g=f then some u else mA g)=none;rw[if_neg q];exact z
def Inv.made(I:Inv X pins σ H s):Inv X pins σ (upd (upd H s.heap.objs.size (.own (s.heap.objs.size+1))) (s.heap.objs.size+1) (.ins C s.heap.objs.size [])) {s with heap:=(s.heap.push cXC).push (cX6 C s.heap.objs.size) }:=by
 have c:(s.heap.push cXC).get? s.heap.objs.size=some cXC:=cQn s.heap rfl;have f:((s.heap.push cXC).push (cX6 C s.heap.objs.size)).get? (s.heap.objs.size+1)=some (cX6 C s.heap.objs.size):=by have:=cQn (s.heap.push cXC) (o:=cX6 C s.heap.objs.size) rfl;rwa [cXs]at this
 have d:(s.heap.push cXC).Ns s.heap.objs.size (λ_=>none):=⟨cXC, #[],_,c,rfl,(λe h=>absurd h (by simp)),λ_=>rfl⟩;have g:=I.laid (a:=s.heap.objs.size) (o:= .own (s.heap.objs.size+1)) (h':=s.heap.push cXC) (t':=s.toks) (λb u q=>bYX _ q) (bYZ _) ⟨_,c⟩;refine g.laid (a:=s.heap.objs.size+1) (o:= .ins C s.heap.objs.size []) (t':=s.toks) (λb u q=>bYX _ q) (cZu (cXs _ _)) ?_;have ne:s.heap.objs.size≠s.heap.objs.size+1:=cQj (cXJ _);refine⟨by rw[yI ne,yB],cQQ _,ne,f,λ_=>none,(Heap.Ns1.of_empty d).at λo q=>bYX _ q,λ_=>cXg,λy i=>absurd rfl i⟩
def aKO{prog:cQe}{w:cQm}{env:Env}{e:Expr}{f:Str}{pos:Pos}{s:bYV}{Q:bYS->bYV->Prop}(b:cZG e f env (eval e env)=eval e env) (h:bY0 (bY2 prog w) A (eval e env) (λo a=>bY0 (bY2 prog w) A (getAttr o f true) Q E a) E s):bY0 (bY2 prog w) A (eval (.Attribute e f pos) env) Q E s:=
 Attribute_any_ h (by rw[arm_eval_Attribute,b])
end
inductive bYb(K:bYT)(f:Str)(Q:VK)(x:V)(H1:Hp):Prop|mk(a C dx fs v)(_:x= .ref a)(_:H1 a=some (.ins C dx fs))(_:Cls K C)(_:wL K C f)(_:fs.lookup f=some v)(_:Q v H1)
def bYp(K:bYT)(ta:TE)(f:Str):TE:=λσ H Q=>ta σ H λx H1=>bYb K f Q x H1
inductive bK6(K:bYT)(f:Str)(D:aJo)(σ:St)(y:V)(x:V)(H2:Hp):Prop|mk(a C dx fs)(_:x= .ref a)(_:H2 a=some (.ins C dx fs))(_:Cls K C)(_:wL K C f)(_:fs.length<1000)(_:D.nx σ (upd H2 a (.ins C dx (aXi f y fs))))
def bYJ(K:bYT)(ta tv:TE)(f:Str):TS:=λD σ H=>tv σ H λy H1=>ta σ H1 λx H2=>bK6 K f D σ y x H2
section
variable {X:Cx}{o e value:Expr}{f:Str}{pos pos' tpos:Pos}{ta tv:TE}
def y3(g:PE X e ta)(b:cZG e f X.env (eval e X.env)=eval e X.env):PE X (.Attribute e f pos) (bYp X.K ta f):=by
 intro pins s σ H Q I h;refine aKO b (thn (g pins s σ H _ I h) λu s1 ⟨x,H1,I1,rx,a,C,dx,fs,v,ex,ea,c,n,l,q⟩=>?_);subst ex;obtain rfl:u=Value.ref a:=rx;exact aWG I1 ea c n l λk j d i=>⟨v,H1,d,i,q⟩
def zQ(g:PE X o ta)(e:PE X value tv)(d:swapsWith value (some (.Attribute o f pos')) pos.line X.env=pure false):PS X (.Assign [.Attribute o f pos'] value pos) (bYJ X.K ta tv f):=by
 intro pins s σ H D I h;refine cJB (thn (e pins s σ H _ I h) λu s1 ⟨y,H1,I1,ry,q⟩=>thn (g pins s1 σ H1 _ I1 q) λov s2 ⟨x,H2,I2,rx,a,C,dx,fs,ex,ea,c,n,l,q2⟩=>?_) d;subst ex;obtain rfl:ov=Value.ref a:=rx;exact aKB I2 ea c n l ry λi b=>⟨σ,_,b,q2⟩
def bJ6{pl:Sem Bool}{m:Str}{apos:Pos}{args:List Expr}{pins:List (Addr×Obj)}{s:bYV}{σ:St}{H:Hp}{Q:bYS->bYV->Prop}{te:TE}(d:PE X e te)(I:Inv X pins σ H s)
  (h:te σ H λx H1=>∃a C dx fs g,x= .ref a/\H1 a=some (.ins C dx fs)/\Cls X.K C/\bWj X.K C m g/\fs.lookup m=none/\
   ∀b,Inv X pins σ H1 b->bY0 (bY2 X.prog X.w) X.A (callWith pos (.ref g) [.ref a] (cXw pos (cQy args X.env)) (cZ4 pos (cZe [] X.env))) Q X.xe b)
  (i:eval (.Call (.Attribute e m apos) args [] pos) X.env=(do
   let ov <- eval e X.env
   standAt apos.atName
   let (f,first) <- cJc [ov] (cJk ov m pl)
   callWith pos f first (cXw pos (cQy args X.env)) (cZ4 pos (cZe [] X.env)))):
  bY0 (bY2 X.prog X.w) X.A (eval (.Call (.Attribute e m apos) args [] pos) X.env) Q X.xe s:=by
 refine cZV (pl:=pl) (thn (d pins s σ H _ I h) λu b ⟨x,H1,I1,rx,a,C,dx,fs,g,ex,ea,c,k,l,q⟩=>?_) i
 subst ex
 obtain rfl:u=Value.ref a:=rx
 exact X4 I1 ea c k l (q b I1)
end
section
variable {X:Cx}{pins:List (Addr×Obj)}{σ:St}{H:Hp}{s:bYV}{A:cQA}{E:bYS->bYV->Prop}{Q:bYS->bYV->Prop}{c:bYS}{b:Bool}
inductive aJr(K:bYT)(H:Hp):V->bYS->Prop where
 |non:aJr K H .non (.type "NoneType")
 |bl (x:Bool):aJr K H (.bl x) (.type Aj)
 |int (i:Int):aJr K H (.int i) (.type Ao)
 |str (x:Str):aJr K H (.str x) (.type Ap)
 |flt (x:UInt64):aJr K H (.flt x) (.type "float")
 |lst {a:Addr} {xs:List V} (e:H a=some (.lst xs)):aJr K H (.ref a) (.type AB)
 |frz {a:Addr} {o:Obj} {xs:List V} (e:H a=some (.frz o (.lst xs))):aJr K H (.ref a) (.type AB)
 |tup {a:Addr} {xs:List V} (e:H a=some (.tup xs)):aJr K H (.ref a) (.type AD)
 |dK {a:Addr} {kvs:List (Key×V)} (e:H a=some (.dK kvs)):aJr K H (.ref a) (.type "dict")
 |dT {a:Addr} {kvs:List (List Key×V)} (e:H a=some (.dT kvs)):aJr K H (.ref a) (.type "dict")
 |ins {a C dx:Addr} {fs:List (Str×V)} (e:H a=some (.ins C dx fs)) (cl:Cls K C) (ha:cQE K (.ref C) "__class__"=some (some (.builtin "object.__class__")))
   (hn:cJr K (.builtin "object.__class__") "__get__"=some (some (.builtin "getset_descriptor.__get__"))) (htk:PySem.W.takesIn K (.builtin "object.__class__")=some true)
   (hm:cZ7 K C (.type "object")=some true):aJr K H (.ref a) (.ref C)
def aYe{x:V}{u t:bYS}(I:Inv X pins σ H s)(d:zO x u)(ty:aJr X.K H x t)(e:cQK X.K t c=some b)(h:∀tk,Q (.bool b) {s with toks:=tk}): bY0 (bY2 X.prog X.w) A (call (.builtin AY) [u,c]) Q E s:=by
 cases ty with
 |non=>cases (show u=Value.none from d);exact cXu PySem.W.kitx_none I.kIn cXg e (λz=>nomatch z) h
 |bl y=>cases (show u=Value.bool y from d);exact cXu PySem.W.kitx_bool I.kIn cXg e (λz=>nomatch z) h
 |int i=>obtain⟨t,q⟩:=(show ∃t,u=Value.int i t from d);cases q;exact cXu PySem.W.kitx_int I.kIn cXg e (λz=>nomatch z) h
 |str y=>obtain⟨t,q⟩:=(show ∃t,u=Value.str y t from d);cases q;exact cXu PySem.W.kitx_str I.kIn cXg e (λz=>nomatch z) h
 |flt y=>obtain⟨t,q⟩:=(show ∃t,u=Value.float y t from d);cases q;exact cXu PySem.W.kitx_float I.kIn cXg e (λz=>nomatch z) h
 |@lst a xs f=>cases (show u=Value.ref a from d);obtain⟨_,_,n,_,h1⟩:=(show zH X.prog X.w H s.heap a (.lst xs)from I.hok a _ f);exact cXu cJp I.kIn ⟨_,h1,rfl⟩ e (λz=>nomatch z) h
 |@frz a k xs f=>cases (show u=Value.ref a from d);obtain⟨_,_,_,n,_,h1⟩:=(show zH X.prog X.w H s.heap a (.frz k (.lst xs))from I.hok a _ f);exact cXu cJp I.kIn ⟨_,h1,rfl⟩ e (λz=>nomatch z) h
 |@tup a xs f=>cases (show u=Value.ref a from d);obtain⟨_,_,_,p⟩:=(show zH X.prog X.w H s.heap a (.tup xs)from I.hok a _ f);obtain⟨o,h1,h2,_⟩:=p;exact cXu PySem.W.kitx_tuple I.kIn ⟨o,h1,h2⟩ e (λz=>nomatch z) h
 |@dK a g f=>cases (show u=Value.ref a from d);obtain⟨_,_,B,_,p⟩:=(show zH X.prog X.w H s.heap a (.dK g)from I.hok a _ f);obtain⟨o,es,r,h1,h2,_⟩:=p;exact cXu cJo I.kIn ⟨o,h1,h2.1⟩ e (λz=>nomatch z) h
 |@dT a g f=>cases (show u=Value.ref a from d);obtain⟨_,_,xs,_,o,es,r,h1,h2,_⟩:=(show zH X.prog X.w H s.heap a (.dT g)from I.hok a _ f);exact cXu cJo I.kIn ⟨o,h1,h2.1⟩ e (λz=>nomatch z) h
 |@ins a C dx fs f cl v m j l=>cases (show u=Value.ref a from d);obtain⟨mA,O,_⟩:=aQk I.hok f;obtain⟨D,J,_⟩:=O.look;exact cXu (PySem.W.kitx_own (cl.get _) cl.hd v m j l) I.kIn J e (λz=>nomatch z) h
end
end L2
namespace L2
open PySem PySem.Spec PyProof.Rows
structure vX(k:Nat)(A:cQA):Prop where
 hd:A.handled=none
 dp:A.depth+3*k+5<recursionLimit
 un:A.units+16*k+200<cLine
def vX.mono{j k:Nat}{A:cQA}(r:vX k A)(h:j<=k):vX j A:=⟨r.hd,by have:=r.dp;omega,by have:=r.un;omega⟩
def vX.deeper{k:Nat}{A:cQA}(r:vX (k+1) A)(env:Env):vX k (A.deeper env):=
 ⟨r.hd,by have:=r.dp;show A.depth+1+3*k+5<_;omega,by have:=r.un;show A.units+3+16*k+200<_;omega⟩
def aWT{A:cQA}{C:Addr}{us:List bYS}{a:List (Str×bYS)}:(A.under (.builtin "type.__call__" ⟨.ref C::us,a⟩)).depth=A.depth+1:=by
 first|rfl|simp[Around.under,Code.weight,Code.isCreation,Code.isGuard,Code.isCaller,Code.frames,Code.isFrame,guardIds]
def aWU{A:cQA}{C:Addr}{us:List bYS}{a:List (Str×bYS)}:(A.under (.builtin "type.__call__" ⟨.ref C::us,a⟩)).units=A.units+1:=by
 first|rfl|simp[Around.under,Code.cUnits,Code.frames,Code.isFrame]
def vX.make{k:Nat}{A:cQA}(r:vX (k+1) A)(C:Addr)(us:List bYS)(a:List (Str×bYS)):vX k (A.under (.builtin "type.__call__" ⟨.ref C::us,a⟩)):=
 ⟨r.hd,by have:=r.dp;rw[aWT];omega,by have:=r.un;rw[aWU];omega⟩
def vX.depth{k:Nat}{A:cQA}(r:vX k A):A.depth<recursionLimit:=by have:=r.dp;omega
def vX.units{k:Nat}{A:cQA}(r:vX k A):A.units+64<cLine:=by have:=r.un;omega
def vX.units0{k:Nat}{A:cQA}(r:vX k A):A.units<cLine:=by have:=r.un;omega
def bZQ:TA:=λ_ H Q=>Q [] H
def aKE(ta:TE)(a:TA):TA:=λσ H Q=>ta σ H λx H1=>a σ H1 λxs H2=>Q (x::xs) H2
section
variable {X:Cx}{e:Expr}{es:List Expr}{te:TE}{t:TA}{pos:Pos}
def yD:PA X [] bZQ:=λ_ _ _ _ H Q I h=>Calls.spliced_nil ⟨[],H,I,.nil,h⟩
def yA(c:PE X e te)(a:PA X es t)(b:cQy (e::es) X.env=(false,eval e X.env)::cQy es X.env:=by rfl):PA X (e::es) (aKE te t):=by
 intro pos pins s σ H Q I h;rw[b];show bY0 _ _ (spliced ((false,eval e X.env)::cXw pos (cQy es X.env))) _ _ s;refine Calls.spliced_cons (thn (c pins s σ H _ I h) λu s1 ⟨x,H1,I1,r1,q1⟩=>?_);exact thn (a pos pins s1 σ H1 _ I1 q1) λus s2 ⟨xs,H2,I2,r2,q2⟩=>⟨x::xs,H2,I2,.cons r1 r2,q2⟩
inductive bYh(Q:VK)(xs:List V)(H1:Hp):Prop|mk(_:xs.length<=cQk)(_:∀p,H1 p=none->Q (.ref p) (upd H1 p (.tup xs)))
def bYs(t:TA):TE:=λσ H Q=>t σ H λxs H1=>bYh Q xs H1
inductive bYc(Q:VK)(xs:List V)(H1:Hp):Prop|mk(_:xs.length<=cQk)(_:∀p,H1 p=none->Q (.ref p) (upd H1 p (.lst xs)))
def bYq(t:TA):TE:=λσ H Q=>t σ H λxs H1=>bYc Q xs H1
def xG{x1}(h:PA X es t):PE X (.Tuple es x1 pos) (bYs t):=by
 intro pins s σ H Q I a;refine wpAny_Tuple_spliced (thn (h pos pins s σ H _ I a) λus s1 ⟨xs,H1,I1,r,z,q⟩=>⟨by rw[<- r.length];exact z,?_⟩);have c:H1 s1.heap.objs.size=none:=I1.hok.fresh (bYZ _);refine⟨.ref s1.heap.objs.size,upd H1 s1.heap.objs.size (.tup xs),I1.laid (t':=s1.toks) (λb u e=>bYX _ e) (bYZ _) ?_,rfl,q _ c⟩;exact⟨z,us,r,⟨_,cQn _ rfl,rfl,_,rfl⟩⟩
def y6(h:PA X es t):PE X (.List es pos) (bYq t):=by
 intro pins s σ H Q I a;refine wpAny_List_spliced (thn (h pos pins s σ H _ I a) λus s1 ⟨xs,H1,I1,r,z,q⟩=>⟨by rw[<- r.length];exact z,?_⟩);have c:H1 s1.heap.objs.size=none:=I1.hok.fresh (bYZ _);refine⟨.ref s1.heap.objs.size,upd H1 s1.heap.objs.size (.lst xs),I1.laid (t':=s1.toks) (λb u e=>bYX _ e) (bYZ _) ?_,rfl,q _ c⟩;exact⟨z,us,0,r,cQn _ rfl⟩
end
abbrev Sp:=List V->Hp->VK->XK->Prop
abbrev CXT:=List Env->Hp->bYV->XK->bYS->bYV->Prop
structure bJC(P:cQe)(w:cQm)(K:bYT)(mg:Str->Option bYS)(base:Heap)(A:cQA)(outer:List Env)(s:bYV)(H:Hp):Prop where
 frames:A.frames=some outer
 mod:Mod K mg base
 bs:∀b o,base.get? b=some o->s.heap.get? b=some o/\H b=none
 bsz:base.objs.size<=s.heap.objs.size
 funs:s.heap.FunFrames base outer
 frf:∀b∈frs outer,H b=none
 hok:HOk P w H s.heap
 bare:AllBare s.gens
def CE(outer:List Env)(P:cQe)(w:cQm)(H:Hp)(s:bYV)(Q:VK)(u:bYS)(s':bYV):Prop:=
 ∃v H',s'.os=s.os/\AllBare s'.gens/\Un (frs outer) [] H H' s.heap s'.heap/\HOk P w H' s'.heap/\zO v u/\Q v H'
def CR(CX:CXT)(outer:List Env)(P:cQe)(w:cQm)(H:Hp)(s:bYV)(Q:VK)(E:XK)(r:Result)(s':bYV):Prop:=
 match r with
 |.ok (.ret u)=>CE outer P w H s Q u s'
 |.ok _=>False
 |.error e=>CX outer H s E e s'
structure xE(P:cQe)(w:cQm)(K:bYT)(mg:Str->Option bYS)(base:Heap)(CX:CXT)(k:Nat)(f:Addr)(fd:cXR)(ps:List Str)(sp:Sp):Prop where
 len:∀vs H Q E,sp vs H Q E->vs.length=ps.length
 run:∀ (A:cQA)(outer:List Env)(s:bYV)(H:Hp)(args:Args)(us:List bYS)(vs:List V)(Q:VK)(E:XK),vX k A->bJC P w K mg base A outer s H->BindsTo s fd args (ps.zip us)->xW vs us->sp vs H Q E->
  cZb (bY2 P w) A (.call (.ref f) args) (CR CX outer P w H s Q E) s
def xE.mono{P:cQe}{w:cQm}{K:bYT}{mg:Str->Option bYS}{base:Heap}{CX:CXT}{j k:Nat}{f:Addr}{fd:cXR}{ps:List Str}{sp:Sp}(F:xE P w K mg base CX j f fd ps sp)(h:j<=k):
  xE P w K mg base CX k f fd ps sp:=⟨F.len,λA outer s H args c a Q E b=>F.run A outer s H args c a Q E (b.mono h)⟩
def bJC.make{P:cQe}{w:cQm}{K:bYT}{mg:Str->Option bYS}{base:Heap}{A:cQA}{outer:List Env}{s:bYV}{H:Hp}(e:bJC P w K mg base A outer s H)(C:Addr)(us:List bYS)(a:List (Str×bYS)):
  bJC P w K mg base (A.under (.builtin "type.__call__" ⟨.ref C::us,a⟩)) outer s H:=⟨by first|exact e.frames|(simpa[Around.under,Code.envs,Code.isFrame,pushEnvs]using e.frames),e.mod,e.bs,e.bsz,e.funs,e.frf,e.hok,e.bare⟩
section
variable {X:Cx}{pins:List (Addr×Obj)}{σ:St}{H:Hp}{s s':bYV}
def Inv.env0(I:Inv X pins σ H s):bJC X.prog X.w X.K X.mg X.base X.A X.stack s H:=
 ⟨I.ok.frames,I.ok.mod,I.bs,cQv I.ok.bsz I.sz,I.stack,I.stkFree,I.hok,I.bare⟩
def Inv.after{Q:VK}{u:bYS}(I:Inv X pins σ H s)(h:CE X.stack X.prog X.w H s Q u s'):EP X pins σ Q u s':=by
 obtain⟨v,H',f,bare,un,a,r,q⟩:=h;obtain⟨e,g,d,t,c⟩:=s';obtain rfl:c=s.os:=f;exact⟨v,H',I.call (h':=e) (g':=g) (d':=d) (t':=t) (ch:= []) un a bare (λb z=>absurd z (by simp)),r,q⟩
end
def bZM(sp:Sp)(dvs:List V)(E:XK)(t:TA):TE:=λσ H Q=>t σ H λa H1=>sp (a++dvs) H1 Q E
inductive bKq(C:Addr)(m:Str)(sp:Sp)(dvs:List V)(E:XK)(t:TA)(σ:St)(Q:VK)(x:V)(H1:Hp):Prop|mk(a dx fs)(_:x= .ref a)(_:H1 a=some (.ins C dx fs))(_:fs.lookup m=none)(_:t σ H1 λvs H2=>sp (x::(vs++dvs)) H2 Q E)
def bZP(C:Addr)(m:Str)(sp:Sp)(dvs:List V)(E:XK)(ta:TE)(t:TA):TE:=λσ H Q=>ta σ H λx H1=>bKq C m sp dvs E t σ Q x H1
def bZO(C:Addr)(sp:Sp)(dvs:List V)(E:XK)(t:TA):TE:=λσ H Q=>t σ H λa H1=>∀x dx,H1 x=none->H1 dx=none->dx≠x->
 sp (.ref x::(a++dvs)) (upd (upd H1 dx (.own x)) x (.ins C dx [])) (λv H2=>v= .non/\Q (.ref x) H2) E
def v7(K:bYT)(fd:cXR)(ps:List Str)(ds:List bYS):Prop:=
 ∀ (s:bYV)(a:List bYS),K.In s.heap->(a++ds).length=ps.length->BindsTo s fd ⟨a,[]⟩ (ps.zip (a++ds))
def v7.all{K:bYT}{fd:cXR}{ps:List Str}(h:∀a:List bYS,a.length=ps.length->cZA fd ⟨a,[]⟩=pure (ps.zip a)):v7 K fd ps []:=λs a _ hl=>by
 rw[cQV]at hl ⊢;exact .of_eq (h a hl)
def vQ(CX:CXT)(X:Cx)(E:XK):Prop:=∀ (pins:List (Addr×Obj))(σ:St)(H:Hp)(s:bYV)(e:bYS)(s':bYV),Inv X pins σ H s->CX X.stack H s E e s'->X.xe e s'
section
variable {X:Cx}{CX:CXT}{k:Nat}{f C:Addr}{fd:cXR}{ps:List Str}{sp:Sp}{dvs:List V}{ds:List bYS}{E:XK}{x m:Str}{p pos apos:Pos}{e o:Expr}{es:List Expr}{ta:TE}{t:TA}
def aZ2{pins:List (Addr×Obj)}{σ:St}{H:Hp}{s:bYV}{Q:VK}{us:List bYS}{vs:List V}(F:xE X.prog X.w X.K X.mg X.base CX k f fd ps sp)(i:vX k X.A)(j:v7 X.K fd ps ds)(c:xW dvs ds)(d:vQ CX X E) (I:Inv X pins σ H s) (r:xW vs us) (h:sp (vs++dvs) H Q E):bY0 (bY2 X.prog X.w) X.A (call (.ref f) us) (EP X pins σ Q) X.xe s:=by
 have b:xW (vs++dvs) (us++ds):=r.append c;have hl:(us++ds).length=ps.length:=by rw[<- b.length];exact F.len _ _ _ _ h
 refine cZ5 (cXL (F.run X.A X.stack s H ⟨us,[]⟩ (us++ds) (vs++dvs) Q E i I.env0 (j s us I.kIn hl) b h) λr s' a=>?_);cases r with
 |error e=>exact d pins σ H s e s' I a
 |ok g=>
  cases g with
  |ret u=>exact I.after a
  |next=>exact cXp a
  |brk=>exact cXp a
  |cont=>exact cXp a
def aYX(F:xE X.prog X.w X.K X.mg X.base CX k f fd ps sp)(n:vX k X.A)(j:Gl X x)(i:X.mg x=some (.ref f))(c:cQO X.K (.ref f)=true)(o:v7 X.K fd ps ds)(d:xW dvs ds)(g:vQ CX X E)
  (m:PA X (e::es) t) (b:(x==(AO:Str))=false:=by decide) (l:cQy (e::es) X.env=(false,eval e X.env)::cQy es X.env:=by rfl) (a:(cXw pos (cQy es X.env)).any (·.1)=false:=by rfl):
  PE X (.Call (.Name x p) (e::es) [] pos) (bZM sp dvs E t):=by
 intro pins s σ H Q I h
 refine cXx (uX I j i ?_ b)
 refine cZJ (h₀:=X.base) I.ok.mod.kin c (thn (m pos pins s σ H _ I h) λus s1 ⟨vs,H1,I1,r,q⟩=>⟨I1.kIn,?_⟩) l a
 exact aZ2 F n o d g I1 r q
def bVv{pl:Sem Bool}(n:PE X o ta)(c:Cls X.K C)(g:bWj X.K C m f)(F:xE X.prog X.w X.K X.mg X.base CX k f fd ps sp)(v:vX k X.A)(y:v7 X.K fd ps ds)(i:xW dvs ds)(j:vQ CX X E)(p:PA X (e::es) t)
  (d:cQy (e::es) X.env=(false,eval e X.env)::cQy es X.env:=by rfl) (b:(cXw pos (cQy es X.env)).any (·.1)=false:=by rfl)
  (z:eval (.Call (.Attribute o m apos) (e::es) [] pos) X.env=(do
   let ov <- eval o X.env
   standAt apos.atName
   let (f,first) <- cJc [ov] (cJk ov m pl)
   callWith pos f first (cXw pos (cQy (e::es) X.env)) (cZ4 pos (cZe [] X.env))):=by rfl):
  PE X (.Call (.Attribute o m apos) (e::es) [] pos) (bZP C m sp dvs E ta t):=by
 intro pins s σ H Q I h
 refine cZV (pl:=pl) (thn (n pins s σ H _ I h) λu s1 ⟨x,H1,I1,rx,a,dx,fs,ex,ea,l,q⟩=>?_) z
 subst ex
 obtain rfl:u=Value.ref a:=rx
 refine X4 I1 ea c g l ?_
 refine cZJ (first:= [.ref a]) (h₀:=X.base) I.ok.mod.kin g.kp (thn (p pos pins s1 σ H1 _ I1 q) λus s2 ⟨vs,H2,I2,r,q2⟩=>⟨I2.kIn,?_⟩) d b
 exact aZ2 (us:= .ref a::us) (vs:= .ref a::vs) F v y i j I2 (.cons rfl r) q2
def bZd{pl:Sem Bool}(i:PE X o ta)(c:Cls X.K C)(b:bWj X.K C m f)(F:xE X.prog X.w X.K X.mg X.base CX k f fd ps sp)(d:vX k X.A)(e:v7 X.K fd ps ds)(g:xW dvs ds)(j:vQ CX X E)
  (n:eval (.Call (.Attribute o m apos) [] [] pos) X.env=(do
   let ov <- eval o X.env
   standAt apos.atName
   let (f,first) <- cJc [ov] (cJk ov m pl)
   callWith pos f first (cXw pos (cQy [] X.env)) (cZ4 pos (cZe [] X.env))):=by rfl):
  PE X (.Call (.Attribute o m apos) [] [] pos) (bZP C m sp dvs E ta bZQ):=by
 intro pins s σ H Q I h
 refine cZV (pl:=pl) (thn (i pins s σ H _ I h) λu s1 ⟨x,H1,I1,rx,a,dx,fs,ex,ea,l,q⟩=>?_) n
 subst ex
 obtain rfl:u=Value.ref a:=rx
 refine X4 I1 ea c b l ?_
 exact cJQ (first:= [.ref a]) I1.kIn b.kp (aZ2 (us:= [.ref a]) (vs:= [.ref a]) F d e g j I1 (.cons rfl .nil) q)
structure Mk(K:bYT)(C f:Addr):Prop where
 makes:PySem.W.makesIn K C=true
 init:cQE K (.ref C) AE=some (some (.ref f))
 fn:cZx K (.ref f)=true
 kp:cQO K (.ref C)=true
def aVZ{pins:List (Addr×Obj)}{σ:St}{H:Hp}{s:bYV}{Q:VK}{us:List bYS}{vs:List V}(M:Mk X.K C f)(F:xE X.prog X.w X.K X.mg X.base CX k f fd ps sp)(p:vX (k+1) X.A)(q:v7 X.K fd ps ds)(g:xW dvs ds) (i:vQ CX X E) (I:Inv X pins σ H s) (r:xW vs us) (h:∀x dx,H x=none->H dx=none->dx≠x->sp (.ref x::(vs++dvs)) (upd (upd H dx (.own x)) x (.ins C dx [])) (λv H2=>v= .non/\Q (.ref x) H2) E): bY0 (bY2 X.prog X.w) X.A (call (.ref C) us) (EP X pins σ Q) X.xe s:=by
 have c:=h (s.heap.objs.size+1) s.heap.objs.size (I.hok.fresh (cX1 _)) (I.hok.fresh (bYZ _)) (cQj (cXJ _));have b:=Inv.made (C:=C) I;have d:xW (V.ref (s.heap.objs.size+1)::(vs++dvs)) (Value.ref (s.heap.objs.size+1)::(us++ds)):= .cons rfl (r.append g);have hl:(Value.ref (s.heap.objs.size+1)::us++ds).length=ps.length:=by have e:=d.length;rw[F.len _ _ _ _ c]at e;exact e.symm
 refine cZ5 (bXF (f:=f) I.kIn M.makes M.init (beq_iff_eq.mp M.fn) (cXL (F.run _ X.stack _ _ ⟨Value.ref (s.heap.objs.size+1)::us,[]⟩ (Value.ref (s.heap.objs.size+1)::(us++ds)) _ _ E (p.make C us []) (b.env0.make C us []) (q _ (Value.ref (s.heap.objs.size+1)::us) b.kIn hl) d c) λr s' a=>?_));cases r with
 |error e=>exact i pins σ _ _ e s' b a
 |ok o=>
  cases o with
  |ret u=>obtain⟨v,H',l,n,j,m⟩:=b.after a;subst j;exact⟨n,⟨V.ref (s.heap.objs.size+1),H',l,rfl,m⟩⟩
  |next=>exact cXp a
  |brk=>exact cXp a
  |cont=>exact cXp a
def bVu(M:Mk X.K C f)(F:xE X.prog X.w X.K X.mg X.base CX k f fd ps sp)(m:vX (k+1) X.A)(i:Gl X x)(g:X.mg x=some (.ref C))(n:v7 X.K fd ps ds)(c:xW dvs ds)(d:vQ CX X E)
  (l:PA X (e::es) t) (b:(x==(AO:Str))=false:=by decide) (j:cQy (e::es) X.env=(false,eval e X.env)::cQy es X.env:=by rfl) (a:(cXw pos (cQy es X.env)).any (·.1)=false:=by rfl):
  PE X (.Call (.Name x p) (e::es) [] pos) (bZO C sp dvs E t):=by
 intro pins s σ H Q I h
 refine cXx (uX I i g ?_ b)
 refine cZJ (h₀:=X.base) I.ok.mod.kin M.kp (thn (l pos pins s σ H _ I h) λus s1 ⟨vs,H1,I1,r,q⟩=>⟨I1.kIn,?_⟩) j a
 exact aVZ M F m n c d I1 r q
def bZc(M:Mk X.K C f)(F:xE X.prog X.w X.K X.mg X.base CX k f fd ps sp)(c:vX (k+1) X.A)(b:Gl X x)(i:X.mg x=some (.ref C))(d:v7 X.K fd ps ds)(e:xW dvs ds)(g:vQ CX X E) (a:(x==(AO:Str))=false:=by decide):PE X (.Call (.Name x p) [] [] pos) (bZO C sp dvs E bZQ):=by
 intro pins s σ H Q I h;refine cXx (uX I b i ?_ a);exact cJQ I.kIn M.kp (aVZ (us:= []) M F c d e g I .nil h)
end
section
variable {X:Cx}{CX:CXT}{k:Nat}{f C:Addr}{fd:cXR}{ps ks:List Str}{sp:Sp}{E:XK}{x m:Str}{p pos apos kpos:Pos}{e o:Expr}{es:List Expr}{kws:List Keyword}{te ta:TE}{t tk:TA}{nm:Option Str}
variable {g:List bYS->List bYS->List bYS}{gV:List V->List V->List V}
end
structure yN(N P:List Str)(sc:cX8):Prop where
 kind:sc.kind= .function
 co:sc.isCoroutine=false
 gen:sc.isGenerator=false
 nd:N.Nodup
 pre:N.take P.length=P
 par:∀x∈P,sc.names.lookup x=some .local\/sc.names.lookup x=some .cell
 nofree:∀y∈sc.names,y.2≠ .free
def aZq{a:Str->Option cZO}{x:Str}:∀ {binds:List (Str×bYS)} {m:Str->Option bYS},(∀v,(x,v)∉binds)->bindL a binds m x=m x
 |[],_,_=>rfl
 |(n,v)::r,m,h=>by
  unfold bindL;rw[aZq λw hw=>h w (bY4 _ hw)];split
  ·have:x≠n:=by rintro rfl;exact h v bY7
   simp[this]
  ·rfl
def aZo{a:Str->Option cZO}{x:Str}:∀ {binds:List (Str×bYS)} {m:Str->Option bYS},(∀v,(x,v)∉binds)->bindC a binds m x=m x
 |[],_,_=>rfl
 |(n,v)::r,m,h=>by
  unfold bindC;rw[aZo λw hw=>h w (bY4 _ hw)];split
  ·rfl
  ·have:x≠n:=by rintro rfl;exact h v bY7
   simp[this]
def aZp{a:Str->Option cZO}{x:Str}{v:bYS}:∀ {P:List Str} {vs:List bYS} {i:Nat} {m:Str->Option bYS},P.Nodup->P[i]? =some x->vs[i]? =some v->a x=some .local->
  bindL a (P.zip vs) m x=some v
 |[],_,_,_,_,h,_,_=>by simp at h
 |_::_,[],_,_,_,_,h,_=>by simp at h
 |p::P,w::vs,0,m,nd,h1,h2,hk=>by simp at h1 h2;subst h1;subst h2;show bindL a ((p,w)::P.zip vs) m p=_;unfold bindL;rw[aZq λv b=>(cX5.mp nd).1 (List.of_mem_zip b).1,if_pos hk];simp
 |p::P,w::vs,i+1,m,nd,h1,h2,hk=>by show bindL a ((p,w)::P.zip vs) m x=_;unfold bindL;exact aZp (i:=i) (cX5.mp nd).2 (by simpa using h1) (by simpa using h2) hk
def aZn{a:Str->Option cZO}{x:Str}{v:bYS}:∀ {P:List Str} {vs:List bYS} {i:Nat} {m:Str->Option bYS},P.Nodup->P[i]? =some x->vs[i]? =some v->a x≠some .local->
  bindC a (P.zip vs) m x=some v
 |[],_,_,_,_,h,_,_=>by simp at h
 |_::_,[],_,_,_,_,h,_=>by simp at h
 |p::P,w::vs,0,m,nd,h1,h2,hk=>by simp at h1 h2;subst h1;subst h2;show bindC a ((p,w)::P.zip vs) m p=_;unfold bindC;rw[aZo λv b=>(cX5.mp nd).1 (List.of_mem_zip b).1,if_neg hk];simp
 |p::P,w::vs,i+1,m,nd,h1,h2,hk=>by show bindC a ((p,w)::P.zip vs) m x=_;unfold bindC;exact aZn (i:=i) (cX5.mp nd).2 (by simpa using h1) (by simpa using h2) hk
def start(N:List Str)(vs:List V):St:=vs.map some++cZq (N.length - vs.length) none
def aXF(CX:CXT)(P:cQe)(w:cQm)(K:bYT)(mg:Str->Option bYS)(base:Heap)(N:List Str)(qual:Str)(scope:cX8)(f:Addr)(cd:bYS)(A:cQA)(outer:List Env)(s:bYV)(H:Hp)(E:XK):Cx where
 prog:=P
 w:=w
 K:=K
 mg:=mg
 base:=base
 A:=A.deeper (cXQ qual scope s.heap.objs.size f cd)
 N:=N
 s₀:=s
 H₀:=H
 env:=cXQ qual scope s.heap.objs.size f cd
 outer:=outer
 stack:=cXQ qual scope s.heap.objs.size f cd::outer
 ex:= []
 calm:=true
 fn:=λ_=>true
 pn:= []
 xe:=λe s'=>bY0 (bY2 P w) (A.deeper (cXQ qual scope s.heap.objs.size f cd)) (leaving (cXQ qual scope s.heap.objs.size f cd) e) (λ_ s''=>CX outer H s E e s'') (λe' s''=>CX outer H s E e' s'') s'
def aVB{a:cX8}{n:Nat}{x:Str}(h:a.names.lookup x=some .cell):∃c,(cellsFrom n a.names []).lookup x=some c:=by
 have q:=PySem.W.cellsFrom_some a.names n [] (.inl h);exact Option.isSome_iff_exists.mp q
def aYc{CX:CXT}{P:cQe}{w:cQm}{K:bYT}{mg:Str->Option bYS}{base:Heap}{N ps:List Str}{qual:Str}{scope:cX8}{f:Addr}{o:bYS}{A:cQA}{outer:List Env}{s B:bYV}{H:Hp}{E:XK}{us:List bYS}{vs:List V} (S:yN N ps scope) (F:A.handled=none) (d:bJC P w K mg base A outer s H) (hl:vs.length=ps.length) (r:xW vs us) (x:InCallC s s.heap.objs.size (bindL (cXQ qual scope s.heap.objs.size f o).kindOf (ps.zip us) λ_=>none) (cellsFrom (s.heap.objs.size+1) scope.names []) (bindC (cXQ qual scope s.heap.objs.size f o).kindOf (ps.zip us) λ_=>none) B): Inv (aXF CX P w K mg base N qual scope f o A outer s H E) [] (start N vs) H B:=by
 have D:ps.length<=N.length:=by have:=congrArg cX0 S.pre;rw[cXb]at this;omega
 obtain⟨h1,tk,rfl,t⟩:=x.done;have g:∀b:Addr,b∉(aXF CX P w K mg base N qual scope f o A outer s H E).ex:=λb z=>absurd (show b∈([]:List Addr)from z) (by simp);refine⟨⟨d.mod,S.kind,rfl,rfl,bYZ _,λy z c h1 h2=>?_,λy j=>?_,λy c _ h=>?_,λ_=>F,Around.frames_deeper d.frames,.inr ⟨rfl,rfl⟩,λb z=>absurd z (g b),d.bs,d.bsz,λb _ _=>g b,λb z=>absurd z (g b),d.funs,d.frf⟩,rfl,d.bare,Un.kept t,⟨_,x.toInCall.ns,λi y v h1 h2 J=>?_⟩,λy c h=>⟨_,x.cell y c h⟩,d.hok.fresh (bYZ _),λy c h=>?_,λp m=>absurd (show p∈([]:List (Addr×Obj))from m) (by simp),d.hok.kept t,?_⟩
 ·exact name_of_addr x.apart (cXn h1) (cXn h2)
 ·have j:scope.names.lookup y=some .cell\/scope.names.lookup y=some .free:=j;rcases j with j|j
  ·exact aVB j
  ·exact absurd rfl (S.nofree _ (cXn j))
 ·exact cZv (x.above y c (cXn h))
 ·have hi:i<vs.length:=by
   unfold start at h2;by_cases hi:i<vs.length
   ·exact hi
   ·rw[cQi (by simpa using hi)]at h2;rw[List.getElem?_replicate]at h2;split at h2<;> cases h2
  have I:vs[i]? =some v:=by
   unfold start at h2;rw[cQz (by simpa using hi),cQc]at h2;cases e:vs[i]? with
   |none=>rw[e]at h2;cases h2
   |some a=>rw[e]at h2;cases h2;rfl
  obtain⟨u,C,G⟩:=r.get I;have m:ps[i]? =some y:=by rw[<- S.pre,List.getElem?_take_of_lt (by omega)];exact h1
  have l:ps.Nodup:=by rw[<- S.pre];exact S.nd.sublist (List.take_sublist _ _)
  refine⟨u,G,?_⟩;rcases S.par y (cQa m)with k|k
  ·exact .inl ⟨k,aZp l m C k⟩
  ·obtain⟨c,e⟩:=aVB (n:=s.heap.objs.size+1) k;refine .inr ⟨.inl k,c,e,?_⟩;have q:=x.cell y c e;rw[aZn l m C (by show scope.names.lookup y≠_;rw[k];decide)]at q;exact q
 ·exact d.hok.fresh (cZv (x.above y c (cXn h)))
 ·unfold start;show _=N.length;rw[cQf,bYW,List.length_replicate];omega
def bJT{CX:CXT}{P:cQe}{w:cQm}{K:bYT}{mg:Str->Option bYS}{base:Heap}{k:Nat}{f:Addr}{name qual:Str}{c:Arguments}{body:List Stmt}{scope:cX8}{M kV j G a ct U:bYS}{L od:Option Addr} {p:Array (Option bYS)} {N ps:List Str} {sp:Sp} (lk:K.lookup f=some ⟨U,od,.func (cQY name qual c body scope M kV j G L a ct),p⟩) (B:cXB K a qual=true) (S:yN N ps scope) (len:∀vs H Q E,sp vs H Q E->vs.length=ps.length) (h:∀ (A:cQA)(outer:List Env)(s:bYV)(H:Hp)(vs:List V)(Q:VK)(E:XK),vX k (A.deeper (cXQ qual scope s.heap.objs.size f a))->sp vs H Q E-> ∃t,PSs (aXF CX P w K mg base N qual scope f a A outer s H E) body t/\t {nx:=λ_ H'=>Q .non H',rt:=Q} (start N vs) H): xE P w K mg base CX (k+1) f (cQY name qual c body scope M kV j G L a ct) ps sp:=by
 refine⟨len,λA outer s H args Z vs Q E D m Y r l=>?_⟩;have hl:=len _ _ _ _ l;have O:K.In s.heap:=m.mod.kin.keeps λb o e=>(m.bs b o e).1;have C:s.heap.NoLimit:=m.mod.nolimit.keeps λb o e=>(m.bs b o e).1;have g:∀y∈ps.zip Z,scope.names.lookup y.1=some .local\/(scope.names.lookup y.1=some .cell/\((cellsFrom (s.heap.objs.size+1) scope.names []).lookup y.1).isSome=true):=λ⟨n,v⟩ hy=>by
  rcases S.par n (List.of_mem_zip hy).1 with q|q
  ·exact .inl q
  ·exact .inr ⟨q,PySem.W.cellsFrom_some _ _ _ (.inl q)⟩
 refine codeAny_call_function D.depth (O _ _ lk) rfl S.co S.gen rfl (PySem.W.codeRec_of O B) (Y _ _ _ _ ?_);refine wpAny_newFunctionEnv_cells S.kind g λenv R F x=>?_;subst R;refine⟨C.keeps x.toInCall.keep,codeAny_func ?_⟩;obtain⟨t,ht,X⟩:=h A outer s H vs Q E (D.deeper _) l;have I:Inv (aXF CX P w K mg base N qual scope f a A outer s H E) [] (start N vs) H F:=aYc S D.hd m hl r x;refine cQW (ht [] F (start N vs) H _ I X) (λT s' i=>?_) λe s' i=>i;have fin:∀ {d:St} {H':Hp} {v:V} {u:bYS},Inv (aXF CX P w K mg base N qual scope f a A outer s H E) [] d H' s'->zO v u->Q v H'->CE outer P w H s Q u s':=
  λ{d H' v u} J z q=>⟨v,H',J.os,J.bare,J.base,J.hok,z,q⟩
 cases T with
 |ret u=>obtain⟨v,d,H',J,z,q⟩:=i;exact fin J z q
 |next=>obtain⟨d,H',J,q⟩:=i;exact fin (v:=V.non) (u:=Value.none) J rfl q
 |brk=>obtain⟨_,_,_,q⟩:=i;exact cXp q
 |cont=>obtain⟨_,_,_,q⟩:=i;exact cXp q
end L2
namespace L2
open PySem PySem.Spec PyProof.Rows
section
variable {X:Cx}{x:Str}{p pos:Pos}{e:Expr}{es:List Expr}{t:TA}{id T:String}{r:List V->Hp->VK->Prop}
def tCB(r:List V->Hp->VK->Prop)(t:TA):TE:=λσ H Q=>t σ H λa H1=>r a H1 Q
def yQ(k:qF X (.builtin id) r)(c:Gl X x)(g:X.mg x=none)(i:cQD x=some (.builtin id))(j:PA X (e::es) t)(d:x≠Ac:=by decide)(a:(x==(AO:Str))=false:=by decide)
  (f:cQy (e::es) X.env=(false,eval e X.env)::cQy es X.env:=by rfl) (b:(cXw pos (cQy es X.env)).any (·.1)=false:=by rfl):PE X (.Call (.Name x p) (e::es) [] pos) (tCB r t):=by
 intro pins s σ H Q I h
 refine cXx (aXq I c g i ?_ d a)
 exact PyProof.Rows.callWith_builtin1 (thn (j pos pins s σ H _ I h) λus s1 ⟨vs,H1,I1,r1,q1⟩=>k pins s1 σ H1 vs us Q I1 r1 q1) f b
def x5(k:qF X (.type T) r)(c:Gl X x)(g:X.mg x=none)(i:cQD x=some (.type T))(j:PA X (e::es) t)(d:x≠Ac:=by decide)(a:(x==(AO:Str))=false:=by decide)
  (f:cQy (e::es) X.env=(false,eval e X.env)::cQy es X.env:=by rfl) (b:(cXw pos (cQy es X.env)).any (·.1)=false:=by rfl):PE X (.Call (.Name x p) (e::es) [] pos) (tCB r t):=by
 intro pins s σ H Q I h
 refine cXx (aXq I c g i ?_ d a)
 exact cZX (thn (j pos pins s σ H _ I h) λus s1 ⟨vs,H1,I1,r1,q1⟩=>k pins s1 σ H1 vs us Q I1 r1 q1) f b
end
end L2
namespace HT
open PySem PyProof.Rows
def bZh(A:cQA)(s:bYV)(a:Int)(t:Tok)(c:Int)(u:Tok)(prog:cQe)(w:cQm)(E:bYS->bYV->Prop)(Q:bYS->bYV->Prop)(h:Q (.bool (decide (a<c))) s): bY0 (bY2 prog w) A (richCompare .Lt (.int a t) (.int c u)) Q E s:=
 (PyProof.Rows.lt_int h:bY0 (bY2 prog w) A (cXo .Lt (.int a t) (.int c u)) Q E s)
section
open PySem.SeqAt
open PySem.AutoSeq1 (wpAny_loadPart')
open PySem.MeetsSeq PySem.MeetsSeq2 PySem.MeetsSeq3
end
section
variable {prog:cQe}{w:cQm}{A:cQA}{E:bYS->bYV->Prop}{s:bYV}
def bJJ{t b:Addr}{vs a:List bYS}{Q:bYS->bYV->Prop}(x:cZQ s.heap t vs.toArray)(v:cZQ s.heap b a.toArray)(r:vs≠ []) (h1:a= []->Q (.ref t) s) (h2:a≠ []->Q (.ref s.heap.objs.size) {s with heap:=s.heap.push {cls:= .type AD,data:= .seq (vs++a).toArray} }) (j:vs.length+a.length<=cQk):bY0 (bY2 prog w) A (cZz .Add (.ref t) (.ref b)) Q E s:=by
 obtain⟨⟨cls,o,data,l⟩,i,u,n,m⟩:=id x;obtain⟨⟨q,f,k,h⟩,c,d,p,g⟩:=id v;simp only at u m d g;subst u m d g;have e:vs.toArray++a.toArray=(vs++a).toArray:=by simp
 by_cases hw:a= []
 ·exact concat_meets ⟨_,i,rfl⟩ ⟨_,c,rfl⟩ noFill_tuple_add seq_tuple_add PySem.F.slot_tuple_add PySem.F.entry_tuple_add (cVj _ _)
   (tuple_addW1 t b vs.toArray a.toArray n p o f l h (by simpa using r) (by simp[hw])) ⟨i,c,h1 hw⟩
 ·refine concat_meets ⟨_,i,rfl⟩ ⟨_,c,rfl⟩ noFill_tuple_add seq_tuple_add PySem.F.slot_tuple_add PySem.F.entry_tuple_add (cVj _ _)
   (tuple_addW2 t b vs.toArray a.toArray n p o f l h (by simpa using r) (by simpa using hw) (by rw[cQb,cQb];exact j)) ⟨i,c,?_⟩
  rw[e];exact h2 hw
def sIx(n d:Nat):Option Int->Nat
 |none=>d
 |some v=>if v<0 then(v+(n:Int)).toNat else min v.toNat n
def bZj(n d:Nat):sIx n d none=d:=rfl
end
end HT
namespace L2
open PySem PySem.Spec PyProof.Rows
abbrev TO:=St->Hp->(Option Int->Hp->Prop)->Prop
def PO(X:Cx)(e:Option Expr)(t:TO):Prop:=
 ∀ (pins:List (Addr×Obj))(s:bYV)(σ:St)(H:Hp)(Q:Option Int->Hp->Prop),Inv X pins σ H s->t σ H Q->
  bY0 (bY2 X.prog X.w) X.A (evalPart e X.env) (λu s'=>∃o H',Inv X pins σ H' s'/\IsPart u o/\Q o H') X.xe s
def bWb:TO:=λ_ H Q=>Q none H
inductive bKs(Q:Option Int->Hp->Prop)(x:V)(H1:Hp):Prop|mk(i)(_:x= .int i)(_:Q (some i) H1)
def bYf(t:TE):TO:=λσ H Q=>t σ H λx H1=>bKs Q x H1
def aXo{a:List Int}:∀ {us:List bYS},xW (a.map V.int) us->cZp us a:=by
 induction a with
 |nil=>intro us r;rw[List.map_nil]at r;cases r;exact .nil
 |cons n a b=>
  intro us r;rw[cQF]at r;cases r with
  |cons c d=>obtain⟨t,e⟩:=c;subst e;exact .cons n t (b d)
section
variable {X:Cx}{e:Expr}{te:TE}{lo hi:Option Expr}{tl th:TO}{pos p2:Pos}
def aJ3:PO X none bWb:=by
 intro pins s σ H Q I h;rw[evalPart_none];exact bYY ⟨none,H,I,.none,h⟩
def aQI(h:PE X e te):PO X (some e) (bYf te):=by
 intro pins s σ H Q I hw;rw[evalPart_some];refine thn (h pins s σ H _ I hw) λu s1 ⟨x,H1,I1,r1,q1⟩=>?_;obtain⟨i,rfl,q⟩:=q1;obtain⟨t,rfl⟩:=r1;exact⟨some i,H1,I1,.int i t,q⟩
def SlR(X:Cx)(r:V->Option Int->Option Int->Hp->VK->Prop):Prop:=
 ∀ (pins:List (Addr×Obj))(s:bYV)(σ:St)(H:Hp)(x:V)(v b c:bYS)(lo hi:Option Int)(a:Addr)(Q:VK),Inv X pins σ H s->zO x v->s.heap.IsSliceOf a b c .none->IsPart b lo->IsPart c hi->r x lo hi H Q->
  ∃T id,typeLookup (.type T) "__getitem__"=pure (some (.builtin id))/\s.TypeIs v T/\bY0 (bY2 X.prog X.w) X.A (getItem v (.ref a)) (EP X pins σ Q) X.xe s
def tSl(r:V->Option Int->Option Int->Hp->VK->Prop)(te:TE)(tl th:TO):TE:=λσ H Q=>te σ H λx H1=>tl σ H1 λl H2=>th σ H2 λu a=>r x l u a Q
def Q6{r:V->Option Int->Option Int->Hp->VK->Prop}(f:SlR X r)(c:PE X e te)(hl:PO X lo tl)(d:PO X hi th):PE X (.Subscript e (.Slice lo hi none p2) pos) (tSl r te tl th):=by
 intro pins s σ H Q I h;refine Subscript_ (thn (c pins s σ H _ I h) λv s1 ⟨x,H1,I1,r1,q1⟩=>?_);refine wpAny_Slice (thn (hl pins s1 σ H1 _ I1 q1) λvl s2 ⟨l,H2,I2,pl,q2⟩=>thn (d pins s2 σ H2 _ I2 q2) λvu s3 ⟨u,H3,I3,pu,q3⟩=>?_);rw[evalPart_none];refine bYY ?_;have i:Inv X pins σ H3 {s3 with heap:=s3.heap.push {cls:= .type "slice",data:= .fields #[vl,vu,.none] } }:=I3.kept (t':=s3.toks) λb k q=>bYX _ q;obtain⟨T,id,g,j,a⟩:=f pins {s3 with heap:=s3.heap.push {cls:= .type "slice",data:= .fields #[vl,vu,.none] } } σ H3 x v vl vu l u s3.heap.objs.size Q i r1 (Heap.IsSliceOf.new ..) pl pu q3;show bY0 (bY2 X.prog X.w) X.A (subscriptTail e (.Slice lo hi none p2) v (.ref s3.heap.objs.size)) (EP X pins σ Q) X.xe {s3 with heap:=s3.heap.push {cls:= .type "slice",data:= .fields #[vl,vu,.none] } };exact tail_any (ops:= [.ref s3.heap.objs.size,v]) j g a (by with_unfolding_all rfl)
def Z6(xs:List V)(lo hi:Option Int):List V:=(xs.drop (HT.sIx xs.length 0 lo)).take (HT.sIx xs.length xs.length hi - HT.sIx xs.length 0 lo)
def aJB(xs:List V)(lo hi:Option Int):(Z6 xs lo hi).length<=xs.length:=by
 unfold Z6;rw[cXb,List.length_drop];omega
inductive bKZ(K:bYT)(x:V)(y:V)(H:Hp)(Q:VK):Prop|mk(a b xs ys)(_:x= .ref a)(_:y= .ref b)(_:SqT K H a xs)(_:SqT K H b ys)(_:xs≠ [])(_:xs.length+ys.length<=cQk)(_:(ys= []->Q (.ref a) H))(_:(ys≠ []->∀p,H p=none->Q (.ref p) (upd H p (.tup (xs++ys)))))
def xW.nil_iff{xs:List V}{us:List bYS}(r:xW xs us):us= []↔xs= []:=by
 cases r with
 |nil=>simp
 |cons _ _=>simp
def bVr:OpR X (cZz .Add) (bKZ X.K):=by
 intro pins s σ H x y v u Q I p k h;obtain⟨a,b,xs,ys,rfl,rfl,m,r,g,e,n,l⟩:=h;cases p;cases k;obtain⟨j,d,i,_⟩:=I.tuple m;obtain⟨f,c,p2,_⟩:=I.tuple r;refine HT.bJJ i p2 (λz=>g (d.nil_iff.mp z)) (λz=>⟨.ref a,H,I,rfl,n (c.nil_iff.mp z)⟩) (λz=>?_) (by rw[<- d.length,<- c.length];exact e);refine⟨.ref s.heap.objs.size,_,I.laid (t':=s.toks) (o:= .tup (xs++ys)) (λb t q=>bYX _ q) (bYZ _) ?_,rfl,l (λw=>z (c.nil_iff.mpr w)) _ (I.hok.fresh (bYZ _))⟩;exact⟨by rw[cQf];exact e,_,d.append c,IsTup.new _ _⟩
end
end L2
namespace L2
open PySem PySem.Spec PyProof.Rows
def ixN(n:Nat)(i:Int):Option Nat:=if 0<=i then(if i<n then some i.toNat else none)else if -(n:Int)<=i then some (i+n).toNat else none
def atI{α:Type}(xs:List α)(i:Int):Option α:=(ixN xs.length i).bind λj=>xs[j]?
def aYf{n:Nat}{i:Int}{j:Nat}(h:ixN n i=some j):seqIndex? i n=some j/\j<n/\ -(n:Int)<=i/\i<n:=by
 unfold ixN at h;by_cases h0:0<=i
 ·rw[if_pos h0]at h;by_cases h1:i<n
  ·rw[if_pos h1]at h;have e:i.toNat=j:=cQd h;exact⟨by rw[seqIndex_of h0 h1,e],by omega,by omega,h1⟩
  ·rw[if_neg h1]at h;cases h
 ·rw[if_neg h0]at h;by_cases h1: -(n:Int)<=i
  ·rw[if_pos h1]at h;have e:(i+n).toNat=j:=cQd h;exact⟨by rw[seqIndex_neg (by omega) h1,e],by omega,h1,by omega⟩
  ·rw[if_neg h1]at h;cases h
def aJt{α:Type}{xs:List α}{i:Int}{v:α}(h:atI xs i=some v):∃j,seqIndex? i xs.length=some j/\xs[j]? =some v/\j<xs.length/\ -(xs.length:Int)<=i/\i<xs.length:=by
 unfold atI at h;cases e:ixN xs.length i with
 |none=>rw[e]at h;cases h
 |some j=>rw[e]at h;obtain⟨h1,h2,b,a⟩:=aYf e;exact⟨j,h1,h,h2,b,a⟩
def yT{α:Type}{xs:List α}{j:Nat}{v:α}(h:xs[j]? =some v):atI xs (j:Int)=some v:=by
 have a:j<xs.length:=(bY3.mp h).1;have e:ixN xs.length (j:Int)=some j:=by unfold ixN;rw[if_pos (by omega),if_pos (by omega)];simp
 unfold atI;rw[e];exact h
def bJH(b:Expr):Prop:=∀o i,subscripted b false o i=operate [o,i] (getItem o i)
def IxR(X:Cx)(r:R2):Prop:=
 ∀ (value a:Expr)(pins:List (Addr×Obj))(s:bYV)(σ:St)(H:Hp)(x y:V)(v u:bYS)(Q:VK),Inv X pins σ H s->zO x v->zO y u->r x y H Q->
  subscripted a false v u=operate [v,u] (getItem v u)->bY0 (bY2 X.prog X.w) X.A (subscriptTail value a v u) (EP X pins σ Q) X.xe s
def MtR(X:Cx)(id:String)(r:V->List V->Hp->VK->Prop):Prop:=
 ∀ (pins:List (Addr×Obj))(s:bYV)(σ:St)(H:Hp)(x:V)(xs:List V)(v:bYS)(a:List bYS)(Q:VK),Inv X pins σ H s->zO x v->xW xs a->r x xs H Q->
  bY0 (bY2 X.prog X.w) X.A (call (.builtin id) (v::a)) (EP X pins σ Q) X.xe s
section
variable {X:Cx}{a b:Expr}{ta tb:TE}{pos:Pos}
def IxR.or{r d:R2}(h:IxR X r)(h':IxR X d):IxR X (λx y H Q=>r x y H Q\/d x y H Q):=by
 intro value a pins s σ H x y v u Q I c b q e;rcases q with q|q
 ·exact h value a pins s σ H x y v u Q I c b q e
 ·exact h' value a pins s σ H x y v u Q I c b q e
def yL{r:R2}(i:IxR X r)(f:PE X a ta)(j:PE X b tb)(k:bJH b:=by exact λ_ _=>rfl):PE X (.Subscript a b pos) (tOp r ta tb):=by
 intro pins s σ H Q I h;exact Subscript_ (bKQ f j I h λv u c x y H2 e g d q=>i a b pins c σ H2 x y v u Q e g d q (k _ _))
inductive bWk(K:bYT)(x:V)(y:V)(H:Hp)(Q:VK):Prop|mk(p xs i v)(_:x= .ref p)(_:y= .int i)(_:SqL K H p xs)(_:atI xs i=some v)(_:Q v H)
inductive bK0(K:bYT)(x:V)(y:V)(H:Hp)(Q:VK):Prop|mk(p xs i v)(_:x= .ref p)(_:y= .int i)(_:SqT K H p xs)(_:atI xs i=some v)(_:Q v H)
inductive bYn(x:V)(y:V)(H:Hp)(Q:VK):Prop|mk(z i c)(_:x= .str z)(_:y= .int i)(_:z.length<=cQk)(_:atI z.cps.toList i=some c)(_:Q (.str ⟨#[c]⟩) H)
def yK:IxR X (bWk X.K):=by
 intro value b pins s σ H x y v u Q I A l h g;obtain⟨p,xs,i,z,rfl,rfl,o,m,q⟩:=h;cases A;obtain⟨t,rfl⟩:=l;obtain⟨d,r,e,D⟩:=I.list o;obtain⟨j,h1,h2,C,n,k⟩:=aJt m;obtain⟨w,f,c⟩:=r.get h2;have hl:=r.length;have B:=aZN;have fin:EP X pins σ Q w s:=⟨z,H,I,c,q⟩;by_cases h0:0<=i
 ·have a:i.toNat=j:=by
   rw[seqIndex_of h0 k]at h1;exact cQd h1
  exact item_listR e.isList h0 (by omega) (by rw[a];simpa using f) fin g
 ·have a:(i+(d.toArray.size:Int)).toNat=j:=by
   rw[seqIndex_neg (by omega) n]at h1;rw[cQb,<- hl];exact cQd h1
  exact subscriptTail_builtinR (x:=w) e.isList.typeIs slot_list_getitem.lookup
   (wpAny_getItem_list_neg (Q:=λr s'=>r=w/\EP X pins σ Q r s') e.isList (by omega) (by rw[cQb]<;> omega) (by omega) (by rw[a];simpa using f) ⟨rfl,fin⟩) g
def yX:IxR X (bK0 X.K):=by
 intro value a pins s σ H x y v u Q I l e h m;obtain⟨p,xs,i,z,rfl,rfl,k,f,q⟩:=h;cases l;obtain⟨t,rfl⟩:=e;obtain⟨d,r,c,C⟩:=I.tuple k;obtain⟨j,h1,h2,A,B,n⟩:=aJt f;obtain⟨w,g,b⟩:=r.get h2;have hl:=r.length;have o:=aZN;have fin:EP X pins σ Q w s:=⟨z,H,I,b,q⟩;exact subscriptTail_builtinR (x:=w) c.typeIs slot_tuple_getitem.lookup
  (getItem_tuple (j:=j) (Q:=λr s'=>r=w/\EP X pins σ Q r s') c (by omega) (by omega) (by rw[cQb,<- hl];exact h1) (by simpa using g) ⟨rfl,fin⟩) m
def aQm:IxR X bYn:=by
 intro value a pins s σ H x y v u Q I l e h m;obtain⟨z,i,c,rfl,rfl,r,f,q⟩:=h;obtain⟨t,rfl⟩:=l;obtain⟨p,rfl⟩:=e;obtain⟨j,h1,h2,o,g,d⟩:=aJt f;have hl:z.cps.toList.length=z.length:=by simp[Str.length]
 rw[hl]at h1 g d;have n:=aZN;exact tail_any (typeIs_str s z t) slot_str_getitem.lookup (getItem_str (c:=c) (by
  have k:decide (i< -(2 ^ 63:Int))=false:=decide_eq_false (by omega);have b:decide (i≥2 ^ 63)=false:=decide_eq_false (by omega);rw[k,b,Bool.or_false]) (by rw[h1];simpa using h2) ⟨.str ⟨#[c]⟩,H,I.tok _,⟨_,rfl⟩,q⟩) m
def rIx(K:bYT):R2:=λx y H Q=>bWk K x y H Q\/bK0 K x y H Q\/bYn x y H Q
def aVJ:IxR X (rIx X.K):=yK.or (yX.or aQm)
def aWV(its:List bYS)(n j:Nat)(u:bYS):cQM (·.setIfInBounds j u) {cls:= .type AB,data:= .seq its.toArray n}= {cls:= .type AB,data:= .seq (its.set j u).toArray n}:=by
 simp[cQM]
def Inv.lst{pins:List (Addr×Obj)}{σ:St}{H:Hp}{s:bYV}{p:Addr}{xs:List V}(I:Inv X pins σ H s)(h:H p=some (.lst xs)): ∃ (its:List bYS)(n:Nat),xW xs its/\s.heap.get? p=some {cls:= .type AB,data:= .seq its.toArray n}/\xs.length<=cQk:=by
 obtain⟨z,its,n,r,e⟩:=I.hok p _ h;exact⟨its,n,r,e,z⟩
def Inv.lstUpd{pins:List (Addr×Obj)}{σ:St}{H:Hp}{s:bYV}{p:Addr}{xs ys:List V}{its its':List bYS}{n a:Nat}{f:Obj->Obj}(I:Inv X pins σ H s)(h:H p=some (.lst xs)) (d:s.heap.get? p=some {cls:= .type AB,data:= .seq its.toArray n}) (c:f {cls:= .type AB,data:= .seq its.toArray n}= {cls:= .type AB,data:= .seq its'.toArray a}) (r:xW ys its') (g:ys.length<=cQk) (t:Nat): Inv X pins σ (upd H p (.lst ys)) {s with heap:=s.heap.update p f,toks:=t}:=by
 have e:(s.heap.update p f).get? p=some {cls:= .type AB,data:= .seq its'.toArray a}:=by rw[cQZ f d (by rw[c]<;> rfl),c]
 refine I.write (x:=p) (e:=p) (by rw[h];trivial) (.inl rfl) (λb u i q=>(cQx _ _ (cQB i)).trans q) ⟨_,e⟩ ?_;exact⟨g,its',a,r,e⟩
inductive bK1(o:V)(i:V)(v:V)(H:Hp)(Q:(Hp->Prop)):Prop|mk(p xs k j)(_:o= .ref p)(_:i= .int k)(_:H p=some (.lst xs))(_:ixN xs.length k=some j)(_:Q (upd H p (.lst (xs.set j v))))
def zV:bYl X bK1:=by
 intro pins s σ H o i v B z u Q I m y w h;obtain⟨p,xs,k,j,rfl,rfl,g,l,q⟩:=h;cases m;obtain⟨t,rfl⟩:=y;obtain⟨a,n,r,c,x⟩:=I.lst g;obtain⟨h1,h2,e,f⟩:=aYf l;have hl:=r.length;have A:=aZN;have d:Inv X pins σ (upd H p (.lst (xs.set j v))) {s with heap:=s.heap.update p (cQM (·.setIfInBounds j u)) }:=
  I.lstUpd g c (aWV a n j u) (r.set w j) (by rw[List.length_set];exact x) s.toks
 by_cases h0:0<=k
 ·have b:k.toNat=j:=by
   rw[seqIndex_of h0 f]at h1;exact cQd h1
  exact PySem.W.ki_setAt c h0 (by omega) (by rw[cQb,<- hl];exact f) (by rw[b];exact⟨_,d,q⟩)
 ·have b:(k+(a.toArray.size:Int)).toNat=j:=by
   rw[seqIndex_neg (by omega) e]at h1;rw[cQb,<- hl];exact cQd h1
  exact PySem.W.ki_setBack c (by omega) (by rw[cQb,<- hl];exact e) (by omega) (by rw[b];exact⟨_,d,q⟩)
def aZ8(lo hi:Option Int)(n:Nat):(cJd lo hi none n).1=((HT.sIx n 0 lo:Nat):Int)/\(cJd lo hi none n).2.1=((HT.sIx n n hi:Nat):Int)/\(cJd lo hi none n).2.2=1:=by
 refine⟨?_,?_,rfl⟩
 ·cases lo with
  |none=>simp[cJd,HT.sIx]
  |some i=>
   simp only[cJd,HT.sIx,Option.getD_none,show(1:Int) > 0 by decide,if_true];by_cases h:i<0
   ·simp only[h,if_true]<;> omega
   ·simp only[h,if_false]<;> omega
 ·cases hi with
  |none=>simp[cJd,HT.sIx]
  |some i=>
   simp only[cJd,HT.sIx,Option.getD_none,show(1:Int) > 0 by decide,if_true];by_cases h:i<0
   ·simp only[h,if_true]<;> omega
   ·simp only[h,if_false]<;> omega
def aZa(its:List bYS)(lo hi:Option Int):slicePick its.toArray lo hi none=((its.drop (HT.sIx its.length 0 lo)).take (HT.sIx its.length its.length hi - HT.sIx its.length 0 lo)).toArray:=by
 obtain⟨h1,h2,a⟩:=aZ8 lo hi its.toArray.size;unfold slicePick;rw[h1,h2,a];simp only[sliceRange_one,pick_run,cQb]<;> rfl
inductive bYH(K:bYT)(x:V)(lo:Option Int)(hi:Option Int)(H:Hp)(Q:VK):Prop|mk(a xs)(_:x= .ref a)(_:SqL K H a xs)(_:∀p,H p=none->Q (.ref p) (upd H p (.lst (Z6 xs lo hi))))
def aX9:SlR X (bYH X.K):=by
 intro pins s σ H x v t p lo hi m Q I k l i e h;obtain⟨a,xs,rfl,f,q⟩:=h;cases k;obtain⟨g,r,d,j⟩:=I.list f;have c:=r.length;refine⟨AB,_,slot_list_getitem.lookup,d.isList.typeIs,?_⟩;refine wpAny_getItem_list_slice d.isList l i e .none (by simp) ?_ (by rw[cQb]<;> omega);rw[aZa,<- c];refine⟨.ref s.heap.objs.size,_,I.laid (t':=s.toks) (o:= .lst (Z6 xs lo hi)) (λb n q=>bYX _ q) (bYZ _) ?_,rfl,q _ (I.hok.fresh (bYZ _))⟩;exact⟨cQv (aJB xs lo hi) j,_,0,(r.drop (HT.sIx xs.length 0 lo)).take (HT.sIx xs.length xs.length hi - HT.sIx xs.length 0 lo),cQn _ rfl⟩
def Q0:V->Bool
 |.non=>true
 |.bl _=>true
 |.int _=>true
 |.str _=>true
 |_=>false
def eqV:V->V->Bool
 |.non,.non=>true
 |.bl a,.bl b=>a==b
 |.bl a,.int b=>(if a then 1 else 0)==b
 |.int a,.bl b=>a==(if b then 1 else 0)
 |.int a,.int b=>a==b
 |.str a,.str b=>a==b
 |_,_=>false
def bJb{A:cQA}{s:bYV}{y x:V}{u v:bYS}(f:zO y u)(c:zO x v)(g:Q0 y=true)(e:Q0 x=true):cVm A s u v (eqV y x):=by
 cases y with
 |non=>
  cases f;cases x with
  |non=>cases c;exact SeqAt.EqAt.same _
  |bl b=>cases c;exact SeqAt.EqAt.none_bool b
  |int b=>obtain⟨t,rfl⟩:=c;exact SeqAt.EqAt.none_int b t
  |str b=>obtain⟨t,rfl⟩:=c;exact SeqAt.EqAt.none_str b t
  |_=>exact absurd (show false=true from e) Bool.false_ne_true
 |bl a=>
  cases f;cases x with
  |non=>cases c;exact SeqAt.EqAt.bool_none a
  |bl b=>cases c;exact SeqAt.EqAt.bool_bool a b
  |int b=>obtain⟨t,rfl⟩:=c;exact SeqAt.EqAt.bool_int a b t
  |str b=>obtain⟨t,rfl⟩:=c;exact SeqAt.EqAt.bool_str a b t
  |_=>exact absurd (show false=true from e) Bool.false_ne_true
 |int a=>
  obtain⟨d,rfl⟩:=f;cases x with
  |non=>cases c;exact SeqAt.EqAt.int_none a d
  |bl b=>cases c;exact SeqAt.EqAt.int_bool a d b
  |int b=>obtain⟨t,rfl⟩:=c;exact SeqAt.EqAt.int_int a d b t
  |str b=>obtain⟨t,rfl⟩:=c;exact SeqAt.EqAt.int_str a d b t
  |_=>exact absurd (show false=true from e) Bool.false_ne_true
 |str a=>
  obtain⟨d,rfl⟩:=f;cases x with
  |non=>cases c;exact SeqAt.EqAt.str_none a d
  |bl b=>cases c;exact SeqAt.EqAt.str_bool a d b
  |int b=>obtain⟨t,rfl⟩:=c;exact SeqAt.EqAt.str_int a d b t
  |str b=>obtain⟨t,rfl⟩:=c;exact SeqAt.EqAt.str_str a d b t
  |_=>exact absurd (show false=true from e) Bool.false_ne_true
 |_=>exact absurd (show false=true from g) Bool.false_ne_true
def eqU(x:V)(u:bYS):Bool:=match u with
 |.none=>eqV .non x
 |.bool b=>eqV (.bl b) x
 |.int i _=>eqV (.int i) x
 |.str z _=>eqV (.str z) x
 |_=>false
def bJc{x y:V}{u:bYS}(r:zO y u)(f:Q0 y=true):eqU x u=eqV y x:=by
 cases y with
 |non=>cases r;rfl
 |bl b=>cases r;rfl
 |int i=>obtain⟨t,rfl⟩:=r;rfl
 |str z=>obtain⟨t,rfl⟩:=r;rfl
 |_=>exact absurd (show false=true from f) Bool.false_ne_true
def aQg{x:V}:∀ {xs:List V} {us:List bYS},xW xs us->xs.all Q0=true->us.any (eqU x)=xs.any λy=>eqV y x
 |_,_,.nil,_=>rfl
 |y::xs,u::us,.cons r t,f=>by rw[cZ6,Bool.and_eq_true]at f;rw[cZc,cZc,bJc r f.1,aQg t f.2]
def Y0{A:cQA}{s:bYV}{x:V}{v:bYS}(b:zO x v)(c:Q0 x=true):∀ {xs:List V} {us:List bYS},xW xs us->xs.all Q0=true->∀u∈us,cVm A s u v (eqU x u)
 |_,_,.nil,_=>λu a=>by cases a
 |y::xs,u::us,.cons r t,f=>λd a=>by
  rw[cZ6,Bool.and_eq_true]at f;rcases bY1.mp a with rfl|a
  ·rw[bJc r f.1];exact bJb r b f.1 c
  ·exact Y0 b c t f.2 d a
def inV(x:V)(xs:List V):Bool:=xs.any λy=>eqV y x
inductive rIn(K:bYT)(neg:Bool)(x:V)(y:V)(H:Hp)(Q:VK):Prop|mk(p xs)(_:y= .ref p)(_:(SqL K H p xs\/SqT K H p xs))(_:Q0 x=true)(_:xs.all Q0=true)(_:Q (.bl (if neg then !inV x xs else inV x xs)) H)
def vE:OpR X (cXo .In) (rIn X.K false):=by
 intro pins s σ H x y v u Q I e f h;obtain⟨p,xs,rfl,b,d,fs,q⟩:=h;cases f;rcases b with b|b
 ·obtain⟨a,r,c,g⟩:=I.list b;refine SeqAt.in_listAt (eqU x) c.isList (λw hw=>Y0 e d r fs w (by simpa using hw)) ⟨.bl _,H,I,rfl,?_⟩;rw[show a.toArray.any (eqU x)=a.any (eqU x) by simp,aQg r fs];exact q
 ·obtain⟨a,r,c,g⟩:=I.tuple b;refine SeqAt.in_tupleAt (eqU x) c (λw hw=>Y0 e d r fs w (by simpa using hw)) ⟨.bl _,H,I,rfl,?_⟩;rw[show a.toArray.any (eqU x)=a.any (eqU x) by simp,aQg r fs];exact q
def W8:OpR X (cXo .NotIn) (rIn X.K true):=by
 intro pins s σ H x y v u Q I e f h;obtain⟨p,xs,rfl,b,d,fs,q⟩:=h;cases f;rcases b with b|b
 ·obtain⟨a,r,c,g⟩:=I.list b;refine SeqAt.notIn_listAt (eqU x) c.isList (λw hw=>Y0 e d r fs w (by simpa using hw)) ⟨.bl _,H,I,rfl,?_⟩;rw[show a.toArray.any (eqU x)=a.any (eqU x) by simp,aQg r fs];exact q
 ·obtain⟨a,r,c,g⟩:=I.tuple b;refine SeqAt.notIn_tupleAt (eqU x) c (λw hw=>Y0 e d r fs w (by simpa using hw)) ⟨.bl _,H,I,rfl,?_⟩;rw[show a.toArray.any (eqU x)=a.any (eqU x) by simp,aQg r fs];exact q
inductive aXC(K:bYT)(xs:List V)(H:Hp)(Q:VK):Prop|mk(p ys)(_:xs= [.ref p])(_:(SqL K H p ys\/SqT K H p ys))(_:Q (.int ys.length) H)
def yO:qF X (.builtin CH) (aXC X.K):=by
 intro pins s σ H xs j Q I r h;obtain⟨p,ys,rfl,b,q⟩:=h;obtain⟨u,rfl,g⟩:=aQ7 r;cases g;have i:=aZN;rcases b with b|b
 ·obtain⟨c,e,d,f⟩:=I.list b;have a:=e.length;exact Calls.call_len_list d.isList (by simp only[cQb]<;> omega) ⟨.int ys.length,H,I.tok _,⟨s.toks+1,by rw[cQb,a]⟩,q⟩
 ·obtain⟨c,e,d,f⟩:=I.tuple b;have a:=e.length;exact len_tuple d (by simp only[cQb]<;> omega) ⟨.int ys.length,H,I.tok _,⟨s.toks+1,by rw[cQb,a]⟩,q⟩
inductive aXD(K:bYT)(xs:List V)(H:Hp)(Q:VK):Prop|mk(p ys)(_:xs= [.ref p])(_:(SqL K H p ys\/SqT K H p ys))(_:∀l,H l=none->Q (.ref l) (upd H l (.lst ys)))
def uT:qF X (.type AB) (aXD X.K):=by
 intro pins s σ H xs x Q I r h;obtain⟨p,ys,rfl,j,q⟩:=h;obtain⟨u,rfl,v⟩:=aQ7 r;cases v;have fin:∀ (a:List bYS),xW ys a->ys.length<=cQk->∀ (h':Heap)(c:Nat),(∀b o',s.heap.get? b=some o'->h'.get? b=some o')->
   h'.get? s.heap.objs.size=some {cls:= .type AB,dict:=none,data:= .seq a.toArray c,slots:= #[] }->EP X pins σ Q (.ref s.heap.objs.size) {s with heap:=h'}:=λa d i h' c f e=>
  ⟨.ref s.heap.objs.size,_,I.laid (t':=s.toks) f (bYZ _) (show zH X.prog X.w _ h' _ (.lst ys)from⟨i,a,c,d,e⟩),rfl,q _ (I.hok.fresh (bYZ _))⟩
 rcases j with j|j
 ·obtain⟨a,d,m,i⟩:=I.list j;have g:=d.length;obtain⟨o,l,t,n,k⟩:=m.isList;exact call_list_seq p (.inl rfl) l t k (λh' c f e=>fin a d i h' c f e) (by simp only[cQb]<;> omega)
 ·obtain⟨a,d,m,i⟩:=I.tuple j;have g:=d.length;obtain⟨o,l,t,n,k⟩:=m;exact call_list_seq p (.inr rfl) l t k (λh' c f e=>fin a d i h' c f e) (by simp only[cQb]<;> omega)
inductive aXb(K:bYT)(xs:List V)(H:Hp)(Q:VK):Prop|mk(p ys)(_:xs= [.ref p])(_:((SqL K H p ys/\∀l,H l=none->Q (.ref l) (upd H l (.tup ys)))\/(SqT K H p ys/\Q (.ref p) H)))
def qV:qF X (.type AD) (aXb X.K):=by
 intro pins s σ H xs n Q I r h;obtain⟨p,ys,rfl,h⟩:=h;obtain⟨u,rfl,m⟩:=aQ7 r;cases m;rcases h with⟨d,q⟩|⟨d,q⟩
 ·obtain⟨a,f,c,j⟩:=I.list d;have i:=f.length;refine call_tuple_list c.isList (λh' k=>?_) (by simp only[cQb]<;> omega);have g:Inv X pins σ H {s with heap:=h'}:=I.kept (t':=s.toks) k;have l:Inv X pins σ (upd H h'.objs.size (.tup ys)) {s with heap:=h'.push {cls:= .type AD,data:= .seq a.toArray} }:=
   g.laid (t':=s.toks) (λb o e=>bYX _ e) (bYZ _) (show zH X.prog X.w _ _ _ (.tup ys)from⟨j,a,f,IsTup.new _ _⟩)
  exact⟨.ref h'.objs.size,_,l,rfl,q _ (g.hok.fresh (bYZ _))⟩
 ·obtain⟨a,f,c,j⟩:=I.tuple d;exact call_tuple_same c ⟨.ref p,H,I,rfl,q⟩
def tyV(K:bYT)(T:String)(x:V)(H:Hp):Prop:=match x with
 |.str _=>T=Ap
 |.int _=>T=Ao
 |.ref p=>(T=AB/\∃xs,SqL K H p xs)\/(T=AD/\∃o,K.lookup p=some o/\o.cls= .type AD/\o.dict=none)\/
   (T="dict"/\((∃a,H p=some (.dK a))\/∃a,H p=some (.dT a)))\/(T=B4/\∃S n,H p=some (.set S n))
 |_=>False
def bJz{pins:List (Addr×Obj)}{σ:St}{H:Hp}{s:bYV}{T:String}{x:V}{v:bYS}(I:Inv X pins σ H s)(r:zO x v)(ty:tyV X.K T x H): s.TypeIs v T/\∀a,v= .ref a->∃h,s.heap.get? a=some h/\h.dict=none:=by
 cases x with
 |str z=>obtain⟨t,rfl⟩:=r;cases (show T=Ap from ty);exact⟨typeIs_str s z t,λ_ e=>nomatch e⟩
 |int i=>obtain⟨t,rfl⟩:=r;cases (show T=Ao from ty);exact⟨typeIs_int s i t,λ_ e=>nomatch e⟩
 |ref p=>
  cases r;rcases ty with⟨rfl,xs,l⟩|⟨rfl,o,b,m,f⟩|⟨rfl,b⟩|⟨rfl,S,n,b⟩
  ·obtain⟨k,_,j,_⟩:=I.list l;refine⟨j.isList.typeIs,λa e=>?_⟩;cases e;obtain⟨o,n,e,c,f,_⟩:=j;exact⟨o,e,f⟩
  ·refine⟨⟨o,I.kIn p o b,m⟩,λa e=>?_⟩;cases e;exact⟨o,I.kIn _ o b,f⟩
  ·have z:∃o,s.heap.get? p=some o/\o.ExactDict:=by
    rcases b with⟨g,b⟩|⟨g,b⟩
    ·obtain⟨_,_,_,_,o,_,_,e,ex,_⟩:=I.hok p _ b;exact⟨o,e,ex⟩
    ·obtain⟨_,_,_,_,o,_,_,e,ex,_⟩:=I.hok p _ b;exact⟨o,e,ex⟩
   obtain⟨o,e,ex⟩:=z;refine⟨⟨o,e,ex.1⟩,λa d=>?_⟩;cases d;exact⟨o,e,ex.2.1⟩
  ·obtain⟨o,_,_,_,e,ex,_⟩:=I.hok p _ b;refine⟨⟨o,e,ex.1⟩,λa d=>?_⟩;cases d;exact⟨o,e,ex.2.1⟩
 |_=>exact cXp ty
inductive bYa(K:bYT)(T:String)(r:V->List V->Hp->VK->Prop)(Q:VK)(x:V)(H1:Hp):Prop|mk(_:tyV K T x H1)(_:r x [] H1 Q)
def bYL(K:bYT)(T:String)(r:V->List V->Hp->VK->Prop)(to:TE):TE:=λσ H Q=>to σ H λx H1=>bYa K T r Q x H1
inductive bYM(K:bYT)(T:String)(r:V->List V->Hp->VK->Prop)(t:TA)(σ:St)(Q:VK)(x:V)(H1:Hp):Prop|mk(_:tyV K T x H1)(_:t σ H1 λxs H2=>r x xs H2 Q)
def tBM(K:bYT)(T:String)(r:V->List V->Hp->VK->Prop)(to:TE)(t:TA):TE:=λσ H Q=>to σ H λx H1=>bYM K T r t σ Q x H1
variable {o e:Expr}{es:List Expr}{to:TE}{t:TA}{name:Str}{apos cpos:Pos}{T id:String}{r:V->List V->Hp->VK->Prop}
def aYW(e:PlainAttrs T)(c:Slot T name id)(d:typeOf (.builtin id)=pure (.type "method_descriptor"))(f:MtR X id r)(g:PE X o to) (a:cZG o name X.env (eval o X.env)=eval o X.env:=by rfl) (b:(apos.endLine==cpos.line)=true:=by rfl):PE X (.Call (.Attribute o name apos) [] [] cpos) (bYL X.K T r to):=by
 intro pins s σ H Q I h;refine wpAny_Call_method0_late a b (thn (g pins s σ H _ I h) λv s1 ⟨x,H1,I1,r1,ty,q1⟩=>?_);obtain⟨h1,h2⟩:=bJz I1 r1 ty;exact⟨T,id,e,c,d,h1,h2,Calls.callWith_builtin rfl (PySem.evalArgs_none (f pins s1 σ H1 x [] v [] Q I1 r1 .nil q1))⟩
def vN(l:PlainAttrs T)(d:Slot T name id)(g:typeOf (.builtin id)=pure (.type "method_descriptor"))(j:MtR X id r)(k:PE X o to)(m:PA X (e::es) t)
  (b:cZG o name X.env (eval o X.env)=eval o X.env:=by rfl)
  (f:((cXw cpos (cQy (e::es) X.env)).all (λx=> !x.1) && (cZ4 cpos (cZe [] X.env)).all (λx=>x.1.isSome) && decide ((e::es).length+([]:List Keyword).length+(if([]:List Keyword).isEmpty then 0 else 1)<30))=true:=by rfl)
  (c:(apos.endLine==cpos.line)=true:=by rfl) (n:cQy (e::es) X.env=(false,eval e X.env)::cQy es X.env:=by rfl) (a:(cXw cpos (cQy es X.env)).any (·.1)=false:=by rfl):
  PE X (.Call (.Attribute o name apos) (e::es) [] cpos) (tBM X.K T r to t):=by
 intro pins s σ H Q I h
 refine wpAny_Call_method_late b f c rfl (thn (k pins s σ H _ I h) λv s1 ⟨x,H1,I1,r1,ty,q1⟩=>?_)
 obtain⟨h1,h2⟩:=bJz I1 r1 ty
 refine⟨T,id,l,d,g,h1,h2,?_⟩
 have i:=m cpos pins s1 σ H1 _ I1 q1
 rw[n]at i ⊢
 refine Calls.callWith_builtin (by show(false || (cXw cpos (cQy es X.env)).any (·.1))=false;rw[a]<;> rfl) (Calls.evalArgs_plain ?_)
 exact thn i λus s2 ⟨vs,H2,I2,r2,q2⟩=>j pins s2 σ H2 x vs v us Q I2 r1 r2 q2
end
end L2
namespace L2
open PySem PySem.Spec PyProof.Rows
def MtM(X:Cx)(id:String)(r:V->List V->Hp->VK->Prop):Prop:=
 ∀ (pins:List (Addr×Obj))(s:bYV)(σ:St)(H:Hp)(x:V)(xs:List V)(v:bYS)(a:List bYS)(Q:VK),Inv X pins σ H s->zO x v->xW xs a->r x xs H Q->
  bY0 (bY2 X.prog X.w) X.A (call (.builtin id) (v::a)) (EP X pins σ Q) X.xe s
def xW.one:∀ {x:V} {us:List bYS},xW [x] us->∃u,us= [u]/\zO x u
 |_,_,.cons r .nil=>⟨_,rfl,r⟩
def xW.two:∀ {x y:V} {us:List bYS},xW [x,y] us->∃u v,us= [u,v]/\zO x u/\zO y v
 |_,_,_,.cons r (.cons q .nil)=>⟨_,_,rfl,r,q⟩
def xW.zero:∀ {us:List bYS},xW [] us->us= []
 |_,.nil=>rfl
def xW.dropLast{xs:List V}{us:List bYS}(h:xW xs us):xW xs.dropLast us.dropLast:=by
 induction h with
 |nil=>exact .nil
 |cons r t a=>
  cases t with
  |nil=>exact .nil
  |cons q b=>exact .cons r a
def xW.reverse{xs:List V}{us:List bYS}(h:xW xs us):xW xs.reverse us.reverse:=by
 induction h with
 |nil=>exact .nil
 |cons r t a=>rw[List.reverse_cons,List.reverse_cons];exact xW.append a (.cons r .nil)
def aWF{α:Type}(l:List α):l.eraseIdx (l.length - 1)=l.dropLast:=by
 induction l with
 |nil=>rfl
 |cons a r c=>
  cases r with
  |nil=>rfl
  |cons b r=>
   have e:(a::b::r).length - 1=((b::r).length - 1)+1:=by have h1:(a::b::r).length=r.length+2:=rfl;have h2:(b::r).length=r.length+1:=rfl;omega
   rw[e,List.eraseIdx_cons_succ,c];all_goals rfl
section
variable {X:Cx}{pins:List (Addr×Obj)}{σ:St}{H:Hp}{s:bYV}{l b:Addr}{xs ys zs:List V}
def Inv.lset{its its':List bYS}{n:Nat}{f:Array bYS->Array bYS}{t':Nat}(I:Inv X pins σ H s)(c:H l=some (.lst xs)) (e:s.heap.get? l=some {cls:= .type AB,data:= .seq its.toArray n}) (b:f its.toArray=its'.toArray) (h:xW ys its') (g:ys.length<=cQk): Inv X pins σ (upd H l (.lst ys)) {s with heap:=s.heap.update l (cQM f),toks:=t'}:=by
 have q:=PySem.IsL.update e f;rw[b]at q;refine I.write (x:=l) (e:=l) (by rw[c];exact trivial) (.inl rfl) (λi u a d=>(cQx s.heap (cQM f) (cQB a)).trans d) ⟨_,q⟩ ?_;exact⟨g,its',_,h,q⟩
def Inv.lnew{its:List bYS}{t':Nat}(I:Inv X pins σ H s)(a:xW ys its)(hz:ys.length<=cQk): Inv X pins σ (upd H s.heap.objs.size (.lst ys)) {s with heap:=s.heap.push {cls:= .type AB,data:= .seq its.toArray},toks:=t'}:=
 I.laid (λ_ _ q=>bYX _ q) (bYZ _) ⟨hz,its,0,a,cQn _ rfl⟩
def Inv.fresh(I:Inv X pins σ H s):H s.heap.objs.size=none:=I.hok.fresh (bYZ _)
def Inv.lstM(I:Inv X pins σ H s)(a:H l=some (.lst xs)):xs.length<=cQk/\∃ (its:List bYS)(n:Nat),xW xs its/\xs.length=its.length/\s.heap.get? l=some {cls:= .type AB,data:= .seq its.toArray n}:=by
 obtain⟨z,its,n,r,e⟩:=I.hok l _ a;exact⟨z,its,n,r,r.length,e⟩
def bXJ{n:Nat}(h:n<=cQk):cJg n=false:=by
 unfold cJg;exact decide_eq_false (by omega)
end
section
variable {X:Cx}
inductive aY2(x:V)(vs:List V)(H:Hp)(Q:VK):Prop|mk(l xs y)(_:x= .ref l)(_:vs= [y])(_:H l=some (.lst xs))(_:xs.length<cQk)(_:Q .non (upd H l (.lst (xs++ [y]))))
def xD:MtM X "list.append" aY2:=by
 intro pins s σ H x g v j Q I f d h;obtain⟨l,xs,y,rfl,rfl,b,i,q⟩:=h;cases f;obtain⟨u,rfl,c⟩:=d.one;obtain⟨z,a,n,r,hl,e⟩:=I.lstM b;refine call_meets F.slot_list_append ⟨_,e,rfl⟩ F.entry_list_append (F.args_list_append_2 _ _) (PySem.list_append l a.toArray n u (by rw[cQb];omega)) ⟨e,?_⟩;refine⟨.non,_,I.lset (its':=a++ [u]) b e (by simp) (r.append (.cons c .nil)) ?_,rfl,q⟩;rw[cQf,cQ5];omega
inductive bVx(x:V)(vs:List V)(H:Hp)(Q:VK):Prop|mk(l b xs zs)(_:x= .ref l)(_:vs= [.ref b])(_:H l=some (.lst xs))(_:H b=some (.lst zs))(_:xs.length+zs.length<=cQk)(_:Q .non (upd H l (.lst (xs++zs))))
def aYv:MtM X "list.extend" bVx:=by
 intro pins s σ H x y v B Q I w p h;obtain⟨l,b,xs,zs,rfl,rfl,g,m,A,q⟩:=h;cases w;obtain⟨u,rfl,o⟩:=p.one;cases o;obtain⟨z,c,n,r,hl,e⟩:=I.lstM g;obtain⟨z2,a,k,t,j,i⟩:=I.lstM m;have f:c.toArray.size+a.toArray.size<=cQk:=by rw[cQb,cQb];omega
 have d:¬ (!c.toArray.isEmpty && cJg (c.toArray.size+a.toArray.size))=true:=by rw[bXJ f,Bool.and_false];exact Bool.false_ne_true
 refine call_meets F.slot_list_extend ⟨_,e,rfl⟩ F.entry_list_extend (F.args_list_extend_2 _ _)
  (AutoSeq1.list_extend_list_list_0 l c.toArray n b a.toArray k d (by rw[cQb];omega) (by omega)) ⟨e,i,?_⟩
 refine⟨.non,_,I.lset (its':=c++a) g e (by simp) (r.append t) ?_,rfl,q⟩;rw[cQf];omega
inductive bYG(x:V)(vs:List V)(H:Hp)(Q:VK):Prop|mk(l xs y)(_:x= .ref l)(_:vs= [])(_:H l=some (.lst xs))(_:xs[xs.length - 1]? =some y)(_:Q y (upd H l (.lst xs.dropLast)))
def aYw:MtM X "list.pop" bYG:=by
 intro pins s σ H x m v o Q I j i h;obtain⟨l,xs,y,rfl,rfl,d,k,q⟩:=h;cases j;have b:=i.zero;subst b;obtain⟨z,a,n,r,hl,e⟩:=I.lstM d;obtain⟨u,f,g⟩:=r.get k;have c:a.toArray[a.toArray.size - 1]? =some u:=by show a.toArray[a.length - 1]? =some u;rw[<- cXr,<- hl];exact f
 refine call_meets F.slot_list_pop ⟨_,e,rfl⟩ F.entry_list_pop (F.args_list_pop_1 _) (MeetsSeq.list_pop_last l a.toArray n u c (by rw[cQb];omega)) ⟨e,?_⟩;refine⟨y,_,I.lset (its':=a.dropLast) d e ?_ r.dropLast ?_,g,q⟩
 ·show a.toArray.eraseIdxIfInBounds (a.toArray.size - 1)=a.dropLast.toArray;rw[cQb,List.eraseIdxIfInBounds_toArray,aWF]
 ·rw[List.length_dropLast];omega
inductive bYF(x:V)(y:V)(H:Hp)(Q:VK):Prop|mk(l b xs zs)(_:x= .ref l)(_:y= .ref b)(_:H l=some (.lst xs))(_:H b=some (.lst zs))(_:xs.length+zs.length<=cQk)(_:∀p,H p=none->Q (.ref p) (upd H p (.lst (xs++zs))))
def aZT:OpR X (cZz .Add) bYF:=by
 intro pins s σ H x y v u Q I m j h;obtain⟨l,b,xs,zs,rfl,rfl,g,i,t,q⟩:=h;cases m;cases j;obtain⟨z,c,n,r,hl,e⟩:=I.lstM g;obtain⟨z2,a,p,k,f,d⟩:=I.lstM i;refine PySem.P.add_list e d ?_ (by rw[cQb,cQb];omega);have o:c.toArray++a.toArray=(c++a).toArray:=by simp
 rw[o];exact⟨.ref _,_,I.lnew (t':=s.toks) (r.append k) (by rw[cQf];omega),rfl,q _ I.fresh⟩
end
section
variable {prog:cQe}{w:cQm}{A:cQA}{E:bYS->bYV->Prop}{s:bYV}
end
section
variable {X:Cx}
end
end L2
namespace Att
open PySem PySem.W PySem.Calls PyProof.Rows
def aQl{P:Params}{h:Heap}:∀ (c:List Int)(vs:List bYS),WellAll P h vs (c.map WData.int)->cZp vs c:=by
 intro c;induction c with
 |nil=>intro vs w;rw[List.map_nil]at w;cases w;exact .nil
 |cons n c d=>
  intro vs w;rw[cQF]at w;cases w with
  |cons a b=>cases a;exact .cons _ _ (d _ b)
def bQE{l:OpenLaw}{n:Nat}(s:l.most=some n){P:Params}{h:Heap}{args:List WData}{vals:List bYS} (c:l.row.toRowW.claim.pre args=true) (j:WellAll P h vals args): ∃a m b,vals= [Value.ref a]/\args= [WData.list (b.map WData.int)]/\h.get? a=some {cls:= .type AB,data:= .seq m.toArray}/\cZp m b/\b.length<=n:=by
 have k:WShape.hasAll [] args [.list .int]=true:=(pre_splitW c).1;have o:l.pre.holds [] {args:=args}=true:=(pre_splitW c).2;obtain⟨d,r,rfl,h1,h2⟩:=hasAllW_cons k;obtain rfl:=hasAllW_nil h2;obtain⟨xs,rfl,u⟩:=hasW_list h1;obtain⟨b,rfl⟩:=items_int u;have e:b.length<=n:=by
  unfold OpenLaw.pre at o;have i:(WTm.not (.lt (.lit (.int (n:Int))) (.len (.arg 0)))).holds [] {args:= [.list (b.map .int)] }=true:=by have i:=(holds_andW o).1;rw[s]at i;exact i
  have g:=condW_of i (w_not (w_lt w_lit (w_len_list (w_arg rfl))));rw[bYW]at g;refine Nat.le_of_not_lt λq=>?_;have w:(n:Int)<((b.length:Nat):Int):=by omega
  first
   |(rw[decide_eq_true w]at g;exact absurd g (by decide))
   |(simp at g;omega)
 cases j with
 |cons v t=>
  cases t;cases v with
  |list p f=>exact⟨_,_,b,rfl,rfl,p,aQl b _ f,e⟩
def aYZ(l:OpenLaw)(args:List WData):l.row.toRowW.claim.post args (.bool true) args=true:=
 postW_of (r:=l.row.toRowW) (X:=(true==true))
  (show WShape.has [] (.bool true) .bool=true by first|rfl|decide|simp[WShape.has,WShape.arms,WShape.armsAll])
  (show(WTm.eq .res (.lit (.bool true))).value [] {args:=args,res:=some (.bool true),after:=args}=some (.bool (true==true))from w_eq_bool (w_res rfl) w_lit) rfl
def aJv{l:OpenLaw}{n:Nat}{q:cQe}{loose:List Str}{A:(Str->Option bYS)->Heap->Prop}{z:cQm->Heap->Prop}{d:DefRec} (I:l.most=some n) (x:d.params.defaults= []) (call:∀ (w:cQm)(s₀ b:bYV)(mg v:Str->Option bYS)(i:Addr)(o:Obj)(s k c:bYS)(a:Addr)(vs:List bYS)(m:List Int), Ground q loose [] A w s₀ mg v b.heap->z w b.heap-> b.heap.get? i=some o->o.data= .func (docDef d.name d.params d.body d.scope s k c)->b.heap.CodeRec k d.name->mg d.name=some (.ref i)-> b.heap.get? a=some {cls:= .type AB,data:= .seq vs.toArray}->cZp vs m->m.length<=n->b.gens= #[]-> cZb (bY2 l.prog w) callerA (.call (.ref i) ⟨[.ref a],[]⟩) (λr s'=>r= .ok (.ret (.bool true))/\OldK b.heap s'.heap/\s'.os=b.os/\AllBare s'.gens) b): WalkO q loose A z l.row.toRowW d [] (λf vs=>PySem.call f vs):=by
 intro w s₀ b mg v G Y i o s k c L kV F C u B t H args vals O g y N p D;obtain rfl:L= .none:=Dflts.none B x;obtain rfl:kV= .none:=Dflts.noKw B;obtain⟨a,vs,m,rfl,rfl,j,e,h⟩:=bQE I g p;refine enter_call (cXL (call w s₀ b mg v i o s k c a vs m G Y F (fd_plain C) u t j e h H) λr s' M=>?_);obtain⟨rfl,h2,J,K⟩:=M;exact⟨.inl ⟨.bool true,.bool true,[],rfl,λ_=>rfl,.bool true,aYZ l _,λ_=>⟨List.Pairwise.nil,λ_ E=>(nomatch E)⟩⟩,h2,J,K⟩
section
variable {prog:cQe}{w:cQm}{A:cQA}{E:bYS->bYV->Prop}{s:bYV}{K:Frag}
end
end Att
namespace L2
open PySem PySem.Spec PyProof.Rows
def jF:∀ {vs:List bYS} {a:List Int},cZp vs a->xW (a.map V.int) vs
 |_,_,.nil=> .nil
 |_,_,.cons n t h=> .cons ⟨t,rfl⟩ (jF h)
end L2
namespace L2
open PySem PySem.Spec PyProof.Rows
end L2
namespace L2
open PySem PySem.Spec PyProof.Rows
def xX(s:Stmt):Arguments:=match s with
 |.FunctionDef _ a _ _ _ _ _ _ _ _=>a
 |_=>{posonlyargs:= [],args:= [],vararg:=none,kwonlyargs:= [],kw_defaults:= [],kwarg:=none,defaults:= [] }
def xQ(s:Stmt):List Stmt:=match s with
 |.FunctionDef _ _ b _ _ _ _ _ _ _=>b
 |_=> []
def yH(s:Stmt):cX8:=match s with
 |.FunctionDef _ _ _ _ _ _ a _ _ _=>a
 |_=>{kind:= .function,names:= [],isGenerator:=false,isCoroutine:=false}
abbrev CX0:CXT:=λ_ _ _ _ _ _=>False
abbrev E0:XK:=λ_ _ _=>False
def v1{X:Cx}:vQ CX0 X E0:=λ_ _ _ _ _ _ _ h=>h.elim
structure Fun(K:bYT)(x qual:Str)(st:Stmt)(f:Addr)(fd:cXR):Prop where
 ex:∃ (oc:bYS)(od:Option Addr)(kV doc pm:bYS)(an:Option Addr)(cdv ct:bYS)(osl:Array (Option bYS)),
  fd=cQY x qual (xX st) (xQ st) (yH st) .none kV doc pm an cdv ct/\K.lookup f=some ⟨oc,od,.func fd,osl⟩/\cXB K cdv qual=true
 kp:cQO K (.ref f)=true
section
variable {P:cQe}{w:cQm}{K:bYT}{mg:Str->Option bYS}{base:Heap}
def Fun.ok{x qual:Str}{st:Stmt}{f:Addr}{fd:cXR}{N ps:List Str}{k:Nat}{sp:Sp}(F:Fun K x qual st f fd)(S:yN N ps (yH st)) (b:∀ (a:bYS)(A:cQA)(outer:List Env)(s:bYV)(H:Hp)(vs:List V)(Q:VK)(E:XK),vX k (A.deeper (cXQ qual (yH st) s.heap.objs.size f a))->sp vs H Q E-> ∃t,PSs (aXF CX0 P w K mg base N qual (yH st) f a A outer s H E).nox (xQ st) t/\t {nx:=λ_ H'=>Q .non H',rt:=Q} (start N vs) H) (len:∀vs H Q E,sp vs H Q E->vs.length=ps.length:=by intro _ _ _ _ h;first|(cases h;subst_vars;exact rfl)|repeat (first|(obtain⟨rfl,_⟩:=h;exact rfl)|(obtain⟨_,h⟩:=h))):xE P w K mg base CX0 (k+1) f fd ps sp:=by
 obtain⟨m,n,kV,e,j,l,a,ct,i,rfl,lk,d⟩:=F.ex;refine bJT lk d S len λA outer s H vs Q E g c=>?_;obtain⟨t,h,q⟩:=b a A outer s H vs Q E g c;exact⟨t,h.nox,q⟩
def Fun.binds{x qual:Str}{st:Stmt}{f:Addr}{fd:cXR}{ps:List Str}(F:Fun K x qual st f fd) (h:∀ (kV b c:bYS)(d:Option Addr)(a ct:bYS)(us:List bYS),us.length=ps.length->cZA (cQY x qual (xX st) (xQ st) (yH st) .none kV b c d a ct) ⟨us,[]⟩=pure (ps.zip us)):v7 K fd ps []:=by
 obtain⟨j,i,kV,b,c,d,a,ct,g,rfl,lk,e⟩:=F.ex;exact .all (h kV b c d a ct)
def aXn{x qual:Str}{st:Stmt}{f:Addr}{i:bYS}{h g:Option Addr}{d:Array (Option bYS)}{kV b e a ct:bYS}(l:K.lookup f=some ⟨i,h,.func (cQY x qual (xX st) (xQ st) (yH st) .none kV b e g a ct),d⟩)
  (c:cXB K a qual=true) (k:cQO K (.ref f)=true):Fun K x qual st f (cQY x qual (xX st) (xQ st) (yH st) .none kV b e g a ct):=⟨⟨i,h,kV,b,e,g,a,ct,d,rfl,l,c⟩,k⟩
end
def bWG{A:cQA}{k:Nat}(a:vX k A):A.units+1<cLine:=Nat.lt_of_le_of_lt (Nat.add_le_add_left (by decide:1<=64) _) a.units
section
variable {X:Cx}
def pv(i:Nat){x:Str}{pos:Pos}(c:X.N[i]? =some x:=by rfl)(d:Vis X.env.scope x:=by first|exact Or.inl rfl|exact Or.inr (Or.inl rfl)|exact Or.inr (Or.inr rfl))(b:(x==(AO:Str))=false:=by decide)
  (a:(x==(B8:Str))=false:=by decide):PE X (.Name x pos) (bWc i):=bJm c d b a
end
def qC{c A B:Prop} [Decidable c] (h1:c->A)(h2:¬c->B):if c then A else B:=by
 by_cases h:c
 ·rw[if_pos h];exact h1 h
 ·rw[if_neg h];exact h2 h
def xC(H H':Hp):Prop:=∀b o,H b=some o->H' b=some o
def xC.refl(H:Hp):xC H H:=λ_ _ h=>h
def xC.trans{H H1 H2:Hp}(a:xC H H1)(b:xC H1 H2):xC H H2:=λc o h=>b c o (a c o h)
def xC.seq{K:bYT}{H H':Hp}{a:Addr}{xs:List V}(e:xC H H')(h:SqL K H a xs):SqL K H' a xs:=by
 rcases h with(h|⟨o,h⟩)|h
 ·exact .inl (.inl (e _ _ h))
 ·exact .inl (.inr ⟨o,e _ _ h⟩)
 ·exact .inr h
end L2
namespace L2
open PySem
def scM{N P:List Str}{sc:Scope}(h:decide (sc.kind=.function/\sc.isCoroutine=false/\sc.isGenerator=false/\N.Nodup/\N.take P.length=P/\(∀x∈P,sc.names.lookup x=some .local\/sc.names.lookup x=some .cell)/\∀y∈sc.names,y.2≠.free)=true:=by decide +kernel):yN N P sc:=
 have z:=of_decide_eq_true h;⟨z.1,z.2.1,z.2.2.1,z.2.2.2.1,z.2.2.2.2.1,z.2.2.2.2.2.1,z.2.2.2.2.2.2⟩
end L2
namespace L2
open PySem PySem.Spec PyProof.Rows
def qW(env:Env)(l:List (Str×cZO))(cs:List (Str×Nat)):Sem (List (Str×Nat)):=do
 let mut cs:=cs
 for (name,kind)in l do
  if kind== .free then cs:=(name,<- cellOf env name)::cs
 return cs
def aWy(env:Env)(cs:List (Str×Nat)):qW env [] cs=pure cs:=by simp[qW]
def aJz{env:Env}{n:Str}{c:Nat}{r:List (Str×cZO)}{cs:List (Str×Nat)}(h:env.cells.lookup n=some c):qW env ((n,.free)::r) cs=qW env r ((n,c)::cs):=by
 have e:cellOf env n=pure c:=by unfold cellOf;rw[h]
 simp[qW,e]
def aZs{env:Env}{n:Str}{k:cZO}{r:List (Str×cZO)}{cs:List (Str×Nat)}(h:k≠ .free):qW env ((n,k)::r) cs=qW env r cs:=by
 simp[qW,h]
def aJA{env:Env}:∀ (l:List (Str×cZO))(cs:List (Str×Nat)),(∀y∈l,y.2= .free->∃c,env.cells.lookup y.1=some c)->(∀y c,cs.lookup y=some c->env.cells.lookup y=some c)->
  ∃cl,qW env l cs=pure cl/\(∀y c,cl.lookup y=some c->env.cells.lookup y=some c)/\(∀y,(∃c,cs.lookup y=some c)->∃c,cl.lookup y=some c)/\(∀y,(y,NameKind.free)∈l->∃c,cl.lookup y=some c)
 |[],cs,_,h=>⟨cs,aWy env cs,h,λ_ z=>z,λ_ z=>by cases z⟩
 |(n,k)::r,cs,hl,h=>by
  by_cases f:k= .free
  ·subst f;obtain⟨c,o⟩:=hl (n,.free) bY7 rfl;obtain⟨cl,m,g,d,j⟩:=aJA r ((n,c)::cs) (λy a=>hl y (bY4 _ a)) (λy b e=>by
    rw[cXI]at e;split at e
    ·rename_i z;cases e;rw[beq_iff_eq.mp z];exact o
    ·exact h y b e)
   have i:∀y,(∃c,cs.lookup y=some c)->∃b,((n,c)::cs).lookup y=some b:=λy ⟨b,e⟩=>by
    rw[cXI];split
    ·exact⟨_,rfl⟩
    ·exact⟨b,e⟩
   refine⟨cl,by rw[aJz o];exact m,g,λy z=>d y (i y z),λy a=>?_⟩;rcases bY1.mp a with e|a
   ·cases e;exact d _ ⟨c,by rw[cXI,beq_self_eq_true]⟩
   ·exact j y a
  ·obtain⟨cl,m,g,d,j⟩:=aJA r cs (λy a=>hl y (bY4 _ a)) h;refine⟨cl,by rw[aZs f];exact m,g,d,λy a=>?_⟩;rcases bY1.mp a with e|a
   ·cases e;exact absurd rfl f
   ·exact j y a
abbrev blk(X:Cx)(N:List Str)(sc:cX8)(cl:List (Str×Nat))(C:Nat)(s:bYV)(H:Hp)(ex:List Nat):Cx:=
 {X with N:=N,s₀:=s,H₀:=H,env:=compEnvC sc cl C X.env,outer:=X.stack,ex:=ex,fn:=λ_=>false,pn:= [],xe:=λ_ _=>False}
def sub(σ:St)(fr:List Nat)(o:Option V):St:=o::fr.map λi=>(σ[i]?).join
abbrev lsN(l:List (Str×cZO)):PySem.Scope:={kind:= .function,names:=l,isGenerator:=false,isCoroutine:=false,more:= [] }
def ixK{X:Cx}{K:bYT}(h:X.K=K:=by rfl):IxR X (bWk K):=by subst h;exact yK
def ixT{X:Cx}{K:bYT}(h:X.K=K:=by rfl):IxR X (bK0 K):=by subst h;exact yX
structure xN(N:List Str)(osc:cX8)(x:Str)(names:List Str)(fr:List Nat)(sc:cX8):Prop where
 kind:sc.kind= .function
 nocell:∀y∈sc.names,y.2≠ .cell
 loc:∀y∈sc.names,y.2= .local->sc.names.lookup y.1=some .local
 var:sc.names.lookup x=some .local
 free:∀y∈sc.names,y.2= .free->osc.names.lookup y.1=some .cell\/osc.names.lookup y.1=some .free
 flk:∀y∈sc.names,y.2= .free->sc.names.lookup y.1=some .free
 nd:(x::names).Nodup
 len:fr.length=names.length
 taken:∀p∈names.zip fr,N[p.2]? =some p.1/\(p.1,NameKind.free)∈sc.names
def xN.from_{N:List Str}{b sc:cX8}{x:Str}{names:List Str}{fr:List Nat}(S:xN N b x names fr sc)(j:Nat)(y:Str)(h:names[j]? =some y):∃i,fr[j]? =some i/\N[i]? =some y/\(y,NameKind.free)∈sc.names:=by
 have d:j<names.length:=(bY3.mp h).1;have a:j<fr.length:=by rw[S.len];exact d
 have z:(names.zip fr)[j]? =some (y,fr[j]):=by rw[List.getElem?_zip_eq_some];exact⟨h,bYR a⟩
 obtain⟨e,c⟩:=S.taken _ (cQa z);exact⟨fr[j],bYR a,e,c⟩
def bWr(X:Cx)(ifs:List Expr)(t:TT):Prop:=
 ∀ (pins:List (Nat×Obj))(s:bYV)(σ:St)(H:Hp)(Q:Bool->Hp->Prop),Inv X pins σ H s->t σ H Q->
  bY0 (bY2 X.prog X.w) X.A (forIn ifs true λc r=>if r=true then do let ok <- isTrue c X.env (eval c X.env);pure (cJC ok)else pure (cJC r)) (TP X pins σ Q) X.xe s
def bYt:TT:=λ_ H Q=>Q true H
def wK{X:Cx}:bWr X [] bYt:=λpins s σ H Q I h=>by
 simp only[List.forIn_nil];exact bYY ⟨H,I,h⟩
def w8{X:Cx}{c:Expr}{a:TT}(d:PT X c a):bWr X [c] a:=λpins s σ H Q I h=>by
 simp only[cJD,List.forIn_nil,if_true,bind_assoc,pure_bind];refine bYU (thn (d pins s σ H Q I h) λb e z=>?_);exact bYY z
def bWi(J:It)(fr:List Nat)(tif:TT)(te:TE)(σ:St)(D:Nat)(Q:VK)(g:Hp):Prop:=
 ∃W:Nat->Nat->List V->Hp->Prop,(∃m,W 0 m [] g)/\∀i m a H,W i m a H->H D=some (.lst a)/\
  ((J.stop i H/\Q (.ref D) H)\/(J.go i H/\∀v e,J.yld i H v e->tif (sub σ fr (some v)) e λb d=>
   if b=true then te (sub σ fr (some v)) d λy f=>a.length<cQk/\f D=some (.lst a)/\∃c,c<m/\W (i+1) c (a++ [y]) (upd f D (.lst (a++ [y])))
   else ∃c,c<m/\W (i+1) c a d))
def tLc(wi:TI)(fr:List Nat)(tif:TT)(te:TE):TE:=λσ H Q=>wi σ H λJ a=>∀D,a D=none->bWi J fr tif te σ D Q (upd a D (.lst []))
def aXv{env:Env}:∀ {names:List (Str×cZO)} {y:Str},names.lookup y=some .free->
  (names.map λ(n,k)=>if(k==NameKind.free && env.scope.kind== .function && env.kindOf n==some .cell)then(n,NameKind.cell)else(n,k)).lookup y=some .cell\/
  (names.map λ(n,k)=>if(k==NameKind.free && env.scope.kind== .function && env.kindOf n==some .cell)then(n,NameKind.cell)else(n,k)).lookup y=some .free
 |[],_,h=>by simp at h
 |(n,k)::r,y,h=>by
  have b:= @aXv env r y;rw[cQF];dsimp only;cases a:y==n with
  |true=>
   rw[cXI,a]at h;cases h;split
   ·left;rw[cXI,a]
   ·right;rw[cXI,a]
  |false=>
   rw[cXI,a]at h;split
   ·rw[cXI,a];exact b h
   ·rw[cXI,a];exact b h
def aZ0{env:Env}{sc:cX8}{y:Str}(h:sc.names.lookup y=some .free):(relabel sc env).names.lookup y=some .cell\/(relabel sc env).names.lookup y=some .free:=aXv h
section
variable {X:Cx}{pins:List (Nat×Obj)}{σ:St}{H:Hp}{s:bYV}
def bXD{prog:cQe}{w:cQm}{A:cQA}{R:Result->bYV->Prop}{s:bYV}{elt a iter:Expr}{ifs:List Expr}{scope:cX8}{pos:Pos}{it l:bYS}{env:Env}(I:Nat->bYV->Prop)
  (turn:∀n s,I n s->bY0 (bY2 prog w) A (pyNext it) (λr d=>match r with
   |none=>R (.ok .next) d
   |some v=>bY0 (bY2 prog w) A (cJK a it v) (λ_ e=>bY0 (bY2 prog w) A (assign a env v) (λ_ g=>
     bY0 (bY2 prog w) A (forIn ifs true λc r=>if r=true then do let ok <- isTrue c env (eval c env);pure (cJC ok)else pure (cJC r)) (λok b=>
      if ok=true then bY0 (bY2 prog w) A (eval elt env) (λx k=>
       bY0 (bY2 prog w) A (call (.builtin "list.append") [l,x]) (λ_ j=>∃m,m<n/\I m j) (λ_ _=>False) k) (λ_ _=>False) b
      else ∃m,m<n/\I m b) (λ_ _=>False) g) (λ_ _=>False) e) (λ_ _=>False) d) (λ_ _=>False) s)
  (n:Nat) (h:I n s):cZb (bY2 prog w) A (.compLoop (.ListComp elt [⟨a,iter,ifs,0⟩] scope pos) 0 it l env) R s:=by
 refine codeAny_loop rfl I (λn s u=>?_) n h
 show bY0 _ A ((compTurn (.ListComp elt [⟨a,iter,ifs,0⟩] scope pos) 0 it l env).onRaise (λx=>do cJl x env;theTreesLotGoes x)) _ _ s
 refine wpAny_noted ?_
 rw[compTurn_list]
 refine bYU (cJt (bYU (cQW (turn n s u) (λr d i=>?_) λ_ _ z=>z.elim)))
 cases r with
 |none=>exact bYY i
 |some v=>
  refine bYU (cQW i (λ_ e o=>?_) λ_ _ z=>z.elim);refine bYU (cQW o (λ_ g q=>bYU (cQW q (λok b f=>?_) λ_ _ z=>z.elim)) λ_ _ z=>z.elim);cases ok with
  |false=>exact bYY ⟨rfl,f⟩
  |true=>refine bYU (bYU (cQW f (λx k t=>bYU (cQW t (λ_ j p=>?_) λ_ _ z=>z.elim)) λ_ _ z=>z.elim));exact bYY (bYY ⟨rfl,p⟩)
def bJg{elt iter:Expr}{x:Str}{px:Pos}{ifs:List Expr}{sc:cX8}{pos:Pos}{names:List Str}{fr:List Nat}{tif:TT}{te:TE}{cl:List (Str×Nat)}{E:bYS->bYV->Prop}(S:xN X.N X.env.scope x names fr sc)(hc:X.calm=true)
  (d:∀y c,cl.lookup y=some c->X.env.cells.lookup y=some c) (a1:∀y,(y,NameKind.free)∈sc.names->∃c,cl.lookup y=some c)
  (c1:∀cl C s H ex,bWr (blk X (x::names) sc cl C s H ex) ifs tif) (he:∀cl C s H ex,PE (blk X (x::names) sc cl C s H ex) elt te)
  {J:It} {it:Nat} {f:List Nat} {tn:Nat->Heap->Prop} {Q:VK} (I:Inv X pins σ H s) (T:bKB X.prog X.w X.K (.Name x px) J f it tn) (st:tn 0 s.heap) (hf:∀b∈f,bZ4 X pins H b)
  (q:∀D,H D=none->bWi J fr tif te σ D Q (upd H D (.lst []))) {RR:bYS->Nat->Result->bYV->Prop}
  (b6:∀D C F g,Inv X pins σ g F->g C=none->C≠X.env.locals->X.s₀.heap.objs.size<=C->(∀y c,X.env.cells.lookup y=some c->c≠C)->(∀p∈X.pn++pins,p.1≠C)->(∃m,F.heap.Ns C m)->Q (.ref D) g->RR (.ref D) C (.ok .next) F):
  bY0 (bY2 X.prog X.w) X.A (newList []) (λb2 s₃=>bY0 (bY2 X.prog X.w) X.A (newFunctionEnv sc X.env.globals cl [] X.env.qual none .none (some X.env)) (λZ s₄=>
   cZb (bY2 X.prog X.w) X.A (.compStart (.ListComp elt [⟨.Name x px,iter,ifs,0⟩] sc pos) 0 (.ref it) b2 {Z with scope:=relabel sc X.env}) (RR b2 Z.locals) s₄) E s₃) E s:=by
 refine cXS (wpAny_newFunctionEnv S.nocell (by intro y hy;simp at hy) (λt a2 a4=>?_) S.kind)
 dsimp only at a2 a4 ⊢
 have l:Inv X pins σ (upd H s.heap.objs.size (.lst [])) {s with heap:=s.heap.push {cls:= .type AB,dict:=none,data:= .seq ([]:List bYS).toArray} }:=I.lnew (t':=s.toks) (ys:= []) (its:= []) .nil (cQQ _)
 have b4:=I.fresh
 obtain⟨W,⟨m0,w0⟩,turn⟩:=q s.heap.objs.size b4
 have a0:∀b∈f,∃o,s.heap.get? b=some o/\∀v,o.data≠ .cell v:=T.obj 0 _ st
 have hG:(s.heap.push {cls:= .type AB,dict:=none,data:= .seq ([]:List bYS).toArray}).objs.size=s.heap.objs.size+1:=cXs ..
 have kG:∀b o,s.heap.get? b=some o->(s.heap.push {cls:= .type AB,dict:=none,data:= .seq ([]:List bYS).toArray}).get? b=some o:=λb o e=>bYX _ e
 generalize d0:s.heap.push {cls:= .type AB,dict:=none,data:= .seq ([]:List bYS).toArray}=G at a2 a4 l hG kG ⊢
 generalize c9:s.heap.objs.size=D at b4 turn w0 hG l ⊢
 have keep:∀b o,G.get? b=some o->t.get? b=some o:=λb o e=>a4.extBut b o (cQj (bY6 e)) (bYX _ e)
 have a9:∀b∈f,b≠G.objs.size:=λb a=>by obtain⟨o,e,_⟩:=a0 b a;exact cQj (bY6 (kG b o e))
 have a3:∀y c,X.env.cells.lookup y=some c->c≠G.objs.size:=λy c e=>by obtain⟨v,z⟩:=l.cell y c e;exact cQj z.lt
 have c0:(blk X (x::names) sc cl G.objs.size {s with heap:=G} (upd H D (.lst [])) f).Ok:=by
  refine⟨I.ok.mod,?_,I.ok.glob,I.ok.blt,bYZ _,?_,?_,?_,I.ok.hd,I.ok.frames,.inl rfl,?_,l.bs,cQv I.ok.bsz l.sz,?_,?_,l.stack,l.stkFree⟩
  ·show(relabel sc X.env).kind= .function;exact S.kind
  ·exact λy z c h1 h2=>I.ok.inj y z c (d y c h1) (d z c h2)
  ·intro y hy;have c7:(relabel sc X.env).names.lookup y=some .cell\/(relabel sc X.env).names.lookup y=some .free:=hy;have R:(y,NameKind.cell)∈(relabel sc X.env).names\/(y,NameKind.free)∈(relabel sc X.env).names:=c7.imp cXn cXn;have b7:(y,NameKind.free)∈sc.names:=by
    rcases R with R|R
    ·obtain⟨⟨n,k⟩,Y,e⟩:=cQX.mp (show(y,NameKind.cell)∈sc.names.map _ from R);dsimp only at e;split at e
     ·rename_i M;cases e;have:k= .free:=by
       simp only[Bool.and_eq_true,beq_iff_eq]at M;exact M.1.1
      rw[this]at Y;exact Y
     ·cases e;exact absurd rfl (S.nocell _ Y)
    ·obtain⟨⟨n,k⟩,Y,e⟩:=cQX.mp (show(y,NameKind.free)∈sc.names.map _ from R);dsimp only at e;split at e
     ·cases e
     ·cases e;exact Y
   exact a1 y b7
  ·exact λy c h _=>by cases h
  ·intro b a;exact⟨a9 b a,λy c e=>(hf b a).2.2.2.2.1 y c (d y c e)⟩
  ·intro b o e a;obtain⟨f0,f1,f2,f3,f4,f5⟩:=hf b a;rcases f3 with z|z
   ·exact I.ok.noex b o e z
   ·exact absurd (cQl (bY6 e) (cQv I.ok.bsz z)) (cQ4 _)
  ·intro b a z;obtain⟨f0,f1,f2,f3,f4,f5⟩:=hf b a;rcases bY1.mp (I.stkSub b z)with z|z
   ·exact f1 z
   ·exact f2 z
 have IY:Inv (blk X (x::names) sc cl G.objs.size {s with heap:=G} (upd H D (.lst [])) f) [] (sub σ fr none) (upd H D (.lst [])) {s with heap:=t,toks:=s.toks+([]:List (Str×bYS)).length}:=by
  refine⟨c0,rfl,I.bare,Un.kept keep,⟨_,a2,?_⟩,?_,l.hok.fresh (bYZ _),λy c e=>l.freeC y c (d y c e),λp hp=>absurd (show p∈([]:List (Nat×Obj))from hp) (by simp),l.hok.kept keep,?_⟩
  ·intro i y v h1 h2 h3;cases i with
   |zero=>cases h2
   |succ j=>
    have c4:names[j]? =some y:=h1;obtain⟨i',e1,e2,e3⟩:=S.from_ j y c4;have c6:σ[i']? =some (some v):=by
     have z:(fr.map λi=>(σ[i]?).join)[j]? =some (some v):=h2;rw[cQc,e1]at z;have P:(σ[i']?).join=some v:=cQd z;cases q:σ[i']? with
     |none=>rw[q]at P;cases P
     |some o=>rw[q]at P;rw[show o=some v from P]
    obtain⟨m,Y,hl⟩:=l.loc;have b3:Vis X.env.scope y:= .inr (S.free _ e3 rfl);obtain⟨u,ru,lk⟩:=hl i' y v e2 c6 b3;refine⟨u,ru,.inr ⟨?_,?_⟩⟩
    ·exact aZ0 (S.flk _ e3 rfl)
    ·rcases lk with⟨k,_⟩|⟨k,c,e,z⟩
     ·rcases S.free _ e3 rfl with z|z
      ·have P:X.env.kindOf y=some .cell:=z;rw[k]at P;cases P
      ·have P:X.env.kindOf y=some .free:=z;rw[k]at P;cases P
     ·obtain⟨c',e'⟩:=a1 y e3;have:=d y c' e';rw[e]at this;cases this;exact⟨c,e',z.keeps keep⟩
  ·intro y c e;obtain⟨v,z⟩:=l.cell y c (d y c e);exact⟨v,z.keeps keep⟩
  ·show(sub σ fr none).length=(x::names).length;simp[sub,S.len]
 have a6:∀ {o:Option V} {g:Hp} {F:bYV} {pl:List (Nat×Obj)},Inv (blk X (x::names) sc cl G.objs.size {s with heap:=G} (upd H D (.lst [])) f) pl (sub σ fr o) g F->Inv X pins σ g F:=λ{o g F pl} I'=>
  l.call' (ch:=f) I'.os I'.base I'.hok I'.bare λb a=>by obtain⟨f0,f1,f2,f3,f4,f5⟩:=hf b a;exact⟨f3,f1,f4,f5⟩
 have O:∀ {g:Hp},(∀b∈f,g b=none)->∀b∈f,bZ4 (blk X (x::names) sc cl G.objs.size {s with heap:=G} (upd H D (.lst [])) f) [] g b:=λ{g} Y b a=>by
  obtain⟨f0,f1,f2,f3,f4,f5⟩:=hf b a;refine⟨Y b a,a9 b a,λz=>?_,.inl a,λy c e=>f4 y c (d y c e),λp hp=>absurd (show p∈([]:List (Nat×Obj))from hp) (by simp)⟩;rcases bY1.mp (I.stkSub b z)with z|z
  ·exact f1 z
  ·exact f2 z
 have c5:∀b∈f,upd H D (.lst []) b=none:=λb a=>by
  obtain⟨o,e,_⟩:=a0 b a;have c3:b≠D:=by rw[<- c9];exact cQj (bY6 e)
  rw[yI c3];exact(hf b a).1
 have a8:tn 0 t:=T.keep 0 _ _ st λb a o e=>keep b o (kG b o e)
 have b0:cZb (bY2 X.prog X.w) X.A (.compLoop (.ListComp elt [⟨.Name x px,iter,ifs,0⟩] sc pos) 0 (.ref it) (.ref D) (compEnvC sc cl G.objs.size X.env)) (RR (.ref D) G.objs.size) {s with heap:=t,toks:=s.toks+([]:List (Str×bYS)).length}:=by
  refine bXD (λn F=>L2.Ez4 λi B o g=>Inv (blk X (x::names) sc cl G.objs.size {s with heap:=G} (upd H D (.lst [])) f) [] (sub σ fr o) g F/\tn i F.heap/\(∀b∈f,g b=none)/\W i n B g) ?_ m0
   ⟨0,[],none,_,IY,a8,c5,w0⟩
  rintro n F ⟨i,B,o,g,I',b5,a7,w'⟩;obtain⟨hD,b8⟩:=turn i n B g w';rcases b8 with⟨b1,qn⟩|⟨go,step⟩
  ·refine thn (T.done (blk X (x::names) sc cl G.objs.size {s with heap:=G} (upd H D (.lst [])) f) rfl rfl rfl hc i [] F _ g (λ_ _=>False) I' (O a7) b5 b1) λr s1 ⟨hr,I1⟩=>?_;subst hr;obtain⟨mC,b9,_⟩:=I1.loc;exact b6 D G.objs.size s1 g (a6 I1) I1.free (cZw l.lt) l.sz a3 (λp hp=>cQj (bY6 (l.pin p hp).1)) ⟨mC,b9⟩ qn
  ·refine thn (T.item (blk X (x::names) sc cl G.objs.size {s with heap:=G} (upd H D (.lst [])) f) rfl rfl rfl hc i [] F _ g (λ_ _=>False) I' (O a7) b5 go) λr s1 ⟨u,hr,h1⟩=>?_;subst hr;refine thn h1 λ_ s2 ⟨v,H2,I2,rv,yl,st2,fr2⟩=>?_;have c8:=I2.pinned (O fr2) (T.obj _ _ st2);have pg:PG (blk X (x::names) sc cl G.objs.size {s with heap:=G} (upd H D (.lst [])) f) (.Name x px) (yW 0):=y9 S.nd rfl (.inl (lookup_relabel_local S.var)) (.inr (lookup_relabel_local S.var));have L:∀ {o:Option V} {H3:Hp} {s3:bYV},Inv (blk X (x::names) sc cl G.objs.size {s with heap:=G} (upd H D (.lst [])) f) ([]++aZY f s2.heap) (sub σ fr o) H3 s3->tn (i+1) s3.heap/\∀b∈f,H3 b=none:=λ{o H3 s3} J3=>by
    refine⟨T.keep _ _ _ st2 λb a ob e=>(J3.pin (b,ob) (cQg _ (cQg _ (jO a e)))).1,λb a=>?_⟩;obtain⟨ob,e,_⟩:=T.obj _ _ st2 b a;exact(J3.pin (b,ob) (cQg _ (cQg _ (jO a e)))).2.1
   refine thn (pg _ s2 _ H2 v u (λσ' c2=>σ'=sub σ fr (some v)/\c2=H2) c8 rv ⟨rfl,rfl⟩) λ_ s3 ⟨σ3,H3,I3',e3,e3'⟩=>?_;subst e3;subst e3';refine thn (c1 cl G.objs.size {s with heap:=G} (upd H D (.lst [])) f _ s3 _ _ _ I3' (step v _ yl)) λb s4 ⟨H4,I4,q4⟩=>?_;cases b with
   |false=>have a5:∃U,U<n/\W (i+1) U B H4:=q4;obtain⟨U,R,w4⟩:=a5;obtain⟨z1,z2⟩:=L I4;show ∃m,m<n/\_;exact⟨U,R,i+1,B,some v,H4,I4.unpinned,z1,z2,w4⟩
   |true=>have a5:te (sub σ fr (some v)) H4 λy H5=>B.length<cQk/\H5 D=some (.lst B)/\∃U,U<n/\W (i+1) U (B++ [y]) (upd H5 D (.lst (B++ [y]))):=q4;show bY0 _ _ _ _ _ _;refine thn (he cl G.objs.size {s with heap:=G} (upd H D (.lst [])) f _ s4 _ _ _ I4 a5) λue s5 ⟨y,H5,I5,r5,hl,hD5,U,R,w5⟩=>?_;refine thn (xD _ s5 _ H5 (.ref D) [y] (.ref D) [ue] (λ_ H6=>H6=upd H5 D (.lst (B++ [y]))) I5 rfl (.cons r5 .nil) ⟨D,B,y,rfl,rfl,hD5,hl,rfl⟩) λ_ s6 ⟨_,H6,I6,_,e6⟩=>?_;subst e6;obtain⟨z1,z2⟩:=L I6;exact⟨U,R,i+1,B++ [y],some v,_,I6.unpinned,z1,z2,w5⟩
 exact codeAny_compStart_list b0 (T.self _ 0 _ _ _ a8 b0)
def aJK{sc:cX8}{x:Str}{names:List Str}{fr:List Nat}(S:xN X.N X.env.scope x names fr sc)(I:Inv X pins σ H s): ∃cl,closureFor sc X.env=pure cl/\(∀y c,cl.lookup y=some c->X.env.cells.lookup y=some c)/\(∀y,(y,NameKind.free)∈sc.names->∃c,cl.lookup y=some c):=by
 obtain⟨cl,b,g,_,f⟩:=aJA (env:=X.env) sc.names [] (λy d a=>I.ok.has y.1 (S.free y d a)) (λy c e=>by simp at e);exact⟨cl,b,g,f⟩
end
section
variable {X:Cx}{elt iter:Expr}{x:Str}{px:Pos}{ifs:List Expr}{sc:cX8}{pos:Pos}{names:List Str}{fr:List Nat}{wi:TI}{tif:TT}{te:TE}
def aQG(S:xN X.N X.env.scope x names fr sc)(O:X.calm=true)(j:PI X (.Name x px) iter wi)(g:∀cl C s H ex,bWr (blk X (x::names) sc cl C s H ex) ifs tif) (r:∀cl C s H ex,PE (blk X (x::names) sc cl C s H ex) elt te) (M:∀v,cVb iter X.env v=pure v:=by intro _;rfl):PE X (.ListComp elt [⟨.Name x px,iter,ifs,0⟩] sc pos) (tLc wi fr tif te):=by
 intro pins s σ H Q I h;obtain⟨cl,z,n,E⟩:=aJK S I;rw[eval_ListComp];refine cVk (use:=none) rfl M z S.kind S.loc (thn (j pins s σ H _ I h) λv R d=>thn d λu W f=>?_);obtain⟨V,Z,tn,J,U,rfl,l,T,P,K,q⟩:=f;refine bJg (RR:=λc C=>compPost (bY2 X.prog X.w) X.A X.xe none (EP X pins σ Q) c C) S O n E g r l T P K q ?_;intro D C p L k d f t B i a F;obtain⟨m,a⟩:=a;exact⟨m,a,λY y=>⟨.ref D,L,k.turned (t':=p.toks) (λb o G e=>(y.2 b G).trans e) d (cQB (cQB f)) (.inr t) B i,rfl,F⟩⟩
def aZZ{i:Nat}{y:Str}{d c:Pos}(S:xN X.N X.env.scope x names fr sc)(hc:X.calm=true)(Z:X.N.Nodup)(hy:X.N[i]? =some y)(hl:X.env.scope.names.lookup y=some .local)(F:PI X (.Name x px) iter wi)
  (z:∀cl C s H ex,bWr (blk X (x::names) sc cl C s H ex) ifs tif) (O:∀cl C s H ex,PE (blk X (x::names) sc cl C s H ex) elt te)
  (l:swapsWith (.ListComp elt [⟨.Name x px,iter,ifs,0⟩] sc pos) (some (.Name y d)) c.line X.env=pure true:=by rfl) (hs:∀v,cVb iter X.env v=pure v:=by intro _;rfl):
  PS X (.Assign [.Name y d] (.ListComp elt [⟨.Name x px,iter,ifs,0⟩] sc pos) c) (bKG (tLc wi fr tif te) (yW i)):=by
 intro pins s σ H D I h
 obtain⟨cl,U,M,V⟩:=aJK S I
 rw[exec_Assign_Name_used _ _ _ _ l]
 refine bYU (cJt (bYU ?_))
 show bY0 _ X.A (do let _ <- comprehension (.ListComp elt [⟨.Name x px,iter,ifs,0⟩] sc pos) sc X.env _ (newList []) false (eval iter X.env) (some (assign (.Name y d) X.env))) _ _ s
 refine bYU (cQW (cVk (use:=some (assign (.Name y d) X.env)) (Q:=λ_ f=>SP X pins D .next f) rfl hs U S.kind S.loc (thn (F pins s σ H _ I h) λv s1 r=>thn r λR s2 g=>?_)) (λ_ f u=>bYY (bYY u)) λ_ _ e=>e)
 obtain⟨it,fp,tn,J,H1,rfl,K,T,st,Y,q⟩:=g
 refine bJg (RR:=λk C=>compPost (bY2 X.prog X.w) X.A X.xe (some (assign (.Name y d) X.env)) (λ_ f=>SP X pins D .next f) k C) S hc M V z O K T st Y q ?_
 intro L C f H' G r g P B E j u
 obtain⟨m,j⟩:=j
 show bY0 _ X.A (assign (.Name y d) X.env (.ref L)) _ _ f
 refine wpAny_assign_Name (aQ4 G Z hy (.inl hl) (v:= .ref L) rfl (λs'' I'' ⟨a,sb,t⟩=>?_) (.inr hl))
 have n:C≠a:=by
  rcases t with rfl|t
  ·exact g
  ·exact cQB (B y a t)
 exact⟨m,j.sameBut sb n,λh' p=>⟨_,H',I''.turned (t':=s''.toks) (λb o W e=>(p.2 b W).trans e) r g (.inr P) B E,u⟩⟩
end
def aZK{K:bYT}{a:Nat}{xs:List V}{fr:List Nat}{tif:TT}{te:TE}{σ:St}{D:Nat}{Q:VK}{H:Hp}(p:V->Bool)(f:V->V)(hl:SqL K H a xs)(r:H D=none)(hz:xs.length<=cQk) (z:∀v∈xs,∀ (c:Hp)(R:Bool->Hp->Prop),(∀b,b≠D->c b=H b)->R (p v) c->tif (sub σ fr (some v)) c R) (A:∀v∈xs,p v=true->∀ (c:Hp)(R:VK),(∀b,b≠D->c b=H b)->R (f v) c->te (sub σ fr (some v)) c R) (w:Q (.ref D) (upd H D (.lst ((xs.filter p).map f)))):bWi (Itl K a) fr tif te σ D Q (upd H D (.lst [])):=by
 have d:∀g,SqL K (upd H D (.lst g)) a xs:=λg=>by
  rcases hl with(h|⟨o,h⟩)|h
  ·exact .inl (.inl (by rw[yI (yJ h r)];exact h))
  ·exact .inl (.inr ⟨o,by rw[yI (yJ h r)];exact h⟩)
  ·exact .inr h
 refine⟨λi m g c=>m=xs.length - i/\i<=xs.length/\g=((xs.take i).filter p).map f/\c=upd H D (.lst g),⟨xs.length,by simp,cQQ _,by simp,rfl⟩,?_⟩;rintro i m g c ⟨rfl,B,rfl,rfl⟩;refine⟨yB,?_⟩;by_cases e:i<xs.length
 ·refine .inr ⟨⟨xs,xs[i],d _,bYR e⟩,λv C t=>?_⟩;obtain⟨rfl,y⟩:=t;have s:xs[i]? =some v:=y xs (d _);have k:v∈xs:=cQa s;have j:xs.take (i+1)=xs.take i++ [v]:=by rw[cQU,s];rfl
  have n:∀b,b≠D->upd H D (.lst (((xs.take i).filter p).map f)) b=H b:=λb x=>yI x;have l:(((xs.take i).filter p).map f).length<cQk:=by rw[bYW];have u:=cQS p (xs.take i);rw[cXb]at u;omega
  refine z v k _ _ n ?_;cases q:p v with
  |false=>show ∃E,_;refine⟨xs.length - (i+1),by omega,rfl,e,?_,rfl⟩;rw[j,cQ3,cXy (by rw[q];decide)];simp
  |true=>show te _ _ _;refine A v k q _ _ n ⟨l,yB,xs.length - (i+1),by omega,rfl,e,?_,by rw[jE]⟩;rw[j,cQ3,cXz q];simp
 ·obtain rfl:i=xs.length:=by omega
  refine .inl ⟨⟨xs,d _,bYZ _⟩,?_⟩;rw[cQP];exact w
end L2
namespace L2
open PySem
def lcM{N:List Str}{osc:Scope}{x:Str}{names:List Str}{fr:List Nat}{sc:Scope}(h:decide (sc.kind=.function/\(∀y∈sc.names,y.2≠.cell)/\(∀y∈sc.names,y.2=.local->sc.names.lookup y.1=some .local)/\sc.names.lookup x=some .local/\(∀y∈sc.names,y.2=.free->osc.names.lookup y.1=some .cell\/osc.names.lookup y.1=some .free)/\(∀y∈sc.names,y.2=.free->sc.names.lookup y.1=some .free)/\(x::names).Nodup/\fr.length=names.length/\∀p∈names.zip fr,N[p.2]?=some p.1/\(p.1,NameKind.free)∈sc.names)=true:=by decide +kernel):xN N osc x names fr sc:=
 have z:=of_decide_eq_true h;⟨z.1,z.2.1,z.2.2.1,z.2.2.2.1,z.2.2.2.2.1,z.2.2.2.2.2.1,z.2.2.2.2.2.2.1,z.2.2.2.2.2.2.2.1,z.2.2.2.2.2.2.2.2⟩
end L2
namespace Stb
open PySem
def bQ5(xs:Array Nat):Prop:=∀i j:Nat,i<j->j<xs.size->xs.getD i 0<xs.getD j 0
def bJU{xs:Array Nat}{i:Nat}(h:i<xs.size)(d e:Nat):xs.getD i d=xs.getD i e:=by
 simp[cZn,h]
def aJH{xs:Array Nat}{j:Nat}(f:bQ5 xs):∀ (a c b:Nat),b<=xs.size->c<=b->b - c<=a->
  (∀k,k<c->xs.getD k 0<j)->(∀k,b<=k->k<xs.size->j<=xs.getD k 0)->
  (∀k,k<cZS xs j a c b->xs.getD k 0<j)/\(∀k,cZS xs j a c b<=k->k<xs.size->j<=xs.getD k 0)/\cZS xs j a c b<=xs.size
 |0,c,b,h1,h2,h3,h4,h5=>by
  have e:c=b:=by omega
  subst e;unfold cZS;exact⟨h4,h5,h1⟩
 |a+1,c,b,h1,h2,h3,h4,h5=>by
  unfold cZS;by_cases hl:c<b
  ·rw[if_pos hl];dsimp only;have h:(c+b) / 2<xs.size:=by omega
   have e:=bJU h j 0;by_cases i:xs.getD ((c+b) / 2) j<j
   ·rw[if_pos i];refine aJH f a _ _ h1 (by omega) (by omega) (λk l=>?_) h5;by_cases d:k=(c+b) / 2
    ·subst d;omega
    ·have:=f k ((c+b) / 2) (by omega) h;omega
   ·rw[if_neg i];refine aJH f a _ _ (by omega) (by omega) (by omega) h4 (λk l d=>?_);by_cases g:k=(c+b) / 2
    ·subst g;omega
    ·have:=f ((c+b) / 2) k (by omega) d;omega
  ·rw[if_neg hl];have e:c=b:=by omega
   subst e;exact⟨h4,h5,h1⟩
def jI{xs:Array Nat}(b:bQ5 xs)(j:Nat): (∀k,k<cQT xs j->xs.getD k 0<j)/\(∀k,cQT xs j<=k->k<xs.size->j<=xs.getD k 0)/\cQT xs j<=xs.size:=by
 unfold cQT;exact aJH b xs.size 0 xs.size (bYZ _) (cQQ _) (by omega) (λk a=>absurd a (cXE _)) (λk d c=>by omega)
def aWr{xs:Array Nat}(c:bQ5 xs){i:Nat}(e:i<xs.size):cQT xs (xs.getD i 0+1)=i+1:=by
 obtain⟨f,d,g⟩:=jI c (xs.getD i 0+1);have a:i<cQT xs (xs.getD i 0+1):=by apply Nat.lt_of_not_le;intro h;have:=d i h e;omega
 have b:¬i+1<cQT xs (xs.getD i 0+1):=λh=>by have q:=f (i+1) h;have:=c i (i+1) (by omega) (by omega);omega
 omega
def aWs{xs:Array Nat}(a:bQ5 xs):cQT xs 0=0:=by
 obtain⟨b,c,d⟩:=jI a 0;apply Nat.le_antisymm _ (cQQ _);apply Nat.le_of_not_lt;intro h;have:=b 0 h;omega
def aXK{α:Type}(xs:Array α)(p:Nat)(x:α)(h:p<=xs.size):(cZT xs p x).size=xs.size+1:=by
 unfold cZT;simp;omega
def Z9{xs:Array Nat}{p x k:Nat}(h:p<=xs.size):(cZT xs p x).getD k 0=if k<p then xs.getD k 0 else if k=p then x else xs.getD (k - 1) 0:=by
 unfold cZT;have d:(xs.extract 0 p).size=p:=by simp;omega
 have f:((xs.extract 0 p).push x).size=p+1:=by rw[Array.size_push,d]
 simp only[Array.getD_eq_getD_getElem?];by_cases c:k<p
 ·rw[if_pos c,cJ2 (by omega),Array.getElem?_push,if_neg (by omega),cJS (by omega)];have a:k<xs.size:=by omega
  simp[a]
 ·rw[if_neg c];by_cases b:k=p
  ·subst b;rw[if_pos rfl,cJ2 (by omega),Array.getElem?_push,if_pos (by omega)];rfl
  ·rw[if_neg b,Array.getElem?_append_right (by omega),f];by_cases g:k - (p+1)<xs.size - p
   ·rw[cJS (by omega)];have a:k - 1<xs.size:=by omega
    have e:p+(k - (p+1))=k - 1:=by omega
    simp[a,e]
   ·rw[cZM (by simp;omega),cZM (by omega)]
def aJ6{xs:Array Nat}(b:bQ5 xs){j:Nat}(l:∀k,k<xs.size->xs.getD k 0≠j):bQ5 (cZT xs (cQT xs j) j):=by
 obtain⟨b1,f,d⟩:=jI b j;intro i k c h;rw[aXK _ _ _ d]at h;rw[Z9 d,Z9 d];by_cases e:i<cQT xs j
 ·rw[if_pos e];have v:=b1 i e;by_cases g:k<cQT xs j
  ·rw[if_pos g];exact b i k c (by omega)
  ·rw[if_neg g];by_cases a:k=cQT xs j
   ·rw[if_pos a];exact v
   ·rw[if_neg a];have:=f (k - 1) (by omega) (by omega);omega
 ·rw[if_neg e,if_neg (show ¬k<cQT xs j by omega),if_neg (show ¬k=cQT xs j by omega)];by_cases a:i=cQT xs j
  ·rw[if_pos a];have:=f (k - 1) (by omega) (by omega);have:=l (k - 1) (by omega);omega
  ·rw[if_neg a];exact b (i - 1) (k - 1) (by omega) (by omega)
def aKh(n:Nat):bQ5 (Array.range n):=by
 intro i j b a;rw[Array.size_range]at a;simp[cZn,a,Nat.lt_trans b a,b]
def aY5{l:List Nat}(h:l.Pairwise (·<·)):bQ5 l.toArray:=by
 intro i j b d;have a:j<l.length:=by simpa using d
 have c:i<l.length:=Nat.lt_trans b a;have:=cZo.mp h i j c a b;simp[cZn,a,c,this]
structure Tab(b:Bool)(t:cXD):Prop where
 rise:bQ5 t.place
 dum:t.dummies= #[]
 led:b=true\/t.led=true
def aK9(j:Nat):SetTable.has #[] j=false:=by
 unfold SetTable.has;simp
def bZJ{b:Bool}{t:cXD}(T:Tab b t){j:Nat}(h:t.slot j= .empty):∀k,k<t.place.size->t.place.getD k 0≠j:=by
 intro k a e;obtain⟨b1,c,i⟩:=jI T.rise j;have f:cQT t.place j=k:=by
  have g:¬k<cQT t.place j:=λh=>by have:=b1 k h;omega
  have l:¬cQT t.place j<k:=λh=>by have:=c _ (bYZ _) (by omega);have:=T.rise _ k h a;omega
  omega
 unfold SetTable.slot at h;dsimp only at h;rw[f]at h;have d:t.place[k]? =some j:=by
  rw[cXl a];have:t.place.getD k 0=t.place[k]:=by simp[cZn,a]
  rw[<- this,e]
 rw[d]at h;simp at h
def bZI{b:Bool}{t:cXD}(T:Tab b t)(j:Nat):t.slot j≠ .dummy:=by
 unfold SetTable.slot;dsimp only;rw[T.dum,aK9];split<;> simp
def aXu{b:Bool}{t:cXD}(T:Tab b t)(f:Nat->Int)(h:Int):∀ (a:Nat)(p:SetTable.Probe),p.dummy=none->∀j d,cJ9 t f h a p=some (.empty j d)->t.slot j= .empty/\d=none
 |0,p,_,j,d,e=>by unfold cJ9 at e;cases e
 |a+1,p,hp,j,d,e=>by
  have c:(t.advance p).dummy=none:=by
   unfold SetTable.advance;split
   ·exact hp
   ·exact hp
  unfold cJ9 at e;cases q:t.slot p.j with
  |empty=>rw[q]at e;simp only[cJ7,SetTable.Met.empty.injEq]at e;obtain⟨rfl,rfl⟩:=e;exact⟨q,hp⟩
  |dummy=>exact absurd q (bZI T _)
  |live i=>
   rw[q]at e;dsimp only at e;split at e
   ·cases e
   ·exact aXu T f h a _ c j d e
def uI{b:Bool}{t:cXD}(T:Tab b t)(n:Nat):Tab b (t.standIn n):=⟨aKh n,rfl,T.led⟩
def aWM{b:Bool}{t:cXD}(T:Tab b t)(k:Array (Int×bYS))(h:Int)(x:bYS):Tab b (layNew t k h x).2.1:=by
 unfold layNew;cases q:t.freeSlot h with
 |none=>exact uI T _
 |some g=>
  obtain⟨a,m⟩:=g;dsimp only;have i:t.slot a= .empty:=by
   unfold SetTable.freeSlot at q;split at q
   ·rename_i j d e;simp only[cJ7,Prod.mk.injEq]at q;obtain⟨l,f⟩:=aXu T _ h _ _ rfl j d e;rw[<- q.1,f];exact l
   ·cases q
  have c:Tab b (t.put a).1:=by unfold SetTable.put;dsimp only;refine⟨aJ6 T.rise (bZJ T i),?_,T.led⟩;rw[T.dum,aK9];rfl
  unfold SetTable.orStandIn;split
  ·exact c
  ·exact uI c _
def aZ1{b:Bool}{t:cXD}(T:Tab b t)(h:Array (Int×bYS))(c:Nat):Tab b (relayAll t h c).2.1:=by
 unfold relayAll;cases q:t.relaid (h.map (·.1)) c with
 |none=>exact uI T _
 |some r=>
  obtain⟨m,g⟩:=r;dsimp only;have o:Tab b m:=by
   unfold SetTable.relaid SetTable.laid at q;simp only[Option.bind_eq_bind,Option.bind_eq_some_iff]at q;obtain⟨d,_,e⟩:=q;simp only[Option.pure_def,cJ7,Prod.mk.injEq]at e;obtain⟨rfl,_⟩:=e;refine⟨aY5 ?_,rfl,T.led⟩;rw[List.map_filterMap];have sub:∀ (f:Nat->Option Nat),(∀j k,f j=some k->k=j)->∀l:List Nat,List.Sublist (l.filterMap f) l:=by
    intro f n l;induction l with
    |nil=>exact List.Sublist.slnil
    |cons a r i=>
     rw[cZC];cases e:f a with
     |none=>exact i.cons a
     |some k=>rw[n a k e];exact i.cons_cons a
   refine List.Pairwise.sublist (sub _ ?_ _) List.pairwise_lt_range;intro j k e;cases q:d.getD j none with
   |none=>rw[q]at e;cases e
   |some z=>rw[q]at e;simpa using e.symm
  split
  ·exact o
  ·exact uI T _
def bQZ{b a:Bool}(h:b=true\/a=true):Tab b (.fresh 0 0 a):=⟨λi j d c=>absurd c (cXE _),rfl,h⟩
end Stb
namespace Stb
open PySem
def Ent(b:List Int)(a:List (Int×bYS)):Prop:=cQH (λ(k:Int)(e:Int×bYS)=>e.1=hashInt k/\∃t,e.2=Value.int k t) b a
def Ent.mem_l:∀ {c:List Int} {b:List (Int×bYS)},Ent c b->∀k∈c,∃e∈b,∃t,e.2=Value.int k t
 |_,_,.nil,k,a=>by cases a
 |_,_,.cons r t,k,a=>by
  rcases bY1.mp a with rfl|a
  ·exact⟨_,bY7 ..,r.2⟩
  ·obtain⟨e,d,z⟩:=Ent.mem_l t k a;exact⟨e,bY4 _ d,z⟩
def Ent.mem_r:∀ {c:List Int} {b:List (Int×bYS)},Ent c b->∀e∈b,∃k∈c,e.1=hashInt k/\∃t,e.2=Value.int k t
 |_,_,.nil,e,a=>by cases a
 |_,_,.cons r t,e,a=>by
  rcases bY1.mp a with rfl|a
  ·exact⟨_,bY7 ..,r⟩
  ·obtain⟨k,d,z⟩:=Ent.mem_r t e a;exact⟨k,bY4 _ d,z⟩
def Ent.elems{prog:cQe}{w:cQm}{f:List Int}{b:List (Int×bYS)}(h:Ent f b):ElemsOf (intKind prog w) b:=λe c=>by
 obtain⟨k,_,d,t,a⟩:=h.mem_r e c;refine⟨⟨k,?_,d⟩,?_⟩
 ·rw[a];exact intKind_is prog w k t
 ·rw[a];rfl
def Ent.length{b:List Int}{a:List (Int×bYS)}(h:Ent b a):b.length=a.length:=cXA h
def Ent.append:∀ {b ls:List Int} {a fs:List (Int×bYS)},Ent b a->Ent ls fs->Ent (b++ls) (a++fs)
 |_,_,_,_,.nil,s=>s
 |_,_,_,_,.cons r t,s=> .cons r (Ent.append t s)
def Ent.perm{g fs:List (Int×bYS)}(p:cJY g fs):∀ {a:List Int},Ent a g->∃b,Ent b fs/\b.Perm a:=by
 induction p with
 |nil=>exact λ{a} h=>⟨a,h,.rfl⟩
 |cons x p n=>
  intro a h;cases h with
  |cons r t=>obtain⟨b,d,e⟩:=n t;exact⟨_::b,.cons r d,e.cons _⟩
 |swap x y l=>
  intro a h;cases h with
  |cons r t=>
   cases t with
   |cons o j=>exact⟨_::_::_,.cons o (.cons r j),.swap ..⟩
 |trans p q c f=>intro a h;obtain⟨b,d,e⟩:=c h;obtain⟨k,i,m⟩:=f d;exact⟨k,i,m.trans e⟩
abbrev aJy(w:cQm):Bool:=w.params.followText "set-order"
def aQ9(w:cQm)(h:Heap)(a:Nat)(d:List Int):Prop:=
 ∃o b e t c,h.get? a=some o/\o.ExactSet/\o.data= .set b e t/\Ent c b.toList/\c.Perm d/\d.Nodup/\b.size<cJm/\t.fits b.size=true/\Tab (aJy w) t
def aQ9.at{w:cQm}{h h':Heap}{a:Nat}{b:List Int}(x:aQ9 w h a b)(k:∀o,h.get? a=some o->h'.get? a=some o):aQ9 w h' a b:=
 let ⟨o,es,ep,t,ls,ho,r⟩:=x;⟨o,es,ep,t,ls,k o ho,r⟩
def aQ9.there{w:cQm}{h:Heap}{a:Nat}{b:List Int}(x:aQ9 w h a b):∃o,h.get? a=some o:=
 let ⟨o,es,ep,t,ls,ho,r⟩:=x;⟨o,ho⟩
def aQ9.type{w:cQm}{s:bYV}{a:Nat}{b:List Int}(x:aQ9 w s.heap a b):s.TypeIs (.ref a) B4:=
 let ⟨o,es,ep,t,ls,ho,he,r⟩:=x;⟨o,ho,he.1⟩
def aY1{h:Heap}{a:Nat}{o:Obj}{e:Array (Int×bYS)}{d:Nat}{t:cXD}(f:h.get? a=some o)(c:o.data= .set e d t)(b:Array (Int×bYS))(t':cXD): (h.update a (Obj.putSet b t')).get? a=some {o with data:= .set b (d+1) t'}:=by
 have q:=cQZ (Obj.putSet b t') f (by rw[putSet_of b t' c];rfl);rw[putSet_of b t' c]at q;exact q
section
variable {prog:cQe}{w:cQm}{A:cQA}{E:bYS->bYV->Prop}{s:bYV}
def aK8{b:Bool}{Q:Unit->bYV->Prop}(h:Q () s):bY0 (bY2 prog w) A (match b with|true=>rule "set.scan.the-table-gave-way"|false=>pure ()) Q E s:=by
 cases b
 ·exact bYY h
 ·exact wpAny_rule h
def bWv{a:Nat}{p:List Int}{k:Int}{tk:Tok}{Q:Bool->bYV->Prop}(hS:aQ9 w s.heap a p)(a6:p.length+1<cJm) (h:∀m b,cXW a s.heap m->aQ9 w m a (if k∈p then p else p++ [k])->Q b {s with heap:=m}): bY0 (bY2 prog w) A (setAddHashed a (.int k tk) (hashInt k)) Q E s:=by
 obtain⟨o,G,ep,t,ls,P,I,O,l,hp,T,hb,hf,hT⟩:=hS;have Y:=l.elems (prog:=prog) (w:=w);have a8:G.size=p.length:=by rw[<- cXf,<- l.length,hp.length_eq]
 unfold setAddHashed setAddHashedIn;refine cXd (bYU (cZm P O hf ?_));dsimp only;rw[byScan_of (knd:=intKind prog w) rfl hb Y];simp only[↓reduceIte];unfold setAddByScan;refine bYU ?_;refine bYU (wpAny_rule ?_);refine bYU (wpAny_setScan_of (knd:=intKind prog w) (k:=k) (intKind_is prog w k tk) P O hf Y ?_);cases hr:List.findIdx? (λe=>(intKind prog w).is k e.2) G.toList with
 |some j=>
  dsimp only;obtain⟨hj,V,_⟩:=List.findIdx?_eq_some_iff_getElem.mp hr;have B:k∈p:=by
   obtain⟨k',a1,_,t',e'⟩:=l.mem_r _ (cXX hj);rw[e']at V;have:k=k':=by have z:(k'==k)=true:=V;exact(beq_iff_eq.mp z).symm
   rw[this];exact hp.mem_iff.mp a1
  refine bYY (bYY ?_);have q:=h s.heap false (Heap.SameBut.refl a s.heap) (by rw[if_pos B];exact⟨o,G,ep,t,ls,P,I,O,l,hp,T,hb,hf,hT⟩);exact q
 |none=>
  dsimp only;have B:k∉p:=λz=>by obtain⟨e,he,t',e'⟩:=l.mem_l k (hp.mem_iff.mpr z);have q:=List.findIdx?_eq_none_iff.mp hr e he;rw[e',intKind_is]at q;cases q
  rw[if_neg B]at h;have R:(p++ [k]).Nodup:=by rw[cZl];exact⟨T,cXi ..,λx hx y hy=>by rw[bY9.mp hy];rintro rfl;exact B hx⟩
  have d:=layNew_perm t G (hashInt k) (.int k tk);have f:=layNew_fits t G (hashInt k) (.int k tk);have i:=aWM hT G (hashInt k) (.int k tk);generalize hL:layNew t G (hashInt k) (.int k tk)=L at d f i ⊢;obtain⟨c,X,n,a7⟩:=L;dsimp only at d f i ⊢;rw[Array.toList_push]at d;obtain⟨W,D,a2⟩:=(l.append (ls:= [k]) (fs:= [(hashInt k,.int k tk)]) (.cons ⟨rfl,tk,rfl⟩ .nil)).perm d.symm;have C:W.Perm (p++ [k]):=a2.trans (hp.append_right [k]);have v:c.size<cJm:=by rw[<- cXf,d.length_eq,cQf,cXf];simpa using (by omega:G.size+1<cJm)
  have H:∀g:cXD,g.fits c.size=true->Tab (aJy w) g->
    bY0 (bY2 prog w) A (do
     storeSet a c g
     if(!n && g.tooFull)=true then do
       (match(relayAll g c (cZs c.size)).2.2 with|true=>rule "set.scan.the-table-gave-way"|false=>pure ())
       storeSet a (relayAll g c (cZs c.size)).1 (relayAll g c (cZs c.size)).2.1
       pure (some true)
      else pure (some true)) (λr s'=>∃m,r=some true/\s'= {s with heap:=m}/\cXW a s.heap m/\aQ9 w m a (p++ [k])) E s:=by
   intro g a0 S
   refine bYU (wpAny_storeSet_of P O ?_ (cVa v))
   have F:=cXm s.heap a (Obj.putSet c g)
   have M:=aY1 P O c g
   split
   ·have u:=relayAll_perm g c (cZs c.size);have N:=relayAll_fits g c (cZs c.size);have K:=aZ1 S c (cZs c.size);generalize a9:relayAll g c (cZs c.size)=Rl at u N K ⊢;obtain⟨J,t3,a3⟩:=Rl;dsimp only at u N K ⊢;obtain⟨a5,U,a4⟩:=D.perm u.symm;have Z:J.size=c.size:=by rw[<- cXf,u.length_eq,cXf]
    refine bYU (aK8 ?_);refine bYU (wpAny_storeSet_of M rfl ?_ (cVa (by rw[Z];exact v)));refine bYY ⟨_,rfl,rfl,F.trans (cXm _ a _),_,J,_,t3,a5,aY1 M rfl J t3,I,rfl,U,a4.trans C,R,by rw[Z];exact v,N,K⟩
   ·exact bYY ⟨_,rfl,rfl,F,_,c,_,g,W,M,I,rfl,D,C,R,v,a0,S⟩
  have done:∀ (r:Option Bool)(s':bYV),(∃m,r=some true/\s'= {s with heap:=m}/\cXW a s.heap m/\aQ9 w m a (p++ [k]))->
    bY0 (bY2 prog w) A (match r with|some added=>pure added|none=>setAddHashedIn a (.int k tk) (hashInt k) 99999) Q E s':=by
   rintro r s' ⟨m,rfl,rfl,h1,h2⟩
   exact bYY (h m true h1 h2)
  refine bYU (aK8 ?_);split
  ·refine bYU ?_;rw[hashByValue_scannable 8 (show(Value.int k tk).scannable=true from rfl)];refine bYY ?_;have e:(if plainKind (Value.int k tk)=true then X else {X with plain:=false})=X:=rfl;rw[e];exact cQW (H X f i) done λ_ _ z=>z
  ·refine bYU (bYY ?_);simp only[↓reduceIte];exact cQW (H X f i) done λ_ _ z=>z
end
end Stb
namespace Stb
open PySem
def zN:Slot AQ BQ "set_iterator.__next__":=
 .of (owner:=AQ) (n:=BQ) (by rw[typeLookup_type,cJA];kernel_rfl) dk dk dk
  (by first|exact .inl dk|exact .inr dk) (by rw[isSubtype_type];kernel_rfl)
def jJ:entryFor table "set_iterator.__next__"=some cXF.«set_iterator.__next__»:=entryFor_of_tree (by kernel_rfl)
def aVT:Manifest.owners.lookup (String.ofList ['r', 'o', 't', 'a', 'r', 'e', 't', 'i', '_', 't', 'e', 's'].reverse)=some Manifest.sig_set_iterator:=by kernel_rfl
def qT(a:bYS):argsOk "set_iterator.__next__" ⟨[a],[]⟩:=by
 unfold argsOk;rw[signature?_of (id:="set_iterator.__next__") (n:= ['_', '_', 't', 'x', 'e', 'n', '_', '_']) (o:= ['r', 'o', 't', 'a', 'r', 'e', 't', 'i', '_', 't', 'e', 's']) (by kernel_rfl) aVT];kernel_rfl
def aWE:entryFor table "set.__iter__"=some cXF.«frozenset.__iter__»:=
 entryFor_alias (id':="frozenset.__iter__") (by kernel_rfl) rfl dk (by kernel_rfl)
def W9:Slot AQ "__iter__" "set_iterator.__iter__":=
 .of (owner:=AQ) (n:="__iter__") (by rw[typeLookup_type,cJA];kernel_rfl) dk dk dk
  (by first|exact .inl dk|exact .inr dk) (by rw[isSubtype_type];kernel_rfl)
def uO(first:bYS)(i:Nat)(a:Nat)(n b:Nat):Obj:={cls:= .type AQ,data:= .fields #[first,.int i 0,.ref a,.int n 0,.int b 0] }
section
variable {prog:cQe}{w:cQm}{A:cQA}{E:bYS->bYV->Prop}{s:bYV}
def bQY{I:Nat}{Q:Option bYS->bYV->Prop}{h₁:Heap}(i:A.handled=none)(g:cJs I s.heap h₁)(h:∀d,cJs I s.heap d->Q none {s with heap:=d}):
  bY0 (bY2 prog w) A.in1 (do raiseNew (<- newExc (.type Be) []):Sem PySem.Fin) (λf c=>∃r,f= .done (.ret r)/\bY0 (bY2 prog w) A (pure (some r)) Q E c)
   (λe c=>bY0 (bY2 prog w) A (do if <- cJJ e (.type Be)then pure none else throw e) Q E c) {s with heap:=h₁}:=by
 refine bYU ?_
 simp only[newExc,newTuple]
 refine bYU (cXS ?_ (by size_fits))
 refine bYU (m:=firstArgMember _ _) (wpAny_of_eq (a:=Value.none) (by first|rfl|(simp only[firstArgMember];rfl)) ?_)
 refine cXS ?_ (by size_fits)
 simp only[raiseNew]
 refine bYU (wpAny_handled ?_)
 rw[show A.in1.handled=none from i]
 refine bYU (bYY (wpAny_throw ?_))
 refine bYU (wpAny_isInstance (T:=Be) (b:=true) ⟨_,cQn _ rfl,rfl⟩ isSubtype_stop ?_)
 exact bYY (h _ ((g.push _).push _))
def aYx{I a:Nat}{o:Obj}{f:Array (Int×bYS)}{c:Nat}{t:cXD}{b i nx:Nat}{x:bYS}{Q:Option bYS->bYV->Prop} (p:s.heap.get? a=some o) (l:o.data= .set f c t) (r:t.fits f.size=true) (e:s.heap.get? I=some (uO (.int b 0) i a f.size c)) (n:∀ (k:Option (bYS×Nat)->bYV->Prop)(u:bYS->bYV->Prop)(m:cQA),k (some (x,nx)) s->bY0 (bY2 prog w) m (setNext a b i c) k u s) (q:∀g,g.get? I=some (uO (.int nx 0) (i+1) a f.size c)->cXW I s.heap g->Q (some x) {s with heap:=g}):bY0 (bY2 prog w) A (pyNext (.ref I)) Q E s:=by
 have j:s.TypeIs (.ref I) AQ:=⟨_,e,rfl⟩;unfold pyNext;refine bYU (cJa (cZF (name:=cJj BQ) j zN (cXM zN j jJ ?_ (qT _))));unfold cXF.«set_iterator.__next__»;refine bYU (bYY ?_);refine bYU (cJV e rfl ?_);show bY0 _ _ (setEntries a >>=_) _ _ s;refine bYU (cZE p l r ?_);rw[if_neg (by simp)];show bY0 _ _ (setNext a ((b:Int)).toNat ((i:Int)).toNat ((c:Int)).toNat >>=_) _ _ s;rw[cQt,cQt,cQt];refine bYU (n _ _ _ ?_);show bY0 _ _ (setField (.ref I) 0 (cXa nx) >>=_) _ _ s;refine bYU (cXZ e rfl (by simp) ?_);have d:=cQZ (cQ9 (·.setIfInBounds 0 (cXa (nx:Int)))) e (cXh (cXk rfl _));refine bYU (cXZ d rfl (by simp) (bYY ⟨x,rfl,bYY (q _ ?_ ((cXm ..).trans (cXm ..)))⟩));have h:=cQZ (cQ9 (·.setIfInBounds 1 (cXa ((i:Int)+1)))) d (cXh (cXk rfl _));exact h
end
end Stb
namespace Stb
open PySem
section
variable {prog:cQe}{w:cQm}{A:cQA}{E:bYS->bYV->Prop}{s:bYV}
def bXi{I a:Nat}{o:Obj}{e:Array (Int×bYS)}{c:Nat}{t:cXD}{b i:Nat}{Q:Option bYS->bYV->Prop}(p:A.handled=none) (m:s.heap.get? a=some o) (j:o.data= .set e c t) (q:t.fits e.size=true) (d:s.heap.get? I=some (uO (.int b 0) i a e.size c)) (l:∀ (h:Option (bYS×Nat)->bYV->Prop)(r:bYS->bYV->Prop)(k:cQA),h none s->bY0 (bY2 prog w) k (setNext a b i c) h r s) (n:∀f,cJs I s.heap f->Q none {s with heap:=f}):bY0 (bY2 prog w) A (pyNext (.ref I)) Q E s:=by
 have g:s.TypeIs (.ref I) AQ:=⟨_,d,rfl⟩;unfold pyNext;refine bYU (cJa (cZF (name:=cJj BQ) g zN (cXM zN g jJ ?_ (qT _))));unfold cXF.«set_iterator.__next__»;refine bYU (bYY ?_);refine bYU (cJV d rfl ?_);show bY0 _ _ (setEntries a >>=_) _ _ s;refine bYU (cZE m j q ?_);rw[if_neg (by simp)];show bY0 _ _ (setNext a ((b:Int)).toNat ((i:Int)).toNat ((c:Int)).toNat >>=_) _ _ s;rw[cQt,cQt,cQt];refine bYU (l _ _ _ ?_);show bY0 _ _ (setField (.ref I) 2 .none >>=_) _ _ s;refine bYU (cXZ d rfl (by simp) ?_);exact bQY p (cXm ..).extBut n
def bXr{h:Heap}{I:Nat}{f:bYS}{i:Nat}{a:Nat}{n b:Nat}(c:h.get? I=some (uO f i a n b)): (h.update I (cQ9 (·.setIfInBounds 1 (cXa ((i:Int)+1))))).get? I=some (uO f (i+1) a n b):=by
 have q:=cQZ (cQ9 (·.setIfInBounds 1 (cXa ((i:Int)+1)))) c (cXh (cXk (o:=uO f i a n b) rfl _));rw[q];rfl
def bXq{h:Heap}{I:Nat}{f:bYS}{i:Nat}{a:Nat}{n b:Nat}(c:h.get? I=some (uO f i a n b)): (h.update I (cQ9 (·.setIfInBounds 0 (cXa (0:Int))))).get? I=some (uO (.int 0 0) i a n b):=by
 have q:=cQZ (cQ9 (·.setIfInBounds 0 (cXa (0:Int)))) c (cXh (cXk (o:=uO f i a n b) rfl _));rw[q];rfl
def aWW{I a p:Nat}{o:Obj}{b:Array (Int×bYS)}{g:Nat}{t:cXD}{i j:Nat}{pl:Array bYS}{op:Obj}{c:Nat}{e:Int×bYS}{Q:Option bYS->bYV->Prop} (m:s.heap.get? a=some o) (l:o.data= .set b g t) (n:t.fits b.size=true) (d:s.heap.get? I=some (uO (.ref p) i a b.size g)) (x:s.heap.get? p=some op) (f:op.data= .seq pl c) (r:pl[i]? =some (.int j 0)) (v:b[j]? =some e) (u:∀h,h.get? I=some (uO (.ref p) (i+1) a b.size g)->cXW I s.heap h->Q (some e.2) {s with heap:=h}):bY0 (bY2 prog w) A (pyNext (.ref I)) Q E s:=by
 have q:s.TypeIs (.ref I) AQ:=⟨_,d,rfl⟩;unfold pyNext;refine bYU (cJa (cZF (name:=cJj BQ) q zN (cXM zN q jJ ?_ (qT _))));unfold cXF.«set_iterator.__next__»;refine bYU (bYY ?_);refine bYU (cJV d rfl ?_);show bY0 _ _ (setEntries a >>=_) _ _ s;refine bYU (cZE m l n ?_);rw[if_neg (by simp)];show bY0 _ _ (seqItems? (.ref p) >>=_) _ _ s;refine bYU (wpAny_seqItems x f ?_);dsimp only;simp only[cQt,r];refine bYU ?_;unfold setNextDrawn;refine bYU (cZm m l n ?_);dsimp only;rw[if_neg (by simp)];obtain⟨y,ex⟩:=e;rw[v];refine bYY ?_;have k:=bXr d;refine bYU (cXZ d rfl (by simp) ?_);refine bYY ⟨ex,rfl,?_⟩;refine bYY ?_;exact u _ k (cXm s.heap I _)
def aK4{I a p:Nat}{o:Obj}{e:Array (Int×bYS)}{g:Nat}{t:cXD}{i:Nat}{pl:Array bYS}{op:Obj}{c:Nat}{Q:Option bYS->bYV->Prop}(r:A.handled=none) (m:s.heap.get? a=some o) (k:o.data= .set e g t) (u:t.fits e.size=true) (b:s.heap.get? I=some (uO (.ref p) i a e.size g)) (v:s.heap.get? p=some op) (d:op.data= .seq pl c) (l:pl[i]? =none) (n:∀h,cJs I s.heap h->Q none {s with heap:=h}):bY0 (bY2 prog w) A (pyNext (.ref I)) Q E s:=by
 have j:s.TypeIs (.ref I) AQ:=⟨_,b,rfl⟩;unfold pyNext;refine bYU (cJa (cZF (name:=cJj BQ) j zN (cXM zN j jJ ?_ (qT _))));unfold cXF.«set_iterator.__next__»;refine bYU (bYY ?_);refine bYU (cJV b rfl ?_);show bY0 _ _ (setEntries a >>=_) _ _ s;refine bYU (cZE m k u ?_);rw[if_neg (by simp)];show bY0 _ _ (seqItems? (.ref p) >>=_) _ _ s;refine bYU (wpAny_seqItems v d ?_);dsimp only;simp only[cQt,l];refine bYU (cXZ b rfl (by simp) ?_);have f:=bXq b;refine bYU (cXZ f rfl (by simp) ?_);have q:=(cXm s.heap I (cQ9 (·.setIfInBounds 0 (cXa (0:Int))))).trans (cXm _ I (cQ9 (·.setIfInBounds 2 Value.none)));exact bQY (s:=s) r q.extBut n
def X2{α:Type}:∀ {l:List α} {i:Nat} (h:i<l.length),cJY (l[i]::l.eraseIdx i) l
 |x::r,0,_=> .rfl
 |x::r,i+1,h=>by have a:=X2 (l:=r) (i:=i) (by simpa using h);exact(List.Perm.swap ..).trans (a.cons x)
def aZX{α:Type}(f:Nat->Nat):∀ (a k:Nat)(left:List α)(out:Array α),left.length=a->cJY (cZZ.go f a k left out).toList (out.toList++left)
 |0,k,left,out,h=>by have e:left= []:=List.length_eq_zero_iff.mp h;subst e;unfold cZZ.go;rw[cQV]
 |a+1,k,left,out,h=>by unfold cZZ.go;have b:f k % left.length<left.length:=Nat.mod_lt _ (by omega);rw[bYR b];dsimp only;refine(aZX f a (k+1) _ _ (by rw[List.length_eraseIdx,if_pos b];omega)).trans ?_;rw[Array.toList_push,cQ8,List.singleton_append];exact(X2 b).append_left _
def bZ2{a:Nat}{o:Obj}{b:Array (Int×bYS)}{c:Nat}{t:cXD}{Q:Array (Int×bYS)->bYV->Prop}(g:s.heap.get? a=some o)(f:o.data= .set b c t)(e:t.fits b.size=true) (d:aJy w=true) (h:Q (cZZ (w.params.setOrder a c) b) s):bY0 (bY2 prog w) A (setWalk a) Q E s:=by
 unfold setWalk setsByText;refine bYU (cZm g f e ?_);dsimp only;refine bYU (bYU (cZB (bYY ?_)));show bY0 (bY2 prog w) A (if aJy w=true then _ else _) Q E s;rw[if_pos d];exact bYU (cZB (bYY h))
def aYy{a:Nat}{o:Obj}{d:Array (Int×bYS)}{c:Nat}{t:cXD}{b i:Nat}{Q:Option (bYS×Nat)->bYV->Prop}(k:s.heap.get? a=some o)(j:o.data= .set d c t) (g:t.fits d.size=true) (f:aJy w=true) (h:Q (((cZZ (w.params.setOrder a c) d)[i]?).map λe=>(e.2,b)) s):bY0 (bY2 prog w) A (setNext a b i c) Q E s:=by
 unfold setNext setsByText;refine bYU (cZm k j g ?_);dsimp only;refine bYU (bYU (cZB (bYY ?_)));show bY0 (bY2 prog w) A (if aJy w=true then _ else _) Q E s;rw[if_pos f];rw[if_neg (by simp)];exact bYU (bZ2 k j g f (bYY h))
def bXH{a:Nat}{o:Obj}{c:Array (Int×bYS)}{e:Nat}{t:cXD}{b i:Nat}{Q:Option (bYS×Nat)->bYV->Prop}(l:s.heap.get? a=some o)(k:o.data= .set c e t)
  (g:t.fits c.size=true) (f:aJy w=false) (d:(!t.plain && decide (c.size > 1))=false) (hl:t.led=true)
  (h:Q (match c[cQT t.place b]?,t.place[cQT t.place b]? with|some (_,x),some j=>some (x,j+1)|_,_=>none) s):bY0 (bY2 prog w) A (setNext a b i e) Q E s:=by
 unfold setNext setsByText
 refine bYU (cZm l k g ?_)
 dsimp only
 refine bYU (bYU (cZB (bYY ?_)))
 show bY0 (bY2 prog w) A (if aJy w=true then _ else _) Q E s
 rw[f,if_neg (by decide)]
 show bY0 (bY2 prog w) A (if(!t.plain && decide (c.size > 1))=true then _ else _) Q E s
 rw[d,if_neg (by decide)]
 refine bYU ?_
 show bY0 (bY2 prog w) A (if(!t.led && !c.isEmpty)=true then _ else _) _ E s
 rw[hl]
 simp only[Bool.not_true,Bool.false_and,Bool.false_eq_true,↓reduceIte]
 exact bYY (bYY h)
end
end Stb
namespace Stb
open PySem
def aZj(a:List Int)(vs:List bYS):Prop:=cQH (λ(k:Int)(v:bYS)=>∃t,v=Value.int k t) a vs
def Ent.vals:∀ {b:List Int} {a:List (Int×bYS)},Ent b a->aZj b (a.map (·.2))
 |_,_,.nil=> .nil
 |_,_,.cons r t=> .cons r.2 (Ent.vals t)
def bXC{α:Type}{xs ys:List α}(hl:xs.length=ys.length)(h:∀ (j:Nat)(x:α),xs[j]? =some x->ys[j]? =some x):xs=ys:=by
 apply cZa;intro i;cases e:xs[i]? with
 |some x=>exact(h i x e).symm
 |none=>have:=cVd.mp e;exact(cVd.mpr (by omega)).symm
def Z7{α β:Type}{f:α->Option β}:∀ {l:List α} (h:∀x∈l,(f x).isSome=true) (i:Nat),(l.filterMap f)[i]? =l[i]?.bind f
 |[],_,i=>by simp
 |x::r,h,i=>by
  obtain⟨y,e⟩:=Option.isSome_iff_exists.mp (h x (bY7 ..));rw[List.filterMap_cons_some e];cases i with
  |zero=>simp[e]
  |succ i=>simpa using Z7 (λz a=>h z (bY4 _ a)) i
def aXH:entryFor table "set_iterator.__iter__"=some cXF.«dict_keyiterator.__iter__»:=
 entryFor_alias (id':="dict_keyiterator.__iter__") (by kernel_rfl) rfl dk (by kernel_rfl)
def aZl(a:bYS):argsOk "set_iterator.__iter__" ⟨[a],[]⟩:=by
 unfold argsOk;rw[signature?_of (id:="set_iterator.__iter__") (n:= ['_', '_', 'r', 'e', 't', 'i', '_', '_']) (o:= ['r', 'o', 't', 'a', 'r', 'e', 't', 'i', '_', 't', 'e', 's']) (by kernel_rfl) aVT];kernel_rfl
section
variable {prog:cQe}{w:cQm}{A:cQA}{E:bYS->bYV->Prop}{s:bYV}
def aK3{α:Type}:∀ (n:Nat)(xs:List α)(s:bYV)(Q:List α->bYV->Prop),xs.length=n->(∀b d,cJY b xs->Q b {s with drawn:=d})->bY0 (bY2 prog w) A (drawOrder n xs) Q E s
 |0,xs,s,Q,hl,h=>by have e:xs= []:=List.length_eq_zero_iff.mp hl;subst e;unfold drawOrder;exact bYY (h [] s.drawn .rfl)
 |n+1,[],s,Q,hl,h=>by cases hl
 |n+1,x::r,s,Q,hl,h=>by
  unfold drawOrder;have a:w.draws .order (s.drawn.get .order) % (x::r).length<(x::r).length:=Nat.mod_lt _ (Nat.succ_pos _);refine bYU (m:=choose .order (x::r).length) ?_;have g:∀ (c:Nat->bYV->Prop),c (w.draws .order (s.drawn.get .order) % (x::r).length) {s with drawn:=s.drawn.bump .order}->bY0 (bY2 prog w) A (choose .order (x::r).length) c E s:=by intro c j Γ p hΓ;show Sem.wp _ _ (.choose .order (x::r).length .pure) _ _ _ _;rw[Sem.wp_choose];exact⟨Nat.succ_ne_zero _,j⟩
  refine g _ ?_;generalize k:w.draws .order (s.drawn.get .order) % (x::r).length=i at a ⊢;rw[bYR a];dsimp only;refine bYU (aK3 n _ _ _ (by rw[List.length_eraseIdx,if_pos a];simpa using hl) λb d f=>?_);exact bYY (h _ _ ((f.cons _).trans (X2 a)))
def bQF{I a:Nat}{f:bYS}{i n d:Nat}{Q:bYS->bYV->Prop}(c:s.heap.get? I=some (uO f i a n d))(h:Q (.ref I) s):bY0 (bY2 prog w) A (pyIter (.ref I)) Q E s:=by
 have b:s.TypeIs (.ref I) AQ:=⟨_,c,rfl⟩;refine wpAny_pyIter_slot b W9 (cXM W9 b aXH ?_ (aZl _));show bY0 _ _ (ret (.ref I)) _ _ s;exact bYY ⟨_,rfl,AQ,_,b,zN.lookup,h⟩
def aKH{I a:Nat}{o:Obj}{es:Array (Int×bYS)}{ep:Nat}{t:cXD}{vs:List bYS}{g:Nat->Nat}(hd:o.data= .set es ep t)(hf:t.fits es.size=true)(hv:vs.length=es.size)(hne:a≠I)
  (hx:∀ (s:bYV)(i:Nat)(A':cQA)(E':bYS->bYV->Prop)(Q':Option (bYS×Nat)->bYV->Prop),s.heap.get? a=some o->i<=es.size->Q' ((vs[i]?).map λx=>(x,g (i+1))) s->bY0 (bY2 prog w) A' (setNext a (g i) i ep) Q' E' s)
  (hh:A.handled=none):Walks prog w A I [I,a] [I] es.size (λi v=>vs[i]? =some v) (λi h=>i<=es.size/\h.get? a=some o/\h.get? I=some (uO (.int (g i) 0) i a es.size ep)) where
 sub:=λb hb=>by simp at hb;simp[hb]
 frame:=λi h h' st k=>⟨st.1,k a (by simp) o st.2.1,k I (by simp) _ st.2.2⟩
 item:=λi s Q E hi st hQ=>by
  obtain⟨h1,h2,h3⟩:=st
  have hlt:i<vs.length:=by omega
  refine aYx (nx:=g (i+1)) (x:=vs[i]) h2 hd hf h3 (λQ' E' A' hq=>hx s i A' E' Q' h2 h1 (by rw[bYR hlt];exact hq)) λh' hI' sb=>?_
  exact hQ _ h' s.toks (bYR hlt) ⟨by omega,sb.extBut a o hne h2,hI'⟩ λb ob hb e=>sb.extBut b ob (λz=>hb (by simp[z])) e
 done:=λs Q E st hQ=>by
  obtain⟨h1,h2,h3⟩:=st
  refine bXi hh h2 hd hf h3 (λQ' E' A' hq=>hx s es.size A' E' Q' h2 h1 (by rw[cQs (by omega)];exact hq)) λh' sb=>?_
  exact hQ h' s.toks λb ob hb e=>sb b ob (λz=>hb (by simp[z])) e
 self:=λi s Q E st hQ=>bQF st.2.2 hQ
def aVz{I a p:Nat}{o op:Obj}{es:Array (Int×bYS)}{ep c:Nat}{t:cXD}{vs:List bYS}{ys:List Nat}(hd:o.data= .set es ep t)(hf:t.fits es.size=true)(hv:ys.length=es.size)
  (hpd:op.data= .seq (ys.map λ(j:Nat)=>Value.int j 0).toArray c) (hne:a≠I) (hnp:p≠I) (hx:∀ (i j:Nat),ys[i]? =some j->∃e,es[j]? =some e/\vs[i]? =some e.2)
  (hh:A.handled=none):Walks prog w A I [I,a,p] [I] es.size (λi v=>vs[i]? =some v) (λi h=>i<=es.size/\h.get? a=some o/\h.get? p=some op/\h.get? I=some (uO (.ref p) i a es.size ep)) where
 sub:=λb hb=>by simp at hb;simp[hb]
 frame:=λi h h' st k=>⟨st.1,k a (by simp) o st.2.1,k p (by simp) op st.2.2.1,k I (by simp) _ st.2.2.2⟩
 item:=λi s Q E hi st hQ=>by
  obtain⟨h1,h2,h3,h4⟩:=st
  have hlt:i<ys.length:=by omega
  obtain⟨e,he,hve⟩:=hx i ys[i] (bYR hlt)
  refine aWW (j:=ys[i]) (e:=e) h2 hd hf h4 h3 hpd (by simp[hlt]) he λh' hI' sb=>?_
  exact hQ _ h' s.toks hve ⟨by omega,sb.extBut a o hne h2,sb.extBut p op hnp h3,hI'⟩ λb ob hb e=>sb.extBut b ob (λz=>hb (by simp[z])) e
 done:=λs Q E st hQ=>by
  obtain⟨h1,h2,h3,h4⟩:=st
  refine aK4 hh h2 hd hf h4 h3 hpd (by simp[hv]) λh' sb=>?_
  exact hQ h' s.toks λb ob hb e=>sb b ob (λz=>hb (by simp[z])) e
 self:=λi s Q E st hQ=>bQF st.2.2.2 hQ
def bJ0{a:Nat}{T:List Int}{Q:bYS->bYV->Prop}(hS:aQ9 w s.heap a T) (h:∀ (I:Nat)(h':Heap)(d:Drawn)(fp:List Nat)(St:Nat->Heap->Prop)(vs:List bYS)(ls:List Int),s.heap.objs.size<=I->(∀b∈fp,b=a\/s.heap.objs.size<=b)->(∀b∈fp,b<h'.objs.size)->aZj ls vs->ls.Perm T-> (∀ (A:cQA),A.handled=none->Walks prog w A I fp [I] T.length (λi v=>vs[i]? =some v) St)->St 0 h'->(∀b o,s.heap.get? b=some o->h'.get? b=some o)-> Q (.ref I) {s with heap:=h',drawn:=d}):bY0 (bY2 prog w) A (pyIter (.ref a)) Q E s:=by
 have hT:=hS.type;obtain⟨o,f,C,t,ls,M,a8,H,r,Z,a7,l,G,O⟩:=hS;have K:f.size=T.length:=by rw[<- cXf,<- r.length,Z.length_eq]
 have y:a<s.heap.objs.size:=bY6 M;refine wpAny_pyIter_slot hT F.slot_set_iter (cXM F.slot_set_iter hT aWE ?_ (F.args_set_iter_1 _));unfold cXF.«frozenset.__iter__» Builtin.Frozenset.slot0 slotArgs;simp only[List.isEmpty_nil,Bool.not_true,Bool.false_eq_true,↓reduceIte,bind_assoc,cX3,bne_self_eq_false];unfold Builtin.Frozenset.addrOf Builtin.Frozenset.sizeOf;refine bYU (bYY ?_);try dsimp only
 refine bYU (bYY ?_);refine bYU (bYU (cZE M H G (bYY ?_)));refine bYU ?_;unfold setDrawn setsByText;refine bYU (cZm M H G ?_);dsimp only;refine bYU (bYU (cZB (bYY ?_)));refine bYY ?_;refine cJM (λc=>?_) (λc=>?_)
 ·refine bYU (aK3 f.size (bY5 f.size) s _ cQL λq d P=>?_);have U:q.length=f.size:=by rw[P.length_eq,cQL]
  have S:∀j∈q,j<f.size:=λj W=>cQu.mp (P.mem_iff.mp W);refine bYU (wpAny_newTuple ?_ (by rw[bYW,U];exact cVa l));have a2:=bYX {cls:= .type AD,data:= .seq (q.map λ(i:Nat)=>cXa (i:Int)).toArray} M;refine bYU (wpAny_setEpoch_of a2 H G ?_);refine bYU (cXS (bYY ⟨_,rfl,AQ,_,⟨_,cQn _ rfl,rfl⟩,zN.lookup,?_⟩));have N:cJY (q.filterMap λj=>f[j]?) f.toList:=(P.filterMap _).trans (by rw[filterMap_getElem?_range]);obtain⟨k,n,m⟩:=r.perm N.symm;have a3:∀ (i j:Nat),q[i]? =some j->∃e,f[j]? =some e/\((q.filterMap λj=>f[j]?).map (·.2))[i]? =some e.2:=λi j e=>by have W:j<f.size:=S j (cQa e);refine⟨f[j],cXl W,?_⟩;rw[cQc,Z7 (λx hx=>by rw[cXl (S x hx)];rfl),e,Option.bind_some,cXl W];rfl
  have fin:∀ (D:Heap)(X:Obj),X.data= .seq (q.map λ(i:Nat)=>Value.int i 0).toArray 0->D.objs.size=s.heap.objs.size+1->D.get? s.heap.objs.size=some X->(∀b o,s.heap.get? b=some o->D.get? b=some o)->
    Q (.ref D.objs.size) {s with heap:=D.push (uO (.ref s.heap.objs.size) 0 a f.size C),drawn:=d}:=by
   intro D X a0 B a6 hk
   refine h D.objs.size _ d [D.objs.size,a,s.heap.objs.size] (λi h=>i<=f.size/\h.get? a=some o/\h.get? s.heap.objs.size=some X/\h.get? D.objs.size=some (uO (.ref s.heap.objs.size) i a f.size C)) _ k ?_ ?_ ?_ n.vals (m.trans Z)
    (λA hh=>by rw[<- K];exact aVz (o:=o) (ys:=q) (c:=0) H G U a0 (cQj (by rw[B];exact cQ2 y)) (cQj (by rw[B];exact cXJ _)) a3 hh) ⟨cQQ _,bYX _ (hk _ _ M),bYX _ a6,cQn _ rfl⟩ λb ob e=>bYX _ (hk _ _ e)
   ·omega
   ·intro b l;simp only[bY1,cZt,or_false]at l;rcases l with rfl|rfl|rfl
    ·right;omega
    ·left;rfl
    ·right;exact bYZ _
   ·intro b l;rw[cXs];simp only[bY1,cZt,or_false]at l;rcases l with rfl|rfl|rfl
    ·exact cXJ _
    ·rw[B];exact cQ2 (cQ2 y)
    ·rw[B];exact cQ2 (cXJ _)
  exact fin _ _ rfl (cXs ..) (cQn _ rfl) λb ob e=>bYX _ e
 ·refine bYU (bYY ?_);refine bYU (wpAny_setEpoch_of M H G ?_);refine bYU (cXS (bYY ⟨_,rfl,AQ,_,⟨_,cQn _ rfl,rfl⟩,zN.lookup,?_⟩));have fin:∀ (vs:List bYS)(g:Nat->Nat)(k:List Int),g 0=0->vs.length=f.size->aZj k vs->k.Perm T->
    (∀ (s:bYV)(i:Nat)(A':cQA)(E':bYS->bYV->Prop)(Y:Option (bYS×Nat)->bYV->Prop),s.heap.get? a=some o->i<=f.size->Y ((vs[i]?).map λx=>(x,g (i+1))) s->bY0 (bY2 prog w) A' (setNext a (g i) i C) Y E' s)->
    Q (.ref s.heap.objs.size) {s with heap:=s.heap.push {cls:= .type AQ,dict:=none,data:= .fields [cXa 0,cXa 0,Value.ref a,cXa (f.size:Int),cXa (C:Int)].toArray} }:=by
   intro vs g k g0 a1 hv m hx
   refine h s.heap.objs.size _ s.drawn [s.heap.objs.size,a] (λi h=>i<=f.size/\h.get? a=some o/\h.get? s.heap.objs.size=some (uO (.int (g i) 0) i a f.size C)) vs k (bYZ _) ?_ ?_ hv m
    (λA hh=>by rw[<- K];exact aKH (o:=o) (g:=g) H G a1 (cQj y) hx hh) ⟨cQQ _,bYX _ M,?_⟩ λb ob e=>bYX _ e
   ·intro b l;simp only[bY1,cZt,or_false]at l;rcases l with rfl|rfl
    ·right;exact bYZ _
    ·left;rfl
   ·intro b l;rw[cXs];simp only[bY1,cZt,or_false]at l;rcases l with rfl|rfl
    ·exact cXJ _
    ·exact cQ2 y
   ·rw[g0];exact cQn _ rfl
  cases u:aJy w with
  |true=>
   have pp:cJY (cZZ (w.params.setOrder a C) f).toList f.toList:=by have:=aZX (w.params.setOrder a C) f.size 0 f.toList #[] (by simp);simpa[cZZ]using this
   obtain⟨k,n,m⟩:=r.perm pp.symm;refine fin ((cZZ (w.params.setOrder a C) f).toList.map (·.2)) (λ_=>0) k rfl (by rw[bYW,pp.length_eq];simp) n.vals (m.trans Z) λs i A' E' Y R hi p=>?_;refine aYy R H G u ?_;rw[cQc,cXr]at p;cases e:(cZZ (w.params.setOrder a C) f)[i]? with
   |none=>rw[e]at p;exact p
   |some z=>rw[e]at p;exact p
  |false=>
   have a5:(!t.plain && decide (f.size > 1))=false:=by have c':¬ ((!aJy w && (!t.plain && decide (f.size > 1)))=true):=c;rw[u]at c';simpa using c'
   have V:t.led=true:=O.led.resolve_left (by rw[u];decide);have a9:t.place.size=f.size:=by have:=G;simp only[SetTable.fits,Bool.and_eq_true,beq_iff_eq]at this;exact this.1
   refine fin (f.toList.map (·.2)) (λi=>if i=0 then 0 else t.place.getD (i - 1) 0+1) ls (by simp) (by simp) r.vals Z λs i A' E' Y R hi p=>?_;refine bXH R H G u a5 V ?_;have a4:cQT t.place (if i=0 then 0 else t.place.getD (i - 1) 0+1)=i:=by
    by_cases h0:i=0
    ·rw[if_pos h0,aWs O.rise,h0]
    ·rw[if_neg h0,aWr O.rise (by omega)];omega
   rw[a4];by_cases J:i<f.size
   ·have L:i<t.place.size:=by omega
    rw[cXl J,cXl L];rw[cQc,cXr,cXl J]at p;have e1:t.place.getD i 0=t.place[i]:=by simp[cZn,L]
    simpa[e1]using p
   ·rw[cZM (by omega)];rw[cQc,cXr,cZM (by omega)]at p;exact p
end
end Stb
namespace Stb
open PySem PyProof.Rows
section
variable {prog:cQe}{w:cQm}{A:cQA}{E:bYS->bYV->Prop}{s:bYV}
def bJY{r:Nat}{Q:Bool->bYV->Prop}(c:s.TypeIs (.ref r) B4)(h:Q false s):bY0 (bY2 prog w) A (cJW (.ref r)) Q E s:=by
 unfold cJW;refine bYU (wpAny_specialOf c PySem.F.slot_set_len.lookup ?_);generalize a:("set.__len__":String)=q;wp_delta;rw[show splitId q=some (B4,"__len__")from by subst a;decide+kernel];subst a;refine bYU (wpAny_isInstance (T:=B4) (b:=true) c sub_set_self ?_);refine cJM (λz=>absurd z (by decide)) (λ_=>?_);refine cJM (λ_=>?_) (λz=>absurd dk z);exact bYU (wpAny_typeOf c (bYY h))
def aWz{a:Nat}{p:List Int}{R:List bYS->bYV->Prop}(hh:A.handled=none)(hS:aQ9 w s.heap a p)(hn:p.length<=cQk) (h:∀ (h':Heap)(tk:Nat)(d:Drawn)(vs:List bYS)(ls:List Int),s.heap.objs.size<h'.objs.size->(∀b o,s.heap.get? b=some o->h'.get? b=some o)->aZj ls vs->ls.Perm p->R vs {s with heap:=h',toks:=tk,drawn:=d}): bY0 (bY2 prog w) A (collect (.ref a)) R E s:=by
 have hT:=hS.type;obtain⟨oa,X⟩:=hS.there;have H:a<s.heap.objs.size:=bY6 X;unfold collect;refine bYU (wpAny_runValue (cX9 entry_proto_collect' ?_));rw[cXO PySem.F.plain_proto_collect _];show bY0 _ A.in1 (newList [] >>=λl=>again (.builtin "list.__iadd__" ⟨[l,.ref a],[]⟩)) _ _ s;refine bYU (cXS ?_);refine bYY ⟨cZ9 PySem.F.plain_list_iadd _,cX9 entry_list_iadd' ?_⟩;rw[cXO PySem.F.plain_list_iadd _];have hL:(s.heap.push {cls:= .type AB,data:= .seq ([]:List bYS).toArray}).get? s.heap.objs.size=some {cls:= .type AB,data:= .seq #[] }:=cQn _ rfl;have t:aQ9 w (s.heap.push {cls:= .type AB,data:= .seq ([]:List bYS).toArray}) a p:=hS.at λo e=>bYX _ e;have g:(s.heap.push {cls:= .type AB,data:= .seq ([]:List bYS).toArray}).objs.size=s.heap.objs.size+1:=cXs ..;generalize a5:s.heap.push {cls:= .type AB,data:= .seq ([]:List bYS).toArray}=H1 at hL t g ⊢;have Z:∀b o,s.heap.get? b=some o->H1.get? b=some o:=λb o e=>by rw[<- a5];exact bYX _ e
 show bY0 _ A.in1 (cZW (.ref s.heap.objs.size) (.ref a) (.ref s.heap.objs.size)) _ _ {s with heap:=H1};have M:Shared.TypeIs {s with heap:=H1} (.ref a) B4:=t.type (s:={s with heap:=H1});unfold cZW;refine bYU (wpAny_typeOf (T:=B4) M ?_);have q1:cVg (.ref s.heap.objs.size) (.ref a)=false:=by simp[cVg,cZw H]
 have q2:(Value.type B4==Value.type AB)=false:=by decide
 have q3:(Value.type B4==Value.type AD)=false:=by decide
 simp only[q1,q2,q3,Bool.or_false,Bool.false_eq_true,if_false];refine bYU (bJ0 (s:={s with heap:=H1}) t ?_);intro I h2 d fp St vs ls hI a4 a9 hv hp W C y;have P:s.heap.objs.size∉fp:=λz=>by
  rcases a4 _ z with e|e
  ·exact cZw H e
  ·have e':H1.objs.size<=s.heap.objs.size:=e;rw[g]at e';exact absurd e' (Nat.not_succ_le_self _)
 have u:=y _ _ hL;have G:∀ (D:Heap)(c:Nat),St 0 D->(∀b o,b≠s.heap.objs.size->h2.get? b=some o->D.get? b=some o)->D.get? s.heap.objs.size=some {cls:= .type AB,data:= .seq #[] c}->
   cZb (bY2 prog w) A (.builtin "list.extend.loop" ⟨[.ref s.heap.objs.size,.ref I,.ref s.heap.objs.size],[]⟩)
    (λq k=>∃ (h':Heap)(tk:Nat)(f:Array bYS)(B:Nat),q= .ok (.ret (.ref s.heap.objs.size))/\k= {s with heap:=h',toks:=tk,drawn:=d}/\
     (∀b o,s.heap.get? b=some o->h'.get? b=some o)/\h'.get? s.heap.objs.size=some {cls:= .type AB,dict:=none,data:= .seq f B,slots:= #[] }/\ItemsOf (λi v=>vs[i]? =some v) f p.length) {s with heap:=D,drawn:=d}:=by
  intro D c O a2 m
  refine codeAny_extend_loopS (W A.in1 hh).toS hn s.heap.objs.size P (.ref s.heap.objs.size) p.length 0 _ #[] c rfl (cQQ _) O m (ItemsOf.nil _) λk N B S a7 L=>?_
  obtain⟨a3,g',d',a8,Y⟩:=k
  have eg:g'=s.gens:=S.gens
  have ed:d'=d:=S.drawn
  have eo:Y=s.os:=S.os
  subst eg ed eo
  refine⟨a3,a8,N,B,rfl,rfl,λb o e=>?_,a7,L⟩
  have r:b<s.heap.objs.size:=bY6 e
  refine S.heap b o (λz=>?_) (a2 b o (cQj r) (y b o (Z b o e)))
  rcases bY1.mp z with z|z
  ·exact cQj r z
  ·have z':b=I:=bY9.mp z;have Q:H1.objs.size<=I:=hI;rw[g,<- z']at Q;exact absurd (cQl r (Nat.le_of_succ_le Q)) (cQ4 _)
 have n:∀ (q:Result)(k:bYV),(∃ (h':Heap)(tk:Nat)(f:Array bYS)(B:Nat),q= .ok (.ret (.ref s.heap.objs.size))/\k= {s with heap:=h',toks:=tk,drawn:=d}/\ (∀b o,s.heap.get? b=some o->h'.get? b=some o)/\h'.get? s.heap.objs.size=some {cls:= .type AB,dict:=none,data:= .seq f B,slots:= #[] }/\ItemsOf (λi v=>vs[i]? =some v) f p.length)->
   ∃tk h',q= .ok (.ret (.ref s.heap.objs.size))/\k= {s with heap:=h',toks:=tk,drawn:=d}/\bY0 (bY2 prog w) A (do
    let o <- load s.heap.objs.size
    match o.data with
    |.seq xs _=>pure xs.toList
    |_=>unsupported "internal:collect") R E {s with heap:=h',toks:=tk,drawn:=d}:=by
  rintro q k ⟨h',tk,f,B,rfl,rfl,hk,hg,J⟩
  refine⟨tk,h',rfl,rfl,bYU (wpAny_load hg (bYY ?_))⟩
  have a0:vs.length=p.length:=by rw[<- cXA hv,hp.length_eq]
  have e:f.toList=vs:=bXC (by rw[cXf,J.1,a0]) λj x hx=>J.2 j x (by rw[<- cXr];exact hx)
  show R f.toList _
  rw[e]
  exact h h' tk d vs ls (bY6 hg) hk hv hp
 have V:Shared.TypeIs {s with heap:=h2,drawn:=d} (.ref a) B4:=by obtain⟨o',a6,a1⟩:=M;exact⟨o',y _ _ a6,a1⟩
 refine bYU (cXd (bJY V ?_));refine cJM (λ_=>?_) (λ_=>?_)
 ·refine bYU (wpAny_rule ?_);refine bYU ?_;show bY0 _ _ (updateSeq s.heap.objs.size (·.push .none) >>=λ_=>updateSeq s.heap.objs.size (·.pop)) _ _ _;refine bYU (wpAny_updateSeq u rfl ?_);have m:=cQZ (cQM (·.push Value.none)) u rfl;refine wpAny_updateSeq (hz:=by seq_fits) m rfl ?_;have U:=cQZ (cQM (·.pop)) m rfl;refine bYY ⟨cZ9 cVf _,cXL (G _ _ ?_ (λb o r e=>?_) U) λq k z=>?_⟩
  ·refine(W A.in1 hh).frame 0 _ _ C λb r o e=>?_;have K:b≠s.heap.objs.size:=λz=>P (z ▸ r);exact(cQx _ _ (cQB K)).trans ((cQx _ _ (cQB K)).trans e)
  ·exact(cQx _ _ (cQB r)).trans ((cQx _ _ (cQB r)).trans e)
  ·obtain⟨tk,h',rfl,rfl,zz⟩:=n q k z;exact zz
 ·refine bYY ⟨cZ9 cVf _,cXL (G _ _ C (λb o _ e=>e) u) λq k z=>?_⟩;obtain⟨tk,h',rfl,rfl,zz⟩:=n q k z;exact zz
def W0:∀ {a:List Int} {vs:List bYS},aZj a vs->cZp vs a
 |_,_,.nil=> .nil
 |_,_,.cons ⟨t,e⟩ r=>by subst e;exact .cons _ t (W0 r)
def aKC{a:Nat}{f:List Int}{Q:bYS->bYV->Prop}(C:A.handled=none)(B:aQ9 w s.heap a f)(y:f.length<64) (h:∀ (l:Nat)(h':Heap)(tk:Nat)(d:Drawn)(out:List bYS)(j:List Int)(n:Nat),s.heap.objs.size<=l->(∀b o,s.heap.get? b=some o->h'.get? b=some o)->h'.get? l=some {cls:= .type AB,data:= .seq out.toArray n}-> cZp out j->j.Perm f->j.Pairwise (·<=·)->Q (.ref l) {s with heap:=h',toks:=tk,drawn:=d}):bY0 (bY2 prog w) A (call (.builtin AR) [.ref a]) Q E s:=by
 refine cJf kind_sorted plain_sorted entry_sorted (args_sorted1 _) ?_;unfold cXF.«sorted»;refine bYU (m:=checkCount AR 1 1 _) (bYY ?_);refine bYU (aWz (A:=A.in1) C B (by rw[cQr];omega) λp tk d i G g v t u=>?_);have x:=W0 t;have r:i.length=f.length:=by rw[<- cXA t,u.length_eq]
 refine bYU (cJb ?_ (by rw[r,cQr];omega));have c:(p.push {cls:= .type AB,data:= .seq i.toArray}).get? p.objs.size=some (cQI AB i.toArray 0):=cQn _ rfl;refine bYU (cXd (cXM slot_list_sort ⟨_,c,rfl⟩ entry_list_sort (list_sort_tree c x (by omega) λout k F D z=>⟨_,rfl,?_⟩) (args_list_sort _)));obtain⟨n,e⟩:=sortedHeap_at (out:=out) c;refine bYY ⟨_,rfl,h p.objs.size _ tk d out.toList k n (cZv g) (λb o e=>?_) (by simpa using e) F (D.trans u) z⟩;have q:=v b o e;rw[sortedHeap_old (cQj (bY6 q)) (by rw[cXs];exact cQ2 (bY6 q))];exact bYX _ q
end
end Stb
namespace Stb
open PySem PyProof.Rows
def met(val:Nat->Int):Nat->List Int
 |0=> []
 |i+1=>if val i∈met val i then met val i else met val i++ [val i]
def aJL(val:Nat->Int):∀i,(met val i).length<=i
 |0=>bYZ _
 |i+1=>by
  have a:=aJL val i;unfold met;split
  ·omega
  ·rw[cQf,cQ5];omega
def aYu(val:Nat->Int)(d:Int):∀i,d∈met val i↔∃j,j<i/\val j=d
 |0=>by simp[met]
 |i+1=>by
  have c:=aYu val d i;have step:d∈met val (i+1)↔d∈met val i\/d=val i:=by
   show d∈(if val i∈met val i then met val i else met val i++ [val i])↔_;split
   ·rename_i a;constructor
    ·exact .inl
    ·rintro(z|rfl)
     ·exact z
     ·exact a
   ·simp
  rw[step,c];constructor
  ·rintro(⟨j,b,e⟩|rfl)
   ·exact⟨j,by omega,e⟩
   ·exact⟨i,by omega,rfl⟩
  ·rintro⟨j,b,e⟩;by_cases h:j=i
   ·subst h;exact .inr e.symm
   ·exact .inl ⟨j,by omega,e⟩
section
variable {prog:cQe}{w:cQm}{A:cQA}
def bJS{R:Result->bYV->Prop}{I:Nat}{K y:List Nat}{n:Nat}{P:Nat->bYS->Prop}{St:Nat->Heap->Prop}(W:Walks prog w A.in1 I K y n P St)(S:Nat)(l:S∉K) (val:Nat->Int) (q:∀i v,P i v->∃t,v= .int (val i) t) (a:n+1<cJm): ∀ (k i:Nat)(s:bYV),n - i=k->i<=n->St i s.heap->aQ9 w s.heap S (met val i)-> (∀p tk,(∀b o,b∉S::y->s.heap.get? b=some o->p.get? b=some o)->aQ9 w p S (met val n)->R (.ok (.ret .none)) {s with heap:=p,toks:=tk})-> cZb (bY2 prog w) A (.builtin "set.update.loop" ⟨[.ref S,.ref I],[]⟩) R s:=by
 have x:S∉y:=λh=>l (W.sub _ h);intro k;induction k with
 |zero=>
  intro i s L M c G hR;obtain rfl:i=n:=by omega
  refine cX9 cJi ?_;rw[cXO cZg _];refine bYU (m:=pyNext (.ref I)) (W.done s _ _ c λp tk r=>?_);exact bYY (hR p tk (λb o a e=>r b o (λz=>a (bY4 _ z)) e) (G.at λo e=>r S o x e))
 |succ k Q=>
  intro i s L M c G hR;have j:i<n:=by omega
  refine cX9 cJi ?_;rw[cXO cZg _];refine bYU (m:=pyNext (.ref I)) (W.item i s _ _ j c λv E g O f u=>?_);obtain⟨t,rfl⟩:=q i v O;show bY0 _ A.in1 (cJc [Value.int (val i) t] (setAdd S (.int (val i) t)) >>=_) _ _ {s with heap:=E,toks:=g};refine bYU (cXd ?_);unfold setAdd;refine cXd ?_;refine bYU ((intKind prog w).pyHash (k:=val i) (intKind_is _ _ _ _) ?_);have d:(met val i).length+1<cJm:=by have:=aJL val i;omega
  refine bWv (s:={s with heap:=E,toks:=g+1}) (G.at λo e=>u S o x e) d λT b J D=>?_;refine bYY ⟨cZ9 cZg _,Q (i+1) _ (by omega) j (W.frame _ E _ f λb a o e=>?_) D λN C B H=>?_⟩
  ·exact J.extBut b o (λz=>l (z ▸ a)) e
  ·refine hR N C (λb o a e=>B b o a (J.extBut b o (λz=>a (by rw[z];exact bY7)) (u b o (λz=>a (bY4 _ z)) e))) H
variable {E:bYS->bYV->Prop}{s:bYV}
def bWR(a:bYS){Q₁:bYS->bYV->Prop} (h:Q₁ (.ref s.heap.objs.size) {s with heap:=s.heap.push {cls:= .type B4,dict:=none,data:= .set #[] 0 (.fresh 0 0 (!aJy w)) } }): cZb (bY2 prog w) A (.call (.builtin "set.__new__") ⟨[.type B4,a],[]⟩) (wants Q₁ E) s:=by
 refine codeAny_of_tree ?_;show bY0 _ A.in1 (do checkBuiltinCall "set.__new__" ⟨[.type B4,a],[]⟩;again (.builtin "set.__new__" ⟨[.type B4,a],[]⟩)) _ _ s;refine bYU (wpAny_of_eq (PySem.F.newCall_set_1 a) (bYY ⟨cZ9 PySem.F.plain_set_new _,cX9 PySem.F.entry_set_new ?_⟩));rw[cXO PySem.F.plain_set_new _];unfold cXF.«set.__new__» Builtin.Frozenset.newClass;have b:=sub_set_self;obtain⟨e,g,d,tk,c⟩:=s;dsimp only;wp_walk;refine cZB (bYY ?_);dsimp only;simp only[newObj];refine bYU (wpAny_alloc (bYY ?_));exact bYY h
set_option maxHeartbeats 3200000 in
def zV{l:Nat}{items:Array bYS}{G:List Int}{Q:bYS->bYV->Prop}(hh:A.handled=none)(hl:s.heap.IsList l items)(hi:cZp items.toList G)(N:items.size+1<cJm) (h:∀ (h':Heap)(tk:Nat),aQ9 w h' s.heap.objs.size (met (λi=>G.getD i 0) items.size)->(∀b o,s.heap.get? b=some o->h'.get? b=some o)->Q (.ref s.heap.objs.size) {s with heap:=h',toks:=tk}): bY0 (bY2 prog w) A (call (.type B4) [.ref l]) Q E s:=by
 obtain⟨c,tl,a4⟩:=cXK.mro;have W:=cXK.made;have a3:=cXK.sub;refine cZ5 (codeAny_of_tree ?_);show bY0 _ _ (callAny (.type B4) _) _ _ _;refine bYY ⟨cJX _ dk,cX9 PySem.F.entry_type_call ?_⟩;rw[Around.under_plain (weight_type_call_type B4 [.ref l] []) rfl];have h1:=cXK.notType;have h2:=cXK.canCreate;have a5:=PySem.F.typeCall_set_1 (.ref l);repeat (any_goals (first|assumption|wp_step))
 refine cXL (bWR (.ref l) (E:=E) (Q₁:=λJ j=>J= .ref s.heap.objs.size/\j= {s with heap:=s.heap.push {cls:= .type B4,dict:=none,data:= .set #[] 0 (.fresh 0 0 (!aJy w)) } }) ⟨rfl,rfl⟩) λr j Y=>?_;cases r with
 |error e=>exact Y
 |ok fl=>
  cases fl with
  |ret J=>
   obtain⟨rfl,rfl⟩:=Y;generalize u:({cls:= .type B4,dict:=none,data:= .set #[] 0 (.fresh 0 0 (!aJy w)) }:Obj)=O;have V:(s.heap.push O).get? s.heap.objs.size=some O:=cQn _ (by rw[<- u];rfl);have hT:Shared.TypeIs {s with heap:=s.heap.push O} (.ref s.heap.objs.size) B4:=⟨_,V,by rw[<- u]⟩;have y:aQ9 w (s.heap.push O) s.heap.objs.size []:=by
    refine⟨O, #[],0,.fresh 0 0 (!aJy w),[],V,?_,?_,.nil,.rfl,List.nodup_nil,by decide,rfl,bQZ ?_⟩
    ·rw[<- u];exact⟨rfl,rfl,rfl⟩
    ·rw[<- u]
    ·cases aJy w<;> simp
   have d:(s.heap.push O).objs.size=s.heap.objs.size+1:=cXs ..;have k:∀b o,s.heap.get? b=some o->(s.heap.push O).get? b=some o:=λb o e=>bYX _ e;generalize hH:s.heap.push O=H at V hT y d k ⊢;have a6:=cXK.init.lookup;have a7:=cXK.init.bind (.ref s.heap.objs.size);repeat (any_goals (first|assumption|wp_step))
   refine cXL (cJI (R:=wants (λr g=>r= .none/\∃h' tk,g= {s with heap:=h',toks:=tk}/\aQ9 w h' s.heap.objs.size (met (λi=>G.getD i 0) items.size)/\
     (∀b o,s.heap.get? b=some o->h'.get? b=some o)) E) cXK.init.plain PySem.F.entry_set_init (check_set_init_1 hT ?_)) λq g a=>?_
   ·obtain⟨ol,P,K,nl,C⟩:=hl;obtain⟨a1,p,S,f⟩:=ol;simp only at K C;subst K;subst C;have L:H.get? l=some {cls:= .type AB,dict:=p,data:= .seq items nl,slots:=f}:=k _ _ P;have a0:=PySem.F.sub_list_set;have a2:=PySem.F.sub_list_frozenset;have a8:(Value.type AB==Value.type "dict")=false:=by decide
    have D:H.IsList l items:=⟨_,L,rfl,nl,rfl⟩;subst u;unfold cXF.«set.__init__» noKeywords Builtin.Frozenset.updateFrom;generalize U:pyIter=PI;wp_walk;subst U;refine cVc (l:=l) (items:=items) ?hl ?_;case hl=>exact D
    refine bYU (wpAny_runValue ?_);have M:l<s.heap.objs.size:=bY6 P;have Z:A.in1.in1.in1.handled=none:=by simp[hh]
    have x:l≠H.objs.size:=by rw[d];exact cQj (cQ2 M)
    have T:s.heap.objs.size∉ [H.objs.size,l]:=by rw[d];simp only[bY1,cZt,or_false,not_or];exact⟨cQj (cXJ _),cZw M⟩
    have I:∀ (i:Nat)(v:bYS),items[i]? =some v->∃t,v= .int ((λi=>G.getD i 0) i) t:=λi v hv=>
     cJZ hi i v (by rw[cXr];exact hv)
    refine bJS (Walks.list Z _ l x items) s.heap.objs.size T (λi=>G.getD i 0) I N (items.size - 0) 0 _ (by omega) (cQQ _) ⟨⟨_,cQn _ rfl,rfl,rfl⟩,D.push _⟩ ?hS0 ?hR;case hS0=>exact y.at λo e=>bYX _ e
    case hR=>
     intro h' tk hk m;show bY0 _ _ _ _ _ _;refine bYY ?_;show bY0 _ _ (ret Value.none) _ _ _;refine bYY ⟨rfl,h',tk,rfl,m,λb o e=>?_⟩;have N:=bY6 e;refine hk b o (λz=>?_) (bYX _ (k _ _ e));simp only[bY1,cZt,or_false]at z;rcases z with z|z
     ·exact cQj N z
     ·rw[z]at N;have B:H.objs.size<s.heap.objs.size:=N;rw[d]at B;exact absurd B (Nat.not_lt.mpr (cX1 _))
   ·cases q with
    |error e=>exact a
    |ok n=>
     cases n with
     |ret r=>
      obtain⟨rfl,h',tk,rfl,m,X⟩:=a;repeat (any_goals (first|assumption|wp_step))
      exact h _ _ m X
     |_=>exact a.elim
  |_=>exact Y.elim
end
end Stb
namespace L2
open PySem PySem.Spec PyProof.Rows
section
variable {X:Cx}{tg:Expr}
end
section
variable {X:Cx}
inductive aKQ(K:bYT)(xs:List V)(H:Hp)(Q:VK):Prop|mk(x c t b)(_:xs= [x,.ty c])(_:aJr K H x t)(_:cQK K t (.type c)=some b)(_:Q (.bl b) H)
def zA:qF X (.builtin AY) (aKQ X.K):=by
 intro a s σ H g i Q I r h;obtain⟨x,c,t,b,rfl,ty,e,q⟩:=h;obtain⟨u,v,rfl,d,f⟩:=xW.two r;cases f;exact aYe I d ty e λtk=>⟨.bl b,H,I.tok tk,rfl,q⟩
def bKh(w:cQm)(a:Nat)(b:List Int):HO:= .ext λh=>Stb.aQ9 w h a b
def bQ8(J:X.calm=true):qF X (.type B4) (λA H Q=>∃ (p:Nat)(b:List Int),A= [.ref p]/\SqL X.K H p (b.map V.int)/\b.length<4000/\∀ (l:Nat)(c:List Int),H l=none->c.Nodup->c.length<=b.length->(∀d,d∈c↔d∈b)->Q (.ref l) (upd H l (bKh X.w l c))):=by
 intro x s σ H A T Q I r h;obtain⟨p,b,rfl,G,L,q⟩:=h;obtain⟨u,rfl,D⟩:=aQ7 r;cases D;obtain⟨a,E,F,R⟩:=I.list G;have v:cZp a b:=aXo E;have y:a.length=b.length:=v.length;refine Stb.zV (I.ok.hd J) F.isList (by simpa using v) (by rw[cQb];unfold cJm;omega) λO tk f B=>?_;rw[cQb]at f;have m:(Stb.met (λi=>b.getD i 0) a.length).Nodup:=by obtain⟨o,N,M,t,P,_,_,_,_,_,m,_⟩:=f;exact m
 have hl:=Stb.aJL (λi=>b.getD i 0) a.length;refine⟨.ref s.heap.objs.size,_,I.laid (t':=tk) (o:=bKh X.w s.heap.objs.size (Stb.met (λi=>b.getD i 0) a.length)) B (bYZ _) ⟨f,f.there,λS U z k=>z.at k⟩,rfl,q _ _ I.fresh m (by omega) λd=>?_⟩;rw[Stb.aYu];constructor
 ·rintro⟨j,n,rfl⟩;have g:j<b.length:=by omega
  simp[cQC,bYR g]
 ·intro C;obtain⟨j,n,e⟩:=cQJ C;exact⟨j,by omega,by simp[cQC,bYR n,e]⟩
def aXa(C:X.calm=true):qF X (.builtin AR) (λm H Q=>∃ (p:Nat)(f:List Int),m= [.ref p]/\H p=some (bKh X.w p f)/\f.length<64/\∀ (l:Nat)(c:List Int),H l=none->c.Perm f->c.Pairwise (·<=·)->Q (.ref l) (upd H l (.lst (c.map V.int)))):=by
 intro b s σ H m D Q I r h;obtain⟨p,f,rfl,v,g,q⟩:=h;obtain⟨u,rfl,y⟩:=aQ7 r;cases y;obtain⟨A,_,_⟩:=(show zH X.prog X.w H s.heap p (bKh X.w p f)from I.hok p _ v);refine Stb.aKC (I.ok.hd C) A g λl k tk d out c n hl o x t e i=>?_;have B:H l=none:=I.hok.fresh hl;have j:c.length<=cQk:=by rw[e.length_eq,cQr];omega
 have a:Inv X b σ (upd H l (.lst (c.map V.int))) {s with heap:=k,toks:=tk}:=I.laid o hl ⟨by rw[bYW];exact j,out,n,jF t,x⟩;have z:Inv X b σ (upd H l (.lst (c.map V.int))) {s with heap:=k,toks:=tk,drawn:=d}:=by refine⟨a.ok,a.os,a.bare,a.base,a.loc,a.cell,a.free,a.freeC,a.pin,a.hok,a.len⟩
 exact⟨.ref l,_,z,rfl,q l c B e i⟩
def aVd(n d:Nat)(a:Nat):HT.sIx n d (some (a:Int))=min a n:=by
 unfold HT.sIx;simp only;split<;> omega
end
end L2
namespace L2
open PySem PySem.Spec PyProof.Rows
def uM(K:bYT):cQK K (.type "NoneType") (.type AB)=some false:=by kernel_rfl
def vY(K:bYT):cQK K (.type "NoneType") (.type AD)=some false:=by kernel_rfl
def W1(K:bYT):cQK K (.type Aj) (.type Aj)=some true:=by kernel_rfl
def aJJ(K:bYT):cQK K (.type Aj) (.type Ao)=some true:=by kernel_rfl
def qH(K:bYT):cQK K (.type Aj) (.type Ap)=some false:=by kernel_rfl
def aZH(K:bYT):cQK K (.type Aj) (.type AB)=some false:=by kernel_rfl
def aXL(K:bYT):cQK K (.type Aj) (.type AD)=some false:=by kernel_rfl
def qI(K:bYT):cQK K (.type Ao) (.type Aj)=some false:=by kernel_rfl
def aXp(K:bYT):cQK K (.type Ao) (.type Ao)=some true:=by kernel_rfl
def jL(K:bYT):cQK K (.type Ao) (.type Ap)=some false:=by kernel_rfl
def aQo(K:bYT):cQK K (.type Ao) (.type AB)=some false:=by kernel_rfl
def W3(K:bYT):cQK K (.type Ao) (.type AD)=some false:=by kernel_rfl
def aQp(K:bYT):cQK K (.type Ap) (.type Aj)=some false:=by kernel_rfl
def aWK(K:bYT):cQK K (.type Ap) (.type Ao)=some false:=by kernel_rfl
def vZ(K:bYT):cQK K (.type Ap) (.type Ap)=some true:=by kernel_rfl
def aQq(K:bYT):cQK K (.type Ap) (.type AB)=some false:=by kernel_rfl
def W4(K:bYT):cQK K (.type Ap) (.type AD)=some false:=by kernel_rfl
def x8(K:bYT):cQK K (.type AB) (.type AB)=some true:=by kernel_rfl
def z8(K:bYT):cQK K (.type AB) (.type AD)=some false:=by kernel_rfl
def zC(K:bYT):cQK K (.type AD) (.type AB)=some false:=by kernel_rfl
def zS(K:bYT):cQK K (.type AD) (.type AD)=some true:=by kernel_rfl
section
variable {X:Cx}{pins:List (Nat×Obj)}{σ:St}{H:Hp}{s:bYV}
def aWH{A:cQA}{E:bYS->bYV->Prop}{Q:bYS->bYV->Prop}{x:V}{u t:bYS}{tp:Nat}{cs:List bYS}{b:Bool}(I:Inv X pins σ H s)(d:zO x u)(ty:aJr X.K H x t) (r:cZQ s.heap tp cs.toArray) (e:PySem.W.kitAny X.K t cs=some b) (h:∀tk,Q (.bool b) {s with toks:=tk}):bY0 (bY2 X.prog X.w) A (call (.builtin AY) [u,.ref tp]) Q E s:=by
 obtain⟨⟨cls,S,data,P⟩,c,B,n,v⟩:=r;simp only at B v;subst B v;cases ty with
 |non=>cases (show u=Value.none from d);exact cXv PySem.W.kitx_none I.kIn cXg c e (λz=>nomatch z) h
 |bl y=>cases (show u=Value.bool y from d);exact cXv PySem.W.kitx_bool I.kIn cXg c e (λz=>nomatch z) h
 |int i=>obtain⟨t,q⟩:=(show ∃t,u=Value.int i t from d);cases q;exact cXv PySem.W.kitx_int I.kIn cXg c e (λz=>nomatch z) h
 |str y=>obtain⟨t,q⟩:=(show ∃t,u=Value.str y t from d);cases q;exact cXv PySem.W.kitx_str I.kIn cXg c e (λz=>nomatch z) h
 |flt y=>obtain⟨t,q⟩:=(show ∃t,u=Value.float y t from d);cases q;exact cXv PySem.W.kitx_float I.kIn cXg c e (λz=>nomatch z) h
 |@lst a k f=>cases (show u=Value.ref a from d);obtain⟨_,_,n,_,g⟩:=(show zH X.prog X.w H s.heap a (.lst k)from I.hok a _ f);exact cXv cJp I.kIn ⟨_,g,rfl⟩ c e (λz=>nomatch z) h
 |@frz a D k f=>cases (show u=Value.ref a from d);obtain⟨_,_,_,n,_,g⟩:=(show zH X.prog X.w H s.heap a (.frz D (.lst k))from I.hok a _ f);exact cXv cJp I.kIn ⟨_,g,rfl⟩ c e (λz=>nomatch z) h
 |@tup a k f=>cases (show u=Value.ref a from d);obtain⟨_,_,_,p⟩:=(show zH X.prog X.w H s.heap a (.tup k)from I.hok a _ f);obtain⟨o,g,l,_⟩:=p;exact cXv PySem.W.kitx_tuple I.kIn ⟨o,g,l⟩ c e (λz=>nomatch z) h
 |@dK a j f=>cases (show u=Value.ref a from d);obtain⟨_,_,T,_,p⟩:=(show zH X.prog X.w H s.heap a (.dK j)from I.hok a _ f);obtain⟨o,L,G,g,l,_⟩:=p;exact cXv cJo I.kIn ⟨o,g,l.1⟩ c e (λz=>nomatch z) h
 |@dT a j f=>cases (show u=Value.ref a from d);obtain⟨_,_,k,_,o,L,G,g,l,_⟩:=(show zH X.prog X.w H s.heap a (.dT j)from I.hok a _ f);exact cXv cJo I.kIn ⟨o,g,l.1⟩ c e (λz=>nomatch z) h
 |@ins a C R fs f cl N F m M=>cases (show u=Value.ref a from d);obtain⟨U,O,_⟩:=aQk I.hok f;obtain⟨Y,J,_⟩:=O.look;exact cXv (PySem.W.kitx_own (cl.get _) cl.hd N F m M) I.kIn J c e (λz=>nomatch z) h
end
section
variable {X:Cx}
inductive aWu(K:bYT)(xs:List V)(H:Hp)(Q:VK):Prop|mk(x p c d t b b')(_:xs= [x,.ref p])(_:SqT K H p [.ty c,.ty d])(_:aJr K H x t)(_:cQK K t (.type c)=some b)(_:cQK K t (.type d)=some b')(_:Q (.bl (b || b')) H)
def qU:qF X (.builtin AY) (aWu X.K):=by
 intro pins s σ H y z Q I r h;obtain⟨x,p,c,d,t,b,a,rfl,o,ty,m,e,q⟩:=h;obtain⟨u,v,rfl,i,j⟩:=xW.two r;cases j;obtain⟨f,n,k,_⟩:=I.tuple o;obtain⟨A,w,rfl,l,g⟩:=xW.two n;cases l;cases g;refine aWH I i ty k (b:=b || a) ?_ λtk=>⟨.bl (b || a),H,I.tok tk,rfl,q⟩;unfold PySem.W.kitAny;rw[m];cases b
 ·simp only[Bool.false_or];unfold PySem.W.kitAny;rw[e];cases a<;> rfl
 ·rfl
inductive bW7(K:bYT)(x:V)(y:V)(H:Hp)(Q:VK):Prop|mk(a b xs)(_:x= .ref a)(_:y= .ref b)(_:SqL K H a xs)(_:SqL K H b [])(_:Q (.bl xs.isEmpty) H)
inductive bW8(K:bYT)(x:V)(y:V)(H:Hp)(Q:VK):Prop|mk(a b xs)(_:x= .ref a)(_:y= .ref b)(_:SqL K H a xs)(_:SqL K H b [])(_:Q (.bl (!xs.isEmpty)) H)
def aVP(d:X.A.units<cLine):OpR X (cXo .Eq) (bW7 X.K):=by
 intro pins s σ H x y v u Q I n g h;obtain⟨a,b,r,rfl,rfl,l,o,q⟩:=h;cases n;cases g;obtain⟨w,i,c,_⟩:=I.list l;obtain⟨p,m,f,_⟩:=I.list o;cases m;cases i with
 |nil=>exact SeqAt.eq_listAt (e:=λ_=>true) c.isList f.isList rfl d (λj k t=>absurd k (cXE _)) ⟨.bl true,H,I,rfl,q⟩
 |cons _ _=>exact SeqAt.eq_list_lengthsAt c.isList f.isList (by simp) d ⟨.bl false,H,I,rfl,q⟩
def vS(d:X.A.units<cLine):OpR X (cXo .NotEq) (bW8 X.K):=by
 intro pins s σ H x y v u Q I n g h;obtain⟨a,b,r,rfl,rfl,l,o,q⟩:=h;cases n;cases g;obtain⟨B,i,c,_⟩:=I.list l;obtain⟨p,m,f,_⟩:=I.list o;cases m;cases i with
 |nil=>have z:=SeqAt.RcNeAt.lists (A:=X.A) (s:=s) (e:=λ_=>true) c.isList f.isList rfl d (λj k t=>absurd k (cXE _));exact z X.prog X.w X.xe _ ⟨.bl false,H,I,rfl,q⟩
 |cons _ _=>exact(SeqAt.RcNeAt.lists_lengths c.isList f.isList (by simp) d) X.prog X.w X.xe _ ⟨.bl true,H,I,rfl,q⟩
structure FnG(P:cQe)(w:cQm)(K:bYT)(mg:Str->Option bYS)(base:Heap)(k:Nat)(x:Str)(ps:List Str)(sp:Sp):Prop where
 ex:∃f fd,xE P w K mg base CX0 k f fd ps sp/\v7 K fd ps []/\cQO K (.ref f)=true/\mg x=some (.ref f)
def FnG.mono{P:cQe}{w:cQm}{K:bYT}{mg:Str->Option bYS}{base:Heap}{j k:Nat}{x:Str}{c:List Str}{sp:Sp}(G:FnG P w K mg base j x c sp)(h:j<=k):FnG P w K mg base k x c sp:=
 let ⟨f,fd,a,b⟩:=G.ex;⟨f,fd,a.mono h,b⟩
def xJ{k:Nat}{x:Str}{g:List Str}{sp:Sp}{e:Expr}{a:List Expr}{t:TA}{p pos:Pos}(G:FnG X.prog X.w X.K X.mg X.base k x g sp)(n:vX k X.A)(h:Gl X x)(l:PA X (e::a) t)
  (d:(x==(AO:Str))=false:=by decide) (i:cQy (e::a) X.env=(false,eval e X.env)::cQy a X.env:=by rfl) (c:(cXw pos (cQy a X.env)).any (·.1)=false:=by rfl):
  PE X (.Call (.Name x p) (e::a) [] pos) (bZM sp [] E0 t):=by
 obtain⟨f,o,F,b,j,m⟩:=G.ex
 exact aYX F n h m j b .nil v1 l d i c
end
inductive Dt where
 |non|bl (b:Bool)|int (n:Int)|str (x:Str)|lst (ds:List Dt)|tup (ds:List Dt)
mutual
def Is(H:Hp):V->Dt->Prop
 |v,.non=>v= .non
 |v,.bl b=>v= .bl b
 |v,.int n=>v= .int n
 |v,.str x=>v= .str x
 |v,.lst ds=>∃a c,v= .ref a/\H a=some (.lst c)/\zY H c ds
 |v,.tup ds=>∃a c,v= .ref a/\H a=some (.tup c)/\zY H c ds
def zY(H:Hp):List V->List Dt->Prop
 |[],[]=>True
 |x::xs,d::ds=>Is H x d/\zY H xs ds
 |_,_=>False
end
mutual
def Dt.size:Dt->Nat
 |.lst a=>1+zK a
 |.tup a=>1+zK a
 |_=>1
def zK:List Dt->Nat
 |[]=>0
 |d::ds=>d.size+zK ds
end
def zY.length{H:Hp}:∀ {xs:List V} {ds:List Dt},zY H xs ds->xs.length=ds.length
 |[],[],_=>rfl
 |_::xs,_::ds,h=>by unfold zY at h;simp[zY.length h.2]
 |[],_::_,h=>by unfold zY at h;exact h.elim
 |_::_,[],h=>by unfold zY at h;exact h.elim
def zY.get{H:Hp}:∀ {xs:List V} {ds:List Dt} {i:Nat} {d:Dt},zY H xs ds->ds[i]? =some d->∃x,xs[i]? =some x/\Is H x d
 |x::xs,d::ds,0,_,h,e=>by unfold zY at h;simp at e;subst e;exact⟨x,rfl,h.1⟩
 |_::xs,_::ds,i+1,d,h,e=>by unfold zY at h;simpa using zY.get (i:=i) (d:=d) h.2 (by simpa using e)
 |[],[],_,_,_,e=>by simp at e
 |[],_::_,_,_,h,_=>by unfold zY at h;exact h.elim
 |_::_,[],_,_,h,_=>by unfold zY at h;exact h.elim
def zF{t u:TS}{D:aJo}{σ:L2.St}{H:Hp}(R:L2.St->Hp->Prop)(c:∀a b,R a b->u D a b)(d:(∀a b,R a b->u D a b)->t {D with nx:=u D} σ H):bKI t u D σ H:=d c
def onT{c:Bool}{A B:Prop}(e:c=true)(h:A):if c=true then A else B:=by rw[e];exact h
def onF{c:Bool}{A B:Prop}(e:c=false)(h:B):if c=true then A else B:=by rw[e];exact h
def z0:([]:List V).length<=cQk:=by decide
def z1{a:V}: [a].length<=cQk:=by show 1<=cQk;decide
def z2{a b:V}: [a,b].length<=cQk:=by show 2<=cQk;decide
def z3{a b c:V}: [a,b,c].length<=cQk:=by show 3<=cQk;decide
def z4{a b c d:V}: [a,b,c,d].length<=cQk:=by show 4<=cQk;decide
def z5{a b c d e:V}: [a,b,c,d,e].length<=cQk:=by show 5<=cQk;decide
def zn{l:List V}(h:l.length<=100000):l.length<=cQk:=by rw[cQr];omega
def zlt{l:List V}(h:l.length<=100000):l.length<cQk:=by rw[cQr];omega
def xC.fresh{H a:Hp}(k:xC H a){p:Nat}(h:a p=none):H p=none:=by
 cases e:H p with
 |none=>rfl
 |some o=>rw[k _ _ e]at h;cases h
def yG{H:Hp}{p:Nat}(h:H p=none)(o:HO):xC H (upd H p o):=λb u q=>by rw[yI (yJ q h)];exact q
end L2
namespace Rvl
open PySem PyProof.Rows
section
variable {prog:cQe}{w:cQm}{A:cQA}{E:bYS->bYV->Prop}{s:bYV}
end
end Rvl
namespace L2
open PySem PySem.Spec PyProof.Rows
section
variable {X:Cx}
end
end L2
namespace L2
open PySem PySem.Spec PyProof.Rows
def Q4{n:Nat}{h:List Nat}{e:TT}{k:TE}{σ:St}{D:Nat}{Q:VK}{H:Hp}(p:Nat->Bool)(f:Nat->V)(z:H D=none)(hz:n<=cQk) (w:∀i,i<n->∀ (c:Hp)(R:Bool->Hp->Prop),(∀b,b≠D->c b=H b)->R (p i) c->e (sub σ h (some (.int (i:Nat)))) c R) (x:∀i,i<n->p i=true->∀ (c:Hp)(R:VK),(∀b,b≠D->c b=H b)->R (f i) c->k (sub σ h (some (.int (i:Nat)))) c R) (s:Q (.ref D) (upd H D (.lst (((bY5 n).filter p).map f)))):bWi (Itr 0 n) h e k σ D Q (upd H D (.lst [])):=by
 refine⟨λi m j c=>m=n - i/\i<=n/\j=((bY5 i).filter p).map f/\c=upd H D (.lst j),⟨n,by simp,cQQ _,by simp,rfl⟩,?_⟩;rintro i m j c ⟨rfl,y,rfl,rfl⟩;refine⟨yB,?_⟩;by_cases a:i<n
 ·refine .inr ⟨a,λv A q=>?_⟩;obtain⟨t,o⟩:=q;subst t;subst o;rw[cX2];have g:∀b,b≠D->upd H D (.lst (((bY5 i).filter p).map f)) b=H b:=λb u=>yI u;have d:(((bY5 i).filter p).map f).length<cQk:=by
   rw[bYW];have r:=cQS p (bY5 i);rw[cQL]at r;omega
  refine w i a _ _ g ?_;cases l:p i with
  |false=>show ∃B,_;refine⟨n - (i+1),by omega,rfl,a,?_,rfl⟩;rw[cZi,cQ3,cXy (by rw[l];decide)];simp
  |true=>show k _ _ _;refine x i a l _ _ g ⟨d,yB,n - (i+1),by omega,rfl,a,?_,by rw[jE]⟩;rw[cZi,cQ3,cXz l];simp
 ·obtain rfl:i=n:=by omega
  exact .inl ⟨bYZ _,s⟩
end L2
namespace Stree
open PySem PySem.W PyProof.Rows
def Asks{α:Type}(n:Nat)(lt:Nat->Nat->Bool):KasT α->(α->Prop)->Prop
 |.ret a,Q=>Q a
 |.ask i j k,Q=>i<n/\j<n/\Asks n lt (k (lt i j)) Q
def Asks.bind{α β:Type}{n:Nat}{lt:Nat->Nat->Bool}{f:α->KasT β}{Q:β->Prop}:∀ {t:KasT α} {R:α->Prop},Asks n lt t R->(∀a,R a->Asks n lt (f a) Q)->Asks n lt (t.bind f) Q
 |.ret a,R,h,hf=>hf a h
 |.ask i j k,R,h,hf=>⟨h.1,h.2.1,Asks.bind (t:=k (lt i j)) h.2.2 hf⟩
def Asks.wp{α:Type}{n:Nat}{lt:Nat->Nat->Bool}{b:Nat->Nat->(Bool->bYV->Prop)->bYV->Prop}{s:bYV}{G:α->bYV->Prop}(c:∀i j C,i<n->j<n->C (lt i j) s->b i j C s):
  ∀ {t:KasT α} {R:α->Prop},Asks n lt t R->(∀a,R a->G a s)->t.kasWp b G s
 |.ret a,R,h,hf=>hf a h
 |.ask i j k,R,h,hf=>c i j _ h.1 h.2.1 (Asks.wp c (t:=k (lt i j)) h.2.2 hf)
section
variable {n:Nat}{r:Nat->Int}{p:Array Nat}
abbrev W6(r:Nat->Int):Nat->Nat->Bool:=λi j=>decide (r i<r j)
abbrev R(r:Nat->Int)(p:Array Nat)(k:Nat):Int:=r (p.getD k 0)
structure Ok(n:Nat)(p:Array Nat):Prop where
 perm:p.toList.Perm (bY5 n)
def Ok.size(h:Ok n p):p.size=n:=by have:=h.perm.length_eq;simpa using this
def Ok.lt(h:Ok n p)(h0:0<n)(k:Nat):p.getD k 0<n:=by
 by_cases a:k<p.size
 ·have:p.toList[k]'(by simpa using a)∈p.toList:=cXX _;have:=cQu.mp (h.perm.mem_iff.mp this);simpa[cZn,a]using this
 ·simpa[cZn,a]using h0
def Ok.ne(h:Ok n p){i j:Nat}(k:i<n)(f:j<n)(c:i≠j):p.getD i 0≠p.getD j 0:=by
 have g:=h.size;have d:p.toList.Nodup:=h.perm.nodup_iff.mpr cZ3;intro e;have a:i<p.size:=by omega
 have b:j<p.size:=by omega
 simp[cZn,a,b]at e;have:=(cXH (xs:=p.toList) (h₀:=by simpa using a) (h₁:=by simpa using b) d).mp (by simpa using e);exact c this
def Inj(n:Nat)(r:Nat->Int):Prop:=∀i j,i<n->j<n->r i=r j->i=j
def Ok.rne(h:Ok n p)(b:Inj n r){i j:Nat}(d:i<n)(c:j<n)(a:i≠j):R r p i≠R r p j:=λe=>
 h.ne d c a (b _ _ (h.lt (by omega) i) (h.lt (by omega) j) e)
def Srt(r:Nat->Int)(p:Array Nat)(k:Nat):Prop:=∀i j,i<j->j<k->R r p i<R r p j
def Dsc(r:Nat->Int)(p:Array Nat)(k:Nat):Prop:=∀i j,i<j->j<k->R r p j<R r p i
def Srt.one:Srt r p 1:=λi j a b=>by omega
def aXJ(p:Array Nat)(k:Nat):p.getD k 0=(p[k]?).getD 0:=by simp[cZn,cZk];split<;> simp_all
def aZm(h:Ok n p)(hr:Inj n r):∀ (f m:Nat),1<=m->m+f<=n->Srt r p m->Asks n (W6 r) (kas_asc p f m) (λm'=>m<=m'/\m'<=m+f/\Srt r p m'/\(m'<m+f->R r p m'<R r p (m' - 1)))
 |0,m,h1,h2,hs=>⟨bYZ _,bYZ _,hs,λz=>absurd z (by omega)⟩
 |f+1,m,h1,h2,hs=>by
  refine⟨h.lt (by omega) _,h.lt (by omega) _,?_⟩
  by_cases c:r (p.getD m 0)<r (p.getD (m - 1) 0)
  ·have e:W6 r (p.getD m 0) (p.getD (m - 1) 0)=true:=decide_eq_true c
   rw[e];show Asks n (W6 r) (ite _ _ _) _;rw[if_pos rfl]
   exact⟨bYZ _,by omega,hs,λ_=>c⟩
  ·have e:W6 r (p.getD m 0) (p.getD (m - 1) 0)=false:=decide_eq_false c
   rw[e];show Asks n (W6 r) (ite _ _ _) _;rw[if_neg (by decide)]
   have hne:=h.rne hr (i:=m) (j:=m - 1) (by omega) (by omega) (by omega)
   have hlt:R r p (m - 1)<R r p m:=by
    have:¬R r p m<R r p (m - 1):=c
    omega
   have hs':Srt r p (m+1):=λi j hij hj=>by
    by_cases hjm:j<m
    ·exact hs i j hij hjm
    ·have:j=m:=by omega
     subst this
     by_cases hi:i=j - 1
     ·rw[hi];exact hlt
     ·have:=hs i (j - 1) (by omega) (by omega);omega
   have z:=aZm h hr f (m+1) (by omega) (by omega) hs'
   have e2:m+1+f=m+(f+1):=by omega
   rw[e2]at z
   exact Asks.mono z λm' ⟨a,b,c,d⟩=>⟨by omega,b,c,d⟩
where
 Asks.mono {α:Type} {n:Nat} {lt:Nat->Nat->Bool} {Q Q':α->Prop}:∀ {t:KasT α},Asks n lt t Q->(∀a,Q a->Q' a)->Asks n lt t Q'
  |.ret a,h,hf=>hf a h
  |.ask i j k,h,hf=>⟨h.1,h.2.1,Asks.mono (t:=k (lt i j)) h.2.2 hf⟩
def aK2(h:Ok n p)(q:Inj n r):∀ (f m:Nat),1<=m->m+f<=n->Dsc r p m->Asks n (W6 r) (kas_desc f p m 0) (λz=>z.1=p/\z.2.2=0/\m<=z.2.1/\z.2.1<=m+f/\Dsc r p z.2.1)
 |0,m,h1,h2,hs=>⟨rfl,rfl,bYZ _,bYZ _,hs⟩
 |f+1,m,h1,h2,hs=>by
  refine⟨h.lt (by omega) _,h.lt (by omega) _,?_⟩;by_cases c:r (p.getD m 0)<r (p.getD (m - 1) 0)
  ·have e:W6 r (p.getD m 0) (p.getD (m - 1) 0)=true:=decide_eq_true c;rw[e];show Asks n (W6 r) (ite _ _ _) _;rw[if_pos rfl,if_neg (by omega)];have l:Dsc r p (m+1):=λi j k w=>by
    by_cases g:j<m
    ·exact hs i j k g
    ·have:j=m:=by omega
     subst this;have u:R r p j<R r p (j - 1):=c;by_cases v:i=j - 1
     ·rw[v];exact u
     ·have:=hs i (j - 1) (by omega) (by omega);omega
   have z:=aK2 h q f (m+1) (by omega) (by omega) l;have s:m+1+f=m+(f+1):=by omega
   rw[s]at z;exact aZm.Asks.mono z λz ⟨a,b,c,d,e⟩=>⟨a,b,by omega,d,e⟩
  ·have e:W6 r (p.getD m 0) (p.getD (m - 1) 0)=false:=decide_eq_false c;rw[e];show Asks n (W6 r) (ite _ _ _) _;rw[if_neg (by decide)];refine⟨h.lt (by omega) _,h.lt (by omega) _,?_⟩;have t:=h.rne q (i:=m) (j:=m - 1) (by omega) (by omega) (by omega);have o:R r p (m - 1)<R r p m:=by
    have:¬R r p m<R r p (m - 1):=c;omega
   have e:W6 r (p.getD (m - 1) 0) (p.getD m 0)=true:=decide_eq_true o;rw[e];show Asks n (W6 r) (ite _ _ _) _;rw[if_pos rfl];exact⟨rfl,rfl,bYZ _,Nat.le_add_right _ _,hs⟩
def bWt{m:Nat}(b:m<=p.size)(k:Nat)(a:k<m):R r (kas_rev p 0 m) k=R r p (m - 1 - k):=by
 unfold R kas_rev;rw[aXJ,aXJ,getElem?_mirror_all b,if_pos ⟨cQQ _,a⟩,Nat.zero_add]
def bJn(h:Ok n p)(m:Nat):Ok n (kas_rev p 0 m):=⟨(cJ3.mp (mirror_perm p 0 m _)).trans h.perm⟩
def bZS(h:Ok n p)(f:Inj n r){m:Nat}(o:1<=m)(e:m<=n)(k:Dsc r p m):Asks n (W6 r) (kas_tail3 m n p) (λz=>1<=z.1/\z.1<=n/\Ok n z.2/\Srt r z.2 z.1):=by
 have d:Srt r (kas_rev p 0 m) m:=λi j l g=>by rw[bWt (by rw[h.size];exact e) i (by omega),bWt (by rw[h.size];exact e) j g];exact k _ _ (by omega) (by omega)
 refine Asks.bind (aZm (bJn h m) f (n - m) m o (by omega) d) λm' ⟨a,b,c,_⟩=>?_;exact⟨by omega,by omega,bJn h m,c⟩
def bXb(h:Ok n p)(f:Inj n r)(y:1<=n):Asks n (W6 r) (kas_count n p) (λz=>1<=z.1/\z.1<=n/\Ok n z.2/\Srt r z.2 z.1):=by
 refine Asks.bind (aZm h f (n - 1) 1 (bYZ _) (by omega) Srt.one) λm ⟨a,b,c,d⟩=>?_;by_cases e:m=n
 ·rw[if_pos (by simpa using e)];exact⟨a,by omega,h,c⟩
 ·rw[if_neg (by simpa using e)];by_cases l:m > 1
  ·rw[if_pos l];refine⟨h.lt (by omega) _,h.lt (by omega) _,?_⟩;have g:R r p 0<R r p (m - 1):=c 0 (m - 1) (by omega) (by omega);have s:W6 r (p.getD 0 0) (p.getD (m - 1) 0)=true:=decide_eq_true g;rw[s];show Asks n (W6 r) (ite _ _ _) _;rw[if_pos rfl];exact⟨a,by omega,h,c⟩
  ·rw[if_neg l];have x:m=1:=by omega
   subst x;have v:=d (by omega);refine Asks.bind (aK2 h f (n - 2) 2 (by omega) (by omega) ?_) λz ⟨z1,z2,z3,z4,z5⟩=>?_
   ·intro i j u k;have w:i=0:=by omega
    have k:j=1:=by omega
    subst w;subst k;exact v
   ·obtain⟨q,o,t⟩:=z;simp only at z1 z2 z3 z4 z5;subst z1;subst z2;rw[if_neg (by simp)];exact bZS h f (by show 1<=o;omega) (by show o<=n;omega) z5
def aXR(h:Ok n p)(o:Inj n r){k:Nat}(s:k<n)(b:Srt r p k):∀ (f l u:Nat),l<=u->u<=k->u - l<=f->(∀i,i<l->R r p i<R r p k)->(∀i,u<=i->i<k->R r p k<R r p i)->
  Asks n (W6 r) (kas_place p k f l u) (λm=>m<=k/\(∀i,i<m->R r p i<R r p k)/\∀i,m<=i->i<k->R r p k<R r p i)
 |0,l,u,h1,h2,h3,h4,h5=>⟨by omega,h4,λi g a=>h5 i (by omega) a⟩
 |f+1,l,u,h1,h2,h3,h4,h5=>by
  unfold kas_place;by_cases c:l≥u
  ·rw[if_pos c];exact⟨by omega,h4,λi g a=>h5 i (by omega) a⟩
  ·rw[if_neg c];refine⟨h.lt (by omega) _,h.lt (by omega) _,?_⟩;have w:(l+u) / 2<u:=by omega
   have hl:l<=(l+u) / 2:=by omega
   by_cases d:r (p.getD k 0)<r (p.getD ((l+u) / 2) 0)
   ·have e:W6 r (p.getD k 0) (p.getD ((l+u) / 2) 0)=true:=decide_eq_true d;rw[e];show Asks n (W6 r) (ite _ _ _) _;rw[if_pos rfl];refine aXR h o s b f l _ hl (by omega) (by omega) h4 λi g a=>?_;have t:R r p k<R r p ((l+u) / 2):=d;by_cases q:i=(l+u) / 2
    ·rw[q];exact t
    ·have:=b ((l+u) / 2) i (by omega) a;omega
   ·have e:W6 r (p.getD k 0) (p.getD ((l+u) / 2) 0)=false:=decide_eq_false d;rw[e];show Asks n (W6 r) (ite _ _ _) _;rw[if_neg (by decide)];have t:¬R r p k<R r p ((l+u) / 2):=d;have v:=h.rne o (i:=k) (j:=(l+u) / 2) (by omega) (by omega) (by omega);refine aXR h o s b f _ u (by omega) h2 (by omega) (λi g=>?_) h5;by_cases q:i=(l+u) / 2
    ·rw[q];omega
    ·have:=b i ((l+u) / 2) (by omega) (by omega);omega
def bWs{k l:Nat}(h:k<p.size)(hl:l<=k)(i:Nat):R r (bubble p k (k - l)) i=if i=l then R r p k else if l<i/\i<=k then R r p (i - 1)else R r p i:=by
 have e:=getElem?_bubble h (k - l) (by omega) i;rw[show k - (k - l)=l by omega]at e;have d:∀q:Array Nat,∀a b:Nat,∀c:Array Nat,q[a]? =c[b]? ->R r q a=R r c b:=λq a b c z=>by unfold R;rw[aXJ,aXJ,z]
 by_cases g:i=l
 ·rw[if_pos g]at e ⊢;exact d _ _ _ _ e
 ·rw[if_neg g]at e ⊢;by_cases f:l<i/\i<=k
  ·rw[if_pos f]at e ⊢;exact d _ _ _ _ e
  ·rw[if_neg f]at e ⊢;exact d _ _ _ _ e
def bZ7(d:Inj n r):∀ (f k:Nat)(p:Array Nat),Ok n p->k+f=n->Srt r p k->Asks n (W6 r) (kas_bin f p k) (λq=>Ok n q/\Srt r q n)
 |0,k,p,h,e,hs=>⟨h,by rw[<- e];exact hs⟩
 |f+1,k,p,h,e,hs=>by
  refine Asks.bind (aXR h d (k:=k) (by omega) hs k 0 k (by omega) (bYZ _) (by omega) (λi o=>absurd o (by omega)) (λi o b=>absurd b (by omega))) λl ⟨h1,h2,h3⟩=>?_;refine bZ7 d f (k+1) _ ⟨(cJ3.mp (bubble_perm p k _)).trans h.perm⟩ (by omega) λi j t u=>?_;have c:k<p.size:=by rw[h.size];omega
  rw[bWs c h1,bWs c h1];by_cases s:i=l
  ·rw[if_pos s];by_cases a:j=l
   ·omega
   ·rw[if_neg a,if_pos ⟨by omega,by omega⟩];exact h3 _ (by omega) (by omega)
  ·rw[if_neg s];by_cases a:j=l
   ·rw[if_pos a,if_neg (by omega)];exact h2 i (by omega)
   ·rw[if_neg a];by_cases g:l<i/\i<=k
    ·rw[if_pos g,if_pos ⟨by omega,by omega⟩];exact hs _ _ (by omega) (by omega)
    ·rw[if_neg g];by_cases m:l<j/\j<=k
     ·rw[if_pos m];by_cases cl:i=j - 1
      ·omega
      ·exact hs _ _ (by omega) (by omega)
     ·rw[if_neg m];exact hs _ _ (by omega) (by omega)
def bV4(a:Inj n r)(b:1<=n):Asks n (W6 r) (kas_sort n) (λp=>Ok n p/\Srt r p n):=by
 have h0:Ok n (cQ1 (bY5 n)):=⟨by simp⟩;refine Asks.bind (bXb h0 a b) λz ⟨h1,h2,h3,h4⟩=>?_;by_cases c:z.1<n
 ·rw[if_pos c,Nat.max_eq_left h1];exact bZ7 a _ _ _ h3 (by omega) h4
 ·rw[if_neg c];exact⟨h3,by rw[show n=z.1 by omega];exact h4⟩
def aJa(e:Inj n r)(d:1<=n):Asks n (W6 r) (kas_sort n) (λp=>p.toList.Perm (bY5 n)/\p.toList.Pairwise (λi j=>r i<r j)):=by
 refine aZm.Asks.mono (bV4 e d) λp ⟨h1,h2⟩=>⟨h1.perm,?_⟩;rw[cZo];intro i j g f c;have b:i<p.size:=by simpa using g
 have a:j<p.size:=by simpa using f
 have z:=h2 i j c (by rw[<- h1.size];exact a);simpa[R,cZn,b,a]using z
end
end Stree
namespace Stree
open PySem PySem.W PySem.Calls PyProof.Rows
section
variable {prog:cQe}{w:cQm}{A:cQA}{E:bYS->bYV->Prop}
def aZy{f:bYS}{vs:List bYS}{kS:Nat}{J:List bYS->bYV->Prop}{body:bYS->PUnit->Sem (ForInStep PUnit)}
  (e:∀a s v,J a s->vs[a.length]? =some v->bY0 (bY2 prog w) A (body v ⟨⟩) (λr b=>r= .yield ⟨⟩/\∃k,J (a++ [k]) b) E s):
  ∀ (r a:List bYS)(s:bYV),vs.drop a.length=r->a.length<=vs.length->J a s->bY0 (bY2 prog w) A (forIn r PUnit.unit body) (λ_ b=>∃a,a.length=vs.length/\J a b) E s
 |[],a,s,hr,hle,hJ=>by rw[List.forIn_nil];refine bYY ⟨a,?_,hJ⟩;have:=congrArg cX0 hr;rw[List.length_drop]at this;simp at this;omega
 |v::r,a,s,hr,hle,hJ=>by
  rw[cJD];have d:vs[a.length]? =some v:=by have:=congrArg (λl=>l[0]?) hr;simpa using this
  have g:a.length<vs.length:=by
   rcases cZU a.length vs.length with h|h
   ·exact h
   ·rw[cQs h]at d;cases d
  refine bYU (cQW (e a s v hJ d) (λq b i=>?_) λ_ _ x=>x);obtain⟨rfl,k,c⟩:=i;show bY0 (bY2 prog w) A (forIn r PUnit.unit body) _ E b;refine aZy (kS:=kS) (f:=f) e r (a++ [k]) b ?_ (by rw[cQf,cQ5];omega) c;rw[cQf,cQ5,List.drop_add_one_eq_tail_drop,hr];rfl
def bKk{s:bYV}{a:Nat}{vs:List bYS}{f:bYS}{b:Bool}{P:PySem.Fin->bYV->Prop}{n0:Nat}(W:s.heap.get? a=some (cQI AB vs.toArray n0))(a8:vs.length<64)(J:Nat->List bYS->bYV->Prop) (h0:∀n q,(∀c o,c≠a->s.heap.get? c=some o->q.get? c=some o)->q.get? a=some (cQI AB #[] n)->q.get? (s.heap.objs.size+1)=some (cQI AB #[] 0)->J n [] {s with heap:=q}) (hget:∀n g l,J n g l->(∃e,l.heap.get? (s.heap.objs.size+1)=some (cQI AB g.toArray e))/\l.heap.get? a=some (cQI AB #[] n)) (hcall:∀n g l v,J n g l->vs[g.length]? =some v->bY0 (bY2 prog w) A (call f [v]) (λk m=>(∃e,m.heap.get? (s.heap.objs.size+1)=some (cQI AB g.toArray e))/\ ∀q c,cXW (s.heap.objs.size+1) m.heap q->q.get? (s.heap.objs.size+1)=some (cQI AB (g++ [k]).toArray c)->J n (g++ [k]) {m with heap:=q}) (λ_ _=>False) l) (hend:∀n g l,J n g l->g.length=vs.length->∃r:Nat->Int,Inj vs.length r/\ (2<=vs.length->∃κ,(∀Q:SortKind->bYV->Prop,Q κ l->bY0 (bY2 prog w) A (keyKind' g.toArray) Q (λ_ _=>False) l)/\∀i j C,i<vs.length->j<vs.length->C (decide (r i<r j)) l->kas_ask prog w A κ (katRev b g) i j C l)/\ ∀ (p:List Nat) q c z,p.Perm (bY5 vs.length)->p.Pairwise (λi j=>r i<r j)->(∀d,d≠a->d≠s.heap.objs.size+1->q.get? d=l.heap.get? d)->q.get? (s.heap.objs.size+1)=some (cQI AB #[] c)-> q.get? a=some (cQI AB (katRev b (p.map λi=>(katRev b vs).getD i Value.none)).toArray z)->P (.done (.ret .none)) {l with heap:=q}): bY0 (bY2 prog w) A (ksk_tree a f b) P E s:=by
 have ha:a<s.heap.objs.size:=bY6 W;have R:a≠s.heap.objs.size+1:=cQj (cQ2 ha);obtain⟨n,O⟩:∃n,(s.heap.update a (cQM λ_=>(#[]:Array bYS))).get? a=some (cQI AB #[] n):=⟨_,cZK W λ_=> #[]⟩;have T:((s.heap.update a (cQM λ_=>(#[]:Array bYS))).push (cQI AD vs.toArray 0)).objs.size=s.heap.objs.size+1:=by rw[size_push',Heap.size_update]
 unfold ksk_tree;refine bYU (listItems_at W rfl ?_);refine bYU (cZ8 W rfl ?_ (by rw[cQb,cQr];omega) (cQQ _));refine bYU (seqEpoch_at O rfl ?_);refine bYU (wpAny_newTuple ?_ (by show vs.length<=_;rw[cQr];omega));refine bYU (cJb ?_ (cQQ _));refine cXd ?_;have J0:=h0 n (((s.heap.update a (cQM λ_=>(#[]:Array bYS))).push (cQI AD vs.toArray 0)).push (cQI AB #[] 0))
  (λc o hc e=>bYX _ (bYX _ ((cQx _ _ (cQB hc)).trans e)))
  (bYX _ (bYX _ O)) (by rw[<- T];exact cQn _ rfl)
 show bY0 _ _ (ksk_rest a f b vs.toArray n (.ref ((s.heap.update a (cQM λ_=>(#[]:Array bYS))).push (cQI AD vs.toArray 0)).objs.size)) _ _ _;rw[T];unfold ksk_rest;refine bYU (wpAny_rule ?_);first
  |rw[List.forIn_toArray]
  |(rw[<- Array.forIn_toList];simp only[cJP])
  |rw[<- Array.forIn_toList]
 refine bYU (cQW (aZy (f:=f) (kS:=s.heap.objs.size+1) (J:=J n) (vs:=vs) (λg l v Z hv=>?_) vs [] _ (by simp) (cQQ _) J0) (λ_ l hd=>?_) λ_ _ x=>x)
 ·have b1:g.length<vs.length:=by
   rcases cZU g.length vs.length with h|h
   ·exact h
   ·rw[cQs h]at hv;cases hv
  refine bYU (cJa (cQW (hcall n g l v Z hv) (λk m hk=>?_) λ_ _ hF=>hF.elim));obtain⟨⟨e,nk⟩,c⟩:=hk;have s1:=cXm m.heap (s.heap.objs.size+1) (cQM (·.push k));have ea:(cQ1 g).push k=cQ1 (g++ [k]):=by simp
  obtain⟨z,K⟩:∃z,(m.heap.update (s.heap.objs.size+1) (cQM (·.push k))).get? (s.heap.objs.size+1)=some (cQI AB (cQ1 (g++ [k])) z):=⟨_,by rw[<- ea];exact cZK nk (·.push k)⟩;try dsimp only
  refine bYU (cZ8 nk rfl ?_ (by rw[cQb,cQr];omega) (cQv (cZu (Array.size_push ..)) (by rw[cQb,cQr];omega)));exact bYY ⟨rfl,k,c _ z s1 K⟩
 ·obtain⟨g,hl,Z⟩:=hd;obtain⟨⟨e,G⟩,a6⟩:=hget n g l Z;try dsimp only
  refine bYU (listItems_at G rfl ?_);obtain⟨r,hr,S,V⟩:=hend n g l Z hl;have step:∀t:Sem PySem.Fin,bY0 (bY2 prog w) A t P E l->bY0 (bY2 prog w) A (if b=true then(do let _ <- rule "list.sort.reverse";t)else t) P E l:=by
   intro t ht;split
   ·exact bYU (wpAny_rule ht)
   ·exact ht
  have I:(katRev b g).length=(katRev b vs).length:=by rw[kat_len,kat_len,hl]
  have D:∀ (X:SortSt)(p:List Nat),p.Perm (bY5 vs.length)->p.Pairwise (λi j=>r i<r j)->(arrOf X).map (·.2)=cQ1 (p.map λi=>(katRev b vs).getD i Value.none)->failedOf X=none->
    bY0 (bY2 prog w) A (ksk_tail a b n (.ref (s.heap.objs.size+1)) X) P E l:=by
   intro X p u F M hf
   have a7:p.length=vs.length:=by rw[u.length_eq,cQL]
   obtain⟨ck,a5⟩:∃ck,(l.heap.update (s.heap.objs.size+1) (cQM λ_=>(#[]:Array bYS))).get? (s.heap.objs.size+1)=some (cQI AB #[] ck):=⟨_,cZK G λ_=> #[]⟩
   have na:(l.heap.update (s.heap.objs.size+1) (cQM λ_=>(#[]:Array bYS))).get? a=some (cQI AB #[] n):=(cQx _ _ (cQB R)).trans a6
   obtain⟨z,K⟩:∃z,((l.heap.update (s.heap.objs.size+1) (cQM λ_=>(#[]:Array bYS))).update a (cQM λ_=>cQ1 (katRev b (p.map λi=>(katRev b vs).getD i Value.none)))).get? a=some (cQI AB (cQ1 (katRev b (p.map λi=>(katRev b vs).getD i Value.none))) z):=
    ⟨_,cZK na λ_=>cQ1 (katRev b (p.map λi=>(katRev b vs).getD i Value.none))⟩
   have b0:(cQ1 (katRev b (p.map λi=>(katRev b vs).getD i Value.none))).size=vs.length:=by rw[cQb,kat_len,bYW,a7]
   unfold ksk_tail
   try dsimp only
   rw[M,kat_outs]
   refine bYU (cZ8 G rfl ?_ (by rw[cQb,cQr];omega) (cQQ _))
   refine bYU (wpAny_letGo ?_)
   refine bYU (seqEpoch_at na rfl ?_)
   refine bYU (cZ8 na rfl ?_ (cQQ _) (cQv (cZu b0) (by rw[cQr];omega)))
   rw[hf]
   simp only[bne_self_eq_false,Bool.false_eq_true,if_false]
   refine bYY (V p _ ck z u F (λd h1 y=>?_) ?_ K)
   ·exact(cQx _ _ (cQB h1)).trans (cQx _ _ (cQB y))
   ·exact(cQx _ _ R).trans a5
  unfold ksk_end;try dsimp only
  refine step _ ?_;rw[kat_pairs b hl];by_cases y:vs.toArray.size<2
  ·rw[if_pos y,if_pos y];refine bYU (bYY ?_);refine bYU (bYY ?_);have L:vs.length<2:=by rw[cQb]at y;exact y
   refine D _ (bY5 vs.length) (List.Perm.refl _) ?_ ?_ rfl
   ·rw[cZo];intro i j Y hj b2;rw[cQL]at Y hj;omega
   ·show((cQ1 (katRev b g)).zip (cQ1 (katRev b vs))).map (·.2)=_;apply Array.toList_inj.mp;rw[Array.toList_map,Array.toList_zip];simp only[cJP];have n:(cJh (katRev b g) (katRev b vs)).map (·.2)=katRev b vs:=List.map_snd_zip (cZu I.symm);rw[n];apply cZa;intro i;rw[cQc];by_cases Y:i<vs.length
    ·have H:i<(katRev b vs).length:=by rw[kat_len];exact Y
     rw[cXV Y];simp[cQC,bYR H]
    ·have H:(katRev b vs).length<=i:=by rw[kat_len];omega
     rw[cQs H,cQs (by rw[cQL];omega)];rfl
  ·have L:2<=vs.length:=by rw[cQb]at y;omega
   rw[if_neg y,if_neg y];obtain⟨κ,hκ,N⟩:=S L;refine bYU (cQW (hκ (λk m=>k=κ/\m=l) ⟨rfl,rfl⟩) (λk m hq=>?_) λ_ _ x=>x.elim);obtain⟨rfl,rfl⟩:=hq;have a9:(kas_sort (katRev b vs).length).kasWp (kas_ask prog w A k (katRev b g)) (λp U=>U=m/\p.toList.Perm (bY5 vs.length)/\p.toList.Pairwise (λi j=>r i<r j)) m:=by rw[kat_len];exact Asks.wp (lt:=W6 r) N (aJa hr (by omega)) λp hp=>⟨rfl,hp⟩
   refine bYU (cQW (kat_run (Q:=λB U=>∃p:Array Nat,arrOf B=p.map (kas_item ((cQ1 (katRev b g)).zip (cQ1 (katRev b vs))))/\failedOf B=none/\
     U=m/\p.toList.Perm (bY5 vs.length)/\p.toList.Pairwise (λi j=>r i<r j))
    I (by rw[kat_len];exact L) (by rw[kat_len];exact a8) (λp' B U a1 a2 a3 a4=>⟨p',a2,a3,a4⟩) a9) ?_ λ_ _ x=>x)
   rintro⟨⟨⟩,B⟩ U ⟨p,a0,hf,rfl,u,F⟩;try dsimp only
   exact D _ p.toList u F (kat_snds I a0) hf
end
end Stree
namespace L2
open PySem PySem.Spec PyProof.Rows
abbrev bKC(X:Cx)(A:cQA)(N:List Str)(qual:Str)(sc:cX8)(L q:Nat)(cd:bYS)(cl:List (Str×Nat))(s:bYV)(H:Hp):Cx:=
 {X with A:=A.deeper (PySem.W.envX qual sc L q cd cl),N:=N,s₀:=s,H₀:=H,env:=PySem.W.envX qual sc L q cd cl,outer:=X.stack,stack:=PySem.W.envX qual sc L q cd cl::X.stack,ex:= [],fn:=λ_=>false,calm:=true,pn:= [],xe:=λ_ _=>False}
section
variable {X:Cx}{pins:List (Nat×Obj)}{σ:St}{H:Hp}{s:bYV}
def bXt{A:cQA}{x:Str}{names:List Str}{M:List Nat}{f:cX8}{cl:List (Str×Nat)}{name qual:Str}{d:Arguments}{body:Expr}{pm O:bYS}{q t:Nat}{te:TE}{v:V}{u:bYS}{Q:VK} (I:Inv X pins σ H s) (hA:A.frames=some X.stack) (hd:A.handled=none) (K:A.depth<recursionLimit) (S:xN X.N X.env.scope x names M f) (a3:f.isCoroutine=false) (P:f.isGenerator=false) (a:∀y c,cl.lookup y=some c->X.env.cells.lookup y=some c) (B:∀y,(y,NameKind.free)∈f.names->∃c,cl.lookup y=some c) (ho:s.heap.get? q=some (cX7 name qual d body f cl pm t O)) (a5:s.heap.CodeRec (.ref t) qual) (G:∀u:bYS,cZA (PySem.W.kla_fn name qual d body f cl pm (.ref t) O) ⟨[u],[]⟩=pure [(x,u)]) (he:∀A L cd s H,PE (bKC X A (x::names) qual f L q cd cl s H) body te) (r:zO v u) (h:te (sub σ M (some v)) H Q): bY0 (bY2 X.prog X.w) A (call (.ref q) [u]) (EP X pins σ Q) (λ_ _=>False) s:=by
 have a0:cZb (bY2 X.prog X.w) A (.call (.ref q) ⟨[u],[]⟩) (λr s'=>match r with|.ok (.ret u)=>EP X pins σ Q u s'|_=>False) s:=by
  refine PySem.W.kla_callFunE K ho rfl a3 P rfl a5 ?_;rw[G u];refine bYY (wpAny_newFunctionEnv S.nocell (λy hy=>by rw[bY9.mp hy];exact S.var) (λC a2 a4=>?_) S.kind);have keep:∀b o,s.heap.get? b=some o->C.get? b=some o:=λb o e=>a4.extBut b o (cQj (bY6 e)) (bYX _ e);refine⟨I.nolimit.keeps keep,?_⟩;show cZb _ _ (.expr body (PySem.W.envX qual f s.heap.objs.size q (.ref t) cl)) _ _;have a1:(bKC X A (x::names) qual f s.heap.objs.size q (.ref t) cl s H).Ok:=by
   refine⟨I.ok.mod,S.kind,rfl,rfl,bYZ _,?_,?_,?_,λ_=>hd,Around.frames_deeper hA,.inr ⟨rfl,rfl⟩,?_,I.bs,cQv I.ok.bsz I.sz,?_,?_,I.stack,I.stkFree⟩
   ·exact λy z c Y T=>I.ok.inj y z c (a y c Y) (a z c T)
   ·intro y hy;have g:f.names.lookup y=some .cell\/f.names.lookup y=some .free:=hy;rcases g with g|g
    ·exact absurd rfl (S.nocell _ (cXn g))
    ·exact B y (cXn g)
   ·exact λy c h _=>by cases h
   ·exact λb G=>absurd (show b∈([]:List Nat)from G) (by simp)
   ·exact λb o _ G=>absurd (show b∈([]:List Nat)from G) (by simp)
   ·exact λb G=>absurd (show b∈([]:List Nat)from G) (by simp)
  have IY:Inv (bKC X A (x::names) qual f s.heap.objs.size q (.ref t) cl s H) [] (sub σ M (some v)) H {s with heap:=C,toks:=s.toks+ [(x,u)].length}:=by
   refine⟨a1,rfl,I.bare,Un.kept keep,⟨_,a2,?_⟩,?_,I.hok.fresh (bYZ _),λy c e=>I.freeC y c (a y c e),λp hp=>absurd (show p∈([]:List (Nat×Obj))from hp) (by simp),I.hok.kept keep,?_⟩
   ·intro i y n Y T h3;cases i with
    |zero=>
     have D:x=y:=by simpa using Y
     have E:v=n:=by have z:(some (some v):Option (Option V))=some (some n):=T;cases z;rfl
     subst D;subst E;exact⟨u,r,.inl ⟨S.var,by simp[cZd]⟩⟩
    |succ j=>
     have D:names[j]? =some y:=Y;obtain⟨Z,e1,e2,U⟩:=S.from_ j y D;have E:σ[Z]? =some (some n):=by
      have z:(M.map λi=>(σ[i]?).join)[j]? =some (some n):=T;rw[cQc,e1]at z;have l:(σ[Z]?).join=some n:=cQd z;cases q:σ[Z]? with
      |none=>rw[q]at l;cases l
      |some o=>rw[q]at l;rw[show o=some n from l]
     obtain⟨m,hn,hl⟩:=I.loc;have R:Vis X.env.scope y:= .inr (S.free _ U rfl);obtain⟨u',ru,lk⟩:=hl Z y n e2 E R;refine⟨u',ru,.inr ⟨?_,?_⟩⟩
     ·exact .inr (S.flk _ U rfl)
     ·rcases lk with⟨k,_⟩|⟨k,c,e,z⟩
      ·rcases S.free _ U rfl with z|z
       ·have l:X.env.kindOf y=some .cell:=z;rw[k]at l;cases l
       ·have l:X.env.kindOf y=some .free:=z;rw[k]at l;cases l
      ·obtain⟨t,e'⟩:=B y U;have:=a y t e';rw[e]at this;cases this;exact⟨c,e',z.keeps keep⟩
   ·intro y c e;obtain⟨v,z⟩:=I.cell y c (a y c e);exact⟨v,z.keeps keep⟩
   ·show(sub σ M (some v)).length=(x::names).length;simp[sub,S.len]
  refine PySem.W.kla_codeExpr (cQW (he A s.heap.objs.size (.ref t) s H [] _ (sub σ M (some v)) H Q IY h) (λw s' F=>?_) (λ_ _ z=>z.elim));obtain⟨n,H',J,rv,q⟩:=F;exact I.after ⟨n,H',J.os,J.bare,J.base,J.hok,rv,q⟩
 refine cZ5 (cXL a0 λr s' F=>?_);cases r with
 |error e=>exact F
 |ok fl=>
  cases fl with
  |ret u=>exact F
  |next=>exact F
  |brk=>exact F
  |cont=>exact F
end
end L2
namespace L2
open PySem PySem.Spec PyProof.Rows
def aKU(c:Nat)(qual:Str):HO:= .ext λh=>h.CodeRec (.ref c) qual
def bWS(q:Nat)(o:Obj):HO:= .ext λh=>h.get? q=some o
def bXa{P:cQe}{w:cQm}{H:Hp}{h:Heap}{c:Nat}{qual:Str}(r:h.CodeRec (.ref c) qual):zH P w H h c (aKU c qual):=by
 obtain⟨s,o,q,t,e,b,l,p⟩:=id r;cases e;refine⟨r,⟨o,b⟩,λb l z k=>?_⟩;obtain⟨n,f,a,i,d,m,j,g⟩:=z;cases d;exact⟨_,f,a,i,rfl,k _ m,j,g⟩
def aYA{P:cQe}{w:cQm}{H:Hp}{h:Heap}{q:Nat}{o:Obj}(r:h.get? q=some o):zH P w H h q (bWS q o):=⟨r,⟨o,r⟩,λb a z k=>k _ z⟩
def X0(pos:Pos)(qual:Str)(P:Nat)(H:Hp):Prop:=
 H P=some (.tbl #[])\/∃a,H P=some (.tbl (#[]++ #[cXa pos.line,cXa pos.col,.ref a]))/\H a=some (aKU a qual)
def x3(H c:Hp):Prop:=∀b o,(∀a,o≠ .tbl a)->H b=some o->c b=some o
def xC.t{H a:Hp}(k:xC H a):x3 H a:=λb o _ e=>k b o e
def x3.refl(H:Hp):x3 H H:=λ_ _ _ e=>e
def x3.trans{H f d:Hp}(a:x3 H f)(b:x3 f d):x3 H d:=λc o n e=>b c o n (a c o n e)
def x3.lst{H b:Hp}(k:x3 H b){a:Nat}{xs:List V}(h:H a=some (.lst xs)):b a=some (.lst xs):=k a _ (λ_ z=>nomatch z) h
def x3.tup{H b:Hp}(k:x3 H b){a:Nat}{xs:List V}(h:H a=some (.tup xs)):b a=some (.tup xs):=k a _ (λ_ z=>nomatch z) h
def x3.ext{H b:Hp}(k:x3 H b){a:Nat}{φ:Heap->Prop}(h:H a=some (.ext φ)):b a=some (.ext φ):=k a _ (λ_ z=>nomatch z) h
def x3.seq{K:bYT}{H b:Hp}{a:Nat}{xs:List V}(k:x3 H b)(h:SqL K H a xs):SqL K b a xs:=by
 rcases h with h|h
 ·rcases h with h|⟨o,h⟩
  ·exact .inl (.inl (k.lst h))
  ·exact .inl (.inr ⟨o,k a _ (λ_ z=>nomatch z) h⟩)
 ·exact .inr h
def aVx:PySem.TriplesOk (#[]:Array bYS).toList:=trivial
def aVy{a b:Int}{v:bYS}:PySem.TriplesOk ((#[]++ #[cXa a,cXa b,v]:Array bYS)).toList:=trivial
def aKN{pos:Pos}{v:bYS}:codeAmong pos ((#[]++ #[cXa pos.line,cXa pos.col,v]:Array bYS)).toList=some v:=by
 show(if((pos.line:Int)==pos.line && (pos.col:Int)==pos.col)=true then some v else _)=some v;simp
section
variable {X:Cx}{pins:List (Nat×Obj)}{σ:St}{H:Hp}{s:bYV}
def Inv.tab{P:Nat}{d more:Array bYS}{h':Heap}{t':Nat}(I:Inv X pins σ H s)(g:H P=some (.tbl d))(f:cJs P s.heap h')(j:h'.get? P=some {cls:= .none,data:= .fields (d++more) }): Inv X pins σ (upd H P (.tbl (d++more))) {s with heap:=h',toks:=t'}:=by
 have h:∀b,H b=none->b≠P:=λb n z=>by rw[z,g]at n;cases n
 have ne:∀b o,H b=some o->(∀d,o≠ .tbl d)->b≠P:=λb o e n z=>by subst z;rw[g]at e;cases e;exact n _ rfl
 refine I.un (t':=t') ⟨λb o e n _ _=>f b o (h b n) e,λb o e n _ _=>⟨o.slots,f b o (h b n) e⟩,λb o e n _=>by rw[yI (h b n)];exact n,λb o e _=>?_,λb k e=>?_,λb o u e=>?_,λb l e=>?_⟩ λb u e=>?_
 ·by_cases a:b=P
  ·exact⟨_,by rw[a];exact j⟩
  ·exact⟨o,f b o a e⟩
 ·rw[yI (ne b _ e λ_ z=>nomatch z)];exact e
 ·rw[yI (ne b _ e λ_ z=>nomatch z)];exact e
 ·by_cases a:b=P
  ·subst a;rw[g]at e;cases e;exact⟨more,yB⟩
  ·exact⟨#[],by rw[yI a,e];simp⟩
 ·by_cases a:b=P
  ·subst a;rw[yB]at e;cases e;exact j
  ·rw[yI a]at e;refine(I.hok b u e).stay (λc v i q=>f c v ?_ q) (λc q=>?_) λc k q=>?_
   ·rcases i with rfl|i
    ·exact a
    ·exact ne c _ i λ_ z=>nomatch z
   ·rw[yI (ne c _ q λ_ z=>nomatch z)];exact q
   ·rw[yI (ne c _ q λ_ z=>nomatch z)];exact q
def bXu{name qual:Str}{d:Arguments}{body:Expr}{r:cX8}{c P:Nat}{pos:Pos}{fl:Nat}{cl:List (Str×Nat)}{E:bYS->bYV->Prop}{Q:bYS->bYV->Prop}(I:Inv X pins σ H s)(N:closureFor r X.env=pure cl)(j:X.env.code= .ref c) (C:cXY X.base c P) (hB:X.base.BuiltinsAt X.mg P) (hT:X0 pos qual P H) (hq:∀ (q f:Nat)(g:bYS)(R:Hp)(s':bYV),Inv X pins σ R s'->H q=none->R q=some (bWS q (cX7 name qual d body r cl ((X.mg Ac).getD .none) f g))->R f=some (aKU f qual)->X0 pos qual P R->x3 H R->Q (.ref q) s'): bY0 (bY2 X.prog X.w) X.A (makeFunction name qual d (.expr body) r X.env [] [] [] pos fl) Q E s:=by
 have U:s.heap.Ns cQq X.mg:=I.ok.mod.glob.keeps I.bk;have hC:=C.keeps I.bk;obtain⟨bm,ob,b1,b2,b3,b4,b5,b6⟩:=hB;have K:s.heap.BuiltinsAt X.mg P:=⟨bm,ob,b1,b2,b3,b4,I.bk _ _ b5,b6⟩;rcases hT with p|⟨f,p,F⟩
 ·have i:s.heap.get? P=some (cZr #[]):=I.hok P _ p;have a0:cQq≠P:=λz=>by
   obtain⟨o,es,ep,e,hd,_⟩:=U;rw[z,i]at e;cases e;cases hd
  refine PySem.W.kla_makeFunction (mg:=X.mg) N I.ok.glob U j hC i aVx rfl a0 K λf g h tk J l G L y=>?_;have T:=I.tab (t':=tk) p J y;have x:P≠f:=cQj (cQl (bY6 i) l);have nc:H f=none:=I.hok.fresh l;have B:upd H P (.tbl (#[]++ #[cXa pos.line,cXa pos.col,.ref f])) f=none:=by rw[yI (cQB x)];exact nc
  have I2:Inv X pins σ (upd (upd H P (.tbl (#[]++ #[cXa pos.line,cXa pos.col,.ref f]))) f (aKU f qual)) {s with heap:=h,toks:=tk}:=by
   have a1:cJs P s.heap h:=J;have nP:∀b,H b=none->b≠P:=λb n z=>by rw[z,p]at n;cases n
   have ne:∀b o,H b=some o->(∀ps,o≠ .tbl ps)->b≠P:=λb o e n z=>by subst z;rw[p]at e;cases e;exact n _ rfl
   have Z:∀b o,s.heap.get? b=some o->b≠f:=λb o e=>cQj (cQl (bY6 e) l);have S:∀b,b≠P->b≠f->upd (upd H P (.tbl (#[]++ #[cXa pos.line,cXa pos.col,.ref f]))) f (aKU f qual) b=H b:=λb h1 h2=>by rw[yI h2,yI h1]
   have hl:∀b u,H b=some u->b≠f:=λb u e=>yJ e nc;refine I.un (t':=tk) ⟨λb o e n _ _=>J b o (nP b n) e,λb o e n _ _=>⟨o.slots,J b o (nP b n) e⟩,λb o e n _=>by rw[S b (nP b n) (Z b o e)];exact n,λb o e _=>?_,λb xs e=>?_,λb o u e=>?_,λb qs e=>?_⟩ λb u e=>?_
   ·by_cases O:b=P
    ·exact⟨_,by rw[O];exact y⟩
    ·exact⟨o,J b o O e⟩
   ·rw[S b (ne b _ e λ_ z=>nomatch z) (hl b _ e)];exact e
   ·rw[S b (ne b _ e λ_ z=>nomatch z) (hl b _ e)];exact e
   ·by_cases O:b=P
    ·subst O;rw[p]at e;cases e;exact⟨_,by rw[yI x];exact yB⟩
    ·exact⟨#[],by rw[S b O (hl b _ e),e];simp⟩
   ·by_cases D:b=f
    ·subst D;rw[yB]at e;cases e;exact bXa L
    ·rw[yI D]at e;refine(T.hok b u e).stay (λc v _ q=>q) (λc q=>?_) λc xs q=>?_
     ·rw[yI (yJ q B)];exact q
     ·rw[yI (yJ q B)];exact q
  have m:H h.objs.size=none:=I.hok.fresh (cQv l (cZv G));have Y:=I2.laid (a:=h.objs.size) (o:=bWS h.objs.size (cX7 name qual d body r cl ((X.mg Ac).getD .none) f g)) (t':=tk) (h':=h.push (cX7 name qual d body r cl ((X.mg Ac).getD .none) f g))
   (λb o e=>bYX _ e) (bYZ _) (aYA (cQn _ rfl))
  have M:f≠h.objs.size:=cQj G;have V:P≠h.objs.size:=cQj (bY6 y);refine hq h.objs.size f g _ _ Y m yB (by rw[yI M];exact yB) (.inr ⟨f,by rw[yI V,yI x];exact yB,by rw[yI M];exact yB⟩) λb o n e=>?_;have h1:b≠P:=λz=>by subst z;rw[p]at e;cases e;exact n _ rfl
  rw[yI (yJ e m),yI (yJ e nc),yI h1];exact e
 ·have i:s.heap.get? P=some (cZr (#[]++ #[cXa pos.line,cXa pos.col,.ref f])):=I.hok P _ p;refine PySem.W.kla_makeFunctionHit (mg:=X.mg) N I.ok.glob U j hC i aVy aKN K λg h tk hk l=>?_;have T:Inv X pins σ H {s with heap:=h,toks:=tk}:=I.kept hk;have m:H h.objs.size=none:=T.hok.fresh (bYZ _);have Y:=T.laid (a:=h.objs.size) (o:=bWS h.objs.size (cX7 name qual d body r cl ((X.mg Ac).getD .none) f g)) (t':=tk) (h':=h.push (cX7 name qual d body r cl ((X.mg Ac).getD .none) f g))
   (λb o e=>bYX _ e) (bYZ _) (aYA (cQn _ rfl))
  have k:=yG m (bWS h.objs.size (cX7 name qual d body r cl ((X.mg Ac).getD .none) f g));exact hq h.objs.size f g _ _ Y m yB (k _ _ F) (.inr ⟨f,k _ _ p,k _ _ F⟩) k.t
end
end L2
namespace Stree
open PySem PySem.W PySem.Calls PyProof.Rows
def aQi{α:Type}(p q:α->Bool):∀ (l:List α),(∀a∈l,p a=true->q a=true)->(∃a∈l,p a=false/\q a=true)->l.countP p<l.countP q
 |[],_,h=>by obtain⟨a,b,_⟩:=h;cases b
 |x::r,hs,h=>by
  have e:r.countP p<=r.countP q:=List.countP_mono_left λa b=>hs a (bY4 _ b);obtain⟨a,b,d,c⟩:=h;rcases bY1.mp b with rfl|b
  ·rw[cJv,cJv,d,c];simp;omega
  ·have g:=aQi p q r (λa b=>hs a (bY4 _ b)) ⟨a,b,d,c⟩;rw[cJv,cJv];have:=hs x bY7;cases f:p x with
   |false=>cases q x<;> simp<;> omega
   |true=>rw[this f];simp;omega
def aJ5{n:Nat}(lt:Nat->Nat->Bool)(g:∀i,i<n->lt i i=false)(p:∀i j k,i<n->j<n->k<n->lt i j=true->lt j k=true->lt i k=true)(f:∀i j,i<n->j<n->i≠j->lt i j=true\/lt j i=true): ∃r:Nat->Int,Inj n r/\∀i j,i<n->j<n->decide (r i<r j)=lt i j:=by
 refine⟨λi=>((bY5 n).countP λm=>lt m i:Nat),?_,?_⟩
 ·have up:∀i j,i<n->j<n->lt i j=true->((bY5 n).countP λm=>lt m i)<((bY5 n).countP λm=>lt m j):=λi j a b h=>
   aQi _ _ _ (λm o d=>p m i j (cQu.mp o) a b d h) ⟨i,cQu.mpr a,g i a,h⟩
  intro i j a b e;by_cases c:i=j
  ·exact c
  ·exfalso;have q:(((bY5 n).countP λm=>lt m i:Nat):Int)=((bY5 n).countP λm=>lt m j:Nat):=e;rcases f i j a b c with h|h
   ·have:=up i j a b h;omega
   ·have:=up j i b a h;omega
 ·intro i j a b;have up:∀i j,i<n->j<n->lt i j=true->((bY5 n).countP λm=>lt m i)<((bY5 n).countP λm=>lt m j):=λi j a b h=>
   aQi _ _ _ (λm o d=>p m i j (cQu.mp o) a b d h) ⟨i,cQu.mpr a,g i a,h⟩
  cases h:lt i j with
  |true=>have:=up i j a b h;exact decide_eq_true (by show(((bY5 n).countP λm=>lt m i:Nat):Int)<((bY5 n).countP λm=>lt m j:Nat);omega)
  |false=>
   refine decide_eq_false ?_;show ¬ (((bY5 n).countP λm=>lt m i:Nat):Int)<((bY5 n).countP λm=>lt m j:Nat);by_cases c:i=j
   ·subst c;omega
   ·rcases f i j a b c with l|l
    ·rw[h]at l;cases l
    ·have:=up j i b a l;omega
section
variable {prog:cQe}{w:cQm}{A:cQA}{E:bYS->bYV->Prop}{s:bYV}
def aXE{r:Nat}{n:Nat}{t u v:Tok}{Q:List bYS->bYV->Prop}(T:A.handled=none)(U:IsRange s.heap r 0 n 1 t u v)(V:n<64) (L:∀j tk H,(∀b o,s.heap.get? b=some o->j.get? b=some o)->s.heap.objs.size<j.objs.size->cZp H ((bY5 n).map Int.ofNat)->Q H {s with heap:=j,toks:=tk}):bY0 (bY2 prog w) A (collect (.ref r)) Q E s:=by
 have P:Builtin.Range.rangeSize 0 n 1=(n:Int):=by rw[rangeSize_one];split<;> omega
 have C:Builtin.Range.small 0 n 1=true:=small_one (by decide) (by decide) (by omega) (by omega);unfold collect;refine bYU (wpAny_runValue (cX9 F.entry_proto_collect ?_));rw[cXO F.plain_proto_collect _];show bY0 _ A.in1 (newList [] >>=λl=>again (.builtin "list.__iadd__" ⟨[l,.ref r],[]⟩)) _ _ s;refine bYU (cXS ?_);refine bYY ⟨cZ9 F.plain_list_iadd _,cX9 F.entry_list_iadd ?_⟩;rw[cXO F.plain_list_iadd _];have d:(s.heap.push {cls:= .type AB,data:= .seq ([]:List bYS).toArray}).get? s.heap.objs.size=some {cls:= .type AB,data:= .seq ([]:List bYS).toArray}:=cQn _ rfl;show bY0 _ A.in1 (cZW (.ref s.heap.objs.size) (.ref r) (.ref s.heap.objs.size)) _ _ _;refine cQW (wpAny_extend_range (A:=A) (R:=λq y=>q= .ok (.ret (.ref s.heap.objs.size))/\∃a g,y.heap.get? s.heap.objs.size=some {cls:= .type AB,dict:=none,data:= .seq a g,slots:= #[] }/\Q a.toList y) (s:={s with heap:=s.heap.push {cls:= .type AB,data:= .seq ([]:List bYS).toArray} }) T (bYX _ U) C P (by omega) s.heap.objs.size (.ref s.heap.objs.size) 0 d λj tk a g I h c=>⟨rfl,a,g,h,?_⟩) (λfin y B=>?_) λe y M=>by obtain⟨z,_⟩:=M;cases z
 rotate_left
 ·cases fin with
  |done f=>
   obtain⟨e,a,g,m,p⟩:=B;have J:f= .ret (.ref s.heap.objs.size):=by cases e;rfl
   subst J;exact bYU (wpAny_load m (bYY p))
  |again g=>
   exact⟨B.1,cXL B.2 λq K S=>by
    obtain⟨rfl,a,g,m,p⟩:=S;exact bYU (wpAny_load m (bYY p))⟩
 refine L j tk a.toList (λb o e=>I b o (cQj (bY6 e)) (bYX _ e)) (bY6 h) ?_;have len:a.toList.length=n:=by rw[cXf];exact c.1
 have all:∀ (k:Nat)(l:List bYS),l.length<=n->k+l.length=n->(∀i v,l[i]? =some v->∃t,v=Value.int ((k+i:Nat):Int) t)->cZp l ((List.range' k l.length).map Int.ofNat):=by
  intro k l;induction l generalizing k with
  |nil=>intro _ _ _;exact .nil
  |cons x l O=>
   intro m p G;obtain⟨t,rfl⟩:=G 0 x rfl;rw[cQR,List.range'_succ,cQF];exact .cons _ _ (O (k+1) (by rw[cQR]at m;omega) (by rw[cQR]at p;omega) λi v D=>by
    obtain⟨N,e⟩:=G (i+1) v D;exact⟨N,by rw[e,show k+(i+1)=k+1+i by omega]⟩)
 have z:=all 0 a.toList (by omega) (by omega) λi v D=>by obtain⟨t,e⟩:=c.2 i v (by rw[<- cXr];exact D);exact⟨t,by rw[e,show(0:Int)+(i:Int)*1=((0+i:Nat):Int) by omega]⟩
 rw[len]at z;rw[List.range_eq_range'];exact z
def aJb{r:Nat}{n:Nat}{t u v:Tok}{b:Bool}{f:bYS}{g:List (Str×bYS)}{Q:bYS->bYV->Prop}(D:A.handled=none)(F:IsRange s.heap r 0 n 1 t u v)(C:n<64) (l:argsOk AR ⟨[.ref r],g⟩) (q:∀x,argsOk "list.sort" ⟨[.ref x],g⟩) (H:∀x,cXF.«list.sort» ⟨[.ref x],g⟩=ksk_tree x f b) (h:∀a c tk d,(∀b o,s.heap.get? b=some o->c.get? b=some o)->s.heap.objs.size<=a->c.get? a=some (cQI AB d.toArray 0)->cZp d ((bY5 n).map Int.ofNat)-> bY0 (bY2 prog w) A.in1.in1 (ksk_tree a f b) (λfin z=>fin= .done (.ret .none)/\Q (.ref a) z) (λ_ _=>False) {s with heap:=c,toks:=tk}): bY0 (bY2 prog w) A (call (.builtin AR) [.ref r] g) Q E s:=by
 refine call_function_entry_kw kind_sorted plain_sorted entry_sorted l ?_;unfold cXF.«sorted»;refine bYU (m:=checkCount AR 1 1 _) (bYY ?_);refine bYU (aXE (A:=A.in1) (by simpa using D) F C λc tk d B j y=>?_);have G:d.length=n:=by rw[y.length];simp
 refine bYU (cJb ?_ (by rw[cQr];omega));have i:(c.push (cQI AB d.toArray 0)).get? c.objs.size=some (cQI AB d.toArray 0):=cQn _ rfl;have k:s.heap.objs.size<=c.objs.size:=cZv j;refine bYU (cXd (wpAny_call_entry_kw slot_list_sort ⟨_,i,rfl⟩ entry_list_sort ?body (q _)));case body=>
  show bY0 (bY2 prog w) A.in1.in1 (cXF.«list.sort» ⟨[.ref c.objs.size],g⟩) _ _ _;rw[H c.objs.size];refine cQW (h c.objs.size (c.push (cQI AB d.toArray 0)) tk d (λb o e=>bYX _ (B b o e)) k i y) (λfin z p=>?_) λ_ _ x=>x.elim;obtain⟨rfl,p⟩:=p;exact⟨_,rfl,bYY ⟨_,rfl,p⟩⟩
end
end Stree
namespace Stree
open PySem PySem.W PySem.Calls PyProof.Rows
def wG(a b:Int×Int):Bool:=decide (a.1<b.1) || (decide (a.1=b.1) && decide (a.2<b.2))
def wZ(a:Int×Int):wG a a=false:=by simp[wG]
def aXN{a b c:Int×Int}(e:wG a b=true)(d:wG b c=true):wG a c=true:=by
 simp only[wG,Bool.or_eq_true,Bool.and_eq_true,decide_eq_true_eq]at e d ⊢;omega
def aXM{a b:Int×Int}(h:a≠b):wG a b=true\/wG b a=true:=by
 have c:¬ (a.1=b.1/\a.2=b.2):=λ⟨x,y⟩=>h (Prod.ext x y);simp only[wG,Bool.or_eq_true,Bool.and_eq_true,decide_eq_true_eq];omega
section
variable {prog:cQe}{w:cQm}{A:cQA}{E:bYS->bYV->Prop}{s:bYV}
def aJD{a c:Int}{t t':Tok}{Q:Bool->bYV->Prop}(h:Q (a==c) s):bY0 (bY2 prog w) A (eqBool (.int a t) (.int c t')) Q E s:=
 (L2.bJb (A:=A) (s:=s) (y:= .int a) (x:= .int c) ⟨t,rfl⟩ ⟨t',rfl⟩ rfl rfl) prog w E Q h
def aYt{x y:Nat}{i g:Obj}{n k:Nat}{a b c d:Int}{r l p o:Tok}{Q:Bool->bYV->Prop}(j:s.heap.get? x=some i)(dx:i.data= .seq #[.int a r,.int b l] n)(t:s.heap.get? y=some g)(q:g.data= .seq #[.int c p,.int d o] k) (h:Q (wG (a,b) (c,d)) s):bY0 (bY2 prog w) A (keyLt' (tuples' true) (.ref x) (.ref y)) Q E s:=by
 refine kat_lt j dx t q ?_;refine kat_cons (aJD ?_);unfold wG at h;by_cases e:a=c
 ·subst e;simp only[Int.lt_irrefl,decide_false,Bool.false_or,decide_true,Bool.true_and]at h;rw[beq_self_eq_true];refine kat_yes (kat_cons (aJD ?_));by_cases f:b=d
  ·subst f;rw[beq_self_eq_true];refine kat_yes (kat_nil ?_);simpa using h
  ·rw[beq_eq_false_iff_ne.mpr f];refine kat_no (kat_one _ _ ?_);exact lt_int h
 ·rw[beq_eq_false_iff_ne.mpr e];have m:Q (decide (a<c)) s:=by
   have:decide (a=c)=false:=decide_eq_false e;simpa[this]using h
  refine kat_no ?_;exact oneLt_int m
end
end Stree
namespace L2
open PySem PySem.Spec PyProof.Rows
def ixb(b:Bool)(n i:Nat):Nat:=if b=true then n - 1 - i else i
def aZG{b:Bool}{n i:Nat}(h:i<n):ixb b n i<n:=by unfold ixb;split<;> omega
def bJ1{b:Bool}{n i j:Nat}(c:i<n)(a:j<n)(h:ixb b n i=ixb b n j):i=j:=by unfold ixb at h;split at h<;> omega
def aXU{α:Type}{b:Bool}{l:List α}{n i:Nat}{d:α}(a:l.length=n)(c:i<n):(cQ7 b l).getD i d=l.getD (ixb b n i) d:=by
 unfold cQ7 ixb;split
 ·simp only[cQC];rw[List.getElem?_reverse (by omega),a]
 ·rfl
def bW0{n:Nat}{b:Bool}{a:Nat->Int×Int}{r:Nat->Int}{p:List Nat}(l:p.Perm (bY5 n))(g:p.Pairwise λi j=>r i<r j)(k:∀i j,i<n->j<n->decide (r i<r j)=Stree.wG (a (ixb b n i)) (a (ixb b n j))): (cQ7 b (p.map (ixb b n))).Perm (bY5 n)/\(cQ7 b (p.map (ixb b n))).Pairwise λi j=>Stree.wG (if b=true then a j else a i) (if b=true then a i else a j)=true:=by
 have f:(p.map (ixb b n)).Pairwise λi j=>Stree.wG (a i) (a j)=true:=by rw[cJn];have m:∀i∈p,i<n:=λi c=>cQu.mp (l.mem_iff.mp c);refine g.imp_of_mem λ{i j} c hj h=>?_;rw[<- k i j (m i c) (m j hj)];exact decide_eq_true h
 have d:=l.map (ixb b n);cases b with
 |false=>
  have e:ixb false n=id:=by funext i;rfl
  rw[e]at d f ⊢;rw[List.map_id,List.map_id]at d;rw[List.map_id]at f ⊢;exact⟨d,f⟩
 |true=>
  have e:(bY5 n).map (ixb true n)=(bY5 n).reverse:=by
   apply cZa;intro i;by_cases c:i<n
   ·rw[cQc,cXV c,List.getElem?_reverse (by simpa using c),cQL,cXV (by omega)];rfl
   ·rw[cQs (by simp;omega),cQs (by simp;omega)]
  rw[e]at d;refine⟨(List.reverse_perm _).trans (d.trans (List.reverse_perm _)),?_⟩;show((p.map (ixb true n)).reverse).Pairwise _;rw[List.pairwise_reverse];exact f
def bJD(H:Hp)(b:Nat->Int×Int)(c:List bYS):Prop:=∀i v,c[i]? =some v->∃a,v= .ref a/\H a=some (.tup [.int (b i).1,.int (b i).2])
def bZR(te:TE)(fr:List Nat)(tb:TE)(P:Nat)(lpos:Pos)(qual:Str)(b:Bool):TE:=λσ H Q=>te σ H λv d=>∃n:Nat,v= .int n/\n<64/\X0 lpos qual P d/\∃kz:Nat->Int×Int,
 (∀i j,i<n->j<n->kz i=kz j->i=j)/\
 (∀i c,i<n->x3 d c->X0 lpos qual P c->∀R:VK,(∀a e,x3 c e->e P=c P->e a=some (.tup [.int (kz i).1,.int (kz i).2])->R (.ref a) e)->tb (sub σ fr (some (.int i))) c R)/\
 ∀H5 l (out:List Nat),x3 d H5->X0 lpos qual P H5->d l=none->out.Perm (bY5 n)->(out.Pairwise λi j=>Stree.wG (if b=true then kz j else kz i) (if b=true then kz i else kz j)=true)->H5 l=some (.lst (out.map λi=> .int (i:Nat)))->Q (.ref l) H5
def X0.keep{lpos:Pos}{qual:Str}{P:Nat}{H a:Hp}(t:X0 lpos qual P H)(k:x3 H a)(e:a P=H P):X0 lpos qual P a:=by
 rcases t with t|⟨c,b,d⟩
 ·exact .inl (e.trans t)
 ·exact .inr ⟨c,e.trans b,k.ext d⟩
section
variable {X:Cx}{e body:Expr}{te tb:TE}{x:Str}{names:List Str}{fr:List Nat}{sc:cX8}{params:Arguments}{qual:Str}{p p2 p3 pos lpos kp kp2 bp:Pos}{j:Nat}{b:Bool}{c P:Nat}{k:Nat}
def aKf(f6:Gl X AR)(f5:X.mg AR=none)(d6:Gl X Ae)(f9:X.mg Ae=none)(he:PE X e te)(S:xN X.N X.env.scope x names fr sc)(d9:sc.isCoroutine=false)(c7:sc.isGenerator=false)
  (a7:X.env.code= .ref c) (C:cXY X.base c P) (hB:X.base.BuiltinsAt X.mg P) (hr:vX (k+1) X.A) (b5:defaultsOf params X.env=([],[])) (hq:X.env.qual++"<lambda>"=qual)
  (hb:∀ (cl:List (Str×Nat))(pm e9 a8 u:bYS),cZA (PySem.W.kla_fn "<lambda>" qual params body sc cl pm e9 a8) ⟨[u],[]⟩=pure [(x,u)])
  (b2:∀A L q cd cl s H,PE (bKC X A (x::names) qual sc L q cd cl s H) body tb) (b1:cQD AR=some (.builtin AR):=dk)
  (s2:cQy [e] X.env= [(false,eval e X.env)]:=by rfl):
  PE X (.Call (.Name AR p) [.Call (.Name Ae p2) [e] [] p3] [⟨some "key",.Lambda params body sc lpos,kp⟩,⟨some "reverse",.Constant (.bool b) j bp,kp2⟩] pos) (bZR te fr tb P lpos qual b):=by
 intro g s σ H Q I h
 refine cXx (aXq I f6 f5 b1 ?_)
 refine callWith_kw ?_
 show bY0 _ _ (spliced ((false,eval (.Call (.Name Ae p2) [e] [] p3) X.env):: [])) _ _ s
 refine Calls.spliced_cons ?_
 refine cXx (aXq I d6 f9 boot_range ?_)
 refine cZX ?_ s2 rfl
 refine thn (yA he yD s2 p3 g s σ H (λvs H1=>match vs with|[v]=>(∃n:Nat,v= .int n/\n<64/\X0 lpos qual P H1/\∃kz:Nat->Int×Int,
   (∀i j,i<n->j<n->kz i=kz j->i=j)/\
   (∀i B,i<n->x3 H1 B->X0 lpos qual P B->∀R:VK,(∀a Z,x3 B Z->Z P=B P->Z a=some (.tup [.int (kz i).1,.int (kz i).2])->R (.ref a) Z)->tb (sub σ fr (some (.int i))) B R)/\
   ∀H5 l (out:List Nat),x3 H1 H5->X0 lpos qual P H5->H1 l=none->out.Perm (bY5 n)->(out.Pairwise λi j=>Stree.wG (if b=true then kz j else kz i) (if b=true then kz i else kz j)=true)->H5 l=some (.lst (out.map λi=> .int (i:Nat)))->Q (.ref l) H5)|_=>False) I h) λus s1 ⟨vs,H1,I1,r1,z⟩=>?_
 match vs,z with
 |[v],⟨n,e2,hn,hT,kz,hinj,hkey,hfin⟩=>
  subst e2;obtain⟨u,rfl,ru⟩:=aQ7 r1;obtain⟨t,rfl⟩:=ru;refine call_range_1 (Calls.spliced_nil ?_);have fR:=I1.fpOk (b:=s1.heap.objs.size) (bYZ _) I1.fresh;have I2:Inv X ((s1.heap.objs.size,{cls:= .type Ae,data:= .fields #[.int 0 s1.toks,.int (n:Int) t,.int 1 (s1.toks+1)] })::g) σ H1 {s1 with heap:=s1.heap.push {cls:= .type Ae,data:= .fields #[.int 0 s1.toks,.int (n:Int) t,.int 1 (s1.toks+1)] },toks:=s1.toks+1+1}:=by
   have I0:Inv X g σ H1 {s1 with heap:=s1.heap.push {cls:= .type Ae,data:= .fields #[.int 0 s1.toks,.int (n:Int) t,.int 1 (s1.toks+1)] },toks:=s1.toks+1+1}:=I1.kept λb o e=>bYX _ e;refine I0.pins_of λq hq=>?_;rcases bY1.mp hq with rfl|hq
   ·exact⟨cQn _ rfl,fR.1,fR.2.1,fR.2.2.1,λv z=>by cases z⟩
   ·exact I0.pin q (cQg _ hq)
  obtain⟨cl,c1,c2,c4⟩:=aJK S I2;refine kws_cons (PySem.W.kla_eval b5 ?_);rw[hq];refine bXu I2 c1 a7 C hB hT λq c' a8 H' s' I3 g8 g4 a9 d8 b3=>?_;refine kws_cons (Constant_bool (kws_nil ?_));show bY0 _ _ (call (.builtin AR) [.ref s1.heap.objs.size] [(cJj "key",.ref q),(cJj "reverse",.bool b)]) _ _ s';have a3:IsRange s'.heap s1.heap.objs.size 0 n 1 s1.toks t (s1.toks+1):=(I3.pin _ (cQg _ (bY7 ..))).1;have I4:Inv X g σ H' s':=I3.pins_of λp G=>I3.pin p (cQg _ (bY4 _ G));refine Stree.aJb hr.hd a3 hn (ksk_s2 _ _ _) (λx=>ksk_l2 _ _ _) (λx=>ksk_t2 q x b) λa O tk vs hk a1 ha hI=>?_;have a0:vs.length=n:=by rw[hI.length];simp
  have I5:Inv X g σ H' {s' with heap:=O,toks:=tk}:=I4.kept hk;have Y:=I4.fpOk (b:=a) a1 (I4.hok.fresh a1);have b6:a<O.objs.size:=bY6 ha;have b7:s'.heap.objs.size<=O.objs.size+1:=cQv a1 (cZv (cQ2 b6));have U:=I4.fpOk (b:=O.objs.size+1) b7 (I4.hok.fresh b7);refine Stree.bKk (s:={s' with heap:=O,toks:=tk}) ha (by rw[a0];exact hn) (λe1 w M=>L2.Ez2 λ(B:Hp)(e:Nat)=>Inv X ((a,cQI AB #[] e1)::(O.objs.size+1,cQI AB w.toArray e)::g) σ B M/\x3 H' B/\X0 lpos qual P B/\bJD B kz w) ?h0 ?hget ?hcall ?hend;case h0=>
   intro e1 h2 k2 a2 q2;have I6:Inv X g σ H' {s' with heap:=h2,toks:=tk}:=I5.turned (t':=tk) (h':=h2) (λb o hb e=>k2 b o hb e) Y.1 Y.2.1 Y.2.2.2.1 Y.2.2.2.2.1 Y.2.2.2.2.2;refine⟨H',0,I6.pins_of λp G=>?_,x3.refl _,d8,λi v D=>by simp at D⟩;rcases bY1.mp G with rfl|G
   ·exact⟨a2,Y.1,Y.2.1,Y.2.2.1,λv z=>by cases z⟩
   ·rcases bY1.mp G with rfl|G
    ·exact⟨q2,U.1,U.2.1,U.2.2.1,λv z=>by cases z⟩
    ·exact I6.pin p (cQg _ G)
  case hget=>
   rintro e1 w M ⟨B,e,J,_,_,_⟩;exact⟨⟨e,(J.pin _ (cQg _ (bY4 _ (bY7 ..)))).1⟩,(J.pin _ (cQg _ (bY7 ..))).1⟩
  case hcall=>
   rintro e1 w M v ⟨B,e,J,k3,t3,z3⟩ D;have F:w.length<n:=by
    rcases cZU w.length vs.length with h|h
    ·omega
    ·rw[cQs h]at D;cases D
   obtain⟨t',rfl⟩:∃t',v=Value.int (w.length:Nat) t':=by
    have r:=jF hI;have e3:((((bY5 n).map Int.ofNat)).map V.int)[w.length]? =some (V.int (w.length:Nat)):=by simp[F]
    obtain⟨u,hu,ru⟩:=r.get e3;rw[D]at hu;cases hu;exact ru
   have d5:M.heap.get? q=some (cX7 "<lambda>" qual params body sc cl ((X.mg Ac).getD .none) c' a8):=(J.hok q _ (k3.ext g4)).1;have c3:M.heap.CodeRec (.ref c') qual:=(J.hok c' _ (k3.ext a9)).1;refine cQW (bXt (A:=X.A.in1.in1) J I.ok.frames hr.hd (by have:=hr.dp;show X.A.depth<_;omega) S d9 c7 c2 c4 d5 c3 (λu=>hb cl _ _ _ u) (λA L cd s H=>b2 A L q cd cl s H) (v:= .int (w.length:Nat)) ⟨t',rfl⟩ (Q:=λv Z=>∃a4,v= .ref a4/\x3 B Z/\Z P=B P/\Z a4=some (.tup [.int (kz w.length).1,.int (kz w.length).2])) (hkey w.length B F (b3.trans k3) t3 _ λa4 Z k4 p4 e4=>⟨a4,rfl,k4,p4,e4⟩)) (λkv s4 f7=>?_) λ_ _ x=>x;obtain⟨v4,Z,J4,c9,a4,rfl,k4,p4,e4⟩:=f7;cases c9;refine⟨⟨e,(J4.pin _ (cQg _ (bY4 _ (bY7 ..)))).1⟩,λh5 c5 sb d7=>?_⟩;have g6:Inv X g σ Z s4:=J4.pins_of λp G=>J4.pin p (cQg _ (bY4 _ (bY4 _ G)));have pa:=J4.pin _ (cQg _ (bY7 ..));have pk:=J4.pin _ (cQg _ (bY4 _ (bY7 ..)));have J5:Inv X g σ Z {s4 with heap:=h5,toks:=s4.toks}:=g6.turned (t':=s4.toks) (h':=h5) (it:=O.objs.size+1) (λb o hb e=>(sb.2 b hb).trans e) pk.2.1 U.2.1 U.2.2.2.1 U.2.2.2.2.1 U.2.2.2.2.2;refine⟨Z,c5,J5.pins_of λp G=>?_,k3.trans k4,t3.keep k4 p4,λi v D=>?_⟩
   ·rcases bY1.mp G with rfl|G
    ·exact⟨(sb.2 _ (cQj (cQ2 b6))).trans pa.1,pa.2⟩
    ·rcases bY1.mp G with rfl|G
     ·exact⟨d7,pk.2.1,U.2.1,U.2.2.1,λv z=>by cases z⟩
     ·exact J5.pin p (cQg _ G)
   ·by_cases e8:i<w.length
    ·rw[cQz e8]at D;obtain⟨a6,e6,h6⟩:=z3 i v D;exact⟨a6,e6,k4.tup h6⟩
    ·rw[cQi (by omega)]at D;have:i - w.length=0:=by
      rcases cZU (i - w.length) 1 with h|h
      ·omega
      ·rw[cQs (by simpa using h)]at D;cases D
     have ei:i=w.length:=by omega
     subst ei;simp at D;exact⟨a4,D.symm,e4⟩
  case hend=>
   rintro e1 w M ⟨B,e,J,k3,t3,z3⟩ hl;have J':Inv X g σ B M:=J.pins_of λp G=>J.pin p (cQg _ (bY4 _ (bY4 _ G)));have b4:w.length=n:=by omega
   obtain⟨r,f0,b9⟩:=Stree.aJ5 (n:=n) (λi j=>Stree.wG (kz (ixb b n i)) (kz (ixb b n j))) (λi _=>Stree.wZ _) (λi j k _ _ _ O h2=>Stree.aXN O h2)
    (λi j F hj e5=>Stree.aXM λz=>e5 (bJ1 F hj (hinj _ _ (aZG F) (aZG hj) z)))
   have ob:∀i,i<n->∃a o t1 t2 m,w.getD i Value.none= .ref a/\M.heap.get? a=some o/\o.cls= .type AD/\o.data= .seq #[.int (kz i).1 t1,.int (kz i).2 t2] m:=λi F=>by obtain⟨a6,e6,h6⟩:=z3 i (w.getD i Value.none) (by simp[cQC,bYR (show i<w.length by omega)]);obtain⟨g7,rv,pl,_⟩:=J'.tuple (CW h6);obtain⟨u1,u2,rfl,r1,r2⟩:=xW.two rv;obtain⟨t1,rfl⟩:=r1;obtain⟨t2,rfl⟩:=r2;obtain⟨o,g1,g2,m,g3⟩:=pl;exact⟨a6,o,t1,t2,m,e6,g1,g2,g3⟩
   refine⟨r,by rw[a0];exact f0,λ_=>⟨tuples' true,λQ' e7=>?_,λi j C' F hj hC=>?_⟩,λp h5 c5 c6 a5 d4 k5 g5 o5=>?_⟩
   ·have c8:∀ (l:List bYS)(k:Nat),(∀ (i:Nat)(v:bYS),l[i]? =some v->∃a o t1 t2 m x y,v=Value.ref a/\M.heap.get? a=some o/\o.cls= .type AD/\o.data= .seq #[.int x t1,.int y t2] m)->
      ∃fs,cVl M.heap l fs/\fs.length=l.length/\∀f∈fs,∃x t,f=Value.int x t:=by
     intro l
     induction l with
     |nil=>intro _ _;exact⟨[],trivial,rfl,λf hf=>by cases hf⟩
     |cons v l ih=>
      intro k D;obtain⟨a,o,t1,t2,m,x,y,rfl,g1,g2,g3⟩:=D 0 v rfl;obtain⟨fs,f1,f2,f3⟩:=ih (k+1) λi v h=>D (i+1) v h;refine⟨.int x t1::fs,cJG g1 g2 g3 rfl f1,by simp[f2],λf hf=>?_⟩;rcases bY1.mp hf with rfl|hf
      ·exact⟨x,t1,rfl⟩
      ·exact f3 f hf
    obtain⟨fs,f1,f2,f3⟩:=c8 w 0 λi v D=>by
     have F:i<n:=by
      rcases cZU i w.length with h|h
      ·omega
      ·rw[cQs h]at D;cases D
     obtain⟨a,o,t1,t2,m,g0,g1,g2,g3⟩:=ob i F;have:w.getD i Value.none=v:=by simp[cQC,D]
     rw[this]at g0;exact⟨a,o,t1,t2,m,_,_,g0,g1,g2,g3⟩
    refine PySem.W.kat_kind (T:= .type Ao) f1 (by omega) (λv D=>?_) rfl e7;obtain⟨x,t,rfl⟩:=f3 v D;exact .now
   ·rw[a0]at F hj;obtain⟨ai,oi,t1,t2,m1,g0,g1,g2,g3⟩:=ob _ (aZG (b:=b) F);obtain⟨aj,oj,t3,t4,m2,d0,d1,d2,d3⟩:=ob _ (aZG (b:=b) hj);show bY0 _ _ (keyLt' _ ((cQ7 b w).getD i Value.none) ((cQ7 b w).getD j Value.none)) _ _ _;rw[aXU b4 F,aXU b4 hj,g0,d0];refine Stree.aYt g1 g3 d1 d3 ?_;have:=b9 i j F hj;rw[this]at hC;exact hC
   ·rw[a0]at a5;obtain⟨q1,q2⟩:=bW0 a5 d4 b9;have hm:∀i∈p,i<n:=λi F=>cQu.mp (a5.mem_iff.mp F);have vv:∀l:List Nat,(∀i∈l,i<n)->xW ((l.map (ixb b n)).map λi=>V.int (i:Nat)) (l.map λi=>(cQ7 b vs).getD i Value.none):=by
     intro l;induction l with
     |nil=>intro _;exact .nil
     |cons i l ih=>
      intro h;refine .cons ?_ (ih λj hj=>h j (bY4 _ hj));have F:=h i bY7;show zO (V.int (ixb b n i:Nat)) ((cQ7 b vs).getD i Value.none);rw[aXU a0 F];have hx:=aZG (b:=b) F;have e3:((((bY5 n).map Int.ofNat)).map V.int)[ixb b n i]? =some (V.int (ixb b n i:Nat)):=by simp[hx]
      obtain⟨u,hu,ru⟩:=(jF hI).get e3;have:vs.getD (ixb b n i) Value.none=u:=by simp[cQC,hu]
      rw[this];exact ru
    have v2:=vv p hm;have v3:xW ((cQ7 b (p.map (ixb b n))).map λi=>V.int (i:Nat)) (cQ7 b (p.map λi=>(cQ7 b vs).getD i Value.none)):=by
     unfold cQ7 at v2 ⊢;split
     ·rw[List.map_reverse];rename_i b0;simp only[b0]at v2 ⊢;exact v2.reverse
     ·rename_i b0;simp only[b0]at v2 ⊢;exact v2
    have na:B a=none:=(J.pin _ (cQg _ (bY7 ..))).2.1;have nk:B (O.objs.size+1)=none:=(J.pin _ (cQg _ (bY4 _ (bY7 ..)))).2.1;have c0:(cQ7 b (p.map (ixb b n))).length=n:=by rw[q1.length_eq,cQL]
    have f4:Inv X g σ (upd B a (.lst ((cQ7 b (p.map (ixb b n))).map λi=>V.int (i:Nat)))) {M with heap:=h5,gens:=M.gens,drawn:=M.drawn,toks:=M.toks}:=by
     have K:∀d,d∉ [a,O.objs.size+1]->d≠a/\d≠O.objs.size+1:=λd E=>⟨λz=>E (by simp[z]),λz=>E (by simp[z])⟩;refine J'.step (ch:= [a,O.objs.size+1]) (λd E=>?_) (λd o _ _ E e _=>?_) (λd o _ _ E e _=>?_) (λd o E e n=>?_) (λd o E e=>?_) (λd xs e=>?_) (λd o u e=>?_) (λd qs e=>?_) (λm f8=>?_) (λd u e=>?_) J'.bare
     ·rcases bY1.mp E with rfl|E
      ·exact⟨Y.2.2.2.1,Y.2.1,Y.2.2.2.2.1,Y.2.2.2.2.2⟩
      ·rw[bY9.mp E];exact⟨U.2.2.2.1,U.2.1,U.2.2.2.2.1,U.2.2.2.2.2⟩
     ·exact(k5 d (K d E).1 (K d E).2).trans e
     ·exact⟨o.slots,(k5 d (K d E).1 (K d E).2).trans e⟩
     ·rw[yI (K d E).1];exact n
     ·exact⟨o,(k5 d (K d E).1 (K d E).2).trans e⟩
     ·rw[yI (yJ e na)];exact e
     ·rw[yI (yJ e na)];exact e
     ·exact⟨#[],by rw[yI (yJ e na),e];simp⟩
     ·obtain⟨o,es,ep,ho,r⟩:=f8;exact⟨o,es,ep,(k5 _ (cQB Y.2.1) (cQB U.2.1)).trans ho,r⟩
     ·by_cases E:d=a
      ·subst E;rw[yB]at e;cases e;exact⟨by rw[bYW,c0,cQr];omega,_,c6,v3,o5⟩
      ·rw[yI E]at e;refine(J'.hok d u e).stay (λc v hc q=>?_) (λc q=>by rw[yI (yJ q na)];exact q) λc xs q=>by rw[yI (yJ q na)];exact q
       have a9:c≠a:=by
        rcases hc with rfl|hc
        ·exact E
        ·exact yJ hc na
       have e0:c≠O.objs.size+1:=by
        rcases hc with rfl|hc
        ·exact yJ e nk
        ·exact yJ hc nk
       exact(k5 c a9 e0).trans q
    have b8:=yG na (.lst ((cQ7 b (p.map (ixb b n))).map λi=>V.int (i:Nat)));have hP:upd B a (.lst ((cQ7 b (p.map (ixb b n))).map λi=>V.int (i:Nat))) P=B P:=by
     rcases t3 with t|⟨_,t,_⟩
     ·rw[yI (yJ t na)]
     ·rw[yI (yJ t na)]
    have nl:H1 a=none:=by
     cases hz:H1 a with
     |none=>rfl
     |some o=>exact absurd (I1.hok.lt hz) (Nat.not_lt.mpr (cQv (cZv (bY6 a3)) a1))
    exact⟨rfl,.ref a,_,f4,rfl,hfin _ a _ (b3.trans (k3.trans b8.t)) (t3.keep b8.t hP) nl q1 q2 yB⟩
end
end L2
namespace Stree
open PySem PySem.W PySem.Calls PyProof.Rows
open PySem.SeqAt
open PySem.AutoSeq1 (wpAny_loadPart')
open PySem.MeetsSeq PySem.MeetsSeq2 PySem.MeetsSeq3
def W5{α:Type} [DecidableEq α] (lt:α->α->Bool):List α->List α->Bool
 |[],[]=>false
 |[],_::_=>true
 |_::_,[]=>false
 |x::xs,y::ys=>if x=y then W5 lt xs ys else lt x y
def aYr{α:Type} [DecidableEq α] {lt:α->α->Bool}(x y:α)(xs ys:List α):W5 lt (x::xs) (y::ys)=if x=y then W5 lt xs ys else lt x y:=rfl
def aJj{α:Type} [DecidableEq α] {lt:α->α->Bool}{rep:α->bYS->Prop}(l b:Nat)(items items2:Array bYS)(n V:Nat)(U I:Option Nat)(P J:Array (Option bYS))(xs ys:List α)(M:cQH rep xs items.toList)(K:cQH rep ys items2.toList): Meets (cXF.«tuple.__lt__» ⟨[.ref l,.ref b],[]⟩) (λA R s=>s.heap.get? l=some {cls:= .type AD,dict:=U,data:= .seq items n,slots:=P}/\s.heap.get? b=some {cls:= .type AD,dict:=I,data:= .seq items2 V,slots:=J}/\ (∀x y u v,rep x u->rep y v->EqAt A.in1 s u v (decide (x=y)))/\(∀x y u v,x≠y->rep x u->rep y v->∀ (prog:cQe)(w:cQm)(E:bYS->bYV->Prop)(Q:bYS->bYV->Prop),Q (.bool (lt x y)) s->bY0 (bY2 prog w) A.in1 (richCompare .Lt u v) Q E s)/\ R (.ok (.ret (.bool (W5 lt xs ys)))) s):=
 .of_wp λprog w A R s h=>by
  obtain⟨O,g,d,tk,N⟩:=s;obtain⟨hl,W,D,F,h⟩:=h;have f2:=AutoSeq1.sub_tuple_tuple;have z1:items.size=xs.length:=by have:=M.length;simpa using this.symm
  have z2:items2.size=ys.length:=by have:=K.length;simpa using this.symm
  wp_walk using wpAny_loadPart' hl,wpAny_loadPart' W,wpAny_forIn_list _ (λjY b G=>b.1=none/\G=⟨O,g,d,tk,N⟩/\∃ (z t:List bYS)(j i:List α),jY=z.zip t/\
   cQH rep j z/\cQH rep i t/\j.length+items2.size=i.length+items.size/\R (.ok (.ret (.bool (W5 lt j i)))) ⟨O,g,d,tk,N⟩) _
  case turn=>
   rintro⟨y,x⟩ jY b G ⟨o,rfl,z,t,j,i,m,p,k,f,hR⟩;cases p with
   |nil=>rw[List.zip_nil_left]at m;cases m
   |@cons a y' S T C q=>
    cases k with
    |nil=>rw[List.zip_nil_right]at m;cases m
    |@cons c Z Y X B r=>
     rw[List.zip_cons_cons]at m;injection m with hyx hrest
     injection hyx with hy hx
     subst hy hx;rw[aYr]at hR;simp only[cQR]at f;refine bYU (D a c _ _ C B prog w _ _ ?_);by_cases e:a=c
     ·rw[if_pos e]at hR;rw[decide_eq_true e];wp_walk;exact⟨rfl,rfl,_,_,_,_,hrest,q,r,by omega,hR⟩
     ·rw[if_neg e]at hR;rw[decide_eq_false e];have H:=F a c _ _ e C B prog w;wp_walk using H;exact⟨_,rfl,by simpa using hR⟩
  case fin=>
   rintro⟨b1,b2⟩ G ⟨o,rfl,z,t,j,i,m,p,k,f,hR⟩;simp only at o;subst o;have L:W5 lt j i=decide (items.size<items2.size):=by
    cases p with
    |nil=>
     cases k with
     |nil=>simp only[cX3]at f;exact(decide_eq_false (by omega)).symm
     |cons B hw=>simp only[cX3,cQR]at f;exact(decide_eq_true (by omega)).symm
    |cons C L=>
     cases k with
     |nil=>simp only[cX3,cQR]at f;exact(decide_eq_false (by omega)).symm
     |cons B hw=>rw[List.zip_cons_cons]at m;cases m
   rw[L]at hR;wp_walk;exact⟨_,rfl,by simpa[Builtin.Tuple.tupleCompareSizes]using hR⟩
  case h=>
   exact⟨rfl,rfl,items.toList,items2.toList,xs,ys,rfl,M,K,by omega,h⟩
section
variable {A:cQA}{s:bYV}{α:Type} [DecidableEq α] {lt:α->α->Bool}{rep:α->bYS->Prop}{l b:Nat}{items items2:List bYS}{xs ys:List α}
def bWq(A:cQA)(s:bYV)(u v:bYS)(c:Bool):Prop:=∀ (prog:cQe)(w:cQm)(E:bYS->bYV->Prop)(Q:bYS->bYV->Prop),Q (.bool c) s->bY0 (bY2 prog w) A (richCompare .Lt u v) Q E s
def bJh(hl:cZQ s.heap l items.toArray)(D:cZQ s.heap b items2.toArray)(t:cQH rep xs items)(r:cQH rep ys items2)(C:A.units<cLine)
  (e:∀x y u v,rep x u->rep y v->EqAt A.in1 s u v (decide (x=y))) (f:∀x y u v,x≠y->rep x u->rep y v->bWq A.in1 s u v (lt x y)):bWq A s (.ref l) (.ref b) (W5 lt xs ys):=λprog w E Q h=>by
 obtain⟨⟨cls,z,data,q⟩,m,p,n,k⟩:=id hl
 obtain⟨⟨o,i,g,j⟩,d,a,B,c⟩:=id D
 simp only at p k a c
 subst p k a c
 exact richCompare_meets_room (op:= .Lt) ⟨_,m,rfl⟩ ⟨_,d,rfl⟩ PySem.F.slot_tuple_lt PySem.F.entry_tuple_lt (PySem.F.args_tuple_lt_2 _ _) (aJj (lt:=lt) l b items.toArray items2.toArray n B z i q j xs ys t r)
  ⟨m,d,e,f,show Value.bool (W5 lt xs ys)≠Value.notImplemented/\Q (.bool (W5 lt xs ys)) s from⟨(λx=>nomatch x),h⟩⟩ C
def bWw:∀ {xs ys:List α},((bY5 (min xs.length ys.length)).all (λj=>decide (xs[j]? =ys[j]?)) && xs.length==ys.length)=decide (xs=ys):=by
 intro xs ys;rw[Bool.eq_iff_iff];simp only[Bool.and_eq_true,cZ1,cQu,decide_eq_true_eq,beq_iff_eq];constructor
 ·rintro⟨a,b⟩;apply cZa;intro i;by_cases c:i<xs.length
  ·exact a i (by omega)
  ·rw[cQs (by omega),cQs (by omega)]
 ·rintro rfl;exact⟨λ_ _=>rfl,rfl⟩
def X8{rep:α->bYS->Prop}:∀ {xs:List α} {us:List bYS} {i:Nat} {u:bYS},cQH rep xs us->us[i]? =some u->∃x,xs[i]? =some x/\rep x u
 |_,_,0,_,.cons r _,h=>by simp at h;subst h;exact⟨_,rfl,r⟩
 |_,_,i+1,_,.cons _ t,h=>by simpa using X8 (i:=i) t (by simpa using h)
 |_,_,i,_,.nil,h=>by simp at h
def X7{rep:α->bYS->Prop}(a:∀x y u,rep x u->rep y u->x=y):∀ {xs ys:List α} {us:List bYS},cQH rep xs us->cQH rep ys us->xs=ys
 |_,_,_,.nil,.nil=>rfl
 |_,_,_,.cons r t,.cons r' t'=>by rw[a _ _ _ r r',X7 a t t']
def bJd(hl:cZQ s.heap l items.toArray)(m:cZQ s.heap b items2.toArray)(f:cQH rep xs items)(c:cQH rep ys items2)(t:A.units<cLine)(E:∀x y u,rep x u->rep y u->x=y) (d:∀x y u v,rep x u->rep y v->EqAt A.in1 s u v (decide (x=y))):EqAt A s (.ref l) (.ref b) (decide (xs=ys)):=by
 by_cases e:l=b
 ·subst e;obtain⟨o,g,_,n,h⟩:=hl;obtain⟨G,i,_,H,k⟩:=m;rw[g]at i;cases i;rw[h]at k;have a:items=items2:=by
   have:items.toArray=items2.toArray:=by injection k
   simpa using congrArg Array.toList this
  subst a;rw[decide_eq_true (X7 E f c)];exact EqAt.same _
 ·refine EqAt.of_refs e ?_;have z:=RcAt.tuples (A:=A) (s:=s) (e:=λj=>decide (xs[j]? =ys[j]?)) (show s.heap.IsTuple l items.toArray from hl) (show s.heap.IsTuple b items2.toArray from m) t λj g h=>?_
  ·have B:items.toArray.size=xs.length:=by rw[cQb];exact f.length.symm
   have a:items2.toArray.size=ys.length:=by rw[cQb];exact c.length.symm
   rw[B,a,bWw]at z;exact z
  ·have C:items[j]? =some items[j]:=bYR (by simpa using g);have w:items2[j]? =some items2[j]:=bYR (by simpa using h);obtain⟨x,p,D⟩:=X8 f C;obtain⟨y,F,r⟩:=X8 c w;have q:=d x y _ _ D r;show EqAt A.in1 s items[j] items2[j] (decide (xs[j]? =ys[j]?));rw[p,F];have:decide (some x=some y)=decide (x=y):=by simp
   rw[this];exact q
end
def bVB(i:Int)(u:bYS):Prop:=∃t,u= .int i t
def rep2(h:Heap)(p:Int×Int)(u:bYS):Prop:=∃a b,u= .ref a/\cZQ h a b.toArray/\cQH bVB [p.1,p.2] b
def rep3(h:Heap)(c:List (Int×Int))(u:bYS):Prop:=∃a b,u= .ref a/\cZQ h a b.toArray/\cQH (rep2 h) c b
def aVX(x y:Int)(u:bYS)(b:bVB x u)(a:bVB y u):x=y:=by
 obtain⟨t,rfl⟩:=b;obtain⟨c,e⟩:=a;cases e;rfl
def bZY{h:Heap}{a:Nat}{i j:List bYS}(g:cZQ h a i.toArray)(e:cZQ h a j.toArray):i=j:=by
 obtain⟨o,d,_,n,f⟩:=g;obtain⟨l,c,_,k,b⟩:=e;rw[d]at c;cases c;rw[f]at b;have:i.toArray=j.toArray:=by injection b
 simpa using congrArg Array.toList this
def bZi{h:Heap}(x y:Int×Int)(u:bYS)(k:rep2 h x u)(d:rep2 h y u):x=y:=by
 obtain⟨a,i,rfl,c,b⟩:=k;obtain⟨l,j,e,f,g⟩:=d;cases e;rw[bZY c f]at b;have:=X7 aVX b g;injection this with e1 e2;injection e2 with e2 _;exact Prod.ext e1 e2
section
variable {A:cQA}{s:bYV}
def eq1(x y:Int)(u v:bYS)(c:bVB x u)(b:bVB y v):EqAt A s u v (decide (x=y)):=by
 obtain⟨t,rfl⟩:=c;obtain⟨a,rfl⟩:=b;have:decide (x=y)=(x==y):=by rw[Bool.eq_iff_iff];simp
 rw[this];exact EqAt.int_int x t y a
def lt1(x y:Int)(u v:bYS)(b:x≠y)(d:bVB x u)(c:bVB y v):bWq A s u v (decide (x<y)):=by
 obtain⟨t,rfl⟩:=d;obtain⟨a,rfl⟩:=c;exact λprog w E Q h=>HT.bZh A s x t y a prog w E Q h
def eq2(g:A.units<cLine)(x y:Int×Int)(u v:bYS)(l:rep2 s.heap x u)(f:rep2 s.heap y v):EqAt A s u v (decide (x=y)):=by
 obtain⟨a,i,rfl,c,d⟩:=l;obtain⟨b,j,rfl,h,k⟩:=f;have z:=bJd c h d k g aVX λx y u v=>eq1 x y u v;have:decide ([x.1,x.2]= [y.1,y.2])=decide (x=y):=by
  rw[Bool.eq_iff_iff,decide_eq_true_eq,decide_eq_true_eq];constructor
  ·intro e;injection e with e1 e2;injection e2 with e2 _;exact Prod.ext e1 e2
  ·rintro rfl;rfl
 rw[this]at z;exact z
def aYq(x y:Int×Int):W5 (λa b:Int=>decide (a<b)) [x.1,x.2] [y.1,y.2]=wG x y:=by
 unfold wG W5 W5 W5;by_cases c:x.1=y.1
 ·by_cases d:x.2=y.2<;> simp[c,d]
 ·simp[c]
def lt2(g:A.units<cLine)(x y:Int×Int)(u v:bYS)(e:x≠y)(l:rep2 s.heap x u)(f:rep2 s.heap y v):bWq A s u v (wG x y):=by
 obtain⟨a,i,rfl,c,d⟩:=l;obtain⟨b,j,rfl,h,k⟩:=f;have z:=bJh (lt:=λa b:Int=>decide (a<b)) c h d k g (λx y u v=>eq1 x y u v) (λx y u v=>lt1 x y u v);rw[aYq]at z;exact z
def eq3(f:A.units+1<cLine)(x y:List (Int×Int))(u v:bYS)(k:rep3 s.heap x u)(e:rep3 s.heap y v):EqAt A s u v (decide (x=y)):=by
 obtain⟨a,i,rfl,c,d⟩:=k;obtain⟨b,j,rfl,g,h⟩:=e;exact bJd c g d h (by omega) bZi λx y u v=>eq2 (A:=A.in1) f x y u v
def lt3(c:A.units+1<cLine)(x y:List (Int×Int))(u v:bYS)(f:x≠y)(l:rep3 s.heap x u)(g:rep3 s.heap y v):bWq A s u v (W5 wG x y):=by
 obtain⟨a,i,rfl,d,e⟩:=l;obtain⟨b,j,rfl,h,k⟩:=g;exact bJh d h e k (by omega) (λx y u v=>eq2 (A:=A.in1) c x y u v) (λx y u v=>lt2 (A:=A.in1) c x y u v)
end
section
variable {prog:cQe}{w:cQm}{A:cQA}{E:bYS->bYV->Prop}{s:bYV}
def bJ5{x y:Nat}{g d:Obj}{n k:Nat}{u v:bYS}{a c:List (Int×Int)}{i j:Int}{t p:Tok}{Q:Bool->bYV->Prop}(f:A.units+1<cLine)(o:s.heap.get? x=some g)(dx:g.data= .seq #[u,.int i t] n)(z:s.heap.get? y=some d)(r:d.data= .seq #[v,.int j p] k) (l:rep3 s.heap a u) (m:rep3 s.heap c v) (b:a=c->i=j) (h:Q (decide (a≠c) && W5 wG a c) s):bY0 (bY2 prog w) A (keyLt' (tuples' false) (.ref x) (.ref y)) Q E s:=by
 refine kat_lt o dx z r ?_;refine kat_cons (eq3 f a c u v l m prog w _ _ ?_);by_cases e:a=c
 ·rw[decide_eq_true e];refine kat_yes (kat_cons (aJD ?_));rw[beq_iff_eq.mpr (b e)];refine kat_yes (kat_nil ?_);simpa[e]using h
 ·rw[decide_eq_false e];have q:Q (W5 wG a c) s:=by simpa[e]using h
  exact kat_no (kat_one _ _ (lt3 f a c u v e l m prog w _ _ q))
def aZ9{a:Nat}{vs:List bYS}{P:PySem.Fin->bYV->Prop}{n0:Nat}(I:s.heap.get? a=some (cQI AB vs.toArray n0))(N:vs.length<64)(r:Nat->Int)(hr:Inj vs.length r) (B:2<=vs.length->∃κ,∀g,(∀c o,c≠a->s.heap.get? c=some o->g.get? c=some o)->(∀Q:SortKind->bYV->Prop,Q κ {s with heap:=g}->bY0 (bY2 prog w) A (keyKind' vs.toArray) Q (λ_ _=>False) {s with heap:=g})/\ ∀i j C,i<vs.length->j<vs.length->C (decide (r i<r j)) {s with heap:=g}->kas_ask prog w A κ vs i j C {s with heap:=g}) (z:∀ (p:List Nat) g c,p.Perm (bY5 vs.length)->p.Pairwise (λi j=>r i<r j)->(∀d o,d≠a->s.heap.get? d=some o->g.get? d=some o)->g.get? a=some (cQI AB (p.map λi=>vs.getD i Value.none).toArray c)->P (.done (.ret .none)) {s with heap:=g}): bY0 (bY2 prog w) A (cXF.«list.sort» ⟨[.ref a],[]⟩) P E s:=by
 have ha:a<s.heap.objs.size:=bY6 I;obtain⟨t,v⟩:∃t,(s.heap.update a (cQM λ_=>(#[]:Array bYS))).get? a=some (cQI AB #[] t):=⟨_,cZK I λ_=> #[]⟩;rw[list_sort_plain];refine bYU (listItems_at I rfl ?_);refine bYU (cZ8 I rfl ?_ (by rw[cQb,cQr];omega) (cQQ _));refine bYU (seqEpoch_at v rfl ?_);refine bYU (wpAny_newTuple ?_ (by show vs.length<=_;rw[cQr];omega));refine bYU (cJb ?_ (cQQ _));refine cXd ?_;have S:∀c o,c≠a->s.heap.get? c=some o->(((s.heap.update a (cQM λ_=>(#[]:Array bYS))).push (cQI AD vs.toArray 0)).push (cQI AB #[] 0)).get? c=some o:=λc o hc e=>
  bYX _ (bYX _ ((cQx _ _ (cQB hc)).trans e))
 have J:(((s.heap.update a (cQM λ_=>(#[]:Array bYS))).push (cQI AD vs.toArray 0)).push (cQI AB #[] 0)).get? a=some (cQI AB #[] t):=bYX _ (bYX _ v);show bY0 (bY2 prog w) A _ P E {s with heap:=((s.heap.update a (cQM λ_=>(#[]:Array bYS))).push (cQI AD vs.toArray 0)).push (cQI AB #[] 0) };generalize ((s.heap.update a (cQM λ_=>(#[]:Array bYS))).push (cQI AD vs.toArray 0)).push (cQI AB #[] 0)=h1 at S J ⊢;dsimp only;have l:∀ (G:SortSt)(p:List Nat),p.Perm (bY5 vs.length)->p.Pairwise (λi j=>r i<r j)->(arrOf G).map (·.2)=cQ1 (p.map λi=>vs.getD i Value.none)->failedOf G=none->
   bY0 (bY2 prog w) A (do
    let b:=(<- seqEpoch a) !=t
    Builtin.List.listUpdate (.ref a) λ_=>(arrOf G).map (·.2)
    if let some e:=failedOf G then rule "list.sort.comparison-raised";throw e
    if b then rule "list.sort.modified";raiseError "ValueError" "list modified during sort"
    ret .none) P E {s with heap:=h1}:=by
  intro G p f m D T
  have M:p.length=vs.length:=by rw[f.length_eq,cQL]
  rw[D]
  obtain⟨U,L⟩:∃U,(h1.update a (cQM λ_=>cQ1 (p.map λi=>vs.getD i Value.none))).get? a=some (cQI AB (cQ1 (p.map λi=>vs.getD i Value.none)) U):=⟨_,cZK J λ_=>cQ1 (p.map λi=>vs.getD i Value.none)⟩
  have R:(cQ1 (p.map λi=>vs.getD i Value.none)).size=vs.length:=by rw[cQb,bYW,M]
  refine bYU (seqEpoch_at J rfl ?_)
  refine bYU (cZ8 J rfl ?_ (cQQ _) (cQv (cZu R) (by rw[cQr];omega)))
  rw[T]
  simp only[bne_self_eq_false,Bool.false_eq_true,if_false]
  exact bYY (z p _ U f m (λd o V e=>(cQx _ _ (cQB V)).trans (S d o V e)) L)
 by_cases q:vs.toArray.size<2
 ·rw[if_pos q,if_pos q];refine bYU (bYY ?_);refine bYU (bYY ?_);have n:vs.length<2:=by rw[cQb]at q;exact q
  refine l (SortSt.mk' general' (vs.toArray.zip vs.toArray) #[] 7 none) (bY5 vs.length) (List.Perm.refl _) ?_ ?_ rfl
  ·rw[cZo];intro i j H W X;rw[cQL]at H W;omega
  ·show((cQ1 vs).zip (cQ1 vs)).map (·.2)=_;apply Array.toList_inj.mp;rw[Array.toList_map,Array.toList_zip];simp only[cJP];have t:(cJh vs vs).map (·.2)=vs:=List.map_snd_zip (bYZ _);rw[t];apply cZa;intro i;rw[cQc];by_cases H:i<vs.length
   ·rw[cXV H];simp[cQC,bYR H]
   ·rw[cQs (by omega),cQs (by rw[cQL];omega)];rfl
 ·have n:2<=vs.length:=by rw[cQb]at q;omega
  rw[if_neg q,if_neg q];obtain⟨κ,hκ⟩:=B n;obtain⟨hκ,F⟩:=hκ h1 S;refine bYU (cQW (hκ (λk u=>k=κ/\u= {s with heap:=h1}) ⟨rfl,rfl⟩) (λk u hq=>?_) λ_ _ x=>x.elim);obtain⟨rfl,rfl⟩:=hq;have O:(kas_sort vs.length).kasWp (kas_ask prog w A k vs) (λp y=>y= {s with heap:=h1}/\p.toList.Perm (bY5 vs.length)/\p.toList.Pairwise (λi j=>r i<r j)) {s with heap:=h1}:=
   Asks.wp (lt:=W6 r) F (aJa hr (by omega)) λp hp=>⟨rfl,hp⟩
  refine bYU (cQW (kat_run (Q:=λh y=>∃p:Array Nat,arrOf h=p.map (kas_item (vs.toArray.zip vs.toArray))/\failedOf h=none/\
    y= {s with heap:=h1}/\p.toList.Perm (bY5 vs.length)/\p.toList.Pairwise (λi j=>r i<r j))
   rfl n N (λY h y a1 a2 Z a4=>⟨Y,a2,Z,a4⟩) O) ?_ λ_ _ x=>x)
  rintro⟨⟨⟩,h⟩ y ⟨p,K,T,rfl,f,m⟩;dsimp only;exact l _ p.toList f m (kat_snds rfl K) T
end
end Stree
namespace Stree
open PySem PySem.W PySem.Calls PyProof.Rows
abbrev qR:=List (Int×Int)
abbrev jM:qR->qR->Bool:=W5 wG
def vR:∀a:qR,jM a a=false
 |[]=>rfl
 |x::r=>by show(if x=x then W5 wG r r else wG x x)=false;rw[if_pos rfl];exact vR r
def X5:∀ {a b c:qR},jM a b=true->jM b c=true->jM a c=true
 |[],[],_,h,_=>by cases h
 |[],_::_,[],_,h=>by cases h
 |[],_::_,_::_,_,_=>rfl
 |_::_,[],_,h,_=>by cases h
 |_::_,_::_,[],_,h=>by cases h
 |x::a,y::b,z::c,h1,h2=>by
  have f:(if x=y then W5 wG a b else wG x y)=true:=h1;have d:(if y=z then W5 wG b c else wG y z)=true:=h2;show(if x=z then W5 wG a c else wG x z)=true;by_cases i:x=y
  ·rw[if_pos i]at f;subst i;by_cases g:x=z
   ·rw[if_pos g]at d ⊢;exact X5 f d
   ·rw[if_neg g]at d ⊢;exact d
  ·rw[if_neg i]at f;by_cases g:y=z
   ·rw[if_pos g]at d;subst g;rw[if_neg i];exact f
   ·rw[if_neg g]at d;have j:=aXN f d;have:x≠z:=λe=>by rw[e,wZ]at j;cases j
    rw[if_neg this];exact j
def aXO:∀ {a b:qR},a≠b->jM a b=true\/jM b a=true
 |[],[],h=>absurd rfl h
 |[],_::_,_=> .inl rfl
 |_::_,[],_=> .inr rfl
 |x::a,y::b,h=>by
  show(if x=y then W5 wG a b else wG x y)=true\/(if y=x then W5 wG b a else wG y x)=true;by_cases e:x=y
  ·subst e;rw[if_pos rfl,if_pos rfl];exact aXO λz=>h (by rw[z])
  ·rw[if_neg e,if_neg (cQB e)];exact aXM e
def aVL:∀ (a:qR) {b:qR},b≠ []->jM a (a++b)=true
 |[],[],h=>absurd rfl h
 |[],_::_,_=>rfl
 |x::a,b,h=>by show(if x=x then W5 wG a (a++b)else _)=true;rw[if_pos rfl];exact aVL a h
def aZM:∀ (a:qR) {x y:Int×Int} {b c:qR},wG x y=true->jM (a++x::b) (a++y::c)=true
 |[],x,y,b,c,h=>by
  show(if x=y then W5 wG b c else wG x y)=true;have:x≠y:=λe=>by rw[e,wZ]at h;cases h
  rw[if_neg this];exact h
 |z::a,x,y,b,c,h=>by show(if z=z then W5 wG (a++x::b) (a++y::c)else _)=true;rw[if_pos rfl];exact aZM a h
def uniq{α:Type}{lt:α->α->Prop}(d:∀a,¬lt a a)(i:∀a b c,lt a b->lt b c->lt a c):∀ {l m:List α},l.Pairwise lt->m.Pairwise lt->(∀a,a∈l↔a∈m)->l=m
 |[],[],_,_,_=>rfl
 |[],y::m,_,_,h=>by have:=(h y).mpr bY7;cases this
 |x::l,[],_,_,h=>by have:=(h x).mp bY7;cases this
 |x::l,y::m,h1,h2,h=>by
  obtain⟨j,n⟩:=cXj.mp h1;obtain⟨b1,k⟩:=cXj.mp h2;have e:x=y:=by
   rcases bY1.mp ((h x).mp bY7)with e|e
   ·exact e
   ·rcases bY1.mp ((h y).mpr bY7)with g|g
    ·exact g.symm
    ·exact absurd (i _ _ _ (j y g) (b1 x e)) (d x)
  subst e;rw[uniq d i n k λa=>?_];constructor
  ·intro f;rcases bY1.mp ((h a).mp (bY4 _ f))with e|e
   ·subst e;exact absurd (j a f) (d a)
   ·exact e
  ·intro f;rcases bY1.mp ((h a).mpr (bY4 _ f))with e|e
   ·subst e;exact absurd (b1 a f) (d a)
   ·exact e
def IsTup.keep{h h':Heap}{a x:Nat}{vs its:Array bYS}{n:Nat}(b:h.get? a=some (cQI AB vs n))(k:∀c o,c≠a->h.get? c=some o->h'.get? c=some o)(t:cZQ h x its):cZQ h' x its:=by
 obtain⟨o,e,c,m,d⟩:=t;refine⟨o,k x o (λz=>?_) e,c,m,d⟩;rw[z,b]at e;cases e;have f:Value.type AB=Value.type AD:=c;injection f with c'';exact absurd c'' (by decide)
def rep2.keep{h h':Heap}{a:Nat}{vs:Array bYS}{n:Nat}(b:h.get? a=some (cQI AB vs n))(k:∀c o,c≠a->h.get? c=some o->h'.get? c=some o){p:Int×Int}{u:bYS}(t:rep2 h p u):rep2 h' p u:=
 let ⟨x,its,e,t1,t2⟩:=t;⟨x,its,e,IsTup.keep b k t1,t2⟩
def rep3.keep{h h':Heap}{a:Nat}{vs:Array bYS}{n:Nat}(b:h.get? a=some (cQI AB vs n))(k:∀c o,c≠a->h.get? c=some o->h'.get? c=some o){p:qR}{u:bYS}(t:rep3 h p u):rep3 h' p u:=
 let ⟨x,its,e,t1,t2⟩:=t;⟨x,its,e,IsTup.keep b k t1,L2.Paired.mapP t2 λ_ _ z=>rep2.keep b k z⟩
end Stree
namespace L2
open PySem PySem.Spec PyProof.Rows
open Stree (qR jM)
def bJG(H:Hp)(p:Int×Int)(x:V):Prop:=∃c,x= .ref c/\H c=some (.tup [.int p.1,.int p.2])
def Y9(H:Hp)(b:Nat)(c:qR):Prop:=∃a,H b=some (.tup a)/\cQH (bJG H) c a
section
variable {X:Cx}{pins:List (Nat×Obj)}{σ:St}{H:Hp}{s:bYV}{k:Nat}
def aYU{α β γ:Type}{F:α->β->Prop}{G:β->γ->Prop}{K:α->γ->Prop}(h:∀a b c,F a b->G b c->K a c):∀ {l:List α} {m:List β} {n:List γ},cQH F l m->cQH G m n->cQH K l n
 |_,_,_,.nil,.nil=> .nil
 |_,_,_,.cons a r,.cons b t=> .cons (h _ _ _ a b) (aYU h r t)
def Inv.rep2(I:Inv X pins σ H s){p:Int×Int}{x:V}{u:bYS}(h:bJG H p x)(r:zO x u):Stree.rep2 s.heap p u:=by
 obtain⟨c,rfl,e⟩:=h;cases r;obtain⟨b,f,a,_⟩:=I.tuple (CW e);obtain⟨j,i,rfl,d,g⟩:=xW.two f;exact⟨c,_,rfl,a,.cons d (.cons g .nil)⟩
def Inv.rep3(I:Inv X pins σ H s){b:Nat}{f:qR}(h:Y9 H b f):Stree.rep3 s.heap f (.ref b):=by
 obtain⟨j,e,z⟩:=h;obtain⟨d,i,g,_⟩:=I.tuple (CW e);exact⟨b,d,rfl,g,aYU (F:=bJG H) (G:=zO) (K:=Stree.rep2 s.heap) (λ_ _ _ a c=>I.rep2 a c) z i⟩
def J9(hr:vX k X.A):qF X (.builtin AR) (λxs H Q=>∃ (p:Nat)(its:List V)(d:Nat->qR)(kn:Nat->Int),xs= [.ref p]/\H p=some (.lst its)/\its.length<64/\ (∀i j,i<its.length->j<its.length->d i=d j->i=j)/\(∀i x,its[i]? =some x->∃a b,x= .ref a/\H a=some (.tup [.ref b,.int (kn i)])/\Y9 H b (d i))/\ ∀l (out:List Nat),H l=none->out.Perm (bY5 its.length)->(out.Pairwise λi j=>jM (d i) (d j)=true)->Q (.ref l) (upd H l (.lst (out.map λi=>its.getD i .non)))):=by
 intro pins s σ H xs us Q I r h;obtain⟨p,its,d,kn,rfl,hp,b1,K,a6,q⟩:=h;obtain⟨u,rfl,ru⟩:=aQ7 r;cases ru;obtain⟨g,rv,pl,hz⟩:=I.list (CV hp);have a2:g.length=its.length:=rv.length.symm;refine cJf kind_sorted plain_sorted entry_sorted (args_sorted1 _) ?_;unfold cXF.«sorted»;refine bYU (m:=checkCount AR 1 1 _) (bYY ?_);refine bYU (collect_list pl.isList ?_ (by rw[cQr];omega));refine bYU (cJb ?_ (by rw[cQr];omega));have U:((s.heap.push (cQI AB #[] 0)).update s.heap.objs.size (cQM (·++g.toArray))).objs.size=s.heap.objs.size+1:=by rw[Heap.size_update,size_push']
 have y:(((s.heap.push (cQI AB #[] 0)).update s.heap.objs.size (cQM (·++g.toArray))).push (cQI AB g.toArray 0)).get? (s.heap.objs.size+1)=some (cQI AB g.toArray 0):=by rw[<- U];exact cQn _ rfl
 have keep:∀b o,s.heap.get? b=some o->(((s.heap.push (cQI AB #[] 0)).update s.heap.objs.size (cQM (·++g.toArray))).push (cQI AB g.toArray 0)).get? b=some o:=λb o q=>by have F:b<s.heap.objs.size:=bY6 q;rw[Heap.get?_push_ne _ _ _ (by rw[U];exact cQj (cQ2 F)),cJN _ _ _ _ (cQj F),Heap.get?_push_ne _ _ _ (cQj F)];exact q
 show bY0 _ _ _ _ _ {s with heap:=((s.heap.push (cQI AB #[] 0)).update s.heap.objs.size (cQM (·++g.toArray))).push (cQI AB g.toArray 0) };rw[U];generalize b0:((s.heap.push (cQI AB #[] 0)).update s.heap.objs.size (cQM (·++g.toArray))).push (cQI AB g.toArray 0)=M at y keep ⊢;refine bYU (cXd (cXM cJ1 ⟨_,y,rfl⟩ cJT ?body (cJ0 _)));case body=>
  have I1:Inv X pins σ H {s with heap:=M}:=I.kept (t':=s.toks) keep;have P:s.heap.objs.size<=s.heap.objs.size+1:=cX1 _;have fa:=I.fpOk (b:=s.heap.objs.size+1) P (I.hok.fresh P);obtain⟨r,a9,a0⟩:=Stree.aJ5 (n:=g.length) (λi j=>jM (d i) (d j)) (λi _=>Stree.vR _) (λi j k _ _ _ M D=>Stree.X5 M D)
   (λi j B O a7=>Stree.aXO λz=>a7 (K i j (by omega) (by omega) z))
  have ob:∀i,i<g.length->∃a o u t m,g.getD i Value.none= .ref a/\M.get? a=some o/\o.cls= .type AD/\o.data= .seq #[u,.int (kn i) t] m/\Stree.rep3 M (d i) u:=λi B=>by
   have C:i<its.length:=by omega
   obtain⟨a,b,Y,e2,e3⟩:=a6 i its[i] (bYR C);obtain⟨u0,S,G⟩:=rv.get (bYR C);rw[Y]at G;cases G;obtain⟨b2,rj,pj,_⟩:=I1.tuple (CW e2);obtain⟨u1,u2,rfl,q1,q2⟩:=xW.two rj;cases q1;obtain⟨t,rfl⟩:=q2;obtain⟨o,J,E,m,R⟩:=pj;exact⟨a,o,_,t,m,by simp[cQC,S],J,E,R,I1.rep3 e3⟩
  refine Stree.aZ9 (s:={s with heap:=M}) y (by omega) r a9 (λD=>⟨tuples' false,λD Z=>⟨λQ' a8=>?_,λi j C' B O hC=>?_⟩⟩) λp h5 c5 N a3 k5 o5=>?_
  ·have kt:∀ {x:Nat} {o:Obj},M.get? x=some o->o.cls= .type AD->D.get? x=some o:=λ{x o} e c=>Z x o (λz=>by rw[z,y]at e;cases e;have c':Value.type AB=Value.type AD:=c;injection c' with c'';exact absurd c'' (by decide)) e;have a1:∀ (l:List bYS),(∀ (i:Nat)(v:bYS),l[i]? =some v->∃a o u w m,v=Value.ref a/\D.get? a=some o/\o.cls= .type AD/\o.data= .seq #[u,w] m/\∃c its,u= .ref c/\cZQ D c its)->
     ∃fs,cVl D l fs/\fs.length=l.length/\∀f∈fs,∃c its,f=Value.ref c/\cZQ D c its:=by
    intro l
    induction l with
    |nil=>intro _;exact⟨[],trivial,rfl,λf hf=>by cases hf⟩
    |cons v l ih=>
     intro L;obtain⟨a,o,u,w,m,rfl,J,E,R,c,its,rfl,g4⟩:=L 0 v rfl;obtain⟨fs,f1,f2,f3⟩:=ih λi v h=>L (i+1) v h;refine⟨.ref c::fs,cJG J E R rfl f1,by simp[f2],λf hf=>?_⟩;rcases bY1.mp hf with rfl|hf
     ·exact⟨c,its,rfl,g4⟩
     ·exact f3 f hf
   obtain⟨fs,f1,f2,f3⟩:=a1 g λi v L=>by
    have B:i<g.length:=by
     rcases cZU i g.length with h|h
     ·exact h
     ·rw[cQs h]at L;cases L
    obtain⟨a,o,u,t,m,g0,J,E,R,g4⟩:=ob i B;have:g.getD i Value.none=v:=by simp[cQC,L]
    rw[this]at g0;obtain⟨c,its,e,g5,_⟩:=g4;exact⟨a,o,u,_,m,g0,kt J E,E,R,c,_,e,Stree.IsTup.keep y Z g5⟩
   refine PySem.W.kat_kind (T:= .type AD) f1 (by omega) (λv L=>?_) rfl a8;obtain⟨c,its,rfl,o,J,E,_⟩:=f3 v L;have z:PySem.W.Looks (bY2 X.prog X.w) D (typeOf (.ref c)) o.cls:=(PySem.W.Looks.ld J).andThen .now;rw[E]at z;exact z
  ·obtain⟨ai,oi,ui,t1,m1,g0,J,E,R,g4⟩:=ob i B;obtain⟨aj,oj,uj,t3,m2,d0,d1,d2,d3,d4⟩:=ob j O;have kt:∀ {x:Nat} {o:Obj},M.get? x=some o->o.cls= .type AD->D.get? x=some o:=λ{x o} e c=>Z x o (λz=>by rw[z,y]at e;cases e;have c':Value.type AB=Value.type AD:=c;injection c' with c'';exact absurd c'' (by decide)) e;show bY0 _ _ (keyLt' _ (g.getD i Value.none) (g.getD j Value.none)) _ _ _;rw[g0,d0];refine Stree.bJ5 (by have:=hr.un;show X.A.units+1+1+1<cLine;omega) (kt J E) R (kt d1 d2) d3 (Stree.rep3.keep y Z g4) (Stree.rep3.keep y Z d4) (λz=>by rw[K i j (by omega) (by omega) z]) ?_;have Y:=a0 i j B O;rw[Y]at hC;by_cases z:d i=d j
   ·have:jM (d i) (d j)=false:=by rw[z];exact Stree.vR _
    rw[this]at hC;simpa[z]using hC
   ·have:decide (d i≠d j)=true:=decide_eq_true z;rw[this,Bool.true_and];exact hC
  ·have hm:∀i∈p,i<g.length:=λi B=>cQu.mp (N.mem_iff.mp B);have vv:∀l:List Nat,(∀i∈l,i<g.length)->xW (l.map λi=>its.getD i .non) (l.map λi=>g.getD i Value.none):=by
    intro l;induction l with
    |nil=>intro _;exact .nil
    |cons i l ih=>
     intro h;refine .cons ?_ (ih λj O=>h j (bY4 _ O));have B:=h i bY7;have C:i<its.length:=by omega
     obtain⟨u0,S,G⟩:=rv.get (bYR C);show zO (its.getD i .non) (g.getD i Value.none);have Y:g.getD i Value.none=u0:=by simp[cQC,S]
     have e2:its.getD i .non=its[i]:=by simp[cQC,bYR C]
     rw[Y,e2];exact G
   have v2:=vv p hm;have a4:p.Perm (bY5 its.length):=by rw[<- a2];exact N
   have F:p.length=g.length:=by rw[N.length_eq,cQL]
   have a5:p.Pairwise λi j=>jM (d i) (d j)=true:=a3.imp_of_mem λ{i j} B O h=>by have:=a0 i j (hm i B) (hm j O);rw[<- this];exact decide_eq_true h
   have I5:Inv X pins σ (upd H (s.heap.objs.size+1) (.lst (p.map λi=>its.getD i .non))) {s with heap:=h5}:=
    I.laid (t':=s.toks) (λb o e=>k5 b o (cQj (cQ2 (bY6 e))) (keep b o e)) P ⟨by rw[bYW,cQr];omega,_,c5,v2,o5⟩
   exact⟨_,rfl,bYY ⟨_,rfl,⟨.ref _,_,I5,rfl,q _ p fa.1 a4 a5⟩⟩⟩
end
end L2
namespace L2
open PySem PySem.Spec PyProof.Rows
section
variable {X:Cx}
def uL:qF X (.builtin AR) (λxs H Q=>∃ (p:Nat)(its:List V)(g:Nat->Int×Int),xs= [.ref p]/\H p=some (.lst its)/\its.length<64/\ (∀i j,i<its.length->j<its.length->g i=g j->i=j)/\(∀i x,its[i]? =some x->∃a,x= .ref a/\H a=some (.tup [.int (g i).1,.int (g i).2]))/\ ∀l (out:List Nat),H l=none->out.Perm (bY5 its.length)->(out.Pairwise λi j=>Stree.wG (g i) (g j)=true)->Q (.ref l) (upd H l (.lst (out.map λi=>its.getD i .non)))):=by
 intro F s σ H xs us Q I r h;obtain⟨p,its,g,rfl,hp,b2,U,a7,q⟩:=h;obtain⟨u,rfl,ru⟩:=aQ7 r;cases ru;obtain⟨d,rv,pl,hz⟩:=I.list (CV hp);have a3:d.length=its.length:=rv.length.symm;refine cJf kind_sorted plain_sorted entry_sorted (args_sorted1 _) ?_;unfold cXF.«sorted»;refine bYU (m:=checkCount AR 1 1 _) (bYY ?_);refine bYU (collect_list pl.isList ?_ (by rw[cQr];omega));refine bYU (cJb ?_ (by rw[cQr];omega));have a1:((s.heap.push (cQI AB #[] 0)).update s.heap.objs.size (cQM (·++d.toArray))).objs.size=s.heap.objs.size+1:=by rw[Heap.size_update,size_push']
 have w:(((s.heap.push (cQI AB #[] 0)).update s.heap.objs.size (cQM (·++d.toArray))).push (cQI AB d.toArray 0)).get? (s.heap.objs.size+1)=some (cQI AB d.toArray 0):=by rw[<- a1];exact cQn _ rfl
 have keep:∀b o,s.heap.get? b=some o->(((s.heap.push (cQI AB #[] 0)).update s.heap.objs.size (cQM (·++d.toArray))).push (cQI AB d.toArray 0)).get? b=some o:=λb o q=>by have Z:b<s.heap.objs.size:=bY6 q;refine bYX _ ?_;exact(cQx _ _ (cZw Z)).trans (bYX _ q)
 show bY0 _ _ _ _ _ {s with heap:=((s.heap.push (cQI AB #[] 0)).update s.heap.objs.size (cQM (·++d.toArray))).push (cQI AB d.toArray 0) };rw[a1];generalize b1:((s.heap.push (cQI AB #[] 0)).update s.heap.objs.size (cQM (·++d.toArray))).push (cQI AB d.toArray 0)=S at w keep ⊢;refine bYU (cXd (cXM cJ1 ⟨_,w,rfl⟩ cJT ?body (cJ0 _)));case body=>
  have I1:Inv X F σ H {s with heap:=S}:=I.kept (t':=s.toks) keep;have M:s.heap.objs.size<=s.heap.objs.size+1:=cX1 _;have fa:=I.fpOk (b:=s.heap.objs.size+1) M (I.hok.fresh M);obtain⟨r,b0,a0⟩:=Stree.aJ5 (n:=d.length) (λi j=>Stree.wG (g i) (g j)) (λi _=>Stree.wZ _) (λi j k _ _ _ S R=>Stree.aXN S R)
   (λi j A L a8=>Stree.aXM λz=>a8 (U i j (by omega) (by omega) z))
  have ob:∀i,i<d.length->∃a o C D m,d.getD i Value.none= .ref a/\S.get? a=some o/\o.cls= .type AD/\o.data= .seq #[.int (g i).1 C,.int (g i).2 D] m:=λi A=>by
   have B:i<its.length:=by omega
   obtain⟨a,Y,e2⟩:=a7 i its[i] (bYR B);obtain⟨u0,O,E⟩:=rv.get (bYR B);rw[Y]at E;cases E;obtain⟨b3,rj,pj,_⟩:=I1.tuple (CW e2);obtain⟨u1,u2,rfl,q1,q2⟩:=xW.two rj;obtain⟨C,rfl⟩:=q1;obtain⟨D,rfl⟩:=q2;obtain⟨o,P,J,m,N⟩:=pj;exact⟨a,o,C,D,m,by simp[cQC,O],P,J,N⟩
  refine Stree.aZ9 (s:={s with heap:=S}) w (by omega) r b0 (λR=>⟨tuples' true,λR k2=>⟨λQ' a9=>?_,λi j C' A L hC=>?_⟩⟩) λp h5 c5 K a4 k5 o5=>?_
  ·have kt:∀ {x:Nat} {o:Obj},S.get? x=some o->o.cls= .type AD->R.get? x=some o:=λ{x o} e c=>k2 x o (λz=>by rw[z,w]at e;cases e;have c':Value.type AB=Value.type AD:=c;injection c' with c'';exact absurd c'' (by decide)) e;have a2:∀ (l:List bYS),(∀ (i:Nat)(v:bYS),l[i]? =some v->∃a o C D m x y,v=Value.ref a/\R.get? a=some o/\o.cls= .type AD/\o.data= .seq #[.int x C,.int y D] m)->
     ∃fs,cVl R l fs/\fs.length=l.length/\∀f∈fs,∃x t,f=Value.int x t:=by
    intro l
    induction l with
    |nil=>intro _;exact⟨[],trivial,rfl,λf hf=>by cases hf⟩
    |cons v l ih=>
     intro G;obtain⟨a,o,C,D,m,x,y,rfl,P,J,N⟩:=G 0 v rfl;obtain⟨fs,f1,f2,f3⟩:=ih λi v h=>G (i+1) v h;refine⟨.int x C::fs,cJG P J N rfl f1,by simp[f2],λf hf=>?_⟩;rcases bY1.mp hf with rfl|hf
     ·exact⟨x,C,rfl⟩
     ·exact f3 f hf
   obtain⟨fs,f1,f2,f3⟩:=a2 d λi v G=>by
    have A:i<d.length:=by
     rcases cZU i d.length with h|h
     ·exact h
     ·rw[cQs h]at G;cases G
    obtain⟨a,o,C,D,m,g0,P,J,N⟩:=ob i A;have:d.getD i Value.none=v:=by simp[cQC,G]
    rw[this]at g0;exact⟨a,o,C,D,m,_,_,g0,kt P J,J,N⟩
   refine PySem.W.kat_kind (T:= .type Ao) f1 (by omega) (λv G=>?_) rfl a9;obtain⟨x,t,rfl⟩:=f3 v G;exact .now
  ·obtain⟨ai,oi,C,D,m1,g0,P,J,N⟩:=ob i A;obtain⟨aj,oj,t3,t4,m2,d0,d1,d2,d3⟩:=ob j L;have kt:∀ {x:Nat} {o:Obj},S.get? x=some o->o.cls= .type AD->R.get? x=some o:=λ{x o} e c=>k2 x o (λz=>by rw[z,w]at e;cases e;have c':Value.type AB=Value.type AD:=c;injection c' with c'';exact absurd c'' (by decide)) e;show bY0 _ _ (keyLt' _ (d.getD i Value.none) (d.getD j Value.none)) _ _ _;rw[g0,d0];refine Stree.aYt (kt P J) N (kt d1 d2) d3 ?_;have Y:=a0 i j A L;rw[Y]at hC;exact hC
  ·have hm:∀i∈p,i<d.length:=λi A=>cQu.mp (K.mem_iff.mp A);have vv:∀l:List Nat,(∀i∈l,i<d.length)->xW (l.map λi=>its.getD i .non) (l.map λi=>d.getD i Value.none):=by
    intro l;induction l with
    |nil=>intro _;exact .nil
    |cons i l ih=>
     intro h;refine .cons ?_ (ih λj L=>h j (bY4 _ L));have A:=h i bY7;have B:i<its.length:=by omega
     obtain⟨u0,O,E⟩:=rv.get (bYR B);show zO (its.getD i .non) (d.getD i Value.none);have Y:d.getD i Value.none=u0:=by simp[cQC,O]
     have e2:its.getD i .non=its[i]:=by simp[cQC,bYR B]
     rw[Y,e2];exact E
   have v2:=vv p hm;have a5:p.Perm (bY5 its.length):=by rw[<- a3];exact K
   have Z:p.length=d.length:=by rw[K.length_eq,cQL]
   have a6:p.Pairwise λi j=>Stree.wG (g i) (g j)=true:=a4.imp_of_mem λ{i j} A L h=>by have:=a0 i j (hm i A) (hm j L);rw[<- this];exact decide_eq_true h
   have I5:Inv X F σ (upd H (s.heap.objs.size+1) (.lst (p.map λi=>its.getD i .non))) {s with heap:=h5}:=
    I.laid (t':=s.toks) (λb o e=>k5 b o (cQj (cQ2 (bY6 e))) (keep b o e)) M ⟨by rw[bYW,cQr];omega,_,c5,v2,o5⟩
   exact⟨_,rfl,bYY ⟨_,rfl,⟨.ref _,_,I5,rfl,q _ p fa.1 a5 a6⟩⟩⟩
end
end L2
namespace Fm
open Stree (qR jM wG)
structure Ok(n:Nat)(L:Nat->Option Nat)(rk:Nat->Nat):Prop where
 lt:∀i j,i<n->L i=some j->j<n/\rk j<rk i
def rdF(L:Nat->Option Nat)(D:Nat->Int):Nat->Nat->qR
 |0,i=> [(D i,(i:Int))]
 |f+1,i=>match L i with
  |none=> [(D i,(i:Int))]
  |some j=>rdF L D f j++ [(D i,(i:Int))]
def tpF(L:Nat->Option Nat):Nat->Nat->Nat
 |0,i=>i
 |f+1,i=>match L i with
  |none=>i
  |some j=>tpF L f j
section
variable {n:Nat}{L:Nat->Option Nat}{D:Nat->Int}{rk:Nat->Nat}
def aXS{i:Nat}(h:L i=none):∀f,rdF L D f i= [(D i,(i:Int))]
 |0=>rfl
 |f+1=>by unfold rdF;rw[h]
def aZf{i:Nat}(h:L i=none):∀f,tpF L f i=i
 |0=>rfl
 |f+1=>by unfold tpF;rw[h]
def jP(o:Ok n L rk):∀ (f g i:Nat),i<n->rk i<=f->rk i<=g->rdF L D f i=rdF L D g i
 |f,g,i,hi,hf,hg=>by
  cases h:L i with
  |none=>rw[aXS h,aXS h]
  |some j=>
   obtain⟨a,b⟩:=o.lt i j hi h;cases f with
   |zero=>omega
   |succ f=>
    cases g with
    |zero=>omega
    |succ g=>show(match L i with|none=>_|some j=>rdF L D f j++ [(D i,(i:Int))])=(match L i with|none=>_|some j=>rdF L D g j++ [(D i,(i:Int))]);rw[h];show rdF L D f j++_=rdF L D g j++_;rw[jP o f g j a (by omega) (by omega)]
def jU(o:Ok n L rk):∀ (f g i:Nat),i<n->rk i<=f->rk i<=g->tpF L f i=tpF L g i
 |f,g,i,hi,hf,hg=>by
  cases h:L i with
  |none=>rw[aZf h,aZf h]
  |some j=>
   obtain⟨a,b⟩:=o.lt i j hi h;cases f with
   |zero=>omega
   |succ f=>
    cases g with
    |zero=>omega
    |succ g=>show(match L i with|none=>_|some j=>tpF L f j)=(match L i with|none=>_|some j=>tpF L g j);rw[h];exact jU o f g j a (by omega) (by omega)
def rd(L:Nat->Option Nat)(D:Nat->Int)(rk:Nat->Nat)(i:Nat):qR:=rdF L D (rk i) i
def tp(L:Nat->Option Nat)(rk:Nat->Nat)(i:Nat):Nat:=tpF L (rk i) i
def X9{i:Nat}(h:L i=none):rd L D rk i= [(D i,(i:Int))]:=aXS h _
def wC{i:Nat}(h:L i=none):tp L rk i=i:=aZf h _
def uE(o:Ok n L rk){i j:Nat}(b:i<n)(h:L i=some j):rd L D rk i=rd L D rk j++ [(D i,(i:Int))]:=by
 obtain⟨a,d⟩:=o.lt i j b h;unfold rd;cases c:rk i with
 |zero=>omega
 |succ m=>show(match L i with|none=>_|some j=>rdF L D m j++ [(D i,(i:Int))])=_;rw[h];show rdF L D m j++_=_;rw[jP o m (rk j) j a (by omega) (bYZ _)]
def uJ(o:Ok n L rk){i j:Nat}(b:i<n)(h:L i=some j):tp L rk i=tp L rk j:=by
 obtain⟨a,d⟩:=o.lt i j b h;unfold tp;cases c:rk i with
 |zero=>omega
 |succ m=>show(match L i with|none=>_|some j=>tpF L m j)=_;rw[h];exact jU o m (rk j) j a (by omega) (bYZ _)
def aXz(o:Ok n L rk){P:Nat->Prop}(h0:∀i,i<n->L i=none->P i)(a:∀i j,i<n->L i=some j->P j->P i):∀ (m i:Nat),rk i<=m->i<n->P i
 |m,i,hm,hi=>by
  cases h:L i with
  |none=>exact h0 i hi h
  |some j=>
   obtain⟨b,c⟩:=o.lt i j hi h;cases m with
   |zero=>omega
   |succ m=>exact a i j hi h (aXz o h0 a m j (by omega) b)
def bQ1(o:Ok n L rk){i:Nat}(a:i<n):tp L rk i<n/\L (tp L rk i)=none:=
 aXz o (P:=λi=>tp L rk i<n/\L (tp L rk i)=none) (λi a h=>by rw[wC h];exact⟨a,h⟩) (λi j a h b=>by rw[uJ o a h];exact b) (rk i) i (bYZ _) a
def aXT(o:Ok n L rk){i:Nat}(a:i<n):∃r,rd L D rk i=r++ [(D i,(i:Int))]:=by
 cases h:L i with
 |none=>exact⟨[],X9 h⟩
 |some j=>exact⟨_,uE o a h⟩
def aY3(o:Ok n L rk){i j:Nat}(c:i<n)(b:j<n)(h:rd L D rk i=rd L D rk j):i=j:=by
 obtain⟨r,e⟩:=aXT (D:=D) o c;obtain⟨d,a⟩:=aXT (D:=D) o b;rw[e,a]at h;have:=(cZ2 h rfl).2;injection this with z _;have:=congrArg Prod.snd z;simp only at this;omega
def bVy(o:Ok n L rk){i:Nat}(a:i<n):∃r,rd L D rk i=(D (tp L rk i),((tp L rk i:Nat):Int))::r:=
 aXz o (P:=λi=>∃r,rd L D rk i=(D (tp L rk i),((tp L rk i:Nat):Int))::r) (λi a h=>⟨[],by rw[X9 h,wC h]⟩)
  (λi j a h ⟨r,e⟩=>⟨r++ [(D i,(i:Int))],by rw[uE o a h,uJ o a h,e];rfl⟩) (rk i) i (bYZ _) a
def Un(L:Nat->Option Nat)(D:Nat->Int)(rk:Nat->Nat)(v z:Nat):Prop:=rd L D rk v<+:rd L D rk z
def bKx(o:Ok n L rk){i:Nat}(a:i<n):Un L D rk (tp L rk i) i:=by
 obtain⟨r,e⟩:=bVy (D:=D) o a;have h:=(bQ1 o a).2;unfold Un;rw[X9 h,e];exact⟨r,rfl⟩
def bZZ(o:Ok n L rk){v:Nat}(q:v<n):∀ {k:Nat},k<n->Un L D rk v k->k≠v->∃c,c<n/\L c=some v/\Un L D rk c k:=λ{k} a i d=>by
 refine aXz o (P:=λk=>Un L D rk v k->k≠v->∃c,c<n/\L c=some v/\Un L D rk c k) (λk a h i d=>?_) (λk p a h s i d=>?_) (rk k) k (bYZ _) a i d
 ·obtain⟨r,e⟩:=i;obtain⟨j,l⟩:=aXT (D:=D) o q;rw[X9 h,l]at e;have hl:=congrArg cX0 e;simp only[cQf,cQR,cX3]at hl;have t:j= []:=cXG (by omega);have u:r= []:=cXG (by omega);rw[t,u]at e;injection e with z _;have:=congrArg Prod.snd z;simp only at this;omega
 ·obtain⟨y,_⟩:=o.lt k p a h;have b:=i;unfold Un at b;rw[uE o a h]at b;by_cases g:p=v
  ·subst g;exact⟨k,a,h,List.prefix_refl _⟩
  ·have f:Un L D rk v p:=by
    obtain⟨r,e⟩:=b;rcases List.eq_nil_or_concat r with rfl|⟨j,x,rfl⟩
    ·rw[cQV]at e;obtain⟨j,l⟩:=aXT (D:=D) o q;rw[l]at e;have:=(cZ2 e rfl).2;injection this with z _;have:=congrArg Prod.snd z;simp only at this;omega
    ·rw[List.concat_eq_append,<- cQ8]at e;exact⟨j,(cZ2 e rfl).1⟩
   obtain⟨c,w,hl,m⟩:=s f g;refine⟨c,w,hl,?_⟩;unfold Un;rw[uE o a h];exact List.IsPrefix.trans m (List.prefix_append _ _)
def bKw(o:Ok n L rk){v z:Nat}(c:v<n)(hz:z<n)(h:Un L D rk v z)(a:z≠v):jM (rd L D rk v) (rd L D rk z)=true:=by
 obtain⟨r,e⟩:=h;rw[<- e];refine Stree.aVL _ λb=>a ?_;rw[b,cQV]at e;exact(aY3 o c hz e).symm
def bKi(o:Ok n L rk){v c d z:Nat}(i:c<n)(f:d<n)(h:L c=some v)(b:L d=some v)(a:wG (D c,(c:Int)) (D d,(d:Int))=true)(g:Un L D rk c z):jM (rd L D rk z) (rd L D rk d)=true:=by
 obtain⟨r,e⟩:=g;rw[<- e,uE o i h,uE o f b,cQ8];exact Stree.aZM _ a
structure aJn(n:Nat)(L:Nat->Option Nat)(D:Nat->Int)(rk:Nat->Nat)(root:Nat)(told nx:List Nat):Prop where
 tl:∀x∈told,x<n/\tp L rk x=root
 al:∀x∈nx,x<n/\tp L rk x=root
 tt:told.Pairwise λx y=>jM (rd L D rk x) (rd L D rk y)=true
 ta:∀x∈told,∀y∈nx,jM (rd L D rk x) (rd L D rk y)=true
 aa:nx.Pairwise λx y=>∀z,Un L D rk x z->jM (rd L D rk z) (rd L D rk y)=true
 all:∀k,k<n->tp L rk k=root->k∈told\/∃a∈nx,Un L D rk a k
def aJn.start(o:Ok n L rk){i:Nat}(c:i<n):aJn n L D rk (tp L rk i) [] [tp L rk i]:=by
 have h:=bQ1 o c;refine⟨λx a=>(nomatch a),λx a=>?_,.nil,λx a=>(nomatch a),cXi _ _,λk b e=> .inr ⟨_,bY9.mpr rfl,?_⟩⟩
 ·rw[bY9.mp a];exact⟨h.1,by rw[wC h.2]⟩
 ·have z:=bKx (D:=D) o b;rw[e]at z;exact z
def aJn.step(o:Ok n L rk){j v:Nat}{l jY z9:List Nat}(W:aJn n L D rk j l (v::jY))(E:∀i,i∈z9↔i<n/\L i=some v)(I:z9.Pairwise λx y=>wG (D x,(x:Int)) (D y,(y:Int))=true):aJn n L D rk j (l++ [v]) (z9++jY):=by
 obtain⟨C,p⟩:=W.al v bY7;obtain⟨F,H⟩:=cXj.mp W.aa;have b:∀c∈z9,c<n/\L c=some v/\tp L rk c=j/\Un L D rk v c/\c≠v:=λc m=>by
  obtain⟨s,t⟩:=(E c).mp m;refine⟨s,t,by rw[uJ o s t];exact p,?_,λz=>?_⟩
  ·unfold Un;rw[uE o s t];exact List.prefix_append _ _
  ·have:=(o.lt c v s t).2;rw[z]at this;omega
 have self:∀x,Un L D rk x x:=λx=>List.prefix_refl _;refine⟨λx f=>?_,λx f=>?_,?_,λx f y g=>?_,?_,λk r u=>?_⟩
 ·rcases cQw.mp f with f|f
  ·exact W.tl x f
  ·rw[bY9.mp f];exact⟨C,p⟩
 ·rcases cQw.mp f with f|f
  ·exact⟨(b x f).1,(b x f).2.2.1⟩
  ·exact W.al x (bY4 _ f)
 ·refine cJF.mpr ⟨W.tt,cXi _ _,λx f y g=>?_⟩;rw[bY9.mp g];exact W.ta x f v bY7
 ·have q:∀y∈z9++jY,jM (rd L D rk v) (rd L D rk y)=true:=λy g=>by
   rcases cQw.mp g with g|g
   ·exact bKw o C (b y g).1 (b y g).2.2.2.1 (b y g).2.2.2.2
   ·exact F y g v (self v)
  rcases cQw.mp f with f|f
  ·exact Stree.X5 (W.ta x f v bY7) (q y g)
  ·rw[bY9.mp f];exact q y g
 ·refine cJF.mpr ⟨I.imp_of_mem λ{c d} m hd h z A=>bKi o (b c m).1 (b d hd).1 (b c m).2.1 (b d hd).2.1 h A,H,λc m y g z A=>?_⟩;exact F y g z (List.IsPrefix.trans (b c m).2.2.2.1 A)
 ·rcases W.all k r u with h|⟨a,B,G⟩
  ·exact .inl (cXP _ h)
  ·rcases bY1.mp B with rfl|B
   ·by_cases e:k=a
    ·exact .inl (cQg _ (bY9.mpr e))
    ·obtain⟨c,m,hl,w⟩:=bZZ o C r G e;exact .inr ⟨c,cXP _ ((E c).mpr ⟨m,hl⟩),w⟩
   ·exact .inr ⟨a,cQg _ B,G⟩
def aJn.nodup{b:Nat}{a nx:List Nat}(W:aJn n L D rk b a nx):a.Nodup:=
 W.tt.imp λ{x y} h z=>by rw[z,Stree.vR]at h;cases h
def wP:∀ {n:Nat} {l:List Nat},l.Nodup->(∀x∈l,x<n)->l.length<=n
 |0,[],_,_=>bYZ _
 |0,x::_,_,h=>absurd (h x bY7) (cXE _)
 |n+1,l,nd,h=>by
  by_cases b:n∈l
  ·have c:=wP (n:=n) (l:=l.erase n) (nd.erase n) λx a=>by
    have:=(cVh nd).mp a;have:=h x this.2;omega
   rw[cVi b]at c;omega
  ·have c:=wP (n:=n) (l:=l) nd λx a=>by
    have:=h x a;have:x≠n:=λz=>b (z ▸ a);omega
   omega
def aJn.len{b:Nat}{a nx:List Nat}(W:aJn n L D rk b a nx):a.length<=n:=wP W.nodup λx c=>(W.tl x c).1
def aJn.done{c:Nat}{b:List Nat}(W:aJn n L D rk c b [])(k:Nat):k∈b↔k<n/\tp L rk k=c:=
 ⟨λh=>W.tl k h,λ⟨e,d⟩=>(W.all k e d).elim id λ⟨a,f,_⟩=>nomatch f⟩
end
end Fm
namespace Fm
open Stree (qR jM wG)
section
variable {n:Nat}{L:Nat->Option Nat}{D:Nat->Int}{rk rk':Nat->Nat}
def aY4(o:Ok n L rk)(b:Ok n L rk'){i:Nat}(a:i<n):rd L D rk i=rd L D rk' i:=by
 unfold rd;rw[jP o (rk i) (max (rk i) (rk' i)) i a (bYZ _) (Nat.le_max_left _ _),jP b (rk' i) (max (rk i) (rk' i)) i a (bYZ _) (Nat.le_max_right _ _)]
def qP(o:Ok n L rk)(b:Ok n L rk'){i:Nat}(a:i<n):tp L rk i=tp L rk' i:=by
 unfold tp;rw[jU o (rk i) (max (rk i) (rk' i)) i a (bYZ _) (Nat.le_max_left _ _),jU b (rk' i) (max (rk i) (rk' i)) i a (bYZ _) (Nat.le_max_right _ _)]
def bVz(o:Ok n L rk){i:Nat}(d:i<n):∃l:List Nat,(rd L D rk i).map (·.2)=l.map (λk:Nat=>(k:Int))/\l.Nodup/\(∀k∈l,k<n/\rk k<=rk i):=
 aXz o (P:=λi=>∃l:List Nat,(rd L D rk i).map (·.2)=l.map (λk:Nat=>(k:Int))/\l.Nodup/\(∀k∈l,k<n/\rk k<=rk i)) (λi d h=>⟨[i],by rw[X9 h];rfl,by simp,λk c=>by rw[bY9.mp c];exact⟨d,bYZ _⟩⟩)
  (λi j d h ⟨l,e,nd,hl⟩=>by
   obtain⟨p,m⟩:=o.lt i j d h;refine⟨l++ [i],by rw[uE o d h,cXc,cXc,e];rfl,?_,λk c=>?_⟩
   ·rw[cZl];refine⟨nd,by simp,λa g b f z=>?_⟩;rw[bY9.mp f]at z;have:=(hl a g).2;rw[z]at this;omega
   ·rcases cQw.mp c with c|c
    ·have:=hl k c;exact⟨this.1,by omega⟩
    ·rw[bY9.mp c];exact⟨d,bYZ _⟩) (rk i) i (bYZ _) d
def bW9(o:Ok n L rk){i:Nat}(c:i<n):(rd L D rk i).length<=n:=by
 obtain⟨l,e,b,hl⟩:=bVz (D:=D) o c;have h:=congrArg cX0 e;rw[bYW,bYW]at h;rw[h];exact wP b λk a=>(hl k a).1
def bJX(o:Ok n L rk){a b:Nat}(ha:a<n)(hb:b<n)(h0:L a=none)(hne:tp L rk b≠a):Ok n (λi=>if i=a then some b else L i) (λi=>if tp L rk i=a then rk i+rk b+1 else rk i) where
 lt:=λi j hi h=>by
  by_cases e:i=a
  ·subst e
   rw[if_pos rfl]at h
   cases h
   rw[if_neg hne,if_pos (wC h0)]
   exact⟨hb,by omega⟩
  ·rw[if_neg e]at h
   obtain⟨hj,hr⟩:=o.lt i j hi h
   have et:=uJ o hi h
   refine⟨hj,?_⟩
   rw[et]
   split<;> omega
def bXE(o:Ok n L rk)(a:Nat):Ok n (λi=>if i=a then none else L i) rk where
 lt:=λi j hi h=>by
  by_cases e:i=a
  ·rw[if_pos e]at h;cases h
  ·rw[if_neg e]at h;exact o.lt i j hi h
def bJA(rk:Nat->Nat):Option Nat->Nat
 |none=>0
 |some j=>rk j+1
def bXj(o:Ok n L rk)(l:Option Nat)(hl:∀j,l=some j->j<n):Ok (n+1) (λi=>if i=n then l else L i) (λi=>if i=n then bJA rk l else rk i) where
 lt:=λi j hi h=>by
  by_cases e:i=n
  ·rw[if_pos e]at h
   have hj:=hl j h
   rw[if_pos e,if_neg (by omega),h]
   exact⟨by omega,cXJ _⟩
  ·rw[if_neg e]at h
   obtain⟨hj,hr⟩:=o.lt i j (by omega) h
   rw[if_neg e,if_neg (by omega)]
   exact⟨by omega,hr⟩
def bWg(o:Ok n L rk){i:Nat}(a:i<n):tp L rk (tp L rk i)=tp L rk i:=wC (bQ1 o a).2
def Ok.congr{b:Nat->Option Nat}(o:Ok n L rk)(h:∀i,i<n->L i=b i):Ok n b rk:=⟨λi j a e=>o.lt i j a ((h i a).trans e)⟩
end
end Fm
namespace Dm
def opn(d:Int):Bool:=decide (d % 7<5)
def cts(a:List Int)(d:Int):Bool:=opn d && !(a.contains d)
def cnt(b:List Int)(a:Int):Nat->Nat
 |0=>0
 |n+1=>cnt b a n+(if cts b (a+n)then 1 else 0)
def place(d:Int):Int:=d / 7*5+(if 4<d % 7 then 4 else d % 7)
def zP(p:Int):Int:=p / 5*7+p % 5
def aKg(d:Int):place d=place (d - 1)+(if opn d then 1 else 0):=by
 unfold place opn;simp only[decide_eq_true_eq];split<;> split<;> split<;> omega
def bJL(b:List Int)(a:Int)(n m:Nat):cnt b a (n+m)=cnt b a n+cnt b (a+n) m:=by
 induction m with
 |zero=>rfl
 |succ m d=>have e:cnt b a (n+(m+1))=cnt b a (n+m)+(if cts b (a+((n+m:Nat):Int))then 1 else 0):=rfl;have c:cnt b (a+n) (m+1)=cnt b (a+n) m+(if cts b (a+n+(m:Int))then 1 else 0):=rfl;rw[e,c,d,show a+((n+m:Nat):Int)=a+n+(m:Int) by omega];omega
def vD(a b:Int)(d:Int):Bool:=decide (a<=d) && decide (d<=b)
def aJG{S:List Int}(i:S.Nodup)(a b:Int)(h:a<=b+1): (S.filter (vD a (b+1))).length=(S.filter (vD a b)).length+(if S.contains (b+1)then 1 else 0):=by
 induction S with
 |nil=>rfl
 |cons x r d=>
  have c:=cX5.mp i;have d:=d c.2;by_cases j:x=b+1
  ·subst j;have k:r.contains (b+1)=false:=by
    rw[<- Bool.not_eq_true,cXt];exact c.1
   rw[k]at d;have f:vD a (b+1) (b+1)=true:=by simp[vD,h]
   have g:vD a b (b+1)=false:=by simp[vD];omega
   rw[cXz f,cXy (by rw[g];decide)];simp at d ⊢;omega
  ·have f:vD a (b+1) x=vD a b x:=by
    unfold vD;have:decide (x<=b+1)=decide (x<=b):=by rw[decide_eq_decide];omega
    rw[this]
   have g:(x::r).contains (b+1)=r.contains (b+1):=by
    rw[cZf];have:(b+1==x)=false:=by simp;omega
    rw[this,Bool.false_or]
   rw[g];by_cases e:vD a b x=true
   ·rw[cXz (by rw[f];exact e),cXz e];simp only[cQR];omega
   ·rw[cXy (by rw[f];exact e),cXy e];exact d
def aWA{b S:List Int}(g:S.Nodup)(h:∀d,d∈S↔d∈b/\opn d=true)(a:Int)(n:Nat): (cnt b a n:Int)=place (a+n - 1) - place (a - 1) - ((S.filter (vD a (a+n - 1))).length:Nat):=by
 induction n with
 |zero=>
  have:S.filter (vD a (a+(0:Nat) - 1))= []:=by rw[List.filter_eq_nil_iff];intro x _;simp[vD];omega
  rw[this];simp[cnt]
 |succ n j=>
  have f:=aJG g a (a+n - 1) (by omega);rw[show a+(n:Int) - 1+1=a+n by omega]at f;have p:=aKg (a+n);rw[show a+((n+1:Nat):Int) - 1=a+n by omega];show((cnt b a n+(if cts b (a+n)then 1 else 0):Nat):Int)=_;have c:(if cts b (a+n)then 1 else 0:Nat)+(if S.contains (a+n)then 1 else 0:Nat)=(if opn (a+n)then 1 else 0:Nat):=by
   have i:S.contains (a+n)=(b.contains (a+n) && opn (a+n)):=by rw[Bool.eq_iff_iff,cXt,Bool.and_eq_true,cXt];exact h _
   rw[i];unfold cts;cases opn (a+↑n)<;> cases b.contains (a+↑n)<;> rfl
  have e:place (a+n)=place (a+n - 1)+((if opn (a+n)then 1 else 0:Nat):Int):=by rw[p];cases opn (a+↑n)<;> rfl
  rw[e,f];push_cast;omega
def aJ2(p:Int):place (zP p)=p:=by
 unfold place zP;split<;> omega
def aZU(p:Int):opn (zP p)=true:=by
 unfold opn zP;rw[decide_eq_true_eq];omega
def bXe{p q:Int}(h:p<q):zP p<zP q:=by
 unfold zP;omega
def bXd{p q:Int}(h:p<=q):zP p<=zP q:=by
 unfold zP;omega
def aJC(d:Int):d<zP (place d+1):=by
 unfold place zP;split<;> omega
def uU(date:Int)(p c:Int):Int:=if date<c/\c<=zP p then p+1 else p
def aXG(date:Int)(p:Int)(C:List Int):Int:=C.foldl (uU date) p
def vH(date e:Int)(c:Int):Bool:=decide (date<c) && decide (c<=e)
def aVC{date:Int}(f:Int):∀ (d b:List Int)(p:Int),(b++d).Pairwise (·<·)->
  p=f+((b.filter (vH date (zP p))).length:Nat)->(∀c∈b,date<c->c≠zP p)->f<=p->
  ∃q,aXG date p d=q/\q=f+(((b++d).filter (vH date (zP q))).length:Nat)/\(∀c∈b++d,date<c->c≠zP q)/\f<=q
 |[],b,p,_,h1,h2,h3=>⟨p,rfl,by rw[cQV];exact h1,by rw[cQV];exact h2,h3⟩
 |c::d,b,p,hs,h1,h2,h3=>by
  have g:((b++ [c])++d).Pairwise (·<·):=by rw[cQ8];exact hs
  have lt:∀x∈b,x<c:=λx a=>(cJF.mp hs).2.2 x a c (bY7 ..);have fin:=aVC (date:=date) f d (b++ [c]);have step:aXG date p (c::d)=aXG date (uU date p c) d:=rfl;rw[step,show b++c::d=(b++ [c])++d by simp];by_cases j:date<c/\c<=zP p
  ·have e:uU date p c=p+1:=if_pos j;rw[e];have up:=bXe (show p<p+1 by omega);refine fin (p+1) g ?_ ?_ (by omega)
   ·have k:b.filter (vH date (zP (p+1)))=b.filter (vH date (zP p)):=by
     refine cJ5 λx a=>?_;have:=lt x a;unfold vH;have q:decide (x<=zP (p+1))=decide (x<=zP p):=by rw[decide_eq_decide];omega
     rw[q]
    have h:vH date (zP (p+1)) c=true:=by simp[vH];omega
    rw[cQ3,k,cXz h,cQf];simp only[List.filter_nil,cQR,cX3];omega
   ·intro x a i;rcases cQw.mp a with a|a
    ·have:=lt x a;omega
    ·have:x=c:=by simpa using a
     omega
  ·have e:uU date p c=p:=if_neg j;rw[e];refine fin p g ?_ ?_ h3
   ·have h:vH date (zP p) c=false:=by simp[vH];omega
    rw[cQ3,cXy (by rw[h];decide)];simpa using h1
   ·intro x a i;rcases cQw.mp a with a|a
    ·exact h2 x a i
    ·have:x=c:=by simpa using a
     omega
structure Due(sh:List Int)(date term D:Int):Prop where
 later:date<D
 cts:cts sh D=true
 cnt:(cnt sh (date+1) (D - date).toNat:Int)=term
def bJa{g C:List Int}{date term:Int}(o:1<=term)(f:C.Pairwise (·<·))(c:∀d,d∈C↔d∈g/\opn d=true): Due g date term (zP (aXG date (place date+term) C)):=by
 obtain⟨q,e,m,b,p⟩:=aVC (date:=date) (place date+term) C [] (place date+term) (by simpa using f) (by simp) (by simp) (Int.le_refl _);rw[e];rw[List.nil_append]at m b;have a:date<zP q:=Int.lt_of_lt_of_le (aJC date) (bXd (by omega));refine⟨a,?_,?_⟩
 ·unfold Dm.cts;rw[aZU,Bool.true_and,Bool.not_eq_true'];rw[<- Bool.not_eq_true,cXt];exact λz=>b _ ((c _).mpr ⟨z,aZU q⟩) a rfl
 ·have l:C.Nodup:=f.imp λh=>by omega
  have k:=aWA l c (date+1) (zP q - date).toNat;have n:date+1+((zP q - date).toNat:Int) - 1=zP q:=by omega
  have i:date+1 - 1=date:=by omega
  rw[n,i,aJ2]at k;have j:C.filter (vD (date+1) (zP q))=C.filter (vH date (zP q)):=by
   refine cJ5 λx _=>?_;unfold vD vH;have:decide (date+1<=x)=decide (date<x):=by rw[decide_eq_decide];omega
   rw[this]
  rw[j]at k;omega
def bQ9(b:List Int)(a:Int){n m:Nat}(h:n<=m):cnt b a n<=cnt b a m:=by
 obtain⟨k,rfl⟩:=Nat.le.dest h;rw[bJL];omega
def Due.less{a:List Int}{date term D:Int}(u:Due a date term D){n:Nat}(h:date+n<D):(Dm.cnt a (date+1) n:Int)<term:=by
 have e:(D - date).toNat=((D - date).toNat - 1)+1:=by have:=u.later;omega
 have k:=u.cnt;rw[e]at k;have b:Dm.cnt a (date+1) (((D - date).toNat - 1)+1)=Dm.cnt a (date+1) ((D - date).toNat - 1)+(if Dm.cts a (date+1+(((D - date).toNat - 1:Nat):Int))then 1 else 0):=rfl;have c:date+1+(((D - date).toNat - 1:Nat):Int)=D:=by have:=u.later;omega
 rw[c,u.cts]at b;have m:=bQ9 a (date+1) (show n<=(D - date).toNat - 1 by omega);simp only[if_true]at b;omega
def Due.uniq{d:List Int}{date term D c:Int}(u:Due d date term D)(v:Due d date term c):D=c:=by
 have a:=u.later;have b:=v.later;have f:¬D<c:=λh=>by have:=v.less (n:=(D - date).toNat) (by omega);have:=u.cnt;omega
 have e:¬c<D:=λh=>by have:=u.less (n:=(c - date).toNat) (by omega);have:=v.cnt;omega
 omega
end Dm
namespace Bk
open PySem (Str)
open Stree (qR jM wG)
structure Row where
 way:Str
 date:Int
 partner:Str
 term:Int
 link:Option Nat
 place:Str
 void:Bool
 copies:List Str
abbrev Rows:=List Row
def lk(R:Rows)(i:Nat):Option Nat:=(R[i]?).bind (·.link)
def dt(R:Rows)(i:Nat):Int:=((R[i]?).map (·.date)).getD 0
def wW(R:Rows)(m:Int):Bool:=decide (0<=m) && (match R[m.toNat]? with|some r=> !r.void|none=>false)
inductive bYw(R:Rows)(m:Int):Prop|mk(k:Nat)(r:Row)(_:m=(k:Int))(_:k<R.length)(_:R[k]? =some r)(_:r.void=false)
def wJ{R:Rows}{m:Int}(h:wW R m=true):bYw R m:=by
 unfold wW at h;rw[Bool.and_eq_true,decide_eq_true_eq]at h;obtain⟨c,a⟩:=h;cases e:R[m.toNat]? with
 |none=>rw[e]at a;cases a
 |some r=>rw[e]at a;refine⟨m.toNat,r,by omega,(bY3.mp e).1,e,?_⟩;have b:(!r.void)=true:=a;simpa using b
def jG(R:Rows):Prop:=∃a,Fm.Ok R.length (lk R) a
def wI(R:Rows)(i:Nat)(l:List Nat):Prop:=∃a,Fm.Ok R.length (lk R) a/\(l.Pairwise λx y=>jM (Fm.rd (lk R) (dt R) a x) (Fm.rd (lk R) (dt R) a y)=true)/\∀k,k∈l↔k<R.length/\Fm.tp (lk R) a k=Fm.tp (lk R) a i
def wI.uniq{R:Rows}{i:Nat}{l m:List Nat}(n:i<R.length)(g:wI R i l)(j:wI R i m):l=m:=by
 obtain⟨q,o,p,e⟩:=g;obtain⟨s,d,r,f⟩:=j;refine Stree.uniq (lt:=λx y=>jM (Fm.rd (lk R) (dt R) q x) (Fm.rd (lk R) (dt R) q y)=true) (λa h=>by rw[Stree.vR]at h;cases h) (λa b c g j=>Stree.X5 g j) p ?_ λk=>?_
 ·refine r.imp_of_mem λ{x y} hx hy h=>?_;rw[Fm.aY4 o d ((f x).mp hx).1,Fm.aY4 o d ((f y).mp hy).1];exact h
 ·rw[e k,f k];constructor
  ·rintro⟨a,b⟩;exact⟨a,by rw[<- Fm.qP o d a,<- Fm.qP o d n];exact b⟩
  ·rintro⟨a,b⟩;exact⟨a,by rw[Fm.qP o d a,Fm.qP o d n];exact b⟩
def z9(R:Rows)(i:Nat):List Nat:=(bY5 R.length).filter λk=>decide (lk R k=some i)
def Q2(R:Rows)(i:Nat)(d:Int):Bool:=match R[i]? with
 |none=>false
 |some r=> !r.void && decide (1<=r.term) && decide (r.date<=d) && (z9 R i).all λk=>decide (d<dt R k)
def xO(R:Rows)(i:Nat)(f:Row->Row):Rows:=match R[i]? with
 |some r=>R.set i (f r)
 |none=>R
def zU(R:Rows)(i:Nat)(f:Row->Row):(xO R i f).length=R.length:=by unfold xO;split<;> simp
def zM(R:Rows)(i j:Nat)(f:Row->Row):(xO R i f)[j]? =if j=i then(R[j]?).map f else R[j]? :=by
 unfold xO;by_cases e:j=i
 ·subst e;rw[if_pos rfl];cases h:R[j]? with
  |none=>simp[h]
  |some r=>have a:j<R.length:=(bY3.mp h).1;simp[cZN a]
 ·rw[if_neg e];cases h:R[i]? with
  |none=>rfl
  |some r=>simp[cJE (cQB e)]
def laid(R:Rows)(l:List Nat)(name:Str):Rows:=l.foldl (λR k=>xO R k λr=>{r with place:=name}) R
def qZ(R:Rows)(i:Nat)(f:Row->Row)(h:∀r,(f r).link=r.link):lk (xO R i f)=lk R:=by
 funext j;unfold lk;rw[zM];by_cases e:j=i
 ·rw[if_pos e];cases R[j]? with
  |none=>rfl
  |some r=>exact h r
 ·rw[if_neg e]
def wY(name:Str):∀ (l:List Nat)(R:Rows),(laid R l name).length=R.length
 |[],R=>rfl
 |k::l,R=>by show(laid (xO R k _) l name).length=_;rw[wY name l,zU]
def aQs(name:Str):∀ (l:List Nat)(R:Rows),lk (laid R l name)=lk R
 |[],R=>rfl
 |k::l,R=>by show lk (laid (xO R k _) l name)=_;rw[aQs name l,qZ R k (λr=>{r with place:=name}) λ_=>rfl]
def uA(name:Str):∀ (l:List Nat)(R:Rows)(j:Nat),(laid R l name)[j]? =if j∈l then(R[j]?).map (λr=>{r with place:=name})else R[j]?
 |[],R,j=>by simp[laid]
 |k::l,R,j=>by
  show(laid (xO R k _) l name)[j]? =_;rw[uA name l,zM];by_cases e:j=k
  ·subst e;rw[if_pos rfl,if_pos bY7];split
   ·cases R[j]? <;> rfl
   ·rfl
  ·rw[if_neg e];by_cases hl:j∈l
   ·rw[if_pos hl,if_pos (bY4 _ hl)]
   ·rw[if_neg hl,if_neg (by simp[e,hl])]
def jG.laid{R:Rows}(t:jG R)(l:List Nat)(name:Str):jG (laid R l name):=by
 obtain⟨a,o⟩:=t;refine⟨a,?_⟩;rw[wY,aQs];exact o
def jG.same{R:Rows}(t:jG R)(i:Nat)(f:Row->Row)(h:∀r,(f r).link=r.link):jG (xO R i f):=by
 obtain⟨a,o⟩:=t;refine⟨a,?_⟩;rw[zU,qZ R i f h];exact o
def aVM(R:Rows){i:Nat}(a:i<R.length)(f:Row->Row)(l:Option Nat)(h:∀r,(f r).link=l):lk (xO R i f)=λj=>if j=i then l else lk R j:=by
 funext j;unfold lk;rw[zM];by_cases e:j=i
 ·subst e;rw[if_pos rfl,if_pos rfl,bYR a];exact h _
 ·rw[if_neg e,if_neg e]
def jG.loose{R:Rows}(t:jG R){i:Nat}(a:i<R.length)(f:Row->Row)(h:∀r,(f r).link=none):jG (xO R i f):=by
 obtain⟨b,o⟩:=t;refine⟨b,?_⟩;rw[zU,aVM R a f none h];exact Fm.bXE o i
def jG.hang{R:Rows}{rk:Nat->Nat}(o:Fm.Ok R.length (lk R) rk){i j:Nat}(b:i<R.length)(c:j<R.length)(h0:lk R i=none)(a:Fm.tp (lk R) rk j≠i)(f:Row->Row)(h:∀r,(f r).link=some j):jG (xO R i f):=by
 refine⟨λk=>if Fm.tp (lk R) rk k=i then rk k+rk j+1 else rk k,?_⟩;rw[zU,aVM R b f (some j) h];exact Fm.bJX o b c h0 a
def bJ4(R:Rows)(r:Row):∀i,i<R.length+1->lk (R++ [r]) i=if i=R.length then r.link else lk R i:=λi a=>by
 unfold lk;by_cases e:i=R.length
 ·subst e;rw[if_pos rfl,cQi (bYZ _)];simp
 ·rw[if_neg e,cQz (by omega)]
def jG.enter{R:Rows}(t:jG R)(r:Row)(h:∀j,r.link=some j->j<R.length):jG (R++ [r]):=by
 obtain⟨a,o⟩:=t;have z:=Fm.bXj o r.link h;refine⟨λi=>if i=R.length then Fm.bJA a r.link else a i,?_⟩;rw[cQf,cQ5];exact z.congr λi b=>(bJ4 R r i b).symm
end Bk
namespace Bk
open PySem (Str)
open Stree (qR jM wG)
def bQG{n:Nat}{L:Nat->Option Nat}{D:Nat->Int}{rk:Nat->Nat}(o:Fm.Ok n L rk):∀l:List Nat,l.Nodup->(∀k∈l,k<n)->∃m:List Nat,m.Perm l/\m.Pairwise λx y=>jM (Fm.rd L D rk x) (Fm.rd L D rk y)=true
 |[],_,_=>⟨[],.refl _,.nil⟩
 |x::l,nd,h=>by
  obtain⟨m,i,s⟩:=bQG (D:=D) o l (cX5.mp nd).2 λk c=>h k (bY4 _ c);have r:x<n:=h x bY7;have g:∀k∈m,k<n/\k≠x:=λk c=>⟨h k (bY4 _ (i.mem_iff.mp c)),λz=>(cX5.mp nd).1 (by rw[<- z];exact i.mem_iff.mp c)⟩;have ins:∀m:List Nat,(∀k∈m,k<n/\k≠x)->(m.Pairwise λx y=>jM (Fm.rd L D rk x) (Fm.rd L D rk y)=true)->∃d:List Nat,d.Perm (x::m)/\d.Pairwise λx y=>jM (Fm.rd L D rk x) (Fm.rd L D rk y)=true:=by
   intro m;induction m with
   |nil=>intro _ _;exact⟨[x],.refl _,cXi _ _⟩
   |cons y m t=>
    intro j p;obtain⟨a,b⟩:=cXj.mp p;have q:=j y bY7;rcases Stree.aXO (λz=>q.2 (Fm.aY3 o q.1 r z):Fm.rd L D rk y≠Fm.rd L D rk x)with z|z
    ·obtain⟨d,e,f⟩:=t (λk c=>j k (bY4 _ c)) b;refine⟨y::d,(List.Perm.cons _ e).trans (List.Perm.swap _ _ _),cXj.mpr ⟨λk c=>?_,f⟩⟩;rcases bY1.mp (e.mem_iff.mp c)with rfl|c
     ·exact z
     ·exact a k c
    ·refine⟨x::y::m,.refl _,cXj.mpr ⟨λk c=>?_,p⟩⟩;rcases bY1.mp c with rfl|c
     ·exact z
     ·exact Stree.X5 z (a k c)
  obtain⟨d,e,f⟩:=ins m g s;exact⟨d,e.trans (List.Perm.cons _ i),f⟩
def bQ0{R:Rows}(t:jG R)(i:Nat):∃l,wI R i l:=by
 obtain⟨a,o⟩:=t;obtain⟨m,d,c⟩:=bQG (D:=dt R) o ((bY5 R.length).filter λk=>decide (Fm.tp (lk R) a k=Fm.tp (lk R) a i)) (cZ3.sublist cXU) λk b=>cQu.mp (cQ0.mp b).1;refine⟨m,a,o,c,λk=>?_⟩;rw[d.mem_iff,cQ0,cQu,decide_eq_true_eq]
open Classical in
noncomputable def thr (R:Rows) (i:Nat):List Nat:=if h:∃l,wI R i l then choose h else []
def J7{R:Rows}(t:jG R)(i:Nat):wI R i (thr R i):=by
 have h:=bQ0 t i;unfold thr;rw[dif_pos h];exact cJx h
def aJi{R:Rows}{i:Nat}(a:i<R.length){l:List Nat}(h:wI R i l):thr R i=l:=
 wI.uniq a (by obtain⟨b,o,_⟩:=h;exact J7 ⟨b,o⟩ i) h
open Classical in
noncomputable def due (shut:List Int) (d t:Int):Int:=if h:∃D,Dm.Due shut d t D then choose h else d
def bZ9{shut:List Int}{d t D:Int}(h:Dm.Due shut d t D):due shut d t=D:=by
 have a:∃D,Dm.Due shut d t D:=⟨D,h⟩;unfold due;rw[dif_pos a];exact(cJx a).uniq h
structure aKM(R:Rows)(shut:List Int)(d:Int)(late:Bool)(l:List Nat):Prop where
 mem:∀k,k∈l↔k<R.length/\Q2 R k d=true/\(late=true->due shut (dt R k) (((R[k]?).map (·.term)).getD 0)<d)
 ord:l.Pairwise λx y=>wG (due shut (dt R x) (((R[x]?).map (·.term)).getD 0),(x:Int)) (due shut (dt R y) (((R[y]?).map (·.term)).getD 0),(y:Int))=true
def aKM.uniq{R:Rows}{shut:List Int}{d:Int}{e:Bool}{l m:List Nat}(g:aKM R shut d e l)(f:aKM R shut d e m):l=m:=
 Stree.uniq (lt:=λx y=>wG (due shut (dt R x) (((R[x]?).map (·.term)).getD 0),(x:Int)) (due shut (dt R y) (((R[y]?).map (·.term)).getD 0),(y:Int))=true) (λa h=>by rw[Stree.wZ]at h;cases h) (λa b c g f=>Stree.aXN g f) g.ord f.ord λk=>by rw[g.mem k,f.mem k]
inductive Ans where
 |num (n:Int)|txt (x:Str)|nums (l:List Nat)|txts (l:List Str)|row (r:Row)
inductive xP where
 |enter (way:Str) (day:Int) (who:Str) (term:Int)|reply (m:Int) (day term:Int)|hang (m o:Int)|loose (m:Int)|date (m d:Int)|term (m t:Int)
 |copy (m:Int) (who:Str)|file (m:Int) (name:Str)|void (m:Int)|shut (d:Int)|state (m:Int)|thread (m:Int)|copies (m:Int)|letters (name:Str)|on (late:Bool) (d:Int)
def uZ(a:Str):Str:=if a="in" then BK else "in"
inductive x2(R:Rows)(S:List Int):xP->Ans->Rows->List Int->Prop
 |enter {way who:Str} {d t:Int} (h:0<=t):x2 R S (.enter way d who t) (.num R.length) (R++ [⟨way,d,who,t,none,"",false,[]⟩]) S
 |enterT {way who:Str} {d t:Int} (h:t<0):x2 R S (.enter way d who t) (.txt "no term") R S
 |replyN {m d t:Int} (h:wW R m=false):x2 R S (.reply m d t) (.txt "no letter") R S
 |replyT {m d t:Int} (h:wW R m=true) (ht:t<0):x2 R S (.reply m d t) (.txt "no term") R S
 |replyE {k:Nat} {d t:Int} {r:Row} (hk:R[k]? =some r) (h:r.void=false) (ht:0<=t) (hd:d<r.date):x2 R S (.reply k d t) (.txt "too early") R S
 |reply {k:Nat} {d t:Int} {r:Row} (hk:R[k]? =some r) (h:r.void=false) (ht:0<=t) (hd:r.date<=d):x2 R S (.reply k d t) (.num R.length) (R++ [⟨uZ r.way,d,r.partner,t,some k,r.place,false,[]⟩]) S
 |hangN {m o:Int} (h:wW R m=false\/wW R o=false):x2 R S (.hang m o) (.txt "no letter") R S
 |hangH {i j:Nat} {r q:Row} (hi:R[i]? =some r) (hv:r.void=false) (hj:R[j]? =some q) (hw:q.void=false) (h:r.link≠none):x2 R S (.hang i j) (.txt "has one") R S
 |hangO {i j:Nat} {r q:Row} (hi:R[i]? =some r) (hv:r.void=false) (hj:R[j]? =some q) (hw:q.void=false) (h:r.link=none) (ho:(thr R j).head? =some i):x2 R S (.hang i j) (.txt "own thread") R S
 |hangW {i j:Nat} {r q:Row} (hi:R[i]? =some r) (hv:r.void=false) (hj:R[j]? =some q) (hw:q.void=false) (h:r.link=none) (ho:(thr R j).head? ≠some i) (h1:r.way=q.way):x2 R S (.hang i j) (.txt "same way") R S
 |hangP {i j:Nat} {r q:Row} (hi:R[i]? =some r) (hv:r.void=false) (hj:R[j]? =some q) (hw:q.void=false) (h:r.link=none) (ho:(thr R j).head? ≠some i) (h1:r.way≠q.way) (h2:r.partner≠q.partner):x2 R S (.hang i j) (.txt "other partner") R S
 |hangE {i j:Nat} {r q:Row} (hi:R[i]? =some r) (hv:r.void=false) (hj:R[j]? =some q) (hw:q.void=false) (h:r.link=none) (ho:(thr R j).head? ≠some i) (h1:r.way≠q.way) (h2:r.partner=q.partner) (h3:r.date<q.date):x2 R S (.hang i j) (.txt "too early") R S
 |hang {i j:Nat} {r q:Row} (hi:R[i]? =some r) (hv:r.void=false) (hj:R[j]? =some q) (hw:q.void=false) (h:r.link=none) (ho:(thr R j).head? ≠some i) (h1:r.way≠q.way) (h2:r.partner=q.partner) (h3:q.date<=r.date):
   x2 R S (.hang i j) (.txt "hung") (xO (laid R (thr R i) q.place) i λr=>{r with link:=some j}) S
 |oneN {m:Int} {e:xP} (h:wW R m=false) (he:e= .loose m\/(∃d,e= .date m d)\/(∃t,e= .term m t)\/(∃w,e= .copy m w)\/(∃w,e= .file m w)\/e= .void m\/e= .state m\/e= .thread m\/e= .copies m):x2 R S e (.txt "no letter") R S
 |looseN {k:Nat} {r:Row} (hk:R[k]? =some r) (hv:r.void=false) (h:r.link=none):x2 R S (.loose k) (.txt "has none") R S
 |loose {k:Nat} {r:Row} (hk:R[k]? =some r) (hv:r.void=false) (h:r.link≠none):x2 R S (.loose k) (.txt Bv) (xO R k λr=>{r with link:=none}) S
 |dateE {k:Nat} {r:Row} {d:Int} (hk:R[k]? =some r) (hv:r.void=false) (h:(∃j,r.link=some j/\d<dt R j)\/∃c∈z9 R k,dt R c<d):x2 R S (.date k d) (.txt "too early") R S
 |date {k:Nat} {r:Row} {d:Int} (hk:R[k]? =some r) (hv:r.void=false) (h1:∀j,r.link=some j->dt R j<=d) (h2:∀c∈z9 R k,d<=dt R c):x2 R S (.date k d) (.txt "dated") (xO R k λr=>{r with date:=d}) S
 |termN {k:Nat} {r:Row} {t:Int} (hk:R[k]? =some r) (hv:r.void=false) (h:t<0):x2 R S (.term k t) (.txt "no term") R S
 |term {k:Nat} {r:Row} {t:Int} (hk:R[k]? =some r) (hv:r.void=false) (h:0<=t):x2 R S (.term k t) (.txt B4) (xO R k λr=>{r with term:=t}) S
 |copyC {k:Nat} {r:Row} {w:Str} (hk:R[k]? =some r) (hv:r.void=false) (h:w=r.partner\/w∈r.copies):x2 R S (.copy k w) (.txt CP) R S
 |copy {k:Nat} {r:Row} {w:Str} (hk:R[k]? =some r) (hv:r.void=false) (h:w≠r.partner) (h2:w∉r.copies):x2 R S (.copy k w) (.num (r.copies.length+1)) (xO R k λr=>{r with copies:=r.copies++ [w] }) S
 |file {k:Nat} {r:Row} {w:Str} (hk:R[k]? =some r) (hv:r.void=false):x2 R S (.file k w) (.num (thr R k).length) (laid R (thr R k) w) S
 |voidA {k:Nat} {r:Row} (hk:R[k]? =some r) (hv:r.void=false) (h:z9 R k≠ []):x2 R S (.void k) (.txt B2) R S
 |void {k:Nat} {r:Row} (hk:R[k]? =some r) (hv:r.void=false) (h:z9 R k= []):x2 R S (.void k) (.txt Au) (xO R k λr=>{r with link:=none,void:=true}) S
 |shutN {d:Int} (h:Dm.cts S d=false):x2 R S (.shut d) (.txt "counts not") R S
 |shut {d:Int} (h:Dm.cts S d=true):x2 R S (.shut d) (.txt Ag) R (S++ [d])
 |state {k:Nat} {r:Row} (hk:R[k]? =some r) (hv:r.void=false):x2 R S (.state k) (.row r) R S
 |thread {k:Nat} {r:Row} (hk:R[k]? =some r) (hv:r.void=false):x2 R S (.thread k) (.nums (thr R k)) R S
 |copies {k:Nat} {r:Row} (hk:R[k]? =some r) (hv:r.void=false):x2 R S (.copies k) (.txts r.copies) R S
 |letters {w:Str}:x2 R S (.letters w) (.nums ((bY5 R.length).filter λk=>match R[k]? with|some r=> !r.void && decide (r.place=w)|none=>false)) R S
 |on {late:Bool} {d:Int} {l:List Nat} (h:aKM R S d late l):x2 R S (.on late d) (.nums l) R S
end Bk
namespace Bk
open PySem (Str)
open Stree (qR jM wG)
def wI.head{R:Rows}{j:Nat}(f:j<R.length){l:List Nat}(h:wI R j l):∃c,Fm.Ok R.length (lk R) c/\l.head? =some (Fm.tp (lk R) c j):=by
 obtain⟨c,o,p,e⟩:=h;refine⟨c,o,?_⟩;have k:=Fm.bQ1 o f;have i:Fm.tp (lk R) c j∈l:=(e _).mpr ⟨k.1,Fm.bWg o f⟩;cases l with
 |nil=>cases i
 |cons x r=>
  by_cases z:x=Fm.tp (lk R) c j
  ·rw[z];rfl
  ·exfalso;obtain⟨a,b⟩:=cXj.mp p;have d:=(e x).mp bY7;have q:Fm.tp (lk R) c j∈r:=by
    rcases bY1.mp i with w|w
    ·exact absurd w.symm z
    ·exact w
   have s:=a _ q;have m:Fm.Un (lk R) (dt R) c (Fm.tp (lk R) c j) x:=by have:=Fm.bKx (D:=dt R) o d.1;rw[d.2]at this;exact this
   have n:=Fm.bKw o k.1 d.1 m z;have g:=Stree.X5 s n;rw[Stree.vR]at g;cases g
def jT{R:Rows}(t:jG R){j:Nat}(b:j<R.length):∃a,Fm.Ok R.length (lk R) a/\(thr R j).head? =some (Fm.tp (lk R) a j):=(J7 t j).head b
def wO{R:Rows}{k:Nat}{r:Row}(h:R[k]? =some r):k<R.length:=(bY3.mp h).1
def uB{R:Rows}{k:Nat}{r:Row}(h:R[k]? =some r):lk R k=r.link:=by unfold lk;rw[h];rfl
def vL{R:Rows}{k:Nat}{r:Row}(h:R[k]? =some r):dt R k=r.date:=by unfold dt;rw[h];rfl
def x2.tree{R l:Rows}{S p:List Int}{e:xP}{a:Ans}(t:jG R)(h:x2 R S e a l p):jG l:=by
 cases h with
 |enter h=>exact t.enter _ λj c=>nomatch c
 |reply b h x v=>exact t.enter _ λj c=>by cases c;exact wO b
 |@hang i j r q k d c hw h n s m w=>
  obtain⟨g,o,u⟩:=jT t (wO c);have f:Fm.tp (lk R) g j≠i:=λz=>n (by rw[u,z]);refine jG.hang (R:=laid R (thr R i) q.place) (rk:=g) (i:=i) (j:=j) ?_ ?_ ?_ ?_ ?_ _ λ_=>rfl
  ·rw[wY,aQs];exact o
  ·rw[wY];exact wO k
  ·rw[wY];exact wO c
  ·rw[aQs,uB k];exact h
  ·rw[aQs];exact f
 |loose b d h=>exact t.loose (wO b) _ λ_=>rfl
 |date b d s m=>exact t.same _ _ λ_=>rfl
 |term b d h=>exact t.same _ _ λ_=>rfl
 |copy b d h m=>exact t.same _ _ λ_=>rfl
 |file b d=>exact t.laid _ _
 |void b d h=>exact t.loose (wO b) _ λ_=>rfl
 |_=>exact t
def bZX:jG []:=⟨λ_=>0,⟨λi j a=>absurd a (cXE _)⟩⟩
end Bk
namespace Bk
open PySem (Str)
open Stree (qR jM wG)
def bWp(r q:Row):Prop:=r.void=false/\q.void=false/\r.way≠q.way/\r.partner=q.partner/\q.date<=r.date/\r.place=q.place
structure Y5(R:Rows):Prop where
 tree:jG R
 way:∀r∈R,r.way="in"\/r.way=BK
 ans:∀ (i j:Nat)(r:Row),R[i]? =some r->r.link=some j->∃q,R[j]? =some q/\bWp r q
def aXB:Y5 [] where
 tree:=bZX
 way:=λr h=>absurd h (by simp)
 ans:=λi j r h=>by simp at h
def aVR{w:Str}(h:w="in"\/w=BK):uZ w≠w/\(uZ w="in"\/uZ w=BK):=by
 rcases h with rfl|rfl
 ·exact⟨by decide,.inr rfl⟩
 ·exact⟨by decide,.inl rfl⟩
def aQx{R:Rows}{i:Nat}{f:Row->Row}{r:Row}(h:r∈xO R i f):r∈R\/∃q∈R,r=f q:=by
 unfold xO at h;split at h
 ·rename_i q a;rcases List.mem_or_eq_of_mem_set h with h|h
  ·exact .inl h
  ·exact .inr ⟨q,cQa a,h⟩
 ·exact .inl h
def aJm{R:Rows}(h:∀r∈R,r.way="in"\/r.way=BK)(i:Nat)(f:Row->Row)(b:∀r,(f r).way=r.way):∀r∈xO R i f,r.way="in"\/r.way=BK:=λr a=>by
 rcases aQx a with a|⟨q,c,rfl⟩
 ·exact h r a
 ·rw[b];exact h q c
def aWn{name:Str}:∀ (l:List Nat) {R:Rows},(∀r∈R,r.way="in"\/r.way=BK)->∀r∈laid R l name,r.way="in"\/r.way=BK
 |[],R,h=>h
 |k::l,R,h=>aWn l (aJm h k (λr=>{r with place:=name}) λ_=>rfl)
def bJ8{R:Rows}{k i:Nat}{r:Row}(h:z9 R k= [])(a:R[i]? =some r):r.link≠some k:=λe=>by
 have:i∈z9 R k:=cQ0.mpr ⟨cQu.mpr (wO a),decide_eq_true (by rw[uB a];exact e)⟩;rw[h]at this;cases this
def bXG{R:Rows}{k i:Nat}{r:Row}(a:R[i]? =some r)(e:r.link=some k):i∈z9 R k:=
 cQ0.mpr ⟨cQu.mpr (wO a),decide_eq_true (by rw[uB a];exact e)⟩
def bZV{R:Rows}(t:jG R){i a b:Nat}{r:Row}(c:R[a]? =some r)(e:r.link=some b)(d:b<R.length):a∈thr R i↔b∈thr R i:=by
 obtain⟨f,o,_,h⟩:=J7 t i;rw[h a,h b,Fm.uJ o (wO c) (by rw[uB c];exact e)];exact⟨λz=>⟨d,z.2⟩,λz=>⟨wO c,z.2⟩⟩
def bZW{R:Rows}(t:jG R){i:Nat}(a:i<R.length):i∈thr R i:=by
 obtain⟨b,o,_,h⟩:=J7 t i;exact(h i).mpr ⟨a,rfl⟩
def Y5.laid{R:Rows}(b:Y5 R)(i:Nat)(name:Str):Y5 (laid R (thr R i) name) where
 tree:=b.tree.laid _ _
 way:=aWn _ b.way
 ans:=λx j r hx hl=>by
  rw[uA]at hx
  have back:∃r0,R[x]? =some r0/\r=(if x∈thr R i then {r0 with place:=name}else r0):=by
   by_cases hm:x∈thr R i
   ·rw[if_pos hm]at hx
    cases e:R[x]? with
    |none=>rw[e]at hx;cases hx
    |some r0=>rw[e]at hx;cases hx;exact⟨r0,rfl,by rw[if_pos hm]⟩
   ·rw[if_neg hm]at hx
    exact⟨r,hx,by rw[if_neg hm]⟩
  obtain⟨r0,h0,e0⟩:=back
  have hl0:r0.link=some j:=by rw[e0]at hl;split at hl<;> exact hl
  obtain⟨q0,hq0,f1,f2,f3,f4,f5,f6⟩:=b.ans x j r0 h0 hl0
  have hiff:=bZV (i:=i) b.tree h0 hl0 (wO hq0)
  refine⟨if j∈thr R i then {q0 with place:=name}else q0,by rw[uA,hq0];split<;> rfl,?_⟩
  by_cases hm:x∈thr R i
  ·rw[if_pos (hiff.mp hm),e0,if_pos hm]
   exact⟨f1,f2,f3,f4,f5,rfl⟩
  ·rw[if_neg (λz=>hm (hiff.mpr z)),e0,if_neg hm]
   exact⟨f1,f2,f3,f4,f5,f6⟩
def Y5.set{R:Rows}(b:Y5 R){k:Nat}{f:Row->Row}(t:jG (xO R k f))(hw:∀r,(f r).way=r.way)(h1:∀r j q,R[k]? =some r->(f r).link=some j->j≠k->R[j]? =some q->bWp (f r) q/\True)(h0:∀r j,R[k]? =some r->(f r).link=some j->j≠k/\j<R.length)
  (h2:∀r i q,R[k]? =some r->R[i]? =some q->i≠k->q.link=some k->bWp q (f r)):Y5 (xO R k f) where
 tree:=t
 way:=aJm b.way k f hw
 ans:=λi j r hi hl=>by
  rw[zM]at hi
  by_cases e:i=k
  ·subst e
   rw[if_pos rfl]at hi
   cases e0:R[i]? with
   |none=>rw[e0]at hi;cases hi
   |some r0=>
    rw[e0]at hi
    cases hi
    obtain⟨hjk,hjl⟩:=h0 r0 j e0 hl
    have hq:=bYR hjl
    exact⟨R[j],by rw[zM,if_neg hjk];exact hq,(h1 r0 j _ e0 hl hjk hq).1⟩
  ·rw[if_neg e]at hi
   obtain⟨q,hq,hf⟩:=b.ans i j r hi hl
   by_cases ej:j=k
   ·subst ej
    exact⟨f q,by rw[zM,if_pos rfl,hq];rfl,h2 q i r hq hi e hl⟩
   ·exact⟨q,by rw[zM,if_neg ej];exact hq,hf⟩
def aYs{R:Rows}(t:jG R){k j:Nat}{r:Row}(h:R[k]? =some r)(e:r.link=some j):j≠k:=λz=>by
 obtain⟨a,o⟩:=t;have:=(o.lt k j (wO h) (by rw[uB h];exact e)).2;rw[z]at this;omega
def x2.book{R R':Rows}{S S':List Int}{e:xP}{a:Ans}(b:Y5 R)(hw:∀J d w t,e= .enter J d w t->J="in"\/J=BK)(h:x2 R S e a R' S'):Y5 R':=by
 have A:=h.tree b.tree;have W:∀ (r:Row)(j:Nat) {i:Nat} {x:Row},R[i]? =some x->x.link=some j->∃q,(R++ [r])[j]? =some q/\bWp x q:=λr j {i x} m hl=>by obtain⟨q,n,C⟩:=b.ans i j x m hl;exact⟨q,by rw[cQz (wO n)];exact n,C⟩
 have snoc:∀r:Row,(r.way="in"\/r.way=BK)->(∀j,r.link=some j->∃q,R[j]? =some q/\bWp r q)->jG (R++ [r])->Y5 (R++ [r]):=λr u s t=>⟨t,λx g=>by
   rcases cQw.mp g with g|g
   ·exact b.way x g
   ·rw[bY9.mp g];exact u,λi j x m hl=>by
   by_cases a0:i<R.length
   ·rw[cQz a0]at m;exact W r j m hl
   ·have a1:i<(R++ [r]).length:=(bY3.mp m).1;rw[cQf,cQ5]at a1;have:i=R.length:=by omega
    subst this;rw[cQi (bYZ _)]at m;simp at m;subst m;obtain⟨q,n,C⟩:=s j hl;exact⟨q,by rw[cQz (wO n)];exact n,C⟩⟩
 have plain:∀ (k:Nat)(f:Row->Row),(∀r,(f r).way=r.way/\(f r).date=r.date/\(f r).partner=r.partner/\(f r).link=r.link/\(f r).place=r.place/\(f r).void=r.void)->jG (xO R k f)->Y5 (xO R k f):=λk f C t=>by
  refine b.set t (λr=>(C r).1) (λr j q l hl a2 n=>?_) (λr j l hl=>?_) (λr i q l m a3 hl=>?_)
  ·obtain⟨g1,g2,X,g4,g5,T⟩:=C r;rw[g4]at hl;obtain⟨N,c,u,s,L,h4,h5,Y⟩:=b.ans k j r l hl;rw[n]at c;cases c;exact⟨⟨by rw[T];exact u,s,by rw[g1];exact L,by rw[X];exact h4,by rw[g2];exact h5,by rw[g5];exact Y⟩,trivial⟩
  ·rw[(C r).2.2.2.1]at hl;obtain⟨q,n,_⟩:=b.ans k j r l hl;exact⟨aYs b.tree l hl,wO n⟩
  ·obtain⟨g1,g2,X,g4,g5,T⟩:=C r;obtain⟨N,c,u,s,L,h4,h5,Y⟩:=b.ans i k q m hl;rw[l]at c;cases c;exact⟨u,by rw[T];exact s,by rw[g1];exact L,by rw[X];exact h4,by rw[g2];exact h5,by rw[g5];exact Y⟩
 cases h with
 |enter h=>exact snoc _ (hw _ _ _ _ rfl) (λj B=>nomatch B) A
 |@reply k d t r l h ht hd=>have K:=b.way r (cQa l);exact snoc _ (aVR K).2 (λj B=>by cases B;exact⟨r,l,rfl,h,(aVR K).1,rfl,hd,rfl⟩) A
 |@hang i j r q m E B Q h ho u s L=>
  have bl:=b.laid i q.place;obtain⟨rk,o,hh⟩:=jT b.tree (wO B);have P:Fm.tp (lk R) rk j≠i:=λz=>ho (by rw[hh,z]);have V:j∉thr R i:=λz=>by obtain⟨U,o',_,hm⟩:=J7 b.tree i;have z2:=((hm j).mp z).2;have z3:Fm.tp (lk R) U i=i:=Fm.wC (by rw[uB m];exact h);rw[z3,Fm.qP o' o (wO B)]at z2;exact P z2
  have Z:=bZW b.tree (wO m);have gi:(laid R (thr R i) q.place)[i]? =some {r with place:=q.place}:=by rw[uA,if_pos Z,m];rfl
  have gj:(laid R (thr R i) q.place)[j]? =some q:=by rw[uA,if_neg V];exact B
  refine bl.set A (λ_=>rfl) (λx y z g hl p O=>?_) (λx y g hl=>?_) (λx y z g p v hl=>?_)
  ·rw[gi]at g;cases g;cases hl;rw[gj]at O;cases O;exact⟨⟨E,Q,u,s,L,rfl⟩,trivial⟩
  ·cases hl;exact⟨λz=>P (by rw[z,Fm.wC (by rw[uB m];exact h)]),by rw[wY];exact wO B⟩
  ·obtain⟨N,c,G,F,H,D,M,I⟩:=bl.ans y i z p hl;rw[g]at c;cases c;exact⟨G,F,H,D,M,I⟩
 |@loose k r l E h=>refine b.set A (λ_=>rfl) (λx y z g hl=>nomatch hl) (λx y g hl=>nomatch hl) (λx y z g p v hl=>?_);obtain⟨N,c,G,F,H,D,M,I⟩:=b.ans y k z p hl;rw[g]at c;cases c;exact⟨G,F,H,D,M,I⟩
 |@date k r d l E u s=>
  refine b.set A (λ_=>rfl) (λx y z g hl v O=>?_) (λx y g hl=>?_) (λx y z g p v hl=>?_)
  ·rw[l]at g;cases g;obtain⟨N,c,G,F,H,D,M,I⟩:=b.ans k y r l hl;rw[O]at c;cases c;exact⟨⟨G,F,H,D,by rw[<- vL O];exact u y hl,I⟩,trivial⟩
  ·obtain⟨q,n,_⟩:=b.ans k y x g hl;exact⟨aYs b.tree g hl,wO n⟩
  ·obtain⟨N,c,G,F,H,D,M,I⟩:=b.ans y k z p hl;rw[g]at c;cases c;exact⟨G,F,H,D,by rw[<- vL p];exact s y (bXG p hl),I⟩
 |term l E h=>exact plain _ _ (λr=>⟨rfl,rfl,rfl,rfl,rfl,rfl⟩) A
 |copy l E h s=>exact plain _ _ (λr=>⟨rfl,rfl,rfl,rfl,rfl,rfl⟩) A
 |file l E=>exact b.laid _ _
 |void l E h=>exact b.set A (λ_=>rfl) (λx y z g hl=>nomatch hl) (λx y g hl=>nomatch hl) (λx y z g p v hl=>absurd hl (bJ8 h p))
 |_=>exact b
end Bk
namespace Law
open PySem L2 PyProof.Rows
open Bk (Row Rows)
def aZC(x:Str):Stmt->Bool
 |.FunctionDef n _ _ _ _ _ _ _ _ _=>n==x
 |_=>false
def xF(x:Str):Stmt:=(PySem.Challenge.pw_letterdesk_k06_whole_waiting_and_overdue.main.body.find? (aZC x)).getD (.Pass ⟨0,0,0,0⟩)
abbrev bVE:Stmt:=xF Af
abbrev bZk:Stmt:=xF Aq
def xB:cQD CH=some (.builtin CH):=dk
structure vK(mg:Str->Option bYS):Prop where
 b_len:mg CH=none
 b_range:mg Ae=none
def w6:Option Nat->V
 |none=> .non
 |some j=> .int (j:Nat)
inductive bWu(H:Hp)(b:Nat)(r:Row):Prop|mk(cp)(_:H b=some (.lst [.str r.way,.int r.date,.str r.partner,.int r.term,w6 r.link,.str r.place,.bl r.void,.ref cp]))(_:H cp=some (.lst (r.copies.map V.str)))
structure xA(H:Hp)(ra:Nat)(rs:List Nat)(R:Rows):Prop where
 lst:H ra=some (.lst (rs.map V.ref))
 len:rs.length=R.length
 nd:rs.Nodup
 row:∀ (i:Nat)(b:Nat)(r:Row),rs[i]? =some b->R[i]? =some r->bWu H b r
inductive bYu(H:Hp)(rs:List Nat)(i:Nat)(r:Row):Prop|mk(b:Nat)(_:(rs.map V.ref)[i]? =some (.ref b))(_:rs[i]? =some b)(_:bWu H b r)
def xA.get{H:Hp}{d:Nat}{a:List Nat}{R:Rows}(h:xA H d a R){i:Nat}{r:Row}(c:R[i]? =some r):bYu H a i r:=by
 have e:i<a.length:=by rw[h.len];exact Bk.wO c
 have b:=bYR e;exact⟨a[i],by rw[cQc,b];rfl,b,h.row i _ r b c⟩
inductive J2(vs:List V)(H:Hp)(Q:VK)(_:XK):Prop|mk(ra:Nat)(rs:List Nat)(R:Rows)(m:Int)(_:vs= [.ref ra,.int m])(_:xA H ra rs R)(_:Q (.bl (Bk.wW R m)) H)
section
variable {K:bYT}
def bVR:yN [A0,AA] [A0,AA] (yH bVE):=scM
def bVe(T:vK mg)(F:Fun K Af Af bVE f fd):xE P w K mg base CX0 1 f fd [A0,AA] J2:=by
 have l:=bVR;refine F.ok (k:=0) l (λi A outer s H t Q E v h=>?_);obtain⟨e,j,R,m,rfl,c,q⟩:=h;refine⟨_,(yF (yP (aVU (zR aYS yE (pv 1)) (aVU (zR vM (pv 1) (yQ yO rfl T.b_len xB (yA (pv 0) yD))) (aZV (bJl (yL yK (yL yK (pv 0) (pv 1)) yE))))))),?_⟩;refine⟨_,rfl,_,_,rfl,rfl,_,rfl,?_⟩;unfold Bk.wW at q;cases d:decide (0<=m)with
 |false=>rw[d,Bool.false_and]at q;exact onF rfl q
 |true=>
  rw[d,Bool.true_and]at q;have h0:0<=m:=of_decide_eq_true d;refine onT rfl ⟨_,rfl,_,rfl,e,_,rfl,.inl (CV c.lst),_,_,rfl,rfl,_,rfl,?_⟩;have hl:(j.map V.ref).length=R.length:=by rw[bYW];exact c.len
  rw[hl];obtain⟨k,rfl⟩:∃k:Nat,m=(k:Int):=⟨m.toNat,by omega⟩;rw[cQt]at q;cases g:decide ((k:Int)<(R.length:Nat))with
  |false=>
   have a:R.length<=k:=by have:=of_decide_eq_false g;omega
   rw[cQs a]at q;exact onF rfl q
  |true=>
   have a:k<R.length:=by have:=of_decide_eq_true g;omega
   obtain⟨b,o,u,r,n,p⟩:=c.get (bYR a);rw[bYR a]at q;refine onT rfl ⟨_,rfl,_,rfl,e,_,_,_,rfl,rfl,CV c.lst,yT o,b,_,6,_,rfl,rfl,CV n,rfl,_,rfl,q⟩
def bVU:yN [A0,AA] [A0,AA] (yH bZk):=scM
def bJ3:xN [A0,AA] (yH bZk) AI [AA,A0] [1,0] (lsN [(".0",.local),(AI,.local),(AA,.free),(A0,.free)]):=
 lcM
inductive aWe(vs:List V)(H:Hp)(Q:VK)(_:XK):Prop|mk(ra:Nat)(rs:List Nat)(R:Rows)(m:Nat)(_:vs= [.ref ra,.int (m:Nat)])(_:xA H ra rs R)(_:R.length<=100)(_:∀r,H r=none->Q (.ref r) (upd H r (.lst ((Bk.z9 R m).map λi=>V.int (i:Nat)))))
def aJE{o:Option Nat}{m:Nat}:decide (w6 o=V.int (m:Nat))=decide (o=some m):=by
 cases o with
 |none=>rfl
 |some j=>show decide (V.int (j:Nat)=V.int (m:Nat))=decide (some j=some m);rw[Bool.eq_iff_iff];simp;omega
def bVh(T:vK mg)(F:Fun K Aq Aq bZk f fd):xE P w K mg base CX0 1 f fd [A0,AA] aWe:=by
 have r:=bVU;refine F.ok (k:=0) r (λp A outer s H z Q E C h=>?_);obtain⟨d,n,R,m,rfl,c,hR,q⟩:=h;refine⟨_,(yF (yP (aQG bJ3 rfl (zL rfl T.b_range (yA (yQ yO rfl T.b_len xB (yA (pv 0) yD)) yD)) (λ_ _ _ _ _=>(w8 (yM zI (yL ixK (yL ixK (pv 2) (pv 0)) yE) (pv 1)))) (λ_ _ _ _ _=>(pv 0))))),?_⟩;have hl:(n.map V.ref).length=R.length:=by rw[bYW];exact c.len
 refine⟨_,rfl,d,_,rfl,.inl (CV c.lst),?_⟩;rw[hl];refine⟨_,rfl,by omega,by omega,λD e=>?_⟩;rw[cQt];refine Q4 (λk=>decide (Bk.lk R k=some m)) (λk=>V.int (k:Nat)) e (by rw[cQr];omega) (λk g l t i a=>?_) (λk g _ l t i a=>⟨_,rfl,a⟩) (q D e);obtain⟨b,u,B,y,o,x⟩:=c.get (bYR g);have j:l d=some (.lst (n.map V.ref)):=by rw[i d (yJ c.lst e)];exact c.lst
 have v:l b=_:=(i b (yJ o e)).trans o;refine⟨_,rfl,_,rfl,d,_,_,_,rfl,rfl,CV j,yT u,b,_,4,_,rfl,rfl,CV v,rfl,_,rfl,?_,_,rfl,?_⟩
 ·cases R[k].link<;> rfl
 ·rw[aJE,<- Bk.uB (bYR g)];exact a
end
end Law
namespace L2
open PySem PySem.Spec PyProof.Rows
section
variable {X:Cx}
inductive aWx(K:bYT)(xs:List V)(H:Hp)(Q:VK):Prop|mk(p:Nat)(ns:List Int)(_:xs= [.ref p])(_:SqL K H p (ns.map V.int))(_:ns≠ [])(_:∀m,m∈ns->(∀x∈ns,m<=x)->Q (.int m) H)
def aKT(S:X.calm=true):qF X (.builtin "min") (aWx X.K):=by
 intro C s σ H W Y Q I r h;obtain⟨p,c,rfl,P,w,q⟩:=h;obtain⟨u,rfl,N⟩:=aQ7 r;cases N;obtain⟨a,O,n,U⟩:=I.list P;have B:cZp a c:=aXo O;have d:a.length=c.length:=B.length;have l:0<a.length:=by rw[d];exact cQ6.mpr w
 obtain⟨o,J,_⟩:=id n.isList;have m:p<s.heap.objs.size:=bY6 J;have f:∀ (i:Nat)(v:bYS),a.toArray[i]? =some v->∃t,v=Value.int (c.getD i 0) t:=λi v y=>cJZ B i v (by simpa using y);refine call_min_walk (cVc n.isList ?_);refine⟨s.heap.objs.size,[s.heap.objs.size,p],[s.heap.objs.size],a.toArray.size,_,_,_,rfl,Walks.list (A:=X.A.in1) (by simpa using I.ok.hd S) _ p (cQj m) a.toArray,⟨⟨_,cQn _ rfl,rfl,rfl⟩,n.isList.push _⟩,λb g=>?_,by rw[cQb];exact l,CmpOf.ints_lt (λi=>c.getD i 0) f,λv T tk y D=>?_⟩
 ·show b<(s.heap.push _).objs.size;rw[cXs];rcases bY1.mp g with rfl|g
  ·exact cXJ _
  ·rw[bY9.mp g];exact cQ2 m
 ·obtain⟨t,rfl⟩:=f _ _ y;obtain⟨V,R⟩:=argBest_lt (λi=>c.getD i 0) (a.toArray.size - 1);have M:a.toArray.size=c.length:=by rw[cQb];exact d
  have g:argBest (λi j=>decide (c.getD i 0<c.getD j 0)) (a.toArray.size - 1)<c.length:=by omega
  refine⟨.int _,H,I.kept (t':=tk) λb L e=>D b L (λz=>by rw[bY9.mp z]at e;exact cQ4 _ (bY6 e)) (bYX _ e),⟨t,rfl⟩,q _ ?_ λx G=>?_⟩
  ·generalize argBest (λi j=>decide (c.getD i 0<c.getD j 0)) (a.toArray.size - 1)=k at g;simp[cQC,bYR g]
  ·obtain⟨j,F,e⟩:=cQJ G;have:=R j (by omega);have E:c.getD j 0=x:=by simp[cQC,bYR F,e]
   rw[E]at this;exact this
end
end L2
namespace Law
open PySem L2 PyProof.Rows
open Bk (Row Rows)
abbrev aV3:Stmt:=xF B9
def aKP:cQD "min"=some (.builtin "min"):=dk
def bWu.same{H a:Hp}{b:Nat}{r:Row}(h:bWu H b r)(k:xC H a):bWu a b r:=let ⟨cp,e1,e2⟩:=h;⟨cp,k _ _ e1,k _ _ e2⟩
def xA.same{H c:Hp}{a:Nat}{d:List Nat}{R:Rows}(h:xA H a d R)(k:xC H c):xA c a d R:=
 ⟨k _ _ h.lst,h.len,h.nd,λi b r f e=>(h.row i b r f e).same k⟩
inductive bQV(vs:List V)(H:Hp)(Q:VK)(_:XK):Prop|mk(ra:Nat)(rs:List Nat)(R:Rows)(k:Nat)(d:Int)(_:vs= [.ref ra,.int (k:Nat),.int d])(_:xA H ra rs R)(_:R.length<=100)(_:k<R.length)(_:∀H',xC H H'->Q (.bl (Bk.Q2 R k d)) H')
section
variable {K:bYT}
def bZF:yN [A0,AA,AK,An,CK] [A0,AA,AK] (yH aV3):=scM
def bXB:xN [A0,AA,AK,An,CK] (yH aV3) AI [A0] [0] (lsN [(".0",.local),(AI,.local),(A0,.free)]):=
 lcM
def dtV(R:Rows):V->V
 |.int n=> .int (Bk.dt R n.toNat)
 |_=> .non
def bX4(T:vK mg)(y:mg "min"=none)(a:FnG P w K mg base 1 Aq [A0,AA] aWe)(F:Fun K B9 B9 aV3 f fd):xE P w K mg base CX0 2 f fd [A0,AA,AK] bQV:=by
 have sc:=bZF;refine F.ok (k:=1) sc (λa0 A outer s X vs Q E hr h=>?_);obtain⟨o,W,R,k,d,rfl,C,hR,hk,q⟩:=h;refine⟨_,(yC (yU (i:=3) (yL yK (pv 0) (pv 1))) (yC (y7 (PW.pt (jX (xZ (yL yK (pv 3) yE)) (jX (yM vM (yL yK (pv 3) yE) yE) (vU (yM aXh (yL yK (pv 3) yE) (pv 2)))))) (yF (yP wQ)) yS) (yC (aZZ (i:=4) bXB rfl sc.nd rfl rfl (xL (xJ a hr rfl (yA (pv 0) (yA (pv 1) yD)))) (λ_ _ _ _ _=>wK) (λ_ _ _ _ _=>(yL ixK (yL ixK (pv 1) (pv 0)) yE))) (yF (yP (bW2 (zR (aVP hr.units0) (pv 4) (y6 yD)) (aZV (zR aXh (yQ (aKT rfl) rfl y aKP (yA (pv 4) yD)) (pv 2))))))))),?_⟩;have z:=bYR hk;obtain⟨b,g1,g2,cp,I,g4⟩:=C.get z;have qw:Bk.Q2 R k d=(!R[k].void && decide (1<=R[k].term) && decide (R[k].date<=d) && (Bk.z9 R k).all λj=>decide (d<Bk.dt R j)):=by unfold Bk.Q2;rw[z]
 rw[qw]at q;refine⟨_,rfl,_,rfl,o,_,_,_,rfl,rfl,CV C.lst,yT g1,?_⟩;dsimp only[yW];refine⟨_,rfl,b,_,6,_,rfl,rfl,CV I,rfl,_,rfl,?_⟩;cases u:R[k].void with
 |true=>rw[u]at q;exact onT rfl (onT rfl (q _ (xC.refl _)))
 |false=>
  rw[u]at q;refine onF rfl ⟨_,rfl,b,_,3,_,rfl,rfl,CV I,rfl,_,_,rfl,rfl,_,rfl,?_⟩;cases ht:decide (R[k].term<1)with
  |true=>have:decide (1<=R[k].term)=false:=decide_eq_false (by have:=of_decide_eq_true ht;omega);rw[this]at q;exact onT rfl (onT rfl (q _ (xC.refl _)))
  |false=>
   have:decide (1<=R[k].term)=true:=decide_eq_true (by have:=of_decide_eq_false ht;omega);rw[this]at q;refine onF rfl ⟨_,rfl,b,_,1,_,rfl,rfl,CV I,rfl,_,rfl,_,_,rfl,rfl,_,rfl,?_⟩;cases U:decide (R[k].date > d)with
   |true=>have:decide (R[k].date<=d)=false:=decide_eq_false (by have:=of_decide_eq_true U;omega);rw[this]at q;exact onT rfl (q _ (xC.refl _))
   |false=>
    have:decide (R[k].date<=d)=true:=decide_eq_true (by have:=of_decide_eq_false U;omega);rw[this]at q;refine onF rfl ?_;refine⟨_,rfl,_,rfl,o,W,R,k,rfl,C,hR,λr J=>⟨r,rfl,⟨_,CV yB⟩,λD B=>?_⟩⟩;have k1:=yG J (.lst ((Bk.z9 R k).map λi=>V.int (i:Nat)));have n:=C.same k1;have Z:(Bk.z9 R k).length<=R.length:=by have:=cQS (λj=>decide (Bk.lk R j=some k)) (bY5 R.length);rw[cQL]at this;exact this
    refine aZK (λ_=>true) (dtV R) (CV yB) B (zn (by rw[bYW];omega)) (λv u H' R' _ h=>h) (λv u _ H' R' hH x=>?_) ?_
    ·obtain⟨j,hj,rfl⟩:=cQX.mp u;have N:j<R.length:=cQu.mp (cQ0.mp hj).1;have t:=bYR N;obtain⟨bj,j1,j2,cj,Y,j4⟩:=n.get t;have M:H' o=some (.lst (W.map V.ref)):=by rw[hH o (yJ n.lst B)];exact n.lst
     have L:=(hH bj (yJ Y B)).trans Y;have e:dtV R (V.int (j:Nat))=V.int R[j].date:=by show V.int (Bk.dt R (j:Int).toNat)=_;rw[cQt,Bk.vL t]
     rw[e]at x;exact⟨_,rfl,_,rfl,o,_,_,_,rfl,rfl,CV M,yT j1,bj,_,1,_,rfl,rfl,CV L,rfl,x⟩
    ·have ff:((Bk.z9 R k).map λi=>V.int (i:Nat)).filter (λ_=>true)=(Bk.z9 R k).map λi=>V.int (i:Nat):=cZD.mpr λ_ _=>rfl;have em:((Bk.z9 R k).map λi=>V.int (i:Nat)).map (dtV R)=((Bk.z9 R k).map (Bk.dt R)).map V.int:=by
      rw[cX4,cX4];refine cJO λj _=>?_;show V.int (Bk.dt R (j:Int).toNat)=V.int (Bk.dt R j);rw[cQt]
     rw[ff,em];dsimp only[yW];have k2:=yG B (.lst (((Bk.z9 R k).map (Bk.dt R)).map V.int));have g:upd (upd X r (.lst ((Bk.z9 R k).map λi=>V.int (i:Nat)))) D (.lst (((Bk.z9 R k).map (Bk.dt R)).map V.int)) D=some (.lst (((Bk.z9 R k).map (Bk.dt R)).map V.int)):=yB;have kA:=k1.trans k2;generalize upd (upd X r (.lst ((Bk.z9 R k).map λi=>V.int (i:Nat)))) D (.lst (((Bk.z9 R k).map (Bk.dt R)).map V.int))=H2 at g kA ⊢;refine⟨_,rfl,z0,λpn S=>?_⟩;have O:=yG S (.lst []);refine⟨D,pn,_,rfl,rfl,CV (O _ _ g),CV yB,_,rfl,?_⟩;have p:=q _ (kA.trans O);cases c:Bk.z9 R k with
     |nil=>rw[c]at p;exact onT rfl p
     |cons j l=>
      rw[c]at p;refine onF rfl ⟨_,rfl,D,(j::l).map (Bk.dt R),rfl,CV (by rw[<- c];exact O _ _ g),by simp,λm hm H=>?_⟩;refine⟨_,rfl,_,_,rfl,rfl,?_⟩;have e:((!false && true && true && (j::l).all λj=>decide (d<Bk.dt R j)):Bool)=decide (m > d):=by
       rw[Bool.eq_iff_iff];simp only[Bool.not_false,Bool.true_and,cZ1,decide_eq_true_eq];constructor
       ·intro h;obtain⟨i,G,rfl⟩:=cQX.mp hm;exact h i G
       ·intro h i G;have:=H _ (cQX.mpr ⟨i,G,rfl⟩);omega
      rw[e]at p;exact p
end
end Law
namespace Bk
def aZt:∀shut:List Int,∃C:List Int,C.Pairwise (·<·)/\∀d,d∈C↔d∈shut/\Dm.opn d=true
 |[]=>⟨[],.nil,λd=>by simp⟩
 |x::l=>by
  obtain⟨C,o,m⟩:=aZt l;have ins:∀C:List Int,C.Pairwise (·<·)->∃g:List Int,g.Pairwise (·<·)/\∀d,d∈g↔d=x\/d∈C:=by
   intro C;induction C with
   |nil=>intro _;exact⟨[x],cXi _ _,λd=>by simp⟩
   |cons y C p=>
    intro h;obtain⟨a,b⟩:=cXj.mp h;by_cases e:x=y
    ·subst e;exact⟨x::C,h,λd=>by simp⟩
    ·by_cases j:x<y
     ·refine⟨x::y::C,cXj.mpr ⟨λd f=>?_,h⟩,λd=>by simp⟩;rcases bY1.mp f with rfl|f
      ·exact j
      ·have:=a d f;omega
     ·obtain⟨g,k,i⟩:=p b;refine⟨y::g,cXj.mpr ⟨λd f=>?_,k⟩,λd=>?_⟩
      ·rcases(i d).mp f with rfl|f
       ·omega
       ·exact a d f
      ·rw[bY1,i d,bY1];constructor
       ·rintro(h|h|h)
        ·exact .inr (.inl h)
        ·exact .inl h
        ·exact .inr (.inr h)
       ·rintro(h|h|h)
        ·exact .inr (.inl h)
        ·exact .inl h
        ·exact .inr (.inr h)
  by_cases n:Dm.opn x=true
  ·obtain⟨g,k,i⟩:=ins C o;refine⟨g,k,λd=>?_⟩;rw[i d,m d,bY1];constructor
   ·rintro(rfl|⟨h,c⟩)
    ·exact⟨.inl rfl,n⟩
    ·exact⟨.inr h,c⟩
   ·rintro⟨h|h,c⟩
    ·exact .inl h
    ·exact .inr ⟨h,c⟩
  ·refine⟨C,o,λd=>?_⟩;rw[m d,bY1];constructor
   ·rintro⟨h,c⟩;exact⟨.inr h,c⟩
   ·rintro⟨h|h,c⟩
    ·rw[h]at c;exact absurd c n
    ·exact⟨h,c⟩
def bWE(shut:List Int)(d:Int){t:Int}(c:1<=t):Dm.Due shut d t (due shut d t):=by
 obtain⟨C,b,a⟩:=aZt shut;have h:=Dm.bJa (date:=d) c b a;rw[bZ9 h];exact h
end Bk
namespace Law
open PySem L2 PyProof.Rows
open Bk (Row Rows)
abbrev bQd:Stmt:=xF BS
abbrev aXY:Stmt:=xF B3
def vB:cQD AR=some (.builtin AR):=dk
inductive bQN(K:bYT)(vs:List V)(H:Hp)(Q:VK)(_:XK):Prop|mk(a:Nat)(ns:List Int)(d t D:Int)(_:vs= [.ref a,.int d,.int t])(_:SqL K H a (ns.map V.int))(_:Dm.Due ns d t D)(_:Q (.int D) H)
section
variable {K:bYT}
def jK(d:Int):∀ns:List Int,inV (.int d) (ns.map V.int)=ns.contains d
 |[]=>rfl
 |n::r=>by have a:=jK d r;unfold inV at a ⊢;rw[cQF,cZc,a,cZf];congr 1;show(n==d)=(d==n);rw[Bool.eq_iff_iff,beq_iff_eq,beq_iff_eq];exact eq_comm
def uW:∀ns:List Int,(ns.map V.int).all Q0=true
 |[]=>rfl
 |n::r=>by rw[cQF,cZ6,uW r];rfl
def bZu:yN [AF,AK,BT,"_law_many"] [AF,AK,BT] (yH bQd):=scM
def bXT(T:vK mg)(F:Fun K BS BS bQd f fd):xE P w K mg base CX0 1 f fd [AF,AK,BT] (bQN K):=by
 have I:=bZu;refine F.ok (k:=0) I (λC A outer s L M Q E N h=>?_);obtain⟨a,g,d,t,D,rfl,J,r,q⟩:=h;refine⟨_,(yC (yU (i:=3) yE) (yC (uD cQG (yM vM (pv 3) (pv 2)) (yC (yU (i:=1) (yV x9 (pv 1) yE)) (yF (y7 (PW.pt (vT (yM vM (yV y0 (pv 1) yE) yE) (wR (yM W8 (pv 1) (pv 0))))) (yF (yU (i:=3) (yV x9 (pv 3) yE))) yS)))) (yF (yP (pv 1))))),?_⟩;refine⟨λm σ H=>∃n:Nat,σ= [some (.ref a),some (.int (d+n)),some (.int t),some (.int (Dm.cnt g (d+1) n))]/\H=L/\d+n<=D/\m=(D - (d+n)).toNat,⟨(D - d).toNat,0,?_,rfl,by have:=r.later;omega,by simp⟩,?_⟩
 ·rw[show d+((0:Nat):Int)=d by simp];rfl
 rintro m σ H ⟨n,rfl,rfl,p,rfl⟩;refine⟨_,rfl,_,rfl,_,_,rfl,rfl,_,rfl,?_⟩;refine qC (λc=>?_) (λc=>?_)
 ·have v:((Dm.cnt g (d+1) n:Nat):Int)<t:=of_decide_eq_true c;have G:d+n<D:=by
   by_cases e:d+n=D
   ·have:=r.cnt;rw[<- e,show(d+n - d).toNat=n by omega]at this;omega
   ·omega
  refine⟨λo y=>∃x,x<(D - (d+n)).toNat/\∃n:Nat,o= [some (.ref a),some (.int (d+n)),some (.int t),some (.int (Dm.cnt g (d+1) n))]/\y=H/\d+n<=D/\x=(D - (d+n)).toNat,λo y z=>z,?_⟩;refine⟨_,rfl,_,_,rfl,rfl,?_⟩;dsimp only[yW];have l:Dm.cnt g (d+1) (n+1)=Dm.cnt g (d+1) n+(if Dm.cts g (d+1+n)then 1 else 0):=rfl;have j:d+((n+1:Nat):Int)=d+n+1:=by omega
  refine⟨_,rfl,_,_,rfl,rfl,(show(0:Int)<7 by decide),_,_,rfl,rfl,_,rfl,?_⟩;have b:Dm.cts g (d+1+n)=(decide ((d+n+1) % 7<5) && !(g.contains (d+n+1))):=by rw[show d+1+(n:Int)=d+n+1 by omega];rfl
  cases u:decide ((d+(n:Int)+1) % 7<5)with
  |false=>rw[u,Bool.false_and]at b;rw[b]at l;refine onF rfl (onF rfl ⟨(D - (d+(n+1:Nat))).toNat,by omega,n+1,?_,rfl,by omega,rfl⟩);rw[l,j];rfl
  |true=>
   rw[u,Bool.true_and]at b;refine onT rfl ⟨_,rfl,_,rfl,a,_,rfl,.inl J,rfl,uW g,_,rfl,?_⟩;rw[if_pos rfl,jK];cases B:g.contains (d+(n:Int)+1)with
   |true=>rw[B]at b;rw[b]at l;refine onF rfl ⟨(D - (d+(n+1:Nat))).toNat,by omega,n+1,?_,rfl,by omega,rfl⟩;rw[l,j];rfl
   |false=>rw[B]at b;rw[b]at l;refine onT rfl ⟨_,rfl,_,_,rfl,rfl,(D - (d+(n+1:Nat))).toNat,by omega,n+1,?_,rfl,by omega,rfl⟩;rw[l,j];simp
 ·have v:¬ ((Dm.cnt g (d+1) n:Nat):Int)<t:=of_decide_eq_false (Bool.eq_false_iff.mpr c);have e:d+n=D:=by
   refine Int.le_antisymm p (cZI.mp λz=>v (r.less z))
  refine⟨_,rfl,?_⟩;rw[e];exact q
noncomputable def qA (R:Rows) (shut:List Int) (k:Nat):Int:=Bk.due shut (Bk.dt R k) (((R[k]?).map (·.term)).getD 0)
noncomputable def Y4 (R:Rows) (shut:List Int) (d:Int) (a:Bool) (k:Nat):Bool:=Bk.Q2 R k d && (!a || decide (qA R shut k<d))
inductive aQd(vs:List V)(H:Hp)(Q:VK)(_:XK):Prop|mk(ra sa:Nat)(rs:List Nat)(R:Rows)(shut:List Int)(d:Int)(late:Bool)(_:vs= [.ref ra,.ref sa,.int d,.bl late])(_:xA H ra rs R)(_:H sa=some (.lst (shut.map V.int)))(_:R.length<64)(_:∀ (r:Nat)(H':Hp)(l:List Nat),xC H H'->H r=none->H' r=some (.lst (l.map λi=>V.int (i:Nat)))->Bk.aKM R shut d late l->Q (.ref r) H')
def aKI(H:Hp)(g:Nat->Int)(k:Nat)(x:V):Prop:=∃p,x= .ref p/\H p=some (.tup [.int (g k),.int (k:Nat)])
def aKI.tk{H b:Hp}{g:Nat->Int}(t:∀a c,H a=some (.tup c)->b a=some (.tup c)){k:Nat}{x:V}(h:aKI H g k x):aKI b g k x:=let ⟨p,e,a⟩:=h;⟨p,e,t _ _ a⟩
def aXA{R:Rows}{k:Nat}{d:Int}(a:k<R.length)(h:Bk.Q2 R k d=true):1<=R[k].term:=by
 unfold Bk.Q2 at h;rw[bYR a]at h;simp only[Bool.and_eq_true,decide_eq_true_eq]at h;exact h.1.1.2
def bQz:yN [A0,AF,AK,BA,"_law_made",AI,"_law_last"] [A0,AF,AK,BA] (yH aXY):=scM
def aYn:xN [A0,AF,AK,BA,"_law_made",AI,"_law_last"] (yH aXY) Bw [] [] (lsN [(".0",.local),(Bw,.local)]):=
 lcM
def bX8{α β:Type}{F:α->β->Prop}:∀ {l:List α} {m:List β} {i:Nat} {y:β},cQH F l m->m[i]? =some y->∃x,l[i]? =some x/\F x y
 |_,_,0,_,.cons r _,h=>by simp at h;subst h;exact⟨_,rfl,r⟩
 |_,_,i+1,_,.cons _ t,h=>by simpa using bX8 (i:=i) t (by simpa using h)
 |_,_,i,_,.nil,h=>by simp at h
def aXt{α β:Type}{F:α->β->Prop}{x:α}{y:β}(r:F x y):∀ {l:List α} {m:List β},cQH F l m->cQH F (l++ [x]) (m++ [y])
 |_,_,.nil=> .cons r .nil
 |_,_,.cons a t=> .cons a (aXt r t)
def aQ6{a H:Hp}{c:Nat}{o:HO}(k:xC a H)(h:a c=none):xC a (upd H c o):=λb u q=>by rw[yI (yJ q h)];exact k b u q
def bKE(H:Hp):V->V
 |.ref p=>match H p with
  |some (.tup [_,y])=>y
  |_=> .non
 |_=> .non
def aV5{H:Hp}{p:Nat}{x y:V}(h:H p=some (.tup [x,y])):bKE H (.ref p)=y:=by
 show(match H p with|some (.tup [_,y])=>y|_=>V.non)=y;rw[h]
def aYM(T:vK mg)(I:mg AR=none)(n:FnG P w K mg base 2 B9 [A0,AA,AK] bQV)(B:FnG P w K mg base 2 BS [AF,AK,BT] (bQN K)) (F:Fun K B3 B3 aXY f fd):xE P w K mg base CX0 3 f fd [A0,AF,AK,BA] aQd:=by
 have sc:=bQz;refine F.ok (k:=2) sc (λc0 A outer s H0 vs Q E hr h=>?_);obtain⟨M,sa,rs,R,shut,d,c,rfl,hB,b4,hR,q⟩:=h;refine⟨_,(yC (yU (i:=4) (y6 yD)) (yC (zT cQG rfl (zL rfl T.b_range (yA (yQ yO rfl T.b_len xB (yA (pv 0) yD)) yD)) (y9 (i:=5)) (yF (y7 (xZ (xJ n hr rfl (yA (pv 0) (yA (pv 5) (yA (pv 2) yD))))) (yC (yU (i:=6) (xJ B hr rfl (yA (pv 1) (yA (yL yK (yL yK (pv 0) (pv 5)) yE) (yA (yL yK (yL yK (pv 0) (pv 5)) yE) yD))))) (yF (y7 (PW.pt (jX (vG (xZ (pv 3))) (vU (yM vM (pv 6) (pv 2))))) (yF (yY (vN cQh cQo cQp xD (pv 4) (yA (xG (yA (pv 6) (yA (pv 5) yD))) yD)))) yS))) yS))) (yF (yP (aQG aYn rfl (xL (yQ uL rfl I vB (yA (pv 4) yD))) (λ_ _ _ _ _=>wK) (λ_ _ _ _ _=>(yL ixT (pv 0) yE))))))),?_⟩;refine⟨z0,λD a8=>?_⟩;dsimp only[yW];have k1:=yG a8 (.lst []);have hl:(rs.map V.ref).length=R.length:=by rw[bYW];exact hB.len
 refine⟨_,rfl,M,_,rfl,.inl (CV (k1 _ _ hB.lst)),?_⟩;rw[hl];refine⟨_,rfl,by omega,by omega,?_⟩;rw[cQt];refine z7 (λt σ H=>∃ (g:List V)(S O:Option V),σ= [some (.ref M),some (.ref sa),some (.int d),some (.bl c),some (.ref D),S,O]/\xC H0 H/\H D=some (.lst g)/\
  cQH (aKI H (qA R shut)) ((bY5 t).filter (Y4 R shut d c)) g) ?_ ?_ ?_
 ·exact⟨[],none,none,rfl,k1,yB,.nil⟩
 ·rintro k σ H X ⟨g,S,O,rfl,u,y,U⟩;rw[cX2];dsimp only[yW];have a4:=hB.same u;have a1:=bYR X;rw[cZi,cQ3];have stay:∀H' S O,xC H H'->Y4 R shut d c k=false->∃ (g:List V)(p5 p6:Option V),[some (V.ref M),some (V.ref sa),some (V.int d),some (V.bl c),some (V.ref D),S,O]= [some (.ref M),some (.ref sa),some (.int d),some (.bl c),some (.ref D),p5,p6]/\xC H0 H'/\H' D=some (.lst g)/\
    cQH (aKI H' (qA R shut)) ((bY5 k).filter (Y4 R shut d c)++ [k].filter (Y4 R shut d c)) g:=λH' S O kk e=>by
   have e3: [k].filter (Y4 R shut d c)= []:=by simp[e]
   rw[e3,cQV]
   exact⟨g,S,O,rfl,u.trans kk,kk _ _ y,Paired.mapP U λ_ _ z=>z.tk λa xs e=>kk _ _ e⟩
  refine⟨_,rfl,_,rfl,_,rfl,M,rs,R,k,d,rfl,a4,by omega,X,λH2 G=>⟨_,rfl,?_⟩⟩;cases hw:Bk.Q2 R k d with
  |false=>exact onF rfl (stay H2 _ _ G (by unfold Y4;rw[hw];rfl))
  |true=>
   have b6:=aXA X hw;have Z:=a4.same G;obtain⟨b,g1,g2,cp,g3,g4⟩:=Z.get a1;have hD:=Bk.bWE shut (Bk.dt R k) b6;have eD:qA R shut k=Bk.due shut (Bk.dt R k) R[k].term:=by unfold qA;rw[a1];rfl
   rw[<- eD,Bk.vL a1]at hD;refine onT rfl ?_;refine⟨_,rfl,_,rfl,_,rfl,M,_,_,_,rfl,rfl,CV Z.lst,yT g1,b,_,1,_,rfl,rfl,CV g3,rfl,_,rfl,_,rfl,M,_,_,_,rfl,rfl,CV Z.lst,yT g1,b,_,3,_,rfl,rfl,CV g3,rfl,?_⟩;refine⟨sa,shut,_,_,qA R shut k,rfl,CV (G _ _ (u _ _ b4)),hD,?_⟩;dsimp only[yW];have a9:Y4 R shut d c k=true->aVw (tBM K AB aY2 (bWc 4) (aKE (bYs (aKE (bWc 6) (aKE (bWc 5) bZQ))) bZQ)) {nx:=λσ H=>∃ (g:List V)(S O:Option V),σ= [some (.ref M),some (.ref sa),some (.int d),some (.bl c),some (.ref D),S,O]/\xC H0 H/\H D=some (.lst g)/\cQH (aKI H (qA R shut)) ((bY5 k).filter (Y4 R shut d c)++ [k].filter (Y4 R shut d c)) g,rt:=Q} [some (.ref M),some (.ref sa),some (.int d),some (.bl c),some (.ref D),some (.int (k:Nat)),some (.int (qA R shut k))] H2:=λe=>by
    have a7:=G _ _ y;refine⟨_,rfl,.inl ⟨rfl,_,CV a7⟩,_,rfl,_,rfl,z2,λq3 b8=>?_⟩;have k5:=yG b8 (.tup [V.int (qA R shut k),V.int (k:Nat)]);have a5:=k5 _ _ a7;have il:g.length<=k:=by rw[<- U.length];exact cQv (cQS _ _) (by simp)
    have t6:∀a xs,upd H2 q3 (.tup [V.int (qA R shut k),V.int (k:Nat)]) a=some (.tup xs)->upd (upd H2 q3 (.tup [V.int (qA R shut k),V.int (k:Nat)])) D (.lst (g++ [V.ref q3])) a=some (.tup xs):=λa xs e=>by rw[yI (aXd e a5 (by intro z;cases z))];exact e
    have e3: [k].filter (Y4 R shut d c)= [k]:=by simp[e]
    refine⟨D,g,.ref q3,rfl,rfl,a5,zlt (by omega),g++ [.ref q3],_,_,rfl,aQ6 (u.trans (G.trans k5)) a8,yB,?_⟩;rw[e3];exact aXt ⟨q3,rfl,t6 _ _ yB⟩ (Paired.mapP U λ_ _ z=>z.tk λa xs e=>t6 _ _ (k5 _ _ (G _ _ e)))
   refine⟨_,rfl,_,rfl,?_⟩;by_cases j:c=true
   ·refine onF (by rw[j];rfl) ⟨_,rfl,_,rfl,_,_,rfl,rfl,_,rfl,?_⟩;cases a3:decide (qA R shut k<d)with
    |true=>exact onT rfl (a9 (by unfold Y4;rw[hw,j,a3];rfl))
    |false=>exact onF rfl (stay H2 _ _ G (by unfold Y4;rw[hw,j,a3];rfl))
   ·have hf:c=false:=by simpa using j
    exact onT (by rw[hf];rfl) (onT rfl (a9 (by unfold Y4;rw[hw,hf];rfl)))
 ·rintro σ H1 ⟨g,S,O,rfl,u,y,U⟩;generalize J:(bY5 R.length).filter (Y4 R shut d c)=fam at U;have b0:fam.length=g.length:=U.length;have fn:fam.length<=R.length:=by rw[<- J];exact cQv (cQS _ _) (by simp)
  have b1:∀k,k∈fam↔k<R.length/\Y4 R shut d c k=true:=λk=>by rw[<- J,cQ0,cQu]
  have b5:fam.Nodup:=by rw[<- J];exact cZ3.sublist cXU
  refine⟨_,rfl,D,g,λm=>(qA R shut (fam.getD m 0),((fam.getD m 0:Nat):Int)),rfl,y,by omega,λa b ha hb e=>?_,λm x hx=>?_,λl out hl Y b3=>?_⟩
  ·have C:fam.getD a 0=fam.getD b 0:=by have:=congrArg Prod.snd e;simp only at this;omega
   have b2:a<fam.length:=by omega
   have a2:b<fam.length:=by omega
   simp[cQC,bYR b2,bYR a2]at C;exact(cXH (h₀:=b2) (h₁:=a2) b5).mp C
  ·obtain⟨k,X,p,W,C⟩:=bX8 U hx;have:fam.getD m 0=k:=by simp[cQC,X]
   show ∃a,x=V.ref a/\H1 a=some (.tup [V.int (qA R shut (fam.getD m 0)),V.int ((fam.getD m 0:Nat):Int)]);rw[this];exact⟨p,W,C⟩
  ·have hm:∀m∈out,m<g.length:=λm hm=>cQu.mp (Y.mem_iff.mp hm);have G:=yG hl (.lst (out.map λi=>g.getD i .non));refine⟨l,rfl,⟨_,CV yB⟩,λr N=>?_⟩;have b9:out.length=g.length:=by rw[Y.length_eq,cQL]
   have a6:∀m∈out,∃p,g.getD m .non= .ref p/\H1 p=some (.tup [.int (qA R shut (fam.getD m 0)),.int ((fam.getD m 0:Nat):Int)]):=λm o=>by
    have L:=hm m o;have hg:g[m]? =some (g.getD m .non):=by simp[cQC,bYR L]
    obtain⟨k,X,p,W,C⟩:=bX8 U hg;have:fam.getD m 0=k:=by simp[cQC,X]
    rw[this];exact⟨p,W,C⟩
   refine aZK (λ_=>true) (bKE H1) (CV yB) N (zn (by rw[bYW];omega)) (λv hv H' R' _ h=>h) (λv hv _ H' R' hH a0=>?_) ?_
   ·obtain⟨m,o,rfl⟩:=cQX.mp hv;obtain⟨p,W,C⟩:=a6 m o;rw[W]at a0 ⊢;have e4:=G _ _ C;have e5:=(hH p (yJ e4 N)).trans e4;rw[aV5 C]at a0;exact⟨_,rfl,p,_,1,_,rfl,rfl,CW e5,rfl,a0⟩
   ·have ff:(out.map λi=>g.getD i .non).filter (λ_=>true)=out.map λi=>g.getD i .non:=cZD.mpr λ_ _=>rfl;have e6:((out.map λi=>g.getD i .non).map (bKE H1))=(out.map λm=>fam.getD m 0).map λi=>V.int (i:Nat):=by
     rw[cX4,cX4];refine cJO λm o=>?_;obtain⟨p,W,C⟩:=a6 m o;show bKE H1 (g.getD m .non)=V.int (fam.getD m 0:Nat);rw[W];exact aV5 C
    rw[ff,e6];refine q r _ (out.map λm=>fam.getD m 0) (u.trans (G.trans (yG N _))) ((u.trans G).fresh N) yB ⟨λk=>?_,?_⟩
    ·have b7:k∈out.map (λm=>fam.getD m 0)↔k∈fam:=by
      constructor
      ·intro h;obtain⟨m,o,rfl⟩:=cQX.mp h;have L:m<fam.length:=by rw[b0];exact hm m o
       simp[cQC,bYR L]
      ·intro h;obtain⟨m,L,e⟩:=cQJ h;refine cQX.mpr ⟨m,Y.mem_iff.mpr (cQu.mpr (by omega)),?_⟩;simp[cQC,bYR L,e]
     rw[b7,b1 k];unfold Y4;rw[Bool.and_eq_true,Bool.or_eq_true,decide_eq_true_eq];refine and_congr Iff.rfl (and_congr Iff.rfl ?_);cases c<;> simp[qA]
    ·rw[cJn];exact b3
end
end Law
namespace Law
open PySem L2 PyProof.Rows
open Bk (Row Rows)
open Stree (qR jM wG)
abbrev aXX:Stmt:=xF Ay
def zX{a H:Hp}{c:Nat}{o:HO}(k:xC a H)(h:a c=none):xC a (upd H c o):=λb u q=>by rw[yI (yJ q h)];exact k b u q
def wT{H:Hp}{p:Nat}{c:List V}{o:HO}(h:H p=some (.lst c)):∀a b,H a=some (.tup b)->upd H p o a=some (.tup b):=λa b e=>by rw[yI (aXd e h (by intro z;cases z))];exact e
structure bZ5(H:Hp)(ra:Nat)(rs:List Nat)(n:Nat)(L:Nat->Option Nat)(D:Nat->Int):Prop where
 lst:H ra=some (.lst (rs.map V.ref))
 len:rs.length=n
 row:∀i b,rs[i]? =some b->∃xs,H b=some (.lst xs)/\xs[1]? =some (.int (D i))/\xs[4]? =some (w6 (L i))
inductive aQc(vs:List V)(H:Hp)(Q:VK)(_:XK):Prop|mk(ra:Nat)(rs:List Nat)(n:Nat)(L:Nat->Option Nat)(rk:Nat->Nat)(D:Nat->Int)(i:Nat)(_:vs= [.ref ra,.int (i:Nat)])(_:bZ5 H ra rs n L D)(_:Fm.Ok n L rk)(_:n<=60)(_:i<n)(_:∀ (H':Hp)(r:Nat)(out:List Nat),xC H H'->H r=none->H' r=some (.lst (out.map λi=>V.int (i:Nat)))->(out.Pairwise λx y=>jM (Fm.rd L D rk x) (Fm.rd L D rk y)=true)->(∀k,k∈out↔k<n/\Fm.tp L rk k=Fm.tp L rk i)->Q (.ref r) H')
def Tk(H c:Hp):Prop:=∀a b,H a=some (.tup b)->c a=some (.tup b)
def xC.tk{H b:Hp}(k:xC H b):Tk H b:=λa c e=>k a _ e
def Tk.trans{H f d:Hp}(a:Tk H f)(b:Tk f d):Tk H d:=λc g e=>b c g (a c g e)
def Y9.tk{H d:Hp}(k:Tk H d){b:Nat}{a:qR}(h:Y9 H b a):Y9 d b a:=let ⟨xs,e,z⟩:=h;⟨xs,k _ _ e,Paired.mapP z λ_ _ ⟨c,w1,w2⟩=>⟨c,w1,k _ _ w2⟩⟩
def bKA(H:Hp)(rd:Nat->qR)(k:Nat)(x:V):Prop:=∃p b,x= .ref p/\H p=some (.tup [.ref b,.int (k:Nat)])/\Y9 H b (rd k)
def bKA.tk{H d:Hp}{rd:Nat->qR}(t:Tk H d){k:Nat}{x:V}(h:bKA H rd k x):bKA d rd k x:=let ⟨p,b,e,a,c⟩:=h;⟨p,b,e,t _ _ a,Y9.tk t c⟩
def Y2{α β:Type}{F:α->β->Prop}:∀ {l:List α} {m:List β} {i:Nat} {y:β},cQH F l m->m[i]? =some y->∃x,l[i]? =some x/\F x y
 |_,_,0,_,.cons r _,h=>by simp at h;subst h;exact⟨_,rfl,r⟩
 |_,_,i+1,_,.cons _ t,h=>by simpa using Y2 (i:=i) t (by simpa using h)
 |_,_,i,_,.nil,h=>by simp at h
def aQD{α β:Type}{F:α->β->Prop}{x:α}{y:β}(r:F x y):∀ {l:List α} {m:List β},cQH F l m->cQH F (l++ [x]) (m++ [y])
 |_,_,.nil=> .cons r .nil
 |_,_,.cons a t=> .cons a (aQD r t)
section
variable {K:bYT}
def bQy:yN [A0,AA,"_law_root","_law_keys",AI,"_law_key","_law_top"] [A0,AA] (yH aXX):=scM
def aYm:xN [A0,AA,"_law_root","_law_keys",AI,"_law_key","_law_top"] (yH aXX) Bw [] [] (lsN [(".0",.local),(Bw,.local)]):=
 lcM
def bKj(H:Hp):V->V
 |.ref p=>match H p with
  |some (.tup [_,y])=>y
  |_=> .non
 |_=> .non
def aV6{H:Hp}{p:Nat}{x y:V}(h:H p=some (.tup [x,y])):bKj H (.ref p)=y:=by
 show(match H p with|some (.tup [_,y])=>y|_=>V.non)=y;rw[h]
def aYL(T:vK mg)(a2:mg AR=none)(F:Fun K Ay Ay aXX f fd):xE P w K mg base CX0 2 f fd [A0,AA] aQc:=by
 have sc:=bQy;refine F.ok (k:=1) sc (λf2 A outer s H0 vs Q E hr h=>?_);obtain⟨W,rs,n,L,g,D,i,rfl,hR,ho,hn,hi,q⟩:=h;refine⟨_,(yC (yU (i:=2) (pv 1)) (yC (uD cQG (yM wA (yL yK (yL yK (pv 0) (pv 2)) yE) x6) (yF (yU (i:=2) (yL yK (yL yK (pv 0) (pv 2)) yE)))) (yC (yU (i:=3) (y6 yD)) (yC (zT cQG rfl (zL rfl T.b_range (yA (yQ yO rfl T.b_len xB (yA (pv 0) yD)) yD)) (y9 (i:=4)) (yC (yU (i:=5) (xG (yA (xG (yA (yL yK (yL yK (pv 0) (pv 4)) yE) (yA (pv 4) yD))) yD))) (yC (yU (i:=6) (pv 4)) (yC (uD cQG (yM wA (yL yK (yL yK (pv 0) (pv 6)) yE) x6) (yC (yU (i:=6) (yL yK (yL yK (pv 0) (pv 6)) yE)) (yF (yU (i:=5) (yV bVr (xG (yA (xG (yA (yL yK (yL yK (pv 0) (pv 6)) yE) (yA (pv 6) yD))) yD)) (pv 5)))))) (yF (y7 (yM zI (pv 6) (pv 2)) (yF (yY (vN cQh cQo cQp xD (pv 3) (yA (xG (yA (pv 5) (yA (pv 4) yD))) yD)))) yS)))))) (yF (yP (aQG aYm rfl (xL (yQ (J9 hr) rfl a2 vB (yA (pv 3) yD))) (λ_ _ _ _ _=>wK) (λ_ _ _ _ _=>(yL ixT (pv 0) yE))))))))),?_⟩;have row:∀ {H:Hp} {t:Nat},xC H0 H->t<n->∃b G,(rs.map V.ref)[t]? =some (.ref b)/\H b=some (.lst G)/\G[1]? =some (.int (D t))/\G[4]? =some (w6 (L t)):=λ{H t} k ht=>by
  have d6:t<rs.length:=by rw[hR.len];exact ht
  have hb:=bYR d6;obtain⟨G,h1,h2,h3⟩:=hR.row t _ hb;exact⟨rs[t],G,by rw[cQc,hb];rfl,k _ _ h1,h2,h3⟩
 refine⟨_,rfl,?_⟩;dsimp only[yW];refine⟨λm σ H=>∃t:Nat,σ= [some (.ref W),some (.int (i:Nat)),some (.int (t:Nat)),none,none,none,none]/\H=H0/\t<n/\Fm.tp L g t=Fm.tp L g i/\m=g t,⟨g i,i,rfl,rfl,hi,rfl,rfl⟩,?_⟩;rintro m σ H ⟨t,rfl,rfl,ht,c4,rfl⟩;obtain⟨b,G,g1,g2,g3,g4⟩:=row (xC.refl H) ht;refine⟨_,rfl,_,rfl,W,_,_,_,rfl,rfl,CV hR.lst,yT g1,b,G,4,_,rfl,rfl,CV g2,yT (j:=4) g4,rfl,_,rfl,?_⟩;cases hl:L t with
 |some j=>obtain⟨hj,b4⟩:=ho.lt t j ht hl;refine onT rfl ⟨λσ' H'=>∃m',m'<g t/\∃t:Nat,σ'= [some (.ref W),some (.int (i:Nat)),some (.int (t:Nat)),none,none,none,none]/\H'=H/\t<n/\Fm.tp L g t=Fm.tp L g i/\m'=g t,λσ' H' z=>z,?_⟩;refine⟨_,rfl,_,rfl,W,_,_,_,rfl,rfl,CV hR.lst,yT g1,b,G,4,_,rfl,rfl,CV g2,yT (j:=4) g4,?_⟩;rw[hl];exact⟨g j,b4,j,rfl,rfl,hj,by rw[<- c4,Fm.uJ ho ht hl],rfl⟩
 |none=>
  have b8:t=Fm.tp L g i:=by rw[<- c4,Fm.wC hl]
  subst b8;refine onF rfl ?_;refine⟨z0,λka c2=>?_⟩;dsimp only[yW];have k1:=yG c2 (.lst []);have c6:(rs.map V.ref).length=n:=by rw[bYW];exact hR.len
  refine⟨_,rfl,W,_,rfl,.inl (CV (k1 _ _ hR.lst)),?_⟩;rw[c6];refine⟨_,rfl,by omega,by omega,?_⟩;rw[cQt];refine z7 (λt σ H'=>L2.Ez4 λ(d:List V)(o4 o5 o6:Option V)=>σ= [some (.ref W),some (.int (i:Nat)),some (.int (Fm.tp L g i:Nat)),some (.ref ka),o4,o5,o6]/\xC H H'/\H' ka=some (.lst d)/\
   cQH (bKA H' (Fm.rd L D g)) ((bY5 t).filter λk=>decide (Fm.tp L g k=Fm.tp L g i)) d) ?_ ?_ ?_
  ·exact⟨[],none,none,none,rfl,k1,yB,.nil⟩
  ·rintro k σ N hk ⟨d,o4,o5,o6,rfl,u,I,hP⟩;rw[cX2];dsimp only[yW];obtain⟨b,G,g1,g2,g3,g4⟩:=row u hk;have d3:=u _ _ hR.lst;refine⟨_,rfl,_,rfl,W,_,_,_,rfl,rfl,CV d3,yT g1,b,G,1,_,rfl,rfl,CV g2,yT (j:=1) g3,_,rfl,z2,λp1 a0=>⟨z1,λp2 b2=>?_⟩⟩;dsimp only[yW];have d0:=yG a0 (.tup [V.int (D k),V.int (k:Nat)]);have c3:=yG b2 (.tup [V.ref p1]);have Y:Y9 (upd (upd N p1 (.tup [V.int (D k),V.int (k:Nat)])) p2 (.tup [V.ref p1])) p2 [(D k,(k:Int))]:=⟨[.ref p1],yB,.cons ⟨p1,rfl,c3 _ _ yB⟩ .nil⟩;have c1:xC N (upd (upd N p1 (.tup [V.int (D k),V.int (k:Nat)])) p2 (.tup [V.ref p1])):=d0.trans c3;generalize upd (upd N p1 (.tup [V.int (D k),V.int (k:Nat)])) p2 (.tup [V.ref p1])=H2 at Y c1 ⊢;refine⟨_,rfl,?_⟩;dsimp only[yW];refine⟨λm σ M=>L2.Ez3 λ(o:Nat)(S:qR)(kb:Nat)=>σ= [some (.ref W),some (.int (i:Nat)),some (.int (Fm.tp L g i:Nat)),some (.ref ka),some (.int (k:Nat)),some (.ref kb),some (.int (o:Nat))]/\xC N M/\o<n/\
     Y9 M kb ((D o,(o:Int))::S)/\Fm.rd L D g k=Fm.rd L D g o++S/\Fm.tp L g o=Fm.tp L g k/\m=g o,⟨g k,k,[],p2,rfl,c1,hk,Y,by rw[cQV],rfl,rfl⟩,?_⟩
   rintro m σ M ⟨o,S,kb,rfl,y,a7,a1,b3,c5,rfl⟩;have C:=u.trans y;obtain⟨b,G,g1,g2,g3,g4⟩:=row C a7;refine⟨_,rfl,_,rfl,W,_,_,_,rfl,rfl,CV (C _ _ hR.lst),yT g1,b,G,4,_,rfl,rfl,CV g2,yT (j:=4) g4,rfl,_,rfl,?_⟩;cases J:L o with
   |some j=>
    obtain⟨hj,b4⟩:=ho.lt o j a7 J;refine onT rfl ⟨λσ M=>∃m',m'<g o/\L2.Ez3 λ(o:Nat)(S:qR)(kb:Nat)=>σ= [some (.ref W),some (.int (i:Nat)),some (.int (Fm.tp L g i:Nat)),some (.ref ka),some (.int (k:Nat)),some (.ref kb),some (.int (o:Nat))]/\xC N M/\o<n/\
     Y9 M kb ((D o,(o:Int))::S)/\Fm.rd L D g k=Fm.rd L D g o++S/\Fm.tp L g o=Fm.tp L g k/\m'=g o,λσ' H' z=>z,?_⟩
    refine⟨_,rfl,_,rfl,W,_,_,_,rfl,rfl,CV (C _ _ hR.lst),yT g1,b,G,4,_,rfl,rfl,CV g2,yT (j:=4) g4,?_⟩;rw[J];dsimp only[yW,w6];obtain⟨b',d9,d4,e7,d7,f3⟩:=row C hj;refine⟨_,rfl,_,rfl,W,_,_,_,rfl,rfl,CV (C _ _ hR.lst),yT d4,b',d9,1,_,rfl,rfl,CV e7,yT (j:=1) d7,_,rfl,z2,λO e9=>⟨z1,λq2 e0=>?_⟩⟩;have d2:=yG e9 (.tup [V.int (D j),V.int (j:Nat)]);have c0:=yG e0 (.tup [V.ref O]);have b7:xC M (upd (upd M O (.tup [V.int (D j),V.int (j:Nat)])) q2 (.tup [V.ref O])):=d2.trans c0;have e1:upd (upd M O (.tup [V.int (D j),V.int (j:Nat)])) q2 (.tup [V.ref O]) O=some (.tup [V.int (D j),V.int (j:Nat)]):=c0 _ _ yB;have U:upd (upd M O (.tup [V.int (D j),V.int (j:Nat)])) q2 (.tup [V.ref O]) q2=some (.tup [V.ref O]):=yB;generalize upd (upd M O (.tup [V.int (D j),V.int (j:Nat)])) q2 (.tup [V.ref O])=H4 at b7 e1 U ⊢;obtain⟨ys,y1,y2⟩:=Y9.tk (xC.tk b7) a1;have b1:ys.length=S.length+1:=by have:=y2.length;simpa using this.symm
    have c7:(Fm.rd L D g k).length<=n:=Fm.bW9 ho hk;rw[b3,cQf]at c7;have d5:ys≠ []:=λz=>by rw[z]at b1;simp at b1
    refine⟨_,rfl,q2,kb,_,ys,rfl,rfl,CW U,CW y1,by simp,by rw[cQr];show 1+ys.length<=_;omega,λz=>absurd z d5,λ_ q3 b6=>?_⟩;have B:=yG b6 (.tup ([V.ref O]++ys));refine⟨g j,b4,j,(D o,(o:Int))::S,q3,rfl,y.trans (b7.trans B),hj,⟨_,yB,.cons ⟨O,rfl,B _ _ e1⟩ (Paired.mapP y2 λ_ _ ⟨c,w1,w2⟩=>⟨c,w1,B _ _ w2⟩)⟩,?_,?_,rfl⟩
    ·rw[b3,Fm.uE ho a7 J,cQ8];rfl
    ·rw[<- c5,Fm.uJ ho a7 J]
   |none=>
    have b5:o=Fm.tp L g k:=by rw[<- c5,Fm.wC J]
    have d1:Fm.rd L D g k=(D o,(o:Int))::S:=by rw[b3,Fm.X9 J];rfl
    refine onF rfl ?_;refine⟨_,rfl,_,rfl,rfl,_,rfl,?_⟩;rw[cZi,cQ3];by_cases ec:Fm.tp L g k=Fm.tp L g i
    ·have hd:decide ((V.int (o:Nat))=V.int (Fm.tp L g i:Nat))=true:=by rw[b5,ec];simp
     refine onT (by rw[b5,ec];simp) ?_;have b0:=y _ _ I;refine⟨_,rfl,.inl ⟨rfl,_,CV b0⟩,_,rfl,_,rfl,z2,λq3 b6=>?_⟩;have B:=yG b6 (.tup [V.ref kb,V.int (k:Nat)]);have a9:=B _ _ b0;have il:d.length<=k:=by have:=hP.length;rw[<- this];exact cQv (cQS _ _) (by simp)
     have t6:Tk (upd M q3 (.tup [V.ref kb,V.int (k:Nat)])) (upd (upd M q3 (.tup [V.ref kb,V.int (k:Nat)])) ka (.lst (d++ [V.ref q3]))):=λa G e=>wT a9 a G e;refine⟨ka,d,.ref q3,rfl,rfl,a9,zlt (by omega),d++ [.ref q3],_,_,_,rfl,zX (u.trans (y.trans B)) c2,yB,?_⟩;have e3: [k].filter (λk=>decide (Fm.tp L g k=Fm.tp L g i))= [k]:=by simp[ec]
     rw[e3];refine aQD ⟨q3,kb,rfl,t6 _ _ yB,?_⟩ (Paired.mapP hP λ_ _ z=>z.tk ((xC.tk (y.trans B)).trans t6));rw[d1];exact Y9.tk ((xC.tk B).trans t6) a1
    ·refine onF ?_ ⟨d,_,_,_,rfl,u.trans y,y _ _ I,?_⟩
     ·rw[b5];simp;omega
     ·have e3: [k].filter (λk=>decide (Fm.tp L g k=Fm.tp L g i))= []:=by simp[ec]
      rw[e3,cQV];exact Paired.mapP hP λ_ _ z=>z.tk (xC.tk y)
  ·rintro σ N ⟨d,o4,o5,o6,rfl,u,I,hP⟩;generalize a3:(bY5 n).filter (λk=>decide (Fm.tp L g k=Fm.tp L g i))=fam at hP;have f1:fam.length=d.length:=hP.length;have fn:fam.length<=n:=by rw[<- a3];exact cQv (cQS _ _) (by simp)
   have a5:∀k,k∈fam↔k<n/\Fm.tp L g k=Fm.tp L g i:=λk=>by rw[<- a3,cQ0,cQu,decide_eq_true_eq]
   have c9:fam.Nodup:=by rw[<- a3];exact cZ3.sublist cXU
   have Z:∀m,m<d.length->fam.getD m 0∈fam:=λm hm=>by
    have e8:m<fam.length:=by omega
    simp[cQC,bYR e8]
   refine⟨_,rfl,ka,d,λm=>Fm.rd L D g (fam.getD m 0),λm=>((fam.getD m 0:Nat):Int),rfl,I,by omega,λa b ha hb e=>?_,λm x hx=>?_,λl out hl a0 b2=>?_⟩
   ·have U:=Fm.aY3 ho ((a5 _).mp (Z a ha)).1 ((a5 _).mp (Z b hb)).1 e;have c8:a<fam.length:=by omega
    have b9:b<fam.length:=by omega
    simp[cQC,bYR c8,bYR b9]at U;exact(cXH (h₀:=c8) (h₁:=b9) c9).mp U
   ·obtain⟨k,hk,p,b,e1,U,e3⟩:=Y2 hP hx;have:fam.getD m 0=k:=by simp[cQC,hk]
    show ∃a b,x=V.ref a/\N a=some (.tup [V.ref b,V.int ((fam.getD m 0:Nat):Int)])/\Y9 N b (Fm.rd L D g (fam.getD m 0));rw[this];exact⟨p,b,e1,U,e3⟩
   ·have hm:∀m∈out,m<d.length:=λm hm=>cQu.mp (a0.mem_iff.mp hm);have k2:=yG hl (.lst (out.map λi=>d.getD i .non));refine⟨l,rfl,⟨_,CV yB⟩,λr a8=>?_⟩;have f0:out.length=d.length:=by rw[a0.length_eq,cQL]
    refine aZK (λ_=>true) (bKj N) (CV yB) a8 (zn (by rw[bYW];omega)) ?_ ?_ ?_
    ·intro v hv H' R hH a6;exact a6
    ·intro v hv _ H' R hH a6;obtain⟨m,X,rfl⟩:=cQX.mp hv;have a4:=hm m X;have hg:d[m]? =some (d.getD m .non):=by simp[cQC,bYR a4]
     obtain⟨k,hk,p,b,e1,U,e3⟩:=Y2 hP hg;rw[e1]at a6 ⊢;have e4:=k2 _ _ U;have d8:p≠r:=yJ e4 a8;have e5:H' p=some (.tup [.ref b,.int (k:Nat)]):=by rw[hH p d8];exact e4
     refine⟨_,rfl,p,_,1,.int (k:Nat),rfl,rfl,CW e5,rfl,?_⟩;have:bKj N (.ref p)= .int (k:Nat):=aV6 U;rw[this]at a6;exact a6
    ·have ff:(out.map λi=>d.getD i .non).filter (λ_=>true)=out.map λi=>d.getD i .non:=cZD.mpr λ_ _=>rfl;rw[ff,cX4];have e6:(out.map (bKj N∘λi=>d.getD i .non))=(out.map λm=>fam.getD m 0).map λi=>V.int (i:Nat):=by
      rw[cX4];refine cJO λm X=>?_;have a4:=hm m X;have hg:d[m]? =some (d.getD m .non):=by simp[cQC,bYR a4]
      obtain⟨k,hk,p,b,e1,U,e3⟩:=Y2 hP hg;show bKj N (d.getD m .non)=V.int (fam.getD m 0:Nat);have:fam.getD m 0=k:=by simp[cQC,hk]
      rw[e1,this];exact aV6 U
     rw[e6];refine q _ r (out.map λm=>fam.getD m 0) (u.trans (k2.trans (yG a8 _))) ((u.trans k2).fresh a8) yB ?_ λk=>?_
     ·rw[cJn];exact b2
     ·rw[<- a5 k];constructor
      ·intro h;obtain⟨m,X,rfl⟩:=cQX.mp h;exact Z m (hm m X)
      ·intro h;obtain⟨m,a4,e⟩:=cQJ h;refine cQX.mpr ⟨m,a0.mem_iff.mpr (cQu.mpr (by omega)),?_⟩;simp[cQC,bYR a4,e]
end
def xA.rows{H:Hp}{d:Nat}{e:List Nat}{R:Rows}(h:xA H d e R):bZ5 H d e R.length (Bk.lk R) (Bk.dt R):=
 ⟨h.lst,h.len,λi b c=>by
  have f:i<R.length:=by rw[<- h.len];exact(bY3.mp c).1
  have a:=bYR f;obtain⟨k,g,j⟩:=h.row i b _ c a;exact⟨_,g,by rw[Bk.vL a];rfl,by rw[Bk.uB a];rfl⟩⟩
end Law
namespace Law
open PySem L2 PyProof.Rows
open Bk (Row Rows)
def uP(r:Row)(a:Nat):List V:= [.str r.way,.int r.date,.str r.partner,.int r.term,w6 r.link,.str r.place,.bl r.void,.ref a]
def qL{r:Row}{a:Nat}{l:List Str}:HO.lst (uP r a)≠HO.lst (l.map V.str):=λz=>by
 injection z with z
 match l,z with
 |[],z=>cases z
 |[_],z=>injection z with _ z;cases z
 |_::_::_,z=>injection z with _ z;injection z with z _;cases z
def aQK{r:Row}{a:Nat}{l:List Nat}:HO.lst (uP r a)≠HO.lst (l.map V.ref):=λz=>by
 injection z with z
 match l,z with
 |[],z=>cases z
 |_::_,z=>injection z with z _;cases z
def xA.upd{H:Hp}{l:Nat}{m:List Nat}{R:Rows}{k:Nat}{b:Nat}{r:Row}(h:xA H l m R)(o:m[k]? =some b)(v:R[k]? =some r)(f:Row->Row){n:Nat}(d:H n=some (.lst ((f r).copies.map V.str))):xA (upd H b (.lst (uP (f r) n))) l m (Bk.xO R k f):=by
 obtain⟨A,s,_⟩:=h.row k b r o v;have j:l≠b:=aXd h.lst s (cQB aQK);refine⟨by rw[yI j];exact h.lst,by rw[Bk.zU];exact h.len,h.nd,λi c q g a=>?_⟩;rw[Bk.zM]at a;by_cases e:i=k
 ·subst e;rw[o]at g;cases g;rw[if_pos rfl,v]at a;cases a;exact⟨n,yB,by rw[yI (aXd d s (cQB qL))];exact d⟩
 ·rw[if_neg e]at a;obtain⟨x,y,t⟩:=h.row i c q g a;have p:c≠b:=λz=>by
   have u:=bY3.mp g;have w:=bY3.mp o;exact e ((cXH (h₀:=u.1) (h₁:=w.1) h.nd).mp (by rw[u.2,w.2];exact z))
  exact⟨x,by rw[yI p];exact y,by rw[yI (aXd t s (cQB qL))];exact t⟩
def NoC(a:List Nat)(H:Hp)(s:Nat):Prop:=∀b∈a,∀l,H b=some (.lst l)->l[7]? ≠some (.ref s)
def But(a:List Nat)(H c:Hp):Prop:=(∀b o,b∉a->H b=some o->c b=some o)/\(∀b∈a,∃o,c b=some o)/\∀s u,H s=some u->NoC a H s->NoC a c s
def xA.dom{H:Hp}{g:Nat}{a:List Nat}{R:Rows}(h:xA H g a R):∀b∈a,∃o,H b=some o:=λb f=>by
 obtain⟨i,c,e⟩:=cQJ f;have d:=bYR (show i<R.length by rw[<- h.len];exact c);obtain⟨k,j,_⟩:=h.row i b _ (by rw[bYR c,e]) d;exact⟨_,j⟩
def But.of{f:List Nat}{H g:Hp}(d:∀b∈f,∃o,H b=some o)(k:xC H g):But f H g:=⟨λb o _ e=>k b o e,λb a=>let ⟨o,e⟩:=d b a;⟨o,k _ _ e⟩,λs u e n b a l h=>by
 obtain⟨o,c⟩:=d b a;have:=k _ _ c;rw[h]at this;cases this;exact n b a l c⟩
def But.trans{d:List Nat}{H h f:Hp}(a:But d H h)(b:But d h f):But d H f:=⟨λc o n e=>b.1 c o n (a.1 c o n e),b.2.1,λs u e n=>by
 by_cases g:s∈d
 ·obtain⟨o,i⟩:=a.2.1 s g;exact b.2.2 s o i (a.2.2 s u e n)
 ·exact b.2.2 s u (a.1 s u g e) (a.2.2 s u e n)⟩
def But.upd{d:List Nat}{H:Hp}{k:Nat}{b:Nat}{l l':List V}(f:∀b∈d,∃o,H b=some o)(h:d[k]? =some b)(hl:H b=some (.lst l))(g:l'[7]? =l[7]?):But d H (upd H b (.lst l')):=
 ⟨λc u n e=>by rw[yI (λz=>n (by rw[z];exact cQa h))];exact e,λc a=>by
  by_cases z:c=b
  ·rw[z];exact⟨_,yB⟩
  ·rw[yI z];exact f c a,λs u e n c a x ex=>by
  by_cases z:c=b
  ·subst z;rw[yB]at ex;cases ex;rw[g];exact n c a l hl
  ·rw[yI z]at ex;exact n c a x ex⟩
abbrev bVH:Stmt:=xF Bx
inductive bJt(vs:List V)(H:Hp)(Q:VK)(_:XK):Prop|mk(ra:Nat)(rs:List Nat)(R:Rows)(k:Nat)(r:Row)(_:vs= [.ref ra,.int (k:Nat)])(_:xA H ra rs R)(_:R.length<=100)(_:R[k]? =some r)(_:∀ (H':Hp)(a:Str)(R':Rows),But rs H H'->xA H' ra rs R'->((Bk.z9 R k≠ []/\a=B2/\R'=R)\/(Bk.z9 R k= []/\a=Au/\R'=Bk.xO R k λr=>{r with link:=none,void:=true}))->Q (.str a) H')
section
variable {K:bYT}
def bVV:yN [A0,AA,An] [A0,AA] (yH bVH):=scM
def bVi(a:FnG P w K mg base 1 Aq [A0,AA] aWe)(F:Fun K Bx Bx bVH f fd):xE P w K mg base CX0 2 f fd [A0,AA] bJt:=by
 have B:=bVV;refine F.ok (k:=1) B (λy A outer s H L Q E x h=>?_);obtain⟨p,z,R,k,r,rfl,d,hR,o,q⟩:=h;refine⟨_,(yC (yU (i:=2) (yL yK (pv 0) (pv 1))) (yC (y7 (yM (vS x.units0) (xJ a x rfl (yA (pv 0) (yA (pv 1) yD))) (y6 yD)) (yF (yP yR)) yS) (yC (vF x6 (qE (pv 2) yE zV)) (yC (vF wQ (qE (pv 2) yE zV)) (yF (yP yR)))))),?_⟩;obtain⟨b,G,v,J,D,C⟩:=d.get o;refine⟨_,rfl,_,rfl,p,_,_,_,rfl,rfl,CV d.lst,yT G,?_⟩;dsimp only[yW];refine⟨_,rfl,_,rfl,p,z,R,k,rfl,d,hR,λt m=>⟨z0,λpn n=>?_⟩⟩;have I:=yG m (.lst ((Bk.z9 R k).map λi=>V.int (i:Nat)));have u:=yG n (.lst []);refine⟨t,pn,_,rfl,rfl,CV (u _ _ yB),CV yB,_,rfl,?_⟩;have kA:=I.trans u;generalize upd (upd H t (.lst ((Bk.z9 R k).map λi=>V.int (i:Nat)))) pn (.lst [])=H2 at kA ⊢;have c:=d.same kA;cases g:Bk.z9 R k with
 |cons j l=>exact onT rfl (q H2 _ R (But.of d.dom kA) c (.inl ⟨by rw[g];simp,rfl,rfl⟩))
 |nil=>refine onF rfl ?_;have e:=kA _ _ D;refine⟨_,rfl,b,_,4,4,rfl,rfl,e,rfl,?_⟩;refine⟨_,rfl,b,_,6,6,rfl,rfl,yB,rfl,?_⟩;rw[jE];exact q _ _ _ ((But.of d.dom kA).trans (But.upd c.dom v e rfl)) (c.upd v o (λr=>{r with link:=none,void:=true}) (kA _ _ C)) (.inr ⟨g,rfl,rfl⟩)
end
end Law
namespace Law
open PySem L2 PyProof.Rows
open Bk (Row Rows)
abbrev bQa:Stmt:=xF Bf
def aKL(R:Rows)(k:Nat)(r:Row)(d:Int):Prop:=(∃j,r.link=some j/\d<Bk.dt R j)\/∃c∈Bk.z9 R k,Bk.dt R c<d
inductive bQL(vs:List V)(H:Hp)(Q:VK)(_:XK):Prop|mk(ra:Nat)(rs:List Nat)(R:Rows)(k:Nat)(r:Row)(d:Int)(_:vs= [.ref ra,.int (k:Nat),.int d])(_:xA H ra rs R)(_:R.length<=100)(_:R[k]? =some r)(_:(∀j,r.link=some j->j<R.length))(_:∀ (H':Hp)(a:Str)(R':Rows),But rs H H'->xA H' ra rs R'->((aKL R k r d/\a="too early"/\R'=R)\/(¬aKL R k r d/\a="dated"/\R'=Bk.xO R k λr=>{r with date:=d}))->Q (.str a) H')
section
variable {K:bYT}
def bZr:yN [A0,AA,AK,An,AI] [A0,AA,AK] (yH bQa):=scM
def bXQ(a:FnG P w K mg base 1 Aq [A0,AA] aWe)(F:Fun K Bf Bf bQa f fd):xE P w K mg base CX0 2 f fd [A0,AA,AK] bQL:=by
 have sc:=bZr;refine F.ok (k:=1) sc (λa0 A outer s H vs Q E hr h=>?_);obtain⟨y,rs,R,k,r,d,rfl,n,hR,hk,T,q⟩:=h;refine⟨_,(yC (yU (i:=3) (yL yK (pv 0) (pv 1))) (yC (y7 (PW.pt (vT (yM wA (yL yK (pv 3) yE) x6) (wR (yM vM (pv 2) (yL yK (yL yK (pv 0) (yL yK (pv 3) yE)) yE))))) (yF (yP yR)) yS) (yC (zT cQG rfl (xL (xJ a hr rfl (yA (pv 0) (yA (pv 1) yD)))) (y9 (i:=4)) (yF (y7 (yM vM (yL yK (yL yK (pv 0) (pv 4)) yE) (pv 2)) (yF (yP yR)) yS))) (yC (vF (pv 2) (qE (pv 3) yE zV)) (yF (yP yR)))))),?_⟩;obtain⟨b,g1,g2,cp,X,g4⟩:=n.get hk;refine⟨_,rfl,_,rfl,y,_,_,_,rfl,rfl,CV n.lst,yT g1,?_⟩;dsimp only[yW];refine zF (λI S=>I= [some (.ref y),some (.int (k:Nat)),some (.int d),some (.ref b),none]/\S=H/\∀j,r.link=some j->Bk.dt R j<=d) ?jY (λo=>?_);case jY=>
  rintro I S ⟨rfl,rfl,h1⟩;refine⟨_,rfl,_,rfl,y,rs,R,k,rfl,n,hR,λN Z=>⟨N,rfl,⟨_,CV yB⟩,?_⟩⟩;have kA:=yG Z (.lst ((Bk.z9 R k).map λi=>V.int (i:Nat)));have p:upd S N (.lst ((Bk.z9 R k).map λi=>V.int (i:Nat))) N=some (.lst ((Bk.z9 R k).map λi=>V.int (i:Nat))):=yB;generalize upd S N (.lst ((Bk.z9 R k).map λi=>V.int (i:Nat)))=H2 at kA p ⊢;have m:=n.same kA;refine zJ (xs:=(Bk.z9 R k).map λi=>V.int (i:Nat)) (λt σ L=>∃M,σ= [some (.ref y),some (.int (k:Nat)),some (.int d),some (.ref b),M]/\L=H2/\∀u j,u<t->(Bk.z9 R k)[u]? =some j->d<=Bk.dt R j) ?_ ?_ ?_ ?_
  ·exact⟨_,rfl,rfl,λu j G=>absurd G (cXE _)⟩
  ·rintro t σ L _ ⟨M,rfl,rfl,_⟩;exact CV p
  ·rintro t x σ L C ⟨M,rfl,rfl,l⟩;rw[cQc]at C;cases O:(Bk.z9 R k)[t]? with
   |none=>rw[O]at C;cases C
   |some j=>
    rw[O]at C;cases C;have D:=cQa O;have v:j<R.length:=cQu.mp (cQ0.mp D).1;have g:=bYR v;obtain⟨U,W,j2,cj,Y,j4⟩:=m.get g;dsimp only[yW];refine⟨_,rfl,_,rfl,y,_,_,_,rfl,rfl,CV m.lst,yT W,U,_,1,_,rfl,rfl,CV Y,rfl,_,rfl,_,_,rfl,rfl,_,rfl,?_⟩;cases B:decide (R[j].date<d)with
    |true=>exact onT rfl (q _ _ R (But.of n.dom kA) m (.inl ⟨.inr ⟨j,D,by rw[Bk.vL g];exact of_decide_eq_true B⟩,rfl,rfl⟩))
    |false=>
     refine onF rfl ⟨_,rfl,rfl,λu i G z=>?_⟩;by_cases e:u=t
     ·subst e;rw[O]at z;cases z;rw[Bk.vL g];have:=of_decide_eq_false B;omega
     ·exact l u i (by omega) z
  ·rintro σ L ⟨M,rfl,rfl,l⟩;rw[bYW]at l;have J:=kA _ _ X;refine⟨_,rfl,_,rfl,b,_,1,1,rfl,rfl,J,rfl,?_⟩;refine q _ _ _ ((But.of n.dom kA).trans (But.upd m.dom g2 J rfl)) (m.upd g2 hk (λr=>{r with date:=d}) (kA _ _ g4)) (.inr ⟨?_,rfl,rfl⟩);rintro(⟨j,e1,e2⟩|⟨c,hc,e2⟩)
   ·have:=h1 j e1;omega
   ·obtain⟨u,G,e⟩:=cQJ hc;have:=l u c G (by rw[bYR G,e]);omega
 refine⟨_,rfl,b,_,4,_,rfl,rfl,CV X,rfl,rfl,_,rfl,?_⟩;cases hl:r.link with
 |none=>exact onF rfl (onF rfl (o _ _ ⟨rfl,rfl,λj hj=>by rw[hl]at hj;cases hj⟩))
 |some j=>
  have v:=T j hl;have g:=bYR v;obtain⟨U,W,j2,cj,Y,j4⟩:=n.get g;refine onT rfl ⟨_,rfl,_,rfl,_,rfl,b,_,4,_,rfl,rfl,CV X,rfl,?_⟩;rw[hl];refine⟨y,_,_,_,rfl,rfl,CV n.lst,yT W,U,_,1,_,rfl,rfl,CV Y,rfl,_,_,rfl,rfl,_,rfl,?_⟩;cases B:decide (d<R[j].date)with
  |true=>exact onT rfl (q _ _ R (But.of n.dom (xC.refl _)) n (.inl ⟨.inl ⟨j,hl,by rw[Bk.vL g];exact of_decide_eq_true B⟩,rfl,rfl⟩))
  |false=>exact onF rfl (o _ _ ⟨rfl,rfl,λi z=>by rw[hl]at z;cases z;rw[Bk.vL g];have:=of_decide_eq_false B;omega⟩)
end
end Law
namespace Law
open PySem L2 PyProof.Rows
open Bk (Row Rows x2 xP Ans)
abbrev bVG:Stmt:=xF By
inductive bJs(vs:List V)(H:Hp)(Q:VK)(_:XK):Prop|mk(ra:Nat)(rs:List Nat)(R:Rows)(m o:Int)(_:vs= [.ref ra,.int m,.int o])(_:xA H ra rs R)(_:R.length<=60)(_:Bk.jG R)(_:∀ (H':Hp)(a:Str)(R':Rows),But rs H H'->xA H' ra rs R'->(∀S,x2 R S (.hang m o) (.txt a) R' S)->Q (.str a) H')
def aQJ{r:Row}{b:Nat}{l:List Nat}:HO.lst (uP r b)≠HO.lst (l.map λi=>V.int (i:Nat)):=λz=>by
 injection z with z
 cases l with
 |nil=>cases z
 |cons a l=>cases z
def aQt(R:Rows)(l:List Nat)(k:Nat)(name:Str):Bk.laid R (l++ [k]) name=Bk.xO (Bk.laid R l name) k λr=>{r with place:=name}:=by
 unfold Bk.laid;rw[cJ6];rfl
def w9{a b:Str}:decide (V.str a=V.str b)=decide (a=b):=by rw[Bool.eq_iff_iff];simp
def aWC{a b:Nat}:decide (V.int (a:Nat)=V.int (b:Nat))=decide (a=b):=by rw[Bool.eq_iff_iff];simp;omega
section
variable {K:bYT}
def aVK{K:bYT}{H:Hp}{m l:Nat}{d:List Nat}{R:Rows}{a:List Nat}{name:Str}{t:Nat}{k:Nat}(f:xA H m d (Bk.laid R (a.take t) name))(o:a[t]? =some k)(j:k<R.length)(hl:H l=some (.lst (a.map λi=>V.int (i:Nat)))): ∃ (b c:Nat)(r:Row),(d.map V.ref)[k]? =some (.ref b)/\H b=some (.lst (uP r c))/\xA (upd H b (.lst (uP {r with place:=name} c))) m d (Bk.laid R (a.take (t+1)) name)/\But d H (upd H b (.lst (uP {r with place:=name} c)))/\upd H b (.lst (uP {r with place:=name} c)) l=some (.lst (a.map λi=>V.int (i:Nat)))/\b∈d:=by
 have e:k<(Bk.laid R (a.take t) name).length:=by rw[Bk.wY];exact j
 have n:=bYR e;obtain⟨b,q,h,c,g,p⟩:=f.get n;refine⟨b,c,_,q,g,?_,But.upd f.dom h g rfl,?_,cQa h⟩
 ·rw[show a.take (t+1)=a.take t++ [k]from by rw[cQU,o];rfl,aQt];exact f.upd h n (λr=>{r with place:=name}) p
 ·rw[yI (aXd hl g (cQB aQJ))];exact hl
def bVT:yN [A0,AA,BB,An,"_law_other",AI,"_law_row"] [A0,AA,BB] (yH bVG):=scM
def bVg(y:FnG P w K mg base 2 Af [A0,AA] J2)(a:FnG P w K mg base 2 Ay [A0,AA] aQc)(F:Fun K By By bVG f fd):xE P w K mg base CX0 3 f fd [A0,AA,BB] bJs:=by
 have sc:=bVT;refine F.ok (k:=2) sc (λb9 A outer s H vs Q E hr h=>?_);obtain⟨I,M,R,m,o,rfl,B,hR,hT,q⟩:=h;refine⟨_,(yC (y7 (PW.pt (jX (vG (xZ (xJ y hr rfl (yA (pv 0) (yA (pv 1) yD))))) (vU (vG (xZ (xJ y hr rfl (yA (pv 0) (yA (pv 2) yD)))))))) (yF (yP yR)) yS) (yC (yU (i:=3) (yL yK (pv 0) (pv 1))) (yC (yU (i:=4) (yL yK (pv 0) (pv 2))) (yC (y7 (yM wA (yL yK (pv 3) yE) x6) (yF (yP yR)) yS) (yC (y7 (yM zI (yL yK (xJ a hr rfl (yA (pv 0) (yA (pv 2) yD))) yE) (pv 1)) (yF (yP yR)) yS) (yC (y7 (yM zI (yL yK (pv 3) yE) (yL yK (pv 4) yE)) (yF (yP yR)) yS) (yC (y7 (yM Y1 (yL yK (pv 3) yE) (yL yK (pv 4) yE)) (yF (yP yR)) yS) (yC (y7 (yM vM (yL yK (pv 3) yE) (yL yK (pv 4) yE)) (yF (yP yR)) yS) (yC (zT cQG rfl (xL (xJ a hr rfl (yA (pv 0) (yA (pv 1) yD)))) (y9 (i:=5)) (yC (yU (i:=6) (yL yK (pv 0) (pv 5))) (yF (vF (yL yK (pv 4) yE) (qE (pv 6) yE zV))))) (yC (vF (pv 2) (qE (pv 3) yE zV)) (yF (yP yR)))))))))))),?_⟩;have v:But M H H:=But.of B.dom (xC.refl _);refine⟨_,rfl,_,rfl,I,M,R,m,rfl,B,_,rfl,?_⟩;cases h1:Bk.wW R m with
 |false=>exact onT rfl (onT rfl (q H _ R v B λS=> .hangN (.inl h1)))
 |true=>
 refine onF rfl ⟨_,rfl,_,rfl,I,M,R,o,rfl,B,_,rfl,?_⟩;cases h2:Bk.wW R o with
 |false=>exact onT rfl (q H _ R v B λS=> .hangN (.inr h2))
 |true=>
 obtain⟨i,r,rfl,L,J,hv⟩:=Bk.wJ h1;obtain⟨j,p,rfl,D,N,hw⟩:=Bk.wJ h2;obtain⟨b,g1,g2,cp,g3,g4⟩:=B.get J;obtain⟨Z,f1,f2,b7,f3,f4⟩:=B.get N;refine onF rfl ⟨_,rfl,_,rfl,I,_,_,_,rfl,rfl,CV B.lst,yT g1,?_⟩;dsimp only[yW];refine⟨_,rfl,_,rfl,I,_,_,_,rfl,rfl,CV B.lst,yT f1,?_⟩;dsimp only[yW];refine⟨_,rfl,b,_,4,_,rfl,rfl,CV g3,rfl,rfl,_,rfl,?_⟩;cases n:r.link with
 |some x=>exact onT rfl (q H _ R v B λS=> .hangH J hv N hw (by rw[n];simp))
 |none=>
 obtain⟨rk,ok⟩:=hT;have hT:Bk.jG R:=⟨rk,ok⟩;refine onF rfl ⟨_,rfl,_,rfl,I,M,R.length,Bk.lk R,rk,Bk.dt R,j,rfl,B.rows,ok,hR,D,λH1 l out k1 nl hl hp hm=>?_⟩;have et:=Bk.aJi D ⟨rk,ok,hp,hm⟩;subst et;obtain⟨_,_,a9⟩:=Bk.jT hT D;obtain⟨hd,T⟩:∃hd,(Bk.thr R j).head? =some hd:=⟨_,a9⟩;have e0:(((Bk.thr R j).map λi=>V.int (i:Nat)))[0]? =some (.int (hd:Nat)):=by rw[cQc,<- List.head?_eq_getElem?,T];rfl
 have g:=B.same k1;have U:=k1 _ _ g3;have X:=k1 _ _ f3;have u:But M H H1:=But.of B.dom k1;refine⟨l,_,0,_,rfl,rfl,CV hl,yT e0,_,rfl,rfl,_,rfl,?_⟩;rw[aWC];refine qC (λc=>?_) (λc=>?_)
 ·have e:hd=i:=of_decide_eq_true c;exact q H1 _ R u g λS=> .hangO J hv N hw n (by rw[T,e])
 have C:(Bk.thr R j).head? ≠some i:=λz=>c (decide_eq_true (by rw[T]at z;exact cQd z));refine⟨_,rfl,b,_,0,_,rfl,rfl,CV U,rfl,_,rfl,Z,_,0,_,rfl,rfl,CV X,rfl,rfl,_,rfl,?_⟩;rw[w9];refine qC (λc1=>?_) (λc1=>?_)
 ·exact q H1 _ R u g λS=> .hangW J hv N hw n C (of_decide_eq_true c1)
 have h3:=of_decide_eq_false (Bool.eq_false_iff.mpr c1);refine⟨_,rfl,b,_,2,_,rfl,rfl,CV U,rfl,_,rfl,Z,_,2,_,rfl,rfl,CV X,rfl,rfl,_,rfl,?_⟩;rw[w9];cases a0:decide (r.partner=p.partner)with
 |false=>exact onT rfl (q H1 _ R u g λS=> .hangP J hv N hw n C h3 (of_decide_eq_false a0))
 |true=>
 have h4:=of_decide_eq_true a0;refine onF rfl ⟨_,rfl,b,_,1,_,rfl,rfl,CV U,rfl,_,rfl,Z,_,1,_,rfl,rfl,CV X,rfl,_,_,rfl,rfl,_,rfl,?_⟩;refine qC (λc2=>?_) (λc2=>?_)
 ·exact q H1 _ R u g λS=> .hangE J hv N hw n C h3 h4 (of_decide_eq_true c2)
 have h5:p.date<=r.date:=by have:=of_decide_eq_false (Bool.eq_false_iff.mpr c2);omega
 refine⟨_,rfl,_,rfl,I,M,R.length,Bk.lk R,rk,Bk.dt R,i,rfl,g.rows,ok,hR,L,λH2 l2 b4 k2 b8 a1 a6 W=>⟨l2,rfl,⟨_,CV a1⟩,?_⟩⟩;have a3:=Bk.aJi L ⟨rk,ok,a6,W⟩;subst a3;have b5:i≠j:=λz=>by subst z;have Y:=Bk.jT hT L;obtain⟨b3,o2,O⟩:=Y;rw[Fm.wC (by rw[Bk.uB J];exact n)]at O;exact C O
 have a8:j∉Bk.thr R i:=λz=>by have Y:=(W j).mp z;rw[Fm.wC (i:=i) (by rw[Bk.uB J];exact n)]at Y;obtain⟨b3,o2,O⟩:=Bk.jT hT D;rw[Fm.qP o2 ok D,Y.2]at O;exact C O
 refine zJ (xs:=(Bk.thr R i).map λi=>V.int (i:Nat)) (λt σ H3=>L2.Ez2 λ(o5 o6:Option V)=>σ= [some (.ref I),some (.int (i:Nat)),some (.int (j:Nat)),some (.ref b),some (.ref Z),o5,o6]/\xA H3 I M (Bk.laid R ((Bk.thr R i).take t) p.place)/\But M H2 H3/\H3 l2=some (.lst ((Bk.thr R i).map λi=>V.int (i:Nat)))) ?_ ?_ ?_ ?_
 ·exact⟨none,none,rfl,g.same k2,But.of (g.same k2).dom (xC.refl _),a1⟩
 ·rintro t σ H3 ht ⟨o5,o6,rfl,d,k3,G⟩;exact CV G
 ·rintro t x σ H3 hx ⟨o5,o6,rfl,d,k3,G⟩;rw[cQc]at hx;cases hc:(Bk.thr R i)[t]? with
  |none=>rw[hc]at hx;cases hx
  |some k=>
   rw[hc]at hx;cases hx;have b0:k<R.length:=((W k).mp (cQa hc)).1;obtain⟨bk,ck,b6,Y,O,e3,e4,e5,e6⟩:=aVK (K:=K) d hc b0 G;have a5:(Bk.laid R ((Bk.thr R i).take t) p.place)[j]? =some p:=by rw[Bk.uA,if_neg (λz=>a8 (List.mem_of_mem_take z))];exact N
   obtain⟨a7,d1,d2,a4,d3,d4⟩:=d.get a5;obtain rfl:Z=a7:=cQd (f2.symm.trans d2);dsimp only[yW];refine⟨_,rfl,_,rfl,I,_,_,_,rfl,rfl,CV d.lst,yT Y,?_⟩;dsimp only[yW];exact⟨_,rfl,Z,_,5,_,rfl,rfl,CV d3,rfl,_,rfl,bk,_,5,5,rfl,rfl,O,rfl,_,_,rfl,e3,k3.trans e4,e5⟩
 ·rintro σ H3 ⟨o5,o6,rfl,d,k3,G⟩;rw[bYW,cQP]at d;have b1:i<(Bk.laid R (Bk.thr R i) p.place).length:=by rw[Bk.wY];exact L
  have a2:=bYR b1;obtain⟨b',d1,d2,a4,d3,d4⟩:=d.get a2;obtain rfl:b=b':=cQd (g2.symm.trans d2);refine⟨_,rfl,_,rfl,b,_,4,4,rfl,rfl,d3,rfl,?_⟩;refine q _ _ _ ((u.trans ((But.of g.dom k2).trans k3)).trans (But.upd d.dom d2 d3 rfl)) (d.upd d2 a2 (λr=>{r with link:=some j}) d4) λS=> .hang J hv N hw n C h3 h4 h5
end
end Law
namespace L2
open PySem
def tbV:Option Nat->bYS
 |none=> .none
 |some T=> .ref T
structure Y6(h:Heap)(e:Nat)(cls:bYS)(dx:Option Nat)(tb:Option Nat):Prop where
 obj:∃oe vs,h.get? e=some oe/\oe.cls=cls/\oe.dict=dx/\oe.data= .fields vs/\vs[1]? =some (tbV tb)
 ent:∀T,tb=some T->T≠e/\∃oT ts,h.get? T=some oT/\oT.data= .fields ts/\ts[3]? =some .none
def Y6.keeps{h h':Heap}{e:Nat}{cls:bYS}{dx tb:Option Nat}(x:Y6 h e cls dx tb)(k:∀b o,(b=e\/tb=some b)->h.get? b=some o->h'.get? b=some o):Y6 h' e cls dx tb:=by
 obtain⟨d,j,n,r,i,l,f⟩:=x.obj;refine⟨⟨d,j,k e d (.inl rfl) n,r,i,l,f⟩,λT c=>?_⟩;obtain⟨ne,a,p,q,m,g⟩:=x.ent T c;exact⟨ne,a,p,k T a (.inr c) q,m,g⟩
structure bKM(fs:List Nat)(e:Nat)(tb:Option Nat)(h h':Heap):Prop where
 keep:∀b o,b≠e->tb≠some b->b∉fs->h.get? b=some o->h'.get? b=some o
 slot:∀b o,b≠e->tb≠some b->h.get? b=some o->∃sl,h'.get? b=some {o with slots:=sl}
 there:∀b o,h.get? b=some o->∃o',h'.get? b=some o'
def aXc(f:Array bYS->Array bYS)(o:Obj):(o.mapFields f).dict=o.dict:=by
 obtain⟨c,d,dt,a⟩:=o;cases dt<;> rfl
section
variable {M:Model}{A:cQA}{E:bYS->bYV->Prop}{s:bYV}{base:Heap}{env:Env}{outer:List Env}{L e:Nat}{cls:bYS}{dx tb:Option Nat}
def aYz{b:Obj}{vs:Array bYS}(hl:s.heap.FunFrames base (env::outer))(f:s.heap.get? e=some b)(d:b.data= .fields vs):e∉(env::outer).filterMap (·.frame):=λg=>by
 obtain⟨_,o,a,c⟩:=hl.mem g;rw[f]at a;cases a;exact c vs d
def aZv{head:bYS}{p:Bool}{Q:Unit->bYV->Prop}{i:Obj}{vs:Array bYS}(r:A.frames=some (env::outer))(hl:s.heap.FunFrames base (env::outer))(J:env.frame=some L)
  (C:s.heap.get? e=some i) (m:i.data= .fields vs) (hz:1<vs.size)
  (h:∀t T,Y6 t e i.cls i.dict (some T)->s.heap.objs.size<=T->bKM ((env::outer).filterMap (·.frame)) e none s.heap t->Q () {s with heap:=t}):
  bY0 M A (do let fr <- frameOf env;let place <- entryPlaceOf L p;let en <- EntryCells.newEntry head fr .none (cXa L) .none place;setField (.ref e) 1 en) (λ_ G=>bY0 M A (cZ0 (.ref e) none) Q E G) E s:=by
 have y:=aYz hl C m
 refine bYU (wpAny_frameOf_fun r hl J λa d=>?_)
 refine bYU (wpAny_entryPlaceOf λplace I=>?_)
 unfold EntryCells.newEntry newFields
 refine bYU (cXS ?_ (I.sizeOk5 _ _ _ _ _))
 have F:a.get? e=some i:=(d.2.1 e y).trans C
 generalize v:({cls:= .type "traceback",dict:=none,data:= .fields ([head,.ref L,.none,cXa L,.none]++(if place.isEmpty then cZq 6 Value.none else place)).toArray}:Obj)=ob
 have c:ob.data= .fields ([head,.ref L,.none,cXa L,.none]++(if place.isEmpty then cZq 6 Value.none else place)).toArray:=by rw[<- v]
 have j:ob.isFreed=false:=cXh c
 have z:(a.push ob).get? e=some i:=bYX ob F
 have l:a.objs.size≠e:=cZw (bY6 F)
 refine cXZ z m hz ?_
 have d3:=cXk m (·.setIfInBounds 1 (Value.ref a.objs.size))
 have n:=cQZ (cQ9 (·.setIfInBounds 1 (Value.ref a.objs.size))) z (cXh d3)
 have D:=(cQx (a.push ob) (cQ9 (·.setIfInBounds 1 (Value.ref a.objs.size))) (cQB l)).trans (cQn a j)
 have k:3<([head,.ref L,.none,cXa L,.none]++(if place.isEmpty then cZq 6 Value.none else place)).toArray.size:=by simp
 unfold cZ0
 refine bYU (wpAny_field n d3 (x:= .ref a.objs.size) (by simp[hz]) ?_)
 rw[if_pos (show(Value.ref a.objs.size !=Value.none)=true from by simp)]
 refine cXZ D c k (h _ a.objs.size ?_ ?_ ?_)
 ·refine⟨⟨_,_,(cQx _ _ l).trans n,Obj.cls_mapFields _ _,aXc _ _,d3,by simp[tbV,hz]⟩,λT K=>?_⟩;cases K;refine⟨l,_,_,cQZ _ D (cXh (cXk c _)),cXk c _,?_⟩;rw[Array.getElem?_setIfInBounds_self_of_lt k];rfl
 ·exact cZu d.1.symm
 ·have u:∀b o,b≠e->a.get? b=some o->(((a.push ob).update e (cQ9 (·.setIfInBounds 1 (Value.ref a.objs.size)))).update a.objs.size (cQ9 (·.setIfInBounds 3 ((none:Option Nat).elim Value.none λf=>cXa f)))).get? b=some o:=λb o g q=>by
   rw[cQx _ _ (cZw (bY6 q)),cQx _ _ (cQB g)];exact bYX _ q
  refine⟨λb o g _ H q=>u b o g ((d.2.1 b H).trans q),λb o g _ q=>?_,λb o q=>?_⟩
  ·obtain⟨B,w⟩:=d.2.2 b o q;exact⟨B,u b _ g w⟩
  ·by_cases g:b=e
   ·subst g;exact⟨_,(cQx _ _ l).trans n⟩
   ·obtain⟨B,w⟩:=d.2.2 b o q;exact⟨_,u b _ g w⟩
def aVO{Q:Unit->bYV->Prop}(g:A.frames=some (env::outer))(hl:s.heap.FunFrames base (env::outer))(u:env.frame=some L)(x:Y6 s.heap e cls dx tb) (h:∀i T,Y6 i e cls dx (some T)->s.heap.objs.size<=T->bKM ((env::outer).filterMap (·.frame)) e tb s.heap i->Q () {s with heap:=i}): bY0 M A (cJl (.ref e) env) (λ_ F=>bY0 M A (cZ0 (.ref e) none) Q E F) E s:=by
 obtain⟨N,B,r,I,G,n,v⟩:=x.obj;subst I G;have C:=(cZk.mp v).1;unfold cJl;simp only[u];refine bYU (wpAny_field r n v ?_);cases tb with
 |none=>rw[if_neg (by decide)];exact aZv g hl u r n C h
 |some T=>
  obtain⟨ne,K,H,k,j,w⟩:=x.ent T rfl;rw[if_pos (show(tbV (some T) !=Value.none)=true from by simp[tbV])];refine bYU (wpAny_field k j w ?_);rw[if_neg (show ¬ ((Value.none==cXa L)=true)from by simp[cXa])];refine bYU (cXZ k j (cZk.mp w).1 ?_);have f:∀b,b≠T->(s.heap.update T (cQ9 (·.setIfInBounds 3 Value.none))).get? b=s.heap.get? b:=λb l=>cQx _ _ (cQB l);have t:∀b o,s.heap.get? b=some o->(∀B,o.data≠ .fields B)->b≠T:=λb o q m z=>by rw[z,k]at q;cases q;exact m H j
  refine aZv (s:={s with heap:=s.heap.update T (cQ9 (·.setIfInBounds 3 Value.none)) }) g (hl.of_keeps λb o q m=>⟨o,(f b (t b o q m)).trans q,rfl⟩) u ((f e (cQB ne)).trans r) n C λi J y D p=>h i J y ?_ ⟨λb o a c d q=>?_,λb o a c q=>?_,λb o q=>?_⟩
  ·rw[<- Heap.size_after_update s.heap T (cQ9 (·.setIfInBounds 3 Value.none))];exact D
  ·exact p.keep b o a (by simp) d ((f b λz=>c (by rw[z])).trans q)
  ·exact p.slot b o a (by simp) ((f b λz=>c (by rw[z])).trans q)
  ·by_cases l:b=T
   ·subst l;exact p.there _ _ (cQZ _ k (cXh (cXk j _)))
   ·exact p.there b o ((f b l).trans q)
def aYp{Q:Unit->bYV->Prop}(a:A.frames=some (env::outer))(hl:s.heap.FunFrames base (env::outer))(c:env.frame=some L)(x:Y6 s.heap e cls dx tb) (h:∀b T,Y6 b e cls dx (some T)->s.heap.objs.size<=T->bKM ((env::outer).filterMap (·.frame)) e tb s.heap b->Q () {s with heap:=b}):bY0 M A (leaving env (.ref e)) Q E s:=by
 unfold leaving;exact bYU (aVO a hl c x h)
def bXv{T:Nat}{Q:Unit->bYV->Prop}(x:Y6 s.heap e cls dx (some T)) (h:∀d,Y6 d e cls dx (some T)->(∀b o,b≠T->s.heap.get? b=some o->d.get? b=some o)->(∀b o,s.heap.get? b=some o->∃n,d.get? b=some n)->Q () {s with heap:=d}):bY0 M A (cZ0 (.ref e) none) Q E s:=by
 obtain⟨w,t,k,u,r,j,g⟩:=x.obj;obtain⟨ne,y,z,m,f,p⟩:=x.ent T rfl;have l:=(cZk.mp p).1;have i:=cQZ (cQ9 (·.setIfInBounds 3 Value.none)) m (cXh (cXk f _));have a:∀b,b≠T->(s.heap.update T (cQ9 (·.setIfInBounds 3 Value.none))).get? b=s.heap.get? b:=λb c=>cQx _ _ (cQB c);refine wpAny_setFlight_none k j g m f l (h _ ⟨⟨w,t,(a e (cQB ne)).trans k,u,r,j,g⟩,λB v=>?_⟩ (λb o c q=>(a b c).trans q) λb o q=>?_)
 ·cases v;exact⟨ne,_,_,i,cXk f _,by simp[l]⟩
 ·by_cases c:b=T
  ·subst c;exact⟨_,i⟩
  ·exact⟨o,(a b c).trans q⟩
end
end L2
namespace L2
open PySem PySem.W PySem.Calls PyProof.Rows Builtin Builtin.ObjectAttr
def qB:List bYS:= [.type BU,.type Ak,.type "object"]
def aJF:List bYS->Bool
 |.ref _::r=>aJF r
 |l=>l==qB
def aKF:∀l:List bYS,aJF l=true->∃a:List Nat,l=a.map Value.ref++qB:=by
 intro l;induction l with
 |nil=>intro e;cases e
 |cons v r b=>
  intro e;cases v with
  |ref c=>obtain⟨a,h⟩:=b e;exact⟨c::a,by rw[h];rfl⟩
  |_=>exact⟨[],beq_iff_eq.mp e⟩
def aQ5(self:bYS):∀rs:List Nat,refuseLoop self Ax (rs.map Value.ref++qB)=pure ()
 |[]=>PySem.F.store_Exception.passes self
 |c::rs=>by rw[cQF,cJu,refuseLoop_ref];exact aQ5 self rs
def aWl{T:String}{b:Bool}(h:qB.contains (.type T)=b):∀rs:List Nat,(rs.map Value.ref++qB).contains (.type T)=b
 |[]=>h
 |c::rs=>by rw[cQF,cJu,cZf,aWl h rs];rfl
def bXk(K:Frag)(C:Nat):Bool:=match K.lookup C with
 |some ⟨_,_,.cls cd,sl⟩=> !cd.hasDel && cd.hasDict && (sl.toList[4]?).join==some (.builtin "Exception.__new__") && aJF cd.mro && cd.mro.contains (.ref C) &&
   specialIn K (.ref C) "__call__"==some (some (.builtin "type.__call__")) && instIn K (.ref C) (.type C6)==some true && typeIn K (.ref C)==some (.type C6) &&
   findIn K (.ref C) Ax==some (some (.builtin "object.__setattr__")) && findIn K (.ref C) Ad==some (some (.builtin "BaseException.__getattribute__")) &&
   findIn K (.ref C) "__getattr__"==some none && findIn K (.ref C) AG==some none
 |_=>false
structure v8(K:Frag)(C:Nat):Prop where
 cls:∃oc od cd sl,K.lookup C=some ⟨oc,od,.cls cd,sl⟩/\cd.hasDel=false/\cd.hasDict=true/\(sl.toList[4]?).join=some (.builtin "Exception.__new__")/\(∃rs:List Nat,cd.mro=rs.map Value.ref++qB)/\cd.mro.contains (.ref C)=true
 call:specialIn K (.ref C) "__call__"=some (some (.builtin "type.__call__"))
 typ:instIn K (.ref C) (.type C6)=some true
 ty:typeIn K (.ref C)=some (.type C6)
 sa:findIn K (.ref C) Ax=some (some (.builtin "object.__setattr__"))
 ga:findIn K (.ref C) Ad=some (some (.builtin "BaseException.__getattribute__"))
 gh:findIn K (.ref C) "__getattr__"=some none
 wd:findIn K (.ref C) AG=some none
def aK5{K:Frag}{C:Nat}(e:bXk K C=true):v8 K C:=by
 unfold bXk at e;split at e
 ·rename_i n r k g h;simp only[Bool.and_eq_true,Bool.not_eq_true',beq_iff_eq]at e;obtain⟨⟨⟨⟨⟨⟨⟨⟨⟨⟨⟨o,f⟩,i⟩,p⟩,m⟩,q⟩,l⟩,j⟩,d⟩,a⟩,b⟩,c⟩:=e;exact⟨⟨n,r,k,g,h,o,f,i,aKF _ p,m⟩,q,l,j,d,a,b,c⟩
 ·cases e
abbrev wM(C t:Nat)(dx:Option Nat):Obj:={cls:= .ref C,dict:=dx,data:= .fields #[.ref t,.none,.none,.none,.bool false,.none] }
abbrev W7:Obj:={cls:= .type AD,data:= .seq #[] }
section
variable {M:Model}{K:Frag}{C:Nat}{h:Heap}
def v8.sub(X:K.In h)(c:v8 K C){T:String}{b:Bool}(a:qB.contains (.type T)=b):Looks M h (cZY (.ref C) (.type T)) b:=by
 obtain⟨n,o,d,k,f,p,j,i,⟨l,e⟩,m⟩:=c.cls;have g:clsIn K C=some d:=by unfold clsIn;rw[f]
 refine looks_mroIn X ?_;unfold mroIn;rw[g,Option.bind_some,e,if_neg (by simp[qB]),aWl a]
def v8.self(X:K.In h)(c:v8 K C):Looks M h (cZY (.ref C) (.ref C)) true:=by
 obtain⟨l,m,a,j,e,n,i,g,⟨k,b⟩,d⟩:=c.cls;have f:clsIn K C=some a:=by unfold clsIn;rw[e]
 refine looks_mroIn X ?_;unfold mroIn;rw[f,Option.bind_some,if_neg (by rw[b];simp[qB]),d]
def v8.made(X:K.In h)(c:v8 K C):Looks M h (Bind.madeBy (.ref C)) (some "Exception.__new__"):=by
 obtain⟨n,r,a,j,b,o,i,f,⟨m,p⟩,d⟩:=c.cls;have g:clsIn K C=some a:=by unfold clsIn;rw[b]
 have e:Looks M h (mroOf (.ref C)) a.mro:=(looks_clsIn X g).andThen .now;obtain⟨v,l,hl⟩:∃v l,a.mro=v::l:=by
  cases q:a.mro with
  |nil=>rw[q]at d;cases d
  |cons v l=>exact⟨v,l,rfl⟩
 intro A Q E s k q;unfold Bind.madeBy;refine bYU (e A _ E s k ?_);rw[hl,cJD];refine bYU (bYU (bYU (bYU (wpAny_loadPart (k _ _ (X _ _ b)) (bYY ?_)))));dsimp only;rw[<- cXr,f];exact bYY (bYY (bYY q))
def v8.base(X:K.In h)(c:v8 K C):Looks M h (Bind.staticBase (.ref C)) (.ref C):=by
 have made:=c.made (M:=M) X;obtain⟨n,r,a,i,e,o,g,m,⟨j,p⟩,b⟩:=c.cls;have f:clsIn K C=some a:=by unfold clsIn;rw[e]
 have d:Looks M h (mroOf (.ref C)) a.mro:=(looks_clsIn X f).andThen .now;obtain⟨v,l,hl⟩:∃v l,a.mro=v::l:=by
  cases q:a.mro with
  |nil=>rw[q]at b;cases b
  |cons v l=>exact⟨v,l,rfl⟩
 intro A Q E s k q;unfold Bind.staticBase;refine bYU (d A _ E s k ?_);rw[hl,cJD];exact bYU (bYU (bYU (made A _ E s k (bYY (bYY (bYY q))))))
def v8.here(X:K.In h)(c:v8 K C):Looks M h (Bind.madeHere "BaseException.__new__" (.ref C)) ():=
 (c.base X).andThen ((c.made X).andThen (Looks.of_pure (by simp only[Option.map_some,cVe.canon,bne_self_eq_false,Bool.false_eq_true,if_false])))
end
section
variable {prog:cQe}{w:cQm}{A:cQA}{R:Result->bYV->Prop}{K:Frag}{C f:Nat}{h:Heap}{g:Array GenState}{d:Drawn}{t:Nat}{os:OsState}
def bJQ(X:K.In h)(c:v8 K C)(m:R (.ok (.ret (.ref (h.objs.size+1)))) ⟨(h.push W7).push (wM C h.objs.size none),g,d,t,os⟩): cZb (bY2 prog w) A (.call (.builtin "Exception.__new__") ⟨[.ref C],[]⟩) R ⟨h,g,d,t,os⟩:=by
 have F:=cVe;have made:=c.made (M:=bY2 prog w) X;have j:=c.base (M:=bY2 prog w) X;have here:=c.here (M:=bY2 prog w) X;have v:Looks (bY2 prog w) h (cZY (.ref C) (.type BU)) true:=c.sub X dk;have z:Looks (bY2 prog w) h (cZY (.ref C) (.type "AttributeError")) false:=c.sub X dk;have x:Looks (bY2 prog w) h (cZY (.ref C) (.type "NameError")) false:=c.sub X dk;obtain⟨k,o,i,e,f,n,q,s,⟨r,y⟩,u⟩:=c.cls;have l:h.get? C=some ⟨k,o,.cls i,e⟩:=X _ _ f;refine codeAny_call_builtin_code (cJX _ F.quiet) ?_;simp only[checkBuiltinCall,F.newKind,F.newSplit,F.newRow];have args:Bind.checkArgs "Exception.__new__" ⟨.any,BU,BU,.cls,[⟨"args",.varPos,false⟩,⟨"kwargs",.varKw,false⟩]⟩ ⟨[.ref C],[]⟩=pure ():=by kernel_rfl
 rw[args];repeat (first|simp only[bne_self_eq_false,Bool.false_eq_true,if_false]|lk)
 have a:=F.ends;refine codeAny_builtinAt F.entry ?_;unfold cXF.«BaseException.__new__»;refine PySem.wpAt_bind ?_;show PySem.wpAt _ _ _ (stack >>=_) _ _ _;refine PySem.wpAt_bind (PySem.wpAt_stack λp b=>PySem.wpAt_of_wpAny ?_);wp_walk;refine PySem.wpAt_of_wpAny ?_;rw[F.owner];repeat (first|simp only[Bool.not_true,Bool.false_eq_true,if_false]|lk)
 refine nd_load (bYX _ (bYX _ l)) (bYY ?_);dsimp only;refine bYY ?_;rw[n];refine bYY (bYY ?_);show R _ _;rw[cXs];exact m
def bXl(X:K.In h)(c:v8 K C)(n:findIn K (.ref C) AE=some (some (.ref f)))(y:typeIn K (.ref f)=some (.type "function")) (x:cZb (bY2 prog w) (A.under (.builtin "type.__call__" ⟨[.ref C],[]⟩)) (.call (.ref f) ⟨[.ref (h.objs.size+1)],[]⟩) (InitBack (h.objs.size+1) R) ⟨(h.push W7).push (wM C h.objs.size none),g,d,t,os⟩): cZb (bY2 prog w) A (.call (.ref C) ⟨[],[]⟩) R ⟨h,g,d,t,os⟩:=by
 obtain⟨u,D,i,m,p,N,E,I,⟨F,B⟩,L⟩:=c.cls;have l:h.get? C=some ⟨u,D,.cls i,m⟩:=X _ _ p;have call:=looks_specialIn (M:=bY2 prog w) X c.call;have j:=looks_instIn (M:=bY2 prog w) X c.typ;have made:=c.made (M:=bY2 prog w) X;have s:i.mro.isEmpty=false:=by rw[B];simp[qB]
 refine codeAny_of_tree ?_;show bY0 _ _ (callAny (.ref C) _) _ _ _;refine nd_load l ?_;show bY0 _ _ (callAny.viaDunder (.ref C) _) _ _ _;unfold callAny.viaDunder;refine bYU (call.at ?_);dsimp only;rw[tc_bind];refine bYU (bYY (bYU (bYY ?_)));refine bYY (a:=Fin.again (.call (.builtin "type.__call__") ⟨[.ref C],[]⟩)) (And.intro rfl ?_);refine codeAny_call_builtin_at (cJX _ dk) entry_typeCall (check_slot tc_kind tc_split j (tc_args _ _ _) ?_);unfold cXF.«type.__call__»;have G:Looks (bY2 prog w) h (mroOf (.ref C)) i.mro:=((Looks.ld (part:=none) l).andThen .now).andThen .now;repeat (first|simp only[s,Bool.false_eq_true,if_false]|with_reducible refine cZ5 ?_|lk)
 refine bJQ X c ?_;have k:∀b o,h.get? b=some o->((h.push W7).push (wM C h.objs.size none)).get? b=some o:=λb o e=>bYX _ (bYX _ e);have q:((h.push W7).push (wM C h.objs.size none)).get? (h.objs.size+1)=some (wM C h.objs.size none):=by heap_get
 have O:Looks (bY2 prog w) ((h.push W7).push (wM C h.objs.size none)) (typeOf (.ref (h.objs.size+1))) (.ref C):=(Looks.ld q).andThen .now;have H:=(c.self (M:=bY2 prog w) X).keeps k;have P:=(looks_findIn (M:=bY2 prog w) X n).keeps k;have b1:=(bind_fn (M:=bY2 prog w) X (.ref (h.objs.size+1)) y).keeps k;unfold cJJ callSpecial? specialOf;repeat (first|with_reducible refine cZ5 ?_|lk)
 refine cXL x λr J z=>?_;rcases r with e|(v|_|_|_)<;> first|exact z|exact z.elim|skip
 obtain⟨rfl,z⟩:=z;exact bYY (bYY z)
end
section
variable {prog:cQe}{w:cQm}{A:cQA}{E:bYS->bYV->Prop}{K:Frag}{C e tp:Nat}{s:bYV}{v:bYS}
def bJR{Q:Unit->bYV->Prop}(X:K.In s.heap)(c:v8 K C)(k:s.heap.get? e=some (wM C tp none)) (J:∀d tk,d.get? e=some (wM C tp (some s.heap.objs.size))->d.Ns1 s.heap.objs.size (λy=>if y=AG then some v else none)->(∀b o,b≠e->s.heap.get? b=some o->d.get? b=some o)->Q () {s with heap:=d,toks:=tk}): bY0 (bY2 prog w) A (setAttr (.ref e) AG v) Q E s:=by
 have I:InstAt s.heap e (wM C tp none) C none:=⟨k,rfl,rfl,cXg⟩;refine set_plain X I c.sa ?_;have g:=PySem.F.store_object;obtain⟨V,Y,u,P,G,W,B,S,⟨R,N⟩,T⟩:=c.cls;have z:clsIn K C=some u:=by unfold clsIn;rw[G]
 have sub:Looks (bY2 prog w) s.heap (cJJ (.ref e) (.type "object")) true:=I.type.andThen (c.sub X dk);have D:Looks (bY2 prog w) s.heap (mroOf (.ref C)) u.mro:=(looks_clsIn X z).andThen .now;refine cJI g.slot.plain g.entry (@check_slot (bY2 prog w) _ _ {s with toks:=s.toks+1} "object.__setattr__" "object" Ax (.ref e) [.str AG s.toks,v] [] _ g.kind g.split sub (g.args (.ref e) (.str AG s.toks) v) ?_);rw[osa_eq,refuse_eq];have h:∀ (b:Nat)(o:Obj),s.heap.get? b=some o->s.heap.get? b=some o:=λ_ _ e=>e;refine bYU (bYU (I.type _ _ _ _ h (bYU (D _ _ _ _ h ?_))));rw[N,aQ5];refine bYY (bYU (I.type _ _ _ _ h (bYU ((looks_findIn X c.wd) _ _ _ _ h (bYU (bYY ?_))))));have i:e≠s.heap.objs.size:=cQj (bY6 k);have j:(s.heap.push emptyDict).get? e=some (wM C tp none):=bYX _ k;refine bYU (bYY (bYU (bYU (wpAny_loadPart k (bYU ((looks_clsIn X z) _ _ _ _ h ?_))))));rw[B];refine bYU (wpAny_alloc ?_);refine bYU (wpAny_update j ?_);refine bYY (a:=some s.heap.objs.size) ?_;show bY0 _ _ (storeInDict s.heap.objs.size (.str AG s.toks) AG v) _ _ _;have t:((s.heap.push emptyDict).update e λo=>{o with dict:=some s.heap.objs.size}).get? s.heap.objs.size=some emptyDict:=(cJN _ _ _ _ i.symm).trans (Heap.get?_push_at rfl rfl);have r:((s.heap.push emptyDict).update e λo=>{o with dict:=some s.heap.objs.size}).Ns s.heap.objs.size (λ_=>none):=⟨_, #[],_,t,rfl,λe H=>absurd H (by simp),λ_=>rfl⟩;have l:=cQZ (λo=>{o with dict:=some s.heap.objs.size}) j rfl;unfold storeInDict newKeyGuard;refine bYU (bYY (bYU (wpAny_nsSet1 (Heap.Ns1.of_empty r) λd f x=>?_)));obtain⟨U,O,L,n,p,m⟩:=f.count (Within.cons AG v Within.nil);refine bYU (wpAny_lookBehind n (by rw[p];exact pastItsLine_dict (cQv m (by rw[cQR,cX3,cQr];omega))) ?_);refine bYY ?_;refine J d _ ((x.2 e i).trans l) f λb o M q=>?_;exact(x.2 b (cQj (bY6 q))).trans ((cJN _ _ _ _ M).trans (bYX _ q))
def bga:Slot BU Ad "BaseException.__getattribute__":=
 .of (owner:=Ak) (n:=Ad) (by rw[typeLookup_type,cJA];kernel_rfl) dk dk dk (by first|exact .inl dk|exact .inr dk) (by rw[isSubtype_type];kernel_rfl)
def bJP{a:Bool}{Q:bYS->bYV->Prop}{b d:Obj}{dx:Nat}(X:K.In s.heap)(c:v8 K C)(l:s.heap.get? e=some b)(u:b.cls= .ref C)(k:b.dict=some dx)(n:notCls b=true)(m:s.heap.get? dx=some d) (hl:lookIn AG d=some (some v)) (t:handedIn v=true) (p:Q v {s with toks:=s.toks+1}):bY0 (bY2 prog w) A (getAttr (.ref e) AG a) Q E s:=by
 have I:InstAt s.heap e b C (some d):=⟨l,u,n,by rw[k];exact m⟩;obtain⟨G,x,o,y,f,H,j,B,⟨z,J⟩,D⟩:=c.cls;have g:clsIn K C=some o:=by unfold clsIn;rw[f]
 have r:findObj K C (some d) AG=some (.value v):=by unfold findObj;rw[g,Option.bind_some,c.wd];simp only[Option.bind_some];unfold W.ownOf;rw[j,if_pos rfl];dsimp only;rw[hl];rfl
 have h:=I.type (M:=bY2 prog w);have i:=looks_find (M:=bY2 prog w) X I r;have sub:Looks (bY2 prog w) s.heap (cJJ (.ref e) (.type Ak)) true:=I.type.andThen (c.sub X dk);refine bYU (wpAny_mkText (cXd (bYU (h _ _ _ _ (λ_ _ e=>e) (bYU (looks_findIn X c.ga _ _ _ _ (λ_ _ e=>e) ?_))))));dsimp only;rw[show(onTheHeap (Value.ref C) && Value.builtin "BaseException.__getattribute__"==Value.builtin "object.__getattribute__")=false from by rw[show(Value.builtin "BaseException.__getattribute__"==Value.builtin "object.__getattribute__")=false from dk,Bool.and_false],if_neg (by decide)];have q:Looks (bY2 prog w) s.heap (hookBefore (.ref C)) none:=looks_hook (mc:= .ref C) X (by rw[if_pos (show onTheHeap (Value.ref C)=true from rfl)];exact c.gh);refine bYU (q _ _ _ _ (λ_ _ e=>e) (bYU (cJa (cXd ?_))));unfold callGetattribute;rw[show(a && onTheHeap (Value.builtin "BaseException.__getattribute__"))=false from Bool.and_false _,if_neg (by decide)];unfold boundAndCalled;rw[bga.bind];refine bYU (bYY ?_);show bY0 _ _ (call (.builtin "BaseException.__getattribute__") [.ref e,.str AG s.toks]) _ _ _;refine cZ5 (cJI bga.plain F.entry_bexc_ga ?_);refine @check_slot (bY2 prog w) _ _ {s with toks:=s.toks+1} "BaseException.__getattribute__" Ak Ad (.ref e) [.str AG s.toks] [] _ dk dk sub (F.args_bexc_ga (.ref e) (.str AG s.toks)) ?_;unfold cXF.«object.__getattribute__»;refine bYU (bYY (bYU (bYY ?_)));refine bYU (h _ _ _ _ (λ_ _ e=>e) (bYU (i _ _ _ _ (λ_ _ e=>e) (bYY ?_))));show bY0 _ _ (handedOut v) _ _ _;rw[handedOut_of t];exact bYY p
def aK6{M:Model}{Q:Bool->bYV->Prop}{h:Obj}{Rf:Nat}(X:K.In s.heap)(c:v8 K C)(b:v8 K Rf)(n:mroIn K C (.ref Rf)=some true)(f:s.heap.get? e=some h)(o:h.cls= .ref C)(m:Q true s): bY0 M A (excMatches (.ref e) (.ref Rf)) Q E s:=by
 obtain⟨a,g,d,t,os⟩:=s;dsimp only at X f;have F:Looks M a (typeOf (.ref e)) (.ref C):=o ▸ (Looks.ld f).andThen .now;have u:Looks M a (cZY (.ref C) (.ref Rf)) true:=looks_mroIn X n;have x:Looks M a (cJJ (.ref Rf) (.type AD)) false:=(looks_typeIn X b.ty).andThen (Looks.of_pure tc_notTuple);have w:Looks M a (cZY (.ref Rf) (.type Ak)) true:=b.sub X dk;have H:Looks M a (typeOf (.ref Rf)) (.type C6):=looks_typeIn X b.ty;have y:Looks M a (cZY (.type C6) (.type C6)) true:=Looks.of_pure tc_sub;obtain⟨l,p,k,i,j,D,q,v,⟨r,G⟩,z⟩:=b.cls;have B:a.get? Rf=some ⟨l,p,.cls k,i⟩:=X _ _ j;unfold excMatches isExcClass;repeat (first|simp only[Bool.not_true,Bool.false_eq_true,if_false,if_true]|lk)
 exact m
def aK7{M:Model}{env:Env}{x:Sem bYS}{Q:Flow->bYV->Prop}(k:A.handled=none) (h:bY0 M A x (λv a=>∃e tp f C,v= .ref e/\K.In a.heap/\v8 K C/\a.heap.get? e=some (wM C tp f)/\E (.ref e) a) E s):bY0 M A (raiseStmt env (some x) none) Q E s:=by
 unfold raiseStmt;refine bYU (cQW h (λv a j=>?_) λ_ _ x=>x);obtain⟨e,tp,f,C,rfl,X,c,i,l⟩:=j;obtain⟨b,g,d,tk,os⟩:=a;dsimp only at X i;have o:Looks M b (typeOf (.ref e)) (.ref C):=(Looks.ld i).andThen .now;have m:Looks M b (cZY (.ref C) (.type Ak)) true:=c.sub X dk;have n:Looks M b (typeOf (.ref C)) (.type C6):=looks_typeIn X c.ty;unfold excFromValue isExcClass cJJ;repeat (first|simp only[Bool.false_eq_true,if_false,if_true]|lk)
 show bY0 M A handled _ _ _;refine wpAny_handled ?_;rw[k];exact wpAny_throw l
end
end L2
namespace L2
open PySem PySem.Spec PyProof.Rows
def CXR(P:cQe)(w:cQm):CXT:=λouter H s E d a=>∃ (e C c tb:Nat)(b:Hp),d= .ref e/\a.os=s.os/\AllBare a.gens/\Un (frs outer) [] H b s.heap a.heap/\HOk P w b a.heap/\
 Y6 a.heap e (.ref C) (some c) (some tb)/\b e=none/\b tb=none/\s.heap.objs.size<=e/\s.heap.objs.size<=tb/\E (.ref C) (some c) b
section
variable {P:cQe}{w:cQm}{K:bYT}{mg:Str->Option bYS}{base:Heap}{N:List Str}{qual:Str}{scope:cX8}{f:Nat}{cd:bYS}{A:cQA}{outer:List Env}{s₀:bYV}{H₀:Hp}{E:XK}
 {pins:List (Nat×Obj)} {σ:St} {H:Hp} {s:bYV}
def bKz{e C dx:Nat}{tb:Option Nat}(I:Inv (aXF (CXR P w) P w K mg base N qual scope f cd A outer s₀ H₀ E) pins σ H s)(x:Y6 s.heap e (.ref C) (some dx) tb)(B:H e=none)(m:s₀.heap.objs.size<=e) (D:∀T,tb=some T->H T=none/\s₀.heap.objs.size<=T) (q:E (.ref C) (some dx) H):(aXF (CXR P w) P w K mg base N qual scope f cd A outer s₀ H₀ E).xe (.ref e) s:=by
 have ne:∀b o,s₀.heap.get? b=some o->b≠e:=λb o a=>cQj (cQl (bY6 a) m);have t:∀b o,s₀.heap.get? b=some o->tb≠some b:=λb o a z=>absurd (cQl (bY6 a) (D b z).2) (cQ4 _);have G:∀b,b∈(cXQ qual scope s₀.heap.objs.size f cd::outer).filterMap (·.frame)->b=s₀.heap.objs.size\/b∈frs outer:=λb d=>by rw[cZC,show(cXQ qual scope s₀.heap.objs.size f cd).frame=some s₀.heap.objs.size from rfl]at d;exact bY1.mp d
 have k:∀b o,s₀.heap.get? b=some o->b∉frs outer->b∉(cXQ qual scope s₀.heap.objs.size f cd::outer).filterMap (·.frame):=λb o a d z=>
  (G b z).elim (cQj (bY6 a)) d
 show bY0 (bY2 P w) (A.deeper (cXQ qual scope s₀.heap.objs.size f cd)) (leaving (cXQ qual scope s₀.heap.objs.size f cd) (.ref e)) _ _ s;refine aYp (base:=base) (outer:=outer) (L:=s₀.heap.objs.size) I.ok.frames I.stack rfl x λQ T y l p=>?_;refine⟨e,C,dx,T,H,rfl,I.os,I.bare,?_,?_,y,B,I.hok.fresh l,m,cQv I.sz l,q⟩
 ·refine⟨λb o a n d g=>?_,λb o a n d g=>?_,λb o a n g=>I.base.free b o a n g,λb o a g=>?_,I.base.tups,I.base.frzs,I.base.tbls⟩
  ·exact p.keep b o (ne b o a) (t b o a) (k b o a d) (I.base.keep b o a n d g)
  ·obtain⟨O,j⟩:=I.base.slot b o a n d g;obtain⟨i,J⟩:=p.slot b _ (ne b o a) (t b o a) j;exact⟨i,J⟩
  ·obtain⟨F,j⟩:=I.base.there b o a g;exact p.there b F j
 ·refine λb u a=>(I.hok b u a).stay (λc v M r=>?_) (λ_ r=>r) λ_ _ r=>r;have h:H c≠none:=by
   rcases M with z|z
   ·rw[z,a];simp
   ·rw[z];simp
  refine p.keep c v (λz=>h (by rw[z];exact B)) (λz=>h (D c z).1) (λz=>h (I.stkFree c z)) r
def zZ:vQ (CXR P w) (aXF (CXR P w) P w K mg base N qual scope f cd A outer s₀ H₀ E) E:=by
 intro a σ H s q j I h;obtain⟨e,C,p,tb,n,rfl,l,bare,un,g,x,k,o,c,d,m⟩:=h;have i:Inv (aXF (CXR P w) P w K mg base N qual scope f cd A outer s₀ H₀ E) a σ n j:=I.call' l un g bare λb z=>absurd z (by simp);exact bKz i x k (cQv I.sz c) (λT z=>by cases z;exact⟨o,cQv I.sz d⟩) m
def Fun.okX{x:Str}{st:Stmt}{e:cXR}{ps:List Str}{k:Nat}{sp:Sp}(F:Fun K x qual st f e)(S:yN N ps (yH st)) (b:∀ (a:bYS)(A:cQA)(outer:List Env)(s:bYV)(H:Hp)(vs:List V)(Q:VK)(E:XK),vX k (A.deeper (cXQ qual (yH st) s.heap.objs.size f a))->sp vs H Q E-> ∃t,PSs (aXF (CXR P w) P w K mg base N qual (yH st) f a A outer s H E) (xQ st) t/\t {nx:=λ_ j=>Q .non j,rt:=Q} (start N vs) H) (len:∀vs H Q E,sp vs H Q E->vs.length=ps.length:=by intro _ _ _ _ h;first|(cases h;subst_vars;exact rfl)|repeat (first|(obtain⟨rfl,_⟩:=h;exact rfl)|(obtain⟨_,h⟩:=h))):xE P w K mg base (CXR P w) (k+1) f e ps sp:=by
 obtain⟨o,p,kV,g,m,n,a,ct,l,rfl,lk,d⟩:=F.ex;exact bJT lk d S len λA outer s H vs Q E i c=>b a A outer s H vs Q E i c
end
structure FnX(P:cQe)(w:cQm)(K:bYT)(mg:Str->Option bYS)(base:Heap)(k:Nat)(x:Str)(ps:List Str)(sp:Sp):Prop where
 ex:∃f fd,xE P w K mg base (CXR P w) k f fd ps sp/\v7 K fd ps []/\cQO K (.ref f)=true/\mg x=some (.ref f)
def FnX.mono{P:cQe}{w:cQm}{K:bYT}{mg:Str->Option bYS}{base:Heap}{j k:Nat}{x:Str}{ps:List Str}{sp:Sp}(G:FnX P w K mg base j x ps sp)(h:j<=k):FnX P w K mg base k x ps sp:=
 let ⟨f,fd,a,b⟩:=G.ex;⟨f,fd,a.mono h,b⟩
structure MG(P:cQe)(w:cQm)(K:bYT)(mg:Str->Option bYS)(base:Heap)(CX:CXT)(k:Nat)(C:Nat)(m:Str)(ps:List Str)(sp:Sp):Prop where
 ex:∃f fd,xE P w K mg base CX k f fd ps sp/\v7 K fd ps []/\bWj K C m f
 cl:Cls K C
def MG.mono{P:cQe}{w:cQm}{K:bYT}{mg:Str->Option bYS}{base:Heap}{CX:CXT}{j k:Nat}{C:Nat}{m:Str}{ps:List Str}{sp:Sp}(G:MG P w K mg base CX j C m ps sp)(h:j<=k):MG P w K mg base CX k C m ps sp:=
 let ⟨f,fd,a,b⟩:=G.ex;⟨⟨f,fd,a.mono h,b⟩,G.cl⟩
structure MkG(P:cQe)(w:cQm)(K:bYT)(mg:Str->Option bYS)(base:Heap)(k:Nat)(x:Str)(C:Nat)(ps:List Str)(sp:Sp):Prop where
 ex:∃f fd,xE P w K mg base CX0 k f fd ps sp/\v7 K fd ps []/\Mk K C f/\mg x=some (.ref C)
def MkG.mono{P:cQe}{w:cQm}{K:bYT}{mg:Str->Option bYS}{base:Heap}{j k:Nat}{x:Str}{C:Nat}{ps:List Str}{sp:Sp}(G:MkG P w K mg base j x C ps sp)(h:j<=k):MkG P w K mg base k x C ps sp:=
 let ⟨f,fd,a,b⟩:=G.ex;⟨f,fd,a.mono h,b⟩
section
variable {X:Cx}{k:Nat}{x m:Str}{C:Nat}{ps:List Str}{sp:Sp}{e o:Expr}{es:List Expr}{ta:TE}{t:TA}{p pos apos:Pos}{E:XK}{CX:CXT}
def aQF{P:cQe}{w:cQm}{K:bYT}{mg:Str->Option bYS}{base:Heap}{N:List Str}{qual:Str}{scope:cX8}{f:Nat}{cd:bYS}{A:cQA}{outer:List Env}{s₀:bYV}{H₀:Hp}
  (G:FnX P w K mg base k x ps sp) (m:vX k (A.deeper (cXQ qual scope s₀.heap.objs.size f cd))) (h:Gl (aXF (CXR P w) P w K mg base N qual scope f cd A outer s₀ H₀ E) x) (l:PA (aXF (CXR P w) P w K mg base N qual scope f cd A outer s₀ H₀ E) (e::es) t)
  (c:(x==(AO:Str))=false:=by decide) (i:cQy (e::es) (cXQ qual scope s₀.heap.objs.size f cd)=(false,eval e (cXQ qual scope s₀.heap.objs.size f cd))::cQy es (cXQ qual scope s₀.heap.objs.size f cd):=by rfl)
  (a:(cXw pos (cQy es (cXQ qual scope s₀.heap.objs.size f cd))).any (·.1)=false:=by rfl):
  PE (aXF (CXR P w) P w K mg base N qual scope f cd A outer s₀ H₀ E) (.Call (.Name x p) (e::es) [] pos) (bZM sp [] E t):=by
 obtain⟨g,n,F,b,j,d⟩:=G.ex
 exact aYX F m h d j b .nil zZ l c i a
def v5{pl:Sem Bool}(G:MG X.prog X.w X.K X.mg X.base CX k C m ps sp)(d:vX k X.A)(h:vQ CX X E)(j:PE X o ta)(l:PA X (e::es) t)
  (c:cQy (e::es) X.env=(false,eval e X.env)::cQy es X.env:=by rfl) (a:(cXw pos (cQy es X.env)).any (·.1)=false:=by rfl)
  (n:eval (.Call (.Attribute o m apos) (e::es) [] pos) X.env=(do
   let ov <- eval o X.env
   standAt apos.atName
   let (f,first) <- cJc [ov] (cJk ov m pl)
   callWith pos f first (cXw pos (cQy (e::es) X.env)) (cZ4 pos (cZe [] X.env))):=by rfl):
  PE X (.Call (.Attribute o m apos) (e::es) [] pos) (bZP C m sp [] E ta t):=by
 obtain⟨g,p,F,b,i⟩:=G.ex
 exact bVv j G.cl i F d b .nil h l c a n
def bZb{pl:Sem Bool}(G:MG X.prog X.w X.K X.mg X.base CX k C m ps sp)(a:vX k X.A)(c:vQ CX X E)(e:PE X o ta)
  (h:eval (.Call (.Attribute o m apos) [] [] pos) X.env=(do
   let ov <- eval o X.env
   standAt apos.atName
   let (f,first) <- cJc [ov] (cJk ov m pl)
   callWith pos f first (cXw pos (cQy [] X.env)) (cZ4 pos (cZe [] X.env))):=by rfl):
  PE X (.Call (.Attribute o m apos) [] [] pos) (bZP C m sp [] E ta bZQ):=by
 obtain⟨g,i,F,b,d⟩:=G.ex
 exact bZd e G.cl d F a b .nil c h
def bKY(G:MkG X.prog X.w X.K X.mg X.base k x C ps sp)(f:vX (k+1) X.A)(d:Gl X x)(l:PA X (e::es) t)(c:(x==(AO:Str))=false:=by decide)
  (h:cQy (e::es) X.env=(false,eval e X.env)::cQy es X.env:=by rfl) (a:(cXw pos (cQy es X.env)).any (·.1)=false:=by rfl):PE X (.Call (.Name x p) (e::es) [] pos) (bZO C sp [] E0 t):=by
 obtain⟨g,m,F,b,j,i⟩:=G.ex
 exact bVu j F f d i b .nil v1 l c h a
def bJk(G:MkG X.prog X.w X.K X.mg X.base k x C ps sp)(d:vX (k+1) X.A)(c:Gl X x)(a:(x==(AO:Str))=false:=by decide):PE X (.Call (.Name x p) [] [] pos) (bZO C sp [] E0 bZQ):=by
 obtain⟨g,h,F,b,f,e⟩:=G.ex;exact bZc f F d c e b .nil v1 a
end
end L2
namespace L2
open PySem PySem.Spec PyProof.Rows
def qG(e C tp:Nat)(dx:Option Nat):HO:= .ext λh=>h.get? e=some (wM C tp dx)
def aVE{P:cQe}{w:cQm}{H:Hp}{h:Heap}{e C tp:Nat}{dx:Option Nat}(b:h.get? e=some (wM C tp dx)):zH P w H h e (qG e C tp dx):=⟨b,⟨_,b⟩,λd c a k=>k _ a⟩
def aVD{P:cQe}{w:cQm}{H:Hp}{h:Heap}{e C tp:Nat}{dx:Option Nat}(ok:HOk P w H h)(a:H e=some (qG e C tp dx)):h.get? e=some (wM C tp dx):=(ok e _ a).1
section
variable {X:Cx}{pins:List (Nat×Obj)}{σ:St}{H:Hp}{s:bYV}
def Inv.forget{e:Nat}{φ:Heap->Prop}(I:Inv X pins σ H s)(j:H e=some (.ext φ)):Inv X pins σ (λb=>if b=e then none else H b) s:=by
 have ne:∀b u,H b=some u->(∀φ,u≠ .ext φ)->b≠e:=λb u q n z=>by rw[z,j]at q;cases q;exact n _ rfl
 refine⟨I.ok,I.os,I.bare,⟨I.base.keep,I.base.slot,λb o q n g=>?_,I.base.there,λb d q=>?_,λb o u q=>?_,λb ps q=>?_⟩,I.loc,I.cell,?_,λx c q=>?_,λp l=>?_,λb u q=>?_,I.len⟩
 ·show(if b=e then none else H b)=none;rw[I.base.free b o q n g];split<;> rfl
 ·have z:=I.base.tups b d q;show(if b=e then none else H b)=_;rw[if_neg (ne b _ z λ_ y=>by cases y),z]
 ·have z:=I.base.frzs b o u q;show(if b=e then none else H b)=_;rw[if_neg (ne b _ z λ_ y=>by cases y),z]
 ·obtain⟨m,z⟩:=I.base.tbls b ps q;refine⟨m,?_⟩;show(if b=e then none else H b)=_;rw[if_neg (ne b _ z λ_ y=>by cases y),z]
 ·show(if _=e then none else H _)=none;rw[I.free];split<;> rfl
 ·show(if c=e then none else H c)=none;rw[I.freeC x c q];split<;> rfl
 ·obtain⟨i,k,h⟩:=I.pin p l;refine⟨i,?_,h⟩;show(if p.1=e then none else H p.1)=none;rw[k];split<;> rfl
 ·have a:(if b=e then none else H b)=some u:=q;by_cases f:b=e
  ·rw[if_pos f]at a;cases a
  ·rw[if_neg f]at a;refine(I.hok b u a).stay (λc v _ r=>r) (λc r=>?_) λc d r=>?_
   ·show(if c=e then none else H c)=_;rw[if_neg (ne c _ r λ_ y=>by cases y),r]
   ·show(if c=e then none else H c)=_;rw[if_neg (ne c _ r λ_ y=>by cases y),r]
inductive bK5(K:bYT)(D:aJo)(σ:St)(y:V)(x:V)(H2:Hp):Prop|mk(e C tp)(_:x= .ref e)(_:H2 e=some (qG e C tp none))(_:v8 K C)(_:∀dx,H2 dx=none->D.nx σ (upd (upd H2 dx (.xd [(AG,y)])) e (qG e C tp (some dx))))
def bYI(K:bYT)(c d:TE):TS:=λD σ H=>d σ H λy b=>c σ b λx a=>bK5 K D σ y x a
def bW4{o a:Expr}{E A:TE}{pos i:Pos}(M:PE X o E)(P:PE X a A)(O:swapsWith a (some (.Attribute o AG i)) pos.line X.env=pure false): PS X (.Assign [.Attribute o AG i] a pos) (bYI X.K E A):=by
 intro pins s σ H D I h;refine cJB (thn (P pins s σ H _ I h) λu s1 ⟨y,H1,I1,ry,q⟩=>thn (M pins s1 σ H1 _ I1 q) λov s2 ⟨x,H2,I2,rx,e,C,tp,ex,ea,c,q2⟩=>?_) O;subst ex;obtain rfl:ov=Value.ref e:=rx;have F:=aVD I2.hok ea;have g:H2 s2.heap.objs.size=none:=I2.hok.fresh (bYZ _);have G:=q2 _ g;refine bJR I2.kIn c F λQ tk B J k=>⟨σ,_,I2.un (t':=tk) ?_ ?_,G⟩
 ·have nb:∀b,H2 b=none->b≠e:=λb n z=>by rw[z,ea]at n;cases n
  have L:∀b o,s2.heap.get? b=some o->b≠s2.heap.objs.size:=λb o r=>cQj (bY6 r);have p:∀b u,H2 b=some u->(∀φ,u≠ .ext φ)->upd (upd H2 s2.heap.objs.size (.xd [(AG,y)])) e (qG e C tp (some s2.heap.objs.size)) b=some u:=λb u r n=>by rw[yI (λz=>by rw[z,ea]at r;cases r;exact n _ rfl),yI (yJ r g)];exact r
  refine⟨λb o r n _ _=>k b o (nb b n) r,λb o r n _ _=>⟨o.slots,k b o (nb b n) r⟩,λb o r n _=>?_,λb o r _=>?_,λb N r=>p b _ r (λ_ z=>by cases z),λb o u r=>p b _ r (λ_ z=>by cases z),λb ps r=>⟨#[],by rw[p b _ r (λ_ z=>by cases z)];simp⟩⟩
  ·rw[yI (nb b n),yI (L b o r)];exact n
  ·by_cases j:b=e
   ·subst j;exact⟨_,B⟩
   ·exact⟨o,k b o j r⟩
 ·intro b v r;by_cases j:b=e
  ·subst j;rw[yB]at r;cases r;exact aVE B
  ·rw[yI j]at r;by_cases w:b=s2.heap.objs.size
   ·subst w;rw[yB]at r;cases r;refine⟨_,J,λf=>?_⟩;show aZi (cZd f [(AG,y)]) (if f=AG then some u else none);by_cases m:f=AG
    ·subst m;exact ry
    ·rw[if_neg m];have:(f==(AG:Str))=false:=by simpa using m
     simp[cZd,this,aZi]
   ·rw[yI w]at r;have ne:∀c l,H2 c=some l->(∀φ,l≠ .ext φ)->c≠e:=λc l d n z=>by rw[z,ea]at d;cases d;exact n _ rfl
    refine(I2.hok b v r).stay (λc o t d=>k c o ?_ d) (λc d=>?_) λc N d=>?_
    ·rcases t with rfl|t
     ·exact j
     ·exact ne c _ t λ_ z=>by cases z
    ·rw[yI (ne c _ d λ_ z=>by cases z),yI (yJ d g)];exact d
    ·rw[yI (ne c _ d λ_ z=>by cases z),yI (yJ d g)];exact d
end
inductive wS(K:bYT)(vs:List V)(H:Hp)(Q:VK)(_:XK):Prop|mk(e C tp:Nat)(y:V)(_:vs= [.ref e,y])(_:H e=some (qG e C tp none))(_:v8 K C)(_:∀dx,H dx=none->Q .non (upd (upd H dx (.xd [(AG,y)])) e (qG e C tp (some dx))))
inductive bZK(C:Nat)(t:Str)(vs:List V)(H:Hp)(Q:VK):Prop|mk(e tp:Nat)(_:vs= [.ref e])(_:H e=some (qG e C tp none))(_:∀dx,H dx=none->Q .non (upd (upd H dx (.xd [(AG,.str t)])) e (qG e C tp (some dx))))
def wH(K:bYT)(C:Nat)(t:Str):Sp:=λa H Q _=>bZK C t a H Q
structure aWo(P:cQe)(w:cQm)(K:bYT)(mg:Str->Option bYS)(base:Heap)(k:Nat)(x m:Str)(ps:List Str)(sp:Sp):Prop where
 ex:∃ (R f:Nat)(fd:cXR),xE P w K mg base CX0 k f fd ps sp/\v7 K fd ps []/\PySem.W.readsIn K R (.type C6)=true/\PySem.W.findCls K (.ref R) (.type C6) m=some (.val (.ref f))/\
  cJr K (.ref R) Ad=some (some (.builtin "type.__getattribute__"))/\cQO K (.ref f)=true/\mg x=some (.ref R)
section
variable {X:Cx}{k:Nat}{x m:Str}{ps:List Str}{sp:Sp}{e:Expr}{es:List Expr}{t:TA}{p pos apos:Pos}
def u4{pl:Sem Bool}(G:aWo X.prog X.w X.K X.mg X.base k x m ps sp)(u:vX k X.A)(j:Gl X x)(q:PA X (e::es) t)(d:(x==(AO:Str))=false:=by decide)
  (c:cQy (e::es) X.env=(false,eval e X.env)::cQy es X.env:=by rfl) (a:(cXw pos (cQy es X.env)).any (·.1)=false:=by rfl)
  (y:eval (.Call (.Attribute (.Name x p) m apos) (e::es) [] pos) X.env=(do
   let ov <- eval (.Name x p) X.env
   standAt apos.atName
   let (f,first) <- cJc [ov] (cJk ov m pl)
   callWith pos f first (cXw pos (cQy (e::es) X.env)) (cZ4 pos (cZe [] X.env))):=by rfl):
  PE X (.Call (.Attribute (.Name x p) m apos) (e::es) [] pos) (bZM sp [] E0 t):=by
 obtain⟨R,f,z,F,b,o,v,n,l,g⟩:=G.ex
 intro pins s σ H Q I h
 refine cZV (pl:=pl) (uX I j g ?_ d) y
 refine PySem.W.method_cls I.kIn n (PySem.W.cls_value I.kIn o v rfl ?_)
 have i:=I.tok (s.toks+1)
 refine cZJ (first:= []) (h₀:=X.base) I.ok.mod.kin l (thn (q pos pins _ σ H _ i h) λus s2 ⟨vs,H2,I2,r,q2⟩=>⟨I2.kIn,?_⟩) c a
 exact aZ2 F u b .nil v1 I2 r q2
end
structure ExG(P:cQe)(w:cQm)(K:bYT)(mg:Str->Option bYS)(base:Heap)(k:Nat)(x:Str)(Rf:Nat)(C:Nat)(t:Str):Prop where
 ex:∃f fd,xE P w K mg base CX0 k f fd [A1] (wH K C t)/\v7 K fd [A1] []/\cQE K (.ref C) AE=some (some (.ref f))/\cZx K (.ref f)=true/\cQO K (.ref C)=true/\mg x=some (.ref C)
 cl:v8 K C
 sub:cZ7 K C (.ref Rf)=some true
def ExG.mono{P:cQe}{w:cQm}{K:bYT}{mg:Str->Option bYS}{base:Heap}{j k:Nat}{x:Str}{Rf C:Nat}{t:Str}(G:ExG P w K mg base j x Rf C t)(h:j<=k):ExG P w K mg base k x Rf C t:=
 let ⟨f,fd,a,b⟩:=G.ex;⟨⟨f,fd,a.mono h,b⟩,G.cl,G.sub⟩
def bJo(C:Nat)(t:Str)(E:XK):TS:=λ_ _ H=>∀a,H a=none->E (.ref C) (some a) (upd H a (.xd [(AG,.str t)]))
section
variable {P:cQe}{w:cQm}{K:bYT}{mg:Str->Option bYS}{base:Heap}{N:List Str}{qual:Str}{scope:cX8}{f:Nat}{cd:bYS}{A:cQA}{outer:List Env}{s₀:bYV}{H₀:Hp}{E:XK}{k:Nat}{x t:Str}{Rf C:Nat}{np cpos pos:Pos}
def wB(G:ExG P w K mg base k x Rf C t)(hr:vX (k+1) (A.deeper (cXQ qual scope s₀.heap.objs.size f cd)))(U:Gl (aXF (CXR P w) P w K mg base N qual scope f cd A outer s₀ H₀ E) x)(J:(x==(AO:Str))=false:=by decide):
  PS (aXF (CXR P w) P w K mg base N qual scope f cd A outer s₀ H₀ E) (.Raise (some (.Call (.Name x np) [] [] cpos)) none pos) (bJo C t E):=by
 intro pins s σ H D I h
 obtain⟨fi,fd,F,b,Q,hf,X,R⟩:=G.ex
 rw[arm_exec_Raise]
 refine bYU (cJt ?_)
 show bY0 _ _ (raiseStmt _ (some (do let v <- eval (.Call (.Name x np) [] [] cpos) (cXQ qual scope s₀.heap.objs.size f cd);standAt pos;pure v)) none) _ _ _
 refine aK7 (K:=K) (I.ok.hd rfl) (bYU ?_)
 refine cXx (uX I U R ?_ J)
 refine cJQ I.kIn X (cZ5 ?_)
 obtain⟨a,g,d,tk,L⟩:=s
 have I0:Inv (aXF (CXR P w) P w K mg base N qual scope f cd A outer s₀ H₀ E) pins σ H ⟨a.push W7,g,d,tk,L⟩:=I.kept (t':=tk) λb u e=>bYX _ e
 have S:((a.push W7).push (wM C a.objs.size none)).get? (a.objs.size+1)=some (wM C a.objs.size none):=by heap_get
 have y:Inv (aXF (CXR P w) P w K mg base N qual scope f cd A outer s₀ H₀ E) pins σ (upd H (a.objs.size+1) (qG (a.objs.size+1) C a.objs.size none)) ⟨(a.push W7).push (wM C a.objs.size none),g,d,tk,L⟩:=
  I0.laid (t':=tk) (λb u e=>bYX _ e) (cZu (cXs _ _)) (aVE S)
 have m:H (a.objs.size+1)=none:=I.hok.fresh (cX1 _)
 refine bXl I.kIn G.cl Q (beq_iff_eq.mp hf) (cXL (F.run _ (cXQ qual scope s₀.heap.objs.size f cd::outer) _ _ ⟨[.ref (a.objs.size+1)],[]⟩ [.ref (a.objs.size+1)] [.ref (a.objs.size+1)] (λv M=>v= .non/\∃c,upd H (a.objs.size+1) (qG (a.objs.size+1) C a.objs.size none) c=none/\M=upd (upd (upd H (a.objs.size+1) (qG (a.objs.size+1) C a.objs.size none)) c (.xd [(AG,.str t)])) (a.objs.size+1) (qG (a.objs.size+1) C a.objs.size (some c))) E0 (hr.make C [] []) (y.env0.make C [] []) (b _ [.ref (a.objs.size+1)] y.kIn rfl) (.cons rfl .nil) ⟨a.objs.size+1,a.objs.size,rfl,yB,λc i=>⟨rfl,c,i,rfl⟩⟩) λr s' j=>?_)
 cases r with
 |error e=>exact cXp j
 |ok Z=>
  cases Z with
  |next=>exact cXp j
  |brk=>exact cXp j
  |cont=>exact cXp j
  |ret u=>
   obtain⟨v,M,q,Y,rfl,c,i,rfl⟩:=y.after j;have l:a.objs.size+1≠c:=yJ yB i;have B:H c=none:=by rw[yI (cQB l)]at i;exact i
   have n:=aVD q.hok yB;have O:=q.forget (e:=a.objs.size+1) yB;have V:(λb=>if b=a.objs.size+1 then none else upd (upd (upd H (a.objs.size+1) (qG (a.objs.size+1) C a.objs.size none)) c (.xd [(AG,.str t)])) (a.objs.size+1) (qG (a.objs.size+1) C a.objs.size (some c)) b)=upd H c (.xd [(AG,.str t)]):=by
    funext b;by_cases o:b=a.objs.size+1
    ·rw[if_pos o,o,yI l,m]
    ·rw[if_neg o,yI o];by_cases p:b=c
     ·rw[p,yB,yB]
     ·rw[yI p,yI p,yI o]
   rw[V]at O;refine⟨Y,bYU (cJt (bYY ⟨a.objs.size+1,a.objs.size,some c,C,rfl,q.kIn,G.cl,n,?_⟩))⟩;refine bKz (tb:=none) O ⟨⟨_,_,n,rfl,rfl,rfl,rfl⟩,λT z=>by cases z⟩ (by rw[yI l];exact m) (cQv I.sz (cX1 _)) (λT z=>by cases z) (h c B)
end
end L2
namespace L2
open PySem PySem.Spec PyProof.Rows
def bVj{X:Cx}{A:cQA}{a:Bool}{pn:List (Nat×Obj)}{xe:bYS->bYV->Prop}(o:X.Ok)(b:A.frames=X.A.frames)(c:a=true->A.handled=none):Cx.Ok {X with A:=A,calm:=a,pn:=pn,xe:=xe}:=
 ⟨o.mod,o.kind,o.glob,o.blt,o.above,o.inj,o.has,o.cab,c,b.trans o.frames,o.stk,o.exf,o.bs,o.bsz,o.noex,o.exfs,o.funs,o.frf⟩
def Inv.mark{X:Cx}{A:cQA}{b:Bool}{pn pins a:List (Nat×Obj)}{xe:bYS->bYV->Prop}{σ:St}{H:Hp}{s:bYV}(I:Inv X pins σ H s)(c:A.frames=X.A.frames)(d:b=true->A.handled=none) (e:∀p∈pn++a,p∈X.pn++pins):Inv {X with A:=A,calm:=b,pn:=pn,xe:=xe} a σ H s:=
 ⟨bVj I.ok c d,I.os,I.bare,I.base,I.loc,I.cell,I.free,I.freeC,λp h=>I.pin p (e p h),I.hok,I.len⟩
def bVb{X:Cx}{pn:List (Nat×Obj)}{xe:bYS->bYV->Prop}(o:Cx.Ok {X with A:=X.A,calm:=X.calm,pn:=pn,xe:=xe}):X.Ok:=
 ⟨o.mod,o.kind,o.glob,o.blt,o.above,o.inj,o.has,o.cab,o.hd,o.frames,o.stk,o.exf,o.bs,o.bsz,o.noex,o.exfs,o.funs,o.frf⟩
def Inv.names{X:Cx}{pins:List (Nat×Obj)}{σ:St}{H:Hp}{s:bYV}{h':Heap}{j:Str->Option bYS}{t':Nat}(I:Inv X pins σ H s)(t:h'.Ns X.env.locals j)(d:cXW X.env.locals s.heap h'): Inv X pins (cZq X.N.length none) H {s with heap:=h',toks:=t'}:=by
 have a:∀b o,X.s₀.heap.get? b=some o->b≠X.env.locals:=λb o q=>cQj (cQl (bY6 q) I.ok.above);refine⟨I.ok,I.os,I.bare,⟨λb o q n g e=>(d.2 b (a b o q)).trans (I.base.keep b o q n g e),λb o q n g e=>?_,I.base.free,λb o q e=>?_,I.base.tups,I.base.frzs,I.base.tbls⟩,⟨j,t,λi x v _ f _=>?_⟩,λx c q=>?_,I.free,I.freeC,λp m=>?_,λb u q=>?_,by simp⟩
 ·obtain⟨k,z⟩:=I.base.slot b o q n g e;exact⟨k,(d.2 b (a b o q)).trans z⟩
 ·obtain⟨l,z⟩:=I.base.there b o q e;exact⟨l,(d.2 b (a b o q)).trans z⟩
 ·rw[List.getElem?_replicate]at f;split at f<;> cases f
 ·obtain⟨v,z⟩:=I.cell x c q;exact⟨v,z.sameBut d (I.cne x c q)⟩
 ·obtain⟨w,y,h,B,A⟩:=I.pin p m;exact⟨(d.2 p.1 h).trans w,y,h,B,A⟩
 ·refine(I.hok b u q).stay (λc v C r=>(d.2 c ?_).trans r) (λ_ r=>r) λ_ _ r=>r;rintro rfl;rcases C with z|z
  ·rw[<- z,I.free]at q;cases q
  ·rw[I.free]at z;cases z
def bKK(K:bYT)(Rf:Nat)(Q:VK):XK:=λcls b a=>∃ (C d:Nat)(t:Str),cls= .ref C/\b=some d/\v8 K C/\cZ7 K C (.ref Rf)=some true/\a d=some (.xd [(AG,.str t)])/\Q (.str t) a
section
variable {X:Cx}{pins:List (Nat×Obj)}{σ:St}{H:Hp}{s:bYV}
def Inv.recs{h':Heap}{ch:List Nat}(I:Inv X pins σ H s)(j:∀b∈ch,s.heap.objs.size<=b\/(X.s₀.heap.objs.size<=b/\b≠X.env.locals/\(∀x c,X.env.cells.lookup x=some c->c≠b)/\∀p∈X.pn++pins,p.1≠b))(m:∀b∈ch,H b=none) (keep:∀b o,b∉frs X.stack->b∉ch->s.heap.get? b=some o->h'.get? b=some o) (a:∀b o,b∉ch->s.heap.get? b=some o->∃k,h'.get? b=some {o with slots:=k}):Inv X pins σ H {s with heap:=h'}:=by
 have h:HOk X.prog X.w H h':=λb u q=>(I.hok b u q).stay (λc v t r=>by
  have g:H c≠none:=by
   rcases t with z|z
   ·rw[z,q];simp
   ·rw[z];simp
  exact keep c v (λz=>g (I.stkFree c z)) (λz=>g (m c z)) r) (λ_ r=>r) λ_ _ r=>r
 refine I.call (g':=s.gens) (t':=s.toks) (d':=s.drawn) (ch:=ch) ⟨λb o q _ i d=>keep b o i d q,λb o q _ _ d=>a b o d q,λ_ _ _ n _=>n,λb o q d=>?_,λ_ _ q=>q,λ_ _ _ q=>q,λ_ y q=>⟨#[],by rw[q];simp⟩⟩ h I.bare λb i=>?_
 ·obtain⟨k,z⟩:=a b o d q;exact⟨_,z⟩
 ·rcases j b i with z|⟨z1,z2,z3,z4⟩
  ·refine⟨.inr (cQv I.sz z),λe=>?_,λx c q e=>?_,λp l e=>?_⟩
   ·rw[e]at z;exact absurd (cQl I.lt z) (cQ4 _)
   ·obtain⟨v,o,f,_⟩:=I.cell x c q;rw[e]at f;exact absurd (cQl (bY6 f) z) (cQ4 _)
   ·have f:=(I.pin p l).1;rw[e]at f;exact absurd (cQl (bY6 f) z) (cQ4 _)
  ·exact⟨.inr z1,z2,z3,z4⟩
def bW5{body:List Stmt}{tb:XK->TS}{W n:Str}{i:Nat}{Rf:Nat}{cp p1 p2 p3 G tp:Pos}(hN:X.N.Nodup)(hi:X.N[i]? =some n)(hl:X.env.scope.names.lookup n=some .local)(hg:Gl X W)(hm:X.mg W=some (.ref Rf))(cr:v8 X.K Rf) (a0:X.stack=X.env::X.outer) (a7:X.env.frame=some X.env.locals) (c9:X.calm=true) (b5:(n==(AO:Str))=false) (b0:(W==(AO:Str))=false) (d0:(n==(B8:Str))=false) (hA:∀e,(X.A.mark (some (.ref e))).frames=X.A.frames) (j:∀ (pn:List (Nat×Obj))(xe:bYS->bYV->Prop)(E:XK),vQ (CXR X.prog X.w) {X with A:=X.A,calm:=X.calm,pn:=pn,xe:=xe} E->PSs {X with A:=X.A,calm:=X.calm,pn:=pn,xe:=xe} body (tb E)): PS X (.Try body [.ExceptHandler (some (.Name W cp)) (some n) [.Return (some (.Attribute (.Name n p1) AG p2)) p3] G] [] [] tp) (λD σ H=>tb (bKK X.K Rf D.rt) D σ H):=by
 intro pins s σ H D I h;refine wpAny_Try_except ?_;have l:X.calm=true->X.A.handled=none:=I.ok.hd;have go:∀ (a2:List (Nat×Obj))(B:St)(M:Hp)(Y:bYV)(g:bYS)(k:bYV),Inv X pins B M Y->CXR X.prog X.w X.stack M Y (bKK X.K Rf D.rt) g k->
   bY0 (bY2 X.prog X.w) X.A (cJl g X.env) (λ_ U=>bY0 (bY2 X.prog X.w) X.A (cZ0 g none) (λ_ R=>bY0 (bY2 X.prog X.w) X.A (handleBy g X.env [.ExceptHandler (some (.Name W cp)) (some n) [.Return (some (.Attribute (.Name n p1) AG p2)) p3] G]) (SP X pins D) X.xe R) X.xe U) X.xe k:=by
  intro _ B M Y g k J1 hx
  obtain⟨e,C',dx,c0,H',rfl,os,bare,un,b3,x,he,ht,a1,a5,hE⟩:=hx
  obtain⟨C,d,t,ec,ed,cC,hs,hd,hq⟩:=hE
  have eC:C'=C:=by cases ec;rfl
  subst eC
  have eD:dx=d:=by cases ed;rfl
  subst eD
  have Z:Inv X pins B H' k:=J1.call' os un b3 bare λb z=>absurd z (by simp)
  have big:∀b,Y.heap.objs.size<=b->X.s₀.heap.objs.size<=b/\b≠X.env.locals/\(∀x c,X.env.cells.lookup x=some c->c≠b)/\∀p∈X.pn++pins,p.1≠b:=λb z=>by
   refine⟨cQv J1.sz z,λe=>?_,λx c q e=>?_,λp G e=>?_⟩
   ·rw[e]at z;exact absurd (cQl J1.lt z) (cQ4 _)
   ·obtain⟨v,o,O,_⟩:=J1.cell x c q;rw[e]at O;exact absurd (cQl (bY6 O) z) (cQ4 _)
   ·have O:=(J1.pin p G).1;rw[e]at O;exact absurd (cQl (bY6 O) z) (cQ4 _)
  refine aVO (base:=X.base) (outer:=X.outer) (L:=X.env.locals) (a0 ▸ Z.ok.frames) (a0 ▸ Z.stack) a7 x λh3 T y nT p=>?_
  have b8:frs X.stack=(X.env::X.outer).filterMap (·.frame):=by rw[a0];rfl
  have J3:Inv X pins B H' {k with heap:=h3}:=Z.recs (ch:= [e,c0]) (λb j=>by
    rcases bY1.mp j with rfl|j
    ·exact .inr (big _ a1)
    ·rw[bY9.mp j];exact .inr (big _ a5)) (λb j=>by
    rcases bY1.mp j with rfl|j
    ·exact he
    ·rw[bY9.mp j];exact ht)
   (λb o j S q=>p.keep b o (λz=>S (by simp[z])) (λz=>S (by cases z;simp)) (b8 ▸ j) q)
   (λb o S q=>p.slot b o (λz=>S (by simp[z])) (λz=>S (by cases z;simp)) q)
  have b7:H' T=none:=Z.hok.fresh nT
  have Q:X.s₀.heap.objs.size<=T/\T≠X.env.locals/\(∀x c,X.env.cells.lookup x=some c->c≠T)/\∀p∈X.pn++pins,p.1≠T:=by
   refine⟨cQv Z.sz nT,λe=>?_,λx c q e=>?_,λp G e=>?_⟩
   ·rw[e]at nT;exact absurd (cQl Z.lt nT) (cQ4 _)
   ·obtain⟨v,o,O,_⟩:=Z.cell x c q;rw[e]at O;exact absurd (cQl (bY6 O) nT) (cQ4 _)
   ·have O:=(Z.pin p G).1;rw[e]at O;exact absurd (cQl (bY6 O) nT) (cQ4 _)
  have mk:∀ {σ:St} {H:Hp} {s:bYV},Inv X pins σ H s->Inv {X with A:=X.A.mark (some (.ref e)),calm:=false,pn:=X.pn,xe:=λ_ _=>True} pins σ H s:=λJ=>J.mark (hA e) (λz=>by cases z) λp G=>G
  have un:∀ {σ:St} {H:Hp} {s:bYV},Inv {X with A:=X.A.mark (some (.ref e)),calm:=false,pn:=X.pn,xe:=λ_ _=>True} pins σ H s->Inv X pins σ H s:=λ{σ H s} J=>Inv.mark (X:={X with A:=X.A.mark (some (.ref e)),calm:=false,pn:=X.pn,xe:=λ_ _=>True}) J (hA e).symm l λp G=>G
  refine wpAny_handleBy_cons (codeAny_handlers_test ?_) (by intro q;cases q)
  refine uX (X:={X with A:=X.A.mark (some (.ref e)),calm:=false,pn:=X.pn,xe:=λ_ _=>True}) (mk J3) hg hm ?_ b0
  obtain⟨oe,vs,g1,g2,g3,g4,g5⟩:=y.obj
  refine aK6 J3.kIn cC cr hs g1 g2 ?_
  refine codeAny_handlers_suite_as ?_
  refine bXv (s:={k with heap:=h3}) y λh4 y4 k4 t4=>?_
  have J4:Inv X pins B H' {k with heap:=h4}:=Inv.recs (s:={k with heap:=h3}) (h':=h4) (ch:= [T]) J3 (λb j=>by rw[bY9.mp j];exact .inr Q) (λb j=>by rw[bY9.mp j];exact b7)
   (λb o _ S q=>k4 b o (λz=>S (by simp[z])) q) (λb o S q=>⟨o.slots,k4 b o (λz=>S (by simp[z])) q⟩)
  refine aQ4 (X:={X with A:=X.A.mark (some (.ref e)),calm:=false,pn:=X.pn,xe:=λ_ _=>True}) (v:= .ref e) (u:= .ref e) (mk J4) hN hi (.inl hl) rfl (λs5 J5 ⟨a,sb,ha⟩=>?_) (.inr hl)
  have a4:e≠a/\T≠a:=by
   rcases ha with z|z
   ·rw[z];exact⟨(big _ a1).2.1,Q.2.1⟩
   ·exact⟨λq=>(big _ a1).2.2.1 n a z q.symm,λq=>Q.2.2.1 n a z q.symm⟩
  have y5:Y6 s5.heap e (.ref C') (some dx) (some T):=y4.keeps λb o j q=>(sb.2 b (by
   rcases j with rfl|j
   ·exact a4.1
   ·cases j;exact a4.2)).trans q
  obtain⟨b6,c8,f1,f2,f3,f4,f5⟩:=y5.obj
  obtain⟨mA,b2,a3⟩:=J5.hok dx _ hd
  obtain⟨od,c6,b9⟩:=aZO b2
  obtain⟨u,hu,ru⟩:=aZi.some_of (v:=V.str t) (o:=mA AG) (a3 AG)
  obtain⟨m5,b4,c7⟩:=J5.loc
  obtain⟨u5,r5,l5⟩:=c7 i n (.ref e) hi (cZN (by rw[J4.len];exact(bY3.mp hi).1)) (.inl hl)
  obtain rfl:u5=Value.ref e:=r5
  have a9:m5 n=some (.ref e):=by
   rcases l5 with⟨_,z⟩|⟨z,_⟩
   ·exact z
   ·rw[show X.env.kindOf n=some .local from hl]at z;rcases z with z|z<;> cases z
  refine wpAny_execs_cons (wpAny_Return_some (aKO rfl ?_))
  refine wpAny_Name (wpAny_loadName_local J5.ok.kind hl b4 a9 ?_) b5
  refine bJP J5.kIn cC f1 f2 f3 (by obtain⟨c1,c2,c3,c4⟩:=b6;cases f4;rfl) c6 (by rw[b9,hu]) (aZB ru) ?_
  have J6:=(un J5).tok (s5.toks+1)
  obtain⟨m6,b1,_⟩:=J6.loc
  refine wpAny_nameGoes hl b1 (by rw[J6.ok.kind];rfl) λh7 m7 a6 c5=>?_
  exact⟨.str t,_,H',J6.names (t':=s5.toks+1+1) a6 c5,ru,hq⟩
 have a8:vQ (CXR X.prog X.w) {X with A:=X.A,calm:=X.calm,pn:=X.pn++pins,xe:=λg k=>bY0 (bY2 X.prog X.w) X.A (cJl g X.env) (λ_ U=>bY0 (bY2 X.prog X.w) X.A (cZ0 g none) (λ_ R=>bY0 (bY2 X.prog X.w) X.A (handleBy g X.env [.ExceptHandler (some (.Name W cp)) (some n) [.Return (some (.Attribute (.Name n p1) AG p2)) p3] G]) (SP X pins D) X.xe R) X.xe U) X.xe k} (bKK X.K Rf D.rt):=
  λa2 B M Y g k J hx=>go [] B M Y g k (Inv.mark (X:={X with A:=X.A,calm:=X.calm,pn:=X.pn++pins,xe:=λg k=>bY0 (bY2 X.prog X.w) X.A (cJl g X.env) (λ_ U=>bY0 (bY2 X.prog X.w) X.A (cZ0 g none) (λ_ R=>bY0 (bY2 X.prog X.w) X.A (handleBy g X.env [.ExceptHandler (some (.Name W cp)) (some n) [.Return (some (.Attribute (.Name n p1) AG p2)) p3] G]) (SP X pins D) X.xe R) X.xe U) X.xe k}) J rfl l λp P=>cXP _ P) hx
 have I':Inv {X with A:=X.A,calm:=X.calm,pn:=X.pn++pins,xe:=λg k=>bY0 (bY2 X.prog X.w) X.A (cJl g X.env) (λ_ U=>bY0 (bY2 X.prog X.w) X.A (cZ0 g none) (λ_ R=>bY0 (bY2 X.prog X.w) X.A (handleBy g X.env [.ExceptHandler (some (.Name W cp)) (some n) [.Return (some (.Attribute (.Name n p1) AG p2)) p3] G]) (SP X pins D) X.xe R) X.xe U) X.xe k} [] σ H s:=
  I.mark rfl l λp P=>by simpa using P
 have F:∀ {σ:St} {H:Hp} {s:bYV},Inv {X with A:=X.A,calm:=X.calm,pn:=X.pn++pins,xe:=λg k=>bY0 (bY2 X.prog X.w) X.A (cJl g X.env) (λ_ U=>bY0 (bY2 X.prog X.w) X.A (cZ0 g none) (λ_ R=>bY0 (bY2 X.prog X.w) X.A (handleBy g X.env [.ExceptHandler (some (.Name W cp)) (some n) [.Return (some (.Attribute (.Name n p1) AG p2)) p3] G]) (SP X pins D) X.xe R) X.xe U) X.xe k} [] σ H s->Inv X pins σ H s:=
  λ{σ H s} J=>⟨bVb J.ok,J.os,J.bare,J.base,J.loc,J.cell,J.free,J.freeC,λp P=>J.pin p (by simpa using P),J.hok,J.len⟩
 refine cQW (j _ _ _ a8 [] s σ H D I' h) (λf Y q=>?_) λ_ _ q=>q;cases f with
 |next=>obtain⟨m,M,J,q⟩:=q;exact yS pins Y m M D (F J) q
 |ret v=>obtain⟨u,m,M,J,r,q⟩:=q;exact⟨u,m,M,F J,r,q⟩
 |brk=>obtain⟨m,M,J,q⟩:=q;exact⟨m,M,F J,q⟩
 |cont=>obtain⟨m,M,J,q⟩:=q;exact⟨m,M,F J,q⟩
end
end L2
namespace L2
open PySem PySem.Spec PyProof.Rows
def aYk{P:cQe}{w:cQm}{K:bYT}{mg mb:Str->Option bYS}{CX:CXT}{k:Nat}{fa a c T:Nat}{fd:cXR}{x:Str}{sp:Sp}{f:bYV}{vs:List bYS}{ns:List Int} (KX:K.In f.heap) (E:f.heap.Ns cQq mg) (p:f.heap.Ns builtinsNs mb) (a5:∀x:Str,x≠Ac->mb x=cQD x) (S:f.heap.NoLimit) (hg:f.gens= #[]) (L:f.heap.get? a=some {cls:= .type AB,data:= .seq vs.toArray}) (hi:cZp vs ns) (hl:ns.length<=cQk) (hr:vX k callerA) (hC:cXY f.heap c T) (M:f.heap.get? T=some (cZr #[])) (a3:K.lookup T=none) (a6:∃X C,mg "__builtins__"=some (.ref X)/\X≠builtinsNs/\f.heap.get? X=some C/\C.cls= .type "module"/\C.dict=some builtinsNs/\C.data= .plain) (F:∀base:Heap,K.In base->base.Ns cQq mg->cXY base c T->base.BuiltinsAt mg T->xE P w K mg base CX k fa fd [x] sp) (G:∀ (s:bYV)(u:bYS),BindsTo s fd ⟨[u],[]⟩ [(x,u)]) (a8:∀H:Hp,H T=some (.tbl #[])->SqL K H a (ns.map V.int)->sp [.ref a] H (λv _=>v= .bl true) λ_ _ _=>False) (a2:∀H e j,CX [] H f (λ_ _ _=>False) e j->False): cZb (bY2 P w) callerA (.call (.ref fa) ⟨[.ref a],[]⟩) (λr j=>r= .ok (.ret (.bool true))/\OldK f.heap j.heap/\j.os=f.os/\AllBare j.gens) f:=by
 have rv:=jF hi;have R:=hi.length;have N:a≠T:=λz=>by rw[z,M]at L;cases L
 have D:∀H:Hp,H T=some (.tbl #[])->SqL K H a (ns.map V.int)->HOk P w H f.heap->(∀b,H b≠none->b=T\/(b=a/\∃o xs,H b=some (.frz o (.lst xs))))->(H a≠none->K.lookup a=none)->
   cZb (bY2 P w) callerA (.call (.ref fa) ⟨[.ref a],[]⟩) (λr j=>r= .ok (.ret (.bool true))/\OldK f.heap j.heap/\j.os=f.os/\AllBare j.gens) f:=by
  intro H hH hS U hA hK
  have i:∀ {b:Nat} {o:Obj},f.heap.get? b=some o->H b=none->(aYa f.heap H).get? b=some o:=λe n=>bXp e n
  have l:∀ {b:Nat} {o:Obj},f.heap.get? b=some o->(∀ps,o≠cZr ps)->(∀y,o≠ {cls:= .type AB,data:= .seq y})->H b=none:=λ{b o} e n1 n2=>by
   cases q:H b with
   |none=>rfl
   |some u=>
    rcases hA b (by rw[q];simp)with z|⟨z,_⟩
    ·rw[z,M]at e;cases e;exact absurd rfl (n1 _)
    ·rw[z,L]at e;cases e;exact absurd rfl (n2 _)
  have t:∀ {b:Nat} {m:Str->Option bYS},f.heap.Ns b m->(aYa f.heap H).Ns b m:=λ{b m} ⟨o,es,ep,e,d,r⟩=>⟨o,es,ep,i e (l e (λps z=>by rw[z]at d;cases d) (λy z=>by rw[z]at d;cases d)),d,r⟩
  have a0:K.In (aYa f.heap H):=λb o e=>i (KX b o e) (by
   cases q:H b with
   |none=>rfl
   |some u=>
    rcases hA b (by rw[q];simp)with z|⟨z,_⟩
    ·rw[z,a3]at e;cases e
    ·subst z;rw[hK (by rw[q];simp)]at e;cases e)
  have hM:Mod K mg (aYa f.heap H):=⟨a0,t E,⟨mb,t p,a5⟩,let ⟨mc,h1,h2⟩:=S;⟨mc,t h1,h2⟩⟩
  have e0:bJC P w K mg (aYa f.heap H) callerA [] f H:=⟨rfl,hM,λb o e=>bJ9 e,cZu (aYb _ _),trivial,λb p=>absurd (show b∈([]:List Nat)from p) (by simp),U,.of_eq hg⟩
  have a4:cXY (aYa f.heap H) c T:=by
   obtain⟨o,vs,file,tf,I,tg,a7,text,tt,e,Q,r⟩:=hC;exact⟨o,vs,file,tf,I,tg,a7,text,tt,i e (l e (λps z=>by rw[z]at Q;cases Q) (λy z=>by
    rw[z]at Q;have c':Value.type AB=Value.type "code":=Q;injection c' with c''
    exact absurd c'' (by decide))),Q,r⟩
  have a1:(aYa f.heap H).BuiltinsAt mg T:=by
   obtain⟨X,C,b1,b2,J,b4,b5,O⟩:=a6;refine⟨X,C,b1,b2,λz=>?_,λz=>?_,i J (l J (λps z=>by rw[z]at b4;cases b4) (λy z=>by rw[z]at O;cases O)),b4,b5,O⟩
   ·obtain⟨o,es,ep,e,d,_⟩:=E;rw[z,e]at J;cases J;rw[d]at O;cases O
   ·rw[z,M]at J;cases J;cases b4
  refine cXL ((F _ a0 (t E) a4 a1).run callerA [] f H ⟨[.ref a],[]⟩ [.ref a] [.ref a] _ _ hr e0 (G f (.ref a)) (.cons rfl .nil) (a8 H hH hS)) λr j h=>?_
  cases r with
  |error e=>exact(a2 H e j h).elim
  |ok fl=>
   cases fl with
   |next=>exact cXp h
   |brk=>exact cXp h
   |cont=>exact cXp h
   |ret u=>
    obtain⟨v,H',os,bare,un,B,r',q⟩:=h;have q':v= .bl true:=q;subst q';obtain rfl:u=Value.bool true:=r';obtain⟨more,hm⟩:=un.tbls T _ hH;have Y:j.heap.get? T=some (cZr (#[]++more)):=B T _ hm;have get:∀b o,b≠T->f.heap.get? b=some o->j.heap.get? b=some o:=λb o g e=>by
     cases q:H b with
     |none=>exact un.keep b o e q (by intro z;exact absurd (show b∈([]:List Nat)from z) (by simp)) (by simp)
     |some u=>
      rcases hA b (by rw[q];simp)with z|⟨_,C,xs,z⟩
      ·exact absurd z g
      ·have z2:=un.frzs b C _ z;obtain⟨e1,_⟩:=U b _ z;obtain⟨e2,_⟩:=B b _ z2;rw[e]at e1;cases e1;exact e2
    refine⟨rfl,⟨λb o e=>?_,λb o e=>?_⟩,os,bare⟩
    ·by_cases g:b=T
     ·subst g;rw[M]at e;cases e;exact .inr (.inl ⟨(hC.tab M).isCodeTable,rfl, #[],more,rfl,Y⟩)
     ·exact .inl (get b o g e)
    ·by_cases g:b=T
     ·exact⟨_,by rw[g];exact Y⟩
     ·exact⟨o,get b o g e⟩
 have Z:∀H:Hp,zH P w H f.heap T (.tbl #[]):=λH=>M;cases hk:K.lookup a with
 |some o=>
  have e:=KX a o hk;rw[L]at e;cases e;refine D (λb=>if b=T then some (.tbl #[])else none) (if_pos rfl) (.inr ⟨_,vs.toArray,_,hk,rfl,rfl,rfl,by rw[cQb,R];exact hl,by simpa using rv⟩) (λb u z=>?_) (λb z=>?_) λz=>absurd (if_neg N) z
  ·by_cases g:b=T
   ·have A:=(if_pos g).symm.trans z;cases A;subst g;exact Z _
   ·have A:=(if_neg g).symm.trans z;cases A
  ·by_cases g:b=T
   ·exact .inl g
   ·exact absurd (if_neg g) z
 |none=>
  refine D (λb=>if b=T then some (.tbl #[])else if b=a then some (.frz {cls:= .type AB,data:= .seq vs.toArray} (.lst (ns.map V.int)))else none) (if_pos rfl)
   (.inl (.inr ⟨{cls:= .type AB,data:= .seq vs.toArray},by show(if a=T then _ else _)=_;rw[if_neg N,if_pos rfl]⟩)) (λb u z=>?_) (λb z=>?_) λ_=>hk
  ·by_cases g:b=T
   ·have A:=(if_pos g).symm.trans z;cases A;subst g;exact Z _
   ·have z1:=(if_neg g).symm.trans z;by_cases p:b=a
    ·have A:=(if_pos p).symm.trans z1;cases A;subst p;exact⟨L,by rw[bYW];exact hl,vs,_,rv,L⟩
    ·have A:=(if_neg p).symm.trans z1;cases A
  ·by_cases g:b=T
   ·exact .inl g
   ·by_cases p:b=a
    ·exact .inr ⟨p,_,_,by show(if b=T then _ else _)=_;rw[if_neg g,if_pos p]⟩
    ·exact absurd (by show(if b=T then _ else _)=_;rw[if_neg g,if_neg p]) z
def bZ3{l:PySem.W.OpenLaw}{n k:Nat}{q:cQe}{loose:List Str}{X:(Str->Option bYS)->Heap->Prop}{B:cQm->Heap->Prop}{d:DefRec}{K:Params->bYT}{CX:CXT}{sp:Nat->bYT->Sp}{x:Str}{T:Nat} (S:l.most=some n) (y:n<=cQk) (M:d.params.defaults= []) (hr:vX k callerA) (Q:∀ (w:cQm)(h:Heap),B w h->(K w.params).In h) (L:∀ (w:cQm)(h:Heap),B w h->h.get? T=some (cZr #[])) (F:∀ (w:cQm)(mg:Str->Option bYS)(t:Nat)(h:Heap),(K w.params).In h->h.Ns cQq mg->mg d.name=some (.ref t)-> ∃ (I:cXR)(c:Nat),cJw (K w.params) c T=true/\(K w.params).lookup T=none/\(∀ (s:bYV)(u:bYS),BindsTo s I ⟨[u],[]⟩ [(x,u)])/\ ∀base:Heap,(K w.params).In base->base.Ns cQq mg->cXY base c T->base.BuiltinsAt mg T->xE l.prog w (K w.params) mg base CX k t I [x] (sp T (K w.params))) (z:∀ (K:bYT)(H:Hp)(a:Nat)(r:List Int),r.length<=n->H T=some (.tbl #[])->SqL K H a (r.map V.int)->sp T K [.ref a] H (λv _=>v= .bl true) λ_ _ _=>False) (A:∀ (H:Hp)(s:bYV)(e:bYS)(E:bYV),CX [] H s (λ_ _ _=>False) e E->False): PySem.W.WalkO q loose X B l.row.toRowW d [] (λf N=>PySem.call f N):=by
 refine Att.aJv S M λw s₀ m mg mb t o pm cd P a N r G Y ho hd U C p j i R=>?_;have J:=Q w _ Y;obtain⟨I,c,ht,D,hb,hF⟩:=F w mg t _ J G.T.g C;exact aYk J G.T.g G.T.b G.T.builtins G.T.nolimit R p j (cQv i y) hr (PySem.W.codeHd_of_K J ht) (L w _ Y) D G.T.bmain hF hb (λH O Z=>z _ H a r i O Z) λH e E=>A H m e E
end L2
namespace Thr
open PySem L2 PyProof.Rows
open Stree (qR jM wG)
def aZC(x:Str):Stmt->Bool
 |.FunctionDef n _ _ _ _ _ _ _ _ _=>n==x
 |_=>false
def xF(x:Str):Stmt:=(PySem.Challenge.pw_letterdesk_k06_whole_waiting_and_overdue.main.body.find? (aZC x)).getD (.Pass ⟨0,0,0,0⟩)
abbrev aVg:Stmt:=xF B7
abbrev bQn:Stmt:=xF "top_of"
abbrev aJ7:Stmt:=xF AW
def xB:cQD CH=some (.builtin CH):=dk
def vB:cQD AR=some (.builtin AR):=dk
def yZ:cQD AY=some (.builtin AY):=dk
def uS:cQD Ao=some (.type Ao):=dk
def z6:cQD AB=some (.type AB):=dk
def wV:cQD AD=some (.type AD):=dk
structure vK(mg:Str->Option bYS):Prop where
 b_len:mg CH=none
 b_sorted:mg AR=none
 b_isinstance:mg AY=none
 b_int:mg Ao=none
 b_str:mg Ap=none
 b_bool:mg Aj=none
 b_list:mg AB=none
 b_tuple:mg AD=none
 b_range:mg Ae=none
def zX{a H:Hp}{c:Nat}{o:HO}(k:xC a H)(h:a c=none):xC a (upd H c o):=λb u q=>by rw[yI (yJ q h)];exact k b u q
def aWO{K:bYT}{a:Nat}{xs:List V}{B:List Nat}{σ:L2.St}{D:Nat}{Q:VK}{H:Hp}(hl:SqL K H a xs)(r:H D=none)(hz:xs.length<=1000) (E:∀ (d:Hp)(c:List Nat),xC H d->d D=some (.lst (c.map V.ref))->c.length=xs.length->c.Nodup->(∀b∈c,d b=some (.lst [])/\H b=none/\b≠D)->Q (.ref D) d):bWi (Itl K a) B bYt (bYq bZQ) σ D Q (upd H D (.lst [])):=by
 refine⟨λi m n d=>m=xs.length - i/\i<=xs.length/\∃c:List Nat,n=c.map V.ref/\c.length=i/\c.Nodup/\xC H d/\d D=some (.lst n)/\∀b∈c,d b=some (.lst [])/\H b=none/\b≠D,
  ⟨xs.length,by simp,cQQ _,[],rfl,rfl,.nil,yG r _,yB,λb f=>nomatch f⟩,?_⟩
 rintro i m n d ⟨rfl,I,c,rfl,q,t,j,k,g⟩;refine⟨k,?_⟩;have w:=xC.seq j hl;by_cases l:i<xs.length
 ·refine .inr ⟨⟨xs,xs[i],w,bYR l⟩,λv J C=>?_⟩;obtain⟨rfl,y⟩:=C;refine⟨z0,λp h=>?_⟩;have e:p≠D:=cQB (yJ k h);have o:p∉c:=λz=>by rw[(g p z).1]at h;cases h
  refine⟨zlt (by rw[bYW];omega),by rw[yI (cQB e)];exact k,xs.length - (i+1),by omega,rfl,by omega,c++ [p],by simp,by simp[q],?_,?_,yB,λb f=>?_⟩
  ·rw[cZl];exact⟨t,by simp,λx A y G z=>by rw[bY9.mp G]at z;exact o (z ▸ A)⟩
  ·exact zX (j.trans (yG h _)) r
  ·rcases cQw.mp f with f|f
   ·obtain⟨u,F,s⟩:=g b f;exact⟨by rw[yI s,yI (yJ u h)];exact u,F,s⟩
   ·rw[bY9.mp f];exact⟨by rw[yI e];exact yB,j.fresh h,e⟩
 ·refine .inl ⟨⟨xs,w,by omega⟩,E d c j k (by omega) t g⟩
def w6:Option Nat->V
 |none=> .non
 |some j=> .int (j:Nat)
def v0(n:Nat)(L:Nat->Option Nat):List V:=(bY5 n).map λi=>w6 (L i)
def qX(n:Nat)(D:Nat->Int):List V:=(bY5 n).map λi=> .int (D i)
def jN{n i:Nat}{L:Nat->Option Nat}(h:i<n):(v0 n L)[i]? =some (w6 (L i)):=by unfold v0;rw[cQc,cXV h];rfl
def aWB{n i:Nat}{D:Nat->Int}(h:i<n):(qX n D)[i]? =some (.int (D i)):=by unfold qX;rw[cQc,cXV h];rfl
inductive bKm(K:bYT)(vs:List V)(H:Hp)(Q:VK)(_:XK):Prop|mk(a:Nat)(n:Nat)(L:Nat->Option Nat)(rk:Nat->Nat)(i:Nat)(_:vs= [.ref a,.int (i:Nat)])(_:SqL K H a (v0 n L))(_:Fm.Ok n L rk)(_:i<n)(_:Q (.int (Fm.tp L rk i:Nat)) H)
def wF(T:Nat):Hp->Prop:=X0 ⟨116,48,116,71⟩ "answers_to_each.<locals>.<lambda>" T
structure bYj(n:Nat)(L:Nat->Option Nat)(D:Nat->Int)(kd:Nat->List Nat):Prop where
 mem:∀j i,i∈kd j↔i<n/\L i=some j
 ord:∀j,(kd j).Pairwise λx y=>wG (D y,(y:Int)) (D x,(x:Int))=true
inductive bV6(T:Nat)(vs:List V)(H:Hp)(Q:VK)(_:XK):Prop|mk(la da:Nat)(n:Nat)(L:Nat->Option Nat)(rk:Nat->Nat)(D:Nat->Int)(_:vs= [.ref la,.ref da])(_:H la=some (.lst (v0 n L)))(_:H da=some (.lst (qX n D)))(_:Fm.Ok n L rk)(_:n<=63)(_:wF T H)(_:∀ (H':Hp)(a:Nat)(rs:List Nat)(kd:Nat->List Nat),x3 H H'->wF T H'->H' a=some (.lst (rs.map V.ref))->rs.length=n->(∀j b,rs[j]? =some b->H' b=some (.lst ((kd j).map λi=>V.int (i:Nat))))->bYj n L D kd->Q (.ref a) H')
inductive aWi(T:Nat)(vs:List V)(H:Hp)(Q:VK)(_:XK):Prop|mk(la da:Nat)(n:Nat)(L:Nat->Option Nat)(rk:Nat->Nat)(D:Nat->Int)(i:Nat)(_:vs= [.ref la,.ref da,.int (i:Nat)])(_:H la=some (.lst (v0 n L)))(_:H da=some (.lst (qX n D)))(_:Fm.Ok n L rk)(_:n<=63)(_:i<n)(_:wF T H)(_:∀ (H':Hp)(r:Nat)(told:List Nat),(∀b u,(∀ps,u≠HO.tbl ps)->H b=some u->b≠r)->x3 H H'->wF T H'->H' r=some (.lst (told.map λi=>V.int (i:Nat)))->(told.Pairwise λx y=>jM (Fm.rd L D rk x) (Fm.rd L D rk y)=true)->(∀k,k∈told↔k<n/\Fm.tp L rk k=Fm.tp L rk i)->Q (.ref r) H')
section
variable {K:bYT}
def bZE:yN [Al,AC,"top"] [Al,AC] (yH bQn):=scM
def bX3(T:vK mg)(F:Fun K "top_of" "top_of" bQn f fd):xE P w K mg base CX0 1 f fd [Al,AC] (bKm K):=by
 have y:=bZE;refine F.ok (k:=0) y (λu A outer s B C Q E D h=>?_);obtain⟨a,n,L,b,i,rfl,o,l,x,q⟩:=h;refine⟨_,(yC (yU (i:=2) (pv 1)) (yC (uD cQG (yM wA (yL yK (pv 0) (pv 2)) x6) (yF (yU (i:=2) (yL yK (pv 0) (pv 2))))) (yF (yP (pv 2))))),?_⟩;refine⟨_,rfl,?_⟩;refine⟨λm σ H=>∃t:Nat,σ= [some (.ref a),some (.int (i:Nat)),some (.int (t:Nat))]/\H=B/\t<n/\Fm.tp L b t=Fm.tp L b i/\m=b t,⟨b i,i,rfl,rfl,x,rfl,rfl⟩,?_⟩;rintro m σ H ⟨t,rfl,rfl,e,c,rfl⟩;refine⟨_,rfl,_,rfl,a,_,_,_,rfl,rfl,o,yT (jN e),rfl,_,rfl,?_⟩;cases hl:L t with
 |none=>refine onF rfl ⟨_,rfl,?_⟩;rw[Fm.wC hl]at c;rw[c];exact q
 |some j=>obtain⟨v,g⟩:=l.lt t j e hl;refine onT rfl ⟨λd r=>∃p,p<b t/\∃t:Nat,d= [some (.ref a),some (.int (i:Nat)),some (.int (t:Nat))]/\r=H/\t<n/\Fm.tp L b t=Fm.tp L b i/\p=b t,λd r z=>z,?_⟩;refine⟨_,rfl,_,rfl,a,_,_,_,rfl,rfl,o,yT (jN e),?_⟩;rw[hl];exact⟨b j,g,j,rfl,rfl,v,by rw[<- c,Fm.uJ l e hl],rfl⟩
def bKd:yN [Al,At,Az,AL] [Al,At] (yH aJ7):=scM
def bWN:xN [Al,At,Az,AL] (yH aJ7) CU [] [] (lsN [(".0",.local),(CU,.local)]):=
 lcM
def bJ2:xN [Al,At,Az,AL] (yH aJ7) "n" [At] [1] (lsN [("n",.local),(At,.free)]):=
 lcM
def bWU{oc:bYS}{od an:Option Nat}{b1:Array (Option bYS)}{kV Y pm ct:bYS}(T:vK mg)(C:cXY base c Tb)(hB:base.BuiltinsAt mg Tb) (lk:K.lookup f=some ⟨oc,od,.func (cQY AW AW (xX aJ7) (xQ aJ7) (yH aJ7) .none kV Y pm an (.ref c) ct),b1⟩) (b4:cXB K (.ref c) AW=true): xE P w K mg base CX0 2 f (cQY AW AW (xX aJ7) (xQ aJ7) (yH aJ7) .none kV Y pm an (.ref c) ct) [Al,At] (bV6 Tb):=by
 have sc:=bKd;refine bJT (k:=1) lk b4 sc (λvs H Q E h=>by obtain⟨I,da,n,L,rk,D,rfl,_⟩:=h;rfl) λA outer s H0 vs Q E hr h=>?_;suffices O:∃t,PSs (aXF CX0 P w K mg base [Al,At,Az,AL] AW (yH aJ7) f (.ref c) A outer s H0 E).nox (xQ aJ7) t/\t {nx:=λ_ H'=>Q .non H',rt:=Q} (start [Al,At,Az,AL] vs) H0 by obtain⟨t,g,u⟩:=O;exact⟨t,g.nox,u⟩
 obtain⟨I,da,n,L,rk,D,rfl,r,a9,ho,hn,hT,q⟩:=h;refine⟨_,(yC (aZZ (i:=2) bWN rfl sc.nd rfl rfl (xL (pv 0)) (λ_ _ _ _ _=>wK) (λ_ _ _ _ _=>(y6 yD))) (yC (zT cQG rfl (xL (aKf (qual:="answers_to_each.<locals>.<lambda>") rfl T.b_sorted rfl T.b_range (yQ yO rfl T.b_len xB (yA (pv 0) yD)) bJ2 rfl rfl rfl C hB hr rfl rfl (λ_ _ _ _ _=>rfl) (λ_ _ _ _ _ _ _=>xG (yA (yL ixK (pv 1) (pv 0)) (yA (pv 0) yD))))) (y9 (i:=3)) (yF (y7 (yM wA (yL yK (pv 0) (pv 3)) x6) (yF (yY (vN cQh cQo cQp xD (yL yK (pv 2) (yL yK (pv 0) (pv 3))) (yA (pv 3) yD)))) yS))) (yF (yP (pv 2))))),?_⟩;have G:(v0 n L).length=n:=by simp[v0]
 refine⟨_,rfl,I,rfl,⟨_,CV r⟩,λa ha=>aWO (CV r) ha (by omega) λH1 d X hD a0 nd v=>?_⟩;rw[G]at a0;dsimp only[yW];have a3:=X _ _ r;have a6:=X _ _ a9;have b2:wF Tb H1:=by
  rcases hT with t|⟨c',t1,Z⟩
  ·exact .inl (X _ _ t)
  ·exact .inr ⟨c',X _ _ t1,X _ _ Z⟩
 refine⟨_,rfl,I,_,rfl,.inl (CV a3),?_⟩;rw[G];refine⟨n,rfl,by omega,b2,λi=>(D i,(i:Int)),λi j _ _ z=>?_,λi H3 M k3 t3 R hR=>?_,λH5 l out k5 t5 nl J a8 h5=>⟨l,rfl,⟨_,CV h5⟩,?_⟩⟩
 ·have:=congrArg Prod.snd z;simp only at this;omega
 ·refine⟨_,rfl,_,rfl,da,_,_,_,rfl,rfl,CV (k3.lst a6),yT (aWB M),_,rfl,z2,λp hp=>hR p _ (yG hp _).t ?_ yB⟩;rcases t3 with t|⟨_,t,_⟩
  ·rw[yI (yJ t hp)]
  ·rw[yI (yJ t hp)]
 ·have hm:∀i∈out,i<n:=λi M=>cQu.mp (J.mem_iff.mp M);have kk:x3 H0 H5:=X.t.trans k5;have nr:∀b o,H0 b=some o->b∉d:=λb o e z=>by rw[(v b z).2.1]at e;cases e
  have r5:∀b∈d,H5 b=some (.lst []):=λb y=>k5.lst (v b y).1;have nT:Tb∉d:=λz=>by
   have e:=r5 _ z;rcases t5 with t|⟨_,t,_⟩
   ·rw[t]at e;cases e
   ·rw[t]at e;cases e
  have b5:l∉d:=λz=>by rw[(v l z).1]at nl;cases nl
  have a1:a∉d:=λz=>(v a z).2.2 rfl;have a5:H5 a=some (.lst (d.map V.ref)):=k5.lst hD;refine zJ (xs:=out.map λi=>V.int (i:Nat)) (λt σ H=>∃lt,σ= [some (.ref I),some (.ref da),some (.ref a),lt]/\(∀b o,H5 b=some o->b∉d->H b=some o)/\
   ∀j b,d[j]? =some b->H b=some (.lst (((out.take t).filter λi=>decide (L i=some j)).map λi=>V.int (i:Nat)))) ?_ ?_ ?_ ?_
  ·exact⟨none,rfl,λb o e _=>e,λj b y=>r5 b (cQa y)⟩
  ·rintro t σ H ht ⟨lt,rfl,g,u⟩;exact CV (g _ _ h5 b5)
  ·rintro t x σ H O ⟨lt,rfl,g,u⟩;rw[cQc]at O;cases he:out[t]? with
   |none=>rw[he]at O;cases O
   |some i=>
    rw[he]at O;cases O;have M:=hm i (cQa he);have a2:out.take (t+1)=out.take t++ [i]:=by rw[cQU,he];rfl
    have B:H I=some (.lst (v0 n L)):=g _ _ (kk.lst r) (nr _ _ r);have b0:H a=some (.lst (d.map V.ref)):=g _ _ a5 a1;dsimp only[yW];refine⟨_,rfl,_,rfl,I,_,_,_,rfl,rfl,CV B,yT (jN M),rfl,_,rfl,?_⟩;cases hl:L i with
    |none=>
     refine onF rfl ⟨_,rfl,g,λj b y=>?_⟩;rw[u j b y,a2,cQ3];have: [i].filter (λi=>decide (L i=some j))= []:=by simp[hl]
     rw[this,cQV]
    |some j=>
     obtain⟨hj,_⟩:=ho.lt i j M hl;have N:j<d.length:=by omega
     have y:=bYR N;have a4:=u j _ y;refine onT rfl ?_;refine⟨_,rfl,_,rfl,_,rfl,I,_,_,_,rfl,rfl,CV B,yT (jN M),?_⟩;rw[hl];refine⟨a,_,_,.ref d[j],rfl,rfl,CV b0,yT (by rw[cQc,y];rfl),.inl ⟨rfl,_,CV a4⟩,_,rfl,d[j],_,_,rfl,rfl,a4,zlt ?_,_,rfl,λb o e a7=>?_,λU b m=>?_⟩
     ·rw[bYW];have:=cQS (λi=>decide (L i=some j)) (out.take t);have h3:=List.length_take_le t out;have h4:out.length=n:=by rw[J.length_eq,cQL]
      have h5:(out.take t).length<=out.length:=by rw[cXb];omega
      omega
     ·rw[yI (λz=>a7 (by rw[z];exact cXX N))];exact g b o e a7
     ·rw[a2,cQ3];by_cases S:U=j
      ·subst S;rw[y]at m;cases m;rw[yB];have: [i].filter (λi=>decide (L i=some U))= [i]:=by simp[hl]
       rw[this,cXc];rfl
      ·have b3:b≠d[j]:=λz=>by
        have h6:U<d.length:=(bY3.mp m).1;have h7:d[U]=b:=(bY3.mp m).2;exact S ((cXH (h₀:=h6) (h₁:=N) nd).mp (h7.trans z))
       rw[yI b3,u U b m];have: [i].filter (λi=>decide (L i=some U))= []:=by simp[hl,cQB S]
       rw[this,cQV]
  ·rintro σ H ⟨lt,rfl,g,u⟩;rw[bYW,cQP]at u;refine⟨_,rfl,q H a d (λj=>out.filter λi=>decide (L i=some j)) (λb o nt e=>g b o (kk b o nt e) (nr b o e)) ?_ (g _ _ a5 a1) a0 u ⟨λj i=>?_,λj=>?_⟩⟩
   ·rcases t5 with t|⟨c',t1,Z⟩
    ·exact .inl (g _ _ t nT)
    ·exact .inr ⟨c',g _ _ t1 nT,g _ _ Z λz=>by rw[r5 _ z]at Z;cases Z⟩
   ·rw[cQ0,J.mem_iff,cQu,decide_eq_true_eq]
   ·exact(a8.imp λh=>by simpa using h).sublist cXU
end
def aWL{n:Nat}{L:Nat->Option Nat}{D:Nat->Int}{a:Nat->List Nat}(h:bYj n L D a)(j:Nat):(a j).length<=n:=
 Fm.wP ((h.ord j).imp λ{x y} e z=>by rw[z,Stree.wZ]at e;cases e) λx b=>((h.mem j x).mp b).1
def bWh{n:Nat}{L:Nat->Option Nat}{D:Nat->Int}{rk:Nat->Nat}{b:Nat}{a nx:List Nat}(W:Fm.aJn n L D rk b a nx):nx.length<=n:=
 Fm.wP (W.aa.imp λ{x y} e z=>by have:=e x (List.prefix_refl _);rw[z,Stree.vR]at this;cases this) λx c=>(W.al x c).1
section
variable {K:bYT}
def bQD:yN [Al,At,AC,Az,"told","ahead",AL] [Al,At,AC] (yH aVg):=scM
def aYQ(T:vK mg)(g:FnG P w K mg base 2 AW [Al,At] (bV6 Tb))(p:FnG P w K mg base 2 "top_of" [Al,AC] (bKm K))(F:Fun K B7 B7 aVg f fd): xE P w K mg base CX0 3 f fd [Al,At,AC] (aWi Tb):=by
 have sc:=bQD;refine F.ok (k:=2) sc (λa6 A outer s H0 vs Q E hr h=>?_);obtain⟨la,da,n,L,y,D,i,rfl,a0,a1,ho,hn,hi,hT,q⟩:=h;refine⟨_,(yC (yU (i:=3) (xJ g hr rfl (yA (pv 0) (yA (pv 1) yD)))) (yC (yU (i:=4) (y6 yD)) (yC (yU (i:=5) (y6 (yA (xJ p hr rfl (yA (pv 0) (yA (pv 2) yD))) yD))) (yC (uD cQG (yM aXh (yQ yO rfl T.b_len xB (yA (pv 5) yD)) yE) (yC (yU (i:=6) (aYW cQh cJy cJz aYw (pv 5))) (yC (yY (vN cQh cQo cQp xD (pv 4) (yA (pv 6) yD))) (yF (yY (vN cQh PySem.F.slot_list_extend PySem.F.type_list_extend aYv (pv 5) (yA (yL yK (pv 3) (pv 6)) yD))))))) (yF (yP (pv 4))))))),?_⟩;refine⟨_,rfl,_,rfl,la,da,n,L,y,D,rfl,a0,a1,ho,hn,hT,λO a rs kd k1 t1 ha a5 a4 hk=>?_⟩;dsimp only[yW];refine⟨z0,λr M=>?_⟩;dsimp only[yW];have k2:=yG M (.lst []);refine⟨_,rfl,_,rfl,la,n,L,y,i,rfl,CV (k2 _ _ (k1.lst a0)),ho,hi,z1,λo N=>?_⟩;dsimp only[yW];have U:O o=none:=k2.fresh N;have B:r≠o:=yJ yB N;have k3:xC O (upd (upd O r (.lst [])) o (.lst [V.int (Fm.tp L y i:Nat)])):=k2.trans (yG N _);refine⟨λm σ H=>L2.Ez3 λ(c I:List Nat)(lt:Option V)=>σ= [some (.ref la),some (.ref da),some (.int (i:Nat)),some (.ref a),some (.ref r),some (.ref o),lt]/\xC O H/\H r=some (.lst (c.map λi=>V.int (i:Nat)))/\
   H o=some (.lst (I.map λi=>V.int (i:Nat)))/\Fm.aJn n L D y (Fm.tp L y i) c I.reverse/\m=n - c.length,
  ⟨n,[],[Fm.tp L y i],none,rfl,k3,by rw[yI B];exact yB,yB,Fm.aJn.start ho hi,by simp⟩,?_⟩
 rintro m σ H ⟨c,I,lt,rfl,x,R,C,W,rfl⟩;refine⟨_,rfl,o,_,rfl,.inl (CV C),_,_,rfl,rfl,_,rfl,?_⟩;rcases List.eq_nil_or_concat I with rfl|⟨d,v,rfl⟩
 ·refine onF rfl ⟨_,rfl,q H r c (λb u n e=>yJ (k1 b u n e) M) (k1.trans x.t) ?_ R W.tt λk=>W.done k⟩;rcases t1 with t|⟨c',t1,t2⟩
  ·exact .inl (x _ _ t)
  ·exact .inr ⟨c',x _ _ t1,x _ _ t2⟩
 ·rw[List.concat_eq_append]at C W ⊢;have Z:decide ((((d++ [v]).map λi=>V.int (i:Nat)).length:Int) > 0)=true:=by
   refine decide_eq_true ?_;rw[bYW,cQf,cQ5];omega
  refine onT Z ⟨λY H'=>∃m',m'<n - c.length/\L2.Ez3 λ(c I:List Nat)(lt:Option V)=>Y= [some (.ref la),some (.ref da),some (.int (i:Nat)),some (.ref a),some (.ref r),some (.ref o),lt]/\xC O H'/\H' r=some (.lst (c.map λi=>V.int (i:Nat)))/\
   H' o=some (.lst (I.map λi=>V.int (i:Nat)))/\Fm.aJn n L D y (Fm.tp L y i) c I.reverse/\m'=n - c.length,λY H' z=>z,?_⟩
  have J:((d++ [v]).map λi=>V.int (i:Nat))[((d++ [v]).map λi=>V.int (i:Nat)).length - 1]? =some (V.int (v:Nat)):=by simp
  have G:((d++ [v]).map λi=>V.int (i:Nat)).dropLast=d.map λi=>V.int (i:Nat):=by simp
  refine⟨_,rfl,.inl ⟨rfl,_,CV C⟩,o,_,_,rfl,rfl,C,J,?_⟩;rw[G];dsimp only[yW];have W':Fm.aJn n L D y (Fm.tp L y i) c (v::d.reverse):=by
   have:(d++ [v]).reverse=v::d.reverse:=by simp
   rw[this]at W;exact W
  have hv:=(W'.al v bY7).1;have W2:=W'.step ho (z9:=(kd v).reverse) (λj=>by rw[List.mem_reverse];exact hk.mem v j) (by rw[List.pairwise_reverse];exact hk.ord v);have l1:=W'.len;have l2:=bWh W';have l3:=aWL hk v;have l4:=W2.len;rw[cQR,List.length_reverse]at l2;rw[cQf,cQ5]at l4;have S:upd H o (.lst (d.map λi=>V.int (i:Nat))) r=some (.lst (c.map λi=>V.int (i:Nat))):=by rw[yI B];exact R
  show aVw _ _ _ _;refine⟨_,rfl,.inl ⟨rfl,_,CV S⟩,_,rfl,r,_,_,rfl,rfl,S,zlt (by rw[bYW];omega),?_⟩;have X:upd (upd H o (.lst (d.map λi=>V.int (i:Nat)))) r (.lst ((c.map λi=>V.int (i:Nat))++ [V.int (v:Nat)])) o=some (.lst (d.map λi=>V.int (i:Nat))):=by rw[yI (cQB B)];exact yB
  have k6:xC O (upd (upd H o (.lst (d.map λi=>V.int (i:Nat)))) r (.lst ((c.map λi=>V.int (i:Nat))++ [V.int (v:Nat)]))):=zX (zX x U) M;have a2:v<rs.length:=by omega
  have hb:=bYR a2;have a3:=k6 _ _ (a4 v _ hb);refine⟨_,rfl,.inl ⟨rfl,_,CV X⟩,_,rfl,_,rfl,a,_,_,.ref rs[v],rfl,rfl,CV (k6 _ _ ha),yT (by rw[cQc,hb];rfl),o,rs[v],_,_,rfl,rfl,X,a3,zn (l:=(d.map λi=>V.int (i:Nat))++((kd v).map λi=>V.int (i:Nat))) (by rw[cQf,bYW,bYW];omega) |> λz=>by rw[cQf]at z;exact z,?_⟩;refine⟨n - (c.length+1),by omega,c++ [v],d++kd v,some (.int (v:Nat)),rfl,zX k6 U,?_,?_,?_,by rw[cQf,cQ5]⟩
  ·rw[yI B,yB,cXc];rfl
  ·rw[yB,cXc]
  ·rw[List.reverse_append];exact W2
end
end Thr
namespace Desk
open PySem L2 PyProof.Rows
open Bk (Row Rows)
def aZC(x:Str):Stmt->Bool
 |.FunctionDef n _ _ _ _ _ _ _ _ _=>n==x
 |_=>false
def bKW(x:Str):Stmt->Bool
 |.ClassDef n _ _ _ _ _ _ _ _ _ _=>n==x
 |_=>false
def bJK:Stmt->List Stmt
 |.ClassDef _ _ _ b _ _ _ _ _ _ _=>b
 |_=> []
abbrev text:List Stmt:=PySem.Challenge.pw_letterdesk_k06_whole_waiting_and_overdue.main.body
def xF(x:Str):Stmt:=(text.find? (aZC x)).getD (.Pass ⟨0,0,0,0⟩)
def xI(c m:Str):Stmt:=((bJK ((text.find? (bKW c)).getD (.Pass ⟨0,0,0,0⟩))).find? (aZC m)).getD (.Pass ⟨0,0,0,0⟩)
def xB:cQD CH=some (.builtin CH):=dk
def vB:cQD AR=some (.builtin AR):=dk
def z6:cQD AB=some (.type AB):=dk
structure vK(mg:Str->Option bYS):Prop where
 b_len:mg CH=none
 b_sorted:mg AR=none
 b_list:mg AB=none
structure Cl(K:bYT)(CB CL:Nat):Prop where
 b:Cls K CB
 l:Cls K CL
 letters:wL K CB B0
 shut:wL K CB Ag
 number:wL K CL AC
 way:wL K CL BV
 day:wL K CL AZ
 partner:wL K CL Aa
 term:wL K CL AU
 link:wL K CL CU
 file:wL K CL Bu
 copies:wL K CL BJ
 void:wL K CL Au
abbrev w6:Option Nat->V:=Thr.w6
def Q1(r:Row):Int:=if r.void then 0 else r.term
def X3(r:Row):V:=if r.void then .non else .str r.place
def aZL(i:Nat)(r:Row)(c:Nat):List (Str×V):=
 [(AC,.int (i:Nat)),(BV,.str r.way),(AZ,.int r.date),(Aa,.str r.partner),(AU,.int (Q1 r)),(CU,w6 r.link),(Bu,X3 r),(BJ,.ref c),(Au,.bl r.void)]
def aWp(CL:Nat)(H:Hp)(b:Nat)(i:Nat)(r:Row)(c:Nat):Prop:=∃a,H b=some (.ins CL a (aZL i r c))
def stV(r:Row):List V:= [.str r.way,.int r.date,.str r.partner,.int (Q1 r),w6 r.link,X3 r]
inductive bQP(CL:Nat)(vs:List V)(H:Hp)(Q:VK)(_:XK):Prop|mk(x dx:Nat)(i:Nat)(way:Str)(d:Int)(who:Str)(t:Int)(_:vs= [.ref x,.int (i:Nat),.str way,.int d,.str who,.int t])(_:H x=some (.ins CL dx []))(_:∀ (c:Nat)(H':Hp),H c=none->H' x=some (.ins CL dx (aZL i ⟨way,d,who,t,none,"",false,[]⟩ c))->H' c=some (.lst [])->(∀b,b≠x->b≠c->H' b=H b)->Q .non H')
inductive aVv(CL:Nat)(vs:List V)(H:Hp)(Q:VK)(_:XK):Prop|mk(b:Nat)(i:Nat)(r:Row)(c:Nat)(_:vs= [.ref b])(_:aWp CL H b i r c)(_:∀t,H t=none->Q (.ref t) (upd H t (.tup (stV r))))
inductive bQJ(CL:Nat)(vs:List V)(H:Hp)(Q:VK)(_:XK):Prop|mk(b b2:Nat)(i j:Nat)(r r2:Row)(c c2:Nat)(_:vs= [.ref b,.ref b2])(_:aWp CL H b i r c)(_:aWp CL H b2 j r2 c2)(_:Q (.bl (decide (r2.link=some i))) H)
inductive bJq(CL:Nat)(vs:List V)(H:Hp)(Q:VK)(_:XK):Prop|mk(b:Nat)(i:Nat)(r:Row)(c:Nat)(who:Str)(_:vs= [.ref b,.str who])(_:aWp CL H b i r c)(_:H c=some (.lst (r.copies.map V.str)))(_:Q (.bl (decide (who=r.partner) || r.copies.contains who)) H)
inductive bJx(CL:Nat)(vs:List V)(H:Hp)(Q:VK)(_:XK):Prop|mk(b dx:Nat)(i:Nat)(r:Row)(c:Nat)(_:vs= [.ref b])(_:H b=some (.ins CL dx (aZL i r c)))(_:Q .non (upd H b (.ins CL dx (aZL i {r with link:=none,void:=true} c))))
inductive bQR(vs:List V)(H:Hp)(Q:VK)(_:XK):Prop|mk(way:Str)(_:vs= [.str way])(_:Q (.str (Bk.uZ way)) H)
section
variable {K:bYT}
abbrev bQf:Stmt:=xI C7 AE
abbrev bQk:Stmt:=xI C7 BW
abbrev aY7:Stmt:=xI C7 Bd
abbrev bVD:Stmt:=xI C7 C8
abbrev bVM:Stmt:=xI C7 "make_void"
abbrev bQg:Stmt:=xF Bz
def bZw:yN [A1,AC,BV,AZ,Aa,AU] [A1,AC,BV,AZ,Aa,AU] (yH bQf):=scM
def bXV(T:Cl K CB CL)(F:Fun K AE "Letter.__init__" bQf f fd):xE P w K mg base CX0 (n+1) f fd [A1,AC,BV,AZ,Aa,AU] (bQP CL):=by
 have p:=bZw;refine F.ok (k:=n) p (λm A outer s H z Q E B h=>?_);obtain⟨x,e,i,v,d,r,t,rfl,o,q⟩:=h;refine⟨_,(yC (zQ (pv 0) (pv 1) rfl) (yC (zQ (pv 0) (pv 2) rfl) (yC (zQ (pv 0) (pv 3) rfl) (yC (zQ (pv 0) (pv 4) rfl) (yC (zQ (pv 0) (pv 5) rfl) (yC (zQ (pv 0) x6 rfl) (yC (zQ (pv 0) yR rfl) (yC (zQ (pv 0) (y6 yD) rfl) (yF (zQ (pv 0) wQ rfl)))))))))),?_⟩;refine⟨_,rfl,_,rfl,x,CL,e,_,rfl,o,T.l,T.number,(show 0<1000 by decide),?_⟩;refine⟨_,rfl,_,rfl,x,CL,e,_,rfl,yB,T.l,T.way,(show 1<1000 by decide),?_⟩;refine⟨_,rfl,_,rfl,x,CL,e,_,rfl,yB,T.l,T.day,(show 2<1000 by decide),?_⟩;refine⟨_,rfl,_,rfl,x,CL,e,_,rfl,yB,T.l,T.partner,(show 3<1000 by decide),?_⟩;refine⟨_,rfl,_,rfl,x,CL,e,_,rfl,yB,T.l,T.term,(show 4<1000 by decide),?_⟩;refine⟨_,rfl,x,CL,e,_,rfl,yB,T.l,T.link,(show 5<1000 by decide),?_⟩;refine⟨_,rfl,x,CL,e,_,rfl,yB,T.l,T.file,(show 6<1000 by decide),?_⟩;refine⟨z0,λc j=>?_⟩;have a:x≠c:=yJ yB j;refine⟨_,rfl,x,CL,e,_,rfl,(yI a).trans yB,T.l,T.copies,(show 7<1000 by decide),?_⟩;refine⟨_,rfl,x,CL,e,_,rfl,yB,T.l,T.void,(show 8<1000 by decide),?_⟩;have g:H c=none:=by simp only[yI (cQB a)]at j;exact j
 refine q c _ g yB (by rw[yI (cQB a),yI (cQB a),yB]) λb u y=>?_;simp only[yI u,yI y]
def bZB:yN [A1] [A1] (yH bQk):=scM
def bX0(T:Cl K CB CL)(F:Fun K BW "Letter.state" bQk f fd):xE P w K mg base CX0 (n+1) f fd [A1] (aVv CL):=by
 have g:=bZB;refine F.ok (k:=n) g (λe A outer s H m Q E o h=>?_);obtain⟨b,i,r,c,rfl,⟨a,d⟩,q⟩:=h;refine⟨_,(yF (yP (xG (yA (y3 (pv 0) rfl) (yA (y3 (pv 0) rfl) (yA (y3 (pv 0) rfl) (yA (y3 (pv 0) rfl) (yA (y3 (pv 0) rfl) (yA (y3 (pv 0) rfl) yD))))))))),?_⟩;refine⟨_,rfl,b,CL,a,_,_,rfl,d,T.l,T.way,rfl,?_⟩;refine⟨_,rfl,b,CL,a,_,_,rfl,d,T.l,T.day,rfl,?_⟩;refine⟨_,rfl,b,CL,a,_,_,rfl,d,T.l,T.partner,rfl,?_⟩;refine⟨_,rfl,b,CL,a,_,_,rfl,d,T.l,T.term,rfl,?_⟩;refine⟨_,rfl,b,CL,a,_,_,rfl,d,T.l,T.link,rfl,?_⟩;refine⟨_,rfl,b,CL,a,_,_,rfl,d,T.l,T.file,rfl,?_⟩;exact⟨by show 6<=cQk;decide,λt j=>q t j⟩
def aJE{o:Option Nat}{m:Nat}:decide (w6 o=V.int (m:Nat))=decide (o=some m):=by
 cases o with
 |none=>rfl
 |some j=>show decide (V.int (j:Nat)=V.int (m:Nat))=decide (some j=some m);rw[Bool.eq_iff_iff];simp;omega
def bZn:yN [A1,BX] [A1,BX] (yH aY7):=scM
def bXM(T:Cl K CB CL)(F:Fun K Bd "Letter.is_answered_by" aY7 f fd):xE P w K mg base CX0 (n+1) f fd [A1,BX] (bQJ CL):=by
 have m:=bZn;refine F.ok (k:=n) m (λe A outer s H u Q E v h=>?_);obtain⟨b,p,i,j,r,o,c,x,rfl,⟨g,t⟩,⟨a,d⟩,q⟩:=h;refine⟨_,(yF (yP (zR zI (y3 (pv 1) rfl) (y3 (pv 0) rfl)))),?_⟩;refine⟨_,rfl,p,CL,a,_,_,rfl,d,T.l,T.link,rfl,?_⟩;refine⟨_,rfl,b,CL,g,_,_,rfl,t,T.l,T.number,rfl,?_⟩;rw[<- aJE]at q;refine⟨?_,q⟩;cases o.link<;> rfl
def wX(x:Str):∀ns:List Str,inV (.str x) (ns.map V.str)=ns.contains x
 |[]=>rfl
 |n::r=>by have a:=wX x r;unfold inV at a ⊢;rw[cQF,cZc,a,cZf];congr 1;show(n==x)=(x==n);rw[Bool.eq_iff_iff,beq_iff_eq,beq_iff_eq];exact eq_comm
def aZx:∀ns:List Str,(ns.map V.str).all Q0=true
 |[]=>rfl
 |n::r=>by rw[cQF,cZ6,aZx r];rfl
def bVQ:yN [A1,BY] [A1,BY] (yH bVD):=scM
def bVd(T:Cl K CB CL)(F:Fun K C8 "Letter.has_gone_to" bVD f fd):xE P w K mg base CX0 (n+1) f fd [A1,BY] (bJq CL):=by
 have m:=bVQ;refine F.ok (k:=n) m (λj A outer s H t Q E u h=>?_);obtain⟨b,i,r,c,a,rfl,⟨d,g⟩,p,q⟩:=h;refine⟨_,(yF (yP (bW2 (zR zI (pv 1) (y3 (pv 0) rfl)) (aZV (zR vE (pv 1) (y3 (pv 0) rfl)))))),?_⟩;refine⟨_,rfl,_,rfl,b,CL,d,_,_,rfl,g,T.l,T.partner,rfl,rfl,?_⟩;have o:decide (V.str a=V.str r.partner)=decide (a=r.partner):=by rw[Bool.eq_iff_iff];simp
 refine⟨_,rfl,?_⟩;rw[o];cases e:decide (a=r.partner)with
 |true=>rw[e,Bool.true_or]at q;exact onT rfl q
 |false=>rw[e,Bool.false_or]at q;refine onF rfl ⟨_,rfl,_,rfl,b,CL,d,_,_,rfl,g,T.l,T.copies,rfl,c,_,rfl,.inl (CV p),rfl,aZx _,?_⟩;rw[if_neg (by decide),wX];exact q
def bV1:yN [A1] [A1] (yH bVM):=scM
def bVp(T:Cl K CB CL)(F:Fun K "make_void" "Letter.make_void" bVM f fd):xE P w K mg base CX0 (n+1) f fd [A1] (bJx CL):=by
 have e:=bV1;refine F.ok (k:=n) e (λd A outer s H j Q E m h=>?_);obtain⟨b,a,i,r,c,rfl,g,q⟩:=h;refine⟨_,(yC (zQ (pv 0) wQ rfl) (yC (zQ (pv 0) x6 rfl) (yC (zQ (pv 0) x6 rfl) (yF (zQ (pv 0) yE rfl))))),?_⟩;refine⟨_,rfl,b,CL,a,_,rfl,g,T.l,T.void,(show 9<1000 by decide),?_⟩;refine⟨_,rfl,b,CL,a,_,rfl,yB,T.l,T.link,(show 9<1000 by decide),?_⟩;refine⟨_,rfl,b,CL,a,_,rfl,yB,T.l,T.file,(show 9<1000 by decide),?_⟩;refine⟨_,rfl,b,CL,a,_,rfl,yB,T.l,T.term,(show 9<1000 by decide),?_⟩;rw[jE,jE,jE];exact q
def bZx:yN [BV] [BV] (yH bQg):=scM
def bXW(F:Fun K Bz Bz bQg f fd):xE P w K mg base CX0 (n+1) f fd [BV] bQR:=by
 have c:=bZx;refine F.ok (k:=n) c (λb A outer s H g Q E e h=>?_);obtain⟨a,rfl,q⟩:=h;refine⟨_,(yF (yP (aVV (yM zI (pv 0) yR) yR yR))),?_⟩;unfold Bk.uZ at q;have d:decide (V.str a=V.str "in")=decide (a="in"):=by rw[Bool.eq_iff_iff];simp
 refine⟨_,rfl,rfl,_,rfl,?_⟩;rw[d];by_cases hw:a="in"
 ·rw[if_pos hw]at q;exact onT (decide_eq_true hw) q
 ·rw[if_neg hw]at q;exact onF (decide_eq_false hw) q
end
end Desk
namespace L2
open PySem PySem.Spec PyProof.Rows
section
variable {κ:Type} [DecidableEq κ]
def aQe(kvs:List (κ×V))(k:κ):Option V:=(kvs.find? λa=>decide (a.1=k)).map (·.2)
def aJ4(kvs:List (κ×V))(k:κ)(v:V):List (κ×V):=
 if(kvs.any λa=>decide (a.1=k))=true then kvs.map (λa=>if a.1=k then(a.1,v)else a)else kvs++ [(k,v)]
def wE{p:κ×V}{r:List (κ×V)}{k:κ}(e:p.1=k):aQe (p::r) k=some p.2:=by simp[aQe,cZh,e]
def wD{p:κ×V}{r:List (κ×V)}{k:κ}(e:¬p.1=k):aQe (p::r) k=aQe r k:=by simp[aQe,cZh,e]
def aQf(k:κ):∀kvs:List (κ×V),(kvs.any λa=>decide (a.1=k))=(aQe kvs k).isSome
 |[]=>rfl
 |p::r=>by
  rw[cZc];by_cases e:p.1=k
  ·simp only[wE e,decide_eq_true e,Bool.true_or,Option.isSome_some]
  ·rw[wD e,decide_eq_false e,Bool.false_or];exact aQf k r
def aWm(k j:κ)(y:V):∀kvs:List (κ×V),aQe (kvs.map λa=>if a.1=k then(a.1,y)else a) j=(aQe kvs j).map λx=>if j=k then y else x
 |[]=>rfl
 |p::r=>by
  have b:=aWm k j y r;rw[cQF];by_cases h:p.1=k
  ·rw[if_pos h];by_cases e:p.1=j
   ·rw[wE (p:=(p.1,y)) e,wE e,Option.map_some,if_pos (e.symm.trans h)]
   ·rw[wD (p:=(p.1,y)) e,wD e,b]
  ·rw[if_neg h];by_cases e:p.1=j
   ·rw[wE (p:=p) e,wE e,Option.map_some,if_neg (λz=>h (e.trans z))]
   ·rw[wD (p:=p) e,wD e,b]
def aJl(k j:κ)(y:V):∀kvs:List (κ×V),aQe kvs k=none->aQe (kvs++ [(k,y)]) j=if j=k then some y else aQe kvs j
 |[],_=>by
  by_cases e:k=j
  ·rw[if_pos e.symm];exact wE (p:=(k,y)) e
  ·rw[if_neg (λz=>e z.symm)];exact wD (p:=(k,y)) e
 |p::r,hn=>by
  rw[cJu];have a:¬p.1=k:=λz=>by rw[wE z]at hn;cases hn
  rw[wD a]at hn;have b:=aJl k j y r hn;by_cases e:p.1=j
  ·rw[wE e,wE e,if_neg (λz=>a (e.trans z))]
  ·rw[wD e,wD e,b]
def bZ0(kvs:List (κ×V))(k j:κ)(y:V):aQe (aJ4 kvs k y) j=if j=k then some y else aQe kvs j:=by
 unfold aJ4;by_cases a:(kvs.any λb=>decide (b.1=k))=true
 ·rw[if_pos a,aWm];rw[aQf]at a;by_cases e:j=k
  ·obtain⟨x,c⟩:=Option.isSome_iff_exists.mp a;rw[if_pos e,e,c,Option.map_some,if_pos rfl]
  ·rw[if_neg e];cases aQe kvs j with
   |none=>rfl
   |some x=>rw[Option.map_some,if_neg e]
 ·rw[if_neg a];refine aJl k j y kvs ?_;rw[aQf]at a;cases q:aQe kvs k with
  |none=>rfl
  |some x=>rw[q]at a;exact(a rfl).elim
def qJ(kvs:List (κ×V))(k:κ)(v:V):(aJ4 kvs k v).length<=kvs.length+1:=by
 unfold aJ4;split
 ·rw[bYW];omega
 ·rw[cQf,cQR,cX3];omega
def aZi.isSome_eq{o:Option V}{u:Option bYS}(r:aZi o u):o.isSome=u.isSome:=by
 cases o with
 |none=>cases u with
  |none=>rfl
  |some _=>exact(show False from r).elim
 |some _=>cases u with
  |none=>exact(show False from r).elim
  |some _=>rfl
def KV.val{kvs:List (κ×V)}{vs:List (κ×bYS)}(r:KV kvs vs)(k:κ):aZi (aQe kvs k) (cJe vs k):=by
 unfold KV at r;induction r with
 |nil=>exact cXg
 |@cons p q i a h t g=>
  obtain⟨d,f⟩:=h;by_cases e:p.1=k
  ·have c:q.1=k:=d.symm.trans e;have b:cJe (q::a) k=some q.2:=by simp[cJe,cZh,c]
   rw[wE e,b];exact f
  ·have c:¬q.1=k:=λz=>e (d.trans z);have b:cJe (q::a) k=cJe a k:=by simp[cJe,cZh,c]
   rw[wD e,b];exact g
def KV.any{kvs:List (κ×V)}{vs:List (κ×bYS)}(r:KV kvs vs)(k:κ):(kvs.any λa=>decide (a.1=k))=vs.any λa=>decide (a.1=k):=by
 unfold KV at r;induction r with
 |nil=>rfl
 |cons h t b=>rw[cZc,cZc,b,h.1]
def KV.repl{kvs:List (κ×V)}{vs:List (κ×bYS)}(r:KV kvs vs)(k:κ){y:V}{u:bYS}(c:zO y u): KV (kvs.map λa=>if a.1=k then(a.1,y)else a) (vs.map λa=>if a.1=k then(a.1,u)else a):=by
 unfold KV at r ⊢;induction r with
 |nil=>exact .nil
 |@cons p q g i h t d=>
  rw[cQF,cQF];refine .cons ?_ d;obtain⟨b,f⟩:=h;by_cases e:p.1=k
  ·rw[if_pos e,if_pos (b.symm.trans e)];exact⟨b,c⟩
  ·rw[if_neg e,if_neg (λz=>e (b.trans z))];exact⟨b,f⟩
def KV.put{kvs:List (κ×V)}{vs:List (κ×bYS)}(r:KV kvs vs)(k:κ){y:V}{u:bYS}(a:zO y u):KV (aJ4 kvs k y) (stored vs k u):=by
 unfold aJ4 stored;rw[r.any k];by_cases e:(vs.any λb=>decide (b.1=k))=true
 ·rw[if_pos e,if_pos e];exact r.repl k a
 ·rw[if_neg e,if_neg e];exact cZP r ⟨rfl,a⟩
def KV.length{kvs:List (κ×V)}{vs:List (κ×bYS)}(r:KV kvs vs):kvs.length=vs.length:=cXA r
end
def bXs{P:cQe}{w:cQm}{k:Key}{u:bYS}(r:zO (kV k) u):(zD P w).is k u=true:=by
 cases k with
 |inl i=>obtain⟨t,e⟩:=(show ∃t,u=Value.int i t from r);subst e;exact aJM P w i t
 |inr x=>obtain⟨t,e⟩:=(show ∃t,u=Value.str x t from r);subst e;exact qK P w x t
def aZE{P:cQe}{w:cQm}:∀ {a:List Key} {us:List bYS},xW (a.map kV) us->ItemsAre (zD P w) a us
 |[],_,r=>by rw[List.map_nil]at r;cases r;exact .nil
 |k::a,_,r=>by
  rw[cQF]at r;cases r with
  |cons h t=>exact .cons (bXs h) (aZE t)
abbrev KT(H:Hp):List (List Key×V)->List (List Key×Addr×bYS)->Prop:=cQH λp q=>p.1=q.1/\H q.2.1=some (.tup (p.1.map kV))/\zO p.2 q.2.2
def KT.val{H:Hp}{kvs:List (List Key×V)}{xs:List (List Key×Addr×bYS)}(r:KT H kvs xs)(k:List Key):aZi (aQe kvs k) ((atKey xs k).map (·.2)):=by
 induction r with
 |nil=>exact cXg
 |@cons p q i c h t f=>
  obtain⟨d,_,g⟩:=h;by_cases e:p.1=k
  ·have a:q.1=k:=d.symm.trans e;have b:atKey (q::c) k=some q.2:=by simp[atKey,cZh,a]
   rw[wE e,b];exact g
  ·have a:¬q.1=k:=λz=>e (d.trans z);have b:atKey (q::c) k=atKey c k:=by simp[atKey,cZh,a]
   rw[wD e,b];exact f
def KT.repl{H:Hp}{kvs:List (List Key×V)}{xs:List (List Key×Addr×bYS)}(r:KT H kvs xs)(k:List Key){y:V}{u:bYS}(d:zO y u): KT H (kvs.map λb=>if b.1=k then(b.1,y)else b) (xs.map (putAt k u)):=by
 induction r with
 |nil=>exact .nil
 |@cons p q i j h t g=>
  rw[cQF,cQF];refine .cons ?_ g;obtain⟨a,c,f⟩:=h;unfold putAt;by_cases e:p.1=k
  ·rw[if_pos e,if_pos (a.symm.trans e)];exact⟨a,c,d⟩
  ·rw[if_neg e,if_neg (λz=>e (a.trans z))];exact⟨a,c,f⟩
def KT.put{H:Hp}{kvs:List (List Key×V)}{xs:List (List Key×Addr×bYS)}(r:KT H kvs xs)(k:List Key){b:Addr}{y:V}{u:bYS}(c:H b=some (.tup (k.map kV)))(a:zO y u): KT H (aJ4 kvs k y) (storedH xs k b u):=by
 have e:(kvs.any λd=>decide (d.1=k))=(atKey xs k).isSome:=by rw[aQf,(r.val k).isSome_eq,Option.isSome_map]
 unfold aJ4 storedH;rw[e];by_cases q:(atKey xs k).isSome=true
 ·rw[if_pos q,if_pos q];exact r.repl k a
 ·rw[if_neg q,if_neg q];exact cZP r ⟨rfl,c,a⟩
def KT.keeps{H c:Hp}{kvs:List (List Key×V)}{xs:List (List Key×Addr×bYS)}(r:KT H kvs xs)(d:∀b a,H b=some (.tup a)->c b=some (.tup a)):KT c kvs xs:=
 Paired.mapP r λ_ _ z=>⟨z.1,d _ _ z.2.1,z.2.2⟩
section
variable {P:cQe}{w:cQm}{H:Hp}{h:Heap}{a:Addr}
def bKa{u:HO}(ok:HOk P w H h)(e:Rd H a u):zH P w H h a u:=e.ok ok
def bWC{kvs:List (Key×V)}(ok:HOk P w H h)(e:Rd H a (.dK kvs)):kvs.length<=cQk/\(a==cZL)=false/\∃b,KV kvs b/\h.DictOf (zD P w) a b:=
 show zH P w H h a (.dK kvs)from bKa ok e
def bKS{kvs:List (Key×V)}(ok:HOk P w H h)(e:H a=some (.dK kvs)):kvs.length<=cQk/\(a==cZL)=false/\∃b,KV kvs b/\h.DictOf (zD P w) a b:=bWC ok (.inl e)
def aYj{c:List Key}(ok:HOk P w H h)(e:H a=some (.tup (c.map kV))):(tupleKind (zD P w)).is h c a:=by
 obtain⟨_,b,r,o,f,d,n,g⟩:=(show zH P w H h a (.tup (c.map kV))from ok a _ e);exact⟨o,b.toArray,n,f,d,g,by simpa using aZE r⟩
def bWD{kvs:List (List Key×V)}(ok:HOk P w H h)(e:Rd H a (.dT kvs)):kvs.length<=cQk/\(a==cZL)=false/\ ∃c,KT H kvs c/\h.DictOfH (tupleKind (zD P w)) a c:=by
 obtain⟨z,y,c,r,o,i,g,s,u,j,k,f⟩:=(show zH P w H h a (.dT kvs)from bKa ok e);refine⟨z,y,c,r,o,i,g,s,u,j,k,λx b=>?_,f⟩;have all:∀ {l:List (List Key×V)} {m:List (List Key×Addr×bYS)},KT H l m->∀x∈m,(tupleKind (zD P w)).is h x.1 x.2.1:=by
  intro l m q;induction q with
  |nil=>intro x b;exact nomatch b
  |@cons p q v A d t n=>
   intro x b;rcases bY1.mp b with e|b
   ·subst e;exact aYj ok (by rw[<- d.1];exact d.2.1)
   ·exact n x b
 exact all r x b
def vL{kvs:List (List Key×V)}(ok:HOk P w H h)(e:H a=some (.dT kvs)):kvs.length<=cQk/\(a==cZL)=false/\
  ∃b,KT H kvs b/\h.DictOfH (tupleKind (zD P w)) a b:=bWD ok (.inl e)
end
def bWn(H:Hp)(a:Addr)(y:V)(r:Option V):Prop:=
 (∃kvs k,Rd H a (.dK kvs)/\y=kV k/\r=aQe kvs k)\/∃kvs k b,Rd H a (.dT kvs)/\y= .ref b/\H b=some (.tup (k.map kV))/\r=aQe kvs k
def bWo(H:Hp)(a:Addr)(y v:V)(c:Hp):Prop:=
 (∃kvs k,H a=some (.dK kvs)/\y=kV k/\kvs.length<cQk/\c=upd H a (.dK (aJ4 kvs k v)))\/
 ∃kvs k b,H a=some (.dT kvs)/\y= .ref b/\H b=some (.tup (k.map kV))/\kvs.length<cQk/\c=upd H a (.dT (aJ4 kvs k v))
def bWn.k{H:Hp}{a:Addr}{kvs:List (Key×V)}{k:Key}(e:H a=some (.dK kvs)):bWn H a (kV k) (aQe kvs k):= .inl ⟨kvs,k,.inl e,rfl,rfl⟩
def bWo.k{H:Hp}{a:Addr}{kvs:List (Key×V)}{k:Key}{v:V}(e:H a=some (.dK kvs))(hl:kvs.length<cQk):bWo H a (kV k) v (upd H a (.dK (aJ4 kvs k v))):= .inl ⟨kvs,k,e,rfl,hl,rfl⟩
section
variable {X:Cx}{pins:List (Addr×Obj)}{σ:St}{H:Hp}{s:bYV}{a:Addr}{y v:V}{u r:bYS}{o:Option V}{A:cQA}{E:bYS->bYV->Prop}
def Inv.big(I:Inv X pins σ H s):cZL<s.heap.objs.size:=by
 have h:cQq<s.heap.objs.size:=(I.mod.glob.keeps I.bk).lt;exact Nat.lt_trans (by decide) h
def bJN{Q:bYS->bYV->Prop}(n:A.units+1<cLine)(I:Inv X pins σ H s)(g:bWn H a y o)(m:zO y u)(h:∀j,Inv X pins σ H j->Q (.bool (!o.isSome)) j): bY0 (bY2 X.prog X.w) A (cXo .NotIn u (.ref a)) Q E s:=by
 rcases g with⟨kvs,k,e,i,l⟩|⟨kvs,k,b,e,i,p,l⟩
 ·subst i;obtain⟨z,d,r,c,f⟩:=bWC I.hok e;refine wpAny_notIn_of (bXs m) d f.mapOf ?_;rw[<- (c.val k).isSome_eq,<- l];exact h _ (I.tok _)
 ·subst i;cases (show u=Value.ref b from m);obtain⟨z,d,t,c,f⟩:=bWD I.hok e;refine wpAny_notIn_heap (tupleKind_room_in1 n) (aYj I.hok p) d f ?_;have q:=(c.val k).isSome_eq;rw[Option.isSome_map]at q;rw[<- q,<- l];exact h _ (I.tok _)
def aKX{h':Heap}{t':Nat}{d:HO}(I:Inv X pins σ H s)(g:Mut (H a))(h:cXW a s.heap h')(i:∃q,h'.get? a=some q)(c:zH X.prog X.w (upd H a d) h' a d): Inv X pins σ (upd H a d) {s with heap:=h',toks:=t'}:=
 I.write (x:=a) (e:=a) g (.inl rfl) (λb q f z=>(h.2 b f).trans z) i c
def bWB{P:cQe}{w:cQm}{e:Hp}{h':Heap}{kvs:List (Key×V)}{vs:List (Key×bYS)}(z:kvs.length<=cQk)(d:(a==cZL)=false)(b:KV kvs vs)(c:h'.DictOf (zD P w) a vs):
  zH P w e h' a (.dK kvs):=⟨z,d,vs,b,c⟩
def aKW{J:Hp}{Q:Unit->bYV->Prop}(M:A.units+1<cLine)(I:Inv X pins σ H s)(g:bWo H a y v J)(B:zO y u)(D:zO v r)(h:∀x,Inv X pins σ J x->Q () x): bY0 (bY2 X.prog X.w) A (setItem (.ref a) u r) Q E s:=by
 rcases g with⟨kvs,k,e,o,l,p⟩|⟨kvs,k,b,e,o,F,l,p⟩
 ·subst o p;obtain⟨z,j,R,d,m⟩:=bKS I.hok e;have n:R.length<=cQk:=by rw[<- d.length];exact z
  have hl:(aJ4 kvs k v).length<=cQk:=by have:=qJ kvs k v;omega
  refine wpAny_setItem_pairs (hsz:=n) (bXs B) m λC f t=>h _ ?_;have O:∃q,C.get? a=some q:=let ⟨q,_,_,i,_⟩:=f;⟨q,i⟩;exact aKX I (by rw[e];exact cXg) t O (bWB hl j (d.put k D) f)
 ·subst o p;cases (show u=Value.ref b from B);obtain⟨z,j,T,d,m⟩:=vL I.hok e;have n:T.length<=cQk:=by rw[<- cXA d];exact z
  have hl:(aJ4 kvs k v).length<=cQk:=by have:=qJ kvs k v;omega
  refine wpAny_setItem_heap (hsz:=n) (tupleKind_room_in1 M) (aYj I.hok F) m λC f t=>h _ ?_;obtain⟨q,N,L,i,U,P,S,_,K⟩:=f;refine aKX I (by rw[e];exact cXg) t ⟨q,i⟩ ⟨hl,j,_,(d.put k F D).keeps λc V G=>?_,q,N,L,i,U,P,S,K⟩;rw[yI (aXd G e (λz=>nomatch z))];exact G
end
section
variable {X:Cx}{pins:List (Addr×Obj)}{σ:St}{H:Hp}{s:bYV}{a:Addr}{kvs:List (Key×V)}{k:Key}{u:bYS}{A:cQA}{E:bYS->bYV->Prop}
end
def bYk(i:Expr):Prop:=∀a b,subscripted i false a b=operate [a,b] (getItem a b)
def bV8{prog:cQe}{w:cQm}{A:cQA}{E:bYS->bYV->Prop}{s:bYV}{env:Env}{value a:Expr}{pos:Pos}{T id:String}{Q:bYS->bYV->Prop} (hl:typeLookup (.type T) "__getitem__"=pure (some (.builtin id))) (k:bYk a) (h:bY0 (bY2 prog w) A (eval value env) (λo e=>bY0 (bY2 prog w) A (eval a env) (λi b=>b.TypeIs o T/\bY0 (bY2 prog w) A (getItem o i) Q E b) E e) E s): bY0 (bY2 prog w) A (eval (.Subscript value a pos) env) Q E s:=by
 refine Subscript_ (cQW h (λo e g=>cQW g (λi b c=>?_) λ_ _ x=>x) λ_ _ x=>x);obtain⟨j,c⟩:=c;unfold subscriptTail;refine bYU ?_;rw[getitemInPython_of_ne j.not_modules];refine bYU (wpAny_specialOf j hl ?_);have fin:bY0 (bY2 prog w) A (subscripted a false o i) (λr d=>bY0 (bY2 prog w) A (letTemporaryGo value o r >>=λ_=>pure r) Q E d) E b:=by rw[k o i];exact wpAny_operating (cQW c (λr d f=>bYU (wpAny_letTemporaryGo (bYY f))) λ_ _ x=>x)
 first
  |exact bYY (bYU fin)
  |exact bYU (bYY (bYU fin))
  |exact bYU fin
inductive bZN(Q:VK)(y:V)(x:V)(H2:Hp):Prop|mk(a o)(_:x= .ref a)(_:bWn H2 a y o)(_:Q (.bl (!o.isSome)) H2)
def bWa(ty td:TE):TE:=λσ H Q=>ty σ H λy b=>td σ b λx a=>bZN Q y x a
inductive bKb(D:aJo)(σ:St)(v:V)(x:V)(y:V)(H3:Hp):Prop|mk(a H4)(_:x= .ref a)(_:bWo H3 a y v H4)(_:D.nx σ H4)
def bK3(td ty tv:TE):TS:=λD σ H=>tv σ H λv c=>td σ c λx a=>ty σ a λy b=>bKb D σ v x y b
section
variable {X:Cx}{o i e value:Expr}{pos pos' tpos:Pos}{td ty tv:TE}
def aYV(c:X.A.units+1<cLine)(d:PE X i ty)(e:PE X o td):PC X .NotIn i o (bWa ty td):=by
 intro pins s σ H Q I h;refine thn (d pins s σ H _ I h) λiv s1 ⟨y,H1,I1,ry,q1⟩=>thn (e pins s1 σ H1 _ I1 q1) λu s2 ⟨x,H2,I2,rx,a,ov,ex,g,q2⟩=>?_;subst ex;obtain rfl:u=Value.ref a:=rx;exact bJN c I2 g ry λf b=>⟨.bl (!ov.isSome),H2,b,rfl,q2⟩
def bVw(d:X.A.units+1<cLine)(f:PE X o td)(e:PE X i ty)(j:PE X value tv)(b:swapsWith value (some (.Subscript o i pos')) pos.line X.env=pure false): PS X (.Assign [.Subscript o i pos'] value pos) (bK3 td ty tv):=by
 intro pins s σ H D I h;refine wpAny_Assign_Subscript (thn (j pins s σ H _ I h) λr s1 ⟨v,H1,I1,rv,q1⟩=>thn (f pins s1 σ H1 _ I1 q1) λu s2 ⟨x,H2,I2,rx,q2⟩=>thn (e pins s2 σ H2 _ I2 q2) λiv s3 ⟨y,H3,I3,ry,a,H4,ex,g,q3⟩=>?_) b;subst ex;obtain rfl:u=Value.ref a:=rx;exact aKW d I3 g ry rv λk c=>⟨σ,H4,c,q3⟩
end
def bXg{P:cQe}{w:cQm}{H:Hp}(h:Heap)(a:cZL<h.objs.size):zH P w H (h.push {cls:= .type "dict",data:= .dict #[] }) h.objs.size (.dK []):=
 ⟨cQQ _,beq_eq_false_iff_ne.mpr (cQB (cQj a)),[],.nil,Heap.DictOf.new h⟩
def bKp:TE:=λ_ H Q=>∀p,H p=none->Q (.ref p) (upd H p (.dK []))
section
variable {X:Cx}{pos:Pos}
def bZa:PE X (.Dict [] [] pos) bKp:=λpins s σ H Q I h=>
 wpAny_Dict_empty ⟨.ref s.heap.objs.size,_,I.laid (a:=s.heap.objs.size) (o:= .dK []) (t':=s.toks) (λ_ _ q=>bYX _ q) (bYZ _) (bXg s.heap I.big),rfl,h _ (I.hok.fresh (bYZ _))⟩
end
structure M1(X:Cx)(o:Expr)(m:Str)(apos:Pos)(e:Expr)(cpos:Pos):Prop where
 base:cZG o m X.env (eval o X.env)=eval o X.env
 few:((cXw cpos (cQy [e] X.env)).all (λx=> !x.1) && (cZ4 cpos (cZe [] X.env)).all (λx=>x.1.isSome)
  && decide (([e]:List Expr).length+([]:List Keyword).length+(if([]:List Keyword).isEmpty then 0 else 1)<30))=true
 line:(apos.endLine==cpos.line)=true
 trees:cXw cpos (cQy [e] X.env)= [(false,eval e X.env)]
structure M2(X:Cx)(o:Expr)(m:Str)(apos:Pos)(e f:Expr)(cpos:Pos):Prop where
 base:cZG o m X.env (eval o X.env)=eval o X.env
 few:((cXw cpos (cQy [e,f] X.env)).all (λx=> !x.1) && (cZ4 cpos (cZe [] X.env)).all (λx=>x.1.isSome)
  && decide (([e,f]:List Expr).length+([]:List Keyword).length+(if([]:List Keyword).isEmpty then 0 else 1)<30))=true
 line:(apos.endLine==cpos.line)=true
 trees:cXw cpos (cQy [e,f] X.env)= [(false,eval e X.env),(false,eval f X.env)]
section
variable {X:Cx}{pins:List (Addr×Obj)}{σ:St}{H:Hp}{s:bYV}{a:Addr}{y d:V}{u r:bYS}{o:Option V}{A:cQA}{E:bYS->bYV->Prop}
end
section
variable {X:Cx}{o e f:Expr}{apos cpos:Pos}{td ty tx:TE}
end
section
variable {X:Cx}{pins:List (Addr×Obj)}{σ:St}{H:Hp}{s:bYV}{a:Addr}{kvs:List (Key×V)}{A:cQA}{E:bYS->bYV->Prop}
end
section
variable {X:Cx}{pins:List (Addr×Obj)}{σ:St}{H:Hp}{s:bYV}{a:Addr}{y:V}{u:bYS}{A:cQA}{E:bYS->bYV->Prop}
end
end L2
namespace L2
open PySem PySem.Spec PyProof.Rows
section
variable {κ:Type} [DecidableEq κ]
end
end L2
namespace Days
open PySem L2 PyProof.Rows
def aZC(x:Str):Stmt->Bool
 |.FunctionDef n _ _ _ _ _ _ _ _ _=>n==x
 |_=>false
def xF(x:Str):Stmt:=(PySem.Challenge.pw_letterdesk_k06_whole_waiting_and_overdue.main.body.find? (aZC x)).getD (.Pass ⟨0,0,0,0⟩)
abbrev aVb:Stmt:=xF "counts"
abbrev bVI:Stmt:=xF Ar
abbrev aXV:Stmt:=xF BZ
abbrev bQi:Stmt:=xF CI
def aKP:cQD "min"=some (.builtin "min"):=dk
def vB:cQD AR=some (.builtin AR):=dk
def bWA:cQD B4=some (.type B4):=dk
structure vK(mg:Str->Option bYS):Prop where
 b_len:mg CH=none
 b_min:mg "min"=none
 b_sum:mg "sum"=none
 b_sorted:mg AR=none
 b_isinstance:mg AY=none
 b_int:mg Ao=none
 b_str:mg Ap=none
 b_bool:mg Aj=none
 b_list:mg AB=none
 b_tuple:mg AD=none
 b_set:mg B4=none
 b_range:mg Ae=none
 b_reversed:mg "reversed"=none
 week:∃t,mg "WEEK"=some (.int 7 t)
 opens:∃t,mg "OPEN_DAYS"=some (.int 5 t)
inductive bQQ(vs:List V)(H:Hp)(Q:VK)(_:XK):Prop|mk(d)(_:vs= [.int d])(_:Q (.bl (Dm.opn d)) H)
inductive bQS(vs:List V)(H:Hp)(Q:VK)(_:XK):Prop|mk(d)(_:vs= [.int d])(_:Q (.int (Dm.place d)) H)
inductive aWa(K:bYT)(vs:List V)(H:Hp)(Q:VK)(_:XK):Prop|mk(a:Nat)(ns:List Int)(_:vs= [.ref a])(_:SqL K H a (ns.map V.int))(_:ns.length<64)(_:∀ (r:Nat)(H':Hp)(C:List Int),xC H H'->H r=none->C.Pairwise (·<·)->(∀d,d∈C↔d∈ns/\Dm.opn d=true)->C.length<=ns.length->H' r=some (.lst (C.map V.int))->Q (.ref r) H')
inductive aWc(K:bYT)(vs:List V)(H:Hp)(Q:VK)(_:XK):Prop|mk(a:Nat)(ns:List Int)(d:Int)(_:vs= [.ref a,.int d])(_:SqL K H a (ns.map V.int))(_:Q (.bl (Dm.cts ns d)) H)
abbrev bK4:Stmt:=xF CQ
abbrev bQb:Stmt:=xF "day_at"
inductive bQM(vs:List V)(H:Hp)(Q:VK)(_:XK):Prop|mk(d)(_:vs= [.int d])(_:Q (.int (Dm.zP d)) H)
inductive bKl(K:bYT)(vs:List V)(H:Hp)(Q:VK)(_:XK):Prop|mk(a:Nat)(ns:List Int)(d t:Int)(_:vs= [.ref a,.int d,.int t])(_:SqL K H a (ns.map V.int))(_:ns.length<64)(_:1<=t)(_:∀ (H':Hp)(D:Int),xC H H'->Dm.Due ns d t D->Q (.int D) H')
section
variable {K:bYT}
def bVW:yN [Am] [Am] (yH bVI):=scM
def bVk(T:vK mg)(F:Fun K Ar Ar bVI f fd):xE P w K mg base CX0 1 f fd [Am] bQQ:=by
 obtain⟨j,b⟩:=T.week;obtain⟨i,a⟩:=T.opens;have e:=bVW;refine F.ok (k:=0) e (λc A outer s H g Q E l h=>?_);obtain⟨d,rfl,q⟩:=h;refine⟨_,(yF (yP (zR vM (yV y0 (pv 0) (uC (v:= .int 7) rfl b ⟨_,rfl⟩)) (uC (v:= .int 5) rfl a ⟨_,rfl⟩)))),?_⟩;exact⟨_,rfl,_,_,rfl,rfl,(show(0:Int)<7 by decide),_,_,rfl,rfl,q⟩
def bZz:yN [Am] [Am] (yH bQi):=scM
def bXY(T:vK mg)(F:Fun K CI CI bQi f fd):xE P w K mg base CX0 1 f fd [Am] bQS:=by
 obtain⟨l,b⟩:=T.week;obtain⟨j,a⟩:=T.opens;have g:=bZz;refine F.ok (k:=0) g (λc A outer s H i Q E m h=>?_);obtain⟨d,rfl,q⟩:=h;refine⟨_,(yF (yP (yV x9 (yV aVQ (yV X6 (pv 0) (uC (v:= .int 7) rfl b ⟨_,rfl⟩)) (uC (v:= .int 5) rfl a ⟨_,rfl⟩)) (yQ (aKS rfl) rfl T.b_min aKP (yA (yV y0 (pv 0) (uC (v:= .int 7) rfl b ⟨_,rfl⟩)) (yA (yV wU (uC (v:= .int 5) rfl a ⟨_,rfl⟩) yE) yD)))))),?_⟩;refine⟨_,rfl,_,_,rfl,rfl,⟨by decide,by decide⟩,_,_,rfl,rfl,.inr ⟨by decide,by decide⟩,_,rfl,_,_,rfl,rfl,(show(0:Int)<7 by decide),_,_,rfl,rfl,_,_,rfl,_,_,rfl,rfl,?_⟩;have e:(if 5 - 1<d % 7 then 5 - 1 else d % 7:Int)=if 4<d % 7 then 4 else d % 7:=rfl;exact q
def bQw:yN [Ag,Am] [Ag,Am] (yH aVb):=scM
def jK(d:Int):∀ns:List Int,inV (.int d) (ns.map V.int)=ns.contains d
 |[]=>rfl
 |n::r=>by have a:=jK d r;unfold inV at a ⊢;rw[cQF,cZc,a,cZf];congr 1;show(n==d)=(d==n);rw[Bool.eq_iff_iff,beq_iff_eq,beq_iff_eq];exact eq_comm
def uW:∀ns:List Int,(ns.map V.int).all Q0=true
 |[]=>rfl
 |n::r=>by rw[cQF,cZ6,uW r];rfl
def aYJ(T:vK mg)(b:FnG P w K mg base 1 Ar [Am] bQQ)(F:Fun K "counts" "counts" aVb f fd):xE P w K mg base CX0 2 f fd [Ag,Am] (aWc K):=by
 have g:=bQw;refine F.ok (k:=1) g (λe A outer s H m Q E l h=>?_);obtain⟨a,i,d,rfl,j,q⟩:=h;refine⟨_,(yF (yP (aVU (xJ b l rfl (yA (pv 1) yD)) (aZV (zR W8 (pv 1) (pv 0)))))),?_⟩;refine⟨_,rfl,d,rfl,_,rfl,?_⟩;unfold Dm.cts at q;cases c:Dm.opn d with
 |false=>rw[c]at q;exact q
 |true=>rw[c,Bool.true_and]at q;rw[if_pos rfl];refine⟨_,rfl,_,rfl,a,_,rfl,.inl j,rfl,uW i,?_⟩;rw[if_pos rfl,jK];exact q
def bQv:yN [Ag] [Ag] (yH aXV):=scM
def aYl:xN [Ag] (yH aXV) Am [] [] (lsN [(".0",.local),(Am,.local),(Ar,.globalImplicit)]):=
 lcM
def aQj(p:Int->Bool):∀ns:List Int,((ns.map V.int).filter λv=>match v with|.int d=>p d|_=>false)=(ns.filter p).map V.int
 |[]=>rfl
 |n::r=>by have a:=aQj p r;rw[cQF,List.filter_cons,List.filter_cons,a];show(if p n=true then _ else _)=_;split<;> rfl
def aYI(T:vK mg)(c:FnG P w K mg base 1 Ar [Am] bQQ)(F:Fun K BZ BZ aXV f fd):xE P w K mg base CX0 2 f fd [Ag] (aWa K):=by
 have G:=bQv;refine F.ok (k:=1) G (λz A outer s H Z Q E U h=>?_);obtain⟨a,L,rfl,N,B,q⟩:=h;refine⟨_,(yF (yP (aQG aYl rfl (xL (yQ (aXa rfl) rfl T.b_sorted vB (yA (x5 (bQ8 rfl) rfl T.b_set bWA (yA (pv 0) yD)) yD))) (λ_ _ _ _ _=>(w8 (xZ (xJ c U rfl (yA (pv 0) yD))))) (λ_ _ _ _ _=>(pv 0))))),?_⟩;refine⟨_,rfl,a,L,rfl,N,by omega,λl p hl M t e=>?_⟩;refine⟨l,p,rfl,yB,by omega,λr S i g W=>?_⟩;refine⟨r,rfl,⟨_,CV yB⟩,λD n=>?_⟩;have j:S.Pairwise (·<·):=by
  have m:S.Nodup:=(g.nodup_iff).mpr M;have u:S.Pairwise (λa b=>a<=b/\a≠b):=W.and m;exact u.imp λ⟨h1,u⟩=>by omega
 have O:(S.map V.int).length<=cQk:=by rw[bYW,g.length_eq,cQr];omega
 refine aZK (λv=>match v with|.int d=>Dm.opn d|_=>false) id (CV yB) n O ?_ ?_ ?_
 ·intro v y X R I hR;obtain⟨d,Y,rfl⟩:=cQX.mp y;exact⟨_,rfl,d,rfl,_,rfl,hR⟩
 ·intro v y J X R I hR;exact⟨_,rfl,hR⟩
 ·rw[aQj,List.map_id];have x:=yG hl (bKh w l p);have o:=yG i (.lst (S.map V.int));have C:=yG n (.lst ((S.filter Dm.opn).map V.int));refine q D _ (S.filter Dm.opn) (x.trans (o.trans C)) ?_ (j.sublist cXU) ?_ ?_ yB
  ·exact(xC.trans x o).fresh n
  ·intro d;rw[cQ0,g.mem_iff,e]
  ·have:=cQS Dm.opn S;rw[g.length_eq]at this;omega
def bZs:yN ["place"] ["place"] (yH bQb):=scM
def bXR(T:vK mg)(F:Fun K "day_at" "day_at" bQb f fd):xE P w K mg base CX0 1 f fd ["place"] bQM:=by
 obtain⟨j,b⟩:=T.week;obtain⟨i,a⟩:=T.opens;have e:=bZs;refine F.ok (k:=0) e (λc A outer s H g Q E l h=>?_);obtain⟨d,rfl,q⟩:=h;refine⟨_,(yF (yP (yV x9 (yV aVQ (yV X6 (pv 0) (uC (v:= .int 5) rfl a ⟨_,rfl⟩)) (uC (v:= .int 7) rfl b ⟨_,rfl⟩)) (yV y0 (pv 0) (uC (v:= .int 5) rfl a ⟨_,rfl⟩))))),?_⟩;exact⟨_,rfl,_,_,rfl,rfl,⟨by decide,by decide⟩,_,_,rfl,rfl,.inr ⟨by decide,by decide⟩,_,rfl,_,_,rfl,rfl,(show(0:Int)<5 by decide),_,_,rfl,rfl,q⟩
def bKe:yN [Ag,Am,AU,"place","closed"] [Ag,Am,AU] (yH bK4):=scM
def bXh(d p:Int)(C:List Int)(i:Nat)(c:Int)(h:C[i]? =some c):Dm.aXG d p (C.take (i+1))=Dm.uU d (Dm.aXG d p (C.take i)) c:=by
 unfold Dm.aXG;rw[cQU,h];show(C.take i++ [c]).foldl _ p=_;rw[cJ6];rfl
def bWV(T:vK mg)(b:FnG P w K mg base 2 BZ [Ag] (aWa K))(j:FnG P w K mg base 2 CI [Am] bQS)(g:FnG P w K mg base 2 "day_at" ["place"] bQM) (F:Fun K CQ CQ bK4 f fd):xE P w K mg base CX0 3 f fd [Ag,Am,AU] (bKl K):=by
 have L:=bKe;refine F.ok (k:=2) L (λG A outer s H X Q E u h=>?_);obtain⟨a,N,d,t,rfl,O,v,U,q⟩:=h;refine⟨_,(yC (yU (i:=3) (yV x9 (xJ j u rfl (yA (pv 1) yD)) (pv 2))) (yC (zT cQG rfl (xL (xJ b u rfl (yA (pv 0) yD))) (y9 (i:=4)) (yF (y7 (bZe vM aYS (pv 1) (pv 4) (xJ g u rfl (yA (pv 3) yD))) (yF (yU (i:=3) (yV x9 (pv 3) yE))) yS))) (yF (yP (xJ g u rfl (yA (pv 3) yD)))))),?_⟩;refine⟨_,rfl,d,rfl,_,rfl,_,_,rfl,rfl,?_⟩;refine⟨_,rfl,a,N,rfl,O,v,λr I C S M R J hl o=>⟨r,rfl,⟨_,CV o⟩,?_⟩⟩;refine zJ (xs:=C.map V.int) (λi σ H=>∃cl,σ= [some (.ref a),some (.int d),some (.int t),some (.int (Dm.aXG d (Dm.place d+t) (C.take i))),cl]/\H=I) ?_ ?_ ?_ ?_
 ·exact⟨none,rfl,rfl⟩
 ·rintro i σ H W ⟨cl,rfl,rfl⟩;exact CV o
 ·rintro i x σ H n ⟨cl,rfl,rfl⟩;rw[cQc]at n;cases y:C[i]? with
  |none=>rw[y]at n;cases n
  |some c=>
   rw[y]at n;cases n;have p:=bXh d (Dm.place d+t) C i c y;generalize Dm.aXG d (Dm.place d+t) (C.take i)=pl at p ⊢;dsimp only[yW];refine⟨_,rfl,_,rfl,_,_,rfl,rfl,_,rfl,?_⟩;refine qC (λB=>?_) (λB=>?_)
   ·have l:d<c:=of_decide_eq_true B;refine⟨_,rfl,pl,rfl,_,_,rfl,rfl,_,rfl,?_⟩;refine qC (λD=>?_) (λD=>?_)
    ·have m:c<=Dm.zP pl:=of_decide_eq_true D;refine⟨_,rfl,_,_,rfl,rfl,some (.int c),?_,rfl⟩;have e:Dm.uU d pl c=pl+1:=if_pos ⟨l,m⟩;rw[p,e];rfl
    ·have m:¬c<=Dm.zP pl:=of_decide_eq_false (Bool.eq_false_iff.mpr D);refine⟨some (.int c),?_,rfl⟩;have e:Dm.uU d pl c=pl:=if_neg λz=>m z.2;rw[p,e];rfl
   ·have l:¬d<c:=of_decide_eq_false (Bool.eq_false_iff.mpr B);refine⟨_,rfl,?_⟩;refine onF rfl ⟨some (.int c),?_,rfl⟩;have e:Dm.uU d pl c=pl:=if_neg λz=>l z.1;rw[p,e];rfl
 ·rintro σ H ⟨cl,rfl,rfl⟩;rw[bYW,cQP];exact⟨_,rfl,_,rfl,q _ _ S (Dm.bJa U R J)⟩
end
end Days
namespace Desk
open PySem L2 PyProof.Rows
open Bk (Row Rows)
structure PB(CB CL:Nat)(H:Hp)(ba la sa:Nat)(ls cs:List Nat)(R:Rows)(S:List Int):Prop where
 book:∃dx,H ba=some (.ins CB dx [(B0,.ref la),(Ag,.ref sa)])
 lst:H la=some (.lst (ls.map V.ref))
 sht:H sa=some (.lst (S.map V.int))
 len:ls.length=R.length
 clen:cs.length=R.length
 nd:ls.Nodup
 cnd:cs.Nodup
 las:la≠sa
 lac:la∉cs
 sac:sa∉cs
 row:∀ (i:Nat)(b c:Nat)(r:Row),ls[i]? =some b->cs[i]? =some c->R[i]? =some r->aWp CL H b i r c/\H c=some (.lst (r.copies.map V.str))
inductive bYy(CL:Nat)(H:Hp)(ls cs:List Nat)(i:Nat)(r:Row):Prop|mk(b c:Nat)(_:(ls.map V.ref)[i]? =some (.ref b))(_:ls[i]? =some b)(_:cs[i]? =some c)(_:aWp CL H b i r c)(_:H c=some (.lst (r.copies.map V.str)))
def PB.get{f CL:Nat}{H:Hp}{e la sa:Nat}{ls cs:List Nat}{R:Rows}{S:List Int}(h:PB f CL H e la sa ls cs R S){i:Nat}{r:Row}(c:R[i]? =some r):bYy CL H ls cs i r:=by
 have b:i<R.length:=Bk.wO c;have a:=bYR (show i<ls.length by rw[h.len];exact b);have d:=bYR (show i<cs.length by rw[h.clen];exact b);obtain⟨g,j⟩:=h.row i _ _ r a d c;exact⟨_,_,by rw[cQc,a];rfl,a,d,g,j⟩
def PB.sameT{d CL:Nat}{H f:Hp}{a la sa:Nat}{ls cs:List Nat}{R:Rows}{S:List Int}(h:PB d CL H a la sa ls cs R S)(k:x3 H f):PB d CL f a la sa ls cs R S:=
 ⟨let ⟨dx,e⟩:=h.book;⟨dx,k _ _ (λ_ z=>nomatch z) e⟩,k.lst h.lst,k.lst h.sht,h.len,h.clen,h.nd,h.cnd,h.las,h.lac,h.sac,λi b c r j l g=>
  let ⟨⟨dx,e1⟩,e2⟩:=h.row i b c r j l g;⟨⟨dx,k _ _ (λ_ z=>nomatch z) e1⟩,k.lst e2⟩⟩
def PB.same{a CL:Nat}{H b:Hp}{c la sa:Nat}{ls cs:List Nat}{R:Rows}{S:List Int}(h:PB a CL H c la sa ls cs R S)(k:xC H b):PB a CL b c la sa ls cs R S:=h.sameT k.t
def aKJ(T:Nat)(H a:Hp):Prop:=x3 H a/\(Thr.wF T H->Thr.wF T a)
def aKJ.of{T:Nat}{H a:Hp}(k:xC H a):aKJ T H a:=⟨k.t,λt=>by
 rcases t with t|⟨c,b,d⟩
 ·exact .inl (k _ _ t)
 ·exact .inr ⟨c,k _ _ b,k _ _ d⟩⟩
def aKJ.trans{T:Nat}{H d c:Hp}(a:aKJ T H d)(b:aKJ T d c):aKJ T H c:=⟨a.1.trans b.1,λt=>b.2 (a.2 t)⟩
def xK(K:bYT)(Rf:Nat×Nat)(H:Hp)(E:XK)(t:Str):Prop:=∀ (C b:Nat)(a:Hp),v8 K C->cZ7 K C (.ref Rf.1)=some true->aKJ Rf.2 H a->a b=some (.xd [(AG,.str t)])->E (.ref C) (some b) a
def xK.go{K:bYT}{Rf:Nat×Nat}{H:Hp}{E:XK}{t:Str}(h:xK K Rf H E t){b:Hp}(k:aKJ Rf.2 H b):xK K Rf b E t:=λC f a c m d e=>h C f a c m (k.trans d) e
def xK.raise{P:cQe}{w:cQm}{K:bYT}{mg:Str->Option bYS}{base:Heap}{k:Nat}{x:Str}{Rf:Nat×Nat}{C:Nat}{H:Hp}{E:XK}{t:Str}(h:xK K Rf H E t)(G:ExG P w K mg base k x Rf.1 C t){D:aJo}{σ:L2.St}:bJo C t E D σ H:=
 λb a=>h C b _ G.cl G.sub (aKJ.of (yG a _)) yB
inductive aV7(K:bYT)(Rf:Nat×Nat)(CB CL:Nat)(vs:List V)(H:Hp)(Q:VK)(E:XK):Prop|mk(ba la sa:Nat)(ls cs:List Nat)(R:Rows)(S:List Int)(m:Int)(_:vs= [.ref ba,.int m])(_:PB CB CL H ba la sa ls cs R S)(_:(∀ (k:Nat)(r:Row)(b:Nat),m=(k:Int)->R[k]? =some r->r.void=false->ls[k]? =some b->Q (.ref b) H))(_:(Bk.wW R m=false->xK K Rf H E "no letter"))
inductive aVs(CB CL:Nat)(vs:List V)(H:Hp)(Q:VK)(_:XK):Prop|mk(ba la sa:Nat)(ls cs:List Nat)(R:Rows)(S:List Int)(i:Nat)(b:Nat)(_:vs= [.ref ba,.ref b])(_:PB CB CL H ba la sa ls cs R S)(_:ls[i]? =some b)(_:R.length<=100)(_:∀l,H l=none->Q (.ref l) (upd H l (.lst ((Bk.z9 R i).map λk=>(ls.map V.ref).getD k .non))))
inductive aWb(K:bYT)(Rf:Nat×Nat)(CB CL:Nat)(vs:List V)(H:Hp)(Q:VK)(E:XK):Prop|mk(ba la sa:Nat)(ls cs:List Nat)(R:Rows)(S:List Int)(m:Int)(_:vs= [.ref ba,.int m])(_:PB CB CL H ba la sa ls cs R S)(_:(∀ (k:Nat)(r:Row)(l:Nat),m=(k:Int)->R[k]? =some r->r.void=false->H l=none->Q (.ref l) (upd H l (.lst (r.copies.map V.str)))))(_:(Bk.wW R m=false->xK K Rf H E "no letter"))
inductive aJg(K:bYT)(Rf:Nat×Nat)(CB CL:Nat)(vs:List V)(H:Hp)(Q:VK)(E:XK):Prop|mk(ba la sa:Nat)(ls cs:List Nat)(R:Rows)(S:List Int)(m:Int)(_:vs= [.ref ba,.int m])(_:PB CB CL H ba la sa ls cs R S)(_:(∀ (k:Nat)(r:Row)(l:Nat),m=(k:Int)->R[k]? =some r->r.void=false->H l=none->Q (.ref l) (upd H l (.tup (stV r)))))(_:(Bk.wW R m=false->xK K Rf H E "no letter"))
section
variable {K:bYT}
abbrev aQN:Stmt:=xI Ah Ab
abbrev aV1:Stmt:=xI Ah Bg
abbrev aQM:Stmt:=xI Ah "copies_of"
abbrev aX1:Stmt:=xI Ah "state_of"
def bVO:yN [A1,AC] [A1,AC] (yH aQN):=scM
def bXo{R:Rows}{m:Int}(h:m<0):Bk.wW R m=false:=by
 unfold Bk.wW;rw[decide_eq_false (by omega),Bool.false_and]
def bXn{R:Rows}{m:Int}(h:(R.length:Int)<=m):Bk.wW R m=false:=by
 unfold Bk.wW;rw[cQs (by omega)];simp
def aZA{R:Rows}{k:Nat}{r:Row}(h:R[k]? =some r):Bk.wW R (k:Int)= !r.void:=by
 unfold Bk.wW;rw[cQt,h];simp
def bVa(T:vK mg)(cl:Cl K CB CL)(a:ExG P w K mg base n "NoLetter" Rf.1 C1 "no letter")(F:Fun K Ab "Book.letter_at" aQN f fd):xE P w K mg base (CXR P w) (n+2) f fd [A1,AC] (aV7 K Rf CB CL):=by
 have y:=bVO;refine F.okX (k:=n+1) y (λv A outer s H I Q E D h=>?_);obtain⟨i,j,J,B,L,R,S,m,rfl,e,q,p⟩:=h;refine⟨_,(yC (y7 (PW.pt (jX (yM vM (pv 1) yE) (jX (yM bKX (pv 1) (yQ yO rfl T.b_len xB (yA (y3 (pv 0) rfl) yD))) (vU (xZ (y3 (yL yK (y3 (pv 0) rfl) (pv 1)) rfl)))))) (yF (wB a D rfl)) yS) (yF (yP (yL yK (y3 (pv 0) rfl) (pv 1))))),?_⟩;obtain⟨g,o⟩:=e.book;have hl:(B.map V.ref).length=R.length:=by rw[bYW];exact e.len
 refine⟨_,rfl,_,_,rfl,rfl,_,rfl,?_⟩;refine qC (λc=>?_) (λc=>?_)
 ·exact onT rfl ((p (bXo (of_decide_eq_true c))).raise a)
 ·have U:¬m<0:=of_decide_eq_false (Bool.eq_false_iff.mpr c);refine⟨_,rfl,_,rfl,i,CB,g,_,_,rfl,o,cl.b,cl.letters,rfl,j,_,rfl,.inl (CV e.lst),_,_,rfl,rfl,_,rfl,?_⟩;rw[hl];refine qC (λc=>?_) (λc=>?_)
  ·exact onT rfl ((p (bXn (of_decide_eq_true c))).raise a)
  ·have O:¬m≥(R.length:Nat):=of_decide_eq_false (Bool.eq_false_iff.mpr c);obtain⟨k,rfl⟩:∃k:Nat,m=(k:Int):=⟨m.toNat,by omega⟩;have x:k<R.length:=by omega
   have d:=bYR x;obtain⟨b,M,t,C,G,⟨r,z⟩,N⟩:=e.get d;refine⟨_,rfl,i,CB,g,_,_,rfl,o,cl.b,cl.letters,rfl,_,rfl,j,_,_,_,rfl,rfl,CV e.lst,yT t,b,CL,r,_,_,rfl,z,cl.l,cl.void,rfl,_,rfl,?_⟩;cases u:R[k].void with
   |true=>exact onT rfl ((p (by rw[aZA d,u];rfl)).raise a)
   |false=>exact onF rfl ⟨_,rfl,i,CB,g,_,_,rfl,o,cl.b,cl.letters,rfl,_,rfl,j,_,_,_,rfl,rfl,CV e.lst,yT t,q k _ b rfl d u C⟩
def aWQ{K:bYT}{a:Nat}{xs:List V}{n:List Nat}{k:TT}{q:TE}{σ:L2.St}{D:Nat}{Q:VK}{H:Hp}(p:Nat->Bool)(f:Nat->V)(hl:SqL K H a xs)(s:H D=none)(hz:xs.length<=cQk) (A:∀i v,xs[i]? =some v->∀ (c:Hp)(R:Bool->Hp->Prop),(∀b,b≠D->c b=H b)->R (p i) c->k (sub σ n (some v)) c R) (B:∀i v,xs[i]? =some v->p i=true->∀ (c:Hp)(R:VK),(∀b,b≠D->c b=H b)->R (f i) c->q (sub σ n (some v)) c R) (x:Q (.ref D) (upd H D (.lst (((bY5 xs.length).filter p).map f)))):bWi (Itl K a) n k q σ D Q (upd H D (.lst [])):=by
 have d:∀g,SqL K (upd H D (.lst g)) a xs:=λg=>by
  rcases hl with(h|⟨o,h⟩)|h
  ·exact .inl (.inl (by rw[yI (yJ h s)];exact h))
  ·exact .inl (.inr ⟨o,by rw[yI (yJ h s)];exact h⟩)
  ·exact .inr h
 refine⟨λi m g c=>m=xs.length - i/\i<=xs.length/\g=((bY5 i).filter p).map f/\c=upd H D (.lst g),⟨xs.length,by simp,cQQ _,by simp,rfl⟩,?_⟩;rintro i m g c ⟨rfl,C,rfl,rfl⟩;refine⟨yB,?_⟩;by_cases e:i<xs.length
 ·refine .inr ⟨⟨xs,xs[i],d _,bYR e⟩,λv E u=>?_⟩;obtain⟨rfl,y⟩:=u;have t:xs[i]? =some v:=y xs (d _);have l:∀b,b≠D->upd H D (.lst (((bY5 i).filter p).map f)) b=H b:=λb z=>yI z;have j:(((bY5 i).filter p).map f).length<cQk:=by
   rw[bYW];have w:=cQS p (bY5 i);rw[cQL]at w;omega
  refine A i v t _ _ l ?_;cases r:p i with
  |false=>show ∃F,_;refine⟨xs.length - (i+1),by omega,rfl,e,?_,rfl⟩;rw[cZi,cQ3,cXy (by rw[r];decide)];simp
  |true=>show q _ _ _;refine B i v t r _ _ l ⟨j,yB,xs.length - (i+1),by omega,rfl,e,?_,by rw[jE]⟩;rw[cZi,cQ3,cXz r];simp
 ·obtain rfl:i=xs.length:=by omega
  exact .inl ⟨⟨xs,d _,bYZ _⟩,x⟩
def bZo:yN [A1,AL] [A1,AL] (yH aV1):=scM
def bXx:xN [A1,AL] (yH aV1) BX [AL] [1] (lsN [(".0",.local),(BX,.local),(AL,.free)]):=
 lcM
def bXN(cl:Cl K CB CL)(a:MG P w K mg base CX0 n CL Bd [A1,BX] (bQJ CL))(F:Fun K Bg "Book.answers_to" aV1 f fd):xE P w K mg base CX0 (n+1) f fd [A1,AL] (aVs CB CL):=by
 have J:=bZo;refine F.ok (k:=n) J (λB A outer s H vs Q E U h=>?_);obtain⟨I,L,sa,u,cs,R,S,i,b,rfl,d,y,hR,q⟩:=h;refine⟨_,(yF (yP (aQG bXx rfl (xL (y3 (pv 0) rfl)) (λ_ _ _ _ _=>(w8 (xZ (v5 a U v1 (pv 1) (yA (pv 0) yD))))) (λ_ _ _ _ _=>(pv 0))))),?_⟩;obtain⟨G,T⟩:=d.book;have hl:(u.map V.ref).length=R.length:=by rw[bYW];exact d.len
 have t:i<R.length:=by rw[<- d.len];exact(bY3.mp y).1
 obtain⟨O,cc,g1,N,g3,⟨l,m⟩,g5⟩:=d.get (bYR t);obtain rfl:b=O:=cQd (y.symm.trans N);refine⟨_,rfl,I,CB,G,_,_,rfl,T,cl.b,cl.letters,rfl,L,rfl,⟨_,CV d.lst⟩,λD g=>?_⟩;refine aWQ (λk=>decide (Bk.lk R k=some i)) (λk=>(u.map V.ref).getD k .non) (CV d.lst) g (zn (by omega)) (λj v p X M o c=>?_) (λj v p _ X M o c=>?_) ?_
 ·have C:j<R.length:=by rw[<- hl];exact(bY3.mp p).1
  have e:=bYR C;obtain⟨z,Z,W,k2,Y,⟨r,x⟩,k5⟩:=d.get e;obtain rfl:v= .ref z:=cQd (p.symm.trans W);rw[Bk.uB e]at c;exact⟨_,rfl,b,l,_,rfl,(o _ (yJ m g)).trans m,rfl,_,rfl,b,z,i,j,_,_,_,_,rfl,⟨l,(o _ (yJ m g)).trans m⟩,⟨r,(o _ (yJ x g)).trans x⟩,_,rfl,c⟩
 ·have:(u.map V.ref).getD j .non=v:=by simp only[cQC,p];rfl
  rw[this]at c;exact⟨_,rfl,c⟩
 ·rw[hl];exact q D g
def aVl:yN [A1,AC] [A1,AC] (yH aQM):=scM
def aJT(T:vK mg)(cl:Cl K CB CL)(a:MG P w K mg base (CXR P w) n CB Ab [A1,AC] (aV7 K Rf CB CL))(F:Fun K "copies_of" "Book.copies_of" aQM f fd):xE P w K mg base (CXR P w) (n+1) f fd [A1,AC] (aWb K Rf CB CL):=by
 have p:=aVl;refine F.okX (k:=n) p (λj A outer s H O Q E J h=>?_);obtain⟨i,v,x,B,y,R,S,m,rfl,c,q,M⟩:=h;refine⟨_,(yF (yP (x5 uT rfl T.b_list z6 (yA (y3 (v5 a J zZ (pv 0) (yA (pv 1) yD)) rfl) yD)))),?_⟩;obtain⟨o,I⟩:=c.book;refine⟨_,rfl,i,o,_,rfl,I,rfl,_,rfl,i,v,x,B,y,R,S,m,rfl,c,λk r b u g L d=>?_,M⟩;obtain⟨G,z,U,D,N,⟨e,t⟩,C⟩:=c.get g;obtain rfl:b=G:=cQd (d.symm.trans D);refine⟨b,CL,e,_,_,rfl,t,cl.l,cl.copies,rfl,?_⟩;exact⟨z,_,rfl,.inl (CV C),λl hl=>q k r l u g L hl⟩
def aKy:yN [A1,AC] [A1,AC] (yH aX1):=scM
def aKd(cl:Cl K CB CL)(a:MG P w K mg base (CXR P w) n CB Ab [A1,AC] (aV7 K Rf CB CL))(c:MG P w K mg base CX0 n CL BW [A1] (aVv CL))(F:Fun K "state_of" "Book.state_of" aX1 f fd): xE P w K mg base (CXR P w) (n+1) f fd [A1,AC] (aJg K Rf CB CL):=by
 have v:=aKy;refine F.okX (k:=n) v (λp A outer s H T Q E o h=>?_);obtain⟨j,y,z,D,B,R,S,m,rfl,e,q,M⟩:=h;refine⟨_,(yF (yP (bZb c o v1 (v5 a o zZ (pv 0) (yA (pv 1) yD))))),?_⟩;obtain⟨u,J⟩:=e.book;refine⟨_,rfl,j,u,_,rfl,J,rfl,_,rfl,j,y,z,D,B,R,S,m,rfl,e,λk r b x i L g=>?_,M⟩;obtain⟨I,C,V,G,O,⟨d,l⟩,U⟩:=e.get i;obtain rfl:b=I:=cQd (g.symm.trans G);exact⟨b,d,_,rfl,l,rfl,b,k,r,C,rfl,⟨d,l⟩,λt N=>q k r t x i L N⟩
end
end Desk
namespace Desk
open PySem L2 PyProof.Rows
open Bk (Row Rows)
open Law (aKI qA Y4 bX8 aXt aQ6)
def Z8(R:Rows)(w:Str):List Nat:=(bY5 R.length).filter λk=>match R[k]? with|some r=> !r.void && decide (r.place=w)|none=>false
inductive aQ2(CB CL:Nat)(vs:List V)(H:Hp)(Q:VK)(_:XK):Prop|mk(ba la sa:Nat)(ls cs:List Nat)(R:Rows)(S:List Int)(w:Str)(_:vs= [.ref ba,.str w])(_:PB CB CL H ba la sa ls cs R S)(_:R.length<64)(_:∀l,H l=none->Q (.ref l) (upd H l (.lst ((Z8 R w).map λi=>V.int (i:Nat)))))
def bJB(R:Rows)(n:Nat)(d:Int)(a:List (Key×V)):Prop:=∀j:Nat,(aQe a (Sum.inl (j:Int))).isSome=true↔∃k,k<n/\Bk.lk R k=some j/\Bk.dt R k<=d
inductive aXw(CB CL:Nat)(vs:List V)(H:Hp)(Q:VK)(_:XK):Prop|mk(ba la sa:Nat)(ls cs:List Nat)(R:Rows)(S:List Int)(d:Int)(_:vs= [.ref ba,.int d])(_:PB CB CL H ba la sa ls cs R S)(_:R.length<64)(_:∀ (a:Nat)(H':Hp)(kvs:List (Key×V)),xC H H'->H a=none->H' a=some (.dK kvs)->bJB R R.length d kvs->Q (.ref a) H')
inductive aVu(CB CL:Nat)(vs:List V)(H:Hp)(Q:VK)(_:XK):Prop|mk(ba la sa:Nat)(ls cs:List Nat)(R:Rows)(S:List Int)(d:Int)(_:vs= [.ref ba,.int d])(_:PB CB CL H ba la sa ls cs R S)(_:R.length<64)(_:S.length<64)(_:∀ (l:Nat)(H':Hp)(ks:List Nat)(ps:List V),xC H H'->H l=none->H' l=some (.lst ps)->cQH (aKI H' (qA R S)) ks ps->Bk.aKM R S d false ks->Q (.ref l) H')
inductive bKF(CB CL:Nat)(late:Bool)(vs:List V)(H:Hp)(Q:VK)(_:XK):Prop|mk(ba la sa:Nat)(ls cs:List Nat)(R:Rows)(S:List Int)(d:Int)(_:vs= [.ref ba,.int d])(_:PB CB CL H ba la sa ls cs R S)(_:R.length<64)(_:S.length<64)(_:∀ (l:Nat)(H':Hp)(ks:List Nat),xC H H'->H l=none->H' l=some (.lst (ks.map λi=>V.int (i:Nat)))->Bk.aKM R S d late ks->Q (.ref l) H')
def aQE{X:Cx}{K:bYT}{e:Expr}{f:Str}{pos:Pos}{a:TE}(c:PE X e a)(b:cZG e f X.env (eval e X.env)=eval e X.env)(d:X.K=K:=by rfl):PE X (.Attribute e f pos) (bYp K a f):=d ▸ y3 c b
section
variable {K:bYT}
abbrev jQ:Stmt:=xI Ah CM
abbrev aQL:Stmt:=xI Ah C9
abbrev bQh:Stmt:=xI Ah BC
abbrev aQa:Stmt:=xI Ah AS
abbrev Q9:Stmt:=xI Ah AT
def aZ7:yN [A1,Bh] [A1,Bh] (yH jQ):=scM
def aZJ:xN [A1,Bh] (yH jQ) AL [Bh] [1] (lsN [(".0",.local),(AL,.local),(Bh,.free)]):=
 lcM
def bJO{r:Row}{w:Str}:decide (X3 r=V.str w)=(!r.void && decide (r.place=w)):=by
 unfold X3;cases r.void with
 |true=>rfl
 |false=>show decide (V.str r.place=V.str w)=(true && decide (r.place=w));rw[Bool.true_and,Bool.eq_iff_iff];simp
def aZS(cl:Cl K CB CL)(F:Fun K CM "Book.letters_in" jQ f fd):xE P w K mg base CX0 (n+1) f fd [A1,Bh] (aQ2 CB CL):=by
 have C:=aZ7;refine F.ok (k:=n) C (λx A outer s H U Q E Y h=>?_);obtain⟨z,I,W,L,X,R,S,w,rfl,d,hR,q⟩:=h;refine⟨_,(yF (yP (aQG aZJ rfl (xL (y3 (pv 0) rfl)) (λ_ _ _ _ _=>(w8 (yM zI (aQE (K:=K) (pv 0) rfl) (pv 1)))) (λ_ _ _ _ _=>(aQE (K:=K) (pv 0) rfl))))),?_⟩;obtain⟨y,N⟩:=d.book;have hl:(L.map V.ref).length=R.length:=by rw[bYW];exact d.len
 refine⟨_,rfl,z,CB,y,_,_,rfl,N,cl.b,cl.letters,rfl,I,rfl,⟨_,CV d.lst⟩,λD o=>?_⟩;refine aWQ (λk=>match R[k]? with|some r=> !r.void && decide (r.place=w)|none=>false) (λk=>V.int (k:Nat)) (CV d.lst) o (zn (by omega)) (λj v m O J t a=>?_) (λj v m _ O J t a=>?_) ?_
 ·have p:j<R.length:=by rw[<- hl];exact(bY3.mp m).1
  have i:=bYR p;obtain⟨g,T,u,G,B,⟨c,e⟩,M⟩:=d.get i;obtain rfl:v= .ref g:=cQd (m.symm.trans u);rw[i]at a;dsimp only at a;rw[<- bJO]at a;refine⟨_,rfl,g,CL,c,_,_,rfl,(t _ (yJ e o)).trans e,cl.l,cl.file,rfl,_,rfl,?_,_,rfl,a⟩;unfold X3;cases R[j].void<;> rfl
 ·have p:j<R.length:=by rw[<- hl];exact(bY3.mp m).1
  obtain⟨g,T,u,G,B,⟨c,e⟩,M⟩:=d.get (bYR p);obtain rfl:v= .ref g:=cQd (m.symm.trans u);exact⟨_,rfl,g,CL,c,_,_,rfl,(t _ (yJ e o)).trans e,cl.l,cl.number,rfl,a⟩
 ·rw[hl];exact q D o
def aVk:yN [A1,AZ,B2,AL] [A1,AZ] (yH aQL):=scM
def aZk{R:Rows}{t:Nat}{d:Int}{a:List (Key×V)}(h:bJB R t d a)(f:∀j,Bk.lk R t=some j->¬Bk.dt R t<=d):bJB R (t+1) d a:=λj=>by
 rw[h j];constructor
 ·rintro⟨k,g,b⟩;exact⟨k,by omega,b⟩
 ·rintro⟨k,g,b,c⟩;by_cases e:k=t
  ·subst e;exact absurd c (f j b)
  ·exact⟨k,by omega,b,c⟩
def bQ6{R:Rows}{t:Nat}{d:Int}{b:List (Key×V)}(h:bJB R t d b){i:Nat}(hl:Bk.lk R t=some i)(f:Bk.dt R t<=d){v:V}:bJB R (t+1) d (aJ4 b (Sum.inl (i:Int)) v):=λj=>by
 rw[bZ0];by_cases e:j=i
 ·subst e;rw[if_pos rfl];exact⟨λ_=>⟨t,by omega,hl,f⟩,λ_=>rfl⟩
 ·rw[if_neg (λz=>e (by have:=Sum.inl.inj z;omega)),h j];constructor
  ·rintro⟨k,g,a⟩;exact⟨k,by omega,a⟩
  ·rintro⟨k,g,a,l⟩;by_cases c:k=t
   ·subst c;rw[hl]at a;exact absurd (cQd a).symm e
   ·exact⟨k,by omega,a,l⟩
def aJS(cl:Cl K CB CL)(F:Fun K C9 "Book.answered_by" aQL f fd):xE P w K mg base CX0 (n+1) f fd [A1,AZ] (aXw CB CL):=by
 have Z:=aVk;refine F.ok (k:=n) Z (λX A outer s H vs Q E hr h=>?_);obtain⟨T,la,sa,U,cs,R,S,d,rfl,B,hR,q⟩:=h;refine⟨_,(yC (yU (i:=2) bZa) (yC (zT cQG rfl (xL (y3 (pv 0) rfl)) (y9 (i:=3)) (yF (y7 (PW.pt (vT (yM wA (y3 (pv 3) rfl) x6) (wR (yM aYS (y3 (pv 3) rfl) (pv 1))))) (yF (bVw (bWG hr) (pv 2) (y3 (pv 3) rfl) wQ rfl)) yS))) (yF (yP (pv 2))))),?_⟩;obtain⟨Y,hb⟩:=B.book;have hl:(U.map V.ref).length=R.length:=by rw[bYW];exact B.len
 intro a J;dsimp only[yW];have L:=yG J (.dK []);refine⟨_,rfl,T,CB,Y,_,_,rfl,L _ _ hb,cl.b,cl.letters,rfl,la,rfl,⟨_,CV (L _ _ B.lst)⟩,?_⟩;refine zJ (xs:=U.map V.ref) (λt σ p=>∃ (e:List (Key×V))(o:Option V),σ= [some (.ref T),some (.int d),some (.ref a),o]/\xC H p/\p a=some (.dK e)/\e.length<=t/\bJB R t d e) ?_ ?_ ?_ ?_
 ·exact⟨[],none,rfl,L,yB,cQQ _,λj=>⟨λz=>(by cases z),λ⟨k,z,_⟩=>absurd z (cXE _)⟩⟩
 ·rintro t σ p W ⟨e,o,rfl,g,y,M,r⟩;exact CV (g _ _ B.lst)
 ·rintro t x σ p O ⟨e,o,rfl,g,y,M,r⟩;have W:t<R.length:=by rw[<- hl];exact(bY3.mp O).1
  have u:=bYR W;obtain⟨b,c,g1,g2,g3,⟨v,I⟩,g5⟩:=(B.same g).get u;obtain rfl:x= .ref b:=cQd (O.symm.trans g1);dsimp only[yW];refine⟨_,rfl,b,CL,v,_,_,rfl,I,cl.l,cl.link,rfl,rfl,_,rfl,?_⟩;have C:=Bk.uB u;have D:=Bk.vL u;cases m:R[t].link with
  |none=>exact onF rfl (onF rfl ⟨e,_,rfl,g,y,by omega,aZk r λj G=>by rw[C,m]at G;cases G⟩)
  |some i=>
   refine onT rfl ⟨_,rfl,b,CL,v,_,_,rfl,I,cl.l,cl.day,rfl,_,rfl,_,_,rfl,rfl,_,rfl,?_⟩;cases N:decide (R[t].date<=d)with
   |false=>exact onF rfl ⟨e,_,rfl,g,y,by omega,aZk r λj G=>by rw[D];exact of_decide_eq_false N⟩
   |true=>
    refine onT rfl ⟨_,rfl,_,rfl,b,CL,v,_,_,rfl,I,cl.l,cl.link,rfl,a,upd p a (.dK (aJ4 e (Sum.inl (i:Int)) (.bl true))),rfl,?_,?_⟩
    ·rw[m];exact bWo.k (k:=Sum.inl (i:Int)) y (by rw[cQr];omega)
    refine⟨_,_,rfl,?_,yB,cQv (qJ _ _ _) (by omega),bQ6 r (by rw[C,m]) (by rw[D];exact of_decide_eq_true N)⟩;exact aQ6 g J
 ·rintro σ p ⟨e,o,rfl,g,y,M,r⟩;rw[hl]at r;exact⟨_,rfl,q a p e g J y r⟩
def bZ1{R:Rows}{i:Nat}{r:Row}{d:Int}{a:List (Key×V)}(l:R[i]? =some r)(j:bJB R R.length d a): Bk.Q2 R i d=(decide (Q1 r > 0) && (decide (r.date<=d) && !(aQe a (Sum.inl (i:Int))).isSome)):=by
 have g:((Bk.z9 R i).all λk=>decide (d<Bk.dt R k))= !(aQe a (Sum.inl (i:Int))).isSome:=by
  rw[Bool.eq_iff_iff,cZ1,Bool.not_eq_true',Bool.eq_false_iff,ne_eq,j i];constructor
  ·rintro h ⟨k,c,b,m⟩;have:=of_decide_eq_true (h k (cQ0.mpr ⟨cQu.mpr c,decide_eq_true b⟩));omega
  ·intro h k f;obtain⟨c,b⟩:=cQ0.mp f;refine decide_eq_true ?_;by_cases z:Bk.dt R k<=d
   ·exact absurd ⟨k,cQu.mp c,of_decide_eq_true b,z⟩ h
   ·omega
 unfold Bk.Q2;rw[l];dsimp only;rw[g];unfold Q1;cases r.void with
 |true=>rfl
 |false=>
  rw[if_neg (by decide)];have e:decide (1<=r.term)=decide (r.term > 0):=by rw[Bool.eq_iff_iff];simp;omega
  rw[e];simp[Bool.and_assoc]
def bZy:yN [A1,AZ,B2,"pairs",AL] [A1,AZ] (yH bQh):=scM
def bXX(T:vK mg)(cl:Cl K CB CL)(j:MG P w K mg base CX0 n CB C9 [A1,AZ] (aXw CB CL))(r:FnG P w K mg base n CQ [Ag,Am,AU] (Days.bKl K)) (F:Fun K BC "Book.waiting_pairs" bQh f fd):xE P w K mg base CX0 (n+1) f fd [A1,AZ] (aVu CB CL):=by
 have sc:=bZy;refine F.ok (k:=n) sc (λc3 A outer s H vs Q E hr h=>?_);obtain⟨W,la,sa,ls,cs,R,S,d,rfl,hB,hR,hS,q⟩:=h;refine⟨_,(yC (yU (i:=2) (v5 j hr v1 (pv 0) (yA (pv 1) yD))) (yC (yU (i:=3) (y6 yD)) (yC (zT cQG rfl (xL (y3 (pv 0) rfl)) (y9 (i:=4)) (yF (y7 (PW.pt (vT (yM aXh (y3 (pv 4) rfl) yE) (vT (yM aYS (y3 (pv 4) rfl) (pv 1)) (wR (bW6 (aYV (bWG hr) (y3 (pv 4) rfl) (pv 2))))))) (yF (yY (vN cQh cQo cQp xD (pv 3) (yA (xG (yA (xJ r hr rfl (yA (y3 (pv 0) rfl) (yA (y3 (pv 4) rfl) (yA (y3 (pv 4) rfl) yD)))) (yA (y3 (pv 4) rfl) yD))) yD)))) yS))) (yF (yP (yQ uL rfl T.b_sorted vB (yA (pv 3) yD))))))),?_⟩;obtain⟨dx,hb⟩:=hB.book;have hl:(ls.map V.ref).length=R.length:=by rw[bYW];exact hB.len
 refine⟨_,rfl,W,dx,_,rfl,hb,rfl,_,rfl,W,la,sa,ls,cs,R,S,d,rfl,hB,hR,λa H0 b9 Y c1 a4 hA=>?_⟩;dsimp only[yW];refine⟨z0,λy G=>?_⟩;dsimp only[yW];have k1:xC H (upd H0 y (.lst [])):=Y.trans (yG G _);have c0:H y=none:=Y.fresh G;refine⟨_,rfl,W,CB,dx,_,_,rfl,k1 _ _ hb,cl.b,cl.letters,rfl,la,rfl,⟨_,CV (k1 _ _ hB.lst)⟩,?_⟩;have c2:a≠y:=yJ a4 G;refine zJ (xs:=ls.map V.ref) (λt σ I=>∃ (g:List V)(o:Option V),σ= [some (.ref W),some (.int d),some (.ref a),some (.ref y),o]/\xC H0 I/\I y=some (.lst g)/\
  cQH (aKI I (qA R S)) ((bY5 t).filter (Y4 R S d false)) g) ?_ ?_ ?_ ?_
 ·exact⟨[],none,rfl,yG G _,yB,.nil⟩
 ·rintro t σ I ht ⟨g,o,rfl,N,L,J⟩;exact CV (N _ _ (Y _ _ hB.lst))
 ·rintro t x σ I hx ⟨g,o,rfl,N,L,J⟩;have ht:t<R.length:=by rw[<- hl];exact(bY3.mp hx).1
  have M:=bYR ht;have O:=(hB.same Y).same N;obtain⟨b3,b8⟩:=O.book;obtain⟨b,c,g1,g2,g3,⟨v,g4⟩,g5⟩:=O.get M;obtain rfl:x= .ref b:=cQd (hx.symm.trans g1);rw[cZi,cQ3];dsimp only[yW];have hw:=bZ1 M hA;have u:Y4 R S d false t=Bk.Q2 R t d:=by unfold Y4;simp
  have stay:∀o',Y4 R S d false t=false->∃ (g:List V)(p:Option V),[some (V.ref W),some (V.int d),some (V.ref a),some (V.ref y),o']= [some (.ref W),some (.int d),some (.ref a),some (.ref y),p]/\xC H0 I/\I y=some (.lst g)/\
    cQH (aKI I (qA R S)) ((bY5 t).filter (Y4 R S d false)++ [t].filter (Y4 R S d false)) g:=λo' e=>by
   have e3: [t].filter (Y4 R S d false)= []:=by simp[e]
   rw[e3,cQV]
   exact⟨g,o',rfl,N,L,J⟩
  refine⟨_,rfl,b,CL,v,_,_,rfl,g4,cl.l,cl.term,rfl,_,_,rfl,rfl,_,rfl,?_⟩;cases h1:decide (Q1 R[t] > 0)with
  |false=>exact onF rfl (onF rfl (stay _ (by rw[u,hw,h1];rfl)))
  |true=>
   refine onT rfl ⟨_,rfl,b,CL,v,_,_,rfl,g4,cl.l,cl.day,rfl,_,rfl,_,_,rfl,rfl,_,rfl,?_⟩;cases h2:decide (R[t].date<=d)with
   |false=>exact onF rfl (onF rfl (stay _ (by rw[u,hw,h1,h2];rfl)))
   |true=>
    refine onT rfl ⟨_,rfl,b,CL,v,_,_,rfl,g4,cl.l,cl.number,rfl,_,rfl,a,_,rfl,bWn.k (k:=Sum.inl (t:Int)) (N _ _ a4),_,rfl,?_⟩;cases h3:(aQe b9 (Sum.inl (t:Int))).isSome with
    |true=>exact onF rfl (stay _ (by rw[u,hw,h1,h2,h3];rfl))
    |false=>
     have a2:Bk.Q2 R t d=true:=by rw[hw,h1,h2,h3];rfl
     have b4:=Law.aXA ht a2;have hv:R[t].void=false:=by
      cases hv:R[t].void with
      |false=>rfl
      |true=>have:=of_decide_eq_true h1;unfold Q1 at this;rw[hv]at this;simp at this
     have a0:Q1 R[t]=R[t].term:=by unfold Q1;rw[hv];rfl
     refine onT rfl ⟨_,rfl,.inl ⟨rfl,_,CV L⟩,_,rfl,W,CB,b3,_,_,rfl,b8,cl.b,cl.shut,rfl,_,rfl,b,CL,v,_,_,rfl,g4,cl.l,cl.day,rfl,_,rfl,b,CL,v,_,_,rfl,g4,cl.l,cl.term,rfl,?_⟩;refine⟨sa,S,_,_,rfl,CV O.sht,hS,by rw[a0];exact b4,λH2 D U hD=>?_⟩;have eD:D=qA R S t:=by unfold qA;rw[M,Bk.vL M];rw[a0]at hD;exact(Bk.bZ9 hD).symm
     subst eD;refine⟨_,rfl,b,CL,v,_,_,rfl,U _ _ g4,cl.l,cl.number,rfl,z2,λZ b6=>?_⟩;have b7:=U _ _ L;have k5:=yG b6 (.tup [V.int (qA R S t),V.int (t:Nat)]);have a5:=k5 _ _ b7;have il:g.length<=t:=by rw[<- J.length];exact cQv (cQS _ _) (by simp)
     have t6:∀a xs,upd H2 Z (.tup [V.int (qA R S t),V.int (t:Nat)]) a=some (.tup xs)->upd (upd H2 Z (.tup [V.int (qA R S t),V.int (t:Nat)])) y (.lst (g++ [V.ref Z])) a=some (.tup xs):=λa xs e=>by rw[yI (aXd e a5 (by intro z;cases z))];exact e
     have e3: [t].filter (Y4 R S d false)= [t]:=by simp[u,a2]
     refine⟨y,g,.ref Z,rfl,rfl,a5,zlt (by omega),g++ [.ref Z],_,rfl,aQ6 (N.trans (U.trans k5)) G,yB,?_⟩;rw[e3];exact aXt ⟨Z,rfl,t6 _ _ yB⟩ (Paired.mapP J λ_ _ z=>z.tk λa xs e=>t6 _ _ (k5 _ _ (U _ _ e)))
 ·rintro σ I ⟨g,o,rfl,N,L,J⟩;rw[hl]at J;generalize B:(bY5 R.length).filter (Y4 R S d false)=fam at J;have a7:fam.length=g.length:=J.length;have fn:fam.length<=R.length:=by rw[<- B];exact cQv (cQS _ _) (by simp)
  have a8:∀k,k∈fam↔k<R.length/\Y4 R S d false k=true:=λk=>by rw[<- B,cQ0,cQu]
  have b2:fam.Nodup:=by rw[<- B];exact cZ3.sublist cXU
  refine⟨_,rfl,y,g,λm=>(qA R S (fam.getD m 0),((fam.getD m 0:Nat):Int)),rfl,L,by omega,λa b ha hb e=>?_,λm x hx=>?_,λl out a6 a3 b0=>?_⟩
  ·have X:fam.getD a 0=fam.getD b 0:=by have:=congrArg Prod.snd e;simp only at this;omega
   have a9:a<fam.length:=by omega
   have a1:b<fam.length:=by omega
   simp[cQC,bYR a9,bYR a1]at X;exact(cXH (h₀:=a9) (h₁:=a1) b2).mp X
  ·obtain⟨k,hk,p,L,X⟩:=bX8 J hx;have:fam.getD m 0=k:=by simp[cQC,hk]
   show ∃a,x=V.ref a/\I a=some (.tup [V.int (qA R S (fam.getD m 0)),V.int ((fam.getD m 0:Nat):Int)]);rw[this];exact⟨p,L,X⟩
  ·have hm:∀m∈out,m<g.length:=λm hm=>cQu.mp (a3.mem_iff.mp hm);have U:=yG a6 (.lst (out.map λi=>g.getD i .non));refine q l _ (out.map λm=>fam.getD m 0) _ (Y.trans (N.trans U)) ((Y.trans N).fresh a6) yB ?_ ⟨λk=>?_,?_⟩
   ·have go:∀o:List Nat,(∀m∈o,m<g.length)->cQH (aKI (upd I l (.lst (out.map λi=>g.getD i .non))) (qA R S)) (o.map λm=>fam.getD m 0) (o.map λi=>g.getD i .non):=by
     intro o;induction o with
     |nil=>intro _;exact .nil
     |cons m o ih=>
      intro h;refine .cons ?_ (ih λx hx=>h x (bY4 _ hx));have C:=h m bY7;have hg:g[m]? =some (g.getD m .non):=by simp[cQC,bYR C]
      obtain⟨k,hk,p,L,X⟩:=bX8 J hg;have:fam.getD m 0=k:=by simp[cQC,hk]
      show aKI _ _ (fam.getD m 0) (g.getD m .non);rw[this];exact⟨p,L,U _ _ X⟩
    exact go out hm
   ·have b5:k∈out.map (λm=>fam.getD m 0)↔k∈fam:=by
     constructor
     ·intro h;obtain⟨m,b1,rfl⟩:=cQX.mp h;have C:m<fam.length:=by rw[a7];exact hm m b1
      simp[cQC,bYR C]
     ·intro h;obtain⟨m,C,e⟩:=cQJ h;refine cQX.mpr ⟨m,a3.mem_iff.mpr (cQu.mpr (by omega)),?_⟩;simp[cQC,bYR C,e]
    rw[b5,a8 k];unfold Y4;simp
   ·rw[cJn];exact b0
def aZF{α:Type}(a:List Nat)(g:Nat->Bool)(h:Nat->α):((bY5 a.length).filter λm=>g (a.getD m 0)).map (λm=>h (a.getD m 0))=(a.filter g).map h:=by
 have e:(bY5 a.length).map (λm=>a.getD m 0)=a:=by
  apply cZa;intro i;rw[cQc];by_cases b:i<a.length
  ·rw[cXV b];simp[bYR b]
  ·rw[cQs (by simpa using b),cQs (by omega)];rfl
 conv=>rhs;rw[<- e,List.filter_map,cX4]
 rfl
def aKz:yN [A1,AZ] [A1,AZ] (yH aQa):=scM
def aWS:xN [A1,AZ] (yH aQa) "pair" [] [] (lsN [(".0",.local),("pair",.local)]):=
 lcM
def aKe(cl:Cl K CB CL)(a:MG P w K mg base CX0 n CB BC [A1,AZ] (aVu CB CL))(F:Fun K AS "Book.waiting" aQa f fd):xE P w K mg base CX0 (n+1) f fd [A1,AZ] (bKF CB CL false):=by
 have X:=aKz;refine F.ok (k:=n) X (λN A outer s H vs Q E hr h=>?_);obtain⟨B,Y,Z,ls,cs,R,S,d,rfl,C,hR,hS,q⟩:=h;refine⟨_,(yF (yP (aQG aWS rfl (xL (v5 a hr v1 (pv 0) (yA (pv 1) yD))) (λ_ _ _ _ _=>wK) (λ_ _ _ _ _=>(yL ixT (pv 0) yE))))),?_⟩;obtain⟨W,hb⟩:=C.book;refine⟨_,rfl,B,W,_,rfl,hb,rfl,_,rfl,B,Y,Z,ls,cs,R,S,d,rfl,C,hR,hS,λl H1 g O J T o I c=>?_⟩;have r:g.length=O.length:=I.length;have a0:g.length<=R.length:=Fm.wP (c.ord.imp λ{x y} e z=>by rw[z,Stree.wZ]at e;cases e) λx U=>((c.mem x).mp U).1;refine⟨l,rfl,⟨_,CV o⟩,λD t=>?_⟩;refine aWQ (λ_=>true) (λm=>V.int (g.getD m 0:Nat)) (CV o) t (zn (by omega)) (λj v L H' R' G b=>b) (λj v L _ H' R' G b=>?_) ?_
 ·obtain⟨k,M,p,e1,u⟩:=bX8 I L;subst e1;have:g.getD j 0=k:=by simp[cQC,M]
  rw[this]at b;exact⟨_,rfl,p,_,1,_,rfl,rfl,CW ((G p (yJ u t)).trans u),rfl,b⟩
 ·have e:=aZF g (λ_=>true) λi=>V.int (i:Nat);rw[r]at e;rw[e,cZD.mpr λ_ _=>rfl];exact q D _ g (J.trans (yG t _)) (J.fresh t) yB c
def aKv:yN [A1,AZ] [A1,AZ] (yH Q9):=scM
def aWR:xN [A1,AZ] (yH Q9) "pair" [AZ] [1] (lsN [(".0",.local),("pair",.local),(AZ,.free)]):=
 lcM
def aKa(cl:Cl K CB CL)(g:MG P w K mg base CX0 n CB BC [A1,AZ] (aVu CB CL))(F:Fun K AT "Book.overdue" Q9 f fd):xE P w K mg base CX0 (n+1) f fd [A1,AZ] (bKF CB CL true):=by
 have sc:=aKv;refine F.ok (k:=n) sc (λW A outer s H vs Q E hr h=>?_);obtain⟨O,la,sa,ls,cs,R,S,d,rfl,T,hR,hS,q⟩:=h;refine⟨_,(yF (yP (aQG aWR rfl (xL (v5 g hr v1 (pv 0) (yA (pv 1) yD))) (λ_ _ _ _ _=>(w8 (yM vM (yL ixT (pv 0) yE) (pv 1)))) (λ_ _ _ _ _=>(yL ixT (pv 0) yE))))),?_⟩;obtain⟨dx,hb⟩:=T.book;refine⟨_,rfl,O,dx,_,rfl,hb,rfl,_,rfl,O,la,sa,ls,cs,R,S,d,rfl,T,hR,hS,λl H1 t X U Y B L r=>?_⟩;have C:t.length=X.length:=L.length;have a0:t.length<=R.length:=Fm.wP (r.ord.imp λ{x y} e z=>by rw[z,Stree.wZ]at e;cases e) λx Z=>((r.mem x).mp Z).1;refine⟨l,rfl,⟨_,CV B⟩,λD G=>?_⟩;refine aWQ (λm=>decide (qA R S (t.getD m 0)<d)) (λm=>V.int (t.getD m 0:Nat)) (CV B) G (zn (by omega)) (λj v N H' R' J o=>?_) (λj v N _ H' R' J o=>?_) ?_
 ·obtain⟨k,I,p,M,u⟩:=bX8 L N;subst M;have:t.getD j 0=k:=by simp[cQC,I]
  rw[this]at o;exact⟨_,rfl,p,_,0,_,rfl,rfl,CW ((J p (yJ u G)).trans u),rfl,_,rfl,_,_,rfl,rfl,_,rfl,o⟩
 ·obtain⟨k,I,p,M,u⟩:=bX8 L N;subst M;have:t.getD j 0=k:=by simp[cQC,I]
  rw[this]at o;exact⟨_,rfl,p,_,1,_,rfl,rfl,CW ((J p (yJ u G)).trans u),rfl,o⟩
 ·have e:=aZF t (λk=>decide (qA R S k<d)) λi=>V.int (i:Nat);rw[C]at e;rw[e];refine q D _ (t.filter λk=>decide (qA R S k<d)) (U.trans (yG G _)) (U.fresh G) yB ⟨λk=>?_,r.ord.sublist cXU⟩;rw[cQ0,r.mem k,decide_eq_true_eq];unfold qA;constructor
  ·rintro⟨⟨a,b,_⟩,c⟩;exact⟨a,b,λ_=>c⟩
  ·rintro⟨a,b,c⟩;exact⟨⟨a,b,λz=>by cases z⟩,c rfl⟩
end
end Desk
namespace Desk
open PySem L2 PyProof.Rows
open Bk (Row Rows)
def own(la sa:Nat)(ls cs:List Nat):List Nat:=la::sa::(ls++cs)
def Y7(o:List Nat)(H c:Hp):Prop:=∀b u,b∉o->(∀a,u≠ .tbl a)->H b=some u->c b=some u
def Y7.of{o:List Nat}{H a:Hp}(k:x3 H a):Y7 o H a:=λb u _ n e=>k b u n e
def Y7.trans{o:List Nat}{H f d:Hp}(a:Y7 o H f)(b:Y7 o f d):Y7 o H d:=λc u n t e=>b c u n t (a c u n t e)
def Y7.upd{o:List Nat}{H:Hp}{b:Nat}(a:b∈o)(u:HO):Y7 o H (upd H b u):=λc v n _ e=>by
 rw[yI (λz=>n (by rw[z];exact a))];exact e
def aVS{la sa:Nat}{ls cs:List Nat}:la∈own la sa ls cs:=bY7
def aYT{la sa:Nat}{ls cs:List Nat}:sa∈own la sa ls cs:=bY4 _ bY7
def aJ1{la sa b:Nat}{ls cs:List Nat}(h:b∈ls):b∈own la sa ls cs:=bY4 _ (bY4 _ (cXP _ h))
def bVt{la sa b:Nat}{ls cs:List Nat}(h:b∈cs):b∈own la sa ls cs:=bY4 _ (bY4 _ (cQg _ h))
section
variable {CB CL:Nat}{H:Hp}{ba la sa:Nat}{ls cs:List Nat}{R:Rows}{S:List Int}
def PB.l_ne(h:PB CB CL H ba la sa ls cs R S){b a:Nat}{xs:List V}(j:b∈ls)(f:H a=some (.lst xs)):a≠b:=λz=>by
 obtain⟨i,d,e⟩:=cQJ j;obtain⟨p,l,k,c,m,⟨n,g⟩,o⟩:=h.get (bYR (show i<R.length by rw[<- h.len];exact d));rw[bYR d,e]at c;cases c;rw[z,g]at f;cases f
def PB.ba_ne(h:PB CB CL H ba la sa ls cs R S):ba∉ls:=λz=>by
 obtain⟨i,c,e⟩:=cQJ z;obtain⟨n,j,g,b,k,⟨l,d⟩,m⟩:=h.get (bYR (show i<R.length by rw[<- h.len];exact c));rw[bYR c,e]at b;cases b;obtain⟨f,a⟩:=h.book;rw[d]at a;cases a
def PB.set(h:PB CB CL H ba la sa ls cs R S){k:Nat}{b c dx:Nat}{r:Row}(m:ls[k]? =some b)(u:cs[k]? =some c)(t:R[k]? =some r)(f:Row->Row)(y:(f r).copies=r.copies): PB CB CL (upd H b (.ins CL dx (aZL k (f r) c))) ba la sa ls cs (Bk.xO R k f) S:=by
 have a:=cQa m;refine⟨?_,?_,?_,by rw[Bk.zU];exact h.len,by rw[Bk.zU];exact h.clen,h.nd,h.cnd,h.las,h.lac,h.sac,λi s v A l p g=>?_⟩
 ·obtain⟨d,e⟩:=h.book;exact⟨d,by rw[yI (λz=>h.ba_ne (by rw[z];exact a))];exact e⟩
 ·rw[yI (h.l_ne a h.lst)];exact h.lst
 ·rw[yI (h.l_ne a h.sht)];exact h.sht
 ·rw[Bk.zM]at g;by_cases e:i=k
  ·subst e;rw[if_pos rfl,t]at g;cases g;rw[m]at l;cases l;rw[u]at p;cases p;obtain⟨_,j⟩:=h.row i b c r m u t;refine⟨⟨dx,yB⟩,?_⟩;rw[yI (h.l_ne a j),y];exact j
  ·rw[if_neg e]at g;obtain⟨⟨d,x⟩,j⟩:=h.row i s v A l p g;have q:s≠b:=λz=>by
    subst z;obtain⟨w,n⟩:=bY3.mp l;obtain⟨B,o⟩:=bY3.mp m;exact e ((cXH h.nd).mp (n.trans o.symm))
   exact⟨⟨d,by rw[yI q];exact x⟩,by rw[yI (h.l_ne a j)];exact j⟩
def PB.copy(h:PB CB CL H ba la sa ls cs R S){k:Nat}{c:Nat}{r:Row}(l:cs[k]? =some c)(s:R[k]? =some r)(g:Str): PB CB CL (upd H c (.lst ((r.copies++ [g]).map V.str))) ba la sa ls cs (Bk.xO R k λr=>{r with copies:=r.copies++ [g] }) S:=by
 have d:=cQa l;obtain⟨b0,J,I,G,u,⟨F,K⟩,A⟩:=h.get s;rw[l]at u;cases u;have t:∀ {a C dx fs},H a=some (.ins C dx fs)->a≠c:=λq z=>by rw[z,A]at q;cases q
 refine⟨?_,?_,?_,by rw[Bk.zU];exact h.len,by rw[Bk.zU];exact h.clen,h.nd,h.cnd,h.las,h.lac,h.sac,λi y w D x m f=>?_⟩
 ·obtain⟨b,e⟩:=h.book;exact⟨b,by rw[yI (t e)];exact e⟩
 ·rw[yI (λz=>h.lac (by rw[z];exact d))];exact h.lst
 ·rw[yI (λz=>h.sac (by rw[z];exact d))];exact h.sht
 ·rw[Bk.zM]at f;by_cases e:i=k
  ·subst e;rw[if_pos rfl,s]at f;cases f;rw[l]at m;cases m;obtain⟨⟨b,j⟩,v⟩:=h.row i y c r x l s;exact⟨⟨b,by rw[yI (t j)];exact j⟩,yB⟩
  ·rw[if_neg e]at f;obtain⟨⟨b,j⟩,v⟩:=h.row i y w D x m f;have n:w≠c:=λz=>by
    subst z;obtain⟨B,o⟩:=bY3.mp m;obtain⟨E,p⟩:=bY3.mp l;exact e ((cXH h.cnd).mp (o.trans p.symm))
   exact⟨⟨b,by rw[yI (t j)];exact j⟩,by rw[yI n];exact v⟩
def PB.shutD(h:PB CB CL H ba la sa ls cs R S)(d:Int):PB CB CL (upd H sa (.lst ((S++ [d]).map V.int))) ba la sa ls cs R (S++ [d]):=by
 have g:∀ {a C dx fs},H a=some (.ins C dx fs)->a≠sa:=λq z=>by rw[z,h.sht]at q;cases q
 refine⟨?_,?_,yB,h.len,h.clen,h.nd,h.cnd,h.las,h.lac,h.sac,λi n l j m f o=>?_⟩
 ·obtain⟨b,e⟩:=h.book;exact⟨b,by rw[yI (g e)];exact e⟩
 ·rw[yI h.las];exact h.lst
 ·obtain⟨⟨b,c⟩,k⟩:=h.row i n l j m f o;exact⟨⟨b,by rw[yI (g c)];exact c⟩,by rw[yI (λz=>h.sac (by rw[<- z];exact cQa f))];exact k⟩
def PB.enter(h:PB CB CL H ba la sa ls cs R S){l c dx:Nat}{r:Row}{u:Hp}(hl:H l=none)(g:H c=none)(K:l≠c)(M:r.copies= [])(L:u l=some (.ins CL dx (aZL R.length r c)))(I:u c=some (.lst [])) (k:∀b o,H b=some o->u b=some o):PB CB CL (upd u la (.lst ((ls++ [l]).map V.ref))) ba la sa (ls++ [l]) (cs++ [c]) (R++ [r]) S:=by
 have w:l≠la:=λz=>by rw[z,h.lst]at hl;cases hl
 have p:c≠la:=λz=>by rw[z,h.lst]at g;cases g
 have G:∀ {a C dx fs},H a=some (.ins C dx fs)->a≠la:=λq z=>by rw[z,h.lst]at q;cases q
 have O:∀i b,ls[i]? =some b->i<R.length:=λi b q=>by rw[<- h.len];exact(bY3.mp q).1
 have nl:l∉ls:=λz=>by obtain⟨i,d,e⟩:=cQJ z;obtain⟨A,x,t,m,v,⟨f,E⟩,F⟩:=h.get (bYR (show i<R.length by rw[<- h.len];exact d));rw[bYR d,e]at m;cases m;rw[E]at hl;cases hl
 have J:c∉cs:=λz=>by obtain⟨i,d,e⟩:=cQJ z;obtain⟨A,x,t,m,v,E,F⟩:=h.get (bYR (show i<R.length by rw[<- h.clen];exact d));rw[bYR d,e]at v;cases v;rw[F]at g;cases g
 refine⟨?_,yB,?_,by simp[h.len],by simp[h.clen],?_,?_,h.las,?_,?_,λi A x N s n j=>?_⟩
 ·obtain⟨f,e⟩:=h.book;exact⟨f,by rw[yI (G e)];exact k _ _ e⟩
 ·rw[yI (cQB h.las)];exact k _ _ h.sht
 ·exact cZl.mpr ⟨h.nd,cXi _ _,λa y b B z=>nl (by rw[<- bY9.mp B,<- z];exact y)⟩
 ·exact cZl.mpr ⟨h.cnd,cXi _ _,λa y b B z=>J (by rw[<- bY9.mp B,<- z];exact y)⟩
 ·intro z;rcases cQw.mp z with z|z
  ·exact h.lac z
  ·exact p (bY9.mp z).symm
 ·intro z;rcases cQw.mp z with z|z
  ·exact h.sac z
  ·rw[<- bY9.mp z,h.sht]at g;cases g
 ·by_cases d:i<R.length
  ·rw[cQz (by rw[h.len];exact d)]at s;rw[cQz (by rw[h.clen];exact d)]at n;rw[cQz d]at j;obtain⟨⟨f,t⟩,m⟩:=h.row i A x N s n j;exact⟨⟨f,by rw[yI (G t)];exact k _ _ t⟩,by rw[yI (λz=>h.lac (by rw[<- z];exact cQa n))];exact k _ _ m⟩
  ·have D:i=R.length:=by
    have:=(bY3.mp j).1;simp at this;omega
   subst D;rw[cQi (by rw[h.len];exact bYZ _),h.len,cXe]at s;rw[cQi (by rw[h.clen];exact bYZ _),h.clen,cXe]at n;rw[cQi (bYZ _),cXe]at j;cases s;cases n;cases j;exact⟨⟨dx,by rw[yI w];exact L⟩,by rw[yI p,I,M];rfl⟩
end
inductive aVt(CB:Nat)(vs:List V)(H:Hp)(Q:VK)(_:XK):Prop|mk(x dx:Nat)(_:vs= [.ref x])(_:H x=some (.ins CB dx []))(_:∀ (la sa:Nat)(H':Hp),H la=none->H sa=none->la≠sa->H' x=some (.ins CB dx [(B0,.ref la),(Ag,.ref sa)])->H' la=some (.lst [])->H' sa=some (.lst [])->(∀b,b≠x->b≠la->b≠sa->H' b=H b)->Q .non H')
inductive bV5(CB CL:Nat)(vs:List V)(H:Hp)(Q:VK)(_:XK):Prop|mk(ba la sa:Nat)(ls cs:List Nat)(R:Rows)(S:List Int)(way:Str)(d:Int)(who:Str)(t:Int)(_:vs= [.ref ba,.str way,.int d,.str who,.int t])(_:PB CB CL H ba la sa ls cs R S)(_:R.length<=1000)(_:∀ (l c:Nat)(H':Hp),H l=none->H c=none->PB CB CL H' ba la sa (ls++ [l]) (cs++ [c]) (R++ [⟨way,d,who,t,none,"",false,[]⟩]) S->(∀b o,b≠la->H b=some o->H' b=some o)->Q (.ref l) H')
inductive aZe(K:bYT)(Rf:Nat×Nat)(vs:List V)(H:Hp)(Q:VK)(E:XK):Prop|mk(t:Int)(_:vs= [.int t])(_:(0<=t->Q .non H))(_:(t<0->xK K Rf H E "no term"))
inductive aZc(K:bYT)(Rf:Nat×Nat)(vs:List V)(H:Hp)(Q:VK)(E:XK):Prop|mk(a b:Int)(_:vs= [.int a,.int b])(_:(a<=b->Q .non H))(_:(b<a->xK K Rf H E "too early"))
section
variable {K:bYT}
abbrev aY8:Stmt:=xI Ah AE
abbrev bK2:Stmt:=xI Ah Bi
abbrev bQl:Stmt:=xF B5
abbrev bQc:Stmt:=xF B6
def bZp:yN [A1] [A1] (yH aY8):=scM
def bXO(cl:Cl K CB CL)(F:Fun K AE "Book.__init__" aY8 f fd):xE P w K mg base CX0 (n+1) f fd [A1] (aVt CB):=by
 have p:=bZp;refine F.ok (k:=n) p (λo A outer s H u Q E v h=>?_);obtain⟨x,l,rfl,j,q⟩:=h;refine⟨_,(yC (zQ (pv 0) (y6 yD) rfl) (yF (zQ (pv 0) (y6 yD) rfl))),?_⟩;refine⟨z0,λla g=>?_⟩;have c:x≠la:=yJ j g;refine⟨_,rfl,x,CB,l,_,rfl,(yI c).trans j,cl.b,cl.letters,(show 0<1000 by decide),?_⟩;refine⟨z0,λsa a=>?_⟩;have e:x≠sa:=yJ yB a;have d:la≠sa:=λz=>by rw[<- z,yI (cQB c),yB]at a;cases a
 refine⟨_,rfl,x,CB,l,_,rfl,(yI e).trans yB,cl.b,cl.shut,(show 1<1000 by decide),?_⟩;have i:H sa=none:=by rw[yI (cQB e),yI (cQB d)]at a;exact a
 refine q la sa _ g i d yB ?_ ?_ λb m t r=>?_
 ·rw[yI (cQB c),yI d,yI (cQB c),yB]
 ·rw[yI (cQB e),yB]
 ·rw[yI m,yI r,yI m,yI t]
def bKc:yN [A1,BV,AZ,Aa,AU,AL] [A1,BV,AZ,Aa,AU] (yH bK2):=scM
def bWT(T:vK mg)(cl:Cl K CB CL)(a:MkG P w K mg base n C7 CL [A1,AC,BV,AZ,Aa,AU] (bQP CL))(F:Fun K Bi "Book.add_letter" bK2 f fd): xE P w K mg base CX0 (n+2) f fd [A1,BV,AZ,Aa,AU] (bV5 CB CL):=by
 have N:=bKc;refine F.ok (k:=n+1) N (λL A outer s H vs Q E Y h=>?_);obtain⟨ba,la,sa,ls,cs,R,S,D,d,B,t,rfl,j,hR,q⟩:=h;refine⟨_,(yC (yU (i:=5) (bKY a Y rfl (yA (yQ yO rfl T.b_len xB (yA (y3 (pv 0) rfl) yD)) (yA (pv 1) (yA (pv 2) (yA (pv 3) (yA (pv 4) yD))))))) (yC (yY (vN cQh cQo cQp xD (y3 (pv 0) rfl) (yA (pv 5) yD))) (yF (yP (pv 5))))),?_⟩;obtain⟨I,J⟩:=j.book;have hl:(ls.map V.ref).length=R.length:=by rw[bYW];exact j.len
 refine⟨_,rfl,ba,CB,I,_,_,rfl,J,cl.b,cl.letters,rfl,la,_,rfl,.inl (CV j.lst),?_⟩;rw[hl];refine⟨_,rfl,_,rfl,_,rfl,_,rfl,λx xd u C G=>?_⟩;refine⟨x,xd,R.length,D,d,B,t,rfl,yB,λc M l W Z O=>⟨rfl,?_⟩⟩;dsimp only[yW];have m:c≠x:=λz=>by rw[z,yB]at l;cases l
 have y:c≠xd:=λz=>by rw[z,yI G,yB]at l;cases l
 have g:H c=none:=by rw[yI m,yI y]at l;exact l
 have r:∀b o,H b=some o->M b=some o:=λb o e=>by have b1:=yJ e u;have X:=yJ e g;have U:=yJ e C;rw[O b b1 X,yI b1,yI U];exact e
 refine⟨_,rfl,ba,CB,I,_,_,rfl,r _ _ J,cl.b,cl.letters,rfl,.inl ⟨rfl,_,CV (r _ _ j.lst)⟩,_,rfl,la,_,_,rfl,rfl,r _ _ j.lst,zlt (by omega),?_⟩;refine⟨_,rfl,?_⟩;have p:=j.enter u g (cQB m) rfl W Z r;rw[cXc]at p;refine q x c _ u g p λb o v e=>?_;rw[yI v];exact r b o e
def bZD:yN [AU] [AU] (yH bQl):=scM
def bX2(a:ExG P w K mg base n "NoTerm" Rf.1 C1 "no term")(F:Fun K B5 B5 bQl f fd):xE P w K mg base (CXR P w) (n+2) f fd [AU] (aZe K Rf):=by
 have d:=bZD;refine F.okX (k:=n+1) d (λb A outer s H i Q E e h=>?_);obtain⟨t,rfl,q,g⟩:=h;refine⟨_,(yF (y7 (yM vM (pv 0) yE) (yF (wB a e rfl)) yS)),?_⟩;refine⟨_,rfl,_,_,rfl,rfl,_,rfl,?_⟩;refine qC (λc=>?_) (λc=>?_)
 ·exact(g (of_decide_eq_true c)).raise a
 ·exact q (by have:=of_decide_eq_false (Bool.eq_false_iff.mpr c);omega)
def bZt:yN [BD,BE] [BD,BE] (yH bQc):=scM
def bXS(d:ExG P w K mg base n "TooEarly" Rf.1 C1 "too early")(F:Fun K B6 B6 bQc f fd):xE P w K mg base (CXR P w) (n+2) f fd [BD,BE] (aZc K Rf):=by
 have g:=bZt;refine F.okX (k:=n+1) g (λe A outer s H l Q E i h=>?_);obtain⟨a,b,rfl,q,j⟩:=h;refine⟨_,(yF (y7 (yM vM (pv 1) (pv 0)) (yF (wB d i rfl)) yS)),?_⟩;refine⟨_,rfl,_,rfl,_,_,rfl,rfl,_,rfl,?_⟩;refine qC (λc=>?_) (λc=>?_)
 ·exact(j (of_decide_eq_true c)).raise d
 ·exact q (by have:=of_decide_eq_false (Bool.eq_false_iff.mpr c);omega)
end
end Desk
namespace Desk
open PySem L2 PyProof.Rows
open Bk (Row Rows)
def vP(o:List Nat)(H a:Hp):Prop:=∀b u,b∉o->H b=some u->a b=some u
def vP.of{o:List Nat}{H a:Hp}(k:xC H a):vP o H a:=λb u _ e=>k b u e
def vP.trans{o:List Nat}{H f d:Hp}(a:vP o H f)(b:vP o f d):vP o H d:=λc u n e=>b c u n (a c u n e)
def vP.upd{o:List Nat}{H:Hp}{b:Nat}(a:b∈o)(u:HO):vP o H (upd H b u):=λc v n e=>by
 rw[yI (λz=>n (by rw[z];exact a))];exact e
def vP.t{o:List Nat}{H a:Hp}(k:vP o H a):Y7 o H a:=λb u n _ e=>k b u n e
def qQ(H:Hp)(o a:List Nat):Prop:=∀b∈a,b∈o\/H b=none
def qQ.refl{H:Hp}{o:List Nat}:qQ H o o:=λb h=> .inl h
def qQ.snoc{H:Hp}{la sa l c:Nat}{ls cs:List Nat}(hl:H l=none)(a:H c=none):qQ H (own la sa ls cs) (own la sa (ls++ [l]) (cs++ [c])):=λb h=>by
 rcases bY1.mp h with e|h
 ·exact .inl (by rw[e];exact aVS)
 rcases bY1.mp h with e|h
 ·exact .inl (by rw[e];exact aYT)
 rcases cQw.mp h with h|h
 ·rcases cQw.mp h with h|h
  ·exact .inl (aJ1 h)
  ·exact .inr (by rw[bY9.mp h];exact hl)
 ·rcases cQw.mp h with h|h
  ·exact .inl (bVt h)
  ·exact .inr (by rw[bY9.mp h];exact a)
def aZg(d CL f la sa:Nat)(ls cs:List Nat)(H:Hp)(g:Rows)(e:List Int)(q:Hp->Prop):Prop:=∀ (c:Hp)(b a:List Nat),PB d CL c f la sa b a g e->vP (own la sa ls cs) H c->qQ H (own la sa ls cs) (own la sa b a)->q c
def bWO(i:Nat)(r:Row)(c:Nat)(t:Int):List (Str×V):=
 [(AC,.int (i:Nat)),(BV,.str r.way),(AZ,.int r.date),(Aa,.str r.partner),(AU,.int t),(CU,w6 r.link),(Bu,X3 r),(BJ,.ref c),(Au,.bl r.void)]
inductive bQO(K:bYT)(Rf:Nat×Nat)(CB CL:Nat)(vs:List V)(H:Hp)(Q:VK)(E:XK):Prop|mk(ba la sa:Nat)(ls cs:List Nat)(R:Rows)(S:List Int)(way:Str)(d:Int)(who:Str)(t:Int)(_:vs= [.ref ba,.str way,.int d,.str who,.int t])(_:PB CB CL H ba la sa ls cs R S)(_:R.length<=1000)(_:(0<=t->aZg CB CL ba la sa ls cs H (R++ [⟨way,d,who,t,none,"",false,[]⟩]) S (Q (.int (R.length:Nat)))))(_:(t<0->xK K Rf H E "no term"))
inductive bQT(K:bYT)(Rf:Nat×Nat)(CB CL:Nat)(vs:List V)(H:Hp)(Q:VK)(E:XK):Prop|mk(ba la sa:Nat)(ls cs:List Nat)(R:Rows)(S:List Int)(m d t:Int)(_:vs= [.ref ba,.int m,.int d,.int t])(_:PB CB CL H ba la sa ls cs R S)(_:R.length<=1000)(_:(Bk.wW R m=false->xK K Rf H E "no letter"))(_:(Bk.wW R m=true->t<0->xK K Rf H E "no term"))(_:∀ (k:Nat)(r:Row),m=(k:Int)->R[k]? =some r->r.void=false->0<=t->(d<r.date->xK K Rf H E "too early")/\(r.date<=d->aZg CB CL ba la sa ls cs H (R++ [⟨Bk.uZ r.way,d,r.partner,t,some k,r.place,false,[]⟩]) S (Q (.int (R.length:Nat)))))
inductive aWf(K:bYT)(Rf:Nat×Nat)(CB CL:Nat)(vs:List V)(H:Hp)(Q:VK)(E:XK):Prop|mk(ba la sa:Nat)(ls cs:List Nat)(R:Rows)(S:List Int)(m:Int)(_:vs= [.ref ba,.int m])(_:PB CB CL H ba la sa ls cs R S)(_:(Bk.wW R m=false->xK K Rf H E "no letter"))(_:∀ (k:Nat)(r:Row),m=(k:Int)->R[k]? =some r->r.void=false->(r.link=none->xK K Rf H E "has none")/\(r.link≠none->aZg CB CL ba la sa ls cs H (Bk.xO R k λr=>{r with link:=none}) S (Q .non)))
inductive aJe(K:bYT)(Rf:Nat×Nat)(CB CL:Nat)(vs:List V)(H:Hp)(Q:VK)(E:XK):Prop|mk(ba la sa:Nat)(ls cs:List Nat)(R:Rows)(S:List Int)(m t:Int)(_:vs= [.ref ba,.int m,.int t])(_:PB CB CL H ba la sa ls cs R S)(_:(Bk.wW R m=false->xK K Rf H E "no letter"))(_:∀ (k:Nat)(r:Row),m=(k:Int)->R[k]? =some r->r.void=false->(t<0->xK K Rf H E "no term")/\(0<=t->aZg CB CL ba la sa ls cs H (Bk.xO R k λr=>{r with term:=t}) S (Q .non)))
inductive bJv(K:bYT)(Rf:Nat×Nat)(CB CL:Nat)(vs:List V)(H:Hp)(Q:VK)(E:XK):Prop|mk(ba la sa:Nat)(ls cs:List Nat)(R:Rows)(S:List Int)(m:Int)(who:Str)(_:vs= [.ref ba,.int m,.str who])(_:PB CB CL H ba la sa ls cs R S)(_:(∀r∈R,r.copies.length<=1000))(_:(Bk.wW R m=false->xK K Rf H E "no letter"))(_:∀ (k:Nat)(r:Row),m=(k:Int)->R[k]? =some r->r.void=false->(who=r.partner\/who∈r.copies->xK K Rf H E CP)/\(who≠r.partner->who∉r.copies->aZg CB CL ba la sa ls cs H (Bk.xO R k λr=>{r with copies:=r.copies++ [who] }) S (Q (.int ((r.copies.length:Nat)+1)))))
inductive aV9(K:bYT)(Rf:Nat×Nat)(CB CL:Nat)(vs:List V)(H:Hp)(Q:VK)(E:XK):Prop|mk(ba la sa:Nat)(ls cs:List Nat)(R:Rows)(S:List Int)(m:Int)(_:vs= [.ref ba,.int m])(_:PB CB CL H ba la sa ls cs R S)(_:R.length<=100)(_:(Bk.wW R m=false->xK K Rf H E "no letter"))(_:∀ (k:Nat)(r:Row),m=(k:Int)->R[k]? =some r->r.void=false->(Bk.z9 R k≠ []->xK K Rf H E B2)/\(Bk.z9 R k= []->aZg CB CL ba la sa ls cs H (Bk.xO R k λr=>{r with link:=none,void:=true}) S (Q .non)))
inductive bJw(K:bYT)(Rf:Nat×Nat)(CB CL:Nat)(vs:List V)(H:Hp)(Q:VK)(E:XK):Prop|mk(ba la sa:Nat)(ls cs:List Nat)(R:Rows)(S:List Int)(d:Int)(_:vs= [.ref ba,.int d])(_:PB CB CL H ba la sa ls cs R S)(_:S.length<=1000)(_:(Dm.cts S d=false->xK K Rf H E "counts not"))(_:(Dm.cts S d=true->aZg CB CL ba la sa ls cs H R (S++ [d]) (Q .non)))
inductive aWg(K:bYT)(Rf:Nat×Nat)(CB CL:Nat)(vs:List V)(H:Hp)(Q:VK)(E:XK):Prop|mk(ba la sa:Nat)(ls cs:List Nat)(R:Rows)(S:List Int)(m d:Int)(_:vs= [.ref ba,.int m,.int d])(_:PB CB CL H ba la sa ls cs R S)(_:R.length<=100)(_:Bk.Y5 R)(_:(Bk.wW R m=false->xK K Rf H E "no letter"))(_:∀ (k:Nat)(r:Row),m=(k:Int)->R[k]? =some r->r.void=false->(((∃j,r.link=some j/\d<Bk.dt R j)\/∃c∈Bk.z9 R k,Bk.dt R c<d)->xK K Rf H E "too early")/\((∀j,r.link=some j->Bk.dt R j<=d)->(∀c∈Bk.z9 R k,d<=Bk.dt R c)->aZg CB CL ba la sa ls cs H (Bk.xO R k λr=>{r with date:=d}) S (Q .non)))
def aKA(R:Rows)(r:Row)(f:Row->Row):Bk.xO (R++ [r]) R.length f=R++ [f r]:=by
 apply cZa;intro i;rw[Bk.zM];by_cases e:i=R.length
 ·subst e;rw[if_pos rfl,cQi (bYZ _),cQi (bYZ _),cXe];rfl
 ·rw[if_neg e];by_cases h:i<R.length
  ·rw[cQz h,cQz h]
  ·rw[cQs (by simp;omega),cQs (by simp;omega)]
section
variable {K:bYT}
abbrev bQe:Stmt:=xI Ah "enter"
abbrev bQj:Stmt:=xI Ah Ba
abbrev aVe:Stmt:=xI Ah "loosen"
abbrev aXZ:Stmt:=xI Ah "put_term"
abbrev bVK:Stmt:=xI Ah "send_copy"
abbrev aVa:Stmt:=xI Ah "cancel"
abbrev bVL:Stmt:=xI Ah "shut_day"
abbrev aVf:Stmt:=xI Ah "put_day"
def bZv:yN [A1,BV,AZ,Aa,AU] [A1,BV,AZ,Aa,AU] (yH bQe):=scM
def bXU(cl:Cl K CB CL)(a:FnX P w K mg base n B5 [AU] (aZe K Rf))(g:MG P w K mg base CX0 n CB Bi [A1,BV,AZ,Aa,AU] (bV5 CB CL)) (F:Fun K "enter" "Book.enter" bQe f fd):xE P w K mg base (CXR P w) (n+1) f fd [A1,BV,AZ,Aa,AU] (bQO K Rf CB CL):=by
 have G:=bZv;refine F.okX (k:=n) G (λB A outer s H X Q E y h=>?_);obtain⟨r,I,J,x,v,R,S,o,d,m,t,rfl,j,hR,q,V⟩:=h;refine⟨_,(yC (yY (aQF a y rfl (yA (pv 4) yD))) (yF (yP (y3 (v5 g y v1 (pv 0) (yA (pv 1) (yA (pv 2) (yA (pv 3) (yA (pv 4) yD))))) rfl)))),?_⟩;obtain⟨D,N⟩:=j.book;refine⟨_,rfl,t,rfl,λW=>?_,V⟩;refine⟨_,rfl,r,D,_,rfl,N,rfl,_,rfl,_,rfl,_,rfl,_,rfl,r,I,J,x,v,R,S,o,d,m,t,rfl,j,hR,λl c C hl U i O=>?_⟩;have L:(x++ [l])[R.length]? =some l:=by rw[<- j.len,cQi (bYZ _),cXe];rfl
 have T:(v++ [c])[R.length]? =some c:=by rw[<- j.clen,cQi (bYZ _),cXe];rfl
 obtain⟨⟨p,M⟩,Y⟩:=i.row R.length l c _ L T (by rw[cQi (bYZ _),cXe];rfl);exact⟨l,CL,p,_,_,rfl,M,cl.l,cl.number,rfl,q W C _ _ i (λb u n e=>O b u (λz=>n (by rw[z];exact aVS)) e) (qQ.snoc hl U)⟩
def bZA:yN [A1,AC,AZ,AU,CS,AL] [A1,AC,AZ,AU] (yH bQj):=scM
def qY{R:Rows}{k:Nat}{r:Row}(a:R[k]? =some r)(b:r.void=false):Bk.wW R (k:Int)=true:=by rw[aZA a,b];rfl
def aXI{r:Row}(a:r.void=false):X3 r= .str r.place:=by unfold X3;rw[a];rfl
def bZT{r:Row}(a:r.void=false):Q1 r=r.term:=by unfold Q1;rw[a];rfl
def bXZ(cl:Cl K CB CL)(p:MG P w K mg base (CXR P w) n CB Ab [A1,AC] (aV7 K Rf CB CL))(g:FnX P w K mg base n B5 [AU] (aZe K Rf)) (a:FnX P w K mg base n B6 [BD,BE] (aZc K Rf)) (o:FnG P w K mg base n Bz [BV] bQR) (j:MG P w K mg base CX0 n CB Bi [A1,BV,AZ,Aa,AU] (bV5 CB CL)) (F:Fun K Ba "Book.reply" bQj f fd):xE P w K mg base (CXR P w) (n+1) f fd [A1,AC,AZ,AU] (bQT K Rf CB CL):=by
 have sc:=bZA;refine F.okX (k:=n) sc (λa0 A outer s H vs Q E D h=>?_);obtain⟨I,M,sa,L,J,R,S,m,d,t,rfl,B,hR,q1,q2,q3⟩:=h;refine⟨_,(yC (yU (i:=4) (v5 p D zZ (pv 0) (yA (pv 1) yD))) (yC (yY (aQF g D rfl (yA (pv 3) yD))) (yC (yY (aQF a D rfl (yA (y3 (pv 4) rfl) (yA (pv 2) yD)))) (yC (yU (i:=5) (v5 j D v1 (pv 0) (yA (xJ o D rfl (yA (y3 (pv 4) rfl) yD)) (yA (pv 2) (yA (y3 (pv 4) rfl) (yA (pv 3) yD)))))) (yC (zQ (pv 5) (pv 1) rfl) (yC (zQ (pv 5) (y3 (pv 4) rfl) rfl) (yF (yP (y3 (pv 5) rfl))))))))),?_⟩;obtain⟨X,hb⟩:=B.book;refine⟨_,rfl,I,X,_,rfl,hb,rfl,_,rfl,I,M,sa,L,J,R,S,m,rfl,B,λk r b em N O Z=>?_,q1⟩;subst em;obtain⟨V,cc,g1,g2,g3,⟨q,y⟩,g5⟩:=B.get N;obtain rfl:b=V:=cQd (Z.symm.trans g2);dsimp only[yW];refine⟨_,rfl,t,rfl,λT=>?_,λT=>q2 (qY N O) T⟩;obtain⟨q4,q5⟩:=q3 k r rfl N O T;refine⟨_,rfl,b,CL,q,_,_,rfl,y,cl.l,cl.day,rfl,_,rfl,r.date,d,rfl,λhd=>?_,q4⟩;refine⟨_,rfl,I,X,_,rfl,hb,rfl,_,rfl,b,CL,q,_,_,rfl,y,cl.l,cl.way,rfl,r.way,rfl,_,rfl,_,rfl,b,CL,q,_,_,rfl,y,cl.l,cl.partner,rfl,_,rfl,I,M,sa,L,J,R,S,Bk.uZ r.way,d,r.partner,t,rfl,B,hR,λl c H1 hl hc C k1=>?_⟩;dsimp only[yW];have h1:(L++ [l])[R.length]? =some l:=by rw[<- B.len,cQi (bYZ _),cXe];rfl
 have h2:(J++ [c])[R.length]? =some c:=by rw[<- B.clen,cQi (bYZ _),cXe];rfl
 have h3:(R++ [(⟨Bk.uZ r.way,d,r.partner,t,none,"",false,[]⟩:Row)])[R.length]? =some ⟨Bk.uZ r.way,d,r.partner,t,none,"",false,[]⟩:=by rw[cQi (bYZ _),cXe];rfl
 obtain⟨⟨v,f1⟩,f2⟩:=C.row R.length l c _ h1 h2 h3;refine⟨_,rfl,_,rfl,l,CL,v,_,rfl,f1,cl.l,cl.link,(show 9<1000 by decide),?_⟩;have W:b≠l:=yJ y hl;have U:b≠M:=λz=>by rw[z,B.lst]at y;cases y
 have Y:upd H1 l (.ins CL v (aXi CU (.int (k:Nat)) (aZL R.length ⟨Bk.uZ r.way,d,r.partner,t,none,"",false,[]⟩ c))) b=some (.ins CL q (aZL k r cc)):=(yI W).trans (k1 _ _ U y);refine⟨_,rfl,b,CL,q,_,_,rfl,Y,cl.l,cl.file,rfl,_,rfl,l,CL,v,_,rfl,yB,cl.l,cl.file,(show 9<1000 by decide),?_⟩;rw[jE];refine⟨_,rfl,l,CL,v,_,_,rfl,yB,cl.l,cl.number,rfl,?_⟩;have G:=C.set (dx:=v) h1 h2 h3 (λx=>{x with link:=some k,place:=r.place}) rfl;rw[aKA]at G;have e9:aXi Bu (X3 r) (aXi CU (.int (k:Nat)) (aZL R.length ⟨Bk.uZ r.way,d,r.partner,t,none,"",false,[]⟩ c))=aZL R.length ⟨Bk.uZ r.way,d,r.partner,t,some k,r.place,false,[]⟩ c:=by rw[aXI O];rfl
 refine q5 hd _ (L++ [l]) (J++ [c]) ?_ (λV u nb e=>?_) (qQ.snoc hl hc)
 ·rw[e9];exact G
 ·rw[yI (λz=>by rw[z]at e;rw[hl]at e;cases e)];exact k1 V u (λz=>nb (by rw[z];exact aVS)) e
def bQA:yN [A1,AC,AL] [A1,AC] (yH aVe):=scM
def aYN(cl:Cl K CB CL)(c:MG P w K mg base (CXR P w) (n+1) CB Ab [A1,AC] (aV7 K Rf CB CL))(a:ExG P w K mg base n "HasNone" Rf.1 C1 "has none") (F:Fun K "loosen" "Book.loosen" aVe f fd):xE P w K mg base (CXR P w) (n+2) f fd [A1,AC] (aWf K Rf CB CL):=by
 have z:=bQA;refine F.okX (k:=n+1) z (λx A outer s H W Q E v h=>?_);obtain⟨t,J,L,N,M,R,S,m,rfl,g,O,D⟩:=h;refine⟨_,(yC (yU (i:=2) (v5 c v zZ (pv 0) (yA (pv 1) yD))) (yC (y7 (yM aXs (y3 (pv 2) rfl) x6) (yF (wB a v rfl)) yS) (yF (zQ (pv 2) x6 rfl)))),?_⟩;obtain⟨y,U⟩:=g.book;refine⟨_,rfl,t,y,_,rfl,U,rfl,_,rfl,t,J,L,N,M,R,S,m,rfl,g,λk r b C o V q=>?_,O⟩;obtain⟨T,X,Y,p,I,⟨e,u⟩,Z⟩:=g.get o;obtain rfl:b=T:=cQd (q.symm.trans p);obtain⟨B,G⟩:=D k r C o V;dsimp only[yW];refine⟨_,rfl,b,CL,e,_,_,rfl,u,cl.l,cl.link,rfl,rfl,_,rfl,?_⟩;cases d:r.link with
 |none=>exact onT rfl ((B d).raise a)
 |some j=>refine onF rfl ⟨_,rfl,b,CL,e,_,rfl,u,cl.l,cl.link,(show 9<1000 by decide),?_⟩;exact G (by rw[d];simp) _ _ _ (g.set p I o (λr=>{r with link:=none}) rfl) (vP.upd (aJ1 (cQa p)) _) qQ.refl
def aKw:yN [A1,AC,AU,AL] [A1,AC,AU] (yH aXZ):=scM
def aKb(cl:Cl K CB CL)(c:MG P w K mg base (CXR P w) n CB Ab [A1,AC] (aV7 K Rf CB CL))(a:FnX P w K mg base n B5 [AU] (aZe K Rf)) (F:Fun K "put_term" "Book.put_term" aXZ f fd):xE P w K mg base (CXR P w) (n+1) f fd [A1,AC,AU] (aJe K Rf CB CL):=by
 have B:=aKw;refine F.okX (k:=n) B (λx A outer s H Y Q E u h=>?_);obtain⟨q,M,N,T,O,R,S,m,t,rfl,d,U,I⟩:=h;refine⟨_,(yC (yU (i:=3) (v5 c u zZ (pv 0) (yA (pv 1) yD))) (yC (yY (aQF a u rfl (yA (pv 2) yD))) (yF (zQ (pv 3) (pv 2) rfl)))),?_⟩;obtain⟨z,W⟩:=d.book;refine⟨_,rfl,q,z,_,rfl,W,rfl,_,rfl,q,M,N,T,O,R,S,m,rfl,d,λk r b G e v o=>?_,U⟩;obtain⟨V,g,Z,j,L,⟨p,C⟩,g5⟩:=d.get e;obtain rfl:b=V:=cQd (o.symm.trans j);obtain⟨D,J⟩:=I k r G e v;dsimp only[yW];refine⟨_,rfl,t,rfl,λX=>?_,D⟩;refine⟨_,rfl,_,rfl,b,CL,p,_,rfl,C,cl.l,cl.term,(show 9<1000 by decide),?_⟩;have y:aXi AU (.int t) (aZL k r g)=aZL k {r with term:=t} g:=by show bWO k {r with term:=t} g t=_;unfold bWO aZL;rw[bZT (r:={r with term:=t}) v]
 rw[y];exact J X _ _ _ (d.set j L e (λr=>{r with term:=t}) rfl) (vP.upd (aJ1 (cQa j)) _) qQ.refl
def bVY:yN [A1,AC,BY,AL] [A1,AC,BY] (yH bVK):=scM
def bVm(T:vK mg)(cl:Cl K CB CL)(e:MG P w K mg base (CXR P w) (n+1) CB Ab [A1,AC] (aV7 K Rf CB CL))(a:MG P w K mg base CX0 (n+1) CL C8 [A1,BY] (bJq CL))(d:ExG P w K mg base n "Copied" Rf.1 C1 CP) (F:Fun K "send_copy" "Book.send_copy" bVK f fd):xE P w K mg base (CXR P w) (n+2) f fd [A1,AC,BY] (bJv K Rf CB CL):=by
 have M:=bVY;refine F.okX (k:=n+1) M (λI A outer s H vs Q E y h=>?_);obtain⟨C,Y,Z,ls,cs,R,S,m,g,rfl,q,B,q1,W⟩:=h;refine⟨_,(yC (yU (i:=3) (v5 e y zZ (pv 0) (yA (pv 1) yD))) (yC (y7 (xZ (v5 a y v1 (pv 3) (yA (pv 2) yD))) (yF (wB d y rfl)) yS) (yC (yY (vN cQh cQo cQp xD (y3 (pv 3) rfl) (yA (pv 2) yD))) (yF (yP (yQ yO rfl T.b_len xB (yA (y3 (pv 3) rfl) yD))))))),?_⟩;obtain⟨L,hb⟩:=q.book;refine⟨_,rfl,C,L,_,rfl,hb,rfl,_,rfl,C,Y,Z,ls,cs,R,S,m,rfl,q,λk r b U p hv x=>?_,q1⟩;obtain⟨b',t,g1,g2,D,⟨j,o⟩,u⟩:=q.get p;obtain rfl:b=b':=cQd (x.symm.trans g2);obtain⟨O,X⟩:=W k r U p hv;have G:=B r (cQa p);dsimp only[yW];refine⟨_,rfl,b,j,_,rfl,o,rfl,_,rfl,b,k,r,t,g,rfl,⟨j,o⟩,u,_,rfl,?_⟩;refine qC (λc=>?_) (λc=>?_)
 ·refine(O ?_).raise d;rw[Bool.or_eq_true,decide_eq_true_eq,cXt]at c;exact c
 ·rw[Bool.or_eq_true,decide_eq_true_eq,cXt,not_or]at c;have v:b≠t:=λz=>by rw[z,u]at o;cases o
  refine⟨_,rfl,b,CL,j,_,_,rfl,o,cl.l,cl.copies,rfl,.inl ⟨rfl,_,CV u⟩,_,rfl,t,_,_,rfl,rfl,u,zlt (by rw[bYW];omega),?_⟩;refine⟨_,rfl,b,CL,j,_,_,rfl,(yI v).trans o,cl.l,cl.copies,rfl,t,_,rfl,.inl (CV yB),?_⟩;have J:r.copies.map V.str++ [V.str g]=(r.copies++ [g]).map V.str:=by simp
  rw[J];have N:((r.copies++ [g]).map V.str).length=r.copies.length+1:=by simp
  rw[N];exact X c.1 c.2 _ _ _ (q.copy D p g) (vP.upd (bVt (cQa D)) _) qQ.refl
def bQu:yN [A1,AC,AL] [A1,AC] (yH aVa):=scM
def aYH(T:vK mg)(cl:Cl K CB CL)(g:MG P w K mg base (CXR P w) (n+1) CB Ab [A1,AC] (aV7 K Rf CB CL))(d:MG P w K mg base CX0 (n+1) CB Bg [A1,AL] (aVs CB CL))(e:MG P w K mg base CX0 (n+1) CL "make_void" [A1] (bJx CL))(a:ExG P w K mg base n "Answered" Rf.1 C1 B2) (F:Fun K "cancel" "Book.cancel" aVa f fd):xE P w K mg base (CXR P w) (n+2) f fd [A1,AC] (aV9 K Rf CB CL):=by
 have N:=bQu;refine F.okX (k:=n+1) N (λM A outer s H vs Q E u h=>?_);obtain⟨q,G,I,y,J,R,S,m,rfl,j,hR,q1,W⟩:=h;refine⟨_,(yC (yU (i:=2) (v5 g u zZ (pv 0) (yA (pv 1) yD))) (yC (y7 (yM aXh (yQ yO rfl T.b_len xB (yA (v5 d u v1 (pv 0) (yA (pv 2) yD)) yD)) yE) (yF (wB a u rfl)) yS) (yF (yY (bZb e u v1 (pv 2)))))),?_⟩;obtain⟨C,L⟩:=j.book;refine⟨_,rfl,q,C,_,rfl,L,rfl,_,rfl,q,G,I,y,J,R,S,m,rfl,j,λk r b U v hv B=>?_,q1⟩;obtain⟨b',Z,g1,t,Y,⟨p,D⟩,g5⟩:=j.get v;obtain rfl:b=b':=cQd (B.symm.trans t);obtain⟨O,X⟩:=W k r U v hv;dsimp only[yW];refine⟨_,rfl,q,C,_,rfl,L,rfl,_,rfl,q,G,I,y,J,R,S,k,b,rfl,j,t,hR,λl hl=>?_⟩;refine⟨l,_,rfl,.inl (CV yB),_,_,rfl,rfl,_,rfl,?_⟩;have o:=yG hl (.lst ((Bk.z9 R k).map λk=>(y.map V.ref).getD k .non));rw[bYW];refine qC (λc=>?_) (λc=>?_)
 ·refine((O λz=>?_).go (aKJ.of o)).raise a;have:=of_decide_eq_true c;rw[z]at this;simp at this
 ·have x:Bk.z9 R k= []:=by
   have:=of_decide_eq_false (Bool.eq_false_iff.mpr c);exact cXG (by omega)
  refine⟨_,rfl,b,p,_,rfl,o _ _ D,rfl,b,p,k,r,Z,rfl,o _ _ D,?_⟩;exact X x _ _ _ ((j.same o).set t Y v (λr=>{r with link:=none,void:=true}) rfl) ((vP.of o).trans (vP.upd (aJ1 (cQa t)) _)) qQ.refl
def bVZ:yN [A1,AZ] [A1,AZ] (yH bVL):=scM
def bVn(cl:Cl K CB CL)(c:FnG P w K mg base (n+1) "counts" [Ag,Am] (Days.aWc K))(a:ExG P w K mg base n "CountsNot" Rf.1 C1 "counts not") (F:Fun K "shut_day" "Book.shut_day" bVL f fd):xE P w K mg base (CXR P w) (n+2) f fd [A1,AZ] (bJw K Rf CB CL):=by
 have r:=bVZ;refine F.okX (k:=n+1) r (λp A outer s H x Q E m h=>?_);obtain⟨i,v,j,z,y,R,S,d,rfl,e,B,u,t⟩:=h;refine⟨_,(yC (y7 (vG (xZ (xJ c m rfl (yA (y3 (pv 0) rfl) (yA (pv 1) yD))))) (yF (wB a m rfl)) yS) (yF (yY (vN cQh cQo cQp xD (y3 (pv 0) rfl) (yA (pv 1) yD))))),?_⟩;obtain⟨g,l⟩:=e.book;refine⟨_,rfl,i,CB,g,_,_,rfl,l,cl.b,cl.shut,rfl,_,rfl,j,S,d,rfl,CV e.sht,_,rfl,?_⟩;cases o:Dm.cts S d with
 |false=>exact onT rfl ((u o).raise a)
 |true=>
  refine onF rfl ⟨_,rfl,i,CB,g,_,_,rfl,l,cl.b,cl.shut,rfl,.inl ⟨rfl,_,CV e.sht⟩,_,rfl,j,_,_,rfl,rfl,e.sht,zlt (by rw[bYW];omega),?_⟩;have q:S.map V.int++ [V.int d]=(S++ [d]).map V.int:=by simp
  rw[q];exact t o _ _ _ (e.shutD d) (vP.upd aYT _) qQ.refl
def bQB:yN [A1,AC,AZ,AL,Ba] [A1,AC,AZ] (yH aVf):=scM
def aYO(cl:Cl K CB CL)(g:MG P w K mg base (CXR P w) n CB Ab [A1,AC] (aV7 K Rf CB CL))(p:MG P w K mg base CX0 n CB Bg [A1,AL] (aVs CB CL))(a:FnX P w K mg base n B6 [BD,BE] (aZc K Rf)) (F:Fun K "put_day" "Book.put_day" aVf f fd):xE P w K mg base (CXR P w) (n+1) f fd [A1,AC,AZ] (aWg K Rf CB CL):=by
 have sc:=bQB;refine F.okX (k:=n) sc (λa7 A outer s H vs Q E X h=>?_);obtain⟨B,la,sa,I,cs,R,S,m,d,rfl,y,hR,a4,q1,q2⟩:=h;refine⟨_,(yC (yU (i:=3) (v5 g X zZ (pv 0) (yA (pv 1) yD))) (yC (y7 (yM wA (y3 (pv 3) rfl) x6) (yF (yY (aQF a X rfl (yA (y3 (v5 g X zZ (pv 0) (yA (y3 (pv 3) rfl) yD)) rfl) (yA (pv 2) yD))))) yS) (yC (zT PassesOwn.leaving rfl (xL (v5 p X v1 (pv 0) (yA (pv 3) yD))) (y9 (i:=4)) (yF (yY (aQF a X rfl (yA (pv 2) (yA (y3 (pv 4) rfl) yD)))))) (yF (zQ (pv 3) (pv 2) rfl))))),?_⟩;obtain⟨dx,hb⟩:=y.book;refine⟨_,rfl,B,dx,_,rfl,hb,rfl,_,rfl,B,la,sa,I,cs,R,S,m,rfl,y,λk r b em hk hv a5=>?_,q1⟩;obtain⟨b',cc,g1,g2,g3,⟨D,g4⟩,g5⟩:=y.get hk;obtain rfl:b=b':=cQd (a5.symm.trans g2);obtain⟨q3,q4⟩:=q2 k r em hk hv;dsimp only[yW];refine zF (λU H'=>U= [some (.ref B),some (.int m),some (.int d),some (.ref b),none]/\H'=H/\∀j,r.link=some j->Bk.dt R j<=d) ?_ λjn=>?_
 ·rintro U H' ⟨rfl,rfl,hj⟩;refine⟨_,rfl,B,dx,_,rfl,hb,rfl,_,rfl,B,la,sa,I,cs,R,S,k,b,rfl,y,g2,hR,λl hl=>?_⟩;have Y:=yG hl (.lst ((Bk.z9 R k).map λk=>(I.map V.ref).getD k .non));refine⟨l,rfl,⟨_,CV yB⟩,?_⟩;refine zJ (xs:=(Bk.z9 R k).map λk=>(I.map V.ref).getD k .non) (λt σ H1=>∃o:Option V,σ= [some (.ref B),some (.int m),some (.int d),some (.ref b),o]/\H1=upd H' l (.lst ((Bk.z9 R k).map λk=>(I.map V.ref).getD k .non))/\∀i c,i<t->(Bk.z9 R k)[i]? =some c->d<=Bk.dt R c) ?_ ?_ ?_ ?_
  ·exact⟨none,rfl,rfl,λi c z=>absurd z (cXE _)⟩
  ·rintro t σ H1 ht ⟨o,rfl,rfl,Z⟩;exact CV yB
  ·rintro t x σ H1 O ⟨o,rfl,rfl,Z⟩;rw[cQc]at O;cases J:(Bk.z9 R k)[t]? with
   |none=>rw[J]at O;cases O
   |some c=>
    rw[J]at O;have M:=cQa J;have a2:c<R.length:=cQu.mp (cQ0.mp M).1;have G:=bYR a2;obtain⟨bc,c2,f1,f2,f3,⟨a3,f4⟩,f5⟩:=(y.same Y).get G;have ex:(I.map V.ref).getD c .non= .ref bc:=by simp only[cQC,f1];rfl
    obtain rfl:x= .ref bc:=by have z:=cQd O;rw[<- z];exact ex
    dsimp only[yW];refine⟨_,rfl,_,rfl,bc,CL,a3,_,_,rfl,f4,cl.l,cl.day,rfl,d,R[c].date,rfl,λq=>?_,λq=>?_⟩
    ·refine⟨_,rfl,rfl,λi c' hi C=>?_⟩;by_cases e:i=t
     ·subst e;rw[J]at C;cases C;rw[Bk.vL G];exact q
     ·exact Z i c' (by omega) C
    ·exact(q3 (.inr ⟨c,M,by rw[Bk.vL G];exact q⟩)).go (aKJ.of Y)
  ·rintro σ H1 ⟨o,rfl,rfl,Z⟩;have W:∀c∈Bk.z9 R k,d<=Bk.dt R c:=λc J=>by
    obtain⟨i,hi,e⟩:=cQJ J;exact Z i c (by rw[bYW];exact hi) (by rw[bYR hi,e])
   refine⟨_,rfl,_,rfl,b,CL,D,_,rfl,Y _ _ g4,cl.l,cl.day,(show 9<1000 by decide),?_⟩;exact q4 hj W _ _ _ ((y.same Y).set g2 g3 hk (λr=>{r with date:=d}) rfl) ((vP.of Y).trans (vP.upd (aJ1 (cQa g2)) _)) qQ.refl
 ·refine⟨_,rfl,b,CL,D,_,_,rfl,g4,cl.l,cl.link,rfl,rfl,_,rfl,?_⟩;cases v:r.link with
  |none=>exact onF rfl (jn _ _ ⟨rfl,rfl,λj hj=>by rw[v]at hj;cases hj⟩)
  |some j=>
   obtain⟨qj,u,a0⟩:=a4.ans k j r hk v;obtain⟨bj,cj,f1,f2,f3,⟨a1,f4⟩,f5⟩:=y.get u;refine onT rfl ⟨_,rfl,B,dx,_,rfl,hb,rfl,_,rfl,b,CL,D,_,_,rfl,g4,cl.l,cl.link,rfl,?_⟩;rw[v];refine⟨B,la,sa,I,cs,R,S,(j:Nat),rfl,y,λk2 r2 b2 e2 T a6 N=>?_,λhg=>?_⟩
   ·obtain rfl:j=k2:=by omega
    rw[u]at T;cases T;rw[f2]at N;cases N;refine⟨bj,CL,a1,_,_,rfl,f4,cl.l,cl.day,rfl,_,rfl,qj.date,d,rfl,λq=>?_,λq=>?_⟩
    ·refine jn _ _ ⟨rfl,rfl,λj' L=>?_⟩;rw[v]at L;cases L;rw[Bk.vL u];exact q
    ·exact q3 (.inl ⟨j,v,by rw[Bk.vL u];exact q⟩)
   ·rw[qY u a0.2.1]at hg;cases hg
end
end Desk
namespace Desk
open PySem L2 PyProof.Rows
open Bk (Row Rows)
open Thr (wF v0 qX)
def bQ4{R:Rows}(b:Bk.Y5 R){rk:Nat->Nat}(o:Fm.Ok R.length (Bk.lk R) rk){i:Nat}(e:i<R.length):∀r q,R[i]? =some r->R[Fm.tp (Bk.lk R) rk i]? =some q->r.void=q.void:=
 Fm.aXz o (P:=λi=>∀r q,R[i]? =some r->R[Fm.tp (Bk.lk R) rk i]? =some q->r.void=q.void)
  (λi _ h r q c a=>by rw[Fm.wC h,c]at a;cases a;rfl)
  (λi j e h g r q c a=>by
   rw[Bk.uB c]at h;obtain⟨k,f,d⟩:=b.ans i j r c h;rw[Fm.uJ o e (by rw[Bk.uB c];exact h)]at a;rw[d.1,<- g k q f a,d.2.1]) (rk i) i (bYZ _) e
def bZU{R:Rows}(b:Bk.Y5 R){k j:Nat}{r:Row}(e:R[k]? =some r)(i:r.void=false)(g:j∈Bk.thr R k):∃q,R[j]? =some q/\q.void=false:=by
 obtain⟨l,o,_,h⟩:=Bk.J7 b.tree k;obtain⟨a,d⟩:=(h j).mp g;have c:=Bk.wO e;have f:=(Fm.bQ1 o c).1;refine⟨_,bYR a,?_⟩;rw[bQ4 b o a _ _ (bYR a) (by rw[d];exact bYR f),<- bQ4 b o c _ _ e (bYR f)];exact i
def bWf{R:Rows}(t:Bk.jG R){i j:Nat}{r:Row}(e:R[i]? =some r)(hl:r.link=none)(a:j<R.length):j∈Bk.thr R i↔(Bk.thr R j).head? =some i:=by
 obtain⟨h,o,g⟩:=Bk.jT t a;obtain⟨b,c,_,f⟩:=Bk.J7 t i;rw[f j,g];have d:Fm.tp (Bk.lk R) b i=i:=Fm.wC (by rw[Bk.uB e];exact hl);rw[d,Fm.qP c o a];exact⟨λz=>by rw[z.2],λz=>⟨a,cQd z⟩⟩
inductive jR(K:bYT)(Rf:Nat×Nat)(CB CL:Nat)(vs:List V)(H:Hp)(Q:VK)(E:XK):Prop|mk(ba la sa:Nat)(ls cs:List Nat)(R:Rows)(S:List Int)(m:Int)(_:vs= [.ref ba,.int m])(_:PB CB CL H ba la sa ls cs R S)(_:R.length<64)(_:Bk.jG R)(_:wF Rf.2 H)(_:(Bk.wW R m=false->xK K Rf H E "no letter"))(_:∀ (k:Nat)(r:Row),m=(k:Int)->R[k]? =some r->r.void=false->∀ (H':Hp)(l:Nat),(∀b u,(∀ps,u≠HO.tbl ps)->H b=some u->b≠l)->x3 H H'->wF Rf.2 H'->H' l=some (.lst ((Bk.thr R k).map λi=>V.int (i:Nat)))->Q (.ref l) H')
def bWl(T d CL f la sa:Nat)(ls cs:List Nat)(H:Hp)(g:Rows)(e:List Int)(q:Hp->Prop):Prop:=∀ (c:Hp)(b a:List Nat),PB d CL c f la sa b a g e->Y7 (own la sa ls cs) H c->qQ H (own la sa ls cs) (own la sa b a)->wF T c->q c
inductive bV7(K:bYT)(Rf:Nat×Nat)(CB CL:Nat)(vs:List V)(H:Hp)(Q:VK)(E:XK):Prop|mk(ba la sa:Nat)(ls cs:List Nat)(R:Rows)(S:List Int)(m:Int)(name:Str)(_:vs= [.ref ba,.int m,.str name])(_:PB CB CL H ba la sa ls cs R S)(_:R.length<64)(_:Bk.Y5 R)(_:wF Rf.2 H)(_:(Bk.wW R m=false->xK K Rf H E "no letter"))(_:∀ (k:Nat)(r:Row),m=(k:Int)->R[k]? =some r->r.void=false->∀ (H':Hp),PB CB CL H' ba la sa ls cs (Bk.laid R (Bk.thr R k) name) S->Y7 (own la sa ls cs) H H'->wF Rf.2 H'->Q (.int ((Bk.thr R k).length:Nat)) H')
section
variable {K:bYT}
abbrev Y3:Stmt:=xI Ah Bb
abbrev bK8:Stmt:=xI Ah Bj
def aVq:yN [A1,AC,Al,At] [A1,AC] (yH Y3):=scM
def aQu:xN [A1,AC,Al,At] (yH Y3) AL [] [] (lsN [(".0",.local),(AL,.local)]):=
 lcM
def aJY(cl:Cl K CB CL)(c:MG P w K mg base (CXR P w) n CB Ab [A1,AC] (aV7 K Rf CB CL))(d:FnG P w K mg base n B7 [Al,At,AC] (Thr.aWi Rf.2)) (F:Fun K Bb "Book.thread_of" Y3 f fd):xE P w K mg base (CXR P w) (n+1) f fd [A1,AC] (jR K Rf CB CL):=by
 have Y:=aVq;refine F.okX (k:=n) Y (λa1 A outer s H vs Q E hr h=>?_);obtain⟨N,T,sa,ls,cs,R,S,m,rfl,C,hR,hT,tb,q1,q2⟩:=h;refine⟨_,(yC (yY (v5 c hr zZ (pv 0) (yA (pv 1) yD))) (yC (aZZ (i:=2) aQu rfl Y.nd rfl rfl (xL (y3 (pv 0) rfl)) (λ_ _ _ _ _=>wK) (λ_ _ _ _ _=>(aQE (K:=K) (pv 0) rfl))) (yC (aZZ (i:=3) aQu rfl Y.nd rfl rfl (xL (y3 (pv 0) rfl)) (λ_ _ _ _ _=>wK) (λ_ _ _ _ _=>(aQE (K:=K) (pv 0) rfl))) (yF (yP (xJ d hr rfl (yA (pv 2) (yA (pv 3) (yA (pv 1) yD))))))))),?_⟩;obtain⟨dx,hb⟩:=C.book;have hl:(ls.map V.ref).length=R.length:=by rw[bYW];exact C.len
 refine⟨_,rfl,N,dx,_,rfl,hb,rfl,_,rfl,N,T,sa,ls,cs,R,S,m,rfl,C,λk r b em hk p a2=>?_,q1⟩;subst em;have M:=Bk.wO hk;have x:(bY5 R.length).filter (λ_=>true)=bY5 R.length:=cZD.mpr λ_ _=>rfl;refine⟨_,rfl,N,CB,dx,_,_,rfl,hb,cl.b,cl.letters,rfl,T,rfl,⟨_,CV C.lst⟩,λD W=>?_⟩;refine aWQ (λ_=>true) (λi=>Thr.w6 (Bk.lk R i)) (CV C.lst) W (zn (by omega)) (λj v p H' R' L a=>a) (λj v p _ H' R' L a=>?_) ?_
 ·have U:j<R.length:=by rw[<- hl];exact(bY3.mp p).1
  have g:=bYR U;obtain⟨I,c2,q,G,X,⟨y,J⟩,k5⟩:=C.get g;obtain rfl:v= .ref I:=cQd (p.symm.trans q);rw[Bk.uB g]at a;exact⟨_,rfl,I,CL,y,_,_,rfl,(L _ (yJ J W)).trans J,cl.l,cl.link,rfl,a⟩
 rw[hl,x];dsimp only[yW];have q:=yG W (.lst ((bY5 R.length).map λi=>Thr.w6 (Bk.lk R i)));have B:=C.same q;refine⟨_,rfl,N,CB,dx,_,_,rfl,q _ _ hb,cl.b,cl.letters,rfl,T,rfl,⟨_,CV B.lst⟩,λD2 z=>?_⟩;refine aWQ (λ_=>true) (λi=>V.int (Bk.dt R i)) (CV B.lst) z (zn (by omega)) (λj v p H' R' L a=>a) (λj v p _ H' R' L a=>?_) ?_
 ·have U:j<R.length:=by rw[<- hl];exact(bY3.mp p).1
  have g:=bYR U;obtain⟨I,c2,q,G,X,⟨y,J⟩,k5⟩:=B.get g;obtain rfl:v= .ref I:=cQd (p.symm.trans q);rw[Bk.vL g]at a;exact⟨_,rfl,I,CL,y,_,_,rfl,(L _ (yJ J z)).trans J,cl.l,cl.day,rfl,a⟩
 rw[hl,x];dsimp only[yW];have G:=yG z (.lst ((bY5 R.length).map λi=>V.int (Bk.dt R i)));obtain⟨rk,o⟩:=hT;have O:wF Rf.2 (upd (upd H D (.lst ((bY5 R.length).map λi=>Thr.w6 (Bk.lk R i)))) D2 (.lst ((bY5 R.length).map λi=>V.int (Bk.dt R i)))):=by
  have Z:=q.trans G;rcases tb with t|⟨c',t1,t2⟩
  ·exact .inl (Z _ _ t)
  ·exact .inr ⟨c',Z _ _ t1,Z _ _ t2⟩
 refine⟨_,rfl,_,rfl,_,rfl,D,D2,R.length,Bk.lk R,rk,Bk.dt R,k,rfl,G _ _ yB,yB,o,by omega,M,O,λH3 r3 a0 n3 X t3 h3 hp hm=>?_⟩;have e:=Bk.aJi M ⟨rk,o,hp,hm⟩;refine q2 k r rfl hk p H3 r3 (λb u nt e=>n3 b u nt ((q.trans G) _ _ e)) ((q.trans G).t.trans X) t3 ?_;rw[e];exact h3
end
end Desk
namespace Desk
open PySem L2 PyProof.Rows
open Bk (Row Rows)
open Thr (wF v0 qX)
def xU{T:Nat}{o:List Nat}{H g:Hp}(t:wF T H)(k:vP o H g)(h:∀b∈o,∀u,H b=some u->(∃c,u= .lst c)\/∃C a fs,u= .ins C a fs):wF T g:=by
 have no:∀b u,H b=some u->(∀c,u≠ .lst c)->(∀C a fs,u≠ .ins C a fs)->b∉o:=λb u e l i z=>by
  rcases h b z u e with⟨c,q⟩|⟨C,a,fs,q⟩
  ·exact l _ q
  ·exact i _ _ _ q
 rcases t with t|⟨j,f,d⟩
 ·exact .inl (k _ _ (no _ _ t (by intro _ z;cases z) (by intro _ _ _ z;cases z)) t)
 ·exact .inr ⟨j,k _ _ (no _ _ f (by intro _ z;cases z) (by intro _ _ _ z;cases z)) f,k _ _ (no _ _ d (by intro _ z;cases z) (by intro _ _ _ z;cases z)) d⟩
def PB.kinds{m CL:Nat}{H:Hp}{l la sa:Nat}{ls cs:List Nat}{R:Rows}{S:List Int}(h:PB m CL H l la sa ls cs R S):∀b∈own la sa ls cs,∀u,H b=some u->(∃p,u= .lst p)\/∃C g fs,u= .ins C g fs:=λb a u e=>by
 rcases bY1.mp a with rfl|a
 ·rw[h.lst]at e;cases e;exact .inl ⟨_,rfl⟩
 rcases bY1.mp a with rfl|a
 ·rw[h.sht]at e;cases e;exact .inl ⟨_,rfl⟩
 rcases cQw.mp a with a|a
 ·obtain⟨i,c,q⟩:=cQJ a;obtain⟨o,n,r,f,d,⟨g,j⟩,k⟩:=h.get (bYR (show i<R.length by rw[<- h.len];exact c));rw[bYR c,q]at f;cases f;rw[j]at e;cases e;exact .inr ⟨_,_,_,rfl⟩
 ·obtain⟨i,c,q⟩:=cQJ a;obtain⟨o,n,r,f,d,j,k⟩:=h.get (bYR (show i<R.length by rw[<- h.clen];exact c));rw[bYR c,q]at d;cases d;rw[k]at e;cases e;exact .inl ⟨_,rfl⟩
def PB.notown{o CL:Nat}{H:Hp}{m la sa:Nat}{ls cs:List Nat}{R:Rows}{S:List Int}(h:PB o CL H m la sa ls cs R S){l:Nat}(n:∀b u,(∀k,u≠HO.tbl k)->H b=some u->b≠l):l∉own la sa ls cs:=λa=>by
 rcases bY1.mp a with e|a
 ·exact n la _ (by intro _ z;cases z) h.lst e.symm
 rcases bY1.mp a with e|a
 ·exact n sa _ (by intro _ z;cases z) h.sht e.symm
 rcases cQw.mp a with a|a
 ·obtain⟨i,c,q⟩:=cQJ a;obtain⟨r,p,s,f,d,⟨t,g⟩,j⟩:=h.get (bYR (show i<R.length by rw[<- h.len];exact c));rw[bYR c,q]at f;cases f;exact n l _ (by intro _ z;cases z) g rfl
 ·obtain⟨i,c,q⟩:=cQJ a;obtain⟨r,p,s,f,d,g,j⟩:=h.get (bYR (show i<R.length by rw[<- h.clen];exact c));rw[bYR c,q]at d;cases d;exact n l _ (by intro _ z;cases z) j rfl
def PB.notnone{a CL:Nat}{H:Hp}{c la sa:Nat}{ls cs:List Nat}{R:Rows}{S:List Int}(h:PB a CL H c la sa ls cs R S){l:Nat}(n:H l=none):l∉own la sa ls cs:=h.notown λb u _ e=>yJ e n
def bZf{j:Nat}{q:Row}{c:Nat}{name:Str}(b:q.void=false):aXi Bu (.str name) (aZL j q c)=aZL j {q with place:=name} c:=by
 have a:X3 {q with place:=name}= .str name:=aXI (r:={q with place:=name}) b;unfold aZL;rw[a];rfl
def aQt(R:Rows)(l:List Nat)(k:Nat)(name:Str):Bk.laid R (l++ [k]) name=Bk.xO (Bk.laid R l name) k λr=>{r with place:=name}:=by
 unfold Bk.laid;rw[cJ6];rfl
def aZI{R:Rows}{l:List Nat}{name:Str}{j:Nat}{q:Row}(h:R[j]? =some q):∃a,(Bk.laid R l name)[j]? =some a/\a.void=q.void:=by
 rw[Bk.uA,h];by_cases e:j∈l
 ·rw[if_pos e];exact⟨_,rfl,rfl⟩
 ·rw[if_neg e];exact⟨q,rfl,rfl⟩
inductive bQK(K:bYT)(Rf:Nat×Nat)(CB CL:Nat)(vs:List V)(H:Hp)(Q:VK)(E:XK):Prop|mk(ba la sa:Nat)(ls cs:List Nat)(R:Rows)(S:List Int)(i j:Nat)(b b2:Nat)(r q:Row)(_:vs= [.ref ba,.ref b,.ref b2])(_:PB CB CL H ba la sa ls cs R S)(_:R.length<64)(_:Bk.jG R)(_:wF Rf.2 H)(_:R[i]? =some r)(_:r.void=false)(_:R[j]? =some q)(_:q.void=false)(_:ls[i]? =some b)(_:ls[j]? =some b2)(_:(r.link≠none->xK K Rf H E "has one"))(_:(r.link=none->(Bk.thr R j).head? =some i->xK K Rf H E "own thread"))(_:(r.link=none->(Bk.thr R j).head? ≠some i->(r.way=q.way->xK K Rf H E "same way")/\(r.way≠q.way->(r.partner≠q.partner->xK K Rf H E "other partner")/\(r.partner=q.partner->(r.date<q.date->xK K Rf H E "too early")/\(q.date<=r.date->∀H',x3 H H'->wF Rf.2 H'->Q .non H')))))
section
variable {K:bYT}
def bKg:yN [A1,AC,Bh,"numbers","member",AL] [A1,AC,Bh] (yH bK8):=scM
def bWX(T:vK mg)(cl:Cl K CB CL)(a:MG P w K mg base (CXR P w) n CB Bb [A1,AC] (jR K Rf CB CL))(F:Fun K Bj "Book.lay_thread" bK8 f fd):xE P w K mg base (CXR P w) (n+1) f fd [A1,AC,Bh] (bV7 K Rf CB CL):=by
 have sc:=bKg;refine F.okX (k:=n) sc (λa0 A outer s H vs Q E hr h=>?_);obtain⟨G,I,sa,ls,cs,R,S,m,d,rfl,Z,hR,D,tb,q1,q2⟩:=h;refine⟨_,(yC (yU (i:=3) (v5 a hr zZ (pv 0) (yA (pv 1) yD))) (yC (zT PassesOwn.leaving rfl (xL (pv 3)) (y9 (i:=4)) (yC (yU (i:=5) (yL yK (y3 (pv 0) rfl) (pv 4))) (yF (zQ (pv 5) (pv 2) rfl)))) (yF (yP (yQ yO rfl T.b_len xB (yA (pv 3) yD)))))),?_⟩;obtain⟨dx,hb⟩:=Z.book;refine⟨_,rfl,G,dx,_,rfl,hb,rfl,_,rfl,G,I,sa,ls,cs,R,S,m,rfl,Z,hR,D.tree,tb,q1,λk r em W hv H1 l _ k1 t1 hl=>?_⟩;dsimp only[yW];have v:=Z.sameT k1;have a1:=Bk.wO W;refine⟨_,rfl,l,rfl,⟨_,CV hl⟩,?_⟩;refine zJ (xs:=(Bk.thr R k).map λi=>V.int (i:Nat)) (λt σ p=>L2.Ez2 λ(L M:Option V)=>σ= [some (.ref G),some (.int m),some (.str d),some (.ref l),L,M]/\PB CB CL p G I sa ls cs (Bk.laid R ((Bk.thr R k).take t) d) S/\vP (own I sa ls cs) H1 p/\p l=some (.lst ((Bk.thr R k).map λi=>V.int (i:Nat)))) ?_ ?_ ?_ ?_
 ·exact⟨none,none,rfl,v,λb u _ e=>e,hl⟩
 ·rintro t σ p ht ⟨L,M,rfl,g,y,o⟩;exact CV o
 ·rintro t x σ p C ⟨L,M,rfl,g,y,o⟩;rw[cQc]at C;cases J:(Bk.thr R k)[t]? with
  |none=>rw[J]at C;cases C
  |some j=>
   rw[J]at C;cases C;obtain⟨qj,U,N⟩:=bZU D W hv (cQa J);obtain⟨q',B,q⟩:=aZI (l:=(Bk.thr R k).take t) (name:=d) U;rw[N]at q;obtain⟨b,c,g1,g2,g3,⟨Y,g4⟩,g5⟩:=g.get B;obtain⟨O,X⟩:=g.book;dsimp only[yW];refine⟨_,rfl,G,CB,O,_,_,rfl,X,cl.b,cl.letters,rfl,_,rfl,I,_,_,_,rfl,rfl,CV g.lst,yT g1,?_⟩;dsimp only[yW];refine⟨_,rfl,_,rfl,b,CL,Y,_,rfl,g4,cl.l,cl.file,(show 9<1000 by decide),_,_,rfl,?_,y.trans (vP.upd (aJ1 (cQa g2)) _),?_⟩
   ·rw[bZf q,show(Bk.thr R k).take (t+1)=(Bk.thr R k).take t++ [j]from by rw[cQU,J];rfl,aQt];exact g.set g2 g3 B (λr=>{r with place:=d}) rfl
   ·rw[yI (λz=>by rw[z,g4]at o;cases o)];exact o
 ·rintro σ p ⟨L,M,rfl,g,y,o⟩;rw[bYW,cQP]at g;refine⟨_,rfl,l,_,rfl,.inl (CV o),?_⟩;rw[bYW];exact q2 k r em W hv p g ((Y7.of k1).trans y.t) (xU t1 y v.kinds)
abbrev aY9:Stmt:=xI Ah Bl
abbrev bVF:Stmt:=xI Ah "hang"
def bZq:yN [A1,AL,CS] [A1,AL,CS] (yH aY9):=scM
def aVF(d:Nat):∀ns:List Nat,inV (.int (d:Nat)) (ns.map λi=>V.int (i:Nat))=ns.contains d
 |[]=>rfl
 |n::r=>by have a:=aVF d r;unfold inV at a ⊢;rw[cQF,cZc,a,cZf];congr 1;show((n:Int)==(d:Int))=(d==n);rw[Bool.eq_iff_iff,beq_iff_eq,beq_iff_eq];omega
def aZw:∀ns:List Nat,(ns.map λi=>V.int (i:Nat)).all Q0=true
 |[]=>rfl
 |n::r=>by rw[cQF,cZ6,aZw r];rfl
def bXP(cl:Cl K CB CL)(o:MG P w K mg base (CXR P w) (n+1) CB Bb [A1,AC] (jR K Rf CB CL))(g:FnX P w K mg base (n+1) B6 [BD,BE] (aZc K Rf)) (m:ExG P w K mg base n "HasOne" Rf.1 C1 "has one") (d:ExG P w K mg base n "OwnThread" Rf.1 C2 "own thread") (e:ExG P w K mg base n "SameWay" Rf.1 C3 "same way") (a:ExG P w K mg base n "OtherPartner" Rf.1 C4 "other partner") (F:Fun K Bl "Book.check_hanging" aY9 f fd):xE P w K mg base (CXR P w) (n+2) f fd [A1,AL,CS] (bQK K Rf CB CL):=by
 have sc:=bZq;refine F.okX (k:=n+1) sc (λa1 A outer s H vs Q E C h=>?_);obtain⟨ba,la,sa,ls,cs,R,S,i,j,b,D,r,q,rfl,I,hR,hT,tb,L,hv,hj,hw,Y,O,q1,q2,q3⟩:=h;refine⟨_,(yC (y7 (yM wA (y3 (pv 1) rfl) x6) (yF (wB m C rfl)) yS) (yC (y7 (yM vE (y3 (pv 2) rfl) (v5 o C zZ (pv 0) (yA (y3 (pv 1) rfl) yD))) (yF (wB d C rfl)) yS) (yC (y7 (yM zI (y3 (pv 1) rfl) (y3 (pv 2) rfl)) (yF (wB e C rfl)) yS) (yC (y7 (yM Y1 (y3 (pv 1) rfl) (y3 (pv 2) rfl)) (yF (wB a C rfl)) yS) (yF (yY (aQF g C rfl (yA (y3 (pv 2) rfl) (yA (y3 (pv 1) rfl) yD))))))))),?_⟩;obtain⟨dx,hb⟩:=I.book;obtain⟨b',c1,g1,g2,g3,⟨p,T⟩,g5⟩:=I.get L;obtain rfl:b=b':=cQd (Y.symm.trans g2);obtain⟨U,c2,f1,f2,f3,⟨t,f4⟩,f5⟩:=I.get hj;obtain rfl:D=U:=cQd (O.symm.trans f2);refine⟨_,rfl,b,CL,p,_,_,rfl,T,cl.l,cl.link,rfl,rfl,_,rfl,?_⟩;cases u:r.link with
 |some x=>exact onT rfl ((q1 (by rw[u];simp)).raise m)
 |none=>
  have M:=q2 u;have X:=q3 u;refine onF rfl ⟨_,rfl,D,CL,t,_,_,rfl,f4,cl.l,cl.number,rfl,_,rfl,ba,dx,_,rfl,hb,rfl,_,rfl,b,CL,p,_,_,rfl,T,cl.l,cl.number,rfl,?_⟩;refine⟨ba,la,sa,ls,cs,R,S,(i:Nat),rfl,I,hR,hT,tb,(λZ=>by rw[qY L hv]at Z;cases Z),λk r' em hk a0 H1 l _ B G hl=>?_⟩;obtain rfl:i=k:=by omega
  refine⟨l,_,rfl,.inl (CV hl),rfl,aZw _,_,rfl,?_⟩;rw[if_neg (show ¬ (false=true) by decide),aVF];have N:=Bk.wO hj;have own:=bWf hT L u N;have y:=B _ _ (λ_ z=>by cases z) T;have v:=B _ _ (λ_ z=>by cases z) f4;refine qC (λc=>?_) (λc=>?_)
  ·exact((M (own.mp (cXt.mp c))).go ⟨B,λ_=>G⟩).raise d
  ·have W:(Bk.thr R j).head? ≠some i:=λz=>c (cXt.mpr (own.mpr z));obtain⟨q4,q5⟩:=X W;refine⟨_,rfl,b,CL,p,_,_,rfl,y,cl.l,cl.way,rfl,_,rfl,D,CL,t,_,_,rfl,v,cl.l,cl.way,rfl,rfl,_,rfl,?_⟩;have e1:decide (V.str r.way=V.str q.way)=decide (r.way=q.way):=by rw[Bool.eq_iff_iff];simp
   rw[e1];refine qC (λc=>?_) (λc=>?_)
   ·exact((q4 (of_decide_eq_true c)).go ⟨B,λ_=>G⟩).raise e
   ·obtain⟨q6,q7⟩:=q5 (of_decide_eq_false (Bool.eq_false_iff.mpr c));refine⟨_,rfl,b,CL,p,_,_,rfl,y,cl.l,cl.partner,rfl,_,rfl,D,CL,t,_,_,rfl,v,cl.l,cl.partner,rfl,rfl,_,rfl,?_⟩;have e2:decide (V.str r.partner=V.str q.partner)=decide (r.partner=q.partner):=by rw[Bool.eq_iff_iff];simp
    rw[e2];cases hp:decide (r.partner=q.partner)with
    |false=>exact onT rfl (((q6 (of_decide_eq_false hp)).go ⟨B,λ_=>G⟩).raise a)
    |true=>obtain⟨q8,q9⟩:=q7 (of_decide_eq_true hp);refine onF rfl ⟨_,rfl,D,CL,t,_,_,rfl,v,cl.l,cl.day,rfl,_,rfl,b,CL,p,_,_,rfl,y,cl.l,cl.day,rfl,q.date,r.date,rfl,λJ=>q9 J H1 B G,λJ=>(q8 J).go ⟨B,λ_=>G⟩⟩
inductive bJr(K:bYT)(Rf:Nat×Nat)(CB CL:Nat)(vs:List V)(H:Hp)(Q:VK)(E:XK):Prop|mk(ba la sa:Nat)(ls cs:List Nat)(R:Rows)(S:List Int)(m o:Int)(_:vs= [.ref ba,.int m,.int o])(_:PB CB CL H ba la sa ls cs R S)(_:R.length<64)(_:Bk.Y5 R)(_:wF Rf.2 H)(_:(Bk.wW R m=false\/Bk.wW R o=false->xK K Rf H E "no letter"))(_:∀ (i j:Nat)(r q:Row),m=(i:Int)->o=(j:Int)->R[i]? =some r->r.void=false->R[j]? =some q->q.void=false->(r.link≠none->xK K Rf H E "has one")/\(r.link=none->(Bk.thr R j).head? =some i->xK K Rf H E "own thread")/\(r.link=none->(Bk.thr R j).head? ≠some i->(r.way=q.way->xK K Rf H E "same way")/\(r.way≠q.way->(r.partner≠q.partner->xK K Rf H E "other partner")/\(r.partner=q.partner->(r.date<q.date->xK K Rf H E "too early")/\(q.date<=r.date->bWl Rf.2 CB CL ba la sa ls cs H (Bk.xO (Bk.laid R (Bk.thr R i) q.place) i λr=>{r with link:=some j}) S (Q .non))))))
def bVS:yN [A1,AC,BX,AL,CS] [A1,AC,BX] (yH bVF):=scM
def bVf(cl:Cl K CB CL)(a:MG P w K mg base (CXR P w) n CB Ab [A1,AC] (aV7 K Rf CB CL))(c:MG P w K mg base (CXR P w) n CB Bl [A1,AL,CS] (bQK K Rf CB CL))(d:MG P w K mg base (CXR P w) n CB Bj [A1,AC,Bh] (bV7 K Rf CB CL)) (F:Fun K "hang" "Book.hang" bVF f fd):xE P w K mg base (CXR P w) (n+1) f fd [A1,AC,BX] (bJr K Rf CB CL):=by
 have sc:=bVS;refine F.okX (k:=n) sc (λa3 A outer s H vs Q E L h=>?_);obtain⟨e,v,x,M,y,R,S,m,o,rfl,D,hR,I,tb,q1,q2⟩:=h;refine⟨_,(yC (yU (i:=3) (v5 a L zZ (pv 0) (yA (pv 1) yD))) (yC (yU (i:=4) (v5 a L zZ (pv 0) (yA (pv 2) yD))) (yC (yY (v5 c L zZ (pv 0) (yA (pv 3) (yA (pv 4) yD)))) (yC (yY (v5 d L zZ (pv 0) (yA (pv 1) (yA (y3 (pv 4) rfl) yD)))) (yF (zQ (pv 3) (pv 2) rfl)))))),?_⟩;obtain⟨dx,hb⟩:=D.book;refine⟨_,rfl,e,dx,_,rfl,hb,rfl,_,rfl,e,v,x,M,y,R,S,m,rfl,D,λi r b em z X G=>?_,λu=>q1 (.inl u)⟩;dsimp only[yW];refine⟨_,rfl,e,dx,_,rfl,hb,rfl,_,rfl,e,v,x,M,y,R,S,o,rfl,D,λj q T eo U hw C=>?_,λu=>q1 (.inr u)⟩;dsimp only[yW];obtain⟨q3,q4,q5⟩:=q2 i j r q em eo z X U hw;refine⟨_,rfl,e,dx,_,rfl,hb,rfl,_,rfl,_,rfl,e,v,x,M,y,R,S,i,j,b,T,r,q,rfl,D,hR,I.tree,tb,z,X,U,hw,G,C,q3,q4,λh1 h2=>?_⟩;obtain⟨q6,q7⟩:=q5 h1 h2;refine⟨q6,λh3=>?_⟩;obtain⟨q8,q9⟩:=q7 h3;refine⟨q8,λh4=>?_⟩;obtain⟨W,V⟩:=q9 h4;refine⟨W,λh5 H1 k1 t1=>?_⟩;have g:=D.sameT k1;obtain⟨Y,O⟩:=g.book;obtain⟨Z,c2,f1,f2,f3,⟨N,f4⟩,f5⟩:=g.get U;obtain rfl:T=Z:=cQd (C.symm.trans f2);refine⟨_,rfl,e,Y,_,rfl,O,rfl,_,rfl,_,rfl,T,CL,N,_,_,rfl,f4,cl.l,cl.file,rfl,?_⟩;rw[aXI hw];refine⟨e,v,x,M,y,R,S,m,q.place,rfl,g,hR,I,t1,(λu=>by rw[em,qY z X]at u;cases u),λk r' a0 hk a2 H2 p k2 t2=>?_⟩;obtain rfl:i=k:=by omega
 rw[z]at hk;cases hk;obtain⟨r2,B,a1⟩:=aZI (l:=Bk.thr R i) (name:=q.place) z;obtain⟨b',c1,g1,g2,g3,⟨J,g4⟩,g5⟩:=p.get B;obtain rfl:b=b':=cQd (G.symm.trans g2);subst eo;refine⟨_,rfl,_,rfl,b,CL,J,_,rfl,g4,cl.l,cl.link,(show 9<1000 by decide),?_⟩;have kk:=vP.upd (H:=H2) (aJ1 (la:=v) (sa:=x) (cs:=y) (cQa g2)) (.ins CL J (aZL i {r2 with link:=some j} c1));exact V h5 _ _ _ (p.set g2 g3 B (λr=>{r with link:=some j}) rfl) (((Y7.of k1).trans k2).trans kk.t) qQ.refl (xU t2 kk p.kinds)
end
end Desk
namespace Desk
open PySem L2 PyProof.Rows
open Bk (Row Rows xP Ans x2)
open Thr (wF v0 qX)
def xH:xP->List V
 |.enter e d b t=> [.str e,.int d,.str b,.int t]
 |.reply m d t=> [.str Ba,.int m,.int d,.int t]
 |.hang m o=> [.str "hang",.int m,.int o]
 |.loose m=> [.str Bv,.int m]
 |.date m d=> [.str Am,.int m,.int d]
 |.term m t=> [.str AU,.int m,.int t]
 |.copy m b=> [.str "copy",.int m,.str b]
 |.file m a=> [.str Bu,.int m,.str a]
 |.void m=> [.str Au,.int m]
 |.shut d=> [.str Ag,.int d]
 |.state m=> [.str BW,.int m]
 |.thread m=> [.str B7,.int m]
 |.copies m=> [.str BJ,.int m]
 |.letters a=> [.str B0,.str a]
 |.on c d=> [.str (if c then AT else AS),.int d]
def vJ(o:List Nat)(H:Hp):Ans->V->Prop
 |.num n,v=>v= .int n
 |.txt x,v=>v= .str x
 |.nums l,v=>∃p,v= .ref p/\p∉o/\H p=some (.lst (l.map λi=>V.int (i:Nat)))
 |.txts l,v=>∃p,v= .ref p/\p∉o/\H p=some (.lst (l.map V.str))
 |.row r,v=>∃p,v= .ref p/\p∉o/\H p=some (.tup (stV r))
def uR(H:Hp)(v:V):Prop:=∀p,v= .ref p->∀u,(∀a,u≠HO.tbl a)->H p≠some u
def uR.none{H:Hp}{l:Nat}(h:H l=none):uR H (.ref l):=λp z u _ e=>by cases z;rw[h]at e;cases e
def uR.nl{H:Hp}{l:Nat}(h:∀b u,(∀a,u≠HO.tbl a)->H b=some u->b≠l):uR H (.ref l):=λp z u c e=>by cases z;exact h _ u c e rfl
structure Sz(R:Rows)(S:List Int):Prop where
 r:R.length<64
 s:S.length<64
 c:∀r∈R,r.copies.length<=1000
inductive aJc(K:bYT)(Rf:Nat×Nat)(CB CL:Nat)(p:xP->Prop)(vs:List V)(H:Hp)(Q:VK)(E:XK):Prop|mk(ba da la sa:Nat)(ls cs:List Nat)(R:Rows)(S:List Int)(e:xP)(_:vs= [.ref ba,.ref da])(_:p e)(_:H da=some (.tup (xH e)))(_:PB CB CL H ba la sa ls cs R S)(_:Sz R S)(_:Bk.Y5 R)(_:wF Rf.2 H)(_:(∀ (a:Ans)(R':Rows)(S':List Int)(v:V)(H':Hp)(ls' cs':List Nat),x2 R S e a R' S'->PB CB CL H' ba la sa ls' cs' R' S'->Y7 (own la sa ls cs) H H'->qQ H (own la sa ls cs) (own la sa ls' cs')->wF Rf.2 H'->vJ (own la sa ls' cs') H' a v->uR H v->Q v H'))(_:(∀t,x2 R S e (.txt t) R S->xK K Rf H E t))
section
variable {K:bYT}
abbrev Z3:Stmt:=xF "do_enter"
def aVm:yN [AJ,AM] [AJ,AM] (yH Z3):=scM
def aJU(a:MG P w K mg base (CXR P w) n CB "enter" [A1,BV,AZ,Aa,AU] (bQO K Rf CB CL))(F:Fun K "do_enter" "do_enter" Z3 f fd):xE P w K mg base (CXR P w) (n+1) f fd [AJ,AM] (aJc K Rf CB CL λe=>∃ (c:Str)(d:Int)(b:Str)(t:Int),e= .enter c d b t):=by
 have J:=aVm;refine F.okX (k:=n) J (λD A outer s H U Q E O h=>?_);obtain⟨v,i,x,y,C,B,R,S,e,rfl,⟨c,d,b,t,rfl⟩,g,l,M,G,tb,q,T⟩:=h;refine⟨_,(yF (yP (v5 a O zZ (pv 0) (yA (yL yX (pv 1) yE) (yA (yL yX (pv 1) yE) (yA (yL yX (pv 1) yE) (yA (yL yX (pv 1) yE) yD))))))),?_⟩;obtain⟨I,N⟩:=l.book;have tk:∀ {j},vP (own x y C B) H j->wF Rf.2 j:=λk=>xU tb k l.kinds;have g:H i=some (.tup _):=g;refine⟨_,rfl,v,I,_,rfl,N,rfl,_,rfl,i,_,0,_,rfl,rfl,CW g,rfl,_,rfl,i,_,1,_,rfl,rfl,CW g,rfl,_,rfl,i,_,2,_,rfl,rfl,CW g,rfl,_,rfl,i,_,3,_,rfl,rfl,CW g,rfl,?_⟩;refine⟨v,x,y,C,B,R,S,c,d,b,t,rfl,l,by have:=M.r;omega,λu j p o m k L=>?_,λu=>T _ (.enterT u)⟩;exact q (.num R.length) _ _ _ j p o (.enter u) m k.t L (tk k) rfl (λ_ z=>nomatch z)
abbrev Z5:Stmt:=xF "do_reply"
def aVo:yN [AJ,AM] [AJ,AM] (yH Z5):=scM
def aJW(a:MG P w K mg base (CXR P w) n CB Ba [A1,AC,AZ,AU] (bQT K Rf CB CL))(F:Fun K "do_reply" "do_reply" Z5 f fd):xE P w K mg base (CXR P w) (n+1) f fd [AJ,AM] (aJc K Rf CB CL λe=>∃ (m:Int)(d:Int)(t:Int),e= .reply m d t):=by
 have M:=aVo;refine F.okX (k:=n) M (λI A outer s H W Q E V h=>?_);obtain⟨x,g,y,B,D,C,R,S,e,rfl,⟨m,d,t,rfl⟩,b,j,T,J,tb,q,u⟩:=h;refine⟨_,(yF (yP (v5 a V zZ (pv 0) (yA (yL yX (pv 1) yE) (yA (yL yX (pv 1) yE) (yA (yL yX (pv 1) yE) yD)))))),?_⟩;obtain⟨L,U⟩:=j.book;have tk:∀ {c},vP (own y B D C) H c->wF Rf.2 c:=λk=>xU tb k j.kinds;have b:H g=some (.tup _):=b;refine⟨_,rfl,x,L,_,rfl,U,rfl,_,rfl,g,_,1,_,rfl,rfl,CW b,rfl,_,rfl,g,_,2,_,rfl,rfl,CW b,rfl,_,rfl,g,_,3,_,rfl,rfl,CW b,rfl,?_⟩;refine⟨x,y,B,D,C,R,S,m,d,t,rfl,j,by have:=T.r;omega,λh=>u _ (.replyN h),λh i=>u _ (.replyT h i),λk r O v G i=>?_⟩;subst O;exact⟨λb=>u _ (.replyE v G i b),λb c p o l k N=>q (.num R.length) _ _ _ c p o (.reply v G i b) l k.t N (tk k) rfl (λ_ z=>nomatch z)⟩
abbrev aQW:Stmt:=xF "do_hang"
def aKp:yN [AJ,AM] [AJ,AM] (yH aQW):=scM
def aW4(a:MG P w K mg base (CXR P w) n CB "hang" [A1,AC,BX] (bJr K Rf CB CL))(F:Fun K "do_hang" "do_hang" aQW f fd):xE P w K mg base (CXR P w) (n+1) f fd [AJ,AM] (aJc K Rf CB CL λe=>∃ (m:Int)(o:Int),e= .hang m o):=by
 have X:=aKp;refine F.okX (k:=n) X (λU A outer s H vs Q E hr h=>?_);obtain⟨L,J,M,N,T,O,R,S,e,rfl,⟨m,o,rfl⟩,u,B,hz,y,tb,q,l⟩:=h;refine⟨_,(yC (yY (v5 a hr zZ (pv 0) (yA (yL yX (pv 1) yE) (yA (yL yX (pv 1) yE) yD)))) (yF (yP yR))),?_⟩;obtain⟨W,hb⟩:=B.book;have tk:∀ {x},vP (own M N T O) H x->wF Rf.2 x:=λk=>xU tb k B.kinds;have u:H J=some (.tup _):=u;refine⟨_,rfl,L,W,_,rfl,hb,rfl,_,rfl,J,_,1,_,rfl,rfl,CW u,rfl,_,rfl,J,_,2,_,rfl,rfl,CW u,rfl,?_⟩;refine⟨L,M,N,T,O,R,S,m,o,rfl,B,hz.r,y,tb,λh=>l _ (.hangN h),λi j r q' Z V c g b hw=>?_⟩;subst Z;subst V;refine⟨λh=>l _ (.hangH c g b hw h),λh d=>l _ (.hangO c g b hw h d),λh d=>⟨λp=>l _ (.hangW c g b hw h d p),λp=>⟨λv=>l _ (.hangP c g b hw h d p v),λv=>⟨λG=>l _ (.hangE c g b hw h d p v G),λG x I D C k Y t=>?_⟩⟩⟩⟩;exact q (.txt "hung") _ _ _ x I D (.hang c g b hw h d p v G) C k Y t rfl (λ_ z=>nomatch z)
abbrev Z4:Stmt:=xF "do_loose"
def aVn:yN [AJ,AM] [AJ,AM] (yH Z4):=scM
def aJV(a:MG P w K mg base (CXR P w) n CB "loosen" [A1,AC] (aWf K Rf CB CL))(F:Fun K "do_loose" "do_loose" Z4 f fd):xE P w K mg base (CXR P w) (n+1) f fd [AJ,AM] (aJc K Rf CB CL λe=>∃ (m:Int),e= .loose m):=by
 have J:=aVn;refine F.okX (k:=n) J (λD A outer s H T Q E O h=>?_);obtain⟨o,B,p,u,x,v,R,S,e,rfl,⟨m,rfl⟩,c,d,U,G,tb,q,C⟩:=h;refine⟨_,(yC (yY (v5 a O zZ (pv 0) (yA (yL yX (pv 1) yE) yD))) (yF (yP yR))),?_⟩;obtain⟨I,N⟩:=d.book;have tk:∀ {b},vP (own p u x v) H b->wF Rf.2 b:=λk=>xU tb k d.kinds;have c:H B=some (.tup _):=c;refine⟨_,rfl,o,I,_,rfl,N,rfl,_,rfl,B,_,1,_,rfl,rfl,CW c,rfl,?_⟩;refine⟨o,p,u,x,v,R,S,m,rfl,d,λh=>C _ (.oneN h (.inl rfl)),λk r M l y=>?_⟩;subst M;exact⟨λh=>C _ (.looseN l y h),λh b j i g k L=>q (.txt Bv) _ _ _ b j i (.loose l y h) g k.t L (tk k) rfl (λ_ z=>nomatch z)⟩
abbrev aQU:Stmt:=xF "do_date"
def aKn:yN [AJ,AM] [AJ,AM] (yH aQU):=scM
def aW2(a:MG P w K mg base (CXR P w) n CB "put_day" [A1,AC,AZ] (aWg K Rf CB CL))(F:Fun K "do_date" "do_date" aQU f fd):xE P w K mg base (CXR P w) (n+1) f fd [AJ,AM] (aJc K Rf CB CL λe=>∃ (m:Int)(d:Int),e= .date m d):=by
 have L:=aKn;refine F.okX (k:=n) L (λI A outer s H X Q E V h=>?_);obtain⟨v,p,x,y,C,B,R,S,e,rfl,⟨m,d,rfl⟩,b,i,O,g,tb,q,G⟩:=h;refine⟨_,(yC (yY (v5 a V zZ (pv 0) (yA (yL yX (pv 1) yE) (yA (yL yX (pv 1) yE) yD)))) (yF (yP yR))),?_⟩;obtain⟨J,U⟩:=i.book;have tk:∀ {c},vP (own x y C B) H c->wF Rf.2 c:=λk=>xU tb k i.kinds;have b:H p=some (.tup _):=b;refine⟨_,rfl,v,J,_,rfl,U,rfl,_,rfl,p,_,1,_,rfl,rfl,CW b,rfl,_,rfl,p,_,2,_,rfl,rfl,CW b,rfl,?_⟩;refine⟨v,x,y,C,B,R,S,m,d,rfl,i,by have:=O.r;omega,g,λh=>G _ (.oneN h (.inr (.inl ⟨d,rfl⟩))),λk r N u D=>?_⟩;subst N;exact⟨λh=>G _ (.dateE u D h),λT W c o l j k M=>q (.txt "dated") _ _ _ c o l (.date u D T W) j k.t M (tk k) rfl (λ_ z=>nomatch z)⟩
abbrev aQY:Stmt:=xF "do_term"
def aKr:yN [AJ,AM] [AJ,AM] (yH aQY):=scM
def aW6(a:MG P w K mg base (CXR P w) n CB "put_term" [A1,AC,AU] (aJe K Rf CB CL))(F:Fun K "do_term" "do_term" aQY f fd):xE P w K mg base (CXR P w) (n+1) f fd [AJ,AM] (aJc K Rf CB CL λe=>∃ (m:Int)(t:Int),e= .term m t):=by
 have J:=aKr;refine F.okX (k:=n) J (λD A outer s H T Q E O h=>?_);obtain⟨p,l,u,v,y,x,R,S,e,rfl,⟨m,t,rfl⟩,b,d,U,G,tb,q,C⟩:=h;refine⟨_,(yC (yY (v5 a O zZ (pv 0) (yA (yL yX (pv 1) yE) (yA (yL yX (pv 1) yE) yD)))) (yF (yP yR))),?_⟩;obtain⟨I,N⟩:=d.book;have tk:∀ {c},vP (own u v y x) H c->wF Rf.2 c:=λk=>xU tb k d.kinds;have b:H l=some (.tup _):=b;refine⟨_,rfl,p,I,_,rfl,N,rfl,_,rfl,l,_,1,_,rfl,rfl,CW b,rfl,_,rfl,l,_,2,_,rfl,rfl,CW b,rfl,?_⟩;refine⟨p,u,v,y,x,R,S,m,t,rfl,d,λh=>C _ (.oneN h (.inr (.inr (.inl ⟨t,rfl⟩)))),λk r M o B=>?_⟩;subst M;exact⟨λh=>C _ (.termN o B h),λh c j i g k L=>q (.txt B4) _ _ _ c j i (.term o B h) g k.t L (tk k) rfl (λ_ z=>nomatch z)⟩
abbrev aQT:Stmt:=xF "do_copy"
def aKm:yN [AJ,AM] [AJ,AM] (yH aQT):=scM
def aW1(a:MG P w K mg base (CXR P w) n CB "send_copy" [A1,AC,BY] (bJv K Rf CB CL))(F:Fun K "do_copy" "do_copy" aQT f fd):xE P w K mg base (CXR P w) (n+1) f fd [AJ,AM] (aJc K Rf CB CL λe=>∃ (m:Int)(b:Str),e= .copy m b):=by
 have M:=aKm;refine F.okX (k:=n) M (λI A outer s H Y Q E W h=>?_);obtain⟨v,p,x,y,C,B,R,S,e,rfl,⟨m,b,rfl⟩,d,i,T,J,tb,q,G⟩:=h;refine⟨_,(yF (yP (v5 a W zZ (pv 0) (yA (yL yX (pv 1) yE) (yA (yL yX (pv 1) yE) yD))))),?_⟩;obtain⟨L,V⟩:=i.book;have tk:∀ {g},vP (own x y C B) H g->wF Rf.2 g:=λk=>xU tb k i.kinds;have d:H p=some (.tup _):=d;refine⟨_,rfl,v,L,_,rfl,V,rfl,_,rfl,p,_,1,_,rfl,rfl,CW d,rfl,_,rfl,p,_,2,_,rfl,rfl,CW d,rfl,?_⟩;refine⟨v,x,y,C,B,R,S,m,b,rfl,i,T.c,λh=>G _ (.oneN h (.inr (.inr (.inr (.inl ⟨b,rfl⟩))))),λk r O u D=>?_⟩;subst O;exact⟨λh=>G _ (.copyC u D h),λU X g o l j k N=>q (.num (r.copies.length+1)) _ _ _ g o l (.copy u D U X) j k.t N (tk k) rfl (λ_ z=>nomatch z)⟩
abbrev aQV:Stmt:=xF "do_file"
def aKo:yN [AJ,AM] [AJ,AM] (yH aQV):=scM
def aW3(a:MG P w K mg base (CXR P w) n CB Bj [A1,AC,Bh] (bV7 K Rf CB CL))(F:Fun K "do_file" "do_file" aQV f fd):xE P w K mg base (CXR P w) (n+1) f fd [AJ,AM] (aJc K Rf CB CL λe=>∃ (m:Int)(name:Str),e= .file m name):=by
 have C:=aKo;refine F.okX (k:=n) C (λv A outer s H O Q E L h=>?_);obtain⟨p,o,t,u,j,i,R,S,e,rfl,⟨m,name,rfl⟩,b,g,G,d,tb,q,N⟩:=h;refine⟨_,(yF (yP (v5 a L zZ (pv 0) (yA (yL yX (pv 1) yE) (yA (yL yX (pv 1) yE) yD))))),?_⟩;obtain⟨B,J⟩:=g.book;have tk:∀ {c},vP (own t u j i) H c->wF Rf.2 c:=λk=>xU tb k g.kinds;have b:H o=some (.tup _):=b;refine⟨_,rfl,p,B,_,rfl,J,rfl,_,rfl,o,_,1,_,rfl,rfl,CW b,rfl,_,rfl,o,_,2,_,rfl,rfl,CW b,rfl,?_⟩;refine⟨p,t,u,j,i,R,S,m,name,rfl,g,G.r,d,tb,λh=>N _ (.oneN h (.inr (.inr (.inr (.inr (.inl ⟨name,rfl⟩)))))),λk r D x y c l M I=>?_⟩;subst D;exact q (.num (Bk.thr R k).length) _ _ _ c j i (.file x y) l M qQ.refl I rfl (λ_ z=>nomatch z)
abbrev aQZ:Stmt:=xF "do_void"
def aKs:yN [AJ,AM] [AJ,AM] (yH aQZ):=scM
def aW7(a:MG P w K mg base (CXR P w) n CB "cancel" [A1,AC] (aV9 K Rf CB CL))(F:Fun K "do_void" "do_void" aQZ f fd):xE P w K mg base (CXR P w) (n+1) f fd [AJ,AM] (aJc K Rf CB CL λe=>∃ (m:Int),e= .void m):=by
 have J:=aKs;refine F.okX (k:=n) J (λD A outer s H U Q E T h=>?_);obtain⟨o,B,p,u,x,v,R,S,e,rfl,⟨m,rfl⟩,c,d,N,G,tb,q,C⟩:=h;refine⟨_,(yC (yY (v5 a T zZ (pv 0) (yA (yL yX (pv 1) yE) yD))) (yF (yP yR))),?_⟩;obtain⟨I,O⟩:=d.book;have tk:∀ {b},vP (own p u x v) H b->wF Rf.2 b:=λk=>xU tb k d.kinds;have c:H B=some (.tup _):=c;refine⟨_,rfl,o,I,_,rfl,O,rfl,_,rfl,B,_,1,_,rfl,rfl,CW c,rfl,?_⟩;refine⟨o,p,u,x,v,R,S,m,rfl,d,by have:=N.r;omega,λh=>C _ (.oneN h (.inr (.inr (.inr (.inr (.inr (.inl rfl))))))),λk r M l y=>?_⟩;subst M;exact⟨λh=>C _ (.voidA l y h),λh b j i g k L=>q (.txt Au) _ _ _ b j i (.void l y h) g k.t L (tk k) rfl (λ_ z=>nomatch z)⟩
abbrev aQX:Stmt:=xF "do_shut"
def aKq:yN [AJ,AM] [AJ,AM] (yH aQX):=scM
def aW5(a:MG P w K mg base (CXR P w) n CB "shut_day" [A1,AZ] (bJw K Rf CB CL))(F:Fun K "do_shut" "do_shut" aQX f fd):xE P w K mg base (CXR P w) (n+1) f fd [AJ,AM] (aJc K Rf CB CL λe=>∃ (d:Int),e= .shut d):=by
 have C:=aKq;refine F.okX (k:=n) C (λx A outer s H M Q E J h=>?_);obtain⟨m,v,o,p,u,r,R,S,e,rfl,⟨d,rfl⟩,c,g,G,y,tb,q,L⟩:=h;refine⟨_,(yC (yY (v5 a J zZ (pv 0) (yA (yL yX (pv 1) yE) yD))) (yF (yP yR))),?_⟩;obtain⟨B,I⟩:=g.book;have tk:∀ {b},vP (own o p u r) H b->wF Rf.2 b:=λk=>xU tb k g.kinds;have c:H v=some (.tup _):=c;refine⟨_,rfl,m,B,_,rfl,I,rfl,_,rfl,v,_,1,_,rfl,rfl,CW c,rfl,?_⟩;refine⟨m,o,p,u,r,R,S,d,rfl,g,by have:=G.s;omega,λh=>L _ (.shutN h),λh b l j i k D=>?_⟩;exact q (.txt Ag) _ _ _ b l j (.shut h) i k.t D (tk k) rfl (λ_ z=>nomatch z)
abbrev qO:Stmt:=xF "ask_state"
def aZ6:yN [AJ,AM] [AJ,AM] (yH qO):=scM
def aZR(a:MG P w K mg base (CXR P w) n CB "state_of" [A1,AC] (aJg K Rf CB CL))(F:Fun K "ask_state" "ask_state" qO f fd):xE P w K mg base (CXR P w) (n+1) f fd [AJ,AM] (aJc K Rf CB CL λe=>∃ (m:Int),e= .state m):=by
 have B:=aZ6;refine F.okX (k:=n) B (λv A outer s H L Q E G h=>?_);obtain⟨j,u,o,p,g,d,R,S,e,rfl,⟨m,rfl⟩,c,b,M,y,tb,q,J⟩:=h;refine⟨_,(yF (yP (v5 a G zZ (pv 0) (yA (yL yX (pv 1) yE) yD)))),?_⟩;obtain⟨z,D⟩:=b.book;have tk:∀ {H'},vP (own o p g d) H H'->wF Rf.2 H':=λk=>xU tb k b.kinds;have c:H u=some (.tup _):=c;refine⟨_,rfl,j,z,_,rfl,D,rfl,_,rfl,u,_,1,_,rfl,rfl,CW c,rfl,?_⟩;refine⟨j,o,p,g,d,R,S,m,rfl,b,λk r l C x I hl=>?_,λh=>J _ (.oneN h (.inr (.inr (.inr (.inr (.inr (.inr (.inl rfl))))))))⟩;subst C;have i:=yG hl (.tup (stV r));exact q (.row r) _ _ _ _ g d (.state x I) (b.same i) (Y7.of i.t) qQ.refl (tk (vP.of i)) ⟨l,rfl,b.notnone hl,yB⟩ (uR.none hl)
abbrev jA:Stmt:=xF CN
def aX7:yN [AJ,AM] [AJ,AM] (yH jA):=scM
def aXQ(a:MG P w K mg base (CXR P w) n CB Bb [A1,AC] (jR K Rf CB CL))(F:Fun K CN CN jA f fd):xE P w K mg base (CXR P w) (n+1) f fd [AJ,AM] (aJc K Rf CB CL λe=>∃ (m:Int),e= .thread m):=by
 have B:=aX7;refine F.okX (k:=n) B (λx A outer s H N Q E J h=>?_);obtain⟨o,v,p,t,j,i,R,S,e,rfl,⟨m,rfl⟩,g,b,D,d,tb,q,M⟩:=h;refine⟨_,(yF (yP (v5 a J zZ (pv 0) (yA (yL yX (pv 1) yE) yD)))),?_⟩;obtain⟨z,I⟩:=b.book;have tk:∀ {c},vP (own p t j i) H c->wF Rf.2 c:=λk=>xU tb k b.kinds;have g:H v=some (.tup _):=g;refine⟨_,rfl,o,z,_,rfl,I,rfl,_,rfl,v,_,1,_,rfl,rfl,CW g,rfl,?_⟩;refine⟨o,p,t,j,i,R,S,m,rfl,b,D.r,d.tree,tb,λh=>M _ (.oneN h (.inr (.inr (.inr (.inr (.inr (.inr (.inr (.inl rfl))))))))),λk r C y L c l nl u G hl=>?_⟩;subst C;exact q (.nums (Bk.thr R k)) _ _ _ c j i (.thread y L) (b.sameT u) (Y7.of u) qQ.refl G ⟨l,rfl,b.notown nl,hl⟩ (uR.nl nl)
abbrev u9:Stmt:=xF CO
def aX6:yN [AJ,AM] [AJ,AM] (yH u9):=scM
def aXP(a:MG P w K mg base (CXR P w) n CB "copies_of" [A1,AC] (aWb K Rf CB CL))(F:Fun K CO CO u9 f fd):xE P w K mg base (CXR P w) (n+1) f fd [AJ,AM] (aJc K Rf CB CL λe=>∃ (m:Int),e= .copies m):=by
 have B:=aX6;refine F.okX (k:=n) B (λv A outer s H L Q E G h=>?_);obtain⟨j,u,o,p,g,d,R,S,e,rfl,⟨m,rfl⟩,c,b,M,y,tb,q,J⟩:=h;refine⟨_,(yF (yP (v5 a G zZ (pv 0) (yA (yL yX (pv 1) yE) yD)))),?_⟩;obtain⟨z,D⟩:=b.book;have tk:∀ {H'},vP (own o p g d) H H'->wF Rf.2 H':=λk=>xU tb k b.kinds;have c:H u=some (.tup _):=c;refine⟨_,rfl,j,z,_,rfl,D,rfl,_,rfl,u,_,1,_,rfl,rfl,CW c,rfl,?_⟩;refine⟨j,o,p,g,d,R,S,m,rfl,b,λk r l C x I hl=>?_,λh=>J _ (.oneN h (.inr (.inr (.inr (.inr (.inr (.inr (.inr (.inr rfl)))))))))⟩;subst C;have i:=yG hl (.lst (r.copies.map V.str));exact q (.txts r.copies) _ _ _ _ g d (.copies x I) (b.same i) (Y7.of i.t) qQ.refl (tk (vP.of i)) ⟨l,rfl,b.notnone hl,yB⟩ (uR.none hl)
abbrev uF:Stmt:=xF CA
def aXj:yN [AJ,AM] [AJ,AM] (yH uF):=scM
def aXe(a:MG P w K mg base CX0 n CB CM [A1,Bh] (aQ2 CB CL))(F:Fun K CA CA uF f fd):xE P w K mg base (CXR P w) (n+1) f fd [AJ,AM] (aJc K Rf CB CL λe=>∃ (name:Str),e= .letters name):=by
 have z:=aXj;refine F.okX (k:=n) z (λv A outer s H G Q E D h=>?_);obtain⟨m,u,o,p,g,d,R,S,e,rfl,⟨name,rfl⟩,c,b,B,x,tb,q,I⟩:=h;refine⟨_,(yF (yP (v5 a D v1 (pv 0) (yA (yL yX (pv 1) yE) yD)))),?_⟩;obtain⟨y,C⟩:=b.book;have tk:∀ {H'},vP (own o p g d) H H'->wF Rf.2 H':=λk=>xU tb k b.kinds;have c:H u=some (.tup _):=c;refine⟨_,rfl,m,y,_,rfl,C,rfl,_,rfl,u,_,1,_,rfl,rfl,CW c,rfl,?_⟩;refine⟨m,o,p,g,d,R,S,name,rfl,b,B.r,λl hl=>?_⟩;have j:=yG hl (.lst ((Z8 R name).map λi=>V.int (i:Nat)));exact q (.nums (Z8 R name)) _ _ _ _ g d .letters (b.same j) (Y7.of j.t) qQ.refl (tk (vP.of j)) ⟨l,rfl,b.notnone hl,yB⟩ (uR.none hl)
abbrev uH:Stmt:=xF CC
def aXl:yN [AJ,AM] [AJ,AM] (yH uH):=scM
def aXg(a:MG P w K mg base CX0 n CB AS [A1,AZ] (bKF CB CL false))(F:Fun K CC CC uH f fd):xE P w K mg base (CXR P w) (n+1) f fd [AJ,AM] (aJc K Rf CB CL λe=>∃ (d:Int),e= .on false d):=by
 have G:=aXl;refine F.okX (k:=n) G (λB A outer s H M Q E L h=>?_);obtain⟨u,z,v,x,m,j,R,S,e,rfl,⟨d,rfl⟩,i,b,y,C,tb,q,N⟩:=h;refine⟨_,(yF (yP (v5 a L v1 (pv 0) (yA (yL yX (pv 1) yE) yD)))),?_⟩;obtain⟨D,J⟩:=b.book;have tk:∀ {c},vP (own v x m j) H c->wF Rf.2 c:=λk=>xU tb k b.kinds;have i:H z=some (.tup _):=i;refine⟨_,rfl,u,D,_,rfl,J,rfl,_,rfl,z,_,1,_,rfl,rfl,CW i,rfl,?_⟩;refine⟨u,v,x,m,j,R,S,d,rfl,b,y.r,y.s,λl c I p hl o g=>?_⟩;exact q (.nums I) _ _ _ c m j (.on g) (b.same p) (Y7.of p.t) qQ.refl (tk (vP.of p)) ⟨l,rfl,b.notnone hl,o⟩ (uR.none hl)
abbrev uG:Stmt:=xF CD
def aXk:yN [AJ,AM] [AJ,AM] (yH uG):=scM
def aXf(a:MG P w K mg base CX0 n CB AT [A1,AZ] (bKF CB CL true))(F:Fun K CD CD uG f fd):xE P w K mg base (CXR P w) (n+1) f fd [AJ,AM] (aJc K Rf CB CL λe=>∃ (d:Int),e= .on true d):=by
 have G:=aXk;refine F.okX (k:=n) G (λB A outer s H M Q E L h=>?_);obtain⟨u,z,v,x,m,j,R,S,e,rfl,⟨d,rfl⟩,i,b,y,C,tb,q,N⟩:=h;refine⟨_,(yF (yP (v5 a L v1 (pv 0) (yA (yL yX (pv 1) yE) yD)))),?_⟩;obtain⟨D,J⟩:=b.book;have tk:∀ {c},vP (own v x m j) H c->wF Rf.2 c:=λk=>xU tb k b.kinds;have i:H z=some (.tup _):=i;refine⟨_,rfl,u,D,_,rfl,J,rfl,_,rfl,z,_,1,_,rfl,rfl,CW i,rfl,?_⟩;refine⟨u,v,x,m,j,R,S,d,rfl,b,y.r,y.s,λl c I p hl o g=>?_⟩;exact q (.nums I) _ _ _ c m j (.on g) (b.same p) (Y7.of p.t) qQ.refl (tk (vP.of p)) ⟨l,rfl,b.notnone hl,o⟩ (uR.none hl)
end
end Desk
namespace Desk
open PySem L2 PyProof.Rows
open Bk (Row Rows xP Ans x2)
open Thr (wF v0 qX)
structure bKP(P:cQe)(w:cQm)(K:bYT)(D:Nat)(kvs:List (Key×bYS)):Prop where
 at_:∃o es ep,K.lookup D=some o/\o.ExactDict/\o.data= .dict es ep/\KeysOf (zD P w) es/\Pairs (zD P w) es.toList kvs/\(kvs.map (·.1)).Nodup
inductive bYg(kvs:List (Key×bYS))(Q:VK)(y:V)(H1:Hp):Prop|mk(x:Str)(f:Nat)(_:y= .str x)(_:cJe kvs (Sum.inr x)=some (.ref f))(_:Q (.ref f) H1)
def bYQ(a:List (Key×bYS))(b:TE):TE:=λσ H Q=>b σ H λy c=>bYg a Q y c
def bW3{X:Cx}{x:Str}{D:Nat}{a:List (Key×bYS)}{i:Expr}{d:TE}{p pos:Pos}(m:Gl X x)(l:X.mg x=some (.ref D))(T:bKP X.prog X.w X.K D a)(j:PE X i d)(A:bYk i)(c:(x==(AO:Str))=false:=by decide):
  PE X (.Subscript (.Name x p) i pos) (bYQ a d):=by
 intro b s σ H Q I h
 refine bV8 PySem.F.slot_dict_getitem.lookup A (uX I m l (thn (j b s σ H _ I h) λiv s2 ⟨y,H2,I2,ry,x',f,ex,hv,q2⟩=>?_) c)
 subst ex
 obtain⟨o,q,n,v,z,r,t,g,u⟩:=T.at_
 have e:s2.heap.DictOf (zD X.prog X.w) D a:=⟨o,q,n,I2.kIn _ _ v,z,r,t,g,u⟩
 exact⟨e.typeIs,wpAny_getItem_of (bXs (k:=Sum.inr x') ry) e.mapOf hv ⟨.ref f,H2,I2.tok _,rfl,q2⟩⟩
inductive bJy(P:cQe)(w:cQm)(K:bYT)(mg:Str->Option bYS)(base:Heap)(k i:Nat)(E:XK)(t:TA)(σ:L2.St)(H:Hp)(Q:VK):Prop|mk(f)(_:σ[i]? =some (some (.ref f)))(_:cQO K (.ref f)=true)(_:t σ H λvs H1=>∃fd ps sp,xE P w K mg base (CXR P w) k f fd ps sp/\v7 K fd ps []/\sp vs H1 Q E)
def bX9{X:Cx}{k i:Nat}{x:Str}{e:Expr}{c:List Expr}{t:TA}{E:XK}{p pos:Pos}(D:vX k X.A)(J:X.N[i]? =some x)(L:Vis X.env.scope x)(n:vQ (CXR X.prog X.w) X E)(C:PA X (e::c) t)
  (l:(x==(AO:Str))=false:=by decide) (j:(x==(B8:Str))=false:=by decide) (y:cQy (e::c) X.env=(false,eval e X.env)::cQy c X.env:=by rfl) (d:(cXw pos (cQy c X.env)).any (·.1)=false:=by rfl):
  PE X (.Call (.Name x p) (e::c) [] pos) (bJy X.prog X.w X.K X.mg X.base k i E t):=by
 intro a s σ H Q I h
 obtain⟨f,G,z,q⟩:=h
 refine cXx (thn (bJm (pos:=p) J L l j a s σ H (λv g=>v= .ref f/\g=H) I ⟨_,G,rfl,rfl⟩) ?_)
 rintro u m ⟨v,g,o,B,rfl,rfl⟩
 obtain rfl:u=Value.ref f:=B
 refine cZJ (h₀:=X.base) I.ok.mod.kin z (thn (C pos a m σ g _ o q) λus s2 ⟨vs,H2,I2,r,fd,ps,sp,F,b,q2⟩=>⟨I2.kIn,?_⟩) y d
 exact aZ2 F D b .nil n I2 r (by rw[cQV];exact q2)
def aYi:xP->Str
 |.enter b _ _ _=>b
 |.reply _ _ _=>Ba
 |.hang _ _=>"hang"
 |.loose _=>Bv
 |.date _ _=>Am
 |.term _ _=>AU
 |.copy _ _=>"copy"
 |.file _ _=>Bu
 |.void _=>Au
 |.shut _=>Ag
 |.state _=>BW
 |.thread _=>B7
 |.copies _=>BJ
 |.letters _=>B0
 |.on a _=>if a then AT else AS
def Wf:xP->Prop
 |.enter a _ _ _=>a="in"\/a=BK
 |_=>True
def bXf(e:xP):atI (xH e) 0=some (.str (aYi e)):=by cases e<;> rfl
def bWm(P:cQe)(w:cQm)(K:bYT)(mg:Str->Option bYS)(base:Heap)(n:Nat)(Rf:Nat×Nat)(c CL:Nat)(a:List (Key×bYS)):Prop:=∀e:xP,Wf e->∃ (f:Nat)(b:cXR)(p:xP->Prop),cJe a (Sum.inr (aYi e))=some (.ref f)/\
 xE P w K mg base (CXR P w) n f b [AJ,AM] (aJc K Rf c CL p)/\p e/\v7 K b [AJ,AM] []/\cQO K (.ref f)=true
inductive aQb(Rf:Nat×Nat)(CB CL:Nat)(vs:List V)(H:Hp)(Q:VK)(_:XK):Prop|mk(ba da la sa:Nat)(ls cs:List Nat)(R:Rows)(S:List Int)(e:xP)(_:vs= [.ref ba,.ref da])(_:Wf e)(_:H da=some (.tup (xH e)))(_:PB CB CL H ba la sa ls cs R S)(_:Sz R S)(_:Bk.Y5 R)(_:wF Rf.2 H)(_:∀ (a:Ans)(R':Rows)(S':List Int)(v:V)(H':Hp)(ls' cs':List Nat),x2 R S e a R' S'->PB CB CL H' ba la sa ls' cs' R' S'->Y7 (own la sa ls cs) H H'->qQ H (own la sa ls cs) (own la sa ls' cs')->wF Rf.2 H'->vJ (own la sa ls' cs') H' a v->uR H v->Q v H')
section
variable {K:bYT}
abbrev aJ8:Stmt:=xF CF
def bQs:yN [AJ,AM,"do","refusal"] [AJ,AM] (yH aJ8):=scM
def aYF(Z:mg "DEEDS"=some (.ref D))(V:bKP P w K D kvs)(hR:mg Ai=some (.ref Rf.1))(N:v8 K Rf.1)(all:bWm P w K mg base n Rf CB CL kvs)(F:Fun K CF CF aJ8 f fd): xE P w K mg base CX0 (n+1) f fd [AJ,AM] (aQb Rf CB CL):=by
 have p:=bQs;refine F.ok (k:=n) p (λy A outer s H vs Q E X h=>?_);obtain⟨M,x,O,T,v,u,R,S,e,rfl,j,m,r,U,a,tb,q⟩:=h;refine⟨_,(yC (yU (i:=2) (bW3 rfl Z V (yL yX (pv 1) yE) (λ_ _=>rfl))) (yF (bW5 (i:=3) p.nd rfl rfl rfl hR N rfl rfl rfl (by decide) (by decide) (by decide) (λ_=>rfl) (tb:=λE=>bYr (bJy P w K mg base n 2 E (aKE (bWc 0) (aKE (bWc 1) bZQ)))) (λpn xe E L=>yF (yP (bX9 X rfl (Or.inl rfl) L (yA (pv 0) (yA (pv 1) yD)))))))),?_⟩;obtain⟨o,d,pe,hv,W,b,c,l⟩:=all e j;refine⟨_,rfl,x,_,0,_,rfl,rfl,CW m,bXf e,aYi e,o,rfl,hv,?_⟩;dsimp only[yW];refine⟨o,rfl,l,_,rfl,_,rfl,d,_,_,W,c,M,x,O,T,v,u,R,S,e,rfl,b,m,r,U,a,tb,q,λt g=>?_⟩;intro C G Y I J k B;exact⟨C,G,t,rfl,rfl,I,J,B,q (.txt t) R S _ Y v u g (r.sameT k.1) (Y7.of k.1) qQ.refl (k.2 tb) rfl (λ_ z=>nomatch z)⟩
inductive Run:Rows->List Int->List xP->List Ans->Rows->List Int->Prop
 |nil {R:Rows} {S:List Int}:Run R S [] [] R S
 |snoc {R R' R'':Rows} {S S' S'':List Int} {es:List xP} {as:List Ans} {e:xP} {a:Ans} (h:Run R S es as R' S') (d:x2 R' S' e a R'' S''):Run R S (es++ [e]) (as++ [a]) R'' S''
def Run.len{R f:Rows}{S c:List Int}{b:List xP}{a:List Ans}(h:Run R S b a f c):b.length=a.length:=by
 induction h with
 |nil=>rfl
 |snoc h d e=>simp[e]
structure Up(t:Nat)(R:Rows)(S:List Int):Prop where
 r:R.length<=t
 s:S.length<=t
 c:∀r∈R,r.copies.length<=t
def Up.set{t:Nat}{R:Rows}{S:List Int}(u:Up t R S)(k:Nat)(f:Row->Row)(b:∀r,(f r).copies.length<=r.copies.length+1):Up (t+1) (Bk.xO R k f) S:=
 ⟨by rw[Bk.zU];exact cXq u.r,cXq u.s,λr a=>by
  rcases Bk.aQx a with h|⟨q,h,rfl⟩
  ·exact cXq (u.c r h)
  ·exact cQv (b q) (Nat.succ_le_succ (u.c q h))⟩
def aQr{name:Str}:∀ (l:List Nat)(R:Rows)(t:Nat),(∀r∈R,r.copies.length<=t)->∀r∈Bk.laid R l name,r.copies.length<=t
 |[],R,t,h,r,hr=>h r hr
 |k::l,R,t,h,r,hr=>aQr l (Bk.xO R k λr=>{r with place:=name}) t (λq b=>by
   rcases Bk.aQx b with z|⟨a,z,rfl⟩
   ·exact h q z
   ·exact h a z) r hr
def Up.laid{t:Nat}{R:Rows}{S:List Int}(u:Up t R S)(l:List Nat)(name:Str):Up t (Bk.laid R l name) S:=⟨by rw[Bk.wY];exact u.r,u.s,aQr l R t u.c⟩
def Up.le{t:Nat}{R:Rows}{S:List Int}(u:Up t R S):Up (t+1) R S:=⟨cXq u.r,cXq u.s,λr h=>cXq (u.c r h)⟩
def Up.snoc{t:Nat}{R:Rows}{S:List Int}(u:Up t R S)(r:Row)(h:r.copies= []):Up (t+1) (R++ [r]) S:=⟨by simpa using u.r,cXq u.s,λq a=>by
 rcases cQw.mp a with z|z
 ·exact cXq (u.c q z)
 ·rw[bY9.mp z,h];exact cQQ _⟩
def Up.done{t:Nat}{R d:Rows}{S b:List Int}{e:xP}{a:Ans}(u:Up t R S)(h:x2 R S e a d b):Up (t+1) d b:=by
 cases h with
 |enter _=>exact u.snoc _ rfl
 |reply _ _ _ _=>exact u.snoc _ rfl
 |hang _ _ _ _ _ _ _ _ _=>exact(u.laid _ _).set _ _ λ_=>cX1 _
 |loose _ _ _=>exact u.set _ _ λ_=>cX1 _
 |date _ _ _ _=>exact u.set _ _ λ_=>cX1 _
 |term _ _ _=>exact u.set _ _ λ_=>cX1 _
 |copy _ _ _ _=>exact u.set _ _ λr=>by simp
 |file _ _=>exact(u.laid _ _).le
 |void _ _ _=>exact u.set _ _ λ_=>cX1 _
 |shut _=>exact⟨cXq u.r,by simpa using u.s,λr h=>cXq (u.c r h)⟩
 |_=>exact u.le
def Up.sz{t:Nat}{R:Rows}{S:List Int}(u:Up t R S)(h:t<64):Sz R S:=⟨by have:=u.r;omega,by have:=u.s;omega,λr a=>by have:=u.c r a;omega⟩
end
end Desk
namespace Law
open PySem L2 PyProof.Rows
open Bk (Row Rows x2 xP Ans)
open Desk (xH vJ uR Wf)
abbrev aXW:Stmt:=xF BL
def aQ8(e:Nat)(c a:List Nat)(H d:Hp):Prop:=(∀x o,x∉e::c->H x=some o->d x=some o)/\(∀b∈a,b∈c\/H b=none)/\∀s u,H s=some u->NoC c H s->NoC a d s
def But.step{d:Nat}{a:List Nat}{H c:Hp}(k:But a H c):aQ8 d a a H c:=⟨λx o n e=>k.1 x o (λz=>n (bY4 _ z)) e,λb h=> .inl h,k.2.2⟩
def aQ8.pre{d:Nat}{c a:List Nat}{H g f:Hp}(i:∀b∈c,∃o,H b=some o)(k:xC H g)(s:aQ8 d c a g f):aQ8 d c a H f:=
 ⟨λx o n e=>s.1 x o n (k _ _ e),λb h=>(s.2.1 b h).imp id λz=>k.fresh z,λx u e n=>s.2.2 x u (k _ _ e) ((But.of i k).2.2 x u e n)⟩
inductive aQ1(vs:List V)(H:Hp)(Q:VK)(_:XK):Prop|mk(ra da:Nat)(rs:List Nat)(R:Rows)(e:xP)(_:vs= [.ref ra,.ref da])(_:H da=some (.tup (xH e)))(_:Wf e)(_:((∃way d who t,e= .enter way d who t)\/∃m d t,e= .reply m d t))(_:xA H ra rs R)(_:R.length<=60)(_:∀ (H':Hp)(a:Ans)(v:V)(R':Rows)(rs':List Nat),aQ8 ra rs rs' H H'->xA H' ra rs' R'->(∀S,x2 R S e a R' S)->vJ [] H' a v->uR H v->Q v H')
def aWt{H:Hp}{d:Nat}{p:List Nat}{R:Rows}(h:xA H d p R){r:Row}(S:r.copies= []){g b:Nat}(v:H g=none)(G:upd H g (.lst []) b=none): xA (upd (upd (upd H g (.lst [])) b (.lst (uP r g))) d (.lst ((p++ [b]).map V.ref))) d (p++ [b]) (R++ [r])/\aQ8 d p (p++ [b]) H (upd (upd (upd H g (.lst [])) b (.lst (uP r g))) d (.lst ((p++ [b]).map V.ref))):=by
 have N:=yG v (.lst []);have O:=yG G (.lst (uP r g));have E:=N.trans O;have m:H b=none:=N.fresh G;have C:b≠d:=λz=>by rw[z,h.lst]at m;cases m
 have L:g≠d:=λz=>by rw[z,h.lst]at v;cases v
 have I:g≠b:=λz=>by rw[<- z,yB]at G;cases G
 have nb:b∉p:=λz=>by obtain⟨o,e⟩:=h.dom b z;rw[m]at e;cases e
 have rne:∀ {a r' k},H a=some (.lst (uP r' k))->a≠d:=λq z=>by rw[z,h.lst]at q;exact aQK (cQd q).symm
 refine⟨⟨yB,by simp[h.len],?_,λi c q j f=>?_⟩,λx o n e=>?_,λc t=>?_,λs u e n c t l D=>?_⟩
 ·exact cZl.mpr ⟨h.nd,cXi _ _,λa Q c v z=>nb (by rw[<- bY9.mp v,<- z];exact Q)⟩
 ·by_cases A:i<R.length
  ·rw[cQz (by rw[h.len];exact A)]at j;rw[cQz A]at f;obtain⟨k,F,w⟩:=h.row i c q j f;have J:k≠d:=λz=>by
    rw[z,h.lst]at w;have hl:=congrArg cX0 (HO.lst.inj (cQd w));have:=cQa j;cases p with
    |nil=>cases this
    |cons x W=>
     cases B:q.copies with
     |nil=>rw[B]at hl;simp at hl
     |cons y U=>rw[B]at w;have:=HO.lst.inj (cQd w);simp at this
   exact⟨k,by rw[yI (rne F)];exact E _ _ F,by rw[yI J];exact E _ _ w⟩
  ·have K:i=R.length:=by
    have:=(bY3.mp f).1;simp at this;omega
   subst K;rw[cQi (by rw[h.len];exact bYZ _),h.len,cXe]at j;rw[cQi (bYZ _),cXe]at f;cases j;cases f;exact⟨g,by rw[yI C,yB];rfl,by rw[yI L,yI I,yB,S];rfl⟩
 ·have P:x≠d:=λz=>n (by rw[z];exact bY7);rw[yI P];exact E _ _ e
 ·rcases cQw.mp t with z|z
  ·exact .inl z
  ·exact .inr (by rw[bY9.mp z];exact m)
 ·rcases cQw.mp t with z|z
  ·have z2:c≠d:=λy=>by
    obtain⟨i,A,T⟩:=cQJ z;obtain⟨k,F,_⟩:=h.row i c _ (by rw[bYR A,T]) (bYR (show i<R.length by rw[<- h.len];exact A));exact rne F y
   obtain⟨o,M⟩:=h.dom c z;rw[yI z2,E _ _ M]at D;exact n c z l (by rw[M];exact D)
  ·rw[bY9.mp z,yI C,yB]at D;cases D;intro y;have:g=s:=by injection y with y;injection y
   rw[<- this,v]at e;cases e
section
variable {K:bYT}
def uS:cQD Ao=some (.type Ao):=dk
def aKt:yN [A0,AH,"_law_way",AK,"_law_partner","_law_link","_law_place",An] [A0,AH] (yH aXW):=scM
def aW8(T:vK mg)(a3:mg Ao=none)(D:FnG P w K mg base 2 Af [A0,AA] J2)(F:Fun K BL BL aXW f fd):xE P w K mg base CX0 3 f fd [A0,AH] aQ1:=by
 have sc:=aKt;refine F.ok (k:=2) sc (λb6 A outer s H vs Q E hr h=>?_);obtain⟨L,o,X,R,e,rfl,y,b4,p,I,hR,q⟩:=h;refine⟨_,(yC (vF (xG (yA (yL yX (pv 1) yE) (yA (yL yX (pv 1) yE) (yA (yL yX (pv 1) yE) (yA x6 (yA yR yD)))))) (aZW rfl (zE (y9 (i:=2)) (zE (y9 (i:=3)) (zE (y9 (i:=4)) (zE (y9 (i:=5)) (zE (y9 (i:=6)) aQH))))))) (yC (y7 (yM zI (pv 2) yR) (yC (y7 (vG (xZ (xJ D hr rfl (yA (pv 0) (yA (yL yX (pv 1) yE) yD))))) (yF (yP yR)) yS) (yC (yU (i:=7) (yL yK (pv 0) (yL yX (pv 1) yE))) (yC (yU (i:=2) (yL yK (y6 (yA yR (yA yR yD))) (x5 vC rfl a3 uS (yA (zR zI (yL yK (pv 7) yE) yR) yD)))) (yF (vF (xG (yA (yL yX (pv 1) yE) (yA (yL yK (pv 7) yE) (yA (yL yX (pv 1) yE) (yA (yL yK (pv 7) yE) yD))))) (aZW rfl (zE (y9 (i:=3)) (zE (y9 (i:=4)) (zE (y9 (i:=5)) (zE (y9 (i:=6)) aQH)))))))))) yS) (yC (y7 (yM vM (yL yX (pv 1) yE) yE) (yF (yP yR)) yS) (yC (y7 (PW.pt (vT (yM wA (pv 5) x6) (wR (yM vM (pv 3) (yL yK (yL yK (pv 0) (pv 5)) yE))))) (yF (yP yR)) yS) (yC (yY (vN cQh cQo cQp xD (pv 0) (yA (y6 (yA (pv 2) (yA (pv 3) (yA (pv 4) (yA (yL yX (pv 1) yE) (yA (pv 5) (yA (pv 6) (yA wQ (yA (y6 yD) yD))))))))) yD))) (yF (yP (yV wU (yQ yO rfl T.b_len xB (yA (pv 0) yD)) yE)))))))),?_⟩;have h0:∃a b c,(xH e)[0]? =some (.str a)/\(xH e)[1]? =some (.int b)/\(xH e)[2]? =some c/\a=Desk.aYi e:=by
  rcases p with⟨g,d,l,t,rfl⟩|⟨m,d,t,rfl⟩
  ·exact⟨_,_,_,rfl,rfl,rfl,rfl⟩
  ·exact⟨_,_,_,rfl,rfl,rfl,rfl⟩
 obtain⟨U,b0,J,d0,d1,d2,ea⟩:=h0;refine⟨_,rfl,o,_,0,_,rfl,rfl,CW y,yT (j:=0) d0,_,rfl,o,_,1,_,rfl,rfl,CW y,yT (j:=1) d1,_,rfl,o,_,2,_,rfl,rfl,CW y,yT (j:=2) d2,z5,λtp b2=>?_⟩;have W:=yG b2 (.tup [.str U,.int b0,J,.non,.str ""]);refine⟨tp,[.str U,.int b0,J,.non,.str ""],rfl,CW yB,rfl,.str U,[.int b0,J,.non,.str ""],rfl,.int b0,[J,.non,.str ""],rfl,J,[.non,.str ""],rfl,.non,[.str ""],rfl,.str "",[],rfl,rfl,?_⟩;generalize upd H tp (.tup [.str U,.int b0,J,.non,.str ""])=H1 at W ⊢;dsimp only[yW];refine zF (λu H'=>L2.Ez7 λ(g l place:Str)(d t:Int)(lk:Option Nat)(o7:Option V)=>u= [some (.ref L),some (.ref o),some (.str g),some (.int d),some (.str l),some (w6 lk),some (.str place),o7]/\xC H H'/\(xH e)[3]? =some (.int t)/\(∀k,lk=some k->k<R.length)/\
  (t<0->∀S,x2 R S e (.txt "no term") R S)/\(0<=t->(∃k,lk=some k/\d<Bk.dt R k)->∀S,x2 R S e (.txt "too early") R S)/\(0<=t->(∀k,lk=some k->Bk.dt R k<=d)->∀S,x2 R S e (.num R.length) (R++ [⟨g,d,l,t,lk,place,false,[]⟩]) S)) ?jY (λn=>?_)
 case jY=>
  rintro u H2 ⟨g,l,place,d,t,lk,o7,rfl,B,d3,b5,t1,t2,t3⟩;have v:=I.same B;have a1:=B _ _ y;have stay:∀ {H3:Hp} {x:Str},xC H H3->(∀S,x2 R S e (.txt x) R S)->Q (.str x) H3:=λ{H3 x} k dn=>q H3 (.txt x) _ R X (But.of I.dom k).step (I.same k) dn rfl (λ_ z=>nomatch z);refine⟨_,rfl,o,_,3,_,rfl,rfl,CW a1,yT (j:=3) d3,_,_,rfl,rfl,_,rfl,?_⟩;refine qC (λc=>?_) (λc=>?_)
  ·exact stay B (t1 (of_decide_eq_true c))
  have ht:0<=t:=by have:=of_decide_eq_false (Bool.eq_false_iff.mpr c);omega
  dsimp only[aJh];refine zF (λu H'=>u= [some (.ref L),some (.ref o),some (.str g),some (.int d),some (.str l),some (w6 lk),some (.str place),o7]/\H'=H2/\∀k,lk=some k->Bk.dt R k<=d) ?rest2 (λn=>?_);case rest2=>
   rintro u H' ⟨rfl,rfl,h1⟩;refine⟨_,rfl,.inl ⟨rfl,_,CV v.lst⟩,_,rfl,_,rfl,_,rfl,_,rfl,o,_,3,_,rfl,rfl,CW a1,yT (j:=3) d3,_,rfl,_,rfl,z0,λcp a6=>⟨zn (by show 8<=100000;omega),λb hb=>?_⟩⟩;have hE:=aWt v (r:=⟨g,d,l,t,lk,place,false,[]⟩) rfl a6 hb;have k3:=(yG a6 (.lst [])).trans (yG hb (.lst (uP ⟨g,d,l,t,lk,place,false,[]⟩ cp)));refine⟨L,_,_,rfl,rfl,k3 _ _ v.lst,zlt (by rw[bYW,I.len];omega),?_⟩;have el:X.map V.ref++ [V.ref b]=(X++ [b]).map V.ref:=by simp
   rw[el];refine⟨_,rfl,L,_,rfl,.inl (CV yB),?_⟩;refine⟨_,_,rfl,rfl,?_⟩;have en:(((((X++ [b]).map V.ref).length:Nat):Int) - 1)=(R.length:Int):=by rw[bYW,cQf,I.len];simp
   show Q (V.int _) _;rw[en];exact q _ (.num R.length) _ _ _ (hE.2.pre I.dom B) hE.1 (t3 ht h1) rfl (λ_ z=>nomatch z)
  cases lk with
  |none=>exact⟨_,rfl,rfl,_,rfl,onF rfl (onF rfl (n _ _ ⟨rfl,rfl,λk z=>nomatch z⟩))⟩
  |some j=>
   have b1:=b5 j rfl;have N:=bYR b1;obtain⟨bj,j1,j2,cj,j3,j4⟩:=v.get N;refine⟨_,rfl,rfl,_,rfl,onT rfl ⟨_,rfl,_,rfl,_,rfl,L,_,_,_,rfl,rfl,CV v.lst,yT j1,bj,_,1,_,rfl,rfl,CV j3,rfl,_,_,rfl,rfl,_,rfl,?_⟩⟩;cases a7:decide (d<R[j].date)with
   |true=>exact onT rfl (stay B (t2 ht ⟨j,rfl,by rw[Bk.vL N];exact of_decide_eq_true a7⟩))
   |false=>exact onF rfl (n _ _ ⟨rfl,rfl,λi M=>by cases M;rw[Bk.vL N];have:=of_decide_eq_false a7;omega⟩)
 refine⟨_,rfl,rfl,_,rfl,?_⟩;rcases p with⟨g,d,l,t,rfl⟩|⟨m,d,t,rfl⟩
 ·have a5:g="in"\/g=BK:=b4;obtain rfl:U=g:=by cases d0;rfl
  obtain rfl:b0=d:=by cases d1;rfl
  obtain rfl:J= .str l:=by cases d2;rfl
  refine onF (by rcases a5 with rfl|rfl<;> decide) ?_;exact n _ _ ⟨U,l,"",b0,t,none,none,rfl,W,rfl,(λk z=>nomatch z),(λh S=> .enterT h),(λh ⟨k,z,_⟩=>nomatch z),λh _ S=> .enter h⟩
 ·obtain rfl:U=Ba:=by cases d0;rfl
  obtain rfl:b0=m:=by cases d1;rfl
  obtain rfl:J= .int d:=by cases d2;rfl
  refine onT rfl ?_;have O:H1 o=some (.tup [.str Ba,.int b0,.int d,.int t]):=W _ _ y;have C:=I.same W;refine⟨_,rfl,_,rfl,o,_,1,_,rfl,rfl,CW O,rfl,L,X,R,b0,rfl,C,_,rfl,?_⟩;cases h1:Bk.wW R b0 with
  |false=>exact onT rfl (q H1 (.txt "no letter") _ R X (But.of I.dom W).step C (λS=> .replyN h1) rfl (λ_ z=>nomatch z))
  |true=>
  obtain⟨i,r,rfl,a9,M,hv⟩:=Bk.wJ h1;obtain⟨b,g1,g2,cp,g3,g4⟩:=C.get M;refine onF rfl ⟨_,rfl,_,rfl,o,_,1,_,rfl,rfl,CW O,rfl,L,_,_,_,rfl,rfl,CV C.lst,yT g1,?_⟩;dsimp only[yW];refine⟨z2,λl2 Z=>⟨_,rfl,b,_,0,_,rfl,rfl,CV (yG Z (.lst [.str "in",.str BK]) _ _ g3),rfl,rfl,.inr ⟨_,rfl,?_⟩⟩⟩;have B:=yG Z (.lst [.str "in",.str BK]);have a2:=W.trans B;have G:upd H1 l2 (.lst [.str "in",.str BK]) l2=some (.lst [.str "in",.str BK]):=yB;generalize upd H1 l2 (.lst [.str "in",.str BK])=H3 at B a2 G ⊢;have b3:atI [V.str "in",V.str BK] (if decide (V.str r.way=V.str "in")=true then 1 else 0)=some (.str (Bk.uZ r.way)):=by
   rw[w9];unfold Bk.uZ;by_cases z:r.way="in"
   ·rw[if_pos z,decide_eq_true z];rfl
   ·rw[if_neg z,decide_eq_false z];rfl
  have Y:=B _ _ O;have a4:=B _ _ g3;refine⟨l2,_,_,_,rfl,rfl,CV G,b3,?_⟩;dsimp only[yW];refine⟨_,rfl,o,_,2,_,rfl,rfl,CW Y,rfl,_,rfl,b,_,2,_,rfl,rfl,CV a4,rfl,_,rfl,o,_,1,_,rfl,rfl,CW Y,rfl,_,rfl,b,_,5,_,rfl,rfl,CV a4,rfl,z4,λt4 a8=>?_⟩;have k4:=yG a8 (.tup [.int d,.str r.partner,.int (i:Nat),.str r.place]);refine⟨t4,[.int d,.str r.partner,.int (i:Nat),.str r.place],rfl,CW yB,rfl,.int d,[.str r.partner,.int (i:Nat),.str r.place],rfl,.str r.partner,[.int (i:Nat),.str r.place],rfl,.int (i:Nat),[.str r.place],rfl,.str r.place,[],rfl,rfl,?_⟩;refine n _ _ ⟨Bk.uZ r.way,r.partner,r.place,d,t,some i,_,rfl,a2.trans k4,rfl,(λk z=>by cases z;exact a9),(λh S=> .replyT h1 h),(λh ⟨k,z,y⟩ S=>?_),(λh y S=>?_)⟩
  ·cases z;rw[Bk.vL M]at y;exact .replyE M hv h y
  ·have:=y i rfl;rw[Bk.vL M]at this;exact .reply M hv h this
end
end Law
namespace Law
open PySem L2 PyProof.Rows
open Bk (Row Rows x2 xP Ans)
open Desk (xH vJ uR Wf wX)
abbrev bVN:Stmt:=xF BF
def xA.tupNo{H:Hp}{d:Nat}{a:List Nat}{R:Rows}(h:xA H d a R){x:Nat}{ys:List V}(e:H x=some (.tup ys)):x∉a:=λz=>by
 obtain⟨i,b,f⟩:=cQJ z;obtain⟨g,c,_⟩:=h.row i x _ (by rw[bYR b,f]) (bYR (show i<R.length by rw[<- h.len];exact b));rw[e]at c;cases c
def aJw{H:Hp}{j:Nat}{d:List Nat}{R:Rows}{k:Nat}{b:Nat}{r:Row}(h:xA H j d R)(q:d[k]? =some b)(v:R[k]? =some r){A a:Nat}(B:H b=some (.lst (uP r A)))(w:List Str)(g:H a=none): xA (upd (upd H a (.lst (w.map V.str))) b (.lst (uP r a))) j d (Bk.xO R k λr=>{r with copies:=w})/\aQ8 j d d H (upd (upd H a (.lst (w.map V.str))) b (.lst (uP r a))):=by
 have m:=yG g (.lst (w.map V.str));have t:=h.same m;refine⟨t.upd q v (λr=>{r with copies:=w}) yB,λx o n e=>?_,λc i=> .inl i,λs u e n c i l f=>?_⟩
 ·rw[yI (λz=>n (bY4 _ (by rw[z];exact cQa q)))];exact m _ _ e
 ·by_cases z:c=b
  ·subst z;rw[yB]at f;cases f;intro y;have:a=s:=by injection y with y;injection y
   rw[<- this,g]at e;cases e
  ·rw[yI z]at f;obtain⟨o,p⟩:=h.dom c i;rw[m _ _ p]at f;exact n c i l (by rw[p];exact f)
def Y8(e:xP)(m:Int):Prop:=e= .loose m\/(∃d,e= .date m d)\/(∃t,e= .term m t)\/(∃w,e= .copy m w)\/(∃w,e= .file m w)\/e= .void m
inductive bQX(vs:List V)(H:Hp)(Q:VK)(_:XK):Prop|mk(ra da:Nat)(rs:List Nat)(R:Rows)(e:xP)(m:Int)(_:vs= [.ref ra,.ref da])(_:H da=some (.tup (xH e)))(_:Y8 e m)(_:xA H ra rs R)(_:R.length<=60)(_:Bk.Y5 R)(_:(∀r∈R,r.copies.length<=1000))(_:∀ (H':Hp)(a:Ans)(v:V)(R':Rows),aQ8 ra rs rs H H'->xA H' ra rs R'->(∀S,x2 R S e a R' S)->vJ [] H' a v->uR H v->Q v H')
def Y8.at1{e:xP}{m:Int}(h:Y8 e m):(xH e)[1]? =some (.int m):=by
 rcases h with rfl|⟨d,rfl⟩|⟨d,rfl⟩|⟨d,rfl⟩|⟨d,rfl⟩|rfl<;> rfl
def Y8.no{e:xP}{m:Int}{R:Rows}(h:Y8 e m)(g:Bk.wW R m=false)(S:List Int):x2 R S e (.txt "no letter") R S:=by
 refine .oneN g ?_;rcases h with rfl|⟨d,rfl⟩|⟨d,rfl⟩|⟨d,rfl⟩|⟨d,rfl⟩|rfl<;> simp
section
variable {K:bYT}
def bV2:yN [A0,AH,An,"_law_numbers",AI,"_law_row"] [A0,AH] (yH bVN):=scM
def bVq(T:vK mg)(X:FnG P w K mg base 2 Af [A0,AA] J2)(J:FnG P w K mg base 2 Bf [A0,AA,AK] bQL)(W:FnG P w K mg base 2 Bx [A0,AA] bJt) (I:FnG P w K mg base 2 Ay [A0,AA] aQc) (F:Fun K BF BF bVN f fd):xE P w K mg base CX0 3 f fd [A0,AH] bQX:=by
 have sc:=bV2;refine F.ok (k:=2) sc (λc6 A outer s H vs Q E hr h=>?_);obtain⟨U,l,Y,R,e,m,rfl,n,C,y,hR,a9,b2,q⟩:=h;refine⟨_,(yC (y7 (vG (xZ (xJ X hr rfl (yA (pv 0) (yA (yL yX (pv 1) yE) yD))))) (yF (yP yR)) yS) (yC (yU (i:=2) (yL yK (pv 0) (yL yX (pv 1) yE))) (yC (y7 (yM zI (yL yX (pv 1) yE) yR) (yF (yP (xJ J hr rfl (yA (pv 0) (yA (yL yX (pv 1) yE) (yA (yL yX (pv 1) yE) yD)))))) yS) (yC (y7 (yM zI (yL yX (pv 1) yE) yR) (yF (yP (xJ W hr rfl (yA (pv 0) (yA (yL yX (pv 1) yE) yD))))) yS) (yC (y7 (yM zI (yL yX (pv 1) yE) yR) (yC (y7 (yM aXs (yL yK (pv 2) yE) x6) (yF (yP yR)) yS) (yC (vF x6 (qE (pv 2) yE zV)) (yF (yP yR)))) yS) (yC (y7 (yM zI (yL yX (pv 1) yE) yR) (yC (y7 (yM vM (yL yX (pv 1) yE) yE) (yF (yP yR)) yS) (yC (vF (yL yX (pv 1) yE) (qE (pv 2) yE zV)) (yF (yP yR)))) yS) (yC (y7 (yM zI (yL yX (pv 1) yE) yR) (yC (y7 (PW.pt (jX (yM zI (yL yX (pv 1) yE) (yL yK (pv 2) yE)) (vU (yM vE (yL yX (pv 1) yE) (yL yK (pv 2) yE))))) (yF (yP yR)) yS) (yC (vF (yV aZT (yL yK (pv 2) yE) (y6 (yA (yL yX (pv 1) yE) yD))) (qE (pv 2) yE zV)) (yF (yP (yQ yO rfl T.b_len xB (yA (yL yK (pv 2) yE) yD)))))) yS) (yC (yU (i:=3) (xJ I hr rfl (yA (pv 0) (yA (yL yX (pv 1) yE) yD)))) (yC (zT cQG rfl (xL (pv 3)) (y9 (i:=4)) (yC (yU (i:=5) (yL yK (pv 0) (pv 4))) (yF (vF (yL yX (pv 1) yE) (qE (pv 5) yE zV))))) (yF (yP (yQ yO rfl T.b_len xB (yA (pv 3) yD))))))))))))),?_⟩;have b7:aQ8 U Y Y H H:=(But.of y.dom (xC.refl _)).step;have txt:∀ {x:Str},(∀S,x2 R S e (.txt x) R S)->Q (.str x) H:=λ{x} dn=>q H (.txt x) _ R b7 y dn rfl (λ_ z=>nomatch z);refine⟨_,rfl,_,rfl,l,_,1,_,rfl,rfl,CW n,yT (j:=1) C.at1,U,Y,R,m,rfl,y,_,rfl,?_⟩;cases h1:Bk.wW R m with
 |false=>exact onT rfl (txt λS=>C.no h1 S)
 |true=>
 obtain⟨i,r,rfl,a5,u,D⟩:=Bk.wJ h1;obtain⟨b,g1,g2,cp,N,g4⟩:=y.get u;refine onF rfl ⟨_,rfl,_,rfl,l,_,1,_,rfl,rfl,CW n,yT (j:=1) C.at1,U,_,_,_,rfl,rfl,CV y.lst,yT g1,?_⟩;dsimp only[yW];have a4:∀j,r.link=some j->j<R.length:=λj hj=>by obtain⟨p,hp,_⟩:=a9.ans i j r u hj;exact(bY3.mp hp).1
 have up:∀ {x:Str} (g:Row->Row),(∀r,(g r).copies=r.copies)->(∀S,x2 R S e (.txt x) (Bk.xO R i g) S)->Q (.str x) (upd H b (.lst (uP (g r) cp))):=λ{x} g hg dn=>
  q _ (.txt x) _ _ (But.upd (l':=uP (g r) cp) y.dom g2 N rfl).step (y.upd g2 u g (by rw[hg];exact g4)) dn rfl (λ_ z=>nomatch z)
 rcases C with rfl|⟨d,rfl⟩|⟨t,rfl⟩|⟨o,rfl⟩|⟨a0,rfl⟩|rfl
 ·refine⟨_,rfl,l,_,0,_,rfl,rfl,CW n,rfl,rfl,_,rfl,onF (by decide) ⟨_,rfl,l,_,0,_,rfl,rfl,CW n,rfl,rfl,_,rfl,onF (by decide) ⟨_,rfl,l,_,0,_,rfl,rfl,CW n,rfl,rfl,_,rfl,onT (by decide) ⟨_,rfl,b,_,4,_,rfl,rfl,CV N,rfl,rfl,_,rfl,?_⟩⟩⟩⟩;cases a8:r.link with
  |none=>exact onT rfl (txt λS=> .looseN u D a8)
  |some j=>refine onF rfl ⟨_,rfl,b,_,4,4,rfl,rfl,N,rfl,?_⟩;exact up (λr=>{r with link:=none}) (λ_=>rfl) λS=> .loose u D (by rw[a8];simp)
 ·refine⟨_,rfl,l,_,0,_,rfl,rfl,CW n,rfl,rfl,_,rfl,onT (by decide) ⟨_,rfl,_,rfl,l,_,1,_,rfl,rfl,CW n,rfl,_,rfl,l,_,2,_,rfl,rfl,CW n,rfl,U,Y,R,i,r,d,rfl,y,by omega,u,a4,λH' a R' M a1 O=>?_⟩⟩;refine q H' (.txt a) _ R' M.step a1 (λS=>?_) rfl (λ_ z=>nomatch z);rcases O with⟨Z,rfl,rfl⟩|⟨Z,rfl,rfl⟩
  ·exact .dateE u D Z
  ·refine .date u D (λj hj=>?_) (λc O=>?_)
   ·exact cZI.mp λz=>Z (.inl ⟨j,hj,z⟩)
   ·exact cZI.mp λz=>Z (.inr ⟨c,O,z⟩)
 ·refine⟨_,rfl,l,_,0,_,rfl,rfl,CW n,rfl,rfl,_,rfl,onF (by decide) ⟨_,rfl,l,_,0,_,rfl,rfl,CW n,rfl,rfl,_,rfl,onF (by decide) ⟨_,rfl,l,_,0,_,rfl,rfl,CW n,rfl,rfl,_,rfl,onF (by decide) ⟨_,rfl,l,_,0,_,rfl,rfl,CW n,rfl,rfl,_,rfl,onT (by decide) ⟨_,rfl,l,_,2,_,rfl,rfl,CW n,rfl,_,_,rfl,rfl,_,rfl,?_⟩⟩⟩⟩⟩;refine qC (λc=>?_) (λc=>?_)
  ·exact txt λS=> .termN u D (of_decide_eq_true c)
  ·refine⟨_,rfl,l,_,2,_,rfl,rfl,CW n,rfl,_,rfl,b,_,3,3,rfl,rfl,N,rfl,?_⟩;exact up (λr=>{r with term:=t}) (λ_=>rfl) λS=> .term u D (by have:=of_decide_eq_false (Bool.eq_false_iff.mpr c);omega)
 ·refine⟨_,rfl,l,_,0,_,rfl,rfl,CW n,rfl,rfl,_,rfl,onF (by decide) ⟨_,rfl,l,_,0,_,rfl,rfl,CW n,rfl,rfl,_,rfl,onF (by decide) ⟨_,rfl,l,_,0,_,rfl,rfl,CW n,rfl,rfl,_,rfl,onF (by decide) ⟨_,rfl,l,_,0,_,rfl,rfl,CW n,rfl,rfl,_,rfl,onF (by decide) ⟨_,rfl,l,_,0,_,rfl,rfl,CW n,rfl,rfl,_,rfl,onT (by decide) ⟨_,rfl,l,_,2,_,rfl,rfl,CW n,rfl,_,rfl,b,_,2,_,rfl,rfl,CV N,rfl,rfl,_,rfl,?_⟩⟩⟩⟩⟩⟩;rw[w9];cases a7:decide (o=r.partner)with
  |true=>exact onT rfl (onT rfl (txt λS=> .copyC u D (.inl (of_decide_eq_true a7))))
  |false=>
  refine onF rfl ⟨_,rfl,l,_,2,_,rfl,rfl,CW n,rfl,_,rfl,b,_,7,_,rfl,rfl,CV N,rfl,cp,_,rfl,.inl (CV g4),rfl,cZ1.mpr (λv D=>by obtain⟨x,_,rfl⟩:=cQX.mp D;rfl),?_⟩;rw[if_neg (by decide),wX];refine⟨_,rfl,?_⟩;cases a6:r.copies.contains o with
  |true=>exact onT rfl (txt λS=> .copyC u D (.inr (by simpa using a6)))
  |false=>
  have c3:r.copies.length<=1000:=b2 r (cQa u);refine onF rfl ⟨_,rfl,b,_,7,_,rfl,rfl,CV N,rfl,_,rfl,l,_,2,_,rfl,rfl,CW n,rfl,z1,λl1 b8=>?_⟩;have k1:=yG b8 (.lst [.str o]);refine⟨cp,l1,_,_,rfl,rfl,k1 _ _ g4,yB,by rw[bYW,cQr];simp;omega,λc2 B=>?_⟩;have a2:=aJw (y.same k1) g2 u (k1 _ _ N) (r.copies++ [o]) B;have e5:r.copies.map V.str++ [V.str o]=(r.copies++ [o]).map V.str:=by simp
  rw[e5];have k2:=yG B (.lst ((r.copies++ [o]).map V.str));have b4:c2≠b:=λz=>by rw[z,k1 _ _ N]at B;cases B
  refine⟨_,rfl,b,_,7,7,rfl,rfl,k2 _ _ (k1 _ _ N),rfl,?_⟩;refine⟨_,rfl,b,_,7,_,rfl,rfl,CV yB,rfl,c2,(r.copies++ [o]).map V.str,rfl,.inl (CV (by rw[yI b4];exact yB)),?_⟩;have en:(((((r.copies++ [o]).map V.str).length:Nat)):Int)=(r.copies.length+1:Nat):=by simp
  rw[en];have hE:Bk.xO R i (λq=>{q with copies:=r.copies++ [o] })=Bk.xO R i (λq=>{q with copies:=q.copies++ [o] }):=by unfold Bk.xO;rw[u]
  rw[hE]at a2;exact q _ (.num _) _ _ (a2.2.pre y.dom k1) a2.1 (λS=> .copy u D (of_decide_eq_false a7) (by simpa using a6)) rfl (λ_ z=>nomatch z)
 ·obtain⟨rk,ok⟩:=a9.tree;refine⟨_,rfl,l,_,0,_,rfl,rfl,CW n,rfl,rfl,_,rfl,onF (by decide) ⟨_,rfl,l,_,0,_,rfl,rfl,CW n,rfl,rfl,_,rfl,onF (by decide) ⟨_,rfl,l,_,0,_,rfl,rfl,CW n,rfl,rfl,_,rfl,onF (by decide) ⟨_,rfl,l,_,0,_,rfl,rfl,CW n,rfl,rfl,_,rfl,onF (by decide) ⟨_,rfl,l,_,0,_,rfl,rfl,CW n,rfl,rfl,_,rfl,onF (by decide) ⟨_,rfl,_,rfl,l,_,1,_,rfl,rfl,CW n,rfl,U,Y,R.length,Bk.lk R,rk,Bk.dt R,i,rfl,y.rows,ok,hR,a5,λH2 l2 c1 k2 c5 a3 b5 b1=>?_⟩⟩⟩⟩⟩⟩;have b3:=Bk.aJi a5 ⟨rk,ok,b5,b1⟩;subst b3;dsimp only[yW];have b0:=y.same k2;have b6:H2 l=some (.tup [.str Bu,.int (i:Nat),.str a0]):=k2 _ _ n;have b9:=y.tupNo n;refine⟨_,rfl,l2,rfl,⟨_,CV a3⟩,?_⟩;refine zJ (xs:=(Bk.thr R i).map λi=>V.int (i:Nat)) (λt σ H3=>L2.Ez2 λ(o5 o6:Option V)=>σ= [some (.ref U),some (.ref l),some (.ref b),some (.ref l2),o5,o6]/\xA H3 U Y (Bk.laid R ((Bk.thr R i).take t) a0)/\But Y H2 H3/\H3 l2=some (.lst ((Bk.thr R i).map λi=>V.int (i:Nat)))) ?_ ?_ ?_ ?_
  ·exact⟨none,none,rfl,b0,But.of b0.dom (xC.refl _),a3⟩
  ·rintro t σ H3 ht ⟨o5,o6,rfl,G,k3,L⟩;exact CV L
  ·rintro t x σ H3 hx ⟨o5,o6,rfl,G,k3,L⟩;rw[cQc]at hx;cases O:(Bk.thr R i)[t]? with
   |none=>rw[O]at hx;cases hx
   |some k=>rw[O]at hx;cases hx;have c0:k<R.length:=((b1 k).mp (cQa O)).1;obtain⟨bk,ck,c4,e1,e2,e3,e4,e5,e6⟩:=aVK (K:=K) G O c0 L;dsimp only[yW];refine⟨_,rfl,_,rfl,U,_,_,_,rfl,rfl,CV G.lst,yT e1,?_⟩;dsimp only[yW];exact⟨_,rfl,l,_,2,_,rfl,rfl,CW (k3.1 _ _ b9 b6),rfl,_,rfl,bk,_,5,5,rfl,rfl,e2,rfl,_,_,rfl,e3,k3.trans e4,e5⟩
  ·rintro σ H3 ⟨o5,o6,rfl,G,k3,L⟩;rw[bYW,cQP]at G;refine⟨_,rfl,l2,_,rfl,.inl (CV L),?_⟩;rw[bYW];exact q _ (.num _) _ _ (((But.of y.dom k2).trans k3).step) G (λS=> .file u D) rfl (λ_ z=>nomatch z)
 ·refine⟨_,rfl,l,_,0,_,rfl,rfl,CW n,rfl,rfl,_,rfl,onF (by decide) ⟨_,rfl,l,_,0,_,rfl,rfl,CW n,rfl,rfl,_,rfl,onT (by decide) ⟨_,rfl,_,rfl,l,_,1,_,rfl,rfl,CW n,rfl,U,Y,R,i,r,rfl,y,by omega,u,λH' a R' M a1 O=>?_⟩⟩⟩;refine q H' (.txt a) _ R' M.step a1 (λS=>?_) rfl (λ_ z=>nomatch z);rcases O with⟨Z,rfl,rfl⟩|⟨Z,rfl,rfl⟩
  ·exact .voidA u D Z
  ·exact .void u D Z
end
end Law
namespace Law
open PySem L2 PyProof.Rows
open Bk (Row Rows x2 xP Ans)
open Desk (xH vJ uR Wf wX stV)
abbrev bQm:Stmt:=xF BM
def aKK(e:xP):Prop:=(∃m,e= .state m)\/(∃m,e= .thread m)\/(∃m,e= .copies m)\/(∃w,e= .letters w)\/∃a d,e= .on a d
inductive bQU(vs:List V)(H:Hp)(Q:VK)(_:XK):Prop|mk(ra sa da:Nat)(rs:List Nat)(R:Rows)(S:List Int)(e:xP)(_:vs= [.ref ra,.ref sa,.ref da])(_:H da=some (.tup (xH e)))(_:aKK e)(_:xA H ra rs R)(_:H sa=some (.lst (S.map V.int)))(_:R.length<=60)(_:Bk.Y5 R)(_:∀ (H':Hp)(a:Ans)(v:V),xC H H'->x2 R S e a R S->vJ [] H' a v->uR H v->Q v H')
def z6:cQD AB=some (.type AB):=dk
def wV:cQD AD=some (.type AD):=dk
section
variable {K:bYT}
def bV0:yN [A0,AF,AH,"_law_here"] [A0,AF,AH] (yH bQm):=scM
def bXz:xN [A0,AF,AH,"_law_here"] (yH bQm) AI [A0] [0] (lsN [(".0",.local),(AI,.local),(A0,.free)]):=
 lcM
def bXA:xN [A0,AF,AH,"_law_here"] (yH bQm) AI [AH,A0] [2,0] (lsN [(".0",.local),(AI,.local),(AH,.free),(A0,.free)]):=
 lcM
def Z8(R:Rows)(w:Str):V->Bool
 |.int n=>match R[n.toNat]? with|some r=>decide (r.place=w)|none=>false
 |_=>false
def bVo(T:vK mg)(a2:mg AB=none)(a6:mg AD=none)(W:FnG P w K mg base 2 Af [A0,AA] J2)(u:FnG P w K mg base 3 B3 [A0,AF,AK,BA] aQd) (G:FnG P w K mg base 2 Ay [A0,AA] aQc) (F:Fun K BM BM bQm f fd):xE P w K mg base CX0 4 f fd [A0,AF,AH] bQU:=by
 have sc:=bV0;refine F.ok (k:=3) sc (λc0 A outer s H vs Q E hr h=>?_);obtain⟨B,sa,g,X,R,S,e,rfl,y,a5,L,b0,hR,b5,q⟩:=h;have a4:vX 2 _:=hr.mono (by omega);refine⟨_,(yC (y7 (yM zI (yL yX (pv 2) yE) yR) (yC (aZZ (i:=3) bXz rfl sc.nd rfl rfl (zL rfl T.b_range (yA (yQ yO rfl T.b_len xB (yA (pv 0) yD)) yD)) (λ_ _ _ _ _=>(w8 (vG (xZ (yL ixK (yL ixK (pv 1) (pv 0)) yE))))) (λ_ _ _ _ _=>(pv 0))) (yF (yP (aQG bXA rfl (xL (pv 3)) (λ_ _ _ _ _=>(w8 (yM zI (yL ixK (yL ixK (pv 2) (pv 0)) yE) (yL ixT (pv 1) yE)))) (λ_ _ _ _ _=>(pv 0)))))) yS) (yC (y7 (yM vE (yL yX (pv 2) yE) (y6 (yA yR (yA yR yD)))) (yF (yP (xJ u hr rfl (yA (pv 0) (yA (pv 1) (yA (yL yX (pv 2) yE) (yA (zR zI (yL yX (pv 2) yE) yR) yD))))))) yS) (yC (y7 (vG (xZ (xJ W a4 rfl (yA (pv 0) (yA (yL yX (pv 2) yE) yD))))) (yF (yP yR)) yS) (yC (y7 (yM zI (yL yX (pv 2) yE) yR) (yF (yP (xJ G a4 rfl (yA (pv 0) (yA (yL yX (pv 2) yE) yD))))) yS) (yC (y7 (yM zI (yL yX (pv 2) yE) yR) (yF (yP (x5 uT rfl a2 z6 (yA (yL yK (yL yK (pv 0) (yL yX (pv 2) yE)) yE) yD)))) yS) (yF (yP (x5 qV rfl a6 wV (yA (Q6 aX9 (yL yK (pv 0) (yL yX (pv 2) yE)) aJ3 (aQI yE)) yD))))))))),?_⟩;have txt:∀ {C:Hp} {x:Str},xC H C->x2 R S e (.txt x) R S->Q (.str x) C:=λ{C x} k dn=>q C (.txt x) _ k dn rfl (λ_ z=>nomatch z);have one:∀ {m:Int} {x:Str},xH e= [.str x,.int m]->True:=λ_=>trivial;rcases a5 with⟨m,rfl⟩|⟨m,rfl⟩|⟨m,rfl⟩|⟨j,rfl⟩|⟨o,d,rfl⟩
 ·refine⟨_,rfl,g,_,0,_,rfl,rfl,CW y,rfl,rfl,_,rfl,onF (by decide) ?_⟩;refine⟨_,rfl,g,_,0,_,rfl,rfl,CW y,rfl,z2,λJ t=>⟨J,_,rfl,.inl (CV yB),rfl,rfl,_,rfl,onF (by decide) ?_⟩⟩;have n:=yG t (.lst [.str AS,.str AT]);generalize upd H J (.lst [.str AS,.str AT])=H1 at n ⊢;have a:H1 g=some (.tup [.str BW,.int m]):=n _ _ y;have c:=L.same n;refine⟨_,rfl,_,rfl,g,_,1,_,rfl,rfl,CW a,rfl,B,X,R,m,rfl,c,_,rfl,?_⟩;cases Z:Bk.wW R m with
  |false=>exact onT rfl (txt n (.oneN Z (by simp)))
  |true=>
  obtain⟨i,r,rfl,N,hi,U⟩:=Bk.wJ Z;obtain⟨b,g1,g2,cp,O,g4⟩:=c.get hi;refine onF rfl ⟨_,rfl,g,_,0,_,rfl,rfl,CW a,rfl,rfl,_,rfl,onF (by decide) ⟨_,rfl,g,_,0,_,rfl,rfl,CW a,rfl,rfl,_,rfl,onF (by decide) ?_⟩⟩;refine⟨_,rfl,_,rfl,g,_,1,_,rfl,rfl,CW a,rfl,B,_,_,_,rfl,rfl,CV c.lst,yT g1,_,rfl,b,_,rfl,CV O,λp2 M=>⟨p2,_,rfl,.inl ⟨CV yB,λp3 a3=>?_⟩⟩⟩;have b7:Z6 (uP r cp) none (some 6)=stV r:=by unfold stV Desk.Q1 Desk.X3;rw[U];cases b4:r.link<;> (unfold uP;rw[b4];rfl)
  have k2:=yG M (.lst (Z6 (uP r cp) none (some 6)));have k3:=yG a3 (.tup (Z6 (uP r cp) none (some 6)));exact q _ (.row r) _ ((n.trans k2).trans k3) (.state hi U) ⟨p3,rfl,by simp,by rw[<- b7];exact yB⟩ (.none ((n.trans k2).fresh a3))
 ·refine⟨_,rfl,g,_,0,_,rfl,rfl,CW y,rfl,rfl,_,rfl,onF (by decide) ?_⟩;refine⟨_,rfl,g,_,0,_,rfl,rfl,CW y,rfl,z2,λJ t=>⟨J,_,rfl,.inl (CV yB),rfl,rfl,_,rfl,onF (by decide) ?_⟩⟩;have n:=yG t (.lst [.str AS,.str AT]);generalize upd H J (.lst [.str AS,.str AT])=H1 at n ⊢;have a:H1 g=some (.tup [.str B7,.int m]):=n _ _ y;have c:=L.same n;refine⟨_,rfl,_,rfl,g,_,1,_,rfl,rfl,CW a,rfl,B,X,R,m,rfl,c,_,rfl,?_⟩;cases Z:Bk.wW R m with
  |false=>exact onT rfl (txt n (.oneN Z (by simp)))
  |true=>
  obtain⟨i,r,rfl,N,hi,U⟩:=Bk.wJ Z;obtain⟨rk,ok⟩:=b5.tree;refine onF rfl ⟨_,rfl,g,_,0,_,rfl,rfl,CW a,rfl,rfl,_,rfl,onT (by decide) ?_⟩;refine⟨_,rfl,_,rfl,g,_,1,_,rfl,rfl,CW a,rfl,B,X,R.length,Bk.lk R,rk,Bk.dt R,i,rfl,c.rows,ok,hR,N,λH2 l2 b9 k2 b3 a7 b2 b6=>?_⟩;have b1:=Bk.aJi N ⟨rk,ok,b2,b6⟩;subst b1;exact q _ (.nums (Bk.thr R i)) _ (n.trans k2) (.thread hi U) ⟨l2,rfl,by simp,a7⟩ (.none (n.fresh b3))
 ·refine⟨_,rfl,g,_,0,_,rfl,rfl,CW y,rfl,rfl,_,rfl,onF (by decide) ?_⟩;refine⟨_,rfl,g,_,0,_,rfl,rfl,CW y,rfl,z2,λJ t=>⟨J,_,rfl,.inl (CV yB),rfl,rfl,_,rfl,onF (by decide) ?_⟩⟩;have n:=yG t (.lst [.str AS,.str AT]);generalize upd H J (.lst [.str AS,.str AT])=H1 at n ⊢;have a:H1 g=some (.tup [.str BJ,.int m]):=n _ _ y;have c:=L.same n;refine⟨_,rfl,_,rfl,g,_,1,_,rfl,rfl,CW a,rfl,B,X,R,m,rfl,c,_,rfl,?_⟩;cases Z:Bk.wW R m with
  |false=>exact onT rfl (txt n (.oneN Z (by simp)))
  |true=>
  obtain⟨i,r,rfl,N,hi,U⟩:=Bk.wJ Z;obtain⟨b,g1,g2,cp,O,g4⟩:=c.get hi;refine onF rfl ⟨_,rfl,g,_,0,_,rfl,rfl,CW a,rfl,rfl,_,rfl,onF (by decide) ⟨_,rfl,g,_,0,_,rfl,rfl,CW a,rfl,rfl,_,rfl,onT (by decide) ?_⟩⟩;refine⟨_,rfl,_,rfl,g,_,1,_,rfl,rfl,CW a,rfl,B,_,_,_,rfl,rfl,CV c.lst,yT g1,b,_,7,_,rfl,rfl,CV O,rfl,cp,_,rfl,.inl (CV g4),λp2 M=>?_⟩;have k2:=yG M (.lst (r.copies.map V.str));exact q _ (.txts r.copies) _ (n.trans k2) (.copies hi U) ⟨p2,rfl,by simp,yB⟩ (.none (n.fresh M))
 ·have b8:H g=some (.tup [.str B0,.str j]):=y;refine⟨_,rfl,g,_,0,_,rfl,rfl,CW y,rfl,rfl,_,rfl,onT (by decide) ?_⟩;have hl:(X.map V.ref).length=R.length:=by rw[bYW];exact L.len
  refine⟨_,rfl,B,_,rfl,.inl (CV L.lst),?_⟩;rw[hl];refine⟨_,rfl,by omega,by omega,λD hD=>?_⟩;rw[cQt];refine Q4 (λk=>match R[k]? with|some r=> !r.void|none=>false) (λk=>V.int (k:Nat)) hD (by rw[cQr];omega) (λk I C R' Y p=>?_) (λk I _ C R' Y p=>⟨_,rfl,p⟩) ?_
  ·obtain⟨b,g1,g2,cp,O,g4⟩:=L.get (bYR I);have a1:C B=some (.lst (X.map V.ref)):=by rw[Y B (yJ L.lst hD)];exact L.lst
   have hb:C b=_:=(Y b (yJ O hD)).trans O;rw[bYR I]at p;exact⟨_,rfl,_,rfl,B,_,_,_,rfl,rfl,CV a1,yT g1,b,_,6,_,rfl,rfl,CV hb,rfl,_,rfl,p⟩
  have k1:=yG hD (.lst (((bY5 R.length).filter λk=>match R[k]? with|some r=> !r.void|none=>false).map λk=>V.int (k:Nat)));have a0:upd H D (.lst (((bY5 R.length).filter λk=>match R[k]? with|some r=> !r.void|none=>false).map λk=>V.int (k:Nat))) D=some (.lst (((bY5 R.length).filter λk=>match R[k]? with|some r=> !r.void|none=>false).map λk=>V.int (k:Nat))):=yB;generalize upd H D (.lst (((bY5 R.length).filter λk=>match R[k]? with|some r=> !r.void|none=>false).map λk=>V.int (k:Nat)))=H1 at k1 a0 ⊢;have c:=L.same k1;have a:=k1 _ _ b8;dsimp only[yW];refine⟨_,rfl,D,rfl,⟨_,CV a0⟩,λE hE=>?_⟩;refine aZK (Z8 R j) id (CV a0) hE ?_ (λv U C R' Y p=>?_) (λv U _ C R' Y p=>⟨_,rfl,p⟩) ?_
  ·rw[bYW,cQr];have:=cQS (λk=>match R[k]? with|some r=> !r.void|none=>false) (bY5 R.length);rw[cQL]at this;omega
  ·obtain⟨k,I,rfl⟩:=cQX.mp U;have I:k<R.length:=cQu.mp (cQ0.mp I).1;obtain⟨b,g1,g2,cp,O,g4⟩:=c.get (bYR I);have a1:C B=some (.lst (X.map V.ref)):=by rw[Y B (yJ c.lst hE)];exact c.lst
   have hb:C b=_:=(Y b (yJ O hE)).trans O;have a9:C g=_:=(Y g (yJ a hE)).trans a;have e1:Z8 R j (V.int (k:Nat))=decide (R[k].place=j):=by show(match R[((k:Nat):Int).toNat]? with|some r=>decide (r.place=j)|none=>false)=_;rw[cQt,bYR I]
   rw[e1]at p;refine⟨_,rfl,_,rfl,B,_,_,_,rfl,rfl,CV a1,yT g1,b,_,5,_,rfl,rfl,CV hb,rfl,_,rfl,g,_,1,_,rfl,rfl,CW a9,rfl,rfl,_,rfl,?_⟩;rw[w9];exact p
  ·have ef:(((((bY5 R.length).filter λk=>match R[k]? with|some r=> !r.void|none=>false).map λk=>V.int (k:Nat)).filter (Z8 R j)).map id)=((bY5 R.length).filter λk=>match R[k]? with|some r=> !r.void && decide (r.place=j)|none=>false).map λk=>V.int (k:Nat):=by
    rw[List.map_id,List.filter_map,List.filter_filter];congr 1;refine cJ5 λk I=>?_;have I:k<R.length:=cQu.mp I;show(Z8 R j (V.int (k:Nat)) && _)=_;show((match R[((k:Nat):Int).toNat]? with|some r=>decide (r.place=j)|none=>false) && _)=_;rw[cQt,bYR I];exact Bool.and_comm _ _
   rw[ef];exact q _ (.nums _) _ (k1.trans (yG hE _)) .letters ⟨E,rfl,by simp,yB⟩ (.none (k1.fresh hE))
 ·refine⟨_,rfl,g,_,0,_,rfl,rfl,CW y,rfl,rfl,_,rfl,onF (by cases o<;> decide) ?_⟩;refine⟨_,rfl,g,_,0,_,rfl,rfl,CW y,rfl,z2,λJ t=>⟨J,_,rfl,.inl (CV yB),rfl,rfl,_,rfl,onT (by cases o<;> decide) ?_⟩⟩;have n:=yG t (.lst [.str AS,.str AT]);generalize upd H J (.lst [.str AS,.str AT])=H1 at n ⊢;have a:H1 g=some (.tup [.str (if o then AT else AS),.int d]):=n _ _ y;have c:=L.same n;have e1:decide (V.str (if o then AT else AS)=V.str AT)=o:=by cases o<;> decide
  refine⟨_,rfl,_,rfl,_,rfl,g,_,1,_,rfl,rfl,CW a,rfl,_,rfl,g,_,0,_,rfl,rfl,CW a,rfl,rfl,?_⟩;rw[e1];refine⟨B,sa,X,R,S,d,o,rfl,c,n _ _ b0,by omega,λr C l k nl hl a8=>?_⟩;exact q _ (.nums l) _ (n.trans k) (.on a8) ⟨r,rfl,by simp,hl⟩ (.none (n.fresh nl))
end
end Law
namespace Law
open PySem L2 PyProof.Rows
open Bk (Row Rows x2 xP Ans)
open Desk (xH vJ uR Wf wX stV)
abbrev bVC:Stmt:=xF As
structure LBk(H:Hp)(ra sa:Nat)(rs:List Nat)(R:Rows)(S:List Int):Prop where
 book:xA H ra rs R
 shut:H sa=some (.lst (S.map V.int))
 ne:sa≠ra
 no:sa∉rs
 noC:NoC rs H sa
def aZh(e sa:Nat)(c a:List Nat)(H d:Hp):Prop:=(∀x o,x≠sa->x≠e->x∉c->H x=some o->d x=some o)/\(∀b∈a,b∈c\/H b=none)/\∀s u,H s=some u->NoC c H s->NoC a d s
def LBk.same{H c:Hp}{b sa:Nat}{a:List Nat}{R:Rows}{S:List Int}(h:LBk H b sa a R S)(k:xC H c):LBk c b sa a R S:=
 ⟨h.book.same k,k _ _ h.shut,h.ne,h.no,(But.of h.book.dom k).2.2 sa _ h.shut h.noC⟩
def LBk.step{H c:Hp}{b sa:Nat}{d a:List Nat}{R f:Rows}{S:List Int}(h:LBk H b sa d R S)(k:aQ8 b d a H c)(i:xA c b a f):LBk c b sa a f S/\aZh b sa d a H c:=
 ⟨⟨i,k.1 sa _ (λz=>(bY1.mp z).elim h.ne h.no) h.shut,h.ne,λz=>(k.2.1 sa z).elim h.no (λy=>by have:=h.shut;rw[y]at this;cases this),k.2.2 sa _ h.shut h.noC⟩,λx o _ j g e=>k.1 x o (λz=>(bY1.mp z).elim j g) e,k.2.1,k.2.2⟩
def LBk.put{H:Hp}{g sa:Nat}{f:List Nat}{R:Rows}{S:List Int}(h:LBk H g sa f R S)(d:Int):LBk (upd H sa (.lst ((S++ [d]).map V.int))) g sa f R (S++ [d])/\aZh g sa f f H (upd H sa (.lst ((S++ [d]).map V.int))):=by
 refine⟨⟨⟨by rw[yI (cQB h.ne)];exact h.book.lst,h.book.len,h.book.nd,λi b r a t=>?_⟩,yB,h.ne,h.no,λb a l c=>?_⟩,λx o n _ _ e=>by rw[yI n];exact e,λb a=> .inl a,λs u e n b a l c=>n b a l (by rw[yI (λz=>h.no (by rw[<- z];exact a))]at c;exact c)⟩
 ·obtain⟨j,k,m⟩:=h.book.row i b r a t;have q:b≠sa:=λz=>h.no (by rw[<- z];exact cQa a);have p:j≠sa:=λz=>h.noC b (cQa a) _ k (by rw[<- z];rfl);exact⟨j,by rw[yI q];exact k,by rw[yI p];exact m⟩
 ·rw[yI (λz=>h.no (by rw[<- z];exact a))]at c;exact h.noC b a l c
inductive aXx(vs:List V)(H:Hp)(Q:VK)(_:XK):Prop|mk(ra sa da:Nat)(rs:List Nat)(R:Rows)(S:List Int)(e:xP)(_:vs= [.ref ra,.ref sa,.ref da])(_:H da=some (.tup (xH e)))(_:Wf e)(_:LBk H ra sa rs R S)(_:R.length<=60)(_:S.length<=60)(_:Bk.Y5 R)(_:(∀r∈R,r.copies.length<=1000))(_:∀ (H':Hp)(a:Ans)(v:V)(R':Rows)(S':List Int)(rs':List Nat),aZh ra sa rs rs' H H'->LBk H' ra sa rs' R' S'->x2 R S e a R' S'->vJ [] H' a v->uR H v->Q v H')
def uR.pre{H a:Hp}(k:xC H a){v:V}(h:uR a v):uR H v:=λp e u b z=>h p e u b (k _ _ z)
def aZh.pre{d sa:Nat}{c a:List Nat}{H f g:Hp}(j:∀b∈c,∃o,H b=some o)(k:xC H f)(s:aZh d sa c a f g):aZh d sa c a H g:=
 ⟨λx o m l i e=>s.1 x o m l i (k _ _ e),λb h=>(s.2.1 b h).imp id λz=>k.fresh z,λx u e n=>s.2.2 x u (k _ _ e) ((But.of j k).2.2 x u e n)⟩
section
variable {K:bYT}
def bVP:yN [A0,AF,AH] [A0,AF,AH] (yH bVC):=scM
def bVc(u:FnG P w K mg base 4 BL [A0,AH] aQ1)(M:FnG P w K mg base 4 By [A0,AA,BB] bJs) (y:FnG P w K mg base 4 BM [A0,AF,AH] bQU) (r:FnG P w K mg base 4 BF [A0,AH] bQX) (F:Fun K As As bVC f fd):xE P w K mg base CX0 5 f fd [A0,AF,AH] aXx:=by
 have sc:=bVP;refine F.ok (k:=4) sc (λa7 A outer s H vs Q E hr h=>?_);obtain⟨O,sa,g,I,R,S,e,rfl,hd,a4,J,hR,hS,N,a1,q⟩:=h;refine⟨_,(yC (y7 (yM vE (yL yX (pv 2) yE) (y6 (yA yR (yA yR (yA yR yD))))) (yF (yP (xJ u hr rfl (yA (pv 0) (yA (pv 2) yD))))) yS) (yC (y7 (yM zI (yL yX (pv 2) yE) yR) (yF (yP (xJ M hr rfl (yA (pv 0) (yA (yL yX (pv 2) yE) (yA (yL yX (pv 2) yE) yD)))))) yS) (yC (y7 (yM zI (yL yX (pv 2) yE) yR) (yC (y7 (PW.pt (jX (yM aXh (yV y0 (yL yX (pv 2) yE) yE) yE) (vU (yM vE (yL yX (pv 2) yE) (pv 1))))) (yF (yP yR)) yS) (yC (yY (vN cQh cQo cQp xD (pv 1) (yA (yL yX (pv 2) yE) yD))) (yF (yP yR)))) yS) (yC (y7 (yM vE (yL yX (pv 2) yE) (y6 (yA yR (yA yR (yA yR (yA yR (yA yR (yA yR yD)))))))) (yF (yP (xJ y hr rfl (yA (pv 0) (yA (pv 1) (yA (pv 2) yD)))))) yS) (yF (yP (xJ r hr rfl (yA (pv 0) (yA (pv 2) yD))))))))),?_⟩;have h0:(xH e)[0]? =some (.str (Desk.aYi e)):=by cases e<;> rfl
 refine⟨_,rfl,g,_,0,_,rfl,rfl,CW hd,yT (j:=0) h0,z3,λl0 a5=>⟨l0,_,rfl,.inl (CV yB),rfl,rfl,_,rfl,?_⟩⟩;have n:=yG a5 (.lst [.str "in",.str BK,.str Ba]);generalize upd H l0 (.lst [.str "in",.str BK,.str Ba])=H1 at n ⊢;have c:=n _ _ hd;have p:=J.same n;have a3:((∃L d W t,e= .enter L d W t)\/∃m d t,e= .reply m d t)->aQ1 [.ref O,.ref g] H1 Q E0:=λhf=>by refine⟨O,g,I,R,e,rfl,c,a4,hf,p.book,hR,λX a v R' a6 st D T Y Z=>?_⟩;have:=p.step st D;exact q X a v R' S a6 (this.2.pre J.book.dom n) this.1 (T S) Y (uR.pre n Z)
 have one:∀ {U:Hp} {m:Int},xC H U->Y8 e m->bQX [.ref O,.ref g] U Q E0:=λ{U m} k hf=>by have C:=J.same k;refine⟨O,g,I,R,e,m,rfl,k _ _ hd,hf,C.book,hR,N,a1,λX a v R' st D T Y Z=>?_⟩;have:=C.step st D;exact q X a v R' S I (this.2.pre J.book.dom k) this.1 (T S) Y (uR.pre k Z)
 have G:∀ {U:Hp},xC H U->aKK e->bQU [.ref O,.ref sa,.ref g] U Q E0:=λ{U} k hf=>by have C:=J.same k;refine⟨O,sa,g,I,R,S,e,rfl,k _ _ hd,hf,C.book,C.shut,hR,N,λX a v k2 T Y Z=>?_⟩;exact q X a v R S I ⟨λx o _ _ _ e=>k2 _ _ (k _ _ e),λb hb=> .inl hb,(But.of J.book.dom (k.trans k2)).2.2⟩ (C.same k2) T Y (uR.pre k Z)
 cases e with
 |enter L d W t=>have a2:L="in"\/L=BK:=a4;refine onT (by rcases a2 with rfl|rfl<;> rfl) ⟨_,rfl,_,rfl,a3 (.inl ⟨_,_,_,_,rfl⟩)⟩
 |reply m d t=>exact onT rfl ⟨_,rfl,_,rfl,a3 (.inr ⟨_,_,_,rfl⟩)⟩
 |hang m o=>refine onF rfl ⟨_,rfl,g,_,0,_,rfl,rfl,CW c,rfl,rfl,_,rfl,onT rfl ⟨_,rfl,_,rfl,g,_,1,_,rfl,rfl,CW c,rfl,_,rfl,g,_,2,_,rfl,rfl,CW c,rfl,?_⟩⟩;refine⟨O,I,R,m,o,rfl,p.book,hR,N.tree,λX a R' st D T=>?_⟩;have:=p.step st.step D;exact q X (.txt a) _ R' S I (this.2.pre J.book.dom n) this.1 (T S) rfl (λ_ z=>nomatch z)
 |shut d=>
  refine onF rfl ⟨_,rfl,g,_,0,_,rfl,rfl,CW c,rfl,rfl,_,rfl,onF rfl ⟨_,rfl,g,_,0,_,rfl,rfl,CW c,rfl,rfl,_,rfl,onT rfl ?_⟩⟩;refine⟨_,rfl,g,_,1,_,rfl,rfl,CW c,rfl,_,_,rfl,rfl,(show(0:Int)<7 by decide),_,_,rfl,rfl,_,rfl,?_⟩;have no:Dm.cts S d=false->Q (.str "counts not") H1:=λh=>q H1 (.txt "counts not") _ R S I ⟨λx o _ _ _ e=>n _ _ e,λb hb=> .inl hb,(But.of J.book.dom n).2.2⟩ p (.shutN h) rfl (λ_ z=>nomatch z);cases h1:decide (d % 7 > 4)with
  |true=>exact onT rfl (onT rfl (no (by unfold Dm.cts Dm.opn;rw[decide_eq_false (by have:=of_decide_eq_true h1;omega)];rfl)))
  |false=>
  refine onF rfl ⟨_,rfl,g,_,1,_,rfl,rfl,CW c,rfl,_,rfl,sa,_,rfl,.inl (CV p.shut),rfl,cZ1.mpr (λv hv=>by obtain⟨x,_,rfl⟩:=cQX.mp hv;rfl),?_⟩;rw[if_neg (by decide),jK];refine⟨_,rfl,?_⟩;cases h2:S.contains d with
  |true=>exact onT rfl (no (by unfold Dm.cts;rw[h2];simp))
  |false=>
  refine onF rfl ⟨_,rfl,.inl ⟨rfl,_,CV p.shut⟩,_,rfl,g,_,1,_,rfl,rfl,CW c,rfl,sa,_,_,rfl,rfl,p.shut,zlt (by rw[bYW];omega),?_⟩;have e5:S.map V.int++ [V.int d]=(S++ [d]).map V.int:=by simp
  rw[e5];have:=p.put d;exact q _ (.txt Ag) _ R (S++ [d]) I (this.2.pre J.book.dom n) this.1 (.shut (by unfold Dm.cts Dm.opn;rw[h2,decide_eq_true (by have:=of_decide_eq_false h1;omega)];rfl)) rfl (λ_ z=>nomatch z)
 |loose m=>exact onF rfl ⟨_,rfl,g,_,0,_,rfl,rfl,CW c,rfl,rfl,_,rfl,onF rfl ⟨_,rfl,g,_,0,_,rfl,rfl,CW c,rfl,rfl,_,rfl,onF rfl ⟨_,rfl,g,_,0,_,rfl,rfl,CW c,rfl,zn (by show 6<=100000;omega),λl i=>⟨l,_,rfl,.inl (CV yB),rfl,rfl,_,rfl,onF rfl ⟨_,rfl,_,rfl,one (n.trans (yG i _)) (.inl rfl)⟩⟩⟩⟩⟩
 |date m d=>exact onF rfl ⟨_,rfl,g,_,0,_,rfl,rfl,CW c,rfl,rfl,_,rfl,onF rfl ⟨_,rfl,g,_,0,_,rfl,rfl,CW c,rfl,rfl,_,rfl,onF rfl ⟨_,rfl,g,_,0,_,rfl,rfl,CW c,rfl,zn (by show 6<=100000;omega),λl i=>⟨l,_,rfl,.inl (CV yB),rfl,rfl,_,rfl,onF rfl ⟨_,rfl,_,rfl,one (n.trans (yG i _)) (.inr (.inl ⟨_,rfl⟩))⟩⟩⟩⟩⟩
 |term m t=>exact onF rfl ⟨_,rfl,g,_,0,_,rfl,rfl,CW c,rfl,rfl,_,rfl,onF rfl ⟨_,rfl,g,_,0,_,rfl,rfl,CW c,rfl,rfl,_,rfl,onF rfl ⟨_,rfl,g,_,0,_,rfl,rfl,CW c,rfl,zn (by show 6<=100000;omega),λl i=>⟨l,_,rfl,.inl (CV yB),rfl,rfl,_,rfl,onF rfl ⟨_,rfl,_,rfl,one (n.trans (yG i _)) (.inr (.inr (.inl ⟨_,rfl⟩)))⟩⟩⟩⟩⟩
 |copy m W=>exact onF rfl ⟨_,rfl,g,_,0,_,rfl,rfl,CW c,rfl,rfl,_,rfl,onF rfl ⟨_,rfl,g,_,0,_,rfl,rfl,CW c,rfl,rfl,_,rfl,onF rfl ⟨_,rfl,g,_,0,_,rfl,rfl,CW c,rfl,zn (by show 6<=100000;omega),λl i=>⟨l,_,rfl,.inl (CV yB),rfl,rfl,_,rfl,onF rfl ⟨_,rfl,_,rfl,one (n.trans (yG i _)) (.inr (.inr (.inr (.inl ⟨_,rfl⟩))))⟩⟩⟩⟩⟩
 |file m a0=>exact onF rfl ⟨_,rfl,g,_,0,_,rfl,rfl,CW c,rfl,rfl,_,rfl,onF rfl ⟨_,rfl,g,_,0,_,rfl,rfl,CW c,rfl,rfl,_,rfl,onF rfl ⟨_,rfl,g,_,0,_,rfl,rfl,CW c,rfl,zn (by show 6<=100000;omega),λl i=>⟨l,_,rfl,.inl (CV yB),rfl,rfl,_,rfl,onF rfl ⟨_,rfl,_,rfl,one (n.trans (yG i _)) (.inr (.inr (.inr (.inr (.inl ⟨_,rfl⟩)))))⟩⟩⟩⟩⟩
 |void m=>exact onF rfl ⟨_,rfl,g,_,0,_,rfl,rfl,CW c,rfl,rfl,_,rfl,onF rfl ⟨_,rfl,g,_,0,_,rfl,rfl,CW c,rfl,rfl,_,rfl,onF rfl ⟨_,rfl,g,_,0,_,rfl,rfl,CW c,rfl,zn (by show 6<=100000;omega),λl i=>⟨l,_,rfl,.inl (CV yB),rfl,rfl,_,rfl,onF rfl ⟨_,rfl,_,rfl,one (n.trans (yG i _)) (.inr (.inr (.inr (.inr (.inr rfl)))))⟩⟩⟩⟩⟩
 |state m=>exact onF rfl ⟨_,rfl,g,_,0,_,rfl,rfl,CW c,rfl,rfl,_,rfl,onF rfl ⟨_,rfl,g,_,0,_,rfl,rfl,CW c,rfl,rfl,_,rfl,onF rfl ⟨_,rfl,g,_,0,_,rfl,rfl,CW c,rfl,zn (by show 6<=100000;omega),λl i=>⟨l,_,rfl,.inl (CV yB),rfl,rfl,_,rfl,onT rfl ⟨_,rfl,_,rfl,_,rfl,G (n.trans (yG i _)) (.inl ⟨_,rfl⟩)⟩⟩⟩⟩⟩
 |thread m=>exact onF rfl ⟨_,rfl,g,_,0,_,rfl,rfl,CW c,rfl,rfl,_,rfl,onF rfl ⟨_,rfl,g,_,0,_,rfl,rfl,CW c,rfl,rfl,_,rfl,onF rfl ⟨_,rfl,g,_,0,_,rfl,rfl,CW c,rfl,zn (by show 6<=100000;omega),λl i=>⟨l,_,rfl,.inl (CV yB),rfl,rfl,_,rfl,onT rfl ⟨_,rfl,_,rfl,_,rfl,G (n.trans (yG i _)) (.inr (.inl ⟨_,rfl⟩))⟩⟩⟩⟩⟩
 |copies m=>exact onF rfl ⟨_,rfl,g,_,0,_,rfl,rfl,CW c,rfl,rfl,_,rfl,onF rfl ⟨_,rfl,g,_,0,_,rfl,rfl,CW c,rfl,rfl,_,rfl,onF rfl ⟨_,rfl,g,_,0,_,rfl,rfl,CW c,rfl,zn (by show 6<=100000;omega),λl i=>⟨l,_,rfl,.inl (CV yB),rfl,rfl,_,rfl,onT rfl ⟨_,rfl,_,rfl,_,rfl,G (n.trans (yG i _)) (.inr (.inr (.inl ⟨_,rfl⟩)))⟩⟩⟩⟩⟩
 |letters a0=>exact onF rfl ⟨_,rfl,g,_,0,_,rfl,rfl,CW c,rfl,rfl,_,rfl,onF rfl ⟨_,rfl,g,_,0,_,rfl,rfl,CW c,rfl,rfl,_,rfl,onF rfl ⟨_,rfl,g,_,0,_,rfl,rfl,CW c,rfl,zn (by show 6<=100000;omega),λl i=>⟨l,_,rfl,.inl (CV yB),rfl,rfl,_,rfl,onT rfl ⟨_,rfl,_,rfl,_,rfl,G (n.trans (yG i _)) (.inr (.inr (.inr (.inl ⟨_,rfl⟩))))⟩⟩⟩⟩⟩
 |on B d=>exact onF (by cases B<;> rfl) ⟨_,rfl,g,_,0,_,rfl,rfl,CW c,rfl,rfl,_,rfl,onF (by cases B<;> rfl) ⟨_,rfl,g,_,0,_,rfl,rfl,CW c,rfl,rfl,_,rfl,onF (by cases B<;> rfl) ⟨_,rfl,g,_,0,_,rfl,rfl,CW c,rfl,zn (by show 6<=100000;omega),λl i=>⟨l,_,rfl,.inl (CV yB),rfl,rfl,_,rfl,onT (by cases B<;> rfl) ⟨_,rfl,_,rfl,_,rfl,G (n.trans (yG i _)) (.inr (.inr (.inr (.inr ⟨_,_,rfl⟩))))⟩⟩⟩⟩⟩
end
end Law
namespace Desk
open PySem L2 PyProof.Rows
open Bk (Row Rows xP Ans x2)
open Thr (wF v0 qX)
def zG(H:Hp)(ds:Nat)(a:List Nat)(b:List xP):Prop:=H ds=some (.lst (a.map V.ref))/\a.length=b.length/\∀ (i:Nat)(d:Nat)(e:xP),a[i]? =some d->b[i]? =some e->H d=some (.tup (xH e))
def zG.same{H b:Hp}{ds:Nat}{a:List Nat}{c:List xP}(h:zG H ds a c)(k:x3 H b):zG b ds a c:=⟨k.lst h.1,h.2.1,λi d e g f=>k.tup (h.2.2 i d e g f)⟩
def vJ.kept{o b:List Nat}{H d:Hp}{a:Ans}{v:V}(h:vJ o H a v)(k:Y7 o H d)(g:qQ H o b):vJ b d a v:=by
 have c:∀p u,p∉o->H p=some u->p∉b:=λp u n e z=>by
  rcases g p z with q|q
  ·exact n q
  ·rw[q]at e;cases e
 cases a with
 |num n=>exact h
 |txt x=>exact h
 |nums l=>obtain⟨p,e,n,q⟩:=h;exact⟨p,e,c p _ n q,k _ _ n (by intro _ z;cases z) q⟩
 |txts l=>obtain⟨p,e,n,q⟩:=h;exact⟨p,e,c p _ n q,k _ _ n (by intro _ z;cases z) q⟩
 |row r=>obtain⟨p,e,n,q⟩:=h;exact⟨p,e,c p _ n q,k _ _ n (by intro _ z;cases z) q⟩
def vJ.bare{o:List Nat}{H:Hp}{a:Ans}{v:V}(h:vJ o H a v):vJ [] H a v:=by
 cases a with
 |num n=>exact h
 |txt x=>exact h
 |nums l=>obtain⟨p,e,n,q⟩:=h;exact⟨p,e,by simp,q⟩
 |txts l=>obtain⟨p,e,n,q⟩:=h;exact⟨p,e,by simp,q⟩
 |row r=>obtain⟨p,e,n,q⟩:=h;exact⟨p,e,by simp,q⟩
def vJ.more{o:List Nat}{D:Nat}{H:Hp}{a:Ans}{v:V}(h:vJ o H a v)(n:∀p,v= .ref p->p≠D):vJ (D::o) H a v:=by
 have b:∀p,v= .ref p->p∉o->p∉D::o:=λp e q z=>(bY1.mp z).elim (n p e) q;cases a with
 |num n=>exact h
 |txt x=>exact h
 |nums l=>obtain⟨p,e,q⟩:=h;exact⟨p,e,b p e q.1,q.2⟩
 |txts l=>obtain⟨p,e,q⟩:=h;exact⟨p,e,b p e q.1,q.2⟩
 |row r=>obtain⟨p,e,q⟩:=h;exact⟨p,e,b p e q.1,q.2⟩
def x0(H:Hp)(r:Row)(v:V):Prop:=if r.void then v= .str Au else ∃p,v= .ref p/\H p=some (.tup (stV r))
def x0.same{H a:Hp}{r:Row}{v:V}(h:x0 H r v)(k:x3 H a):x0 a r v:=by
 unfold x0 at h ⊢;split
 ·rename_i e;rw[if_pos e]at h;exact h
 ·rename_i e;rw[if_neg e]at h;obtain⟨p,e,q⟩:=h;exact⟨p,e,k.tup q⟩
structure J8(H0:Hp)(CB CL T:Nat)(ba:Nat)(es:List xP)(as:List Ans)(H:Hp)(o:List Nat):Prop where
 ex:∃ (la sa:Nat)(ls cs:List Nat)(R:Rows)(S:List Int),o=own la sa ls cs/\PB CB CL H ba la sa ls cs R S/\Up es.length R S/\Bk.Y5 R/\Run [] [] es as R S
 tab:wF T H
 keep:x3 H0 H
 new:∀b∈o,∀u,(∀ps,u≠HO.tbl ps)->H0 b≠some u
inductive jB(Rf:Nat×Nat)(vs:List V)(H:Hp)(Q:VK)(_:XK):Prop|mk(ds:Nat)(das:List Nat)(es:List xP)(_:vs= [.ref ds])(_:zG H ds das es)(_:es.length<60)(_:(∀e∈es,Wf e))(_:wF Rf.2 H)(_:∀ (l:Nat)(H':Hp)(vs:List V)(as:List Ans)(R':Rows)(S':List Int),x3 H H'->wF Rf.2 H'->Run [] [] es as R' S'->Bk.Y5 R'->H' l=some (.lst vs)->cQH (λv a=>vJ [] H' a v) vs as->Q (.ref l) H')
inductive aWh(CB CL:Nat)(vs:List V)(H:Hp)(Q:VK)(_:XK):Prop|mk(ba la sa:Nat)(ls cs:List Nat)(R:Rows)(S:List Int)(_:vs= [.ref ba])(_:PB CB CL H ba la sa ls cs R S)(_:R.length<64)(_:∀ (l:Nat)(H':Hp)(vs:List V),xC H H'->H' l=some (.lst vs)->cQH (λv r=>x0 H' r v) vs R->Q (.ref l) H')
inductive v6(Rf:Nat×Nat)(vs:List V)(H:Hp)(Q:VK)(_:XK):Prop|mk(ds:Nat)(das:List Nat)(es:List xP)(_:vs= [.ref ds])(_:zG H ds das es)(_:es.length<60)(_:(∀e∈es,Wf e))(_:wF Rf.2 H)(_:∀ (l:Nat)(H':Hp)(vs:List V)(as:List Ans)(R':Rows)(S':List Int),x3 H H'->wF Rf.2 H'->Run [] [] es as R' S'->Bk.Y5 R'->H' l=some (.lst vs)->cQH (λv r=>x0 H' r v) vs R'->Q (.ref l) H')
def jS{T:Nat}{H a:Hp}(t:wF T H)(k:xC H a):wF T a:=(aKJ.of k).2 t
def J8.start{H:Hp}{n CL T x dx la sa:Nat}{f a:Hp}(tb:wF T H)(q:H x=none)(d:H dx=none)(D:dx≠x)(v:f=upd (upd H dx (.own x)) x (.ins n dx []))(j:f la=none)(g:f sa=none)(p:la≠sa) (B:a x=some (.ins n dx [(B0,.ref la),(Ag,.ref sa)])) (E:a la=some (.lst [])) (w:a sa=some (.lst [])) (A:∀b,b≠x->b≠la->b≠sa->a b=f b):J8 H n CL T x [] [] a (own la sa [] [])/\xC H a:=by
 have m:∀b,f b=none->H b=none:=λb e=>by
  subst v;by_cases z:b=x
  ·rw[z];exact q
  ·rw[yI z]at e;by_cases z2:b=dx
   ·rw[z2];exact d
   ·rw[yI z2]at e;exact e
 have k:xC H a:=λb o e=>by have b1:=yJ e q;have C:=yJ e d;rw[A b b1 (yJ e (m _ j)) (yJ e (m _ g)),v,yI b1,yI C];exact e
 refine⟨⟨⟨la,sa,[],[],[],[],rfl,⟨⟨dx,B⟩,E,w,rfl,rfl,.nil,.nil,p,by simp,by simp,λi b c r e=>by simp at e⟩,⟨bYZ _,bYZ _,λr h=>by simp at h⟩,Bk.aXB,.nil⟩,jS tb k,k.t,λb l u _ z=>?_⟩,k⟩;have s:H b=none->False:=λy=>by rw[y]at z;cases z
 rcases bY1.mp l with e|l
 ·exact s (by rw[e];exact m _ j)
 rcases bY1.mp l with e|l
 ·exact s (by rw[e];exact m _ g)
 ·simp at l
def J8.step{E:Hp}{n CL T l:Nat}{p:List xP}{F:List Ans}{H:Hp}{o:List Nat}{e:xP}(g:J8 E n CL T l p F H o)(hw:Wf e)(hz:p.length<60){y:Nat}(G:H y=some (.tup (xH e))){Q:VK}{Rf:Nat×Nat}(Y:Rf.2=T) (q:∀ (a:Ans)(v:V)(h:Hp)(m:List Nat),J8 E n CL T l (p++ [e]) (F++ [a]) h m->vJ m h a v->uR H v->Y7 o H h->qQ H o m->Q v h):aQb Rf n CL [.ref l,.ref y] H Q E0:=by
 subst Y;obtain⟨C,D,P,O,R,S,rfl,L,B,j,i⟩:=g.ex;refine⟨l,y,C,D,P,O,R,S,e,rfl,hw,G,L,B.sz (by omega),j,g.tab,λa N K v h x s c r k A U I J=>?_⟩;refine q a v h _ ⟨⟨C,D,x,s,N,K,rfl,r,?_,Bk.x2.book j ?_ c,.snoc i c⟩,U,λb u f e=>k b u (λz=>g.new b z u f e) f (g.keep b u f e),λb X u f z0=>?_⟩ I J k A
 ·rw[cQf,cQ5];exact B.done c
 ·intro W d w t M;subst M;exact hw
 ·rcases A b X with z|z
  ·exact g.new b z u f z0
  ·rw[g.keep b u f z0]at z;cases z
def J8.write{l:Hp}{s CL T p:Nat}{v:List xP}{A:List Ans}{H:Hp}{o:List Nat}(g:J8 l s CL T p v A H o){D:Nat}{xs ys:List V}(N:H D=some (.lst xs))(nD:D∉o)(h0:l D=none):J8 l s CL T p v A (upd H D (.lst ys)) o:=by
 have h:∀ {a u},H a=some u->(∀xs,u≠ .lst xs)->a≠D:=λq n z=>by rw[z,N]at q;cases q;exact n _ rfl
 obtain⟨E,G,J,I,R,S,rfl,d,C,j,f⟩:=g.ex;refine⟨⟨E,G,J,I,R,S,rfl,⟨?_,?_,?_,d.len,d.clen,d.nd,d.cnd,d.las,d.lac,d.sac,λi b c r M y F=>?_⟩,C,j,f⟩,?_,λb u B e=>?_,g.new⟩
 ·obtain⟨k,e⟩:=d.book;exact⟨k,by rw[yI (h e (by intro _ z;cases z))];exact e⟩
 ·rw[yI (λz=>nD (by rw[<- z];exact aVS))];exact d.lst
 ·rw[yI (λz=>nD (by rw[<- z];exact aYT))];exact d.sht
 ·obtain⟨⟨k,x⟩,K⟩:=d.row i b c r M y F;exact⟨⟨k,by rw[yI (h x (by intro _ z;cases z))];exact x⟩,by rw[yI (λz=>nD (by rw[<- z];exact bVt (cQa y)))];exact K⟩
 ·rcases g.tab with t|⟨L,w,m⟩
  ·exact .inl (by rw[yI (h t (by intro _ z;cases z))];exact t)
  ·exact .inr ⟨L,by rw[yI (h w (by intro _ z;cases z))];exact w,by rw[yI (h m (by intro _ z;cases z))];exact m⟩
 ·rw[yI (yJ e h0)];exact g.keep b u B e
section
variable {K:bYT}
abbrev Q7:Stmt:=xF Az
abbrev aQO:Stmt:=xF CJ
abbrev aX2:Stmt:=xI Ah BR
def aKl:yN [Bm,AJ] [Bm] (yH Q7):=scM
def aWN:xN [Bm,AJ] (yH Q7) AM [AJ] [1] (lsN [(".0",.local),(AM,.local),(CF,.globalImplicit),(AJ,.free)]):=
 lcM
def jW{α β:Type}{F G:α->β->Prop}(h:∀a b,F a b->G a b):∀ {l:List α} {m:List β},cQH F l m->cQH G l m
 |_,_,.nil=> .nil
 |_,_,.cons r t=> .cons (h _ _ r) (jW h t)
def aW0(G:MkG P w K mg base n Ah CB [A1] (aVt CB))(d:FnG P w K mg base (n+1) CF [AJ,AM] (aQb Rf CB CL))(F:Fun K Az Az Q7 f fd): xE P w K mg base CX0 (n+2) f fd [Bm] (jB Rf):=by
 have sc:=aKl;refine F.ok (k:=n+1) sc (λb4 A outer s H vs Q E hr h=>?_);obtain⟨ds,j,r,rfl,hD,b3,b0,tb,q⟩:=h;refine⟨_,(yC (yU (i:=1) (bJk G hr rfl)) (yF (yP (aQG aWN rfl (xL (pv 0)) (λ_ _ _ _ _=>wK) (λ_ _ _ _ _=>(xJ d hr rfl (yA (pv 1) (yA (pv 0) yD)))))))),?_⟩;intro x dx hx a0 b1;refine⟨x,dx,rfl,yB,λla sa H1 b2 a2 a8 h1 h2 h3 h4=>⟨rfl,?_⟩⟩;dsimp only[yW];obtain⟨g0,k0⟩:=J8.start (CL:=CL) tb hx a0 b1 rfl b2 a2 a8 h1 h2 h3 h4;have a5:=hD.same k0.t;refine⟨_,rfl,ds,rfl,⟨_,CV a5.1⟩,λD c=>?_⟩;have a7:(j.map V.ref).length=r.length:=by rw[bYW];exact hD.2.1
 have a6:H D=none:=k0.fresh c;refine⟨λi m I H'=>m=r.length - i/\i<=r.length/\H' D=some (.lst I)/\∃ (as:List Ans)(o:List Nat),J8 H CB CL Rf.2 x (r.take i) as H' o/\D∉o/\cQH (λv a=>vJ (D::o) H' a v) I as,⟨r.length,by simp,cQQ _,yB,[],own la sa [] [],?_,?_,.nil⟩,?_⟩
 ·have kD:=yG c (.lst []);obtain⟨N,M,L,O,R,S,e1,e2,e3,e4,T⟩:=g0.ex;exact⟨⟨N,M,L,O,R,S,e1,e2.same kD,e3,e4,T⟩,jS g0.tab kD,λb u nt e=>kD _ _ (g0.keep b u nt e),g0.new⟩
 ·intro z;rcases bY1.mp z with e|z
  ·rw[e,h2]at c;cases c
  rcases bY1.mp z with e|z
  ·rw[e,h3]at c;cases c
  ·simp at z
 ·rintro i m I H' ⟨rfl,hi,l,as,o,g,nD,hP⟩;have C:=hD.same g.keep;refine⟨l,?_⟩;by_cases B:i<r.length
  ·have a3:i<j.length:=by rw[hD.2.1];exact B
   have J:=bYR a3;have Y:=bYR B;refine .inr ⟨⟨j.map V.ref,.ref j[i],CV C.1,by rw[cQc,J];rfl⟩,λv H2 yl=>?_⟩;obtain⟨rfl,y⟩:=yl;have hv:(j.map V.ref)[i]? =some v:=y _ (CV C.1);rw[cQc,J]at hv;cases hv;refine⟨_,rfl,_,rfl,?_⟩;refine g.step (b0 _ (cXX B)) (by rw[cXb];omega) (C.2.2 i _ _ J Y) rfl λa v U W g3 av nv k3 gr=>?_;have a4:r.take (i+1)=r.take i++ [r[i]]:=by rw[cQU,Y];rfl
   have b5:I.length<=i:=by obtain⟨N,M,L,O,R,S,e1,e2,e3,e4,T⟩:=g.ex;have:=T.len;rw[hP.length,<- this,cXb];omega
   have X:U D=some (.lst I):=k3 _ _ nD (by intro _ z;cases z) l;have Z:D∉W:=λz=>by
    rcases gr D z with y|y
    ·exact nD y
    ·rw[l]at y;cases y
   refine⟨by rw[cQr];omega,X,r.length - (i+1),by omega,rfl,B,yB,as++ [a],W,?_,Z,?_⟩
   ·rw[a4];exact g3.write X Z a6
   ·have k4:Y7 (D::W) U (upd U D (.lst (I++ [v]))):=Y7.upd bY7 _;have k5:Y7 (D::o) H2 U:=λb u nb nt e=>k3 b u (λz=>nb (bY4 _ z)) nt e;have a1:qQ H2 (D::o) (D::W):=λb hb=>by
     rcases bY1.mp hb with e|hb
     ·exact .inl (by rw[e];exact bY7)
     ·exact(gr b hb).imp (bY4 _) id
    have a9:vJ (D::W) U a v:=av.more λp e z=>by rw[z]at e;exact nv D e _ (by intro _ z;cases z) l
    exact Law.aXt (F:=λv' a'=>vJ (D::W) (upd U D (.lst (I++ [v]))) a' v') (a9.kept k4 qQ.refl) (jW (λv a (h:vJ (D::o) H2 a v)=>(h.kept k5 a1).kept k4 qQ.refl) hP)
  ·obtain rfl:i=r.length:=by omega
   obtain⟨N,M,L,O,R,S,e1,e2,e3,e4,T⟩:=g.ex;rw[cQP]at T;exact .inl ⟨⟨j.map V.ref,CV C.1,by rw[a7];exact bYZ _⟩,q D H' I as R S g.keep g.tab T e4 l (jW (λv a h=>h.bare) hP)⟩
def bQC:yN [A1] [A1] (yH aX2):=scM
def aYo:xN [A1] (yH aX2) AL [] [] (lsN [(".0",.local),(AL,.local)]):=
 lcM
def aYP(cl:Cl K CB CL)(d:MG P w K mg base CX0 n CL BW [A1] (aVv CL))(F:Fun K BR "Book.standing_states" aX2 f fd):xE P w K mg base CX0 (n+1) f fd [A1] (aWh CB CL):=by
 have sc:=bQC;refine F.ok (k:=n) sc (λa0 A outer s H vs Q E hr h=>?_);obtain⟨ba,la,sa,M,cs,R,S,rfl,L,hR,q⟩:=h;refine⟨_,(yF (yP (aQG aYo rfl (xL (y3 (pv 0) rfl)) (λ_ _ _ _ _=>wK) (λ_ _ _ _ _=>(aVV (xZ (aQE (K:=K) (pv 0) rfl)) yR (bZb d hr v1 (pv 0))))))),?_⟩;obtain⟨dx,hb⟩:=L.book;have hl:(M.map V.ref).length=R.length:=by rw[bYW];exact L.len
 refine⟨_,rfl,ba,CB,dx,_,_,rfl,hb,cl.b,cl.letters,rfl,la,rfl,⟨_,CV L.lst⟩,λD hD=>?_⟩;refine⟨λi m a I=>m=R.length - i/\i<=R.length/\xC H I/\I D=some (.lst a)/\cQH (λv r=>x0 I r v) a (R.take i),⟨R.length,by simp,cQQ _,yG hD _,yB,.nil⟩,?_⟩;rintro i m a I ⟨rfl,hi,W,u,N⟩;have o:=L.same W;refine⟨u,?_⟩;by_cases B:i<R.length
 ·have G:=bYR B;obtain⟨b,c,Z,g2,g3,⟨x,U⟩,g5⟩:=o.get G;refine .inr ⟨⟨M.map V.ref,.ref b,CV o.lst,Z⟩,λv X yl=>?_⟩;obtain⟨rfl,y⟩:=yl;have J:(M.map V.ref)[i]? =some v:=y _ (CV o.lst);rw[Z]at J;cases J;have T:R.take (i+1)=R.take i++ [R[i]]:=by rw[cQU,G];rfl
  have a1:a.length<=i:=by rw[N.length,cXb];omega
  refine⟨_,rfl,b,CL,x,_,_,rfl,U,cl.l,cl.void,rfl,_,rfl,?_⟩;have fin:∀ (v:V)(j:Hp),xC X j->x0 j R[i] v->a.length<cQk/\j D=some (.lst a)/\∃Y,Y<R.length - i/\(Y=R.length - (i+1)/\i+1<=R.length/\xC H (upd j D (.lst (a++ [v])))/\upd j D (.lst (a++ [v])) D=some (.lst (a++ [v]))/\cQH (λg r=>x0 (upd j D (.lst (a++ [v]))) r g) (a++ [v]) (R.take (i+1))):=λv j O sv=>by
   have C:=O _ _ u;have tu:∀ (g:V)(r:Row),x0 j r g->x0 (upd j D (.lst (a++ [v]))) r g:=λg r h=>by
    unfold x0 at h ⊢;split
    ·rename_i e;rw[if_pos e]at h;exact h
    ·rename_i e;rw[if_neg e]at h;obtain⟨p,e,q⟩:=h;exact⟨p,e,by rw[yI (aXd q C (by intro z;cases z))];exact q⟩
   refine⟨by rw[cQr];omega,C,R.length - (i+1),by omega,rfl,B,Law.aQ6 (W.trans O) hD,yB,?_⟩;rw[T];exact Law.aXt (F:=λg r=>x0 (upd j D (.lst (a++ [v]))) r g) (tu _ _ sv) (jW (λg r (h:x0 X r g)=>tu g r (h.same O.t)) N)
  cases J:R[i].void with
  |true=>exact onT rfl (fin _ _ (xC.refl _) (by unfold x0;rw[J];rfl))
  |false=>refine onF rfl ⟨_,rfl,b,x,_,rfl,U,rfl,b,i,_,c,rfl,⟨x,U⟩,λt ht=>?_⟩;exact fin _ _ (yG ht _) (by unfold x0;rw[J];exact⟨t,rfl,yB⟩)
 ·obtain rfl:i=R.length:=by omega
  rw[cQP]at N;exact .inl ⟨⟨M.map V.ref,CV o.lst,by rw[hl];exact bYZ _⟩,q D I a W u N⟩
def aVp:yN [Bm,AJ,AM] [Bm] (yH aQO):=scM
def aJX(d:MkG P w K mg base n Ah CB [A1] (aVt CB))(c:FnG P w K mg base (n+1) CF [AJ,AM] (aQb Rf CB CL))(b:MG P w K mg base CX0 (n+1) CB BR [A1] (aWh CB CL)) (F:Fun K CJ CJ aQO f fd):xE P w K mg base CX0 (n+2) f fd [Bm] (v6 Rf):=by
 have sc:=aVp;refine F.ok (k:=n+1) sc (λa5 A outer s H vs Q E Y h=>?_);obtain⟨ds,j,m,rfl,y,a4,X,tb,q⟩:=h;refine⟨_,(yC (yU (i:=1) (bJk d Y rfl)) (yC (zT cQG rfl (xL (pv 0)) (y9 (i:=2)) (yF (yY (xJ c Y rfl (yA (pv 1) (yA (pv 2) yD)))))) (yF (yP (bZb b Y v1 (pv 1)))))),?_⟩;intro x dx hx G Z;refine⟨x,dx,rfl,yB,λla sa H1 a2 I U h1 h2 h3 h4=>⟨rfl,?_⟩⟩;dsimp only[yW];obtain⟨g0,k0⟩:=J8.start (CL:=CL) tb hx G Z rfl a2 I U h1 h2 h3 h4;have M:=y.same k0.t;have u:(j.map V.ref).length=m.length:=by rw[bYW];exact y.2.1
 refine⟨_,rfl,ds,rfl,⟨_,CV M.1⟩,?_⟩;refine zJ (xs:=j.map V.ref) (λi σ D=>L2.Ez3 λ(C:Option V)(B:List Ans)(o:List Nat)=>σ= [some (.ref ds),some (.ref x),C]/\J8 H CB CL Rf.2 x (m.take i) B D o) ?_ ?_ ?_ ?_
 ·exact⟨none,[],_,rfl,g0⟩
 ·rintro i σ D hi ⟨C,B,o,rfl,g⟩;exact CV (y.same g.keep).1
 ·rintro i v σ D T ⟨C,B,o,rfl,g⟩;have e:i<m.length:=by rw[<- u];exact(bY3.mp T).1
  have p:=bYR (show i<j.length by rw[y.2.1];exact e);have z:=bYR e;rw[cQc,p]at T;cases T;have N:=y.same g.keep;have L:m.take (i+1)=m.take i++ [m[i]]:=by rw[cQU,z];rfl
  dsimp only[yW];refine⟨_,rfl,_,rfl,?_⟩;refine g.step (X _ (cXX e)) (by rw[cXb];omega) (N.2.2 i _ _ p z) rfl λa v H3 o' g3 av nv k3 gr=>?_;rw[<- L]at g3;exact⟨_,_,o',rfl,g3⟩
 ·rintro σ D ⟨C,B,o,rfl,g⟩;rw[u,cQP]at g;obtain⟨a0,W,J,a1,R,S,e1,e2,e3,e4,e5⟩:=g.ex;obtain⟨O,hb⟩:=e2.book;refine⟨_,rfl,x,O,_,rfl,hb,rfl,x,a0,W,J,a1,R,S,rfl,e2,by have:=e3.r;omega,λl H5 vs k5 a3 hP=>?_⟩;exact q l H5 vs B R S (g.keep.trans k5.t) (jS g.tab k5) e5 e4 a3 hP
end
end Desk
namespace Law
open PySem L2 PyProof.Rows
open Bk (Row Rows x2 xP Ans)
open Desk (xH vJ uR Wf Up Run zG jW)
structure LGo(H0:Hp)(ra sa:Nat)(es:List xP)(as:List Ans)(H:Hp)(rs:List Nat):Prop where
 ex:∃ (R:Rows)(S:List Int),LBk H ra sa rs R S/\Up es.length R S/\Bk.Y5 R/\Run [] [] es as R S
 keep:xC H0 H
 newR:H0 ra=none
 newS:H0 sa=none
 newB:∀b∈rs,H0 b=none
def LGo.same{c H f:Hp}{e sa:Nat}{i:List xP}{d:List Ans}{h:List Nat}(g:LGo c e sa i d H h)(k:xC H f):LGo c e sa i d f h:=
 ⟨let ⟨R,S,a,b⟩:=g.ex;⟨R,S,a.same k,b⟩,g.keep.trans k,g.newR,g.newS,g.newB⟩
def LGo.start{H:Hp}{a sa:Nat}(e:H a=none)(c:upd H a (.lst []) sa=none):LGo H a sa [] [] (upd (upd H a (.lst [])) sa (.lst [])) []:=by
 have g:=yG e (.lst []);have f:=yG c (.lst []);have ne:sa≠a:=λz=>by rw[z,yB]at c;cases c
 exact⟨⟨[],[],⟨⟨f _ _ yB,rfl,.nil,λi b r h=>by simp at h⟩,yB,ne,by simp,λb d=>by simp at d⟩,⟨bYZ _,bYZ _,λr h=>by simp at h⟩,Bk.aXB,.nil⟩,g.trans f,e,g.fresh c,λb d=>by simp at d⟩
def bWx{H j:Hp}{g sa:Nat}{b:List Nat}{s:Rows}{u:List Int}{a:Ans}{v:V}(t:LBk j g sa b s u)(m:∃c,H g=some (.lst c))(k:∃c,H sa=some (.lst c))(f:vJ [] j a v)(q:uR H v):vJ (sa::g::b) j a v:=by
 have no:∀p,v= .ref p->(∀r d,j p≠some (.lst (uP r d)))->p∉sa::g::b:=λp e n z=>by
  rcases bY1.mp z with z|z
  ·obtain⟨c,h⟩:=k;exact q p e (.lst c) (by intro _ y;cases y) (by rw[z];exact h)
  rcases bY1.mp z with z|z
  ·obtain⟨c,h⟩:=m;exact q p e (.lst c) (by intro _ y;cases y) (by rw[z];exact h)
  ·obtain⟨i,o,A⟩:=cQJ z;obtain⟨d,w,_⟩:=t.book.row i p _ (by rw[bYR o,A]) (bYR (show i<s.length by rw[<- t.book.len];exact o));exact n _ d w
 cases a with
 |num n=>exact f
 |txt x=>exact f
 |nums l=>obtain⟨p,e,_,h⟩:=f;exact⟨p,e,no p e λr d z=>by rw[h]at z;exact aQJ (cQd z).symm,h⟩
 |txts l=>obtain⟨p,e,_,h⟩:=f;exact⟨p,e,no p e λr d z=>by rw[h]at z;exact qL (cQd z).symm,h⟩
 |row r=>obtain⟨p,e,_,h⟩:=f;exact⟨p,e,no p e λr d z=>(by rw[h]at z;cases z),h⟩
def LGo.step{E H:Hp}{i sa:Nat}{y:List xP}{F:List Ans}{p:List Nat}{e:xP}(g:LGo E i sa y F H p)(hw:Wf e)(hz:y.length<60){B:Nat}(G:H B=some (.tup (xH e))){Q:VK} (q:∀ (a:Ans)(v:V)(j:Hp)(f:List Nat),LGo E i sa (y++ [e]) (F++ [a]) j f->aZh i sa p f H j->vJ (sa::i::f) j a v->uR H v->Q v j):aXx [.ref i,.ref sa,.ref B] H Q E0:=by
 obtain⟨R,S,A,n,l,k⟩:=g.ex;refine⟨i,sa,B,p,R,S,e,rfl,G,hw,A,by have:=n.r;omega,by have:=n.s;omega,l,λr N=>by have:=n.c r N;omega,λj a v L J f C m u I D=>?_⟩;refine q a v j f ⟨⟨L,J,m,?_,Bk.x2.book l ?_ u,.snoc k u⟩,λx o h=>?_,g.newR,g.newS,λb O=>?_⟩ C (bWx m ⟨_,A.book.lst⟩ ⟨_,A.shut⟩ I D) D
 ·rw[cQf,cQ5];exact n.done u
 ·intro M d w t K;subst K;exact hw
 ·exact C.1 x o (yJ h g.newS) (yJ h g.newR) (λz=>by rw[g.newB x z]at h;cases h) (g.keep _ _ h)
 ·rcases C.2.1 b O with z|z
  ·exact g.newB b z
  ·exact g.keep.fresh z
structure aWq(H0:Hp)(ra sa:Nat)(H:Hp)(rs:List Nat)(D:Nat)(xs:List V):Prop where
 at_:H D=some (.lst xs)
 new:H0 D=none
 nr:D≠ra
 ns:D≠sa
 nb:D∉rs
 nc:NoC rs H D
def aWq.step{c H d:Hp}{b sa D:Nat}{e a:List Nat}{xs:List V}(h:aWq c b sa H e D xs)(st:aZh b sa e a H d):aWq c b sa d a D xs:=
 ⟨st.1 D _ h.ns h.nr h.nb h.at_,h.new,h.nr,h.ns,λz=>(st.2.1 D z).elim h.nb (λy=>by have:=h.at_;rw[y]at this;cases this),st.2.2 D _ h.at_ h.nc⟩
def aWq.same{c H e:Hp}{d sa D:Nat}{a:List Nat}{xs:List V}(h:aWq c d sa H a D xs)(f:∀b∈a,∃o,H b=some o)(k:xC H e):aWq c d sa e a D xs:=
 ⟨k _ _ h.at_,h.new,h.nr,h.ns,h.nb,(But.of f k).2.2 D _ h.at_ h.nc⟩
def LGo.dom{c H:Hp}{e sa:Nat}{f:List xP}{d:List Ans}{a:List Nat}(g:LGo c e sa f d H a):∀b∈a,∃o,H b=some o:=let ⟨R,S,h,_⟩:=g.ex;h.book.dom
def LGo.write{n H:Hp}{m sa D:Nat}{q:List xP}{t:List Ans}{f:List Nat}{xs:List V}(g:LGo n m sa q t H f)(h:aWq n m sa H f D xs)(ys:List V):LGo n m sa q t (upd H D (.lst ys)) f/\aWq n m sa (upd H D (.lst ys)) f D ys:=by
 obtain⟨R,S,c,v,p,d⟩:=g.ex;have nb:∀b∈f,b≠D:=λb a z=>h.nb (by rw[<- z];exact a);refine⟨⟨⟨R,S,⟨⟨by rw[yI (cQB h.nr)];exact c.book.lst,c.book.len,c.book.nd,λi b r a y=>?_⟩,by rw[yI (cQB h.ns)];exact c.shut,c.ne,c.no,λb a l k=>c.noC b a l (by rw[yI (nb b a)]at k;exact k)⟩,v,p,d⟩,λx o e=>?_,g.newR,g.newS,g.newB⟩,yB,h.new,h.nr,h.ns,h.nb,λb a l k=>h.nc b a l (by rw[yI (nb b a)]at k;exact k)⟩
 ·obtain⟨w,s,u⟩:=c.book.row i b r a y;have j:=cQa a;exact⟨w,by rw[yI (nb b j)];exact s,by rw[yI (λz=>h.nc b j _ s (by rw[<- z];rfl))];exact u⟩
 ·rw[yI (yJ e h.new)];exact g.keep _ _ e
def aWq.write{c H:Hp}{f sa D E:Nat}{a:List Nat}{xs:List V}(h:aWq c f sa H a D xs)(ne:D≠E)(g:E∉a)(u:HO):aWq c f sa (upd H E u) a D xs:=
 ⟨by rw[yI ne];exact h.at_,h.new,h.nr,h.ns,h.nb,λb d l e=>h.nc b d l (by rw[yI (λz=>g (by rw[<- z];exact d))]at e;exact e)⟩
end Law
namespace Bk
open PySem (Str)
def bJW{R:Rows}{k:Nat}{r:Row}(a:R[k]? =some r)(b:r.void=false):wW R (k:Int)=true:=by
 unfold wW;rw[cQt,a];simp[b]
def one(R:Rows)(S:List Int)(m:Int)(f:Nat->Row->Ans×Rows×List Int):Ans×Rows×List Int:=if wW R m=false then(.txt "no letter",R,S)else match R[m.toNat]? with
 |some r=>f m.toNat r
 |none=>(.txt "no letter",R,S)
def bWZ{R:Rows}{S:List Int}{m:Int}{f:Nat->Row->Ans×Rows×List Int}(h:wW R m=false):one R S m f=(.txt "no letter",R,S):=if_pos h
def zW{R:Rows}{k:Nat}{r:Row}(a:R[k]? =some r)(b:r.void=false):¬wW R (k:Int)=false:=by rw[bJW a b];exact Bool.noConfusion
def xY{R:Rows}{S:List Int}{k:Nat}{r:Row}{f:Nat->Row->Ans×Rows×List Int}(a:R[k]? =some r)(b:r.void=false):one R S (k:Int) f=f k r:=(if_neg (zW a b)).trans (by rw[cQt,a])
open Classical in
noncomputable def out (R:Rows) (S:List Int):xP->Ans×Rows×List Int
 |.enter e d b t=>if t<0 then(.txt "no term",R,S)else(.num R.length,R++ [⟨e,d,b,t,none,"",false,[]⟩],S)
 |.reply m d t=>if wW R m=false then(.txt "no letter",R,S)else if t<0 then(.txt "no term",R,S)else one R S m λk r=>if d<r.date then(.txt "too early",R,S)else(.num R.length,R++ [⟨uZ r.way,d,r.partner,t,some k,r.place,false,[]⟩],S)
 |.hang m o=>if wW R m=false\/wW R o=false then(.txt "no letter",R,S)else one R S m λi r=>one R S o λj q=>if r.link≠none then(.txt "has one",R,S)else if(thr R j).head? =some i then(.txt "own thread",R,S)else
   if r.way=q.way then(.txt "same way",R,S)else if r.partner≠q.partner then(.txt "other partner",R,S)else if r.date<q.date then(.txt "too early",R,S)else(.txt "hung",xO (laid R (thr R i) q.place) i λr=>{r with link:=some j},S)
 |.loose m=>one R S m λk r=>if r.link=none then(.txt "has none",R,S)else(.txt Bv,xO R k λr=>{r with link:=none},S)
 |.date m d=>one R S m λk r=>if(∃j,r.link=some j/\d<dt R j)\/∃c∈z9 R k,dt R c<d then(.txt "too early",R,S)else(.txt "dated",xO R k λr=>{r with date:=d},S)
 |.term m t=>one R S m λk r=>if t<0 then(.txt "no term",R,S)else(.txt B4,xO R k λr=>{r with term:=t},S)
 |.copy m w=>one R S m λk r=>if w=r.partner\/w∈r.copies then(.txt CP,R,S)else(.num (r.copies.length+1),xO R k λr=>{r with copies:=r.copies++ [w] },S)
 |.file m w=>one R S m λk _=>(.num (thr R k).length,laid R (thr R k) w,S)
 |.void m=>one R S m λk r=>if z9 R k= []then(.txt Au,xO R k λr=>{r with link:=none,void:=true},S)else(.txt B2,R,S)
 |.shut d=>if Dm.cts S d=true then(.txt Ag,R,S++ [d])else(.txt "counts not",R,S)
 |.state m=>one R S m λ_ r=>(.row r,R,S)
 |.thread m=>one R S m λk _=>(.nums (thr R k),R,S)
 |.copies m=>one R S m λ_ r=>(.txts r.copies,R,S)
 |.letters w=>(.nums ((bY5 R.length).filter λk=>match R[k]? with|some r=> !r.void && decide (r.place=w)|none=>false),R,S)
 |.on a d=>if h:∃l,aKM R S d a l then(.nums (choose h),R,S)else(.nums [],R,S)
def x2.out{R s:Rows}{S r:List Int}{e:xP}{a:Ans}(h:x2 R S e a s r):out R S e=(a,s,r):=by
 cases h with
 |enter h=>exact if_neg (cZI.mpr h)
 |enterT h=>exact if_pos h
 |replyN h=>exact if_pos h
 |replyT h o=>exact(if_neg (by rw[h];exact Bool.noConfusion)).trans (if_pos o)
 |replyE f h o p=>exact(if_neg (zW f h)).trans ((if_neg (cZI.mpr o)).trans ((xY f h).trans (if_pos p)))
 |reply f h o p=>exact(if_neg (zW f h)).trans ((if_neg (cZI.mpr o)).trans ((xY f h).trans (if_neg (cZI.mpr p))))
 |hangN h=>exact if_pos h
 |hangH i d g hw h=>exact(if_neg (not_or.mpr ⟨zW i d,zW g hw⟩)).trans ((xY i d).trans ((xY g hw).trans (if_pos h)))
 |hangO i d g hw h k=>exact(if_neg (not_or.mpr ⟨zW i d,zW g hw⟩)).trans ((xY i d).trans ((xY g hw).trans ((if_neg (not_not_intro h)).trans (if_pos k))))
 |hangW i d g hw h k m=>exact(if_neg (not_or.mpr ⟨zW i d,zW g hw⟩)).trans ((xY i d).trans ((xY g hw).trans ((if_neg (not_not_intro h)).trans ((if_neg k).trans (if_pos m)))))
 |hangP i d g hw h k m n=>exact(if_neg (not_or.mpr ⟨zW i d,zW g hw⟩)).trans ((xY i d).trans ((xY g hw).trans ((if_neg (not_not_intro h)).trans ((if_neg k).trans ((if_neg m).trans (if_pos n))))))
 |hangE i d g hw h k m n q=>exact(if_neg (not_or.mpr ⟨zW i d,zW g hw⟩)).trans ((xY i d).trans ((xY g hw).trans ((if_neg (not_not_intro h)).trans ((if_neg k).trans ((if_neg m).trans ((if_neg (not_not_intro n)).trans (if_pos q)))))))
 |hang i d g hw h k m n q=>exact(if_neg (not_or.mpr ⟨zW i d,zW g hw⟩)).trans ((xY i d).trans ((xY g hw).trans ((if_neg (not_not_intro h)).trans ((if_neg k).trans ((if_neg m).trans ((if_neg (not_not_intro n)).trans (if_neg (cZI.mpr q))))))))
 |oneN h t=>rcases t with rfl|⟨_,rfl⟩|⟨_,rfl⟩|⟨_,rfl⟩|⟨_,rfl⟩|rfl|rfl|rfl|rfl<;> (unfold Bk.out;exact bWZ h)
 |looseN f d h=>unfold Bk.out;exact(xY f d).trans (if_pos h)
 |loose f d h=>unfold Bk.out;exact(xY f d).trans (if_neg h)
 |dateE f d h=>unfold Bk.out;exact(xY f d).trans (if_pos h)
 |date f d m n=>unfold Bk.out;exact(xY f d).trans (if_neg (not_or.mpr ⟨λ⟨j,a,b⟩=>absurd (m j a) (Int.not_le.mpr b),λ⟨c,a,b⟩=>absurd (n c a) (Int.not_le.mpr b)⟩))
 |termN f d h=>unfold Bk.out;exact(xY f d).trans (if_pos h)
 |term f d h=>unfold Bk.out;exact(xY f d).trans (if_neg (cZI.mpr h))
 |copyC f d h=>unfold Bk.out;exact(xY f d).trans (if_pos h)
 |copy f d h n=>unfold Bk.out;exact(xY f d).trans (if_neg (not_or.mpr ⟨h,n⟩))
 |file f d=>unfold Bk.out;exact xY f d
 |voidA f d h=>unfold Bk.out;exact(xY f d).trans (if_neg h)
 |void f d h=>unfold Bk.out;exact(xY f d).trans (if_pos h)
 |shutN h=>exact if_neg (by rw[h];exact Bool.noConfusion)
 |shut h=>exact if_pos h
 |state f d=>unfold Bk.out;exact xY f d
 |thread f d=>unfold Bk.out;exact xY f d
 |copies f d=>unfold Bk.out;exact xY f d
 |letters=>rfl
 |on h=>exact(dif_pos ⟨_,h⟩).trans (by rw[(cJx (⟨_,h⟩:∃l,aKM R S _ _ l)).uniq h])
def x2.det{R g R2:Rows}{S d f:List Int}{e c:xP}{a b:Ans}(j:c=e)(h:x2 R S e a g d)(i:x2 R S c b R2 f):a=b/\g=R2/\d=f:=by
 subst j;have q:=h.out.symm.trans i.out;exact⟨congrArg (·.1) q,congrArg (·.2.1) q,congrArg (·.2.2) q⟩
end Bk
namespace Desk
open Bk (Row Rows x2 xP Ans)
def Run.inv{R c:Rows}{S b:List Int}{l:List xP}{bs:List Ans}(h:Run R S l bs c b):(l= []/\bs= []/\c=R/\b=S)\/∃i e f a j g,l=i++ [e]/\bs=f++ [a]/\Run R S i f j g/\x2 j g e a c b:=by
 cases h with
 |nil=>exact .inl ⟨rfl,rfl,rfl,rfl⟩
 |snoc h d=>exact .inr ⟨_,_,_,_,_,_,rfl,rfl,h,d⟩
def Run.det{R:Rows}{S:List Int}:∀ (n:Nat) {b:List xP} {i bs:List Ans} {j R2:Rows} {f c:List Int},b.length=n->Run R S b i j f->Run R S b bs R2 c->i=bs/\j=R2/\f=c
 |0,b,i,bs,j,R2,f,c,hn,h,h2=>by
  rcases h.inv with⟨rfl,rfl,rfl,rfl⟩|⟨_,_,_,_,_,_,rfl,_⟩
  ·rcases h2.inv with⟨_,rfl,rfl,rfl⟩|⟨m,k,_,_,_,_,z,_⟩
   ·exact⟨rfl,rfl,rfl⟩
   ·exact absurd (congrArg cX0 z) (by simp)
  ·simp at hn
 |n+1,b,i,bs,j,R2,f,c,hn,h,h2=>by
  rcases h.inv with⟨rfl,_⟩|⟨l,e,t,a,x,v,rfl,rfl,g,d⟩
  ·simp at hn
  ·rcases h2.inv with⟨z,_⟩|⟨r,k,q,w,p,u,z,rfl,o,s⟩
   ·exact absurd (congrArg cX0 z) (by simp)
   ·obtain⟨rfl,z2⟩:=cZ2 z rfl;cases z2;obtain⟨rfl,rfl,rfl⟩:=Run.det n (by simpa using hn) g o;obtain⟨rfl,rfl,rfl⟩:=Bk.x2.det rfl d s;exact⟨rfl,rfl,rfl⟩
end Desk
namespace Law
open PySem L2 PyProof.Rows
open Bk (Row Rows x2 xP Ans)
open Desk (xH vJ uR Wf Up Run zG jW)
def qS{o b:List Nat}{H c:Hp}{a:Ans}{v:V}(h:vJ o H a v)(k:∀p u,p∉o->H p=some u->p∉b/\c p=some u):vJ b c a v:=by
 cases a with
 |num n=>exact h
 |txt x=>exact h
 |nums l=>obtain⟨p,e,n,q⟩:=h;exact⟨p,e,k p _ n q⟩
 |txts l=>obtain⟨p,e,n,q⟩:=h;exact⟨p,e,k p _ n q⟩
 |row r=>obtain⟨p,e,n,q⟩:=h;exact⟨p,e,k p _ n q⟩
structure Mid(H0:Hp)(ra sa ds us:Nat)(es:List xP)(das:List Nat)(i:Nat)(H:Hp):Prop where
 ne:ds≠us
 wf:∀e∈es,Wf e
 len:das.length=es.length
 at_:∀ (j:Nat)(d:Nat)(e:xP),das[j]? =some d->es[j]? =some e->H d=some (.tup (xH e))
 ex:∃ (rs:List Nat)(as:List Ans)(vs:List V),LGo H0 ra sa (es.take i) as H rs/\aWq H0 ra sa H rs ds (das.map V.ref)/\aWq H0 ra sa H rs us vs/\cQH (λv a=>vJ (us::ds::sa::ra::rs) H a v) vs as
def Mid.same{h H l:Hp}{c sa ds us:Nat}{f:List xP}{b:List Nat}{i:Nat}(m:Mid h c sa ds us f b i H)(k:xC H l):Mid h c sa ds us f b i l:=by
 obtain⟨o,w,s,g,q,r,p⟩:=m.ex;exact⟨m.ne,m.wf,m.len,λj d e t x=>k _ _ (m.at_ j d e t x),o,w,s,g.same k,q.same g.dom k,r.same g.dom k,jW (λv a z=>qS z λp u n e=>⟨n,k _ _ e⟩) p⟩
def Mid.keep{b H:Hp}{c sa ds us:Nat}{d:List xP}{a:List Nat}{i:Nat}(m:Mid b c sa ds us d a i H):xC b H:=let ⟨rs,as,vs,g,_⟩:=m.ex;g.keep
def Mid.push{A H:Hp}{s sa ds us:Nat}{f:List xP}{b:List Nat}{i:Nat}(m:Mid A s sa ds us f b i H)(t:i=f.length){d:Nat}{e:xP}(B:H d=some (.tup (xH e)))(hw:Wf e):Mid A s sa ds us (f++ [e]) (b++ [d]) i (upd H ds (.lst ((b++ [d]).map V.ref))):=by
 obtain⟨C,F,E,g,o,D,p⟩:=m.ex;have w:=g.write o ((b++ [d]).map V.ref);have tk:∀ {x ys},H x=some (.tup ys)->upd H ds (.lst ((b++ [d]).map V.ref)) x=some (.tup ys):=λ{x ys} h=>by rw[yI (λz=>by rw[z,o.at_]at h;cases h)];exact h
 refine⟨m.ne,λx c=>?_,by simp[m.len],λj x y l k=>?_,C,F,E,?_,w.2,D.write (cQB m.ne) o.nb _,jW (λv a z=>qS z λp u n h=>⟨n,?_⟩) p⟩
 ·rcases cQw.mp c with c|c
  ·exact m.wf x c
  ·rw[bY9.mp c];exact hw
 ·by_cases r:j<f.length
  ·rw[cQz (by rw[m.len];exact r)]at l;rw[cQz r]at k;exact tk (m.at_ j x y l k)
  ·have q:j=f.length:=by
    have:=(bY3.mp k).1;simp at this;omega
   subst q;rw[cQi (by rw[m.len];exact bYZ _),m.len,cXe]at l;rw[cQi (bYZ _),cXe]at k;cases l;cases k;exact tk B
 ·rw[t,List.take_left' rfl];have:=w.1;rw[t,cQP]at this;exact this
 ·rw[yI (λz=>n (by rw[z];exact bY4 _ bY7))];exact h
def Mid.next{W H:Hp}{b sa ds us:Nat}{o:List xP}{f:List Nat}{i:Nat}(m:Mid W b sa ds us o f i H)(hz:i<60){d:Nat}{e:xP}(Y:f[i]? =some d)(E:o[i]? =some e){Q:VK} (q:∀ (v:V)(k:Hp)(vs:List V),H us=some (.lst vs)->k us=some (.lst vs)->vs.length=i->Mid W b sa ds us o f (i+1) (upd k us (.lst (vs++ [v])))->Q v k):aXx [.ref b,.ref sa,.ref d] H Q E0:=by
 obtain⟨O,as,vs,g,P,I,p⟩:=m.ex;have a0:i<o.length:=(bY3.mp E).1;have t:(o.take i).length=i:=by rw[cXb];omega
 have M:vs.length=i:=by obtain⟨R,S,_,_,_,hr⟩:=g.ex;rw[cXA p,<- hr.len,t]
 have hw:Wf e:=m.wf e (cQa E);refine g.step hw (by rw[t];exact hz) (m.at_ i d e Y E) λa v k c g2 C s T=>?_;have t1:=P.step C;have D:=I.step C;refine q v k vs I.at_ D.at_ M ?_;have w:=g2.write D (vs++ [v]);obtain⟨R,S,K,_⟩:=g.ex;have tk:∀ {x ys},H x=some (.tup ys)->upd k us (.lst (vs++ [v])) x=some (.tup ys):=λ{x ys} h=>by
  have F:x≠sa:=λz=>by rw[z,K.shut]at h;cases h
  have G:x≠b:=λz=>by rw[z,K.book.lst]at h;cases h
  have B:=C.1 x _ F G (K.book.tupNo h) h;rw[yI (λz=>by rw[z,D.at_]at B;cases B)];exact B
 have Z:∀p u,p∉us::ds::sa::b::O->H p=some u->p∉us::ds::sa::b::c/\upd k us (.lst (vs++ [v])) p=some u:=λp u n h=>by
  have F:p≠us:=λz=>n (by rw[z];exact bY7);have G:p≠ds:=λz=>n (by rw[z];simp);have N:p≠sa:=λz=>n (by rw[z];simp);have X:p≠b:=λz=>n (by rw[z];simp);have U:p∉O:=λz=>n (by simp[z]);refine⟨λz=>?_,by rw[yI F];exact C.1 p u N X U h⟩;simp only[bY1,F,G,N,X,false_or]at z;rcases C.2.1 p z with y|y
  ·exact U y
  ·rw[h]at y;cases y
 have et:o.take (i+1)=o.take i++ [e]:=by rw[cQU,E];rfl
 refine⟨m.ne,m.wf,m.len,λj x y h1 B=>tk (m.at_ j x y h1 B),c,as++ [a],vs++ [v],by rw[et];exact w.1,t1.write m.ne D.nb _,w.2,?_⟩;refine cZP (jW (λv a z=>qS z Z) p) ?_;have A:∀x,v= .ref x->x≠us:=λx ex z=>T x ex (.lst vs) (by intro _ y;cases y) (by rw[z];exact I.at_);have L:∀x,v= .ref x->x≠ds:=λx ex z=>T x ex (.lst (f.map V.ref)) (by intro _ y;cases y) (by rw[z];exact P.at_);have J:∀x u,v= .ref x->x∉sa::b::c->k x=some u->x∉us::ds::sa::b::c/\upd k us (.lst (vs++ [v])) x=some u:=λx u ex n h=>
  ⟨λz=>(bY1.mp z).elim (A x ex) λz=>(bY1.mp z).elim (L x ex) n,by rw[yI (A x ex)];exact h⟩
 cases a with
 |num n=>exact s
 |txt x=>exact s
 |nums l=>obtain⟨x,ex,n,h⟩:=s;exact⟨x,ex,J x _ ex n h⟩
 |txts l=>obtain⟨x,ex,n,h⟩:=s;exact⟨x,ex,J x _ ex n h⟩
 |row r=>obtain⟨x,ex,n,h⟩:=s;exact⟨x,ex,J x _ ex n h⟩
end Law
namespace Law
open PySem L2 PyProof.Rows
open Bk (Row Rows x2 xP Ans)
open Desk (xH vJ uR Wf wX stV)
def aZz(a:Array Nat):∀ (m:Nat)(b:Array Nat),((cZq m a).foldl (·++·) b).size=b.size+m*a.size
 |0,b=>by simp
 |m+1,b=>by rw[List.replicate_succ,List.foldl_cons,aZz a m,Array.size_append,Nat.succ_mul];omega
def bJ7{x:Str}{n:Int}(b:x.length<=1)(c:n<=100):(Txt.mul x n).length<=100:=by
 unfold Txt.mul;split
 ·decide
 ·split
  ·omega
  ·rename_i e _;show((cZq n.toNat x.cps).foldl (·++·) #[]).size<=100;rw[aZz];have a:x.cps.size<=1:=b;have f:n.toNat*x.cps.size<=n.toNat*1:=Nat.mul_le_mul_left _ a;have d:(#[]:Array Nat).size=0:=rfl;omega
inductive bX6(x:V)(y:V)(H:Hp)(Q:VK):Prop|mk(i n)(_:x= .str i)(_:y= .int n)(_:i.length<=1)(_:0<=n)(_:n<=100)(_:∀z:Str,z.length<=100->Q (.str z) H)
def aQB{X:Cx}:OpR X (cZz .Mult) bX6:=by
 intro a s σ H x y v u Q I g c h;obtain⟨i,n,rfl,rfl,b,j,d,q⟩:=h;obtain⟨t,rfl⟩:=g;obtain⟨e,rfl⟩:=c;refine SB.mul ⟨?_,λf _=>?_,λf _=>?_⟩ λe k=>⟨.str (Txt.mul i n),H,I.tok _,⟨_,rfl⟩,q _ (bJ7 b d)⟩
 ·rw[decide_eq_false (by omega),decide_eq_false (by omega)];rfl
 ·have:(1:Int)<=(2 ^ 63 - 1) / n:=Int.le_ediv_of_mul_le (by omega) (by omega);omega
 ·have:i.length*n.toNat<=1*n.toNat:=Nat.mul_le_mul_right _ b;unfold Builtin.Str.tooLong;simp only[decide_eq_false_iff_not,cQr];omega
def bZ6{l:List V}(h:0<l.length)(x:Int):∃v∈l,atI l (x % (l.length:Nat))=some v:=by
 have d:=Int.emod_nonneg x (show((l.length:Nat):Int)≠0 by omega);have c:=Int.emod_lt_of_pos x (show(0:Int)<((l.length:Nat):Int) by omega);obtain⟨k,b⟩:∃k:Nat,x % (l.length:Nat)=(k:Int):=⟨(x % (l.length:Nat)).toNat,by omega⟩;have a:k<l.length:=by omega
 refine⟨l[k],cXX a,?_⟩;rw[b];exact yT (bYR a)
def X1{a:List Int}(h:a≠ [])(x:Int):∃n,atI (a.map V.int) (x % ((a.map V.int).length:Nat))=some (.int n):=by
 obtain⟨v,b,e⟩:=bZ6 (l:=a.map V.int) (by rw[bYW];exact cQ6.mpr h) x;obtain⟨n,_,rfl⟩:=cQX.mp b;exact⟨n,e⟩
def aJu{l:List Nat}(h:l≠ [])(x:Int):∃n,atI (l.map λi=>V.int (i:Nat)) (x % ((l.map λi=>V.int (i:Nat)).length:Nat))=some (.int n):=by
 obtain⟨v,a,e⟩:=bZ6 (l:=l.map λi=>V.int (i:Nat)) (by rw[bYW];exact cQ6.mpr h) x;obtain⟨n,_,rfl⟩:=cQX.mp a;exact⟨n,e⟩
inductive vO(H:Hp)(v:V):Prop|mk(p e)(_:v= .ref p)(_:H p=some (.tup (xH e)))(_:Wf e)
def vO.same{H d:Hp}{v:V}(h:vO H v)(k:xC H d):vO d v:=let ⟨p,e,a,b,c⟩:=h;⟨p,e,a,k _ _ b,c⟩
abbrev Q8:Stmt:=xF BN
inductive aJd(vs:List V)(H:Hp)(Q:VK)(_:XK):Prop|mk(ra ca:Nat)(rs:List Nat)(R:Rows)(ns:List Int)(k:Nat)(m:Int)(_:vs= [.ref ra,.ref ca,.int (k:Nat),.int m])(_:xA H ra rs R)(_:R.length<=60)(_:H ca=some (.lst (ns.map V.int)))(_:ns≠ [])(_:∀ (H':Hp)(v:V),xC H H'->vO H' v->Q v H')
section
variable {K:bYT}
def aKu:yN [A0,AN,AI,AA,Bc,Bt,"_law_free",BB,"_law_fits",CG,An] [A0,AN,AI,AA] (yH Q8):=scM
def aWP:xN [A0,AN,AI,AA,Bc,Bt,"_law_free",BB,"_law_fits",CG,An] (yH Q8) CG [A0] [0] (lsN [(".0",.local),(CG,.local),(A0,.free)]):=
 lcM
def aW9(T:vK mg)(a6:mg Ao=none)(N:FnG P w K mg base 1 Af [A0,AA] J2)(F:Fun K BN BN Q8 f fd):xE P w K mg base CX0 2 f fd [A0,AN,AI,AA] aJd:=by
 have sc:=aKu;refine F.ok (k:=1) sc (λb2 A outer s H vs Q E hr h=>?_);obtain⟨v,Z,rs,R,ns,k,m,rfl,hB,hR,hc,a2,q⟩:=h;refine⟨_,(yC (yU (i:=4) (yL yK (pv 1) (yV y0 (yV x9 (pv 2) yE) (yQ yO rfl T.b_len xB (yA (pv 1) yD))))) (yC (yU (i:=5) (yL yK (pv 1) (yV y0 (yV x9 (pv 2) yE) (yQ yO rfl T.b_len xB (yA (pv 1) yD))))) (yC (aZZ (i:=6) aWP rfl sc.nd rfl rfl (zL rfl T.b_range (yA (yQ yO rfl T.b_len xB (yA (pv 0) yD)) yD)) (λ_ _ _ _ _=>(w8 (yM aXs (yL ixK (yL ixK (pv 1) (pv 0)) yE) x6))) (λ_ _ _ _ _=>(pv 0))) (yC (y7 (PW.pt (vT (yM (vS hr.units0) (pv 6) (y6 yD)) (wR (yM aXh (yV y0 (pv 4) yE) yE)))) (yF (yU (i:=3) (yL yK (pv 6) (yV y0 (pv 5) (yQ yO rfl T.b_len xB (yA (pv 6) yD)))))) yS) (yC (yU (i:=7) (yV wU (yV y0 (yV x9 (pv 4) (pv 2)) (yV x9 (yQ yO rfl T.b_len xB (yA (pv 0) yD)) yE)) (x5 vC rfl a6 uS (yA (zR zI (yV y0 (pv 4) yE) yE) yD)))) (yC (yU (i:=8) (y6 yD)) (yC (zT cQG rfl (zL rfl T.b_range (yA (yQ yO rfl T.b_len xB (yA (pv 0) yD)) yD)) (y9 (i:=9)) (yF (y7 (PW.pt (vT (xZ (xJ N hr rfl (yA (pv 0) (yA (pv 3) yD)))) (wR (yM Y1 (yL yK (yL yK (pv 0) (pv 9)) yE) (yL yK (yL yK (pv 0) (pv 3)) yE))))) (yC (yU (i:=10) (yL yK (pv 0) (pv 9))) (yF (y7 (PW.pt (vT (yM zI (yL yK (pv 10) yE) (yL yK (yL yK (pv 0) (pv 3)) yE)) (wR (yM aYS (yL yK (pv 10) yE) (yL yK (yL yK (pv 0) (pv 3)) yE))))) (yF (yY (vN cQh cQo cQp xD (pv 8) (yA (pv 9) yD)))) yS))) yS))) (yC (y7 (PW.pt (vT (yM (vS hr.units0) (pv 8) (y6 yD)) (wR (yM aXh (yV y0 (pv 4) yE) yE)))) (yF (yU (i:=7) (yL yK (pv 8) (yV y0 (yV x9 (yV X6 (pv 4) yE) (pv 2)) (yQ yO rfl T.b_len xB (yA (pv 8) yD)))))) yS) (yF (yP (xG (yA yR (yA (pv 3) (yA (pv 7) yD)))))))))))))),?_⟩;have hl:(rs.map V.ref).length=R.length:=by rw[bYW];exact hB.len
 have U:(0:Int)<((ns.map V.int).length:Nat):=by rw[bYW];have:=cQ6.mpr a2;omega
 obtain⟨g,X⟩:=X1 a2 ((k:Nat)+1);obtain⟨L,a5⟩:=X1 a2 ((k:Nat)+2);refine⟨_,rfl,_,rfl,_,_,rfl,rfl,_,rfl,Z,_,rfl,.inl (CV hc),_,_,rfl,rfl,U,Z,_,_,_,rfl,rfl,CV hc,X,?_⟩;dsimp only[yW];refine⟨_,rfl,_,rfl,_,_,rfl,rfl,_,rfl,Z,_,rfl,.inl (CV hc),_,_,rfl,rfl,U,Z,_,_,_,rfl,rfl,CV hc,a5,?_⟩;dsimp only[yW];refine⟨_,rfl,v,_,rfl,.inl (CV hB.lst),?_⟩;rw[hl];refine⟨_,rfl,by omega,by omega,λD hD=>?_⟩;rw[cQt];refine Q4 (λj=>decide (w6 (Bk.lk R j)=V.non)) (λk=>V.int (k:Nat)) hD (by rw[cQr];omega) (λj hj H' R' hH O=>?_) (λk hk _ H' R' hH O=>⟨_,rfl,O⟩) ?_
 ·have M:=bYR hj;obtain⟨b,g1,g2,cp,g3,g4⟩:=hB.get M;have a9:H' v=some (.lst (rs.map V.ref)):=by rw[hH v (yJ hB.lst hD)];exact hB.lst
  have hb:H' b=_:=(hH b (yJ g3 hD)).trans g3;rw[Bk.uB M]at O;exact⟨_,rfl,_,rfl,v,_,_,_,rfl,rfl,CV a9,yT g1,b,_,4,_,rfl,rfl,CV hb,rfl,rfl,_,rfl,O⟩
 generalize b0:(bY5 R.length).filter (λj=>decide (w6 (Bk.lk R j)=V.non))=free;have k1:=yG hD (.lst (free.map λi=>V.int (i:Nat)));have a0:upd H D (.lst (free.map λi=>V.int (i:Nat))) D=some (.lst (free.map λi=>V.int (i:Nat))):=yB;generalize upd H D (.lst (free.map λi=>V.int (i:Nat)))=H1 at k1 a0 ⊢;dsimp only[yW];refine zF (λC H'=>∃Y:Int,C= [some (.ref v),some (.ref Z),some (.int (k:Nat)),some (.int Y),some (.int g),some (.int L),some (.ref D),none,none,none,none]/\xC H H') ?jY (λd=>?_);case jY=>
  rintro C H2 ⟨Y,rfl,k2⟩;have a7:=hB.same k2;refine⟨_,rfl,_,rfl,_,_,rfl,rfl,_,rfl,v,_,rfl,.inl (CV a7.lst),_,_,rfl,rfl,_,_,rfl,rfl,(show(0:Int)<(((rs.map V.ref).length:Nat):Int)+1 by omega),_,rfl,_,_,rfl,rfl,(show(0:Int)<11 by decide),rfl,.inr ⟨_,rfl,_,_,rfl,rfl,?_⟩⟩;dsimp only[yW];refine⟨z0,λS a1=>?_⟩;dsimp only[yW];refine⟨_,rfl,v,_,rfl,.inl (CV ((yG a1 (.lst [])) _ _ a7.lst)),?_⟩;rw[hl];refine⟨_,rfl,by omega,by omega,?_⟩;rw[cQt];have a4:H S=none:=k2.fresh a1;generalize ((g+(k:Nat)) % ((R.length:Nat)+1) - if decide (V.int (g % 11)=V.int 5)=true then 1 else 0)=goal;refine z7 (λt σ H3=>L2.Ez3 λ(a:List Nat)(o9 J:Option V)=>σ= [some (.ref v),some (.ref Z),some (.int (k:Nat)),some (.int Y),some (.int g),some (.int L),some (.ref D),some (.int goal),some (.ref S),o9,J]/\xC H H3/\H3 S=some (.lst (a.map λi=>V.int (i:Nat)))/\a.length<=t) ?_ ?_ ?_
  ·exact⟨[],none,none,rfl,k2.trans (yG a1 _),yB,bYZ _⟩
  ·rintro j σ H3 hj ⟨a,o9,J,rfl,I,n,a8⟩;rw[cX2];dsimp only[yW];have u:=hB.same I;have M:=bYR hj;obtain⟨bj,j1,j2,cj,j3,j4⟩:=u.get M;refine⟨_,rfl,_,rfl,v,rs,R,Y,rfl,u,_,rfl,?_⟩;cases h1:Bk.wW R Y with
   |false=>exact onF rfl (onF rfl ⟨a,_,_,rfl,I,n,by omega⟩)
   |true=>
   obtain⟨i,r,rfl,b1,hi,hv⟩:=Bk.wJ h1;obtain⟨b,g1,g2,cp,g3,g4⟩:=u.get hi;refine onT rfl ⟨_,rfl,_,rfl,v,_,_,_,rfl,rfl,CV u.lst,yT j1,bj,_,0,_,rfl,rfl,CV j3,rfl,_,rfl,_,rfl,v,_,_,_,rfl,rfl,CV u.lst,yT g1,b,_,0,_,rfl,rfl,CV g3,rfl,rfl,_,rfl,?_⟩;refine qC (λc1=>?_) (λc1=>?_)
   ·refine⟨_,rfl,_,rfl,v,_,_,_,rfl,rfl,CV u.lst,yT j1,?_⟩;dsimp only[yW];refine⟨_,rfl,bj,_,2,_,rfl,rfl,CV j3,rfl,_,rfl,_,rfl,v,_,_,_,rfl,rfl,CV u.lst,yT g1,b,_,2,_,rfl,rfl,CV g3,rfl,rfl,_,rfl,?_⟩;rw[w9];cases h2:decide (R[j].partner=r.partner)with
    |false=>exact onF rfl (onF rfl ⟨a,_,_,rfl,I,n,by omega⟩)
    |true=>
    refine onT rfl ⟨_,rfl,bj,_,1,_,rfl,rfl,CV j3,rfl,_,rfl,_,rfl,v,_,_,_,rfl,rfl,CV u.lst,yT g1,b,_,1,_,rfl,rfl,CV g3,rfl,_,_,rfl,rfl,_,rfl,?_⟩;refine qC (λc2=>?_) (λc2=>?_)
    ·refine⟨_,rfl,.inl ⟨rfl,_,CV n⟩,_,rfl,S,_,_,rfl,rfl,n,zlt (by rw[bYW];omega),?_⟩;have e5:(a.map λi=>V.int (i:Nat))++ [V.int (j:Nat)]=(a++ [j]).map λi=>V.int (i:Nat):=by simp
     rw[e5];refine⟨a++ [j],_,_,rfl,λx o e=>?_,yB,by rw[cQf];simp;omega⟩;rw[yI (λz=>by rw[z,a4]at e;cases e)];exact I _ _ e
    ·exact⟨a,_,_,rfl,I,n,by omega⟩
   ·exact⟨a,_,_,rfl,I,n,by omega⟩
  ·rintro σ H3 ⟨a,o9,J,rfl,I,n,a8⟩;dsimp only[aJh];refine zF (λC H'=>∃g':Int,C= [some (.ref v),some (.ref Z),some (.int (k:Nat)),some (.int Y),some (.int g),some (.int L),some (.ref D),some (.int g'),some (.ref S),o9,J]/\xC H H') ?rest2 (λd=>?_);case rest2=>
    rintro C H4 ⟨g',rfl,k4⟩;refine⟨_,rfl,_,rfl,z3,λp hp=>?_⟩;exact q _ _ (k4.trans (yG hp _)) ⟨p,.hang Y g',rfl,yB,trivial⟩
   refine⟨_,rfl,z0,λpn G=>⟨S,pn,_,rfl,rfl,CV ((yG G (.lst [])) _ _ n),CV yB,_,rfl,?_⟩⟩;have B:=yG G (.lst []);generalize upd H3 pn (.lst [])=H4 at B ⊢;by_cases l:a= []
   ·subst l;exact onF rfl (onF rfl (d _ _ ⟨goal,rfl,I.trans B⟩))
   refine onT (by cases a with|nil=>exact absurd rfl l|cons=>rfl) ⟨_,rfl,_,_,rfl,rfl,(show(0:Int)<7 by decide),_,_,rfl,rfl,_,rfl,?_⟩;refine qC (λc=>?_) (λc=>d _ _ ⟨goal,rfl,I.trans B⟩);obtain⟨g',a3⟩:=aJu l (g / 7+(k:Nat));have y:=B _ _ n;have W:(0:Int)<((a.map λi=>V.int (i:Nat)).length:Nat):=by rw[bYW];have:=cQ6.mpr l;omega
   refine⟨_,rfl,_,rfl,_,_,rfl,rfl,⟨by decide,by decide⟩,_,rfl,_,_,rfl,rfl,_,rfl,S,_,rfl,.inl (CV y),_,_,rfl,rfl,W,S,_,_,_,rfl,rfl,CV y,a3,?_⟩;dsimp only[yW];exact d _ _ ⟨g',rfl,I.trans B⟩
 refine⟨_,rfl,z0,λpn G=>⟨D,pn,_,rfl,rfl,CV ((yG G (.lst [])) _ _ a0),CV yB,_,rfl,?_⟩⟩;have B:=yG G (.lst []);generalize upd H1 pn (.lst [])=H4 at B ⊢;by_cases l:free= []
 ·subst l;exact onF rfl (onF rfl (d _ _ ⟨m,rfl,k1.trans B⟩))
 refine onT (by cases free with|nil=>exact absurd rfl l|cons=>rfl) ⟨_,rfl,_,_,rfl,rfl,(show(0:Int)<5 by decide),_,_,rfl,rfl,_,rfl,?_⟩;refine qC (λc=>?_) (λc=>d _ _ ⟨m,rfl,k1.trans B⟩);obtain⟨g',a3⟩:=aJu l L;have y:=B _ _ a0;have W:(0:Int)<((free.map λi=>V.int (i:Nat)).length:Nat):=by rw[bYW];have:=cQ6.mpr l;omega
 refine⟨_,rfl,_,rfl,_,rfl,D,_,rfl,.inl (CV y),_,_,rfl,rfl,W,D,_,_,_,rfl,rfl,CV y,a3,?_⟩;dsimp only[yW];exact d _ _ ⟨g',rfl,k1.trans B⟩
end
end Law
namespace Law
open PySem L2 PyProof.Rows
open Bk (Row Rows x2 xP Ans)
open Desk (xH vJ uR Wf wX stV)
def aWI{K:bYT}{x i:V}{H:Hp}{Q:VK}{a:Nat}{xs:List V}{j:Int}(d:x= .ref a)(e:i= .int j)(c:SqL K H a xs)(h0:0<=j)(f:j<(xs.length:Nat))(q:∀v∈xs,Q v H):bWk K x i H Q:=by
 obtain⟨k,rfl⟩:∃k:Nat,j=(k:Int):=⟨j.toNat,by omega⟩;have b:k<xs.length:=by omega
 exact⟨a,xs,_,_,d,e,c,yT (bYR b),q _ (cXX b)⟩
def qD{K:bYT}{x i:V}{H:Hp}{Q:VK}{a:Nat}{xs:List V}{j:Int}(b:x= .ref a)(c:i= .int j)(e:SqL K H a xs)(h0:0<=j)(d:j<(xs.length:Nat))(f:∀v∈xs,∃n,v= .int n)(q:∀n,V.int n∈xs->Q (.int n) H):bWk K x i H Q:=
 aWI b c e h0 d λv m=>by obtain⟨n,rfl⟩:=f v m;exact q n m
def aQm{K:bYT}{x i:V}{H:Hp}{Q:VK}{a:Nat}{xs:List V}{j:Int}(b:x= .ref a)(c:i= .int j)(e:SqL K H a xs)(h0:0<=j)(d:j<(xs.length:Nat))(f:∀v∈xs,∃n,v= .str n)(q:∀n,V.str n∈xs->Q (.str n) H):bWk K x i H Q:=
 aWI b c e h0 d λv m=>by obtain⟨n,rfl⟩:=f v m;exact q n m
def b0{b:Bool}:(0:Int)<=(if b=true then 1 else 0):=by split<;> decide
def b1{b:Bool}:(if b=true then(1:Int)else 0)<2:=by split<;> decide
def md0{x n:Int}(h:0<n):0<=x % n:=Int.emod_nonneg x (by omega)
def md1{x n:Int}(h:0<n):x % n<n:=Int.emod_lt_of_pos x h
inductive bKL(H:Hp)(ma:Nat)(n:Nat):Prop|mk(vs:List V)(_:H ma=some (.lst vs))(_:vs.length=n)(_:∀v∈vs,vO H v)
structure jZ(H0 H:Hp)(ma:Nat)(n:Nat):Prop where
 k:xC H0 H
 new:H0 ma=none
 ex:bKL H ma n
def jZ.same{d H e:Hp}{f:Nat}{n:Nat}(m:jZ d H f n)(k:xC H e):jZ d e f n:=
 ⟨m.k.trans k,m.new,let ⟨vs,a,b,c⟩:=m.ex;⟨vs,k _ _ a,b,λv g=>(c v g).same k⟩⟩
def jZ.push{j H:Hp}{d:Nat}{n:Nat}(m:jZ j H d n){vs:List V}(e:H d=some (.lst vs)){v:V}(l:vO H v):jZ j (upd H d (.lst (vs++ [v]))) d (n+1):=by
 obtain⟨k,f,q,a,b,c⟩:=m;rw[e]at a;cases a;have r:∀v,vO H v->vO (upd H d (.lst (vs++ [v]))) v:=λv ⟨p,e',h1,h2,h3⟩=>⟨p,e',h1,by rw[yI (λz=>by rw[z,e]at h2;cases h2)];exact h2,h3⟩;have i:∀v x,vO H v->vO (upd H d x) v:=λv x ⟨p,e',h1,h2,h3⟩=>⟨p,e',h1,by rw[yI (λz=>by rw[z,e]at h2;cases h2)];exact h2,h3⟩;refine⟨λx o h=>by rw[yI (λz=>by rw[z,f]at h;cases h)];exact k _ _ h,f,_,yB,by simp[b],λu g=>?_⟩;rcases cQw.mp g with g|g
 ·exact i _ _ (c u g)
 ·rw[bY9.mp g];exact i _ _ l
def bZH{v:V}{i:Nat}{u:TS}{D:aJo}{σ:L2.St}{H:Hp}(h:u D (σ.set i (some v)) H):bKI (bKG (tC v) (yW i)) u D σ H:=h
abbrev aV0:Stmt:=xF Bn
inductive bQH(vs:List V)(H:Hp)(Q:VK)(_:XK):Prop|mk(ra ca:Nat)(rs:List Nat)(R:Rows)(ns:List Int)(k:Nat)(m turn:Int)(_:vs= [.ref ra,.ref ca,.int (k:Nat),.int m,.int turn])(_:xA H ra rs R)(_:R.length<=60)(_:H ca=some (.lst (ns.map V.int)))(_:k<ns.length)(_:15<=turn)(_:turn<24)(_:∀ (H':Hp)(v:V),xC H H'->vO H' v->Q v H')
section
variable {K:bYT}
def bZl:yN [A0,AN,AI,AA,BG,Bc,Bt,"_law_base","_law_tied","_law_name","_law_way","_law_further","_law_menu","_law_stop","_law_asks"] [A0,AN,AI,AA,BG] (yH aV0):=scM
def bXw:xN [A0,AN,AI,AA,BG,Bc,Bt,"_law_base","_law_tied","_law_name","_law_way","_law_further","_law_menu","_law_stop","_law_asks"] (yH aV0) CG [A0] [0] (lsN [(".0",.local),(CG,.local),(A0,.free)]):=
 lcM
seal PE PA PS PSs PT in
def bXK(T:vK mg)(a0:mg Ao=none)(O:FnG P w K mg base 1 Af [A0,AA] J2)(F:Fun K Bn Bn aV0 f fd):xE P w K mg base CX0 2 f fd [A0,AN,AI,AA,BG] bQH:=by
 have sc:=bZl;refine F.ok (k:=1) sc (λj3 A outer s H vs Q E hr h=>?_);obtain⟨U,X,rs,R,ns,k,m,turn,rfl,Z,hR,hc,b4,j1,j7,q⟩:=h;refine⟨_,(yC (yU (i:=5) (yL yK (pv 1) (yV y0 (yV x9 (pv 2) yE) (yQ yO rfl T.b_len xB (yA (pv 1) yD))))) (yC (yU (i:=6) (yL yK (pv 1) (yV y0 (yV x9 (pv 2) yE) (yQ yO rfl T.b_len xB (yA (pv 1) yD))))) (yC (yU (i:=7) yE) (yC (y7 (xZ (xJ O hr rfl (yA (pv 0) (yA (pv 3) yD)))) (yF (yU (i:=7) (yL yK (yL yK (pv 0) (pv 3)) yE))) yS) (yC (aZZ (i:=8) bXw rfl sc.nd rfl rfl (zL rfl T.b_range (yA (yQ yO rfl T.b_len xB (yA (pv 0) yD)) yD)) (λ_ _ _ _ _=>(w8 (yM wA (yL ixK (yL ixK (pv 1) (pv 0)) yE) x6))) (λ_ _ _ _ _=>(pv 0))) (yC (y7 (PW.pt (vT (yM zI (pv 4) yE) (vT (yM (vS hr.units0) (pv 8) (y6 yD)) (wR (yM aXh (yV y0 (pv 5) yE) yE))))) (yF (yU (i:=3) (yL yK (pv 8) (yV y0 (pv 6) (yQ yO rfl T.b_len xB (yA (pv 8) yD)))))) yS) (yC (yU (i:=9) (yL yK (y6 (yA yR (yA yR (yA yR (yA yR (yA yR (yA (yV aQB yR yE) yD))))))) (yV y0 (pv 5) (yL yK (y6 (yA yE (yA yE yD))) (yV y0 (yL yK (pv 1) (pv 2)) yE))))) (yC (yU (i:=10) (x5 vC rfl a0 uS (yA (zR zI (yV y0 (yL yK (pv 1) (pv 2)) yE) yE) yD))) (yC (yU (i:=11) (yV wU (yV x9 (pv 7) (yV y0 (pv 5) (yL yK (y6 (yA yE (yA yE yD))) (pv 10)))) (yL yK (y6 (yA yE (yA yE yD))) (pv 10)))) (yC (yU (i:=12) (y6 (yA (xG (yA yR (yA (pv 3) yD))) (yA (xG (yA yR (yA (pv 3) (yA (pv 11) yD)))) yD)))) (yC (yY (vN cQh cQo cQp xD (pv 12) (yA (xG (yA yR (yA (pv 3) (yA (yL yK (y6 (yA yE (yA yE (yA yE (yA yE (yA (aYY aJk yE) yD)))))) (yV y0 (pv 5) yE)) yD)))) yD))) (yC (yY (vN cQh cQo cQp xD (pv 12) (yA (xG (yA yR (yA (pv 3) (yA (yL yK (y6 (yA yR (yA yR (yA yR (yA yR (yA yR (yA (yV aQB yR yE) yD))))))) (yV y0 (pv 5) yE)) yD)))) yD))) (yC (yU (i:=13) (yL yK (y6 (yA (yV wU (yV y0 (pv 5) yE) yE) (yA (yV x9 (pv 7) (yV y0 (pv 5) yE)) yD))) (x5 vC rfl a0 uS (yA (zR zI (yV y0 (pv 6) yE) yE) yD)))) (yC (yU (i:=12) (yV aZT (pv 12) (y6 (yA (xG (yA yR (yA (pv 3) (yA (pv 9) yD)))) (yA (xG (yA yR (yA (pv 3) yD))) (yA (xG (yA yR (yA (pv 13) yD))) yD)))))) (yC (yU (i:=14) (y6 (yA (xG (yA yR (yA (pv 3) yD))) (yA (xG (yA yR (yA (pv 3) yD))) (yA (xG (yA yR (yA (yV wU (yV y0 (pv 6) yE) yE) yD))) yD))))) (yC (yU (i:=14) (yV aZT (pv 14) (y6 (yA (xG (yA yR (yA (pv 9) yD))) (yA (xG (yA yR (yA (yV wU (yV y0 (pv 6) yE) yE) yD))) (yA (xG (yA yR (yA (pv 3) yD))) yD)))))) (yC (y7 (yM vM (pv 4) yE) (yF (yP (yL yK (pv 12) (yV wU (pv 4) yE)))) yS) (yF (yP (yL yK (pv 14) (yV y0 (yV x9 (yV X6 (pv 5) yE) (pv 4)) yE))))))))))))))))))))),?_⟩;have b7:ns≠ []:=λz=>by rw[z]at b4;simp at b4
 have hl:(rs.map V.ref).length=R.length:=by rw[bYW];exact Z.len
 have a4:(0:Int)<((ns.map V.int).length:Nat):=by rw[bYW];have:=cQ6.mpr b7;omega
 have d0:(ns.map V.int)[k]? =some (.int ns[k]):=by rw[cQc,bYR b4];rfl
 obtain⟨d,a8⟩:=X1 b7 ((k:Nat)+1);obtain⟨g,d6⟩:=X1 b7 ((k:Nat)+2);refine⟨_,rfl,_,rfl,_,_,rfl,rfl,_,rfl,X,_,rfl,.inl (CV hc),_,_,rfl,rfl,a4,X,_,_,_,rfl,rfl,CV hc,a8,?_⟩;dsimp only[yW];refine⟨_,rfl,_,rfl,_,_,rfl,rfl,_,rfl,X,_,rfl,.inl (CV hc),_,_,rfl,rfl,a4,X,_,_,_,rfl,rfl,CV hc,d6,?_⟩;dsimp only[yW];refine bZH ?_;refine zF (λp t=>∃bs:Int,p= [some (.ref U),some (.ref X),some (.int (k:Nat)),some (.int m),some (.int turn),some (.int d),some (.int g),some (.int bs),none,none,none,none,none,none,none]/\t=H) ?jY (λl=>?_);case jY=>
  rintro p t ⟨bs,rfl,rfl⟩;refine⟨_,rfl,U,_,rfl,.inl (CV Z.lst),?_⟩;rw[hl];refine⟨_,rfl,by omega,by omega,λD hD=>?_⟩;rw[cQt];refine Q4 (λj=> !decide (w6 (Bk.lk R j)=V.non)) (λk=>V.int (k:Nat)) hD (by rw[cQr];omega) (λj hj H1 R' hH S=>?_) (λk hk _ t R' hH S=>⟨_,rfl,S⟩) ?_
  ·have d8:=bYR hj;obtain⟨b,Y,g2,cp,o,J⟩:=Z.get d8;have f9:H1 U=some (.lst (rs.map V.ref)):=by rw[hH U (yJ Z.lst hD)];exact Z.lst
   have hb:H1 b=_:=(hH b (yJ o hD)).trans o;rw[Bk.uB d8]at S;exact⟨_,rfl,_,rfl,U,_,_,_,rfl,rfl,CV f9,yT Y,b,_,4,_,rfl,rfl,CV hb,rfl,rfl,_,rfl,S⟩
  generalize i9:(bY5 R.length).filter (λj=> !decide (w6 (Bk.lk R j)=V.non))=free;have k1:=yG hD (.lst (free.map λi=>V.int (i:Nat)));have b2:upd t D (.lst (free.map λi=>V.int (i:Nat))) D=some (.lst (free.map λi=>V.int (i:Nat))):=yB;generalize upd t D (.lst (free.map λi=>V.int (i:Nat)))=H1 at k1 b2 ⊢;dsimp only[yW];refine zF (λp H2=>∃m:Int,p= [some (.ref U),some (.ref X),some (.int (k:Nat)),some (.int m),some (.int turn),some (.int d),some (.int g),some (.int bs),some (.ref D),none,none,none,none,none,none]/\xC t H2) ?rest2 (λl=>?_);case rest2=>
   rintro p H2 ⟨m,rfl,k2⟩;refine⟨_,_,rfl,rfl,by decide,by decide,by decide,λG i8=>⟨zn (by show 6<=100000;omega),λl6 h2=>?_⟩⟩;have e6:=yG h2 (.lst [.str "old",.str "",.str "new",.str "old files",.str "Old, ~",.str G]);have h6:upd H2 l6 (.lst [.str "old",.str "",.str "new",.str "old files",.str "Old, ~",.str G]) l6=some (.lst [.str "old",.str "",.str "new",.str "old files",.str "Old, ~",.str G]):=yB;generalize upd H2 l6 (.lst [.str "old",.str "",.str "new",.str "old files",.str "Old, ~",.str G])=H3 at e6 h6 ⊢;refine⟨_,rfl,z2,λl2 e4=>?_⟩;have e7:=yG e4 (.lst [.int 3,.int 6]);have h7:upd H3 l2 (.lst [.int 3,.int 6]) l2=some (.lst [.int 3,.int 6]):=yB;have e2:=e7 _ _ h6;have k4:=(k2.trans e6).trans e7;generalize upd H3 l2 (.lst [.int 3,.int 6])=H4 at e7 h7 e2 k4 ⊢;have d9:=k4 _ _ hc;refine⟨_,rfl,_,rfl,X,_,_,_,rfl,rfl,CV d9,yT d0,_,_,rfl,rfl,(show(0:Int)<2 by decide),?_⟩;refine qD rfl rfl (CV h7) (md0 (by decide)) (md1 (by decide)) (by simp) λj hj=>?_;have i6:j=3\/j=6:=by simpa using hj
   refine⟨_,_,rfl,rfl,(show(0:Int)<j by omega),?_⟩;refine aQm rfl rfl (CV e2) (md0 (by omega)) (Int.lt_of_lt_of_le (md1 (by omega)) (show j<=6 by omega)) (by simp) λe _=>?_;dsimp only[yW];refine⟨_,rfl,_,rfl,X,_,_,_,rfl,rfl,CV d9,yT d0,_,_,rfl,rfl,(show(0:Int)<11 by decide),rfl,.inr ⟨_,rfl,?_⟩⟩;generalize i7:decide (V.int (ns[k] % 11)=V.int 4)=wb;dsimp only[yW];refine⟨_,rfl,_,rfl,z2,λl9 e5=>⟨_,rfl,?_⟩⟩;have e9:=yG e5 (.lst [.int 9,.int 3001]);refine qD rfl rfl (CV yB) b0 b1 (by simp) λj hj=>?_;have j5:j=9\/j=3001:=by simpa using hj
   refine⟨_,_,rfl,rfl,(show(0:Int)<j by omega),_,_,rfl,rfl,z2,λl4 h9=>⟨_,rfl,?_⟩⟩;have C:=(k4.trans e9).trans (yG h9 (.lst [.int 4,.int 1500]));refine qD rfl rfl (CV yB) b0 b1 (by simp) λj4 _=>?_;refine⟨_,_,rfl,rfl,?_⟩;generalize upd (upd H4 l9 (.lst [.int 9,.int 3001])) l4 (.lst [.int 4,.int 1500])=H5 at C ⊢;dsimp only[yW];refine⟨_,rfl,z2,λp1 f6=>⟨_,rfl,_,rfl,z3,λp2 a6=>⟨z2,λW e1=>?_⟩⟩⟩;have M1:jZ t (upd (upd (upd H5 p1 (.tup [.str Bv,.int m])) p2 (.tup [.str Am,.int m,.int (bs+d % j - j4)])) W (.lst [.ref p1,.ref p2])) W 2:=by
    have a1:=yG f6 (.tup [.str Bv,.int m]);have a2:=yG a6 (.tup [.str Am,.int m,.int (bs+d % j - j4)]);have a3:=yG e1 (.lst [.ref p1,.ref p2]);refine⟨((C.trans a1).trans a2).trans a3,((C.trans a1).trans a2).fresh e1,_,yB,rfl,λv a=>?_⟩;rcases bY1.mp a with rfl|a
    ·exact⟨p1,.loose m,rfl,a3 _ _ (a2 _ _ yB),trivial⟩
    ·rw[bY9.mp a];exact⟨p2,.date m (bs+d % j - j4),rfl,a3 _ _ yB,trivial⟩
   generalize upd (upd (upd H5 p1 (.tup [.str Bv,.int m])) p2 (.tup [.str Am,.int m,.int (bs+d % j - j4)])) W (.lst [.ref p1,.ref p2])=H6 at M1 ⊢;dsimp only[yW];obtain⟨h0,d3, -, -⟩:=M1.ex;refine⟨_,rfl,.inl ⟨rfl,_,CV d3⟩,_,rfl,_,rfl,zn (by show 5<=100000;omega),λl5 i5=>⟨_,rfl,_,_,rfl,rfl,(show(0:Int)<5 by decide),?_⟩⟩;refine qD rfl rfl (CV yB) (md0 (by decide)) (md1 (by decide)) (by simp) λtm _=>⟨z3,λp3 f5=>?_⟩;have a5:=(yG i5 (.lst [.int 0,.int 2,.int 6,.int 1,.int (-1)])).trans (yG f5 (.tup [.str AU,.int m,.int tm]));have d5:vO (upd (upd H6 l5 (.lst [.int 0,.int 2,.int 6,.int 1,.int (-1)])) p3 (.tup [.str AU,.int m,.int tm])) (.ref p3):=⟨p3,.term m tm,rfl,yB,trivial⟩;generalize upd (upd H6 l5 (.lst [.int 0,.int 2,.int 6,.int 1,.int (-1)])) p3 (.tup [.str AU,.int m,.int tm])=H7 at a5 d5 ⊢;have M2:=M1.same a5;have b6:=a5 _ _ d3;refine⟨W,_,_,rfl,rfl,b6,?_,?_⟩
   ·obtain⟨ws,w1,w2,_⟩:=M2.ex;rw[b6]at w1;cases w1;exact zlt (by omega)
   have M3:=M2.push b6 d5;generalize upd H7 W (.lst (h0++ [.ref p3]))=H8 at M3 ⊢;obtain⟨g7,e0, -, -⟩:=M3.ex;refine⟨_,rfl,.inl ⟨rfl,_,CV e0⟩,_,rfl,_,_,rfl,rfl,by decide,by decide,by decide,λz4 j6=>⟨zn (by show 6<=100000;omega),λl7 i1=>⟨_,rfl,_,_,rfl,rfl,(show(0:Int)<6 by decide),?_⟩⟩⟩;refine aQm rfl rfl (CV yB) (md0 (by decide)) (md1 (by decide)) (by simp) λy _=>⟨z3,λp4 g8=>?_⟩;have a7:=(yG i1 (.lst [.str Bo,.str "cy",.str "bo",.str "",.str "ann lee",.str z4])).trans (yG g8 (.tup [.str "copy",.int m,.str y]));have d7:vO (upd (upd H8 l7 (.lst [.str Bo,.str "cy",.str "bo",.str "",.str "ann lee",.str z4])) p4 (.tup [.str "copy",.int m,.str y])) (.ref p4):=⟨p4,.copy m y,rfl,yB,trivial⟩;generalize upd (upd H8 l7 (.lst [.str Bo,.str "cy",.str "bo",.str "",.str "ann lee",.str z4])) p4 (.tup [.str "copy",.int m,.str y])=H9 at a7 d7 ⊢;have M4:=M3.same a7;have b9:=a7 _ _ e0;refine⟨W,_,_,rfl,rfl,b9,?_,?_⟩
   ·obtain⟨ws,w1,w2,_⟩:=M4.ex;rw[b9]at w1;cases w1;exact zlt (by omega)
   have M5:=M4.push b9 d7;generalize upd H9 W (.lst (g7++ [.ref p4]))=H10 at M5 ⊢;refine⟨_,rfl,_,_,rfl,rfl,(show(0:Int)<24 by decide),_,_,rfl,rfl,_,rfl,_,rfl,_,_,rfl,rfl,(show(0:Int)<12 by decide),_,_,rfl,rfl,z2,λl8 g0=>⟨_,rfl,_,_,rfl,rfl,(show(0:Int)<3 by decide),rfl,.inr ⟨_,rfl,?_⟩⟩⟩;refine qD rfl rfl (CV yB) b0 b1 (by simp) λn _=>?_;have M6:=M5.same (yG g0 (.lst [.int (d % 24 - 2),.int (bs+d % 12)]));generalize upd H10 l8 (.lst [.int (d % 24 - 2),.int (bs+d % 12)])=H11 at M6 ⊢;dsimp only[yW];obtain⟨a9,i0,d2,e8⟩:=M6.ex;refine⟨_,rfl,_,rfl,_,rfl,z3,λB i2=>⟨_,rfl,z2,λL h4=>⟨_,rfl,z2,λI i4=>⟨z3,λb5 c7=>?_⟩⟩⟩⟩;have c1:=yG i2 (.tup [.str Bu,.int m,.str e]);have c2:=yG h4 (.tup [.str Au,.int m]);have c3:=yG i4 (.tup [.str Ag,.int n]);have c4:=yG c7 (.lst [.ref B,.ref L,.ref I]);refine⟨W,b5,_,_,rfl,rfl,c4 _ _ (c3 _ _ (c2 _ _ (c1 _ _ i0))),yB,by rw[d2,cQr];show 7<=16777216;omega,λmb c9=>?_⟩;have c5:=yG c9 (.lst (a9++ [.ref B,.ref L,.ref I]));have M7:jZ t (upd (upd (upd (upd (upd H11 B (.tup [.str Bu,.int m,.str e])) L (.tup [.str Au,.int m])) I (.tup [.str Ag,.int n])) b5 (.lst [.ref B,.ref L,.ref I])) mb (.lst (a9++ [.ref B,.ref L,.ref I]))) mb 7:=by
    have kk:=(((M6.k.trans c1).trans c2).trans c3).trans c4;refine⟨kk.trans c5,kk.fresh c9,_,yB,by rw[cQf,d2];rfl,λv a=>?_⟩;rcases cQw.mp a with a|a
    ·exact(e8 v a).same ((((c1.trans c2).trans c3).trans c4).trans c5)
    ·rcases bY1.mp a with rfl|a
     ·exact⟨B,.file m e,rfl,c5 _ _ (c4 _ _ (c3 _ _ (c2 _ _ yB))),trivial⟩
     ·rcases bY1.mp a with rfl|a
      ·exact⟨L,.void m,rfl,c5 _ _ (c4 _ _ (c3 _ _ yB)),trivial⟩
      ·rw[bY9.mp a];exact⟨I,.shut n,rfl,c5 _ _ (c4 _ _ yB),trivial⟩
   generalize upd (upd (upd (upd (upd H11 B (.tup [.str Bu,.int m,.str e])) L (.tup [.str Au,.int m])) I (.tup [.str Ag,.int n])) b5 (.lst [.ref B,.ref L,.ref I])) mb (.lst (a9++ [.ref B,.ref L,.ref I]))=H12 at M7 ⊢;dsimp only[yW];refine⟨_,rfl,z2,λr1 h8=>⟨_,rfl,z2,λr2 f8=>⟨_,rfl,_,_,rfl,rfl,(show(0:Int)<26 by decide),_,_,rfl,rfl,z2,λr3 f7=>⟨z3,λna c8=>?_⟩⟩⟩⟩;have f1:=yG h8 (.tup [.str BW,.int m]);have f2:=yG f8 (.tup [.str B7,.int m]);have f3:=yG f7 (.tup [.str AT,.int (g % 26 - 1)]);have f4:=yG c8 (.lst [.ref r1,.ref r2,.ref r3]);have M8:=(((M7.same f1).same f2).same f3).same f4;have N1:jZ t (upd (upd (upd (upd H12 r1 (.tup [.str BW,.int m])) r2 (.tup [.str B7,.int m])) r3 (.tup [.str AT,.int (g % 26 - 1)])) na (.lst [.ref r1,.ref r2,.ref r3])) na 3:=by
    have kk:=((M7.k.trans f1).trans f2).trans f3;refine⟨kk.trans f4,kk.fresh c8,_,yB,rfl,λv a=>?_⟩;rcases bY1.mp a with rfl|a
    ·exact⟨r1,.state m,rfl,f4 _ _ (f3 _ _ (f2 _ _ yB)),trivial⟩
    ·rcases bY1.mp a with rfl|a
     ·exact⟨r2,.thread m,rfl,f4 _ _ (f3 _ _ yB),trivial⟩
     ·rw[bY9.mp a];exact⟨r3,.on true (g % 26 - 1),rfl,f4 _ _ yB,trivial⟩
   generalize upd (upd (upd (upd H12 r1 (.tup [.str BW,.int m])) r2 (.tup [.str B7,.int m])) r3 (.tup [.str AT,.int (g % 26 - 1)])) na (.lst [.ref r1,.ref r2,.ref r3])=H13 at M8 N1 ⊢;dsimp only[yW];obtain⟨b8,i3,c0,h3⟩:=N1.ex;refine⟨_,rfl,_,rfl,z2,λM f0=>⟨_,rfl,_,_,rfl,rfl,(show(0:Int)<26 by decide),_,_,rfl,rfl,z2,λN g9=>⟨_,rfl,z2,λx g6=>⟨z3,λb3 d4=>?_⟩⟩⟩⟩;have Y:=yG f0 (.tup [.str B0,.str e]);have g2:=yG g9 (.tup [.str AS,.int (g % 26 - 1)]);have o:=yG g6 (.tup [.str BJ,.int m]);have J:=yG d4 (.lst [.ref M,.ref N,.ref x]);refine⟨na,b3,_,_,rfl,rfl,J _ _ (o _ _ (g2 _ _ (Y _ _ i3))),yB,by rw[c0,cQr];show 6<=16777216;omega,λnb c6=>?_⟩;have g5:=yG c6 (.lst (b8++ [.ref M,.ref N,.ref x]));have M9:=((((M8.same Y).same g2).same o).same J).same g5;have N2:jZ t (upd (upd (upd (upd (upd H13 M (.tup [.str B0,.str e])) N (.tup [.str AS,.int (g % 26 - 1)])) x (.tup [.str BJ,.int m])) b3 (.lst [.ref M,.ref N,.ref x])) nb (.lst (b8++ [.ref M,.ref N,.ref x]))) nb 6:=by
    have kk:=(((M8.k.trans Y).trans g2).trans o).trans J;refine⟨kk.trans g5,kk.fresh c6,_,yB,by rw[cQf,c0];rfl,λv a=>?_⟩;rcases cQw.mp a with a|a
    ·exact(h3 v a).same ((((Y.trans g2).trans o).trans J).trans g5)
    ·rcases bY1.mp a with rfl|a
     ·exact⟨M,.letters e,rfl,g5 _ _ (J _ _ (o _ _ (g2 _ _ yB))),trivial⟩
     ·rcases bY1.mp a with rfl|a
      ·exact⟨N,.on false (g % 26 - 1),rfl,g5 _ _ (J _ _ (o _ _ yB)),trivial⟩
      ·rw[bY9.mp a];exact⟨x,.copies m,rfl,g5 _ _ (J _ _ yB),trivial⟩
   generalize upd (upd (upd (upd (upd H13 M (.tup [.str B0,.str e])) N (.tup [.str AS,.int (g % 26 - 1)])) x (.tup [.str BJ,.int m])) b3 (.lst [.ref M,.ref N,.ref x])) nb (.lst (b8++ [.ref M,.ref N,.ref x]))=H14 at M9 N2 ⊢;dsimp only[yW];refine⟨_,rfl,_,_,rfl,rfl,_,rfl,?_⟩;refine qC (λc=>?_) (λc=>?_)
   ·have c:turn<22:=of_decide_eq_true c;obtain⟨us,u1,u2,u3⟩:=M9.ex;refine⟨_,rfl,_,rfl,_,_,rfl,rfl,?_⟩;exact aWI rfl rfl (CV u1) (by omega) (by rw[u2];show turn - 15<7;omega) λv a=>q _ _ M9.k (u3 v a)
   ·obtain⟨us,u1,u2,u3⟩:=N2.ex;refine⟨_,rfl,_,rfl,_,_,rfl,rfl,⟨by decide,by decide⟩,_,rfl,_,_,rfl,rfl,_,_,rfl,rfl,(show(0:Int)<6 by decide),?_⟩;exact aWI rfl rfl (CV u1) (md0 (by decide)) (by rw[u2];exact md1 (by decide)) λv a=>q _ _ N2.k (u3 v a)
  refine⟨_,rfl,rfl,_,rfl,?_⟩;cases j2:decide (V.int turn=V.int 15)with
  |false=>exact onF rfl (onF rfl (l _ _ ⟨m,rfl,k1⟩))
  |true=>
  refine onT rfl ⟨_,rfl,z0,λpn e3=>⟨D,pn,_,rfl,rfl,CV ((yG e3 (.lst [])) _ _ b2),CV yB,_,rfl,?_⟩⟩;have C:=yG e3 (.lst []);generalize upd H1 pn (.lst [])=H4 at C ⊢;by_cases u:free= []
  ·subst u;exact onF rfl (onF rfl (l _ _ ⟨m,rfl,k1.trans C⟩))
  refine onT (by cases free with|nil=>exact absurd rfl u|cons=>rfl) ⟨_,rfl,_,_,rfl,rfl,(show(0:Int)<4 by decide),_,_,rfl,rfl,_,rfl,?_⟩;refine qC (λc=>?_) (λc=>l _ _ ⟨m,rfl,k1.trans C⟩);obtain⟨g',h5⟩:=aJu u g;have d1:=C _ _ b2;have a6:(0:Int)<((free.map λi=>V.int (i:Nat)).length:Nat):=by rw[bYW];have:=cQ6.mpr u;omega
  refine⟨_,rfl,_,rfl,_,rfl,D,_,rfl,.inl (CV d1),_,_,rfl,rfl,a6,D,_,_,_,rfl,rfl,CV d1,h5,?_⟩;dsimp only[yW];exact l _ _ ⟨g',rfl,k1.trans C⟩
 refine⟨_,rfl,_,rfl,U,rs,R,m,rfl,Z,_,rfl,?_⟩;cases h1:Bk.wW R m with
 |false=>exact onF rfl (l _ _ ⟨0,rfl,rfl⟩)
 |true=>
 obtain⟨i,r,rfl,j0,hi,a⟩:=Bk.wJ h1;obtain⟨b,Y,g2,cp,o,J⟩:=Z.get hi;refine onT rfl ⟨_,rfl,_,rfl,U,_,_,_,rfl,rfl,CV Z.lst,yT Y,b,_,1,_,rfl,rfl,CV o,rfl,?_⟩;dsimp only[yW];exact l _ _ ⟨r.date,rfl,rfl⟩
end
end Law
namespace Law
open PySem L2 PyProof.Rows
open Bk (Row Rows x2 xP Ans)
open Desk (xH vJ uR Wf wX stV)
def bWz:cQD "max"=some (.builtin "max"):=dk
def aJI{c:TT}{t u:TS}{D:aJo}{σ:L2.St}{H:Hp}(I:Bool->Hp->Prop)(h:∀Kk:Bool->Hp->Prop,(∀b a,I b a->Kk b a)->c σ H Kk)(e:∀a,I true a->t D σ a)(d:∀a,I false a->u D σ a):bKH c t u D σ H:=
 h _ λb a i=>by
  cases b with
  |true=>exact onT rfl (e a i)
  |false=>exact onF rfl (d a i)
def bJp{c:TT}{t u r:TS}{D:aJo}{σ:L2.St}{H:Hp}(h:bKH c t u {D with nx:=r D} σ H):bKI (bKH c t u) r D σ H:=h
def p60:(0:Int)<10 ^ (60:Int).toNat:=dk
def c60:bYi 10 60:=⟨by decide,by decide,by decide⟩
abbrev aVc:Stmt:=xF BO
inductive aWd(vs:List V)(H:Hp)(Q:VK)(_:XK):Prop|mk(ra ca:Nat)(rs:List Nat)(R:Rows)(ns:List Int)(k:Nat)(_:vs= [.ref ra,.ref ca,.int (k:Nat)])(_:xA H ra rs R)(_:R.length<=60)(_:H ca=some (.lst (ns.map V.int)))(_:k<ns.length)(_:∀ (H':Hp)(v:V),xC H H'->vO H' v->Q v H')
section
variable {K:bYT}
def bQx:yN [A0,AN,AI,Bc,Bt,BG,AA,BT,AK,"_law_who","_law_twin","_law_base"] [A0,AN,AI] (yH aVc):=scM
seal PE PA PS PSs PT in
def aYK(T:vK mg)(Y:mg Ao=none)(a9:mg "max"=none)(X:FnG P w K mg base 2 Af [A0,AA] J2)(u:FnG P w K mg base 2 BN [A0,AN,AI,AA] aJd) (J:FnG P w K mg base 2 Bn [A0,AN,AI,AA,BG] bQH) (F:Fun K BO BO aVc f fd):xE P w K mg base CX0 3 f fd [A0,AN,AI] aWd:=by
 have sc:=bQx;refine F.ok (k:=2) sc (λd0 A outer s H vs Q E hr h=>?_);obtain⟨B,g,rs,R,D,k,rfl,hB,hR,M,S,q⟩:=h;refine⟨_,(yC (yU (i:=3) (yL yK (pv 1) (yV y0 (yV x9 (pv 2) yE) (yQ yO rfl T.b_len xB (yA (pv 1) yD))))) (yC (yU (i:=4) (yL yK (pv 1) (yV y0 (yV x9 (pv 2) yE) (yQ yO rfl T.b_len xB (yA (pv 1) yD))))) (yC (yU (i:=5) (yV y0 (yV x9 (yL yK (pv 1) (pv 2)) (yV aVQ yE (pv 2))) yE)) (yC (yU (i:=6) (yV y0 (yV x9 (pv 4) (pv 2)) (yQ (aKR rfl) rfl a9 bWz (yA yE (yA (yQ yO rfl T.b_len xB (yA (pv 0) yD)) yD))))) (yC (y7 (yM zI (yV y0 (yL yK (pv 1) (pv 2)) yE) yE) (yF (yU (i:=6) (yL yK (y6 (yA (aYY aJk yE) (yA (yQ yO rfl T.b_len xB (yA (pv 0) yD)) (yA (yV aQC yE yE) (yA (yV wU (aYY aJk yE) (yV y0 (pv 3) (yV aQC yE yE))) (yA (yV x9 (yQ yO rfl T.b_len xB (yA (pv 0) yD)) (yV y0 (pv 3) (yV aQC yE yE))) yD)))))) (yV y0 (pv 3) yE)))) yS) (yC (yU (i:=7) (yL yK (y6 (yA yE (yA yE (yA yE (yA yE (yA yE (yA yE yD))))))) (yV y0 (yV X6 (pv 3) yE) yE))) (yC (y7 (yM zI (yV y0 (yL yK (pv 1) (pv 2)) yE) yE) (yF (yU (i:=7) (yL yK (y6 (yA (aYY aJk yE) (yA yE (yA (yV wU (aYY aJk yE) (yV y0 (pv 4) (yV aQC yE yE))) (yA (yV y0 (pv 4) yE) yD))))) (yV y0 (pv 4) yE)))) yS) (yC (y7 (PW.pt (jX (yM vM (pv 5) yE) (vU (yM (aVP hr.units0) (pv 0) (y6 yD))))) (yC (yU (i:=8) (yV x9 (yV wU (yV y0 (pv 3) yE) yE) (yV aVQ (yV aQC yE yE) (x5 vC rfl Y uS (yA (zR zI (yV y0 (yL yK (pv 1) (pv 2)) yE) yE) yD))))) (yC (y7 (yM zI (yV y0 (yL yK (pv 1) (pv 2)) yE) yE) (yF (yU (i:=8) (yL yK (y6 (yA (yV wU (yV y0 (pv 3) yE) yE) (yA (yV y0 (pv 3) (yV aQC yE yE)) (yA (yV wU yE (yV y0 (pv 3) (yV aQC yE yE))) yD)))) (yV y0 (pv 4) yE)))) yS) (yC (yU (i:=9) (yL yK (y6 (yA yR (yA yR (yA yR (yA yR yD))))) (yV y0 (pv 4) yE))) (yC (y7 (yM zI (yV y0 (yL yK (pv 1) (pv 2)) yE) yE) (yC (yU (i:=10) (yV aXr (yV aXr (yV aQB yR (yV y0 (yL yK (pv 1) yE) yE)) yR) (yV aQB yR (yV wU yE (yV y0 (yL yK (pv 1) yE) yE))))) (yF (yU (i:=9) (yL yK (y6 (yA yR (yA (pv 10) (yA (yV aQB yR yE) yD)))) (yV y0 (pv 4) yE))))) yS) (yF (yP (xG (yA (yL yK (y6 (yA yR (yA yR yD))) (yV y0 (yV X6 (pv 4) yE) yE)) (yA (pv 8) (yA (pv 9) (yA (pv 7) yD))))))))))) yS) (yC (y7 (yM vM (pv 5) yE) (yC (yU (i:=11) (yV y0 (pv 3) yE)) (yC (y7 (xZ (xJ X hr rfl (yA (pv 0) (yA (pv 6) yD)))) (yF (yU (i:=11) (yV wU (yV x9 (yL yK (yL yK (pv 0) (pv 6)) yE) (yV y0 (pv 3) (yL yK (y6 (yA yE (yA yE yD))) (x5 vC rfl Y uS (yA (zR zI (yV y0 (yL yK (pv 1) (pv 2)) yE) yE) yD))))) yE))) yS) (yF (yP (xG (yA yR (yA (pv 6) (yA (pv 11) (yA (pv 7) yD))))))))) yS) (yC (y7 (yM vM (pv 5) yE) (yF (yP (xJ u hr rfl (yA (pv 0) (yA (pv 1) (yA (pv 2) (yA (pv 6) yD))))))) yS) (yF (yP (xJ J hr rfl (yA (pv 0) (yA (pv 1) (yA (pv 2) (yA (pv 6) (yA (pv 5) yD)))))))))))))))))),?_⟩;have U:D≠ []:=λz=>by rw[z]at S;simp at S
 have Z:(0:Int)<((D.map V.int).length:Nat):=by rw[bYW];have:=cQ6.mpr U;omega
 have o:(D.map V.int)[k]? =some (.int D[k]):=by rw[cQc,bYR S];rfl
 have a5:(D.map V.int)[0]? =some (.int (D[0]'(by omega))):=by rw[cQc,bYR (by omega:0<D.length)];rfl
 obtain⟨l,a1⟩:=X1 U ((k:Nat)+1);obtain⟨L,a8⟩:=X1 U ((k:Nat)+2);refine⟨_,rfl,_,rfl,_,_,rfl,rfl,_,rfl,g,_,rfl,.inl (CV M),_,_,rfl,rfl,Z,g,_,_,_,rfl,rfl,CV M,a1,?_⟩;dsimp only[yW];refine⟨_,rfl,_,rfl,_,_,rfl,rfl,_,rfl,g,_,rfl,.inl (CV M),_,_,rfl,rfl,Z,g,_,_,_,rfl,rfl,CV M,a8,?_⟩;dsimp only[yW];refine⟨_,rfl,_,rfl,g,_,_,_,rfl,rfl,CV M,yT o,_,rfl,_,_,rfl,rfl,.inl ⟨by decide,by decide⟩,_,_,rfl,rfl,_,_,rfl,rfl,(show(0:Int)<24 by decide),?_⟩;dsimp only[yW];obtain⟨turn,y⟩:∃turn:Int,turn=(D[k]+5*(k:Nat)) % 24:=⟨_,rfl⟩;have c7:0<=turn:=by rw[y];exact md0 (by decide)
 have b4:turn<24:=by rw[y];exact md1 (by decide)
 rw[<- y];refine⟨_,rfl,_,rfl,_,_,rfl,rfl,_,rfl,B,_,rfl,.inl (CV hB.lst),_,_,rfl,_,_,rfl,rfl,?_,?_⟩
 ·show(0:Int)<(if _ then _ else _);split<;> omega
 dsimp only[yW];refine zF (λe G=>∃m:Int,e= [some (.ref B),some (.ref g),some (.int (k:Nat)),some (.int l),some (.int L),some (.int turn),some (.int m),none,none,none,none,none]/\xC H G) ?jY (λa=>?_);case jY=>
  rintro e H1 ⟨m,rfl,k1⟩;refine⟨zn (by show 6<=100000;omega),λl6 b9=>⟨_,rfl,_,_,rfl,rfl,⟨by decide,by decide⟩,_,_,rfl,rfl,(show(0:Int)<6 by decide),?_⟩⟩;refine qD rfl rfl (CV yB) (md0 (by decide)) (md1 (by decide)) (by simp) λt0 _=>?_;have k2:=k1.trans (yG b9 (.lst [.int 0,.int 2,.int 1,.int 5,.int 3,.int 7]));generalize upd H1 l6 (.lst [.int 0,.int 2,.int 1,.int 5,.int 3,.int 7])=H2 at k2 ⊢;have b8:=k2 _ _ M;dsimp only[yW];refine zF (λe G=>∃t:Int,e= [some (.ref B),some (.ref g),some (.int (k:Nat)),some (.int l),some (.int L),some (.int turn),some (.int m),some (.int t),none,none,none,none]/\xC H G) ?rest2 (λa=>?_);case rest2=>
   rintro e H3 ⟨t,rfl,k3⟩;have c6:=k3 _ _ M;have b7:=hB.same k3;refine bJp (aJI (λb G=>xC H G) ?_ ?_ ?_)
   ·intro Kk hK;refine⟨_,rfl,_,_,rfl,rfl,_,rfl,?_⟩;refine qC (λc=>hK _ _ k3) (λc=>?_);exact⟨_,rfl,z0,λpn b5=>⟨B,pn,_,rfl,rfl,CV ((yG b5 (.lst [])) _ _ b7.lst),CV yB,_,rfl,hK _ _ (k3.trans (yG b5 _))⟩⟩
   ·intro H4 O;have C:=O _ _ M;refine⟨_,rfl,_,_,rfl,rfl,(show(0:Int)<20 by decide),_,_,rfl,rfl,_,_,rfl,rfl,⟨by decide,by decide,by decide⟩,_,rfl,_,rfl,g,_,_,_,rfl,rfl,CV C,yT o,_,_,rfl,rfl,(show(0:Int)<37 by decide),rfl,.inr ⟨_,rfl,_,_,rfl,rfl,.inl ⟨dk,dk⟩,_,_,rfl,rfl,?_⟩⟩;dsimp only[yW];refine zF (λe G=>∃d:Int,e= [some (.ref B),some (.ref g),some (.int (k:Nat)),some (.int l),some (.int L),some (.int turn),some (.int m),some (.int t),some (.int d),none,none,none]/\xC H G) ?rest3 (λa=>?_);case rest3=>
     rintro e H5 ⟨d,rfl,k5⟩;refine⟨zn (by show 4<=100000;omega),λl4 c0=>⟨_,rfl,_,_,rfl,rfl,(show(0:Int)<4 by decide),?_⟩⟩;refine aQm rfl rfl (CV yB) (md0 (by decide)) (md1 (by decide)) (by simp) λa7 _=>?_;have k6:=k5.trans (yG c0 (.lst [.str Bo,.str "bo",.str Bo,.str ""]));generalize upd H5 l4 (.lst [.str Bo,.str "bo",.str Bo,.str ""])=H6 at k6 ⊢;have a3:=k6 _ _ M;dsimp only[yW];refine zF (λe G=>L2.Ez2 λ(a2:Str)(a6:Option V)=>e= [some (.ref B),some (.ref g),some (.int (k:Nat)),some (.int l),some (.int L),some (.int turn),some (.int m),some (.int t),some (.int d),some (.str a2),a6,none]/\xC H G) ?rest4 (λa=>?_);case rest4=>
      rintro e H7 ⟨a2,a6,rfl,k7⟩;refine⟨z2,λl2 a0=>⟨_,rfl,_,_,rfl,rfl,⟨by decide,by decide⟩,_,_,rfl,rfl,(show(0:Int)<2 by decide),?_⟩⟩;refine aQm rfl rfl (CV yB) (md0 (by decide)) (md1 (by decide)) (by simp) λa4 b2=>?_;have hw:a4="in"\/a4=BK:=by simpa using b2
      refine⟨_,rfl,_,rfl,_,rfl,z4,λp hp=>?_⟩;exact q _ _ ((k7.trans (yG a0 _)).trans (yG hp _)) ⟨p,.enter a4 d a2 t,rfl,yB,hw⟩
     refine⟨_,rfl,_,rfl,g,_,_,_,rfl,rfl,CV a3,yT o,_,_,rfl,rfl,(show(0:Int)<13 by decide),rfl,_,rfl,?_⟩;refine qC (λc=>?_) (λc=>a _ _ ⟨a7,none,rfl,k6⟩);have W:∀x:Int,0<=x % 40/\x % 40<=39:=λx=>⟨md0 (by decide),by have:=md1 (x:=x) (n:=40) (by decide);omega⟩;refine⟨_,rfl,g,_,_,_,rfl,rfl,CV a3,yT (j:=0) a5,_,_,rfl,rfl,(show(0:Int)<40 by decide),_,_,rfl,rfl,by decide,(W _).1,by have:=(W (D[0]'(by omega))).2;omega,λza c1=>?_⟩;refine⟨_,_,rfl,rfl,by rw[cQr];show za.length+1<=_;omega,?_⟩;refine⟨_,rfl,g,_,_,_,rfl,rfl,CV a3,yT (j:=0) a5,_,_,rfl,rfl,(show(0:Int)<40 by decide),_,_,rfl,rfl,_,_,rfl,rfl,by decide,by have:=(W (D[0]'(by omega))).2;omega,by have:=(W (D[0]'(by omega))).1;omega,λzb c8=>?_⟩;have c4:(za++("y":Str)).length<=101:=by
      show(za.cps++_).size<=101;rw[Array.size_append];have:za.cps.size<=100:=c1;have:("y":Str).cps.size=1:=by decide
      omega
     refine⟨_,_,rfl,rfl,by rw[cQr];omega,?_⟩;dsimp only[yW];refine⟨_,rfl,_,_,rfl,rfl,by decide,by decide,by decide,λzc c9=>⟨z3,λl3 I=>⟨_,rfl,_,_,rfl,rfl,(show(0:Int)<3 by decide),?_⟩⟩⟩;refine aQm rfl rfl (CV yB) (md0 (by decide)) (md1 (by decide)) (by simp) λb3 _=>?_;dsimp only[yW];exact a _ _ ⟨b3,_,rfl,k6.trans (yG I _)⟩
    refine⟨_,rfl,_,rfl,g,_,_,_,rfl,rfl,CV C,yT o,_,_,rfl,rfl,(show(0:Int)<37 by decide),rfl,_,rfl,?_⟩;refine qC (λc=>?_) (λc=>a _ _ ⟨_,rfl,O⟩);refine⟨_,rfl,_,_,rfl,rfl,(show(0:Int)<2001 by decide),_,_,rfl,rfl,_,rfl,_,_,rfl,rfl,c60,_,_,rfl,rfl,p60,_,rfl,_,_,rfl,rfl,c60,_,_,rfl,rfl,p60,_,_,rfl,rfl,z3,λl3 I=>⟨_,rfl,_,_,rfl,rfl,(show(0:Int)<3 by decide),?_⟩⟩;refine qD rfl rfl (CV yB) (md0 (by decide)) (md1 (by decide)) (by simp) λd1 _=>?_;dsimp only[yW];exact a _ _ ⟨d1,rfl,O.trans (yG I _)⟩
   ·intro H4 O;have C:=O _ _ M;have N:=hB.same O;dsimp only[aJh];refine⟨_,rfl,_,_,rfl,rfl,_,rfl,?_⟩;refine qC (λc=>?_) (λc=>?_)
    ·refine⟨_,rfl,_,_,rfl,rfl,(show(0:Int)<20 by decide),?_⟩;dsimp only[yW];refine zF (λe G=>∃bs:Int,e= [some (.ref B),some (.ref g),some (.int (k:Nat)),some (.int l),some (.int L),some (.int turn),some (.int m),some (.int t),none,none,none,some (.int bs)]/\xC H G) ?rest5 (λa=>?_);case rest5=>
      rintro e H5 ⟨bs,rfl,k5⟩;refine⟨_,rfl,_,rfl,_,rfl,z4,λp hp=>?_⟩;exact q _ _ (k5.trans (yG hp _)) ⟨p,.reply m bs t,rfl,yB,trivial⟩
     refine⟨_,rfl,_,rfl,B,rs,R,m,rfl,N,_,rfl,?_⟩;cases h1:Bk.wW R m with
     |false=>exact onF rfl (a _ _ ⟨_,rfl,O⟩)
     |true=>
     obtain⟨i,r,rfl,c5,hi,hv⟩:=Bk.wJ h1;obtain⟨b,g1,g2,cp,g3,g4⟩:=N.get hi;refine onT rfl ⟨_,rfl,_,rfl,B,_,_,_,rfl,rfl,CV N.lst,yT g1,b,_,1,_,rfl,rfl,CV g3,rfl,_,rfl,z2,λl2 a0=>?_⟩;have e2:=yG a0 (.lst [.int 7,.int 3000]);have b6:=e2 _ _ C;refine⟨_,rfl,_,rfl,g,_,_,_,rfl,rfl,CV b6,yT o,_,_,rfl,rfl,(show(0:Int)<11 by decide),rfl,.inr ⟨_,rfl,?_⟩⟩;refine qD rfl rfl (CV yB) b0 b1 (by simp) λj hj=>?_;have d2:j=7\/j=3000:=by simpa using hj
     refine⟨_,_,rfl,rfl,(show(0:Int)<j by omega),_,_,rfl,rfl,_,_,rfl,rfl,?_⟩;dsimp only[yW];exact a _ _ ⟨_,rfl,O.trans e2⟩
    ·have c:¬turn<12:=of_decide_eq_false (Bool.eq_false_iff.mpr c);refine⟨_,rfl,_,_,rfl,rfl,_,rfl,?_⟩;refine qC (λc2=>?_) (λc2=>?_)
     ·exact⟨_,rfl,_,rfl,_,rfl,_,rfl,B,g,rs,R,D,k,m,rfl,N,hR,C,U,λG v k5 hd=>q _ _ (O.trans k5) hd⟩
     ·have c2:¬turn<15:=of_decide_eq_false (Bool.eq_false_iff.mpr c2);exact⟨_,rfl,_,rfl,_,rfl,_,rfl,_,rfl,B,g,rs,R,D,k,m,turn,rfl,N,hR,C,S,by omega,b4,λG v k5 hd=>q _ _ (O.trans k5) hd⟩
  refine⟨_,rfl,_,rfl,g,_,_,_,rfl,rfl,CV b8,yT o,_,_,rfl,rfl,(show(0:Int)<29 by decide),rfl,_,rfl,?_⟩;refine qC (λc=>?_) (λc=>a _ _ ⟨t0,rfl,k2⟩);refine⟨_,rfl,_,rfl,_,rfl,_,_,rfl,rfl,c60,_,_,rfl,rfl,p60,_,_,rfl,rfl,_,rfl,_,_,rfl,rfl,(show(0:Int)<990 by decide),z4,λl3 I=>⟨_,rfl,_,_,rfl,rfl,(show(0:Int)<4 by decide),?_⟩⟩;refine qD rfl rfl (CV yB) (md0 (by decide)) (md1 (by decide)) (by simp) λt1 _=>?_;dsimp only[yW];exact a _ _ ⟨t1,rfl,k2.trans (yG I _)⟩
 refine⟨_,rfl,_,rfl,g,_,_,_,rfl,rfl,CV M,yT o,_,_,rfl,rfl,(show(0:Int)<23 by decide),rfl,_,rfl,?_⟩;refine qC (λc=>?_) (λc=>a _ _ ⟨_,rfl,xC.refl _⟩);refine⟨_,rfl,_,rfl,B,_,rfl,.inl (CV hB.lst),_,_,rfl,rfl,⟨by decide,by decide,by decide⟩,_,rfl,_,rfl,_,_,rfl,rfl,c60,_,_,rfl,rfl,p60,_,_,rfl,rfl,_,rfl,B,_,rfl,.inl (CV hB.lst),_,rfl,_,_,rfl,rfl,c60,_,_,rfl,rfl,p60,_,_,rfl,rfl,zn (by show 5<=100000;omega),λl5 c3=>⟨_,rfl,_,_,rfl,rfl,(show(0:Int)<5 by decide),?_⟩⟩;refine qD rfl rfl (CV yB) (md0 (by decide)) (md1 (by decide)) (by simp) λm1 _=>?_;dsimp only[yW];exact a _ _ ⟨m1,rfl,yG c3 _⟩
end
end Law
namespace Law
open PySem L2 PyProof.Rows
open Bk (Row Rows x2 xP Ans)
open Desk (xH vJ uR Wf Up Run zG jW)
abbrev aV2:Stmt:=xF Bp
inductive aZd(vs:List V)(H:Hp)(Q:VK)(_:XK):Prop|mk(ca:Nat)(ns:List Int)(_:vs= [.ref ca])(_:H ca=some (.lst (ns.map V.int)))(_:ns.length<=40)(_:∀ (H':Hp)(t ds us:Nat)(das:List Nat)(es:List xP)(vs:List V)(as:List Ans)(R:Rows)(S:List Int),xC H H'->H' t=some (.tup [.ref ds,.ref us])->zG H' ds das es->H' us=some (.lst vs)->cQH (λv a=>vJ [] H' a v) vs as->Run [] [] es as R S->(∀e∈es,Wf e)->es.length<=ns.length+3->Q (.ref t) H')
def Mid.start{H l f q:Hp}{n sa ds us:Nat}(g:LGo H n sa [] [] l [])(k:List xP)(a:List Nat)(i:xC l f)(m:l ds=none)(t:f ds=some (.lst (a.map V.ref)))(r:xC f q)(c:f us=none)(u:q us=some (.lst []))(v:∀e∈k,Wf e)(len:a.length=k.length) (o:∀ (j:Nat)(d:Nat)(e:xP),a[j]? =some d->k[j]? =some e->f d=some (.tup (xH e))):Mid H n sa ds us k a 0 q:=by
 have ne:ds≠us:=λz=>by rw[<- z,t]at c;cases c
 obtain⟨R,S,s,_⟩:=g.ex;have d1:∀ {x},l x=none->x≠n/\x≠sa:=λ{x} h=>⟨λz=>(by rw[z,s.book.lst]at h;cases h),λz=>(by rw[z,s.shut]at h;cases h)⟩;refine⟨ne,v,len,λj d e w y=>r _ _ (o j d e w y),[],[],[],(g.same i).same r,⟨r _ _ t,g.keep.fresh m,(d1 m).1,(d1 m).2,by simp,λb p=>by simp at p⟩,⟨u,g.keep.fresh (i.fresh c),(d1 (i.fresh c)).1,(d1 (i.fresh c)).2,by simp,λb p=>by simp at p⟩,.nil⟩
section
variable {K:bYT}
def bZC:yN [AN,A0,AF,Av,"_law_dues",AI,AH] [AN] (yH aV2):=scM
def bXy:xN [AN,A0,AF,Av,"_law_dues",AI,AH] (yH aV2) AH [A0,AF] [1,2] (lsN [(".0",.local),(AH,.local),(As,.globalImplicit),(A0,.free),(AF,.free)]):=
 lcM
seal PE PA PS PSs PT in
def bX1(T:vK mg)(l:FnG P w K mg base 5 As [A0,AF,AH] aXx)(B:FnG P w K mg base 5 BO [A0,AN,AI] aWd)(F:Fun K Bp Bp aV2 f fd):xE P w K mg base CX0 6 f fd [AN] aZd:=by
 have sc:=bZC;refine F.ok (k:=5) sc (λd2 A outer s H vs Q E hr h=>?_);obtain⟨ca,ns,rfl,hc,hn,q⟩:=h;refine⟨_,(yC (yU (i:=1) (y6 yD)) (yC (yU (i:=2) (y6 yD)) (yC (yU (i:=3) (y6 yD)) (yC (yU (i:=4) (y6 yD)) (yC (y7 (PW.pt (vT (yM (vS hr.units0) (pv 0) (y6 yD)) (wR (yM zI (yV y0 (yL yK (pv 0) yE) yE) yE)))) (yC (yU (i:=3) (y6 (yA (xG (yA yR (yA yE (yA yR (yA yE yD))))) (yA (xG (yA yR (yA yE (yA yE (yA yE yD))))) (yA (xG (yA yR (yA yE (yA yE yD)))) yD))))) (yF (aZZ (i:=4) bXy rfl sc.nd rfl rfl (xL (pv 3)) (λ_ _ _ _ _=>wK) (λ_ _ _ _ _=>(xJ l hr rfl (yA (pv 1) (yA (pv 2) (yA (pv 0) yD)))))))) yS) (yC (zT cQG rfl (zL rfl T.b_range (yA (yQ yO rfl T.b_len xB (yA (pv 0) yD)) yD)) (y9 (i:=5)) (yC (yU (i:=6) (xJ B hr rfl (yA (pv 1) (yA (pv 0) (yA (pv 5) yD))))) (yC (yY (vN cQh cQo cQp xD (pv 3) (yA (pv 6) yD))) (yF (yY (vN cQh cQo cQp xD (pv 4) (yA (xJ l hr rfl (yA (pv 1) (yA (pv 2) (yA (pv 6) yD)))) yD))))))) (yF (yP (xG (yA (pv 3) (yA (pv 4) yD))))))))))),?_⟩;refine⟨z0,λU c3=>?_⟩;dsimp only[yW];refine⟨z0,λX b7=>?_⟩;dsimp only[yW];have g0:=LGo.start c3 b7;generalize upd (upd H U (.lst [])) X (.lst [])=H2 at g0 ⊢;refine⟨z0,λC a9=>?_⟩;dsimp only[yW];refine⟨z0,λG b2=>?_⟩;dsimp only[yW];have k3:=yG a9 (.lst []);have k4:=yG b2 (.lst []);have M0:Mid H U X C G [] [] 0 (upd (upd H2 C (.lst [])) G (.lst [])):=Mid.start g0 [] [] k3 a9 yB k4 b2 yB (λe h=>by simp at h) rfl (λj d e h=>by simp at h);have gk:=g0.same (k3.trans k4);generalize upd (upd H2 C (.lst [])) G (.lst [])=H4 at M0 gk k4 ⊢;have b3:=M0.keep _ _ hc;refine zF (λσ' H'=>L2.Ez4 λ(C G:Nat)(x:List xP)(b:List Nat)=>σ'= [some (.ref ca),some (.ref U),some (.ref X),some (.ref C),some (.ref G),none,none]/\Mid H U X C G x b x.length H'/\x.length<=3) ?jY (λa5=>?_);case jY=>
  rintro σ' H5 ⟨C,G,x,b,rfl,M5,h3⟩;refine⟨_,rfl,ca,_,rfl,.inl (CV (M5.keep _ _ hc)),?_⟩;rw[bYW];refine⟨_,rfl,by omega,by omega,?_⟩;rw[cQt];refine z7 (λt σ H6=>L2.Ez4 λ(x:List xP)(b:List Nat)(o5 o6:Option V)=>σ= [some (.ref ca),some (.ref U),some (.ref X),some (.ref C),some (.ref G),o5,o6]/\Mid H U X C G x b x.length H6/\x.length<=3+t) ?_ ?_ ?_
  ·exact⟨x,b,none,none,rfl,M5,by omega⟩
  ·rintro k σ H6 hk ⟨x,b,o5,o6,rfl,M6,c4⟩;rw[cX2];dsimp only[yW];obtain⟨rs,as,vs,g6,s6,u6,p6⟩:=M6.ex;obtain⟨R,S,hL,hu,c8,N⟩:=g6.ex;have c6:=hu.r;rw[cQP]at c6;refine⟨_,rfl,_,rfl,_,rfl,U,ca,rs,R,ns,k,rfl,hL.book,by omega,M6.keep _ _ hc,hk,λH7 v k7 c2=>?_⟩;obtain⟨p,e,rfl,hp,hw⟩:=c2;dsimp only[yW];have M7:=M6.same k7;have b0:=k7 _ _ s6.at_;refine⟨_,rfl,.inl ⟨rfl,_,CV b0⟩,_,rfl,C,_,_,rfl,rfl,b0,zlt (by rw[bYW,M6.len];omega),?_⟩;have el:b.map V.ref++ [V.ref p]=(b++ [p]).map V.ref:=by simp
   rw[el];have M8:=M7.push rfl hp hw;generalize upd H7 C (.lst ((b++ [p]).map V.ref))=H8 at M8 ⊢;obtain⟨d0,c9,d1,g8,s8,u8,p8⟩:=M8.ex;have Y:(b++ [p])[x.length]? =some p:=by rw[<- M6.len,cQi (bYZ _),cXe];rfl
   have W:(x++ [e])[x.length]? =some e:=by rw[cQi (bYZ _),cXe];rfl
   refine⟨_,rfl,.inl ⟨rfl,_,CV u8.at_⟩,_,rfl,_,rfl,_,rfl,M8.next (by omega) Y W λv H9 ws _ a7 b5 M9=>⟨G,_,_,rfl,rfl,a7,zlt (by omega),x++ [e],b++ [p],_,_,rfl,?_,by rw[cQf];simp;omega⟩⟩;rw[cQf];exact M9
  ·rintro σ H6 ⟨x,b,o5,o6,rfl,M6,c4⟩;refine⟨_,rfl,_,rfl,z2,λt ht=>?_⟩;have k6:=yG ht (.tup [.ref C,.ref G]);have M7:=M6.same k6;obtain⟨rs,as,vs,g7,s7,u7,p7⟩:=M7.ex;obtain⟨R,S,hL,hu,c8,N⟩:=g7.ex;rw[cQP]at N;exact q _ t C G b x vs as R S M7.keep yB ⟨s7.at_,M7.len,M7.at_⟩ u7.at_ (jW (λv a z=>qS z λp u n e=>⟨by simp,e⟩) p7) N M7.wf (by omega)
 refine⟨_,rfl,z0,λpn b4=>⟨ca,pn,_,rfl,rfl,CV ((yG b4 (.lst [])) _ _ b3),CV yB,_,rfl,?_⟩⟩;have k5:=yG b4 (.lst []);generalize upd H4 pn (.lst [])=H5 at k5 ⊢;have a0:∀H',xC H4 H'->_:=λH' k=>a5 [some (.ref ca),some (.ref U),some (.ref X),some (.ref C),some (.ref G),none,none] H' ⟨C,G,[],[],rfl,M0.same k,by simp⟩;by_cases Z:ns= []
 ·subst Z;exact onF rfl (onF rfl (a0 _ k5))
 have b8:(ns.map V.int)[0]? =some (.int (ns[0]'(cQ6.mpr Z))):=by rw[cQc,bYR (cQ6.mpr Z)];rfl
 refine onT (by cases ns with|nil=>exact absurd rfl Z|cons=>rfl) ⟨_,rfl,ca,_,_,_,rfl,rfl,CV (k5 _ _ b3),yT (j:=0) b8,_,_,rfl,rfl,(show(0:Int)<5 by decide),rfl,_,rfl,?_⟩;refine qC (λc=>?_) (λc=>a0 _ k5);refine⟨z4,λI c0=>⟨z4,λJ b6=>⟨z3,λL b9=>⟨z3,λdl b1=>?_⟩⟩⟩⟩;have a1:=yG c0 (.tup (xH (.enter "in" 4 Bo 2)));have a2:=yG b6 (.tup (xH (.reply 0 4 1)));have a3:=yG b9 (.tup (xH (.hang 0 1)));have a4:=yG b1 (.lst ([I,J,L].map V.ref));have g5:=((gk.same k5).same a1).same (a2.trans a3);have e1:=a4 _ _ (a3 _ _ (a2 _ _ (yB (H:=H5) (a:=I) (o:= .tup (xH (.enter "in" 4 Bo 2))))));have e2:=a4 _ _ (a3 _ _ (yB (H:=upd H5 I (.tup (xH (.enter "in" 4 Bo 2)))) (a:=J) (o:= .tup (xH (.reply 0 4 1)))));have e3:=a4 _ _ (yB (H:=upd (upd H5 I (.tup (xH (.enter "in" 4 Bo 2)))) J (.tup (xH (.reply 0 4 1)))) (a:=L) (o:= .tup (xH (.hang 0 1))));have e4:=yB (H:=upd (upd (upd H5 I (.tup (xH (.enter "in" 4 Bo 2)))) J (.tup (xH (.reply 0 4 1)))) L (.tup (xH (.hang 0 1)))) (a:=dl) (o:= .lst ([I,J,L].map V.ref));have c1:∀D,upd (upd (upd (upd H5 I (.tup (xH (.enter "in" 4 Bo 2)))) J (.tup (xH (.reply 0 4 1)))) L (.tup (xH (.hang 0 1)))) dl (.lst ([I,J,L].map V.ref)) D=none->Mid H U X dl D [.enter "in" 4 Bo 2,.reply 0 4 1,.hang 0 1] [I,J,L] 0 (upd (upd (upd (upd (upd H5 I (.tup (xH (.enter "in" 4 Bo 2)))) J (.tup (xH (.reply 0 4 1)))) L (.tup (xH (.hang 0 1)))) dl (.lst ([I,J,L].map V.ref))) D (.lst [])):=λD hD=>by
  refine Mid.start g5 _ _ a4 b1 e4 (yG hD (.lst [])) hD yB (λe he=>?_) rfl (λj d e Y W=>?_)
  ·simp only[bY1,List.mem_nil_iff,or_false]at he;rcases he with rfl|rfl|rfl
   ·exact .inl rfl
   ·trivial
   ·trivial
  ·match j,Y,W with
   |0,Y,W=>cases Y;cases W;exact e1
   |1,Y,W=>cases Y;cases W;exact e2
   |2,Y,W=>cases Y;cases W;exact e3
 dsimp only[yW];refine⟨_,rfl,dl,rfl,⟨_,CV e4⟩,λD hD=>?_⟩;have M6:=c1 D hD;refine⟨λi m ys H'=>m=3 - i/\i<=3/\H' D=some (.lst ys)/\Mid H U X dl D [.enter "in" 4 Bo 2,.reply 0 4 1,.hang 0 1] [I,J,L] i H',⟨3,rfl,by omega,yB,M6⟩,?_⟩;rintro i m ys H' ⟨rfl,hi,a8,M⟩;refine⟨a8,?_⟩;obtain⟨rs,as,vs,g,s1,s2,p⟩:=M.ex;by_cases O:i<3
 ·have a6:([I,J,L]:List Nat)[i]? =some ([I,J,L][i]'(by simpa using O)):=bYR (by simpa using O);have c5:([.enter "in" 4 Bo 2,.reply 0 4 1,.hang 0 1]:List xP)[i]? =some (([.enter "in" 4 Bo 2,.reply 0 4 1,.hang 0 1]:List xP)[i]'(by simpa using O)):=bYR (by simpa using O);refine .inr ⟨⟨_,_,CV s1.at_,by rw[cQc,a6];rfl⟩,λv H7 yl=>?_⟩;obtain⟨rfl,y⟩:=yl;have hv:=y _ (CV s1.at_);rw[cQc,a6]at hv;cases hv;refine⟨_,rfl,_,rfl,_,rfl,?_⟩;refine M.next (by omega) a6 c5 λv H8 ws c7 a7 b5 M8=>?_;have ey:ys=ws:=by rw[c7]at a8;cases a8;rfl
  subst ey;exact⟨by rw[cQr];omega,a7,3 - (i+1),by omega,rfl,O,yB,M8⟩
 ·have:i=3:=by omega
  subst this;refine .inl ⟨⟨_,CV s1.at_,by simp⟩,?_⟩;exact a5 _ _ ⟨dl,D,_,_,rfl,M,by simp⟩
end
end Law
namespace Alike
open PySem L2 PyProof.Rows
open Law (xF)
abbrev aY6:Stmt:=xF Bq
abbrev bVJ:Stmt:=xF C0
abbrev bQo:Stmt:=xF Br
def xB:cQD CH=some (.builtin CH):=dk
def yZ:cQD AY=some (.builtin AY):=dk
def uS:cQD Ao=some (.type Ao):=dk
def aZr:cQD Ap=some (.type Ap):=dk
def aJx:cQD Aj=some (.type Aj):=dk
def z6:cQD AB=some (.type AB):=dk
def wV:cQD AD=some (.type AD):=dk
structure vK(mg:Str->Option bYS):Prop where
 b_len:mg CH=none
 b_sorted:mg AR=none
 b_isinstance:mg AY=none
 b_int:mg Ao=none
 b_str:mg Ap=none
 b_bool:mg Aj=none
 b_list:mg AB=none
 b_tuple:mg AD=none
 b_range:mg Ae=none
inductive bQW(vs:List V)(H:Hp)(Q:VK)(_:XK):Prop|mk(n)(_:vs= [.int n])(_:Q (.bl true) H)
inductive bJu(K:bYT)(vs:List V)(H:Hp)(Q:VK)(_:XK):Prop|mk(a:Nat)(ns:List Int)(x y:Int)(_:vs= [.ref a,.int x,.int y])(_:SqL K H a (ns.map V.int))(_:ns.length<=63)(_:Q (.int x) H)
section
variable {K:bYT}
def bZG:yN [AV] [AV] (yH bQo):=scM
def bX5(T:vK mg)(F:Fun K Br Br bQo f fd):xE P w K mg base CX0 1 f fd [AV] bQW:=by
 have b:=bZG;refine F.ok (k:=0) b (λa A outer s H d Q E c h=>?_);obtain⟨n,rfl,q⟩:=h;refine⟨_,(yF (yP (aVU (yQ zA rfl T.b_isinstance yZ (yA (pv 0) (yA (xS (v:= .ty Ao) rfl T.b_int uS rfl) yD))) (aZV (bJl (yQ zA rfl T.b_isinstance yZ (yA (pv 0) (yA (xS (v:= .ty Aj) rfl T.b_bool aJx rfl) yD)))))))),?_⟩;refine⟨_,rfl,_,Ao,_,_,rfl,.int n,aXp _,_,rfl,onT rfl ?_⟩;exact⟨_,rfl,_,Aj,_,_,rfl,.int n,qI _,_,rfl,q⟩
def bVX:yN [AX,C5,Bs] [AX,C5,Bs] (yH bVJ):=scM
def bVl(T:vK mg)(F:Fun K C0 C0 bVJ f fd):xE P w K mg base CX0 1 f fd [AX,C5,Bs] (bJu K):=by
 have c:=bVX;refine F.ok (k:=0) c (λb A outer s H g Q E j h=>?_);obtain⟨a,i,x,y,rfl,e,d,q⟩:=h;refine⟨_,(yC (y7 (yM aXh (yQ yO rfl T.b_len xB (yA (pv 0) yD)) yE) (yF (yP (pv 2))) yS) (yF (yP (pv 1)))),?_⟩;refine⟨_,rfl,a,_,rfl,.inl e,_,_,rfl,rfl,_,rfl,onF ?_ ⟨_,rfl,q⟩⟩;rw[bYW];exact decide_eq_false (by omega)
end
def Sq(K:bYT)(H:Hp)(a:Nat)(xs:List V):Prop:=H a=some (.lst xs)\/H a=some (.tup xs)
def Sq.same{K:bYT}{H b:Hp}{a:Nat}{xs:List V}(k:xC H b)(h:Sq K H a xs):Sq K b a xs:=h.imp (k _ _) (k _ _)
def Sq.ix{K:bYT}{H:Hp}{a:Nat}{xs:List V}{i:Nat}{v:V}{Q:VK}(h:Sq K H a xs)(e:xs[i]? =some v)(q:Q v H):rIx K (.ref a) (.int (i:Int)) H Q:=by
 rcases h with h|h
 ·exact .inl ⟨a,xs,_,v,rfl,rfl,CV h,yT e,q⟩
 ·exact .inr (.inl ⟨a,xs,_,v,rfl,rfl,CW h,yT e,q⟩)
def xV:List (Nat×Dt)->Nat
 |[]=>0
 |q::r=>q.2.size+xV r
def y8:∀a b:List (Nat×Dt),xV (a++b)=xV a+xV b
 |[],b=>by simp[xV]
 |q::r,b=>by rw[cJu];show q.2.size+xV (r++b)=q.2.size+xV r+xV b;rw[y8 r b];omega
def vI:∀ {a:List (Nat×Dt)} {ds:List Dt},a.map (·.2)=ds->xV a=zK ds
 |[],[],_=>by simp[xV,zK]
 |q::r,d::ds,h=>by rw[cQF]at h;cases h;show q.2.size+xV r=q.2.size+zK (r.map (·.2));rw[vI rfl]
 |[],_::_,h=>by cases h
 |_::_,[],h=>by cases h
def jC:∀qs:List (Nat×Dt),qs.length<=xV qs
 |[]=>bYZ _
 |q::r=>by
  have:=jC r;have a:1<=q.2.size:=by cases q.2<;> simp[Dt.size]
  show r.length+1<=q.2.size+xV r;omega
def uY:∀ds:List Dt,ds.length<=zK ds
 |[]=>bYZ _
 |d::r=>by
  have:=uY r;have a:1<=d.size:=by cases d<;> simp[Dt.size]
  show r.length+1<=d.size+zK r;omega
def aZb{α:Type}:∀ {l:List α},l≠ []->∃b a,l=b++ [a]
 |[],h=>absurd rfl h
 |[x],_=>⟨[],x,rfl⟩
 |x::y::r,_=>by obtain⟨i,l,e⟩:=aZb (l:=y::r) (by simp);exact⟨x::i,l,by rw[e];rfl⟩
def zX{a H:Hp}{c:Nat}{o:HO}(k:xC a H)(h:a c=none):xC a (upd H c o):=λb u q=>by rw[yI (yJ q h)];exact k b u q
mutual
def nb:Dt->Bool
 |.bl _=>false
 |.lst a=>nbs a
 |.tup a=>nbs a
 |.non=>true
 |.int _=>true
 |.str _=>true
def nbs:List Dt->Bool
 |[]=>true
 |d::r=>nb d && nbs r
end
def aJO:∀ {ds:List Dt} {i:Nat} (h:i<ds.length),nbs ds=true->nb ds[i]=true
 |d::r,0,h,e=>by unfold nbs at e;rw[Bool.and_eq_true]at e;exact e.1
 |d::r,i+1,h,e=>by unfold nbs at e;rw[Bool.and_eq_true]at e;exact aJO (ds:=r) (by simpa using h) e.2
def bJF(a H:Hp)(q:Nat×Dt):Prop:=∃x y,H q.1=some (.tup [x,y])/\Is a x q.2/\Is a y q.2/\nb q.2=true
def bJF.keep{b H c:Hp}{q:Nat×Dt}(p:bJF b H q)(k:∀a d,H a=some (.tup d)->c a=some (.tup d)):bJF b c q:=let ⟨x,y,h,r⟩:=p;⟨x,y,k _ _ h,r⟩
def jD{H:Hp}{p:Nat}{o:HO}(h:H p=none):∀a b,H a=some (.tup b)->upd H p o a=some (.tup b):=λa b e=>by rw[yI (yJ e h)];exact e
def wT{H:Hp}{p:Nat}{c:List V}{o:HO}(h:H p=some (.lst c)):∀a b,H a=some (.tup b)->upd H p o a=some (.tup b):=λa b e=>by rw[yI (aXd e h (by intro z;cases z))];exact e
inductive WU(H0:Hp)(v u:V)(td:Nat)(m:Nat)(σ:L2.St)(H:Hp):Prop|mk(qs l r k)(_:σ= [some v,some u,some (.ref td),l,r,k])(_:xC H0 H)(_:H td=some (.lst (qs.map λq=> .ref q.1)))(_:(∀q∈qs,bJF H0 H q))(_:m=xV qs)(_:xV qs<=50000)
inductive bQI(vs:List V)(H:Hp)(Q:VK)(_:XK):Prop|mk(v u d)(_:vs= [v,u])(_:Is H v d)(_:Is H u d)(_:nb d=true)(_:d.size<=50000)(_:∀H',xC H H'->Q (.bl true) H')
section
variable {K:bYT}
def bZm:yN [AV,Aw,"_law_todo",An,"_law_other",AI] [AV,Aw] (yH aY6):=scM
seal PE PA PS PSs PT in
def bXL(T:vK mg)(U:FnG P w K mg base 1 Br [AV] bQW)(F:Fun K Bq Bq aY6 f fd):xE P w K mg base CX0 2 f fd [AV,Aw] bQI:=by
 have sc:=bZm;refine F.ok (k:=1) sc (λc7 A outer s H0 vs Q E hr h=>?_);obtain⟨v,u,d,rfl,hv,hu,b6,hd,q⟩:=h;refine⟨_,(yC (yU (i:=2) (y6 (yA (xG (yA (pv 0) (yA (pv 1) yD))) yD))) (yC (uD cQG (yM (vS hr.units0) (pv 2) (y6 yD)) (yC (vF (aYW cQh cJy cJz aYw (pv 2)) (aZW rfl (zE (y9 (i:=3)) (zE (y9 (i:=4)) aQH)))) (yF (y7 (xZ (yQ qU rfl T.b_isinstance yZ (yA (pv 4) (yA (xG (yA (xS (v:= .ty AB) rfl T.b_list z6 rfl) (yA (xS (v:= .ty AD) rfl T.b_tuple wV rfl) yD))) yD)))) (yC (y7 (yM Y1 (yQ zA rfl T.b_isinstance yZ (yA (pv 3) (yA (xS (v:= .ty AB) rfl T.b_list z6 rfl) yD))) (yQ zA rfl T.b_isinstance yZ (yA (pv 4) (yA (xS (v:= .ty AB) rfl T.b_list z6 rfl) yD)))) (yF (yP wQ)) yS) (yC (y7 (yM Y1 (yQ zA rfl T.b_isinstance yZ (yA (pv 3) (yA (xS (v:= .ty AD) rfl T.b_tuple wV rfl) yD))) (yQ zA rfl T.b_isinstance yZ (yA (pv 4) (yA (xS (v:= .ty AD) rfl T.b_tuple wV rfl) yD)))) (yF (yP wQ)) yS) (yC (y7 (yM Y1 (yQ yO rfl T.b_len xB (yA (pv 3) yD)) (yQ yO rfl T.b_len xB (yA (pv 4) yD))) (yF (yP wQ)) yS) (yF (zT cQG rfl (zL rfl T.b_range (yA (yQ yO rfl T.b_len xB (yA (pv 4) yD)) yD)) (y9 (i:=5)) (yF (yY (vN cQh cQo cQp xD (pv 2) (yA (xG (yA (yL aVJ (pv 3) (pv 5)) (yA (yL aVJ (pv 4) (pv 5)) yD))) yD))))))))) (yF (y7 (yM aXs (pv 4) x6) (yF (y7 (yM wA (pv 3) x6) (yF (yP wQ)) yS)) (yF (y7 (xZ (yQ zA rfl T.b_isinstance yZ (yA (pv 4) (yA (xS (v:= .ty Ap) rfl T.b_str aZr rfl) yD)))) (yF (y7 (PW.pt (jX (vG (xZ (yQ zA rfl T.b_isinstance yZ (yA (pv 3) (yA (xS (v:= .ty Ap) rfl T.b_str aZr rfl) yD))))) (vU (yM Y1 (pv 3) (pv 4))))) (yF (yP wQ)) yS)) (yF (y7 (PW.pt (jX (vG (xZ (xJ U hr rfl (yA (pv 3) yD)))) (vU (yM Y1 (pv 3) (pv 4))))) (yF (yP wQ)) yS)))))))))) (yF (yP wQ)))),?_⟩;refine⟨_,rfl,_,rfl,z2,λp0 b3=>⟨z1,λt b4=>?_⟩⟩;have a1:H0 t=none:=(yG b3 _).fresh b4;refine⟨WU H0 v u t,⟨d.size,[(p0,d)],none,none,none,rfl,zX (yG b3 _) a1,yB,?_,by simp[xV],by simpa[xV]using hd⟩,?_⟩
 ·intro q B;rw[bY9.mp B];exact⟨v,u,jD b4 _ _ yB,hv,hu,b6⟩
 rintro m σ H ⟨qs,l,r,k,rfl,hk,hT,hP,rfl,a6⟩;refine⟨_,rfl,z0,λpn a5=>?_⟩;have c2:pn≠t:=cQB (yJ hT a5);have a4:upd H pn (.lst []) t=some (.lst (qs.map λq=> .ref q.1)):=by rw[yI (cQB c2)];exact hT
 refine⟨t,pn,_,rfl,rfl,CV a4,CV yB,_,rfl,?_⟩;by_cases b1:qs= []
 ·subst b1;rw[if_neg (by decide)];exact q _ (hk.trans (yG a5 _))
 obtain⟨c,⟨lp,d⟩,rfl⟩:=aZb b1;rw[if_pos (by simp)];refine⟨λG I=>∃m',m'<xV (c++ [(lp,d)])/\WU H0 v u t m' G I,λG I z=>z,?_⟩;obtain⟨x,y,b9,hx,hy,C⟩:=hP (lp,d) (by simp);have a9:((c++ [(lp,d)]).map λq=>V.ref q.1)[((c++ [(lp,d)]).map λq=>V.ref q.1).length - 1]? =some (.ref lp):=by simp
 have a8:((c++ [(lp,d)]).map λq=>V.ref q.1).dropLast=c.map λq=>V.ref q.1:=by simp
 have b0:∀a N,H a=some (.tup N)->upd (upd H pn (.lst [])) t (.lst (c.map λq=>V.ref q.1)) a=some (.tup N):=λa N e=>wT a4 _ _ (jD a5 _ _ e);refine⟨_,rfl,.inl ⟨rfl,_,CV a4⟩,t,_,.ref lp,rfl,rfl,a4,a9,?_⟩;rw[a8];have L:xC H0 (upd (upd H pn (.lst [])) t (.lst (c.map λq=>V.ref q.1))):=zX (hk.trans (yG a5 _)) a1;have a0:upd (upd H pn (.lst [])) t (.lst (c.map λq=>V.ref q.1)) t=some (.lst (c.map λq=> .ref q.1)):=yB;have a3:∀q∈c,bJF H0 (upd (upd H pn (.lst [])) t (.lst (c.map λq=>V.ref q.1))) q:=λq B=>(hP q (by simp[B])).keep b0;have a7:=b0 _ _ b9;generalize c4:upd (upd H pn (.lst [])) t (.lst (c.map λq=>V.ref q.1))=H2 at L a0 a3 a7 ⊢;refine⟨lp,[x,y],rfl,CW a7,rfl,x,[y],rfl,y,[],rfl,rfl,?_⟩;have c6:1<=d.size:=by cases d<;> simp[Dt.size]
 have c5:xV c+d.size<=50000:=by rw[y8]at a6;simpa[xV]using a6
 have hm:xV c<xV (c++ [(lp,d)]):=by rw[y8];simp[xV];omega
 have fin:∀H3,(∀b o,H2 b=some o->H3 b=some o)->∃m',m'<xV (c++ [(lp,d)])/\WU H0 v u t m' [some v,some u,some (.ref t),some x,some y,k] H3:=λH3 k3=>
  ⟨xV c,hm,c,some x,some y,k,rfl,L.trans k3,k3 _ _ a0,λq B=>(a3 q B).keep λa N e=>k3 _ _ e,rfl,by omega⟩
 refine⟨_,rfl,z2,λp1 b8=>?_⟩;have j:xC H2 (upd H2 p1 (.tup [.ty AB,.ty AD])):=yG b8 _;cases d with
 |non=>
  have ex:x= .non:=by unfold Is at hx;exact hx
  have ey:y= .non:=by unfold Is at hy;exact hy
  subst ex;subst ey;refine⟨_,p1,AB,AD,_,_,_,rfl,CW yB,.non,uM _,vY _,_,rfl,onF rfl ?_⟩;refine⟨_,rfl,rfl,_,rfl,onT rfl ?_⟩;refine⟨_,rfl,rfl,_,rfl,onF rfl ?_⟩;exact fin _ j
 |bl b=>unfold nb at C;cases C
 |int n=>
  have ex:x= .int n:=by unfold Is at hx;exact hx
  have ey:y= .int n:=by unfold Is at hy;exact hy
  subst ex;subst ey;refine⟨_,p1,AB,AD,_,_,_,rfl,CW yB,.int n,aQo _,W3 _,_,rfl,onF rfl ?_⟩;refine⟨_,rfl,rfl,_,rfl,onF rfl ?_⟩;refine⟨_,rfl,_,Ap,_,_,rfl,.int n,jL _,_,rfl,onF rfl ?_⟩;refine⟨_,rfl,n,rfl,_,rfl,onF rfl ⟨_,rfl,_,rfl,rfl,_,rfl,onF (by simp) ?_⟩⟩;exact fin _ j
 |str z=>
  have ex:x= .str z:=by unfold Is at hx;exact hx
  have ey:y= .str z:=by unfold Is at hy;exact hy
  subst ex;subst ey;refine⟨_,p1,AB,AD,_,_,_,rfl,CW yB,.str z,aQq _,W4 _,_,rfl,onF rfl ?_⟩;refine⟨_,rfl,rfl,_,rfl,onF rfl ?_⟩;refine⟨_,rfl,_,Ap,_,_,rfl,.str z,vZ _,_,rfl,onT rfl ?_⟩;refine⟨_,rfl,_,Ap,_,_,rfl,.str z,vZ _,_,rfl,onF rfl ⟨_,rfl,_,rfl,rfl,_,rfl,onF (by simp) ?_⟩⟩;exact fin _ j
 |lst g=>
  unfold Is at hx hy;obtain⟨a,N,rfl,ha,X⟩:=hx;obtain⟨b,ys,rfl,hb,S⟩:=hy;have lx:=X.length;have ly:=S.length;have a2:=L _ _ ha;have O:=L _ _ hb;have b5:zK g+1<=50000:=by
   have:Dt.size (.lst g)=1+zK g:=by simp[Dt.size]
   omega
  have b7:g.length<=zK g:=uY g;have C:nbs g=true:=by unfold nb at C;exact C
  refine⟨_,p1,AB,AD,_,_,_,rfl,CW yB,.lst (j _ _ O),x8 _,z8 _,_,rfl,onT rfl ?_⟩;refine⟨_,rfl,_,AB,_,_,rfl,.lst (j _ _ a2),x8 _,_,rfl,_,AB,_,_,rfl,.lst (j _ _ O),x8 _,rfl,_,rfl,onF rfl ?_⟩;refine⟨_,rfl,_,AD,_,_,rfl,.lst (j _ _ a2),z8 _,_,rfl,_,AD,_,_,rfl,.lst (j _ _ O),z8 _,rfl,_,rfl,onF rfl ?_⟩;refine⟨_,rfl,a,_,rfl,.inl (CV (j _ _ a2)),_,rfl,b,_,rfl,.inl (CV (j _ _ O)),rfl,_,rfl,onF (by simp[lx,ly]) ?_⟩;refine⟨_,rfl,b,_,rfl,.inl (CV (j _ _ O)),_,rfl,by omega,by omega,?_⟩;have Z:Dt.size (.lst g)=1+zK g:=by simp[Dt.size]
  generalize c3:upd H2 p1 (.tup [.ty AB,.ty AD])=H3 at j ⊢;refine z7 (λi G I=>L2.Ez2 λ(D:List (Nat×Dt))(kk:Option V)=>G= [some v,some u,some (.ref t),some (.ref a),some (.ref b),kk]/\xC H0 I/\I t=some (.lst ((c++D).map λq=> .ref q.1))/\(∀q∈c++D,bJF H0 I q)/\D.map (·.2)=g.take i) ?_ ?_ ?_
  ·exact⟨[],k,rfl,L.trans j,by rw[cQV];exact j _ _ a0,λq B=>(a3 q (by simpa using B)).keep λa N e=>j _ _ e,rfl⟩
  ·rintro i G I hi ⟨D,kk,rfl,Y,R,h3,W⟩;have J:i<g.length:=by rw[<- ly];omega
   obtain⟨xi,ex,ix⟩:=X.get (bYR J);obtain⟨yi,ey,iy⟩:=S.get (bYR J);show aVw _ _ _ _;have sa:Sq K I a N:=Sq.same Y (.inl ha);have sb:Sq K I b ys:=Sq.same Y (.inl hb);refine⟨_,rfl,.inl ⟨rfl,_,CV R⟩,_,rfl,_,rfl,?_⟩;rw[cX2];refine sa.ix ex ⟨_,rfl,_,rfl,?_⟩;refine sb.ix ey ⟨z2,λp hp=>?_⟩;have c0:D.length=i:=by have:=congrArg cX0 W;simp at this;omega
   have c1:=jC c;have M:upd I p (.tup [xi,yi]) t=some (.lst ((c++D).map λq=> .ref q.1)):=by rw[yI (yJ R hp)];exact R
   refine⟨t,_,.ref p,rfl,rfl,M,zlt (by simp;omega),D++ [(p,g[i])],_,rfl,zX (Y.trans (yG hp _)) a1,?_,?_,?_⟩
   ·rw[yB];simp
   ·intro q B;rw[<- cQ8,cQw]at B;rcases B with B|B
    ·exact(h3 q B).keep λa N e=>wT M _ _ (jD hp _ _ e)
    ·rw[bY9.mp B];exact⟨xi,yi,wT M _ _ yB,ix,iy,aJO J C⟩
   ·rw[cXc,W,cQU,bYR J];rfl
  ·rintro G I ⟨D,kk,rfl,Y,R,h3,W⟩;have e1:g.take ((ys.length:Nat):Int).toNat=g:=by rw[cQt,ly,cQP]
   rw[e1]at W;have e2:=vI W;refine⟨xV (c++D),?_,c++D,some (.ref a),some (.ref b),kk,rfl,Y,R,h3,rfl,?_⟩
   ·rw[y8,y8,e2];simp[xV,Z]
   ·rw[y8,e2];omega
 |tup g=>
  unfold Is at hx hy;obtain⟨a,N,rfl,ha,X⟩:=hx;obtain⟨b,ys,rfl,hb,S⟩:=hy;have lx:=X.length;have ly:=S.length;have a2:=L _ _ ha;have O:=L _ _ hb;have b5:zK g+1<=50000:=by
   have:Dt.size (.tup g)=1+zK g:=by simp[Dt.size]
   omega
  have b7:g.length<=zK g:=uY g;have C:nbs g=true:=by unfold nb at C;exact C
  refine⟨_,p1,AB,AD,_,_,_,rfl,CW yB,.tup (j _ _ O),zC _,zS _,_,rfl,onT rfl ?_⟩;refine⟨_,rfl,_,AB,_,_,rfl,.tup (j _ _ a2),zC _,_,rfl,_,AB,_,_,rfl,.tup (j _ _ O),zC _,rfl,_,rfl,onF rfl ?_⟩;refine⟨_,rfl,_,AD,_,_,rfl,.tup (j _ _ a2),zS _,_,rfl,_,AD,_,_,rfl,.tup (j _ _ O),zS _,rfl,_,rfl,onF rfl ?_⟩;refine⟨_,rfl,a,_,rfl,.inr (CW (j _ _ a2)),_,rfl,b,_,rfl,.inr (CW (j _ _ O)),rfl,_,rfl,onF (by simp[lx,ly]) ?_⟩;refine⟨_,rfl,b,_,rfl,.inr (CW (j _ _ O)),_,rfl,by omega,by omega,?_⟩;have Z:Dt.size (.tup g)=1+zK g:=by simp[Dt.size]
  generalize c3:upd H2 p1 (.tup [.ty AB,.ty AD])=H3 at j ⊢;refine z7 (λi G I=>L2.Ez2 λ(D:List (Nat×Dt))(kk:Option V)=>G= [some v,some u,some (.ref t),some (.ref a),some (.ref b),kk]/\xC H0 I/\I t=some (.lst ((c++D).map λq=> .ref q.1))/\(∀q∈c++D,bJF H0 I q)/\D.map (·.2)=g.take i) ?_ ?_ ?_
  ·exact⟨[],k,rfl,L.trans j,by rw[cQV];exact j _ _ a0,λq B=>(a3 q (by simpa using B)).keep λa N e=>j _ _ e,rfl⟩
  ·rintro i G I hi ⟨D,kk,rfl,Y,R,h3,W⟩;have J:i<g.length:=by rw[<- ly];omega
   obtain⟨xi,ex,ix⟩:=X.get (bYR J);obtain⟨yi,ey,iy⟩:=S.get (bYR J);show aVw _ _ _ _;have sa:Sq K I a N:=Sq.same Y (.inr ha);have sb:Sq K I b ys:=Sq.same Y (.inr hb);refine⟨_,rfl,.inl ⟨rfl,_,CV R⟩,_,rfl,_,rfl,?_⟩;rw[cX2];refine sa.ix ex ⟨_,rfl,_,rfl,?_⟩;refine sb.ix ey ⟨z2,λp hp=>?_⟩;have c0:D.length=i:=by have:=congrArg cX0 W;simp at this;omega
   have c1:=jC c;have M:upd I p (.tup [xi,yi]) t=some (.lst ((c++D).map λq=> .ref q.1)):=by rw[yI (yJ R hp)];exact R
   refine⟨t,_,.ref p,rfl,rfl,M,zlt (by simp;omega),D++ [(p,g[i])],_,rfl,zX (Y.trans (yG hp _)) a1,?_,?_,?_⟩
   ·rw[yB];simp
   ·intro q B;rw[<- cQ8,cQw]at B;rcases B with B|B
    ·exact(h3 q B).keep λa N e=>wT M _ _ (jD hp _ _ e)
    ·rw[bY9.mp B];exact⟨xi,yi,wT M _ _ yB,ix,iy,aJO J C⟩
   ·rw[cXc,W,cQU,bYR J];rfl
  ·rintro G I ⟨D,kk,rfl,Y,R,h3,W⟩;have e1:g.take ((ys.length:Nat):Int).toNat=g:=by rw[cQt,ly,cQP]
   rw[e1]at W;have e2:=vI W;refine⟨xV (c++D),?_,c++D,some (.ref a),some (.ref b),kk,rfl,Y,R,h3,rfl,?_⟩
   ·rw[y8,y8,e2];simp[xV,Z]
   ·rw[y8,e2];omega
end
end Alike
namespace Alike
open PySem L2 PyProof.Rows
open Bk (Row Rows x2 xP Ans)
open Desk (xH vJ stV x0)
def vDt:V->Dt
 |.int n=> .int n
 |.str x=> .str x
 |_=> .non
def aJq(v:V):Prop:=v= .non\/(∃n,v= .int n)\/∃x,v= .str x
def aJq.is{H:Hp}{v:V}(h:aJq v):Is H v (vDt v):=by
 rcases h with rfl|⟨n,rfl⟩|⟨x,rfl⟩
 ·show Is H .non .non;unfold Is;rfl
 ·show Is H (.int n) (.int n);unfold Is;rfl
 ·show Is H (.str x) (.str x);unfold Is;rfl
def v9{H:Hp}:∀ {xs:List V},(∀v∈xs,aJq v)->zY H xs (xs.map vDt)
 |[],_=>by show zY H [] [];unfold zY;trivial
 |x::xs,h=>by show zY H (x::xs) (vDt x::xs.map vDt);unfold zY;exact⟨(h x bY7).is,v9 λv a=>h v (bY4 _ a)⟩
def wN{H:Hp}{α:Type}{F:V->α->Prop}{g:α->Dt}(b:∀v a,F v a->Is H v (g a)):∀ {vs:List V} {c:List α},cQH F vs c->zY H vs (c.map g)
 |_,_,.nil=>by show zY H [] [];unfold zY;trivial
 |_,_,.cons r t=>by rw[cQF];unfold zY;exact⟨b _ _ r,wN b t⟩
def bYE(v:V):nb (vDt v)=true:=by cases v<;> (unfold vDt;unfold nb;rfl)
def aQy{α:Type}{g:α->Dt}(h:∀a,nb (g a)=true):∀l:List α,nbs (l.map g)=true
 |[]=>by show nbs []=true;unfold nbs;rfl
 |a::l=>by rw[cQF];unfold nbs;rw[h a,aQy h l];rfl
def aWD(e:xP):∀v∈xH e,aJq v:=by cases e<;> simp[xH,aJq]
def aWj(r:Row):∀v∈stV r,aJq v:=by
 intro v a;unfold stV at a;simp only[bY1,List.mem_nil_iff,or_false]at a;rcases a with rfl|rfl|rfl|rfl|rfl|rfl
 ·exact .inr (.inr ⟨_,rfl⟩)
 ·exact .inr (.inl ⟨_,rfl⟩)
 ·exact .inr (.inr ⟨_,rfl⟩)
 ·exact .inr (.inl ⟨_,rfl⟩)
 ·cases r.link with
  |none=>exact .inl rfl
  |some j=>exact .inr (.inl ⟨_,rfl⟩)
 ·unfold Desk.X3;split
  ·exact .inl rfl
  ·exact .inr (.inr ⟨_,rfl⟩)
def aXm(e:xP):Dt:= .tup ((xH e).map vDt)
def jV:Ans->Dt
 |.num n=> .int n
 |.txt x=> .str x
 |.nums l=> .lst (l.map λi=> .int (i:Nat))
 |.txts l=> .lst (l.map .str)
 |.row r=> .tup ((stV r).map vDt)
def aQ3(r:Row):Dt:=if r.void then .str Au else .tup ((stV r).map vDt)
def aYd{H:Hp}{p:Nat}{xs:List V}(h:H p=some (.tup xs))(k:∀v∈xs,aJq v):Is H (.ref p) (.tup (xs.map vDt)):=by
 unfold Is;exact⟨p,xs,rfl,h,v9 k⟩
def bJZ{H:Hp}{p:Nat}{e:xP}(h:H p=some (.tup (xH e))):Is H (.ref p) (aXm e):=aYd h (aWD e)
def bJe{o:List Nat}{H:Hp}{a:Ans}{v:V}(h:vJ o H a v):Is H v (jV a):=by
 cases a with
 |num n=>show Is H v (.int n);unfold Is;exact h
 |txt x=>show Is H v (.str x);unfold Is;exact h
 |nums l=>
  obtain⟨p,e,_,q⟩:=h;show Is H v (.lst (l.map λi=> .int (i:Nat)));unfold Is;refine⟨p,_,e,q,?_⟩;have:=v9 (H:=H) (xs:=l.map λi=>V.int (i:Nat)) λv b=>by obtain⟨i,_,rfl⟩:=cQX.mp b;exact .inr (.inl ⟨_,rfl⟩)
  rw[cX4]at this;exact this
 |txts l=>
  obtain⟨p,e,_,q⟩:=h;show Is H v (.lst (l.map .str));unfold Is;refine⟨p,_,e,q,?_⟩;have:=v9 (H:=H) (xs:=l.map V.str) λv b=>by obtain⟨i,_,rfl⟩:=cQX.mp b;exact .inr (.inr ⟨_,rfl⟩)
  rw[cX4]at this;exact this
 |row r=>obtain⟨p,e,_,q⟩:=h;subst e;exact aYd q (aWj r)
def aVI{H:Hp}{r:Row}{v:V}(h:x0 H r v):Is H v (aQ3 r):=by
 unfold x0 at h;unfold aQ3;split
 ·rename_i e;rw[if_pos e]at h;unfold Is;exact h
 ·rename_i e;rw[if_neg e]at h;obtain⟨p,e,q⟩:=h;subst e;exact aYd q (aWj r)
def bWP(a:Ans):nb (jV a)=true:=by
 cases a with
 |num n=>show nb (.int n)=true;unfold nb;rfl
 |txt x=>show nb (.str x)=true;unfold nb;rfl
 |nums l=>show nb (.lst (l.map λi=> .int (i:Nat)))=true;unfold nb;exact aQy (λi=>by unfold nb;rfl) l
 |txts l=>show nb (.lst (l.map .str))=true;unfold nb;exact aQy (λi=>by unfold nb;rfl) l
 |row r=>show nb (.tup ((stV r).map vDt))=true;unfold nb;exact aQy bYE _
end Alike
namespace Alike
open PySem L2 PyProof.Rows
open Bk (Row Rows x2 xP Ans)
open Desk (xH vJ stV x0 Up Run)
def Q5:∀ (n:Nat)(l:List Nat),l.Nodup->(∀k∈l,k<n)->l.length<=n
 |0,l,_,h=>by
  cases l with
  |nil=>exact bYZ _
  |cons a r=>exact absurd (h a bY7) (cXE _)
 |n+1,l,nd,h=>by
  by_cases c:n∈l
  ·have:=Q5 n (l.erase n) (nd.erase n) λk b=>by
    have d:=(cVh nd).mp b;have e:=h k d.2;have f:=d.1;omega
   rw[cVi c]at this;omega
  ·have:=Q5 n l nd λk b=>by
    have e:=h k b;have f:k≠n:=λz=>c (by rw[<- z];exact b);omega
   omega
def vA{α:Type}{g:α->Dt}(h:∀a,(g a).size=1):∀l:List α,zK (l.map g)=l.length
 |[]=>by simp[zK]
 |a::l=>by rw[cQF];show(g a).size+zK (l.map g)=l.length+1;rw[h a,vA h l];omega
def aV4{α:Type}{g:α->Dt}{c:Nat}:∀ (l:List α),(∀a∈l,(g a).size<=c)->zK (l.map g)<=l.length*c
 |[],_=>by simp[zK]
 |a::l,h=>by rw[cQF,cQR,Nat.succ_mul];show(g a).size+zK (l.map g)<=_;have f:=h a bY7;have e:=aV4 l λb d=>h b (bY4 _ d);omega
def bQ3(v:V):(vDt v).size=1:=by cases v<;> simp[vDt,Dt.size]
def aK1(e:xP):(aXm e).size<=5:=by
 have h:(aXm e).size=1+zK ((xH e).map vDt):=by unfold aXm;simp[Dt.size]
 rw[h,vA bQ3];cases e<;> simp[xH]
def aKD(r:Row):(aQ3 r).size<=7:=by
 unfold aQ3;split
 ·simp[Dt.size]
 ·have h:Dt.size (.tup ((stV r).map vDt))=1+zK ((stV r).map vDt):=by simp[Dt.size]
  rw[h,vA bQ3];simp[stV]
def bWe{R:Rows}(t:Bk.jG R){k:Nat}:(Bk.thr R k).length<=R.length:=by
 obtain⟨d,o,c,b⟩:=Bk.J7 t k;refine Q5 _ _ (c.imp λ{x y} h z=>?_) λj a=>((b j).mp a).1;rw[z,Stree.vR]at h;cases h
def bWY{R:Rows}{S:List Int}{d:Int}{a:Bool}{l:List Nat}(h:Bk.aKM R S d a l):l.length<=R.length:=by
 refine Q5 _ _ (h.ord.imp λ{x y} h z=>?_) λj b=>((h.mem j).mp b).1;rw[z,Stree.wZ]at h;cases h
def aQz(l:List Nat):(jV (.nums l)).size=1+l.length:=by
 have h:(jV (.nums l)).size=1+zK (l.map λi=>Dt.int (i:Nat)):=by unfold jV;simp[Dt.size]
 rw[h,vA (λi=>by simp[Dt.size])]
def bQ7{t:Nat}{R j:Rows}{S l:List Int}{e:xP}{a:Ans}(h:x2 R S e a j l)(g:Bk.Y5 R)(f:Up t R S):(jV a).size<=t+7:=by
 have d:∀x:Str,(jV (.txt x)).size=1:=λx=>by unfold jV;simp[Dt.size]
 have b:∀n:Int,(jV (.num n)).size=1:=λn=>by unfold jV;simp[Dt.size]
 have m:=f.r;cases h<;> (try rw[d])<;> (try rw[b])<;> try omega
 case state hk hv=>
  rename_i k r;have h:(jV (.row r)).size=1+zK ((stV r).map vDt):=by unfold jV;simp[Dt.size]
  rw[h,vA bQ3];simp[stV]
 case thread hk hv=>
  rename_i k r;rw[aQz];have:=bWe g.tree (k:=k);omega
 case copies hk hv=>
  rename_i k r;have h:(jV (.txts r.copies)).size=1+zK (r.copies.map Dt.str):=by unfold jV;simp[Dt.size]
  rw[h,vA (λi=>by simp[Dt.size])];have:=f.c r (cQa hk);omega
 case letters=>
  rw[aQz];refine cQv (Nat.add_le_add_left (cQS _ _) 1) ?_;rw[cQL];omega
 case on h=>
  rw[aQz];have:=bWY h;omega
def aZ3:∀ (n:Nat) {c:List xP} {j:List Ans} {f:Rows} {i:List Int},c.length=n->(∀e∈c,Desk.Wf e)->Run [] [] c j f i->Up n f i/\Bk.Y5 f/\∀a∈j,(jV a).size<=n+7
 |0,c,j,f,i,hn,hw,h=>by
  rcases h.inv with⟨_,rfl,rfl,rfl⟩|⟨_,_,_,_,_,_,rfl,_⟩
  ·exact⟨⟨bYZ _,bYZ _,λr h=>by simp at h⟩,Bk.aXB,λa h=>by simp at h⟩
  ·simp at hn
 |n+1,c,j,f,i,hn,hw,h=>by
  rcases h.inv with⟨rfl,_⟩|⟨o,e,u,a,z,y,rfl,rfl,g,d⟩
  ·simp at hn
  ·obtain⟨l,m,v⟩:=aZ3 n (by simpa using hn) (λe p=>hw e (cXP _ p)) g;have k:=hw e (by simp);refine⟨l.done d,Bk.x2.book m (λs d w t q=>by subst q;exact k) d,λx b=>?_⟩;rcases cQw.mp b with b|b
   ·have:=v x b;omega
   ·rw[bY9.mp b];have:=bQ7 d m l;omega
end Alike
namespace Alike
open PySem L2 PyProof.Rows
open Law (xF)
abbrev aQP:Stmt:=xF BH
abbrev sAt:Stmt:=xF CT
inductive aV7(K:bYT)(vs:List V)(H:Hp)(Q:VK)(_:XK):Prop|mk(a:Nat)(ns:List Int)(k:Nat)(_:vs= [.ref a,.int (k:Int)])(_:SqL K H a (ns.map V.int))(_:Q (.int (ns.getD k 0)) H)
section
variable {K:bYT}
def bVO:yN [AX,AI] [AX,AI] (yH sAt):=scM
seal PE PA PS PSs PT in
def bVa(T:vK mg)(F:Fun K CT CT sAt f fd):xE P w K mg base CX0 1 f fd [AX,AI] (aV7 K):=by
 have l:=bVO;refine F.ok (k:=0) l (λj A outer s H m Q E n h=>?_);obtain⟨a,b,k,rfl,i,q⟩:=h;refine⟨_,(yC (y7 (yM vM (pv 1) (yQ yO rfl T.b_len xB (yA (pv 0) yD))) (yF (yP (yL yK (pv 0) (pv 1)))) yS) (yF (yP yE))),?_⟩;refine⟨_,rfl,_,rfl,a,_,rfl,.inl i,_,_,rfl,rfl,_,rfl,?_⟩;refine qC (λc=>?_) (λc=>?_)
 ·have d:=of_decide_eq_true c;have g:k<b.length:=by rw[bYW]at d;omega
  refine⟨_,rfl,_,rfl,a,_,_,.int (b.getD k 0),rfl,rfl,i,yT ?_,q⟩;simp[cQc,cQC,bYR g]
 ·have d:=of_decide_eq_false (Bool.eq_false_iff.mpr c);have g:¬k<b.length:=by rw[bYW]at d;omega
  have e:b.getD k 0=0:=by simp[cQC,cQs (show b.length<=k by omega)]
  rw[e]at q;exact q
end
def aJp(a H:Hp)(q:Nat×Dt):Prop:=∃x y,H q.1=some (.tup [x,y])/\Is a x q.2/\Is a y q.2
def aJp.keep{b H c:Hp}{q:Nat×Dt}(p:aJp b H q)(k:∀a d,H a=some (.tup d)->c a=some (.tup d)):aJp b c q:=let ⟨x,y,h,r⟩:=p;⟨x,y,k _ _ h,r⟩
inductive WUU(H0:Hp)(v u:V)(td:Nat)(m:Nat)(σ:L2.St)(H:Hp):Prop|mk(qs l r k)(_:σ= [some v,some u,some (.ref td),l,r,k])(_:xC H0 H)(_:H td=some (.lst (qs.map λq=> .ref q.1)))(_:(∀q∈qs,aJp H0 H q))(_:m=xV qs)(_:xV qs<=1000)
inductive aXy(vs:List V)(H:Hp)(Q:VK)(_:XK):Prop|mk(v u d)(_:vs= [v,u])(_:Is H v d)(_:Is H u d)(_:d.size<=1000)(_:∀H',xC H H'->Q (.bl true) H')
section
variable {K:bYT}
def aVr:yN [AV,Aw,"_law_todo","_law_left","_law_right",AI] [AV,Aw] (yH aQP):=scM
seal PE PA PS PSs PT in
def aJZ(T:vK mg)(F:Fun K BH BH aQP f fd):xE P w K mg base CX0 1 f fd [AV,Aw] aXy:=by
 have sc:=aVr;refine F.ok (k:=0) sc (λc7 A outer s H0 vs Q E hr h=>?_);obtain⟨v,u,d,rfl,hv,hu,hd,q⟩:=h;refine⟨_,(yC (yU (i:=2) (y6 (yA (xG (yA (pv 0) (yA (pv 1) yD))) yD))) (yC (uD cQG (yM (vS hr.units0) (pv 2) (y6 yD)) (yC (vF (aYW cQh cJy cJz aYw (pv 2)) (aZW rfl (zE (y9 (i:=3)) (zE (y9 (i:=4)) aQH)))) (yF (y7 (xZ (yQ qU rfl T.b_isinstance yZ (yA (pv 4) (yA (xG (yA (xS (v:= .ty AB) rfl T.b_list z6 rfl) (yA (xS (v:= .ty AD) rfl T.b_tuple wV rfl) yD))) yD)))) (yC (y7 (yM Y1 (yQ zA rfl T.b_isinstance yZ (yA (pv 3) (yA (xS (v:= .ty AB) rfl T.b_list z6 rfl) yD))) (yQ zA rfl T.b_isinstance yZ (yA (pv 4) (yA (xS (v:= .ty AB) rfl T.b_list z6 rfl) yD)))) (yF (yP wQ)) yS) (yC (y7 (PW.pt (jX (vG (xZ (yQ qU rfl T.b_isinstance yZ (yA (pv 3) (yA (xG (yA (xS (v:= .ty AB) rfl T.b_list z6 rfl) (yA (xS (v:= .ty AD) rfl T.b_tuple wV rfl) yD))) yD))))) (vU (yM Y1 (yQ yO rfl T.b_len xB (yA (pv 3) yD)) (yQ yO rfl T.b_len xB (yA (pv 4) yD)))))) (yF (yP wQ)) yS) (yF (zT cQG rfl (zL rfl T.b_range (yA (yQ yO rfl T.b_len xB (yA (pv 4) yD)) yD)) (y9 (i:=5)) (yF (yY (vN cQh cQo cQp xD (pv 2) (yA (xG (yA (yL aVJ (pv 3) (pv 5)) (yA (yL aVJ (pv 4) (pv 5)) yD))) yD)))))))) (yF (y7 (PW.pt (jX (yM aXs (pv 3) x6) (vU (yM aXs (pv 4) x6)))) (yF (y7 (PW.pt (jX (yM wA (pv 3) x6) (vU (yM wA (pv 4) x6)))) (yF (yP wQ)) yS)) (yF (y7 (yM Y1 (yQ zA rfl T.b_isinstance yZ (yA (pv 3) (yA (xS (v:= .ty Aj) rfl T.b_bool aJx rfl) yD))) (yQ zA rfl T.b_isinstance yZ (yA (pv 4) (yA (xS (v:= .ty Aj) rfl T.b_bool aJx rfl) yD)))) (yF (yP wQ)) (yF (y7 (yM Y1 (yQ zA rfl T.b_isinstance yZ (yA (pv 3) (yA (xS (v:= .ty Ap) rfl T.b_str aZr rfl) yD))) (yQ zA rfl T.b_isinstance yZ (yA (pv 4) (yA (xS (v:= .ty Ap) rfl T.b_str aZr rfl) yD)))) (yF (yP wQ)) (yF (y7 (PW.pt (jX (vG (xZ (yQ qU rfl T.b_isinstance yZ (yA (pv 3) (yA (xG (yA (xS (v:= .ty Ap) rfl T.b_str aZr rfl) (yA (xS (v:= .ty Ao) rfl T.b_int uS rfl) yD))) yD))))) (vU (yM Y1 (pv 3) (pv 4))))) (yF (yP wQ)) yS)))))))))))) (yF (yP wQ)))),?_⟩;refine⟨_,rfl,_,rfl,z2,λp0 b4=>⟨z1,λj b5=>?_⟩⟩;have a3:H0 j=none:=(yG b4 _).fresh b5;refine⟨WUU H0 v u j,⟨d.size,[(p0,d)],none,none,none,rfl,zX (yG b4 _) a3,yB,?_,by simp[xV],by simpa[xV]using hd⟩,?_⟩
 ·intro q t;rw[bY9.mp t];exact⟨v,u,jD b5 _ _ yB,hv,hu⟩
 rintro m σ H ⟨qs,l,r,k,rfl,hk,hT,hP,rfl,a7⟩;refine⟨_,rfl,z0,λpn a6=>?_⟩;have c2:pn≠j:=cQB (yJ hT a6);have a5:upd H pn (.lst []) j=some (.lst (qs.map λq=> .ref q.1)):=by rw[yI (cQB c2)];exact hT
 refine⟨j,pn,_,rfl,rfl,CV a5,CV yB,_,rfl,?_⟩;by_cases b3:qs= []
 ·subst b3;rw[if_neg (by decide)];exact q _ (hk.trans (yG a6 _))
 obtain⟨c,⟨lp,d⟩,rfl⟩:=aZb b3;rw[if_pos (by simp)];refine⟨λC D=>∃m',m'<xV (c++ [(lp,d)])/\WUU H0 v u j m' C D,λC D z=>z,?_⟩;obtain⟨x,y,b9,R,N⟩:=hP (lp,d) (by simp);have b0:((c++ [(lp,d)]).map λq=>V.ref q.1)[((c++ [(lp,d)]).map λq=>V.ref q.1).length - 1]? =some (.ref lp):=by simp
 have a9:((c++ [(lp,d)]).map λq=>V.ref q.1).dropLast=c.map λq=>V.ref q.1:=by simp
 have b1:∀a O,H a=some (.tup O)->upd (upd H pn (.lst [])) j (.lst (c.map λq=>V.ref q.1)) a=some (.tup O):=λa O e=>wT a5 _ _ (jD a6 _ _ e);refine⟨_,rfl,.inl ⟨rfl,_,CV a5⟩,j,_,.ref lp,rfl,rfl,a5,b0,?_⟩;rw[a9];have J:xC H0 (upd (upd H pn (.lst [])) j (.lst (c.map λq=>V.ref q.1))):=zX (hk.trans (yG a6 _)) a3;have a1:upd (upd H pn (.lst [])) j (.lst (c.map λq=>V.ref q.1)) j=some (.lst (c.map λq=> .ref q.1)):=yB;have a4:∀q∈c,aJp H0 (upd (upd H pn (.lst [])) j (.lst (c.map λq=>V.ref q.1))) q:=λq t=>(hP q (by simp[t])).keep b1;have a8:=b1 _ _ b9;generalize c4:upd (upd H pn (.lst [])) j (.lst (c.map λq=>V.ref q.1))=H2 at J a1 a4 a8 ⊢;refine⟨lp,[x,y],rfl,CW a8,rfl,x,[y],rfl,y,[],rfl,rfl,?_⟩;have c6:1<=d.size:=by cases d<;> simp[Dt.size]
 have c5:xV c+d.size<=1000:=by rw[y8]at a7;simpa[xV]using a7
 have hm:xV c<xV (c++ [(lp,d)]):=by rw[y8];simp[xV];omega
 have fin:∀H3,(∀b o,H2 b=some o->H3 b=some o)->∃m',m'<xV (c++ [(lp,d)])/\WUU H0 v u j m' [some v,some u,some (.ref j),some x,some y,k] H3:=λH3 k3=>
  ⟨xV c,hm,c,some x,some y,k,rfl,J.trans k3,k3 _ _ a1,λq t=>(a4 q t).keep λa O e=>k3 _ _ e,rfl,by omega⟩
 refine⟨_,rfl,z2,λp1 b8=>?_⟩;have S:xC H2 (upd H2 p1 (.tup [.ty AB,.ty AD])):=yG b8 _;cases d with
 |non=>
  have ex:x= .non:=by unfold Is at R;exact R
  have ey:y= .non:=by unfold Is at N;exact N
  subst ex;subst ey;refine⟨_,p1,AB,AD,_,_,_,rfl,CW yB,.non,uM _,vY _,_,rfl,onF rfl ?_⟩;refine⟨_,rfl,rfl,_,rfl,onT rfl (onT rfl ?_)⟩;refine⟨_,rfl,rfl,_,rfl,onF rfl ?_⟩;refine⟨_,rfl,rfl,_,rfl,onF rfl ?_⟩;exact fin _ S
 |bl b=>
  have ex:x= .bl b:=by unfold Is at R;exact R
  have ey:y= .bl b:=by unfold Is at N;exact N
  subst ex;subst ey;refine⟨_,p1,AB,AD,_,_,_,rfl,CW yB,.bl b,aZH _,aXL _,_,rfl,onF rfl ?_⟩;refine⟨_,rfl,rfl,_,rfl,onF rfl ?_⟩;refine⟨_,rfl,rfl,_,rfl,onF rfl ?_⟩;refine⟨_,rfl,_,Aj,_,_,rfl,.bl b,W1 _,_,rfl,_,Aj,_,_,rfl,.bl b,W1 _,rfl,_,rfl,onF rfl ?_⟩;refine⟨_,rfl,_,Ap,_,_,rfl,.bl b,qH _,_,rfl,_,Ap,_,_,rfl,.bl b,qH _,rfl,_,rfl,onF rfl ?_⟩;refine⟨_,rfl,z2,λZ G=>?_⟩;refine⟨_,Z,Ap,Ao,_,_,_,rfl,CW yB,.bl b,qH _,aJJ _,_,rfl,onF rfl ?_⟩;refine⟨_,rfl,_,rfl,rfl,_,rfl,onF (by simp) ?_⟩;exact fin _ (S.trans (yG G _))
 |int n=>
  have ex:x= .int n:=by unfold Is at R;exact R
  have ey:y= .int n:=by unfold Is at N;exact N
  subst ex;subst ey;refine⟨_,p1,AB,AD,_,_,_,rfl,CW yB,.int n,aQo _,W3 _,_,rfl,onF rfl ?_⟩;refine⟨_,rfl,rfl,_,rfl,onF rfl ?_⟩;refine⟨_,rfl,rfl,_,rfl,onF rfl ?_⟩;refine⟨_,rfl,_,Aj,_,_,rfl,.int n,qI _,_,rfl,_,Aj,_,_,rfl,.int n,qI _,rfl,_,rfl,onF rfl ?_⟩;refine⟨_,rfl,_,Ap,_,_,rfl,.int n,jL _,_,rfl,_,Ap,_,_,rfl,.int n,jL _,rfl,_,rfl,onF rfl ?_⟩;refine⟨_,rfl,z2,λZ G=>?_⟩;refine⟨_,Z,Ap,Ao,_,_,_,rfl,CW yB,.int n,jL _,aXp _,_,rfl,onF rfl ?_⟩;refine⟨_,rfl,_,rfl,rfl,_,rfl,onF (by simp) ?_⟩;exact fin _ (S.trans (yG G _))
 |str z=>
  have ex:x= .str z:=by unfold Is at R;exact R
  have ey:y= .str z:=by unfold Is at N;exact N
  subst ex;subst ey;refine⟨_,p1,AB,AD,_,_,_,rfl,CW yB,.str z,aQq _,W4 _,_,rfl,onF rfl ?_⟩;refine⟨_,rfl,rfl,_,rfl,onF rfl ?_⟩;refine⟨_,rfl,rfl,_,rfl,onF rfl ?_⟩;refine⟨_,rfl,_,Aj,_,_,rfl,.str z,aQp _,_,rfl,_,Aj,_,_,rfl,.str z,aQp _,rfl,_,rfl,onF rfl ?_⟩;refine⟨_,rfl,_,Ap,_,_,rfl,.str z,vZ _,_,rfl,_,Ap,_,_,rfl,.str z,vZ _,rfl,_,rfl,onF rfl ?_⟩;refine⟨_,rfl,z2,λZ G=>?_⟩;refine⟨_,Z,Ap,Ao,_,_,_,rfl,CW yB,.str z,vZ _,aWK _,_,rfl,onF rfl ?_⟩;refine⟨_,rfl,_,rfl,rfl,_,rfl,onF (by simp) ?_⟩;exact fin _ (S.trans (yG G _))
 |lst g=>
  unfold Is at R N;obtain⟨a,O,rfl,ha,Y⟩:=R;obtain⟨b,ys,rfl,hb,W⟩:=N;have lx:=Y.length;have ly:=W.length;have a2:=J _ _ ha;have b2:=J _ _ hb;have b6:zK g+1<=1000:=by
   have:Dt.size (.lst g)=1+zK g:=by simp[Dt.size]
   omega
  have b7:g.length<=zK g:=uY g;refine⟨_,p1,AB,AD,_,_,_,rfl,CW yB,.lst (S _ _ b2),x8 _,z8 _,_,rfl,onT rfl ?_⟩;refine⟨_,rfl,_,AB,_,_,rfl,.lst (S _ _ a2),x8 _,_,rfl,_,AB,_,_,rfl,.lst (S _ _ b2),x8 _,rfl,_,rfl,onF rfl ?_⟩;refine⟨_,rfl,z2,λZ G=>?_⟩;have I:=S.trans (yG G (.tup [.ty AB,.ty AD]));refine⟨_,Z,AB,AD,_,_,_,rfl,CW yB,.lst (I _ _ a2),x8 _,z8 _,_,rfl,onF rfl ?_⟩;refine⟨_,rfl,a,_,rfl,.inl (CV (I _ _ a2)),_,rfl,b,_,rfl,.inl (CV (I _ _ b2)),rfl,_,rfl,onF (by simp[lx,ly]) ?_⟩;refine⟨_,rfl,b,_,rfl,.inl (CV (I _ _ b2)),_,rfl,by omega,by omega,?_⟩;have a0:Dt.size (.lst g)=1+zK g:=by simp[Dt.size]
  generalize c3:upd (upd H2 p1 (.tup [.ty AB,.ty AD])) Z (.tup [.ty AB,.ty AD])=H3 at I ⊢;refine z7 (λi C D=>L2.Ez2 λ(B:List (Nat×Dt))(kk:Option V)=>C= [some v,some u,some (.ref j),some (.ref a),some (.ref b),kk]/\xC H0 D/\D j=some (.lst ((c++B).map λq=> .ref q.1))/\(∀q∈c++B,aJp H0 D q)/\B.map (·.2)=g.take i) ?_ ?_ ?_
  ·exact⟨[],k,rfl,J.trans I,by rw[cQV];exact I _ _ a1,λq t=>(a4 q (by simpa using t)).keep λa O e=>I _ _ e,rfl⟩
  ·rintro i C D hi ⟨B,kk,rfl,h1,U,h3,X⟩;have L:i<g.length:=by rw[<- ly];omega
   obtain⟨xi,ex,ix⟩:=Y.get (bYR L);obtain⟨yi,ey,iy⟩:=W.get (bYR L);show aVw _ _ _ _;have sa:Sq K D a O:=Sq.same h1 (.inl ha);have sb:Sq K D b ys:=Sq.same h1 (.inl hb);refine⟨_,rfl,.inl ⟨rfl,_,CV U⟩,_,rfl,_,rfl,?_⟩;rw[cX2];refine sa.ix ex ⟨_,rfl,_,rfl,?_⟩;refine sb.ix ey ⟨z2,λp hp=>?_⟩;have c0:B.length=i:=by have:=congrArg cX0 X;simp at this;omega
   have c1:=jC c;have M:upd D p (.tup [xi,yi]) j=some (.lst ((c++B).map λq=> .ref q.1)):=by rw[yI (yJ U hp)];exact U
   refine⟨j,_,.ref p,rfl,rfl,M,zlt (by simp;omega),B++ [(p,g[i])],_,rfl,zX (h1.trans (yG hp _)) a3,?_,?_,?_⟩
   ·rw[yB];simp
   ·intro q t;rw[<- cQ8,cQw]at t;rcases t with t|t
    ·exact(h3 q t).keep λa O e=>wT M _ _ (jD hp _ _ e)
    ·rw[bY9.mp t];exact⟨xi,yi,wT M _ _ yB,ix,iy⟩
   ·rw[cXc,X,cQU,bYR L];rfl
  ·rintro C D ⟨B,kk,rfl,h1,U,h3,X⟩;have e1:g.take ((ys.length:Nat):Int).toNat=g:=by rw[cQt,ly,cQP]
   rw[e1]at X;have e2:=vI X;refine⟨xV (c++B),?_,c++B,some (.ref a),some (.ref b),kk,rfl,h1,U,h3,rfl,?_⟩
   ·rw[y8,y8,e2];simp[xV,a0]
   ·rw[y8,e2];omega
 |tup g=>
  unfold Is at R N;obtain⟨a,O,rfl,ha,Y⟩:=R;obtain⟨b,ys,rfl,hb,W⟩:=N;have lx:=Y.length;have ly:=W.length;have a2:=J _ _ ha;have b2:=J _ _ hb;have b6:zK g+1<=1000:=by
   have:Dt.size (.tup g)=1+zK g:=by simp[Dt.size]
   omega
  have b7:g.length<=zK g:=uY g;refine⟨_,p1,AB,AD,_,_,_,rfl,CW yB,.tup (S _ _ b2),zC _,zS _,_,rfl,onT rfl ?_⟩;refine⟨_,rfl,_,AB,_,_,rfl,.tup (S _ _ a2),zC _,_,rfl,_,AB,_,_,rfl,.tup (S _ _ b2),zC _,rfl,_,rfl,onF rfl ?_⟩;refine⟨_,rfl,z2,λZ G=>?_⟩;have I:=S.trans (yG G (.tup [.ty AB,.ty AD]));refine⟨_,Z,AB,AD,_,_,_,rfl,CW yB,.tup (I _ _ a2),zC _,zS _,_,rfl,onF rfl ?_⟩;refine⟨_,rfl,a,_,rfl,.inr (CW (I _ _ a2)),_,rfl,b,_,rfl,.inr (CW (I _ _ b2)),rfl,_,rfl,onF (by simp[lx,ly]) ?_⟩;refine⟨_,rfl,b,_,rfl,.inr (CW (I _ _ b2)),_,rfl,by omega,by omega,?_⟩;have a0:Dt.size (.tup g)=1+zK g:=by simp[Dt.size]
  generalize c3:upd (upd H2 p1 (.tup [.ty AB,.ty AD])) Z (.tup [.ty AB,.ty AD])=H3 at I ⊢;refine z7 (λi C D=>L2.Ez2 λ(B:List (Nat×Dt))(kk:Option V)=>C= [some v,some u,some (.ref j),some (.ref a),some (.ref b),kk]/\xC H0 D/\D j=some (.lst ((c++B).map λq=> .ref q.1))/\(∀q∈c++B,aJp H0 D q)/\B.map (·.2)=g.take i) ?_ ?_ ?_
  ·exact⟨[],k,rfl,J.trans I,by rw[cQV];exact I _ _ a1,λq t=>(a4 q (by simpa using t)).keep λa O e=>I _ _ e,rfl⟩
  ·rintro i C D hi ⟨B,kk,rfl,h1,U,h3,X⟩;have L:i<g.length:=by rw[<- ly];omega
   obtain⟨xi,ex,ix⟩:=Y.get (bYR L);obtain⟨yi,ey,iy⟩:=W.get (bYR L);show aVw _ _ _ _;have sa:Sq K D a O:=Sq.same h1 (.inr ha);have sb:Sq K D b ys:=Sq.same h1 (.inr hb);refine⟨_,rfl,.inl ⟨rfl,_,CV U⟩,_,rfl,_,rfl,?_⟩;rw[cX2];refine sa.ix ex ⟨_,rfl,_,rfl,?_⟩;refine sb.ix ey ⟨z2,λp hp=>?_⟩;have c0:B.length=i:=by have:=congrArg cX0 X;simp at this;omega
   have c1:=jC c;have M:upd D p (.tup [xi,yi]) j=some (.lst ((c++B).map λq=> .ref q.1)):=by rw[yI (yJ U hp)];exact U
   refine⟨j,_,.ref p,rfl,rfl,M,zlt (by simp;omega),B++ [(p,g[i])],_,rfl,zX (h1.trans (yG hp _)) a3,?_,?_,?_⟩
   ·rw[yB];simp
   ·intro q t;rw[<- cQ8,cQw]at t;rcases t with t|t
    ·exact(h3 q t).keep λa O e=>wT M _ _ (jD hp _ _ e)
    ·rw[bY9.mp t];exact⟨xi,yi,wT M _ _ yB,ix,iy⟩
   ·rw[cXc,X,cQU,bYR L];rfl
  ·rintro C D ⟨B,kk,rfl,h1,U,h3,X⟩;have e1:g.take ((ys.length:Nat):Int).toNat=g:=by rw[cQt,ly,cQP]
   rw[e1]at X;have e2:=vI X;refine⟨xV (c++B),?_,c++B,some (.ref a),some (.ref b),kk,rfl,h1,U,h3,rfl,?_⟩
   ·rw[y8,y8,e2];simp[xV,a0]
   ·rw[y8,e2];omega
end
end Alike
namespace Alike
open PySem L2 PyProof.Rows
open Bk (Row Rows x2 xP Ans)
open Desk (xH vJ stV x0 Up Run zG Wf jB v6)
open Law (xF LGo LBk xA aXx uP)
open Thr (wF)
def aVG{H:Hp}{α:Type}{g:α->Dt}:∀ {vs:List V} {b:List α},vs.length=b.length->(∀ (i:Nat) v a,vs[i]? =some v->b[i]? =some a->Is H v (g a))->zY H vs (b.map g)
 |[],[],_,_=>by show zY H [] [];unfold zY;trivial
 |v::vs,a::b,hl,h=>by rw[cQF];unfold zY;exact⟨h 0 v a rfl rfl,aVG (by simpa using hl) λi v a d c=>h (i+1) v a d c⟩
 |[],_::_,hl,_=>by simp at hl
 |_::_,[],hl,_=>by simp at hl
def aZD{H:Hp}{p:Nat}{vs:List V}{ds:List Dt}(h:H p=some (.lst vs))(k:zY H vs ds):Is H (.ref p) (.lst ds):=by
 unfold Is;exact⟨p,vs,rfl,h,k⟩
def aVH{H:Hp}{ds:Nat}{a:List Nat}{f:List xP}(h:zG H ds a f):Is H (.ref ds) (.lst (f.map aXm)):=
 aZD h.1 (aVG (by rw[bYW];exact h.2.1) λi v e b g=>by
  rw[cQc]at b;cases c:a[i]? with
  |none=>rw[c]at b;cases b
  |some d=>
   rw[c]at b;cases b;exact bJZ (h.2.2 i d e c g))
def bWQ{α:Type}{g:α->Dt}(h:∀a,nb (g a)=true)(l:List α):nb (.lst (l.map g))=true:=by unfold nb;exact aQy h l
def aX8{α:Type}{g:α->Dt}{c n:Nat}{l:List α}(h:∀a∈l,(g a).size<=c)(hl:l.length<=n):Dt.size (.lst (l.map g))<=1+n*c:=by
 have d:Dt.size (.lst (l.map g))=1+zK (l.map g):=by simp[Dt.size]
 have b:=aV4 l h;have e:l.length*c<=n*c:=Nat.mul_le_mul_right _ hl;omega
def Run.cut:∀ (n:Nat) {R c:Rows} {S b:List Int} {d fs:List xP} {cs:List Ans},fs.length=n->Run R S (d++fs) cs c b->∃f bs j i,cs=f++bs/\Run R S d f j i/\Run j i fs bs c b
 |0,R,c,S,b,d,fs,cs,hn,h=>by have e:fs= []:=cXG hn;subst e;rw[cQV]at h;exact⟨cs,[],c,b,by rw[cQV],h,.nil⟩
 |n+1,R,c,S,b,d,fs,cs,hn,h=>by
  obtain⟨x,g,rfl⟩:=aZb (l:=fs) (by intro z;rw[z]at hn;cases hn);rcases Desk.Run.inv h with⟨z,_⟩|⟨l,e,o,a,j,i,k,m,u,w⟩
  ·rw[<- cQ8]at z;simp at z
  ·rw[<- cQ8]at k;obtain⟨v,r⟩:=cZ2 k rfl;cases r;subst v;obtain⟨f,bs,R2,q,p,s,t⟩:=Run.cut n (by simpa using hn) u;exact⟨f,bs++ [a],R2,q,by rw[m,p,cQ8],s,.snoc t w⟩
abbrev aJ9:Stmt:=xF BP
abbrev aX0:Stmt:=xF B1
inductive aV8(vs:List V)(H:Hp)(Q:VK)(_:XK):Prop|mk(ds:Nat)(das:List Nat)(es:List xP)(_:vs= [.ref ds])(_:zG H ds das es)(_:es.length<=60)(_:(∀e∈es,Wf e))(_:∀ (t ra sa:Nat)(H':Hp)(rs:List Nat)(as:List Ans),LGo H ra sa es as H' rs->H' t=some (.tup [.ref ra,.ref sa])->Q (.ref t) H')
inductive aJf(vs:List V)(H:Hp)(Q:VK)(_:XK):Prop|mk(ra:Nat)(rs:List Nat)(R:Rows)(_:vs= [.ref ra])(_:xA H ra rs R)(_:R.length<=60)(_:∀ (d:Nat)(H':Hp)(ws:List V),xC H H'->H d=none->H' d=some (.lst ws)->cQH (λv r=>x0 H' r v) ws R->Q (.ref d) H')
section
variable {K:bYT}
def bQt:yN [Av,A0,AF,AH] [Av] (yH aJ9):=scM
seal PE PA PS PSs PT in
def aYG(a:FnG P w K mg base n As [A0,AF,AH] aXx)(F:Fun K BP BP aJ9 f fd):xE P w K mg base CX0 (n+1) f fd [Av] aV8:=by
 have S:=bQt;refine F.ok (k:=n) S (λO A outer s M Y Q E U h=>?_);obtain⟨J,m,o,rfl,p,hl,H,q⟩:=h;refine⟨_,(yC (yU (i:=1) (y6 yD)) (yC (yU (i:=2) (y6 yD)) (yC (zT cQG rfl (xL (pv 0)) (y9 (i:=3)) (yF (yY (xJ a U rfl (yA (pv 1) (yA (pv 2) (yA (pv 3) yD))))))) (yF (yP (xG (yA (pv 1) (yA (pv 2) yD)))))))),?_⟩;refine⟨z0,λy I=>?_⟩;dsimp only[yW];refine⟨z0,λz D=>?_⟩;dsimp only[yW];have G:=LGo.start I D;generalize upd (upd M y (.lst [])) z (.lst [])=H6 at G ⊢;refine⟨_,rfl,J,rfl,⟨_,CV (G.keep _ _ p.1)⟩,?_⟩;refine zJ (xs:=m.map V.ref) (λt σ B=>L2.Ez3 λ(e:List Nat)(c:List Ans)(r:Option V)=>σ= [some (.ref J),some (.ref y),some (.ref z),r]/\LGo M y z (o.take t) c B e) ?_ ?_ ?_ ?_
 ·exact⟨[],[],none,rfl,G⟩
 ·rintro t σ B N ⟨e,c,r,rfl,g⟩;exact CV (g.keep _ _ p.1)
 ·rintro t x σ B j ⟨e,c,r,rfl,g⟩;rw[cQc]at j;cases u:m[t]? with
  |none=>rw[u]at j;cases j
  |some d=>
   rw[u]at j;cases j;have l:t<o.length:=by rw[<- p.2.1];exact(bY3.mp u).1
   have L:=bYR l;dsimp only[yW];refine⟨_,rfl,_,rfl,_,rfl,g.step (H _ (cXX l)) (by rw[cXb];omega) (g.keep _ _ (p.2.2 t d _ u L)) λb v Z C R st W X=>?_⟩;have T:o.take (t+1)=o.take t++ [o[t]]:=by rw[cQU,L];rfl
   exact⟨C,c++ [b],_,rfl,by rw[T];exact R⟩
 rintro σ B ⟨e,c,r,rfl,g⟩;rw[bYW,p.2.1,cQP]at g;dsimp only[aJh];refine⟨_,rfl,_,rfl,z2,λt N=>?_⟩;exact q t y z _ e c (g.same (yG N _)) yB
def aKx:yN [A0,"_law_made","_law_row"] [A0] (yH aX0):=scM
seal PE PA PS PSs PT in
def aKc(T:vK mg)(F:Fun K B1 B1 aX0 f fd):xE P w K mg base CX0 1 f fd [A0] aJf:=by
 have sc:=aKx;refine F.ok (k:=0) sc (λa7 A outer s H7 vs Q E hr h=>?_);obtain⟨ra,rs,R,rfl,G,a9,q⟩:=h;refine⟨_,(yC (yU (i:=1) (y6 yD)) (yC (zT cQG rfl (xL (pv 0)) (y9 (i:=2)) (yF (yY (vN cQh cQo cQp xD (pv 1) (yA (yL yK (y6 (yA (x5 qV rfl T.b_tuple wV (yA (Q6 aX9 (pv 2) aJ3 (aQI yE)) yD)) (yA yR yD))) (x5 vC rfl T.b_int uS (yA (yL yK (pv 2) yE) yD))) yD))))) (yF (yP (pv 1))))),?_⟩;refine⟨z0,λn u=>?_⟩;dsimp only[yW];have k8:=yG u (.lst []);refine⟨_,rfl,ra,rfl,⟨_,CV (k8 _ _ G.lst)⟩,?_⟩;refine zJ (xs:=rs.map V.ref) (λt σ g=>L2.Ez2 λ(m:List V)(N:Option V)=>σ= [some (.ref ra),some (.ref n),N]/\xC H7 g/\g n=some (.lst m)/\cQH (λv r=>x0 g r v) m (R.take t)) ?_ ?_ ?_ ?_
 ·exact⟨[],none,rfl,k8,yB,.nil⟩
 ·rintro t σ g ht ⟨m,N,rfl,B,c,d⟩;exact CV (B _ _ G.lst)
 ·rintro t x σ g C ⟨m,N,rfl,B,c,d⟩;rw[cQc]at C;cases S:rs[t]? with
  |none=>rw[S]at C;cases C
  |some b=>
   rw[S]at C;cases C;have Z:t<R.length:=by rw[<- G.len];exact(bY3.mp S).1
   have L:=bYR Z;obtain⟨l,e1,e2⟩:=G.row t b _ S L;have b9:g b=some (.lst (uP R[t] l)):=B _ _ e1;have a8:m.length=t:=by rw[cXA d,cXb];omega
   dsimp only[yW];refine⟨_,rfl,.inl ⟨rfl,_,CV c⟩,_,rfl,_,rfl,b,_,rfl,CV b9,λM X=>⟨M,_,rfl,.inl ⟨CV yB,λj a6=>⟨z2,λO Y=>?_⟩⟩⟩⟩;have a2:=yG X (.lst (Z6 (uP R[t] l) none (some 6)));have a3:=yG a6 (.tup (Z6 (uP R[t] l) none (some 6)));have a4:=yG Y (.lst [.ref j,.str Au]);have y:=(a2.trans a3).trans a4;have D:=a4 _ _ (yB (H:=upd g M (.lst (Z6 (uP R[t] l) none (some 6)))) (a:=j) (o:= .tup (Z6 (uP R[t] l) none (some 6))));have e4:upd (upd (upd g M (.lst (Z6 (uP R[t] l) none (some 6)))) j (.tup (Z6 (uP R[t] l) none (some 6)))) O (.lst [.ref j,.str Au]) O=some (.lst [.ref j,.str Au]):=yB;generalize upd (upd (upd g M (.lst (Z6 (uP R[t] l) none (some 6)))) j (.tup (Z6 (uP R[t] l) none (some 6)))) O (.lst [.ref j,.str Au])=H10 at y D e4 ⊢;have W:=y _ _ b9;have a1:atI [V.ref j,V.str Au] (if R[t].void=true then 1 else 0)=some (if R[t].void=true then .str Au else .ref j):=by cases R[t].void<;> rfl
   refine⟨_,rfl,b,_,6,_,rfl,rfl,CV W,rfl,.inr ⟨_,rfl,O,_,_,_,rfl,rfl,CV e4,a1,n,_,_,rfl,rfl,y _ _ c,zlt (by omega),?_⟩⟩;have J:H7 n=none:=u;have a0:∀I,xC H7 (upd H10 n (.lst I)):=λI x o e=>by rw[yI (yJ e J)];exact y _ _ (B _ _ e)
   have tk:∀ {x zs I},g x=some (.tup zs)->upd H10 n (.lst I) x=some (.tup zs):=λ{x zs I} e=>by rw[yI (λz=>by rw[z,c]at e;cases e)];exact y _ _ e
   refine⟨m++ [if R[t].void=true then .str Au else .ref j],_,rfl,a0 _,yB,?_⟩;have et:R.take (t+1)=R.take t++ [R[t]]:=by rw[cQU,L];rfl
   rw[et];refine cZP (Desk.jW (λv r z=>?_) d) ?_
   ·unfold x0 at z ⊢;split
    ·rename_i e;rw[if_pos e]at z;exact z
    ·rename_i e;rw[if_neg e]at z;obtain⟨p,e,q⟩:=z;exact⟨p,e,tk q⟩
   ·unfold x0;cases hv:R[t].void with
    |true=>exact rfl
    |false=>
     have a5:Z6 (uP R[t] l) none (some 6)=stV R[t]:=by unfold stV Desk.Q1 Desk.X3;rw[hv];cases U:R[t].link<;> (unfold uP;rw[U];rfl)
     rw[a5]at D;refine⟨j,rfl,?_⟩;rw[yI (λz=>by rw[z,y _ _ c]at D;cases D)];exact D
 rintro σ g ⟨m,N,rfl,B,c,d⟩;rw[bYW,G.len,cQP]at d;exact⟨_,rfl,q n g m B u c d⟩
end
end Alike
namespace Alike
open PySem L2 PyProof.Rows
open Bk (Row Rows x2 xP Ans)
open Desk (xH vJ stV x0 Up Run zG Wf jB v6)
open Law (xF LGo LBk xA aZd uP)
open Thr (wF)
def bJM(ns:List Int)(a b:Option Int):∃ms:List Int,Z6 (ns.map V.int) a b=ms.map V.int/\ms.length<=HT.sIx ns.length ns.length b - HT.sIx ns.length 0 a:=by
 refine⟨(ns.drop (HT.sIx ns.length 0 a)).take (HT.sIx ns.length ns.length b - HT.sIx ns.length 0 a),?_,?_⟩
 ·unfold Z6;rw[bYW,List.map_take,List.map_drop]
 ·rw[cXb];exact Nat.min_le_left _ _
def aKV(ns:List Int)(a b:Nat):∃c:List Int,Z6 (ns.map V.int) (some (a:Int)) (some (b:Int))=c.map V.int/\c.length<=b - a:=by
 obtain⟨c,e,d⟩:=bJM ns (some (a:Int)) (some (b:Int));refine⟨c,e,cQv d ?_⟩;rw[aVd,aVd];omega
def bXc(xs:List V)(m:Nat):Z6 xs (some (m:Int)) none=xs.drop m:=by
 unfold Z6;rw[HT.bZj,aVd];by_cases h:m<=xs.length
 ·rw[Nat.min_eq_left h,List.take_of_length_le (by rw[List.length_drop];exact bYZ _)]
 ·rw[Nat.min_eq_right (by omega),List.drop_of_length_le (bYZ _),List.drop_of_length_le (by omega)];simp
def bW1{α β:Type}{F:α->β->Prop}:∀ {xs:List α} {d bs:List β},cQH F xs (d++bs)->∃b c,xs=b++c/\cQH F b d/\cQH F c bs
 |xs,[],bs,h=>⟨[],xs,rfl,.nil,h⟩
 |x::xs,a::d,bs,.cons h1 h2=>by obtain⟨b,c,e,f,g⟩:=bW1 h2;exact⟨x::b,c,by rw[e];rfl,.cons h1 f,g⟩
def aZu{H:Hp}{das a:List Nat}{es b:List xP}(g:das.length=es.length)(k:∀ (i:Nat)(d:Nat)(e:xP),das[i]? =some d->es[i]? =some e->H d=some (.tup (xH e))) (j:a.length=b.length) (h:∀ (i:Nat)(d:Nat)(e:xP),a[i]? =some d->b[i]? =some e->H d=some (.tup (xH e))) {p:Nat} (m:H p=some (.lst (das.map V.ref++a.map V.ref))):zG H p (das++a) (es++b):=by
 refine⟨by rw[cXc];exact m,by rw[cQf,cQf,g,j],λi d e c f=>?_⟩;by_cases l:i<das.length
 ·rw[cQz l]at c;rw[cQz (by omega)]at f;exact k i d e c f
 ·rw[cQi (by omega)]at c f;rw[g]at c;exact h _ d e c f
structure Has(K:bYT)(Tb a ds ra sa:Nat)(ns:List Int)(das:List Nat)(es:List xP)(rs:List Nat)(R:Rows)(S:List Int)(H:Hp):Prop where
 s:SqL K H a (ns.map V.int)
 d:zG H ds das es
 b:xA H ra rs R
 sh:H sa=some (.lst (S.map V.int))
 t:wF Tb H
def bWy{H H':Hp}{ra:Nat}{rs:List Nat}{R:Rows}(h:xA H ra rs R)(k:x3 H H'):xA H' ra rs R:=
 ⟨k.lst h.lst,h.len,h.nd,λi b r c a=>let ⟨cp,e1,e2⟩:=h.row i b r c a;⟨cp,k.lst e1,k.lst e2⟩⟩
section
variable {K:bYT}{Tb a ds ra sa:Nat}{ns:List Int}{das:List Nat}{es:List xP}{rs:List Nat}{R:Rows}{S:List Int}{H H':Hp}
def Has.sameT(h:Has K Tb a ds ra sa ns das es rs R S H)(k:x3 H H')(t:wF Tb H'):Has K Tb a ds ra sa ns das es rs R S H':=
 ⟨k.seq h.s,h.d.same k,bWy h.b k,k.lst h.sh,t⟩
def Has.same(h:Has K Tb a ds ra sa ns das es rs R S H)(k:xC H H'):Has K Tb a ds ra sa ns das es rs R S H':=h.sameT k.t (Desk.jS h.t k)
end
def OnE(R:Rows)(S:List Int)(e:xP)(l:List Nat):Prop:=∃a d,e= .on a d/\Bk.aKM R S d a l
def aVY{R i:Rows}{S g:List Int}:∀ (n:Nat) {fs:List xP} {bs:List Ans},fs.length=n->(∀e∈fs,∃b d,e= .on b d)->Run R S fs bs i g->i=R/\g=S/\∃c,bs=c.map .nums/\cQH (OnE R S) fs c
 |0,fs,bs,hn,hf,h=>by
  rcases Desk.Run.inv h with⟨rfl,rfl,rfl,rfl⟩|⟨_,_,_,_,_,_,rfl,_⟩
  ·exact⟨rfl,rfl,[],rfl,.nil⟩
  ·simp at hn
 |n+1,fs,bs,hn,hf,h=>by
  rcases Desk.Run.inv h with⟨rfl,rfl,rfl,rfl⟩|⟨l,e,j,a,r,q,rfl,rfl,m,o⟩
  ·simp at hn
  ·obtain⟨rfl,rfl,c,rfl,p⟩:=aVY n (by simpa using hn) (λe f=>hf e (by simp[f])) m;obtain⟨b,d,rfl⟩:=hf e (by simp);cases o with
   |on k=>exact⟨rfl,rfl,c++ [_],by rw[cXc];rfl,cZP p ⟨b,d,rfl,k⟩⟩
   |oneN _ f=>rcases f with z|⟨_,z⟩|⟨_,z⟩|⟨_,z⟩|⟨_,z⟩|z|z|z|z<;> cases z
def aYR{R:Rows}{S:List Int}:∀ {fs:List xP} {ls a:List (List Nat)},cQH (OnE R S) fs ls->cQH (OnE R S) fs a->ls=a
 |_,_,_,.nil,.nil=>rfl
 |_,_,_,.cons ⟨late,d,e,h⟩ r,.cons ⟨late',d',e',h'⟩ r'=>by rw[e]at e';cases e';rw[h.uniq h',aYR r r']
end Alike
namespace Alike
open PySem L2 PyProof.Rows
open Bk (Row Rows x2 xP Ans)
open Desk (xH vJ stV x0 Up Run zG Wf jB v6)
open Law (xF LGo LBk xA aZd uP aQd aWI aJI bJp md0 md1)
open Thr (wF)
def uK:List Int->List xP
 |[]=> []
 |d::r=> .on false d:: .on true d::uK r
def aQh:∀ (xs:List Int)(d:Int),uK (xs++ [d])=uK xs++ [.on false d,.on true d]
 |[],d=>rfl
 |x::r,d=>by show _::_::uK (r++ [d])=_;rw[aQh r d];rfl
def aJs:∀ (xs:List Int),∀e∈uK xs,∃a d,e= .on a d
 |[],e,h=>nomatch h
 |x::r,e,h=>by
  rcases bY1.mp h with rfl|h
  ·exact⟨_,_,rfl⟩
  ·rcases bY1.mp h with rfl|h
   ·exact⟨_,_,rfl⟩
   ·exact aJs r e h
def jH:∀xs:List Int,(uK xs).length=2*xs.length
 |[]=>rfl
 |x::r=>by show(uK r).length+1+1=_;rw[jH r,cQR];omega
def aVA(a:Nat)(H:Hp)(v:V)(l:List Nat):Prop:=∃p,v= .ref p/\p≠a/\H p=some (.lst (l.map λi=>V.int (i:Nat)))
abbrev bK7:Stmt:=xF "law"
def bZL(d:Nat)(K:bYT):Sp:=λe H Q _=>∃ (a:Nat)(b:List Int),e= [.ref a]/\SqL K H a (b.map V.int)/\b.length<=63/\wF d H/\∀c,Q (.bl true) c
section
variable {K:bYT}
def bKf:yN [AX,Av,A0,AF,"_law_handed",AV,CK,AI,"_law_asks",AK,"_law_told",Aw] [AX] (yH bK7):=scM
seal PE PA PS PSs PT in
def bWW(T:vK mg)(a4:FnG P w K mg base n Bp [AN] aZd)(b0:FnG P w K mg base n C0 [AX,C5,Bs] (bJu K))(Z:FnG P w K mg base n BP [Av] aV8) (M:FnG P w K mg base n B1 [A0] aJf) (C:FnG P w K mg base n BH [AV,Aw] aXy) (a0:FnG P w K mg base n CT [AX,AI] (aV7 K)) (a9:FnG P w K mg base n Bq [AV,Aw] bQI) (J:FnG P w K mg base n B3 [A0,AF,AK,BA] aQd) (Y:FnG P w K mg base n Az [Bm] (jB Rf)) (O:FnG P w K mg base n CJ [Bm] (v6 Rf)) (F:Fun K "law" "law" bK7 f fd):xE P w K mg base CX0 (n+1) f fd [AX] (bZL Rf.2 K):=by
 have sc:=bKf;refine F.ok (k:=n) sc (λl7 A outer s H0 vs Q E N h=>?_);obtain⟨a,ns,rfl,hS,j0,hT,q⟩:=h;refine⟨_,(yC (yU (i:=1) (yL yX (xJ a4 N rfl (yA (Q6 aX9 (pv 0) (aQI yE) (aQI (yV x9 yE (xJ b0 N rfl (yA (pv 0) (yA yE (yA yE yD))))))) yD)) yE)) (yC (vF (xJ Z N rfl (yA (pv 1) yD)) (aZW rfl (zE (y9 (i:=2)) (zE (y9 (i:=3)) aQH)))) (yC (yU (i:=4) (x5 uT rfl T.b_list z6 (yA (pv 1) yD))) (yC (yU (i:=5) (xJ O N rfl (yA (pv 4) yD))) (yC (y7 (vG (xZ (xJ C N rfl (yA (pv 4) (yA (pv 1) yD))))) (yF (yP wQ)) yS) (yC (y7 (vG (xZ (xJ C N rfl (yA (pv 5) (yA (xJ M N rfl (yA (pv 2) yD)) yD))))) (yF (yP wQ)) yS) (yC (yU (i:=6) (y6 yD)) (yC (zT cQG rfl (zL rfl T.b_range (yA yE yD)) (y9 (i:=7)) (yF (yY (vN cQh cQo cQp xD (pv 6) (yA (yV wU (yV y0 (xJ a0 N rfl (yA (pv 0) (yA (pv 7) yD))) yE) yE) yD))))) (yC (y7 (PW.pt (vT (yM (vS N.units0) (pv 2) (y6 yD)) (wR (yM zI (yV y0 (xJ a0 N rfl (yA (pv 0) (yA yE yD))) yE) yE)))) (yF (vF (yV x9 (yL yK (yL yK (pv 2) (yV y0 (xJ a0 N rfl (yA (pv 0) (yA yE yD))) (yQ yO rfl T.b_len xB (yA (pv 2) yD)))) yE) (yV y0 (xJ a0 N rfl (yA (pv 0) (yA yE yD))) yE)) (qE (pv 6) yE zV))) yS) (yC (yU (i:=8) (y6 yD)) (yC (zT cQG rfl (xL (pv 6)) (y9 (i:=9)) (yF (yU (i:=8) (yV aZT (pv 8) (y6 (yA (xG (yA yR (yA (pv 9) yD))) (yA (xG (yA yR (yA (pv 9) yD))) yD))))))) (yC (yU (i:=10) (xJ Y N rfl (yA (yV aZT (pv 1) (pv 8)) yD))) (yC (y7 (PW.pt (jX (vG (xZ (yQ zA rfl T.b_isinstance yZ (yA (pv 10) (yA (xS (v:= .ty AB) rfl T.b_list z6 rfl) yD))))) (vU (yM Y1 (yQ yO rfl T.b_len xB (yA (pv 10) yD)) (yV x9 (yQ yO rfl T.b_len xB (yA (pv 1) yD)) (yQ yO rfl T.b_len xB (yA (pv 8) yD))))))) (yF (yP wQ)) yS) (yC (yU (i:=11) (y6 yD)) (yC (zT cQG rfl (xL (pv 6)) (y9 (i:=9)) (yC (yY (vN cQh cQo cQp xD (pv 11) (yA (xJ J N rfl (yA (pv 2) (yA (pv 3) (yA (pv 9) (yA wQ yD))))) yD))) (yF (yY (vN cQh cQo cQp xD (pv 11) (yA (xJ J N rfl (yA (pv 2) (yA (pv 3) (yA (pv 9) (yA wQ yD))))) yD)))))) (yF (yP (xJ a9 N rfl (yA (Q6 aX9 (pv 10) (aQI (yQ yO rfl T.b_len xB (yA (pv 1) yD))) aJ3) (yA (pv 11) yD)))))))))))))))))))),?_⟩;refine⟨_,rfl,_,rfl,_,rfl,a,ns,20,60,rfl,hS,j0,_,_,rfl,rfl,_,rfl,a,_,rfl,hS,λp hp=>?_⟩;obtain⟨ms,i8,j9⟩:=aKV ns 3 23;have k0:=yG hp (.lst (Z6 (ns.map V.int) (some 3) (some (3+20))));refine⟨p,ms,rfl,yB.trans (congrArg (λz=>some (HO.lst z)) i8),by omega,λH1 t ds us y es vs as R S k1 ht hD i0 hP a5 d0 j6=>?_⟩;have c9:es.length<=23:=by omega
 have d8:=(k0.trans k1).t.seq hS;have T1:=Desk.jS hT (k0.trans k1);refine⟨t,_,0,_,rfl,rfl,CW ht,rfl,?_⟩;dsimp only[yW];refine⟨_,rfl,ds,y,es,rfl,hD,by omega,d0,λt2 ra sa H2 rs cs g g2=>?_⟩;obtain⟨R2,S2,hL,g8,m0,f3⟩:=g.ex;obtain⟨rfl,rfl,rfl⟩:=Run.det es.length rfl a5 f3;have i7:R.length<=23:=cQv g8.r c9;have A2:Has K Rf.2 a ds ra sa ns y es rs R S H2:=⟨g.keep.t.seq d8,hD.same g.keep.t,hL.book,hL.shut,Desk.jS T1 g.keep⟩;clear hD i0 hP ht d8 T1 g hL k1;refine⟨t2,[.ref ra,.ref sa],rfl,CW g2,rfl,.ref ra,[.ref sa],rfl,.ref sa,[],rfl,rfl,?_⟩;dsimp only[yW];refine⟨_,rfl,ds,_,rfl,.inl (CV A2.d.1),λhl d9=>?_⟩;have k2:=yG d9 (.lst (y.map V.ref));have A3:=A2.same k2;have D3:zG (upd H2 hl (.lst (y.map V.ref))) hl y es:=⟨yB,A2.d.2.1,λi d e G U=>k2 _ _ (A2.d.2.2 i d e G U)⟩;generalize upd H2 hl (.lst (y.map V.ref))=H3 at A3 D3 ⊢;dsimp only[yW];refine⟨_,rfl,hl,y,es,rfl,D3,by omega,d0,A3.t,λl H4 ws bs R2 S2 k4 T4 f7 l0 f6 e9=>?_⟩;obtain⟨-,rfl, -⟩:=Run.det es.length rfl a5 f7;have A4:=A3.sameT k4 T4;have D4:=D3.same k4;dsimp only[yW];refine⟨_,rfl,_,rfl,.ref hl,.ref ds,.lst (es.map aXm),rfl,aVH D4,aVH A4.d,cQv (aX8 (n:=23) (c:=5) (λe _=>aK1 e) c9) (by decide),λH5 k5=>⟨_,rfl,onF rfl ?_⟩⟩;have A5:=A4.same k5;refine⟨_,rfl,_,rfl,ra,rs,R,rfl,A5.b,by omega,λd1 H6 l5 k6 l3 d7 f4=>?_⟩;have A6:=A5.same k6;refine⟨.ref l,.ref d1,.lst (R.map aQ3),rfl,aZD (k6 _ _ (k5 _ _ f6)) (wN (F:=λv r=>x0 H6 r v) (λv r z=>aVI z) (Desk.jW (λv r z=>(z.same k5.t).same k6.t) e9)),aZD d7 (wN (λv r z=>aVI z) f4),cQv (aX8 (n:=23) (c:=7) (λr _=>aKD r) i7) (by decide),λH7 k7=>⟨_,rfl,onF rfl ?_⟩⟩;have A7:=A6.same k7;clear A2 A3 A4 A5 A6 D3 D4 e9 f4 f6 d7 k4 k5 k6 k7 k2 d9 g2;refine⟨z0,λda c4=>?_⟩;dsimp only[yW];have k8:=yG c4 (.lst []);refine⟨_,rfl,by decide,by decide,?_⟩;refine z7 (n:=3) (λt σ H=>L2.Ez2 λ(B:List Int)(o7:Option V)=>σ= [some (.ref a),some (.ref ds),some (.ref ra),some (.ref sa),some (.ref hl),some (.ref l),some (.ref da),o7,none,none,none,none]/\xC H7 H/\H da=some (.lst (B.map V.int))/\B.length=t) ?_ ?_ ?_
 ·exact⟨[],none,rfl,k8,yB,rfl⟩
 ·rintro i σ H hi ⟨B,o7,rfl,k9,hx,a2⟩;rw[cX2];dsimp only[yW];refine⟨_,rfl,.inl ⟨rfl,_,CV hx⟩,_,rfl,_,rfl,a,ns,i,rfl,k9.t.seq A7.s,_,_,rfl,rfl,(show(0:Int)<34 by decide),_,_,rfl,rfl,da,_,_,rfl,rfl,hx,zlt (by rw[bYW];omega),?_⟩;exact⟨B++ [ns.getD i 0 % 34 - 2],_,rfl,λx o e=>by rw[yI (yJ e c4)];exact k9 _ _ e,by rw[yB,cXc];rfl,by rw[cQf,a2];rfl⟩
 rintro σ H8 ⟨d6,o7,rfl,k9,f9,a6⟩;dsimp only[aJh];refine zF (λσ' H'=>∃B:List Int,σ'= [some (.ref a),some (.ref ds),some (.ref ra),some (.ref sa),some (.ref hl),some (.ref l),some (.ref da),o7,none,none,none,none]/\xC H7 H'/\H' da=some (.lst (B.map V.int))/\B.length=3) ?jY (λb6=>?_);case jY=>
  rintro σ' H9 ⟨B,rfl,D,hx,a2⟩;have A9:=A7.same D;refine⟨z0,λq0 j1=>?_⟩;dsimp only[yW];have g6:=yG j1 (.lst []);refine⟨_,rfl,da,rfl,⟨_,CV (g6 _ _ hx)⟩,?_⟩;refine zJ (xs:=B.map V.int) (λt σ H=>L2.Ez3 λ(qa:Nat)(I:List Nat)(o9:Option V)=>σ= [some (.ref a),some (.ref ds),some (.ref ra),some (.ref sa),some (.ref hl),some (.ref l),some (.ref da),o7,some (.ref qa),o9,none,none]/\xC H9 H/\zG H qa I (uK (B.take t))) ?_ ?_ ?_ ?_
  ·exact⟨q0,[],none,rfl,g6,yB,rfl,λi d e h=>by simp at h⟩
  ·rintro t σ H ht ⟨qa,I,o9,rfl,a3,hq⟩;exact CV (a3 _ _ hx)
  ·rintro t x σ H L ⟨qa,I,o9,rfl,a3,hq⟩;rw[cQc]at L;cases hd:B[t]? with
   |none=>rw[hd]at L;cases L
   |some d=>
    rw[hd]at L;cases L;have i5:t<B.length:=(bY3.mp hd).1;have et:B.take (t+1)=B.take t++ [d]:=by rw[cQU,hd];rfl
    have d4:I.length=2*t:=by rw[hq.2.1,jH,cXb];omega
    dsimp only[yW];refine⟨_,rfl,_,rfl,z2,λp1 c7=>⟨_,rfl,z2,λp2 b9=>⟨z2,λl2 c3=>?_⟩⟩⟩;have b1:=yG c7 (.tup [.str AS,.int d]);have b2:=yG b9 (.tup [.str AT,.int d]);have b3:=yG c3 (.lst [.ref p1,.ref p2]);have c1:=b3 _ _ (b2 _ _ (yB (H:=H) (a:=p1) (o:= .tup [.str AS,.int d])));have c2:=b3 _ _ (yB (H:=upd H p1 (.tup [.str AS,.int d])) (a:=p2) (o:= .tup [.str AT,.int d]));have bb:=(b1.trans b2).trans b3;refine⟨qa,l2,_,_,rfl,rfl,bb _ _ hq.1,yB,by rw[bYW,d4,cQr];simp;omega,λp3 h7=>?_⟩;have b4:=yG h7 (.lst (I.map V.ref++ [.ref p1,.ref p2]));refine⟨p3,I++ [p1,p2],_,rfl,a3.trans (bb.trans b4),?_⟩;rw[et,aQh];refine aZu hq.2.1 (λi d' e G U=>b4 _ _ (bb _ _ (hq.2.2 i d' e G U))) rfl (λi d' e G U=>?_) yB;match i,G,U with
    |0,G,U=>cases G;cases U;exact b4 _ _ c1
    |1,G,U=>cases G;cases U;exact b4 _ _ c2
    |i+2,G,U=>cases G
  rintro σ h5 ⟨qa,I,o9,rfl,a3,hq⟩;rw[bYW,cQP]at hq;have X:=A9.same a3;have g1:=a3 _ _ hx;dsimp only[aJh];have d4:I.length=6:=by rw[hq.2.1,jH,a2]
  have j7:y.length<=23:=by rw[X.d.2.1];exact c9
  refine⟨_,rfl,_,rfl,ds,qa,_,_,rfl,rfl,X.d.1,hq.1,by rw[bYW,bYW,cQr];omega,λp1 c7=>?_⟩;have b1:=yG c7 (.lst (y.map V.ref++I.map V.ref));have h0:=aZu X.d.2.1 (λi d e G U=>b1 _ _ (X.d.2.2 i d e G U)) hq.2.1 (λi d e G U=>b1 _ _ (hq.2.2 i d e G U)) (yB (H:=h5) (a:=p1) (o:= .lst (y.map V.ref++I.map V.ref)));have e7:∀e∈es++uK B,Wf e:=λe he=>by
   rcases cQw.mp he with z|z
   ·exact d0 e z
   ·obtain⟨j5,d,rfl⟩:=aJs B e z;exact cXg
  have j3:(es++uK B).length<=29:=by rw[cQf,jH,a2];omega
  refine⟨p1,y++I,es++uK B,rfl,h0,by omega,e7,(X.same b1).t,λm c5 k3 m1 R' S' d3 h9 a8 j4 hm f2=>?_⟩;obtain⟨_,_,i4⟩:=aZ3 _ rfl e7 a8;obtain⟨j8,l4,R1,S1,rfl,a7,c8⟩:=Run.cut _ rfl a8;obtain⟨-,rfl,rfl⟩:=Run.det es.length rfl a5 a7;obtain⟨-, -,ls,rfl,c0⟩:=aVY _ rfl (aJs B) c8;obtain⟨ys,zs,rfl,f1,b8⟩:=bW1 f2;have b5:=(X.same b1).sameT d3 h9;have b7:=d3.lst (b1 _ _ g1);have d5:=hq.same (b1.t.trans d3);have f8:ys.length=y.length:=by rw[cXA f1,<- a7.len,X.d.2.1]
  have h6:zs.length=6:=by rw[cXA b8,bYW,<- cXA c0,jH,a2]
  dsimp only[yW];refine⟨_,rfl,_,AB,_,_,rfl,.lst hm,x8 _,_,rfl,onF rfl ?_⟩;refine⟨_,rfl,m,_,rfl,.inl (CV hm),_,rfl,ds,_,rfl,.inl (CV b5.d.1),_,rfl,qa,_,rfl,.inl (CV d5.1),_,_,rfl,rfl,rfl,_,rfl,onF ?_ ?_⟩
  ·rw[cQf,bYW,bYW,f8,h6,d4];simp
  refine⟨z0,λdu f5=>?_⟩;dsimp only[yW];have f0:=yG f5 (.lst []);refine⟨_,rfl,da,rfl,⟨_,CV (f0 _ _ b7)⟩,?_⟩;refine zJ (xs:=B.map V.int) (λt σ H=>L2.Ez3 λ(us:List V)(ks:List (List Nat))(o9:Option V)=>σ= [some (.ref a),some (.ref ds),some (.ref ra),some (.ref sa),some (.ref hl),some (.ref l),some (.ref da),o7,some (.ref qa),o9,some (.ref m),some (.ref du)]/\xC c5 H/\H du=some (.lst us)/\us.length=2*t/\cQH (aVA du H) us ks/\cQH (OnE R S) (uK (B.take t)) ks) ?_ ?_ ?_ ?_
  ·exact⟨[],[],_,rfl,f0,yB,rfl,.nil,.nil⟩
  ·rintro t σ H ht ⟨us,ks,o9,rfl,W,G,U,h3,h4⟩;exact CV (W _ _ b7)
  ·rintro t x σ H L ⟨us,ks,o9,rfl,W,G,U,h3,h4⟩;rw[cQc]at L;cases hd:B[t]? with
   |none=>rw[hd]at L;cases L
   |some d=>
    rw[hd]at L;cases L;have i5:t<B.length:=(bY3.mp hd).1;have et:B.take (t+1)=B.take t++ [d]:=by rw[cQU,hd];rfl
    have e0:=b5.same W;dsimp only[yW];have one:∀ (H:Hp)(us:List V)(ks:List (List Nat))(l:List Nat)(r:Nat)(H':Hp),xC c5 H->H du=some (.lst us)->cQH (aVA du H) us ks->xC H H'->H r=none->H' r=some (.lst (l.map λi=>V.int (i:Nat)))->
      xC c5 (upd H' du (.lst (us++ [.ref r])))/\cQH (aVA du (upd H' du (.lst (us++ [.ref r])))) (us++ [.ref r]) (ks++ [l]):=λH us ks l r H' k G h3 k' N hl=>by
     refine⟨λx o e=>by rw[yI (yJ e f5)];exact k' _ _ (k _ _ e),cZP (Desk.jW (λv l z=>?_) h3) ⟨r,rfl,(λz=>by rw[z,G]at N;cases N),?_⟩⟩
     ·obtain⟨p,e,n,q⟩:=z;exact⟨p,e,n,by rw[yI n];exact k' _ _ q⟩
     ·rw[yI (λz=>by rw[z,G]at N;cases N)];exact hl
    refine⟨_,rfl,.inl ⟨rfl,_,CV G⟩,_,rfl,_,rfl,_,rfl,ra,sa,rs,R,S,d,false,rfl,e0.b,e0.sh,by omega,λr1 l9 l1 a1 i9 i6 i2=>⟨du,_,_,rfl,rfl,a1 _ _ G,zlt (by omega),?_⟩⟩;obtain⟨e1,e2⟩:=one _ _ _ _ _ _ W G h3 a1 i9 i6;have e8:=b5.same e1;refine⟨_,rfl,.inl ⟨rfl,_,CV yB⟩,_,rfl,_,rfl,_,rfl,ra,sa,rs,R,S,d,true,rfl,e8.b,e8.sh,by omega,λr2 l6 l2 e6 i1 c3 g7=>⟨du,_,_,rfl,rfl,e6 _ _ yB,zlt (by rw[cQf];simp;omega),?_⟩⟩;obtain⟨e3,e4⟩:=one _ _ _ _ _ _ e1 yB e2 e6 i1 c3;refine⟨_,_,_,rfl,e3,yB,by simp;omega,e4,?_⟩;rw[et,aQh];have e5:=cZP (cZP h4 ⟨false,d,rfl,i2⟩) (⟨true,d,rfl,g7⟩:OnE R S (.on true d) l2);rw[cQ8]at e5;exact e5
  rintro σ g0 ⟨us,ks,l8,rfl,W,G,U,h3,h4⟩;rw[bYW,cQP]at h4;obtain rfl:=aYR c0 h4;dsimp only[aJh];have g9:=b5.same W;refine⟨_,rfl,_,rfl,ds,_,rfl,.inl (CV g9.d.1),_,rfl,m,_,rfl,CV (W _ _ hm),λp2 b9=>?_⟩;have a1:=yG b9 (.lst (Z6 (ys++zs) (some ((y.map V.ref).length:Nat)) none));have e1:Z6 (ys++zs) (some ((y.map V.ref).length:Nat)) none=zs:=by rw[bXc,bYW,<- f8,List.drop_left]
  refine⟨_,rfl,.ref p2,.ref du,.lst (ls.map λl=>jV (.nums l)),rfl,aZD (yB.trans (by rw[e1])) ?_,aZD (a1 _ _ G) ?_,bWQ (λl=>bWP (.nums l)) _,cQv (aX8 (n:=6) (c:=40) (λl hl=>?_) (by rw[<- cXA c0,jH,a2];decide)) (by decide),λj2 _=>q j2⟩
  ·have e2:=wN (F:=λv a=>vJ [] (upd g0 p2 (.lst (Z6 (ys++zs) (some ((y.map V.ref).length:Nat)) none))) a v) (λv a z=>bJe z) (Desk.jW (λv a z=>Law.qS z λp u n e=>⟨n,a1 _ _ (W _ _ e)⟩) b8);rw[cX4]at e2;exact e2
  ·exact wN (F:=λv l=>aVA du (upd g0 p2 (.lst (Z6 (ys++zs) (some ((y.map V.ref).length:Nat)) none))) v l) (λv l z=>by obtain⟨p,rfl,_,e⟩:=z;exact bJe (a:= .nums l) (o:= []) ⟨p,rfl,(λz=>nomatch z),e⟩) (Desk.jW (λv l z=>by obtain⟨p,e,n,z⟩:=z;exact⟨p,e,n,a1 _ _ z⟩) h3)
  ·have:=i4 (.nums l) (cQg _ (List.mem_map_of_mem hl));omega
 have A8:=A7.same k9;refine aJI (λb H'=>xC H8 H'/\(b=true->R≠ [])) ?_ ?_ ?_
 ·intro Kk hK;refine⟨_,rfl,z0,λpn g5=>⟨ra,pn,_,rfl,rfl,CV ((yG g5 (.lst [])) _ _ A8.b.lst),CV yB,_,rfl,?_⟩⟩;have D:=yG g5 (.lst []);refine qC (λc=>?_) (λc=>hK _ _ ⟨D,λz=>nomatch z⟩);refine⟨_,rfl,a,ns,0,rfl,D.t.seq A8.s,_,_,rfl,rfl,(show(0:Int)<7 by decide),rfl,_,rfl,hK _ _ ⟨D,λ_ z=>?_⟩⟩;have e:=A8.b.len;rw[z]at e;rw[cXG e]at c;simp at c
 ·rintro H9 ⟨D,d2⟩;have d2:=d2 rfl;have A9:=A8.same D;have h8:=D _ _ f9;have c6:(0:Int)<((rs.map V.ref).length:Nat):=by
   rw[bYW,A9.b.len];have:=cQ6.mpr d2;omega
  refine⟨_,rfl,_,rfl,a,ns,1,rfl,A9.s,_,rfl,ra,_,rfl,.inl (CV A9.b.lst),_,_,rfl,rfl,c6,?_⟩;refine aWI rfl rfl (CV A9.b.lst) (md0 c6) (md1 c6) λv hv=>?_;obtain⟨b,hb,rfl⟩:=cQX.mp hv;obtain⟨j,hj,ej⟩:=List.mem_iff_getElem.mp hb;have i3:j<R.length:=by rw[<- A9.b.len];exact hj
  obtain⟨cp,g3,g4⟩:=A9.b.row j b R[j] (by rw[bYR hj,ej]) (bYR i3);refine⟨b,_,1,_,rfl,rfl,CV g3,rfl,_,rfl,a,ns,2,rfl,A9.s,_,_,rfl,rfl,(show(0:Int)<9 by decide),_,_,rfl,rfl,_,rfl,da,_,0,0,rfl,rfl,h8,?_,?_⟩
  ·rw[bYW,a6];rfl
  ·refine b6 _ _ ⟨d6.set 0 (R[j].date+ns.getD 2 0 % 9),rfl,λx o e=>by rw[yI (yJ e c4)];exact D _ _ (k9 _ _ e),by rw[yB,List.map_set],by rw[List.length_set];exact a6⟩
 ·rintro H9 ⟨D,_⟩;exact b6 _ _ ⟨d6,rfl,k9.trans D,D _ _ f9,a6⟩
end
end Alike
namespace Desk
open PySem L2 PyProof.Rows
section
variable {K:bYT}
abbrev aQR:Stmt:=xI Ai AE
def aKj:yN [A1,AG] [A1,AG] (yH aQR):=scM
def aWY(F:Fun K AE "Refused.__init__" aQR f fd):xE P w K mg base CX0 (n+1) f fd [A1,AG] (wS K):=by
 have d:=aKj;refine F.ok (k:=n) d (λb A outer s H j Q E l h=>?_);obtain⟨e,C,tp,y,rfl,g,i,q⟩:=h;refine⟨_,(yF (bW4 (pv 0) (pv 1) rfl)),?_⟩;exact⟨_,rfl,_,rfl,e,C,tp,rfl,g,i,λc a=>q c a⟩
abbrev Z1:Stmt:=xI "NoLetter" AE
def aVi:yN [A1] [A1] (yH Z1):=scM
def aJQ(a:aWo P w K mg base n Ai AE [A1,AG] (wS K))(j:v8 K C)(F:Fun K AE "NoLetter.__init__" Z1 f fd):xE P w K mg base CX0 (n+1) f fd [A1] (wH K C "no letter"):=by
 have g:=aVi;refine F.ok (k:=n) g (λc A outer s H m Q E l h=>?_);obtain⟨e,tp,rfl,i,q⟩:=h;refine⟨_,(yF (yY (u4 a l rfl (yA (pv 0) (yA yR yD))))),?_⟩;exact⟨_,rfl,e,C,tp,_,rfl,i,j,λd b=>q d b⟩
abbrev aX5:Stmt:=xI "NoTerm" AE
def bQr:yN [A1] [A1] (yH aX5):=scM
def aYE(a:aWo P w K mg base n Ai AE [A1,AG] (wS K))(j:v8 K C)(F:Fun K AE "NoTerm.__init__" aX5 f fd):xE P w K mg base CX0 (n+1) f fd [A1] (wH K C "no term"):=by
 have g:=bQr;refine F.ok (k:=n) g (λc A outer s H m Q E l h=>?_);obtain⟨e,tp,rfl,i,q⟩:=h;refine⟨_,(yF (yY (u4 a l rfl (yA (pv 0) (yA yR yD))))),?_⟩;exact⟨_,rfl,e,C,tp,_,rfl,i,j,λd b=>q d b⟩
abbrev aX4:Stmt:=xI "HasOne" AE
def bQq:yN [A1] [A1] (yH aX4):=scM
def aYD(a:aWo P w K mg base n Ai AE [A1,AG] (wS K))(j:v8 K C)(F:Fun K AE "HasOne.__init__" aX4 f fd):xE P w K mg base CX0 (n+1) f fd [A1] (wH K C "has one"):=by
 have g:=bQq;refine F.ok (k:=n) g (λc A outer s H m Q E l h=>?_);obtain⟨e,tp,rfl,i,q⟩:=h;refine⟨_,(yF (yY (u4 a l rfl (yA (pv 0) (yA yR yD))))),?_⟩;exact⟨_,rfl,e,C,tp,_,rfl,i,j,λd b=>q d b⟩
abbrev aQQ:Stmt:=xI "HasNone" AE
def aKi:yN [A1] [A1] (yH aQQ):=scM
def aWX(a:aWo P w K mg base n Ai AE [A1,AG] (wS K))(j:v8 K C)(F:Fun K AE "HasNone.__init__" aQQ f fd):xE P w K mg base CX0 (n+1) f fd [A1] (wH K C "has none"):=by
 have g:=aKi;refine F.ok (k:=n) g (λc A outer s H m Q E l h=>?_);obtain⟨e,tp,rfl,i,q⟩:=h;refine⟨_,(yF (yY (u4 a l rfl (yA (pv 0) (yA yR yD))))),?_⟩;exact⟨_,rfl,e,C,tp,_,rfl,i,j,λd b=>q d b⟩
abbrev qN:Stmt:=xI "OwnThread" AE
def aZ5:yN [A1] [A1] (yH qN):=scM
def aZQ(a:aWo P w K mg base n Ai AE [A1,AG] (wS K))(j:v8 K C)(F:Fun K AE "OwnThread.__init__" qN f fd):xE P w K mg base CX0 (n+1) f fd [A1] (wH K C "own thread"):=by
 have g:=aZ5;refine F.ok (k:=n) g (λc A outer s H m Q E l h=>?_);obtain⟨e,tp,rfl,i,q⟩:=h;refine⟨_,(yF (yY (u4 a l rfl (yA (pv 0) (yA yR yD))))),?_⟩;exact⟨_,rfl,e,C,tp,_,rfl,i,j,λd b=>q d b⟩
abbrev aQS:Stmt:=xI "SameWay" AE
def aKk:yN [A1] [A1] (yH aQS):=scM
def aWZ(a:aWo P w K mg base n Ai AE [A1,AG] (wS K))(j:v8 K C)(F:Fun K AE "SameWay.__init__" aQS f fd):xE P w K mg base CX0 (n+1) f fd [A1] (wH K C "same way"):=by
 have g:=aKk;refine F.ok (k:=n) g (λc A outer s H m Q E l h=>?_);obtain⟨e,tp,rfl,i,q⟩:=h;refine⟨_,(yF (yY (u4 a l rfl (yA (pv 0) (yA yR yD))))),?_⟩;exact⟨_,rfl,e,C,tp,_,rfl,i,j,λd b=>q d b⟩
abbrev vV:Stmt:=xI "OtherPartner" AE
def aQ0:yN [A1] [A1] (yH vV):=scM
def aQA(a:aWo P w K mg base n Ai AE [A1,AG] (wS K))(j:v8 K C)(F:Fun K AE "OtherPartner.__init__" vV f fd):xE P w K mg base CX0 (n+1) f fd [A1] (wH K C "other partner"):=by
 have g:=aQ0;refine F.ok (k:=n) g (λc A outer s H m Q E l h=>?_);obtain⟨e,tp,rfl,i,q⟩:=h;refine⟨_,(yF (yY (u4 a l rfl (yA (pv 0) (yA yR yD))))),?_⟩;exact⟨_,rfl,e,C,tp,_,rfl,i,j,λd b=>q d b⟩
abbrev Z2:Stmt:=xI "TooEarly" AE
def aVj:yN [A1] [A1] (yH Z2):=scM
def aJR(a:aWo P w K mg base n Ai AE [A1,AG] (wS K))(j:v8 K C)(F:Fun K AE "TooEarly.__init__" Z2 f fd):xE P w K mg base CX0 (n+1) f fd [A1] (wH K C "too early"):=by
 have g:=aVj;refine F.ok (k:=n) g (λc A outer s H m Q E l h=>?_);obtain⟨e,tp,rfl,i,q⟩:=h;refine⟨_,(yF (yY (u4 a l rfl (yA (pv 0) (yA yR yD))))),?_⟩;exact⟨_,rfl,e,C,tp,_,rfl,i,j,λd b=>q d b⟩
abbrev aX3:Stmt:=xI "Copied" AE
def bQp:yN [A1] [A1] (yH aX3):=scM
def aYC(a:aWo P w K mg base n Ai AE [A1,AG] (wS K))(j:v8 K C)(F:Fun K AE "Copied.__init__" aX3 f fd):xE P w K mg base CX0 (n+1) f fd [A1] (wH K C CP):=by
 have g:=bQp;refine F.ok (k:=n) g (λc A outer s H m Q E l h=>?_);obtain⟨e,tp,rfl,i,q⟩:=h;refine⟨_,(yF (yY (u4 a l rfl (yA (pv 0) (yA yR yD))))),?_⟩;exact⟨_,rfl,e,C,tp,_,rfl,i,j,λd b=>q d b⟩
abbrev Z0:Stmt:=xI "Answered" AE
def aVh:yN [A1] [A1] (yH Z0):=scM
def aJP(a:aWo P w K mg base n Ai AE [A1,AG] (wS K))(j:v8 K C)(F:Fun K AE "Answered.__init__" Z0 f fd):xE P w K mg base CX0 (n+1) f fd [A1] (wH K C B2):=by
 have g:=aVh;refine F.ok (k:=n) g (λc A outer s H m Q E l h=>?_);obtain⟨e,tp,rfl,i,q⟩:=h;refine⟨_,(yF (yY (u4 a l rfl (yA (pv 0) (yA yR yD))))),?_⟩;exact⟨_,rfl,e,C,tp,_,rfl,i,j,λd b=>q d b⟩
abbrev qM:Stmt:=xI "CountsNot" AE
def aZ4:yN [A1] [A1] (yH qM):=scM
def aZP(a:aWo P w K mg base n Ai AE [A1,AG] (wS K))(j:v8 K C)(F:Fun K AE "CountsNot.__init__" qM f fd):xE P w K mg base CX0 (n+1) f fd [A1] (wH K C "counts not"):=by
 have g:=aZ4;refine F.ok (k:=n) g (λc A outer s H m Q E l h=>?_);obtain⟨e,tp,rfl,i,q⟩:=h;refine⟨_,(yF (yY (u4 a l rfl (yA (pv 0) (yA yR yD))))),?_⟩;exact⟨_,rfl,e,C,tp,_,rfl,i,j,λd b=>q d b⟩
end
end Desk
namespace End4
open PySem L2 PyProof.Rows
section
variable {K:bYT}{x m qual t:Str}{st:Stmt}{f C R CB CL:Nat}{oc:bYS}{od an:Option Nat}{osl:Array (Option bYS)}{kV doc pm cdv ct:bYS}
structure vW(K:bYT)(x:Str)(st:Stmt)(f:Nat):Prop where
 ns:cQN K cQq x=some (some (.ref f))
 ex:∃fd,Fun K x x st f fd
def Def(K:bYT)(x:Str)(st:Stmt):Prop:=∃f,vW K x st f
def xT(a:cQN K cQq x=some (some (.ref f)))(l:K.lookup f=some ⟨oc,od,.func (cQY x x (xX st) (xQ st) (yH st) .none kV doc pm an cdv ct),osl⟩)
  (c:cXB K cdv x=true) (k:cQO K (.ref f)=true):vW K x st f:=⟨a,_,aXn l c k⟩
def xM(a:cQN K cQq x=some (some (.ref f)))(l:K.lookup f=some ⟨oc,od,.func (cQY x x (xX st) (xQ st) (yH st) .none kV doc pm an cdv ct),osl⟩)
  (c:cXB K cdv x=true) (k:cQO K (.ref f)=true):Def K x st:=⟨f,xT a l c k⟩
structure Mtd(K:bYT)(C:Nat)(m qual:Str)(st:Stmt):Prop where
 ex:∃f fd,bWj K C m f/\Fun K m qual st f fd
def x4(a:cQE K (.ref C) m=some (some (.ref f)))(i:cZx K (.ref f)=true)(l:K.lookup f=some ⟨oc,od,.func (cQY m qual (xX st) (xQ st) (yH st) .none kV doc pm an cdv ct),osl⟩)
  (c:cXB K cdv qual=true) (k:cQO K (.ref f)=true):Mtd K C m qual st:=⟨f,_,⟨a,i,k⟩,aXn l c k⟩
structure MkD(K:bYT)(x:Str)(C:Nat)(qual:Str)(st:Stmt):Prop where
 ns:cQN K cQq x=some (some (.ref C))
 ex:∃f fd,Mk K C f/\Fun K "__init__" qual st f fd
def bJi(a:cQN K cQq x=some (some (.ref C)))(mk:PySem.W.makesIn K C=true)(b:cQO K (.ref C)=true)(d:cQE K (.ref C) "__init__"=some (some (.ref f)))(i:cZx K (.ref f)=true) (l:K.lookup f=some ⟨oc,od,.func (cQY "__init__" qual (xX st) (xQ st) (yH st) .none kV doc pm an cdv ct),osl⟩) (c:cXB K cdv qual=true) (k:cQO K (.ref f)=true):MkD K x C qual st:=
 ⟨a,f,_,⟨mk,d,i,b⟩,aXn l c k⟩
structure Exc(K:bYT)(R:Nat)(x qual:Str)(st:Stmt):Prop where
 ex:∃C f fd,cQN K cQq x=some (some (.ref C))/\v8 K C/\cZ7 K C (.ref R)=some true/\cQE K (.ref C) "__init__"=some (some (.ref f))/\cZx K (.ref f)=true/\cQO K (.ref C)=true/\Fun K "__init__" qual st f fd
def uV(a:cQN K cQq x=some (some (.ref C)))(e:bXk K C=true)(d:cZ7 K C (.ref R)=some true)(b:cQO K (.ref C)=true)(g:cQE K (.ref C) "__init__"=some (some (.ref f)))(i:cZx K (.ref f)=true) (l:K.lookup f=some ⟨oc,od,.func (cQY "__init__" qual (xX st) (xQ st) (yH st) .none kV doc pm an cdv ct),osl⟩) (c:cXB K cdv qual=true) (k:cQO K (.ref f)=true):Exc K R x qual st:=
 ⟨C,f,_,a,aK5 e,d,g,i,b,aXn l c k⟩
structure bKN(K:bYT)(x:Str)(R:Nat)(qual:Str)(st:Stmt):Prop where
 ns:cQN K cQq x=some (some (.ref R))
 cl:v8 K R
 ex:∃f fd,PySem.W.readsIn K R (.type "type")=true/\PySem.W.findCls K (.ref R) (.type "type") "__init__"=some (.val (.ref f))/\cJr K (.ref R) "__getattribute__"=some (some (.builtin "type.__getattribute__"))/\Fun K "__init__" qual st f fd
def bVA(a:cQN K cQq x=some (some (.ref R)))(e:bXk K R=true)(rd:PySem.W.readsIn K R (.type "type")=true)(b:PySem.W.findCls K (.ref R) (.type "type") "__init__"=some (.val (.ref f))) (sp:cJr K (.ref R) "__getattribute__"=some (some (.builtin "type.__getattribute__"))) (l:K.lookup f=some ⟨oc,od,.func (cQY "__init__" qual (xX st) (xQ st) (yH st) .none kV doc pm an cdv ct),osl⟩) (c:cXB K cdv qual=true) (k:cQO K (.ref f)=true):bKN K x R qual st:=
 ⟨a,aK5 e,f,_,rd,b,sp,aXn l c k⟩
def bKR(b1:cZy K CB Str.empty=true)(p:cZR K CB=true)(i:cJq K CB=true)(c:cQE K (.ref CB) "__setattr__"=some (some (.builtin "object.__setattr__")))
  (o:cZy K CL Str.empty=true) (q:cZR K CL=true) (d:cJq K CL=true) (h:cQE K (.ref CL) "__setattr__"=some (some (.builtin "object.__setattr__")))
  (l:cQE K (.ref CB) "letters"=some none) (g:cQE K (.ref CB) "shut"=some none)
  (e:cQE K (.ref CL) "number"=some none) (r:cQE K (.ref CL) "way"=some none) (k:cQE K (.ref CL) "day"=some none) (n:cQE K (.ref CL) "partner"=some none)
  (m:cQE K (.ref CL) "term"=some none) (j:cQE K (.ref CL) "link"=some none) (f:cQE K (.ref CL) "file"=some none) (b:cQE K (.ref CL) "copies"=some none) (a:cQE K (.ref CL) "void"=some none):
  Desk.Cl K CB CL:=⟨⟨b1,p,i,c⟩,⟨o,q,d,h⟩,l,g,e,r,k,n,m,j,f,b,a⟩
end
section
variable {P:cQe}{w:cQm}{K:bYT}{h:Heap}{mg:Str->Option bYS}{base:Heap}{x m qual t:Str}{st:Stmt}{f C R:Nat}{k:Nat}{ps:List Str}{sp:Sp}{CX:CXT}
def uQ(x qual:Str)(st:Stmt)(ps:List Str):Prop:=∀ (kV doc pm:bYS)(an:Option Nat)(cdv ct:bYS)(a:List bYS),a.length=ps.length->cZA (cQY x qual (xX st) (xQ st) (yH st) .none kV doc pm an cdv ct) ⟨a,[]⟩=pure (ps.zip a)
def Q3{a:cXR}(F:Fun K x qual st f a):cQO K (.ref f)=true:=F.2
def gOf(P:cQe)(w:cQm)(base:Heap)(k:Nat)(X:K.In h)(G:h.Ns cQq mg)(D:Def K x st)(b:uQ x x st ps)(ok:∀f c,Fun K x x st f c->xE P w K mg base CX0 k f c ps sp):FnG P w K mg base k x ps sp:=by
 obtain⟨f,a,c,F⟩:=D;exact⟨f,c,ok f c F,F.binds b,Q3 F,cXN X G a⟩
def xOf(P:cQe)(w:cQm)(base:Heap)(k:Nat)(X:K.In h)(G:h.Ns cQq mg)(D:Def K x st)(b:uQ x x st ps)(ok:∀f c,Fun K x x st f c->xE P w K mg base (CXR P w) k f c ps sp):FnX P w K mg base k x ps sp:=by
 obtain⟨f,a,c,F⟩:=D;exact⟨f,c,ok f c F,F.binds b,Q3 F,cXN X G a⟩
structure DoG(P:cQe)(w:cQm)(K:bYT)(mg:Str->Option bYS)(base:Heap)(k:Nat)(f:Nat)(ps:List Str)(sp:Sp):Prop where
 ex:∃fd,xE P w K mg base (CXR P w) k f fd ps sp/\v7 K fd ps []/\cQO K (.ref f)=true
def dOf(mg:Str->Option bYS)(P:cQe)(w:cQm)(base:Heap)(k:Nat)(D:vW K x st f)(b:uQ x x st ps)(ok:∀f c,Fun K x x st f c->xE P w K mg base (CXR P w) k f c ps sp):DoG P w K mg base k f ps sp:=by
 obtain⟨a,c,F⟩:=D;exact⟨c,ok f c F,F.binds b,Q3 F⟩
def mOf(mg:Str->Option bYS)(P:cQe)(w:cQm)(base:Heap)(k:Nat)(c:Cls K C)(D:Mtd K C m qual st)(b:uQ m qual st ps)(ok:∀f a,Fun K m qual st f a->xE P w K mg base CX0 k f a ps sp):MG P w K mg base CX0 k C m ps sp:=by
 obtain⟨f,a,M,F⟩:=D.ex;exact⟨⟨f,a,ok f a F,F.binds b,M⟩,c⟩
def aJN(mg:Str->Option bYS)(P:cQe)(w:cQm)(base:Heap)(k:Nat)(c:Cls K C)(D:Mtd K C m qual st)(b:uQ m qual st ps)(ok:∀f a,Fun K m qual st f a->xE P w K mg base (CXR P w) k f a ps sp):MG P w K mg base (CXR P w) k C m ps sp:=by
 obtain⟨f,a,M,F⟩:=D.ex;exact⟨⟨f,a,ok f a F,F.binds b,M⟩,c⟩
def kOf(P:cQe)(w:cQm)(base:Heap)(k:Nat)(X:K.In h)(G:h.Ns cQq mg)(D:MkD K x C qual st)(b:uQ "__init__" qual st ps)(ok:∀f a,Fun K "__init__" qual st f a->xE P w K mg base CX0 k f a ps sp):MkG P w K mg base k x C ps sp:=by
 obtain⟨f,a,M,F⟩:=D.ex;exact⟨⟨f,a,ok f a F,F.binds b,M,cXN X G D.ns⟩⟩
def eOf(P:cQe)(w:cQm)(base:Heap)(k:Nat)(t:Str)(X:K.In h)(G:h.Ns cQq mg)(D:Exc K R x qual st)(b:uQ "__init__" qual st ["self"])(ok:∀C f c,v8 K C->Fun K "__init__" qual st f c->xE P w K mg base CX0 k f c ["self"] (wH K C t)):∃C,ExG P w K mg base k x R C t:=by
 obtain⟨C,f,c,a,e,d,g,i,j,F⟩:=D.ex;exact⟨C,⟨f,c,ok C f c e F,F.binds b,g,i,j,cXN X G a⟩,e,d⟩
def rOf(P:cQe)(w:cQm)(base:Heap)(k:Nat)(X:K.In h)(G:h.Ns cQq mg)(D:bKN K x R qual st)(b:uQ "__init__" qual st ps)(ok:∀f a,Fun K "__init__" qual st f a->xE P w K mg base CX0 k f a ps sp):aWo P w K mg base k x "__init__" ps sp:=by
 obtain⟨f,a,rd,c,s,F⟩:=D.ex;exact⟨⟨R,f,a,ok f a F,F.binds b,rd,c,s,Q3 F,cXN X G D.ns⟩⟩
end
def Pr(w:cQm):List DictEntry->List (Str×Nat)->Prop
 |[],[]=>True
 |e::es,(x,f)::r=>(∃t,e.key= .str x t)/\e.hash=hashStr w x/\e.val= .ref f/\Pr w es r
 |_,_=>False
abbrev bJf(r:List (Str×Nat)):List (Key×bYS):=r.map λp=>(Sum.inr p.1,.ref p.2)
def aVW{P:cQe}{w:cQm}:∀ {a:List DictEntry} {r:List (Str×Nat)},Pr w a r->Pairs (zD P w) a (bJf r)
 |[],[],_=> .nil
 |e::a,(x,f)::r,⟨⟨t,h1⟩,h2,h3,h4⟩=> .cons (by rw[h1];exact qK P w x t) h3 (aVW h4)
 |[],_::_,h=>nomatch h
 |_::_,[],h=>nomatch h
def aY0{P:cQe}{w:cQm}:∀ {a:List DictEntry} {r:List (Str×Nat)},Pr w a r->∀e∈a,∃k,(zD P w).is k e.key=true/\e.hash=(zD P w).hash k
 |[],_,_,e,he=>nomatch he
 |e::a,(x,f)::r,⟨⟨t,h1⟩,h2,h3,h4⟩,e',he=>by
  rcases bY1.mp he with rfl|z
  ·exact⟨Sum.inr x,by rw[h1];exact qK P w x t,h2⟩
  ·exact aY0 h4 e' z
 |_::_,[],h,_,_=>nomatch h
def bWd{P:cQe}{w:cQm}{K:bYT}{D:Nat}{d:Array DictEntry}{f:Nat}{r:List (Str×Nat)}(l:K.lookup D=some ⟨.type "dict",none,.dict d f, #[]⟩)(p:Pr w d.toList r)(g:(r.map (·.1)).Nodup):Desk.bKP P w K D (bJf r):=by
 refine⟨⟨_,d,f,l,⟨rfl,rfl,rfl⟩,rfl,λe h=>aY0 p e (Array.mem_toList_iff.mpr h),aVW p,?_⟩⟩;have e:(bJf r).map (·.1)=(r.map (·.1)).map Sum.inr:=by simp[bJf,Function.comp_def]
 rw[e];exact List.Pairwise.map _ (λa b c z=>c (Sum.inr.inj z)) g
def uN:∀ {r:List (Str×Nat)} {x:Str} {f:Nat},(r.map (·.1)).Nodup->∀i:Nat,r[i]? =some (x,f)->cJe (bJf r) (Sum.inr x:Key)=some (.ref f)
 |[],_,_,_,_,h=>by simp at h
 |(y,g)::r,x,f,nd,0,h=>by cases h;simp[cJe,bJf]
 |(y,g)::r,x,f,nd,i+1,h=>by
  have c:r[i]? =some (x,f):=by simpa using h
  have a:=cX5.mp nd;have d:¬ ((Sum.inr y:Key)=Sum.inr x):=λz=>a.1 (by
   rw[Sum.inr.inj z];exact cQX.mpr ⟨(x,f),cQa c,rfl⟩)
  have b:=uN a.2 i c;unfold cJe at b ⊢;simp only[bJf,cQF,cZh,decide_eq_false d]at b ⊢;exact b
end End4
namespace L2
open PySem
section
variable {P:cQe}{w:cQm}{K:bYT}{mg:Str->Option bYS}{base:Heap}{j k:Nat}{x t:Str}{ps:List Str}{sp:Sp}{C Rf:Nat}{CX:CXT}
def FnG.up(G:FnG P w K mg base j x ps sp)(h:j<=k:=by decide):FnG P w K mg base k x ps sp:=G.mono h
def FnX.up(G:FnX P w K mg base j x ps sp)(h:j<=k:=by decide):FnX P w K mg base k x ps sp:=G.mono h
def MG.up(G:MG P w K mg base CX j C x ps sp)(h:j<=k:=by decide):MG P w K mg base CX k C x ps sp:=G.mono h
def MkG.up(G:MkG P w K mg base j x C ps sp)(h:j<=k:=by decide):MkG P w K mg base k x C ps sp:=G.mono h
def ExG.up(G:ExG P w K mg base j x Rf C t)(h:j<=k:=by decide):ExG P w K mg base k x Rf C t:=G.mono h
end
end L2
namespace End4
open PySem L2 PyProof.Rows
def bd1{x qual:Str}{st:Stmt}{b:Str}(h:∀ (kV doc pm:bYS)(an:Option Nat)(cdv ct a:bYS),cZA (cQY x qual (xX st) (xQ st) (yH st) .none kV doc pm an cdv ct) ⟨[a],[]⟩=pure (cJh [b] [a])):uQ x qual st [b]:=by
 intro kV doc pm an cdv ct c l;rcases c with _|⟨_,_|⟨_,_⟩⟩<;> first|(cases l;done)|exact h _ _ _ _ _ _ _
def bd2{x qual:Str}{st:Stmt}{c a:Str}(h:∀ (kV doc pm:bYS)(an:Option Nat)(cdv ct b d:bYS),cZA (cQY x qual (xX st) (xQ st) (yH st) .none kV doc pm an cdv ct) ⟨[b,d],[]⟩=pure (cJh [c,a] [b,d])):uQ x qual st [c,a]:=by
 intro kV doc pm an cdv ct e l;rcases e with _|⟨_,_|⟨_,_|⟨_,_⟩⟩⟩<;> first|(cases l;done)|exact h _ _ _ _ _ _ _ _
def bd3{x qual:Str}{st:Stmt}{f b e:Str}(h:∀ (kV doc pm:bYS)(an:Option Nat)(cdv ct c d a:bYS),cZA (cQY x qual (xX st) (xQ st) (yH st) .none kV doc pm an cdv ct) ⟨[c,d,a],[]⟩=pure (cJh [f,b,e] [c,d,a])):uQ x qual st [f,b,e]:=by
 intro kV doc pm an cdv ct g l;rcases g with _|⟨_,_|⟨_,_|⟨_,_|⟨_,_⟩⟩⟩⟩<;> first|(cases l;done)|exact h _ _ _ _ _ _ _ _ _
def bd4{x qual:Str}{st:Stmt}{i c g b:Str}(h:∀ (kV doc pm:bYS)(an:Option Nat)(cdv ct d e a f:bYS),cZA (cQY x qual (xX st) (xQ st) (yH st) .none kV doc pm an cdv ct) ⟨[d,e,a,f],[]⟩=pure (cJh [i,c,g,b] [d,e,a,f])):uQ x qual st [i,c,g,b]:=by
 intro kV doc pm an cdv ct j l;rcases j with _|⟨_,_|⟨_,_|⟨_,_|⟨_,_|⟨_,_⟩⟩⟩⟩⟩<;> first|(cases l;done)|exact h _ _ _ _ _ _ _ _ _ _
def bd5{x qual:Str}{st:Stmt}{j c i b k:Str}(h:∀ (kV doc pm:bYS)(an:Option Nat)(cdv ct d f a g e:bYS),cZA (cQY x qual (xX st) (xQ st) (yH st) .none kV doc pm an cdv ct) ⟨[d,f,a,g,e],[]⟩=pure (cJh [j,c,i,b,k] [d,f,a,g,e])):uQ x qual st [j,c,i,b,k]:=by
 intro kV doc pm an cdv ct m l;rcases m with _|⟨_,_|⟨_,_|⟨_,_|⟨_,_|⟨_,_|⟨_,_⟩⟩⟩⟩⟩⟩<;> first|(cases l;done)|exact h _ _ _ _ _ _ _ _ _ _ _
def bd6{x qual:Str}{st:Stmt}{m c j b n k:Str}(h:∀ (kV doc pm:bYS)(an:Option Nat)(cdv ct d g a i e f:bYS),cZA (cQY x qual (xX st) (xQ st) (yH st) .none kV doc pm an cdv ct) ⟨[d,g,a,i,e,f],[]⟩=pure (cJh [m,c,j,b,n,k] [d,g,a,i,e,f])):uQ x qual st [m,c,j,b,n,k]:=by
 intro kV doc pm an cdv ct o l;rcases o with _|⟨_,_|⟨_,_|⟨_,_|⟨_,_|⟨_,_|⟨_,_|⟨_,_⟩⟩⟩⟩⟩⟩⟩<;> first|(cases l;done)|exact h _ _ _ _ _ _ _ _ _ _ _ _
def bd7{x qual:Str}{st:Stmt}{o c m b p n g:Str}(h:∀ (kV doc pm:bYS)(an:Option Nat)(cdv ct d j a k f i e:bYS),cZA (cQY x qual (xX st) (xQ st) (yH st) .none kV doc pm an cdv ct) ⟨[d,j,a,k,f,i,e],[]⟩=pure (cJh [o,c,m,b,p,n,g] [d,j,a,k,f,i,e])):uQ x qual st [o,c,m,b,p,n,g]:=by
 intro kV doc pm an cdv ct q l;rcases q with _|⟨_,_|⟨_,_|⟨_,_|⟨_,_|⟨_,_|⟨_,_|⟨_,_|⟨_,_⟩⟩⟩⟩⟩⟩⟩⟩<;> first|(cases l;done)|exact h _ _ _ _ _ _ _ _ _ _ _ _ _
def bdA{x qual:Str}{st:Stmt}{ps:List Str}(h:uQ x qual st ps:=by
  first|refine bd1 λa b c d e f g=>?_|refine bd2 λa b c d e f g i=>?_|refine bd3 λa b c d e f g i j=>?_|refine bd4 λa b c d e f g i j k=>?_|refine bd5 λa b c d e f g i j k l=>?_|refine bd6 λa b c d e f g i j k l m=>?_|refine bd7 λa b c d e f g i j k l m n=>?_
  kernel_rfl):uQ x qual st ps:=h
end End4
namespace End4
open PySem L2 PyProof.Rows
set_option maxHeartbeats 0 in
def all_mk{l:PySem.W.OpenLaw}{w:cQm}{K:bYT}{h:Heap}{mg:Str->Option bYS}{fa R L CL cA J fA fL DD i y I x E H B A D z u q r j p k:Nat}{k2 l4:Option Nat}{j6:Array (Option bYS)}{h0 f6 f3 f7 i4:bYS}{a4:Array DictEntry}{c5:Nat}{tW tO:Tok} (X:K.In h) (G:h.Ns cQq mg) (j3:mg "law"=some (.ref fa)) (d60:bKN K "Refused" R "Refused.__init__" Desk.aQR) (d61:Exc K R "NoLetter" "NoLetter.__init__" Desk.Z1) (d62:Exc K R "NoTerm" "NoTerm.__init__" Desk.aX5) (d63:Exc K R "HasOne" "HasOne.__init__" Desk.aX4) (d64:Exc K R "HasNone" "HasNone.__init__" Desk.aQQ) (d65:Exc K R "OwnThread" "OwnThread.__init__" Desk.qN) (d66:Exc K R "SameWay" "SameWay.__init__" Desk.aQS) (d67:Exc K R "OtherPartner" "OtherPartner.__init__" Desk.vV) (d68:Exc K R "TooEarly" "TooEarly.__init__" Desk.Z2) (d69:Exc K R "Copied" "Copied.__init__" Desk.aX3) (d70:Exc K R "Answered" "Answered.__init__" Desk.Z0) (d71:Exc K R "CountsNot" "CountsNot.__init__" Desk.qM) (d9:MkD K "Letter" CL "Letter.__init__" Desk.bQf) (d24:MkD K "Book" L "Book.__init__" Desk.aY8) (cl:Desk.Cl K L CL) (d10:Mtd K CL "state" "Letter.state" Desk.bQk) (d11:Mtd K CL "is_answered_by" "Letter.is_answered_by" Desk.aY7) (d12:Mtd K CL "has_gone_to" "Letter.has_gone_to" Desk.bVD) (d13:Mtd K CL "make_void" "Letter.make_void" Desk.bVM) (d15:Mtd K L "letter_at" "Book.letter_at" Desk.aQN) (d16:Mtd K L "answers_to" "Book.answers_to" Desk.aV1) (d17:Mtd K L "copies_of" "Book.copies_of" Desk.aQM) (d18:Mtd K L "state_of" "Book.state_of" Desk.aX1) (d19:Mtd K L "letters_in" "Book.letters_in" Desk.jQ) (d20:Mtd K L "answered_by" "Book.answered_by" Desk.aQL) (d21:Mtd K L "waiting_pairs" "Book.waiting_pairs" Desk.bQh) (d22:Mtd K L "waiting" "Book.waiting" Desk.aQa) (d23:Mtd K L "overdue" "Book.overdue" Desk.Q9) (d25:Mtd K L "add_letter" "Book.add_letter" Desk.bK2) (d28:Mtd K L "enter" "Book.enter" Desk.bQe) (d29:Mtd K L "reply" "Book.reply" Desk.bQj) (d30:Mtd K L "loosen" "Book.loosen" Desk.aVe) (d31:Mtd K L "put_term" "Book.put_term" Desk.aXZ) (d32:Mtd K L "send_copy" "Book.send_copy" Desk.bVK) (d33:Mtd K L "cancel" "Book.cancel" Desk.aVa) (d34:Mtd K L "shut_day" "Book.shut_day" Desk.bVL) (d35:Mtd K L "put_day" "Book.put_day" Desk.aVf) (d36:Mtd K L "thread_of" "Book.thread_of" Desk.Y3) (d37:Mtd K L "lay_thread" "Book.lay_thread" Desk.bK8) (d38:Mtd K L "check_hanging" "Book.check_hanging" Desk.aY9) (d39:Mtd K L "hang" "Book.hang" Desk.bVF) (d58:Mtd K L "standing_states" "Book.standing_states" Desk.aX2) (d1:Def K "open_by_rest" Days.bVI) (d2:Def K "place_of" Days.bQi) (d3:Def K "counts" Days.aVb) (d4:Def K "closed_days" Days.aXV) (d5:Def K "day_at" Days.bQb) (d6:Def K "due_day" Days.bK4) (d7:Def K "top_of" Thr.bQn) (d8:Def K "thread" Thr.aVg) (d14:Def K "other_way" Desk.bQg) (d26:Def K "check_term" Desk.bQl) (d27:Def K "check_days" Desk.bQc) (d56:Def K "answer" Desk.aJ8) (d57:Def K "answers" Desk.Q7) (d59:Def K "standing" Desk.aQO) (d72:Def K "_law_good" Law.bVE) (d73:Def K "_law_kids_of" Law.bZk) (d74:Def K "_law_waits_on" Law.aV3) (d75:Def K "_law_due_by" Law.bQd) (d76:Def K "_law_list_on" Law.aXY) (d77:Def K "_law_family" Law.aXX) (d78:Def K "_law_lost" Law.bVH) (d79:Def K "_law_dated" Law.bQa) (d80:Def K "_law_hung" Law.bVG) (d81:Def K "_law_entered" Law.aXW) (d82:Def K "_law_with_one" Law.bVN) (d83:Def K "_law_told_of" Law.bQm) (d84:Def K "_law_done_by" Law.bVC) (d85:Def K "_law_hanging" Law.Q8) (d86:Def K "_law_about" Law.aV0) (d87:Def K "_law_deed_at" Law.aVc) (d88:Def K "_law_story" Law.aV2) (d89:Def K "_law_whole" Alike.bQo) (d90:Def K "_law_room" Alike.bVJ) (d91:Def K "_law_alike" Alike.aY6) (d92:Def K "_law_at" Alike.sAt) (d93:Def K "_law_unturned" Alike.aQP) (d94:Def K "_law_book_of" Alike.aJ9) (d95:Def K "_law_standing_of" Alike.aX0) (d40:vW K "do_enter" Desk.Z3 i) (d41:vW K "do_reply" Desk.Z5 y) (d42:vW K "do_hang" Desk.aQW I) (d43:vW K "do_loose" Desk.Z4 x) (d44:vW K "do_date" Desk.aQU E) (d45:vW K "do_term" Desk.aQY H) (d46:vW K "do_copy" Desk.aQT B) (d47:vW K "do_file" Desk.aQV A) (d48:vW K "do_void" Desk.aQZ D) (d49:vW K "do_shut" Desk.aQX z) (d50:vW K "ask_state" Desk.qO u) (d51:vW K "ask_thread" Desk.jA q) (d52:vW K "ask_copies" Desk.u9 r) (d53:vW K "ask_letters" Desk.uF j) (d54:vW K "ask_waiting" Desk.uH p) (d55:vW K "ask_overdue" Desk.uG k) (dL:vW K "law" Alike.bK7 fL) (aA:cQN K cQq "answers_to_each"=some (some (.ref fA))) (lA:K.lookup fA=some ⟨h0,k2,.func (cQY "answers_to_each" "answers_to_each" (xX Thr.aJ7) (xQ Thr.aJ7) (yH Thr.aJ7) .none f6 f3 f7 l4 (.ref cA) i4),j6⟩) (cA1:cXB K (.ref cA) "answers_to_each"=true) (kA:cQO K (.ref fA)=true) (nD:cQN K cQq "DEEDS"=some (some (.ref DD))) (lD:K.lookup DD=some ⟨.type "dict",none,.dict a4 c5, #[]⟩) (pD:Pr w a4.toList [("in",i),("out",i),("reply",y),("hang",I),("loose",x),("date",E),("term",H),("copy",B),("file",A),("void",D),("shut",z),("state",u),("thread",q),("copies",r),("letters",j),("waiting",p),("overdue",k)]) (z_len:cQN K cQq "len"=some none) (z_min:cQN K cQq "min"=some none) (z_sum:cQN K cQq "sum"=some none) (z_sorted:cQN K cQq "sorted"=some none) (z_isinstance:cQN K cQq "isinstance"=some none) (z_int:cQN K cQq "int"=some none) (z_str:cQN K cQq "str"=some none) (z_bool:cQN K cQq "bool"=some none) (z_list:cQN K cQq "list"=some none) (z_tuple:cQN K cQq "tuple"=some none) (z_set:cQN K cQq "set"=some none) (z_range:cQN K cQq "range"=some none) (z_reversed:cQN K cQq "reversed"=some none) (z_max:cQN K cQq "max"=some none) (y_week:cQN K cQq "WEEK"=some (some (.int 7 tW))) (y_open:cQN K cQq "OPEN_DAYS"=some (some (.int 5 tO))) (tb:cJw K cA J=true) (tn:K.lookup J=none) :∃ (g:cXR)(c:Nat),cJw K c J=true/\K.lookup J=none/\(∀ (s:bYV)(v:bYS),BindsTo s g ⟨[v],[]⟩ [("_law_script",v)])/\∀base:Heap,K.In base->base.Ns cQq mg->cXY base c J->base.BuiltinsAt mg J->xE l.prog w K mg base CX0 11 fa g ["_law_script"] (Alike.bZL J K):=by
 obtain⟨aL,b5,Q⟩:=dL;have e:=j3.symm.trans (cXN X G aL);cases e;have TD:Days.vK mg:=⟨bY8 X G z_len,bY8 X G z_min,bY8 X G z_sum,bY8 X G z_sorted,bY8 X G z_isinstance,bY8 X G z_int,bY8 X G z_str,bY8 X G z_bool,bY8 X G z_list,bY8 X G z_tuple,bY8 X G z_set,bY8 X G z_range,bY8 X G z_reversed,⟨_,cXN X G y_week⟩,⟨_,cXN X G y_open⟩⟩;have TT:Thr.vK mg:=⟨bY8 X G z_len,bY8 X G z_sorted,bY8 X G z_isinstance,bY8 X G z_int,bY8 X G z_str,bY8 X G z_bool,bY8 X G z_list,bY8 X G z_tuple,bY8 X G z_range⟩;have Z:Desk.vK mg:=⟨bY8 X G z_len,bY8 X G z_sorted,bY8 X G z_list⟩;have T:Law.vK mg:=⟨bY8 X G z_len,bY8 X G z_range⟩;have TA:Alike.vK mg:=⟨bY8 X G z_len,bY8 X G z_sorted,bY8 X G z_isinstance,bY8 X G z_int,bY8 X G z_str,bY8 X G z_bool,bY8 X G z_list,bY8 X G z_tuple,bY8 X G z_range⟩;have bL:∀ (s:bYV)(v:bYS),BindsTo s b5 ⟨[v],[]⟩ [("_law_script",v)]:=by obtain⟨oc,od,kV,l5,pm,an,l7,ct,l6,rfl,lk,l8⟩:=Q.ex;exact λs v=> .of_eq rfl
 refine⟨b5,cA,tb,tn,bL,λbase _ _ M hB=>?_⟩;have g0:FnG l.prog w K mg base 2 "answers_to_each" ["links","dates"] (Thr.bV6 J):=⟨fA,_,Thr.bWU TT M hB lA cA1,(aXn (st:=Thr.aJ7) lA cA1 kA).binds bdA,kA,cXN X G aA⟩;have g1:=gOf l.prog w base 1 X G d1 bdA λf g F=>Days.bVk TD F;have g2:=gOf l.prog w base 1 X G d2 bdA λf g F=>Days.bXY TD F;have g3:=gOf l.prog w base 2 X G d3 bdA λf g F=>Days.aYJ TD g1.up F;have g4:=gOf l.prog w base 2 X G d4 bdA λf g F=>Days.aYI TD g1.up F;have g5:=gOf l.prog w base 1 X G d5 bdA λf g F=>Days.bXR TD F;have g6:=gOf l.prog w base 3 X G d6 bdA λf g F=>Days.bWV TD g4.up g2.up g5.up F;have g7:=gOf l.prog w base 1 X G d7 bdA λf g F=>Thr.bX3 TT F;have g8:=gOf l.prog w base 3 X G d8 bdA λf g F=>Thr.aYQ TT g0.up g7.up F;have g9:=kOf l.prog w base 1 X G d9 bdA λf g F=>Desk.bXV (n:=0) cl F;have a6:=mOf mg l.prog w base 1 cl.l d10 bdA λf g F=>Desk.bX0 (n:=0) cl F;have k7:=mOf mg l.prog w base 1 cl.l d11 bdA λf g F=>Desk.bXM (n:=0) cl F;have k4:=mOf mg l.prog w base 1 cl.l d12 bdA λf g F=>Desk.bVd (n:=0) cl F;have c1:=mOf mg l.prog w base 1 cl.l d13 bdA λf g F=>Desk.bVp (n:=0) cl F;have h3:=gOf l.prog w base 1 X G d14 bdA λf g F=>Desk.bXW (n:=0) F;have a5:=mOf mg l.prog w base 2 cl.b d16 bdA λf g F=>Desk.bXN (n:=1) cl k7.up F;have c9:=mOf mg l.prog w base 1 cl.b d19 bdA λf g F=>Desk.aZS (n:=0) cl F;have e0:=mOf mg l.prog w base 1 cl.b d20 bdA λf g F=>Desk.aJS (n:=0) cl F;have a8:=mOf mg l.prog w base 4 cl.b d21 bdA λf g F=>Desk.bXX (n:=3) Z cl e0.up g6.up F;have e6:=mOf mg l.prog w base 5 cl.b d22 bdA λf g F=>Desk.aKe (n:=4) cl a8.up F;have h7:=mOf mg l.prog w base 5 cl.b d23 bdA λf g F=>Desk.aKa (n:=4) cl a8.up F;have b1:=kOf l.prog w base 1 X G d24 bdA λf g F=>Desk.bXO (n:=0) cl F;have b3:=mOf mg l.prog w base 3 cl.b d25 bdA λf g F=>Desk.bWT (n:=1) Z cl g9.up F;have b6:=dOf mg l.prog w base 2 d53 bdA λf g F=>Desk.aXe (n:=1) (Rf:=(R,J)) c9.up F;have h9:=dOf mg l.prog w base 6 d54 bdA λf g F=>Desk.aXg (n:=5) (Rf:=(R,J)) e6.up F;have i6:=dOf mg l.prog w base 6 d55 bdA λf g F=>Desk.aXf (n:=5) (Rf:=(R,J)) h7.up F;have k0:=mOf mg l.prog w base 2 cl.b d58 bdA λf g F=>Desk.aYP (n:=1) cl a6.up F;have N:=rOf l.prog w base 1 X G d60 bdA λf g F=>Desk.aWY (n:=0) F;obtain⟨_,b9⟩:=eOf l.prog w base 2 "no letter" X G d61 bdA λC f g M F=>Desk.aJQ (n:=1) N M F;obtain⟨_,k6⟩:=eOf l.prog w base 2 "no term" X G d62 bdA λC f g M F=>Desk.aYE (n:=1) N M F;obtain⟨_,l3⟩:=eOf l.prog w base 2 "has one" X G d63 bdA λC f g M F=>Desk.aYD (n:=1) N M F;obtain⟨_,j2⟩:=eOf l.prog w base 2 "has none" X G d64 bdA λC f g M F=>Desk.aWX (n:=1) N M F;obtain⟨_,c7⟩:=eOf l.prog w base 2 "own thread" X G d65 bdA λC f g M F=>Desk.aZQ (n:=1) N M F;obtain⟨_,l2⟩:=eOf l.prog w base 2 "same way" X G d66 bdA λC f g M F=>Desk.aWZ (n:=1) N M F;obtain⟨_,e8⟩:=eOf l.prog w base 2 "other partner" X G d67 bdA λC f g M F=>Desk.aQA (n:=1) N M F;obtain⟨_,c2⟩:=eOf l.prog w base 2 "too early" X G d68 bdA λC f g M F=>Desk.aJR (n:=1) N M F;obtain⟨_,f5⟩:=eOf l.prog w base 2 "copied" X G d69 bdA λC f g M F=>Desk.aYC (n:=1) N M F;obtain⟨_,k9⟩:=eOf l.prog w base 2 "answered" X G d70 bdA λC f g M F=>Desk.aJP (n:=1) N M F;obtain⟨_,j1⟩:=eOf l.prog w base 2 "counts not" X G d71 bdA λC f g M F=>Desk.aZP (n:=1) N M F;have S:=gOf l.prog w base 1 X G d72 bdA λf g F=>Law.bVe T F;have Y:=gOf l.prog w base 1 X G d73 bdA λf g F=>Law.bVh T F;have d0:=gOf l.prog w base 2 X G d74 bdA λf g F=>Law.bX4 T (bY8 X G z_min) Y.up F;have j9:=gOf l.prog w base 1 X G d75 bdA λf g F=>Law.bXT T F;have a9:=gOf l.prog w base 3 X G d76 bdA λf g F=>Law.aYM T (bY8 X G z_sorted) d0.up j9.up F;have a3:=gOf l.prog w base 2 X G d77 bdA λf g F=>Law.aYL T (bY8 X G z_sorted) F;have f1:=gOf l.prog w base 2 X G d78 bdA λf g F=>Law.bVi Y.up F;have i9:=gOf l.prog w base 2 X G d79 bdA λf g F=>Law.bXQ Y.up F;have j4:=gOf l.prog w base 3 X G d80 bdA λf g F=>Law.bVg S.up a3.up F;have j5:=gOf l.prog w base 3 X G d81 bdA λf g F=>Law.aW8 T (bY8 X G z_int) S.up F;have f4:=gOf l.prog w base 3 X G d82 bdA λf g F=>Law.bVq T S.up i9.up f1.up a3.up F;have c4:=gOf l.prog w base 4 X G d83 bdA λf g F=>Law.bVo T (bY8 X G z_list) (bY8 X G z_tuple) S.up a9.up a3.up F;have b0:=gOf l.prog w base 5 X G d84 bdA λf g F=>Law.bVc j5.up j4.up c4.up f4.up F;have f9:=gOf l.prog w base 2 X G d85 bdA λf g F=>Law.aW9 T (bY8 X G z_int) S.up F;have h5:=gOf l.prog w base 2 X G d86 bdA λf g F=>Law.bXK T (bY8 X G z_int) S.up F;have i2:=gOf l.prog w base 3 X G d87 bdA λf g F=>Law.aYK T (bY8 X G z_int) (bY8 X G z_max) S.up f9.up h5.up F;have i8:=gOf l.prog w base 6 X G d88 bdA λf g F=>Law.bX1 T b0.up i2.up F;have i3:=gOf l.prog w base 1 X G d89 bdA λf g F=>Alike.bX5 TA F;have f0:=gOf l.prog w base 1 X G d90 bdA λf g F=>Alike.bVl TA F;have e4:=gOf l.prog w base 2 X G d91 bdA λf g F=>Alike.bXL TA i3.up F;have j7:=gOf l.prog w base 1 X G d92 bdA λf g F=>Alike.bVa TA F;have k5:=gOf l.prog w base 1 X G d93 bdA λf g F=>Alike.aJZ TA F;have h6:=gOf l.prog w base 6 X G d94 bdA λf g F=>Alike.aYG (n:=5) b0.up F;have h1:=gOf l.prog w base 1 X G d95 bdA λf g F=>Alike.aKc TA F;have O:=aJN mg l.prog w base 4 cl.b d15 bdA λf g F=>Desk.bVa (n:=2) (Rf:=(R,J)) Z cl b9.up F;have h8:=aJN mg l.prog w base 5 cl.b d17 bdA λf g F=>Desk.aJT (n:=4) (Rf:=(R,J)) Z cl O.up F;have h4:=aJN mg l.prog w base 5 cl.b d18 bdA λf g F=>Desk.aKd (n:=4) (Rf:=(R,J)) cl O.up a6.up F;have a2:=xOf l.prog w base 4 X G d26 bdA λf g F=>Desk.bX2 (n:=2) (Rf:=(R,J)) k6.up F;have a1:=xOf l.prog w base 4 X G d27 bdA λf g F=>Desk.bXS (n:=2) (Rf:=(R,J)) c2.up F;have l0:=aJN mg l.prog w base 5 cl.b d28 bdA λf g F=>Desk.bXU (n:=4) (Rf:=(R,J)) cl a2.up b3.up F;have e7:=aJN mg l.prog w base 5 cl.b d29 bdA λf g F=>Desk.bXZ (n:=4) (Rf:=(R,J)) cl O.up a2.up a1.up h3.up b3.up F;have k3:=aJN mg l.prog w base 5 cl.b d30 bdA λf g F=>Desk.aYN (n:=3) (Rf:=(R,J)) cl O.up j2.up F
 have e2:=aJN mg l.prog w base 5 cl.b d31 bdA λf g F=>Desk.aKb (n:=4) (Rf:=(R,J)) cl O.up a2.up F;have j8:=aJN mg l.prog w base 5 cl.b d32 bdA λf g F=>Desk.bVm (n:=3) (Rf:=(R,J)) Z cl O.up k4.up f5.up F;have e5:=aJN mg l.prog w base 5 cl.b d33 bdA λf g F=>Desk.aYH (n:=3) (Rf:=(R,J)) Z cl O.up a5.up c1.up k9.up F;have e1:=aJN mg l.prog w base 4 cl.b d34 bdA λf g F=>Desk.bVn (n:=2) (Rf:=(R,J)) cl g3.up j1.up F;have c0:=aJN mg l.prog w base 5 cl.b d35 bdA λf g F=>Desk.aYO (n:=4) (Rf:=(R,J)) cl O.up a5.up a1.up F;have a0:=aJN mg l.prog w base 5 cl.b d36 bdA λf g F=>Desk.aJY (n:=4) (Rf:=(R,J)) cl O.up g8.up F;have b2:=aJN mg l.prog w base 6 cl.b d37 bdA λf g F=>Desk.bWX (n:=5) (Rf:=(R,J)) Z cl a0.up F;have j0:=aJN mg l.prog w base 6 cl.b d38 bdA λf g F=>Desk.bXP (n:=4) (Rf:=(R,J)) cl a0.up a1.up l3.up c7.up l2.up e8.up F;have f8:=aJN mg l.prog w base 7 cl.b d39 bdA λf g F=>Desk.bVf (n:=6) (Rf:=(R,J)) cl O.up j0.up b2.up F;have k1:=dOf mg l.prog w base 6 d40 bdA λf g F=>Desk.aJU (n:=5) (Rf:=(R,J)) l0.up F;have h2:=dOf mg l.prog w base 6 d41 bdA λf g F=>Desk.aJW (n:=5) (Rf:=(R,J)) e7.up F;have f2:=dOf mg l.prog w base 8 d42 bdA λf g F=>Desk.aW4 (n:=7) (Rf:=(R,J)) f8.up F;have e9:=dOf mg l.prog w base 6 d43 bdA λf g F=>Desk.aJV (n:=5) (Rf:=(R,J)) k3.up F;have l1:=dOf mg l.prog w base 6 d44 bdA λf g F=>Desk.aW2 (n:=5) (Rf:=(R,J)) c0.up F;have i5:=dOf mg l.prog w base 6 d45 bdA λf g F=>Desk.aW6 (n:=5) (Rf:=(R,J)) e2.up F;have c8:=dOf mg l.prog w base 6 d46 bdA λf g F=>Desk.aW1 (n:=5) (Rf:=(R,J)) j8.up F;have i0:=dOf mg l.prog w base 7 d47 bdA λf g F=>Desk.aW3 (n:=6) (Rf:=(R,J)) b2.up F;have b7:=dOf mg l.prog w base 6 d48 bdA λf g F=>Desk.aW7 (n:=5) (Rf:=(R,J)) e5.up F;have i1:=dOf mg l.prog w base 5 d49 bdA λf g F=>Desk.aW5 (n:=4) (Rf:=(R,J)) e1.up F;have b8:=dOf mg l.prog w base 6 d50 bdA λf g F=>Desk.aZR (n:=5) (Rf:=(R,J)) h4.up F;have c6:=dOf mg l.prog w base 6 d51 bdA λf g F=>Desk.aXQ (n:=5) (Rf:=(R,J)) a0.up F;have k8:=dOf mg l.prog w base 6 d52 bdA λf g F=>Desk.aXP (n:=5) (Rf:=(R,J)) h8.up F;have P:(([("in",i),("out",i),("reply",y),("hang",I),("loose",x),("date",E),("term",H),("copy",B),("file",A),("void",D),("shut",z),("state",u),("thread",q),("copies",r),("letters",j),("waiting",p),("overdue",k)]:List (Str×Nat)).map (·.1)).Nodup:=show(["in","out","reply","hang","loose","date","term","copy","file","void","shut","state","thread","copies","letters","waiting","overdue"]:List Str).Nodup from dk;have all:Desk.bWm l.prog w K mg base 8 (R,J) L CL (bJf [("in",i),("out",i),("reply",y),("hang",I),("loose",x),("date",E),("term",H),("copy",B),("file",A),("void",D),("shut",z),("state",u),("thread",q),("copies",r),("letters",j),("waiting",p),("overdue",k)]):=by
  intro e e3;cases e with
  |enter l9 d V t=>
   obtain⟨g,a,b,c⟩:=k1.ex;rcases e3 with rfl|rfl
   ·exact⟨i,g,_,uN P 0 rfl,a.mono (by decide),⟨_,d,V,t,rfl⟩,b,c⟩
   ·exact⟨i,g,_,uN P 1 rfl,a.mono (by decide),⟨_,d,V,t,rfl⟩,b,c⟩
  |reply m d t=>obtain⟨g,a,b,c⟩:=h2.ex;exact⟨y,g,_,uN P 2 rfl,a.mono (by decide),⟨m,d,t,rfl⟩,b,c⟩
  |hang m o=>obtain⟨g,a,b,c⟩:=f2.ex;exact⟨I,g,_,uN P 3 rfl,a.mono (by decide),⟨m,o,rfl⟩,b,c⟩
  |loose m=>obtain⟨g,a,b,c⟩:=e9.ex;exact⟨x,g,_,uN P 4 rfl,a.mono (by decide),⟨m,rfl⟩,b,c⟩
  |date m d=>obtain⟨g,a,b,c⟩:=l1.ex;exact⟨E,g,_,uN P 5 rfl,a.mono (by decide),⟨m,d,rfl⟩,b,c⟩
  |term m t=>obtain⟨g,a,b,c⟩:=i5.ex;exact⟨H,g,_,uN P 6 rfl,a.mono (by decide),⟨m,t,rfl⟩,b,c⟩
  |copy m V=>obtain⟨g,a,b,c⟩:=c8.ex;exact⟨B,g,_,uN P 7 rfl,a.mono (by decide),⟨m,V,rfl⟩,b,c⟩
  |file m U=>obtain⟨g,a,b,c⟩:=i0.ex;exact⟨A,g,_,uN P 8 rfl,a.mono (by decide),⟨m,U,rfl⟩,b,c⟩
  |void m=>obtain⟨g,a,b,c⟩:=b7.ex;exact⟨D,g,_,uN P 9 rfl,a.mono (by decide),⟨m,rfl⟩,b,c⟩
  |shut d=>obtain⟨g,a,b,c⟩:=i1.ex;exact⟨z,g,_,uN P 10 rfl,a.mono (by decide),⟨d,rfl⟩,b,c⟩
  |state m=>obtain⟨g,a,b,c⟩:=b8.ex;exact⟨u,g,_,uN P 11 rfl,a.mono (by decide),⟨m,rfl⟩,b,c⟩
  |thread m=>obtain⟨g,a,b,c⟩:=c6.ex;exact⟨q,g,_,uN P 12 rfl,a.mono (by decide),⟨m,rfl⟩,b,c⟩
  |copies m=>obtain⟨g,a,b,c⟩:=k8.ex;exact⟨r,g,_,uN P 13 rfl,a.mono (by decide),⟨m,rfl⟩,b,c⟩
  |letters U=>obtain⟨g,a,b,c⟩:=b6.ex;exact⟨j,g,_,uN P 14 rfl,a.mono (by decide),⟨U,rfl⟩,b,c⟩
  |on b4 d=>
   cases b4
   ·obtain⟨g,a,b,c⟩:=h9.ex;exact⟨p,g,_,uN P 15 rfl,a.mono (by decide),⟨d,rfl⟩,b,c⟩
   ·obtain⟨g,a,b,c⟩:=i6.ex;exact⟨k,g,_,uN P 16 rfl,a.mono (by decide),⟨d,rfl⟩,b,c⟩
 have a7:=gOf l.prog w base 9 X G d56 bdA λf g F=>Desk.aYF (n:=8) (Rf:=(R,J)) (cXN X G nD) (bWd lD pD P) (cXN X G d60.ns) d60.cl all F;have i7:=gOf l.prog w base 10 X G d57 bdA λf g F=>Desk.aW0 (n:=8) (Rf:=(R,J)) b1.up a7.up F;have c3:=gOf l.prog w base 10 X G d59 bdA λf g F=>Desk.aJX (n:=8) (Rf:=(R,J)) b1.up a7.up k0.up F;exact Alike.bWW (n:=10) (Rf:=(R,J)) TA i8.up f0.up h6.up h1.up k5.up j7.up e4.up a9.up i7.up c3.up Q
end End4
namespace End4
open PySem L2 PyProof.Rows
def walk{l:PySem.W.OpenLaw}{q:cQe}{loose:List Str}{t:(Str->Option bYS)->Heap->Prop}{b:cQm->Heap->Prop}{d:DefRec}{K:Params->bYT}{T:Nat}(o:l.most=some 63)(g:d.params.defaults= []) (m:∀ (w:cQm)(h:Heap),b w h->(K w.params).In h) (e:∀ (w:cQm)(h:Heap),b w h->h.get? T=some (cZr #[])) (F:∀ (w:cQm)(mg:Str->Option bYS)(j:Nat)(h:Heap),(K w.params).In h->h.Ns cQq mg->mg d.name=some (.ref j)-> ∃ (i:cXR)(c:Nat),cJw (K w.params) c T=true/\(K w.params).lookup T=none/\(∀ (s:bYV)(u:bYS),BindsTo s i ⟨[u],[]⟩ [("_law_script",u)])/\∀base:Heap,(K w.params).In base->base.Ns cQq mg->cXY base c T->base.BuiltinsAt mg T->xE l.prog w (K w.params) mg base CX0 11 j i ["_law_script"] (Alike.bZL T (K w.params))): PySem.W.WalkO q loose t b l.row.toRowW d [] (λf p=>PySem.call f p):=
 L2.bZ3 (n:=63) (k:=11) (x:="_law_script") (CX:=CX0) (sp:=Alike.bZL) o (by decide) g ⟨rfl,by decide,by decide⟩ m e F (λ_ _ a r hl y v=>⟨a,r,rfl,v,hl,.inl y,λ_=>rfl⟩) λ_ _ _ _ z=>z
end End4
open PySem PySem.W PyProof.Rows
namespace PySem.W.Fast
def tw5267716284262166433:=0
def tw4574352788134030185:=0
def tw381057772114747504:=0
def tw13563534361280340415:=0
def tw2792202237424353507:=0
def tw17662060998125625676:=0
def tw1085709519626780516:=0
def tw482901332392379859:=0
def tw2666204120726428949:=0
def tw122619531651437152:=0
def tw11421035440140736278:=0
def tw13293020608830275279:=0
def tw6534792828421096499:=0
def tw148576222813899980:=0
def tw1895350752577068623:=0
def tw10062078882762428043:=0
def tw7149204855012364329:=0
def tw3423044650631065588:=0
def tw17332178804430147523:=0
def tw7291913181092302860:=0
def tw4181787062944220464:=0
def tw14668032352609773566:=0
def tw3473593004646926019:=0
def tw7491132471709035586:=0
def tw9491796674323860217:=0
def tw17027290316801432589:=0
def tw13433007825637273807:=0
def tw5974380139061930230:=0
def tw14061747340182927439:=0
def tw12038995220159055159:=0
def tw18010702948557221855:=0
def tw7849185791598344401:=0
def tw3867221798356080423:=0
def tw14115843613567017128:=0
def tw17191666398727689670:=0
def tw5297967472074050073:=0
def tw4357361608782714544:=0
def tw10146812958779295257:=0
def tw16310047939293361961:=0
def tw14852483184467831919:=0
def tw15255445102882252681:=0
def tw11730926678506217011:=0
def tw4358593487892098141:=0
def tw15967492951621410229:=0
def tw10336264511284167213:=0
def tw5014026890318739130:=0
def tw3822626628736409390:=0
def tw11452957023925982544:=0
def tw6744135953152663317:=0
def tw319349108137335120:=0
def tw17694083636797486667:=0
def tw18365384584368880355:=0
def tw1106928264921017652:=0
def tw13409891743565577075:=0
def tw15315865908672300154:=0
def tw16556597636605652462:=0
def tw11897920498827781762:=0
def tw175013885655646553:=0
def tw8137234323905038147:=0
def tw16750983708345650371:=0
def tw14152100642559464027:=0
def tw201740406158188176:=0
def tw16980047107301261851:=0
def tw381727330051619449:=0
def tw5938236238591185338:=0
def tw10025989864068601733:=0
def tw265535151282227838:=0
def tw2188647907844208076:=0
def tw2545490565614003983:=0
def tw5289920278813369802:=0
def tw11050801620580643959:=0
def tw5862461743961726092:=0
def tw3927003230054641159:=0
def tw13724844238547794507:=0
def tw3282478017384219552:=0
def tw460637822919888368:=0
def tw13967081815954930916:=0
def tw2772181257751039402:=0
def tw5207969209540080249:=0
def tw13181837527995868932:=0
def tw892071214597660174:=0
def tw10617775192797409554:=0
def tw491177518915161080:=0
def tw539095926069579230:=0
def tw16055103525893071134:=0
def tw10649640436236412001:=0
def tw6629888002329860994:=0
def tw13192678261991012474:=0
def tw16568904208738278237:=0
def tw9074692932416413605:=0
def tw10488417458936040802:=0
def tw7110877541875776984:=0
def tw10410929562666654932:=0
def tw7610679722688374867:=0
def tw3741899440283553038:=0
def tw7381617356366439740:=0
def tw9676396075988474371:=0
def tw18054147872363721317:=0
def tw2004677113527524477:=0
def tw11022356647954930676:=0
def tw6204652120566744220:=0
def tw15329022425760986593:=0
def tw1686855102411383424:=0
def tw12648159380606001543:=0
def tw15391165250858911573:=0
def tw12012966172606641182:=0
def tw11949162459247606368:=0
def tw10995028657164664432:=0
def tw2349249680320763557:=0
def tw601764381712650412:=0
def tw6119472145519187922:=0
def tw9028501858423168465:=0
def tw4625825541211746670:=0
def tw13637055583510056123:=0
def tw9632101098966543202:=0
def tw2032766905712234995:=0
def tw17510609493635401773:=0
def tw61061174230765040:=0
def tw215711844169528034:=0
def tw17599878557882506442:=0
def tw2921183904840596358:=0
def tw4967486185933677278:=0
def tw9749306733883183106:=0
def tw16126971669446272319:=0
def tw12816748835974044992:=0
def tw17358117652642007282:=0
def tw16642586173283329551:=0
def tw7545956106539143179:=0
def tw15488592774683227515:=0
def tw6780913676420759800:=0
def tw15614128279002221610:=0
def tw15338712754497377735:=0
def tw2951150430931640088:=0
def tw11678369536486313103:=0
def tw10959804836256952941:=0
def tw16843639996966228486:=0
def tw1127313539759577545:=0
def tw10684814804659296721:=0
def tw8358907208408835886:=0
def tw3599411403428239403:=0
def tw10833868269316238740:=0
def tw1068989109094462649:=0
def tw7832246720929728009:=0
def tw17027156481846360205:=0
def tw14103529925095981168:=0
def tw13511057796224883341:=0
def tw10906824673976636317:=0
def tw8586172737602149117:=0
def tw17264540076322895783:=0
def tw2113634646925926965:=0
def tw11250787542342125752:=0
def tw12996716347465053489:=0
def tw5624052738051648485:=0
def tw16753962725288439343:=0
def tw15386542550553464061:=0
def tw16148792829687567113:=0
def tw10100889244176610966:=0
def tw2472462409307401061:=0
def tw2468154074561610147:=0
def tw17330969112857294812:=0
def tw4125261462485300914:=0
def tw8811914220193086142:=0
def tw7448330816249868590:=0
def tw10912979182249777217:=0
def tw5792753706236023700:=0
def tw9086765398450516871:=0
def tw9504642902148683334:=0
def tw3024404577033526599:=0
def tw4855202354302483572:=0
def tw13386173842787054049:=0
def tw17796835495660000222:=0
def tw9654846262741982003:=0
def tw14762360044867429969:=0
def tw16855345620130882494:=0
def tw11626526622253283571:=0
def tw4148147112885486894:=0
def tw3189690226598609220:=0
def tw2526117364326744085:=0
def tw18254132404573769893:=0
def tw5437149435762010164:=0
def tw9932904121849246705:=0
def tw13137410210106651885:=0
def tw12780380551092126287:=0
def tw11078121764171165438:=0
def tw6138632056191717592:=0
def tw7221443015942768131:=0
def tw3171819215214274371:=0
def tw11116089957194542000:=0
def tw7567509352125121725:=0
def tw13894139691505111815:=0
def tw13411548407724306314:=0
def tw8602832636998118679:=0
def tw11310910924311351074:=0
def tw9911219189025554712:=0
def tw11056911262790262388:=0
def tw333641916825154484:=0
def tw5613457827684162005:=0
def tw9805383027948207348:=0
def tw9918113092023029285:=0
def tw13030387607890619784:=0
def tw11449501561302480614:=0
def tw16891922544133538130:=0
def tw5045465499335103203:=0
def tw16700896560544149407:=0
def tw17979687000119310664:=0
def tw8721965582660578109:=0
def tw12559760219167905545:=0
def tw18252087776123850148:=0
def tw14905659544024616989:=0
def tw2193621770234873783:=0
def tw11425197580927979727:=0
def tw17368742220926634652:=0
def tw16180041163286827756:=0
def tw4878839333977424080:=0
def tw17330640514636371421:=0
def tw10133059658857575136:=0
def tw6406190946567449029:=0
def tw9716327179980266749:=0
def tw11328967430272317568:=0
def tw9012945044492408823:=0
def tw1528683695906984676:=0
def tw18418963767611497586:=0
def tw7632418243365187221:=0
def tw13478042654729387063:=0
def tw14187285789631513910:=0
def tw3580393400410785303:=0
def tw11073544742198997756:=0
def tw5926262873028584270:=0
def tw18382288259506541199:=0
def tw8867376477038328034:=0
def tw6896134063475540436:=0
def tw10416933259507053317:=0
def tw5757172016641702751:=0
def tw14451958109104631379:=0
def tw14592016820472623827:=0
def tw8944956973527087920:=0
def tw17937774119148753863:=0
def tw1256247460620371897:=0
def tw15926208157372369797:=0
def tw10285670538175194886:=0
def tw13302301493849888421:=0
def tw3543225531110458742:=0
def tw7094971831551261666:=0
def tw17092321127587513159:=0
def tw4060596654085179814:=0
def tw8249349276772463129:=0
def tw1321570784124360468:=0
def tw16254325468611734405:=0
def tw18161350548806702998:=0
def tw1135393916649332362:=0
def tw7664417880830845018:=0
def tw9017106257162563416:=0
def tw15654759252176997602:=0
def tw12407039274088196677:=0
def tw16080680212212779346:=0
def tw3520062893144207836:=0
def tw13994530438907093756:=0
def tw5355345725165820756:=0
def tw13585773215324012646:=0
def tw6887541319325807054:=0
def tw7712397248686927454:=0
def tw6760405524713151372:=0
def tw13537263940297528031:=0
def tw5384772135933535612:=0
def tw2157109254318737660:=0
def tw18037846333509221924:=0
def tw14123297975599849056:=0
def tw1854107649377189807:=0
def tw6173909754357763713:=0
def tw3391003441732654349:=0
def tw11386076627112028656:=0
def tw17424808750231366362:=0
def tw17689203549585162214:=0
def tw7386645814290633443:=0
def tw13212245709608418064:=0
def tw7004077644413738634:=0
def tw8104334436948429915:=0
def tw14686023954044991420:=0
def tw2355013605974640688:=0
def tw10557308058927385478:=0
def tw5381787126799361140:=0
def tw15854844589347277675:=0
def tw10848123546926404007:=0
def tw12912994346246739635:=0
def tw7719776415742553991:=0
def tw6994345973167795054:=0
def tw13858968452121160914:=0
def tw6418469820654567415:=0
def tw10737167521274965110:=0
def tw15086227889470446897:=0
def tw4187418385149744258:=0
def tw12968597172209412823:=0
def tw15823499473932184096:=0
def tw12365357054160216416:=0
def tw47063804151751387:=0
def tw2706551479080503690:=0
def tw6510504871789027015:=0
def tw15931634985493155655:=0
def tw12730244864946810697:=0
def tw9321615054002274029:=0
def tw7150603849023502710:=0
def tw9556110732866487298:=0
def tw10376335654312453900:=0
def tw5018709633232711113:=0
def tw5601404899095687541:=0
def tw17039427452791572647:=0
def tw673607662834104736:=0
def tw15946160782765625023:=0
def tw18255868508313295914:=0
def tw1576573198330320773:=0
def tw12030094796662791574:=0
def tw6377972581953655895:=0
def tw9730033796401203461:=0
def tw17123981126880967001:=0
def tw3467807474897298585:=0
def tw3289427039472363192:=0
def tw12565903182227422318:=0
def tw3989244872677623808:=0
def tw5629505913368084017:=0
def tw17161712941061234623:=0
def tw1054299291963507159:=0
def tw10459630960447189259:=0
def tw16597359533558267184:=0
def tw15287456416765587689:=0
def tw12669759825290340291:=0
def tw15170663370807795847:=0
def tw2662318617447864331:=0
def tw3418294569188793435:=0
def tw3378915811752397576:=0
def tw15251196816218971289:=0
def tw2914198867523320485:=0
def tw15541219132578100786:=0
def tw4187517971171912184:=0
def tw18191698439071442852:=0
def tw2417369720725850885:=0
def tw4997468391343407015:=0
def tw14882224684273503836:=0
def tw17804342512545812327:=0
def tw5650021495183419858:=0
def tw6711403006310439116:=0
def tw16923047634562142123:=0
def tw6733829395374611746:=0
def tw17937407721752358842:=0
def tw1569514769802391702:=0
def tw16695814242340895026:=0
def tw9152917947220231543:=0
def tw8898079251094890109:=0
def tw16574061737814536405:=0
def tw14665003524224680056:=0
def tw7787081700007484122:=0
def tw15205320464669955572:=0
def tw2886571465140758692:=0
def tw5656384265938346407:=0
def tw8868562470748661069:=0
def tw12736209725932703081:=0
def tw10648718063191168704:=0
def tw14887377084398080295:=0
def tw15430767574656271332:=0
def tw6642536004243051212:=0
def tw14555620959798247158:=0
def tw13466329810282959616:=0
def tw2225992582994331047:=0
def tw3041652511496045410:=0
def tw12036059445039669849:=0
def tw3961684741649347176:=0
def tw8165962235003799629:=0
def tw9034026176682761848:=0
def tw3127809465284409632:=0
def tw5757354378232503690:=0
def tw9552257964942113727:=0
def tw636324128379581807:=0
def tw9626587710091827294:=0
def tw5364777497735938049:=0
def tw4218273220169385267:=0
def tw7443995775559886148:=0
def tw8396806504757785512:=0
def tw18442216400041793813:=0
def tw12445114848992984619:=0
def tw9950524475684556219:=0
def tw2578594017547316398:=0
def tw203229024457143003:=0
def tw8396429988882123128:=0
def tw18339379723017148693:=0
def tw6698212515323549522:=0
def tw1296274139755420496:=0
def tw8971877041567453734:=0
def tw4763087558029182368:=0
def tw1000043354178494790:=0
def tw10504868380833623962:=0
def tw18289409509634413724:=0
def tw10415112398534956197:=0
def tw15689071985142224101:=0
def tw2079153599880325889:=0
def tw10860742078727594036:=0
def tw9007475812170747132:=0
def tw3117311688029476036:=0
def tw9481204810836110832:=0
def tw16287928477663349712:=0
def tw1814797408998137808:=0
def tw891988431953727888:=0
def tw8022622948923831601:=0
def tw13741351379857334076:=0
def tw1798745931705389912:=0
def tw4551966951168574102:=0
def tw962219435895765839:=0
def tw17318905083356319460:=0
def tw17537924075751406290:=0
def tw5236108086737095733:=0
def tw18411940448656520283:=0
def tw16920858079575100225:=0
def tw10948019437902072295:=0
def tw9375010966459184810:=0
def tw11890257569976734804:=0
def tw13997753608992332131:=0
def tw10712186105041309981:=0
def tw13071823585559042554:=0
def tw9981549028626804679:=0
def tw18263211184258332219:=0
def tw4102842583415255678:=0
def tw7171782015914923065:=0
def tw16250532221741738308:=0
def tw1908948120097472319:=0
def tw15513146528694676370:=0
def tw4501749650904283471:=0
def tw11794545285029631580:=0
def tw14538352906679336562:=0
def tw14299526279505674937:=0
def tw2189212132987378607:=0
def tw5403086221681382000:=0
def tw9304110462806119325:=0
def tw3905147652805334227:=0
def tw15568518653285201656:=0
def tw17164673008151268087:=0
def tw17636135392759280020:=0
def tw9719051197126006917:=0
def tw8858944178770217054:=0
def tw10506815765264189487:=0
def tw2418498275037544715:=0
def tw6571870370476209778:=0
def tw9797898008253819620:=0
def tw4444968575282333350:=0
def tw9602932309281869189:=0
def tw10607853430380469890:=0
def tw11685796478404809699:=0
def tw3501218850419263021:=0
def tw11135784699592466498:=0
def tw14113017751539241831:=0
def tw764403955854757487:=0
def tw10593166131788836422:=0
def tw17413975771712847621:=0
def tw2409424789372620936:=0
def tw15263708094748378035:=0
def tw5134047039283585963:=0
def tw2996677822955839555:=0
def tw7550968569473017022:=0
def tw15530566421995209233:=0
def tw1453724895229473073:=0
def tw12329801933293395585:=0
def tw2970464253244049523:=0
def tw14890252116220311601:=0
def tw2393153077010001169:=0
def tw5740077692231758850:=0
def tw1663131252239871754:=0
def tw85859663426630847:=0
def tw4522373575998399644:=0
def tw7931802699103610255:=0
def tw1864914516348283771:=0
def tw5628513534883489680:=0
def tw16991287474748059108:=0
def tw15043077075683218810:=0
def tw16210766920600723386:=0
def tw6293554015854649451:=0
def tw11425951232853201520:=0
def tw16495130875379884765:=0
def tw15416727937825279185:=0
def tw2940392355551200562:=0
def tw17140984402864446683:=0
def tw13263156202353151284:=0
def tw17950109452124449176:=0
def tw6034826980563110641:=0
def tw10759712838842338959:=0
def tw10073386447363967585:=0
def tw18433633285989028676:=0
def tw17028715002173755838:=0
def tw2499825968359079535:=0
def tw5490488067635039705:=0
def tw12878510648935506797:=0
def tw14178379323489405941:=0
def tw15654823084311399806:=0
def tw3189354604285521482:=0
def tw8560735299481093324:=0
def tw10399297554877895356:=0
def tw9178241804877055301:=0
def tw16844931015179767299:=0
def tw11670245835255791655:=0
def tw17657662024478044548:=0
def tw6613029547538504722:=0
def tw9154976183535112195:=0
def tw1496968052598141051:=0
def tw15734571288803905667:=0
def tw5677735368783640111:=0
def tw4455959728838013899:=0
def tw14438458945965767693:=0
def tw17717548887406987982:=0
def tw2143944140650163244:=0
def tw2874378894696175603:=0
def tw15481767303469027896:=0
def tw1773983163488511572:=0
def tw9242898014105701733:=0
def tw5052576488863301535:=0
def tw5627602924395624670:=0
def tw3982742857826559865:=0
def tw7041029413442085671:=0
def tw2622061807284024394:=0
def tw17912515667737938269:=0
def tw17517320215080711085:=0
def tw10176873661886548481:=0
def tw1552492492328490128:=0
def tw2873102097162475904:=0
def tw13377038173424082975:=0
def tw6650675539928180473:=0
def tw8474327731737827524:=0
def tw1943104225172144126:=0
def tw4142723131848163001:=0
def tw16608983696875916659:=0
def tw923721335735190108:=0
def tw6562955135579987245:=0
def tw14676242613248636910:=0
def tw14054019393673867299:=0
def tw841060924669957555:=0
def tw10901944249974273092:=0
def tw14344626356527487859:=0
def tw204730403375807941:=0
def tw16909347489564372660:=0
def tw12513776067122705380:=0
def tw5850444757413062720:=0
def tw15881810681128494674:=0
def tw16792802676538985984:=0
def tw6094498948363548185:=0
def tw3924293807064699344:=0
def tw1500802051396305637:=0
def tw18329596154101133923:=0
def tw15721529313421592556:=0
def tw15188886587075653660:=0
def tw7936216582386117923:=0
def tw10493919905379989294:=0
def tw1636448808862586542:=0
def tw10838662933436855172:=0
def tw9158186075181924420:=0
def tw1100395704549534309:=0
def tw11816227494152620037:=0
def tw4937700217043271412:=0
def tw7254662524796809870:=0
def tw17563248160260377766:=0
def tw8644888397140920534:=0
def tw14019014810484607614:=0
def tw13345737234040813538:=0
def tw8494883399742106555:=0
def tw14851783440083234590:=0
def tw15633786797989051033:=0
def tw7176295293024903584:=0
def tw5319408929912415048:=0
def tw3102190166551050138:=0
def tw10369252331730421591:=0
def tw2932325346678863938:=0
def tw15701616411955319485:=0
def tw9206295484781167993:=0
def tw11169169932725364439:=0
def tw11311195731212775152:=0
def tw17581859829247947053:=0
def tw11823981461236243159:=0
def tw14485489804534111723:=0
def tw16654591553569373189:=0
def tw11126173605540962390:=0
def tw11974556054904258996:=0
def tw3340988008024762819:=0
def tw16732773337298948516:=0
def tw10706612866450106829:=0
def tw4162434835552283332:=0
def tw4136246250869219743:=0
def tw12982672654615811584:=0
def tw10653827362067466388:=0
def tw187593059185557426:=0
def tw15228363555461324867:=0
def tw730946073174771094:=0
def tw6362790523936265810:=0
def tw8510116751841961728:=0
def tw17109946335545019666:=0
def tw9091304231555714604:=0
def tw15478951077887229660:=0
def tw13882485716931335305:=0
def tw285833097343743618:=0
def tw11479749624244062720:=0
def tw12668616417037003613:=0
def tw7375542731564890243:=0
def tw17370520552560043216:=0
def tw9548219122614068857:=0
def tw9605121942782442733:=0
def tw9471485273248975764:=0
def tw11712896741032610640:=0
def tw13482039077560659643:=0
def tw11687465312111329583:=0
def tw3541606787088213681:=0
def tw119359573856426930:=0
def tw18375000327244696502:=0
def tw17231850633744732290:=0
def tw12127130841507672607:=0
def tw8669374939197842504:=0
def tw3870728386985339701:=0
def tw3607126166596084340:=0
def tw9700052233283220623:=0
def tw1604292187427360737:=0
def tw12790855120737186437:=0
def tw18008581119651454625:=0
def tw3842185406116017018:=0
def tw874089078549986941:=0
def tw12281060798948972224:=0
def tw7307579594783553936:=0
def tw8656337718345102332:=0
def tw17983896547315734121:=0
def tw3696547892505047053:=0
def tw13746288474823815906:=0
def tw5495974937908420172:=0
def tw8890503130623211045:=0
def tw170961485593855450:=0
def tw5064922972523837891:=0
def tw3488106199963062890:=0
def tw4352916607326443696:=0
def tw12693563774759693561:=0
def tw929992521779755918:=0
def tw3915455000946319461:=0
def tw5801954641072775977:=0
def tw10454510582019362428:=0
def tw8818649142249702516:=0
def tw12764202129947449530:=0
def tw2355477418210197455:=0
def tw15047588706676814294:=0
def tw12777884140802339666:=0
def tw479998282441565267:=0
def tw15775720535552873332:=0
def tw13599667458309372451:=0
def tw490219677244911643:=0
def tw18018451256383347872:=0
def tw3961267249931698113:=0
def tw7885612561863823281:=0
def tw17753262238705956774:=0
def tw3011206394437389896:=0
def tw917810281543498291:=0
def tw757671126941248336:=0
def tw17361226516325051242:=0
def tw14798794895626706556:=0
def tw17264287866626470717:=0
def tw12356005083014522779:=0
def tw6436240589704569344:=0
def tw8607628639263783205:=0
def tw10379814427919907449:=0
def tw15683423198969201916:=0
def tw220652465575959039:=0
def tw3798617184008979810:=0
def tw4093060304605031979:=0
def tw12949035468423816408:=0
def tw12981821483207829263:=0
def tw18400900406986100467:=0
def tw5175711289764971146:=0
def tw6743177907073418652:=0
def tw4484068085524902605:=0
def tw3861415083639530205:=0
def tw10164943443926648032:=0
def tw17178602654084565465:=0
def tw10390911266578192377:=0
def tw11097248716709571144:=0
def tw12375538060163847048:=0
def tw14791043725321057328:=0
def tw6225111135000922717:=0
def tw1766526113094759526:=0
def tw6561119437002797586:=0
def tw11370592856668323554:=0
def tw13828929164764463450:=0
def tw13556144229836222700:=0
def tw12421054951244457737:=0
def tw13159211959120597013:=0
def tw17015993746960256711:=0
def tw1403395933339116288:=0
def tw14878814492184055914:=0
def tw1535435980317541604:=0
def tw13280103664516905746:=0
def tw14376558667349911230:=0
def tw14398235911852884078:=0
def tw11995033460525867539:=0
def tw11487023799012544165:=0
def tw14826399138543501902:=0
def tw16403160730466648138:=0
def tw9692389027371672108:=0
def tw17923539670073437707:=0
def tw6160510405686292523:=0
def tw10058041256985284650:=0
def tw18400077244495045674:=0
def tw1039354808282713349:=0
def tw14130659845418976294:=0
def tw2117333988899181995:=0
def tw4258387968616181584:=0
def tw8637874018706567927:=0
def tw6893526390296294927:=0
def tw9442202314403195644:=0
def tw8093693037895699777:=0
def tw384401460875105858:=0
def tw13916142416339775387:=0
def tw6447436129310141129:=0
def tw5522743394317836230:=0
def tw11407900706175381744:=0
def tw8838532871791128434:=0
def tw3518294403247146523:=0
def tw17831993783414504653:=0
def tw7891149314094003046:=0
def tw4427343867152851235:=0
def tw8323698179329541457:=0
def tw9246490700355190709:=0
def tw18005186868090437311:=0
def tw2512260697424888666:=0
def tw16661871490105146698:=0
def tw7338878595980782209:=0
def tw14589515596635638213:=0
def tw16257077557929099906:=0
def tw1277130979668869474:=0
def tw12324776138644633737:=0
def tw13801918905198675283:=0
def tw9472650248383205455:=0
def tw576101622710028159:=0
def tw7634846510755615617:=0
def tw9281518046408470779:=0
def tw3986928472488034758:=0
def tw871089453200170731:=0
def tw1632965636516575850:=0
def tw14499415283820492805:=0
def tw7453785075274856208:=0
def tw11914373895864366383:=0
def tw7362354342547105094:=0
def tw2864255780490802435:=0
def tw6264118366751373418:=0
def tw7022232181367224452:=0
def tw13992237763322020845:=0
def tw9695291308371311888:=0
def tw13812379111309524843:=0
def tw13252098491608543754:=0
def tw1619661756230625437:=0
def tw18090983854280082639:=0
def tw4671064391217300179:=0
def tw3134809118692126734:=0
def tw15435714761920719732:=0
def tw5796898792140943735:=0
def tw15303696707685546939:=0
def tw4273403083345445145:=0
def tw7425476791080462596:=0
def tw11439547387809657489:=0
def tw11794997107242036964:=0
def tw7537144634120665420:=0
def tw2540442283334932088:=0
def tw9238226917935191984:=0
def tw15487691561132960738:=0
def tw7321954061148466424:=0
def tw6589475517699905560:=0
def tw5648696488948232774:=0
def tw18124091747298329507:=0
def tw10735214251065349425:=0
def tw10036744336075837576:=0
def tw12630053792156909989:=0
def tw15378180756356443526:=0
def tw14065310591891158562:=0
def tw4698844908188831422:=0
def tw3468503026108206831:=0
def tw11281352943973228332:=0
def tw10264505372083913606:=0
def tw16285777842344029528:=0
def tw10807949811438734925:=0
def tw17492381374238864108:=0
def tw11352038822742717829:=0
def tw14395723814793551859:=0
def tw3790356565281063010:=0
def tw13105041428230988730:=0
def tw6025638603052457742:=0
def tw4755048062162600335:=0
def tw962715330455179466:=0
def tw4458901489018745419:=0
def tw11173823340181833800:=0
def tw12530958945230306855:=0
def tw13430779626711788289:=0
def tw571286762902951441:=0
def tw16228085485732229938:=0
def tw13469046469105441393:=0
def tw5976593162753790336:=0
def tw4407197221736898680:=0
def tw6886005846613346929:=0
def tw17061054270719245808:=0
def tw13165616838385920810:=0
def tw2563495520155797666:=0
def tw17779440962411522070:=0
def tw14937188009906893065:=0
def tw7232076567292859077:=0
def tw6961028736900521086:=0
def tw16598018832642103639:=0
def tw12467466558169546673:=0
def tw15128628989691492702:=0
def tw14476492792702514629:=0
def tw4291905522883307082:=0
def tw10347012573698596727:=0
def tw11568162028262412805:=0
def tw17917655612879837596:=0
def tw17132070763012219983:=0
def tw5489313281047408947:=0
def tw6309190709608649671:=0
def tw10901638414208181293:=0
def tw4081764887525797605:=0
def tw6797763153559280143:=0
def tw14830470358213911177:=0
def tw2434155492120367934:=0
def tw1957538392125153141:=0
def tw14457569184592732629:=0
def tw11144366432496605845:=0
def tw859505713462209672:=0
def tw3204887128423847541:=0
def tw13080200863011922763:=0
def tw9171875323384099801:=0
def tw9003297244361926950:=0
def tw9038823979001472819:=0
def tw6714174953800331424:=0
def tw17977997017190101438:=0
def tw10879385677648504345:=0
def tw4868591752231366822:=0
def tw2333833645474768367:=0
def tw14708693068277763544:=0
def tw13693580533474539491:=0
def tw7880223729167960286:=0
def tw5684694497704215111:=0
def tw4330564228178560254:=0
def tw17718913595329001886:=0
def tw17196474892528350183:=0
def tw13301486118477473665:=0
def tw3586901999610541211:=0
def tw5028308281237377467:=0
def tw9061119108065248620:=0
def tw8101162500346234997:=0
def tw362201753234570907:=0
def tw287289968941806099:=0
def tw16047973117539642359:=0
def tw17086698478067281898:=0
def tw4953583958390052366:=0
def tw14671022317368634371:=0
def tw17139994544616978486:=0
def tw268837040330818547:=0
def tw4313377354149958962:=0
def tw4655178398177203517:=0
def tw1115469138625325165:=0
def tw2590185770818893209:=0
def tw5875085943337578539:=0
def tw14318351884977653099:=0
def tw12072786278316480827:=0
def tw7199392463311690028:=0
def tw6208138305609910721:=0
def tw17242289791084592499:=0
def tw17379515964152542142:=0
def tw5920597665921922141:=0
def tw12744414900040733376:=0
end PySem.W.Fast
set_option maxRecDepth 100000 in
set_option maxHeartbeats 0 in
theorem PySem.Challenge.cw_letterdesk_k06_whole_waiting_and_overdue_holds : PySem.Challenge.rw_letterdesk_k06_whole_waiting_and_overdue.Holds := by
 w_on;o_law;k_head;(case hw=>w_witness2);k_fill;refine End4.walk (l:=PySem.Challenge.rw_letterdesk_k06_whole_waiting_and_overdue) rfl rfl (λw h Y=>PySem.W.km_in_of Y) (λw h Y=>PySem.W.km_tabs_of Y _ (bY7 ..)) ?F;case F=>
  intro w d c h b G a;refine' End4.all_mk b G a ?d60 ?d61 ?d62 ?d63 ?d64 ?d65 ?d66 ?d67 ?d68 ?d69 ?d70 ?d71 ?d9 ?d24 ?cl ?d10 ?d11 ?d12 ?d13 ?d15 ?d16 ?d17 ?d18 ?d19 ?d20 ?d21 ?d22 ?d23 ?d25 ?d28 ?d29 ?d30 ?d31 ?d32 ?d33 ?d34 ?d35 ?d36 ?d37 ?d38 ?d39 ?d58 ?d1 ?d2 ?d3 ?d4 ?d5 ?d6 ?d7 ?d8 ?d14 ?d26 ?d27 ?d56 ?d57 ?d59 ?d72 ?d73 ?d74 ?d75 ?d76 ?d77 ?d78 ?d79 ?d80 ?d81 ?d82 ?d83 ?d84 ?d85 ?d86 ?d87 ?d88 ?d89 ?d90 ?d91 ?d92 ?d93 ?d94 ?d95 ?d40 ?d41 ?d42 ?d43 ?d44 ?d45 ?d46 ?d47 ?d48 ?d49 ?d50 ?d51 ?d52 ?d53 ?d54 ?d55 ?dL ?aA ?lA ?cA1 ?kA ?nD ?lD ?pD ?z_len ?z_min ?z_sum ?z_sorted ?z_isinstance ?z_int ?z_str ?z_bool ?z_list ?z_tuple ?z_set ?z_range ?z_reversed ?z_max ?y_week ?y_open ?tb ?tn;(case d60=>apply End4.bVA<;> first|k_is|kernel_rfl);(case d61=>apply End4.uV<;> first|k_is|kernel_rfl);(case d62=>apply End4.uV<;> first|k_is|kernel_rfl);(case d63=>apply End4.uV<;> first|k_is|kernel_rfl);(case d64=>apply End4.uV<;> first|k_is|kernel_rfl);(case d65=>apply End4.uV<;> first|k_is|kernel_rfl);(case d66=>apply End4.uV<;> first|k_is|kernel_rfl);(case d67=>apply End4.uV<;> first|k_is|kernel_rfl);(case d68=>apply End4.uV<;> first|k_is|kernel_rfl);(case d69=>apply End4.uV<;> first|k_is|kernel_rfl);(case d70=>apply End4.uV<;> first|k_is|kernel_rfl);(case d71=>apply End4.uV<;> first|k_is|kernel_rfl);(case d9=>apply End4.bJi<;> k_is);(case d24=>apply End4.bJi<;> k_is);(case cl=>apply End4.bKR<;> k_is);(case d10=>apply End4.x4<;> k_is);(case d11=>apply End4.x4<;> k_is);(case d12=>apply End4.x4<;> k_is);(case d13=>apply End4.x4<;> k_is);(case d15=>apply End4.x4<;> k_is);(case d16=>apply End4.x4<;> k_is);(case d17=>apply End4.x4<;> k_is);(case d18=>apply End4.x4<;> k_is);(case d19=>apply End4.x4<;> k_is);(case d20=>apply End4.x4<;> k_is);(case d21=>apply End4.x4<;> k_is);(case d22=>apply End4.x4<;> k_is);(case d23=>apply End4.x4<;> k_is);(case d25=>apply End4.x4<;> k_is);(case d28=>apply End4.x4<;> k_is);(case d29=>apply End4.x4<;> k_is);(case d30=>apply End4.x4<;> k_is);(case d31=>apply End4.x4<;> k_is);(case d32=>apply End4.x4<;> k_is);(case d33=>apply End4.x4<;> k_is);(case d34=>apply End4.x4<;> k_is);(case d35=>apply End4.x4<;> k_is);(case d36=>apply End4.x4<;> k_is);(case d37=>apply End4.x4<;> k_is);(case d38=>apply End4.x4<;> k_is);(case d39=>apply End4.x4<;> k_is);(case d58=>apply End4.x4<;> k_is);(case d1=>apply End4.xM<;> k_is);(case d2=>apply End4.xM<;> k_is);(case d3=>apply End4.xM<;> k_is);(case d4=>apply End4.xM<;> k_is);(case d5=>apply End4.xM<;> k_is);(case d6=>apply End4.xM<;> k_is);(case d7=>apply End4.xM<;> k_is);(case d8=>apply End4.xM<;> k_is);(case d14=>apply End4.xM<;> k_is);(case d26=>apply End4.xM<;> k_is);(case d27=>apply End4.xM<;> k_is);(case d56=>apply End4.xM<;> k_is);(case d57=>apply End4.xM<;> k_is);(case d59=>apply End4.xM<;> k_is);(case d72=>apply End4.xM<;> k_is);(case d73=>apply End4.xM<;> k_is);(case d74=>apply End4.xM<;> k_is);(case d75=>apply End4.xM<;> k_is);(case d76=>apply End4.xM<;> k_is);(case d77=>apply End4.xM<;> k_is);(case d78=>apply End4.xM<;> k_is);(case d79=>apply End4.xM<;> k_is);(case d80=>apply End4.xM<;> k_is);(case d81=>apply End4.xM<;> k_is);(case d82=>apply End4.xM<;> k_is);(case d83=>apply End4.xM<;> k_is);(case d84=>apply End4.xM<;> k_is);(case d85=>apply End4.xM<;> k_is);(case d86=>apply End4.xM<;> k_is);(case d87=>apply End4.xM<;> k_is);(case d88=>apply End4.xM<;> k_is);(case d89=>apply End4.xM<;> k_is);(case d90=>apply End4.xM<;> k_is);(case d91=>apply End4.xM<;> k_is);(case d92=>apply End4.xM<;> k_is);(case d93=>apply End4.xM<;> k_is);(case d94=>apply End4.xM<;> k_is);(case d95=>apply End4.xM<;> k_is);(case d40=>apply End4.xT<;> k_is);(case d41=>apply End4.xT<;> k_is);(case d42=>apply End4.xT<;> k_is);(case d43=>apply End4.xT<;> k_is);(case d44=>apply End4.xT<;> k_is);(case d45=>apply End4.xT<;> k_is);(case d46=>apply End4.xT<;> k_is);(case d47=>apply End4.xT<;> k_is);(case d48=>apply End4.xT<;> k_is);(case d49=>apply End4.xT<;> k_is);(case d50=>apply End4.xT<;> k_is);(case d51=>apply End4.xT<;> k_is);(case d52=>apply End4.xT<;> k_is);(case d53=>apply End4.xT<;> k_is);(case d54=>apply End4.xT<;> k_is);(case d55=>apply End4.xT<;> k_is);(case dL=>apply End4.xT<;> k_is);(case aA=>k_is);(case lA=>k_is);(case cA1=>k_is);(case kA=>k_is);(case nD=>k_is);(case lD=>k_is);(case pD=>exact⟨⟨_,rfl⟩,rfl,rfl,⟨_,rfl⟩,rfl,rfl,⟨_,rfl⟩,rfl,rfl,⟨_,rfl⟩,rfl,rfl,⟨_,rfl⟩,rfl,rfl,⟨_,rfl⟩,rfl,rfl,⟨_,rfl⟩,rfl,rfl,⟨_,rfl⟩,rfl,rfl,⟨_,rfl⟩,rfl,rfl,⟨_,rfl⟩,rfl,rfl,⟨_,rfl⟩,rfl,rfl,⟨_,rfl⟩,rfl,rfl,⟨_,rfl⟩,rfl,rfl,⟨_,rfl⟩,rfl,rfl,⟨_,rfl⟩,rfl,rfl,⟨_,rfl⟩,rfl,rfl,⟨_,rfl⟩,rfl,rfl,cXg⟩);(case z_len=>k_is);(case z_min=>k_is);(case z_sum=>k_is);(case z_sorted=>k_is);(case z_isinstance=>k_is);(case z_int=>k_is);(case z_str=>k_is);(case z_bool=>k_is);(case z_list=>k_is);(case z_tuple=>k_is);(case z_set=>k_is);(case z_range=>k_is);(case z_reversed=>k_is);(case z_max=>k_is);(case y_week=>k_is);(case y_open=>k_is);(case tb=>kernel_rfl);(case tn=>kernel_rfl)
