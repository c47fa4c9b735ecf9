import PyProof.Rows.All
import Wide.All
import OpenK.AllK
import Wide.FinOn
import KE.KLam
import KE.KNestM
import KE.KSortTup
import Lean
import OpenK.KCls
import PyProof.CollectWalk
import PyProof.CompMap
import PyProof.DictStraight
import PyProof.EqAt
import PyProof.EqKinds
import PyProof.ExcArgs
import PyProof.ExcBaseAll.Exception
import PyProof.FactsAll.set
import PyProof.FactsBase
import PyProof.InstStoreFacts
import PyProof.ListRange
import PyProof.LongRange
import PyProof.MakeMany
import PyProof.MinMaxWalk
import PyProof.NeKinds
import PyProof.Rows.SetFrom
import PyProof.Rows.SortWalk
import PyProof.SeqI3
import PyProof.SetKind
import PyProof.SetNew
import PyProof.SetScanFacts
import PyProof.StationsW
import PyProof.TupleCall
import PyProof.WalkInts
import PyProof.Walks
import PySem.Challenge.RW_letterdesk_k08_whole_put_right_and_back
set_option Elab.async false
set_option linter.all false
set_option maxRecDepth 100000
set_option maxHeartbeats 4000000
open Array renaming length_toList → cXJ, getElem?_eq_getElem → cXT, getElem?_toList → cXZ, getElem?_eq_some_iff → cZR, getD → cZW, getElem?_eq_none → cJm, getElem?_extract_of_lt → cVv, getElem?_append_left → cVG, perm_iff_toList_perm → cVH
open Classical renaming choose_spec → cVa, byContradiction → cVS
open False renaming elim → cXX
open ForInStep renaming yield → cVf
open Int renaming toNat_natCast → cQV, not_lt → cZH, zero_add → cZL
open List renaming getElem?_eq_getElem → cQn, length_map → cQt, range → cQy, mem_cons → cQz, getElem?_eq_some_iff → cQA, mem_cons_of_mem → cQB, mem_singleton → cQD, size_toArray → cQF, mem_cons_self → cQG, mem_of_getElem? → cQH, getElem?_map → cQJ, getElem?_append_right → cQK, length_append → cQL, mem_append_right → cQN, mem_range → cQT, getElem?_eq_none → cQW, mem_append → cQY, getElem?_append_left → cQ0, getD → cQ8, map_cons → cXa, replicate → cXc, getElem_of_mem → cXe, mem_filter → cXf, length_range → cXh, length_filter_le → cXn, length_cons → cXp, append_nil → cXr, mem_map → cXt, take_length → cXw, length_singleton → cXx, length_pos_iff → cXy, toArray → cXz, take_add_one → cXA, filter_append → cXC, append_assoc → cXL, pairwise_singleton → cXP, pairwise_cons → cXQ, length_take → cXS, contains_iff_mem → cX1, map_append → cX2, filter_cons_of_neg → cX8, filter_cons_of_pos → cX9, ext_getElem? → cZc, getElem_inj → cZg, lookup_cons → cZh, filter_sublist → cZp, getElem?_range → cZq, length → cZs, length_nil → cZw, mem_append_left → cZx, nodup_cons → cZy, any_cons → cZD, replicate_succ → cZF, getElem_mem → cZG, getElem?_set_self → cZI, lookup → cZJ, contains_cons → cZM, find?_cons → cZO, range_succ → cZP, nodup_append → cZU, pairwise_iff_getElem → cZY, not_mem_nil → cZ4, filterMap_cons → cJc, filter_eq_self → cJd, eq_nil_of_length_eq_zero → cJn, map_map → cJr, all_eq_true → cJA, getElem?_set_ne → cJB, nodup_range → cJC, all_cons → cJF, zip → cJR, flatten_cons → cJX, pairwise_map → cJY, map_id → cJ4, append_inj' → cJ6, cons_append → cJ7, countP_cons → cJ8, forIn_cons → cVg, pairwise_append → cVh, map_congr_left → cVr, toList_toArray → cVs, Perm → cVB, filter_congr → cVK, foldl_append → cVL, getElem?_eq_none_iff → cVT
open Nat renaming le_refl → cQv, ne_of_lt → cQP, lt_of_lt_of_le → cQR, le_trans → cQZ, zero_le → cXo, lt_succ_of_lt → cXB, lt_irrefl → cXD, sub_self → cXH, lt_succ_self → cXM, le_succ_of_le → cXY, not_lt_zero → cX3, le_succ → cZv, le_of_eq → cZ5, le_of_lt → cZ6, ne_of_gt → cZ7, lt_or_ge → cJs
open Ne renaming symm → cQ6
open Option.some renaming inj → cQI, injEq → cVM
open PyProof.Rows renaming seqObj → cXb, envOfC → cZm, IntsAre → cZZ, slot_tuple_getitem → cJf, IsTup → cJi, get?_update_seq → cJk, callWith_type1 → cJw, listUpdate_at → cJH, entry_list_sort → cVw, args_list_sort → cVD, slot_list_sort → cVE, assignInOrder_cons → cVF
open PyProof.Rows.F renaming plain_set_update_loop → cZN, entry_set_update_loop → cJT
open PyProof.Rows.IntsAre renaming int_at → cVC
open PySem renaming wpAny_bind → cQo, Value → cQp, Shared → cQr, wpAny_pure → cQs, wpAny → cQw, model → cQx, sizeLine → cQM, Program → cQO, sizeLine_eq → cQQ, mainGlobals → cQX, World → cQ1, starEach → cQ5, bootBuiltins → cQ7, Around → cXi, Paired → cXk, wpAny_mono → cXs, wpAny_newObj_type → cXG, rawInt → cXI, wpAny_holding → cXK, mem_of_lookup → cXV, compareOp → cXW, backTo → cX6, wpAny_Call_Name_kw → cX7, wpAny_call_entry → cZa, SetTable → cZe, Builtin → cZf, codeAny_mono → cZj, FuncData → cZn, wpAny_truthy_bool → cZo, wpAny_setField → cZu, codeAny_builtin → cZB, codeAny → cZC, wpAny_callSpecial?_slot → cZE, keywordEach → cZK, wpAny_passesOwn → cZQ, binaryOp → cZT, wpAny_setState_of → cZV, bindArgs → cJa, wpAny_askSetting → cJb, wpAny_setEntries_of → cJe, attributeBase → cJg, behindInMarks → cJh, sysModules → cJl, isSubtype → cJx, pickOrder → cJy, setFlight → cJz, backToKw → cJD, wpAny_call → cJE, plainId_quiet → cJI, wpAny_attempt → cJJ, wpAny_newList → cJK, wpAny_standAt → cJL, holding → cJM, sliceBounds → cJN, valueAt → cJO, NameKind → cJS, getMethod → cJU, noteFrame → cJV, scanBound → cJW, wpAny_field → cJ5, builtinLookup_eq_fast → cVd, plainObj_wpAny_Assign_Attribute → cVe, assignEach → cVj, codeAny_call_builtin → cVk, isInstance → cVl, letOwnedTupleGo → cVm, wpAny_execs_nil → cVn, wpAny_ite_split → cVo, wpAny_rule → cVp, wpAny_fieldsOf → cVy, fits_of_scanBound → cVP, foldedSetIterable → cVQ, wpAny_pyIter_list → cVR, wpAny_comprehension_free → cVY
open PySem.Around renaming under_plainId → cZl
open PySem.Builtin.List renaming listTooLong → cZ2, listExtendWith → cJv, listLengthHint → cVz, listSameRef → cVW
open PySem.Builtin.Slice renaming slicePlaces → cZX, sliceAdjust → cJP, sliceApplied → cVI
open PySem.Builtin.Tuple renaming tupleExact → cZ3
open PySem.Calls renaming call_function_entry → cJQ, Name_function_global → cVJ
open PySem.Code renaming quiet_builtin → cVA
open PySem.F renaming plainAttrs_list → cQU, slot_list_append → cQ3, type_list_append → cQ4, called_set → cZi, slot_list_pop → cVb, type_list_pop → cVc, excBase_Exception → cVU, plain_extend_loop → cVV, args_tuple_add_2 → cVX
open PySem.Heap renaming get?_push_of_some → cQu, lt_size → cQC, get?_push_size → cQS, get?_update_other → cQ2, get?_update_self → cXv, size_push → cX0, SameBut → cZr, ExtBut → cJ3, get?_update_ne → cVq
open PySem.Heap.SameBut renaming update → cXU
open PySem.Obj renaming mapSeq → cXj, mapFields → cXF, isFreed_of_fields → cXO, data_mapFields → cXR
open PySem.Paired renaming length → cZS
open PySem.PassesOwn renaming never → cXg
open PySem.SeqAt renaming EqAt → cV0
open PySem.SetTable renaming below → cXq, grown → cZ1, insertAt → cJq
open PySem.SetTable.below renaming go → cJp
open PySem.SetTable.probe renaming go → cVO
open PySem.Str renaming ofString → cJu
open PySem.W renaming Frag → cQq, mg_none_of → cQE, findIn → cQ9, kitOne → cXd, nsIn → cXl, keepIn → cXm, fnOf → cXu, katRev → cXE, kia_one → cX4, kia_tup → cX5, codeIn → cZb, emptyDict → cZd, mg_of → cZk, CodeHd → cZt, instObj → cZz, kla_obj → cZA, tabObj → cZ0, isFn → cZ8, plainGet → cZ9, callWith_K → cJj, hasDictIn → cJo, methodCall_KW → cJt, mroIn → cJG, kitx_dict → cJZ, kitx_list → cJ0, plainOver → cJ1, specialIn → cJ2, codeHdIn → cJ9, callWith_K0 → cVt, plainGet_of → cVu, lookIn → cVx, methodObj → cVN, KatTups → cVZ
open PySem.W.KatTups renaming cons → cVi
open True renaming intro → cXN
abbrev A0:="_law_rows"
abbrev A1:="_law_number"
abbrev AA:="self"
abbrev AB:="list"
abbrev AC:="number"
abbrev AD:="tuple"
abbrev AE:="__init__"
abbrev AF:="words"
abbrev AG:="_law_deed"
abbrev AH:="_law_found"
abbrev AI:="_law_k"
abbrev AJ:="_law_shut"
abbrev AK:="_law_date"
abbrev AL:="letter"
abbrev AM:="_law_cells"
abbrev AN:="_law_script"
abbrev AO:="__debug__"
abbrev AQ:="book"
abbrev AR:="deed"
abbrev AS:="set_iterator"
abbrev AT:="sorted"
abbrev AU:="term"
abbrev AV:="isinstance"
abbrev AW:="void"
abbrev AX:="overdue"
abbrev AY:="answers_to_each"
abbrev AZ:="waiting"
abbrev Aa:="day"
abbrev Ab:="partner"
abbrev Ac:="letter_at"
abbrev Ad:="__name__"
abbrev Ae:="__getattribute__"
abbrev Af:="_law_deeds"
abbrev Ag:="range"
abbrev Ah:="str"
abbrev Ai:="_law_good"
abbrev Aj:="shut"
abbrev Ak:="date"
abbrev Al:="Refused"
abbrev Am:="Book"
abbrev An:="bool"
abbrev Ao:="BaseException"
abbrev Ap:="links"
abbrev Aq:="_law_there_and_back"
abbrev Ar:="_law_one"
abbrev As:="int"
abbrev At:="_law_kids_of"
abbrev Au:="open_by_rest"
abbrev Av:="_law_done_by"
abbrev Aw:="_law_term"
abbrev Ax:="dates"
abbrev Ay:="elsewhere"
abbrev Az:="_law_due"
abbrev B0:="__setattr__"
abbrev B1:="_law_family"
abbrev B2:="letters"
abbrev B3:="_law_standing_of"
abbrev B4:="answered"
abbrev B5:="_law_further"
abbrev B6:="set"
abbrev B7:="check_term"
abbrev B8:="check_days"
abbrev B9:="thread"
abbrev BA:="__classdict__"
abbrev BB:="_law_waits_on"
abbrev BC:="_law_goal"
abbrev BD:="waiting_pairs"
abbrev BE:="asked_day"
abbrev BF:="reply_day"
abbrev BG:="_law_with_one"
abbrev BH:="_law_here"
abbrev BI:="_law_turn"
abbrev BJ:="_law_unturned"
abbrev BK:="dict_reverseitemiterator"
abbrev BL:="copies"
abbrev BM:="out"
abbrev BN:="loose"
abbrev BO:="_law_list_on"
abbrev BP:="reply"
abbrev BQ:="_law_entered"
abbrev BR:="_law_told_of"
abbrev BS:="_law_hanging"
abbrev BT:="_law_deed_at"
abbrev BU:="_law_book_of"
abbrev BV:="__next__"
abbrev BW:="standing_states"
abbrev BX:="_law_due_by"
abbrev BY:="_law_late"
abbrev BZ:="Exception"
abbrev Ba:="way"
abbrev Bb:="state"
abbrev Bc:="other"
abbrev Bd:="person"
abbrev Be:="closed_days"
abbrev Bf:="thread_of"
abbrev Bg:="_law_near"
abbrev Bh:="_law_tied"
abbrev Bi:="file"
abbrev Bj:="is_answered_by"
abbrev Bl:="StopIteration"
abbrev Bm:="_law_dated"
abbrev Bn:="answers"
abbrev Bo:="answers_to"
abbrev Bp:="name"
abbrev Bq:="add_letter"
abbrev Br:="lay_thread"
abbrev Bs:="check_hanging"
abbrev Bt:="_law_place"
abbrev Bu:="_law_about"
abbrev Bv:="ann"
abbrev Bw:="_law_story"
abbrev Bx:="_law_alike"
abbrev By:="_law_whole"
abbrev Bz:="_law_bound"
abbrev C0:="_law_far"
abbrev C5:="_law_pair"
abbrev C6:="_law_lost"
abbrev C7:="_law_hung"
abbrev C8:="other_way"
abbrev C9:="_law_room"
abbrev CA:="_law_most"
abbrev CC:="__getitem__"
abbrev CD:="type"
abbrev CF:="Letter"
abbrev CG:="has_gone_to"
abbrev CH:="answered_by"
abbrev CI:="ask_letters"
abbrev CJ:="ask_waiting"
abbrev CK:="ask_overdue"
abbrev CM:="_law_j"
abbrev CN:="len"
abbrev CO:="place_of"
abbrev CP:="standing"
abbrev CQ:="letters_in"
abbrev CS:="ask_thread"
abbrev CT:="ask_copies"
abbrev CU:="copied"
abbrev CV:="due_day"
abbrev CW:="asked"
abbrev CY:="_law_at"
abbrev CZ:="zed"
abbrev Ca:="link"
theorem Cd{α:Sort u}{a:α}:a=a:=rfl
theorem dk {p:Prop}[Decidable p](h:decide p=true:=by decide +kernel):p:=of_decide_eq_true h
namespace L2
open PySem PySem.Spec PyProof.Rows
inductive Ez2{α0 α1:Type}(P:α0->α1->Prop):Prop|mk(a0 a1)(_:P a0 a1)
inductive Ez3{α0 α1 α2:Type}(P:α0->α1->α2->Prop):Prop|mk(a0 a1 a2)(_:P a0 a1 a2)
inductive Ez4{α0 α1 α2 α3:Type}(P:α0->α1->α2->α3->Prop):Prop|mk(a0 a1 a2 a3)(_:P a0 a1 a2 a3)
inductive Ez7{α0 α1 α2 α3 α4 α5 α6:Type}(P:α0->α1->α2->α3->α4->α5->α6->Prop):Prop|mk(a0 a1 a2 a3 a4 a5 a6)(_:P a0 a1 a2 a3 a4 a5 a6)
inductive Ez8{α0 α1 α2 α3 α4 α5 α6 α7:Type}(P:α0->α1->α2->α3->α4->α5->α6->α7->Prop):Prop|mk(a0 a1 a2 a3 a4 a5 a6 a7)(_:P a0 a1 a2 a3 a4 a5 a6 a7)
abbrev Key:=Sum Int Str
def aWS:Key->cQp->Bool
 |.inl k,v=>Value.isInt k v
 |.inr x,v=>Value.isStrOf x v
def bY6(w:cQ1):Key->Int
 |.inl k=>hashInt k
 |.inr x=>hashStr w x
def zE:∀ {k:Key} {v:cQp},aWS k v=true->(∃i t,k=Sum.inl i/\v=Value.int i t)\/(∃x t,k=Sum.inr x/\v=Value.str x t)
 |.inl i,v,h=>by obtain⟨t,e⟩:=Value.isInt_shape (k:=i) (v:=v) h;exact .inl ⟨i,t,Cd,e⟩
 |.inr x,v,h=>by obtain⟨t,e⟩:=Value.isStrOf_shape (x:=x) (v:=v) h;exact .inr ⟨x,t,Cd,e⟩
def aYp(i:Int)(t:Tok):aWS (.inl i) (.int i t)=true:=by simp[aWS,Value.isInt]
def aYq(x:Str)(t:Tok):aWS (.inr x) (.str x t)=true:=by simp[aWS,Value.isStrOf]
def bW2(a b:Int):decide ((Sum.inl a:Key)=Sum.inl b)=(a==b):=by
 by_cases e:a=b
 ·subst e;simp
 ·have h:¬ (Sum.inl a:Key)=Sum.inl b:=λq=>e (Sum.inl.inj q);rw[decide_eq_false h];exact(beq_eq_false_iff_ne.mpr e).symm
def bW5(a b:Str):decide ((Sum.inr a:Key)=Sum.inr b)=decide (a=b):=by
 by_cases e:a=b
 ·subst e;simp
 ·have h:¬ (Sum.inr a:Key)=Sum.inr b:=λq=>e (Sum.inr.inj q);rw[decide_eq_false h,decide_eq_false e]
def bW3(a:Int)(b:Str):decide ((Sum.inl a:Key)=Sum.inr b)=false:=decide_eq_false (λq=>nomatch q)
def bW4(a:Str)(b:Int):decide ((Sum.inr a:Key)=Sum.inl b)=false:=decide_eq_false (λq=>nomatch q)
def zG(prog:cQO)(w:cQ1):PySem.KeyKind prog w Key where
 is:=aWS
 hash:=bY6 w
 inj:=λv a b ha hb=>by
  rcases zE ha with⟨i,t,rfl,rfl⟩|⟨x,t,rfl,rfl⟩
  ·rcases zE hb with⟨j,u,rfl,e⟩|⟨y,u,rfl,e⟩
   ·injection e with e1 _;rw[e1]
   ·exact nomatch e
  ·rcases zE hb with⟨j,u,rfl,e⟩|⟨y,u,rfl,e⟩
   ·exact nomatch e
   ·injection e with e1 _;rw[e1]
 byValue:=λk v h=>by
  rcases zE h with⟨i,t,rfl,rfl⟩|⟨x,t,rfl,rfl⟩<;> rfl
 pyHash:=λhv h=>by
  rcases zE hv with⟨i,t,rfl,rfl⟩|⟨x,t,rfl,rfl⟩
  ·exact wpAny_pyHash_int h
  ·exact wpAny_pyHash_str h
 eqBool:=λhu hv h=>by
  rcases zE hu with⟨i,t,rfl,rfl⟩|⟨x,t,rfl,rfl⟩
  ·rcases zE hv with⟨j,u,rfl,rfl⟩|⟨y,u,rfl,rfl⟩
   ·rw[bW2]at h;exact wpAny_eqBool_int h
   ·rw[bW3]at h;exact SeqAt.EqAt.int_str i t y u _ _ _ _ h
  ·rcases zE hv with⟨j,u,rfl,rfl⟩|⟨y,u,rfl,rfl⟩
   ·rw[bW4]at h;exact SeqAt.EqAt.str_int x t j u _ _ _ _ h
   ·rw[bW5]at h;exact wpAny_eqBool_str h
 «strs»:=λk x t v h=>by
  rcases zE h with⟨i,u,rfl,e⟩|⟨y,u,rfl,e⟩
  ·exact nomatch e
  ·injection e with e1 _
   subst e1
   cases v<;> rfl
def aJX(prog:cQO)(w:cQ1)(i:Int)(t:Tok):(zG prog w).is (.inl i) (.int i t)=true:=aYp i t
def qK(prog:cQO)(w:cQ1)(x:Str)(t:Tok):(zG prog w).is (.inr x) (.str x t)=true:=aYq x t
end L2
namespace L2
open PySem PySem.Spec PyProof.Rows
inductive V where
 |non|bl (b:Bool)|int (i:Int)|str (x:Str)|byt (b:Array UInt8)|flt (b:UInt64)|ref (a:Addr)|ty (n:String)
 deriving DecidableEq
def zL:V->cQp->Prop
 |.non,u=>u=Value.none
 |.bl b,u=>u=Value.bool b
 |.int i,u=>∃t,u=Value.int i t
 |.str x,u=>∃t,u=Value.str x t
 |.byt b,u=>∃t,u=Value.bytes b t
 |.flt b,u=>∃t,u=Value.float b t
 |.ref a,u=>u=Value.ref a
 |.ty n,u=>u=Value.type n
abbrev xY:List V->List cQp->Prop:=cXk zL
def xY.length(r:xY xs us):xs.length=us.length:=cZS r
def xY.get:∀ {xs:List V} {us:List cQp} {i:Nat} {x:V},xY xs us->xs[i]? =some x->∃u,us[i]? =some u/\zL x u
 |_,_,_,_,.nil,e=>by simp at e
 |_,_,0,_,.cons r _,e=>by simp at e;subst e;exact⟨_,Cd,r⟩
 |_,_,i+1,x,.cons _ t,e=>by obtain⟨u,h1,h2⟩:=xY.get (i:=i) (x:=x) t (by simpa using e);exact⟨u,by simpa using h1,h2⟩
def xY.set(r:zL x u):∀ {xs:List V} {us:List cQp} (i:Nat),xY xs us->xY (xs.set i x) (us.set i u)
 |_,_,_,.nil=> .nil
 |_,_,0,.cons _ t=> .cons r t
 |_,_,i+1,.cons q t=> .cons q (xY.set r i t)
def xY.append:∀ {xs ys:List V} {us a:List cQp},xY xs us->xY ys a->xY (xs++ys) (us++a)
 |_,_,_,_,.nil,s=>s
 |_,_,_,_,.cons r t,s=> .cons r (xY.append t s)
def xY.take:∀ {xs:List V} {us:List cQp} (n:Nat),xY xs us->xY (xs.take n) (us.take n)
 |_,_,0,_=> .nil
 |_,_,_+1,.nil=> .nil
 |_,_,n+1,.cons r t=> .cons r (xY.take n t)
def xY.drop:∀ {xs:List V} {us:List cQp} (n:Nat),xY xs us->xY (xs.drop n) (us.drop n)
 |_,_,0,r=>r
 |_,_,_+1,.nil=> .nil
 |_,_,n+1,.cons _ t=>xY.drop n t
def aZA:Option V->Option cQp->Prop
 |some v,some u=>zL v u
 |none,none=>True
 |_,_=>False
def KV{κ:Type}:List (κ×V)->List (κ×cQp)->Prop:=cXk λ(p:κ×V)(q:κ×cQp)=>p.1=q.1/\zL p.2 q.2
def kV:Key->V
 |.inl i=> .int i
 |.inr x=> .str x
inductive HO where
 |lst (xs:List V)
 |tup (xs:List V)
 |dK (kvs:List (Key×V))|dT (kvs:List (List Key×V))
 |set (S:Int->Bool) (n:Nat)
 |ins (C dx:Addr) (fs:List (Str×V))
 |own (x:Addr)
 |xd (fs:List (Str×V))
 |met (f x:Addr)
 |rng (lo hi:Int)
 |frz (o:Obj) (u:HO)
 |tbl (ps:Array cQp)
 |ext (φ:Heap->Prop)
abbrev Hp:=Addr->Option HO
def upd(H:Hp)(a:Addr)(o:HO):Hp:=λb=>if b=a then some o else H b
def yB:upd H a o a=some o:=by unfold upd;rw[if_pos rfl]
def yJ(h:b≠a):upd H a o b=H b:=by unfold upd;rw[if_neg h]
def jG:upd (upd H a o) a u=upd H a u:=by
 funext b;unfold upd;split<;> rfl
def aXm{H:Hp}{a b:Addr}{o u:HO}(h:H a=some o)(h':H b=some u)(d:o≠u):a≠b:=by
 intro e;subst e;rw[h]at h';exact d (cQI h')
def yI{H:Hp}{a b:Addr}{o:HO}(h:H a=some o)(h':H b=none):a≠b:=by
 intro e;subst e;rw[h]at h';cases h'
section
variable (P:cQO)(w:cQ1)
def zJ(H:Hp)(h:Heap)(a:Addr):HO->Prop
 |.lst xs=>xs.length<=cQM/\∃ (c:List cQp)(n:Nat),xY xs c/\h.get? a=some {cls:= .type AB,data:= .seq c.toArray n}
 |.tup xs=>xs.length<=cQM/\∃c:List cQp,xY xs c/\cJi h a c.toArray
 |.dK b=>b.length<=cQM/\(a==cJl)=false/\∃d,KV b d/\h.DictOf (zG P w) a d
 |.dT b=>b.length<=cQM/\(a==cJl)=false/\∃xs:List (List Key×Addr×cQp),
   cXk (λ(p:List Key×V)(q:List Key×Addr×cQp)=>p.1=q.1/\H q.2.1=some (.tup (p.1.map kV))/\zL p.2 q.2.2) b xs/\
   ∃o es e,h.get? a=some o/\o.ExactDict/\o.data= .dict es e/\es.toList=xs.map (entryOfKey (tupleKind (zG P w)))/\(xs.map (·.1)).Nodup
 |.set S n=>h.SetOf (intKind P w) a S n
 |.ins C dx fs=>H dx=some (.own a)/\fs.length<=1000/\dx≠a/\h.get? a=some (cZz C dx)/\
   ∃mA,h.Ns1 dx mA/\(∀f,aZA (fs.lookup f) (mA f))/\PySem.Within mA (fs.map (·.1))
 |.own _=>∃o,h.get? a=some o
 |.xd fs=>∃mA,h.Ns1 a mA/\∀f,aZA (fs.lookup f) (mA f)
 |.rng lo hi=>∃t u v,h.get? a=some {cls:= .type Ag,data:= .fields #[.int lo t,.int hi u,.int 1 v] }
 |.frz o u=>h.get? a=some o/\zJ H h a u
 |.tbl ps=>h.get? a=some {cls:= .none,data:= .fields ps}
 |.met f x=>h.get? a=some (cVN (.ref f) (.ref x))
 |.ext φ=>φ h/\(∃o,h.get? a=some o)/\∀h1 h2:Heap,φ h1->(∀o,h1.get? a=some o->h2.get? a=some o)->φ h2
def HOk(H:Hp)(h:Heap):Prop:=∀a o,H a=some o->zJ P w H h a o
end
section
variable {P:cQO}{w:cQ1}{H H':Hp}{h h':Heap}{a:Addr}{o:HO}
def zJ.lt(x:zJ P w H h a o):a<h.objs.size:=by
 cases o with
 |lst xs=>obtain⟨_,_,_,_,e⟩:=x;exact cQC e
 |tup xs=>obtain⟨_,_,_,p⟩:=x;exact p.lt
 |dK b=>obtain⟨_,_,_,_,o,_,_,e,_⟩:=x;exact cQC e
 |dT b=>obtain⟨_,_,_,_,o,_,_,e,_⟩:=x;exact cQC e
 |set S n=>obtain⟨o,_,_,_,e,_⟩:=x;exact cQC e
 |ins C dx fs=>obtain⟨_,_,_,e,_⟩:=x;exact cQC e
 |own y=>obtain⟨_,e⟩:=x;exact cQC e
 |xd fs=>obtain⟨_,⟨_,_,_,e,_⟩,_⟩:=x;exact cQC e
 |rng lo hi=>obtain⟨_,_,_,e⟩:=x;exact cQC e
 |frz c u=>obtain⟨e,_⟩:=x;exact cQC e
 |tbl ps=>exact cQC (show h.get? a=some _ from x)
 |met f y=>exact cQC (show h.get? a=some _ from x)
 |ext φ=>obtain⟨_,⟨_,e⟩,_⟩:=x;exact cQC e
def Paired.mapP{α β:Type}{F G:α->β->Prop}:∀ {c:List α} {d:List β},cXk F c d->(∀a b,F a b->G a b)->cXk G c d
 |_,_,.nil,_=> .nil
 |_,_,.cons r t,f=> .cons (f _ _ r) (Paired.mapP t f)
def zJ.stay(x:zJ P w H h a o)(k:∀b u,(b=a\/H b=some (.own a))->h.get? b=some u->h'.get? b=some u) (B:∀b,H b=some (.own a)->H' b=some (.own a)) (E:∀b xs,H b=some (.tup xs)->H' b=some (.tup xs)):zJ P w H' h' a o:=by
 induction o with
 |lst xs=>obtain⟨z,j,n,r,e⟩:=x;exact⟨z,j,n,r,k _ _ (.inl rfl) e⟩
 |tup xs=>obtain⟨z,j,r,g,e,c⟩:=x;exact⟨z,j,r,g,k _ _ (.inl rfl) e,c⟩
 |dK l=>obtain⟨z,y,D,r,g,es,i,e,c⟩:=x;exact⟨z,y,D,r,g,es,i,k _ _ (.inl rfl) e,c⟩
 |dT l=>obtain⟨z,y,xs,r,g,es,i,e,c⟩:=x;exact⟨z,y,xs,Paired.mapP r λp q z=>⟨z.1,E _ _ z.2.1,z.2.2⟩,g,es,i,k _ _ (.inl rfl) e,c⟩
 |set S n=>obtain⟨g,es,i,t,e,c⟩:=x;exact⟨g,es,i,t,k _ _ (.inl rfl) e,c⟩
 |ins C dx fs=>obtain⟨d,z,ne,e,mA,⟨m,es,i,A,c⟩,r⟩:=x;exact⟨B _ d,z,ne,k _ _ (.inl rfl) e,mA,⟨m,es,i,k _ _ (.inr d) A,c⟩,r⟩
 |own y=>obtain⟨g,e⟩:=x;exact⟨g,k _ _ (.inl rfl) e⟩
 |xd fs=>obtain⟨mA,⟨m,es,i,e,c⟩,r⟩:=x;exact⟨mA,⟨m,es,i,k _ _ (.inl rfl) e,c⟩,r⟩
 |rng lo hi=>obtain⟨t,u,v,e⟩:=x;exact⟨t,u,v,k _ _ (.inl rfl) e⟩
 |frz g u s=>obtain⟨e,q⟩:=x;exact⟨k _ _ (.inl rfl) e,s q⟩
 |tbl ps=>have e:h.get? a=some {cls:= .none,data:= .fields ps}:=x;show h'.get? a=some {cls:= .none,data:= .fields ps};exact k a _ (.inl rfl) e
 |met f y=>have e:h.get? a=some (cVN (.ref f) (.ref y)):=x;show h'.get? a=some (cVN (.ref f) (.ref y));exact k a _ (.inl rfl) e
 |ext φ=>obtain⟨p,⟨o,e⟩,st⟩:=x;exact⟨st _ _ p λo q=>k _ _ (.inl rfl) q,⟨o,k _ _ (.inl rfl) e⟩,st⟩
def HOk.lt(x:HOk P w H h)(e:H a=some o):a<h.objs.size:=(x a o e).lt
def HOk.fresh(x:HOk P w H h)(e:h.objs.size<=a):H a=none:=by
 cases q:H a with
 |none=>rfl
 |some u=>exact absurd (cQR (x.lt q) e) (cXD _)
def HOk.kept(x:HOk P w H h)(k:∀b u,h.get? b=some u->h'.get? b=some u):HOk P w H h':=λa o e=>
 (x a o e).stay (λb u _ q=>k b u q) (λ_ q=>q) λ_ _ q=>q
def HOk.laid(x:HOk P w H h)(k:∀b u,h.get? b=some u->h'.get? b=some u)(i:h.objs.size<=a)(d:zJ P w (upd H a o) h' a o):HOk P w (upd H a o) h':=λb u e=>by
 have g:=x.fresh i;by_cases f:b=a
 ·subst f;rw[yB]at e;cases e;exact d
 ·rw[yJ f]at e;exact(x b u e).stay (λc v _ q=>k c v q) (λc q=>by rw[yJ (yI q g)];exact q) λc xs q=>by rw[yJ (yI q g)];exact q
end
def Rd(H:Hp)(a:Addr)(u:HO):Prop:=H a=some u\/∃o,H a=some (.frz o u)
def Rd.ok(r:Rd H a u)(x:HOk P w H h):zJ P w H h a u:=by
 rcases r with r|⟨o,r⟩
 ·exact x a u r
 ·obtain⟨_,q⟩:=x a _ r;exact q
def Mut:Option HO->Prop
 |some (.lst _)=>True
 |some (.dK _)=>True
 |some (.dT _)=>True
 |some (.set _ _)=>True
 |some (.ins _ _ _)=>True
 |some (.ext _)=>True
 |_=>False
section
variable {P:cQO}{w:cQ1}{H:Hp}{h h':Heap}{x e:Addr}{o':HO}
def HOk.write(ok:HOk P w H h)(g:Mut (H x))(o:e=x\/H e=some (.own x))(k:∀b u,b≠e->h.get? b=some u->h'.get? b=some u)(m:∃u,h'.get? e=some u)
  (l:zJ P w (upd H x o') h' x o'):HOk P w (upd H x o') h':=λb u q=>by
 have d:∀c y,H c=some (.own y)->c≠x:=λc y r z=>by subst z;rw[r]at g;exact g
 have f:∀c xs,H c=some (.tup xs)->c≠x:=λc xs r z=>by subst z;rw[r]at g;exact g
 by_cases j:b=x
 ·subst j;rw[yB]at q;cases q;exact l
 ·rw[yJ j]at q;by_cases a:b=e
  ·have n:H b=some (.own x):=by
    rcases o with z|z
    ·exact absurd (a.trans z) j
    ·rw[a];exact z
   rw[q]at n;cases n;obtain⟨v,p⟩:=m;exact⟨v,by rw[a];exact p⟩
  ·refine(ok b u q).stay (λc v i r=>k c v ?_ r) (λc r=>by rw[yJ (d c b r)];exact r) λc xs r=>by rw[yJ (f c xs r)];exact r
   rcases i with rfl|i
   ·exact a
   ·rintro rfl;rcases o with z|z
    ·exact d c b i z
    ·rw[i]at z;cases z;exact j rfl
end
structure Un(fs ex:List Addr)(H H':Hp)(h h':Heap):Prop where
 keep:∀b o,h.get? b=some o->H b=none->b∉fs->b∉ex->h'.get? b=some o
 slot:∀b o,h.get? b=some o->H b=none->b∈fs->b∉ex->∃sl,h'.get? b=some {o with slots:=sl}
 free:∀b o,h.get? b=some o->H b=none->b∉ex->H' b=none
 there:∀b o,h.get? b=some o->b∉ex->∃o',h'.get? b=some o'
 tups:∀b xs,H b=some (.tup xs)->H' b=some (.tup xs)
 frzs:∀b o u,H b=some (.frz o u)->H' b=some (.frz o u)
 tbls:∀b ps,H b=some (.tbl ps)->∃more,H' b=some (.tbl (ps++more))
section
variable {fs fs' ex ex':List Addr}{H H1 H2:Hp}{h h1 h2 h':Heap}{a x e:Addr}{o:HO}
def Un.any(u:Un fs ex H H1 h h1){b:Addr}{a:Obj}(q:h.get? b=some a)(n:H b=none)(d:b∉ex):∃e,h1.get? b=some {a with slots:=e}:=by
 by_cases c:b∈fs
 ·exact u.slot b a q n c d
 ·exact⟨a.slots,u.keep b a q n c d⟩
def Un.kept(k:∀b u,h.get? b=some u->h'.get? b=some u):Un fs ex H H h h':=
 ⟨λb a q _ _ _=>k b a q,λb a q _ _ _=>⟨a.slots,k b a q⟩,λ_ _ _ n _=>n,λb a q _=>⟨a,k b a q⟩,λ_ _ q=>q,λ_ _ _ q=>q,λ_ ps q=>⟨#[],by rw[q];simp⟩⟩
def Un.refl:Un fs ex H H h h:=Un.kept λ_ _ q=>q
def Un.laid(k:∀b u,h.get? b=some u->h'.get? b=some u)(hp:h.objs.size<=a)(hn:H a=none):Un fs ex H (upd H a o) h h' where
 keep:=λb u q _ _ _=>k b u q
 slot:=λb u q _ _ _=>⟨u.slots,k b u q⟩
 free:=λb u q n _=>by rw[yJ (cQP (cQR (cQC q) hp))];exact n
 there:=λb u q _=>⟨u,k b u q⟩
 tups:=λb xs q=>by rw[yJ (yI q hn)];exact q
 frzs:=λb u xs q=>by rw[yJ (yI q hn)];exact q
 tbls:=λb ps q=>⟨#[],by rw[yJ (yI q hn),q];simp⟩
def Un.write(c:Mut (H x))(j:e=x\/H e=some (.own x))(k:∀b u,b≠e->h.get? b=some u->h'.get? b=some u)(d:∃u,h'.get? e=some u):Un fs ex H (upd H x o) h h':=by
 have i:∀b,H b=none->b≠x:=λb n z=>by subst z;rw[n]at c;exact c
 have g:∀b,H b=none->b≠e:=λb n z=>by
  subst z;rcases j with r|r
  ·exact i b n r
  ·rw[n]at r;cases r
 have f:∀b u,H b=some u->¬Mut (some u)->b≠x:=λb u q nm z=>by subst z;rw[q]at c;exact nm c
 refine⟨λb u q n _ _=>k b u (g b n) q,λb u q n _ _=>⟨u.slots,k b u (g b n) q⟩,λb u q n _=>by rw[yJ (i b n)];exact n,λb u q _=>?_,
  λb xs q=>by rw[yJ (f b _ q λz=>z)];exact q,λb u xs q=>by rw[yJ (f b _ q λz=>z)];exact q,λb ps q=>⟨#[],by rw[yJ (f b _ q λz=>z),q];simp⟩⟩
 by_cases a:b=e
 ·subst a;exact d
 ·exact⟨u,k b u a q⟩
end
def trk(h:Heap)(H:Hp):List Addr:=(cQy h.objs.size).filter λa=>(H a).isSome
def aYk(h:Heap)(H:Hp):Heap:=PySem.W.hideAll h (trk h H)
def aYl(h:Heap)(H:Hp):(aYk h H).objs.size=h.objs.size:=PySem.W.hideAll_size _ _
def bXC(e:h.get? b=some o)(n:H b=none):(aYk h H).get? b=some o:=
 PySem.W.hideAll_get _ e λa=>by have q:(H b).isSome=true:=(cXf.mp a).2;rw[n]at q;simp at q
def bVs(e:(aYk h H).get? b=some o):h.get? b=some o/\H b=none:=by
 have a:h.get? b=some o:=PySem.W.of_hideAll (trk h H) e;refine⟨a,?_⟩;cases q:H b with
 |none=>rfl
 |some x=>have c:b∈trk h H:=cXf.mpr ⟨cQT.mpr (cQC a),by simp[q]⟩;have z:(aYk h H).get? b=none:=PySem.W.hideAll_none (trk h H) c;rw[z]at e;cases e
def bJY(g h:Heap)(L:Addr):List (Addr×Obj):=(cQy h.objs.size).filterMap λa=>if a=L\/(g.get? a).isSome=true then none else(h.get? a).map λo=>(a,o)
def jX(g h:Heap)(L d:Addr):List (Addr×Obj):=(bJY g h L).filter λp=>decide (p.1≠d)
end L2
namespace L2
open PySem PySem.Spec PyProof.Rows
structure Mod(K:cQq)(mg:Str->Option cQp)(base:Heap):Prop where
 kin:K.In base
 glob:base.Ns cQX mg
 blt:∃mb,base.Ns builtinsNs mb/\∀x:Str,x≠Ad->mb x=cQ7 x
 nolimit:base.NoLimit
structure Cx where
 prog:cQO
 w:cQ1
 K:cQq
 mg:Str->Option cQp
 base:Heap
 A:cXi
 N:List Str
 s₀:cQr
 H₀:Hp
 env:Env
 outer:List Env
 stack:List Env
 ex:List Addr
 fn:Str->Bool
 calm:Bool
 pn:List (Addr×Obj)
 xe:cQp->cQr->Prop
def frs(l:List Env):List Addr:=l.filterMap (·.frame)
abbrev Cx.fs(X:Cx):List Addr:=frs X.outer
def Vis(a:Scope)(x:Str):Prop:=a.names.lookup x=some .local\/a.names.lookup x=some .cell\/a.names.lookup x=some .free
def Loc(a:Scope)(x:Str):Prop:=a.names.lookup x=some .local\/a.names.lookup x=some .cell
def bY0(env:Env)(h:Heap)(m:Str->Option cQp)(x:Str)(u:cQp):Prop:=
 (env.kindOf x=some .local/\m x=some u)\/((env.kindOf x=some .cell\/env.kindOf x=some .free)/\∃c,env.cells.lookup x=some c/\h.IsCell c (some u))
structure Cx.Ok(X:Cx):Prop where
 mod:Mod X.K X.mg X.base
 kind:X.env.scope.kind= .function
 glob:X.env.globals=cQX
 blt:X.env.builtins=builtinsNs
 above:X.s₀.heap.objs.size<=X.env.locals
 inj:∀x y c,X.env.cells.lookup x=some c->X.env.cells.lookup y=some c->x=y
 has:∀x,(X.env.kindOf x=some .cell\/X.env.kindOf x=some .free)->∃c,X.env.cells.lookup x=some c
 cab:∀x c,X.fn x=true->X.env.cells.lookup x=some c->X.s₀.heap.objs.size<=c
 hd:X.calm=true->X.A.handled=none
 frames:X.A.frames=some X.stack
 stk:X.stack=X.outer\/(X.stack=X.env::X.outer/\X.env.frame=some X.env.locals)
 exf:∀b∈X.ex,b≠X.env.locals/\∀x c,X.env.cells.lookup x=some c->c≠b
 bs:∀b o,X.base.get? b=some o->X.s₀.heap.get? b=some o/\X.H₀ b=none
 bsz:X.base.objs.size<=X.s₀.heap.objs.size
 noex:∀b o,X.base.get? b=some o->b∉X.ex
 exfs:∀b∈X.ex,b∉X.fs
 funs:X.s₀.heap.FunFrames X.base X.outer
 frf:∀b∈X.fs,X.H₀ b=none
structure Inv(X:Cx)(pins:List (Addr×Obj))(σ:List (Option V))(H:Hp)(s:cQr):Prop where
 ok:X.Ok
 os:s.os=X.s₀.os
 bare:AllBare s.gens
 base:Un X.fs X.ex X.H₀ H X.s₀.heap s.heap
 loc:∃m,s.heap.Ns X.env.locals m/\∀ (i:Nat)(x:Str)(v:V),X.N[i]? =some x->σ[i]? =some (some v)->Vis X.env.scope x->∃u,zL v u/\bY0 X.env s.heap m x u
 cell:∀x c,X.env.cells.lookup x=some c->∃v,s.heap.IsCell c v
 free:H X.env.locals=none
 freeC:∀x c,X.env.cells.lookup x=some c->H c=none
 pin:∀p∈X.pn++pins,s.heap.get? p.1=some p.2/\H p.1=none/\p.1≠X.env.locals/\p.1∉X.fs/\∀v,p.2.data≠ .cell v
 hok:HOk X.prog X.w H s.heap
 len:σ.length=X.N.length
section
variable {X:Cx}{pins:List (Addr×Obj)}{σ:List (Option V)}{H H':Hp}{s:cQr}{h':Heap}
def Cx.Ok.nofr(ok:X.Ok)(e:X.base.get? b=some o):b∉X.fs:=λa=>by
 have:=(ok.funs.mem a).1;rw[e]at this;cases this
def Inv.bs(I:Inv X pins σ H s):∀b o,X.base.get? b=some o->s.heap.get? b=some o/\H b=none:=λb o e=>
 ⟨I.base.keep b o (I.ok.bs b o e).1 (I.ok.bs b o e).2 (I.ok.nofr e) (I.ok.noex b o e),I.base.free b o (I.ok.bs b o e).1 (I.ok.bs b o e).2 (I.ok.noex b o e)⟩
def Inv.bk(I:Inv X pins σ H s):∀b o,X.base.get? b=some o->s.heap.get? b=some o:=λb o e=>(I.bs b o e).1
def Inv.mod(I:Inv X pins σ H s):Mod X.K X.mg X.base:=I.ok.mod
def Inv.kIn(I:Inv X pins σ H s):X.K.In s.heap:=I.ok.mod.kin.keeps I.bk
def Inv.nolimit(I:Inv X pins σ H s):s.heap.NoLimit:=I.ok.mod.nolimit.keeps I.bk
def Inv.lt(I:Inv X pins σ H s):X.env.locals<s.heap.objs.size:=let ⟨_,hn,_⟩:=I.loc;hn.lt
def Inv.sz(I:Inv X pins σ H s):X.s₀.heap.objs.size<=s.heap.objs.size:=cQZ I.ok.above (cZ6 I.lt)
def Inv.nofs(I:Inv X pins σ H s)(h:s.heap.objs.size<=a):a∉X.fs:=λb=>by
 obtain⟨_,o,c,_⟩:=I.ok.funs.mem b;exact absurd (cQR (cQC c) (cQZ I.sz h)) (cXD _)
def Inv.cne(I:Inv X pins σ H s):∀x c,X.env.cells.lookup x=some c->c≠X.env.locals:=λx c e z=>by
 obtain⟨v,o,d,f⟩:=I.cell x c e;obtain⟨m,⟨o',es,g,b,a,_⟩,_⟩:=I.loc;rw[z,b]at d;cases d;rw[a]at f;cases f
def Inv.funs(I:Inv X pins σ H s):s.heap.FunFrames X.base X.outer:=by
 have all:∀ (l:List Env),(∀b∈frs l,b∈X.fs)->X.s₀.heap.FunFrames X.base l->s.heap.FunFrames X.base l:=by
  intro l;induction l with
  |nil=>intro _ _;trivial
  |cons env r g=>intro f hl;obtain⟨i,⟨L,o,c,j,k,m⟩,h⟩:=hl;have a:L∈X.fs:=f L (by unfold frs;rw[cJc,c];exact cQG);obtain⟨n,e⟩:=I.base.slot L o k (I.ok.frf L a) a λz=>I.ok.exfs L z a;exact⟨i,⟨L,_,c,j,e,m⟩,g (λb d=>f b (by unfold frs;rw[cJc,c];exact cQB _ d)) h⟩
 exact all X.outer (λ_ d=>d) I.ok.funs
def Inv.stack(I:Inv X pins σ H s):s.heap.FunFrames X.base X.stack:=by
 rcases I.ok.stk with e|⟨e,a⟩
 ·rw[e];exact I.funs
 ·rw[e];obtain⟨m,b,_⟩:=I.loc;refine .cons (by rw[I.ok.kind];decide) a b ?_ I.funs;exact Heap.get?_none_of_le (cQZ I.ok.bsz I.ok.above)
def Inv.stkSub(I:Inv X pins σ H s):∀b∈frs X.stack,b∈X.env.locals::X.fs:=λb a=>by
 rcases I.ok.stk with e|⟨e,c⟩
 ·rw[e]at a;exact cQB _ a
 ·rw[e]at a;unfold frs at a;rw[cJc,c]at a;exact a
def Inv.stkFree(I:Inv X pins σ H s):∀b∈frs X.stack,H b=none:=λb a=>by
 rcases cQz.mp (I.stkSub b a)with e|a
 ·rw[e];exact I.free
 ·obtain⟨_,o,c,_⟩:=I.ok.funs.mem a;exact I.base.free b o c (I.ok.frf b a) λz=>I.ok.exfs b z a
def Inv.step{g':Array GenState}{t':Nat}{d':Drawn}{ch:List Addr}(I:Inv X pins σ H s) (g:∀b∈ch,(b∈X.ex\/X.s₀.heap.objs.size<=b)/\b≠X.env.locals/\(∀x c,X.env.cells.lookup x=some c->c≠b)/\∀p∈X.pn++pins,p.1≠b) (keep:∀b o,b≠X.env.locals->b∉X.fs->b∉ch->s.heap.get? b=some o->H b=none->h'.get? b=some o) (A:∀b o,b≠X.env.locals->b∈X.fs->b∉ch->s.heap.get? b=some o->H b=none->∃L,h'.get? b=some {o with slots:=L}) (f:∀b o,b∉ch->s.heap.get? b=some o->H b=none->H' b=none) (there:∀b o,b∉ch->s.heap.get? b=some o->∃o',h'.get? b=some o') (J:∀b xs,H b=some (.tup xs)->H' b=some (.tup xs)) (G:∀b o u,H b=some (.frz o u)->H' b=some (.frz o u)) (F:∀b ps,H b=some (.tbl ps)->∃more,H' b=some (.tbl (ps++more))) (V:∀m,s.heap.Ns X.env.locals m->h'.Ns X.env.locals m) (K:HOk X.prog X.w H' h') (S:AllBare g'): Inv X pins σ H' {s with heap:=h',gens:=g',drawn:=d',toks:=t'}:=by
 have D:∀b o,X.s₀.heap.get? b=some o->b≠X.env.locals:=λb o e=>cQP (cQR (cQC e) I.ok.above);have y:∀b o,X.s₀.heap.get? b=some o->b∉X.ex->b∉ch:=λb o e a B=>by
  rcases(g b B).1 with z|z
  ·exact a z
  ·exact absurd (cQR (cQC e) z) (cXD _)
 have h:∀x c,X.env.cells.lookup x=some c->∀v,s.heap.IsCell c v->h'.IsCell c v:=λx c e v ⟨o,C,N⟩=>by
  have j:c∉ch:=λz=>(g c z).2.2.1 x c e rfl;by_cases P:c∈X.fs
  ·obtain⟨L,q⟩:=A c o (I.cne x c e) P j C (I.freeC x c e);exact⟨_,q,N⟩
  ·exact⟨o,keep c o (I.cne x c e) P j C (I.freeC x c e),N⟩
 refine⟨I.ok,I.os,S,⟨λb o e n B a=>?_,λb o e n B a=>?_,λb o e n a=>?_,λb o e a=>?_,λb xs e=>J b xs (I.base.tups b xs e),λb o xs e=>G b o xs (I.base.frzs b o xs e),λb ps e=>?_⟩,?_,λx c e=>?_,?_,λx c e=>?_,λp Q=>?_,K,I.len⟩
 ·exact keep b o (D b o e) B (y b o e a) (I.base.keep b o e n B a) (I.base.free b o e n a)
 ·obtain⟨L,t⟩:=I.base.slot b o e n B a;obtain⟨M,E⟩:=A b _ (D b o e) B (y b o e a) t (I.base.free b o e n a);exact⟨M,E⟩
 ·obtain⟨o',t⟩:=I.base.there b o e a;exact f b o' (y b o e a) t (I.base.free b o e n a)
 ·obtain⟨o',t⟩:=I.base.there b o e a;exact there b o' (y b o e a) t
 ·obtain⟨R,t⟩:=I.base.tbls b ps e;obtain⟨U,E⟩:=F b _ t;exact⟨R++U,by rw[E,Array.append_assoc]⟩
 ·obtain⟨m,W,hl⟩:=I.loc;refine⟨m,V m W,λi x v t E T=>?_⟩;obtain⟨u,r,l⟩:=hl i x v t E T;refine⟨u,r,?_⟩;rcases l with l|⟨k,c,e,z⟩
  ·exact .inl l
  ·exact .inr ⟨k,c,e,h x c e _ z⟩
 ·obtain⟨v,z⟩:=I.cell x c e;exact⟨v,h x c e v z⟩
 ·obtain⟨m,⟨o,_,_,C,_⟩,_⟩:=I.loc;exact f _ o (λz=>(g _ z).2.1 rfl) C I.free
 ·obtain⟨v,o,C,N⟩:=I.cell x c e;exact f c o (λz=>(g c z).2.2.1 x c e rfl) C (I.freeC x c e)
 ·obtain⟨e,n,ne,O,d⟩:=I.pin p Q;have j:p.1∉ch:=λz=>(g p.1 z).2.2.2 p Q rfl;exact⟨keep p.1 p.2 ne O j e n,f p.1 p.2 j e n,ne,O,d⟩
def Inv.un{t':Nat}(I:Inv X pins σ H s)(u:Un X.fs [] H H' s.heap h')(c:HOk X.prog X.w H' h'):Inv X pins σ H' {s with heap:=h',toks:=t'}:=by
 obtain⟨m,⟨o,es,l,h,r⟩,_⟩:=id I.loc;obtain⟨p,j⟩:=u.any h I.free (by simp);exact I.step (g':=s.gens) (d':=s.drawn) (ch:= []) (λ_ z=>nomatch z) (λb o _ f _ e n=>u.keep b o e n f (by simp)) (λb o _ f _ e n=>u.slot b o e n f (by simp)) (λb o _ e n=>u.free b o e n (by simp)) (λb o _ e=>u.there b o e (by simp)) u.tups u.frzs u.tbls (λq i=>by
  obtain⟨o',g,d,a,k⟩:=i;rw[h]at a;cases a;exact⟨_,g,d,j,k⟩) c I.bare
def Inv.call{g':Array GenState}{t':Nat}{d':Drawn}{ch:List Addr}(I:Inv X pins σ H s)(u:Un (frs X.stack) ch H H' s.heap h')(g:HOk X.prog X.w H' h')(q:AllBare g') (d:∀b∈ch,(b∈X.ex\/X.s₀.heap.objs.size<=b)/\b≠X.env.locals/\(∀x c,X.env.cells.lookup x=some c->c≠b)/\∀p∈X.pn++pins,p.1≠b): Inv X pins σ H' {s with heap:=h',gens:=g',drawn:=d',toks:=t'}:=by
 obtain⟨m,⟨o,es,y,k,r⟩,_⟩:=id I.loc;obtain⟨A,h⟩:=u.any k I.free λz=>(d _ z).2.1 rfl;exact I.step (ch:=ch) d (λb o h v a e n=>u.keep b o e n (λz=>(cQz.mp (I.stkSub b z)).elim h v) a) (λb o _ _ a e n=>u.any e n a) (λb o a e n=>u.free b o e n a) (λb o a e=>u.there b o e a) u.tups u.frzs u.tbls (λB l=>by
  obtain⟨o',j,i,f,t⟩:=l;rw[k]at f;cases f;exact⟨_,j,i,h,t⟩) g q
def Inv.turned{t':Nat}{it:Addr}(I:Inv X pins σ H s)(k:∀b o,b≠it->s.heap.get? b=some o->h'.get? b=some o)(l:H it=none)(f:it≠X.env.locals) (h1:it∈X.ex\/X.s₀.heap.objs.size<=it) (h2:∀x c,X.env.cells.lookup x=some c->c≠it) (g:∀p∈X.pn++pins,p.1≠it):Inv X pins σ H {s with heap:=h',toks:=t'}:=by
 have d:∀b u,H b=some u->b≠it:=λb u e z=>by rw[z,l]at e;cases e
 refine I.step (g':=s.gens) (d':=s.drawn) (ch:= [it]) (λb j=>?_) (λb o _ _ a e _=>k b o (λz=>a (by simp[z])) e) (λb o _ _ a e _=>⟨o.slots,k b o (λz=>a (by simp[z])) e⟩) (λ_ _ _ _ n=>n)
  (λb o a e=>⟨o,k b o (λz=>a (by simp[z])) e⟩) (λ_ _ e=>e) (λ_ _ _ e=>e) (λb ps e=>⟨#[],by rw[e];simp⟩) (λm h=>?_) (λb u e=>?_) I.bare
 ·have e:b=it:=by simpa using j
  subst e;exact⟨h1,f,h2,g⟩
 ·obtain⟨o,es,i,t,r⟩:=h;exact⟨o,es,i,k _ o (cQ6 f) t,r⟩
 ·refine(I.hok b u e).stay (λc v a q=>k c v ?_ q) (λ_ q=>q) λ_ _ q=>q;rcases a with z|z
  ·rw[z];exact d b u e
  ·exact d c _ z
def Inv.tok(I:Inv X pins σ H s)(t:Nat):Inv X pins σ H {s with toks:=t}:=I.un (h':=s.heap) (t':=t) Un.refl I.hok
def Inv.kept(I:Inv X pins σ H s)(k:∀b u,s.heap.get? b=some u->h'.get? b=some u):Inv X pins σ H {s with heap:=h',toks:=t'}:=I.un (Un.kept k) (I.hok.kept k)
def Inv.laid(I:Inv X pins σ H s)(k:∀b u,s.heap.get? b=some u->h'.get? b=some u)(d:s.heap.objs.size<=a)(c:zJ X.prog X.w (upd H a o) h' a o):
  Inv X pins σ (upd H a o) {s with heap:=h',toks:=t'}:=I.un (Un.laid k d (I.hok.fresh d)) (I.hok.laid k d c)
def Inv.write(I:Inv X pins σ H s)(d:Mut (H x))(f:e=x\/H e=some (.own x))(k:∀b u,b≠e->s.heap.get? b=some u->h'.get? b=some u)(a:∃u,h'.get? e=some u)
  (c:zJ X.prog X.w (upd H x o) h' x o):Inv X pins σ (upd H x o) {s with heap:=h',toks:=t'}:=I.un (Un.write d f k a) (I.hok.write d f k a c)
def Inv.pins_of(I:Inv X pins σ H s)(h:∀p∈a,s.heap.get? p.1=some p.2/\H p.1=none/\p.1≠X.env.locals/\p.1∉X.fs/\∀v,p.2.data≠ .cell v):Inv X a σ H s:=
 ⟨I.ok,I.os,I.bare,I.base,I.loc,I.cell,I.free,I.freeC,λp b=>(cQY.mp b).elim (λz=>I.pin p (cZx _ z)) (h p),I.hok,I.len⟩
def aVW{N:List Str}(c:N.Nodup){i j:Nat}{x:Str}(a:N[i]? =some x)(b:N[j]? =some x):i=j:=by
 obtain⟨h1,e⟩:=cQA.mp a;obtain⟨h2,d⟩:=cQA.mp b;exact(cZg c).mp (e.trans d.symm)
def aXc{M:Model}{A:cXi}{E:cQp->cQr->Prop}{i:Nat}{x:Str}{v:V}{u:cQp}{Q:Unit->cQr->Prop}(I:Inv X pins σ H s)(hN:X.N.Nodup)(hi:X.N[i]? =some x)(B:Loc X.env.scope x)(r:zL v u) (h:∀s',Inv X pins (σ.set i (some v)) H s'->(∃a,cZr a s.heap s'.heap/\(a=X.env.locals\/X.env.cells.lookup x=some a))->Q () s') (hf:X.fn x=true\/X.env.scope.names.lookup x=some .local:=by first|exact .inl rfl|exact .inr rfl|assumption):cQw M A (storeName X.env x u) Q E s:=by
 obtain⟨m,hn,hl⟩:=id I.loc;have P:(X.env.scope.kind== .class || (X.env.scope.kind== .module && X.env.locals !=X.env.globals))=false:=by rw[I.ok.kind];rfl
 have hiσ:i<σ.length:=by rw[I.len];exact(cQA.mp hi).1
 have cne:=I.cne;have l:∀ {a:Addr} {h':Heap},(∃o,s.heap.get? a=some o/\H a=none)->cZr a s.heap h'->HOk X.prog X.w H h':=λ{a h'} ha f b ob e=>by
  obtain⟨_,_,C⟩:=ha;refine(I.hok b ob e).stay (λc U t q=>(f.2 c ?_).trans q) (λ_ q=>q) λ_ _ q=>q;rintro rfl;rcases t with rfl|t
  ·rw[C]at e;cases e
  ·rw[C]at t;cases t
 rcases B with F|F
 ·refine wpAny_storeName_local F hn (λh' a0 f=>?_) P;obtain⟨oL,_,_,a1,_⟩:=id hn;refine h _ ⟨I.ok,I.os,I.bare,⟨λb o e n K B=>?_,λb o e n K B=>?_,I.base.free,λb o e B=>?_,I.base.tups,I.base.frzs,I.base.tbls⟩,⟨_,a0,λj y Y g D e3=>?_⟩,λy c e=>?_,I.free,I.freeC,λp hp=>?_,l ⟨oL,a1,I.free⟩ f,by simpa using I.len⟩ ⟨_,f,.inl rfl⟩
  ·exact(f.2 b (cQP (cQR (cQC e) I.ok.above))).trans (I.base.keep b o e n K B)
  ·obtain⟨Z,g⟩:=I.base.slot b o e n K B;exact⟨Z,(f.2 b (cQP (cQR (cQC e) I.ok.above))).trans g⟩
  ·obtain⟨o',g⟩:=I.base.there b o e B;exact⟨o',(f.2 b (cQP (cQR (cQC e) I.ok.above))).trans g⟩
  ·by_cases J:j=i
   ·subst J;rw[hi]at g;cases g;rw[cZI hiσ]at D;cases D;exact⟨u,r,.inl ⟨F,by simp⟩⟩
   ·rw[cJB (cQ6 J)]at D;obtain⟨u',r',q⟩:=hl j y Y g D e3;refine⟨u',r',?_⟩;rcases q with⟨k,e⟩|⟨k,c,e,z⟩
    ·refine .inl ⟨k,?_⟩;have:y≠x:=λe=>J (aVW hN g (e ▸ hi));simp[this,e]
    ·exact .inr ⟨k,c,e,z.sameBut f (cne y c e)⟩
  ·obtain⟨U,z⟩:=I.cell y c e;exact⟨U,z.sameBut f (cne y c e)⟩
  ·obtain⟨e,n,ne,W,d⟩:=I.pin p hp;exact⟨(f.2 p.1 ne).trans e,n,ne,W,d⟩
 ·have G:X.fn x=true:=by
   rcases hf with z|z
   ·exact z
   ·rw[z]at F;cases F
  obtain⟨c,t⟩:=I.ok.has x (.inl F);obtain⟨U,z⟩:=I.cell x c t;refine wpAny_storeName_cell I.ok.kind F t z (λh' O f=>?_);obtain⟨oc,R,S⟩:=id z;refine h {s with heap:=h'} ⟨I.ok,I.os,I.bare,⟨λb o e n K B=>?_,λb o e n K B=>?_,I.base.free,λb o e B=>?_,I.base.tups,I.base.frzs,I.base.tbls⟩,⟨m,hn.sameBut f (cQ6 (cne x c t)),λj y Y g D e3=>?_⟩,λy T e=>?_,I.free,I.freeC,λp hp=>?_,l ⟨oc,R,I.freeC x c t⟩ f,by simpa using I.len⟩ ⟨c,f,.inr t⟩
  ·exact(f.2 b (cQP (cQR (cQC e) (I.ok.cab x c G t)))).trans (I.base.keep b o e n K B)
  ·obtain⟨Z,g⟩:=I.base.slot b o e n K B;exact⟨Z,(f.2 b (cQP (cQR (cQC e) (I.ok.cab x c G t)))).trans g⟩
  ·obtain⟨o',g⟩:=I.base.there b o e B;exact⟨o',(f.2 b (cQP (cQR (cQC e) (I.ok.cab x c G t)))).trans g⟩
  ·by_cases J:j=i
   ·subst J;rw[hi]at g;cases g;rw[cZI hiσ]at D;cases D;exact⟨u,r,.inr ⟨.inl F,c,t,O⟩⟩
   ·rw[cJB (cQ6 J)]at D;obtain⟨u',r',q⟩:=hl j y Y g D e3;refine⟨u',r',?_⟩;rcases q with q|⟨k,T,e,z'⟩
    ·exact .inl q
    ·refine .inr ⟨k,T,e,z'.sameBut f ?_⟩;rintro rfl;exact J (aVW hN g (I.ok.inj _ _ _ e t ▸ hi))
  ·by_cases L:T=c
   ·subst L;exact⟨_,O⟩
   ·obtain⟨w2,z2⟩:=I.cell y T e;exact⟨w2,z2.sameBut f L⟩
  ·obtain⟨e,n,ne,W,d⟩:=I.pin p hp;refine⟨(f.2 p.1 ?_).trans e,n,ne,W,d⟩;intro q;rw[q,R]at e;have q':oc=p.2:=cQI e;exact d U (by rw[<- q'];exact S)
def aQj{E:cQp->cQr->Prop}{Q:Unit->cQr->Prop}(I:Inv X pins σ H s)(b:X.N.Nodup)(hi:X.N[i]? =some x)(c:Loc X.env.scope x)(r:zL v u) (h:∀s',Inv X pins (σ.set i (some v)) H s'->Q () s') (a:X.fn x=true\/X.env.scope.names.lookup x=some .local:=by first|exact .inl rfl|exact .inr rfl|assumption):cQw M A (storeName X.env x u) Q E s:=
 aXc I b hi c r (λs' d _=>h s' d) a
def Inv.call'(I:Inv X pins σ H s)(i:s'.os=s.os)(u:Un (frs X.stack) ch H H' s.heap s'.heap)(d:HOk X.prog X.w H' s'.heap)(j:AllBare s'.gens) (a:∀b∈ch,(b∈X.ex\/X.s₀.heap.objs.size<=b)/\b≠X.env.locals/\(∀x c,X.env.cells.lookup x=some c->c≠b)/\∀p∈X.pn++pins,p.1≠b):Inv X pins σ H' s':=by
 obtain⟨h',g,h,f,o'⟩:=s';have e:o'=s.os:=i;subst e;exact I.call (g':=g) (t':=f) (d':=h) u d j a
end
abbrev XK:=cQp->Option Addr->Hp->Prop
abbrev St:=List (Option V)
abbrev VK:=V->Hp->Prop
abbrev TE:=St->Hp->VK->Prop
abbrev TT:=St->Hp->(Bool->Hp->Prop)->Prop
abbrev TA:=St->Hp->(List V->Hp->Prop)->Prop
structure aKT where
 nx:St->Hp->Prop
 rt:VK
 bk:St->Hp->Prop:=λ_ _=>False
 ct:St->Hp->Prop:=λ_ _=>False
abbrev TS:=aKT->St->Hp->Prop
inductive EP(X:Cx)(pins:List (Addr×Obj))(σ:St)(Q:VK)(u:cQp)(s':cQr):Prop|mk(v H')(_:Inv X pins σ H' s')(_:zL v u)(_:Q v H')
def TP(X:Cx)(pins:List (Addr×Obj))(σ:St)(Q:Bool->Hp->Prop)(b:Bool)(s':cQr):Prop:=∃H',Inv X pins σ H' s'/\Q b H'
inductive AP(X:Cx)(pins:List (Addr×Obj))(σ:St)(Q:List V->Hp->Prop)(us:List cQp)(s':cQr):Prop|mk(vs H')(_:Inv X pins σ H' s')(_:xY vs us)(_:Q vs H')
inductive NxP(X:Cx)(pins:List (Addr×Obj))(s':cQr)(N:St->Hp->Prop):Prop|mk(σ' H')(_:Inv X pins σ' H' s')(_:N σ' H')
inductive RtP(X:Cx)(pins:List (Addr×Obj))(s':cQr)(N:VK)(u:cQp):Prop|mk(v σ' H')(_:Inv X pins σ' H' s')(_:zL v u)(_:N v H')
def SP(X:Cx)(pins:List (Addr×Obj))(D:aKT)(f:Flow)(s':cQr):Prop:=
 match f with
 |.next=>NxP X pins s' D.nx
 |.brk=>NxP X pins s' D.bk
 |.cont=>NxP X pins s' D.ct
 |.ret u=>RtP X pins s' D.rt u
def PE(X:Cx)(e:Expr)(t:TE):Prop:=
 ∀ (pins:List (Addr×Obj))(s:cQr)(σ:St)(H:Hp)(Q:VK),Inv X pins σ H s->t σ H Q->cQw (cQx X.prog X.w) X.A (eval e X.env) (EP X pins σ Q) X.xe s
def PT(X:Cx)(e:Expr)(t:TT):Prop:=
 ∀ (pins:List (Addr×Obj))(s:cQr)(σ:St)(H:Hp)(Q:Bool->Hp->Prop),Inv X pins σ H s->t σ H Q->cQw (cQx X.prog X.w) X.A (isTrue e X.env (eval e X.env)) (TP X pins σ Q) X.xe s
def PW(X:Cx)(e:Expr)(t:TT):Prop:=
 ∀ (a:Sem cQp)(pins:List (Addr×Obj))(s:cQr)(σ:St)(H:Hp)(Q:Bool->Hp->Prop),Inv X pins σ H s->t σ H Q->cQw (cQx X.prog X.w) X.A (isTrue e X.env a) (TP X pins σ Q) X.xe s
def PW.pt{t:TT}(h:PW X e t):PT X e t:=h _
def PA(X:Cx)(es:List Expr)(t:TA):Prop:=
 ∀ (pos:Pos)(pins:List (Addr×Obj))(s:cQr)(σ:St)(H:Hp)(Q:List V->Hp->Prop),Inv X pins σ H s->t σ H Q->cQw (cQx X.prog X.w) X.A (spliced (cX6 pos (cQ5 es X.env))) (AP X pins σ Q) X.xe s
def PS(X:Cx)(st:Stmt)(t:TS):Prop:=
 ∀ (pins:List (Addr×Obj))(s:cQr)(σ:St)(H:Hp)(D:aKT),Inv X pins σ H s->t D σ H->cQw (cQx X.prog X.w) X.A (exec st X.env) (SP X pins D) X.xe s
def PSs(X:Cx)(st:List Stmt)(t:TS):Prop:=
 ∀ (pins:List (Addr×Obj))(s:cQr)(σ:St)(H:Hp)(D:aKT),Inv X pins σ H s->t D σ H->cQw (cQx X.prog X.w) X.A (execs st X.env) (SP X pins D) X.xe s
def thn{α:Type}{t:Sem α}{Q b:α->cQr->Prop}{E:cQp->cQr->Prop}(h:cQw M A t Q E s)(c:∀a s,Q a s->b a s):cQw M A t b E s:=cXs h c λ_ _ x=>x
end L2
namespace L2
open PySem PySem.Spec PyProof.Rows
section
variable {X:Cx}
def bin(i:PE X a ta)(j:PE X b tb){R:V->V->Hp->Prop}(I:Inv X pins σ H s)(h:ta σ H λx H1=>tb σ H1 λy H2=>R x y H2) {α:Type} {Q:α->cQr->Prop} {f:cQp->cQp->Sem α} (g:∀v u e x y H2,Inv X pins σ H2 e->zL x v->zL y u->R x y H2->cQw (cQx X.prog X.w) X.A (f v u) Q X.xe e): cQw (cQx X.prog X.w) X.A (eval a X.env) (λv c=>cQw (cQx X.prog X.w) X.A (eval b X.env) (λu d=>cQw (cQx X.prog X.w) X.A (f v u) Q X.xe d) X.xe c) X.xe s:=by
 refine thn (i pins s σ H _ I h) λv s1 ⟨x,H1,I1,r1,q1⟩=>?_;refine thn (j pins s1 σ H1 _ I1 q1) λu e ⟨y,H2,I2,r2,q2⟩=>?_;exact g v u e x y H2 I2 r1 r2 q2
inductive bWu(i:Nat)(σ:St)(H:Hp)(Q:VK):Prop|mk(v)(_:σ[i]? =some (some v))(_:Q v H)
def tC(v:V):TE:=λ_ H Q=>Q v H
def bJD(k:X.N[i]? =some x)(o:Vis X.env.scope x)(f:(x==(AO:Str))=false:=by decide)(d:(x==(BA:Str))=false:=by decide):PE X (.Name x pos) (bWu i):=by
 intro pins s σ H Q I h;obtain⟨v,e,h⟩:=h;obtain⟨m,n,hl⟩:=I.loc;obtain⟨u,r,l⟩:=hl i x v k e o;have fin:EP X pins σ Q u s:=⟨v,H,I,r,h⟩;rcases l with⟨b,j⟩|⟨b,c,g,a⟩
 ·exact wpAny_Name (wpAny_loadName_local I.ok.kind b n j fin) f
 ·rcases b with b|b
  ·exact wpAny_Name (wpAny_loadName_cell I.ok.kind b g a fin) f
  ·exact wpAny_Name (wpAny_loadName_free I.ok.kind b g a fin d) f
def yF{i j pos}:PE X (.Constant (.int i) j pos) (tC (.int i)):=λ_ _ _ H _ I h=>wpAny_Constant_int ⟨.int i,H,I.tok _,⟨_,rfl⟩,h⟩
def vJ{b j pos}:PE X (.Constant (.bool b) j pos) (tC (.bl b)):=λ_ _ _ H _ I h=>Constant_bool ⟨.bl b,H,I,Cd,h⟩
def x3{j pos}:PE X (.Constant .none j pos) (tC .non):=λ_ _ _ H _ I h=>Constant_none ⟨.non,H,I,Cd,h⟩
def yP{x j pos}:PE X (.Constant (.str x) j pos) (tC (.str x)):=λ_ _ _ H _ I h=>Calls.Constant_str ⟨.str x,H,I.tok _,⟨_,rfl⟩,h⟩
def Gl(X:Cx)(x:Str):Prop:=X.env.kindOf x=some .globalImplicit
def u4{E:cQp->cQr->Prop}{Q:cQp->cQr->Prop}(I:Inv X pins σ H s)(c:Gl X x)(b:X.mg x=some u)(h:Q u s) (a:(x==(AO:Str))=false:=by decide):cQw (cQx X.prog X.w) X.A (eval (.Name x pos) X.env) Q E s:=
 cVJ I.ok.kind c (Calls.loadGlobal_global (by rw[I.ok.glob];exact I.mod.glob.keeps I.bk) b h) a
def aXD{E:cQp->cQr->Prop}{Q:cQp->cQr->Prop}(I:Inv X pins σ H s)(b:Gl X x)(a:X.mg x=none)(d:cQ7 x=some u)(h:Q u s) (c:x≠Ad:=by decide) (e:(x==(AO:Str))=false:=by decide):cQw (cQx X.prog X.w) X.A (eval (.Name x pos) X.env) Q E s:=by
 obtain⟨f,h1,h2⟩:=I.mod.blt;exact cVJ I.ok.kind b (Calls.loadGlobal_builtin (by rw[I.ok.glob];exact I.mod.glob.keeps I.bk) a (by rw[I.ok.blt];exact h1.keeps I.bk) ((h2 x c).trans d) h) e
def uF(c:Gl X x)(b:X.mg x=some u)(r:zL v u)(a:(x==(AO:Str))=false:=by decide):PE X (.Name x pos) (tC v):=
 λ_ _ _ H _ I h=>u4 I c b ⟨v,H,I,r,h⟩ a
def xV(e:Gl X x)(d:X.mg x=none)(b:cQ7 x=some u)(r:zL v u)(a:x≠Ad:=by decide)(c:(x==(AO:Str))=false:=by decide):PE X (.Name x pos) (tC v):=
 λ_ _ _ H _ I h=>aXD I e d b ⟨v,H,I,r,h⟩ a c
variable {a b:Expr}{ta tb:TE}{pos:Pos}
def PC(X:Cx)(op:CmpOp)(a b:Expr)(t:TE):Prop:=
 ∀ (pins:List (Addr×Obj))(s:cQr)(σ:St)(H:Hp)(Q:VK),Inv X pins σ H s->t σ H Q->
  cQw (cQx X.prog X.w) X.A (eval a X.env) (λv d=>cQw (cQx X.prog X.w) X.A (eval b X.env) (λu c=>cQw (cQx X.prog X.w) X.A (cXW op v u) (EP X pins σ Q) X.xe c) X.xe d) X.xe s
def bXW(b:Expr)(h:op≠ .In)(h2:op≠ .NotIn):cJh op b=false:=by
 have a:(op==CmpOp.In)=false:=by cases op<;> first|rfl|exact absurd rfl h
 have c:(op==CmpOp.NotIn)=false:=by cases op<;> first|rfl|exact absurd rfl h2
 cases b<;> simp[cJh,a,c]
inductive tBQ(Q:Bool->Hp->Prop)(x:V)(H1:Hp):Prop|mk(c)(_:x= .bl c)(_:Q c H1)
def tB(t:TE):TT:=λσ H Q=>t σ H λx H1=>tBQ Q x H1
def bKq{t:TE}(h:PC X op a b t)(h1:cJh op b=false:=by first|exact bXW _ (by decide) (by decide)|rfl):PT X (.Compare a [op] [b] pos) (tB t):=by
 intro pins s σ H Q I hw;refine wpAny_isTrue_Compare1 (thn (h pins s σ H _ I hw) λv f h1=>thn h1 λu e h2=>thn h2 λc s3 ⟨x,H1,I1,r1,q1⟩=>?_) h1;obtain⟨d,rfl,q⟩:=q1;cases r1;exact cZo ⟨H1,I1,q⟩
def x8{t:TE}(h:PE X e t)(b:∀a,isTrue e X.env a=(do let v <- a;standAt e.pos;cJM [v] (truthy v)):=by intro _;rfl):PT X e (tB t):=by
 intro pins s σ H Q I hw;refine isTrue_plain (thn (h pins s σ H _ I hw) λv s1 ⟨x,H1,I1,r1,q1⟩=>?_) (b _);obtain⟨d,rfl,q⟩:=q1;cases r1;exact cZo ⟨H1,I1,q⟩
variable {tA tB':TT}{jX:List Expr}
def cQf(t u:TT):TT:=λσ H Q=>t σ H λc H1=>if c=true then u σ H1 Q else Q false H1
def tOr(t u:TT):TT:=λσ H Q=>t σ H λc H1=>if c=true then Q true H1 else u σ H1 Q
def cQj(t:TT):TT:=λσ H Q=>t σ H λc H1=>Q (!c) H1
def vM(b:PT X a tA):PW X (.BoolOp .And [a] pos) tA:=by
 intro d pins s σ H Q I h;refine isTrue_and (thn (b pins s σ H Q I h) λc f e=>?_);cases c with
 |true=>exact isTrue_and_nil e
 |false=>exact e
def vX(b:PT X a tA):PW X (.BoolOp .Or [a] pos) tA:=by
 intro d pins s σ H Q I h;refine isTrue_or (thn (b pins s σ H Q I h) λc f e=>?_);cases c with
 |false=>exact isTrue_or_nil e
 |true=>exact e
def uA(f:PT X a tA)(d:PW X (.BoolOp .And (b::jX) pos) tB'):PW X (.BoolOp .And (a::b::jX) pos) (cQf tA tB'):=by
 intro e pins s σ H Q I h;refine isTrue_and (thn (f pins s σ H _ I h) λc s1 ⟨H1,I1,q1⟩=>?_);cases c with
 |true=>exact d e pins s1 σ H1 Q I1 q1
 |false=>exact⟨H1,I1,q1⟩
def jW(f:PT X a tA)(d:PW X (.BoolOp .Or (b::jX) pos) tB'):PW X (.BoolOp .Or (a::b::jX) pos) (tOr tA tB'):=by
 intro e pins s σ H Q I h;refine isTrue_or (thn (f pins s σ H _ I h) λc s1 ⟨H1,I1,q1⟩=>?_);cases c with
 |true=>exact⟨H1,I1,q1⟩
 |false=>exact d e pins s1 σ H1 Q I1 q1
def vL(b:PT X a tA):PT X (.UnaryOp .Not a pos) (cQj tA):=by
 intro pins s σ H Q I h;exact isTrue_not (b pins s σ H (λc H1=>Q (!c) H1) I h)
inductive bKM(tb:TE)(σ:St)(Q:VK)(x:V)(H1:Hp):Prop|mk(c)(_:x= .bl c)(_:if c=true then tb σ H1 Q else Q (.bl false) H1)
def bYB(ta tb:TE):TE:=λσ H Q=>ta σ H λx H1=>bKM tb σ Q x H1
inductive bYG(tb:TE)(σ:St)(Q:VK)(x:V)(H1:Hp):Prop|mk(c)(_:x= .bl c)(_:if c=true then Q (.bl true) H1 else tb σ H1 Q)
def cQk(ta tb:TE):TE:=λσ H Q=>ta σ H λx H1=>bYG tb σ Q x H1
inductive bKQ(Q:VK)(x:V)(H1:Hp):Prop|mk(c)(_:x= .bl c)(_:Q (.bl (!c)) H1)
def bYF(ta:TE):TE:=λσ H Q=>ta σ H λx H1=>bKQ Q x H1
def aJd{op}{t:TE}(h:PE X a t):PE X (.BoolOp op [a] pos) t:=λpins s σ H Q I hw=>BoolOp_one (h pins s σ H Q I hw)
def aV2(f:PE X a ta)(e:PE X (.BoolOp .And (b::jX) pos) tb):PE X (.BoolOp .And (a::b::jX) pos) (bYB ta tb):=by
 intro pins s σ H Q I h;refine BoolOp_and (thn (f pins s σ H _ I h) λv s1 ⟨x,H1,I1,r1,d⟩=>?_);obtain⟨c,rfl,d⟩:=d;cases r1;refine cZo ?_;cases c with
 |true=>exact e pins s1 σ H1 Q I1 d
 |false=>exact⟨.bl false,H1,I1,Cd,d⟩
def bKl(f:PE X a ta)(e:PE X (.BoolOp .Or (b::jX) pos) tb):PE X (.BoolOp .Or (a::b::jX) pos) (cQk ta tb):=by
 intro pins s σ H Q I h;refine BoolOp_or (thn (f pins s σ H _ I h) λv s1 ⟨x,H1,I1,r1,d⟩=>?_);obtain⟨c,rfl,d⟩:=d;cases r1;refine cZo ?_;cases c with
 |false=>exact e pins s1 σ H1 Q I1 d
 |true=>exact⟨.bl true,H1,I1,Cd,d⟩
def bJC(d:PE X a ta):PE X (.UnaryOp .Not a pos) (bYF ta):=by
 intro pins s σ H Q I h;refine UnaryOp_ (thn (d pins s σ H _ I h) λv s1 ⟨x,H1,I1,r1,b⟩=>?_);obtain⟨c,rfl,b⟩:=b;cases r1;exact not_of (cZo ⟨.bl (!c),H1,I1,Cd,b⟩)
def tIf(t:TT)(ta tb:TE):TE:=λσ H Q=>t σ H λc H1=>if c=true then ta σ H1 Q else tb σ H1 Q
def aV3(g:PT X c tA)(f:PE X a ta)(e:PE X b tb):PE X (.IfExp c a b pos) (tIf tA ta tb):=by
 intro pins s σ H Q I h;refine wpAny_IfExp (thn (g pins s σ H _ I h) λd s1 ⟨H1,I1,q1⟩=>?_);cases d with
 |true=>exact f pins s1 σ H1 Q I1 q1
 |false=>exact e pins s1 σ H1 Q I1 q1
end
end L2
namespace L2
open PySem PySem.Spec PyProof.Rows
def SqL(K:cQq)(H:Hp)(a:Addr)(xs:List V):Prop:=
 Rd H a (.lst xs)\/
  ∃ (o:Obj)(b:Array cQp)(n:Nat),K.lookup a=some o/\o.cls= .type AB/\o.dict=none/\o.data= .seq b n/\b.size<=cQM/\xY xs b.toList
def SqT(K:cQq)(H:Hp)(a:Addr)(xs:List V):Prop:=
 Rd H a (.tup xs)\/
  ∃ (o:Obj)(b:Array cQp)(n:Nat),K.lookup a=some o/\o.cls= .type AD/\o.data= .seq b n/\b.size<=cQM/\xY xs b.toList
def bY2:cQp->Option V
 |.none=>some .non
 |.bool b=>some (.bl b)
 |.int i _=>some (.int i)
 |.str x _=>some (.str x)
 |.bytes b _=>some (.byt b)
 |.float b _=>some (.flt b)
 |.ref a=>some (.ref a)
 |.type n=>some (.ty n)
 |_=>none
def zL.abs(r:zL x u):bY2 u=some x:=by
 cases x with
 |non=>cases r;rfl
 |bl _=>cases r;rfl
 |int _=>obtain⟨t,rfl⟩:=r;rfl
 |str _=>obtain⟨t,rfl⟩:=r;rfl
 |byt _=>obtain⟨t,rfl⟩:=r;rfl
 |flt _=>obtain⟨t,rfl⟩:=r;rfl
 |ref _=>cases r;rfl
 |ty _=>cases r;rfl
def zL.inj(r:zL x u)(q:zL y u):x=y:=cQI (r.abs.symm.trans q.abs)
def xY.inj:∀ {xs ys:List V} {us:List cQp},xY xs us->xY ys us->xs=ys
 |_,_,_,.nil,.nil=>rfl
 |_,_,_,.cons r t,.cons r' t'=>by rw[r.inj r',xY.inj t t']
section
variable {X:Cx}{pins:List (Addr×Obj)}{σ:St}{H:Hp}{s:cQr}{a:Addr}{xs ys:List V}
def SqL.of{K:cQq}(h:H a=some (.lst xs)):SqL K H a xs:= .inl (.inl h)
def SqT.of{K:cQq}(h:H a=some (.tup xs)):SqT K H a xs:= .inl (.inl h)
def Inv.list(I:Inv X pins σ H s)(h:SqL X.K H a xs):∃b:List cQp,xY xs b/\PlainL s.heap a b.toArray/\xs.length<=cQM:=by
 rcases h with h|⟨o,b,n,g,c,f,d,i,r⟩
 ·obtain⟨z,b,n,r,e⟩:=h.ok I.hok;exact⟨b,r,⟨_,n,e,Cd,Cd,rfl⟩,z⟩
 ·refine⟨b.toList,r,⟨o,n,I.kIn a o g,c,f,by simpa using d⟩,?_⟩;have e:=r.length;simp only[cXJ]at e;omega
def Inv.tuple(I:Inv X pins σ H s)(h:SqT X.K H a xs):∃b:List cQp,xY xs b/\cJi s.heap a b.toArray/\xs.length<=cQM:=by
 rcases h with h|⟨o,b,n,f,c,d,g,r⟩
 ·obtain⟨z,b,r,p⟩:=h.ok I.hok;exact⟨b,r,p,z⟩
 ·refine⟨b.toList,r,⟨o,I.kIn a o f,c,n,by simpa using d⟩,?_⟩;have e:=r.length;simp only[cXJ]at e;omega
def Inv.list_inj(I:Inv X pins σ H s)(h:SqL X.K H a xs)(h':SqL X.K H a ys):xs=ys:=by
 obtain⟨c,r,⟨o,n,e,_,_,d⟩,_⟩:=I.list h;obtain⟨b,i,⟨o',j,f,_,_,g⟩,_⟩:=I.list h';rw[e]at f;cases f;rw[d]at g;injection g with d1 _;have:c=b:=by simpa using congrArg Array.toList d1
 subst this;exact r.inj i
end
abbrev Cx.wish(X:Cx)(E:cQp->cQr->Prop):Cx:={X with xe:=E}
abbrev Cx.nox(X:Cx):Cx:=X.wish λ_ _=>False
def Cx.Ok.wish{X:Cx}(ok:X.Ok)(E:cQp->cQr->Prop):(X.wish E).Ok:=
 ⟨ok.mod,ok.kind,ok.glob,ok.blt,ok.above,ok.inj,ok.has,ok.cab,ok.hd,ok.frames,ok.stk,ok.exf,ok.bs,ok.bsz,ok.noex,ok.exfs,ok.funs,ok.frf⟩
def Cx.Ok.unwish{X:Cx}{E:cQp->cQr->Prop}(ok:(X.wish E).Ok):X.Ok:=
 ⟨ok.mod,ok.kind,ok.glob,ok.blt,ok.above,ok.inj,ok.has,ok.cab,ok.hd,ok.frames,ok.stk,ok.exf,ok.bs,ok.bsz,ok.noex,ok.exfs,ok.funs,ok.frf⟩
section
variable {X:Cx}{pins:List (Addr×Obj)}{σ:St}{H:Hp}{s:cQr}{E:cQp->cQr->Prop}
def Inv.wish(I:Inv X pins σ H s)(E:cQp->cQr->Prop):Inv (X.wish E) pins σ H s:=⟨I.ok.wish E,I.os,I.bare,I.base,I.loc,I.cell,I.free,I.freeC,I.pin,I.hok,I.len⟩
def Inv.unwish(I:Inv (X.wish E) pins σ H s):Inv X pins σ H s:=⟨I.ok.unwish,I.os,I.bare,I.base,I.loc,I.cell,I.free,I.freeC,I.pin,I.hok,I.len⟩
def SP.unwish(h:SP (X.wish E) pins D f s'):SP X pins D f s':=by
 cases f with
 |next=>obtain⟨a,H',I,q⟩:=h;exact⟨a,H',I.unwish,q⟩
 |brk=>obtain⟨a,H',I,q⟩:=h;exact⟨a,H',I.unwish,q⟩
 |cont=>obtain⟨a,H',I,q⟩:=h;exact⟨a,H',I.unwish,q⟩
 |ret u=>obtain⟨v,a,H',I,r,q⟩:=h;exact⟨v,a,H',I.unwish,r,q⟩
def PSs.nox{st:List Stmt}{t:TS}(h:PSs X.nox st t):PSs X st t:=λpins s σ H D I hw=>
 cXs (h pins s σ H D (I.wish _) hw) (λ_ _ q=>q.unwish) λ_ _ z=>cXX z
end
section
variable {X:Cx}{st:Stmt}{jX:List Stmt}{t u:TS}{e:Expr}{te:TE}{pos:Pos}
def bQ9:TS:=λD σ H=>D.nx σ H
def bYa(t u:TS):TS:=λD σ H=>t {D with nx:=u D} σ H
def yT:PSs X [] bQ9:=λ_ _ σ H _ I h=>cVn ⟨σ,H,I,h⟩
def yC(h1:PS X st t)(h2:PSs X jX u):PSs X (st::jX) (bYa t u):=by
 intro pins s σ H D I h;refine wpAny_execs_cons (thn (h1 pins s σ H {D with nx:=u D} I h) λf b q=>?_);cases f with
 |next=>obtain⟨a,H',c,q⟩:=q;exact h2 pins b a H' D c q
 |ret v=>exact q
 |brk=>exact q
 |cont=>exact q
def yG(h1:PS X st t):PSs X [st] t:=by
 intro pins s σ H D I h;refine wpAny_execs_cons (thn (h1 pins s σ H D I h) λf a q=>?_);cases f with
 |next=>exact cVn q
 |ret v=>exact q
 |brk=>exact q
 |cont=>exact q
def Inv.quiet(I:Inv X pins σ H s):interactive X.env=false:=by simp[interactive,I.ok.kind]
def aVH(te:TE):TS:=λD σ H=>te σ H λ_ H1=>D.nx σ H1
def y0(b:PE X e te)(a:swapsWith e none pos.line X.env=pure false:=by rfl):PS X (.Expr e pos) (aVH te):=by
 intro pins s σ H D I h;exact wpAny_Expr_any (thn (b pins s σ H _ I h) λv s1 ⟨x,H1,I1,r1,q1⟩=>⟨σ,H1,I1,q1⟩) I.quiet a
def bYU(te:TE):TS:=λD σ H=>te σ H D.rt
def yQ(a:PE X e te):PS X (.Return (some e) pos) (bYU te):=by
 intro pins s σ H D I h;exact wpAny_Return_some (thn (a pins s σ H _ I h) λv s1 ⟨x,H1,I1,r1,q1⟩=>⟨x,σ,H1,I1,r1,q1⟩)
def bK9(c:TT)(t u:TS):TS:=λD σ H=>c σ H λb H1=>if b=true then t D σ H1 else u D σ H1
def y6(e:PT X c tc)(g:PSs X a t)(f:PSs X b u):PS X (.If c a b pos) (bK9 tc t u):=by
 intro pins s σ H D I h;refine wpAny_If (thn (e pins s σ H _ I h) λd s1 ⟨H1,I1,q1⟩=>?_);cases d with
 |true=>exact g pins s1 σ H1 D I1 q1
 |false=>exact f pins s1 σ H1 D I1 q1
end
abbrev TG:=V->St->Hp->(St->Hp->Prop)->Prop
abbrev TGs:=List V->St->Hp->(St->Hp->Prop)->Prop
def PG(X:Cx)(a:Expr)(t:TG):Prop:=
 ∀ (pins:List (Addr×Obj))(s:cQr)(σ:St)(H:Hp)(v:V)(u:cQp)(Q:St->Hp->Prop),Inv X pins σ H s->zL v u->t v σ H Q->
  cQw (cQx X.prog X.w) X.A (assign a X.env u) (λ_ s'=>NxP X pins s' Q) X.xe s
def PGs(X:Cx)(c:List Expr)(t:TGs):Prop:=
 ∀ (pins:List (Addr×Obj))(s:cQr)(σ:St)(H:Hp)(a:List V)(b:List cQp)(Q:St->Hp->Prop),Inv X pins σ H s->xY a b->t a σ H Q->
  cQw (cQx X.prog X.w) X.A (assignInOrder ((cVj c X.env).map (·.2)) b) (λ_ s'=>NxP X pins s' Q) X.xe s
abbrev bYg:=V->V->V->Hp->(Hp->Prop)->Prop
def bYO(X:Cx)(t:bYg):Prop:=
 ∀ (pins:List (Addr×Obj))(s:cQr)(σ:St)(H:Hp)(o i v:V)(a b u:cQp)(Q:Hp->Prop),Inv X pins σ H s->zL o a->zL i b->zL v u->t o i v H Q->
  cQw (cQx X.prog X.w) X.A (setItem a b u) (λ_ s'=>∃H',Inv X pins σ H' s'/\Q H') X.xe s
section
variable {X:Cx}{pos:Pos}
def yW(i:Nat):TG:=λv σ H Q=>Q (σ.set i (some v)) H
def xF(b:X.N.Nodup:=by exact ‹yN _ _ _›.nd)(hi:X.N[i]? =some x:=by rfl)(c:Loc X.env.scope x:=by first|exact Or.inl rfl|exact Or.inr rfl)(a:X.fn x=true\/X.env.scope.names.lookup x=some .local:=by first|exact .inl rfl|exact .inr rfl|assumption):PG X (.Name x pos) (yW i):=by
 intro pins s σ H v u Q I r h;exact wpAny_assign_Name (aQj I b hi c r (λs' d=>⟨_,H,d,h⟩) a)
inductive bY3(vs:List V)(σ:St)(H:Hp)(Q:St->Hp->Prop):Prop|mk(_:vs= [])(_:Q σ H)
inductive bYl(t:TG)(u:TGs)(vs:List V)(σ:St)(H:Hp)(Q:St->Hp->Prop):Prop|mk(v r)(_:vs=v::r)(_:t v σ H λσ' H'=>u r σ' H' Q)
def aQN:PGs X [] bY3:=by
 intro pins s σ H a b Q I r h;obtain⟨e,h⟩:=h;subst e;cases r;exact assignInOrder_nil ⟨σ,H,I,h⟩
def zH{t:TG}(h1:PG X e t)(h2:PGs X es u) (b:(cVj (e::es) X.env).map (·.2)=assign e X.env::(cVj es X.env).map (·.2):=by rfl):PGs X (e::es) (bYl t u):=by
 intro pins s σ H g d Q I r h;obtain⟨v,f,a,h⟩:=h;subst a;cases r with
 |cons r c=>rw[b];refine cVF (thn (h1 pins s σ H _ _ _ I r h) λ_ s1 ⟨σ1,H1,I1,q1⟩=>?_);exact h2 pins s1 σ1 H1 _ _ Q I1 c q1
inductive bY5(K:cQq)(n:Nat)(t:TGs)(v:V)(σ:St)(H:Hp)(Q:St->Hp->Prop):Prop|mk(a xs)(_:v= .ref a)(_:SqT K H a xs)(_:xs.length=n)(_:t xs σ H Q)
def aJe{k:Nat}{t:TGs}(j:X.calm=true)(h:PGs X es t) (p:(cVj es X.env).length=n:=by rfl) (c:(cVj es X.env).findIdx? (·.1)=none:=by rfl):PG X (.Tuple es k pos) (bY5 X.K n t):=by
 intro pins s σ H v u Q I r hw;obtain⟨a,xs,f,l,hl,hw⟩:=hw;subst f;cases r;obtain⟨m,d,q,w⟩:=I.tuple l;refine assign_Tuple_tuple (I.ok.hd j) q (by simp[p,<- hl,d.length]) c λh' g=>?_;have i:Inv X pins σ H {s with heap:=h'}:=I.kept (t':=s.toks) λb o e=>g b o (cQP (cQC e)) e;exact h pins _ σ H xs _ Q i (by simpa using d) hw
def bY4(to b:TE)(t:bYg):TG:=λv σ H Q=>to σ H λo H1=>b σ H1 λi H2=>t o i v H2 λa=>Q σ a
def qD{t:bYg}(d:PE X o to)(hi:PE X i a)(b:bYO X t)
  (c:∀v,assign (.Subscript o i pos) X.env v=(do
   let ov <- cJM [v] (eval o X.env)
   let iv <- cJM [v,ov] (eval i X.env)
   standAt pos
   cJM [v,ov,iv] (setItem ov iv v)
   release [v,ov,iv] []):=by intro _;rfl):PG X (.Subscript o i pos) (bY4 to a t):=by
 intro pins s σ H v u Q I r h
 rw[c]
 refine cQo (cXK (thn (d pins s σ H _ I h) λov s1 ⟨x,H1,I1,r1,q1⟩=>?_))
 refine cQo (cXK (thn (hi pins s1 σ H1 _ I1 q1) λiv s2 ⟨y,H2,I2,r2,q2⟩=>?_))
 refine cQo (cJL (cQo (cXK (thn (b pins s2 σ H2 x y v ov iv u _ I2 r1 r2 r q2) λ_ s3 ⟨H3,I3,q3⟩=>?_))))
 exact wpAny_release ⟨σ,H3,I3,q3⟩
def bK8(te:TE)(g:TG):TS:=λD σ H=>te σ H λx H1=>g x σ H1 D.nx
def vK(b:PE X e te)(a:PG X tg g)(c:swapsWithSole [tg] e pos.line X.env=pure false:=by rfl)(hw:swappedStores [tg] e X.env=pure none:=by rfl)
  (h1:(cVj [tg] X.env).map (·.2)= [assign tg X.env]:=by rfl):PS X (.Assign [tg] e pos) (bK8 te g):=by
 intro pins s σ H D I h
 refine wpAny_Assign_stores (thn (b pins s σ H _ I h) λv s1 ⟨x,H1,I1,r1,q1⟩=>?_) c hw
 rw[h1]
 exact thn (a pins s1 σ H1 x v _ I1 r1 q1) λ_ d q=>q
def yU(c:PE X e te)(g:X.N.Nodup:=by exact ‹yN _ _ _›.nd)(hi:X.N[i]? =some x:=by rfl)(a:Loc X.env.scope x:=by first|exact Or.inl rfl|exact Or.inr rfl)(f:swapsWith e (some (.Name x pos')) pos.line X.env=pure false:=by rfl)(d:X.fn x=true\/X.env.scope.names.lookup x=some .local:=by first|exact .inl rfl|exact .inr rfl|assumption):
  PS X (.Assign [.Name x pos'] e pos) (bK8 te (yW i)):=by
 intro pins s σ H D I h
 refine wpAny_Assign_Name (thn (c pins s σ H _ I h) λv s1 ⟨y,H1,I1,r1,q1⟩=>?_) f
 exact aQj I1 g hi a r1 (λj b=>⟨_,H1,b,q1⟩) d
inductive bYH(i:Nat)(j:Nat)(D:aKT)(σ:St)(vs:List V)(H1:Hp):Prop|mk(v w)(_:vs= [v,w])(_:D.nx ((σ.set i (some v)).set j (some w)) H1)
def cQl(i j:Nat)(ta:TA):TS:=λD σ H=>ta σ H λa H1=>bYH i j D σ a H1
def bKo{g m pt:Pos}{kt k2 pt2}(L:X.calm=true)(u:X.N.Nodup)(hi:X.N[i]? =some x)(G:X.N[j]? =some y)(l:i≠j)
  (r:X.env.scope.names.lookup x=some .local) (z:X.env.scope.names.lookup y=some .local) (M:PA X [a,b] ta)
  (hw:swappedStores [.Tuple [.Name x g,.Name y m] kt pt] (.Tuple [a,b] k2 pt2) X.env=pure (some [x,y]))
  (F:swapsWithSole [.Tuple [.Name x g,.Name y m] kt pt] (.Tuple [a,b] k2 pt2) pos.line X.env=pure false:=by rfl):
  PS X (.Assign [.Tuple [.Name x g,.Name y m] kt pt] (.Tuple [a,b] k2 pt2) pos) (cQl i j ta):=by
 intro pins s σ H D I h
 rw[exec_Assign_arm]
 refine cQo (cJL ?_)
 rw[F]
 refine cQo (cQs ?_)
 rw[if_neg (by decide)]
 refine cQo (Tuple_ (thn (M _ pins s σ H _ I h) λus s1 ⟨vs,H1,I1,r1,k⟩=>?_))
 obtain⟨v,w,C,k⟩:=k
 subst C
 obtain⟨d,c,rfl,K,f⟩:∃d c,us= [d,c]/\zL v d/\zL w c:=by
  cases r1 with
  |cons p q=>
   cases q with
   |cons P B=>cases B;exact⟨_,_,Cd,p,P⟩
 refine cXG ?_ (by show 2<=cQM;decide)
 have E:Inv X pins σ H1 {s1 with heap:=s1.heap.push {cls:= .type AD,data:= .seq [d,c].toArray} }:=I1.kept (t':=s1.toks) λb o e=>cQu _ e
 rw[hw]
 refine cQo (cQs ?_)
 show cQw (cQx X.prog X.w) X.A (do rule "assign.swapped-stores";let items <- unpackItems (.ref s1.heap.objs.size) 2 none;assignInOrder [λv=>bindName X.env y v,λv=>bindName X.env x v] items.reverse;pure Flow.next) _ _ _
 refine cQo (cVp (cQo (unpackItems_tuple (items:= #[d,c]) (I.ok.hd L) (IsTup.new s1.heap _) λh' n=>?_)))
 have J:=E.kept (h':=h') (t':=s1.toks) λb o e=>n b o (cQP (cQC e)) e
 show cQw _ _ (assignInOrder [λv=>bindName X.env y v,λv=>bindName X.env x v] [c,d] >>=λ_=>pure Flow.next) _ _ _
 refine cQo (cVF (wpAny_bindName (aQj J u G (.inl z) f (λQ O=>?_) (.inr z))))
 refine cVF (wpAny_bindName (aQj O u hi (.inl r) K (λR t=>assignInOrder_nil (cQs ?_)) (.inr r)))
 rw[List.set_comm _ _ (cQ6 l)]at t
 exact⟨_,H1,t,k⟩
end
section
variable {X:Cx}{pos:Pos}
def bKU(c:TT)(tb:TS):TS:=λD σ H=>∃W:Nat->St->Hp->Prop,(∃m,W m σ H)/\∀m σ H,W m σ H->
 c σ H λb H1=>if b=true then ∃N:St->Hp->Prop,(∀a H',N a H'->∃d,d<m/\W d a H')/\tb {D with nx:=N,ct:=N,bk:=D.nx} σ H1 else D.nx σ H1
def uG(r:PassesOwn (cQx X.prog X.w) X.A X.env X.xe)(x:PT X c tc)(C:PSs X body tb):PS X (.While c body [] pos) (bKU tc tb):=by
 intro pins s σ H D I h;obtain⟨W,⟨z,B⟩,turn⟩:=h;refine wpAny_While (codeAny_whileLoop (λn s'=>∃g H',Inv X pins g H' s'/\W n g H') ?_ z ⟨σ,H,I,B⟩);rintro n y ⟨d,H1,t,u⟩;refine cZQ r (thn (x pins y d H1 _ t (turn n d H1 u)) λb s2 ⟨H2,I2,i⟩=>?_);cases b with
 |true=>
  obtain⟨N,q,i⟩:=i;rw[if_pos rfl];refine cZQ r (thn (C pins s2 d H2 _ I2 i) λf E j=>?_);cases f with
  |next=>obtain⟨a,e,l,p⟩:=j;obtain⟨m,k,o⟩:=q a e p;exact⟨m,k,a,e,l,o⟩
  |cont=>obtain⟨a,e,l,p⟩:=j;obtain⟨m,k,o⟩:=q a e p;exact⟨m,k,a,e,l,o⟩
  |brk=>exact j
  |ret v=>exact j
 |false=>rw[if_neg Bool.false_ne_true];exact cVn ⟨d,H2,I2,i⟩
end
structure It where
 go:Nat->Hp->Prop
 yld:Nat->Hp->V->Hp->Prop
 stop:Nat->Hp->Prop
def bJk(X:Cx)(pins:List (Addr×Obj))(H:Hp)(b:Addr):Prop:=
 H b=none/\b≠X.env.locals/\b∉X.fs/\(b∈X.ex\/X.s₀.heap.objs.size<=b)/\(∀x c,X.env.cells.lookup x=some c->c≠b)/\∀p∈X.pn++pins,p.1≠b
def Inv.fpOk(I:Inv X pins σ H s)(a:s.heap.objs.size<=b)(d:H' b=none):bJk X pins H' b:=by
 refine⟨d,cZ7 (cQR I.lt a),I.nofs a,.inr (cQZ I.sz a),λx c e z=>?_,λp f z=>?_⟩
 ·obtain⟨v,q⟩:=I.cell x c e;exact absurd (cQR q.lt (by rw[z];exact a)) (cXD _)
 ·exact absurd (cQR (cQC (I.pin p f).1) (by rw[z];exact a)) (cXD _)
structure bK3(P:cQO)(w:cQ1)(K:cQq)(tg:Expr)(J:It)(fp:List Addr)(it:Addr)(tn:Nat->Heap->Prop):Prop where
 mem:it∈fp
 obj:∀i h,tn i h->∀b∈fp,∃o,h.get? b=some o/\∀v,o.data≠ .cell v
 keep:∀i h h',tn i h->(∀b∈fp,∀o,h.get? b=some o->h'.get? b=some o)->tn i h'
 item:∀ (X:Cx),X.prog=P->X.w=w->X.K=K->X.calm=true->∀ (i:Nat)(pins:List (Addr×Obj))(s:cQr)(σ:St)(H:Hp)(E:cQp->cQr->Prop),Inv X pins σ H s->(∀b∈fp,bJk X pins H b)->tn i s.heap->J.go i H->
  cQw (cQx P w) X.A (pyNext (.ref it)) (λr s1=>∃u,r=some u/\
   cQw (cQx P w) X.A (cVm tg (.ref it) u) (λ_ s2=>∃x H',Inv X pins σ H' s2/\zL x u/\J.yld i H x H'/\tn (i+1) s2.heap/\∀b∈fp,H' b=none) E s1) E s
 done:∀ (X:Cx),X.prog=P->X.w=w->X.K=K->X.calm=true->∀ (i:Nat)(pins:List (Addr×Obj))(s:cQr)(σ:St)(H:Hp)(E:cQp->cQr->Prop),Inv X pins σ H s->(∀b∈fp,bJk X pins H b)->tn i s.heap->J.stop i H->
  cQw (cQx P w) X.A (pyNext (.ref it)) (λr s1=>r=none/\Inv X pins σ H s1) E s
 self:∀ (A:cXi)(i:Nat)(s:cQr)(Q:cQp->cQr->Prop)(E:cQp->cQr->Prop),tn i s.heap->Q (.ref it) s->cQw (cQx P w) A (pyIter (.ref it)) Q E s
abbrev TI:=St->Hp->(It->Hp->Prop)->Prop
def PIE(X:Cx)(pins:List (Addr×Obj))(σ:St)(tg:Expr)(R:It->Hp->Prop)(a:cQp)(d:cQr):Prop:=
 ∃ (c:Addr)(e:List Addr)(tn:Nat->Heap->Prop)(J:It)(H':Hp),a= .ref c/\Inv X pins σ H' d/\bK3 X.prog X.w X.K tg J e c tn/\tn 0 d.heap/\(∀b∈e,bJk X pins H' b)/\R J H'
def PI(X:Cx)(tg a:Expr)(c:TI):Prop:=
 ∀ (pins:List (Addr×Obj))(s:cQr)(σ:St)(H:Hp)(R:It->Hp->Prop),Inv X pins σ H s->c σ H R->
  cQw (cQx X.prog X.w) X.A (eval a X.env) (λv b=>cQw (cQx X.prog X.w) X.A (pyIter v) (PIE X pins σ tg R) X.xe b) X.xe s
def bWY{E:cQp->cQr->Prop}{Q:Unit->cQr->Prop}(c:s.heap.get? it=some o)(e:o.cls= .type n)(d:o.data= .fields vs) (b: ["enumerate","zip","dict_itemiterator",BK,"odict_iterator","itertools.zip_longest","itertools.pairwise"].contains n=false) (a:Q () s):cQw M A (cVm tg (.ref it) u) Q E s:=by
 unfold cVm;cases tg<;> first
  |exact cQs a
  |(cases u<;> first
    |exact cQs a
    |(refine cQo (wpAny_load c ?_)
      rw[e,d]
      show cQw M A (if(["enumerate","zip","dict_itemiterator",BK,"odict_iterator","itertools.zip_longest","itertools.pairwise"].contains n && vs[0]? ==some (cXI _))=true then _ else _) Q E s
      rw[if_neg (by intro h;rw[b,Bool.false_and]at h;cases h)]
      exact cQs a))
def Itl(K:cQq)(a:Addr):It:=
 ⟨λi H=>∃xs x,SqL K H a xs/\xs[i]? =some x,λi H x H'=>H'=H/\∀xs,SqL K H a xs->xs[i]? =some x,λi H=>∃xs,SqL K H a xs/\xs.length<=i⟩
def Itr(lo:Int)(n:Nat):It:=⟨λi _=>i<n,λi H x H'=>H'=H/\x= .int (lo+i),λi _=>n<=i⟩
def bXe{P:cQO}{w:cQ1}{K:cQq}{tg:Expr}(a it:Addr):bK3 P w K tg (Itl K a) [it] it (λi h=>h.IsListIter it a i) where
 mem:=by simp
 obj:=λi h st b hb=>by
  have e:b=it:=by simpa using hb
  subst e
  obtain⟨o,e,c,d⟩:=st
  exact⟨o,e,λv z=>by rw[d]at z;cases z⟩
 keep:=λi h h' st k=>st.at λo e=>k it (by simp) o e
 item:=by
  intro X hP hw hK hc i pins s σ H E I hf st hg
  subst hP hw hK
  obtain⟨xs,x,hq,hx⟩:=hg
  obtain⟨its,rv,p,hz⟩:=I.list hq
  obtain⟨u,hu,ru⟩:=rv.get hx
  obtain⟨f0,f1,f2,f3,f4,f5⟩:=hf it (by simp)
  refine wpAny_pyNext_list_item st p.isList (x:=u) (by simpa using hu) λh' st' sb=>?_
  have I1:Inv X pins σ H {s with heap:=h'}:=I.turned (t':=s.toks) (λb o hb e=>(sb.2 b hb).trans e) f0 f1 f3 f4 f5
  obtain⟨o,e,c,d⟩:=id st'
  exact⟨u,Cd,bWY (s:={s with heap:=h'}) e c d (by decide) ⟨x,H,I1,ru,⟨rfl,λys hy=>by rw[I.list_inj hy hq];exact hx⟩,st',λb hb=>(hf b hb).1⟩⟩
 done:=by
  intro X hP hw hK hc i pins s σ H E I hf st hg
  subst hP hw hK
  obtain⟨xs,hq,hx⟩:=hg
  obtain⟨its,rv,p,hz⟩:=I.list hq
  obtain⟨f0,f1,f2,f3,f4,f5⟩:=hf it (by simp)
  have hl:=rv.length
  exact wpAny_pyNext_list_end (I.ok.hd hc) st p.isList (by simp;omega) λh' eb=>⟨rfl,I.turned (t':=s.toks) (λb o hb e=>eb b o hb e) f0 f1 f3 f4 f5⟩
 self:=λ_ _ _ _ _ st h=>wpAny_pyIter_listiter st h
def aKN{P:cQO}{w:cQ1}{K:cQq}{tg:Expr}(it:Addr)(lo:Int)(n:Nat):bK3 P w K tg (Itr lo n) [it] it (λi h=>IsRangeIter h it (lo+(i:Nat)*1) ((n:Int) - (i:Nat)) 1) where
 mem:=by simp
 obj:=λi h st b hb=>by
  have e:b=it:=by simpa using hb
  subst e
  exact⟨_,st,λv z=>by
   have z':Data.fields _=Data.cell v:=z
   cases z'⟩
 keep:=λi h h' st k=>k it (by simp) _ st
 item:=by
  intro X hP hw hK hc i pins s σ H E I hf st hg
  subst hP hw hK
  obtain⟨f0,f1,f2,f3,f4,f5⟩:=hf it (by simp)
  have W:=Walks.range (prog:=X.prog) (w:=X.w) (I.ok.hd hc) it lo 1 n
  refine W.item i s _ _ hg st λv h' tk hv st' kk=>?_
  obtain⟨t,rfl⟩:=hv
  have I1:Inv X pins σ H {s with heap:=h',toks:=tk}:=I.turned (λb o hb e=>kk b o (by simpa using hb) e) f0 f1 f3 f4 f5
  refine⟨_,Cd,bWY (s:={s with heap:=h',toks:=tk}) (n:="range_iterator") st' rfl rfl (by decide) ⟨.int (lo+i),H,I1,⟨t,?_⟩,⟨rfl,rfl⟩,st',λb hb=>(hf b hb).1⟩⟩
  rw[Int.mul_one]
 done:=by
  intro X hP hw hK hc i pins s σ H E I hf st hg
  subst hP hw hK
  obtain⟨f0,f1,f2,f3,f4,f5⟩:=hf it (by simp)
  exact wpAny_pyNext_range_end (I.ok.hd hc) st (by have:n<=i:=hg;omega) λh' eb=>⟨rfl,I.turned (t':=s.toks) (λb o hb e=>eb b o hb e) f0 f1 f3 f4 f5⟩
 self:=λ_ _ _ _ _ st h=>wpAny_pyIter_rangeiter st h
end L2
open L2.SqL renaming of → Cb
open L2.SqT renaming of → Cc
namespace L2
open PySem PySem.Spec PyProof.Rows
section
variable {X:Cx}{tg:Expr}
inductive bW0(K:cQq)(R:It->Hp->Prop)(x:V)(H1:Hp):Prop|mk(a)(_:x= .ref a)(_:(∃xs,SqL K H1 a xs))(_:R (Itl K a) H1)
def bYm(K:cQq)(tl:TE):TI:=λσ H R=>tl σ H λx H1=>bW0 K R x H1
def xQ{l:Expr}{tl:TE}(hl:PE X l tl):PI X tg l (bYm X.K tl):=by
 intro pins s σ H R I h;refine thn (hl pins s σ H _ I h) λv s1 ⟨x,H1,I1,r1,q1⟩=>?_;obtain⟨a,e,⟨xs,c⟩,q⟩:=q1;subst e;cases r1;obtain⟨d,g,p,i⟩:=I1.list c;refine cVR p.isList ?_;refine⟨s1.heap.objs.size,[s1.heap.objs.size],_,_,H1,Cd,I1.kept (t':=s1.toks) λb o e=>cQu _ e,bXe a _,⟨_,cQS _ rfl,Cd,rfl⟩,λb f=>?_,q⟩;have e:b=s1.heap.objs.size:=by simpa using f
 subst e;exact I1.fpOk (cQv _) (I1.hok.fresh (cQv _))
def bZu{pins:List (Addr×Obj)}{σ:St}{H:Hp}{s:cQr}{R:It->Hp->Prop}{E:cQp->cQr->Prop}{lo hi:Int}{t u v:Tok}{tk:Nat}(I:Inv X pins σ H s)(h1: -(2 ^ 62)<=lo)(h2:lo<2 ^ 62)(d: -(2 ^ 62)<=hi)(g:hi<2 ^ 62) (q:R (Itr lo (hi - lo).toNat) H):cQw (cQx X.prog X.w) X.A (pyIter (.ref s.heap.objs.size)) (PIE X pins σ tg R) E {s with heap:=s.heap.push {cls:= .type Ag,data:= .fields #[.int lo t,.int hi u,.int 1 v] },toks:=tk}:=by
 refine wpAny_pyIter_range (IsRange.new ..) (small_one h1 h2 d g) ?_;have a:Inv X pins σ H {s with heap:=s.heap.push {cls:= .type Ag,data:= .fields #[.int lo t,.int hi u,.int 1 v] },toks:=tk}:=I.kept λb o e=>cQu _ e;refine⟨(s.heap.push {cls:= .type Ag,data:= .fields #[.int lo t,.int hi u,.int 1 v] }).objs.size,[(s.heap.push {cls:= .type Ag,data:= .fields #[.int lo t,.int hi u,.int 1 v] }).objs.size],_,_,H,Cd,a.kept (t':=tk) λb o e=>cQu _ e,aKN _ lo (hi - lo).toNat,?_,λb h=>?_,q⟩
 ·have c:lo+((0:Nat):Int)*1=lo:=by simp
  have f:(((hi - lo).toNat:Nat):Int) - ((0:Nat):Int)=Builtin.Range.rangeSize lo hi 1:=by rw[rangeSize_one];split<;> omega
  show IsRangeIter _ _ (lo+((0:Nat):Int)*1) ((((hi - lo).toNat:Nat):Int) - ((0:Nat):Int)) 1;rw[c,f];exact cQS _ rfl
 ·have e:b=(s.heap.push {cls:= .type Ag,data:= .fields #[.int lo t,.int hi u,.int 1 v] }).objs.size:=by simpa using h
  subst e;exact a.fpOk (cQv _) (a.hok.fresh (cQv _))
inductive bW1(R:It->Hp->Prop)(vs:List V)(H1:Hp):Prop|mk(j:Int)(_:vs= [.int j])(_: -(2 ^ 62)<=j)(_:j<2 ^ 62)(_:R (Itr 0 j.toNat) H1)
def bYn(ta:TA):TI:=λσ H R=>ta σ H λa H1=>bW1 R a H1
def zP{a:Expr}{ta:TA}{p pos:Pos}(f:Gl X Ag)(d:X.mg Ag=none)(k:PA X [a] ta)(g:cQ5 [a] X.env= [(false,eval a X.env)]:=by rfl):PI X tg (.Call (.Name Ag p) [a] [] pos) (bYn ta):=by
 intro pins s σ H R I h;refine Call_ (aXD I f d boot_range (cJw (thn (k pos pins s σ H _ I h) λus s1 ⟨vs,H1,I1,r1,b⟩=>?_) g rfl));obtain⟨j,e,b,c,q⟩:=b;subst e;cases r1 with
 |cons r i=>cases i;obtain⟨t,rfl⟩:=r;exact call_range_1 (bZu I1 (by omega) (by omega) b c (by simpa using q))
def cQi(d:TI)(g:TG)(tb:TS):TS:=λD σ H=>d σ H λJ H1=>∃W:Nat->Nat->St->Hp->Prop,(∃m,W 0 m σ H1)/\∀i m σ H,W i m σ H->
 (J.stop i H/\D.nx σ H)\/(J.go i H/\∃N:St->Hp->Prop,(∀a H',N a H'->∃c,c<m/\W (i+1) c a H')/\∀x H',J.yld i H x H'->g x σ H' λb H2=>tb {D with nx:=N,ct:=N,bk:=D.nx} b H2)
def aJg(a:List Addr)(h:Heap):List (Addr×Obj):=a.filterMap λb=>(h.get? b).map λo=>(b,o)
def jP(c:b∈a)(e:h.get? b=some o):(b,o)∈aJg a h:=List.mem_filterMap.mpr ⟨b,c,by rw[e];rfl⟩
def aYK(f:p∈aJg a h):p.1∈a/\h.get? p.1=some p.2:=by
 obtain⟨b,c,e⟩:=List.mem_filterMap.mp f;cases q:h.get? b with
 |none=>rw[q]at e;cases e
 |some o=>rw[q]at e;have d:(b,o)=p:=cQI e;subst d;exact⟨c,q⟩
def Inv.pinned(I:Inv X pins σ H s)(g:∀b∈a,bJk X pins H b)(k:∀b∈a,∃o,s.heap.get? b=some o/\∀v,o.data≠ .cell v):Inv X (pins++aJg a s.heap) σ H s:=
 I.pins_of λp i=>(cQY.mp i).elim (λz=>I.pin p (cQN _ z)) λz=>by obtain⟨f,e⟩:=aYK z;obtain⟨h,j,l,_⟩:=g p.1 f;obtain⟨o,c,d⟩:=k p.1 f;rw[e]at c;cases c;exact⟨e,h,j,l,d⟩
def Inv.unpinned(I:Inv X (pins++pl) σ H s):Inv X pins σ H s:=I.pins_of λp a=>I.pin p (cQN _ (cZx _ a))
def wM{R:TI}(E:PassesOwn (cQx X.prog X.w) X.A X.env X.xe)(S:X.calm=true)(hi:PI X tg q R)(hg:PG X tg g)(p:PSs X body tb) (Y:∀x,cVQ q X.env x=pure x:=by intro _;rfl):PS X (.For tg q body [] pos) (cQi R g tb):=by
 intro pins s σ H D I h;refine wpAny_For (thn (hi pins s σ H _ I h) λv s1 h1=>thn h1 λZ s2 h2=>?_) Y;obtain⟨it,B,tn,J,H2,e,I2,T,M,V,W,⟨m0,w0⟩,turn⟩:=h2;subst e;have c:∀ {H':Hp},(∀b∈B,H' b=none)->∀b∈B,bJk X pins H' b:=λhn b p=>⟨hn b p,(V b p).2⟩;refine codeAny_forLoop_any (λn s'=>∃i l H',Inv X pins l H' s'/\tn i s'.heap/\(∀b∈B,H' b=none)/\W i n l H') ?_ m0 ⟨0,σ,H2,I2,M,λb p=>(V b p).1,w0⟩;rintro n Q ⟨i,j,L,U,F,G,w3⟩;rcases turn i n j L w3 with⟨C,qn⟩|⟨go,N,hN,step⟩
 ·refine cZQ E (thn (T.done X rfl rfl rfl S i pins Q j L X.xe U (c G) F C) λr s4 ⟨hr,I4⟩=>?_);subst hr;exact cVn ⟨j,L,I4,qn⟩
 ·refine cZQ E (thn (T.item X rfl rfl rfl S i pins Q j L X.xe U (c G) F go) λr s4 ⟨u,hr,h4⟩=>?_);subst hr;refine cZQ E (thn h4 λ_ s5 ⟨x,H5,I5,r5,y5,st5,fr5⟩=>?_);have P:=I5.pinned (c fr5) (T.obj _ _ st5);refine cZQ E (thn (hg _ s5 j H5 x u _ P r5 (step x H5 y5)) λ_ s6 ⟨σ6,H6,I6,q6⟩=>?_);refine cZQ E (thn (p _ s6 σ6 H6 _ I6 q6) λf O z=>?_);have y:∀ {a:St} {t:Hp},Inv X (pins++aJg B s5.heap) a t O->N a t->∃m,m<n/\∃i l H',Inv X pins l H' O/\tn i O.heap/\(∀b∈B,H' b=none)/\W i m l H':=λ{a t} k K=>by
   obtain⟨m',hm,w7⟩:=hN a t K;refine⟨m',hm,i+1,a,t,k.unpinned,T.keep _ _ _ st5 λb p o e=>(k.pin (b,o) (cQN _ (cQN _ (jP p e)))).1,λb p=>?_,w7⟩;obtain⟨o,e,d⟩:=T.obj _ _ st5 b p;exact(k.pin (b,o) (cQN _ (cQN _ (jP p e)))).2.1
  cases f with
  |next=>obtain⟨a,t,k,K⟩:=z;exact y k K
  |cont=>obtain⟨a,t,k,K⟩:=z;exact y k K
  |brk=>obtain⟨a,t,k,z⟩:=z;exact⟨a,t,k.unpinned,z⟩
  |ret v=>obtain⟨x7,a,t,k,r7,z⟩:=z;exact⟨x7,a,t,k.unpinned,r7,z⟩
end
def zZ{K:cQq}{a:Addr}{xs:List V}{g:TG}{tb:TS}{D:aKT}{σ:St}{H:Hp}(b:Nat->St->Hp->Prop)(h0:b 0 σ H)(hl:∀i σ H,i<=xs.length->b i σ H->SqL K H a xs) (j:∀i x σ H,xs[i]? =some x->b i σ H->g x σ H λd H2=>tb {D with nx:=b (i+1),ct:=b (i+1),bk:=D.nx} d H2) (k:∀σ H,b xs.length σ H->D.nx σ H): ∃W:Nat->Nat->St->Hp->Prop,(∃m,W 0 m σ H)/\∀i m σ H,W i m σ H-> ((Itl K a).stop i H/\D.nx σ H)\/((Itl K a).go i H/\∃N:St->Hp->Prop,(∀c H',N c H'->∃h,h<m/\W (i+1) h c H')/\∀x H',(Itl K a).yld i H x H'->g x σ H' λd H2=>tb {D with nx:=N,ct:=N,bk:=D.nx} d H2):=by
 refine⟨λi m σ H=>m=xs.length - i/\i<=xs.length/\b i σ H,⟨xs.length,by simp,cXo _,h0⟩,?_⟩;rintro i m σ H ⟨rfl,hi,p⟩;have q:=hl i σ H hi p;by_cases f:i<xs.length
 ·refine .inr ⟨⟨xs,xs[i],q,by simp[f]⟩,b (i+1),λc H' l=>⟨xs.length - (i+1),by omega,Cd,f,l⟩,λx H' y=>?_⟩;obtain⟨e,y⟩:=y;subst e;exact j i x σ _ (y xs q) p
 ·have e:i=xs.length:=by omega
  subst e;exact .inl ⟨⟨xs,q,cQv _⟩,k σ H p⟩
def wV{lo:Int}{n:Nat}{g:TG}{tb:TS}{D:aKT}{σ:St}{H:Hp}(b:Nat->St->Hp->Prop)(h0:b 0 σ H) (h:∀i σ H,i<n->b i σ H->g (.int (lo+i)) σ H λd H2=>tb {D with nx:=b (i+1),ct:=b (i+1),bk:=D.nx} d H2) (j:∀σ H,b n σ H->D.nx σ H): ∃W:Nat->Nat->St->Hp->Prop,(∃m,W 0 m σ H)/\∀i m σ H,W i m σ H-> ((Itr lo n).stop i H/\D.nx σ H)\/((Itr lo n).go i H/\∃N:St->Hp->Prop,(∀c H',N c H'->∃f,f<m/\W (i+1) f c H')/\∀x H',(Itr lo n).yld i H x H'->g x σ H' λd H2=>tb {D with nx:=N,ct:=N,bk:=D.nx} d H2):=by
 refine⟨λi m σ H=>m=n - i/\i<=n/\b i σ H,⟨n,by simp,cXo _,h0⟩,?_⟩;rintro i m σ H ⟨rfl,hi,p⟩;by_cases a:i<n
 ·refine .inr ⟨a,b (i+1),λc H' k=>⟨n - (i+1),by omega,Cd,a,k⟩,λx H' y=>?_⟩;obtain⟨e,y⟩:=y;subst e y;exact h i σ _ a p
 ·have e:i=n:=by omega
  subst e;exact .inl ⟨cQv _,j σ H p⟩
end L2
namespace L2
open PySem PySem.Spec PyProof.Rows
abbrev R2:=V->V->Hp->VK->Prop
def OpR(X:Cx)(f:cQp->cQp->Sem cQp)(r:R2):Prop:=
 ∀ (pins:List (Addr×Obj))(s:cQr)(σ:St)(H:Hp)(x y:V)(v u:cQp)(Q:VK),Inv X pins σ H s->zL x v->zL y u->r x y H Q->
  cQw (cQx X.prog X.w) X.A (f v u) (EP X pins σ Q) X.xe s
def UnR(X:Cx)(f:cQp->Sem cQp)(r:V->Hp->VK->Prop):Prop:=
 ∀ (pins:List (Addr×Obj))(s:cQr)(σ:St)(H:Hp)(x:V)(v:cQp)(Q:VK),Inv X pins σ H s->zL x v->r x H Q->
  cQw (cQx X.prog X.w) X.A (f v) (EP X pins σ Q) X.xe s
def jV(X:Cx)(f:cQp)(r:List V->Hp->VK->Prop):Prop:=
 ∀ (pins:List (Addr×Obj))(s:cQr)(σ:St)(H:Hp)(xs:List V)(a:List cQp)(Q:VK),Inv X pins σ H s->xY xs a->r xs H Q->
  cQw (cQx X.prog X.w) X.A (call f a) (EP X pins σ Q) X.xe s
def tOp(r:R2)(ta tb:TE):TE:=λσ H Q=>ta σ H λx H1=>tb σ H1 λy H2=>r x y H2 Q
def tUn(r:V->Hp->VK->Prop)(ta:TE):TE:=λσ H Q=>ta σ H λx H1=>r x H1 Q
inductive rI(C:Int->Int->Prop)(g:Int->Int->V)(x:V)(y:V)(H:Hp)(Q:VK):Prop|mk(i j)(_:x= .int i)(_:y= .int j)(_:C i j)(_:Q (g i j) H)
inductive rI0(g:Int->Int->V)(x:V)(y:V)(H:Hp)(Q:VK):Prop|mk(i j)(_:x= .int i)(_:y= .int j)(_:Q (g i j) H)
inductive rU(g:Int->V)(x:V)(H:Hp)(Q:VK):Prop|mk(i)(_:x= .int i)(_:Q (g i) H)
section
variable {X:Cx}{a b c:Expr}{ta tb tc:TE}{pos:Pos}
def bYi(i:PE X a ta)(j:PE X b tb){R:V->V->Hp->Prop}(I:Inv X pins σ H s) (h:ta σ H λx H1=>tb σ H1 λy H2=>R x y H2) {Q:cQp->cQr->Prop} {f:cQp->cQp->Sem cQp} (g:∀v u e x y H2,Inv X pins σ H2 e->zL x v->zL y u->R x y H2->cQw (cQx X.prog X.w) X.A (f v u) Q X.xe e): cQw (cQx X.prog X.w) X.A (eval a X.env) (λv c=>cQw (cQx X.prog X.w) X.A (eval b X.env) (λu d=>cQw (cQx X.prog X.w) X.A (f v u) Q X.xe d) X.xe c) X.xe s:=by
 refine thn (i pins s σ H _ I h) λv s1 ⟨x,H1,I1,r1,q1⟩=>?_;refine thn (j pins s1 σ H1 _ I1 q1) λu e ⟨y,H2,I2,r2,q2⟩=>?_;exact g v u e x y H2 I2 r1 r2 q2
def yV(i:OpR X (cZT op) r)(f:PE X a ta)(g:PE X b tb):PE X (.BinOp a op b pos) (tOp r ta tb):=by
 intro pins s σ H Q I h;exact wpAny_BinOp (bYi f g I h λv u c x y H2 d e j q=>i pins c σ H2 x y v u Q d e j q)
def aY7{r:V->Hp->VK->Prop}(c:UnR X (unaryOp op) r)(b:PE X a ta):PE X (.UnaryOp op a pos) (tUn r ta):=by
 intro pins s σ H Q I h;exact UnaryOp_ (thn (b pins s σ H _ I h) λv s1 ⟨x,H1,I1,r1,q1⟩=>c pins s1 σ H1 x v Q I1 r1 q1)
def opI{f:cQp->cQp->Sem cQp}{C:Int->Int->Prop}{g:Int->Int->Int} (a:∀ (i j:Int)(t u:Tok)(s:cQr)(Q:cQp->cQr->Prop)(E:cQp->cQr->Prop),C i j->Q (.int (g i j) s.toks) {s with toks:=s.toks+1}->cQw (cQx X.prog X.w) X.A (f (.int i t) (.int j u)) Q E s): OpR X f (rI C λi j=> .int (g i j)):=by
 intro pins s σ H x y v u Q I b e h;obtain⟨i,j,rfl,rfl,d,q⟩:=h;obtain⟨t,rfl⟩:=b;obtain⟨c,rfl⟩:=e;exact a i j t c s _ _ d ⟨.int (g i j),H,I.tok _,⟨_,rfl⟩,q⟩
def bYP{f:cQp->cQp->Sem cQp}{g:Int->Int->Int} (a:∀ (i j:Int)(t u:Tok)(s:cQr)(Q:cQp->cQr->Prop)(E:cQp->cQr->Prop),Q (.int (g i j) s.toks) {s with toks:=s.toks+1}->cQw (cQx X.prog X.w) X.A (f (.int i t) (.int j u)) Q E s): OpR X f (rI0 λi j=> .int (g i j)):=by
 intro pins s σ H x y v u Q I b d h;obtain⟨i,j,rfl,rfl,q⟩:=h;obtain⟨t,rfl⟩:=b;obtain⟨c,rfl⟩:=d;exact a i j t c s _ _ ⟨.int (g i j),H,I.tok _,⟨_,rfl⟩,q⟩
def bK5{f:cQp->cQp->Sem cQp}{g:Int->Int->Bool} (a:∀ (i j:Int)(t u:Tok)(s:cQr)(Q:cQp->cQr->Prop)(E:cQp->cQr->Prop),Q (.bool (g i j)) s->cQw (cQx X.prog X.w) X.A (f (.int i t) (.int j u)) Q E s): OpR X f (rI0 λi j=> .bl (g i j)):=by
 intro pins s σ H x y v u Q I b d h;obtain⟨i,j,rfl,rfl,q⟩:=h;obtain⟨t,rfl⟩:=b;obtain⟨c,rfl⟩:=d;exact a i j t c s _ _ ⟨.bl (g i j),H,I,Cd,q⟩
def bYY(i j:Int):Prop:=0<j/\j<1073741824
def bYL(i j:Int):Prop:=0<=j/\j<=1000000/\i.natAbs<2 ^ 64
def bYb(i j:Int):Prop:=(-(2 ^ 64)<i/\i<2 ^ 64)\/(-(2 ^ 64)<j/\j<2 ^ 64)
def bYb.ok(h:bYb i j):IntMulOk i j:=by
 rcases h with⟨h1,h2⟩|⟨h1,h2⟩
 ·exact .of_left (intBits_le_64 h1 h2)
 ·exact .of_right (intBits_le_64 h1 h2)
def zC:OpR X (cZT .Add) (rI0 λi j=> .int (i+j)):=bYP λ_ _ _ _ _ _ _ q=>add_int q
def w6:OpR X (cZT .Sub) (rI0 λi j=> .int (i - j)):=bYP λ_ _ _ _ _ _ _ q=>sub_int q
def aVZ:OpR X (cZT .Mult) (rI bYb λi j=> .int (i*j)):=opI λ_ _ _ _ _ _ _ a q=>mul_int q a.ok
def Z2:OpR X (cZT .FloorDiv) (rI bYY λi j=> .int (i / j)):=opI λi j _ _ _ _ _ a q=>by
 have h1:(0:Int)<j:=a.1;have h2:j<1073741824:=a.2;exact floordiv_int (by omega) (by rw[Int.fdiv_eq_ediv_of_nonneg i (by omega)];exact q) (.inl (PyProof.noPylong_small (by omega)))
def y3:OpR X (cZT .Mod) (rI (λ_ j=>0<j) λi j=> .int (i % j)):=opI λi j _ _ _ _ _ a q=>by
 have h1:(0:Int)<j:=a;exact mod_int' (by omega) (by rw[Int.fmod_eq_emod_of_nonneg i (by omega)];exact q)
def aQJ:OpR X (cZT .Pow) (rI bYL λi j=> .int (i ^ j.toNat)):=opI λ_ _ _ _ _ _ _ a q=>pow_int_small a.1 a.2.1 a.2.2 q
def unI{f:cQp->Sem cQp}{g:Int->Int} (a:∀ (i:Int)(t:Tok)(s:cQr)(Q:cQp->cQr->Prop)(E:cQp->cQr->Prop),Q (.int (g i) s.toks) {s with toks:=s.toks+1}->cQw (cQx X.prog X.w) X.A (f (.int i t)) Q E s): UnR X f (rU λi=> .int (g i)):=by
 intro pins s σ H x v Q I b h;obtain⟨i,rfl,q⟩:=h;obtain⟨t,rfl⟩:=b;exact a i t s _ _ ⟨.int (g i),H,I.tok _,⟨_,rfl⟩,q⟩
def aJz:UnR X (unaryOp .USub) (rU λi=> .int (-i)):=unI λ_ _ _ _ _ q=>neg_int q
end
def bYR:V->V->Bool
 |.non,.non=>true|.non,.int _=>true|.int _,.non=>true|.non,.bl _=>true|.bl _,.non=>true|.non,.str _=>true|.str _,.non=>true
 |.int _,.int _=>true|.bl _,.bl _=>true|.str _,.str _=>true|.byt _,.byt _=>true
 |.int _,.str _=>true|.str _,.int _=>true|.bl _,.str _=>true|.str _,.bl _=>true
 |_,_=>false
inductive rEq(x:V)(y:V)(H:Hp)(Q:VK):Prop|mk(_:bYR x y=true)(_:Q (.bl (decide (x=y))) H)
inductive rNe(x:V)(y:V)(H:Hp)(Q:VK):Prop|mk(_:bYR x y=true)(_:Q (.bl (!decide (x=y))) H)
def aK9:decide (V.int i=V.int j)=(i==j):=by
 rw[Bool.eq_iff_iff];simp
def bJo:decide (V.bl i=V.bl j)=(i==j):=by
 rw[Bool.eq_iff_iff];simp
def aYa:decide (V.str i=V.str j)=(i==j):=by
 rw[Bool.eq_iff_iff];simp
def aK8:decide (V.byt i=V.byt j)=(i.toList==j.toList):=by
 rw[Bool.eq_iff_iff];cases i;cases j;simp
section
variable {X:Cx}{a b c:Expr}{ta tb tc:TE}{pos:Pos}
def xT{pins:List (Addr×Obj)}{σ:St}{H:Hp}{s:cQr}{Q:VK}{k a:Bool}(I:Inv X pins σ H s)(q:Q (.bl k) H)(e:k=a):EP X pins σ Q (.bool a) s:=by
 subst e;exact⟨.bl k,H,I,Cd,q⟩
def zK:OpR X (cXW .Eq) rEq:=by
 intro pins s σ H x y v u Q I d a h;obtain⟨c,q⟩:=h;cases x with
 |non=>
  cases d;cases y with
  |non=>cases a;exact PySem.EqNone.eq_none_none (xT I q (by simp))
  |bl j=>cases a;exact PySem.EqNone.eq_none_bool (xT I q (by simp))
  |int j=>obtain⟨b,rfl⟩:=a;exact PySem.EqNone.eq_none_int (xT I q (by simp))
  |str j=>obtain⟨b,rfl⟩:=a;exact PySem.EqNone.eq_none_str (xT I q (by simp))
  |_=>exact absurd (show false=true from c) Bool.false_ne_true
 |bl i=>
  cases d;cases y with
  |non=>cases a;exact PySem.EqNone.eq_bool_none (xT I q (by simp))
  |bl j=>cases a;exact eq_bool (xT I q bJo)
  |str j=>obtain⟨b,rfl⟩:=a;exact PySem.EqMixed.eq_bool_str (xT I q (by simp))
  |_=>exact absurd (show false=true from c) Bool.false_ne_true
 |int i=>
  obtain⟨t,rfl⟩:=d;cases y with
  |non=>cases a;exact PySem.EqNone.eq_int_none (xT I q (by simp))
  |int j=>obtain⟨b,rfl⟩:=a;exact eq_int (xT I q aK9)
  |str j=>obtain⟨b,rfl⟩:=a;exact PySem.EqMixed.eq_int_str (xT I q (by simp))
  |_=>exact absurd (show false=true from c) Bool.false_ne_true
 |str i=>
  obtain⟨t,rfl⟩:=d;cases y with
  |non=>cases a;exact PySem.EqNone.eq_str_none (xT I q (by simp))
  |bl j=>cases a;exact PySem.EqMixed.eq_str_bool (xT I q (by simp))
  |int j=>obtain⟨b,rfl⟩:=a;exact PySem.EqMixed.eq_str_int (xT I q (by simp))
  |str j=>obtain⟨b,rfl⟩:=a;exact eq_str (xT I q aYa)
  |_=>exact absurd (show false=true from c) Bool.false_ne_true
 |byt i=>
  obtain⟨t,rfl⟩:=d;cases y with
  |byt j=>obtain⟨b,rfl⟩:=a;exact PySem.W.eq_bytes (xT I q aK8)
  |_=>exact absurd (show false=true from c) Bool.false_ne_true
 |_=>cases y<;> exact absurd (show false=true from c) Bool.false_ne_true
def Y1:OpR X (cXW .NotEq) rNe:=by
 intro pins s σ H x y v u Q I d a h;obtain⟨c,q⟩:=h;cases x with
 |non=>
  cases d;cases y with
  |non=>cases a;exact PySem.EqNone.ne_none_none (xT I q (by simp))
  |bl j=>cases a;exact PySem.EqNone.ne_none_bool (xT I q (by simp))
  |int j=>obtain⟨b,rfl⟩:=a;exact PySem.EqNone.ne_none_int (xT I q (by simp))
  |str j=>obtain⟨b,rfl⟩:=a;exact PySem.EqNone.ne_none_str (xT I q (by simp))
  |_=>exact absurd (show false=true from c) Bool.false_ne_true
 |bl i=>
  cases d;cases y with
  |non=>cases a;exact PySem.EqNone.ne_bool_none (xT I q (by simp))
  |bl j=>cases a;exact ne_bool (xT I q (congrArg not bJo))
  |str j=>obtain⟨b,rfl⟩:=a;exact PySem.EqMixed.ne_bool_str (xT I q (by simp))
  |_=>exact absurd (show false=true from c) Bool.false_ne_true
 |int i=>
  obtain⟨t,rfl⟩:=d;cases y with
  |non=>cases a;exact PySem.EqNone.ne_int_none (xT I q (by simp))
  |int j=>obtain⟨b,rfl⟩:=a;exact ne_int (xT I q (congrArg not aK9))
  |str j=>obtain⟨b,rfl⟩:=a;exact PySem.EqMixed.ne_int_str (xT I q (by simp))
  |_=>exact absurd (show false=true from c) Bool.false_ne_true
 |str i=>
  obtain⟨t,rfl⟩:=d;cases y with
  |non=>cases a;exact PySem.EqNone.ne_str_none (xT I q (by simp))
  |bl j=>cases a;exact PySem.EqMixed.ne_str_bool (xT I q (by simp))
  |int j=>obtain⟨b,rfl⟩:=a;exact PySem.EqMixed.ne_str_int (xT I q (by simp))
  |str j=>obtain⟨b,rfl⟩:=a;exact ne_str (xT I q (congrArg not aYa))
  |_=>exact absurd (show false=true from c) Bool.false_ne_true
 |byt i=>
  obtain⟨t,rfl⟩:=d;cases y with
  |byt j=>obtain⟨b,rfl⟩:=a;exact PySem.W.ne_bytes (xT I q (congrArg not aK8))
  |_=>exact absurd (show false=true from c) Bool.false_ne_true
 |_=>cases y<;> exact absurd (show false=true from c) Bool.false_ne_true
def vR:OpR X (cXW .Lt) (rI0 λi j=> .bl (decide (i<j))):=bK5 λ_ _ _ _ _ _ _ q=>lt_int q
def aY1:OpR X (cXW .LtE) (rI0 λi j=> .bl (decide (i<=j))):=bK5 λ_ _ _ _ _ _ _ q=>le_int q
def aXq:OpR X (cXW .Gt) (rI0 λi j=> .bl (decide (j<i))):=bK5 λ_ _ _ _ _ _ _ q=>gt_int q
def bYp:OpR X (cXW .GtE) (rI0 λi j=> .bl (decide (j<=i))):=bK5 λ_ _ _ _ _ _ _ q=>ge_int q
inductive bVK(x:V)(y:V)(H:Hp)(Q:VK):Prop|mk(_:y= .non)(_:Q (.bl (decide (x= .non))) H)
def aXF:OpR X (cXW .Is) bVK:=by
 intro pins s σ H x y v u Q I a b h;obtain⟨rfl,q⟩:=h;cases b;refine is_none_gen (xT I q ?_);cases x<;> first
  |(cases a;rfl)
  |(obtain⟨t,rfl⟩:=a;rfl)
inductive bZk(x:V)(y:V)(H:Hp)(Q:VK):Prop|mk(_:y= .non)(_:Q (.bl (!decide (x= .non))) H)
def z8:OpR X (cXW .IsNot) bZk:=by
 intro pins s σ H x y v u Q I a b h;obtain⟨rfl,q⟩:=h;cases b;refine isnot_none_gen (xT I q ?_);cases x<;> first
  |(cases a;rfl)
  |(obtain⟨t,rfl⟩:=a;rfl)
def bJA(b:Expr)(h:op≠ .In:=by decide)(h2:op≠ .NotIn:=by decide):cJh op b=false:=by
 have a:(op==CmpOp.In)=false:=by cases op<;> first|rfl|exact absurd rfl h
 have c:(op==CmpOp.NotIn)=false:=by cases op<;> first|rfl|exact absurd rfl h2
 cases b<;> simp[cJh,a,c]
def zO(j:OpR X (cXW op) r)(g:PE X a ta)(i:PE X b tb)(e:cJh op b=false:=by first|exact bJA _|with_unfolding_all rfl):PE X (.Compare a [op] [b] pos) (tOp r ta tb):=by
 intro pins s σ H Q I h;exact wpAny_Compare1 (bYi g i I h λv u c x y H2 d f k q=>j pins c σ H2 x y v u Q d f k q) e
inductive bKT(Q:Bool->Hp->Prop)(x:V)(H':Hp):Prop|mk(k)(_:x= .bl k)(_:Q k H')
def bKS(t:TE):TT:=λσ H Q=>t σ H λx H'=>bKT Q x H'
def yM(g:OpR X (cXW op) r)(f:PE X a ta)(d:PE X b tb)(i:cJh op b=false:=by first|exact bJA _|with_unfolding_all rfl):PT X (.Compare a [op] [b] pos) (bKS (tOp r ta tb)):=by
 intro pins s σ H Q I h;refine wpAny_isTrue_Compare1 (thn (f pins s σ H _ I h) λv s1 ⟨x,H1,I1,r1,q1⟩=>thn (d pins s1 σ H1 _ I1 q1) λu s2 ⟨y,H2,I2,r2,q2⟩=>
  thn (g pins s2 σ H2 x y v u _ I2 r1 r2 q2) λc s3 ⟨z,H3,I3,r3,k,e,q3⟩=>?_) i
 subst e;cases r3;exact cZo ⟨H3,I3,q3⟩
inductive bWr(r':R2)(tc:TE)(σ:St)(Q:VK)(y:V)(z:V)(H3:Hp):Prop|mk(k)(_:z= .bl k)(_:(if k=true then tc σ H3 λw' H4=>r' y w' H4 Q else Q (.bl false) H3))
def bKN(r b:R2)(ta tb tc:TE):TE:=λσ H Q=>ta σ H λx H1=>tb σ H1 λy H2=>r x y H2 λz a=>bWr b tc σ Q y z a
def bZs(q:OpR X (cXW op) r)(g:OpR X (cXW f) i)(n:PE X a ta)(p:PE X b tb)(m:PE X c tc) (l:lastMarks [op,f] [b,c]=false:=by with_unfolding_all rfl):PT X (.Compare a [op,f] [b,c] pos) (bKS (bKN r i ta tb tc)):=by
 intro pins s σ H Q I h;refine isTrue_chain (thn (n pins s σ H _ I h) λv s1 ⟨x,H1,I1,r1,q1⟩=>test_link (thn (p pins s1 σ H1 _ I1 q1) λu s2 ⟨y,H2,I2,r2,q2⟩=>
  thn (q pins s2 σ H2 x y v u _ I2 r1 r2 q2) λd s3 ⟨z,H3,I3,r3,k,e,q3⟩=>?_)) l
 subst e;cases r3;refine cZo ?_;cases k with
 |false=>obtain⟨t,o,j⟩:=q3;cases o;exact ite_ff ⟨H3,I3,j⟩
 |true=>refine ite_tt (test_last (thn (m pins s3 σ H3 _ I3 q3) λw' s4 ⟨z',H4,I4,r4,q4⟩=>thn (g pins s4 σ H4 y z' u w' _ I4 r2 r4 q4) λd' s5 ⟨z2,H5,I5,r5,k2,e2,q5⟩=>?_));subst e2;cases r5;exact cZo ⟨H5,I5,q5⟩
def aZ5:(cQM:Nat)<2 ^ 63:=by rw[cQQ];decide
inductive aVc(x:V)(y:V)(H:Hp)(Q:VK):Prop|mk(i j)(_:x= .str i)(_:y= .str j)(_:i.length+j.length<=cQM)(_:Q (.str (i++j)) H)
def aXE:OpR X (cZT .Add) aVc:=by
 intro pins s σ H x y v u Q I a d h;obtain⟨i,j,rfl,rfl,c,q⟩:=h;obtain⟨t,rfl⟩:=a;obtain⟨b,rfl⟩:=d;exact add_str (λb tk=>⟨.str (i++j),H,I.tok _,⟨_,rfl⟩,q⟩) c
def aXf(r:xY [x] us):∃u,us= [u]/\zL x u:=by
 cases r with
 |cons a b=>cases b;exact⟨_,Cd,a⟩
def bKY(r:xY [x,y] us):∃u a,us= [u,a]/\zL x u/\zL y a:=by
 cases r with
 |cons c e=>
  cases e with
  |cons b d=>cases d;exact⟨_,_,Cd,c,b⟩
inductive aWF(xs:List V)(H:Hp)(Q:VK):Prop|mk(i j)(_:xs= [.int i,.int j])(_:Q (.int (if j > i then j else i)) H)
def aK0(b:X.calm=true):jV X (.builtin "max") aWF:=by
 intro pins s σ H xs d Q I r h;obtain⟨i,j,rfl,q⟩:=h;obtain⟨u,e,rfl,⟨t,rfl⟩,⟨c,rfl⟩⟩:=bKY r;refine max_two_ints (I.ok.hd b) λh' tk k=>⟨_,H,I.kept k,?_,q⟩;by_cases a:j > i
 ·rw[if_pos a,if_pos a];exact⟨_,rfl⟩
 ·rw[if_neg a,if_neg a];exact⟨_,rfl⟩
inductive aWG(xs:List V)(H:Hp)(Q:VK):Prop|mk(i j)(_:xs= [.int i,.int j])(_:Q (.int (if j<i then j else i)) H)
def aK1(b:X.calm=true):jV X (.builtin "min") aWG:=by
 intro pins s σ H xs d Q I r h;obtain⟨i,j,rfl,q⟩:=h;obtain⟨u,e,rfl,⟨t,rfl⟩,⟨c,rfl⟩⟩:=bKY r;refine min_two_ints (I.ok.hd b) λh' tk k=>⟨_,H,I.kept k,?_,q⟩;by_cases a:j<i
 ·rw[if_pos a,if_pos a];exact⟨_,rfl⟩
 ·rw[if_neg a,if_neg a];exact⟨_,rfl⟩
def wT:jV X (.type As) (λxs H Q=>(∃i,xs= [.int i]/\Q (.int i) H)\/∃k,xs= [.bl k]/\Q (.int (if k then 1 else 0)) H):=by
 intro pins s σ H xs b Q I r h;rcases h with⟨i,rfl,q⟩|⟨k,rfl,q⟩
 ·obtain⟨u,rfl,t,rfl⟩:=aXf r;exact call_int_int ⟨.int i,H,I,⟨_,rfl⟩,q⟩
 ·obtain⟨u,rfl,a⟩:=aXf r;cases a;exact call_int_bool ⟨.int (if k then 1 else 0),H,I.tok _,⟨_,rfl⟩,q⟩
end
end L2
namespace L2
open PySem PySem.Spec PyProof.Rows
structure bJU(h:Heap)(x dx C:Addr)(mA:Str->Option cQp):Prop where
 obj:h.get? x=some (cZz C dx)
 ns:h.Ns1 dx mA
 ne:dx≠x
def aZ6{h:Heap}{dx:Addr}{mA:Str->Option cQp}(n:h.Ns1 dx mA):∃c,h.get? dx=some c/\∀name,cVx name c=some (mA name):=by
 obtain⟨o,es,l,j,k,g,_,f⟩:=n;refine⟨o,j,λname=>?_⟩;have e:=f name;unfold nsFind findBy at e;rw[<- Array.find?_toList]at e;unfold cVx;rw[k];dsimp only;split
 ·rename_i y q;rw[q]at e;exact congrArg some e
 ·rename_i q;rw[q]at e;have a:es.toList.any (·.refKey)=false:=by
   rw[List.any_eq_false];intro y i;obtain⟨z,t,b⟩:=g y (Array.mem_toList_iff.mp i);simp[DictEntry.refKey,b]
  have d:¬es.toList.any (·.refKey)=true:=by rw[a];exact Bool.false_ne_true
  rw[if_neg d];exact congrArg some e
def bJU.look{mA:Str->Option cQp}(I:bJU h x dx C mA):∃a,PySem.W.InstAt h x (cZz C dx) C (some a)/\∀name,cVx name a=some (mA name):=
 let ⟨a,ho,hl⟩:=aZ6 I.ns
 ⟨a,⟨I.obj,Cd,Cd,ho⟩,hl⟩
section
variable {prog:cQO}{w:cQ1}{A:cXi}{E:cQp->cQr->Prop}{s:cQr}{K:cQq}{x dx C f:Addr}{mA:Str->Option cQp}{name:Str}{v:cQp}
def bVb{Q:cQp->cQr->Prop}(X:K.In s.heap)(I:bJU s.heap x dx C mA)(f:cZ9 K C name=true)(d:cJo K C=true) (c:cQ9 K (.ref C) name=some none) (e:mA name=some v) (b:PySem.W.handedIn v=true) (h:Q v {s with toks:=s.toks+1}): cQw (cQx prog w) A (getAttr (.ref x) name a) Q E s:=by
 obtain⟨g,J,hl⟩:=I.look;exact PySem.W.get_value X J (cVu f).1 (PySem.W.findObj_own d c rfl (by rw[hl,e])) b h
def bXz{Q:cQp×List cQp->cQr->Prop}(X:K.In s.heap)(I:bJU s.heap x dx C mA)(a:cZ9 K C name=true) (c:cQ9 K (.ref C) name=some (some (.ref f))) (e:cZ8 K (.ref f)=true) (d:mA name=none) (h:Q (.ref f,[.ref x]) s): cQw (cQx prog w) A (cJU (.ref x) name pl) Q E s:=by
 obtain⟨b,J,hl⟩:=I.look;exact PySem.W.method_fn X J (cVu a).1 (cVu a).2 c (beq_iff_eq.mp e) (by show(cVx name b).map (·.isSome)=some false;rw[hl,d];rfl) h
def bWl{Q:Unit->cQr->Prop}(X:K.In s.heap)(I:bJU s.heap x dx C mA) (m:cQ9 K (.ref C) B0=some (some (.builtin "object.__setattr__"))) (o:cJ1 K C=true) (t:PySem.W.takerIn K C name=some none) (q:cJo K C=true) (hw:PySem.Within mA j) (hsz:j.length<=cQM) (h:∀h',bJU h' x dx C (λy=>if y=name then some v else mA y)->cZr dx s.heap h'->Q () {s with heap:=h',toks:=s.toks+2}): cQw (cQx prog w) A (setAttr (.ref x) name v) Q E s:=by
 obtain⟨B,J,hl⟩:=I.look;refine PySem.W.set_plain X J m (PySem.W.osa_open (s:={s with toks:=s.toks+1}) (r:=none) X J o t λb=>?_);obtain⟨z,n,e⟩:=PySem.W.any_some q;have l:s.heap.get? x=some ⟨.ref C,some dx,.plain, #[]⟩:=I.obj;refine cQo (cQs (cQo (cQo (wpAny_loadPart l (cQo (PySem.W.Looks.here (s:={s with toks:=s.toks+1}) (PySem.W.looks_clsIn X n) ?_))))));rw[e];refine cQs (a:=some dx) (cQo (cQs (cQo ?_)));refine wpAny_nsSet1 (s:={s with toks:=s.toks+1}) I.ns λh' d c=>?_;obtain⟨u,p,k,i,g,f⟩:=d.count (PySem.Within.cons name v hw);refine cQo (wpAny_lookBehind i (by rw[g];exact pastItsLine_dict (cQZ f (by rw[cXp];omega))) ?_);exact cQs (h _ ⟨(c.2 _ (cQ6 I.ne)).trans I.obj,d,I.ne⟩ c)
def bXT{R:Result->cQr->Prop}(X:K.In s.heap)(c:PySem.W.makesIn K C=true) (hi:cQ9 K (.ref C) AE=some (some (.ref f))) (b:PySem.W.typeIn K (.ref f)=some (.type "function")) (h:cZC (cQx prog w) (A.under (.builtin "type.__call__" ⟨.ref C::vs,a⟩)) (.call (.ref f) ⟨.ref (s.heap.objs.size+1)::vs,a⟩) (PySem.W.InitBack (s.heap.objs.size+1) R) {s with heap:=(s.heap.push cZd).push (cZz C s.heap.objs.size) }): cZC (cQx prog w) A (.call (.ref C) ⟨vs,a⟩) R s:=by
 obtain⟨e,g,d,t,i⟩:=s;exact PySem.W.make_core (PySem.W.makes_of X c) (PySem.W.looks_findIn X hi) (λself=>PySem.W.bind_fn X self b) (.inl rfl) h
end
def aXt(f:Str)(v:V):List (Str×V)->List (Str×V)
 |[]=> [(f,v)]
 |(g,x)::r=>if g=f then(g,v)::r else(g,x)::aXt f v r
def aQG(f g:Str)(v:V):∀fs:List (Str×V),(aXt f v fs).lookup g=if g=f then some v else fs.lookup g
 |[]=>by
  show cZJ g [(f,v)]=_;by_cases h:g=f
  ·have a:(g==f)=true:=beq_iff_eq.mpr h;simp only[cZJ,a,if_pos h]
  ·have a:(g==f)=false:=beq_eq_false_iff_ne.mpr h;simp only[cZJ,a,if_neg h]
 |(k,x)::r=>by
  have c:=aQG f g v r;rw[show aXt f v ((k,x)::r)=(if k=f then(k,v)::r else(k,x)::aXt f v r)from rfl];by_cases b:k=f
  ·rw[if_pos b];by_cases h:g=k
   ·have a:(g==k)=true:=beq_iff_eq.mpr h;simp only[cZJ,a,if_pos (h.trans b)]
   ·have a:(g==k)=false:=beq_eq_false_iff_ne.mpr h;simp only[cZJ,a,if_neg (λe:g=f=>h (e.trans b.symm))]
  ·rw[if_neg b];by_cases h:g=k
   ·have a:(g==k)=true:=beq_iff_eq.mpr h;simp only[cZJ,a,if_neg (λe:g=f=>b (h.symm.trans e))]
   ·have a:(g==k)=false:=beq_eq_false_iff_ne.mpr h;simp only[cZJ,a];exact c
def aQx(f:Str)(v:V):∀fs:List (Str×V),f∈(aXt f v fs).map (·.1)/\∀g,g∈fs.map (·.1)->g∈(aXt f v fs).map (·.1)
 |[]=>⟨by simp[aXt],λg h=>by simp at h⟩
 |(k,x)::r=>by
  obtain⟨c,b⟩:=aQx f v r;rw[show aXt f v ((k,x)::r)=(if k=f then(k,v)::r else(k,x)::aXt f v r)from rfl];by_cases a:k=f
  ·rw[if_pos a];subst a;exact⟨by simp,λg h=>by simpa using h⟩
  ·rw[if_neg a];refine⟨?_,λg h=>?_⟩
   ·rw[cXa];exact cQB _ c
   ·rw[cXa]at h ⊢;rcases cQz.mp h with e|e
    ·exact cQz.mpr (.inl e)
    ·exact cQB _ (b g e)
def aQE(f:Str)(v:V):∀fs:List (Str×V),(aXt f v fs).length<=fs.length+1
 |[]=>by simp[aXt]
 |(k,x)::r=>by
  have b:=aQE f v r;rw[show aXt f v ((k,x)::r)=(if k=f then(k,v)::r else(k,x)::aXt f v r)from rfl];by_cases a:k=f
  ·rw[if_pos a,cXp,cXp];omega
  ·rw[if_neg a,cXp,cXp];omega
def aZA.some_of(r:aZA (some v) o):∃u,o=some u/\zL v u:=by
 cases o with
 |none=>exact(show False from r).elim
 |some u=>exact⟨u,Cd,r⟩
def aZA.none_of(r:aZA none o):o=none:=by
 cases o with
 |none=>rfl
 |some u=>exact(show False from r).elim
def aZT(r:zL v u):PySem.W.handedIn u=true:=by
 cases v with
 |non=>cases (show u=Value.none from r);rfl
 |bl b=>cases (show u=Value.bool b from r);rfl
 |int i=>obtain⟨t,e⟩:=(show ∃t,u=Value.int i t from r);cases e;rfl
 |str x=>obtain⟨t,e⟩:=(show ∃t,u=Value.str x t from r);cases e;rfl
 |byt b=>obtain⟨t,e⟩:=(show ∃t,u=Value.bytes b t from r);cases e;rfl
 |flt b=>obtain⟨t,e⟩:=(show ∃t,u=Value.float b t from r);cases e;rfl
 |ref a=>cases (show u=Value.ref a from r);rfl
 |ty n=>cases (show u=Value.type n from r);rfl
section
variable {P:cQO}{w:cQ1}{H H':Hp}{h h':Heap}{a C dx:Addr}{fs fs':List (Str×V)}
def aQt(b:HOk P w H h)(e:H a=some (.ins C dx fs)):∃mA,bJU h a dx C mA/\(∀f,aZA (fs.lookup f) (mA f))/\PySem.Within mA (fs.map (·.1))/\fs.length<=1000/\H dx=some (.own a):=by
 obtain⟨d,z,ne,c,mA,n,r,q⟩:=(show zJ P w H h a (.ins C dx fs)from b a _ e);exact⟨mA,⟨c,n,ne⟩,r,q,z,d⟩
end
structure Cls(K:cQq)(C:Addr):Prop where
 pg:cZ9 K C Str.empty=true
 hd:cJo K C=true
 po:cJ1 K C=true
 sa:cQ9 K (.ref C) B0=some (some (.builtin "object.__setattr__"))
def Cls.get{K:cQq}{C:Addr}(c:Cls K C)(f:Str):cZ9 K C f=true:=c.pg
def wS(K:cQq)(C:Addr)(f:Str):Prop:=cQ9 K (.ref C) f=some none
def wS.taker{K:cQq}{C:Addr}{f:Str}(n:wS K C f):PySem.W.takerIn K C f=some none:=by
 unfold PySem.W.takerIn;rw[show cQ9 K (.ref C) f=some none from n];rfl
structure bWC(K:cQq)(C:Addr)(m:Str)(f:Addr):Prop where
 at_:cQ9 K (.ref C) m=some (some (.ref f))
 fn:cZ8 K (.ref f)=true
 kp:cXm K (.ref f)=true
section
variable {X:Cx}{pins:List (Addr×Obj)}{σ:St}{H:Hp}{s:cQr}{a C dx:Addr}{fs:List (Str×V)}{f:Str}{v:V}{A:cXi}{E:cQp->cQr->Prop}
def aWP{Q:cQp->cQr->Prop}(I:Inv X pins σ H s)(e:H a=some (.ins C dx fs))(c:Cls X.K C)(n:wS X.K C f)(l:fs.lookup f=some v) (h:∀u s',Inv X pins σ H s'->zL v u->Q u s'):cQw (cQx X.prog X.w) A (getAttr (.ref a) f b) Q E s:=by
 obtain⟨mA,O,r,_,_,_⟩:=aQt I.hok e;obtain⟨u,g,d⟩:=aZA.some_of (v:=v) (o:=mA f) (by rw[<- l];exact r f);exact bVb I.kIn O (c.get f) c.hd n g (aZT d) (h u _ (I.tok _) d)
def X9{Q:cQp×List cQp->cQr->Prop}(I:Inv X pins σ H s)(e:H a=some (.ins C dx fs))(c:Cls X.K C)(k:bWC X.K C m g)(l:fs.lookup m=none) (h:Q (.ref g,[.ref a]) s):cQw (cQx X.prog X.w) A (cJU (.ref a) m pl) Q E s:=by
 obtain⟨mA,O,r,_,_,_⟩:=aQt I.hok e;have b:mA m=none:=aZA.none_of (by rw[<- l];exact r m);exact bXz I.kIn O (c.get m) k.at_ k.fn b h
def aKJ{Q:Unit->cQr->Prop}(I:Inv X pins σ H s)(e:H a=some (.ins C dx fs))(c:Cls X.K C)(n:wS X.K C f)(hl:fs.length<1000)(t:zL y u) (h:∀s',Inv X pins σ (upd H a (.ins C dx (aXt f y fs))) s'->Q () s'):cQw (cQx X.prog X.w) A (setAttr (.ref a) f u) Q E s:=by
 obtain⟨mA,O,r,i,_,j⟩:=aQt I.hok e;have l:(fs.map (·.1)).length<=cQM:=by rw[cQt,cQQ];omega
 refine bWl I.kIn O c.sa c.po n.taker c.hd i l λh' d m=>h _ ?_;have v:∃o,h'.get? dx=some o:=let ⟨o,_,_,e',_⟩:=d.ns;⟨o,e'⟩;refine I.write (x:=a) (e:=dx) (by rw[e];exact cXN) (.inr j) (λb q p z=>(m.2 b p).trans z) v ?_;refine⟨by rw[yJ O.ne];exact j,?_,O.ne,d.obj,_,d.ns,λg=>?_,λg k=>?_⟩
 ·have:=aQE f y fs;omega
 ·show aZA ((aXt f y fs).lookup g) (if g=f then some u else mA g);rw[aQG];by_cases q:g=f
  ·rw[if_pos q,if_pos q];exact t
  ·rw[if_neg q,if_neg q];exact r g
 ·by_cases q:g=f
  ·rw[q];exact(aQx f y fs).1
  ·refine(aQx f y fs).2 g (i g λz=>k ?_);show(if g=f then some u else mA g)=none;rw[if_neg q];exact z
def Inv.made(I:Inv X pins σ H s):Inv X pins σ (upd (upd H s.heap.objs.size (.own (s.heap.objs.size+1))) (s.heap.objs.size+1) (.ins C s.heap.objs.size [])) {s with heap:=(s.heap.push cZd).push (cZz C s.heap.objs.size) }:=by
 have c:(s.heap.push cZd).get? s.heap.objs.size=some cZd:=cQS s.heap rfl;have h:((s.heap.push cZd).push (cZz C s.heap.objs.size)).get? (s.heap.objs.size+1)=some (cZz C s.heap.objs.size):=by have:=cQS (s.heap.push cZd) (o:=cZz C s.heap.objs.size) rfl;rwa [cX0]at this
 have g:(s.heap.push cZd).Ns s.heap.objs.size (λ_=>none):=⟨cZd, #[],_,c,Cd,(λe i=>absurd i (by simp)),λ_=>rfl⟩;have d:=I.laid (a:=s.heap.objs.size) (o:= .own (s.heap.objs.size+1)) (h':=s.heap.push cZd) (t':=s.toks) (λb u q=>cQu _ q) (cQv _) ⟨_,c⟩;refine d.laid (a:=s.heap.objs.size+1) (o:= .ins C s.heap.objs.size []) (t':=s.toks) (λb u q=>cQu _ q) (cZ5 (cX0 _ _)) ?_;have ne:s.heap.objs.size≠s.heap.objs.size+1:=cQP (cXM _);refine⟨by rw[yJ ne,yB],cXo _,ne,h,λ_=>none,(Heap.Ns1.of_empty g).at λo q=>cQu _ q,λ_=>cXN,λy f=>absurd rfl f⟩
def aKV{Q:cQp->cQr->Prop}(b:cJg e f env (eval e env)=eval e env) (h:cQw (cQx prog w) A (eval e env) (λo a=>cQw (cQx prog w) A (getAttr o f true) Q E a) E s):cQw (cQx prog w) A (eval (.Attribute e f pos) env) Q E s:=
 Attribute_any_ h (by rw[arm_eval_Attribute,b])
end
inductive bYD(K:cQq)(f:Str)(Q:VK)(x:V)(H1:Hp):Prop|mk(a C dx fs v)(_:x= .ref a)(_:H1 a=some (.ins C dx fs))(_:Cls K C)(_:wS K C f)(_:fs.lookup f=some v)(_:Q v H1)
def bYS(K:cQq)(ta:TE)(f:Str):TE:=λσ H Q=>ta σ H λx H1=>bYD K f Q x H1
inductive bYy(K:cQq)(f:Str)(D:aKT)(σ:St)(y:V)(x:V)(H2:Hp):Prop|mk(a C dx fs)(_:x= .ref a)(_:H2 a=some (.ins C dx fs))(_:Cls K C)(_:wS K C f)(_:fs.length<1000)(_:D.nx σ (upd H2 a (.ins C dx (aXt f y fs))))
def cQe(K:cQq)(ta tv:TE)(f:Str):TS:=λD σ H=>tv σ H λy H1=>ta σ H1 λx H2=>bYy K f D σ y x H2
section
variable {X:Cx}{o e value:Expr}{f:Str}{pos pos' tpos:Pos}{ta tv:TE}
def y7(g:PE X e ta)(b:cJg e f X.env (eval e X.env)=eval e X.env):PE X (.Attribute e f pos) (bYS X.K ta f):=by
 intro pins s σ H Q I h;refine aKV b (thn (g pins s σ H _ I h) λu s1 ⟨x,H1,I1,rx,a,C,dx,fs,v,ex,ea,c,n,l,q⟩=>?_);subst ex;obtain rfl:u=Value.ref a:=rx;exact aWP I1 ea c n l λk j i d=>⟨v,H1,i,d,q⟩
def zT(b:PE X o ta)(d:PE X value tv)(e:swapsWith value (some (.Attribute o f pos')) pos.line X.env=pure false):PS X (.Assign [.Attribute o f pos'] value pos) (cQe X.K ta tv f):=by
 intro pins s σ H D I h;refine cVe (thn (d pins s σ H _ I h) λu s1 ⟨y,H1,I1,ry,q⟩=>thn (b pins s1 σ H1 _ I1 q) λov s2 ⟨x,H2,I2,rx,a,C,dx,fs,ex,ea,c,n,l,q2⟩=>?_) e;subst ex;obtain rfl:ov=Value.ref a:=rx;exact aKJ I2 ea c n l ry λi g=>⟨σ,_,g,q2⟩
def bVp{Q:cQp->cQr->Prop}(d:PE X e te)(I:Inv X pins σ H s)
  (h:te σ H λx H1=>∃a C dx fs g,x= .ref a/\H1 a=some (.ins C dx fs)/\Cls X.K C/\bWC X.K C m g/\fs.lookup m=none/\
   ∀b,Inv X pins σ H1 b->cQw (cQx X.prog X.w) X.A (callWith pos (.ref g) [.ref a] (cX6 pos (cQ5 args X.env)) (cJD pos (cZK [] X.env))) Q X.xe b)
  (i:eval (.Call (.Attribute e m apos) args [] pos) X.env=(do
   let ov <- eval e X.env
   standAt apos.atName
   let (f,first) <- cJM [ov] (cJU ov m pl)
   callWith pos f first (cX6 pos (cQ5 args X.env)) (cJD pos (cZK [] X.env)))):
  cQw (cQx X.prog X.w) X.A (eval (.Call (.Attribute e m apos) args [] pos) X.env) Q X.xe s:=by
 refine cJt (pl:=pl) (thn (d pins s σ H _ I h) λu b ⟨x,H1,I1,rx,a,C,dx,fs,g,ex,ea,c,k,l,q⟩=>?_) i
 subst ex
 obtain rfl:u=Value.ref a:=rx
 exact X9 I1 ea c k l (q b I1)
end
section
variable {X:Cx}{pins:List (Addr×Obj)}{σ:St}{H:Hp}{s:cQr}{A:cXi}{E:cQp->cQr->Prop}{Q:cQp->cQr->Prop}{c:cQp}{b:Bool}
inductive aJF(K:cQq)(H:Hp):V->cQp->Prop where
 |non:aJF K H .non (.type "NoneType")
 |bl (x:Bool):aJF K H (.bl x) (.type An)
 |int (i:Int):aJF K H (.int i) (.type As)
 |str (x:Str):aJF K H (.str x) (.type Ah)
 |flt (x:UInt64):aJF K H (.flt x) (.type "float")
 |lst {a:Addr} {xs:List V} (e:H a=some (.lst xs)):aJF K H (.ref a) (.type AB)
 |frz {a:Addr} {o:Obj} {xs:List V} (e:H a=some (.frz o (.lst xs))):aJF K H (.ref a) (.type AB)
 |tup {a:Addr} {xs:List V} (e:H a=some (.tup xs)):aJF K H (.ref a) (.type AD)
 |dK {a:Addr} {kvs:List (Key×V)} (e:H a=some (.dK kvs)):aJF K H (.ref a) (.type "dict")
 |dT {a:Addr} {kvs:List (List Key×V)} (e:H a=some (.dT kvs)):aJF K H (.ref a) (.type "dict")
 |ins {a C dx:Addr} {fs:List (Str×V)} (e:H a=some (.ins C dx fs)) (cl:Cls K C) (ha:cQ9 K (.ref C) "__class__"=some (some (.builtin "object.__class__")))
   (hn:cJ2 K (.builtin "object.__class__") "__get__"=some (some (.builtin "getset_descriptor.__get__"))) (htk:PySem.W.takesIn K (.builtin "object.__class__")=some true)
   (hm:cJG K C (.type "object")=some true):aJF K H (.ref a) (.ref C)
def aYn{u t:cQp}(I:Inv X pins σ H s)(f:zL x u)(ty:aJF X.K H x t)(e:cXd X.K t c=some b)(h:∀tk,Q (.bool b) {s with toks:=tk}): cQw (cQx X.prog X.w) A (call (.builtin AV) [u,c]) Q E s:=by
 cases ty with
 |non=>cases (show u=Value.none from f);exact cX4 PySem.W.kitx_none I.kIn cXN e (λz=>nomatch z) h
 |bl y=>cases (show u=Value.bool y from f);exact cX4 PySem.W.kitx_bool I.kIn cXN e (λz=>nomatch z) h
 |int i=>obtain⟨t,q⟩:=(show ∃t,u=Value.int i t from f);cases q;exact cX4 PySem.W.kitx_int I.kIn cXN e (λz=>nomatch z) h
 |str y=>obtain⟨t,q⟩:=(show ∃t,u=Value.str y t from f);cases q;exact cX4 PySem.W.kitx_str I.kIn cXN e (λz=>nomatch z) h
 |flt y=>obtain⟨t,q⟩:=(show ∃t,u=Value.float y t from f);cases q;exact cX4 PySem.W.kitx_float I.kIn cXN e (λz=>nomatch z) h
 |@lst a xs d=>cases (show u=Value.ref a from f);obtain⟨_,_,n,_,h1⟩:=(show zJ X.prog X.w H s.heap a (.lst xs)from I.hok a _ d);exact cX4 cJ0 I.kIn ⟨_,h1,rfl⟩ e (λz=>nomatch z) h
 |@frz a v xs d=>cases (show u=Value.ref a from f);obtain⟨_,_,_,n,_,h1⟩:=(show zJ X.prog X.w H s.heap a (.frz v (.lst xs))from I.hok a _ d);exact cX4 cJ0 I.kIn ⟨_,h1,rfl⟩ e (λz=>nomatch z) h
 |@tup a xs d=>cases (show u=Value.ref a from f);obtain⟨_,_,_,p⟩:=(show zJ X.prog X.w H s.heap a (.tup xs)from I.hok a _ d);obtain⟨o,h1,h2,_⟩:=p;exact cX4 PySem.W.kitx_tuple I.kIn ⟨o,h1,h2⟩ e (λz=>nomatch z) h
 |@dK a g d=>cases (show u=Value.ref a from f);obtain⟨_,_,D,_,p⟩:=(show zJ X.prog X.w H s.heap a (.dK g)from I.hok a _ d);obtain⟨o,es,l,h1,h2,_⟩:=p;exact cX4 cJZ I.kIn ⟨o,h1,h2.1⟩ e (λz=>nomatch z) h
 |@dT a g d=>cases (show u=Value.ref a from f);obtain⟨_,_,xs,_,o,es,l,h1,h2,_⟩:=(show zJ X.prog X.w H s.heap a (.dT g)from I.hok a _ d);exact cX4 cJZ I.kIn ⟨o,h1,h2.1⟩ e (λz=>nomatch z) h
 |@ins a C dx fs d cl m r j k=>cases (show u=Value.ref a from f);obtain⟨mA,O,_⟩:=aQt I.hok d;obtain⟨B,J,_⟩:=O.look;exact cX4 (PySem.W.kitx_own (cl.get _) cl.hd m r j k) I.kIn J e (λz=>nomatch z) h
end
end L2
namespace L2
open PySem PySem.Spec PyProof.Rows
structure v0(k:Nat)(A:cXi):Prop where
 hd:A.handled=none
 dp:A.depth+3*k+5<recursionLimit
 un:A.units+16*k+200<cLine
def v0.mono{j k:Nat}(r:v0 k A)(h:j<=k):v0 j A:=⟨r.hd,by have:=r.dp;omega,by have:=r.un;omega⟩
def v0.deeper{k:Nat}(r:v0 (k+1) A)(env:Env):v0 k (A.deeper env):=
 ⟨r.hd,by have:=r.dp;show A.depth+1+3*k+5<_;omega,by have:=r.un;show A.units+3+16*k+200<_;omega⟩
def aW2{A:cXi}{C:Addr}{us:List cQp}{a:List (Str×cQp)}:(A.under (.builtin "type.__call__" ⟨.ref C::us,a⟩)).depth=A.depth+1:=by
 first|rfl|simp[Around.under,Code.weight,Code.isCreation,Code.isGuard,Code.isCaller,Code.frames,Code.isFrame,guardIds]
def aW3{A:cXi}{C:Addr}{us:List cQp}{a:List (Str×cQp)}:(A.under (.builtin "type.__call__" ⟨.ref C::us,a⟩)).units=A.units+1:=by
 first|rfl|simp[Around.under,Code.cUnits,Code.frames,Code.isFrame]
def v0.make{k:Nat}(r:v0 (k+1) A)(C:Addr)(us:List cQp)(a:List (Str×cQp)):v0 k (A.under (.builtin "type.__call__" ⟨.ref C::us,a⟩)):=
 ⟨r.hd,by have:=r.dp;rw[aW2];omega,by have:=r.un;rw[aW3];omega⟩
def v0.depth{k:Nat}(r:v0 k A):A.depth<recursionLimit:=by have:=r.dp;omega
def v0.units{k:Nat}(r:v0 k A):A.units+64<cLine:=by have:=r.un;omega
def v0.units0{k:Nat}(r:v0 k A):A.units<cLine:=by have:=r.un;omega
def bZ7:TA:=λ_ H Q=>Q [] H
def aKL(ta:TE)(a:TA):TA:=λσ H Q=>ta σ H λx H1=>a σ H1 λxs H2=>Q (x::xs) H2
section
variable {X:Cx}{e:Expr}{es:List Expr}{te:TE}{t:TA}{pos:Pos}
def yD:PA X [] bZ7:=λ_ _ _ _ H Q I h=>Calls.spliced_nil ⟨[],H,I,.nil,h⟩
def yA(a:PE X e te)(c:PA X es t)(b:cQ5 (e::es) X.env=(false,eval e X.env)::cQ5 es X.env:=by rfl):PA X (e::es) (aKL te t):=by
 intro pos pins s σ H Q I h;rw[b];show cQw _ _ (spliced ((false,eval e X.env)::cX6 pos (cQ5 es X.env))) _ _ s;refine Calls.spliced_cons (thn (a pins s σ H _ I h) λu s1 ⟨x,H1,I1,r1,q1⟩=>?_);exact thn (c pos pins s1 σ H1 _ I1 q1) λus s2 ⟨xs,H2,I2,r2,q2⟩=>⟨x::xs,H2,I2,.cons r1 r2,q2⟩
inductive bYK(Q:VK)(xs:List V)(H1:Hp):Prop|mk(_:xs.length<=cQM)(_:∀p,H1 p=none->Q (.ref p) (upd H1 p (.tup xs)))
def bYV(t:TA):TE:=λσ H Q=>t σ H λxs H1=>bYK Q xs H1
inductive bYE(Q:VK)(xs:List V)(H1:Hp):Prop|mk(_:xs.length<=cQM)(_:∀p,H1 p=none->Q (.ref p) (upd H1 p (.lst xs)))
def bYT(t:TA):TE:=λσ H Q=>t σ H λxs H1=>bYE Q xs H1
def y8{x1}(h:PA X es t):PE X (.Tuple es x1 pos) (bYV t):=by
 intro pins s σ H Q I a;refine wpAny_Tuple_spliced (thn (h pos pins s σ H _ I a) λus s1 ⟨xs,H1,I1,r,z,q⟩=>⟨by rw[<- r.length];exact z,?_⟩);have c:H1 s1.heap.objs.size=none:=I1.hok.fresh (cQv _);refine⟨.ref s1.heap.objs.size,upd H1 s1.heap.objs.size (.tup xs),I1.laid (t':=s1.toks) (λb u e=>cQu _ e) (cQv _) ?_,Cd,q _ c⟩;exact⟨z,us,r,⟨_,cQS _ rfl,Cd,_,rfl⟩⟩
def yZ(h:PA X es t):PE X (.List es pos) (bYT t):=by
 intro pins s σ H Q I a;refine wpAny_List_spliced (thn (h pos pins s σ H _ I a) λus s1 ⟨xs,H1,I1,r,z,q⟩=>⟨by rw[<- r.length];exact z,?_⟩);have c:H1 s1.heap.objs.size=none:=I1.hok.fresh (cQv _);refine⟨.ref s1.heap.objs.size,upd H1 s1.heap.objs.size (.lst xs),I1.laid (t':=s1.toks) (λb u e=>cQu _ e) (cQv _) ?_,Cd,q _ c⟩;exact⟨z,us,0,r,cQS _ rfl⟩
end
abbrev Sp:=List V->Hp->VK->XK->Prop
abbrev CXT:=List Env->Hp->cQr->XK->cQp->cQr->Prop
structure bJS(P:cQO)(w:cQ1)(K:cQq)(mg:Str->Option cQp)(base:Heap)(A:cXi)(outer:List Env)(s:cQr)(H:Hp):Prop where
 frames:A.frames=some outer
 mod:Mod K mg base
 bs:∀b o,base.get? b=some o->s.heap.get? b=some o/\H b=none
 bsz:base.objs.size<=s.heap.objs.size
 funs:s.heap.FunFrames base outer
 frf:∀b∈frs outer,H b=none
 hok:HOk P w H s.heap
 bare:AllBare s.gens
def CE(outer:List Env)(P:cQO)(w:cQ1)(H:Hp)(s:cQr)(Q:VK)(u:cQp)(s':cQr):Prop:=
 ∃v H',s'.os=s.os/\AllBare s'.gens/\Un (frs outer) [] H H' s.heap s'.heap/\HOk P w H' s'.heap/\zL v u/\Q v H'
def CR(CX:CXT)(outer:List Env)(P:cQO)(w:cQ1)(H:Hp)(s:cQr)(Q:VK)(E:XK)(r:Result)(s':cQr):Prop:=
 match r with
 |.ok (.ret u)=>CE outer P w H s Q u s'
 |.ok _=>False
 |.error e=>CX outer H s E e s'
structure xH(P:cQO)(w:cQ1)(K:cQq)(mg:Str->Option cQp)(base:Heap)(CX:CXT)(k:Nat)(f:Addr)(fd:cZn)(ps:List Str)(sp:Sp):Prop where
 len:∀vs H Q E,sp vs H Q E->vs.length=ps.length
 run:∀ (A:cXi)(outer:List Env)(s:cQr)(H:Hp)(args:Args)(us:List cQp)(vs:List V)(Q:VK)(E:XK),v0 k A->bJS P w K mg base A outer s H->BindsTo s fd args (ps.zip us)->xY vs us->sp vs H Q E->
  cZC (cQx P w) A (.call (.ref f) args) (CR CX outer P w H s Q E) s
def xH.mono{P:cQO}{w:cQ1}{K:cQq}{mg:Str->Option cQp}{base:Heap}{CX:CXT}{j k:Nat}{f:Addr}{fd:cZn}{ps:List Str}{sp:Sp}(F:xH P w K mg base CX j f fd ps sp)(h:j<=k):
  xH P w K mg base CX k f fd ps sp:=⟨F.len,λA outer s H args b c Q E a=>F.run A outer s H args b c Q E (a.mono h)⟩
def bJS.make{P:cQO}{w:cQ1}{K:cQq}{mg:Str->Option cQp}{base:Heap}{A:cXi}{outer:List Env}{s:cQr}{H:Hp}(e:bJS P w K mg base A outer s H)(C:Addr)(us:List cQp)(a:List (Str×cQp)):
  bJS P w K mg base (A.under (.builtin "type.__call__" ⟨.ref C::us,a⟩)) outer s H:=⟨by first|exact e.frames|(simpa[Around.under,Code.envs,Code.isFrame,pushEnvs]using e.frames),e.mod,e.bs,e.bsz,e.funs,e.frf,e.hok,e.bare⟩
section
variable {X:Cx}{pins:List (Addr×Obj)}{σ:St}{H:Hp}{s s':cQr}
def Inv.env0(I:Inv X pins σ H s):bJS X.prog X.w X.K X.mg X.base X.A X.stack s H:=
 ⟨I.ok.frames,I.ok.mod,I.bs,cQZ I.ok.bsz I.sz,I.stack,I.stkFree,I.hok,I.bare⟩
def Inv.after{Q:VK}(I:Inv X pins σ H s)(h:CE X.stack X.prog X.w H s Q u s'):EP X pins σ Q u s':=by
 obtain⟨v,H',f,a,un,c,r,q⟩:=h;obtain⟨i,g,d,t,e⟩:=s';obtain rfl:e=s.os:=f;exact⟨v,H',I.call (h':=i) (g':=g) (d':=d) (t':=t) (ch:= []) un c a (λb z=>absurd z (by simp)),r,q⟩
end
def bZ3(sp:Sp)(dvs:List V)(E:XK)(t:TA):TE:=λσ H Q=>t σ H λa H1=>sp (a++dvs) H1 Q E
inductive bKP(C:Addr)(m:Str)(sp:Sp)(dvs:List V)(E:XK)(t:TA)(σ:St)(Q:VK)(x:V)(H1:Hp):Prop|mk(a dx fs)(_:x= .ref a)(_:H1 a=some (.ins C dx fs))(_:fs.lookup m=none)(_:t σ H1 λvs H2=>sp (x::(vs++dvs)) H2 Q E)
def bZ6(C:Addr)(m:Str)(sp:Sp)(dvs:List V)(E:XK)(ta:TE)(t:TA):TE:=λσ H Q=>ta σ H λx H1=>bKP C m sp dvs E t σ Q x H1
def bZ5(C:Addr)(sp:Sp)(dvs:List V)(E:XK)(t:TA):TE:=λσ H Q=>t σ H λa H1=>∀x dx,H1 x=none->H1 dx=none->dx≠x->
 sp (.ref x::(a++dvs)) (upd (upd H1 dx (.own x)) x (.ins C dx [])) (λv H2=>v= .non/\Q (.ref x) H2) E
def uB(K:cQq)(fd:cZn)(ps:List Str)(ds:List cQp):Prop:=
 ∀ (s:cQr)(a:List cQp),K.In s.heap->(a++ds).length=ps.length->BindsTo s fd ⟨a,[]⟩ (ps.zip (a++ds))
def uB.all{K:cQq}{fd:cZn}{ps:List Str}(h:∀a:List cQp,a.length=ps.length->cJa fd ⟨a,[]⟩=pure (ps.zip a)):uB K fd ps []:=λs a _ hl=>by
 rw[cXr]at hl ⊢;exact .of_eq (h a hl)
def vU(CX:CXT)(X:Cx)(E:XK):Prop:=∀ (pins:List (Addr×Obj))(σ:St)(H:Hp)(s:cQr)(e:cQp)(s':cQr),Inv X pins σ H s->CX X.stack H s E e s'->X.xe e s'
section
variable {X:Cx}{CX:CXT}{k:Nat}{f C:Addr}{fd:cZn}{ps:List Str}{sp:Sp}{dvs:List V}{ds:List cQp}{E:XK}{x m:Str}{p pos apos:Pos}{e o:Expr}{es:List Expr}{ta:TE}{t:TA}
def aJj{Q:VK}(F:xH X.prog X.w X.K X.mg X.base CX k f fd ps sp)(d:v0 k X.A)(i:uB X.K fd ps ds)(j:xY dvs ds)(c:vU CX X E) (I:Inv X pins σ H s) (r:xY vs us) (h:sp (vs++dvs) H Q E):cQw (cQx X.prog X.w) X.A (call (.ref f) us) (EP X pins σ Q) X.xe s:=by
 have b:xY (vs++dvs) (us++ds):=r.append j;have hl:(us++ds).length=ps.length:=by rw[<- b.length];exact F.len _ _ _ _ h
 refine cJE (cZj (F.run X.A X.stack s H ⟨us,[]⟩ (us++ds) (vs++dvs) Q E d I.env0 (i s us I.kIn hl) b h) λr s' a=>?_);cases r with
 |error e=>exact c pins σ H s e s' I a
 |ok g=>
  cases g with
  |ret u=>exact I.after a
  |next=>exact cXX a
  |brk=>exact cXX a
  |cont=>exact cXX a
def aY6(F:xH X.prog X.w X.K X.mg X.base CX k f fd ps sp)(l:v0 k X.A)(i:Gl X x)(d:X.mg x=some (.ref f))(j:cXm X.K (.ref f)=true)(n:uB X.K fd ps ds)(o:xY dvs ds)(c:vU CX X E)
  (m:PA X (e::es) t) (b:(x==(AO:Str))=false:=by decide) (g:cQ5 (e::es) X.env=(false,eval e X.env)::cQ5 es X.env:=by rfl) (a:(cX6 pos (cQ5 es X.env)).any (·.1)=false:=by rfl):
  PE X (.Call (.Name x p) (e::es) [] pos) (bZ3 sp dvs E t):=by
 intro pins s σ H Q I h
 refine cX7 (u4 I i d ?_ b)
 refine cJj (h₀:=X.base) I.ok.mod.kin j (thn (m pos pins s σ H _ I h) λus s1 ⟨vs,H1,I1,r,q⟩=>⟨I1.kIn,?_⟩) g a
 exact aJj F l n o c I1 r q
def bVM(j:PE X o ta)(c:Cls X.K C)(g:bWC X.K C m f)(F:xH X.prog X.w X.K X.mg X.base CX k f fd ps sp)(n:v0 k X.A)(v:uB X.K fd ps ds)(z:xY dvs ds)(i:vU CX X E)(p:PA X (e::es) t)
  (d:cQ5 (e::es) X.env=(false,eval e X.env)::cQ5 es X.env:=by rfl) (b:(cX6 pos (cQ5 es X.env)).any (·.1)=false:=by rfl)
  (y:eval (.Call (.Attribute o m apos) (e::es) [] pos) X.env=(do
   let ov <- eval o X.env
   standAt apos.atName
   let (f,first) <- cJM [ov] (cJU ov m pl)
   callWith pos f first (cX6 pos (cQ5 (e::es) X.env)) (cJD pos (cZK [] X.env))):=by rfl):
  PE X (.Call (.Attribute o m apos) (e::es) [] pos) (bZ6 C m sp dvs E ta t):=by
 intro pins s σ H Q I h
 refine cJt (pl:=pl) (thn (j pins s σ H _ I h) λu s1 ⟨x,H1,I1,rx,a,dx,fs,ex,ea,l,q⟩=>?_) y
 subst ex
 obtain rfl:u=Value.ref a:=rx
 refine X9 I1 ea c g l ?_
 refine cJj (first:= [.ref a]) (h₀:=X.base) I.ok.mod.kin g.kp (thn (p pos pins s1 σ H1 _ I1 q) λus s2 ⟨vs,H2,I2,r,q2⟩=>⟨I2.kIn,?_⟩) d b
 exact aJj (us:= .ref a::us) (vs:= .ref a::vs) F n v z i I2 (.cons rfl r) q2
def bZq(n:PE X o ta)(c:Cls X.K C)(b:bWC X.K C m f)(F:xH X.prog X.w X.K X.mg X.base CX k f fd ps sp)(e:v0 k X.A)(d:uB X.K fd ps ds)(i:xY dvs ds)(j:vU CX X E)
  (g:eval (.Call (.Attribute o m apos) [] [] pos) X.env=(do
   let ov <- eval o X.env
   standAt apos.atName
   let (f,first) <- cJM [ov] (cJU ov m pl)
   callWith pos f first (cX6 pos (cQ5 [] X.env)) (cJD pos (cZK [] X.env))):=by rfl):
  PE X (.Call (.Attribute o m apos) [] [] pos) (bZ6 C m sp dvs E ta bZ7):=by
 intro pins s σ H Q I h
 refine cJt (pl:=pl) (thn (n pins s σ H _ I h) λu s1 ⟨x,H1,I1,rx,a,dx,fs,ex,ea,l,q⟩=>?_) g
 subst ex
 obtain rfl:u=Value.ref a:=rx
 refine X9 I1 ea c b l ?_
 exact cVt (first:= [.ref a]) I1.kIn b.kp (aJj (us:= [.ref a]) (vs:= [.ref a]) F e d i j I1 (.cons rfl .nil) q)
structure Mk(K:cQq)(C f:Addr):Prop where
 makes:PySem.W.makesIn K C=true
 init:cQ9 K (.ref C) AE=some (some (.ref f))
 fn:cZ8 K (.ref f)=true
 kp:cXm K (.ref C)=true
def aV6{Q:VK}(M:Mk X.K C f)(F:xH X.prog X.w X.K X.mg X.base CX k f fd ps sp)(m:v0 (k+1) X.A)(p:uB X.K fd ps ds)(q:xY dvs ds) (i:vU CX X E) (I:Inv X pins σ H s) (r:xY vs us) (h:∀x dx,H x=none->H dx=none->dx≠x->sp (.ref x::(vs++dvs)) (upd (upd H dx (.own x)) x (.ins C dx [])) (λv H2=>v= .non/\Q (.ref x) H2) E): cQw (cQx X.prog X.w) X.A (call (.ref C) us) (EP X pins σ Q) X.xe s:=by
 have d:=h (s.heap.objs.size+1) s.heap.objs.size (I.hok.fresh (cZv _)) (I.hok.fresh (cQv _)) (cQP (cXM _));have b:=Inv.made (C:=C) I;have c:xY (V.ref (s.heap.objs.size+1)::(vs++dvs)) (Value.ref (s.heap.objs.size+1)::(us++ds)):= .cons rfl (r.append q);have hl:(Value.ref (s.heap.objs.size+1)::us++ds).length=ps.length:=by have e:=c.length;rw[F.len _ _ _ _ d]at e;exact e.symm
 refine cJE (bXT (f:=f) I.kIn M.makes M.init (beq_iff_eq.mp M.fn) (cZj (F.run _ X.stack _ _ ⟨Value.ref (s.heap.objs.size+1)::us,[]⟩ (Value.ref (s.heap.objs.size+1)::(us++ds)) _ _ E (m.make C us []) (b.env0.make C us []) (p _ (Value.ref (s.heap.objs.size+1)::us) b.kIn hl) c d) λr s' a=>?_));cases r with
 |error e=>exact i pins σ _ _ e s' b a
 |ok o=>
  cases o with
  |ret u=>obtain⟨v,H',j,l,n,g⟩:=b.after a;subst n;exact⟨l,⟨V.ref (s.heap.objs.size+1),H',j,Cd,g⟩⟩
  |next=>exact cXX a
  |brk=>exact cXX a
  |cont=>exact cXX a
def bVL(M:Mk X.K C f)(F:xH X.prog X.w X.K X.mg X.base CX k f fd ps sp)(j:v0 (k+1) X.A)(i:Gl X x)(d:X.mg x=some (.ref C))(m:uB X.K fd ps ds)(n:xY dvs ds)(c:vU CX X E)
  (l:PA X (e::es) t) (b:(x==(AO:Str))=false:=by decide) (g:cQ5 (e::es) X.env=(false,eval e X.env)::cQ5 es X.env:=by rfl) (a:(cX6 pos (cQ5 es X.env)).any (·.1)=false:=by rfl):
  PE X (.Call (.Name x p) (e::es) [] pos) (bZ5 C sp dvs E t):=by
 intro pins s σ H Q I h
 refine cX7 (u4 I i d ?_ b)
 refine cJj (h₀:=X.base) I.ok.mod.kin M.kp (thn (l pos pins s σ H _ I h) λus s1 ⟨vs,H1,I1,r,q⟩=>⟨I1.kIn,?_⟩) g a
 exact aV6 M F j m n c I1 r q
def bZp(M:Mk X.K C f)(F:xH X.prog X.w X.K X.mg X.base CX k f fd ps sp)(i:v0 (k+1) X.A)(g:Gl X x)(e:X.mg x=some (.ref C))(b:uB X.K fd ps ds)(c:xY dvs ds)(d:vU CX X E) (a:(x==(AO:Str))=false:=by decide):PE X (.Call (.Name x p) [] [] pos) (bZ5 C sp dvs E bZ7):=by
 intro pins s σ H Q I h;refine cX7 (u4 I g e ?_ a);exact cVt I.kIn M.kp (aV6 (us:= []) M F i b c d I .nil h)
end
section
variable {X:Cx}{CX:CXT}{k:Nat}{f C:Addr}{fd:cZn}{ps ks:List Str}{sp:Sp}{E:XK}{x m:Str}{p pos apos kpos:Pos}{e o:Expr}{es:List Expr}{kws:List Keyword}{te ta:TE}{t tk:TA}{nm:Option Str}
variable {g:List cQp->List cQp->List cQp}{gV:List V->List V->List V}
end
structure yN(N P:List Str)(sc:Scope):Prop where
 kind:sc.kind= .function
 co:sc.isCoroutine=false
 gen:sc.isGenerator=false
 nd:N.Nodup
 pre:N.take P.length=P
 par:∀x∈P,sc.names.lookup x=some .local\/sc.names.lookup x=some .cell
 nofree:∀y∈sc.names,y.2≠ .free
def aZI{a:Str->Option cJS}{x:Str}:∀ {binds:List (Str×cQp)} {m:Str->Option cQp},(∀v,(x,v)∉binds)->bindL a binds m x=m x
 |[],_,_=>rfl
 |(n,v)::r,m,h=>by
  unfold bindL;rw[aZI λw hw=>h w (cQB _ hw)];split
  ·have:x≠n:=by rintro rfl;exact h v cQG
   simp[this]
  ·rfl
def aZG{a:Str->Option cJS}{x:Str}:∀ {binds:List (Str×cQp)} {m:Str->Option cQp},(∀v,(x,v)∉binds)->bindC a binds m x=m x
 |[],_,_=>rfl
 |(n,v)::r,m,h=>by
  unfold bindC;rw[aZG λw hw=>h w (cQB _ hw)];split
  ·rfl
  ·have:x≠n:=by rintro rfl;exact h v cQG
   simp[this]
def aZH{a:Str->Option cJS}{x:Str}{v:cQp}:∀ {P:List Str} {vs:List cQp} {i:Nat} {m:Str->Option cQp},P.Nodup->P[i]? =some x->vs[i]? =some v->a x=some .local->
  bindL a (P.zip vs) m x=some v
 |[],_,_,_,_,h,_,_=>by simp at h
 |_::_,[],_,_,_,_,h,_=>by simp at h
 |p::P,w::vs,0,m,nd,h1,h2,hk=>by simp at h1 h2;subst h1;subst h2;show bindL a ((p,w)::P.zip vs) m p=_;unfold bindL;rw[aZI λv b=>(cZy.mp nd).1 (List.of_mem_zip b).1,if_pos hk];simp
 |p::P,w::vs,i+1,m,nd,h1,h2,hk=>by show bindL a ((p,w)::P.zip vs) m x=_;unfold bindL;exact aZH (i:=i) (cZy.mp nd).2 (by simpa using h1) (by simpa using h2) hk
def aZF{a:Str->Option cJS}{x:Str}{v:cQp}:∀ {P:List Str} {vs:List cQp} {i:Nat} {m:Str->Option cQp},P.Nodup->P[i]? =some x->vs[i]? =some v->a x≠some .local->
  bindC a (P.zip vs) m x=some v
 |[],_,_,_,_,h,_,_=>by simp at h
 |_::_,[],_,_,_,_,h,_=>by simp at h
 |p::P,w::vs,0,m,nd,h1,h2,hk=>by simp at h1 h2;subst h1;subst h2;show bindC a ((p,w)::P.zip vs) m p=_;unfold bindC;rw[aZG λv b=>(cZy.mp nd).1 (List.of_mem_zip b).1,if_neg hk];simp
 |p::P,w::vs,i+1,m,nd,h1,h2,hk=>by show bindC a ((p,w)::P.zip vs) m x=_;unfold bindC;exact aZF (i:=i) (cZy.mp nd).2 (by simpa using h1) (by simpa using h2) hk
def start(N:List Str)(vs:List V):St:=vs.map some++cXc (N.length - vs.length) none
def aXT(CX:CXT)(P:cQO)(w:cQ1)(K:cQq)(mg:Str->Option cQp)(base:Heap)(N:List Str)(qual:Str)(scope:Scope)(f:Addr)(cd:cQp)(A:cXi)(outer:List Env)(s:cQr)(H:Hp)(E:XK):Cx where
 prog:=P
 w:=w
 K:=K
 mg:=mg
 base:=base
 A:=A.deeper (cZm qual scope s.heap.objs.size f cd)
 N:=N
 s₀:=s
 H₀:=H
 env:=cZm qual scope s.heap.objs.size f cd
 outer:=outer
 stack:=cZm qual scope s.heap.objs.size f cd::outer
 ex:= []
 calm:=true
 fn:=λ_=>true
 pn:= []
 xe:=λe s'=>cQw (cQx P w) (A.deeper (cZm qual scope s.heap.objs.size f cd)) (leaving (cZm qual scope s.heap.objs.size f cd) e) (λ_ s''=>CX outer H s E e s'') (λe' s''=>CX outer H s E e' s'') s'
def aVM{a:Scope}{n:Nat}{x:Str}(h:a.names.lookup x=some .cell):∃c,(cellsFrom n a.names []).lookup x=some c:=by
 have q:=PySem.W.cellsFrom_some a.names n [] (.inl h);exact Option.isSome_iff_exists.mp q
def aYm{CX:CXT}{P:cQO}{w:cQ1}{K:cQq}{mg:Str->Option cQp}{base:Heap}{N ps:List Str}{qual:Str}{scope:Scope}{f:Addr}{o:cQp}{A:cXi}{outer:List Env}{s C:cQr}{H:Hp}{E:XK}{us:List cQp}{vs:List V} (S:yN N ps scope) (I:A.handled=none) (d:bJS P w K mg base A outer s H) (hl:vs.length=ps.length) (r:xY vs us) (x:InCallC s s.heap.objs.size (bindL (cZm qual scope s.heap.objs.size f o).kindOf (ps.zip us) λ_=>none) (cellsFrom (s.heap.objs.size+1) scope.names []) (bindC (cZm qual scope s.heap.objs.size f o).kindOf (ps.zip us) λ_=>none) C): Inv (aXT CX P w K mg base N qual scope f o A outer s H E) [] (start N vs) H C:=by
 have D:ps.length<=N.length:=by have:=congrArg cZs S.pre;rw[cXS]at this;omega
 obtain⟨h1,tk,rfl,t⟩:=x.done;have g:∀b:Addr,b∉(aXT CX P w K mg base N qual scope f o A outer s H E).ex:=λb z=>absurd (show b∈([]:List Addr)from z) (by simp);refine⟨⟨d.mod,S.kind,Cd,Cd,cQv _,λy z c h1 h2=>?_,λy j=>?_,λy c _ h=>?_,λ_=>I,Around.frames_deeper d.frames,.inr ⟨rfl,rfl⟩,λb z=>absurd z (g b),d.bs,d.bsz,λb _ _=>g b,λb z=>absurd z (g b),d.funs,d.frf⟩,Cd,d.bare,Un.kept t,⟨_,x.toInCall.ns,λi y v h1 h2 J=>?_⟩,λy c h=>⟨_,x.cell y c h⟩,d.hok.fresh (cQv _),λy c h=>?_,λp m=>absurd (show p∈([]:List (Addr×Obj))from m) (by simp),d.hok.kept t,?_⟩
 ·exact name_of_addr x.apart (cXV h1) (cXV h2)
 ·have j:scope.names.lookup y=some .cell\/scope.names.lookup y=some .free:=j;rcases j with j|j
  ·exact aVM j
  ·exact absurd rfl (S.nofree _ (cXV j))
 ·exact cZ6 (x.above y c (cXV h))
 ·have hi:i<vs.length:=by
   unfold start at h2;by_cases hi:i<vs.length
   ·exact hi
   ·rw[cQK (by simpa using hi)]at h2;rw[List.getElem?_replicate]at h2;split at h2<;> cases h2
  have G:vs[i]? =some v:=by
   unfold start at h2;rw[cQ0 (by simpa using hi),cQJ]at h2;cases e:vs[i]? with
   |none=>rw[e]at h2;cases h2
   |some a=>rw[e]at h2;cases h2;rfl
  obtain⟨u,B,F⟩:=r.get G;have m:ps[i]? =some y:=by rw[<- S.pre,List.getElem?_take_of_lt (by omega)];exact h1
  have l:ps.Nodup:=by rw[<- S.pre];exact S.nd.sublist (List.take_sublist _ _)
  refine⟨u,F,?_⟩;rcases S.par y (cQH m)with k|k
  ·exact .inl ⟨k,aZH l m B k⟩
  ·obtain⟨c,e⟩:=aVM (n:=s.heap.objs.size+1) k;refine .inr ⟨.inl k,c,e,?_⟩;have q:=x.cell y c e;rw[aZF l m B (by show scope.names.lookup y≠_;rw[k];decide)]at q;exact q
 ·exact d.hok.fresh (cZ6 (x.above y c (cXV h)))
 ·unfold start;show _=N.length;rw[cQL,cQt,List.length_replicate];omega
def bJ9{CX:CXT}{P:cQO}{w:cQ1}{K:cQq}{mg:Str->Option cQp}{base:Heap}{k:Nat}{f:Addr}{name qual:Str}{c:Arguments}{body:List Stmt}{scope:Scope}{F kV m G a ct T:cQp}{M Y:Option Addr} {D:Array (Option cQp)} {N ps:List Str} {sp:Sp} (lk:K.lookup f=some ⟨T,Y,.func (cXu name qual c body scope F kV m G M a ct),D⟩) (p:cZb K a qual=true) (S:yN N ps scope) (len:∀vs H Q E,sp vs H Q E->vs.length=ps.length) (g:∀ (A:cXi)(outer:List Env)(s:cQr)(H:Hp)(vs:List V)(Q:VK)(E:XK),v0 k (A.deeper (cZm qual scope s.heap.objs.size f a))->sp vs H Q E-> ∃t,PSs (aXT CX P w K mg base N qual scope f a A outer s H E) body t/\t {nx:=λ_ H'=>Q .non H',rt:=Q} (start N vs) H): xH P w K mg base CX (k+1) f (cXu name qual c body scope F kV m G M a ct) ps sp:=by
 refine⟨len,λA outer s H args U vs Q E C j hb r l=>?_⟩;have hl:=len _ _ _ _ l;have O:K.In s.heap:=j.mod.kin.keeps λb o e=>(j.bs b o e).1;have z:s.heap.NoLimit:=j.mod.nolimit.keeps λb o e=>(j.bs b o e).1;have h:∀y∈ps.zip U,scope.names.lookup y.1=some .local\/(scope.names.lookup y.1=some .cell/\((cellsFrom (s.heap.objs.size+1) scope.names []).lookup y.1).isSome=true):=λ⟨n,v⟩ hy=>by
  rcases S.par n (List.of_mem_zip hy).1 with q|q
  ·exact .inl q
  ·exact .inr ⟨q,PySem.W.cellsFrom_some _ _ _ (.inl q)⟩
 refine codeAny_call_function C.depth (O _ _ lk) rfl S.co S.gen rfl (PySem.W.codeRec_of O p) (hb _ _ _ _ ?_);refine wpAny_newFunctionEnv_cells S.kind h λenv R L x=>?_;subst R;refine⟨z.keeps x.toInCall.keep,codeAny_func ?_⟩;obtain⟨t,ht,X⟩:=g A outer s H vs Q E (C.deeper _) l;have I:Inv (aXT CX P w K mg base N qual scope f a A outer s H E) [] (start N vs) H L:=aYm S C.hd j hl r x;refine cXs (ht [] L (start N vs) H _ I X) (λZ s' i=>?_) λe s' i=>i;have fin:∀ {d:St} {H':Hp} {v:V} {u:cQp},Inv (aXT CX P w K mg base N qual scope f a A outer s H E) [] d H' s'->zL v u->Q v H'->CE outer P w H s Q u s':=
  λ{d H' v u} J B q=>⟨v,H',J.os,J.bare,J.base,J.hok,B,q⟩
 cases Z with
 |ret u=>obtain⟨v,d,H',J,B,q⟩:=i;exact fin J B q
 |next=>obtain⟨d,H',J,q⟩:=i;exact fin (v:=V.non) (u:=Value.none) J rfl q
 |brk=>obtain⟨_,_,_,q⟩:=i;exact cXX q
 |cont=>obtain⟨_,_,_,q⟩:=i;exact cXX q
end L2
namespace L2
open PySem PySem.Spec PyProof.Rows
section
variable {X:Cx}{x:Str}{p pos:Pos}{e:Expr}{es:List Expr}{t:TA}{id T:String}{r:List V->Hp->VK->Prop}
def tCB(r:List V->Hp->VK->Prop)(t:TA):TE:=λσ H Q=>t σ H λa H1=>r a H1 Q
def yS(k:jV X (.builtin id) r)(j:Gl X x)(i:X.mg x=none)(f:cQ7 x=some (.builtin id))(c:PA X (e::es) t)(d:x≠Ad:=by decide)(a:(x==(AO:Str))=false:=by decide)
  (g:cQ5 (e::es) X.env=(false,eval e X.env)::cQ5 es X.env:=by rfl) (b:(cX6 pos (cQ5 es X.env)).any (·.1)=false:=by rfl):PE X (.Call (.Name x p) (e::es) [] pos) (tCB r t):=by
 intro pins s σ H Q I h
 refine cX7 (aXD I j i f ?_ d a)
 exact PyProof.Rows.callWith_builtin1 (thn (c pos pins s σ H _ I h) λus s1 ⟨vs,H1,I1,r1,q1⟩=>k pins s1 σ H1 vs us Q I1 r1 q1) g b
def xW(k:jV X (.type T) r)(j:Gl X x)(i:X.mg x=none)(f:cQ7 x=some (.type T))(c:PA X (e::es) t)(d:x≠Ad:=by decide)(a:(x==(AO:Str))=false:=by decide)
  (g:cQ5 (e::es) X.env=(false,eval e X.env)::cQ5 es X.env:=by rfl) (b:(cX6 pos (cQ5 es X.env)).any (·.1)=false:=by rfl):PE X (.Call (.Name x p) (e::es) [] pos) (tCB r t):=by
 intro pins s σ H Q I h
 refine cX7 (aXD I j i f ?_ d a)
 exact cJw (thn (c pos pins s σ H _ I h) λus s1 ⟨vs,H1,I1,r1,q1⟩=>k pins s1 σ H1 vs us Q I1 r1 q1) g b
end
end L2
namespace HT
open PySem PyProof.Rows
def bZv(A:cXi)(s:cQr)(a:Int)(t:Tok)(c:Int)(u:Tok)(prog:cQO)(w:cQ1)(E:cQp->cQr->Prop)(Q:cQp->cQr->Prop)(h:Q (.bool (decide (a<c))) s): cQw (cQx prog w) A (richCompare .Lt (.int a t) (.int c u)) Q E s:=
 (PyProof.Rows.lt_int h:cQw (cQx prog w) A (cXW .Lt (.int a t) (.int c u)) Q E s)
section
open PySem.SeqAt
open PySem.AutoSeq1 (wpAny_loadPart')
open PySem.MeetsSeq PySem.MeetsSeq2 PySem.MeetsSeq3
end
section
variable {prog:cQO}{w:cQ1}{A:cXi}{E:cQp->cQr->Prop}{s:cQr}
def bJZ{t b:Addr}{Q:cQp->cQr->Prop}(x:cJi s.heap t vs.toArray)(v:cJi s.heap b a.toArray)(r:vs≠ []) (h1:a= []->Q (.ref t) s) (h2:a≠ []->Q (.ref s.heap.objs.size) {s with heap:=s.heap.push {cls:= .type AD,data:= .seq (vs++a).toArray} }) (j:vs.length+a.length<=cQM):cQw (cQx prog w) A (cZT .Add (.ref t) (.ref b)) Q E s:=by
 obtain⟨⟨cls,m,data,o⟩,i,p,n,u⟩:=id x;obtain⟨⟨l,d,k,h⟩,c,f,q,g⟩:=id v;simp only at p u f g;subst p u f g;have e:vs.toArray++a.toArray=(vs++a).toArray:=by simp
 by_cases hw:a= []
 ·exact concat_meets ⟨_,i,rfl⟩ ⟨_,c,rfl⟩ noFill_tuple_add seq_tuple_add PySem.F.slot_tuple_add PySem.F.entry_tuple_add (cVX _ _)
   (tuple_addW1 t b vs.toArray a.toArray n q m d o h (by simpa using r) (by simp[hw])) ⟨i,c,h1 hw⟩
 ·refine concat_meets ⟨_,i,rfl⟩ ⟨_,c,rfl⟩ noFill_tuple_add seq_tuple_add PySem.F.slot_tuple_add PySem.F.entry_tuple_add (cVX _ _)
   (tuple_addW2 t b vs.toArray a.toArray n q m d o h (by simpa using r) (by simpa using hw) (by rw[cQF,cQF];exact j)) ⟨i,c,?_⟩
  rw[e];exact h2 hw
def sIx(n d:Nat):Option Int->Nat
 |none=>d
 |some v=>if v<0 then(v+(n:Int)).toNat else min v.toNat n
def bZy(n d:Nat):sIx n d none=d:=rfl
def bKw(n d:Nat)(b:d<=n)(o:Option Int):sIx n d o<=n:=by
 cases o with
 |none=>exact b
 |some v=>
  show(if v<0 then(v+(n:Int)).toNat else min v.toNat n)<=n;by_cases a:v<0
  ·rw[if_pos a];omega
  ·rw[if_neg a];exact Nat.min_le_right _ _
def aK3(v:Int)(n d:Nat):(if v<0 then max (v+(n:Int)) 0 else min v (n:Int))=((sIx n d (some v):Nat):Int):=by
 show(if v<0 then max (v+(n:Int)) 0 else min v (n:Int))=(((if v<0 then(v+(n:Int)).toNat else min v.toNat n):Nat):Int);by_cases a:v<0
 ·simp only[if_pos a];omega
 ·simp only[if_neg a];omega
def aWA(lo hi:Option Int)(n:Nat):cJP lo hi 1 (n:Int)=(((sIx n 0 lo:Nat):Int),((sIx n n hi:Nat):Int)):=by
 have h1:¬ ((1:Int)<0):=by omega
 unfold cJP;simp only[h1,if_false];refine Prod.ext ?_ ?_
 ·cases lo with
  |none=>rfl
  |some v=>exact aK3 v n 0
 ·cases hi with
  |none=>rfl
  |some v=>exact aK3 v n n
def aKp(i j:Nat):cZX (i:Int) (j:Int) 1=j - i:=by
 unfold cZX;have h1:(1:Int) > 0:=by omega
 simp only[h1,if_true,Int.ediv_one];split<;> omega
def aXJ{Q:Option Int->cQr->Prop}(p:IsPart v o)(h:Q o s):cQw (cQx prog w) A (Builtin.Slice.slicePartIndex v) Q E s:=by
 cases p with
 |none=>exact slicePart_none h
 |int i t=>exact slicePart_int h
def aQa{e:Addr}{c d:cQp}{lo hi:Option Int}{n:Nat}{Q:Int×Int×Nat->cQr->Prop}(g:s.heap.IsSliceOf e c d .none)(pl:IsPart c lo)(f:IsPart d hi) (h:Q (((sIx n 0 lo:Nat):Int),1,sIx n n hi - sIx n 0 lo) s):cQw (cQx prog w) A (cVI (.ref e) (pure (n:Int))) Q E s:=by
 obtain⟨j,b,i,a⟩:=id g;unfold cVI Builtin.Slice.sliceFields;refine cQo (cQo (cJ5 b a (x:=c) rfl (cQo (cJ5 b a (x:=d) rfl (cQo (cJ5 b a (x:= .none) rfl (cQs ?_)))))));refine cQo (slicePart_none ?_);show cQw _ _ (if((1:Int)==0)=true then _ else _) _ _ s;rw[if_neg (by decide)];refine cQo (aXJ pl (cQo (aXJ f (cQo (cQs ?_)))));show cQw _ _ (match cJP lo hi 1 (n:Int)with|(lo,hi)=>pure (lo,(1:Int),cZX lo hi 1)) _ _ s;rw[aWA lo hi n];show cQw _ _ (pure (((sIx n 0 lo:Nat):Int),(1:Int),cZX ((sIx n 0 lo:Nat):Int) ((sIx n n hi:Nat):Int) 1)) _ _ s;rw[aKp];exact cQs h
def bZr(xs:Array cQp)(i k:Nat):((cQy k).filterMap λ(m:Nat)=>xs[((i:Int)+(m:Int)*1).toNat]?).toArray=((xs.toList.drop i).take k).toArray:=by
 have e:(λ(m:Nat)=>xs[((i:Int)+(m:Int)*1).toNat]?)=λm=>xs[i+m]? :=by
  funext m;have:((i:Int)+(m:Int)*1).toNat=i+m:=by omega
  rw[this]
 rw[e];have:=pick_run xs i k;rw[List.filterMap_map]at this;have a:((λx=>xs[x]?)∘λx=>i+x)=λm=>xs[i+m]? :=rfl;rw[a]at this;rw[this]
def X8{t d:Addr}{items:Array cQp}{k j:cQp}{lo hi:Option Int}{Q:cQp->cQr->Prop}(b:cJi s.heap t items)(i:s.heap.IsSliceOf d k j .none)(pl:IsPart k lo)(l:IsPart j hi) (hw:¬ (sIx items.size 0 lo=0/\sIx items.size items.size hi=items.size)) (h:Q (.ref s.heap.objs.size) {s with heap:=s.heap.push {cls:= .type AD,data:= .seq ((items.toList.drop (sIx items.size 0 lo)).take (sIx items.size items.size hi - sIx items.size 0 lo)).toArray} }) (p:items.size<=cQM):cQw (cQx prog w) A (getItem (.ref t) (.ref d)) Q E s:=by
 have a:sizeOk (.seq ((items.toList.drop (sIx items.size 0 lo)).take (sIx items.size items.size hi - sIx items.size 0 lo)).toArray):=by show((items.toList.drop (sIx items.size 0 lo)).take (sIx items.size items.size hi - sIx items.size 0 lo)).toArray.size<=cQM;rw[cQF,cXS,List.length_drop,cXJ];omega
 have v:sIx items.size items.size hi<=items.size:=bKw _ _ (cQv _) hi;obtain⟨n,f,g,o⟩:=id i;have c:s.TypeIs (.ref d) "slice":=⟨n,f,g⟩;unfold getItem;try with_reducible refine cXK ?_
 first|refine cQo (cQs ?_)|skip
 refine cQo (wpAny_sequenceKey b.typeIs (by decide) ?_);refine cQo (cZE (name:=cJu CC) b.typeIs cJf (cZa cJf b.typeIs entry_tuple_getitem ?_ (args_tuple_getitem _ _)));show cQw _ _ (Builtin.Tuple.tupleItemsOf (.ref t) >>=_) _ _ s;refine cQo (tupleItemsOf_ b ?_);refine cQo (wpAny_typeOf c ?_);rw[if_pos (by decide)];refine cQo (aQa i pl l ?_);have e:¬ ((((sIx items.size 0 lo:Nat):Int)==0 && (1:Int)==1 && (sIx items.size items.size hi - sIx items.size 0 lo)==items.size)=true):=by intro q;rw[Bool.and_eq_true,Bool.and_eq_true]at q;have u:((sIx items.size 0 lo:Nat):Int)=0:=eq_of_beq q.1.1;have r:sIx items.size items.size hi - sIx items.size 0 lo=items.size:=eq_of_beq q.2;exact hw ⟨by omega,by omega⟩
 show cQw _ _ (if(((sIx items.size 0 lo:Nat):Int)==0 && (1:Int)==1 && (sIx items.size items.size hi - sIx items.size 0 lo)==items.size)=true then _ else _) _ _ s;rw[if_neg e,bZr];first
  |exact cQo (m:=cZ3 _) (cXG (cQs ⟨_,Cd,cQs h⟩) a)
  |exact cQo (m:=cZ3 _) (cXG (cQo (cQs (cQs ⟨_,Cd,cQs h⟩))) a)
  |exact cQo (cQo (m:=cZ3 _) (cXG (cQs (cQs ⟨_,Cd,cQs h⟩)) a))
  |exact cQo (cQo (m:=cZ3 _) (cXG (cQs ⟨_,Cd,cQs h⟩) a))
end
end HT
namespace L2
open PySem PySem.Spec PyProof.Rows
abbrev TO:=St->Hp->(Option Int->Hp->Prop)->Prop
def PO(X:Cx)(e:Option Expr)(t:TO):Prop:=
 ∀ (pins:List (Addr×Obj))(s:cQr)(σ:St)(H:Hp)(Q:Option Int->Hp->Prop),Inv X pins σ H s->t σ H Q->
  cQw (cQx X.prog X.w) X.A (evalPart e X.env) (λu s'=>∃o H',Inv X pins σ H' s'/\IsPart u o/\Q o H') X.xe s
def bWt:TO:=λ_ H Q=>Q none H
inductive bKR(Q:Option Int->Hp->Prop)(x:V)(H1:Hp):Prop|mk(i)(_:x= .int i)(_:Q (some i) H1)
def bYI(t:TE):TO:=λσ H Q=>t σ H λx H1=>bKR Q x H1
def aXz{a:List Int}:∀ {us:List cQp},xY (a.map V.int) us->cZZ us a:=by
 induction a with
 |nil=>intro us r;rw[List.map_nil]at r;cases r;exact .nil
 |cons n a b=>
  intro us r;rw[cXa]at r;cases r with
  |cons c d=>obtain⟨t,e⟩:=c;subst e;exact .cons n t (b d)
section
variable {X:Cx}{e:Expr}{te:TE}{lo hi:Option Expr}{tl th:TO}{pos p2:Pos}
def aX9:PO X none bWt:=by
 intro pins s σ H Q I h;rw[evalPart_none];exact cQs ⟨none,H,I,.none,h⟩
def Z5(h:PE X e te):PO X (some e) (bYI te):=by
 intro pins s σ H Q I hw;rw[evalPart_some];refine thn (h pins s σ H _ I hw) λu s1 ⟨x,H1,I1,r1,q1⟩=>?_;obtain⟨i,rfl,q⟩:=q1;obtain⟨t,rfl⟩:=r1;exact⟨some i,H1,I1,.int i t,q⟩
def SlR(X:Cx)(r:V->Option Int->Option Int->Hp->VK->Prop):Prop:=
 ∀ (pins:List (Addr×Obj))(s:cQr)(σ:St)(H:Hp)(x:V)(v a c:cQp)(lo hi:Option Int)(b:Addr)(Q:VK),Inv X pins σ H s->zL x v->s.heap.IsSliceOf b a c .none->IsPart a lo->IsPart c hi->r x lo hi H Q->
  ∃T id,typeLookup (.type T) CC=pure (some (.builtin id))/\s.TypeIs v T/\cQw (cQx X.prog X.w) X.A (getItem v (.ref b)) (EP X pins σ Q) X.xe s
def tSl(r:V->Option Int->Option Int->Hp->VK->Prop)(te:TE)(tl th:TO):TE:=λσ H Q=>te σ H λx H1=>tl σ H1 λl H2=>th σ H2 λu a=>r x l u a Q
def Y3{r:V->Option Int->Option Int->Hp->VK->Prop}(f:SlR X r)(a:PE X e te)(hl:PO X lo tl)(g:PO X hi th):PE X (.Subscript e (.Slice lo hi none p2) pos) (tSl r te tl th):=by
 intro pins s σ H Q I h;refine Subscript_ (thn (a pins s σ H _ I h) λv s1 ⟨x,H1,I1,r1,q1⟩=>?_);refine wpAny_Slice (thn (hl pins s1 σ H1 _ I1 q1) λvl s2 ⟨l,H2,I2,pl,q2⟩=>thn (g pins s2 σ H2 _ I2 q2) λvu s3 ⟨u,H3,I3,pu,q3⟩=>?_);rw[evalPart_none];refine cQs ?_;have j:Inv X pins σ H3 {s3 with heap:=s3.heap.push {cls:= .type "slice",data:= .fields #[vl,vu,.none] } }:=I3.kept (t':=s3.toks) λb k q=>cQu _ q;obtain⟨T,id,d,i,c⟩:=f pins {s3 with heap:=s3.heap.push {cls:= .type "slice",data:= .fields #[vl,vu,.none] } } σ H3 x v vl vu l u s3.heap.objs.size Q j r1 (Heap.IsSliceOf.new ..) pl pu q3;show cQw (cQx X.prog X.w) X.A (subscriptTail e (.Slice lo hi none p2) v (.ref s3.heap.objs.size)) (EP X pins σ Q) X.xe {s3 with heap:=s3.heap.push {cls:= .type "slice",data:= .fields #[vl,vu,.none] } };exact tail_any (ops:= [.ref s3.heap.objs.size,v]) i d c (by with_unfolding_all rfl)
def qP(xs:List V)(lo hi:Option Int):List V:=(xs.drop (HT.sIx xs.length 0 lo)).take (HT.sIx xs.length xs.length hi - HT.sIx xs.length 0 lo)
def aQq(xs:List V)(lo hi:Option Int):(qP xs lo hi).length<=xs.length:=by
 unfold qP;rw[cXS,List.length_drop];omega
inductive cQc(K:cQq)(x:V)(lo:Option Int)(hi:Option Int)(H:Hp)(Q:VK):Prop|mk(a xs)(_:x= .ref a)(_:SqT K H a xs)(_:¬ (HT.sIx xs.length 0 lo=0/\HT.sIx xs.length xs.length hi=xs.length))(_:∀p,H p=none->Q (.ref p) (upd H p (.tup (qP xs lo hi))))
def bKG:SlR X (cQc X.K):=by
 intro pins s σ H x v p n lo hi m Q I k l j g h;obtain⟨a,xs,rfl,i,hw,q⟩:=h;cases k;obtain⟨d,r,f,e⟩:=I.tuple i;have c:d.toArray.size=xs.length:=by rw[cQF];exact r.length.symm
 refine⟨AD,_,cJf.lookup,f.typeIs,?_⟩;refine HT.X8 f l j g (by rw[c];exact hw) ?_ (by rw[c];exact e);rw[c];refine⟨.ref s.heap.objs.size,_,I.laid (t':=s.toks) (o:= .tup (qP xs lo hi)) (λb t q=>cQu _ q) (cQv _) ?_,Cd,q _ (I.hok.fresh (cQv _))⟩;exact⟨cQZ (aQq xs lo hi) e,_,(r.drop (HT.sIx xs.length 0 lo)).take (HT.sIx xs.length xs.length hi - HT.sIx xs.length 0 lo),IsTup.new _ _⟩
inductive bYr(K:cQq)(x:V)(y:V)(H:Hp)(Q:VK):Prop|mk(a b xs ys)(_:x= .ref a)(_:y= .ref b)(_:SqT K H a xs)(_:SqT K H b ys)(_:xs≠ [])(_:xs.length+ys.length<=cQM)(_:(ys= []->Q (.ref a) H))(_:(ys≠ []->∀p,H p=none->Q (.ref p) (upd H p (.tup (xs++ys)))))
def xY.nil_iff(r:xY xs us):us= []↔xs= []:=by
 cases r with
 |nil=>simp
 |cons _ _=>simp
def aY0:OpR X (cZT .Add) (bYr X.K):=by
 intro pins s σ H x y v u Q I l r h;obtain⟨a,b,xs,ys,rfl,rfl,m,p,k,e,i,g⟩:=h;cases l;cases r;obtain⟨n,d,j,_⟩:=I.tuple m;obtain⟨f,c,p2,_⟩:=I.tuple p;refine HT.bJZ j p2 (λz=>k (d.nil_iff.mp z)) (λz=>⟨.ref a,H,I,Cd,i (c.nil_iff.mp z)⟩) (λz=>?_) (by rw[<- d.length,<- c.length];exact e);refine⟨.ref s.heap.objs.size,_,I.laid (t':=s.toks) (o:= .tup (xs++ys)) (λb t q=>cQu _ q) (cQv _) ?_,Cd,g (λw=>z (c.nil_iff.mpr w)) _ (I.hok.fresh (cQv _))⟩;exact⟨by rw[cQL];exact e,_,d.append c,IsTup.new _ _⟩
end
end L2
namespace L2
open PySem PySem.Spec PyProof.Rows
def ixN(n:Nat)(i:Int):Option Nat:=if 0<=i then(if i<n then some i.toNat else none)else if -(n:Int)<=i then some (i+n).toNat else none
def atI{α:Type}(xs:List α)(i:Int):Option α:=(ixN xs.length i).bind λj=>xs[j]?
def aYo(h:ixN n i=some j):seqIndex? i n=some j/\j<n/\ -(n:Int)<=i/\i<n:=by
 unfold ixN at h;by_cases h0:0<=i
 ·rw[if_pos h0]at h;by_cases h1:i<n
  ·rw[if_pos h1]at h;have e:i.toNat=j:=cQI h;exact⟨by rw[seqIndex_of h0 h1,e],by omega,by omega,h1⟩
  ·rw[if_neg h1]at h;cases h
 ·rw[if_neg h0]at h;by_cases h1: -(n:Int)<=i
  ·rw[if_pos h1]at h;have e:(i+n).toNat=j:=cQI h;exact⟨by rw[seqIndex_neg (by omega) h1,e],by omega,h1,by omega⟩
  ·rw[if_neg h1]at h;cases h
def aJG{α:Type}{xs:List α}{v:α}(h:atI xs i=some v):∃j,seqIndex? i xs.length=some j/\xs[j]? =some v/\j<xs.length/\ -(xs.length:Int)<=i/\i<xs.length:=by
 unfold atI at h;cases e:ixN xs.length i with
 |none=>rw[e]at h;cases h
 |some j=>rw[e]at h;obtain⟨h1,h2,a,b⟩:=aYo e;exact⟨j,h1,h,h2,a,b⟩
def yR{α:Type}{xs:List α}{j:Nat}{v:α}(h:xs[j]? =some v):atI xs (j:Int)=some v:=by
 have a:j<xs.length:=(cQA.mp h).1;have e:ixN xs.length (j:Int)=some j:=by unfold ixN;rw[if_pos (by omega),if_pos (by omega)];simp
 unfold atI;rw[e];exact h
def bJX(b:Expr):Prop:=∀o i,subscripted b false o i=operate [o,i] (getItem o i)
def IxR(X:Cx)(r:R2):Prop:=
 ∀ (value a:Expr)(pins:List (Addr×Obj))(s:cQr)(σ:St)(H:Hp)(x y:V)(v u:cQp)(Q:VK),Inv X pins σ H s->zL x v->zL y u->r x y H Q->
  subscripted a false v u=operate [v,u] (getItem v u)->cQw (cQx X.prog X.w) X.A (subscriptTail value a v u) (EP X pins σ Q) X.xe s
def MtR(X:Cx)(id:String)(r:V->List V->Hp->VK->Prop):Prop:=
 ∀ (pins:List (Addr×Obj))(s:cQr)(σ:St)(H:Hp)(x:V)(xs:List V)(v:cQp)(a:List cQp)(Q:VK),Inv X pins σ H s->zL x v->xY xs a->r x xs H Q->
  cQw (cQx X.prog X.w) X.A (call (.builtin id) (v::a)) (EP X pins σ Q) X.xe s
section
variable {X:Cx}{a b:Expr}{ta tb:TE}{pos:Pos}
def IxR.or(h:IxR X r)(h':IxR X d):IxR X (λx y H Q=>r x y H Q\/d x y H Q):=by
 intro value a pins s σ H x y v u Q I b e q c;rcases q with q|q
 ·exact h value a pins s σ H x y v u Q I b e q c
 ·exact h' value a pins s σ H x y v u Q I b e q c
def yL(g:IxR X r)(i:PE X a ta)(j:PE X b tb)(f:bJX b:=by exact λ_ _=>rfl):PE X (.Subscript a b pos) (tOp r ta tb):=by
 intro pins s σ H Q I h;exact Subscript_ (bYi i j I h λv u c x y H2 d e k q=>g a b pins c σ H2 x y v u Q d e k q (f _ _))
inductive bWD(K:cQq)(x:V)(y:V)(H:Hp)(Q:VK):Prop|mk(p xs i v)(_:x= .ref p)(_:y= .int i)(_:SqL K H p xs)(_:atI xs i=some v)(_:Q v H)
inductive bYs(K:cQq)(x:V)(y:V)(H:Hp)(Q:VK):Prop|mk(p xs i v)(_:x= .ref p)(_:y= .int i)(_:SqT K H p xs)(_:atI xs i=some v)(_:Q v H)
inductive bYQ(x:V)(y:V)(H:Hp)(Q:VK):Prop|mk(z i c)(_:x= .str z)(_:y= .int i)(_:z.length<=cQM)(_:atI z.cps.toList i=some c)(_:Q (.str ⟨#[c]⟩) H)
def yK:IxR X (bWD X.K):=by
 intro value e pins s σ H x y v u Q I l A h f;obtain⟨p,xs,i,z,rfl,rfl,n,k,q⟩:=h;cases l;obtain⟨t,rfl⟩:=A;obtain⟨d,r,b,C⟩:=I.list n;obtain⟨j,h1,h2,B,m,o⟩:=aJG k;obtain⟨w,g,a⟩:=r.get h2;have hl:=r.length;have D:=aZ5;have fin:EP X pins σ Q w s:=⟨z,H,I,a,q⟩;by_cases h0:0<=i
 ·have c:i.toNat=j:=by
   rw[seqIndex_of h0 o]at h1;exact cQI h1
  exact item_listR b.isList h0 (by omega) (by rw[c];simpa using g) fin f
 ·have c:(i+(d.toArray.size:Int)).toNat=j:=by
   rw[seqIndex_neg (by omega) m]at h1;rw[cQF,<- hl];exact cQI h1
  exact subscriptTail_builtinR (x:=w) b.isList.typeIs slot_list_getitem.lookup
   (wpAny_getItem_list_neg (Q:=λr s'=>r=w/\EP X pins σ Q r s') b.isList (by omega) (by rw[cQF]<;> omega) (by omega) (by rw[c];simpa using g) ⟨rfl,fin⟩) f
def yX:IxR X (bYs X.K):=by
 intro value b pins s σ H x y v u Q I e m h f;obtain⟨p,xs,i,z,rfl,rfl,g,d,q⟩:=h;cases e;obtain⟨t,rfl⟩:=m;obtain⟨k,r,c,A⟩:=I.tuple g;obtain⟨j,h1,h2,n,o,B⟩:=aJG d;obtain⟨w,l,a⟩:=r.get h2;have hl:=r.length;have C:=aZ5;have fin:EP X pins σ Q w s:=⟨z,H,I,a,q⟩;exact subscriptTail_builtinR (x:=w) c.typeIs slot_tuple_getitem.lookup
  (getItem_tuple (j:=j) (Q:=λr s'=>r=w/\EP X pins σ Q r s') c (by omega) (by omega) (by rw[cQF,<- hl];exact h1) (by simpa using l) ⟨rfl,fin⟩) f
def aQw:IxR X bYQ:=by
 intro value a pins s σ H x y v u Q I e m h g;obtain⟨z,i,c,rfl,rfl,p,d,q⟩:=h;obtain⟨t,rfl⟩:=e;obtain⟨o,rfl⟩:=m;obtain⟨j,h1,h2,n,k,l⟩:=aJG d;have hl:z.cps.toList.length=z.length:=by simp[Str.length]
 rw[hl]at h1 k l;have r:=aZ5;exact tail_any (typeIs_str s z t) slot_str_getitem.lookup (getItem_str (c:=c) (by
  have b:decide (i< -(2 ^ 63:Int))=false:=decide_eq_false (by omega);have f:decide (i≥2 ^ 63)=false:=decide_eq_false (by omega);rw[b,f,Bool.or_false]) (by rw[h1];simpa using h2) ⟨.str ⟨#[c]⟩,H,I.tok _,⟨_,rfl⟩,q⟩) g
def rIx(K:cQq):R2:=λx y H Q=>bWD K x y H Q\/bYs K x y H Q\/bYQ x y H Q
def aVS:IxR X (rIx X.K):=yK.or (yX.or aQw)
def aW4(its:List cQp)(n j:Nat)(u:cQp):cXj (·.setIfInBounds j u) {cls:= .type AB,data:= .seq its.toArray n}= {cls:= .type AB,data:= .seq (its.set j u).toArray n}:=by
 simp[cXj]
def Inv.lst(I:Inv X pins σ H s)(h:H p=some (.lst xs)): ∃ (its:List cQp)(n:Nat),xY xs its/\s.heap.get? p=some {cls:= .type AB,data:= .seq its.toArray n}/\xs.length<=cQM:=by
 obtain⟨z,its,n,r,e⟩:=I.hok p _ h;exact⟨its,n,r,e,z⟩
def Inv.lstUpd{pins:List (Addr×Obj)}{σ:St}{H:Hp}{s:cQr}{p:Addr}{xs ys:List V}{its its':List cQp}{n a:Nat}{f:Obj->Obj}(I:Inv X pins σ H s)(h:H p=some (.lst xs)) (i:s.heap.get? p=some {cls:= .type AB,data:= .seq its.toArray n}) (c:f {cls:= .type AB,data:= .seq its.toArray n}= {cls:= .type AB,data:= .seq its'.toArray a}) (r:xY ys its') (d:ys.length<=cQM) (t:Nat): Inv X pins σ (upd H p (.lst ys)) {s with heap:=s.heap.update p f,toks:=t}:=by
 have e:(s.heap.update p f).get? p=some {cls:= .type AB,data:= .seq its'.toArray a}:=by rw[cXv f i (by rw[c]<;> rfl),c]
 refine I.write (x:=p) (e:=p) (by rw[h];trivial) (.inl rfl) (λb u g q=>(cQ2 _ _ (cQ6 g)).trans q) ⟨_,e⟩ ?_;exact⟨d,its',a,r,e⟩
inductive bYt(o:V)(i:V)(v:V)(H:Hp)(Q:(Hp->Prop)):Prop|mk(p xs k j)(_:o= .ref p)(_:i= .int k)(_:H p=some (.lst xs))(_:ixN xs.length k=some j)(_:Q (upd H p (.lst (xs.set j v))))
def z6:bYO X bYt:=by
 intro pins s σ H o i v B z u Q I l y w h;obtain⟨p,xs,k,j,rfl,rfl,g,m,q⟩:=h;cases l;obtain⟨t,rfl⟩:=y;obtain⟨a,n,r,c,x⟩:=I.lst g;obtain⟨h1,h2,d,f⟩:=aYo m;have hl:=r.length;have A:=aZ5;have e:Inv X pins σ (upd H p (.lst (xs.set j v))) {s with heap:=s.heap.update p (cXj (·.setIfInBounds j u)) }:=
  I.lstUpd g c (aW4 a n j u) (r.set w j) (by rw[List.length_set];exact x) s.toks
 by_cases h0:0<=k
 ·have b:k.toNat=j:=by
   rw[seqIndex_of h0 f]at h1;exact cQI h1
  exact PySem.W.ki_setAt c h0 (by omega) (by rw[cQF,<- hl];exact f) (by rw[b];exact⟨_,e,q⟩)
 ·have b:(k+(a.toArray.size:Int)).toNat=j:=by
   rw[seqIndex_neg (by omega) d]at h1;rw[cQF,<- hl];exact cQI h1
  exact PySem.W.ki_setBack c (by omega) (by rw[cQF,<- hl];exact d) (by omega) (by rw[b];exact⟨_,e,q⟩)
def aJo(lo hi:Option Int)(n:Nat):(cJN lo hi none n).1=((HT.sIx n 0 lo:Nat):Int)/\(cJN lo hi none n).2.1=((HT.sIx n n hi:Nat):Int)/\(cJN lo hi none n).2.2=1:=by
 refine⟨?_,?_,rfl⟩
 ·cases lo with
  |none=>simp[cJN,HT.sIx]
  |some i=>
   simp only[cJN,HT.sIx,Option.getD_none,show(1:Int) > 0 by decide,if_true];by_cases h:i<0
   ·simp only[h,if_true]<;> omega
   ·simp only[h,if_false]<;> omega
 ·cases hi with
  |none=>simp[cJN,HT.sIx]
  |some i=>
   simp only[cJN,HT.sIx,Option.getD_none,show(1:Int) > 0 by decide,if_true];by_cases h:i<0
   ·simp only[h,if_true]<;> omega
   ·simp only[h,if_false]<;> omega
def aZt(its:List cQp)(lo hi:Option Int):slicePick its.toArray lo hi none=((its.drop (HT.sIx its.length 0 lo)).take (HT.sIx its.length its.length hi - HT.sIx its.length 0 lo)).toArray:=by
 obtain⟨h1,h2,a⟩:=aJo lo hi its.toArray.size;unfold slicePick;rw[h1,h2,a];simp only[sliceRange_one,pick_run,cQF]<;> rfl
inductive cQb(K:cQq)(x:V)(lo:Option Int)(hi:Option Int)(H:Hp)(Q:VK):Prop|mk(a xs)(_:x= .ref a)(_:SqL K H a xs)(_:∀p,H p=none->Q (.ref p) (upd H p (.lst (qP xs lo hi))))
def aZs:SlR X (cQb X.K):=by
 intro pins s σ H x v p n lo hi m Q I i j g e h;obtain⟨a,xs,rfl,f,q⟩:=h;cases i;obtain⟨l,r,d,k⟩:=I.list f;have c:=r.length;refine⟨AB,_,slot_list_getitem.lookup,d.isList.typeIs,?_⟩;refine wpAny_getItem_list_slice d.isList j g e .none (by simp) ?_ (by rw[cQF]<;> omega);rw[aZt,<- c];refine⟨.ref s.heap.objs.size,_,I.laid (t':=s.toks) (o:= .lst (qP xs lo hi)) (λb t q=>cQu _ q) (cQv _) ?_,Cd,q _ (I.hok.fresh (cQv _))⟩;exact⟨cQZ (aQq xs lo hi) k,_,0,(r.drop (HT.sIx xs.length 0 lo)).take (HT.sIx xs.length xs.length hi - HT.sIx xs.length 0 lo),cQS _ rfl⟩
def Q9:V->Bool
 |.non=>true
 |.bl _=>true
 |.int _=>true
 |.str _=>true
 |_=>false
def eqV:V->V->Bool
 |.non,.non=>true
 |.bl a,.bl b=>a==b
 |.bl a,.int b=>(if a then 1 else 0)==b
 |.int a,.bl b=>a==(if b then 1 else 0)
 |.int a,.int b=>a==b
 |.str a,.str b=>a==b
 |_,_=>false
def bJr(e:zL y u)(c:zL x v)(g:Q9 y=true)(f:Q9 x=true):cV0 A s u v (eqV y x):=by
 cases y with
 |non=>
  cases e;cases x with
  |non=>cases c;exact SeqAt.EqAt.same _
  |bl b=>cases c;exact SeqAt.EqAt.none_bool b
  |int b=>obtain⟨t,rfl⟩:=c;exact SeqAt.EqAt.none_int b t
  |str b=>obtain⟨t,rfl⟩:=c;exact SeqAt.EqAt.none_str b t
  |_=>exact absurd (show false=true from f) Bool.false_ne_true
 |bl a=>
  cases e;cases x with
  |non=>cases c;exact SeqAt.EqAt.bool_none a
  |bl b=>cases c;exact SeqAt.EqAt.bool_bool a b
  |int b=>obtain⟨t,rfl⟩:=c;exact SeqAt.EqAt.bool_int a b t
  |str b=>obtain⟨t,rfl⟩:=c;exact SeqAt.EqAt.bool_str a b t
  |_=>exact absurd (show false=true from f) Bool.false_ne_true
 |int a=>
  obtain⟨d,rfl⟩:=e;cases x with
  |non=>cases c;exact SeqAt.EqAt.int_none a d
  |bl b=>cases c;exact SeqAt.EqAt.int_bool a d b
  |int b=>obtain⟨t,rfl⟩:=c;exact SeqAt.EqAt.int_int a d b t
  |str b=>obtain⟨t,rfl⟩:=c;exact SeqAt.EqAt.int_str a d b t
  |_=>exact absurd (show false=true from f) Bool.false_ne_true
 |str a=>
  obtain⟨d,rfl⟩:=e;cases x with
  |non=>cases c;exact SeqAt.EqAt.str_none a d
  |bl b=>cases c;exact SeqAt.EqAt.str_bool a d b
  |int b=>obtain⟨t,rfl⟩:=c;exact SeqAt.EqAt.str_int a d b t
  |str b=>obtain⟨t,rfl⟩:=c;exact SeqAt.EqAt.str_str a d b t
  |_=>exact absurd (show false=true from f) Bool.false_ne_true
 |_=>exact absurd (show false=true from g) Bool.false_ne_true
def eqU(x:V)(u:cQp):Bool:=match u with
 |.none=>eqV .non x
 |.bool b=>eqV (.bl b) x
 |.int i _=>eqV (.int i) x
 |.str z _=>eqV (.str z) x
 |_=>false
def bJs(r:zL y u)(f:Q9 y=true):eqU x u=eqV y x:=by
 cases y with
 |non=>cases r;rfl
 |bl b=>cases r;rfl
 |int i=>obtain⟨t,rfl⟩:=r;rfl
 |str z=>obtain⟨t,rfl⟩:=r;rfl
 |_=>exact absurd (show false=true from f) Bool.false_ne_true
def aQn{x:V}:∀ {xs:List V} {us:List cQp},xY xs us->xs.all Q9=true->us.any (eqU x)=xs.any λy=>eqV y x
 |_,_,.nil,_=>rfl
 |y::xs,u::us,.cons r t,f=>by rw[cJF,Bool.and_eq_true]at f;rw[cZD,cZD,bJs r f.1,aQn t f.2]
def qZ(b:zL x v)(c:Q9 x=true):∀ {xs:List V} {us:List cQp},xY xs us->xs.all Q9=true->∀u∈us,cV0 A s u v (eqU x u)
 |_,_,.nil,_=>λu a=>by cases a
 |y::xs,u::us,.cons r t,f=>λd a=>by
  rw[cJF,Bool.and_eq_true]at f;rcases cQz.mp a with rfl|a
  ·rw[bJs r f.1];exact bJr r b f.1 c
  ·exact qZ b c t f.2 d a
def inV(x:V)(xs:List V):Bool:=xs.any λy=>eqV y x
inductive rIn(K:cQq)(neg:Bool)(x:V)(y:V)(H:Hp)(Q:VK):Prop|mk(p xs)(_:y= .ref p)(_:(SqL K H p xs\/SqT K H p xs))(_:Q9 x=true)(_:xs.all Q9=true)(_:Q (.bl (if neg then !inV x xs else inV x xs)) H)
def vI:OpR X (cXW .In) (rIn X.K false):=by
 intro pins s σ H x y v u Q I d g h;obtain⟨p,xs,rfl,b,e,fs,q⟩:=h;cases g;rcases b with b|b
 ·obtain⟨a,r,c,f⟩:=I.list b;refine SeqAt.in_listAt (eqU x) c.isList (λw hw=>qZ d e r fs w (by simpa using hw)) ⟨.bl _,H,I,Cd,?_⟩;rw[show a.toArray.any (eqU x)=a.any (eqU x) by simp,aQn r fs];exact q
 ·obtain⟨a,r,c,f⟩:=I.tuple b;refine SeqAt.in_tupleAt (eqU x) c (λw hw=>qZ d e r fs w (by simpa using hw)) ⟨.bl _,H,I,Cd,?_⟩;rw[show a.toArray.any (eqU x)=a.any (eqU x) by simp,aQn r fs];exact q
def Q5:OpR X (cXW .NotIn) (rIn X.K true):=by
 intro pins s σ H x y v u Q I d g h;obtain⟨p,xs,rfl,b,e,fs,q⟩:=h;cases g;rcases b with b|b
 ·obtain⟨a,r,c,f⟩:=I.list b;refine SeqAt.notIn_listAt (eqU x) c.isList (λw hw=>qZ d e r fs w (by simpa using hw)) ⟨.bl _,H,I,Cd,?_⟩;rw[show a.toArray.any (eqU x)=a.any (eqU x) by simp,aQn r fs];exact q
 ·obtain⟨a,r,c,f⟩:=I.tuple b;refine SeqAt.notIn_tupleAt (eqU x) c (λw hw=>qZ d e r fs w (by simpa using hw)) ⟨.bl _,H,I,Cd,?_⟩;rw[show a.toArray.any (eqU x)=a.any (eqU x) by simp,aQn r fs];exact q
inductive aXQ(K:cQq)(xs:List V)(H:Hp)(Q:VK):Prop|mk(p ys)(_:xs= [.ref p])(_:(SqL K H p ys\/SqT K H p ys))(_:Q (.int ys.length) H)
def yO:jV X (.builtin CN) (aXQ X.K):=by
 intro pins s σ H xs i Q I r h;obtain⟨p,ys,rfl,b,q⟩:=h;obtain⟨u,rfl,f⟩:=aXf r;cases f;have j:=aZ5;rcases b with b|b
 ·obtain⟨e,d,c,g⟩:=I.list b;have a:=d.length;exact Calls.call_len_list c.isList (by simp only[cQF]<;> omega) ⟨.int ys.length,H,I.tok _,⟨s.toks+1,by rw[cQF,a]⟩,q⟩
 ·obtain⟨e,d,c,g⟩:=I.tuple b;have a:=d.length;exact len_tuple c (by simp only[cQF]<;> omega) ⟨.int ys.length,H,I.tok _,⟨s.toks+1,by rw[cQF,a]⟩,q⟩
inductive aXR(K:cQq)(xs:List V)(H:Hp)(Q:VK):Prop|mk(p ys)(_:xs= [.ref p])(_:(SqL K H p ys\/SqT K H p ys))(_:∀l,H l=none->Q (.ref l) (upd H l (.lst ys)))
def vV:jV X (.type AB) (aXR X.K):=by
 intro pins s σ H xs x Q I r h;obtain⟨p,ys,rfl,g,q⟩:=h;obtain⟨u,rfl,v⟩:=aXf r;cases v;have fin:∀ (a:List cQp),xY ys a->ys.length<=cQM->∀ (h':Heap)(c:Nat),(∀b o',s.heap.get? b=some o'->h'.get? b=some o')->
   h'.get? s.heap.objs.size=some {cls:= .type AB,dict:=none,data:= .seq a.toArray c,slots:= #[] }->EP X pins σ Q (.ref s.heap.objs.size) {s with heap:=h'}:=λa d i h' c f e=>
  ⟨.ref s.heap.objs.size,_,I.laid (t':=s.toks) f (cQv _) (show zJ X.prog X.w _ h' _ (.lst ys)from⟨i,a,c,d,e⟩),Cd,q _ (I.hok.fresh (cQv _))⟩
 rcases g with g|g
 ·obtain⟨a,d,k,i⟩:=I.list g;have j:=d.length;obtain⟨o,m,l,n,t⟩:=k.isList;exact call_list_seq p (.inl rfl) m l t (λh' c f e=>fin a d i h' c f e) (by simp only[cQF]<;> omega)
 ·obtain⟨a,d,k,i⟩:=I.tuple g;have j:=d.length;obtain⟨o,m,l,n,t⟩:=k;exact call_list_seq p (.inr rfl) m l t (λh' c f e=>fin a d i h' c f e) (by simp only[cQF]<;> omega)
inductive aXk(K:cQq)(xs:List V)(H:Hp)(Q:VK):Prop|mk(p ys)(_:xs= [.ref p])(_:((SqL K H p ys/\∀l,H l=none->Q (.ref l) (upd H l (.tup ys)))\/(SqT K H p ys/\Q (.ref p) H)))
def qS:jV X (.type AD) (aXk X.K):=by
 intro pins s σ H xs n Q I r h;obtain⟨p,ys,rfl,h⟩:=h;obtain⟨u,rfl,m⟩:=aXf r;cases m;rcases h with⟨d,q⟩|⟨d,q⟩
 ·obtain⟨a,f,c,i⟩:=I.list d;have j:=f.length;refine call_tuple_list c.isList (λh' l=>?_) (by simp only[cQF]<;> omega);have g:Inv X pins σ H {s with heap:=h'}:=I.kept (t':=s.toks) l;have k:Inv X pins σ (upd H h'.objs.size (.tup ys)) {s with heap:=h'.push {cls:= .type AD,data:= .seq a.toArray} }:=
   g.laid (t':=s.toks) (λb o e=>cQu _ e) (cQv _) (show zJ X.prog X.w _ _ _ (.tup ys)from⟨i,a,f,IsTup.new _ _⟩)
  exact⟨.ref h'.objs.size,_,k,Cd,q _ (g.hok.fresh (cQv _))⟩
 ·obtain⟨a,f,c,i⟩:=I.tuple d;exact call_tuple_same c ⟨.ref p,H,I,Cd,q⟩
def tyV(K:cQq)(T:String)(x:V)(H:Hp):Prop:=match x with
 |.str _=>T=Ah
 |.int _=>T=As
 |.ref p=>(T=AB/\∃xs,SqL K H p xs)\/(T=AD/\∃o,K.lookup p=some o/\o.cls= .type AD/\o.dict=none)\/
   (T="dict"/\((∃a,H p=some (.dK a))\/∃a,H p=some (.dT a)))\/(T=B6/\∃S n,H p=some (.set S n))
 |_=>False
def bJP(I:Inv X pins σ H s)(r:zL x v)(ty:tyV X.K T x H): s.TypeIs v T/\∀a,v= .ref a->∃j,s.heap.get? a=some j/\j.dict=none:=by
 cases x with
 |str z=>obtain⟨t,rfl⟩:=r;cases (show T=Ah from ty);exact⟨typeIs_str s z t,λ_ e=>nomatch e⟩
 |int i=>obtain⟨t,rfl⟩:=r;cases (show T=As from ty);exact⟨typeIs_int s i t,λ_ e=>nomatch e⟩
 |ref p=>
  cases r;rcases ty with⟨rfl,xs,l⟩|⟨rfl,o,b,k,g⟩|⟨rfl,b⟩|⟨rfl,S,n,b⟩
  ·obtain⟨m,_,h,_⟩:=I.list l;refine⟨h.isList.typeIs,λa e=>?_⟩;cases e;obtain⟨o,n,e,c,g,_⟩:=h;exact⟨o,e,g⟩
  ·refine⟨⟨o,I.kIn p o b,k⟩,λa e=>?_⟩;cases e;exact⟨o,I.kIn _ o b,g⟩
  ·have z:∃o,s.heap.get? p=some o/\o.ExactDict:=by
    rcases b with⟨f,b⟩|⟨f,b⟩
    ·obtain⟨_,_,_,_,o,_,_,e,ex,_⟩:=I.hok p _ b;exact⟨o,e,ex⟩
    ·obtain⟨_,_,_,_,o,_,_,e,ex,_⟩:=I.hok p _ b;exact⟨o,e,ex⟩
   obtain⟨o,e,ex⟩:=z;refine⟨⟨o,e,ex.1⟩,λa d=>?_⟩;cases d;exact⟨o,e,ex.2.1⟩
  ·obtain⟨o,_,_,_,e,ex,_⟩:=I.hok p _ b;refine⟨⟨o,e,ex.1⟩,λa d=>?_⟩;cases d;exact⟨o,e,ex.2.1⟩
 |_=>exact cXX ty
inductive bYC(K:cQq)(T:String)(r:V->List V->Hp->VK->Prop)(Q:VK)(x:V)(H1:Hp):Prop|mk(_:tyV K T x H1)(_:r x [] H1 Q)
def cQg(K:cQq)(T:String)(r:V->List V->Hp->VK->Prop)(to:TE):TE:=λσ H Q=>to σ H λx H1=>bYC K T r Q x H1
inductive cQh(K:cQq)(T:String)(r:V->List V->Hp->VK->Prop)(t:TA)(σ:St)(Q:VK)(x:V)(H1:Hp):Prop|mk(_:tyV K T x H1)(_:t σ H1 λxs H2=>r x xs H2 Q)
def tBM(K:cQq)(T:String)(r:V->List V->Hp->VK->Prop)(to:TE)(t:TA):TE:=λσ H Q=>to σ H λx H1=>cQh K T r t σ Q x H1
variable {o e:Expr}{es:List Expr}{to:TE}{t:TA}{name:Str}{apos cpos:Pos}{T id:String}{r:V->List V->Hp->VK->Prop}
def aY5(f:PlainAttrs T)(c:Slot T name id)(d:typeOf (.builtin id)=pure (.type "method_descriptor"))(g:MtR X id r)(e:PE X o to) (a:cJg o name X.env (eval o X.env)=eval o X.env:=by rfl) (b:(apos.endLine==cpos.line)=true:=by rfl):PE X (.Call (.Attribute o name apos) [] [] cpos) (cQg X.K T r to):=by
 intro pins s σ H Q I h;refine wpAny_Call_method0_late a b (thn (e pins s σ H _ I h) λv s1 ⟨x,H1,I1,r1,ty,q1⟩=>?_);obtain⟨h1,h2⟩:=bJP I1 r1 ty;exact⟨T,id,f,c,d,h1,h2,Calls.callWith_builtin rfl (PySem.evalArgs_none (g pins s1 σ H1 x [] v [] Q I1 r1 .nil q1))⟩
def v8(l:PlainAttrs T)(f:Slot T name id)(g:typeOf (.builtin id)=pure (.type "method_descriptor"))(j:MtR X id r)(n:PE X o to)(m:PA X (e::es) t)
  (b:cJg o name X.env (eval o X.env)=eval o X.env:=by rfl)
  (d:((cX6 cpos (cQ5 (e::es) X.env)).all (λx=> !x.1) && (cJD cpos (cZK [] X.env)).all (λx=>x.1.isSome) && decide ((e::es).length+([]:List Keyword).length+(if([]:List Keyword).isEmpty then 0 else 1)<30))=true:=by rfl)
  (c:(apos.endLine==cpos.line)=true:=by rfl) (k:cQ5 (e::es) X.env=(false,eval e X.env)::cQ5 es X.env:=by rfl) (a:(cX6 cpos (cQ5 es X.env)).any (·.1)=false:=by rfl):
  PE X (.Call (.Attribute o name apos) (e::es) [] cpos) (tBM X.K T r to t):=by
 intro pins s σ H Q I h
 refine wpAny_Call_method_late b d c rfl (thn (n pins s σ H _ I h) λv s1 ⟨x,H1,I1,r1,ty,q1⟩=>?_)
 obtain⟨h1,h2⟩:=bJP I1 r1 ty
 refine⟨T,id,l,f,g,h1,h2,?_⟩
 have i:=m cpos pins s1 σ H1 _ I1 q1
 rw[k]at i ⊢
 refine Calls.callWith_builtin (by show(false || (cX6 cpos (cQ5 es X.env)).any (·.1))=false;rw[a]<;> rfl) (Calls.evalArgs_plain ?_)
 exact thn i λus s2 ⟨vs,H2,I2,r2,q2⟩=>j pins s2 σ H2 x vs v us Q I2 r1 r2 q2
end
end L2
namespace L2
open PySem PySem.Spec PyProof.Rows
def MtM(X:Cx)(id:String)(r:V->List V->Hp->VK->Prop):Prop:=
 ∀ (pins:List (Addr×Obj))(s:cQr)(σ:St)(H:Hp)(x:V)(xs:List V)(v:cQp)(a:List cQp)(Q:VK),Inv X pins σ H s->zL x v->xY xs a->r x xs H Q->
  cQw (cQx X.prog X.w) X.A (call (.builtin id) (v::a)) (EP X pins σ Q) X.xe s
def xY.one:∀ {x:V} {us:List cQp},xY [x] us->∃u,us= [u]/\zL x u
 |_,_,.cons r .nil=>⟨_,Cd,r⟩
def xY.two:∀ {x y:V} {us:List cQp},xY [x,y] us->∃u v,us= [u,v]/\zL x u/\zL y v
 |_,_,_,.cons r (.cons q .nil)=>⟨_,_,Cd,r,q⟩
def xY.zero:∀ {us:List cQp},xY [] us->us= []
 |_,.nil=>rfl
def xY.dropLast(h:xY xs us):xY xs.dropLast us.dropLast:=by
 induction h with
 |nil=>exact .nil
 |cons r t a=>
  cases t with
  |nil=>exact .nil
  |cons q b=>exact .cons r a
def xY.reverse(h:xY xs us):xY xs.reverse us.reverse:=by
 induction h with
 |nil=>exact .nil
 |cons r t a=>rw[List.reverse_cons,List.reverse_cons];exact xY.append a (.cons r .nil)
def xY.rep(h:xY xs us):∀k:Nat,xY (cXc k xs).flatten (cXc k us).flatten
 |0=> .nil
 |k+1=>by rw[cZF,cZF,cJX,cJX];exact xY.append h (xY.rep h k)
def aWO{α:Type}(l:List α):l.eraseIdx (l.length - 1)=l.dropLast:=by
 induction l with
 |nil=>rfl
 |cons a r c=>
  cases r with
  |nil=>rfl
  |cons b r=>
   have e:(a::b::r).length - 1=((b::r).length - 1)+1:=by have h1:(a::b::r).length=r.length+2:=rfl;have h2:(b::r).length=r.length+1:=rfl;omega
   rw[e,List.eraseIdx_cons_succ,c];all_goals rfl
def aZR(its:List cQp):∀ (k:Nat)(a:List cQp),
  List.foldl (λc d=>c++d) a.toArray (cXc k its.toArray)=(a++(cXc k its).flatten).toArray
 |0,a=>by simp
 |k+1,a=>by
  have e:a.toArray++its.toArray=(a++its).toArray:=by simp
  have b:(a++its)++(cXc k its).flatten=a++(cXc (k+1) its).flatten:=by rw[cZF,cJX,cXL]
  rw[<- b,<- aZR its k (a++its),<- e,cZF,List.foldl_cons]
section
variable {X:Cx}{pins:List (Addr×Obj)}{σ:St}{H:Hp}{s:cQr}{l b:Addr}{xs ys zs:List V}
def Inv.lset{its its':List cQp}{n:Nat}{f:Array cQp->Array cQp}{t':Nat}(I:Inv X pins σ H s)(b:H l=some (.lst xs)) (e:s.heap.get? l=some {cls:= .type AB,data:= .seq its.toArray n}) (c:f its.toArray=its'.toArray) (g:xY ys its') (d:ys.length<=cQM): Inv X pins σ (upd H l (.lst ys)) {s with heap:=s.heap.update l (cXj f),toks:=t'}:=by
 have q:=PySem.IsL.update e f;rw[c]at q;refine I.write (x:=l) (e:=l) (by rw[b];exact trivial) (.inl rfl) (λi u a h=>(cQ2 s.heap (cXj f) (cQ6 a)).trans h) ⟨_,q⟩ ?_;exact⟨d,its',_,g,q⟩
def Inv.lnew(I:Inv X pins σ H s)(a:xY ys its)(hz:ys.length<=cQM): Inv X pins σ (upd H s.heap.objs.size (.lst ys)) {s with heap:=s.heap.push {cls:= .type AB,data:= .seq its.toArray},toks:=t'}:=
 I.laid (λ_ _ q=>cQu _ q) (cQv _) ⟨hz,its,0,a,cQS _ rfl⟩
def Inv.fresh(I:Inv X pins σ H s):H s.heap.objs.size=none:=I.hok.fresh (cQv _)
def Inv.lstM(I:Inv X pins σ H s)(a:H l=some (.lst xs)):xs.length<=cQM/\∃ (its:List cQp)(n:Nat),xY xs its/\xs.length=its.length/\s.heap.get? l=some {cls:= .type AB,data:= .seq its.toArray n}:=by
 obtain⟨z,its,n,r,e⟩:=I.hok l _ a;exact⟨z,its,n,r,r.length,e⟩
def aVX(h:n<=cQM):cZ2 n=false:=by
 unfold cZ2;exact decide_eq_false (by omega)
end
section
variable {X:Cx}
inductive bQb(x:V)(vs:List V)(H:Hp)(Q:VK):Prop|mk(l xs y)(_:x= .ref l)(_:vs= [y])(_:H l=some (.lst xs))(_:xs.length<cQM)(_:Q .non (upd H l (.lst (xs++ [y]))))
def xL:MtM X "list.append" bQb:=by
 intro pins s σ H x j v g Q I d f h;obtain⟨l,xs,y,rfl,rfl,b,i,q⟩:=h;cases d;obtain⟨u,rfl,c⟩:=f.one;obtain⟨z,a,n,r,hl,e⟩:=I.lstM b;refine call_meets F.slot_list_append ⟨_,e,rfl⟩ F.entry_list_append (F.args_list_append_2 _ _) (PySem.list_append l a.toArray n u (by rw[cQF];omega)) ⟨e,?_⟩;refine⟨.non,_,I.lset (its':=a++ [u]) b e (by simp) (r.append (.cons c .nil)) ?_,Cd,q⟩;rw[cQL,cXx];omega
inductive bVO(x:V)(vs:List V)(H:Hp)(Q:VK):Prop|mk(l b xs zs)(_:x= .ref l)(_:vs= [.ref b])(_:H l=some (.lst xs))(_:H b=some (.lst zs))(_:xs.length+zs.length<=cQM)(_:Q .non (upd H l (.lst (xs++zs))))
def aYE:MtM X "list.extend" bVO:=by
 intro pins s σ H x B v y Q I j p h;obtain⟨l,b,xs,zs,rfl,rfl,g,t,A,q⟩:=h;cases j;obtain⟨u,rfl,i⟩:=p.one;cases i;obtain⟨z,c,n,r,hl,e⟩:=I.lstM g;obtain⟨z2,a,w,o,m,k⟩:=I.lstM t;have f:c.toArray.size+a.toArray.size<=cQM:=by rw[cQF,cQF];omega
 have d:¬ (!c.toArray.isEmpty && cZ2 (c.toArray.size+a.toArray.size))=true:=by rw[aVX f,Bool.and_false];exact Bool.false_ne_true
 refine call_meets F.slot_list_extend ⟨_,e,rfl⟩ F.entry_list_extend (F.args_list_extend_2 _ _)
  (AutoSeq1.list_extend_list_list_0 l c.toArray n b a.toArray w d (by rw[cQF];omega) (by omega)) ⟨e,k,?_⟩
 refine⟨.non,_,I.lset (its':=c++a) g e (by simp) (r.append o) ?_,Cd,q⟩;rw[cQL];omega
inductive bY9(x:V)(vs:List V)(H:Hp)(Q:VK):Prop|mk(l xs y)(_:x= .ref l)(_:vs= [])(_:H l=some (.lst xs))(_:xs[xs.length - 1]? =some y)(_:Q y (upd H l (.lst xs.dropLast)))
def aYF:MtM X "list.pop" bY9:=by
 intro pins s σ H x o v m Q I g i h;obtain⟨l,xs,y,rfl,rfl,d,k,q⟩:=h;cases g;have b:=i.zero;subst b;obtain⟨z,a,n,r,hl,e⟩:=I.lstM d;obtain⟨u,j,f⟩:=r.get k;have c:a.toArray[a.toArray.size - 1]? =some u:=by show a.toArray[a.length - 1]? =some u;rw[<- cXZ,<- hl];exact j
 refine call_meets F.slot_list_pop ⟨_,e,rfl⟩ F.entry_list_pop (F.args_list_pop_1 _) (MeetsSeq.list_pop_last l a.toArray n u c (by rw[cQF];omega)) ⟨e,?_⟩;refine⟨y,_,I.lset (its':=a.dropLast) d e ?_ r.dropLast ?_,f,q⟩
 ·show a.toArray.eraseIdxIfInBounds (a.toArray.size - 1)=a.dropLast.toArray;rw[cQF,List.eraseIdxIfInBounds_toArray,aWO]
 ·rw[List.length_dropLast];omega
inductive bY8(x:V)(y:V)(H:Hp)(Q:VK):Prop|mk(l b xs zs)(_:x= .ref l)(_:y= .ref b)(_:H l=some (.lst xs))(_:H b=some (.lst zs))(_:xs.length+zs.length<=cQM)(_:∀p,H p=none->Q (.ref p) (upd H p (.lst (xs++zs))))
def qC:OpR X (cZT .Add) bY8:=by
 intro pins s σ H x y v u Q I g o h;obtain⟨l,b,xs,zs,rfl,rfl,d,m,p,q⟩:=h;cases g;cases o;obtain⟨z,c,n,r,hl,e⟩:=I.lstM d;obtain⟨z2,a,t,k,j,i⟩:=I.lstM m;refine PySem.P.add_list e i ?_ (by rw[cQF,cQF];omega);have f:c.toArray++a.toArray=(c++a).toArray:=by simp
 rw[f];exact⟨.ref _,_,I.lnew (t':=s.toks) (r.append k) (by rw[cQL];omega),Cd,q _ I.fresh⟩
inductive cQa(x:V)(y:V)(H:Hp)(Q:VK):Prop|mk(l k xs)(_:x= .ref l)(_:y= .int k)(_:H l=some (.lst xs))(_: -(2 ^ 63)<=k)(_:k<2 ^ 63)(_:xs.length*k.toNat<=cQM)(_:∀p,H p=none->Q (.ref p) (upd H p (.lst (cXc k.toNat xs).flatten)))
def bVn{α:Type}(xs:List α)(k:Nat):(cXc k xs).flatten.length=k*xs.length:=by
 induction k with
 |zero=>simp
 |succ k a=>rw[cZF,cJX,cQL,a,Nat.succ_mul,Nat.add_comm]
def bKh:OpR X (cZT .Mult) cQa:=by
 intro pins s σ H x y v u Q I A C h;obtain⟨l,k,xs,rfl,rfl,w,h1,h2,p,q⟩:=h;cases A;obtain⟨t,rfl⟩:=C;obtain⟨z,b,n,r,hl,e⟩:=I.lstM w;have i:b.toArray.size*k.toNat<=cQM:=by rw[cQF,<- hl];exact p
 have g:¬b.toArray.size*k.toNat > (2 ^ 63 - 1) / 8:=by
  have:(cQM:Nat)<=(2 ^ 63 - 1) / 8:=by decide
  omega
 have f:¬ (!Builtin.List.listFitsIndex k)=true:=by rw[fitsIndex_both h1 h2];exact Bool.false_ne_true
 have c:¬cZ2 (b.toArray.size*k.toNat)=true:=by rw[aVX i];exact Bool.false_ne_true
 have d:List.foldl (λj o=>j++o) #[] (cXc (if b.toArray.isEmpty=true then 0 else k.toNat) b.toArray)=(cXc k.toNat b).flatten.toArray:=by
  have B:∀m:Nat,List.foldl (λj o=>j++o) #[] (cXc m b.toArray)=(cXc m b).flatten.toArray:=λm=>by have:=aZR b m [];rw[List.nil_append]at this;exact this
  rw[B];cases b with
  |nil=>simp
  |cons a D=>rw[if_neg (by simp)]
 refine wpAny_binaryOp_repeat_ref (T:=AB) (U:=As) (by decide) ⟨_,e,rfl⟩ (λs'=>typeIs_int s' k t) noFill_list_mul F.fills_int_mul F.slot_int_rmul repeat_list F.slot_int_index.lookup
  (call_meets F.slot_int_rmul (typeIs_int s k t) F.entry_int_rmul (F.args_int_rmul_2 _ _) (int___rmul___int_list k t l b.toArray n) ⟨e,Cd,⟨_,e,rfl⟩,call_meets F.slot_list_mul ⟨_,e,rfl⟩ F.entry_list_mul (F.args_list_mul_2 _ _) (AutoListH.list___mul___list_int_3 l b.toArray n k t f g c) ⟨e,?_⟩⟩)
 rw[d];exact⟨.ref _,_,I.lnew (t':=s.toks) (r.rep k.toNat) (by rw[bVn,Nat.mul_comm];exact p),Cd,q _ I.fresh⟩
end
section
variable {prog:cQO}{w:cQ1}{A:cXi}{E:cQp->cQr->Prop}{s:cQr}
end
section
variable {X:Cx}
end
end L2
namespace Att
open PySem PySem.W PySem.Calls PyProof.Rows
def aQu:∀ (c:List Int)(vs:List cQp),WellAll P h vs (c.map WData.int)->cZZ vs c:=by
 intro c;induction c with
 |nil=>intro vs w;rw[List.map_nil]at w;cases w;exact .nil
 |cons n c d=>
  intro vs w;rw[cXa]at w;cases w with
  |cons a b=>cases a;exact .cons _ _ (d _ b)
def bQN{l:OpenLaw}{n:Nat}(u:l.most=some n){P:Params}{h:Heap}{args:List WData}{vals:List cQp} (c:l.row.toRowW.claim.pre args=true) (j:WellAll P h vals args): ∃a o b,vals= [Value.ref a]/\args= [WData.list (b.map WData.int)]/\h.get? a=some {cls:= .type AB,data:= .seq o.toArray}/\cZZ o b/\b.length<=n:=by
 have k:WShape.hasAll [] args [.list .int]=true:=(pre_splitW c).1;have m:l.pre.holds [] {args:=args}=true:=(pre_splitW c).2;obtain⟨d,r,rfl,h1,h2⟩:=hasAllW_cons k;obtain rfl:=hasAllW_nil h2;obtain⟨xs,rfl,s⟩:=hasW_list h1;obtain⟨b,rfl⟩:=items_int s;have e:b.length<=n:=by
  unfold OpenLaw.pre at m;have g:(WTm.not (.lt (.lit (.int (n:Int))) (.len (.arg 0)))).holds [] {args:= [.list (b.map .int)] }=true:=by have g:=(holds_andW m).1;rw[u]at g;exact g
  have i:=condW_of g (w_not (w_lt w_lit (w_len_list (w_arg rfl))));rw[cQt]at i;refine Nat.le_of_not_lt λq=>?_;have p:(n:Int)<((b.length:Nat):Int):=by omega
  first
   |(rw[decide_eq_true p]at i;exact absurd i (by decide))
   |(simp at i;omega)
 cases j with
 |cons t w=>
  cases w;cases t with
  |list v f=>exact⟨_,_,b,Cd,Cd,v,aQu b _ f,e⟩
def aY8(l:OpenLaw)(args:List WData):l.row.toRowW.claim.post args (.bool true) args=true:=
 postW_of (r:=l.row.toRowW) (X:=(true==true))
  (show WShape.has [] (.bool true) .bool=true by first|rfl|decide|simp[WShape.has,WShape.arms,WShape.armsAll])
  (show(WTm.eq .res (.lit (.bool true))).value [] {args:=args,res:=some (.bool true),after:=args}=some (.bool (true==true))from w_eq_bool (w_res rfl) w_lit) rfl
def aJI{l:OpenLaw}{n:Nat}{q:cQO}{loose:List Str}{y:(Str->Option cQp)->Heap->Prop}{A:cQ1->Heap->Prop}{d:DefRec} (M:l.most=some n) (v:d.params.defaults= []) (call:∀ (w:cQ1)(s₀ b:cQr)(mg t:Str->Option cQp)(h:Addr)(o:Obj)(u k c:cQp)(a:Addr)(vs:List cQp)(m:List Int), Ground q loose [] y w s₀ mg t b.heap->A w b.heap-> b.heap.get? h=some o->o.data= .func (docDef d.name d.params d.body d.scope u k c)->b.heap.CodeRec k d.name->mg d.name=some (.ref h)-> b.heap.get? a=some {cls:= .type AB,data:= .seq vs.toArray}->cZZ vs m->m.length<=n->b.gens= #[]-> cZC (cQx l.prog w) callerA (.call (.ref h) ⟨[.ref a],[]⟩) (λr s'=>r= .ok (.ret (.bool true))/\OldK b.heap s'.heap/\s'.os=b.os/\AllBare s'.gens) b): WalkO q loose y A l.row.toRowW d [] (λf vs=>PySem.call f vs):=by
 intro w s₀ b mg t G Y h o u k c I kV L N p z s E args vals O g B H x F;obtain rfl:I= .none:=Dflts.none z v;obtain rfl:kV= .none:=Dflts.noKw z;obtain⟨a,vs,m,rfl,rfl,i,e,j⟩:=bQN M g x;refine enter_call (cZj (call w s₀ b mg t h o u k c a vs m G Y L (fd_plain N) p s i e j E) λr s' K=>?_);obtain⟨rfl,h2,C,J⟩:=K;exact⟨.inl ⟨.bool true,.bool true,[],Cd,λ_=>rfl,.bool true,aY8 l _,λ_=>⟨List.Pairwise.nil,λ_ D=>(nomatch D)⟩⟩,h2,C,J⟩
section
variable {prog:cQO}{w:cQ1}{A:cXi}{E:cQp->cQr->Prop}{s:cQr}{K:Frag}
end
end Att
namespace L2
open PySem PySem.Spec PyProof.Rows
def jH:∀ {vs:List cQp} {a:List Int},cZZ vs a->xY (a.map V.int) vs
 |_,_,.nil=> .nil
 |_,_,.cons n t h=> .cons ⟨t,rfl⟩ (jH h)
end L2
namespace L2
open PySem PySem.Spec PyProof.Rows
end L2
namespace L2
open PySem PySem.Spec PyProof.Rows
def x5(s:Stmt):Arguments:=match s with
 |.FunctionDef _ a _ _ _ _ _ _ _ _=>a
 |_=>{posonlyargs:= [],args:= [],vararg:=none,kwonlyargs:= [],kw_defaults:= [],kwarg:=none,defaults:= [] }
def xS(s:Stmt):List Stmt:=match s with
 |.FunctionDef _ _ b _ _ _ _ _ _ _=>b
 |_=> []
def yH(s:Stmt):Scope:=match s with
 |.FunctionDef _ _ _ _ _ _ a _ _ _=>a
 |_=>{kind:= .function,names:= [],isGenerator:=false,isCoroutine:=false}
abbrev CX0:CXT:=λ_ _ _ _ _ _=>False
abbrev E0:XK:=λ_ _ _=>False
def v7:vU CX0 X E0:=λ_ _ _ _ _ _ _ h=>h.elim
structure Fun(K:cQq)(x qual:Str)(st:Stmt)(f:Addr)(fd:cZn):Prop where
 ex:∃ (oc:cQp)(od:Option Addr)(kV doc pm:cQp)(an:Option Addr)(cdv ct:cQp)(osl:Array (Option cQp)),
  fd=cXu x qual (x5 st) (xS st) (yH st) .none kV doc pm an cdv ct/\K.lookup f=some ⟨oc,od,.func fd,osl⟩/\cZb K cdv qual=true
 kp:cXm K (.ref f)=true
section
variable {P:cQO}{w:cQ1}{K:cQq}{mg:Str->Option cQp}{base:Heap}
def Fun.ok{x qual:Str}{st:Stmt}{f:Addr}{fd:cZn}{N ps:List Str}{k:Nat}{sp:Sp}(F:Fun K x qual st f fd)(S:yN N ps (yH st)) (b:∀ (a:cQp)(A:cXi)(outer:List Env)(s:cQr)(H:Hp)(vs:List V)(Q:VK)(E:XK),v0 k (A.deeper (cZm qual (yH st) s.heap.objs.size f a))->sp vs H Q E-> ∃t,PSs (aXT CX0 P w K mg base N qual (yH st) f a A outer s H E).nox (xS st) t/\t {nx:=λ_ H'=>Q .non H',rt:=Q} (start N vs) H) (len:∀vs H Q E,sp vs H Q E->vs.length=ps.length:=by intro _ _ _ _ h;first|(cases h;subst_vars;exact rfl)|repeat (first|(obtain⟨rfl,_⟩:=h;exact rfl)|(obtain⟨_,h⟩:=h))):xH P w K mg base CX0 (k+1) f fd ps sp:=by
 obtain⟨j,m,kV,g,l,n,a,ct,i,rfl,lk,c⟩:=F.ex;refine bJ9 lk c S len λA outer s H vs Q E e d=>?_;obtain⟨t,h,q⟩:=b a A outer s H vs Q E e d;exact⟨t,h.nox,q⟩
def Fun.binds{x qual:Str}{st:Stmt}{f:Addr}{fd:cZn}{ps:List Str}(F:Fun K x qual st f fd) (h:∀ (kV b c:cQp)(d:Option Addr)(a ct:cQp)(us:List cQp),us.length=ps.length->cJa (cXu x qual (x5 st) (xS st) (yH st) .none kV b c d a ct) ⟨us,[]⟩=pure (ps.zip us)):uB K fd ps []:=by
 obtain⟨i,j,kV,b,c,d,a,ct,g,rfl,lk,e⟩:=F.ex;exact .all (h kV b c d a ct)
def aXy{x qual:Str}{st:Stmt}{f:Addr}{i:cQp}{h e:Option Addr}{d:Array (Option cQp)}{kV b g a ct:cQp}(l:K.lookup f=some ⟨i,h,.func (cXu x qual (x5 st) (xS st) (yH st) .none kV b g e a ct),d⟩)
  (c:cZb K a qual=true) (k:cXm K (.ref f)=true):Fun K x qual st f (cXu x qual (x5 st) (xS st) (yH st) .none kV b g e a ct):=⟨⟨i,h,kV,b,g,e,a,ct,d,Cd,l,c⟩,k⟩
end
def bWZ{k:Nat}(a:v0 k A):A.units+1<cLine:=Nat.lt_of_le_of_lt (Nat.add_le_add_left (by decide:1<=64) _) a.units
section
variable {X:Cx}
def pv(i:Nat)(b:X.N[i]? =some x:=by rfl)(c:Vis X.env.scope x:=by first|exact Or.inl rfl|exact Or.inr (Or.inl rfl)|exact Or.inr (Or.inr rfl))(d:(x==(AO:Str))=false:=by decide)
  (a:(x==(BA:Str))=false:=by decide):PE X (.Name x pos) (bWu i):=bJD b c d a
end
def qG{c A B:Prop} [Decidable c] (h1:c->A)(h2:¬c->B):if c then A else B:=by
 by_cases h:c
 ·rw[if_pos h];exact h1 h
 ·rw[if_neg h];exact h2 h
def xG(H H':Hp):Prop:=∀b o,H b=some o->H' b=some o
def xG.refl(H:Hp):xG H H:=λ_ _ h=>h
def xG.trans(a:xG H H1)(b:xG H1 H2):xG H H2:=λc o h=>b c o (a c o h)
def xG.seq{K:cQq}{H H':Hp}{a:Addr}{xs:List V}(e:xG H H')(h:SqL K H a xs):SqL K H' a xs:=by
 rcases h with(h|⟨o,h⟩)|h
 ·exact .inl (.inl (e _ _ h))
 ·exact .inl (.inr ⟨o,e _ _ h⟩)
 ·exact .inr h
end L2
namespace L2
open PySem
def scM{N P:List Str}{sc:Scope}(h:decide (sc.kind=.function/\sc.isCoroutine=false/\sc.isGenerator=false/\N.Nodup/\N.take P.length=P/\(∀x∈P,sc.names.lookup x=some .local\/sc.names.lookup x=some .cell)/\∀y∈sc.names,y.2≠.free)=true:=by decide +kernel):yN N P sc:=
 have z:=of_decide_eq_true h;⟨z.1,z.2.1,z.2.2.1,z.2.2.2.1,z.2.2.2.2.1,z.2.2.2.2.2.1,z.2.2.2.2.2.2⟩
end L2
namespace L2
open PySem PySem.Spec PyProof.Rows
def qT(env:Env)(l:List (Str×cJS))(cs:List (Str×Nat)):Sem (List (Str×Nat)):=do
 let mut cs:=cs
 for (name,kind)in l do
  if kind== .free then cs:=(name,<- cellOf env name)::cs
 return cs
def aWI(env:Env)(cs:List (Str×Nat)):qT env [] cs=pure cs:=by simp[qT]
def aJM(h:env.cells.lookup n=some c):qT env ((n,.free)::r) cs=qT env r ((n,c)::cs):=by
 have e:cellOf env n=pure c:=by unfold cellOf;rw[h]
 simp[qT,e]
def aZK{k:cJS}(h:k≠ .free):qT env ((n,k)::r) cs=qT env r cs:=by
 simp[qT,h]
def aJN:∀ (l:List (Str×cJS))(cs:List (Str×Nat)),(∀y∈l,y.2= .free->∃c,env.cells.lookup y.1=some c)->(∀y c,cs.lookup y=some c->env.cells.lookup y=some c)->
  ∃cl,qT env l cs=pure cl/\(∀y c,cl.lookup y=some c->env.cells.lookup y=some c)/\(∀y,(∃c,cs.lookup y=some c)->∃c,cl.lookup y=some c)/\(∀y,(y,NameKind.free)∈l->∃c,cl.lookup y=some c)
 |[],cs,_,h=>⟨cs,aWI env cs,h,λ_ z=>z,λ_ z=>by cases z⟩
 |(n,k)::r,cs,hl,h=>by
  by_cases i:k= .free
  ·subst i;obtain⟨c,o⟩:=hl (n,.free) cQG rfl;obtain⟨cl,f,g,d,j⟩:=aJN r ((n,c)::cs) (λy a=>hl y (cQB _ a)) (λy b e=>by
    rw[cZh]at e;split at e
    ·rename_i z;cases e;rw[beq_iff_eq.mp z];exact o
    ·exact h y b e)
   have m:∀y,(∃c,cs.lookup y=some c)->∃b,((n,c)::cs).lookup y=some b:=λy ⟨b,e⟩=>by
    rw[cZh];split
    ·exact⟨_,rfl⟩
    ·exact⟨b,e⟩
   refine⟨cl,by rw[aJM o];exact f,g,λy z=>d y (m y z),λy a=>?_⟩;rcases cQz.mp a with e|a
   ·cases e;exact d _ ⟨c,by rw[cZh,beq_self_eq_true]⟩
   ·exact j y a
  ·obtain⟨cl,f,g,d,j⟩:=aJN r cs (λy a=>hl y (cQB _ a)) h;refine⟨cl,by rw[aZK i];exact f,g,d,λy a=>?_⟩;rcases cQz.mp a with e|a
   ·cases e;exact absurd rfl i
   ·exact j y a
abbrev blk(X:Cx)(N:List Str)(sc:Scope)(cl:List (Str×Nat))(C:Nat)(s:cQr)(H:Hp)(ex:List Nat):Cx:=
 {X with N:=N,s₀:=s,H₀:=H,env:=compEnvC sc cl C X.env,outer:=X.stack,ex:=ex,fn:=λ_=>false,pn:= [],xe:=λ_ _=>False}
def sub(σ:St)(fr:List Nat)(o:Option V):St:=o::fr.map λi=>(σ[i]?).join
abbrev lsN(l:List (Str×cJS)):PySem.Scope:={kind:= .function,names:=l,isGenerator:=false,isCoroutine:=false,more:= [] }
def ixK{X:Cx}{K:cQq}(h:X.K=K:=by rfl):IxR X (bWD K):=by subst h;exact yK
def ixT{X:Cx}{K:cQq}(h:X.K=K:=by rfl):IxR X (bYs K):=by subst h;exact yX
structure xP(N:List Str)(osc:Scope)(x:Str)(names:List Str)(fr:List Nat)(sc:Scope):Prop where
 kind:sc.kind= .function
 nocell:∀y∈sc.names,y.2≠ .cell
 loc:∀y∈sc.names,y.2= .local->sc.names.lookup y.1=some .local
 var:sc.names.lookup x=some .local
 free:∀y∈sc.names,y.2= .free->osc.names.lookup y.1=some .cell\/osc.names.lookup y.1=some .free
 flk:∀y∈sc.names,y.2= .free->sc.names.lookup y.1=some .free
 nd:(x::names).Nodup
 len:fr.length=names.length
 taken:∀p∈names.zip fr,N[p.2]? =some p.1/\(p.1,NameKind.free)∈sc.names
def xP.from_{names:List Str}(S:xP N b x names fr sc)(j:Nat)(y:Str)(h:names[j]? =some y):∃i,fr[j]? =some i/\N[i]? =some y/\(y,NameKind.free)∈sc.names:=by
 have e:j<names.length:=(cQA.mp h).1;have a:j<fr.length:=by rw[S.len];exact e
 have z:(names.zip fr)[j]? =some (y,fr[j]):=by rw[List.getElem?_zip_eq_some];exact⟨h,cQn a⟩
 obtain⟨c,d⟩:=S.taken _ (cQH z);exact⟨fr[j],cQn a,c,d⟩
def bWK(X:Cx)(ifs:List Expr)(t:TT):Prop:=
 ∀ (pins:List (Nat×Obj))(s:cQr)(σ:St)(H:Hp)(Q:Bool->Hp->Prop),Inv X pins σ H s->t σ H Q->
  cQw (cQx X.prog X.w) X.A (forIn ifs true λc r=>if r=true then do let ok <- isTrue c X.env (eval c X.env);pure (cVf ok)else pure (cVf r)) (TP X pins σ Q) X.xe s
def bYW:TT:=λ_ H Q=>Q true H
def vC:bWK X [] bYW:=λpins s σ H Q I h=>by
 simp only[List.forIn_nil];exact cQs ⟨H,I,h⟩
def wG(d:PT X c a):bWK X [c] a:=λpins s σ H Q I h=>by
 simp only[cVg,List.forIn_nil,if_true,bind_assoc,pure_bind];refine cQo (thn (d pins s σ H Q I h) λb e z=>?_);exact cQs z
def bWB(J:It)(fr:List Nat)(tif:TT)(te:TE)(σ:St)(D:Nat)(Q:VK)(g:Hp):Prop:=
 ∃W:Nat->Nat->List V->Hp->Prop,(∃m,W 0 m [] g)/\∀i m a H,W i m a H->H D=some (.lst a)/\
  ((J.stop i H/\Q (.ref D) H)\/(J.go i H/\∀v e,J.yld i H v e->tif (sub σ fr (some v)) e λb d=>
   if b=true then te (sub σ fr (some v)) d λy f=>a.length<cQM/\f D=some (.lst a)/\∃c,c<m/\W (i+1) c (a++ [y]) (upd f D (.lst (a++ [y])))
   else ∃c,c<m/\W (i+1) c a d))
def tLc(wi:TI)(fr:List Nat)(tif:TT)(te:TE):TE:=λσ H Q=>wi σ H λJ a=>∀D,a D=none->bWB J fr tif te σ D Q (upd a D (.lst []))
def aXH{env:Env}:∀ {names:List (Str×cJS)} {y:Str},names.lookup y=some .free->
  (names.map λ(n,k)=>if(k==NameKind.free && env.scope.kind== .function && env.kindOf n==some .cell)then(n,NameKind.cell)else(n,k)).lookup y=some .cell\/
  (names.map λ(n,k)=>if(k==NameKind.free && env.scope.kind== .function && env.kindOf n==some .cell)then(n,NameKind.cell)else(n,k)).lookup y=some .free
 |[],_,h=>by simp at h
 |(n,k)::r,y,h=>by
  have b:= @aXH env r y;rw[cXa];dsimp only;cases a:y==n with
  |true=>
   rw[cZh,a]at h;cases h;split
   ·left;rw[cZh,a]
   ·right;rw[cZh,a]
  |false=>
   rw[cZh,a]at h;split
   ·rw[cZh,a];exact b h
   ·rw[cZh,a];exact b h
def aJh{env:Env}{sc:Scope}{y:Str}(h:sc.names.lookup y=some .free):(relabel sc env).names.lookup y=some .cell\/(relabel sc env).names.lookup y=some .free:=aXH h
section
variable {X:Cx}{pins:List (Nat×Obj)}{σ:St}{H:Hp}{s:cQr}
def bXR{R:Result->cQr->Prop}(I:Nat->cQr->Prop)
  (turn:∀n s,I n s->cQw (cQx prog w) A (pyNext it) (λr b=>match r with
   |none=>R (.ok .next) b
   |some v=>cQw (cQx prog w) A (cVm a it v) (λ_ e=>cQw (cQx prog w) A (assign a env v) (λ_ j=>
     cQw (cQx prog w) A (forIn ifs true λc r=>if r=true then do let ok <- isTrue c env (eval c env);pure (cVf ok)else pure (cVf r)) (λok d=>
      if ok=true then cQw (cQx prog w) A (eval elt env) (λx f=>
       cQw (cQx prog w) A (call (.builtin "list.append") [l,x]) (λ_ g=>∃m,m<n/\I m g) (λ_ _=>False) f) (λ_ _=>False) d
      else ∃m,m<n/\I m d) (λ_ _=>False) j) (λ_ _=>False) e) (λ_ _=>False) b) (λ_ _=>False) s)
  (n:Nat) (h:I n s):cZC (cQx prog w) A (.compLoop (.ListComp elt [⟨a,iter,ifs,0⟩] scope pos) 0 it l env) R s:=by
 refine codeAny_loop rfl I (λn s u=>?_) n h
 show cQw _ A ((compTurn (.ListComp elt [⟨a,iter,ifs,0⟩] scope pos) 0 it l env).onRaise (λx=>do cJV x env;theTreesLotGoes x)) _ _ s
 refine wpAny_noted ?_
 rw[compTurn_list]
 refine cQo (cJL (cQo (cXs (turn n s u) (λr b i=>?_) λ_ _ z=>z.elim)))
 cases r with
 |none=>exact cQs i
 |some v=>
  refine cQo (cXs i (λ_ e o=>?_) λ_ _ z=>z.elim);refine cQo (cXs o (λ_ j q=>cQo (cXs q (λok d k=>?_) λ_ _ z=>z.elim)) λ_ _ z=>z.elim);cases ok with
  |false=>exact cQs ⟨rfl,k⟩
  |true=>refine cQo (cQo (cXs k (λx f p=>cQo (cXs p (λ_ g t=>?_) λ_ _ z=>z.elim)) λ_ _ z=>z.elim));exact cQs (cQs ⟨rfl,t⟩)
def bJw{names:List Str}{E:cQp->cQr->Prop}(S:xP X.N X.env.scope x names fr sc)(hc:X.calm=true)
  (d:∀y c,cl.lookup y=some c->X.env.cells.lookup y=some c) (a1:∀y,(y,NameKind.free)∈sc.names->∃c,cl.lookup y=some c)
  (b7:∀cl C s H ex,bWK (blk X (x::names) sc cl C s H ex) ifs tif) (he:∀cl C s H ex,PE (blk X (x::names) sc cl C s H ex) elt te)
  {tn:Nat->Heap->Prop} {Q:VK} (I:Inv X pins σ H s) (T:bK3 X.prog X.w X.K (.Name x px) J f it tn) (st:tn 0 s.heap) (hf:∀b∈f,bJk X pins H b)
  (q:∀D,H D=none->bWB J fr tif te σ D Q (upd H D (.lst []))) {RR:cQp->Nat->Result->cQr->Prop}
  (c6:∀D C B g,Inv X pins σ g B->g C=none->C≠X.env.locals->X.s₀.heap.objs.size<=C->(∀y c,X.env.cells.lookup y=some c->c≠C)->(∀p∈X.pn++pins,p.1≠C)->(∃m,B.heap.Ns C m)->Q (.ref D) g->RR (.ref D) C (.ok .next) B):
  cQw (cQx X.prog X.w) X.A (newList []) (λa6 s₃=>cQw (cQx X.prog X.w) X.A (newFunctionEnv sc X.env.globals cl [] X.env.qual none .none (some X.env)) (λa0 s₄=>
   cZC (cQx X.prog X.w) X.A (.compStart (.ListComp elt [⟨.Name x px,iter,ifs,0⟩] sc pos) 0 (.ref it) a6 {a0 with scope:=relabel sc X.env}) (RR a6 a0.locals) s₄) E s₃) E s:=by
 refine cXG (wpAny_newFunctionEnv S.nocell (by intro y hy;simp at hy) (λt a5 a4=>?_) S.kind)
 dsimp only at a5 a4 ⊢
 have l:Inv X pins σ (upd H s.heap.objs.size (.lst [])) {s with heap:=s.heap.push {cls:= .type AB,dict:=none,data:= .seq ([]:List cQp).toArray} }:=I.lnew (t':=s.toks) (ys:= []) (its:= []) .nil (cXo _)
 have a8:=I.fresh
 obtain⟨W,⟨m0,w0⟩,turn⟩:=q s.heap.objs.size a8
 have Y:∀b∈f,∃o,s.heap.get? b=some o/\∀v,o.data≠ .cell v:=T.obj 0 _ st
 have hG:(s.heap.push {cls:= .type AB,dict:=none,data:= .seq ([]:List cQp).toArray}).objs.size=s.heap.objs.size+1:=cX0 ..
 have kG:∀b o,s.heap.get? b=some o->(s.heap.push {cls:= .type AB,dict:=none,data:= .seq ([]:List cQp).toArray}).get? b=some o:=λb o e=>cQu _ e
 generalize d0:s.heap.push {cls:= .type AB,dict:=none,data:= .seq ([]:List cQp).toArray}=G at a5 a4 l hG kG ⊢
 generalize c3:s.heap.objs.size=D at a8 turn w0 hG l ⊢
 have keep:∀b o,G.get? b=some o->t.get? b=some o:=λb o e=>a4.extBut b o (cQP (cQC e)) (cQu _ e)
 have b1:∀b∈f,b≠G.objs.size:=λb a=>by obtain⟨o,e,_⟩:=Y b a;exact cQP (cQC (kG b o e))
 have a2:∀y c,X.env.cells.lookup y=some c->c≠G.objs.size:=λy c e=>by obtain⟨v,z⟩:=l.cell y c e;exact cQP z.lt
 have c0:(blk X (x::names) sc cl G.objs.size {s with heap:=G} (upd H D (.lst [])) f).Ok:=by
  refine⟨I.ok.mod,?_,I.ok.glob,I.ok.blt,cQv _,?_,?_,?_,I.ok.hd,I.ok.frames,.inl rfl,?_,l.bs,cQZ I.ok.bsz l.sz,?_,?_,l.stack,l.stkFree⟩
  ·show(relabel sc X.env).kind= .function;exact S.kind
  ·exact λy z c h1 h2=>I.ok.inj y z c (d y c h1) (d z c h2)
  ·intro y hy;have c9:(relabel sc X.env).names.lookup y=some .cell\/(relabel sc X.env).names.lookup y=some .free:=hy;have R:(y,NameKind.cell)∈(relabel sc X.env).names\/(y,NameKind.free)∈(relabel sc X.env).names:=c9.imp cXV cXV;have c7:(y,NameKind.free)∈sc.names:=by
    rcases R with R|R
    ·obtain⟨⟨n,k⟩,Z,e⟩:=cXt.mp (show(y,NameKind.cell)∈sc.names.map _ from R);dsimp only at e;split at e
     ·rename_i O;cases e;have:k= .free:=by
       simp only[Bool.and_eq_true,beq_iff_eq]at O;exact O.1.1
      rw[this]at Z;exact Z
     ·cases e;exact absurd rfl (S.nocell _ Z)
    ·obtain⟨⟨n,k⟩,Z,e⟩:=cXt.mp (show(y,NameKind.free)∈sc.names.map _ from R);dsimp only at e;split at e
     ·cases e
     ·cases e;exact Z
   exact a1 y c7
  ·exact λy c h _=>by cases h
  ·intro b a;exact⟨b1 b a,λy c e=>(hf b a).2.2.2.2.1 y c (d y c e)⟩
  ·intro b o e a;obtain⟨f0,f1,f2,f3,f4,f5⟩:=hf b a;rcases f3 with z|z
   ·exact I.ok.noex b o e z
   ·exact absurd (cQR (cQC e) (cQZ I.ok.bsz z)) (cXD _)
  ·intro b a z;obtain⟨f0,f1,f2,f3,f4,f5⟩:=hf b a;rcases cQz.mp (I.stkSub b z)with z|z
   ·exact f1 z
   ·exact f2 z
 have IY:Inv (blk X (x::names) sc cl G.objs.size {s with heap:=G} (upd H D (.lst [])) f) [] (sub σ fr none) (upd H D (.lst [])) {s with heap:=t,toks:=s.toks+([]:List (Str×cQp)).length}:=by
  refine⟨c0,Cd,I.bare,Un.kept keep,⟨_,a5,?_⟩,?_,l.hok.fresh (cQv _),λy c e=>l.freeC y c (d y c e),λp hp=>absurd (show p∈([]:List (Nat×Obj))from hp) (by simp),l.hok.kept keep,?_⟩
  ·intro i y v h1 h2 h3;cases i with
   |zero=>cases h2
   |succ j=>
    have b9:names[j]? =some y:=h1;obtain⟨i',e1,e2,e3⟩:=S.from_ j y b9;have c1:σ[i']? =some (some v):=by
     have z:(fr.map λi=>(σ[i]?).join)[j]? =some (some v):=h2;rw[cQJ,e1]at z;have P:(σ[i']?).join=some v:=cQI z;cases q:σ[i']? with
     |none=>rw[q]at P;cases P
     |some o=>rw[q]at P;rw[show o=some v from P]
    obtain⟨m,Z,hl⟩:=l.loc;have a9:Vis X.env.scope y:= .inr (S.free _ e3 rfl);obtain⟨u,ru,lk⟩:=hl i' y v e2 c1 a9;refine⟨u,ru,.inr ⟨?_,?_⟩⟩
    ·exact aJh (S.flk _ e3 rfl)
    ·rcases lk with⟨k,_⟩|⟨k,c,e,z⟩
     ·rcases S.free _ e3 rfl with z|z
      ·have P:X.env.kindOf y=some .cell:=z;rw[k]at P;cases P
      ·have P:X.env.kindOf y=some .free:=z;rw[k]at P;cases P
     ·obtain⟨c',e'⟩:=a1 y e3;have:=d y c' e';rw[e]at this;cases this;exact⟨c,e',z.keeps keep⟩
  ·intro y c e;obtain⟨v,z⟩:=l.cell y c (d y c e);exact⟨v,z.keeps keep⟩
  ·show(sub σ fr none).length=(x::names).length;simp[sub,S.len]
 have b4:∀ {o:Option V} {g:Hp} {B:cQr} {pl:List (Nat×Obj)},Inv (blk X (x::names) sc cl G.objs.size {s with heap:=G} (upd H D (.lst [])) f) pl (sub σ fr o) g B->Inv X pins σ g B:=λ{o g B pl} I'=>
  l.call' (ch:=f) I'.os I'.base I'.hok I'.bare λb a=>by obtain⟨f0,f1,f2,f3,f4,f5⟩:=hf b a;exact⟨f3,f1,f4,f5⟩
 have M:∀ {g:Hp},(∀b∈f,g b=none)->∀b∈f,bJk (blk X (x::names) sc cl G.objs.size {s with heap:=G} (upd H D (.lst [])) f) [] g b:=λ{g} Z b a=>by
  obtain⟨f0,f1,f2,f3,f4,f5⟩:=hf b a;refine⟨Z b a,b1 b a,λz=>?_,.inl a,λy c e=>f4 y c (d y c e),λp hp=>absurd (show p∈([]:List (Nat×Obj))from hp) (by simp)⟩;rcases cQz.mp (I.stkSub b z)with z|z
  ·exact f1 z
  ·exact f2 z
 have c4:∀b∈f,upd H D (.lst []) b=none:=λb a=>by
  obtain⟨o,e,_⟩:=Y b a;have b6:b≠D:=by rw[<- c3];exact cQP (cQC e)
  rw[yJ b6];exact(hf b a).1
 have b2:tn 0 t:=T.keep 0 _ _ st λb a o e=>keep b o (kG b o e)
 have b5:cZC (cQx X.prog X.w) X.A (.compLoop (.ListComp elt [⟨.Name x px,iter,ifs,0⟩] sc pos) 0 (.ref it) (.ref D) (compEnvC sc cl G.objs.size X.env)) (RR (.ref D) G.objs.size) {s with heap:=t,toks:=s.toks+([]:List (Str×cQp)).length}:=by
  refine bXR (λn B=>L2.Ez4 λi F o g=>Inv (blk X (x::names) sc cl G.objs.size {s with heap:=G} (upd H D (.lst [])) f) [] (sub σ fr o) g B/\tn i B.heap/\(∀b∈f,g b=none)/\W i n F g) ?_ m0
   ⟨0,[],none,_,IY,b2,c4,w0⟩
  rintro n B ⟨i,F,o,g,I',b0,b3,w'⟩;obtain⟨hD,c5⟩:=turn i n F g w';rcases c5 with⟨a7,qn⟩|⟨go,step⟩
  ·refine thn (T.done (blk X (x::names) sc cl G.objs.size {s with heap:=G} (upd H D (.lst [])) f) rfl rfl rfl hc i [] B _ g (λ_ _=>False) I' (M b3) b0 a7) λr s1 ⟨hr,I1⟩=>?_;subst hr;obtain⟨mC,c8,_⟩:=I1.loc;exact c6 D G.objs.size s1 g (b4 I1) I1.free (cZ7 l.lt) l.sz a2 (λp hp=>cQP (cQC (l.pin p hp).1)) ⟨mC,c8⟩ qn
  ·refine thn (T.item (blk X (x::names) sc cl G.objs.size {s with heap:=G} (upd H D (.lst [])) f) rfl rfl rfl hc i [] B _ g (λ_ _=>False) I' (M b3) b0 go) λr s1 ⟨u,hr,h1⟩=>?_;subst hr;refine thn h1 λ_ s2 ⟨v,H2,I2,rv,yl,st2,fr2⟩=>?_;have b8:=I2.pinned (M fr2) (T.obj _ _ st2);have pg:PG (blk X (x::names) sc cl G.objs.size {s with heap:=G} (upd H D (.lst [])) f) (.Name x px) (yW 0):=xF S.nd rfl (.inl (lookup_relabel_local S.var)) (.inr (lookup_relabel_local S.var));have L:∀ {o:Option V} {H3:Hp} {s3:cQr},Inv (blk X (x::names) sc cl G.objs.size {s with heap:=G} (upd H D (.lst [])) f) ([]++aJg f s2.heap) (sub σ fr o) H3 s3->tn (i+1) s3.heap/\∀b∈f,H3 b=none:=λ{o H3 s3} J3=>by
    refine⟨T.keep _ _ _ st2 λb a ob e=>(J3.pin (b,ob) (cQN _ (cQN _ (jP a e)))).1,λb a=>?_⟩;obtain⟨ob,e,_⟩:=T.obj _ _ st2 b a;exact(J3.pin (b,ob) (cQN _ (cQN _ (jP a e)))).2.1
   refine thn (pg _ s2 _ H2 v u (λσ' c2=>σ'=sub σ fr (some v)/\c2=H2) b8 rv ⟨rfl,rfl⟩) λ_ s3 ⟨σ3,H3,I3',e3,e3'⟩=>?_;subst e3;subst e3';refine thn (b7 cl G.objs.size {s with heap:=G} (upd H D (.lst [])) f _ s3 _ _ _ I3' (step v _ yl)) λb s4 ⟨H4,I4,q4⟩=>?_;cases b with
   |false=>have a3:∃U,U<n/\W (i+1) U F H4:=q4;obtain⟨U,R,w4⟩:=a3;obtain⟨z1,z2⟩:=L I4;show ∃m,m<n/\_;exact⟨U,R,i+1,F,some v,H4,I4.unpinned,z1,z2,w4⟩
   |true=>have a3:te (sub σ fr (some v)) H4 λy H5=>F.length<cQM/\H5 D=some (.lst F)/\∃U,U<n/\W (i+1) U (F++ [y]) (upd H5 D (.lst (F++ [y]))):=q4;show cQw _ _ _ _ _ _;refine thn (he cl G.objs.size {s with heap:=G} (upd H D (.lst [])) f _ s4 _ _ _ I4 a3) λue s5 ⟨y,H5,I5,r5,hl,hD5,U,R,w5⟩=>?_;refine thn (xL _ s5 _ H5 (.ref D) [y] (.ref D) [ue] (λ_ H6=>H6=upd H5 D (.lst (F++ [y]))) I5 rfl (.cons r5 .nil) ⟨D,F,y,Cd,Cd,hD5,hl,rfl⟩) λ_ s6 ⟨_,H6,I6,_,e6⟩=>?_;subst e6;obtain⟨z1,z2⟩:=L I6;exact⟨U,R,i+1,F++ [y],some v,_,I6.unpinned,z1,z2,w5⟩
 exact codeAny_compStart_list b5 (T.self _ 0 _ _ _ b2 b5)
def aJV{names:List Str}(S:xP X.N X.env.scope x names fr sc)(I:Inv X pins σ H s): ∃cl,closureFor sc X.env=pure cl/\(∀y c,cl.lookup y=some c->X.env.cells.lookup y=some c)/\(∀y,(y,NameKind.free)∈sc.names->∃c,cl.lookup y=some c):=by
 obtain⟨cl,d,b,_,g⟩:=aJN (env:=X.env) sc.names [] (λy a f=>I.ok.has y.1 (S.free y a f)) (λy c e=>by simp at e);exact⟨cl,d,b,g⟩
end
section
variable {X:Cx}{elt iter:Expr}{x:Str}{px:Pos}{ifs:List Expr}{sc:Scope}{pos:Pos}{names:List Str}{fr:List Nat}{wi:TI}{tif:TT}{te:TE}
def aXr(S:xP X.N X.env.scope x names fr sc)(y:X.calm=true)(i:PI X (.Name x px) iter wi)(f:∀cl C s H ex,bWK (blk X (x::names) sc cl C s H ex) ifs tif) (k:∀cl C s H ex,PE (blk X (x::names) sc cl C s H ex) elt te) (r:∀v,cVQ iter X.env v=pure v:=by intro _;rfl):PE X (.ListComp elt [⟨.Name x px,iter,ifs,0⟩] sc pos) (tLc wi fr tif te):=by
 intro pins s σ H Q I h;obtain⟨cl,P,O,z⟩:=aJV S I;rw[eval_ListComp];refine cVY (use:=none) rfl r P S.kind S.loc (thn (i pins s σ H _ I h) λv W d=>thn d λK R g=>?_);obtain⟨V,U,tn,J,Y,rfl,l,T,B,p,q⟩:=g;refine bJw (RR:=λa C=>compPost (cQx X.prog X.w) X.A X.xe none (EP X pins σ Q) a C) S y O z f k l T B p q ?_;intro D C F n t d g j u L c E;obtain⟨m,c⟩:=c;exact⟨m,c,λZ G=>⟨.ref D,n,t.turned (t':=F.toks) (λb o M e=>(G.2 b M).trans e) d (cQ6 (cQ6 g)) (.inr j) u L,Cd,E⟩⟩
def aXs(S:xP X.N X.env.scope x names fr sc)(U:X.calm=true)(Y:X.N.Nodup)(hy:X.N[i]? =some y)(hl:X.env.scope.names.lookup y=some .local)(E:PI X (.Name x px) iter wi)
  (t:∀cl C s H ex,bWK (blk X (x::names) sc cl C s H ex) ifs tif) (G:∀cl C s H ex,PE (blk X (x::names) sc cl C s H ex) elt te)
  (z:swapsWith (.ListComp elt [⟨.Name x px,iter,ifs,0⟩] sc pos) (some (.Name y d)) c.line X.env=pure true:=by rfl) (P:∀v,cVQ iter X.env v=pure v:=by intro _;rfl):
  PS X (.Assign [.Name y d] (.ListComp elt [⟨.Name x px,iter,ifs,0⟩] sc pos) c) (bK8 (tLc wi fr tif te) (yW i)):=by
 intro pins s σ H D I h
 obtain⟨cl,c1,c2,V⟩:=aJV S I
 rw[exec_Assign_Name_used _ _ _ _ z]
 refine cQo (cJL (cQo ?_))
 show cQw _ X.A (do let _ <- comprehension (.ListComp elt [⟨.Name x px,iter,ifs,0⟩] sc pos) sc X.env _ (newList []) false (eval iter X.env) (some (assign (.Name y d) X.env))) _ _ s
 refine cQo (cXs (cVY (use:=some (assign (.Name y d) X.env)) (Q:=λ_ f=>SP X pins D .next f) rfl P c1 S.kind S.loc (thn (E pins s σ H _ I h) λv s1 l=>thn l λZ s2 g=>?_)) (λ_ f r=>cQs (cQs r)) λ_ _ e=>e)
 obtain⟨it,fp,tn,J,H1,rfl,K,T,W,O,q⟩:=g
 refine bJw (RR:=λj C=>compPost (cQx X.prog X.w) X.A X.xe (some (assign (.Name y d) X.env)) (λ_ f=>SP X pins D .next f) j C) S U c2 V t G K T W O q ?_
 intro L C f M R l g F B h5 k r
 obtain⟨m,k⟩:=k
 show cQw _ X.A (assign (.Name y d) X.env (.ref L)) _ _ f
 refine wpAny_assign_Name (aXc R Y hy (.inl hl) (v:= .ref L) rfl (λs'' I'' ⟨a,sb,u⟩=>?_) (.inr hl))
 have p:C≠a:=by
  rcases u with rfl|u
  ·exact g
  ·exact cQ6 (B y a u)
 exact⟨m,k.sameBut sb p,λh' n=>⟨_,M,I''.turned (t':=s''.toks) (λb o hb e=>(n.2 b hb).trans e) l g (.inr F) B h5,r⟩⟩
end
def aXC{K:cQq}{a:Nat}{xs:List V}{fr:List Nat}{tif:TT}{te:TE}{σ:St}{D:Nat}{Q:VK}{H:Hp}(p:V->Bool)(f:V->V)(hl:SqL K H a xs)(r:H D=none)(hz:xs.length<=cQM) (w:∀v∈xs,∀ (c:Hp)(R:Bool->Hp->Prop),(∀b,b≠D->c b=H b)->R (p v) c->tif (sub σ fr (some v)) c R) (A:∀v∈xs,p v=true->∀ (c:Hp)(R:VK),(∀b,b≠D->c b=H b)->R (f v) c->te (sub σ fr (some v)) c R) (x:Q (.ref D) (upd H D (.lst ((xs.filter p).map f)))):bWB (Itl K a) fr tif te σ D Q (upd H D (.lst [])):=by
 have e:∀g,SqL K (upd H D (.lst g)) a xs:=λg=>by
  rcases hl with(h|⟨o,h⟩)|h
  ·exact .inl (.inl (by rw[yJ (yI h r)];exact h))
  ·exact .inl (.inr ⟨o,by rw[yJ (yI h r)];exact h⟩)
  ·exact .inr h
 refine⟨λi m g c=>m=xs.length - i/\i<=xs.length/\g=((xs.take i).filter p).map f/\c=upd H D (.lst g),⟨xs.length,by simp,cXo _,by simp,rfl⟩,?_⟩;rintro i m g c ⟨rfl,B,rfl,rfl⟩;refine⟨yB,?_⟩;by_cases d:i<xs.length
 ·refine .inr ⟨⟨xs,xs[i],e _,cQn d⟩,λv C t=>?_⟩;obtain⟨rfl,y⟩:=t;have s:xs[i]? =some v:=y xs (e _);have k:v∈xs:=cQH s;have j:xs.take (i+1)=xs.take i++ [v]:=by rw[cXA,s];rfl
  have l:∀b,b≠D->upd H D (.lst (((xs.take i).filter p).map f)) b=H b:=λb z=>yJ z;have n:(((xs.take i).filter p).map f).length<cQM:=by rw[cQt];have u:=cXn p (xs.take i);rw[cXS]at u;omega
  refine w v k _ _ l ?_;cases q:p v with
  |false=>show ∃E,_;refine⟨xs.length - (i+1),by omega,Cd,d,?_,rfl⟩;rw[j,cXC,cX8 (by rw[q];decide)];simp
  |true=>show te _ _ _;refine A v k q _ _ l ⟨n,yB,xs.length - (i+1),by omega,Cd,d,?_,by rw[jG]⟩;rw[j,cXC,cX9 q];simp
 ·obtain rfl:i=xs.length:=by omega
  refine .inl ⟨⟨xs,e _,cQv _⟩,?_⟩;rw[cXw];exact x
end L2
namespace L2
open PySem
def lcM{N:List Str}{osc:Scope}{x:Str}{names:List Str}{fr:List Nat}{sc:Scope}(h:decide (sc.kind=.function/\(∀y∈sc.names,y.2≠.cell)/\(∀y∈sc.names,y.2=.local->sc.names.lookup y.1=some .local)/\sc.names.lookup x=some .local/\(∀y∈sc.names,y.2=.free->osc.names.lookup y.1=some .cell\/osc.names.lookup y.1=some .free)/\(∀y∈sc.names,y.2=.free->sc.names.lookup y.1=some .free)/\(x::names).Nodup/\fr.length=names.length/\∀p∈names.zip fr,N[p.2]?=some p.1/\(p.1,NameKind.free)∈sc.names)=true:=by decide +kernel):xP N osc x names fr sc:=
 have z:=of_decide_eq_true h;⟨z.1,z.2.1,z.2.2.1,z.2.2.2.1,z.2.2.2.2.1,z.2.2.2.2.2.1,z.2.2.2.2.2.2.1,z.2.2.2.2.2.2.2.1,z.2.2.2.2.2.2.2.2⟩
end L2
namespace Stb
open PySem
def bXi(xs:Array Nat):Prop:=∀i j:Nat,i<j->j<xs.size->xs.getD i 0<xs.getD j 0
def bVa{xs:Array Nat}{i:Nat}(h:i<xs.size)(d e:Nat):xs.getD i d=xs.getD i e:=by
 simp[cZW,h]
def aJT{xs:Array Nat}{j:Nat}(f:bXi xs):∀ (a c b:Nat),b<=xs.size->c<=b->b - c<=a->
  (∀k,k<c->xs.getD k 0<j)->(∀k,b<=k->k<xs.size->j<=xs.getD k 0)->
  (∀k,k<cJp xs j a c b->xs.getD k 0<j)/\(∀k,cJp xs j a c b<=k->k<xs.size->j<=xs.getD k 0)/\cJp xs j a c b<=xs.size
 |0,c,b,h1,h2,h3,h4,h5=>by
  have e:c=b:=by omega
  subst e;unfold cJp;exact⟨h4,h5,h1⟩
 |a+1,c,b,h1,h2,h3,h4,h5=>by
  unfold cJp;by_cases hl:c<b
  ·rw[if_pos hl];dsimp only;have i:(c+b) / 2<xs.size:=by omega
   have e:=bVa i j 0;by_cases h:xs.getD ((c+b) / 2) j<j
   ·rw[if_pos h];refine aJT f a _ _ h1 (by omega) (by omega) (λk l=>?_) h5;by_cases d:k=(c+b) / 2
    ·subst d;omega
    ·have:=f k ((c+b) / 2) (by omega) i;omega
   ·rw[if_neg h];refine aJT f a _ _ (by omega) (by omega) (by omega) h4 (λk l d=>?_);by_cases g:k=(c+b) / 2
    ·subst g;omega
    ·have:=f ((c+b) / 2) k (by omega) d;omega
  ·rw[if_neg hl];have e:c=b:=by omega
   subst e;exact⟨h4,h5,h1⟩
def jI(a:bXi xs)(j:Nat): (∀k,k<cXq xs j->xs.getD k 0<j)/\(∀k,cXq xs j<=k->k<xs.size->j<=xs.getD k 0)/\cXq xs j<=xs.size:=by
 unfold cXq;exact aJT a xs.size 0 xs.size (cQv _) (cXo _) (by omega) (λk b=>absurd b (cX3 _)) (λk c d=>by omega)
def aWB(c:bXi xs)(f:i<xs.size):cXq xs (xs.getD i 0+1)=i+1:=by
 obtain⟨d,e,g⟩:=jI c (xs.getD i 0+1);have a:i<cXq xs (xs.getD i 0+1):=by apply Nat.lt_of_not_le;intro h;have:=e i h f;omega
 have b:¬i+1<cXq xs (xs.getD i 0+1):=λh=>by have q:=d (i+1) h;have:=c i (i+1) (by omega) (by omega);omega
 omega
def aWC(b:bXi xs):cXq xs 0=0:=by
 obtain⟨a,c,d⟩:=jI b 0;apply Nat.le_antisymm _ (cXo _);apply Nat.le_of_not_lt;intro h;have:=a 0 h;omega
def aXZ{α:Type}(xs:Array α)(p:Nat)(x:α)(h:p<=xs.size):(cJq xs p x).size=xs.size+1:=by
 unfold cJq;simp;omega
def J7{p x k:Nat}(h:p<=xs.size):(cJq xs p x).getD k 0=if k<p then xs.getD k 0 else if k=p then x else xs.getD (k - 1) 0:=by
 unfold cJq;have f:(xs.extract 0 p).size=p:=by simp;omega
 have d:((xs.extract 0 p).push x).size=p+1:=by rw[Array.size_push,f]
 simp only[Array.getD_eq_getD_getElem?];by_cases b:k<p
 ·rw[if_pos b,cVG (by omega),Array.getElem?_push,if_neg (by omega),cVv (by omega)];have a:k<xs.size:=by omega
  simp[a]
 ·rw[if_neg b];by_cases c:k=p
  ·subst c;rw[if_pos rfl,cVG (by omega),Array.getElem?_push,if_pos (by omega)];rfl
  ·rw[if_neg c,Array.getElem?_append_right (by omega),d];by_cases g:k - (p+1)<xs.size - p
   ·rw[cVv (by omega)];have a:k - 1<xs.size:=by omega
    have e:p+(k - (p+1))=k - 1:=by omega
    simp[a,e]
   ·rw[cJm (by simp;omega),cJm (by omega)]
def aVh(d:bXi xs)(h:∀k,k<xs.size->xs.getD k 0≠j):bXi (cJq xs (cXq xs j) j):=by
 obtain⟨b1,f,c⟩:=jI d j;intro i k e l;rw[aXZ _ _ _ c]at l;rw[J7 c,J7 c];by_cases b:i<cXq xs j
 ·rw[if_pos b];have v:=b1 i b;by_cases g:k<cXq xs j
  ·rw[if_pos g];exact d i k e (by omega)
  ·rw[if_neg g];by_cases a:k=cXq xs j
   ·rw[if_pos a];exact v
   ·rw[if_neg a];have:=f (k - 1) (by omega) (by omega);omega
 ·rw[if_neg b,if_neg (show ¬k<cXq xs j by omega),if_neg (show ¬k=cXq xs j by omega)];by_cases a:i=cXq xs j
  ·rw[if_pos a];have:=f (k - 1) (by omega) (by omega);have:=h (k - 1) (by omega);omega
  ·rw[if_neg a];exact d (i - 1) (k - 1) (by omega) (by omega)
def aKq(n:Nat):bXi (Array.range n):=by
 intro i j b a;rw[Array.size_range]at a;simp[cZW,a,Nat.lt_trans b a,b]
def bQe{l:List Nat}(h:l.Pairwise (·<·)):bXi l.toArray:=by
 intro i j b d;have a:j<l.length:=by simpa using d
 have c:i<l.length:=Nat.lt_trans b a;have:=cZY.mp h i j c a b;simp[cZW,a,c,this]
structure Tab(b:Bool)(t:cZe):Prop where
 rise:bXi t.place
 dum:t.dummies= #[]
 led:b=true\/t.led=true
def aYj(j:Nat):SetTable.has #[] j=false:=by
 unfold SetTable.has;simp
def bZZ{t:cZe}(T:Tab b t)(h:t.slot j= .empty):∀k,k<t.place.size->t.place.getD k 0≠j:=by
 intro k a e;obtain⟨b1,f,g⟩:=jI T.rise j;have c:cXq t.place j=k:=by
  have l:¬k<cXq t.place j:=λh=>by have:=b1 k h;omega
  have i:¬cXq t.place j<k:=λh=>by have:=f _ (cQv _) (by omega);have:=T.rise _ k h a;omega
  omega
 unfold SetTable.slot at h;dsimp only at h;rw[c]at h;have d:t.place[k]? =some j:=by
  rw[cXT a];have:t.place.getD k 0=t.place[k]:=by simp[cZW,a]
  rw[<- this,e]
 rw[d]at h;simp at h
def bZY{t:cZe}(T:Tab b t)(j:Nat):t.slot j≠ .dummy:=by
 unfold SetTable.slot;dsimp only;rw[T.dum,aYj];split<;> simp
def aXG{t:cZe}(T:Tab b t)(f:Nat->Int)(h:Int):∀ (a:Nat)(p:SetTable.Probe),p.dummy=none->∀j d,cVO t f h a p=some (.empty j d)->t.slot j= .empty/\d=none
 |0,p,_,j,d,e=>by unfold cVO at e;cases e
 |a+1,p,hp,j,d,e=>by
  have c:(t.advance p).dummy=none:=by
   unfold SetTable.advance;split
   ·exact hp
   ·exact hp
  unfold cVO at e;cases q:t.slot p.j with
  |empty=>rw[q]at e;simp only[cVM,SetTable.Met.empty.injEq]at e;obtain⟨rfl,rfl⟩:=e;exact⟨q,hp⟩
  |dummy=>exact absurd q (bZY T _)
  |live i=>
   rw[q]at e;dsimp only at e;split at e
   ·cases e
   ·exact aXG T f h a _ c j d e
def uL{t:cZe}(T:Tab b t)(n:Nat):Tab b (t.standIn n):=⟨aKq n,Cd,T.led⟩
def aWW{t:cZe}(T:Tab b t)(f:Array (Int×cQp))(h:Int)(x:cQp):Tab b (layNew t f h x).2.1:=by
 unfold layNew;cases q:t.freeSlot h with
 |none=>exact uL T _
 |some g=>
  obtain⟨a,m⟩:=g;dsimp only;have l:t.slot a= .empty:=by
   unfold SetTable.freeSlot at q;split at q
   ·rename_i j d e;simp only[cVM,Prod.mk.injEq]at q;obtain⟨k,i⟩:=aXG T _ h _ _ rfl j d e;rw[<- q.1,i];exact k
   ·cases q
  have c:Tab b (t.put a).1:=by unfold SetTable.put;dsimp only;refine⟨aVh T.rise (bZZ T l),?_,T.led⟩;rw[T.dum,aYj];rfl
  unfold SetTable.orStandIn;split
  ·exact c
  ·exact uL c _
def aJi{b:Bool}{t:cZe}(T:Tab b t)(h:Array (Int×cQp))(c:Nat):Tab b (relayAll t h c).2.1:=by
 unfold relayAll;cases q:t.relaid (h.map (·.1)) c with
 |none=>exact uL T _
 |some r=>
  obtain⟨o,g⟩:=r;dsimp only;have m:Tab b o:=by
   unfold SetTable.relaid SetTable.laid at q;simp only[Option.bind_eq_bind,Option.bind_eq_some_iff]at q;obtain⟨d,_,e⟩:=q;simp only[Option.pure_def,cVM,Prod.mk.injEq]at e;obtain⟨rfl,_⟩:=e;refine⟨bQe ?_,Cd,T.led⟩;rw[List.map_filterMap];have sub:∀ (f:Nat->Option Nat),(∀j k,f j=some k->k=j)->∀l:List Nat,List.Sublist (l.filterMap f) l:=by
    intro f n l;induction l with
    |nil=>exact List.Sublist.slnil
    |cons a r i=>
     rw[cJc];cases e:f a with
     |none=>exact i.cons a
     |some k=>rw[n a k e];exact i.cons_cons a
   refine List.Pairwise.sublist (sub _ ?_ _) List.pairwise_lt_range;intro j k e;cases q:d.getD j none with
   |none=>rw[q]at e;cases e
   |some z=>rw[q]at e;simpa using e.symm
  split
  ·exact m
  ·exact uL T _
def bXa(h:b=true\/a=true):Tab b (.fresh 0 0 a):=⟨λi j d c=>absurd c (cX3 _),Cd,h⟩
end Stb
set_option tactic.hygienic false
namespace Stb
open PySem
def Ent(b:List Int)(a:List (Int×cQp)):Prop:=cXk (λ(k:Int)(e:Int×cQp)=>e.1=hashInt k/\∃t,e.2=Value.int k t) b a
def Ent.mem_l:∀ {c:List Int} {b:List (Int×cQp)},Ent c b->∀k∈c,∃e∈b,∃t,e.2=Value.int k t
 |_,_,.nil,k,a=>by cases a
 |_,_,.cons r t,k,a=>by
  rcases cQz.mp a with rfl|a
  ·exact⟨_,cQG ..,r.2⟩
  ·obtain⟨e,d,z⟩:=Ent.mem_l t k a;exact⟨e,cQB _ d,z⟩
def Ent.mem_r:∀ {c:List Int} {b:List (Int×cQp)},Ent c b->∀e∈b,∃k∈c,e.1=hashInt k/\∃t,e.2=Value.int k t
 |_,_,.nil,e,a=>by cases a
 |_,_,.cons r t,e,a=>by
  rcases cQz.mp a with rfl|a
  ·exact⟨_,cQG ..,r⟩
  ·obtain⟨k,d,z⟩:=Ent.mem_r t e a;exact⟨k,cQB _ d,z⟩
def Ent.elems(h:Ent d a):ElemsOf (intKind prog w) a:=λe f=>by
 obtain⟨k,_,c,t,b⟩:=h.mem_r e f;refine⟨⟨k,?_,c⟩,?_⟩
 ·rw[b];exact intKind_is prog w k t
 ·rw[b];rfl
def Ent.length(h:Ent b a):b.length=a.length:=cZS h
def Ent.append:∀ {b ls:List Int} {a fs:List (Int×cQp)},Ent b a->Ent ls fs->Ent (b++ls) (a++fs)
 |_,_,_,_,.nil,s=>s
 |_,_,_,_,.cons r t,s=> .cons r (Ent.append t s)
def Ent.perm{g fs:List (Int×cQp)}(p:cVB g fs):∀ {a:List Int},Ent a g->∃b,Ent b fs/\b.Perm a:=by
 induction p with
 |nil=>exact λ{a} h=>⟨a,h,.rfl⟩
 |cons x p i=>
  intro a h;cases h with
  |cons r t=>obtain⟨b,d,f⟩:=i t;exact⟨_::b,.cons r d,f.cons _⟩
 |swap x y l=>
  intro a h;cases h with
  |cons r t=>
   cases t with
   |cons n k=>exact⟨_::_::_,.cons n (.cons r k),.swap ..⟩
 |trans p q e c=>intro a h;obtain⟨b,d,f⟩:=e h;obtain⟨o,j,m⟩:=c d;exact⟨o,j,m.trans f⟩
abbrev aJL(w:cQ1):Bool:=w.params.followText "set-order"
def aXi(w:cQ1)(h:Heap)(a:Nat)(d:List Int):Prop:=
 ∃o b e t c,h.get? a=some o/\o.ExactSet/\o.data= .set b e t/\Ent c b.toList/\c.Perm d/\d.Nodup/\b.size<cJW/\t.fits b.size=true/\Tab (aJL w) t
def aXi.at(x:aXi w h a b)(k:∀o,h.get? a=some o->h'.get? a=some o):aXi w h' a b:=
 let ⟨o,es,ep,t,ls,ho,r⟩:=x;⟨o,es,ep,t,ls,k o ho,r⟩
def aXi.there(x:aXi w h a b):∃o,h.get? a=some o:=
 let ⟨o,es,ep,t,ls,ho,r⟩:=x;⟨o,ho⟩
def aXi.type{w:cQ1}{s:cQr}{a:Nat}{b:List Int}(x:aXi w s.heap a b):s.TypeIs (.ref a) B6:=
 let ⟨o,es,ep,t,ls,ho,he,r⟩:=x;⟨o,ho,he.1⟩
def bQa{h:Heap}{a:Nat}{o:Obj}{e:Array (Int×cQp)}{d:Nat}{t:cZe}(f:h.get? a=some o)(c:o.data= .set e d t)(b:Array (Int×cQp))(t':cZe): (h.update a (Obj.putSet b t')).get? a=some {o with data:= .set b (d+1) t'}:=by
 have q:=cXv (Obj.putSet b t') f (by rw[putSet_of b t' c];rfl);rw[putSet_of b t' c]at q;exact q
section
variable {prog:cQO}{w:cQ1}{A:cXi}{E:cQp->cQr->Prop}{s:cQr}
def aYi{Q:Unit->cQr->Prop}(h:Q () s):cQw (cQx prog w) A (match b with|true=>rule "set.scan.the-table-gave-way"|false=>pure ()) Q E s:=by
 cases b
 ·exact cQs h
 ·exact cVp h
def bWO{a:Nat}{p:List Int}{k:Int}{tk:Tok}{Q:Bool->cQr->Prop}(hS:aXi w s.heap a p)(a3:p.length+1<cJW) (h:∀n b,cZr a s.heap n->aXi w n a (if k∈p then p else p++ [k])->Q b {s with heap:=n}): cQw (cQx prog w) A (setAddHashed a (.int k tk) (hashInt k)) Q E s:=by
 obtain⟨o,C,ep,t,ls,U,N,Y,l,S,a0,hb,hf,hT⟩:=hS;have P:=l.elems (prog:=prog) (w:=w);have a9:C.size=p.length:=by rw[<- cXJ,<- l.length,S.length_eq]
 unfold setAddHashed setAddHashedIn;refine cXK (cQo (cZV U Y hf ?_));dsimp only;rw[byScan_of (knd:=intKind prog w) rfl hb P];simp only[↓reduceIte];unfold setAddByScan;refine cQo ?_;refine cQo (cVp ?_);refine cQo (wpAny_setScan_of (knd:=intKind prog w) (k:=k) (intKind_is prog w k tk) U Y hf P ?_);cases hr:List.findIdx? (λe=>(intKind prog w).is k e.2) C.toList with
 |some j=>
  dsimp only;obtain⟨hj,T,_⟩:=List.findIdx?_eq_some_iff_getElem.mp hr;have B:k∈p:=by
   obtain⟨k',a4,_,t',e'⟩:=l.mem_r _ (cZG hj);rw[e']at T;have:k=k':=by have z:(k'==k)=true:=T;exact(beq_iff_eq.mp z).symm
   rw[this];exact S.mem_iff.mp a4
  refine cQs (cQs ?_);have q:=h s.heap false (Heap.SameBut.refl a s.heap) (by rw[if_pos B];exact⟨o,C,ep,t,ls,U,N,Y,l,S,a0,hb,hf,hT⟩);exact q
 |none=>
  dsimp only;have B:k∉p:=λz=>by obtain⟨e,he,t',e'⟩:=l.mem_l k (S.mem_iff.mpr z);have q:=List.findIdx?_eq_none_iff.mp hr e he;rw[e',intKind_is]at q;cases q
  rw[if_neg B]at h;have Z:(p++ [k]).Nodup:=by rw[cZU];exact⟨a0,cXP ..,λx hx y hy=>by rw[cQD.mp hy];rintro rfl;exact B hx⟩
  have d:=layNew_perm t C (hashInt k) (.int k tk);have f:=layNew_fits t C (hashInt k) (.int k tk);have g:=aWW hT C (hashInt k) (.int k tk);generalize hL:layNew t C (hashInt k) (.int k tk)=L at d f g ⊢;obtain⟨c,R,m,b0⟩:=L;dsimp only at d f g ⊢;rw[Array.toList_push]at d;obtain⟨O,D,a5⟩:=(l.append (ls:= [k]) (fs:= [(hashInt k,.int k tk)]) (.cons ⟨rfl,tk,rfl⟩ .nil)).perm d.symm;have H:O.Perm (p++ [k]):=a5.trans (S.append_right [k]);have v:c.size<cJW:=by rw[<- cXJ,d.length_eq,cQL,cXJ];simpa using (by omega:C.size+1<cJW)
  have F:∀i:cZe,i.fits c.size=true->Tab (aJL w) i->
    cQw (cQx prog w) A (do
     storeSet a c i
     if(!m && i.tooFull)=true then do
       (match(relayAll i c (cZ1 c.size)).2.2 with|true=>rule "set.scan.the-table-gave-way"|false=>pure ())
       storeSet a (relayAll i c (cZ1 c.size)).1 (relayAll i c (cZ1 c.size)).2.1
       pure (some true)
      else pure (some true)) (λr X=>∃n,r=some true/\X= {s with heap:=n}/\cZr a s.heap n/\aXi w n a (p++ [k])) E s:=by
   intro i a2 V
   refine cQo (wpAny_storeSet_of U Y ?_ (cVP v))
   have G:=cXU s.heap a (Obj.putSet c i)
   have J:=bQa U Y c i
   split
   ·have u:=relayAll_perm i c (cZ1 c.size);have I:=relayAll_fits i c (cZ1 c.size);have M:=aJi V c (cZ1 c.size);generalize b1:relayAll i c (cZ1 c.size)=Rl at u I M ⊢;obtain⟨K,t3,a7⟩:=Rl;dsimp only at u I M ⊢;obtain⟨a8,W,a6⟩:=D.perm u.symm;have a1:K.size=c.size:=by rw[<- cXJ,u.length_eq,cXJ]
    refine cQo (aYi ?_);refine cQo (wpAny_storeSet_of J rfl ?_ (cVP (by rw[a1];exact v)));refine cQs ⟨_,Cd,Cd,G.trans (cXU _ a _),_,K,_,t3,a8,bQa J rfl K t3,N,Cd,W,a6.trans H,Z,by rw[a1];exact v,I,M⟩
   ·exact cQs ⟨_,Cd,Cd,G,_,c,_,i,O,J,N,Cd,D,H,Z,v,a2,V⟩
  have done:∀ (r:Option Bool)(X:cQr),(∃n,r=some true/\X= {s with heap:=n}/\cZr a s.heap n/\aXi w n a (p++ [k]))->
    cQw (cQx prog w) A (match r with|some added=>pure added|none=>setAddHashedIn a (.int k tk) (hashInt k) 99999) Q E X:=by
   rintro r X ⟨n,rfl,rfl,h1,h2⟩
   exact cQs (h n true h1 h2)
  refine cQo (aYi ?_);split
  ·refine cQo ?_;rw[hashByValue_scannable 8 (show(Value.int k tk).scannable=true from rfl)];refine cQs ?_;have e:(if plainKind (Value.int k tk)=true then R else {R with plain:=false})=R:=rfl;rw[e];exact cXs (F R f g) done λ_ _ z=>z
  ·refine cQo (cQs ?_);simp only[↓reduceIte];exact cXs (F R f g) done λ_ _ z=>z
end
end Stb
namespace Stb
open PySem
def zR:Slot AS BV "set_iterator.__next__":=
 .of (owner:=AS) (n:=BV) (by rw[typeLookup_type,cVd];kernel_rfl) dk dk dk
  (by first|exact .inl dk|exact .inr dk) (by rw[isSubtype_type];kernel_rfl)
def jJ:entryFor table "set_iterator.__next__"=some cZf.«set_iterator.__next__»:=entryFor_of_tree (by kernel_rfl)
def aV1:Manifest.owners.lookup (String.ofList ['r', 'o', 't', 'a', 'r', 'e', 't', 'i', '_', 't', 'e', 's'].reverse)=some Manifest.sig_set_iterator:=by kernel_rfl
def qQ(a:cQp):argsOk "set_iterator.__next__" ⟨[a],[]⟩:=by
 unfold argsOk;rw[signature?_of (id:="set_iterator.__next__") (n:= ['_', '_', 't', 'x', 'e', 'n', '_', '_']) (o:= ['r', 'o', 't', 'a', 'r', 'e', 't', 'i', '_', 't', 'e', 's']) (by kernel_rfl) aV1];kernel_rfl
def aWN:entryFor table "set.__iter__"=some cZf.«frozenset.__iter__»:=
 entryFor_alias (id':="frozenset.__iter__") (by kernel_rfl) rfl dk (by kernel_rfl)
def Q6:Slot AS "__iter__" "set_iterator.__iter__":=
 .of (owner:=AS) (n:="__iter__") (by rw[typeLookup_type,cVd];kernel_rfl) dk dk dk
  (by first|exact .inl dk|exact .inr dk) (by rw[isSubtype_type];kernel_rfl)
def uT(first:cQp)(i:Nat)(a:Nat)(n b:Nat):Obj:={cls:= .type AS,data:= .fields #[first,.int i 0,.ref a,.int n 0,.int b 0] }
section
variable {prog:cQO}{w:cQ1}{A:cXi}{E:cQp->cQr->Prop}{s:cQr}
def bQ8{Q:Option cQp->cQr->Prop}(g:A.handled=none)(i:cJ3 I s.heap h₁)(h:∀d,cJ3 I s.heap d->Q none {s with heap:=d}):
  cQw (cQx prog w) A.in1 (do raiseNew (<- newExc (.type Bl) []):Sem PySem.Fin) (λf c=>∃r,f= .done (.ret r)/\cQw (cQx prog w) A (pure (some r)) Q E c)
   (λe c=>cQw (cQx prog w) A (do if <- cVl e (.type Bl)then pure none else throw e) Q E c) {s with heap:=h₁}:=by
 refine cQo ?_
 simp only[newExc,newTuple]
 refine cQo (cXG ?_ (by size_fits))
 refine cQo (m:=firstArgMember _ _) (wpAny_of_eq (a:=Value.none) (by first|rfl|(simp only[firstArgMember];rfl)) ?_)
 refine cXG ?_ (by size_fits)
 simp only[raiseNew]
 refine cQo (wpAny_handled ?_)
 rw[show A.in1.handled=none from g]
 refine cQo (cQs (wpAny_throw ?_))
 refine cQo (wpAny_isInstance (T:=Bl) (b:=true) ⟨_,cQS _ rfl,rfl⟩ isSubtype_stop ?_)
 exact cQs (h _ ((i.push _).push _))
def aYG{I a:Nat}{o:Obj}{e:Array (Int×cQp)}{c:Nat}{t:cZe}{b i nx:Nat}{x:cQp}{Q:Option cQp->cQr->Prop} (r:s.heap.get? a=some o) (u:o.data= .set e c t) (n:t.fits e.size=true) (f:s.heap.get? I=some (uT (.int b 0) i a e.size c)) (m:∀ (k:Option (cQp×Nat)->cQr->Prop)(p:cQp->cQr->Prop)(l:cXi),k (some (x,nx)) s->cQw (cQx prog w) l (setNext a b i c) k p s) (q:∀h,h.get? I=some (uT (.int nx 0) (i+1) a e.size c)->cZr I s.heap h->Q (some x) {s with heap:=h}):cQw (cQx prog w) A (pyNext (.ref I)) Q E s:=by
 have j:s.TypeIs (.ref I) AS:=⟨_,f,rfl⟩;unfold pyNext;refine cQo (cJJ (cZE (name:=cJu BV) j zR (cZa zR j jJ ?_ (qQ _))));unfold cZf.«set_iterator.__next__»;refine cQo (cQs ?_);refine cQo (cVy f rfl ?_);show cQw _ _ (setEntries a >>=_) _ _ s;refine cQo (cJe r u n ?_);rw[if_neg (by simp)];show cQw _ _ (setNext a ((b:Int)).toNat ((i:Int)).toNat ((c:Int)).toNat >>=_) _ _ s;rw[cQV,cQV,cQV];refine cQo (m _ _ _ ?_);show cQw _ _ (setField (.ref I) 0 (cXI nx) >>=_) _ _ s;refine cQo (cZu f rfl (by simp) ?_);have d:=cXv (cXF (·.setIfInBounds 0 (cXI (nx:Int)))) f (cXO (cXR rfl _));refine cQo (cZu d rfl (by simp) (cQs ⟨x,Cd,cQs (q _ ?_ ((cXU ..).trans (cXU ..)))⟩));have g:=cXv (cXF (·.setIfInBounds 1 (cXI ((i:Int)+1)))) d (cXO (cXR rfl _));exact g
end
end Stb
namespace Stb
open PySem
section
variable {prog:cQO}{w:cQ1}{A:cXi}{E:cQp->cQr->Prop}{s:cQr}
def bXv{I a:Nat}{o:Obj}{d:Array (Int×cQp)}{c:Nat}{t:cZe}{b i:Nat}{Q:Option cQp->cQr->Prop}(p:A.handled=none) (q:s.heap.get? a=some o) (r:o.data= .set d c t) (l:t.fits d.size=true) (e:s.heap.get? I=some (uT (.int b 0) i a d.size c)) (k:∀ (h:Option (cQp×Nat)->cQr->Prop)(m:cQp->cQr->Prop)(j:cXi),h none s->cQw (cQx prog w) j (setNext a b i c) h m s) (n:∀g,cJ3 I s.heap g->Q none {s with heap:=g}):cQw (cQx prog w) A (pyNext (.ref I)) Q E s:=by
 have f:s.TypeIs (.ref I) AS:=⟨_,e,rfl⟩;unfold pyNext;refine cQo (cJJ (cZE (name:=cJu BV) f zR (cZa zR f jJ ?_ (qQ _))));unfold cZf.«set_iterator.__next__»;refine cQo (cQs ?_);refine cQo (cVy e rfl ?_);show cQw _ _ (setEntries a >>=_) _ _ s;refine cQo (cJe q r l ?_);rw[if_neg (by simp)];show cQw _ _ (setNext a ((b:Int)).toNat ((i:Int)).toNat ((c:Int)).toNat >>=_) _ _ s;rw[cQV,cQV,cQV];refine cQo (k _ _ _ ?_);show cQw _ _ (setField (.ref I) 2 .none >>=_) _ _ s;refine cQo (cZu e rfl (by simp) ?_);exact bQ8 p (cXU ..).extBut n
def bXE{h:Heap}{I:Nat}{f:cQp}{i:Nat}{a:Nat}{n b:Nat}(c:h.get? I=some (uT f i a n b)): (h.update I (cXF (·.setIfInBounds 1 (cXI ((i:Int)+1))))).get? I=some (uT f (i+1) a n b):=by
 have q:=cXv (cXF (·.setIfInBounds 1 (cXI ((i:Int)+1)))) c (cXO (cXR (o:=uT f i a n b) rfl _));rw[q];rfl
def bXD{h:Heap}{I:Nat}{f:cQp}{i:Nat}{a:Nat}{n b:Nat}(c:h.get? I=some (uT f i a n b)): (h.update I (cXF (·.setIfInBounds 0 (cXI (0:Int))))).get? I=some (uT (.int 0 0) i a n b):=by
 have q:=cXv (cXF (·.setIfInBounds 0 (cXI (0:Int)))) c (cXO (cXR (o:=uT f i a n b) rfl _));rw[q];rfl
def aW5{I a p:Nat}{o:Obj}{b:Array (Int×cQp)}{f:Nat}{t:cZe}{i j:Nat}{pl:Array cQp}{op:Obj}{c:Nat}{e:Int×cQp}{Q:Option cQp->cQr->Prop} (n:s.heap.get? a=some o) (q:o.data= .set b f t) (m:t.fits b.size=true) (d:s.heap.get? I=some (uT (.ref p) i a b.size f)) (x:s.heap.get? p=some op) (k:op.data= .seq pl c) (u:pl[i]? =some (.int j 0)) (r:b[j]? =some e) (v:∀g,g.get? I=some (uT (.ref p) (i+1) a b.size f)->cZr I s.heap g->Q (some e.2) {s with heap:=g}):cQw (cQx prog w) A (pyNext (.ref I)) Q E s:=by
 have l:s.TypeIs (.ref I) AS:=⟨_,d,rfl⟩;unfold pyNext;refine cQo (cJJ (cZE (name:=cJu BV) l zR (cZa zR l jJ ?_ (qQ _))));unfold cZf.«set_iterator.__next__»;refine cQo (cQs ?_);refine cQo (cVy d rfl ?_);show cQw _ _ (setEntries a >>=_) _ _ s;refine cQo (cJe n q m ?_);rw[if_neg (by simp)];show cQw _ _ (seqItems? (.ref p) >>=_) _ _ s;refine cQo (wpAny_seqItems x k ?_);dsimp only;simp only[cQV,u];refine cQo ?_;unfold setNextDrawn;refine cQo (cZV n q m ?_);dsimp only;rw[if_neg (by simp)];obtain⟨y,ex⟩:=e;rw[r];refine cQs ?_;have h:=bXE d;refine cQo (cZu d rfl (by simp) ?_);refine cQs ⟨ex,Cd,?_⟩;refine cQs ?_;exact v _ h (cXU s.heap I _)
def aYe{I a p:Nat}{o:Obj}{d:Array (Int×cQp)}{h:Nat}{t:cZe}{i:Nat}{pl:Array cQp}{op:Obj}{c:Nat}{Q:Option cQp->cQr->Prop}(r:A.handled=none) (u:s.heap.get? a=some o) (v:o.data= .set d h t) (k:t.fits d.size=true) (b:s.heap.get? I=some (uT (.ref p) i a d.size h)) (n:s.heap.get? p=some op) (f:op.data= .seq pl c) (l:pl[i]? =none) (m:∀j,cJ3 I s.heap j->Q none {s with heap:=j}):cQw (cQx prog w) A (pyNext (.ref I)) Q E s:=by
 have g:s.TypeIs (.ref I) AS:=⟨_,b,rfl⟩;unfold pyNext;refine cQo (cJJ (cZE (name:=cJu BV) g zR (cZa zR g jJ ?_ (qQ _))));unfold cZf.«set_iterator.__next__»;refine cQo (cQs ?_);refine cQo (cVy b rfl ?_);show cQw _ _ (setEntries a >>=_) _ _ s;refine cQo (cJe u v k ?_);rw[if_neg (by simp)];show cQw _ _ (seqItems? (.ref p) >>=_) _ _ s;refine cQo (wpAny_seqItems n f ?_);dsimp only;simp only[cQV,l];refine cQo (cZu b rfl (by simp) ?_);have e:=bXD b;refine cQo (cZu e rfl (by simp) ?_);have q:=(cXU s.heap I (cXF (·.setIfInBounds 0 (cXI (0:Int))))).trans (cXU _ I (cXF (·.setIfInBounds 2 Value.none)));exact bQ8 (s:=s) r q.extBut m
def X7{α:Type}:∀ {l:List α} {i:Nat} (h:i<l.length),cVB (l[i]::l.eraseIdx i) l
 |x::r,0,_=> .rfl
 |x::r,i+1,h=>by have a:=X7 (l:=r) (i:=i) (by simpa using h);exact(List.Perm.swap ..).trans (a.cons x)
def aJf{α:Type}(f:Nat->Nat):∀ (a k:Nat)(left:List α)(out:Array α),left.length=a->cVB (cJy.go f a k left out).toList (out.toList++left)
 |0,k,left,out,h=>by have e:left= []:=List.length_eq_zero_iff.mp h;subst e;unfold cJy.go;rw[cXr]
 |a+1,k,left,out,h=>by unfold cJy.go;have b:f k % left.length<left.length:=Nat.mod_lt _ (by omega);rw[cQn b];dsimp only;refine(aJf f a (k+1) _ _ (by rw[List.length_eraseIdx,if_pos b];omega)).trans ?_;rw[Array.toList_push,cXL,List.singleton_append];exact(X7 b).append_left _
def bJi{t:cZe}{Q:Array (Int×cQp)->cQr->Prop}(f:s.heap.get? a=some o)(g:o.data= .set b c t)(e:t.fits b.size=true) (d:aJL w=true) (h:Q (cJy (w.params.setOrder a c) b) s):cQw (cQx prog w) A (setWalk a) Q E s:=by
 unfold setWalk setsByText;refine cQo (cZV f g e ?_);dsimp only;refine cQo (cQo (cJb (cQs ?_)));show cQw (cQx prog w) A (if aJL w=true then _ else _) Q E s;rw[if_pos d];exact cQo (cJb (cQs h))
def aYH{t:cZe}{Q:Option (cQp×Nat)->cQr->Prop}(j:s.heap.get? a=some o)(k:o.data= .set c d t) (g:t.fits c.size=true) (f:aJL w=true) (h:Q (((cJy (w.params.setOrder a d) c)[i]?).map λe=>(e.2,b)) s):cQw (cQx prog w) A (setNext a b i d) Q E s:=by
 unfold setNext setsByText;refine cQo (cZV j k g ?_);dsimp only;refine cQo (cQo (cJb (cQs ?_)));show cQw (cQx prog w) A (if aJL w=true then _ else _) Q E s;rw[if_pos f];rw[if_neg (by simp)];exact cQo (bJi j k g f (cQs h))
def bXV{t:cZe}{Q:Option (cQp×Nat)->cQr->Prop}(k:s.heap.get? a=some o)(l:o.data= .set c e t)
  (g:t.fits c.size=true) (f:aJL w=false) (d:(!t.plain && decide (c.size > 1))=false) (hl:t.led=true)
  (h:Q (match c[cXq t.place b]?,t.place[cXq t.place b]? with|some (_,x),some j=>some (x,j+1)|_,_=>none) s):cQw (cQx prog w) A (setNext a b i e) Q E s:=by
 unfold setNext setsByText
 refine cQo (cZV k l g ?_)
 dsimp only
 refine cQo (cQo (cJb (cQs ?_)))
 show cQw (cQx prog w) A (if aJL w=true then _ else _) Q E s
 rw[f,if_neg (by decide)]
 show cQw (cQx prog w) A (if(!t.plain && decide (c.size > 1))=true then _ else _) Q E s
 rw[d,if_neg (by decide)]
 refine cQo ?_
 show cQw (cQx prog w) A (if(!t.led && !c.isEmpty)=true then _ else _) _ E s
 rw[hl]
 simp only[Bool.not_true,Bool.false_and,Bool.false_eq_true,↓reduceIte]
 exact cQs (cQs h)
end
end Stb
namespace Stb
open PySem
def aZB(a:List Int)(vs:List cQp):Prop:=cXk (λ(k:Int)(v:cQp)=>∃t,v=Value.int k t) a vs
def Ent.vals:∀ {b:List Int} {a:List (Int×cQp)},Ent b a->aZB b (a.map (·.2))
 |_,_,.nil=> .nil
 |_,_,.cons r t=> .cons r.2 (Ent.vals t)
def bXQ{α:Type}{xs ys:List α}(hl:xs.length=ys.length)(h:∀ (j:Nat)(x:α),xs[j]? =some x->ys[j]? =some x):xs=ys:=by
 apply cZc;intro i;cases e:xs[i]? with
 |some x=>exact(h i x e).symm
 |none=>have:=cVT.mp e;exact(cVT.mpr (by omega)).symm
def W9{α β:Type}{f:α->Option β}:∀ {l:List α} (h:∀x∈l,(f x).isSome=true) (i:Nat),(l.filterMap f)[i]? =l[i]?.bind f
 |[],_,i=>by simp
 |x::r,h,i=>by
  obtain⟨y,e⟩:=Option.isSome_iff_exists.mp (h x (cQG ..));rw[List.filterMap_cons_some e];cases i with
  |zero=>simp[e]
  |succ i=>simpa using W9 (λz a=>h z (cQB _ a)) i
def aXW:entryFor table "set_iterator.__iter__"=some cZf.«dict_keyiterator.__iter__»:=
 entryFor_alias (id':="dict_keyiterator.__iter__") (by kernel_rfl) rfl dk (by kernel_rfl)
def aZD(a:cQp):argsOk "set_iterator.__iter__" ⟨[a],[]⟩:=by
 unfold argsOk;rw[signature?_of (id:="set_iterator.__iter__") (n:= ['_', '_', 'r', 'e', 't', 'i', '_', '_']) (o:= ['r', 'o', 't', 'a', 'r', 'e', 't', 'i', '_', 't', 'e', 's']) (by kernel_rfl) aV1];kernel_rfl
section
variable {prog:cQO}{w:cQ1}{A:cXi}{E:cQp->cQr->Prop}{s:cQr}
def aYd{α:Type}:∀ (n:Nat)(xs:List α)(s:cQr)(Q:List α->cQr->Prop),xs.length=n->(∀b d,cVB b xs->Q b {s with drawn:=d})->cQw (cQx prog w) A (drawOrder n xs) Q E s
 |0,xs,s,Q,hl,h=>by have e:xs= []:=List.length_eq_zero_iff.mp hl;subst e;unfold drawOrder;exact cQs (h [] s.drawn .rfl)
 |n+1,[],s,Q,hl,h=>by cases hl
 |n+1,x::r,s,Q,hl,h=>by
  unfold drawOrder;have a:w.draws .order (s.drawn.get .order) % (x::r).length<(x::r).length:=Nat.mod_lt _ (Nat.succ_pos _);refine cQo (m:=choose .order (x::r).length) ?_;have j:∀ (c:Nat->cQr->Prop),c (w.draws .order (s.drawn.get .order) % (x::r).length) {s with drawn:=s.drawn.bump .order}->cQw (cQx prog w) A (choose .order (x::r).length) c E s:=by intro c f Γ p hΓ;show Sem.wp _ _ (.choose .order (x::r).length .pure) _ _ _ _;rw[Sem.wp_choose];exact⟨Nat.succ_ne_zero _,f⟩
  refine j _ ?_;generalize k:w.draws .order (s.drawn.get .order) % (x::r).length=i at a ⊢;rw[cQn a];dsimp only;refine cQo (aYd n _ _ _ (by rw[List.length_eraseIdx,if_pos a];simpa using hl) λb d g=>?_);exact cQs (h _ _ ((g.cons _).trans (X7 a)))
def bQO{Q:cQp->cQr->Prop}(c:s.heap.get? I=some (uT f i a n d))(h:Q (.ref I) s):cQw (cQx prog w) A (pyIter (.ref I)) Q E s:=by
 have b:s.TypeIs (.ref I) AS:=⟨_,c,rfl⟩;refine wpAny_pyIter_slot b Q6 (cZa Q6 b aXW ?_ (aZD _));show cQw _ _ (ret (.ref I)) _ _ s;exact cQs ⟨_,Cd,AS,_,b,zR.lookup,h⟩
def aKO{I a:Nat}{o:Obj}{es:Array (Int×cQp)}{ep:Nat}{t:cZe}{vs:List cQp}{g:Nat->Nat}(hd:o.data= .set es ep t)(hf:t.fits es.size=true)(hv:vs.length=es.size)(hne:a≠I)
  (hx:∀ (s:cQr)(i:Nat)(A':cXi)(E':cQp->cQr->Prop)(Q':Option (cQp×Nat)->cQr->Prop),s.heap.get? a=some o->i<=es.size->Q' ((vs[i]?).map λx=>(x,g (i+1))) s->cQw (cQx prog w) A' (setNext a (g i) i ep) Q' E' s)
  (hh:A.handled=none):Walks prog w A I [I,a] [I] es.size (λi v=>vs[i]? =some v) (λi h=>i<=es.size/\h.get? a=some o/\h.get? I=some (uT (.int (g i) 0) i a es.size ep)) where
 sub:=λb hb=>by simp at hb;simp[hb]
 frame:=λi h h' st k=>⟨st.1,k a (by simp) o st.2.1,k I (by simp) _ st.2.2⟩
 item:=λi s Q E hi st hQ=>by
  obtain⟨h1,h2,h3⟩:=st
  have hlt:i<vs.length:=by omega
  refine aYG (nx:=g (i+1)) (x:=vs[i]) h2 hd hf h3 (λQ' E' A' hq=>hx s i A' E' Q' h2 h1 (by rw[cQn hlt];exact hq)) λh' hI' sb=>?_
  exact hQ _ h' s.toks (cQn hlt) ⟨by omega,sb.extBut a o hne h2,hI'⟩ λb ob hb e=>sb.extBut b ob (λz=>hb (by simp[z])) e
 done:=λs Q E st hQ=>by
  obtain⟨h1,h2,h3⟩:=st
  refine bXv hh h2 hd hf h3 (λQ' E' A' hq=>hx s es.size A' E' Q' h2 h1 (by rw[cQW (by omega)];exact hq)) λh' sb=>?_
  exact hQ h' s.toks λb ob hb e=>sb b ob (λz=>hb (by simp[z])) e
 self:=λi s Q E st hQ=>bQO st.2.2 hQ
def aVK{I a p:Nat}{o op:Obj}{es:Array (Int×cQp)}{ep c:Nat}{t:cZe}{vs:List cQp}{ys:List Nat}(hd:o.data= .set es ep t)(hf:t.fits es.size=true)(hv:ys.length=es.size)
  (hpd:op.data= .seq (ys.map λ(j:Nat)=>Value.int j 0).toArray c) (hne:a≠I) (hnp:p≠I) (hx:∀ (i j:Nat),ys[i]? =some j->∃e,es[j]? =some e/\vs[i]? =some e.2)
  (hh:A.handled=none):Walks prog w A I [I,a,p] [I] es.size (λi v=>vs[i]? =some v) (λi h=>i<=es.size/\h.get? a=some o/\h.get? p=some op/\h.get? I=some (uT (.ref p) i a es.size ep)) where
 sub:=λb hb=>by simp at hb;simp[hb]
 frame:=λi h h' st k=>⟨st.1,k a (by simp) o st.2.1,k p (by simp) op st.2.2.1,k I (by simp) _ st.2.2.2⟩
 item:=λi s Q E hi st hQ=>by
  obtain⟨h1,h2,h3,h4⟩:=st
  have hlt:i<ys.length:=by omega
  obtain⟨e,he,hve⟩:=hx i ys[i] (cQn hlt)
  refine aW5 (j:=ys[i]) (e:=e) h2 hd hf h4 h3 hpd (by simp[hlt]) he λh' hI' sb=>?_
  exact hQ _ h' s.toks hve ⟨by omega,sb.extBut a o hne h2,sb.extBut p op hnp h3,hI'⟩ λb ob hb e=>sb.extBut b ob (λz=>hb (by simp[z])) e
 done:=λs Q E st hQ=>by
  obtain⟨h1,h2,h3,h4⟩:=st
  refine aYe hh h2 hd hf h4 h3 hpd (by simp[hv]) λh' sb=>?_
  exact hQ h' s.toks λb ob hb e=>sb b ob (λz=>hb (by simp[z])) e
 self:=λi s Q E st hQ=>bQO st.2.2.2 hQ
def bVg{a:Nat}{S:List Int}{Q:cQp->cQr->Prop}(hS:aXi w s.heap a S) (h:∀ (I:Nat)(h':Heap)(d:Drawn)(fp:List Nat)(St:Nat->Heap->Prop)(vs:List cQp)(ls:List Int),s.heap.objs.size<=I->(∀b∈fp,b=a\/s.heap.objs.size<=b)->(∀b∈fp,b<h'.objs.size)->aZB ls vs->ls.Perm S-> (∀ (A:cXi),A.handled=none->Walks prog w A I fp [I] S.length (λi v=>vs[i]? =some v) St)->St 0 h'->(∀b o,s.heap.get? b=some o->h'.get? b=some o)-> Q (.ref I) {s with heap:=h',drawn:=d}):cQw (cQx prog w) A (pyIter (.ref a)) Q E s:=by
 have hT:=hS.type;obtain⟨o,f,y,t,ls,O,a9,L,q,X,a8,l,B,R⟩:=hS;have J:f.size=S.length:=by rw[<- cXJ,<- q.length,X.length_eq]
 have r:a<s.heap.objs.size:=cQC O;refine wpAny_pyIter_slot hT F.slot_set_iter (cZa F.slot_set_iter hT aWN ?_ (F.args_set_iter_1 _));unfold cZf.«frozenset.__iter__» Builtin.Frozenset.slot0 slotArgs;simp only[List.isEmpty_nil,Bool.not_true,Bool.false_eq_true,↓reduceIte,bind_assoc,cZw,bne_self_eq_false];unfold Builtin.Frozenset.addrOf Builtin.Frozenset.sizeOf;refine cQo (cQs ?_);try dsimp only
 refine cQo (cQs ?_);refine cQo (cQo (cJe O L B (cQs ?_)));refine cQo ?_;unfold setDrawn setsByText;refine cQo (cZV O L B ?_);dsimp only;refine cQo (cQo (cJb (cQs ?_)));refine cQs ?_;refine cVo (λc=>?_) (λc=>?_)
 ·refine cQo (aYd f.size (cQy f.size) s _ cXh λD d N=>?_);have T:D.length=f.size:=by rw[N.length_eq,cXh]
  have U:∀j∈D,j<f.size:=λj W=>cQT.mp (N.mem_iff.mp W);refine cQo (wpAny_newTuple ?_ (by rw[cQt,T];exact cVP l));have a2:=cQu {cls:= .type AD,data:= .seq (D.map λ(i:Nat)=>cXI (i:Int)).toArray} O;refine cQo (wpAny_setEpoch_of a2 L B ?_);refine cQo (cXG (cQs ⟨_,Cd,AS,_,⟨_,cQS _ rfl,rfl⟩,zR.lookup,?_⟩));have M:cVB (D.filterMap λj=>f[j]?) f.toList:=(N.filterMap _).trans (by rw[filterMap_getElem?_range]);obtain⟨k,n,m⟩:=q.perm M.symm;have a6:∀ (i j:Nat),D[i]? =some j->∃e,f[j]? =some e/\((D.filterMap λj=>f[j]?).map (·.2))[i]? =some e.2:=λi j e=>by have W:j<f.size:=U j (cQH e);refine⟨f[j],cXT W,?_⟩;rw[cQJ,W9 (λx hx=>by rw[cXT (U x hx)];rfl),e,Option.bind_some,cXT W];rfl
  have fin:∀ (C:Heap)(Y:Obj),Y.data= .seq (D.map λ(i:Nat)=>Value.int i 0).toArray 0->C.objs.size=s.heap.objs.size+1->C.get? s.heap.objs.size=some Y->(∀b o,s.heap.get? b=some o->C.get? b=some o)->
    Q (.ref C.objs.size) {s with heap:=C.push (uT (.ref s.heap.objs.size) 0 a f.size y),drawn:=d}:=by
   intro C Y a3 G a4 hk
   refine h C.objs.size _ d [C.objs.size,a,s.heap.objs.size] (λi h=>i<=f.size/\h.get? a=some o/\h.get? s.heap.objs.size=some Y/\h.get? C.objs.size=some (uT (.ref s.heap.objs.size) i a f.size y)) _ k ?_ ?_ ?_ n.vals (m.trans X)
    (λA hh=>by rw[<- J];exact aVK (o:=o) (ys:=D) (c:=0) L B T a3 (cQP (by rw[G];exact cXB r)) (cQP (by rw[G];exact cXM _)) a6 hh) ⟨cXo _,cQu _ (hk _ _ O),cQu _ a4,cQS _ rfl⟩ λb ob e=>cQu _ (hk _ _ e)
   ·omega
   ·intro b l;simp only[cQz,cZ4,or_false]at l;rcases l with rfl|rfl|rfl
    ·right;omega
    ·left;rfl
    ·right;exact cQv _
   ·intro b l;rw[cX0];simp only[cQz,cZ4,or_false]at l;rcases l with rfl|rfl|rfl
    ·exact cXM _
    ·rw[G];exact cXB (cXB r)
    ·rw[G];exact cXB (cXM _)
  exact fin _ _ rfl (cX0 ..) (cQS _ rfl) λb ob e=>cQu _ e
 ·refine cQo (cQs ?_);refine cQo (wpAny_setEpoch_of O L B ?_);refine cQo (cXG (cQs ⟨_,Cd,AS,_,⟨_,cQS _ rfl,rfl⟩,zR.lookup,?_⟩));have fin:∀ (vs:List cQp)(g:Nat->Nat)(k:List Int),g 0=0->vs.length=f.size->aZB k vs->k.Perm S->
    (∀ (s:cQr)(i:Nat)(A':cXi)(E':cQp->cQr->Prop)(Z:Option (cQp×Nat)->cQr->Prop),s.heap.get? a=some o->i<=f.size->Z ((vs[i]?).map λx=>(x,g (i+1))) s->cQw (cQx prog w) A' (setNext a (g i) i y) Z E' s)->
    Q (.ref s.heap.objs.size) {s with heap:=s.heap.push {cls:= .type AS,dict:=none,data:= .fields [cXI 0,cXI 0,Value.ref a,cXI (f.size:Int),cXI (y:Int)].toArray} }:=by
   intro vs g k g0 a1 hv m hx
   refine h s.heap.objs.size _ s.drawn [s.heap.objs.size,a] (λi h=>i<=f.size/\h.get? a=some o/\h.get? s.heap.objs.size=some (uT (.int (g i) 0) i a f.size y)) vs k (cQv _) ?_ ?_ hv m
    (λA hh=>by rw[<- J];exact aKO (o:=o) (g:=g) L B a1 (cQP r) hx hh) ⟨cXo _,cQu _ O,?_⟩ λb ob e=>cQu _ e
   ·intro b l;simp only[cQz,cZ4,or_false]at l;rcases l with rfl|rfl
    ·right;exact cQv _
    ·left;rfl
   ·intro b l;rw[cX0];simp only[cQz,cZ4,or_false]at l;rcases l with rfl|rfl
    ·exact cXM _
    ·exact cXB r
   ·rw[g0];exact cQS _ rfl
  cases u:aJL w with
  |true=>
   have pp:cVB (cJy (w.params.setOrder a y) f).toList f.toList:=by have:=aJf (w.params.setOrder a y) f.size 0 f.toList #[] (by simp);simpa[cJy]using this
   obtain⟨k,n,m⟩:=q.perm pp.symm;refine fin ((cJy (w.params.setOrder a y) f).toList.map (·.2)) (λ_=>0) k rfl (by rw[cQt,pp.length_eq];simp) n.vals (m.trans X) λs i A' E' Z P hi p=>?_;refine aYH P L B u ?_;rw[cQJ,cXZ]at p;cases e:(cJy (w.params.setOrder a y) f)[i]? with
   |none=>rw[e]at p;exact p
   |some z=>rw[e]at p;exact p
  |false=>
   have a0:(!t.plain && decide (f.size > 1))=false:=by have c':¬ ((!aJL w && (!t.plain && decide (f.size > 1)))=true):=c;rw[u]at c';simpa using c'
   have V:t.led=true:=R.led.resolve_left (by rw[u];decide);have a7:t.place.size=f.size:=by have:=B;simp only[SetTable.fits,Bool.and_eq_true,beq_iff_eq]at this;exact this.1
   refine fin (f.toList.map (·.2)) (λi=>if i=0 then 0 else t.place.getD (i - 1) 0+1) ls (by simp) (by simp) q.vals X λs i A' E' Z P hi p=>?_;refine bXV P L B u a0 V ?_;have a5:cXq t.place (if i=0 then 0 else t.place.getD (i - 1) 0+1)=i:=by
    by_cases h0:i=0
    ·rw[if_pos h0,aWC R.rise,h0]
    ·rw[if_neg h0,aWB R.rise (by omega)];omega
   rw[a5];by_cases K:i<f.size
   ·have H:i<t.place.size:=by omega
    rw[cXT K,cXT H];rw[cQJ,cXZ,cXT K]at p;have e1:t.place.getD i 0=t.place[i]:=by simp[cZW,H]
    simpa[e1]using p
   ·rw[cJm (by omega)];rw[cQJ,cXZ,cJm (by omega)]at p;exact p
end
end Stb
namespace Stb
open PySem PyProof.Rows
section
variable {prog:cQO}{w:cQ1}{A:cXi}{E:cQp->cQr->Prop}{s:cQr}
def bVe{Q:Bool->cQr->Prop}(c:s.TypeIs (.ref r) B6)(h:Q false s):cQw (cQx prog w) A (cVz (.ref r)) Q E s:=by
 unfold cVz;refine cQo (wpAny_specialOf c PySem.F.slot_set_len.lookup ?_);generalize a:("set.__len__":String)=q;wp_delta;rw[show splitId q=some (B6,"__len__")from by subst a;decide+kernel];subst a;refine cQo (wpAny_isInstance (T:=B6) (b:=true) c sub_set_self ?_);refine cVo (λz=>absurd z (by decide)) (λ_=>?_);refine cVo (λ_=>?_) (λz=>absurd dk z);exact cQo (wpAny_typeOf c (cQs h))
def aWJ{R:List cQp->cQr->Prop}(hh:A.handled=none)(X:aXi w s.heap a n)(hn:n.length<=cQM) (h:∀ (h':Heap)(tk:Nat)(d:Drawn)(vs:List cQp)(ls:List Int),s.heap.objs.size<h'.objs.size->(∀b o,s.heap.get? b=some o->h'.get? b=some o)->aZB ls vs->ls.Perm n->R vs {s with heap:=h',toks:=tk,drawn:=d}): cQw (cQx prog w) A (collect (.ref a)) R E s:=by
 have hT:=X.type;obtain⟨oa,a6⟩:=X.there;have H:a<s.heap.objs.size:=cQC a6;unfold collect;refine cQo (wpAny_runValue (cZB entry_proto_collect' ?_));rw[cZl PySem.F.plain_proto_collect _];show cQw _ A.in1 (newList [] >>=λl=>again (.builtin "list.__iadd__" ⟨[l,.ref a],[]⟩)) _ _ s;refine cQo (cXG ?_);refine cQs ⟨cJI PySem.F.plain_list_iadd _,cZB entry_list_iadd' ?_⟩;rw[cZl PySem.F.plain_list_iadd _];have hL:(s.heap.push {cls:= .type AB,data:= .seq ([]:List cQp).toArray}).get? s.heap.objs.size=some {cls:= .type AB,data:= .seq #[] }:=cQS _ rfl;have t:aXi w (s.heap.push {cls:= .type AB,data:= .seq ([]:List cQp).toArray}) a n:=X.at λo e=>cQu _ e;have k:(s.heap.push {cls:= .type AB,data:= .seq ([]:List cQp).toArray}).objs.size=s.heap.objs.size+1:=cX0 ..;generalize a1:s.heap.push {cls:= .type AB,data:= .seq ([]:List cQp).toArray}=H1 at hL t k ⊢;have Y:∀b o,s.heap.get? b=some o->H1.get? b=some o:=λb o e=>by rw[<- a1];exact cQu _ e
 show cQw _ A.in1 (cJv (.ref s.heap.objs.size) (.ref a) (.ref s.heap.objs.size)) _ _ {s with heap:=H1};have Q:Shared.TypeIs {s with heap:=H1} (.ref a) B6:=t.type (s:={s with heap:=H1});unfold cJv;refine cQo (wpAny_typeOf (T:=B6) Q ?_);have q1:cVW (.ref s.heap.objs.size) (.ref a)=false:=by simp[cVW,cZ7 H]
 have q2:(Value.type B6==Value.type AB)=false:=by decide
 have q3:(Value.type B6==Value.type AD)=false:=by decide
 simp only[q1,q2,q3,Bool.or_false,Bool.false_eq_true,if_false];refine cQo (bVg (s:={s with heap:=H1}) t ?_);intro I h2 d fp St vs ls hI a2 b0 hv hp W M y;have P:s.heap.objs.size∉fp:=λz=>by
  rcases a2 _ z with e|e
  ·exact cZ7 H e
  ·have e':H1.objs.size<=s.heap.objs.size:=e;rw[k]at e';exact absurd e' (Nat.not_succ_le_self _)
 have u:=y _ _ hL;have G:∀ (K:Heap)(c:Nat),St 0 K->(∀b o,b≠s.heap.objs.size->h2.get? b=some o->K.get? b=some o)->K.get? s.heap.objs.size=some {cls:= .type AB,data:= .seq #[] c}->
   cZC (cQx prog w) A (.builtin "list.extend.loop" ⟨[.ref s.heap.objs.size,.ref I,.ref s.heap.objs.size],[]⟩)
    (λq g=>∃ (h':Heap)(tk:Nat)(f:Array cQp)(B:Nat),q= .ok (.ret (.ref s.heap.objs.size))/\g= {s with heap:=h',toks:=tk,drawn:=d}/\
     (∀b o,s.heap.get? b=some o->h'.get? b=some o)/\h'.get? s.heap.objs.size=some {cls:= .type AB,dict:=none,data:= .seq f B,slots:= #[] }/\ItemsOf (λi v=>vs[i]? =some v) f n.length) {s with heap:=K,drawn:=d}:=by
  intro K c C a3 m
  refine codeAny_extend_loopS (W A.in1 hh).toS hn s.heap.objs.size P (.ref s.heap.objs.size) n.length 0 _ #[] c rfl (cXo _) C m (ItemsOf.nil _) λg O B S V J=>?_
  obtain⟨a9,g',d',U,Z⟩:=g
  have eg:g'=s.gens:=S.gens
  have ed:d'=d:=S.drawn
  have eo:Z=s.os:=S.os
  subst eg ed eo
  refine⟨a9,U,O,B,Cd,Cd,λb o e=>?_,V,J⟩
  have r:b<s.heap.objs.size:=cQC e
  refine S.heap b o (λz=>?_) (a3 b o (cQP r) (y b o (Y b o e)))
  rcases cQz.mp z with z|z
  ·exact cQP r z
  ·have z':b=I:=cQD.mp z;have L:H1.objs.size<=I:=hI;rw[k,<- z']at L;exact absurd (cQR r (Nat.le_of_succ_le L)) (cXD _)
 have p:∀ (q:Result)(g:cQr),(∃ (h':Heap)(tk:Nat)(f:Array cQp)(B:Nat),q= .ok (.ret (.ref s.heap.objs.size))/\g= {s with heap:=h',toks:=tk,drawn:=d}/\ (∀b o,s.heap.get? b=some o->h'.get? b=some o)/\h'.get? s.heap.objs.size=some {cls:= .type AB,dict:=none,data:= .seq f B,slots:= #[] }/\ItemsOf (λi v=>vs[i]? =some v) f n.length)->
   ∃tk h',q= .ok (.ret (.ref s.heap.objs.size))/\g= {s with heap:=h',toks:=tk,drawn:=d}/\cQw (cQx prog w) A (do
    let o <- load s.heap.objs.size
    match o.data with
    |.seq xs _=>pure xs.toList
    |_=>unsupported "internal:collect") R E {s with heap:=h',toks:=tk,drawn:=d}:=by
  rintro q g ⟨h',tk,f,B,rfl,rfl,hk,hg,D⟩
  refine⟨tk,h',Cd,Cd,cQo (wpAny_load hg (cQs ?_))⟩
  have a0:vs.length=n.length:=by rw[<- cZS hv,hp.length_eq]
  have e:f.toList=vs:=bXQ (by rw[cXJ,D.1,a0]) λj x hx=>D.2 j x (by rw[<- cXZ];exact hx)
  show R f.toList _
  rw[e]
  exact h h' tk d vs ls (cQC hg) hk hv hp
 have a7:Shared.TypeIs {s with heap:=h2,drawn:=d} (.ref a) B6:=by obtain⟨o',a4,a5⟩:=Q;exact⟨o',y _ _ a4,a5⟩
 refine cQo (cXK (bVe a7 ?_));refine cVo (λ_=>?_) (λ_=>?_)
 ·refine cQo (cVp ?_);refine cQo ?_;show cQw _ _ (updateSeq s.heap.objs.size (·.push .none) >>=λ_=>updateSeq s.heap.objs.size (·.pop)) _ _ _;refine cQo (wpAny_updateSeq u rfl ?_);have m:=cXv (cXj (·.push Value.none)) u rfl;refine wpAny_updateSeq (hz:=by seq_fits) m rfl ?_;have a8:=cXv (cXj (·.pop)) m rfl;refine cQs ⟨cJI cVV _,cZj (G _ _ ?_ (λb o r e=>?_) a8) λq g z=>?_⟩
  ·refine(W A.in1 hh).frame 0 _ _ M λb r o e=>?_;have N:b≠s.heap.objs.size:=λz=>P (z ▸ r);exact(cQ2 _ _ (cQ6 N)).trans ((cQ2 _ _ (cQ6 N)).trans e)
  ·exact(cQ2 _ _ (cQ6 r)).trans ((cQ2 _ _ (cQ6 r)).trans e)
  ·obtain⟨tk,h',rfl,rfl,zz⟩:=p q g z;exact zz
 ·refine cQs ⟨cJI cVV _,cZj (G _ _ M (λb o _ e=>e) u) λq g z=>?_⟩;obtain⟨tk,h',rfl,rfl,zz⟩:=p q g z;exact zz
def J8:∀ {a:List Int} {vs:List cQp},aZB a vs->cZZ vs a
 |_,_,.nil=> .nil
 |_,_,.cons ⟨t,e⟩ r=>by subst e;exact .cons _ t (J8 r)
def aKK{Q:cQp->cQr->Prop}(F:A.handled=none)(x:aXi w s.heap a f)(y:f.length<64) (h:∀ (l:Nat)(h':Heap)(tk:Nat)(d:Drawn)(out:List cQp)(k:List Int)(n:Nat),s.heap.objs.size<=l->(∀b o,s.heap.get? b=some o->h'.get? b=some o)->h'.get? l=some {cls:= .type AB,data:= .seq out.toArray n}-> cZZ out k->k.Perm f->k.Pairwise (·<=·)->Q (.ref l) {s with heap:=h',toks:=tk,drawn:=d}):cQw (cQx prog w) A (call (.builtin AT) [.ref a]) Q E s:=by
 refine cJQ kind_sorted plain_sorted entry_sorted (args_sorted1 _) ?_;unfold cZf.«sorted»;refine cQo (m:=checkCount AT 1 1 _) (cQs ?_);refine cQo (aWJ (A:=A.in1) F x (by rw[cQQ];omega) λi tk d q G r C u t=>?_);have D:=J8 u;have j:q.length=f.length:=by rw[<- cZS u,t.length_eq]
 refine cQo (cJK ?_ (by rw[j,cQQ];omega));have c:(i.push {cls:= .type AB,data:= .seq q.toArray}).get? i.objs.size=some (cXb AB q.toArray 0):=cQS _ rfl;refine cQo (cXK (cZa slot_list_sort ⟨_,c,rfl⟩ entry_list_sort (list_sort_tree c D (by omega) λout g B z v=>⟨_,Cd,?_⟩) (args_list_sort _)));obtain⟨n,e⟩:=sortedHeap_at (out:=out) c;refine cQs ⟨_,Cd,h i.objs.size _ tk d out.toList g n (cZ6 r) (λb o e=>?_) (by simpa using e) B (z.trans t) v⟩;have p:=C b o e;rw[sortedHeap_old (cQP (cQC p)) (by rw[cX0];exact cXB (cQC p))];exact cQu _ p
end
end Stb
set_option tactic.hygienic true
namespace Stb
open PySem PyProof.Rows
def met(val:Nat->Int):Nat->List Int
 |0=> []
 |i+1=>if val i∈met val i then met val i else met val i++ [val i]
def aJW(val:Nat->Int):∀i,(met val i).length<=i
 |0=>cQv _
 |i+1=>by
  have a:=aJW val i;unfold met;split
  ·omega
  ·rw[cQL,cXx];omega
def aYD(val:Nat->Int)(d:Int):∀i,d∈met val i↔∃j,j<i/\val j=d
 |0=>by simp[met]
 |i+1=>by
  have b:=aYD val d i;have step:d∈met val (i+1)↔d∈met val i\/d=val i:=by
   show d∈(if val i∈met val i then met val i else met val i++ [val i])↔_;split
   ·rename_i a;constructor
    ·exact .inl
    ·rintro(z|rfl)
     ·exact z
     ·exact a
   ·simp
  rw[step,b];constructor
  ·rintro(⟨j,c,e⟩|rfl)
   ·exact⟨j,by omega,e⟩
   ·exact⟨i,by omega,rfl⟩
  ·rintro⟨j,c,e⟩;by_cases h:j=i
   ·subst h;exact .inr e.symm
   ·exact .inl ⟨j,by omega,e⟩
section
variable {prog:cQO}{w:cQ1}{A:cXi}
def bJ8{R:Result->cQr->Prop}{I:Nat}{J E:List Nat}{n:Nat}{P:Nat->cQp->Prop}{St:Nat->Heap->Prop}(W:Walks prog w A.in1 I J E n P St)(S:Nat)(x:S∉J) (val:Nat->Int) (l:∀i v,P i v->∃t,v= .int (val i) t) (a:n+1<cJW): ∀ (k i:Nat)(s:cQr),n - i=k->i<=n->St i s.heap->aXi w s.heap S (met val i)-> (∀r tk,(∀b o,b∉S::E->s.heap.get? b=some o->r.get? b=some o)->aXi w r S (met val n)->R (.ok (.ret .none)) {s with heap:=r,toks:=tk})-> cZC (cQx prog w) A (.builtin "set.update.loop" ⟨[.ref S,.ref I],[]⟩) R s:=by
 have g:S∉E:=λh=>x (W.sub _ h);intro k;induction k with
 |zero=>
  intro i s Q M d y hR;obtain rfl:i=n:=by omega
  refine cZB cJT ?_;rw[cZl cZN _];refine cQo (m:=pyNext (.ref I)) (W.done s _ _ d λr tk q=>?_);exact cQs (hR r tk (λb o a e=>q b o (λz=>a (cQB _ z)) e) (y.at λo e=>q S o g e))
 |succ k L=>
  intro i s Q M d y hR;have f:i<n:=by omega
  refine cZB cJT ?_;rw[cZl cZN _];refine cQo (m:=pyNext (.ref I)) (W.item i s _ _ f d λv B u O p j=>?_);obtain⟨t,rfl⟩:=l i v O;show cQw _ A.in1 (cJM [Value.int (val i) t] (setAdd S (.int (val i) t)) >>=_) _ _ {s with heap:=B,toks:=u};refine cQo (cXK ?_);unfold setAdd;refine cXK ?_;refine cQo ((intKind prog w).pyHash (k:=val i) (intKind_is _ _ _ _) ?_);have c:(met val i).length+1<cJW:=by have:=aJW val i;omega
  refine bWO (s:={s with heap:=B,toks:=u+1}) (y.at λo e=>j S o g e) c λT b K C=>?_;refine cQs ⟨cJI cZN _,L (i+1) _ (by omega) f (W.frame _ B _ p λb a o e=>?_) C λN H G D=>?_⟩
  ·exact K.extBut b o (λz=>x (z ▸ a)) e
  ·refine hR N H (λb o a e=>G b o a (K.extBut b o (λz=>a (by rw[z];exact cQG)) (j b o (λz=>a (cQB _ z)) e))) D
variable {E:cQp->cQr->Prop}{s:cQr}
def bW8(a:cQp){Q₁:cQp->cQr->Prop} (h:Q₁ (.ref s.heap.objs.size) {s with heap:=s.heap.push {cls:= .type B6,dict:=none,data:= .set #[] 0 (.fresh 0 0 (!aJL w)) } }): cZC (cQx prog w) A (.call (.builtin "set.__new__") ⟨[.type B6,a],[]⟩) (wants Q₁ E) s:=by
 refine codeAny_of_tree ?_;show cQw _ A.in1 (do checkBuiltinCall "set.__new__" ⟨[.type B6,a],[]⟩;again (.builtin "set.__new__" ⟨[.type B6,a],[]⟩)) _ _ s;refine cQo (wpAny_of_eq (PySem.F.newCall_set_1 a) (cQs ⟨cJI PySem.F.plain_set_new _,cZB PySem.F.entry_set_new ?_⟩));rw[cZl PySem.F.plain_set_new _];unfold cZf.«set.__new__» Builtin.Frozenset.newClass;have b:=sub_set_self;obtain⟨e,g,d,tk,c⟩:=s;dsimp only;wp_walk;refine cJb (cQs ?_);dsimp only;simp only[newObj];refine cQo (wpAny_alloc (cQs ?_));exact cQs h
set_option maxHeartbeats 3200000 in
def z6{l:Nat}{items:Array cQp}{K:List Int}{Q:cQp->cQr->Prop}(hh:A.handled=none)(hl:s.heap.IsList l items)(hi:cZZ items.toList K)(M:items.size+1<cJW) (h:∀ (h':Heap)(tk:Nat),aXi w h' s.heap.objs.size (met (λi=>K.getD i 0) items.size)->(∀b o,s.heap.get? b=some o->h'.get? b=some o)->Q (.ref s.heap.objs.size) {s with heap:=h',toks:=tk}): cQw (cQx prog w) A (call (.type B6) [.ref l]) Q E s:=by
 obtain⟨c,tl,a2⟩:=cZi.mro;have W:=cZi.made;have a0:=cZi.sub;refine cJE (codeAny_of_tree ?_);show cQw _ _ (callAny (.type B6) _) _ _ _;refine cQs ⟨cVA _ dk,cZB PySem.F.entry_type_call ?_⟩;rw[Around.under_plain (weight_type_call_type B6 [.ref l] []) rfl];have h1:=cZi.notType;have h2:=cZi.canCreate;have a6:=PySem.F.typeCall_set_1 (.ref l);repeat (any_goals (first|assumption|wp_step))
 refine cZj (bW8 (.ref l) (E:=E) (Q₁:=λq g=>q= .ref s.heap.objs.size/\g= {s with heap:=s.heap.push {cls:= .type B6,dict:=none,data:= .set #[] 0 (.fresh 0 0 (!aJL w)) } }) ⟨rfl,rfl⟩) λr g V=>?_;cases r with
 |error e=>exact V
 |ok fl=>
  cases fl with
  |ret q=>
   obtain⟨rfl,rfl⟩:=V;generalize D:({cls:= .type B6,dict:=none,data:= .set #[] 0 (.fresh 0 0 (!aJL w)) }:Obj)=O;have S:(s.heap.push O).get? s.heap.objs.size=some O:=cQS _ (by rw[<- D];rfl);have hT:Shared.TypeIs {s with heap:=s.heap.push O} (.ref s.heap.objs.size) B6:=⟨_,S,by rw[<- D]⟩;have C:aXi w (s.heap.push O) s.heap.objs.size []:=by
    refine⟨O, #[],0,.fresh 0 0 (!aJL w),[],S,?_,?_,.nil,.rfl,List.nodup_nil,by decide,Cd,bXa ?_⟩
    ·rw[<- D];exact⟨rfl,Cd,rfl⟩
    ·rw[<- D]
    ·cases aJL w<;> simp
   have f:(s.heap.push O).objs.size=s.heap.objs.size+1:=cX0 ..;have p:∀b o,s.heap.get? b=some o->(s.heap.push O).get? b=some o:=λb o e=>cQu _ e;generalize hH:s.heap.push O=H at S hT C f p ⊢;have a8:=cZi.init.lookup;have a7:=cZi.init.bind (.ref s.heap.objs.size);repeat (any_goals (first|assumption|wp_step))
   refine cZj (cVk (R:=wants (λr j=>r= .none/\∃h' tk,j= {s with heap:=h',toks:=tk}/\aXi w h' s.heap.objs.size (met (λi=>K.getD i 0) items.size)/\
     (∀b o,s.heap.get? b=some o->h'.get? b=some o)) E) cZi.init.plain PySem.F.entry_set_init (check_set_init_1 hT ?_)) λu j a=>?_
   ·obtain⟨ol,P,I,nl,N⟩:=hl;obtain⟨a3,m,X,d⟩:=ol;simp only at I N;subst I;subst N;have x:H.get? l=some {cls:= .type AB,dict:=m,data:= .seq items nl,slots:=d}:=p _ _ P;have a4:=PySem.F.sub_list_set;have a1:=PySem.F.sub_list_frozenset;have a5:(Value.type AB==Value.type "dict")=false:=by decide
    have G:H.IsList l items:=⟨_,x,Cd,nl,rfl⟩;subst D;unfold cZf.«set.__init__» noKeywords Builtin.Frozenset.updateFrom;generalize T:pyIter=PI;wp_walk;subst T;refine cVR (l:=l) (items:=items) ?hl ?_;case hl=>exact G
    refine cQo (wpAny_runValue ?_);have y:l<s.heap.objs.size:=cQC P;have U:A.in1.in1.in1.handled=none:=by simp[hh]
    have B:l≠H.objs.size:=by rw[f];exact cQP (cXB y)
    have Z:s.heap.objs.size∉ [H.objs.size,l]:=by rw[f];simp only[cQz,cZ4,or_false,not_or];exact⟨cQP (cXM _),cZ7 y⟩
    have J:∀ (i:Nat)(v:cQp),items[i]? =some v->∃t,v= .int ((λi=>K.getD i 0) i) t:=λi v hv=>
     cVC hi i v (by rw[cXZ];exact hv)
    refine bJ8 (Walks.list U _ l B items) s.heap.objs.size Z (λi=>K.getD i 0) J M (items.size - 0) 0 _ (by omega) (cXo _) ⟨⟨_,cQS _ rfl,Cd,rfl⟩,G.push _⟩ ?hS0 ?hR;case hS0=>exact C.at λo e=>cQu _ e
    case hR=>
     intro h' tk hk k;show cQw _ _ _ _ _ _;refine cQs ?_;show cQw _ _ (ret Value.none) _ _ _;refine cQs ⟨rfl,h',tk,Cd,k,λb o e=>?_⟩;have M:=cQC e;refine hk b o (λz=>?_) (cQu _ (p _ _ e));simp only[cQz,cZ4,or_false]at z;rcases z with z|z
     ·exact cQP M z
     ·rw[z]at M;have L:H.objs.size<s.heap.objs.size:=M;rw[f]at L;exact absurd L (Nat.not_lt.mpr (cZv _))
   ·cases u with
    |error e=>exact a
    |ok n=>
     cases n with
     |ret r=>
      obtain⟨rfl,h',tk,rfl,k,Y⟩:=a;repeat (any_goals (first|assumption|wp_step))
      exact h _ _ k Y
     |_=>exact a.elim
  |_=>exact V.elim
end
end Stb
set_option tactic.hygienic false
namespace L2
open PySem PySem.Spec PyProof.Rows
section
variable {X:Cx}{tg:Expr}
end
section
variable {X:Cx}
inductive aZJ(K:cQq)(xs:List V)(H:Hp)(Q:VK):Prop|mk(x c t b)(_:xs= [x,.ty c])(_:aJF K H x t)(_:cXd K t (.type c)=some b)(_:Q (.bl b) H)
def zD:jV X (.builtin AV) (aZJ X.K):=by
 intro a s σ H g i Q I r h;obtain⟨x,c,t,b,rfl,ty,e,q⟩:=h;obtain⟨u,v,rfl,d,f⟩:=xY.two r;cases f;exact aYn I d ty e λtk=>⟨.bl b,H,I.tok tk,Cd,q⟩
def bKE(w:cQ1)(a:Nat)(b:List Int):HO:= .ext λh=>Stb.aXi w h a b
def bXm(G:X.calm=true):jV X (.type B6) (λn H Q=>∃ (p:Nat)(a:List Int),n= [.ref p]/\SqL X.K H p (a.map V.int)/\a.length<4000/\∀ (l:Nat)(f:List Int),H l=none->f.Nodup->f.length<=a.length->(∀d,d∈f↔d∈a)->Q (.ref l) (upd H l (bKE X.w l f))):=by
 intro A s σ H n O Q I r h;obtain⟨p,a,rfl,E,S,q⟩:=h;obtain⟨u,rfl,B⟩:=aXf r;cases B;obtain⟨b,D,C,P⟩:=I.list E;have v:cZZ b a:=aXz D;have y:b.length=a.length:=v.length;refine Stb.z6 (I.ok.hd G) C.isList (by simpa using v) (by rw[cQF];unfold cJW;omega) λU tk c F=>?_;rw[cQF]at c;have g:(Stb.met (λi=>a.getD i 0) b.length).Nodup:=by obtain⟨o,L,M,t,R,_,_,_,_,_,g,_⟩:=c;exact g
 have hl:=Stb.aJW (λi=>a.getD i 0) b.length;refine⟨.ref s.heap.objs.size,_,I.laid (t':=tk) (o:=bKE X.w s.heap.objs.size (Stb.met (λi=>a.getD i 0) b.length)) F (cQv _) ⟨c,c.there,λN T z k=>z.at k⟩,Cd,q _ _ I.fresh g (by omega) λd=>?_⟩;rw[Stb.aYD];constructor
 ·rintro⟨j,x,rfl⟩;have m:j<a.length:=by omega
  simp[cQ8,cQn m]
 ·intro J;obtain⟨j,x,e⟩:=cXe J;exact⟨j,by omega,by simp[cQ8,cQn x,e]⟩
def aXj(B:X.calm=true):jV X (.builtin AT) (λk H Q=>∃ (p:Nat)(e:List Int),k= [.ref p]/\H p=some (bKE X.w p e)/\e.length<64/\∀ (l:Nat)(b:List Int),H l=none->b.Perm e->b.Pairwise (·<=·)->Q (.ref l) (upd H l (.lst (b.map V.int)))):=by
 intro c s σ H k D Q I r h;obtain⟨p,e,rfl,C,g,q⟩:=h;obtain⟨u,rfl,v⟩:=aXf r;cases v;obtain⟨o,_,_⟩:=(show zJ X.prog X.w H s.heap p (bKE X.w p e)from I.hok p _ C);refine Stb.aKK (I.ok.hd B) o g λl m tk d out b n hl A y t f i=>?_;have z:H l=none:=I.hok.fresh hl;have j:b.length<=cQM:=by rw[f.length_eq,cQQ];omega
 have a:Inv X c σ (upd H l (.lst (b.map V.int))) {s with heap:=m,toks:=tk}:=I.laid A hl ⟨by rw[cQt];exact j,out,n,jH t,y⟩;have x:Inv X c σ (upd H l (.lst (b.map V.int))) {s with heap:=m,toks:=tk,drawn:=d}:=by refine⟨a.ok,a.os,a.bare,a.base,a.loc,a.cell,a.free,a.freeC,a.pin,a.hok,a.len⟩
 exact⟨.ref l,_,x,Cd,q l b z f i⟩
def aVo(n d:Nat)(a:Nat):HT.sIx n d (some (a:Int))=min a n:=by
 unfold HT.sIx;simp only;split<;> omega
end
end L2
namespace L2
open PySem PySem.Spec PyProof.Rows
def uQ(K:cQq):cXd K (.type "NoneType") (.type AB)=some false:=by kernel_rfl
def v1(K:cQq):cXd K (.type "NoneType") (.type AD)=some false:=by kernel_rfl
def J9(K:cQq):cXd K (.type An) (.type An)=some true:=by kernel_rfl
def aJU(K:cQq):cXd K (.type An) (.type As)=some true:=by kernel_rfl
def qH(K:cQq):cXd K (.type An) (.type Ah)=some false:=by kernel_rfl
def aZZ(K:cQq):cXd K (.type An) (.type AB)=some false:=by kernel_rfl
def aX0(K:cQq):cXd K (.type An) (.type AD)=some false:=by kernel_rfl
def qI(K:cQq):cXd K (.type As) (.type An)=some false:=by kernel_rfl
def aXB(K:cQq):cXd K (.type As) (.type As)=some true:=by kernel_rfl
def jM(K:cQq):cXd K (.type As) (.type Ah)=some false:=by kernel_rfl
def aQy(K:cQq):cXd K (.type As) (.type AB)=some false:=by kernel_rfl
def Q0(K:cQq):cXd K (.type As) (.type AD)=some false:=by kernel_rfl
def aQz(K:cQq):cXd K (.type Ah) (.type An)=some false:=by kernel_rfl
def aWU(K:cQq):cXd K (.type Ah) (.type As)=some false:=by kernel_rfl
def vE(K:cQq):cXd K (.type Ah) (.type Ah)=some true:=by kernel_rfl
def aQA(K:cQq):cXd K (.type Ah) (.type AB)=some false:=by kernel_rfl
def Q1(K:cQq):cXd K (.type Ah) (.type AD)=some false:=by kernel_rfl
def zM(K:cQq):cXd K (.type AB) (.type AB)=some true:=by kernel_rfl
def wE(K:cQq):cXd K (.type AB) (.type AD)=some false:=by kernel_rfl
def aZ0(K:cQq):cXd K (.type AD) (.type Ah)=some false:=by kernel_rfl
def zF(K:cQq):cXd K (.type AD) (.type AB)=some false:=by kernel_rfl
def zX(K:cQq):cXd K (.type AD) (.type AD)=some true:=by kernel_rfl
section
variable {X:Cx}{pins:List (Nat×Obj)}{σ:St}{H:Hp}{s:cQr}
def aWQ{E:cQp->cQr->Prop}{Q:cQp->cQr->Prop}{u t:cQp}{tp:Nat}(I:Inv X pins σ H s)(d:zL x u)(ty:aJF X.K H x t) (r:cJi s.heap tp cs.toArray) (e:PySem.W.kitAny X.K t cs=some b) (h:∀tk,Q (.bool b) {s with toks:=tk}):cQw (cQx X.prog X.w) A (call (.builtin AV) [u,.ref tp]) Q E s:=by
 obtain⟨⟨cls,P,data,R⟩,f,v,n,B⟩:=r;simp only at v B;subst v B;cases ty with
 |non=>cases (show u=Value.none from d);exact cX5 PySem.W.kitx_none I.kIn cXN f e (λz=>nomatch z) h
 |bl y=>cases (show u=Value.bool y from d);exact cX5 PySem.W.kitx_bool I.kIn cXN f e (λz=>nomatch z) h
 |int i=>obtain⟨t,q⟩:=(show ∃t,u=Value.int i t from d);cases q;exact cX5 PySem.W.kitx_int I.kIn cXN f e (λz=>nomatch z) h
 |str y=>obtain⟨t,q⟩:=(show ∃t,u=Value.str y t from d);cases q;exact cX5 PySem.W.kitx_str I.kIn cXN f e (λz=>nomatch z) h
 |flt y=>obtain⟨t,q⟩:=(show ∃t,u=Value.float y t from d);cases q;exact cX5 PySem.W.kitx_float I.kIn cXN f e (λz=>nomatch z) h
 |@lst a k c=>cases (show u=Value.ref a from d);obtain⟨_,_,n,_,g⟩:=(show zJ X.prog X.w H s.heap a (.lst k)from I.hok a _ c);exact cX5 cJ0 I.kIn ⟨_,g,rfl⟩ f e (λz=>nomatch z) h
 |@frz a N k c=>cases (show u=Value.ref a from d);obtain⟨_,_,_,n,_,g⟩:=(show zJ X.prog X.w H s.heap a (.frz N (.lst k))from I.hok a _ c);exact cX5 cJ0 I.kIn ⟨_,g,rfl⟩ f e (λz=>nomatch z) h
 |@tup a k c=>cases (show u=Value.ref a from d);obtain⟨_,_,_,p⟩:=(show zJ X.prog X.w H s.heap a (.tup k)from I.hok a _ c);obtain⟨o,g,l,_⟩:=p;exact cX5 PySem.W.kitx_tuple I.kIn ⟨o,g,l⟩ f e (λz=>nomatch z) h
 |@dK a j c=>cases (show u=Value.ref a from d);obtain⟨_,_,U,_,p⟩:=(show zJ X.prog X.w H s.heap a (.dK j)from I.hok a _ c);obtain⟨o,D,G,g,l,_⟩:=p;exact cX5 cJZ I.kIn ⟨o,g,l.1⟩ f e (λz=>nomatch z) h
 |@dT a j c=>cases (show u=Value.ref a from d);obtain⟨_,_,k,_,o,D,G,g,l,_⟩:=(show zJ X.prog X.w H s.heap a (.dT j)from I.hok a _ c);exact cX5 cJZ I.kIn ⟨o,g,l.1⟩ f e (λz=>nomatch z) h
 |@ins a C T fs c cl L M m F=>cases (show u=Value.ref a from d);obtain⟨Y,O,_⟩:=aQt I.hok c;obtain⟨S,J,_⟩:=O.look;exact cX5 (PySem.W.kitx_own (cl.get _) cl.hd L M m F) I.kIn J f e (λz=>nomatch z) h
end
section
variable {X:Cx}
inductive aWE(K:cQq)(xs:List V)(H:Hp)(Q:VK):Prop|mk(x p c d t b b')(_:xs= [x,.ref p])(_:SqT K H p [.ty c,.ty d])(_:aJF K H x t)(_:cXd K t (.type c)=some b)(_:cXd K t (.type d)=some b')(_:Q (.bl (b || b')) H)
def qR:jV X (.builtin AV) (aWE X.K):=by
 intro pins s σ H w z Q I r h;obtain⟨x,p,c,d,t,b,a,rfl,o,ty,f,k,q⟩:=h;obtain⟨u,v,rfl,g,m⟩:=xY.two r;cases m;obtain⟨n,l,j,_⟩:=I.tuple o;obtain⟨A,y,rfl,i,e⟩:=xY.two l;cases i;cases e;refine aWQ I g ty j (b:=b || a) ?_ λtk=>⟨.bl (b || a),H,I.tok tk,rfl,q⟩;unfold PySem.W.kitAny;rw[f];cases b
 ·simp only[Bool.false_or];unfold PySem.W.kitAny;rw[k];cases a<;> rfl
 ·rfl
inductive bKr(K:cQq)(x:V)(y:V)(H:Hp)(Q:VK):Prop|mk(a b xs)(_:x= .ref a)(_:y= .ref b)(_:SqL K H a xs)(_:SqL K H b [])(_:Q (.bl xs.isEmpty) H)
inductive bKs(K:cQq)(x:V)(y:V)(H:Hp)(Q:VK):Prop|mk(a b xs)(_:x= .ref a)(_:y= .ref b)(_:SqL K H a xs)(_:SqL K H b [])(_:Q (.bl (!xs.isEmpty)) H)
def aX7(d:X.A.units<cLine):OpR X (cXW .Eq) (bKr X.K):=by
 intro pins s σ H x y v u Q I g n h;obtain⟨a,b,p,rfl,rfl,l,m,q⟩:=h;cases g;cases n;obtain⟨t,o,c,_⟩:=I.list l;obtain⟨r,k,f,_⟩:=I.list m;cases k;cases o with
 |nil=>exact SeqAt.eq_listAt (e:=λ_=>true) c.isList f.isList rfl d (λj i w=>absurd i (cX3 _)) ⟨.bl true,H,I,Cd,q⟩
 |cons _ _=>exact SeqAt.eq_list_lengthsAt c.isList f.isList (by simp) d ⟨.bl false,H,I,Cd,q⟩
def wR(d:X.A.units<cLine):OpR X (cXW .NotEq) (bKs X.K):=by
 intro pins s σ H x y v u Q I g n h;obtain⟨a,b,p,rfl,rfl,l,m,q⟩:=h;cases g;cases n;obtain⟨t,o,c,_⟩:=I.list l;obtain⟨r,k,f,_⟩:=I.list m;cases k;cases o with
 |nil=>have z:=SeqAt.RcNeAt.lists (A:=X.A) (s:=s) (e:=λ_=>true) c.isList f.isList rfl d (λj i B=>absurd i (cX3 _));exact z X.prog X.w X.xe _ ⟨.bl false,H,I,Cd,q⟩
 |cons _ _=>exact(SeqAt.RcNeAt.lists_lengths c.isList f.isList (by simp) d) X.prog X.w X.xe _ ⟨.bl true,H,I,Cd,q⟩
structure FnG(P:cQO)(w:cQ1)(K:cQq)(mg:Str->Option cQp)(base:Heap)(k:Nat)(x:Str)(ps:List Str)(sp:Sp):Prop where
 ex:∃f fd,xH P w K mg base CX0 k f fd ps sp/\uB K fd ps []/\cXm K (.ref f)=true/\mg x=some (.ref f)
def FnG.mono{P:cQO}{w:cQ1}{K:cQq}{mg:Str->Option cQp}{base:Heap}{j k:Nat}{x:Str}{c:List Str}{sp:Sp}(G:FnG P w K mg base j x c sp)(h:j<=k):FnG P w K mg base k x c sp:=
 let ⟨f,fd,a,b⟩:=G.ex;⟨f,fd,a.mono h,b⟩
def xN{k:Nat}{sp:Sp}{t:TA}(G:FnG X.prog X.w X.K X.mg X.base k x n sp)(j:v0 k X.A)(g:Gl X x)(l:PA X (e::a) t)
  (d:(x==(AO:Str))=false:=by decide) (i:cQ5 (e::a) X.env=(false,eval e X.env)::cQ5 a X.env:=by rfl) (c:(cX6 pos (cQ5 a X.env)).any (·.1)=false:=by rfl):
  PE X (.Call (.Name x p) (e::a) [] pos) (bZ3 sp [] E0 t):=by
 obtain⟨f,o,F,b,h,m⟩:=G.ex
 exact aY6 F j g m h b .nil v7 l d i c
end
inductive Dt where
 |non|bl (b:Bool)|int (n:Int)|str (x:Str)|lst (ds:List Dt)|tup (ds:List Dt)
mutual
def Is(H:Hp):V->Dt->Prop
 |v,.non=>v= .non
 |v,.bl b=>v= .bl b
 |v,.int n=>v= .int n
 |v,.str x=>v= .str x
 |v,.lst ds=>∃a c,v= .ref a/\H a=some (.lst c)/\x4 H c ds
 |v,.tup ds=>∃a c,v= .ref a/\H a=some (.tup c)/\x4 H c ds
def x4(H:Hp):List V->List Dt->Prop
 |[],[]=>True
 |x::xs,d::ds=>Is H x d/\x4 H xs ds
 |_,_=>False
end
mutual
def Dt.size:Dt->Nat
 |.lst a=>1+zY a
 |.tup a=>1+zY a
 |_=>1
def zY:List Dt->Nat
 |[]=>0
 |d::ds=>d.size+zY ds
end
def x4.length{H:Hp}:∀ {xs:List V} {ds:List Dt},x4 H xs ds->xs.length=ds.length
 |[],[],_=>rfl
 |_::xs,_::ds,h=>by unfold x4 at h;simp[x4.length h.2]
 |[],_::_,h=>by unfold x4 at h;exact h.elim
 |_::_,[],h=>by unfold x4 at h;exact h.elim
def x4.get{H:Hp}:∀ {xs:List V} {ds:List Dt} {i:Nat} {d:Dt},x4 H xs ds->ds[i]? =some d->∃x,xs[i]? =some x/\Is H x d
 |x::xs,d::ds,0,_,h,e=>by unfold x4 at h;simp at e;subst e;exact⟨x,Cd,h.1⟩
 |_::xs,_::ds,i+1,d,h,e=>by unfold x4 at h;simpa using x4.get (i:=i) (d:=d) h.2 (by simpa using e)
 |[],[],_,_,_,e=>by simp at e
 |[],_::_,_,_,h,_=>by unfold x4 at h;exact h.elim
 |_::_,[],_,_,h,_=>by unfold x4 at h;exact h.elim
def x9{t u:TS}(R:L2.St->Hp->Prop)(d:∀a b,R a b->u D a b)(c:(∀a b,R a b->u D a b)->t {D with nx:=u D} σ H):bYa t u D σ H:=c d
def onT{A B:Prop}(e:c=true)(h:A):if c=true then A else B:=by rw[e];exact h
def onF{A B:Prop}(e:c=false)(h:B):if c=true then A else B:=by rw[e];exact h
def z0:([]:List V).length<=cQM:=by decide
def z1: [a].length<=cQM:=by show 1<=cQM;decide
def z2: [a,b].length<=cQM:=by show 2<=cQM;decide
def z3: [a,b,c].length<=cQM:=by show 3<=cQM;decide
def z4: [a,b,c,d].length<=cQM:=by show 4<=cQM;decide
def z5: [a,b,c,d,e].length<=cQM:=by show 5<=cQM;decide
def zn{l:List V}(h:l.length<=100000):l.length<=cQM:=by rw[cQQ];omega
def zlt{l:List V}(h:l.length<=100000):l.length<cQM:=by rw[cQQ];omega
def xG.fresh(k:xG H a)(h:a p=none):H p=none:=by
 cases e:H p with
 |none=>rfl
 |some o=>rw[k _ _ e]at h;cases h
def yE(h:H p=none)(o:HO):xG H (upd H p o):=λb u q=>by rw[yJ (yI q h)];exact q
end L2
namespace Rvl
open PySem PyProof.Rows
section
variable {prog:cQO}{w:cQ1}{A:cXi}{E:cQp->cQr->Prop}{s:cQr}
end
end Rvl
namespace L2
open PySem PySem.Spec PyProof.Rows
section
variable {X:Cx}
end
end L2
namespace L2
open PySem PySem.Spec PyProof.Rows
def qY{k:TE}{Q:VK}(p:Nat->Bool)(f:Nat->V)(B:H D=none)(hz:n<=cQM) (t:∀i,i<n->∀ (c:Hp)(R:Bool->Hp->Prop),(∀b,b≠D->c b=H b)->R (p i) c->d (sub σ h (some (.int (i:Nat)))) c R) (x:∀i,i<n->p i=true->∀ (c:Hp)(R:VK),(∀b,b≠D->c b=H b)->R (f i) c->k (sub σ h (some (.int (i:Nat)))) c R) (u:Q (.ref D) (upd H D (.lst (((cQy n).filter p).map f)))):bWB (Itr 0 n) h d k σ D Q (upd H D (.lst [])):=by
 refine⟨λi m j c=>m=n - i/\i<=n/\j=((cQy i).filter p).map f/\c=upd H D (.lst j),⟨n,by simp,cXo _,by simp,rfl⟩,?_⟩;rintro i m j c ⟨rfl,y,rfl,rfl⟩;refine⟨yB,?_⟩;by_cases a:i<n
 ·refine .inr ⟨a,λv z q=>?_⟩;obtain⟨o,s⟩:=q;subst o;subst s;rw[cZL];have e:∀b,b≠D->upd H D (.lst (((cQy i).filter p).map f)) b=H b:=λb w=>yJ w;have g:(((cQy i).filter p).map f).length<cQM:=by
   rw[cQt];have r:=cXn p (cQy i);rw[cXh]at r;omega
  refine t i a _ _ e ?_;cases l:p i with
  |false=>show ∃A,_;refine⟨n - (i+1),by omega,Cd,a,?_,rfl⟩;rw[cZP,cXC,cX8 (by rw[l];decide)];simp
  |true=>show k _ _ _;refine x i a l _ _ e ⟨g,yB,n - (i+1),by omega,Cd,a,?_,by rw[jG]⟩;rw[cZP,cXC,cX9 l];simp
 ·obtain rfl:i=n:=by omega
  exact .inl ⟨cQv _,u⟩
end L2
namespace Stree
open PySem PySem.W PyProof.Rows
def Asks{α:Type}(n:Nat)(lt:Nat->Nat->Bool):KasT α->(α->Prop)->Prop
 |.ret a,Q=>Q a
 |.ask i j k,Q=>i<n/\j<n/\Asks n lt (k (lt i j)) Q
def Asks.bind{α β:Type}{lt:Nat->Nat->Bool}{f:α->KasT β}{Q:β->Prop}:∀ {t:KasT α} {R:α->Prop},Asks n lt t R->(∀a,R a->Asks n lt (f a) Q)->Asks n lt (t.bind f) Q
 |.ret a,R,h,hf=>hf a h
 |.ask i j k,R,h,hf=>⟨h.1,h.2.1,Asks.bind (t:=k (lt i j)) h.2.2 hf⟩
def Asks.wp{α:Type}{lt:Nat->Nat->Bool}{b:Nat->Nat->(Bool->cQr->Prop)->cQr->Prop}{G:α->cQr->Prop}(c:∀i j C,i<n->j<n->C (lt i j) s->b i j C s):
  ∀ {t:KasT α} {R:α->Prop},Asks n lt t R->(∀a,R a->G a s)->t.kasWp b G s
 |.ret a,R,h,hf=>hf a h
 |.ask i j k,R,h,hf=>c i j _ h.1 h.2.1 (Asks.wp c (t:=k (lt i j)) h.2.2 hf)
section
variable {n:Nat}{r:Nat->Int}{p:Array Nat}
abbrev Q3(r:Nat->Int):Nat->Nat->Bool:=λi j=>decide (r i<r j)
abbrev R(r:Nat->Int)(p:Array Nat)(k:Nat):Int:=r (p.getD k 0)
structure Ok(n:Nat)(p:Array Nat):Prop where
 perm:p.toList.Perm (cQy n)
def Ok.size(h:Ok n p):p.size=n:=by have:=h.perm.length_eq;simpa using this
def Ok.lt(h:Ok n p)(h0:0<n)(k:Nat):p.getD k 0<n:=by
 by_cases a:k<p.size
 ·have:p.toList[k]'(by simpa using a)∈p.toList:=cZG _;have:=cQT.mp (h.perm.mem_iff.mp this);simpa[cZW,a]using this
 ·simpa[cZW,a]using h0
def Ok.ne(h:Ok n p)(f:i<n)(k:j<n)(c:i≠j):p.getD i 0≠p.getD j 0:=by
 have g:=h.size;have d:p.toList.Nodup:=h.perm.nodup_iff.mpr cJC;intro e;have a:i<p.size:=by omega
 have b:j<p.size:=by omega
 simp[cZW,a,b]at e;have:=(cZg (xs:=p.toList) (h₀:=by simpa using a) (h₁:=by simpa using b) d).mp (by simpa using e);exact c this
def Inj(n:Nat)(r:Nat->Int):Prop:=∀i j,i<n->j<n->r i=r j->i=j
def Ok.rne(h:Ok n p)(d:Inj n r)(b:i<n)(c:j<n)(a:i≠j):R r p i≠R r p j:=λe=>
 h.ne b c a (d _ _ (h.lt (by omega) i) (h.lt (by omega) j) e)
def Srt(r:Nat->Int)(p:Array Nat)(k:Nat):Prop:=∀i j,i<j->j<k->R r p i<R r p j
def Dsc(r:Nat->Int)(p:Array Nat)(k:Nat):Prop:=∀i j,i<j->j<k->R r p j<R r p i
def Srt.one:Srt r p 1:=λi j b a=>by omega
def aXY(p:Array Nat)(k:Nat):p.getD k 0=(p[k]?).getD 0:=by simp[cZW,cZR];split<;> simp_all
def aZE(h:Ok n p)(hr:Inj n r):∀ (f m:Nat),1<=m->m+f<=n->Srt r p m->Asks n (Q3 r) (kas_asc p f m) (λm'=>m<=m'/\m'<=m+f/\Srt r p m'/\(m'<m+f->R r p m'<R r p (m' - 1)))
 |0,m,h1,h2,hs=>⟨cQv _,cQv _,hs,λz=>absurd z (by omega)⟩
 |f+1,m,h1,h2,hs=>by
  refine⟨h.lt (by omega) _,h.lt (by omega) _,?_⟩
  by_cases c:r (p.getD m 0)<r (p.getD (m - 1) 0)
  ·have e:Q3 r (p.getD m 0) (p.getD (m - 1) 0)=true:=decide_eq_true c
   rw[e];show Asks n (Q3 r) (ite _ _ _) _;rw[if_pos rfl]
   exact⟨cQv _,by omega,hs,λ_=>c⟩
  ·have e:Q3 r (p.getD m 0) (p.getD (m - 1) 0)=false:=decide_eq_false c
   rw[e];show Asks n (Q3 r) (ite _ _ _) _;rw[if_neg (by decide)]
   have hne:=h.rne hr (i:=m) (j:=m - 1) (by omega) (by omega) (by omega)
   have hlt:R r p (m - 1)<R r p m:=by
    have:¬R r p m<R r p (m - 1):=c
    omega
   have hs':Srt r p (m+1):=λi j hij hj=>by
    by_cases hjm:j<m
    ·exact hs i j hij hjm
    ·have:j=m:=by omega
     subst this
     by_cases hi:i=j - 1
     ·rw[hi];exact hlt
     ·have:=hs i (j - 1) (by omega) (by omega);omega
   have z:=aZE h hr f (m+1) (by omega) (by omega) hs'
   have e2:m+1+f=m+(f+1):=by omega
   rw[e2]at z
   exact Asks.mono z λm' ⟨a,b,c,d⟩=>⟨by omega,b,c,d⟩
where
 Asks.mono {α:Type} {n:Nat} {lt:Nat->Nat->Bool} {Q Q':α->Prop}:∀ {t:KasT α},Asks n lt t Q->(∀a,Q a->Q' a)->Asks n lt t Q'
  |.ret a,h,hf=>hf a h
  |.ask i j k,h,hf=>⟨h.1,h.2.1,Asks.mono (t:=k (lt i j)) h.2.2 hf⟩
def aYb(h:Ok n p)(q:Inj n r):∀ (f m:Nat),1<=m->m+f<=n->Dsc r p m->Asks n (Q3 r) (kas_desc f p m 0) (λz=>z.1=p/\z.2.2=0/\m<=z.2.1/\z.2.1<=m+f/\Dsc r p z.2.1)
 |0,m,h1,h2,hs=>⟨rfl,Cd,cQv _,cQv _,hs⟩
 |f+1,m,h1,h2,hs=>by
  refine⟨h.lt (by omega) _,h.lt (by omega) _,?_⟩;by_cases c:r (p.getD m 0)<r (p.getD (m - 1) 0)
  ·have e:Q3 r (p.getD m 0) (p.getD (m - 1) 0)=true:=decide_eq_true c;rw[e];show Asks n (Q3 r) (ite _ _ _) _;rw[if_pos rfl,if_neg (by omega)];have g:Dsc r p (m+1):=λi j l w=>by
    by_cases o:j<m
    ·exact hs i j l o
    ·have:j=m:=by omega
     subst this;have s:R r p j<R r p (j - 1):=c;by_cases t:i=j - 1
     ·rw[t];exact s
     ·have:=hs i (j - 1) (by omega) (by omega);omega
   have z:=aYb h q f (m+1) (by omega) (by omega) g;have u:m+1+f=m+(f+1):=by omega
   rw[u]at z;exact aZE.Asks.mono z λz ⟨a,b,c,d,e⟩=>⟨a,b,by omega,d,e⟩
  ·have e:Q3 r (p.getD m 0) (p.getD (m - 1) 0)=false:=decide_eq_false c;rw[e];show Asks n (Q3 r) (ite _ _ _) _;rw[if_neg (by decide)];refine⟨h.lt (by omega) _,h.lt (by omega) _,?_⟩;have v:=h.rne q (i:=m) (j:=m - 1) (by omega) (by omega) (by omega);have k:R r p (m - 1)<R r p m:=by
    have:¬R r p m<R r p (m - 1):=c;omega
   have e:Q3 r (p.getD (m - 1) 0) (p.getD m 0)=true:=decide_eq_true k;rw[e];show Asks n (Q3 r) (ite _ _ _) _;rw[if_pos rfl];exact⟨rfl,Cd,cQv _,Nat.le_add_right _ _,hs⟩
def bWM(a:m<=p.size)(k:Nat)(b:k<m):R r (kas_rev p 0 m) k=R r p (m - 1 - k):=by
 unfold R kas_rev;rw[aXY,aXY,getElem?_mirror_all a,if_pos ⟨cXo _,b⟩,Nat.zero_add]
def bJE(h:Ok n p)(m:Nat):Ok n (kas_rev p 0 m):=⟨(cVH.mp (mirror_perm p 0 m _)).trans h.perm⟩
def bZ9(h:Ok n p)(o:Inj n r)(g:1<=m)(e:m<=n)(k:Dsc r p m):Asks n (Q3 r) (kas_tail3 m n p) (λz=>1<=z.1/\z.1<=n/\Ok n z.2/\Srt r z.2 z.1):=by
 have d:Srt r (kas_rev p 0 m) m:=λi j f l=>by rw[bWM (by rw[h.size];exact e) i (by omega),bWM (by rw[h.size];exact e) j l];exact k _ _ (by omega) (by omega)
 refine Asks.bind (aZE (bJE h m) o (n - m) m g (by omega) d) λm' ⟨a,b,c,_⟩=>?_;exact⟨by omega,by omega,bJE h m,c⟩
def bXp(h:Ok n p)(g:Inj n r)(y:1<=n):Asks n (Q3 r) (kas_count n p) (λz=>1<=z.1/\z.1<=n/\Ok n z.2/\Srt r z.2 z.1):=by
 refine Asks.bind (aZE h g (n - 1) 1 (cQv _) (by omega) Srt.one) λm ⟨a,b,c,d⟩=>?_;by_cases e:m=n
 ·rw[if_pos (by simpa using e)];exact⟨a,by omega,h,c⟩
 ·rw[if_neg (by simpa using e)];by_cases o:m > 1
  ·rw[if_pos o];refine⟨h.lt (by omega) _,h.lt (by omega) _,?_⟩;have f:R r p 0<R r p (m - 1):=c 0 (m - 1) (by omega) (by omega);have v:Q3 r (p.getD 0 0) (p.getD (m - 1) 0)=true:=decide_eq_true f;rw[v];show Asks n (Q3 r) (ite _ _ _) _;rw[if_pos rfl];exact⟨a,by omega,h,c⟩
  ·rw[if_neg o];have w:m=1:=by omega
   subst w;have x:=d (by omega);refine Asks.bind (aYb h g (n - 2) 2 (by omega) (by omega) ?_) λz ⟨z1,z2,z3,z4,z5⟩=>?_
   ·intro i j s l;have u:i=0:=by omega
    have l:j=1:=by omega
    subst u;subst l;exact x
   ·obtain⟨q,k,t⟩:=z;simp only at z1 z2 z3 z4 z5;subst z1;subst z2;rw[if_neg (by simp)];exact bZ9 h g (by show 1<=k;omega) (by show k<=n;omega) z5
def aX8(h:Ok n p)(q:Inj n r){k:Nat}(t:k<n)(b:Srt r p k):∀ (f l u:Nat),l<=u->u<=k->u - l<=f->(∀i,i<l->R r p i<R r p k)->(∀i,u<=i->i<k->R r p k<R r p i)->
  Asks n (Q3 r) (kas_place p k f l u) (λm=>m<=k/\(∀i,i<m->R r p i<R r p k)/\∀i,m<=i->i<k->R r p k<R r p i)
 |0,l,u,h1,h2,h3,h4,h5=>⟨by omega,h4,λi g a=>h5 i (by omega) a⟩
 |f+1,l,u,h1,h2,h3,h4,h5=>by
  unfold kas_place;by_cases c:l≥u
  ·rw[if_pos c];exact⟨by omega,h4,λi g a=>h5 i (by omega) a⟩
  ·rw[if_neg c];refine⟨h.lt (by omega) _,h.lt (by omega) _,?_⟩;have w:(l+u) / 2<u:=by omega
   have hl:l<=(l+u) / 2:=by omega
   by_cases d:r (p.getD k 0)<r (p.getD ((l+u) / 2) 0)
   ·have e:Q3 r (p.getD k 0) (p.getD ((l+u) / 2) 0)=true:=decide_eq_true d;rw[e];show Asks n (Q3 r) (ite _ _ _) _;rw[if_pos rfl];refine aX8 h q t b f l _ hl (by omega) (by omega) h4 λi g a=>?_;have s:R r p k<R r p ((l+u) / 2):=d;by_cases o:i=(l+u) / 2
    ·rw[o];exact s
    ·have:=b ((l+u) / 2) i (by omega) a;omega
   ·have e:Q3 r (p.getD k 0) (p.getD ((l+u) / 2) 0)=false:=decide_eq_false d;rw[e];show Asks n (Q3 r) (ite _ _ _) _;rw[if_neg (by decide)];have s:¬R r p k<R r p ((l+u) / 2):=d;have v:=h.rne q (i:=k) (j:=(l+u) / 2) (by omega) (by omega) (by omega);refine aX8 h q t b f _ u (by omega) h2 (by omega) (λi g=>?_) h5;by_cases o:i=(l+u) / 2
    ·rw[o];omega
    ·have:=b i ((l+u) / 2) (by omega) (by omega);omega
def bWL{k l:Nat}(h:k<p.size)(hl:l<=k)(i:Nat):R r (bubble p k (k - l)) i=if i=l then R r p k else if l<i/\i<=k then R r p (i - 1)else R r p i:=by
 have e:=getElem?_bubble h (k - l) (by omega) i;rw[show k - (k - l)=l by omega]at e;have d:∀q:Array Nat,∀a b:Nat,∀c:Array Nat,q[a]? =c[b]? ->R r q a=R r c b:=λq a b c z=>by unfold R;rw[aXY,aXY,z]
 by_cases f:i=l
 ·rw[if_pos f]at e ⊢;exact d _ _ _ _ e
 ·rw[if_neg f]at e ⊢;by_cases g:l<i/\i<=k
  ·rw[if_pos g]at e ⊢;exact d _ _ _ _ e
  ·rw[if_neg g]at e ⊢;exact d _ _ _ _ e
def bJn(s:Inj n r):∀ (f k:Nat)(p:Array Nat),Ok n p->k+f=n->Srt r p k->Asks n (Q3 r) (kas_bin f p k) (λq=>Ok n q/\Srt r q n)
 |0,k,p,h,e,hs=>⟨h,by rw[<- e];exact hs⟩
 |f+1,k,p,h,e,hs=>by
  refine Asks.bind (aX8 h s (k:=k) (by omega) hs k 0 k (by omega) (cQv _) (by omega) (λi d=>absurd d (by omega)) (λi d b=>absurd b (by omega))) λl ⟨h1,h2,h3⟩=>?_;refine bJn s f (k+1) _ ⟨(cVH.mp (bubble_perm p k _)).trans h.perm⟩ (by omega) λi j t u=>?_;have g:k<p.size:=by rw[h.size];omega
  rw[bWL g h1,bWL g h1];by_cases o:i=l
  ·rw[if_pos o];by_cases a:j=l
   ·omega
   ·rw[if_neg a,if_pos ⟨by omega,by omega⟩];exact h3 _ (by omega) (by omega)
  ·rw[if_neg o];by_cases a:j=l
   ·rw[if_pos a,if_neg (by omega)];exact h2 i (by omega)
   ·rw[if_neg a];by_cases c:l<i/\i<=k
    ·rw[if_pos c,if_pos ⟨by omega,by omega⟩];exact hs _ _ (by omega) (by omega)
    ·rw[if_neg c];by_cases m:l<j/\j<=k
     ·rw[if_pos m];by_cases cl:i=j - 1
      ·omega
      ·exact hs _ _ (by omega) (by omega)
     ·rw[if_neg m];exact hs _ _ (by omega) (by omega)
def bWm(a:Inj n r)(b:1<=n):Asks n (Q3 r) (kas_sort n) (λp=>Ok n p/\Srt r p n):=by
 have h0:Ok n (cXz (cQy n)):=⟨by simp⟩;refine Asks.bind (bXp h0 a b) λz ⟨h1,h2,h3,h4⟩=>?_;by_cases c:z.1<n
 ·rw[if_pos c,Nat.max_eq_left h1];exact bJn a _ _ _ h3 (by omega) h4
 ·rw[if_neg c];exact⟨h3,by rw[show n=z.1 by omega];exact h4⟩
def aJq(g:Inj n r)(d:1<=n):Asks n (Q3 r) (kas_sort n) (λp=>p.toList.Perm (cQy n)/\p.toList.Pairwise (λi j=>r i<r j)):=by
 refine aZE.Asks.mono (bWm g d) λp ⟨h1,h2⟩=>⟨h1.perm,?_⟩;rw[cZY];intro i j e f b;have c:i<p.size:=by simpa using e
 have a:j<p.size:=by simpa using f
 have z:=h2 i j b (by rw[<- h1.size];exact a);simpa[R,cZW,c,a]using z
end
end Stree
namespace Stree
open PySem PySem.W PySem.Calls PyProof.Rows
section
variable {prog:cQO}{w:cQ1}{A:cXi}{E:cQp->cQr->Prop}
def aZP{f:cQp}{vs:List cQp}{kS:Nat}{J:List cQp->cQr->Prop}{body:cQp->PUnit->Sem (ForInStep PUnit)}
  (e:∀a s v,J a s->vs[a.length]? =some v->cQw (cQx prog w) A (body v ⟨⟩) (λr b=>r= .yield ⟨⟩/\∃k,J (a++ [k]) b) E s):
  ∀ (r a:List cQp)(s:cQr),vs.drop a.length=r->a.length<=vs.length->J a s->cQw (cQx prog w) A (forIn r PUnit.unit body) (λ_ b=>∃a,a.length=vs.length/\J a b) E s
 |[],a,s,hr,hle,hJ=>by rw[List.forIn_nil];refine cQs ⟨a,?_,hJ⟩;have:=congrArg cZs hr;rw[List.length_drop]at this;simp at this;omega
 |v::r,a,s,hr,hle,hJ=>by
  rw[cVg];have d:vs[a.length]? =some v:=by have:=congrArg (λl=>l[0]?) hr;simpa using this
  have g:a.length<vs.length:=by
   rcases cJs a.length vs.length with h|h
   ·exact h
   ·rw[cQW h]at d;cases d
  refine cQo (cXs (e a s v hJ d) (λq b i=>?_) λ_ _ x=>x);obtain⟨rfl,k,c⟩:=i;show cQw (cQx prog w) A (forIn r PUnit.unit body) _ E b;refine aZP (kS:=kS) (f:=f) e r (a++ [k]) b ?_ (by rw[cQL,cXx];omega) c;rw[cQL,cXx,List.drop_add_one_eq_tail_drop,hr];rfl
def bKI{s:cQr}{a:Nat}{vs:List cQp}{f:cQp}{b:Bool}{P:PySem.Fin->cQr->Prop}{n0:Nat}(X:s.heap.get? a=some (cXb AB vs.toArray n0))(a5:vs.length<64)(J:Nat->List cQp->cQr->Prop) (h0:∀n q,(∀c o,c≠a->s.heap.get? c=some o->q.get? c=some o)->q.get? a=some (cXb AB #[] n)->q.get? (s.heap.objs.size+1)=some (cXb AB #[] 0)->J n [] {s with heap:=q}) (hget:∀n g l,J n g l->(∃e,l.heap.get? (s.heap.objs.size+1)=some (cXb AB g.toArray e))/\l.heap.get? a=some (cXb AB #[] n)) (hcall:∀n g l v,J n g l->vs[g.length]? =some v->cQw (cQx prog w) A (call f [v]) (λk m=>(∃e,m.heap.get? (s.heap.objs.size+1)=some (cXb AB g.toArray e))/\ ∀q c,cZr (s.heap.objs.size+1) m.heap q->q.get? (s.heap.objs.size+1)=some (cXb AB (g++ [k]).toArray c)->J n (g++ [k]) {m with heap:=q}) (λ_ _=>False) l) (hend:∀n g l,J n g l->g.length=vs.length->∃r:Nat->Int,Inj vs.length r/\ (2<=vs.length->∃κ,(∀Q:SortKind->cQr->Prop,Q κ l->cQw (cQx prog w) A (keyKind' g.toArray) Q (λ_ _=>False) l)/\∀i j C,i<vs.length->j<vs.length->C (decide (r i<r j)) l->kas_ask prog w A κ (katRev b g) i j C l)/\ ∀ (p:List Nat) q c y,p.Perm (cQy vs.length)->p.Pairwise (λi j=>r i<r j)->(∀d,d≠a->d≠s.heap.objs.size+1->q.get? d=l.heap.get? d)->q.get? (s.heap.objs.size+1)=some (cXb AB #[] c)-> q.get? a=some (cXb AB (katRev b (p.map λi=>(katRev b vs).getD i Value.none)).toArray y)->P (.done (.ret .none)) {l with heap:=q}): cQw (cQx prog w) A (ksk_tree a f b) P E s:=by
 have ha:a<s.heap.objs.size:=cQC X;have R:a≠s.heap.objs.size+1:=cQP (cXB ha);obtain⟨n,O⟩:∃n,(s.heap.update a (cXj λ_=>(#[]:Array cQp))).get? a=some (cXb AB #[] n):=⟨_,cJk X λ_=> #[]⟩;have U:((s.heap.update a (cXj λ_=>(#[]:Array cQp))).push (cXb AD vs.toArray 0)).objs.size=s.heap.objs.size+1:=by rw[size_push',Heap.size_update]
 unfold ksk_tree;refine cQo (listItems_at X rfl ?_);refine cQo (cJH X rfl ?_ (by rw[cQF,cQQ];omega) (cXo _));refine cQo (seqEpoch_at O rfl ?_);refine cQo (wpAny_newTuple ?_ (by show vs.length<=_;rw[cQQ];omega));refine cQo (cJK ?_ (cXo _));refine cXK ?_;have J0:=h0 n (((s.heap.update a (cXj λ_=>(#[]:Array cQp))).push (cXb AD vs.toArray 0)).push (cXb AB #[] 0))
  (λc o hc e=>cQu _ (cQu _ ((cQ2 _ _ (cQ6 hc)).trans e)))
  (cQu _ (cQu _ O)) (by rw[<- U];exact cQS _ rfl)
 show cQw _ _ (ksk_rest a f b vs.toArray n (.ref ((s.heap.update a (cXj λ_=>(#[]:Array cQp))).push (cXb AD vs.toArray 0)).objs.size)) _ _ _;rw[U];unfold ksk_rest;refine cQo (cVp ?_);first
  |rw[List.forIn_toArray]
  |(rw[<- Array.forIn_toList];simp only[cVs])
  |rw[<- Array.forIn_toList]
 refine cQo (cXs (aZP (f:=f) (kS:=s.heap.objs.size+1) (J:=J n) (vs:=vs) (λg l v Y hv=>?_) vs [] _ (by simp) (cXo _) J0) (λ_ l hd=>?_) λ_ _ x=>x)
 ·have b1:g.length<vs.length:=by
   rcases cJs g.length vs.length with h|h
   ·exact h
   ·rw[cQW h]at hv;cases hv
  refine cQo (cJJ (cXs (hcall n g l v Y hv) (λk m hk=>?_) λ_ _ hF=>hF.elim));obtain⟨⟨e,nk⟩,c⟩:=hk;have s1:=cXU m.heap (s.heap.objs.size+1) (cXj (·.push k));have ea:(cXz g).push k=cXz (g++ [k]):=by simp
  obtain⟨y,K⟩:∃y,(m.heap.update (s.heap.objs.size+1) (cXj (·.push k))).get? (s.heap.objs.size+1)=some (cXb AB (cXz (g++ [k])) y):=⟨_,by rw[<- ea];exact cJk nk (·.push k)⟩;try dsimp only
  refine cQo (cJH nk rfl ?_ (by rw[cQF,cQQ];omega) (cQZ (cZ5 (Array.size_push ..)) (by rw[cQF,cQQ];omega)));exact cQs ⟨rfl,k,c _ y s1 K⟩
 ·obtain⟨g,hl,Y⟩:=hd;obtain⟨⟨e,I⟩,a7⟩:=hget n g l Y;try dsimp only
  refine cQo (listItems_at I rfl ?_);obtain⟨r,hr,N,T⟩:=hend n g l Y hl;have step:∀t:Sem PySem.Fin,cQw (cQx prog w) A t P E l->cQw (cQx prog w) A (if b=true then(do let _ <- rule "list.sort.reverse";t)else t) P E l:=by
   intro t ht;split
   ·exact cQo (cVp ht)
   ·exact ht
  have L:(katRev b g).length=(katRev b vs).length:=by rw[kat_len,kat_len,hl]
  have D:∀ (Z:SortSt)(p:List Nat),p.Perm (cQy vs.length)->p.Pairwise (λi j=>r i<r j)->(arrOf Z).map (·.2)=cXz (p.map λi=>(katRev b vs).getD i Value.none)->failedOf Z=none->
    cQw (cQx prog w) A (ksk_tail a b n (.ref (s.heap.objs.size+1)) Z) P E l:=by
   intro Z p B G S hf
   have a9:p.length=vs.length:=by rw[B.length_eq,cXh]
   obtain⟨ck,a0⟩:∃ck,(l.heap.update (s.heap.objs.size+1) (cXj λ_=>(#[]:Array cQp))).get? (s.heap.objs.size+1)=some (cXb AB #[] ck):=⟨_,cJk I λ_=> #[]⟩
   have na:(l.heap.update (s.heap.objs.size+1) (cXj λ_=>(#[]:Array cQp))).get? a=some (cXb AB #[] n):=(cQ2 _ _ (cQ6 R)).trans a7
   obtain⟨y,K⟩:∃y,((l.heap.update (s.heap.objs.size+1) (cXj λ_=>(#[]:Array cQp))).update a (cXj λ_=>cXz (katRev b (p.map λi=>(katRev b vs).getD i Value.none)))).get? a=some (cXb AB (cXz (katRev b (p.map λi=>(katRev b vs).getD i Value.none))) y):=
    ⟨_,cJk na λ_=>cXz (katRev b (p.map λi=>(katRev b vs).getD i Value.none))⟩
   have b0:(cXz (katRev b (p.map λi=>(katRev b vs).getD i Value.none))).size=vs.length:=by rw[cQF,kat_len,cQt,a9]
   unfold ksk_tail
   try dsimp only
   rw[S,kat_outs]
   refine cQo (cJH I rfl ?_ (by rw[cQF,cQQ];omega) (cXo _))
   refine cQo (wpAny_letGo ?_)
   refine cQo (seqEpoch_at na rfl ?_)
   refine cQo (cJH na rfl ?_ (cXo _) (cQZ (cZ5 b0) (by rw[cQQ];omega)))
   rw[hf]
   simp only[bne_self_eq_false,Bool.false_eq_true,if_false]
   refine cQs (T p _ ck y B G (λd h1 u=>?_) ?_ K)
   ·exact(cQ2 _ _ (cQ6 h1)).trans (cQ2 _ _ (cQ6 u))
   ·exact(cQ2 _ _ R).trans a0
  unfold ksk_end;try dsimp only
  refine step _ ?_;rw[kat_pairs b hl];by_cases u:vs.toArray.size<2
  ·rw[if_pos u,if_pos u];refine cQo (cQs ?_);refine cQo (cQs ?_);have H:vs.length<2:=by rw[cQF]at u;exact u
   refine D _ (cQy vs.length) (List.Perm.refl _) ?_ ?_ rfl
   ·rw[cZY];intro i j W hj b2;rw[cXh]at W hj;omega
   ·show((cXz (katRev b g)).zip (cXz (katRev b vs))).map (·.2)=_;apply Array.toList_inj.mp;rw[Array.toList_map,Array.toList_zip];simp only[cVs];have n:(cJR (katRev b g) (katRev b vs)).map (·.2)=katRev b vs:=List.map_snd_zip (cZ5 L.symm);rw[n];apply cZc;intro i;rw[cQJ];by_cases W:i<vs.length
    ·have F:i<(katRev b vs).length:=by rw[kat_len];exact W
     rw[cZq W];simp[cQ8,cQn F]
    ·have F:(katRev b vs).length<=i:=by rw[kat_len];omega
     rw[cQW F,cQW (by rw[cXh];omega)];rfl
  ·have H:2<=vs.length:=by rw[cQF]at u;omega
   rw[if_neg u,if_neg u];obtain⟨κ,hκ,V⟩:=N H;refine cQo (cXs (hκ (λk m=>k=κ/\m=l) ⟨rfl,rfl⟩) (λk m hq=>?_) λ_ _ x=>x.elim);obtain⟨rfl,rfl⟩:=hq;have a6:(kas_sort (katRev b vs).length).kasWp (kas_ask prog w A k (katRev b g)) (λp M=>M=m/\p.toList.Perm (cQy vs.length)/\p.toList.Pairwise (λi j=>r i<r j)) m:=by rw[kat_len];exact Asks.wp (lt:=Q3 r) V (aJq hr (by omega)) λp hp=>⟨rfl,hp⟩
   refine cQo (cXs (kat_run (Q:=λz M=>∃p:Array Nat,arrOf z=p.map (kas_item ((cXz (katRev b g)).zip (cXz (katRev b vs))))/\failedOf z=none/\
     M=m/\p.toList.Perm (cQy vs.length)/\p.toList.Pairwise (λi j=>r i<r j))
    L (by rw[kat_len];exact H) (by rw[kat_len];exact a5) (λp' z M a1 a2 a3 a4=>⟨p',a2,a3,a4⟩) a6) ?_ λ_ _ x=>x)
   rintro⟨⟨⟩,z⟩ M ⟨p,a8,hf,rfl,B,G⟩;try dsimp only
   exact D _ p.toList B G (kat_snds L a8) hf
end
end Stree
namespace L2
open PySem PySem.Spec PyProof.Rows
abbrev bK4(X:Cx)(A:cXi)(N:List Str)(qual:Str)(sc:Scope)(L q:Nat)(cd:cQp)(cl:List (Str×Nat))(s:cQr)(H:Hp):Cx:=
 {X with A:=A.deeper (PySem.W.envX qual sc L q cd cl),N:=N,s₀:=s,H₀:=H,env:=PySem.W.envX qual sc L q cd cl,outer:=X.stack,stack:=PySem.W.envX qual sc L q cd cl::X.stack,ex:= [],fn:=λ_=>false,calm:=true,pn:= [],xe:=λ_ _=>False}
section
variable {X:Cx}{pins:List (Nat×Obj)}{σ:St}{H:Hp}{s:cQr}
def bXH{names:List Str}{Q:VK} (I:Inv X pins σ H s) (hA:A.frames=some X.stack) (hd:A.handled=none) (D:A.depth<recursionLimit) (S:xP X.N X.env.scope x names M f) (a4:f.isCoroutine=false) (R:f.isGenerator=false) (a:∀y c,cl.lookup y=some c->X.env.cells.lookup y=some c) (B:∀y,(y,NameKind.free)∈f.names->∃c,cl.lookup y=some c) (ho:s.heap.get? q=some (cZA name qual d body f cl pm n P)) (a0:s.heap.CodeRec (.ref n) qual) (K:∀u:cQp,cJa (PySem.W.kla_fn name qual d body f cl pm (.ref n) P) ⟨[u],[]⟩=pure [(x,u)]) (he:∀A L cd s H,PE (bK4 X A (x::names) qual f L q cd cl s H) body te) (r:zL v u) (h:te (sub σ M (some v)) H Q): cQw (cQx X.prog X.w) A (call (.ref q) [u]) (EP X pins σ Q) (λ_ _=>False) s:=by
 have a3:cZC (cQx X.prog X.w) A (.call (.ref q) ⟨[u],[]⟩) (λr s'=>match r with|.ok (.ret u)=>EP X pins σ Q u s'|_=>False) s:=by
  refine PySem.W.kla_callFunE D ho rfl a4 R rfl a0 ?_;rw[K u];refine cQs (wpAny_newFunctionEnv S.nocell (λy hy=>by rw[cQD.mp hy];exact S.var) (λC a5 a1=>?_) S.kind);have keep:∀b o,s.heap.get? b=some o->C.get? b=some o:=λb o e=>a1.extBut b o (cQP (cQC e)) (cQu _ e);refine⟨I.nolimit.keeps keep,?_⟩;show cZC _ _ (.expr body (PySem.W.envX qual f s.heap.objs.size q (.ref n) cl)) _ _;have a2:(bK4 X A (x::names) qual f s.heap.objs.size q (.ref n) cl s H).Ok:=by
   refine⟨I.ok.mod,S.kind,Cd,Cd,cQv _,?_,?_,?_,λ_=>hd,Around.frames_deeper hA,.inr ⟨rfl,rfl⟩,?_,I.bs,cQZ I.ok.bsz I.sz,?_,?_,I.stack,I.stkFree⟩
   ·exact λy z c Z T=>I.ok.inj y z c (a y c Z) (a z c T)
   ·intro y hy;have g:f.names.lookup y=some .cell\/f.names.lookup y=some .free:=hy;rcases g with g|g
    ·exact absurd rfl (S.nocell _ (cXV g))
    ·exact B y (cXV g)
   ·exact λy c h _=>by cases h
   ·exact λb K=>absurd (show b∈([]:List Nat)from K) (by simp)
   ·exact λb o _ K=>absurd (show b∈([]:List Nat)from K) (by simp)
   ·exact λb K=>absurd (show b∈([]:List Nat)from K) (by simp)
  have IY:Inv (bK4 X A (x::names) qual f s.heap.objs.size q (.ref n) cl s H) [] (sub σ M (some v)) H {s with heap:=C,toks:=s.toks+ [(x,u)].length}:=by
   refine⟨a2,Cd,I.bare,Un.kept keep,⟨_,a5,?_⟩,?_,I.hok.fresh (cQv _),λy c e=>I.freeC y c (a y c e),λp hp=>absurd (show p∈([]:List (Nat×Obj))from hp) (by simp),I.hok.kept keep,?_⟩
   ·intro i y t Z T h3;cases i with
    |zero=>
     have F:x=y:=by simpa using Z
     have G:v=t:=by have z:(some (some v):Option (Option V))=some (some t):=T;cases z;rfl
     subst F;subst G;exact⟨u,r,.inl ⟨S.var,by simp[cZJ]⟩⟩
    |succ j=>
     have F:names[j]? =some y:=Z;obtain⟨U,e1,e2,Y⟩:=S.from_ j y F;have G:σ[U]? =some (some t):=by
      have z:(M.map λi=>(σ[i]?).join)[j]? =some (some t):=T;rw[cQJ,e1]at z;have l:(σ[U]?).join=some t:=cQI z;cases q:σ[U]? with
      |none=>rw[q]at l;cases l
      |some o=>rw[q]at l;rw[show o=some t from l]
     obtain⟨m,hn,hl⟩:=I.loc;have O:Vis X.env.scope y:= .inr (S.free _ Y rfl);obtain⟨u',ru,lk⟩:=hl U y t e2 G O;refine⟨u',ru,.inr ⟨?_,?_⟩⟩
     ·exact .inr (S.flk _ Y rfl)
     ·rcases lk with⟨k,_⟩|⟨k,c,e,z⟩
      ·rcases S.free _ Y rfl with z|z
       ·have l:X.env.kindOf y=some .cell:=z;rw[k]at l;cases l
       ·have l:X.env.kindOf y=some .free:=z;rw[k]at l;cases l
      ·obtain⟨n,e'⟩:=B y Y;have:=a y n e';rw[e]at this;cases this;exact⟨c,e',z.keeps keep⟩
   ·intro y c e;obtain⟨v,z⟩:=I.cell y c (a y c e);exact⟨v,z.keeps keep⟩
   ·show(sub σ M (some v)).length=(x::names).length;simp[sub,S.len]
  refine PySem.W.kla_codeExpr (cXs (he A s.heap.objs.size (.ref n) s H [] _ (sub σ M (some v)) H Q IY h) (λw s' E=>?_) (λ_ _ z=>z.elim));obtain⟨t,H',J,rv,q⟩:=E;exact I.after ⟨t,H',J.os,J.bare,J.base,J.hok,rv,q⟩
 refine cJE (cZj a3 λr s' E=>?_);cases r with
 |error e=>exact E
 |ok fl=>
  cases fl with
  |ret u=>exact E
  |next=>exact E
  |brk=>exact E
  |cont=>exact E
end
end L2
namespace L2
open PySem PySem.Spec PyProof.Rows
def aK4(c:Nat)(qual:Str):HO:= .ext λh=>h.CodeRec (.ref c) qual
def bW9(q:Nat)(o:Obj):HO:= .ext λh=>h.get? q=some o
def bXo(r:h.CodeRec (.ref c) qual):zJ P w H h c (aK4 c qual):=by
 obtain⟨q,o,s,t,e,b,m,n⟩:=id r;cases e;refine⟨r,⟨o,b⟩,λb m z k=>?_⟩;obtain⟨p,f,a,j,l,i,g,d⟩:=z;cases l;exact⟨_,f,a,j,Cd,k _ i,g,d⟩
def aYJ(r:h.get? q=some o):zJ P w H h q (bW9 q o):=⟨r,⟨o,r⟩,λa b z k=>k _ z⟩
def X5(pos:Pos)(qual:Str)(P:Nat)(H:Hp):Prop:=
 H P=some (.tbl #[])\/∃a,H P=some (.tbl (#[]++ #[cXI pos.line,cXI pos.col,.ref a]))/\H a=some (aK4 a qual)
def zA(H a:Hp):Prop:=∀b o,(∀c,o≠ .tbl c)->H b=some o->a b=some o
def xG.t(k:xG H a):zA H a:=λb o _ e=>k b o e
def zA.refl(H:Hp):zA H H:=λ_ _ _ e=>e
def zA.trans(a:zA H d)(b:zA d f):zA H f:=λc o n e=>b c o n (a c o n e)
def zA.lst(k:zA H b)(h:H a=some (.lst xs)):b a=some (.lst xs):=k a _ (λ_ z=>nomatch z) h
def zA.tup(k:zA H b)(h:H a=some (.tup xs)):b a=some (.tup xs):=k a _ (λ_ z=>nomatch z) h
def zA.ext(k:zA H b){φ:Heap->Prop}(h:H a=some (.ext φ)):b a=some (.ext φ):=k a _ (λ_ z=>nomatch z) h
def zA.seq{K:cQq}{H b:Hp}{a:Nat}{xs:List V}(k:zA H b)(h:SqL K H a xs):SqL K b a xs:=by
 rcases h with h|h
 ·rcases h with h|⟨o,h⟩
  ·exact .inl (.inl (k.lst h))
  ·exact .inl (.inr ⟨o,k a _ (λ_ z=>nomatch z) h⟩)
 ·exact .inr h
def aVI:PySem.TriplesOk (#[]:Array cQp).toList:=trivial
def aVJ:PySem.TriplesOk ((#[]++ #[cXI a,cXI b,v]:Array cQp)).toList:=trivial
def aKU:codeAmong pos ((#[]++ #[cXI pos.line,cXI pos.col,v]:Array cQp)).toList=some v:=by
 show(if((pos.line:Int)==pos.line && (pos.col:Int)==pos.col)=true then some v else _)=some v;simp
section
variable {X:Cx}{pins:List (Nat×Obj)}{σ:St}{H:Hp}{s:cQr}
def Inv.tab(I:Inv X pins σ H s)(g:H P=some (.tbl d))(f:cJ3 P s.heap h')(j:h'.get? P=some {cls:= .none,data:= .fields (d++more) }): Inv X pins σ (upd H P (.tbl (d++more))) {s with heap:=h',toks:=t'}:=by
 have h:∀b,H b=none->b≠P:=λb n z=>by rw[z,g]at n;cases n
 have ne:∀b o,H b=some o->(∀d,o≠ .tbl d)->b≠P:=λb o e n z=>by subst z;rw[g]at e;cases e;exact n _ rfl
 refine I.un (t':=t') ⟨λb o e n _ _=>f b o (h b n) e,λb o e n _ _=>⟨o.slots,f b o (h b n) e⟩,λb o e n _=>by rw[yJ (h b n)];exact n,λb o e _=>?_,λb k e=>?_,λb o u e=>?_,λb l e=>?_⟩ λb u e=>?_
 ·by_cases a:b=P
  ·exact⟨_,by rw[a];exact j⟩
  ·exact⟨o,f b o a e⟩
 ·rw[yJ (ne b _ e λ_ z=>nomatch z)];exact e
 ·rw[yJ (ne b _ e λ_ z=>nomatch z)];exact e
 ·by_cases a:b=P
  ·subst a;rw[g]at e;cases e;exact⟨more,yB⟩
  ·exact⟨#[],by rw[yJ a,e];simp⟩
 ·by_cases a:b=P
  ·subst a;rw[yB]at e;cases e;exact j
  ·rw[yJ a]at e;refine(I.hok b u e).stay (λc v i q=>f c v ?_ q) (λc q=>?_) λc k q=>?_
   ·rcases i with rfl|i
    ·exact a
    ·exact ne c _ i λ_ z=>nomatch z
   ·rw[yJ (ne c _ q λ_ z=>nomatch z)];exact q
   ·rw[yJ (ne c _ q λ_ z=>nomatch z)];exact q
def bXI{E:cQp->cQr->Prop}{Q:cQp->cQr->Prop}(I:Inv X pins σ H s)(B:closureFor r X.env=pure cl)(j:X.env.code= .ref c) (C:cZt X.base c P) (hB:X.base.BuiltinsAt X.mg P) (hT:X5 pos qual P H) (hq:∀ (q f:Nat)(g:cQp)(L:Hp)(s':cQr),Inv X pins σ L s'->H q=none->L q=some (bW9 q (cZA name qual d body r cl ((X.mg Ad).getD .none) f g))->L f=some (aK4 f qual)->X5 pos qual P L->zA H L->Q (.ref q) s'): cQw (cQx X.prog X.w) X.A (makeFunction name qual d (.expr body) r X.env [] [] [] pos fl) Q E s:=by
 have V:s.heap.Ns cQX X.mg:=I.ok.mod.glob.keeps I.bk;have hC:=C.keeps I.bk;obtain⟨bm,ob,b1,b2,b3,b4,b5,b6⟩:=hB;have M:s.heap.BuiltinsAt X.mg P:=⟨bm,ob,b1,b2,b3,b4,I.bk _ _ b5,b6⟩;rcases hT with p|⟨f,p,K⟩
 ·have l:s.heap.get? P=some (cZ0 #[]):=I.hok P _ p;have a0:cQX≠P:=λz=>by
   obtain⟨o,es,ep,e,hd,_⟩:=V;rw[z,l]at e;cases e;cases hd
  refine PySem.W.kla_makeFunction (mg:=X.mg) B I.ok.glob V j hC l aVI rfl a0 M λf g h tk O m J G x=>?_;have T:=I.tab (t':=tk) p O x;have y:P≠f:=cQP (cQR (cQC l) m);have Y:H f=none:=I.hok.fresh m;have R:upd H P (.tbl (#[]++ #[cXI pos.line,cXI pos.col,.ref f])) f=none:=by rw[yJ (cQ6 y)];exact Y
  have I2:Inv X pins σ (upd (upd H P (.tbl (#[]++ #[cXI pos.line,cXI pos.col,.ref f]))) f (aK4 f qual)) {s with heap:=h,toks:=tk}:=by
   have a1:cJ3 P s.heap h:=O;have nP:∀b,H b=none->b≠P:=λb n z=>by rw[z,p]at n;cases n
   have ne:∀b o,H b=some o->(∀ps,o≠ .tbl ps)->b≠P:=λb o e n z=>by subst z;rw[p]at e;cases e;exact n _ rfl
   have Z:∀b o,s.heap.get? b=some o->b≠f:=λb o e=>cQP (cQR (cQC e) m);have S:∀b,b≠P->b≠f->upd (upd H P (.tbl (#[]++ #[cXI pos.line,cXI pos.col,.ref f]))) f (aK4 f qual) b=H b:=λb h1 h2=>by rw[yJ h2,yJ h1]
   have hl:∀b u,H b=some u->b≠f:=λb u e=>yI e Y;refine I.un (t':=tk) ⟨λb o e n _ _=>O b o (nP b n) e,λb o e n _ _=>⟨o.slots,O b o (nP b n) e⟩,λb o e n _=>by rw[S b (nP b n) (Z b o e)];exact n,λb o e _=>?_,λb xs e=>?_,λb o u e=>?_,λb qs e=>?_⟩ λb u e=>?_
   ·by_cases N:b=P
    ·exact⟨_,by rw[N];exact x⟩
    ·exact⟨o,O b o N e⟩
   ·rw[S b (ne b _ e λ_ z=>nomatch z) (hl b _ e)];exact e
   ·rw[S b (ne b _ e λ_ z=>nomatch z) (hl b _ e)];exact e
   ·by_cases N:b=P
    ·subst N;rw[p]at e;cases e;exact⟨_,by rw[yJ y];exact yB⟩
    ·exact⟨#[],by rw[S b N (hl b _ e),e];simp⟩
   ·by_cases D:b=f
    ·subst D;rw[yB]at e;cases e;exact bXo G
    ·rw[yJ D]at e;refine(T.hok b u e).stay (λc v _ q=>q) (λc q=>?_) λc xs q=>?_
     ·rw[yJ (yI q R)];exact q
     ·rw[yJ (yI q R)];exact q
  have i:H h.objs.size=none:=I.hok.fresh (cQZ m (cZ6 J));have I3:=I2.laid (a:=h.objs.size) (o:=bW9 h.objs.size (cZA name qual d body r cl ((X.mg Ad).getD .none) f g)) (t':=tk) (h':=h.push (cZA name qual d body r cl ((X.mg Ad).getD .none) f g))
   (λb o e=>cQu _ e) (cQv _) (aYJ (cQS _ rfl))
  have F:f≠h.objs.size:=cQP J;have U:P≠h.objs.size:=cQP (cQC x);refine hq h.objs.size f g _ _ I3 i yB (by rw[yJ F];exact yB) (.inr ⟨f,by rw[yJ U,yJ y];exact yB,by rw[yJ F];exact yB⟩) λb o n e=>?_;have h1:b≠P:=λz=>by subst z;rw[p]at e;cases e;exact n _ rfl
  rw[yJ (yI e i),yJ (yI e Y),yJ h1];exact e
 ·have l:s.heap.get? P=some (cZ0 (#[]++ #[cXI pos.line,cXI pos.col,.ref f])):=I.hok P _ p;refine PySem.W.kla_makeFunctionHit (mg:=X.mg) B I.ok.glob V j hC l aVJ aKU M λg h tk hk m=>?_;have T:Inv X pins σ H {s with heap:=h,toks:=tk}:=I.kept hk;have i:H h.objs.size=none:=T.hok.fresh (cQv _);have I3:=T.laid (a:=h.objs.size) (o:=bW9 h.objs.size (cZA name qual d body r cl ((X.mg Ad).getD .none) f g)) (t':=tk) (h':=h.push (cZA name qual d body r cl ((X.mg Ad).getD .none) f g))
   (λb o e=>cQu _ e) (cQv _) (aYJ (cQS _ rfl))
  have k:=yE i (bW9 h.objs.size (cZA name qual d body r cl ((X.mg Ad).getD .none) f g));exact hq h.objs.size f g _ _ I3 i yB (k _ _ K) (.inr ⟨f,k _ _ p,k _ _ K⟩) k.t
end
end L2
namespace Stree
open PySem PySem.W PySem.Calls PyProof.Rows
def aQp{α:Type}(p q:α->Bool):∀ (l:List α),(∀a∈l,p a=true->q a=true)->(∃a∈l,p a=false/\q a=true)->l.countP p<l.countP q
 |[],_,h=>by obtain⟨a,b,_⟩:=h;cases b
 |x::r,hs,h=>by
  have e:r.countP p<=r.countP q:=List.countP_mono_left λa b=>hs a (cQB _ b);obtain⟨a,b,c,d⟩:=h;rcases cQz.mp b with rfl|b
  ·rw[cJ8,cJ8,c,d];simp;omega
  ·have g:=aQp p q r (λa b=>hs a (cQB _ b)) ⟨a,b,c,d⟩;rw[cJ8,cJ8];have:=hs x cQG;cases f:p x with
   |false=>cases q x<;> simp<;> omega
   |true=>rw[this f];simp;omega
def aVg(lt:Nat->Nat->Bool)(f:∀i,i<n->lt i i=false)(p:∀i j k,i<n->j<n->k<n->lt i j=true->lt j k=true->lt i k=true)(g:∀i j,i<n->j<n->i≠j->lt i j=true\/lt j i=true): ∃r:Nat->Int,Inj n r/\∀i j,i<n->j<n->decide (r i<r j)=lt i j:=by
 refine⟨λi=>((cQy n).countP λm=>lt m i:Nat),?_,?_⟩
 ·have up:∀i j,i<n->j<n->lt i j=true->((cQy n).countP λm=>lt m i)<((cQy n).countP λm=>lt m j):=λi j a c h=>
   aQp _ _ _ (λm o d=>p m i j (cQT.mp o) a c d h) ⟨i,cQT.mpr a,f i a,h⟩
  intro i j a c e;by_cases b:i=j
  ·exact b
  ·exfalso;have q:(((cQy n).countP λm=>lt m i:Nat):Int)=((cQy n).countP λm=>lt m j:Nat):=e;rcases g i j a c b with h|h
   ·have:=up i j a c h;omega
   ·have:=up j i c a h;omega
 ·intro i j a c;have up:∀i j,i<n->j<n->lt i j=true->((cQy n).countP λm=>lt m i)<((cQy n).countP λm=>lt m j):=λi j a c h=>
   aQp _ _ _ (λm o d=>p m i j (cQT.mp o) a c d h) ⟨i,cQT.mpr a,f i a,h⟩
  cases h:lt i j with
  |true=>have:=up i j a c h;exact decide_eq_true (by show(((cQy n).countP λm=>lt m i:Nat):Int)<((cQy n).countP λm=>lt m j:Nat);omega)
  |false=>
   refine decide_eq_false ?_;show ¬ (((cQy n).countP λm=>lt m i:Nat):Int)<((cQy n).countP λm=>lt m j:Nat);by_cases b:i=j
   ·subst b;omega
   ·rcases g i j a c b with l|l
    ·rw[h]at l;cases l
    ·have:=up j i c a l;omega
section
variable {prog:cQO}{w:cQ1}{A:cXi}{E:cQp->cQr->Prop}{s:cQr}
def aXS{r:Nat}{n:Nat}{t u v:Tok}{Q:List cQp->cQr->Prop}(U:A.handled=none)(N:IsRange s.heap r 0 n 1 t u v)(V:n<64) (P:∀p tk H,(∀b o,s.heap.get? b=some o->p.get? b=some o)->s.heap.objs.size<p.objs.size->cZZ H ((cQy n).map Int.ofNat)->Q H {s with heap:=p,toks:=tk}):cQw (cQx prog w) A (collect (.ref r)) Q E s:=by
 have S:Builtin.Range.rangeSize 0 n 1=(n:Int):=by rw[rangeSize_one];split<;> omega
 have C:Builtin.Range.small 0 n 1=true:=small_one (by decide) (by decide) (by omega) (by omega);unfold collect;refine cQo (wpAny_runValue (cZB F.entry_proto_collect ?_));rw[cZl F.plain_proto_collect _];show cQw _ A.in1 (newList [] >>=λl=>again (.builtin "list.__iadd__" ⟨[l,.ref r],[]⟩)) _ _ s;refine cQo (cXG ?_);refine cQs ⟨cJI F.plain_list_iadd _,cZB F.entry_list_iadd ?_⟩;rw[cZl F.plain_list_iadd _];have d:(s.heap.push {cls:= .type AB,data:= .seq ([]:List cQp).toArray}).get? s.heap.objs.size=some {cls:= .type AB,data:= .seq ([]:List cQp).toArray}:=cQS _ rfl;show cQw _ A.in1 (cJv (.ref s.heap.objs.size) (.ref r) (.ref s.heap.objs.size)) _ _ _;refine cXs (wpAny_extend_range (A:=A) (R:=λq y=>q= .ok (.ret (.ref s.heap.objs.size))/\∃a g,y.heap.get? s.heap.objs.size=some {cls:= .type AB,dict:=none,data:= .seq a g,slots:= #[] }/\Q a.toList y) (s:={s with heap:=s.heap.push {cls:= .type AB,data:= .seq ([]:List cQp).toArray} }) U (cQu _ N) C S (by omega) s.heap.objs.size (.ref s.heap.objs.size) 0 d λp tk a g M j c=>⟨rfl,a,g,j,?_⟩) (λfin y B=>?_) λe y K=>by obtain⟨z,_⟩:=K;cases z
 rotate_left
 ·cases fin with
  |done f=>
   obtain⟨e,a,g,h,m⟩:=B;have T:f= .ret (.ref s.heap.objs.size):=by cases e;rfl
   subst T;exact cQo (wpAny_load h (cQs m))
  |again g=>
   exact⟨B.1,cZj B.2 λq J O=>by
    obtain⟨rfl,a,g,h,m⟩:=O;exact cQo (wpAny_load h (cQs m))⟩
 refine P p tk a.toList (λb o e=>M b o (cQP (cQC e)) (cQu _ e)) (cQC j) ?_;have len:a.toList.length=n:=by rw[cXJ];exact c.1
 have all:∀ (k:Nat)(l:List cQp),l.length<=n->k+l.length=n->(∀i v,l[i]? =some v->∃t,v=Value.int ((k+i:Nat):Int) t)->cZZ l ((List.range' k l.length).map Int.ofNat):=by
  intro k l;induction l generalizing k with
  |nil=>intro _ _ _;exact .nil
  |cons x l I=>
   intro h m G;obtain⟨t,rfl⟩:=G 0 x rfl;rw[cXp,List.range'_succ,cXa];exact .cons _ _ (I (k+1) (by rw[cXp]at h;omega) (by rw[cXp]at m;omega) λi v D=>by
    obtain⟨L,e⟩:=G (i+1) v D;exact⟨L,by rw[e,show k+(i+1)=k+1+i by omega]⟩)
 have z:=all 0 a.toList (by omega) (by omega) λi v D=>by obtain⟨t,e⟩:=c.2 i v (by rw[<- cXZ];exact D);exact⟨t,by rw[e,show(0:Int)+(i:Int)*1=((0+i:Nat):Int) by omega]⟩
 rw[len]at z;rw[List.range_eq_range'];exact z
def aJr{r:Nat}{n:Nat}{t u v:Tok}{b:Bool}{f:cQp}{g:List (Str×cQp)}{Q:cQp->cQr->Prop}(F:A.handled=none)(D:IsRange s.heap r 0 n 1 t u v)(G:n<64) (p:argsOk AT ⟨[.ref r],g⟩) (k:∀x,argsOk "list.sort" ⟨[.ref x],g⟩) (H:∀x,cZf.«list.sort» ⟨[.ref x],g⟩=ksk_tree x f b) (h:∀a c tk d,(∀b o,s.heap.get? b=some o->c.get? b=some o)->s.heap.objs.size<=a->c.get? a=some (cXb AB d.toArray 0)->cZZ d ((cQy n).map Int.ofNat)-> cQw (cQx prog w) A.in1.in1 (ksk_tree a f b) (λfin z=>fin= .done (.ret .none)/\Q (.ref a) z) (λ_ _=>False) {s with heap:=c,toks:=tk}): cQw (cQx prog w) A (call (.builtin AT) [.ref r] g) Q E s:=by
 refine call_function_entry_kw kind_sorted plain_sorted entry_sorted p ?_;unfold cZf.«sorted»;refine cQo (m:=checkCount AT 1 1 _) (cQs ?_);refine cQo (aXS (A:=A.in1) (by simpa using F) D G λc tk d C j y=>?_);have B:d.length=n:=by rw[y.length];simp
 refine cQo (cJK ?_ (by rw[cQQ];omega));have i:(c.push (cXb AB d.toArray 0)).get? c.objs.size=some (cXb AB d.toArray 0):=cQS _ rfl;have q:s.heap.objs.size<=c.objs.size:=cZ6 j;refine cQo (cXK (wpAny_call_entry_kw slot_list_sort ⟨_,i,rfl⟩ entry_list_sort ?body (k _)));case body=>
  show cQw (cQx prog w) A.in1.in1 (cZf.«list.sort» ⟨[.ref c.objs.size],g⟩) _ _ _;rw[H c.objs.size];refine cXs (h c.objs.size (c.push (cXb AB d.toArray 0)) tk d (λb o e=>cQu _ (C b o e)) q i y) (λfin z l=>?_) λ_ _ x=>x.elim;obtain⟨rfl,l⟩:=l;exact⟨_,Cd,cQs ⟨_,Cd,l⟩⟩
end
end Stree
set_option tactic.hygienic true
namespace Stree
open PySem PySem.W PySem.Calls PyProof.Rows
def wL(a b:Int×Int):Bool:=decide (a.1<b.1) || (decide (a.1=b.1) && decide (a.2<b.2))
def vW(a:Int×Int):wL a a=false:=by simp[wL]
def aX2(d:wL a b=true)(e:wL b c=true):wL a c=true:=by
 simp only[wL,Bool.or_eq_true,Bool.and_eq_true,decide_eq_true_eq]at d e ⊢;omega
def aX1(h:a≠b):wL a b=true\/wL b a=true:=by
 have c:¬ (a.1=b.1/\a.2=b.2):=λ⟨x,y⟩=>h (Prod.ext x y);simp only[wL,Bool.or_eq_true,Bool.and_eq_true,decide_eq_true_eq];omega
section
variable {prog:cQO}{w:cQ1}{A:cXi}{E:cQp->cQr->Prop}{s:cQr}
def aJP{t t':Tok}{Q:Bool->cQr->Prop}(h:Q (a==c) s):cQw (cQx prog w) A (eqBool (.int a t) (.int c t')) Q E s:=
 (L2.bJr (A:=A) (s:=s) (y:= .int a) (x:= .int c) ⟨t,rfl⟩ ⟨t',rfl⟩ rfl rfl) prog w E Q h
def aYC{n k:Nat}{Q:Bool->cQr->Prop}(l:s.heap.get? x=some f)(dx:f.data= .seq #[.int a o,.int b p] n)(r:s.heap.get? y=some i)(m:i.data= .seq #[.int c j,.int d q] k) (h:Q (wL (a,b) (c,d)) s):cQw (cQx prog w) A (keyLt' (tuples' true) (.ref x) (.ref y)) Q E s:=by
 refine kat_lt l dx r m ?_;refine kat_cons (aJP ?_);unfold wL at h;by_cases e:a=c
 ·subst e;simp only[Int.lt_irrefl,decide_false,Bool.false_or,decide_true,Bool.true_and]at h;rw[beq_self_eq_true];refine kat_yes (kat_cons (aJP ?_));by_cases g:b=d
  ·subst g;rw[beq_self_eq_true];refine kat_yes (kat_nil ?_);simpa using h
  ·rw[beq_eq_false_iff_ne.mpr g];refine kat_no (kat_one _ _ ?_);exact lt_int h
 ·rw[beq_eq_false_iff_ne.mpr e];have t:Q (decide (a<c)) s:=by
   have:decide (a=c)=false:=decide_eq_false e;simpa[this]using h
  refine kat_no ?_;exact oneLt_int t
end
end Stree
namespace L2
open PySem PySem.Spec PyProof.Rows
def ixb(b:Bool)(n i:Nat):Nat:=if b=true then n - 1 - i else i
def aZY(h:i<n):ixb b n i<n:=by unfold ixb;split<;> omega
def bVh(a:i<n)(c:j<n)(h:ixb b n i=ixb b n j):i=j:=by unfold ixb at h;split at h<;> omega
def aZc{α:Type}{l:List α}{d:α}(a:l.length=n)(c:i<n):(cXE b l).getD i d=l.getD (ixb b n i) d:=by
 unfold cXE ixb;split
 ·simp only[cQ8];rw[List.getElem?_reverse (by omega),a]
 ·rfl
def bKi{n:Nat}{b:Bool}{a:Nat->Int×Int}{r:Nat->Int}{p:List Nat}(l:p.Perm (cQy n))(g:p.Pairwise λi j=>r i<r j)(k:∀i j,i<n->j<n->decide (r i<r j)=Stree.wL (a (ixb b n i)) (a (ixb b n j))): (cXE b (p.map (ixb b n))).Perm (cQy n)/\(cXE b (p.map (ixb b n))).Pairwise λi j=>Stree.wL (if b=true then a j else a i) (if b=true then a i else a j)=true:=by
 have f:(p.map (ixb b n)).Pairwise λi j=>Stree.wL (a i) (a j)=true:=by rw[cJY];have m:∀i∈p,i<n:=λi c=>cQT.mp (l.mem_iff.mp c);refine g.imp_of_mem λ{i j} c hj h=>?_;rw[<- k i j (m i c) (m j hj)];exact decide_eq_true h
 have d:=l.map (ixb b n);cases b with
 |false=>
  have e:ixb false n=id:=by funext i;rfl
  rw[e]at d f ⊢;rw[cJ4,cJ4]at d;rw[cJ4]at f ⊢;exact⟨d,f⟩
 |true=>
  have e:(cQy n).map (ixb true n)=(cQy n).reverse:=by
   apply cZc;intro i;by_cases c:i<n
   ·rw[cQJ,cZq c,List.getElem?_reverse (by simpa using c),cXh,cZq (by omega)];rfl
   ·rw[cQW (by simp;omega),cQW (by simp;omega)]
  rw[e]at d;refine⟨(List.reverse_perm _).trans (d.trans (List.reverse_perm _)),?_⟩;show((p.map (ixb true n)).reverse).Pairwise _;rw[List.pairwise_reverse];exact f
def bJT(H:Hp)(b:Nat->Int×Int)(c:List cQp):Prop:=∀i v,c[i]? =some v->∃a,v= .ref a/\H a=some (.tup [.int (b i).1,.int (b i).2])
def bZ8(te:TE)(fr:List Nat)(tb:TE)(P:Nat)(lpos:Pos)(qual:Str)(b:Bool):TE:=λσ H Q=>te σ H λv d=>∃n:Nat,v= .int n/\n<64/\X5 lpos qual P d/\∃kz:Nat->Int×Int,
 (∀i j,i<n->j<n->kz i=kz j->i=j)/\
 (∀i c,i<n->zA d c->X5 lpos qual P c->∀R:VK,(∀a e,zA c e->e P=c P->e a=some (.tup [.int (kz i).1,.int (kz i).2])->R (.ref a) e)->tb (sub σ fr (some (.int i))) c R)/\
 ∀H5 l (out:List Nat),zA d H5->X5 lpos qual P H5->d l=none->out.Perm (cQy n)->(out.Pairwise λi j=>Stree.wL (if b=true then kz j else kz i) (if b=true then kz i else kz j)=true)->H5 l=some (.lst (out.map λi=> .int (i:Nat)))->Q (.ref l) H5
def X5.keep(t:X5 lpos qual P H)(k:zA H a)(e:a P=H P):X5 lpos qual P a:=by
 rcases t with t|⟨c,d,b⟩
 ·exact .inl (e.trans t)
 ·exact .inr ⟨c,e.trans d,k.ext b⟩
section
variable {X:Cx}{e body:Expr}{te tb:TE}{x:Str}{names:List Str}{fr:List Nat}{sc:Scope}{params:Arguments}{qual:Str}{p p2 p3 pos lpos kp kp2 bp:Pos}{j:Nat}{b:Bool}{c P:Nat}{k:Nat}
def aKn(f7:Gl X AT)(f8:X.mg AT=none)(d6:Gl X Ag)(f6:X.mg Ag=none)(he:PE X e te)(S:xP X.N X.env.scope x names fr sc)(f5:sc.isCoroutine=false)(c7:sc.isGenerator=false)
  (b2:X.env.code= .ref c) (C:cZt X.base c P) (hB:X.base.BuiltinsAt X.mg P) (hr:v0 (k+1) X.A) (b9:defaultsOf params X.env=([],[])) (hq:X.env.qual++"<lambda>"=qual)
  (hb:∀ (cl:List (Str×Nat))(pm e5 a9 u:cQp),cJa (PySem.W.kla_fn "<lambda>" qual params body sc cl pm e5 a9) ⟨[u],[]⟩=pure [(x,u)])
  (a7:∀A L q cd cl s H,PE (bK4 X A (x::names) qual sc L q cd cl s H) body tb) (b1:cQ7 AT=some (.builtin AT):=dk)
  (s2:cQ5 [e] X.env= [(false,eval e X.env)]:=by rfl):
  PE X (.Call (.Name AT p) [.Call (.Name Ag p2) [e] [] p3] [⟨some "key",.Lambda params body sc lpos,kp⟩,⟨some "reverse",.Constant (.bool b) j bp,kp2⟩] pos) (bZ8 te fr tb P lpos qual b):=by
 intro g s σ H Q I h
 refine cX7 (aXD I f7 f8 b1 ?_)
 refine callWith_kw ?_
 show cQw _ _ (spliced ((false,eval (.Call (.Name Ag p2) [e] [] p3) X.env):: [])) _ _ s
 refine Calls.spliced_cons ?_
 refine cX7 (aXD I d6 f6 boot_range ?_)
 refine cJw ?_ s2 rfl
 refine thn (yA he yD s2 p3 g s σ H (λvs H1=>match vs with|[v]=>(∃n:Nat,v= .int n/\n<64/\X5 lpos qual P H1/\∃kz:Nat->Int×Int,
   (∀i j,i<n->j<n->kz i=kz j->i=j)/\
   (∀i D,i<n->zA H1 D->X5 lpos qual P D->∀R:VK,(∀a Z,zA D Z->Z P=D P->Z a=some (.tup [.int (kz i).1,.int (kz i).2])->R (.ref a) Z)->tb (sub σ fr (some (.int i))) D R)/\
   ∀H5 l (out:List Nat),zA H1 H5->X5 lpos qual P H5->H1 l=none->out.Perm (cQy n)->(out.Pairwise λi j=>Stree.wL (if b=true then kz j else kz i) (if b=true then kz i else kz j)=true)->H5 l=some (.lst (out.map λi=> .int (i:Nat)))->Q (.ref l) H5)|_=>False) I h) λus s1 ⟨vs,H1,I1,r1,z⟩=>?_
 match vs,z with
 |[v],⟨n,e2,hn,hT,kz,hinj,hkey,hfin⟩=>
  subst e2;obtain⟨u,rfl,ru⟩:=aXf r1;obtain⟨t,rfl⟩:=ru;refine call_range_1 (Calls.spliced_nil ?_);have fR:=I1.fpOk (b:=s1.heap.objs.size) (cQv _) I1.fresh;have I2:Inv X ((s1.heap.objs.size,{cls:= .type Ag,data:= .fields #[.int 0 s1.toks,.int (n:Int) t,.int 1 (s1.toks+1)] })::g) σ H1 {s1 with heap:=s1.heap.push {cls:= .type Ag,data:= .fields #[.int 0 s1.toks,.int (n:Int) t,.int 1 (s1.toks+1)] },toks:=s1.toks+1+1}:=by
   have I0:Inv X g σ H1 {s1 with heap:=s1.heap.push {cls:= .type Ag,data:= .fields #[.int 0 s1.toks,.int (n:Int) t,.int 1 (s1.toks+1)] },toks:=s1.toks+1+1}:=I1.kept λb o e=>cQu _ e;refine I0.pins_of λq hq=>?_;rcases cQz.mp hq with rfl|hq
   ·exact⟨cQS _ rfl,fR.1,fR.2.1,fR.2.2.1,λv z=>by cases z⟩
   ·exact I0.pin q (cQN _ hq)
  obtain⟨cl,c1,c2,c4⟩:=aJV S I2;refine kws_cons (PySem.W.kla_eval b9 ?_);rw[hq];refine bXI I2 c1 b2 C hB hT λq c' a9 H' s' I3 g8 g6 b0 g4 b3=>?_;refine kws_cons (Constant_bool (kws_nil ?_));show cQw _ _ (call (.builtin AT) [.ref s1.heap.objs.size] [(cJu "key",.ref q),(cJu "reverse",.bool b)]) _ _ s';have a3:IsRange s'.heap s1.heap.objs.size 0 n 1 s1.toks t (s1.toks+1):=(I3.pin _ (cQN _ (cQG ..))).1;have I4:Inv X g σ H' s':=I3.pins_of λp G=>I3.pin p (cQN _ (cQB _ G));refine Stree.aJr hr.hd a3 hn (ksk_s2 _ _ _) (λx=>ksk_l2 _ _ _) (λx=>ksk_t2 q x b) λa O tk vs hk a1 ha hI=>?_;have a0:vs.length=n:=by rw[hI.length];simp
  have I5:Inv X g σ H' {s' with heap:=O,toks:=tk}:=I4.kept hk;have Y:=I4.fpOk (b:=a) a1 (I4.hok.fresh a1);have b4:a<O.objs.size:=cQC ha;have c3:s'.heap.objs.size<=O.objs.size+1:=cQZ a1 (cZ6 (cXB b4));have M:=I4.fpOk (b:=O.objs.size+1) c3 (I4.hok.fresh c3);refine Stree.bKI (s:={s' with heap:=O,toks:=tk}) ha (by rw[a0];exact hn) (λe1 w U=>L2.Ez2 λ(D:Hp)(e:Nat)=>Inv X ((a,cXb AB #[] e1)::(O.objs.size+1,cXb AB w.toArray e)::g) σ D U/\zA H' D/\X5 lpos qual P D/\bJT D kz w) ?h0 ?hget ?hcall ?hend;case h0=>
   intro e1 h2 k2 a2 q2;have I6:Inv X g σ H' {s' with heap:=h2,toks:=tk}:=I5.turned (t':=tk) (h':=h2) (λb o hb e=>k2 b o hb e) Y.1 Y.2.1 Y.2.2.2.1 Y.2.2.2.2.1 Y.2.2.2.2.2;refine⟨H',0,I6.pins_of λp G=>?_,zA.refl _,g4,λi v B=>by simp at B⟩;rcases cQz.mp G with rfl|G
   ·exact⟨a2,Y.1,Y.2.1,Y.2.2.1,λv z=>by cases z⟩
   ·rcases cQz.mp G with rfl|G
    ·exact⟨q2,M.1,M.2.1,M.2.2.1,λv z=>by cases z⟩
    ·exact I6.pin p (cQN _ G)
  case hget=>
   rintro e1 w U ⟨D,e,J,_,_,_⟩;exact⟨⟨e,(J.pin _ (cQN _ (cQB _ (cQG ..)))).1⟩,(J.pin _ (cQN _ (cQG ..))).1⟩
  case hcall=>
   rintro e1 w U v ⟨D,e,J,k3,t3,z3⟩ B;have F:w.length<n:=by
    rcases cJs w.length vs.length with h|h
    ·omega
    ·rw[cQW h]at B;cases B
   obtain⟨t',rfl⟩:∃t',v=Value.int (w.length:Nat) t':=by
    have r:=jH hI;have e3:((((cQy n).map Int.ofNat)).map V.int)[w.length]? =some (V.int (w.length:Nat)):=by simp[F]
    obtain⟨u,hu,ru⟩:=r.get e3;rw[B]at hu;cases hu;exact ru
   have c9:U.heap.get? q=some (cZA "<lambda>" qual params body sc cl ((X.mg Ad).getD .none) c' a9):=(J.hok q _ (k3.ext g6)).1;have c0:U.heap.CodeRec (.ref c') qual:=(J.hok c' _ (k3.ext b0)).1;refine cXs (bXH (A:=X.A.in1.in1) J I.ok.frames hr.hd (by have:=hr.dp;show X.A.depth<_;omega) S f5 c7 c2 c4 c9 c0 (λu=>hb cl _ _ _ u) (λA L cd s H=>a7 A L q cd cl s H) (v:= .int (w.length:Nat)) ⟨t',rfl⟩ (Q:=λv Z=>∃a4,v= .ref a4/\zA D Z/\Z P=D P/\Z a4=some (.tup [.int (kz w.length).1,.int (kz w.length).2])) (hkey w.length D F (b3.trans k3) t3 _ λa4 Z k4 p4 e4=>⟨a4,Cd,k4,p4,e4⟩)) (λkv s4 f9=>?_) λ_ _ x=>x;obtain⟨v4,Z,J4,e9,a4,rfl,k4,p4,e4⟩:=f9;cases e9;refine⟨⟨e,(J4.pin _ (cQN _ (cQB _ (cQG ..)))).1⟩,λh5 c5 sb e7=>?_⟩;have d8:Inv X g σ Z s4:=J4.pins_of λp G=>J4.pin p (cQN _ (cQB _ (cQB _ G)));have pa:=J4.pin _ (cQN _ (cQG ..));have pk:=J4.pin _ (cQN _ (cQB _ (cQG ..)));have J5:Inv X g σ Z {s4 with heap:=h5,toks:=s4.toks}:=d8.turned (t':=s4.toks) (h':=h5) (it:=O.objs.size+1) (λb o hb e=>(sb.2 b hb).trans e) pk.2.1 M.2.1 M.2.2.2.1 M.2.2.2.2.1 M.2.2.2.2.2;refine⟨Z,c5,J5.pins_of λp G=>?_,k3.trans k4,t3.keep k4 p4,λi v B=>?_⟩
   ·rcases cQz.mp G with rfl|G
    ·exact⟨(sb.2 _ (cQP (cXB b4))).trans pa.1,pa.2⟩
    ·rcases cQz.mp G with rfl|G
     ·exact⟨e7,pk.2.1,M.2.1,M.2.2.1,λv z=>by cases z⟩
     ·exact J5.pin p (cQN _ G)
   ·by_cases d4:i<w.length
    ·rw[cQ0 d4]at B;obtain⟨a6,e6,h6⟩:=z3 i v B;exact⟨a6,e6,k4.tup h6⟩
    ·rw[cQK (by omega)]at B;have:i - w.length=0:=by
      rcases cJs (i - w.length) 1 with h|h
      ·omega
      ·rw[cQW (by simpa using h)]at B;cases B
     have ei:i=w.length:=by omega
     subst ei;simp at B;exact⟨a4,B.symm,e4⟩
  case hend=>
   rintro e1 w U ⟨D,e,J,k3,t3,z3⟩ hl;have J':Inv X g σ D U:=J.pins_of λp G=>J.pin p (cQN _ (cQB _ (cQB _ G)));have b5:w.length=n:=by omega
   obtain⟨r,d9,b8⟩:=Stree.aVg (n:=n) (λi j=>Stree.wL (kz (ixb b n i)) (kz (ixb b n j))) (λi _=>Stree.vW _) (λi j k _ _ _ O h2=>Stree.aX2 O h2)
    (λi j F hj e8=>Stree.aX1 λz=>e8 (bVh F hj (hinj _ _ (aZY F) (aZY hj) z)))
   have ob:∀i,i<n->∃a o t1 t2 m,w.getD i Value.none= .ref a/\U.heap.get? a=some o/\o.cls= .type AD/\o.data= .seq #[.int (kz i).1 t1,.int (kz i).2 t2] m:=λi F=>by obtain⟨a6,e6,h6⟩:=z3 i (w.getD i Value.none) (by simp[cQ8,cQn (show i<w.length by omega)]);obtain⟨g7,rv,pl,_⟩:=J'.tuple (Cc h6);obtain⟨u1,u2,rfl,r1,r2⟩:=xY.two rv;obtain⟨t1,rfl⟩:=r1;obtain⟨t2,rfl⟩:=r2;obtain⟨o,g1,g2,m,g3⟩:=pl;exact⟨a6,o,t1,t2,m,e6,g1,g2,g3⟩
   refine⟨r,by rw[a0];exact d9,λ_=>⟨tuples' true,λQ' f4=>?_,λi j C' F hj hC=>?_⟩,λp h5 c5 c6 a5 d7 k5 g5 o5=>?_⟩
   ·have b6:∀ (l:List cQp)(k:Nat),(∀ (i:Nat)(v:cQp),l[i]? =some v->∃a o t1 t2 m x y,v=Value.ref a/\U.heap.get? a=some o/\o.cls= .type AD/\o.data= .seq #[.int x t1,.int y t2] m)->
      ∃fs,cVZ U.heap l fs/\fs.length=l.length/\∀f∈fs,∃x t,f=Value.int x t:=by
     intro l
     induction l with
     |nil=>intro _ _;exact⟨[],trivial,Cd,λf hf=>by cases hf⟩
     |cons v l ih=>
      intro k B;obtain⟨a,o,t1,t2,m,x,y,rfl,g1,g2,g3⟩:=B 0 v rfl;obtain⟨fs,f1,f2,f3⟩:=ih (k+1) λi v h=>B (i+1) v h;refine⟨.int x t1::fs,cVi g1 g2 g3 rfl f1,by simp[f2],λf hf=>?_⟩;rcases cQz.mp hf with rfl|hf
      ·exact⟨x,t1,rfl⟩
      ·exact f3 f hf
    obtain⟨fs,f1,f2,f3⟩:=b6 w 0 λi v B=>by
     have F:i<n:=by
      rcases cJs i w.length with h|h
      ·omega
      ·rw[cQW h]at B;cases B
     obtain⟨a,o,t1,t2,m,g0,g1,g2,g3⟩:=ob i F;have:w.getD i Value.none=v:=by simp[cQ8,B]
     rw[this]at g0;exact⟨a,o,t1,t2,m,_,_,g0,g1,g2,g3⟩
    refine PySem.W.kat_kind (T:= .type As) f1 (by omega) (λv B=>?_) rfl f4;obtain⟨x,t,rfl⟩:=f3 v B;exact .now
   ·rw[a0]at F hj;obtain⟨ai,oi,t1,t2,m1,g0,g1,g2,g3⟩:=ob _ (aZY (b:=b) F);obtain⟨aj,oj,t3,t4,m2,d0,d1,d2,d3⟩:=ob _ (aZY (b:=b) hj);show cQw _ _ (keyLt' _ ((cXE b w).getD i Value.none) ((cXE b w).getD j Value.none)) _ _ _;rw[aZc b5 F,aZc b5 hj,g0,d0];refine Stree.aYC g1 g3 d1 d3 ?_;have:=b8 i j F hj;rw[this]at hC;exact hC
   ·rw[a0]at a5;obtain⟨q1,q2⟩:=bKi a5 d7 b8;have hm:∀i∈p,i<n:=λi F=>cQT.mp (a5.mem_iff.mp F);have vv:∀l:List Nat,(∀i∈l,i<n)->xY ((l.map (ixb b n)).map λi=>V.int (i:Nat)) (l.map λi=>(cXE b vs).getD i Value.none):=by
     intro l;induction l with
     |nil=>intro _;exact .nil
     |cons i l ih=>
      intro h;refine .cons ?_ (ih λj hj=>h j (cQB _ hj));have F:=h i cQG;show zL (V.int (ixb b n i:Nat)) ((cXE b vs).getD i Value.none);rw[aZc a0 F];have hx:=aZY (b:=b) F;have e3:((((cQy n).map Int.ofNat)).map V.int)[ixb b n i]? =some (V.int (ixb b n i:Nat)):=by simp[hx]
      obtain⟨u,hu,ru⟩:=(jH hI).get e3;have:vs.getD (ixb b n i) Value.none=u:=by simp[cQ8,hu]
      rw[this];exact ru
    have v2:=vv p hm;have v3:xY ((cXE b (p.map (ixb b n))).map λi=>V.int (i:Nat)) (cXE b (p.map λi=>(cXE b vs).getD i Value.none)):=by
     unfold cXE at v2 ⊢;split
     ·rw[List.map_reverse];rename_i a8;simp only[a8]at v2 ⊢;exact v2.reverse
     ·rename_i a8;simp only[a8]at v2 ⊢;exact v2
    have na:D a=none:=(J.pin _ (cQN _ (cQG ..))).2.1;have nk:D (O.objs.size+1)=none:=(J.pin _ (cQN _ (cQB _ (cQG ..)))).2.1;have b7:(cXE b (p.map (ixb b n))).length=n:=by rw[q1.length_eq,cXh]
    have e0:Inv X g σ (upd D a (.lst ((cXE b (p.map (ixb b n))).map λi=>V.int (i:Nat)))) {U with heap:=h5,gens:=U.gens,drawn:=U.drawn,toks:=U.toks}:=by
     have K:∀d,d∉ [a,O.objs.size+1]->d≠a/\d≠O.objs.size+1:=λd E=>⟨λz=>E (by simp[z]),λz=>E (by simp[z])⟩;refine J'.step (ch:= [a,O.objs.size+1]) (λd E=>?_) (λd o _ _ E e _=>?_) (λd o _ _ E e _=>?_) (λd o E e n=>?_) (λd o E e=>?_) (λd xs e=>?_) (λd o u e=>?_) (λd qs e=>?_) (λm d5=>?_) (λd u e=>?_) J'.bare
     ·rcases cQz.mp E with rfl|E
      ·exact⟨Y.2.2.2.1,Y.2.1,Y.2.2.2.2.1,Y.2.2.2.2.2⟩
      ·rw[cQD.mp E];exact⟨M.2.2.2.1,M.2.1,M.2.2.2.2.1,M.2.2.2.2.2⟩
     ·exact(k5 d (K d E).1 (K d E).2).trans e
     ·exact⟨o.slots,(k5 d (K d E).1 (K d E).2).trans e⟩
     ·rw[yJ (K d E).1];exact n
     ·exact⟨o,(k5 d (K d E).1 (K d E).2).trans e⟩
     ·rw[yJ (yI e na)];exact e
     ·rw[yJ (yI e na)];exact e
     ·exact⟨#[],by rw[yJ (yI e na),e];simp⟩
     ·obtain⟨o,es,ep,ho,r⟩:=d5;exact⟨o,es,ep,(k5 _ (cQ6 Y.2.1) (cQ6 M.2.1)).trans ho,r⟩
     ·by_cases E:d=a
      ·subst E;rw[yB]at e;cases e;exact⟨by rw[cQt,b7,cQQ];omega,_,c6,v3,o5⟩
      ·rw[yJ E]at e;refine(J'.hok d u e).stay (λc v hc q=>?_) (λc q=>by rw[yJ (yI q na)];exact q) λc xs q=>by rw[yJ (yI q na)];exact q
       have b0:c≠a:=by
        rcases hc with rfl|hc
        ·exact E
        ·exact yI hc na
       have f0:c≠O.objs.size+1:=by
        rcases hc with rfl|hc
        ·exact yI e nk
        ·exact yI hc nk
       exact(k5 c b0 f0).trans q
    have c8:=yE na (.lst ((cXE b (p.map (ixb b n))).map λi=>V.int (i:Nat)));have hP:upd D a (.lst ((cXE b (p.map (ixb b n))).map λi=>V.int (i:Nat))) P=D P:=by
     rcases t3 with t|⟨_,t,_⟩
     ·rw[yJ (yI t na)]
     ·rw[yJ (yI t na)]
    have nl:H1 a=none:=by
     cases hz:H1 a with
     |none=>rfl
     |some o=>exact absurd (I1.hok.lt hz) (Nat.not_lt.mpr (cQZ (cZ6 (cQC a3)) a1))
    exact⟨rfl,.ref a,_,e0,Cd,hfin _ a _ (b3.trans (k3.trans c8.t)) (t3.keep c8.t hP) nl q1 q2 yB⟩
end
end L2
set_option tactic.hygienic false
namespace Stree
open PySem PySem.W PySem.Calls PyProof.Rows
open PySem.SeqAt
open PySem.AutoSeq1 (wpAny_loadPart')
open PySem.MeetsSeq PySem.MeetsSeq2 PySem.MeetsSeq3
def Q2{α:Type} [DecidableEq α] (lt:α->α->Bool):List α->List α->Bool
 |[],[]=>false
 |[],_::_=>true
 |_::_,[]=>false
 |x::xs,y::ys=>if x=y then Q2 lt xs ys else lt x y
def aYA{α:Type} [DecidableEq α] {lt:α->α->Bool}(x y:α)(xs ys:List α):Q2 lt (x::xs) (y::ys)=if x=y then Q2 lt xs ys else lt x y:=rfl
def aJy{α:Type} [DecidableEq α] {lt:α->α->Bool}{rep:α->cQp->Prop}(l b:Nat)(items items2:Array cQp)(n W:Nat)(S D:Option Nat)(U J:Array (Option cQp))(xs ys:List α)(K:cXk rep xs items.toList)(M:cXk rep ys items2.toList): Meets (cZf.«tuple.__lt__» ⟨[.ref l,.ref b],[]⟩) (λA R s=>s.heap.get? l=some {cls:= .type AD,dict:=S,data:= .seq items n,slots:=U}/\s.heap.get? b=some {cls:= .type AD,dict:=D,data:= .seq items2 W,slots:=J}/\ (∀x y u v,rep x u->rep y v->EqAt A.in1 s u v (decide (x=y)))/\(∀x y u v,x≠y->rep x u->rep y v->∀ (prog:cQO)(w:cQ1)(E:cQp->cQr->Prop)(Q:cQp->cQr->Prop),Q (.bool (lt x y)) s->cQw (cQx prog w) A.in1 (richCompare .Lt u v) Q E s)/\ R (.ok (.ret (.bool (Q2 lt xs ys)))) s):=
 .of_wp λprog w A R s h=>by
  obtain⟨N,g,d,tk,L⟩:=s;obtain⟨hl,V,F,C,h⟩:=h;have f2:=AutoSeq1.sub_tuple_tuple;have z1:items.size=xs.length:=by have:=K.length;simpa using this.symm
  have z2:items2.size=ys.length:=by have:=M.length;simpa using this.symm
  wp_walk using wpAny_loadPart' hl,wpAny_loadPart' V,wpAny_forIn_list _ (λjX b H=>b.1=none/\H=⟨N,g,d,tk,L⟩/\∃ (z B:List cQp)(i j:List α),jX=z.zip B/\
   cXk rep i z/\cXk rep j B/\i.length+items2.size=j.length+items.size/\R (.ok (.ret (.bool (Q2 lt i j)))) ⟨N,g,d,tk,L⟩) _
  case turn=>
   rintro⟨y,x⟩ jX b H ⟨p,rfl,z,B,i,j,k,o,m,f,hR⟩;cases o with
   |nil=>rw[List.zip_nil_left]at k;cases k
   |@cons a y' Y T I q=>
    cases m with
    |nil=>rw[List.zip_nil_right]at k;cases k
    |@cons c x' P X t r=>
     rw[List.zip_cons_cons]at k;injection k with hyx hrest
     injection hyx with hy hx
     subst hy hx;rw[aYA]at hR;simp only[cXp]at f;refine cQo (F a c _ _ I t prog w _ _ ?_);by_cases e:a=c
     ·rw[if_pos e]at hR;rw[decide_eq_true e];wp_walk;exact⟨rfl,Cd,_,_,_,_,hrest,q,r,by omega,hR⟩
     ·rw[if_neg e]at hR;rw[decide_eq_false e];have G:=C a c _ _ e I t prog w;wp_walk using G;exact⟨_,Cd,by simpa using hR⟩
  case fin=>
   rintro⟨b1,Z⟩ H ⟨p,rfl,z,B,i,j,k,o,m,f,hR⟩;simp only at p;subst p;have O:Q2 lt i j=decide (items.size<items2.size):=by
    cases o with
    |nil=>
     cases m with
     |nil=>simp only[cZw]at f;exact(decide_eq_false (by omega)).symm
     |cons t hw=>simp only[cZw,cXp]at f;exact(decide_eq_true (by omega)).symm
    |cons I O=>
     cases m with
     |nil=>simp only[cZw,cXp]at f;exact(decide_eq_false (by omega)).symm
     |cons t hw=>rw[List.zip_cons_cons]at k;cases k
   rw[O]at hR;wp_walk;exact⟨_,Cd,by simpa[Builtin.Tuple.tupleCompareSizes]using hR⟩
  case h=>
   exact⟨rfl,Cd,items.toList,items2.toList,xs,ys,Cd,K,M,by omega,h⟩
section
variable {A:cXi}{s:cQr}{α:Type} [DecidableEq α] {lt:α->α->Bool}{rep:α->cQp->Prop}{l b:Nat}{items items2:List cQp}{xs ys:List α}
def bWJ(A:cXi)(s:cQr)(u v:cQp)(c:Bool):Prop:=∀ (prog:cQO)(w:cQ1)(E:cQp->cQr->Prop)(Q:cQp->cQr->Prop),Q (.bool c) s->cQw (cQx prog w) A (richCompare .Lt u v) Q E s
def bJx(hl:cJi s.heap l items.toArray)(D:cJi s.heap b items2.toArray)(q:cXk rep xs items)(z:cXk rep ys items2)(B:A.units<cLine)
  (g:∀x y u v,rep x u->rep y v->EqAt A.in1 s u v (decide (x=y))) (f:∀x y u v,x≠y->rep x u->rep y v->bWJ A.in1 s u v (lt x y)):bWJ A s (.ref l) (.ref b) (Q2 lt xs ys):=λprog w E Q h=>by
 obtain⟨⟨cls,r,data,t⟩,o,m,n,p⟩:=id hl
 obtain⟨⟨k,e,i,j⟩,a,c,C,d⟩:=id D
 simp only at m p c d
 subst m p c d
 exact richCompare_meets_room (op:= .Lt) ⟨_,o,rfl⟩ ⟨_,a,rfl⟩ PySem.F.slot_tuple_lt PySem.F.entry_tuple_lt (PySem.F.args_tuple_lt_2 _ _) (aJy (lt:=lt) l b items.toArray items2.toArray n C r e t j xs ys q z)
  ⟨o,a,g,f,show Value.bool (Q2 lt xs ys)≠Value.notImplemented/\Q (.bool (Q2 lt xs ys)) s from⟨(λx=>nomatch x),h⟩⟩ B
def bWP:∀ {xs ys:List α},((cQy (min xs.length ys.length)).all (λj=>decide (xs[j]? =ys[j]?)) && xs.length==ys.length)=decide (xs=ys):=by
 intro xs ys;rw[Bool.eq_iff_iff];simp only[Bool.and_eq_true,cJA,cQT,decide_eq_true_eq,beq_iff_eq];constructor
 ·rintro⟨a,b⟩;apply cZc;intro i;by_cases c:i<xs.length
  ·exact a i (by omega)
  ·rw[cQW (by omega),cQW (by omega)]
 ·rintro rfl;exact⟨λ_ _=>rfl,rfl⟩
def Z4{rep:α->cQp->Prop}:∀ {xs:List α} {us:List cQp} {i:Nat} {u:cQp},cXk rep xs us->us[i]? =some u->∃x,xs[i]? =some x/\rep x u
 |_,_,0,_,.cons r _,h=>by simp at h;subst h;exact⟨_,Cd,r⟩
 |_,_,i+1,_,.cons _ t,h=>by simpa using Z4 (i:=i) t (by simpa using h)
 |_,_,i,_,.nil,h=>by simp at h
def Z3{rep:α->cQp->Prop}(a:∀x y u,rep x u->rep y u->x=y):∀ {xs ys:List α} {us:List cQp},cXk rep xs us->cXk rep ys us->xs=ys
 |_,_,_,.nil,.nil=>rfl
 |_,_,_,.cons r t,.cons r' t'=>by rw[a _ _ _ r r',Z3 a t t']
def bJt(hl:cJi s.heap l items.toArray)(m:cJi s.heap b items2.toArray)(a:cXk rep xs items)(g:cXk rep ys items2)(D:A.units<cLine)(B:∀x y u,rep x u->rep y u->x=y) (d:∀x y u v,rep x u->rep y v->EqAt A.in1 s u v (decide (x=y))):EqAt A s (.ref l) (.ref b) (decide (xs=ys)):=by
 by_cases e:l=b
 ·subst e;obtain⟨o,c,_,n,h⟩:=hl;obtain⟨H,i,_,G,k⟩:=m;rw[c]at i;cases i;rw[h]at k;have f:items=items2:=by
   have:items.toArray=items2.toArray:=by injection k
   simpa using congrArg Array.toList this
  subst f;rw[decide_eq_true (Z3 B a g)];exact EqAt.same _
 ·refine EqAt.of_refs e ?_;have z:=RcAt.tuples (A:=A) (s:=s) (e:=λj=>decide (xs[j]? =ys[j]?)) (show s.heap.IsTuple l items.toArray from hl) (show s.heap.IsTuple b items2.toArray from m) D λj c h=>?_
  ·have p:items.toArray.size=xs.length:=by rw[cQF];exact a.length.symm
   have f:items2.toArray.size=ys.length:=by rw[cQF];exact g.length.symm
   rw[p,f,bWP]at z;exact z
  ·have r:items[j]? =some items[j]:=cQn (by simpa using c);have C:items2[j]? =some items2[j]:=cQn (by simpa using h);obtain⟨x,t,w⟩:=Z4 a r;obtain⟨y,E,F⟩:=Z4 g C;have q:=d x y _ _ w F;show EqAt A.in1 s items[j] items2[j] (decide (xs[j]? =ys[j]?));rw[t,E];have:decide (some x=some y)=decide (x=y):=by simp
   rw[this];exact q
end
def bVS(i:Int)(u:cQp):Prop:=∃t,u= .int i t
def rep2(h:Heap)(p:Int×Int)(u:cQp):Prop:=∃a b,u= .ref a/\cJi h a b.toArray/\cXk bVS [p.1,p.2] b
def rep3(h:Heap)(c:List (Int×Int))(u:cQp):Prop:=∃a b,u= .ref a/\cJi h a b.toArray/\cXk (rep2 h) c b
def aV5(x y:Int)(u:cQp)(a:bVS x u)(b:bVS y u):x=y:=by
 obtain⟨t,rfl⟩:=a;obtain⟨c,e⟩:=b;cases e;rfl
def bJe{h:Heap}{a:Nat}{i j:List cQp}(d:cJi h a i.toArray)(e:cJi h a j.toArray):i=j:=by
 obtain⟨o,f,_,n,g⟩:=d;obtain⟨l,c,_,k,b⟩:=e;rw[f]at c;cases c;rw[g]at b;have:i.toArray=j.toArray:=by injection b
 simpa using congrArg Array.toList this
def bZw{h:Heap}(x y:Int×Int)(u:cQp)(f:rep2 h x u)(k:rep2 h y u):x=y:=by
 obtain⟨a,i,rfl,g,b⟩:=f;obtain⟨l,j,e,d,c⟩:=k;cases e;rw[bJe g d]at b;have:=Z3 aV5 b c;injection this with e1 e2;injection e2 with e2 _;exact Prod.ext e1 e2
section
variable {A:cXi}{s:cQr}
def eq1(x y:Int)(u v:cQp)(a:bVS x u)(c:bVS y v):EqAt A s u v (decide (x=y)):=by
 obtain⟨t,rfl⟩:=a;obtain⟨b,rfl⟩:=c;have:decide (x=y)=(x==y):=by rw[Bool.eq_iff_iff];simp
 rw[this];exact EqAt.int_int x t y b
def lt1(x y:Int)(u v:cQp)(d:x≠y)(b:bVS x u)(c:bVS y v):bWJ A s u v (decide (x<y)):=by
 obtain⟨t,rfl⟩:=b;obtain⟨a,rfl⟩:=c;exact λprog w E Q h=>HT.bZv A s x t y a prog w E Q h
def eq2(l:A.units<cLine)(x y:Int×Int)(u v:cQp)(f:rep2 s.heap x u)(h:rep2 s.heap y v):EqAt A s u v (decide (x=y)):=by
 obtain⟨a,i,rfl,g,k⟩:=f;obtain⟨b,j,rfl,d,c⟩:=h;have z:=bJt g d k c l aV5 λx y u v=>eq1 x y u v;have:decide ([x.1,x.2]= [y.1,y.2])=decide (x=y):=by
  rw[Bool.eq_iff_iff,decide_eq_true_eq,decide_eq_true_eq];constructor
  ·intro e;injection e with e1 e2;injection e2 with e2 _;exact Prod.ext e1 e2
  ·rintro rfl;rfl
 rw[this]at z;exact z
def aYz(x y:Int×Int):Q2 (λa b:Int=>decide (a<b)) [x.1,x.2] [y.1,y.2]=wL x y:=by
 unfold wL Q2 Q2 Q2;by_cases c:x.1=y.1
 ·by_cases d:x.2=y.2<;> simp[c,d]
 ·simp[c]
def lt2(l:A.units<cLine)(x y:Int×Int)(u v:cQp)(k:x≠y)(e:rep2 s.heap x u)(g:rep2 s.heap y v):bWJ A s u v (wL x y):=by
 obtain⟨a,i,rfl,f,h⟩:=e;obtain⟨b,j,rfl,d,c⟩:=g;have z:=bJx (lt:=λa b:Int=>decide (a<b)) f d h c l (λx y u v=>eq1 x y u v) (λx y u v=>lt1 x y u v);rw[aYz]at z;exact z
def eq3(k:A.units+1<cLine)(x y:List (Int×Int))(u v:cQp)(e:rep3 s.heap x u)(g:rep3 s.heap y v):EqAt A s u v (decide (x=y)):=by
 obtain⟨a,i,rfl,f,h⟩:=e;obtain⟨b,j,rfl,d,c⟩:=g;exact bJt f d h c (by omega) bZw λx y u v=>eq2 (A:=A.in1) k x y u v
def lt3(c:A.units+1<cLine)(x y:List (Int×Int))(u v:cQp)(l:x≠y)(f:rep3 s.heap x u)(h:rep3 s.heap y v):bWJ A s u v (Q2 wL x y):=by
 obtain⟨a,i,rfl,g,k⟩:=f;obtain⟨b,j,rfl,e,d⟩:=h;exact bJx g e k d (by omega) (λx y u v=>eq2 (A:=A.in1) c x y u v) (λx y u v=>lt2 (A:=A.in1) c x y u v)
end
section
variable {prog:cQO}{w:cQ1}{A:cXi}{E:cQp->cQr->Prop}{s:cQr}
def bVo{n k:Nat}{Q:Bool->cQr->Prop}(g:A.units+1<cLine)(p:s.heap.get? x=some d)(dx:d.data= .seq #[u,.int i q] n)(t:s.heap.get? y=some l)(o:l.data= .seq #[v,.int j r] k) (f:rep3 s.heap a u) (m:rep3 s.heap c v) (b:a=c->i=j) (h:Q (decide (a≠c) && Q2 wL a c) s):cQw (cQx prog w) A (keyLt' (tuples' false) (.ref x) (.ref y)) Q E s:=by
 refine kat_lt p dx t o ?_;refine kat_cons (eq3 g a c u v f m prog w _ _ ?_);by_cases e:a=c
 ·rw[decide_eq_true e];refine kat_yes (kat_cons (aJP ?_));rw[beq_iff_eq.mpr (b e)];refine kat_yes (kat_nil ?_);simpa[e]using h
 ·rw[decide_eq_false e];have z:Q (Q2 wL a c) s:=by simpa[e]using h
  exact kat_no (kat_one _ _ (lt3 g a c u v e f m prog w _ _ z))
def aJp{P:PySem.Fin->cQr->Prop}(J:s.heap.get? a=some (cXb AB vs.toArray n0))(K:vs.length<64)(r:Nat->Int)(hr:Inj vs.length r) (D:2<=vs.length->∃κ,∀h,(∀c o,c≠a->s.heap.get? c=some o->h.get? c=some o)->(∀Q:SortKind->cQr->Prop,Q κ {s with heap:=h}->cQw (cQx prog w) A (keyKind' vs.toArray) Q (λ_ _=>False) {s with heap:=h})/\ ∀i j C,i<vs.length->j<vs.length->C (decide (r i<r j)) {s with heap:=h}->kas_ask prog w A κ vs i j C {s with heap:=h}) (v:∀ (p:List Nat) h c,p.Perm (cQy vs.length)->p.Pairwise (λi j=>r i<r j)->(∀d o,d≠a->s.heap.get? d=some o->h.get? d=some o)->h.get? a=some (cXb AB (p.map λi=>vs.getD i Value.none).toArray c)->P (.done (.ret .none)) {s with heap:=h}): cQw (cQx prog w) A (cZf.«list.sort» ⟨[.ref a],[]⟩) P E s:=by
 have ha:a<s.heap.objs.size:=cQC J;obtain⟨t,y⟩:∃t,(s.heap.update a (cXj λ_=>(#[]:Array cQp))).get? a=some (cXb AB #[] t):=⟨_,cJk J λ_=> #[]⟩;rw[list_sort_plain];refine cQo (listItems_at J rfl ?_);refine cQo (cJH J rfl ?_ (by rw[cQF,cQQ];omega) (cXo _));refine cQo (seqEpoch_at y rfl ?_);refine cQo (wpAny_newTuple ?_ (by show vs.length<=_;rw[cQQ];omega));refine cQo (cJK ?_ (cXo _));refine cXK ?_;have M:∀c o,c≠a->s.heap.get? c=some o->(((s.heap.update a (cXj λ_=>(#[]:Array cQp))).push (cXb AD vs.toArray 0)).push (cXb AB #[] 0)).get? c=some o:=λc o hc e=>
  cQu _ (cQu _ ((cQ2 _ _ (cQ6 hc)).trans e))
 have I:(((s.heap.update a (cXj λ_=>(#[]:Array cQp))).push (cXb AD vs.toArray 0)).push (cXb AB #[] 0)).get? a=some (cXb AB #[] t):=cQu _ (cQu _ y);show cQw (cQx prog w) A _ P E {s with heap:=((s.heap.update a (cXj λ_=>(#[]:Array cQp))).push (cXb AD vs.toArray 0)).push (cXb AB #[] 0) };generalize ((s.heap.update a (cXj λ_=>(#[]:Array cQp))).push (cXb AD vs.toArray 0)).push (cXb AB #[] 0)=h1 at M I ⊢;dsimp only;have l:∀ (z:SortSt)(p:List Nat),p.Perm (cQy vs.length)->p.Pairwise (λi j=>r i<r j)->(arrOf z).map (·.2)=cXz (p.map λi=>vs.getD i Value.none)->failedOf z=none->
   cQw (cQx prog w) A (do
    let b:=(<- seqEpoch a) !=t
    Builtin.List.listUpdate (.ref a) λ_=>(arrOf z).map (·.2)
    if let some e:=failedOf z then rule "list.sort.comparison-raised";throw e
    if b then rule "list.sort.modified";raiseError "ValueError" "list modified during sort"
    ret .none) P E {s with heap:=h1}:=by
  intro z p f m F O
  have L:p.length=vs.length:=by rw[f.length_eq,cXh]
  rw[F]
  obtain⟨U,N⟩:∃U,(h1.update a (cXj λ_=>cXz (p.map λi=>vs.getD i Value.none))).get? a=some (cXb AB (cXz (p.map λi=>vs.getD i Value.none)) U):=⟨_,cJk I λ_=>cXz (p.map λi=>vs.getD i Value.none)⟩
  have T:(cXz (p.map λi=>vs.getD i Value.none)).size=vs.length:=by rw[cQF,cQt,L]
  refine cQo (seqEpoch_at I rfl ?_)
  refine cQo (cJH I rfl ?_ (cXo _) (cQZ (cZ5 T) (by rw[cQQ];omega)))
  rw[O]
  simp only[bne_self_eq_false,Bool.false_eq_true,if_false]
  exact cQs (v p _ U f m (λd o V e=>(cQ2 _ _ (cQ6 V)).trans (M d o V e)) N)
 by_cases q:vs.toArray.size<2
 ·rw[if_pos q,if_pos q];refine cQo (cQs ?_);refine cQo (cQs ?_);have n:vs.length<2:=by rw[cQF]at q;exact q
  refine l (SortSt.mk' general' (vs.toArray.zip vs.toArray) #[] 7 none) (cQy vs.length) (List.Perm.refl _) ?_ ?_ rfl
  ·rw[cZY];intro i j H hj Z;rw[cXh]at H hj;omega
  ·show((cXz vs).zip (cXz vs)).map (·.2)=_;apply Array.toList_inj.mp;rw[Array.toList_map,Array.toList_zip];simp only[cVs];have t:(cJR vs vs).map (·.2)=vs:=List.map_snd_zip (cQv _);rw[t];apply cZc;intro i;rw[cQJ];by_cases H:i<vs.length
   ·rw[cZq H];simp[cQ8,cQn H]
   ·rw[cQW (by omega),cQW (by rw[cXh];omega)];rfl
 ·have n:2<=vs.length:=by rw[cQF]at q;omega
  rw[if_neg q,if_neg q];obtain⟨κ,hκ⟩:=D n;obtain⟨hκ,G⟩:=hκ h1 M;refine cQo (cXs (hκ (λk u=>k=κ/\u= {s with heap:=h1}) ⟨rfl,rfl⟩) (λk u hq=>?_) λ_ _ x=>x.elim);obtain⟨rfl,rfl⟩:=hq;have R:(kas_sort vs.length).kasWp (kas_ask prog w A k vs) (λp B=>B= {s with heap:=h1}/\p.toList.Perm (cQy vs.length)/\p.toList.Pairwise (λi j=>r i<r j)) {s with heap:=h1}:=
   Asks.wp (lt:=Q3 r) G (aJq hr (by omega)) λp hp=>⟨rfl,hp⟩
  refine cQo (cXs (kat_run (Q:=λg B=>∃p:Array Nat,arrOf g=p.map (kas_item (vs.toArray.zip vs.toArray))/\failedOf g=none/\
    B= {s with heap:=h1}/\p.toList.Perm (cQy vs.length)/\p.toList.Pairwise (λi j=>r i<r j))
   rfl n K (λp' g B a1 Y W X=>⟨p',Y,W,X⟩) R) ?_ λ_ _ x=>x)
  rintro⟨⟨⟩,g⟩ B ⟨p,S,O,rfl,f,m⟩;dsimp only;exact l _ p.toList f m (kat_snds rfl S) O
end
end Stree
namespace Stree
open PySem PySem.W PySem.Calls PyProof.Rows
abbrev W8:=List (Int×Int)
abbrev jN:W8->W8->Bool:=Q2 wL
def uD:∀a:W8,jN a a=false
 |[]=>rfl
 |x::r=>by show(if x=x then Q2 wL r r else wL x x)=false;rw[if_pos rfl];exact uD r
def Z1:∀ {a b c:W8},jN a b=true->jN b c=true->jN a c=true
 |[],[],_,h,_=>by cases h
 |[],_::_,[],_,h=>by cases h
 |[],_::_,_::_,_,_=>rfl
 |_::_,[],_,h,_=>by cases h
 |_::_,_::_,[],_,h=>by cases h
 |x::a,y::b,z::c,h1,h2=>by
  have f:(if x=y then Q2 wL a b else wL x y)=true:=h1;have d:(if y=z then Q2 wL b c else wL y z)=true:=h2;show(if x=z then Q2 wL a c else wL x z)=true;by_cases i:x=y
  ·rw[if_pos i]at f;subst i;by_cases g:x=z
   ·rw[if_pos g]at d ⊢;exact Z1 f d
   ·rw[if_neg g]at d ⊢;exact d
  ·rw[if_neg i]at f;by_cases g:y=z
   ·rw[if_pos g]at d;subst g;rw[if_neg i];exact f
   ·rw[if_neg g]at d;have j:=aX2 f d;have:x≠z:=λe=>by rw[e,vW]at j;cases j
    rw[if_neg this];exact j
def aX3:∀ {a b:W8},a≠b->jN a b=true\/jN b a=true
 |[],[],h=>absurd rfl h
 |[],_::_,_=> .inl rfl
 |_::_,[],_=> .inr rfl
 |x::a,y::b,h=>by
  show(if x=y then Q2 wL a b else wL x y)=true\/(if y=x then Q2 wL b a else wL y x)=true;by_cases e:x=y
  ·subst e;rw[if_pos rfl,if_pos rfl];exact aX3 λz=>h (by rw[z])
  ·rw[if_neg e,if_neg (cQ6 e)];exact aX1 e
def aVU:∀ (a:W8) {b:W8},b≠ []->jN a (a++b)=true
 |[],[],h=>absurd rfl h
 |[],_::_,_=>rfl
 |x::a,b,h=>by show(if x=x then Q2 wL a (a++b)else _)=true;rw[if_pos rfl];exact aVU a h
def aZ4:∀ (a:W8) {x y:Int×Int} {b c:W8},wL x y=true->jN (a++x::b) (a++y::c)=true
 |[],x,y,b,c,h=>by
  show(if x=y then Q2 wL b c else wL x y)=true;have:x≠y:=λe=>by rw[e,vW]at h;cases h
  rw[if_neg this];exact h
 |z::a,x,y,b,c,h=>by show(if z=z then Q2 wL (a++x::b) (a++y::c)else _)=true;rw[if_pos rfl];exact aZ4 a h
def uniq{α:Type}{lt:α->α->Prop}(d:∀a,¬lt a a)(j:∀a b c,lt a b->lt b c->lt a c):∀ {l m:List α},l.Pairwise lt->m.Pairwise lt->(∀a,a∈l↔a∈m)->l=m
 |[],[],_,_,_=>rfl
 |[],y::m,_,_,h=>by have:=(h y).mpr cQG;cases this
 |x::l,[],_,_,h=>by have:=(h x).mp cQG;cases this
 |x::l,y::m,h1,h2,h=>by
  obtain⟨i,n⟩:=cXQ.mp h1;obtain⟨b1,k⟩:=cXQ.mp h2;have e:x=y:=by
   rcases cQz.mp ((h x).mp cQG)with e|e
   ·exact e
   ·rcases cQz.mp ((h y).mpr cQG)with g|g
    ·exact g.symm
    ·exact absurd (j _ _ _ (i y g) (b1 x e)) (d x)
  subst e;rw[uniq d j n k λa=>?_];constructor
  ·intro f;rcases cQz.mp ((h a).mp (cQB _ f))with e|e
   ·subst e;exact absurd (i a f) (d a)
   ·exact e
  ·intro f;rcases cQz.mp ((h a).mpr (cQB _ f))with e|e
   ·subst e;exact absurd (b1 a f) (d a)
   ·exact e
def IsTup.keep(f:h.get? a=some (cXb AB vs n))(k:∀c o,c≠a->h.get? c=some o->h'.get? c=some o)(t:cJi h x its):cJi h' x its:=by
 obtain⟨o,e,c,m,d⟩:=t;refine⟨o,k x o (λz=>?_) e,c,m,d⟩;rw[z,f]at e;cases e;have b:Value.type AB=Value.type AD:=c;injection b with c'';exact absurd c'' (by decide)
def rep2.keep(b:h.get? a=some (cXb AB vs n))(k:∀c o,c≠a->h.get? c=some o->h'.get? c=some o)(t:rep2 h p u):rep2 h' p u:=
 let ⟨x,its,e,t1,t2⟩:=t;⟨x,its,e,IsTup.keep b k t1,t2⟩
def rep3.keep(b:h.get? a=some (cXb AB vs n))(k:∀c o,c≠a->h.get? c=some o->h'.get? c=some o)(t:rep3 h p u):rep3 h' p u:=
 let ⟨x,its,e,t1,t2⟩:=t;⟨x,its,e,IsTup.keep b k t1,L2.Paired.mapP t2 λ_ _ z=>rep2.keep b k z⟩
end Stree
namespace L2
open PySem PySem.Spec PyProof.Rows
open Stree (W8 jN)
def bJW(H:Hp)(p:Int×Int)(x:V):Prop:=∃c,x= .ref c/\H c=some (.tup [.int p.1,.int p.2])
def X4(H:Hp)(b:Nat)(c:W8):Prop:=∃a,H b=some (.tup a)/\cXk (bJW H) c a
section
variable {X:Cx}{pins:List (Nat×Obj)}{σ:St}{H:Hp}{s:cQr}{k:Nat}
def aY3{α β γ:Type}{F:α->β->Prop}{G:β->γ->Prop}{K:α->γ->Prop}(h:∀a b c,F a b->G b c->K a c):∀ {l:List α} {m:List β} {n:List γ},cXk F l m->cXk G m n->cXk K l n
 |_,_,_,.nil,.nil=> .nil
 |_,_,_,.cons a r,.cons b t=> .cons (h _ _ _ a b) (aY3 h r t)
def Inv.rep2(I:Inv X pins σ H s)(h:bJW H p x)(r:zL x u):Stree.rep2 s.heap p u:=by
 obtain⟨c,rfl,e⟩:=h;cases r;obtain⟨f,g,a,_⟩:=I.tuple (Cc e);obtain⟨i,j,rfl,b,d⟩:=xY.two g;exact⟨c,_,Cd,a,.cons b (.cons d .nil)⟩
def Inv.rep3(I:Inv X pins σ H s)(h:X4 H b f):Stree.rep3 s.heap f (.ref b):=by
 obtain⟨j,e,z⟩:=h;obtain⟨d,i,g,_⟩:=I.tuple (Cc e);exact⟨b,d,Cd,g,aY3 (F:=bJW H) (G:=zL) (K:=Stree.rep2 s.heap) (λ_ _ _ a c=>I.rep2 a c) z i⟩
def Q8(hr:v0 k X.A):jV X (.builtin AT) (λxs H Q=>∃ (p:Nat)(its:List V)(d:Nat->W8)(kn:Nat->Int),xs= [.ref p]/\H p=some (.lst its)/\its.length<64/\ (∀i j,i<its.length->j<its.length->d i=d j->i=j)/\(∀i x,its[i]? =some x->∃a b,x= .ref a/\H a=some (.tup [.ref b,.int (kn i)])/\X4 H b (d i))/\ ∀l (out:List Nat),H l=none->out.Perm (cQy its.length)->(out.Pairwise λi j=>jN (d i) (d j)=true)->Q (.ref l) (upd H l (.lst (out.map λi=>its.getD i .non)))):=by
 intro pins s σ H xs us Q I r h;obtain⟨p,its,d,kn,rfl,hp,a9,L,a4,q⟩:=h;obtain⟨u,rfl,ru⟩:=aXf r;cases ru;obtain⟨g,rv,pl,hz⟩:=I.list (Cb hp);have a0:g.length=its.length:=rv.length.symm;refine cJQ kind_sorted plain_sorted entry_sorted (args_sorted1 _) ?_;unfold cZf.«sorted»;refine cQo (m:=checkCount AT 1 1 _) (cQs ?_);refine cQo (collect_list pl.isList ?_ (by rw[cQQ];omega));refine cQo (cJK ?_ (by rw[cQQ];omega));have U:((s.heap.push (cXb AB #[] 0)).update s.heap.objs.size (cXj (·++g.toArray))).objs.size=s.heap.objs.size+1:=by rw[Heap.size_update,size_push']
 have y:(((s.heap.push (cXb AB #[] 0)).update s.heap.objs.size (cXj (·++g.toArray))).push (cXb AB g.toArray 0)).get? (s.heap.objs.size+1)=some (cXb AB g.toArray 0):=by rw[<- U];exact cQS _ rfl
 have keep:∀b o,s.heap.get? b=some o->(((s.heap.push (cXb AB #[] 0)).update s.heap.objs.size (cXj (·++g.toArray))).push (cXb AB g.toArray 0)).get? b=some o:=λb o q=>by have F:b<s.heap.objs.size:=cQC q;rw[Heap.get?_push_ne _ _ _ (by rw[U];exact cQP (cXB F)),cVq _ _ _ _ (cQP F),Heap.get?_push_ne _ _ _ (cQP F)];exact q
 show cQw _ _ _ _ _ {s with heap:=((s.heap.push (cXb AB #[] 0)).update s.heap.objs.size (cXj (·++g.toArray))).push (cXb AB g.toArray 0) };rw[U];generalize b1:((s.heap.push (cXb AB #[] 0)).update s.heap.objs.size (cXj (·++g.toArray))).push (cXb AB g.toArray 0)=M at y keep ⊢;refine cQo (cXK (cZa cVE ⟨_,y,rfl⟩ cVw ?body (cVD _)));case body=>
  have I1:Inv X pins σ H {s with heap:=M}:=I.kept (t':=s.toks) keep;have P:s.heap.objs.size<=s.heap.objs.size+1:=cZv _;have fa:=I.fpOk (b:=s.heap.objs.size+1) P (I.hok.fresh P);obtain⟨r,a6,a1⟩:=Stree.aVg (n:=g.length) (λi j=>jN (d i) (d j)) (λi _=>Stree.uD _) (λi j k _ _ _ M D=>Stree.Z1 M D)
   (λi j C O a7=>Stree.aX3 λz=>a7 (L i j (by omega) (by omega) z))
  have ob:∀i,i<g.length->∃a o u t m,g.getD i Value.none= .ref a/\M.get? a=some o/\o.cls= .type AD/\o.data= .seq #[u,.int (kn i) t] m/\Stree.rep3 M (d i) u:=λi C=>by
   have B:i<its.length:=by omega
   obtain⟨a,b,e1,e2,e3⟩:=a4 i its[i] (cQn B);obtain⟨u0,S,J⟩:=rv.get (cQn B);rw[e1]at J;cases J;obtain⟨b0,rj,pj,_⟩:=I1.tuple (Cc e2);obtain⟨u1,u2,rfl,q1,q2⟩:=xY.two rj;cases q1;obtain⟨t,rfl⟩:=q2;obtain⟨o,G,E,m,N⟩:=pj;exact⟨a,o,_,t,m,by simp[cQ8,S],G,E,N,I1.rep3 e3⟩
  refine Stree.aJp (s:={s with heap:=M}) y (by omega) r a6 (λD=>⟨tuples' false,λD Y=>⟨λQ' a8=>?_,λi j C' C O hC=>?_⟩⟩) λp h5 c5 R a3 k5 o5=>?_
  ·have kt:∀ {x:Nat} {o:Obj},M.get? x=some o->o.cls= .type AD->D.get? x=some o:=λ{x o} e c=>Y x o (λz=>by rw[z,y]at e;cases e;have c':Value.type AB=Value.type AD:=c;injection c' with c'';exact absurd c'' (by decide)) e;have Z:∀ (l:List cQp),(∀ (i:Nat)(v:cQp),l[i]? =some v->∃a o u w m,v=Value.ref a/\D.get? a=some o/\o.cls= .type AD/\o.data= .seq #[u,w] m/\∃c its,u= .ref c/\cJi D c its)->
     ∃fs,cVZ D l fs/\fs.length=l.length/\∀f∈fs,∃c its,f=Value.ref c/\cJi D c its:=by
    intro l
    induction l with
    |nil=>intro _;exact⟨[],trivial,Cd,λf hf=>by cases hf⟩
    |cons v l ih=>
     intro K;obtain⟨a,o,u,w,m,rfl,G,E,N,c,its,rfl,g4⟩:=K 0 v rfl;obtain⟨fs,f1,f2,f3⟩:=ih λi v h=>K (i+1) v h;refine⟨.ref c::fs,cVi G E N rfl f1,by simp[f2],λf hf=>?_⟩;rcases cQz.mp hf with rfl|hf
     ·exact⟨c,its,Cd,g4⟩
     ·exact f3 f hf
   obtain⟨fs,f1,f2,f3⟩:=Z g λi v K=>by
    have C:i<g.length:=by
     rcases cJs i g.length with h|h
     ·exact h
     ·rw[cQW h]at K;cases K
    obtain⟨a,o,u,t,m,g0,G,E,N,g4⟩:=ob i C;have:g.getD i Value.none=v:=by simp[cQ8,K]
    rw[this]at g0;obtain⟨c,its,e,g5,_⟩:=g4;exact⟨a,o,u,_,m,g0,kt G E,E,N,c,_,e,Stree.IsTup.keep y Y g5⟩
   refine PySem.W.kat_kind (T:= .type AD) f1 (by omega) (λv K=>?_) rfl a8;obtain⟨c,its,rfl,o,G,E,_⟩:=f3 v K;have z:PySem.W.Looks (cQx X.prog X.w) D (typeOf (.ref c)) o.cls:=(PySem.W.Looks.ld G).andThen .now;rw[E]at z;exact z
  ·obtain⟨ai,oi,ui,t1,m1,g0,G,E,N,g4⟩:=ob i C;obtain⟨aj,oj,uj,t3,m2,d0,d1,d2,d3,d4⟩:=ob j O;have kt:∀ {x:Nat} {o:Obj},M.get? x=some o->o.cls= .type AD->D.get? x=some o:=λ{x o} e c=>Y x o (λz=>by rw[z,y]at e;cases e;have c':Value.type AB=Value.type AD:=c;injection c' with c'';exact absurd c'' (by decide)) e;show cQw _ _ (keyLt' _ (g.getD i Value.none) (g.getD j Value.none)) _ _ _;rw[g0,d0];refine Stree.bVo (by have:=hr.un;show X.A.units+1+1+1<cLine;omega) (kt G E) N (kt d1 d2) d3 (Stree.rep3.keep y Y g4) (Stree.rep3.keep y Y d4) (λz=>by rw[L i j (by omega) (by omega) z]) ?_;have e1:=a1 i j C O;rw[e1]at hC;by_cases z:d i=d j
   ·have:jN (d i) (d j)=false:=by rw[z];exact Stree.uD _
    rw[this]at hC;simpa[z]using hC
   ·have:decide (d i≠d j)=true:=decide_eq_true z;rw[this,Bool.true_and];exact hC
  ·have hm:∀i∈p,i<g.length:=λi C=>cQT.mp (R.mem_iff.mp C);have vv:∀l:List Nat,(∀i∈l,i<g.length)->xY (l.map λi=>its.getD i .non) (l.map λi=>g.getD i Value.none):=by
    intro l;induction l with
    |nil=>intro _;exact .nil
    |cons i l ih=>
     intro h;refine .cons ?_ (ih λj O=>h j (cQB _ O));have C:=h i cQG;have B:i<its.length:=by omega
     obtain⟨u0,S,J⟩:=rv.get (cQn B);show zL (its.getD i .non) (g.getD i Value.none);have e1:g.getD i Value.none=u0:=by simp[cQ8,S]
     have e2:its.getD i .non=its[i]:=by simp[cQ8,cQn B]
     rw[e1,e2];exact J
   have v2:=vv p hm;have a2:p.Perm (cQy its.length):=by rw[<- a0];exact R
   have F:p.length=g.length:=by rw[R.length_eq,cXh]
   have a5:p.Pairwise λi j=>jN (d i) (d j)=true:=a3.imp_of_mem λ{i j} C O h=>by have:=a1 i j (hm i C) (hm j O);rw[<- this];exact decide_eq_true h
   have I5:Inv X pins σ (upd H (s.heap.objs.size+1) (.lst (p.map λi=>its.getD i .non))) {s with heap:=h5}:=
    I.laid (t':=s.toks) (λb o e=>k5 b o (cQP (cXB (cQC e))) (keep b o e)) P ⟨by rw[cQt,cQQ];omega,_,c5,v2,o5⟩
   exact⟨_,Cd,cQs ⟨_,Cd,⟨.ref _,_,I5,Cd,q _ p fa.1 a2 a5⟩⟩⟩
end
end L2
namespace L2
open PySem PySem.Spec PyProof.Rows
section
variable {X:Cx}
def uP:jV X (.builtin AT) (λxs H Q=>∃ (p:Nat)(its:List V)(g:Nat->Int×Int),xs= [.ref p]/\H p=some (.lst its)/\its.length<64/\ (∀i j,i<its.length->j<its.length->g i=g j->i=j)/\(∀i x,its[i]? =some x->∃a,x= .ref a/\H a=some (.tup [.int (g i).1,.int (g i).2]))/\ ∀l (out:List Nat),H l=none->out.Perm (cQy its.length)->(out.Pairwise λi j=>Stree.wL (g i) (g j)=true)->Q (.ref l) (upd H l (.lst (out.map λi=>its.getD i .non)))):=by
 intro G s σ H xs us Q I r h;obtain⟨p,its,g,rfl,hp,b0,a0,a5,q⟩:=h;obtain⟨u,rfl,ru⟩:=aXf r;cases ru;obtain⟨d,rv,pl,hz⟩:=I.list (Cb hp);have Y:d.length=its.length:=rv.length.symm;refine cJQ kind_sorted plain_sorted entry_sorted (args_sorted1 _) ?_;unfold cZf.«sorted»;refine cQo (m:=checkCount AT 1 1 _) (cQs ?_);refine cQo (collect_list pl.isList ?_ (by rw[cQQ];omega));refine cQo (cJK ?_ (by rw[cQQ];omega));have a2:((s.heap.push (cXb AB #[] 0)).update s.heap.objs.size (cXj (·++d.toArray))).objs.size=s.heap.objs.size+1:=by rw[Heap.size_update,size_push']
 have C:(((s.heap.push (cXb AB #[] 0)).update s.heap.objs.size (cXj (·++d.toArray))).push (cXb AB d.toArray 0)).get? (s.heap.objs.size+1)=some (cXb AB d.toArray 0):=by rw[<- a2];exact cQS _ rfl
 have keep:∀b o,s.heap.get? b=some o->(((s.heap.push (cXb AB #[] 0)).update s.heap.objs.size (cXj (·++d.toArray))).push (cXb AB d.toArray 0)).get? b=some o:=λb o q=>by have a1:b<s.heap.objs.size:=cQC q;refine cQu _ ?_;exact(cQ2 _ _ (cZ7 a1)).trans (cQu _ q)
 show cQw _ _ _ _ _ {s with heap:=((s.heap.push (cXb AB #[] 0)).update s.heap.objs.size (cXj (·++d.toArray))).push (cXb AB d.toArray 0) };rw[a2];generalize b2:((s.heap.push (cXb AB #[] 0)).update s.heap.objs.size (cXj (·++d.toArray))).push (cXb AB d.toArray 0)=S at C keep ⊢;refine cQo (cXK (cZa cVE ⟨_,C,rfl⟩ cVw ?body (cVD _)));case body=>
  have I1:Inv X G σ H {s with heap:=S}:=I.kept (t':=s.toks) keep;have N:s.heap.objs.size<=s.heap.objs.size+1:=cZv _;have fa:=I.fpOk (b:=s.heap.objs.size+1) N (I.hok.fresh N);obtain⟨r,a7,Z⟩:=Stree.aVg (n:=d.length) (λi j=>Stree.wL (g i) (g j)) (λi _=>Stree.vW _) (λi j k _ _ _ S L=>Stree.aX2 S L)
   (λi j A M a8=>Stree.aX1 λz=>a8 (a0 i j (by omega) (by omega) z))
  have ob:∀i,i<d.length->∃a o B D m,d.getD i Value.none= .ref a/\S.get? a=some o/\o.cls= .type AD/\o.data= .seq #[.int (g i).1 B,.int (g i).2 D] m:=λi A=>by
   have w:i<its.length:=by omega
   obtain⟨a,e1,e2⟩:=a5 i its[i] (cQn w);obtain⟨u0,P,E⟩:=rv.get (cQn w);rw[e1]at E;cases E;obtain⟨b1,rj,pj,_⟩:=I1.tuple (Cc e2);obtain⟨u1,u2,rfl,q1,q2⟩:=xY.two rj;obtain⟨B,rfl⟩:=q1;obtain⟨D,rfl⟩:=q2;obtain⟨o,R,J,m,K⟩:=pj;exact⟨a,o,B,D,m,by simp[cQ8,P],R,J,K⟩
  refine Stree.aJp (s:={s with heap:=S}) C (by omega) r a7 (λL=>⟨tuples' true,λL k2=>⟨λQ' a9=>?_,λi j C' A M hC=>?_⟩⟩) λp h5 c5 O a4 k5 o5=>?_
  ·have kt:∀ {x:Nat} {o:Obj},S.get? x=some o->o.cls= .type AD->L.get? x=some o:=λ{x o} e c=>k2 x o (λz=>by rw[z,C]at e;cases e;have c':Value.type AB=Value.type AD:=c;injection c' with c'';exact absurd c'' (by decide)) e;have U:∀ (l:List cQp),(∀ (i:Nat)(v:cQp),l[i]? =some v->∃a o B D m x y,v=Value.ref a/\L.get? a=some o/\o.cls= .type AD/\o.data= .seq #[.int x B,.int y D] m)->
     ∃fs,cVZ L l fs/\fs.length=l.length/\∀f∈fs,∃x t,f=Value.int x t:=by
    intro l
    induction l with
    |nil=>intro _;exact⟨[],trivial,Cd,λf hf=>by cases hf⟩
    |cons v l ih=>
     intro F;obtain⟨a,o,B,D,m,x,y,rfl,R,J,K⟩:=F 0 v rfl;obtain⟨fs,f1,f2,f3⟩:=ih λi v h=>F (i+1) v h;refine⟨.int x B::fs,cVi R J K rfl f1,by simp[f2],λf hf=>?_⟩;rcases cQz.mp hf with rfl|hf
     ·exact⟨x,B,rfl⟩
     ·exact f3 f hf
   obtain⟨fs,f1,f2,f3⟩:=U d λi v F=>by
    have A:i<d.length:=by
     rcases cJs i d.length with h|h
     ·exact h
     ·rw[cQW h]at F;cases F
    obtain⟨a,o,B,D,m,g0,R,J,K⟩:=ob i A;have:d.getD i Value.none=v:=by simp[cQ8,F]
    rw[this]at g0;exact⟨a,o,B,D,m,_,_,g0,kt R J,J,K⟩
   refine PySem.W.kat_kind (T:= .type As) f1 (by omega) (λv F=>?_) rfl a9;obtain⟨x,t,rfl⟩:=f3 v F;exact .now
  ·obtain⟨ai,oi,B,D,m1,g0,R,J,K⟩:=ob i A;obtain⟨aj,oj,t3,t4,m2,d0,d1,d2,d3⟩:=ob j M;have kt:∀ {x:Nat} {o:Obj},S.get? x=some o->o.cls= .type AD->L.get? x=some o:=λ{x o} e c=>k2 x o (λz=>by rw[z,C]at e;cases e;have c':Value.type AB=Value.type AD:=c;injection c' with c'';exact absurd c'' (by decide)) e;show cQw _ _ (keyLt' _ (d.getD i Value.none) (d.getD j Value.none)) _ _ _;rw[g0,d0];refine Stree.aYC (kt R J) K (kt d1 d2) d3 ?_;have e1:=Z i j A M;rw[e1]at hC;exact hC
  ·have hm:∀i∈p,i<d.length:=λi A=>cQT.mp (O.mem_iff.mp A);have vv:∀l:List Nat,(∀i∈l,i<d.length)->xY (l.map λi=>its.getD i .non) (l.map λi=>d.getD i Value.none):=by
    intro l;induction l with
    |nil=>intro _;exact .nil
    |cons i l ih=>
     intro h;refine .cons ?_ (ih λj M=>h j (cQB _ M));have A:=h i cQG;have w:i<its.length:=by omega
     obtain⟨u0,P,E⟩:=rv.get (cQn w);show zL (its.getD i .non) (d.getD i Value.none);have e1:d.getD i Value.none=u0:=by simp[cQ8,P]
     have e2:its.getD i .non=its[i]:=by simp[cQ8,cQn w]
     rw[e1,e2];exact E
   have v2:=vv p hm;have a3:p.Perm (cQy its.length):=by rw[<- Y];exact O
   have a1:p.length=d.length:=by rw[O.length_eq,cXh]
   have a6:p.Pairwise λi j=>Stree.wL (g i) (g j)=true:=a4.imp_of_mem λ{i j} A M h=>by have:=Z i j (hm i A) (hm j M);rw[<- this];exact decide_eq_true h
   have I5:Inv X G σ (upd H (s.heap.objs.size+1) (.lst (p.map λi=>its.getD i .non))) {s with heap:=h5}:=
    I.laid (t':=s.toks) (λb o e=>k5 b o (cQP (cXB (cQC e))) (keep b o e)) N ⟨by rw[cQt,cQQ];omega,_,c5,v2,o5⟩
   exact⟨_,Cd,cQs ⟨_,Cd,⟨.ref _,_,I5,Cd,q _ p fa.1 a3 a6⟩⟩⟩
end
end L2
namespace Fm
open Stree (W8 jN wL)
structure Ok(n:Nat)(L:Nat->Option Nat)(rk:Nat->Nat):Prop where
 lt:∀i j,i<n->L i=some j->j<n/\rk j<rk i
def rdF(L:Nat->Option Nat)(D:Nat->Int):Nat->Nat->W8
 |0,i=> [(D i,(i:Int))]
 |f+1,i=>match L i with
  |none=> [(D i,(i:Int))]
  |some j=>rdF L D f j++ [(D i,(i:Int))]
def tpF(L:Nat->Option Nat):Nat->Nat->Nat
 |0,i=>i
 |f+1,i=>match L i with
  |none=>i
  |some j=>tpF L f j
section
variable {n:Nat}{L:Nat->Option Nat}{D:Nat->Int}{rk:Nat->Nat}
def aZa(h:L i=none):∀f,rdF L D f i= [(D i,(i:Int))]
 |0=>rfl
 |f+1=>by unfold rdF;rw[h]
def aZx(h:L i=none):∀f,tpF L f i=i
 |0=>rfl
 |f+1=>by unfold tpF;rw[h]
def jQ(o:Ok n L rk):∀ (f g i:Nat),i<n->rk i<=f->rk i<=g->rdF L D f i=rdF L D g i
 |f,g,i,hi,hf,hg=>by
  cases h:L i with
  |none=>rw[aZa h,aZa h]
  |some j=>
   obtain⟨a,b⟩:=o.lt i j hi h;cases f with
   |zero=>omega
   |succ f=>
    cases g with
    |zero=>omega
    |succ g=>show(match L i with|none=>_|some j=>rdF L D f j++ [(D i,(i:Int))])=(match L i with|none=>_|some j=>rdF L D g j++ [(D i,(i:Int))]);rw[h];show rdF L D f j++_=rdF L D g j++_;rw[jQ o f g j a (by omega) (by omega)]
def jT(o:Ok n L rk):∀ (f g i:Nat),i<n->rk i<=f->rk i<=g->tpF L f i=tpF L g i
 |f,g,i,hi,hf,hg=>by
  cases h:L i with
  |none=>rw[aZx h,aZx h]
  |some j=>
   obtain⟨a,b⟩:=o.lt i j hi h;cases f with
   |zero=>omega
   |succ f=>
    cases g with
    |zero=>omega
    |succ g=>show(match L i with|none=>_|some j=>tpF L f j)=(match L i with|none=>_|some j=>tpF L g j);rw[h];exact jT o f g j a (by omega) (by omega)
def rd(L:Nat->Option Nat)(D:Nat->Int)(rk:Nat->Nat)(i:Nat):W8:=rdF L D (rk i) i
def tp(L:Nat->Option Nat)(rk:Nat->Nat)(i:Nat):Nat:=tpF L (rk i) i
def Z6(h:L i=none):rd L D rk i= [(D i,(i:Int))]:=aZa h _
def zW(h:L i=none):tp L rk i=i:=aZx h _
def uH(o:Ok n L rk)(a:i<n)(h:L i=some j):rd L D rk i=rd L D rk j++ [(D i,(i:Int))]:=by
 obtain⟨b,d⟩:=o.lt i j a h;unfold rd;cases c:rk i with
 |zero=>omega
 |succ m=>show(match L i with|none=>_|some j=>rdF L D m j++ [(D i,(i:Int))])=_;rw[h];show rdF L D m j++_=_;rw[jQ o m (rk j) j b (by omega) (cQv _)]
def vP(o:Ok n L rk)(a:i<n)(h:L i=some j):tp L rk i=tp L rk j:=by
 obtain⟨b,d⟩:=o.lt i j a h;unfold tp;cases c:rk i with
 |zero=>omega
 |succ m=>show(match L i with|none=>_|some j=>tpF L m j)=_;rw[h];exact jT o m (rk j) j b (by omega) (cQv _)
def aXO(o:Ok n L rk){P:Nat->Prop}(h0:∀i,i<n->L i=none->P i)(a:∀i j,i<n->L i=some j->P j->P i):∀ (m i:Nat),rk i<=m->i<n->P i
 |m,i,hm,hi=>by
  cases h:L i with
  |none=>exact h0 i hi h
  |some j=>
   obtain⟨b,c⟩:=o.lt i j hi h;cases m with
   |zero=>omega
   |succ m=>exact a i j hi h (aXO o h0 a m j (by omega) b)
def bXd(o:Ok n L rk)(a:i<n):tp L rk i<n/\L (tp L rk i)=none:=
 aXO o (P:=λi=>tp L rk i<n/\L (tp L rk i)=none) (λi a h=>by rw[zW h];exact⟨a,h⟩) (λi j a h b=>by rw[vP o a h];exact b) (rk i) i (cQv _) a
def aZb(o:Ok n L rk)(a:i<n):∃r,rd L D rk i=r++ [(D i,(i:Int))]:=by
 cases h:L i with
 |none=>exact⟨[],Z6 h⟩
 |some j=>exact⟨_,uH o a h⟩
def bQc(o:Ok n L rk)(a:i<n)(c:j<n)(h:rd L D rk i=rd L D rk j):i=j:=by
 obtain⟨r,e⟩:=aZb (D:=D) o a;obtain⟨d,b⟩:=aZb (D:=D) o c;rw[e,b]at h;have:=(cJ6 h rfl).2;injection this with z _;have:=congrArg Prod.snd z;simp only at this;omega
def bVP(o:Ok n L rk)(a:i<n):∃r,rd L D rk i=(D (tp L rk i),((tp L rk i:Nat):Int))::r:=
 aXO o (P:=λi=>∃r,rd L D rk i=(D (tp L rk i),((tp L rk i:Nat):Int))::r) (λi a h=>⟨[],by rw[Z6 h,zW h]⟩)
  (λi j a h ⟨r,e⟩=>⟨r++ [(D i,(i:Int))],by rw[uH o a h,vP o a h,e];rfl⟩) (rk i) i (cQv _) a
def Un(L:Nat->Option Nat)(D:Nat->Int)(rk:Nat->Nat)(v z:Nat):Prop:=rd L D rk v<+:rd L D rk z
def bKW(o:Ok n L rk)(a:i<n):Un L D rk (tp L rk i) i:=by
 obtain⟨r,e⟩:=bVP (D:=D) o a;have h:=(bXd o a).2;unfold Un;rw[Z6 h,e];exact⟨r,rfl⟩
def bJf(o:Ok n L rk)(q:v<n):∀ {k:Nat},k<n->Un L D rk v k->k≠v->∃c,c<n/\L c=some v/\Un L D rk c k:=λ{k} b f a=>by
 refine aXO o (P:=λk=>Un L D rk v k->k≠v->∃c,c<n/\L c=some v/\Un L D rk c k) (λk b h f a=>?_) (λk p b h s f a=>?_) (rk k) k (cQv _) b f a
 ·obtain⟨r,e⟩:=f;obtain⟨j,l⟩:=aZb (D:=D) o q;rw[Z6 h,l]at e;have hl:=congrArg cZs e;simp only[cQL,cXp,cZw]at hl;have t:j= []:=cJn (by omega);have w:r= []:=cJn (by omega);rw[t,w]at e;injection e with z _;have:=congrArg Prod.snd z;simp only at this;omega
 ·obtain⟨y,_⟩:=o.lt k p b h;have d:=f;unfold Un at d;rw[uH o b h]at d;by_cases g:p=v
  ·subst g;exact⟨k,b,h,List.prefix_refl _⟩
  ·have i:Un L D rk v p:=by
    obtain⟨r,e⟩:=d;rcases List.eq_nil_or_concat r with rfl|⟨j,x,rfl⟩
    ·rw[cXr]at e;obtain⟨j,l⟩:=aZb (D:=D) o q;rw[l]at e;have:=(cJ6 e rfl).2;injection this with z _;have:=congrArg Prod.snd z;simp only at this;omega
    ·rw[List.concat_eq_append,<- cXL]at e;exact⟨j,(cJ6 e rfl).1⟩
   obtain⟨c,u,hl,m⟩:=s i g;refine⟨c,u,hl,?_⟩;unfold Un;rw[uH o b h];exact List.IsPrefix.trans m (List.prefix_append _ _)
def bKV(o:Ok n L rk)(b:v<n)(hz:z<n)(h:Un L D rk v z)(a:z≠v):jN (rd L D rk v) (rd L D rk z)=true:=by
 obtain⟨r,e⟩:=h;rw[<- e];refine Stree.aVU _ λc=>a ?_;rw[c,cXr]at e;exact(bQc o b hz e).symm
def bKF(o:Ok n L rk)(i:c<n)(g:d<n)(b:L c=some v)(f:L d=some v)(a:wL (D c,(c:Int)) (D d,(d:Int))=true)(h:Un L D rk c z):jN (rd L D rk z) (rd L D rk d)=true:=by
 obtain⟨r,e⟩:=h;rw[<- e,uH o i b,uH o g f,cXL];exact Stree.aZ4 _ a
structure aJC(n:Nat)(L:Nat->Option Nat)(D:Nat->Int)(rk:Nat->Nat)(root:Nat)(told nx:List Nat):Prop where
 tl:∀x∈told,x<n/\tp L rk x=root
 al:∀x∈nx,x<n/\tp L rk x=root
 tt:told.Pairwise λx y=>jN (rd L D rk x) (rd L D rk y)=true
 ta:∀x∈told,∀y∈nx,jN (rd L D rk x) (rd L D rk y)=true
 aa:nx.Pairwise λx y=>∀z,Un L D rk x z->jN (rd L D rk z) (rd L D rk y)=true
 all:∀k,k<n->tp L rk k=root->k∈told\/∃a∈nx,Un L D rk a k
def aJC.start(o:Ok n L rk)(b:i<n):aJC n L D rk (tp L rk i) [] [tp L rk i]:=by
 have h:=bXd o b;refine⟨λx a=>(nomatch a),λx a=>?_,.nil,λx a=>(nomatch a),cXP _ _,λk c e=> .inr ⟨_,cQD.mpr rfl,?_⟩⟩
 ·rw[cQD.mp a];exact⟨h.1,by rw[zW h.2]⟩
 ·have z:=bKW (D:=D) o c;rw[e]at z;exact z
def aJC.step(o:Ok n L rk){m jX zU:List Nat}(W:aJC n L D rk j m (v::jX))(F:∀i,i∈zU↔i<n/\L i=some v)(H:zU.Pairwise λx y=>wL (D x,(x:Int)) (D y,(y:Int))=true):aJC n L D rk j (m++ [v]) (zU++jX):=by
 obtain⟨B,r⟩:=W.al v cQG;obtain⟨G,I⟩:=cXQ.mp W.aa;have b:∀c∈zU,c<n/\L c=some v/\tp L rk c=j/\Un L D rk v c/\c≠v:=λc l=>by
  obtain⟨s,t⟩:=(F c).mp l;refine⟨s,t,by rw[vP o s t];exact r,?_,λz=>?_⟩
  ·unfold Un;rw[uH o s t];exact List.prefix_append _ _
  ·have:=(o.lt c v s t).2;rw[z]at this;omega
 have self:∀x,Un L D rk x x:=λx=>List.prefix_refl _;refine⟨λx f=>?_,λx f=>?_,?_,λx f y g=>?_,?_,λk q u=>?_⟩
 ·rcases cQY.mp f with f|f
  ·exact W.tl x f
  ·rw[cQD.mp f];exact⟨B,r⟩
 ·rcases cQY.mp f with f|f
  ·exact⟨(b x f).1,(b x f).2.2.1⟩
  ·exact W.al x (cQB _ f)
 ·refine cVh.mpr ⟨W.tt,cXP _ _,λx f y g=>?_⟩;rw[cQD.mp g];exact W.ta x f v cQG
 ·have p:∀y∈zU++jX,jN (rd L D rk v) (rd L D rk y)=true:=λy g=>by
   rcases cQY.mp g with g|g
   ·exact bKV o B (b y g).1 (b y g).2.2.2.1 (b y g).2.2.2.2
   ·exact G y g v (self v)
  rcases cQY.mp f with f|f
  ·exact Stree.Z1 (W.ta x f v cQG) (p y g)
  ·rw[cQD.mp f];exact p y g
 ·refine cVh.mpr ⟨H.imp_of_mem λ{c d} l hd h z A=>bKF o (b c l).1 (b d hd).1 (b c l).2.1 (b d hd).2.1 h A,I,λc l y g z A=>?_⟩;exact G y g z (List.IsPrefix.trans (b c l).2.2.2.1 A)
 ·rcases W.all k q u with h|⟨a,w,E⟩
  ·exact .inl (cZx _ h)
  ·rcases cQz.mp w with rfl|w
   ·by_cases e:k=a
    ·exact .inl (cQN _ (cQD.mpr e))
    ·obtain⟨c,l,hl,C⟩:=bJf o B q E e;exact .inr ⟨c,cZx _ ((F c).mpr ⟨l,hl⟩),C⟩
   ·exact .inr ⟨a,cQN _ w,E⟩
def aJC.nodup(W:aJC n L D rk b a nx):a.Nodup:=
 W.tt.imp λ{x y} h z=>by rw[z,Stree.uD]at h;cases h
def wW:∀ {n:Nat} {l:List Nat},l.Nodup->(∀x∈l,x<n)->l.length<=n
 |0,[],_,_=>cQv _
 |0,x::_,_,h=>absurd (h x cQG) (cX3 _)
 |n+1,l,nd,h=>by
  by_cases c:n∈l
  ·have b:=wW (n:=n) (l:=l.erase n) (nd.erase n) λx a=>by
    have:=(List.Nodup.mem_erase_iff nd).mp a;have:=h x this.2;omega
   rw[List.length_erase_of_mem c]at b;omega
  ·have b:=wW (n:=n) (l:=l) nd λx a=>by
    have:=h x a;have:x≠n:=λz=>c (z ▸ a);omega
   omega
def aJC.len(W:aJC n L D rk b a nx):a.length<=n:=wW W.nodup λx c=>(W.tl x c).1
def aJC.done(W:aJC n L D rk b c [])(k:Nat):k∈c↔k<n/\tp L rk k=b:=
 ⟨λh=>W.tl k h,λ⟨e,f⟩=>(W.all k e f).elim id λ⟨a,d,_⟩=>nomatch d⟩
end
end Fm
namespace Fm
open Stree (W8 jN wL)
section
variable {n:Nat}{L:Nat->Option Nat}{D:Nat->Int}{rk rk':Nat->Nat}
def bQd(o:Ok n L rk)(b:Ok n L rk')(a:i<n):rd L D rk i=rd L D rk' i:=by
 unfold rd;rw[jQ o (rk i) (max (rk i) (rk' i)) i a (cQv _) (Nat.le_max_left _ _),jQ b (rk' i) (max (rk i) (rk' i)) i a (cQv _) (Nat.le_max_right _ _)]
def jE(o:Ok n L rk)(b:Ok n L rk')(a:i<n):tp L rk i=tp L rk' i:=by
 unfold tp;rw[jT o (rk i) (max (rk i) (rk' i)) i a (cQv _) (Nat.le_max_left _ _),jT b (rk' i) (max (rk i) (rk' i)) i a (cQv _) (Nat.le_max_right _ _)]
def bVQ(o:Ok n L rk)(c:i<n):∃l:List Nat,(rd L D rk i).map (·.2)=l.map (λk:Nat=>(k:Int))/\l.Nodup/\(∀k∈l,k<n/\rk k<=rk i):=
 aXO o (P:=λi=>∃l:List Nat,(rd L D rk i).map (·.2)=l.map (λk:Nat=>(k:Int))/\l.Nodup/\(∀k∈l,k<n/\rk k<=rk i)) (λi c h=>⟨[i],by rw[Z6 h];rfl,by simp,λk d=>by rw[cQD.mp d];exact⟨c,cQv _⟩⟩)
  (λi j c h ⟨l,e,nd,hl⟩=>by
   obtain⟨p,m⟩:=o.lt i j c h;refine⟨l++ [i],by rw[uH o c h,cX2,cX2,e];rfl,?_,λk d=>?_⟩
   ·rw[cZU];refine⟨nd,by simp,λa g b f z=>?_⟩;rw[cQD.mp f]at z;have:=(hl a g).2;rw[z]at this;omega
   ·rcases cQY.mp d with d|d
    ·have:=hl k d;exact⟨this.1,by omega⟩
    ·rw[cQD.mp d];exact⟨c,cQv _⟩) (rk i) i (cQv _) c
def bKt(o:Ok n L rk)(a:i<n):(rd L D rk i).length<=n:=by
 obtain⟨l,e,b,hl⟩:=bVQ (D:=D) o a;have h:=congrArg cZs e;rw[cQt,cQt]at h;rw[h];exact wW b λk c=>(hl k c).1
def bVd(o:Ok n L rk)(ha:a<n)(hb:b<n)(h0:L a=none)(hne:tp L rk b≠a):Ok n (λi=>if i=a then some b else L i) (λi=>if tp L rk i=a then rk i+rk b+1 else rk i) where
 lt:=λi j hi h=>by
  by_cases e:i=a
  ·subst e
   rw[if_pos rfl]at h
   cases h
   rw[if_neg hne,if_pos (zW h0)]
   exact⟨hb,by omega⟩
  ·rw[if_neg e]at h
   obtain⟨hj,hr⟩:=o.lt i j hi h
   have et:=vP o hi h
   refine⟨hj,?_⟩
   rw[et]
   split<;> omega
def bXS(o:Ok n L rk)(a:Nat):Ok n (λi=>if i=a then none else L i) rk where
 lt:=λi j hi h=>by
  by_cases e:i=a
  ·rw[if_pos e]at h;cases h
  ·rw[if_neg e]at h;exact o.lt i j hi h
def bJQ(rk:Nat->Nat):Option Nat->Nat
 |none=>0
 |some j=>rk j+1
def bXw(o:Ok n L rk)(l:Option Nat)(hl:∀j,l=some j->j<n):Ok (n+1) (λi=>if i=n then l else L i) (λi=>if i=n then bJQ rk l else rk i) where
 lt:=λi j hi h=>by
  by_cases e:i=n
  ·rw[if_pos e]at h
   have hj:=hl j h
   rw[if_pos e,if_neg (by omega),h]
   exact⟨by omega,cXM _⟩
  ·rw[if_neg e]at h
   obtain⟨hj,hr⟩:=o.lt i j (by omega) h
   rw[if_neg e,if_neg (by omega)]
   exact⟨by omega,hr⟩
def bWy(o:Ok n L rk)(a:i<n):tp L rk (tp L rk i)=tp L rk i:=zW (bXd o a).2
def Ok.congr{b:Nat->Option Nat}(o:Ok n L rk)(h:∀i,i<n->L i=b i):Ok n b rk:=⟨λi j a e=>o.lt i j a ((h i a).trans e)⟩
end
end Fm
namespace Dm
def opn(d:Int):Bool:=decide (d % 7<5)
def cts(a:List Int)(d:Int):Bool:=opn d && !(a.contains d)
def cnt(b:List Int)(a:Int):Nat->Nat
 |0=>0
 |n+1=>cnt b a n+(if cts b (a+n)then 1 else 0)
def place(d:Int):Int:=d / 7*5+(if 4<d % 7 then 4 else d % 7)
def zS(p:Int):Int:=p / 5*7+p % 5
def aKo(d:Int):place d=place (d - 1)+(if opn d then 1 else 0):=by
 unfold place opn;simp only[decide_eq_true_eq];split<;> split<;> split<;> omega
def bJ1(b:List Int)(a:Int)(n m:Nat):cnt b a (n+m)=cnt b a n+cnt b (a+n) m:=by
 induction m with
 |zero=>rfl
 |succ m c=>have e:cnt b a (n+(m+1))=cnt b a (n+m)+(if cts b (a+((n+m:Nat):Int))then 1 else 0):=rfl;have d:cnt b (a+n) (m+1)=cnt b (a+n) m+(if cts b (a+n+(m:Int))then 1 else 0):=rfl;rw[e,d,c,show a+((n+m:Nat):Int)=a+n+(m:Int) by omega];omega
def vH(a b:Int)(d:Int):Bool:=decide (a<=d) && decide (d<=b)
def aJS{S:List Int}(k:S.Nodup)(a b:Int)(h:a<=b+1): (S.filter (vH a (b+1))).length=(S.filter (vH a b)).length+(if S.contains (b+1)then 1 else 0):=by
 induction S with
 |nil=>rfl
 |cons x r c=>
  have d:=cZy.mp k;have c:=c d.2;by_cases j:x=b+1
  ·subst j;have i:r.contains (b+1)=false:=by
    rw[<- Bool.not_eq_true,cX1];exact d.1
   rw[i]at c;have e:vH a (b+1) (b+1)=true:=by simp[vH,h]
   have g:vH a b (b+1)=false:=by simp[vH];omega
   rw[cX9 e,cX8 (by rw[g];decide)];simp at c ⊢;omega
  ·have e:vH a (b+1) x=vH a b x:=by
    unfold vH;have:decide (x<=b+1)=decide (x<=b):=by rw[decide_eq_decide];omega
    rw[this]
   have g:(x::r).contains (b+1)=r.contains (b+1):=by
    rw[cZM];have:(b+1==x)=false:=by simp;omega
    rw[this,Bool.false_or]
   rw[g];by_cases f:vH a b x=true
   ·rw[cX9 (by rw[e];exact f),cX9 f];simp only[cXp];omega
   ·rw[cX8 (by rw[e];exact f),cX8 f];exact c
def aWK{b S:List Int}(g:S.Nodup)(e:∀d,d∈S↔d∈b/\opn d=true)(a:Int)(n:Nat): (cnt b a n:Int)=place (a+n - 1) - place (a - 1) - ((S.filter (vH a (a+n - 1))).length:Nat):=by
 induction n with
 |zero=>
  have:S.filter (vH a (a+(0:Nat) - 1))= []:=by rw[List.filter_eq_nil_iff];intro x _;simp[vH];omega
  rw[this];simp[cnt]
 |succ n j=>
  have f:=aJS g a (a+n - 1) (by omega);rw[show a+(n:Int) - 1+1=a+n by omega]at f;have p:=aKo (a+n);rw[show a+((n+1:Nat):Int) - 1=a+n by omega];show((cnt b a n+(if cts b (a+n)then 1 else 0):Nat):Int)=_;have c:(if cts b (a+n)then 1 else 0:Nat)+(if S.contains (a+n)then 1 else 0:Nat)=(if opn (a+n)then 1 else 0:Nat):=by
   have i:S.contains (a+n)=(b.contains (a+n) && opn (a+n)):=by rw[Bool.eq_iff_iff,cX1,Bool.and_eq_true,cX1];exact e _
   rw[i];unfold cts;cases opn (a+↑n)<;> cases b.contains (a+↑n)<;> rfl
  have h:place (a+n)=place (a+n - 1)+((if opn (a+n)then 1 else 0:Nat):Int):=by rw[p];cases opn (a+↑n)<;> rfl
  rw[h,f];push_cast;omega
def aVe(p:Int):place (zS p)=p:=by
 unfold place zS;split<;> omega
def aJb(p:Int):opn (zS p)=true:=by
 unfold opn zS;rw[decide_eq_true_eq];omega
def bXr(h:p<q):zS p<zS q:=by
 unfold zS;omega
def bXq(h:p<=q):zS p<=zS q:=by
 unfold zS;omega
def aJO(d:Int):d<zS (place d+1):=by
 unfold place zS;split<;> omega
def uX(date:Int)(p c:Int):Int:=if date<c/\c<=zS p then p+1 else p
def aXV(date:Int)(p:Int)(C:List Int):Int:=C.foldl (uX date) p
def vN(date e:Int)(c:Int):Bool:=decide (date<c) && decide (c<=e)
def aVN(g:Int):∀ (d b:List Int)(p:Int),(b++d).Pairwise (·<·)->
  p=g+((b.filter (vN date (zS p))).length:Nat)->(∀c∈b,date<c->c≠zS p)->g<=p->
  ∃q,aXV date p d=q/\q=g+(((b++d).filter (vN date (zS q))).length:Nat)/\(∀c∈b++d,date<c->c≠zS q)/\g<=q
 |[],b,p,_,h1,h2,h3=>⟨p,Cd,by rw[cXr];exact h1,by rw[cXr];exact h2,h3⟩
 |c::d,b,p,hs,h1,h2,h3=>by
  have f:((b++ [c])++d).Pairwise (·<·):=by rw[cXL];exact hs
  have lt:∀x∈b,x<c:=λx a=>(cVh.mp hs).2.2 x a c (cQG ..);have fin:=aVN (date:=date) g d (b++ [c]);have step:aXV date p (c::d)=aXV date (uX date p c) d:=rfl;rw[step,show b++c::d=(b++ [c])++d by simp];by_cases j:date<c/\c<=zS p
  ·have e:uX date p c=p+1:=if_pos j;rw[e];have up:=bXr (show p<p+1 by omega);refine fin (p+1) f ?_ ?_ (by omega)
   ·have k:b.filter (vN date (zS (p+1)))=b.filter (vN date (zS p)):=by
     refine cVK λx a=>?_;have:=lt x a;unfold vN;have q:decide (x<=zS (p+1))=decide (x<=zS p):=by rw[decide_eq_decide];omega
     rw[q]
    have h:vN date (zS (p+1)) c=true:=by simp[vN];omega
    rw[cXC,k,cX9 h,cQL];simp only[List.filter_nil,cXp,cZw];omega
   ·intro x a i;rcases cQY.mp a with a|a
    ·have:=lt x a;omega
    ·have:x=c:=by simpa using a
     omega
  ·have e:uX date p c=p:=if_neg j;rw[e];refine fin p f ?_ ?_ h3
   ·have h:vN date (zS p) c=false:=by simp[vN];omega
    rw[cXC,cX8 (by rw[h];decide)];simpa using h1
   ·intro x a i;rcases cQY.mp a with a|a
    ·exact h2 x a i
    ·have:x=c:=by simpa using a
     omega
structure Due(sh:List Int)(date term D:Int):Prop where
 later:date<D
 cts:cts sh D=true
 cnt:(cnt sh (date+1) (D - date).toNat:Int)=term
def bJq{b C:List Int}{date term:Int}(o:1<=term)(c:C.Pairwise (·<·))(f:∀d,d∈C↔d∈b/\opn d=true): Due b date term (zS (aXV date (place date+term) C)):=by
 obtain⟨q,e,n,g,p⟩:=aVN (date:=date) (place date+term) C [] (place date+term) (by simpa using c) (by simp) (by simp) (Int.le_refl _);rw[e];rw[List.nil_append]at n g;have a:date<zS q:=Int.lt_of_lt_of_le (aJO date) (bXq (by omega));refine⟨a,?_,?_⟩
 ·unfold Dm.cts;rw[aJb,Bool.true_and,Bool.not_eq_true'];rw[<- Bool.not_eq_true,cX1];exact λz=>g _ ((f _).mpr ⟨z,aJb q⟩) a rfl
 ·have m:C.Nodup:=c.imp λh=>by omega
  have k:=aWK m f (date+1) (zS q - date).toNat;have i:date+1+((zS q - date).toNat:Int) - 1=zS q:=by omega
  have l:date+1 - 1=date:=by omega
  rw[i,l,aVe]at k;have j:C.filter (vH (date+1) (zS q))=C.filter (vN date (zS q)):=by
   refine cVK λx _=>?_;unfold vH vN;have:decide (date+1<=x)=decide (date<x):=by rw[decide_eq_decide];omega
   rw[this]
  rw[j]at k;omega
def bXn(b:List Int)(a:Int)(h:n<=m):cnt b a n<=cnt b a m:=by
 obtain⟨k,rfl⟩:=Nat.le.dest h;rw[bJ1];omega
def Due.less{a:List Int}{date term D:Int}(u:Due a date term D){n:Nat}(h:date+n<D):(Dm.cnt a (date+1) n:Int)<term:=by
 have e:(D - date).toNat=((D - date).toNat - 1)+1:=by have:=u.later;omega
 have k:=u.cnt;rw[e]at k;have b:Dm.cnt a (date+1) (((D - date).toNat - 1)+1)=Dm.cnt a (date+1) ((D - date).toNat - 1)+(if Dm.cts a (date+1+(((D - date).toNat - 1:Nat):Int))then 1 else 0):=rfl;have c:date+1+(((D - date).toNat - 1:Nat):Int)=D:=by have:=u.later;omega
 rw[c,u.cts]at b;have m:=bXn a (date+1) (show n<=(D - date).toNat - 1 by omega);simp only[if_true]at b;omega
def Due.uniq(u:Due d date term D)(v:Due d date term c):D=c:=by
 have a:=u.later;have b:=v.later;have e:¬D<c:=λh=>by have:=v.less (n:=(D - date).toNat) (by omega);have:=u.cnt;omega
 have f:¬c<D:=λh=>by have:=u.less (n:=(c - date).toNat) (by omega);have:=v.cnt;omega
 omega
end Dm
namespace Bk
open PySem (Str)
open Stree (W8 jN wL)
structure Row where
 way:Str
 date:Int
 partner:Str
 term:Int
 link:Option Nat
 place:Str
 void:Bool
 copies:List Str
abbrev Rows:=List Row
def lk(R:Rows)(i:Nat):Option Nat:=(R[i]?).bind (·.link)
def dt(R:Rows)(i:Nat):Int:=((R[i]?).map (·.date)).getD 0
def vA(R:Rows)(m:Int):Bool:=decide (0<=m) && (match R[m.toNat]? with|some r=> !r.void|none=>false)
inductive bYZ(R:Rows)(m:Int):Prop|mk(k:Nat)(r:Row)(_:m=(k:Int))(_:k<R.length)(_:R[k]? =some r)(_:r.void=false)
def wP{R:Rows}(h:vA R m=true):bYZ R m:=by
 unfold vA at h;rw[Bool.and_eq_true,decide_eq_true_eq]at h;obtain⟨c,a⟩:=h;cases e:R[m.toNat]? with
 |none=>rw[e]at a;cases a
 |some r=>rw[e]at a;refine⟨m.toNat,r,by omega,(cQA.mp e).1,e,?_⟩;have b:(!r.void)=true:=a;simpa using b
def uW(R:Rows):Prop:=∃a,Fm.Ok R.length (lk R) a
def wC(R:Rows)(i:Nat)(l:List Nat):Prop:=∃a,Fm.Ok R.length (lk R) a/\(l.Pairwise λx y=>jN (Fm.rd (lk R) (dt R) a x) (Fm.rd (lk R) (dt R) a y)=true)/\∀k,k∈l↔k<R.length/\Fm.tp (lk R) a k=Fm.tp (lk R) a i
def wC.uniq{R:Rows}(n:i<R.length)(f:wC R i l)(j:wC R i m):l=m:=by
 obtain⟨q,o,p,e⟩:=f;obtain⟨r,d,s,g⟩:=j;refine Stree.uniq (lt:=λx y=>jN (Fm.rd (lk R) (dt R) q x) (Fm.rd (lk R) (dt R) q y)=true) (λa h=>by rw[Stree.uD]at h;cases h) (λa b c f j=>Stree.Z1 f j) p ?_ λk=>?_
 ·refine s.imp_of_mem λ{x y} hx hy h=>?_;rw[Fm.bQd o d ((g x).mp hx).1,Fm.bQd o d ((g y).mp hy).1];exact h
 ·rw[e k,g k];constructor
  ·rintro⟨a,b⟩;exact⟨a,by rw[<- Fm.jE o d a,<- Fm.jE o d n];exact b⟩
  ·rintro⟨a,b⟩;exact⟨a,by rw[Fm.jE o d a,Fm.jE o d n];exact b⟩
def zU(R:Rows)(i:Nat):List Nat:=(cQy R.length).filter λk=>decide (lk R k=some i)
def aQb(R:Rows)(i:Nat)(d:Int):Bool:=match R[i]? with
 |none=>false
 |some r=> !r.void && decide (1<=r.term) && decide (r.date<=d) && (zU R i).all λk=>decide (d<dt R k)
def xD(R:Rows)(i:Nat)(f:Row->Row):Rows:=match R[i]? with
 |some r=>R.set i (f r)
 |none=>R
def xX(R:Rows)(i:Nat)(f:Row->Row):(xD R i f).length=R.length:=by unfold xD;split<;> simp
def xJ(R:Rows)(i j:Nat)(f:Row->Row):(xD R i f)[j]? =if j=i then(R[j]?).map f else R[j]? :=by
 unfold xD;by_cases e:j=i
 ·subst e;rw[if_pos rfl];cases h:R[j]? with
  |none=>simp[h]
  |some r=>have a:j<R.length:=(cQA.mp h).1;simp[cZI a]
 ·rw[if_neg e];cases h:R[i]? with
  |none=>rfl
  |some r=>simp[cJB (cQ6 e)]
def laid(R:Rows)(l:List Nat)(name:Str):Rows:=l.foldl (λR k=>xD R k λr=>{r with place:=name}) R
def uE(R:Rows)(i:Nat)(f:Row->Row)(h:∀r,(f r).link=r.link):lk (xD R i f)=lk R:=by
 funext j;unfold lk;rw[xJ];by_cases e:j=i
 ·rw[if_pos e];cases R[j]? with
  |none=>rfl
  |some r=>exact h r
 ·rw[if_neg e]
def aXU(R:Rows)(i:Nat)(f:Row->Row)(h:∀r,(f r).date=r.date):dt (xD R i f)=dt R:=by
 funext j;unfold dt;rw[xJ];by_cases e:j=i
 ·rw[if_pos e];cases R[j]? with
  |none=>rfl
  |some r=>show((some (f r)).map (·.date)).getD 0=_;simp[h r]
 ·rw[if_neg e]
def wQ(name:Str):∀ (l:List Nat)(R:Rows),(laid R l name).length=R.length
 |[],R=>rfl
 |k::l,R=>by show(laid (xD R k _) l name).length=_;rw[wQ name l,xX]
def Z0(name:Str):∀ (l:List Nat)(R:Rows),lk (laid R l name)=lk R
 |[],R=>rfl
 |k::l,R=>by show lk (laid (xD R k _) l name)=_;rw[Z0 name l,uE R k (λr=>{r with place:=name}) λ_=>rfl]
def aYs(name:Str):∀ (l:List Nat)(R:Rows),dt (laid R l name)=dt R
 |[],R=>rfl
 |k::l,R=>by show dt (laid (xD R k _) l name)=_;rw[aYs name l,aXU R k (λr=>{r with place:=name}) λ_=>rfl]
def wF(name:Str):∀ (l:List Nat)(R:Rows)(j:Nat),(laid R l name)[j]? =if j∈l then(R[j]?).map (λr=>{r with place:=name})else R[j]?
 |[],R,j=>by simp[laid]
 |k::l,R,j=>by
  show(laid (xD R k _) l name)[j]? =_;rw[wF name l,xJ];by_cases e:j=k
  ·subst e;rw[if_pos rfl,if_pos cQG];split
   ·cases R[j]? <;> rfl
   ·rfl
  ·rw[if_neg e];by_cases hl:j∈l
   ·rw[if_pos hl,if_pos (cQB _ hl)]
   ·rw[if_neg hl,if_neg (by simp[e,hl])]
def uW.laid{R:Rows}(t:uW R)(l:List Nat)(name:Str):uW (laid R l name):=by
 obtain⟨a,o⟩:=t;refine⟨a,?_⟩;rw[wQ,Z0];exact o
def uW.same{R:Rows}(t:uW R)(i:Nat)(f:Row->Row)(h:∀r,(f r).link=r.link):uW (xD R i f):=by
 obtain⟨a,o⟩:=t;refine⟨a,?_⟩;rw[xX,uE R i f h];exact o
def aX4(R:Rows)(a:i<R.length)(f:Row->Row)(l:Option Nat)(h:∀r,(f r).link=l):lk (xD R i f)=λj=>if j=i then l else lk R j:=by
 funext j;unfold lk;rw[xJ];by_cases e:j=i
 ·subst e;rw[if_pos rfl,if_pos rfl,cQn a];exact h _
 ·rw[if_neg e,if_neg e]
def uW.loose{R:Rows}(t:uW R)(a:i<R.length)(f:Row->Row)(h:∀r,(f r).link=none):uW (xD R i f):=by
 obtain⟨b,o⟩:=t;refine⟨b,?_⟩;rw[xX,aX4 R a f none h];exact Fm.bXS o i
def uW.hang{R:Rows}{rk:Nat->Nat}(o:Fm.Ok R.length (lk R) rk)(b:i<R.length)(c:j<R.length)(h0:lk R i=none)(a:Fm.tp (lk R) rk j≠i)(f:Row->Row)(h:∀r,(f r).link=some j):uW (xD R i f):=by
 refine⟨λk=>if Fm.tp (lk R) rk k=i then rk k+rk j+1 else rk k,?_⟩;rw[xX,aX4 R b f (some j) h];exact Fm.bVd o b c h0 a
def aYB(R:Rows)(r:Row):∀i,i<R.length+1->lk (R++ [r]) i=if i=R.length then r.link else lk R i:=λi a=>by
 unfold lk;by_cases e:i=R.length
 ·subst e;rw[if_pos rfl,cQK (cQv _)];simp
 ·rw[if_neg e,cQ0 (by omega)]
def uW.enter{R:Rows}(t:uW R)(r:Row)(h:∀j,r.link=some j->j<R.length):uW (R++ [r]):=by
 obtain⟨a,o⟩:=t;have z:=Fm.bXw o r.link h;refine⟨λi=>if i=R.length then Fm.bJQ a r.link else a i,?_⟩;rw[cQL,cXx];exact z.congr λi b=>(aYB R r i b).symm
end Bk
namespace Bk
open PySem (Str)
open Stree (W8 jN wL)
def bQP{L:Nat->Option Nat}{D:Nat->Int}{rk:Nat->Nat}(o:Fm.Ok n L rk):∀l:List Nat,l.Nodup->(∀k∈l,k<n)->∃m:List Nat,m.Perm l/\m.Pairwise λx y=>jN (Fm.rd L D rk x) (Fm.rd L D rk y)=true
 |[],_,_=>⟨[],.refl _,.nil⟩
 |x::l,nd,h=>by
  obtain⟨m,f,t⟩:=bQP (D:=D) o l (cZy.mp nd).2 λk c=>h k (cQB _ c);have s:x<n:=h x cQG;have g:∀k∈m,k<n/\k≠x:=λk c=>⟨h k (cQB _ (f.mem_iff.mp c)),λz=>(cZy.mp nd).1 (by rw[<- z];exact f.mem_iff.mp c)⟩;have ins:∀m:List Nat,(∀k∈m,k<n/\k≠x)->(m.Pairwise λx y=>jN (Fm.rd L D rk x) (Fm.rd L D rk y)=true)->∃d:List Nat,d.Perm (x::m)/\d.Pairwise λx y=>jN (Fm.rd L D rk x) (Fm.rd L D rk y)=true:=by
   intro m;induction m with
   |nil=>intro _ _;exact⟨[x],.refl _,cXP _ _⟩
   |cons y m r=>
    intro j q;obtain⟨a,b⟩:=cXQ.mp q;have p:=j y cQG;rcases Stree.aX3 (λz=>p.2 (Fm.bQc o p.1 s z):Fm.rd L D rk y≠Fm.rd L D rk x)with z|z
    ·obtain⟨d,e,i⟩:=r (λk c=>j k (cQB _ c)) b;refine⟨y::d,(List.Perm.cons _ e).trans (List.Perm.swap _ _ _),cXQ.mpr ⟨λk c=>?_,i⟩⟩;rcases cQz.mp (e.mem_iff.mp c)with rfl|c
     ·exact z
     ·exact a k c
    ·refine⟨x::y::m,.refl _,cXQ.mpr ⟨λk c=>?_,q⟩⟩;rcases cQz.mp c with rfl|c
     ·exact z
     ·exact Stree.Z1 z (a k c)
  obtain⟨d,e,i⟩:=ins m g t;exact⟨d,e.trans (List.Perm.cons _ f),i⟩
def bXc{R:Rows}(t:uW R)(i:Nat):∃l,wC R i l:=by
 obtain⟨a,o⟩:=t;obtain⟨m,b,c⟩:=bQP (D:=dt R) o ((cQy R.length).filter λk=>decide (Fm.tp (lk R) a k=Fm.tp (lk R) a i)) (cJC.sublist cZp) λk d=>cQT.mp (cXf.mp d).1;refine⟨m,a,o,c,λk=>?_⟩;rw[b.mem_iff,cXf,cQT,decide_eq_true_eq]
open Classical in
noncomputable def thr (R:Rows) (i:Nat):List Nat:=if h:∃l,wC R i l then choose h else []
def X0{R:Rows}(t:uW R)(i:Nat):wC R i (thr R i):=by
 have h:=bXc t i;unfold thr;rw[dif_pos h];exact cVa h
def aXN{R:Rows}(a:i<R.length)(h:wC R i l):thr R i=l:=
 wC.uniq a (by obtain⟨b,o,_⟩:=h;exact X0 ⟨b,o⟩ i) h
open Classical in
noncomputable def due (shut:List Int) (d t:Int):Int:=if h:∃D,Dm.Due shut d t D then choose h else d
def bJp{d t D:Int}(h:Dm.Due shut d t D):due shut d t=D:=by
 have a:∃D,Dm.Due shut d t D:=⟨D,h⟩;unfold due;rw[dif_pos a];exact(cVa a).uniq h
structure bXh(R:Rows)(shut:List Int)(d:Int)(late:Bool)(l:List Nat):Prop where
 mem:∀k,k∈l↔k<R.length/\aQb R k d=true/\(late=true->due shut (dt R k) (((R[k]?).map (·.term)).getD 0)<d)
 ord:l.Pairwise λx y=>wL (due shut (dt R x) (((R[x]?).map (·.term)).getD 0),(x:Int)) (due shut (dt R y) (((R[y]?).map (·.term)).getD 0),(y:Int))=true
def bXh.uniq{R:Rows}(f:bXh R shut d e l)(g:bXh R shut d e m):l=m:=
 Stree.uniq (lt:=λx y=>wL (due shut (dt R x) (((R[x]?).map (·.term)).getD 0),(x:Int)) (due shut (dt R y) (((R[y]?).map (·.term)).getD 0),(y:Int))=true) (λa h=>by rw[Stree.vW]at h;cases h) (λa b c f g=>Stree.aX2 f g) f.ord g.ord λk=>by rw[f.mem k,g.mem k]
inductive Ans where
 |num (n:Int)|txt (x:Str)|nums (l:List Nat)|txts (l:List Str)|row (r:Row)
inductive zI where
 |enter (way:Str) (day:Int) (who:Str) (term:Int)|reply (m:Int) (day term:Int)|hang (m o:Int)|loose (m:Int)|date (m d:Int)|term (m t:Int)
 |copy (m:Int) (who:Str)|file (m:Int) (name:Str)|void (m:Int)|shut (d:Int)|state (m:Int)|thread (m:Int)|copies (m:Int)|letters (name:Str)|on (late:Bool) (d:Int)
def v6(a:Str):Str:=if a="in" then BM else "in"
inductive xR(R:Rows)(S:List Int):zI->Ans->Rows->List Int->Prop
 |enter {way who:Str} {d t:Int} (h:0<=t):xR R S (.enter way d who t) (.num R.length) (R++ [⟨way,d,who,t,none,"",false,[]⟩]) S
 |enterT {way who:Str} {d t:Int} (h:t<0):xR R S (.enter way d who t) (.txt "no term") R S
 |replyN {m d t:Int} (h:vA R m=false):xR R S (.reply m d t) (.txt "no letter") R S
 |replyT {m d t:Int} (h:vA R m=true) (ht:t<0):xR R S (.reply m d t) (.txt "no term") R S
 |replyE {k:Nat} {d t:Int} {r:Row} (hk:R[k]? =some r) (h:r.void=false) (ht:0<=t) (hd:d<r.date):xR R S (.reply k d t) (.txt "too early") R S
 |reply {k:Nat} {d t:Int} {r:Row} (hk:R[k]? =some r) (h:r.void=false) (ht:0<=t) (hd:r.date<=d):xR R S (.reply k d t) (.num R.length) (R++ [⟨v6 r.way,d,r.partner,t,some k,r.place,false,[]⟩]) S
 |hangN {m o:Int} (h:vA R m=false\/vA R o=false):xR R S (.hang m o) (.txt "no letter") R S
 |hangH {i j:Nat} {r q:Row} (hi:R[i]? =some r) (hv:r.void=false) (hj:R[j]? =some q) (hw:q.void=false) (h:r.link≠none):xR R S (.hang i j) (.txt "has one") R S
 |hangO {i j:Nat} {r q:Row} (hi:R[i]? =some r) (hv:r.void=false) (hj:R[j]? =some q) (hw:q.void=false) (h:r.link=none) (ho:(thr R j).head? =some i):xR R S (.hang i j) (.txt "own thread") R S
 |hangW {i j:Nat} {r q:Row} (hi:R[i]? =some r) (hv:r.void=false) (hj:R[j]? =some q) (hw:q.void=false) (h:r.link=none) (ho:(thr R j).head? ≠some i) (h1:r.way=q.way):xR R S (.hang i j) (.txt "same way") R S
 |hangP {i j:Nat} {r q:Row} (hi:R[i]? =some r) (hv:r.void=false) (hj:R[j]? =some q) (hw:q.void=false) (h:r.link=none) (ho:(thr R j).head? ≠some i) (h1:r.way≠q.way) (h2:r.partner≠q.partner):xR R S (.hang i j) (.txt "other partner") R S
 |hangE {i j:Nat} {r q:Row} (hi:R[i]? =some r) (hv:r.void=false) (hj:R[j]? =some q) (hw:q.void=false) (h:r.link=none) (ho:(thr R j).head? ≠some i) (h1:r.way≠q.way) (h2:r.partner=q.partner) (h3:r.date<q.date):xR R S (.hang i j) (.txt "too early") R S
 |hang {i j:Nat} {r q:Row} (hi:R[i]? =some r) (hv:r.void=false) (hj:R[j]? =some q) (hw:q.void=false) (h:r.link=none) (ho:(thr R j).head? ≠some i) (h1:r.way≠q.way) (h2:r.partner=q.partner) (h3:q.date<=r.date):
   xR R S (.hang i j) (.txt "hung") (xD (laid R (thr R i) q.place) i λr=>{r with link:=some j}) S
 |oneN {m:Int} {e:zI} (h:vA R m=false) (he:e= .loose m\/(∃d,e= .date m d)\/(∃t,e= .term m t)\/(∃w,e= .copy m w)\/(∃w,e= .file m w)\/e= .void m\/e= .state m\/e= .thread m\/e= .copies m):xR R S e (.txt "no letter") R S
 |looseN {k:Nat} {r:Row} (hk:R[k]? =some r) (hv:r.void=false) (h:r.link=none):xR R S (.loose k) (.txt "has none") R S
 |loose {k:Nat} {r:Row} (hk:R[k]? =some r) (hv:r.void=false) (h:r.link≠none):xR R S (.loose k) (.txt BN) (xD R k λr=>{r with link:=none}) S
 |dateE {k:Nat} {r:Row} {d:Int} (hk:R[k]? =some r) (hv:r.void=false) (h:(∃j,r.link=some j/\d<dt R j)\/∃c∈zU R k,dt R c<d):xR R S (.date k d) (.txt "too early") R S
 |date {k:Nat} {r:Row} {d:Int} (hk:R[k]? =some r) (hv:r.void=false) (h1:∀j,r.link=some j->dt R j<=d) (h2:∀c∈zU R k,d<=dt R c):xR R S (.date k d) (.txt "dated") (xD R k λr=>{r with date:=d}) S
 |termN {k:Nat} {r:Row} {t:Int} (hk:R[k]? =some r) (hv:r.void=false) (h:t<0):xR R S (.term k t) (.txt "no term") R S
 |term {k:Nat} {r:Row} {t:Int} (hk:R[k]? =some r) (hv:r.void=false) (h:0<=t):xR R S (.term k t) (.txt B6) (xD R k λr=>{r with term:=t}) S
 |copyC {k:Nat} {r:Row} {w:Str} (hk:R[k]? =some r) (hv:r.void=false) (h:w=r.partner\/w∈r.copies):xR R S (.copy k w) (.txt CU) R S
 |copy {k:Nat} {r:Row} {w:Str} (hk:R[k]? =some r) (hv:r.void=false) (h:w≠r.partner) (h2:w∉r.copies):xR R S (.copy k w) (.num (r.copies.length+1)) (xD R k λr=>{r with copies:=r.copies++ [w] }) S
 |file {k:Nat} {r:Row} {w:Str} (hk:R[k]? =some r) (hv:r.void=false):xR R S (.file k w) (.num (thr R k).length) (laid R (thr R k) w) S
 |voidA {k:Nat} {r:Row} (hk:R[k]? =some r) (hv:r.void=false) (h:zU R k≠ []):xR R S (.void k) (.txt B4) R S
 |void {k:Nat} {r:Row} (hk:R[k]? =some r) (hv:r.void=false) (h:zU R k= []):xR R S (.void k) (.txt AW) (xD R k λr=>{r with link:=none,void:=true}) S
 |shutN {d:Int} (h:Dm.cts S d=false):xR R S (.shut d) (.txt "counts not") R S
 |shut {d:Int} (h:Dm.cts S d=true):xR R S (.shut d) (.txt Aj) R (S++ [d])
 |state {k:Nat} {r:Row} (hk:R[k]? =some r) (hv:r.void=false):xR R S (.state k) (.row r) R S
 |thread {k:Nat} {r:Row} (hk:R[k]? =some r) (hv:r.void=false):xR R S (.thread k) (.nums (thr R k)) R S
 |copies {k:Nat} {r:Row} (hk:R[k]? =some r) (hv:r.void=false):xR R S (.copies k) (.txts r.copies) R S
 |letters {w:Str}:xR R S (.letters w) (.nums ((cQy R.length).filter λk=>match R[k]? with|some r=> !r.void && decide (r.place=w)|none=>false)) R S
 |on {late:Bool} {d:Int} {l:List Nat} (h:bXh R S d late l):xR R S (.on late d) (.nums l) R S
end Bk
namespace Bk
open PySem (Str)
open Stree (W8 jN wL)
def wC.head{R:Rows}(g:j<R.length)(h:wC R j l):∃c,Fm.Ok R.length (lk R) c/\l.head? =some (Fm.tp (lk R) c j):=by
 obtain⟨c,o,p,e⟩:=h;refine⟨c,o,?_⟩;have k:=Fm.bXd o g;have f:Fm.tp (lk R) c j∈l:=(e _).mpr ⟨k.1,Fm.bWy o g⟩;cases l with
 |nil=>cases f
 |cons x r=>
  by_cases z:x=Fm.tp (lk R) c j
  ·rw[z];rfl
  ·exfalso;obtain⟨a,b⟩:=cXQ.mp p;have d:=(e x).mp cQG;have n:Fm.tp (lk R) c j∈r:=by
    rcases cQz.mp f with w|w
    ·exact absurd w.symm z
    ·exact w
   have s:=a _ n;have m:Fm.Un (lk R) (dt R) c (Fm.tp (lk R) c j) x:=by have:=Fm.bKW (D:=dt R) o d.1;rw[d.2]at this;exact this
   have q:=Fm.bKV o k.1 d.1 m z;have i:=Stree.Z1 s q;rw[Stree.uD]at i;cases i
def uN{R:Rows}(t:uW R)(b:j<R.length):∃a,Fm.Ok R.length (lk R) a/\(thr R j).head? =some (Fm.tp (lk R) a j):=(X0 t j).head b
def zV{R:Rows}{k:Nat}{r:Row}(h:R[k]? =some r):k<R.length:=(cQA.mp h).1
def wN{R:Rows}{k:Nat}(h:R[k]? =some r):lk R k=r.link:=by unfold lk;rw[h];rfl
def w9{R:Rows}{k:Nat}(h:R[k]? =some r):dt R k=r.date:=by unfold dt;rw[h];rfl
def xR.tree{R l:Rows}{S p:List Int}{e:zI}{a:Ans}(t:uW R)(h:xR R S e a l p):uW l:=by
 cases h with
 |enter h=>exact t.enter _ λj c=>nomatch c
 |reply b h w x=>exact t.enter _ λj c=>by cases c;exact zV b
 |@hang i j r q k d c hw h u n m v=>
  obtain⟨g,o,s⟩:=uN t (zV c);have f:Fm.tp (lk R) g j≠i:=λz=>u (by rw[s,z]);refine uW.hang (R:=laid R (thr R i) q.place) (rk:=g) (i:=i) (j:=j) ?_ ?_ ?_ ?_ ?_ _ λ_=>rfl
  ·rw[wQ,Z0];exact o
  ·rw[wQ];exact zV k
  ·rw[wQ];exact zV c
  ·rw[Z0,wN k];exact h
  ·rw[Z0];exact f
 |loose b d h=>exact t.loose (zV b) _ λ_=>rfl
 |date b d n m=>exact t.same _ _ λ_=>rfl
 |term b d h=>exact t.same _ _ λ_=>rfl
 |copy b d h m=>exact t.same _ _ λ_=>rfl
 |file b d=>exact t.laid _ _
 |void b d h=>exact t.loose (zV b) _ λ_=>rfl
 |_=>exact t
def bJd:uW []:=⟨λ_=>0,⟨λi j a=>absurd a (cX3 _)⟩⟩
end Bk
set_option tactic.hygienic true
namespace Bk
open PySem (Str)
open Stree (W8 jN wL)
def bWI(r q:Row):Prop:=r.void=false/\q.void=false/\r.way≠q.way/\r.partner=q.partner/\q.date<=r.date/\r.place=q.place
structure jU(R:Rows):Prop where
 tree:uW R
 way:∀r∈R,r.way="in"\/r.way=BM
 ans:∀ (i j:Nat)(r:Row),R[i]? =some r->r.link=some j->∃q,R[j]? =some q/\bWI r q
def aVL:jU [] where
 tree:=bJd
 way:=λr h=>absurd h (by simp)
 ans:=λi j r h=>by simp at h
def aV0{w:Str}(h:w="in"\/w=BM):v6 w≠w/\(v6 w="in"\/v6 w=BM):=by
 rcases h with rfl|rfl
 ·exact⟨by decide,.inr rfl⟩
 ·exact⟨by decide,.inl rfl⟩
def Y0{R:Rows}{i:Nat}{f:Row->Row}{r:Row}(h:r∈xD R i f):r∈R\/∃q∈R,r=f q:=by
 unfold xD at h;split at h
 ·rename_i q a;rcases List.mem_or_eq_of_mem_set h with h|h
  ·exact .inl h
  ·exact .inr ⟨q,cQH a,h⟩
 ·exact .inl h
def aJB{R:Rows}(h:∀r∈R,r.way="in"\/r.way=BM)(i:Nat)(f:Row->Row)(c:∀r,(f r).way=r.way):∀r∈xD R i f,r.way="in"\/r.way=BM:=λr a=>by
 rcases Y0 a with a|⟨q,b,rfl⟩
 ·exact h r a
 ·rw[c];exact h q b
def aWv{name:Str}:∀ (l:List Nat) {R:Rows},(∀r∈R,r.way="in"\/r.way=BM)->∀r∈laid R l name,r.way="in"\/r.way=BM
 |[],R,h=>h
 |k::l,R,h=>aWv l (aJB h k (λr=>{r with place:=name}) λ_=>rfl)
def bVr{R:Rows}{k i:Nat}{r:Row}(h:zU R k= [])(a:R[i]? =some r):r.link≠some k:=λe=>by
 have:i∈zU R k:=cXf.mpr ⟨cQT.mpr (zV a),decide_eq_true (by rw[wN a];exact e)⟩;rw[h]at this;cases this
def bXU{R:Rows}{k i:Nat}{r:Row}(a:R[i]? =some r)(e:r.link=some k):i∈zU R k:=
 cXf.mpr ⟨cQT.mpr (zV a),decide_eq_true (by rw[wN a];exact e)⟩
def bJc{R:Rows}(t:uW R){i a b:Nat}{r:Row}(c:R[a]? =some r)(e:r.link=some b)(d:b<R.length):a∈thr R i↔b∈thr R i:=by
 obtain⟨f,o,_,h⟩:=X0 t i;rw[h a,h b,Fm.vP o (zV c) (by rw[wN c];exact e)];exact⟨λz=>⟨d,z.2⟩,λz=>⟨zV c,z.2⟩⟩
def aWt{R:Rows}(t:uW R){i:Nat}(a:i<R.length):i∈thr R i:=by
 obtain⟨b,o,_,h⟩:=X0 t i;exact(h i).mpr ⟨a,rfl⟩
def jU.laid{R:Rows}(b:jU R)(i:Nat)(name:Str):jU (laid R (thr R i) name) where
 tree:=b.tree.laid _ _
 way:=aWv _ b.way
 ans:=λx j r hx hl=>by
  rw[wF]at hx
  have back:∃r0,R[x]? =some r0/\r=(if x∈thr R i then {r0 with place:=name}else r0):=by
   by_cases hm:x∈thr R i
   ·rw[if_pos hm]at hx
    cases e:R[x]? with
    |none=>rw[e]at hx;cases hx
    |some r0=>rw[e]at hx;cases hx;exact⟨r0,Cd,by rw[if_pos hm]⟩
   ·rw[if_neg hm]at hx
    exact⟨r,hx,by rw[if_neg hm]⟩
  obtain⟨r0,h0,e0⟩:=back
  have hl0:r0.link=some j:=by rw[e0]at hl;split at hl<;> exact hl
  obtain⟨q0,hq0,f1,f2,f3,f4,f5,f6⟩:=b.ans x j r0 h0 hl0
  have hiff:=bJc (i:=i) b.tree h0 hl0 (zV hq0)
  refine⟨if j∈thr R i then {q0 with place:=name}else q0,by rw[wF,hq0];split<;> rfl,?_⟩
  by_cases hm:x∈thr R i
  ·rw[if_pos (hiff.mp hm),e0,if_pos hm]
   exact⟨f1,f2,f3,f4,f5,rfl⟩
  ·rw[if_neg (λz=>hm (hiff.mpr z)),e0,if_neg hm]
   exact⟨f1,f2,f3,f4,f5,f6⟩
def jU.set{R:Rows}(b:jU R){k:Nat}{f:Row->Row}(t:uW (xD R k f))(hw:∀r,(f r).way=r.way)(h1:∀r j q,R[k]? =some r->(f r).link=some j->j≠k->R[j]? =some q->bWI (f r) q/\True)(h0:∀r j,R[k]? =some r->(f r).link=some j->j≠k/\j<R.length)
  (h2:∀r i q,R[k]? =some r->R[i]? =some q->i≠k->q.link=some k->bWI q (f r)):jU (xD R k f) where
 tree:=t
 way:=aJB b.way k f hw
 ans:=λi j r hi hl=>by
  rw[xJ]at hi
  by_cases e:i=k
  ·subst e
   rw[if_pos rfl]at hi
   cases e0:R[i]? with
   |none=>rw[e0]at hi;cases hi
   |some r0=>
    rw[e0]at hi
    cases hi
    obtain⟨hjk,hjl⟩:=h0 r0 j e0 hl
    have hq:=cQn hjl
    exact⟨R[j],by rw[xJ,if_neg hjk];exact hq,(h1 r0 j _ e0 hl hjk hq).1⟩
  ·rw[if_neg e]at hi
   obtain⟨q,hq,hf⟩:=b.ans i j r hi hl
   by_cases ej:j=k
   ·subst ej
    exact⟨f q,by rw[xJ,if_pos rfl,hq];rfl,h2 q i r hq hi e hl⟩
   ·exact⟨q,by rw[xJ,if_neg ej];exact hq,hf⟩
def aQF{R:Rows}(t:uW R){k j:Nat}{r:Row}(h:R[k]? =some r)(e:r.link=some j):j≠k:=λz=>by
 obtain⟨a,o⟩:=t;have:=(o.lt k j (zV h) (by rw[wN h];exact e)).2;rw[z]at this;omega
def xR.book{R R':Rows}{S S':List Int}{e:zI}{a:Ans}(b:jU R)(hw:∀H d w t,e= .enter H d w t->H="in"\/H=BM)(h:xR R S e a R' S'):jU R':=by
 have C:=h.tree b.tree;have a2:∀ (r:Row)(j:Nat) {i:Nat} {x:Row},R[i]? =some x->x.link=some j->∃q,(R++ [r])[j]? =some q/\bWI x q:=λr j {i x} m hl=>by obtain⟨q,n,B⟩:=b.ans i j x m hl;exact⟨q,by rw[cQ0 (zV n)];exact n,B⟩
 have snoc:∀r:Row,(r.way="in"\/r.way=BM)->(∀j,r.link=some j->∃q,R[j]? =some q/\bWI r q)->uW (R++ [r])->jU (R++ [r]):=λr u s t=>⟨t,λx g=>by
   rcases cQY.mp g with g|g
   ·exact b.way x g
   ·rw[cQD.mp g];exact u,λi j x m hl=>by
   by_cases a0:i<R.length
   ·rw[cQ0 a0]at m;exact a2 r j m hl
   ·have Q:i<(R++ [r]).length:=(cQA.mp m).1;rw[cQL,cXx]at Q;have:i=R.length:=by omega
    subst this;rw[cQK (cQv _)]at m;simp at m;subst m;obtain⟨q,n,B⟩:=s j hl;exact⟨q,by rw[cQ0 (zV n)];exact n,B⟩⟩
 have plain:∀ (k:Nat)(f:Row->Row),(∀r,(f r).way=r.way/\(f r).date=r.date/\(f r).partner=r.partner/\(f r).link=r.link/\(f r).place=r.place/\(f r).void=r.void)->uW (xD R k f)->jU (xD R k f):=λk f B t=>by
  refine b.set t (λr=>(B r).1) (λr j q l hl a3 n=>?_) (λr j l hl=>?_) (λr i q l m a4 hl=>?_)
  ·obtain⟨g1,X,T,g4,g5,g6⟩:=B r;rw[g4]at hl;obtain⟨K,c,u,s,N,h4,V,Y⟩:=b.ans k j r l hl;rw[n]at c;cases c;exact⟨⟨by rw[g6];exact u,s,by rw[g1];exact N,by rw[T];exact h4,by rw[X];exact V,by rw[g5];exact Y⟩,trivial⟩
  ·rw[(B r).2.2.2.1]at hl;obtain⟨q,n,_⟩:=b.ans k j r l hl;exact⟨aQF b.tree l hl,zV n⟩
  ·obtain⟨g1,X,T,g4,g5,g6⟩:=B r;obtain⟨K,c,u,s,N,h4,V,Y⟩:=b.ans i k q m hl;rw[l]at c;cases c;exact⟨u,by rw[g6];exact s,by rw[g1];exact N,by rw[T];exact h4,by rw[X];exact V,by rw[g5];exact Y⟩
 cases h with
 |enter h=>exact snoc _ (hw _ _ _ _ rfl) (λj A=>nomatch A) C
 |@reply k d t r l h ht hd=>have P:=b.way r (cQH l);exact snoc _ (aV0 P).2 (λj A=>by cases A;exact⟨r,l,Cd,h,(aV0 P).1,Cd,hd,rfl⟩) C
 |@hang i j r q m E A Z h ho u s N=>
  have bl:=b.laid i q.place;obtain⟨rk,o,hh⟩:=uN b.tree (zV A);have L:Fm.tp (lk R) rk j≠i:=λz=>ho (by rw[hh,z]);have a1:j∉thr R i:=λz=>by obtain⟨U,o',_,hm⟩:=X0 b.tree i;have z2:=((hm j).mp z).2;have z3:Fm.tp (lk R) U i=i:=Fm.zW (by rw[wN m];exact h);rw[z3,Fm.jE o' o (zV A)]at z2;exact L z2
  have W:=aWt b.tree (zV m);have gi:(laid R (thr R i) q.place)[i]? =some {r with place:=q.place}:=by rw[wF,if_pos W,m];rfl
  have gj:(laid R (thr R i) q.place)[j]? =some q:=by rw[wF,if_neg a1];exact A
  refine bl.set C (λ_=>rfl) (λx y z g hl p M=>?_) (λx y g hl=>?_) (λx y z g p v hl=>?_)
  ·rw[gi]at g;cases g;cases hl;rw[gj]at M;cases M;exact⟨⟨E,Z,u,s,N,rfl⟩,trivial⟩
  ·cases hl;exact⟨λz=>L (by rw[z,Fm.zW (by rw[wN m];exact h)]),by rw[wQ];exact zV A⟩
  ·obtain⟨K,c,I,J,F,G,O,D⟩:=bl.ans y i z p hl;rw[g]at c;cases c;exact⟨I,J,F,G,O,D⟩
 |@loose k r l E h=>refine b.set C (λ_=>rfl) (λx y z g hl=>nomatch hl) (λx y g hl=>nomatch hl) (λx y z g p v hl=>?_);obtain⟨K,c,I,J,F,G,O,D⟩:=b.ans y k z p hl;rw[g]at c;cases c;exact⟨I,J,F,G,O,D⟩
 |@date k r d l E u s=>
  refine b.set C (λ_=>rfl) (λx y z g hl v M=>?_) (λx y g hl=>?_) (λx y z g p v hl=>?_)
  ·rw[l]at g;cases g;obtain⟨K,c,I,J,F,G,O,D⟩:=b.ans k y r l hl;rw[M]at c;cases c;exact⟨⟨I,J,F,G,by rw[<- w9 M];exact u y hl,D⟩,trivial⟩
  ·obtain⟨q,n,_⟩:=b.ans k y x g hl;exact⟨aQF b.tree g hl,zV n⟩
  ·obtain⟨K,c,I,J,F,G,O,D⟩:=b.ans y k z p hl;rw[g]at c;cases c;exact⟨I,J,F,G,by rw[<- w9 p];exact s y (bXU p hl),D⟩
 |term l E h=>exact plain _ _ (λr=>⟨rfl,Cd,Cd,Cd,Cd,rfl⟩) C
 |copy l E h s=>exact plain _ _ (λr=>⟨rfl,Cd,Cd,Cd,Cd,rfl⟩) C
 |file l E=>exact b.laid _ _
 |void l E h=>exact b.set C (λ_=>rfl) (λx y z g hl=>nomatch hl) (λx y g hl=>nomatch hl) (λx y z g p v hl=>absurd hl (bVr h p))
 |_=>exact b
end Bk
set_option tactic.hygienic false
namespace Law
open PySem L2 PyProof.Rows
open Bk (Row Rows)
def aZV(x:Str):Stmt->Bool
 |.FunctionDef n _ _ _ _ _ _ _ _ _=>n==x
 |_=>false
def xI(x:Str):Stmt:=(PySem.Challenge.pw_letterdesk_k08_whole_put_right_and_back.main.body.find? (aZV x)).getD (.Pass ⟨0,0,0,0⟩)
abbrev bVW:Stmt:=xI Ai
abbrev bZz:Stmt:=xI At
def xE:cQ7 CN=some (.builtin CN):=dk
structure vQ(mg:Str->Option cQp):Prop where
 b_len:mg CN=none
 b_range:mg Ag=none
def zN:Option Nat->V
 |none=> .non
 |some j=> .int (j:Nat)
inductive bWN(H:Hp)(b:Nat)(r:Row):Prop|mk(cp)(_:H b=some (.lst [.str r.way,.int r.date,.str r.partner,.int r.term,zN r.link,.str r.place,.bl r.void,.ref cp]))(_:H cp=some (.lst (r.copies.map V.str)))
structure xC(H:Hp)(ra:Nat)(rs:List Nat)(R:Rows):Prop where
 lst:H ra=some (.lst (rs.map V.ref))
 len:rs.length=R.length
 nd:rs.Nodup
 row:∀ (i:Nat)(b:Nat)(r:Row),rs[i]? =some b->R[i]? =some r->bWN H b r
inductive bYX(H:Hp)(rs:List Nat)(i:Nat)(r:Row):Prop|mk(b:Nat)(_:(rs.map V.ref)[i]? =some (.ref b))(_:rs[i]? =some b)(_:bWN H b r)
def xC.get{H:Hp}{d:Nat}{a:List Nat}{R:Rows}(h:xC H d a R){i:Nat}{r:Row}(c:R[i]? =some r):bYX H a i r:=by
 have e:i<a.length:=by rw[h.len];exact Bk.zV c
 have b:=cQn e;exact⟨a[i],by rw[cQJ,b];rfl,b,h.row i _ r b c⟩
inductive Q7(vs:List V)(H:Hp)(Q:VK)(_:XK):Prop|mk(ra:Nat)(rs:List Nat)(R:Rows)(m:Int)(_:vs= [.ref ra,.int m])(_:xC H ra rs R)(_:Q (.bl (Bk.vA R m)) H)
section
variable {K:cQq}
def bV9:yN [A0,A1] [A0,A1] (yH bVW):=scM
def bVx(T:vQ mg)(F:Fun K Ai Ai bVW f fd):xH P w K mg base CX0 1 f fd [A0,A1] Q7:=by
 have n:=bV9;refine F.ok (k:=0) n (λi A outer s H v Q E u h=>?_);obtain⟨e,o,R,m,rfl,c,q⟩:=h;refine⟨_,(yG (yQ (aV2 (zO aY1 yF (pv 1)) (aV2 (zO vR (pv 1) (yS yO rfl T.b_len xE (yA (pv 0) yD))) (aJd (bJC (yL yK (yL yK (pv 0) (pv 1)) yF))))))),?_⟩;refine⟨_,Cd,_,_,Cd,Cd,_,Cd,?_⟩;unfold Bk.vA at q;cases d:decide (0<=m)with
 |false=>rw[d,Bool.false_and]at q;exact onF rfl q
 |true=>
  rw[d,Bool.true_and]at q;have h0:0<=m:=of_decide_eq_true d;refine onT rfl ⟨_,Cd,_,Cd,e,_,Cd,.inl (Cb c.lst),_,_,Cd,Cd,_,Cd,?_⟩;have hl:(o.map V.ref).length=R.length:=by rw[cQt];exact c.len
  rw[hl];obtain⟨k,rfl⟩:∃k:Nat,m=(k:Int):=⟨m.toNat,by omega⟩;rw[cQV]at q;cases g:decide ((k:Int)<(R.length:Nat))with
  |false=>
   have a:R.length<=k:=by have:=of_decide_eq_false g;omega
   rw[cQW a]at q;exact onF rfl q
  |true=>
   have a:k<R.length:=by have:=of_decide_eq_true g;omega
   obtain⟨b,j,t,r,l,p⟩:=c.get (cQn a);rw[cQn a]at q;refine onT rfl ⟨_,Cd,_,Cd,e,_,_,_,Cd,Cd,Cb c.lst,yR j,b,_,6,_,Cd,Cd,Cb l,Cd,_,Cd,q⟩
def bWc:yN [A0,A1] [A0,A1] (yH bZz):=scM
def bVk:xP [A0,A1] (yH bZz) AI [A1,A0] [1,0] (lsN [(".0",.local),(AI,.local),(A1,.free),(A0,.free)]):=
 lcM
inductive aWm(vs:List V)(H:Hp)(Q:VK)(_:XK):Prop|mk(ra:Nat)(rs:List Nat)(R:Rows)(m:Nat)(_:vs= [.ref ra,.int (m:Nat)])(_:xC H ra rs R)(_:R.length<=100)(_:∀r,H r=none->Q (.ref r) (upd H r (.lst ((Bk.zU R m).map λi=>V.int (i:Nat)))))
def aJQ:decide (zN o=V.int (m:Nat))=decide (o=some m):=by
 cases o with
 |none=>rfl
 |some j=>show decide (V.int (j:Nat)=V.int (m:Nat))=decide (some j=some m);rw[Bool.eq_iff_iff];simp;omega
def bVA(T:vQ mg)(F:Fun K At At bZz f fd):xH P w K mg base CX0 1 f fd [A0,A1] aWm:=by
 have u:=bWc;refine F.ok (k:=0) u (λp A outer s H C Q E B h=>?_);obtain⟨e,o,R,m,rfl,c,hR,q⟩:=h;refine⟨_,(yG (yQ (aXr bVk rfl (zP rfl T.b_range (yA (yS yO rfl T.b_len xE (yA (pv 0) yD)) yD)) (λ_ _ _ _ _=>(wG (yM zK (yL ixK (yL ixK (pv 2) (pv 0)) yF) (pv 1)))) (λ_ _ _ _ _=>(pv 0))))),?_⟩;have hl:(o.map V.ref).length=R.length:=by rw[cQt];exact c.len
 refine⟨_,Cd,e,_,Cd,.inl (Cb c.lst),?_⟩;rw[hl];refine⟨_,Cd,by omega,by omega,λD d=>?_⟩;rw[cQV];refine qY (λk=>decide (Bk.lk R k=some m)) (λk=>V.int (k:Nat)) d (by rw[cQQ];omega) (λk l j t g a=>?_) (λk l _ j t g a=>⟨_,Cd,a⟩) (q D d);obtain⟨b,r,z,y,n,x⟩:=c.get (cQn l);have i:j e=some (.lst (o.map V.ref)):=by rw[g e (yI c.lst d)];exact c.lst
 have v:j b=_:=(g b (yI n d)).trans n;refine⟨_,Cd,_,Cd,e,_,_,_,Cd,Cd,Cb i,yR r,b,_,4,_,Cd,Cd,Cb v,Cd,_,Cd,?_,_,Cd,?_⟩
 ·cases R[k].link<;> rfl
 ·rw[aJQ,<- Bk.wN (cQn l)];exact a
end
end Law
namespace L2
open PySem PySem.Spec PyProof.Rows
section
variable {X:Cx}
inductive aWH(K:cQq)(xs:List V)(H:Hp)(Q:VK):Prop|mk(p:Nat)(ns:List Int)(_:xs= [.ref p])(_:SqL K H p (ns.map V.int))(_:ns≠ [])(_:∀m,m∈ns->(∀x∈ns,m<=x)->Q (.int m) H)
def aK2(N:X.calm=true):jV X (.builtin "min") (aWH X.K):=by
 intro C s σ H T V Q I r h;obtain⟨p,c,rfl,L,n,q⟩:=h;obtain⟨u,rfl,D⟩:=aXf r;cases D;obtain⟨a,J,w,W⟩:=I.list L;have B:cZZ a c:=aXz J;have f:a.length=c.length:=B.length;have m:0<a.length:=by rw[f];exact cXy.mpr n
 obtain⟨o,P,_⟩:=id w.isList;have l:p<s.heap.objs.size:=cQC P;have d:∀ (i:Nat)(v:cQp),a.toArray[i]? =some v->∃t,v=Value.int (c.getD i 0) t:=λi v y=>cVC B i v (by simpa using y);refine call_min_walk (cVR w.isList ?_);refine⟨s.heap.objs.size,[s.heap.objs.size,p],[s.heap.objs.size],a.toArray.size,_,_,_,Cd,Walks.list (A:=X.A.in1) (by simpa using I.ok.hd N) _ p (cQP l) a.toArray,⟨⟨_,cQS _ rfl,Cd,rfl⟩,w.isList.push _⟩,λb g=>?_,by rw[cQF];exact m,CmpOf.ints_lt (λi=>c.getD i 0) d,λv Y tk y M=>?_⟩
 ·show b<(s.heap.push _).objs.size;rw[cX0];rcases cQz.mp g with rfl|g
  ·exact cXM _
  ·rw[cQD.mp g];exact cXB l
 ·obtain⟨t,rfl⟩:=d _ _ y;obtain⟨U,R⟩:=argBest_lt (λi=>c.getD i 0) (a.toArray.size - 1);have O:a.toArray.size=c.length:=by rw[cQF];exact f
  have g:argBest (λi j=>decide (c.getD i 0<c.getD j 0)) (a.toArray.size - 1)<c.length:=by omega
  refine⟨.int _,H,I.kept (t':=tk) λb S e=>M b S (λz=>by rw[cQD.mp z]at e;exact cXD _ (cQC e)) (cQu _ e),⟨t,rfl⟩,q _ ?_ λx E=>?_⟩
  ·generalize argBest (λi j=>decide (c.getD i 0<c.getD j 0)) (a.toArray.size - 1)=k at g;simp[cQ8,cQn g]
  ·obtain⟨j,G,e⟩:=cXe E;have:=R j (by omega);have F:c.getD j 0=x:=by simp[cQ8,cQn G,e]
   rw[F]at this;exact this
end
end L2
namespace Law
open PySem L2 PyProof.Rows
open Bk (Row Rows)
abbrev aWa:Stmt:=xI BB
def aKZ:cQ7 "min"=some (.builtin "min"):=dk
def bWN.same(h:bWN H b r)(k:xG H a):bWN a b r:=let ⟨cp,e1,e2⟩:=h;⟨cp,k _ _ e1,k _ _ e2⟩
def xC.same{R:Rows}(h:xC H d c R)(k:xG H a):xC a d c R:=
 ⟨k _ _ h.lst,h.len,h.nd,λi b r f e=>(h.row i b r f e).same k⟩
inductive bQ5(vs:List V)(H:Hp)(Q:VK)(_:XK):Prop|mk(ra:Nat)(rs:List Nat)(R:Rows)(k:Nat)(d:Int)(_:vs= [.ref ra,.int (k:Nat),.int d])(_:xC H ra rs R)(_:R.length<=100)(_:k<R.length)(_:∀H',xG H H'->Q (.bl (Bk.aQb R k d)) H')
section
variable {K:cQq}
def bZU:yN [A0,A1,AK,Ar,"_law_dates"] [A0,A1,AK] (yH aWa):=scM
def bXP:xP [A0,A1,AK,Ar,"_law_dates"] (yH aWa) AI [A0] [0] (lsN [(".0",.local),(AI,.local),(A0,.free)]):=
 lcM
def dtV(R:Rows):V->V
 |.int n=> .int (Bk.dt R n.toNat)
 |_=> .non
def bZh(T:vQ mg)(y:mg "min"=none)(a:FnG P w K mg base 1 At [A0,A1] aWm)(F:Fun K BB BB aWa f fd):xH P w K mg base CX0 2 f fd [A0,A1,AK] bQ5:=by
 have sc:=bZU;refine F.ok (k:=1) sc (λa0 A outer s U vs Q E hr h=>?_);obtain⟨p,rs,R,k,d,rfl,C,hR,hk,q⟩:=h;refine⟨_,(yC (yU (i:=3) (yL yK (pv 0) (pv 1))) (yC (y6 (PW.pt (jW (x8 (yL yK (pv 3) yF)) (jW (yM vR (yL yK (pv 3) yF) yF) (vX (yM aXq (yL yK (pv 3) yF) (pv 2)))))) (yG (yQ vJ)) yT) (yC (aXs (i:=4) bXP rfl sc.nd rfl rfl (xQ (xN a hr rfl (yA (pv 0) (yA (pv 1) yD)))) (λ_ _ _ _ _=>vC) (λ_ _ _ _ _=>(yL ixK (yL ixK (pv 1) (pv 0)) yF))) (yG (yQ (bKl (zO (aX7 hr.units0) (pv 4) (yZ yD)) (aJd (zO aXq (yS (aK2 rfl) rfl y aKZ (yA (pv 4) yD)) (pv 2))))))))),?_⟩;have x:=cQn hk;obtain⟨b,g1,g2,cp,G,g4⟩:=C.get x;have qw:Bk.aQb R k d=(!R[k].void && decide (1<=R[k].term) && decide (R[k].date<=d) && (Bk.zU R k).all λj=>decide (d<Bk.dt R j)):=by unfold Bk.aQb;rw[x]
 rw[qw]at q;refine⟨_,Cd,_,Cd,p,_,_,_,Cd,Cd,Cb C.lst,yR g1,?_⟩;dsimp only[yW];refine⟨_,Cd,b,_,6,_,Cd,Cd,Cb G,Cd,_,Cd,?_⟩;cases t:R[k].void with
 |true=>rw[t]at q;exact onT rfl (onT rfl (q _ (xG.refl _)))
 |false=>
  rw[t]at q;refine onF rfl ⟨_,Cd,b,_,3,_,Cd,Cd,Cb G,Cd,_,_,Cd,Cd,_,Cd,?_⟩;cases ht:decide (R[k].term<1)with
  |true=>have:decide (1<=R[k].term)=false:=decide_eq_false (by have:=of_decide_eq_true ht;omega);rw[this]at q;exact onT rfl (onT rfl (q _ (xG.refl _)))
  |false=>
   have:decide (1<=R[k].term)=true:=decide_eq_true (by have:=of_decide_eq_false ht;omega);rw[this]at q;refine onF rfl ⟨_,Cd,b,_,1,_,Cd,Cd,Cb G,Cd,_,Cd,_,_,Cd,Cd,_,Cd,?_⟩;cases hd:decide (R[k].date > d)with
   |true=>have:decide (R[k].date<=d)=false:=decide_eq_false (by have:=of_decide_eq_true hd;omega);rw[this]at q;exact onT rfl (q _ (xG.refl _))
   |false=>
    have:decide (R[k].date<=d)=true:=decide_eq_true (by have:=of_decide_eq_false hd;omega);rw[this]at q;refine onF rfl ?_;refine⟨_,Cd,_,Cd,p,rs,R,k,Cd,C,hR,λr O=>⟨r,Cd,⟨_,Cb yB⟩,λD B=>?_⟩⟩;have X:=yE O (.lst ((Bk.zU R k).map λi=>V.int (i:Nat)));have c:=C.same X;have Y:(Bk.zU R k).length<=R.length:=by have:=cXn (λj=>decide (Bk.lk R j=some k)) (cQy R.length);rw[cXh]at this;exact this
    refine aXC (λ_=>true) (dtV R) (Cb yB) B (zn (by rw[cQt];omega)) (λv t H' R' _ h=>h) (λv t _ H' R' hH o=>?_) ?_
    ·obtain⟨j,hj,rfl⟩:=cXt.mp t;have N:j<R.length:=cQT.mp (cXf.mp hj).1;have u:=cQn N;obtain⟨Z,j1,j2,cj,W,j4⟩:=c.get u;have M:H' p=some (.lst (rs.map V.ref)):=by rw[hH p (yI c.lst B)];exact c.lst
     have J:=(hH Z (yI W B)).trans W;have e:dtV R (V.int (j:Nat))=V.int R[j].date:=by show V.int (Bk.dt R (j:Int).toNat)=_;rw[cQV,Bk.w9 u]
     rw[e]at o;exact⟨_,Cd,_,Cd,p,_,_,_,Cd,Cd,Cb M,yR j1,Z,_,1,_,Cd,Cd,Cb J,Cd,o⟩
    ·have ff:((Bk.zU R k).map λi=>V.int (i:Nat)).filter (λ_=>true)=(Bk.zU R k).map λi=>V.int (i:Nat):=cJd.mpr λ_ _=>rfl;have em:((Bk.zU R k).map λi=>V.int (i:Nat)).map (dtV R)=((Bk.zU R k).map (Bk.dt R)).map V.int:=by
      rw[cJr,cJr];refine cVr λj _=>?_;show V.int (Bk.dt R (j:Int).toNat)=V.int (Bk.dt R j);rw[cQV]
     rw[ff,em];dsimp only[yW];have k2:=yE B (.lst (((Bk.zU R k).map (Bk.dt R)).map V.int));have g:upd (upd U r (.lst ((Bk.zU R k).map λi=>V.int (i:Nat)))) D (.lst (((Bk.zU R k).map (Bk.dt R)).map V.int)) D=some (.lst (((Bk.zU R k).map (Bk.dt R)).map V.int)):=yB;have kA:=X.trans k2;generalize upd (upd U r (.lst ((Bk.zU R k).map λi=>V.int (i:Nat)))) D (.lst (((Bk.zU R k).map (Bk.dt R)).map V.int))=H2 at g kA ⊢;refine⟨_,Cd,z0,λpn H=>?_⟩;have S:=yE H (.lst []);refine⟨D,pn,_,Cd,Cd,Cb (S _ _ g),Cb yB,_,Cd,?_⟩;have z:=q _ (kA.trans S);cases n:Bk.zU R k with
     |nil=>rw[n]at z;exact onT rfl z
     |cons j l=>
      rw[n]at z;refine onF rfl ⟨_,Cd,D,(j::l).map (Bk.dt R),Cd,Cb (by rw[<- n];exact S _ _ g),by simp,λm hm L=>?_⟩;refine⟨_,Cd,_,_,Cd,Cd,?_⟩;have e:((!false && true && true && (j::l).all λj=>decide (d<Bk.dt R j)):Bool)=decide (m > d):=by
       rw[Bool.eq_iff_iff];simp only[Bool.not_false,Bool.true_and,cJA,decide_eq_true_eq];constructor
       ·intro h;obtain⟨i,I,rfl⟩:=cXt.mp hm;exact h i I
       ·intro h i I;have:=L _ (cXt.mpr ⟨i,I,rfl⟩);omega
      rw[e]at z;exact z
end
end Law
namespace Bk
def aZL:∀shut:List Int,∃C:List Int,C.Pairwise (·<·)/\∀d,d∈C↔d∈shut/\Dm.opn d=true
 |[]=>⟨[],.nil,λd=>by simp⟩
 |x::l=>by
  obtain⟨C,n,m⟩:=aZL l;have ins:∀C:List Int,C.Pairwise (·<·)->∃g:List Int,g.Pairwise (·<·)/\∀d,d∈g↔d=x\/d∈C:=by
   intro C;induction C with
   |nil=>intro _;exact⟨[x],cXP _ _,λd=>by simp⟩
   |cons y C p=>
    intro h;obtain⟨a,b⟩:=cXQ.mp h;by_cases e:x=y
    ·subst e;exact⟨x::C,h,λd=>by simp⟩
    ·by_cases j:x<y
     ·refine⟨x::y::C,cXQ.mpr ⟨λd f=>?_,h⟩,λd=>by simp⟩;rcases cQz.mp f with rfl|f
      ·exact j
      ·have:=a d f;omega
     ·obtain⟨g,k,i⟩:=p b;refine⟨y::g,cXQ.mpr ⟨λd f=>?_,k⟩,λd=>?_⟩
      ·rcases(i d).mp f with rfl|f
       ·omega
       ·exact a d f
      ·rw[cQz,i d,cQz];constructor
       ·rintro(h|h|h)
        ·exact .inr (.inl h)
        ·exact .inl h
        ·exact .inr (.inr h)
       ·rintro(h|h|h)
        ·exact .inr (.inl h)
        ·exact .inl h
        ·exact .inr (.inr h)
  by_cases o:Dm.opn x=true
  ·obtain⟨g,k,i⟩:=ins C n;refine⟨g,k,λd=>?_⟩;rw[i d,m d,cQz];constructor
   ·rintro(rfl|⟨h,c⟩)
    ·exact⟨.inl rfl,o⟩
    ·exact⟨.inr h,c⟩
   ·rintro⟨h|h,c⟩
    ·exact .inl h
    ·exact .inr ⟨h,c⟩
  ·refine⟨C,n,λd=>?_⟩;rw[m d,cQz];constructor
   ·rintro⟨h,c⟩;exact⟨.inr h,c⟩
   ·rintro⟨h|h,c⟩
    ·rw[h]at c;exact absurd c o
    ·exact⟨h,c⟩
def bWX(shut:List Int)(d:Int){t:Int}(a:1<=t):Dm.Due shut d t (due shut d t):=by
 obtain⟨C,c,b⟩:=aZL shut;have h:=Dm.bJq (date:=d) a c b;rw[bJp h];exact h
end Bk
namespace Law
open PySem L2 PyProof.Rows
open Bk (Row Rows)
abbrev bQm:Stmt:=xI BX
abbrev aZg:Stmt:=xI BO
def vG:cQ7 AT=some (.builtin AT):=dk
inductive bQX(K:cQq)(vs:List V)(H:Hp)(Q:VK)(_:XK):Prop|mk(a:Nat)(ns:List Int)(d t D:Int)(_:vs= [.ref a,.int d,.int t])(_:SqL K H a (ns.map V.int))(_:Dm.Due ns d t D)(_:Q (.int D) H)
section
variable {K:cQq}
def jK(d:Int):∀ns:List Int,inV (.int d) (ns.map V.int)=ns.contains d
 |[]=>rfl
 |n::r=>by have a:=jK d r;unfold inV at a ⊢;rw[cXa,cZD,a,cZM];congr 1;show(n==d)=(d==n);rw[Bool.eq_iff_iff,beq_iff_eq,beq_iff_eq];exact eq_comm
def uZ:∀ns:List Int,(ns.map V.int).all Q9=true
 |[]=>rfl
 |n::r=>by rw[cXa,cJF,uZ r];rfl
def bZJ:yN [AJ,AK,Aw,"_law_many"] [AJ,AK,Aw] (yH bQm):=scM
def bX6(T:vQ mg)(F:Fun K BX BX bQm f fd):xH P w K mg base CX0 1 f fd [AJ,AK,Aw] (bQX K):=by
 have L:=bZJ;refine F.ok (k:=0) L (λG A outer s J N Q E M h=>?_);obtain⟨a,g,d,t,D,rfl,C,p,q⟩:=h;refine⟨_,(yC (yU (i:=3) yF) (yC (uG cXg (yM vR (pv 3) (pv 2)) (yC (yU (i:=1) (yV zC (pv 1) yF)) (yG (y6 (PW.pt (uA (yM vR (yV y3 (pv 1) yF) yF) (vM (yM Q5 (pv 1) (pv 0))))) (yG (yU (i:=3) (yV zC (pv 3) yF))) yT)))) (yG (yQ (pv 1))))),?_⟩;refine⟨λm σ H=>∃n:Nat,σ= [some (.ref a),some (.int (d+n)),some (.int t),some (.int (Dm.cnt g (d+1) n))]/\H=J/\d+n<=D/\m=(D - (d+n)).toNat,⟨(D - d).toNat,0,?_,Cd,by have:=p.later;omega,by simp⟩,?_⟩
 ·rw[show d+((0:Nat):Int)=d by simp];rfl
 rintro m σ H ⟨n,rfl,rfl,r,rfl⟩;refine⟨_,Cd,_,Cd,_,_,Cd,Cd,_,Cd,?_⟩;refine qG (λc=>?_) (λc=>?_)
 ·have u:((Dm.cnt g (d+1) n:Nat):Int)<t:=of_decide_eq_true c;have I:d+n<D:=by
   by_cases e:d+n=D
   ·have:=p.cnt;rw[<- e,show(d+n - d).toNat=n by omega]at this;omega
   ·omega
  refine⟨λo v=>∃y,y<(D - (d+n)).toNat/\∃n:Nat,o= [some (.ref a),some (.int (d+n)),some (.int t),some (.int (Dm.cnt g (d+1) n))]/\v=H/\d+n<=D/\y=(D - (d+n)).toNat,λo v z=>z,?_⟩;refine⟨_,Cd,_,_,Cd,Cd,?_⟩;dsimp only[yW];have l:Dm.cnt g (d+1) (n+1)=Dm.cnt g (d+1) n+(if Dm.cts g (d+1+n)then 1 else 0):=rfl;have j:d+((n+1:Nat):Int)=d+n+1:=by omega
  refine⟨_,Cd,_,_,Cd,Cd,(show(0:Int)<7 by decide),_,_,Cd,Cd,_,Cd,?_⟩;have b:Dm.cts g (d+1+n)=(decide ((d+n+1) % 7<5) && !(g.contains (d+n+1))):=by rw[show d+1+(n:Int)=d+n+1 by omega];rfl
  cases B:decide ((d+(n:Int)+1) % 7<5)with
  |false=>rw[B,Bool.false_and]at b;rw[b]at l;refine onF rfl (onF rfl ⟨(D - (d+(n+1:Nat))).toNat,by omega,n+1,?_,Cd,by omega,rfl⟩);rw[l,j];rfl
  |true=>
   rw[B,Bool.true_and]at b;refine onT rfl ⟨_,Cd,_,Cd,a,_,Cd,.inl C,Cd,uZ g,_,Cd,?_⟩;rw[if_pos rfl,jK];cases x:g.contains (d+(n:Int)+1)with
   |true=>rw[x]at b;rw[b]at l;refine onF rfl ⟨(D - (d+(n+1:Nat))).toNat,by omega,n+1,?_,Cd,by omega,rfl⟩;rw[l,j];rfl
   |false=>rw[x]at b;rw[b]at l;refine onT rfl ⟨_,Cd,_,_,Cd,Cd,(D - (d+(n+1:Nat))).toNat,by omega,n+1,?_,Cd,by omega,rfl⟩;rw[l,j];simp
 ·have u:¬ ((Dm.cnt g (d+1) n:Nat):Int)<t:=of_decide_eq_false (Bool.eq_false_iff.mpr c);have e:d+n=D:=by
   refine Int.le_antisymm r (cZH.mp λz=>u (p.less z))
  refine⟨_,Cd,?_⟩;rw[e];exact q
noncomputable def jZ (R:Rows) (shut:List Int) (k:Nat):Int:=Bk.due shut (Bk.dt R k) (((R[k]?).map (·.term)).getD 0)
noncomputable def X1 (R:Rows) (shut:List Int) (d:Int) (a:Bool) (k:Nat):Bool:=Bk.aQb R k d && (!a || decide (jZ R shut k<d))
inductive aWn(vs:List V)(H:Hp)(Q:VK)(_:XK):Prop|mk(ra sa:Nat)(rs:List Nat)(R:Rows)(shut:List Int)(d:Int)(late:Bool)(_:vs= [.ref ra,.ref sa,.int d,.bl late])(_:xC H ra rs R)(_:H sa=some (.lst (shut.map V.int)))(_:R.length<64)(_:∀ (r:Nat)(H':Hp)(l:List Nat),xG H H'->H r=none->H' r=some (.lst (l.map λi=>V.int (i:Nat)))->Bk.bXh R shut d late l->Q (.ref r) H')
def aKP(H:Hp)(g:Nat->Int)(k:Nat)(x:V):Prop:=∃p,x= .ref p/\H p=some (.tup [.int (g k),.int (k:Nat)])
def aKP.tk{g:Nat->Int}(t:∀a b,H a=some (.tup b)->c a=some (.tup b)){k:Nat}(h:aKP H g k x):aKP c g k x:=let ⟨p,e,a⟩:=h;⟨p,e,t _ _ a⟩
def aXP{R:Rows}{k:Nat}(a:k<R.length)(h:Bk.aQb R k d=true):1<=R[k].term:=by
 unfold Bk.aQb at h;rw[cQn a]at h;simp only[Bool.and_eq_true,decide_eq_true_eq]at h;exact h.1.1.2
def bQI:yN [A0,AJ,AK,BY,"_law_made",AI,"_law_last"] [A0,AJ,AK,BY] (yH aZg):=scM
def aYw:xP [A0,AJ,AK,BY,"_law_made",AI,"_law_last"] (yH aZg) C5 [] [] (lsN [(".0",.local),(C5,.local)]):=
 lcM
def bXg{α β:Type}{F:α->β->Prop}:∀ {l:List α} {m:List β} {i:Nat} {y:β},cXk F l m->m[i]? =some y->∃x,l[i]? =some x/\F x y
 |_,_,0,_,.cons r _,h=>by simp at h;subst h;exact⟨_,Cd,r⟩
 |_,_,i+1,_,.cons _ t,h=>by simpa using bXg (i:=i) t (by simpa using h)
 |_,_,i,_,.nil,h=>by simp at h
def aJc{α β:Type}{F:α->β->Prop}{x:α}{y:β}(r:F x y):∀ {l:List α} {m:List β},cXk F l m->cXk F (l++ [x]) (m++ [y])
 |_,_,.nil=> .cons r .nil
 |_,_,.cons a t=> .cons a (aJc r t)
def aXe(k:xG a H)(h:a c=none):xG a (upd H c o):=λb u q=>by rw[yJ (yI q h)];exact k b u q
def bK6(H:Hp):V->V
 |.ref p=>match H p with
  |some (.tup [_,y])=>y
  |_=> .non
 |_=> .non
def aWd(h:H p=some (.tup [x,y])):bK6 H (.ref p)=y:=by
 show(match H p with|some (.tup [_,y])=>y|_=>V.non)=y;rw[h]
def aYV(T:vQ mg)(I:mg AT=none)(n:FnG P w K mg base 2 BB [A0,A1,AK] bQ5)(B:FnG P w K mg base 2 BX [AJ,AK,Aw] (bQX K)) (F:Fun K BO BO aZg f fd):xH P w K mg base CX0 3 f fd [A0,AJ,AK,BY] aWn:=by
 have sc:=bQI;refine F.ok (k:=2) sc (λb9 A outer s H0 vs Q E hr h=>?_);obtain⟨M,sa,rs,R,shut,d,c,rfl,hB,b4,hR,q⟩:=h;refine⟨_,(yC (yU (i:=4) (yZ yD)) (yC (wM cXg rfl (zP rfl T.b_range (yA (yS yO rfl T.b_len xE (yA (pv 0) yD)) yD)) (xF (i:=5)) (yG (y6 (x8 (xN n hr rfl (yA (pv 0) (yA (pv 5) (yA (pv 2) yD))))) (yC (yU (i:=6) (xN B hr rfl (yA (pv 1) (yA (yL yK (yL yK (pv 0) (pv 5)) yF) (yA (yL yK (yL yK (pv 0) (pv 5)) yF) yD))))) (yG (y6 (PW.pt (jW (vL (x8 (pv 3))) (vX (yM vR (pv 6) (pv 2))))) (yG (y0 (v8 cQU cQ3 cQ4 xL (pv 4) (yA (y8 (yA (pv 6) (yA (pv 5) yD))) yD)))) yT))) yT))) (yG (yQ (aXr aYw rfl (xQ (yS uP rfl I vG (yA (pv 4) yD))) (λ_ _ _ _ _=>vC) (λ_ _ _ _ _=>(yL ixT (pv 0) yF))))))),?_⟩;refine⟨z0,λL a3=>?_⟩;dsimp only[yW];have k1:=yE a3 (.lst []);have hl:(rs.map V.ref).length=R.length:=by rw[cQt];exact hB.len
 refine⟨_,Cd,M,_,Cd,.inl (Cb (k1 _ _ hB.lst)),?_⟩;rw[hl];refine⟨_,Cd,by omega,by omega,?_⟩;rw[cQV];refine wV (λt σ H=>∃ (g:List V)(N S:Option V),σ= [some (.ref M),some (.ref sa),some (.int d),some (.bl c),some (.ref L),N,S]/\xG H0 H/\H L=some (.lst g)/\
  cXk (aKP H (jZ R shut)) ((cQy t).filter (X1 R shut d c)) g) ?_ ?_ ?_
 ·exact⟨[],none,none,Cd,k1,yB,.nil⟩
 ·rintro k σ H Y ⟨g,N,S,rfl,o,y,U⟩;rw[cZL];dsimp only[yW];have a1:=hB.same o;have X:=cQn Y;rw[cZP,cXC];have stay:∀H' N S,xG H H'->X1 R shut d c k=false->∃ (g:List V)(p5 p6:Option V),[some (V.ref M),some (V.ref sa),some (V.int d),some (V.bl c),some (V.ref L),N,S]= [some (.ref M),some (.ref sa),some (.int d),some (.bl c),some (.ref L),p5,p6]/\xG H0 H'/\H' L=some (.lst g)/\
    cXk (aKP H' (jZ R shut)) ((cQy k).filter (X1 R shut d c)++ [k].filter (X1 R shut d c)) g:=λH' N S kk e=>by
   have e3: [k].filter (X1 R shut d c)= []:=by simp[e]
   rw[e3,cXr]
   exact⟨g,N,S,Cd,o.trans kk,kk _ _ y,Paired.mapP U λ_ _ z=>z.tk λa xs e=>kk _ _ e⟩
  refine⟨_,Cd,_,Cd,_,Cd,M,rs,R,k,d,Cd,a1,by omega,Y,λH2 C=>⟨_,Cd,?_⟩⟩;cases hw:Bk.aQb R k d with
  |false=>exact onF rfl (stay H2 _ _ C (by unfold X1;rw[hw];rfl))
  |true=>
   have b5:=aXP Y hw;have a0:=a1.same C;obtain⟨b,g1,g2,cp,g3,g4⟩:=a0.get X;have hD:=Bk.bWX shut (Bk.dt R k) b5;have eD:jZ R shut k=Bk.due shut (Bk.dt R k) R[k].term:=by unfold jZ;rw[X];rfl
   rw[<- eD,Bk.w9 X]at hD;refine onT rfl ?_;refine⟨_,Cd,_,Cd,_,Cd,M,_,_,_,Cd,Cd,Cb a0.lst,yR g1,b,_,1,_,Cd,Cd,Cb g3,Cd,_,Cd,_,Cd,M,_,_,_,Cd,Cd,Cb a0.lst,yR g1,b,_,3,_,Cd,Cd,Cb g3,Cd,?_⟩;refine⟨sa,shut,_,_,jZ R shut k,Cd,Cb (C _ _ (o _ _ b4)),hD,?_⟩;dsimp only[yW];have b0:X1 R shut d c k=true->aVH (tBM K AB bQb (bWu 4) (aKL (bYV (aKL (bWu 6) (aKL (bWu 5) bZ7))) bZ7)) {nx:=λσ H=>∃ (g:List V)(N S:Option V),σ= [some (.ref M),some (.ref sa),some (.int d),some (.bl c),some (.ref L),N,S]/\xG H0 H/\H L=some (.lst g)/\cXk (aKP H (jZ R shut)) ((cQy k).filter (X1 R shut d c)++ [k].filter (X1 R shut d c)) g,rt:=Q} [some (.ref M),some (.ref sa),some (.int d),some (.bl c),some (.ref L),some (.int (k:Nat)),some (.int (jZ R shut k))] H2:=λe=>by
    have a9:=C _ _ y;refine⟨_,Cd,.inl ⟨rfl,_,Cb a9⟩,_,Cd,_,Cd,z2,λq3 b6=>?_⟩;have k5:=yE b6 (.tup [V.int (jZ R shut k),V.int (k:Nat)]);have a7:=k5 _ _ a9;have il:g.length<=k:=by rw[<- U.length];exact cQZ (cXn _ _) (by simp)
    have t6:∀a xs,upd H2 q3 (.tup [V.int (jZ R shut k),V.int (k:Nat)]) a=some (.tup xs)->upd (upd H2 q3 (.tup [V.int (jZ R shut k),V.int (k:Nat)])) L (.lst (g++ [V.ref q3])) a=some (.tup xs):=λa xs e=>by rw[yJ (aXm e a7 (by intro z;cases z))];exact e
    have e3: [k].filter (X1 R shut d c)= [k]:=by simp[e]
    refine⟨L,g,.ref q3,Cd,Cd,a7,zlt (by omega),g++ [.ref q3],_,_,Cd,aXe (o.trans (C.trans k5)) a3,yB,?_⟩;rw[e3];exact aJc ⟨q3,Cd,t6 _ _ yB⟩ (Paired.mapP U λ_ _ z=>z.tk λa xs e=>t6 _ _ (k5 _ _ (C _ _ e)))
   refine⟨_,Cd,_,Cd,?_⟩;by_cases j:c=true
   ·refine onF (by rw[j];rfl) ⟨_,Cd,_,Cd,_,_,Cd,Cd,_,Cd,?_⟩;cases a6:decide (jZ R shut k<d)with
    |true=>exact onT rfl (b0 (by unfold X1;rw[hw,j,a6];rfl))
    |false=>exact onF rfl (stay H2 _ _ C (by unfold X1;rw[hw,j,a6];rfl))
   ·have hf:c=false:=by simpa using j
    exact onT (by rw[hf];rfl) (onT rfl (b0 (by unfold X1;rw[hw,hf];rfl)))
 ·rintro σ H1 ⟨g,N,S,rfl,o,y,U⟩;generalize G:(cQy R.length).filter (X1 R shut d c)=fam at U;have a8:fam.length=g.length:=U.length;have fn:fam.length<=R.length:=by rw[<- G];exact cQZ (cXn _ _) (by simp)
  have a5:∀k,k∈fam↔k<R.length/\X1 R shut d c k=true:=λk=>by rw[<- G,cXf,cQT]
  have b3:fam.Nodup:=by rw[<- G];exact cJC.sublist cZp
  refine⟨_,Cd,L,g,λm=>(jZ R shut (fam.getD m 0),((fam.getD m 0:Nat):Int)),Cd,y,by omega,λa b ha hb e=>?_,λm x hx=>?_,λl out hl Z b2=>?_⟩
  ·have D:fam.getD a 0=fam.getD b 0:=by have:=congrArg Prod.snd e;simp only at this;omega
   have a4:a<fam.length:=by omega
   have b1:b<fam.length:=by omega
   simp[cQ8,cQn a4,cQn b1]at D;exact(cZg (h₀:=a4) (h₁:=b1) b3).mp D
  ·obtain⟨k,Y,p,e1,D⟩:=bXg U hx;have:fam.getD m 0=k:=by simp[cQ8,Y]
   show ∃a,x=V.ref a/\H1 a=some (.tup [V.int (jZ R shut (fam.getD m 0)),V.int ((fam.getD m 0:Nat):Int)]);rw[this];exact⟨p,e1,D⟩
  ·have hm:∀m∈out,m<g.length:=λm hm=>cQT.mp (Z.mem_iff.mp hm);have C:=yE hl (.lst (out.map λi=>g.getD i .non));refine⟨l,Cd,⟨_,Cb yB⟩,λr O=>?_⟩;have b8:out.length=g.length:=by rw[Z.length_eq,cXh]
   have a2:∀m∈out,∃p,g.getD m .non= .ref p/\H1 p=some (.tup [.int (jZ R shut (fam.getD m 0)),.int ((fam.getD m 0:Nat):Int)]):=λm u=>by
    have J:=hm m u;have hg:g[m]? =some (g.getD m .non):=by simp[cQ8,cQn J]
    obtain⟨k,Y,p,e1,D⟩:=bXg U hg;have:fam.getD m 0=k:=by simp[cQ8,Y]
    rw[this];exact⟨p,e1,D⟩
   refine aXC (λ_=>true) (bK6 H1) (Cb yB) O (zn (by rw[cQt];omega)) (λv hv H' R' _ h=>h) (λv hv _ H' R' hH W=>?_) ?_
   ·obtain⟨m,u,rfl⟩:=cXt.mp hv;obtain⟨p,e1,D⟩:=a2 m u;rw[e1]at W ⊢;have e4:=C _ _ D;have e5:=(hH p (yI e4 O)).trans e4;rw[aWd D]at W;exact⟨_,Cd,p,_,1,_,Cd,Cd,Cc e5,Cd,W⟩
   ·have ff:(out.map λi=>g.getD i .non).filter (λ_=>true)=out.map λi=>g.getD i .non:=cJd.mpr λ_ _=>rfl;have e6:((out.map λi=>g.getD i .non).map (bK6 H1))=(out.map λm=>fam.getD m 0).map λi=>V.int (i:Nat):=by
     rw[cJr,cJr];refine cVr λm u=>?_;obtain⟨p,e1,D⟩:=a2 m u;show bK6 H1 (g.getD m .non)=V.int (fam.getD m 0:Nat);rw[e1];exact aWd D
    rw[ff,e6];refine q r _ (out.map λm=>fam.getD m 0) (o.trans (C.trans (yE O _))) ((o.trans C).fresh O) yB ⟨λk=>?_,?_⟩
    ·have b7:k∈out.map (λm=>fam.getD m 0)↔k∈fam:=by
      constructor
      ·intro h;obtain⟨m,u,rfl⟩:=cXt.mp h;have J:m<fam.length:=by rw[a8];exact hm m u
       simp[cQ8,cQn J]
      ·intro h;obtain⟨m,J,e⟩:=cXe h;refine cXt.mpr ⟨m,Z.mem_iff.mpr (cQT.mpr (by omega)),?_⟩;simp[cQ8,cQn J,e]
     rw[b7,a5 k];unfold X1;rw[Bool.and_eq_true,Bool.or_eq_true,decide_eq_true_eq];refine and_congr Iff.rfl (and_congr Iff.rfl ?_);cases c<;> simp[jZ]
    ·rw[cJY];exact b2
end
end Law
namespace Law
open PySem L2 PyProof.Rows
open Bk (Row Rows)
open Stree (W8 jN wL)
abbrev aZf:Stmt:=xI B1
def zQ(k:xG a H)(h:a c=none):xG a (upd H c o):=λb u q=>by rw[yJ (yI q h)];exact k b u q
def wZ(h:H p=some (.lst c)):∀a b,H a=some (.tup b)->upd H p o a=some (.tup b):=λa b e=>by rw[yJ (aXm e h (by intro z;cases z))];exact e
structure bJl(H:Hp)(ra:Nat)(rs:List Nat)(n:Nat)(L:Nat->Option Nat)(D:Nat->Int):Prop where
 lst:H ra=some (.lst (rs.map V.ref))
 len:rs.length=n
 row:∀i b,rs[i]? =some b->∃xs,H b=some (.lst xs)/\xs[1]? =some (.int (D i))/\xs[4]? =some (zN (L i))
inductive aQi(vs:List V)(H:Hp)(Q:VK)(_:XK):Prop|mk(ra:Nat)(rs:List Nat)(n:Nat)(L:Nat->Option Nat)(rk:Nat->Nat)(D:Nat->Int)(i:Nat)(_:vs= [.ref ra,.int (i:Nat)])(_:bJl H ra rs n L D)(_:Fm.Ok n L rk)(_:n<=60)(_:i<n)(_:∀ (H':Hp)(r:Nat)(out:List Nat),xG H H'->H r=none->H' r=some (.lst (out.map λi=>V.int (i:Nat)))->(out.Pairwise λx y=>jN (Fm.rd L D rk x) (Fm.rd L D rk y)=true)->(∀k,k∈out↔k<n/\Fm.tp L rk k=Fm.tp L rk i)->Q (.ref r) H')
def Tk(H c:Hp):Prop:=∀a b,H a=some (.tup b)->c a=some (.tup b)
def xG.tk(k:xG H b):Tk H b:=λa c e=>k a _ e
def Tk.trans(a:Tk H f)(b:Tk f g):Tk H g:=λc d e=>b c d (a c d e)
def X4.tk(k:Tk H a)(h:X4 H b d):X4 a b d:=let ⟨xs,e,z⟩:=h;⟨xs,k _ _ e,Paired.mapP z λ_ _ ⟨c,w1,w2⟩=>⟨c,w1,k _ _ w2⟩⟩
def bK1(H:Hp)(rd:Nat->W8)(k:Nat)(x:V):Prop:=∃p b,x= .ref p/\H p=some (.tup [.ref b,.int (k:Nat)])/\X4 H b (rd k)
def bK1.tk{rd:Nat->W8}(t:Tk H d){k:Nat}(h:bK1 H rd k x):bK1 d rd k x:=let ⟨p,b,e,a,c⟩:=h;⟨p,b,e,t _ _ a,X4.tk t c⟩
def Y2{α β:Type}{F:α->β->Prop}:∀ {l:List α} {m:List β} {i:Nat} {y:β},cXk F l m->m[i]? =some y->∃x,l[i]? =some x/\F x y
 |_,_,0,_,.cons r _,h=>by simp at h;subst h;exact⟨_,Cd,r⟩
 |_,_,i+1,_,.cons _ t,h=>by simpa using Y2 (i:=i) t (by simpa using h)
 |_,_,i,_,.nil,h=>by simp at h
def aQK{α β:Type}{F:α->β->Prop}{x:α}{y:β}(r:F x y):∀ {l:List α} {m:List β},cXk F l m->cXk F (l++ [x]) (m++ [y])
 |_,_,.nil=> .cons r .nil
 |_,_,.cons a t=> .cons a (aQK r t)
section
variable {K:cQq}
def bQH:yN [A0,A1,"_law_root","_law_keys",AI,"_law_key","_law_top"] [A0,A1] (yH aZf):=scM
def aYv:xP [A0,A1,"_law_root","_law_keys",AI,"_law_key","_law_top"] (yH aZf) C5 [] [] (lsN [(".0",.local),(C5,.local)]):=
 lcM
def bKH(H:Hp):V->V
 |.ref p=>match H p with
  |some (.tup [_,y])=>y
  |_=> .non
 |_=> .non
def aWe(h:H p=some (.tup [x,y])):bKH H (.ref p)=y:=by
 show(match H p with|some (.tup [_,y])=>y|_=>V.non)=y;rw[h]
def aYU(T:vQ mg)(Z:mg AT=none)(F:Fun K B1 B1 aZf f fd):xH P w K mg base CX0 2 f fd [A0,A1] aQi:=by
 have sc:=bQH;refine F.ok (k:=1) sc (λf3 A outer s H0 vs Q E hr h=>?_);obtain⟨W,rs,n,L,g,D,i,rfl,hR,ho,hn,hi,q⟩:=h;refine⟨_,(yC (yU (i:=2) (pv 1)) (yC (uG cXg (yM z8 (yL yK (yL yK (pv 0) (pv 2)) yF) x3) (yG (yU (i:=2) (yL yK (yL yK (pv 0) (pv 2)) yF)))) (yC (yU (i:=3) (yZ yD)) (yC (wM cXg rfl (zP rfl T.b_range (yA (yS yO rfl T.b_len xE (yA (pv 0) yD)) yD)) (xF (i:=4)) (yC (yU (i:=5) (y8 (yA (y8 (yA (yL yK (yL yK (pv 0) (pv 4)) yF) (yA (pv 4) yD))) yD))) (yC (yU (i:=6) (pv 4)) (yC (uG cXg (yM z8 (yL yK (yL yK (pv 0) (pv 6)) yF) x3) (yC (yU (i:=6) (yL yK (yL yK (pv 0) (pv 6)) yF)) (yG (yU (i:=5) (yV aY0 (y8 (yA (y8 (yA (yL yK (yL yK (pv 0) (pv 6)) yF) (yA (pv 6) yD))) yD)) (pv 5)))))) (yG (y6 (yM zK (pv 6) (pv 2)) (yG (y0 (v8 cQU cQ3 cQ4 xL (pv 3) (yA (y8 (yA (pv 5) (yA (pv 4) yD))) yD)))) yT)))))) (yG (yQ (aXr aYv rfl (xQ (yS (Q8 hr) rfl Z vG (yA (pv 3) yD))) (λ_ _ _ _ _=>vC) (λ_ _ _ _ _=>(yL ixT (pv 0) yF))))))))),?_⟩;have row:∀ {H:Hp} {t:Nat},xG H0 H->t<n->∃b G,(rs.map V.ref)[t]? =some (.ref b)/\H b=some (.lst G)/\G[1]? =some (.int (D t))/\G[4]? =some (zN (L t)):=λ{H t} k ht=>by
  have d2:t<rs.length:=by rw[hR.len];exact ht
  have hb:=cQn d2;obtain⟨G,h1,h2,h3⟩:=hR.row t _ hb;exact⟨rs[t],G,by rw[cQJ,hb];rfl,k _ _ h1,h2,h3⟩
 refine⟨_,Cd,?_⟩;dsimp only[yW];refine⟨λm σ H=>∃t:Nat,σ= [some (.ref W),some (.int (i:Nat)),some (.int (t:Nat)),none,none,none,none]/\H=H0/\t<n/\Fm.tp L g t=Fm.tp L g i/\m=g t,⟨g i,i,Cd,Cd,hi,Cd,rfl⟩,?_⟩;rintro m σ H ⟨t,rfl,rfl,ht,c6,rfl⟩;obtain⟨b,G,g1,g2,g3,g4⟩:=row (xG.refl H) ht;refine⟨_,Cd,_,Cd,W,_,_,_,Cd,Cd,Cb hR.lst,yR g1,b,G,4,_,Cd,Cd,Cb g2,yR (j:=4) g4,Cd,_,Cd,?_⟩;cases hl:L t with
 |some j=>obtain⟨hj,b4⟩:=ho.lt t j ht hl;refine onT rfl ⟨λσ' H'=>∃m',m'<g t/\∃t:Nat,σ'= [some (.ref W),some (.int (i:Nat)),some (.int (t:Nat)),none,none,none,none]/\H'=H/\t<n/\Fm.tp L g t=Fm.tp L g i/\m'=g t,λσ' H' z=>z,?_⟩;refine⟨_,Cd,_,Cd,W,_,_,_,Cd,Cd,Cb hR.lst,yR g1,b,G,4,_,Cd,Cd,Cb g2,yR (j:=4) g4,?_⟩;rw[hl];exact⟨g j,b4,j,Cd,Cd,hj,by rw[<- c6,Fm.vP ho ht hl],rfl⟩
 |none=>
  have c4:t=Fm.tp L g i:=by rw[<- c6,Fm.zW hl]
  subst c4;refine onF rfl ?_;refine⟨z0,λka c5=>?_⟩;dsimp only[yW];have k1:=yE c5 (.lst []);have b8:(rs.map V.ref).length=n:=by rw[cQt];exact hR.len
  refine⟨_,Cd,W,_,Cd,.inl (Cb (k1 _ _ hR.lst)),?_⟩;rw[b8];refine⟨_,Cd,by omega,by omega,?_⟩;rw[cQV];refine wV (λt σ H'=>L2.Ez4 λ(d:List V)(o4 o5 o6:Option V)=>σ= [some (.ref W),some (.int (i:Nat)),some (.int (Fm.tp L g i:Nat)),some (.ref ka),o4,o5,o6]/\xG H H'/\H' ka=some (.lst d)/\
   cXk (bK1 H' (Fm.rd L D g)) ((cQy t).filter λk=>decide (Fm.tp L g k=Fm.tp L g i)) d) ?_ ?_ ?_
  ·exact⟨[],none,none,none,Cd,k1,yB,.nil⟩
  ·rintro k σ M hk ⟨d,o4,o5,o6,rfl,u,I,hP⟩;rw[cZL];dsimp only[yW];obtain⟨b,G,g1,g2,g3,g4⟩:=row u hk;have d7:=u _ _ hR.lst;refine⟨_,Cd,_,Cd,W,_,_,_,Cd,Cd,Cb d7,yR g1,b,G,1,_,Cd,Cd,Cb g2,yR (j:=1) g3,_,Cd,z2,λp1 a1=>⟨z1,λp2 b2=>?_⟩⟩;dsimp only[yW];have e8:=yE a1 (.tup [V.int (D k),V.int (k:Nat)]);have c3:=yE b2 (.tup [V.ref p1]);have a5:X4 (upd (upd M p1 (.tup [V.int (D k),V.int (k:Nat)])) p2 (.tup [V.ref p1])) p2 [(D k,(k:Int))]:=⟨[.ref p1],yB,.cons ⟨p1,Cd,c3 _ _ yB⟩ .nil⟩;have b9:xG M (upd (upd M p1 (.tup [V.int (D k),V.int (k:Nat)])) p2 (.tup [V.ref p1])):=e8.trans c3;generalize upd (upd M p1 (.tup [V.int (D k),V.int (k:Nat)])) p2 (.tup [V.ref p1])=H2 at a5 b9 ⊢;refine⟨_,Cd,?_⟩;dsimp only[yW];refine⟨λm σ N=>L2.Ez3 λ(o:Nat)(S:W8)(kb:Nat)=>σ= [some (.ref W),some (.int (i:Nat)),some (.int (Fm.tp L g i:Nat)),some (.ref ka),some (.int (k:Nat)),some (.ref kb),some (.int (o:Nat))]/\xG M N/\o<n/\
     X4 N kb ((D o,(o:Int))::S)/\Fm.rd L D g k=Fm.rd L D g o++S/\Fm.tp L g o=Fm.tp L g k/\m=g o,⟨g k,k,[],p2,Cd,b9,hk,a5,by rw[cXr],Cd,rfl⟩,?_⟩
   rintro m σ N ⟨o,S,kb,rfl,y,a7,a2,b3,c2,rfl⟩;have C:=u.trans y;obtain⟨b,G,g1,g2,g3,g4⟩:=row C a7;refine⟨_,Cd,_,Cd,W,_,_,_,Cd,Cd,Cb (C _ _ hR.lst),yR g1,b,G,4,_,Cd,Cd,Cb g2,yR (j:=4) g4,Cd,_,Cd,?_⟩;cases J:L o with
   |some j=>
    obtain⟨hj,b4⟩:=ho.lt o j a7 J;refine onT rfl ⟨λσ N=>∃m',m'<g o/\L2.Ez3 λ(o:Nat)(S:W8)(kb:Nat)=>σ= [some (.ref W),some (.int (i:Nat)),some (.int (Fm.tp L g i:Nat)),some (.ref ka),some (.int (k:Nat)),some (.ref kb),some (.int (o:Nat))]/\xG M N/\o<n/\
     X4 N kb ((D o,(o:Int))::S)/\Fm.rd L D g k=Fm.rd L D g o++S/\Fm.tp L g o=Fm.tp L g k/\m'=g o,λσ' H' z=>z,?_⟩
    refine⟨_,Cd,_,Cd,W,_,_,_,Cd,Cd,Cb (C _ _ hR.lst),yR g1,b,G,4,_,Cd,Cd,Cb g2,yR (j:=4) g4,?_⟩;rw[J];dsimp only[yW,zN];obtain⟨b',c9,d0,d9,e0,f2⟩:=row C hj;refine⟨_,Cd,_,Cd,W,_,_,_,Cd,Cd,Cb (C _ _ hR.lst),yR d0,b',c9,1,_,Cd,Cd,Cb d9,yR (j:=1) e0,_,Cd,z2,λO e9=>⟨z1,λq2 d3=>?_⟩⟩;have d8:=yE e9 (.tup [V.int (D j),V.int (j:Nat)]);have c1:=yE d3 (.tup [V.ref O]);have b6:xG N (upd (upd N O (.tup [V.int (D j),V.int (j:Nat)])) q2 (.tup [V.ref O])):=d8.trans c1;have e1:upd (upd N O (.tup [V.int (D j),V.int (j:Nat)])) q2 (.tup [V.ref O]) O=some (.tup [V.int (D j),V.int (j:Nat)]):=c1 _ _ yB;have U:upd (upd N O (.tup [V.int (D j),V.int (j:Nat)])) q2 (.tup [V.ref O]) q2=some (.tup [V.ref O]):=yB;generalize upd (upd N O (.tup [V.int (D j),V.int (j:Nat)])) q2 (.tup [V.ref O])=H4 at b6 e1 U ⊢;obtain⟨ys,y1,y2⟩:=X4.tk (xG.tk b6) a2;have b1:ys.length=S.length+1:=by have:=y2.length;simpa using this.symm
    have c7:(Fm.rd L D g k).length<=n:=Fm.bKt ho hk;rw[b3,cQL]at c7;have d6:ys≠ []:=λz=>by rw[z]at b1;simp at b1
    refine⟨_,Cd,q2,kb,_,ys,Cd,Cd,Cc U,Cc y1,by simp,by rw[cQQ];show 1+ys.length<=_;omega,λz=>absurd z d6,λ_ q3 b5=>?_⟩;have B:=yE b5 (.tup ([V.ref O]++ys));refine⟨g j,b4,j,(D o,(o:Int))::S,q3,Cd,y.trans (b6.trans B),hj,⟨_,yB,.cons ⟨O,Cd,B _ _ e1⟩ (Paired.mapP y2 λ_ _ ⟨c,w1,w2⟩=>⟨c,w1,B _ _ w2⟩)⟩,?_,?_,rfl⟩
    ·rw[b3,Fm.uH ho a7 J,cXL];rfl
    ·rw[<- c2,Fm.vP ho a7 J]
   |none=>
    have b7:o=Fm.tp L g k:=by rw[<- c2,Fm.zW J]
    have e7:Fm.rd L D g k=(D o,(o:Int))::S:=by rw[b3,Fm.Z6 J];rfl
    refine onF rfl ?_;refine⟨_,Cd,_,Cd,Cd,_,Cd,?_⟩;rw[cZP,cXC];by_cases ec:Fm.tp L g k=Fm.tp L g i
    ·have hd:decide ((V.int (o:Nat))=V.int (Fm.tp L g i:Nat))=true:=by rw[b7,ec];simp
     refine onT (by rw[b7,ec];simp) ?_;have b0:=y _ _ I;refine⟨_,Cd,.inl ⟨rfl,_,Cb b0⟩,_,Cd,_,Cd,z2,λq3 b5=>?_⟩;have B:=yE b5 (.tup [V.ref kb,V.int (k:Nat)]);have a9:=B _ _ b0;have il:d.length<=k:=by have:=hP.length;rw[<- this];exact cQZ (cXn _ _) (by simp)
     have t6:Tk (upd N q3 (.tup [V.ref kb,V.int (k:Nat)])) (upd (upd N q3 (.tup [V.ref kb,V.int (k:Nat)])) ka (.lst (d++ [V.ref q3]))):=λa G e=>wZ a9 a G e;refine⟨ka,d,.ref q3,Cd,Cd,a9,zlt (by omega),d++ [.ref q3],_,_,_,Cd,zQ (u.trans (y.trans B)) c5,yB,?_⟩;have e3: [k].filter (λk=>decide (Fm.tp L g k=Fm.tp L g i))= [k]:=by simp[ec]
     rw[e3];refine aQK ⟨q3,kb,Cd,t6 _ _ yB,?_⟩ (Paired.mapP hP λ_ _ z=>z.tk ((xG.tk (y.trans B)).trans t6));rw[e7];exact X4.tk ((xG.tk B).trans t6) a2
    ·refine onF ?_ ⟨d,_,_,_,Cd,u.trans y,y _ _ I,?_⟩
     ·rw[b7];simp;omega
     ·have e3: [k].filter (λk=>decide (Fm.tp L g k=Fm.tp L g i))= []:=by simp[ec]
      rw[e3,cXr];exact Paired.mapP hP λ_ _ z=>z.tk (xG.tk y)
  ·rintro σ M ⟨d,o4,o5,o6,rfl,u,I,hP⟩;generalize Y:(cQy n).filter (λk=>decide (Fm.tp L g k=Fm.tp L g i))=fam at hP;have f1:fam.length=d.length:=hP.length;have fn:fam.length<=n:=by rw[<- Y];exact cQZ (cXn _ _) (by simp)
   have a0:∀k,k∈fam↔k<n/\Fm.tp L g k=Fm.tp L g i:=λk=>by rw[<- Y,cXf,cQT,decide_eq_true_eq]
   have d4:fam.Nodup:=by rw[<- Y];exact cJC.sublist cZp
   have a6:∀m,m<d.length->fam.getD m 0∈fam:=λm hm=>by
    have d1:m<fam.length:=by omega
    simp[cQ8,cQn d1]
   refine⟨_,Cd,ka,d,λm=>Fm.rd L D g (fam.getD m 0),λm=>((fam.getD m 0:Nat):Int),Cd,I,by omega,λa b ha hb e=>?_,λm x hx=>?_,λl out hl a1 b2=>?_⟩
   ·have U:=Fm.bQc ho ((a0 _).mp (a6 a ha)).1 ((a0 _).mp (a6 b hb)).1 e;have c0:a<fam.length:=by omega
    have c8:b<fam.length:=by omega
    simp[cQ8,cQn c0,cQn c8]at U;exact(cZg (h₀:=c0) (h₁:=c8) d4).mp U
   ·obtain⟨k,hk,p,b,e1,U,e3⟩:=Y2 hP hx;have:fam.getD m 0=k:=by simp[cQ8,hk]
    show ∃a b,x=V.ref a/\M a=some (.tup [V.ref b,V.int ((fam.getD m 0:Nat):Int)])/\X4 M b (Fm.rd L D g (fam.getD m 0));rw[this];exact⟨p,b,e1,U,e3⟩
   ·have hm:∀m∈out,m<d.length:=λm hm=>cQT.mp (a1.mem_iff.mp hm);have k2:=yE hl (.lst (out.map λi=>d.getD i .non));refine⟨l,Cd,⟨_,Cb yB⟩,λr a8=>?_⟩;have f0:out.length=d.length:=by rw[a1.length_eq,cXh]
    refine aXC (λ_=>true) (bKH M) (Cb yB) a8 (zn (by rw[cQt];omega)) ?_ ?_ ?_
    ·intro v hv H' R hH X;exact X
    ·intro v hv _ H' R hH X;obtain⟨m,a4,rfl⟩:=cXt.mp hv;have a3:=hm m a4;have hg:d[m]? =some (d.getD m .non):=by simp[cQ8,cQn a3]
     obtain⟨k,hk,p,b,e1,U,e3⟩:=Y2 hP hg;rw[e1]at X ⊢;have e4:=k2 _ _ U;have d5:p≠r:=yI e4 a8;have e5:H' p=some (.tup [.ref b,.int (k:Nat)]):=by rw[hH p d5];exact e4
     refine⟨_,Cd,p,_,1,.int (k:Nat),Cd,Cd,Cc e5,Cd,?_⟩;have:bKH M (.ref p)= .int (k:Nat):=aWe U;rw[this]at X;exact X
    ·have ff:(out.map λi=>d.getD i .non).filter (λ_=>true)=out.map λi=>d.getD i .non:=cJd.mpr λ_ _=>rfl;rw[ff,cJr];have e6:(out.map (bKH M∘λi=>d.getD i .non))=(out.map λm=>fam.getD m 0).map λi=>V.int (i:Nat):=by
      rw[cJr];refine cVr λm a4=>?_;have a3:=hm m a4;have hg:d[m]? =some (d.getD m .non):=by simp[cQ8,cQn a3]
      obtain⟨k,hk,p,b,e1,U,e3⟩:=Y2 hP hg;show bKH M (d.getD m .non)=V.int (fam.getD m 0:Nat);have:fam.getD m 0=k:=by simp[cQ8,hk]
      rw[e1,this];exact aWe U
     rw[e6];refine q _ r (out.map λm=>fam.getD m 0) (u.trans (k2.trans (yE a8 _))) ((u.trans k2).fresh a8) yB ?_ λk=>?_
     ·rw[cJY];exact b2
     ·rw[<- a0 k];constructor
      ·intro h;obtain⟨m,a4,rfl⟩:=cXt.mp h;exact a6 m (hm m a4)
      ·intro h;obtain⟨m,a3,e⟩:=cXe h;refine cXt.mpr ⟨m,a1.mem_iff.mpr (cQT.mpr (by omega)),?_⟩;simp[cQ8,cQn a3,e]
end
def xC.rows{R:Rows}(h:xC H e d R):bJl H e d R.length (Bk.lk R) (Bk.dt R):=
 ⟨h.lst,h.len,λi b c=>by
  have f:i<R.length:=by rw[<- h.len];exact(cQA.mp c).1
  have a:=cQn f;obtain⟨j,g,k⟩:=h.row i b _ c a;exact⟨_,g,by rw[Bk.w9 a];rfl,by rw[Bk.wN a];rfl⟩⟩
end Law
namespace Law
open PySem L2 PyProof.Rows
open Bk (Row Rows)
def uR(r:Row)(a:Nat):List V:= [.str r.way,.int r.date,.str r.partner,.int r.term,zN r.link,.str r.place,.bl r.void,.ref a]
def qL{r:Row}{a:Nat}{l:List Str}:HO.lst (uR r a)≠HO.lst (l.map V.str):=λz=>by
 injection z with z
 match l,z with
 |[],z=>cases z
 |[_],z=>injection z with _ z;cases z
 |_::_::_,z=>injection z with _ z;injection z with z _;cases z
def aQQ{r:Row}{a:Nat}{l:List Nat}:HO.lst (uR r a)≠HO.lst (l.map V.ref):=λz=>by
 injection z with z
 match l,z with
 |[],z=>cases z
 |_::_,z=>injection z with z _;cases z
def xC.upd{H:Hp}{s:Nat}{p:List Nat}{R:Rows}{k:Nat}{b:Nat}{r:Row}(h:xC H s p R)(n:p[k]? =some b)(v:R[k]? =some r)(f:Row->Row){l:Nat}(d:H l=some (.lst ((f r).copies.map V.str))):xC (upd H b (.lst (uR (f r) l))) s p (Bk.xD R k f):=by
 obtain⟨A,m,_⟩:=h.row k b r n v;have o:s≠b:=aXm h.lst m (cQ6 aQQ);refine⟨by rw[yJ o];exact h.lst,by rw[Bk.xX];exact h.len,h.nd,λi c q g a=>?_⟩;rw[Bk.xJ]at a;by_cases e:i=k
 ·subst e;rw[n]at g;cases g;rw[if_pos rfl,v]at a;cases a;exact⟨l,yB,by rw[yJ (aXm d m (cQ6 qL))];exact d⟩
 ·rw[if_neg e]at a;obtain⟨y,x,u⟩:=h.row i c q g a;have j:c≠b:=λz=>by
   have t:=cQA.mp g;have w:=cQA.mp n;exact e ((cZg (h₀:=t.1) (h₁:=w.1) h.nd).mp (by rw[t.2,w.2];exact z))
  exact⟨y,by rw[yJ j];exact x,by rw[yJ (aXm u m (cQ6 qL))];exact u⟩
def NoC(a:List Nat)(H:Hp)(s:Nat):Prop:=∀b∈a,∀l,H b=some (.lst l)->l[7]? ≠some (.ref s)
def But(a:List Nat)(H c:Hp):Prop:=(∀b o,b∉a->H b=some o->c b=some o)/\(∀b∈a,∃o,c b=some o)/\∀s u,H s=some u->NoC a H s->NoC a c s
def xC.dom{R:Rows}(h:xC H f a R):∀b∈a,∃o,H b=some o:=λb d=>by
 obtain⟨i,c,e⟩:=cXe d;have j:=cQn (show i<R.length by rw[<- h.len];exact c);obtain⟨k,g,_⟩:=h.row i b _ (by rw[cQn c,e]) j;exact⟨_,g⟩
def But.of(g:∀b∈d,∃o,H b=some o)(k:xG H c):But d H c:=⟨λb o _ e=>k b o e,λb a=>let ⟨o,e⟩:=g b a;⟨o,k _ _ e⟩,λs u e n b a l h=>by
 obtain⟨o,f⟩:=g b a;have:=k _ _ f;rw[h]at this;cases this;exact n b a l f⟩
def But.trans(a:But d H f)(b:But d f g):But d H g:=⟨λc o n e=>b.1 c o n (a.1 c o n e),b.2.1,λs u e n=>by
 by_cases h:s∈d
 ·obtain⟨o,i⟩:=a.2.1 s h;exact b.2.2 s o i (a.2.2 s u e n)
 ·exact b.2.2 s u (a.1 s u h e) (a.2.2 s u e n)⟩
def But.upd{d:List Nat}{H:Hp}{k:Nat}{b:Nat}{l l':List V}(h:∀b∈d,∃o,H b=some o)(g:d[k]? =some b)(hl:H b=some (.lst l))(f:l'[7]? =l[7]?):But d H (upd H b (.lst l')):=
 ⟨λc u n e=>by rw[yJ (λz=>n (by rw[z];exact cQH g))];exact e,λc a=>by
  by_cases z:c=b
  ·rw[z];exact⟨_,yB⟩
  ·rw[yJ z];exact h c a,λs u e n c a x ex=>by
  by_cases z:c=b
  ·subst z;rw[yB]at ex;cases ex;rw[f];exact n c a l hl
  ·rw[yJ z]at ex;exact n c a x ex⟩
abbrev bVZ:Stmt:=xI C6
inductive bJJ(vs:List V)(H:Hp)(Q:VK)(_:XK):Prop|mk(ra:Nat)(rs:List Nat)(R:Rows)(k:Nat)(r:Row)(_:vs= [.ref ra,.int (k:Nat)])(_:xC H ra rs R)(_:R.length<=100)(_:R[k]? =some r)(_:∀ (H':Hp)(a:Str)(R':Rows),But rs H H'->xC H' ra rs R'->((Bk.zU R k≠ []/\a=B4/\R'=R)\/(Bk.zU R k= []/\a=AW/\R'=Bk.xD R k λr=>{r with link:=none,void:=true}))->Q (.str a) H')
section
variable {K:cQq}
def bWd:yN [A0,A1,Ar] [A0,A1] (yH bVZ):=scM
def bVB(a:FnG P w K mg base 1 At [A0,A1] aWm)(F:Fun K C6 C6 bVZ f fd):xH P w K mg base CX0 2 f fd [A0,A1] bJJ:=by
 have G:=bWd;refine F.ok (k:=1) G (λB A outer s H L Q E v h=>?_);obtain⟨x,I,R,k,r,rfl,d,hR,u,q⟩:=h;refine⟨_,(yC (yU (i:=2) (yL yK (pv 0) (pv 1))) (yC (y6 (yM (wR v.units0) (xN a v rfl (yA (pv 0) (yA (pv 1) yD))) (yZ yD)) (yG (yQ yP)) yT) (yC (vK x3 (qD (pv 2) yF z6)) (yC (vK vJ (qD (pv 2) yF z6)) (yG (yQ yP)))))),?_⟩;obtain⟨b,C,t,J,D,y⟩:=d.get u;refine⟨_,Cd,_,Cd,x,_,_,_,Cd,Cd,Cb d.lst,yR C,?_⟩;dsimp only[yW];refine⟨_,Cd,_,Cd,x,I,R,k,Cd,d,hR,λp n=>⟨z0,λpn m=>?_⟩⟩;have z:=yE n (.lst ((Bk.zU R k).map λi=>V.int (i:Nat)));have o:=yE m (.lst []);refine⟨p,pn,_,Cd,Cd,Cb (o _ _ yB),Cb yB,_,Cd,?_⟩;have kA:=z.trans o;generalize upd (upd H p (.lst ((Bk.zU R k).map λi=>V.int (i:Nat)))) pn (.lst [])=H2 at kA ⊢;have c:=d.same kA;cases e:Bk.zU R k with
 |cons j l=>exact onT rfl (q H2 _ R (But.of d.dom kA) c (.inl ⟨by rw[e];simp,Cd,rfl⟩))
 |nil=>refine onF rfl ?_;have g:=kA _ _ D;refine⟨_,Cd,b,_,4,4,Cd,Cd,g,Cd,?_⟩;refine⟨_,Cd,b,_,6,6,Cd,Cd,yB,Cd,?_⟩;rw[jG];exact q _ _ _ ((But.of d.dom kA).trans (But.upd c.dom t g rfl)) (c.upd t u (λr=>{r with link:=none,void:=true}) (kA _ _ y)) (.inr ⟨e,Cd,rfl⟩)
end
end Law
namespace Law
open PySem L2 PyProof.Rows
open Bk (Row Rows)
abbrev bQj:Stmt:=xI Bm
def aKS(R:Rows)(k:Nat)(r:Row)(d:Int):Prop:=(∃j,r.link=some j/\d<Bk.dt R j)\/∃c∈Bk.zU R k,Bk.dt R c<d
inductive bQV(vs:List V)(H:Hp)(Q:VK)(_:XK):Prop|mk(ra:Nat)(rs:List Nat)(R:Rows)(k:Nat)(r:Row)(d:Int)(_:vs= [.ref ra,.int (k:Nat),.int d])(_:xC H ra rs R)(_:R.length<=100)(_:R[k]? =some r)(_:(∀j,r.link=some j->j<R.length))(_:∀ (H':Hp)(a:Str)(R':Rows),But rs H H'->xC H' ra rs R'->((aKS R k r d/\a="too early"/\R'=R)\/(¬aKS R k r d/\a="dated"/\R'=Bk.xD R k λr=>{r with date:=d}))->Q (.str a) H')
section
variable {K:cQq}
def bZG:yN [A0,A1,AK,Ar,AI] [A0,A1,AK] (yH bQj):=scM
def bX3(a:FnG P w K mg base 1 At [A0,A1] aWm)(F:Fun K Bm Bm bQj f fd):xH P w K mg base CX0 2 f fd [A0,A1,AK] bQV:=by
 have sc:=bZG;refine F.ok (k:=1) sc (λa0 A outer s H vs Q E hr h=>?_);obtain⟨z,rs,R,k,r,d,rfl,n,hR,hk,T,q⟩:=h;refine⟨_,(yC (yU (i:=3) (yL yK (pv 0) (pv 1))) (yC (y6 (PW.pt (uA (yM z8 (yL yK (pv 3) yF) x3) (vM (yM vR (pv 2) (yL yK (yL yK (pv 0) (yL yK (pv 3) yF)) yF))))) (yG (yQ yP)) yT) (yC (wM cXg rfl (xQ (xN a hr rfl (yA (pv 0) (yA (pv 1) yD)))) (xF (i:=4)) (yG (y6 (yM vR (yL yK (yL yK (pv 0) (pv 4)) yF) (pv 2)) (yG (yQ yP)) yT))) (yC (vK (pv 2) (qD (pv 3) yF z6)) (yG (yQ yP)))))),?_⟩;obtain⟨b,g1,g2,cp,U,g4⟩:=n.get hk;refine⟨_,Cd,_,Cd,z,_,_,_,Cd,Cd,Cb n.lst,yR g1,?_⟩;dsimp only[yW];refine x9 (λD M=>D= [some (.ref z),some (.int (k:Nat)),some (.int d),some (.ref b),none]/\M=H/\∀j,r.link=some j->Bk.dt R j<=d) ?jX (λp=>?_);case jX=>
  rintro D M ⟨rfl,rfl,h1⟩;refine⟨_,Cd,_,Cd,z,rs,R,k,Cd,n,hR,λN Z=>⟨N,Cd,⟨_,Cb yB⟩,?_⟩⟩;have kA:=yE Z (.lst ((Bk.zU R k).map λi=>V.int (i:Nat)));have o:upd M N (.lst ((Bk.zU R k).map λi=>V.int (i:Nat))) N=some (.lst ((Bk.zU R k).map λi=>V.int (i:Nat))):=yB;generalize upd M N (.lst ((Bk.zU R k).map λi=>V.int (i:Nat)))=H2 at kA o ⊢;have m:=n.same kA;refine zZ (xs:=(Bk.zU R k).map λi=>V.int (i:Nat)) (λt σ S=>∃O,σ= [some (.ref z),some (.int (k:Nat)),some (.int d),some (.ref b),O]/\S=H2/\∀u j,u<t->(Bk.zU R k)[u]? =some j->d<=Bk.dt R j) ?_ ?_ ?_ ?_
  ·exact⟨_,Cd,Cd,λu j G=>absurd G (cX3 _)⟩
  ·rintro t σ S _ ⟨O,rfl,rfl,_⟩;exact Cb o
  ·rintro t x σ S C ⟨O,rfl,rfl,l⟩;rw[cQJ]at C;cases L:(Bk.zU R k)[t]? with
   |none=>rw[L]at C;cases C
   |some j=>
    rw[L]at C;cases C;have B:=cQH L;have v:j<R.length:=cQT.mp (cXf.mp B).1;have g:=cQn v;obtain⟨Y,X,j2,cj,W,j4⟩:=m.get g;dsimp only[yW];refine⟨_,Cd,_,Cd,z,_,_,_,Cd,Cd,Cb m.lst,yR X,Y,_,1,_,Cd,Cd,Cb W,Cd,_,Cd,_,_,Cd,Cd,_,Cd,?_⟩;cases J:decide (R[j].date<d)with
    |true=>exact onT rfl (q _ _ R (But.of n.dom kA) m (.inl ⟨.inr ⟨j,B,by rw[Bk.w9 g];exact of_decide_eq_true J⟩,Cd,rfl⟩))
    |false=>
     refine onF rfl ⟨_,Cd,Cd,λu i G y=>?_⟩;by_cases e:u=t
     ·subst e;rw[L]at y;cases y;rw[Bk.w9 g];have:=of_decide_eq_false J;omega
     ·exact l u i (by omega) y
  ·rintro σ S ⟨O,rfl,rfl,l⟩;rw[cQt]at l;have I:=kA _ _ U;refine⟨_,Cd,_,Cd,b,_,1,1,Cd,Cd,I,Cd,?_⟩;refine q _ _ _ ((But.of n.dom kA).trans (But.upd m.dom g2 I rfl)) (m.upd g2 hk (λr=>{r with date:=d}) (kA _ _ g4)) (.inr ⟨?_,Cd,rfl⟩);rintro(⟨j,e1,e2⟩|⟨c,hc,e2⟩)
   ·have:=h1 j e1;omega
   ·obtain⟨u,G,e⟩:=cXe hc;have:=l u c G (by rw[cQn G,e]);omega
 refine⟨_,Cd,b,_,4,_,Cd,Cd,Cb U,Cd,Cd,_,Cd,?_⟩;cases hl:r.link with
 |none=>exact onF rfl (onF rfl (p _ _ ⟨rfl,Cd,λj hj=>by rw[hl]at hj;cases hj⟩))
 |some j=>
  have v:=T j hl;have g:=cQn v;obtain⟨Y,X,j2,cj,W,j4⟩:=n.get g;refine onT rfl ⟨_,Cd,_,Cd,_,Cd,b,_,4,_,Cd,Cd,Cb U,Cd,?_⟩;rw[hl];refine⟨z,_,_,_,Cd,Cd,Cb n.lst,yR X,Y,_,1,_,Cd,Cd,Cb W,Cd,_,_,Cd,Cd,_,Cd,?_⟩;cases J:decide (d<R[j].date)with
  |true=>exact onT rfl (q _ _ R (But.of n.dom (xG.refl _)) n (.inl ⟨.inl ⟨j,hl,by rw[Bk.w9 g];exact of_decide_eq_true J⟩,Cd,rfl⟩))
  |false=>exact onF rfl (p _ _ ⟨rfl,Cd,λi y=>by rw[hl]at y;cases y;rw[Bk.w9 g];have:=of_decide_eq_false J;omega⟩)
end
end Law
namespace Law
open PySem L2 PyProof.Rows
open Bk (Row Rows xR zI Ans)
abbrev bVY:Stmt:=xI C7
inductive bJI(vs:List V)(H:Hp)(Q:VK)(_:XK):Prop|mk(ra:Nat)(rs:List Nat)(R:Rows)(m o:Int)(_:vs= [.ref ra,.int m,.int o])(_:xC H ra rs R)(_:R.length<=60)(_:Bk.uW R)(_:∀ (H':Hp)(a:Str)(R':Rows),But rs H H'->xC H' ra rs R'->(∀S,xR R S (.hang m o) (.txt a) R' S)->Q (.str a) H')
def aQP{r:Row}{b:Nat}{l:List Nat}:HO.lst (uR r b)≠HO.lst (l.map λi=>V.int (i:Nat)):=λz=>by
 injection z with z
 cases l with
 |nil=>cases z
 |cons a l=>cases z
def aQC(R:Rows)(l:List Nat)(k:Nat)(name:Str):Bk.laid R (l++ [k]) name=Bk.xD (Bk.laid R l name) k λr=>{r with place:=name}:=by
 unfold Bk.laid;rw[cVL];rfl
def vD:decide (V.str a=V.str b)=decide (a=b):=by rw[Bool.eq_iff_iff];simp
def aWM:decide (V.int (a:Nat)=V.int (b:Nat))=decide (a=b):=by rw[Bool.eq_iff_iff];simp;omega
section
variable {K:cQq}
def aVT{K:cQq}{H:Hp}{n l:Nat}{d:List Nat}{R:Rows}{a:List Nat}{name:Str}{t:Nat}{k:Nat}(h:xC H n d (Bk.laid R (a.take t) name))(q:a[t]? =some k)(j:k<R.length)(hl:H l=some (.lst (a.map λi=>V.int (i:Nat)))): ∃ (b c:Nat)(r:Row),(d.map V.ref)[k]? =some (.ref b)/\H b=some (.lst (uR r c))/\xC (upd H b (.lst (uR {r with place:=name} c))) n d (Bk.laid R (a.take (t+1)) name)/\But d H (upd H b (.lst (uR {r with place:=name} c)))/\upd H b (.lst (uR {r with place:=name} c)) l=some (.lst (a.map λi=>V.int (i:Nat)))/\b∈d:=by
 have e:k<(Bk.laid R (a.take t) name).length:=by rw[Bk.wQ];exact j
 have m:=cQn e;obtain⟨b,p,g,c,f,o⟩:=h.get m;refine⟨b,c,_,p,f,?_,But.upd h.dom g f rfl,?_,cQH g⟩
 ·rw[show a.take (t+1)=a.take t++ [k]from by rw[cXA,q];rfl,aQC];exact h.upd g m (λr=>{r with place:=name}) o
 ·rw[yJ (aXm hl f (cQ6 aQP))];exact hl
def bWb:yN [A0,A1,BC,Ar,"_law_other",AI,"_law_row"] [A0,A1,BC] (yH bVY):=scM
def bVz(y:FnG P w K mg base 2 Ai [A0,A1] Q7)(a:FnG P w K mg base 2 B1 [A0,A1] aQi)(F:Fun K C7 C7 bVY f fd):xH P w K mg base CX0 3 f fd [A0,A1,BC] bJI:=by
 have sc:=bWb;refine F.ok (k:=2) sc (λb7 A outer s H vs Q E hr h=>?_);obtain⟨G,N,R,m,o,rfl,C,hR,hT,q⟩:=h;refine⟨_,(yC (y6 (PW.pt (jW (vL (x8 (xN y hr rfl (yA (pv 0) (yA (pv 1) yD))))) (vX (vL (x8 (xN y hr rfl (yA (pv 0) (yA (pv 2) yD)))))))) (yG (yQ yP)) yT) (yC (yU (i:=3) (yL yK (pv 0) (pv 1))) (yC (yU (i:=4) (yL yK (pv 0) (pv 2))) (yC (y6 (yM z8 (yL yK (pv 3) yF) x3) (yG (yQ yP)) yT) (yC (y6 (yM zK (yL yK (xN a hr rfl (yA (pv 0) (yA (pv 2) yD))) yF) (pv 1)) (yG (yQ yP)) yT) (yC (y6 (yM zK (yL yK (pv 3) yF) (yL yK (pv 4) yF)) (yG (yQ yP)) yT) (yC (y6 (yM Y1 (yL yK (pv 3) yF) (yL yK (pv 4) yF)) (yG (yQ yP)) yT) (yC (y6 (yM vR (yL yK (pv 3) yF) (yL yK (pv 4) yF)) (yG (yQ yP)) yT) (yC (wM cXg rfl (xQ (xN a hr rfl (yA (pv 0) (yA (pv 1) yD)))) (xF (i:=5)) (yC (yU (i:=6) (yL yK (pv 0) (pv 5))) (yG (vK (yL yK (pv 4) yF) (qD (pv 6) yF z6))))) (yC (vK (pv 2) (qD (pv 3) yF z6)) (yG (yQ yP)))))))))))),?_⟩;have v:But N H H:=But.of C.dom (xG.refl _);refine⟨_,Cd,_,Cd,G,N,R,m,Cd,C,_,Cd,?_⟩;cases h1:Bk.vA R m with
 |false=>exact onT rfl (onT rfl (q H _ R v C λS=> .hangN (.inl h1)))
 |true=>
 refine onF rfl ⟨_,Cd,_,Cd,G,N,R,o,Cd,C,_,Cd,?_⟩;cases h2:Bk.vA R o with
 |false=>exact onT rfl (q H _ R v C λS=> .hangN (.inr h2))
 |true=>
 obtain⟨i,r,rfl,L,I,Z⟩:=Bk.wP h1;obtain⟨j,p,rfl,D,M,hw⟩:=Bk.wP h2;obtain⟨b,g1,g2,cp,g3,g4⟩:=C.get I;obtain⟨Y,f1,f2,b8,f3,f4⟩:=C.get M;refine onF rfl ⟨_,Cd,_,Cd,G,_,_,_,Cd,Cd,Cb C.lst,yR g1,?_⟩;dsimp only[yW];refine⟨_,Cd,_,Cd,G,_,_,_,Cd,Cd,Cb C.lst,yR f1,?_⟩;dsimp only[yW];refine⟨_,Cd,b,_,4,_,Cd,Cd,Cb g3,Cd,Cd,_,Cd,?_⟩;cases n:r.link with
 |some x=>exact onT rfl (q H _ R v C λS=> .hangH I Z M hw (by rw[n];simp))
 |none=>
 obtain⟨rk,ok⟩:=hT;have hT:Bk.uW R:=⟨rk,ok⟩;refine onF rfl ⟨_,Cd,_,Cd,G,N,R.length,Bk.lk R,rk,Bk.dt R,j,Cd,C.rows,ok,hR,D,λH1 l out k1 nl hl hp hm=>?_⟩;have et:=Bk.aXN D ⟨rk,ok,hp,hm⟩;subst et;obtain⟨_,_,a6⟩:=Bk.uN hT D;obtain⟨hd,U⟩:∃hd,(Bk.thr R j).head? =some hd:=⟨_,a6⟩;have e0:(((Bk.thr R j).map λi=>V.int (i:Nat)))[0]? =some (.int (hd:Nat)):=by rw[cQJ,<- List.head?_eq_getElem?,U];rfl
 have g:=C.same k1;have X:=k1 _ _ g3;have W:=k1 _ _ f3;have u:But N H H1:=But.of C.dom k1;refine⟨l,_,0,_,Cd,Cd,Cb hl,yR e0,_,Cd,Cd,_,Cd,?_⟩;rw[aWM];refine qG (λc=>?_) (λc=>?_)
 ·have e:hd=i:=of_decide_eq_true c;exact q H1 _ R u g λS=> .hangO I Z M hw n (by rw[U,e])
 have B:(Bk.thr R j).head? ≠some i:=λz=>c (decide_eq_true (by rw[U]at z;exact cQI z));refine⟨_,Cd,b,_,0,_,Cd,Cd,Cb X,Cd,_,Cd,Y,_,0,_,Cd,Cd,Cb W,Cd,Cd,_,Cd,?_⟩;rw[vD];refine qG (λc1=>?_) (λc1=>?_)
 ·exact q H1 _ R u g λS=> .hangW I Z M hw n B (of_decide_eq_true c1)
 have h3:=of_decide_eq_false (Bool.eq_false_iff.mpr c1);refine⟨_,Cd,b,_,2,_,Cd,Cd,Cb X,Cd,_,Cd,Y,_,2,_,Cd,Cd,Cb W,Cd,Cd,_,Cd,?_⟩;rw[vD];cases a1:decide (r.partner=p.partner)with
 |false=>exact onT rfl (q H1 _ R u g λS=> .hangP I Z M hw n B h3 (of_decide_eq_false a1))
 |true=>
 have h4:=of_decide_eq_true a1;refine onF rfl ⟨_,Cd,b,_,1,_,Cd,Cd,Cb X,Cd,_,Cd,Y,_,1,_,Cd,Cd,Cb W,Cd,_,_,Cd,Cd,_,Cd,?_⟩;refine qG (λc2=>?_) (λc2=>?_)
 ·exact q H1 _ R u g λS=> .hangE I Z M hw n B h3 h4 (of_decide_eq_true c2)
 have h5:p.date<=r.date:=by have:=of_decide_eq_false (Bool.eq_false_iff.mpr c2);omega
 refine⟨_,Cd,_,Cd,G,N,R.length,Bk.lk R,rk,Bk.dt R,i,Cd,g.rows,ok,hR,L,λH2 l2 b4 k2 b9 a0 b1 T=>⟨l2,Cd,⟨_,Cb a0⟩,?_⟩⟩;have a5:=Bk.aXN L ⟨rk,ok,b1,T⟩;subst a5;have b6:i≠j:=λz=>by subst z;have e1:=Bk.uN hT L;obtain⟨a7,o2,O⟩:=e1;rw[Fm.zW (by rw[Bk.wN I];exact n)]at O;exact B O
 have a8:j∉Bk.thr R i:=λz=>by have e1:=(T j).mp z;rw[Fm.zW (i:=i) (by rw[Bk.wN I];exact n)]at e1;obtain⟨a7,o2,O⟩:=Bk.uN hT D;rw[Fm.jE o2 ok D,e1.2]at O;exact B O
 refine zZ (xs:=(Bk.thr R i).map λi=>V.int (i:Nat)) (λt σ H3=>L2.Ez2 λ(o5 o6:Option V)=>σ= [some (.ref G),some (.int (i:Nat)),some (.int (j:Nat)),some (.ref b),some (.ref Y),o5,o6]/\xC H3 G N (Bk.laid R ((Bk.thr R i).take t) p.place)/\But N H2 H3/\H3 l2=some (.lst ((Bk.thr R i).map λi=>V.int (i:Nat)))) ?_ ?_ ?_ ?_
 ·exact⟨none,none,Cd,g.same k2,But.of (g.same k2).dom (xG.refl _),a0⟩
 ·rintro t σ H3 ht ⟨o5,o6,rfl,d,k3,J⟩;exact Cb J
 ·rintro t x σ H3 hx ⟨o5,o6,rfl,d,k3,J⟩;rw[cQJ]at hx;cases hc:(Bk.thr R i)[t]? with
  |none=>rw[hc]at hx;cases hx
  |some k=>
   rw[hc]at hx;cases hx;have b3:k<R.length:=((T k).mp (cQH hc)).1;obtain⟨bk,ck,b5,e1,O,e3,e4,e5,e6⟩:=aVT (K:=K) d hc b3 J;have a9:(Bk.laid R ((Bk.thr R i).take t) p.place)[j]? =some p:=by rw[Bk.wF,if_neg (λz=>a8 (List.mem_of_mem_take z))];exact M
   obtain⟨a3,d1,d2,a4,d3,d4⟩:=d.get a9;obtain rfl:Y=a3:=cQI (f2.symm.trans d2);dsimp only[yW];refine⟨_,Cd,_,Cd,G,_,_,_,Cd,Cd,Cb d.lst,yR e1,?_⟩;dsimp only[yW];exact⟨_,Cd,Y,_,5,_,Cd,Cd,Cb d3,Cd,_,Cd,bk,_,5,5,Cd,Cd,O,Cd,_,_,Cd,e3,k3.trans e4,e5⟩
 ·rintro σ H3 ⟨o5,o6,rfl,d,k3,J⟩;rw[cQt,cXw]at d;have b0:i<(Bk.laid R (Bk.thr R i) p.place).length:=by rw[Bk.wQ];exact L
  have a2:=cQn b0;obtain⟨b',d1,d2,a4,d3,d4⟩:=d.get a2;obtain rfl:b=b':=cQI (g2.symm.trans d2);refine⟨_,Cd,_,Cd,b,_,4,4,Cd,Cd,d3,Cd,?_⟩;refine q _ _ _ ((u.trans ((But.of g.dom k2).trans k3)).trans (But.upd d.dom d2 d3 rfl)) (d.upd d2 a2 (λr=>{r with link:=some j}) d4) λS=> .hang I Z M hw n B h3 h4 h5
end
end Law
namespace L2
open PySem
def tbV:Option Nat->cQp
 |none=> .none
 |some T=> .ref T
structure X2(h:Heap)(e:Nat)(cls:cQp)(dx:Option Nat)(tb:Option Nat):Prop where
 obj:∃oe vs,h.get? e=some oe/\oe.cls=cls/\oe.dict=dx/\oe.data= .fields vs/\vs[1]? =some (tbV tb)
 ent:∀T,tb=some T->T≠e/\∃oT ts,h.get? T=some oT/\oT.data= .fields ts/\ts[3]? =some .none
def X2.keeps(x:X2 h e cls dx tb)(k:∀b o,(b=e\/tb=some b)->h.get? b=some o->h'.get? b=some o):X2 h' e cls dx tb:=by
 obtain⟨d,r,i,q,g,n,p⟩:=x.obj;refine⟨⟨d,r,k e d (.inl rfl) i,q,g,n,p⟩,λT a=>?_⟩;obtain⟨ne,c,l,f,m,j⟩:=x.ent T a;exact⟨ne,c,l,k T c (.inr a) f,m,j⟩
structure bYe(fs:List Nat)(e:Nat)(tb:Option Nat)(h h':Heap):Prop where
 keep:∀b o,b≠e->tb≠some b->b∉fs->h.get? b=some o->h'.get? b=some o
 slot:∀b o,b≠e->tb≠some b->h.get? b=some o->∃sl,h'.get? b=some {o with slots:=sl}
 there:∀b o,h.get? b=some o->∃o',h'.get? b=some o'
def aXl(f:Array cQp->Array cQp)(o:Obj):(o.mapFields f).dict=o.dict:=by
 obtain⟨c,d,dt,a⟩:=o;cases dt<;> rfl
section
variable {M:Model}{A:cXi}{E:cQp->cQr->Prop}{s:cQr}{base:Heap}{env:Env}{outer:List Env}{L e:Nat}{cls:cQp}{dx tb:Option Nat}
def aYI(hl:s.heap.FunFrames base (env::outer))(g:s.heap.get? e=some b)(d:b.data= .fields vs):e∉(env::outer).filterMap (·.frame):=λf=>by
 obtain⟨_,o,a,c⟩:=hl.mem f;rw[g]at a;cases a;exact c vs d
def aZM{head:cQp}{Q:Unit->cQr->Prop}(v:A.frames=some (env::outer))(hl:s.heap.FunFrames base (env::outer))(I:env.frame=some L)
  (C:s.heap.get? e=some i) (y:i.data= .fields vs) (hz:1<vs.size)
  (h:∀w T,X2 w e i.cls i.dict (some T)->s.heap.objs.size<=T->bYe ((env::outer).filterMap (·.frame)) e none s.heap w->Q () {s with heap:=w}):
  cQw M A (do let fr <- frameOf env;let place <- entryPlaceOf L p;let en <- EntryCells.newEntry head fr .none (cXI L) .none place;setField (.ref e) 1 en) (λ_ J=>cQw M A (cJz (.ref e) none) Q E J) E s:=by
 have r:=aYI hl C y
 refine cQo (wpAny_frameOf_fun v hl I λa d=>?_)
 refine cQo (wpAny_entryPlaceOf λplace K=>?_)
 unfold EntryCells.newEntry newFields
 refine cQo (cXG ?_ (K.sizeOk5 _ _ _ _ _))
 have z:a.get? e=some i:=(d.2.1 e r).trans C
 generalize m:({cls:= .type "traceback",dict:=none,data:= .fields ([head,.ref L,.none,cXI L,.none]++(if place.isEmpty then cXc 6 Value.none else place)).toArray}:Obj)=ob
 have c:ob.data= .fields ([head,.ref L,.none,cXI L,.none]++(if place.isEmpty then cXc 6 Value.none else place)).toArray:=by rw[<- m]
 have k:ob.isFreed=false:=cXO c
 have F:(a.push ob).get? e=some i:=cQu ob z
 have l:a.objs.size≠e:=cZ7 (cQC z)
 refine cZu F y hz ?_
 have d3:=cXR y (·.setIfInBounds 1 (Value.ref a.objs.size))
 have u:=cXv (cXF (·.setIfInBounds 1 (Value.ref a.objs.size))) F (cXO d3)
 have B:=(cQ2 (a.push ob) (cXF (·.setIfInBounds 1 (Value.ref a.objs.size))) (cQ6 l)).trans (cQS a k)
 have j:3<([head,.ref L,.none,cXI L,.none]++(if place.isEmpty then cXc 6 Value.none else place)).toArray.size:=by simp
 unfold cJz
 refine cQo (cJ5 u d3 (x:= .ref a.objs.size) (by simp[hz]) ?_)
 rw[if_pos (show(Value.ref a.objs.size !=Value.none)=true from by simp)]
 refine cZu B c j (h _ a.objs.size ?_ ?_ ?_)
 ·refine⟨⟨_,_,(cQ2 _ _ l).trans u,Obj.cls_mapFields _ _,aXl _ _,d3,by simp[tbV,hz]⟩,λT H=>?_⟩;cases H;refine⟨l,_,_,cXv _ B (cXO (cXR c _)),cXR c _,?_⟩;rw[Array.getElem?_setIfInBounds_self_of_lt j];rfl
 ·exact cZ5 d.1.symm
 ·have t:∀b o,b≠e->a.get? b=some o->(((a.push ob).update e (cXF (·.setIfInBounds 1 (Value.ref a.objs.size)))).update a.objs.size (cXF (·.setIfInBounds 3 ((none:Option Nat).elim Value.none λf=>cXI f)))).get? b=some o:=λb o g q=>by
   rw[cQ2 _ _ (cZ7 (cQC q)),cQ2 _ _ (cQ6 g)];exact cQu _ q
  refine⟨λb o g _ G q=>t b o g ((d.2.1 b G).trans q),λb o g _ q=>?_,λb o q=>?_⟩
  ·obtain⟨D,n⟩:=d.2.2 b o q;exact⟨D,t b _ g n⟩
  ·by_cases g:b=e
   ·subst g;exact⟨_,(cQ2 _ _ l).trans u⟩
   ·obtain⟨D,n⟩:=d.2.2 b o q;exact⟨_,t b _ g n⟩
def aVY{Q:Unit->cQr->Prop}(g:A.frames=some (env::outer))(hl:s.heap.FunFrames base (env::outer))(n:env.frame=some L)(x:X2 s.heap e cls dx tb) (h:∀i T,X2 i e cls dx (some T)->s.heap.objs.size<=T->bYe ((env::outer).filterMap (·.frame)) e tb s.heap i->Q () {s with heap:=i}): cQw M A (cJV (.ref e) env) (λ_ H=>cQw M A (cJz (.ref e) none) Q E H) E s:=by
 obtain⟨N,C,m,J,D,r,B⟩:=x.obj;subst J D;have w:=(cZR.mp B).1;unfold cJV;simp only[n];refine cQo (cJ5 m r B ?_);cases tb with
 |none=>rw[if_neg (by decide)];exact aZM g hl n m r w h
 |some T=>
  obtain⟨ne,K,G,j,k,v⟩:=x.ent T rfl;rw[if_pos (show(tbV (some T) !=Value.none)=true from by simp[tbV])];refine cQo (cJ5 j k v ?_);rw[if_neg (show ¬ ((Value.none==cXI L)=true)from by simp[cXI])];refine cQo (cZu j k (cZR.mp v).1 ?_);have f:∀b,b≠T->(s.heap.update T (cXF (·.setIfInBounds 3 Value.none))).get? b=s.heap.get? b:=λb l=>cQ2 _ _ (cQ6 l);have t:∀b o,s.heap.get? b=some o->(∀C,o.data≠ .fields C)->b≠T:=λb o q u z=>by rw[z,j]at q;cases q;exact u G k
  refine aZM (s:={s with heap:=s.heap.update T (cXF (·.setIfInBounds 3 Value.none)) }) g (hl.of_keeps λb o q u=>⟨o,(f b (t b o q u)).trans q,rfl⟩) n ((f e (cQ6 ne)).trans m) r w λi I y F p=>h i I y ?_ ⟨λb o a c d q=>?_,λb o a c q=>?_,λb o q=>?_⟩
  ·rw[<- Heap.size_after_update s.heap T (cXF (·.setIfInBounds 3 Value.none))];exact F
  ·exact p.keep b o a (by simp) d ((f b λz=>c (by rw[z])).trans q)
  ·exact p.slot b o a (by simp) ((f b λz=>c (by rw[z])).trans q)
  ·by_cases l:b=T
   ·subst l;exact p.there _ _ (cXv _ j (cXO (cXR k _)))
   ·exact p.there b o ((f b l).trans q)
def aYy{Q:Unit->cQr->Prop}(a:A.frames=some (env::outer))(hl:s.heap.FunFrames base (env::outer))(c:env.frame=some L)(x:X2 s.heap e cls dx tb) (h:∀b T,X2 b e cls dx (some T)->s.heap.objs.size<=T->bYe ((env::outer).filterMap (·.frame)) e tb s.heap b->Q () {s with heap:=b}):cQw M A (leaving env (.ref e)) Q E s:=by
 unfold leaving;exact cQo (aVY a hl c x h)
def bXJ{Q:Unit->cQr->Prop}(x:X2 s.heap e cls dx (some T)) (h:∀d,X2 d e cls dx (some T)->(∀b o,b≠T->s.heap.get? b=some o->d.get? b=some o)->(∀b o,s.heap.get? b=some o->∃n,d.get? b=some n)->Q () {s with heap:=d}):cQw M A (cJz (.ref e) none) Q E s:=by
 obtain⟨u,w,i,v,p,j,m⟩:=x.obj;obtain⟨ne,y,z,g,f,t⟩:=x.ent T rfl;have k:=(cZR.mp t).1;have l:=cXv (cXF (·.setIfInBounds 3 Value.none)) g (cXO (cXR f _));have a:∀b,b≠T->(s.heap.update T (cXF (·.setIfInBounds 3 Value.none))).get? b=s.heap.get? b:=λb c=>cQ2 _ _ (cQ6 c);refine wpAny_setFlight_none i j m g f k (h _ ⟨⟨u,w,(a e (cQ6 ne)).trans i,v,p,j,m⟩,λB r=>?_⟩ (λb o c q=>(a b c).trans q) λb o q=>?_)
 ·cases r;exact⟨ne,_,_,l,cXR f _,by simp[k]⟩
 ·by_cases c:b=T
  ·subst c;exact⟨_,l⟩
  ·exact⟨o,(a b c).trans q⟩
end
end L2
set_option tactic.hygienic true
namespace L2
open PySem PySem.W PySem.Calls PyProof.Rows Builtin Builtin.ObjectAttr
def qA:List cQp:= [.type BZ,.type Ao,.type "object"]
def aJR:List cQp->Bool
 |.ref _::r=>aJR r
 |l=>l==qA
def aKM:∀l:List cQp,aJR l=true->∃a:List Nat,l=a.map Value.ref++qA:=by
 intro l;induction l with
 |nil=>intro e;cases e
 |cons v r b=>
  intro e;cases v with
  |ref c=>obtain⟨a,h⟩:=b e;exact⟨c::a,by rw[h];rfl⟩
  |_=>exact⟨[],beq_iff_eq.mp e⟩
def aXd(self:cQp):∀rs:List Nat,refuseLoop self B0 (rs.map Value.ref++qA)=pure ()
 |[]=>PySem.F.store_Exception.passes self
 |c::rs=>by rw[cXa,cJ7,refuseLoop_ref];exact aXd self rs
def aWs(h:qA.contains (.type T)=b):∀rs:List Nat,(rs.map Value.ref++qA).contains (.type T)=b
 |[]=>h
 |c::rs=>by rw[cXa,cJ7,cZM,aWs h rs];rfl
def bXx(K:Frag)(C:Nat):Bool:=match K.lookup C with
 |some ⟨_,_,.cls cd,sl⟩=> !cd.hasDel && cd.hasDict && (sl.toList[4]?).join==some (.builtin "Exception.__new__") && aJR cd.mro && cd.mro.contains (.ref C) &&
   specialIn K (.ref C) "__call__"==some (some (.builtin "type.__call__")) && instIn K (.ref C) (.type CD)==some true && typeIn K (.ref C)==some (.type CD) &&
   findIn K (.ref C) B0==some (some (.builtin "object.__setattr__")) && findIn K (.ref C) Ae==some (some (.builtin "BaseException.__getattribute__")) &&
   findIn K (.ref C) "__getattr__"==some none && findIn K (.ref C) AF==some none
 |_=>false
structure uC(K:Frag)(C:Nat):Prop where
 cls:∃oc od cd sl,K.lookup C=some ⟨oc,od,.cls cd,sl⟩/\cd.hasDel=false/\cd.hasDict=true/\(sl.toList[4]?).join=some (.builtin "Exception.__new__")/\(∃rs:List Nat,cd.mro=rs.map Value.ref++qA)/\cd.mro.contains (.ref C)=true
 call:specialIn K (.ref C) "__call__"=some (some (.builtin "type.__call__"))
 typ:instIn K (.ref C) (.type CD)=some true
 ty:typeIn K (.ref C)=some (.type CD)
 sa:findIn K (.ref C) B0=some (some (.builtin "object.__setattr__"))
 ga:findIn K (.ref C) Ae=some (some (.builtin "BaseException.__getattribute__"))
 gh:findIn K (.ref C) "__getattr__"=some none
 wd:findIn K (.ref C) AF=some none
def aYf{K:Frag}{C:Nat}(e:bXx K C=true):uC K C:=by
 unfold bXx at e;split at e
 ·rename_i h o i j q;simp only[Bool.and_eq_true,Bool.not_eq_true',beq_iff_eq]at e;obtain⟨⟨⟨⟨⟨⟨⟨⟨⟨⟨⟨f,n⟩,k⟩,p⟩,l⟩,d⟩,g⟩,m⟩,r⟩,a⟩,c⟩,b⟩:=e;exact⟨⟨h,o,i,j,q,f,n,k,aKM _ p,l⟩,d,g,m,r,a,c,b⟩
 ·cases e
abbrev wU(C t:Nat)(dx:Option Nat):Obj:={cls:= .ref C,dict:=dx,data:= .fields #[.ref t,.none,.none,.none,.bool false,.none] }
abbrev Q4:Obj:={cls:= .type AD,data:= .seq #[] }
section
variable {M:Model}{K:Frag}{C:Nat}{h:Heap}
def uC.sub(X:K.In h)(c:uC K C)(a:qA.contains (.type T)=b):Looks M h (cJx (.ref C) (.type T)) b:=by
 obtain⟨p,j,d,i,f,o,n,k,⟨l,e⟩,m⟩:=c.cls;have g:clsIn K C=some d:=by unfold clsIn;rw[f]
 refine looks_mroIn X ?_;unfold mroIn;rw[g,Option.bind_some,e,if_neg (by simp[qA]),aWs a]
def uC.self(X:K.In h)(c:uC K C):Looks M h (cJx (.ref C) (.ref C)) true:=by
 obtain⟨n,i,a,g,d,m,l,j,⟨k,b⟩,e⟩:=c.cls;have f:clsIn K C=some a:=by unfold clsIn;rw[d]
 refine looks_mroIn X ?_;unfold mroIn;rw[f,Option.bind_some,if_neg (by rw[b];simp[qA]),e]
def uC.made(X:K.In h)(c:uC K C):Looks M h (Bind.madeBy (.ref C)) (some "Exception.__new__"):=by
 obtain⟨j,o,a,m,d,i,n,f,⟨r,p⟩,b⟩:=c.cls;have g:clsIn K C=some a:=by unfold clsIn;rw[d]
 have e:Looks M h (mroOf (.ref C)) a.mro:=(looks_clsIn X g).andThen .now;obtain⟨v,l,hl⟩:∃v l,a.mro=v::l:=by
  cases q:a.mro with
  |nil=>rw[q]at b;cases b
  |cons v l=>exact⟨v,l,rfl⟩
 intro A Q E s k q;unfold Bind.madeBy;refine cQo (e A _ E s k ?_);rw[hl,cVg];refine cQo (cQo (cQo (cQo (wpAny_loadPart (k _ _ (X _ _ d)) (cQs ?_)))));dsimp only;rw[<- cXZ,f];exact cQs (cQs (cQs q))
def uC.base(X:K.In h)(c:uC K C):Looks M h (Bind.staticBase (.ref C)) (.ref C):=by
 have made:=c.made (M:=M) X;obtain⟨i,o,a,j,f,g,n,m,⟨r,p⟩,b⟩:=c.cls;have e:clsIn K C=some a:=by unfold clsIn;rw[f]
 have d:Looks M h (mroOf (.ref C)) a.mro:=(looks_clsIn X e).andThen .now;obtain⟨v,l,hl⟩:∃v l,a.mro=v::l:=by
  cases q:a.mro with
  |nil=>rw[q]at b;cases b
  |cons v l=>exact⟨v,l,rfl⟩
 intro A Q E s k q;unfold Bind.staticBase;refine cQo (d A _ E s k ?_);rw[hl,cVg];exact cQo (cQo (cQo (made A _ E s k (cQs (cQs (cQs q))))))
def uC.here(X:K.In h)(c:uC K C):Looks M h (Bind.madeHere "BaseException.__new__" (.ref C)) ():=
 (c.base X).andThen ((c.made X).andThen (Looks.of_pure (by simp only[Option.map_some,cVU.canon,bne_self_eq_false,Bool.false_eq_true,if_false])))
end
section
variable {prog:cQO}{w:cQ1}{A:cXi}{R:Result->cQr->Prop}{K:Frag}{C f:Nat}{h:Heap}{g:Array GenState}{d:Drawn}{t:Nat}{os:OsState}
def bJ6(X:K.In h)(c:uC K C)(k:R (.ok (.ret (.ref (h.objs.size+1)))) ⟨(h.push Q4).push (wU C h.objs.size none),g,d,t,os⟩): cZC (cQx prog w) A (.call (.builtin "Exception.__new__") ⟨[.ref C],[]⟩) R ⟨h,g,d,t,os⟩:=by
 have F:=cVU;have made:=c.made (M:=cQx prog w) X;have m:=c.base (M:=cQx prog w) X;have here:=c.here (M:=cQx prog w) X;have z:Looks (cQx prog w) h (cJx (.ref C) (.type BZ)) true:=c.sub X dk;have q:Looks (cQx prog w) h (cJx (.ref C) (.type "AttributeError")) false:=c.sub X dk;have v:Looks (cQx prog w) h (cJx (.ref C) (.type "NameError")) false:=c.sub X dk;obtain⟨f,l,i,j,o,e,u,r,⟨y,x⟩,s⟩:=c.cls;have n:h.get? C=some ⟨f,l,.cls i,j⟩:=X _ _ o;refine codeAny_call_builtin_code (cVA _ F.quiet) ?_;simp only[checkBuiltinCall,F.newKind,F.newSplit,F.newRow];have args:Bind.checkArgs "Exception.__new__" ⟨.any,BZ,BZ,.cls,[⟨"args",.varPos,false⟩,⟨"kwargs",.varKw,false⟩]⟩ ⟨[.ref C],[]⟩=pure ():=by kernel_rfl
 rw[args];repeat (first|simp only[bne_self_eq_false,Bool.false_eq_true,if_false]|lk)
 have a:=F.ends;refine codeAny_builtinAt F.entry ?_;unfold cZf.«BaseException.__new__»;refine PySem.wpAt_bind ?_;show PySem.wpAt _ _ _ (stack >>=_) _ _ _;refine PySem.wpAt_bind (PySem.wpAt_stack λp b=>PySem.wpAt_of_wpAny ?_);wp_walk;refine PySem.wpAt_of_wpAny ?_;rw[F.owner];repeat (first|simp only[Bool.not_true,Bool.false_eq_true,if_false]|lk)
 refine nd_load (cQu _ (cQu _ n)) (cQs ?_);dsimp only;refine cQs ?_;rw[e];refine cQs (cQs ?_);show R _ _;rw[cX0];exact k
def bXy(X:K.In h)(c:uC K C)(m:findIn K (.ref C) AE=some (some (.ref f)))(s:typeIn K (.ref f)=some (.type "function")) (u:cZC (cQx prog w) (A.under (.builtin "type.__call__" ⟨[.ref C],[]⟩)) (.call (.ref f) ⟨[.ref (h.objs.size+1)],[]⟩) (InitBack (h.objs.size+1) R) ⟨(h.push Q4).push (wU C h.objs.size none),g,d,t,os⟩): cZC (cQx prog w) A (.call (.ref C) ⟨[],[]⟩) R ⟨h,g,d,t,os⟩:=by
 obtain⟨p,x,i,q,B,E,I,G,⟨P,y⟩,H⟩:=c.cls;have l:h.get? C=some ⟨p,x,.cls i,q⟩:=X _ _ B;have call:=looks_specialIn (M:=cQx prog w) X c.call;have j:=looks_instIn (M:=cQx prog w) X c.typ;have made:=c.made (M:=cQx prog w) X;have D:i.mro.isEmpty=false:=by rw[y];simp[qA]
 refine codeAny_of_tree ?_;show cQw _ _ (callAny (.ref C) _) _ _ _;refine nd_load l ?_;show cQw _ _ (callAny.viaDunder (.ref C) _) _ _ _;unfold callAny.viaDunder;refine cQo (call.at ?_);dsimp only;rw[tc_bind];refine cQo (cQs (cQo (cQs ?_)));refine cQs (a:=Fin.again (.call (.builtin "type.__call__") ⟨[.ref C],[]⟩)) (And.intro rfl ?_);refine codeAny_call_builtin_at (cVA _ dk) entry_typeCall (check_slot tc_kind tc_split j (tc_args _ _ _) ?_);unfold cZf.«type.__call__»;have F:Looks (cQx prog w) h (mroOf (.ref C)) i.mro:=((Looks.ld (part:=none) l).andThen .now).andThen .now;repeat (first|simp only[D,Bool.false_eq_true,if_false]|with_reducible refine cJE ?_|lk)
 refine bJ6 X c ?_;have k:∀b o,h.get? b=some o->((h.push Q4).push (wU C h.objs.size none)).get? b=some o:=λb o e=>cQu _ (cQu _ e);have n:((h.push Q4).push (wU C h.objs.size none)).get? (h.objs.size+1)=some (wU C h.objs.size none):=by heap_get
 have J:Looks (cQx prog w) ((h.push Q4).push (wU C h.objs.size none)) (typeOf (.ref (h.objs.size+1))) (.ref C):=(Looks.ld n).andThen .now;have L:=(c.self (M:=cQx prog w) X).keeps k;have O:=(looks_findIn (M:=cQx prog w) X m).keeps k;have b1:=(bind_fn (M:=cQx prog w) X (.ref (h.objs.size+1)) s).keeps k;unfold cVl callSpecial? specialOf;repeat (first|with_reducible refine cJE ?_|lk)
 refine cZj u λr N z=>?_;rcases r with e|(v|_|_|_)<;> first|exact z|exact z.elim|skip
 obtain⟨rfl,z⟩:=z;exact cQs (cQs z)
end
section
variable {prog:cQO}{w:cQ1}{A:cXi}{E:cQp->cQr->Prop}{K:Frag}{C e tp:Nat}{s:cQr}{v:cQp}
def bJ7{Q:Unit->cQr->Prop}(X:K.In s.heap)(c:uC K C)(k:s.heap.get? e=some (wU C tp none)) (J:∀d tk,d.get? e=some (wU C tp (some s.heap.objs.size))->d.Ns1 s.heap.objs.size (λy=>if y=AF then some v else none)->(∀b o,b≠e->s.heap.get? b=some o->d.get? b=some o)->Q () {s with heap:=d,toks:=tk}): cQw (cQx prog w) A (setAttr (.ref e) AF v) Q E s:=by
 have I:InstAt s.heap e (wU C tp none) C none:=⟨k,Cd,Cd,cXN⟩;refine set_plain X I c.sa ?_;have f:=PySem.F.store_object;obtain⟨S,W,u,T,O,P,H,U,⟨Y,N⟩,V⟩:=c.cls;have z:clsIn K C=some u:=by unfold clsIn;rw[O]
 have sub:Looks (cQx prog w) s.heap (cVl (.ref e) (.type "object")) true:=I.type.andThen (c.sub X dk);have D:Looks (cQx prog w) s.heap (mroOf (.ref C)) u.mro:=(looks_clsIn X z).andThen .now;refine cVk f.slot.plain f.entry (@check_slot (cQx prog w) _ _ {s with toks:=s.toks+1} "object.__setattr__" "object" B0 (.ref e) [.str AF s.toks,v] [] _ f.kind f.split sub (f.args (.ref e) (.str AF s.toks) v) ?_);rw[osa_eq,refuse_eq];have j:∀ (b:Nat)(o:Obj),s.heap.get? b=some o->s.heap.get? b=some o:=λ_ _ e=>e;refine cQo (cQo (I.type _ _ _ _ j (cQo (D _ _ _ _ j ?_))));rw[N,aXd];refine cQs (cQo (I.type _ _ _ _ j (cQo ((looks_findIn X c.wd) _ _ _ _ j (cQo (cQs ?_))))));have h:e≠s.heap.objs.size:=cQP (cQC k);have i:(s.heap.push emptyDict).get? e=some (wU C tp none):=cQu _ k;refine cQo (cQs (cQo (cQo (wpAny_loadPart k (cQo ((looks_clsIn X z) _ _ _ _ j ?_))))));rw[H];refine cQo (wpAny_alloc ?_);refine cQo (wpAny_update i ?_);refine cQs (a:=some s.heap.objs.size) ?_;show cQw _ _ (storeInDict s.heap.objs.size (.str AF s.toks) AF v) _ _ _;have m:((s.heap.push emptyDict).update e λo=>{o with dict:=some s.heap.objs.size}).get? s.heap.objs.size=some emptyDict:=(cVq _ _ _ _ h.symm).trans (Heap.get?_push_at rfl rfl);have n:((s.heap.push emptyDict).update e λo=>{o with dict:=some s.heap.objs.size}).Ns s.heap.objs.size (λ_=>none):=⟨_, #[],_,m,Cd,λe G=>absurd G (by simp),λ_=>rfl⟩;have p:=cXv (λo=>{o with dict:=some s.heap.objs.size}) i rfl;unfold storeInDict newKeyGuard;refine cQo (cQs (cQo (wpAny_nsSet1 (Heap.Ns1.of_empty n) λd g x=>?_)));obtain⟨R,L,B,t,r,l⟩:=g.count (Within.cons AF v Within.nil);refine cQo (wpAny_lookBehind t (by rw[r];exact pastItsLine_dict (cQZ l (by rw[cXp,cZw,cQQ];omega))) ?_);refine cQs ?_;refine J d _ ((x.2 e h).trans p) g λb o M q=>?_;exact(x.2 b (cQP (cQC q))).trans ((cVq _ _ _ _ M).trans (cQu _ q))
def bga:Slot BZ Ae "BaseException.__getattribute__":=
 .of (owner:=Ao) (n:=Ae) (by rw[typeLookup_type,cVd];kernel_rfl) dk dk dk (by first|exact .inl dk|exact .inr dk) (by rw[isSubtype_type];kernel_rfl)
def bJ5{Q:cQp->cQr->Prop}(X:K.In s.heap)(c:uC K C)(j:s.heap.get? e=some b)(n:b.cls= .ref C)(x:b.dict=some dx)(r:notCls b=true)(t:s.heap.get? dx=some d) (hl:lookIn AF d=some (some v)) (u:handedIn v=true) (o:Q v {s with toks:=s.toks+1}):cQw (cQx prog w) A (getAttr (.ref e) AF a) Q E s:=by
 have I:InstAt s.heap e b C (some d):=⟨j,n,r,by rw[x];exact t⟩;obtain⟨z,p,k,B,g,y,m,D,⟨J,H⟩,G⟩:=c.cls;have f:clsIn K C=some k:=by unfold clsIn;rw[g]
 have l:findObj K C (some d) AF=some (.value v):=by unfold findObj;rw[f,Option.bind_some,c.wd];simp only[Option.bind_some];unfold W.ownOf;rw[m,if_pos rfl];dsimp only;rw[hl];rfl
 have h:=I.type (M:=cQx prog w);have i:=looks_find (M:=cQx prog w) X I l;have sub:Looks (cQx prog w) s.heap (cVl (.ref e) (.type Ao)) true:=I.type.andThen (c.sub X dk);refine cQo (wpAny_mkText (cXK (cQo (h _ _ _ _ (λ_ _ e=>e) (cQo (looks_findIn X c.ga _ _ _ _ (λ_ _ e=>e) ?_))))));dsimp only;rw[show(onTheHeap (Value.ref C) && Value.builtin "BaseException.__getattribute__"==Value.builtin "object.__getattribute__")=false from by rw[show(Value.builtin "BaseException.__getattribute__"==Value.builtin "object.__getattribute__")=false from dk,Bool.and_false],if_neg (by decide)];have q:Looks (cQx prog w) s.heap (hookBefore (.ref C)) none:=looks_hook (mc:= .ref C) X (by rw[if_pos (show onTheHeap (Value.ref C)=true from rfl)];exact c.gh);refine cQo (q _ _ _ _ (λ_ _ e=>e) (cQo (cJJ (cXK ?_))));unfold callGetattribute;rw[show(a && onTheHeap (Value.builtin "BaseException.__getattribute__"))=false from Bool.and_false _,if_neg (by decide)];unfold boundAndCalled;rw[bga.bind];refine cQo (cQs ?_);show cQw _ _ (call (.builtin "BaseException.__getattribute__") [.ref e,.str AF s.toks]) _ _ _;refine cJE (cVk bga.plain F.entry_bexc_ga ?_);refine @check_slot (cQx prog w) _ _ {s with toks:=s.toks+1} "BaseException.__getattribute__" Ao Ae (.ref e) [.str AF s.toks] [] _ dk dk sub (F.args_bexc_ga (.ref e) (.str AF s.toks)) ?_;unfold cZf.«object.__getattribute__»;refine cQo (cQs (cQo (cQs ?_)));refine cQo (h _ _ _ _ (λ_ _ e=>e) (cQo (i _ _ _ _ (λ_ _ e=>e) (cQs ?_))));show cQw _ _ (handedOut v) _ _ _;rw[handedOut_of u];exact cQs o
def aYg{Q:Bool->cQr->Prop}(X:K.In s.heap)(c:uC K C)(b:uC K Rf)(l:mroIn K C (.ref Rf)=some true)(f:s.heap.get? e=some h)(m:h.cls= .ref C)(n:Q true s): cQw M A (excMatches (.ref e) (.ref Rf)) Q E s:=by
 obtain⟨a,g,d,t,os⟩:=s;dsimp only at X f;have x:Looks M a (typeOf (.ref e)) (.ref C):=m ▸ (Looks.ld f).andThen .now;have D:Looks M a (cJx (.ref C) (.ref Rf)) true:=looks_mroIn X l;have u:Looks M a (cVl (.ref Rf) (.type AD)) false:=(looks_typeIn X b.ty).andThen (Looks.of_pure tc_notTuple);have F:Looks M a (cJx (.ref Rf) (.type Ao)) true:=b.sub X dk;have q:Looks M a (typeOf (.ref Rf)) (.type CD):=looks_typeIn X b.ty;have z:Looks M a (cJx (.type CD) (.type CD)) true:=Looks.of_pure tc_sub;obtain⟨i,o,j,k,p,r,y,v,⟨H,G⟩,w⟩:=b.cls;have B:a.get? Rf=some ⟨i,o,.cls j,k⟩:=X _ _ p;unfold excMatches isExcClass;repeat (first|simp only[Bool.not_true,Bool.false_eq_true,if_false,if_true]|lk)
 exact n
def aYh{Q:Flow->cQr->Prop}(l:A.handled=none) (h:cQw M A x (λv a=>∃e tp i C,v= .ref e/\K.In a.heap/\uC K C/\a.heap.get? e=some (wU C tp i)/\E (.ref e) a) E s):cQw M A (raiseStmt env (some x) none) Q E s:=by
 unfold raiseStmt;refine cQo (cXs h (λv a j=>?_) λ_ _ x=>x);obtain⟨e,tp,i,C,rfl,X,c,f,k⟩:=j;obtain⟨b,g,d,tk,os⟩:=a;dsimp only at X f;have n:Looks M b (typeOf (.ref e)) (.ref C):=(Looks.ld f).andThen .now;have o:Looks M b (cJx (.ref C) (.type Ao)) true:=c.sub X dk;have m:Looks M b (typeOf (.ref C)) (.type CD):=looks_typeIn X c.ty;unfold excFromValue isExcClass cVl;repeat (first|simp only[Bool.false_eq_true,if_false,if_true]|lk)
 show cQw M A handled _ _ _;refine wpAny_handled ?_;rw[l];exact wpAny_throw k
end
end L2
set_option tactic.hygienic false
namespace L2
open PySem PySem.Spec PyProof.Rows
def CXR(P:cQO)(w:cQ1):CXT:=λouter H s E d b=>∃ (e C c tb:Nat)(a:Hp),d= .ref e/\b.os=s.os/\AllBare b.gens/\Un (frs outer) [] H a s.heap b.heap/\HOk P w a b.heap/\
 X2 b.heap e (.ref C) (some c) (some tb)/\a e=none/\a tb=none/\s.heap.objs.size<=e/\s.heap.objs.size<=tb/\E (.ref C) (some c) a
section
variable {P:cQO}{w:cQ1}{K:cQq}{mg:Str->Option cQp}{base:Heap}{N:List Str}{qual:Str}{scope:Scope}{f:Nat}{cd:cQp}{A:cXi}{outer:List Env}{s₀:cQr}{H₀:Hp}{E:XK}
 {pins:List (Nat×Obj)} {σ:St} {H:Hp} {s:cQr}
def bKZ(I:Inv (aXT (CXR P w) P w K mg base N qual scope f cd A outer s₀ H₀ E) pins σ H s)(x:X2 s.heap e (.ref C) (some dx) tb)(m:H e=none)(B:s₀.heap.objs.size<=e) (D:∀T,tb=some T->H T=none/\s₀.heap.objs.size<=T) (q:E (.ref C) (some dx) H):(aXT (CXR P w) P w K mg base N qual scope f cd A outer s₀ H₀ E).xe (.ref e) s:=by
 have ne:∀b o,s₀.heap.get? b=some o->b≠e:=λb o a=>cQP (cQR (cQC a) B);have l:∀b o,s₀.heap.get? b=some o->tb≠some b:=λb o a z=>absurd (cQR (cQC a) (D b z).2) (cXD _);have J:∀b,b∈(cZm qual scope s₀.heap.objs.size f cd::outer).filterMap (·.frame)->b=s₀.heap.objs.size\/b∈frs outer:=λb d=>by rw[cJc,show(cZm qual scope s₀.heap.objs.size f cd).frame=some s₀.heap.objs.size from rfl]at d;exact cQz.mp d
 have j:∀b o,s₀.heap.get? b=some o->b∉frs outer->b∉(cZm qual scope s₀.heap.objs.size f cd::outer).filterMap (·.frame):=λb o a d z=>
  (J b z).elim (cQP (cQC a)) d
 show cQw (cQx P w) (A.deeper (cZm qual scope s₀.heap.objs.size f cd)) (leaving (cZm qual scope s₀.heap.objs.size f cd) (.ref e)) _ _ s;refine aYy (base:=base) (outer:=outer) (L:=s₀.heap.objs.size) I.ok.frames I.stack rfl x λQ T y t p=>?_;refine⟨e,C,dx,T,H,Cd,I.os,I.bare,?_,?_,y,m,I.hok.fresh t,B,cQZ I.sz t,q⟩
 ·refine⟨λb o a n d g=>?_,λb o a n d g=>?_,λb o a n g=>I.base.free b o a n g,λb o a g=>?_,I.base.tups,I.base.frzs,I.base.tbls⟩
  ·exact p.keep b o (ne b o a) (l b o a) (j b o a d) (I.base.keep b o a n d g)
  ·obtain⟨O,i⟩:=I.base.slot b o a n d g;obtain⟨k,G⟩:=p.slot b _ (ne b o a) (l b o a) i;exact⟨k,G⟩
  ·obtain⟨F,i⟩:=I.base.there b o a g;exact p.there b F i
 ·refine λb u a=>(I.hok b u a).stay (λc v M r=>?_) (λ_ r=>r) λ_ _ r=>r;have h:H c≠none:=by
   rcases M with z|z
   ·rw[z,a];simp
   ·rw[z];simp
  refine p.keep c v (λz=>h (by rw[z];exact m)) (λz=>h (D c z).1) (λz=>h (I.stkFree c z)) r
def wB:vU (CXR P w) (aXT (CXR P w) P w K mg base N qual scope f cd A outer s₀ H₀ E) E:=by
 intro c σ H s q n I h;obtain⟨e,C,r,tb,k,rfl,l,a,un,i,x,j,p,g,d,o⟩:=h;have m:Inv (aXT (CXR P w) P w K mg base N qual scope f cd A outer s₀ H₀ E) c σ k n:=I.call' l un i a λb z=>absurd z (by simp);exact bKZ m x j (cQZ I.sz g) (λT z=>by cases z;exact⟨p,cQZ I.sz d⟩) o
def Fun.okX{x:Str}{st:Stmt}{e:cZn}{ps:List Str}{k:Nat}{sp:Sp}(F:Fun K x qual st f e)(S:yN N ps (yH st)) (b:∀ (a:cQp)(A:cXi)(outer:List Env)(s:cQr)(H:Hp)(vs:List V)(Q:VK)(E:XK),v0 k (A.deeper (cZm qual (yH st) s.heap.objs.size f a))->sp vs H Q E-> ∃t,PSs (aXT (CXR P w) P w K mg base N qual (yH st) f a A outer s H E) (xS st) t/\t {nx:=λ_ g=>Q .non g,rt:=Q} (start N vs) H) (len:∀vs H Q E,sp vs H Q E->vs.length=ps.length:=by intro _ _ _ _ h;first|(cases h;subst_vars;exact rfl)|repeat (first|(obtain⟨rfl,_⟩:=h;exact rfl)|(obtain⟨_,h⟩:=h))):xH P w K mg base (CXR P w) (k+1) f e ps sp:=by
 obtain⟨m,o,kV,j,n,p,a,ct,l,rfl,lk,c⟩:=F.ex;exact bJ9 lk c S len λA outer s H vs Q E i d=>b a A outer s H vs Q E i d
end
structure FnX(P:cQO)(w:cQ1)(K:cQq)(mg:Str->Option cQp)(base:Heap)(k:Nat)(x:Str)(ps:List Str)(sp:Sp):Prop where
 ex:∃f fd,xH P w K mg base (CXR P w) k f fd ps sp/\uB K fd ps []/\cXm K (.ref f)=true/\mg x=some (.ref f)
def FnX.mono{P:cQO}{w:cQ1}{K:cQq}{mg:Str->Option cQp}{base:Heap}{j k:Nat}{x:Str}{ps:List Str}{sp:Sp}(G:FnX P w K mg base j x ps sp)(h:j<=k):FnX P w K mg base k x ps sp:=
 let ⟨f,fd,a,b⟩:=G.ex;⟨f,fd,a.mono h,b⟩
structure MG(P:cQO)(w:cQ1)(K:cQq)(mg:Str->Option cQp)(base:Heap)(CX:CXT)(k:Nat)(C:Nat)(m:Str)(ps:List Str)(sp:Sp):Prop where
 ex:∃f fd,xH P w K mg base CX k f fd ps sp/\uB K fd ps []/\bWC K C m f
 cl:Cls K C
def MG.mono{P:cQO}{w:cQ1}{K:cQq}{mg:Str->Option cQp}{base:Heap}{CX:CXT}{j k:Nat}{C:Nat}{m:Str}{ps:List Str}{sp:Sp}(G:MG P w K mg base CX j C m ps sp)(h:j<=k):MG P w K mg base CX k C m ps sp:=
 let ⟨f,fd,a,b⟩:=G.ex;⟨⟨f,fd,a.mono h,b⟩,G.cl⟩
structure MkG(P:cQO)(w:cQ1)(K:cQq)(mg:Str->Option cQp)(base:Heap)(k:Nat)(x:Str)(C:Nat)(ps:List Str)(sp:Sp):Prop where
 ex:∃f fd,xH P w K mg base CX0 k f fd ps sp/\uB K fd ps []/\Mk K C f/\mg x=some (.ref C)
def MkG.mono{P:cQO}{w:cQ1}{K:cQq}{mg:Str->Option cQp}{base:Heap}{j k:Nat}{x:Str}{C:Nat}{ps:List Str}{sp:Sp}(G:MkG P w K mg base j x C ps sp)(h:j<=k):MkG P w K mg base k x C ps sp:=
 let ⟨f,fd,a,b⟩:=G.ex;⟨f,fd,a.mono h,b⟩
section
variable {X:Cx}{k:Nat}{x m:Str}{C:Nat}{ps:List Str}{sp:Sp}{e o:Expr}{es:List Expr}{ta:TE}{t:TA}{p pos apos:Pos}{E:XK}{CX:CXT}
def aQM{P:cQO}{w:cQ1}{K:cQq}{mg:Str->Option cQp}{base:Heap}{N:List Str}{qual:Str}{scope:Scope}{f:Nat}{cd:cQp}{A:cXi}{outer:List Env}{s₀:cQr}{H₀:Hp}
  (G:FnX P w K mg base k x ps sp) (l:v0 k (A.deeper (cZm qual scope s₀.heap.objs.size f cd))) (h:Gl (aXT (CXR P w) P w K mg base N qual scope f cd A outer s₀ H₀ E) x) (m:PA (aXT (CXR P w) P w K mg base N qual scope f cd A outer s₀ H₀ E) (e::es) t)
  (c:(x==(AO:Str))=false:=by decide) (j:cQ5 (e::es) (cZm qual scope s₀.heap.objs.size f cd)=(false,eval e (cZm qual scope s₀.heap.objs.size f cd))::cQ5 es (cZm qual scope s₀.heap.objs.size f cd):=by rfl)
  (a:(cX6 pos (cQ5 es (cZm qual scope s₀.heap.objs.size f cd))).any (·.1)=false:=by rfl):
  PE (aXT (CXR P w) P w K mg base N qual scope f cd A outer s₀ H₀ E) (.Call (.Name x p) (e::es) [] pos) (bZ3 sp [] E t):=by
 obtain⟨g,n,F,b,i,d⟩:=G.ex
 exact aY6 F l h d i b .nil wB m c j a
def v9(G:MG X.prog X.w X.K X.mg X.base CX k C m ps sp)(n:v0 k X.A)(j:vU CX X E)(h:PE X o ta)(d:PA X (e::es) t)
  (a:cQ5 (e::es) X.env=(false,eval e X.env)::cQ5 es X.env:=by rfl) (c:(cX6 pos (cQ5 es X.env)).any (·.1)=false:=by rfl)
  (i:eval (.Call (.Attribute o m apos) (e::es) [] pos) X.env=(do
   let ov <- eval o X.env
   standAt apos.atName
   let (f,first) <- cJM [ov] (cJU ov m pl)
   callWith pos f first (cX6 pos (cQ5 (e::es) X.env)) (cJD pos (cZK [] X.env))):=by rfl):
  PE X (.Call (.Attribute o m apos) (e::es) [] pos) (bZ6 C m sp [] E ta t):=by
 obtain⟨g,p,F,b,l⟩:=G.ex
 exact bVM h G.cl l F n b .nil j d a c i
def bZo(G:MG X.prog X.w X.K X.mg X.base CX k C m ps sp)(h:v0 k X.A)(d:vU CX X E)(a:PE X o ta)
  (c:eval (.Call (.Attribute o m apos) [] [] pos) X.env=(do
   let ov <- eval o X.env
   standAt apos.atName
   let (f,first) <- cJM [ov] (cJU ov m pl)
   callWith pos f first (cX6 pos (cQ5 [] X.env)) (cJD pos (cZK [] X.env))):=by rfl):
  PE X (.Call (.Attribute o m apos) [] [] pos) (bZ6 C m sp [] E ta bZ7):=by
 obtain⟨g,i,F,b,e⟩:=G.ex
 exact bZq a G.cl e F h b .nil d c
def bYq(G:MkG X.prog X.w X.K X.mg X.base k x C ps sp)(l:v0 (k+1) X.A)(j:Gl X x)(d:PA X (e::es) t)(c:(x==(AO:Str))=false:=by decide)
  (f:cQ5 (e::es) X.env=(false,eval e X.env)::cQ5 es X.env:=by rfl) (a:(cX6 pos (cQ5 es X.env)).any (·.1)=false:=by rfl):PE X (.Call (.Name x p) (e::es) [] pos) (bZ5 C sp [] E0 t):=by
 obtain⟨g,m,F,b,i,h⟩:=G.ex
 exact bVL i F l j h b .nil v7 d c f a
def bKk(G:MkG X.prog X.w X.K X.mg X.base k x C ps sp)(f:v0 (k+1) X.A)(e:Gl X x)(a:(x==(AO:Str))=false:=by decide):PE X (.Call (.Name x p) [] [] pos) (bZ5 C sp [] E0 bZ7):=by
 obtain⟨g,h,F,b,d,c⟩:=G.ex;exact bZp d F f e c b .nil v7 a
end
end L2
namespace L2
open PySem PySem.Spec PyProof.Rows
def qF(e C tp:Nat)(dx:Option Nat):HO:= .ext λh=>h.get? e=some (wU C tp dx)
def aVP{e C tp:Nat}(b:h.get? e=some (wU C tp dx)):zJ P w H h e (qF e C tp dx):=⟨b,⟨_,b⟩,λc d a k=>k _ a⟩
def aVO{e C tp:Nat}(ok:HOk P w H h)(a:H e=some (qF e C tp dx)):h.get? e=some (wU C tp dx):=(ok e _ a).1
section
variable {X:Cx}{pins:List (Nat×Obj)}{σ:St}{H:Hp}{s:cQr}
def Inv.forget{φ:Heap->Prop}(I:Inv X pins σ H s)(i:H e=some (.ext φ)):Inv X pins σ (λb=>if b=e then none else H b) s:=by
 have ne:∀b u,H b=some u->(∀φ,u≠ .ext φ)->b≠e:=λb u q n z=>by rw[z,i]at q;cases q;exact n _ rfl
 refine⟨I.ok,I.os,I.bare,⟨I.base.keep,I.base.slot,λb o q n h=>?_,I.base.there,λb d q=>?_,λb o u q=>?_,λb ps q=>?_⟩,I.loc,I.cell,?_,λx c q=>?_,λp j=>?_,λb u q=>?_,I.len⟩
 ·show(if b=e then none else H b)=none;rw[I.base.free b o q n h];split<;> rfl
 ·have z:=I.base.tups b d q;show(if b=e then none else H b)=_;rw[if_neg (ne b _ z λ_ y=>by cases y),z]
 ·have z:=I.base.frzs b o u q;show(if b=e then none else H b)=_;rw[if_neg (ne b _ z λ_ y=>by cases y),z]
 ·obtain⟨m,z⟩:=I.base.tbls b ps q;refine⟨m,?_⟩;show(if b=e then none else H b)=_;rw[if_neg (ne b _ z λ_ y=>by cases y),z]
 ·show(if _=e then none else H _)=none;rw[I.free];split<;> rfl
 ·show(if c=e then none else H c)=none;rw[I.freeC x c q];split<;> rfl
 ·obtain⟨g,k,l⟩:=I.pin p j;refine⟨g,?_,l⟩;show(if p.1=e then none else H p.1)=none;rw[k];split<;> rfl
 ·have a:(if b=e then none else H b)=some u:=q;by_cases f:b=e
  ·rw[if_pos f]at a;cases a
  ·rw[if_neg f]at a;refine(I.hok b u a).stay (λc v _ r=>r) (λc r=>?_) λc d r=>?_
   ·show(if c=e then none else H c)=_;rw[if_neg (ne c _ r λ_ y=>by cases y),r]
   ·show(if c=e then none else H c)=_;rw[if_neg (ne c _ r λ_ y=>by cases y),r]
inductive bYx(K:cQq)(D:aKT)(σ:St)(y:V)(x:V)(H2:Hp):Prop|mk(e C tp)(_:x= .ref e)(_:H2 e=some (qF e C tp none))(_:uC K C)(_:∀dx,H2 dx=none->D.nx σ (upd (upd H2 dx (.xd [(AF,y)])) e (qF e C tp (some dx))))
def cQd(K:cQq)(c d:TE):TS:=λD σ H=>d σ H λy a=>c σ a λx b=>bYx K D σ y x b
def bKn(O:PE X o B)(P:PE X a A)(L:swapsWith a (some (.Attribute o AF i)) pos.line X.env=pure false): PS X (.Assign [.Attribute o AF i] a pos) (cQd X.K B A):=by
 intro pins s σ H D I h;refine cVe (thn (P pins s σ H _ I h) λu s1 ⟨y,H1,I1,ry,q⟩=>thn (O pins s1 σ H1 _ I1 q) λov s2 ⟨x,H2,I2,rx,e,C,tp,ex,ea,c,q2⟩=>?_) L;subst ex;obtain rfl:ov=Value.ref e:=rx;have J:=aVO I2.hok ea;have g:H2 s2.heap.objs.size=none:=I2.hok.fresh (cQv _);have G:=q2 _ g;refine bJ7 I2.kIn c J λQ tk w N k=>⟨σ,_,I2.un (t':=tk) ?_ ?_,G⟩
 ·have nb:∀b,H2 b=none->b≠e:=λb n z=>by rw[z,ea]at n;cases n
  have M:∀b o,s2.heap.get? b=some o->b≠s2.heap.objs.size:=λb o r=>cQP (cQC r);have l:∀b u,H2 b=some u->(∀φ,u≠ .ext φ)->upd (upd H2 s2.heap.objs.size (.xd [(AF,y)])) e (qF e C tp (some s2.heap.objs.size)) b=some u:=λb u r n=>by rw[yJ (λz=>by rw[z,ea]at r;cases r;exact n _ rfl),yJ (yI r g)];exact r
  refine⟨λb o r n _ _=>k b o (nb b n) r,λb o r n _ _=>⟨o.slots,k b o (nb b n) r⟩,λb o r n _=>?_,λb o r _=>?_,λb F r=>l b _ r (λ_ z=>by cases z),λb o u r=>l b _ r (λ_ z=>by cases z),λb ps r=>⟨#[],by rw[l b _ r (λ_ z=>by cases z)];simp⟩⟩
  ·rw[yJ (nb b n),yJ (M b o r)];exact n
  ·by_cases j:b=e
   ·subst j;exact⟨_,w⟩
   ·exact⟨o,k b o j r⟩
 ·intro b v r;by_cases j:b=e
  ·subst j;rw[yB]at r;cases r;exact aVP w
  ·rw[yJ j]at r;by_cases E:b=s2.heap.objs.size
   ·subst E;rw[yB]at r;cases r;refine⟨_,N,λf=>?_⟩;show aZA (cZJ f [(AF,y)]) (if f=AF then some u else none);by_cases m:f=AF
    ·subst m;exact ry
    ·rw[if_neg m];have:(f==(AF:Str))=false:=by simpa using m
     simp[cZJ,this,aZA]
   ·rw[yJ E]at r;have ne:∀c t,H2 c=some t->(∀φ,t≠ .ext φ)->c≠e:=λc t d n z=>by rw[z,ea]at d;cases d;exact n _ rfl
    refine(I2.hok b v r).stay (λc o p d=>k c o ?_ d) (λc d=>?_) λc F d=>?_
    ·rcases p with rfl|p
     ·exact j
     ·exact ne c _ p λ_ z=>by cases z
    ·rw[yJ (ne c _ d λ_ z=>by cases z),yJ (yI d g)];exact d
    ·rw[yJ (ne c _ d λ_ z=>by cases z),yJ (yI d g)];exact d
end
inductive wY(K:cQq)(vs:List V)(H:Hp)(Q:VK)(_:XK):Prop|mk(e C tp:Nat)(y:V)(_:vs= [.ref e,y])(_:H e=some (qF e C tp none))(_:uC K C)(_:∀dx,H dx=none->Q .non (upd (upd H dx (.xd [(AF,y)])) e (qF e C tp (some dx))))
inductive bZ0(C:Nat)(t:Str)(vs:List V)(H:Hp)(Q:VK):Prop|mk(e tp:Nat)(_:vs= [.ref e])(_:H e=some (qF e C tp none))(_:∀dx,H dx=none->Q .non (upd (upd H dx (.xd [(AF,.str t)])) e (qF e C tp (some dx))))
def wO(K:cQq)(C:Nat)(t:Str):Sp:=λa H Q _=>bZ0 C t a H Q
structure aWw(P:cQO)(w:cQ1)(K:cQq)(mg:Str->Option cQp)(base:Heap)(k:Nat)(x m:Str)(ps:List Str)(sp:Sp):Prop where
 ex:∃ (R f:Nat)(fd:cZn),xH P w K mg base CX0 k f fd ps sp/\uB K fd ps []/\PySem.W.readsIn K R (.type CD)=true/\PySem.W.findCls K (.ref R) (.type CD) m=some (.val (.ref f))/\
  cJ2 K (.ref R) Ae=some (some (.builtin "type.__getattribute__"))/\cXm K (.ref f)=true/\mg x=some (.ref R)
section
variable {X:Cx}{k:Nat}{x m:Str}{ps:List Str}{sp:Sp}{e:Expr}{es:List Expr}{t:TA}{p pos apos:Pos}
def jA(G:aWw X.prog X.w X.K X.mg X.base k x m ps sp)(q:v0 k X.A)(j:Gl X x)(u:PA X (e::es) t)(c:(x==(AO:Str))=false:=by decide)
  (d:cQ5 (e::es) X.env=(false,eval e X.env)::cQ5 es X.env:=by rfl) (a:(cX6 pos (cQ5 es X.env)).any (·.1)=false:=by rfl)
  (y:eval (.Call (.Attribute (.Name x p) m apos) (e::es) [] pos) X.env=(do
   let ov <- eval (.Name x p) X.env
   standAt apos.atName
   let (f,first) <- cJM [ov] (cJU ov m pl)
   callWith pos f first (cX6 pos (cQ5 (e::es) X.env)) (cJD pos (cZK [] X.env))):=by rfl):
  PE X (.Call (.Attribute (.Name x p) m apos) (e::es) [] pos) (bZ3 sp [] E0 t):=by
 obtain⟨R,f,z,F,b,n,v,g,l,i⟩:=G.ex
 intro pins s σ H Q I h
 refine cJt (pl:=pl) (u4 I j i ?_ c) y
 refine PySem.W.method_cls I.kIn g (PySem.W.cls_value I.kIn n v rfl ?_)
 have o:=I.tok (s.toks+1)
 refine cJj (first:= []) (h₀:=X.base) I.ok.mod.kin l (thn (u pos pins _ σ H _ o h) λus s2 ⟨vs,H2,I2,r,q2⟩=>⟨I2.kIn,?_⟩) d a
 exact aJj F q b .nil v7 I2 r q2
end
structure ExG(P:cQO)(w:cQ1)(K:cQq)(mg:Str->Option cQp)(base:Heap)(k:Nat)(x:Str)(Rf:Nat)(C:Nat)(t:Str):Prop where
 ex:∃f fd,xH P w K mg base CX0 k f fd [AA] (wO K C t)/\uB K fd [AA] []/\cQ9 K (.ref C) AE=some (some (.ref f))/\cZ8 K (.ref f)=true/\cXm K (.ref C)=true/\mg x=some (.ref C)
 cl:uC K C
 sub:cJG K C (.ref Rf)=some true
def ExG.mono{P:cQO}{w:cQ1}{K:cQq}{mg:Str->Option cQp}{base:Heap}{j k:Nat}{x:Str}{Rf C:Nat}{t:Str}(G:ExG P w K mg base j x Rf C t)(h:j<=k):ExG P w K mg base k x Rf C t:=
 let ⟨f,fd,a,b⟩:=G.ex;⟨⟨f,fd,a.mono h,b⟩,G.cl,G.sub⟩
def bJF(C:Nat)(t:Str)(E:XK):TS:=λ_ _ H=>∀a,H a=none->E (.ref C) (some a) (upd H a (.xd [(AF,.str t)]))
section
variable {P:cQO}{w:cQ1}{K:cQq}{mg:Str->Option cQp}{base:Heap}{N:List Str}{qual:Str}{scope:Scope}{f:Nat}{cd:cQp}{A:cXi}{outer:List Env}{s₀:cQr}{H₀:Hp}{E:XK}{k:Nat}{x t:Str}{Rf C:Nat}{np cpos pos:Pos}
def wH(G:ExG P w K mg base k x Rf C t)(Z:v0 (k+1) (A.deeper (cZm qual scope s₀.heap.objs.size f cd)))(U:Gl (aXT (CXR P w) P w K mg base N qual scope f cd A outer s₀ H₀ E) x)(y:(x==(AO:Str))=false:=by decide):
  PS (aXT (CXR P w) P w K mg base N qual scope f cd A outer s₀ H₀ E) (.Raise (some (.Call (.Name x np) [] [] cpos)) none pos) (bJF C t E):=by
 intro pins s σ H D I h
 obtain⟨fi,fd,F,b,Q,X,V,S⟩:=G.ex
 rw[arm_exec_Raise]
 refine cQo (cJL ?_)
 show cQw _ _ (raiseStmt _ (some (do let v <- eval (.Call (.Name x np) [] [] cpos) (cZm qual scope s₀.heap.objs.size f cd);standAt pos;pure v)) none) _ _ _
 refine aYh (K:=K) (I.ok.hd rfl) (cQo ?_)
 refine cX7 (u4 I U S ?_ y)
 refine cVt I.kIn V (cJE ?_)
 obtain⟨a,g,d,tk,M⟩:=s
 have I0:Inv (aXT (CXR P w) P w K mg base N qual scope f cd A outer s₀ H₀ E) pins σ H ⟨a.push Q4,g,d,tk,M⟩:=I.kept (t':=tk) λb u e=>cQu _ e
 have R:((a.push Q4).push (wU C a.objs.size none)).get? (a.objs.size+1)=some (wU C a.objs.size none):=by heap_get
 have p:Inv (aXT (CXR P w) P w K mg base N qual scope f cd A outer s₀ H₀ E) pins σ (upd H (a.objs.size+1) (qF (a.objs.size+1) C a.objs.size none)) ⟨(a.push Q4).push (wU C a.objs.size none),g,d,tk,M⟩:=
  I0.laid (t':=tk) (λb u e=>cQu _ e) (cZ5 (cX0 _ _)) (aVP R)
 have m:H (a.objs.size+1)=none:=I.hok.fresh (cZv _)
 refine bXy I.kIn G.cl Q (beq_iff_eq.mp X) (cZj (F.run _ (cZm qual scope s₀.heap.objs.size f cd::outer) _ _ ⟨[.ref (a.objs.size+1)],[]⟩ [.ref (a.objs.size+1)] [.ref (a.objs.size+1)] (λv L=>v= .non/\∃c,upd H (a.objs.size+1) (qF (a.objs.size+1) C a.objs.size none) c=none/\L=upd (upd (upd H (a.objs.size+1) (qF (a.objs.size+1) C a.objs.size none)) c (.xd [(AF,.str t)])) (a.objs.size+1) (qF (a.objs.size+1) C a.objs.size (some c))) E0 (Z.make C [] []) (p.env0.make C [] []) (b _ [.ref (a.objs.size+1)] p.kIn rfl) (.cons rfl .nil) ⟨a.objs.size+1,a.objs.size,Cd,yB,λc j=>⟨rfl,c,j,rfl⟩⟩) λr s' i=>?_)
 cases r with
 |error e=>exact cXX i
 |ok fl=>
  cases fl with
  |next=>exact cXX i
  |brk=>exact cXX i
  |cont=>exact cXX i
  |ret u=>
   obtain⟨v,L,q,Y,rfl,c,j,rfl⟩:=p.after i;have l:a.objs.size+1≠c:=yI yB j;have B:H c=none:=by rw[yJ (cQ6 l)]at j;exact j
   have n:=aVO q.hok yB;have O:=q.forget (e:=a.objs.size+1) yB;have eq:(λb=>if b=a.objs.size+1 then none else upd (upd (upd H (a.objs.size+1) (qF (a.objs.size+1) C a.objs.size none)) c (.xd [(AF,.str t)])) (a.objs.size+1) (qF (a.objs.size+1) C a.objs.size (some c)) b)=upd H c (.xd [(AF,.str t)]):=by
    funext b;by_cases o:b=a.objs.size+1
    ·rw[if_pos o,o,yJ l,m]
    ·rw[if_neg o,yJ o];by_cases J:b=c
     ·rw[J,yB,yB]
     ·rw[yJ J,yJ J,yJ o]
   rw[eq]at O;refine⟨Y,cQo (cJL (cQs ⟨a.objs.size+1,a.objs.size,some c,C,Cd,q.kIn,G.cl,n,?_⟩))⟩;refine bKZ (tb:=none) O ⟨⟨_,_,n,Cd,Cd,Cd,rfl⟩,λT z=>by cases z⟩ (by rw[yJ l];exact m) (cQZ I.sz (cZv _)) (λT z=>by cases z) (h c B)
end
end L2
namespace L2
open PySem PySem.Spec PyProof.Rows
def bVC{X:Cx}{A:cXi}{a:Bool}{pn:List (Nat×Obj)}{xe:cQp->cQr->Prop}(o:X.Ok)(c:A.frames=X.A.frames)(b:a=true->A.handled=none):Cx.Ok {X with A:=A,calm:=a,pn:=pn,xe:=xe}:=
 ⟨o.mod,o.kind,o.glob,o.blt,o.above,o.inj,o.has,o.cab,b,c.trans o.frames,o.stk,o.exf,o.bs,o.bsz,o.noex,o.exfs,o.funs,o.frf⟩
def Inv.mark{X:Cx}{A:cXi}{b:Bool}{pn pins a:List (Nat×Obj)}{xe:cQp->cQr->Prop}{σ:St}{H:Hp}{s:cQr}(I:Inv X pins σ H s)(d:A.frames=X.A.frames)(c:b=true->A.handled=none) (e:∀p∈pn++a,p∈X.pn++pins):Inv {X with A:=A,calm:=b,pn:=pn,xe:=xe} a σ H s:=
 ⟨bVC I.ok d c,I.os,I.bare,I.base,I.loc,I.cell,I.free,I.freeC,λp h=>I.pin p (e p h),I.hok,I.len⟩
def bVu{X:Cx}{pn:List (Nat×Obj)}{xe:cQp->cQr->Prop}(o:Cx.Ok {X with A:=X.A,calm:=X.calm,pn:=pn,xe:=xe}):X.Ok:=
 ⟨o.mod,o.kind,o.glob,o.blt,o.above,o.inj,o.has,o.cab,o.hd,o.frames,o.stk,o.exf,o.bs,o.bsz,o.noex,o.exfs,o.funs,o.frf⟩
def Inv.names{h:Str->Option cQp}(I:Inv X pins σ H s)(B:h'.Ns X.env.locals h)(d:cZr X.env.locals s.heap h'): Inv X pins (cXc X.N.length none) H {s with heap:=h',toks:=t'}:=by
 have a:∀b o,X.s₀.heap.get? b=some o->b≠X.env.locals:=λb o q=>cQP (cQR (cQC q) I.ok.above);refine⟨I.ok,I.os,I.bare,⟨λb o q n g e=>(d.2 b (a b o q)).trans (I.base.keep b o q n g e),λb o q n g e=>?_,I.base.free,λb o q e=>?_,I.base.tups,I.base.frzs,I.base.tbls⟩,⟨h,B,λi x v _ f _=>?_⟩,λx c q=>?_,I.free,I.freeC,λp y=>?_,λb u q=>?_,by simp⟩
 ·obtain⟨m,z⟩:=I.base.slot b o q n g e;exact⟨m,(d.2 b (a b o q)).trans z⟩
 ·obtain⟨k,z⟩:=I.base.there b o q e;exact⟨k,(d.2 b (a b o q)).trans z⟩
 ·rw[List.getElem?_replicate]at f;split at f<;> cases f
 ·obtain⟨v,z⟩:=I.cell x c q;exact⟨v,z.sameBut d (I.cne x c q)⟩
 ·obtain⟨l,A,j,C,t⟩:=I.pin p y;exact⟨(d.2 p.1 j).trans l,A,j,C,t⟩
 ·refine(I.hok b u q).stay (λc v w r=>(d.2 c ?_).trans r) (λ_ r=>r) λ_ _ r=>r;rintro rfl;rcases w with z|z
  ·rw[<- z,I.free]at q;cases q
  ·rw[I.free]at z;cases z
def bYc(K:cQq)(Rf:Nat)(Q:VK):XK:=λcls b a=>∃ (C d:Nat)(t:Str),cls= .ref C/\b=some d/\uC K C/\cJG K C (.ref Rf)=some true/\a d=some (.xd [(AF,.str t)])/\Q (.str t) a
section
variable {X:Cx}{pins:List (Nat×Obj)}{σ:St}{H:Hp}{s:cQr}
def Inv.recs{h':Heap}{ch:List Nat}(I:Inv X pins σ H s)(h:∀b∈ch,s.heap.objs.size<=b\/(X.s₀.heap.objs.size<=b/\b≠X.env.locals/\(∀x c,X.env.cells.lookup x=some c->c≠b)/\∀p∈X.pn++pins,p.1≠b))(t:∀b∈ch,H b=none) (keep:∀b o,b∉frs X.stack->b∉ch->s.heap.get? b=some o->h'.get? b=some o) (a:∀b o,b∉ch->s.heap.get? b=some o->∃k,h'.get? b=some {o with slots:=k}):Inv X pins σ H {s with heap:=h'}:=by
 have i:HOk X.prog X.w H h':=λb u q=>(I.hok b u q).stay (λc v l r=>by
  have g:H c≠none:=by
   rcases l with z|z
   ·rw[z,q];simp
   ·rw[z];simp
  exact keep c v (λz=>g (I.stkFree c z)) (λz=>g (t c z)) r) (λ_ r=>r) λ_ _ r=>r
 refine I.call (g':=s.gens) (t':=s.toks) (d':=s.drawn) (ch:=ch) ⟨λb o q _ j d=>keep b o j d q,λb o q _ _ d=>a b o d q,λ_ _ _ n _=>n,λb o q d=>?_,λ_ _ q=>q,λ_ _ _ q=>q,λ_ y q=>⟨#[],by rw[q];simp⟩⟩ i I.bare λb j=>?_
 ·obtain⟨k,z⟩:=a b o d q;exact⟨_,z⟩
 ·rcases h b j with z|⟨z1,z2,z3,z4⟩
  ·refine⟨.inr (cQZ I.sz z),λe=>?_,λx c q e=>?_,λp m e=>?_⟩
   ·rw[e]at z;exact absurd (cQR I.lt z) (cXD _)
   ·obtain⟨v,o,f,_⟩:=I.cell x c q;rw[e]at f;exact absurd (cQR (cQC f) z) (cXD _)
   ·have f:=(I.pin p m).1;rw[e]at f;exact absurd (cQR (cQC f) z) (cXD _)
  ·exact⟨.inr z1,z2,z3,z4⟩
def bKp{body:List Stmt}{tb:XK->TS}{S n:Str}{i:Nat}{Rf:Nat}{cp p1 p2 p3 F tp:Pos}(hN:X.N.Nodup)(hi:X.N[i]? =some n)(hl:X.env.scope.names.lookup n=some .local)(hg:Gl X S)(hm:X.mg S=some (.ref Rf))(cr:uC X.K Rf) (a0:X.stack=X.env::X.outer) (c6:X.env.frame=some X.env.locals) (d1:X.calm=true) (b3:(n==(AO:Str))=false) (b9:(S==(AO:Str))=false) (d0:(n==(BA:Str))=false) (hA:∀e,(X.A.mark (some (.ref e))).frames=X.A.frames) (j:∀ (pn:List (Nat×Obj))(xe:cQp->cQr->Prop)(E:XK),vU (CXR X.prog X.w) {X with A:=X.A,calm:=X.calm,pn:=pn,xe:=xe} E->PSs {X with A:=X.A,calm:=X.calm,pn:=pn,xe:=xe} body (tb E)): PS X (.Try body [.ExceptHandler (some (.Name S cp)) (some n) [.Return (some (.Attribute (.Name n p1) AF p2)) p3] F] [] [] tp) (λD σ H=>tb (bYc X.K Rf D.rt) D σ H):=by
 intro pins s σ H D I h;refine wpAny_Try_except ?_;have l:X.calm=true->X.A.handled=none:=I.ok.hd;have go:∀ (a2:List (Nat×Obj))(m:St)(M:Hp)(Y:cQr)(g:cQp)(k:cQr),Inv X pins m M Y->CXR X.prog X.w X.stack M Y (bYc X.K Rf D.rt) g k->
   cQw (cQx X.prog X.w) X.A (cJV g X.env) (λ_ R=>cQw (cQx X.prog X.w) X.A (cJz g none) (λ_ W=>cQw (cQx X.prog X.w) X.A (handleBy g X.env [.ExceptHandler (some (.Name S cp)) (some n) [.Return (some (.Attribute (.Name n p1) AF p2)) p3] F]) (SP X pins D) X.xe W) X.xe R) X.xe k:=by
  intro _ m M Y g k J1 hx
  obtain⟨e,C',dx,c0,H',rfl,os,a4,un,b0,x,he,ht,a1,a3,hE⟩:=hx
  obtain⟨C,d,t,ec,ed,cC,hs,hd,hq⟩:=hE
  have eC:C'=C:=by cases ec;rfl
  subst eC
  have eD:dx=d:=by cases ed;rfl
  subst eD
  have Z:Inv X pins m H' k:=J1.call' os un b0 a4 λb z=>absurd z (by simp)
  have big:∀b,Y.heap.objs.size<=b->X.s₀.heap.objs.size<=b/\b≠X.env.locals/\(∀x c,X.env.cells.lookup x=some c->c≠b)/\∀p∈X.pn++pins,p.1≠b:=λb z=>by
   refine⟨cQZ J1.sz z,λe=>?_,λx c q e=>?_,λp F e=>?_⟩
   ·rw[e]at z;exact absurd (cQR J1.lt z) (cXD _)
   ·obtain⟨v,o,P,_⟩:=J1.cell x c q;rw[e]at P;exact absurd (cQR (cQC P) z) (cXD _)
   ·have P:=(J1.pin p F).1;rw[e]at P;exact absurd (cQR (cQC P) z) (cXD _)
  refine aVY (base:=X.base) (outer:=X.outer) (L:=X.env.locals) (a0 ▸ Z.ok.frames) (a0 ▸ Z.stack) c6 x λh3 T y nT p=>?_
  have c5:frs X.stack=(X.env::X.outer).filterMap (·.frame):=by rw[a0];rfl
  have J3:Inv X pins m H' {k with heap:=h3}:=Z.recs (ch:= [e,c0]) (λb j=>by
    rcases cQz.mp j with rfl|j
    ·exact .inr (big _ a1)
    ·rw[cQD.mp j];exact .inr (big _ a3)) (λb j=>by
    rcases cQz.mp j with rfl|j
    ·exact he
    ·rw[cQD.mp j];exact ht)
   (λb o j U q=>p.keep b o (λz=>U (by simp[z])) (λz=>U (by cases z;simp)) (c5 ▸ j) q)
   (λb o U q=>p.slot b o (λz=>U (by simp[z])) (λz=>U (by cases z;simp)) q)
  have b8:H' T=none:=Z.hok.fresh nT
  have O:X.s₀.heap.objs.size<=T/\T≠X.env.locals/\(∀x c,X.env.cells.lookup x=some c->c≠T)/\∀p∈X.pn++pins,p.1≠T:=by
   refine⟨cQZ Z.sz nT,λe=>?_,λx c q e=>?_,λp F e=>?_⟩
   ·rw[e]at nT;exact absurd (cQR Z.lt nT) (cXD _)
   ·obtain⟨v,o,P,_⟩:=Z.cell x c q;rw[e]at P;exact absurd (cQR (cQC P) nT) (cXD _)
   ·have P:=(Z.pin p F).1;rw[e]at P;exact absurd (cQR (cQC P) nT) (cXD _)
  have mk:∀ {σ:St} {H:Hp} {s:cQr},Inv X pins σ H s->Inv {X with A:=X.A.mark (some (.ref e)),calm:=false,pn:=X.pn,xe:=λ_ _=>True} pins σ H s:=λJ=>J.mark (hA e) (λz=>by cases z) λp F=>F
  have un:∀ {σ:St} {H:Hp} {s:cQr},Inv {X with A:=X.A.mark (some (.ref e)),calm:=false,pn:=X.pn,xe:=λ_ _=>True} pins σ H s->Inv X pins σ H s:=λ{σ H s} J=>Inv.mark (X:={X with A:=X.A.mark (some (.ref e)),calm:=false,pn:=X.pn,xe:=λ_ _=>True}) J (hA e).symm l λp F=>F
  refine wpAny_handleBy_cons (codeAny_handlers_test ?_) (by intro q;cases q)
  refine u4 (X:={X with A:=X.A.mark (some (.ref e)),calm:=false,pn:=X.pn,xe:=λ_ _=>True}) (mk J3) hg hm ?_ b9
  obtain⟨oe,vs,g1,g2,g3,g4,g5⟩:=y.obj
  refine aYg J3.kIn cC cr hs g1 g2 ?_
  refine codeAny_handlers_suite_as ?_
  refine bXJ (s:={k with heap:=h3}) y λh4 y4 k4 t4=>?_
  have J4:Inv X pins m H' {k with heap:=h4}:=Inv.recs (s:={k with heap:=h3}) (h':=h4) (ch:= [T]) J3 (λb j=>by rw[cQD.mp j];exact .inr O) (λb j=>by rw[cQD.mp j];exact b8)
   (λb o _ U q=>k4 b o (λz=>U (by simp[z])) q) (λb o U q=>⟨o.slots,k4 b o (λz=>U (by simp[z])) q⟩)
  refine aXc (X:={X with A:=X.A.mark (some (.ref e)),calm:=false,pn:=X.pn,xe:=λ_ _=>True}) (v:= .ref e) (u:= .ref e) (mk J4) hN hi (.inl hl) rfl (λs5 J5 ⟨a,sb,ha⟩=>?_) (.inr hl)
  have a5:e≠a/\T≠a:=by
   rcases ha with z|z
   ·rw[z];exact⟨(big _ a1).2.1,O.2.1⟩
   ·exact⟨λq=>(big _ a1).2.2.1 n a z q.symm,λq=>O.2.2.1 n a z q.symm⟩
  have y5:X2 s5.heap e (.ref C') (some dx) (some T):=y4.keeps λb o j q=>(sb.2 b (by
   rcases j with rfl|j
   ·exact a5.1
   ·cases j;exact a5.2)).trans q
  obtain⟨b6,c9,f1,f2,f3,f4,f5⟩:=y5.obj
  obtain⟨mA,c7,a6⟩:=J5.hok dx _ hd
  obtain⟨od,a9,b2⟩:=aZ6 c7
  obtain⟨u,hu,ru⟩:=aZA.some_of (v:=V.str t) (o:=mA AF) (a6 AF)
  obtain⟨m5,a8,b4⟩:=J5.loc
  obtain⟨u5,r5,l5⟩:=b4 i n (.ref e) hi (cZI (by rw[J4.len];exact(cQA.mp hi).1)) (.inl hl)
  obtain rfl:u5=Value.ref e:=r5
  have a7:m5 n=some (.ref e):=by
   rcases l5 with⟨_,z⟩|⟨z,_⟩
   ·exact z
   ·rw[show X.env.kindOf n=some .local from hl]at z;rcases z with z|z<;> cases z
  refine wpAny_execs_cons (wpAny_Return_some (aKV rfl ?_))
  refine wpAny_Name (wpAny_loadName_local J5.ok.kind hl a8 a7 ?_) b3
  refine bJ5 J5.kIn cC f1 f2 f3 (by obtain⟨c1,c2,c3,c4⟩:=b6;cases f4;rfl) a9 (by rw[b2,hu]) (aZT ru) ?_
  have J6:=(un J5).tok (s5.toks+1)
  obtain⟨m6,b5,_⟩:=J6.loc
  refine wpAny_nameGoes hl b5 (by rw[J6.ok.kind];rfl) λh7 m7 b7 b1=>?_
  exact⟨.str t,_,H',J6.names (t':=s5.toks+1+1) b7 b1,ru,hq⟩
 have c8:vU (CXR X.prog X.w) {X with A:=X.A,calm:=X.calm,pn:=X.pn++pins,xe:=λg k=>cQw (cQx X.prog X.w) X.A (cJV g X.env) (λ_ R=>cQw (cQx X.prog X.w) X.A (cJz g none) (λ_ W=>cQw (cQx X.prog X.w) X.A (handleBy g X.env [.ExceptHandler (some (.Name S cp)) (some n) [.Return (some (.Attribute (.Name n p1) AF p2)) p3] F]) (SP X pins D) X.xe W) X.xe R) X.xe k} (bYc X.K Rf D.rt):=
  λa2 m M Y g k J hx=>go [] m M Y g k (Inv.mark (X:={X with A:=X.A,calm:=X.calm,pn:=X.pn++pins,xe:=λg k=>cQw (cQx X.prog X.w) X.A (cJV g X.env) (λ_ R=>cQw (cQx X.prog X.w) X.A (cJz g none) (λ_ W=>cQw (cQx X.prog X.w) X.A (handleBy g X.env [.ExceptHandler (some (.Name S cp)) (some n) [.Return (some (.Attribute (.Name n p1) AF p2)) p3] F]) (SP X pins D) X.xe W) X.xe R) X.xe k}) J rfl l λp Q=>cZx _ Q) hx
 have I':Inv {X with A:=X.A,calm:=X.calm,pn:=X.pn++pins,xe:=λg k=>cQw (cQx X.prog X.w) X.A (cJV g X.env) (λ_ R=>cQw (cQx X.prog X.w) X.A (cJz g none) (λ_ W=>cQw (cQx X.prog X.w) X.A (handleBy g X.env [.ExceptHandler (some (.Name S cp)) (some n) [.Return (some (.Attribute (.Name n p1) AF p2)) p3] F]) (SP X pins D) X.xe W) X.xe R) X.xe k} [] σ H s:=
  I.mark rfl l λp Q=>by simpa using Q
 have G:∀ {σ:St} {H:Hp} {s:cQr},Inv {X with A:=X.A,calm:=X.calm,pn:=X.pn++pins,xe:=λg k=>cQw (cQx X.prog X.w) X.A (cJV g X.env) (λ_ R=>cQw (cQx X.prog X.w) X.A (cJz g none) (λ_ W=>cQw (cQx X.prog X.w) X.A (handleBy g X.env [.ExceptHandler (some (.Name S cp)) (some n) [.Return (some (.Attribute (.Name n p1) AF p2)) p3] F]) (SP X pins D) X.xe W) X.xe R) X.xe k} [] σ H s->Inv X pins σ H s:=
  λ{σ H s} J=>⟨bVu J.ok,J.os,J.bare,J.base,J.loc,J.cell,J.free,J.freeC,λp Q=>J.pin p (by simpa using Q),J.hok,J.len⟩
 refine cXs (j _ _ _ c8 [] s σ H D I' h) (λf Y q=>?_) λ_ _ q=>q;cases f with
 |next=>obtain⟨B,M,J,q⟩:=q;exact yT pins Y B M D (G J) q
 |ret v=>obtain⟨u,B,M,J,r,q⟩:=q;exact⟨u,B,M,G J,r,q⟩
 |brk=>obtain⟨B,M,J,q⟩:=q;exact⟨B,M,G J,q⟩
 |cont=>obtain⟨B,M,J,q⟩:=q;exact⟨B,M,G J,q⟩
end
end L2
namespace L2
open PySem PySem.Spec PyProof.Rows
def aYt{P:cQO}{w:cQ1}{K:cQq}{mg mb:Str->Option cQp}{CX:CXT}{k:Nat}{fa a c T:Nat}{fd:cZn}{x:Str}{sp:Sp}{f:cQr}{vs:List cQp}{U:List Int} (KX:K.In f.heap) (I:f.heap.Ns cQX mg) (l:f.heap.Ns builtinsNs mb) (a8:∀x:Str,x≠Ad->mb x=cQ7 x) (Q:f.heap.NoLimit) (hg:f.gens= #[]) (M:f.heap.get? a=some {cls:= .type AB,data:= .seq vs.toArray}) (hi:cZZ vs U) (hl:U.length<=cQM) (hr:v0 k callerA) (hC:cZt f.heap c T) (L:f.heap.get? T=some (cZ0 #[])) (a2:K.lookup T=none) (a4:∃X C,mg "__builtins__"=some (.ref X)/\X≠builtinsNs/\f.heap.get? X=some C/\C.cls= .type "module"/\C.dict=some builtinsNs/\C.data= .plain) (F:∀base:Heap,K.In base->base.Ns cQX mg->cZt base c T->base.BuiltinsAt mg T->xH P w K mg base CX k fa fd [x] sp) (E:∀ (s:cQr)(u:cQp),BindsTo s fd ⟨[u],[]⟩ [(x,u)]) (a3:∀H:Hp,H T=some (.tbl #[])->SqL K H a (U.map V.int)->sp [.ref a] H (λv _=>v= .bl true) λ_ _ _=>False) (a7:∀H e j,CX [] H f (λ_ _ _=>False) e j->False): cZC (cQx P w) callerA (.call (.ref fa) ⟨[.ref a],[]⟩) (λr j=>r= .ok (.ret (.bool true))/\OldK f.heap j.heap/\j.os=f.os/\AllBare j.gens) f:=by
 have rv:=jH hi;have O:=hi.length;have a1:a≠T:=λz=>by rw[z,L]at M;cases M
 have B:∀H:Hp,H T=some (.tbl #[])->SqL K H a (U.map V.int)->HOk P w H f.heap->(∀b,H b≠none->b=T\/(b=a/\∃o xs,H b=some (.frz o (.lst xs))))->(H a≠none->K.lookup a=none)->
   cZC (cQx P w) callerA (.call (.ref fa) ⟨[.ref a],[]⟩) (λr j=>r= .ok (.ret (.bool true))/\OldK f.heap j.heap/\j.os=f.os/\AllBare j.gens) f:=by
  intro H hH hS R hA hK
  have i:∀ {b:Nat} {o:Obj},f.heap.get? b=some o->H b=none->(aYk f.heap H).get? b=some o:=λe n=>bXC e n
  have p:∀ {b:Nat} {o:Obj},f.heap.get? b=some o->(∀ps,o≠cZ0 ps)->(∀t,o≠ {cls:= .type AB,data:= .seq t})->H b=none:=λ{b o} e n1 n2=>by
   cases q:H b with
   |none=>rfl
   |some u=>
    rcases hA b (by rw[q];simp)with z|⟨z,_⟩
    ·rw[z,L]at e;cases e;exact absurd rfl (n1 _)
    ·rw[z,M]at e;cases e;exact absurd rfl (n2 _)
  have y:∀ {b:Nat} {m:Str->Option cQp},f.heap.Ns b m->(aYk f.heap H).Ns b m:=λ{b m} ⟨o,es,ep,e,d,r⟩=>⟨o,es,ep,i e (p e (λps z=>by rw[z]at d;cases d) (λt z=>by rw[z]at d;cases d)),d,r⟩
  have N:K.In (aYk f.heap H):=λb o e=>i (KX b o e) (by
   cases q:H b with
   |none=>rfl
   |some u=>
    rcases hA b (by rw[q];simp)with z|⟨z,_⟩
    ·rw[z,a2]at e;cases e
    ·subst z;rw[hK (by rw[q];simp)]at e;cases e)
  have hM:Mod K mg (aYk f.heap H):=⟨N,y I,⟨mb,y l,a8⟩,let ⟨mc,h1,h2⟩:=Q;⟨mc,y h1,h2⟩⟩
  have e0:bJS P w K mg (aYk f.heap H) callerA [] f H:=⟨rfl,hM,λb o e=>bVs e,cZ5 (aYl _ _),trivial,λb l=>absurd (show b∈([]:List Nat)from l) (by simp),R,.of_eq hg⟩
  have a5:cZt (aYk f.heap H) c T:=by
   obtain⟨o,vs,file,tf,G,tg,a9,text,tt,e,c1,r⟩:=hC;exact⟨o,vs,file,tf,G,tg,a9,text,tt,i e (p e (λps z=>by rw[z]at c1;cases c1) (λt z=>by
    rw[z]at c1;have c':Value.type AB=Value.type "code":=c1;injection c' with c''
    exact absurd c'' (by decide))),c1,r⟩
  have a6:(aYk f.heap H).BuiltinsAt mg T:=by
   obtain⟨X,C,b1,b2,J,b4,b5,Z⟩:=a4;refine⟨X,C,b1,b2,λz=>?_,λz=>?_,i J (p J (λps z=>by rw[z]at b4;cases b4) (λt z=>by rw[z]at Z;cases Z)),b4,b5,Z⟩
   ·obtain⟨o,es,ep,e,d,_⟩:=I;rw[z,e]at J;cases J;rw[d]at Z;cases Z
   ·rw[z,L]at J;cases J;cases b4
  refine cZj ((F _ N (y I) a5 a6).run callerA [] f H ⟨[.ref a],[]⟩ [.ref a] [.ref a] _ _ hr e0 (E f (.ref a)) (.cons rfl .nil) (a3 H hH hS)) λr j h=>?_
  cases r with
  |error e=>exact(a7 H e j h).elim
  |ok fl=>
   cases fl with
   |next=>exact cXX h
   |brk=>exact cXX h
   |cont=>exact cXX h
   |ret u=>
    obtain⟨v,H',os,S,un,D,r',q⟩:=h;have q':v= .bl true:=q;subst q';obtain rfl:u=Value.bool true:=r';obtain⟨more,hm⟩:=un.tbls T _ hH;have Y:j.heap.get? T=some (cZ0 (#[]++more)):=D T _ hm;have get:∀b o,b≠T->f.heap.get? b=some o->j.heap.get? b=some o:=λb o g e=>by
     cases q:H b with
     |none=>exact un.keep b o e q (by intro z;exact absurd (show b∈([]:List Nat)from z) (by simp)) (by simp)
     |some u=>
      rcases hA b (by rw[q];simp)with z|⟨_,C,xs,z⟩
      ·exact absurd z g
      ·have z2:=un.frzs b C _ z;obtain⟨e1,_⟩:=R b _ z;obtain⟨e2,_⟩:=D b _ z2;rw[e]at e1;cases e1;exact e2
    refine⟨rfl,⟨λb o e=>?_,λb o e=>?_⟩,os,S⟩
    ·by_cases g:b=T
     ·subst g;rw[L]at e;cases e;exact .inr (.inl ⟨(hC.tab L).isCodeTable,Cd, #[],more,Cd,Y⟩)
     ·exact .inl (get b o g e)
    ·by_cases g:b=T
     ·exact⟨_,by rw[g];exact Y⟩
     ·exact⟨o,get b o g e⟩
 have a0:∀H:Hp,zJ P w H f.heap T (.tbl #[]):=λH=>L;cases hk:K.lookup a with
 |some o=>
  have e:=KX a o hk;rw[M]at e;cases e;refine B (λb=>if b=T then some (.tbl #[])else none) (if_pos rfl) (.inr ⟨_,vs.toArray,_,hk,Cd,Cd,Cd,by rw[cQF,O];exact hl,by simpa using rv⟩) (λb u z=>?_) (λb z=>?_) λz=>absurd (if_neg a1) z
  ·by_cases g:b=T
   ·have A:=(if_pos g).symm.trans z;cases A;subst g;exact a0 _
   ·have A:=(if_neg g).symm.trans z;cases A
  ·by_cases g:b=T
   ·exact .inl g
   ·exact absurd (if_neg g) z
 |none=>
  refine B (λb=>if b=T then some (.tbl #[])else if b=a then some (.frz {cls:= .type AB,data:= .seq vs.toArray} (.lst (U.map V.int)))else none) (if_pos rfl)
   (.inl (.inr ⟨{cls:= .type AB,data:= .seq vs.toArray},by show(if a=T then _ else _)=_;rw[if_neg a1,if_pos rfl]⟩)) (λb u z=>?_) (λb z=>?_) λ_=>hk
  ·by_cases g:b=T
   ·have A:=(if_pos g).symm.trans z;cases A;subst g;exact a0 _
   ·have z1:=(if_neg g).symm.trans z;by_cases l:b=a
    ·have A:=(if_pos l).symm.trans z1;cases A;subst l;exact⟨M,by rw[cQt];exact hl,vs,_,rv,M⟩
    ·have A:=(if_neg l).symm.trans z1;cases A
  ·by_cases g:b=T
   ·exact .inl g
   ·by_cases l:b=a
    ·exact .inr ⟨l,_,_,by show(if b=T then _ else _)=_;rw[if_neg g,if_pos l]⟩
    ·exact absurd (by show(if b=T then _ else _)=_;rw[if_neg g,if_neg l]) z
def bJj{l:PySem.W.OpenLaw}{n k:Nat}{q:cQO}{loose:List Str}{O:(Str->Option cQp)->Heap->Prop}{D:cQ1->Heap->Prop}{d:DefRec}{K:Params->cQq}{CX:CXT}{sp:Nat->cQq->Sp}{x:Str}{T:Nat} (hn:l.most=some n) (L:n<=cQM) (E:d.params.defaults= []) (Z:v0 k callerA) (U:∀ (w:cQ1)(h:Heap),D w h->(K w.params).In h) (C:∀ (w:cQ1)(h:Heap),D w h->h.get? T=some (cZ0 #[])) (F:∀ (w:cQ1)(mg:Str->Option cQp)(r:Nat)(h:Heap),(K w.params).In h->h.Ns cQX mg->mg d.name=some (.ref r)-> ∃ (A:cZn)(c:Nat),cJ9 (K w.params) c T=true/\(K w.params).lookup T=none/\(∀ (s:cQr)(u:cQp),BindsTo s A ⟨[u],[]⟩ [(x,u)])/\ ∀base:Heap,(K w.params).In base->base.Ns cQX mg->cZt base c T->base.BuiltinsAt mg T->xH l.prog w (K w.params) mg base CX k r A [x] (sp T (K w.params))) (J:∀ (K:cQq)(H:Hp)(a:Nat)(t:List Int),t.length<=n->H T=some (.tbl #[])->SqL K H a (t.map V.int)->sp T K [.ref a] H (λv _=>v= .bl true) λ_ _ _=>False) (y:∀ (H:Hp)(s:cQr)(e:cQp)(I:cQr),CX [] H s (λ_ _ _=>False) e I->False): PySem.W.WalkO q loose O D l.row.toRowW d [] (λf N=>PySem.call f N):=by
 refine Att.aJI hn E λw s₀ m mg mb r o pm cd a0 a N t G Y ho hd R B p j i S=>?_;have M:=U w _ Y;obtain⟨A,c,ht,z,hb,Q⟩:=F w mg r _ M G.T.g B;exact aYt M G.T.g G.T.b G.T.builtins G.T.nolimit S p j (cQZ i L) Z (PySem.W.codeHd_of_K M ht) (C w _ Y) z G.T.bmain Q hb (λH X P=>J _ H a t i X P) λH e I=>y H m e I
end L2
namespace Thr
open PySem L2 PyProof.Rows
open Stree (W8 jN wL)
def aZV(x:Str):Stmt->Bool
 |.FunctionDef n _ _ _ _ _ _ _ _ _=>n==x
 |_=>false
def xI(x:Str):Stmt:=(PySem.Challenge.pw_letterdesk_k08_whole_put_right_and_back.main.body.find? (aZV x)).getD (.Pass ⟨0,0,0,0⟩)
abbrev aVr:Stmt:=xI B9
abbrev bQw:Stmt:=xI "top_of"
abbrev aVi:Stmt:=xI AY
def xE:cQ7 CN=some (.builtin CN):=dk
def vG:cQ7 AT=some (.builtin AT):=dk
def yY:cQ7 AV=some (.builtin AV):=dk
def uO:cQ7 As=some (.type As):=dk
def aQo:cQ7 Ah=some (.type Ah):=dk
def wD:cQ7 AB=some (.type AB):=dk
def w8:cQ7 AD=some (.type AD):=dk
structure vQ(mg:Str->Option cQp):Prop where
 b_len:mg CN=none
 b_sorted:mg AT=none
 b_isinstance:mg AV=none
 b_int:mg As=none
 b_str:mg Ah=none
 b_bool:mg An=none
 b_list:mg AB=none
 b_tuple:mg AD=none
 b_range:mg Ag=none
def zQ(k:xG a H)(h:a c=none):xG a (upd H c o):=λb u q=>by rw[yJ (yI q h)];exact k b u q
def aWX{K:cQq}{a:Nat}{xs:List V}{C:List Nat}{σ:L2.St}{D:Nat}{Q:VK}{H:Hp}(hl:SqL K H a xs)(w:H D=none)(hz:xs.length<=1000) (E:∀ (d:Hp)(c:List Nat),xG H d->d D=some (.lst (c.map V.ref))->c.length=xs.length->c.Nodup->(∀b∈c,d b=some (.lst [])/\H b=none/\b≠D)->Q (.ref D) d):bWB (Itl K a) C bYW (bYT bZ7) σ D Q (upd H D (.lst [])):=by
 refine⟨λi m o d=>m=xs.length - i/\i<=xs.length/\∃c:List Nat,o=c.map V.ref/\c.length=i/\c.Nodup/\xG H d/\d D=some (.lst o)/\∀b∈c,d b=some (.lst [])/\H b=none/\b≠D,
  ⟨xs.length,by simp,cXo _,[],Cd,Cd,.nil,yE w _,yB,λb g=>nomatch g⟩,?_⟩
 rintro i m o d ⟨rfl,I,c,rfl,q,u,k,j,e⟩;refine⟨j,?_⟩;have r:=xG.seq k hl;by_cases l:i<xs.length
 ·refine .inr ⟨⟨xs,xs[i],r,cQn l⟩,λv J B=>?_⟩;obtain⟨rfl,y⟩:=B;refine⟨z0,λp h=>?_⟩;have f:p≠D:=cQ6 (yI j h);have n:p∉c:=λz=>by rw[(e p z).1]at h;cases h
  refine⟨zlt (by rw[cQt];omega),by rw[yJ (cQ6 f)];exact j,xs.length - (i+1),by omega,Cd,by omega,c++ [p],by simp,by simp[q],?_,?_,yB,λb g=>?_⟩
  ·rw[cZU];exact⟨u,by simp,λx A y F z=>by rw[cQD.mp F]at z;exact n (z ▸ A)⟩
  ·exact zQ (k.trans (yE h _)) w
  ·rcases cQY.mp g with g|g
   ·obtain⟨t,G,s⟩:=e b g;exact⟨by rw[yJ s,yJ (yI t h)];exact t,G,s⟩
   ·rw[cQD.mp g];exact⟨by rw[yJ f];exact yB,k.fresh h,f⟩
 ·refine .inl ⟨⟨xs,r,by omega⟩,E d c k j (by omega) u e⟩
def zN:Option Nat->V
 |none=> .non
 |some j=> .int (j:Nat)
def v5(n:Nat)(L:Nat->Option Nat):List V:=(cQy n).map λi=>zN (L i)
def qU(n:Nat)(D:Nat->Int):List V:=(cQy n).map λi=> .int (D i)
def jO{L:Nat->Option Nat}(h:i<n):(v5 n L)[i]? =some (zN (L i)):=by unfold v5;rw[cQJ,cZq h];rfl
def aWL{D:Nat->Int}(h:i<n):(qU n D)[i]? =some (.int (D i)):=by unfold qU;rw[cQJ,cZq h];rfl
inductive bKL(K:cQq)(vs:List V)(H:Hp)(Q:VK)(_:XK):Prop|mk(a:Nat)(n:Nat)(L:Nat->Option Nat)(rk:Nat->Nat)(i:Nat)(_:vs= [.ref a,.int (i:Nat)])(_:SqL K H a (v5 n L))(_:Fm.Ok n L rk)(_:i<n)(_:Q (.int (Fm.tp L rk i:Nat)) H)
def wK(T:Nat):Hp->Prop:=X5 ⟨116,48,116,71⟩ "answers_to_each.<locals>.<lambda>" T
structure bYM(n:Nat)(L:Nat->Option Nat)(D:Nat->Int)(kd:Nat->List Nat):Prop where
 mem:∀j i,i∈kd j↔i<n/\L i=some j
 ord:∀j,(kd j).Pairwise λx y=>wL (D y,(y:Int)) (D x,(x:Int))=true
inductive bWo(T:Nat)(vs:List V)(H:Hp)(Q:VK)(_:XK):Prop|mk(la da:Nat)(n:Nat)(L:Nat->Option Nat)(rk:Nat->Nat)(D:Nat->Int)(_:vs= [.ref la,.ref da])(_:H la=some (.lst (v5 n L)))(_:H da=some (.lst (qU n D)))(_:Fm.Ok n L rk)(_:n<=63)(_:wK T H)(_:∀ (H':Hp)(a:Nat)(rs:List Nat)(kd:Nat->List Nat),zA H H'->wK T H'->H' a=some (.lst (rs.map V.ref))->rs.length=n->(∀j b,rs[j]? =some b->H' b=some (.lst ((kd j).map λi=>V.int (i:Nat))))->bYM n L D kd->Q (.ref a) H')
inductive aWr(T:Nat)(vs:List V)(H:Hp)(Q:VK)(_:XK):Prop|mk(la da:Nat)(n:Nat)(L:Nat->Option Nat)(rk:Nat->Nat)(D:Nat->Int)(i:Nat)(_:vs= [.ref la,.ref da,.int (i:Nat)])(_:H la=some (.lst (v5 n L)))(_:H da=some (.lst (qU n D)))(_:Fm.Ok n L rk)(_:n<=63)(_:i<n)(_:wK T H)(_:∀ (H':Hp)(r:Nat)(told:List Nat),(∀b u,(∀ps,u≠HO.tbl ps)->H b=some u->b≠r)->zA H H'->wK T H'->H' r=some (.lst (told.map λi=>V.int (i:Nat)))->(told.Pairwise λx y=>jN (Fm.rd L D rk x) (Fm.rd L D rk y)=true)->(∀k,k∈told↔k<n/\Fm.tp L rk k=Fm.tp L rk i)->Q (.ref r) H')
section
variable {K:cQq}
def bZT:yN [Ap,AC,"top"] [Ap,AC] (yH bQw):=scM
def bZg(T:vQ mg)(F:Fun K "top_of" "top_of" bQw f fd):xH P w K mg base CX0 1 f fd [Ap,AC] (bKL K):=by
 have B:=bZT;refine F.ok (k:=0) B (λu A outer s x D Q E C h=>?_);obtain⟨a,n,L,b,i,rfl,l,r,v,q⟩:=h;refine⟨_,(yC (yU (i:=2) (pv 1)) (yC (uG cXg (yM z8 (yL yK (pv 0) (pv 2)) x3) (yG (yU (i:=2) (yL yK (pv 0) (pv 2))))) (yG (yQ (pv 2))))),?_⟩;refine⟨_,Cd,?_⟩;refine⟨λm σ H=>∃t:Nat,σ= [some (.ref a),some (.int (i:Nat)),some (.int (t:Nat))]/\H=x/\t<n/\Fm.tp L b t=Fm.tp L b i/\m=b t,⟨b i,i,Cd,Cd,v,Cd,rfl⟩,?_⟩;rintro m σ H ⟨t,rfl,rfl,e,c,rfl⟩;refine⟨_,Cd,_,Cd,a,_,_,_,Cd,Cd,l,yR (jO e),Cd,_,Cd,?_⟩;cases hl:L t with
 |none=>refine onF rfl ⟨_,Cd,?_⟩;rw[Fm.zW hl]at c;rw[c];exact q
 |some j=>obtain⟨y,g⟩:=r.lt t j e hl;refine onT rfl ⟨λd o=>∃p,p<b t/\∃t:Nat,d= [some (.ref a),some (.int (i:Nat)),some (.int (t:Nat))]/\o=H/\t<n/\Fm.tp L b t=Fm.tp L b i/\p=b t,λd o z=>z,?_⟩;refine⟨_,Cd,_,Cd,a,_,_,_,Cd,Cd,l,yR (jO e),?_⟩;rw[hl];exact⟨b j,g,j,Cd,Cd,y,by rw[<- c,Fm.vP r e hl],rfl⟩
def bKz:yN [Ap,Ax,Bn,AL] [Ap,Ax] (yH aVi):=scM
def bW6:xP [Ap,Ax,Bn,AL] (yH aVi) Ca [] [] (lsN [(".0",.local),(Ca,.local)]):=
 lcM
def bVj:xP [Ap,Ax,Bn,AL] (yH aVi) "n" [Ax] [1] (lsN [("n",.local),(Ax,.free)]):=
 lcM
def bKb{oc:cQp}{od an:Option Nat}{b0:Array (Option cQp)}{kV a4 pm ct:cQp}(T:vQ mg)(C:cZt base c Tb)(hB:base.BuiltinsAt mg Tb) (lk:K.lookup f=some ⟨oc,od,.func (cXu AY AY (x5 aVi) (xS aVi) (yH aVi) .none kV a4 pm an (.ref c) ct),b0⟩) (a7:cZb K (.ref c) AY=true): xH P w K mg base CX0 2 f (cXu AY AY (x5 aVi) (xS aVi) (yH aVi) .none kV a4 pm an (.ref c) ct) [Ap,Ax] (bWo Tb):=by
 have sc:=bKz;refine bJ9 (k:=1) lk a7 sc (λvs H Q E h=>by obtain⟨O,da,n,L,rk,D,rfl,_⟩:=h;rfl) λA outer s H0 vs Q E hr h=>?_;suffices S:∃t,PSs (aXT CX0 P w K mg base [Ap,Ax,Bn,AL] AY (yH aVi) f (.ref c) A outer s H0 E).nox (xS aVi) t/\t {nx:=λ_ H'=>Q .non H',rt:=Q} (start [Ap,Ax,Bn,AL] vs) H0 by obtain⟨t,g,v⟩:=S;exact⟨t,g.nox,v⟩
 obtain⟨O,da,n,L,rk,D,rfl,m,b2,ho,hn,hT,q⟩:=h;refine⟨_,(yC (aXs (i:=2) bW6 rfl sc.nd rfl rfl (xQ (pv 0)) (λ_ _ _ _ _=>vC) (λ_ _ _ _ _=>(yZ yD))) (yC (wM cXg rfl (xQ (aKn (qual:="answers_to_each.<locals>.<lambda>") rfl T.b_sorted rfl T.b_range (yS yO rfl T.b_len xE (yA (pv 0) yD)) bVj rfl rfl rfl C hB hr rfl rfl (λ_ _ _ _ _=>rfl) (λ_ _ _ _ _ _ _=>y8 (yA (yL ixK (pv 1) (pv 0)) (yA (pv 0) yD))))) (xF (i:=3)) (yG (y6 (yM z8 (yL yK (pv 0) (pv 3)) x3) (yG (y0 (v8 cQU cQ3 cQ4 xL (yL yK (pv 2) (yL yK (pv 0) (pv 3))) (yA (pv 3) yD)))) yT))) (yG (yQ (pv 2))))),?_⟩;have B:(v5 n L).length=n:=by simp[v5]
 refine⟨_,Cd,O,Cd,⟨_,Cb m⟩,λa ha=>aWX (Cb m) ha (by omega) λH1 d X hD Z nd u=>?_⟩;rw[B]at Z;dsimp only[yW];have a6:=X _ _ m;have a3:=X _ _ b2;have b4:wK Tb H1:=by
  rcases hT with t|⟨c',t1,t2⟩
  ·exact .inl (X _ _ t)
  ·exact .inr ⟨c',X _ _ t1,X _ _ t2⟩
 refine⟨_,Cd,O,_,Cd,.inl (Cb a6),?_⟩;rw[B];refine⟨n,Cd,by omega,b4,λi=>(D i,(i:Int)),λi j _ _ z=>?_,λi H3 M k3 t3 R hR=>?_,λH5 l out k5 t5 nl N a9 h5=>⟨l,Cd,⟨_,Cb h5⟩,?_⟩⟩
 ·have:=congrArg Prod.snd z;simp only at this;omega
 ·refine⟨_,Cd,_,Cd,da,_,_,_,Cd,Cd,Cb (k3.lst a3),yR (aWL M),_,Cd,z2,λp hp=>hR p _ (yE hp _).t ?_ yB⟩;rcases t3 with t|⟨_,t,_⟩
  ·rw[yJ (yI t hp)]
  ·rw[yJ (yI t hp)]
 ·have hm:∀i∈out,i<n:=λi M=>cQT.mp (N.mem_iff.mp M);have kk:zA H0 H5:=X.t.trans k5;have nr:∀b o,H0 b=some o->b∉d:=λb o e z=>by rw[(u b z).2.1]at e;cases e
  have r5:∀b∈d,H5 b=some (.lst []):=λb y=>k5.lst (u b y).1;have nT:Tb∉d:=λz=>by
   have e:=r5 _ z;rcases t5 with t|⟨_,t,_⟩
   ·rw[t]at e;cases e
   ·rw[t]at e;cases e
  have b3:l∉d:=λz=>by rw[(u l z).1]at nl;cases nl
  have a1:a∉d:=λz=>(u a z).2.2 rfl;have a5:H5 a=some (.lst (d.map V.ref)):=k5.lst hD;refine zZ (xs:=out.map λi=>V.int (i:Nat)) (λt σ H=>∃lt,σ= [some (.ref O),some (.ref da),some (.ref a),lt]/\(∀b o,H5 b=some o->b∉d->H b=some o)/\
   ∀j b,d[j]? =some b->H b=some (.lst (((out.take t).filter λi=>decide (L i=some j)).map λi=>V.int (i:Nat)))) ?_ ?_ ?_ ?_
  ·exact⟨none,Cd,λb o e _=>e,λj b y=>r5 b (cQH y)⟩
  ·rintro t σ H ht ⟨lt,rfl,g,v⟩;exact Cb (g _ _ h5 b3)
  ·rintro t x σ H S ⟨lt,rfl,g,v⟩;rw[cQJ]at S;cases he:out[t]? with
   |none=>rw[he]at S;cases S
   |some i=>
    rw[he]at S;cases S;have M:=hm i (cQH he);have Y:out.take (t+1)=out.take t++ [i]:=by rw[cXA,he];rfl
    have G:H O=some (.lst (v5 n L)):=g _ _ (kk.lst m) (nr _ _ m);have b1:H a=some (.lst (d.map V.ref)):=g _ _ a5 a1;dsimp only[yW];refine⟨_,Cd,_,Cd,O,_,_,_,Cd,Cd,Cb G,yR (jO M),Cd,_,Cd,?_⟩;cases hl:L i with
    |none=>
     refine onF rfl ⟨_,Cd,g,λj b y=>?_⟩;rw[v j b y,Y,cXC];have: [i].filter (λi=>decide (L i=some j))= []:=by simp[hl]
     rw[this,cXr]
    |some j=>
     obtain⟨hj,_⟩:=ho.lt i j M hl;have I:j<d.length:=by omega
     have y:=cQn I;have a0:=v j _ y;refine onT rfl ?_;refine⟨_,Cd,_,Cd,_,Cd,O,_,_,_,Cd,Cd,Cb G,yR (jO M),?_⟩;rw[hl];refine⟨a,_,_,.ref d[j],Cd,Cd,Cb b1,yR (by rw[cQJ,y];rfl),.inl ⟨rfl,_,Cb a0⟩,_,Cd,d[j],_,_,Cd,Cd,a0,zlt ?_,_,Cd,λb o e a2=>?_,λU b r=>?_⟩
     ·rw[cQt];have:=cXn (λi=>decide (L i=some j)) (out.take t);have h3:=List.length_take_le t out;have h4:out.length=n:=by rw[N.length_eq,cXh]
      have h5:(out.take t).length<=out.length:=by rw[cXS];omega
      omega
     ·rw[yJ (λz=>a2 (by rw[z];exact cZG I))];exact g b o e a2
     ·rw[Y,cXC];by_cases J:U=j
      ·subst J;rw[y]at r;cases r;rw[yB];have: [i].filter (λi=>decide (L i=some U))= [i]:=by simp[hl]
       rw[this,cX2];rfl
      ·have a8:b≠d[j]:=λz=>by
        have h6:U<d.length:=(cQA.mp r).1;have h7:d[U]=b:=(cQA.mp r).2;exact J ((cZg (h₀:=h6) (h₁:=I) nd).mp (h7.trans z))
       rw[yJ a8,v U b r];have: [i].filter (λi=>decide (L i=some U))= []:=by simp[hl,cQ6 J]
       rw[this,cXr]
  ·rintro σ H ⟨lt,rfl,g,v⟩;rw[cQt,cXw]at v;refine⟨_,Cd,q H a d (λj=>out.filter λi=>decide (L i=some j)) (λb o nt e=>g b o (kk b o nt e) (nr b o e)) ?_ (g _ _ a5 a1) Z v ⟨λj i=>?_,λj=>?_⟩⟩
   ·rcases t5 with t|⟨c',t1,t2⟩
    ·exact .inl (g _ _ t nT)
    ·exact .inr ⟨c',g _ _ t1 nT,g _ _ t2 λz=>by rw[r5 _ z]at t2;cases t2⟩
   ·rw[cXf,N.mem_iff,cQT,decide_eq_true_eq]
   ·exact(a9.imp λh=>by simpa using h).sublist cZp
end
def aWV{L:Nat->Option Nat}{D:Nat->Int}{a:Nat->List Nat}(h:bYM n L D a)(j:Nat):(a j).length<=n:=
 Fm.wW ((h.ord j).imp λ{x y} e z=>by rw[z,Stree.vW]at e;cases e) λx b=>((h.mem j x).mp b).1
def bWz{L:Nat->Option Nat}{D:Nat->Int}{rk:Nat->Nat}(W:Fm.aJC n L D rk a b nx):nx.length<=n:=
 Fm.wW (W.aa.imp λ{x y} e z=>by have:=e x (List.prefix_refl _);rw[z,Stree.uD]at this;cases this) λx c=>(W.al x c).1
section
variable {K:cQq}
def bQM:yN [Ap,Ax,AC,Bn,"told","ahead",AL] [Ap,Ax,AC] (yH aVr):=scM
def aYZ(T:vQ mg)(g:FnG P w K mg base 2 AY [Ap,Ax] (bWo Tb))(p:FnG P w K mg base 2 "top_of" [Ap,AC] (bKL K))(F:Fun K B9 B9 aVr f fd): xH P w K mg base CX0 3 f fd [Ap,Ax,AC] (aWr Tb):=by
 have sc:=bQM;refine F.ok (k:=2) sc (λa6 A outer s H0 vs Q E hr h=>?_);obtain⟨la,da,n,L,y,D,i,rfl,Y,a4,ho,hn,hi,hT,q⟩:=h;refine⟨_,(yC (yU (i:=3) (xN g hr rfl (yA (pv 0) (yA (pv 1) yD)))) (yC (yU (i:=4) (yZ yD)) (yC (yU (i:=5) (yZ (yA (xN p hr rfl (yA (pv 0) (yA (pv 2) yD))) yD))) (yC (uG cXg (yM aXq (yS yO rfl T.b_len xE (yA (pv 5) yD)) yF) (yC (yU (i:=6) (aY5 cQU cVb cVc aYF (pv 5))) (yC (y0 (v8 cQU cQ3 cQ4 xL (pv 4) (yA (pv 6) yD))) (yG (y0 (v8 cQU PySem.F.slot_list_extend PySem.F.type_list_extend aYE (pv 5) (yA (yL yK (pv 3) (pv 6)) yD))))))) (yG (yQ (pv 4))))))),?_⟩;refine⟨_,Cd,_,Cd,la,da,n,L,y,D,Cd,Y,a4,ho,hn,hT,λO a rs kd k1 t1 ha a5 a1 hk=>?_⟩;dsimp only[yW];refine⟨z0,λr G=>?_⟩;dsimp only[yW];have k2:=yE G (.lst []);refine⟨_,Cd,_,Cd,la,n,L,y,i,Cd,Cb (k2 _ _ (k1.lst Y)),ho,hi,z1,λo N=>?_⟩;dsimp only[yW];have Z:O o=none:=k2.fresh N;have C:r≠o:=yI yB N;have k3:xG O (upd (upd O r (.lst [])) o (.lst [V.int (Fm.tp L y i:Nat)])):=k2.trans (yE N _);refine⟨λm σ H=>L2.Ez3 λ(c M:List Nat)(lt:Option V)=>σ= [some (.ref la),some (.ref da),some (.int (i:Nat)),some (.ref a),some (.ref r),some (.ref o),lt]/\xG O H/\H r=some (.lst (c.map λi=>V.int (i:Nat)))/\
   H o=some (.lst (M.map λi=>V.int (i:Nat)))/\Fm.aJC n L D y (Fm.tp L y i) c M.reverse/\m=n - c.length,
  ⟨n,[],[Fm.tp L y i],none,Cd,k3,by rw[yJ C];exact yB,yB,Fm.aJC.start ho hi,by simp⟩,?_⟩
 rintro m σ H ⟨c,M,lt,rfl,x,R,B,W,rfl⟩;refine⟨_,Cd,o,_,Cd,.inl (Cb B),_,_,Cd,Cd,_,Cd,?_⟩;rcases List.eq_nil_or_concat M with rfl|⟨d,v,rfl⟩
 ·refine onF rfl ⟨_,Cd,q H r c (λb u n e=>yI (k1 b u n e) G) (k1.trans x.t) ?_ R W.tt λk=>W.done k⟩;rcases t1 with t|⟨c',t1,t2⟩
  ·exact .inl (x _ _ t)
  ·exact .inr ⟨c',x _ _ t1,x _ _ t2⟩
 ·rw[List.concat_eq_append]at B W ⊢;have a0:decide ((((d++ [v]).map λi=>V.int (i:Nat)).length:Int) > 0)=true:=by
   refine decide_eq_true ?_;rw[cQt,cQL,cXx];omega
  refine onT a0 ⟨λX H'=>∃m',m'<n - c.length/\L2.Ez3 λ(c M:List Nat)(lt:Option V)=>X= [some (.ref la),some (.ref da),some (.int (i:Nat)),some (.ref a),some (.ref r),some (.ref o),lt]/\xG O H'/\H' r=some (.lst (c.map λi=>V.int (i:Nat)))/\
   H' o=some (.lst (M.map λi=>V.int (i:Nat)))/\Fm.aJC n L D y (Fm.tp L y i) c M.reverse/\m'=n - c.length,λX H' z=>z,?_⟩
  have J:((d++ [v]).map λi=>V.int (i:Nat))[((d++ [v]).map λi=>V.int (i:Nat)).length - 1]? =some (V.int (v:Nat)):=by simp
  have I:((d++ [v]).map λi=>V.int (i:Nat)).dropLast=d.map λi=>V.int (i:Nat):=by simp
  refine⟨_,Cd,.inl ⟨rfl,_,Cb B⟩,o,_,_,Cd,Cd,B,J,?_⟩;rw[I];dsimp only[yW];have W':Fm.aJC n L D y (Fm.tp L y i) c (v::d.reverse):=by
   have:(d++ [v]).reverse=v::d.reverse:=by simp
   rw[this]at W;exact W
  have hv:=(W'.al v cQG).1;have W2:=W'.step ho (zU:=(kd v).reverse) (λj=>by rw[List.mem_reverse];exact hk.mem v j) (by rw[List.pairwise_reverse];exact hk.ord v);have l1:=W'.len;have l2:=bWz W';have l3:=aWV hk v;have l4:=W2.len;rw[cXp,List.length_reverse]at l2;rw[cQL,cXx]at l4;have S:upd H o (.lst (d.map λi=>V.int (i:Nat))) r=some (.lst (c.map λi=>V.int (i:Nat))):=by rw[yJ C];exact R
  show aVH _ _ _ _;refine⟨_,Cd,.inl ⟨rfl,_,Cb S⟩,_,Cd,r,_,_,Cd,Cd,S,zlt (by rw[cQt];omega),?_⟩;have U:upd (upd H o (.lst (d.map λi=>V.int (i:Nat)))) r (.lst ((c.map λi=>V.int (i:Nat))++ [V.int (v:Nat)])) o=some (.lst (d.map λi=>V.int (i:Nat))):=by rw[yJ (cQ6 C)];exact yB
  have k6:xG O (upd (upd H o (.lst (d.map λi=>V.int (i:Nat)))) r (.lst ((c.map λi=>V.int (i:Nat))++ [V.int (v:Nat)]))):=zQ (zQ x Z) G;have a3:v<rs.length:=by omega
  have hb:=cQn a3;have a2:=k6 _ _ (a1 v _ hb);refine⟨_,Cd,.inl ⟨rfl,_,Cb U⟩,_,Cd,_,Cd,a,_,_,.ref rs[v],Cd,Cd,Cb (k6 _ _ ha),yR (by rw[cQJ,hb];rfl),o,rs[v],_,_,Cd,Cd,U,a2,zn (l:=(d.map λi=>V.int (i:Nat))++((kd v).map λi=>V.int (i:Nat))) (by rw[cQL,cQt,cQt];omega) |> λz=>by rw[cQL]at z;exact z,?_⟩;refine⟨n - (c.length+1),by omega,c++ [v],d++kd v,some (.int (v:Nat)),Cd,zQ k6 Z,?_,?_,?_,by rw[cQL,cXx]⟩
  ·rw[yJ C,yB,cX2];rfl
  ·rw[yB,cX2]
  ·rw[List.reverse_append];exact W2
end
end Thr
namespace Desk
open PySem L2 PyProof.Rows
open Bk (Row Rows)
def aZV(x:Str):Stmt->Bool
 |.FunctionDef n _ _ _ _ _ _ _ _ _=>n==x
 |_=>false
def bYo(x:Str):Stmt->Bool
 |.ClassDef n _ _ _ _ _ _ _ _ _ _=>n==x
 |_=>false
def bJ0:Stmt->List Stmt
 |.ClassDef _ _ _ b _ _ _ _ _ _ _=>b
 |_=> []
abbrev text:List Stmt:=PySem.Challenge.pw_letterdesk_k08_whole_put_right_and_back.main.body
def xI(x:Str):Stmt:=(text.find? (aZV x)).getD (.Pass ⟨0,0,0,0⟩)
def xK(c m:Str):Stmt:=((bJ0 ((text.find? (bYo c)).getD (.Pass ⟨0,0,0,0⟩))).find? (aZV m)).getD (.Pass ⟨0,0,0,0⟩)
def xE:cQ7 CN=some (.builtin CN):=dk
def vG:cQ7 AT=some (.builtin AT):=dk
def wD:cQ7 AB=some (.type AB):=dk
structure vQ(mg:Str->Option cQp):Prop where
 b_len:mg CN=none
 b_sorted:mg AT=none
 b_list:mg AB=none
structure Cl(K:cQq)(CB CL:Nat):Prop where
 b:Cls K CB
 l:Cls K CL
 letters:wS K CB B2
 shut:wS K CB Aj
 number:wS K CL AC
 way:wS K CL Ba
 day:wS K CL Aa
 partner:wS K CL Ab
 term:wS K CL AU
 link:wS K CL Ca
 file:wS K CL Bi
 copies:wS K CL BL
 void:wS K CL AW
abbrev zN:Option Nat->V:=Thr.zN
def W6(r:Row):Int:=if r.void then 0 else r.term
def qW(r:Row):V:=if r.void then .non else .str r.place
def aZ3(i:Nat)(r:Row)(c:Nat):List (Str×V):=
 [(AC,.int (i:Nat)),(Ba,.str r.way),(Aa,.int r.date),(Ab,.str r.partner),(AU,.int (W6 r)),(Ca,zN r.link),(Bi,qW r),(BL,.ref c),(AW,.bl r.void)]
def aWx(CL:Nat)(H:Hp)(b:Nat)(i:Nat)(r:Row)(c:Nat):Prop:=∃a,H b=some (.ins CL a (aZ3 i r c))
def stV(r:Row):List V:= [.str r.way,.int r.date,.str r.partner,.int (W6 r),zN r.link,qW r]
inductive bQZ(CL:Nat)(vs:List V)(H:Hp)(Q:VK)(_:XK):Prop|mk(x dx:Nat)(i:Nat)(way:Str)(d:Int)(who:Str)(t:Int)(_:vs= [.ref x,.int (i:Nat),.str way,.int d,.str who,.int t])(_:H x=some (.ins CL dx []))(_:∀ (c:Nat)(H':Hp),H c=none->H' x=some (.ins CL dx (aZ3 i ⟨way,d,who,t,none,"",false,[]⟩ c))->H' c=some (.lst [])->(∀b,b≠x->b≠c->H' b=H b)->Q .non H')
inductive aVG(CL:Nat)(vs:List V)(H:Hp)(Q:VK)(_:XK):Prop|mk(b:Nat)(i:Nat)(r:Row)(c:Nat)(_:vs= [.ref b])(_:aWx CL H b i r c)(_:∀t,H t=none->Q (.ref t) (upd H t (.tup (stV r))))
inductive bQS(CL:Nat)(vs:List V)(H:Hp)(Q:VK)(_:XK):Prop|mk(b b2:Nat)(i j:Nat)(r r2:Row)(c c2:Nat)(_:vs= [.ref b,.ref b2])(_:aWx CL H b i r c)(_:aWx CL H b2 j r2 c2)(_:Q (.bl (decide (r2.link=some i))) H)
inductive bJG(CL:Nat)(vs:List V)(H:Hp)(Q:VK)(_:XK):Prop|mk(b:Nat)(i:Nat)(r:Row)(c:Nat)(who:Str)(_:vs= [.ref b,.str who])(_:aWx CL H b i r c)(_:H c=some (.lst (r.copies.map V.str)))(_:Q (.bl (decide (who=r.partner) || r.copies.contains who)) H)
inductive bJN(CL:Nat)(vs:List V)(H:Hp)(Q:VK)(_:XK):Prop|mk(b dx:Nat)(i:Nat)(r:Row)(c:Nat)(_:vs= [.ref b])(_:H b=some (.ins CL dx (aZ3 i r c)))(_:Q .non (upd H b (.ins CL dx (aZ3 i {r with link:=none,void:=true} c))))
inductive bQ1(vs:List V)(H:Hp)(Q:VK)(_:XK):Prop|mk(way:Str)(_:vs= [.str way])(_:Q (.str (Bk.v6 way)) H)
section
variable {K:cQq}
abbrev bQo:Stmt:=xK CF AE
abbrev bQt:Stmt:=xK CF Bb
abbrev bQg:Stmt:=xK CF Bj
abbrev bVV:Stmt:=xK CF CG
abbrev bV4:Stmt:=xK CF "make_void"
abbrev bQp:Stmt:=xI C8
def bZL:yN [AA,AC,Ba,Aa,Ab,AU] [AA,AC,Ba,Aa,Ab,AU] (yH bQo):=scM
def bX8(T:Cl K CB CL)(F:Fun K AE "Letter.__init__" bQo f fd):xH P w K mg base CX0 (n+1) f fd [AA,AC,Ba,Aa,Ab,AU] (bQZ CL):=by
 have v:=bZL;refine F.ok (k:=n) v (λm A outer s H B Q E z h=>?_);obtain⟨x,e,i,u,d,o,t,rfl,p,q⟩:=h;refine⟨_,(yC (zT (pv 0) (pv 1) rfl) (yC (zT (pv 0) (pv 2) rfl) (yC (zT (pv 0) (pv 3) rfl) (yC (zT (pv 0) (pv 4) rfl) (yC (zT (pv 0) (pv 5) rfl) (yC (zT (pv 0) x3 rfl) (yC (zT (pv 0) yP rfl) (yC (zT (pv 0) (yZ yD) rfl) (yG (zT (pv 0) vJ rfl)))))))))),?_⟩;refine⟨_,Cd,_,Cd,x,CL,e,_,Cd,p,T.l,T.number,(show 0<1000 by decide),?_⟩;refine⟨_,Cd,_,Cd,x,CL,e,_,Cd,yB,T.l,T.way,(show 1<1000 by decide),?_⟩;refine⟨_,Cd,_,Cd,x,CL,e,_,Cd,yB,T.l,T.day,(show 2<1000 by decide),?_⟩;refine⟨_,Cd,_,Cd,x,CL,e,_,Cd,yB,T.l,T.partner,(show 3<1000 by decide),?_⟩;refine⟨_,Cd,_,Cd,x,CL,e,_,Cd,yB,T.l,T.term,(show 4<1000 by decide),?_⟩;refine⟨_,Cd,x,CL,e,_,Cd,yB,T.l,T.link,(show 5<1000 by decide),?_⟩;refine⟨_,Cd,x,CL,e,_,Cd,yB,T.l,T.file,(show 6<1000 by decide),?_⟩;refine⟨z0,λc j=>?_⟩;have a:x≠c:=yI yB j;refine⟨_,Cd,x,CL,e,_,Cd,(yJ a).trans yB,T.l,T.copies,(show 7<1000 by decide),?_⟩;refine⟨_,Cd,x,CL,e,_,Cd,yB,T.l,T.void,(show 8<1000 by decide),?_⟩;have g:H c=none:=by simp only[yJ (cQ6 a)]at j;exact j
 refine q c _ g yB (by rw[yJ (cQ6 a),yJ (cQ6 a),yB]) λb r y=>?_;simp only[yJ r,yJ y]
def bZQ:yN [AA] [AA] (yH bQt):=scM
def bZd(T:Cl K CB CL)(F:Fun K Bb "Letter.state" bQt f fd):xH P w K mg base CX0 (n+1) f fd [AA] (aVG CL):=by
 have g:=bZQ;refine F.ok (k:=n) g (λe A outer s H o Q E m h=>?_);obtain⟨b,i,r,c,rfl,⟨a,d⟩,q⟩:=h;refine⟨_,(yG (yQ (y8 (yA (y7 (pv 0) rfl) (yA (y7 (pv 0) rfl) (yA (y7 (pv 0) rfl) (yA (y7 (pv 0) rfl) (yA (y7 (pv 0) rfl) (yA (y7 (pv 0) rfl) yD))))))))),?_⟩;refine⟨_,Cd,b,CL,a,_,_,Cd,d,T.l,T.way,Cd,?_⟩;refine⟨_,Cd,b,CL,a,_,_,Cd,d,T.l,T.day,Cd,?_⟩;refine⟨_,Cd,b,CL,a,_,_,Cd,d,T.l,T.partner,Cd,?_⟩;refine⟨_,Cd,b,CL,a,_,_,Cd,d,T.l,T.term,Cd,?_⟩;refine⟨_,Cd,b,CL,a,_,_,Cd,d,T.l,T.link,Cd,?_⟩;refine⟨_,Cd,b,CL,a,_,_,Cd,d,T.l,T.file,Cd,?_⟩;exact⟨by show 6<=cQM;decide,λt j=>q t j⟩
def aJQ:decide (zN o=V.int (m:Nat))=decide (o=some m):=by
 cases o with
 |none=>rfl
 |some j=>show decide (V.int (j:Nat)=V.int (m:Nat))=decide (some j=some m);rw[Bool.eq_iff_iff];simp;omega
def bZC:yN [AA,Bc] [AA,Bc] (yH bQg):=scM
def bXZ(T:Cl K CB CL)(F:Fun K Bj "Letter.is_answered_by" bQg f fd):xH P w K mg base CX0 (n+1) f fd [AA,Bc] (bQS CL):=by
 have p:=bZC;refine F.ok (k:=n) p (λe A outer s H x Q E u h=>?_);obtain⟨b,o,i,j,r,g,c,v,rfl,⟨m,t⟩,⟨a,d⟩,q⟩:=h;refine⟨_,(yG (yQ (zO zK (y7 (pv 1) rfl) (y7 (pv 0) rfl)))),?_⟩;refine⟨_,Cd,o,CL,a,_,_,Cd,d,T.l,T.link,Cd,?_⟩;refine⟨_,Cd,b,CL,m,_,_,Cd,t,T.l,T.number,Cd,?_⟩;rw[<- aJQ]at q;refine⟨?_,q⟩;cases g.link<;> rfl
def vB(x:Str):∀ns:List Str,inV (.str x) (ns.map V.str)=ns.contains x
 |[]=>rfl
 |n::r=>by have a:=vB x r;unfold inV at a ⊢;rw[cXa,cZD,a,cZM];congr 1;show(n==x)=(x==n);rw[Bool.eq_iff_iff,beq_iff_eq,beq_iff_eq];exact eq_comm
def aZO:∀ns:List Str,(ns.map V.str).all Q9=true
 |[]=>rfl
 |n::r=>by rw[cXa,cJF,aZO r];rfl
def bV8:yN [AA,Bd] [AA,Bd] (yH bVV):=scM
def bVw(T:Cl K CB CL)(F:Fun K CG "Letter.has_gone_to" bVV f fd):xH P w K mg base CX0 (n+1) f fd [AA,Bd] (bJG CL):=by
 have p:=bV8;refine F.ok (k:=n) p (λj A outer s H u Q E t h=>?_);obtain⟨b,i,r,c,a,rfl,⟨e,g⟩,o,q⟩:=h;refine⟨_,(yG (yQ (bKl (zO zK (pv 1) (y7 (pv 0) rfl)) (aJd (zO vI (pv 1) (y7 (pv 0) rfl)))))),?_⟩;refine⟨_,Cd,_,Cd,b,CL,e,_,_,Cd,g,T.l,T.partner,Cd,Cd,?_⟩;have m:decide (V.str a=V.str r.partner)=decide (a=r.partner):=by rw[Bool.eq_iff_iff];simp
 refine⟨_,Cd,?_⟩;rw[m];cases d:decide (a=r.partner)with
 |true=>rw[d,Bool.true_or]at q;exact onT rfl q
 |false=>rw[d,Bool.false_or]at q;refine onF rfl ⟨_,Cd,_,Cd,b,CL,e,_,_,Cd,g,T.l,T.copies,Cd,c,_,Cd,.inl (Cb o),Cd,aZO _,?_⟩;rw[if_neg (by decide),vB];exact q
def bWj:yN [AA] [AA] (yH bV4):=scM
def bVI(T:Cl K CB CL)(F:Fun K "make_void" "Letter.make_void" bV4 f fd):xH P w K mg base CX0 (n+1) f fd [AA] (bJN CL):=by
 have e:=bWj;refine F.ok (k:=n) e (λd A outer s H m Q E j h=>?_);obtain⟨b,a,i,r,c,rfl,g,q⟩:=h;refine⟨_,(yC (zT (pv 0) vJ rfl) (yC (zT (pv 0) x3 rfl) (yC (zT (pv 0) x3 rfl) (yG (zT (pv 0) yF rfl))))),?_⟩;refine⟨_,Cd,b,CL,a,_,Cd,g,T.l,T.void,(show 9<1000 by decide),?_⟩;refine⟨_,Cd,b,CL,a,_,Cd,yB,T.l,T.link,(show 9<1000 by decide),?_⟩;refine⟨_,Cd,b,CL,a,_,Cd,yB,T.l,T.file,(show 9<1000 by decide),?_⟩;refine⟨_,Cd,b,CL,a,_,Cd,yB,T.l,T.term,(show 9<1000 by decide),?_⟩;rw[jG,jG,jG];exact q
def bZM:yN [Ba] [Ba] (yH bQp):=scM
def bX9(F:Fun K C8 C8 bQp f fd):xH P w K mg base CX0 (n+1) f fd [Ba] bQ1:=by
 have d:=bZM;refine F.ok (k:=n) d (λb A outer s H e Q E g h=>?_);obtain⟨a,rfl,q⟩:=h;refine⟨_,(yG (yQ (aV3 (yM zK (pv 0) yP) yP yP))),?_⟩;unfold Bk.v6 at q;have c:decide (V.str a=V.str "in")=decide (a="in"):=by rw[Bool.eq_iff_iff];simp
 refine⟨_,Cd,Cd,_,Cd,?_⟩;rw[c];by_cases hw:a="in"
 ·rw[if_pos hw]at q;exact onT (decide_eq_true hw) q
 ·rw[if_neg hw]at q;exact onF (decide_eq_false hw) q
end
end Desk
namespace L2
open PySem PySem.Spec PyProof.Rows
section
variable {κ:Type} [DecidableEq κ]
def aQl(kvs:List (κ×V))(k:κ):Option V:=(kvs.find? λa=>decide (a.1=k)).map (·.2)
def aVf(kvs:List (κ×V))(k:κ)(v:V):List (κ×V):=
 if(kvs.any λa=>decide (a.1=k))=true then kvs.map (λa=>if a.1=k then(a.1,v)else a)else kvs++ [(k,v)]
def wJ{p:κ×V}{r:List (κ×V)}{k:κ}(e:p.1=k):aQl (p::r) k=some p.2:=by simp[aQl,cZO,e]
def wI{p:κ×V}{r:List (κ×V)}{k:κ}(e:¬p.1=k):aQl (p::r) k=aQl r k:=by simp[aQl,cZO,e]
def aQm(k:κ):∀kvs:List (κ×V),(kvs.any λa=>decide (a.1=k))=(aQl kvs k).isSome
 |[]=>rfl
 |p::r=>by
  rw[cZD];by_cases e:p.1=k
  ·simp only[wJ e,decide_eq_true e,Bool.true_or,Option.isSome_some]
  ·rw[wI e,decide_eq_false e,Bool.false_or];exact aQm k r
def aWu(k j:κ)(y:V):∀kvs:List (κ×V),aQl (kvs.map λa=>if a.1=k then(a.1,y)else a) j=(aQl kvs j).map λx=>if j=k then y else x
 |[]=>rfl
 |p::r=>by
  have b:=aWu k j y r;rw[cXa];by_cases h:p.1=k
  ·rw[if_pos h];by_cases e:p.1=j
   ·rw[wJ (p:=(p.1,y)) e,wJ e,Option.map_some,if_pos (e.symm.trans h)]
   ·rw[wI (p:=(p.1,y)) e,wI e,b]
  ·rw[if_neg h];by_cases e:p.1=j
   ·rw[wJ (p:=p) e,wJ e,Option.map_some,if_neg (λz=>h (e.trans z))]
   ·rw[wI (p:=p) e,wI e,b]
def aJA(k j:κ)(y:V):∀kvs:List (κ×V),aQl kvs k=none->aQl (kvs++ [(k,y)]) j=if j=k then some y else aQl kvs j
 |[],_=>by
  by_cases e:k=j
  ·rw[if_pos e.symm];exact wJ (p:=(k,y)) e
  ·rw[if_neg (λz=>e z.symm)];exact wI (p:=(k,y)) e
 |p::r,hn=>by
  rw[cJ7];have a:¬p.1=k:=λz=>by rw[wJ z]at hn;cases hn
  rw[wI a]at hn;have b:=aJA k j y r hn;by_cases e:p.1=j
  ·rw[wJ e,wJ e,if_neg (λz=>a (e.trans z))]
  ·rw[wI e,wI e,b]
def bJg(kvs:List (κ×V))(k j:κ)(y:V):aQl (aVf kvs k y) j=if j=k then some y else aQl kvs j:=by
 unfold aVf;by_cases a:(kvs.any λc=>decide (c.1=k))=true
 ·rw[if_pos a,aWu];rw[aQm]at a;by_cases e:j=k
  ·obtain⟨x,b⟩:=Option.isSome_iff_exists.mp a;rw[if_pos e,e,b,Option.map_some,if_pos rfl]
  ·rw[if_neg e];cases aQl kvs j with
   |none=>rfl
   |some x=>rw[Option.map_some,if_neg e]
 ·rw[if_neg a];refine aJA k j y kvs ?_;rw[aQm]at a;cases q:aQl kvs k with
  |none=>rfl
  |some x=>rw[q]at a;exact(a rfl).elim
def qJ(kvs:List (κ×V))(k:κ)(v:V):(aVf kvs k v).length<=kvs.length+1:=by
 unfold aVf;split
 ·rw[cQt];omega
 ·rw[cQL,cXp,cZw];omega
def aZA.isSome_eq(r:aZA o u):o.isSome=u.isSome:=by
 cases o with
 |none=>cases u with
  |none=>rfl
  |some _=>exact(show False from r).elim
 |some _=>cases u with
  |none=>exact(show False from r).elim
  |some _=>rfl
def KV.val{kvs:List (κ×V)}{vs:List (κ×cQp)}(r:KV kvs vs)(k:κ):aZA (aQl kvs k) (cJO vs k):=by
 unfold KV at r;induction r with
 |nil=>exact cXN
 |@cons p q i a h t f=>
  obtain⟨d,g⟩:=h;by_cases e:p.1=k
  ·have c:q.1=k:=d.symm.trans e;have b:cJO (q::a) k=some q.2:=by simp[cJO,cZO,c]
   rw[wJ e,b];exact g
  ·have c:¬q.1=k:=λz=>e (d.trans z);have b:cJO (q::a) k=cJO a k:=by simp[cJO,cZO,c]
   rw[wI e,b];exact f
def KV.any{kvs:List (κ×V)}{vs:List (κ×cQp)}(r:KV kvs vs)(k:κ):(kvs.any λa=>decide (a.1=k))=vs.any λa=>decide (a.1=k):=by
 unfold KV at r;induction r with
 |nil=>rfl
 |cons h t b=>rw[cZD,cZD,b,h.1]
def KV.repl{kvs:List (κ×V)}{vs:List (κ×cQp)}(r:KV kvs vs)(k:κ)(f:zL y u): KV (kvs.map λa=>if a.1=k then(a.1,y)else a) (vs.map λa=>if a.1=k then(a.1,u)else a):=by
 unfold KV at r ⊢;induction r with
 |nil=>exact .nil
 |@cons p q i g h t c=>
  rw[cXa,cXa];refine .cons ?_ c;obtain⟨b,d⟩:=h;by_cases e:p.1=k
  ·rw[if_pos e,if_pos (b.symm.trans e)];exact⟨b,f⟩
  ·rw[if_neg e,if_neg (λz=>e (b.trans z))];exact⟨b,d⟩
def KV.put{kvs:List (κ×V)}{vs:List (κ×cQp)}(r:KV kvs vs)(k:κ)(a:zL y u):KV (aVf kvs k y) (stored vs k u):=by
 unfold aVf stored;rw[r.any k];by_cases e:(vs.any λb=>decide (b.1=k))=true
 ·rw[if_pos e,if_pos e];exact r.repl k a
 ·rw[if_neg e,if_neg e];exact Paired.snoc r ⟨rfl,a⟩
def KV.length{kvs:List (κ×V)}{vs:List (κ×cQp)}(r:KV kvs vs):kvs.length=vs.length:=cZS r
end
def bXF{k:Key}(r:zL (kV k) u):(zG P w).is k u=true:=by
 cases k with
 |inl i=>obtain⟨t,e⟩:=(show ∃t,u=Value.int i t from r);subst e;exact aJX P w i t
 |inr x=>obtain⟨t,e⟩:=(show ∃t,u=Value.str x t from r);subst e;exact qK P w x t
def aZW{P:cQO}{w:cQ1}:∀ {a:List Key} {us:List cQp},xY (a.map kV) us->ItemsAre (zG P w) a us
 |[],_,r=>by rw[List.map_nil]at r;cases r;exact .nil
 |k::a,_,r=>by
  rw[cXa]at r;cases r with
  |cons h t=>exact .cons (bXF h) (aZW t)
abbrev KT(H:Hp):List (List Key×V)->List (List Key×Addr×cQp)->Prop:=cXk λp q=>p.1=q.1/\H q.2.1=some (.tup (p.1.map kV))/\zL p.2 q.2.2
def KT.val(r:KT H kvs xs)(k:List Key):aZA (aQl kvs k) ((atKey xs k).map (·.2)):=by
 induction r with
 |nil=>exact cXN
 |@cons p q i a h t f=>
  obtain⟨d,_,g⟩:=h;by_cases e:p.1=k
  ·have c:q.1=k:=d.symm.trans e;have b:atKey (q::a) k=some q.2:=by simp[atKey,cZO,c]
   rw[wJ e,b];exact g
  ·have c:¬q.1=k:=λz=>e (d.trans z);have b:atKey (q::a) k=atKey a k:=by simp[atKey,cZO,c]
   rw[wI e,b];exact f
def KT.repl(r:KT H kvs xs)(k:List Key)(g:zL y u): KT H (kvs.map λb=>if b.1=k then(b.1,y)else b) (xs.map (putAt k u)):=by
 induction r with
 |nil=>exact .nil
 |@cons p q j i h t d=>
  rw[cXa,cXa];refine .cons ?_ d;obtain⟨a,c,f⟩:=h;unfold putAt;by_cases e:p.1=k
  ·rw[if_pos e,if_pos (a.symm.trans e)];exact⟨a,c,g⟩
  ·rw[if_neg e,if_neg (λz=>e (a.trans z))];exact⟨a,c,f⟩
def KT.put(r:KT H kvs xs)(k:List Key)(c:H b=some (.tup (k.map kV)))(a:zL y u): KT H (aVf kvs k y) (storedH xs k b u):=by
 have e:(kvs.any λd=>decide (d.1=k))=(atKey xs k).isSome:=by rw[aQm,(r.val k).isSome_eq,Option.isSome_map]
 unfold aVf storedH;rw[e];by_cases q:(atKey xs k).isSome=true
 ·rw[if_pos q,if_pos q];exact r.repl k a
 ·rw[if_neg q,if_neg q];exact Paired.snoc r ⟨rfl,c,a⟩
def KT.keeps(r:KT H kvs xs)(d:∀b c,H b=some (.tup c)->a b=some (.tup c)):KT a kvs xs:=
 Paired.mapP r λ_ _ z=>⟨z.1,d _ _ z.2.1,z.2.2⟩
section
variable {P:cQO}{w:cQ1}{H:Hp}{h:Heap}{a:Addr}
def bKu(ok:HOk P w H h)(e:Rd H a u):zJ P w H h a u:=e.ok ok
def bWV(ok:HOk P w H h)(e:Rd H a (.dK kvs)):kvs.length<=cQM/\(a==cJl)=false/\∃b,KV kvs b/\h.DictOf (zG P w) a b:=
 show zJ P w H h a (.dK kvs)from bKu ok e
def bYk(ok:HOk P w H h)(e:H a=some (.dK kvs)):kvs.length<=cQM/\(a==cJl)=false/\∃b,KV kvs b/\h.DictOf (zG P w) a b:=bWV ok (.inl e)
def aYr{b:List Key}(ok:HOk P w H h)(e:H a=some (.tup (b.map kV))):(tupleKind (zG P w)).is h b a:=by
 obtain⟨_,c,r,o,d,f,n,g⟩:=(show zJ P w H h a (.tup (b.map kV))from ok a _ e);exact⟨o,c.toArray,n,d,f,g,by simpa using aZW r⟩
def bWW(ok:HOk P w H h)(e:Rd H a (.dT kvs)):kvs.length<=cQM/\(a==cJl)=false/\ ∃c,KT H kvs c/\h.DictOfH (tupleKind (zG P w)) a c:=by
 obtain⟨z,y,c,r,o,f,j,k,u,i,n,s⟩:=(show zJ P w H h a (.dT kvs)from bKu ok e);refine⟨z,y,c,r,o,f,j,k,u,i,n,λx b=>?_,s⟩;have all:∀ {l:List (List Key×V)} {m:List (List Key×Addr×cQp)},KT H l m->∀x∈m,(tupleKind (zG P w)).is h x.1 x.2.1:=by
  intro l m q;induction q with
  |nil=>intro x b;exact nomatch b
  |@cons p q A v d t g=>
   intro x b;rcases cQz.mp b with e|b
   ·subst e;exact aYr ok (by rw[<- d.1];exact d.2.1)
   ·exact g x b
 exact all r x b
def w9(ok:HOk P w H h)(e:H a=some (.dT kvs)):kvs.length<=cQM/\(a==cJl)=false/\
  ∃b,KT H kvs b/\h.DictOfH (tupleKind (zG P w)) a b:=bWW ok (.inl e)
end
def bWG(H:Hp)(a:Addr)(y:V)(r:Option V):Prop:=
 (∃kvs k,Rd H a (.dK kvs)/\y=kV k/\r=aQl kvs k)\/∃kvs k b,Rd H a (.dT kvs)/\y= .ref b/\H b=some (.tup (k.map kV))/\r=aQl kvs k
def bWH(H:Hp)(a:Addr)(y v:V)(c:Hp):Prop:=
 (∃kvs k,H a=some (.dK kvs)/\y=kV k/\kvs.length<cQM/\c=upd H a (.dK (aVf kvs k v)))\/
 ∃kvs k b,H a=some (.dT kvs)/\y= .ref b/\H b=some (.tup (k.map kV))/\kvs.length<cQM/\c=upd H a (.dT (aVf kvs k v))
def bWG.k{H:Hp}{a:Addr}{kvs:List (Key×V)}{k:Key}(e:H a=some (.dK kvs)):bWG H a (kV k) (aQl kvs k):= .inl ⟨kvs,k,.inl e,Cd,rfl⟩
def bWH.k{H:Hp}{a:Addr}{kvs:List (Key×V)}{k:Key}{v:V}(e:H a=some (.dK kvs))(hl:kvs.length<cQM):bWH H a (kV k) v (upd H a (.dK (aVf kvs k v))):= .inl ⟨kvs,k,e,Cd,hl,rfl⟩
section
variable {X:Cx}{pins:List (Addr×Obj)}{σ:St}{H:Hp}{s:cQr}{a:Addr}{y v:V}{u r:cQp}{o:Option V}{A:cXi}{E:cQp->cQr->Prop}
def Inv.big(I:Inv X pins σ H s):cJl<s.heap.objs.size:=by
 have h:cQX<s.heap.objs.size:=(I.mod.glob.keeps I.bk).lt;exact Nat.lt_trans (by decide) h
def bJ3{Q:cQp->cQr->Prop}(n:A.units+1<cLine)(I:Inv X pins σ H s)(g:bWG H a y o)(m:zL y u)(h:∀j,Inv X pins σ H j->Q (.bool (!o.isSome)) j): cQw (cQx X.prog X.w) A (cXW .NotIn u (.ref a)) Q E s:=by
 rcases g with⟨kvs,k,e,d,l⟩|⟨kvs,k,b,e,d,p,l⟩
 ·subst d;obtain⟨z,i,t,c,f⟩:=bWV I.hok e;refine wpAny_notIn_of (bXF m) i f.mapOf ?_;rw[<- (c.val k).isSome_eq,<- l];exact h _ (I.tok _)
 ·subst d;cases (show u=Value.ref b from m);obtain⟨z,i,r,c,f⟩:=bWW I.hok e;refine wpAny_notIn_heap (tupleKind_room_in1 n) (aYr I.hok p) i f ?_;have q:=(c.val k).isSome_eq;rw[Option.isSome_map]at q;rw[<- q,<- l];exact h _ (I.tok _)
def aK7(I:Inv X pins σ H s)(h:Mut (H a))(g:cZr a s.heap h')(i:∃q,h'.get? a=some q)(c:zJ X.prog X.w (upd H a d) h' a d): Inv X pins σ (upd H a d) {s with heap:=h',toks:=t'}:=
 I.write (x:=a) (e:=a) h (.inl rfl) (λb q f z=>(g.2 b f).trans z) i c
def bWU(z:kvs.length<=cQM)(d:(a==cJl)=false)(b:KV kvs vs)(e:h'.DictOf (zG P w) a vs):
  zJ P w c h' a (.dK kvs):=⟨z,d,vs,b,e⟩
def aK6{Q:Unit->cQr->Prop}(R:A.units+1<cLine)(I:Inv X pins σ H s)(g:bWH H a y v x)(G:zL y u)(C:zL v r)(h:∀D,Inv X pins σ x D->Q () D): cQw (cQx X.prog X.w) A (setItem (.ref a) u r) Q E s:=by
 rcases g with⟨kvs,k,e,j,l,t⟩|⟨kvs,k,b,e,j,F,l,t⟩
 ·subst j t;obtain⟨z,p,U,d,m⟩:=bYk I.hok e;have o:U.length<=cQM:=by rw[<- d.length];exact z
  have hl:(aVf kvs k v).length<=cQM:=by have:=qJ kvs k v;omega
  refine wpAny_setItem_pairs (hsz:=o) (bXF G) m λJ f n=>h _ ?_;have N:∃q,J.get? a=some q:=let ⟨q,_,_,i,_⟩:=f;⟨q,i⟩;exact aK7 I (by rw[e];exact cXN) n N (bWU hl p (d.put k C) f)
 ·subst j t;cases (show u=Value.ref b from G);obtain⟨z,p,K,d,m⟩:=w9 I.hok e;have o:K.length<=cQM:=by rw[<- cZS d];exact z
  have hl:(aVf kvs k v).length<=cQM:=by have:=qJ kvs k v;omega
  refine wpAny_setItem_heap (hsz:=o) (tupleKind_room_in1 R) (aYr I.hok F) m λJ f n=>h _ ?_;obtain⟨q,L,O,i,T,M,P,_,S⟩:=f;refine aK7 I (by rw[e];exact cXN) n ⟨q,i⟩ ⟨hl,p,_,(d.put k F C).keeps λc V B=>?_,q,L,O,i,T,M,P,S⟩;rw[yJ (aXm B e (λz=>nomatch z))];exact B
end
section
variable {X:Cx}{pins:List (Addr×Obj)}{σ:St}{H:Hp}{s:cQr}{a:Addr}{kvs:List (Key×V)}{k:Key}{u:cQp}{A:cXi}{E:cQp->cQr->Prop}
end
def bYN(i:Expr):Prop:=∀a b,subscripted i false a b=operate [a,b] (getItem a b)
def bWq{prog:cQO}{w:cQ1}{A:cXi}{E:cQp->cQr->Prop}{s:cQr}{env:Env}{value a:Expr}{pos:Pos}{T id:String}{Q:cQp->cQr->Prop} (hl:typeLookup (.type T) CC=pure (some (.builtin id))) (k:bYN a) (h:cQw (cQx prog w) A (eval value env) (λo d=>cQw (cQx prog w) A (eval a env) (λi b=>b.TypeIs o T/\cQw (cQx prog w) A (getItem o i) Q E b) E d) E s): cQw (cQx prog w) A (eval (.Subscript value a pos) env) Q E s:=by
 refine Subscript_ (cXs h (λo d f=>cXs f (λi b c=>?_) λ_ _ x=>x) λ_ _ x=>x);obtain⟨j,c⟩:=c;unfold subscriptTail;refine cQo ?_;rw[getitemInPython_of_ne j.not_modules];refine cQo (wpAny_specialOf j hl ?_);have fin:cQw (cQx prog w) A (subscripted a false o i) (λr e=>cQw (cQx prog w) A (letTemporaryGo value o r >>=λ_=>pure r) Q E e) E b:=by rw[k o i];exact wpAny_operating (cXs c (λr e g=>cQo (wpAny_letTemporaryGo (cQs g))) λ_ _ x=>x)
 first
  |exact cQs (cQo fin)
  |exact cQo (cQs (cQo fin))
  |exact cQo fin
inductive bZ4(Q:VK)(y:V)(x:V)(H2:Hp):Prop|mk(a o)(_:x= .ref a)(_:bWG H2 a y o)(_:Q (.bl (!o.isSome)) H2)
def bWs(ty td:TE):TE:=λσ H Q=>ty σ H λy a=>td σ a λx b=>bZ4 Q y x b
inductive bKv(D:aKT)(σ:St)(v:V)(x:V)(y:V)(H3:Hp):Prop|mk(a H4)(_:x= .ref a)(_:bWH H3 a y v H4)(_:D.nx σ H4)
def bYv(td ty tv:TE):TS:=λD σ H=>tv σ H λv b=>td σ b λx c=>ty σ c λy a=>bKv D σ v x y a
section
variable {X:Cx}{o i e value:Expr}{pos pos' tpos:Pos}{td ty tv:TE}
def aY4(e:X.A.units+1<cLine)(b:PE X i ty)(c:PE X o td):PC X .NotIn i o (bWs ty td):=by
 intro pins s σ H Q I h;refine thn (b pins s σ H _ I h) λiv s1 ⟨y,H1,I1,ry,q1⟩=>thn (c pins s1 σ H1 _ I1 q1) λu s2 ⟨x,H2,I2,rx,a,ov,ex,g,q2⟩=>?_;subst ex;obtain rfl:u=Value.ref a:=rx;exact bJ3 e I2 g ry λf d=>⟨.bl (!ov.isSome),H2,d,Cd,q2⟩
def bVN(j:X.A.units+1<cLine)(b:PE X o td)(c:PE X i ty)(d:PE X value tv)(e:swapsWith value (some (.Subscript o i pos')) pos.line X.env=pure false): PS X (.Assign [.Subscript o i pos'] value pos) (bYv td ty tv):=by
 intro pins s σ H D I h;refine wpAny_Assign_Subscript (thn (d pins s σ H _ I h) λr s1 ⟨v,H1,I1,rv,q1⟩=>thn (b pins s1 σ H1 _ I1 q1) λu s2 ⟨x,H2,I2,rx,q2⟩=>thn (c pins s2 σ H2 _ I2 q2) λiv s3 ⟨y,H3,I3,ry,a,H4,ex,g,q3⟩=>?_) e;subst ex;obtain rfl:u=Value.ref a:=rx;exact aK6 j I3 g ry rv λk f=>⟨σ,H4,f,q3⟩
end
def bXt(h:Heap)(a:cJl<h.objs.size):zJ P w H (h.push {cls:= .type "dict",data:= .dict #[] }) h.objs.size (.dK []):=
 ⟨cXo _,beq_eq_false_iff_ne.mpr (cQ6 (cQP a)),[],.nil,Heap.DictOf.new h⟩
def bKO:TE:=λ_ H Q=>∀p,H p=none->Q (.ref p) (upd H p (.dK []))
section
variable {X:Cx}{pos:Pos}
def bZn:PE X (.Dict [] [] pos) bKO:=λpins s σ H Q I h=>
 wpAny_Dict_empty ⟨.ref s.heap.objs.size,_,I.laid (a:=s.heap.objs.size) (o:= .dK []) (t':=s.toks) (λ_ _ q=>cQu _ q) (cQv _) (bXt s.heap I.big),Cd,h _ (I.hok.fresh (cQv _))⟩
end
structure M1(X:Cx)(o:Expr)(m:Str)(apos:Pos)(e:Expr)(cpos:Pos):Prop where
 base:cJg o m X.env (eval o X.env)=eval o X.env
 few:((cX6 cpos (cQ5 [e] X.env)).all (λx=> !x.1) && (cJD cpos (cZK [] X.env)).all (λx=>x.1.isSome)
  && decide (([e]:List Expr).length+([]:List Keyword).length+(if([]:List Keyword).isEmpty then 0 else 1)<30))=true
 line:(apos.endLine==cpos.line)=true
 trees:cX6 cpos (cQ5 [e] X.env)= [(false,eval e X.env)]
structure M2(X:Cx)(o:Expr)(m:Str)(apos:Pos)(e f:Expr)(cpos:Pos):Prop where
 base:cJg o m X.env (eval o X.env)=eval o X.env
 few:((cX6 cpos (cQ5 [e,f] X.env)).all (λx=> !x.1) && (cJD cpos (cZK [] X.env)).all (λx=>x.1.isSome)
  && decide (([e,f]:List Expr).length+([]:List Keyword).length+(if([]:List Keyword).isEmpty then 0 else 1)<30))=true
 line:(apos.endLine==cpos.line)=true
 trees:cX6 cpos (cQ5 [e,f] X.env)= [(false,eval e X.env),(false,eval f X.env)]
section
variable {X:Cx}{pins:List (Addr×Obj)}{σ:St}{H:Hp}{s:cQr}{a:Addr}{y d:V}{u r:cQp}{o:Option V}{A:cXi}{E:cQp->cQr->Prop}
end
section
variable {X:Cx}{o e f:Expr}{apos cpos:Pos}{td ty tx:TE}
end
section
variable {X:Cx}{pins:List (Addr×Obj)}{σ:St}{H:Hp}{s:cQr}{a:Addr}{kvs:List (Key×V)}{A:cXi}{E:cQp->cQr->Prop}
end
section
variable {X:Cx}{pins:List (Addr×Obj)}{σ:St}{H:Hp}{s:cQr}{a:Addr}{y:V}{u:cQp}{A:cXi}{E:cQp->cQr->Prop}
end
end L2
namespace L2
open PySem PySem.Spec PyProof.Rows
section
variable {κ:Type} [DecidableEq κ]
end
end L2
namespace Days
open PySem L2 PyProof.Rows
def aZV(x:Str):Stmt->Bool
 |.FunctionDef n _ _ _ _ _ _ _ _ _=>n==x
 |_=>false
def xI(x:Str):Stmt:=(PySem.Challenge.pw_letterdesk_k08_whole_put_right_and_back.main.body.find? (aZV x)).getD (.Pass ⟨0,0,0,0⟩)
abbrev aVm:Stmt:=xI "counts"
abbrev bV0:Stmt:=xI Au
abbrev aZd:Stmt:=xI Be
abbrev bQr:Stmt:=xI CO
def aKZ:cQ7 "min"=some (.builtin "min"):=dk
def vG:cQ7 AT=some (.builtin AT):=dk
def bWT:cQ7 B6=some (.type B6):=dk
structure vQ(mg:Str->Option cQp):Prop where
 b_len:mg CN=none
 b_min:mg "min"=none
 b_sum:mg "sum"=none
 b_sorted:mg AT=none
 b_isinstance:mg AV=none
 b_int:mg As=none
 b_str:mg Ah=none
 b_bool:mg An=none
 b_list:mg AB=none
 b_tuple:mg AD=none
 b_set:mg B6=none
 b_range:mg Ag=none
 b_reversed:mg "reversed"=none
 week:∃t,mg "WEEK"=some (.int 7 t)
 opens:∃t,mg "OPEN_DAYS"=some (.int 5 t)
inductive bQ0(vs:List V)(H:Hp)(Q:VK)(_:XK):Prop|mk(d)(_:vs= [.int d])(_:Q (.bl (Dm.opn d)) H)
inductive bQ2(vs:List V)(H:Hp)(Q:VK)(_:XK):Prop|mk(d)(_:vs= [.int d])(_:Q (.int (Dm.place d)) H)
inductive aWi(K:cQq)(vs:List V)(H:Hp)(Q:VK)(_:XK):Prop|mk(a:Nat)(ns:List Int)(_:vs= [.ref a])(_:SqL K H a (ns.map V.int))(_:ns.length<64)(_:∀ (r:Nat)(H':Hp)(C:List Int),xG H H'->H r=none->C.Pairwise (·<·)->(∀d,d∈C↔d∈ns/\Dm.opn d=true)->C.length<=ns.length->H' r=some (.lst (C.map V.int))->Q (.ref r) H')
inductive aWk(K:cQq)(vs:List V)(H:Hp)(Q:VK)(_:XK):Prop|mk(a:Nat)(ns:List Int)(d:Int)(_:vs= [.ref a,.int d])(_:SqL K H a (ns.map V.int))(_:Q (.bl (Dm.cts ns d)) H)
abbrev bYw:Stmt:=xI CV
abbrev bQk:Stmt:=xI "day_at"
inductive bQW(vs:List V)(H:Hp)(Q:VK)(_:XK):Prop|mk(d)(_:vs= [.int d])(_:Q (.int (Dm.zS d)) H)
inductive bKJ(K:cQq)(vs:List V)(H:Hp)(Q:VK)(_:XK):Prop|mk(a:Nat)(ns:List Int)(d t:Int)(_:vs= [.ref a,.int d,.int t])(_:SqL K H a (ns.map V.int))(_:ns.length<64)(_:1<=t)(_:∀ (H':Hp)(D:Int),xG H H'->Dm.Due ns d t D->Q (.int D) H')
section
variable {K:cQq}
def bWe:yN [Ak] [Ak] (yH bV0):=scM
def bVD(T:vQ mg)(F:Fun K Au Au bV0 f fd):xH P w K mg base CX0 1 f fd [Ak] bQ0:=by
 obtain⟨g,b⟩:=T.week;obtain⟨i,a⟩:=T.opens;have e:=bWe;refine F.ok (k:=0) e (λc A outer s H l Q E j h=>?_);obtain⟨d,rfl,q⟩:=h;refine⟨_,(yG (yQ (zO vR (yV y3 (pv 0) (uF (v:= .int 7) rfl b ⟨_,rfl⟩)) (uF (v:= .int 5) rfl a ⟨_,rfl⟩)))),?_⟩;exact⟨_,Cd,_,_,Cd,Cd,(show(0:Int)<7 by decide),_,_,Cd,Cd,q⟩
def bZO:yN [Ak] [Ak] (yH bQr):=scM
def bZb(T:vQ mg)(F:Fun K CO CO bQr f fd):xH P w K mg base CX0 1 f fd [Ak] bQ2:=by
 obtain⟨i,b⟩:=T.week;obtain⟨j,a⟩:=T.opens;have g:=bZO;refine F.ok (k:=0) g (λc A outer s H m Q E l h=>?_);obtain⟨d,rfl,q⟩:=h;refine⟨_,(yG (yQ (yV zC (yV aVZ (yV Z2 (pv 0) (uF (v:= .int 7) rfl b ⟨_,rfl⟩)) (uF (v:= .int 5) rfl a ⟨_,rfl⟩)) (yS (aK1 rfl) rfl T.b_min aKZ (yA (yV y3 (pv 0) (uF (v:= .int 7) rfl b ⟨_,rfl⟩)) (yA (yV w6 (uF (v:= .int 5) rfl a ⟨_,rfl⟩) yF) yD)))))),?_⟩;refine⟨_,Cd,_,_,Cd,Cd,⟨by decide,by decide⟩,_,_,Cd,Cd,.inr ⟨by decide,by decide⟩,_,Cd,_,_,Cd,Cd,(show(0:Int)<7 by decide),_,_,Cd,Cd,_,_,Cd,_,_,Cd,Cd,?_⟩;have e:(if 5 - 1<d % 7 then 5 - 1 else d % 7:Int)=if 4<d % 7 then 4 else d % 7:=rfl;exact q
def bQF:yN [Aj,Ak] [Aj,Ak] (yH aVm):=scM
def jK(d:Int):∀ns:List Int,inV (.int d) (ns.map V.int)=ns.contains d
 |[]=>rfl
 |n::r=>by have a:=jK d r;unfold inV at a ⊢;rw[cXa,cZD,a,cZM];congr 1;show(n==d)=(d==n);rw[Bool.eq_iff_iff,beq_iff_eq,beq_iff_eq];exact eq_comm
def uZ:∀ns:List Int,(ns.map V.int).all Q9=true
 |[]=>rfl
 |n::r=>by rw[cXa,cJF,uZ r];rfl
def aYS(T:vQ mg)(b:FnG P w K mg base 1 Au [Ak] bQ0)(F:Fun K "counts" "counts" aVm f fd):xH P w K mg base CX0 2 f fd [Aj,Ak] (aWk K):=by
 have l:=bQF;refine F.ok (k:=1) l (λg A outer s H m Q E i h=>?_);obtain⟨a,j,d,rfl,e,q⟩:=h;refine⟨_,(yG (yQ (aV2 (xN b i rfl (yA (pv 1) yD)) (aJd (zO Q5 (pv 1) (pv 0)))))),?_⟩;refine⟨_,Cd,d,Cd,_,Cd,?_⟩;unfold Dm.cts at q;cases c:Dm.opn d with
 |false=>rw[c]at q;exact q
 |true=>rw[c,Bool.true_and]at q;rw[if_pos rfl];refine⟨_,Cd,_,Cd,a,_,Cd,.inl e,Cd,uZ j,?_⟩;rw[if_pos rfl,jK];exact q
def bQE:yN [Aj] [Aj] (yH aZd):=scM
def aYu:xP [Aj] (yH aZd) Ak [] [] (lsN [(".0",.local),(Ak,.local),(Au,.globalImplicit)]):=
 lcM
def aQr(p:Int->Bool):∀ns:List Int,((ns.map V.int).filter λv=>match v with|.int d=>p d|_=>false)=(ns.filter p).map V.int
 |[]=>rfl
 |n::r=>by have a:=aQr p r;rw[cXa,List.filter_cons,List.filter_cons,a];show(if p n=true then _ else _)=_;split<;> rfl
def aYR(T:vQ mg)(c:FnG P w K mg base 1 Au [Ak] bQ0)(F:Fun K Be Be aZd f fd):xH P w K mg base CX0 2 f fd [Aj] (aWi K):=by
 have W:=bQE;refine F.ok (k:=1) W (λG A outer s H Z Q E M h=>?_);obtain⟨a,N,rfl,z,B,q⟩:=h;refine⟨_,(yG (yQ (aXr aYu rfl (xQ (yS (aXj rfl) rfl T.b_sorted vG (yA (xW (bXm rfl) rfl T.b_set bWT (yA (pv 0) yD)) yD))) (λ_ _ _ _ _=>(wG (x8 (xN c M rfl (yA (pv 0) yD))))) (λ_ _ _ _ _=>(pv 0))))),?_⟩;refine⟨_,Cd,a,N,Cd,z,by omega,λl p hl L y e=>?_⟩;refine⟨l,p,Cd,yB,by omega,λr S n g J=>?_⟩;refine⟨r,Cd,⟨_,Cb yB⟩,λD m=>?_⟩;have i:S.Pairwise (·<·):=by
  have j:S.Nodup:=(g.nodup_iff).mpr L;have u:S.Pairwise (λa b=>a<=b/\a≠b):=J.and j;exact u.imp λ⟨Y,u⟩=>by omega
 have O:(S.map V.int).length<=cQM:=by rw[cQt,g.length_eq,cQQ];omega
 refine aXC (λv=>match v with|.int d=>Dm.opn d|_=>false) id (Cb yB) m O ?_ ?_ ?_
 ·intro v x I R C hR;obtain⟨d,hd,rfl⟩:=cXt.mp x;exact⟨_,Cd,d,Cd,_,Cd,hR⟩
 ·intro v x X I R C hR;exact⟨_,Cd,hR⟩
 ·rw[aQr,cJ4];have o:=yE hl (bKE w l p);have t:=yE n (.lst (S.map V.int));have U:=yE m (.lst ((S.filter Dm.opn).map V.int));refine q D _ (S.filter Dm.opn) (o.trans (t.trans U)) ?_ (i.sublist cZp) ?_ ?_ yB
  ·exact(xG.trans o t).fresh m
  ·intro d;rw[cXf,g.mem_iff,e]
  ·have:=cXn Dm.opn S;rw[g.length_eq]at this;omega
def bZH:yN ["place"] ["place"] (yH bQk):=scM
def bX4(T:vQ mg)(F:Fun K "day_at" "day_at" bQk f fd):xH P w K mg base CX0 1 f fd ["place"] bQW:=by
 obtain⟨g,b⟩:=T.week;obtain⟨i,a⟩:=T.opens;have e:=bZH;refine F.ok (k:=0) e (λc A outer s H l Q E j h=>?_);obtain⟨d,rfl,q⟩:=h;refine⟨_,(yG (yQ (yV zC (yV aVZ (yV Z2 (pv 0) (uF (v:= .int 5) rfl a ⟨_,rfl⟩)) (uF (v:= .int 7) rfl b ⟨_,rfl⟩)) (yV y3 (pv 0) (uF (v:= .int 5) rfl a ⟨_,rfl⟩))))),?_⟩;exact⟨_,Cd,_,_,Cd,Cd,⟨by decide,by decide⟩,_,_,Cd,Cd,.inr ⟨by decide,by decide⟩,_,Cd,_,_,Cd,Cd,(show(0:Int)<5 by decide),_,_,Cd,Cd,q⟩
def bKA:yN [Aj,Ak,AU,"place","closed"] [Aj,Ak,AU] (yH bYw):=scM
def bXu(d p:Int)(C:List Int)(i:Nat)(c:Int)(h:C[i]? =some c):Dm.aXV d p (C.take (i+1))=Dm.uX d (Dm.aXV d p (C.take i)) c:=by
 unfold Dm.aXV;rw[cXA,h];show(C.take i++ [c]).foldl _ p=_;rw[cVL];rfl
def bKc(T:vQ mg)(b:FnG P w K mg base 2 Be [Aj] (aWi K))(j:FnG P w K mg base 2 CO [Ak] bQ2)(g:FnG P w K mg base 2 "day_at" ["place"] bQW) (F:Fun K CV CV bYw f fd):xH P w K mg base CX0 3 f fd [Aj,Ak,AU] (bKJ K):=by
 have N:=bKA;refine F.ok (k:=2) N (λI A outer s H X Q E p h=>?_);obtain⟨a,M,d,t,rfl,G,v,S,q⟩:=h;refine⟨_,(yC (yU (i:=3) (yV zC (xN j p rfl (yA (pv 1) yD)) (pv 2))) (yC (wM cXg rfl (xQ (xN b p rfl (yA (pv 0) yD))) (xF (i:=4)) (yG (y6 (bZs vR aY1 (pv 1) (pv 4) (xN g p rfl (yA (pv 3) yD))) (yG (yU (i:=3) (yV zC (pv 3) yF))) yT))) (yG (yQ (xN g p rfl (yA (pv 3) yD)))))),?_⟩;refine⟨_,Cd,d,Cd,_,Cd,_,_,Cd,Cd,?_⟩;refine⟨_,Cd,a,M,Cd,G,v,λr R C J U O L hl o=>⟨r,Cd,⟨_,Cb o⟩,?_⟩⟩;refine zZ (xs:=C.map V.int) (λi σ H=>∃cl,σ= [some (.ref a),some (.int d),some (.int t),some (.int (Dm.aXV d (Dm.place d+t) (C.take i))),cl]/\H=R) ?_ ?_ ?_ ?_
 ·exact⟨none,Cd,rfl⟩
 ·rintro i σ H W ⟨cl,rfl,rfl⟩;exact Cb o
 ·rintro i x σ H n ⟨cl,rfl,rfl⟩;rw[cQJ]at n;cases y:C[i]? with
  |none=>rw[y]at n;cases n
  |some c=>
   rw[y]at n;cases n;have u:=bXu d (Dm.place d+t) C i c y;generalize Dm.aXV d (Dm.place d+t) (C.take i)=pl at u ⊢;dsimp only[yW];refine⟨_,Cd,_,Cd,_,_,Cd,Cd,_,Cd,?_⟩;refine qG (λD=>?_) (λD=>?_)
   ·have m:d<c:=of_decide_eq_true D;refine⟨_,Cd,pl,Cd,_,_,Cd,Cd,_,Cd,?_⟩;refine qG (λB=>?_) (λB=>?_)
    ·have l:c<=Dm.zS pl:=of_decide_eq_true B;refine⟨_,Cd,_,_,Cd,Cd,some (.int c),?_,rfl⟩;have e:Dm.uX d pl c=pl+1:=if_pos ⟨m,l⟩;rw[u,e];rfl
    ·have l:¬c<=Dm.zS pl:=of_decide_eq_false (Bool.eq_false_iff.mpr B);refine⟨some (.int c),?_,rfl⟩;have e:Dm.uX d pl c=pl:=if_neg λz=>l z.2;rw[u,e];rfl
   ·have m:¬d<c:=of_decide_eq_false (Bool.eq_false_iff.mpr D);refine⟨_,Cd,?_⟩;refine onF rfl ⟨some (.int c),?_,rfl⟩;have e:Dm.uX d pl c=pl:=if_neg λz=>m z.1;rw[u,e];rfl
 ·rintro σ H ⟨cl,rfl,rfl⟩;rw[cQt,cXw];exact⟨_,Cd,_,Cd,q _ _ J (Dm.bJq S O L)⟩
end
end Days
namespace Desk
open PySem L2 PyProof.Rows
open Bk (Row Rows)
structure PB(CB CL:Nat)(H:Hp)(ba la sa:Nat)(ls cs:List Nat)(R:Rows)(S:List Int):Prop where
 book:∃dx,H ba=some (.ins CB dx [(B2,.ref la),(Aj,.ref sa)])
 lst:H la=some (.lst (ls.map V.ref))
 sht:H sa=some (.lst (S.map V.int))
 len:ls.length=R.length
 clen:cs.length=R.length
 nd:ls.Nodup
 cnd:cs.Nodup
 las:la≠sa
 lac:la∉cs
 sac:sa∉cs
 row:∀ (i:Nat)(b c:Nat)(r:Row),ls[i]? =some b->cs[i]? =some c->R[i]? =some r->aWx CL H b i r c/\H c=some (.lst (r.copies.map V.str))
inductive bY1(CL:Nat)(H:Hp)(ls cs:List Nat)(i:Nat)(r:Row):Prop|mk(b c:Nat)(_:(ls.map V.ref)[i]? =some (.ref b))(_:ls[i]? =some b)(_:cs[i]? =some c)(_:aWx CL H b i r c)(_:H c=some (.lst (r.copies.map V.str)))
def PB.get{R:Rows}(h:PB j CL H f la sa ls cs R S)(d:R[i]? =some r):bY1 CL H ls cs i r:=by
 have b:i<R.length:=Bk.zV d;have a:=cQn (show i<ls.length by rw[h.len];exact b);have c:=cQn (show i<cs.length by rw[h.clen];exact b);obtain⟨e,g⟩:=h.row i _ _ r a c d;exact⟨_,_,by rw[cQJ,a];rfl,a,c,e,g⟩
def PB.sameT{R:Rows}(h:PB f CL H d la sa ls cs R S)(k:zA H a):PB f CL a d la sa ls cs R S:=
 ⟨let ⟨dx,e⟩:=h.book;⟨dx,k _ _ (λ_ z=>nomatch z) e⟩,k.lst h.lst,k.lst h.sht,h.len,h.clen,h.nd,h.cnd,h.las,h.lac,h.sac,λi b c r j l g=>
  let ⟨⟨dx,e1⟩,e2⟩:=h.row i b c r j l g;⟨⟨dx,k _ _ (λ_ z=>nomatch z) e1⟩,k.lst e2⟩⟩
def PB.same{R:Rows}(h:PB c CL H b la sa ls cs R S)(k:xG H a):PB c CL a b la sa ls cs R S:=h.sameT k.t
def aKQ(T:Nat)(H a:Hp):Prop:=zA H a/\(Thr.wK T H->Thr.wK T a)
def aKQ.of(k:xG H a):aKQ T H a:=⟨k.t,λt=>by
 rcases t with t|⟨b,d,c⟩
 ·exact .inl (k _ _ t)
 ·exact .inr ⟨b,k _ _ d,k _ _ c⟩⟩
def aKQ.trans(a:aKQ T H c)(b:aKQ T c d):aKQ T H d:=⟨a.1.trans b.1,λt=>b.2 (a.2 t)⟩
def xM(K:cQq)(Rf:Nat×Nat)(H:Hp)(E:XK)(t:Str):Prop:=∀ (C b:Nat)(a:Hp),uC K C->cJG K C (.ref Rf.1)=some true->aKQ Rf.2 H a->a b=some (.xd [(AF,.str t)])->E (.ref C) (some b) a
def xM.go{K:cQq}{Rf:Nat×Nat}{H:Hp}{E:XK}{t:Str}(h:xM K Rf H E t){b:Hp}(k:aKQ Rf.2 H b):xM K Rf b E t:=λC f a c m d e=>h C f a c m (k.trans d) e
def xM.raise{P:cQO}{w:cQ1}{K:cQq}{mg:Str->Option cQp}{base:Heap}{k:Nat}{x:Str}{Rf:Nat×Nat}{C:Nat}{H:Hp}{E:XK}{t:Str}(h:xM K Rf H E t)(G:ExG P w K mg base k x Rf.1 C t){D:aKT}{σ:L2.St}:bJF C t E D σ H:=
 λa b=>h C a _ G.cl G.sub (aKQ.of (yE b _)) yB
inductive aWf(K:cQq)(Rf:Nat×Nat)(CB CL:Nat)(vs:List V)(H:Hp)(Q:VK)(E:XK):Prop|mk(ba la sa:Nat)(ls cs:List Nat)(R:Rows)(S:List Int)(m:Int)(_:vs= [.ref ba,.int m])(_:PB CB CL H ba la sa ls cs R S)(_:(∀ (k:Nat)(r:Row)(b:Nat),m=(k:Int)->R[k]? =some r->r.void=false->ls[k]? =some b->Q (.ref b) H))(_:(Bk.vA R m=false->xM K Rf H E "no letter"))
inductive aVE(CB CL:Nat)(vs:List V)(H:Hp)(Q:VK)(_:XK):Prop|mk(ba la sa:Nat)(ls cs:List Nat)(R:Rows)(S:List Int)(i:Nat)(b:Nat)(_:vs= [.ref ba,.ref b])(_:PB CB CL H ba la sa ls cs R S)(_:ls[i]? =some b)(_:R.length<=100)(_:∀l,H l=none->Q (.ref l) (upd H l (.lst ((Bk.zU R i).map λk=>(ls.map V.ref).getD k .non))))
inductive aWj(K:cQq)(Rf:Nat×Nat)(CB CL:Nat)(vs:List V)(H:Hp)(Q:VK)(E:XK):Prop|mk(ba la sa:Nat)(ls cs:List Nat)(R:Rows)(S:List Int)(m:Int)(_:vs= [.ref ba,.int m])(_:PB CB CL H ba la sa ls cs R S)(_:(∀ (k:Nat)(r:Row)(l:Nat),m=(k:Int)->R[k]? =some r->r.void=false->H l=none->Q (.ref l) (upd H l (.lst (r.copies.map V.str)))))(_:(Bk.vA R m=false->xM K Rf H E "no letter"))
inductive aJw(K:cQq)(Rf:Nat×Nat)(CB CL:Nat)(vs:List V)(H:Hp)(Q:VK)(E:XK):Prop|mk(ba la sa:Nat)(ls cs:List Nat)(R:Rows)(S:List Int)(m:Int)(_:vs= [.ref ba,.int m])(_:PB CB CL H ba la sa ls cs R S)(_:(∀ (k:Nat)(r:Row)(l:Nat),m=(k:Int)->R[k]? =some r->r.void=false->H l=none->Q (.ref l) (upd H l (.tup (stV r)))))(_:(Bk.vA R m=false->xM K Rf H E "no letter"))
section
variable {K:cQq}
abbrev aQU:Stmt:=xK Am Ac
abbrev aV8:Stmt:=xK Am Bo
abbrev aQT:Stmt:=xK Am "copies_of"
abbrev aZj:Stmt:=xK Am "state_of"
def bV6:yN [AA,AC] [AA,AC] (yH aQU):=scM
def bXB{R:Rows}(h:m<0):Bk.vA R m=false:=by
 unfold Bk.vA;rw[decide_eq_false (by omega),Bool.false_and]
def bXA{R:Rows}(h:(R.length:Int)<=m):Bk.vA R m=false:=by
 unfold Bk.vA;rw[cQW (by omega)];simp
def aZS{R:Rows}{k:Nat}{r:Row}(h:R[k]? =some r):Bk.vA R (k:Int)= !r.void:=by
 unfold Bk.vA;rw[cQV,h];simp
def bVt(T:vQ mg)(cl:Cl K CB CL)(a:ExG P w K mg base n "NoLetter" Rf.1 C1 "no letter")(F:Fun K Ac "Book.letter_at" aQU f fd):xH P w K mg base (CXR P w) (n+2) f fd [AA,AC] (aWf K Rf CB CL):=by
 have C:=bV6;refine F.okX (k:=n+1) C (λx A outer s H N Q E z h=>?_);obtain⟨p,g,G,D,M,R,S,m,rfl,e,q,r⟩:=h;refine⟨_,(yC (y6 (PW.pt (jW (yM vR (pv 1) yF) (jW (yM bYp (pv 1) (yS yO rfl T.b_len xE (yA (y7 (pv 0) rfl) yD))) (vX (x8 (y7 (yL yK (y7 (pv 0) rfl) (pv 1)) rfl)))))) (yG (wH a z rfl)) yT) (yG (yQ (yL yK (y7 (pv 0) rfl) (pv 1))))),?_⟩;obtain⟨j,o⟩:=e.book;have hl:(D.map V.ref).length=R.length:=by rw[cQt];exact e.len
 refine⟨_,Cd,_,_,Cd,Cd,_,Cd,?_⟩;refine qG (λc=>?_) (λc=>?_)
 ·exact onT rfl ((r (bXB (of_decide_eq_true c))).raise a)
 ·have U:¬m<0:=of_decide_eq_false (Bool.eq_false_iff.mpr c);refine⟨_,Cd,_,Cd,p,CB,j,_,_,Cd,o,cl.b,cl.letters,Cd,g,_,Cd,.inl (Cb e.lst),_,_,Cd,Cd,_,Cd,?_⟩;rw[hl];refine qG (λc=>?_) (λc=>?_)
  ·exact onT rfl ((r (bXA (of_decide_eq_true c))).raise a)
  ·have O:¬m≥(R.length:Nat):=of_decide_eq_false (Bool.eq_false_iff.mpr c);obtain⟨k,rfl⟩:∃k:Nat,m=(k:Int):=⟨m.toNat,by omega⟩;have B:k<R.length:=by omega
   have d:=cQn B;obtain⟨b,I,t,y,L,⟨i,v⟩,J⟩:=e.get d;refine⟨_,Cd,p,CB,j,_,_,Cd,o,cl.b,cl.letters,Cd,_,Cd,g,_,_,_,Cd,Cd,Cb e.lst,yR t,b,CL,i,_,_,Cd,v,cl.l,cl.void,Cd,_,Cd,?_⟩;cases u:R[k].void with
   |true=>exact onT rfl ((r (by rw[aZS d,u];rfl)).raise a)
   |false=>exact onF rfl ⟨_,Cd,p,CB,j,_,_,Cd,o,cl.b,cl.letters,Cd,_,Cd,g,_,_,_,Cd,Cd,Cb e.lst,yR t,q k _ b rfl d u y⟩
def aWZ{Q:VK}(p:Nat->Bool)(f:Nat->V)(hl:SqL K H a xs)(s:H D=none)(hz:xs.length<=cQM) (x:∀i v,xs[i]? =some v->∀ (c:Hp)(R:Bool->Hp->Prop),(∀b,b≠D->c b=H b)->R (p i) c->j (sub σ n (some v)) c R) (B:∀i v,xs[i]? =some v->p i=true->∀ (c:Hp)(R:VK),(∀b,b≠D->c b=H b)->R (f i) c->q (sub σ n (some v)) c R) (z:Q (.ref D) (upd H D (.lst (((cQy xs.length).filter p).map f)))):bWB (Itl K a) n j q σ D Q (upd H D (.lst [])):=by
 have e:∀g,SqL K (upd H D (.lst g)) a xs:=λg=>by
  rcases hl with(h|⟨o,h⟩)|h
  ·exact .inl (.inl (by rw[yJ (yI h s)];exact h))
  ·exact .inl (.inr ⟨o,by rw[yJ (yI h s)];exact h⟩)
  ·exact .inr h
 refine⟨λi m g c=>m=xs.length - i/\i<=xs.length/\g=((cQy i).filter p).map f/\c=upd H D (.lst g),⟨xs.length,by simp,cXo _,by simp,rfl⟩,?_⟩;rintro i m g c ⟨rfl,C,rfl,rfl⟩;refine⟨yB,?_⟩;by_cases d:i<xs.length
 ·refine .inr ⟨⟨xs,xs[i],e _,cQn d⟩,λv E u=>?_⟩;obtain⟨rfl,y⟩:=u;have t:xs[i]? =some v:=y xs (e _);have k:∀b,b≠D->upd H D (.lst (((cQy i).filter p).map f)) b=H b:=λb A=>yJ A;have l:(((cQy i).filter p).map f).length<cQM:=by
   rw[cQt];have w:=cXn p (cQy i);rw[cXh]at w;omega
  refine x i v t _ _ k ?_;cases r:p i with
  |false=>show ∃F,_;refine⟨xs.length - (i+1),by omega,Cd,d,?_,rfl⟩;rw[cZP,cXC,cX8 (by rw[r];decide)];simp
  |true=>show q _ _ _;refine B i v t r _ _ k ⟨l,yB,xs.length - (i+1),by omega,Cd,d,?_,by rw[jG]⟩;rw[cZP,cXC,cX9 r];simp
 ·obtain rfl:i=xs.length:=by omega
  exact .inl ⟨⟨xs,e _,cQv _⟩,z⟩
def bZD:yN [AA,AL] [AA,AL] (yH aV8):=scM
def bXL:xP [AA,AL] (yH aV8) Bc [AL] [1] (lsN [(".0",.local),(Bc,.local),(AL,.free)]):=
 lcM
def bX0(cl:Cl K CB CL)(a:MG P w K mg base CX0 n CL Bj [AA,Bc] (bQS CL))(F:Fun K Bo "Book.answers_to" aV8 f fd):xH P w K mg base CX0 (n+1) f fd [AA,AL] (aVE CB CL):=by
 have U:=bZD;refine F.ok (k:=n) U (λG A outer s H vs Q E O h=>?_);obtain⟨X,B,Y,t,cs,R,S,i,b,rfl,d,x,hR,q⟩:=h;refine⟨_,(yG (yQ (aXr bXL rfl (xQ (y7 (pv 0) rfl)) (λ_ _ _ _ _=>(wG (x8 (v9 a O v7 (pv 1) (yA (pv 0) yD))))) (λ_ _ _ _ _=>(pv 0))))),?_⟩;obtain⟨T,W⟩:=d.book;have hl:(t.map V.ref).length=R.length:=by rw[cQt];exact d.len
 have u:i<R.length:=by rw[<- d.len];exact(cQA.mp x).1
 obtain⟨I,cc,Z,N,g3,⟨e,m⟩,g5⟩:=d.get (cQn u);obtain rfl:b=I:=cQI (x.symm.trans N);refine⟨_,Cd,X,CB,T,_,_,Cd,W,cl.b,cl.letters,Cd,B,Cd,⟨_,Cb d.lst⟩,λD g=>?_⟩;refine aWZ (λk=>decide (Bk.lk R k=some i)) (λk=>(t.map V.ref).getD k .non) (Cb d.lst) g (zn (by omega)) (λj v p J M o c=>?_) (λj v p _ J M o c=>?_) ?_
 ·have L:j<R.length:=by rw[<- hl];exact(cQA.mp p).1
  have l:=cQn L;obtain⟨y,c2,C,k2,k3,⟨r,z⟩,k5⟩:=d.get l;obtain rfl:v= .ref y:=cQI (p.symm.trans C);rw[Bk.wN l]at c;exact⟨_,Cd,b,e,_,Cd,(o _ (yI m g)).trans m,Cd,_,Cd,b,y,i,j,_,_,_,_,Cd,⟨e,(o _ (yI m g)).trans m⟩,⟨r,(o _ (yI z g)).trans z⟩,_,Cd,c⟩
 ·have:(t.map V.ref).getD j .non=v:=by simp only[cQ8,p];rfl
  rw[this]at c;exact⟨_,Cd,c⟩
 ·rw[hl];exact q D g
def aVw:yN [AA,AC] [AA,AC] (yH aQT):=scM
def aJ5(T:vQ mg)(cl:Cl K CB CL)(a:MG P w K mg base (CXR P w) n CB Ac [AA,AC] (aWf K Rf CB CL))(F:Fun K "copies_of" "Book.copies_of" aQT f fd):xH P w K mg base (CXR P w) (n+1) f fd [AA,AC] (aWj K Rf CB CL):=by
 have G:=aVw;refine F.okX (k:=n) G (λt A outer s H U Q E C h=>?_);obtain⟨i,p,u,I,z,R,S,m,rfl,e,q,M⟩:=h;refine⟨_,(yG (yQ (xW vV rfl T.b_list wD (yA (y7 (v9 a C wB (pv 0) (yA (pv 1) yD)) rfl) yD)))),?_⟩;obtain⟨D,J⟩:=e.book;refine⟨_,Cd,i,D,_,Cd,J,Cd,_,Cd,i,p,u,I,z,R,S,m,Cd,e,λk r b o g L d=>?_,M⟩;obtain⟨x,v,N,B,O,⟨c,j⟩,y⟩:=e.get g;obtain rfl:b=x:=cQI (d.symm.trans B);refine⟨b,CL,c,_,_,Cd,j,cl.l,cl.copies,Cd,?_⟩;exact⟨v,_,Cd,.inl (Cb y),λl hl=>q k r l o g L hl⟩
def aKG:yN [AA,AC] [AA,AC] (yH aZj):=scM
def aKl(cl:Cl K CB CL)(a:MG P w K mg base (CXR P w) n CB Ac [AA,AC] (aWf K Rf CB CL))(c:MG P w K mg base CX0 n CL Bb [AA] (aVG CL))(F:Fun K "state_of" "Book.state_of" aZj f fd): xH P w K mg base (CXR P w) (n+1) f fd [AA,AC] (aJw K Rf CB CL):=by
 have G:=aKG;refine F.okX (k:=n) G (λv A outer s H V Q E j h=>?_);obtain⟨o,u,x,I,B,R,S,m,rfl,g,q,N⟩:=h;refine⟨_,(yG (yQ (bZo c j v7 (v9 a j wB (pv 0) (yA (pv 1) yD))))),?_⟩;obtain⟨D,J⟩:=g.book;refine⟨_,Cd,o,D,_,Cd,J,Cd,_,Cd,o,u,x,I,B,R,S,m,Cd,g,λk r b p l L e=>?_,N⟩;obtain⟨z,y,O,C,U,⟨d,i⟩,T⟩:=g.get l;obtain rfl:b=z:=cQI (e.symm.trans C);exact⟨b,d,_,Cd,i,Cd,b,k,r,y,Cd,⟨d,i⟩,λt M=>q k r t p l L M⟩
end
end Desk
namespace Desk
open PySem L2 PyProof.Rows
open Bk (Row Rows)
open Law (aKP jZ X1 bXg aJc aXe)
def J2(R:Rows)(w:Str):List Nat:=(cQy R.length).filter λk=>match R[k]? with|some r=> !r.void && decide (r.place=w)|none=>false
inductive aXa(CB CL:Nat)(vs:List V)(H:Hp)(Q:VK)(_:XK):Prop|mk(ba la sa:Nat)(ls cs:List Nat)(R:Rows)(S:List Int)(w:Str)(_:vs= [.ref ba,.str w])(_:PB CB CL H ba la sa ls cs R S)(_:R.length<64)(_:∀l,H l=none->Q (.ref l) (upd H l (.lst ((J2 R w).map λi=>V.int (i:Nat)))))
def bJR(R:Rows)(n:Nat)(d:Int)(a:List (Key×V)):Prop:=∀j:Nat,(aQl a (Sum.inl (j:Int))).isSome=true↔∃k,k<n/\Bk.lk R k=some j/\Bk.dt R k<=d
inductive aXK(CB CL:Nat)(vs:List V)(H:Hp)(Q:VK)(_:XK):Prop|mk(ba la sa:Nat)(ls cs:List Nat)(R:Rows)(S:List Int)(d:Int)(_:vs= [.ref ba,.int d])(_:PB CB CL H ba la sa ls cs R S)(_:R.length<64)(_:∀ (a:Nat)(H':Hp)(kvs:List (Key×V)),xG H H'->H a=none->H' a=some (.dK kvs)->bJR R R.length d kvs->Q (.ref a) H')
inductive aVF(CB CL:Nat)(vs:List V)(H:Hp)(Q:VK)(_:XK):Prop|mk(ba la sa:Nat)(ls cs:List Nat)(R:Rows)(S:List Int)(d:Int)(_:vs= [.ref ba,.int d])(_:PB CB CL H ba la sa ls cs R S)(_:R.length<64)(_:S.length<64)(_:∀ (l:Nat)(H':Hp)(ks:List Nat)(ps:List V),xG H H'->H l=none->H' l=some (.lst ps)->cXk (aKP H' (jZ R S)) ks ps->Bk.bXh R S d false ks->Q (.ref l) H')
inductive bK7(CB CL:Nat)(late:Bool)(vs:List V)(H:Hp)(Q:VK)(_:XK):Prop|mk(ba la sa:Nat)(ls cs:List Nat)(R:Rows)(S:List Int)(d:Int)(_:vs= [.ref ba,.int d])(_:PB CB CL H ba la sa ls cs R S)(_:R.length<64)(_:S.length<64)(_:∀ (l:Nat)(H':Hp)(ks:List Nat),xG H H'->H l=none->H' l=some (.lst (ks.map λi=>V.int (i:Nat)))->Bk.bXh R S d late ks->Q (.ref l) H')
def aQL{X:Cx}{K:cQq}{e:Expr}{f:Str}{pos:Pos}{a:TE}(d:PE X e a)(b:cJg e f X.env (eval e X.env)=eval e X.env)(c:X.K=K:=by rfl):PE X (.Attribute e f pos) (bYS K a f):=c ▸ y7 d b
section
variable {K:cQq}
abbrev jR:Stmt:=xK Am CQ
abbrev aQS:Stmt:=xK Am CH
abbrev bQq:Stmt:=xK Am BD
abbrev aQh:Stmt:=xK Am AZ
abbrev aQg:Stmt:=xK Am AX
def aJn:yN [AA,Bp] [AA,Bp] (yH jR):=scM
def aZ2:xP [AA,Bp] (yH jR) AL [Bp] [1] (lsN [(".0",.local),(AL,.local),(Bp,.free)]):=
 lcM
def bJ4:decide (qW r=V.str w)=(!r.void && decide (r.place=w)):=by
 unfold qW;cases r.void with
 |true=>rfl
 |false=>show decide (V.str r.place=V.str w)=(true && decide (r.place=w));rw[Bool.true_and,Bool.eq_iff_iff];simp
def aJa(cl:Cl K CB CL)(F:Fun K CQ "Book.letters_in" jR f fd):xH P w K mg base CX0 (n+1) f fd [AA,Bp] (aXa CB CL):=by
 have J:=aJn;refine F.ok (k:=n) J (λy A outer s H Y Q E X h=>?_);obtain⟨N,x,U,L,W,R,S,w,rfl,d,hR,q⟩:=h;refine⟨_,(yG (yQ (aXr aZ2 rfl (xQ (y7 (pv 0) rfl)) (λ_ _ _ _ _=>(wG (yM zK (aQL (K:=K) (pv 0) rfl) (pv 1)))) (λ_ _ _ _ _=>(aQL (K:=K) (pv 0) rfl))))),?_⟩;obtain⟨G,M⟩:=d.book;have hl:(L.map V.ref).length=R.length:=by rw[cQt];exact d.len
 refine⟨_,Cd,N,CB,G,_,_,Cd,M,cl.b,cl.letters,Cd,x,Cd,⟨_,Cb d.lst⟩,λD o=>?_⟩;refine aWZ (λk=>match R[k]? with|some r=> !r.void && decide (r.place=w)|none=>false) (λk=>V.int (k:Nat)) (Cb d.lst) o (zn (by omega)) (λj v i z C t a=>?_) (λj v i _ z C t a=>?_) ?_
 ·have u:j<R.length:=by rw[<- hl];exact(cQA.mp i).1
  have m:=cQn u;obtain⟨e,O,p,B,T,⟨c,g⟩,I⟩:=d.get m;obtain rfl:v= .ref e:=cQI (i.symm.trans p);rw[m]at a;dsimp only at a;rw[<- bJ4]at a;refine⟨_,Cd,e,CL,c,_,_,Cd,(t _ (yI g o)).trans g,cl.l,cl.file,Cd,_,Cd,?_,_,Cd,a⟩;unfold qW;cases R[j].void<;> rfl
 ·have u:j<R.length:=by rw[<- hl];exact(cQA.mp i).1
  obtain⟨e,O,p,B,T,⟨c,g⟩,I⟩:=d.get (cQn u);obtain rfl:v= .ref e:=cQI (i.symm.trans p);exact⟨_,Cd,e,CL,c,_,_,Cd,(t _ (yI g o)).trans g,cl.l,cl.number,Cd,a⟩
 ·rw[hl];exact q D o
def aVv:yN [AA,Aa,B4,AL] [AA,Aa] (yH aQS):=scM
def aZC{R:Rows}{t:Nat}(h:bJR R t d a)(g:∀j,Bk.lk R t=some j->¬Bk.dt R t<=d):bJR R (t+1) d a:=λj=>by
 rw[h j];constructor
 ·rintro⟨k,f,b⟩;exact⟨k,by omega,b⟩
 ·rintro⟨k,f,b,c⟩;by_cases e:k=t
  ·subst e;exact absurd c (g j b)
  ·exact⟨k,by omega,b,c⟩
def bXj{R:Rows}{t:Nat}(h:bJR R t d b)(hl:Bk.lk R t=some i)(g:Bk.dt R t<=d):bJR R (t+1) d (aVf b (Sum.inl (i:Int)) v):=λj=>by
 rw[bJg];by_cases e:j=i
 ·subst e;rw[if_pos rfl];exact⟨λ_=>⟨t,by omega,hl,g⟩,λ_=>rfl⟩
 ·rw[if_neg (λz=>e (by have:=Sum.inl.inj z;omega)),h j];constructor
  ·rintro⟨k,c,a⟩;exact⟨k,by omega,a⟩
  ·rintro⟨k,c,a,l⟩;by_cases f:k=t
   ·subst f;rw[hl]at a;exact absurd (cQI a).symm e
   ·exact⟨k,by omega,a,l⟩
def aJ4(cl:Cl K CB CL)(F:Fun K CH "Book.answered_by" aQS f fd):xH P w K mg base CX0 (n+1) f fd [AA,Aa] (aXK CB CL):=by
 have sc:=aVv;refine F.ok (k:=n) sc (λY A outer s H vs Q E hr h=>?_);obtain⟨T,X,sa,O,cs,R,S,d,rfl,D,hR,q⟩:=h;refine⟨_,(yC (yU (i:=2) bZn) (yC (wM cXg rfl (xQ (y7 (pv 0) rfl)) (xF (i:=3)) (yG (y6 (PW.pt (uA (yM z8 (y7 (pv 3) rfl) x3) (vM (yM aY1 (y7 (pv 3) rfl) (pv 1))))) (yG (bVN (bWZ hr) (pv 2) (y7 (pv 3) rfl) vJ rfl)) yT))) (yG (yQ (pv 2))))),?_⟩;obtain⟨dx,hb⟩:=D.book;have hl:(O.map V.ref).length=R.length:=by rw[cQt];exact D.len
 intro a L;dsimp only[yW];have I:=yE L (.dK []);refine⟨_,Cd,T,CB,dx,_,_,Cd,I _ _ hb,cl.b,cl.letters,Cd,X,Cd,⟨_,Cb (I _ _ D.lst)⟩,?_⟩;refine zZ (xs:=O.map V.ref) (λt σ v=>∃ (e:List (Key×V))(o:Option V),σ= [some (.ref T),some (.int d),some (.ref a),o]/\xG H v/\v a=some (.dK e)/\e.length<=t/\bJR R t d e) ?_ ?_ ?_ ?_
 ·exact⟨[],none,Cd,I,yB,cXo _,λj=>⟨λz=>(by cases z),λ⟨k,z,_⟩=>absurd z (cX3 _)⟩⟩
 ·rintro t σ v U ⟨e,o,rfl,g,y,N,r⟩;exact Cb (g _ _ D.lst)
 ·rintro t x σ v M ⟨e,o,rfl,g,y,N,r⟩;have U:t<R.length:=by rw[<- hl];exact(cQA.mp M).1
  have m:=cQn U;obtain⟨b,c,Z,g2,g3,⟨u,G⟩,g5⟩:=(D.same g).get m;obtain rfl:x= .ref b:=cQI (M.symm.trans Z);dsimp only[yW];refine⟨_,Cd,b,CL,u,_,_,Cd,G,cl.l,cl.link,Cd,Cd,_,Cd,?_⟩;have B:=Bk.wN m;have C:=Bk.w9 m;cases p:R[t].link with
  |none=>exact onF rfl (onF rfl ⟨e,_,Cd,g,y,by omega,aZC r λj J=>by rw[B,p]at J;cases J⟩)
  |some i=>
   refine onT rfl ⟨_,Cd,b,CL,u,_,_,Cd,G,cl.l,cl.day,Cd,_,Cd,_,_,Cd,Cd,_,Cd,?_⟩;cases W:decide (R[t].date<=d)with
   |false=>exact onF rfl ⟨e,_,Cd,g,y,by omega,aZC r λj J=>by rw[C];exact of_decide_eq_false W⟩
   |true=>
    refine onT rfl ⟨_,Cd,_,Cd,b,CL,u,_,_,Cd,G,cl.l,cl.link,Cd,a,upd v a (.dK (aVf e (Sum.inl (i:Int)) (.bl true))),Cd,?_,?_⟩
    ·rw[p];exact bWH.k (k:=Sum.inl (i:Int)) y (by rw[cQQ];omega)
    refine⟨_,_,Cd,?_,yB,cQZ (qJ _ _ _) (by omega),bXj r (by rw[B,p]) (by rw[C];exact of_decide_eq_true W)⟩;exact aXe g L
 ·rintro σ v ⟨e,o,rfl,g,y,N,r⟩;rw[hl]at r;exact⟨_,Cd,q a v e g L y r⟩
def bJh{R:Rows}(l:R[i]? =some r)(g:bJR R R.length d a): Bk.aQb R i d=(decide (W6 r > 0) && (decide (r.date<=d) && !(aQl a (Sum.inl (i:Int))).isSome)):=by
 have j:((Bk.zU R i).all λk=>decide (d<Bk.dt R k))= !(aQl a (Sum.inl (i:Int))).isSome:=by
  rw[Bool.eq_iff_iff,cJA,Bool.not_eq_true',Bool.eq_false_iff,ne_eq,g i];constructor
  ·rintro h ⟨k,b,c,m⟩;have:=of_decide_eq_true (h k (cXf.mpr ⟨cQT.mpr b,decide_eq_true c⟩));omega
  ·intro h k f;obtain⟨b,c⟩:=cXf.mp f;refine decide_eq_true ?_;by_cases z:Bk.dt R k<=d
   ·exact absurd ⟨k,cQT.mp b,of_decide_eq_true c,z⟩ h
   ·omega
 unfold Bk.aQb;rw[l];dsimp only;rw[j];unfold W6;cases r.void with
 |true=>rfl
 |false=>
  rw[if_neg (by decide)];have e:decide (1<=r.term)=decide (r.term > 0):=by rw[Bool.eq_iff_iff];simp;omega
  rw[e];simp[Bool.and_assoc]
def bZN:yN [AA,Aa,B4,"pairs",AL] [AA,Aa] (yH bQq):=scM
def bZa(T:vQ mg)(cl:Cl K CB CL)(j:MG P w K mg base CX0 n CB CH [AA,Aa] (aXK CB CL))(r:FnG P w K mg base n CV [Aj,Ak,AU] (Days.bKJ K)) (F:Fun K BD "Book.waiting_pairs" bQq f fd):xH P w K mg base CX0 (n+1) f fd [AA,Aa] (aVF CB CL):=by
 have sc:=bZN;refine F.ok (k:=n) sc (λc2 A outer s H vs Q E hr h=>?_);obtain⟨U,la,sa,ls,cs,R,S,d,rfl,hB,hR,hS,q⟩:=h;refine⟨_,(yC (yU (i:=2) (v9 j hr v7 (pv 0) (yA (pv 1) yD))) (yC (yU (i:=3) (yZ yD)) (yC (wM cXg rfl (xQ (y7 (pv 0) rfl)) (xF (i:=4)) (yG (y6 (PW.pt (uA (yM aXq (y7 (pv 4) rfl) yF) (uA (yM aY1 (y7 (pv 4) rfl) (pv 1)) (vM (bKq (aY4 (bWZ hr) (y7 (pv 4) rfl) (pv 2))))))) (yG (y0 (v8 cQU cQ3 cQ4 xL (pv 3) (yA (y8 (yA (xN r hr rfl (yA (y7 (pv 0) rfl) (yA (y7 (pv 4) rfl) (yA (y7 (pv 4) rfl) yD)))) (yA (y7 (pv 4) rfl) yD))) yD)))) yT))) (yG (yQ (yS uP rfl T.b_sorted vG (yA (pv 3) yD))))))),?_⟩;obtain⟨dx,hb⟩:=hB.book;have hl:(ls.map V.ref).length=R.length:=by rw[cQt];exact hB.len
 refine⟨_,Cd,U,dx,_,Cd,hb,Cd,_,Cd,U,la,sa,ls,cs,R,S,d,Cd,hB,hR,λa H0 b2 X c1 a7 hA=>?_⟩;dsimp only[yW];refine⟨z0,λI B=>?_⟩;dsimp only[yW];have k1:xG H (upd H0 I (.lst [])):=X.trans (yE B _);have c0:H I=none:=X.fresh B;refine⟨_,Cd,U,CB,dx,_,_,Cd,k1 _ _ hb,cl.b,cl.letters,Cd,la,Cd,⟨_,Cb (k1 _ _ hB.lst)⟩,?_⟩;have c3:a≠I:=yI a7 B;refine zZ (xs:=ls.map V.ref) (λt σ C=>∃ (g:List V)(o:Option V),σ= [some (.ref U),some (.int d),some (.ref a),some (.ref I),o]/\xG H0 C/\C I=some (.lst g)/\
  cXk (aKP C (jZ R S)) ((cQy t).filter (X1 R S d false)) g) ?_ ?_ ?_ ?_
 ·exact⟨[],none,Cd,yE B _,yB,.nil⟩
 ·rintro t σ C ht ⟨g,o,rfl,M,L,J⟩;exact Cb (M _ _ (X _ _ hB.lst))
 ·rintro t x σ C hx ⟨g,o,rfl,M,L,J⟩;have ht:t<R.length:=by rw[<- hl];exact(cQA.mp hx).1
  have N:=cQn ht;have O:=(hB.same X).same M;obtain⟨b3,b4⟩:=O.book;obtain⟨b,c,g1,g2,g3,⟨v,Z⟩,g5⟩:=O.get N;obtain rfl:x= .ref b:=cQI (hx.symm.trans g1);rw[cZP,cXC];dsimp only[yW];have hw:=bJh N hA;have u:X1 R S d false t=Bk.aQb R t d:=by unfold X1;simp
  have stay:∀o',X1 R S d false t=false->∃ (g:List V)(p:Option V),[some (V.ref U),some (V.int d),some (V.ref a),some (V.ref I),o']= [some (.ref U),some (.int d),some (.ref a),some (.ref I),p]/\xG H0 C/\C I=some (.lst g)/\
    cXk (aKP C (jZ R S)) ((cQy t).filter (X1 R S d false)++ [t].filter (X1 R S d false)) g:=λo' e=>by
   have e3: [t].filter (X1 R S d false)= []:=by simp[e]
   rw[e3,cXr]
   exact⟨g,o',Cd,M,L,J⟩
  refine⟨_,Cd,b,CL,v,_,_,Cd,Z,cl.l,cl.term,Cd,_,_,Cd,Cd,_,Cd,?_⟩;cases h1:decide (W6 R[t] > 0)with
  |false=>exact onF rfl (onF rfl (stay _ (by rw[u,hw,h1];rfl)))
  |true=>
   refine onT rfl ⟨_,Cd,b,CL,v,_,_,Cd,Z,cl.l,cl.day,Cd,_,Cd,_,_,Cd,Cd,_,Cd,?_⟩;cases h2:decide (R[t].date<=d)with
   |false=>exact onF rfl (onF rfl (stay _ (by rw[u,hw,h1,h2];rfl)))
   |true=>
    refine onT rfl ⟨_,Cd,b,CL,v,_,_,Cd,Z,cl.l,cl.number,Cd,_,Cd,a,_,Cd,bWG.k (k:=Sum.inl (t:Int)) (M _ _ a7),_,Cd,?_⟩;cases h3:(aQl b2 (Sum.inl (t:Int))).isSome with
    |true=>exact onF rfl (stay _ (by rw[u,hw,h1,h2,h3];rfl))
    |false=>
     have a4:Bk.aQb R t d=true:=by rw[hw,h1,h2,h3];rfl
     have b6:=Law.aXP ht a4;have hv:R[t].void=false:=by
      cases hv:R[t].void with
      |false=>rfl
      |true=>have:=of_decide_eq_true h1;unfold W6 at this;rw[hv]at this;simp at this
     have a3:W6 R[t]=R[t].term:=by unfold W6;rw[hv];rfl
     refine onT rfl ⟨_,Cd,.inl ⟨rfl,_,Cb L⟩,_,Cd,U,CB,b3,_,_,Cd,b4,cl.b,cl.shut,Cd,_,Cd,b,CL,v,_,_,Cd,Z,cl.l,cl.day,Cd,_,Cd,b,CL,v,_,_,Cd,Z,cl.l,cl.term,Cd,?_⟩;refine⟨sa,S,_,_,Cd,Cb O.sht,hS,by rw[a3];exact b6,λH2 D W hD=>?_⟩;have eD:D=jZ R S t:=by unfold jZ;rw[N,Bk.w9 N];rw[a3]at hD;exact(Bk.bJp hD).symm
     subst eD;refine⟨_,Cd,b,CL,v,_,_,Cd,W _ _ Z,cl.l,cl.number,Cd,z2,λq3 b8=>?_⟩;have b5:=W _ _ L;have k5:=yE b8 (.tup [V.int (jZ R S t),V.int (t:Nat)]);have a5:=k5 _ _ b5;have il:g.length<=t:=by rw[<- J.length];exact cQZ (cXn _ _) (by simp)
     have t6:∀a xs,upd H2 q3 (.tup [V.int (jZ R S t),V.int (t:Nat)]) a=some (.tup xs)->upd (upd H2 q3 (.tup [V.int (jZ R S t),V.int (t:Nat)])) I (.lst (g++ [V.ref q3])) a=some (.tup xs):=λa xs e=>by rw[yJ (aXm e a5 (by intro z;cases z))];exact e
     have e3: [t].filter (X1 R S d false)= [t]:=by simp[u,a4]
     refine⟨I,g,.ref q3,Cd,Cd,a5,zlt (by omega),g++ [.ref q3],_,Cd,aXe (M.trans (W.trans k5)) B,yB,?_⟩;rw[e3];exact aJc ⟨q3,Cd,t6 _ _ yB⟩ (Paired.mapP J λ_ _ z=>z.tk λa xs e=>t6 _ _ (k5 _ _ (W _ _ e)))
 ·rintro σ C ⟨g,o,rfl,M,L,J⟩;rw[hl]at J;generalize y:(cQy R.length).filter (X1 R S d false)=fam at J;have a6:fam.length=g.length:=J.length;have fn:fam.length<=R.length:=by rw[<- y];exact cQZ (cXn _ _) (by simp)
  have a1:∀k,k∈fam↔k<R.length/\X1 R S d false k=true:=λk=>by rw[<- y,cXf,cQT]
  have b1:fam.Nodup:=by rw[<- y];exact cJC.sublist cZp
  refine⟨_,Cd,I,g,λm=>(jZ R S (fam.getD m 0),((fam.getD m 0:Nat):Int)),Cd,L,by omega,λa b ha hb e=>?_,λm x hx=>?_,λl out a8 a2 b0=>?_⟩
  ·have Y:fam.getD a 0=fam.getD b 0:=by have:=congrArg Prod.snd e;simp only at this;omega
   have a0:a<fam.length:=by omega
   have a9:b<fam.length:=by omega
   simp[cQ8,cQn a0,cQn a9]at Y;exact(cZg (h₀:=a0) (h₁:=a9) b1).mp Y
  ·obtain⟨k,hk,p,L,Y⟩:=bXg J hx;have:fam.getD m 0=k:=by simp[cQ8,hk]
   show ∃a,x=V.ref a/\C a=some (.tup [V.int (jZ R S (fam.getD m 0)),V.int ((fam.getD m 0:Nat):Int)]);rw[this];exact⟨p,L,Y⟩
  ·have hm:∀m∈out,m<g.length:=λm hm=>cQT.mp (a2.mem_iff.mp hm);have W:=yE a8 (.lst (out.map λi=>g.getD i .non));refine q l _ (out.map λm=>fam.getD m 0) _ (X.trans (M.trans W)) ((X.trans M).fresh a8) yB ?_ ⟨λk=>?_,?_⟩
   ·have go:∀o:List Nat,(∀m∈o,m<g.length)->cXk (aKP (upd C l (.lst (out.map λi=>g.getD i .non))) (jZ R S)) (o.map λm=>fam.getD m 0) (o.map λi=>g.getD i .non):=by
     intro o;induction o with
     |nil=>intro _;exact .nil
     |cons m o ih=>
      intro h;refine .cons ?_ (ih λx hx=>h x (cQB _ hx));have G:=h m cQG;have hg:g[m]? =some (g.getD m .non):=by simp[cQ8,cQn G]
      obtain⟨k,hk,p,L,Y⟩:=bXg J hg;have:fam.getD m 0=k:=by simp[cQ8,hk]
      show aKP _ _ (fam.getD m 0) (g.getD m .non);rw[this];exact⟨p,L,W _ _ Y⟩
    exact go out hm
   ·have b9:k∈out.map (λm=>fam.getD m 0)↔k∈fam:=by
     constructor
     ·intro h;obtain⟨m,b7,rfl⟩:=cXt.mp h;have G:m<fam.length:=by rw[a6];exact hm m b7
      simp[cQ8,cQn G]
     ·intro h;obtain⟨m,G,e⟩:=cXe h;refine cXt.mpr ⟨m,a2.mem_iff.mpr (cQT.mpr (by omega)),?_⟩;simp[cQ8,cQn G,e]
    rw[b9,a1 k];unfold X1;simp
   ·rw[cJY];exact b0
def bZl{α β:Type}{F:α->β->Prop}:∀ {l:List α} {m:List β} {i:Nat} {y:β},cXk F l m->m[i]? =some y->∃x,l[i]? =some x/\F x y:=λh e=>bXg h e
def aZX{α:Type}(a:List Nat)(g:Nat->Bool)(h:Nat->α):((cQy a.length).filter λm=>g (a.getD m 0)).map (λm=>h (a.getD m 0))=(a.filter g).map h:=by
 have e:(cQy a.length).map (λm=>a.getD m 0)=a:=by
  apply cZc;intro i;rw[cQJ];by_cases b:i<a.length
  ·rw[cZq b];simp[cQn b]
  ·rw[cQW (by simpa using b),cQW (by omega)];rfl
 conv=>rhs;rw[<- e,List.filter_map,cJr]
 rfl
def aKH:yN [AA,Aa] [AA,Aa] (yH aQh):=scM
def aW1:xP [AA,Aa] (yH aQh) "pair" [] [] (lsN [(".0",.local),("pair",.local)]):=
 lcM
def aKm(cl:Cl K CB CL)(a:MG P w K mg base CX0 n CB BD [AA,Aa] (aVF CB CL))(F:Fun K AZ "Book.waiting" aQh f fd):xH P w K mg base CX0 (n+1) f fd [AA,Aa] (bK7 CB CL false):=by
 have sc:=aKH;refine F.ok (k:=n) sc (λO A outer s H vs Q E hr h=>?_);obtain⟨J,M,U,ls,Y,R,S,d,rfl,I,hR,N,q⟩:=h;refine⟨_,(yG (yQ (aXr aW1 rfl (xQ (v9 a hr v7 (pv 0) (yA (pv 1) yD))) (λ_ _ _ _ _=>vC) (λ_ _ _ _ _=>(yL ixT (pv 0) yF))))),?_⟩;obtain⟨dx,hb⟩:=I.book;refine⟨_,Cd,J,dx,_,Cd,hb,Cd,_,Cd,J,M,U,ls,Y,R,S,d,Cd,I,hR,N,λl H1 g ps u a0 o C c=>?_⟩;have r:g.length=ps.length:=C.length;have Z:g.length<=R.length:=Fm.wW (c.ord.imp λ{x y} e z=>by rw[z,Stree.vW]at e;cases e) λx W=>((c.mem x).mp W).1;refine⟨l,Cd,⟨_,Cb o⟩,λD t=>?_⟩;refine aWZ (λ_=>true) (λm=>V.int (g.getD m 0:Nat)) (Cb o) t (zn (by omega)) (λj v L X R' B b=>b) (λj v L _ X R' B b=>?_) ?_
 ·obtain⟨k,hk,p,T,G⟩:=bXg C L;subst T;have:g.getD j 0=k:=by simp[cQ8,hk]
  rw[this]at b;exact⟨_,Cd,p,_,1,_,Cd,Cd,Cc ((B p (yI G t)).trans G),Cd,b⟩
 ·have e:=aZX g (λ_=>true) λi=>V.int (i:Nat);rw[r]at e;rw[e,cJd.mpr λ_ _=>rfl];exact q D _ g (u.trans (yE t _)) (u.fresh t) yB c
def aKD:yN [AA,Aa] [AA,Aa] (yH aQg):=scM
def aW0:xP [AA,Aa] (yH aQg) "pair" [Aa] [1] (lsN [(".0",.local),("pair",.local),(Aa,.free)]):=
 lcM
def aKi(cl:Cl K CB CL)(g:MG P w K mg base CX0 n CB BD [AA,Aa] (aVF CB CL))(F:Fun K AX "Book.overdue" aQg f fd):xH P w K mg base CX0 (n+1) f fd [AA,Aa] (bK7 CB CL true):=by
 have sc:=aKD;refine F.ok (k:=n) sc (λY A outer s H vs Q E hr h=>?_);obtain⟨U,W,Z,ls,cs,R,S,d,rfl,T,hR,X,q⟩:=h;refine⟨_,(yG (yQ (aXr aW0 rfl (xQ (v9 g hr v7 (pv 0) (yA (pv 1) yD))) (λ_ _ _ _ _=>(wG (yM vR (yL ixT (pv 0) yF) (pv 1)))) (λ_ _ _ _ _=>(yL ixT (pv 0) yF))))),?_⟩;obtain⟨dx,hb⟩:=T.book;refine⟨_,Cd,U,dx,_,Cd,hb,Cd,_,Cd,U,W,Z,ls,cs,R,S,d,Cd,T,hR,X,λl H1 t ps O a1 C L r=>?_⟩;have G:t.length=ps.length:=L.length;have a0:t.length<=R.length:=Fm.wW (r.ord.imp λ{x y} e z=>by rw[z,Stree.vW]at e;cases e) λx hx=>((r.mem x).mp hx).1;refine⟨l,Cd,⟨_,Cb C⟩,λD B=>?_⟩;refine aWZ (λm=>decide (jZ R S (t.getD m 0)<d)) (λm=>V.int (t.getD m 0:Nat)) (Cb C) B (zn (by omega)) (λj v N H' R' I o=>?_) (λj v N _ H' R' I o=>?_) ?_
 ·obtain⟨k,M,p,J,u⟩:=bXg L N;subst J;have:t.getD j 0=k:=by simp[cQ8,M]
  rw[this]at o;exact⟨_,Cd,p,_,0,_,Cd,Cd,Cc ((I p (yI u B)).trans u),Cd,_,Cd,_,_,Cd,Cd,_,Cd,o⟩
 ·obtain⟨k,M,p,J,u⟩:=bXg L N;subst J;have:t.getD j 0=k:=by simp[cQ8,M]
  rw[this]at o;exact⟨_,Cd,p,_,1,_,Cd,Cd,Cc ((I p (yI u B)).trans u),Cd,o⟩
 ·have e:=aZX t (λk=>decide (jZ R S k<d)) λi=>V.int (i:Nat);rw[G]at e;rw[e];refine q D _ (t.filter λk=>decide (jZ R S k<d)) (O.trans (yE B _)) (O.fresh B) yB ⟨λk=>?_,r.ord.sublist cZp⟩;rw[cXf,r.mem k,decide_eq_true_eq];unfold jZ;constructor
  ·rintro⟨⟨a,b,_⟩,c⟩;exact⟨a,b,λ_=>c⟩
  ·rintro⟨a,b,c⟩;exact⟨⟨a,b,λz=>by cases z⟩,c rfl⟩
end
end Desk
namespace Desk
open PySem L2 PyProof.Rows
open Bk (Row Rows)
def own(la sa:Nat)(ls cs:List Nat):List Nat:=la::sa::(ls++cs)
def aXg(o:List Nat)(H a:Hp):Prop:=∀b u,b∉o->(∀c,u≠ .tbl c)->H b=some u->a b=some u
def aXg.of(k:zA H a):aXg o H a:=λb u _ n e=>k b u n e
def aXg.trans(a:aXg o H d)(b:aXg o d f):aXg o H f:=λc u n t e=>b c u n t (a c u n t e)
def aY2:la∈own la sa ls cs:=cQG
def bJB:sa∈own la sa ls cs:=cQB _ cQG
def aVd(h:b∈ls):b∈own la sa ls cs:=cQB _ (cQB _ (cZx _ h))
def bKj(h:b∈cs):b∈own la sa ls cs:=cQB _ (cQB _ (cQN _ h))
section
variable {CB CL:Nat}{H:Hp}{ba la sa:Nat}{ls cs:List Nat}{R:Rows}{S:List Int}
def PB.l_ne(h:PB CB CL H ba la sa ls cs R S)(j:b∈ls)(c:H a=some (.lst xs)):a≠b:=λz=>by
 obtain⟨i,d,e⟩:=cXe j;obtain⟨o,k,n,f,m,⟨l,g⟩,p⟩:=h.get (cQn (show i<R.length by rw[<- h.len];exact d));rw[cQn d,e]at f;cases f;rw[z,g]at c;cases c
def PB.ba_ne(h:PB CB CL H ba la sa ls cs R S):ba∉ls:=λz=>by
 obtain⟨i,b,e⟩:=cXe z;obtain⟨m,g,l,c,k,⟨j,d⟩,n⟩:=h.get (cQn (show i<R.length by rw[<- h.len];exact b));rw[cQn b,e]at c;cases c;obtain⟨f,a⟩:=h.book;rw[d]at a;cases a
def PB.set(h:PB CB CL H ba la sa ls cs R S){k:Nat}(m:ls[k]? =some b)(t:cs[k]? =some c)(u:R[k]? =some r)(f:Row->Row)(x:(f r).copies=r.copies): PB CB CL (upd H b (.ins CL dx (aZ3 k (f r) c))) ba la sa ls cs (Bk.xD R k f) S:=by
 have a:=cQH m;refine⟨?_,?_,?_,by rw[Bk.xX];exact h.len,by rw[Bk.xX];exact h.clen,h.nd,h.cnd,h.las,h.lac,h.sac,λi s v A l q g=>?_⟩
 ·obtain⟨d,e⟩:=h.book;exact⟨d,by rw[yJ (λz=>h.ba_ne (by rw[z];exact a))];exact e⟩
 ·rw[yJ (h.l_ne a h.lst)];exact h.lst
 ·rw[yJ (h.l_ne a h.sht)];exact h.sht
 ·rw[Bk.xJ]at g;by_cases e:i=k
  ·subst e;rw[if_pos rfl,u]at g;cases g;rw[m]at l;cases l;rw[t]at q;cases q;obtain⟨_,j⟩:=h.row i b c r m t u;refine⟨⟨dx,yB⟩,?_⟩;rw[yJ (h.l_ne a j),x];exact j
  ·rw[if_neg e]at g;obtain⟨⟨d,w⟩,j⟩:=h.row i s v A l q g;have o:s≠b:=λz=>by
    subst z;obtain⟨B,p⟩:=cQA.mp l;obtain⟨y,n⟩:=cQA.mp m;exact e ((cZg h.nd).mp (p.trans n.symm))
   exact⟨⟨d,by rw[yJ o];exact w⟩,by rw[yJ (h.l_ne a j)];exact j⟩
def PB.copy(h:PB CB CL H ba la sa ls cs R S){k:Nat}(j:cs[k]? =some c)(s:R[k]? =some r)(d:Str): PB CB CL (upd H c (.lst ((r.copies++ [d]).map V.str))) ba la sa ls cs (Bk.xD R k λr=>{r with copies:=r.copies++ [d] }) S:=by
 have l:=cQH j;obtain⟨b0,K,G,I,w,⟨F,J⟩,A⟩:=h.get s;rw[j]at w;cases w;have n:∀ {a C dx fs},H a=some (.ins C dx fs)->a≠c:=λq z=>by rw[z,A]at q;cases q
 refine⟨?_,?_,?_,by rw[Bk.xX];exact h.len,by rw[Bk.xX];exact h.clen,h.nd,h.cnd,h.las,h.lac,h.sac,λi v u D x m g=>?_⟩
 ·obtain⟨b,e⟩:=h.book;exact⟨b,by rw[yJ (n e)];exact e⟩
 ·rw[yJ (λz=>h.lac (by rw[z];exact l))];exact h.lst
 ·rw[yJ (λz=>h.sac (by rw[z];exact l))];exact h.sht
 ·rw[Bk.xJ]at g;by_cases e:i=k
  ·subst e;rw[if_pos rfl,s]at g;cases g;rw[j]at m;cases m;obtain⟨⟨b,f⟩,y⟩:=h.row i v c r x j s;exact⟨⟨b,by rw[yJ (n f)];exact f⟩,yB⟩
  ·rw[if_neg e]at g;obtain⟨⟨b,f⟩,y⟩:=h.row i v u D x m g;have p:u≠c:=λz=>by
    subst z;obtain⟨E,t⟩:=cQA.mp m;obtain⟨B,o⟩:=cQA.mp j;exact e ((cZg h.cnd).mp (t.trans o.symm))
   exact⟨⟨b,by rw[yJ (n f)];exact f⟩,by rw[yJ p];exact y⟩
def PB.shutD(h:PB CB CL H ba la sa ls cs R S)(d:Int):PB CB CL (upd H sa (.lst ((S++ [d]).map V.int))) ba la sa ls cs R (S++ [d]):=by
 have c:∀ {a C dx fs},H a=some (.ins C dx fs)->a≠sa:=λq z=>by rw[z,h.sht]at q;cases q
 refine⟨?_,?_,yB,h.len,h.clen,h.nd,h.cnd,h.las,h.lac,h.sac,λi o j l k f m=>?_⟩
 ·obtain⟨b,e⟩:=h.book;exact⟨b,by rw[yJ (c e)];exact e⟩
 ·rw[yJ h.las];exact h.lst
 ·obtain⟨⟨b,g⟩,n⟩:=h.row i o j l k f m;exact⟨⟨b,by rw[yJ (c g)];exact g⟩,by rw[yJ (λz=>h.sac (by rw[<- z];exact cQH f))];exact n⟩
def PB.enter(h:PB CB CL H ba la sa ls cs R S){t:Hp}(hl:H l=none)(g:H c=none)(N:l≠c)(L:r.copies= [])(I:t l=some (.ins CL dx (aZ3 R.length r c)))(J:t c=some (.lst [])) (k:∀b o,H b=some o->t b=some o):PB CB CL (upd t la (.lst ((ls++ [l]).map V.ref))) ba la sa (ls++ [l]) (cs++ [c]) (R++ [r]) S:=by
 have D:l≠la:=λz=>by rw[z,h.lst]at hl;cases hl
 have n:c≠la:=λz=>by rw[z,h.lst]at g;cases g
 have F:∀ {a C dx fs},H a=some (.ins C dx fs)->a≠la:=λq z=>by rw[z,h.lst]at q;cases q
 have O:∀i b,ls[i]? =some b->i<R.length:=λi b q=>by rw[<- h.len];exact(cQA.mp q).1
 have nl:l∉ls:=λz=>by obtain⟨i,d,e⟩:=cXe z;obtain⟨w,v,s,m,y,⟨f,E⟩,G⟩:=h.get (cQn (show i<R.length by rw[<- h.len];exact d));rw[cQn d,e]at m;cases m;rw[E]at hl;cases hl
 have K:c∉cs:=λz=>by obtain⟨i,d,e⟩:=cXe z;obtain⟨w,v,s,m,y,E,G⟩:=h.get (cQn (show i<R.length by rw[<- h.clen];exact d));rw[cQn d,e]at y;cases y;rw[G]at g;cases g
 refine⟨?_,yB,?_,by simp[h.len],by simp[h.clen],?_,?_,h.las,?_,?_,λi w v M u p j=>?_⟩
 ·obtain⟨f,e⟩:=h.book;exact⟨f,by rw[yJ (F e)];exact k _ _ e⟩
 ·rw[yJ (cQ6 h.las)];exact k _ _ h.sht
 ·exact cZU.mpr ⟨h.nd,cXP _ _,λa A b B z=>nl (by rw[<- cQD.mp B,<- z];exact A)⟩
 ·exact cZU.mpr ⟨h.cnd,cXP _ _,λa A b B z=>K (by rw[<- cQD.mp B,<- z];exact A)⟩
 ·intro z;rcases cQY.mp z with z|z
  ·exact h.lac z
  ·exact n (cQD.mp z).symm
 ·intro z;rcases cQY.mp z with z|z
  ·exact h.sac z
  ·rw[<- cQD.mp z,h.sht]at g;cases g
 ·by_cases d:i<R.length
  ·rw[cQ0 (by rw[h.len];exact d)]at u;rw[cQ0 (by rw[h.clen];exact d)]at p;rw[cQ0 d]at j;obtain⟨⟨f,s⟩,m⟩:=h.row i w v M u p j;exact⟨⟨f,by rw[yJ (F s)];exact k _ _ s⟩,by rw[yJ (λz=>h.lac (by rw[<- z];exact cQH p))];exact k _ _ m⟩
  ·have x:i=R.length:=by
    have:=(cQA.mp j).1;simp at this;omega
   subst x;rw[cQK (by rw[h.len];exact cQv _),h.len,cXH]at u;rw[cQK (by rw[h.clen];exact cQv _),h.clen,cXH]at p;rw[cQK (cQv _),cXH]at j;cases u;cases p;cases j;exact⟨⟨dx,by rw[yJ D];exact I⟩,by rw[yJ n,J,L];rfl⟩
end
inductive bQT(CB:Nat)(vs:List V)(H:Hp)(Q:VK)(_:XK):Prop|mk(x dx:Nat)(_:vs= [.ref x])(_:H x=some (.ins CB dx []))(_:∀ (la sa:Nat)(H':Hp),H la=none->H sa=none->la≠sa->H' x=some (.ins CB dx [(B2,.ref la),(Aj,.ref sa)])->H' la=some (.lst [])->H' sa=some (.lst [])->(∀b,b≠x->b≠la->b≠sa->H' b=H b)->Q .non H')
inductive bWn(CB CL:Nat)(vs:List V)(H:Hp)(Q:VK)(_:XK):Prop|mk(ba la sa:Nat)(ls cs:List Nat)(R:Rows)(S:List Int)(way:Str)(d:Int)(who:Str)(t:Int)(_:vs= [.ref ba,.str way,.int d,.str who,.int t])(_:PB CB CL H ba la sa ls cs R S)(_:R.length<=1000)(_:∀ (l c:Nat)(H':Hp),H l=none->H c=none->PB CB CL H' ba la sa (ls++ [l]) (cs++ [c]) (R++ [⟨way,d,who,t,none,"",false,[]⟩]) S->(∀b o,b≠la->H b=some o->H' b=some o)->Q (.ref l) H')
inductive aZw(K:cQq)(Rf:Nat×Nat)(vs:List V)(H:Hp)(Q:VK)(E:XK):Prop|mk(t:Int)(_:vs= [.int t])(_:(0<=t->Q .non H))(_:(t<0->xM K Rf H E "no term"))
inductive aZv(K:cQq)(Rf:Nat×Nat)(vs:List V)(H:Hp)(Q:VK)(E:XK):Prop|mk(a b:Int)(_:vs= [.int a,.int b])(_:(a<=b->Q .non H))(_:(b<a->xM K Rf H E "too early"))
section
variable {K:cQq}
abbrev bQh:Stmt:=xK Am AE
abbrev bYu:Stmt:=xK Am Bq
abbrev bQu:Stmt:=xI B7
abbrev bQl:Stmt:=xI B8
def bZE:yN [AA] [AA] (yH bQh):=scM
def bX1(cl:Cl K CB CL)(F:Fun K AE "Book.__init__" bQh f fd):xH P w K mg base CX0 (n+1) f fd [AA] (bQT CB):=by
 have r:=bZE;refine F.ok (k:=n) r (λo A outer s H v Q E u h=>?_);obtain⟨x,m,rfl,j,q⟩:=h;refine⟨_,(yC (zT (pv 0) (yZ yD) rfl) (yG (zT (pv 0) (yZ yD) rfl))),?_⟩;refine⟨z0,λla g=>?_⟩;have c:x≠la:=yI j g;refine⟨_,Cd,x,CB,m,_,Cd,(yJ c).trans j,cl.b,cl.letters,(show 0<1000 by decide),?_⟩;refine⟨z0,λsa a=>?_⟩;have e:x≠sa:=yI yB a;have d:la≠sa:=λz=>by rw[<- z,yJ (cQ6 c),yB]at a;cases a
 refine⟨_,Cd,x,CB,m,_,Cd,(yJ e).trans yB,cl.b,cl.shut,(show 1<1000 by decide),?_⟩;have i:H sa=none:=by rw[yJ (cQ6 e),yJ (cQ6 d)]at a;exact a
 refine q la sa _ g i d yB ?_ ?_ λb l t p=>?_
 ·rw[yJ (cQ6 c),yJ d,yJ (cQ6 c),yB]
 ·rw[yJ (cQ6 e),yB]
 ·rw[yJ l,yJ p,yJ l,yJ t]
def bKy:yN [AA,Ba,Aa,Ab,AU,AL] [AA,Ba,Aa,Ab,AU] (yH bYu):=scM
def bKa(T:vQ mg)(cl:Cl K CB CL)(a:MkG P w K mg base n CF CL [AA,AC,Ba,Aa,Ab,AU] (bQZ CL))(F:Fun K Bq "Book.add_letter" bYu f fd): xH P w K mg base CX0 (n+2) f fd [AA,Ba,Aa,Ab,AU] (bWn CB CL):=by
 have X:=bKy;refine F.ok (k:=n+1) X (λL A outer s H vs Q E O h=>?_);obtain⟨ba,la,sa,ls,cs,R,S,G,d,u,t,rfl,l,hR,q⟩:=h;refine⟨_,(yC (yU (i:=5) (bYq a O rfl (yA (yS yO rfl T.b_len xE (yA (y7 (pv 0) rfl) yD)) (yA (pv 1) (yA (pv 2) (yA (pv 3) (yA (pv 4) yD))))))) (yC (y0 (v8 cQU cQ3 cQ4 xL (y7 (pv 0) rfl) (yA (pv 5) yD))) (yG (yQ (pv 5))))),?_⟩;obtain⟨I,J⟩:=l.book;have hl:(ls.map V.ref).length=R.length:=by rw[cQt];exact l.len
 refine⟨_,Cd,ba,CB,I,_,_,Cd,J,cl.b,cl.letters,Cd,la,_,Cd,.inl (Cb l.lst),?_⟩;rw[hl];refine⟨_,Cd,_,Cd,_,Cd,_,Cd,λx xd v D B=>?_⟩;refine⟨x,xd,R.length,G,d,u,t,Cd,yB,λc Y j N Z M=>⟨rfl,?_⟩⟩;dsimp only[yW];have p:c≠x:=λz=>by rw[z,yB]at j;cases j
 have y:c≠xd:=λz=>by rw[z,yJ B,yB]at j;cases j
 have g:H c=none:=by rw[yJ p,yJ y]at j;exact j
 have m:∀b o,H b=some o->Y b=some o:=λb o e=>by have b1:=yI e v;have U:=yI e g;have W:=yI e D;rw[M b b1 U,yJ b1,yJ W];exact e
 refine⟨_,Cd,ba,CB,I,_,_,Cd,m _ _ J,cl.b,cl.letters,Cd,.inl ⟨rfl,_,Cb (m _ _ l.lst)⟩,_,Cd,la,_,_,Cd,Cd,m _ _ l.lst,zlt (by omega),?_⟩;refine⟨_,Cd,?_⟩;have r:=l.enter v g (cQ6 p) rfl N Z m;rw[cX2]at r;refine q x c _ v g r λb o C e=>?_;rw[yJ C];exact m b o e
def bZS:yN [AU] [AU] (yH bQu):=scM
def bZf(a:ExG P w K mg base n "NoTerm" Rf.1 C1 "no term")(F:Fun K B7 B7 bQu f fd):xH P w K mg base (CXR P w) (n+2) f fd [AU] (aZw K Rf):=by
 have e:=bZS;refine F.okX (k:=n+1) e (λb A outer s H i Q E d h=>?_);obtain⟨t,rfl,q,g⟩:=h;refine⟨_,(yG (y6 (yM vR (pv 0) yF) (yG (wH a d rfl)) yT)),?_⟩;refine⟨_,Cd,_,_,Cd,Cd,_,Cd,?_⟩;refine qG (λc=>?_) (λc=>?_)
 ·exact(g (of_decide_eq_true c)).raise a
 ·exact q (by have:=of_decide_eq_false (Bool.eq_false_iff.mpr c);omega)
def bZI:yN [BE,BF] [BE,BF] (yH bQl):=scM
def bX5(d:ExG P w K mg base n "TooEarly" Rf.1 C1 "too early")(F:Fun K B8 B8 bQl f fd):xH P w K mg base (CXR P w) (n+2) f fd [BE,BF] (aZv K Rf):=by
 have i:=bZI;refine F.okX (k:=n+1) i (λe A outer s H l Q E g h=>?_);obtain⟨a,b,rfl,q,j⟩:=h;refine⟨_,(yG (y6 (yM vR (pv 1) (pv 0)) (yG (wH d g rfl)) yT)),?_⟩;refine⟨_,Cd,_,Cd,_,_,Cd,Cd,_,Cd,?_⟩;refine qG (λc=>?_) (λc=>?_)
 ·exact(j (of_decide_eq_true c)).raise d
 ·exact q (by have:=of_decide_eq_false (Bool.eq_false_iff.mpr c);omega)
end
end Desk
namespace Desk
open PySem L2 PyProof.Rows
open Bk (Row Rows)
def vT(o:List Nat)(H a:Hp):Prop:=∀b u,b∉o->H b=some u->a b=some u
def vT.of(k:xG H a):vT o H a:=λb u _ e=>k b u e
def vT.trans(a:vT o H d)(b:vT o d f):vT o H f:=λc u n e=>b c u n (a c u n e)
def vT.upd(a:b∈o)(u:HO):vT o H (upd H b u):=λc v n e=>by
 rw[yJ (λz=>n (by rw[z];exact a))];exact e
def vT.t(k:vT o H a):aXg o H a:=λb u n _ e=>k b u n e
def W7(H:Hp)(o a:List Nat):Prop:=∀b∈a,b∈o\/H b=none
def W7.refl:W7 H o o:=λb h=> .inl h
def W7.snoc(hl:H l=none)(a:H c=none):W7 H (own la sa ls cs) (own la sa (ls++ [l]) (cs++ [c])):=λb h=>by
 rcases cQz.mp h with e|h
 ·exact .inl (by rw[e];exact aY2)
 rcases cQz.mp h with e|h
 ·exact .inl (by rw[e];exact bJB)
 rcases cQY.mp h with h|h
 ·rcases cQY.mp h with h|h
  ·exact .inl (aVd h)
  ·exact .inr (by rw[cQD.mp h];exact hl)
 ·rcases cQY.mp h with h|h
  ·exact .inl (bKj h)
  ·exact .inr (by rw[cQD.mp h];exact a)
def aZy(e CL d la sa:Nat)(ls cs:List Nat)(H:Hp)(f:Rows)(g:List Int)(q:Hp->Prop):Prop:=∀ (c:Hp)(a b:List Nat),PB e CL c d la sa a b f g->vT (own la sa ls cs) H c->W7 H (own la sa ls cs) (own la sa a b)->q c
def bW7(i:Nat)(r:Row)(c:Nat)(t:Int):List (Str×V):=
 [(AC,.int (i:Nat)),(Ba,.str r.way),(Aa,.int r.date),(Ab,.str r.partner),(AU,.int t),(Ca,zN r.link),(Bi,qW r),(BL,.ref c),(AW,.bl r.void)]
inductive bQY(K:cQq)(Rf:Nat×Nat)(CB CL:Nat)(vs:List V)(H:Hp)(Q:VK)(E:XK):Prop|mk(ba la sa:Nat)(ls cs:List Nat)(R:Rows)(S:List Int)(way:Str)(d:Int)(who:Str)(t:Int)(_:vs= [.ref ba,.str way,.int d,.str who,.int t])(_:PB CB CL H ba la sa ls cs R S)(_:R.length<=1000)(_:(0<=t->aZy CB CL ba la sa ls cs H (R++ [⟨way,d,who,t,none,"",false,[]⟩]) S (Q (.int (R.length:Nat)))))(_:(t<0->xM K Rf H E "no term"))
inductive bQ3(K:cQq)(Rf:Nat×Nat)(CB CL:Nat)(vs:List V)(H:Hp)(Q:VK)(E:XK):Prop|mk(ba la sa:Nat)(ls cs:List Nat)(R:Rows)(S:List Int)(m d t:Int)(_:vs= [.ref ba,.int m,.int d,.int t])(_:PB CB CL H ba la sa ls cs R S)(_:R.length<=1000)(_:(Bk.vA R m=false->xM K Rf H E "no letter"))(_:(Bk.vA R m=true->t<0->xM K Rf H E "no term"))(_:∀ (k:Nat)(r:Row),m=(k:Int)->R[k]? =some r->r.void=false->0<=t->(d<r.date->xM K Rf H E "too early")/\(r.date<=d->aZy CB CL ba la sa ls cs H (R++ [⟨Bk.v6 r.way,d,r.partner,t,some k,r.place,false,[]⟩]) S (Q (.int (R.length:Nat)))))
inductive aWo(K:cQq)(Rf:Nat×Nat)(CB CL:Nat)(vs:List V)(H:Hp)(Q:VK)(E:XK):Prop|mk(ba la sa:Nat)(ls cs:List Nat)(R:Rows)(S:List Int)(m:Int)(_:vs= [.ref ba,.int m])(_:PB CB CL H ba la sa ls cs R S)(_:(Bk.vA R m=false->xM K Rf H E "no letter"))(_:∀ (k:Nat)(r:Row),m=(k:Int)->R[k]? =some r->r.void=false->(r.link=none->xM K Rf H E "has none")/\(r.link≠none->aZy CB CL ba la sa ls cs H (Bk.xD R k λr=>{r with link:=none}) S (Q .non)))
inductive aJu(K:cQq)(Rf:Nat×Nat)(CB CL:Nat)(vs:List V)(H:Hp)(Q:VK)(E:XK):Prop|mk(ba la sa:Nat)(ls cs:List Nat)(R:Rows)(S:List Int)(m t:Int)(_:vs= [.ref ba,.int m,.int t])(_:PB CB CL H ba la sa ls cs R S)(_:(Bk.vA R m=false->xM K Rf H E "no letter"))(_:∀ (k:Nat)(r:Row),m=(k:Int)->R[k]? =some r->r.void=false->(t<0->xM K Rf H E "no term")/\(0<=t->aZy CB CL ba la sa ls cs H (Bk.xD R k λr=>{r with term:=t}) S (Q .non)))
inductive bJL(K:cQq)(Rf:Nat×Nat)(CB CL:Nat)(vs:List V)(H:Hp)(Q:VK)(E:XK):Prop|mk(ba la sa:Nat)(ls cs:List Nat)(R:Rows)(S:List Int)(m:Int)(who:Str)(_:vs= [.ref ba,.int m,.str who])(_:PB CB CL H ba la sa ls cs R S)(_:(∀r∈R,r.copies.length<=1000))(_:(Bk.vA R m=false->xM K Rf H E "no letter"))(_:∀ (k:Nat)(r:Row),m=(k:Int)->R[k]? =some r->r.void=false->(who=r.partner\/who∈r.copies->xM K Rf H E CU)/\(who≠r.partner->who∉r.copies->aZy CB CL ba la sa ls cs H (Bk.xD R k λr=>{r with copies:=r.copies++ [who] }) S (Q (.int ((r.copies.length:Nat)+1)))))
inductive aWh(K:cQq)(Rf:Nat×Nat)(CB CL:Nat)(vs:List V)(H:Hp)(Q:VK)(E:XK):Prop|mk(ba la sa:Nat)(ls cs:List Nat)(R:Rows)(S:List Int)(m:Int)(_:vs= [.ref ba,.int m])(_:PB CB CL H ba la sa ls cs R S)(_:R.length<=100)(_:(Bk.vA R m=false->xM K Rf H E "no letter"))(_:∀ (k:Nat)(r:Row),m=(k:Int)->R[k]? =some r->r.void=false->(Bk.zU R k≠ []->xM K Rf H E B4)/\(Bk.zU R k= []->aZy CB CL ba la sa ls cs H (Bk.xD R k λr=>{r with link:=none,void:=true}) S (Q .non)))
inductive bJM(K:cQq)(Rf:Nat×Nat)(CB CL:Nat)(vs:List V)(H:Hp)(Q:VK)(E:XK):Prop|mk(ba la sa:Nat)(ls cs:List Nat)(R:Rows)(S:List Int)(d:Int)(_:vs= [.ref ba,.int d])(_:PB CB CL H ba la sa ls cs R S)(_:S.length<=1000)(_:(Dm.cts S d=false->xM K Rf H E "counts not"))(_:(Dm.cts S d=true->aZy CB CL ba la sa ls cs H R (S++ [d]) (Q .non)))
inductive aWp(K:cQq)(Rf:Nat×Nat)(CB CL:Nat)(vs:List V)(H:Hp)(Q:VK)(E:XK):Prop|mk(ba la sa:Nat)(ls cs:List Nat)(R:Rows)(S:List Int)(m d:Int)(_:vs= [.ref ba,.int m,.int d])(_:PB CB CL H ba la sa ls cs R S)(_:R.length<=100)(_:Bk.jU R)(_:(Bk.vA R m=false->xM K Rf H E "no letter"))(_:∀ (k:Nat)(r:Row),m=(k:Int)->R[k]? =some r->r.void=false->(((∃j,r.link=some j/\d<Bk.dt R j)\/∃c∈Bk.zU R k,Bk.dt R c<d)->xM K Rf H E "too early")/\((∀j,r.link=some j->Bk.dt R j<=d)->(∀c∈Bk.zU R k,d<=Bk.dt R c)->aZy CB CL ba la sa ls cs H (Bk.xD R k λr=>{r with date:=d}) S (Q .non)))
def aKI(R:Rows)(r:Row)(f:Row->Row):Bk.xD (R++ [r]) R.length f=R++ [f r]:=by
 apply cZc;intro i;rw[Bk.xJ];by_cases e:i=R.length
 ·subst e;rw[if_pos rfl,cQK (cQv _),cQK (cQv _),cXH];rfl
 ·rw[if_neg e];by_cases h:i<R.length
  ·rw[cQ0 h,cQ0 h]
  ·rw[cQW (by simp;omega),cQW (by simp;omega)]
section
variable {K:cQq}
abbrev bQn:Stmt:=xK Am "enter"
abbrev bQs:Stmt:=xK Am BP
abbrev aVp:Stmt:=xK Am "loosen"
abbrev aZh:Stmt:=xK Am "put_term"
abbrev bV2:Stmt:=xK Am "send_copy"
abbrev aVl:Stmt:=xK Am "cancel"
abbrev bV3:Stmt:=xK Am "shut_day"
abbrev aVq:Stmt:=xK Am "put_day"
def bZK:yN [AA,Ba,Aa,Ab,AU] [AA,Ba,Aa,Ab,AU] (yH bQn):=scM
def bX7(cl:Cl K CB CL)(a:FnX P w K mg base n B7 [AU] (aZw K Rf))(g:MG P w K mg base CX0 n CB Bq [AA,Ba,Aa,Ab,AU] (bWn CB CL)) (F:Fun K "enter" "Book.enter" bQn f fd):xH P w K mg base (CXR P w) (n+1) f fd [AA,Ba,Aa,Ab,AU] (bQY K Rf CB CL):=by
 have N:=bZK;refine F.okX (k:=n) N (λD A outer s H Y Q E v h=>?_);obtain⟨y,B,G,x,r,R,S,p,d,m,t,rfl,j,hR,q,W⟩:=h;refine⟨_,(yC (y0 (aQM a v rfl (yA (pv 4) yD))) (yG (yQ (y7 (v9 g v v7 (pv 0) (yA (pv 1) (yA (pv 2) (yA (pv 3) (yA (pv 4) yD))))) rfl)))),?_⟩;obtain⟨M,O⟩:=j.book;refine⟨_,Cd,t,Cd,λV=>?_,W⟩;refine⟨_,Cd,y,M,_,Cd,O,Cd,_,Cd,_,Cd,_,Cd,_,Cd,y,B,G,x,r,R,S,p,d,m,t,Cd,j,hR,λl c T hl L i C=>?_⟩;have J:(x++ [l])[R.length]? =some l:=by rw[<- j.len,cQK (cQv _),cXH];rfl
 have U:(r++ [c])[R.length]? =some c:=by rw[<- j.clen,cQK (cQv _),cXH];rfl
 obtain⟨⟨o,I⟩,X⟩:=i.row R.length l c _ J U (by rw[cQK (cQv _),cXH];rfl);exact⟨l,CL,o,_,_,Cd,I,cl.l,cl.number,Cd,q V T _ _ i (λb u n e=>C b u (λz=>n (by rw[z];exact aY2)) e) (W7.snoc hl L)⟩
def bZP:yN [AA,AC,Aa,AU,CW,AL] [AA,AC,Aa,AU] (yH bQs):=scM
def qX{R:Rows}{k:Nat}{r:Row}(b:R[k]? =some r)(a:r.void=false):Bk.vA R (k:Int)=true:=by rw[aZS b,a];rfl
def aXX(a:r.void=false):qW r= .str r.place:=by unfold qW;rw[a];rfl
def bJa(a:r.void=false):W6 r=r.term:=by unfold W6;rw[a];rfl
def bZc(cl:Cl K CB CL)(o:MG P w K mg base (CXR P w) n CB Ac [AA,AC] (aWf K Rf CB CL))(j:FnX P w K mg base n B7 [AU] (aZw K Rf)) (g:FnX P w K mg base n B8 [BE,BF] (aZv K Rf)) (p:FnG P w K mg base n C8 [Ba] bQ1) (a:MG P w K mg base CX0 n CB Bq [AA,Ba,Aa,Ab,AU] (bWn CB CL)) (F:Fun K BP "Book.reply" bQs f fd):xH P w K mg base (CXR P w) (n+1) f fd [AA,AC,Aa,AU] (bQ3 K Rf CB CL):=by
 have sc:=bZP;refine F.okX (k:=n) sc (λa0 A outer s H vs Q E D h=>?_);obtain⟨I,W,sa,L,J,R,S,m,d,t,rfl,B,hR,q1,q2,q3⟩:=h;refine⟨_,(yC (yU (i:=4) (v9 o D wB (pv 0) (yA (pv 1) yD))) (yC (y0 (aQM j D rfl (yA (pv 3) yD))) (yC (y0 (aQM g D rfl (yA (y7 (pv 4) rfl) (yA (pv 2) yD)))) (yC (yU (i:=5) (v9 a D v7 (pv 0) (yA (xN p D rfl (yA (y7 (pv 4) rfl) yD)) (yA (pv 2) (yA (y7 (pv 4) rfl) (yA (pv 3) yD)))))) (yC (zT (pv 5) (pv 1) rfl) (yC (zT (pv 5) (y7 (pv 4) rfl) rfl) (yG (yQ (y7 (pv 5) rfl))))))))),?_⟩;obtain⟨Y,hb⟩:=B.book;refine⟨_,Cd,I,Y,_,Cd,hb,Cd,_,Cd,I,W,sa,L,J,R,S,m,Cd,B,λk r b em U N M=>?_,q1⟩;subst em;obtain⟨X,cc,g1,g2,g3,⟨q,y⟩,g5⟩:=B.get U;obtain rfl:b=X:=cQI (M.symm.trans g2);dsimp only[yW];refine⟨_,Cd,t,Cd,λZ=>?_,λZ=>q2 (qX U N) Z⟩;obtain⟨q4,q5⟩:=q3 k r rfl U N Z;refine⟨_,Cd,b,CL,q,_,_,Cd,y,cl.l,cl.day,Cd,_,Cd,r.date,d,Cd,λhd=>?_,q4⟩;refine⟨_,Cd,I,Y,_,Cd,hb,Cd,_,Cd,b,CL,q,_,_,Cd,y,cl.l,cl.way,Cd,r.way,Cd,_,Cd,_,Cd,b,CL,q,_,_,Cd,y,cl.l,cl.partner,Cd,_,Cd,I,W,sa,L,J,R,S,Bk.v6 r.way,d,r.partner,t,Cd,B,hR,λl c H1 hl hc C k1=>?_⟩;dsimp only[yW];have h1:(L++ [l])[R.length]? =some l:=by rw[<- B.len,cQK (cQv _),cXH];rfl
 have h2:(J++ [c])[R.length]? =some c:=by rw[<- B.clen,cQK (cQv _),cXH];rfl
 have h3:(R++ [(⟨Bk.v6 r.way,d,r.partner,t,none,"",false,[]⟩:Row)])[R.length]? =some ⟨Bk.v6 r.way,d,r.partner,t,none,"",false,[]⟩:=by rw[cQK (cQv _),cXH];rfl
 obtain⟨⟨v,f1⟩,f2⟩:=C.row R.length l c _ h1 h2 h3;refine⟨_,Cd,_,Cd,l,CL,v,_,Cd,f1,cl.l,cl.link,(show 9<1000 by decide),?_⟩;have T:b≠l:=yI y hl;have V:b≠W:=λz=>by rw[z,B.lst]at y;cases y
 have O:upd H1 l (.ins CL v (aXt Ca (.int (k:Nat)) (aZ3 R.length ⟨Bk.v6 r.way,d,r.partner,t,none,"",false,[]⟩ c))) b=some (.ins CL q (aZ3 k r cc)):=(yJ T).trans (k1 _ _ V y);refine⟨_,Cd,b,CL,q,_,_,Cd,O,cl.l,cl.file,Cd,_,Cd,l,CL,v,_,Cd,yB,cl.l,cl.file,(show 9<1000 by decide),?_⟩;rw[jG];refine⟨_,Cd,l,CL,v,_,_,Cd,yB,cl.l,cl.number,Cd,?_⟩;have G:=C.set (dx:=v) h1 h2 h3 (λx=>{x with link:=some k,place:=r.place}) rfl;rw[aKI]at G;have e9:aXt Bi (qW r) (aXt Ca (.int (k:Nat)) (aZ3 R.length ⟨Bk.v6 r.way,d,r.partner,t,none,"",false,[]⟩ c))=aZ3 R.length ⟨Bk.v6 r.way,d,r.partner,t,some k,r.place,false,[]⟩ c:=by rw[aXX N];rfl
 refine q5 hd _ (L++ [l]) (J++ [c]) ?_ (λX u nb e=>?_) (W7.snoc hl hc)
 ·rw[e9];exact G
 ·rw[yJ (λz=>by rw[z]at e;rw[hl]at e;cases e)];exact k1 X u (λz=>nb (by rw[z];exact aY2)) e
def bQJ:yN [AA,AC,AL] [AA,AC] (yH aVp):=scM
def aYW(cl:Cl K CB CL)(c:MG P w K mg base (CXR P w) (n+1) CB Ac [AA,AC] (aWf K Rf CB CL))(a:ExG P w K mg base n "HasNone" Rf.1 C1 "has none") (F:Fun K "loosen" "Book.loosen" aVp f fd):xH P w K mg base (CXR P w) (n+2) f fd [AA,AC] (aWo K Rf CB CL):=by
 have O:=bQJ;refine F.okX (k:=n+1) O (λz A outer s H Z Q E u h=>?_);obtain⟨v,y,C,T,L,R,S,m,rfl,g,D,B⟩:=h;refine⟨_,(yC (yU (i:=2) (v9 c u wB (pv 0) (yA (pv 1) yD))) (yC (y6 (yM aXF (y7 (pv 2) rfl) x3) (yG (wH a u rfl)) yT) (yG (zT (pv 2) x3 rfl)))),?_⟩;obtain⟨N,U⟩:=g.book;refine⟨_,Cd,v,N,_,Cd,U,Cd,_,Cd,v,y,C,T,L,R,S,m,Cd,g,λk r b x q V o=>?_,D⟩;obtain⟨I,X,W,p,J,⟨e,t⟩,Y⟩:=g.get q;obtain rfl:b=I:=cQI (o.symm.trans p);obtain⟨G,M⟩:=B k r x q V;dsimp only[yW];refine⟨_,Cd,b,CL,e,_,_,Cd,t,cl.l,cl.link,Cd,Cd,_,Cd,?_⟩;cases d:r.link with
 |none=>exact onT rfl ((G d).raise a)
 |some j=>refine onF rfl ⟨_,Cd,b,CL,e,_,Cd,t,cl.l,cl.link,(show 9<1000 by decide),?_⟩;exact M (by rw[d];simp) _ _ _ (g.set p J q (λr=>{r with link:=none}) rfl) (vT.upd (aVd (cQH p)) _) W7.refl
def aKE:yN [AA,AC,AU,AL] [AA,AC,AU] (yH aZh):=scM
def aKj(cl:Cl K CB CL)(c:MG P w K mg base (CXR P w) n CB Ac [AA,AC] (aWf K Rf CB CL))(a:FnX P w K mg base n B7 [AU] (aZw K Rf)) (F:Fun K "put_term" "Book.put_term" aZh f fd):xH P w K mg base (CXR P w) (n+1) f fd [AA,AC,AU] (aJu K Rf CB CL):=by
 have T:=aKE;refine F.okX (k:=n) T (λB A outer s H vs Q E q h=>?_);obtain⟨u,z,D,U,M,R,S,m,t,rfl,d,G,C⟩:=h;refine⟨_,(yC (yU (i:=3) (v9 c q wB (pv 0) (yA (pv 1) yD))) (yC (y0 (aQM a q rfl (yA (pv 2) yD))) (yG (zT (pv 3) (pv 2) rfl)))),?_⟩;obtain⟨O,V⟩:=d.book;refine⟨_,Cd,u,O,_,Cd,V,Cd,_,Cd,u,z,D,U,M,R,S,m,Cd,d,λk r b y p v j=>?_,G⟩;obtain⟨J,g,Y,o,L,⟨e,x⟩,Z⟩:=d.get p;obtain rfl:b=J:=cQI (j.symm.trans o);obtain⟨I,N⟩:=C k r y p v;dsimp only[yW];refine⟨_,Cd,t,Cd,λW=>?_,I⟩;refine⟨_,Cd,_,Cd,b,CL,e,_,Cd,x,cl.l,cl.term,(show 9<1000 by decide),?_⟩;have X:aXt AU (.int t) (aZ3 k r g)=aZ3 k {r with term:=t} g:=by show bW7 k {r with term:=t} g t=_;unfold bW7 aZ3;rw[bJa (r:={r with term:=t}) v]
 rw[X];exact N W _ _ _ (d.set o L p (λr=>{r with term:=t}) rfl) (vT.upd (aVd (cQH o)) _) W7.refl
def bWg:yN [AA,AC,Bd,AL] [AA,AC,Bd] (yH bV2):=scM
def bVF(T:vQ mg)(cl:Cl K CB CL)(e:MG P w K mg base (CXR P w) (n+1) CB Ac [AA,AC] (aWf K Rf CB CL))(a:MG P w K mg base CX0 (n+1) CL CG [AA,Bd] (bJG CL))(d:ExG P w K mg base n "Copied" Rf.1 C1 CU) (F:Fun K "send_copy" "Book.send_copy" bV2 f fd):xH P w K mg base (CXR P w) (n+2) f fd [AA,AC,Bd] (bJL K Rf CB CL):=by
 have sc:=bWg;refine F.okX (k:=n+1) sc (λL A outer s H vs Q E x h=>?_);obtain⟨D,J,N,ls,Y,R,S,m,g,rfl,u,B,O,M⟩:=h;refine⟨_,(yC (yU (i:=3) (v9 e x wB (pv 0) (yA (pv 1) yD))) (yC (y6 (x8 (v9 a x v7 (pv 3) (yA (pv 2) yD))) (yG (wH d x rfl)) yT) (yC (y0 (v8 cQU cQ3 cQ4 xL (y7 (pv 3) rfl) (yA (pv 2) yD))) (yG (yQ (yS yO rfl T.b_len xE (yA (y7 (pv 3) rfl) yD))))))),?_⟩;obtain⟨dx,hb⟩:=u.book;refine⟨_,Cd,D,dx,_,Cd,hb,Cd,_,Cd,D,J,N,ls,Y,R,S,m,Cd,u,λk r b I t hv v=>?_,O⟩;obtain⟨W,p,g1,Z,C,⟨j,o⟩,q⟩:=u.get t;obtain rfl:b=W:=cQI (v.symm.trans Z);obtain⟨U,q4⟩:=M k r I t hv;have G:=B r (cQH t);dsimp only[yW];refine⟨_,Cd,b,j,_,Cd,o,Cd,_,Cd,b,k,r,p,g,Cd,⟨j,o⟩,q,_,Cd,?_⟩;refine qG (λc=>?_) (λc=>?_)
 ·refine(U ?_).raise d;rw[Bool.or_eq_true,decide_eq_true_eq,cX1]at c;exact c
 ·rw[Bool.or_eq_true,decide_eq_true_eq,cX1,not_or]at c;have y:b≠p:=λz=>by rw[z,q]at o;cases o
  refine⟨_,Cd,b,CL,j,_,_,Cd,o,cl.l,cl.copies,Cd,.inl ⟨rfl,_,Cb q⟩,_,Cd,p,_,_,Cd,Cd,q,zlt (by rw[cQt];omega),?_⟩;refine⟨_,Cd,b,CL,j,_,_,Cd,(yJ y).trans o,cl.l,cl.copies,Cd,p,_,Cd,.inl (Cb yB),?_⟩;have e9:r.copies.map V.str++ [V.str g]=(r.copies++ [g]).map V.str:=by simp
  rw[e9];have X:((r.copies++ [g]).map V.str).length=r.copies.length+1:=by simp
  rw[X];exact q4 c.1 c.2 _ _ _ (u.copy C t g) (vT.upd (bKj (cQH C)) _) W7.refl
def bQD:yN [AA,AC,AL] [AA,AC] (yH aVl):=scM
def aYQ(T:vQ mg)(cl:Cl K CB CL)(e:MG P w K mg base (CXR P w) (n+1) CB Ac [AA,AC] (aWf K Rf CB CL))(d:MG P w K mg base CX0 (n+1) CB Bo [AA,AL] (aVE CB CL))(g:MG P w K mg base CX0 (n+1) CL "make_void" [AA] (bJN CL))(a:ExG P w K mg base n "Answered" Rf.1 C1 B4) (F:Fun K "cancel" "Book.cancel" aVl f fd):xH P w K mg base (CXR P w) (n+2) f fd [AA,AC] (aWh K Rf CB CL):=by
 have sc:=bQD;refine F.okX (k:=n+1) sc (λN A outer s H vs Q E t h=>?_);obtain⟨u,D,G,y,I,R,S,m,rfl,p,hR,U,O⟩:=h;refine⟨_,(yC (yU (i:=2) (v9 e t wB (pv 0) (yA (pv 1) yD))) (yC (y6 (yM aXq (yS yO rfl T.b_len xE (yA (v9 d t v7 (pv 0) (yA (pv 2) yD)) yD)) yF) (yG (wH a t rfl)) yT) (yG (y0 (bZo g t v7 (pv 2)))))),?_⟩;obtain⟨J,L⟩:=p.book;refine⟨_,Cd,u,J,_,Cd,L,Cd,_,Cd,u,D,G,y,I,R,S,m,Cd,p,λk r b M x hv v=>?_,U⟩;obtain⟨Y,X,g1,q,Z,⟨o,C⟩,g5⟩:=p.get x;obtain rfl:b=Y:=cQI (v.symm.trans q);obtain⟨W,q4⟩:=O k r M x hv;dsimp only[yW];refine⟨_,Cd,u,J,_,Cd,L,Cd,_,Cd,u,D,G,y,I,R,S,k,b,Cd,p,q,hR,λl hl=>?_⟩;refine⟨l,_,Cd,.inl (Cb yB),_,_,Cd,Cd,_,Cd,?_⟩;have j:=yE hl (.lst ((Bk.zU R k).map λk=>(y.map V.ref).getD k .non));rw[cQt];refine qG (λc=>?_) (λc=>?_)
 ·refine((W λz=>?_).go (aKQ.of j)).raise a;have:=of_decide_eq_true c;rw[z]at this;simp at this
 ·have B:Bk.zU R k= []:=by
   have:=of_decide_eq_false (Bool.eq_false_iff.mpr c);exact cJn (by omega)
  refine⟨_,Cd,b,o,_,Cd,j _ _ C,Cd,b,o,k,r,X,Cd,j _ _ C,?_⟩;exact q4 B _ _ _ ((p.same j).set q Z x (λr=>{r with link:=none,void:=true}) rfl) ((vT.of j).trans (vT.upd (aVd (cQH q)) _)) W7.refl
def bWh:yN [AA,Aa] [AA,Aa] (yH bV3):=scM
def bVG(cl:Cl K CB CL)(c:FnG P w K mg base (n+1) "counts" [Aj,Ak] (Days.aWk K))(a:ExG P w K mg base n "CountsNot" Rf.1 C1 "counts not") (F:Fun K "shut_day" "Book.shut_day" bV3 f fd):xH P w K mg base (CXR P w) (n+2) f fd [AA,Aa] (bJM K Rf CB CL):=by
 have t:=bWh;refine F.okX (k:=n+1) t (λp A outer s H B Q E i h=>?_);obtain⟨o,v,g,z,y,R,S,d,rfl,e,x,r,q⟩:=h;refine⟨_,(yC (y6 (vL (x8 (xN c i rfl (yA (y7 (pv 0) rfl) (yA (pv 1) yD))))) (yG (wH a i rfl)) yT) (yG (y0 (v8 cQU cQ3 cQ4 xL (y7 (pv 0) rfl) (yA (pv 1) yD))))),?_⟩;obtain⟨l,m⟩:=e.book;refine⟨_,Cd,o,CB,l,_,_,Cd,m,cl.b,cl.shut,Cd,_,Cd,g,S,d,Cd,Cb e.sht,_,Cd,?_⟩;cases j:Dm.cts S d with
 |false=>exact onT rfl ((r j).raise a)
 |true=>
  refine onF rfl ⟨_,Cd,o,CB,l,_,_,Cd,m,cl.b,cl.shut,Cd,.inl ⟨rfl,_,Cb e.sht⟩,_,Cd,g,_,_,Cd,Cd,e.sht,zlt (by rw[cQt];omega),?_⟩;have u:S.map V.int++ [V.int d]=(S++ [d]).map V.int:=by simp
  rw[u];exact q j _ _ _ (e.shutD d) (vT.upd bJB _) W7.refl
def bQK:yN [AA,AC,Aa,AL,BP] [AA,AC,Aa] (yH aVq):=scM
def aYX(cl:Cl K CB CL)(g:MG P w K mg base (CXR P w) n CB Ac [AA,AC] (aWf K Rf CB CL))(p:MG P w K mg base CX0 n CB Bo [AA,AL] (aVE CB CL))(a:FnX P w K mg base n B8 [BE,BF] (aZv K Rf)) (F:Fun K "put_day" "Book.put_day" aVq f fd):xH P w K mg base (CXR P w) (n+1) f fd [AA,AC,Aa] (aWp K Rf CB CL):=by
 have sc:=bQK;refine F.okX (k:=n) sc (λa6 A outer s H vs Q E O h=>?_);obtain⟨B,la,sa,I,cs,R,S,m,d,rfl,y,hR,a4,q1,q2⟩:=h;refine⟨_,(yC (yU (i:=3) (v9 g O wB (pv 0) (yA (pv 1) yD))) (yC (y6 (yM z8 (y7 (pv 3) rfl) x3) (yG (y0 (aQM a O rfl (yA (y7 (v9 g O wB (pv 0) (yA (y7 (pv 3) rfl) yD)) rfl) (yA (pv 2) yD))))) yT) (yC (wM PassesOwn.leaving rfl (xQ (v9 p O v7 (pv 0) (yA (pv 3) yD))) (xF (i:=4)) (yG (y0 (aQM a O rfl (yA (pv 2) (yA (y7 (pv 4) rfl) yD)))))) (yG (zT (pv 3) (pv 2) rfl))))),?_⟩;obtain⟨dx,hb⟩:=y.book;refine⟨_,Cd,B,dx,_,Cd,hb,Cd,_,Cd,B,la,sa,I,cs,R,S,m,Cd,y,λk r b em hk hv a0=>?_,q1⟩;obtain⟨b',cc,g1,g2,g3,⟨D,g4⟩,g5⟩:=y.get hk;obtain rfl:b=b':=cQI (a0.symm.trans g2);obtain⟨q3,q4⟩:=q2 k r em hk hv;dsimp only[yW];refine x9 (λT H'=>T= [some (.ref B),some (.int m),some (.int d),some (.ref b),none]/\H'=H/\∀j,r.link=some j->Bk.dt R j<=d) ?_ λjn=>?_
 ·rintro T H' ⟨rfl,rfl,Z⟩;refine⟨_,Cd,B,dx,_,Cd,hb,Cd,_,Cd,B,la,sa,I,cs,R,S,k,b,Cd,y,g2,hR,λl hl=>?_⟩;have L:=yE hl (.lst ((Bk.zU R k).map λk=>(I.map V.ref).getD k .non));refine⟨l,Cd,⟨_,Cb yB⟩,?_⟩;refine zZ (xs:=(Bk.zU R k).map λk=>(I.map V.ref).getD k .non) (λt σ H1=>∃o:Option V,σ= [some (.ref B),some (.int m),some (.int d),some (.ref b),o]/\H1=upd H' l (.lst ((Bk.zU R k).map λk=>(I.map V.ref).getD k .non))/\∀i c,i<t->(Bk.zU R k)[i]? =some c->d<=Bk.dt R c) ?_ ?_ ?_ ?_
  ·exact⟨none,Cd,Cd,λi c z=>absurd z (cX3 _)⟩
  ·rintro t σ H1 ht ⟨o,rfl,rfl,hd⟩;exact Cb yB
  ·rintro t x σ H1 X ⟨o,rfl,rfl,hd⟩;rw[cQJ]at X;cases J:(Bk.zU R k)[t]? with
   |none=>rw[J]at X;cases X
   |some c=>
    rw[J]at X;have Y:=cQH J;have a2:c<R.length:=cQT.mp (cXf.mp Y).1;have C:=cQn a2;obtain⟨bc,c2,f1,f2,f3,⟨a1,f4⟩,f5⟩:=(y.same L).get C;have ex:(I.map V.ref).getD c .non= .ref bc:=by simp only[cQ8,f1];rfl
    obtain rfl:x= .ref bc:=by have z:=cQI X;rw[<- z];exact ex
    dsimp only[yW];refine⟨_,Cd,_,Cd,bc,CL,a1,_,_,Cd,f4,cl.l,cl.day,Cd,d,R[c].date,Cd,λq=>?_,λq=>?_⟩
    ·refine⟨_,Cd,Cd,λi c' hi G=>?_⟩;by_cases e:i=t
     ·subst e;rw[J]at G;cases G;rw[Bk.w9 C];exact q
     ·exact hd i c' (by omega) G
    ·exact(q3 (.inr ⟨c,Y,by rw[Bk.w9 C];exact q⟩)).go (aKQ.of L)
  ·rintro σ H1 ⟨o,rfl,rfl,hd⟩;have W:∀c∈Bk.zU R k,d<=Bk.dt R c:=λc J=>by
    obtain⟨i,hi,e⟩:=cXe J;exact hd i c (by rw[cQt];exact hi) (by rw[cQn hi,e])
   refine⟨_,Cd,_,Cd,b,CL,D,_,Cd,L _ _ g4,cl.l,cl.day,(show 9<1000 by decide),?_⟩;exact q4 Z W _ _ _ ((y.same L).set g2 g3 hk (λr=>{r with date:=d}) rfl) ((vT.of L).trans (vT.upd (aVd (cQH g2)) _)) W7.refl
 ·refine⟨_,Cd,b,CL,D,_,_,Cd,g4,cl.l,cl.link,Cd,Cd,_,Cd,?_⟩;cases v:r.link with
  |none=>exact onF rfl (jn _ _ ⟨rfl,Cd,λj Z=>by rw[v]at Z;cases Z⟩)
  |some j=>
   obtain⟨qj,u,a3⟩:=a4.ans k j r hk v;obtain⟨bj,cj,f1,f2,f3,⟨a5,f4⟩,f5⟩:=y.get u;refine onT rfl ⟨_,Cd,B,dx,_,Cd,hb,Cd,_,Cd,b,CL,D,_,_,Cd,g4,cl.l,cl.link,Cd,?_⟩;rw[v];refine⟨B,la,sa,I,cs,R,S,(j:Nat),Cd,y,λk2 r2 b2 e2 M a7 U=>?_,λhg=>?_⟩
   ·obtain rfl:j=k2:=by omega
    rw[u]at M;cases M;rw[f2]at U;cases U;refine⟨bj,CL,a5,_,_,Cd,f4,cl.l,cl.day,Cd,_,Cd,qj.date,d,Cd,λq=>?_,λq=>?_⟩
    ·refine jn _ _ ⟨rfl,Cd,λj' N=>?_⟩;rw[v]at N;cases N;rw[Bk.w9 u];exact q
    ·exact q3 (.inl ⟨j,v,by rw[Bk.w9 u];exact q⟩)
   ·rw[qX u a3.2.1]at hg;cases hg
end
end Desk
namespace Desk
open PySem L2 PyProof.Rows
open Bk (Row Rows)
open Thr (wK v5 qU)
def bXf{R:Rows}(b:Bk.jU R){rk:Nat->Nat}(o:Fm.Ok R.length (Bk.lk R) rk)(e:i<R.length):∀r q,R[i]? =some r->R[Fm.tp (Bk.lk R) rk i]? =some q->r.void=q.void:=
 Fm.aXO o (P:=λi=>∀r q,R[i]? =some r->R[Fm.tp (Bk.lk R) rk i]? =some q->r.void=q.void)
  (λi _ h r q a c=>by rw[Fm.zW h,a]at c;cases c;rfl)
  (λi j e h g r q a c=>by
   rw[Bk.wN a]at h;obtain⟨k,f,d⟩:=b.ans i j r a h;rw[Fm.vP o e (by rw[Bk.wN a];exact h)]at c;rw[d.1,<- g k q f c,d.2.1]) (rk i) i (cQv _) e
def bJb{R:Rows}(b:Bk.jU R){k j:Nat}(f:R[k]? =some r)(g:r.void=false)(h:j∈Bk.thr R k):∃q,R[j]? =some q/\q.void=false:=by
 obtain⟨l,o,_,i⟩:=Bk.X0 b.tree k;obtain⟨a,d⟩:=(i j).mp h;have c:=Bk.zV f;have e:=(Fm.bXd o c).1;refine⟨_,cQn a,?_⟩;rw[bXf b o a _ _ (cQn a) (by rw[d];exact cQn e),<- bXf b o c _ _ f (cQn e)];exact g
def bWw{R:Rows}(t:Bk.uW R)(d:R[i]? =some r)(hl:r.link=none)(a:j<R.length):j∈Bk.thr R i↔(Bk.thr R j).head? =some i:=by
 obtain⟨h,o,c⟩:=Bk.uN t a;obtain⟨b,f,_,g⟩:=Bk.X0 t i;rw[g j,c];have e:Fm.tp (Bk.lk R) b i=i:=Fm.zW (by rw[Bk.wN d];exact hl);rw[e,Fm.jE f o a];exact⟨λz=>by rw[z.2],λz=>⟨a,cQI z⟩⟩
inductive jS(K:cQq)(Rf:Nat×Nat)(CB CL:Nat)(vs:List V)(H:Hp)(Q:VK)(E:XK):Prop|mk(ba la sa:Nat)(ls cs:List Nat)(R:Rows)(S:List Int)(m:Int)(_:vs= [.ref ba,.int m])(_:PB CB CL H ba la sa ls cs R S)(_:R.length<64)(_:Bk.uW R)(_:wK Rf.2 H)(_:(Bk.vA R m=false->xM K Rf H E "no letter"))(_:∀ (k:Nat)(r:Row),m=(k:Int)->R[k]? =some r->r.void=false->∀ (H':Hp)(l:Nat),(∀b u,(∀ps,u≠HO.tbl ps)->H b=some u->b≠l)->zA H H'->wK Rf.2 H'->H' l=some (.lst ((Bk.thr R k).map λi=>V.int (i:Nat)))->Q (.ref l) H')
def bWE(T e CL d la sa:Nat)(ls cs:List Nat)(H:Hp)(f:Rows)(g:List Int)(q:Hp->Prop):Prop:=∀ (c:Hp)(a b:List Nat),PB e CL c d la sa a b f g->aXg (own la sa ls cs) H c->W7 H (own la sa ls cs) (own la sa a b)->wK T c->q c
inductive bWp(K:cQq)(Rf:Nat×Nat)(CB CL:Nat)(vs:List V)(H:Hp)(Q:VK)(E:XK):Prop|mk(ba la sa:Nat)(ls cs:List Nat)(R:Rows)(S:List Int)(m:Int)(name:Str)(_:vs= [.ref ba,.int m,.str name])(_:PB CB CL H ba la sa ls cs R S)(_:R.length<64)(_:Bk.jU R)(_:wK Rf.2 H)(_:(Bk.vA R m=false->xM K Rf H E "no letter"))(_:∀ (k:Nat)(r:Row),m=(k:Int)->R[k]? =some r->r.void=false->∀ (H':Hp),PB CB CL H' ba la sa ls cs (Bk.laid R (Bk.thr R k) name) S->aXg (own la sa ls cs) H H'->wK Rf.2 H'->Q (.int ((Bk.thr R k).length:Nat)) H')
section
variable {K:cQq}
abbrev Y4:Stmt:=xK Am Bf
abbrev bYA:Stmt:=xK Am Br
def aVB:yN [AA,AC,Ap,Ax] [AA,AC] (yH Y4):=scM
def aQD:xP [AA,AC,Ap,Ax] (yH Y4) AL [] [] (lsN [(".0",.local),(AL,.local)]):=
 lcM
def aVa(cl:Cl K CB CL)(c:MG P w K mg base (CXR P w) n CB Ac [AA,AC] (aWf K Rf CB CL))(d:FnG P w K mg base n B9 [Ap,Ax,AC] (Thr.aWr Rf.2)) (F:Fun K Bf "Book.thread_of" Y4 f fd):xH P w K mg base (CXR P w) (n+1) f fd [AA,AC] (jS K Rf CB CL):=by
 have sc:=aVB;refine F.okX (k:=n) sc (λa2 A outer s H vs Q E hr h=>?_);obtain⟨N,Z,sa,ls,cs,R,S,m,rfl,C,hR,hT,tb,q1,q2⟩:=h;refine⟨_,(yC (y0 (v9 c hr wB (pv 0) (yA (pv 1) yD))) (yC (aXs (i:=2) aQD rfl sc.nd rfl rfl (xQ (y7 (pv 0) rfl)) (λ_ _ _ _ _=>vC) (λ_ _ _ _ _=>(aQL (K:=K) (pv 0) rfl))) (yC (aXs (i:=3) aQD rfl sc.nd rfl rfl (xQ (y7 (pv 0) rfl)) (λ_ _ _ _ _=>vC) (λ_ _ _ _ _=>(aQL (K:=K) (pv 0) rfl))) (yG (yQ (xN d hr rfl (yA (pv 2) (yA (pv 3) (yA (pv 1) yD))))))))),?_⟩;obtain⟨dx,Y⟩:=C.book;have hl:(ls.map V.ref).length=R.length:=by rw[cQt];exact C.len
 refine⟨_,Cd,N,dx,_,Cd,Y,Cd,_,Cd,N,Z,sa,ls,cs,R,S,m,Cd,C,λk r b em hk p a1=>?_,q1⟩;subst em;have M:=Bk.zV hk;have x:(cQy R.length).filter (λ_=>true)=cQy R.length:=cJd.mpr λ_ _=>rfl;refine⟨_,Cd,N,CB,dx,_,_,Cd,Y,cl.b,cl.letters,Cd,Z,Cd,⟨_,Cb C.lst⟩,λD W=>?_⟩;refine aWZ (λ_=>true) (λi=>Thr.zN (Bk.lk R i)) (Cb C.lst) W (zn (by omega)) (λj v p U R' J a=>a) (λj v p _ U R' J a=>?_) ?_
 ·have T:j<R.length:=by rw[<- hl];exact(cQA.mp p).1
  have g:=cQn T;obtain⟨I,c2,q,G,k3,⟨B,L⟩,k5⟩:=C.get g;obtain rfl:v= .ref I:=cQI (p.symm.trans q);rw[Bk.wN g]at a;exact⟨_,Cd,I,CL,B,_,_,Cd,(J _ (yI L W)).trans L,cl.l,cl.link,Cd,a⟩
 rw[hl,x];dsimp only[yW];have q:=yE W (.lst ((cQy R.length).map λi=>Thr.zN (Bk.lk R i)));have y:=C.same q;refine⟨_,Cd,N,CB,dx,_,_,Cd,q _ _ Y,cl.b,cl.letters,Cd,Z,Cd,⟨_,Cb y.lst⟩,λD2 z=>?_⟩;refine aWZ (λ_=>true) (λi=>V.int (Bk.dt R i)) (Cb y.lst) z (zn (by omega)) (λj v p U R' J a=>a) (λj v p _ U R' J a=>?_) ?_
 ·have T:j<R.length:=by rw[<- hl];exact(cQA.mp p).1
  have g:=cQn T;obtain⟨I,c2,q,G,k3,⟨B,L⟩,k5⟩:=y.get g;obtain rfl:v= .ref I:=cQI (p.symm.trans q);rw[Bk.w9 g]at a;exact⟨_,Cd,I,CL,B,_,_,Cd,(J _ (yI L z)).trans L,cl.l,cl.day,Cd,a⟩
 rw[hl,x];dsimp only[yW];have G:=yE z (.lst ((cQy R.length).map λi=>V.int (Bk.dt R i)));obtain⟨rk,o⟩:=hT;have X:wK Rf.2 (upd (upd H D (.lst ((cQy R.length).map λi=>Thr.zN (Bk.lk R i)))) D2 (.lst ((cQy R.length).map λi=>V.int (Bk.dt R i)))):=by
  have O:=q.trans G;rcases tb with t|⟨c',t1,t2⟩
  ·exact .inl (O _ _ t)
  ·exact .inr ⟨c',O _ _ t1,O _ _ t2⟩
 refine⟨_,Cd,_,Cd,_,Cd,D,D2,R.length,Bk.lk R,rk,Bk.dt R,k,Cd,G _ _ yB,yB,o,by omega,M,X,λH3 r3 a0 n3 k3 t3 h3 hp hm=>?_⟩;have e:=Bk.aXN M ⟨rk,o,hp,hm⟩;refine q2 k r rfl hk p H3 r3 (λb u nt e=>n3 b u nt ((q.trans G) _ _ e)) ((q.trans G).t.trans k3) t3 ?_;rw[e];exact h3
end
end Desk
namespace Desk
open PySem L2 PyProof.Rows
open Bk (Row Rows)
open Thr (wK v5 qU)
def x0(t:wK T H)(k:vT o H d)(l:∀b∈o,∀u,H b=some u->(∃a,u= .lst a)\/∃C c fs,u= .ins C c fs):wK T d:=by
 have no:∀b u,H b=some u->(∀a,u≠ .lst a)->(∀C c fs,u≠ .ins C c fs)->b∉o:=λb u e i j z=>by
  rcases l b z u e with⟨a,q⟩|⟨C,c,fs,q⟩
  ·exact i _ q
  ·exact j _ _ _ q
 rcases t with t|⟨h,f,g⟩
 ·exact .inl (k _ _ (no _ _ t (by intro _ z;cases z) (by intro _ _ _ z;cases z)) t)
 ·exact .inr ⟨h,k _ _ (no _ _ f (by intro _ z;cases z) (by intro _ _ _ z;cases z)) f,k _ _ (no _ _ g (by intro _ z;cases z) (by intro _ _ _ z;cases z)) g⟩
def PB.kinds{R:Rows}(h:PB r CL H p la sa ls cs R S):∀b∈own la sa ls cs,∀u,H b=some u->(∃m,u= .lst m)\/∃C k fs,u= .ins C k fs:=λb a u e=>by
 rcases cQz.mp a with rfl|a
 ·rw[h.lst]at e;cases e;exact .inl ⟨_,rfl⟩
 rcases cQz.mp a with rfl|a
 ·rw[h.sht]at e;cases e;exact .inl ⟨_,rfl⟩
 rcases cQY.mp a with a|a
 ·obtain⟨i,c,q⟩:=cXe a;obtain⟨o,l,n,f,d,⟨k,g⟩,j⟩:=h.get (cQn (show i<R.length by rw[<- h.len];exact c));rw[cQn c,q]at f;cases f;rw[g]at e;cases e;exact .inr ⟨_,_,_,rfl⟩
 ·obtain⟨i,c,q⟩:=cXe a;obtain⟨o,l,n,f,d,g,j⟩:=h.get (cQn (show i<R.length by rw[<- h.clen];exact c));rw[cQn c,q]at d;cases d;rw[j]at e;cases e;exact .inl ⟨_,rfl⟩
def PB.notown{R:Rows}(h:PB r CL H p la sa ls cs R S)(n:∀b u,(∀s,u≠HO.tbl s)->H b=some u->b≠l):l∉own la sa ls cs:=λa=>by
 rcases cQz.mp a with e|a
 ·exact n la _ (by intro _ z;cases z) h.lst e.symm
 rcases cQz.mp a with e|a
 ·exact n sa _ (by intro _ z;cases z) h.sht e.symm
 rcases cQY.mp a with a|a
 ·obtain⟨i,c,q⟩:=cXe a;obtain⟨o,k,m,f,d,⟨t,g⟩,j⟩:=h.get (cQn (show i<R.length by rw[<- h.len];exact c));rw[cQn c,q]at f;cases f;exact n l _ (by intro _ z;cases z) g rfl
 ·obtain⟨i,c,q⟩:=cXe a;obtain⟨o,k,m,f,d,g,j⟩:=h.get (cQn (show i<R.length by rw[<- h.clen];exact c));rw[cQn c,q]at d;cases d;exact n l _ (by intro _ z;cases z) j rfl
def PB.notnone{R:Rows}(h:PB c CL H a la sa ls cs R S)(n:H l=none):l∉own la sa ls cs:=h.notown λb u _ e=>yI e n
def bZt(b:q.void=false):aXt Bi (.str name) (aZ3 j q c)=aZ3 j {q with place:=name} c:=by
 have a:qW {q with place:=name}= .str name:=aXX (r:={q with place:=name}) b;unfold aZ3;rw[a];rfl
def aQC(R:Rows)(l:List Nat)(k:Nat)(name:Str):Bk.laid R (l++ [k]) name=Bk.xD (Bk.laid R l name) k λr=>{r with place:=name}:=by
 unfold Bk.laid;rw[cVL];rfl
def aZ1{R:Rows}{l:List Nat}{name:Str}{j:Nat}{q:Row}(h:R[j]? =some q):∃a,(Bk.laid R l name)[j]? =some a/\a.void=q.void:=by
 rw[Bk.wF,h];by_cases e:j∈l
 ·rw[if_pos e];exact⟨_,Cd,rfl⟩
 ·rw[if_neg e];exact⟨q,Cd,rfl⟩
inductive bQU(K:cQq)(Rf:Nat×Nat)(CB CL:Nat)(vs:List V)(H:Hp)(Q:VK)(E:XK):Prop|mk(ba la sa:Nat)(ls cs:List Nat)(R:Rows)(S:List Int)(i j:Nat)(b b2:Nat)(r q:Row)(_:vs= [.ref ba,.ref b,.ref b2])(_:PB CB CL H ba la sa ls cs R S)(_:R.length<64)(_:Bk.uW R)(_:wK Rf.2 H)(_:R[i]? =some r)(_:r.void=false)(_:R[j]? =some q)(_:q.void=false)(_:ls[i]? =some b)(_:ls[j]? =some b2)(_:(r.link≠none->xM K Rf H E "has one"))(_:(r.link=none->(Bk.thr R j).head? =some i->xM K Rf H E "own thread"))(_:(r.link=none->(Bk.thr R j).head? ≠some i->(r.way=q.way->xM K Rf H E "same way")/\(r.way≠q.way->(r.partner≠q.partner->xM K Rf H E "other partner")/\(r.partner=q.partner->(r.date<q.date->xM K Rf H E "too early")/\(q.date<=r.date->∀H',zA H H'->wK Rf.2 H'->Q .non H')))))
section
variable {K:cQq}
def bKC:yN [AA,AC,Bp,"numbers","member",AL] [AA,AC,Bp] (yH bYA):=scM
def bKe(T:vQ mg)(cl:Cl K CB CL)(a:MG P w K mg base (CXR P w) n CB Bf [AA,AC] (jS K Rf CB CL))(F:Fun K Br "Book.lay_thread" bYA f fd):xH P w K mg base (CXR P w) (n+1) f fd [AA,AC,Bp] (bWp K Rf CB CL):=by
 have sc:=bKC;refine F.okX (k:=n) sc (λa1 A outer s H vs Q E hr h=>?_);obtain⟨D,M,O,ls,cs,R,S,m,g,rfl,Z,hR,C,tb,q1,q2⟩:=h;refine⟨_,(yC (yU (i:=3) (v9 a hr wB (pv 0) (yA (pv 1) yD))) (yC (wM PassesOwn.leaving rfl (xQ (pv 3)) (xF (i:=4)) (yC (yU (i:=5) (yL yK (y7 (pv 0) rfl) (pv 4))) (yG (zT (pv 5) (pv 2) rfl)))) (yG (yQ (yS yO rfl T.b_len xE (yA (pv 3) yD)))))),?_⟩;obtain⟨dx,hb⟩:=Z.book;refine⟨_,Cd,D,dx,_,Cd,hb,Cd,_,Cd,D,M,O,ls,cs,R,S,m,Cd,Z,hR,C.tree,tb,q1,λk r em U hv H1 l _ k1 t1 hl=>?_⟩;dsimp only[yW];have q:=Z.sameT k1;have a2:=Bk.zV U;refine⟨_,Cd,l,Cd,⟨_,Cb hl⟩,?_⟩;refine zZ (xs:=(Bk.thr R k).map λi=>V.int (i:Nat)) (λt σ p=>L2.Ez2 λ(L I:Option V)=>σ= [some (.ref D),some (.int m),some (.str g),some (.ref l),L,I]/\PB CB CL p D M O ls cs (Bk.laid R ((Bk.thr R k).take t) g) S/\vT (own M O ls cs) H1 p/\p l=some (.lst ((Bk.thr R k).map λi=>V.int (i:Nat)))) ?_ ?_ ?_ ?_
 ·exact⟨none,none,Cd,q,λb u _ e=>e,hl⟩
 ·rintro t σ p ht ⟨L,I,rfl,d,v,o⟩;exact Cb o
 ·rintro t x σ p G ⟨L,I,rfl,d,v,o⟩;rw[cQJ]at G;cases J:(Bk.thr R k)[t]? with
  |none=>rw[J]at G;cases G
  |some j=>
   rw[J]at G;cases G;obtain⟨qj,N,X⟩:=bJb C U hv (cQH J);obtain⟨q',B,y⟩:=aZ1 (l:=(Bk.thr R k).take t) (name:=g) N;rw[X]at y;obtain⟨b,c,g1,g2,g3,⟨a0,g4⟩,g5⟩:=d.get B;obtain⟨W,Y⟩:=d.book;dsimp only[yW];refine⟨_,Cd,D,CB,W,_,_,Cd,Y,cl.b,cl.letters,Cd,_,Cd,M,_,_,_,Cd,Cd,Cb d.lst,yR g1,?_⟩;dsimp only[yW];refine⟨_,Cd,_,Cd,b,CL,a0,_,Cd,g4,cl.l,cl.file,(show 9<1000 by decide),_,_,Cd,?_,v.trans (vT.upd (aVd (cQH g2)) _),?_⟩
   ·rw[bZt y,show(Bk.thr R k).take (t+1)=(Bk.thr R k).take t++ [j]from by rw[cXA,J];rfl,aQC];exact d.set g2 g3 B (λr=>{r with place:=g}) rfl
   ·rw[yJ (λz=>by rw[z,g4]at o;cases o)];exact o
 ·rintro σ p ⟨L,I,rfl,d,v,o⟩;rw[cQt,cXw]at d;refine⟨_,Cd,l,_,Cd,.inl (Cb o),?_⟩;rw[cQt];exact q2 k r em U hv p d ((aXg.of k1).trans v.t) (x0 t1 v q.kinds)
abbrev bQi:Stmt:=xK Am Bs
abbrev bVX:Stmt:=xK Am "hang"
def bZF:yN [AA,AL,CW] [AA,AL,CW] (yH bQi):=scM
def aVQ(d:Nat):∀ns:List Nat,inV (.int (d:Nat)) (ns.map λi=>V.int (i:Nat))=ns.contains d
 |[]=>rfl
 |n::r=>by have a:=aVQ d r;unfold inV at a ⊢;rw[cXa,cZD,a,cZM];congr 1;show((n:Int)==(d:Int))=(d==n);rw[Bool.eq_iff_iff,beq_iff_eq,beq_iff_eq];omega
def aZN:∀ns:List Nat,(ns.map λi=>V.int (i:Nat)).all Q9=true
 |[]=>rfl
 |n::r=>by rw[cXa,cJF,aZN r];rfl
def bX2(cl:Cl K CB CL)(o:MG P w K mg base (CXR P w) (n+1) CB Bf [AA,AC] (jS K Rf CB CL))(g:FnX P w K mg base (n+1) B8 [BE,BF] (aZv K Rf)) (m:ExG P w K mg base n "HasOne" Rf.1 C1 "has one") (d:ExG P w K mg base n "OwnThread" Rf.1 C2 "own thread") (e:ExG P w K mg base n "SameWay" Rf.1 C3 "same way") (a:ExG P w K mg base n "OtherPartner" Rf.1 C4 "other partner") (F:Fun K Bs "Book.check_hanging" bQi f fd):xH P w K mg base (CXR P w) (n+2) f fd [AA,AL,CW] (bQU K Rf CB CL):=by
 have sc:=bZF;refine F.okX (k:=n+1) sc (λa1 A outer s H vs Q E C h=>?_);obtain⟨ba,la,sa,ls,cs,R,S,i,j,b,D,r,q,rfl,I,hR,Z,tb,J,hv,hj,hw,N,M,q1,q2,q3⟩:=h;refine⟨_,(yC (y6 (yM z8 (y7 (pv 1) rfl) x3) (yG (wH m C rfl)) yT) (yC (y6 (yM vI (y7 (pv 2) rfl) (v9 o C wB (pv 0) (yA (y7 (pv 1) rfl) yD))) (yG (wH d C rfl)) yT) (yC (y6 (yM zK (y7 (pv 1) rfl) (y7 (pv 2) rfl)) (yG (wH e C rfl)) yT) (yC (y6 (yM Y1 (y7 (pv 1) rfl) (y7 (pv 2) rfl)) (yG (wH a C rfl)) yT) (yG (y0 (aQM g C rfl (yA (y7 (pv 2) rfl) (yA (y7 (pv 1) rfl) yD))))))))),?_⟩;obtain⟨dx,hb⟩:=I.book;obtain⟨b',c1,g1,g2,g3,⟨p,T⟩,g5⟩:=I.get J;obtain rfl:b=b':=cQI (N.symm.trans g2);obtain⟨L,c2,f1,f2,f3,⟨u,f4⟩,f5⟩:=I.get hj;obtain rfl:D=L:=cQI (M.symm.trans f2);refine⟨_,Cd,b,CL,p,_,_,Cd,T,cl.l,cl.link,Cd,Cd,_,Cd,?_⟩;cases t:r.link with
 |some x=>exact onT rfl ((q1 (by rw[t];simp)).raise m)
 |none=>
  have W:=q2 t;have O:=q3 t;refine onF rfl ⟨_,Cd,D,CL,u,_,_,Cd,f4,cl.l,cl.number,Cd,_,Cd,ba,dx,_,Cd,hb,Cd,_,Cd,b,CL,p,_,_,Cd,T,cl.l,cl.number,Cd,?_⟩;refine⟨ba,la,sa,ls,cs,R,S,(i:Nat),Cd,I,hR,Z,tb,(λhg=>by rw[qX J hv]at hg;cases hg),λk r' em hk a0 H1 l _ B G hl=>?_⟩;obtain rfl:i=k:=by omega
  refine⟨l,_,Cd,.inl (Cb hl),Cd,aZN _,_,Cd,?_⟩;rw[if_neg (show ¬ (false=true) by decide),aVQ];have Y:=Bk.zV hj;have own:=bWw Z J t Y;have y:=B _ _ (λ_ z=>by cases z) T;have v:=B _ _ (λ_ z=>by cases z) f4;refine qG (λc=>?_) (λc=>?_)
  ·exact((W (own.mp (cX1.mp c))).go ⟨B,λ_=>G⟩).raise d
  ·have U:(Bk.thr R j).head? ≠some i:=λz=>c (cX1.mpr (own.mpr z));obtain⟨q4,q5⟩:=O U;refine⟨_,Cd,b,CL,p,_,_,Cd,y,cl.l,cl.way,Cd,_,Cd,D,CL,u,_,_,Cd,v,cl.l,cl.way,Cd,Cd,_,Cd,?_⟩;have e1:decide (V.str r.way=V.str q.way)=decide (r.way=q.way):=by rw[Bool.eq_iff_iff];simp
   rw[e1];refine qG (λc=>?_) (λc=>?_)
   ·exact((q4 (of_decide_eq_true c)).go ⟨B,λ_=>G⟩).raise e
   ·obtain⟨q6,q7⟩:=q5 (of_decide_eq_false (Bool.eq_false_iff.mpr c));refine⟨_,Cd,b,CL,p,_,_,Cd,y,cl.l,cl.partner,Cd,_,Cd,D,CL,u,_,_,Cd,v,cl.l,cl.partner,Cd,Cd,_,Cd,?_⟩;have e2:decide (V.str r.partner=V.str q.partner)=decide (r.partner=q.partner):=by rw[Bool.eq_iff_iff];simp
    rw[e2];cases hp:decide (r.partner=q.partner)with
    |false=>exact onT rfl (((q6 (of_decide_eq_false hp)).go ⟨B,λ_=>G⟩).raise a)
    |true=>obtain⟨q8,q9⟩:=q7 (of_decide_eq_true hp);refine onF rfl ⟨_,Cd,D,CL,u,_,_,Cd,v,cl.l,cl.day,Cd,_,Cd,b,CL,p,_,_,Cd,y,cl.l,cl.day,Cd,q.date,r.date,Cd,λX=>q9 X H1 B G,λX=>(q8 X).go ⟨B,λ_=>G⟩⟩
inductive bJH(K:cQq)(Rf:Nat×Nat)(CB CL:Nat)(vs:List V)(H:Hp)(Q:VK)(E:XK):Prop|mk(ba la sa:Nat)(ls cs:List Nat)(R:Rows)(S:List Int)(m o:Int)(_:vs= [.ref ba,.int m,.int o])(_:PB CB CL H ba la sa ls cs R S)(_:R.length<64)(_:Bk.jU R)(_:wK Rf.2 H)(_:(Bk.vA R m=false\/Bk.vA R o=false->xM K Rf H E "no letter"))(_:∀ (i j:Nat)(r q:Row),m=(i:Int)->o=(j:Int)->R[i]? =some r->r.void=false->R[j]? =some q->q.void=false->(r.link≠none->xM K Rf H E "has one")/\(r.link=none->(Bk.thr R j).head? =some i->xM K Rf H E "own thread")/\(r.link=none->(Bk.thr R j).head? ≠some i->(r.way=q.way->xM K Rf H E "same way")/\(r.way≠q.way->(r.partner≠q.partner->xM K Rf H E "other partner")/\(r.partner=q.partner->(r.date<q.date->xM K Rf H E "too early")/\(q.date<=r.date->bWE Rf.2 CB CL ba la sa ls cs H (Bk.xD (Bk.laid R (Bk.thr R i) q.place) i λr=>{r with link:=some j}) S (Q .non))))))
def bWa:yN [AA,AC,Bc,AL,CW] [AA,AC,Bc] (yH bVX):=scM
def bVy(cl:Cl K CB CL)(a:MG P w K mg base (CXR P w) n CB Ac [AA,AC] (aWf K Rf CB CL))(c:MG P w K mg base (CXR P w) n CB Bs [AA,AL,CW] (bQU K Rf CB CL))(d:MG P w K mg base (CXR P w) n CB Br [AA,AC,Bp] (bWp K Rf CB CL)) (F:Fun K "hang" "Book.hang" bVX f fd):xH P w K mg base (CXR P w) (n+1) f fd [AA,AC,Bc] (bJH K Rf CB CL):=by
 have sc:=bWa;refine F.okX (k:=n) sc (λa3 A outer s H vs Q E L h=>?_);obtain⟨e,x,u,M,y,R,S,m,o,rfl,I,hR,G,tb,q1,q2⟩:=h;refine⟨_,(yC (yU (i:=3) (v9 a L wB (pv 0) (yA (pv 1) yD))) (yC (yU (i:=4) (v9 a L wB (pv 0) (yA (pv 2) yD))) (yC (y0 (v9 c L wB (pv 0) (yA (pv 3) (yA (pv 4) yD)))) (yC (y0 (v9 d L wB (pv 0) (yA (pv 1) (yA (y7 (pv 4) rfl) yD)))) (yG (zT (pv 3) (pv 2) rfl)))))),?_⟩;obtain⟨dx,Z⟩:=I.book;refine⟨_,Cd,e,dx,_,Cd,Z,Cd,_,Cd,e,x,u,M,y,R,S,m,Cd,I,λi r b em z O D=>?_,λv=>q1 (.inl v)⟩;dsimp only[yW];refine⟨_,Cd,e,dx,_,Cd,Z,Cd,_,Cd,e,x,u,M,y,R,S,o,Cd,I,λj q N eo U hw C=>?_,λv=>q1 (.inr v)⟩;dsimp only[yW];obtain⟨q3,q4,q5⟩:=q2 i j r q em eo z O U hw;refine⟨_,Cd,e,dx,_,Cd,Z,Cd,_,Cd,_,Cd,e,x,u,M,y,R,S,i,j,b,N,r,q,Cd,I,hR,G.tree,tb,z,O,U,hw,D,C,q3,q4,λh1 h2=>?_⟩;obtain⟨q6,q7⟩:=q5 h1 h2;refine⟨q6,λh3=>?_⟩;obtain⟨q8,q9⟩:=q7 h3;refine⟨q8,λh4=>?_⟩;obtain⟨W,a0⟩:=q9 h4;refine⟨W,λh5 H1 k1 t1=>?_⟩;have g:=I.sameT k1;obtain⟨Y,a1⟩:=g.book;obtain⟨T,c2,f1,f2,f3,⟨V,f4⟩,f5⟩:=g.get U;obtain rfl:N=T:=cQI (C.symm.trans f2);refine⟨_,Cd,e,Y,_,Cd,a1,Cd,_,Cd,_,Cd,N,CL,V,_,_,Cd,f4,cl.l,cl.file,Cd,?_⟩;rw[aXX hw];refine⟨e,x,u,M,y,R,S,m,q.place,Cd,g,hR,G,t1,(λv=>by rw[em,qX z O]at v;cases v),λk r' a4 hk a2 H2 p k2 t2=>?_⟩;obtain rfl:i=k:=by omega
 rw[z]at hk;cases hk;obtain⟨r2,B,a5⟩:=aZ1 (l:=Bk.thr R i) (name:=q.place) z;obtain⟨b',c1,g1,X,g3,⟨J,g4⟩,g5⟩:=p.get B;obtain rfl:b=b':=cQI (D.symm.trans X);subst eo;refine⟨_,Cd,_,Cd,b,CL,J,_,Cd,g4,cl.l,cl.link,(show 9<1000 by decide),?_⟩;have kk:=vT.upd (H:=H2) (aVd (la:=x) (sa:=u) (cs:=y) (cQH X)) (.ins CL J (aZ3 i {r2 with link:=some j} c1));exact a0 h5 _ _ _ (p.set X g3 B (λr=>{r with link:=some j}) rfl) (((aXg.of k1).trans k2).trans kk.t) W7.refl (x0 t2 kk p.kinds)
end
end Desk
namespace Desk
open PySem L2 PyProof.Rows
open Bk (Row Rows zI Ans xR)
open Thr (wK v5 qU)
def xA:zI->List V
 |.enter e d b t=> [.str e,.int d,.str b,.int t]
 |.reply m d t=> [.str BP,.int m,.int d,.int t]
 |.hang m o=> [.str "hang",.int m,.int o]
 |.loose m=> [.str BN,.int m]
 |.date m d=> [.str Ak,.int m,.int d]
 |.term m t=> [.str AU,.int m,.int t]
 |.copy m b=> [.str "copy",.int m,.str b]
 |.file m a=> [.str Bi,.int m,.str a]
 |.void m=> [.str AW,.int m]
 |.shut d=> [.str Aj,.int d]
 |.state m=> [.str Bb,.int m]
 |.thread m=> [.str B9,.int m]
 |.copies m=> [.str BL,.int m]
 |.letters a=> [.str B2,.str a]
 |.on c d=> [.str (if c then AX else AZ),.int d]
def qE(o:List Nat)(H:Hp):Ans->V->Prop
 |.num n,v=>v= .int n
 |.txt x,v=>v= .str x
 |.nums l,v=>∃p,v= .ref p/\p∉o/\H p=some (.lst (l.map λi=>V.int (i:Nat)))
 |.txts l,v=>∃p,v= .ref p/\p∉o/\H p=some (.lst (l.map V.str))
 |.row r,v=>∃p,v= .ref p/\p∉o/\H p=some (.tup (stV r))
def uV(H:Hp)(v:V):Prop:=∀p,v= .ref p->∀u,(∀a,u≠HO.tbl a)->H p≠some u
def uV.none(h:H l=none):uV H (.ref l):=λp z u _ e=>by cases z;rw[h]at e;cases e
def uV.nl(h:∀b u,(∀c,u≠HO.tbl c)->H b=some u->b≠l):uV H (.ref l):=λp z u a e=>by cases z;exact h _ u a e rfl
structure Sz(R:Rows)(S:List Int):Prop where
 r:R.length<64
 s:S.length<64
 c:∀r∈R,r.copies.length<=1000
inductive aJs(K:cQq)(Rf:Nat×Nat)(CB CL:Nat)(p:zI->Prop)(vs:List V)(H:Hp)(Q:VK)(E:XK):Prop|mk(ba da la sa:Nat)(ls cs:List Nat)(R:Rows)(S:List Int)(e:zI)(_:vs= [.ref ba,.ref da])(_:p e)(_:H da=some (.tup (xA e)))(_:PB CB CL H ba la sa ls cs R S)(_:Sz R S)(_:Bk.jU R)(_:wK Rf.2 H)(_:(∀ (a:Ans)(R':Rows)(S':List Int)(v:V)(H':Hp)(ls' cs':List Nat),xR R S e a R' S'->PB CB CL H' ba la sa ls' cs' R' S'->aXg (own la sa ls cs) H H'->W7 H (own la sa ls cs) (own la sa ls' cs')->wK Rf.2 H'->qE (own la sa ls' cs') H' a v->uV H v->Q v H'))(_:(∀t,xR R S e (.txt t) R S->xM K Rf H E t))
section
variable {K:cQq}
abbrev W1:Stmt:=xI "do_enter"
def aVx:yN [AQ,AR] [AQ,AR] (yH W1):=scM
def aJ6(a:MG P w K mg base (CXR P w) n CB "enter" [AA,Ba,Aa,Ab,AU] (bQY K Rf CB CL))(F:Fun K "do_enter" "do_enter" W1 f fd):xH P w K mg base (CXR P w) (n+1) f fd [AQ,AR] (aJs K Rf CB CL λe=>∃ (c:Str)(d:Int)(b:Str)(t:Int),e= .enter c d b t):=by
 have N:=aVx;refine F.okX (k:=n) N (λD A outer s H U Q E I h=>?_);obtain⟨C,i,v,x,B,y,R,S,e,rfl,⟨c,d,b,t,rfl⟩,g,o,M,J,tb,q,T⟩:=h;refine⟨_,(yG (yQ (v9 a I wB (pv 0) (yA (yL yX (pv 1) yF) (yA (yL yX (pv 1) yF) (yA (yL yX (pv 1) yF) (yA (yL yX (pv 1) yF) yD))))))),?_⟩;obtain⟨L,O⟩:=o.book;have tk:∀ {j},vT (own v x B y) H j->wK Rf.2 j:=λk=>x0 tb k o.kinds;have g:H i=some (.tup _):=g;refine⟨_,Cd,C,L,_,Cd,O,Cd,_,Cd,i,_,0,_,Cd,Cd,Cc g,Cd,_,Cd,i,_,1,_,Cd,Cd,Cc g,Cd,_,Cd,i,_,2,_,Cd,Cd,Cc g,Cd,_,Cd,i,_,3,_,Cd,Cd,Cc g,Cd,?_⟩;refine⟨C,v,x,B,y,R,S,c,d,b,t,Cd,o,by have:=M.r;omega,λu j p m l k G=>?_,λu=>T _ (.enterT u)⟩;exact q (.num R.length) _ _ _ j p m (.enter u) l k.t G (tk k) rfl (λ_ z=>nomatch z)
abbrev W4:Stmt:=xI "do_reply"
def aVz:yN [AQ,AR] [AQ,AR] (yH W4):=scM
def aJ8(a:MG P w K mg base (CXR P w) n CB BP [AA,AC,Aa,AU] (bQ3 K Rf CB CL))(F:Fun K "do_reply" "do_reply" W4 f fd):xH P w K mg base (CXR P w) (n+1) f fd [AQ,AR] (aJs K Rf CB CL λe=>∃ (m:Int)(d:Int)(t:Int),e= .reply m d t):=by
 have U:=aVz;refine F.okX (k:=n) U (λJ A outer s H W Q E M h=>?_);obtain⟨D,c,v,x,C,y,R,S,e,rfl,⟨m,d,t,rfl⟩,b,o,T,N,tb,q,u⟩:=h;refine⟨_,(yG (yQ (v9 a M wB (pv 0) (yA (yL yX (pv 1) yF) (yA (yL yX (pv 1) yF) (yA (yL yX (pv 1) yF) yD)))))),?_⟩;obtain⟨O,V⟩:=o.book;have tk:∀ {g},vT (own v x C y) H g->wK Rf.2 g:=λk=>x0 tb k o.kinds;have b:H c=some (.tup _):=b;refine⟨_,Cd,D,O,_,Cd,V,Cd,_,Cd,c,_,1,_,Cd,Cd,Cc b,Cd,_,Cd,c,_,2,_,Cd,Cd,Cc b,Cd,_,Cd,c,_,3,_,Cd,Cd,Cc b,Cd,?_⟩;refine⟨D,v,x,C,y,R,S,m,d,t,Cd,o,by have:=T.r;omega,λh=>u _ (.replyN h),λh i=>u _ (.replyT h i),λk r I B G i=>?_⟩;subst I;exact⟨λb=>u _ (.replyE B G i b),λb g p l j k L=>q (.num R.length) _ _ _ g p l (.reply B G i b) j k.t L (tk k) rfl (λ_ z=>nomatch z)⟩
abbrev aQ3:Stmt:=xI "do_hang"
def aKx:yN [AQ,AR] [AQ,AR] (yH aQ3):=scM
def aKc(a:MG P w K mg base (CXR P w) n CB "hang" [AA,AC,Bc] (bJH K Rf CB CL))(F:Fun K "do_hang" "do_hang" aQ3 f fd):xH P w K mg base (CXR P w) (n+1) f fd [AQ,AR] (aJs K Rf CB CL λe=>∃ (m:Int)(o:Int),e= .hang m o):=by
 have sc:=aKx;refine F.okX (k:=n) sc (λV A outer s H vs Q E Y h=>?_);obtain⟨T,y,L,M,O,N,R,S,e,rfl,⟨m,o,rfl⟩,x,I,hz,D,tb,q,l⟩:=h;refine⟨_,(yC (y0 (v9 a Y wB (pv 0) (yA (yL yX (pv 1) yF) (yA (yL yX (pv 1) yF) yD)))) (yG (yQ yP))),?_⟩;obtain⟨Z,hb⟩:=I.book;have tk:∀ {v},vT (own L M O N) H v->wK Rf.2 v:=λk=>x0 tb k I.kinds;have x:H y=some (.tup _):=x;refine⟨_,Cd,T,Z,_,Cd,hb,Cd,_,Cd,y,_,1,_,Cd,Cd,Cc x,Cd,_,Cd,y,_,2,_,Cd,Cd,Cc x,Cd,?_⟩;refine⟨T,L,M,O,N,R,S,m,o,Cd,I,hz.r,D,tb,λh=>l _ (.hangN h),λi j r q' U X b g d hw=>?_⟩;subst U;subst X;refine⟨λh=>l _ (.hangH b g d hw h),λh c=>l _ (.hangO b g d hw h c),λh c=>⟨λp=>l _ (.hangW b g d hw h c p),λp=>⟨λu=>l _ (.hangP b g d hw h c p u),λu=>⟨λC=>l _ (.hangE b g d hw h c p u C),λC v J G B k W t=>?_⟩⟩⟩⟩;exact q (.txt "hung") _ _ _ v J G (.hang b g d hw h c p u C) B k W t rfl (λ_ z=>nomatch z)
abbrev W3:Stmt:=xI "do_loose"
def aVy:yN [AQ,AR] [AQ,AR] (yH W3):=scM
def aJ7(a:MG P w K mg base (CXR P w) n CB "loosen" [AA,AC] (aWo K Rf CB CL))(F:Fun K "do_loose" "do_loose" W3 f fd):xH P w K mg base (CXR P w) (n+1) f fd [AQ,AR] (aJs K Rf CB CL λe=>∃ (m:Int),e= .loose m):=by
 have N:=aVy;refine F.okX (k:=n) N (λG A outer s H U Q E J h=>?_);obtain⟨y,p,l,o,x,u,R,S,e,rfl,⟨m,rfl⟩,j,g,T,L,tb,q,C⟩:=h;refine⟨_,(yC (y0 (v9 a J wB (pv 0) (yA (yL yX (pv 1) yF) yD))) (yG (yQ yP))),?_⟩;obtain⟨M,O⟩:=g.book;have tk:∀ {b},vT (own l o x u) H b->wK Rf.2 b:=λk=>x0 tb k g.kinds;have j:H p=some (.tup _):=j;refine⟨_,Cd,y,M,_,Cd,O,Cd,_,Cd,p,_,1,_,Cd,Cd,Cc j,Cd,?_⟩;refine⟨y,l,o,x,u,R,S,m,Cd,g,λh=>C _ (.oneN h (.inl rfl)),λk r D v B=>?_⟩;subst D;exact⟨λh=>C _ (.looseN v B h),λh b i d c k I=>q (.txt BN) _ _ _ b i d (.loose v B h) c k.t I (tk k) rfl (λ_ z=>nomatch z)⟩
abbrev aQ1:Stmt:=xI "do_date"
def aKv:yN [AQ,AR] [AQ,AR] (yH aQ1):=scM
def aKa(a:MG P w K mg base (CXR P w) n CB "put_day" [AA,AC,Aa] (aWp K Rf CB CL))(F:Fun K "do_date" "do_date" aQ1 f fd):xH P w K mg base (CXR P w) (n+1) f fd [AQ,AR] (aJs K Rf CB CL λe=>∃ (m:Int)(d:Int),e= .date m d):=by
 have U:=aKv;refine F.okX (k:=n) U (λJ A outer s H X Q E N h=>?_);obtain⟨C,g,u,v,B,x,R,S,e,rfl,⟨m,d,rfl⟩,c,o,T,j,tb,q,G⟩:=h;refine⟨_,(yC (y0 (v9 a N wB (pv 0) (yA (yL yX (pv 1) yF) (yA (yL yX (pv 1) yF) yD)))) (yG (yQ yP))),?_⟩;obtain⟨O,V⟩:=o.book;have tk:∀ {b},vT (own u v B x) H b->wK Rf.2 b:=λk=>x0 tb k o.kinds;have c:H g=some (.tup _):=c;refine⟨_,Cd,C,O,_,Cd,V,Cd,_,Cd,g,_,1,_,Cd,Cd,Cc c,Cd,_,Cd,g,_,2,_,Cd,Cd,Cc c,Cd,?_⟩;refine⟨C,u,v,B,x,R,S,m,d,Cd,o,by have:=T.r;omega,j,λh=>G _ (.oneN h (.inr (.inl ⟨d,rfl⟩))),λk r I y D=>?_⟩;subst I;exact⟨λh=>G _ (.dateE y D h),λM W b p l i k L=>q (.txt "dated") _ _ _ b p l (.date y D M W) i k.t L (tk k) rfl (λ_ z=>nomatch z)⟩
abbrev aQ5:Stmt:=xI "do_term"
def aKz:yN [AQ,AR] [AQ,AR] (yH aQ5):=scM
def aKe(a:MG P w K mg base (CXR P w) n CB "put_term" [AA,AC,AU] (aJu K Rf CB CL))(F:Fun K "do_term" "do_term" aQ5 f fd):xH P w K mg base (CXR P w) (n+1) f fd [AQ,AR] (aJs K Rf CB CL λe=>∃ (m:Int)(t:Int),e= .term m t):=by
 have N:=aKz;refine F.okX (k:=n) N (λG A outer s H U Q E J h=>?_);obtain⟨y,d,o,p,x,u,R,S,e,rfl,⟨m,t,rfl⟩,c,j,T,L,tb,q,C⟩:=h;refine⟨_,(yC (y0 (v9 a J wB (pv 0) (yA (yL yX (pv 1) yF) (yA (yL yX (pv 1) yF) yD)))) (yG (yQ yP))),?_⟩;obtain⟨M,O⟩:=j.book;have tk:∀ {b},vT (own o p x u) H b->wK Rf.2 b:=λk=>x0 tb k j.kinds;have c:H d=some (.tup _):=c;refine⟨_,Cd,y,M,_,Cd,O,Cd,_,Cd,d,_,1,_,Cd,Cd,Cc c,Cd,_,Cd,d,_,2,_,Cd,Cd,Cc c,Cd,?_⟩;refine⟨y,o,p,x,u,R,S,m,t,Cd,j,λh=>C _ (.oneN h (.inr (.inr (.inl ⟨t,rfl⟩)))),λk r D v B=>?_⟩;subst D;exact⟨λh=>C _ (.termN v B h),λh b l i g k I=>q (.txt B6) _ _ _ b l i (.term v B h) g k.t I (tk k) rfl (λ_ z=>nomatch z)⟩
abbrev aQ0:Stmt:=xI "do_copy"
def aKu:yN [AQ,AR] [AQ,AR] (yH aQ0):=scM
def aW9(a:MG P w K mg base (CXR P w) n CB "send_copy" [AA,AC,Bd] (bJL K Rf CB CL))(F:Fun K "do_copy" "do_copy" aQ0 f fd):xH P w K mg base (CXR P w) (n+1) f fd [AQ,AR] (aJs K Rf CB CL λe=>∃ (m:Int)(b:Str),e= .copy m b):=by
 have V:=aKu;refine F.okX (k:=n) V (λJ A outer s H Y Q E N h=>?_);obtain⟨C,i,u,v,B,x,R,S,e,rfl,⟨m,b,rfl⟩,g,o,U,O,tb,q,G⟩:=h;refine⟨_,(yG (yQ (v9 a N wB (pv 0) (yA (yL yX (pv 1) yF) (yA (yL yX (pv 1) yF) yD))))),?_⟩;obtain⟨T,W⟩:=o.book;have tk:∀ {d},vT (own u v B x) H d->wK Rf.2 d:=λk=>x0 tb k o.kinds;have g:H i=some (.tup _):=g;refine⟨_,Cd,C,T,_,Cd,W,Cd,_,Cd,i,_,1,_,Cd,Cd,Cc g,Cd,_,Cd,i,_,2,_,Cd,Cd,Cc g,Cd,?_⟩;refine⟨C,u,v,B,x,R,S,m,b,Cd,o,U.c,λh=>G _ (.oneN h (.inr (.inr (.inr (.inl ⟨b,rfl⟩))))),λk r I y D=>?_⟩;subst I;exact⟨λh=>G _ (.copyC y D h),λM X d p l j k L=>q (.num (r.copies.length+1)) _ _ _ d p l (.copy y D M X) j k.t L (tk k) rfl (λ_ z=>nomatch z)⟩
abbrev aQ2:Stmt:=xI "do_file"
def aKw:yN [AQ,AR] [AQ,AR] (yH aQ2):=scM
def aKb(a:MG P w K mg base (CXR P w) n CB Br [AA,AC,Bp] (bWp K Rf CB CL))(F:Fun K "do_file" "do_file" aQ2 f fd):xH P w K mg base (CXR P w) (n+1) f fd [AQ,AR] (aJs K Rf CB CL λe=>∃ (m:Int)(name:Str),e= .file m name):=by
 have J:=aKw;refine F.okX (k:=n) J (λy A outer s H O Q E C h=>?_);obtain⟨u,d,p,t,l,i,R,S,e,rfl,⟨m,name,rfl⟩,c,o,I,j,tb,q,N⟩:=h;refine⟨_,(yG (yQ (v9 a C wB (pv 0) (yA (yL yX (pv 1) yF) (yA (yL yX (pv 1) yF) yD))))),?_⟩;obtain⟨G,L⟩:=o.book;have tk:∀ {b},vT (own p t l i) H b->wK Rf.2 b:=λk=>x0 tb k o.kinds;have c:H d=some (.tup _):=c;refine⟨_,Cd,u,G,_,Cd,L,Cd,_,Cd,d,_,1,_,Cd,Cd,Cc c,Cd,_,Cd,d,_,2,_,Cd,Cd,Cc c,Cd,?_⟩;refine⟨u,p,t,l,i,R,S,m,name,Cd,o,I.r,j,tb,λh=>N _ (.oneN h (.inr (.inr (.inr (.inr (.inl ⟨name,rfl⟩)))))),λk r v D M b g x B=>?_⟩;subst v;exact q (.num (Bk.thr R k).length) _ _ _ b l i (.file D M) g x W7.refl B rfl (λ_ z=>nomatch z)
abbrev aQ6:Stmt:=xI "do_void"
def aKA:yN [AQ,AR] [AQ,AR] (yH aQ6):=scM
def aKf(a:MG P w K mg base (CXR P w) n CB "cancel" [AA,AC] (aWh K Rf CB CL))(F:Fun K "do_void" "do_void" aQ6 f fd):xH P w K mg base (CXR P w) (n+1) f fd [AQ,AR] (aJs K Rf CB CL λe=>∃ (m:Int),e= .void m):=by
 have O:=aKA;refine F.okX (k:=n) O (λG A outer s H U Q E J h=>?_);obtain⟨y,p,l,o,x,u,R,S,e,rfl,⟨m,rfl⟩,j,g,N,L,tb,q,C⟩:=h;refine⟨_,(yC (y0 (v9 a J wB (pv 0) (yA (yL yX (pv 1) yF) yD))) (yG (yQ yP))),?_⟩;obtain⟨M,T⟩:=g.book;have tk:∀ {b},vT (own l o x u) H b->wK Rf.2 b:=λk=>x0 tb k g.kinds;have j:H p=some (.tup _):=j;refine⟨_,Cd,y,M,_,Cd,T,Cd,_,Cd,p,_,1,_,Cd,Cd,Cc j,Cd,?_⟩;refine⟨y,l,o,x,u,R,S,m,Cd,g,by have:=N.r;omega,λh=>C _ (.oneN h (.inr (.inr (.inr (.inr (.inr (.inl rfl))))))),λk r D v B=>?_⟩;subst D;exact⟨λh=>C _ (.voidA v B h),λh b i d c k I=>q (.txt AW) _ _ _ b i d (.void v B h) c k.t I (tk k) rfl (λ_ z=>nomatch z)⟩
abbrev aQ4:Stmt:=xI "do_shut"
def aKy:yN [AQ,AR] [AQ,AR] (yH aQ4):=scM
def aKd(a:MG P w K mg base (CXR P w) n CB "shut_day" [AA,Aa] (bJM K Rf CB CL))(F:Fun K "do_shut" "do_shut" aQ4 f fd):xH P w K mg base (CXR P w) (n+1) f fd [AQ,AR] (aJs K Rf CB CL λe=>∃ (d:Int),e= .shut d):=by
 have I:=aKy;refine F.okX (k:=n) I (λx A outer s H M Q E B h=>?_);obtain⟨v,p,m,o,u,r,R,S,e,rfl,⟨d,rfl⟩,l,i,G,C,tb,q,L⟩:=h;refine⟨_,(yC (y0 (v9 a B wB (pv 0) (yA (yL yX (pv 1) yF) yD))) (yG (yQ yP))),?_⟩;obtain⟨D,J⟩:=i.book;have tk:∀ {b},vT (own m o u r) H b->wK Rf.2 b:=λk=>x0 tb k i.kinds;have l:H p=some (.tup _):=l;refine⟨_,Cd,v,D,_,Cd,J,Cd,_,Cd,p,_,1,_,Cd,Cd,Cc l,Cd,?_⟩;refine⟨v,m,o,u,r,R,S,d,Cd,i,by have:=G.s;omega,λh=>L _ (.shutN h),λh b j g c k y=>?_⟩;exact q (.txt Aj) _ _ _ b j g (.shut h) c k.t y (tk k) rfl (λ_ z=>nomatch z)
abbrev qO:Stmt:=xI "ask_state"
def aJm:yN [AQ,AR] [AQ,AR] (yH qO):=scM
def aZ9(a:MG P w K mg base (CXR P w) n CB "state_of" [AA,AC] (aJw K Rf CB CL))(F:Fun K "ask_state" "ask_state" qO f fd):xH P w K mg base (CXR P w) (n+1) f fd [AQ,AR] (aJs K Rf CB CL λe=>∃ (m:Int),e= .state m):=by
 have D:=aJm;refine F.okX (k:=n) D (λx A outer s H M Q E y h=>?_);obtain⟨u,p,j,o,g,d,R,S,e,rfl,⟨m,rfl⟩,i,b,L,B,tb,q,J⟩:=h;refine⟨_,(yG (yQ (v9 a y wB (pv 0) (yA (yL yX (pv 1) yF) yD)))),?_⟩;obtain⟨C,G⟩:=b.book;have tk:∀ {H'},vT (own j o g d) H H'->wK Rf.2 H':=λk=>x0 tb k b.kinds;have i:H p=some (.tup _):=i;refine⟨_,Cd,u,C,_,Cd,G,Cd,_,Cd,p,_,1,_,Cd,Cd,Cc i,Cd,?_⟩;refine⟨u,j,o,g,d,R,S,m,Cd,b,λk r l v z I hl=>?_,λh=>J _ (.oneN h (.inr (.inr (.inr (.inr (.inr (.inr (.inl rfl))))))))⟩;subst v;have c:=yE hl (.tup (stV r));exact q (.row r) _ _ _ _ g d (.state z I) (b.same c) (aXg.of c.t) W7.refl (tk (vT.of c)) ⟨l,Cd,b.notnone hl,yB⟩ (uV.none hl)
abbrev jC:Stmt:=xI CS
def aZp:yN [AQ,AR] [AQ,AR] (yH jC):=scM
def aX6(a:MG P w K mg base (CXR P w) n CB Bf [AA,AC] (jS K Rf CB CL))(F:Fun K CS CS jC f fd):xH P w K mg base (CXR P w) (n+1) f fd [AQ,AR] (aJs K Rf CB CL λe=>∃ (m:Int),e= .thread m):=by
 have I:=aZp;refine F.okX (k:=n) I (λy A outer s H N Q E B h=>?_);obtain⟨v,u,o,t,i,d,R,S,e,rfl,⟨m,rfl⟩,j,b,G,g,tb,q,M⟩:=h;refine⟨_,(yG (yQ (v9 a B wB (pv 0) (yA (yL yX (pv 1) yF) yD)))),?_⟩;obtain⟨D,J⟩:=b.book;have tk:∀ {c},vT (own o t i d) H c->wK Rf.2 c:=λk=>x0 tb k b.kinds;have j:H u=some (.tup _):=j;refine⟨_,Cd,v,D,_,Cd,J,Cd,_,Cd,u,_,1,_,Cd,Cd,Cc j,Cd,?_⟩;refine⟨v,o,t,i,d,R,S,m,Cd,b,G.r,g.tree,tb,λh=>M _ (.oneN h (.inr (.inr (.inr (.inr (.inr (.inr (.inr (.inl rfl))))))))),λk r x C L c l nl p z hl=>?_⟩;subst x;exact q (.nums (Bk.thr R k)) _ _ _ c i d (.thread C L) (b.sameT p) (aXg.of p) W7.refl z ⟨l,Cd,b.notown nl,hl⟩ (uV.nl nl)
abbrev jB:Stmt:=xI CT
def aZo:yN [AQ,AR] [AQ,AR] (yH jB):=scM
def aX5(a:MG P w K mg base (CXR P w) n CB "copies_of" [AA,AC] (aWj K Rf CB CL))(F:Fun K CT CT jB f fd):xH P w K mg base (CXR P w) (n+1) f fd [AQ,AR] (aJs K Rf CB CL λe=>∃ (m:Int),e= .copies m):=by
 have D:=aZo;refine F.okX (k:=n) D (λx A outer s H M Q E y h=>?_);obtain⟨u,p,j,o,g,d,R,S,e,rfl,⟨m,rfl⟩,i,b,L,B,tb,q,J⟩:=h;refine⟨_,(yG (yQ (v9 a y wB (pv 0) (yA (yL yX (pv 1) yF) yD)))),?_⟩;obtain⟨C,G⟩:=b.book;have tk:∀ {H'},vT (own j o g d) H H'->wK Rf.2 H':=λk=>x0 tb k b.kinds;have i:H p=some (.tup _):=i;refine⟨_,Cd,u,C,_,Cd,G,Cd,_,Cd,p,_,1,_,Cd,Cd,Cc i,Cd,?_⟩;refine⟨u,j,o,g,d,R,S,m,Cd,b,λk r l v z I hl=>?_,λh=>J _ (.oneN h (.inr (.inr (.inr (.inr (.inr (.inr (.inr (.inr rfl)))))))))⟩;subst v;have c:=yE hl (.lst (r.copies.map V.str));exact q (.txts r.copies) _ _ _ _ g d (.copies z I) (b.same c) (aXg.of c.t) W7.refl (tk (vT.of c)) ⟨l,Cd,b.notnone hl,yB⟩ (uV.none hl)
abbrev uI:Stmt:=xI CI
def aXu:yN [AQ,AR] [AQ,AR] (yH uI):=scM
def aXn(a:MG P w K mg base CX0 n CB CQ [AA,Bp] (aXa CB CL))(F:Fun K CI CI uI f fd):xH P w K mg base (CXR P w) (n+1) f fd [AQ,AR] (aJs K Rf CB CL λe=>∃ (name:Str),e= .letters name):=by
 have C:=aXu;refine F.okX (k:=n) C (λv A outer s H G Q E x h=>?_);obtain⟨u,p,m,o,g,d,R,S,e,rfl,⟨name,rfl⟩,j,b,B,y,tb,q,I⟩:=h;refine⟨_,(yG (yQ (v9 a x v7 (pv 0) (yA (yL yX (pv 1) yF) yD)))),?_⟩;obtain⟨z,D⟩:=b.book;have tk:∀ {H'},vT (own m o g d) H H'->wK Rf.2 H':=λk=>x0 tb k b.kinds;have j:H p=some (.tup _):=j;refine⟨_,Cd,u,z,_,Cd,D,Cd,_,Cd,p,_,1,_,Cd,Cd,Cc j,Cd,?_⟩;refine⟨u,m,o,g,d,R,S,name,Cd,b,B.r,λl hl=>?_⟩;have c:=yE hl (.lst ((J2 R name).map λi=>V.int (i:Nat)));exact q (.nums (J2 R name)) _ _ _ _ g d .letters (b.same c) (aXg.of c.t) W7.refl (tk (vT.of c)) ⟨l,Cd,b.notnone hl,yB⟩ (uV.none hl)
abbrev uK:Stmt:=xI CJ
def aXw:yN [AQ,AR] [AQ,AR] (yH uK):=scM
def aXp(a:MG P w K mg base CX0 n CB AZ [AA,Aa] (bK7 CB CL false))(F:Fun K CJ CJ uK f fd):xH P w K mg base (CXR P w) (n+1) f fd [AQ,AR] (aJs K Rf CB CL λe=>∃ (d:Int),e= .on false d):=by
 have J:=aXw;refine F.okX (k:=n) J (λB A outer s H M Q E D h=>?_);obtain⟨z,x,u,v,m,j,R,S,e,rfl,⟨d,rfl⟩,o,b,y,G,tb,q,N⟩:=h;refine⟨_,(yG (yQ (v9 a D v7 (pv 0) (yA (yL yX (pv 1) yF) yD)))),?_⟩;obtain⟨I,L⟩:=b.book;have tk:∀ {c},vT (own u v m j) H c->wK Rf.2 c:=λk=>x0 tb k b.kinds;have o:H x=some (.tup _):=o;refine⟨_,Cd,z,I,_,Cd,L,Cd,_,Cd,x,_,1,_,Cd,Cd,Cc o,Cd,?_⟩;refine⟨z,u,v,m,j,R,S,d,Cd,b,y.r,y.s,λl c C g hl p i=>?_⟩;exact q (.nums C) _ _ _ c m j (.on i) (b.same g) (aXg.of g.t) W7.refl (tk (vT.of g)) ⟨l,Cd,b.notnone hl,p⟩ (uV.none hl)
abbrev uJ:Stmt:=xI CK
def aXv:yN [AQ,AR] [AQ,AR] (yH uJ):=scM
def aXo(a:MG P w K mg base CX0 n CB AX [AA,Aa] (bK7 CB CL true))(F:Fun K CK CK uJ f fd):xH P w K mg base (CXR P w) (n+1) f fd [AQ,AR] (aJs K Rf CB CL λe=>∃ (d:Int),e= .on true d):=by
 have J:=aXv;refine F.okX (k:=n) J (λB A outer s H M Q E D h=>?_);obtain⟨z,x,u,v,m,j,R,S,e,rfl,⟨d,rfl⟩,o,b,y,G,tb,q,N⟩:=h;refine⟨_,(yG (yQ (v9 a D v7 (pv 0) (yA (yL yX (pv 1) yF) yD)))),?_⟩;obtain⟨I,L⟩:=b.book;have tk:∀ {c},vT (own u v m j) H c->wK Rf.2 c:=λk=>x0 tb k b.kinds;have o:H x=some (.tup _):=o;refine⟨_,Cd,z,I,_,Cd,L,Cd,_,Cd,x,_,1,_,Cd,Cd,Cc o,Cd,?_⟩;refine⟨z,u,v,m,j,R,S,d,Cd,b,y.r,y.s,λl c C g hl p i=>?_⟩;exact q (.nums C) _ _ _ c m j (.on i) (b.same g) (aXg.of g.t) W7.refl (tk (vT.of g)) ⟨l,Cd,b.notnone hl,p⟩ (uV.none hl)
end
end Desk
namespace Desk
open PySem L2 PyProof.Rows
open Bk (Row Rows zI Ans xR)
open Thr (wK v5 qU)
structure bYh(P:cQO)(w:cQ1)(K:cQq)(D:Nat)(kvs:List (Key×cQp)):Prop where
 at_:∃o es ep,K.lookup D=some o/\o.ExactDict/\o.data= .dict es ep/\KeysOf (zG P w) es/\Pairs (zG P w) es.toList kvs/\(kvs.map (·.1)).Nodup
inductive bYJ(kvs:List (Key×cQp))(Q:VK)(y:V)(H1:Hp):Prop|mk(x:Str)(f:Nat)(_:y= .str x)(_:cJO kvs (Sum.inr x)=some (.ref f))(_:Q (.ref f) H1)
def cQm(a:List (Key×cQp))(c:TE):TE:=λσ H Q=>c σ H λy b=>bYJ a Q y b
def bKm(n:Gl X x)(m:X.mg x=some (.ref D))(T:bYh X.prog X.w X.K D a)(j:PE X i e)(t:bYN i)(c:(x==(AO:Str))=false:=by decide):
  PE X (.Subscript (.Name x p) i pos) (cQm a e):=by
 intro b s σ H Q I h
 refine bWq PySem.F.slot_dict_getitem.lookup t (u4 I n m (thn (j b s σ H _ I h) λiv s2 ⟨y,H2,I2,ry,x',f,ex,hv,q2⟩=>?_) c)
 subst ex
 obtain⟨o,g,q,r,A,l,u,z,v⟩:=T.at_
 have d:s2.heap.DictOf (zG X.prog X.w) D a:=⟨o,g,q,I2.kIn _ _ r,A,l,u,z,v⟩
 exact⟨d.typeIs,wpAny_getItem_of (bXF (k:=Sum.inr x') ry) d.mapOf hv ⟨.ref f,H2,I2.tok _,Cd,q2⟩⟩
inductive bJO(P:cQO)(w:cQ1)(K:cQq)(mg:Str->Option cQp)(base:Heap)(k i:Nat)(E:XK)(t:TA)(σ:L2.St)(H:Hp)(Q:VK):Prop|mk(f)(_:σ[i]? =some (some (.ref f)))(_:cXm K (.ref f)=true)(_:t σ H λvs H1=>∃fd ps sp,xH P w K mg base (CXR P w) k f fd ps sp/\uB K fd ps []/\sp vs H1 Q E)
def bZm{k i:Nat}{t:TA}{E:XK}(C:v0 k X.A)(J:X.N[i]? =some x)(L:Vis X.env.scope x)(m:vU (CXR X.prog X.w) X E)(D:PA X (e::c) t)
  (j:(x==(AO:Str))=false:=by decide) (d:(x==(BA:Str))=false:=by decide) (n:cQ5 (e::c) X.env=(false,eval e X.env)::cQ5 c X.env:=by rfl) (g:(cX6 pos (cQ5 c X.env)).any (·.1)=false:=by rfl):
  PE X (.Call (.Name x p) (e::c) [] pos) (bJO X.prog X.w X.K X.mg X.base k i E t):=by
 intro a s σ H Q I h
 obtain⟨f,z,o,q⟩:=h
 refine cX7 (thn (bJD (pos:=p) J L j d a s σ H (λv l=>v= .ref f/\l=H) I ⟨_,z,Cd,rfl⟩) ?_)
 rintro u G ⟨v,l,y,B,rfl,rfl⟩
 obtain rfl:u=Value.ref f:=B
 refine cJj (h₀:=X.base) I.ok.mod.kin o (thn (D pos a G σ l _ y q) λus s2 ⟨vs,H2,I2,r,fd,ps,sp,F,b,q2⟩=>⟨I2.kIn,?_⟩) n g
 exact aJj F C b .nil m I2 r (by rw[cXr];exact q2)
def aWT:zI->Str
 |.enter b _ _ _=>b
 |.reply _ _ _=>BP
 |.hang _ _=>"hang"
 |.loose _=>BN
 |.date _ _=>Ak
 |.term _ _=>AU
 |.copy _ _=>"copy"
 |.file _ _=>Bi
 |.void _=>AW
 |.shut _=>Aj
 |.state _=>Bb
 |.thread _=>B9
 |.copies _=>BL
 |.letters _=>B2
 |.on a _=>if a then AX else AZ
def Wf:zI->Prop
 |.enter a _ _ _=>a="in"\/a=BM
 |_=>True
def bXs(e:zI):atI (xA e) 0=some (.str (aWT e)):=by cases e<;> rfl
def bWF(P:cQO)(w:cQ1)(K:cQq)(mg:Str->Option cQp)(base:Heap)(n:Nat)(Rf:Nat×Nat)(c CL:Nat)(a:List (Key×cQp)):Prop:=∀e:zI,Wf e->∃ (f:Nat)(b:cZn)(p:zI->Prop),cJO a (Sum.inr (aWT e))=some (.ref f)/\
 xH P w K mg base (CXR P w) n f b [AQ,AR] (aJs K Rf c CL p)/\p e/\uB K b [AQ,AR] []/\cXm K (.ref f)=true
inductive aZu(Rf:Nat×Nat)(CB CL:Nat)(vs:List V)(H:Hp)(Q:VK)(_:XK):Prop|mk(ba da la sa:Nat)(ls cs:List Nat)(R:Rows)(S:List Int)(e:zI)(_:vs= [.ref ba,.ref da])(_:Wf e)(_:H da=some (.tup (xA e)))(_:PB CB CL H ba la sa ls cs R S)(_:Sz R S)(_:Bk.jU R)(_:wK Rf.2 H)(_:∀ (a:Ans)(R':Rows)(S':List Int)(v:V)(H':Hp)(ls' cs':List Nat),xR R S e a R' S'->PB CB CL H' ba la sa ls' cs' R' S'->aXg (own la sa ls cs) H H'->W7 H (own la sa ls cs) (own la sa ls' cs')->wK Rf.2 H'->qE (own la sa ls' cs') H' a v->uV H v->Q v H')
section
variable {K:cQq}
abbrev aVj:Stmt:=xI "answer"
def bQB:yN [AQ,AR,"do","refusal"] [AQ,AR] (yH aVj):=scM
def aYO(T:mg "DEEDS"=some (.ref D))(O:bYh P w K D kvs)(hR:mg Al=some (.ref Rf.1))(X:uC K Rf.1)(all:bWF P w K mg base n Rf CB CL kvs)(F:Fun K "answer" "answer" aVj f fd): xH P w K mg base CX0 (n+1) f fd [AQ,AR] (aZu Rf CB CL):=by
 have r:=bQB;refine F.ok (k:=n) r (λG A outer s H vs Q E U h=>?_);obtain⟨Z,m,B,I,u,o,R,S,e,rfl,g,x,v,W,d,tb,q⟩:=h;refine⟨_,(yC (yU (i:=2) (bKm rfl T O (yL yX (pv 1) yF) (λ_ _=>rfl))) (yG (bKp (i:=3) r.nd rfl rfl rfl hR X rfl rfl rfl (by decide) (by decide) (by decide) (λ_=>rfl) (tb:=λE=>bYU (bJO P w K mg base n 2 E (aKL (bWu 0) (aKL (bWu 1) bZ7)))) (λpn xe E Y=>yG (yQ (bZm U rfl (Or.inl rfl) Y (yA (pv 0) (yA (pv 1) yD)))))))),?_⟩;obtain⟨p,l,pe,hv,J,j,b,a⟩:=all e g;refine⟨_,Cd,m,_,0,_,Cd,Cd,Cc x,bXs e,aWT e,p,Cd,hv,?_⟩;dsimp only[yW];refine⟨p,Cd,a,_,Cd,_,Cd,l,_,_,J,b,Z,m,B,I,u,o,R,S,e,Cd,j,x,v,W,d,tb,q,λt c=>?_⟩;intro C V N y M k L;exact⟨C,V,t,Cd,Cd,y,M,L,q (.txt t) R S _ N u o c (v.sameT k.1) (aXg.of k.1) W7.refl (k.2 tb) rfl (λ_ z=>nomatch z)⟩
inductive Run:Rows->List Int->List zI->List Ans->Rows->List Int->Prop
 |nil {R:Rows} {S:List Int}:Run R S [] [] R S
 |snoc {R R' R'':Rows} {S S' S'':List Int} {es:List zI} {as:List Ans} {e:zI} {a:Ans} (h:Run R S es as R' S') (d:xR R' S' e a R'' S''):Run R S (es++ [e]) (as++ [a]) R'' S''
def Run.len{R e:Rows}(h:Run R S a b e f):a.length=b.length:=by
 induction h with
 |nil=>rfl
 |snoc h d c=>simp[c]
structure Up(t:Nat)(R:Rows)(S:List Int):Prop where
 r:R.length<=t
 s:S.length<=t
 c:∀r∈R,r.copies.length<=t
def Up.set{t:Nat}{R:Rows}(u:Up t R S)(k:Nat)(f:Row->Row)(a:∀r,(f r).copies.length<=r.copies.length+1):Up (t+1) (Bk.xD R k f) S:=
 ⟨by rw[Bk.xX];exact cXY u.r,cXY u.s,λr b=>by
  rcases Bk.Y0 b with h|⟨q,h,rfl⟩
  ·exact cXY (u.c r h)
  ·exact cQZ (a q) (Nat.succ_le_succ (u.c q h))⟩
def aQB:∀ (l:List Nat)(R:Rows)(t:Nat),(∀r∈R,r.copies.length<=t)->∀r∈Bk.laid R l name,r.copies.length<=t
 |[],R,t,h,r,hr=>h r hr
 |k::l,R,t,h,r,hr=>aQB l (Bk.xD R k λr=>{r with place:=name}) t (λq a=>by
   rcases Bk.Y0 a with z|⟨b,z,rfl⟩
   ·exact h q z
   ·exact h b z) r hr
def Up.laid{t:Nat}{R:Rows}(u:Up t R S)(l:List Nat)(name:Str):Up t (Bk.laid R l name) S:=⟨by rw[Bk.wQ];exact u.r,u.s,aQB l R t u.c⟩
def Up.le{t:Nat}{R:Rows}(u:Up t R S):Up (t+1) R S:=⟨cXY u.r,cXY u.s,λr h=>cXY (u.c r h)⟩
def Up.snoc{t:Nat}{R:Rows}(u:Up t R S)(r:Row)(h:r.copies= []):Up (t+1) (R++ [r]) S:=⟨by simpa using u.r,cXY u.s,λq a=>by
 rcases cQY.mp a with z|z
 ·exact cXY (u.c q z)
 ·rw[cQD.mp z,h];exact cXo _⟩
def Up.done{t:Nat}{R b:Rows}(u:Up t R S)(h:xR R S e a b d):Up (t+1) b d:=by
 cases h with
 |enter _=>exact u.snoc _ rfl
 |reply _ _ _ _=>exact u.snoc _ rfl
 |hang _ _ _ _ _ _ _ _ _=>exact(u.laid _ _).set _ _ λ_=>cZv _
 |loose _ _ _=>exact u.set _ _ λ_=>cZv _
 |date _ _ _ _=>exact u.set _ _ λ_=>cZv _
 |term _ _ _=>exact u.set _ _ λ_=>cZv _
 |copy _ _ _ _=>exact u.set _ _ λr=>by simp
 |file _ _=>exact(u.laid _ _).le
 |void _ _ _=>exact u.set _ _ λ_=>cZv _
 |shut _=>exact⟨cXY u.r,by simpa using u.s,λr h=>cXY (u.c r h)⟩
 |_=>exact u.le
def Up.sz{t:Nat}{R:Rows}(u:Up t R S)(h:t<64):Sz R S:=⟨by have:=u.r;omega,by have:=u.s;omega,λr a=>by have:=u.c r a;omega⟩
end
end Desk
namespace Law
open PySem L2 PyProof.Rows
open Bk (Row Rows xR zI Ans)
open Desk (xA qE uV Wf)
abbrev aZe:Stmt:=xI BQ
def aXh(e:Nat)(c a:List Nat)(H d:Hp):Prop:=(∀x o,x∉e::c->H x=some o->d x=some o)/\(∀b∈a,b∈c\/H b=none)/\∀s u,H s=some u->NoC c H s->NoC a d s
def But.step(k:But a H c):aXh d a a H c:=⟨λx o n e=>k.1 x o (λz=>n (cQB _ z)) e,λb h=> .inl h,k.2.2⟩
def aXh.pre(i:∀b∈c,∃o,H b=some o)(k:xG H g)(s:aXh f c a g d):aXh f c a H d:=
 ⟨λx o n e=>s.1 x o n (k _ _ e),λb h=>(s.2.1 b h).imp id λz=>k.fresh z,λx u e n=>s.2.2 x u (k _ _ e) ((But.of i k).2.2 x u e n)⟩
inductive aQ9(vs:List V)(H:Hp)(Q:VK)(_:XK):Prop|mk(ra da:Nat)(rs:List Nat)(R:Rows)(e:zI)(_:vs= [.ref ra,.ref da])(_:H da=some (.tup (xA e)))(_:Wf e)(_:((∃way d who t,e= .enter way d who t)\/∃m d t,e= .reply m d t))(_:xC H ra rs R)(_:R.length<=60)(_:∀ (H':Hp)(a:Ans)(v:V)(R':Rows)(rs':List Nat),aXh ra rs rs' H H'->xC H' ra rs' R'->(∀S,xR R S e a R' S)->qE [] H' a v->uV H v->Q v H')
def aWD{k:Nat}{R:Rows}(h:xC H k p R)(Q:r.copies= [])(v:H d=none)(F:upd H d (.lst []) b=none): xC (upd (upd (upd H d (.lst [])) b (.lst (uR r d))) k (.lst ((p++ [b]).map V.ref))) k (p++ [b]) (R++ [r])/\aXh k p (p++ [b]) H (upd (upd (upd H d (.lst [])) b (.lst (uR r d))) k (.lst ((p++ [b]).map V.ref))):=by
 have M:=yE v (.lst []);have O:=yE F (.lst (uR r d));have G:=M.trans O;have m:H b=none:=M.fresh F;have B:b≠k:=λz=>by rw[z,h.lst]at m;cases m
 have K:d≠k:=λz=>by rw[z,h.lst]at v;cases v
 have L:d≠b:=λz=>by rw[<- z,yB]at F;cases F
 have nb:b∉p:=λz=>by obtain⟨o,e⟩:=h.dom b z;rw[m]at e;cases e
 have rne:∀ {a r' j},H a=some (.lst (uR r' j))->a≠k:=λq z=>by rw[z,h.lst]at q;exact aQQ (cQI q).symm
 refine⟨⟨yB,by simp[h.len],?_,λi c q f g=>?_⟩,λx o n e=>?_,λc t=>?_,λs u e n c t l D=>?_⟩
 ·exact cZU.mpr ⟨h.nd,cXP _ _,λa S c v z=>nb (by rw[<- cQD.mp v,<- z];exact S)⟩
 ·by_cases w:i<R.length
  ·rw[cQ0 (by rw[h.len];exact w)]at f;rw[cQ0 w]at g;obtain⟨j,E,A⟩:=h.row i c q f g;have I:j≠k:=λz=>by
    rw[z,h.lst]at A;have hl:=congrArg cZs (HO.lst.inj (cQI A));have:=cQH f;cases p with
    |nil=>cases this
    |cons x U=>
     cases C:q.copies with
     |nil=>rw[C]at hl;simp at hl
     |cons y W=>rw[C]at A;have:=HO.lst.inj (cQI A);simp at this
   exact⟨j,by rw[yJ (rne E)];exact G _ _ E,by rw[yJ I];exact G _ _ A⟩
  ·have J:i=R.length:=by
    have:=(cQA.mp g).1;simp at this;omega
   subst J;rw[cQK (by rw[h.len];exact cQv _),h.len,cXH]at f;rw[cQK (cQv _),cXH]at g;cases f;cases g;exact⟨d,by rw[yJ B,yB];rfl,by rw[yJ K,yJ L,yB,Q];rfl⟩
 ·have T:x≠k:=λz=>n (by rw[z];exact cQG);rw[yJ T];exact G _ _ e
 ·rcases cQY.mp t with z|z
  ·exact .inl z
  ·exact .inr (by rw[cQD.mp z];exact m)
 ·rcases cQY.mp t with z|z
  ·have z2:c≠k:=λy=>by
    obtain⟨i,w,P⟩:=cXe z;obtain⟨j,E,_⟩:=h.row i c _ (by rw[cQn w,P]) (cQn (show i<R.length by rw[<- h.len];exact w));exact rne E y
   obtain⟨o,N⟩:=h.dom c z;rw[yJ z2,G _ _ N]at D;exact n c z l (by rw[N];exact D)
  ·rw[cQD.mp z,yJ B,yB]at D;cases D;intro y;have:d=s:=by injection y with y;injection y
   rw[<- this,v]at e;cases e
section
variable {K:cQq}
def uO:cQ7 As=some (.type As):=dk
def aKB:yN [A0,AG,"_law_way",AK,"_law_partner","_law_link",Bt,Ar] [A0,AG] (yH aZe):=scM
def aKg(T:vQ mg)(a6:mg As=none)(D:FnG P w K mg base 2 Ai [A0,A1] Q7)(F:Fun K BQ BQ aZe f fd):xH P w K mg base CX0 3 f fd [A0,AG] aQ9:=by
 have sc:=aKB;refine F.ok (k:=2) sc (λb6 A outer s H vs Q E hr h=>?_);obtain⟨L,o,X,R,e,rfl,B,b4,p,J,hR,q⟩:=h;refine⟨_,(yC (vK (y8 (yA (yL yX (pv 1) yF) (yA (yL yX (pv 1) yF) (yA (yL yX (pv 1) yF) (yA x3 (yA yP yD)))))) (aJe rfl (zH (xF (i:=2)) (zH (xF (i:=3)) (zH (xF (i:=4)) (zH (xF (i:=5)) (zH (xF (i:=6)) aQN))))))) (yC (y6 (yM zK (pv 2) yP) (yC (y6 (vL (x8 (xN D hr rfl (yA (pv 0) (yA (yL yX (pv 1) yF) yD))))) (yG (yQ yP)) yT) (yC (yU (i:=7) (yL yK (pv 0) (yL yX (pv 1) yF))) (yC (yU (i:=2) (yL yK (yZ (yA yP (yA yP yD))) (xW wT rfl a6 uO (yA (zO zK (yL yK (pv 7) yF) yP) yD)))) (yG (vK (y8 (yA (yL yX (pv 1) yF) (yA (yL yK (pv 7) yF) (yA (yL yX (pv 1) yF) (yA (yL yK (pv 7) yF) yD))))) (aJe rfl (zH (xF (i:=3)) (zH (xF (i:=4)) (zH (xF (i:=5)) (zH (xF (i:=6)) aQN)))))))))) yT) (yC (y6 (yM vR (yL yX (pv 1) yF) yF) (yG (yQ yP)) yT) (yC (y6 (PW.pt (uA (yM z8 (pv 5) x3) (vM (yM vR (pv 3) (yL yK (yL yK (pv 0) (pv 5)) yF))))) (yG (yQ yP)) yT) (yC (y0 (v8 cQU cQ3 cQ4 xL (pv 0) (yA (yZ (yA (pv 2) (yA (pv 3) (yA (pv 4) (yA (yL yX (pv 1) yF) (yA (pv 5) (yA (pv 6) (yA vJ (yA (yZ yD) yD))))))))) yD))) (yG (yQ (yV w6 (yS yO rfl T.b_len xE (yA (pv 0) yD)) yF)))))))),?_⟩;have h0:∃a b c,(xA e)[0]? =some (.str a)/\(xA e)[1]? =some (.int b)/\(xA e)[2]? =some c/\a=Desk.aWT e:=by
  rcases p with⟨g,d,l,t,rfl⟩|⟨m,d,t,rfl⟩
  ·exact⟨_,_,_,Cd,Cd,Cd,rfl⟩
  ·exact⟨_,_,_,Cd,Cd,Cd,rfl⟩
 obtain⟨M,b0,G,d0,d1,d2,ea⟩:=h0;refine⟨_,Cd,o,_,0,_,Cd,Cd,Cc B,yR (j:=0) d0,_,Cd,o,_,1,_,Cd,Cd,Cc B,yR (j:=1) d1,_,Cd,o,_,2,_,Cd,Cd,Cc B,yR (j:=2) d2,z5,λtp b2=>?_⟩;have W:=yE b2 (.tup [.str M,.int b0,G,.non,.str ""]);refine⟨tp,[.str M,.int b0,G,.non,.str ""],Cd,Cc yB,Cd,.str M,[.int b0,G,.non,.str ""],Cd,.int b0,[G,.non,.str ""],Cd,G,[.non,.str ""],Cd,.non,[.str ""],Cd,.str "",[],Cd,Cd,?_⟩;generalize upd H tp (.tup [.str M,.int b0,G,.non,.str ""])=H1 at W ⊢;dsimp only[yW];refine x9 (λu H'=>L2.Ez7 λ(g l place:Str)(d t:Int)(lk:Option Nat)(o7:Option V)=>u= [some (.ref L),some (.ref o),some (.str g),some (.int d),some (.str l),some (zN lk),some (.str place),o7]/\xG H H'/\(xA e)[3]? =some (.int t)/\(∀k,lk=some k->k<R.length)/\
  (t<0->∀S,xR R S e (.txt "no term") R S)/\(0<=t->(∃k,lk=some k/\d<Bk.dt R k)->∀S,xR R S e (.txt "too early") R S)/\(0<=t->(∀k,lk=some k->Bk.dt R k<=d)->∀S,xR R S e (.num R.length) (R++ [⟨g,d,l,t,lk,place,false,[]⟩]) S)) ?jX (λn=>?_)
 case jX=>
  rintro u H2 ⟨g,l,place,d,t,lk,o7,rfl,y,d3,a9,t1,t2,t3⟩;have v:=J.same y;have a4:=y _ _ B;have stay:∀ {H3:Hp} {x:Str},xG H H3->(∀S,xR R S e (.txt x) R S)->Q (.str x) H3:=λ{H3 x} k dn=>q H3 (.txt x) _ R X (But.of J.dom k).step (J.same k) dn rfl (λ_ z=>nomatch z);refine⟨_,Cd,o,_,3,_,Cd,Cd,Cc a4,yR (j:=3) d3,_,_,Cd,Cd,_,Cd,?_⟩;refine qG (λc=>?_) (λc=>?_)
  ·exact stay y (t1 (of_decide_eq_true c))
  have ht:0<=t:=by have:=of_decide_eq_false (Bool.eq_false_iff.mpr c);omega
  dsimp only[bQ9];refine x9 (λu H'=>u= [some (.ref L),some (.ref o),some (.str g),some (.int d),some (.str l),some (zN lk),some (.str place),o7]/\H'=H2/\∀k,lk=some k->Bk.dt R k<=d) ?rest2 (λn=>?_);case rest2=>
   rintro u H' ⟨rfl,rfl,h1⟩;refine⟨_,Cd,.inl ⟨rfl,_,Cb v.lst⟩,_,Cd,_,Cd,_,Cd,_,Cd,o,_,3,_,Cd,Cd,Cc a4,yR (j:=3) d3,_,Cd,_,Cd,z0,λcp a7=>⟨zn (by show 8<=100000;omega),λb hb=>?_⟩⟩;have hE:=aWD v (r:=⟨g,d,l,t,lk,place,false,[]⟩) rfl a7 hb;have k3:=(yE a7 (.lst [])).trans (yE hb (.lst (uR ⟨g,d,l,t,lk,place,false,[]⟩ cp)));refine⟨L,_,_,Cd,Cd,k3 _ _ v.lst,zlt (by rw[cQt,J.len];omega),?_⟩;have el:X.map V.ref++ [V.ref b]=(X++ [b]).map V.ref:=by simp
   rw[el];refine⟨_,Cd,L,_,Cd,.inl (Cb yB),?_⟩;refine⟨_,_,Cd,Cd,?_⟩;have en:(((((X++ [b]).map V.ref).length:Nat):Int) - 1)=(R.length:Int):=by rw[cQt,cQL,J.len];simp
   show Q (V.int _) _;rw[en];exact q _ (.num R.length) _ _ _ (hE.2.pre J.dom y) hE.1 (t3 ht h1) rfl (λ_ z=>nomatch z)
  cases lk with
  |none=>exact⟨_,Cd,Cd,_,Cd,onF rfl (onF rfl (n _ _ ⟨rfl,Cd,λk z=>nomatch z⟩))⟩
  |some j=>
   have b3:=a9 j rfl;have N:=cQn b3;obtain⟨bj,j1,j2,cj,j3,j4⟩:=v.get N;refine⟨_,Cd,Cd,_,Cd,onT rfl ⟨_,Cd,_,Cd,_,Cd,L,_,_,_,Cd,Cd,Cb v.lst,yR j1,bj,_,1,_,Cd,Cd,Cb j3,Cd,_,_,Cd,Cd,_,Cd,?_⟩⟩;cases a2:decide (d<R[j].date)with
   |true=>exact onT rfl (stay y (t2 ht ⟨j,Cd,by rw[Bk.w9 N];exact of_decide_eq_true a2⟩))
   |false=>exact onF rfl (n _ _ ⟨rfl,Cd,λi O=>by cases O;rw[Bk.w9 N];have:=of_decide_eq_false a2;omega⟩)
 refine⟨_,Cd,Cd,_,Cd,?_⟩;rcases p with⟨g,d,l,t,rfl⟩|⟨m,d,t,rfl⟩
 ·have Y:g="in"\/g=BM:=b4;obtain rfl:M=g:=by cases d0;rfl
  obtain rfl:b0=d:=by cases d1;rfl
  obtain rfl:G= .str l:=by cases d2;rfl
  refine onF (by rcases Y with rfl|rfl<;> decide) ?_;exact n _ _ ⟨M,l,"",b0,t,none,none,Cd,W,Cd,(λk z=>nomatch z),(λh S=> .enterT h),(λh ⟨k,z,_⟩=>nomatch z),λh _ S=> .enter h⟩
 ·obtain rfl:M=BP:=by cases d0;rfl
  obtain rfl:b0=m:=by cases d1;rfl
  obtain rfl:G= .int d:=by cases d2;rfl
  refine onT rfl ?_;have U:H1 o=some (.tup [.str BP,.int b0,.int d,.int t]):=W _ _ B;have C:=J.same W;refine⟨_,Cd,_,Cd,o,_,1,_,Cd,Cd,Cc U,Cd,L,X,R,b0,Cd,C,_,Cd,?_⟩;cases h1:Bk.vA R b0 with
  |false=>exact onT rfl (q H1 (.txt "no letter") _ R X (But.of J.dom W).step C (λS=> .replyN h1) rfl (λ_ z=>nomatch z))
  |true=>
  obtain⟨i,r,rfl,b5,O,hv⟩:=Bk.wP h1;obtain⟨b,g1,g2,cp,g3,g4⟩:=C.get O;refine onF rfl ⟨_,Cd,_,Cd,o,_,1,_,Cd,Cd,Cc U,Cd,L,_,_,_,Cd,Cd,Cb C.lst,yR g1,?_⟩;dsimp only[yW];refine⟨z2,λl2 Z=>⟨_,Cd,b,_,0,_,Cd,Cd,Cb (yE Z (.lst [.str "in",.str BM]) _ _ g3),Cd,Cd,.inr ⟨_,Cd,?_⟩⟩⟩;have y:=yE Z (.lst [.str "in",.str BM]);have a5:=W.trans y;have I:upd H1 l2 (.lst [.str "in",.str BM]) l2=some (.lst [.str "in",.str BM]):=yB;generalize upd H1 l2 (.lst [.str "in",.str BM])=H3 at y a5 I ⊢;have b1:atI [V.str "in",V.str BM] (if decide (V.str r.way=V.str "in")=true then 1 else 0)=some (.str (Bk.v6 r.way)):=by
   rw[vD];unfold Bk.v6;by_cases z:r.way="in"
   ·rw[if_pos z,decide_eq_true z];rfl
   ·rw[if_neg z,decide_eq_false z];rfl
  have a3:=y _ _ U;have a1:=y _ _ g3;refine⟨l2,_,_,_,Cd,Cd,Cb I,b1,?_⟩;dsimp only[yW];refine⟨_,Cd,o,_,2,_,Cd,Cd,Cc a3,Cd,_,Cd,b,_,2,_,Cd,Cd,Cb a1,Cd,_,Cd,o,_,1,_,Cd,Cd,Cc a3,Cd,_,Cd,b,_,5,_,Cd,Cd,Cb a1,Cd,z4,λt4 a8=>?_⟩;have k4:=yE a8 (.tup [.int d,.str r.partner,.int (i:Nat),.str r.place]);refine⟨t4,[.int d,.str r.partner,.int (i:Nat),.str r.place],Cd,Cc yB,Cd,.int d,[.str r.partner,.int (i:Nat),.str r.place],Cd,.str r.partner,[.int (i:Nat),.str r.place],Cd,.int (i:Nat),[.str r.place],Cd,.str r.place,[],Cd,Cd,?_⟩;refine n _ _ ⟨Bk.v6 r.way,r.partner,r.place,d,t,some i,_,Cd,a5.trans k4,Cd,(λk z=>by cases z;exact b5),(λh S=> .replyT h1 h),(λh ⟨k,z,B⟩ S=>?_),(λh B S=>?_)⟩
  ·cases z;rw[Bk.w9 O]at B;exact .replyE O hv h B
  ·have:=B i rfl;rw[Bk.w9 O]at this;exact .reply O hv h this
end
end Law
namespace Law
open PySem L2 PyProof.Rows
open Bk (Row Rows xR zI Ans)
open Desk (xA qE uV Wf vB)
abbrev bV5:Stmt:=xI BG
def xC.tupNo{R:Rows}(h:xC H d a R)(e:H x=some (.tup ys)):x∉a:=λz=>by
 obtain⟨i,b,f⟩:=cXe z;obtain⟨g,c,_⟩:=h.row i x _ (by rw[cQn b,f]) (cQn (show i<R.length by rw[<- h.len];exact b));rw[e]at c;cases c
def aJJ{R:Rows}{k:Nat}(h:xC H m f R)(q:f[k]? =some b)(v:R[k]? =some r)(B:H b=some (.lst (uR r A)))(w:List Str)(g:H a=none): xC (upd (upd H a (.lst (w.map V.str))) b (.lst (uR r a))) m f (Bk.xD R k λr=>{r with copies:=w})/\aXh m f f H (upd (upd H a (.lst (w.map V.str))) b (.lst (uR r a))):=by
 have j:=yE g (.lst (w.map V.str));have t:=h.same j;refine⟨t.upd q v (λr=>{r with copies:=w}) yB,λx o n e=>?_,λc i=> .inl i,λs u e n c i l d=>?_⟩
 ·rw[yJ (λz=>n (cQB _ (by rw[z];exact cQH q)))];exact j _ _ e
 ·by_cases z:c=b
  ·subst z;rw[yB]at d;cases d;intro y;have:a=s:=by injection y with y;injection y
   rw[<- this,g]at e;cases e
  ·rw[yJ z]at d;obtain⟨o,p⟩:=h.dom c i;rw[j _ _ p]at d;exact n c i l (by rw[p];exact d)
def X3(e:zI)(m:Int):Prop:=e= .loose m\/(∃d,e= .date m d)\/(∃t,e= .term m t)\/(∃w,e= .copy m w)\/(∃w,e= .file m w)\/e= .void m
inductive bQ7(vs:List V)(H:Hp)(Q:VK)(_:XK):Prop|mk(ra da:Nat)(rs:List Nat)(R:Rows)(e:zI)(m:Int)(_:vs= [.ref ra,.ref da])(_:H da=some (.tup (xA e)))(_:X3 e m)(_:xC H ra rs R)(_:R.length<=60)(_:Bk.jU R)(_:(∀r∈R,r.copies.length<=1000))(_:∀ (H':Hp)(a:Ans)(v:V)(R':Rows),aXh ra rs rs H H'->xC H' ra rs R'->(∀S,xR R S e a R' S)->qE [] H' a v->uV H v->Q v H')
def X3.at1(h:X3 e m):(xA e)[1]? =some (.int m):=by
 rcases h with rfl|⟨d,rfl⟩|⟨d,rfl⟩|⟨d,rfl⟩|⟨d,rfl⟩|rfl<;> rfl
def X3.no{R:Rows}(h:X3 e m)(g:Bk.vA R m=false)(S:List Int):xR R S e (.txt "no letter") R S:=by
 refine .oneN g ?_;rcases h with rfl|⟨d,rfl⟩|⟨d,rfl⟩|⟨d,rfl⟩|⟨d,rfl⟩|rfl<;> simp
section
variable {K:cQq}
def bWk:yN [A0,AG,Ar,"_law_numbers",AI,"_law_row"] [A0,AG] (yH bV5):=scM
def bVJ(T:vQ mg)(X:FnG P w K mg base 2 Ai [A0,A1] Q7)(J:FnG P w K mg base 2 Bm [A0,A1,AK] bQV)(W:FnG P w K mg base 2 C6 [A0,A1] bJJ) (I:FnG P w K mg base 2 B1 [A0,A1] aQi) (F:Fun K BG BG bV5 f fd):xH P w K mg base CX0 3 f fd [A0,AG] bQ7:=by
 have sc:=bWk;refine F.ok (k:=2) sc (λc5 A outer s H vs Q E hr h=>?_);obtain⟨U,l,Z,R,e,m,rfl,n,D,y,hR,a7,a9,q⟩:=h;refine⟨_,(yC (y6 (vL (x8 (xN X hr rfl (yA (pv 0) (yA (yL yX (pv 1) yF) yD))))) (yG (yQ yP)) yT) (yC (yU (i:=2) (yL yK (pv 0) (yL yX (pv 1) yF))) (yC (y6 (yM zK (yL yX (pv 1) yF) yP) (yG (yQ (xN J hr rfl (yA (pv 0) (yA (yL yX (pv 1) yF) (yA (yL yX (pv 1) yF) yD)))))) yT) (yC (y6 (yM zK (yL yX (pv 1) yF) yP) (yG (yQ (xN W hr rfl (yA (pv 0) (yA (yL yX (pv 1) yF) yD))))) yT) (yC (y6 (yM zK (yL yX (pv 1) yF) yP) (yC (y6 (yM aXF (yL yK (pv 2) yF) x3) (yG (yQ yP)) yT) (yC (vK x3 (qD (pv 2) yF z6)) (yG (yQ yP)))) yT) (yC (y6 (yM zK (yL yX (pv 1) yF) yP) (yC (y6 (yM vR (yL yX (pv 1) yF) yF) (yG (yQ yP)) yT) (yC (vK (yL yX (pv 1) yF) (qD (pv 2) yF z6)) (yG (yQ yP)))) yT) (yC (y6 (yM zK (yL yX (pv 1) yF) yP) (yC (y6 (PW.pt (jW (yM zK (yL yX (pv 1) yF) (yL yK (pv 2) yF)) (vX (yM vI (yL yX (pv 1) yF) (yL yK (pv 2) yF))))) (yG (yQ yP)) yT) (yC (vK (yV qC (yL yK (pv 2) yF) (yZ (yA (yL yX (pv 1) yF) yD))) (qD (pv 2) yF z6)) (yG (yQ (yS yO rfl T.b_len xE (yA (yL yK (pv 2) yF) yD)))))) yT) (yC (yU (i:=3) (xN I hr rfl (yA (pv 0) (yA (yL yX (pv 1) yF) yD)))) (yC (wM cXg rfl (xQ (pv 3)) (xF (i:=4)) (yC (yU (i:=5) (yL yK (pv 0) (pv 4))) (yG (vK (yL yX (pv 1) yF) (qD (pv 5) yF z6))))) (yG (yQ (yS yO rfl T.b_len xE (yA (pv 3) yD))))))))))))),?_⟩;have b6:aXh U Z Z H H:=(But.of y.dom (xG.refl _)).step;have txt:∀ {x:Str},(∀S,xR R S e (.txt x) R S)->Q (.str x) H:=λ{x} dn=>q H (.txt x) _ R b6 y dn rfl (λ_ z=>nomatch z);refine⟨_,Cd,_,Cd,l,_,1,_,Cd,Cd,Cc n,yR (j:=1) D.at1,U,Z,R,m,Cd,y,_,Cd,?_⟩;cases h1:Bk.vA R m with
 |false=>exact onT rfl (txt λS=>D.no h1 S)
 |true=>
 obtain⟨i,r,rfl,b2,u,B⟩:=Bk.wP h1;obtain⟨b,g1,g2,cp,N,g4⟩:=y.get u;refine onF rfl ⟨_,Cd,_,Cd,l,_,1,_,Cd,Cd,Cc n,yR (j:=1) D.at1,U,_,_,_,Cd,Cd,Cb y.lst,yR g1,?_⟩;dsimp only[yW];have b0:∀j,r.link=some j->j<R.length:=λj hj=>by obtain⟨p,hp,_⟩:=a7.ans i j r u hj;exact(cQA.mp hp).1
 have up:∀ {x:Str} (g:Row->Row),(∀r,(g r).copies=r.copies)->(∀S,xR R S e (.txt x) (Bk.xD R i g) S)->Q (.str x) (upd H b (.lst (uR (g r) cp))):=λ{x} g hg dn=>
  q _ (.txt x) _ _ (But.upd (l':=uR (g r) cp) y.dom g2 N rfl).step (y.upd g2 u g (by rw[hg];exact g4)) dn rfl (λ_ z=>nomatch z)
 rcases D with rfl|⟨d,rfl⟩|⟨t,rfl⟩|⟨o,rfl⟩|⟨a0,rfl⟩|rfl
 ·refine⟨_,Cd,l,_,0,_,Cd,Cd,Cc n,Cd,Cd,_,Cd,onF (by decide) ⟨_,Cd,l,_,0,_,Cd,Cd,Cc n,Cd,Cd,_,Cd,onF (by decide) ⟨_,Cd,l,_,0,_,Cd,Cd,Cc n,Cd,Cd,_,Cd,onT (by decide) ⟨_,Cd,b,_,4,_,Cd,Cd,Cb N,Cd,Cd,_,Cd,?_⟩⟩⟩⟩;cases a5:r.link with
  |none=>exact onT rfl (txt λS=> .looseN u B a5)
  |some j=>refine onF rfl ⟨_,Cd,b,_,4,4,Cd,Cd,N,Cd,?_⟩;exact up (λr=>{r with link:=none}) (λ_=>rfl) λS=> .loose u B (by rw[a5];simp)
 ·refine⟨_,Cd,l,_,0,_,Cd,Cd,Cc n,Cd,Cd,_,Cd,onT (by decide) ⟨_,Cd,_,Cd,l,_,1,_,Cd,Cd,Cc n,Cd,_,Cd,l,_,2,_,Cd,Cd,Cc n,Cd,U,Z,R,i,r,d,Cd,y,by omega,u,b0,λH' a R' L a2 O=>?_⟩⟩;refine q H' (.txt a) _ R' L.step a2 (λS=>?_) rfl (λ_ z=>nomatch z);rcases O with⟨Y,rfl,rfl⟩|⟨Y,rfl,rfl⟩
  ·exact .dateE u B Y
  ·refine .date u B (λj hj=>?_) (λc O=>?_)
   ·exact cZH.mp λz=>Y (.inl ⟨j,hj,z⟩)
   ·exact cZH.mp λz=>Y (.inr ⟨c,O,z⟩)
 ·refine⟨_,Cd,l,_,0,_,Cd,Cd,Cc n,Cd,Cd,_,Cd,onF (by decide) ⟨_,Cd,l,_,0,_,Cd,Cd,Cc n,Cd,Cd,_,Cd,onF (by decide) ⟨_,Cd,l,_,0,_,Cd,Cd,Cc n,Cd,Cd,_,Cd,onF (by decide) ⟨_,Cd,l,_,0,_,Cd,Cd,Cc n,Cd,Cd,_,Cd,onT (by decide) ⟨_,Cd,l,_,2,_,Cd,Cd,Cc n,Cd,_,_,Cd,Cd,_,Cd,?_⟩⟩⟩⟩⟩;refine qG (λc=>?_) (λc=>?_)
  ·exact txt λS=> .termN u B (of_decide_eq_true c)
  ·refine⟨_,Cd,l,_,2,_,Cd,Cd,Cc n,Cd,_,Cd,b,_,3,3,Cd,Cd,N,Cd,?_⟩;exact up (λr=>{r with term:=t}) (λ_=>rfl) λS=> .term u B (by have:=of_decide_eq_false (Bool.eq_false_iff.mpr c);omega)
 ·refine⟨_,Cd,l,_,0,_,Cd,Cd,Cc n,Cd,Cd,_,Cd,onF (by decide) ⟨_,Cd,l,_,0,_,Cd,Cd,Cc n,Cd,Cd,_,Cd,onF (by decide) ⟨_,Cd,l,_,0,_,Cd,Cd,Cc n,Cd,Cd,_,Cd,onF (by decide) ⟨_,Cd,l,_,0,_,Cd,Cd,Cc n,Cd,Cd,_,Cd,onF (by decide) ⟨_,Cd,l,_,0,_,Cd,Cd,Cc n,Cd,Cd,_,Cd,onT (by decide) ⟨_,Cd,l,_,2,_,Cd,Cd,Cc n,Cd,_,Cd,b,_,2,_,Cd,Cd,Cb N,Cd,Cd,_,Cd,?_⟩⟩⟩⟩⟩⟩;rw[vD];cases b1:decide (o=r.partner)with
  |true=>exact onT rfl (onT rfl (txt λS=> .copyC u B (.inl (of_decide_eq_true b1))))
  |false=>
  refine onF rfl ⟨_,Cd,l,_,2,_,Cd,Cd,Cc n,Cd,_,Cd,b,_,7,_,Cd,Cd,Cb N,Cd,cp,_,Cd,.inl (Cb g4),Cd,cJA.mpr (λv B=>by obtain⟨x,_,rfl⟩:=cXt.mp B;rfl),?_⟩;rw[if_neg (by decide),vB];refine⟨_,Cd,?_⟩;cases a6:r.copies.contains o with
  |true=>exact onT rfl (txt λS=> .copyC u B (.inr (by simpa using a6)))
  |false=>
  have c1:r.copies.length<=1000:=a9 r (cQH u);refine onF rfl ⟨_,Cd,b,_,7,_,Cd,Cd,Cb N,Cd,_,Cd,l,_,2,_,Cd,Cd,Cc n,Cd,z1,λl1 b3=>?_⟩;have k1:=yE b3 (.lst [.str o]);refine⟨cp,l1,_,_,Cd,Cd,k1 _ _ g4,yB,by rw[cQt,cQQ];simp;omega,λc2 C=>?_⟩;have a1:=aJJ (y.same k1) g2 u (k1 _ _ N) (r.copies++ [o]) C;have e5:r.copies.map V.str++ [V.str o]=(r.copies++ [o]).map V.str:=by simp
  rw[e5];have k2:=yE C (.lst ((r.copies++ [o]).map V.str));have b5:c2≠b:=λz=>by rw[z,k1 _ _ N]at C;cases C
  refine⟨_,Cd,b,_,7,7,Cd,Cd,k2 _ _ (k1 _ _ N),Cd,?_⟩;refine⟨_,Cd,b,_,7,_,Cd,Cd,Cb yB,Cd,c2,(r.copies++ [o]).map V.str,Cd,.inl (Cb (by rw[yJ b5];exact yB)),?_⟩;have en:(((((r.copies++ [o]).map V.str).length:Nat)):Int)=(r.copies.length+1:Nat):=by simp
  rw[en];have hE:Bk.xD R i (λq=>{q with copies:=r.copies++ [o] })=Bk.xD R i (λq=>{q with copies:=q.copies++ [o] }):=by unfold Bk.xD;rw[u]
  rw[hE]at a1;exact q _ (.num _) _ _ (a1.2.pre y.dom k1) a1.1 (λS=> .copy u B (of_decide_eq_false b1) (by simpa using a6)) rfl (λ_ z=>nomatch z)
 ·obtain⟨rk,ok⟩:=a7.tree;refine⟨_,Cd,l,_,0,_,Cd,Cd,Cc n,Cd,Cd,_,Cd,onF (by decide) ⟨_,Cd,l,_,0,_,Cd,Cd,Cc n,Cd,Cd,_,Cd,onF (by decide) ⟨_,Cd,l,_,0,_,Cd,Cd,Cc n,Cd,Cd,_,Cd,onF (by decide) ⟨_,Cd,l,_,0,_,Cd,Cd,Cc n,Cd,Cd,_,Cd,onF (by decide) ⟨_,Cd,l,_,0,_,Cd,Cd,Cc n,Cd,Cd,_,Cd,onF (by decide) ⟨_,Cd,_,Cd,l,_,1,_,Cd,Cd,Cc n,Cd,U,Z,R.length,Bk.lk R,rk,Bk.dt R,i,Cd,y.rows,ok,hR,b2,λH2 l2 c3 k2 c6 a3 b9 a4=>?_⟩⟩⟩⟩⟩⟩;have b4:=Bk.aXN b2 ⟨rk,ok,b9,a4⟩;subst b4;dsimp only[yW];have a8:=y.same k2;have b7:H2 l=some (.tup [.str Bi,.int (i:Nat),.str a0]):=k2 _ _ n;have b8:=y.tupNo n;refine⟨_,Cd,l2,Cd,⟨_,Cb a3⟩,?_⟩;refine zZ (xs:=(Bk.thr R i).map λi=>V.int (i:Nat)) (λt σ H3=>L2.Ez2 λ(o5 o6:Option V)=>σ= [some (.ref U),some (.ref l),some (.ref b),some (.ref l2),o5,o6]/\xC H3 U Z (Bk.laid R ((Bk.thr R i).take t) a0)/\But Z H2 H3/\H3 l2=some (.lst ((Bk.thr R i).map λi=>V.int (i:Nat)))) ?_ ?_ ?_ ?_
  ·exact⟨none,none,Cd,a8,But.of a8.dom (xG.refl _),a3⟩
  ·rintro t σ H3 ht ⟨o5,o6,rfl,G,k3,M⟩;exact Cb M
  ·rintro t x σ H3 hx ⟨o5,o6,rfl,G,k3,M⟩;rw[cQJ]at hx;cases O:(Bk.thr R i)[t]? with
   |none=>rw[O]at hx;cases hx
   |some k=>rw[O]at hx;cases hx;have c0:k<R.length:=((a4 k).mp (cQH O)).1;obtain⟨bk,ck,c4,e1,e2,e3,e4,e5,e6⟩:=aVT (K:=K) G O c0 M;dsimp only[yW];refine⟨_,Cd,_,Cd,U,_,_,_,Cd,Cd,Cb G.lst,yR e1,?_⟩;dsimp only[yW];exact⟨_,Cd,l,_,2,_,Cd,Cd,Cc (k3.1 _ _ b8 b7),Cd,_,Cd,bk,_,5,5,Cd,Cd,e2,Cd,_,_,Cd,e3,k3.trans e4,e5⟩
  ·rintro σ H3 ⟨o5,o6,rfl,G,k3,M⟩;rw[cQt,cXw]at G;refine⟨_,Cd,l2,_,Cd,.inl (Cb M),?_⟩;rw[cQt];exact q _ (.num _) _ _ (((But.of y.dom k2).trans k3).step) G (λS=> .file u B) rfl (λ_ z=>nomatch z)
 ·refine⟨_,Cd,l,_,0,_,Cd,Cd,Cc n,Cd,Cd,_,Cd,onF (by decide) ⟨_,Cd,l,_,0,_,Cd,Cd,Cc n,Cd,Cd,_,Cd,onT (by decide) ⟨_,Cd,_,Cd,l,_,1,_,Cd,Cd,Cc n,Cd,U,Z,R,i,r,Cd,y,by omega,u,λH' a R' L a2 O=>?_⟩⟩⟩;refine q H' (.txt a) _ R' L.step a2 (λS=>?_) rfl (λ_ z=>nomatch z);rcases O with⟨Y,rfl,rfl⟩|⟨Y,rfl,rfl⟩
  ·exact .voidA u B Y
  ·exact .void u B Y
end
end Law
namespace Law
open PySem L2 PyProof.Rows
open Bk (Row Rows xR zI Ans)
open Desk (xA qE uV Wf vB stV)
abbrev bQv:Stmt:=xI BR
def aKR(e:zI):Prop:=(∃m,e= .state m)\/(∃m,e= .thread m)\/(∃m,e= .copies m)\/(∃w,e= .letters w)\/∃a d,e= .on a d
inductive bQ4(vs:List V)(H:Hp)(Q:VK)(_:XK):Prop|mk(ra sa da:Nat)(rs:List Nat)(R:Rows)(S:List Int)(e:zI)(_:vs= [.ref ra,.ref sa,.ref da])(_:H da=some (.tup (xA e)))(_:aKR e)(_:xC H ra rs R)(_:H sa=some (.lst (S.map V.int)))(_:R.length<=60)(_:Bk.jU R)(_:∀ (H':Hp)(a:Ans)(v:V),xG H H'->xR R S e a R S->qE [] H' a v->uV H v->Q v H')
def wD:cQ7 AB=some (.type AB):=dk
def w8:cQ7 AD=some (.type AD):=dk
section
variable {K:cQq}
def bWi:yN [A0,AJ,AG,BH] [A0,AJ,AG] (yH bQv):=scM
def bXN:xP [A0,AJ,AG,BH] (yH bQv) AI [A0] [0] (lsN [(".0",.local),(AI,.local),(A0,.free)]):=
 lcM
def bXO:xP [A0,AJ,AG,BH] (yH bQv) AI [AG,A0] [2,0] (lsN [(".0",.local),(AI,.local),(AG,.free),(A0,.free)]):=
 lcM
def J2(R:Rows)(w:Str):V->Bool
 |.int n=>match R[n.toNat]? with|some r=>decide (r.place=w)|none=>false
 |_=>false
def bVH(T:vQ mg)(a0:mg AB=none)(a6:mg AD=none)(U:FnG P w K mg base 2 Ai [A0,A1] Q7)(u:FnG P w K mg base 3 BO [A0,AJ,AK,BY] aWn) (G:FnG P w K mg base 2 B1 [A0,A1] aQi) (F:Fun K BR BR bQv f fd):xH P w K mg base CX0 4 f fd [A0,AJ,AG] bQ4:=by
 have sc:=bWi;refine F.ok (k:=3) sc (λc0 A outer s H vs Q E hr h=>?_);obtain⟨y,sa,g,Z,R,S,e,rfl,C,a4,L,b3,hR,b5,q⟩:=h;have a5:v0 2 _:=hr.mono (by omega);refine⟨_,(yC (y6 (yM zK (yL yX (pv 2) yF) yP) (yC (aXs (i:=3) bXN rfl sc.nd rfl rfl (zP rfl T.b_range (yA (yS yO rfl T.b_len xE (yA (pv 0) yD)) yD)) (λ_ _ _ _ _=>(wG (vL (x8 (yL ixK (yL ixK (pv 1) (pv 0)) yF))))) (λ_ _ _ _ _=>(pv 0))) (yG (yQ (aXr bXO rfl (xQ (pv 3)) (λ_ _ _ _ _=>(wG (yM zK (yL ixK (yL ixK (pv 2) (pv 0)) yF) (yL ixT (pv 1) yF)))) (λ_ _ _ _ _=>(pv 0)))))) yT) (yC (y6 (yM vI (yL yX (pv 2) yF) (yZ (yA yP (yA yP yD)))) (yG (yQ (xN u hr rfl (yA (pv 0) (yA (pv 1) (yA (yL yX (pv 2) yF) (yA (zO zK (yL yX (pv 2) yF) yP) yD))))))) yT) (yC (y6 (vL (x8 (xN U a5 rfl (yA (pv 0) (yA (yL yX (pv 2) yF) yD))))) (yG (yQ yP)) yT) (yC (y6 (yM zK (yL yX (pv 2) yF) yP) (yG (yQ (xN G a5 rfl (yA (pv 0) (yA (yL yX (pv 2) yF) yD))))) yT) (yC (y6 (yM zK (yL yX (pv 2) yF) yP) (yG (yQ (xW vV rfl a0 wD (yA (yL yK (yL yK (pv 0) (yL yX (pv 2) yF)) yF) yD)))) yT) (yG (yQ (xW qS rfl a6 w8 (yA (Y3 aZs (yL yK (pv 0) (yL yX (pv 2) yF)) aX9 (Z5 yF)) yD))))))))),?_⟩;have txt:∀ {B:Hp} {x:Str},xG H B->xR R S e (.txt x) R S->Q (.str x) B:=λ{B x} k dn=>q B (.txt x) _ k dn rfl (λ_ z=>nomatch z);have one:∀ {m:Int} {x:Str},xA e= [.str x,.int m]->True:=λ_=>trivial;rcases a4 with⟨m,rfl⟩|⟨m,rfl⟩|⟨m,rfl⟩|⟨j,rfl⟩|⟨o,d,rfl⟩
 ·refine⟨_,Cd,g,_,0,_,Cd,Cd,Cc C,Cd,Cd,_,Cd,onF (by decide) ?_⟩;refine⟨_,Cd,g,_,0,_,Cd,Cd,Cc C,Cd,z2,λJ t=>⟨J,_,Cd,.inl (Cb yB),Cd,Cd,_,Cd,onF (by decide) ?_⟩⟩;have n:=yE t (.lst [.str AZ,.str AX]);generalize upd H J (.lst [.str AZ,.str AX])=H1 at n ⊢;have a:H1 g=some (.tup [.str Bb,.int m]):=n _ _ C;have c:=L.same n;refine⟨_,Cd,_,Cd,g,_,1,_,Cd,Cd,Cc a,Cd,y,Z,R,m,Cd,c,_,Cd,?_⟩;cases Y:Bk.vA R m with
  |false=>exact onT rfl (txt n (.oneN Y (by simp)))
  |true=>
  obtain⟨i,r,rfl,W,hi,N⟩:=Bk.wP Y;obtain⟨b,g1,g2,cp,M,g4⟩:=c.get hi;refine onF rfl ⟨_,Cd,g,_,0,_,Cd,Cd,Cc a,Cd,Cd,_,Cd,onF (by decide) ⟨_,Cd,g,_,0,_,Cd,Cd,Cc a,Cd,Cd,_,Cd,onF (by decide) ?_⟩⟩;refine⟨_,Cd,_,Cd,g,_,1,_,Cd,Cd,Cc a,Cd,y,_,_,_,Cd,Cd,Cb c.lst,yR g1,_,Cd,b,_,Cd,Cb M,λp2 O=>⟨p2,_,Cd,.inl ⟨Cb yB,λp3 a3=>?_⟩⟩⟩;have b1:qP (uR r cp) none (some 6)=stV r:=by unfold stV Desk.W6 Desk.qW;rw[N];cases a9:r.link<;> (unfold uR;rw[a9];rfl)
  have k2:=yE O (.lst (qP (uR r cp) none (some 6)));have k3:=yE a3 (.tup (qP (uR r cp) none (some 6)));exact q _ (.row r) _ ((n.trans k2).trans k3) (.state hi N) ⟨p3,Cd,by simp,by rw[<- b1];exact yB⟩ (.none ((n.trans k2).fresh a3))
 ·refine⟨_,Cd,g,_,0,_,Cd,Cd,Cc C,Cd,Cd,_,Cd,onF (by decide) ?_⟩;refine⟨_,Cd,g,_,0,_,Cd,Cd,Cc C,Cd,z2,λJ t=>⟨J,_,Cd,.inl (Cb yB),Cd,Cd,_,Cd,onF (by decide) ?_⟩⟩;have n:=yE t (.lst [.str AZ,.str AX]);generalize upd H J (.lst [.str AZ,.str AX])=H1 at n ⊢;have a:H1 g=some (.tup [.str B9,.int m]):=n _ _ C;have c:=L.same n;refine⟨_,Cd,_,Cd,g,_,1,_,Cd,Cd,Cc a,Cd,y,Z,R,m,Cd,c,_,Cd,?_⟩;cases Y:Bk.vA R m with
  |false=>exact onT rfl (txt n (.oneN Y (by simp)))
  |true=>
  obtain⟨i,r,rfl,W,hi,N⟩:=Bk.wP Y;obtain⟨rk,ok⟩:=b5.tree;refine onF rfl ⟨_,Cd,g,_,0,_,Cd,Cd,Cc a,Cd,Cd,_,Cd,onT (by decide) ?_⟩;refine⟨_,Cd,_,Cd,g,_,1,_,Cd,Cd,Cc a,Cd,y,Z,R.length,Bk.lk R,rk,Bk.dt R,i,Cd,c.rows,ok,hR,W,λH2 l2 b9 k2 b6 a7 b8 a8=>?_⟩;have b0:=Bk.aXN W ⟨rk,ok,b8,a8⟩;subst b0;exact q _ (.nums (Bk.thr R i)) _ (n.trans k2) (.thread hi N) ⟨l2,Cd,by simp,a7⟩ (.none (n.fresh b6))
 ·refine⟨_,Cd,g,_,0,_,Cd,Cd,Cc C,Cd,Cd,_,Cd,onF (by decide) ?_⟩;refine⟨_,Cd,g,_,0,_,Cd,Cd,Cc C,Cd,z2,λJ t=>⟨J,_,Cd,.inl (Cb yB),Cd,Cd,_,Cd,onF (by decide) ?_⟩⟩;have n:=yE t (.lst [.str AZ,.str AX]);generalize upd H J (.lst [.str AZ,.str AX])=H1 at n ⊢;have a:H1 g=some (.tup [.str BL,.int m]):=n _ _ C;have c:=L.same n;refine⟨_,Cd,_,Cd,g,_,1,_,Cd,Cd,Cc a,Cd,y,Z,R,m,Cd,c,_,Cd,?_⟩;cases Y:Bk.vA R m with
  |false=>exact onT rfl (txt n (.oneN Y (by simp)))
  |true=>
  obtain⟨i,r,rfl,W,hi,N⟩:=Bk.wP Y;obtain⟨b,g1,g2,cp,M,g4⟩:=c.get hi;refine onF rfl ⟨_,Cd,g,_,0,_,Cd,Cd,Cc a,Cd,Cd,_,Cd,onF (by decide) ⟨_,Cd,g,_,0,_,Cd,Cd,Cc a,Cd,Cd,_,Cd,onT (by decide) ?_⟩⟩;refine⟨_,Cd,_,Cd,g,_,1,_,Cd,Cd,Cc a,Cd,y,_,_,_,Cd,Cd,Cb c.lst,yR g1,b,_,7,_,Cd,Cd,Cb M,Cd,cp,_,Cd,.inl (Cb g4),λp2 O=>?_⟩;have k2:=yE O (.lst (r.copies.map V.str));exact q _ (.txts r.copies) _ (n.trans k2) (.copies hi N) ⟨p2,Cd,by simp,yB⟩ (.none (n.fresh O))
 ·have b7:H g=some (.tup [.str B2,.str j]):=C;refine⟨_,Cd,g,_,0,_,Cd,Cd,Cc C,Cd,Cd,_,Cd,onT (by decide) ?_⟩;have hl:(Z.map V.ref).length=R.length:=by rw[cQt];exact L.len
  refine⟨_,Cd,y,_,Cd,.inl (Cb L.lst),?_⟩;rw[hl];refine⟨_,Cd,by omega,by omega,λD hD=>?_⟩;rw[cQV];refine qY (λk=>match R[k]? with|some r=> !r.void|none=>false) (λk=>V.int (k:Nat)) hD (by rw[cQQ];omega) (λk I B R' X p=>?_) (λk I _ B R' X p=>⟨_,Cd,p⟩) ?_
  ·obtain⟨b,g1,g2,cp,M,g4⟩:=L.get (cQn I);have a1:B y=some (.lst (Z.map V.ref)):=by rw[X y (yI L.lst hD)];exact L.lst
   have hb:B b=_:=(X b (yI M hD)).trans M;rw[cQn I]at p;exact⟨_,Cd,_,Cd,y,_,_,_,Cd,Cd,Cb a1,yR g1,b,_,6,_,Cd,Cd,Cb hb,Cd,_,Cd,p⟩
  have k1:=yE hD (.lst (((cQy R.length).filter λk=>match R[k]? with|some r=> !r.void|none=>false).map λk=>V.int (k:Nat)));have a2:upd H D (.lst (((cQy R.length).filter λk=>match R[k]? with|some r=> !r.void|none=>false).map λk=>V.int (k:Nat))) D=some (.lst (((cQy R.length).filter λk=>match R[k]? with|some r=> !r.void|none=>false).map λk=>V.int (k:Nat))):=yB;generalize upd H D (.lst (((cQy R.length).filter λk=>match R[k]? with|some r=> !r.void|none=>false).map λk=>V.int (k:Nat)))=H1 at k1 a2 ⊢;have c:=L.same k1;have a:=k1 _ _ b7;dsimp only[yW];refine⟨_,Cd,D,Cd,⟨_,Cb a2⟩,λE hE=>?_⟩;refine aXC (J2 R j) id (Cb a2) hE ?_ (λv N B R' X p=>?_) (λv N _ B R' X p=>⟨_,Cd,p⟩) ?_
  ·rw[cQt,cQQ];have:=cXn (λk=>match R[k]? with|some r=> !r.void|none=>false) (cQy R.length);rw[cXh]at this;omega
  ·obtain⟨k,I,rfl⟩:=cXt.mp N;have I:k<R.length:=cQT.mp (cXf.mp I).1;obtain⟨b,g1,g2,cp,M,g4⟩:=c.get (cQn I);have a1:B y=some (.lst (Z.map V.ref)):=by rw[X y (yI c.lst hE)];exact c.lst
   have hb:B b=_:=(X b (yI M hE)).trans M;have b4:B g=_:=(X g (yI a hE)).trans a;have e1:J2 R j (V.int (k:Nat))=decide (R[k].place=j):=by show(match R[((k:Nat):Int).toNat]? with|some r=>decide (r.place=j)|none=>false)=_;rw[cQV,cQn I]
   rw[e1]at p;refine⟨_,Cd,_,Cd,y,_,_,_,Cd,Cd,Cb a1,yR g1,b,_,5,_,Cd,Cd,Cb hb,Cd,_,Cd,g,_,1,_,Cd,Cd,Cc b4,Cd,Cd,_,Cd,?_⟩;rw[vD];exact p
  ·have ef:(((((cQy R.length).filter λk=>match R[k]? with|some r=> !r.void|none=>false).map λk=>V.int (k:Nat)).filter (J2 R j)).map id)=((cQy R.length).filter λk=>match R[k]? with|some r=> !r.void && decide (r.place=j)|none=>false).map λk=>V.int (k:Nat):=by
    rw[cJ4,List.filter_map,List.filter_filter];congr 1;refine cVK λk I=>?_;have I:k<R.length:=cQT.mp I;show(J2 R j (V.int (k:Nat)) && _)=_;show((match R[((k:Nat):Int).toNat]? with|some r=>decide (r.place=j)|none=>false) && _)=_;rw[cQV,cQn I];exact Bool.and_comm _ _
   rw[ef];exact q _ (.nums _) _ (k1.trans (yE hE _)) .letters ⟨E,Cd,by simp,yB⟩ (.none (k1.fresh hE))
 ·refine⟨_,Cd,g,_,0,_,Cd,Cd,Cc C,Cd,Cd,_,Cd,onF (by cases o<;> decide) ?_⟩;refine⟨_,Cd,g,_,0,_,Cd,Cd,Cc C,Cd,z2,λJ t=>⟨J,_,Cd,.inl (Cb yB),Cd,Cd,_,Cd,onT (by cases o<;> decide) ?_⟩⟩;have n:=yE t (.lst [.str AZ,.str AX]);generalize upd H J (.lst [.str AZ,.str AX])=H1 at n ⊢;have a:H1 g=some (.tup [.str (if o then AX else AZ),.int d]):=n _ _ C;have c:=L.same n;have e1:decide (V.str (if o then AX else AZ)=V.str AX)=o:=by cases o<;> decide
  refine⟨_,Cd,_,Cd,_,Cd,g,_,1,_,Cd,Cd,Cc a,Cd,_,Cd,g,_,0,_,Cd,Cd,Cc a,Cd,Cd,?_⟩;rw[e1];refine⟨y,sa,Z,R,S,d,o,Cd,c,n _ _ b3,by omega,λr B l k nl hl b2=>?_⟩;exact q _ (.nums l) _ (n.trans k) (.on b2) ⟨r,Cd,by simp,hl⟩ (.none (n.fresh nl))
end
end Law
namespace Law
open PySem L2 PyProof.Rows
open Bk (Row Rows xR zI Ans)
open Desk (xA qE uV Wf vB stV)
abbrev bVU:Stmt:=xI Av
structure LBk(H:Hp)(ra sa:Nat)(rs:List Nat)(R:Rows)(S:List Int):Prop where
 book:xC H ra rs R
 shut:H sa=some (.lst (S.map V.int))
 ne:sa≠ra
 no:sa∉rs
 noC:NoC rs H sa
def aZz(e sa:Nat)(c a:List Nat)(H d:Hp):Prop:=(∀x o,x≠sa->x≠e->x∉c->H x=some o->d x=some o)/\(∀b∈a,b∈c\/H b=none)/\∀s u,H s=some u->NoC c H s->NoC a d s
def LBk.same{R:Rows}(h:LBk H c sa b R S)(k:xG H a):LBk a c sa b R S:=
 ⟨h.book.same k,k _ _ h.shut,h.ne,h.no,(But.of h.book.dom k).2.2 sa _ h.shut h.noC⟩
def LBk.step{R f:Rows}(h:LBk H b sa d R S)(k:aXh b d a H c)(i:xC c b a f):LBk c b sa a f S/\aZz b sa d a H c:=
 ⟨⟨i,k.1 sa _ (λz=>(cQz.mp z).elim h.ne h.no) h.shut,h.ne,λz=>(k.2.1 sa z).elim h.no (λy=>by have:=h.shut;rw[y]at this;cases this),k.2.2 sa _ h.shut h.noC⟩,λx o _ g j e=>k.1 x o (λz=>(cQz.mp z).elim g j) e,k.2.1,k.2.2⟩
def LBk.put{R:Rows}(h:LBk H g sa f R S)(d:Int):LBk (upd H sa (.lst ((S++ [d]).map V.int))) g sa f R (S++ [d])/\aZz g sa f f H (upd H sa (.lst ((S++ [d]).map V.int))):=by
 refine⟨⟨⟨by rw[yJ (cQ6 h.ne)];exact h.book.lst,h.book.len,h.book.nd,λi b r a p=>?_⟩,yB,h.ne,h.no,λb a l c=>?_⟩,λx o n _ _ e=>by rw[yJ n];exact e,λb a=> .inl a,λs u e n b a l c=>n b a l (by rw[yJ (λz=>h.no (by rw[<- z];exact a))]at c;exact c)⟩
 ·obtain⟨k,j,m⟩:=h.book.row i b r a p;have q:b≠sa:=λz=>h.no (by rw[<- z];exact cQH a);have t:k≠sa:=λz=>h.noC b (cQH a) _ j (by rw[<- z];rfl);exact⟨k,by rw[yJ q];exact j,by rw[yJ t];exact m⟩
 ·rw[yJ (λz=>h.no (by rw[<- z];exact a))]at c;exact h.noC b a l c
inductive aXL(vs:List V)(H:Hp)(Q:VK)(_:XK):Prop|mk(ra sa da:Nat)(rs:List Nat)(R:Rows)(S:List Int)(e:zI)(_:vs= [.ref ra,.ref sa,.ref da])(_:H da=some (.tup (xA e)))(_:Wf e)(_:LBk H ra sa rs R S)(_:R.length<=60)(_:S.length<=60)(_:Bk.jU R)(_:(∀r∈R,r.copies.length<=1000))(_:∀ (H':Hp)(a:Ans)(v:V)(R':Rows)(S':List Int)(rs':List Nat),aZz ra sa rs rs' H H'->LBk H' ra sa rs' R' S'->xR R S e a R' S'->qE [] H' a v->uV H v->Q v H')
def uV.pre(k:xG H a)(h:uV a v):uV H v:=λp e u b z=>h p e u b (k _ _ z)
def aZz.pre(m:∀b∈c,∃o,H b=some o)(k:xG H g)(s:aZz f sa c a g d):aZz f sa c a H d:=
 ⟨λx o i j l e=>s.1 x o i j l (k _ _ e),λb h=>(s.2.1 b h).imp id λz=>k.fresh z,λx u e n=>s.2.2 x u (k _ _ e) ((But.of m k).2.2 x u e n)⟩
section
variable {K:cQq}
def bV7:yN [A0,AJ,AG] [A0,AJ,AG] (yH bVU):=scM
def bVv(u:FnG P w K mg base 4 BQ [A0,AG] aQ9)(J:FnG P w K mg base 4 C7 [A0,A1,BC] bJI) (y:FnG P w K mg base 4 BR [A0,AJ,AG] bQ4) (r:FnG P w K mg base 4 BG [A0,AG] bQ7) (F:Fun K Av Av bVU f fd):xH P w K mg base CX0 5 f fd [A0,AJ,AG] aXL:=by
 have sc:=bV7;refine F.ok (k:=4) sc (λa7 A outer s H vs Q E hr h=>?_);obtain⟨W,sa,g,M,R,S,e,rfl,hd,a2,I,hR,hS,U,a4,q⟩:=h;refine⟨_,(yC (y6 (yM vI (yL yX (pv 2) yF) (yZ (yA yP (yA yP (yA yP yD))))) (yG (yQ (xN u hr rfl (yA (pv 0) (yA (pv 2) yD))))) yT) (yC (y6 (yM zK (yL yX (pv 2) yF) yP) (yG (yQ (xN J hr rfl (yA (pv 0) (yA (yL yX (pv 2) yF) (yA (yL yX (pv 2) yF) yD)))))) yT) (yC (y6 (yM zK (yL yX (pv 2) yF) yP) (yC (y6 (PW.pt (jW (yM aXq (yV y3 (yL yX (pv 2) yF) yF) yF) (vX (yM vI (yL yX (pv 2) yF) (pv 1))))) (yG (yQ yP)) yT) (yC (y0 (v8 cQU cQ3 cQ4 xL (pv 1) (yA (yL yX (pv 2) yF) yD))) (yG (yQ yP)))) yT) (yC (y6 (yM vI (yL yX (pv 2) yF) (yZ (yA yP (yA yP (yA yP (yA yP (yA yP (yA yP yD)))))))) (yG (yQ (xN y hr rfl (yA (pv 0) (yA (pv 1) (yA (pv 2) yD)))))) yT) (yG (yQ (xN r hr rfl (yA (pv 0) (yA (pv 2) yD))))))))),?_⟩;have h0:(xA e)[0]? =some (.str (Desk.aWT e)):=by cases e<;> rfl
 refine⟨_,Cd,g,_,0,_,Cd,Cd,Cc hd,yR (j:=0) h0,z3,λl0 a5=>⟨l0,_,Cd,.inl (Cb yB),Cd,Cd,_,Cd,?_⟩⟩;have n:=yE a5 (.lst [.str "in",.str BM,.str BP]);generalize upd H l0 (.lst [.str "in",.str BM,.str BP])=H1 at n ⊢;have c:=n _ _ hd;have p:=I.same n;have a1:((∃L d N t,e= .enter L d N t)\/∃m d t,e= .reply m d t)->aQ9 [.ref W,.ref g] H1 Q E0:=λZ=>by refine⟨W,g,M,R,e,Cd,c,a2,Z,p.book,hR,λT a v R' a6 st D X Y nv=>?_⟩;have:=p.step st D;exact q T a v R' S a6 (this.2.pre I.book.dom n) this.1 (X S) Y (uV.pre n nv)
 have one:∀ {O:Hp} {m:Int},xG H O->X3 e m->bQ7 [.ref W,.ref g] O Q E0:=λ{O m} k Z=>by have C:=I.same k;refine⟨W,g,M,R,e,m,Cd,k _ _ hd,Z,C.book,hR,U,a4,λT a v R' st D X Y nv=>?_⟩;have:=C.step st D;exact q T a v R' S M (this.2.pre I.book.dom k) this.1 (X S) Y (uV.pre k nv)
 have G:∀ {O:Hp},xG H O->aKR e->bQ4 [.ref W,.ref sa,.ref g] O Q E0:=λ{O} k Z=>by have C:=I.same k;refine⟨W,sa,g,M,R,S,e,Cd,k _ _ hd,Z,C.book,C.shut,hR,U,λT a v k2 X Y nv=>?_⟩;exact q T a v R S M ⟨λx o _ _ _ e=>k2 _ _ (k _ _ e),λb hb=> .inl hb,(But.of I.book.dom (k.trans k2)).2.2⟩ (C.same k2) X Y (uV.pre k nv)
 cases e with
 |enter L d N t=>have a0:L="in"\/L=BM:=a2;refine onT (by rcases a0 with rfl|rfl<;> rfl) ⟨_,Cd,_,Cd,a1 (.inl ⟨_,_,_,_,rfl⟩)⟩
 |reply m d t=>exact onT rfl ⟨_,Cd,_,Cd,a1 (.inr ⟨_,_,_,rfl⟩)⟩
 |hang m o=>refine onF rfl ⟨_,Cd,g,_,0,_,Cd,Cd,Cc c,Cd,Cd,_,Cd,onT rfl ⟨_,Cd,_,Cd,g,_,1,_,Cd,Cd,Cc c,Cd,_,Cd,g,_,2,_,Cd,Cd,Cc c,Cd,?_⟩⟩;refine⟨W,M,R,m,o,Cd,p.book,hR,U.tree,λT a R' st D X=>?_⟩;have:=p.step st.step D;exact q T (.txt a) _ R' S M (this.2.pre I.book.dom n) this.1 (X S) rfl (λ_ z=>nomatch z)
 |shut d=>
  refine onF rfl ⟨_,Cd,g,_,0,_,Cd,Cd,Cc c,Cd,Cd,_,Cd,onF rfl ⟨_,Cd,g,_,0,_,Cd,Cd,Cc c,Cd,Cd,_,Cd,onT rfl ?_⟩⟩;refine⟨_,Cd,g,_,1,_,Cd,Cd,Cc c,Cd,_,_,Cd,Cd,(show(0:Int)<7 by decide),_,_,Cd,Cd,_,Cd,?_⟩;have no:Dm.cts S d=false->Q (.str "counts not") H1:=λh=>q H1 (.txt "counts not") _ R S M ⟨λx o _ _ _ e=>n _ _ e,λb hb=> .inl hb,(But.of I.book.dom n).2.2⟩ p (.shutN h) rfl (λ_ z=>nomatch z);cases h1:decide (d % 7 > 4)with
  |true=>exact onT rfl (onT rfl (no (by unfold Dm.cts Dm.opn;rw[decide_eq_false (by have:=of_decide_eq_true h1;omega)];rfl)))
  |false=>
  refine onF rfl ⟨_,Cd,g,_,1,_,Cd,Cd,Cc c,Cd,_,Cd,sa,_,Cd,.inl (Cb p.shut),Cd,cJA.mpr (λv hv=>by obtain⟨x,_,rfl⟩:=cXt.mp hv;rfl),?_⟩;rw[if_neg (by decide),jK];refine⟨_,Cd,?_⟩;cases h2:S.contains d with
  |true=>exact onT rfl (no (by unfold Dm.cts;rw[h2];simp))
  |false=>
  refine onF rfl ⟨_,Cd,.inl ⟨rfl,_,Cb p.shut⟩,_,Cd,g,_,1,_,Cd,Cd,Cc c,Cd,sa,_,_,Cd,Cd,p.shut,zlt (by rw[cQt];omega),?_⟩;have e5:S.map V.int++ [V.int d]=(S++ [d]).map V.int:=by simp
  rw[e5];have:=p.put d;exact q _ (.txt Aj) _ R (S++ [d]) M (this.2.pre I.book.dom n) this.1 (.shut (by unfold Dm.cts Dm.opn;rw[h2,decide_eq_true (by have:=of_decide_eq_false h1;omega)];rfl)) rfl (λ_ z=>nomatch z)
 |loose m=>exact onF rfl ⟨_,Cd,g,_,0,_,Cd,Cd,Cc c,Cd,Cd,_,Cd,onF rfl ⟨_,Cd,g,_,0,_,Cd,Cd,Cc c,Cd,Cd,_,Cd,onF rfl ⟨_,Cd,g,_,0,_,Cd,Cd,Cc c,Cd,zn (by show 6<=100000;omega),λl i=>⟨l,_,Cd,.inl (Cb yB),Cd,Cd,_,Cd,onF rfl ⟨_,Cd,_,Cd,one (n.trans (yE i _)) (.inl rfl)⟩⟩⟩⟩⟩
 |date m d=>exact onF rfl ⟨_,Cd,g,_,0,_,Cd,Cd,Cc c,Cd,Cd,_,Cd,onF rfl ⟨_,Cd,g,_,0,_,Cd,Cd,Cc c,Cd,Cd,_,Cd,onF rfl ⟨_,Cd,g,_,0,_,Cd,Cd,Cc c,Cd,zn (by show 6<=100000;omega),λl i=>⟨l,_,Cd,.inl (Cb yB),Cd,Cd,_,Cd,onF rfl ⟨_,Cd,_,Cd,one (n.trans (yE i _)) (.inr (.inl ⟨_,rfl⟩))⟩⟩⟩⟩⟩
 |term m t=>exact onF rfl ⟨_,Cd,g,_,0,_,Cd,Cd,Cc c,Cd,Cd,_,Cd,onF rfl ⟨_,Cd,g,_,0,_,Cd,Cd,Cc c,Cd,Cd,_,Cd,onF rfl ⟨_,Cd,g,_,0,_,Cd,Cd,Cc c,Cd,zn (by show 6<=100000;omega),λl i=>⟨l,_,Cd,.inl (Cb yB),Cd,Cd,_,Cd,onF rfl ⟨_,Cd,_,Cd,one (n.trans (yE i _)) (.inr (.inr (.inl ⟨_,rfl⟩)))⟩⟩⟩⟩⟩
 |copy m N=>exact onF rfl ⟨_,Cd,g,_,0,_,Cd,Cd,Cc c,Cd,Cd,_,Cd,onF rfl ⟨_,Cd,g,_,0,_,Cd,Cd,Cc c,Cd,Cd,_,Cd,onF rfl ⟨_,Cd,g,_,0,_,Cd,Cd,Cc c,Cd,zn (by show 6<=100000;omega),λl i=>⟨l,_,Cd,.inl (Cb yB),Cd,Cd,_,Cd,onF rfl ⟨_,Cd,_,Cd,one (n.trans (yE i _)) (.inr (.inr (.inr (.inl ⟨_,rfl⟩))))⟩⟩⟩⟩⟩
 |file m a3=>exact onF rfl ⟨_,Cd,g,_,0,_,Cd,Cd,Cc c,Cd,Cd,_,Cd,onF rfl ⟨_,Cd,g,_,0,_,Cd,Cd,Cc c,Cd,Cd,_,Cd,onF rfl ⟨_,Cd,g,_,0,_,Cd,Cd,Cc c,Cd,zn (by show 6<=100000;omega),λl i=>⟨l,_,Cd,.inl (Cb yB),Cd,Cd,_,Cd,onF rfl ⟨_,Cd,_,Cd,one (n.trans (yE i _)) (.inr (.inr (.inr (.inr (.inl ⟨_,rfl⟩)))))⟩⟩⟩⟩⟩
 |void m=>exact onF rfl ⟨_,Cd,g,_,0,_,Cd,Cd,Cc c,Cd,Cd,_,Cd,onF rfl ⟨_,Cd,g,_,0,_,Cd,Cd,Cc c,Cd,Cd,_,Cd,onF rfl ⟨_,Cd,g,_,0,_,Cd,Cd,Cc c,Cd,zn (by show 6<=100000;omega),λl i=>⟨l,_,Cd,.inl (Cb yB),Cd,Cd,_,Cd,onF rfl ⟨_,Cd,_,Cd,one (n.trans (yE i _)) (.inr (.inr (.inr (.inr (.inr rfl)))))⟩⟩⟩⟩⟩
 |state m=>exact onF rfl ⟨_,Cd,g,_,0,_,Cd,Cd,Cc c,Cd,Cd,_,Cd,onF rfl ⟨_,Cd,g,_,0,_,Cd,Cd,Cc c,Cd,Cd,_,Cd,onF rfl ⟨_,Cd,g,_,0,_,Cd,Cd,Cc c,Cd,zn (by show 6<=100000;omega),λl i=>⟨l,_,Cd,.inl (Cb yB),Cd,Cd,_,Cd,onT rfl ⟨_,Cd,_,Cd,_,Cd,G (n.trans (yE i _)) (.inl ⟨_,rfl⟩)⟩⟩⟩⟩⟩
 |thread m=>exact onF rfl ⟨_,Cd,g,_,0,_,Cd,Cd,Cc c,Cd,Cd,_,Cd,onF rfl ⟨_,Cd,g,_,0,_,Cd,Cd,Cc c,Cd,Cd,_,Cd,onF rfl ⟨_,Cd,g,_,0,_,Cd,Cd,Cc c,Cd,zn (by show 6<=100000;omega),λl i=>⟨l,_,Cd,.inl (Cb yB),Cd,Cd,_,Cd,onT rfl ⟨_,Cd,_,Cd,_,Cd,G (n.trans (yE i _)) (.inr (.inl ⟨_,rfl⟩))⟩⟩⟩⟩⟩
 |copies m=>exact onF rfl ⟨_,Cd,g,_,0,_,Cd,Cd,Cc c,Cd,Cd,_,Cd,onF rfl ⟨_,Cd,g,_,0,_,Cd,Cd,Cc c,Cd,Cd,_,Cd,onF rfl ⟨_,Cd,g,_,0,_,Cd,Cd,Cc c,Cd,zn (by show 6<=100000;omega),λl i=>⟨l,_,Cd,.inl (Cb yB),Cd,Cd,_,Cd,onT rfl ⟨_,Cd,_,Cd,_,Cd,G (n.trans (yE i _)) (.inr (.inr (.inl ⟨_,rfl⟩)))⟩⟩⟩⟩⟩
 |letters a3=>exact onF rfl ⟨_,Cd,g,_,0,_,Cd,Cd,Cc c,Cd,Cd,_,Cd,onF rfl ⟨_,Cd,g,_,0,_,Cd,Cd,Cc c,Cd,Cd,_,Cd,onF rfl ⟨_,Cd,g,_,0,_,Cd,Cd,Cc c,Cd,zn (by show 6<=100000;omega),λl i=>⟨l,_,Cd,.inl (Cb yB),Cd,Cd,_,Cd,onT rfl ⟨_,Cd,_,Cd,_,Cd,G (n.trans (yE i _)) (.inr (.inr (.inr (.inl ⟨_,rfl⟩))))⟩⟩⟩⟩⟩
 |on B d=>exact onF (by cases B<;> rfl) ⟨_,Cd,g,_,0,_,Cd,Cd,Cc c,Cd,Cd,_,Cd,onF (by cases B<;> rfl) ⟨_,Cd,g,_,0,_,Cd,Cd,Cc c,Cd,Cd,_,Cd,onF (by cases B<;> rfl) ⟨_,Cd,g,_,0,_,Cd,Cd,Cc c,Cd,zn (by show 6<=100000;omega),λl i=>⟨l,_,Cd,.inl (Cb yB),Cd,Cd,_,Cd,onT (by cases B<;> rfl) ⟨_,Cd,_,Cd,_,Cd,G (n.trans (yE i _)) (.inr (.inr (.inr (.inr ⟨_,_,rfl⟩))))⟩⟩⟩⟩⟩
end
end Law
set_option tactic.hygienic true
namespace Desk
open PySem L2 PyProof.Rows
open Bk (Row Rows zI Ans xR)
open Thr (wK v5 qU)
def xU(H:Hp)(ds:Nat)(a:List Nat)(b:List zI):Prop:=H ds=some (.lst (a.map V.ref))/\a.length=b.length/\∀ (i:Nat)(d:Nat)(e:zI),a[i]? =some d->b[i]? =some e->H d=some (.tup (xA e))
def xU.same(h:xU H ds a b)(k:zA H c):xU c ds a b:=⟨k.lst h.1,h.2.1,λi d e f g=>k.tup (h.2.2 i d e f g)⟩
def xB(H:Hp)(r:Row)(v:V):Prop:=if r.void then v= .str AW else ∃p,v= .ref p/\H p=some (.tup (stV r))
def xB.same(h:xB H r v)(k:zA H a):xB a r v:=by
 unfold xB at h ⊢;split
 ·rename_i e;rw[if_pos e]at h;exact h
 ·rename_i e;rw[if_neg e]at h;obtain⟨p,e,q⟩:=h;exact⟨p,e,k.tup q⟩
structure aJD(H0:Hp)(CB CL T:Nat)(ba:Nat)(es:List zI)(as:List Ans)(H:Hp)(o:List Nat):Prop where
 ex:∃ (la sa:Nat)(ls cs:List Nat)(R:Rows)(S:List Int),o=own la sa ls cs/\PB CB CL H ba la sa ls cs R S/\Up es.length R S/\Bk.jU R/\Run [] [] es as R S
 tab:wK T H
 keep:zA H0 H
 new:∀b∈o,∀u,(∀ps,u≠HO.tbl ps)->H0 b≠some u
inductive Y5(Rf:Nat×Nat)(vs:List V)(H:Hp)(Q:VK)(_:XK):Prop|mk(ds:Nat)(das:List Nat)(es:List zI)(_:vs= [.ref ds])(_:xU H ds das es)(_:es.length<60)(_:(∀e∈es,Wf e))(_:wK Rf.2 H)(_:∀ (l:Nat)(H':Hp)(vs:List V)(as:List Ans)(R':Rows)(S':List Int),zA H H'->wK Rf.2 H'->Run [] [] es as R' S'->Bk.jU R'->H' l=some (.lst vs)->cXk (λv a=>qE [] H' a v) vs as->Q (.ref l) H')
inductive aWq(CB CL:Nat)(vs:List V)(H:Hp)(Q:VK)(_:XK):Prop|mk(ba la sa:Nat)(ls cs:List Nat)(R:Rows)(S:List Int)(_:vs= [.ref ba])(_:PB CB CL H ba la sa ls cs R S)(_:R.length<64)(_:∀ (l:Nat)(H':Hp)(vs:List V),xG H H'->H' l=some (.lst vs)->cXk (λv r=>xB H' r v) vs R->Q (.ref l) H')
inductive vF(Rf:Nat×Nat)(vs:List V)(H:Hp)(Q:VK)(_:XK):Prop|mk(ds:Nat)(das:List Nat)(es:List zI)(_:vs= [.ref ds])(_:xU H ds das es)(_:es.length<60)(_:(∀e∈es,Wf e))(_:wK Rf.2 H)(_:∀ (l:Nat)(H':Hp)(vs:List V)(as:List Ans)(R':Rows)(S':List Int),zA H H'->wK Rf.2 H'->Run [] [] es as R' S'->Bk.jU R'->H' l=some (.lst vs)->cXk (λv r=>xB H' r v) vs R'->Q (.ref l) H')
def Y8(t:wK T H)(k:xG H a):wK T a:=(aKQ.of k).2 t
def aJD.start(tb:wK T H)(s:H x=none)(j:H dx=none)(w:dx≠x)(q:l=upd (upd H dx (.own x)) x (.ins p dx []))(f:l la=none)(d:l sa=none)(n:la≠sa) (B:a x=some (.ins p dx [(B2,.ref la),(Aj,.ref sa)])) (E:a la=some (.lst [])) (A:a sa=some (.lst [])) (C:∀b,b≠x->b≠la->b≠sa->a b=l b):aJD H p CL T x [] [] a (own la sa [] [])/\xG H a:=by
 have m:∀b,l b=none->H b=none:=λb e=>by
  subst q;by_cases z:b=x
  ·rw[z];exact s
  ·rw[yJ z]at e;by_cases z2:b=dx
   ·rw[z2];exact j
   ·rw[yJ z2]at e;exact e
 have k:xG H a:=λb o e=>by have b1:=yI e s;have D:=yI e j;rw[C b b1 (yI e (m _ f)) (yI e (m _ d)),q,yJ b1,yJ D];exact e
 refine⟨⟨⟨la,sa,[],[],[],[],Cd,⟨⟨dx,B⟩,E,A,Cd,Cd,.nil,.nil,n,by simp,by simp,λi b c r e=>by simp at e⟩,⟨cQv _,cQv _,λr h=>by simp at h⟩,Bk.aVL,.nil⟩,Y8 tb k,k.t,λb g u _ z=>?_⟩,k⟩;have v:H b=none->False:=λy=>by rw[y]at z;cases z
 rcases cQz.mp g with e|g
 ·exact v (by rw[e];exact m _ f)
 rcases cQz.mp g with e|g
 ·exact v (by rw[e];exact m _ d)
 ·simp at g
def aJD.step(g:aJD D y CL T l m F H o)(hw:Wf e)(hz:m.length<60)(Y:H p=some (.tup (xA e))){Q:VK}(I:Rf.2=T) (q:∀ (a:Ans)(v:V)(h:Hp)(n:List Nat),aJD D y CL T l (m++ [e]) (F++ [a]) h n->qE n h a v->uV H v->aXg o H h->W7 H o n->Q v h):aZu Rf y CL [.ref l,.ref p] H Q E0:=by
 subst I;obtain⟨A,B,P,K,R,S,rfl,U,E,j,i⟩:=g.ex;refine⟨l,p,A,B,P,K,R,S,e,Cd,hw,Y,U,E.sz (by omega),j,g.tab,λa L M v h x s c r k C J G X=>?_⟩;refine q a v h _ ⟨⟨A,B,x,s,L,M,Cd,r,?_,Bk.xR.book j ?_ c,.snoc i c⟩,J,λb u f e=>k b u (λz=>g.new b z u f e) f (g.keep b u f e),λb W u f z0=>?_⟩ G X k C
 ·rw[cQL,cXx];exact E.done c
 ·intro O d w t N;subst N;exact hw
 ·rcases C b W with z|z
  ·exact g.new b z u f z0
  ·rw[g.keep b u f z0]at z;cases z
section
variable {K:cQq}
abbrev aQV:Stmt:=xI CP
abbrev aZk:Stmt:=xK Am BW
def wX{α β:Type}{F G:α->β->Prop}(h:∀a b,F a b->G a b):∀ {l:List α} {m:List β},cXk F l m->cXk G l m
 |_,_,.nil=> .nil
 |_,_,.cons r t=> .cons (h _ _ r) (wX h t)
def bQL:yN [AA] [AA] (yH aZk):=scM
def aYx:xP [AA] (yH aZk) AL [] [] (lsN [(".0",.local),(AL,.local)]):=
 lcM
def aYY(cl:Cl K CB CL)(d:MG P w K mg base CX0 n CL Bb [AA] (aVG CL))(F:Fun K BW "Book.standing_states" aZk f fd):xH P w K mg base CX0 (n+1) f fd [AA] (aWq CB CL):=by
 have sc:=bQL;refine F.ok (k:=n) sc (λa0 A outer s H vs Q E hr h=>?_);obtain⟨ba,la,sa,M,cs,R,S,rfl,N,hR,q⟩:=h;refine⟨_,(yG (yQ (aXr aYx rfl (xQ (y7 (pv 0) rfl)) (λ_ _ _ _ _=>vC) (λ_ _ _ _ _=>(aV3 (x8 (aQL (K:=K) (pv 0) rfl)) yP (bZo d hr v7 (pv 0))))))),?_⟩;obtain⟨dx,hb⟩:=N.book;have hl:(M.map V.ref).length=R.length:=by rw[cQt];exact N.len
 refine⟨_,Cd,ba,CB,dx,_,_,Cd,hb,cl.b,cl.letters,Cd,la,Cd,⟨_,Cb N.lst⟩,λD Z=>?_⟩;refine⟨λi m a G=>m=R.length - i/\i<=R.length/\xG H G/\G D=some (.lst a)/\cXk (λv r=>xB G r v) a (R.take i),⟨R.length,by simp,cXo _,yE Z _,yB,.nil⟩,?_⟩;rintro i m a G ⟨rfl,hi,T,x,L⟩;have o:=N.same T;refine⟨x,?_⟩;by_cases B:i<R.length
 ·have I:=cQn B;obtain⟨b,c,Y,g2,g3,⟨u,O⟩,g5⟩:=o.get I;refine .inr ⟨⟨M.map V.ref,.ref b,Cb o.lst,Y⟩,λv X yl=>?_⟩;obtain⟨rfl,y⟩:=yl;have J:(M.map V.ref)[i]? =some v:=y _ (Cb o.lst);rw[Y]at J;cases J;have U:R.take (i+1)=R.take i++ [R[i]]:=by rw[cXA,I];rfl
  have a1:a.length<=i:=by rw[L.length,cXS];omega
  refine⟨_,Cd,b,CL,u,_,_,Cd,O,cl.l,cl.void,Cd,_,Cd,?_⟩;have fin:∀ (v:V)(j:Hp),xG X j->xB j R[i] v->a.length<cQM/\j D=some (.lst a)/\∃m',m'<R.length - i/\(m'=R.length - (i+1)/\i+1<=R.length/\xG H (upd j D (.lst (a++ [v])))/\upd j D (.lst (a++ [v])) D=some (.lst (a++ [v]))/\cXk (λg r=>xB (upd j D (.lst (a++ [v]))) r g) (a++ [v]) (R.take (i+1))):=λv j W sv=>by
   have C:=W _ _ x;have tu:∀ (g:V)(r:Row),xB j r g->xB (upd j D (.lst (a++ [v]))) r g:=λg r h=>by
    unfold xB at h ⊢;split
    ·rename_i e;rw[if_pos e]at h;exact h
    ·rename_i e;rw[if_neg e]at h;obtain⟨p,e,q⟩:=h;exact⟨p,e,by rw[yJ (aXm q C (by intro z;cases z))];exact q⟩
   refine⟨by rw[cQQ];omega,C,R.length - (i+1),by omega,Cd,B,Law.aXe (T.trans W) Z,yB,?_⟩;rw[U];exact Law.aJc (F:=λg r=>xB (upd j D (.lst (a++ [v]))) r g) (tu _ _ sv) (wX (λg r (h:xB X r g)=>tu g r (h.same W.t)) L)
  cases J:R[i].void with
  |true=>exact onT rfl (fin _ _ (xG.refl _) (by unfold xB;rw[J];rfl))
  |false=>refine onF rfl ⟨_,Cd,b,u,_,Cd,O,Cd,b,i,_,c,Cd,⟨u,O⟩,λt ht=>?_⟩;exact fin _ _ (yE ht _) (by unfold xB;rw[J];exact⟨t,Cd,yB⟩)
 ·obtain rfl:i=R.length:=by omega
  rw[cXw]at L;exact .inl ⟨⟨M.map V.ref,Cb o.lst,by rw[hl];exact cQv _⟩,q D G a T x L⟩
def aVA:yN ["deeds",AQ,AR] ["deeds"] (yH aQV):=scM
def aJ9(d:MkG P w K mg base n Am CB [AA] (bQT CB))(c:FnG P w K mg base (n+1) "answer" [AQ,AR] (aZu Rf CB CL))(b:MG P w K mg base CX0 (n+1) CB BW [AA] (aWq CB CL)) (F:Fun K CP CP aQV f fd):xH P w K mg base CX0 (n+2) f fd ["deeds"] (vF Rf):=by
 have sc:=aVA;refine F.ok (k:=n+1) sc (λa5 A outer s H vs Q E U h=>?_);obtain⟨ds,j,m,rfl,u,a4,a0,tb,q⟩:=h;refine⟨_,(yC (yU (i:=1) (bKk d U rfl)) (yC (wM cXg rfl (xQ (pv 0)) (xF (i:=2)) (yG (y0 (xN c U rfl (yA (pv 1) (yA (pv 2) yD)))))) (yG (yQ (bZo b U v7 (pv 1)))))),?_⟩;intro x dx hx W I;refine⟨x,dx,Cd,yB,λla sa H1 Y O M h1 h2 h3 h4=>⟨rfl,?_⟩⟩;dsimp only[yW];obtain⟨g0,k0⟩:=aJD.start (CL:=CL) tb hx W I rfl Y O M h1 h2 h3 h4;have T:=u.same k0.t;have z:(j.map V.ref).length=m.length:=by rw[cQt];exact u.2.1
 refine⟨_,Cd,ds,Cd,⟨_,Cb T.1⟩,?_⟩;refine zZ (xs:=j.map V.ref) (λi σ C=>L2.Ez3 λ(D:Option V)(B:List Ans)(o:List Nat)=>σ= [some (.ref ds),some (.ref x),D]/\aJD H CB CL Rf.2 x (m.take i) B C o) ?_ ?_ ?_ ?_
 ·exact⟨none,[],_,Cd,g0⟩
 ·rintro i σ C hi ⟨D,B,o,rfl,g⟩;exact Cb (u.same g.keep).1
 ·rintro i v σ C L ⟨D,B,o,rfl,g⟩;have e:i<m.length:=by rw[<- z];exact(cQA.mp L).1
  have p:=cQn (show i<j.length by rw[u.2.1];exact e);have y:=cQn e;rw[cQJ,p]at L;cases L;have a3:=u.same g.keep;have G:m.take (i+1)=m.take i++ [m[i]]:=by rw[cXA,y];rfl
  dsimp only[yW];refine⟨_,Cd,_,Cd,?_⟩;refine g.step (a0 _ (cZG e)) (by rw[cXS];omega) (a3.2.2 i _ _ p y) rfl λa v H3 o' g3 av nv k3 gr=>?_;rw[<- G]at g3;exact⟨_,_,o',Cd,g3⟩
 ·rintro σ C ⟨D,B,o,rfl,g⟩;rw[z,cXw]at g;obtain⟨X,J,a2,a1,R,S,e1,e2,e3,e4,e5⟩:=g.ex;obtain⟨Z,hb⟩:=e2.book;refine⟨_,Cd,x,Z,_,Cd,hb,Cd,x,X,J,a2,a1,R,S,Cd,e2,by have:=e3.r;omega,λl H5 vs k5 N hP=>?_⟩;exact q l H5 vs B R S (g.keep.trans k5.t) (Y8 g.tab k5) e5 e4 N hP
end
end Desk
set_option tactic.hygienic false
namespace Law
open PySem L2 PyProof.Rows
open Bk (Row Rows xR zI Ans)
open Desk (xA qE uV Wf Up Run xU wX)
structure LGo(H0:Hp)(ra sa:Nat)(es:List zI)(as:List Ans)(H:Hp)(rs:List Nat):Prop where
 ex:∃ (R:Rows)(S:List Int),LBk H ra sa rs R S/\Up es.length R S/\Bk.jU R/\Run [] [] es as R S
 keep:xG H0 H
 newR:H0 ra=none
 newS:H0 sa=none
 newB:∀b∈rs,H0 b=none
def LGo.same(g:LGo h i sa c e H f)(k:xG H d):LGo h i sa c e d f:=
 ⟨let ⟨R,S,a,b⟩:=g.ex;⟨R,S,a.same k,b⟩,g.keep.trans k,g.newR,g.newS,g.newB⟩
def LGo.start(g:H a=none)(c:upd H a (.lst []) sa=none):LGo H a sa [] [] (upd (upd H a (.lst [])) sa (.lst [])) []:=by
 have e:=yE g (.lst []);have f:=yE c (.lst []);have ne:sa≠a:=λz=>by rw[z,yB]at c;cases c
 exact⟨⟨[],[],⟨⟨f _ _ yB,Cd,.nil,λi b r h=>by simp at h⟩,yB,ne,by simp,λb d=>by simp at d⟩,⟨cQv _,cQv _,λr h=>by simp at h⟩,Bk.aVL,.nil⟩,e.trans f,g,e.fresh c,λb d=>by simp at d⟩
def bWQ(q:LBk g j sa c s A)(m:∃b,H j=some (.lst b))(k:∃b,H sa=some (.lst b))(f:qE [] g a v)(t:uV H v):qE (sa::j::c) g a v:=by
 have no:∀p,v= .ref p->(∀r d,g p≠some (.lst (uR r d)))->p∉sa::j::c:=λp e n z=>by
  rcases cQz.mp z with z|z
  ·obtain⟨b,h⟩:=k;exact t p e (.lst b) (by intro _ y;cases y) (by rw[z];exact h)
  rcases cQz.mp z with z|z
  ·obtain⟨b,h⟩:=m;exact t p e (.lst b) (by intro _ y;cases y) (by rw[z];exact h)
  ·obtain⟨i,o,w⟩:=cXe z;obtain⟨d,u,_⟩:=q.book.row i p _ (by rw[cQn o,w]) (cQn (show i<s.length by rw[<- q.book.len];exact o));exact n _ d u
 cases a with
 |num n=>exact f
 |txt x=>exact f
 |nums l=>obtain⟨p,e,_,h⟩:=f;exact⟨p,e,no p e λr d z=>by rw[h]at z;exact aQP (cQI z).symm,h⟩
 |txts l=>obtain⟨p,e,_,h⟩:=f;exact⟨p,e,no p e λr d z=>by rw[h]at z;exact qL (cQI z).symm,h⟩
 |row r=>obtain⟨p,e,_,h⟩:=f;exact⟨p,e,no p e λr d z=>(by rw[h]at z;cases z),h⟩
def LGo.step(g:LGo D j sa p E H B)(hw:Wf e)(hz:p.length<60)(O:H u=some (.tup (xA e))){Q:VK} (q:∀ (a:Ans)(v:V)(i:Hp)(f:List Nat),LGo D j sa (p++ [e]) (E++ [a]) i f->aZz j sa B f H i->qE (sa::j::f) i a v->uV H v->Q v i):aXL [.ref j,.ref sa,.ref u] H Q E0:=by
 obtain⟨R,S,y,n,l,k⟩:=g.ex;refine⟨j,sa,u,B,R,S,e,Cd,O,hw,y,by have:=n.r;omega,by have:=n.s;omega,l,λr J=>by have:=n.c r J;omega,λi a v I K f A m C G F=>?_⟩;refine q a v i f ⟨⟨I,K,m,?_,Bk.xR.book l ?_ C,.snoc k C⟩,λx o h=>?_,g.newR,g.newS,λb N=>?_⟩ A (bWQ m ⟨_,y.book.lst⟩ ⟨_,y.shut⟩ G F) F
 ·rw[cQL,cXx];exact n.done C
 ·intro M d w t L;subst L;exact hw
 ·exact A.1 x o (yI h g.newS) (yI h g.newR) (λz=>by rw[g.newB x z]at h;cases h) (g.keep _ _ h)
 ·rcases A.2.1 b N with z|z
  ·exact g.newB b z
  ·exact g.keep.fresh z
structure aWz(H0:Hp)(ra sa:Nat)(H:Hp)(rs:List Nat)(D:Nat)(xs:List V):Prop where
 at_:H D=some (.lst xs)
 new:H0 D=none
 nr:D≠ra
 ns:D≠sa
 nb:D∉rs
 nc:NoC rs H D
def aWz.step(h:aWz e b sa H d D xs)(st:aZz b sa d a H c):aWz e b sa c a D xs:=
 ⟨st.1 D _ h.ns h.nr h.nb h.at_,h.new,h.nr,h.ns,λz=>(st.2.1 D z).elim h.nb (λy=>by have:=h.at_;rw[y]at this;cases this),st.2.2 D _ h.at_ h.nc⟩
def aWz.same(h:aWz d e sa H a D xs)(f:∀b∈a,∃o,H b=some o)(k:xG H c):aWz d e sa c a D xs:=
 ⟨k _ _ h.at_,h.new,h.nr,h.ns,h.nb,(But.of f k).2.2 D _ h.at_ h.nc⟩
def LGo.dom(g:LGo e f sa c d H a):∀b∈a,∃o,H b=some o:=let ⟨R,S,h,_⟩:=g.ex;h.book.dom
def LGo.write{t:List Ans}{k:List Nat}(g:LGo m n sa q t H k)(h:aWz m n sa H k D xs)(ys:List V):LGo m n sa q t (upd H D (.lst ys)) k/\aWz m n sa (upd H D (.lst ys)) k D ys:=by
 obtain⟨R,S,c,y,p,f⟩:=g.ex;have nb:∀b∈k,b≠D:=λb a z=>h.nb (by rw[<- z];exact a);refine⟨⟨⟨R,S,⟨⟨by rw[yJ (cQ6 h.nr)];exact c.book.lst,c.book.len,c.book.nd,λi b r a w=>?_⟩,by rw[yJ (cQ6 h.ns)];exact c.shut,c.ne,c.no,λb a l d=>c.noC b a l (by rw[yJ (nb b a)]at d;exact d)⟩,y,p,f⟩,λx o e=>?_,g.newR,g.newS,g.newB⟩,yB,h.new,h.nr,h.ns,h.nb,λb a l d=>h.nc b a l (by rw[yJ (nb b a)]at d;exact d)⟩
 ·obtain⟨u,s,v⟩:=c.book.row i b r a w;have j:=cQH a;exact⟨u,by rw[yJ (nb b j)];exact s,by rw[yJ (λz=>h.nc b j _ s (by rw[<- z];rfl))];exact v⟩
 ·rw[yJ (yI e h.new)];exact g.keep _ _ e
def aWz.write(h:aWz e f sa H a D xs)(ne:D≠E)(g:E∉a)(u:HO):aWz e f sa (upd H E u) a D xs:=
 ⟨by rw[yJ ne];exact h.at_,h.new,h.nr,h.ns,h.nb,λb d l c=>h.nc b d l (by rw[yJ (λz=>g (by rw[<- z];exact d))]at c;exact c)⟩
end Law
namespace Bk
open PySem (Str)
def bVc{R:Rows}{k:Nat}{r:Row}(b:R[k]? =some r)(a:r.void=false):vA R (k:Int)=true:=by
 unfold vA;rw[cQV,b];simp[a]
def one(R:Rows)(S:List Int)(m:Int)(f:Nat->Row->Ans×Rows×List Int):Ans×Rows×List Int:=if vA R m=false then(.txt "no letter",R,S)else match R[m.toNat]? with
 |some r=>f m.toNat r
 |none=>(.txt "no letter",R,S)
def bKg{R:Rows}{f:Nat->Row->Ans×Rows×List Int}(h:vA R m=false):one R S m f=(.txt "no letter",R,S):=if_pos h
def z7{R:Rows}{k:Nat}{r:Row}(b:R[k]? =some r)(a:r.void=false):¬vA R (k:Int)=false:=by rw[bVc b a];exact Bool.noConfusion
def x6{R:Rows}{S:List Int}{k:Nat}{r:Row}{f:Nat->Row->Ans×Rows×List Int}(a:R[k]? =some r)(b:r.void=false):one R S (k:Int) f=f k r:=(if_neg (z7 a b)).trans (by rw[cQV,a])
open Classical in
noncomputable def out (R:Rows) (S:List Int):zI->Ans×Rows×List Int
 |.enter e d b t=>if t<0 then(.txt "no term",R,S)else(.num R.length,R++ [⟨e,d,b,t,none,"",false,[]⟩],S)
 |.reply m d t=>if vA R m=false then(.txt "no letter",R,S)else if t<0 then(.txt "no term",R,S)else one R S m λk r=>if d<r.date then(.txt "too early",R,S)else(.num R.length,R++ [⟨v6 r.way,d,r.partner,t,some k,r.place,false,[]⟩],S)
 |.hang m o=>if vA R m=false\/vA R o=false then(.txt "no letter",R,S)else one R S m λi r=>one R S o λj q=>if r.link≠none then(.txt "has one",R,S)else if(thr R j).head? =some i then(.txt "own thread",R,S)else
   if r.way=q.way then(.txt "same way",R,S)else if r.partner≠q.partner then(.txt "other partner",R,S)else if r.date<q.date then(.txt "too early",R,S)else(.txt "hung",xD (laid R (thr R i) q.place) i λr=>{r with link:=some j},S)
 |.loose m=>one R S m λk r=>if r.link=none then(.txt "has none",R,S)else(.txt BN,xD R k λr=>{r with link:=none},S)
 |.date m d=>one R S m λk r=>if(∃j,r.link=some j/\d<dt R j)\/∃c∈zU R k,dt R c<d then(.txt "too early",R,S)else(.txt "dated",xD R k λr=>{r with date:=d},S)
 |.term m t=>one R S m λk r=>if t<0 then(.txt "no term",R,S)else(.txt B6,xD R k λr=>{r with term:=t},S)
 |.copy m w=>one R S m λk r=>if w=r.partner\/w∈r.copies then(.txt CU,R,S)else(.num (r.copies.length+1),xD R k λr=>{r with copies:=r.copies++ [w] },S)
 |.file m w=>one R S m λk _=>(.num (thr R k).length,laid R (thr R k) w,S)
 |.void m=>one R S m λk r=>if zU R k= []then(.txt AW,xD R k λr=>{r with link:=none,void:=true},S)else(.txt B4,R,S)
 |.shut d=>if Dm.cts S d=true then(.txt Aj,R,S++ [d])else(.txt "counts not",R,S)
 |.state m=>one R S m λ_ r=>(.row r,R,S)
 |.thread m=>one R S m λk _=>(.nums (thr R k),R,S)
 |.copies m=>one R S m λ_ r=>(.txts r.copies,R,S)
 |.letters w=>(.nums ((cQy R.length).filter λk=>match R[k]? with|some r=> !r.void && decide (r.place=w)|none=>false),R,S)
 |.on a d=>if h:∃l,bXh R S d a l then(.nums (choose h),R,S)else(.nums [],R,S)
def xR.out{R r:Rows}{S s:List Int}{e:zI}{a:Ans}(h:xR R S e a r s):out R S e=(a,r,s):=by
 cases h with
 |enter h=>exact if_neg (cZH.mpr h)
 |enterT h=>exact if_pos h
 |replyN h=>exact if_pos h
 |replyT h o=>exact(if_neg (by rw[h];exact Bool.noConfusion)).trans (if_pos o)
 |replyE f h o q=>exact(if_neg (z7 f h)).trans ((if_neg (cZH.mpr o)).trans ((x6 f h).trans (if_pos q)))
 |reply f h o q=>exact(if_neg (z7 f h)).trans ((if_neg (cZH.mpr o)).trans ((x6 f h).trans (if_neg (cZH.mpr q))))
 |hangN h=>exact if_pos h
 |hangH g d i hw h=>exact(if_neg (not_or.mpr ⟨z7 g d,z7 i hw⟩)).trans ((x6 g d).trans ((x6 i hw).trans (if_pos h)))
 |hangO g d i hw h m=>exact(if_neg (not_or.mpr ⟨z7 g d,z7 i hw⟩)).trans ((x6 g d).trans ((x6 i hw).trans ((if_neg (not_not_intro h)).trans (if_pos m))))
 |hangW g d i hw h m k=>exact(if_neg (not_or.mpr ⟨z7 g d,z7 i hw⟩)).trans ((x6 g d).trans ((x6 i hw).trans ((if_neg (not_not_intro h)).trans ((if_neg m).trans (if_pos k)))))
 |hangP g d i hw h m k n=>exact(if_neg (not_or.mpr ⟨z7 g d,z7 i hw⟩)).trans ((x6 g d).trans ((x6 i hw).trans ((if_neg (not_not_intro h)).trans ((if_neg m).trans ((if_neg k).trans (if_pos n))))))
 |hangE g d i hw h m k n p=>exact(if_neg (not_or.mpr ⟨z7 g d,z7 i hw⟩)).trans ((x6 g d).trans ((x6 i hw).trans ((if_neg (not_not_intro h)).trans ((if_neg m).trans ((if_neg k).trans ((if_neg (not_not_intro n)).trans (if_pos p)))))))
 |hang g d i hw h m k n p=>exact(if_neg (not_or.mpr ⟨z7 g d,z7 i hw⟩)).trans ((x6 g d).trans ((x6 i hw).trans ((if_neg (not_not_intro h)).trans ((if_neg m).trans ((if_neg k).trans ((if_neg (not_not_intro n)).trans (if_neg (cZH.mpr p))))))))
 |oneN h t=>rcases t with rfl|⟨_,rfl⟩|⟨_,rfl⟩|⟨_,rfl⟩|⟨_,rfl⟩|rfl|rfl|rfl|rfl<;> (unfold Bk.out;exact bKg h)
 |looseN f d h=>unfold Bk.out;exact(x6 f d).trans (if_pos h)
 |loose f d h=>unfold Bk.out;exact(x6 f d).trans (if_neg h)
 |dateE f d h=>unfold Bk.out;exact(x6 f d).trans (if_pos h)
 |date f d k n=>unfold Bk.out;exact(x6 f d).trans (if_neg (not_or.mpr ⟨λ⟨j,a,b⟩=>absurd (k j a) (Int.not_le.mpr b),λ⟨c,a,b⟩=>absurd (n c a) (Int.not_le.mpr b)⟩))
 |termN f d h=>unfold Bk.out;exact(x6 f d).trans (if_pos h)
 |term f d h=>unfold Bk.out;exact(x6 f d).trans (if_neg (cZH.mpr h))
 |copyC f d h=>unfold Bk.out;exact(x6 f d).trans (if_pos h)
 |copy f d h n=>unfold Bk.out;exact(x6 f d).trans (if_neg (not_or.mpr ⟨h,n⟩))
 |file f d=>unfold Bk.out;exact x6 f d
 |voidA f d h=>unfold Bk.out;exact(x6 f d).trans (if_neg h)
 |void f d h=>unfold Bk.out;exact(x6 f d).trans (if_pos h)
 |shutN h=>exact if_neg (by rw[h];exact Bool.noConfusion)
 |shut h=>exact if_pos h
 |state f d=>unfold Bk.out;exact x6 f d
 |thread f d=>unfold Bk.out;exact x6 f d
 |copies f d=>unfold Bk.out;exact x6 f d
 |letters=>rfl
 |on h=>exact(dif_pos ⟨_,h⟩).trans (by rw[(cVa (⟨_,h⟩:∃l,bXh R S _ _ l)).uniq h])
def xR.det{R f R2:Rows}(j:c=e)(h:xR R S e a f g)(i:xR R S c d R2 b):a=d/\f=R2/\g=b:=by
 subst j;have q:=h.out.symm.trans i.out;exact⟨congrArg (·.1) q,congrArg (·.2.1) q,congrArg (·.2.2) q⟩
end Bk
namespace Desk
open Bk (Row Rows xR zI Ans)
def Run.inv{R b:Rows}{bs:List Ans}(h:Run R S l bs b c):(l= []/\bs= []/\b=R/\c=S)\/∃f e g a i j,l=f++ [e]/\bs=g++ [a]/\Run R S f g i j/\xR i j e a b c:=by
 cases h with
 |nil=>exact .inl ⟨rfl,Cd,Cd,rfl⟩
 |snoc h d=>exact .inr ⟨_,_,_,_,_,_,Cd,Cd,h,d⟩
def Run.det{R:Rows}{S:List Int}:∀ (n:Nat) {b:List zI} {j bs:List Ans} {c R2:Rows} {f i:List Int},b.length=n->Run R S b j c f->Run R S b bs R2 i->j=bs/\c=R2/\f=i
 |0,b,j,bs,c,R2,f,i,hn,h,h2=>by
  rcases h.inv with⟨rfl,rfl,rfl,rfl⟩|⟨_,_,_,_,_,_,rfl,_⟩
  ·rcases h2.inv with⟨_,rfl,rfl,rfl⟩|⟨u,q,_,_,_,_,z,_⟩
   ·exact⟨rfl,Cd,rfl⟩
   ·exact absurd (congrArg cZs z) (by simp)
  ·simp at hn
 |n+1,b,j,bs,c,R2,f,i,hn,h,h2=>by
  rcases h.inv with⟨rfl,_⟩|⟨s,e,k,a,w,x,rfl,rfl,g,d⟩
  ·simp at hn
  ·rcases h2.inv with⟨z,_⟩|⟨p,q,r,v,t,o,z,rfl,l,m⟩
   ·exact absurd (congrArg cZs z) (by simp)
   ·obtain⟨rfl,z2⟩:=cJ6 z rfl;cases z2;obtain⟨rfl,rfl,rfl⟩:=Run.det n (by simpa using hn) g l;obtain⟨rfl,rfl,rfl⟩:=Bk.xR.det rfl d m;exact⟨rfl,Cd,rfl⟩
end Desk
namespace Law
open PySem L2 PyProof.Rows
open Bk (Row Rows xR zI Ans)
open Desk (xA qE uV Wf Up Run xU wX)
def aQc(h:qE o H a v)(k:∀p u,p∉o->H p=some u->p∉c/\b p=some u):qE c b a v:=by
 cases a with
 |num n=>exact h
 |txt x=>exact h
 |nums l=>obtain⟨p,e,n,q⟩:=h;exact⟨p,e,k p _ n q⟩
 |txts l=>obtain⟨p,e,n,q⟩:=h;exact⟨p,e,k p _ n q⟩
 |row r=>obtain⟨p,e,n,q⟩:=h;exact⟨p,e,k p _ n q⟩
structure Mid(H0:Hp)(ra sa ds us:Nat)(es:List zI)(das:List Nat)(i:Nat)(H:Hp):Prop where
 ne:ds≠us
 wf:∀e∈es,Wf e
 len:das.length=es.length
 at_:∀ (j:Nat)(d:Nat)(e:zI),das[j]? =some d->es[j]? =some e->H d=some (.tup (xA e))
 ex:∃ (rs:List Nat)(as:List Ans)(vs:List V),LGo H0 ra sa (es.take i) as H rs/\aWz H0 ra sa H rs ds (das.map V.ref)/\aWz H0 ra sa H rs us vs/\cXk (λv a=>qE (us::ds::sa::ra::rs) H a v) vs as
def Mid.same(m:Mid h l sa ds us c b i H)(k:xG H f):Mid h l sa ds us c b i f:=by
 obtain⟨t,s,x,g,r,o,p⟩:=m.ex;exact⟨m.ne,m.wf,m.len,λj d e q w=>k _ _ (m.at_ j d e q w),t,s,x,g.same k,r.same g.dom k,o.same g.dom k,wX (λv a z=>aQc z λp u n e=>⟨n,k _ _ e⟩) p⟩
def Mid.keep(m:Mid b d sa ds us c a i H):xG b H:=let ⟨rs,as,vs,g,_⟩:=m.ex;g.keep
def Mid.push(m:Mid s A sa ds us c b i H)(r:i=c.length)(F:H d=some (.tup (xA e)))(hw:Wf e):Mid s A sa ds us (c++ [e]) (b++ [d]) i (upd H ds (.lst ((b++ [d]).map V.ref))):=by
 obtain⟨D,C,E,g,q,B,p⟩:=m.ex;have w:=g.write q ((b++ [d]).map V.ref);have tk:∀ {x ys},H x=some (.tup ys)->upd H ds (.lst ((b++ [d]).map V.ref)) x=some (.tup ys):=λ{x ys} h=>by rw[yJ (λz=>by rw[z,q.at_]at h;cases h)];exact h
 refine⟨m.ne,λx f=>?_,by simp[m.len],λj x y l k=>?_,D,C,E,?_,w.2,B.write (cQ6 m.ne) q.nb _,wX (λv a z=>aQc z λp u n h=>⟨n,?_⟩) p⟩
 ·rcases cQY.mp f with f|f
  ·exact m.wf x f
  ·rw[cQD.mp f];exact hw
 ·by_cases t:j<c.length
  ·rw[cQ0 (by rw[m.len];exact t)]at l;rw[cQ0 t]at k;exact tk (m.at_ j x y l k)
  ·have o:j=c.length:=by
    have:=(cQA.mp k).1;simp at this;omega
   subst o;rw[cQK (by rw[m.len];exact cQv _),m.len,cXH]at l;rw[cQK (cQv _),cXH]at k;cases l;cases k;exact tk F
 ·rw[r,List.take_left' rfl];have:=w.1;rw[r,cXw]at this;exact this
 ·rw[yJ (λz=>n (by rw[z];exact cQB _ cQG))];exact h
def Mid.next(m:Mid P f sa ds us o c i H)(hz:i<60)(hd:c[i]? =some d)(D:o[i]? =some e){Q:VK} (q:∀ (v:V)(b:Hp)(vs:List V),H us=some (.lst vs)->b us=some (.lst vs)->vs.length=i->Mid P f sa ds us o c (i+1) (upd b us (.lst (vs++ [v])))->Q v b):aXL [.ref f,.ref sa,.ref d] H Q E0:=by
 obtain⟨U,as,vs,g,T,G,p⟩:=m.ex;have Y:i<o.length:=(cQA.mp D).1;have C:(o.take i).length=i:=by rw[cXS];omega
 have J:vs.length=i:=by obtain⟨R,S,_,_,_,hr⟩:=g.ex;rw[cZS p,<- hr.len,C]
 have hw:Wf e:=m.wf e (cQH D);refine g.step hw (by rw[C];exact hz) (m.at_ i d e hd D) λa v b k g2 t s X=>?_;have t1:=T.step t;have F:=G.step t;refine q v b vs G.at_ F.at_ J ?_;have w:=g2.write F (vs++ [v]);obtain⟨R,S,I,_⟩:=g.ex;have tk:∀ {x ys},H x=some (.tup ys)->upd b us (.lst (vs++ [v])) x=some (.tup ys):=λ{x ys} h=>by
  have E:x≠sa:=λz=>by rw[z,I.shut]at h;cases h
  have M:x≠f:=λz=>by rw[z,I.book.lst]at h;cases h
  have A:=t.1 x _ E M (I.book.tupNo h) h;rw[yJ (λz=>by rw[z,F.at_]at A;cases A)];exact A
 have o2:∀p u,p∉us::ds::sa::f::U->H p=some u->p∉us::ds::sa::f::k/\upd b us (.lst (vs++ [v])) p=some u:=λp u n h=>by
  have E:p≠us:=λz=>n (by rw[z];exact cQG);have M:p≠ds:=λz=>n (by rw[z];simp);have W:p≠sa:=λz=>n (by rw[z];simp);have O:p≠f:=λz=>n (by rw[z];simp);have N:p∉U:=λz=>n (by simp[z]);refine⟨λz=>?_,by rw[yJ E];exact t.1 p u W O N h⟩;simp only[cQz,E,M,W,O,false_or]at z;rcases t.2.1 p z with y|y
  ·exact N y
  ·rw[h]at y;cases y
 have et:o.take (i+1)=o.take i++ [e]:=by rw[cXA,D];rfl
 refine⟨m.ne,m.wf,m.len,λj x y Z A=>tk (m.at_ j x y Z A),k,as++ [a],vs++ [v],by rw[et];exact w.1,t1.write m.ne F.nb _,w.2,?_⟩;refine Paired.snoc (wX (λv a z=>aQc z o2) p) ?_;have B:∀x,v= .ref x->x≠us:=λx ex z=>X x ex (.lst vs) (by intro _ y;cases y) (by rw[z];exact G.at_);have L:∀x,v= .ref x->x≠ds:=λx ex z=>X x ex (.lst (c.map V.ref)) (by intro _ y;cases y) (by rw[z];exact T.at_);have K:∀x u,v= .ref x->x∉sa::f::k->b x=some u->x∉us::ds::sa::f::k/\upd b us (.lst (vs++ [v])) x=some u:=λx u ex n h=>
  ⟨λz=>(cQz.mp z).elim (B x ex) λz=>(cQz.mp z).elim (L x ex) n,by rw[yJ (B x ex)];exact h⟩
 cases a with
 |num n=>exact s
 |txt x=>exact s
 |nums l=>obtain⟨x,ex,n,h⟩:=s;exact⟨x,ex,K x _ ex n h⟩
 |txts l=>obtain⟨x,ex,n,h⟩:=s;exact⟨x,ex,K x _ ex n h⟩
 |row r=>obtain⟨x,ex,n,h⟩:=s;exact⟨x,ex,K x _ ex n h⟩
end Law
set_option tactic.hygienic true
namespace Law
open PySem L2 PyProof.Rows
open Bk (Row Rows xR zI Ans)
open Desk (xA qE uV Wf vB stV)
def aZQ(a:Array Nat):∀ (m:Nat)(b:Array Nat),((cXc m a).foldl (·++·) b).size=b.size+m*a.size
 |0,b=>by simp
 |m+1,b=>by rw[cZF,List.foldl_cons,aZQ a m,Array.size_append,Nat.succ_mul];omega
def bVq(b:x.length<=1)(d:n<=100):(Txt.mul x n).length<=100:=by
 unfold Txt.mul;split
 ·decide
 ·split
  ·omega
  ·rename_i c _;show((cXc n.toNat x.cps).foldl (·++·) #[]).size<=100;rw[aZQ];have a:x.cps.size<=1:=b;have e:n.toNat*x.cps.size<=n.toNat*1:=Nat.mul_le_mul_left _ a;have f:(#[]:Array Nat).size=0:=rfl;omega
inductive bZj(x:V)(y:V)(H:Hp)(Q:VK):Prop|mk(i n)(_:x= .str i)(_:y= .int n)(_:i.length<=1)(_:0<=n)(_:n<=100)(_:∀z:Str,z.length<=100->Q (.str z) H)
def aQI:OpR X (cZT .Mult) bZj:=by
 intro b s σ H x y v u Q I d g h;obtain⟨i,n,rfl,rfl,a,j,c,q⟩:=h;obtain⟨t,rfl⟩:=d;obtain⟨e,rfl⟩:=g;refine SB.mul ⟨?_,λf _=>?_,λf _=>?_⟩ λe k=>⟨.str (Txt.mul i n),H,I.tok _,⟨_,rfl⟩,q _ (bVq a c)⟩
 ·rw[decide_eq_false (by omega),decide_eq_false (by omega)];rfl
 ·have:(1:Int)<=(2 ^ 63 - 1) / n:=Int.le_ediv_of_mul_le (by omega) (by omega);omega
 ·have:i.length*n.toNat<=1*n.toNat:=Nat.mul_le_mul_right _ a;unfold Builtin.Str.tooLong;simp only[decide_eq_false_iff_not,cQQ];omega
def bJm(h:0<l.length)(x:Int):∃v∈l,atI l (x % (l.length:Nat))=some v:=by
 have c:=Int.emod_nonneg x (show((l.length:Nat):Int)≠0 by omega);have d:=Int.emod_lt_of_pos x (show(0:Int)<((l.length:Nat):Int) by omega);obtain⟨k,b⟩:∃k:Nat,x % (l.length:Nat)=(k:Int):=⟨(x % (l.length:Nat)).toNat,by omega⟩;have a:k<l.length:=by omega
 refine⟨l[k],cZG a,?_⟩;rw[b];exact yR (cQn a)
def X6(h:a≠ [])(x:Int):∃n,atI (a.map V.int) (x % ((a.map V.int).length:Nat))=some (.int n):=by
 obtain⟨v,b,e⟩:=bJm (l:=a.map V.int) (by rw[cQt];exact cXy.mpr h) x;obtain⟨n,_,rfl⟩:=cXt.mp b;exact⟨n,e⟩
def aJH(h:l≠ [])(x:Int):∃n,atI (l.map λi=>V.int (i:Nat)) (x % ((l.map λi=>V.int (i:Nat)).length:Nat))=some (.int n):=by
 obtain⟨v,a,e⟩:=bJm (l:=l.map λi=>V.int (i:Nat)) (by rw[cQt];exact cXy.mpr h) x;obtain⟨n,_,rfl⟩:=cXt.mp a;exact⟨n,e⟩
inductive vS(H:Hp)(v:V):Prop|mk(p e)(_:v= .ref p)(_:H p=some (.tup (xA e)))(_:Wf e)
def vS.same(h:vS H v)(k:xG H d):vS d v:=let ⟨p,e,a,b,c⟩:=h;⟨p,e,a,k _ _ b,c⟩
abbrev aQf:Stmt:=xI BS
inductive aJt(vs:List V)(H:Hp)(Q:VK)(_:XK):Prop|mk(ra ca:Nat)(rs:List Nat)(R:Rows)(ns:List Int)(k:Nat)(m:Int)(_:vs= [.ref ra,.ref ca,.int (k:Nat),.int m])(_:xC H ra rs R)(_:R.length<=60)(_:H ca=some (.lst (ns.map V.int)))(_:ns≠ [])(_:∀ (H':Hp)(v:V),xG H H'->vS H' v->Q v H')
section
variable {K:cQq}
def aKC:yN [A0,AM,AI,A1,Bg,C0,"_law_free",BC,"_law_fits",CM,Ar] [A0,AM,AI,A1] (yH aQf):=scM
def aWY:xP [A0,AM,AI,A1,Bg,C0,"_law_free",BC,"_law_fits",CM,Ar] (yH aQf) CM [A0] [0] (lsN [(".0",.local),(CM,.local),(A0,.free)]):=
 lcM
def aKh(T:vQ mg)(a6:mg As=none)(N:FnG P w K mg base 1 Ai [A0,A1] Q7)(F:Fun K BS BS aQf f fd):xH P w K mg base CX0 2 f fd [A0,AM,AI,A1] aJt:=by
 have sc:=aKC;refine F.ok (k:=1) sc (λa8 A outer s H vs Q E hr h=>?_);obtain⟨v,ca,rs,R,ns,k,m,rfl,hB,hR,hc,W,q⟩:=h;refine⟨_,(yC (yU (i:=4) (yL yK (pv 1) (yV y3 (yV zC (pv 2) yF) (yS yO rfl T.b_len xE (yA (pv 1) yD))))) (yC (yU (i:=5) (yL yK (pv 1) (yV y3 (yV zC (pv 2) yF) (yS yO rfl T.b_len xE (yA (pv 1) yD))))) (yC (aXs (i:=6) aWY rfl sc.nd rfl rfl (zP rfl T.b_range (yA (yS yO rfl T.b_len xE (yA (pv 0) yD)) yD)) (λ_ _ _ _ _=>(wG (yM aXF (yL ixK (yL ixK (pv 1) (pv 0)) yF) x3))) (λ_ _ _ _ _=>(pv 0))) (yC (y6 (PW.pt (uA (yM (wR hr.units0) (pv 6) (yZ yD)) (vM (yM aXq (yV y3 (pv 4) yF) yF)))) (yG (yU (i:=3) (yL yK (pv 6) (yV y3 (pv 5) (yS yO rfl T.b_len xE (yA (pv 6) yD)))))) yT) (yC (yU (i:=7) (yV w6 (yV y3 (yV zC (pv 4) (pv 2)) (yV zC (yS yO rfl T.b_len xE (yA (pv 0) yD)) yF)) (xW wT rfl a6 uO (yA (zO zK (yV y3 (pv 4) yF) yF) yD)))) (yC (yU (i:=8) (yZ yD)) (yC (wM cXg rfl (zP rfl T.b_range (yA (yS yO rfl T.b_len xE (yA (pv 0) yD)) yD)) (xF (i:=9)) (yG (y6 (PW.pt (uA (x8 (xN N hr rfl (yA (pv 0) (yA (pv 3) yD)))) (vM (yM Y1 (yL yK (yL yK (pv 0) (pv 9)) yF) (yL yK (yL yK (pv 0) (pv 3)) yF))))) (yC (yU (i:=10) (yL yK (pv 0) (pv 9))) (yG (y6 (PW.pt (uA (yM zK (yL yK (pv 10) yF) (yL yK (yL yK (pv 0) (pv 3)) yF)) (vM (yM aY1 (yL yK (pv 10) yF) (yL yK (yL yK (pv 0) (pv 3)) yF))))) (yG (y0 (v8 cQU cQ3 cQ4 xL (pv 8) (yA (pv 9) yD)))) yT))) yT))) (yC (y6 (PW.pt (uA (yM (wR hr.units0) (pv 8) (yZ yD)) (vM (yM aXq (yV y3 (pv 4) yF) yF)))) (yG (yU (i:=7) (yL yK (pv 8) (yV y3 (yV zC (yV Z2 (pv 4) yF) (pv 2)) (yS yO rfl T.b_len xE (yA (pv 8) yD)))))) yT) (yG (yQ (y8 (yA yP (yA (pv 3) (yA (pv 7) yD)))))))))))))),?_⟩;have hl:(rs.map V.ref).length=R.length:=by rw[cQt];exact hB.len
 have S:(0:Int)<((ns.map V.int).length:Nat):=by rw[cQt];have:=cXy.mpr W;omega
 obtain⟨g,Y⟩:=X6 W ((k:Nat)+1);obtain⟨O,a4⟩:=X6 W ((k:Nat)+2);refine⟨_,Cd,_,Cd,_,_,Cd,Cd,_,Cd,ca,_,Cd,.inl (Cb hc),_,_,Cd,Cd,S,ca,_,_,_,Cd,Cd,Cb hc,Y,?_⟩;dsimp only[yW];refine⟨_,Cd,_,Cd,_,_,Cd,Cd,_,Cd,ca,_,Cd,.inl (Cb hc),_,_,Cd,Cd,S,ca,_,_,_,Cd,Cd,Cb hc,a4,?_⟩;dsimp only[yW];refine⟨_,Cd,v,_,Cd,.inl (Cb hB.lst),?_⟩;rw[hl];refine⟨_,Cd,by omega,by omega,λD hD=>?_⟩;rw[cQV];refine qY (λj=>decide (zN (Bk.lk R j)=V.non)) (λk=>V.int (k:Nat)) hD (by rw[cQQ];omega) (λj hj H' R' hH J=>?_) (λk hk _ H' R' hH J=>⟨_,Cd,J⟩) ?_
 ·have M:=cQn hj;obtain⟨b,g1,g2,cp,g3,g4⟩:=hB.get M;have a7:H' v=some (.lst (rs.map V.ref)):=by rw[hH v (yI hB.lst hD)];exact hB.lst
  have hb:H' b=_:=(hH b (yI g3 hD)).trans g3;rw[Bk.wN M]at J;exact⟨_,Cd,_,Cd,v,_,_,_,Cd,Cd,Cb a7,yR g1,b,_,4,_,Cd,Cd,Cb hb,Cd,Cd,_,Cd,J⟩
 generalize a9:(cQy R.length).filter (λj=>decide (zN (Bk.lk R j)=V.non))=free;have k1:=yE hD (.lst (free.map λi=>V.int (i:Nat)));have a1:upd H D (.lst (free.map λi=>V.int (i:Nat))) D=some (.lst (free.map λi=>V.int (i:Nat))):=yB;generalize upd H D (.lst (free.map λi=>V.int (i:Nat)))=H1 at k1 a1 ⊢;dsimp only[yW];refine x9 (λC H'=>∃m':Int,C= [some (.ref v),some (.ref ca),some (.int (k:Nat)),some (.int m'),some (.int g),some (.int O),some (.ref D),none,none,none,none]/\xG H H') ?jX (λd=>?_);case jX=>
  rintro C H2 ⟨m',rfl,k2⟩;have a5:=hB.same k2;refine⟨_,Cd,_,Cd,_,_,Cd,Cd,_,Cd,v,_,Cd,.inl (Cb a5.lst),_,_,Cd,Cd,_,_,Cd,Cd,(show(0:Int)<(((rs.map V.ref).length:Nat):Int)+1 by omega),_,Cd,_,_,Cd,Cd,(show(0:Int)<11 by decide),Cd,.inr ⟨_,Cd,_,_,Cd,Cd,?_⟩⟩;dsimp only[yW];refine⟨z0,λU a0=>?_⟩;dsimp only[yW];refine⟨_,Cd,v,_,Cd,.inl (Cb ((yE a0 (.lst [])) _ _ a5.lst)),?_⟩;rw[hl];refine⟨_,Cd,by omega,by omega,?_⟩;rw[cQV];have a2:H U=none:=k2.fresh a0;generalize ((g+(k:Nat)) % ((R.length:Nat)+1) - if decide (V.int (g % 11)=V.int 5)=true then 1 else 0)=goal;refine wV (λt σ H3=>L2.Ez3 λ(a:List Nat)(o9 L:Option V)=>σ= [some (.ref v),some (.ref ca),some (.int (k:Nat)),some (.int m'),some (.int g),some (.int O),some (.ref D),some (.int goal),some (.ref U),o9,L]/\xG H H3/\H3 U=some (.lst (a.map λi=>V.int (i:Nat)))/\a.length<=t) ?_ ?_ ?_
  ·exact⟨[],none,none,Cd,k2.trans (yE a0 _),yB,cQv _⟩
  ·rintro j σ H3 hj ⟨a,o9,L,rfl,I,l,a3⟩;rw[cZL];dsimp only[yW];have u:=hB.same I;have M:=cQn hj;obtain⟨bj,j1,j2,cj,j3,j4⟩:=u.get M;refine⟨_,Cd,_,Cd,v,rs,R,m',Cd,u,_,Cd,?_⟩;cases h1:Bk.vA R m' with
   |false=>exact onF rfl (onF rfl ⟨a,_,_,Cd,I,l,by omega⟩)
   |true=>
   obtain⟨i,r,rfl,b0,hi,hv⟩:=Bk.wP h1;obtain⟨b,g1,g2,cp,g3,g4⟩:=u.get hi;refine onT rfl ⟨_,Cd,_,Cd,v,_,_,_,Cd,Cd,Cb u.lst,yR j1,bj,_,0,_,Cd,Cd,Cb j3,Cd,_,Cd,_,Cd,v,_,_,_,Cd,Cd,Cb u.lst,yR g1,b,_,0,_,Cd,Cd,Cb g3,Cd,Cd,_,Cd,?_⟩;refine qG (λc1=>?_) (λc1=>?_)
   ·refine⟨_,Cd,_,Cd,v,_,_,_,Cd,Cd,Cb u.lst,yR j1,?_⟩;dsimp only[yW];refine⟨_,Cd,bj,_,2,_,Cd,Cd,Cb j3,Cd,_,Cd,_,Cd,v,_,_,_,Cd,Cd,Cb u.lst,yR g1,b,_,2,_,Cd,Cd,Cb g3,Cd,Cd,_,Cd,?_⟩;rw[vD];cases h2:decide (R[j].partner=r.partner)with
    |false=>exact onF rfl (onF rfl ⟨a,_,_,Cd,I,l,by omega⟩)
    |true=>
    refine onT rfl ⟨_,Cd,bj,_,1,_,Cd,Cd,Cb j3,Cd,_,Cd,_,Cd,v,_,_,_,Cd,Cd,Cb u.lst,yR g1,b,_,1,_,Cd,Cd,Cb g3,Cd,_,_,Cd,Cd,_,Cd,?_⟩;refine qG (λc2=>?_) (λc2=>?_)
    ·refine⟨_,Cd,.inl ⟨rfl,_,Cb l⟩,_,Cd,U,_,_,Cd,Cd,l,zlt (by rw[cQt];omega),?_⟩;have e5:(a.map λi=>V.int (i:Nat))++ [V.int (j:Nat)]=(a++ [j]).map λi=>V.int (i:Nat):=by simp
     rw[e5];refine⟨a++ [j],_,_,Cd,λx o e=>?_,yB,by rw[cQL];simp;omega⟩;rw[yJ (λz=>by rw[z,a2]at e;cases e)];exact I _ _ e
    ·exact⟨a,_,_,Cd,I,l,by omega⟩
   ·exact⟨a,_,_,Cd,I,l,by omega⟩
  ·rintro σ H3 ⟨a,o9,L,rfl,I,l,a3⟩;dsimp only[bQ9];refine x9 (λC H'=>∃g':Int,C= [some (.ref v),some (.ref ca),some (.int (k:Nat)),some (.int m'),some (.int g),some (.int O),some (.ref D),some (.int g'),some (.ref U),o9,L]/\xG H H') ?rest2 (λd=>?_);case rest2=>
    rintro C H4 ⟨g',rfl,k4⟩;refine⟨_,Cd,_,Cd,z3,λp hp=>?_⟩;exact q _ _ (k4.trans (yE hp _)) ⟨p,.hang m' g',Cd,yB,trivial⟩
   refine⟨_,Cd,z0,λpn y=>⟨U,pn,_,Cd,Cd,Cb ((yE y (.lst [])) _ _ l),Cb yB,_,Cd,?_⟩⟩;have B:=yE y (.lst []);generalize upd H3 pn (.lst [])=H4 at B ⊢;by_cases n:a= []
   ·subst n;exact onF rfl (onF rfl (d _ _ ⟨goal,Cd,I.trans B⟩))
   refine onT (by cases a with|nil=>exact absurd rfl n|cons=>rfl) ⟨_,Cd,_,_,Cd,Cd,(show(0:Int)<7 by decide),_,_,Cd,Cd,_,Cd,?_⟩;refine qG (λc=>?_) (λc=>d _ _ ⟨goal,Cd,I.trans B⟩);obtain⟨g',X⟩:=aJH n (g / 7+(k:Nat));have G:=B _ _ l;have Z:(0:Int)<((a.map λi=>V.int (i:Nat)).length:Nat):=by rw[cQt];have:=cXy.mpr n;omega
   refine⟨_,Cd,_,Cd,_,_,Cd,Cd,⟨by decide,by decide⟩,_,Cd,_,_,Cd,Cd,_,Cd,U,_,Cd,.inl (Cb G),_,_,Cd,Cd,Z,U,_,_,_,Cd,Cd,Cb G,X,?_⟩;dsimp only[yW];exact d _ _ ⟨g',Cd,I.trans B⟩
 refine⟨_,Cd,z0,λpn y=>⟨D,pn,_,Cd,Cd,Cb ((yE y (.lst [])) _ _ a1),Cb yB,_,Cd,?_⟩⟩;have B:=yE y (.lst []);generalize upd H1 pn (.lst [])=H4 at B ⊢;by_cases n:free= []
 ·subst n;exact onF rfl (onF rfl (d _ _ ⟨m,Cd,k1.trans B⟩))
 refine onT (by cases free with|nil=>exact absurd rfl n|cons=>rfl) ⟨_,Cd,_,_,Cd,Cd,(show(0:Int)<5 by decide),_,_,Cd,Cd,_,Cd,?_⟩;refine qG (λc=>?_) (λc=>d _ _ ⟨m,Cd,k1.trans B⟩);obtain⟨g',X⟩:=aJH n O;have G:=B _ _ a1;have Z:(0:Int)<((free.map λi=>V.int (i:Nat)).length:Nat):=by rw[cQt];have:=cXy.mpr n;omega
 refine⟨_,Cd,_,Cd,_,Cd,D,_,Cd,.inl (Cb G),_,_,Cd,Cd,Z,D,_,_,_,Cd,Cd,Cb G,X,?_⟩;dsimp only[yW];exact d _ _ ⟨g',Cd,k1.trans B⟩
end
end Law
set_option tactic.hygienic false
namespace Law
open PySem L2 PyProof.Rows
open Bk (Row Rows xR zI Ans)
open Desk (xA qE uV Wf vB stV)
def aWR{K:cQq}{x i:V}{H:Hp}{Q:VK}{a:Nat}{xs:List V}{j:Int}(e:x= .ref a)(c:i= .int j)(d:SqL K H a xs)(h0:0<=j)(f:j<(xs.length:Nat))(q:∀v∈xs,Q v H):bWD K x i H Q:=by
 obtain⟨k,rfl⟩:∃k:Nat,j=(k:Int):=⟨j.toNat,by omega⟩;have b:k<xs.length:=by omega
 exact⟨a,xs,_,_,e,c,d,yR (cQn b),q _ (cZG b)⟩
def qB{K:cQq}{x i:V}{H:Hp}{Q:VK}{a:Nat}{xs:List V}{j:Int}(c:x= .ref a)(b:i= .int j)(e:SqL K H a xs)(h0:0<=j)(d:j<(xs.length:Nat))(f:∀v∈xs,∃n,v= .int n)(q:∀n,V.int n∈xs->Q (.int n) H):bWD K x i H Q:=
 aWR c b e h0 d λv m=>by obtain⟨n,rfl⟩:=f v m;exact q n m
def aQw{K:cQq}{x i:V}{H:Hp}{Q:VK}{a:Nat}{xs:List V}{j:Int}(c:x= .ref a)(b:i= .int j)(e:SqL K H a xs)(h0:0<=j)(d:j<(xs.length:Nat))(f:∀v∈xs,∃n,v= .str n)(q:∀n,V.str n∈xs->Q (.str n) H):bWD K x i H Q:=
 aWR c b e h0 d λv m=>by obtain⟨n,rfl⟩:=f v m;exact q n m
def b0:(0:Int)<=(if b=true then 1 else 0):=by split<;> decide
def b1:(if b=true then(1:Int)else 0)<2:=by split<;> decide
def md0{x n:Int}(h:0<n):0<=x % n:=Int.emod_nonneg x (by omega)
def md1{x n:Int}(h:0<n):x % n<n:=Int.emod_lt_of_pos x h
inductive bYd(H:Hp)(ma:Nat)(n:Nat):Prop|mk(vs:List V)(_:H ma=some (.lst vs))(_:vs.length=n)(_:∀v∈vs,vS H v)
structure jY(H0 H:Hp)(ma:Nat)(n:Nat):Prop where
 k:xG H0 H
 new:H0 ma=none
 ex:bYd H ma n
def jY.same(m:jY e H f n)(k:xG H d):jY e d f n:=
 ⟨m.k.trans k,m.new,let ⟨vs,a,b,c⟩:=m.ex;⟨vs,k _ _ a,b,λv g=>(c v g).same k⟩⟩
def jY.push(m:jY j H d n)(e:H d=some (.lst vs))(l:vS H v):jY j (upd H d (.lst (vs++ [v]))) d (n+1):=by
 obtain⟨k,f,r,a,b,c⟩:=m;rw[e]at a;cases a;have q:∀v,vS H v->vS (upd H d (.lst (vs++ [v]))) v:=λv ⟨p,e',h1,h2,h3⟩=>⟨p,e',h1,by rw[yJ (λz=>by rw[z,e]at h2;cases h2)];exact h2,h3⟩;have i:∀v x,vS H v->vS (upd H d x) v:=λv x ⟨p,e',h1,h2,h3⟩=>⟨p,e',h1,by rw[yJ (λz=>by rw[z,e]at h2;cases h2)];exact h2,h3⟩;refine⟨λx o h=>by rw[yJ (λz=>by rw[z,f]at h;cases h)];exact k _ _ h,f,_,yB,by simp[b],λu g=>?_⟩;rcases cQY.mp g with g|g
 ·exact i _ _ (c u g)
 ·rw[cQD.mp g];exact i _ _ l
def bZW(h:u D (σ.set i (some v)) H):bYa (bK8 (tC v) (yW i)) u D σ H:=h
abbrev aV7:Stmt:=xI Bu
inductive bQQ(vs:List V)(H:Hp)(Q:VK)(_:XK):Prop|mk(ra ca:Nat)(rs:List Nat)(R:Rows)(ns:List Int)(k:Nat)(m turn:Int)(_:vs= [.ref ra,.ref ca,.int (k:Nat),.int m,.int turn])(_:xC H ra rs R)(_:R.length<=60)(_:H ca=some (.lst (ns.map V.int)))(_:k<ns.length)(_:15<=turn)(_:turn<24)(_:∀ (H':Hp)(v:V),xG H H'->vS H' v->Q v H')
section
variable {K:cQq}
def bZA:yN [A0,AM,AI,A1,BI,Bg,C0,"_law_base",Bh,"_law_name","_law_way",B5,"_law_menu","_law_stop","_law_asks"] [A0,AM,AI,A1,BI] (yH aV7):=scM
def bXK:xP [A0,AM,AI,A1,BI,Bg,C0,"_law_base",Bh,"_law_name","_law_way",B5,"_law_menu","_law_stop","_law_asks"] (yH aV7) CM [A0] [0] (lsN [(".0",.local),(CM,.local),(A0,.free)]):=
 lcM
seal PE PA PS PSs PT in
def bXX(T:vQ mg)(a0:mg As=none)(O:FnG P w K mg base 1 Ai [A0,A1] Q7)(F:Fun K Bu Bu aV7 f fd):xH P w K mg base CX0 2 f fd [A0,AM,AI,A1,BI] bQQ:=by
 have sc:=bZA;refine F.ok (k:=1) sc (λj1 A outer s H vs Q E hr h=>?_);obtain⟨U,X,rs,R,ns,k,m,turn,rfl,Y,hR,hc,b8,j2,j0,q⟩:=h;refine⟨_,(yC (yU (i:=5) (yL yK (pv 1) (yV y3 (yV zC (pv 2) yF) (yS yO rfl T.b_len xE (yA (pv 1) yD))))) (yC (yU (i:=6) (yL yK (pv 1) (yV y3 (yV zC (pv 2) yF) (yS yO rfl T.b_len xE (yA (pv 1) yD))))) (yC (yU (i:=7) yF) (yC (y6 (x8 (xN O hr rfl (yA (pv 0) (yA (pv 3) yD)))) (yG (yU (i:=7) (yL yK (yL yK (pv 0) (pv 3)) yF))) yT) (yC (aXs (i:=8) bXK rfl sc.nd rfl rfl (zP rfl T.b_range (yA (yS yO rfl T.b_len xE (yA (pv 0) yD)) yD)) (λ_ _ _ _ _=>(wG (yM z8 (yL ixK (yL ixK (pv 1) (pv 0)) yF) x3))) (λ_ _ _ _ _=>(pv 0))) (yC (y6 (PW.pt (uA (yM zK (pv 4) yF) (uA (yM (wR hr.units0) (pv 8) (yZ yD)) (vM (yM aXq (yV y3 (pv 5) yF) yF))))) (yG (yU (i:=3) (yL yK (pv 8) (yV y3 (pv 6) (yS yO rfl T.b_len xE (yA (pv 8) yD)))))) yT) (yC (yU (i:=9) (yL yK (yZ (yA yP (yA yP (yA yP (yA yP (yA yP (yA (yV aQI yP yF) yD))))))) (yV y3 (pv 5) (yL yK (yZ (yA yF (yA yF yD))) (yV y3 (yL yK (pv 1) (pv 2)) yF))))) (yC (yU (i:=10) (xW wT rfl a0 uO (yA (zO zK (yV y3 (yL yK (pv 1) (pv 2)) yF) yF) yD))) (yC (yU (i:=11) (yV w6 (yV zC (pv 7) (yV y3 (pv 5) (yL yK (yZ (yA yF (yA yF yD))) (pv 10)))) (yL yK (yZ (yA yF (yA yF yD))) (pv 10)))) (yC (yU (i:=12) (yZ (yA (y8 (yA yP (yA (pv 3) yD))) (yA (y8 (yA yP (yA (pv 3) (yA (pv 11) yD)))) yD)))) (yC (y0 (v8 cQU cQ3 cQ4 xL (pv 12) (yA (y8 (yA yP (yA (pv 3) (yA (yL yK (yZ (yA yF (yA yF (yA yF (yA yF (yA (aY7 aJz yF) yD)))))) (yV y3 (pv 5) yF)) yD)))) yD))) (yC (y0 (v8 cQU cQ3 cQ4 xL (pv 12) (yA (y8 (yA yP (yA (pv 3) (yA (yL yK (yZ (yA yP (yA yP (yA yP (yA yP (yA yP (yA (yV aQI yP yF) yD))))))) (yV y3 (pv 5) yF)) yD)))) yD))) (yC (yU (i:=13) (yL yK (yZ (yA (yV w6 (yV y3 (pv 5) yF) yF) (yA (yV zC (pv 7) (yV y3 (pv 5) yF)) yD))) (xW wT rfl a0 uO (yA (zO zK (yV y3 (pv 6) yF) yF) yD)))) (yC (yU (i:=12) (yV qC (pv 12) (yZ (yA (y8 (yA yP (yA (pv 3) (yA (pv 9) yD)))) (yA (y8 (yA yP (yA (pv 3) yD))) (yA (y8 (yA yP (yA (pv 13) yD))) yD)))))) (yC (yU (i:=14) (yZ (yA (y8 (yA yP (yA (pv 3) yD))) (yA (y8 (yA yP (yA (pv 3) yD))) (yA (y8 (yA yP (yA (yV w6 (yV y3 (pv 6) yF) yF) yD))) yD))))) (yC (yU (i:=14) (yV qC (pv 14) (yZ (yA (y8 (yA yP (yA (pv 9) yD))) (yA (y8 (yA yP (yA (yV w6 (yV y3 (pv 6) yF) yF) yD))) (yA (y8 (yA yP (yA (pv 3) yD))) yD)))))) (yC (y6 (yM vR (pv 4) yF) (yG (yQ (yL yK (pv 12) (yV w6 (pv 4) yF)))) yT) (yG (yQ (yL yK (pv 14) (yV y3 (yV zC (yV Z2 (pv 5) yF) (pv 4)) yF))))))))))))))))))))),?_⟩;have a6:ns≠ []:=λz=>by rw[z]at b8;simp at b8
 have hl:(rs.map V.ref).length=R.length:=by rw[cQt];exact Y.len
 have a4:(0:Int)<((ns.map V.int).length:Nat):=by rw[cQt];have:=cXy.mpr a6;omega
 have c6:(ns.map V.int)[k]? =some (.int ns[k]):=by rw[cQJ,cQn b8];rfl
 obtain⟨d,a9⟩:=X6 a6 ((k:Nat)+1);obtain⟨g,d6⟩:=X6 a6 ((k:Nat)+2);refine⟨_,Cd,_,Cd,_,_,Cd,Cd,_,Cd,X,_,Cd,.inl (Cb hc),_,_,Cd,Cd,a4,X,_,_,_,Cd,Cd,Cb hc,a9,?_⟩;dsimp only[yW];refine⟨_,Cd,_,Cd,_,_,Cd,Cd,_,Cd,X,_,Cd,.inl (Cb hc),_,_,Cd,Cd,a4,X,_,_,_,Cd,Cd,Cb hc,d6,?_⟩;dsimp only[yW];refine bZW ?_;refine x9 (λp t=>∃bs:Int,p= [some (.ref U),some (.ref X),some (.int (k:Nat)),some (.int m),some (.int turn),some (.int d),some (.int g),some (.int bs),none,none,none,none,none,none,none]/\t=H) ?jX (λl=>?_);case jX=>
  rintro p t ⟨bs,rfl,rfl⟩;refine⟨_,Cd,U,_,Cd,.inl (Cb Y.lst),?_⟩;rw[hl];refine⟨_,Cd,by omega,by omega,λD hD=>?_⟩;rw[cQV];refine qY (λj=> !decide (zN (Bk.lk R j)=V.non)) (λk=>V.int (k:Nat)) hD (by rw[cQQ];omega) (λj hj H1 R' hH u=>?_) (λk hk _ t R' hH u=>⟨_,Cd,u⟩) ?_
  ·have d0:=cQn hj;obtain⟨b,Z,g2,cp,o,C⟩:=Y.get d0;have i0:H1 U=some (.lst (rs.map V.ref)):=by rw[hH U (yI Y.lst hD)];exact Y.lst
   have hb:H1 b=_:=(hH b (yI o hD)).trans o;rw[Bk.wN d0]at u;exact⟨_,Cd,_,Cd,U,_,_,_,Cd,Cd,Cb i0,yR Z,b,_,4,_,Cd,Cd,Cb hb,Cd,Cd,_,Cd,u⟩
  generalize j3:(cQy R.length).filter (λj=> !decide (zN (Bk.lk R j)=V.non))=free;have k1:=yE hD (.lst (free.map λi=>V.int (i:Nat)));have b6:upd t D (.lst (free.map λi=>V.int (i:Nat))) D=some (.lst (free.map λi=>V.int (i:Nat))):=yB;generalize upd t D (.lst (free.map λi=>V.int (i:Nat)))=H1 at k1 b6 ⊢;dsimp only[yW];refine x9 (λp H2=>∃m:Int,p= [some (.ref U),some (.ref X),some (.int (k:Nat)),some (.int m),some (.int turn),some (.int d),some (.int g),some (.int bs),some (.ref D),none,none,none,none,none,none]/\xG t H2) ?rest2 (λl=>?_);case rest2=>
   rintro p H2 ⟨m,rfl,k2⟩;refine⟨_,_,Cd,Cd,by decide,by decide,by decide,λI i8=>⟨zn (by show 6<=100000;omega),λl6 h0=>?_⟩⟩;have e6:=yE h0 (.lst [.str "old",.str "",.str "new",.str "old files",.str "Old, ~",.str I]);have h6:upd H2 l6 (.lst [.str "old",.str "",.str "new",.str "old files",.str "Old, ~",.str I]) l6=some (.lst [.str "old",.str "",.str "new",.str "old files",.str "Old, ~",.str I]):=yB;generalize upd H2 l6 (.lst [.str "old",.str "",.str "new",.str "old files",.str "Old, ~",.str I])=H3 at e6 h6 ⊢;refine⟨_,Cd,z2,λl2 f5=>?_⟩;have e7:=yE f5 (.lst [.int 3,.int 6]);have h7:upd H3 l2 (.lst [.int 3,.int 6]) l2=some (.lst [.int 3,.int 6]):=yB;have c9:=e7 _ _ h6;have k4:=(k2.trans e6).trans e7;generalize upd H3 l2 (.lst [.int 3,.int 6])=H4 at e7 h7 c9 k4 ⊢;have c7:=k4 _ _ hc;refine⟨_,Cd,_,Cd,X,_,_,_,Cd,Cd,Cb c7,yR c6,_,_,Cd,Cd,(show(0:Int)<2 by decide),?_⟩;refine qB rfl rfl (Cb h7) (md0 (by decide)) (md1 (by decide)) (by simp) λj hj=>?_;have i7:j=3\/j=6:=by simpa using hj
   refine⟨_,_,Cd,Cd,(show(0:Int)<j by omega),?_⟩;refine aQw rfl rfl (Cb c9) (md0 (by omega)) (Int.lt_of_lt_of_le (md1 (by omega)) (show j<=6 by omega)) (by simp) λe _=>?_;dsimp only[yW];refine⟨_,Cd,_,Cd,X,_,_,_,Cd,Cd,Cb c7,yR c6,_,_,Cd,Cd,(show(0:Int)<11 by decide),Cd,.inr ⟨_,Cd,?_⟩⟩;generalize i6:decide (V.int (ns[k] % 11)=V.int 4)=wb;dsimp only[yW];refine⟨_,Cd,_,Cd,z2,λl9 h9=>⟨_,Cd,?_⟩⟩;have e9:=yE h9 (.lst [.int 9,.int 3001]);refine qB rfl rfl (Cb yB) b0 b1 (by simp) λj hj=>?_;have j5:j=9\/j=3001:=by simpa using hj
   refine⟨_,_,Cd,Cd,(show(0:Int)<j by omega),_,_,Cd,Cd,z2,λl4 e4=>⟨_,Cd,?_⟩⟩;have B:=(k4.trans e9).trans (yE e4 (.lst [.int 4,.int 1500]));refine qB rfl rfl (Cb yB) b0 b1 (by simp) λj4 _=>?_;refine⟨_,_,Cd,Cd,?_⟩;generalize upd (upd H4 l9 (.lst [.int 9,.int 3001])) l4 (.lst [.int 4,.int 1500])=H5 at B ⊢;dsimp only[yW];refine⟨_,Cd,z2,λp1 h8=>⟨_,Cd,_,Cd,z3,λp2 b2=>⟨z2,λma d1=>?_⟩⟩⟩;have M1:jY t (upd (upd (upd H5 p1 (.tup [.str BN,.int m])) p2 (.tup [.str Ak,.int m,.int (bs+d % j - j4)])) ma (.lst [.ref p1,.ref p2])) ma 2:=by
    have a1:=yE h8 (.tup [.str BN,.int m]);have a2:=yE b2 (.tup [.str Ak,.int m,.int (bs+d % j - j4)]);have a3:=yE d1 (.lst [.ref p1,.ref p2]);refine⟨((B.trans a1).trans a2).trans a3,((B.trans a1).trans a2).fresh d1,_,yB,Cd,λv a=>?_⟩;rcases cQz.mp a with rfl|a
    ·exact⟨p1,.loose m,Cd,a3 _ _ (a2 _ _ yB),trivial⟩
    ·rw[cQD.mp a];exact⟨p2,.date m (bs+d % j - j4),Cd,a3 _ _ yB,trivial⟩
   generalize upd (upd (upd H5 p1 (.tup [.str BN,.int m])) p2 (.tup [.str Ak,.int m,.int (bs+d % j - j4)])) ma (.lst [.ref p1,.ref p2])=H6 at M1 ⊢;dsimp only[yW];obtain⟨f7,c0, -, -⟩:=M1.ex;refine⟨_,Cd,.inl ⟨rfl,_,Cb c0⟩,_,Cd,_,Cd,zn (by show 5<=100000;omega),λl5 h4=>⟨_,Cd,_,_,Cd,Cd,(show(0:Int)<5 by decide),?_⟩⟩;refine qB rfl rfl (Cb yB) (md0 (by decide)) (md1 (by decide)) (by simp) λtm _=>⟨z3,λp3 e8=>?_⟩;have a5:=(yE h4 (.lst [.int 0,.int 2,.int 6,.int 1,.int (-1)])).trans (yE e8 (.tup [.str AU,.int m,.int tm]));have d5:vS (upd (upd H6 l5 (.lst [.int 0,.int 2,.int 6,.int 1,.int (-1)])) p3 (.tup [.str AU,.int m,.int tm])) (.ref p3):=⟨p3,.term m tm,Cd,yB,trivial⟩;generalize upd (upd H6 l5 (.lst [.int 0,.int 2,.int 6,.int 1,.int (-1)])) p3 (.tup [.str AU,.int m,.int tm])=H7 at a5 d5 ⊢;have M2:=M1.same a5;have b7:=a5 _ _ c0;refine⟨ma,_,_,Cd,Cd,b7,?_,?_⟩
   ·obtain⟨ws,w1,w2,_⟩:=M2.ex;rw[b7]at w1;cases w1;exact zlt (by omega)
   have M3:=M2.push b7 d5;generalize upd H7 ma (.lst (f7++ [.ref p3]))=H8 at M3 ⊢;obtain⟨f6,d8, -, -⟩:=M3.ex;refine⟨_,Cd,.inl ⟨rfl,_,Cb d8⟩,_,Cd,_,_,Cd,Cd,by decide,by decide,by decide,λz4 j6=>⟨zn (by show 6<=100000;omega),λl7 g7=>⟨_,Cd,_,_,Cd,Cd,(show(0:Int)<6 by decide),?_⟩⟩⟩;refine aQw rfl rfl (Cb yB) (md0 (by decide)) (md1 (by decide)) (by simp) λG _=>⟨z3,λp4 e5=>?_⟩;have a7:=(yE g7 (.lst [.str Bv,.str "cy",.str "bo",.str "",.str "ann lee",.str z4])).trans (yE e5 (.tup [.str "copy",.int m,.str G]));have d7:vS (upd (upd H8 l7 (.lst [.str Bv,.str "cy",.str "bo",.str "",.str "ann lee",.str z4])) p4 (.tup [.str "copy",.int m,.str G])) (.ref p4):=⟨p4,.copy m G,Cd,yB,trivial⟩;generalize upd (upd H8 l7 (.lst [.str Bv,.str "cy",.str "bo",.str "",.str "ann lee",.str z4])) p4 (.tup [.str "copy",.int m,.str G])=H9 at a7 d7 ⊢;have M4:=M3.same a7;have b4:=a7 _ _ d8;refine⟨ma,_,_,Cd,Cd,b4,?_,?_⟩
   ·obtain⟨ws,w1,w2,_⟩:=M4.ex;rw[b4]at w1;cases w1;exact zlt (by omega)
   have M5:=M4.push b4 d7;generalize upd H9 ma (.lst (f6++ [.ref p4]))=H10 at M5 ⊢;refine⟨_,Cd,_,_,Cd,Cd,(show(0:Int)<24 by decide),_,_,Cd,Cd,_,Cd,_,Cd,_,_,Cd,Cd,(show(0:Int)<12 by decide),_,_,Cd,Cd,z2,λl8 g9=>⟨_,Cd,_,_,Cd,Cd,(show(0:Int)<3 by decide),Cd,.inr ⟨_,Cd,?_⟩⟩⟩;refine qB rfl rfl (Cb yB) b0 b1 (by simp) λn _=>?_;have M6:=M5.same (yE g9 (.lst [.int (d % 24 - 2),.int (bs+d % 12)]));generalize upd H10 l8 (.lst [.int (d % 24 - 2),.int (bs+d % 12)])=H11 at M6 ⊢;dsimp only[yW];obtain⟨b9,i5,d4,h3⟩:=M6.ex;refine⟨_,Cd,_,Cd,_,Cd,z3,λx i4=>⟨_,Cd,z2,λM i1=>⟨_,Cd,z2,λS f8=>⟨z3,λb3 d3=>?_⟩⟩⟩⟩;have c1:=yE i4 (.tup [.str Bi,.int m,.str e]);have c2:=yE i1 (.tup [.str AW,.int m]);have c3:=yE f8 (.tup [.str Aj,.int n]);have c4:=yE d3 (.lst [.ref x,.ref M,.ref S]);refine⟨ma,b3,_,_,Cd,Cd,c4 _ _ (c3 _ _ (c2 _ _ (c1 _ _ i5))),yB,by rw[d4,cQQ];show 7<=16777216;omega,λmb e2=>?_⟩;have c5:=yE e2 (.lst (b9++ [.ref x,.ref M,.ref S]));have M7:jY t (upd (upd (upd (upd (upd H11 x (.tup [.str Bi,.int m,.str e])) M (.tup [.str AW,.int m])) S (.tup [.str Aj,.int n])) b3 (.lst [.ref x,.ref M,.ref S])) mb (.lst (b9++ [.ref x,.ref M,.ref S]))) mb 7:=by
    have W:=(((M6.k.trans c1).trans c2).trans c3).trans c4;refine⟨W.trans c5,W.fresh e2,_,yB,by rw[cQL,d4];rfl,λv a=>?_⟩;rcases cQY.mp a with a|a
    ·exact(h3 v a).same ((((c1.trans c2).trans c3).trans c4).trans c5)
    ·rcases cQz.mp a with rfl|a
     ·exact⟨x,.file m e,Cd,c5 _ _ (c4 _ _ (c3 _ _ (c2 _ _ yB))),trivial⟩
     ·rcases cQz.mp a with rfl|a
      ·exact⟨M,.void m,Cd,c5 _ _ (c4 _ _ (c3 _ _ yB)),trivial⟩
      ·rw[cQD.mp a];exact⟨S,.shut n,Cd,c5 _ _ (c4 _ _ yB),trivial⟩
   generalize upd (upd (upd (upd (upd H11 x (.tup [.str Bi,.int m,.str e])) M (.tup [.str AW,.int m])) S (.tup [.str Aj,.int n])) b3 (.lst [.ref x,.ref M,.ref S])) mb (.lst (b9++ [.ref x,.ref M,.ref S]))=H12 at M7 ⊢;dsimp only[yW];refine⟨_,Cd,z2,λr1 h2=>⟨_,Cd,z2,λr2 f9=>⟨_,Cd,_,_,Cd,Cd,(show(0:Int)<26 by decide),_,_,Cd,Cd,z2,λr3 i3=>⟨z3,λna e0=>?_⟩⟩⟩⟩;have f1:=yE h2 (.tup [.str Bb,.int m]);have f2:=yE f9 (.tup [.str B9,.int m]);have f3:=yE i3 (.tup [.str AX,.int (g % 26 - 1)]);have f4:=yE e0 (.lst [.ref r1,.ref r2,.ref r3]);have M8:=(((M7.same f1).same f2).same f3).same f4;have N1:jY t (upd (upd (upd (upd H12 r1 (.tup [.str Bb,.int m])) r2 (.tup [.str B9,.int m])) r3 (.tup [.str AX,.int (g % 26 - 1)])) na (.lst [.ref r1,.ref r2,.ref r3])) na 3:=by
    have W:=((M7.k.trans f1).trans f2).trans f3;refine⟨W.trans f4,W.fresh e0,_,yB,Cd,λv a=>?_⟩;rcases cQz.mp a with rfl|a
    ·exact⟨r1,.state m,Cd,f4 _ _ (f3 _ _ (f2 _ _ yB)),trivial⟩
    ·rcases cQz.mp a with rfl|a
     ·exact⟨r2,.thread m,Cd,f4 _ _ (f3 _ _ yB),trivial⟩
     ·rw[cQD.mp a];exact⟨r3,.on true (g % 26 - 1),Cd,f4 _ _ yB,trivial⟩
   generalize upd (upd (upd (upd H12 r1 (.tup [.str Bb,.int m])) r2 (.tup [.str B9,.int m])) r3 (.tup [.str AX,.int (g % 26 - 1)])) na (.lst [.ref r1,.ref r2,.ref r3])=H13 at M8 N1 ⊢;dsimp only[yW];obtain⟨b5,g8,d9,h5⟩:=N1.ex;refine⟨_,Cd,_,Cd,z2,λy i2=>⟨_,Cd,_,_,Cd,Cd,(show(0:Int)<26 by decide),_,_,Cd,Cd,z2,λL g0=>⟨_,Cd,z2,λJ g6=>⟨z3,λa8 e1=>?_⟩⟩⟩⟩;have Z:=yE i2 (.tup [.str B2,.str e]);have g2:=yE g0 (.tup [.str AZ,.int (g % 26 - 1)]);have o:=yE g6 (.tup [.str BL,.int m]);have C:=yE e1 (.lst [.ref y,.ref L,.ref J]);refine⟨na,a8,_,_,Cd,Cd,C _ _ (o _ _ (g2 _ _ (Z _ _ g8))),yB,by rw[d9,cQQ];show 6<=16777216;omega,λnb d2=>?_⟩;have g5:=yE d2 (.lst (b5++ [.ref y,.ref L,.ref J]));have M9:=((((M8.same Z).same g2).same o).same C).same g5;have N2:jY t (upd (upd (upd (upd (upd H13 y (.tup [.str B2,.str e])) L (.tup [.str AZ,.int (g % 26 - 1)])) J (.tup [.str BL,.int m])) a8 (.lst [.ref y,.ref L,.ref J])) nb (.lst (b5++ [.ref y,.ref L,.ref J]))) nb 6:=by
    have W:=(((M8.k.trans Z).trans g2).trans o).trans C;refine⟨W.trans g5,W.fresh d2,_,yB,by rw[cQL,d9];rfl,λv a=>?_⟩;rcases cQY.mp a with a|a
    ·exact(h5 v a).same ((((Z.trans g2).trans o).trans C).trans g5)
    ·rcases cQz.mp a with rfl|a
     ·exact⟨y,.letters e,Cd,g5 _ _ (C _ _ (o _ _ (g2 _ _ yB))),trivial⟩
     ·rcases cQz.mp a with rfl|a
      ·exact⟨L,.on false (g % 26 - 1),Cd,g5 _ _ (C _ _ (o _ _ yB)),trivial⟩
      ·rw[cQD.mp a];exact⟨J,.copies m,Cd,g5 _ _ (C _ _ yB),trivial⟩
   generalize upd (upd (upd (upd (upd H13 y (.tup [.str B2,.str e])) L (.tup [.str AZ,.int (g % 26 - 1)])) J (.tup [.str BL,.int m])) a8 (.lst [.ref y,.ref L,.ref J])) nb (.lst (b5++ [.ref y,.ref L,.ref J]))=H14 at M9 N2 ⊢;dsimp only[yW];refine⟨_,Cd,_,_,Cd,Cd,_,Cd,?_⟩;refine qG (λc=>?_) (λc=>?_)
   ·have c:turn<22:=of_decide_eq_true c;obtain⟨us,u1,u2,u3⟩:=M9.ex;refine⟨_,Cd,_,Cd,_,_,Cd,Cd,?_⟩;exact aWR rfl rfl (Cb u1) (by omega) (by rw[u2];show turn - 15<7;omega) λv a=>q _ _ M9.k (u3 v a)
   ·obtain⟨us,u1,u2,u3⟩:=N2.ex;refine⟨_,Cd,_,Cd,_,_,Cd,Cd,⟨by decide,by decide⟩,_,Cd,_,_,Cd,Cd,_,_,Cd,Cd,(show(0:Int)<6 by decide),?_⟩;exact aWR rfl rfl (Cb u1) (md0 (by decide)) (by rw[u2];exact md1 (by decide)) λv a=>q _ _ N2.k (u3 v a)
  refine⟨_,Cd,Cd,_,Cd,?_⟩;cases i9:decide (V.int turn=V.int 15)with
  |false=>exact onF rfl (onF rfl (l _ _ ⟨m,Cd,k1⟩))
  |true=>
  refine onT rfl ⟨_,Cd,z0,λpn c8=>⟨D,pn,_,Cd,Cd,Cb ((yE c8 (.lst [])) _ _ b6),Cb yB,_,Cd,?_⟩⟩;have B:=yE c8 (.lst []);generalize upd H1 pn (.lst [])=H4 at B ⊢;by_cases N:free= []
  ·subst N;exact onF rfl (onF rfl (l _ _ ⟨m,Cd,k1.trans B⟩))
  refine onT (by cases free with|nil=>exact absurd rfl N|cons=>rfl) ⟨_,Cd,_,_,Cd,Cd,(show(0:Int)<4 by decide),_,_,Cd,Cd,_,Cd,?_⟩;refine qG (λc=>?_) (λc=>l _ _ ⟨m,Cd,k1.trans B⟩);obtain⟨g',f0⟩:=aJH N g;have e3:=B _ _ b6;have b2:(0:Int)<((free.map λi=>V.int (i:Nat)).length:Nat):=by rw[cQt];have:=cXy.mpr N;omega
  refine⟨_,Cd,_,Cd,_,Cd,D,_,Cd,.inl (Cb e3),_,_,Cd,Cd,b2,D,_,_,_,Cd,Cd,Cb e3,f0,?_⟩;dsimp only[yW];exact l _ _ ⟨g',Cd,k1.trans B⟩
 refine⟨_,Cd,_,Cd,U,rs,R,m,Cd,Y,_,Cd,?_⟩;cases h1:Bk.vA R m with
 |false=>exact onF rfl (l _ _ ⟨0,Cd,rfl⟩)
 |true=>
 obtain⟨i,r,rfl,j7,hi,a⟩:=Bk.wP h1;obtain⟨b,Z,g2,cp,o,C⟩:=Y.get hi;refine onT rfl ⟨_,Cd,_,Cd,U,_,_,_,Cd,Cd,Cb Y.lst,yR Z,b,_,1,_,Cd,Cd,Cb o,Cd,?_⟩;dsimp only[yW];exact l _ _ ⟨r.date,Cd,rfl⟩
end
end Law
namespace Law
open PySem L2 PyProof.Rows
open Bk (Row Rows xR zI Ans)
open Desk (xA qE uV Wf vB stV)
def bWS:cQ7 "max"=some (.builtin "max"):=dk
def bVf{t u:TS}(I:Bool->Hp->Prop)(h:∀Kk:Bool->Hp->Prop,(∀b a,I b a->Kk b a)->c σ H Kk)(d:∀a,I true a->t D σ a)(e:∀a,I false a->u D σ a):bK9 c t u D σ H:=
 h _ λb a i=>by
  cases b with
  |true=>exact onT rfl (d a i)
  |false=>exact onF rfl (e a i)
def aWb{t u r:TS}(h:bK9 c t u {D with nx:=r D} σ H):bYa (bK9 c t u) r D σ H:=h
def p60:(0:Int)<10 ^ (60:Int).toNat:=dk
def c60:bYL 10 60:=⟨by decide,by decide,by decide⟩
abbrev aVn:Stmt:=xI BT
inductive aWl(vs:List V)(H:Hp)(Q:VK)(_:XK):Prop|mk(ra ca:Nat)(rs:List Nat)(R:Rows)(ns:List Int)(k:Nat)(_:vs= [.ref ra,.ref ca,.int (k:Nat)])(_:xC H ra rs R)(_:R.length<=60)(_:H ca=some (.lst (ns.map V.int)))(_:k<ns.length)(_:∀ (H':Hp)(v:V),xG H H'->vS H' v->Q v H')
section
variable {K:cQq}
def bQG:yN [A0,AM,AI,Bg,C0,BI,A1,Aw,AK,"_law_who","_law_twin","_law_base"] [A0,AM,AI] (yH aVn):=scM
seal PE PA PS PSs PT in
def aYT(T:vQ mg)(Z:mg As=none)(b2:mg "max"=none)(W:FnG P w K mg base 2 Ai [A0,A1] Q7)(u:FnG P w K mg base 2 BS [A0,AM,AI,A1] aJt) (I:FnG P w K mg base 2 Bu [A0,AM,AI,A1,BI] bQQ) (F:Fun K BT BT aVn f fd):xH P w K mg base CX0 3 f fd [A0,AM,AI] aWl:=by
 have sc:=bQG;refine F.ok (k:=2) sc (λc6 A outer s H vs Q E hr h=>?_);obtain⟨C,g,rs,R,D,k,rfl,hB,hR,J,X,q⟩:=h;refine⟨_,(yC (yU (i:=3) (yL yK (pv 1) (yV y3 (yV zC (pv 2) yF) (yS yO rfl T.b_len xE (yA (pv 1) yD))))) (yC (yU (i:=4) (yL yK (pv 1) (yV y3 (yV zC (pv 2) yF) (yS yO rfl T.b_len xE (yA (pv 1) yD))))) (yC (yU (i:=5) (yV y3 (yV zC (yL yK (pv 1) (pv 2)) (yV aVZ yF (pv 2))) yF)) (yC (yU (i:=6) (yV y3 (yV zC (pv 4) (pv 2)) (yS (aK0 rfl) rfl b2 bWS (yA yF (yA (yS yO rfl T.b_len xE (yA (pv 0) yD)) yD))))) (yC (y6 (yM zK (yV y3 (yL yK (pv 1) (pv 2)) yF) yF) (yG (yU (i:=6) (yL yK (yZ (yA (aY7 aJz yF) (yA (yS yO rfl T.b_len xE (yA (pv 0) yD)) (yA (yV aQJ yF yF) (yA (yV w6 (aY7 aJz yF) (yV y3 (pv 3) (yV aQJ yF yF))) (yA (yV zC (yS yO rfl T.b_len xE (yA (pv 0) yD)) (yV y3 (pv 3) (yV aQJ yF yF))) yD)))))) (yV y3 (pv 3) yF)))) yT) (yC (yU (i:=7) (yL yK (yZ (yA yF (yA yF (yA yF (yA yF (yA yF (yA yF yD))))))) (yV y3 (yV Z2 (pv 3) yF) yF))) (yC (y6 (yM zK (yV y3 (yL yK (pv 1) (pv 2)) yF) yF) (yG (yU (i:=7) (yL yK (yZ (yA (aY7 aJz yF) (yA yF (yA (yV w6 (aY7 aJz yF) (yV y3 (pv 4) (yV aQJ yF yF))) (yA (yV y3 (pv 4) yF) yD))))) (yV y3 (pv 4) yF)))) yT) (yC (y6 (PW.pt (jW (yM vR (pv 5) yF) (vX (yM (aX7 hr.units0) (pv 0) (yZ yD))))) (yC (yU (i:=8) (yV zC (yV w6 (yV y3 (pv 3) yF) yF) (yV aVZ (yV aQJ yF yF) (xW wT rfl Z uO (yA (zO zK (yV y3 (yL yK (pv 1) (pv 2)) yF) yF) yD))))) (yC (y6 (yM zK (yV y3 (yL yK (pv 1) (pv 2)) yF) yF) (yG (yU (i:=8) (yL yK (yZ (yA (yV w6 (yV y3 (pv 3) yF) yF) (yA (yV y3 (pv 3) (yV aQJ yF yF)) (yA (yV w6 yF (yV y3 (pv 3) (yV aQJ yF yF))) yD)))) (yV y3 (pv 4) yF)))) yT) (yC (yU (i:=9) (yL yK (yZ (yA yP (yA yP (yA yP (yA yP yD))))) (yV y3 (pv 4) yF))) (yC (y6 (yM zK (yV y3 (yL yK (pv 1) (pv 2)) yF) yF) (yC (yU (i:=10) (yV aXE (yV aXE (yV aQI yP (yV y3 (yL yK (pv 1) yF) yF)) yP) (yV aQI yP (yV w6 yF (yV y3 (yL yK (pv 1) yF) yF))))) (yG (yU (i:=9) (yL yK (yZ (yA yP (yA (pv 10) (yA (yV aQI yP yF) yD)))) (yV y3 (pv 4) yF))))) yT) (yG (yQ (y8 (yA (yL yK (yZ (yA yP (yA yP yD))) (yV y3 (yV Z2 (pv 4) yF) yF)) (yA (pv 8) (yA (pv 9) (yA (pv 7) yD))))))))))) yT) (yC (y6 (yM vR (pv 5) yF) (yC (yU (i:=11) (yV y3 (pv 3) yF)) (yC (y6 (x8 (xN W hr rfl (yA (pv 0) (yA (pv 6) yD)))) (yG (yU (i:=11) (yV w6 (yV zC (yL yK (yL yK (pv 0) (pv 6)) yF) (yV y3 (pv 3) (yL yK (yZ (yA yF (yA yF yD))) (xW wT rfl Z uO (yA (zO zK (yV y3 (yL yK (pv 1) (pv 2)) yF) yF) yD))))) yF))) yT) (yG (yQ (y8 (yA yP (yA (pv 6) (yA (pv 11) (yA (pv 7) yD))))))))) yT) (yC (y6 (yM vR (pv 5) yF) (yG (yQ (xN u hr rfl (yA (pv 0) (yA (pv 1) (yA (pv 2) (yA (pv 6) yD))))))) yT) (yG (yQ (xN I hr rfl (yA (pv 0) (yA (pv 1) (yA (pv 2) (yA (pv 6) (yA (pv 5) yD)))))))))))))))))),?_⟩;have U:D≠ []:=λz=>by rw[z]at X;simp at X
 have Y:(0:Int)<((D.map V.int).length:Nat):=by rw[cQt];have:=cXy.mpr U;omega
 have o:(D.map V.int)[k]? =some (.int D[k]):=by rw[cQJ,cQn X];rfl
 have b4:(D.map V.int)[0]? =some (.int (D[0]'(by omega))):=by rw[cQJ,cQn (by omega:0<D.length)];rfl
 obtain⟨l,a2⟩:=X6 U ((k:Nat)+1);obtain⟨M,a9⟩:=X6 U ((k:Nat)+2);refine⟨_,Cd,_,Cd,_,_,Cd,Cd,_,Cd,g,_,Cd,.inl (Cb J),_,_,Cd,Cd,Y,g,_,_,_,Cd,Cd,Cb J,a2,?_⟩;dsimp only[yW];refine⟨_,Cd,_,Cd,_,_,Cd,Cd,_,Cd,g,_,Cd,.inl (Cb J),_,_,Cd,Cd,Y,g,_,_,_,Cd,Cd,Cb J,a9,?_⟩;dsimp only[yW];refine⟨_,Cd,_,Cd,g,_,_,_,Cd,Cd,Cb J,yR o,_,Cd,_,_,Cd,Cd,.inl ⟨by decide,by decide⟩,_,_,Cd,Cd,_,_,Cd,Cd,(show(0:Int)<24 by decide),?_⟩;dsimp only[yW];obtain⟨turn,y⟩:∃turn:Int,turn=(D[k]+5*(k:Nat)) % 24:=⟨_,rfl⟩;have c4:0<=turn:=by rw[y];exact md0 (by decide)
 have b5:turn<24:=by rw[y];exact md1 (by decide)
 rw[<- y];refine⟨_,Cd,_,Cd,_,_,Cd,Cd,_,Cd,C,_,Cd,.inl (Cb hB.lst),_,_,Cd,_,_,Cd,Cd,?_,?_⟩
 ·show(0:Int)<(if _ then _ else _);split<;> omega
 dsimp only[yW];refine x9 (λe G=>∃m:Int,e= [some (.ref C),some (.ref g),some (.int (k:Nat)),some (.int l),some (.int M),some (.int turn),some (.int m),none,none,none,none,none]/\xG H G) ?jX (λa=>?_);case jX=>
  rintro e H1 ⟨m,rfl,k1⟩;refine⟨zn (by show 6<=100000;omega),λl6 b8=>⟨_,Cd,_,_,Cd,Cd,⟨by decide,by decide⟩,_,_,Cd,Cd,(show(0:Int)<6 by decide),?_⟩⟩;refine qB rfl rfl (Cb yB) (md0 (by decide)) (md1 (by decide)) (by simp) λt0 _=>?_;have k2:=k1.trans (yE b8 (.lst [.int 0,.int 2,.int 1,.int 5,.int 3,.int 7]));generalize upd H1 l6 (.lst [.int 0,.int 2,.int 1,.int 5,.int 3,.int 7])=H2 at k2 ⊢;have c1:=k2 _ _ J;dsimp only[yW];refine x9 (λe G=>∃t:Int,e= [some (.ref C),some (.ref g),some (.int (k:Nat)),some (.int l),some (.int M),some (.int turn),some (.int m),some (.int t),none,none,none,none]/\xG H G) ?rest2 (λa=>?_);case rest2=>
   rintro e H3 ⟨t,rfl,k3⟩;have c8:=k3 _ _ J;have b7:=hB.same k3;refine aWb (bVf (λb G=>xG H G) ?_ ?_ ?_)
   ·intro Kk hK;refine⟨_,Cd,_,_,Cd,Cd,_,Cd,?_⟩;refine qG (λc=>hK _ _ k3) (λc=>?_);exact⟨_,Cd,z0,λpn a7=>⟨C,pn,_,Cd,Cd,Cb ((yE a7 (.lst [])) _ _ b7.lst),Cb yB,_,Cd,hK _ _ (k3.trans (yE a7 _))⟩⟩
   ·intro H4 O;have B:=O _ _ J;refine⟨_,Cd,_,_,Cd,Cd,(show(0:Int)<20 by decide),_,_,Cd,Cd,_,_,Cd,Cd,⟨by decide,by decide,by decide⟩,_,Cd,_,Cd,g,_,_,_,Cd,Cd,Cb B,yR o,_,_,Cd,Cd,(show(0:Int)<37 by decide),Cd,.inr ⟨_,Cd,_,_,Cd,Cd,.inl ⟨dk,dk⟩,_,_,Cd,Cd,?_⟩⟩;dsimp only[yW];refine x9 (λe G=>∃d:Int,e= [some (.ref C),some (.ref g),some (.int (k:Nat)),some (.int l),some (.int M),some (.int turn),some (.int m),some (.int t),some (.int d),none,none,none]/\xG H G) ?rest3 (λa=>?_);case rest3=>
     rintro e H5 ⟨d,rfl,k5⟩;refine⟨zn (by show 4<=100000;omega),λl4 b6=>⟨_,Cd,_,_,Cd,Cd,(show(0:Int)<4 by decide),?_⟩⟩;refine aQw rfl rfl (Cb yB) (md0 (by decide)) (md1 (by decide)) (by simp) λa8 _=>?_;have k6:=k5.trans (yE b6 (.lst [.str Bv,.str "bo",.str Bv,.str ""]));generalize upd H5 l4 (.lst [.str Bv,.str "bo",.str Bv,.str ""])=H6 at k6 ⊢;have a0:=k6 _ _ J;dsimp only[yW];refine x9 (λe G=>L2.Ez2 λ(a3:Str)(a6:Option V)=>e= [some (.ref C),some (.ref g),some (.int (k:Nat)),some (.int l),some (.int M),some (.int turn),some (.int m),some (.int t),some (.int d),some (.str a3),a6,none]/\xG H G) ?rest4 (λa=>?_);case rest4=>
      rintro e H7 ⟨a3,a6,rfl,k7⟩;refine⟨z2,λl2 a1=>⟨_,Cd,_,_,Cd,Cd,⟨by decide,by decide⟩,_,_,Cd,Cd,(show(0:Int)<2 by decide),?_⟩⟩;refine aQw rfl rfl (Cb yB) (md0 (by decide)) (md1 (by decide)) (by simp) λa4 a5=>?_;have hw:a4="in"\/a4=BM:=by simpa using a5
      refine⟨_,Cd,_,Cd,_,Cd,z4,λp hp=>?_⟩;exact q _ _ ((k7.trans (yE a1 _)).trans (yE hp _)) ⟨p,.enter a4 d a3 t,Cd,yB,hw⟩
     refine⟨_,Cd,_,Cd,g,_,_,_,Cd,Cd,Cb a0,yR o,_,_,Cd,Cd,(show(0:Int)<13 by decide),Cd,_,Cd,?_⟩;refine qG (λc=>?_) (λc=>a _ _ ⟨a8,none,Cd,k6⟩);have S:∀x:Int,0<=x % 40/\x % 40<=39:=λx=>⟨md0 (by decide),by have:=md1 (x:=x) (n:=40) (by decide);omega⟩;refine⟨_,Cd,g,_,_,_,Cd,Cd,Cb a0,yR (j:=0) b4,_,_,Cd,Cd,(show(0:Int)<40 by decide),_,_,Cd,Cd,by decide,(S _).1,by have:=(S (D[0]'(by omega))).2;omega,λza c3=>?_⟩;refine⟨_,_,Cd,Cd,by rw[cQQ];show za.length+1<=_;omega,?_⟩;refine⟨_,Cd,g,_,_,_,Cd,Cd,Cb a0,yR (j:=0) b4,_,_,Cd,Cd,(show(0:Int)<40 by decide),_,_,Cd,Cd,_,_,Cd,Cd,by decide,by have:=(S (D[0]'(by omega))).2;omega,by have:=(S (D[0]'(by omega))).1;omega,λzb c7=>?_⟩;have c9:(za++("y":Str)).length<=101:=by
      show(za.cps++_).size<=101;rw[Array.size_append];have:za.cps.size<=100:=c3;have:("y":Str).cps.size=1:=by decide
      omega
     refine⟨_,_,Cd,Cd,by rw[cQQ];omega,?_⟩;dsimp only[yW];refine⟨_,Cd,_,_,Cd,Cd,by decide,by decide,by decide,λzc c5=>⟨z3,λl3 N=>⟨_,Cd,_,_,Cd,Cd,(show(0:Int)<3 by decide),?_⟩⟩⟩;refine aQw rfl rfl (Cb yB) (md0 (by decide)) (md1 (by decide)) (by simp) λb3 _=>?_;dsimp only[yW];exact a _ _ ⟨b3,_,Cd,k6.trans (yE N _)⟩
    refine⟨_,Cd,_,Cd,g,_,_,_,Cd,Cd,Cb B,yR o,_,_,Cd,Cd,(show(0:Int)<37 by decide),Cd,_,Cd,?_⟩;refine qG (λc=>?_) (λc=>a _ _ ⟨_,Cd,O⟩);refine⟨_,Cd,_,_,Cd,Cd,(show(0:Int)<2001 by decide),_,_,Cd,Cd,_,Cd,_,_,Cd,Cd,c60,_,_,Cd,Cd,p60,_,Cd,_,_,Cd,Cd,c60,_,_,Cd,Cd,p60,_,_,Cd,Cd,z3,λl3 N=>⟨_,Cd,_,_,Cd,Cd,(show(0:Int)<3 by decide),?_⟩⟩;refine qB rfl rfl (Cb yB) (md0 (by decide)) (md1 (by decide)) (by simp) λd1 _=>?_;dsimp only[yW];exact a _ _ ⟨d1,Cd,O.trans (yE N _)⟩
   ·intro H4 O;have B:=O _ _ J;have L:=hB.same O;dsimp only[bQ9];refine⟨_,Cd,_,_,Cd,Cd,_,Cd,?_⟩;refine qG (λc=>?_) (λc=>?_)
    ·refine⟨_,Cd,_,_,Cd,Cd,(show(0:Int)<20 by decide),?_⟩;dsimp only[yW];refine x9 (λe G=>∃bs:Int,e= [some (.ref C),some (.ref g),some (.int (k:Nat)),some (.int l),some (.int M),some (.int turn),some (.int m),some (.int t),none,none,none,some (.int bs)]/\xG H G) ?rest5 (λa=>?_);case rest5=>
      rintro e H5 ⟨bs,rfl,k5⟩;refine⟨_,Cd,_,Cd,_,Cd,z4,λp hp=>?_⟩;exact q _ _ (k5.trans (yE hp _)) ⟨p,.reply m bs t,Cd,yB,trivial⟩
     refine⟨_,Cd,_,Cd,C,rs,R,m,Cd,L,_,Cd,?_⟩;cases h1:Bk.vA R m with
     |false=>exact onF rfl (a _ _ ⟨_,Cd,O⟩)
     |true=>
     obtain⟨i,r,rfl,d2,hi,hv⟩:=Bk.wP h1;obtain⟨b,g1,g2,cp,g3,g4⟩:=L.get hi;refine onT rfl ⟨_,Cd,_,Cd,C,_,_,_,Cd,Cd,Cb L.lst,yR g1,b,_,1,_,Cd,Cd,Cb g3,Cd,_,Cd,z2,λl2 a1=>?_⟩;have e2:=yE a1 (.lst [.int 7,.int 3000]);have b9:=e2 _ _ B;refine⟨_,Cd,_,Cd,g,_,_,_,Cd,Cd,Cb b9,yR o,_,_,Cd,Cd,(show(0:Int)<11 by decide),Cd,.inr ⟨_,Cd,?_⟩⟩;refine qB rfl rfl (Cb yB) b0 b1 (by simp) λj hj=>?_;have d0:j=7\/j=3000:=by simpa using hj
     refine⟨_,_,Cd,Cd,(show(0:Int)<j by omega),_,_,Cd,Cd,_,_,Cd,Cd,?_⟩;dsimp only[yW];exact a _ _ ⟨_,Cd,O.trans e2⟩
    ·have c:¬turn<12:=of_decide_eq_false (Bool.eq_false_iff.mpr c);refine⟨_,Cd,_,_,Cd,Cd,_,Cd,?_⟩;refine qG (λc2=>?_) (λc2=>?_)
     ·exact⟨_,Cd,_,Cd,_,Cd,_,Cd,C,g,rs,R,D,k,m,Cd,L,hR,B,U,λG v k5 hd=>q _ _ (O.trans k5) hd⟩
     ·have c2:¬turn<15:=of_decide_eq_false (Bool.eq_false_iff.mpr c2);exact⟨_,Cd,_,Cd,_,Cd,_,Cd,_,Cd,C,g,rs,R,D,k,m,turn,Cd,L,hR,B,X,by omega,b5,λG v k5 hd=>q _ _ (O.trans k5) hd⟩
  refine⟨_,Cd,_,Cd,g,_,_,_,Cd,Cd,Cb c1,yR o,_,_,Cd,Cd,(show(0:Int)<29 by decide),Cd,_,Cd,?_⟩;refine qG (λc=>?_) (λc=>a _ _ ⟨t0,Cd,k2⟩);refine⟨_,Cd,_,Cd,_,Cd,_,_,Cd,Cd,c60,_,_,Cd,Cd,p60,_,_,Cd,Cd,_,Cd,_,_,Cd,Cd,(show(0:Int)<990 by decide),z4,λl3 N=>⟨_,Cd,_,_,Cd,Cd,(show(0:Int)<4 by decide),?_⟩⟩;refine qB rfl rfl (Cb yB) (md0 (by decide)) (md1 (by decide)) (by simp) λt1 _=>?_;dsimp only[yW];exact a _ _ ⟨t1,Cd,k2.trans (yE N _)⟩
 refine⟨_,Cd,_,Cd,g,_,_,_,Cd,Cd,Cb J,yR o,_,_,Cd,Cd,(show(0:Int)<23 by decide),Cd,_,Cd,?_⟩;refine qG (λc=>?_) (λc=>a _ _ ⟨_,Cd,xG.refl _⟩);refine⟨_,Cd,_,Cd,C,_,Cd,.inl (Cb hB.lst),_,_,Cd,Cd,⟨by decide,by decide,by decide⟩,_,Cd,_,Cd,_,_,Cd,Cd,c60,_,_,Cd,Cd,p60,_,_,Cd,Cd,_,Cd,C,_,Cd,.inl (Cb hB.lst),_,Cd,_,_,Cd,Cd,c60,_,_,Cd,Cd,p60,_,_,Cd,Cd,zn (by show 5<=100000;omega),λl5 c0=>⟨_,Cd,_,_,Cd,Cd,(show(0:Int)<5 by decide),?_⟩⟩;refine qB rfl rfl (Cb yB) (md0 (by decide)) (md1 (by decide)) (by simp) λm1 _=>?_;dsimp only[yW];exact a _ _ ⟨m1,Cd,yE c0 _⟩
end
end Law
namespace Law
open PySem L2 PyProof.Rows
open Bk (Row Rows xR zI Ans)
open Desk (xA qE uV Wf Up Run xU wX)
abbrev aV9:Stmt:=xI Bw
inductive aXb(vs:List V)(H:Hp)(Q:VK)(_:XK):Prop|mk(ca:Nat)(ns:List Int)(_:vs= [.ref ca])(_:H ca=some (.lst (ns.map V.int)))(_:ns.length<=40)(_:∀ (H':Hp)(t ds us:Nat)(das:List Nat)(es:List zI)(vs:List V)(as:List Ans)(R:Rows)(S:List Int),xG H H'->H' t=some (.tup [.ref ds,.ref us])->xU H' ds das es->H' us=some (.lst vs)->cXk (λv a=>qE [] H' a v) vs as->Run [] [] es as R S->(∀e∈es,Wf e)->es.length<=ns.length+3->Q (.ref t) H')
def Mid.start{H k c n:Hp}(g:LGo H q sa [] [] k [])(i:List zI)(a:List Nat)(l:xG k c)(r:k ds=none)(t:c ds=some (.lst (a.map V.ref)))(m:xG c n)(f:c us=none)(v:n us=some (.lst []))(w:∀e∈i,Wf e)(len:a.length=i.length) (p:∀ (j:Nat)(d:Nat)(e:zI),a[j]? =some d->i[j]? =some e->c d=some (.tup (xA e))):Mid H q sa ds us i a 0 n:=by
 have ne:ds≠us:=λz=>by rw[<- z,t]at f;cases f
 obtain⟨R,S,s,_⟩:=g.ex;have d1:∀ {x},k x=none->x≠q/\x≠sa:=λ{x} h=>⟨λz=>(by rw[z,s.book.lst]at h;cases h),λz=>(by rw[z,s.shut]at h;cases h)⟩;refine⟨ne,w,len,λj d e u y=>m _ _ (p j d e u y),[],[],[],(g.same l).same m,⟨m _ _ t,g.keep.fresh r,(d1 r).1,(d1 r).2,by simp,λb o=>by simp at o⟩,⟨v,g.keep.fresh (l.fresh f),(d1 (l.fresh f)).1,(d1 (l.fresh f)).2,by simp,λb o=>by simp at o⟩,.nil⟩
section
variable {K:cQq}
def bZR:yN [AM,A0,AJ,Af,"_law_dues",AI,AG] [AM] (yH aV9):=scM
def bXM:xP [AM,A0,AJ,Af,"_law_dues",AI,AG] (yH aV9) AG [A0,AJ] [1,2] (lsN [(".0",.local),(AG,.local),(Av,.globalImplicit),(A0,.free),(AJ,.free)]):=
 lcM
seal PE PA PS PSs PT in
def bZe(T:vQ mg)(l:FnG P w K mg base 5 Av [A0,AJ,AG] aXL)(C:FnG P w K mg base 5 BT [A0,AM,AI] aWl)(F:Fun K Bw Bw aV9 f fd):xH P w K mg base CX0 6 f fd [AM] aXb:=by
 have sc:=bZR;refine F.ok (k:=5) sc (λd2 A outer s H vs Q E hr h=>?_);obtain⟨ca,ns,rfl,hc,hn,q⟩:=h;refine⟨_,(yC (yU (i:=1) (yZ yD)) (yC (yU (i:=2) (yZ yD)) (yC (yU (i:=3) (yZ yD)) (yC (yU (i:=4) (yZ yD)) (yC (y6 (PW.pt (uA (yM (wR hr.units0) (pv 0) (yZ yD)) (vM (yM zK (yV y3 (yL yK (pv 0) yF) yF) yF)))) (yC (yU (i:=3) (yZ (yA (y8 (yA yP (yA yF (yA yP (yA yF yD))))) (yA (y8 (yA yP (yA yF (yA yF (yA yF yD))))) (yA (y8 (yA yP (yA yF (yA yF yD)))) yD))))) (yG (aXs (i:=4) bXM rfl sc.nd rfl rfl (xQ (pv 3)) (λ_ _ _ _ _=>vC) (λ_ _ _ _ _=>(xN l hr rfl (yA (pv 1) (yA (pv 2) (yA (pv 0) yD)))))))) yT) (yC (wM cXg rfl (zP rfl T.b_range (yA (yS yO rfl T.b_len xE (yA (pv 0) yD)) yD)) (xF (i:=5)) (yC (yU (i:=6) (xN C hr rfl (yA (pv 1) (yA (pv 0) (yA (pv 5) yD))))) (yC (y0 (v8 cQU cQ3 cQ4 xL (pv 3) (yA (pv 6) yD))) (yG (y0 (v8 cQU cQ3 cQ4 xL (pv 4) (yA (xN l hr rfl (yA (pv 1) (yA (pv 2) (yA (pv 6) yD)))) yD))))))) (yG (yQ (y8 (yA (pv 3) (yA (pv 4) yD))))))))))),?_⟩;refine⟨z0,λU c2=>?_⟩;dsimp only[yW];refine⟨z0,λY c1=>?_⟩;dsimp only[yW];have g0:=LGo.start c2 c1;generalize upd (upd H U (.lst [])) Y (.lst [])=H2 at g0 ⊢;refine⟨z0,λB b1=>?_⟩;dsimp only[yW];refine⟨z0,λI b4=>?_⟩;dsimp only[yW];have k3:=yE b1 (.lst []);have k4:=yE b4 (.lst []);have M0:Mid H U Y B I [] [] 0 (upd (upd H2 B (.lst [])) I (.lst [])):=Mid.start g0 [] [] k3 b1 yB k4 b4 yB (λe h=>by simp at h) rfl (λj d e h=>by simp at h);have gk:=g0.same (k3.trans k4);generalize upd (upd H2 B (.lst [])) I (.lst [])=H4 at M0 gk k4 ⊢;have a9:=M0.keep _ _ hc;refine x9 (λσ' H'=>L2.Ez4 λ(B I:Nat)(x:List zI)(b:List Nat)=>σ'= [some (.ref ca),some (.ref U),some (.ref Y),some (.ref B),some (.ref I),none,none]/\Mid H U Y B I x b x.length H'/\x.length<=3) ?jX (λa5=>?_);case jX=>
  rintro σ' H5 ⟨B,I,x,b,rfl,M5,h3⟩;refine⟨_,Cd,ca,_,Cd,.inl (Cb (M5.keep _ _ hc)),?_⟩;rw[cQt];refine⟨_,Cd,by omega,by omega,?_⟩;rw[cQV];refine wV (λt σ H6=>L2.Ez4 λ(x:List zI)(b:List Nat)(o5 o6:Option V)=>σ= [some (.ref ca),some (.ref U),some (.ref Y),some (.ref B),some (.ref I),o5,o6]/\Mid H U Y B I x b x.length H6/\x.length<=3+t) ?_ ?_ ?_
  ·exact⟨x,b,none,none,Cd,M5,by omega⟩
  ·rintro k σ H6 hk ⟨x,b,o5,o6,rfl,Z,b9⟩;rw[cZL];dsimp only[yW];obtain⟨rs,as,vs,g6,s6,u6,p6⟩:=Z.ex;obtain⟨R,S,hL,hu,c3,N⟩:=g6.ex;have b7:=hu.r;rw[cXw]at b7;refine⟨_,Cd,_,Cd,_,Cd,U,ca,rs,R,ns,k,Cd,hL.book,by omega,Z.keep _ _ hc,hk,λH7 v k7 b5=>?_⟩;obtain⟨p,e,rfl,hp,hw⟩:=b5;dsimp only[yW];have M7:=Z.same k7;have b2:=k7 _ _ s6.at_;refine⟨_,Cd,.inl ⟨rfl,_,Cb b2⟩,_,Cd,B,_,_,Cd,Cd,b2,zlt (by rw[cQt,Z.len];omega),?_⟩;have el:b.map V.ref++ [V.ref p]=(b++ [p]).map V.ref:=by simp
   rw[el];have M8:=M7.push rfl hp hw;generalize upd H7 B (.lst ((b++ [p]).map V.ref))=H8 at M8 ⊢;obtain⟨d0,d1,c9,g8,s8,u8,p8⟩:=M8.ex;have h1:(b++ [p])[x.length]? =some p:=by rw[<- Z.len,cQK (cQv _),cXH];rfl
   have X:(x++ [e])[x.length]? =some e:=by rw[cQK (cQv _),cXH];rfl
   refine⟨_,Cd,.inl ⟨rfl,_,Cb u8.at_⟩,_,Cd,_,Cd,_,Cd,M8.next (by omega) h1 X λv H9 ws _ a8 c4 M9=>⟨I,_,_,Cd,Cd,a8,zlt (by omega),x++ [e],b++ [p],_,_,Cd,?_,by rw[cQL];simp;omega⟩⟩;rw[cQL];exact M9
  ·rintro σ H6 ⟨x,b,o5,o6,rfl,Z,b9⟩;refine⟨_,Cd,_,Cd,z2,λt ht=>?_⟩;have k6:=yE ht (.tup [.ref B,.ref I]);have M7:=Z.same k6;obtain⟨rs,as,vs,g7,s7,u7,p7⟩:=M7.ex;obtain⟨R,S,hL,hu,c3,N⟩:=g7.ex;rw[cXw]at N;exact q _ t B I b x vs as R S M7.keep yB ⟨s7.at_,M7.len,M7.at_⟩ u7.at_ (wX (λv a z=>aQc z λp u n e=>⟨by simp,e⟩) p7) N M7.wf (by omega)
 refine⟨_,Cd,z0,λpn b0=>⟨ca,pn,_,Cd,Cd,Cb ((yE b0 (.lst [])) _ _ a9),Cb yB,_,Cd,?_⟩⟩;have k5:=yE b0 (.lst []);generalize upd H4 pn (.lst [])=H5 at k5 ⊢;have a0:∀H',xG H4 H'->_:=λH' k=>a5 [some (.ref ca),some (.ref U),some (.ref Y),some (.ref B),some (.ref I),none,none] H' ⟨B,I,[],[],Cd,M0.same k,by simp⟩;by_cases W:ns= []
 ·subst W;exact onF rfl (onF rfl (a0 _ k5))
 have c6:(ns.map V.int)[0]? =some (.int (ns[0]'(cXy.mpr W))):=by rw[cQJ,cQn (cXy.mpr W)];rfl
 refine onT (by cases ns with|nil=>exact absurd rfl W|cons=>rfl) ⟨_,Cd,ca,_,_,_,Cd,Cd,Cb (k5 _ _ a9),yR (j:=0) c6,_,_,Cd,Cd,(show(0:Int)<5 by decide),Cd,_,Cd,?_⟩;refine qG (λc=>?_) (λc=>a0 _ k5);refine⟨z4,λG c0=>⟨z4,λJ b8=>⟨z3,λL b6=>⟨z3,λdl b3=>?_⟩⟩⟩⟩;have a1:=yE c0 (.tup (xA (.enter "in" 4 Bv 2)));have a2:=yE b8 (.tup (xA (.reply 0 4 1)));have a3:=yE b6 (.tup (xA (.hang 0 1)));have a4:=yE b3 (.lst ([G,J,L].map V.ref));have g5:=((gk.same k5).same a1).same (a2.trans a3);have e1:=a4 _ _ (a3 _ _ (a2 _ _ (yB (H:=H5) (a:=G) (o:= .tup (xA (.enter "in" 4 Bv 2))))));have e2:=a4 _ _ (a3 _ _ (yB (H:=upd H5 G (.tup (xA (.enter "in" 4 Bv 2)))) (a:=J) (o:= .tup (xA (.reply 0 4 1)))));have e3:=a4 _ _ (yB (H:=upd (upd H5 G (.tup (xA (.enter "in" 4 Bv 2)))) J (.tup (xA (.reply 0 4 1)))) (a:=L) (o:= .tup (xA (.hang 0 1))));have e4:=yB (H:=upd (upd (upd H5 G (.tup (xA (.enter "in" 4 Bv 2)))) J (.tup (xA (.reply 0 4 1)))) L (.tup (xA (.hang 0 1)))) (a:=dl) (o:= .lst ([G,J,L].map V.ref));have c8:∀D,upd (upd (upd (upd H5 G (.tup (xA (.enter "in" 4 Bv 2)))) J (.tup (xA (.reply 0 4 1)))) L (.tup (xA (.hang 0 1)))) dl (.lst ([G,J,L].map V.ref)) D=none->Mid H U Y dl D [.enter "in" 4 Bv 2,.reply 0 4 1,.hang 0 1] [G,J,L] 0 (upd (upd (upd (upd (upd H5 G (.tup (xA (.enter "in" 4 Bv 2)))) J (.tup (xA (.reply 0 4 1)))) L (.tup (xA (.hang 0 1)))) dl (.lst ([G,J,L].map V.ref))) D (.lst [])):=λD hD=>by
  refine Mid.start g5 _ _ a4 b3 e4 (yE hD (.lst [])) hD yB (λe he=>?_) rfl (λj d e h1 X=>?_)
  ·simp only[cQz,List.mem_nil_iff,or_false]at he;rcases he with rfl|rfl|rfl
   ·exact .inl rfl
   ·trivial
   ·trivial
  ·match j,h1,X with
   |0,h1,X=>cases h1;cases X;exact e1
   |1,h1,X=>cases h1;cases X;exact e2
   |2,h1,X=>cases h1;cases X;exact e3
 dsimp only[yW];refine⟨_,Cd,dl,Cd,⟨_,Cb e4⟩,λD hD=>?_⟩;have Z:=c8 D hD;refine⟨λi m ys H'=>m=3 - i/\i<=3/\H' D=some (.lst ys)/\Mid H U Y dl D [.enter "in" 4 Bv 2,.reply 0 4 1,.hang 0 1] [G,J,L] i H',⟨3,Cd,by omega,yB,Z⟩,?_⟩;rintro i m ys H' ⟨rfl,hi,a6,M⟩;refine⟨a6,?_⟩;obtain⟨rs,as,vs,g,s1,s2,p⟩:=M.ex;by_cases O:i<3
 ·have a7:([G,J,L]:List Nat)[i]? =some ([G,J,L][i]'(by simpa using O)):=cQn (by simpa using O);have c5:([.enter "in" 4 Bv 2,.reply 0 4 1,.hang 0 1]:List zI)[i]? =some (([.enter "in" 4 Bv 2,.reply 0 4 1,.hang 0 1]:List zI)[i]'(by simpa using O)):=cQn (by simpa using O);refine .inr ⟨⟨_,_,Cb s1.at_,by rw[cQJ,a7];rfl⟩,λv H7 yl=>?_⟩;obtain⟨rfl,y⟩:=yl;have hv:=y _ (Cb s1.at_);rw[cQJ,a7]at hv;cases hv;refine⟨_,Cd,_,Cd,_,Cd,?_⟩;refine M.next (by omega) a7 c5 λv H8 ws c7 a8 c4 M8=>?_;have ey:ys=ws:=by rw[c7]at a6;cases a6;rfl
  subst ey;exact⟨by rw[cQQ];omega,a8,3 - (i+1),by omega,Cd,O,yB,M8⟩
 ·have:i=3:=by omega
  subst this;refine .inl ⟨⟨_,Cb s1.at_,by simp⟩,?_⟩;exact a5 _ _ ⟨dl,D,_,_,Cd,M,by simp⟩
end
end Law
namespace Alike
open PySem L2 PyProof.Rows
open Law (xI)
abbrev bQf:Stmt:=xI Bx
abbrev bV1:Stmt:=xI C9
abbrev bQx:Stmt:=xI By
def xE:cQ7 CN=some (.builtin CN):=dk
def yY:cQ7 AV=some (.builtin AV):=dk
def uO:cQ7 As=some (.type As):=dk
def aQo:cQ7 Ah=some (.type Ah):=dk
def aJK:cQ7 An=some (.type An):=dk
def wD:cQ7 AB=some (.type AB):=dk
def w8:cQ7 AD=some (.type AD):=dk
structure vQ(mg:Str->Option cQp):Prop where
 b_len:mg CN=none
 b_sorted:mg AT=none
 b_isinstance:mg AV=none
 b_int:mg As=none
 b_str:mg Ah=none
 b_bool:mg An=none
 b_list:mg AB=none
 b_tuple:mg AD=none
 b_range:mg Ag=none
inductive bQ6(vs:List V)(H:Hp)(Q:VK)(_:XK):Prop|mk(n)(_:vs= [.int n])(_:Q (.bl true) H)
inductive bJK(K:cQq)(vs:List V)(H:Hp)(Q:VK)(_:XK):Prop|mk(a:Nat)(ns:List Int)(x y:Int)(_:vs= [.ref a,.int x,.int y])(_:SqL K H a (ns.map V.int))(_:ns.length<=63)(_:Q (.int x) H)
section
variable {K:cQq}
def bZV:yN [AH] [AH] (yH bQx):=scM
def bZi(T:vQ mg)(F:Fun K By By bQx f fd):xH P w K mg base CX0 1 f fd [AH] bQ6:=by
 have b:=bZV;refine F.ok (k:=0) b (λa A outer s H c Q E d h=>?_);obtain⟨n,rfl,q⟩:=h;refine⟨_,(yG (yQ (aV2 (yS zD rfl T.b_isinstance yY (yA (pv 0) (yA (xV (v:= .ty As) rfl T.b_int uO rfl) yD))) (aJd (bJC (yS zD rfl T.b_isinstance yY (yA (pv 0) (yA (xV (v:= .ty An) rfl T.b_bool aJK rfl) yD)))))))),?_⟩;refine⟨_,Cd,_,As,_,_,Cd,.int n,aXB _,_,Cd,onT rfl ?_⟩;exact⟨_,Cd,_,An,_,_,Cd,.int n,qI _,_,Cd,q⟩
def bWf:yN [AN,CA,Bz] [AN,CA,Bz] (yH bV1):=scM
def bVE(T:vQ mg)(F:Fun K C9 C9 bV1 f fd):xH P w K mg base CX0 1 f fd [AN,CA,Bz] (bJK K):=by
 have e:=bWf;refine F.ok (k:=0) e (λd A outer s H j Q E g h=>?_);obtain⟨a,i,x,y,rfl,c,b,q⟩:=h;refine⟨_,(yC (y6 (yM aXq (yS yO rfl T.b_len xE (yA (pv 0) yD)) yF) (yG (yQ (pv 2))) yT) (yG (yQ (pv 1)))),?_⟩;refine⟨_,Cd,a,_,Cd,.inl c,_,_,Cd,Cd,_,Cd,onF ?_ ⟨_,Cd,q⟩⟩;rw[cQt];exact decide_eq_false (by omega)
end
def Sq(K:cQq)(H:Hp)(a:Nat)(xs:List V):Prop:=H a=some (.lst xs)\/H a=some (.tup xs)
def Sq.same{K:cQq}{H b:Hp}{a:Nat}{xs:List V}(k:xG H b)(h:Sq K H a xs):Sq K b a xs:=h.imp (k _ _) (k _ _)
def Sq.ix{K:cQq}{H:Hp}{a:Nat}{xs:List V}{i:Nat}{v:V}{Q:VK}(h:Sq K H a xs)(e:xs[i]? =some v)(q:Q v H):rIx K (.ref a) (.int (i:Int)) H Q:=by
 rcases h with h|h
 ·exact .inl ⟨a,xs,_,v,Cd,Cd,Cb h,yR e,q⟩
 ·exact .inr (.inl ⟨a,xs,_,v,Cd,Cd,Cc h,yR e,q⟩)
def x2:List (Nat×Dt)->Nat
 |[]=>0
 |q::r=>q.2.size+x2 r
def y9:∀a b:List (Nat×Dt),x2 (a++b)=x2 a+x2 b
 |[],b=>by simp[x2]
 |q::r,b=>by rw[cJ7];show q.2.size+x2 (r++b)=q.2.size+x2 r+x2 b;rw[y9 r b];omega
def vO:∀ {a:List (Nat×Dt)} {ds:List Dt},a.map (·.2)=ds->x2 a=zY ds
 |[],[],_=>by simp[x2,zY]
 |q::r,d::ds,h=>by rw[cXa]at h;cases h;show q.2.size+x2 r=q.2.size+zY (r.map (·.2));rw[vO rfl]
 |[],_::_,h=>by cases h
 |_::_,[],h=>by cases h
def jD:∀qs:List (Nat×Dt),qs.length<=x2 qs
 |[]=>cQv _
 |q::r=>by
  have:=jD r;have a:1<=q.2.size:=by cases q.2<;> simp[Dt.size]
  show r.length+1<=q.2.size+x2 r;omega
def u9:∀ds:List Dt,ds.length<=zY ds
 |[]=>cQv _
 |d::r=>by
  have:=u9 r;have a:1<=d.size:=by cases d<;> simp[Dt.size]
  show r.length+1<=d.size+zY r;omega
def aVD{α:Type}:∀ {l:List α},l≠ []->∃a b,l=a++ [b]
 |[],h=>absurd rfl h
 |[x],_=>⟨[],x,rfl⟩
 |x::y::r,_=>by obtain⟨i,l,e⟩:=aVD (l:=y::r) (by simp);exact⟨x::i,l,by rw[e];rfl⟩
def zQ(k:xG a H)(h:a c=none):xG a (upd H c o):=λb u q=>by rw[yJ (yI q h)];exact k b u q
mutual
def nb:Dt->Bool
 |.bl _=>false
 |.lst a=>nbs a
 |.tup a=>nbs a
 |.non=>true
 |.int _=>true
 |.str _=>true
def nbs:List Dt->Bool
 |[]=>true
 |d::r=>nb d && nbs r
end
def aJZ:∀ {ds:List Dt} {i:Nat} (h:i<ds.length),nbs ds=true->nb ds[i]=true
 |d::r,0,h,e=>by unfold nbs at e;rw[Bool.and_eq_true]at e;exact e.1
 |d::r,i+1,h,e=>by unfold nbs at e;rw[Bool.and_eq_true]at e;exact aJZ (ds:=r) (by simpa using h) e.2
def bJV(a H:Hp)(q:Nat×Dt):Prop:=∃x y,H q.1=some (.tup [x,y])/\Is a x q.2/\Is a y q.2/\nb q.2=true
def bJV.keep(p:bJV d H q)(k:∀a b,H a=some (.tup b)->c a=some (.tup b)):bJV d c q:=let ⟨x,y,h,r⟩:=p;⟨x,y,k _ _ h,r⟩
def jF(h:H p=none):∀a b,H a=some (.tup b)->upd H p o a=some (.tup b):=λa b e=>by rw[yJ (yI e h)];exact e
def wZ(h:H p=some (.lst c)):∀a b,H a=some (.tup b)->upd H p o a=some (.tup b):=λa b e=>by rw[yJ (aXm e h (by intro z;cases z))];exact e
inductive WU(H0:Hp)(v u:V)(td:Nat)(m:Nat)(σ:L2.St)(H:Hp):Prop|mk(qs l r k)(_:σ= [some v,some u,some (.ref td),l,r,k])(_:xG H0 H)(_:H td=some (.lst (qs.map λq=> .ref q.1)))(_:(∀q∈qs,bJV H0 H q))(_:m=x2 qs)(_:x2 qs<=50000)
inductive bQR(vs:List V)(H:Hp)(Q:VK)(_:XK):Prop|mk(v u d)(_:vs= [v,u])(_:Is H v d)(_:Is H u d)(_:nb d=true)(_:d.size<=50000)(_:∀H',xG H H'->Q (.bl true) H')
section
variable {K:cQq}
def bZB:yN [AH,Az,"_law_todo",Ar,"_law_other",AI] [AH,Az] (yH bQf):=scM
seal PE PA PS PSs PT in
def bXY(T:vQ mg)(U:FnG P w K mg base 1 By [AH] bQ6)(F:Fun K Bx Bx bQf f fd):xH P w K mg base CX0 2 f fd [AH,Az] bQR:=by
 have sc:=bZB;refine F.ok (k:=1) sc (λc6 A outer s H0 vs Q E hr h=>?_);obtain⟨v,u,d,rfl,hv,hu,b7,hd,q⟩:=h;refine⟨_,(yC (yU (i:=2) (yZ (yA (y8 (yA (pv 0) (yA (pv 1) yD))) yD))) (yC (uG cXg (yM (wR hr.units0) (pv 2) (yZ yD)) (yC (vK (aY5 cQU cVb cVc aYF (pv 2)) (aJe rfl (zH (xF (i:=3)) (zH (xF (i:=4)) aQN)))) (yG (y6 (x8 (yS qR rfl T.b_isinstance yY (yA (pv 4) (yA (y8 (yA (xV (v:= .ty AB) rfl T.b_list wD rfl) (yA (xV (v:= .ty AD) rfl T.b_tuple w8 rfl) yD))) yD)))) (yC (y6 (yM Y1 (yS zD rfl T.b_isinstance yY (yA (pv 3) (yA (xV (v:= .ty AB) rfl T.b_list wD rfl) yD))) (yS zD rfl T.b_isinstance yY (yA (pv 4) (yA (xV (v:= .ty AB) rfl T.b_list wD rfl) yD)))) (yG (yQ vJ)) yT) (yC (y6 (yM Y1 (yS zD rfl T.b_isinstance yY (yA (pv 3) (yA (xV (v:= .ty AD) rfl T.b_tuple w8 rfl) yD))) (yS zD rfl T.b_isinstance yY (yA (pv 4) (yA (xV (v:= .ty AD) rfl T.b_tuple w8 rfl) yD)))) (yG (yQ vJ)) yT) (yC (y6 (yM Y1 (yS yO rfl T.b_len xE (yA (pv 3) yD)) (yS yO rfl T.b_len xE (yA (pv 4) yD))) (yG (yQ vJ)) yT) (yG (wM cXg rfl (zP rfl T.b_range (yA (yS yO rfl T.b_len xE (yA (pv 4) yD)) yD)) (xF (i:=5)) (yG (y0 (v8 cQU cQ3 cQ4 xL (pv 2) (yA (y8 (yA (yL aVS (pv 3) (pv 5)) (yA (yL aVS (pv 4) (pv 5)) yD))) yD))))))))) (yG (y6 (yM aXF (pv 4) x3) (yG (y6 (yM z8 (pv 3) x3) (yG (yQ vJ)) yT)) (yG (y6 (x8 (yS zD rfl T.b_isinstance yY (yA (pv 4) (yA (xV (v:= .ty Ah) rfl T.b_str aQo rfl) yD)))) (yG (y6 (PW.pt (jW (vL (x8 (yS zD rfl T.b_isinstance yY (yA (pv 3) (yA (xV (v:= .ty Ah) rfl T.b_str aQo rfl) yD))))) (vX (yM Y1 (pv 3) (pv 4))))) (yG (yQ vJ)) yT)) (yG (y6 (PW.pt (jW (vL (x8 (xN U hr rfl (yA (pv 3) yD)))) (vX (yM Y1 (pv 3) (pv 4))))) (yG (yQ vJ)) yT)))))))))) (yG (yQ vJ)))),?_⟩;refine⟨_,Cd,_,Cd,z2,λp0 b4=>⟨z1,λB b1=>?_⟩⟩;have a1:H0 B=none:=(yE b4 _).fresh b1;refine⟨WU H0 v u B,⟨d.size,[(p0,d)],none,none,none,Cd,zQ (yE b4 _) a1,yB,?_,by simp[x2],by simpa[x2]using hd⟩,?_⟩
 ·intro q t;rw[cQD.mp t];exact⟨v,u,jF b1 _ _ yB,hv,hu,b7⟩
 rintro m σ H ⟨qs,l,r,k,rfl,hk,hT,hP,rfl,a7⟩;refine⟨_,Cd,z0,λpn a0=>?_⟩;have c0:pn≠B:=cQ6 (yI hT a0);have a5:upd H pn (.lst []) B=some (.lst (qs.map λq=> .ref q.1)):=by rw[yJ (cQ6 c0)];exact hT
 refine⟨B,pn,_,Cd,Cd,Cb a5,Cb yB,_,Cd,?_⟩;by_cases b0:qs= []
 ·subst b0;rw[if_neg (by decide)];exact q _ (hk.trans (yE a0 _))
 obtain⟨c,⟨lp,d⟩,rfl⟩:=aVD b0;rw[if_pos (by simp)];refine⟨λC I=>∃m',m'<x2 (c++ [(lp,d)])/\WU H0 v u B m' C I,λC I z=>z,?_⟩;obtain⟨x,y,c1,hx,hy,D⟩:=hP (lp,d) (by simp);have a9:((c++ [(lp,d)]).map λq=>V.ref q.1)[((c++ [(lp,d)]).map λq=>V.ref q.1).length - 1]? =some (.ref lp):=by simp
 have a8:((c++ [(lp,d)]).map λq=>V.ref q.1).dropLast=c.map λq=>V.ref q.1:=by simp
 have b3:∀a N,H a=some (.tup N)->upd (upd H pn (.lst [])) B (.lst (c.map λq=>V.ref q.1)) a=some (.tup N):=λa N e=>wZ a5 _ _ (jF a0 _ _ e);refine⟨_,Cd,.inl ⟨rfl,_,Cb a5⟩,B,_,.ref lp,Cd,Cd,a5,a9,?_⟩;rw[a8];have L:xG H0 (upd (upd H pn (.lst [])) B (.lst (c.map λq=>V.ref q.1))):=zQ (hk.trans (yE a0 _)) a1;have a3:upd (upd H pn (.lst [])) B (.lst (c.map λq=>V.ref q.1)) B=some (.lst (c.map λq=> .ref q.1)):=yB;have a4:∀q∈c,bJV H0 (upd (upd H pn (.lst [])) B (.lst (c.map λq=>V.ref q.1))) q:=λq t=>(hP q (by simp[t])).keep b3;have a6:=b3 _ _ c1;generalize c4:upd (upd H pn (.lst [])) B (.lst (c.map λq=>V.ref q.1))=H2 at L a3 a4 a6 ⊢;refine⟨lp,[x,y],Cd,Cc a6,Cd,x,[y],Cd,y,[],Cd,Cd,?_⟩;have c7:1<=d.size:=by cases d<;> simp[Dt.size]
 have c5:x2 c+d.size<=50000:=by rw[y9]at a7;simpa[x2]using a7
 have hm:x2 c<x2 (c++ [(lp,d)]):=by rw[y9];simp[x2];omega
 have fin:∀H3,(∀b o,H2 b=some o->H3 b=some o)->∃m',m'<x2 (c++ [(lp,d)])/\WU H0 v u B m' [some v,some u,some (.ref B),some x,some y,k] H3:=λH3 k3=>
  ⟨x2 c,hm,c,some x,some y,k,Cd,L.trans k3,k3 _ _ a3,λq t=>(a4 q t).keep λa N e=>k3 _ _ e,Cd,by omega⟩
 refine⟨_,Cd,z2,λp1 b9=>?_⟩;have j:xG H2 (upd H2 p1 (.tup [.ty AB,.ty AD])):=yE b9 _;cases d with
 |non=>
  have ex:x= .non:=by unfold Is at hx;exact hx
  have ey:y= .non:=by unfold Is at hy;exact hy
  subst ex;subst ey;refine⟨_,p1,AB,AD,_,_,_,Cd,Cc yB,.non,uQ _,v1 _,_,Cd,onF rfl ?_⟩;refine⟨_,Cd,Cd,_,Cd,onT rfl ?_⟩;refine⟨_,Cd,Cd,_,Cd,onF rfl ?_⟩;exact fin _ j
 |bl b=>unfold nb at D;cases D
 |int n=>
  have ex:x= .int n:=by unfold Is at hx;exact hx
  have ey:y= .int n:=by unfold Is at hy;exact hy
  subst ex;subst ey;refine⟨_,p1,AB,AD,_,_,_,Cd,Cc yB,.int n,aQy _,Q0 _,_,Cd,onF rfl ?_⟩;refine⟨_,Cd,Cd,_,Cd,onF rfl ?_⟩;refine⟨_,Cd,_,Ah,_,_,Cd,.int n,jM _,_,Cd,onF rfl ?_⟩;refine⟨_,Cd,n,Cd,_,Cd,onF rfl ⟨_,Cd,_,Cd,Cd,_,Cd,onF (by simp) ?_⟩⟩;exact fin _ j
 |str z=>
  have ex:x= .str z:=by unfold Is at hx;exact hx
  have ey:y= .str z:=by unfold Is at hy;exact hy
  subst ex;subst ey;refine⟨_,p1,AB,AD,_,_,_,Cd,Cc yB,.str z,aQA _,Q1 _,_,Cd,onF rfl ?_⟩;refine⟨_,Cd,Cd,_,Cd,onF rfl ?_⟩;refine⟨_,Cd,_,Ah,_,_,Cd,.str z,vE _,_,Cd,onT rfl ?_⟩;refine⟨_,Cd,_,Ah,_,_,Cd,.str z,vE _,_,Cd,onF rfl ⟨_,Cd,_,Cd,Cd,_,Cd,onF (by simp) ?_⟩⟩;exact fin _ j
 |lst g=>
  unfold Is at hx hy;obtain⟨a,N,rfl,ha,W⟩:=hx;obtain⟨b,ys,rfl,hb,S⟩:=hy;have lx:=W.length;have ly:=S.length;have a2:=L _ _ ha;have O:=L _ _ hb;have b8:zY g+1<=50000:=by
   have:Dt.size (.lst g)=1+zY g:=by simp[Dt.size]
   omega
  have c2:g.length<=zY g:=u9 g;have D:nbs g=true:=by unfold nb at D;exact D
  refine⟨_,p1,AB,AD,_,_,_,Cd,Cc yB,.lst (j _ _ O),zM _,wE _,_,Cd,onT rfl ?_⟩;refine⟨_,Cd,_,AB,_,_,Cd,.lst (j _ _ a2),zM _,_,Cd,_,AB,_,_,Cd,.lst (j _ _ O),zM _,Cd,_,Cd,onF rfl ?_⟩;refine⟨_,Cd,_,AD,_,_,Cd,.lst (j _ _ a2),wE _,_,Cd,_,AD,_,_,Cd,.lst (j _ _ O),wE _,Cd,_,Cd,onF rfl ?_⟩;refine⟨_,Cd,a,_,Cd,.inl (Cb (j _ _ a2)),_,Cd,b,_,Cd,.inl (Cb (j _ _ O)),Cd,_,Cd,onF (by simp[lx,ly]) ?_⟩;refine⟨_,Cd,b,_,Cd,.inl (Cb (j _ _ O)),_,Cd,by omega,by omega,?_⟩;have Z:Dt.size (.lst g)=1+zY g:=by simp[Dt.size]
  generalize b5:upd H2 p1 (.tup [.ty AB,.ty AD])=H3 at j ⊢;refine wV (λi C I=>L2.Ez2 λ(G:List (Nat×Dt))(kk:Option V)=>C= [some v,some u,some (.ref B),some (.ref a),some (.ref b),kk]/\xG H0 I/\I B=some (.lst ((c++G).map λq=> .ref q.1))/\(∀q∈c++G,bJV H0 I q)/\G.map (·.2)=g.take i) ?_ ?_ ?_
  ·exact⟨[],k,Cd,L.trans j,by rw[cXr];exact j _ _ a3,λq t=>(a4 q (by simpa using t)).keep λa N e=>j _ _ e,rfl⟩
  ·rintro i C I hi ⟨G,kk,rfl,X,R,h3,Y⟩;have J:i<g.length:=by rw[<- ly];omega
   obtain⟨xi,ex,ix⟩:=W.get (cQn J);obtain⟨yi,ey,iy⟩:=S.get (cQn J);show aVH _ _ _ _;have sa:Sq K I a N:=Sq.same X (.inl ha);have sb:Sq K I b ys:=Sq.same X (.inl hb);refine⟨_,Cd,.inl ⟨rfl,_,Cb R⟩,_,Cd,_,Cd,?_⟩;rw[cZL];refine sa.ix ex ⟨_,Cd,_,Cd,?_⟩;refine sb.ix ey ⟨z2,λp hp=>?_⟩;have c3:G.length=i:=by have:=congrArg cZs Y;simp at this;omega
   have b6:=jD c;have M:upd I p (.tup [xi,yi]) B=some (.lst ((c++G).map λq=> .ref q.1)):=by rw[yJ (yI R hp)];exact R
   refine⟨B,_,.ref p,Cd,Cd,M,zlt (by simp;omega),G++ [(p,g[i])],_,Cd,zQ (X.trans (yE hp _)) a1,?_,?_,?_⟩
   ·rw[yB];simp
   ·intro q t;rw[<- cXL,cQY]at t;rcases t with t|t
    ·exact(h3 q t).keep λa N e=>wZ M _ _ (jF hp _ _ e)
    ·rw[cQD.mp t];exact⟨xi,yi,wZ M _ _ yB,ix,iy,aJZ J D⟩
   ·rw[cX2,Y,cXA,cQn J];rfl
  ·rintro C I ⟨G,kk,rfl,X,R,h3,Y⟩;have e1:g.take ((ys.length:Nat):Int).toNat=g:=by rw[cQV,ly,cXw]
   rw[e1]at Y;have e2:=vO Y;refine⟨x2 (c++G),?_,c++G,some (.ref a),some (.ref b),kk,Cd,X,R,h3,Cd,?_⟩
   ·rw[y9,y9,e2];simp[x2,Z]
   ·rw[y9,e2];omega
 |tup g=>
  unfold Is at hx hy;obtain⟨a,N,rfl,ha,W⟩:=hx;obtain⟨b,ys,rfl,hb,S⟩:=hy;have lx:=W.length;have ly:=S.length;have a2:=L _ _ ha;have O:=L _ _ hb;have b8:zY g+1<=50000:=by
   have:Dt.size (.tup g)=1+zY g:=by simp[Dt.size]
   omega
  have c2:g.length<=zY g:=u9 g;have D:nbs g=true:=by unfold nb at D;exact D
  refine⟨_,p1,AB,AD,_,_,_,Cd,Cc yB,.tup (j _ _ O),zF _,zX _,_,Cd,onT rfl ?_⟩;refine⟨_,Cd,_,AB,_,_,Cd,.tup (j _ _ a2),zF _,_,Cd,_,AB,_,_,Cd,.tup (j _ _ O),zF _,Cd,_,Cd,onF rfl ?_⟩;refine⟨_,Cd,_,AD,_,_,Cd,.tup (j _ _ a2),zX _,_,Cd,_,AD,_,_,Cd,.tup (j _ _ O),zX _,Cd,_,Cd,onF rfl ?_⟩;refine⟨_,Cd,a,_,Cd,.inr (Cc (j _ _ a2)),_,Cd,b,_,Cd,.inr (Cc (j _ _ O)),Cd,_,Cd,onF (by simp[lx,ly]) ?_⟩;refine⟨_,Cd,b,_,Cd,.inr (Cc (j _ _ O)),_,Cd,by omega,by omega,?_⟩;have Z:Dt.size (.tup g)=1+zY g:=by simp[Dt.size]
  generalize b5:upd H2 p1 (.tup [.ty AB,.ty AD])=H3 at j ⊢;refine wV (λi C I=>L2.Ez2 λ(G:List (Nat×Dt))(kk:Option V)=>C= [some v,some u,some (.ref B),some (.ref a),some (.ref b),kk]/\xG H0 I/\I B=some (.lst ((c++G).map λq=> .ref q.1))/\(∀q∈c++G,bJV H0 I q)/\G.map (·.2)=g.take i) ?_ ?_ ?_
  ·exact⟨[],k,Cd,L.trans j,by rw[cXr];exact j _ _ a3,λq t=>(a4 q (by simpa using t)).keep λa N e=>j _ _ e,rfl⟩
  ·rintro i C I hi ⟨G,kk,rfl,X,R,h3,Y⟩;have J:i<g.length:=by rw[<- ly];omega
   obtain⟨xi,ex,ix⟩:=W.get (cQn J);obtain⟨yi,ey,iy⟩:=S.get (cQn J);show aVH _ _ _ _;have sa:Sq K I a N:=Sq.same X (.inr ha);have sb:Sq K I b ys:=Sq.same X (.inr hb);refine⟨_,Cd,.inl ⟨rfl,_,Cb R⟩,_,Cd,_,Cd,?_⟩;rw[cZL];refine sa.ix ex ⟨_,Cd,_,Cd,?_⟩;refine sb.ix ey ⟨z2,λp hp=>?_⟩;have c3:G.length=i:=by have:=congrArg cZs Y;simp at this;omega
   have b6:=jD c;have M:upd I p (.tup [xi,yi]) B=some (.lst ((c++G).map λq=> .ref q.1)):=by rw[yJ (yI R hp)];exact R
   refine⟨B,_,.ref p,Cd,Cd,M,zlt (by simp;omega),G++ [(p,g[i])],_,Cd,zQ (X.trans (yE hp _)) a1,?_,?_,?_⟩
   ·rw[yB];simp
   ·intro q t;rw[<- cXL,cQY]at t;rcases t with t|t
    ·exact(h3 q t).keep λa N e=>wZ M _ _ (jF hp _ _ e)
    ·rw[cQD.mp t];exact⟨xi,yi,wZ M _ _ yB,ix,iy,aJZ J D⟩
   ·rw[cX2,Y,cXA,cQn J];rfl
  ·rintro C I ⟨G,kk,rfl,X,R,h3,Y⟩;have e1:g.take ((ys.length:Nat):Int).toNat=g:=by rw[cQV,ly,cXw]
   rw[e1]at Y;have e2:=vO Y;refine⟨x2 (c++G),?_,c++G,some (.ref a),some (.ref b),kk,Cd,X,R,h3,Cd,?_⟩
   ·rw[y9,y9,e2];simp[x2,Z]
   ·rw[y9,e2];omega
end
end Alike
set_option tactic.hygienic true
namespace Alike
open PySem L2 PyProof.Rows
open Bk (Row Rows xR zI Ans)
open Desk (xA qE stV xB)
def vDt:V->Dt
 |.int n=> .int n
 |.str x=> .str x
 |_=> .non
def aWy(v:V):Prop:=v= .non\/(∃n,v= .int n)\/∃x,v= .str x
def aWy.is(h:aWy v):Is H v (vDt v):=by
 rcases h with rfl|⟨n,rfl⟩|⟨x,rfl⟩
 ·show Is H .non .non;unfold Is;rfl
 ·show Is H (.int n) (.int n);unfold Is;rfl
 ·show Is H (.str x) (.str x);unfold Is;rfl
def aQv{H:Hp}:∀ {xs:List V},(∀v∈xs,aWy v)->x4 H xs (xs.map vDt)
 |[],_=>by show x4 H [] [];unfold x4;trivial
 |x::xs,h=>by show x4 H (x::xs) (vDt x::xs.map vDt);unfold x4;exact⟨(h x cQG).is,aQv λv a=>h v (cQB _ a)⟩
def wA{α:Type}{F:V->α->Prop}{g:α->Dt}(c:∀v a,F v a->Is H v (g a)):∀ {vs:List V} {b:List α},cXk F vs b->x4 H vs (b.map g)
 |_,_,.nil=>by show x4 H [] [];unfold x4;trivial
 |_,_,.cons r t=>by rw[cXa];unfold x4;exact⟨c _ _ r,wA c t⟩
def bY7(v:V):nb (vDt v)=true:=by cases v<;> (unfold vDt;unfold nb;rfl)
def aJ0{α:Type}{g:α->Dt}(h:∀a,nb (g a)=true):∀l:List α,nbs (l.map g)=true
 |[]=>by show nbs []=true;unfold nbs;rfl
 |a::l=>by rw[cXa];unfold nbs;rw[h a,aJ0 h l];rfl
def bZ2(r:Row):∀v∈stV r,aWy v:=by
 intro v a;unfold stV at a;simp only[cQz,List.mem_nil_iff,or_false]at a;rcases a with rfl|rfl|rfl|rfl|rfl|rfl
 ·exact .inr (.inr ⟨_,rfl⟩)
 ·exact .inr (.inl ⟨_,rfl⟩)
 ·exact .inr (.inr ⟨_,rfl⟩)
 ·exact .inr (.inl ⟨_,rfl⟩)
 ·cases r.link with
  |none=>exact .inl rfl
  |some j=>exact .inr (.inl ⟨_,rfl⟩)
 ·unfold Desk.qW;split
  ·exact .inl rfl
  ·exact .inr (.inr ⟨_,rfl⟩)
def z9(r:Row):Dt:=if r.void then .str AW else .tup ((stV r).map vDt)
def bJu{H:Hp}{p:Nat}{xs:List V}(h:H p=some (.tup xs))(k:∀v∈xs,aWy v):Is H (.ref p) (.tup (xs.map vDt)):=by
 unfold Is;exact⟨p,xs,Cd,h,aQv k⟩
def jL(h:xB H r v):Is H v (z9 r):=by
 unfold xB at h;unfold z9;split
 ·rename_i e;rw[if_pos e]at h;unfold Is;exact h
 ·rename_i e;rw[if_neg e]at h;obtain⟨p,e,q⟩:=h;subst e;exact bJu q (bZ2 r)
def aVV(r:Row):nb (z9 r)=true:=by
 unfold z9;split
 ·unfold nb;rfl
 ·unfold nb;exact aJ0 bY7 _
end Alike
namespace Alike
open PySem L2 PyProof.Rows
open Bk (Row Rows xR zI Ans)
open Desk (xA qE stV xB Up Run)
def aXI{α:Type}{g:α->Dt}(h:∀a,(g a).size=1):∀l:List α,zY (l.map g)=l.length
 |[]=>by simp[zY]
 |a::l=>by rw[cXa];show(g a).size+zY (l.map g)=l.length+1;rw[h a,aXI h l];omega
def aWc{α:Type}{g:α->Dt}:∀ (l:List α),(∀a∈l,(g a).size<=c)->zY (l.map g)<=l.length*c
 |[],_=>by simp[zY]
 |a::l,h=>by rw[cXa,cXp,Nat.succ_mul];show(g a).size+zY (l.map g)<=_;have e:=h a cQG;have f:=aWc l λb d=>h b (cQB _ d);omega
def bKX(v:V):(vDt v).size=1:=by cases v<;> simp[vDt,Dt.size]
def W5(r:Row):(z9 r).size<=7:=by
 unfold z9;split
 ·simp[Dt.size]
 ·have h:Dt.size (.tup ((stV r).map vDt))=1+zY ((stV r).map vDt):=by simp[Dt.size]
  rw[h,aXI bKX];simp[stV]
end Alike
set_option tactic.hygienic false
namespace Alike
open PySem L2 PyProof.Rows
open Law (xI)
abbrev aQW:Stmt:=xI BJ
abbrev sAt:Stmt:=xI CY
inductive aWf(K:cQq)(vs:List V)(H:Hp)(Q:VK)(_:XK):Prop|mk(a:Nat)(ns:List Int)(k:Nat)(_:vs= [.ref a,.int (k:Int)])(_:SqL K H a (ns.map V.int))(_:Q (.int (ns.getD k 0)) H)
section
variable {K:cQq}
def bV6:yN [AN,AI] [AN,AI] (yH sAt):=scM
seal PE PA PS PSs PT in
def bVt(T:vQ mg)(F:Fun K CY CY sAt f fd):xH P w K mg base CX0 1 f fd [AN,AI] (aWf K):=by
 have l:=bV6;refine F.ok (k:=0) l (λj A outer s H n Q E m h=>?_);obtain⟨a,b,k,rfl,g,q⟩:=h;refine⟨_,(yC (y6 (yM vR (pv 1) (yS yO rfl T.b_len xE (yA (pv 0) yD))) (yG (yQ (yL yK (pv 0) (pv 1)))) yT) (yG (yQ yF))),?_⟩;refine⟨_,Cd,_,Cd,a,_,Cd,.inl g,_,_,Cd,Cd,_,Cd,?_⟩;refine qG (λc=>?_) (λc=>?_)
 ·have d:=of_decide_eq_true c;have i:k<b.length:=by rw[cQt]at d;omega
  refine⟨_,Cd,_,Cd,a,_,_,.int (b.getD k 0),Cd,Cd,g,yR ?_,q⟩;simp[cQJ,cQ8,cQn i]
 ·have d:=of_decide_eq_false (Bool.eq_false_iff.mpr c);have i:¬k<b.length:=by rw[cQt]at d;omega
  have e:b.getD k 0=0:=by simp[cQ8,cQW (show b.length<=k by omega)]
  rw[e]at q;exact q
end
def aJE(a H:Hp)(q:Nat×Dt):Prop:=∃x y,H q.1=some (.tup [x,y])/\Is a x q.2/\Is a y q.2
def aJE.keep(p:aJE d H q)(k:∀a b,H a=some (.tup b)->c a=some (.tup b)):aJE d c q:=let ⟨x,y,h,r⟩:=p;⟨x,y,k _ _ h,r⟩
inductive WUU(H0:Hp)(v u:V)(td:Nat)(m:Nat)(σ:L2.St)(H:Hp):Prop|mk(qs l r k)(_:σ= [some v,some u,some (.ref td),l,r,k])(_:xG H0 H)(_:H td=some (.lst (qs.map λq=> .ref q.1)))(_:(∀q∈qs,aJE H0 H q))(_:m=x2 qs)(_:x2 qs<=1000)
inductive aXM(vs:List V)(H:Hp)(Q:VK)(_:XK):Prop|mk(v u d)(_:vs= [v,u])(_:Is H v d)(_:Is H u d)(_:d.size<=1000)(_:∀H',xG H H'->Q (.bl true) H')
section
variable {K:cQq}
def aVC:yN [AH,Az,"_law_todo","_law_left","_law_right",AI] [AH,Az] (yH aQW):=scM
seal PE PA PS PSs PT in
def aVb(T:vQ mg)(F:Fun K BJ BJ aQW f fd):xH P w K mg base CX0 1 f fd [AH,Az] aXM:=by
 have sc:=aVC;refine F.ok (k:=0) sc (λc6 A outer s H0 vs Q E hr h=>?_);obtain⟨v,u,d,rfl,hv,hu,hd,q⟩:=h;refine⟨_,(yC (yU (i:=2) (yZ (yA (y8 (yA (pv 0) (yA (pv 1) yD))) yD))) (yC (uG cXg (yM (wR hr.units0) (pv 2) (yZ yD)) (yC (vK (aY5 cQU cVb cVc aYF (pv 2)) (aJe rfl (zH (xF (i:=3)) (zH (xF (i:=4)) aQN)))) (yG (y6 (x8 (yS qR rfl T.b_isinstance yY (yA (pv 4) (yA (y8 (yA (xV (v:= .ty AB) rfl T.b_list wD rfl) (yA (xV (v:= .ty AD) rfl T.b_tuple w8 rfl) yD))) yD)))) (yC (y6 (yM Y1 (yS zD rfl T.b_isinstance yY (yA (pv 3) (yA (xV (v:= .ty AB) rfl T.b_list wD rfl) yD))) (yS zD rfl T.b_isinstance yY (yA (pv 4) (yA (xV (v:= .ty AB) rfl T.b_list wD rfl) yD)))) (yG (yQ vJ)) yT) (yC (y6 (PW.pt (jW (vL (x8 (yS qR rfl T.b_isinstance yY (yA (pv 3) (yA (y8 (yA (xV (v:= .ty AB) rfl T.b_list wD rfl) (yA (xV (v:= .ty AD) rfl T.b_tuple w8 rfl) yD))) yD))))) (vX (yM Y1 (yS yO rfl T.b_len xE (yA (pv 3) yD)) (yS yO rfl T.b_len xE (yA (pv 4) yD)))))) (yG (yQ vJ)) yT) (yG (wM cXg rfl (zP rfl T.b_range (yA (yS yO rfl T.b_len xE (yA (pv 4) yD)) yD)) (xF (i:=5)) (yG (y0 (v8 cQU cQ3 cQ4 xL (pv 2) (yA (y8 (yA (yL aVS (pv 3) (pv 5)) (yA (yL aVS (pv 4) (pv 5)) yD))) yD)))))))) (yG (y6 (PW.pt (jW (yM aXF (pv 3) x3) (vX (yM aXF (pv 4) x3)))) (yG (y6 (PW.pt (jW (yM z8 (pv 3) x3) (vX (yM z8 (pv 4) x3)))) (yG (yQ vJ)) yT)) (yG (y6 (yM Y1 (yS zD rfl T.b_isinstance yY (yA (pv 3) (yA (xV (v:= .ty An) rfl T.b_bool aJK rfl) yD))) (yS zD rfl T.b_isinstance yY (yA (pv 4) (yA (xV (v:= .ty An) rfl T.b_bool aJK rfl) yD)))) (yG (yQ vJ)) (yG (y6 (yM Y1 (yS zD rfl T.b_isinstance yY (yA (pv 3) (yA (xV (v:= .ty Ah) rfl T.b_str aQo rfl) yD))) (yS zD rfl T.b_isinstance yY (yA (pv 4) (yA (xV (v:= .ty Ah) rfl T.b_str aQo rfl) yD)))) (yG (yQ vJ)) (yG (y6 (PW.pt (jW (vL (x8 (yS qR rfl T.b_isinstance yY (yA (pv 3) (yA (y8 (yA (xV (v:= .ty Ah) rfl T.b_str aQo rfl) (yA (xV (v:= .ty As) rfl T.b_int uO rfl) yD))) yD))))) (vX (yM Y1 (pv 3) (pv 4))))) (yG (yQ vJ)) yT)))))))))))) (yG (yQ vJ)))),?_⟩;refine⟨_,Cd,_,Cd,z2,λp0 b5=>⟨z1,λt b3=>?_⟩⟩;have a3:H0 t=none:=(yE b5 _).fresh b3;refine⟨WUU H0 v u t,⟨d.size,[(p0,d)],none,none,none,Cd,zQ (yE b5 _) a3,yB,?_,by simp[x2],by simpa[x2]using hd⟩,?_⟩
 ·intro q j;rw[cQD.mp j];exact⟨v,u,jF b3 _ _ yB,hv,hu⟩
 rintro m σ H ⟨qs,l,r,k,rfl,hk,hT,hP,rfl,a8⟩;refine⟨_,Cd,z0,λpn a1=>?_⟩;have c0:pn≠t:=cQ6 (yI hT a1);have a6:upd H pn (.lst []) t=some (.lst (qs.map λq=> .ref q.1)):=by rw[yJ (cQ6 c0)];exact hT
 refine⟨t,pn,_,Cd,Cd,Cb a6,Cb yB,_,Cd,?_⟩;by_cases b1:qs= []
 ·subst b1;rw[if_neg (by decide)];exact q _ (hk.trans (yE a1 _))
 obtain⟨c,⟨lp,d⟩,rfl⟩:=aVD b1;rw[if_pos (by simp)];refine⟨λB D=>∃m',m'<x2 (c++ [(lp,d)])/\WUU H0 v u t m' B D,λB D z=>z,?_⟩;obtain⟨x,y,c1,S,O⟩:=hP (lp,d) (by simp);have b0:((c++ [(lp,d)]).map λq=>V.ref q.1)[((c++ [(lp,d)]).map λq=>V.ref q.1).length - 1]? =some (.ref lp):=by simp
 have a9:((c++ [(lp,d)]).map λq=>V.ref q.1).dropLast=c.map λq=>V.ref q.1:=by simp
 have b4:∀a N,H a=some (.tup N)->upd (upd H pn (.lst [])) t (.lst (c.map λq=>V.ref q.1)) a=some (.tup N):=λa N e=>wZ a6 _ _ (jF a1 _ _ e);refine⟨_,Cd,.inl ⟨rfl,_,Cb a6⟩,t,_,.ref lp,Cd,Cd,a6,b0,?_⟩;rw[a9];have J:xG H0 (upd (upd H pn (.lst [])) t (.lst (c.map λq=>V.ref q.1))):=zQ (hk.trans (yE a1 _)) a3;have a4:upd (upd H pn (.lst [])) t (.lst (c.map λq=>V.ref q.1)) t=some (.lst (c.map λq=> .ref q.1)):=yB;have a5:∀q∈c,aJE H0 (upd (upd H pn (.lst [])) t (.lst (c.map λq=>V.ref q.1))) q:=λq j=>(hP q (by simp[j])).keep b4;have a7:=b4 _ _ c1;generalize c4:upd (upd H pn (.lst [])) t (.lst (c.map λq=>V.ref q.1))=H2 at J a4 a5 a7 ⊢;refine⟨lp,[x,y],Cd,Cc a7,Cd,x,[y],Cd,y,[],Cd,Cd,?_⟩;have c7:1<=d.size:=by cases d<;> simp[Dt.size]
 have c5:x2 c+d.size<=1000:=by rw[y9]at a8;simpa[x2]using a8
 have hm:x2 c<x2 (c++ [(lp,d)]):=by rw[y9];simp[x2];omega
 have fin:∀H3,(∀b o,H2 b=some o->H3 b=some o)->∃m',m'<x2 (c++ [(lp,d)])/\WUU H0 v u t m' [some v,some u,some (.ref t),some x,some y,k] H3:=λH3 k3=>
  ⟨x2 c,hm,c,some x,some y,k,Cd,J.trans k3,k3 _ _ a4,λq j=>(a5 q j).keep λa N e=>k3 _ _ e,Cd,by omega⟩
 refine⟨_,Cd,z2,λp1 b9=>?_⟩;have R:xG H2 (upd H2 p1 (.tup [.ty AB,.ty AD])):=yE b9 _;cases d with
 |non=>
  have ex:x= .non:=by unfold Is at S;exact S
  have X:y= .non:=by unfold Is at O;exact O
  subst ex;subst X;refine⟨_,p1,AB,AD,_,_,_,Cd,Cc yB,.non,uQ _,v1 _,_,Cd,onF rfl ?_⟩;refine⟨_,Cd,Cd,_,Cd,onT rfl (onT rfl ?_)⟩;refine⟨_,Cd,Cd,_,Cd,onF rfl ?_⟩;refine⟨_,Cd,Cd,_,Cd,onF rfl ?_⟩;exact fin _ R
 |bl b=>
  have ex:x= .bl b:=by unfold Is at S;exact S
  have X:y= .bl b:=by unfold Is at O;exact O
  subst ex;subst X;refine⟨_,p1,AB,AD,_,_,_,Cd,Cc yB,.bl b,aZZ _,aX0 _,_,Cd,onF rfl ?_⟩;refine⟨_,Cd,Cd,_,Cd,onF rfl ?_⟩;refine⟨_,Cd,Cd,_,Cd,onF rfl ?_⟩;refine⟨_,Cd,_,An,_,_,Cd,.bl b,J9 _,_,Cd,_,An,_,_,Cd,.bl b,J9 _,Cd,_,Cd,onF rfl ?_⟩;refine⟨_,Cd,_,Ah,_,_,Cd,.bl b,qH _,_,Cd,_,Ah,_,_,Cd,.bl b,qH _,Cd,_,Cd,onF rfl ?_⟩;refine⟨_,Cd,z2,λU G=>?_⟩;refine⟨_,U,Ah,As,_,_,_,Cd,Cc yB,.bl b,qH _,aJU _,_,Cd,onF rfl ?_⟩;refine⟨_,Cd,_,Cd,Cd,_,Cd,onF (by simp) ?_⟩;exact fin _ (R.trans (yE G _))
 |int n=>
  have ex:x= .int n:=by unfold Is at S;exact S
  have X:y= .int n:=by unfold Is at O;exact O
  subst ex;subst X;refine⟨_,p1,AB,AD,_,_,_,Cd,Cc yB,.int n,aQy _,Q0 _,_,Cd,onF rfl ?_⟩;refine⟨_,Cd,Cd,_,Cd,onF rfl ?_⟩;refine⟨_,Cd,Cd,_,Cd,onF rfl ?_⟩;refine⟨_,Cd,_,An,_,_,Cd,.int n,qI _,_,Cd,_,An,_,_,Cd,.int n,qI _,Cd,_,Cd,onF rfl ?_⟩;refine⟨_,Cd,_,Ah,_,_,Cd,.int n,jM _,_,Cd,_,Ah,_,_,Cd,.int n,jM _,Cd,_,Cd,onF rfl ?_⟩;refine⟨_,Cd,z2,λU G=>?_⟩;refine⟨_,U,Ah,As,_,_,_,Cd,Cc yB,.int n,jM _,aXB _,_,Cd,onF rfl ?_⟩;refine⟨_,Cd,_,Cd,Cd,_,Cd,onF (by simp) ?_⟩;exact fin _ (R.trans (yE G _))
 |str z=>
  have ex:x= .str z:=by unfold Is at S;exact S
  have X:y= .str z:=by unfold Is at O;exact O
  subst ex;subst X;refine⟨_,p1,AB,AD,_,_,_,Cd,Cc yB,.str z,aQA _,Q1 _,_,Cd,onF rfl ?_⟩;refine⟨_,Cd,Cd,_,Cd,onF rfl ?_⟩;refine⟨_,Cd,Cd,_,Cd,onF rfl ?_⟩;refine⟨_,Cd,_,An,_,_,Cd,.str z,aQz _,_,Cd,_,An,_,_,Cd,.str z,aQz _,Cd,_,Cd,onF rfl ?_⟩;refine⟨_,Cd,_,Ah,_,_,Cd,.str z,vE _,_,Cd,_,Ah,_,_,Cd,.str z,vE _,Cd,_,Cd,onF rfl ?_⟩;refine⟨_,Cd,z2,λU G=>?_⟩;refine⟨_,U,Ah,As,_,_,_,Cd,Cc yB,.str z,vE _,aWU _,_,Cd,onF rfl ?_⟩;refine⟨_,Cd,_,Cd,Cd,_,Cd,onF (by simp) ?_⟩;exact fin _ (R.trans (yE G _))
 |lst g=>
  unfold Is at S O;obtain⟨a,N,rfl,ha,Z⟩:=S;obtain⟨b,ys,rfl,hb,Y⟩:=O;have lx:=Z.length;have ly:=Y.length;have a2:=J _ _ ha;have b2:=J _ _ hb;have b8:zY g+1<=1000:=by
   have:Dt.size (.lst g)=1+zY g:=by simp[Dt.size]
   omega
  have c2:g.length<=zY g:=u9 g;refine⟨_,p1,AB,AD,_,_,_,Cd,Cc yB,.lst (R _ _ b2),zM _,wE _,_,Cd,onT rfl ?_⟩;refine⟨_,Cd,_,AB,_,_,Cd,.lst (R _ _ a2),zM _,_,Cd,_,AB,_,_,Cd,.lst (R _ _ b2),zM _,Cd,_,Cd,onF rfl ?_⟩;refine⟨_,Cd,z2,λU G=>?_⟩;have I:=R.trans (yE G (.tup [.ty AB,.ty AD]));refine⟨_,U,AB,AD,_,_,_,Cd,Cc yB,.lst (I _ _ a2),zM _,wE _,_,Cd,onF rfl ?_⟩;refine⟨_,Cd,a,_,Cd,.inl (Cb (I _ _ a2)),_,Cd,b,_,Cd,.inl (Cb (I _ _ b2)),Cd,_,Cd,onF (by simp[lx,ly]) ?_⟩;refine⟨_,Cd,b,_,Cd,.inl (Cb (I _ _ b2)),_,Cd,by omega,by omega,?_⟩;have a0:Dt.size (.lst g)=1+zY g:=by simp[Dt.size]
  generalize b6:upd (upd H2 p1 (.tup [.ty AB,.ty AD])) U (.tup [.ty AB,.ty AD])=H3 at I ⊢;refine wV (λi B D=>L2.Ez2 λ(C:List (Nat×Dt))(kk:Option V)=>B= [some v,some u,some (.ref t),some (.ref a),some (.ref b),kk]/\xG H0 D/\D t=some (.lst ((c++C).map λq=> .ref q.1))/\(∀q∈c++C,aJE H0 D q)/\C.map (·.2)=g.take i) ?_ ?_ ?_
  ·exact⟨[],k,Cd,J.trans I,by rw[cXr];exact I _ _ a4,λq j=>(a5 q (by simpa using j)).keep λa N e=>I _ _ e,rfl⟩
  ·rintro i B D hi ⟨C,kk,rfl,h1,W,h3,h4⟩;have L:i<g.length:=by rw[<- ly];omega
   obtain⟨xi,ex,ix⟩:=Z.get (cQn L);obtain⟨yi,X,iy⟩:=Y.get (cQn L);show aVH _ _ _ _;have sa:Sq K D a N:=Sq.same h1 (.inl ha);have sb:Sq K D b ys:=Sq.same h1 (.inl hb);refine⟨_,Cd,.inl ⟨rfl,_,Cb W⟩,_,Cd,_,Cd,?_⟩;rw[cZL];refine sa.ix ex ⟨_,Cd,_,Cd,?_⟩;refine sb.ix X ⟨z2,λp hp=>?_⟩;have c3:C.length=i:=by have:=congrArg cZs h4;simp at this;omega
   have b7:=jD c;have M:upd D p (.tup [xi,yi]) t=some (.lst ((c++C).map λq=> .ref q.1)):=by rw[yJ (yI W hp)];exact W
   refine⟨t,_,.ref p,Cd,Cd,M,zlt (by simp;omega),C++ [(p,g[i])],_,Cd,zQ (h1.trans (yE hp _)) a3,?_,?_,?_⟩
   ·rw[yB];simp
   ·intro q j;rw[<- cXL,cQY]at j;rcases j with j|j
    ·exact(h3 q j).keep λa N e=>wZ M _ _ (jF hp _ _ e)
    ·rw[cQD.mp j];exact⟨xi,yi,wZ M _ _ yB,ix,iy⟩
   ·rw[cX2,h4,cXA,cQn L];rfl
  ·rintro B D ⟨C,kk,rfl,h1,W,h3,h4⟩;have e1:g.take ((ys.length:Nat):Int).toNat=g:=by rw[cQV,ly,cXw]
   rw[e1]at h4;have e2:=vO h4;refine⟨x2 (c++C),?_,c++C,some (.ref a),some (.ref b),kk,Cd,h1,W,h3,Cd,?_⟩
   ·rw[y9,y9,e2];simp[x2,a0]
   ·rw[y9,e2];omega
 |tup g=>
  unfold Is at S O;obtain⟨a,N,rfl,ha,Z⟩:=S;obtain⟨b,ys,rfl,hb,Y⟩:=O;have lx:=Z.length;have ly:=Y.length;have a2:=J _ _ ha;have b2:=J _ _ hb;have b8:zY g+1<=1000:=by
   have:Dt.size (.tup g)=1+zY g:=by simp[Dt.size]
   omega
  have c2:g.length<=zY g:=u9 g;refine⟨_,p1,AB,AD,_,_,_,Cd,Cc yB,.tup (R _ _ b2),zF _,zX _,_,Cd,onT rfl ?_⟩;refine⟨_,Cd,_,AB,_,_,Cd,.tup (R _ _ a2),zF _,_,Cd,_,AB,_,_,Cd,.tup (R _ _ b2),zF _,Cd,_,Cd,onF rfl ?_⟩;refine⟨_,Cd,z2,λU G=>?_⟩;have I:=R.trans (yE G (.tup [.ty AB,.ty AD]));refine⟨_,U,AB,AD,_,_,_,Cd,Cc yB,.tup (I _ _ a2),zF _,zX _,_,Cd,onF rfl ?_⟩;refine⟨_,Cd,a,_,Cd,.inr (Cc (I _ _ a2)),_,Cd,b,_,Cd,.inr (Cc (I _ _ b2)),Cd,_,Cd,onF (by simp[lx,ly]) ?_⟩;refine⟨_,Cd,b,_,Cd,.inr (Cc (I _ _ b2)),_,Cd,by omega,by omega,?_⟩;have a0:Dt.size (.tup g)=1+zY g:=by simp[Dt.size]
  generalize b6:upd (upd H2 p1 (.tup [.ty AB,.ty AD])) U (.tup [.ty AB,.ty AD])=H3 at I ⊢;refine wV (λi B D=>L2.Ez2 λ(C:List (Nat×Dt))(kk:Option V)=>B= [some v,some u,some (.ref t),some (.ref a),some (.ref b),kk]/\xG H0 D/\D t=some (.lst ((c++C).map λq=> .ref q.1))/\(∀q∈c++C,aJE H0 D q)/\C.map (·.2)=g.take i) ?_ ?_ ?_
  ·exact⟨[],k,Cd,J.trans I,by rw[cXr];exact I _ _ a4,λq j=>(a5 q (by simpa using j)).keep λa N e=>I _ _ e,rfl⟩
  ·rintro i B D hi ⟨C,kk,rfl,h1,W,h3,h4⟩;have L:i<g.length:=by rw[<- ly];omega
   obtain⟨xi,ex,ix⟩:=Z.get (cQn L);obtain⟨yi,X,iy⟩:=Y.get (cQn L);show aVH _ _ _ _;have sa:Sq K D a N:=Sq.same h1 (.inr ha);have sb:Sq K D b ys:=Sq.same h1 (.inr hb);refine⟨_,Cd,.inl ⟨rfl,_,Cb W⟩,_,Cd,_,Cd,?_⟩;rw[cZL];refine sa.ix ex ⟨_,Cd,_,Cd,?_⟩;refine sb.ix X ⟨z2,λp hp=>?_⟩;have c3:C.length=i:=by have:=congrArg cZs h4;simp at this;omega
   have b7:=jD c;have M:upd D p (.tup [xi,yi]) t=some (.lst ((c++C).map λq=> .ref q.1)):=by rw[yJ (yI W hp)];exact W
   refine⟨t,_,.ref p,Cd,Cd,M,zlt (by simp;omega),C++ [(p,g[i])],_,Cd,zQ (h1.trans (yE hp _)) a3,?_,?_,?_⟩
   ·rw[yB];simp
   ·intro q j;rw[<- cXL,cQY]at j;rcases j with j|j
    ·exact(h3 q j).keep λa N e=>wZ M _ _ (jF hp _ _ e)
    ·rw[cQD.mp j];exact⟨xi,yi,wZ M _ _ yB,ix,iy⟩
   ·rw[cX2,h4,cXA,cQn L];rfl
  ·rintro B D ⟨C,kk,rfl,h1,W,h3,h4⟩;have e1:g.take ((ys.length:Nat):Int).toNat=g:=by rw[cQV,ly,cXw]
   rw[e1]at h4;have e2:=vO h4;refine⟨x2 (c++C),?_,c++C,some (.ref a),some (.ref b),kk,Cd,h1,W,h3,Cd,?_⟩
   ·rw[y9,y9,e2];simp[x2,a0]
   ·rw[y9,e2];omega
end
end Alike
set_option tactic.hygienic true
namespace Alike
open PySem L2 PyProof.Rows
open Bk (Row Rows xR zI Ans)
open Desk (xA qE stV xB Up Run xU Wf Y5 vF)
open Law (xI LGo LBk xC aXL uR)
open Thr (wK)
def aVR{α:Type}{g:α->Dt}:∀ {vs:List V} {b:List α},vs.length=b.length->(∀ (i:Nat) v a,vs[i]? =some v->b[i]? =some a->Is H v (g a))->x4 H vs (b.map g)
 |[],[],_,_=>by show x4 H [] [];unfold x4;trivial
 |v::vs,a::b,hl,h=>by rw[cXa];unfold x4;exact⟨h 0 v a rfl rfl,aVR (by simpa using hl) λi v a c d=>h (i+1) v a c d⟩
 |[],_::_,hl,_=>by simp at hl
 |_::_,[],hl,_=>by simp at hl
def aXA(h:H p=some (.lst vs))(k:x4 H vs ds):Is H (.ref p) (.lst ds):=by
 unfold Is;exact⟨p,vs,Cd,h,k⟩
def bJz{α:Type}{g:α->Dt}(h:∀a,nb (g a)=true)(l:List α):nb (.lst (l.map g))=true:=by unfold nb;exact aJ0 h l
def aZr{α:Type}{g:α->Dt}{l:List α}(h:∀a∈l,(g a).size<=c)(hl:l.length<=n):Dt.size (.lst (l.map g))<=1+n*c:=by
 have b:Dt.size (.lst (l.map g))=1+zY (l.map g):=by simp[Dt.size]
 have d:=aWc l h;have e:l.length*c<=n*c:=Nat.mul_le_mul_right _ hl;omega
abbrev aVk:Stmt:=xI BU
abbrev aZi:Stmt:=xI B3
inductive aWg(vs:List V)(H:Hp)(Q:VK)(_:XK):Prop|mk(ds:Nat)(das:List Nat)(es:List zI)(_:vs= [.ref ds])(_:xU H ds das es)(_:es.length<=60)(_:(∀e∈es,Wf e))(_:∀ (t ra sa:Nat)(H':Hp)(rs:List Nat)(as:List Ans),LGo H ra sa es as H' rs->H' t=some (.tup [.ref ra,.ref sa])->Q (.ref t) H')
inductive aJv(vs:List V)(H:Hp)(Q:VK)(_:XK):Prop|mk(ra:Nat)(rs:List Nat)(R:Rows)(_:vs= [.ref ra])(_:xC H ra rs R)(_:R.length<=60)(_:∀ (d:Nat)(H':Hp)(ws:List V),xG H H'->H d=none->H' d=some (.lst ws)->cXk (λv r=>xB H' r v) ws R->Q (.ref d) H')
section
variable {K:cQq}
def bQC:yN [Af,A0,AJ,AG] [Af] (yH aVk):=scM
seal PE PA PS PSs PT in
def aYP(a:FnG P w K mg base n Av [A0,AJ,AG] aXL)(F:Fun K BU BU aVk f fd):xH P w K mg base CX0 (n+1) f fd [Af] aWg:=by
 have T:=bQC;refine F.ok (k:=n) T (λO A outer s M Y Q E S h=>?_);obtain⟨J,l,e,rfl,m,hl,G,q⟩:=h;refine⟨_,(yC (yU (i:=1) (yZ yD)) (yC (yU (i:=2) (yZ yD)) (yC (wM cXg rfl (xQ (pv 0)) (xF (i:=3)) (yG (y0 (xN a S rfl (yA (pv 1) (yA (pv 2) (yA (pv 3) yD))))))) (yG (yQ (y8 (yA (pv 1) (yA (pv 2) yD)))))))),?_⟩;refine⟨z0,λz D=>?_⟩;dsimp only[yW];refine⟨z0,λr C=>?_⟩;dsimp only[yW];have H:=LGo.start D C;generalize upd (upd M z (.lst [])) r (.lst [])=H6 at H ⊢;refine⟨_,Cd,J,Cd,⟨_,Cb (H.keep _ _ m.1)⟩,?_⟩;refine zZ (xs:=l.map V.ref) (λt σ u=>L2.Ez3 λ(o:List Nat)(c:List Ans)(y:Option V)=>σ= [some (.ref J),some (.ref z),some (.ref r),y]/\LGo M z r (e.take t) c u o) ?_ ?_ ?_ ?_
 ·exact⟨[],[],none,Cd,H⟩
 ·rintro t σ u N ⟨o,c,y,rfl,g⟩;exact Cb (g.keep _ _ m.1)
 ·rintro t x σ u j ⟨o,c,y,rfl,g⟩;rw[cQJ]at j;cases B:l[t]? with
  |none=>rw[B]at j;cases j
  |some d=>
   rw[B]at j;cases j;have p:t<e.length:=by rw[<- m.2.1];exact(cQA.mp B).1
   have L:=cQn p;dsimp only[yW];refine⟨_,Cd,_,Cd,_,Cd,g.step (G _ (cZG p)) (by rw[cXS];omega) (g.keep _ _ (m.2.2 t d _ B L)) λb v Z I U X W nv=>?_⟩;have R:e.take (t+1)=e.take t++ [e[t]]:=by rw[cXA,L];rfl
   exact⟨I,c++ [b],_,Cd,by rw[R];exact U⟩
 rintro σ u ⟨o,c,y,rfl,g⟩;rw[cQt,m.2.1,cXw]at g;dsimp only[bQ9];refine⟨_,Cd,_,Cd,z2,λt N=>?_⟩;exact q t z r _ o c (g.same (yE N _)) yB
def aKF:yN [A0,"_law_made","_law_row"] [A0] (yH aZi):=scM
seal PE PA PS PSs PT in
def aKk(T:vQ mg)(F:Fun K B3 B3 aZi f fd):xH P w K mg base CX0 1 f fd [A0] aJv:=by
 have sc:=aKF;refine F.ok (k:=0) sc (λa7 A outer s H7 vs Q E hr h=>?_);obtain⟨ra,rs,R,rfl,J,a9,q⟩:=h;refine⟨_,(yC (yU (i:=1) (yZ yD)) (yC (wM cXg rfl (xQ (pv 0)) (xF (i:=2)) (yG (y0 (v8 cQU cQ3 cQ4 xL (pv 1) (yA (yL yK (yZ (yA (xW qS rfl T.b_tuple w8 (yA (Y3 aZs (pv 2) aX9 (Z5 yF)) yD)) (yA yP yD))) (xW wT rfl T.b_int uO (yA (yL yK (pv 2) yF) yD))) yD))))) (yG (yQ (pv 1))))),?_⟩;refine⟨z0,λn u=>?_⟩;dsimp only[yW];have k8:=yE u (.lst []);refine⟨_,Cd,ra,Cd,⟨_,Cb (k8 _ _ J.lst)⟩,?_⟩;refine zZ (xs:=rs.map V.ref) (λt σ g=>L2.Ez2 λ(m:List V)(M:Option V)=>σ= [some (.ref ra),some (.ref n),M]/\xG H7 g/\g n=some (.lst m)/\cXk (λv r=>xB g r v) m (R.take t)) ?_ ?_ ?_ ?_
 ·exact⟨[],none,Cd,k8,yB,.nil⟩
 ·rintro t σ g ht ⟨m,M,rfl,y,c,d⟩;exact Cb (y _ _ J.lst)
 ·rintro t x σ g C ⟨m,M,rfl,y,c,d⟩;rw[cQJ]at C;cases S:rs[t]? with
  |none=>rw[S]at C;cases C
  |some b=>
   rw[S]at C;cases C;have a6:t<R.length:=by rw[<- J.len];exact(cQA.mp S).1
   have L:=cQn a6;obtain⟨l,e1,e2⟩:=J.row t b _ S L;have b9:g b=some (.lst (uR R[t] l)):=y _ _ e1;have a8:m.length=t:=by rw[cZS d,cXS];omega
   dsimp only[yW];refine⟨_,Cd,.inl ⟨rfl,_,Cb c⟩,_,Cd,_,Cd,b,_,Cd,Cb b9,λO W=>⟨O,_,Cd,.inl ⟨Cb yB,λj Y=>⟨z2,λN a0=>?_⟩⟩⟩⟩;have a2:=yE W (.lst (qP (uR R[t] l) none (some 6)));have a3:=yE Y (.tup (qP (uR R[t] l) none (some 6)));have a4:=yE a0 (.lst [.ref j,.str AW]);have B:=(a2.trans a3).trans a4;have G:=a4 _ _ (yB (H:=upd g O (.lst (qP (uR R[t] l) none (some 6)))) (a:=j) (o:= .tup (qP (uR R[t] l) none (some 6))));have e4:upd (upd (upd g O (.lst (qP (uR R[t] l) none (some 6)))) j (.tup (qP (uR R[t] l) none (some 6)))) N (.lst [.ref j,.str AW]) N=some (.lst [.ref j,.str AW]):=yB;generalize upd (upd (upd g O (.lst (qP (uR R[t] l) none (some 6)))) j (.tup (qP (uR R[t] l) none (some 6)))) N (.lst [.ref j,.str AW])=H10 at B G e4 ⊢;have a5:=B _ _ b9;have X:atI [V.ref j,V.str AW] (if R[t].void=true then 1 else 0)=some (if R[t].void=true then .str AW else .ref j):=by cases R[t].void<;> rfl
   refine⟨_,Cd,b,_,6,_,Cd,Cd,Cb a5,Cd,.inr ⟨_,Cd,N,_,_,_,Cd,Cd,Cb e4,X,n,_,_,Cd,Cd,B _ _ c,zlt (by omega),?_⟩⟩;have D:H7 n=none:=u;have Z:∀I,xG H7 (upd H10 n (.lst I)):=λI x o e=>by rw[yJ (yI e D)];exact B _ _ (y _ _ e)
   have tk:∀ {x zs I},g x=some (.tup zs)->upd H10 n (.lst I) x=some (.tup zs):=λ{x zs I} e=>by rw[yJ (λz=>by rw[z,c]at e;cases e)];exact B _ _ e
   refine⟨m++ [if R[t].void=true then .str AW else .ref j],_,Cd,Z _,yB,?_⟩;have et:R.take (t+1)=R.take t++ [R[t]]:=by rw[cXA,L];rfl
   rw[et];refine Paired.snoc (Desk.wX (λv r z=>?_) d) ?_
   ·unfold xB at z ⊢;split
    ·rename_i e;rw[if_pos e]at z;exact z
    ·rename_i e;rw[if_neg e]at z;obtain⟨p,e,q⟩:=z;exact⟨p,e,tk q⟩
   ·unfold xB;cases hv:R[t].void with
    |true=>exact rfl
    |false=>
     have a1:qP (uR R[t] l) none (some 6)=stV R[t]:=by unfold stV Desk.W6 Desk.qW;rw[hv];cases U:R[t].link<;> (unfold uR;rw[U];rfl)
     rw[a1]at G;refine⟨j,Cd,?_⟩;rw[yJ (λz=>by rw[z,B _ _ c]at G;cases G)];exact G
 rintro σ g ⟨m,M,rfl,y,c,d⟩;rw[cQt,J.len,cXw]at d;exact⟨_,Cd,q n g m y u c d⟩
end
end Alike
set_option tactic.hygienic false
namespace Alike
open PySem L2 PyProof.Rows
open Bk (Row Rows xR zI Ans)
open Desk (xA qE stV xB Up Run xU Wf Y5 vF)
open Law (xI LGo LBk xC aXb uR)
open Thr (wK)
def bJ2(ns:List Int)(a b:Option Int):∃ms:List Int,qP (ns.map V.int) a b=ms.map V.int/\ms.length<=HT.sIx ns.length ns.length b - HT.sIx ns.length 0 a:=by
 refine⟨(ns.drop (HT.sIx ns.length 0 a)).take (HT.sIx ns.length ns.length b - HT.sIx ns.length 0 a),?_,?_⟩
 ·unfold qP;rw[cQt,List.map_take,List.map_drop]
 ·rw[cXS];exact Nat.min_le_left _ _
def aK5(ns:List Int)(a b:Nat):∃c:List Int,qP (ns.map V.int) (some (a:Int)) (some (b:Int))=c.map V.int/\c.length<=b - a:=by
 obtain⟨c,d,e⟩:=bJ2 ns (some (a:Int)) (some (b:Int));refine⟨c,d,cQZ e ?_⟩;rw[aVo,aVo];omega
def bZl{α β:Type}{F:α->β->Prop}{xs:List α}{ys:List β}(h:cXk F xs ys):∀ {i:Nat} {y:β},ys[i]? =some y->∃x,xs[i]? =some x/\F x y:=by
 induction h with
 |nil=>intro i y e;simp at e
 |@cons a b c d j l f=>
  intro i y e;cases i with
  |zero=>cases e;exact⟨a,Cd,j⟩
  |succ i=>obtain⟨u,g,k⟩:=f (i:=i) (by simpa using e);exact⟨u,by simpa using g,k⟩
def qV(c:das.length=es.length)(f:∀ (i:Nat)(d:Nat)(e:zI),das[i]? =some d->es[i]? =some e->H d=some (.tup (xA e))) (h:das2.length=es2.length) (j:∀ (i:Nat)(d:Nat)(e:zI),das2[i]? =some d->es2[i]? =some e->H d=some (.tup (xA e))) (k:H p=some (.lst (das.map V.ref++das2.map V.ref))):xU H p (das++das2) (es++es2):=by
 refine⟨by rw[cX2];exact k,by rw[cQL,cQL,c,h],λi d e a b=>?_⟩;by_cases g:i<das.length
 ·rw[cQ0 g]at a;rw[cQ0 (by omega)]at b;exact f i d e a b
 ·rw[cQK (by omega)]at a b;rw[c]at a;exact j _ d e a b
structure Has(K:cQq)(Tb a ds ra sa:Nat)(ns:List Int)(das:List Nat)(es:List zI)(rs:List Nat)(R:Rows)(S:List Int)(H:Hp):Prop where
 s:SqL K H a (ns.map V.int)
 d:xU H ds das es
 b:xC H ra rs R
 sh:H sa=some (.lst (S.map V.int))
 t:wK Tb H
def bWR{R:Rows}(h:xC H ra rs R)(k:zA H H'):xC H' ra rs R:=
 ⟨k.lst h.lst,h.len,h.nd,λi b r a c=>let ⟨cp,e1,e2⟩:=h.row i b r a c;⟨cp,k.lst e1,k.lst e2⟩⟩
section
variable {K:cQq}{Tb a ds ra sa:Nat}{ns:List Int}{das:List Nat}{es:List zI}{rs:List Nat}{R:Rows}{S:List Int}{H H':Hp}
def Has.sameT(h:Has K Tb a ds ra sa ns das es rs R S H)(k:zA H H')(t:wK Tb H'):Has K Tb a ds ra sa ns das es rs R S H':=
 ⟨k.seq h.s,h.d.same k,bWR h.b k,k.lst h.sh,t⟩
def Has.same(h:Has K Tb a ds ra sa ns das es rs R S H)(k:xG H H'):Has K Tb a ds ra sa ns das es rs R S H':=h.sameT k.t (Desk.Y8 h.t k)
end
end Alike
set_option tactic.hygienic true
namespace Alike
open PySem (Str)
open Bk (Row Rows xR zI Ans xD laid thr lk dt zU)
open Desk (Run stV)
def aQR{R e R2:Rows}{b fs:List zI}{c bs:List Ans}(f:Run R S b c e g)(i:Run e g fs bs R2 a):Run R S (b++fs) (c++bs) R2 a:=by
 induction i with
 |nil=>simpa using f
 |snoc h d j=>rw[<- cXL,<- cXL];exact .snoc (j f) d
def bVT{R b:Rows}(d:xR R S e a b c):Run R S [e] [a] b c:=Run.snoc .nil d
def Z7{R c R2:Rows}(d:xR R S e a c g)(d':xR c g h f R2 b):Run R S [e,h] [a,f] R2 b:=Run.snoc (bVT d) d'
def uM{R:Rows}(t:∀r∈R,0<=r.term)(i:Nat)(f:Row->Row)(a:∀r∈R,0<=(f r).term):∀r∈xD R i f,0<=r.term:=λr b=>by
 rcases Bk.Y0 b with z|⟨q,z,rfl⟩
 ·exact t r z
 ·exact a q z
def Y9{w:Str}:∀ (l:List Nat) {R:Rows},(∀r∈R,0<=r.term)->∀r∈laid R l w,0<=r.term
 |[],R,t=>t
 |k::l,R,t=>Y9 l (R:=xD R k λr=>{r with place:=w}) (uM t k _ t)
def aYc{R c:Rows}(h:xR R S e a c i)(t:∀r∈R,0<=r.term):∀r∈c,0<=r.term:=by
 have b:∀x:Row,0<=x.term->∀r∈R++ [x],0<=r.term:=λx d r g=>by
  rcases cQY.mp g with z|z
  ·exact t r z
  ·rw[cQD.mp z];exact d
 cases h with
 |enter h=>exact b _ h
 |reply f h j l=>exact b _ j
 |hang=>exact uM (Y9 _ t) _ _ (Y9 _ t)
 |loose=>exact uM t _ _ t
 |date=>exact uM t _ _ t
 |term f k h=>exact uM t _ _ λ_ _=>h
 |copy=>exact uM t _ _ t
 |void=>exact uM t _ _ t
 |file=>exact Y9 _ t
 |_=>exact t
def bZx{R a:Rows}(h:Run R S b c a f)(t:∀r∈R,0<=r.term):∀r∈a,0<=r.term:=by
 induction h with
 |nil=>exact t
 |snoc h d e=>exact aYc d e
def aQe{R Q:Rows}(h:∀j:Nat,R[j]? =Q[j]?):R=Q:=cZc h
def bZX{R:Rows}{i:Nat}{f:Row->Row}(h:∀r,R[i]? =some r->f r=r):xD R i f=R:=aQe λj=>by
 rw[Bk.xJ];split
 ·rename_i e;subst e;cases a:R[j]? with
  |none=>rfl
  |some r=>simp[h r a]
 ·rfl
def aQ8{R:Rows}{i:Nat}{f g:Row->Row}(h:∀r,R[i]? =some r->g (f r)=r):xD (xD R i f) i g=R:=aQe λj=>by
 rw[Bk.xJ,Bk.xJ];split
 ·rename_i e;subst e;cases a:R[j]? with
  |none=>rfl
  |some r=>simp[h r a]
 ·rfl
def aZq{R:Rows}(f:Row->Row)(h:R[i]? =some r):(xD R i f)[i]? =some (f r):=by rw[Bk.xJ,if_pos rfl,h];rfl
def bXG{R:Rows}{l:List Nat}{w p:Str}(h:∀k∈l,∀r,R[k]? =some r->r.place=p):laid (laid R l w) l p=R:=aQe λj=>by
 rw[Bk.wF,Bk.wF];split
 ·rename_i a;cases b:R[j]? with
  |none=>rfl
  |some r=>simp[<- h j a r b]
 ·rfl
def bVi{R:Rows}{l:List Nat}{p:Str}(h:∀k∈l,∀r,R[k]? =some r->r.place=p):laid R l p=R:=aQe λj=>by
 rw[Bk.wF];split
 ·rename_i a;cases b:R[j]? with
  |none=>rfl
  |some r=>simp[<- h j a r b]
 ·rfl
def aQO{R:Rows}{rk:Nat->Nat}(b:Bk.jU R)(o:Fm.Ok R.length (lk R) rk):∀ (m k:Nat)(r:Row),rk k<m->R[k]? =some r->∃q,R[Fm.tp (lk R) rk k]? =some q/\q.place=r.place
 |0,k,r,h,_=>absurd h (cX3 _)
 |m+1,k,r,h,hr=>by
  have a:=Bk.zV hr;cases hl:r.link with
  |none=>rw[Fm.zW (by rw[Bk.wN hr];exact hl)];exact⟨r,hr,rfl⟩
  |some j=>
   have e:lk R k=some j:=by rw[Bk.wN hr];exact hl
   obtain⟨q,c,f⟩:=b.ans k j r hr hl;rw[Fm.vP o a e];obtain⟨p,d,g⟩:=aQO b o m j q (by have:=(o.lt k j a e).2;omega) c;exact⟨p,d,by rw[g];exact f.2.2.2.2.2.symm⟩
def aJx{R:Rows}(b:Bk.jU R){i k:Nat}(g:R[i]? =some r)(h:R[k]? =some q)(f:k∈thr R i):q.place=r.place:=by
 obtain⟨m,o,_,c⟩:=Bk.X0 b.tree i;obtain⟨l,d,j⟩:=aQO b o _ i r (cXM _) g;obtain⟨n,a,e⟩:=aQO b o _ k q (cXM _) h;rw[((c k).mp f).2,d]at a;cases a;rw[<- e,j]
def bXb{R Q:Rows}(t:Bk.uW R)(b:i<R.length)(a:Q.length=R.length)(c:lk Q=lk R)(d:dt Q=dt R):thr Q i=thr R i:=by
 refine Bk.aXN (by rw[a];exact b) ?_;have h:=Bk.X0 t i;unfold Bk.wC at h ⊢;rw[a,c,d];exact h
section
variable {R:Rows}{S:List Int}{i j:Nat}{r:Row}
def aKY(a:R[i]? =some r)(b:r.void=false)(h0:0<=r.term):∃f,Run R S [.term i (r.term+3),.term i r.term] f R S:=by
 have d:=xR.term (S:=S) (t:=r.term) (aZq (λe=>{e with term:=r.term+3}) a) b h0;rw[aQ8 (λe c=>by rw[a]at c;cases c;rfl)]at d;exact⟨_,Z7 (.term a b (by omega)) d⟩
def aKW(b:Bk.jU R)(a:R[i]? =some r)(u:r.void=false)(d:Int):∃y,Run R S [.date i d,.date i r.date] y R S:=by
 have up:∀j,r.link=some j->dt R j<=r.date:=λj n=>by obtain⟨q,l,f⟩:=b.ans i j r a n;rw[Bk.w9 l];exact f.2.2.2.2.1
 have w:∀c∈zU R i,r.date<=dt R c:=λc e=>by have m:=of_decide_eq_true (cXf.mp e).2;have hl:c<R.length:=cQT.mp (cXf.mp e).1;have l:=cQn hl;rw[Bk.wN l]at m;obtain⟨q,s,f⟩:=b.ans c i _ l m;rw[a]at s;cases s;rw[Bk.w9 l];exact f.2.2.2.2.1
 by_cases h:(∀j,r.link=some j->dt R j<=d)/\∀c∈zU R i,d<=dt R c
 ·have o:∀k,k≠i->dt (xD R i λg=>{g with date:=d}) k=dt R k:=λk x=>by
   unfold Bk.dt;rw[Bk.xJ,if_neg x]
  have p:zU (xD R i λg=>{g with date:=d}) i=zU R i:=by unfold Bk.zU;rw[Bk.xX,Bk.uE R i (λg=>{g with date:=d}) λ_=>rfl]
  have z:=xR.date (S:=S) (d:=r.date) (aZq (λg=>{g with date:=d}) a) u (λj n=>?_) (λc e=>?_)
  ·rw[aQ8 (λg t=>by rw[a]at t;cases t;rfl)]at z;exact⟨_,Z7 (.date a u h.1 h.2) z⟩
  ·rw[o j (Bk.aQF b.tree a n)];exact up j n
  ·rw[p]at e;have m:=of_decide_eq_true (cXf.mp e).2;have l:=cQn (cQT.mp (cXf.mp e).1);rw[o c (λz=>Bk.aQF b.tree l (by rw[<- Bk.wN l];exact m) z.symm)];exact w c e
 ·have no:(∃j,r.link=some j/\d<dt R j)\/∃c∈zU R i,dt R c<d:=by
   by_cases m:∀j,r.link=some j->dt R j<=d
   ·refine .inr (cVS λv=>h ⟨m,λc e=>?_⟩);exact cZH.mp λz=>v ⟨c,e,z⟩
   ·refine .inl (cVS λv=>m λj n=>?_);exact cZH.mp λz=>v ⟨j,n,z⟩
  have z:=xR.date (S:=S) a u up w;rw[bZX (λg t=>by rw[a]at t;cases t;rfl)]at z;exact⟨_,Z7 (.dateE a u no) z⟩
def aKX(b:Bk.jU R)(a:R[i]? =some r)(e:r.void=false)(w:Str):∃g,Run R S [.file i w,.file i r.place] g R S:=by
 have d:=Bk.zV a;have c:=Bk.aWt b.tree d;have h:(laid R (thr R i) w)[i]? =some {r with place:=w}:=by rw[Bk.wF,if_pos c,a];rfl
 have z:=xR.file (S:=S) (w:=r.place) h e;rw[bXb (Q:=laid R (thr R i) w) b.tree d (Bk.wQ _ _ _) (Bk.Z0 _ _ _) (Bk.aYs _ _ _),bXG (λk j q f=>aJx b a f j)]at z;exact⟨_,Z7 (.file a e) z⟩
def aXx(b:Bk.jU R)(g:R[i]? =some r)(G:r.void=false)(hl:r.link=some j):xR R S (.loose i) (.txt BN) (xD R i λa=>{a with link:=none}) S/\∃T,Run R S [.loose i,.hang i j] T R S:=by
 have d1:xR R S (.loose i) (.txt BN) (xD R i λa=>{a with link:=none}) S:= .loose g G (by rw[hl];exact λz=>nomatch z);have v:=Bk.zV g;obtain⟨q,E,Y,W,P,J,V,L⟩:=b.ans i j r g hl;have C:=Bk.aQF b.tree g hl;have A:=Bk.zV E;have M:Bk.uW (xD R i λa=>{a with link:=none}):=b.tree.loose v _ λ_=>rfl;have d:=Bk.xX R i λa=>{a with link:=none};have t:=aZq (λa=>{a with link:=none}) g;have D:(xD R i λa=>{a with link:=none})[j]? =some q:=by rw[Bk.xJ,if_neg C];exact E
 have B:lk (xD R i λa=>{a with link:=none})=λk=>if k=i then none else lk R k:=Bk.aX4 R v _ none λ_=>rfl;obtain⟨s,o⟩:=b.tree;have H:Fm.Ok R.length (λk=>if k=i then none else lk R k) s:=⟨λk m l e=>by
  by_cases z:k=i
  ·rw[if_pos z]at e;cases e
  ·rw[if_neg z]at e;exact o.lt k m l e⟩
 have n:∀ (m k:Nat),s k<m->k<R.length->s k<s i->Fm.tp (λk=>if k=i then none else lk R k) s k≠i:=by
  intro m;induction m with
  |zero=>intro k h;exact absurd h (cX3 _)
  |succ m I=>
   intro k X l y;have f:k≠i:=λz=>by rw[z]at y;omega
   cases e:lk R k with
   |none=>rw[Fm.zW (by rw[if_neg f];exact e)];exact f
   |some c=>obtain⟨O,K⟩:=o.lt k c l e;rw[Fm.vP H l (show(if k=i then none else lk R k)=some c by rw[if_neg f];exact e)];exact I c (by omega) O (by omega)
 have u:lk R i=some j:=by rw[Bk.wN g];exact hl
 have x:(thr (xD R i λa=>{a with link:=none}) j).head? ≠some i:=by obtain⟨N,w,U⟩:=Bk.uN M (show j<_ by rw[d];exact A);rw[U];intro z;rw[B]at z w;rw[d]at w;rw[Fm.jE w H A]at z;exact n _ j (cXM _) A (o.lt i j v u).2 (cQI z)
 have z:=xR.hang (S:=S) t G D W rfl x P J V;have same:∀k∈thr (xD R i λa=>{a with link:=none}) i,∀p,(xD R i λa=>{a with link:=none})[k]? =some p->p.place=q.place:=by have b1:Bk.jU (xD R i λa=>{a with link:=none}):=Bk.xR.book b (λ_ _ _ _ e=>by cases e) d1;intro k l p Q;rw[aJx b1 t Q l];exact L
 rw[bVi same,aQ8 (λa F=>by rw[g]at F;cases F;rw[<- hl])]at z;exact⟨d1,_,Z7 d1 z⟩
def bXl(b:Bk.jU R)(n:R[i]? =some r)(v:r.void=false):∃D x,Run R S [.copy i CZ,.reply i r.date 1,.void (R.length:Nat)] D x S/\x.map z9=R.map z9++ [.str AW]:=by
 have C:∃a j,xR R S (.copy i CZ) a j S/\j.length=R.length/\∀ (k:Nat) p,R[k]? =some p->∃c,j[k]? =some {p with copies:=c}:=by
  by_cases h:(CZ:Str)=r.partner\/(CZ:Str)∈r.copies
  ·exact⟨_,R,.copyC n v h,Cd,λk p f=>⟨p.copies,f⟩⟩
  ·refine⟨_,_,.copy n v (λz=>h (.inl z)) (λz=>h (.inr z)),Bk.xX _ _ _,λk p f=>?_⟩;rw[Bk.xJ];split
   ·rename_i e;rw[f];exact⟨p.copies++ [(CZ:Str)],rfl⟩
   ·exact⟨p.copies,f⟩
 obtain⟨a,j,d1,m,o⟩:=C;obtain⟨c,s⟩:=o i r n;have d2:=xR.reply (S:=S) (d:=r.date) (t:=1) s v (by decide) (Int.le_refl _);have w:(j++ [⟨Bk.v6 r.way,r.date,r.partner,1,some i,r.place,false,[]⟩])[R.length]? =some ⟨Bk.v6 r.way,r.date,r.partner,1,some i,r.place,false,[]⟩:=by rw[<- m,cQK (cQv _),cXH];rfl
 have l:zU (j++ [⟨Bk.v6 r.way,r.date,r.partner,1,some i,r.place,false,[]⟩]) R.length= []:=by
  refine List.filter_eq_nil_iff.mpr λk l=>?_;rw[cQL,cXx]at l;have l:=cQT.mp l;rw[decide_eq_true_eq,Bk.aYB _ _ k l];intro z;split at z
  ·have E:i=R.length:=cQI z;have:=Bk.zV n;omega
  ·rename_i A;have u:k<R.length:=by omega
   have f:=cQn u;obtain⟨y,g⟩:=o k _ f;rw[Bk.wN g]at z;obtain⟨q,B,_⟩:=b.ans k R.length _ f z;have:=Bk.zV B;omega
 refine⟨_,_,Run.snoc (Z7 d1 d2) (.void w rfl l),?_⟩;apply cZc;intro k;rw[cQJ,Bk.xJ];by_cases h:k=R.length
 ·subst h;rw[if_pos rfl,w,cQK (by simp),cQt,cXH];rfl
 ·rw[if_neg h];by_cases hl:k<R.length
  ·have f:=cQn hl;obtain⟨y,g⟩:=o k _ f;rw[cQ0 (by omega),g,cQ0 (by simpa using hl),cQJ,f];rfl
  ·rw[cQW (by simp;omega),cQW (by simp;omega)];rfl
end
end Alike
namespace Alike
open PySem L2 PyProof.Rows
open Bk (Row Rows xR zI Ans)
open Desk (xA qE stV xB Up Run xU Wf Y5 vF)
open Law (xI LGo LBk xC aXb uR zN md0 md1 aWb)
open Thr (wK)
abbrev bKx:Stmt:=xI Aq
def bK2(R:Rows)(A:List zI):Prop:=A= []\/∃ (i j:Nat)(r:Row),R[i]? =some r/\r.void=false/\r.link=some j/\A= [.loose i,.hang i j]
def bK0(R:Rows)(b:Bool)(B:List zI):Prop:=(b=false/\B= [])\/(b=true/\∃ (i:Nat)(r:Row)(d:Int),R[i]? =some r/\r.void=false/\ B= [.term i (r.term+3),.term i r.term,.date i d,.date i r.date,.file i Ay,.file i r.place,.copy i CZ,.reply i r.date 1,.void (R.length:Nat)])
inductive bKK(K:cQq)(vs:List V)(H:Hp)(Q:VK)(_:XK):Prop|mk(d a:Nat)(ws:List V)(R:Rows)(ns:List Int)(_:vs= [.ref d,.ref a])(_:H d=some (.lst ws))(_:cXk (λv r=>xB H r v) ws R)(_:R.length<=30)(_:SqL K H a (ns.map V.int))(_:∀ (H':Hp)(t l:Nat)(qas:List Nat)(A B:List zI)(b:Bool),xG H H'->H' t=some (.tup [.ref l,.bl b])->xU H' l qas (A++B)->bK2 R A->bK0 R b B->Q (.ref t) H')
def aQk{H:Hp}{v a b j k:Nat}{c:List Nat}{A:List zI}(g h:zI)(t:xU H v c A)(l:H a=none)(m:upd H a (.tup (xA g)) b=none) (o:upd (upd H a (.tup (xA g))) b (.tup (xA h)) j=none) (n:upd (upd (upd H a (.tup (xA g))) b (.tup (xA h))) j (.lst [.ref a,.ref b]) k=none): xG H (upd (upd (upd (upd H a (.tup (xA g))) b (.tup (xA h))) j (.lst [.ref a,.ref b])) k (.lst (c.map V.ref++ [.ref a,.ref b])))/\ xU (upd (upd (upd (upd H a (.tup (xA g))) b (.tup (xA h))) j (.lst [.ref a,.ref b])) k (.lst (c.map V.ref++ [.ref a,.ref b]))) k (c++ [a,b]) (A++ [g,h]):=by
 have b1:=yE l (.tup (xA g));have u:=yE m (.tup (xA h));have p:=yE o (.lst [.ref a,.ref b]);have q:=yE n (.lst (c.map V.ref++ [.ref a,.ref b]));have s:=((b1.trans u).trans p).trans q;refine⟨s,qV t.2.1 (λi r e d f=>s _ _ (t.2.2 i r e d f)) rfl (λi r e d f=>?_) yB⟩;match i,d,f with
 |0,d,f=>cases d;cases f;exact q _ _ (p _ _ (u _ _ yB))
 |1,d,f=>cases d;cases f;exact q _ _ (p _ _ yB)
 |i+2,d,f=>cases d
def aQs(R:Rows)(k:Nat):Bool:=match R[k]? with|some r=> !r.void|none=>false
def bWx(R:Rows):V->Bool
 |.int n=>(Bk.lk R n.toNat).isSome
 |_=>false
def Y7{H:Hp}{b:List V}{R:Rows}(g:cXk (λv r=>xB H r v) b R){k:Nat}{r:Row}(e:R[k]? =some r)(d:r.void=false):∃p,b[k]? =some (.ref p)/\H p=some (.tup (stV r)):=by
 obtain⟨v,c,a⟩:=bZl g e;unfold xB at a;rw[if_neg (by rw[d];decide)]at a;obtain⟨p,rfl,f⟩:=a;exact⟨p,c,f⟩
def Y6{r:Row}(a:r.void=false):stV r= [.str r.way,.int r.date,.str r.partner,.int r.term,zN r.link,.str r.place]:=by
 unfold stV Desk.W6 Desk.qW;rw[a];cases r.link<;> rfl
section
variable {K:cQq}
def bKD:yN [AH,AN,BH,Bh,Af,A1,AK,Aw,Bt,B5] [AH,AN] (yH bKx):=scM
def bVl:xP [AH,AN,BH,Bh,Af,A1,AK,Aw,Bt,B5] (yH bKx) AI [AH] [0] (lsN [(".0",.local),(AI,.local),(AV,.globalImplicit),(Ah,.globalImplicit),(AH,.free)]):=
 lcM
def bVm:xP [AH,AN,BH,Bh,Af,A1,AK,Aw,Bt,B5] (yH bKx) AI [AH] [0] (lsN [(".0",.local),(AI,.local),(AH,.free)]):=
 lcM
seal PE PA PS PSs PT in
def bKf(T:vQ mg)(a9:FnG P w K mg base n CY [AN,AI] (aWf K))(F:Fun K Aq Aq bKx f fd):xH P w K mg base CX0 (n+1) f fd [AH,AN] (bKK K):=by
 have sc:=bKD;refine F.ok (k:=n) sc (λh9 A outer s H0 vs Q E hr h=>?_);obtain⟨O,a,ws,R,ns,rfl,hf,hp,h8,hS,q⟩:=h;refine⟨_,(yC (aXs (i:=2) bVl rfl sc.nd rfl rfl (zP rfl T.b_range (yA (yS yO rfl T.b_len xE (yA (pv 0) yD)) yD)) (λ_ _ _ _ _=>(wG (vL (x8 (yS (show jV _ (.builtin AV) (aZJ K)from zD) rfl T.b_isinstance yY (yA (yL ixK (pv 1) (pv 0)) (yA (xV (v:= .ty Ah) rfl T.b_str aQo rfl) yD))))))) (λ_ _ _ _ _=>(pv 0))) (yC (aXs (i:=3) bVm rfl sc.nd rfl rfl (xQ (pv 2)) (λ_ _ _ _ _=>(wG (yM z8 (yL ixT (yL ixK (pv 1) (pv 0)) yF) x3))) (λ_ _ _ _ _=>(pv 0))) (yC (yU (i:=4) (yZ yD)) (yC (y6 (yM (wR hr.units0) (pv 3) (yZ yD)) (yC (yU (i:=5) (yL yK (pv 3) (yV y3 (xN a9 hr rfl (yA (pv 1) (yA yF yD))) (yS yO rfl T.b_len xE (yA (pv 3) yD))))) (yG (yU (i:=4) (yZ (yA (y8 (yA yP (yA (pv 5) yD))) (yA (y8 (yA yP (yA (pv 5) (yA (yL yX (yL yK (pv 0) (pv 5)) yF) yD)))) yD)))))) yT) (yC (y6 (yM (wR hr.units0) (pv 2) (yZ yD)) (yC (yU (i:=5) (yL yK (pv 2) (yV y3 (xN a9 hr rfl (yA (pv 1) (yA yF yD))) (yS yO rfl T.b_len xE (yA (pv 2) yD))))) (yC (bKo (i:=6) (j:=7) rfl sc.nd rfl rfl (by decide) rfl rfl (yA (yL yX (yL yK (pv 0) (pv 5)) yF) (yA (yL yX (yL yK (pv 0) (pv 5)) yF) yD)) rfl) (yC (yU (i:=8) (yL yX (yL yK (pv 0) (pv 5)) yF)) (yC (yU (i:=4) (yV qC (pv 4) (yZ (yA (y8 (yA yP (yA (pv 5) (yA (yV zC (pv 7) yF) yD)))) (yA (y8 (yA yP (yA (pv 5) (yA (pv 7) yD)))) yD))))) (yC (yU (i:=9) (yV w6 (yV zC (pv 6) (yV y3 (xN a9 hr rfl (yA (pv 1) (yA yF yD))) yF)) yF)) (yC (yU (i:=4) (yV qC (pv 4) (yZ (yA (y8 (yA yP (yA (pv 5) (yA (pv 9) yD)))) (yA (y8 (yA yP (yA (pv 5) (yA (pv 6) yD)))) yD))))) (yC (yU (i:=4) (yV qC (pv 4) (yZ (yA (y8 (yA yP (yA (pv 5) (yA yP yD)))) (yA (y8 (yA yP (yA (pv 5) (yA (pv 8) yD)))) yD))))) (yC (yU (i:=4) (yV qC (pv 4) (yZ (yA (y8 (yA yP (yA (pv 5) (yA yP yD)))) (yA (y8 (yA yP (yA (pv 5) (yA (pv 6) (yA yF yD))))) yD))))) (yG (y0 (v8 cQU cQ3 cQ4 xL (pv 4) (yA (y8 (yA yP (yA (yS yO rfl T.b_len xE (yA (pv 0) yD)) yD))) yD)))))))))))) yT) (yG (yQ (y8 (yA (pv 4) (yA (zO (wR hr.units0) (pv 2) (yZ yD)) yD)))))))))),?_⟩;have f5:ws.length=R.length:=hp.length;refine⟨_,Cd,O,_,Cd,.inl (Cb hf),?_⟩;rw[f5];refine⟨_,Cd,by omega,by omega,λD hD=>?_⟩;rw[cQV];refine qY (aQs R) (λk=>V.int (k:Nat)) hD (by rw[cQQ];omega) (λk hk H' R' hH g=>?_) (λk hk _ H' R' hH g=>⟨_,Cd,g⟩) ?_
 ·have a8:=cQn hk;have c2:H' O=some (.lst ws):=by rw[hH O (yI hf hD)];exact hf
  obtain⟨v,g1,L⟩:=bZl hp a8;have eB:aQs R k= !R[k].void:=by unfold aQs;rw[a8]
  rw[eB]at g;unfold xB at L;cases hv:R[k].void with
  |true=>rw[hv,if_pos rfl]at L;subst L;rw[hv]at g;exact⟨_,Cd,_,Cd,O,_,_,_,Cd,Cd,Cb c2,yR g1,_,Ah,_,_,Cd,.str _,vE _,_,Cd,g⟩
  |false=>
   rw[hv,if_neg (by decide)]at L;obtain⟨p,rfl,g3⟩:=L;rw[hv]at g;have h0:H' p=some (.tup (stV R[k])):=by rw[hH p (yI g3 hD)];exact g3
   exact⟨_,Cd,_,Cd,O,_,_,_,Cd,Cd,Cb c2,yR g1,_,Ah,_,_,Cd,.tup h0,aZ0 _,_,Cd,g⟩
 dsimp only[yW];have k1:=yE hD (.lst (((cQy R.length).filter (aQs R)).map λk=>V.int (k:Nat)));have b5:upd H0 D (.lst (((cQy R.length).filter (aQs R)).map λk=>V.int (k:Nat))) D=some (.lst (((cQy R.length).filter (aQs R)).map λk=>V.int (k:Nat))):=yB;have S:∀k∈(cQy R.length).filter (aQs R),∃r,R[k]? =some r/\r.void=false:=λk hk=>by obtain⟨G,u⟩:=cXf.mp hk;have a8:=cQn (cQT.mp G);unfold aQs at u;rw[a8]at u;exact⟨_,a8,by simpa using u⟩
 have f2:((cQy R.length).filter (aQs R)).length<=30:=by have:=cXn (aQs R) (cQy R.length);rw[cXh]at this;omega
 generalize (cQy R.length).filter (aQs R)=here at k1 b5 S f2 ⊢;generalize upd H0 D (.lst (here.map λk=>V.int (k:Nat)))=H1 at k1 b5 ⊢;have d5:=k1 _ _ hf;have I:=Desk.wX (λv r (z:xB H0 r v)=>z.same k1.t) hp;have g6:=k1.t.seq hS;refine⟨_,Cd,D,Cd,⟨_,Cb b5⟩,λD2 b7=>?_⟩;refine aXC (bWx R) id (Cb b5) b7 (zn (by rw[cQt];omega)) (λv hv H' R' hH g=>?_) (λv hv _ H' R' hH g=>⟨_,Cd,g⟩) ?_
 ·obtain⟨k,hk,rfl⟩:=cXt.mp hv;obtain⟨r,a6,b6⟩:=S k hk;obtain⟨p,g1,L⟩:=Y7 I a6 b6;have c2:H' O=some (.lst ws):=by rw[hH O (yI d5 b7)];exact d5
  have f0:H' p=some (.tup (stV r)):=by rw[hH p (yI L b7)];exact L
  rw[Y6 b6]at f0;have eT:bWx R (V.int (k:Nat))= !decide (zN r.link=V.non):=by show(Bk.lk R (k:Int).toNat).isSome=_;rw[cQV,Bk.wN a6];cases r.link<;> rfl
  rw[eT]at g;exact⟨_,Cd,_,Cd,O,_,_,_,Cd,Cd,Cb c2,yR g1,p,_,4,_,Cd,Cd,Cc f0,Cd,Cd,_,Cd,g⟩
 dsimp only[yW];have et:((here.map λk=>V.int (k:Nat)).filter (bWx R)).map id=(here.filter λk=>(Bk.lk R k).isSome).map λk=>V.int (k:Nat):=by rw[cJ4,List.filter_map];rfl
 rw[et];have k2:=yE b7 (.lst ((here.filter λk=>(Bk.lk R k).isSome).map λk=>V.int (k:Nat)));have b0:upd H1 D2 (.lst ((here.filter λk=>(Bk.lk R k).isSome).map λk=>V.int (k:Nat))) D2=some (.lst ((here.filter λk=>(Bk.lk R k).isSome).map λk=>V.int (k:Nat))):=yB;have a0:∀k∈here.filter λk=>(Bk.lk R k).isSome,∃r j,R[k]? =some r/\r.void=false/\r.link=some j:=λk hk=>by obtain⟨G,u⟩:=cXf.mp hk;obtain⟨r,a6,b6⟩:=S k G;rw[Bk.wN a6]at u;obtain⟨j,hj⟩:=Option.isSome_iff_exists.mp u;exact⟨r,j,a6,b6,hj⟩
 have g8:(here.filter λk=>(Bk.lk R k).isSome).length<=30:=cQZ (cXn _ _) f2;generalize (here.filter λk=>(Bk.lk R k).isSome)=tied at k2 b0 a0 g8 ⊢;generalize upd H1 D2 (.lst (tied.map λk=>V.int (k:Nat)))=H2 at k2 b0 ⊢;have d0:=k2 _ _ d5;have Y:=Desk.wX (λv r (z:xB H1 r v)=>z.same k2.t) I;have d4:=k2.t.seq g6;have U:=k2 _ _ b5;have h5:=k1.trans k2;refine⟨z0,λdl h4=>?_⟩;dsimp only[yW];have k3:=yE h4 (.lst []);have f4:xU (upd H2 dl (.lst [])) dl [] []:=⟨yB,Cd,λi d e h=>by simp at h⟩;generalize upd H2 dl (.lst [])=H3 at k3 f4 ⊢;refine x9 (λσ' H'=>L2.Ez4 λ(l:Nat)(b:List Nat)(A:List zI)(o5:Option V)=>σ'= [some (.ref O),some (.ref a),some (.ref D),some (.ref D2),some (.ref l),o5,none,none,none,none]/\xG H2 H'/\xU H' l b A/\bK2 R A) ?jX (λJ=>?_);case jX=>
  rintro σ' H4 ⟨l,b,A,o5,rfl,k4,hq,hA⟩;have g7:A.length<=2:=by
   rcases hA with rfl|⟨i,j,r,_,_,_,rfl⟩
   ·exact cXo _
   ·exact cQv _
  have h7:b.length<=2:=by rw[hq.2.1];exact g7
  refine x9 (λσ' H'=>L2.Ez8 λ(l:Nat)(b:List Nat)(B:List zI)(o5 o6 o7 o8 o9:Option V)=>σ'= [some (.ref O),some (.ref a),some (.ref D),some (.ref D2),some (.ref l),o5,o6,o7,o8,o9]/\xG H2 H'/\xU H' l b (A++B)/\bK0 R (!(here.map λk=>V.int (k:Nat)).isEmpty) B) ?rest2 (λJ=>?_);case rest2=>
   rintro σ' H5 ⟨l,b,B,o5,o6,o7,o8,o9,rfl,k5,X,hB⟩;refine⟨_,Cd,_,Cd,z0,λpn a4=>?_⟩;have k6:=yE a4 (.lst []);refine⟨D,pn,_,Cd,Cd,Cb (k6 _ _ (k5 _ _ U)),Cb yB,z2,λt ht=>?_⟩;have k7:=yE ht (.tup [.ref l,.bl (!(here.map λk=>V.int (k:Nat)).isEmpty)]);exact q _ t l b A B _ (h5.trans (k5.trans (k6.trans k7))) yB ((X.same k6.t).same k7.t) hA hB
  refine aWb ?_;have c0:True:=trivial;refine⟨_,Cd,z0,λpn a4=>?_⟩;have k5:=yE a4 (.lst []);have X:=hq.same k5.t;have c:=k4.trans k5;generalize d3:upd H4 pn (.lst [])=H5 at k5 X c;refine⟨D,pn,_,Cd,Cd,Cb (c _ _ U),Cb (by rw[<- d3];exact yB),_,Cd,?_⟩;have e1:=c _ _ d0;have h6:=Desk.wX (λv r (z:xB H2 r v)=>z.same c.t) Y;have h3:=c.t.seq d4;by_cases M:here= []
  ·subst M;refine onF rfl ?_;exact J _ _ ⟨l,b,[],o5,none,none,none,none,Cd,c,by rw[cXr];exact X,.inl ⟨rfl,rfl⟩⟩
  have hb:(!(here.map λk=>V.int (k:Nat)).isEmpty)=true:=by simp[M]
  refine onT hb ?_;have o:(0:Int)<((here.map λk=>V.int (k:Nat)).length:Nat):=by rw[cQt];have:=cXy.mpr M;omega
  refine⟨_,Cd,_,Cd,a,ns,1,Cd,h3,_,Cd,D,_,Cd,.inl (Cb (c _ _ U)),_,_,Cd,Cd,o,?_⟩;refine Law.aWR rfl rfl (Cb (c _ _ U)) (md0 o) (md1 o) λv hv=>?_;obtain⟨i,hi,rfl⟩:=cXt.mp hv;obtain⟨r,a3,N⟩:=S i hi;obtain⟨p,g1,L⟩:=Y7 h6 a3 N;rw[Y6 N]at L;dsimp only[yW];refine⟨_,Cd,_,Cd,O,_,_,_,Cd,Cd,Cb e1,yR g1,p,_,1,_,Cd,Cd,Cc L,Cd,_,Cd,_,Cd,O,_,_,_,Cd,Cd,Cb e1,yR g1,p,_,3,_,Cd,Cd,Cc L,Cd,_,_,Cd,?_⟩;dsimp only[yW];refine⟨_,Cd,_,Cd,O,_,_,_,Cd,Cd,Cb e1,yR g1,p,_,5,_,Cd,Cd,Cc L,Cd,?_⟩;dsimp only[yW];refine⟨_,Cd,_,Cd,_,Cd,_,_,Cd,Cd,z3,λC I=>⟨_,Cd,_,Cd,z3,λy Y=>⟨z2,λl2 a1=>⟨l,l2,b.map V.ref,_,Cd,Cd,?_,yB,(by rw[cQt,cQQ];show b.length+2<=_;omega),λp3 e5=>?_⟩⟩⟩⟩
  ·exact(yE a1 _) _ _ ((yE Y _) _ _ ((yE I _) _ _ X.1))
  obtain⟨k7,e3⟩:=aQk (.term i (r.term+3)) (.term i r.term) X I Y a1 e5;dsimp only[yW];have d7:=c.trans k7;generalize e7:upd (upd (upd (upd H5 C (.tup (xA (.term i (r.term+3))))) y (.tup (xA (.term i r.term)))) l2 (.lst [.ref C,.ref y])) p3 (.lst (b.map V.ref++ [.ref C,.ref y]))=H7 at k7 e3 d7;have c8:upd (upd (upd (upd H5 C (.tup [.str AU,.int i,.int (r.term+3)])) y (.tup [.str AU,.int i,.int r.term])) l2 (.lst [.ref C,.ref y])) p3 (.lst (b.map V.ref++ [.ref C,.ref y]))=H7:=e7;rw[c8];clear e7 c8 I Y a1 e5;refine⟨_,Cd,_,Cd,a,ns,2,Cd,d7.t.seq d4,_,_,Cd,Cd,(show(0:Int)<9 by decide),_,_,Cd,Cd,_,_,Cd,Cd,?_⟩;dsimp only[yW];generalize r.date+ns.getD 2 0 % 9 - 4=dd;refine⟨_,Cd,_,Cd,_,Cd,z3,λZ d1=>⟨_,Cd,_,Cd,z3,λW a7=>⟨z2,λl4 c9=>⟨p3,l4,(b++ [C,y]).map V.ref,_,Cd,Cd,?_,yB,(by rw[cQQ];simp;omega),λp6 f3=>?_⟩⟩⟩⟩
  ·exact(yE c9 _) _ _ ((yE a7 _) _ _ ((yE d1 _) _ _ e3.1))
  obtain⟨k8,e2⟩:=aQk (.date i dd) (.date i r.date) e3 d1 a7 c9 f3;dsimp only[yW];have f7:=d7.trans k8;generalize e4:upd (upd (upd (upd H7 Z (.tup (xA (.date i dd)))) W (.tup (xA (.date i r.date)))) l4 (.lst [.ref Z,.ref W])) p6 (.lst ((b++ [C,y]).map V.ref++ [.ref Z,.ref W]))=H8 at k8 e2 f7;have c5:upd (upd (upd (upd H7 Z (.tup [.str Ak,.int i,.int dd])) W (.tup [.str Ak,.int i,.int r.date])) l4 (.lst [.ref Z,.ref W])) p6 (.lst ((b++ [C,y]).map V.ref++ [.ref Z,.ref W]))=H8:=e4;rw[c5];clear e4 c5 d1 a7 c9 f3;refine⟨_,Cd,_,Cd,z3,λp7 d8=>⟨_,Cd,_,Cd,z3,λp8 d9=>⟨z2,λl5 e0=>⟨p6,l5,(b++ [C,y]++ [Z,W]).map V.ref,_,Cd,Cd,?_,yB,(by rw[cQQ];simp;omega),λp9 g4=>?_⟩⟩⟩⟩
  ·exact(yE e0 _) _ _ ((yE d9 _) _ _ ((yE d8 _) _ _ e2.1))
  obtain⟨k9,d6⟩:=aQk (.file i Ay) (.file i r.place) e2 d8 d9 e0 g4;dsimp only[yW];have d2:=f7.trans k9;generalize e6:upd (upd (upd (upd H8 p7 (.tup (xA (.file i Ay)))) p8 (.tup (xA (.file i r.place)))) l5 (.lst [.ref p7,.ref p8])) p9 (.lst ((b++ [C,y]++ [Z,W]).map V.ref++ [.ref p7,.ref p8]))=H9 at k9 d6 d2;have c3:upd (upd (upd (upd H8 p7 (.tup [.str Bi,.int i,.str Ay])) p8 (.tup [.str Bi,.int i,.str r.place])) l5 (.lst [.ref p7,.ref p8])) p9 (.lst ((b++ [C,y]++ [Z,W]).map V.ref++ [.ref p7,.ref p8]))=H9:=e6;rw[c3];clear e6 c3 d8 d9 e0 g4;refine⟨_,Cd,_,Cd,z3,λr1 c1=>⟨_,Cd,_,Cd,z4,λr2 b8=>⟨z2,λl6 b9=>⟨p9,l6,(b++ [C,y]++ [Z,W]++ [p7,p8]).map V.ref,_,Cd,Cd,?_,yB,(by rw[cQQ];simp;omega),λr3 g5=>?_⟩⟩⟩⟩
  ·exact(yE b9 _) _ _ ((yE b8 _) _ _ ((yE c1 _) _ _ d6.1))
  obtain⟨f9,b4⟩:=aQk (.copy i CZ) (.reply i r.date 1) d6 c1 b8 b9 g5;dsimp only[yW];have a2:=d2.trans f9;generalize c6:upd (upd (upd (upd H9 r1 (.tup (xA (.copy i CZ)))) r2 (.tup (xA (.reply i r.date 1)))) l6 (.lst [.ref r1,.ref r2])) r3 (.lst ((b++ [C,y]++ [Z,W]++ [p7,p8]).map V.ref++ [.ref r1,.ref r2]))=H10 at f9 b4 a2;have a5:upd (upd (upd (upd H9 r1 (.tup [.str "copy",.int i,.str CZ])) r2 (.tup [.str BP,.int i,.int r.date,.int 1])) l6 (.lst [.ref r1,.ref r2])) r3 (.lst ((b++ [C,y]++ [Z,W]++ [p7,p8]).map V.ref++ [.ref r1,.ref r2]))=H10:=c6;rw[a5];have e8:H2 r3=none:=d2.fresh ((((yE c1 _).trans (yE b8 _)).trans (yE b9 _)).fresh g5);clear c6 a5 c1 b8 b9;refine⟨_,Cd,.inl ⟨rfl,_,Cb b4.1⟩,_,Cd,O,_,Cd,.inl (Cb (a2 _ _ d0)),z2,λvt g9=>?_⟩;rw[f5];have f8:=yE g9 (.tup [.str AW,.int (R.length:Nat)]);have H:=b4.same f8.t;refine⟨r3,_,_,Cd,Cd,H.1,zlt (by simp;omega),?_⟩;have c4:upd H10 vt (.tup [.str AW,.int (R.length:Nat)]) vt=some (.tup (xA (.void (R.length:Nat)))):=yB;have c7:=a2.trans f8;generalize upd H10 vt (.tup [.str AW,.int (R.length:Nat)])=H11 at H c4 c7 ⊢;refine J _ _ ⟨r3,b++ [C,y]++ [Z,W]++ [p7,p8]++ [r1,r2]++ [vt],[.term i (r.term+3),.term i r.term,.date i dd,.date i r.date,.file i Ay,.file i r.place,.copy i CZ,.reply i r.date 1,.void (R.length:Nat)],_,_,_,_,_,Cd,zQ c7 e8,?_,.inr ⟨hb,i,r,dd,a3,N,rfl⟩⟩;have e9:A++ [.term i (r.term+3),.term i r.term,.date i dd,.date i r.date,.file i Ay,.file i r.place,.copy i CZ,.reply i r.date 1,.void (R.length:Nat)]=(A++ [.term i (r.term+3),.term i r.term]++ [.date i dd,.date i r.date]++ [.file i Ay,.file i r.place]++ [.copy i CZ,.reply i r.date 1])++ [.void (R.length:Nat)]:=by simp
  rw[e9];have tk:∀ {x:Nat} {zs:List V} {ys:List V},H11 x=some (.tup zs)->upd H11 r3 (.lst ys) x=some (.tup zs):=λ{x zs ys} e=>by rw[yJ (λz=>by rw[z,H.1]at e;cases e)];exact e
  refine qV H.2.1 (λi d' e G u=>tk (H.2.2 i d' e G u)) rfl (λi d' e G u=>?_) yB;match i,G,u with
  |0,G,u=>cases G;cases u;exact tk c4
  |i+1,G,u=>cases G
 refine aWb ?_;refine⟨_,Cd,z0,λpn a4=>?_⟩;have k5:=yE a4 (.lst []);have c:=k3.trans k5;have f1:=f4.same k5.t;generalize d3:upd H3 pn (.lst [])=H5 at k5 f1 c;refine⟨D2,pn,_,Cd,Cd,Cb (c _ _ b0),Cb (by rw[<- d3];exact yB),_,Cd,?_⟩;by_cases M:tied= []
 ·subst M;refine onF rfl ?_;exact J _ _ ⟨dl,[],[],none,Cd,c,f1,.inl rfl⟩
 refine onT (by simp[M]) ?_;have o:(0:Int)<((tied.map λk=>V.int (k:Nat)).length:Nat):=by rw[cQt];have:=cXy.mpr M;omega
 refine⟨_,Cd,_,Cd,a,ns,0,Cd,c.t.seq d4,_,Cd,D2,_,Cd,.inl (Cb (c _ _ b0)),_,_,Cd,Cd,o,?_⟩;refine Law.aWR rfl rfl (Cb (c _ _ b0)) (md0 o) (md1 o) λv hv=>?_;obtain⟨i,hi,rfl⟩:=cXt.mp hv;obtain⟨r,j,a3,N,f6⟩:=a0 i hi;obtain⟨p,g1,L⟩:=Y7 (Desk.wX (λv r (z:xB H2 r v)=>z.same c.t) Y) a3 N;rw[Y6 N,f6]at L;dsimp only[yW];refine⟨_,Cd,z2,λC I=>?_⟩;have b1:=yE I (.tup [.str BN,.int (i:Nat)]);refine⟨_,Cd,_,Cd,_,Cd,O,_,_,_,Cd,Cd,Cb (b1 _ _ (c _ _ d0)),yR g1,p,_,4,_,Cd,Cd,Cc (b1 _ _ L),Cd,z3,λy g0=>⟨z2,λl2 a1=>?_⟩⟩;have b2:=yE g0 (.tup [.str "hang",.int (i:Nat),zN (some j)]);have b3:=yE a1 (.lst [.ref C,.ref y]);refine J _ _ ⟨l2,[C,y],[.loose i,.hang i j],_,Cd,c.trans ((b1.trans b2).trans b3),⟨yB,Cd,λm d e G u=>?_⟩,.inr ⟨i,j,r,a3,N,f6,rfl⟩⟩;match m,G,u with
 |0,G,u=>cases G;cases u;exact b3 _ _ (b2 _ _ yB)
 |1,G,u=>cases G;cases u;exact b3 _ _ yB
 |m+2,G,u=>cases G
end
end Alike
namespace Alike
open PySem L2 PyProof.Rows
open Bk (Row Rows xR zI Ans)
open Desk (xA qE stV xB Up Run xU Wf Y5 vF)
open Law (xI LGo LBk xC aXb uR zN)
open Thr (wK)
def aZU{H:Hp}:∀ {vs b:List V} {ds a:List Dt},x4 H vs ds->x4 H b a->x4 H (vs++b) (ds++a)
 |[],b,[],a,_,h=>h
 |v::vs,b,d::ds,a,h1,h2=>by unfold x4 at h1;show x4 H (v::(vs++b)) (d::(ds++a));unfold x4;exact⟨h1.1,aZU h1.2 h2⟩
 |[],_,_::_,_,h,_=>by unfold x4 at h;exact h.elim
 |_::_,_,[],_,h,_=>by unfold x4 at h;exact h.elim
def bXk{R:Rows}{S:List Int}{A B:List zI}{k:Bool}(b:Bk.jU R)(t:∀r∈R,0<=r.term)(o:bK2 R A)(p:bK0 R k B):∃f h,Run R S (A++B) f h S/\h.map z9=R.map z9++(if k=true then [.str AW]else []):=by
 have g:∃f,Run R S A f R S:=by
  rcases o with rfl|⟨i,j,r,a,c,hl,rfl⟩
  ·exact⟨[],.nil⟩
  ·exact(aXx b a c hl).2
 obtain⟨f,g⟩:=g;rcases p with⟨rfl,rfl⟩|⟨rfl,i,r,d,a,c,rfl⟩
 ·exact⟨f,R,by rw[cXr];exact g,by simp⟩
 ·obtain⟨w,q⟩:=aKY (S:=S) a c (t r (cQH a));obtain⟨v,l⟩:=aKW (S:=S) b a c d;obtain⟨s,m⟩:=aKX (S:=S) b a c Ay;obtain⟨u,h,n,e⟩:=bXl (S:=S) b a c;exact⟨_,h,aQR g (aQR q (aQR l (aQR m n))),by rw[e];rfl⟩
abbrev bYz:Stmt:=xI "law"
def bZ1(d:Nat)(K:cQq):Sp:=λe H Q _=>∃ (a:Nat)(b:List Int),e= [.ref a]/\SqL K H a (b.map V.int)/\b.length<=63/\wK d H/\∀c,Q (.bl true) c
def bWA{R:Rows}{A B:List zI}{b:Bool}(c:bK2 R A)(a:bK0 R b B):(∀e∈A++B,Wf e)/\(A++B).length<=11:=by
 rcases c with rfl|⟨i,j,r,_,_,_,rfl⟩<;> rcases a with⟨_,rfl⟩|⟨_,g,f,d,_,_,rfl⟩<;> exact⟨by simp[Wf],by simp⟩
section
variable {K:cQq}
def bKB:yN [AN,Af,A0,Az,AH,"_law_more","_law_replied","_law_behind",A1,"_law_cut"] [AN] (yH bYz):=scM
seal PE PA PS PSs PT in
def bKd(T:vQ mg)(a6:FnG P w K mg base n Bw [AM] aXb)(a8:FnG P w K mg base n C9 [AN,CA,Bz] (bJK K))(Y:FnG P w K mg base n BU [Af] aWg) (I:FnG P w K mg base n B3 [A0] aJv) (X:FnG P w K mg base n BJ [AH,Az] aXM) (G:FnG P w K mg base n Aq [AH,AN] (bKK K)) (N:FnG P w K mg base n Bx [AH,Az] bQR) (u:FnG P w K mg base n CP ["deeds"] (vF Rf)) (F:Fun K "law" "law" bYz f fd):xH P w K mg base CX0 (n+1) f fd [AN] (bZ1 Rf.2 K):=by
 have sc:=bKB;refine F.ok (k:=n) sc (λn0 A outer s H0 vs Q E hr h=>?_);obtain⟨a,ns,rfl,hS,l1,hT,q⟩:=h;refine⟨_,(yC (yU (i:=1) (yL yX (xN a6 hr rfl (yA (Y3 aZs (pv 0) (Z5 yF) (Z5 (yV zC yF (xN a8 hr rfl (yA (pv 0) (yA yF (yA yF yD))))))) yD)) yF)) (yC (yU (i:=2) (yL yX (xN Y hr rfl (yA (pv 1) yD)) yF)) (yC (yU (i:=3) (xN I hr rfl (yA (pv 2) yD))) (yC (yU (i:=4) (xN u hr rfl (yA (xW vV rfl T.b_list wD (yA (pv 1) yD)) yD))) (yC (y6 (vL (x8 (xN X hr rfl (yA (pv 4) (yA (pv 3) yD))))) (yG (yQ vJ)) yT) (yC (yU (i:=4) (pv 3)) (yC (vK (xN G hr rfl (yA (pv 4) (yA (pv 0) yD))) (aJe rfl (zH (xF (i:=5)) (zH (xF (i:=6)) aQN)))) (yC (yU (i:=7) (xN u hr rfl (yA (yV qC (pv 1) (pv 5)) yD))) (yC (yU (i:=3) (yV qC (pv 4) (yV bKh (yZ (yA yP yD)) (xW wT rfl T.b_int uO (yA (pv 6) yD))))) (yC (y6 (vL (x8 (xN N hr rfl (yA (pv 7) (yA (pv 3) yD))))) (yG (yQ vJ)) yT) (yC (y6 (PW.pt (jW (yM (aX7 hr.units0) (pv 5) (yZ yD)) (vX (yM Y1 (yL yX (yL yK (pv 5) yF) yF) yP)))) (yG (yQ vJ)) yT) (yC (yU (i:=8) (yL yX (yL yK (pv 5) yF) yF)) (yC (yU (i:=9) (xW vV rfl T.b_list wD (yA (pv 4) yD))) (yC (vK (yV aY0 (Y3 bKG (yL yK (pv 4) (pv 8)) aX9 (Z5 yF)) (y8 (yA x3 (yA (yL yX (yL yK (pv 4) (pv 8)) yF) yD)))) (qD (pv 9) (pv 8) z6)) (yG (yQ (xN N hr rfl (yA (xN u hr rfl (yA (yV qC (pv 1) (Y3 aZs (pv 5) aX9 (Z5 yF))) yD)) (yA (pv 9) yD))))))))))))))))))),?_⟩;refine⟨_,Cd,_,Cd,_,Cd,a,ns,22,60,Cd,hS,l1,_,_,Cd,Cd,_,Cd,a,_,Cd,hS,λp hp=>?_⟩;obtain⟨ms,l3,n3⟩:=aK5 ns 3 25;have k0:=yE hp (.lst (qP (ns.map V.int) (some 3) (some (3+22))));refine⟨p,ms,Cd,yB.trans (congrArg (λz=>some (HO.lst z)) l3),by omega,λH1 t ds us C es vs as R S k1 ht hD l4 hP O b2 m0=>?_⟩;have i1:es.length<=25:=by omega
 have e6:=(k0.trans k1).t.seq hS;have T1:=Desk.Y8 hT (k0.trans k1);refine⟨t,_,0,_,Cd,Cd,Cc ht,Cd,?_⟩;dsimp only[yW];refine⟨_,Cd,ds,C,es,Cd,hD,by omega,b2,λt2 ra sa H2 rs cs g f9=>?_⟩;obtain⟨R2,S2,hL,l6,e5,g8⟩:=g.ex;obtain⟨rfl,rfl,rfl⟩:=Run.det es.length rfl O g8;have g3:R.length<=25:=cQZ l6.r i1;have A2:Has K Rf.2 a ds ra sa ns C es rs R S H2:=⟨g.keep.t.seq e6,hD.same g.keep.t,hL.book,hL.shut,Desk.Y8 T1 g.keep⟩;clear hD l4 hP ht e6 T1 g hL k1;refine⟨t2,_,0,_,Cd,Cd,Cc f9,Cd,?_⟩;dsimp only[yW];refine⟨_,Cd,ra,rs,R,Cd,A2.b,by omega,λd1 H3 D k3 m9 h8 b8=>?_⟩;have A3:=A2.same k3;dsimp only[yW];refine⟨_,Cd,ds,_,Cd,.inl (Cb A3.d.1),λhl h6=>?_⟩;have k4:=yE h6 (.lst (C.map V.ref));have A4:=A3.same k4;have D4:xU (upd H3 hl (.lst (C.map V.ref))) hl C es:=⟨yB,A3.d.2.1,λi d e M L=>k4 _ _ (A3.d.2.2 i d e M L)⟩;have d3:=k4 _ _ h8;have b9:=Desk.wX (λv r (z:xB H3 r v)=>z.same k4.t) b8;generalize upd H3 hl (.lst (C.map V.ref))=H4 at A4 D4 d3 b9 ⊢;refine⟨hl,C,es,Cd,D4,by omega,b2,A4.t,λl H5 ws bs R2 S2 k5 T5 i6 n6 g5 i8=>?_⟩;obtain⟨-,rfl, -⟩:=Run.det es.length rfl O i6;have A5:=A4.sameT k5 T5;have d5:=k5.lst d3;have a4:=Desk.wX (λv r (z:xB H4 r v)=>z.same k5) b9;dsimp only[yW];refine⟨_,Cd,_,Cd,.ref l,.ref d1,.lst (R.map z9),Cd,aXA g5 (wA (F:=λv r=>xB H5 r v) (λv r z=>jL z) i8),aXA d5 (wA (F:=λv r=>xB H5 r v) (λv r z=>jL z) a4),cQZ (aZr (n:=25) (c:=7) (λr _=>W5 r) g3) (by decide),λH6 k6=>⟨_,Cd,onF rfl ?_⟩⟩;have A6:=A5.same k6;have g4:=k6 _ _ d5;have h7:=Desk.wX (λv r (z:xB H5 r v)=>z.same k6.t) a4;have h9:D.length=R.length:=b8.length;clear A2 A3 A4 A5 D4 b9 i8 a4 g5 d3 d5 k4 k5 k3 k6 h6 f9 h8 b8;refine⟨_,Cd,?_⟩;dsimp only[yW];refine⟨_,Cd,_,Cd,d1,a,D,R,ns,Cd,g4,h7,by omega,A6.s,λH7 tt ml a5 A B W k7 l0 hq hA hB=>?_⟩;have A7:=A6.same k7;have d9:=k7 _ _ g4;have f3:=Desk.wX (λv r (z:xB H6 r v)=>z.same k7.t) h7;obtain⟨j8,f7⟩:=bWA hA hB;have m5:a5.length<=11:=by rw[hq.2.1];exact f7
 have n2:C.length<=25:=by rw[A7.d.2.1];exact i1
 refine⟨tt,[.ref ml,.bl W],Cd,Cc l0,Cd,.ref ml,[.bl W],Cd,.bl W,[],Cd,Cd,?_⟩;dsimp only[yW];refine⟨_,Cd,_,Cd,ds,ml,_,_,Cd,Cd,A7.d.1,hq.1,by rw[cQt,cQt,cQQ];omega,λp1 j6=>?_⟩;have b1:=yE j6 (.lst (C.map V.ref++a5.map V.ref));have D8:=qV A7.d.2.1 (λi d e M L=>b1 _ _ (A7.d.2.2 i d e M L)) hq.2.1 (λi d e M L=>b1 _ _ (hq.2.2 i d e M L)) (yB (H:=H7) (a:=p1) (o:= .lst (C.map V.ref++a5.map V.ref)));have j0:∀e∈es++(A++B),Wf e:=λe he=>(cQY.mp he).elim (b2 e) (j8 e);have m3:(es++(A++B)).length<=36:=by rw[cQL];omega
 refine⟨p1,C++a5,es++(A++B),Cd,D8,by omega,j0,(A7.same b1).t,λl8 H8 m6 m7 R8 S8 k8 T8 i0 m4 j4 j5=>?_⟩;have d0:=bZx O (λr h=>nomatch h);obtain⟨m8,R9,f1,e9⟩:=bXk (S:=S) e5 d0 hA hB;obtain⟨-,rfl, -⟩:=Run.det _ rfl i0 (aQR O f1);have A8:=(A7.same b1).sameT k8 T8;have c7:=k8.lst (b1 _ _ d9);have b4:=Desk.wX (λv r (z:xB H7 r v)=>(z.same b1.t).same k8) f3;have i2:=(hq.same b1.t).same k8;dsimp only[yW];refine⟨_,Cd,z1,λlv g0=>?_⟩;have c1:=yE g0 (.lst [.str AW]);refine⟨_,Cd,.inr ⟨W,Cd,lv,_,[.str AW],Cd,Cd,yB,by cases W<;> decide,by cases W<;> decide,by cases W<;> decide,λpr f5=>?_⟩⟩;have c2:=yE f5 (.lst (cXc (if W=true then(1:Int)else 0).toNat [V.str AW]).flatten);have l7:(cXc (if W=true then(1:Int)else 0).toNat [V.str AW]).flatten.length<=1:=by cases W<;> decide
 refine⟨d1,pr,D,_,Cd,Cd,c2 _ _ (c1 _ _ c7),yB,by rw[h9,cQQ];omega,λpd g6=>?_⟩;have c3:=yE g6 (.lst (D++(cXc (if W=true then(1:Int)else 0).toNat [V.str AW]).flatten));have b3:=yB (H:=upd (upd H8 lv (.lst [.str AW])) pr (.lst (cXc (if W=true then(1:Int)else 0).toNat [V.str AW]).flatten)) (a:=pd) (o:= .lst (D++(cXc (if W=true then(1:Int)else 0).toNat [V.str AW]).flatten));have cc:=(c1.trans c2).trans c3;generalize upd (upd (upd H8 lv (.lst [.str AW])) pr (.lst (cXc (if W=true then(1:Int)else 0).toNat [V.str AW]).flatten)) pd (.lst (D++(cXc (if W=true then(1:Int)else 0).toNat [V.str AW]).flatten))=H9 at cc b3 ⊢;clear c1 c2 c3 g0 f5 g6;have A9:=A8.same cc;have i5:=cc _ _ c7;have d8:=Desk.wX (λv r (z:xB H8 r v)=>z.same cc.t) b4;have f2:=i2.same cc.t;dsimp only[yW];have e7:R8.length<=26:=by have:=congrArg cZs e9;rw[cQt,cQL,cQt]at this;cases W<;> simp at this<;> omega
 refine⟨_,Cd,_,Cd,.ref l8,.ref pd,.lst (R8.map z9),Cd,aXA (cc _ _ j4) (wA (F:=λv r=>xB H9 r v) (λv r z=>jL z) (Desk.wX (λv r (z:xB H8 r v)=>z.same cc.t) j5)),aXA b3 ?_,bJz aVV _,cQZ (aZr (n:=26) (c:=7) (λr _=>W5 r) e7) (by decide),λg9 b0=>⟨_,Cd,onF rfl ?_⟩⟩
 ·rw[e9];refine aZU (wA (F:=λv r=>xB H9 r v) (λv r z=>jL z) d8) ?_;cases W with
  |false=>show x4 H9 [] [];unfold x4;trivial
  |true=>show x4 H9 [.str AW] [.str AW];unfold x4;exact⟨by unfold Is;rfl,by unfold x4;trivial⟩
 have j9:=A9.same b0;have i3:=b0 _ _ i5;have g7:=Desk.wX (λv r (z:xB H9 r v)=>z.same b0.t) d8;have b5:=f2.same b0.t;clear A7 A8 A9 d9 c7 i5 f3 b4 d8 hq i2 f2 D8;refine⟨_,Cd,z0,λpn i9=>?_⟩;have c1:=yE i9 (.lst []);refine⟨ml,pn,_,Cd,Cd,Cb (c1 _ _ b5.1),Cb yB,_,Cd,?_⟩;have i4:=j9.same c1;have a1:=c1 _ _ i3;have a7:=Desk.wX (λv r (z:xB g9 r v)=>z.same c1.t) g7;have J:=b5.same c1.t;generalize upd g9 pn (.lst [])=H11 at i4 a1 a7 J ⊢;cases a5 with
 |nil=>exact onT rfl (onT rfl (q _))
 |cons q0 qr=>
 refine onF rfl ?_;obtain⟨e0,er,a0⟩:∃e0 er,A++B=e0::er:=by
  have:=J.2.1;cases h:A++B with
  |nil=>rw[h]at this;simp at this
  |cons x y=>exact⟨x,y,rfl⟩
 have d4:H11 q0=some (.tup (xA e0)):=J.2.2 0 q0 e0 rfl (by rw[a0];rfl);have h0:(xA e0)[0]? =some (.str (Desk.aWT e0)):=by cases e0<;> rfl
 refine⟨_,Cd,ml,_,0,_,Cd,Cd,Cb J.1,yR (j:=0) rfl,q0,_,0,_,Cd,Cd,Cc d4,yR (j:=0) h0,Cd,_,Cd,?_⟩;rcases hA with rfl|⟨i,j,r,a3,a2,k9,rfl⟩
 ·rcases hB with⟨rfl,rfl⟩|⟨rfl,i,r,d,a3,a2,rfl⟩
  ·cases a0
  ·cases a0;exact onT rfl (q _)
 cases a0;refine onF rfl ?_;refine⟨_,Cd,ml,_,0,_,Cd,Cd,Cb J.1,yR (j:=0) rfl,q0,_,1,_,Cd,Cd,Cc d4,Cd,?_⟩;dsimp only[yW];refine⟨_,Cd,d1,_,Cd,.inl (Cb a1),λca c0=>?_⟩;have c2:=yE c0 (.lst D);obtain⟨pi,g1,g2⟩:=Y7 a7 a3 a2;rw[Y6 a2]at g2;dsimp only[yW];refine⟨_,Cd,_,Cd,d1,_,_,_,Cd,Cd,Cb (c2 _ _ a1),yR g1,_,Cd,pi,_,Cd,Cc (c2 _ _ g2),(show ¬ (HT.sIx 6 0 none=0/\HT.sIx 6 6 (some 4)=6) by decide),λs1 f8=>?_⟩;have c3:=yE f8 (.tup (qP [.str r.way,.int r.date,.str r.partner,.int r.term,zN r.link,.str r.place] none (some 4)));refine⟨_,Cd,_,Cd,d1,_,_,_,Cd,Cd,Cb (c3 _ _ (c2 _ _ a1)),yR g1,pi,_,5,_,Cd,Cd,Cc (c3 _ _ (c2 _ _ g2)),Cd,z2,λs2 e4=>?_⟩;have c4:=yE e4 (.tup [.non,.str r.place]);refine⟨s1,s2,_,_,Cd,Cd,Cc (c4 _ _ yB),Cc yB,(λz=>nomatch z),(show 4+2<=cQM by rw[cQQ];decide),(λz=>nomatch z),λ_ s3 f4=>?_⟩;have c5:=yE f4 (.tup (qP [.str r.way,.int r.date,.str r.partner,.int r.term,zN r.link,.str r.place] none (some 4)++ [.non,.str r.place]));have Z:=c5 _ _ (c4 _ _ (c3 _ _ (yB (H:=H11) (a:=ca) (o:= .lst D))));have U:=yB (H:=upd (upd (upd H11 ca (.lst D)) s1 (.tup (qP [.str r.way,.int r.date,.str r.partner,.int r.term,zN r.link,.str r.place] none (some 4)))) s2 (.tup [.non,.str r.place])) (a:=s3) (o:= .tup (qP [.str r.way,.int r.date,.str r.partner,.int r.term,zN r.link,.str r.place] none (some 4)++ [.non,.str r.place]));have cc:=((c2.trans c3).trans c4).trans c5;have h5:H11 ca=none:=c0;generalize upd (upd (upd (upd H11 ca (.lst D)) s1 (.tup (qP [.str r.way,.int r.date,.str r.partner,.int r.term,zN r.link,.str r.place] none (some 4)))) s2 (.tup [.non,.str r.place])) s3 (.tup (qP [.str r.way,.int r.date,.str r.partner,.int r.term,zN r.link,.str r.place] none (some 4)++ [.non,.str r.place]))=H12 at cc Z U ⊢;have hi:=Bk.zV a3;refine⟨_,Cd,_,Cd,ca,D,(i:Int),i,Cd,Cd,Z,?_,?_⟩
 ·unfold ixN;rw[if_pos (by omega),if_pos (by omega),cQV]
 have c6:xG H11 (upd H12 ca (.lst (D.set i (.ref s3)))):=zQ cc h5;have b6:upd H12 ca (.lst (D.set i (.ref s3))) s3=some (.tup [.str r.way,.int r.date,.str r.partner,.int r.term,.non,.str r.place]):=by rw[yJ (λz=>by rw[z,Z]at U;cases U)];exact U
 have b7:=yB (H:=H12) (a:=ca) (o:= .lst (D.set i (.ref s3)));generalize upd H12 ca (.lst (D.set i (.ref s3)))=H13 at c6 b6 b7 ⊢;have a9:=i4.same c6;have e3:=J.same c6.t;have i7:=Desk.wX (λv r (z:xB H11 r v)=>z.same c6.t) a7;clear c0 f8 e4 f4 c2 c3 c4 c5 cc Z U;refine⟨_,Cd,_,Cd,_,Cd,ml,_,Cd,Cb e3.1,λsl k2=>?_⟩;have e1:qP ((q0::qr).map V.ref) none (some 1)= [.ref q0]:=by unfold qP;rw[HT.bZy,show(some (1:Int))=some ((1:Nat):Int)from rfl,aVo,List.drop_zero,Nat.sub_zero,cQt,cXp,Nat.min_eq_left (by omega)];rfl
 rw[e1]at*;have f0:=yE k2 (.lst [.ref q0]);refine⟨ds,sl,_,_,Cd,Cd,f0 _ _ a9.d.1,yB,by rw[cQt,cQQ];show C.length+1<=_;omega,λp2 j1=>?_⟩;have l2:=yE j1 (.lst (C.map V.ref++ [.ref q0]));have dd:=f0.trans l2;have j2:=qV (das2:= [q0]) (es2:= [.loose (i:Nat)]) a9.d.2.1 (λi d e M L=>dd _ _ (a9.d.2.2 i d e M L)) rfl (λm d e M L=>by
  match m,M,L with
  |0,M,L=>cases M;cases L;exact dd _ _ (c6 _ _ d4)
  |m+1,M,L=>cases M) (yB (H:=upd H13 sl (.lst [.ref q0])) (a:=p2) (o:= .lst (C.map V.ref++ [.ref q0])))
 refine⟨p2,C++ [q0],es++ [.loose (i:Nat)],Cd,j2,by simp;omega,λe he=>?_,(a9.same dd).t,λj3 j7 m2 l9 n5 n1 d7 n4 d2 m1 f6 e8=>?_⟩
 ·rcases cQY.mp he with z|z
  ·exact b2 e z
  ·rw[cQD.mp z];exact cXN
 have dl:=(aXx (S:=S) e5 a3 a2 k9).1;obtain⟨-,rfl, -⟩:=Run.det _ rfl d2 (Run.snoc O dl);have c9:=d7.lst (dd _ _ b7);have d6:=d7.tup (dd _ _ b6);have c8:=Desk.wX (λv r (z:xB H13 r v)=>(z.same dd.t).same d7) i7;refine⟨_,Cd,.ref j3,.ref ca,.lst ((Bk.xD R i λr'=>{r' with link:=none}).map z9),Cd,aXA f6 (wA (F:=λv r=>xB j7 r v) (λv r z=>jL z) e8),aXA c9 (aVR (by rw[List.length_set,h9,Bk.xX]) λm v r' M L=>?_),bJz aVV _,cQZ (aZr (n:=25) (c:=7) (λr _=>W5 r) (by rw[Bk.xX];exact g3)) (by decide),λl5 _=>q l5⟩;rw[Bk.xJ]at L;by_cases hm:m=i
 ·subst hm;rw[if_pos rfl,a3]at L;cases L;rw[cZI (by omega)]at M;cases M;have e2:z9 {r with link:=none}= .tup ([.str r.way,.int r.date,.str r.partner,.int r.term,.non,.str r.place].map vDt):=by
   unfold z9;rw[if_neg (by show ¬r.void=true;rw[a2];decide),Y6 (r:={r with link:=none}) a2];rfl
  rw[e2];exact bJu d6 (by simp[aWy])
 ·rw[if_neg hm]at L;rw[cJB (cQ6 hm)]at M;obtain⟨v',h3,h4⟩:=bZl c8 L;rw[M]at h3;cases h3;exact jL h4
end
end Alike
set_option tactic.hygienic false
namespace Desk
open PySem L2 PyProof.Rows
section
variable {K:cQq}
abbrev aQY:Stmt:=xK Al AE
def aKs:yN [AA,AF] [AA,AF] (yH aQY):=scM
def aW7(F:Fun K AE "Refused.__init__" aQY f fd):xH P w K mg base CX0 (n+1) f fd [AA,AF] (wY K):=by
 have g:=aKs;refine F.ok (k:=n) g (λb A outer s H l Q E j h=>?_);obtain⟨e,C,tp,y,rfl,c,i,q⟩:=h;refine⟨_,(yG (bKn (pv 0) (pv 1) rfl)),?_⟩;exact⟨_,Cd,_,Cd,e,C,tp,Cd,c,i,λd a=>q d a⟩
abbrev Z9:Stmt:=xK "NoLetter" AE
def aVt:yN [AA] [AA] (yH Z9):=scM
def aJ2(a:aWw P w K mg base n Al AE [AA,AF] (wY K))(l:uC K C)(F:Fun K AE "NoLetter.__init__" Z9 f fd):xH P w K mg base CX0 (n+1) f fd [AA] (wO K C "no letter"):=by
 have j:=aVt;refine F.ok (k:=n) j (λc A outer s H m Q E g h=>?_);obtain⟨e,tp,rfl,d,q⟩:=h;refine⟨_,(yG (y0 (jA a g rfl (yA (pv 0) (yA yP yD))))),?_⟩;exact⟨_,Cd,e,C,tp,_,Cd,d,l,λi b=>q i b⟩
abbrev aZn:Stmt:=xK "NoTerm" AE
def bQA:yN [AA] [AA] (yH aZn):=scM
def aYN(a:aWw P w K mg base n Al AE [AA,AF] (wY K))(l:uC K C)(F:Fun K AE "NoTerm.__init__" aZn f fd):xH P w K mg base CX0 (n+1) f fd [AA] (wO K C "no term"):=by
 have j:=bQA;refine F.ok (k:=n) j (λc A outer s H m Q E g h=>?_);obtain⟨e,tp,rfl,d,q⟩:=h;refine⟨_,(yG (y0 (jA a g rfl (yA (pv 0) (yA yP yD))))),?_⟩;exact⟨_,Cd,e,C,tp,_,Cd,d,l,λi b=>q i b⟩
abbrev aZm:Stmt:=xK "HasOne" AE
def bQz:yN [AA] [AA] (yH aZm):=scM
def aYM(a:aWw P w K mg base n Al AE [AA,AF] (wY K))(l:uC K C)(F:Fun K AE "HasOne.__init__" aZm f fd):xH P w K mg base CX0 (n+1) f fd [AA] (wO K C "has one"):=by
 have j:=bQz;refine F.ok (k:=n) j (λc A outer s H m Q E g h=>?_);obtain⟨e,tp,rfl,d,q⟩:=h;refine⟨_,(yG (y0 (jA a g rfl (yA (pv 0) (yA yP yD))))),?_⟩;exact⟨_,Cd,e,C,tp,_,Cd,d,l,λi b=>q i b⟩
abbrev aQX:Stmt:=xK "HasNone" AE
def aKr:yN [AA] [AA] (yH aQX):=scM
def aW6(a:aWw P w K mg base n Al AE [AA,AF] (wY K))(l:uC K C)(F:Fun K AE "HasNone.__init__" aQX f fd):xH P w K mg base CX0 (n+1) f fd [AA] (wO K C "has none"):=by
 have j:=aKr;refine F.ok (k:=n) j (λc A outer s H m Q E g h=>?_);obtain⟨e,tp,rfl,d,q⟩:=h;refine⟨_,(yG (y0 (jA a g rfl (yA (pv 0) (yA yP yD))))),?_⟩;exact⟨_,Cd,e,C,tp,_,Cd,d,l,λi b=>q i b⟩
abbrev qN:Stmt:=xK "OwnThread" AE
def aJl:yN [AA] [AA] (yH qN):=scM
def aZ8(a:aWw P w K mg base n Al AE [AA,AF] (wY K))(l:uC K C)(F:Fun K AE "OwnThread.__init__" qN f fd):xH P w K mg base CX0 (n+1) f fd [AA] (wO K C "own thread"):=by
 have j:=aJl;refine F.ok (k:=n) j (λc A outer s H m Q E g h=>?_);obtain⟨e,tp,rfl,d,q⟩:=h;refine⟨_,(yG (y0 (jA a g rfl (yA (pv 0) (yA yP yD))))),?_⟩;exact⟨_,Cd,e,C,tp,_,Cd,d,l,λi b=>q i b⟩
abbrev aQZ:Stmt:=xK "SameWay" AE
def aKt:yN [AA] [AA] (yH aQZ):=scM
def aW8(a:aWw P w K mg base n Al AE [AA,AF] (wY K))(l:uC K C)(F:Fun K AE "SameWay.__init__" aQZ f fd):xH P w K mg base CX0 (n+1) f fd [AA] (wO K C "same way"):=by
 have j:=aKt;refine F.ok (k:=n) j (λc A outer s H m Q E g h=>?_);obtain⟨e,tp,rfl,d,q⟩:=h;refine⟨_,(yG (y0 (jA a g rfl (yA (pv 0) (yA yP yD))))),?_⟩;exact⟨_,Cd,e,C,tp,_,Cd,d,l,λi b=>q i b⟩
abbrev vY:Stmt:=xK "OtherPartner" AE
def aQ7:yN [AA] [AA] (yH vY):=scM
def aQH(a:aWw P w K mg base n Al AE [AA,AF] (wY K))(l:uC K C)(F:Fun K AE "OtherPartner.__init__" vY f fd):xH P w K mg base CX0 (n+1) f fd [AA] (wO K C "other partner"):=by
 have j:=aQ7;refine F.ok (k:=n) j (λc A outer s H m Q E g h=>?_);obtain⟨e,tp,rfl,d,q⟩:=h;refine⟨_,(yG (y0 (jA a g rfl (yA (pv 0) (yA yP yD))))),?_⟩;exact⟨_,Cd,e,C,tp,_,Cd,d,l,λi b=>q i b⟩
abbrev W0:Stmt:=xK "TooEarly" AE
def aVu:yN [AA] [AA] (yH W0):=scM
def aJ3(a:aWw P w K mg base n Al AE [AA,AF] (wY K))(l:uC K C)(F:Fun K AE "TooEarly.__init__" W0 f fd):xH P w K mg base CX0 (n+1) f fd [AA] (wO K C "too early"):=by
 have j:=aVu;refine F.ok (k:=n) j (λc A outer s H m Q E g h=>?_);obtain⟨e,tp,rfl,d,q⟩:=h;refine⟨_,(yG (y0 (jA a g rfl (yA (pv 0) (yA yP yD))))),?_⟩;exact⟨_,Cd,e,C,tp,_,Cd,d,l,λi b=>q i b⟩
abbrev aZl:Stmt:=xK "Copied" AE
def bQy:yN [AA] [AA] (yH aZl):=scM
def aYL(a:aWw P w K mg base n Al AE [AA,AF] (wY K))(l:uC K C)(F:Fun K AE "Copied.__init__" aZl f fd):xH P w K mg base CX0 (n+1) f fd [AA] (wO K C CU):=by
 have j:=bQy;refine F.ok (k:=n) j (λc A outer s H m Q E g h=>?_);obtain⟨e,tp,rfl,d,q⟩:=h;refine⟨_,(yG (y0 (jA a g rfl (yA (pv 0) (yA yP yD))))),?_⟩;exact⟨_,Cd,e,C,tp,_,Cd,d,l,λi b=>q i b⟩
abbrev Z8:Stmt:=xK "Answered" AE
def aVs:yN [AA] [AA] (yH Z8):=scM
def aJ1(a:aWw P w K mg base n Al AE [AA,AF] (wY K))(l:uC K C)(F:Fun K AE "Answered.__init__" Z8 f fd):xH P w K mg base CX0 (n+1) f fd [AA] (wO K C B4):=by
 have j:=aVs;refine F.ok (k:=n) j (λc A outer s H m Q E g h=>?_);obtain⟨e,tp,rfl,d,q⟩:=h;refine⟨_,(yG (y0 (jA a g rfl (yA (pv 0) (yA yP yD))))),?_⟩;exact⟨_,Cd,e,C,tp,_,Cd,d,l,λi b=>q i b⟩
abbrev qM:Stmt:=xK "CountsNot" AE
def aJk:yN [AA] [AA] (yH qM):=scM
def aZ7(a:aWw P w K mg base n Al AE [AA,AF] (wY K))(l:uC K C)(F:Fun K AE "CountsNot.__init__" qM f fd):xH P w K mg base CX0 (n+1) f fd [AA] (wO K C "counts not"):=by
 have j:=aJk;refine F.ok (k:=n) j (λc A outer s H m Q E g h=>?_);obtain⟨e,tp,rfl,d,q⟩:=h;refine⟨_,(yG (y0 (jA a g rfl (yA (pv 0) (yA yP yD))))),?_⟩;exact⟨_,Cd,e,C,tp,_,Cd,d,l,λi b=>q i b⟩
end
end Desk
namespace End4
open PySem L2 PyProof.Rows
section
variable {K:cQq}{x m qual t:Str}{st:Stmt}{f C R CB CL:Nat}{oc:cQp}{od an:Option Nat}{osl:Array (Option cQp)}{kV doc pm cdv ct:cQp}
structure vZ(K:cQq)(x:Str)(st:Stmt)(f:Nat):Prop where
 ns:cXl K cQX x=some (some (.ref f))
 ex:∃fd,Fun K x x st f fd
def Def(K:cQq)(x:Str)(st:Stmt):Prop:=∃f,vZ K x st f
def xZ(a:cXl K cQX x=some (some (.ref f)))(l:K.lookup f=some ⟨oc,od,.func (cXu x x (x5 st) (xS st) (yH st) .none kV doc pm an cdv ct),osl⟩)
  (c:cZb K cdv x=true) (k:cXm K (.ref f)=true):vZ K x st f:=⟨a,_,aXy l c k⟩
def xO(a:cXl K cQX x=some (some (.ref f)))(l:K.lookup f=some ⟨oc,od,.func (cXu x x (x5 st) (xS st) (yH st) .none kV doc pm an cdv ct),osl⟩)
  (c:cZb K cdv x=true) (k:cXm K (.ref f)=true):Def K x st:=⟨f,xZ a l c k⟩
structure Mtd(K:cQq)(C:Nat)(m qual:Str)(st:Stmt):Prop where
 ex:∃f fd,bWC K C m f/\Fun K m qual st f fd
def zB(a:cQ9 K (.ref C) m=some (some (.ref f)))(i:cZ8 K (.ref f)=true)(l:K.lookup f=some ⟨oc,od,.func (cXu m qual (x5 st) (xS st) (yH st) .none kV doc pm an cdv ct),osl⟩)
  (c:cZb K cdv qual=true) (k:cXm K (.ref f)=true):Mtd K C m qual st:=⟨f,_,⟨a,i,k⟩,aXy l c k⟩
structure MkD(K:cQq)(x:Str)(C:Nat)(qual:Str)(st:Stmt):Prop where
 ns:cXl K cQX x=some (some (.ref C))
 ex:∃f fd,Mk K C f/\Fun K "__init__" qual st f fd
def bJy(a:cXl K cQX x=some (some (.ref C)))(mk:PySem.W.makesIn K C=true)(b:cXm K (.ref C)=true)(d:cQ9 K (.ref C) "__init__"=some (some (.ref f)))(i:cZ8 K (.ref f)=true) (l:K.lookup f=some ⟨oc,od,.func (cXu "__init__" qual (x5 st) (xS st) (yH st) .none kV doc pm an cdv ct),osl⟩) (c:cZb K cdv qual=true) (k:cXm K (.ref f)=true):MkD K x C qual st:=
 ⟨a,f,_,⟨mk,d,i,b⟩,aXy l c k⟩
structure Exc(K:cQq)(R:Nat)(x qual:Str)(st:Stmt):Prop where
 ex:∃C f fd,cXl K cQX x=some (some (.ref C))/\uC K C/\cJG K C (.ref R)=some true/\cQ9 K (.ref C) "__init__"=some (some (.ref f))/\cZ8 K (.ref f)=true/\cXm K (.ref C)=true/\Fun K "__init__" qual st f fd
def uY(a:cXl K cQX x=some (some (.ref C)))(e:bXx K C=true)(g:cJG K C (.ref R)=some true)(b:cXm K (.ref C)=true)(d:cQ9 K (.ref C) "__init__"=some (some (.ref f)))(i:cZ8 K (.ref f)=true) (l:K.lookup f=some ⟨oc,od,.func (cXu "__init__" qual (x5 st) (xS st) (yH st) .none kV doc pm an cdv ct),osl⟩) (c:cZb K cdv qual=true) (k:cXm K (.ref f)=true):Exc K R x qual st:=
 ⟨C,f,_,a,aYf e,g,d,i,b,aXy l c k⟩
structure bYf(K:cQq)(x:Str)(R:Nat)(qual:Str)(st:Stmt):Prop where
 ns:cXl K cQX x=some (some (.ref R))
 cl:uC K R
 ex:∃f fd,PySem.W.readsIn K R (.type "type")=true/\PySem.W.findCls K (.ref R) (.type "type") "__init__"=some (.val (.ref f))/\cJ2 K (.ref R) "__getattribute__"=some (some (.builtin "type.__getattribute__"))/\Fun K "__init__" qual st f fd
def bVR(a:cXl K cQX x=some (some (.ref R)))(e:bXx K R=true)(rd:PySem.W.readsIn K R (.type "type")=true)(b:PySem.W.findCls K (.ref R) (.type "type") "__init__"=some (.val (.ref f))) (sp:cJ2 K (.ref R) "__getattribute__"=some (some (.builtin "type.__getattribute__"))) (l:K.lookup f=some ⟨oc,od,.func (cXu "__init__" qual (x5 st) (xS st) (yH st) .none kV doc pm an cdv ct),osl⟩) (c:cZb K cdv qual=true) (k:cXm K (.ref f)=true):bYf K x R qual st:=
 ⟨a,aYf e,f,_,rd,b,sp,aXy l c k⟩
def bYj(b1:cZ9 K CB Str.empty=true)(k:cJo K CB=true)(l:cJ1 K CB=true)(p:cQ9 K (.ref CB) "__setattr__"=some (some (.builtin "object.__setattr__")))
  (o:cZ9 K CL Str.empty=true) (n:cJo K CL=true) (m:cJ1 K CL=true) (c:cQ9 K (.ref CL) "__setattr__"=some (some (.builtin "object.__setattr__")))
  (j:cQ9 K (.ref CB) "letters"=some none) (q:cQ9 K (.ref CB) "shut"=some none)
  (r:cQ9 K (.ref CL) "number"=some none) (e:cQ9 K (.ref CL) "way"=some none) (d:cQ9 K (.ref CL) "day"=some none) (h:cQ9 K (.ref CL) "partner"=some none)
  (f:cQ9 K (.ref CL) "term"=some none) (i:cQ9 K (.ref CL) "link"=some none) (g:cQ9 K (.ref CL) "file"=some none) (b:cQ9 K (.ref CL) "copies"=some none) (a:cQ9 K (.ref CL) "void"=some none):
  Desk.Cl K CB CL:=⟨⟨b1,k,l,p⟩,⟨o,n,m,c⟩,j,q,r,e,d,h,f,i,g,b,a⟩
end
section
variable {P:cQO}{w:cQ1}{K:cQq}{h:Heap}{mg:Str->Option cQp}{base:Heap}{x m qual t:Str}{st:Stmt}{f C R:Nat}{k:Nat}{ps:List Str}{sp:Sp}{CX:CXT}
def uU(x qual:Str)(st:Stmt)(ps:List Str):Prop:=∀ (kV doc pm:cQp)(an:Option Nat)(cdv ct:cQp)(a:List cQp),a.length=ps.length->cJa (cXu x qual (x5 st) (xS st) (yH st) .none kV doc pm an cdv ct) ⟨a,[]⟩=pure (ps.zip a)
def aQd{a:cZn}(F:Fun K x qual st f a):cXm K (.ref f)=true:=F.2
def gOf(P:cQO)(w:cQ1)(base:Heap)(k:Nat)(X:K.In h)(G:h.Ns cQX mg)(D:Def K x st)(b:uU x x st ps)(ok:∀f c,Fun K x x st f c->xH P w K mg base CX0 k f c ps sp):FnG P w K mg base k x ps sp:=by
 obtain⟨f,a,c,F⟩:=D;exact⟨f,c,ok f c F,F.binds b,aQd F,cZk X G a⟩
def xOf(P:cQO)(w:cQ1)(base:Heap)(k:Nat)(X:K.In h)(G:h.Ns cQX mg)(D:Def K x st)(b:uU x x st ps)(ok:∀f c,Fun K x x st f c->xH P w K mg base (CXR P w) k f c ps sp):FnX P w K mg base k x ps sp:=by
 obtain⟨f,a,c,F⟩:=D;exact⟨f,c,ok f c F,F.binds b,aQd F,cZk X G a⟩
structure DoG(P:cQO)(w:cQ1)(K:cQq)(mg:Str->Option cQp)(base:Heap)(k:Nat)(f:Nat)(ps:List Str)(sp:Sp):Prop where
 ex:∃fd,xH P w K mg base (CXR P w) k f fd ps sp/\uB K fd ps []/\cXm K (.ref f)=true
def dOf(mg:Str->Option cQp)(P:cQO)(w:cQ1)(base:Heap)(k:Nat)(D:vZ K x st f)(b:uU x x st ps)(ok:∀f c,Fun K x x st f c->xH P w K mg base (CXR P w) k f c ps sp):DoG P w K mg base k f ps sp:=by
 obtain⟨a,c,F⟩:=D;exact⟨c,ok f c F,F.binds b,aQd F⟩
def mOf(mg:Str->Option cQp)(P:cQO)(w:cQ1)(base:Heap)(k:Nat)(c:Cls K C)(D:Mtd K C m qual st)(b:uU m qual st ps)(ok:∀f a,Fun K m qual st f a->xH P w K mg base CX0 k f a ps sp):MG P w K mg base CX0 k C m ps sp:=by
 obtain⟨f,a,M,F⟩:=D.ex;exact⟨⟨f,a,ok f a F,F.binds b,M⟩,c⟩
def aJY(mg:Str->Option cQp)(P:cQO)(w:cQ1)(base:Heap)(k:Nat)(c:Cls K C)(D:Mtd K C m qual st)(b:uU m qual st ps)(ok:∀f a,Fun K m qual st f a->xH P w K mg base (CXR P w) k f a ps sp):MG P w K mg base (CXR P w) k C m ps sp:=by
 obtain⟨f,a,M,F⟩:=D.ex;exact⟨⟨f,a,ok f a F,F.binds b,M⟩,c⟩
def kOf(P:cQO)(w:cQ1)(base:Heap)(k:Nat)(X:K.In h)(G:h.Ns cQX mg)(D:MkD K x C qual st)(b:uU "__init__" qual st ps)(ok:∀f a,Fun K "__init__" qual st f a->xH P w K mg base CX0 k f a ps sp):MkG P w K mg base k x C ps sp:=by
 obtain⟨f,a,M,F⟩:=D.ex;exact⟨⟨f,a,ok f a F,F.binds b,M,cZk X G D.ns⟩⟩
def eOf(P:cQO)(w:cQ1)(base:Heap)(k:Nat)(t:Str)(X:K.In h)(G:h.Ns cQX mg)(D:Exc K R x qual st)(b:uU "__init__" qual st ["self"])(ok:∀C f c,uC K C->Fun K "__init__" qual st f c->xH P w K mg base CX0 k f c ["self"] (wO K C t)):∃C,ExG P w K mg base k x R C t:=by
 obtain⟨C,f,c,a,e,d,j,i,g,F⟩:=D.ex;exact⟨C,⟨f,c,ok C f c e F,F.binds b,j,i,g,cZk X G a⟩,e,d⟩
def rOf(P:cQO)(w:cQ1)(base:Heap)(k:Nat)(X:K.In h)(G:h.Ns cQX mg)(D:bYf K x R qual st)(b:uU "__init__" qual st ps)(ok:∀f a,Fun K "__init__" qual st f a->xH P w K mg base CX0 k f a ps sp):aWw P w K mg base k x "__init__" ps sp:=by
 obtain⟨f,a,rd,c,s,F⟩:=D.ex;exact⟨⟨R,f,a,ok f a F,F.binds b,rd,c,s,aQd F,cZk X G D.ns⟩⟩
end
def Pr(w:cQ1):List DictEntry->List (Str×Nat)->Prop
 |[],[]=>True
 |e::es,(x,f)::r=>(∃t,e.key= .str x t)/\e.hash=hashStr w x/\e.val= .ref f/\Pr w es r
 |_,_=>False
abbrev bJv(r:List (Str×Nat)):List (Key×cQp):=r.map λp=>(Sum.inr p.1,.ref p.2)
def aV4{P:cQO}{w:cQ1}:∀ {a:List DictEntry} {r:List (Str×Nat)},Pr w a r->Pairs (zG P w) a (bJv r)
 |[],[],_=> .nil
 |e::a,(x,f)::r,⟨⟨t,h1⟩,h2,h3,h4⟩=> .cons (by rw[h1];exact qK P w x t) h3 (aV4 h4)
 |[],_::_,h=>nomatch h
 |_::_,[],h=>nomatch h
def aY9{P:cQO}{w:cQ1}:∀ {a:List DictEntry} {r:List (Str×Nat)},Pr w a r->∀e∈a,∃k,(zG P w).is k e.key=true/\e.hash=(zG P w).hash k
 |[],_,_,e,he=>nomatch he
 |e::a,(x,f)::r,⟨⟨t,h1⟩,h2,h3,h4⟩,e',he=>by
  rcases cQz.mp he with rfl|z
  ·exact⟨Sum.inr x,by rw[h1];exact qK P w x t,h2⟩
  ·exact aY9 h4 e' z
 |_::_,[],h,_,_=>nomatch h
def bWv{P:cQO}{w:cQ1}{K:cQq}{D:Nat}{c:Array DictEntry}{f:Nat}{r:List (Str×Nat)}(l:K.lookup D=some ⟨.type "dict",none,.dict c f, #[]⟩)(p:Pr w c.toList r)(g:(r.map (·.1)).Nodup):Desk.bYh P w K D (bJv r):=by
 refine⟨⟨_,c,f,l,⟨rfl,rfl,rfl⟩,rfl,λe h=>aY9 p e (Array.mem_toList_iff.mpr h),aV4 p,?_⟩⟩;have e:(bJv r).map (·.1)=(r.map (·.1)).map Sum.inr:=by simp[bJv,Function.comp_def]
 rw[e];exact List.Pairwise.map _ (λa b d z=>d (Sum.inr.inj z)) g
def uS:∀ {r:List (Str×Nat)} {x:Str} {f:Nat},(r.map (·.1)).Nodup->∀i:Nat,r[i]? =some (x,f)->cJO (bJv r) (Sum.inr x:Key)=some (.ref f)
 |[],_,_,_,_,h=>by simp at h
 |(y,g)::r,x,f,nd,0,h=>by cases h;simp[cJO,bJv]
 |(y,g)::r,x,f,nd,i+1,h=>by
  have c:r[i]? =some (x,f):=by simpa using h
  have a:=cZy.mp nd;have d:¬ ((Sum.inr y:Key)=Sum.inr x):=λz=>a.1 (by
   rw[Sum.inr.inj z];exact cXt.mpr ⟨(x,f),cQH c,rfl⟩)
  have b:=uS a.2 i c;unfold cJO at b ⊢;simp only[bJv,cXa,cZO,decide_eq_false d]at b ⊢;exact b
end End4
namespace L2
open PySem
section
variable {P:cQO}{w:cQ1}{K:cQq}{mg:Str->Option cQp}{base:Heap}{j k:Nat}{x t:Str}{ps:List Str}{sp:Sp}{C Rf:Nat}{CX:CXT}
def FnG.up(G:FnG P w K mg base j x ps sp)(h:j<=k:=by decide):FnG P w K mg base k x ps sp:=G.mono h
def FnX.up(G:FnX P w K mg base j x ps sp)(h:j<=k:=by decide):FnX P w K mg base k x ps sp:=G.mono h
def MG.up(G:MG P w K mg base CX j C x ps sp)(h:j<=k:=by decide):MG P w K mg base CX k C x ps sp:=G.mono h
def MkG.up(G:MkG P w K mg base j x C ps sp)(h:j<=k:=by decide):MkG P w K mg base k x C ps sp:=G.mono h
def ExG.up(G:ExG P w K mg base j x Rf C t)(h:j<=k:=by decide):ExG P w K mg base k x Rf C t:=G.mono h
end
end L2
namespace End4
open PySem L2 PyProof.Rows
def bd1{x qual:Str}{st:Stmt}{a:Str}(h:∀ (kV doc pm:cQp)(an:Option Nat)(cdv ct b:cQp),cJa (cXu x qual (x5 st) (xS st) (yH st) .none kV doc pm an cdv ct) ⟨[b],[]⟩=pure (cJR [a] [b])):uU x qual st [a]:=by
 intro kV doc pm an cdv ct c l;rcases c with _|⟨_,_|⟨_,_⟩⟩<;> first|(cases l;done)|exact h _ _ _ _ _ _ _
def bd2{x qual:Str}{st:Stmt}{b c:Str}(h:∀ (kV doc pm:cQp)(an:Option Nat)(cdv ct d a:cQp),cJa (cXu x qual (x5 st) (xS st) (yH st) .none kV doc pm an cdv ct) ⟨[d,a],[]⟩=pure (cJR [b,c] [d,a])):uU x qual st [b,c]:=by
 intro kV doc pm an cdv ct e l;rcases e with _|⟨_,_|⟨_,_|⟨_,_⟩⟩⟩<;> first|(cases l;done)|exact h _ _ _ _ _ _ _ _
def bd3{x qual:Str}{st:Stmt}{d b e:Str}(h:∀ (kV doc pm:cQp)(an:Option Nat)(cdv ct c f a:cQp),cJa (cXu x qual (x5 st) (xS st) (yH st) .none kV doc pm an cdv ct) ⟨[c,f,a],[]⟩=pure (cJR [d,b,e] [c,f,a])):uU x qual st [d,b,e]:=by
 intro kV doc pm an cdv ct g l;rcases g with _|⟨_,_|⟨_,_|⟨_,_|⟨_,_⟩⟩⟩⟩<;> first|(cases l;done)|exact h _ _ _ _ _ _ _ _ _
def bd4{x qual:Str}{st:Stmt}{d b f i:Str}(h:∀ (kV doc pm:cQp)(an:Option Nat)(cdv ct c g a e:cQp),cJa (cXu x qual (x5 st) (xS st) (yH st) .none kV doc pm an cdv ct) ⟨[c,g,a,e],[]⟩=pure (cJR [d,b,f,i] [c,g,a,e])):uU x qual st [d,b,f,i]:=by
 intro kV doc pm an cdv ct j l;rcases j with _|⟨_,_|⟨_,_|⟨_,_|⟨_,_|⟨_,_⟩⟩⟩⟩⟩<;> first|(cases l;done)|exact h _ _ _ _ _ _ _ _ _ _
def bd5{x qual:Str}{st:Stmt}{e b g j k:Str}(h:∀ (kV doc pm:cQp)(an:Option Nat)(cdv ct d i a f c:cQp),cJa (cXu x qual (x5 st) (xS st) (yH st) .none kV doc pm an cdv ct) ⟨[d,i,a,f,c],[]⟩=pure (cJR [e,b,g,j,k] [d,i,a,f,c])):uU x qual st [e,b,g,j,k]:=by
 intro kV doc pm an cdv ct m l;rcases m with _|⟨_,_|⟨_,_|⟨_,_|⟨_,_|⟨_,_|⟨_,_⟩⟩⟩⟩⟩⟩<;> first|(cases l;done)|exact h _ _ _ _ _ _ _ _ _ _ _
def bd6{x qual:Str}{st:Stmt}{e b j m n f:Str}(h:∀ (kV doc pm:cQp)(an:Option Nat)(cdv ct d k a i c g:cQp),cJa (cXu x qual (x5 st) (xS st) (yH st) .none kV doc pm an cdv ct) ⟨[d,k,a,i,c,g],[]⟩=pure (cJR [e,b,j,m,n,f] [d,k,a,i,c,g])):uU x qual st [e,b,j,m,n,f]:=by
 intro kV doc pm an cdv ct o l;rcases o with _|⟨_,_|⟨_,_|⟨_,_|⟨_,_|⟨_,_|⟨_,_|⟨_,_⟩⟩⟩⟩⟩⟩⟩<;> first|(cases l;done)|exact h _ _ _ _ _ _ _ _ _ _ _ _
def bd7{x qual:Str}{st:Stmt}{e b j m n f o:Str}(h:∀ (kV doc pm:cQp)(an:Option Nat)(cdv ct d k a i c g p:cQp),cJa (cXu x qual (x5 st) (xS st) (yH st) .none kV doc pm an cdv ct) ⟨[d,k,a,i,c,g,p],[]⟩=pure (cJR [e,b,j,m,n,f,o] [d,k,a,i,c,g,p])):uU x qual st [e,b,j,m,n,f,o]:=by
 intro kV doc pm an cdv ct q l;rcases q with _|⟨_,_|⟨_,_|⟨_,_|⟨_,_|⟨_,_|⟨_,_|⟨_,_|⟨_,_⟩⟩⟩⟩⟩⟩⟩⟩<;> first|(cases l;done)|exact h _ _ _ _ _ _ _ _ _ _ _ _ _
def bdA{x qual:Str}{st:Stmt}{ps:List Str}(h:uU x qual st ps:=by
  first|refine bd1 λa b c d e f g=>?_|refine bd2 λa b c d e f g i=>?_|refine bd3 λa b c d e f g i j=>?_|refine bd4 λa b c d e f g i j k=>?_|refine bd5 λa b c d e f g i j k l=>?_|refine bd6 λa b c d e f g i j k l m=>?_|refine bd7 λa b c d e f g i j k l m n=>?_
  kernel_rfl):uU x qual st ps:=h
end End4
namespace End4
open PySem L2 PyProof.Rows
set_option maxHeartbeats 0 in
def all_mk{l:PySem.W.OpenLaw}{w:cQ1}{K:cQq}{h:Heap}{mg:Str->Option cQp}{fa R L CL cA J fA fL DD i x A y I D z E B H u q r p j k:Nat}{b7 j6:Option Nat}{h2:Array (Option cQp)}{l1 c3 l3 f2 e2:cQp}{a5:Array DictEntry}{k1:Nat}{tW tO:Tok} (X:K.In h) (G:h.Ns cQX mg) (k6:mg "law"=some (.ref fa)) (d59:bYf K "Refused" R "Refused.__init__" Desk.aQY) (d60:Exc K R "NoLetter" "NoLetter.__init__" Desk.Z9) (d61:Exc K R "NoTerm" "NoTerm.__init__" Desk.aZn) (d62:Exc K R "HasOne" "HasOne.__init__" Desk.aZm) (d63:Exc K R "HasNone" "HasNone.__init__" Desk.aQX) (d64:Exc K R "OwnThread" "OwnThread.__init__" Desk.qN) (d65:Exc K R "SameWay" "SameWay.__init__" Desk.aQZ) (d66:Exc K R "OtherPartner" "OtherPartner.__init__" Desk.vY) (d67:Exc K R "TooEarly" "TooEarly.__init__" Desk.W0) (d68:Exc K R "Copied" "Copied.__init__" Desk.aZl) (d69:Exc K R "Answered" "Answered.__init__" Desk.Z8) (d70:Exc K R "CountsNot" "CountsNot.__init__" Desk.qM) (d9:MkD K "Letter" CL "Letter.__init__" Desk.bQo) (d24:MkD K "Book" L "Book.__init__" Desk.bQh) (cl:Desk.Cl K L CL) (d10:Mtd K CL "state" "Letter.state" Desk.bQt) (d11:Mtd K CL "is_answered_by" "Letter.is_answered_by" Desk.bQg) (d12:Mtd K CL "has_gone_to" "Letter.has_gone_to" Desk.bVV) (d13:Mtd K CL "make_void" "Letter.make_void" Desk.bV4) (d15:Mtd K L "letter_at" "Book.letter_at" Desk.aQU) (d16:Mtd K L "answers_to" "Book.answers_to" Desk.aV8) (d17:Mtd K L "copies_of" "Book.copies_of" Desk.aQT) (d18:Mtd K L "state_of" "Book.state_of" Desk.aZj) (d19:Mtd K L "letters_in" "Book.letters_in" Desk.jR) (d20:Mtd K L "answered_by" "Book.answered_by" Desk.aQS) (d21:Mtd K L "waiting_pairs" "Book.waiting_pairs" Desk.bQq) (d22:Mtd K L "waiting" "Book.waiting" Desk.aQh) (d23:Mtd K L "overdue" "Book.overdue" Desk.aQg) (d25:Mtd K L "add_letter" "Book.add_letter" Desk.bYu) (d28:Mtd K L "enter" "Book.enter" Desk.bQn) (d29:Mtd K L "reply" "Book.reply" Desk.bQs) (d30:Mtd K L "loosen" "Book.loosen" Desk.aVp) (d31:Mtd K L "put_term" "Book.put_term" Desk.aZh) (d32:Mtd K L "send_copy" "Book.send_copy" Desk.bV2) (d33:Mtd K L "cancel" "Book.cancel" Desk.aVl) (d34:Mtd K L "shut_day" "Book.shut_day" Desk.bV3) (d35:Mtd K L "put_day" "Book.put_day" Desk.aVq) (d36:Mtd K L "thread_of" "Book.thread_of" Desk.Y4) (d37:Mtd K L "lay_thread" "Book.lay_thread" Desk.bYA) (d38:Mtd K L "check_hanging" "Book.check_hanging" Desk.bQi) (d39:Mtd K L "hang" "Book.hang" Desk.bVX) (d57:Mtd K L "standing_states" "Book.standing_states" Desk.aZk) (d1:Def K "open_by_rest" Days.bV0) (d2:Def K "place_of" Days.bQr) (d3:Def K "counts" Days.aVm) (d4:Def K "closed_days" Days.aZd) (d5:Def K "day_at" Days.bQk) (d6:Def K "due_day" Days.bYw) (d7:Def K "top_of" Thr.bQw) (d8:Def K "thread" Thr.aVr) (d14:Def K "other_way" Desk.bQp) (d26:Def K "check_term" Desk.bQu) (d27:Def K "check_days" Desk.bQl) (d56:Def K "answer" Desk.aVj) (d58:Def K "standing" Desk.aQV) (d71:Def K "_law_good" Law.bVW) (d72:Def K "_law_kids_of" Law.bZz) (d73:Def K "_law_waits_on" Law.aWa) (d74:Def K "_law_due_by" Law.bQm) (d75:Def K "_law_list_on" Law.aZg) (d76:Def K "_law_family" Law.aZf) (d77:Def K "_law_lost" Law.bVZ) (d78:Def K "_law_dated" Law.bQj) (d79:Def K "_law_hung" Law.bVY) (d80:Def K "_law_entered" Law.aZe) (d81:Def K "_law_with_one" Law.bV5) (d82:Def K "_law_told_of" Law.bQv) (d83:Def K "_law_done_by" Law.bVU) (d84:Def K "_law_hanging" Law.aQf) (d85:Def K "_law_about" Law.aV7) (d86:Def K "_law_deed_at" Law.aVn) (d87:Def K "_law_story" Law.aV9) (d88:Def K "_law_whole" Alike.bQx) (d89:Def K "_law_room" Alike.bV1) (d90:Def K "_law_alike" Alike.bQf) (d91:Def K "_law_at" Alike.sAt) (d92:Def K "_law_unturned" Alike.aQW) (d93:Def K "_law_book_of" Alike.aVk) (d94:Def K "_law_standing_of" Alike.aZi) (d95:Def K "_law_there_and_back" Alike.bKx) (d40:vZ K "do_enter" Desk.W1 i) (d41:vZ K "do_reply" Desk.W4 x) (d42:vZ K "do_hang" Desk.aQ3 A) (d43:vZ K "do_loose" Desk.W3 y) (d44:vZ K "do_date" Desk.aQ1 I) (d45:vZ K "do_term" Desk.aQ5 D) (d46:vZ K "do_copy" Desk.aQ0 z) (d47:vZ K "do_file" Desk.aQ2 E) (d48:vZ K "do_void" Desk.aQ6 B) (d49:vZ K "do_shut" Desk.aQ4 H) (d50:vZ K "ask_state" Desk.qO u) (d51:vZ K "ask_thread" Desk.jC q) (d52:vZ K "ask_copies" Desk.jB r) (d53:vZ K "ask_letters" Desk.uI p) (d54:vZ K "ask_waiting" Desk.uK j) (d55:vZ K "ask_overdue" Desk.uJ k) (dL:vZ K "law" Alike.bYz fL) (aA:cXl K cQX "answers_to_each"=some (some (.ref fA))) (lA:K.lookup fA=some ⟨l1,b7,.func (cXu "answers_to_each" "answers_to_each" (x5 Thr.aVi) (xS Thr.aVi) (yH Thr.aVi) .none c3 l3 f2 j6 (.ref cA) e2),h2⟩) (cA1:cZb K (.ref cA) "answers_to_each"=true) (kA:cXm K (.ref fA)=true) (nD:cXl K cQX "DEEDS"=some (some (.ref DD))) (lD:K.lookup DD=some ⟨.type "dict",none,.dict a5 k1, #[]⟩) (pD:Pr w a5.toList [("in",i),("out",i),("reply",x),("hang",A),("loose",y),("date",I),("term",D),("copy",z),("file",E),("void",B),("shut",H),("state",u),("thread",q),("copies",r),("letters",p),("waiting",j),("overdue",k)]) (z_len:cXl K cQX "len"=some none) (z_min:cXl K cQX "min"=some none) (z_sum:cXl K cQX "sum"=some none) (z_sorted:cXl K cQX "sorted"=some none) (z_isinstance:cXl K cQX "isinstance"=some none) (z_int:cXl K cQX "int"=some none) (z_str:cXl K cQX "str"=some none) (z_bool:cXl K cQX "bool"=some none) (z_list:cXl K cQX "list"=some none) (z_tuple:cXl K cQX "tuple"=some none) (z_set:cXl K cQX "set"=some none) (z_range:cXl K cQX "range"=some none) (z_reversed:cXl K cQX "reversed"=some none) (z_max:cXl K cQX "max"=some none) (y_week:cXl K cQX "WEEK"=some (some (.int 7 tW))) (y_open:cXl K cQX "OPEN_DAYS"=some (some (.int 5 tO))) (tb:cJ9 K cA J=true) (tn:K.lookup J=none) :∃ (g:cZn)(c:Nat),cJ9 K c J=true/\K.lookup J=none/\(∀ (s:cQr)(v:cQp),BindsTo s g ⟨[v],[]⟩ [("_law_script",v)])/\∀base:Heap,K.In base->base.Ns cQX mg->cZt base c J->base.BuiltinsAt mg J->xH l.prog w K mg base CX0 11 fa g ["_law_script"] (Alike.bZ1 J K):=by
 obtain⟨aL,b2,Q⟩:=dL;have e:=k6.symm.trans (cZk X G aL);cases e;have TD:Days.vQ mg:=⟨cQE X G z_len,cQE X G z_min,cQE X G z_sum,cQE X G z_sorted,cQE X G z_isinstance,cQE X G z_int,cQE X G z_str,cQE X G z_bool,cQE X G z_list,cQE X G z_tuple,cQE X G z_set,cQE X G z_range,cQE X G z_reversed,⟨_,cZk X G y_week⟩,⟨_,cZk X G y_open⟩⟩;have TT:Thr.vQ mg:=⟨cQE X G z_len,cQE X G z_sorted,cQE X G z_isinstance,cQE X G z_int,cQE X G z_str,cQE X G z_bool,cQE X G z_list,cQE X G z_tuple,cQE X G z_range⟩;have Y:Desk.vQ mg:=⟨cQE X G z_len,cQE X G z_sorted,cQE X G z_list⟩;have T:Law.vQ mg:=⟨cQE X G z_len,cQE X G z_range⟩;have TA:Alike.vQ mg:=⟨cQE X G z_len,cQE X G z_sorted,cQE X G z_isinstance,cQE X G z_int,cQE X G z_str,cQE X G z_bool,cQE X G z_list,cQE X G z_tuple,cQE X G z_range⟩;have bL:∀ (s:cQr)(v:cQp),BindsTo s b2 ⟨[v],[]⟩ [("_law_script",v)]:=by obtain⟨oc,od,kV,l5,pm,an,l7,ct,l8,rfl,lk,l6⟩:=Q.ex;exact λs v=> .of_eq rfl
 refine⟨b2,cA,tb,tn,bL,λbase _ _ N hB=>?_⟩;have g0:FnG l.prog w K mg base 2 "answers_to_each" ["links","dates"] (Thr.bWo J):=⟨fA,_,Thr.bKb TT N hB lA cA1,(aXy (st:=Thr.aVi) lA cA1 kA).binds bdA,kA,cZk X G aA⟩;have g1:=gOf l.prog w base 1 X G d1 bdA λf g F=>Days.bVD TD F;have g2:=gOf l.prog w base 1 X G d2 bdA λf g F=>Days.bZb TD F;have g3:=gOf l.prog w base 2 X G d3 bdA λf g F=>Days.aYS TD g1.up F;have g4:=gOf l.prog w base 2 X G d4 bdA λf g F=>Days.aYR TD g1.up F;have g5:=gOf l.prog w base 1 X G d5 bdA λf g F=>Days.bX4 TD F;have g6:=gOf l.prog w base 3 X G d6 bdA λf g F=>Days.bKc TD g4.up g2.up g5.up F;have g7:=gOf l.prog w base 1 X G d7 bdA λf g F=>Thr.bZg TT F;have g8:=gOf l.prog w base 3 X G d8 bdA λf g F=>Thr.aYZ TT g0.up g7.up F;have g9:=kOf l.prog w base 1 X G d9 bdA λf g F=>Desk.bX8 (n:=0) cl F;have a9:=mOf mg l.prog w base 1 cl.l d10 bdA λf g F=>Desk.bZd (n:=0) cl F;have k3:=mOf mg l.prog w base 1 cl.l d11 bdA λf g F=>Desk.bXZ (n:=0) cl F;have b6:=mOf mg l.prog w base 1 cl.l d12 bdA λf g F=>Desk.bVw (n:=0) cl F;have i1:=mOf mg l.prog w base 1 cl.l d13 bdA λf g F=>Desk.bVI (n:=0) cl F;have f5:=gOf l.prog w base 1 X G d14 bdA λf g F=>Desk.bX9 (n:=0) F;have b1:=mOf mg l.prog w base 2 cl.b d16 bdA λf g F=>Desk.bX0 (n:=1) cl k3.up F;have b5:=mOf mg l.prog w base 1 cl.b d19 bdA λf g F=>Desk.aJa (n:=0) cl F;have f7:=mOf mg l.prog w base 1 cl.b d20 bdA λf g F=>Desk.aJ4 (n:=0) cl F;have b0:=mOf mg l.prog w base 4 cl.b d21 bdA λf g F=>Desk.bZa (n:=3) Y cl f7.up g6.up F;have l2:=mOf mg l.prog w base 5 cl.b d22 bdA λf g F=>Desk.aKm (n:=4) cl b0.up F;have e0:=mOf mg l.prog w base 5 cl.b d23 bdA λf g F=>Desk.aKi (n:=4) cl b0.up F;have j4:=kOf l.prog w base 1 X G d24 bdA λf g F=>Desk.bX1 (n:=0) cl F;have a4:=mOf mg l.prog w base 3 cl.b d25 bdA λf g F=>Desk.bKa (n:=1) Y cl g9.up F;have i6:=dOf mg l.prog w base 2 d53 bdA λf g F=>Desk.aXn (n:=1) (Rf:=(R,J)) b5.up F;have e6:=dOf mg l.prog w base 6 d54 bdA λf g F=>Desk.aXp (n:=5) (Rf:=(R,J)) l2.up F;have k4:=dOf mg l.prog w base 6 d55 bdA λf g F=>Desk.aXo (n:=5) (Rf:=(R,J)) e0.up F;have j0:=mOf mg l.prog w base 2 cl.b d57 bdA λf g F=>Desk.aYY (n:=1) cl a9.up F;have M:=rOf l.prog w base 1 X G d59 bdA λf g F=>Desk.aW7 (n:=0) F;obtain⟨_,h6⟩:=eOf l.prog w base 2 "no letter" X G d60 bdA λC f g N F=>Desk.aJ2 (n:=1) M N F;obtain⟨_,i5⟩:=eOf l.prog w base 2 "no term" X G d61 bdA λC f g N F=>Desk.aYN (n:=1) M N F;obtain⟨_,j5⟩:=eOf l.prog w base 2 "has one" X G d62 bdA λC f g N F=>Desk.aYM (n:=1) M N F;obtain⟨_,l4⟩:=eOf l.prog w base 2 "has none" X G d63 bdA λC f g N F=>Desk.aW6 (n:=1) M N F;obtain⟨_,e8⟩:=eOf l.prog w base 2 "own thread" X G d64 bdA λC f g N F=>Desk.aZ8 (n:=1) M N F;obtain⟨_,k0⟩:=eOf l.prog w base 2 "same way" X G d65 bdA λC f g N F=>Desk.aW8 (n:=1) M N F;obtain⟨_,j8⟩:=eOf l.prog w base 2 "other partner" X G d66 bdA λC f g N F=>Desk.aQH (n:=1) M N F;obtain⟨_,f3⟩:=eOf l.prog w base 2 "too early" X G d67 bdA λC f g N F=>Desk.aJ3 (n:=1) M N F;obtain⟨_,d0⟩:=eOf l.prog w base 2 "copied" X G d68 bdA λC f g N F=>Desk.aYL (n:=1) M N F;obtain⟨_,f1⟩:=eOf l.prog w base 2 "answered" X G d69 bdA λC f g N F=>Desk.aJ1 (n:=1) M N F;obtain⟨_,j2⟩:=eOf l.prog w base 2 "counts not" X G d70 bdA λC f g N F=>Desk.aZ7 (n:=1) M N F;have S:=gOf l.prog w base 1 X G d71 bdA λf g F=>Law.bVx T F;have a0:=gOf l.prog w base 1 X G d72 bdA λf g F=>Law.bVA T F;have e9:=gOf l.prog w base 2 X G d73 bdA λf g F=>Law.bZh T (cQE X G z_min) a0.up F;have c1:=gOf l.prog w base 1 X G d74 bdA λf g F=>Law.bX6 T F;have f6:=gOf l.prog w base 3 X G d75 bdA λf g F=>Law.aYV T (cQE X G z_sorted) e9.up c1.up F;have Z:=gOf l.prog w base 2 X G d76 bdA λf g F=>Law.aYU T (cQE X G z_sorted) F;have j9:=gOf l.prog w base 2 X G d77 bdA λf g F=>Law.bVB a0.up F;have k7:=gOf l.prog w base 2 X G d78 bdA λf g F=>Law.bX3 a0.up F;have f8:=gOf l.prog w base 3 X G d79 bdA λf g F=>Law.bVz S.up Z.up F;have e4:=gOf l.prog w base 3 X G d80 bdA λf g F=>Law.aKg T (cQE X G z_int) S.up F;have c5:=gOf l.prog w base 3 X G d81 bdA λf g F=>Law.bVJ T S.up k7.up j9.up Z.up F;have i0:=gOf l.prog w base 4 X G d82 bdA λf g F=>Law.bVH T (cQE X G z_list) (cQE X G z_tuple) S.up f6.up Z.up F;have a7:=gOf l.prog w base 5 X G d83 bdA λf g F=>Law.bVv e4.up f8.up i0.up c5.up F;have h4:=gOf l.prog w base 2 X G d84 bdA λf g F=>Law.aKh T (cQE X G z_int) S.up F;have j3:=gOf l.prog w base 2 X G d85 bdA λf g F=>Law.bXX T (cQE X G z_int) S.up F;have c2:=gOf l.prog w base 3 X G d86 bdA λf g F=>Law.aYT T (cQE X G z_int) (cQE X G z_max) S.up h4.up j3.up F;have h9:=gOf l.prog w base 6 X G d87 bdA λf g F=>Law.bZe T a7.up c2.up F;have j7:=gOf l.prog w base 1 X G d88 bdA λf g F=>Alike.bZi TA F;have i8:=gOf l.prog w base 1 X G d89 bdA λf g F=>Alike.bVE TA F;have h7:=gOf l.prog w base 2 X G d90 bdA λf g F=>Alike.bXY TA j7.up F;have k9:=gOf l.prog w base 1 X G d91 bdA λf g F=>Alike.bVt TA F;have h3:=gOf l.prog w base 1 X G d92 bdA λf g F=>Alike.aVb TA F;have i3:=gOf l.prog w base 6 X G d93 bdA λf g F=>Alike.aYP (n:=5) a7.up F;have f0:=gOf l.prog w base 1 X G d94 bdA λf g F=>Alike.aKk TA F;have h1:=gOf l.prog w base 2 X G d95 bdA λf g F=>Alike.bKf (n:=1) TA k9.up F;have O:=aJY mg l.prog w base 4 cl.b d15 bdA λf g F=>Desk.bVt (n:=2) (Rf:=(R,J)) Y cl h6.up F;have i2:=aJY mg l.prog w base 5 cl.b d17 bdA λf g F=>Desk.aJ5 (n:=4) (Rf:=(R,J)) Y cl O.up F;have c4:=aJY mg l.prog w base 5 cl.b d18 bdA λf g F=>Desk.aKl (n:=4) (Rf:=(R,J)) cl O.up a9.up F;have a1:=xOf l.prog w base 4 X G d26 bdA λf g F=>Desk.bZf (n:=2) (Rf:=(R,J)) i5.up F;have a2:=xOf l.prog w base 4 X G d27 bdA λf g F=>Desk.bX5 (n:=2) (Rf:=(R,J)) f3.up F;have b9:=aJY mg l.prog w base 5 cl.b d28 bdA λf g F=>Desk.bX7 (n:=4) (Rf:=(R,J)) cl a1.up a4.up F;have e3:=aJY mg l.prog w base 5 cl.b d29 bdA λf g F=>Desk.bZc (n:=4) (Rf:=(R,J)) cl O.up a1.up a2.up f5.up a4.up F
 have c9:=aJY mg l.prog w base 5 cl.b d30 bdA λf g F=>Desk.aYW (n:=3) (Rf:=(R,J)) cl O.up l4.up F;have k5:=aJY mg l.prog w base 5 cl.b d31 bdA λf g F=>Desk.aKj (n:=4) (Rf:=(R,J)) cl O.up a1.up F;have k2:=aJY mg l.prog w base 5 cl.b d32 bdA λf g F=>Desk.bVF (n:=3) (Rf:=(R,J)) Y cl O.up b6.up d0.up F;have e1:=aJY mg l.prog w base 5 cl.b d33 bdA λf g F=>Desk.aYQ (n:=3) (Rf:=(R,J)) Y cl O.up b1.up i1.up f1.up F;have e7:=aJY mg l.prog w base 4 cl.b d34 bdA λf g F=>Desk.bVG (n:=2) (Rf:=(R,J)) cl g3.up j2.up F;have c6:=aJY mg l.prog w base 5 cl.b d35 bdA λf g F=>Desk.aYX (n:=4) (Rf:=(R,J)) cl O.up b1.up a2.up F;have a3:=aJY mg l.prog w base 5 cl.b d36 bdA λf g F=>Desk.aVa (n:=4) (Rf:=(R,J)) cl O.up g8.up F;have a8:=aJY mg l.prog w base 6 cl.b d37 bdA λf g F=>Desk.bKe (n:=5) (Rf:=(R,J)) Y cl a3.up F;have c0:=aJY mg l.prog w base 6 cl.b d38 bdA λf g F=>Desk.bX2 (n:=4) (Rf:=(R,J)) cl a3.up a2.up j5.up e8.up k0.up j8.up F;have b3:=aJY mg l.prog w base 7 cl.b d39 bdA λf g F=>Desk.bVy (n:=6) (Rf:=(R,J)) cl O.up c0.up a8.up F;have e5:=dOf mg l.prog w base 6 d40 bdA λf g F=>Desk.aJ6 (n:=5) (Rf:=(R,J)) b9.up F;have l0:=dOf mg l.prog w base 6 d41 bdA λf g F=>Desk.aJ8 (n:=5) (Rf:=(R,J)) e3.up F;have h8:=dOf mg l.prog w base 8 d42 bdA λf g F=>Desk.aKc (n:=7) (Rf:=(R,J)) b3.up F;have h5:=dOf mg l.prog w base 6 d43 bdA λf g F=>Desk.aJ7 (n:=5) (Rf:=(R,J)) c9.up F;have b8:=dOf mg l.prog w base 6 d44 bdA λf g F=>Desk.aKa (n:=5) (Rf:=(R,J)) c6.up F;have i4:=dOf mg l.prog w base 6 d45 bdA λf g F=>Desk.aKe (n:=5) (Rf:=(R,J)) k5.up F;have k8:=dOf mg l.prog w base 6 d46 bdA λf g F=>Desk.aW9 (n:=5) (Rf:=(R,J)) k2.up F;have i9:=dOf mg l.prog w base 7 d47 bdA λf g F=>Desk.aKb (n:=6) (Rf:=(R,J)) a8.up F;have b4:=dOf mg l.prog w base 6 d48 bdA λf g F=>Desk.aKf (n:=5) (Rf:=(R,J)) e1.up F;have j1:=dOf mg l.prog w base 5 d49 bdA λf g F=>Desk.aKd (n:=4) (Rf:=(R,J)) e7.up F;have c8:=dOf mg l.prog w base 6 d50 bdA λf g F=>Desk.aZ9 (n:=5) (Rf:=(R,J)) c4.up F;have c7:=dOf mg l.prog w base 6 d51 bdA λf g F=>Desk.aX6 (n:=5) (Rf:=(R,J)) a3.up F;have i7:=dOf mg l.prog w base 6 d52 bdA λf g F=>Desk.aX5 (n:=5) (Rf:=(R,J)) i2.up F;have P:(([("in",i),("out",i),("reply",x),("hang",A),("loose",y),("date",I),("term",D),("copy",z),("file",E),("void",B),("shut",H),("state",u),("thread",q),("copies",r),("letters",p),("waiting",j),("overdue",k)]:List (Str×Nat)).map (·.1)).Nodup:=show(["in","out","reply","hang","loose","date","term","copy","file","void","shut","state","thread","copies","letters","waiting","overdue"]:List Str).Nodup from dk;have all:Desk.bWF l.prog w K mg base 8 (R,J) L CL (bJv [("in",i),("out",i),("reply",x),("hang",A),("loose",y),("date",I),("term",D),("copy",z),("file",E),("void",B),("shut",H),("state",u),("thread",q),("copies",r),("letters",p),("waiting",j),("overdue",k)]):=by
  intro e f9;cases e with
  |enter l9 d V t=>
   obtain⟨g,a,b,c⟩:=e5.ex;rcases f9 with rfl|rfl
   ·exact⟨i,g,_,uS P 0 rfl,a.mono (by decide),⟨_,d,V,t,rfl⟩,b,c⟩
   ·exact⟨i,g,_,uS P 1 rfl,a.mono (by decide),⟨_,d,V,t,rfl⟩,b,c⟩
  |reply m d t=>obtain⟨g,a,b,c⟩:=l0.ex;exact⟨x,g,_,uS P 2 rfl,a.mono (by decide),⟨m,d,t,rfl⟩,b,c⟩
  |hang m o=>obtain⟨g,a,b,c⟩:=h8.ex;exact⟨A,g,_,uS P 3 rfl,a.mono (by decide),⟨m,o,rfl⟩,b,c⟩
  |loose m=>obtain⟨g,a,b,c⟩:=h5.ex;exact⟨y,g,_,uS P 4 rfl,a.mono (by decide),⟨m,rfl⟩,b,c⟩
  |date m d=>obtain⟨g,a,b,c⟩:=b8.ex;exact⟨I,g,_,uS P 5 rfl,a.mono (by decide),⟨m,d,rfl⟩,b,c⟩
  |term m t=>obtain⟨g,a,b,c⟩:=i4.ex;exact⟨D,g,_,uS P 6 rfl,a.mono (by decide),⟨m,t,rfl⟩,b,c⟩
  |copy m V=>obtain⟨g,a,b,c⟩:=k8.ex;exact⟨z,g,_,uS P 7 rfl,a.mono (by decide),⟨m,V,rfl⟩,b,c⟩
  |file m U=>obtain⟨g,a,b,c⟩:=i9.ex;exact⟨E,g,_,uS P 8 rfl,a.mono (by decide),⟨m,U,rfl⟩,b,c⟩
  |void m=>obtain⟨g,a,b,c⟩:=b4.ex;exact⟨B,g,_,uS P 9 rfl,a.mono (by decide),⟨m,rfl⟩,b,c⟩
  |shut d=>obtain⟨g,a,b,c⟩:=j1.ex;exact⟨H,g,_,uS P 10 rfl,a.mono (by decide),⟨d,rfl⟩,b,c⟩
  |state m=>obtain⟨g,a,b,c⟩:=c8.ex;exact⟨u,g,_,uS P 11 rfl,a.mono (by decide),⟨m,rfl⟩,b,c⟩
  |thread m=>obtain⟨g,a,b,c⟩:=c7.ex;exact⟨q,g,_,uS P 12 rfl,a.mono (by decide),⟨m,rfl⟩,b,c⟩
  |copies m=>obtain⟨g,a,b,c⟩:=i7.ex;exact⟨r,g,_,uS P 13 rfl,a.mono (by decide),⟨m,rfl⟩,b,c⟩
  |letters U=>obtain⟨g,a,b,c⟩:=i6.ex;exact⟨p,g,_,uS P 14 rfl,a.mono (by decide),⟨U,rfl⟩,b,c⟩
  |on a6 d=>
   cases a6
   ·obtain⟨g,a,b,c⟩:=e6.ex;exact⟨j,g,_,uS P 15 rfl,a.mono (by decide),⟨d,rfl⟩,b,c⟩
   ·obtain⟨g,a,b,c⟩:=k4.ex;exact⟨k,g,_,uS P 16 rfl,a.mono (by decide),⟨d,rfl⟩,b,c⟩
 have f4:=gOf l.prog w base 9 X G d56 bdA λf g F=>Desk.aYO (n:=8) (Rf:=(R,J)) (cZk X G nD) (bWv lD pD P) (cZk X G d59.ns) d59.cl all F;have h0:=gOf l.prog w base 10 X G d58 bdA λf g F=>Desk.aJ9 (n:=8) (Rf:=(R,J)) j4.up f4.up j0.up F;exact Alike.bKd (n:=10) (Rf:=(R,J)) TA h9.up i8.up i3.up f0.up h3.up h1.up h7.up h0.up Q
end End4
set_option tactic.hygienic true
namespace End4
open PySem L2 PyProof.Rows
def walk{l:PySem.W.OpenLaw}{q:cQO}{loose:List Str}{m:(Str->Option cQp)->Heap->Prop}{e:cQ1->Heap->Prop}{d:DefRec}{K:Params->cQq}{T:Nat}(v:l.most=some 63)(g:d.params.defaults= []) (r:∀ (w:cQ1)(h:Heap),e w h->(K w.params).In h) (b:∀ (w:cQ1)(h:Heap),e w h->h.get? T=some (cZ0 #[])) (F:∀ (w:cQ1)(mg:Str->Option cQp)(j:Nat)(h:Heap),(K w.params).In h->h.Ns cQX mg->mg d.name=some (.ref j)-> ∃ (i:cZn)(c:Nat),cJ9 (K w.params) c T=true/\(K w.params).lookup T=none/\(∀ (s:cQr)(u:cQp),BindsTo s i ⟨[u],[]⟩ [("_law_script",u)])/\∀base:Heap,(K w.params).In base->base.Ns cQX mg->cZt base c T->base.BuiltinsAt mg T->xH l.prog w (K w.params) mg base CX0 11 j i ["_law_script"] (Alike.bZ1 T (K w.params))): PySem.W.WalkO q loose m e l.row.toRowW d [] (λf y=>PySem.call f y):=
 L2.bJj (n:=63) (k:=11) (x:="_law_script") (CX:=CX0) (sp:=Alike.bZ1) v (by decide) g ⟨rfl,by decide,by decide⟩ r b F (λ_ _ a t hl p o=>⟨a,t,rfl,o,hl,.inl p,λ_=>rfl⟩) λ_ _ _ _ z=>z
end End4
open PySem PySem.W PyProof.Rows
namespace PySem.W.Fast
def tw215466134534100337:=0
def tw11921815222291461593:=0
def tw8761956206281564416:=0
def tw413462450516301537:=0
def tw6518944682844102672:=0
def tw7868715920039773724:=0
def tw3242351881790855476:=0
def tw14517193587907251267:=0
def tw16303003649832466309:=0
def tw3196780613384845712:=0
def tw16890038414164900016:=0
def tw13386116334631782047:=0
def tw12380538932459848547:=0
def tw4853025644710812316:=0
def tw1424002137445099295:=0
def tw8869983954605707867:=0
def tw6382621595158158233:=0
def tw12121632051734998338:=0
def tw12493092284076016211:=0
def tw12283099339181400540:=0
def tw10089076087716955840:=0
def tw17229877455547993198:=0
def tw376834736374682834:=0
def tw12442005378389357339:=0
def tw12645364021591286716:=0
def tw13795638340345680349:=0
def tw4762818869774412449:=0
def tw16795819760945849542:=0
def tw213745045838197913:=0
def tw8087251049618885391:=0
def tw8292177433059847101:=0
def tw922691252775876325:=0
def tw16538995481849465921:=0
def tw15955824081436493719:=0
def tw13029156694729161240:=0
def tw8363116203055689929:=0
def tw7620554206522690847:=0
def tw9629753191850150611:=0
def tw11309914763539951945:=0
def tw10785120884052957439:=0
def tw18115481872580245945:=0
def tw1420278615736049802:=0
def tw17310874491285727587:=0
def tw6360563774081794445:=0
def tw6704494415984415711:=0
def tw15479362466607152010:=0
def tw18129528205466362281:=0
def tw18405366981571818779:=0
def tw14019755545669199273:=0
def tw3949141180716413120:=0
def tw17556866180256162057:=0
def tw8280194220711948571:=0
def tw5008563708444013888:=0
def tw9626043973813187973:=0
def tw328887492880211902:=0
def tw13428502461984354917:=0
def tw3266655425146400360:=0
def tw17939207484094203233:=0
def tw1806487150144326101:=0
def tw829968975943101284:=0
def tw870166481336469118:=0
def tw4698886274983650159:=0
def tw4971793904281745398:=0
def tw4894213942410088075:=0
def tw14926080824558149609:=0
def tw9175231058119520164:=0
def tw1179043286067784011:=0
def tw13378732857098039708:=0
def tw2605907891303857429:=0
def tw11252167585328277998:=0
def tw15400864852952120232:=0
def tw1076710905031101619:=0
def tw3972204539179139578:=0
def tw7225346987998765772:=0
def tw12736112208417199452:=0
def tw10649482532534845951:=0
def tw7296490509294655429:=0
def tw9502324095269730338:=0
def tw7851481312175319623:=0
def tw5316856786049047476:=0
def tw1621971560925706569:=0
def tw1723754294686445972:=0
def tw4025938958370742494:=0
def tw11198711814492225074:=0
def tw7491964416147708546:=0
def tw13575272796915355336:=0
def tw1143841281077047314:=0
def tw662693838680520568:=0
def tw3082014976702125617:=0
def tw4743886217304855595:=0
def tw13745944645057139534:=0
def tw16248234485235576650:=0
def tw4807180048439525237:=0
def tw7054210996203967117:=0
def tw4551872442429613928:=0
def tw11856854601721123448:=0
def tw17010826414450487620:=0
def tw16812240019321174041:=0
def tw6177524766023838147:=0
def tw11122922440078531184:=0
def tw530286965691904478:=0
def tw13573989741579078828:=0
def tw10318369778425114003:=0
def tw4041894579117619056:=0
def tw14848730442689649645:=0
def tw2418668847034376375:=0
def tw934003889977045540:=0
def tw2285660659223199681:=0
def tw15660402186043950257:=0
def tw1189658580662427376:=0
def tw1598524380967168782:=0
def tw17193148936637939790:=0
def tw13778640882265210351:=0
def tw17551383897031672576:=0
def tw2168590563609856117:=0
def tw10178718121326045506:=0
def tw9167444107127894058:=0
def tw12314811590482766318:=0
def tw17969272994675644277:=0
def tw10899949929940746275:=0
def tw15619026931896935242:=0
def tw15457493154980451551:=0
def tw16257320139610449283:=0
def tw6926438855247468722:=0
def tw15707857763109925161:=0
def tw5839910543945456822:=0
def tw13991393442037172434:=0
def tw5206353899445360047:=0
def tw4460135934794070930:=0
def tw9427040506720748910:=0
def tw13106996726593425627:=0
def tw18283333534954679044:=0
def tw13305115026974373355:=0
def tw751680717855272624:=0
def tw16029612143136416973:=0
def tw11792956374264175752:=0
def tw12763351397880863176:=0
def tw4536601707432139674:=0
def tw9949814754059807553:=0
def tw4789551613173254391:=0
def tw12978983327552897709:=0
def tw2481563826498192950:=0
def tw1147054386031450937:=0
def tw18280098062541866493:=0
def tw14477895326900989535:=0
def tw12383553559217334453:=0
def tw5359427443523064313:=0
def tw4406628849141301504:=0
def tw3235518944843141540:=0
def tw8424856121235680393:=0
def tw16097485147456468317:=0
def tw7775749352645316723:=0
def tw6212259341386738541:=0
def tw4739569452255419757:=0
def tw9073648247148057437:=0
def tw7487829650777202563:=0
def tw1629888611094253113:=0
def tw2098395134176624584:=0
def tw16624583857911041255:=0
def tw228538827582990645:=0
def tw8699441713809605374:=0
def tw4000536638997353698:=0
def tw14358725462937032995:=0
def tw7030812194383040263:=0
def tw15310367117041816694:=0
def tw1185100134941753719:=0
def tw13060668004794615044:=0
def tw15864811215237756790:=0
def tw4197211615144307744:=0
def tw15817188481922880645:=0
def tw5875022630964192823:=0
def tw2308578817004619953:=0
def tw17498014744114372289:=0
def tw6864393275251010659:=0
def tw326153167012698926:=0
def tw12978296691623941244:=0
def tw11592871795305363980:=0
def tw5766349997448859433:=0
def tw7886048547478114786:=0
def tw6460070457490389417:=0
def tw2501743422353993828:=0
def tw2981659337476264225:=0
def tw8765310026637787023:=0
def tw14053328768783732341:=0
def tw18193006416280892524:=0
def tw13966343504122073126:=0
def tw9803867845809214568:=0
def tw11472000215525939134:=0
def tw3357761485853774069:=0
def tw5725224013187571776:=0
def tw15180143809938168232:=0
def tw12303973120483377850:=0
def tw1407937220780163383:=0
def tw9593125510510178614:=0
def tw11433498796363100583:=0
def tw15678279956310452947:=0
def tw427328661259039218:=0
def tw2108926399997464718:=0
def tw15535935950575850997:=0
def tw3674856653236654002:=0
def tw15297695297939382614:=0
def tw9174342269549454564:=0
def tw1639679038468280612:=0
def tw6354657444574672824:=0
def tw8430060094753138989:=0
def tw9204530354572465615:=0
def tw15263535620628316098:=0
def tw15031247561692045688:=0
def tw9660265576738518195:=0
def tw15457186334608115013:=0
def tw4242189622186960146:=0
def tw13256897210824428679:=0
def tw440926538023266381:=0
def tw12607864916623154380:=0
def tw3143746670734283526:=0
def tw13508034414902265268:=0
def tw16656111978621475088:=0
def tw12785702572309149013:=0
def tw2828438985938847984:=0
def tw365600856998091629:=0
def tw10687520984682743495:=0
def tw17743564347062252416:=0
def tw4851111541254903821:=0
def tw8114763308579491028:=0
def tw15689256887568819717:=0
def tw15171050545148532743:=0
def tw17942854904811881408:=0
def tw6856596066867939897:=0
def tw3731345729210450036:=0
def tw15277012514794950942:=0
def tw1643490981365065823:=0
def tw12066608000020497183:=0
def tw3935426637223927619:=0
def tw2045812397819377128:=0
def tw17747821412014175391:=0
def tw18259191480746599363:=0
def tw10365865818645548100:=0
def tw12639951856847852210:=0
def tw5543046079071966138:=0
def tw1237974285795076373:=0
def tw5085709368281760132:=0
def tw8715934668563223018:=0
def tw13619484132622727614:=0
def tw4739996102566920352:=0
def tw7064125403699759174:=0
def tw2041681280459683366:=0
def tw14015705959111313685:=0
def tw9629244676840415637:=0
def tw13117682923701393801:=0
def tw8454520935354778646:=0
def tw14403978954546661493:=0
def tw16801306307486013312:=0
def tw5336805776316921045:=0
def tw6158676063894208524:=0
def tw308950547466291959:=0
def tw2364097603987354308:=0
def tw4946248654176191534:=0
def tw8556638317134398572:=0
def tw19768232428901306:=0
def tw5430751938232522710:=0
def tw14528672893966687095:=0
def tw2560457566508808130:=0
def tw5003142635236967070:=0
def tw14777644598668088924:=0
def tw3230980479023381311:=0
def tw16118412854319861748:=0
def tw8585336916920477711:=0
def tw16007117698305961360:=0
def tw17021624105494302912:=0
def tw922796175634718316:=0
def tw8511270705206149612:=0
def tw14192030637537794269:=0
def tw2706300801660762148:=0
def tw10853526275333544022:=0
def tw6413192995909479441:=0
def tw5062806270520723306:=0
def tw5964616787254830263:=0
def tw16812191883236184288:=0
def tw17861586350986286219:=0
def tw14369665857386953260:=0
def tw1642839448894319012:=0
def tw14076994809177328822:=0
def tw1889861666728501243:=0
def tw2199763228269166032:=0
def tw4906886289867174115:=0
def tw15540078869542503563:=0
def tw1092046881633331386:=0
def tw2695914040961239294:=0
def tw8800521429012037298:=0
def tw7341886329015037990:=0
def tw13283182856366054753:=0
def tw8657337158672013136:=0
def tw5317833451376590839:=0
def tw566815968575387410:=0
def tw8467696766329656390:=0
def tw8541276857904773501:=0
def tw12083737036592413817:=0
def tw3026099031032544779:=0
def tw15641124501254295415:=0
def tw8830471052967635600:=0
def tw16404388628342172007:=0
def tw1238314334824247385:=0
def tw113665670971577879:=0
def tw1440816048966970789:=0
def tw11888662516798933724:=0
def tw7987466039873669072:=0
def tw2841950787266185403:=0
def tw12793870452285626535:=0
def tw10027937735826312085:=0
def tw5181142694994693018:=0
def tw1981651547455553511:=0
def tw5795402289951221737:=0
def tw16075510312611313662:=0
def tw12650487359485673096:=0
def tw503600334868809513:=0
def tw6064293414659730479:=0
def tw2333166309456624917:=0
def tw11022344474016528752:=0
def tw17717745589387000929:=0
def tw4721068608061707233:=0
def tw11813515359642866274:=0
def tw2852560745105676856:=0
def tw11909745853896485545:=0
def tw14645335416186317395:=0
def tw4209042192090330039:=0
def tw18227459143318570323:=0
def tw433301285397849716:=0
def tw10476509519505532021:=0
def tw11220855397049491223:=0
def tw9537252093014926322:=0
def tw2872524156103451532:=0
def tw18006338395616073058:=0
def tw15133238508464197417:=0
def tw16164010016388125287:=0
def tw11667803302787912770:=0
def tw8968782588621343125:=0
def tw5811437566689947848:=0
def tw6633950254031479244:=0
def tw14889835392528024791:=0
def tw4359477635651384076:=0
def tw3212859135727689415:=0
def tw14315046624916195871:=0
def tw49028405156324724:=0
def tw9299254090829032971:=0
def tw3873729967962866314:=0
def tw16799921583761763537:=0
def tw8014281081821354522:=0
def tw17227320486290642754:=0
def tw6717901375006004380:=0
def tw766875328541006151:=0
def tw10523390591722506839:=0
def tw17268127845788080712:=0
def tw14069358624148133044:=0
def tw3134316266837046576:=0
def tw7199377499709280749:=0
def tw12535318874043092375:=0
def tw2394387744665457437:=0
def tw8097366786994538050:=0
def tw9654629085097760618:=0
def tw4952673031920123159:=0
def tw3519473046487384675:=0
def tw6914223517905638361:=0
def tw13087551962924218915:=0
def tw9313454996264445885:=0
def tw7621184929344070861:=0
def tw14955001444166683043:=0
def tw15110886090497442787:=0
def tw8533703851390300627:=0
def tw17351259296711749189:=0
def tw13656628516205656672:=0
def tw6285206775363677458:=0
def tw17543409833668330825:=0
def tw15069127387629441920:=0
def tw47163374114781226:=0
def tw3355468255458114437:=0
def tw635255610010709110:=0
def tw15554451696883849836:=0
def tw2851576140432271128:=0
def tw16430455587635284018:=0
def tw13362156648763682845:=0
def tw7827543748044181832:=0
def tw9515830504185954095:=0
def tw5972503426966558999:=0
def tw8397762422395677378:=0
def tw6221217138356680096:=0
def tw11951355232803404872:=0
def tw18353103255740682890:=0
def tw8340966539380204219:=0
def tw12144349620270141329:=0
def tw4632230894894256844:=0
def tw5282261742138171808:=0
def tw4667566082969834682:=0
def tw3278745000708100095:=0
def tw13333887064594540174:=0
def tw10704450212607595070:=0
def tw12556461777360535477:=0
def tw11388380916049214358:=0
def tw8102635655868234704:=0
def tw6477562747402860644:=0
def tw1144101857782409428:=0
def tw11546800518326806978:=0
def tw9185619954837470953:=0
def tw14438416734357656363:=0
def tw7860214777422482037:=0
def tw11431703412016195104:=0
def tw15304256619173528154:=0
def tw7539899562666062552:=0
def tw2024985978907441809:=0
def tw1776593954914469968:=0
def tw14250209701633267039:=0
def tw7962406946079794677:=0
def tw5073238290244666315:=0
def tw14250809210906487947:=0
def tw9893986070587273120:=0
def tw1947877538755745875:=0
def tw8796978603863861015:=0
def tw15539647874427934371:=0
def tw7417268140884108733:=0
def tw1573291507093514272:=0
def tw17446514594988215078:=0
def tw5970046486408333077:=0
def tw4846437000936869651:=0
def tw5275831923491860606:=0
def tw16123733312141729794:=0
def tw17514879732302744333:=0
def tw9409975709585966847:=0
def tw8820183918832005090:=0
def tw2987333606126731758:=0
def tw17687172995955719810:=0
def tw1111285769229924817:=0
def tw6337331374743232532:=0
def tw2203007437281037577:=0
def tw2015161211630705681:=0
def tw14581966738678285871:=0
def tw4646370316532870903:=0
def tw507431267272028403:=0
def tw9019429415624672058:=0
def tw14477057640792146581:=0
def tw16647705222537167564:=0
def tw5715415822537192127:=0
def tw6915866901924071844:=0
def tw1546497764701892020:=0
def tw9748157486938602517:=0
def tw3213073936306669328:=0
def tw13213745085535627085:=0
def tw8795830172571175265:=0
def tw7503344286683465494:=0
def tw6140031312315133844:=0
def tw15538242223377550721:=0
def tw14017871846724070603:=0
def tw10399661859312176159:=0
def tw9600540539643393663:=0
def tw2408512081078580878:=0
def tw8245461161539739455:=0
def tw12548712114478837299:=0
def tw6858856437472321398:=0
def tw8654646106573667247:=0
def tw3011696597031064981:=0
def tw1943534968467255578:=0
def tw14109446595324568788:=0
def tw14855704365265172609:=0
def tw6316466052191912151:=0
def tw11080151063925765043:=0
def tw18441890786571229074:=0
def tw11418027188156753668:=0
def tw9363803527267852498:=0
def tw9770863942206808265:=0
def tw7153975281955697951:=0
def tw17686946702694736840:=0
def tw8128029321033636398:=0
def tw8953898472567889942:=0
def tw3718683440923020998:=0
def tw5637542764569170725:=0
def tw17368623367287043859:=0
def tw18374534658348923604:=0
def tw11402960253265702786:=0
def tw4800869198717873247:=0
def tw8064474428264143663:=0
def tw12500511900716234726:=0
def tw12509389166612016896:=0
def tw10277538394708406749:=0
def tw10088648400292652212:=0
def tw6525701583939334193:=0
def tw5710392260875287073:=0
def tw6535972637239835027:=0
def tw15248665813391206126:=0
def tw14462478722250776364:=0
def tw11192099712825239316:=0
def tw16477732435456751507:=0
def tw8620157891228612673:=0
def tw18011434208765395837:=0
def tw3693085877269990244:=0
def tw12619377450048947211:=0
def tw3845389425819294165:=0
def tw9463976708803354263:=0
def tw2660399973576217853:=0
def tw7638219199742907241:=0
def tw16882777656482606432:=0
def tw11106208417277412543:=0
def tw12703391828349909370:=0
def tw7086943801666759982:=0
def tw2234811676728624738:=0
def tw12401826784324477596:=0
def tw1755258568317233566:=0
def tw2130093404640870678:=0
def tw9485243571227674044:=0
def tw17690312637062162416:=0
def tw11009847866463356367:=0
def tw4258547530334212533:=0
def tw9779774077013054216:=0
def tw1937385469021897801:=0
def tw1483677651867777943:=0
def tw3309468226633164019:=0
def tw11709936640104138254:=0
def tw5236104880823601915:=0
def tw4954732421372893652:=0
def tw14777711380198462771:=0
def tw18408482687364756336:=0
def tw4021161514501646901:=0
def tw6132856815129659189:=0
def tw11586839796953498825:=0
def tw12638133276037752143:=0
def tw4990733731963363977:=0
def tw15117402268478471294:=0
def tw9537861305519552352:=0
def tw1321742402714890124:=0
def tw6806262560275297620:=0
def tw7583696519945593997:=0
def tw8295355477542859886:=0
def tw9252246171134111889:=0
def tw3837865965225146941:=0
def tw8771215736034227066:=0
def tw7303671062380112564:=0
def tw1724978418635852894:=0
def tw4953821401707010754:=0
def tw7958832951101089854:=0
def tw8337790543019401557:=0
def tw14646299019588247420:=0
def tw12321990742814477461:=0
def tw11274743067063644643:=0
def tw5470608250677339056:=0
def tw12562794630340179619:=0
def tw4831388586957169940:=0
def tw17909221775994537918:=0
def tw5466919552368784809:=0
def tw12603315559190325188:=0
def tw12661045064447313059:=0
def tw12041986404234382804:=0
def tw6445065744538149363:=0
def tw18113712837926005220:=0
def tw7411523572520976787:=0
def tw6064803166497191756:=0
def tw5608307924941050045:=0
def tw2594365148216872382:=0
def tw36607662544661863:=0
def tw8246736418533019003:=0
def tw1103962128134833486:=0
def tw12966319989705170293:=0
def tw8880965533903315260:=0
def tw14384877240403842854:=0
def tw9067824805059469264:=0
def tw641298473276270401:=0
def tw13715607156706366386:=0
def tw4835078970072939636:=0
def tw7754760161040707854:=0
def tw16777961550951966803:=0
def tw14157137345339292861:=0
def tw5403163153813961063:=0
def tw10863617477153448788:=0
def tw7580825028696133277:=0
def tw4991132717241653397:=0
def tw5407853887125969709:=0
def tw7357331832720815403:=0
def tw971617186907524966:=0
def tw11291303115917135203:=0
def tw15510055224337770057:=0
def tw8384771258997197958:=0
def tw2957190340177138208:=0
def tw63651921222697763:=0
def tw6757716333912765514:=0
def tw6990522438743069372:=0
def tw11383127017318399301:=0
def tw11995294983610881248:=0
def tw226728931767519125:=0
def tw10427200991365842333:=0
def tw15301437536738553288:=0
def tw2054353250071010598:=0
def tw16866799133925828369:=0
def tw14820812987789107287:=0
def tw15018331545744108203:=0
def tw10027571660461431670:=0
def tw16086012553200626606:=0
def tw6984400853941915435:=0
def tw2004203889179858990:=0
def tw8210199588690990354:=0
def tw12266763166017392074:=0
def tw13570746817555265840:=0
def tw6099241390078033593:=0
def tw928550989995552955:=0
def tw17579248813412164907:=0
def tw2008473336343119910:=0
def tw11410601031465644579:=0
def tw18411416087984472717:=0
def tw3244196099158712242:=0
def tw10283373054457244005:=0
def tw10628817346285904854:=0
def tw13633873337120296640:=0
def tw15841742920046242426:=0
def tw7524315316536526738:=0
def tw17245478679321484448:=0
def tw4573278337679364780:=0
def tw14205442204259662271:=0
def tw15508871843164457179:=0
def tw17391136523608297469:=0
def tw7359173298416562871:=0
def tw1575517225900991029:=0
def tw1695525435359729380:=0
def tw606602587703676164:=0
def tw10531835279566964651:=0
def tw6153756910580468921:=0
def tw2815438981917125297:=0
def tw8155907916500260962:=0
def tw11041486183382281322:=0
def tw9978533548001878066:=0
def tw13545834995451934249:=0
def tw7958847650114467342:=0
def tw18039151226551877541:=0
def tw4810080890902705024:=0
def tw8411668709517808869:=0
def tw12876442242852406344:=0
def tw8422964630491842713:=0
def tw11974374526788633998:=0
def tw4575035088756030511:=0
def tw4716551232609097964:=0
def tw14718850883771249351:=0
def tw2561888483210197710:=0
def tw2522314967179041911:=0
def tw2191973866292381932:=0
def tw17231872772663964115:=0
def tw3248454502219735006:=0
def tw14709758376504026241:=0
def tw2058135152452765980:=0
def tw5744723676314565192:=0
def tw5690873506559108721:=0
def tw4787315227308447922:=0
def tw15160769511195528387:=0
def tw6153977924518513654:=0
def tw232525510666685900:=0
def tw13339451490918321956:=0
def tw16935548382125379473:=0
def tw10054698515870939035:=0
def tw9657292662646451740:=0
def tw14126099717040740525:=0
def tw16691006349844081991:=0
def tw10959351562563694522:=0
def tw16425297242664839509:=0
def tw3750397057847627725:=0
def tw11799793135207001083:=0
def tw13146155165404621679:=0
def tw9091452015445257667:=0
def tw5753010886597535073:=0
def tw15905256569628204927:=0
def tw15079451918928071410:=0
def tw4060466094248351592:=0
def tw16673966158897027260:=0
def tw17045518217181673755:=0
def tw838146887988153049:=0
def tw9858110561325483738:=0
def tw10387004030065431893:=0
def tw8021538300221323604:=0
def tw3079839077162153024:=0
def tw3532752898948293141:=0
def tw4760802578217910376:=0
def tw3138522617335053074:=0
def tw8559017905808108242:=0
def tw3650355827250199706:=0
def tw14906035773510414632:=0
def tw3842982277997327484:=0
def tw12132528488462237675:=0
def tw14573637417473430289:=0
def tw14638262487540217468:=0
def tw4091779815179324206:=0
def tw5184478871981541477:=0
def tw11898888374358020213:=0
def tw11981387929134031524:=0
def tw3644391962739311749:=0
def tw11234014755359762617:=0
def tw8661791085684935483:=0
def tw13906202662221614707:=0
def tw3065130547239602850:=0
def tw3129149628183492792:=0
def tw9196137744414891022:=0
def tw11840864545440856178:=0
def tw8634722274536144349:=0
def tw13237288962533703929:=0
def tw964529159442925733:=0
def tw17885952042074953710:=0
def tw12850140257900834936:=0
def tw683848711672288643:=0
def tw16999227989048267392:=0
def tw14533148784955462240:=0
def tw7547931427388628955:=0
def tw16048982739215776218:=0
def tw16455138562123302495:=0
def tw8722693130530516592:=0
def tw2662888427846809562:=0
def tw16201098634095694312:=0
def tw15493520457937683041:=0
def tw16113875837895426970:=0
def tw9990481032595237831:=0
def tw3996849202256447026:=0
def tw16411186354736512315:=0
def tw3686351447298347975:=0
def tw17927684508579949238:=0
def tw16670406322473941917:=0
def tw2676340392193396448:=0
def tw11825069788690396770:=0
def tw8576705644972942432:=0
def tw8167233693609035199:=0
def tw11792102860012500147:=0
def tw18119933878543307960:=0
def tw18214093601060649697:=0
def tw6200758373027932026:=0
def tw13912869518226384294:=0
def tw8004003663216449434:=0
def tw1361064726113601942:=0
def tw7027461328843781118:=0
def tw14753926858622503474:=0
def tw3949085955476763456:=0
def tw14259398160172130630:=0
def tw1417533669605668144:=0
def tw10999003598981978048:=0
def tw13804608242804290235:=0
def tw8071732304734629366:=0
def tw3988959957953372166:=0
def tw13201782479968294072:=0
def tw6617308653546521438:=0
def tw15739649631107987908:=0
def tw4823065209579996497:=0
def tw11457681206458636674:=0
def tw4707549475538476821:=0
def tw17755312802921511761:=0
def tw16258661155824201065:=0
def tw8997302451995535582:=0
def tw16225030012337991:=0
def tw434249467593357985:=0
def tw3847302110153170569:=0
def tw8096529584645032372:=0
def tw9915217575305605354:=0
def tw1166639375835518115:=0
def tw15555251325027649810:=0
def tw4683824784593335148:=0
def tw5238112222527591606:=0
end PySem.W.Fast
set_option maxRecDepth 100000 in
set_option maxHeartbeats 0 in
theorem PySem.Challenge.cw_letterdesk_k08_whole_put_right_and_back_holds : PySem.Challenge.rw_letterdesk_k08_whole_put_right_and_back.Holds := by
 w_on;o_law;k_head;(case hw=>w_witness2);k_fill;refine End4.walk (l:=PySem.Challenge.rw_letterdesk_k08_whole_put_right_and_back) rfl rfl (λw h Y=>PySem.W.km_in_of Y) (λw h Y=>PySem.W.km_tabs_of Y _ (cQG ..)) ?F;case F=>
  intro w d c h b G a;refine' End4.all_mk b G a ?d59 ?d60 ?d61 ?d62 ?d63 ?d64 ?d65 ?d66 ?d67 ?d68 ?d69 ?d70 ?d9 ?d24 ?cl ?d10 ?d11 ?d12 ?d13 ?d15 ?d16 ?d17 ?d18 ?d19 ?d20 ?d21 ?d22 ?d23 ?d25 ?d28 ?d29 ?d30 ?d31 ?d32 ?d33 ?d34 ?d35 ?d36 ?d37 ?d38 ?d39 ?d57 ?d1 ?d2 ?d3 ?d4 ?d5 ?d6 ?d7 ?d8 ?d14 ?d26 ?d27 ?d56 ?d58 ?d71 ?d72 ?d73 ?d74 ?d75 ?d76 ?d77 ?d78 ?d79 ?d80 ?d81 ?d82 ?d83 ?d84 ?d85 ?d86 ?d87 ?d88 ?d89 ?d90 ?d91 ?d92 ?d93 ?d94 ?d95 ?d40 ?d41 ?d42 ?d43 ?d44 ?d45 ?d46 ?d47 ?d48 ?d49 ?d50 ?d51 ?d52 ?d53 ?d54 ?d55 ?dL ?aA ?lA ?cA1 ?kA ?nD ?lD ?pD ?z_len ?z_min ?z_sum ?z_sorted ?z_isinstance ?z_int ?z_str ?z_bool ?z_list ?z_tuple ?z_set ?z_range ?z_reversed ?z_max ?y_week ?y_open ?tb ?tn;(case d59=>apply End4.bVR<;> first|k_is|kernel_rfl);(case d60=>apply End4.uY<;> first|k_is|kernel_rfl);(case d61=>apply End4.uY<;> first|k_is|kernel_rfl);(case d62=>apply End4.uY<;> first|k_is|kernel_rfl);(case d63=>apply End4.uY<;> first|k_is|kernel_rfl);(case d64=>apply End4.uY<;> first|k_is|kernel_rfl);(case d65=>apply End4.uY<;> first|k_is|kernel_rfl);(case d66=>apply End4.uY<;> first|k_is|kernel_rfl);(case d67=>apply End4.uY<;> first|k_is|kernel_rfl);(case d68=>apply End4.uY<;> first|k_is|kernel_rfl);(case d69=>apply End4.uY<;> first|k_is|kernel_rfl);(case d70=>apply End4.uY<;> first|k_is|kernel_rfl);(case d9=>apply End4.bJy<;> k_is);(case d24=>apply End4.bJy<;> k_is);(case cl=>apply End4.bYj<;> k_is);(case d10=>apply End4.zB<;> k_is);(case d11=>apply End4.zB<;> k_is);(case d12=>apply End4.zB<;> k_is);(case d13=>apply End4.zB<;> k_is);(case d15=>apply End4.zB<;> k_is);(case d16=>apply End4.zB<;> k_is);(case d17=>apply End4.zB<;> k_is);(case d18=>apply End4.zB<;> k_is);(case d19=>apply End4.zB<;> k_is);(case d20=>apply End4.zB<;> k_is);(case d21=>apply End4.zB<;> k_is);(case d22=>apply End4.zB<;> k_is);(case d23=>apply End4.zB<;> k_is);(case d25=>apply End4.zB<;> k_is);(case d28=>apply End4.zB<;> k_is);(case d29=>apply End4.zB<;> k_is);(case d30=>apply End4.zB<;> k_is);(case d31=>apply End4.zB<;> k_is);(case d32=>apply End4.zB<;> k_is);(case d33=>apply End4.zB<;> k_is);(case d34=>apply End4.zB<;> k_is);(case d35=>apply End4.zB<;> k_is);(case d36=>apply End4.zB<;> k_is);(case d37=>apply End4.zB<;> k_is);(case d38=>apply End4.zB<;> k_is);(case d39=>apply End4.zB<;> k_is);(case d57=>apply End4.zB<;> k_is);(case d1=>apply End4.xO<;> k_is);(case d2=>apply End4.xO<;> k_is);(case d3=>apply End4.xO<;> k_is);(case d4=>apply End4.xO<;> k_is);(case d5=>apply End4.xO<;> k_is);(case d6=>apply End4.xO<;> k_is);(case d7=>apply End4.xO<;> k_is);(case d8=>apply End4.xO<;> k_is);(case d14=>apply End4.xO<;> k_is);(case d26=>apply End4.xO<;> k_is);(case d27=>apply End4.xO<;> k_is);(case d56=>apply End4.xO<;> k_is);(case d58=>apply End4.xO<;> k_is);(case d71=>apply End4.xO<;> k_is);(case d72=>apply End4.xO<;> k_is);(case d73=>apply End4.xO<;> k_is);(case d74=>apply End4.xO<;> k_is);(case d75=>apply End4.xO<;> k_is);(case d76=>apply End4.xO<;> k_is);(case d77=>apply End4.xO<;> k_is);(case d78=>apply End4.xO<;> k_is);(case d79=>apply End4.xO<;> k_is);(case d80=>apply End4.xO<;> k_is);(case d81=>apply End4.xO<;> k_is);(case d82=>apply End4.xO<;> k_is);(case d83=>apply End4.xO<;> k_is);(case d84=>apply End4.xO<;> k_is);(case d85=>apply End4.xO<;> k_is);(case d86=>apply End4.xO<;> k_is);(case d87=>apply End4.xO<;> k_is);(case d88=>apply End4.xO<;> k_is);(case d89=>apply End4.xO<;> k_is);(case d90=>apply End4.xO<;> k_is);(case d91=>apply End4.xO<;> k_is);(case d92=>apply End4.xO<;> k_is);(case d93=>apply End4.xO<;> k_is);(case d94=>apply End4.xO<;> k_is);(case d95=>apply End4.xO<;> k_is);(case d40=>apply End4.xZ<;> k_is);(case d41=>apply End4.xZ<;> k_is);(case d42=>apply End4.xZ<;> k_is);(case d43=>apply End4.xZ<;> k_is);(case d44=>apply End4.xZ<;> k_is);(case d45=>apply End4.xZ<;> k_is);(case d46=>apply End4.xZ<;> k_is);(case d47=>apply End4.xZ<;> k_is);(case d48=>apply End4.xZ<;> k_is);(case d49=>apply End4.xZ<;> k_is);(case d50=>apply End4.xZ<;> k_is);(case d51=>apply End4.xZ<;> k_is);(case d52=>apply End4.xZ<;> k_is);(case d53=>apply End4.xZ<;> k_is);(case d54=>apply End4.xZ<;> k_is);(case d55=>apply End4.xZ<;> k_is);(case dL=>apply End4.xZ<;> k_is);(case aA=>k_is);(case lA=>k_is);(case cA1=>k_is);(case kA=>k_is);(case nD=>k_is);(case lD=>k_is);(case pD=>exact⟨⟨_,rfl⟩,rfl,rfl,⟨_,rfl⟩,rfl,rfl,⟨_,rfl⟩,rfl,rfl,⟨_,rfl⟩,rfl,rfl,⟨_,rfl⟩,rfl,rfl,⟨_,rfl⟩,rfl,rfl,⟨_,rfl⟩,rfl,rfl,⟨_,rfl⟩,rfl,rfl,⟨_,rfl⟩,rfl,rfl,⟨_,rfl⟩,rfl,rfl,⟨_,rfl⟩,rfl,rfl,⟨_,rfl⟩,rfl,rfl,⟨_,rfl⟩,rfl,rfl,⟨_,rfl⟩,rfl,rfl,⟨_,rfl⟩,rfl,rfl,⟨_,rfl⟩,rfl,rfl,⟨_,rfl⟩,rfl,rfl,cXN⟩);(case z_len=>k_is);(case z_min=>k_is);(case z_sum=>k_is);(case z_sorted=>k_is);(case z_isinstance=>k_is);(case z_int=>k_is);(case z_str=>k_is);(case z_bool=>k_is);(case z_list=>k_is);(case z_tuple=>k_is);(case z_set=>k_is);(case z_range=>k_is);(case z_reversed=>k_is);(case z_max=>k_is);(case y_week=>k_is);(case y_open=>k_is);(case tb=>kernel_rfl);(case tn=>kernel_rfl)
