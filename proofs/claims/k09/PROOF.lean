import PyProof.Rows.All
import Wide.All
import OpenK.AllK
import Wide.FinOn
import KE.KLam
import KE.KNestM
import KE.KSortTup
import Lean
import OpenK.KCls
import PyProof.CollectWalk
import PyProof.CompMap
import PyProof.DictStraight
import PyProof.EqAt
import PyProof.EqKinds
import PyProof.ExcArgs
import PyProof.ExcBaseAll.Exception
import PyProof.FactsAll.set
import PyProof.FactsBase
import PyProof.InstStoreFacts
import PyProof.ListRange
import PyProof.LongRange
import PyProof.MakeMany
import PyProof.MinMaxWalk
import PyProof.NeKinds
import PyProof.Rows.SetFrom
import PyProof.Rows.SortWalk
import PyProof.SeqI3
import PyProof.SetKind
import PyProof.SetNew
import PyProof.SetScanFacts
import PyProof.StationsW
import PyProof.TupleCall
import PyProof.WalkInts
import PyProof.Walks
import PySem.Challenge.RW_letterdesk_k09_whole_files
set_option Elab.async false
set_option linter.all false
set_option maxRecDepth 100000
set_option maxHeartbeats 4000000
set_option tactic.hygienic false
open Array renaming length_toList → cZw, getElem?_eq_getElem → cZK, getElem?_toList → cZQ, getElem?_eq_some_iff → cJG, getD → cJM, getElem?_eq_none → cVc, getElem?_extract_of_lt → cWs, getElem?_append_left → cWy, perm_iff_toList_perm → cWz
open Classical renaming choose_spec → cV7
open False renaming elim → cZO
open ForInStep renaming yield → cWc
open Int renaming toNat_natCast → cXG, zero_add → cJz, not_lt → cJ7
open List renaming getElem?_eq_getElem → cQ9, length_map → cXe, mem_cons → cXj, mem_cons_of_mem → cXl, range → cXm, getElem?_eq_some_iff → cXn, mem_singleton → cXo, mem_cons_self → cXp, mem_of_getElem? → cXs, size_toArray → cXt, getElem?_map → cXu, mem_append_right → cXw, getElem?_append_right → cXz, length_append → cXD, mem_append → cXH, mem_range → cXI, getElem?_eq_none → cXM, map_cons → cXO, getElem?_append_left → cXU, getD → cXW, length_range → cX1, getElem_of_mem → cX2, mem_map → cX3, take_length → cX4, length_filter_le → cX6, take_add_one → cZa, length_cons → cZb, mem_filter → cZd, append_nil → cZg, length_take → cZl, toArray → cZm, append_assoc → cZn, filter_append → cZo, length_singleton → cZp, length_pos_iff → cZq, map_append → cZy, filter_cons_of_neg → cZB, filter_cons_of_pos → cZC, pairwise_singleton → cZD, pairwise_cons → cZF, contains_iff_mem → cZR, map_map → cZS, getElem_mem → cZX, mem_append_left → cZY, filter_sublist → cZ2, nodup_cons → cZ4, getElem_inj → cZ5, lookup_cons → cZ6, getElem?_range → cJe, length → cJk, length_nil → cJl, ext_getElem? → cJp, any_cons → cJr, eq_nil_of_length_eq_zero → cJs, filter_eq_self → cJu, getElem?_set_self → cJw, lookup → cJx, contains_cons → cJA, find?_cons → cJD, range_succ → cJE, nodup_append → cJJ, pairwise_map → cJK, pairwise_iff_getElem → cJP, replicate → cJQ, not_mem_nil → cJU, filterMap_cons → cJ0, map_congr_left → cJ1, all_eq_true → cVs, append_inj' → cVt, getElem?_set_ne → cVu, nodup_range → cVv, all_cons → cVy, zip → cVK, filter_congr → cVQ, map_id → cVX, cons_append → cV2, countP_cons → cV3, length_drop → cV4, mem_nil_iff → cV5, forIn_cons → cWd, pairwise_append → cWe, toList_toArray → cWq, Perm → cWx, foldl_append → cWC, getElem?_eq_none_iff → cWI, length_erase_of_mem → cWN
open List.Nodup renaming mem_erase_iff → cWM
open Nat renaming le_refl → cXh, ne_of_lt → cXx, lt_of_lt_of_le → cXE, le_trans → cXJ, zero_le → cZc, lt_succ_of_lt → cZj, lt_irrefl → cZk, sub_self → cZz, lt_succ_self → cZI, le_succ_of_le → cZP, not_lt_zero → cZT, le_succ → cJg, ne_of_gt → cJB, le_of_eq → cJV, le_of_lt → cJW, lt_or_ge → cVg, mul_le_mul_right → cWf
open Ne renaming symm → cXT
open Option.some renaming inj → cXv, injEq → cWD
open PyProof.Rows renaming seqObj → cXS, envOfC → cJb, IntsAre → cJv, slot_tuple_getitem → cJ3, IsTup → cJ8, get?_update_seq → cVa, entry_list_sort → cVh, args_list_sort → cVm, callWith_type1 → cVn, slot_list_sort → cVo, listUpdate_at → cVA, entry_sorted → cWj, plain_sorted → cWm
open PyProof.Rows.F renaming plain_set_update_loop → cJC, entry_set_update_loop → cVM
open PyProof.Rows.IntsAre renaming int_at → cVl
open PySem renaming wpAny_bind → cXa, Value → cXb, Shared → cXd, wpAny_pure → cXf, wpAny → cXi, model → cXk, sizeLine → cXy, Program → cXB, sizeLine_eq → cXC, mainGlobals → cXK, World → cXN, starEach → cXR, bootBuiltins → cXV, Paired → cXZ, Around → cX8, wpAny_mono → cZh, wpAny_holding → cZt, rawInt → cZv, wpAny_newObj_type → cZx, wpAny_Call_Name_kw → cZH, wpAny_call_entry → cZJ, mem_of_lookup → cZM, compareOp → cZN, backTo → cZW, Builtin → cZZ, SetTable → cZ3, codeAny_mono → cZ8, FuncData → cJc, wpAny_truthy_bool → cJd, wpAny_setField → cJj, codeAny_builtin → cJo, codeAny → cJq, wpAny_callSpecial?_slot → cJt, keywordEach → cJy, wpAny_passesOwn → cJF, binaryOp → cJH, bindArgs → cJI, wpAny_setState_of → cJL, wpAny_askSetting → cJZ, wpAny_setEntries_of → cJ2, attributeBase → cJ4, behindInMarks → cJ5, wpAny_newList → cJ6, sysModules → cVb, isSubtype → cVp, pickOrder → cVq, setFlight → cVr, backToKw → cVw, wpAny_call → cVx, plainId_quiet → cVB, wpAny_attempt → cVC, holding → cVE, sliceBounds → cVF, valueAt → cVG, NameKind → cVL, getMethod → cVN, noteFrame → cVO, scanBound → cVP, wpAny_pyIter_list → cVV, wpAny_field → cVZ, wpAny_standAt → cV0, builtinLookup_eq_fast → cWa, plainObj_wpAny_Assign_Attribute → cWb, assignEach → cWh, codeAny_call_builtin → cWi, isInstance → cWk, letOwnedTupleGo → cWl, wpAny_execs_nil → cWn, wpAny_ite_split → cWo, wpAny_fieldsOf → cWu, fits_of_scanBound → cWG, foldedSetIterable → cWH, wpAny_comprehension_free → cWP
open PySem.Around renaming under_plainId → cJa
open PySem.Builtin.List renaming listExtendWith → cVk, listTooLong → cVJ, listLengthHint → cWv, listSameRef → cWL
open PySem.Builtin.Slice renaming slicePlaces → cJN, sliceAdjust → cVI, sliceApplied → cWA
open PySem.Builtin.Tuple renaming tupleExact → cJT
open PySem.Calls renaming call_function_entry → cJO, Name_function_global → cWB
open PySem.Code renaming quiet_builtin → cWw
open PySem.F renaming plainAttrs_list → cXF, slot_list_append → cXP, type_list_append → cXQ, called_set → cZ7, slot_list_pop → cV8, type_list_pop → cV9, excBase_Exception → cWJ, plain_extend_loop → cWK, args_tuple_add_2 → cWO
open PySem.Heap renaming get?_push_of_some → cXg, lt_size → cXq, get?_push_size → cXA, get?_update_other → cXL, get?_update_self → cZi, size_push → cZE, SameBut → cJf, ExtBut → cVW, size_update → cV1, get?_update_ne → cWp
open PySem.Heap.SameBut renaming update → cZL
open PySem.Obj renaming mapSeq → cXY, mapFields → cZs, isFreed_of_fields → cZA, data_mapFields → cZG
open PySem.Paired renaming length → cJh, snoc → cVY
open PySem.PassesOwn renaming never → cX0
open PySem.SeqAt renaming EqAt → cWR
open PySem.SetTable renaming below → cZe, grown → cJS, insertAt → cVf
open PySem.SetTable.below renaming go → cVe
open PySem.SetTable.probe renaming go → cWF
open PySem.Str renaming ofString → cVj
open PySem.Txt renaming mul → cVD
open PySem.W renaming Frag → cXc, mg_none_of → cXr, findIn → cXX, kitOne → cX5, keepIn → cX7, nsIn → cX9, fnOf → cZf, katRev → cZr, kia_one → cZU, kia_tup → cZV, codeIn → cZ0, emptyDict → cZ1, mg_of → cZ9, CodeHd → cJi, instObj → cJm, kla_obj → cJn, tabObj → cJR, isFn → cJX, plainGet → cJY, callWith_K → cJ9, hasDictIn → cVd, methodCall_KW → cVi, mroIn → cVz, callWith_K0 → cVH, kitx_dict → cVR, kitx_list → cVS, plainOver → cVT, specialIn → cVU, codeHdIn → cV6, plainGet_of → cWr, lookIn → cWt, methodObj → cWE, KatTups → cWQ
open PySem.W.KatTups renaming cons → cWg
open True renaming intro → cZu
abbrev A1:="_law_rows"
abbrev AA:="self"
abbrev AB:="_law_number"
abbrev AC:="list"
abbrev AD:="number"
abbrev AE:="tuple"
abbrev AF:="__init__"
abbrev AG:="words"
abbrev AH:="_law_k"
abbrev AI:="_law_deed"
abbrev AJ:="_law_shut"
abbrev AK:="__debug__"
abbrev AL:="book"
abbrev AM:="letter"
abbrev AN:="deed"
abbrev AO:="_law_cells"
abbrev AQ:="sorted"
abbrev AR:="_law_date"
abbrev AS:="set_iterator"
abbrev AT:="deep"
abbrev AU:="term"
abbrev AV:="_law_found"
abbrev AW:="overdue"
abbrev AX:="answers_to_each"
abbrev AY:="_law_script"
abbrev AZ:="waiting"
abbrev Aa:="isinstance"
abbrev Ab:="day"
abbrev Ac:="partner"
abbrev Ad:="letter_at"
abbrev Ae:="__name__"
abbrev Af:="__getattribute__"
abbrev Ag:="range"
abbrev Ah:="_law_good"
abbrev Ai:="shut"
abbrev Aj:="Book"
abbrev Ak:="Refused"
abbrev Al:="bool"
abbrev Am:="BaseException"
abbrev An:="links"
abbrev Ao:="letters"
abbrev Ap:="date"
abbrev Aq:="_law_one"
abbrev Ar:="_law_family"
abbrev As:="int"
abbrev At:="str"
abbrev Au:="_law_kids_of"
abbrev Av:="open_by_rest"
abbrev Aw:="_law_done_by"
abbrev Ax:="dates"
abbrev Ay:="void"
abbrev Az:="_law_deeds"
abbrev B0:="_law_due"
abbrev B1:="__setattr__"
abbrev B2:="answers"
abbrev B3:="_law_standing_of"
abbrev B4:="answered"
abbrev B5:="_law_name"
abbrev B6:="set"
abbrev B7:="check_term"
abbrev B8:="check_days"
abbrev B9:="thread"
abbrev BA:="__classdict__"
abbrev BB:="_law_waits_on"
abbrev BC:="_law_goal"
abbrev BD:="waiting_pairs"
abbrev BE:="asked_day"
abbrev BF:="reply_day"
abbrev BG:="_law_with_one"
abbrev BH:="_law_turn"
abbrev BI:="_law_unturned"
abbrev BJ:="dict_reverseitemiterator"
abbrev BK:="copies"
abbrev BL:="out"
abbrev BM:="_law_list_on"
abbrev BN:="_law_entered"
abbrev BO:="_law_numbers"
abbrev BP:="_law_told_of"
abbrev BQ:="_law_hanging"
abbrev BR:="_law_deed_at"
abbrev BS:="_law_book_of"
abbrev BT:="_law_folders"
abbrev BU:="__next__"
abbrev BV:="file"
abbrev BW:="standing_states"
abbrev BX:="_law_due_by"
abbrev BY:="_law_term"
abbrev BZ:="_law_late"
abbrev Ba:="Exception"
abbrev Bb:="way"
abbrev Bc:="state"
abbrev Bd:="other"
abbrev Be:="person"
abbrev Bf:="closed_days"
abbrev Bg:="reply"
abbrev Bh:="thread_of"
abbrev Bi:="_law_near"
abbrev Bj:="is_answered_by"
abbrev Bl:="StopIteration"
abbrev Bm:="_law_dated"
abbrev Bn:="answers_to"
abbrev Bo:="name"
abbrev Bp:="add_letter"
abbrev Bq:="lay_thread"
abbrev Br:="check_hanging"
abbrev Bs:="deeds"
abbrev Bt:="_law_about"
abbrev Bu:="ann"
abbrev Bv:="_law_story"
abbrev Bw:="_law_alike"
abbrev Bx:="_law_whole"
abbrev By:="_law_bound"
abbrev Bz:="_law_far"
abbrev C0:="len"
abbrev C5:="loose"
abbrev C6:="_law_pair"
abbrev C7:="_law_lost"
abbrev C8:="_law_hung"
abbrev C9:="other_way"
abbrev CA:="_law_here"
abbrev CC:="_law_room"
abbrev CD:="_law_most"
abbrev CF:="__getitem__"
abbrev CG:="type"
abbrev CH:="Letter"
abbrev CI:="has_gone_to"
abbrev CJ:="answered_by"
abbrev CK:="ask_letters"
abbrev CM:="ask_waiting"
abbrev CN:="ask_overdue"
abbrev CO:="answer"
abbrev CP:="_law_j"
abbrev CQ:="place_of"
abbrev CS:="standing"
abbrev CT:="letters_in"
abbrev CU:="ask_thread"
abbrev CV:="ask_copies"
abbrev CW:="copied"
abbrev CY:="due_day"
abbrev CZ:="asked"
abbrev Ca:="_law_at"
abbrev Cb:="link"
theorem Ce{α:Sort u}{a:α}:a=a:=rfl
theorem dk {p:Prop}[Decidable p](h:decide p=true:=by decide +kernel):p:=of_decide_eq_true h
namespace L2
open PySem PySem.Spec PyProof.Rows
inductive Ez2{α0 α1:Type}(P:α0->α1->Prop):Prop|mk(a0 a1)(h:P a0 a1)
inductive Ez3{α0 α1 α2:Type}(P:α0->α1->α2->Prop):Prop|mk(a0 a1 a2)(h:P a0 a1 a2)
inductive Ez4{α0 α1 α2 α3:Type}(P:α0->α1->α2->α3->Prop):Prop|mk(a0 a1 a2 a3)(h:P a0 a1 a2 a3)
inductive Ez7{α0 α1 α2 α3 α4 α5 α6:Type}(P:α0->α1->α2->α3->α4->α5->α6->Prop):Prop|mk(a0 a1 a2 a3 a4 a5 a6)(h:P a0 a1 a2 a3 a4 a5 a6)
abbrev Key:=Sum Int Str
def aKt:Key->cXb->Bool
 |.inl k,v=>Value.isInt k v
 |.inr x,v=>Value.isStrOf x v
def cQV(w:cXN):Key->Int
 |.inl k=>hashInt k
 |.inr x=>hashStr w x
def zQ:∀ {k:Key} {v:cXb},aKt k v=true->(∃i t,k=Sum.inl i/\v=Value.int i t)\/(∃x t,k=Sum.inr x/\v=Value.str x t)
 |.inl i,v,h=>by obtain⟨t,e⟩:=Value.isInt_shape (k:=i) (v:=v) h;exact .inl ⟨i,t,Ce,e⟩
 |.inr x,v,h=>by obtain⟨t,e⟩:=Value.isStrOf_shape (x:=x) (v:=v) h;exact .inr ⟨x,t,Ce,e⟩
def aY4(i:Int)(t:Tok):aKt (.inl i) (.int i t)=true:=by simp[aKt,Value.isInt]
def aY5(x:Str)(t:Tok):aKt (.inr x) (.str x t)=true:=by simp[aKt,Value.isStrOf]
def bKX(a b:Int):decide ((Sum.inl a:Key)=Sum.inl b)=(a==b):=by
 by_cases e:a=b
 ·subst e;simp
 ·have h:¬ (Sum.inl a:Key)=Sum.inl b:=λq=>e (Sum.inl.inj q);rw[decide_eq_false h];exact(beq_eq_false_iff_ne.mpr e).symm
def bK0(a b:Str):decide ((Sum.inr a:Key)=Sum.inr b)=decide (a=b):=by
 by_cases e:a=b
 ·subst e;simp
 ·have h:¬ (Sum.inr a:Key)=Sum.inr b:=λq=>e (Sum.inr.inj q);rw[decide_eq_false h,decide_eq_false e]
def bKY(a:Int)(b:Str):decide ((Sum.inl a:Key)=Sum.inr b)=false:=decide_eq_false (λq=>nomatch q)
def bKZ(a:Str)(b:Int):decide ((Sum.inr a:Key)=Sum.inl b)=false:=decide_eq_false (λq=>nomatch q)
def zS(prog:cXB)(w:cXN):PySem.KeyKind prog w Key where
 is:=aKt
 hash:=cQV w
 inj:=λv a b ha hb=>by
  rcases zQ ha with⟨i,t,rfl,rfl⟩|⟨x,t,rfl,rfl⟩
  ·rcases zQ hb with⟨j,u,rfl,e⟩|⟨y,u,rfl,e⟩
   ·injection e with e1 _;rw[e1]
   ·exact nomatch e
  ·rcases zQ hb with⟨j,u,rfl,e⟩|⟨y,u,rfl,e⟩
   ·exact nomatch e
   ·injection e with e1 _;rw[e1]
 byValue:=λk v h=>by
  rcases zQ h with⟨i,t,rfl,rfl⟩|⟨x,t,rfl,rfl⟩<;> rfl
 pyHash:=λhv h=>by
  rcases zQ hv with⟨i,t,rfl,rfl⟩|⟨x,t,rfl,rfl⟩
  ·exact wpAny_pyHash_int h
  ·exact wpAny_pyHash_str h
 eqBool:=λhu hv h=>by
  rcases zQ hu with⟨i,t,rfl,rfl⟩|⟨x,t,rfl,rfl⟩
  ·rcases zQ hv with⟨j,u,rfl,rfl⟩|⟨y,u,rfl,rfl⟩
   ·rw[bKX]at h;exact wpAny_eqBool_int h
   ·rw[bKY]at h;exact SeqAt.EqAt.int_str i t y u _ _ _ _ h
  ·rcases zQ hv with⟨j,u,rfl,rfl⟩|⟨y,u,rfl,rfl⟩
   ·rw[bKZ]at h;exact SeqAt.EqAt.str_int x t j u _ _ _ _ h
   ·rw[bK0]at h;exact wpAny_eqBool_str h
 «strs»:=λk x t v h=>by
  rcases zQ h with⟨i,u,rfl,e⟩|⟨y,u,rfl,e⟩
  ·exact nomatch e
  ·injection e with e1 _
   subst e1
   cases v<;> rfl
def aVr(prog:cXB)(w:cXN)(i:Int)(t:Tok):(zS prog w).is (.inl i) (.int i t)=true:=aY4 i t
def X8(prog:cXB)(w:cXN)(x:Str)(t:Tok):(zS prog w).is (.inr x) (.str x t)=true:=aY5 x t
end L2
namespace L2
open PySem PySem.Spec PyProof.Rows
inductive V where
 |non|bl (b:Bool)|int (i:Int)|str (x:Str)|byt (b:Array UInt8)|flt (b:UInt64)|ref (a:Addr)|ty (n:String)
 deriving DecidableEq
def wG:V->cXb->Prop
 |.non,u=>u=Value.none
 |.bl b,u=>u=Value.bool b
 |.int i,u=>∃t,u=Value.int i t
 |.str x,u=>∃t,u=Value.str x t
 |.byt b,u=>∃t,u=Value.bytes b t
 |.flt b,u=>∃t,u=Value.float b t
 |.ref a,u=>u=Value.ref a
 |.ty n,u=>u=Value.type n
abbrev zD:List V->List cXb->Prop:=cXZ wG
def zD.length(r:zD xs us):xs.length=us.length:=cJh r
theorem zD.get:∀ {xs:List V} {us:List cXb} {i:Nat} {x:V},zD xs us->xs[i]? =some x->∃u,us[i]? =some u/\wG x u
 |_,_,_,_,.nil,e=>by simp at e
 |_,_,0,_,.cons r _,e=>by simp at e;subst e;exact⟨_,Ce,r⟩
 |_,_,i+1,x,.cons _ t,e=>by obtain⟨u,h1,h2⟩:=zD.get (i:=i) (x:=x) t (by simpa using e);exact⟨u,by simpa using h1,h2⟩
def zD.set(r:wG x u):∀ {xs:List V} {us:List cXb} (i:Nat),zD xs us->zD (xs.set i x) (us.set i u)
 |_,_,_,.nil=> .nil
 |_,_,0,.cons _ t=> .cons r t
 |_,_,i+1,.cons q t=> .cons q (zD.set r i t)
def zD.append:∀ {xs ys:List V} {us a:List cXb},zD xs us->zD ys a->zD (xs++ys) (us++a)
 |_,_,_,_,.nil,s=>s
 |_,_,_,_,.cons r t,s=> .cons r (zD.append t s)
def zD.take:∀ {xs:List V} {us:List cXb} (n:Nat),zD xs us->zD (xs.take n) (us.take n)
 |_,_,0,_=> .nil
 |_,_,_+1,.nil=> .nil
 |_,_,n+1,.cons r t=> .cons r (zD.take n t)
def zD.drop:∀ {xs:List V} {us:List cXb} (n:Nat),zD xs us->zD (xs.drop n) (us.drop n)
 |_,_,0,r=>r
 |_,_,_+1,.nil=> .nil
 |_,_,n+1,.cons _ t=>zD.drop n t
def aZ7:Option V->Option cXb->Prop
 |some v,some u=>wG v u
 |none,none=>True
 |_,_=>False
def KV{κ:Type}:List (κ×V)->List (κ×cXb)->Prop:=cXZ λ(p:κ×V)(q:κ×cXb)=>p.1=q.1/\wG p.2 q.2
def kV:Key->V
 |.inl i=> .int i
 |.inr x=> .str x
inductive HO where
 |lst (xs:List V)
 |tup (xs:List V)
 |dK (kvs:List (Key×V))|dT (kvs:List (List Key×V))
 |set (S:Int->Bool) (n:Nat)
 |ins (C dx:Addr) (fs:List (Str×V))
 |own (x:Addr)
 |xd (fs:List (Str×V))
 |met (f x:Addr)
 |rng (lo hi:Int)
 |frz (o:Obj) (u:HO)
 |tbl (ps:Array cXb)
 |ext (φ:Heap->Prop)
abbrev Hp:=Addr->Option HO
def upd(H:Hp)(a:Addr)(o:HO):Hp:=λb=>if b=a then some o else H b
def yB:upd H a o a=some o:=by unfold upd;rw[if_pos rfl]
def yJ(h:b≠a):upd H a o b=H b:=by unfold upd;rw[if_neg h]
def qP:upd (upd H a o) a u=upd H a u:=by
 funext b;unfold upd;split<;> rfl
def aXW{H:Hp}{a b:Addr}{o u:HO}(h:H a=some o)(h':H b=some u)(d:o≠u):a≠b:=by
 intro e;subst e;rw[h]at h';exact d (cXv h')
def yI{H:Hp}{a b:Addr}{o:HO}(h:H a=some o)(h':H b=none):a≠b:=by
 intro e;subst e;rw[h]at h';cases h'
section
variable (P:cXB)(w:cXN)
def zT(H:Hp)(h:Heap)(a:Addr):HO->Prop
 |.lst xs=>xs.length<=cXy/\∃ (c:List cXb)(n:Nat),zD xs c/\h.get? a=some {cls:= .type AC,data:= .seq c.toArray n}
 |.tup xs=>xs.length<=cXy/\∃c:List cXb,zD xs c/\cJ8 h a c.toArray
 |.dK b=>b.length<=cXy/\(a==cVb)=false/\∃d,KV b d/\h.DictOf (zS P w) a d
 |.dT b=>b.length<=cXy/\(a==cVb)=false/\∃xs:List (List Key×Addr×cXb),
   cXZ (λ(p:List Key×V)(q:List Key×Addr×cXb)=>p.1=q.1/\H q.2.1=some (.tup (p.1.map kV))/\wG p.2 q.2.2) b xs/\
   ∃o es e,h.get? a=some o/\o.ExactDict/\o.data= .dict es e/\es.toList=xs.map (entryOfKey (tupleKind (zS P w)))/\(xs.map (·.1)).Nodup
 |.set S n=>h.SetOf (intKind P w) a S n
 |.ins C dx fs=>H dx=some (.own a)/\fs.length<=1000/\dx≠a/\h.get? a=some (cJm C dx)/\
   ∃mA,h.Ns1 dx mA/\(∀f,aZ7 (fs.lookup f) (mA f))/\PySem.Within mA (fs.map (·.1))
 |.own _=>∃o,h.get? a=some o
 |.xd fs=>∃mA,h.Ns1 a mA/\∀f,aZ7 (fs.lookup f) (mA f)
 |.rng lo hi=>∃t u v,h.get? a=some {cls:= .type Ag,data:= .fields #[.int lo t,.int hi u,.int 1 v] }
 |.frz o u=>h.get? a=some o/\zT H h a u
 |.tbl ps=>h.get? a=some {cls:= .none,data:= .fields ps}
 |.met f x=>h.get? a=some (cWE (.ref f) (.ref x))
 |.ext φ=>φ h/\(∃o,h.get? a=some o)/\∀h1 h2:Heap,φ h1->(∀o,h1.get? a=some o->h2.get? a=some o)->φ h2
def HOk(H:Hp)(h:Heap):Prop:=∀a o,H a=some o->zT P w H h a o
end
section
variable {P:cXB}{w:cXN}{H H':Hp}{h h':Heap}{a:Addr}{o:HO}
def zT.lt(x:zT P w H h a o):a<h.objs.size:=by
 cases o with
 |lst xs=>obtain⟨_,_,_,_,e⟩:=x;exact cXq e
 |tup xs=>obtain⟨_,_,_,p⟩:=x;exact p.lt
 |dK b=>obtain⟨_,_,_,_,o,_,_,e,_⟩:=x;exact cXq e
 |dT b=>obtain⟨_,_,_,_,o,_,_,e,_⟩:=x;exact cXq e
 |set S n=>obtain⟨o,_,_,_,e,_⟩:=x;exact cXq e
 |ins C dx fs=>obtain⟨_,_,_,e,_⟩:=x;exact cXq e
 |own y=>obtain⟨_,e⟩:=x;exact cXq e
 |xd fs=>obtain⟨_,⟨_,_,_,e,_⟩,_⟩:=x;exact cXq e
 |rng lo hi=>obtain⟨_,_,_,e⟩:=x;exact cXq e
 |frz c u=>obtain⟨e,_⟩:=x;exact cXq e
 |tbl ps=>exact cXq (show h.get? a=some _ from x)
 |met f y=>exact cXq (show h.get? a=some _ from x)
 |ext φ=>obtain⟨_,⟨_,e⟩,_⟩:=x;exact cXq e
def Paired.mapP{α β:Type}{F G:α->β->Prop}:∀ {d:List α} {c:List β},cXZ F d c->(∀a b,F a b->G a b)->cXZ G d c
 |_,_,.nil,_=> .nil
 |_,_,.cons r t,f=> .cons (f _ _ r) (Paired.mapP t f)
def zT.stay(x:zT P w H h a o)(k:∀b u,(b=a\/H b=some (.own a))->h.get? b=some u->h'.get? b=some u) (s:∀b,H b=some (.own a)->H' b=some (.own a)) (A:∀b xs,H b=some (.tup xs)->H' b=some (.tup xs)):zT P w H' h' a o:=by
 induction o with
 |lst xs=>obtain⟨z,j,n,r,e⟩:=x;exact⟨z,j,n,r,k _ _ (.inl rfl) e⟩
 |tup xs=>obtain⟨z,j,r,g,e,c⟩:=x;exact⟨z,j,r,g,k _ _ (.inl rfl) e,c⟩
 |dK m=>obtain⟨z,y,D,r,g,es,i,e,c⟩:=x;exact⟨z,y,D,r,g,es,i,k _ _ (.inl rfl) e,c⟩
 |dT m=>obtain⟨z,y,xs,r,g,es,i,e,c⟩:=x;exact⟨z,y,xs,Paired.mapP r λp q z=>⟨z.1,A _ _ z.2.1,z.2.2⟩,g,es,i,k _ _ (.inl rfl) e,c⟩
 |set S n=>obtain⟨g,es,i,t,e,c⟩:=x;exact⟨g,es,i,t,k _ _ (.inl rfl) e,c⟩
 |ins C dx fs=>obtain⟨d,z,ne,e,mA,⟨l,es,i,E,c⟩,r⟩:=x;exact⟨s _ d,z,ne,k _ _ (.inl rfl) e,mA,⟨l,es,i,k _ _ (.inr d) E,c⟩,r⟩
 |own y=>obtain⟨g,e⟩:=x;exact⟨g,k _ _ (.inl rfl) e⟩
 |xd fs=>obtain⟨mA,⟨l,es,i,e,c⟩,r⟩:=x;exact⟨mA,⟨l,es,i,k _ _ (.inl rfl) e,c⟩,r⟩
 |rng lo hi=>obtain⟨t,u,v,e⟩:=x;exact⟨t,u,v,k _ _ (.inl rfl) e⟩
 |frz g u B=>obtain⟨e,q⟩:=x;exact⟨k _ _ (.inl rfl) e,B q⟩
 |tbl ps=>have e:h.get? a=some {cls:= .none,data:= .fields ps}:=x;show h'.get? a=some {cls:= .none,data:= .fields ps};exact k a _ (.inl rfl) e
 |met f y=>have e:h.get? a=some (cWE (.ref f) (.ref y)):=x;show h'.get? a=some (cWE (.ref f) (.ref y));exact k a _ (.inl rfl) e
 |ext φ=>obtain⟨p,⟨o,e⟩,st⟩:=x;exact⟨st _ _ p λo q=>k _ _ (.inl rfl) q,⟨o,k _ _ (.inl rfl) e⟩,st⟩
def HOk.lt(x:HOk P w H h)(e:H a=some o):a<h.objs.size:=(x a o e).lt
def HOk.fresh(x:HOk P w H h)(e:h.objs.size<=a):H a=none:=by
 cases q:H a with
 |none=>rfl
 |some u=>exact absurd (cXE (x.lt q) e) (cZk _)
def HOk.kept(x:HOk P w H h)(k:∀b u,h.get? b=some u->h'.get? b=some u):HOk P w H h':=λa o e=>
 (x a o e).stay (λb u _ q=>k b u q) (λ_ q=>q) λ_ _ q=>q
def HOk.laid(x:HOk P w H h)(k:∀b u,h.get? b=some u->h'.get? b=some u)(i:h.objs.size<=a)(d:zT P w (upd H a o) h' a o):HOk P w (upd H a o) h':=λb u e=>by
 have f:=x.fresh i;by_cases g:b=a
 ·subst g;rw[yB]at e;cases e;exact d
 ·rw[yJ g]at e;exact(x b u e).stay (λc v _ q=>k c v q) (λc q=>by rw[yJ (yI q f)];exact q) λc xs q=>by rw[yJ (yI q f)];exact q
end
def Rd(H:Hp)(a:Addr)(u:HO):Prop:=H a=some u\/∃o,H a=some (.frz o u)
def Rd.ok(r:Rd H a u)(x:HOk P w H h):zT P w H h a u:=by
 rcases r with r|⟨o,r⟩
 ·exact x a u r
 ·obtain⟨_,q⟩:=x a _ r;exact q
def Mut:Option HO->Prop
 |some (.lst _)=>True
 |some (.dK _)=>True
 |some (.dT _)=>True
 |some (.set _ _)=>True
 |some (.ins _ _ _)=>True
 |some (.ext _)=>True
 |_=>False
section
variable {P:cXB}{w:cXN}{H:Hp}{h h':Heap}{x e:Addr}{o':HO}
def HOk.write(ok:HOk P w H h)(i:Mut (H x))(n:e=x\/H e=some (.own x))(k:∀b u,b≠e->h.get? b=some u->h'.get? b=some u)(m:∃u,h'.get? e=some u)
  (l:zT P w (upd H x o') h' x o'):HOk P w (upd H x o') h':=λb u q=>by
 have d:∀c y,H c=some (.own y)->c≠x:=λc y r z=>by subst z;rw[r]at i;exact i
 have f:∀c xs,H c=some (.tup xs)->c≠x:=λc xs r z=>by subst z;rw[r]at i;exact i
 by_cases j:b=x
 ·subst j;rw[yB]at q;cases q;exact l
 ·rw[yJ j]at q;by_cases a:b=e
  ·have o:H b=some (.own x):=by
    rcases n with z|z
    ·exact absurd (a.trans z) j
    ·rw[a];exact z
   rw[q]at o;cases o;obtain⟨v,p⟩:=m;exact⟨v,by rw[a];exact p⟩
  ·refine(ok b u q).stay (λc v g r=>k c v ?_ r) (λc r=>by rw[yJ (d c b r)];exact r) λc xs r=>by rw[yJ (f c xs r)];exact r
   rcases g with rfl|g
   ·exact a
   ·rintro rfl;rcases n with z|z
    ·exact d c b g z
    ·rw[g]at z;cases z;exact j rfl
end
structure Un(fs ex:List Addr)(H H':Hp)(h h':Heap):Prop where
 keep:∀b o,h.get? b=some o->H b=none->b∉fs->b∉ex->h'.get? b=some o
 slot:∀b o,h.get? b=some o->H b=none->b∈fs->b∉ex->∃sl,h'.get? b=some {o with slots:=sl}
 free:∀b o,h.get? b=some o->H b=none->b∉ex->H' b=none
 there:∀b o,h.get? b=some o->b∉ex->∃o',h'.get? b=some o'
 tups:∀b xs,H b=some (.tup xs)->H' b=some (.tup xs)
 frzs:∀b o u,H b=some (.frz o u)->H' b=some (.frz o u)
 tbls:∀b ps,H b=some (.tbl ps)->∃more,H' b=some (.tbl (ps++more))
section
variable {fs fs' ex ex':List Addr}{H H1 H2:Hp}{h h1 h2 h':Heap}{a x e:Addr}{o:HO}
def Un.any(u:Un fs ex H H1 h h1){b:Addr}{a:Obj}(q:h.get? b=some a)(n:H b=none)(c:b∉ex):∃e,h1.get? b=some {a with slots:=e}:=by
 by_cases d:b∈fs
 ·exact u.slot b a q n d c
 ·exact⟨a.slots,u.keep b a q n d c⟩
def Un.kept(k:∀b u,h.get? b=some u->h'.get? b=some u):Un fs ex H H h h':=
 ⟨λb a q _ _ _=>k b a q,λb a q _ _ _=>⟨a.slots,k b a q⟩,λ_ _ _ n _=>n,λb a q _=>⟨a,k b a q⟩,λ_ _ q=>q,λ_ _ _ q=>q,λ_ ps q=>⟨#[],by rw[q];simp⟩⟩
def Un.refl:Un fs ex H H h h:=Un.kept λ_ _ q=>q
def Un.laid(k:∀b u,h.get? b=some u->h'.get? b=some u)(hp:h.objs.size<=a)(hn:H a=none):Un fs ex H (upd H a o) h h' where
 keep:=λb u q _ _ _=>k b u q
 slot:=λb u q _ _ _=>⟨u.slots,k b u q⟩
 free:=λb u q n _=>by rw[yJ (cXx (cXE (cXq q) hp))];exact n
 there:=λb u q _=>⟨u,k b u q⟩
 tups:=λb xs q=>by rw[yJ (yI q hn)];exact q
 frzs:=λb u xs q=>by rw[yJ (yI q hn)];exact q
 tbls:=λb ps q=>⟨#[],by rw[yJ (yI q hn),q];simp⟩
def Un.write(c:Mut (H x))(j:e=x\/H e=some (.own x))(k:∀b u,b≠e->h.get? b=some u->h'.get? b=some u)(d:∃u,h'.get? e=some u):Un fs ex H (upd H x o) h h':=by
 have g:∀b,H b=none->b≠x:=λb n z=>by subst z;rw[n]at c;exact c
 have i:∀b,H b=none->b≠e:=λb n z=>by
  subst z;rcases j with r|r
  ·exact g b n r
  ·rw[n]at r;cases r
 have f:∀b u,H b=some u->¬Mut (some u)->b≠x:=λb u q nm z=>by subst z;rw[q]at c;exact nm c
 refine⟨λb u q n _ _=>k b u (i b n) q,λb u q n _ _=>⟨u.slots,k b u (i b n) q⟩,λb u q n _=>by rw[yJ (g b n)];exact n,λb u q _=>?_,
  λb xs q=>by rw[yJ (f b _ q λz=>z)];exact q,λb u xs q=>by rw[yJ (f b _ q λz=>z)];exact q,λb ps q=>⟨#[],by rw[yJ (f b _ q λz=>z),q];simp⟩⟩
 by_cases a:b=e
 ·subst a;exact d
 ·exact⟨u,k b u a q⟩
end
def trk(h:Heap)(H:Hp):List Addr:=(cXm h.objs.size).filter λa=>(H a).isSome
def aYX(h:Heap)(H:Hp):Heap:=PySem.W.hideAll h (trk h H)
def aYY(h:Heap)(H:Hp):(aYX h H).objs.size=h.objs.size:=PySem.W.hideAll_size _ _
def bZr(e:h.get? b=some o)(n:H b=none):(aYX h H).get? b=some o:=
 PySem.W.hideAll_get _ e λa=>by have q:(H b).isSome=true:=(cZd.mp a).2;rw[n]at q;simp at q
def bWn(e:(aYX h H).get? b=some o):h.get? b=some o/\H b=none:=by
 have a:h.get? b=some o:=PySem.W.of_hideAll (trk h H) e;refine⟨a,?_⟩;cases q:H b with
 |none=>rfl
 |some x=>have c:b∈trk h H:=cZd.mpr ⟨cXI.mpr (cXq a),by simp[q]⟩;have z:(aYX h H).get? b=none:=PySem.W.hideAll_none (trk h H) c;rw[z]at e;cases e
def bVQ(g h:Heap)(L:Addr):List (Addr×Obj):=(cXm h.objs.size).filterMap λa=>if a=L\/(g.get? a).isSome=true then none else(h.get? a).map λo=>(a,o)
def Z0(g h:Heap)(L d:Addr):List (Addr×Obj):=(bVQ g h L).filter λp=>decide (p.1≠d)
end L2
namespace L2
open PySem PySem.Spec PyProof.Rows
structure Mod(K:cXc)(mg:Str->Option cXb)(base:Heap):Prop where
 kin:K.In base
 glob:base.Ns cXK mg
 blt:∃mb,base.Ns builtinsNs mb/\∀x:Str,x≠Ae->mb x=cXV x
 nolimit:base.NoLimit
structure Cx where
 prog:cXB
 w:cXN
 K:cXc
 mg:Str->Option cXb
 base:Heap
 A:cX8
 N:List Str
 s₀:cXd
 H₀:Hp
 env:Env
 outer:List Env
 stack:List Env
 ex:List Addr
 fn:Str->Bool
 calm:Bool
 pn:List (Addr×Obj)
 xe:cXb->cXd->Prop
def frs(l:List Env):List Addr:=l.filterMap (·.frame)
abbrev Cx.fs(X:Cx):List Addr:=frs X.outer
def Vis(a:Scope)(x:Str):Prop:=a.names.lookup x=some .local\/a.names.lookup x=some .cell\/a.names.lookup x=some .free
def Loc(a:Scope)(x:Str):Prop:=a.names.lookup x=some .local\/a.names.lookup x=some .cell
def cQP(env:Env)(h:Heap)(m:Str->Option cXb)(x:Str)(u:cXb):Prop:=
 (env.kindOf x=some .local/\m x=some u)\/((env.kindOf x=some .cell\/env.kindOf x=some .free)/\∃c,env.cells.lookup x=some c/\h.IsCell c (some u))
structure Cx.Ok(X:Cx):Prop where
 mod:Mod X.K X.mg X.base
 kind:X.env.scope.kind= .function
 glob:X.env.globals=cXK
 blt:X.env.builtins=builtinsNs
 above:X.s₀.heap.objs.size<=X.env.locals
 inj:∀x y c,X.env.cells.lookup x=some c->X.env.cells.lookup y=some c->x=y
 has:∀x,(X.env.kindOf x=some .cell\/X.env.kindOf x=some .free)->∃c,X.env.cells.lookup x=some c
 cab:∀x c,X.fn x=true->X.env.cells.lookup x=some c->X.s₀.heap.objs.size<=c
 hd:X.calm=true->X.A.handled=none
 frames:X.A.frames=some X.stack
 stk:X.stack=X.outer\/(X.stack=X.env::X.outer/\X.env.frame=some X.env.locals)
 exf:∀b∈X.ex,b≠X.env.locals/\∀x c,X.env.cells.lookup x=some c->c≠b
 bs:∀b o,X.base.get? b=some o->X.s₀.heap.get? b=some o/\X.H₀ b=none
 bsz:X.base.objs.size<=X.s₀.heap.objs.size
 noex:∀b o,X.base.get? b=some o->b∉X.ex
 exfs:∀b∈X.ex,b∉X.fs
 funs:X.s₀.heap.FunFrames X.base X.outer
 frf:∀b∈X.fs,X.H₀ b=none
structure Inv(X:Cx)(pins:List (Addr×Obj))(σ:List (Option V))(H:Hp)(s:cXd):Prop where
 ok:X.Ok
 os:s.os=X.s₀.os
 bare:AllBare s.gens
 base:Un X.fs X.ex X.H₀ H X.s₀.heap s.heap
 loc:∃m,s.heap.Ns X.env.locals m/\∀ (i:Nat)(x:Str)(v:V),X.N[i]? =some x->σ[i]? =some (some v)->Vis X.env.scope x->∃u,wG v u/\cQP X.env s.heap m x u
 cell:∀x c,X.env.cells.lookup x=some c->∃v,s.heap.IsCell c v
 free:H X.env.locals=none
 freeC:∀x c,X.env.cells.lookup x=some c->H c=none
 pin:∀p∈X.pn++pins,s.heap.get? p.1=some p.2/\H p.1=none/\p.1≠X.env.locals/\p.1∉X.fs/\∀v,p.2.data≠ .cell v
 hok:HOk X.prog X.w H s.heap
 len:σ.length=X.N.length
section
variable {X:Cx}{pins:List (Addr×Obj)}{σ:List (Option V)}{H H':Hp}{s:cXd}{h':Heap}
def Cx.Ok.nofr(ok:X.Ok)(e:X.base.get? b=some o):b∉X.fs:=λa=>by
 have:=(ok.funs.mem a).1;rw[e]at this;cases this
def Inv.bs(I:Inv X pins σ H s):∀b o,X.base.get? b=some o->s.heap.get? b=some o/\H b=none:=λb o e=>
 ⟨I.base.keep b o (I.ok.bs b o e).1 (I.ok.bs b o e).2 (I.ok.nofr e) (I.ok.noex b o e),I.base.free b o (I.ok.bs b o e).1 (I.ok.bs b o e).2 (I.ok.noex b o e)⟩
def Inv.bk(I:Inv X pins σ H s):∀b o,X.base.get? b=some o->s.heap.get? b=some o:=λb o e=>(I.bs b o e).1
def Inv.mod(I:Inv X pins σ H s):Mod X.K X.mg X.base:=I.ok.mod
def Inv.kIn(I:Inv X pins σ H s):X.K.In s.heap:=I.ok.mod.kin.keeps I.bk
def Inv.nolimit(I:Inv X pins σ H s):s.heap.NoLimit:=I.ok.mod.nolimit.keeps I.bk
def Inv.lt(I:Inv X pins σ H s):X.env.locals<s.heap.objs.size:=let ⟨_,hn,_⟩:=I.loc;hn.lt
def Inv.sz(I:Inv X pins σ H s):X.s₀.heap.objs.size<=s.heap.objs.size:=cXJ I.ok.above (cJW I.lt)
def Inv.nofs(I:Inv X pins σ H s)(h:s.heap.objs.size<=a):a∉X.fs:=λc=>by
 obtain⟨_,o,b,_⟩:=I.ok.funs.mem c;exact absurd (cXE (cXq b) (cXJ I.sz h)) (cZk _)
def Inv.cne(I:Inv X pins σ H s):∀x c,X.env.cells.lookup x=some c->c≠X.env.locals:=λx c e z=>by
 obtain⟨v,o,d,f⟩:=I.cell x c e;obtain⟨m,⟨o',es,g,b,a,_⟩,_⟩:=I.loc;rw[z,b]at d;cases d;rw[a]at f;cases f
def Inv.funs(I:Inv X pins σ H s):s.heap.FunFrames X.base X.outer:=by
 have all:∀ (l:List Env),(∀b∈frs l,b∈X.fs)->X.s₀.heap.FunFrames X.base l->s.heap.FunFrames X.base l:=by
  intro l;induction l with
  |nil=>intro _ _;trivial
  |cons env r j=>intro f hl;obtain⟨g,⟨L,o,c,m,h,i⟩,k⟩:=hl;have a:L∈X.fs:=f L (by unfold frs;rw[cJ0,c];exact cXp);obtain⟨n,e⟩:=I.base.slot L o h (I.ok.frf L a) a λz=>I.ok.exfs L z a;exact⟨g,⟨L,_,c,m,e,i⟩,j (λb d=>f b (by unfold frs;rw[cJ0,c];exact cXl _ d)) k⟩
 exact all X.outer (λ_ d=>d) I.ok.funs
def Inv.stack(I:Inv X pins σ H s):s.heap.FunFrames X.base X.stack:=by
 rcases I.ok.stk with e|⟨e,a⟩
 ·rw[e];exact I.funs
 ·rw[e];obtain⟨m,b,_⟩:=I.loc;refine .cons (by rw[I.ok.kind];decide) a b ?_ I.funs;exact Heap.get?_none_of_le (cXJ I.ok.bsz I.ok.above)
def Inv.stkSub(I:Inv X pins σ H s):∀b∈frs X.stack,b∈X.env.locals::X.fs:=λb a=>by
 rcases I.ok.stk with e|⟨e,c⟩
 ·rw[e]at a;exact cXl _ a
 ·rw[e]at a;unfold frs at a;rw[cJ0,c]at a;exact a
def Inv.stkFree(I:Inv X pins σ H s):∀b∈frs X.stack,H b=none:=λb a=>by
 rcases cXj.mp (I.stkSub b a)with e|a
 ·rw[e];exact I.free
 ·obtain⟨_,o,c,_⟩:=I.ok.funs.mem a;exact I.base.free b o c (I.ok.frf b a) λz=>I.ok.exfs b z a
def Inv.step{g':Array GenState}{t':Nat}{d':Drawn}{ch:List Addr}(I:Inv X pins σ H s) (j:∀b∈ch,(b∈X.ex\/X.s₀.heap.objs.size<=b)/\b≠X.env.locals/\(∀x c,X.env.cells.lookup x=some c->c≠b)/\∀p∈X.pn++pins,p.1≠b) (keep:∀b o,b≠X.env.locals->b∉X.fs->b∉ch->s.heap.get? b=some o->H b=none->h'.get? b=some o) (A:∀b o,b≠X.env.locals->b∈X.fs->b∉ch->s.heap.get? b=some o->H b=none->∃N,h'.get? b=some {o with slots:=N}) (f:∀b o,b∉ch->s.heap.get? b=some o->H b=none->H' b=none) (there:∀b o,b∉ch->s.heap.get? b=some o->∃o',h'.get? b=some o') (G:∀b xs,H b=some (.tup xs)->H' b=some (.tup xs)) (D:∀b o u,H b=some (.frz o u)->H' b=some (.frz o u)) (J:∀b ps,H b=some (.tbl ps)->∃more,H' b=some (.tbl (ps++more))) (R:∀m,s.heap.Ns X.env.locals m->h'.Ns X.env.locals m) (M:HOk X.prog X.w H' h') (S:AllBare g'): Inv X pins σ H' {s with heap:=h',gens:=g',drawn:=d',toks:=t'}:=by
 have E:∀b o,X.s₀.heap.get? b=some o->b≠X.env.locals:=λb o e=>cXx (cXE (cXq e) I.ok.above);have y:∀b o,X.s₀.heap.get? b=some o->b∉X.ex->b∉ch:=λb o e a B=>by
  rcases(j b B).1 with z|z
  ·exact a z
  ·exact absurd (cXE (cXq e) z) (cZk _)
 have g:∀x c,X.env.cells.lookup x=some c->∀v,s.heap.IsCell c v->h'.IsCell c v:=λx c e v ⟨o,C,K⟩=>by
  have h:c∉ch:=λz=>(j c z).2.2.1 x c e rfl;by_cases O:c∈X.fs
  ·obtain⟨N,q⟩:=A c o (I.cne x c e) O h C (I.freeC x c e);exact⟨_,q,K⟩
  ·exact⟨o,keep c o (I.cne x c e) O h C (I.freeC x c e),K⟩
 refine⟨I.ok,I.os,S,⟨λb o e n B a=>?_,λb o e n B a=>?_,λb o e n a=>?_,λb o e a=>?_,λb xs e=>G b xs (I.base.tups b xs e),λb o xs e=>D b o xs (I.base.frzs b o xs e),λb ps e=>?_⟩,?_,λx c e=>?_,?_,λx c e=>?_,λp Q=>?_,M,I.len⟩
 ·exact keep b o (E b o e) B (y b o e a) (I.base.keep b o e n B a) (I.base.free b o e n a)
 ·obtain⟨N,t⟩:=I.base.slot b o e n B a;obtain⟨L,F⟩:=A b _ (E b o e) B (y b o e a) t (I.base.free b o e n a);exact⟨L,F⟩
 ·obtain⟨o',t⟩:=I.base.there b o e a;exact f b o' (y b o e a) t (I.base.free b o e n a)
 ·obtain⟨o',t⟩:=I.base.there b o e a;exact there b o' (y b o e a) t
 ·obtain⟨T,t⟩:=I.base.tbls b ps e;obtain⟨W,F⟩:=J b _ t;exact⟨T++W,by rw[F,Array.append_assoc]⟩
 ·obtain⟨m,U,hl⟩:=I.loc;refine⟨m,R m U,λi x v t F V=>?_⟩;obtain⟨u,r,l⟩:=hl i x v t F V;refine⟨u,r,?_⟩;rcases l with l|⟨k,c,e,z⟩
  ·exact .inl l
  ·exact .inr ⟨k,c,e,g x c e _ z⟩
 ·obtain⟨v,z⟩:=I.cell x c e;exact⟨v,g x c e v z⟩
 ·obtain⟨m,⟨o,_,_,C,_⟩,_⟩:=I.loc;exact f _ o (λz=>(j _ z).2.1 rfl) C I.free
 ·obtain⟨v,o,C,K⟩:=I.cell x c e;exact f c o (λz=>(j c z).2.2.1 x c e rfl) C (I.freeC x c e)
 ·obtain⟨e,n,ne,P,d⟩:=I.pin p Q;have h:p.1∉ch:=λz=>(j p.1 z).2.2.2 p Q rfl;exact⟨keep p.1 p.2 ne P h e n,f p.1 p.2 h e n,ne,P,d⟩
def Inv.un{t':Nat}(I:Inv X pins σ H s)(u:Un X.fs [] H H' s.heap h')(g:HOk X.prog X.w H' h'):Inv X pins σ H' {s with heap:=h',toks:=t'}:=by
 obtain⟨m,⟨o,es,p,h,r⟩,_⟩:=id I.loc;obtain⟨q,i⟩:=u.any h I.free (by simp);exact I.step (g':=s.gens) (d':=s.drawn) (ch:= []) (λ_ z=>nomatch z) (λb o _ d _ e n=>u.keep b o e n d (by simp)) (λb o _ d _ e n=>u.slot b o e n d (by simp)) (λb o _ e n=>u.free b o e n (by simp)) (λb o _ e=>u.there b o e (by simp)) u.tups u.frzs u.tbls (λl k=>by
  obtain⟨o',c,f,a,j⟩:=k;rw[h]at a;cases a;exact⟨_,c,f,i,j⟩) g I.bare
def Inv.call{g':Array GenState}{t':Nat}{d':Drawn}{ch:List Addr}(I:Inv X pins σ H s)(u:Un (frs X.stack) ch H H' s.heap h')(j:HOk X.prog X.w H' h')(l:AllBare g') (d:∀b∈ch,(b∈X.ex\/X.s₀.heap.objs.size<=b)/\b≠X.env.locals/\(∀x c,X.env.cells.lookup x=some c->c≠b)/\∀p∈X.pn++pins,p.1≠b): Inv X pins σ H' {s with heap:=h',gens:=g',drawn:=d',toks:=t'}:=by
 obtain⟨m,⟨o,es,A,k,r⟩,_⟩:=id I.loc;obtain⟨B,h⟩:=u.any k I.free λz=>(d _ z).2.1 rfl;exact I.step (ch:=ch) d (λb o h v a e n=>u.keep b o e n (λz=>(cXj.mp (I.stkSub b z)).elim h v) a) (λb o _ _ a e n=>u.any e n a) (λb o a e n=>u.free b o e n a) (λb o a e=>u.there b o e a) u.tups u.frzs u.tbls (λy t=>by
  obtain⟨o',g,i,f,q⟩:=t;rw[k]at f;cases f;exact⟨_,g,i,h,q⟩) j l
def Inv.turned{t':Nat}{it:Addr}(I:Inv X pins σ H s)(k:∀b o,b≠it->s.heap.get? b=some o->h'.get? b=some o)(i:H it=none)(f:it≠X.env.locals) (h1:it∈X.ex\/X.s₀.heap.objs.size<=it) (h2:∀x c,X.env.cells.lookup x=some c->c≠it) (h:∀p∈X.pn++pins,p.1≠it):Inv X pins σ H {s with heap:=h',toks:=t'}:=by
 have d:∀b u,H b=some u->b≠it:=λb u e z=>by rw[z,i]at e;cases e
 refine I.step (g':=s.gens) (d':=s.drawn) (ch:= [it]) (λb t=>?_) (λb o _ _ a e _=>k b o (λz=>a (by simp[z])) e) (λb o _ _ a e _=>⟨o.slots,k b o (λz=>a (by simp[z])) e⟩) (λ_ _ _ _ n=>n)
  (λb o a e=>⟨o,k b o (λz=>a (by simp[z])) e⟩) (λ_ _ e=>e) (λ_ _ _ e=>e) (λb ps e=>⟨#[],by rw[e];simp⟩) (λm j=>?_) (λb u e=>?_) I.bare
 ·have e:b=it:=by simpa using t
  subst e;exact⟨h1,f,h2,h⟩
 ·obtain⟨o,es,l,g,r⟩:=j;exact⟨o,es,l,k _ o (cXT f) g,r⟩
 ·refine(I.hok b u e).stay (λc v a q=>k c v ?_ q) (λ_ q=>q) λ_ _ q=>q;rcases a with z|z
  ·rw[z];exact d b u e
  ·exact d c _ z
def Inv.tok(I:Inv X pins σ H s)(t:Nat):Inv X pins σ H {s with toks:=t}:=I.un (h':=s.heap) (t':=t) Un.refl I.hok
def Inv.kept(I:Inv X pins σ H s)(k:∀b u,s.heap.get? b=some u->h'.get? b=some u):Inv X pins σ H {s with heap:=h',toks:=t'}:=I.un (Un.kept k) (I.hok.kept k)
def Inv.laid(I:Inv X pins σ H s)(k:∀b u,s.heap.get? b=some u->h'.get? b=some u)(d:s.heap.objs.size<=a)(c:zT X.prog X.w (upd H a o) h' a o):
  Inv X pins σ (upd H a o) {s with heap:=h',toks:=t'}:=I.un (Un.laid k d (I.hok.fresh d)) (I.hok.laid k d c)
def Inv.write(I:Inv X pins σ H s)(f:Mut (H x))(d:e=x\/H e=some (.own x))(k:∀b u,b≠e->s.heap.get? b=some u->h'.get? b=some u)(a:∃u,h'.get? e=some u)
  (c:zT X.prog X.w (upd H x o) h' x o):Inv X pins σ (upd H x o) {s with heap:=h',toks:=t'}:=I.un (Un.write f d k a) (I.hok.write f d k a c)
def Inv.pins_of(I:Inv X pins σ H s)(h:∀p∈a,s.heap.get? p.1=some p.2/\H p.1=none/\p.1≠X.env.locals/\p.1∉X.fs/\∀v,p.2.data≠ .cell v):Inv X a σ H s:=
 ⟨I.ok,I.os,I.bare,I.base,I.loc,I.cell,I.free,I.freeC,λp b=>(cXH.mp b).elim (λz=>I.pin p (cZY _ z)) (h p),I.hok,I.len⟩
def aWt{N:List Str}(d:N.Nodup){i j:Nat}{x:Str}(a:N[i]? =some x)(b:N[j]? =some x):i=j:=by
 obtain⟨h1,e⟩:=cXn.mp a;obtain⟨h2,c⟩:=cXn.mp b;exact(cZ5 d).mp (e.trans c.symm)
def aXO{M:Model}{A:cX8}{E:cXb->cXd->Prop}{i:Nat}{x:Str}{v:V}{u:cXb}{Q:Unit->cXd->Prop}(I:Inv X pins σ H s)(hN:X.N.Nodup)(hi:X.N[i]? =some x)(B:Loc X.env.scope x)(r:wG v u) (h:∀s',Inv X pins (σ.set i (some v)) H s'->(∃a,cJf a s.heap s'.heap/\(a=X.env.locals\/X.env.cells.lookup x=some a))->Q () s') (hf:X.fn x=true\/X.env.scope.names.lookup x=some .local:=by first|exact .inl rfl|exact .inr rfl|assumption):cXi M A (storeName X.env x u) Q E s:=by
 obtain⟨m,Y,hl⟩:=id I.loc;have R:(X.env.scope.kind== .class || (X.env.scope.kind== .module && X.env.locals !=X.env.globals))=false:=by rw[I.ok.kind];rfl
 have hiσ:i<σ.length:=by rw[I.len];exact(cXn.mp hi).1
 have cne:=I.cne;have l:∀ {a:Addr} {h':Heap},(∃o,s.heap.get? a=some o/\H a=none)->cJf a s.heap h'->HOk X.prog X.w H h':=λ{a h'} ha f b ob e=>by
  obtain⟨_,_,C⟩:=ha;refine(I.hok b ob e).stay (λc T t q=>(f.2 c ?_).trans q) (λ_ q=>q) λ_ _ q=>q;rintro rfl;rcases t with rfl|t
  ·rw[C]at e;cases e
  ·rw[C]at t;cases t
 rcases B with F|F
 ·refine wpAny_storeName_local F Y (λh' a1 f=>?_) R;obtain⟨oL,_,_,a0,_⟩:=id Y;refine h _ ⟨I.ok,I.os,I.bare,⟨λb o e n J B=>?_,λb o e n J B=>?_,I.base.free,λb o e B=>?_,I.base.tups,I.base.frzs,I.base.tbls⟩,⟨_,a1,λj y v' g D Z=>?_⟩,λy c e=>?_,I.free,I.freeC,λp hp=>?_,l ⟨oL,a0,I.free⟩ f,by simpa using I.len⟩ ⟨_,f,.inl rfl⟩
  ·exact(f.2 b (cXx (cXE (cXq e) I.ok.above))).trans (I.base.keep b o e n J B)
  ·obtain⟨sl,g⟩:=I.base.slot b o e n J B;exact⟨sl,(f.2 b (cXx (cXE (cXq e) I.ok.above))).trans g⟩
  ·obtain⟨o',g⟩:=I.base.there b o e B;exact⟨o',(f.2 b (cXx (cXE (cXq e) I.ok.above))).trans g⟩
  ·by_cases K:j=i
   ·subst K;rw[hi]at g;cases g;rw[cJw hiσ]at D;cases D;exact⟨u,r,.inl ⟨F,by simp⟩⟩
   ·rw[cVu (cXT K)]at D;obtain⟨u',W,q⟩:=hl j y v' g D Z;refine⟨u',W,?_⟩;rcases q with⟨k,e⟩|⟨k,c,e,z⟩
    ·refine .inl ⟨k,?_⟩;have:y≠x:=λe=>K (aWt hN g (e ▸ hi));simp[this,e]
    ·exact .inr ⟨k,c,e,z.sameBut f (cne y c e)⟩
  ·obtain⟨T,z⟩:=I.cell y c e;exact⟨T,z.sameBut f (cne y c e)⟩
  ·obtain⟨e,n,ne,nf,d⟩:=I.pin p hp;exact⟨(f.2 p.1 ne).trans e,n,ne,nf,d⟩
 ·have G:X.fn x=true:=by
   rcases hf with z|z
   ·exact z
   ·rw[z]at F;cases F
  obtain⟨c,t⟩:=I.ok.has x (.inl F);obtain⟨T,z⟩:=I.cell x c t;refine wpAny_storeName_cell I.ok.kind F t z (λh' S f=>?_);obtain⟨oc,L,P⟩:=id z;refine h {s with heap:=h'} ⟨I.ok,I.os,I.bare,⟨λb o e n J B=>?_,λb o e n J B=>?_,I.base.free,λb o e B=>?_,I.base.tups,I.base.frzs,I.base.tbls⟩,⟨m,Y.sameBut f (cXT (cne x c t)),λj y v' g D Z=>?_⟩,λy U e=>?_,I.free,I.freeC,λp hp=>?_,l ⟨oc,L,I.freeC x c t⟩ f,by simpa using I.len⟩ ⟨c,f,.inr t⟩
  ·exact(f.2 b (cXx (cXE (cXq e) (I.ok.cab x c G t)))).trans (I.base.keep b o e n J B)
  ·obtain⟨sl,g⟩:=I.base.slot b o e n J B;exact⟨sl,(f.2 b (cXx (cXE (cXq e) (I.ok.cab x c G t)))).trans g⟩
  ·obtain⟨o',g⟩:=I.base.there b o e B;exact⟨o',(f.2 b (cXx (cXE (cXq e) (I.ok.cab x c G t)))).trans g⟩
  ·by_cases K:j=i
   ·subst K;rw[hi]at g;cases g;rw[cJw hiσ]at D;cases D;exact⟨u,r,.inr ⟨.inl F,c,t,S⟩⟩
   ·rw[cVu (cXT K)]at D;obtain⟨u',W,q⟩:=hl j y v' g D Z;refine⟨u',W,?_⟩;rcases q with q|⟨k,U,e,z'⟩
    ·exact .inl q
    ·refine .inr ⟨k,U,e,z'.sameBut f ?_⟩;rintro rfl;exact K (aWt hN g (I.ok.inj _ _ _ e t ▸ hi))
  ·by_cases O:U=c
   ·subst O;exact⟨_,S⟩
   ·obtain⟨w2,z2⟩:=I.cell y U e;exact⟨w2,z2.sameBut f O⟩
  ·obtain⟨e,n,ne,nf,d⟩:=I.pin p hp;refine⟨(f.2 p.1 ?_).trans e,n,ne,nf,d⟩;intro q;rw[q,L]at e;have q':oc=p.2:=cXv e;exact d T (by rw[<- q'];exact P)
def aW1{E:cXb->cXd->Prop}{Q:Unit->cXd->Prop}(I:Inv X pins σ H s)(d:X.N.Nodup)(hi:X.N[i]? =some x)(a:Loc X.env.scope x)(r:wG v u) (h:∀s',Inv X pins (σ.set i (some v)) H s'->Q () s') (b:X.fn x=true\/X.env.scope.names.lookup x=some .local:=by first|exact .inl rfl|exact .inr rfl|assumption):cXi M A (storeName X.env x u) Q E s:=
 aXO I d hi a r (λs' c _=>h s' c) b
def Inv.call'(I:Inv X pins σ H s)(i:s'.os=s.os)(u:Un (frs X.stack) ch H H' s.heap s'.heap)(d:HOk X.prog X.w H' s'.heap)(j:AllBare s'.gens) (a:∀b∈ch,(b∈X.ex\/X.s₀.heap.objs.size<=b)/\b≠X.env.locals/\(∀x c,X.env.cells.lookup x=some c->c≠b)/\∀p∈X.pn++pins,p.1≠b):Inv X pins σ H' s':=by
 obtain⟨h',g,f,h,o'⟩:=s';have e:o'=s.os:=i;subst e;exact I.call (g':=g) (t':=h) (d':=f) u d j a
end
abbrev XK:=cXb->Option Addr->Hp->Prop
abbrev St:=List (Option V)
abbrev VK:=V->Hp->Prop
abbrev TE:=St->Hp->VK->Prop
abbrev TT:=St->Hp->(Bool->Hp->Prop)->Prop
abbrev TA:=St->Hp->(List V->Hp->Prop)->Prop
structure bX3 where
 nx:St->Hp->Prop
 rt:VK
 bk:St->Hp->Prop:=λ_ _=>False
 ct:St->Hp->Prop:=λ_ _=>False
abbrev TS:=bX3->St->Hp->Prop
inductive EP(X:Cx)(pins:List (Addr×Obj))(σ:St)(Q:VK)(u:cXb)(s':cXd):Prop|mk(v H')(h:Inv X pins σ H' s')(h:wG v u)(h:Q v H')
def TP(X:Cx)(pins:List (Addr×Obj))(σ:St)(Q:Bool->Hp->Prop)(b:Bool)(s':cXd):Prop:=∃H',Inv X pins σ H' s'/\Q b H'
inductive AP(X:Cx)(pins:List (Addr×Obj))(σ:St)(Q:List V->Hp->Prop)(us:List cXb)(s':cXd):Prop|mk(vs H')(h:Inv X pins σ H' s')(h:zD vs us)(h:Q vs H')
inductive NxP(X:Cx)(pins:List (Addr×Obj))(s':cXd)(N:St->Hp->Prop):Prop|mk(σ' H')(h:Inv X pins σ' H' s')(h:N σ' H')
inductive RtP(X:Cx)(pins:List (Addr×Obj))(s':cXd)(N:VK)(u:cXb):Prop|mk(v σ' H')(h:Inv X pins σ' H' s')(h:wG v u)(h:N v H')
def SP(X:Cx)(pins:List (Addr×Obj))(D:bX3)(f:Flow)(s':cXd):Prop:=
 match f with
 |.next=>NxP X pins s' D.nx
 |.brk=>NxP X pins s' D.bk
 |.cont=>NxP X pins s' D.ct
 |.ret u=>RtP X pins s' D.rt u
def PE(X:Cx)(e:Expr)(t:TE):Prop:=
 ∀ (pins:List (Addr×Obj))(s:cXd)(σ:St)(H:Hp)(Q:VK),Inv X pins σ H s->t σ H Q->cXi (cXk X.prog X.w) X.A (eval e X.env) (EP X pins σ Q) X.xe s
def PT(X:Cx)(e:Expr)(t:TT):Prop:=
 ∀ (pins:List (Addr×Obj))(s:cXd)(σ:St)(H:Hp)(Q:Bool->Hp->Prop),Inv X pins σ H s->t σ H Q->cXi (cXk X.prog X.w) X.A (isTrue e X.env (eval e X.env)) (TP X pins σ Q) X.xe s
def PW(X:Cx)(e:Expr)(t:TT):Prop:=
 ∀ (a:Sem cXb)(pins:List (Addr×Obj))(s:cXd)(σ:St)(H:Hp)(Q:Bool->Hp->Prop),Inv X pins σ H s->t σ H Q->cXi (cXk X.prog X.w) X.A (isTrue e X.env a) (TP X pins σ Q) X.xe s
def PW.pt{t:TT}(h:PW X e t):PT X e t:=h _
def PA(X:Cx)(es:List Expr)(t:TA):Prop:=
 ∀ (pos:Pos)(pins:List (Addr×Obj))(s:cXd)(σ:St)(H:Hp)(Q:List V->Hp->Prop),Inv X pins σ H s->t σ H Q->cXi (cXk X.prog X.w) X.A (spliced (cZW pos (cXR es X.env))) (AP X pins σ Q) X.xe s
def PS(X:Cx)(st:Stmt)(t:TS):Prop:=
 ∀ (pins:List (Addr×Obj))(s:cXd)(σ:St)(H:Hp)(D:bX3),Inv X pins σ H s->t D σ H->cXi (cXk X.prog X.w) X.A (exec st X.env) (SP X pins D) X.xe s
def PSs(X:Cx)(st:List Stmt)(t:TS):Prop:=
 ∀ (pins:List (Addr×Obj))(s:cXd)(σ:St)(H:Hp)(D:bX3),Inv X pins σ H s->t D σ H->cXi (cXk X.prog X.w) X.A (execs st X.env) (SP X pins D) X.xe s
def thn{α:Type}{t:Sem α}{Q b:α->cXd->Prop}{E:cXb->cXd->Prop}(h:cXi M A t Q E s)(c:∀a s,Q a s->b a s):cXi M A t b E s:=cZh h c λ_ _ x=>x
end L2
namespace L2
open PySem PySem.Spec PyProof.Rows
section
variable {X:Cx}
def bin(i:PE X a ta)(j:PE X b tb){R:V->V->Hp->Prop}(I:Inv X pins σ H s)(h:ta σ H λx H1=>tb σ H1 λy H2=>R x y H2) {α:Type} {Q:α->cXd->Prop} {f:cXb->cXb->Sem α} (g:∀v u e x y H2,Inv X pins σ H2 e->wG x v->wG y u->R x y H2->cXi (cXk X.prog X.w) X.A (f v u) Q X.xe e): cXi (cXk X.prog X.w) X.A (eval a X.env) (λv c=>cXi (cXk X.prog X.w) X.A (eval b X.env) (λu d=>cXi (cXk X.prog X.w) X.A (f v u) Q X.xe d) X.xe c) X.xe s:=by
 refine thn (i pins s σ H _ I h) λv s1 ⟨x,H1,I1,r1,q1⟩=>?_;refine thn (j pins s1 σ H1 _ I1 q1) λu e ⟨y,H2,I2,r2,q2⟩=>?_;exact g v u e x y H2 I2 r1 r2 q2
inductive bKr(i:Nat)(σ:St)(H:Hp)(Q:VK):Prop|mk(v)(h:σ[i]? =some (some v))(h:Q v H)
def tC(v:V):TE:=λ_ H Q=>Q v H
def bVt(j:X.N[i]? =some x)(n:Vis X.env.scope x)(d:(x==(AK:Str))=false:=by decide)(f:(x==(BA:Str))=false:=by decide):PE X (.Name x pos) (bKr i):=by
 intro pins s σ H Q I h;obtain⟨v,e,h⟩:=h;obtain⟨m,k,hl⟩:=I.loc;obtain⟨u,r,l⟩:=hl i x v j e n;have fin:EP X pins σ Q u s:=⟨v,H,I,r,h⟩;rcases l with⟨b,o⟩|⟨b,c,g,a⟩
 ·exact wpAny_Name (wpAny_loadName_local I.ok.kind b k o fin) d
 ·rcases b with b|b
  ·exact wpAny_Name (wpAny_loadName_cell I.ok.kind b g a fin) d
  ·exact wpAny_Name (wpAny_loadName_free I.ok.kind b g a fin f) d
def yG{i j pos}:PE X (.Constant (.int i) j pos) (tC (.int i)):=λ_ _ _ H _ I h=>wpAny_Constant_int ⟨.int i,H,I.tok _,⟨_,rfl⟩,h⟩
def vQ{b j pos}:PE X (.Constant (.bool b) j pos) (tC (.bl b)):=λ_ _ _ H _ I h=>Constant_bool ⟨.bl b,H,I,Ce,h⟩
def zN{j pos}:PE X (.Constant .none j pos) (tC .non):=λ_ _ _ H _ I h=>Constant_none ⟨.non,H,I,Ce,h⟩
def yQ{x j pos}:PE X (.Constant (.str x) j pos) (tC (.str x)):=λ_ _ _ H _ I h=>Calls.Constant_str ⟨.str x,H,I.tok _,⟨_,rfl⟩,h⟩
def Gl(X:Cx)(x:Str):Prop:=X.env.kindOf x=some .globalImplicit
def jM{E:cXb->cXd->Prop}{Q:cXb->cXd->Prop}(I:Inv X pins σ H s)(b:Gl X x)(a:X.mg x=some u)(h:Q u s) (c:(x==(AK:Str))=false:=by decide):cXi (cXk X.prog X.w) X.A (eval (.Name x pos) X.env) Q E s:=
 cWB I.ok.kind b (Calls.loadGlobal_global (by rw[I.ok.glob];exact I.mod.glob.keeps I.bk) a h) c
def aX8{E:cXb->cXd->Prop}{Q:cXb->cXd->Prop}(I:Inv X pins σ H s)(a:Gl X x)(e:X.mg x=none)(d:cXV x=some u)(h:Q u s) (c:x≠Ae:=by decide) (b:(x==(AK:Str))=false:=by decide):cXi (cXk X.prog X.w) X.A (eval (.Name x pos) X.env) Q E s:=by
 obtain⟨f,h1,h2⟩:=I.mod.blt;exact cWB I.ok.kind a (Calls.loadGlobal_builtin (by rw[I.ok.glob];exact I.mod.glob.keeps I.bk) e (by rw[I.ok.blt];exact h1.keeps I.bk) ((h2 x c).trans d) h) b
def jO(b:Gl X x)(a:X.mg x=some u)(r:wG v u)(c:(x==(AK:Str))=false:=by decide):PE X (.Name x pos) (tC v):=
 λ_ _ _ H _ I h=>jM I b a ⟨v,H,I,r,h⟩ c
def xX(d:Gl X x)(b:X.mg x=none)(a:cXV x=some u)(r:wG v u)(c:x≠Ae:=by decide)(e:(x==(AK:Str))=false:=by decide):PE X (.Name x pos) (tC v):=
 λ_ _ _ H _ I h=>aX8 I d b a ⟨v,H,I,r,h⟩ c e
variable {a b:Expr}{ta tb:TE}{pos:Pos}
def PC(X:Cx)(op:CmpOp)(a b:Expr)(t:TE):Prop:=
 ∀ (pins:List (Addr×Obj))(s:cXd)(σ:St)(H:Hp)(Q:VK),Inv X pins σ H s->t σ H Q->
  cXi (cXk X.prog X.w) X.A (eval a X.env) (λv c=>cXi (cXk X.prog X.w) X.A (eval b X.env) (λu d=>cXi (cXk X.prog X.w) X.A (cZN op v u) (EP X pins σ Q) X.xe d) X.xe c) X.xe s
def bZL(b:Expr)(h:op≠ .In)(h2:op≠ .NotIn):cJ5 op b=false:=by
 have c:(op==CmpOp.In)=false:=by cases op<;> first|rfl|exact absurd rfl h
 have a:(op==CmpOp.NotIn)=false:=by cases op<;> first|rfl|exact absurd rfl h2
 cases b<;> simp[cJ5,c,a]
inductive tBQ(Q:Bool->Hp->Prop)(x:V)(H1:Hp):Prop|mk(c)(h:x= .bl c)(h:Q c H1)
def tB(t:TE):TT:=λσ H Q=>t σ H λx H1=>tBQ Q x H1
def bYk{t:TE}(h:PC X op a b t)(h1:cJ5 op b=false:=by first|exact bZL _ (by decide) (by decide)|rfl):PT X (.Compare a [op] [b] pos) (tB t):=by
 intro pins s σ H Q I hw;refine wpAny_isTrue_Compare1 (thn (h pins s σ H _ I hw) λv f h1=>thn h1 λu e h2=>thn h2 λc s3 ⟨x,H1,I1,r1,q1⟩=>?_) h1;obtain⟨d,rfl,q⟩:=q1;cases r1;exact cJd ⟨H1,I1,q⟩
def zA{t:TE}(h:PE X e t)(b:∀a,isTrue e X.env a=(do let v <- a;standAt e.pos;cVE [v] (truthy v)):=by intro _;rfl):PT X e (tB t):=by
 intro pins s σ H Q I hw;refine isTrue_plain (thn (h pins s σ H _ I hw) λv s1 ⟨x,H1,I1,r1,q1⟩=>?_) (b _);obtain⟨d,rfl,q⟩:=q1;cases r1;exact cJd ⟨H1,I1,q⟩
variable {tA tB':TT}{Z0:List Expr}
def cQ2(t u:TT):TT:=λσ H Q=>t σ H λc H1=>if c=true then u σ H1 Q else Q false H1
def tOr(t u:TT):TT:=λσ H Q=>t σ H λc H1=>if c=true then Q true H1 else u σ H1 Q
def cQ6(t:TT):TT:=λσ H Q=>t σ H λc H1=>Q (!c) H1
def uH(b:PT X a tA):PW X (.BoolOp .And [a] pos) tA:=by
 intro f pins s σ H Q I h;refine isTrue_and (thn (b pins s σ H Q I h) λc d e=>?_);cases c with
 |true=>exact isTrue_and_nil e
 |false=>exact e
def uS(b:PT X a tA):PW X (.BoolOp .Or [a] pos) tA:=by
 intro f pins s σ H Q I h;refine isTrue_or (thn (b pins s σ H Q I h) λc d e=>?_);cases c with
 |false=>exact isTrue_or_nil e
 |true=>exact e
def jF(d:PT X a tA)(f:PW X (.BoolOp .And (b::Z0) pos) tB'):PW X (.BoolOp .And (a::b::Z0) pos) (cQ2 tA tB'):=by
 intro e pins s σ H Q I h;refine isTrue_and (thn (d pins s σ H _ I h) λc s1 ⟨H1,I1,q1⟩=>?_);cases c with
 |true=>exact f e pins s1 σ H1 Q I1 q1
 |false=>exact⟨H1,I1,q1⟩
def Y7(d:PT X a tA)(f:PW X (.BoolOp .Or (b::Z0) pos) tB'):PW X (.BoolOp .Or (a::b::Z0) pos) (tOr tA tB'):=by
 intro e pins s σ H Q I h;refine isTrue_or (thn (d pins s σ H _ I h) λc s1 ⟨H1,I1,q1⟩=>?_);cases c with
 |true=>exact⟨H1,I1,q1⟩
 |false=>exact f e pins s1 σ H1 Q I1 q1
def vI(b:PT X a tA):PT X (.UnaryOp .Not a pos) (cQ6 tA):=by
 intro pins s σ H Q I h;exact isTrue_not (b pins s σ H (λc H1=>Q (!c) H1) I h)
inductive bYE(tb:TE)(σ:St)(Q:VK)(x:V)(H1:Hp):Prop|mk(c)(h:x= .bl c)(h:if c=true then tb σ H1 Q else Q (.bl false) H1)
def cQp(ta tb:TE):TE:=λσ H Q=>ta σ H λx H1=>bYE tb σ Q x H1
inductive cQu(tb:TE)(σ:St)(Q:VK)(x:V)(H1:Hp):Prop|mk(c)(h:x= .bl c)(h:if c=true then Q (.bl true) H1 else tb σ H1 Q)
def cQ7(ta tb:TE):TE:=λσ H Q=>ta σ H λx H1=>cQu tb σ Q x H1
inductive bYI(Q:VK)(x:V)(H1:Hp):Prop|mk(c)(h:x= .bl c)(h:Q (.bl (!c)) H1)
def cQt(ta:TE):TE:=λσ H Q=>ta σ H λx H1=>bYI Q x H1
def aJH{op}{t:TE}(h:PE X a t):PE X (.BoolOp op [a] pos) t:=λpins s σ H Q I hw=>BoolOp_one (h pins s σ H Q I hw)
def aWz(e:PE X a ta)(f:PE X (.BoolOp .And (b::Z0) pos) tb):PE X (.BoolOp .And (a::b::Z0) pos) (cQp ta tb):=by
 intro pins s σ H Q I h;refine BoolOp_and (thn (e pins s σ H _ I h) λv s1 ⟨x,H1,I1,r1,d⟩=>?_);obtain⟨c,rfl,d⟩:=d;cases r1;refine cJd ?_;cases c with
 |true=>exact f pins s1 σ H1 Q I1 d
 |false=>exact⟨.bl false,H1,I1,Ce,d⟩
def bYf(e:PE X a ta)(f:PE X (.BoolOp .Or (b::Z0) pos) tb):PE X (.BoolOp .Or (a::b::Z0) pos) (cQ7 ta tb):=by
 intro pins s σ H Q I h;refine BoolOp_or (thn (e pins s σ H _ I h) λv s1 ⟨x,H1,I1,r1,d⟩=>?_);obtain⟨c,rfl,d⟩:=d;cases r1;refine cJd ?_;cases c with
 |false=>exact f pins s1 σ H1 Q I1 d
 |true=>exact⟨.bl true,H1,I1,Ce,d⟩
def bVs(d:PE X a ta):PE X (.UnaryOp .Not a pos) (cQt ta):=by
 intro pins s σ H Q I h;refine UnaryOp_ (thn (d pins s σ H _ I h) λv s1 ⟨x,H1,I1,r1,b⟩=>?_);obtain⟨c,rfl,b⟩:=b;cases r1;exact not_of (cJd ⟨.bl (!c),H1,I1,Ce,b⟩)
def tIf(t:TT)(ta tb:TE):TE:=λσ H Q=>t σ H λc H1=>if c=true then ta σ H1 Q else tb σ H1 Q
def aWA(e:PT X c tA)(f:PE X a ta)(g:PE X b tb):PE X (.IfExp c a b pos) (tIf tA ta tb):=by
 intro pins s σ H Q I h;refine wpAny_IfExp (thn (e pins s σ H _ I h) λd s1 ⟨H1,I1,q1⟩=>?_);cases d with
 |true=>exact f pins s1 σ H1 Q I1 q1
 |false=>exact g pins s1 σ H1 Q I1 q1
end
end L2
namespace L2
open PySem PySem.Spec PyProof.Rows
def SqL(K:cXc)(H:Hp)(a:Addr)(xs:List V):Prop:=
 Rd H a (.lst xs)\/
  ∃ (o:Obj)(b:Array cXb)(n:Nat),K.lookup a=some o/\o.cls= .type AC/\o.dict=none/\o.data= .seq b n/\b.size<=cXy/\zD xs b.toList
def SqT(K:cXc)(H:Hp)(a:Addr)(xs:List V):Prop:=
 Rd H a (.tup xs)\/
  ∃ (o:Obj)(b:Array cXb)(n:Nat),K.lookup a=some o/\o.cls= .type AE/\o.data= .seq b n/\b.size<=cXy/\zD xs b.toList
def cQR:cXb->Option V
 |.none=>some .non
 |.bool b=>some (.bl b)
 |.int i _=>some (.int i)
 |.str x _=>some (.str x)
 |.bytes b _=>some (.byt b)
 |.float b _=>some (.flt b)
 |.ref a=>some (.ref a)
 |.type n=>some (.ty n)
 |_=>none
def wG.abs(r:wG x u):cQR u=some x:=by
 cases x with
 |non=>cases r;rfl
 |bl _=>cases r;rfl
 |int _=>obtain⟨t,rfl⟩:=r;rfl
 |str _=>obtain⟨t,rfl⟩:=r;rfl
 |byt _=>obtain⟨t,rfl⟩:=r;rfl
 |flt _=>obtain⟨t,rfl⟩:=r;rfl
 |ref _=>cases r;rfl
 |ty _=>cases r;rfl
def wG.inj(r:wG x u)(q:wG y u):x=y:=cXv (r.abs.symm.trans q.abs)
theorem zD.inj:∀ {xs ys:List V} {us:List cXb},zD xs us->zD ys us->xs=ys
 |_,_,_,.nil,.nil=>rfl
 |_,_,_,.cons r t,.cons r' t'=>by rw[r.inj r',zD.inj t t']
section
variable {X:Cx}{pins:List (Addr×Obj)}{σ:St}{H:Hp}{s:cXd}{a:Addr}{xs ys:List V}
def SqL.of{K:cXc}(h:H a=some (.lst xs)):SqL K H a xs:= .inl (.inl h)
def SqT.of{K:cXc}(h:H a=some (.tup xs)):SqT K H a xs:= .inl (.inl h)
def Inv.list(I:Inv X pins σ H s)(h:SqL X.K H a xs):∃b:List cXb,zD xs b/\PlainL s.heap a b.toArray/\xs.length<=cXy:=by
 rcases h with h|⟨o,b,n,d,f,g,c,i,r⟩
 ·obtain⟨z,b,n,r,e⟩:=h.ok I.hok;exact⟨b,r,⟨_,n,e,Ce,Ce,rfl⟩,z⟩
 ·refine⟨b.toList,r,⟨o,n,I.kIn a o d,f,g,by simpa using c⟩,?_⟩;have e:=r.length;simp only[cZw]at e;omega
def Inv.tuple(I:Inv X pins σ H s)(h:SqT X.K H a xs):∃b:List cXb,zD xs b/\cJ8 s.heap a b.toArray/\xs.length<=cXy:=by
 rcases h with h|⟨o,b,n,d,f,c,g,r⟩
 ·obtain⟨z,b,r,p⟩:=h.ok I.hok;exact⟨b,r,p,z⟩
 ·refine⟨b.toList,r,⟨o,I.kIn a o d,f,n,by simpa using c⟩,?_⟩;have e:=r.length;simp only[cZw]at e;omega
def Inv.list_inj(I:Inv X pins σ H s)(h:SqL X.K H a xs)(h':SqL X.K H a ys):xs=ys:=by
 obtain⟨c,r,⟨o,n,e,_,_,d⟩,_⟩:=I.list h;obtain⟨b,i,⟨o',j,g,_,_,f⟩,_⟩:=I.list h';rw[e]at g;cases g;rw[d]at f;injection f with d1 _;have:c=b:=by simpa using congrArg Array.toList d1
 subst this;exact r.inj i
end
abbrev Cx.wish(X:Cx)(E:cXb->cXd->Prop):Cx:={X with xe:=E}
abbrev Cx.nox(X:Cx):Cx:=X.wish λ_ _=>False
def Cx.Ok.wish{X:Cx}(ok:X.Ok)(E:cXb->cXd->Prop):(X.wish E).Ok:=
 ⟨ok.mod,ok.kind,ok.glob,ok.blt,ok.above,ok.inj,ok.has,ok.cab,ok.hd,ok.frames,ok.stk,ok.exf,ok.bs,ok.bsz,ok.noex,ok.exfs,ok.funs,ok.frf⟩
def Cx.Ok.unwish{X:Cx}{E:cXb->cXd->Prop}(ok:(X.wish E).Ok):X.Ok:=
 ⟨ok.mod,ok.kind,ok.glob,ok.blt,ok.above,ok.inj,ok.has,ok.cab,ok.hd,ok.frames,ok.stk,ok.exf,ok.bs,ok.bsz,ok.noex,ok.exfs,ok.funs,ok.frf⟩
section
variable {X:Cx}{pins:List (Addr×Obj)}{σ:St}{H:Hp}{s:cXd}{E:cXb->cXd->Prop}
def Inv.wish(I:Inv X pins σ H s)(E:cXb->cXd->Prop):Inv (X.wish E) pins σ H s:=⟨I.ok.wish E,I.os,I.bare,I.base,I.loc,I.cell,I.free,I.freeC,I.pin,I.hok,I.len⟩
def Inv.unwish(I:Inv (X.wish E) pins σ H s):Inv X pins σ H s:=⟨I.ok.unwish,I.os,I.bare,I.base,I.loc,I.cell,I.free,I.freeC,I.pin,I.hok,I.len⟩
def SP.unwish(h:SP (X.wish E) pins D f s'):SP X pins D f s':=by
 cases f with
 |next=>obtain⟨a,H',I,q⟩:=h;exact⟨a,H',I.unwish,q⟩
 |brk=>obtain⟨a,H',I,q⟩:=h;exact⟨a,H',I.unwish,q⟩
 |cont=>obtain⟨a,H',I,q⟩:=h;exact⟨a,H',I.unwish,q⟩
 |ret u=>obtain⟨v,a,H',I,r,q⟩:=h;exact⟨v,a,H',I.unwish,r,q⟩
def PSs.nox{st:List Stmt}{t:TS}(h:PSs X.nox st t):PSs X st t:=λpins s σ H D I hw=>
 cZh (h pins s σ H D (I.wish _) hw) (λ_ _ q=>q.unwish) λ_ _ z=>cZO z
end
section
variable {X:Cx}{st:Stmt}{Z0:List Stmt}{t u:TS}{e:Expr}{te:TE}{pos:Pos}
def aWb:TS:=λD σ H=>D.nx σ H
def bYZ(t u:TS):TS:=λD σ H=>t {D with nx:=u D} σ H
def yS:PSs X [] aWb:=λ_ _ σ H _ I h=>cWn ⟨σ,H,I,h⟩
def yC(h1:PS X st t)(h2:PSs X Z0 u):PSs X (st::Z0) (bYZ t u):=by
 intro pins s σ H D I h;refine wpAny_execs_cons (thn (h1 pins s σ H {D with nx:=u D} I h) λf b q=>?_);cases f with
 |next=>obtain⟨a,H',c,q⟩:=q;exact h2 pins b a H' D c q
 |ret v=>exact q
 |brk=>exact q
 |cont=>exact q
def yF(h1:PS X st t):PSs X [st] t:=by
 intro pins s σ H D I h;refine wpAny_execs_cons (thn (h1 pins s σ H D I h) λf a q=>?_);cases f with
 |next=>exact cWn q
 |ret v=>exact q
 |brk=>exact q
 |cont=>exact q
def Inv.quiet(I:Inv X pins σ H s):interactive X.env=false:=by simp[interactive,I.ok.kind]
def aWa(te:TE):TS:=λD σ H=>te σ H λ_ H1=>D.nx σ H1
def yZ(b:PE X e te)(a:swapsWith e none pos.line X.env=pure false:=by rfl):PS X (.Expr e pos) (aWa te):=by
 intro pins s σ H D I h;exact wpAny_Expr_any (thn (b pins s σ H _ I h) λv s1 ⟨x,H1,I1,r1,q1⟩=>⟨σ,H1,I1,q1⟩) I.quiet a
def cQJ(te:TE):TS:=λD σ H=>te σ H D.rt
def yP(a:PE X e te):PS X (.Return (some e) pos) (cQJ te):=by
 intro pins s σ H D I h;exact wpAny_Return_some (thn (a pins s σ H _ I h) λv s1 ⟨x,H1,I1,r1,q1⟩=>⟨x,σ,H1,I1,r1,q1⟩)
def bYY(c:TT)(t u:TS):TS:=λD σ H=>c σ H λb H1=>if b=true then t D σ H1 else u D σ H1
def xA(e:PT X c tc)(f:PSs X a t)(g:PSs X b u):PS X (.If c a b pos) (bYY tc t u):=by
 intro pins s σ H D I h;refine wpAny_If (thn (e pins s σ H _ I h) λd s1 ⟨H1,I1,q1⟩=>?_);cases d with
 |true=>exact f pins s1 σ H1 D I1 q1
 |false=>exact g pins s1 σ H1 D I1 q1
end
abbrev TG:=V->St->Hp->(St->Hp->Prop)->Prop
abbrev TGs:=List V->St->Hp->(St->Hp->Prop)->Prop
def PG(X:Cx)(a:Expr)(t:TG):Prop:=
 ∀ (pins:List (Addr×Obj))(s:cXd)(σ:St)(H:Hp)(v:V)(u:cXb)(Q:St->Hp->Prop),Inv X pins σ H s->wG v u->t v σ H Q->
  cXi (cXk X.prog X.w) X.A (assign a X.env u) (λ_ s'=>NxP X pins s' Q) X.xe s
def PGs(X:Cx)(c:List Expr)(t:TGs):Prop:=
 ∀ (pins:List (Addr×Obj))(s:cXd)(σ:St)(H:Hp)(b:List V)(a:List cXb)(Q:St->Hp->Prop),Inv X pins σ H s->zD b a->t b σ H Q->
  cXi (cXk X.prog X.w) X.A (assignInOrder ((cWh c X.env).map (·.2)) a) (λ_ s'=>NxP X pins s' Q) X.xe s
abbrev bY5:=V->V->V->Hp->(Hp->Prop)->Prop
def cQC(X:Cx)(t:bY5):Prop:=
 ∀ (pins:List (Addr×Obj))(s:cXd)(σ:St)(H:Hp)(o i v:V)(a b u:cXb)(Q:Hp->Prop),Inv X pins σ H s->wG o a->wG i b->wG v u->t o i v H Q->
  cXi (cXk X.prog X.w) X.A (setItem a b u) (λ_ s'=>∃H',Inv X pins σ H' s'/\Q H') X.xe s
section
variable {X:Cx}{pos:Pos}
def yW(i:Nat):TG:=λv σ H Q=>Q (σ.set i (some v)) H
def xI(d:X.N.Nodup:=by exact ‹yO _ _ _›.nd)(hi:X.N[i]? =some x:=by rfl)(a:Loc X.env.scope x:=by first|exact Or.inl rfl|exact Or.inr rfl)(b:X.fn x=true\/X.env.scope.names.lookup x=some .local:=by first|exact .inl rfl|exact .inr rfl|assumption):PG X (.Name x pos) (yW i):=by
 intro pins s σ H v u Q I r h;exact wpAny_assign_Name (aW1 I d hi a r (λs' c=>⟨_,H,c,h⟩) b)
inductive cQS(vs:List V)(σ:St)(H:Hp)(Q:St->Hp->Prop):Prop|mk(h:vs= [])(h:Q σ H)
inductive cQa(t:TG)(u:TGs)(vs:List V)(σ:St)(H:Hp)(Q:St->Hp->Prop):Prop|mk(v r)(h:vs=v::r)(h:t v σ H λσ' H'=>u r σ' H' Q)
def aZF:PGs X [] cQS:=by
 intro pins s σ H b a Q I r h;obtain⟨e,h⟩:=h;subst e;cases r;exact assignInOrder_nil ⟨σ,H,I,h⟩
def wK{t:TG}(h1:PG X e t)(h2:PGs X es u) (c:(cWh (e::es) X.env).map (·.2)=assign e X.env::(cWh es X.env).map (·.2):=by rfl):PGs X (e::es) (cQa t u):=by
 intro pins s σ H f g Q I r h;obtain⟨v,d,a,h⟩:=h;subst a;cases r with
 |cons r b=>rw[c];refine assignInOrder_cons (thn (h1 pins s σ H _ _ _ I r h) λ_ s1 ⟨σ1,H1,I1,q1⟩=>?_);exact h2 pins s1 σ1 H1 _ _ Q I1 b q1
inductive cQU(K:cXc)(n:Nat)(t:TGs)(v:V)(σ:St)(H:Hp)(Q:St->Hp->Prop):Prop|mk(a xs)(h:v= .ref a)(h:SqT K H a xs)(h:xs.length=n)(h:t xs σ H Q)
def aWB{k:Nat}{t:TGs}(l:X.calm=true)(h:PGs X es t) (m:(cWh es X.env).length=n:=by rfl) (c:(cWh es X.env).findIdx? (·.1)=none:=by rfl):PG X (.Tuple es k pos) (cQU X.K n t):=by
 intro pins s σ H v u Q I r hw;obtain⟨a,xs,i,f,hl,hw⟩:=hw;subst i;cases r;obtain⟨p,d,g,w⟩:=I.tuple f;refine assign_Tuple_tuple (I.ok.hd l) g (by simp[m,<- hl,d.length]) c λh' j=>?_;have q:Inv X pins σ H {s with heap:=h'}:=I.kept (t':=s.toks) λb o e=>j b o (cXx (cXq e)) e;exact h pins _ σ H xs _ Q q (by simpa using d) hw
def cQT(to b:TE)(t:bY5):TG:=λv σ H Q=>to σ H λo H1=>b σ H1 λi H2=>t o i v H2 λa=>Q σ a
def X2{t:bY5}(b:PE X o to)(hi:PE X i a)(c:cQC X t)
  (d:∀v,assign (.Subscript o i pos) X.env v=(do
   let ov <- cVE [v] (eval o X.env)
   let iv <- cVE [v,ov] (eval i X.env)
   standAt pos
   cVE [v,ov,iv] (setItem ov iv v)
   release [v,ov,iv] []):=by intro _;rfl):PG X (.Subscript o i pos) (cQT to a t):=by
 intro pins s σ H v u Q I r h
 rw[d]
 refine cXa (cZt (thn (b pins s σ H _ I h) λov s1 ⟨x,H1,I1,r1,q1⟩=>?_))
 refine cXa (cZt (thn (hi pins s1 σ H1 _ I1 q1) λiv s2 ⟨y,H2,I2,r2,q2⟩=>?_))
 refine cXa (cV0 (cXa (cZt (thn (c pins s2 σ H2 x y v ov iv u _ I2 r1 r2 r q2) λ_ s3 ⟨H3,I3,q3⟩=>?_))))
 exact wpAny_release ⟨σ,H3,I3,q3⟩
def bYX(te:TE)(g:TG):TS:=λD σ H=>te σ H λx H1=>g x σ H1 D.nx
def uR(b:PE X e te)(a:PG X tg g)(c:swapsWithSole [tg] e pos.line X.env=pure false:=by rfl)(hw:swappedStores [tg] e X.env=pure none:=by rfl)
  (h1:(cWh [tg] X.env).map (·.2)= [assign tg X.env]:=by rfl):PS X (.Assign [tg] e pos) (bYX te g):=by
 intro pins s σ H D I h
 refine wpAny_Assign_stores (thn (b pins s σ H _ I h) λv s1 ⟨x,H1,I1,r1,q1⟩=>?_) c hw
 rw[h1]
 exact thn (a pins s1 σ H1 x v _ I1 r1 q1) λ_ d q=>q
def yU(f:PE X e te)(b:X.N.Nodup:=by exact ‹yO _ _ _›.nd)(hi:X.N[i]? =some x:=by rfl)(c:Loc X.env.scope x:=by first|exact Or.inl rfl|exact Or.inr rfl)(g:swapsWith e (some (.Name x pos')) pos.line X.env=pure false:=by rfl)(d:X.fn x=true\/X.env.scope.names.lookup x=some .local:=by first|exact .inl rfl|exact .inr rfl|assumption):
  PS X (.Assign [.Name x pos'] e pos) (bYX te (yW i)):=by
 intro pins s σ H D I h
 refine wpAny_Assign_Name (thn (f pins s σ H _ I h) λv s1 ⟨y,H1,I1,r1,q1⟩=>?_) g
 exact aW1 I1 b hi c r1 (λj a=>⟨_,H1,a,q1⟩) d
end
section
variable {X:Cx}{pos:Pos}
def bYM(c:TT)(tb:TS):TS:=λD σ H=>∃W:Nat->St->Hp->Prop,(∃m,W m σ H)/\∀m σ H,W m σ H->
 c σ H λb H1=>if b=true then ∃N:St->Hp->Prop,(∀a H',N a H'->∃d,d<m/\W d a H')/\tb {D with nx:=N,ct:=N,bk:=D.nx} σ H1 else D.nx σ H1
def jP(r:PassesOwn (cXk X.prog X.w) X.A X.env X.xe)(x:PT X c tc)(C:PSs X body tb):PS X (.While c body [] pos) (bYM tc tb):=by
 intro pins s σ H D I h;obtain⟨W,⟨u,t⟩,turn⟩:=h;refine wpAny_While (codeAny_whileLoop (λn s'=>∃g H',Inv X pins g H' s'/\W n g H') ?_ u ⟨σ,H,I,t⟩);rintro n y ⟨d,H1,z,B⟩;refine cJF r (thn (x pins y d H1 _ z (turn n d H1 B)) λb s2 ⟨H2,I2,j⟩=>?_);cases b with
 |true=>
  obtain⟨N,q,j⟩:=j;rw[if_pos rfl];refine cJF r (thn (C pins s2 d H2 _ I2 j) λf E i=>?_);cases f with
  |next=>obtain⟨a,e,o,l⟩:=i;obtain⟨k,m,p⟩:=q a e l;exact⟨k,m,a,e,o,p⟩
  |cont=>obtain⟨a,e,o,l⟩:=i;obtain⟨k,m,p⟩:=q a e l;exact⟨k,m,a,e,o,p⟩
  |brk=>exact i
  |ret v=>exact i
 |false=>rw[if_neg Bool.false_ne_true];exact cWn ⟨d,H2,I2,j⟩
end
structure It where
 go:Nat->Hp->Prop
 yld:Nat->Hp->V->Hp->Prop
 stop:Nat->Hp->Prop
def bVa(X:Cx)(pins:List (Addr×Obj))(H:Hp)(b:Addr):Prop:=
 H b=none/\b≠X.env.locals/\b∉X.fs/\(b∈X.ex\/X.s₀.heap.objs.size<=b)/\(∀x c,X.env.cells.lookup x=some c->c≠b)/\∀p∈X.pn++pins,p.1≠b
def Inv.fpOk(I:Inv X pins σ H s)(a:s.heap.objs.size<=b)(d:H' b=none):bVa X pins H' b:=by
 refine⟨d,cJB (cXE I.lt a),I.nofs a,.inr (cXJ I.sz a),λx c e z=>?_,λp f z=>?_⟩
 ·obtain⟨v,q⟩:=I.cell x c e;exact absurd (cXE q.lt (by rw[z];exact a)) (cZk _)
 ·exact absurd (cXE (cXq (I.pin p f).1) (by rw[z];exact a)) (cZk _)
structure bYS(P:cXB)(w:cXN)(K:cXc)(tg:Expr)(J:It)(fp:List Addr)(it:Addr)(tn:Nat->Heap->Prop):Prop where
 mem:it∈fp
 obj:∀i h,tn i h->∀b∈fp,∃o,h.get? b=some o/\∀v,o.data≠ .cell v
 keep:∀i h h',tn i h->(∀b∈fp,∀o,h.get? b=some o->h'.get? b=some o)->tn i h'
 item:∀ (X:Cx),X.prog=P->X.w=w->X.K=K->X.calm=true->∀ (i:Nat)(pins:List (Addr×Obj))(s:cXd)(σ:St)(H:Hp)(E:cXb->cXd->Prop),Inv X pins σ H s->(∀b∈fp,bVa X pins H b)->tn i s.heap->J.go i H->
  cXi (cXk P w) X.A (pyNext (.ref it)) (λr s1=>∃u,r=some u/\
   cXi (cXk P w) X.A (cWl tg (.ref it) u) (λ_ s2=>∃x H',Inv X pins σ H' s2/\wG x u/\J.yld i H x H'/\tn (i+1) s2.heap/\∀b∈fp,H' b=none) E s1) E s
 done:∀ (X:Cx),X.prog=P->X.w=w->X.K=K->X.calm=true->∀ (i:Nat)(pins:List (Addr×Obj))(s:cXd)(σ:St)(H:Hp)(E:cXb->cXd->Prop),Inv X pins σ H s->(∀b∈fp,bVa X pins H b)->tn i s.heap->J.stop i H->
  cXi (cXk P w) X.A (pyNext (.ref it)) (λr s1=>r=none/\Inv X pins σ H s1) E s
 self:∀ (A:cX8)(i:Nat)(s:cXd)(Q:cXb->cXd->Prop)(E:cXb->cXd->Prop),tn i s.heap->Q (.ref it) s->cXi (cXk P w) A (pyIter (.ref it)) Q E s
abbrev TI:=St->Hp->(It->Hp->Prop)->Prop
def PIE(X:Cx)(pins:List (Addr×Obj))(σ:St)(tg:Expr)(R:It->Hp->Prop)(a:cXb)(d:cXd):Prop:=
 ∃ (c:Addr)(e:List Addr)(tn:Nat->Heap->Prop)(J:It)(H':Hp),a= .ref c/\Inv X pins σ H' d/\bYS X.prog X.w X.K tg J e c tn/\tn 0 d.heap/\(∀b∈e,bVa X pins H' b)/\R J H'
def PI(X:Cx)(tg a:Expr)(c:TI):Prop:=
 ∀ (pins:List (Addr×Obj))(s:cXd)(σ:St)(H:Hp)(R:It->Hp->Prop),Inv X pins σ H s->c σ H R->
  cXi (cXk X.prog X.w) X.A (eval a X.env) (λv b=>cXi (cXk X.prog X.w) X.A (pyIter v) (PIE X pins σ tg R) X.xe b) X.xe s
def bKS{E:cXb->cXd->Prop}{Q:Unit->cXd->Prop}(d:s.heap.get? it=some o)(b:o.cls= .type n)(e:o.data= .fields vs) (c: ["enumerate","zip","dict_itemiterator",BJ,"odict_iterator","itertools.zip_longest","itertools.pairwise"].contains n=false) (a:Q () s):cXi M A (cWl tg (.ref it) u) Q E s:=by
 unfold cWl;cases tg<;> first
  |exact cXf a
  |(cases u<;> first
    |exact cXf a
    |(refine cXa (wpAny_load d ?_)
      rw[b,e]
      show cXi M A (if(["enumerate","zip","dict_itemiterator",BJ,"odict_iterator","itertools.zip_longest","itertools.pairwise"].contains n && vs[0]? ==some (cZv _))=true then _ else _) Q E s
      rw[if_neg (by intro h;rw[c,Bool.false_and]at h;cases h)]
      exact cXf a))
def Itl(K:cXc)(a:Addr):It:=
 ⟨λi H=>∃xs x,SqL K H a xs/\xs[i]? =some x,λi H x H'=>H'=H/\∀xs,SqL K H a xs->xs[i]? =some x,λi H=>∃xs,SqL K H a xs/\xs.length<=i⟩
def Itr(lo:Int)(n:Nat):It:=⟨λi _=>i<n,λi H x H'=>H'=H/\x= .int (lo+i),λi _=>n<=i⟩
def bX1{P:cXB}{w:cXN}{K:cXc}{tg:Expr}(a it:Addr):bYS P w K tg (Itl K a) [it] it (λi h=>h.IsListIter it a i) where
 mem:=by simp
 obj:=λi h st b hb=>by
  have e:b=it:=by simpa using hb
  subst e
  obtain⟨o,e,c,d⟩:=st
  exact⟨o,e,λv z=>by rw[d]at z;cases z⟩
 keep:=λi h h' st k=>st.at λo e=>k it (by simp) o e
 item:=by
  intro X hP hw hK hc i pins s σ H E I hf st hg
  subst hP hw hK
  obtain⟨xs,x,hq,hx⟩:=hg
  obtain⟨its,rv,p,hz⟩:=I.list hq
  obtain⟨u,hu,ru⟩:=rv.get hx
  obtain⟨f0,f1,f2,f3,f4,f5⟩:=hf it (by simp)
  refine wpAny_pyNext_list_item st p.isList (x:=u) (by simpa using hu) λh' st' sb=>?_
  have I1:Inv X pins σ H {s with heap:=h'}:=I.turned (t':=s.toks) (λb o hb e=>(sb.2 b hb).trans e) f0 f1 f3 f4 f5
  obtain⟨o,e,c,d⟩:=id st'
  exact⟨u,Ce,bKS (s:={s with heap:=h'}) e c d (by decide) ⟨x,H,I1,ru,⟨rfl,λys hy=>by rw[I.list_inj hy hq];exact hx⟩,st',λb hb=>(hf b hb).1⟩⟩
 done:=by
  intro X hP hw hK hc i pins s σ H E I hf st hg
  subst hP hw hK
  obtain⟨xs,hq,hx⟩:=hg
  obtain⟨its,rv,p,hz⟩:=I.list hq
  obtain⟨f0,f1,f2,f3,f4,f5⟩:=hf it (by simp)
  have hl:=rv.length
  exact wpAny_pyNext_list_end (I.ok.hd hc) st p.isList (by simp;omega) λh' eb=>⟨rfl,I.turned (t':=s.toks) (λb o hb e=>eb b o hb e) f0 f1 f3 f4 f5⟩
 self:=λ_ _ _ _ _ st h=>wpAny_pyIter_listiter st h
def aYt{P:cXB}{w:cXN}{K:cXc}{tg:Expr}(it:Addr)(lo:Int)(n:Nat):bYS P w K tg (Itr lo n) [it] it (λi h=>IsRangeIter h it (lo+(i:Nat)*1) ((n:Int) - (i:Nat)) 1) where
 mem:=by simp
 obj:=λi h st b hb=>by
  have e:b=it:=by simpa using hb
  subst e
  exact⟨_,st,λv z=>by
   have z':Data.fields _=Data.cell v:=z
   cases z'⟩
 keep:=λi h h' st k=>k it (by simp) _ st
 item:=by
  intro X hP hw hK hc i pins s σ H E I hf st hg
  subst hP hw hK
  obtain⟨f0,f1,f2,f3,f4,f5⟩:=hf it (by simp)
  have W:=Walks.range (prog:=X.prog) (w:=X.w) (I.ok.hd hc) it lo 1 n
  refine W.item i s _ _ hg st λv h' tk hv st' kk=>?_
  obtain⟨t,rfl⟩:=hv
  have I1:Inv X pins σ H {s with heap:=h',toks:=tk}:=I.turned (λb o hb e=>kk b o (by simpa using hb) e) f0 f1 f3 f4 f5
  refine⟨_,Ce,bKS (s:={s with heap:=h',toks:=tk}) (n:="range_iterator") st' rfl rfl (by decide) ⟨.int (lo+i),H,I1,⟨t,?_⟩,⟨rfl,rfl⟩,st',λb hb=>(hf b hb).1⟩⟩
  rw[Int.mul_one]
 done:=by
  intro X hP hw hK hc i pins s σ H E I hf st hg
  subst hP hw hK
  obtain⟨f0,f1,f2,f3,f4,f5⟩:=hf it (by simp)
  exact wpAny_pyNext_range_end (I.ok.hd hc) st (by have:n<=i:=hg;omega) λh' eb=>⟨rfl,I.turned (t':=s.toks) (λb o hb e=>eb b o hb e) f0 f1 f3 f4 f5⟩
 self:=λ_ _ _ _ _ st h=>wpAny_pyIter_rangeiter st h
end L2
open L2.SqL renaming of → Cc
open L2.SqT renaming of → Cd
namespace L2
open PySem PySem.Spec PyProof.Rows
section
variable {X:Cx}{tg:Expr}
inductive bKU(K:cXc)(R:It->Hp->Prop)(x:V)(H1:Hp):Prop|mk(a)(h:x= .ref a)(h:(∃xs,SqL K H1 a xs))(h:R (Itl K a) H1)
def cQb(K:cXc)(tl:TE):TI:=λσ H R=>tl σ H λx H1=>bKU K R x H1
def xN{l:Expr}{tl:TE}(hl:PE X l tl):PI X tg l (cQb X.K tl):=by
 intro pins s σ H R I h;refine thn (hl pins s σ H _ I h) λv s1 ⟨x,H1,I1,r1,q1⟩=>?_;obtain⟨a,e,⟨xs,c⟩,q⟩:=q1;subst e;cases r1;obtain⟨d,i,p,g⟩:=I1.list c;refine cVV p.isList ?_;refine⟨s1.heap.objs.size,[s1.heap.objs.size],_,_,H1,Ce,I1.kept (t':=s1.toks) λb o e=>cXg _ e,bX1 a _,⟨_,cXA _ rfl,Ce,rfl⟩,λb f=>?_,q⟩;have e:b=s1.heap.objs.size:=by simpa using f
 subst e;exact I1.fpOk (cXh _) (I1.hok.fresh (cXh _))
def bJm{pins:List (Addr×Obj)}{σ:St}{H:Hp}{s:cXd}{R:It->Hp->Prop}{E:cXb->cXd->Prop}{lo hi:Int}{t u v:Tok}{tk:Nat}(I:Inv X pins σ H s)(h1: -(2 ^ 62)<=lo)(h2:lo<2 ^ 62)(c: -(2 ^ 62)<=hi)(f:hi<2 ^ 62) (q:R (Itr lo (hi - lo).toNat) H):cXi (cXk X.prog X.w) X.A (pyIter (.ref s.heap.objs.size)) (PIE X pins σ tg R) E {s with heap:=s.heap.push {cls:= .type Ag,data:= .fields #[.int lo t,.int hi u,.int 1 v] },toks:=tk}:=by
 refine wpAny_pyIter_range (IsRange.new ..) (small_one h1 h2 c f) ?_;have a:Inv X pins σ H {s with heap:=s.heap.push {cls:= .type Ag,data:= .fields #[.int lo t,.int hi u,.int 1 v] },toks:=tk}:=I.kept λb o e=>cXg _ e;refine⟨(s.heap.push {cls:= .type Ag,data:= .fields #[.int lo t,.int hi u,.int 1 v] }).objs.size,[(s.heap.push {cls:= .type Ag,data:= .fields #[.int lo t,.int hi u,.int 1 v] }).objs.size],_,_,H,Ce,a.kept (t':=tk) λb o e=>cXg _ e,aYt _ lo (hi - lo).toNat,?_,λb g=>?_,q⟩
 ·have d:lo+((0:Nat):Int)*1=lo:=by simp
  have h:(((hi - lo).toNat:Nat):Int) - ((0:Nat):Int)=Builtin.Range.rangeSize lo hi 1:=by rw[rangeSize_one];split<;> omega
  show IsRangeIter _ _ (lo+((0:Nat):Int)*1) ((((hi - lo).toNat:Nat):Int) - ((0:Nat):Int)) 1;rw[d,h];exact cXA _ rfl
 ·have e:b=(s.heap.push {cls:= .type Ag,data:= .fields #[.int lo t,.int hi u,.int 1 v] }).objs.size:=by simpa using g
  subst e;exact a.fpOk (cXh _) (a.hok.fresh (cXh _))
inductive bKV(R:It->Hp->Prop)(vs:List V)(H1:Hp):Prop|mk(j:Int)(h:vs= [.int j])(h: -(2 ^ 62)<=j)(h:j<2 ^ 62)(h:R (Itr 0 j.toNat) H1)
def cQc(ta:TA):TI:=λσ H R=>ta σ H λa H1=>bKV R a H1
def wA{a:Expr}{ta:TA}{p pos:Pos}(c:Gl X Ag)(f:X.mg Ag=none)(k:PA X [a] ta)(i:cXR [a] X.env= [(false,eval a X.env)]:=by rfl):PI X tg (.Call (.Name Ag p) [a] [] pos) (cQc ta):=by
 intro pins s σ H R I h;refine Call_ (aX8 I c f boot_range (cVn (thn (k pos pins s σ H _ I h) λus s1 ⟨vs,H1,I1,r1,b⟩=>?_) i rfl));obtain⟨j,e,b,g,q⟩:=b;subst e;cases r1 with
 |cons r d=>cases d;obtain⟨t,rfl⟩:=r;exact call_range_1 (bJm I1 (by omega) (by omega) b g (by simpa using q))
def cQ5(d:TI)(g:TG)(tb:TS):TS:=λD σ H=>d σ H λJ H1=>∃W:Nat->Nat->St->Hp->Prop,(∃m,W 0 m σ H1)/\∀i m σ H,W i m σ H->
 (J.stop i H/\D.nx σ H)\/(J.go i H/\∃N:St->Hp->Prop,(∀a H',N a H'->∃c,c<m/\W (i+1) c a H')/\∀x H',J.yld i H x H'->g x σ H' λb H2=>tb {D with nx:=N,ct:=N,bk:=D.nx} b H2)
def aJJ(a:List Addr)(h:Heap):List (Addr×Obj):=a.filterMap λb=>(h.get? b).map λo=>(b,o)
def qY(c:b∈a)(e:h.get? b=some o):(b,o)∈aJJ a h:=List.mem_filterMap.mpr ⟨b,c,by rw[e];rfl⟩
def bQr(d:p∈aJJ a h):p.1∈a/\h.get? p.1=some p.2:=by
 obtain⟨b,f,e⟩:=List.mem_filterMap.mp d;cases q:h.get? b with
 |none=>rw[q]at e;cases e
 |some o=>rw[q]at e;have c:(b,o)=p:=cXv e;subst c;exact⟨f,q⟩
def Inv.pinned(I:Inv X pins σ H s)(h:∀b∈a,bVa X pins H b)(g:∀b∈a,∃o,s.heap.get? b=some o/\∀v,o.data≠ .cell v):Inv X (pins++aJJ a s.heap) σ H s:=
 I.pins_of λp i=>(cXH.mp i).elim (λz=>I.pin p (cXw _ z)) λz=>by obtain⟨f,e⟩:=bQr z;obtain⟨j,l,k,_⟩:=h p.1 f;obtain⟨o,c,d⟩:=g p.1 f;rw[e]at c;cases c;exact⟨e,j,l,k,d⟩
def Inv.unpinned{pins pl:List (Addr×Obj)}(I:Inv X (pins++pl) σ H s):Inv X pins σ H s:=I.pins_of λp a=>I.pin p (cXw _ (cZY _ a))
def wV{V:TI}(E:PassesOwn (cXk X.prog X.w) X.A X.env X.xe)(S:X.calm=true)(hi:PI X tg l V)(hg:PG X tg g)(c:PSs X body tb) (hs:∀x,cWH l X.env x=pure x:=by intro _;rfl):PS X (.For tg l body [] pos) (cQ5 V g tb):=by
 intro pins s σ H D I h;refine wpAny_For (thn (hi pins s σ H _ I h) λv s1 h1=>thn h1 λa0 s2 h2=>?_) hs;obtain⟨it,B,tn,J,H2,e,I2,T,P,Q,W,⟨m0,w0⟩,turn⟩:=h2;subst e;have y:∀ {H':Hp},(∀b∈B,H' b=none)->∀b∈B,bVa X pins H' b:=λhn b c=>⟨hn b c,(Q b c).2⟩;refine codeAny_forLoop_any (λn s'=>∃i j H',Inv X pins j H' s'/\tn i s'.heap/\(∀b∈B,H' b=none)/\W i n j H') ?_ m0 ⟨0,σ,H2,I2,P,λb c=>(Q b c).1,w0⟩;rintro n R ⟨i,k,L,U,F,K,w3⟩;rcases turn i n k L w3 with⟨C,qn⟩|⟨go,N,hN,step⟩
 ·refine cJF E (thn (T.done X rfl rfl rfl S i pins R k L X.xe U (y K) F C) λr s4 ⟨hr,I4⟩=>?_);subst hr;exact cWn ⟨k,L,I4,qn⟩
 ·refine cJF E (thn (T.item X rfl rfl rfl S i pins R k L X.xe U (y K) F go) λr s4 ⟨u,hr,h4⟩=>?_);subst hr;refine cJF E (thn h4 λ_ s5 ⟨x,H5,I5,r5,y5,st5,fr5⟩=>?_);have M:=I5.pinned (y fr5) (T.obj _ _ st5);refine cJF E (thn (hg _ s5 k H5 x u _ M r5 (step x H5 y5)) λ_ s6 ⟨σ6,H6,I6,q6⟩=>?_);refine cJF E (thn (c _ s6 σ6 H6 _ I6 q6) λf O z=>?_);have t:∀ {a:St} {q:Hp},Inv X (pins++aJJ B s5.heap) a q O->N a q->∃m,m<n/\∃i j H',Inv X pins j H' O/\tn i O.heap/\(∀b∈B,H' b=none)/\W i m j H':=λ{a q} p G=>by
   obtain⟨Z,hm,w7⟩:=hN a q G;refine⟨Z,hm,i+1,a,q,p.unpinned,T.keep _ _ _ st5 λb c o e=>(p.pin (b,o) (cXw _ (cXw _ (qY c e)))).1,λb c=>?_,w7⟩;obtain⟨o,e,d⟩:=T.obj _ _ st5 b c;exact(p.pin (b,o) (cXw _ (cXw _ (qY c e)))).2.1
  cases f with
  |next=>obtain⟨a,q,p,G⟩:=z;exact t p G
  |cont=>obtain⟨a,q,p,G⟩:=z;exact t p G
  |brk=>obtain⟨a,q,p,z⟩:=z;exact⟨a,q,p.unpinned,z⟩
  |ret v=>obtain⟨Y,a,q,p,r7,z⟩:=z;exact⟨Y,a,q,p.unpinned,r7,z⟩
end
def zV{K:cXc}{a:Addr}{xs:List V}{g:TG}{tb:TS}{D:bX3}{σ:St}{H:Hp}(b:Nat->St->Hp->Prop)(h0:b 0 σ H)(hl:∀i σ H,i<=xs.length->b i σ H->SqL K H a xs) (k:∀i x σ H,xs[i]? =some x->b i σ H->g x σ H λc H2=>tb {D with nx:=b (i+1),ct:=b (i+1),bk:=D.nx} c H2) (j:∀σ H,b xs.length σ H->D.nx σ H): ∃W:Nat->Nat->St->Hp->Prop,(∃m,W 0 m σ H)/\∀i m σ H,W i m σ H-> ((Itl K a).stop i H/\D.nx σ H)\/((Itl K a).go i H/\∃N:St->Hp->Prop,(∀d H',N d H'->∃h,h<m/\W (i+1) h d H')/\∀x H',(Itl K a).yld i H x H'->g x σ H' λc H2=>tb {D with nx:=N,ct:=N,bk:=D.nx} c H2):=by
 refine⟨λi m σ H=>m=xs.length - i/\i<=xs.length/\b i σ H,⟨xs.length,by simp,cZc _,h0⟩,?_⟩;rintro i m σ H ⟨rfl,hi,p⟩;have q:=hl i σ H hi p;by_cases f:i<xs.length
 ·refine .inr ⟨⟨xs,xs[i],q,by simp[f]⟩,b (i+1),λd H' l=>⟨xs.length - (i+1),by omega,Ce,f,l⟩,λx H' y=>?_⟩;obtain⟨e,y⟩:=y;subst e;exact k i x σ _ (y xs q) p
 ·have e:i=xs.length:=by omega
  subst e;exact .inl ⟨⟨xs,q,cXh _⟩,j σ H p⟩
def vO{lo:Int}{n:Nat}{g:TG}{tb:TS}{D:bX3}{σ:St}{H:Hp}(b:Nat->St->Hp->Prop)(h0:b 0 σ H) (j:∀i σ H,i<n->b i σ H->g (.int (lo+i)) σ H λa H2=>tb {D with nx:=b (i+1),ct:=b (i+1),bk:=D.nx} a H2) (h:∀σ H,b n σ H->D.nx σ H): ∃W:Nat->Nat->St->Hp->Prop,(∃m,W 0 m σ H)/\∀i m σ H,W i m σ H-> ((Itr lo n).stop i H/\D.nx σ H)\/((Itr lo n).go i H/\∃N:St->Hp->Prop,(∀d H',N d H'->∃f,f<m/\W (i+1) f d H')/\∀x H',(Itr lo n).yld i H x H'->g x σ H' λa H2=>tb {D with nx:=N,ct:=N,bk:=D.nx} a H2):=by
 refine⟨λi m σ H=>m=n - i/\i<=n/\b i σ H,⟨n,by simp,cZc _,h0⟩,?_⟩;rintro i m σ H ⟨rfl,hi,p⟩;by_cases c:i<n
 ·refine .inr ⟨c,b (i+1),λd H' k=>⟨n - (i+1),by omega,Ce,c,k⟩,λx H' y=>?_⟩;obtain⟨e,y⟩:=y;subst e y;exact j i σ _ c p
 ·have e:i=n:=by omega
  subst e;exact .inl ⟨cXh _,h σ H p⟩
end L2
namespace L2
open PySem PySem.Spec PyProof.Rows
abbrev R2:=V->V->Hp->VK->Prop
def OpR(X:Cx)(f:cXb->cXb->Sem cXb)(r:R2):Prop:=
 ∀ (pins:List (Addr×Obj))(s:cXd)(σ:St)(H:Hp)(x y:V)(v u:cXb)(Q:VK),Inv X pins σ H s->wG x v->wG y u->r x y H Q->
  cXi (cXk X.prog X.w) X.A (f v u) (EP X pins σ Q) X.xe s
def UnR(X:Cx)(f:cXb->Sem cXb)(r:V->Hp->VK->Prop):Prop:=
 ∀ (pins:List (Addr×Obj))(s:cXd)(σ:St)(H:Hp)(x:V)(v:cXb)(Q:VK),Inv X pins σ H s->wG x v->r x H Q->
  cXi (cXk X.prog X.w) X.A (f v) (EP X pins σ Q) X.xe s
def jZ(X:Cx)(f:cXb)(r:List V->Hp->VK->Prop):Prop:=
 ∀ (pins:List (Addr×Obj))(s:cXd)(σ:St)(H:Hp)(xs:List V)(a:List cXb)(Q:VK),Inv X pins σ H s->zD xs a->r xs H Q->
  cXi (cXk X.prog X.w) X.A (call f a) (EP X pins σ Q) X.xe s
def tOp(r:R2)(ta tb:TE):TE:=λσ H Q=>ta σ H λx H1=>tb σ H1 λy H2=>r x y H2 Q
def tUn(r:V->Hp->VK->Prop)(ta:TE):TE:=λσ H Q=>ta σ H λx H1=>r x H1 Q
inductive rI(C:Int->Int->Prop)(g:Int->Int->V)(x:V)(y:V)(H:Hp)(Q:VK):Prop|mk(i j)(h:x= .int i)(h:y= .int j)(h:C i j)(h:Q (g i j) H)
inductive rI0(g:Int->Int->V)(x:V)(y:V)(H:Hp)(Q:VK):Prop|mk(i j)(h:x= .int i)(h:y= .int j)(h:Q (g i j) H)
inductive rU(g:Int->V)(x:V)(H:Hp)(Q:VK):Prop|mk(i)(h:x= .int i)(h:Q (g i) H)
section
variable {X:Cx}{a b c:Expr}{ta tb tc:TE}{pos:Pos}
def bY7(i:PE X a ta)(j:PE X b tb){R:V->V->Hp->Prop}(I:Inv X pins σ H s) (h:ta σ H λx H1=>tb σ H1 λy H2=>R x y H2) {Q:cXb->cXd->Prop} {f:cXb->cXb->Sem cXb} (g:∀v u e x y H2,Inv X pins σ H2 e->wG x v->wG y u->R x y H2->cXi (cXk X.prog X.w) X.A (f v u) Q X.xe e): cXi (cXk X.prog X.w) X.A (eval a X.env) (λv c=>cXi (cXk X.prog X.w) X.A (eval b X.env) (λu d=>cXi (cXk X.prog X.w) X.A (f v u) Q X.xe d) X.xe c) X.xe s:=by
 refine thn (i pins s σ H _ I h) λv s1 ⟨x,H1,I1,r1,q1⟩=>?_;refine thn (j pins s1 σ H1 _ I1 q1) λu e ⟨y,H2,I2,r2,q2⟩=>?_;exact g v u e x y H2 I2 r1 r2 q2
def yV(d:OpR X (cJH op) r)(i:PE X a ta)(j:PE X b tb):PE X (.BinOp a op b pos) (tOp r ta tb):=by
 intro pins s σ H Q I h;exact wpAny_BinOp (bY7 i j I h λv u f x y H2 c e g q=>d pins f σ H2 x y v u Q c e g q)
def bQP{r:V->Hp->VK->Prop}(b:UnR X (unaryOp op) r)(c:PE X a ta):PE X (.UnaryOp op a pos) (tUn r ta):=by
 intro pins s σ H Q I h;exact UnaryOp_ (thn (c pins s σ H _ I h) λv s1 ⟨x,H1,I1,r1,q1⟩=>b pins s1 σ H1 x v Q I1 r1 q1)
def opI{f:cXb->cXb->Sem cXb}{C:Int->Int->Prop}{g:Int->Int->Int} (a:∀ (i j:Int)(t u:Tok)(s:cXd)(Q:cXb->cXd->Prop)(E:cXb->cXd->Prop),C i j->Q (.int (g i j) s.toks) {s with toks:=s.toks+1}->cXi (cXk X.prog X.w) X.A (f (.int i t) (.int j u)) Q E s): OpR X f (rI C λi j=> .int (g i j)):=by
 intro pins s σ H x y v u Q I b d h;obtain⟨i,j,rfl,rfl,c,q⟩:=h;obtain⟨t,rfl⟩:=b;obtain⟨e,rfl⟩:=d;exact a i j t e s _ _ c ⟨.int (g i j),H,I.tok _,⟨_,rfl⟩,q⟩
def cQE{f:cXb->cXb->Sem cXb}{g:Int->Int->Int} (a:∀ (i j:Int)(t u:Tok)(s:cXd)(Q:cXb->cXd->Prop)(E:cXb->cXd->Prop),Q (.int (g i j) s.toks) {s with toks:=s.toks+1}->cXi (cXk X.prog X.w) X.A (f (.int i t) (.int j u)) Q E s): OpR X f (rI0 λi j=> .int (g i j)):=by
 intro pins s σ H x y v u Q I b c h;obtain⟨i,j,rfl,rfl,q⟩:=h;obtain⟨t,rfl⟩:=b;obtain⟨d,rfl⟩:=c;exact a i j t d s _ _ ⟨.int (g i j),H,I.tok _,⟨_,rfl⟩,q⟩
def bYU{f:cXb->cXb->Sem cXb}{g:Int->Int->Bool} (a:∀ (i j:Int)(t u:Tok)(s:cXd)(Q:cXb->cXd->Prop)(E:cXb->cXd->Prop),Q (.bool (g i j)) s->cXi (cXk X.prog X.w) X.A (f (.int i t) (.int j u)) Q E s): OpR X f (rI0 λi j=> .bl (g i j)):=by
 intro pins s σ H x y v u Q I b c h;obtain⟨i,j,rfl,rfl,q⟩:=h;obtain⟨t,rfl⟩:=b;obtain⟨d,rfl⟩:=c;exact a i j t d s _ _ ⟨.bl (g i j),H,I,Ce,q⟩
def cQM(i j:Int):Prop:=0<j/\j<1073741824
def cQz(i j:Int):Prop:=0<=j/\j<=1000000/\i.natAbs<2 ^ 64
def bY0(i j:Int):Prop:=(-(2 ^ 64)<i/\i<2 ^ 64)\/(-(2 ^ 64)<j/\j<2 ^ 64)
def bY0.ok(h:bY0 i j):IntMulOk i j:=by
 rcases h with⟨h1,h2⟩|⟨h1,h2⟩
 ·exact .of_left (intBits_le_64 h1 h2)
 ·exact .of_right (intBits_le_64 h1 h2)
def zW:OpR X (cJH .Add) (rI0 λi j=> .int (i+j)):=cQE λ_ _ _ _ _ _ _ q=>add_int q
def uG:OpR X (cJH .Sub) (rI0 λi j=> .int (i - j)):=cQE λ_ _ _ _ _ _ _ q=>sub_int q
def aWv:OpR X (cJH .Mult) (rI bY0 λi j=> .int (i*j)):=opI λ_ _ _ _ _ _ _ a q=>mul_int q a.ok
def aQh:OpR X (cJH .FloorDiv) (rI cQM λi j=> .int (i / j)):=opI λi j _ _ _ _ _ a q=>by
 have h1:(0:Int)<j:=a.1;have h2:j<1073741824:=a.2;exact floordiv_int (by omega) (by rw[Int.fdiv_eq_ediv_of_nonneg i (by omega)];exact q) (.inl (PyProof.noPylong_small (by omega)))
def xD:OpR X (cJH .Mod) (rI (λ_ j=>0<j) λi j=> .int (i % j)):=opI λi j _ _ _ _ _ a q=>by
 have h1:(0:Int)<j:=a;exact mod_int' (by omega) (by rw[Int.fmod_eq_emod_of_nonneg i (by omega)];exact q)
def aXl:OpR X (cJH .Pow) (rI cQz λi j=> .int (i ^ j.toNat)):=opI λ_ _ _ _ _ _ _ a q=>pow_int_small a.1 a.2.1 a.2.2 q
def unI{f:cXb->Sem cXb}{g:Int->Int} (a:∀ (i:Int)(t:Tok)(s:cXd)(Q:cXb->cXd->Prop)(E:cXb->cXd->Prop),Q (.int (g i) s.toks) {s with toks:=s.toks+1}->cXi (cXk X.prog X.w) X.A (f (.int i t)) Q E s): UnR X f (rU λi=> .int (g i)):=by
 intro pins s σ H x v Q I b h;obtain⟨i,rfl,q⟩:=h;obtain⟨t,rfl⟩:=b;exact a i t s _ _ ⟨.int (g i),H,I.tok _,⟨_,rfl⟩,q⟩
def aJ4:UnR X (unaryOp .USub) (rU λi=> .int (-i)):=unI λ_ _ _ _ _ q=>neg_int q
end
def cQG:V->V->Bool
 |.non,.non=>true|.non,.int _=>true|.int _,.non=>true|.non,.bl _=>true|.bl _,.non=>true|.non,.str _=>true|.str _,.non=>true
 |.int _,.int _=>true|.bl _,.bl _=>true|.str _,.str _=>true|.byt _,.byt _=>true
 |.int _,.str _=>true|.str _,.int _=>true|.bl _,.str _=>true|.str _,.bl _=>true
 |_,_=>false
inductive rEq(x:V)(y:V)(H:Hp)(Q:VK):Prop|mk(h:cQG x y=true)(h:Q (.bl (decide (x=y))) H)
inductive rNe(x:V)(y:V)(H:Hp)(Q:VK):Prop|mk(h:cQG x y=true)(h:Q (.bl (!decide (x=y))) H)
def aYN:decide (V.int i=V.int j)=(i==j):=by
 rw[Bool.eq_iff_iff];simp
def bVe:decide (V.bl i=V.bl j)=(i==j):=by
 rw[Bool.eq_iff_iff];simp
def aYO:decide (V.str i=V.str j)=(i==j):=by
 rw[Bool.eq_iff_iff];simp
def aYM:decide (V.byt i=V.byt j)=(i.toList==j.toList):=by
 rw[Bool.eq_iff_iff];cases i;cases j;simp
section
variable {X:Cx}{a b c:Expr}{ta tb tc:TE}{pos:Pos}
def xY{pins:List (Addr×Obj)}{σ:St}{H:Hp}{s:cXd}{Q:VK}{k a:Bool}(I:Inv X pins σ H s)(q:Q (.bl k) H)(e:k=a):EP X pins σ Q (.bool a) s:=by
 subst e;exact⟨.bl k,H,I,Ce,q⟩
def zU:OpR X (cZN .Eq) rEq:=by
 intro pins s σ H x y v u Q I d a h;obtain⟨c,q⟩:=h;cases x with
 |non=>
  cases d;cases y with
  |non=>cases a;exact PySem.EqNone.eq_none_none (xY I q (by simp))
  |bl j=>cases a;exact PySem.EqNone.eq_none_bool (xY I q (by simp))
  |int j=>obtain⟨b,rfl⟩:=a;exact PySem.EqNone.eq_none_int (xY I q (by simp))
  |str j=>obtain⟨b,rfl⟩:=a;exact PySem.EqNone.eq_none_str (xY I q (by simp))
  |_=>exact absurd (show false=true from c) Bool.false_ne_true
 |bl i=>
  cases d;cases y with
  |non=>cases a;exact PySem.EqNone.eq_bool_none (xY I q (by simp))
  |bl j=>cases a;exact eq_bool (xY I q bVe)
  |str j=>obtain⟨b,rfl⟩:=a;exact PySem.EqMixed.eq_bool_str (xY I q (by simp))
  |_=>exact absurd (show false=true from c) Bool.false_ne_true
 |int i=>
  obtain⟨t,rfl⟩:=d;cases y with
  |non=>cases a;exact PySem.EqNone.eq_int_none (xY I q (by simp))
  |int j=>obtain⟨b,rfl⟩:=a;exact eq_int (xY I q aYN)
  |str j=>obtain⟨b,rfl⟩:=a;exact PySem.EqMixed.eq_int_str (xY I q (by simp))
  |_=>exact absurd (show false=true from c) Bool.false_ne_true
 |str i=>
  obtain⟨t,rfl⟩:=d;cases y with
  |non=>cases a;exact PySem.EqNone.eq_str_none (xY I q (by simp))
  |bl j=>cases a;exact PySem.EqMixed.eq_str_bool (xY I q (by simp))
  |int j=>obtain⟨b,rfl⟩:=a;exact PySem.EqMixed.eq_str_int (xY I q (by simp))
  |str j=>obtain⟨b,rfl⟩:=a;exact eq_str (xY I q aYO)
  |_=>exact absurd (show false=true from c) Bool.false_ne_true
 |byt i=>
  obtain⟨t,rfl⟩:=d;cases y with
  |byt j=>obtain⟨b,rfl⟩:=a;exact PySem.W.eq_bytes (xY I q aYM)
  |_=>exact absurd (show false=true from c) Bool.false_ne_true
 |_=>cases y<;> exact absurd (show false=true from c) Bool.false_ne_true
def J9:OpR X (cZN .NotEq) rNe:=by
 intro pins s σ H x y v u Q I d a h;obtain⟨c,q⟩:=h;cases x with
 |non=>
  cases d;cases y with
  |non=>cases a;exact PySem.EqNone.ne_none_none (xY I q (by simp))
  |bl j=>cases a;exact PySem.EqNone.ne_none_bool (xY I q (by simp))
  |int j=>obtain⟨b,rfl⟩:=a;exact PySem.EqNone.ne_none_int (xY I q (by simp))
  |str j=>obtain⟨b,rfl⟩:=a;exact PySem.EqNone.ne_none_str (xY I q (by simp))
  |_=>exact absurd (show false=true from c) Bool.false_ne_true
 |bl i=>
  cases d;cases y with
  |non=>cases a;exact PySem.EqNone.ne_bool_none (xY I q (by simp))
  |bl j=>cases a;exact ne_bool (xY I q (congrArg not bVe))
  |str j=>obtain⟨b,rfl⟩:=a;exact PySem.EqMixed.ne_bool_str (xY I q (by simp))
  |_=>exact absurd (show false=true from c) Bool.false_ne_true
 |int i=>
  obtain⟨t,rfl⟩:=d;cases y with
  |non=>cases a;exact PySem.EqNone.ne_int_none (xY I q (by simp))
  |int j=>obtain⟨b,rfl⟩:=a;exact ne_int (xY I q (congrArg not aYN))
  |str j=>obtain⟨b,rfl⟩:=a;exact PySem.EqMixed.ne_int_str (xY I q (by simp))
  |_=>exact absurd (show false=true from c) Bool.false_ne_true
 |str i=>
  obtain⟨t,rfl⟩:=d;cases y with
  |non=>cases a;exact PySem.EqNone.ne_str_none (xY I q (by simp))
  |bl j=>cases a;exact PySem.EqMixed.ne_str_bool (xY I q (by simp))
  |int j=>obtain⟨b,rfl⟩:=a;exact PySem.EqMixed.ne_str_int (xY I q (by simp))
  |str j=>obtain⟨b,rfl⟩:=a;exact ne_str (xY I q (congrArg not aYO))
  |_=>exact absurd (show false=true from c) Bool.false_ne_true
 |byt i=>
  obtain⟨t,rfl⟩:=d;cases y with
  |byt j=>obtain⟨b,rfl⟩:=a;exact PySem.W.ne_bytes (xY I q (congrArg not aYM))
  |_=>exact absurd (show false=true from c) Bool.false_ne_true
 |_=>cases y<;> exact absurd (show false=true from c) Bool.false_ne_true
def uN:OpR X (cZN .Lt) (rI0 λi j=> .bl (decide (i<j))):=bYU λ_ _ _ _ _ _ _ q=>lt_int q
def bQI:OpR X (cZN .LtE) (rI0 λi j=> .bl (decide (i<=j))):=bYU λ_ _ _ _ _ _ _ q=>le_int q
def aX0:OpR X (cZN .Gt) (rI0 λi j=> .bl (decide (j<i))):=bYU λ_ _ _ _ _ _ _ q=>gt_int q
def cQe:OpR X (cZN .GtE) (rI0 λi j=> .bl (decide (j<=i))):=bYU λ_ _ _ _ _ _ _ q=>ge_int q
inductive bWF(x:V)(y:V)(H:Hp)(Q:VK):Prop|mk(h:y= .non)(h:Q (.bl (decide (x= .non))) H)
def aZb:OpR X (cZN .Is) bWF:=by
 intro pins s σ H x y v u Q I a b h;obtain⟨rfl,q⟩:=h;cases b;refine is_none_gen (xY I q ?_);cases x<;> first
  |(cases a;rfl)
  |(obtain⟨t,rfl⟩:=a;rfl)
inductive bJb(x:V)(y:V)(H:Hp)(Q:VK):Prop|mk(h:y= .non)(h:Q (.bl (!decide (x= .non))) H)
def vB:OpR X (cZN .IsNot) bJb:=by
 intro pins s σ H x y v u Q I a b h;obtain⟨rfl,q⟩:=h;cases b;refine isnot_none_gen (xY I q ?_);cases x<;> first
  |(cases a;rfl)
  |(obtain⟨t,rfl⟩:=a;rfl)
def bVp(b:Expr)(h:op≠ .In:=by decide)(h2:op≠ .NotIn:=by decide):cJ5 op b=false:=by
 have c:(op==CmpOp.In)=false:=by cases op<;> first|rfl|exact absurd rfl h
 have a:(op==CmpOp.NotIn)=false:=by cases op<;> first|rfl|exact absurd rfl h2
 cases b<;> simp[cJ5,c,a]
def wN(d:OpR X (cZN op) r)(j:PE X a ta)(k:PE X b tb)(i:cJ5 op b=false:=by first|exact bVp _|with_unfolding_all rfl):PE X (.Compare a [op] [b] pos) (tOp r ta tb):=by
 intro pins s σ H Q I h;exact wpAny_Compare1 (bY7 j k I h λv u f x y H2 c e g q=>d pins f σ H2 x y v u Q c e g q) i
inductive bYL(Q:Bool->Hp->Prop)(x:V)(H':Hp):Prop|mk(k)(h:x= .bl k)(h:Q k H')
def bYK(t:TE):TT:=λσ H Q=>t σ H λx H'=>bYL Q x H'
def yM(f:OpR X (cZN op) r)(g:PE X a ta)(i:PE X b tb)(d:cJ5 op b=false:=by first|exact bVp _|with_unfolding_all rfl):PT X (.Compare a [op] [b] pos) (bYK (tOp r ta tb)):=by
 intro pins s σ H Q I h;refine wpAny_isTrue_Compare1 (thn (g pins s σ H _ I h) λv s1 ⟨x,H1,I1,r1,q1⟩=>thn (i pins s1 σ H1 _ I1 q1) λu s2 ⟨y,H2,I2,r2,q2⟩=>
  thn (f pins s2 σ H2 x y v u _ I2 r1 r2 q2) λc s3 ⟨z,H3,I3,r3,k,e,q3⟩=>?_) d
 subst e;cases r3;exact cJd ⟨H3,I3,q3⟩
inductive bKo(r':R2)(tc:TE)(σ:St)(Q:VK)(y:V)(z:V)(H3:Hp):Prop|mk(k)(h:z= .bl k)(h:(if k=true then tc σ H3 λw' H4=>r' y w' H4 Q else Q (.bl false) H3))
def bYF(r a:R2)(ta tb tc:TE):TE:=λσ H Q=>ta σ H λx H1=>tb σ H1 λy H2=>r x y H2 λz b=>bKo a tc σ Q y z b
def bJk(j:OpR X (cZN op) r)(g:OpR X (cZN f) i)(p:PE X a ta)(q:PE X b tb)(l:PE X c tc) (m:lastMarks [op,f] [b,c]=false:=by with_unfolding_all rfl):PT X (.Compare a [op,f] [b,c] pos) (bYK (bYF r i ta tb tc)):=by
 intro pins s σ H Q I h;refine isTrue_chain (thn (p pins s σ H _ I h) λv s1 ⟨x,H1,I1,r1,q1⟩=>test_link (thn (q pins s1 σ H1 _ I1 q1) λu s2 ⟨y,H2,I2,r2,q2⟩=>
  thn (j pins s2 σ H2 x y v u _ I2 r1 r2 q2) λd s3 ⟨z,H3,I3,r3,k,e,q3⟩=>?_)) m
 subst e;cases r3;refine cJd ?_;cases k with
 |false=>obtain⟨t,o,n⟩:=q3;cases o;exact ite_ff ⟨H3,I3,n⟩
 |true=>refine ite_tt (test_last (thn (l pins s3 σ H3 _ I3 q3) λw' s4 ⟨z',H4,I4,r4,q4⟩=>thn (g pins s4 σ H4 y z' u w' _ I4 r2 r4 q4) λd' s5 ⟨z2,H5,I5,r5,k2,e2,q5⟩=>?_));subst e2;cases r5;exact cJd ⟨H5,I5,q5⟩
def aJA:(cXy:Nat)<2 ^ 63:=by rw[cXC];decide
inductive aVF(x:V)(y:V)(H:Hp)(Q:VK):Prop|mk(i j)(h:x= .str i)(h:y= .str j)(h:i.length+j.length<=cXy)(h:Q (.str (i++j)) H)
def aX9:OpR X (cJH .Add) aVF:=by
 intro pins s σ H x y v u Q I b c h;obtain⟨i,j,rfl,rfl,a,q⟩:=h;obtain⟨t,rfl⟩:=b;obtain⟨d,rfl⟩:=c;exact add_str (λd tk=>⟨.str (i++j),H,I.tok _,⟨_,rfl⟩,q⟩) a
def aQt(r:zD [x] us):∃u,us= [u]/\wG x u:=by
 cases r with
 |cons a b=>cases b;exact⟨_,Ce,a⟩
def bYP(r:zD [x,y] us):∃u a,us= [u,a]/\wG x u/\wG y a:=by
 cases r with
 |cons b e=>
  cases e with
  |cons d c=>cases c;exact⟨_,_,Ce,b,d⟩
inductive aKf(xs:List V)(H:Hp)(Q:VK):Prop|mk(i j)(h:xs= [.int i,.int j])(h:Q (.int (if j > i then j else i)) H)
def aYD(b:X.calm=true):jZ X (.builtin "max") aKf:=by
 intro pins s σ H xs e Q I r h;obtain⟨i,j,rfl,q⟩:=h;obtain⟨u,c,rfl,⟨t,rfl⟩,⟨d,rfl⟩⟩:=bYP r;refine max_two_ints (I.ok.hd b) λh' tk k=>⟨_,H,I.kept k,?_,q⟩;by_cases a:j > i
 ·rw[if_pos a,if_pos a];exact⟨_,rfl⟩
 ·rw[if_neg a,if_neg a];exact⟨_,rfl⟩
inductive aKg(xs:List V)(H:Hp)(Q:VK):Prop|mk(i j)(h:xs= [.int i,.int j])(h:Q (.int (if j<i then j else i)) H)
def aYE(b:X.calm=true):jZ X (.builtin "min") aKg:=by
 intro pins s σ H xs e Q I r h;obtain⟨i,j,rfl,q⟩:=h;obtain⟨u,c,rfl,⟨t,rfl⟩,⟨d,rfl⟩⟩:=bYP r;refine min_two_ints (I.ok.hd b) λh' tk k=>⟨_,H,I.kept k,?_,q⟩;by_cases a:j<i
 ·rw[if_pos a,if_pos a];exact⟨_,rfl⟩
 ·rw[if_neg a,if_neg a];exact⟨_,rfl⟩
def uD:jZ X (.type As) (λxs H Q=>(∃i,xs= [.int i]/\Q (.int i) H)\/∃k,xs= [.bl k]/\Q (.int (if k then 1 else 0)) H):=by
 intro pins s σ H xs b Q I r h;rcases h with⟨i,rfl,q⟩|⟨k,rfl,q⟩
 ·obtain⟨u,rfl,t,rfl⟩:=aQt r;exact call_int_int ⟨.int i,H,I,⟨_,rfl⟩,q⟩
 ·obtain⟨u,rfl,a⟩:=aQt r;cases a;exact call_int_bool ⟨.int (if k then 1 else 0),H,I.tok _,⟨_,rfl⟩,q⟩
end
end L2
namespace L2
open PySem PySem.Spec PyProof.Rows
structure bVM(h:Heap)(x dx C:Addr)(mA:Str->Option cXb):Prop where
 obj:h.get? x=some (cJm C dx)
 ns:h.Ns1 dx mA
 ne:dx≠x
set_option tactic.hygienic true in
def aJB{h:Heap}{dx:Addr}{mA:Str->Option cXb}(n:h.Ns1 dx mA):∃c,h.get? dx=some c/\∀name,cWt name c=some (mA name):=by
 obtain⟨o,es,l,f,g,d,_,j⟩:=n;refine⟨o,f,λname=>?_⟩;have e:=j name;unfold nsFind findBy at e;rw[<- Array.find?_toList]at e;unfold cWt;rw[g];dsimp only;split
 ·rename_i y q;rw[q]at e;exact congrArg some e
 ·rename_i q;rw[q]at e;have a:es.toList.any (·.refKey)=false:=by
   rw[List.any_eq_false];intro y i;obtain⟨z,t,b⟩:=d y (Array.mem_toList_iff.mp i);simp[DictEntry.refKey,b]
  have k:¬es.toList.any (·.refKey)=true:=by rw[a];exact Bool.false_ne_true
  rw[if_neg k];exact congrArg some e
def bVM.look{mA:Str->Option cXb}(I:bVM h x dx C mA):∃a,PySem.W.InstAt h x (cJm C dx) C (some a)/\∀name,cWt name a=some (mA name):=
 let ⟨a,ho,hl⟩:=aJB I.ns
 ⟨a,⟨I.obj,Ce,Ce,ho⟩,hl⟩
section
variable {prog:cXB}{w:cXN}{A:cX8}{E:cXb->cXd->Prop}{s:cXd}{K:cXc}{x dx C f:Addr}{mA:Str->Option cXb}{name:Str}{v:cXb}
def bV4{Q:cXb->cXd->Prop}(X:K.In s.heap)(I:bVM s.heap x dx C mA)(e:cJY K C name=true)(f:cVd K C=true) (d:cXX K (.ref C) name=some none) (c:mA name=some v) (b:PySem.W.handedIn v=true) (h:Q v {s with toks:=s.toks+1}): cXi (cXk prog w) A (getAttr (.ref x) name a) Q E s:=by
 obtain⟨g,J,hl⟩:=I.look;exact PySem.W.get_value X J (cWr e).1 (PySem.W.findObj_own f d rfl (by rw[hl,c])) b h
def bZo{pl:Sem Bool}{Q:cXb×List cXb->cXd->Prop}(X:K.In s.heap)(I:bVM s.heap x dx C mA)(a:cJY K C name=true) (c:cXX K (.ref C) name=some (some (.ref f))) (e:cJX K (.ref f)=true) (b:mA name=none) (h:Q (.ref f,[.ref x]) s): cXi (cXk prog w) A (cVN (.ref x) name pl) Q E s:=by
 obtain⟨d,J,hl⟩:=I.look;exact PySem.W.method_fn X J (cWr a).1 (cWr a).2 c (beq_iff_eq.mp e) (by show(cWt name d).map (·.isSome)=some false;rw[hl,b];rfl) h
def bKi{Q:Unit->cXd->Prop}(X:K.In s.heap)(I:bVM s.heap x dx C mA) (p:cXX K (.ref C) B1=some (some (.builtin "object.__setattr__"))) (q:cVT K C=true) (k:PySem.W.takerIn K C name=some none) (n:cVd K C=true) (hw:PySem.Within mA j) (hsz:j.length<=cXy) (h:∀h',bVM h' x dx C (λy=>if y=name then some v else mA y)->cJf dx s.heap h'->Q () {s with heap:=h',toks:=s.toks+2}): cXi (cXk prog w) A (setAttr (.ref x) name v) Q E s:=by
 obtain⟨z,J,hl⟩:=I.look;refine PySem.W.set_plain X J p (PySem.W.osa_open (s:={s with toks:=s.toks+1}) (r:=none) X J q k λb=>?_);obtain⟨u,m,f⟩:=PySem.W.any_some n;have l:s.heap.get? x=some ⟨.ref C,some dx,.plain, #[]⟩:=I.obj;refine cXa (cXf (cXa (cXa (wpAny_loadPart l (cXa (PySem.W.Looks.here (s:={s with toks:=s.toks+1}) (PySem.W.looks_clsIn X m) ?_))))));rw[f];refine cXf (a:=some dx) (cXa (cXf (cXa ?_)));refine wpAny_nsSet1 (s:={s with toks:=s.toks+1}) I.ns λh' d c=>?_;obtain⟨B,t,o,g,e,i⟩:=d.count (PySem.Within.cons name v hw);refine cXa (wpAny_lookBehind g (by rw[e];exact pastItsLine_dict (cXJ i (by rw[cZb];omega))) ?_);exact cXf (h _ ⟨(c.2 _ (cXT I.ne)).trans I.obj,d,I.ne⟩ c)
def bZH{R:Result->cXd->Prop}(X:K.In s.heap)(b:PySem.W.makesIn K C=true) (hi:cXX K (.ref C) AF=some (some (.ref f))) (c:PySem.W.typeIn K (.ref f)=some (.type "function")) (h:cJq (cXk prog w) (A.under (.builtin "type.__call__" ⟨.ref C::vs,a⟩)) (.call (.ref f) ⟨.ref (s.heap.objs.size+1)::vs,a⟩) (PySem.W.InitBack (s.heap.objs.size+1) R) {s with heap:=(s.heap.push cZ1).push (cJm C s.heap.objs.size) }): cJq (cXk prog w) A (.call (.ref C) ⟨vs,a⟩) R s:=by
 obtain⟨i,g,d,t,e⟩:=s;exact PySem.W.make_core (PySem.W.makes_of X b) (PySem.W.looks_findIn X hi) (λself=>PySem.W.bind_fn X self c) (.inl rfl) h
end
def aX2(f:Str)(v:V):List (Str×V)->List (Str×V)
 |[]=> [(f,v)]
 |(g,x)::r=>if g=f then(g,v)::r else(g,x)::aX2 f v r
theorem aXj(f g:Str)(v:V):∀fs:List (Str×V),(aX2 f v fs).lookup g=if g=f then some v else fs.lookup g
 |[]=>by
  show cJx g [(f,v)]=_;by_cases h:g=f
  ·have a:(g==f)=true:=beq_iff_eq.mpr h;simp only[cJx,a,if_pos h]
  ·have a:(g==f)=false:=beq_eq_false_iff_ne.mpr h;simp only[cJx,a,if_neg h]
 |(k,x)::r=>by
  have c:=aXj f g v r;rw[show aX2 f v ((k,x)::r)=(if k=f then(k,v)::r else(k,x)::aX2 f v r)from rfl];by_cases b:k=f
  ·rw[if_pos b];by_cases h:g=k
   ·have a:(g==k)=true:=beq_iff_eq.mpr h;simp only[cJx,a,if_pos (h.trans b)]
   ·have a:(g==k)=false:=beq_eq_false_iff_ne.mpr h;simp only[cJx,a,if_neg (λe:g=f=>h (e.trans b.symm))]
  ·rw[if_neg b];by_cases h:g=k
   ·have a:(g==k)=true:=beq_iff_eq.mpr h;simp only[cJx,a,if_neg (λe:g=f=>b (h.symm.trans e))]
   ·have a:(g==k)=false:=beq_eq_false_iff_ne.mpr h;simp only[cJx,a];exact c
theorem aQ8(f:Str)(v:V):∀fs:List (Str×V),f∈(aX2 f v fs).map (·.1)/\∀g,g∈fs.map (·.1)->g∈(aX2 f v fs).map (·.1)
 |[]=>⟨by simp[aX2],λg h=>by simp at h⟩
 |(k,x)::r=>by
  obtain⟨b,c⟩:=aQ8 f v r;rw[show aX2 f v ((k,x)::r)=(if k=f then(k,v)::r else(k,x)::aX2 f v r)from rfl];by_cases a:k=f
  ·rw[if_pos a];subst a;exact⟨by simp,λg h=>by simpa using h⟩
  ·rw[if_neg a];refine⟨?_,λg h=>?_⟩
   ·rw[cXO];exact cXl _ b
   ·rw[cXO]at h ⊢;rcases cXj.mp h with e|e
    ·exact cXj.mpr (.inl e)
    ·exact cXl _ (c g e)
theorem aXh(f:Str)(v:V):∀fs:List (Str×V),(aX2 f v fs).length<=fs.length+1
 |[]=>by simp[aX2]
 |(k,x)::r=>by
  have b:=aXh f v r;rw[show aX2 f v ((k,x)::r)=(if k=f then(k,v)::r else(k,x)::aX2 f v r)from rfl];by_cases a:k=f
  ·rw[if_pos a,cZb,cZb];omega
  ·rw[if_neg a,cZb,cZb];omega
def aZ7.some_of(r:aZ7 (some v) o):∃u,o=some u/\wG v u:=by
 cases o with
 |none=>exact(show False from r).elim
 |some u=>exact⟨u,Ce,r⟩
def aZ7.none_of(r:aZ7 none o):o=none:=by
 cases o with
 |none=>rfl
 |some u=>exact(show False from r).elim
def aJp(r:wG v u):PySem.W.handedIn u=true:=by
 cases v with
 |non=>cases (show u=Value.none from r);rfl
 |bl b=>cases (show u=Value.bool b from r);rfl
 |int i=>obtain⟨t,e⟩:=(show ∃t,u=Value.int i t from r);cases e;rfl
 |str x=>obtain⟨t,e⟩:=(show ∃t,u=Value.str x t from r);cases e;rfl
 |byt b=>obtain⟨t,e⟩:=(show ∃t,u=Value.bytes b t from r);cases e;rfl
 |flt b=>obtain⟨t,e⟩:=(show ∃t,u=Value.float b t from r);cases e;rfl
 |ref a=>cases (show u=Value.ref a from r);rfl
 |ty n=>cases (show u=Value.type n from r);rfl
section
variable {P:cXB}{w:cXN}{H H':Hp}{h h':Heap}{a C dx:Addr}{fs fs':List (Str×V)}
def aQ5(b:HOk P w H h)(e:H a=some (.ins C dx fs)):∃mA,bVM h a dx C mA/\(∀f,aZ7 (fs.lookup f) (mA f))/\PySem.Within mA (fs.map (·.1))/\fs.length<=1000/\H dx=some (.own a):=by
 obtain⟨d,z,ne,c,mA,n,r,q⟩:=(show zT P w H h a (.ins C dx fs)from b a _ e);exact⟨mA,⟨c,n,ne⟩,r,q,z,d⟩
end
structure Cls(K:cXc)(C:Addr):Prop where
 pg:cJY K C Str.empty=true
 hd:cVd K C=true
 po:cVT K C=true
 sa:cXX K (.ref C) B1=some (some (.builtin "object.__setattr__"))
def Cls.get{K:cXc}{C:Addr}(c:Cls K C)(f:Str):cJY K C f=true:=c.pg
def vM(K:cXc)(C:Addr)(f:Str):Prop:=cXX K (.ref C) f=some none
def vM.taker{K:cXc}{C:Addr}{f:Str}(n:vM K C f):PySem.W.takerIn K C f=some none:=by
 unfold PySem.W.takerIn;rw[show cXX K (.ref C) f=some none from n];rfl
structure bKw(K:cXc)(C:Addr)(m:Str)(f:Addr):Prop where
 at_:cXX K (.ref C) m=some (some (.ref f))
 fn:cJX K (.ref f)=true
 kp:cX7 K (.ref f)=true
section
variable {X:Cx}{pins:List (Addr×Obj)}{σ:St}{H:Hp}{s:cXd}{a C dx:Addr}{fs:List (Str×V)}{f:Str}{v:V}{A:cX8}{E:cXb->cXd->Prop}
def aKr{Q:cXb->cXd->Prop}(I:Inv X pins σ H s)(e:H a=some (.ins C dx fs))(c:Cls X.K C)(n:vM X.K C f)(l:fs.lookup f=some v) (h:∀u s',Inv X pins σ H s'->wG v u->Q u s'):cXi (cXk X.prog X.w) A (getAttr (.ref a) f b) Q E s:=by
 obtain⟨mA,O,r,_,_,_⟩:=aQ5 I.hok e;obtain⟨u,g,d⟩:=aZ7.some_of (v:=v) (o:=mA f) (by rw[<- l];exact r f);exact bV4 I.kIn O (c.get f) c.hd n g (aJp d) (h u _ (I.tok _) d)
def aQc{pl:Sem Bool}{Q:cXb×List cXb->cXd->Prop}(I:Inv X pins σ H s)(e:H a=some (.ins C dx fs))(c:Cls X.K C)(k:bKw X.K C m g)(l:fs.lookup m=none) (h:Q (.ref g,[.ref a]) s):cXi (cXk X.prog X.w) A (cVN (.ref a) m pl) Q E s:=by
 obtain⟨mA,O,r,_,_,_⟩:=aQ5 I.hok e;have b:mA m=none:=aZ7.none_of (by rw[<- l];exact r m);exact bZo I.kIn O (c.get m) k.at_ k.fn b h
def aYo{Q:Unit->cXd->Prop}(I:Inv X pins σ H s)(e:H a=some (.ins C dx fs))(c:Cls X.K C)(n:vM X.K C f)(hl:fs.length<1000)(p:wG y u) (h:∀s',Inv X pins σ (upd H a (.ins C dx (aX2 f y fs))) s'->Q () s'):cXi (cXk X.prog X.w) A (setAttr (.ref a) f u) Q E s:=by
 obtain⟨mA,O,r,j,_,i⟩:=aQ5 I.hok e;have k:(fs.map (·.1)).length<=cXy:=by rw[cXe,cXC];omega
 refine bKi I.kIn O c.sa c.po n.taker c.hd j k λh' d v=>h _ ?_;have m:∃o,h'.get? dx=some o:=let ⟨o,_,_,e',_⟩:=d.ns;⟨o,e'⟩;refine I.write (x:=a) (e:=dx) (by rw[e];exact cZu) (.inr i) (λb q t z=>(v.2 b t).trans z) m ?_;refine⟨by rw[yJ O.ne];exact i,?_,O.ne,d.obj,_,d.ns,λg=>?_,λg l=>?_⟩
 ·have:=aXh f y fs;omega
 ·show aZ7 ((aX2 f y fs).lookup g) (if g=f then some u else mA g);rw[aXj];by_cases q:g=f
  ·rw[if_pos q,if_pos q];exact p
  ·rw[if_neg q,if_neg q];exact r g
 ·by_cases q:g=f
  ·rw[q];exact(aQ8 f y fs).1
  ·refine(aQ8 f y fs).2 g (j g λz=>l ?_);show(if g=f then some u else mA g)=none;rw[if_neg q];exact z
def Inv.made(I:Inv X pins σ H s):Inv X pins σ (upd (upd H s.heap.objs.size (.own (s.heap.objs.size+1))) (s.heap.objs.size+1) (.ins C s.heap.objs.size [])) {s with heap:=(s.heap.push cZ1).push (cJm C s.heap.objs.size) }:=by
 have c:(s.heap.push cZ1).get? s.heap.objs.size=some cZ1:=cXA s.heap rfl;have d:((s.heap.push cZ1).push (cJm C s.heap.objs.size)).get? (s.heap.objs.size+1)=some (cJm C s.heap.objs.size):=by have:=cXA (s.heap.push cZ1) (o:=cJm C s.heap.objs.size) rfl;rwa [cZE]at this
 have i:(s.heap.push cZ1).Ns s.heap.objs.size (λ_=>none):=⟨cZ1, #[],_,c,Ce,(λe h=>absurd h (by simp)),λ_=>rfl⟩;have g:=I.laid (a:=s.heap.objs.size) (o:= .own (s.heap.objs.size+1)) (h':=s.heap.push cZ1) (t':=s.toks) (λb u q=>cXg _ q) (cXh _) ⟨_,c⟩;refine g.laid (a:=s.heap.objs.size+1) (o:= .ins C s.heap.objs.size []) (t':=s.toks) (λb u q=>cXg _ q) (cJV (cZE _ _)) ?_;have ne:s.heap.objs.size≠s.heap.objs.size+1:=cXx (cZI _);refine⟨by rw[yJ ne,yB],cZc _,ne,d,λ_=>none,(Heap.Ns1.of_empty i).at λo q=>cXg _ q,λ_=>cZu,λy f=>absurd rfl f⟩
def aYA{Q:cXb->cXd->Prop}(b:cJ4 e f env (eval e env)=eval e env) (h:cXi (cXk prog w) A (eval e env) (λo a=>cXi (cXk prog w) A (getAttr o f true) Q E a) E s):cXi (cXk prog w) A (eval (.Attribute e f pos) env) Q E s:=
 Attribute_any_ h (by rw[arm_eval_Attribute,b])
end
inductive cQr(K:cXc)(f:Str)(Q:VK)(x:V)(H1:Hp):Prop|mk(a C dx fs v)(h:x= .ref a)(h:H1 a=some (.ins C dx fs))(h:Cls K C)(h:vM K C f)(h:fs.lookup f=some v)(h:Q v H1)
def cQH(K:cXc)(ta:TE)(f:Str):TE:=λσ H Q=>ta σ H λx H1=>cQr K f Q x H1
inductive cQn(K:cXc)(f:Str)(D:bX3)(σ:St)(y:V)(x:V)(H2:Hp):Prop|mk(a C dx fs)(h:x= .ref a)(h:H2 a=some (.ins C dx fs))(h:Cls K C)(h:vM K C f)(h:fs.length<1000)(h:D.nx σ (upd H2 a (.ins C dx (aX2 f y fs))))
def cQ1(K:cXc)(ta tv:TE)(f:Str):TS:=λD σ H=>tv σ H λy H1=>ta σ H1 λx H2=>cQn K f D σ y x H2
section
variable {X:Cx}{o e value:Expr}{f:Str}{pos pos' tpos:Pos}{ta tv:TE}
def xC(g:PE X e ta)(i:cJ4 e f X.env (eval e X.env)=eval e X.env):PE X (.Attribute e f pos) (cQH X.K ta f):=by
 intro pins s σ H Q I h;refine aYA i (thn (g pins s σ H _ I h) λu s1 ⟨x,H1,I1,rx,a,C,dx,fs,v,ex,ea,c,n,l,q⟩=>?_);subst ex;obtain rfl:u=Value.ref a:=rx;exact aKr I1 ea c n l λk j b d=>⟨v,H1,b,d,q⟩
def wL(g:PE X o ta)(b:PE X value tv)(e:swapsWith value (some (.Attribute o f pos')) pos.line X.env=pure false):PS X (.Assign [.Attribute o f pos'] value pos) (cQ1 X.K ta tv f):=by
 intro pins s σ H D I h;refine cWb (thn (b pins s σ H _ I h) λu s1 ⟨y,H1,I1,ry,q⟩=>thn (g pins s1 σ H1 _ I1 q) λov s2 ⟨x,H2,I2,rx,a,C,dx,fs,ex,ea,c,n,l,q2⟩=>?_) e;subst ex;obtain rfl:ov=Value.ref a:=rx;exact aYo I2 ea c n l ry λi d=>⟨σ,_,d,q2⟩
def bWk{pl:Sem Bool}{Q:cXb->cXd->Prop}(i:PE X e te)(I:Inv X pins σ H s)
  (h:te σ H λx H1=>∃a C dx fs g,x= .ref a/\H1 a=some (.ins C dx fs)/\Cls X.K C/\bKw X.K C m g/\fs.lookup m=none/\
   ∀b,Inv X pins σ H1 b->cXi (cXk X.prog X.w) X.A (callWith pos (.ref g) [.ref a] (cZW pos (cXR args X.env)) (cVw pos (cJy [] X.env))) Q X.xe b)
  (d:eval (.Call (.Attribute e m apos) args [] pos) X.env=(do
   let ov <- eval e X.env
   standAt apos.atName
   let (f,first) <- cVE [ov] (cVN ov m pl)
   callWith pos f first (cZW pos (cXR args X.env)) (cVw pos (cJy [] X.env)))):
  cXi (cXk X.prog X.w) X.A (eval (.Call (.Attribute e m apos) args [] pos) X.env) Q X.xe s:=by
 refine cVi (pl:=pl) (thn (i pins s σ H _ I h) λu b ⟨x,H1,I1,rx,a,C,dx,fs,g,ex,ea,c,k,l,q⟩=>?_) d
 subst ex
 obtain rfl:u=Value.ref a:=rx
 exact aQc I1 ea c k l (q b I1)
end
section
variable {X:Cx}{pins:List (Addr×Obj)}{σ:St}{H:Hp}{s:cXd}{A:cX8}{E:cXb->cXd->Prop}{Q:cXb->cXd->Prop}{c:cXb}{b:Bool}
inductive aJ9(K:cXc)(H:Hp):V->cXb->Prop where
 |non:aJ9 K H .non (.type "NoneType")
 |bl (x:Bool):aJ9 K H (.bl x) (.type Al)
 |int (i:Int):aJ9 K H (.int i) (.type As)
 |str (x:Str):aJ9 K H (.str x) (.type At)
 |flt (x:UInt64):aJ9 K H (.flt x) (.type "float")
 |lst {a:Addr} {xs:List V} (e:H a=some (.lst xs)):aJ9 K H (.ref a) (.type AC)
 |frz {a:Addr} {o:Obj} {xs:List V} (e:H a=some (.frz o (.lst xs))):aJ9 K H (.ref a) (.type AC)
 |tup {a:Addr} {xs:List V} (e:H a=some (.tup xs)):aJ9 K H (.ref a) (.type AE)
 |dK {a:Addr} {kvs:List (Key×V)} (e:H a=some (.dK kvs)):aJ9 K H (.ref a) (.type "dict")
 |dT {a:Addr} {kvs:List (List Key×V)} (e:H a=some (.dT kvs)):aJ9 K H (.ref a) (.type "dict")
 |ins {a C dx:Addr} {fs:List (Str×V)} (e:H a=some (.ins C dx fs)) (cl:Cls K C) (ha:cXX K (.ref C) "__class__"=some (some (.builtin "object.__class__")))
   (hn:cVU K (.builtin "object.__class__") "__get__"=some (some (.builtin "getset_descriptor.__get__"))) (htk:PySem.W.takesIn K (.builtin "object.__class__")=some true)
   (hm:cVz K C (.type "object")=some true):aJ9 K H (.ref a) (.ref C)
def aY1{u t:cXb}(I:Inv X pins σ H s)(d:wG x u)(ty:aJ9 X.K H x t)(e:cX5 X.K t c=some b)(h:∀tk,Q (.bool b) {s with toks:=tk}): cXi (cXk X.prog X.w) A (call (.builtin Aa) [u,c]) Q E s:=by
 cases ty with
 |non=>cases (show u=Value.none from d);exact cZU PySem.W.kitx_none I.kIn cZu e (λz=>nomatch z) h
 |bl y=>cases (show u=Value.bool y from d);exact cZU PySem.W.kitx_bool I.kIn cZu e (λz=>nomatch z) h
 |int i=>obtain⟨t,q⟩:=(show ∃t,u=Value.int i t from d);cases q;exact cZU PySem.W.kitx_int I.kIn cZu e (λz=>nomatch z) h
 |str y=>obtain⟨t,q⟩:=(show ∃t,u=Value.str y t from d);cases q;exact cZU PySem.W.kitx_str I.kIn cZu e (λz=>nomatch z) h
 |flt y=>obtain⟨t,q⟩:=(show ∃t,u=Value.float y t from d);cases q;exact cZU PySem.W.kitx_float I.kIn cZu e (λz=>nomatch z) h
 |@lst a xs f=>cases (show u=Value.ref a from d);obtain⟨_,_,n,_,h1⟩:=(show zT X.prog X.w H s.heap a (.lst xs)from I.hok a _ f);exact cZU cVS I.kIn ⟨_,h1,rfl⟩ e (λz=>nomatch z) h
 |@frz a k xs f=>cases (show u=Value.ref a from d);obtain⟨_,_,_,n,_,h1⟩:=(show zT X.prog X.w H s.heap a (.frz k (.lst xs))from I.hok a _ f);exact cZU cVS I.kIn ⟨_,h1,rfl⟩ e (λz=>nomatch z) h
 |@tup a xs f=>cases (show u=Value.ref a from d);obtain⟨_,_,_,p⟩:=(show zT X.prog X.w H s.heap a (.tup xs)from I.hok a _ f);obtain⟨o,h1,h2,_⟩:=p;exact cZU PySem.W.kitx_tuple I.kIn ⟨o,h1,h2⟩ e (λz=>nomatch z) h
 |@dK a g f=>cases (show u=Value.ref a from d);obtain⟨_,_,D,_,p⟩:=(show zT X.prog X.w H s.heap a (.dK g)from I.hok a _ f);obtain⟨o,es,r,h1,h2,_⟩:=p;exact cZU cVR I.kIn ⟨o,h1,h2.1⟩ e (λz=>nomatch z) h
 |@dT a g f=>cases (show u=Value.ref a from d);obtain⟨_,_,xs,_,o,es,r,h1,h2,_⟩:=(show zT X.prog X.w H s.heap a (.dT g)from I.hok a _ f);exact cZU cVR I.kIn ⟨o,h1,h2.1⟩ e (λz=>nomatch z) h
 |@ins a C dx fs f cl v l j m=>cases (show u=Value.ref a from d);obtain⟨mA,O,_⟩:=aQ5 I.hok f;obtain⟨B,J,_⟩:=O.look;exact cZU (PySem.W.kitx_own (cl.get _) cl.hd v l j m) I.kIn J e (λz=>nomatch z) h
end
end L2
namespace L2
open PySem PySem.Spec PyProof.Rows
structure uT(k:Nat)(A:cX8):Prop where
 hd:A.handled=none
 dp:A.depth+3*k+5<recursionLimit
 un:A.units+16*k+200<cLine
def uT.mono{j k:Nat}(r:uT k A)(h:j<=k):uT j A:=⟨r.hd,by have:=r.dp;omega,by have:=r.un;omega⟩
def uT.deeper{k:Nat}(r:uT (k+1) A)(env:Env):uT k (A.deeper env):=
 ⟨r.hd,by have:=r.dp;show A.depth+1+3*k+5<_;omega,by have:=r.un;show A.units+3+16*k+200<_;omega⟩
def aKD{A:cX8}{C:Addr}{us:List cXb}{a:List (Str×cXb)}:(A.under (.builtin "type.__call__" ⟨.ref C::us,a⟩)).depth=A.depth+1:=by
 first|rfl|simp[Around.under,Code.weight,Code.isCreation,Code.isGuard,Code.isCaller,Code.frames,Code.isFrame,guardIds]
def aKE{A:cX8}{C:Addr}{us:List cXb}{a:List (Str×cXb)}:(A.under (.builtin "type.__call__" ⟨.ref C::us,a⟩)).units=A.units+1:=by
 first|rfl|simp[Around.under,Code.cUnits,Code.frames,Code.isFrame]
def uT.make{k:Nat}(r:uT (k+1) A)(C:Addr)(us:List cXb)(a:List (Str×cXb)):uT k (A.under (.builtin "type.__call__" ⟨.ref C::us,a⟩)):=
 ⟨r.hd,by have:=r.dp;rw[aKD];omega,by have:=r.un;rw[aKE];omega⟩
def uT.depth{k:Nat}(r:uT k A):A.depth<recursionLimit:=by have:=r.dp;omega
def uT.units{k:Nat}(r:uT k A):A.units+64<cLine:=by have:=r.un;omega
def uT.units0{k:Nat}(r:uT k A):A.units<cLine:=by have:=r.un;omega
def bXW:TA:=λ_ H Q=>Q [] H
def aYr(ta:TE)(a:TA):TA:=λσ H Q=>ta σ H λx H1=>a σ H1 λxs H2=>Q (x::xs) H2
section
variable {X:Cx}{e:Expr}{es:List Expr}{te:TE}{t:TA}{pos:Pos}
def yD:PA X [] bXW:=λ_ _ _ _ H Q I h=>Calls.spliced_nil ⟨[],H,I,.nil,h⟩
def yA(c:PE X e te)(a:PA X es t)(b:cXR (e::es) X.env=(false,eval e X.env)::cXR es X.env:=by rfl):PA X (e::es) (aYr te t):=by
 intro pos pins s σ H Q I h;rw[b];show cXi _ _ (spliced ((false,eval e X.env)::cZW pos (cXR es X.env))) _ _ s;refine Calls.spliced_cons (thn (c pins s σ H _ I h) λu s1 ⟨x,H1,I1,r1,q1⟩=>?_);exact thn (a pos pins s1 σ H1 _ I1 q1) λus s2 ⟨xs,H2,I2,r2,q2⟩=>⟨x::xs,H2,I2,.cons r1 r2,q2⟩
inductive cQx(Q:VK)(xs:List V)(H1:Hp):Prop|mk(h:xs.length<=cXy)(h:∀p,H1 p=none->Q (.ref p) (upd H1 p (.tup xs)))
def cQK(t:TA):TE:=λσ H Q=>t σ H λxs H1=>cQx Q xs H1
inductive cQs(Q:VK)(xs:List V)(H1:Hp):Prop|mk(h:xs.length<=cXy)(h:∀p,H1 p=none->Q (.ref p) (upd H1 p (.lst xs)))
def cQI(t:TA):TE:=λσ H Q=>t σ H λxs H1=>cQs Q xs H1
def xK{x1}(h:PA X es t):PE X (.Tuple es x1 pos) (cQK t):=by
 intro pins s σ H Q I a;refine wpAny_Tuple_spliced (thn (h pos pins s σ H _ I a) λus s1 ⟨xs,H1,I1,r,z,q⟩=>⟨by rw[<- r.length];exact z,?_⟩);have c:H1 s1.heap.objs.size=none:=I1.hok.fresh (cXh _);refine⟨.ref s1.heap.objs.size,upd H1 s1.heap.objs.size (.tup xs),I1.laid (t':=s1.toks) (λb u e=>cXg _ e) (cXh _) ?_,Ce,q _ c⟩;exact⟨z,us,r,⟨_,cXA _ rfl,Ce,_,rfl⟩⟩
def xB(h:PA X es t):PE X (.List es pos) (cQI t):=by
 intro pins s σ H Q I a;refine wpAny_List_spliced (thn (h pos pins s σ H _ I a) λus s1 ⟨xs,H1,I1,r,z,q⟩=>⟨by rw[<- r.length];exact z,?_⟩);have c:H1 s1.heap.objs.size=none:=I1.hok.fresh (cXh _);refine⟨.ref s1.heap.objs.size,upd H1 s1.heap.objs.size (.lst xs),I1.laid (t':=s1.toks) (λb u e=>cXg _ e) (cXh _) ?_,Ce,q _ c⟩;exact⟨z,us,0,r,cXA _ rfl⟩
end
abbrev Sp:=List V->Hp->VK->XK->Prop
abbrev CXT:=List Env->Hp->cXd->XK->cXb->cXd->Prop
structure bVJ(P:cXB)(w:cXN)(K:cXc)(mg:Str->Option cXb)(base:Heap)(A:cX8)(outer:List Env)(s:cXd)(H:Hp):Prop where
 frames:A.frames=some outer
 mod:Mod K mg base
 bs:∀b o,base.get? b=some o->s.heap.get? b=some o/\H b=none
 bsz:base.objs.size<=s.heap.objs.size
 funs:s.heap.FunFrames base outer
 frf:∀b∈frs outer,H b=none
 hok:HOk P w H s.heap
 bare:AllBare s.gens
def CE(outer:List Env)(P:cXB)(w:cXN)(H:Hp)(s:cXd)(Q:VK)(u:cXb)(s':cXd):Prop:=
 ∃v H',s'.os=s.os/\AllBare s'.gens/\Un (frs outer) [] H H' s.heap s'.heap/\HOk P w H' s'.heap/\wG v u/\Q v H'
def CR(CX:CXT)(outer:List Env)(P:cXB)(w:cXN)(H:Hp)(s:cXd)(Q:VK)(E:XK)(r:Result)(s':cXd):Prop:=
 match r with
 |.ok (.ret u)=>CE outer P w H s Q u s'
 |.ok _=>False
 |.error e=>CX outer H s E e s'
structure xL(P:cXB)(w:cXN)(K:cXc)(mg:Str->Option cXb)(base:Heap)(CX:CXT)(k:Nat)(f:Addr)(fd:cJc)(ps:List Str)(sp:Sp):Prop where
 len:∀vs H Q E,sp vs H Q E->vs.length=ps.length
 run:∀ (A:cX8)(outer:List Env)(s:cXd)(H:Hp)(args:Args)(us:List cXb)(vs:List V)(Q:VK)(E:XK),uT k A->bVJ P w K mg base A outer s H->BindsTo s fd args (ps.zip us)->zD vs us->sp vs H Q E->
  cJq (cXk P w) A (.call (.ref f) args) (CR CX outer P w H s Q E) s
def xL.mono{P:cXB}{w:cXN}{K:cXc}{mg:Str->Option cXb}{base:Heap}{CX:CXT}{j k:Nat}{f:Addr}{fd:cJc}{ps:List Str}{sp:Sp}(F:xL P w K mg base CX j f fd ps sp)(h:j<=k):
  xL P w K mg base CX k f fd ps sp:=⟨F.len,λA outer s H args c b Q E a=>F.run A outer s H args c b Q E (a.mono h)⟩
def bVJ.make{P:cXB}{w:cXN}{K:cXc}{mg:Str->Option cXb}{base:Heap}{A:cX8}{outer:List Env}{s:cXd}{H:Hp}(e:bVJ P w K mg base A outer s H)(C:Addr)(us:List cXb)(a:List (Str×cXb)):
  bVJ P w K mg base (A.under (.builtin "type.__call__" ⟨.ref C::us,a⟩)) outer s H:=⟨by first|exact e.frames|(simpa[Around.under,Code.envs,Code.isFrame,pushEnvs]using e.frames),e.mod,e.bs,e.bsz,e.funs,e.frf,e.hok,e.bare⟩
section
variable {X:Cx}{pins:List (Addr×Obj)}{σ:St}{H:Hp}{s s':cXd}
def Inv.env0(I:Inv X pins σ H s):bVJ X.prog X.w X.K X.mg X.base X.A X.stack s H:=
 ⟨I.ok.frames,I.ok.mod,I.bs,cXJ I.ok.bsz I.sz,I.stack,I.stkFree,I.hok,I.bare⟩
def Inv.after{Q:VK}(I:Inv X pins σ H s)(h:CE X.stack X.prog X.w H s Q u s'):EP X pins σ Q u s':=by
 obtain⟨v,H',e,bare,un,c,r,q⟩:=h;obtain⟨f,g,d,t,a⟩:=s';obtain rfl:a=s.os:=e;exact⟨v,H',I.call (h':=f) (g':=g) (d':=d) (t':=t) (ch:= []) un c bare (λb z=>absurd z (by simp)),r,q⟩
end
def aYq(sp:Sp)(dvs:List V)(E:XK)(t:TA):TE:=λσ H Q=>t σ H λa H1=>sp (a++dvs) H1 Q E
inductive bYH(C:Addr)(m:Str)(sp:Sp)(dvs:List V)(E:XK)(t:TA)(σ:St)(Q:VK)(x:V)(H1:Hp):Prop|mk(a dx fs)(h:x= .ref a)(h:H1 a=some (.ins C dx fs))(h:fs.lookup m=none)(h:t σ H1 λvs H2=>sp (x::(vs++dvs)) H2 Q E)
def bJV(C:Addr)(m:Str)(sp:Sp)(dvs:List V)(E:XK)(ta:TE)(t:TA):TE:=λσ H Q=>ta σ H λx H1=>bYH C m sp dvs E t σ Q x H1
def bJU(C:Addr)(sp:Sp)(dvs:List V)(E:XK)(t:TA):TE:=λσ H Q=>t σ H λa H1=>∀x dx,H1 x=none->H1 dx=none->dx≠x->
 sp (.ref x::(a++dvs)) (upd (upd H1 dx (.own x)) x (.ins C dx [])) (λv H2=>v= .non/\Q (.ref x) H2) E
def uY(K:cXc)(fd:cJc)(ps:List Str)(ds:List cXb):Prop:=
 ∀ (s:cXd)(a:List cXb),K.In s.heap->(a++ds).length=ps.length->BindsTo s fd ⟨a,[]⟩ (ps.zip (a++ds))
def uY.all{K:cXc}{fd:cJc}{ps:List Str}(h:∀a:List cXb,a.length=ps.length->cJI fd ⟨a,[]⟩=pure (ps.zip a)):uY K fd ps []:=λs a _ hl=>by
 rw[cZg]at hl ⊢;exact .of_eq (h a hl)
def uC(CX:CXT)(X:Cx)(E:XK):Prop:=∀ (pins:List (Addr×Obj))(σ:St)(H:Hp)(s:cXd)(e:cXb)(s':cXd),Inv X pins σ H s->CX X.stack H s E e s'->X.xe e s'
section
variable {X:Cx}{CX:CXT}{k:Nat}{f C:Addr}{fd:cJc}{ps:List Str}{sp:Sp}{dvs:List V}{ds:List cXb}{E:XK}{x m:Str}{p pos apos:Pos}{e o:Expr}{es:List Expr}{ta:TE}{t:TA}
def aZf{Q:VK}(F:xL X.prog X.w X.K X.mg X.base CX k f fd ps sp)(g:uT k X.A)(j:uY X.K fd ps ds)(c:zD dvs ds)(d:uC CX X E) (I:Inv X pins σ H s) (r:zD vs us) (h:sp (vs++dvs) H Q E):cXi (cXk X.prog X.w) X.A (call (.ref f) us) (EP X pins σ Q) X.xe s:=by
 have b:zD (vs++dvs) (us++ds):=r.append c;have hl:(us++ds).length=ps.length:=by rw[<- b.length];exact F.len _ _ _ _ h
 refine cVx (cZ8 (F.run X.A X.stack s H ⟨us,[]⟩ (us++ds) (vs++dvs) Q E g I.env0 (j s us I.kIn hl) b h) λr s' a=>?_);cases r with
 |error e=>exact d pins σ H s e s' I a
 |ok i=>
  cases i with
  |ret u=>exact I.after a
  |next=>exact cZO a
  |brk=>exact cZO a
  |cont=>exact cZO a
def bQO(F:xL X.prog X.w X.K X.mg X.base CX k f fd ps sp)(j:uT k X.A)(d:Gl X x)(m:X.mg x=some (.ref f))(c:cX7 X.K (.ref f)=true)(o:uY X.K fd ps ds)(g:zD dvs ds)(i:uC CX X E)
  (n:PA X (e::es) t) (a:(x==(AK:Str))=false:=by decide) (l:cXR (e::es) X.env=(false,eval e X.env)::cXR es X.env:=by rfl) (b:(cZW pos (cXR es X.env)).any (·.1)=false:=by rfl):
  PE X (.Call (.Name x p) (e::es) [] pos) (aYq sp dvs E t):=by
 intro pins s σ H Q I h
 refine cZH (jM I d m ?_ a)
 refine cJ9 (h₀:=X.base) I.ok.mod.kin c (thn (n pos pins s σ H _ I h) λus s1 ⟨vs,H1,I1,r,q⟩=>⟨I1.kIn,?_⟩) l b
 exact aZf F j o g i I1 r q
def bJd(F:xL X.prog X.w X.K X.mg X.base CX k f fd ps sp)(c:uT k X.A)(g:Gl X x)(b:X.mg x=some (.ref f))(e:cX7 X.K (.ref f)=true)(j:uY X.K fd ps ds)(i:zD dvs ds)(d:uC CX X E) (a:(x==(AK:Str))=false:=by decide):PE X (.Call (.Name x p) [] [] pos) (aYq sp dvs E bXW):=by
 intro pins s σ H Q I h;refine cZH (jM I g b ?_ a);exact cVH I.kIn e (aZf (us:= []) F c j i d I .nil h)
def bWJ{pl:Sem Bool}(v:PE X o ta)(c:Cls X.K C)(g:bKw X.K C m f)(F:xL X.prog X.w X.K X.mg X.base CX k f fd ps sp)(p:uT k X.A)(z:uY X.K fd ps ds)(j:zD dvs ds)(n:uC CX X E)(y:PA X (e::es) t)
  (d:cXR (e::es) X.env=(false,eval e X.env)::cXR es X.env:=by rfl) (b:(cZW pos (cXR es X.env)).any (·.1)=false:=by rfl)
  (i:eval (.Call (.Attribute o m apos) (e::es) [] pos) X.env=(do
   let ov <- eval o X.env
   standAt apos.atName
   let (f,first) <- cVE [ov] (cVN ov m pl)
   callWith pos f first (cZW pos (cXR (e::es) X.env)) (cVw pos (cJy [] X.env))):=by rfl):
  PE X (.Call (.Attribute o m apos) (e::es) [] pos) (bJV C m sp dvs E ta t):=by
 intro pins s σ H Q I h
 refine cVi (pl:=pl) (thn (v pins s σ H _ I h) λu s1 ⟨x,H1,I1,rx,a,dx,fs,ex,ea,l,q⟩=>?_) i
 subst ex
 obtain rfl:u=Value.ref a:=rx
 refine aQc I1 ea c g l ?_
 refine cJ9 (first:= [.ref a]) (h₀:=X.base) I.ok.mod.kin g.kp (thn (y pos pins s1 σ H1 _ I1 q) λus s2 ⟨vs,H2,I2,r,q2⟩=>⟨I2.kIn,?_⟩) d b
 exact aZf (us:= .ref a::us) (vs:= .ref a::vs) F p z j n I2 (.cons rfl r) q2
def bJi{pl:Sem Bool}(g:PE X o ta)(c:Cls X.K C)(b:bKw X.K C m f)(F:xL X.prog X.w X.K X.mg X.base CX k f fd ps sp)(d:uT k X.A)(n:uY X.K fd ps ds)(j:zD dvs ds)(e:uC CX X E)
  (i:eval (.Call (.Attribute o m apos) [] [] pos) X.env=(do
   let ov <- eval o X.env
   standAt apos.atName
   let (f,first) <- cVE [ov] (cVN ov m pl)
   callWith pos f first (cZW pos (cXR [] X.env)) (cVw pos (cJy [] X.env))):=by rfl):
  PE X (.Call (.Attribute o m apos) [] [] pos) (bJV C m sp dvs E ta bXW):=by
 intro pins s σ H Q I h
 refine cVi (pl:=pl) (thn (g pins s σ H _ I h) λu s1 ⟨x,H1,I1,rx,a,dx,fs,ex,ea,l,q⟩=>?_) i
 subst ex
 obtain rfl:u=Value.ref a:=rx
 refine aQc I1 ea c b l ?_
 exact cVH (first:= [.ref a]) I1.kIn b.kp (aZf (us:= [.ref a]) (vs:= [.ref a]) F d n j e I1 (.cons rfl .nil) q)
structure Mk(K:cXc)(C f:Addr):Prop where
 makes:PySem.W.makesIn K C=true
 init:cXX K (.ref C) AF=some (some (.ref f))
 fn:cJX K (.ref f)=true
 kp:cX7 K (.ref C)=true
def aWE{Q:VK}(M:Mk X.K C f)(F:xL X.prog X.w X.K X.mg X.base CX k f fd ps sp)(m:uT (k+1) X.A)(o:uY X.K fd ps ds)(i:zD dvs ds) (l:uC CX X E) (I:Inv X pins σ H s) (r:zD vs us) (h:∀x dx,H x=none->H dx=none->dx≠x->sp (.ref x::(vs++dvs)) (upd (upd H dx (.own x)) x (.ins C dx [])) (λv H2=>v= .non/\Q (.ref x) H2) E): cXi (cXk X.prog X.w) X.A (call (.ref C) us) (EP X pins σ Q) X.xe s:=by
 have c:=h (s.heap.objs.size+1) s.heap.objs.size (I.hok.fresh (cJg _)) (I.hok.fresh (cXh _)) (cXx (cZI _));have b:=Inv.made (C:=C) I;have d:zD (V.ref (s.heap.objs.size+1)::(vs++dvs)) (Value.ref (s.heap.objs.size+1)::(us++ds)):= .cons rfl (r.append i);have hl:(Value.ref (s.heap.objs.size+1)::us++ds).length=ps.length:=by have e:=d.length;rw[F.len _ _ _ _ c]at e;exact e.symm
 refine cVx (bZH (f:=f) I.kIn M.makes M.init (beq_iff_eq.mp M.fn) (cZ8 (F.run _ X.stack _ _ ⟨Value.ref (s.heap.objs.size+1)::us,[]⟩ (Value.ref (s.heap.objs.size+1)::(us++ds)) _ _ E (m.make C us []) (b.env0.make C us []) (o _ (Value.ref (s.heap.objs.size+1)::us) b.kIn hl) d c) λr s' a=>?_));cases r with
 |error e=>exact l pins σ _ _ e s' b a
 |ok n=>
  cases n with
  |ret u=>obtain⟨v,H',p,q,j,g⟩:=b.after a;subst j;exact⟨q,⟨V.ref (s.heap.objs.size+1),H',p,Ce,g⟩⟩
  |next=>exact cZO a
  |brk=>exact cZO a
  |cont=>exact cZO a
def bWI(M:Mk X.K C f)(F:xL X.prog X.w X.K X.mg X.base CX k f fd ps sp)(i:uT (k+1) X.A)(c:Gl X x)(l:X.mg x=some (.ref C))(n:uY X.K fd ps ds)(d:zD dvs ds)(g:uC CX X E)
  (m:PA X (e::es) t) (a:(x==(AK:Str))=false:=by decide) (j:cXR (e::es) X.env=(false,eval e X.env)::cXR es X.env:=by rfl) (b:(cZW pos (cXR es X.env)).any (·.1)=false:=by rfl):
  PE X (.Call (.Name x p) (e::es) [] pos) (bJU C sp dvs E t):=by
 intro pins s σ H Q I h
 refine cZH (jM I c l ?_ a)
 refine cJ9 (h₀:=X.base) I.ok.mod.kin M.kp (thn (m pos pins s σ H _ I h) λus s1 ⟨vs,H1,I1,r,q⟩=>⟨I1.kIn,?_⟩) j b
 exact aWE M F i n d g I1 r q
def bJh(M:Mk X.K C f)(F:xL X.prog X.w X.K X.mg X.base CX k f fd ps sp)(c:uT (k+1) X.A)(e:Gl X x)(b:X.mg x=some (.ref C))(i:uY X.K fd ps ds)(g:zD dvs ds)(d:uC CX X E) (a:(x==(AK:Str))=false:=by decide):PE X (.Call (.Name x p) [] [] pos) (bJU C sp dvs E bXW):=by
 intro pins s σ H Q I h;refine cZH (jM I e b ?_ a);exact cVH I.kIn M.kp (aWE (us:= []) M F c i g d I .nil h)
end
section
variable {X:Cx}{CX:CXT}{k:Nat}{f C:Addr}{fd:cJc}{ps ks:List Str}{sp:Sp}{E:XK}{x m:Str}{p pos apos kpos:Pos}{e o:Expr}{es:List Expr}{kws:List Keyword}{te ta:TE}{t tk:TA}{nm:Option Str}
variable {g:List cXb->List cXb->List cXb}{gV:List V->List V->List V}
end
structure yO(N P:List Str)(sc:Scope):Prop where
 kind:sc.kind= .function
 co:sc.isCoroutine=false
 gen:sc.isGenerator=false
 nd:N.Nodup
 pre:N.take P.length=P
 par:∀x∈P,sc.names.lookup x=some .local\/sc.names.lookup x=some .cell
 nofree:∀y∈sc.names,y.2≠ .free
theorem aJf{a:Str->Option cVL}{x:Str}:∀ {binds:List (Str×cXb)} {m:Str->Option cXb},(∀v,(x,v)∉binds)->bindL a binds m x=m x
 |[],_,_=>rfl
 |(n,v)::r,m,h=>by
  unfold bindL;rw[aJf λw hw=>h w (cXl _ hw)];split
  ·have:x≠n:=by rintro rfl;exact h v cXp
   simp[this]
  ·rfl
theorem aJd{a:Str->Option cVL}{x:Str}:∀ {binds:List (Str×cXb)} {m:Str->Option cXb},(∀v,(x,v)∉binds)->bindC a binds m x=m x
 |[],_,_=>rfl
 |(n,v)::r,m,h=>by
  unfold bindC;rw[aJd λw hw=>h w (cXl _ hw)];split
  ·rfl
  ·have:x≠n:=by rintro rfl;exact h v cXp
   simp[this]
theorem aJe{a:Str->Option cVL}{x:Str}{v:cXb}:∀ {P:List Str} {vs:List cXb} {i:Nat} {m:Str->Option cXb},P.Nodup->P[i]? =some x->vs[i]? =some v->a x=some .local->
  bindL a (P.zip vs) m x=some v
 |[],_,_,_,_,h,_,_=>by simp at h
 |_::_,[],_,_,_,_,h,_=>by simp at h
 |p::P,w::vs,0,m,nd,h1,h2,hk=>by simp at h1 h2;subst h1;subst h2;show bindL a ((p,w)::P.zip vs) m p=_;unfold bindL;rw[aJf λv b=>(cZ4.mp nd).1 (List.of_mem_zip b).1,if_pos hk];simp
 |p::P,w::vs,i+1,m,nd,h1,h2,hk=>by show bindL a ((p,w)::P.zip vs) m x=_;unfold bindL;exact aJe (i:=i) (cZ4.mp nd).2 (by simpa using h1) (by simpa using h2) hk
theorem aJc{a:Str->Option cVL}{x:Str}{v:cXb}:∀ {P:List Str} {vs:List cXb} {i:Nat} {m:Str->Option cXb},P.Nodup->P[i]? =some x->vs[i]? =some v->a x≠some .local->
  bindC a (P.zip vs) m x=some v
 |[],_,_,_,_,h,_,_=>by simp at h
 |_::_,[],_,_,_,_,h,_=>by simp at h
 |p::P,w::vs,0,m,nd,h1,h2,hk=>by simp at h1 h2;subst h1;subst h2;show bindC a ((p,w)::P.zip vs) m p=_;unfold bindC;rw[aJd λv b=>(cZ4.mp nd).1 (List.of_mem_zip b).1,if_neg hk];simp
 |p::P,w::vs,i+1,m,nd,h1,h2,hk=>by show bindC a ((p,w)::P.zip vs) m x=_;unfold bindC;exact aJc (i:=i) (cZ4.mp nd).2 (by simpa using h1) (by simpa using h2) hk
def start(N:List Str)(vs:List V):St:=vs.map some++cJQ (N.length - vs.length) none
def aZr(CX:CXT)(P:cXB)(w:cXN)(K:cXc)(mg:Str->Option cXb)(base:Heap)(N:List Str)(qual:Str)(scope:Scope)(f:Addr)(cd:cXb)(A:cX8)(outer:List Env)(s:cXd)(H:Hp)(E:XK):Cx where
 prog:=P
 w:=w
 K:=K
 mg:=mg
 base:=base
 A:=A.deeper (cJb qual scope s.heap.objs.size f cd)
 N:=N
 s₀:=s
 H₀:=H
 env:=cJb qual scope s.heap.objs.size f cd
 outer:=outer
 stack:=cJb qual scope s.heap.objs.size f cd::outer
 ex:= []
 calm:=true
 fn:=λ_=>true
 pn:= []
 xe:=λe s'=>cXi (cXk P w) (A.deeper (cJb qual scope s.heap.objs.size f cd)) (leaving (cJb qual scope s.heap.objs.size f cd) e) (λ_ s''=>CX outer H s E e s'') (λe' s''=>CX outer H s E e' s'') s'
def aWf{a:Scope}{n:Nat}{x:Str}(h:a.names.lookup x=some .cell):∃c,(cellsFrom n a.names []).lookup x=some c:=by
 have q:=PySem.W.cellsFrom_some a.names n [] (.inl h);exact Option.isSome_iff_exists.mp q
def aYZ{CX:CXT}{P:cXB}{w:cXN}{K:cXc}{mg:Str->Option cXb}{base:Heap}{N ps:List Str}{qual:Str}{scope:Scope}{f:Addr}{o:cXb}{A:cX8}{outer:List Env}{s B:cXd}{H:Hp}{E:XK}{us:List cXb}{vs:List V} (S:yO N ps scope) (D:A.handled=none) (d:bVJ P w K mg base A outer s H) (hl:vs.length=ps.length) (r:zD vs us) (x:InCallC s s.heap.objs.size (bindL (cJb qual scope s.heap.objs.size f o).kindOf (ps.zip us) λ_=>none) (cellsFrom (s.heap.objs.size+1) scope.names []) (bindC (cJb qual scope s.heap.objs.size f o).kindOf (ps.zip us) λ_=>none) B): Inv (aZr CX P w K mg base N qual scope f o A outer s H E) [] (start N vs) H B:=by
 have F:ps.length<=N.length:=by have:=congrArg cJk S.pre;rw[cZl]at this;omega
 obtain⟨h1,tk,rfl,t⟩:=x.done;have j:∀b:Addr,b∉(aZr CX P w K mg base N qual scope f o A outer s H E).ex:=λb z=>absurd (show b∈([]:List Addr)from z) (by simp);refine⟨⟨d.mod,S.kind,Ce,Ce,cXh _,λy z c h1 h2=>?_,λy g=>?_,λy c _ h=>?_,λ_=>D,Around.frames_deeper d.frames,.inr ⟨rfl,rfl⟩,λb z=>absurd z (j b),d.bs,d.bsz,λb _ _=>j b,λb z=>absurd z (j b),d.funs,d.frf⟩,Ce,d.bare,Un.kept t,⟨_,x.toInCall.ns,λi y v h1 h2 J=>?_⟩,λy c h=>⟨_,x.cell y c h⟩,d.hok.fresh (cXh _),λy c h=>?_,λp l=>absurd (show p∈([]:List (Addr×Obj))from l) (by simp),d.hok.kept t,?_⟩
 ·exact name_of_addr x.apart (cZM h1) (cZM h2)
 ·have g:scope.names.lookup y=some .cell\/scope.names.lookup y=some .free:=g;rcases g with g|g
  ·exact aWf g
  ·exact absurd rfl (S.nofree _ (cZM g))
 ·exact cJW (x.above y c (cZM h))
 ·have hi:i<vs.length:=by
   unfold start at h2;by_cases hi:i<vs.length
   ·exact hi
   ·rw[cXz (by simpa using hi)]at h2;rw[List.getElem?_replicate]at h2;split at h2<;> cases h2
  have G:vs[i]? =some v:=by
   unfold start at h2;rw[cXU (by simpa using hi),cXu]at h2;cases e:vs[i]? with
   |none=>rw[e]at h2;cases h2
   |some a=>rw[e]at h2;cases h2;rfl
  obtain⟨u,C,I⟩:=r.get G;have l:ps[i]? =some y:=by rw[<- S.pre,List.getElem?_take_of_lt (by omega)];exact h1
  have m:ps.Nodup:=by rw[<- S.pre];exact S.nd.sublist (List.take_sublist _ _)
  refine⟨u,I,?_⟩;rcases S.par y (cXs l)with k|k
  ·exact .inl ⟨k,aJe m l C k⟩
  ·obtain⟨c,e⟩:=aWf (n:=s.heap.objs.size+1) k;refine .inr ⟨.inl k,c,e,?_⟩;have q:=x.cell y c e;rw[aJc m l C (by show scope.names.lookup y≠_;rw[k];decide)]at q;exact q
 ·exact d.hok.fresh (cJW (x.above y c (cZM h)))
 ·unfold start;show _=N.length;rw[cXD,cXe,List.length_replicate];omega
def bV2{CX:CXT}{P:cXB}{w:cXN}{K:cXc}{mg:Str->Option cXb}{base:Heap}{k:Nat}{f:Addr}{name qual:Str}{c:Arguments}{body:List Stmt}{scope:Scope}{F kV m O a ct U:cXb}{G X:Option Addr} {C:Array (Option cXb)} {N ps:List Str} {sp:Sp} (lk:K.lookup f=some ⟨U,X,.func (cZf name qual c body scope F kV m O G a ct),C⟩) (z:cZ0 K a qual=true) (S:yO N ps scope) (len:∀vs H Q E,sp vs H Q E->vs.length=ps.length) (g:∀ (A:cX8)(outer:List Env)(s:cXd)(H:Hp)(vs:List V)(Q:VK)(E:XK),uT k (A.deeper (cJb qual scope s.heap.objs.size f a))->sp vs H Q E-> ∃t,PSs (aZr CX P w K mg base N qual scope f a A outer s H E) body t/\t {nx:=λ_ H'=>Q .non H',rt:=Q} (start N vs) H): xL P w K mg base CX (k+1) f (cZf name qual c body scope F kV m O G a ct) ps sp:=by
 refine⟨len,λA outer s H args us vs Q E p j hb r l=>?_⟩;have hl:=len _ _ _ _ l;have L:K.In s.heap:=j.mod.kin.keeps λb o e=>(j.bs b o e).1;have B:s.heap.NoLimit:=j.mod.nolimit.keeps λb o e=>(j.bs b o e).1;have h:∀y∈ps.zip us,scope.names.lookup y.1=some .local\/(scope.names.lookup y.1=some .cell/\((cellsFrom (s.heap.objs.size+1) scope.names []).lookup y.1).isSome=true):=λ⟨n,v⟩ hy=>by
  rcases S.par n (List.of_mem_zip hy).1 with q|q
  ·exact .inl q
  ·exact .inr ⟨q,PySem.W.cellsFrom_some _ _ _ (.inl q)⟩
 refine codeAny_call_function p.depth (L _ _ lk) rfl S.co S.gen rfl (PySem.W.codeRec_of L z) (hb _ _ _ _ ?_);refine wpAny_newFunctionEnv_cells S.kind h λenv Y M x=>?_;subst Y;refine⟨B.keeps x.toInCall.keep,codeAny_func ?_⟩;obtain⟨t,T,R⟩:=g A outer s H vs Q E (p.deeper _) l;have I:Inv (aZr CX P w K mg base N qual scope f a A outer s H E) [] (start N vs) H M:=aYZ S p.hd j hl r x;refine cZh (T [] M (start N vs) H _ I R) (λZ s' i=>?_) λe s' i=>i;have fin:∀ {d:St} {H':Hp} {v:V} {u:cXb},Inv (aZr CX P w K mg base N qual scope f a A outer s H E) [] d H' s'->wG v u->Q v H'->CE outer P w H s Q u s':=
  λ{d H' v u} J D q=>⟨v,H',J.os,J.bare,J.base,J.hok,D,q⟩
 cases Z with
 |ret u=>obtain⟨v,d,H',J,D,q⟩:=i;exact fin J D q
 |next=>obtain⟨d,H',J,q⟩:=i;exact fin (v:=V.non) (u:=Value.none) J rfl q
 |brk=>obtain⟨_,_,_,q⟩:=i;exact cZO q
 |cont=>obtain⟨_,_,_,q⟩:=i;exact cZO q
end L2
namespace L2
open PySem PySem.Spec PyProof.Rows
section
variable {X:Cx}{x:Str}{p pos:Pos}{e:Expr}{es:List Expr}{t:TA}{id T:String}{r:List V->Hp->VK->Prop}
def tCB(r:List V->Hp->VK->Prop)(t:TA):TE:=λσ H Q=>t σ H λa H1=>r a H1 Q
def yR(f:jZ X (.builtin id) r)(k:Gl X x)(d:X.mg x=none)(c:cXV x=some (.builtin id))(j:PA X (e::es) t)(g:x≠Ae:=by decide)(b:(x==(AK:Str))=false:=by decide)
  (i:cXR (e::es) X.env=(false,eval e X.env)::cXR es X.env:=by rfl) (a:(cZW pos (cXR es X.env)).any (·.1)=false:=by rfl):PE X (.Call (.Name x p) (e::es) [] pos) (tCB r t):=by
 intro pins s σ H Q I h
 refine cZH (aX8 I k d c ?_ g b)
 exact PyProof.Rows.callWith_builtin1 (thn (j pos pins s σ H _ I h) λus s1 ⟨vs,H1,I1,r1,q1⟩=>f pins s1 σ H1 vs us Q I1 r1 q1) i a
def zH(f:jZ X (.type T) r)(k:Gl X x)(d:X.mg x=none)(c:cXV x=some (.type T))(j:PA X (e::es) t)(g:x≠Ae:=by decide)(b:(x==(AK:Str))=false:=by decide)
  (i:cXR (e::es) X.env=(false,eval e X.env)::cXR es X.env:=by rfl) (a:(cZW pos (cXR es X.env)).any (·.1)=false:=by rfl):PE X (.Call (.Name x p) (e::es) [] pos) (tCB r t):=by
 intro pins s σ H Q I h
 refine cZH (aX8 I k d c ?_ g b)
 exact cVn (thn (j pos pins s σ H _ I h) λus s1 ⟨vs,H1,I1,r1,q1⟩=>f pins s1 σ H1 vs us Q I1 r1 q1) i a
end
end L2
namespace HT
open PySem PyProof.Rows
def bJo(A:cX8)(s:cXd)(a:Int)(t:Tok)(c:Int)(u:Tok)(prog:cXB)(w:cXN)(E:cXb->cXd->Prop)(Q:cXb->cXd->Prop)(h:Q (.bool (decide (a<c))) s): cXi (cXk prog w) A (richCompare .Lt (.int a t) (.int c u)) Q E s:=
 (PyProof.Rows.lt_int h:cXi (cXk prog w) A (cZN .Lt (.int a t) (.int c u)) Q E s)
section
open PySem.SeqAt
open PySem.AutoSeq1 (wpAny_loadPart')
open PySem.MeetsSeq PySem.MeetsSeq2 PySem.MeetsSeq3
end
section
variable {prog:cXB}{w:cXN}{A:cX8}{E:cXb->cXd->Prop}{s:cXd}
def bVS{t b:Addr}{Q:cXb->cXd->Prop}(v:cJ8 s.heap t vs.toArray)(x:cJ8 s.heap b a.toArray)(q:vs≠ []) (h1:a= []->Q (.ref t) s) (h2:a≠ []->Q (.ref s.heap.objs.size) {s with heap:=s.heap.push {cls:= .type AE,data:= .seq (vs++a).toArray} }) (k:vs.length+a.length<=cXy):cXi (cXk prog w) A (cJH .Add (.ref t) (.ref b)) Q E s:=by
 obtain⟨⟨cls,l,data,r⟩,i,o,n,m⟩:=id v;obtain⟨⟨u,d,j,h⟩,c,g,p,f⟩:=id x;simp only at o m g f;subst o m g f;have e:vs.toArray++a.toArray=(vs++a).toArray:=by simp
 by_cases hw:a= []
 ·exact concat_meets ⟨_,i,rfl⟩ ⟨_,c,rfl⟩ noFill_tuple_add seq_tuple_add PySem.F.slot_tuple_add PySem.F.entry_tuple_add (cWO _ _)
   (tuple_addW1 t b vs.toArray a.toArray n p l d r h (by simpa using q) (by simp[hw])) ⟨i,c,h1 hw⟩
 ·refine concat_meets ⟨_,i,rfl⟩ ⟨_,c,rfl⟩ noFill_tuple_add seq_tuple_add PySem.F.slot_tuple_add PySem.F.entry_tuple_add (cWO _ _)
   (tuple_addW2 t b vs.toArray a.toArray n p l d r h (by simpa using q) (by simpa using hw) (by rw[cXt,cXt];exact k)) ⟨i,c,?_⟩
  rw[e];exact h2 hw
def sIx(n d:Nat):Option Int->Nat
 |none=>d
 |some v=>if v<0 then(v+(n:Int)).toNat else min v.toNat n
def bJq(n d:Nat):sIx n d none=d:=rfl
def bYq(n d:Nat)(b:d<=n)(o:Option Int):sIx n d o<=n:=by
 cases o with
 |none=>exact b
 |some v=>
  show(if v<0 then(v+(n:Int)).toNat else min v.toNat n)<=n;by_cases a:v<0
  ·rw[if_pos a];omega
  ·rw[if_neg a];exact Nat.min_le_right _ _
def aYH(v:Int)(n d:Nat):(if v<0 then max (v+(n:Int)) 0 else min v (n:Int))=((sIx n d (some v):Nat):Int):=by
 show(if v<0 then max (v+(n:Int)) 0 else min v (n:Int))=(((if v<0 then(v+(n:Int)).toNat else min v.toNat n):Nat):Int);by_cases a:v<0
 ·simp only[if_pos a];omega
 ·simp only[if_neg a];omega
def aKa(lo hi:Option Int)(n:Nat):cVI lo hi 1 (n:Int)=(((sIx n 0 lo:Nat):Int),((sIx n n hi:Nat):Int)):=by
 have h1:¬ ((1:Int)<0):=by omega
 unfold cVI;simp only[h1,if_false];refine Prod.ext ?_ ?_
 ·cases lo with
  |none=>rfl
  |some v=>exact aYH v n 0
 ·cases hi with
  |none=>rfl
  |some v=>exact aYH v n n
def aK2(i j:Nat):cJN (i:Int) (j:Int) 1=j - i:=by
 unfold cJN;have h1:(1:Int) > 0:=by omega
 simp only[h1,if_true,Int.ediv_one];split<;> omega
def aZg{Q:Option Int->cXd->Prop}(p:IsPart v o)(h:Q o s):cXi (cXk prog w) A (Builtin.Slice.slicePartIndex v) Q E s:=by
 cases p with
 |none=>exact slicePart_none h
 |int i t=>exact slicePart_int h
def aQN{e:Addr}{c d:cXb}{lo hi:Option Int}{n:Nat}{Q:Int×Int×Nat->cXd->Prop}(g:s.heap.IsSliceOf e c d .none)(pl:IsPart c lo)(i:IsPart d hi) (h:Q (((sIx n 0 lo:Nat):Int),1,sIx n n hi - sIx n 0 lo) s):cXi (cXk prog w) A (cWA (.ref e) (pure (n:Int))) Q E s:=by
 obtain⟨j,a,f,b⟩:=id g;unfold cWA Builtin.Slice.sliceFields;refine cXa (cXa (cVZ a b (x:=c) rfl (cXa (cVZ a b (x:=d) rfl (cXa (cVZ a b (x:= .none) rfl (cXf ?_)))))));refine cXa (slicePart_none ?_);show cXi _ _ (if((1:Int)==0)=true then _ else _) _ _ s;rw[if_neg (by decide)];refine cXa (aZg pl (cXa (aZg i (cXa (cXf ?_)))));show cXi _ _ (match cVI lo hi 1 (n:Int)with|(lo,hi)=>pure (lo,(1:Int),cJN lo hi 1)) _ _ s;rw[aKa lo hi n];show cXi _ _ (pure (((sIx n 0 lo:Nat):Int),(1:Int),cJN ((sIx n 0 lo:Nat):Int) ((sIx n n hi:Nat):Int) 1)) _ _ s;rw[aK2];exact cXf h
def bJj(xs:Array cXb)(i k:Nat):((cXm k).filterMap λ(m:Nat)=>xs[((i:Int)+(m:Int)*1).toNat]?).toArray=((xs.toList.drop i).take k).toArray:=by
 have e:(λ(m:Nat)=>xs[((i:Int)+(m:Int)*1).toNat]?)=λm=>xs[i+m]? :=by
  funext m;have:((i:Int)+(m:Int)*1).toNat=i+m:=by omega
  rw[this]
 rw[e];have:=pick_run xs i k;rw[List.filterMap_map]at this;have a:((λx=>xs[x]?)∘λx=>i+x)=λm=>xs[i+m]? :=rfl;rw[a]at this;rw[this]
def aQb{t f:Addr}{items:Array cXb}{j k:cXb}{lo hi:Option Int}{Q:cXb->cXd->Prop}(b:cJ8 s.heap t items)(i:s.heap.IsSliceOf f j k .none)(pl:IsPart j lo)(l:IsPart k hi) (hw:¬ (sIx items.size 0 lo=0/\sIx items.size items.size hi=items.size)) (h:Q (.ref s.heap.objs.size) {s with heap:=s.heap.push {cls:= .type AE,data:= .seq ((items.toList.drop (sIx items.size 0 lo)).take (sIx items.size items.size hi - sIx items.size 0 lo)).toArray} }) (p:items.size<=cXy):cXi (cXk prog w) A (getItem (.ref t) (.ref f)) Q E s:=by
 have a:sizeOk (.seq ((items.toList.drop (sIx items.size 0 lo)).take (sIx items.size items.size hi - sIx items.size 0 lo)).toArray):=by show((items.toList.drop (sIx items.size 0 lo)).take (sIx items.size items.size hi - sIx items.size 0 lo)).toArray.size<=cXy;rw[cXt,cZl,cV4,cZw];omega
 have u:sIx items.size items.size hi<=items.size:=bYq _ _ (cXh _) hi;obtain⟨n,d,c,o⟩:=id i;have e:s.TypeIs (.ref f) "slice":=⟨n,d,c⟩;unfold getItem;try with_reducible refine cZt ?_
 first|refine cXa (cXf ?_)|skip
 refine cXa (wpAny_sequenceKey b.typeIs (by decide) ?_);refine cXa (cJt (name:=cVj CF) b.typeIs cJ3 (cZJ cJ3 b.typeIs entry_tuple_getitem ?_ (args_tuple_getitem _ _)));show cXi _ _ (Builtin.Tuple.tupleItemsOf (.ref t) >>=_) _ _ s;refine cXa (tupleItemsOf_ b ?_);refine cXa (wpAny_typeOf e ?_);rw[if_pos (by decide)];refine cXa (aQN i pl l ?_);have g:¬ ((((sIx items.size 0 lo:Nat):Int)==0 && (1:Int)==1 && (sIx items.size items.size hi - sIx items.size 0 lo)==items.size)=true):=by intro q;rw[Bool.and_eq_true,Bool.and_eq_true]at q;have v:((sIx items.size 0 lo:Nat):Int)=0:=eq_of_beq q.1.1;have r:sIx items.size items.size hi - sIx items.size 0 lo=items.size:=eq_of_beq q.2;exact hw ⟨by omega,by omega⟩
 show cXi _ _ (if(((sIx items.size 0 lo:Nat):Int)==0 && (1:Int)==1 && (sIx items.size items.size hi - sIx items.size 0 lo)==items.size)=true then _ else _) _ _ s;rw[if_neg g,bJj];first
  |exact cXa (m:=cJT _) (cZx (cXf ⟨_,Ce,cXf h⟩) a)
  |exact cXa (m:=cJT _) (cZx (cXa (cXf (cXf ⟨_,Ce,cXf h⟩))) a)
  |exact cXa (cXa (m:=cJT _) (cZx (cXf (cXf ⟨_,Ce,cXf h⟩)) a))
  |exact cXa (cXa (m:=cJT _) (cZx (cXf ⟨_,Ce,cXf h⟩) a))
end
end HT
namespace L2
open PySem PySem.Spec PyProof.Rows
abbrev TO:=St->Hp->(Option Int->Hp->Prop)->Prop
def PO(X:Cx)(e:Option Expr)(t:TO):Prop:=
 ∀ (pins:List (Addr×Obj))(s:cXd)(σ:St)(H:Hp)(Q:Option Int->Hp->Prop),Inv X pins σ H s->t σ H Q->
  cXi (cXk X.prog X.w) X.A (evalPart e X.env) (λu s'=>∃o H',Inv X pins σ H' s'/\IsPart u o/\Q o H') X.xe s
def bKq:TO:=λ_ H Q=>Q none H
inductive bYJ(Q:Option Int->Hp->Prop)(x:V)(H1:Hp):Prop|mk(i)(h:x= .int i)(h:Q (some i) H1)
def cQv(t:TE):TO:=λσ H Q=>t σ H λx H1=>bYJ Q x H1
def aQe{a:List Int}:∀ {us:List cXb},zD (a.map V.int) us->cJv us a:=by
 induction a with
 |nil=>intro us r;rw[List.map_nil]at r;cases r;exact .nil
 |cons n a c=>
  intro us r;rw[cXO]at r;cases r with
  |cons b d=>obtain⟨t,e⟩:=b;subst e;exact .cons n t (c d)
section
variable {X:Cx}{e:Expr}{te:TE}{lo hi:Option Expr}{tl th:TO}{pos p2:Pos}
def aXq:PO X none bKq:=by
 intro pins s σ H Q I h;rw[evalPart_none];exact cXf ⟨none,H,I,.none,h⟩
def X9(h:PE X e te):PO X (some e) (cQv te):=by
 intro pins s σ H Q I hw;rw[evalPart_some];refine thn (h pins s σ H _ I hw) λu s1 ⟨x,H1,I1,r1,q1⟩=>?_;obtain⟨i,rfl,q⟩:=q1;obtain⟨t,rfl⟩:=r1;exact⟨some i,H1,I1,.int i t,q⟩
def SlR(X:Cx)(r:V->Option Int->Option Int->Hp->VK->Prop):Prop:=
 ∀ (pins:List (Addr×Obj))(s:cXd)(σ:St)(H:Hp)(x:V)(v a b:cXb)(lo hi:Option Int)(c:Addr)(Q:VK),Inv X pins σ H s->wG x v->s.heap.IsSliceOf c a b .none->IsPart a lo->IsPart b hi->r x lo hi H Q->
  ∃T id,typeLookup (.type T) CF=pure (some (.builtin id))/\s.TypeIs v T/\cXi (cXk X.prog X.w) X.A (getItem v (.ref c)) (EP X pins σ Q) X.xe s
def tSl(r:V->Option Int->Option Int->Hp->VK->Prop)(te:TE)(tl th:TO):TE:=λσ H Q=>te σ H λx H1=>tl σ H1 λl H2=>th σ H2 λu a=>r x l u a Q
def qZ{r:V->Option Int->Option Int->Hp->VK->Prop}(f:SlR X r)(g:PE X e te)(hl:PO X lo tl)(i:PO X hi th):PE X (.Subscript e (.Slice lo hi none p2) pos) (tSl r te tl th):=by
 intro pins s σ H Q I h;refine Subscript_ (thn (g pins s σ H _ I h) λv s1 ⟨x,H1,I1,r1,q1⟩=>?_);refine wpAny_Slice (thn (hl pins s1 σ H1 _ I1 q1) λvl s2 ⟨l,H2,I2,pl,q2⟩=>thn (i pins s2 σ H2 _ I2 q2) λvu s3 ⟨u,H3,I3,pu,q3⟩=>?_);rw[evalPart_none];refine cXf ?_;have a:Inv X pins σ H3 {s3 with heap:=s3.heap.push {cls:= .type "slice",data:= .fields #[vl,vu,.none] } }:=I3.kept (t':=s3.toks) λb k q=>cXg _ q;obtain⟨T,id,j,c,d⟩:=f pins {s3 with heap:=s3.heap.push {cls:= .type "slice",data:= .fields #[vl,vu,.none] } } σ H3 x v vl vu l u s3.heap.objs.size Q a r1 (Heap.IsSliceOf.new ..) pl pu q3;show cXi (cXk X.prog X.w) X.A (subscriptTail e (.Slice lo hi none p2) v (.ref s3.heap.objs.size)) (EP X pins σ Q) X.xe {s3 with heap:=s3.heap.push {cls:= .type "slice",data:= .fields #[vl,vu,.none] } };exact tail_any (ops:= [.ref s3.heap.objs.size,v]) c j d (by with_unfolding_all rfl)
def qC(xs:List V)(lo hi:Option Int):List V:=(xs.drop (HT.sIx xs.length 0 lo)).take (HT.sIx xs.length xs.length hi - HT.sIx xs.length 0 lo)
def aQ3(xs:List V)(lo hi:Option Int):(qC xs lo hi).length<=xs.length:=by
 unfold qC;rw[cZl,cV4];omega
inductive cQZ(K:cXc)(x:V)(lo:Option Int)(hi:Option Int)(H:Hp)(Q:VK):Prop|mk(a xs)(h:x= .ref a)(h:SqT K H a xs)(h:¬ (HT.sIx xs.length 0 lo=0/\HT.sIx xs.length xs.length hi=xs.length))(h:∀p,H p=none->Q (.ref p) (upd H p (.tup (qC xs lo hi))))
def bYz:SlR X (cQZ X.K):=by
 intro pins s σ H x v n p lo hi m Q I i k pl g h;obtain⟨a,xs,rfl,j,hw,q⟩:=h;cases i;obtain⟨d,r,f,e⟩:=I.tuple j;have c:d.toArray.size=xs.length:=by rw[cXt];exact r.length.symm
 refine⟨AE,_,cJ3.lookup,f.typeIs,?_⟩;refine HT.aQb f k pl g (by rw[c];exact hw) ?_ (by rw[c];exact e);rw[c];refine⟨.ref s.heap.objs.size,_,I.laid (t':=s.toks) (o:= .tup (qC xs lo hi)) (λb l q=>cXg _ q) (cXh _) ?_,Ce,q _ (I.hok.fresh (cXh _))⟩;exact⟨cXJ (aQ3 xs lo hi) e,_,(r.drop (HT.sIx xs.length 0 lo)).take (HT.sIx xs.length xs.length hi - HT.sIx xs.length 0 lo),IsTup.new _ _⟩
inductive cQg(K:cXc)(x:V)(y:V)(H:Hp)(Q:VK):Prop|mk(a b xs ys)(h:x= .ref a)(h:y= .ref b)(h:SqT K H a xs)(h:SqT K H b ys)(h:xs≠ [])(h:xs.length+ys.length<=cXy)(h:(ys= []->Q (.ref a) H))(h:(ys≠ []->∀p,H p=none->Q (.ref p) (upd H p (.tup (xs++ys)))))
def zD.nil_iff(r:zD xs us):us= []↔xs= []:=by
 cases r with
 |nil=>simp
 |cons _ _=>simp
def bQH:OpR X (cJH .Add) (cQg X.K):=by
 intro pins s σ H x y v u Q I g j h;obtain⟨a,b,xs,ys,rfl,rfl,m,p,i,e,r,k⟩:=h;cases g;cases j;obtain⟨l,d,n,_⟩:=I.tuple m;obtain⟨f,c,p2,_⟩:=I.tuple p;refine HT.bVS n p2 (λz=>i (d.nil_iff.mp z)) (λz=>⟨.ref a,H,I,Ce,r (c.nil_iff.mp z)⟩) (λz=>?_) (by rw[<- d.length,<- c.length];exact e);refine⟨.ref s.heap.objs.size,_,I.laid (t':=s.toks) (o:= .tup (xs++ys)) (λb t q=>cXg _ q) (cXh _) ?_,Ce,k (λw=>z (c.nil_iff.mpr w)) _ (I.hok.fresh (cXh _))⟩;exact⟨by rw[cXD];exact e,_,d.append c,IsTup.new _ _⟩
end
end L2
namespace L2
open PySem PySem.Spec PyProof.Rows
def ixN(n:Nat)(i:Int):Option Nat:=if 0<=i then(if i<n then some i.toNat else none)else if -(n:Int)<=i then some (i+n).toNat else none
def atI{α:Type}(xs:List α)(i:Int):Option α:=(ixN xs.length i).bind λj=>xs[j]?
def aY2(h:ixN n i=some j):seqIndex? i n=some j/\j<n/\ -(n:Int)<=i/\i<n:=by
 unfold ixN at h;by_cases h0:0<=i
 ·rw[if_pos h0]at h;by_cases h1:i<n
  ·rw[if_pos h1]at h;have e:i.toNat=j:=cXv h;exact⟨by rw[seqIndex_of h0 h1,e],by omega,by omega,h1⟩
  ·rw[if_neg h1]at h;cases h
 ·rw[if_neg h0]at h;by_cases h1: -(n:Int)<=i
  ·rw[if_pos h1]at h;have e:(i+n).toNat=j:=cXv h;exact⟨by rw[seqIndex_neg (by omega) h1,e],by omega,h1,by omega⟩
  ·rw[if_neg h1]at h;cases h
def aVa{α:Type}{xs:List α}{v:α}(h:atI xs i=some v):∃j,seqIndex? i xs.length=some j/\xs[j]? =some v/\j<xs.length/\ -(xs.length:Int)<=i/\i<xs.length:=by
 unfold atI at h;cases e:ixN xs.length i with
 |none=>rw[e]at h;cases h
 |some j=>rw[e]at h;obtain⟨h1,h2,b,a⟩:=aY2 e;exact⟨j,h1,h,h2,b,a⟩
def yT{α:Type}{xs:List α}{j:Nat}{v:α}(h:xs[j]? =some v):atI xs (j:Int)=some v:=by
 have a:j<xs.length:=(cXn.mp h).1;have e:ixN xs.length (j:Int)=some j:=by unfold ixN;rw[if_pos (by omega),if_pos (by omega)];simp
 unfold atI;rw[e];exact h
def bVP(b:Expr):Prop:=∀o i,subscripted b false o i=operate [o,i] (getItem o i)
def IxR(X:Cx)(r:R2):Prop:=
 ∀ (value a:Expr)(pins:List (Addr×Obj))(s:cXd)(σ:St)(H:Hp)(x y:V)(v u:cXb)(Q:VK),Inv X pins σ H s->wG x v->wG y u->r x y H Q->
  subscripted a false v u=operate [v,u] (getItem v u)->cXi (cXk X.prog X.w) X.A (subscriptTail value a v u) (EP X pins σ Q) X.xe s
def MtR(X:Cx)(id:String)(r:V->List V->Hp->VK->Prop):Prop:=
 ∀ (pins:List (Addr×Obj))(s:cXd)(σ:St)(H:Hp)(x:V)(xs:List V)(v:cXb)(a:List cXb)(Q:VK),Inv X pins σ H s->wG x v->zD xs a->r x xs H Q->
  cXi (cXk X.prog X.w) X.A (call (.builtin id) (v::a)) (EP X pins σ Q) X.xe s
section
variable {X:Cx}{a b:Expr}{ta tb:TE}{pos:Pos}
def IxR.or(h:IxR X r)(h':IxR X c):IxR X (λx y H Q=>r x y H Q\/c x y H Q):=by
 intro value a pins s σ H x y v u Q I b d q e;rcases q with q|q
 ·exact h value a pins s σ H x y v u Q I b d q e
 ·exact h' value a pins s σ H x y v u Q I b d q e
def yL(e:IxR X r)(j:PE X a ta)(k:PE X b tb)(i:bVP b:=by exact λ_ _=>rfl):PE X (.Subscript a b pos) (tOp r ta tb):=by
 intro pins s σ H Q I h;exact Subscript_ (bY7 j k I h λv u f x y H2 c d g q=>e a b pins f σ H2 x y v u Q c d g q (i _ _))
inductive bKx(K:cXc)(x:V)(y:V)(H:Hp)(Q:VK):Prop|mk(p xs i v)(h:x= .ref p)(h:y= .int i)(h:SqL K H p xs)(h:atI xs i=some v)(h:Q v H)
inductive cQh(K:cXc)(x:V)(y:V)(H:Hp)(Q:VK):Prop|mk(p xs i v)(h:x= .ref p)(h:y= .int i)(h:SqT K H p xs)(h:atI xs i=some v)(h:Q v H)
inductive cQF(x:V)(y:V)(H:Hp)(Q:VK):Prop|mk(z i c)(h:x= .str z)(h:y= .int i)(h:z.length<=cXy)(h:atI z.cps.toList i=some c)(h:Q (.str ⟨#[c]⟩) H)
def yK:IxR X (bKx X.K):=by
 intro value b pins s σ H x y v u Q I k o h e;obtain⟨p,xs,i,z,rfl,rfl,g,n,q⟩:=h;cases k;obtain⟨t,rfl⟩:=o;obtain⟨a,r,pl,A⟩:=I.list g;obtain⟨j,h1,h2,B,l,m⟩:=aVa n;obtain⟨w,f,c⟩:=r.get h2;have hl:=r.length;have C:=aJA;have fin:EP X pins σ Q w s:=⟨z,H,I,c,q⟩;by_cases h0:0<=i
 ·have d:i.toNat=j:=by
   rw[seqIndex_of h0 m]at h1;exact cXv h1
  exact item_listR pl.isList h0 (by omega) (by rw[d];simpa using f) fin e
 ·have d:(i+(a.toArray.size:Int)).toNat=j:=by
   rw[seqIndex_neg (by omega) l]at h1;rw[cXt,<- hl];exact cXv h1
  exact subscriptTail_builtinR (x:=w) pl.isList.typeIs slot_list_getitem.lookup
   (wpAny_getItem_list_neg (Q:=λr s'=>r=w/\EP X pins σ Q r s') pl.isList (by omega) (by rw[cXt]<;> omega) (by omega) (by rw[d];simpa using f) ⟨rfl,fin⟩) e
def yX:IxR X (cQh X.K):=by
 intro value a pins s σ H x y v u Q I d f h g;obtain⟨p,xs,i,z,rfl,rfl,c,e,q⟩:=h;cases d;obtain⟨t,rfl⟩:=f;obtain⟨k,r,pl,m⟩:=I.tuple c;obtain⟨j,h1,h2,n,o,B⟩:=aVa e;obtain⟨w,l,b⟩:=r.get h2;have hl:=r.length;have A:=aJA;have fin:EP X pins σ Q w s:=⟨z,H,I,b,q⟩;exact subscriptTail_builtinR (x:=w) pl.typeIs slot_tuple_getitem.lookup
  (getItem_tuple (j:=j) (Q:=λr s'=>r=w/\EP X pins σ Q r s') pl (by omega) (by omega) (by rw[cXt,<- hl];exact h1) (by simpa using l) ⟨rfl,fin⟩) g
def aQ7:IxR X cQF:=by
 intro value a pins s σ H x y v u Q I d k h l;obtain⟨z,i,c,rfl,rfl,n,g,q⟩:=h;obtain⟨t,rfl⟩:=d;obtain⟨r,rfl⟩:=k;obtain⟨j,h1,h2,o,e,f⟩:=aVa g;have hl:z.cps.toList.length=z.length:=by simp[Str.length]
 rw[hl]at h1 e f;have p:=aJA;exact tail_any (typeIs_str s z t) slot_str_getitem.lookup (getItem_str (c:=c) (by
  have b:decide (i< -(2 ^ 63:Int))=false:=decide_eq_false (by omega);have m:decide (i≥2 ^ 63)=false:=decide_eq_false (by omega);rw[b,m,Bool.or_false]) (by rw[h1];simpa using h2) ⟨.str ⟨#[c]⟩,H,I.tok _,⟨_,rfl⟩,q⟩) l
def rIx(K:cXc):R2:=λx y H Q=>bKx K x y H Q\/cQh K x y H Q\/cQF x y H Q
def aWn:IxR X (rIx X.K):=yK.or (yX.or aQ7)
def aKF(its:List cXb)(n j:Nat)(u:cXb):cXY (·.setIfInBounds j u) {cls:= .type AC,data:= .seq its.toArray n}= {cls:= .type AC,data:= .seq (its.set j u).toArray n}:=by
 simp[cXY]
def Inv.lst(I:Inv X pins σ H s)(h:H p=some (.lst xs)): ∃ (its:List cXb)(n:Nat),zD xs its/\s.heap.get? p=some {cls:= .type AC,data:= .seq its.toArray n}/\xs.length<=cXy:=by
 obtain⟨z,its,n,r,e⟩:=I.hok p _ h;exact⟨its,n,r,e,z⟩
def Inv.lstUpd{pins:List (Addr×Obj)}{σ:St}{H:Hp}{s:cXd}{p:Addr}{xs ys:List V}{its its':List cXb}{n a:Nat}{f:Obj->Obj}(I:Inv X pins σ H s)(h:H p=some (.lst xs)) (g:s.heap.get? p=some {cls:= .type AC,data:= .seq its.toArray n}) (c:f {cls:= .type AC,data:= .seq its.toArray n}= {cls:= .type AC,data:= .seq its'.toArray a}) (r:zD ys its') (d:ys.length<=cXy) (t:Nat): Inv X pins σ (upd H p (.lst ys)) {s with heap:=s.heap.update p f,toks:=t}:=by
 have e:(s.heap.update p f).get? p=some {cls:= .type AC,data:= .seq its'.toArray a}:=by rw[cZi f g (by rw[c]<;> rfl),c]
 refine I.write (x:=p) (e:=p) (by rw[h];trivial) (.inl rfl) (λb u i q=>(cXL _ _ (cXT i)).trans q) ⟨_,e⟩ ?_;exact⟨d,its',a,r,e⟩
inductive cQi(o:V)(i:V)(v:V)(H:Hp)(Q:(Hp->Prop)):Prop|mk(p xs k j)(h:o= .ref p)(h:i= .int k)(h:H p=some (.lst xs))(h:ixN xs.length k=some j)(h:Q (upd H p (.lst (xs.set j v))))
def wT:cQC X cQi:=by
 intro pins s σ H o i v z B u Q I w m y h;obtain⟨p,xs,k,j,rfl,rfl,g,x,q⟩:=h;cases w;obtain⟨t,rfl⟩:=m;obtain⟨a,n,r,c,l⟩:=I.lst g;obtain⟨h1,h2,d,e⟩:=aY2 x;have hl:=r.length;have A:=aJA;have f:Inv X pins σ (upd H p (.lst (xs.set j v))) {s with heap:=s.heap.update p (cXY (·.setIfInBounds j u)) }:=
  I.lstUpd g c (aKF a n j u) (r.set y j) (by rw[List.length_set];exact l) s.toks
 by_cases h0:0<=k
 ·have b:k.toNat=j:=by
   rw[seqIndex_of h0 e]at h1;exact cXv h1
  exact PySem.W.ki_setAt c h0 (by omega) (by rw[cXt,<- hl];exact e) (by rw[b];exact⟨_,f,q⟩)
 ·have b:(k+(a.toArray.size:Int)).toNat=j:=by
   rw[seqIndex_neg (by omega) d]at h1;rw[cXt,<- hl];exact cXv h1
  exact PySem.W.ki_setBack c (by omega) (by rw[cXt,<- hl];exact d) (by omega) (by rw[b];exact⟨_,f,q⟩)
def aJS(lo hi:Option Int)(n:Nat):(cVF lo hi none n).1=((HT.sIx n 0 lo:Nat):Int)/\(cVF lo hi none n).2.1=((HT.sIx n n hi:Nat):Int)/\(cVF lo hi none n).2.2=1:=by
 refine⟨?_,?_,rfl⟩
 ·cases lo with
  |none=>simp[cVF,HT.sIx]
  |some i=>
   simp only[cVF,HT.sIx,Option.getD_none,show(1:Int) > 0 by decide,if_true];by_cases h:i<0
   ·simp only[h,if_true]<;> omega
   ·simp only[h,if_false]<;> omega
 ·cases hi with
  |none=>simp[cVF,HT.sIx]
  |some i=>
   simp only[cVF,HT.sIx,Option.getD_none,show(1:Int) > 0 by decide,if_true];by_cases h:i<0
   ·simp only[h,if_true]<;> omega
   ·simp only[h,if_false]<;> omega
def aZZ(its:List cXb)(lo hi:Option Int):slicePick its.toArray lo hi none=((its.drop (HT.sIx its.length 0 lo)).take (HT.sIx its.length its.length hi - HT.sIx its.length 0 lo)).toArray:=by
 obtain⟨h1,h2,a⟩:=aJS lo hi its.toArray.size;unfold slicePick;rw[h1,h2,a];simp only[sliceRange_one,pick_run,cXt]<;> rfl
inductive cQY(K:cXc)(x:V)(lo:Option Int)(hi:Option Int)(H:Hp)(Q:VK):Prop|mk(a xs)(h:x= .ref a)(h:SqL K H a xs)(h:∀p,H p=none->Q (.ref p) (upd H p (.lst (qC xs lo hi))))
def aXK:SlR X (cQY X.K):=by
 intro pins s σ H x v n p lo hi m Q I g j pl f h;obtain⟨a,xs,rfl,i,q⟩:=h;cases g;obtain⟨k,r,d,e⟩:=I.list i;have c:=r.length;refine⟨AC,_,slot_list_getitem.lookup,d.isList.typeIs,?_⟩;refine wpAny_getItem_list_slice d.isList j pl f .none (by simp) ?_ (by rw[cXt]<;> omega);rw[aZZ,<- c];refine⟨.ref s.heap.objs.size,_,I.laid (t':=s.toks) (o:= .lst (qC xs lo hi)) (λb l q=>cXg _ q) (cXh _) ?_,Ce,q _ (I.hok.fresh (cXh _))⟩;exact⟨cXJ (aQ3 xs lo hi) e,_,0,(r.drop (HT.sIx xs.length 0 lo)).take (HT.sIx xs.length xs.length hi - HT.sIx xs.length 0 lo),cXA _ rfl⟩
def aQM:V->Bool
 |.non=>true
 |.bl _=>true
 |.int _=>true
 |.str _=>true
 |_=>false
def eqV:V->V->Bool
 |.non,.non=>true
 |.bl a,.bl b=>a==b
 |.bl a,.int b=>(if a then 1 else 0)==b
 |.int a,.bl b=>a==(if b then 1 else 0)
 |.int a,.int b=>a==b
 |.str a,.str b=>a==b
 |_,_=>false
def bVh(e:wG y u)(c:wG x v)(g:aQM y=true)(f:aQM x=true):cWR A s u v (eqV y x):=by
 cases y with
 |non=>
  cases e;cases x with
  |non=>cases c;exact SeqAt.EqAt.same _
  |bl b=>cases c;exact SeqAt.EqAt.none_bool b
  |int b=>obtain⟨t,rfl⟩:=c;exact SeqAt.EqAt.none_int b t
  |str b=>obtain⟨t,rfl⟩:=c;exact SeqAt.EqAt.none_str b t
  |_=>exact absurd (show false=true from f) Bool.false_ne_true
 |bl a=>
  cases e;cases x with
  |non=>cases c;exact SeqAt.EqAt.bool_none a
  |bl b=>cases c;exact SeqAt.EqAt.bool_bool a b
  |int b=>obtain⟨t,rfl⟩:=c;exact SeqAt.EqAt.bool_int a b t
  |str b=>obtain⟨t,rfl⟩:=c;exact SeqAt.EqAt.bool_str a b t
  |_=>exact absurd (show false=true from f) Bool.false_ne_true
 |int a=>
  obtain⟨d,rfl⟩:=e;cases x with
  |non=>cases c;exact SeqAt.EqAt.int_none a d
  |bl b=>cases c;exact SeqAt.EqAt.int_bool a d b
  |int b=>obtain⟨t,rfl⟩:=c;exact SeqAt.EqAt.int_int a d b t
  |str b=>obtain⟨t,rfl⟩:=c;exact SeqAt.EqAt.int_str a d b t
  |_=>exact absurd (show false=true from f) Bool.false_ne_true
 |str a=>
  obtain⟨d,rfl⟩:=e;cases x with
  |non=>cases c;exact SeqAt.EqAt.str_none a d
  |bl b=>cases c;exact SeqAt.EqAt.str_bool a d b
  |int b=>obtain⟨t,rfl⟩:=c;exact SeqAt.EqAt.str_int a d b t
  |str b=>obtain⟨t,rfl⟩:=c;exact SeqAt.EqAt.str_str a d b t
  |_=>exact absurd (show false=true from f) Bool.false_ne_true
 |_=>exact absurd (show false=true from g) Bool.false_ne_true
def eqU(x:V)(u:cXb):Bool:=match u with
 |.none=>eqV .non x
 |.bool b=>eqV (.bl b) x
 |.int i _=>eqV (.int i) x
 |.str z _=>eqV (.str z) x
 |_=>false
def bVi(r:wG y u)(f:aQM y=true):eqU x u=eqV y x:=by
 cases y with
 |non=>cases r;rfl
 |bl b=>cases r;rfl
 |int i=>obtain⟨t,rfl⟩:=r;rfl
 |str z=>obtain⟨t,rfl⟩:=r;rfl
 |_=>exact absurd (show false=true from f) Bool.false_ne_true
theorem aQ0{x:V}:∀ {xs:List V} {us:List cXb},zD xs us->xs.all aQM=true->us.any (eqU x)=xs.any λy=>eqV y x
 |_,_,.nil,_=>rfl
 |y::xs,u::us,.cons r t,f=>by rw[cVy,Bool.and_eq_true]at f;rw[cJr,cJr,bVi r f.1,aQ0 t f.2]
theorem J2(c:wG x v)(b:aQM x=true):∀ {xs:List V} {us:List cXb},zD xs us->xs.all aQM=true->∀u∈us,cWR A s u v (eqU x u)
 |_,_,.nil,_=>λu a=>by cases a
 |y::xs,u::us,.cons r t,f=>λd a=>by
  rw[cVy,Bool.and_eq_true]at f;rcases cXj.mp a with rfl|a
  ·rw[bVi r f.1];exact bVh r c f.1 b
  ·exact J2 c b t f.2 d a
def inV(x:V)(xs:List V):Bool:=xs.any λy=>eqV y x
inductive rIn(K:cXc)(neg:Bool)(x:V)(y:V)(H:Hp)(Q:VK):Prop|mk(p xs)(h:y= .ref p)(h:(SqL K H p xs\/SqT K H p xs))(h:aQM x=true)(h:xs.all aQM=true)(h:Q (.bl (if neg then !inV x xs else inV x xs)) H)
def uF:OpR X (cZN .In) (rIn X.K false):=by
 intro pins s σ H x y v u Q I d f h;obtain⟨p,xs,rfl,b,c,fs,q⟩:=h;cases f;rcases b with b|b
 ·obtain⟨a,r,pl,e⟩:=I.list b;refine SeqAt.in_listAt (eqU x) pl.isList (λw hw=>J2 d c r fs w (by simpa using hw)) ⟨.bl _,H,I,Ce,?_⟩;rw[show a.toArray.any (eqU x)=a.any (eqU x) by simp,aQ0 r fs];exact q
 ·obtain⟨a,r,pl,e⟩:=I.tuple b;refine SeqAt.in_tupleAt (eqU x) pl (λw hw=>J2 d c r fs w (by simpa using hw)) ⟨.bl _,H,I,Ce,?_⟩;rw[show a.toArray.any (eqU x)=a.any (eqU x) by simp,aQ0 r fs];exact q
def aQH:OpR X (cZN .NotIn) (rIn X.K true):=by
 intro pins s σ H x y v u Q I d f h;obtain⟨p,xs,rfl,b,c,fs,q⟩:=h;cases f;rcases b with b|b
 ·obtain⟨a,r,pl,e⟩:=I.list b;refine SeqAt.notIn_listAt (eqU x) pl.isList (λw hw=>J2 d c r fs w (by simpa using hw)) ⟨.bl _,H,I,Ce,?_⟩;rw[show a.toArray.any (eqU x)=a.any (eqU x) by simp,aQ0 r fs];exact q
 ·obtain⟨a,r,pl,e⟩:=I.tuple b;refine SeqAt.notIn_tupleAt (eqU x) pl (λw hw=>J2 d c r fs w (by simpa using hw)) ⟨.bl _,H,I,Ce,?_⟩;rw[show a.toArray.any (eqU x)=a.any (eqU x) by simp,aQ0 r fs];exact q
inductive W0(K:cXc)(xs:List V)(H:Hp)(Q:VK):Prop|mk(p ys)(h:xs= [.ref p])(h:(SqL K H p ys\/SqT K H p ys))(h:Q (.int ys.length) H)
def yN:jZ X (.builtin C0) (W0 X.K):=by
 intro pins s σ H xs i Q I r h;obtain⟨p,ys,rfl,b,q⟩:=h;obtain⟨u,rfl,f⟩:=aQt r;cases f;have g:=aJA;rcases b with b|b
 ·obtain⟨d,c,pl,e⟩:=I.list b;have a:=c.length;exact Calls.call_len_list pl.isList (by simp only[cXt]<;> omega) ⟨.int ys.length,H,I.tok _,⟨s.toks+1,by rw[cXt,a]⟩,q⟩
 ·obtain⟨d,c,pl,e⟩:=I.tuple b;have a:=c.length;exact len_tuple pl (by simp only[cXt]<;> omega) ⟨.int ys.length,H,I.tok _,⟨s.toks+1,by rw[cXt,a]⟩,q⟩
inductive aZp(K:cXc)(xs:List V)(H:Hp)(Q:VK):Prop|mk(p ys)(h:xs= [.ref p])(h:(SqL K H p ys\/SqT K H p ys))(h:∀l,H l=none->Q (.ref l) (upd H l (.lst ys)))
def uQ:jZ X (.type AC) (aZp X.K):=by
 intro pins s σ H xs v Q I r h;obtain⟨p,ys,rfl,f,q⟩:=h;obtain⟨u,rfl,t⟩:=aQt r;cases t;have fin:∀ (a:List cXb),zD ys a->ys.length<=cXy->∀ (h':Heap)(d:Nat),(∀b o',s.heap.get? b=some o'->h'.get? b=some o')->
   h'.get? s.heap.objs.size=some {cls:= .type AC,dict:=none,data:= .seq a.toArray d,slots:= #[] }->EP X pins σ Q (.ref s.heap.objs.size) {s with heap:=h'}:=λa c g h' d i e=>
  ⟨.ref s.heap.objs.size,_,I.laid (t':=s.toks) i (cXh _) (show zT X.prog X.w _ h' _ (.lst ys)from⟨g,a,d,c,e⟩),Ce,q _ (I.hok.fresh (cXh _))⟩
 rcases f with f|f
 ·obtain⟨a,c,pl,g⟩:=I.list f;have j:=c.length;obtain⟨o,k,m,n,l⟩:=pl.isList;exact call_list_seq p (.inl rfl) k m l (λh' d i e=>fin a c g h' d i e) (by simp only[cXt]<;> omega)
 ·obtain⟨a,c,pl,g⟩:=I.tuple f;have j:=c.length;obtain⟨o,k,m,n,l⟩:=pl;exact call_list_seq p (.inr rfl) k m l (λh' d i e=>fin a c g h' d i e) (by simp only[cXt]<;> omega)
inductive aXU(K:cXc)(xs:List V)(H:Hp)(Q:VK):Prop|mk(p ys)(h:xs= [.ref p])(h:((SqL K H p ys/\∀l,H l=none->Q (.ref l) (upd H l (.tup ys)))\/(SqT K H p ys/\Q (.ref p) H)))
def W1:jZ X (.type AE) (aXU X.K):=by
 intro pins s σ H xs m Q I r h;obtain⟨p,ys,rfl,h⟩:=h;obtain⟨u,rfl,l⟩:=aQt r;cases l;rcases h with⟨c,q⟩|⟨c,q⟩
 ·obtain⟨a,d,pl,f⟩:=I.list c;have g:=d.length;refine call_tuple_list pl.isList (λh' k=>?_) (by simp only[cXt]<;> omega);have i:Inv X pins σ H {s with heap:=h'}:=I.kept (t':=s.toks) k;have j:Inv X pins σ (upd H h'.objs.size (.tup ys)) {s with heap:=h'.push {cls:= .type AE,data:= .seq a.toArray} }:=
   i.laid (t':=s.toks) (λb o e=>cXg _ e) (cXh _) (show zT X.prog X.w _ _ _ (.tup ys)from⟨f,a,d,IsTup.new _ _⟩)
  exact⟨.ref h'.objs.size,_,j,Ce,q _ (i.hok.fresh (cXh _))⟩
 ·obtain⟨a,d,pl,f⟩:=I.tuple c;exact call_tuple_same pl ⟨.ref p,H,I,Ce,q⟩
def tyV(K:cXc)(T:String)(x:V)(H:Hp):Prop:=match x with
 |.str _=>T=At
 |.int _=>T=As
 |.ref p=>(T=AC/\∃xs,SqL K H p xs)\/(T=AE/\∃o,K.lookup p=some o/\o.cls= .type AE/\o.dict=none)\/
   (T="dict"/\((∃a,H p=some (.dK a))\/∃a,H p=some (.dT a)))\/(T=B6/\∃S n,H p=some (.set S n))
 |_=>False
def bVF(I:Inv X pins σ H s)(r:wG x v)(ty:tyV X.K T x H): s.TypeIs v T/\∀a,v= .ref a->∃h,s.heap.get? a=some h/\h.dict=none:=by
 cases x with
 |str z=>obtain⟨t,rfl⟩:=r;cases (show T=At from ty);exact⟨typeIs_str s z t,λ_ e=>nomatch e⟩
 |int i=>obtain⟨t,rfl⟩:=r;cases (show T=As from ty);exact⟨typeIs_int s i t,λ_ e=>nomatch e⟩
 |ref p=>
  cases r;rcases ty with⟨rfl,xs,j⟩|⟨rfl,o,b,k,d⟩|⟨rfl,b⟩|⟨rfl,S,n,b⟩
  ·obtain⟨l,_,pl,_⟩:=I.list j;refine⟨pl.isList.typeIs,λa e=>?_⟩;cases e;obtain⟨o,n,e,c,d,_⟩:=pl;exact⟨o,e,d⟩
  ·refine⟨⟨o,I.kIn p o b,k⟩,λa e=>?_⟩;cases e;exact⟨o,I.kIn _ o b,d⟩
  ·have z:∃o,s.heap.get? p=some o/\o.ExactDict:=by
    rcases b with⟨f,b⟩|⟨f,b⟩
    ·obtain⟨_,_,_,_,o,_,_,e,ex,_⟩:=I.hok p _ b;exact⟨o,e,ex⟩
    ·obtain⟨_,_,_,_,o,_,_,e,ex,_⟩:=I.hok p _ b;exact⟨o,e,ex⟩
   obtain⟨o,e,ex⟩:=z;refine⟨⟨o,e,ex.1⟩,λa g=>?_⟩;cases g;exact⟨o,e,ex.2.1⟩
  ·obtain⟨o,_,_,_,e,ex,_⟩:=I.hok p _ b;refine⟨⟨o,e,ex.1⟩,λa g=>?_⟩;cases g;exact⟨o,e,ex.2.1⟩
 |_=>exact cZO ty
inductive cQq(K:cXc)(T:String)(r:V->List V->Hp->VK->Prop)(Q:VK)(x:V)(H1:Hp):Prop|mk(h:tyV K T x H1)(h:r x [] H1 Q)
def cQ3(K:cXc)(T:String)(r:V->List V->Hp->VK->Prop)(to:TE):TE:=λσ H Q=>to σ H λx H1=>cQq K T r Q x H1
inductive cQ4(K:cXc)(T:String)(r:V->List V->Hp->VK->Prop)(t:TA)(σ:St)(Q:VK)(x:V)(H1:Hp):Prop|mk(h:tyV K T x H1)(h:t σ H1 λxs H2=>r x xs H2 Q)
def tBM(K:cXc)(T:String)(r:V->List V->Hp->VK->Prop)(to:TE)(t:TA):TE:=λσ H Q=>to σ H λx H1=>cQ4 K T r t σ Q x H1
variable {o e:Expr}{es:List Expr}{to:TE}{t:TA}{name:Str}{apos cpos:Pos}{T id:String}{r:V->List V->Hp->VK->Prop}
def bQN(g:PlainAttrs T)(c:Slot T name id)(d:typeOf (.builtin id)=pure (.type "method_descriptor"))(e:MtR X id r)(f:PE X o to) (a:cJ4 o name X.env (eval o X.env)=eval o X.env:=by rfl) (b:(apos.endLine==cpos.line)=true:=by rfl):PE X (.Call (.Attribute o name apos) [] [] cpos) (cQ3 X.K T r to):=by
 intro pins s σ H Q I h;refine wpAny_Call_method0_late a b (thn (f pins s σ H _ I h) λv s1 ⟨x,H1,I1,r1,ty,q1⟩=>?_);obtain⟨h1,h2⟩:=bVF I1 r1 ty;exact⟨T,id,g,c,d,h1,h2,Calls.callWith_builtin rfl (PySem.evalArgs_none (e pins s1 σ H1 x [] v [] Q I1 r1 .nil q1))⟩
def jD(k:PlainAttrs T)(f:Slot T name id)(g:typeOf (.builtin id)=pure (.type "method_descriptor"))(l:MtR X id r)(j:PE X o to)(n:PA X (e::es) t)
  (c:cJ4 o name X.env (eval o X.env)=eval o X.env:=by rfl)
  (d:((cZW cpos (cXR (e::es) X.env)).all (λx=> !x.1) && (cVw cpos (cJy [] X.env)).all (λx=>x.1.isSome) && decide ((e::es).length+([]:List Keyword).length+(if([]:List Keyword).isEmpty then 0 else 1)<30))=true:=by rfl)
  (b:(apos.endLine==cpos.line)=true:=by rfl) (m:cXR (e::es) X.env=(false,eval e X.env)::cXR es X.env:=by rfl) (a:(cZW cpos (cXR es X.env)).any (·.1)=false:=by rfl):
  PE X (.Call (.Attribute o name apos) (e::es) [] cpos) (tBM X.K T r to t):=by
 intro pins s σ H Q I h
 refine wpAny_Call_method_late c d b rfl (thn (j pins s σ H _ I h) λv s1 ⟨x,H1,I1,r1,ty,q1⟩=>?_)
 obtain⟨h1,h2⟩:=bVF I1 r1 ty
 refine⟨T,id,k,f,g,h1,h2,?_⟩
 have i:=n cpos pins s1 σ H1 _ I1 q1
 rw[m]at i ⊢
 refine Calls.callWith_builtin (by show(false || (cZW cpos (cXR es X.env)).any (·.1))=false;rw[a]<;> rfl) (Calls.evalArgs_plain ?_)
 exact thn i λus s2 ⟨vs,H2,I2,r2,q2⟩=>l pins s2 σ H2 x vs v us Q I2 r1 r2 q2
end
end L2
namespace L2
open PySem PySem.Spec PyProof.Rows
def MtM(X:Cx)(id:String)(r:V->List V->Hp->VK->Prop):Prop:=
 ∀ (pins:List (Addr×Obj))(s:cXd)(σ:St)(H:Hp)(x:V)(xs:List V)(v:cXb)(a:List cXb)(Q:VK),Inv X pins σ H s->wG x v->zD xs a->r x xs H Q->
  cXi (cXk X.prog X.w) X.A (call (.builtin id) (v::a)) (EP X pins σ Q) X.xe s
def zD.one:∀ {x:V} {us:List cXb},zD [x] us->∃u,us= [u]/\wG x u
 |_,_,.cons r .nil=>⟨_,Ce,r⟩
def zD.two:∀ {x y:V} {us:List cXb},zD [x,y] us->∃u v,us= [u,v]/\wG x u/\wG y v
 |_,_,_,.cons r (.cons q .nil)=>⟨_,_,Ce,r,q⟩
def zD.zero:∀ {us:List cXb},zD [] us->us= []
 |_,.nil=>rfl
def zD.dropLast(h:zD xs us):zD xs.dropLast us.dropLast:=by
 induction h with
 |nil=>exact .nil
 |cons r t a=>
  cases t with
  |nil=>exact .nil
  |cons q b=>exact .cons r a
def zD.reverse(h:zD xs us):zD xs.reverse us.reverse:=by
 induction h with
 |nil=>exact .nil
 |cons r t a=>rw[List.reverse_cons,List.reverse_cons];exact zD.append a (.cons r .nil)
def aKp{α:Type}(l:List α):l.eraseIdx (l.length - 1)=l.dropLast:=by
 induction l with
 |nil=>rfl
 |cons a r c=>
  cases r with
  |nil=>rfl
  |cons b r=>
   have e:(a::b::r).length - 1=((b::r).length - 1)+1:=by have h1:(a::b::r).length=r.length+2:=rfl;have h2:(b::r).length=r.length+1:=rfl;omega
   rw[e,List.eraseIdx_cons_succ,c];all_goals rfl
section
variable {X:Cx}{pins:List (Addr×Obj)}{σ:St}{H:Hp}{s:cXd}{l b:Addr}{xs ys zs:List V}
def Inv.lset{its its':List cXb}{n:Nat}{f:Array cXb->Array cXb}{t':Nat}(I:Inv X pins σ H s)(g:H l=some (.lst xs)) (e:s.heap.get? l=some {cls:= .type AC,data:= .seq its.toArray n}) (c:f its.toArray=its'.toArray) (a:zD ys its') (b:ys.length<=cXy): Inv X pins σ (upd H l (.lst ys)) {s with heap:=s.heap.update l (cXY f),toks:=t'}:=by
 have q:=PySem.IsL.update e f;rw[c]at q;refine I.write (x:=l) (e:=l) (by rw[g];exact trivial) (.inl rfl) (λi u h d=>(cXL s.heap (cXY f) (cXT h)).trans d) ⟨_,q⟩ ?_;exact⟨b,its',_,a,q⟩
def Inv.lnew(I:Inv X pins σ H s)(a:zD ys its)(hz:ys.length<=cXy): Inv X pins σ (upd H s.heap.objs.size (.lst ys)) {s with heap:=s.heap.push {cls:= .type AC,data:= .seq its.toArray},toks:=t'}:=
 I.laid (λ_ _ q=>cXg _ q) (cXh _) ⟨hz,its,0,a,cXA _ rfl⟩
def Inv.fresh(I:Inv X pins σ H s):H s.heap.objs.size=none:=I.hok.fresh (cXh _)
def Inv.lstM(I:Inv X pins σ H s)(a:H l=some (.lst xs)):xs.length<=cXy/\∃ (its:List cXb)(n:Nat),zD xs its/\xs.length=its.length/\s.heap.get? l=some {cls:= .type AC,data:= .seq its.toArray n}:=by
 obtain⟨z,its,n,r,e⟩:=I.hok l _ a;exact⟨z,its,n,r,r.length,e⟩
def bZM(h:n<=cXy):cVJ n=false:=by
 unfold cVJ;exact decide_eq_false (by omega)
end
section
variable {X:Cx}
inductive bQU(x:V)(vs:List V)(H:Hp)(Q:VK):Prop|mk(l xs y)(h:x= .ref l)(h:vs= [y])(h:H l=some (.lst xs))(h:xs.length<cXy)(h:Q .non (upd H l (.lst (xs++ [y]))))
def xR:MtM X "list.append" bQU:=by
 intro pins s σ H x i v j Q I c f h;obtain⟨l,xs,y,rfl,rfl,b,g,q⟩:=h;cases c;obtain⟨u,rfl,d⟩:=f.one;obtain⟨z,a,n,r,hl,e⟩:=I.lstM b;refine call_meets F.slot_list_append ⟨_,e,rfl⟩ F.entry_list_append (F.args_list_append_2 _ _) (PySem.list_append l a.toArray n u (by rw[cXt];omega)) ⟨e,?_⟩;refine⟨.non,_,I.lset (its':=a++ [u]) b e (by simp) (r.append (.cons d .nil)) ?_,Ce,q⟩;rw[cXD,cZp];omega
inductive bWL(x:V)(vs:List V)(H:Hp)(Q:VK):Prop|mk(l b xs zs)(h:x= .ref l)(h:vs= [.ref b])(h:H l=some (.lst xs))(h:H b=some (.lst zs))(h:xs.length+zs.length<=cXy)(h:Q .non (upd H l (.lst (xs++zs))))
def bQk:MtM X "list.extend" bWL:=by
 intro pins s σ H x A v B Q I i w h;obtain⟨l,b,xs,zs,rfl,rfl,g,k,y,q⟩:=h;cases i;obtain⟨u,rfl,j⟩:=w.one;cases j;obtain⟨z,c,n,r,hl,e⟩:=I.lstM g;obtain⟨z2,a,m,o,t,p⟩:=I.lstM k;have f:c.toArray.size+a.toArray.size<=cXy:=by rw[cXt,cXt];omega
 have d:¬ (!c.toArray.isEmpty && cVJ (c.toArray.size+a.toArray.size))=true:=by rw[bZM f,Bool.and_false];exact Bool.false_ne_true
 refine call_meets F.slot_list_extend ⟨_,e,rfl⟩ F.entry_list_extend (F.args_list_extend_2 _ _)
  (AutoSeq1.list_extend_list_list_0 l c.toArray n b a.toArray m d (by rw[cXt];omega) (by omega)) ⟨e,p,?_⟩
 refine⟨.non,_,I.lset (its':=c++a) g e (by simp) (r.append o) ?_,Ce,q⟩;rw[cXD];omega
inductive cQX(x:V)(vs:List V)(H:Hp)(Q:VK):Prop|mk(l xs y)(h:x= .ref l)(h:vs= [])(h:H l=some (.lst xs))(h:xs[xs.length - 1]? =some y)(h:Q y (upd H l (.lst xs.dropLast)))
def bQl:MtM X "list.pop" cQX:=by
 intro pins s σ H x m v o Q I f k h;obtain⟨l,xs,y,rfl,rfl,d,i,q⟩:=h;cases f;have b:=k.zero;subst b;obtain⟨z,a,n,r,hl,e⟩:=I.lstM d;obtain⟨u,j,g⟩:=r.get i;have c:a.toArray[a.toArray.size - 1]? =some u:=by show a.toArray[a.length - 1]? =some u;rw[<- cZQ,<- hl];exact j
 refine call_meets F.slot_list_pop ⟨_,e,rfl⟩ F.entry_list_pop (F.args_list_pop_1 _) (MeetsSeq.list_pop_last l a.toArray n u c (by rw[cXt];omega)) ⟨e,?_⟩;refine⟨y,_,I.lset (its':=a.dropLast) d e ?_ r.dropLast ?_,g,q⟩
 ·show a.toArray.eraseIdxIfInBounds (a.toArray.size - 1)=a.dropLast.toArray;rw[cXt,List.eraseIdxIfInBounds_toArray,aKp]
 ·rw[List.length_dropLast];omega
inductive cQW(x:V)(y:V)(H:Hp)(Q:VK):Prop|mk(l b xs zs)(h:x= .ref l)(h:y= .ref b)(h:H l=some (.lst xs))(h:H b=some (.lst zs))(h:xs.length+zs.length<=cXy)(h:∀p,H p=none->Q (.ref p) (upd H p (.lst (xs++zs))))
def aZa:OpR X (cJH .Add) cQW:=by
 intro pins s σ H x y v u Q I d g h;obtain⟨l,b,xs,zs,rfl,rfl,k,f,p,q⟩:=h;cases d;cases g;obtain⟨z,c,n,r,hl,e⟩:=I.lstM k;obtain⟨z2,a,t,j,o,m⟩:=I.lstM f;refine PySem.P.add_list e m ?_ (by rw[cXt,cXt];omega);have i:c.toArray++a.toArray=(c++a).toArray:=by simp
 rw[i];exact⟨.ref _,_,I.lnew (t':=s.toks) (r.append j) (by rw[cXD];omega),Ce,q _ I.fresh⟩
end
section
variable {prog:cXB}{w:cXN}{A:cX8}{E:cXb->cXd->Prop}{s:cXd}
end
section
variable {X:Cx}
end
end L2
namespace Att
open PySem PySem.W PySem.Calls PyProof.Rows
def aQ6:∀ (c:List Int)(vs:List cXb),WellAll P h vs (c.map WData.int)->cJv vs c:=by
 intro c;induction c with
 |nil=>intro vs w;rw[List.map_nil]at w;cases w;exact .nil
 |cons n c d=>
  intro vs w;rw[cXO]at w;cases w with
  |cons a b=>cases a;exact .cons _ _ (d _ b)
def bXx{l:OpenLaw}{n:Nat}(u:l.most=some n){P:Params}{h:Heap}{args:List WData}{vals:List cXb} (c:l.row.toRowW.claim.pre args=true) (j:WellAll P h vals args): ∃a o b,vals= [Value.ref a]/\args= [WData.list (b.map WData.int)]/\h.get? a=some {cls:= .type AC,data:= .seq o.toArray}/\cJv o b/\b.length<=n:=by
 have k:WShape.hasAll [] args [.list .int]=true:=(pre_splitW c).1;have m:l.pre.holds [] {args:=args}=true:=(pre_splitW c).2;obtain⟨d,r,rfl,h1,h2⟩:=hasAllW_cons k;obtain rfl:=hasAllW_nil h2;obtain⟨xs,rfl,p⟩:=hasW_list h1;obtain⟨b,rfl⟩:=items_int p;have e:b.length<=n:=by
  unfold OpenLaw.pre at m;have g:(WTm.not (.lt (.lit (.int (n:Int))) (.len (.arg 0)))).holds [] {args:= [.list (b.map .int)] }=true:=by have g:=(holds_andW m).1;rw[u]at g;exact g
  have i:=condW_of g (w_not (w_lt w_lit (w_len_list (w_arg rfl))));rw[cXe]at i;refine Nat.le_of_not_lt λq=>?_;have v:(n:Int)<((b.length:Nat):Int):=by omega
  first
   |(rw[decide_eq_true v]at i;exact absurd i (by decide))
   |(simp at i;omega)
 cases j with
 |cons w t=>
  cases t;cases w with
  |list s f=>exact⟨_,_,b,Ce,Ce,s,aQ6 b _ f,e⟩
def bQR(l:OpenLaw)(args:List WData):l.row.toRowW.claim.post args (.bool true) args=true:=
 postW_of (r:=l.row.toRowW) (X:=(true==true))
  (show WShape.has [] (.bool true) .bool=true by first|rfl|decide|simp[WShape.has,WShape.arms,WShape.armsAll])
  (show(WTm.eq .res (.lit (.bool true))).value [] {args:=args,res:=some (.bool true),after:=args}=some (.bool (true==true))from w_eq_bool (w_res rfl) w_lit) rfl
def aVc{l:OpenLaw}{n:Nat}{q:cXB}{loose:List Str}{z:(Str->Option cXb)->Heap->Prop}{A:cXN->Heap->Prop}{d:DefRec} (L:l.most=some n) (t:d.params.defaults= []) (call:∀ (w:cXN)(s₀ b:cXd)(mg s:Str->Option cXb)(g:Addr)(o:Obj)(v m e:cXb)(a:Addr)(vs:List cXb)(k:List Int), Ground q loose [] z w s₀ mg s b.heap->A w b.heap-> b.heap.get? g=some o->o.data= .func (docDef d.name d.params d.body d.scope v m e)->b.heap.CodeRec m d.name->mg d.name=some (.ref g)-> b.heap.get? a=some {cls:= .type AC,data:= .seq vs.toArray}->cJv vs k->k.length<=n->b.gens= #[]-> cJq (cXk l.prog w) callerA (.call (.ref g) ⟨[.ref a],[]⟩) (λr s'=>r= .ok (.ret (.bool true))/\OldK b.heap s'.heap/\s'.os=b.os/\AllBare s'.gens) b): WalkO q loose z A l.row.toRowW d [] (λf vs=>PySem.call f vs):=by
 intro w s₀ b mg s G Y g o v m e D kV H J x y p I args vals O j B M u E;obtain rfl:D= .none:=Dflts.none y t;obtain rfl:kV= .none:=Dflts.noKw y;obtain⟨a,vs,k,rfl,rfl,i,c,h⟩:=bXx L j u;refine enter_call (cZ8 (call w s₀ b mg s g o v m e a vs k G Y H (fd_plain J) x p i c h I) λr s' C=>?_);obtain⟨rfl,h2,F,K⟩:=C;exact⟨.inl ⟨.bool true,.bool true,[],Ce,λ_=>rfl,.bool true,bQR l _,λ_=>⟨List.Pairwise.nil,λ_ N=>(nomatch N)⟩⟩,h2,F,K⟩
section
variable {prog:cXB}{w:cXN}{A:cX8}{E:cXb->cXd->Prop}{s:cXd}{K:Frag}
end
end Att
namespace L2
open PySem PySem.Spec PyProof.Rows
def jI:∀ {vs:List cXb} {a:List Int},cJv vs a->zD (a.map V.int) vs
 |_,_,.nil=> .nil
 |_,_,.cons n t h=> .cons ⟨t,rfl⟩ (jI h)
end L2
namespace L2
open PySem PySem.Spec PyProof.Rows
end L2
namespace L2
open PySem PySem.Spec PyProof.Rows
def zE(s:Stmt):Arguments:=match s with
 |.FunctionDef _ a _ _ _ _ _ _ _ _=>a
 |_=>{posonlyargs:= [],args:= [],vararg:=none,kwonlyargs:= [],kw_defaults:= [],kwarg:=none,defaults:= [] }
def xW(s:Stmt):List Stmt:=match s with
 |.FunctionDef _ _ b _ _ _ _ _ _ _=>b
 |_=> []
def yH(s:Stmt):Scope:=match s with
 |.FunctionDef _ _ _ _ _ _ a _ _ _=>a
 |_=>{kind:= .function,names:= [],isGenerator:=false,isCoroutine:=false}
abbrev CX0:CXT:=λ_ _ _ _ _ _=>False
abbrev E0:XK:=λ_ _ _=>False
def uU:uC CX0 X E0:=λ_ _ _ _ _ _ _ h=>h.elim
structure Fun(K:cXc)(x qual:Str)(st:Stmt)(f:Addr)(fd:cJc):Prop where
 ex:∃ (oc:cXb)(od:Option Addr)(kV doc pm:cXb)(an:Option Addr)(cdv ct:cXb)(osl:Array (Option cXb)),
  fd=cZf x qual (zE st) (xW st) (yH st) .none kV doc pm an cdv ct/\K.lookup f=some ⟨oc,od,.func fd,osl⟩/\cZ0 K cdv qual=true
 kp:cX7 K (.ref f)=true
section
variable {P:cXB}{w:cXN}{K:cXc}{mg:Str->Option cXb}{base:Heap}
def Fun.ok{x qual:Str}{st:Stmt}{f:Addr}{fd:cJc}{N ps:List Str}{k:Nat}{sp:Sp}(F:Fun K x qual st f fd)(S:yO N ps (yH st)) (b:∀ (a:cXb)(A:cX8)(outer:List Env)(s:cXd)(H:Hp)(vs:List V)(Q:VK)(E:XK),uT k (A.deeper (cJb qual (yH st) s.heap.objs.size f a))->sp vs H Q E-> ∃t,PSs (aZr CX0 P w K mg base N qual (yH st) f a A outer s H E).nox (xW st) t/\t {nx:=λ_ H'=>Q .non H',rt:=Q} (start N vs) H) (len:∀vs H Q E,sp vs H Q E->vs.length=ps.length:=by intro _ _ _ _ h;first|(cases h;subst_vars;exact rfl)|repeat (first|(obtain⟨rfl,_⟩:=h;exact rfl)|(obtain⟨_,h⟩:=h))):xL P w K mg base CX0 (k+1) f fd ps sp:=by
 obtain⟨j,m,kV,g,n,l,a,ct,i,rfl,lk,d⟩:=F.ex;refine bV2 lk d S len λA outer s H vs Q E e c=>?_;obtain⟨t,h,q⟩:=b a A outer s H vs Q E e c;exact⟨t,h.nox,q⟩
def Fun.binds{x qual:Str}{st:Stmt}{f:Addr}{fd:cJc}{ps:List Str}(F:Fun K x qual st f fd) (h:∀ (kV a d:cXb)(c:Option Addr)(b ct:cXb)(us:List cXb),us.length=ps.length->cJI (cZf x qual (zE st) (xW st) (yH st) .none kV a d c b ct) ⟨us,[]⟩=pure (ps.zip us)):uY K fd ps []:=by
 obtain⟨i,j,kV,a,d,c,b,ct,e,rfl,lk,g⟩:=F.ex;exact .all (h kV a d c b ct)
def aX6{x qual:Str}{st:Stmt}{f:Addr}{h:cXb}{i e:Option Addr}{d:Array (Option cXb)}{kV b g a ct:cXb}(l:K.lookup f=some ⟨h,i,.func (cZf x qual (zE st) (xW st) (yH st) .none kV b g e a ct),d⟩)
  (c:cZ0 K a qual=true) (k:cX7 K (.ref f)=true):Fun K x qual st f (cZf x qual (zE st) (xW st) (yH st) .none kV b g e a ct):=⟨⟨h,i,kV,b,g,e,a,ct,d,Ce,l,c⟩,k⟩
end
def bKT{k:Nat}(a:uT k A):A.units+1<cLine:=Nat.lt_of_le_of_lt (Nat.add_le_add_left (by decide:1<=64) _) a.units
section
variable {X:Cx}
def pv(i:Nat)(c:X.N[i]? =some x:=by rfl)(b:Vis X.env.scope x:=by first|exact Or.inl rfl|exact Or.inr (Or.inl rfl)|exact Or.inr (Or.inr rfl))(d:(x==(AK:Str))=false:=by decide)
  (a:(x==(BA:Str))=false:=by decide):PE X (.Name x pos) (bKr i):=bVt c b d a
end
def X4{c A B:Prop} [Decidable c] (h1:c->A)(h2:¬c->B):if c then A else B:=by
 by_cases h:c
 ·rw[if_pos h];exact h1 h
 ·rw[if_neg h];exact h2 h
def xJ(H H':Hp):Prop:=∀b o,H b=some o->H' b=some o
def xJ.refl(H:Hp):xJ H H:=λ_ _ h=>h
def xJ.trans(a:xJ H H1)(b:xJ H1 H2):xJ H H2:=λc o h=>b c o (a c o h)
def xJ.seq{K:cXc}{H H':Hp}{a:Addr}{xs:List V}(e:xJ H H')(h:SqL K H a xs):SqL K H' a xs:=by
 rcases h with(h|⟨o,h⟩)|h
 ·exact .inl (.inl (e _ _ h))
 ·exact .inl (.inr ⟨o,e _ _ h⟩)
 ·exact .inr h
end L2
namespace L2
open PySem
def scB(N P:List Str)(sc:Scope):Bool:=decide (sc.kind=.function/\sc.isCoroutine=false/\sc.isGenerator=false/\N.Nodup/\N.take P.length=P/\(∀x∈P,sc.names.lookup x=some .local\/sc.names.lookup x=some .cell)/\∀y∈sc.names,y.2≠.free)
theorem scM{N P:List Str}{sc:Scope}(h:scB N P sc=true:=by decide +kernel):yO N P sc:=
 have z:=of_decide_eq_true h;⟨z.1,z.2.1,z.2.2.1,z.2.2.2.1,z.2.2.2.2.1,z.2.2.2.2.2.1,z.2.2.2.2.2.2⟩
end L2
namespace L2
open PySem PySem.Spec PyProof.Rows
def W3(env:Env)(l:List (Str×cVL))(cs:List (Str×Nat)):Sem (List (Str×Nat)):=do
 let mut cs:=cs
 for (name,kind)in l do
  if kind== .free then cs:=(name,<- cellOf env name)::cs
 return cs
def aKi(env:Env)(cs:List (Str×Nat)):W3 env [] cs=pure cs:=by simp[W3]
def aVg(h:env.cells.lookup n=some c):W3 env ((n,.free)::r) cs=W3 env r ((n,c)::cs):=by
 have e:cellOf env n=pure c:=by unfold cellOf;rw[h]
 simp[W3,e]
def aJh{k:cVL}(h:k≠ .free):W3 env ((n,k)::r) cs=W3 env r cs:=by
 simp[W3,h]
set_option tactic.hygienic true in
theorem aVh:∀ (l:List (Str×cVL))(cs:List (Str×Nat)),(∀y∈l,y.2= .free->∃c,env.cells.lookup y.1=some c)->(∀y c,cs.lookup y=some c->env.cells.lookup y=some c)->
  ∃cl,W3 env l cs=pure cl/\(∀y c,cl.lookup y=some c->env.cells.lookup y=some c)/\(∀y,(∃c,cs.lookup y=some c)->∃c,cl.lookup y=some c)/\(∀y,(y,NameKind.free)∈l->∃c,cl.lookup y=some c)
 |[],cs,_,h=>⟨cs,aKi env cs,h,λ_ z=>z,λ_ z=>by cases z⟩
 |(n,k)::r,cs,hl,h=>by
  by_cases g:k= .free
  ·subst g;obtain⟨c,o⟩:=hl (n,.free) cXp rfl;obtain⟨cl,m,f,d,i⟩:=aVh r ((n,c)::cs) (λy a=>hl y (cXl _ a)) (λy b e=>by
    rw[cZ6]at e;split at e
    ·rename_i z;cases e;rw[beq_iff_eq.mp z];exact o
    ·exact h y b e)
   have j:∀y,(∃c,cs.lookup y=some c)->∃b,((n,c)::cs).lookup y=some b:=λy ⟨b,e⟩=>by
    rw[cZ6];split
    ·exact⟨_,rfl⟩
    ·exact⟨b,e⟩
   refine⟨cl,by rw[aVg o];exact m,f,λy z=>d y (j y z),λy a=>?_⟩;rcases cXj.mp a with e|a
   ·cases e;exact d _ ⟨c,by rw[cZ6,beq_self_eq_true]⟩
   ·exact i y a
  ·obtain⟨cl,m,f,d,i⟩:=aVh r cs (λy a=>hl y (cXl _ a)) h;refine⟨cl,by rw[aJh g];exact m,f,d,λy a=>?_⟩;rcases cXj.mp a with e|a
   ·cases e;exact absurd rfl g
   ·exact i y a
abbrev blk(X:Cx)(N:List Str)(sc:Scope)(cl:List (Str×Nat))(C:Nat)(s:cXd)(H:Hp)(ex:List Nat):Cx:=
 {X with N:=N,s₀:=s,H₀:=H,env:=compEnvC sc cl C X.env,outer:=X.stack,ex:=ex,fn:=λ_=>false,pn:= [],xe:=λ_ _=>False}
def sub(σ:St)(fr:List Nat)(o:Option V):St:=o::fr.map λi=>(σ[i]?).join
abbrev lsN(l:List (Str×cVL)):PySem.Scope:={kind:= .function,names:=l,isGenerator:=false,isCoroutine:=false,more:= [] }
def ixK{X:Cx}{K:cXc}(h:X.K=K:=by rfl):IxR X (bKx K):=by subst h;exact yK
def ixT{X:Cx}{K:cXc}(h:X.K=K:=by rfl):IxR X (cQh K):=by subst h;exact yX
structure xO(N:List Str)(osc:Scope)(x:Str)(names:List Str)(fr:List Nat)(sc:Scope):Prop where
 kind:sc.kind= .function
 nocell:∀y∈sc.names,y.2≠ .cell
 loc:∀y∈sc.names,y.2= .local->sc.names.lookup y.1=some .local
 var:sc.names.lookup x=some .local
 free:∀y∈sc.names,y.2= .free->osc.names.lookup y.1=some .cell\/osc.names.lookup y.1=some .free
 flk:∀y∈sc.names,y.2= .free->sc.names.lookup y.1=some .free
 nd:(x::names).Nodup
 len:fr.length=names.length
 taken:∀p∈names.zip fr,N[p.2]? =some p.1/\(p.1,NameKind.free)∈sc.names
def xO.from_{names:List Str}(S:xO N b x names fr sc)(j:Nat)(y:Str)(h:names[j]? =some y):∃i,fr[j]? =some i/\N[i]? =some y/\(y,NameKind.free)∈sc.names:=by
 have c:j<names.length:=(cXn.mp h).1;have a:j<fr.length:=by rw[S.len];exact c
 have z:(names.zip fr)[j]? =some (y,fr[j]):=by rw[List.getElem?_zip_eq_some];exact⟨h,cQ9 a⟩
 obtain⟨e,d⟩:=S.taken _ (cXs z);exact⟨fr[j],cQ9 a,e,d⟩
def bKE(X:Cx)(ifs:List Expr)(t:TT):Prop:=
 ∀ (pins:List (Nat×Obj))(s:cXd)(σ:St)(H:Hp)(Q:Bool->Hp->Prop),Inv X pins σ H s->t σ H Q->
  cXi (cXk X.prog X.w) X.A (forIn ifs true λc r=>if r=true then do let ok <- isTrue c X.env (eval c X.env);pure (cWc ok)else pure (cWc r)) (TP X pins σ Q) X.xe s
def cQy:TT:=λ_ H Q=>Q true H
def wS:bKE X [] cQy:=λpins s σ H Q I h=>by
 simp only[List.forIn_nil];exact cXf ⟨H,I,h⟩
def vC(d:PT X c a):bKE X [c] a:=λpins s σ H Q I h=>by
 simp only[cWd,List.forIn_nil,if_true,bind_assoc,pure_bind];refine cXa (thn (d pins s σ H Q I h) λb e z=>?_);exact cXf z
def bVL(J:It)(fr:List Nat)(tif:TT)(te:TE)(σ:St)(D:Nat)(Q:VK)(g:Hp):Prop:=
 ∃W:Nat->Nat->List V->Hp->Prop,(∃m,W 0 m [] g)/\∀i m a H,W i m a H->H D=some (.lst a)/\
  ((J.stop i H/\Q (.ref D) H)\/(J.go i H/\∀v d,J.yld i H v d->tif (sub σ fr (some v)) d λb e=>
   if b=true then te (sub σ fr (some v)) e λy f=>a.length<cXy/\f D=some (.lst a)/\∃c,c<m/\W (i+1) c (a++ [y]) (upd f D (.lst (a++ [y])))
   else ∃c,c<m/\W (i+1) c a e))
def tLc(wi:TI)(fr:List Nat)(tif:TT)(te:TE):TE:=λσ H Q=>wi σ H λJ a=>∀D,a D=none->bVL J fr tif te σ D Q (upd a D (.lst []))
theorem aZe{env:Env}:∀ {names:List (Str×cVL)} {y:Str},names.lookup y=some .free->
  (names.map λ(n,k)=>if(k==NameKind.free && env.scope.kind== .function && env.kindOf n==some .cell)then(n,NameKind.cell)else(n,k)).lookup y=some .cell\/
  (names.map λ(n,k)=>if(k==NameKind.free && env.scope.kind== .function && env.kindOf n==some .cell)then(n,NameKind.cell)else(n,k)).lookup y=some .free
 |[],_,h=>by simp at h
 |(n,k)::r,y,h=>by
  have b:= @aZe env r y;rw[cXO];dsimp only;cases a:y==n with
  |true=>
   rw[cZ6,a]at h;cases h;split
   ·left;rw[cZ6,a]
   ·right;rw[cZ6,a]
  |false=>
   rw[cZ6,a]at h;split
   ·rw[cZ6,a];exact b h
   ·rw[cZ6,a];exact b h
def aJK{env:Env}{sc:Scope}{y:Str}(h:sc.names.lookup y=some .free):(relabel sc env).names.lookup y=some .cell\/(relabel sc env).names.lookup y=some .free:=aZe h
section
variable {X:Cx}{pins:List (Nat×Obj)}{σ:St}{H:Hp}{s:cXd}
def bZF{R:Result->cXd->Prop}(I:Nat->cXd->Prop)
  (turn:∀n s,I n s->cXi (cXk prog w) A (pyNext it) (λr d=>match r with
   |none=>R (.ok .next) d
   |some v=>cXi (cXk prog w) A (cWl a it v) (λ_ e=>cXi (cXk prog w) A (assign a env v) (λ_ j=>
     cXi (cXk prog w) A (forIn ifs true λc r=>if r=true then do let ok <- isTrue c env (eval c env);pure (cWc ok)else pure (cWc r)) (λok b=>
      if ok=true then cXi (cXk prog w) A (eval elt env) (λx i=>
       cXi (cXk prog w) A (call (.builtin "list.append") [l,x]) (λ_ f=>∃m,m<n/\I m f) (λ_ _=>False) i) (λ_ _=>False) b
      else ∃m,m<n/\I m b) (λ_ _=>False) j) (λ_ _=>False) e) (λ_ _=>False) d) (λ_ _=>False) s)
  (n:Nat) (h:I n s):cJq (cXk prog w) A (.compLoop (.ListComp elt [⟨a,iter,ifs,0⟩] scope pos) 0 it l env) R s:=by
 refine codeAny_loop rfl I (λn s u=>?_) n h
 show cXi _ A ((compTurn (.ListComp elt [⟨a,iter,ifs,0⟩] scope pos) 0 it l env).onRaise (λx=>do cVO x env;theTreesLotGoes x)) _ _ s
 refine wpAny_noted ?_
 rw[compTurn_list]
 refine cXa (cV0 (cXa (cZh (turn n s u) (λr d g=>?_) λ_ _ z=>z.elim)))
 cases r with
 |none=>exact cXf g
 |some v=>
  refine cXa (cZh g (λ_ e o=>?_) λ_ _ z=>z.elim);refine cXa (cZh o (λ_ j p=>cXa (cZh p (λok b k=>?_) λ_ _ z=>z.elim)) λ_ _ z=>z.elim);cases ok with
  |false=>exact cXf ⟨rfl,k⟩
  |true=>refine cXa (cXa (cZh k (λx i q=>cXa (cZh q (λ_ f t=>?_) λ_ _ z=>z.elim)) λ_ _ z=>z.elim));exact cXf (cXf ⟨rfl,t⟩)
set_option tactic.hygienic true in
def bVl{names:List Str}{E:cXb->cXd->Prop}(S:xO X.N X.env.scope x names fr sc)(hc:X.calm=true)
  (d:∀y c,cl.lookup y=some c->X.env.cells.lookup y=some c) (Y:∀y,(y,NameKind.free)∈sc.names->∃c,cl.lookup y=some c)
  (b6:∀cl C s H ex,bKE (blk X (x::names) sc cl C s H ex) ifs tif) (he:∀cl C s H ex,PE (blk X (x::names) sc cl C s H ex) elt te)
  {tn:Nat->Heap->Prop} {Q:VK} (I:Inv X pins σ H s) (T:bYS X.prog X.w X.K (.Name x px) J f it tn) (st:tn 0 s.heap) (hf:∀b∈f,bVa X pins H b)
  (q:∀D,H D=none->bVL J fr tif te σ D Q (upd H D (.lst []))) {RR:cXb->Nat->Result->cXd->Prop}
  (b8:∀D C F g,Inv X pins σ g F->g C=none->C≠X.env.locals->X.s₀.heap.objs.size<=C->(∀y c,X.env.cells.lookup y=some c->c≠C)->(∀p∈X.pn++pins,p.1≠C)->(∃m,F.heap.Ns C m)->Q (.ref D) g->RR (.ref D) C (.ok .next) F):
  cXi (cXk X.prog X.w) X.A (newList []) (λb1 s₃=>cXi (cXk X.prog X.w) X.A (newFunctionEnv sc X.env.globals cl [] X.env.qual none .none (some X.env)) (λZ s₄=>
   cJq (cXk X.prog X.w) X.A (.compStart (.ListComp elt [⟨.Name x px,iter,ifs,0⟩] sc pos) 0 (.ref it) b1 {Z with scope:=relabel sc X.env}) (RR b1 Z.locals) s₄) E s₃) E s:=by
 refine cZx (wpAny_newFunctionEnv S.nocell (by intro y hy;simp at hy) (λt a4 a2=>?_) S.kind)
 dsimp only at a4 a2 ⊢
 have l:Inv X pins σ (upd H s.heap.objs.size (.lst [])) {s with heap:=s.heap.push {cls:= .type AC,dict:=none,data:= .seq ([]:List cXb).toArray} }:=I.lnew (t':=s.toks) (ys:= []) (its:= []) .nil (cZc _)
 have a8:=I.fresh
 obtain⟨W,⟨m0,w0⟩,turn⟩:=q s.heap.objs.size a8
 have a0:∀b∈f,∃o,s.heap.get? b=some o/\∀v,o.data≠ .cell v:=T.obj 0 _ st
 have hG:(s.heap.push {cls:= .type AC,dict:=none,data:= .seq ([]:List cXb).toArray}).objs.size=s.heap.objs.size+1:=cZE ..
 have kG:∀b o,s.heap.get? b=some o->(s.heap.push {cls:= .type AC,dict:=none,data:= .seq ([]:List cXb).toArray}).get? b=some o:=λb o e=>cXg _ e
 generalize c9:s.heap.push {cls:= .type AC,dict:=none,data:= .seq ([]:List cXb).toArray}=G at a4 a2 l hG kG ⊢
 generalize b7:s.heap.objs.size=D at a8 turn w0 hG l ⊢
 have keep:∀b o,G.get? b=some o->t.get? b=some o:=λb o e=>a2.extBut b o (cXx (cXq e)) (cXg _ e)
 have b4:∀b∈f,b≠G.objs.size:=λb a=>by obtain⟨o,e,_⟩:=a0 b a;exact cXx (cXq (kG b o e))
 have a1:∀y c,X.env.cells.lookup y=some c->c≠G.objs.size:=λy c e=>by obtain⟨v,z⟩:=l.cell y c e;exact cXx z.lt
 have b9:(blk X (x::names) sc cl G.objs.size {s with heap:=G} (upd H D (.lst [])) f).Ok:=by
  refine⟨I.ok.mod,?_,I.ok.glob,I.ok.blt,cXh _,?_,?_,?_,I.ok.hd,I.ok.frames,.inl rfl,?_,l.bs,cXJ I.ok.bsz l.sz,?_,?_,l.stack,l.stkFree⟩
  ·show(relabel sc X.env).kind= .function;exact S.kind
  ·exact λy z c h1 h2=>I.ok.inj y z c (d y c h1) (d z c h2)
  ·intro y hy;have c7:(relabel sc X.env).names.lookup y=some .cell\/(relabel sc X.env).names.lookup y=some .free:=hy;have U:(y,NameKind.cell)∈(relabel sc X.env).names\/(y,NameKind.free)∈(relabel sc X.env).names:=c7.imp cZM cZM;have c8:(y,NameKind.free)∈sc.names:=by
    rcases U with U|U
    ·obtain⟨⟨n,k⟩,hn,e⟩:=cX3.mp (show(y,NameKind.cell)∈sc.names.map _ from U);dsimp only at e;split at e
     ·rename_i L;cases e;have:k= .free:=by
       simp only[Bool.and_eq_true,beq_iff_eq]at L;exact L.1.1
      rw[this]at hn;exact hn
     ·cases e;exact absurd rfl (S.nocell _ hn)
    ·obtain⟨⟨n,k⟩,hn,e⟩:=cX3.mp (show(y,NameKind.free)∈sc.names.map _ from U);dsimp only at e;split at e
     ·cases e
     ·cases e;exact hn
   exact Y y c8
  ·exact λy c h _=>by cases h
  ·intro b a;exact⟨b4 b a,λy c e=>(hf b a).2.2.2.2.1 y c (d y c e)⟩
  ·intro b o e a;obtain⟨f0,f1,f2,f3,f4,f5⟩:=hf b a;rcases f3 with z|z
   ·exact I.ok.noex b o e z
   ·exact absurd (cXE (cXq e) (cXJ I.ok.bsz z)) (cZk _)
  ·intro b a z;obtain⟨f0,f1,f2,f3,f4,f5⟩:=hf b a;rcases cXj.mp (I.stkSub b z)with z|z
   ·exact f1 z
   ·exact f2 z
 have IY:Inv (blk X (x::names) sc cl G.objs.size {s with heap:=G} (upd H D (.lst [])) f) [] (sub σ fr none) (upd H D (.lst [])) {s with heap:=t,toks:=s.toks+([]:List (Str×cXb)).length}:=by
  refine⟨b9,Ce,I.bare,Un.kept keep,⟨_,a4,?_⟩,?_,l.hok.fresh (cXh _),λy c e=>l.freeC y c (d y c e),λp hp=>absurd (show p∈([]:List (Nat×Obj))from hp) (by simp),l.hok.kept keep,?_⟩
  ·intro i y v h1 h2 h3;cases i with
   |zero=>cases h2
   |succ j=>
    have c6:names[j]? =some y:=h1;obtain⟨i',e1,e2,e3⟩:=S.from_ j y c6;have b5:σ[i']? =some (some v):=by
     have z:(fr.map λi=>(σ[i]?).join)[j]? =some (some v):=h2;rw[cXu,e1]at z;have P:(σ[i']?).join=some v:=cXv z;cases q:σ[i']? with
     |none=>rw[q]at P;cases P
     |some o=>rw[q]at P;rw[show o=some v from P]
    obtain⟨m,hn,hl⟩:=l.loc;have b0:Vis X.env.scope y:= .inr (S.free _ e3 rfl);obtain⟨u,ru,lk⟩:=hl i' y v e2 b5 b0;refine⟨u,ru,.inr ⟨?_,?_⟩⟩
    ·exact aJK (S.flk _ e3 rfl)
    ·rcases lk with⟨k,_⟩|⟨k,c,e,z⟩
     ·rcases S.free _ e3 rfl with z|z
      ·have P:X.env.kindOf y=some .cell:=z;rw[k]at P;cases P
      ·have P:X.env.kindOf y=some .free:=z;rw[k]at P;cases P
     ·obtain⟨c',e'⟩:=Y y e3;have:=d y c' e';rw[e]at this;cases this;exact⟨c,e',z.keeps keep⟩
  ·intro y c e;obtain⟨v,z⟩:=l.cell y c (d y c e);exact⟨v,z.keeps keep⟩
  ·show(sub σ fr none).length=(x::names).length;simp[sub,S.len]
 have a6:∀ {o:Option V} {g:Hp} {F:cXd} {pl:List (Nat×Obj)},Inv (blk X (x::names) sc cl G.objs.size {s with heap:=G} (upd H D (.lst [])) f) pl (sub σ fr o) g F->Inv X pins σ g F:=λ{o g F pl} I'=>
  l.call' (ch:=f) I'.os I'.base I'.hok I'.bare λb a=>by obtain⟨f0,f1,f2,f3,f4,f5⟩:=hf b a;exact⟨f3,f1,f4,f5⟩
 have O:∀ {g:Hp},(∀b∈f,g b=none)->∀b∈f,bVa (blk X (x::names) sc cl G.objs.size {s with heap:=G} (upd H D (.lst [])) f) [] g b:=λ{g} hn b a=>by
  obtain⟨f0,f1,f2,f3,f4,f5⟩:=hf b a;refine⟨hn b a,b4 b a,λz=>?_,.inl a,λy c e=>f4 y c (d y c e),λp hp=>absurd (show p∈([]:List (Nat×Obj))from hp) (by simp)⟩;rcases cXj.mp (I.stkSub b z)with z|z
  ·exact f1 z
  ·exact f2 z
 have c2:∀b∈f,upd H D (.lst []) b=none:=λb a=>by
  obtain⟨o,e,_⟩:=a0 b a;have c3:b≠D:=by rw[<- b7];exact cXx (cXq e)
  rw[yJ c3];exact(hf b a).1
 have b2:tn 0 t:=T.keep 0 _ _ st λb a o e=>keep b o (kG b o e)
 have b3:cJq (cXk X.prog X.w) X.A (.compLoop (.ListComp elt [⟨.Name x px,iter,ifs,0⟩] sc pos) 0 (.ref it) (.ref D) (compEnvC sc cl G.objs.size X.env)) (RR (.ref D) G.objs.size) {s with heap:=t,toks:=s.toks+([]:List (Str×cXb)).length}:=by
  refine bZF (λn F=>L2.Ez4 λi B o g=>Inv (blk X (x::names) sc cl G.objs.size {s with heap:=G} (upd H D (.lst [])) f) [] (sub σ fr o) g F/\tn i F.heap/\(∀b∈f,g b=none)/\W i n B g) ?_ m0
   ⟨0,[],none,_,IY,b2,c2,w0⟩
  rintro n F ⟨i,B,o,g,I',a5,a7,w'⟩;obtain⟨hD,c0⟩:=turn i n B g w';rcases c0 with⟨a9,qn⟩|⟨go,step⟩
  ·refine thn (T.done (blk X (x::names) sc cl G.objs.size {s with heap:=G} (upd H D (.lst [])) f) rfl rfl rfl hc i [] F _ g (λ_ _=>False) I' (O a7) a5 a9) λr s1 ⟨hr,I1⟩=>?_;subst hr;obtain⟨mC,c5,_⟩:=I1.loc;exact b8 D G.objs.size s1 g (a6 I1) I1.free (cJB l.lt) l.sz a1 (λp hp=>cXx (cXq (l.pin p hp).1)) ⟨mC,c5⟩ qn
  ·refine thn (T.item (blk X (x::names) sc cl G.objs.size {s with heap:=G} (upd H D (.lst [])) f) rfl rfl rfl hc i [] F _ g (λ_ _=>False) I' (O a7) a5 go) λr s1 ⟨u,hr,h1⟩=>?_;subst hr;refine thn h1 λ_ s2 ⟨v,H2,I2,rv,yl,st2,fr2⟩=>?_;have c1:=I2.pinned (O fr2) (T.obj _ _ st2);have pg:PG (blk X (x::names) sc cl G.objs.size {s with heap:=G} (upd H D (.lst [])) f) (.Name x px) (yW 0):=xI S.nd rfl (.inl (lookup_relabel_local S.var)) (.inr (lookup_relabel_local S.var));have M:∀ {o:Option V} {H3:Hp} {s3:cXd},Inv (blk X (x::names) sc cl G.objs.size {s with heap:=G} (upd H D (.lst [])) f) ([]++aJJ f s2.heap) (sub σ fr o) H3 s3->tn (i+1) s3.heap/\∀b∈f,H3 b=none:=λ{o H3 s3} J3=>by
    refine⟨T.keep _ _ _ st2 λb a ob e=>(J3.pin (b,ob) (cXw _ (cXw _ (qY a e)))).1,λb a=>?_⟩;obtain⟨ob,e,_⟩:=T.obj _ _ st2 b a;exact(J3.pin (b,ob) (cXw _ (cXw _ (qY a e)))).2.1
   refine thn (pg _ s2 _ H2 v u (λσ' c4=>σ'=sub σ fr (some v)/\c4=H2) c1 rv ⟨rfl,rfl⟩) λ_ s3 ⟨σ3,H3,I3',e3,e3'⟩=>?_;subst e3;subst e3';refine thn (b6 cl G.objs.size {s with heap:=G} (upd H D (.lst [])) f _ s3 _ _ _ I3' (step v _ yl)) λb s4 ⟨H4,I4,q4⟩=>?_;cases b with
   |false=>have a3:∃R,R<n/\W (i+1) R B H4:=q4;obtain⟨R,U,w4⟩:=a3;obtain⟨z1,z2⟩:=M I4;show ∃m,m<n/\_;exact⟨R,U,i+1,B,some v,H4,I4.unpinned,z1,z2,w4⟩
   |true=>have a3:te (sub σ fr (some v)) H4 λy H5=>B.length<cXy/\H5 D=some (.lst B)/\∃R,R<n/\W (i+1) R (B++ [y]) (upd H5 D (.lst (B++ [y]))):=q4;show cXi _ _ _ _ _ _;refine thn (he cl G.objs.size {s with heap:=G} (upd H D (.lst [])) f _ s4 _ _ _ I4 a3) λue s5 ⟨y,H5,I5,r5,hl,hD5,R,U,w5⟩=>?_;refine thn (xR _ s5 _ H5 (.ref D) [y] (.ref D) [ue] (λ_ H6=>H6=upd H5 D (.lst (B++ [y]))) I5 rfl (.cons r5 .nil) ⟨D,B,y,Ce,Ce,hD5,hl,rfl⟩) λ_ s6 ⟨_,H6,I6,_,e6⟩=>?_;subst e6;obtain⟨z1,z2⟩:=M I6;exact⟨R,U,i+1,B++ [y],some v,_,I6.unpinned,z1,z2,w5⟩
 exact codeAny_compStart_list b3 (T.self _ 0 _ _ _ b2 b3)
def aVp{names:List Str}(S:xO X.N X.env.scope x names fr sc)(I:Inv X pins σ H s): ∃cl,closureFor sc X.env=pure cl/\(∀y c,cl.lookup y=some c->X.env.cells.lookup y=some c)/\(∀y,(y,NameKind.free)∈sc.names->∃c,cl.lookup y=some c):=by
 obtain⟨cl,f,g,_,d⟩:=aVh (env:=X.env) sc.names [] (λy a b=>I.ok.has y.1 (S.free y a b)) (λy c e=>by simp at e);exact⟨cl,f,g,d⟩
end
section
variable {X:Cx}{elt iter:Expr}{x:Str}{px:Pos}{ifs:List Expr}{sc:Scope}{pos:Pos}{names:List Str}{fr:List Nat}{wi:TI}{tif:TT}{te:TE}
def aQk(S:xO X.N X.env.scope x names fr sc)(t:X.calm=true)(L:PI X (.Name x px) iter wi)(d:∀cl C s H ex,bKE (blk X (x::names) sc cl C s H ex) ifs tif) (z:∀cl C s H ex,PE (blk X (x::names) sc cl C s H ex) elt te) (B:∀v,cWH iter X.env v=pure v:=by intro _;rfl):PE X (.ListComp elt [⟨.Name x px,iter,ifs,0⟩] sc pos) (tLc wi fr tif te):=by
 intro pins s σ H Q I h;obtain⟨cl,O,l,M⟩:=aVp S I;rw[eval_ListComp];refine cWP (use:=none) rfl B O S.kind S.loc (thn (L pins s σ H _ I h) λv W a=>thn a λP V g=>?_);obtain⟨U,R,tn,J,Z,rfl,F,T,u,p,q⟩:=g;refine bVl (RR:=λc C=>compPost (cXk X.prog X.w) X.A X.xe none (EP X pins σ Q) c C) S t l M d z F T u p q ?_;intro D C G n E a g k r y f i;obtain⟨m,f⟩:=f;exact⟨m,f,λY j=>⟨.ref D,n,E.turned (t':=G.toks) (λb o K e=>(j.2 b K).trans e) a (cXT (cXT g)) (.inr k) r y,Ce,i⟩⟩
def aX1(S:xO X.N X.env.scope x names fr sc)(O:X.calm=true)(F:X.N.Nodup)(R:X.N[i]? =some y)(hl:X.env.scope.names.lookup y=some .local)(hi:PI X (.Name x px) iter wi)
  (n:∀cl C s H ex,bKE (blk X (x::names) sc cl C s H ex) ifs tif) (V:∀cl C s H ex,PE (blk X (x::names) sc cl C s H ex) elt te)
  (t:swapsWith (.ListComp elt [⟨.Name x px,iter,ifs,0⟩] sc pos) (some (.Name y d)) c.line X.env=pure true:=by rfl) (W:∀v,cWH iter X.env v=pure v:=by intro _;rfl):
  PS X (.Assign [.Name y d] (.ListComp elt [⟨.Name x px,iter,ifs,0⟩] sc pos) c) (bYX (tLc wi fr tif te) (yW i)):=by
 intro pins s σ H D I h
 obtain⟨cl,c1,G,c4⟩:=aVp S I
 rw[exec_Assign_Name_used _ _ _ _ t]
 refine cXa (cV0 (cXa ?_))
 show cXi _ X.A (do let _ <- comprehension (.ListComp elt [⟨.Name x px,iter,ifs,0⟩] sc pos) sc X.env _ (newList []) false (eval iter X.env) (some (assign (.Name y d) X.env))) _ _ s
 refine cXa (cZh (cWP (use:=some (assign (.Name y d) X.env)) (Q:=λ_ f=>SP X pins D .next f) rfl W c1 S.kind S.loc (thn (hi pins s σ H _ I h) λv s1 k=>thn k λa0 s2 g=>?_)) (λ_ f j=>cXf (cXf j)) λ_ _ e=>e)
 obtain⟨it,fp,tn,J,H1,rfl,Z,T,P,M,q⟩:=g
 refine bVl (RR:=λl C=>compPost (cXk X.prog X.w) X.A X.xe (some (assign (.Name y d) X.env)) (λ_ f=>SP X pins D .next f) l C) S O G c4 n V Z T P M q ?_
 intro L C f K Y k g E B U p j
 obtain⟨m,p⟩:=p
 show cXi _ X.A (assign (.Name y d) X.env (.ref L)) _ _ f
 refine wpAny_assign_Name (aXO Y F R (.inl hl) (v:= .ref L) rfl (λs'' I'' ⟨a,sb,u⟩=>?_) (.inr hl))
 have z:C≠a:=by
  rcases u with rfl|u
  ·exact g
  ·exact cXT (B y a u)
 exact⟨m,p.sameBut sb z,λh' r=>⟨_,K,I''.turned (t':=s''.toks) (λb o hb e=>(r.2 b hb).trans e) k g (.inr E) B U,j⟩⟩
end
def aXf{K:cXc}{a:Nat}{xs:List V}{fr:List Nat}{tif:TT}{te:TE}{σ:St}{D:Nat}{Q:VK}{H:Hp}(p:V->Bool)(f:V->V)(hl:SqL K H a xs)(r:H D=none)(hz:xs.length<=cXy) (x:∀v∈xs,∀ (c:Hp)(R:Bool->Hp->Prop),(∀b,b≠D->c b=H b)->R (p v) c->tif (sub σ fr (some v)) c R) (u:∀v∈xs,p v=true->∀ (c:Hp)(R:VK),(∀b,b≠D->c b=H b)->R (f v) c->te (sub σ fr (some v)) c R) (t:Q (.ref D) (upd H D (.lst ((xs.filter p).map f)))):bVL (Itl K a) fr tif te σ D Q (upd H D (.lst [])):=by
 have d:∀g,SqL K (upd H D (.lst g)) a xs:=λg=>by
  rcases hl with(h|⟨o,h⟩)|h
  ·exact .inl (.inl (by rw[yJ (yI h r)];exact h))
  ·exact .inl (.inr ⟨o,by rw[yJ (yI h r)];exact h⟩)
  ·exact .inr h
 refine⟨λi m g c=>m=xs.length - i/\i<=xs.length/\g=((xs.take i).filter p).map f/\c=upd H D (.lst g),⟨xs.length,by simp,cZc _,by simp,rfl⟩,?_⟩;rintro i m g c ⟨rfl,C,rfl,rfl⟩;refine⟨yB,?_⟩;by_cases e:i<xs.length
 ·refine .inr ⟨⟨xs,xs[i],d _,cQ9 e⟩,λv E z=>?_⟩;obtain⟨rfl,y⟩:=z;have s:xs[i]? =some v:=y xs (d _);have j:v∈xs:=cXs s;have n:xs.take (i+1)=xs.take i++ [v]:=by rw[cZa,s];rfl
  have k:∀b,b≠D->upd H D (.lst (((xs.take i).filter p).map f)) b=H b:=λb A=>yJ A;have l:(((xs.take i).filter p).map f).length<cXy:=by rw[cXe];have w:=cX6 p (xs.take i);rw[cZl]at w;omega
  refine x v j _ _ k ?_;cases q:p v with
  |false=>show ∃B,_;refine⟨xs.length - (i+1),by omega,Ce,e,?_,rfl⟩;rw[n,cZo,cZB (by rw[q];decide)];simp
  |true=>show te _ _ _;refine u v j q _ _ k ⟨l,yB,xs.length - (i+1),by omega,Ce,e,?_,by rw[qP]⟩;rw[n,cZo,cZC q];simp
 ·obtain rfl:i=xs.length:=by omega
  refine .inl ⟨⟨xs,d _,cXh _⟩,?_⟩;rw[cX4];exact t
end L2
namespace L2
open PySem
def lcB(N:List Str)(osc:Scope)(x:Str)(names:List Str)(fr:List Nat)(sc:Scope):Bool:=decide (sc.kind=.function/\(∀y∈sc.names,y.2≠.cell)/\(∀y∈sc.names,y.2=.local->sc.names.lookup y.1=some .local)/\sc.names.lookup x=some .local/\(∀y∈sc.names,y.2=.free->osc.names.lookup y.1=some .cell\/osc.names.lookup y.1=some .free)/\(∀y∈sc.names,y.2=.free->sc.names.lookup y.1=some .free)/\(x::names).Nodup/\fr.length=names.length/\∀p∈names.zip fr,N[p.2]?=some p.1/\(p.1,NameKind.free)∈sc.names)
theorem lcM{N:List Str}{osc:Scope}{x:Str}{names:List Str}{fr:List Nat}{sc:Scope}(h:lcB N osc x names fr sc=true:=by decide +kernel):xO N osc x names fr sc:=
 have z:=of_decide_eq_true h;⟨z.1,z.2.1,z.2.2.1,z.2.2.2.1,z.2.2.2.2.1,z.2.2.2.2.2.1,z.2.2.2.2.2.2.1,z.2.2.2.2.2.2.2.1,z.2.2.2.2.2.2.2.2⟩
end L2
namespace Stb
open PySem
def bX6(xs:Array Nat):Prop:=∀i j:Nat,i<j->j<xs.size->xs.getD i 0<xs.getD j 0
def bV3{xs:Array Nat}{i:Nat}(h:i<xs.size)(d e:Nat):xs.getD i d=xs.getD i e:=by
 simp[cJM,h]
theorem aVn{xs:Array Nat}{j:Nat}(f:bX6 xs):∀ (a c b:Nat),b<=xs.size->c<=b->b - c<=a->
  (∀k,k<c->xs.getD k 0<j)->(∀k,b<=k->k<xs.size->j<=xs.getD k 0)->
  (∀k,k<cVe xs j a c b->xs.getD k 0<j)/\(∀k,cVe xs j a c b<=k->k<xs.size->j<=xs.getD k 0)/\cVe xs j a c b<=xs.size
 |0,c,b,h1,h2,h3,h4,h5=>by
  have e:c=b:=by omega
  subst e;unfold cVe;exact⟨h4,h5,h1⟩
 |a+1,c,b,h1,h2,h3,h4,h5=>by
  unfold cVe;by_cases hl:c<b
  ·rw[if_pos hl];dsimp only;have h:(c+b) / 2<xs.size:=by omega
   have e:=bV3 h j 0;by_cases i:xs.getD ((c+b) / 2) j<j
   ·rw[if_pos i];refine aVn f a _ _ h1 (by omega) (by omega) (λk l=>?_) h5;by_cases d:k=(c+b) / 2
    ·subst d;omega
    ·have:=f k ((c+b) / 2) (by omega) h;omega
   ·rw[if_neg i];refine aVn f a _ _ (by omega) (by omega) (by omega) h4 (λk l d=>?_);by_cases g:k=(c+b) / 2
    ·subst g;omega
    ·have:=f ((c+b) / 2) k (by omega) d;omega
  ·rw[if_neg hl];have e:c=b:=by omega
   subst e;exact⟨h4,h5,h1⟩
def qS(a:bX6 xs)(j:Nat): (∀k,k<cZe xs j->xs.getD k 0<j)/\(∀k,cZe xs j<=k->k<xs.size->j<=xs.getD k 0)/\cZe xs j<=xs.size:=by
 unfold cZe;exact aVn a xs.size 0 xs.size (cXh _) (cZc _) (by omega) (λk b=>absurd b (cZT _)) (λk d c=>by omega)
def aKb(c:bX6 xs)(e:i<xs.size):cZe xs (xs.getD i 0+1)=i+1:=by
 obtain⟨f,d,g⟩:=qS c (xs.getD i 0+1);have a:i<cZe xs (xs.getD i 0+1):=by apply Nat.lt_of_not_le;intro h;have:=d i h e;omega
 have b:¬i+1<cZe xs (xs.getD i 0+1):=λh=>by have q:=f (i+1) h;have:=c i (i+1) (by omega) (by omega);omega
 omega
def aKc(a:bX6 xs):cZe xs 0=0:=by
 obtain⟨b,c,d⟩:=qS a 0;apply Nat.le_antisymm _ (cZc _);apply Nat.le_of_not_lt;intro h;have:=b 0 h;omega
def aZw{α:Type}(xs:Array α)(p:Nat)(x:α)(h:p<=xs.size):(cVf xs p x).size=xs.size+1:=by
 unfold cVf;simp;omega
def aQy{p x k:Nat}(h:p<=xs.size):(cVf xs p x).getD k 0=if k<p then xs.getD k 0 else if k=p then x else xs.getD (k - 1) 0:=by
 unfold cVf;have f:(xs.extract 0 p).size=p:=by simp;omega
 have d:((xs.extract 0 p).push x).size=p+1:=by rw[Array.size_push,f]
 simp only[Array.getD_eq_getD_getElem?];by_cases c:k<p
 ·rw[if_pos c,cWy (by omega),Array.getElem?_push,if_neg (by omega),cWs (by omega)];have a:k<xs.size:=by omega
  simp[a]
 ·rw[if_neg c];by_cases b:k=p
  ·subst b;rw[if_pos rfl,cWy (by omega),Array.getElem?_push,if_pos (by omega)];rfl
  ·rw[if_neg b,Array.getElem?_append_right (by omega),d];by_cases g:k - (p+1)<xs.size - p
   ·rw[cWs (by omega)];have a:k - 1<xs.size:=by omega
    have e:p+(k - (p+1))=k - 1:=by omega
    simp[a,e]
   ·rw[cVc (by simp;omega),cVc (by omega)]
def aVK(d:bX6 xs)(l:∀k,k<xs.size->xs.getD k 0≠j):bX6 (cVf xs (cZe xs j) j):=by
 obtain⟨b1,g,c⟩:=qS d j;intro i k b h;rw[aZw _ _ _ c]at h;rw[aQy c,aQy c];by_cases e:i<cZe xs j
 ·rw[if_pos e];have v:=b1 i e;by_cases f:k<cZe xs j
  ·rw[if_pos f];exact d i k b (by omega)
  ·rw[if_neg f];by_cases a:k=cZe xs j
   ·rw[if_pos a];exact v
   ·rw[if_neg a];have:=g (k - 1) (by omega) (by omega);omega
 ·rw[if_neg e,if_neg (show ¬k<cZe xs j by omega),if_neg (show ¬k=cZe xs j by omega)];by_cases a:i=cZe xs j
  ·rw[if_pos a];have:=g (k - 1) (by omega) (by omega);have:=l (k - 1) (by omega);omega
  ·rw[if_neg a];exact d (i - 1) (k - 1) (by omega) (by omega)
def aK3(n:Nat):bX6 (Array.range n):=by
 intro i j b a;rw[Array.size_range]at a;simp[cJM,a,Nat.lt_trans b a,b]
def bQX{l:List Nat}(h:l.Pairwise (·<·)):bX6 l.toArray:=by
 intro i j c d;have a:j<l.length:=by simpa using d
 have b:i<l.length:=Nat.lt_trans c a;have:=cJP.mp h i j b a c;simp[cJM,a,b,this]
structure Tab(b:Bool)(t:cZ3):Prop where
 rise:bX6 t.place
 dum:t.dummies= #[]
 led:b=true\/t.led=true
def aYW(j:Nat):SetTable.has #[] j=false:=by
 unfold SetTable.has;simp
def bJQ{t:cZ3}(T:Tab b t)(h:t.slot j= .empty):∀k,k<t.place.size->t.place.getD k 0≠j:=by
 intro k a e;obtain⟨b1,f,g⟩:=qS T.rise j;have d:cZe t.place j=k:=by
  have l:¬k<cZe t.place j:=λh=>by have:=b1 k h;omega
  have i:¬cZe t.place j<k:=λh=>by have:=f _ (cXh _) (by omega);have:=T.rise _ k h a;omega
  omega
 unfold SetTable.slot at h;dsimp only at h;rw[d]at h;have c:t.place[k]? =some j:=by
  rw[cZK a];have:t.place.getD k 0=t.place[k]:=by simp[cJM,a]
  rw[<- this,e]
 rw[c]at h;simp at h
def bJP{t:cZ3}(T:Tab b t)(j:Nat):t.slot j≠ .dummy:=by
 unfold SetTable.slot;dsimp only;rw[T.dum,aYW];split<;> simp
theorem aZd{t:cZ3}(T:Tab b t)(f:Nat->Int)(h:Int):∀ (a:Nat)(p:SetTable.Probe),p.dummy=none->∀j d,cWF t f h a p=some (.empty j d)->t.slot j= .empty/\d=none
 |0,p,_,j,d,e=>by unfold cWF at e;cases e
 |a+1,p,hp,j,d,e=>by
  have c:(t.advance p).dummy=none:=by
   unfold SetTable.advance;split
   ·exact hp
   ·exact hp
  unfold cWF at e;cases q:t.slot p.j with
  |empty=>rw[q]at e;simp only[cWD,SetTable.Met.empty.injEq]at e;obtain⟨rfl,rfl⟩:=e;exact⟨q,hp⟩
  |dummy=>exact absurd q (bJP T _)
  |live i=>
   rw[q]at e;dsimp only at e;split at e
   ·cases e
   ·exact aZd T f h a _ c j d e
def jU{t:cZ3}(T:Tab b t)(n:Nat):Tab b (t.standIn n):=⟨aK3 n,Ce,T.led⟩
set_option tactic.hygienic true in
def aKw{t:cZ3}(T:Tab b t)(g:Array (Int×cXb))(h:Int)(x:cXb):Tab b (layNew t g h x).2.1:=by
 unfold layNew;cases q:t.freeSlot h with
 |none=>exact jU T _
 |some k=>
  obtain⟨a,m⟩:=k;dsimp only;have i:t.slot a= .empty:=by
   unfold SetTable.freeSlot at q;split at q
   ·rename_i j d e;simp only[cWD,Prod.mk.injEq]at q;obtain⟨l,f⟩:=aZd T _ h _ _ rfl j d e;rw[<- q.1,f];exact l
   ·cases q
  have c:Tab b (t.put a).1:=by unfold SetTable.put;dsimp only;refine⟨aVK T.rise (bJQ T i),?_,T.led⟩;rw[T.dum,aYW];rfl
  unfold SetTable.orStandIn;split
  ·exact c
  ·exact jU c _
def aJL{b:Bool}{t:cZ3}(T:Tab b t)(i:Array (Int×cXb))(c:Nat):Tab b (relayAll t i c).2.1:=by
 unfold relayAll;cases q:t.relaid (i.map (·.1)) c with
 |none=>exact jU T _
 |some r=>
  obtain⟨o,g⟩:=r;dsimp only;have n:Tab b o:=by
   unfold SetTable.relaid SetTable.laid at q;simp only[Option.bind_eq_bind,Option.bind_eq_some_iff]at q;obtain⟨d,_,e⟩:=q;simp only[Option.pure_def,cWD,Prod.mk.injEq]at e;obtain⟨rfl,_⟩:=e;refine⟨bQX ?_,Ce,T.led⟩;rw[List.map_filterMap];have sub:∀ (f:Nat->Option Nat),(∀j k,f j=some k->k=j)->∀l:List Nat,List.Sublist (l.filterMap f) l:=by
    intro f m l;induction l with
    |nil=>exact List.Sublist.slnil
    |cons a r h=>
     rw[cJ0];cases e:f a with
     |none=>exact h.cons a
     |some k=>rw[m a k e];exact h.cons_cons a
   refine List.Pairwise.sublist (sub _ ?_ _) List.pairwise_lt_range;intro j k e;cases q:d.getD j none with
   |none=>rw[q]at e;cases e
   |some z=>rw[q]at e;simpa using e.symm
  split
  ·exact n
  ·exact jU T _
def bXX(h:b=true\/a=true):Tab b (.fresh 0 0 a):=⟨λi j d c=>absurd c (cZT _),Ce,h⟩
end Stb
namespace Stb
open PySem
def Ent(b:List Int)(a:List (Int×cXb)):Prop:=cXZ (λ(k:Int)(e:Int×cXb)=>e.1=hashInt k/\∃t,e.2=Value.int k t) b a
theorem Ent.mem_l:∀ {c:List Int} {b:List (Int×cXb)},Ent c b->∀k∈c,∃e∈b,∃t,e.2=Value.int k t
 |_,_,.nil,k,a=>by cases a
 |_,_,.cons r t,k,a=>by
  rcases cXj.mp a with rfl|a
  ·exact⟨_,cXp ..,r.2⟩
  ·obtain⟨e,d,z⟩:=Ent.mem_l t k a;exact⟨e,cXl _ d,z⟩
theorem Ent.mem_r:∀ {c:List Int} {b:List (Int×cXb)},Ent c b->∀e∈b,∃k∈c,e.1=hashInt k/\∃t,e.2=Value.int k t
 |_,_,.nil,e,a=>by cases a
 |_,_,.cons r t,e,a=>by
  rcases cXj.mp a with rfl|a
  ·exact⟨_,cXp ..,r⟩
  ·obtain⟨k,d,z⟩:=Ent.mem_r t e a;exact⟨k,cXl _ d,z⟩
def Ent.elems(h:Ent c b):ElemsOf (intKind prog w) b:=λe f=>by
 obtain⟨k,_,d,t,a⟩:=h.mem_r e f;refine⟨⟨k,?_,d⟩,?_⟩
 ·rw[a];exact intKind_is prog w k t
 ·rw[a];rfl
def Ent.length(h:Ent a b):a.length=b.length:=cJh h
theorem Ent.append:∀ {a ls:List Int} {b fs:List (Int×cXb)},Ent a b->Ent ls fs->Ent (a++ls) (b++fs)
 |_,_,_,_,.nil,s=>s
 |_,_,_,_,.cons r t,s=> .cons r (Ent.append t s)
def Ent.perm{g fs:List (Int×cXb)}(p:cWx g fs):∀ {a:List Int},Ent a g->∃b,Ent b fs/\b.Perm a:=by
 induction p with
 |nil=>exact λ{a} h=>⟨a,h,.rfl⟩
 |cons x p j=>
  intro a h;cases h with
  |cons r t=>obtain⟨b,d,f⟩:=j t;exact⟨_::b,.cons r d,f.cons _⟩
 |swap x y l=>
  intro a h;cases h with
  |cons r t=>
   cases t with
   |cons k o=>exact⟨_::_::_,.cons k (.cons r o),.swap ..⟩
 |trans p q e c=>intro a h;obtain⟨b,d,f⟩:=e h;obtain⟨n,i,m⟩:=c d;exact⟨n,i,m.trans f⟩
abbrev aVf(w:cXN):Bool:=w.params.followText "set-order"
def aXS(w:cXN)(h:Heap)(a:Nat)(d:List Int):Prop:=
 ∃o b e t c,h.get? a=some o/\o.ExactSet/\o.data= .set b e t/\Ent c b.toList/\c.Perm d/\d.Nodup/\b.size<cVP/\t.fits b.size=true/\Tab (aVf w) t
def aXS.at(x:aXS w h a b)(k:∀o,h.get? a=some o->h'.get? a=some o):aXS w h' a b:=
 let ⟨o,es,ep,t,ls,ho,r⟩:=x;⟨o,es,ep,t,ls,k o ho,r⟩
def aXS.there(x:aXS w h a b):∃o,h.get? a=some o:=
 let ⟨o,es,ep,t,ls,ho,r⟩:=x;⟨o,ho⟩
def aXS.type{w:cXN}{s:cXd}{a:Nat}{b:List Int}(x:aXS w s.heap a b):s.TypeIs (.ref a) B6:=
 let ⟨o,es,ep,t,ls,ho,he,r⟩:=x;⟨o,ho,he.1⟩
def bQT{h:Heap}{a:Nat}{o:Obj}{e:Array (Int×cXb)}{c:Nat}{t:cZ3}(f:h.get? a=some o)(d:o.data= .set e c t)(b:Array (Int×cXb))(t':cZ3): (h.update a (Obj.putSet b t')).get? a=some {o with data:= .set b (c+1) t'}:=by
 have q:=cZi (Obj.putSet b t') f (by rw[putSet_of b t' d];rfl);rw[putSet_of b t' d]at q;exact q
section
variable {prog:cXB}{w:cXN}{A:cX8}{E:cXb->cXd->Prop}{s:cXd}
def aYV{Q:Unit->cXd->Prop}(h:Q () s):cXi (cXk prog w) A (match b with|true=>rule "set.scan.the-table-gave-way"|false=>pure ()) Q E s:=by
 cases b
 ·exact cXf h
 ·exact wpAny_rule h
def bKI{a:Nat}{p:List Int}{k:Int}{tk:Tok}{Q:Bool->cXd->Prop}(hS:aXS w s.heap a p)(a4:p.length+1<cVP) (h:∀m b,cJf a s.heap m->aXS w m a (if k∈p then p else p++ [k])->Q b {s with heap:=m}): cXi (cXk prog w) A (setAddHashed a (.int k tk) (hashInt k)) Q E s:=by
 obtain⟨o,D,ep,t,ls,W,N,X,l,Z,T,hb,hf,hT⟩:=hS;have Y:=l.elems (prog:=prog) (w:=w);have b0:D.size=p.length:=by rw[<- cZw,<- l.length,Z.length_eq]
 unfold setAddHashed setAddHashedIn;refine cZt (cXa (cJL W X hf ?_));dsimp only;rw[byScan_of (knd:=intKind prog w) rfl hb Y];simp only[↓reduceIte];unfold setAddByScan;refine cXa ?_;refine cXa (wpAny_rule ?_);refine cXa (wpAny_setScan_of (knd:=intKind prog w) (k:=k) (intKind_is prog w k tk) W X hf Y ?_);cases hr:List.findIdx? (λe=>(intKind prog w).is k e.2) D.toList with
 |some j=>
  dsimp only;obtain⟨hj,O,_⟩:=List.findIdx?_eq_some_iff_getElem.mp hr;have u:k∈p:=by
   obtain⟨k',a6,_,t',e'⟩:=l.mem_r _ (cZX hj);rw[e']at O;have:k=k':=by have z:(k'==k)=true:=O;exact(beq_iff_eq.mp z).symm
   rw[this];exact Z.mem_iff.mp a6
  refine cXf (cXf ?_);have q:=h s.heap false (Heap.SameBut.refl a s.heap) (by rw[if_pos u];exact⟨o,D,ep,t,ls,W,N,X,l,Z,T,hb,hf,hT⟩);exact q
 |none=>
  dsimp only;have u:k∉p:=λz=>by obtain⟨e,he,t',e'⟩:=l.mem_l k (Z.mem_iff.mpr z);have q:=List.findIdx?_eq_none_iff.mp hr e he;rw[e',intKind_is]at q;cases q
  rw[if_neg u]at h;have P:(p++ [k]).Nodup:=by rw[cJJ];exact⟨T,cZD ..,λx hx y hy=>by rw[cXo.mp hy];rintro rfl;exact u hx⟩
  have d:=layNew_perm t D (hashInt k) (.int k tk);have f:=layNew_fits t D (hashInt k) (.int k tk);have i:=aKw hT D (hashInt k) (.int k tk);generalize hL:layNew t D (hashInt k) (.int k tk)=L at d f i ⊢;obtain⟨c,V,n,a9⟩:=L;dsimp only at d f i ⊢;rw[Array.toList_push]at d;obtain⟨S,G,a2⟩:=(l.append (ls:= [k]) (fs:= [(hashInt k,.int k tk)]) (.cons ⟨rfl,tk,rfl⟩ .nil)).perm d.symm;have H:S.Perm (p++ [k]):=a2.trans (Z.append_right [k]);have v:c.size<cVP:=by rw[<- cZw,d.length_eq,cXD,cZw];simpa using (by omega:D.size+1<cVP)
  have F:∀g:cZ3,g.fits c.size=true->Tab (aVf w) g->
    cXi (cXk prog w) A (do
     storeSet a c g
     if(!n && g.tooFull)=true then do
       (match(relayAll g c (cJS c.size)).2.2 with|true=>rule "set.scan.the-table-gave-way"|false=>pure ())
       storeSet a (relayAll g c (cJS c.size)).1 (relayAll g c (cJS c.size)).2.1
       pure (some true)
      else pure (some true)) (λr U=>∃m,r=some true/\U= {s with heap:=m}/\cJf a s.heap m/\aXS w m a (p++ [k])) E s:=by
   intro g a7 a1
   refine cXa (wpAny_storeSet_of W X ?_ (cWG v))
   have C:=cZL s.heap a (Obj.putSet c g)
   have M:=bQT W X c g
   split
   ·have B:=relayAll_perm g c (cJS c.size);have J:=relayAll_fits g c (cJS c.size);have I:=aJL a1 c (cJS c.size);generalize b1:relayAll g c (cJS c.size)=Rl at B J I ⊢;obtain⟨K,t3,a8⟩:=Rl;dsimp only at B J I ⊢;obtain⟨a5,a0,a3⟩:=G.perm B.symm;have R:K.size=c.size:=by rw[<- cZw,B.length_eq,cZw]
    refine cXa (aYV ?_);refine cXa (wpAny_storeSet_of M rfl ?_ (cWG (by rw[R];exact v)));refine cXf ⟨_,Ce,Ce,C.trans (cZL _ a _),_,K,_,t3,a5,bQT M rfl K t3,N,Ce,a0,a3.trans H,P,by rw[R];exact v,J,I⟩
   ·exact cXf ⟨_,Ce,Ce,C,_,c,_,g,S,M,N,Ce,G,H,P,v,a7,a1⟩
  have done:∀ (r:Option Bool)(U:cXd),(∃m,r=some true/\U= {s with heap:=m}/\cJf a s.heap m/\aXS w m a (p++ [k]))->
    cXi (cXk prog w) A (match r with|some added=>pure added|none=>setAddHashedIn a (.int k tk) (hashInt k) 99999) Q E U:=by
   rintro r U ⟨m,rfl,rfl,h1,h2⟩
   exact cXf (h m true h1 h2)
  refine cXa (aYV ?_);split
  ·refine cXa ?_;rw[hashByValue_scannable 8 (show(Value.int k tk).scannable=true from rfl)];refine cXf ?_;have e:(if plainKind (Value.int k tk)=true then V else {V with plain:=false})=V:=rfl;rw[e];exact cZh (F V f i) done λ_ _ z=>z
  ·refine cXa (cXf ?_);simp only[↓reduceIte];exact cZh (F V f i) done λ_ _ z=>z
end
end Stb
namespace Stb
open PySem
def wE:Slot AS BU "set_iterator.__next__":=
 .of (owner:=AS) (n:=BU) (by rw[typeLookup_type,cWa];kernel_rfl) dk dk dk
  (by first|exact .inl dk|exact .inr dk) (by rw[isSubtype_type];kernel_rfl)
def qT:entryFor table "set_iterator.__next__"=some cZZ.«set_iterator.__next__»:=entryFor_of_tree (by kernel_rfl)
def aWy:Manifest.owners.lookup (String.ofList ['r', 'o', 't', 'a', 'r', 'e', 't', 'i', '_', 't', 'e', 's'].reverse)=some Manifest.sig_set_iterator:=by kernel_rfl
def Z8(a:cXb):argsOk "set_iterator.__next__" ⟨[a],[]⟩:=by
 unfold argsOk;rw[signature?_of (id:="set_iterator.__next__") (n:= ['_', '_', 't', 'x', 'e', 'n', '_', '_']) (o:= ['r', 'o', 't', 'a', 'r', 'e', 't', 'i', '_', 't', 'e', 's']) (by kernel_rfl) aWy];kernel_rfl
def aKo:entryFor table "set.__iter__"=some cZZ.«frozenset.__iter__»:=
 entryFor_alias (id':="frozenset.__iter__") (by kernel_rfl) rfl dk (by kernel_rfl)
def aQI:Slot AS "__iter__" "set_iterator.__iter__":=
 .of (owner:=AS) (n:="__iter__") (by rw[typeLookup_type,cWa];kernel_rfl) dk dk dk
  (by first|exact .inl dk|exact .inr dk) (by rw[isSubtype_type];kernel_rfl)
def qB(first:cXb)(i:Nat)(a:Nat)(n b:Nat):Obj:={cls:= .type AS,data:= .fields #[first,.int i 0,.ref a,.int n 0,.int b 0] }
section
variable {prog:cXB}{w:cXN}{A:cX8}{E:cXb->cXd->Prop}{s:cXd}
def bXT{Q:Option cXb->cXd->Prop}(i:A.handled=none)(g:cVW I s.heap h₁)(h:∀d,cVW I s.heap d->Q none {s with heap:=d}):
  cXi (cXk prog w) A.in1 (do raiseNew (<- newExc (.type Bl) []):Sem PySem.Fin) (λf c=>∃r,f= .done (.ret r)/\cXi (cXk prog w) A (pure (some r)) Q E c)
   (λe c=>cXi (cXk prog w) A (do if <- cWk e (.type Bl)then pure none else throw e) Q E c) {s with heap:=h₁}:=by
 refine cXa ?_
 simp only[newExc,newTuple]
 refine cXa (cZx ?_ (by size_fits))
 refine cXa (m:=firstArgMember _ _) (wpAny_of_eq (a:=Value.none) (by first|rfl|(simp only[firstArgMember];rfl)) ?_)
 refine cZx ?_ (by size_fits)
 simp only[raiseNew]
 refine cXa (wpAny_handled ?_)
 rw[show A.in1.handled=none from i]
 refine cXa (cXf (wpAny_throw ?_))
 refine cXa (wpAny_isInstance (T:=Bl) (b:=true) ⟨_,cXA _ rfl,rfl⟩ isSubtype_stop ?_)
 exact cXf (h _ ((g.push _).push _))
def bQn{I a:Nat}{o:Obj}{f:Array (Int×cXb)}{c:Nat}{t:cZ3}{b i nx:Nat}{x:cXb}{Q:Option cXb->cXd->Prop} (l:s.heap.get? a=some o) (m:o.data= .set f c t) (n:t.fits f.size=true) (e:s.heap.get? I=some (qB (.int b 0) i a f.size c)) (p:∀ (j:Option (cXb×Nat)->cXd->Prop)(u:cXb->cXd->Prop)(q:cX8),j (some (x,nx)) s->cXi (cXk prog w) q (setNext a b i c) j u s) (r:∀h,h.get? I=some (qB (.int nx 0) (i+1) a f.size c)->cJf I s.heap h->Q (some x) {s with heap:=h}):cXi (cXk prog w) A (pyNext (.ref I)) Q E s:=by
 have k:s.TypeIs (.ref I) AS:=⟨_,e,rfl⟩;unfold pyNext;refine cXa (cVC (cJt (name:=cVj BU) k wE (cZJ wE k qT ?_ (Z8 _))));unfold cZZ.«set_iterator.__next__»;refine cXa (cXf ?_);refine cXa (cWu e rfl ?_);show cXi _ _ (setEntries a >>=_) _ _ s;refine cXa (cJ2 l m n ?_);rw[if_neg (by simp)];show cXi _ _ (setNext a ((b:Int)).toNat ((i:Int)).toNat ((c:Int)).toNat >>=_) _ _ s;rw[cXG,cXG,cXG];refine cXa (p _ _ _ ?_);show cXi _ _ (setField (.ref I) 0 (cZv nx) >>=_) _ _ s;refine cXa (cJj e rfl (by simp) ?_);have d:=cZi (cZs (·.setIfInBounds 0 (cZv (nx:Int)))) e (cZA (cZG rfl _));refine cXa (cJj d rfl (by simp) (cXf ⟨x,Ce,cXf (r _ ?_ ((cZL ..).trans (cZL ..)))⟩));have g:=cZi (cZs (·.setIfInBounds 1 (cZv ((i:Int)+1)))) d (cZA (cZG rfl _));exact g
end
end Stb
namespace Stb
open PySem
section
variable {prog:cXB}{w:cXN}{A:cX8}{E:cXb->cXd->Prop}{s:cXd}
def bZk{I a:Nat}{o:Obj}{e:Array (Int×cXb)}{c:Nat}{t:cZ3}{b i:Nat}{Q:Option cXb->cXd->Prop}(n:A.handled=none) (j:s.heap.get? a=some o) (k:o.data= .set e c t) (l:t.fits e.size=true) (d:s.heap.get? I=some (qB (.int b 0) i a e.size c)) (m:∀ (f:Option (cXb×Nat)->cXd->Prop)(r:cXb->cXd->Prop)(p:cX8),f none s->cXi (cXk prog w) p (setNext a b i c) f r s) (q:∀g,cVW I s.heap g->Q none {s with heap:=g}):cXi (cXk prog w) A (pyNext (.ref I)) Q E s:=by
 have h:s.TypeIs (.ref I) AS:=⟨_,d,rfl⟩;unfold pyNext;refine cXa (cVC (cJt (name:=cVj BU) h wE (cZJ wE h qT ?_ (Z8 _))));unfold cZZ.«set_iterator.__next__»;refine cXa (cXf ?_);refine cXa (cWu d rfl ?_);show cXi _ _ (setEntries a >>=_) _ _ s;refine cXa (cJ2 j k l ?_);rw[if_neg (by simp)];show cXi _ _ (setNext a ((b:Int)).toNat ((i:Int)).toNat ((c:Int)).toNat >>=_) _ _ s;rw[cXG,cXG,cXG];refine cXa (m _ _ _ ?_);show cXi _ _ (setField (.ref I) 2 .none >>=_) _ _ s;refine cXa (cJj d rfl (by simp) ?_);exact bXT n (cZL ..).extBut q
def bZt{h:Heap}{I:Nat}{f:cXb}{i:Nat}{a:Nat}{n b:Nat}(c:h.get? I=some (qB f i a n b)): (h.update I (cZs (·.setIfInBounds 1 (cZv ((i:Int)+1))))).get? I=some (qB f (i+1) a n b):=by
 have q:=cZi (cZs (·.setIfInBounds 1 (cZv ((i:Int)+1)))) c (cZA (cZG (o:=qB f i a n b) rfl _));rw[q];rfl
def bZs{h:Heap}{I:Nat}{f:cXb}{i:Nat}{a:Nat}{n b:Nat}(c:h.get? I=some (qB f i a n b)): (h.update I (cZs (·.setIfInBounds 0 (cZv (0:Int))))).get? I=some (qB (.int 0 0) i a n b):=by
 have q:=cZi (cZs (·.setIfInBounds 0 (cZv (0:Int)))) c (cZA (cZG (o:=qB f i a n b) rfl _));rw[q];rfl
def aKG{I a p:Nat}{o:Obj}{b:Array (Int×cXb)}{g:Nat}{t:cZ3}{i j:Nat}{pl:Array cXb}{op:Obj}{c:Nat}{e:Int×cXb}{Q:Option cXb->cXd->Prop} (l:s.heap.get? a=some o) (m:o.data= .set b g t) (n:t.fits b.size=true) (d:s.heap.get? I=some (qB (.ref p) i a b.size g)) (u:s.heap.get? p=some op) (k:op.data= .seq pl c) (x:pl[i]? =some (.int j 0)) (r:b[j]? =some e) (v:∀f,f.get? I=some (qB (.ref p) (i+1) a b.size g)->cJf I s.heap f->Q (some e.2) {s with heap:=f}):cXi (cXk prog w) A (pyNext (.ref I)) Q E s:=by
 have q:s.TypeIs (.ref I) AS:=⟨_,d,rfl⟩;unfold pyNext;refine cXa (cVC (cJt (name:=cVj BU) q wE (cZJ wE q qT ?_ (Z8 _))));unfold cZZ.«set_iterator.__next__»;refine cXa (cXf ?_);refine cXa (cWu d rfl ?_);show cXi _ _ (setEntries a >>=_) _ _ s;refine cXa (cJ2 l m n ?_);rw[if_neg (by simp)];show cXi _ _ (seqItems? (.ref p) >>=_) _ _ s;refine cXa (wpAny_seqItems u k ?_);dsimp only;simp only[cXG,x];refine cXa ?_;unfold setNextDrawn;refine cXa (cJL l m n ?_);dsimp only;rw[if_neg (by simp)];obtain⟨y,ex⟩:=e;rw[r];refine cXf ?_;have h:=bZt d;refine cXa (cJj d rfl (by simp) ?_);refine cXf ⟨ex,Ce,?_⟩;refine cXf ?_;exact v _ h (cZL s.heap I _)
def aYR{I a p:Nat}{o:Obj}{e:Array (Int×cXb)}{h:Nat}{t:cZ3}{i:Nat}{pl:Array cXb}{op:Obj}{c:Nat}{Q:Option cXb->cXd->Prop}(n:A.handled=none) (k:s.heap.get? a=some o) (l:o.data= .set e h t) (m:t.fits e.size=true) (b:s.heap.get? I=some (qB (.ref p) i a e.size h)) (q:s.heap.get? p=some op) (f:op.data= .seq pl c) (u:pl[i]? =none) (r:∀g,cVW I s.heap g->Q none {s with heap:=g}):cXi (cXk prog w) A (pyNext (.ref I)) Q E s:=by
 have j:s.TypeIs (.ref I) AS:=⟨_,b,rfl⟩;unfold pyNext;refine cXa (cVC (cJt (name:=cVj BU) j wE (cZJ wE j qT ?_ (Z8 _))));unfold cZZ.«set_iterator.__next__»;refine cXa (cXf ?_);refine cXa (cWu b rfl ?_);show cXi _ _ (setEntries a >>=_) _ _ s;refine cXa (cJ2 k l m ?_);rw[if_neg (by simp)];show cXi _ _ (seqItems? (.ref p) >>=_) _ _ s;refine cXa (wpAny_seqItems q f ?_);dsimp only;simp only[cXG,u];refine cXa (cJj b rfl (by simp) ?_);have d:=bZs b;refine cXa (cJj d rfl (by simp) ?_);have v:=(cZL s.heap I (cZs (·.setIfInBounds 0 (cZv (0:Int))))).trans (cZL _ I (cZs (·.setIfInBounds 2 Value.none)));exact bXT (s:=s) n v.extBut r
theorem aQa{α:Type}:∀ {l:List α} {i:Nat} (h:i<l.length),cWx (l[i]::l.eraseIdx i) l
 |x::r,0,_=> .rfl
 |x::r,i+1,h=>by have a:=aQa (l:=r) (i:=i) (by simpa using h);exact(List.Perm.swap ..).trans (a.cons x)
theorem aJI{α:Type}(f:Nat->Nat):∀ (a k:Nat)(left:List α)(out:Array α),left.length=a->cWx (cVq.go f a k left out).toList (out.toList++left)
 |0,k,left,out,h=>by have e:left= []:=List.length_eq_zero_iff.mp h;subst e;unfold cVq.go;rw[cZg]
 |a+1,k,left,out,h=>by unfold cVq.go;have b:f k % left.length<left.length:=Nat.mod_lt _ (by omega);rw[cQ9 b];dsimp only;refine(aJI f a (k+1) _ _ (by rw[List.length_eraseIdx,if_pos b];omega)).trans ?_;rw[Array.toList_push,cZn,List.singleton_append];exact(aQa b).append_left _
def bJ8{t:cZ3}{Q:Array (Int×cXb)->cXd->Prop}(e:s.heap.get? a=some o)(f:o.data= .set b c t)(d:t.fits b.size=true) (g:aVf w=true) (h:Q (cVq (w.params.setOrder a c) b) s):cXi (cXk prog w) A (setWalk a) Q E s:=by
 unfold setWalk setsByText;refine cXa (cJL e f d ?_);dsimp only;refine cXa (cXa (cJZ (cXf ?_)));show cXi (cXk prog w) A (if aVf w=true then _ else _) Q E s;rw[if_pos g];exact cXa (cJZ (cXf h))
def bQo{t:cZ3}{Q:Option (cXb×Nat)->cXd->Prop}(g:s.heap.get? a=some o)(j:o.data= .set d c t) (f:t.fits d.size=true) (k:aVf w=true) (h:Q (((cVq (w.params.setOrder a c) d)[i]?).map λe=>(e.2,b)) s):cXi (cXk prog w) A (setNext a b i c) Q E s:=by
 unfold setNext setsByText;refine cXa (cJL g j f ?_);dsimp only;refine cXa (cXa (cJZ (cXf ?_)));show cXi (cXk prog w) A (if aVf w=true then _ else _) Q E s;rw[if_pos k];rw[if_neg (by simp)];exact cXa (bJ8 g j f k (cXf h))
def bZK{t:cZ3}{Q:Option (cXb×Nat)->cXd->Prop}(g:s.heap.get? a=some o)(k:o.data= .set c e t)
  (f:t.fits c.size=true) (l:aVf w=false) (d:(!t.plain && decide (c.size > 1))=false) (hl:t.led=true)
  (h:Q (match c[cZe t.place b]?,t.place[cZe t.place b]? with|some (_,x),some j=>some (x,j+1)|_,_=>none) s):cXi (cXk prog w) A (setNext a b i e) Q E s:=by
 unfold setNext setsByText
 refine cXa (cJL g k f ?_)
 dsimp only
 refine cXa (cXa (cJZ (cXf ?_)))
 show cXi (cXk prog w) A (if aVf w=true then _ else _) Q E s
 rw[l,if_neg (by decide)]
 show cXi (cXk prog w) A (if(!t.plain && decide (c.size > 1))=true then _ else _) Q E s
 rw[d,if_neg (by decide)]
 refine cXa ?_
 show cXi (cXk prog w) A (if(!t.led && !c.isEmpty)=true then _ else _) _ E s
 rw[hl]
 simp only[Bool.not_true,Bool.false_and,Bool.false_eq_true,↓reduceIte]
 exact cXf (cXf h)
end
end Stb
namespace Stb
open PySem
def aZ8(a:List Int)(vs:List cXb):Prop:=cXZ (λ(k:Int)(v:cXb)=>∃t,v=Value.int k t) a vs
def Ent.vals:∀ {a:List Int} {b:List (Int×cXb)},Ent a b->aZ8 a (b.map (·.2))
 |_,_,.nil=> .nil
 |_,_,.cons r t=> .cons r.2 (Ent.vals t)
def bZE{α:Type}{xs ys:List α}(hl:xs.length=ys.length)(h:∀ (j:Nat)(x:α),xs[j]? =some x->ys[j]? =some x):xs=ys:=by
 apply cJp;intro i;cases e:xs[i]? with
 |some x=>exact(h i x e).symm
 |none=>have:=cWI.mp e;exact(cWI.mpr (by omega)).symm
theorem aQw{α β:Type}{f:α->Option β}:∀ {l:List α} (h:∀x∈l,(f x).isSome=true) (i:Nat),(l.filterMap f)[i]? =l[i]?.bind f
 |[],_,i=>by simp
 |x::r,h,i=>by
  obtain⟨y,e⟩:=Option.isSome_iff_exists.mp (h x (cXp ..));rw[List.filterMap_cons_some e];cases i with
  |zero=>simp[e]
  |succ i=>simpa using aQw (λz a=>h z (cXl _ a)) i
def aZt:entryFor table "set_iterator.__iter__"=some cZZ.«dict_keyiterator.__iter__»:=
 entryFor_alias (id':="dict_keyiterator.__iter__") (by kernel_rfl) rfl dk (by kernel_rfl)
def aJa(a:cXb):argsOk "set_iterator.__iter__" ⟨[a],[]⟩:=by
 unfold argsOk;rw[signature?_of (id:="set_iterator.__iter__") (n:= ['_', '_', 'r', 'e', 't', 'i', '_', '_']) (o:= ['r', 'o', 't', 'a', 'r', 'e', 't', 'i', '_', 't', 'e', 's']) (by kernel_rfl) aWy];kernel_rfl
section
variable {prog:cXB}{w:cXN}{A:cX8}{E:cXb->cXd->Prop}{s:cXd}
theorem aYQ{α:Type}:∀ (n:Nat)(xs:List α)(s:cXd)(Q:List α->cXd->Prop),xs.length=n->(∀b d,cWx b xs->Q b {s with drawn:=d})->cXi (cXk prog w) A (drawOrder n xs) Q E s
 |0,xs,s,Q,hl,h=>by have e:xs= []:=List.length_eq_zero_iff.mp hl;subst e;unfold drawOrder;exact cXf (h [] s.drawn .rfl)
 |n+1,[],s,Q,hl,h=>by cases hl
 |n+1,x::r,s,Q,hl,h=>by
  unfold drawOrder;have a:w.draws .order (s.drawn.get .order) % (x::r).length<(x::r).length:=Nat.mod_lt _ (Nat.succ_pos _);refine cXa (m:=choose .order (x::r).length) ?_;have g:∀ (c:Nat->cXd->Prop),c (w.draws .order (s.drawn.get .order) % (x::r).length) {s with drawn:=s.drawn.bump .order}->cXi (cXk prog w) A (choose .order (x::r).length) c E s:=by intro c f Γ p hΓ;show Sem.wp _ _ (.choose .order (x::r).length .pure) _ _ _ _;rw[Sem.wp_choose];exact⟨Nat.succ_ne_zero _,f⟩
  refine g _ ?_;generalize k:w.draws .order (s.drawn.get .order) % (x::r).length=i at a ⊢;rw[cQ9 a];dsimp only;refine cXa (aYQ n _ _ _ (by rw[List.length_eraseIdx,if_pos a];simpa using hl) λb d j=>?_);exact cXf (h _ _ ((j.cons _).trans (aQa a)))
def bXy{Q:cXb->cXd->Prop}(d:s.heap.get? I=some (qB f i a n c))(h:Q (.ref I) s):cXi (cXk prog w) A (pyIter (.ref I)) Q E s:=by
 have b:s.TypeIs (.ref I) AS:=⟨_,d,rfl⟩;refine wpAny_pyIter_slot b aQI (cZJ aQI b aZt ?_ (aJa _));show cXi _ _ (ret (.ref I)) _ _ s;exact cXf ⟨_,Ce,AS,_,b,wE.lookup,h⟩
def aYu{I a:Nat}{o:Obj}{es:Array (Int×cXb)}{ep:Nat}{t:cZ3}{vs:List cXb}{g:Nat->Nat}(hd:o.data= .set es ep t)(hf:t.fits es.size=true)(hv:vs.length=es.size)(hne:a≠I)
  (hx:∀ (s:cXd)(i:Nat)(A':cX8)(E':cXb->cXd->Prop)(Q':Option (cXb×Nat)->cXd->Prop),s.heap.get? a=some o->i<=es.size->Q' ((vs[i]?).map λx=>(x,g (i+1))) s->cXi (cXk prog w) A' (setNext a (g i) i ep) Q' E' s)
  (hh:A.handled=none):Walks prog w A I [I,a] [I] es.size (λi v=>vs[i]? =some v) (λi h=>i<=es.size/\h.get? a=some o/\h.get? I=some (qB (.int (g i) 0) i a es.size ep)) where
 sub:=λb hb=>by simp at hb;simp[hb]
 frame:=λi h h' st k=>⟨st.1,k a (by simp) o st.2.1,k I (by simp) _ st.2.2⟩
 item:=λi s Q E hi st hQ=>by
  obtain⟨h1,h2,h3⟩:=st
  have hlt:i<vs.length:=by omega
  refine bQn (nx:=g (i+1)) (x:=vs[i]) h2 hd hf h3 (λQ' E' A' hq=>hx s i A' E' Q' h2 h1 (by rw[cQ9 hlt];exact hq)) λh' hI' sb=>?_
  exact hQ _ h' s.toks (cQ9 hlt) ⟨by omega,sb.extBut a o hne h2,hI'⟩ λb ob hb e=>sb.extBut b ob (λz=>hb (by simp[z])) e
 done:=λs Q E st hQ=>by
  obtain⟨h1,h2,h3⟩:=st
  refine bZk hh h2 hd hf h3 (λQ' E' A' hq=>hx s es.size A' E' Q' h2 h1 (by rw[cXM (by omega)];exact hq)) λh' sb=>?_
  exact hQ h' s.toks λb ob hb e=>sb b ob (λz=>hb (by simp[z])) e
 self:=λi s Q E st hQ=>bXy st.2.2 hQ
def aWe{I a p:Nat}{o op:Obj}{es:Array (Int×cXb)}{ep c:Nat}{t:cZ3}{vs:List cXb}{ys:List Nat}(hd:o.data= .set es ep t)(hf:t.fits es.size=true)(hv:ys.length=es.size)
  (hpd:op.data= .seq (ys.map λ(j:Nat)=>Value.int j 0).toArray c) (hne:a≠I) (hnp:p≠I) (hx:∀ (i j:Nat),ys[i]? =some j->∃e,es[j]? =some e/\vs[i]? =some e.2)
  (hh:A.handled=none):Walks prog w A I [I,a,p] [I] es.size (λi v=>vs[i]? =some v) (λi h=>i<=es.size/\h.get? a=some o/\h.get? p=some op/\h.get? I=some (qB (.ref p) i a es.size ep)) where
 sub:=λb hb=>by simp at hb;simp[hb]
 frame:=λi h h' st k=>⟨st.1,k a (by simp) o st.2.1,k p (by simp) op st.2.2.1,k I (by simp) _ st.2.2.2⟩
 item:=λi s Q E hi st hQ=>by
  obtain⟨h1,h2,h3,h4⟩:=st
  have hlt:i<ys.length:=by omega
  obtain⟨e,he,hve⟩:=hx i ys[i] (cQ9 hlt)
  refine aKG (j:=ys[i]) (e:=e) h2 hd hf h4 h3 hpd (by simp[hlt]) he λh' hI' sb=>?_
  exact hQ _ h' s.toks hve ⟨by omega,sb.extBut a o hne h2,sb.extBut p op hnp h3,hI'⟩ λb ob hb e=>sb.extBut b ob (λz=>hb (by simp[z])) e
 done:=λs Q E st hQ=>by
  obtain⟨h1,h2,h3,h4⟩:=st
  refine aYR hh h2 hd hf h4 h3 hpd (by simp[hv]) λh' sb=>?_
  exact hQ h' s.toks λb ob hb e=>sb b ob (λz=>hb (by simp[z])) e
 self:=λi s Q E st hQ=>bXy st.2.2.2 hQ
def bV9{a:Nat}{U:List Int}{Q:cXb->cXd->Prop}(hS:aXS w s.heap a U) (h:∀ (I:Nat)(h':Heap)(d:Drawn)(fp:List Nat)(St:Nat->Heap->Prop)(vs:List cXb)(ls:List Int),s.heap.objs.size<=I->(∀b∈fp,b=a\/s.heap.objs.size<=b)->(∀b∈fp,b<h'.objs.size)->aZ8 ls vs->ls.Perm U-> (∀ (A:cX8),A.handled=none->Walks prog w A I fp [I] U.length (λi v=>vs[i]? =some v) St)->St 0 h'->(∀b o,s.heap.get? b=some o->h'.get? b=some o)-> Q (.ref I) {s with heap:=h',drawn:=d}):cXi (cXk prog w) A (pyIter (.ref a)) Q E s:=by
 have hT:=hS.type;obtain⟨o,f,G,t,ls,P,a9,J,y,Z,a7,l,D,O⟩:=hS;have L:f.size=U.length:=by rw[<- cZw,<- y.length,Z.length_eq]
 have C:a<s.heap.objs.size:=cXq P;refine wpAny_pyIter_slot hT F.slot_set_iter (cZJ F.slot_set_iter hT aKo ?_ (F.args_set_iter_1 _));unfold cZZ.«frozenset.__iter__» Builtin.Frozenset.slot0 slotArgs;simp only[List.isEmpty_nil,Bool.not_true,Bool.false_eq_true,↓reduceIte,bind_assoc,cJl,bne_self_eq_false];unfold Builtin.Frozenset.addrOf Builtin.Frozenset.sizeOf;refine cXa (cXf ?_);try dsimp only
 refine cXa (cXf ?_);refine cXa (cXa (cJ2 P J D (cXf ?_)));refine cXa ?_;unfold setDrawn setsByText;refine cXa (cJL P J D ?_);dsimp only;refine cXa (cXa (cJZ (cXf ?_)));refine cXf ?_;refine cWo (λc=>?_) (λc=>?_)
 ·refine cXa (aYQ f.size (cXm f.size) s _ cX1 λr d R=>?_);have S:r.length=f.size:=by rw[R.length_eq,cX1]
  have V:∀j∈r,j<f.size:=λj X=>cXI.mp (R.mem_iff.mp X);refine cXa (wpAny_newTuple ?_ (by rw[cXe,S];exact cWG l));have a0:=cXg {cls:= .type AE,data:= .seq (r.map λ(i:Nat)=>cZv (i:Int)).toArray} P;refine cXa (wpAny_setEpoch_of a0 J D ?_);refine cXa (cZx (cXf ⟨_,Ce,AS,_,⟨_,cXA _ rfl,rfl⟩,wE.lookup,?_⟩));have M:cWx (r.filterMap λj=>f[j]?) f.toList:=(R.filterMap _).trans (by rw[filterMap_getElem?_range]);obtain⟨k,m,n⟩:=y.perm M.symm;have a6:∀ (i j:Nat),r[i]? =some j->∃e,f[j]? =some e/\((r.filterMap λj=>f[j]?).map (·.2))[i]? =some e.2:=λi j e=>by have X:j<f.size:=V j (cXs e);refine⟨f[j],cZK X,?_⟩;rw[cXu,aQw (λx hx=>by rw[cZK (V x hx)];rfl),e,Option.bind_some,cZK X];rfl
  have fin:∀ (B:Heap)(Y:Obj),Y.data= .seq (r.map λ(i:Nat)=>Value.int i 0).toArray 0->B.objs.size=s.heap.objs.size+1->B.get? s.heap.objs.size=some Y->(∀b o,s.heap.get? b=some o->B.get? b=some o)->
    Q (.ref B.objs.size) {s with heap:=B.push (qB (.ref s.heap.objs.size) 0 a f.size G),drawn:=d}:=by
   intro B Y a5 q a4 hk
   refine h B.objs.size _ d [B.objs.size,a,s.heap.objs.size] (λi h=>i<=f.size/\h.get? a=some o/\h.get? s.heap.objs.size=some Y/\h.get? B.objs.size=some (qB (.ref s.heap.objs.size) i a f.size G)) _ k ?_ ?_ ?_ m.vals (n.trans Z)
    (λA hh=>by rw[<- L];exact aWe (o:=o) (ys:=r) (c:=0) J D S a5 (cXx (by rw[q];exact cZj C)) (cXx (by rw[q];exact cZI _)) a6 hh) ⟨cZc _,cXg _ (hk _ _ P),cXg _ a4,cXA _ rfl⟩ λb ob e=>cXg _ (hk _ _ e)
   ·omega
   ·intro b l;simp only[cXj,cJU,or_false]at l;rcases l with rfl|rfl|rfl
    ·right;omega
    ·left;rfl
    ·right;exact cXh _
   ·intro b l;rw[cZE];simp only[cXj,cJU,or_false]at l;rcases l with rfl|rfl|rfl
    ·exact cZI _
    ·rw[q];exact cZj (cZj C)
    ·rw[q];exact cZj (cZI _)
  exact fin _ _ rfl (cZE ..) (cXA _ rfl) λb ob e=>cXg _ e
 ·refine cXa (cXf ?_);refine cXa (wpAny_setEpoch_of P J D ?_);refine cXa (cZx (cXf ⟨_,Ce,AS,_,⟨_,cXA _ rfl,rfl⟩,wE.lookup,?_⟩));have fin:∀ (vs:List cXb)(g:Nat->Nat)(k:List Int),g 0=0->vs.length=f.size->aZ8 k vs->k.Perm U->
    (∀ (s:cXd)(i:Nat)(A':cX8)(E':cXb->cXd->Prop)(W:Option (cXb×Nat)->cXd->Prop),s.heap.get? a=some o->i<=f.size->W ((vs[i]?).map λx=>(x,g (i+1))) s->cXi (cXk prog w) A' (setNext a (g i) i G) W E' s)->
    Q (.ref s.heap.objs.size) {s with heap:=s.heap.push {cls:= .type AS,dict:=none,data:= .fields [cZv 0,cZv 0,Value.ref a,cZv (f.size:Int),cZv (G:Int)].toArray} }:=by
   intro vs g k g0 a3 hv n hx
   refine h s.heap.objs.size _ s.drawn [s.heap.objs.size,a] (λi h=>i<=f.size/\h.get? a=some o/\h.get? s.heap.objs.size=some (qB (.int (g i) 0) i a f.size G)) vs k (cXh _) ?_ ?_ hv n
    (λA hh=>by rw[<- L];exact aYu (o:=o) (g:=g) J D a3 (cXx C) hx hh) ⟨cZc _,cXg _ P,?_⟩ λb ob e=>cXg _ e
   ·intro b l;simp only[cXj,cJU,or_false]at l;rcases l with rfl|rfl
    ·right;exact cXh _
    ·left;rfl
   ·intro b l;rw[cZE];simp only[cXj,cJU,or_false]at l;rcases l with rfl|rfl
    ·exact cZI _
    ·exact cZj C
   ·rw[g0];exact cXA _ rfl
  cases u:aVf w with
  |true=>
   have pp:cWx (cVq (w.params.setOrder a G) f).toList f.toList:=by have:=aJI (w.params.setOrder a G) f.size 0 f.toList #[] (by simp);simpa[cVq]using this
   obtain⟨k,m,n⟩:=y.perm pp.symm;refine fin ((cVq (w.params.setOrder a G) f).toList.map (·.2)) (λ_=>0) k rfl (by rw[cXe,pp.length_eq];simp) m.vals (n.trans Z) λs i A' E' W N hi p=>?_;refine bQo N J D u ?_;rw[cXu,cZQ]at p;cases e:(cVq (w.params.setOrder a G) f)[i]? with
   |none=>rw[e]at p;exact p
   |some z=>rw[e]at p;exact p
  |false=>
   have a1:(!t.plain && decide (f.size > 1))=false:=by have c':¬ ((!aVf w && (!t.plain && decide (f.size > 1)))=true):=c;rw[u]at c';simpa using c'
   have T:t.led=true:=O.led.resolve_left (by rw[u];decide);have a8:t.place.size=f.size:=by have:=D;simp only[SetTable.fits,Bool.and_eq_true,beq_iff_eq]at this;exact this.1
   refine fin (f.toList.map (·.2)) (λi=>if i=0 then 0 else t.place.getD (i - 1) 0+1) ls (by simp) (by simp) y.vals Z λs i A' E' W N hi p=>?_;refine bZK N J D u a1 T ?_;have a2:cZe t.place (if i=0 then 0 else t.place.getD (i - 1) 0+1)=i:=by
    by_cases h0:i=0
    ·rw[if_pos h0,aKc O.rise,h0]
    ·rw[if_neg h0,aKb O.rise (by omega)];omega
   rw[a2];by_cases K:i<f.size
   ·have H:i<t.place.size:=by omega
    rw[cZK K,cZK H];rw[cXu,cZQ,cZK K]at p;have e1:t.place.getD i 0=t.place[i]:=by simp[cJM,H]
    simpa[e1]using p
   ·rw[cVc (by omega)];rw[cXu,cZQ,cVc (by omega)]at p;exact p
end
end Stb
namespace Stb
open PySem PyProof.Rows
section
variable {prog:cXB}{w:cXN}{A:cX8}{E:cXb->cXd->Prop}{s:cXd}
def bV7{Q:Bool->cXd->Prop}(c:s.TypeIs (.ref r) B6)(h:Q false s):cXi (cXk prog w) A (cWv (.ref r)) Q E s:=by
 unfold cWv;refine cXa (wpAny_specialOf c PySem.F.slot_set_len.lookup ?_);generalize a:("set.__len__":String)=q;wp_delta;rw[show splitId q=some (B6,"__len__")from by subst a;decide+kernel];subst a;refine cXa (wpAny_isInstance (T:=B6) (b:=true) c sub_set_self ?_);refine cWo (λz=>absurd z (by decide)) (λ_=>?_);refine cWo (λ_=>?_) (λz=>absurd dk z);exact cXa (wpAny_typeOf c (cXf h))
def aKj{R:List cXb->cXd->Prop}(hh:A.handled=none)(hS:aXS w s.heap a p)(hn:p.length<=cXy) (h:∀ (h':Heap)(tk:Nat)(d:Drawn)(vs:List cXb)(ls:List Int),s.heap.objs.size<h'.objs.size->(∀b o,s.heap.get? b=some o->h'.get? b=some o)->aZ8 ls vs->ls.Perm p->R vs {s with heap:=h',toks:=tk,drawn:=d}): cXi (cXk prog w) A (collect (.ref a)) R E s:=by
 have hT:=hS.type;obtain⟨oa,a8⟩:=hS.there;have H:a<s.heap.objs.size:=cXq a8;unfold collect;refine cXa (wpAny_runValue (cJo entry_proto_collect' ?_));rw[cJa PySem.F.plain_proto_collect _];show cXi _ A.in1 (newList [] >>=λl=>again (.builtin "list.__iadd__" ⟨[l,.ref a],[]⟩)) _ _ s;refine cXa (cZx ?_);refine cXf ⟨cVB PySem.F.plain_list_iadd _,cJo entry_list_iadd' ?_⟩;rw[cJa PySem.F.plain_list_iadd _];have hL:(s.heap.push {cls:= .type AC,data:= .seq ([]:List cXb).toArray}).get? s.heap.objs.size=some {cls:= .type AC,data:= .seq #[] }:=cXA _ rfl;have t:aXS w (s.heap.push {cls:= .type AC,data:= .seq ([]:List cXb).toArray}) a p:=hS.at λo e=>cXg _ e;have g:(s.heap.push {cls:= .type AC,data:= .seq ([]:List cXb).toArray}).objs.size=s.heap.objs.size+1:=cZE ..;generalize Y:s.heap.push {cls:= .type AC,data:= .seq ([]:List cXb).toArray}=H1 at hL t g ⊢;have a3:∀b o,s.heap.get? b=some o->H1.get? b=some o:=λb o e=>by rw[<- Y];exact cXg _ e
 show cXi _ A.in1 (cVk (.ref s.heap.objs.size) (.ref a) (.ref s.heap.objs.size)) _ _ {s with heap:=H1};have J:Shared.TypeIs {s with heap:=H1} (.ref a) B6:=t.type (s:={s with heap:=H1});unfold cVk;refine cXa (wpAny_typeOf (T:=B6) J ?_);have q1:cWL (.ref s.heap.objs.size) (.ref a)=false:=by simp[cWL,cJB H]
 have q2:(Value.type B6==Value.type AC)=false:=by decide
 have q3:(Value.type B6==Value.type AE)=false:=by decide
 simp only[q1,q2,q3,Bool.or_false,Bool.false_eq_true,if_false];refine cXa (bV9 (s:={s with heap:=H1}) t ?_);intro I h2 d fp St vs ls hI U a9 hv hp W C y;have N:s.heap.objs.size∉fp:=λz=>by
  rcases U _ z with e|e
  ·exact cJB H e
  ·have e':H1.objs.size<=s.heap.objs.size:=e;rw[g]at e';exact absurd e' (Nat.not_succ_le_self _)
 have u:=y _ _ hL;have M:∀ (D:Heap)(c:Nat),St 0 D->(∀b o,b≠s.heap.objs.size->h2.get? b=some o->D.get? b=some o)->D.get? s.heap.objs.size=some {cls:= .type AC,data:= .seq #[] c}->
   cJq (cXk prog w) A (.builtin "list.extend.loop" ⟨[.ref s.heap.objs.size,.ref I,.ref s.heap.objs.size],[]⟩)
    (λq k=>∃ (h':Heap)(tk:Nat)(f:Array cXb)(B:Nat),q= .ok (.ret (.ref s.heap.objs.size))/\k= {s with heap:=h',toks:=tk,drawn:=d}/\
     (∀b o,s.heap.get? b=some o->h'.get? b=some o)/\h'.get? s.heap.objs.size=some {cls:= .type AC,dict:=none,data:= .seq f B,slots:= #[] }/\ItemsOf (λi v=>vs[i]? =some v) f p.length) {s with heap:=D,drawn:=d}:=by
  intro D c K V m
  refine codeAny_extend_loopS (W A.in1 hh).toS hn s.heap.objs.size N (.ref s.heap.objs.size) p.length 0 _ #[] c rfl (cZc _) K m (ItemsOf.nil _) λk L B S a5 P=>?_
  obtain⟨a0,g',d',a7,Z⟩:=k
  have eg:g'=s.gens:=S.gens
  have ed:d'=d:=S.drawn
  have eo:Z=s.os:=S.os
  subst eg ed eo
  refine⟨a0,a7,L,B,Ce,Ce,λb o e=>?_,a5,P⟩
  have n:b<s.heap.objs.size:=cXq e
  refine S.heap b o (λz=>?_) (V b o (cXx n) (y b o (a3 b o e)))
  rcases cXj.mp z with z|z
  ·exact cXx n z
  ·have z':b=I:=cXo.mp z;have G:H1.objs.size<=I:=hI;rw[g,<- z']at G;exact absurd (cXE n (Nat.le_of_succ_le G)) (cZk _)
 have r:∀ (q:Result)(k:cXd),(∃ (h':Heap)(tk:Nat)(f:Array cXb)(B:Nat),q= .ok (.ret (.ref s.heap.objs.size))/\k= {s with heap:=h',toks:=tk,drawn:=d}/\ (∀b o,s.heap.get? b=some o->h'.get? b=some o)/\h'.get? s.heap.objs.size=some {cls:= .type AC,dict:=none,data:= .seq f B,slots:= #[] }/\ItemsOf (λi v=>vs[i]? =some v) f p.length)->
   ∃tk h',q= .ok (.ret (.ref s.heap.objs.size))/\k= {s with heap:=h',toks:=tk,drawn:=d}/\cXi (cXk prog w) A (do
    let o <- load s.heap.objs.size
    match o.data with
    |.seq xs _=>pure xs.toList
    |_=>unsupported "internal:collect") R E {s with heap:=h',toks:=tk,drawn:=d}:=by
  rintro q k ⟨h',tk,f,B,rfl,rfl,hk,hg,Q⟩
  refine⟨tk,h',Ce,Ce,cXa (wpAny_load hg (cXf ?_))⟩
  have a2:vs.length=p.length:=by rw[<- cJh hv,hp.length_eq]
  have e:f.toList=vs:=bZE (by rw[cZw,Q.1,a2]) λj x hx=>Q.2 j x (by rw[<- cZQ];exact hx)
  show R f.toList _
  rw[e]
  exact h h' tk d vs ls (cXq hg) hk hv hp
 have a6:Shared.TypeIs {s with heap:=h2,drawn:=d} (.ref a) B6:=by obtain⟨o',X,a4⟩:=J;exact⟨o',y _ _ X,a4⟩
 refine cXa (cZt (bV7 a6 ?_));refine cWo (λ_=>?_) (λ_=>?_)
 ·refine cXa (wpAny_rule ?_);refine cXa ?_;show cXi _ _ (updateSeq s.heap.objs.size (·.push .none) >>=λ_=>updateSeq s.heap.objs.size (·.pop)) _ _ _;refine cXa (wpAny_updateSeq u rfl ?_);have m:=cZi (cXY (·.push Value.none)) u rfl;refine wpAny_updateSeq (hz:=by seq_fits) m rfl ?_;have a1:=cZi (cXY (·.pop)) m rfl;refine cXf ⟨cVB cWK _,cZ8 (M _ _ ?_ (λb o n e=>?_) a1) λq k z=>?_⟩
  ·refine(W A.in1 hh).frame 0 _ _ C λb n o e=>?_;have O:b≠s.heap.objs.size:=λz=>N (z ▸ n);exact(cXL _ _ (cXT O)).trans ((cXL _ _ (cXT O)).trans e)
  ·exact(cXL _ _ (cXT n)).trans ((cXL _ _ (cXT n)).trans e)
  ·obtain⟨tk,h',rfl,rfl,zz⟩:=r q k z;exact zz
 ·refine cXf ⟨cVB cWK _,cZ8 (M _ _ C (λb o _ e=>e) u) λq k z=>?_⟩;obtain⟨tk,h',rfl,rfl,zz⟩:=r q k z;exact zz
def aQz:∀ {a:List Int} {vs:List cXb},aZ8 a vs->cJv vs a
 |_,_,.nil=> .nil
 |_,_,.cons ⟨t,e⟩ r=>by subst e;exact .cons _ t (aQz r)
def aYp{Q:cXb->cXd->Prop}(C:A.handled=none)(B:aXS w s.heap a f)(y:f.length<64) (h:∀ (l:Nat)(h':Heap)(tk:Nat)(d:Drawn)(out:List cXb)(j:List Int)(n:Nat),s.heap.objs.size<=l->(∀b o,s.heap.get? b=some o->h'.get? b=some o)->h'.get? l=some {cls:= .type AC,data:= .seq out.toArray n}-> cJv out j->j.Perm f->j.Pairwise (·<=·)->Q (.ref l) {s with heap:=h',toks:=tk,drawn:=d}):cXi (cXk prog w) A (call (.builtin AQ) [.ref a]) Q E s:=by
 refine cJO kind_sorted cWm cWj (args_sorted1 _) ?_;unfold cZZ.«sorted»;refine cXa (m:=checkCount AQ 1 1 _) (cXf ?_);refine cXa (aKj (A:=A.in1) C B (by rw[cXC];omega) λi tk d r G p x t u=>?_);have z:=aQz t;have k:r.length=f.length:=by rw[<- cJh t,u.length_eq]
 refine cXa (cJ6 ?_ (by rw[k,cXC];omega));have c:(i.push {cls:= .type AC,data:= .seq r.toArray}).get? i.objs.size=some (cXS AC r.toArray 0):=cXA _ rfl;refine cXa (cZt (cZJ slot_list_sort ⟨_,c,rfl⟩ entry_list_sort (list_sort_tree c z (by omega) λout g F v D=>⟨_,Ce,?_⟩) (args_list_sort _)));obtain⟨n,e⟩:=sortedHeap_at (out:=out) c;refine cXf ⟨_,Ce,h i.objs.size _ tk d out.toList g n (cJW p) (λb o e=>?_) (by simpa using e) F (v.trans u) D⟩;have q:=x b o e;rw[sortedHeap_old (cXx (cXq q)) (by rw[cZE];exact cZj (cXq q))];exact cXg _ q
end
end Stb
namespace Stb
open PySem PyProof.Rows
def met(val:Nat->Int):Nat->List Int
 |0=> []
 |i+1=>if val i∈met val i then met val i else met val i++ [val i]
theorem aVq(val:Nat->Int):∀i,(met val i).length<=i
 |0=>cXh _
 |i+1=>by
  have a:=aVq val i;unfold met;split
  ·omega
  ·rw[cXD,cZp];omega
set_option tactic.hygienic true in
theorem bQj(val:Nat->Int)(d:Int):∀i,d∈met val i↔∃j,j<i/\val j=d
 |0=>by simp[met]
 |i+1=>by
  have c:=bQj val d i;have step:d∈met val (i+1)↔d∈met val i\/d=val i:=by
   show d∈(if val i∈met val i then met val i else met val i++ [val i])↔_;split
   ·rename_i a;constructor
    ·exact .inl
    ·rintro(z|rfl)
     ·exact z
     ·exact a
   ·simp
  rw[step,c];constructor
  ·rintro(⟨j,b,e⟩|rfl)
   ·exact⟨j,by omega,e⟩
   ·exact⟨i,by omega,rfl⟩
  ·rintro⟨j,b,e⟩;by_cases h:j=i
   ·subst h;exact .inr e.symm
   ·exact .inl ⟨j,by omega,e⟩
section
variable {prog:cXB}{w:cXN}{A:cX8}
def bV1{R:Result->cXd->Prop}{I:Nat}{K y:List Nat}{n:Nat}{P:Nat->cXb->Prop}{St:Nat->Heap->Prop}(W:Walks prog w A.in1 I K y n P St)(S:Nat)(r:S∉K) (val:Nat->Int) (l:∀i v,P i v->∃t,v= .int (val i) t) (a:n+1<cVP): ∀ (k i:Nat)(s:cXd),n - i=k->i<=n->St i s.heap->aXS w s.heap S (met val i)-> (∀p tk,(∀b o,b∉S::y->s.heap.get? b=some o->p.get? b=some o)->aXS w p S (met val n)->R (.ok (.ret .none)) {s with heap:=p,toks:=tk})-> cJq (cXk prog w) A (.builtin "set.update.loop" ⟨[.ref S,.ref I],[]⟩) R s:=by
 have q:S∉y:=λh=>r (W.sub _ h);intro k;induction k with
 |zero=>
  intro i s L Q d D hR;obtain rfl:i=n:=by omega
  refine cJo cVM ?_;rw[cJa cJC _];refine cXa (m:=pyNext (.ref I)) (W.done s _ _ d λp tk j=>?_);exact cXf (hR p tk (λb o a e=>j b o (λz=>a (cXl _ z)) e) (D.at λo e=>j S o q e))
 |succ k O=>
  intro i s L Q d D hR;have u:i<n:=by omega
  refine cJo cVM ?_;rw[cJa cJC _];refine cXa (m:=pyNext (.ref I)) (W.item i s _ _ u d λv B x N f g=>?_);obtain⟨t,rfl⟩:=l i v N;show cXi _ A.in1 (cVE [Value.int (val i) t] (setAdd S (.int (val i) t)) >>=_) _ _ {s with heap:=B,toks:=x};refine cXa (cZt ?_);unfold setAdd;refine cZt ?_;refine cXa ((intKind prog w).pyHash (k:=val i) (intKind_is _ _ _ _) ?_);have c:(met val i).length+1<cVP:=by have:=aVq val i;omega
  refine bKI (s:={s with heap:=B,toks:=x+1}) (D.at λo e=>g S o q e) c λT b J E=>?_;refine cXf ⟨cVB cJC _,O (i+1) _ (by omega) u (W.frame _ B _ f λb a o e=>?_) E λM C H G=>?_⟩
  ·exact J.extBut b o (λz=>r (z ▸ a)) e
  ·refine hR M C (λb o a e=>H b o a (J.extBut b o (λz=>a (by rw[z];exact cXp)) (g b o (λz=>a (cXl _ z)) e))) G
variable {E:cXb->cXd->Prop}{s:cXd}
def bK4(a:cXb){Q₁:cXb->cXd->Prop} (h:Q₁ (.ref s.heap.objs.size) {s with heap:=s.heap.push {cls:= .type B6,dict:=none,data:= .set #[] 0 (.fresh 0 0 (!aVf w)) } }): cJq (cXk prog w) A (.call (.builtin "set.__new__") ⟨[.type B6,a],[]⟩) (wants Q₁ E) s:=by
 refine codeAny_of_tree ?_;show cXi _ A.in1 (do checkBuiltinCall "set.__new__" ⟨[.type B6,a],[]⟩;again (.builtin "set.__new__" ⟨[.type B6,a],[]⟩)) _ _ s;refine cXa (wpAny_of_eq (PySem.F.newCall_set_1 a) (cXf ⟨cVB PySem.F.plain_set_new _,cJo PySem.F.entry_set_new ?_⟩));rw[cJa PySem.F.plain_set_new _];unfold cZZ.«set.__new__» Builtin.Frozenset.newClass;have b:=sub_set_self;obtain⟨e,g,d,tk,c⟩:=s;dsimp only;wp_walk;refine cJZ (cXf ?_);dsimp only;simp only[newObj];refine cXa (wpAny_alloc (cXf ?_));exact cXf h
set_option maxHeartbeats 3200000 in
def wT{l:Nat}{items:Array cXb}{y:List Int}{Q:cXb->cXd->Prop}(hh:A.handled=none)(hl:s.heap.IsList l items)(hi:cJv items.toList y)(L:items.size+1<cVP) (h:∀ (h':Heap)(tk:Nat),aXS w h' s.heap.objs.size (met (λi=>y.getD i 0) items.size)->(∀b o,s.heap.get? b=some o->h'.get? b=some o)->Q (.ref s.heap.objs.size) {s with heap:=h',toks:=tk}): cXi (cXk prog w) A (call (.type B6) [.ref l]) Q E s:=by
 obtain⟨c,tl,a1⟩:=cZ7.mro;have U:=cZ7.made;have a4:=cZ7.sub;refine cVx (codeAny_of_tree ?_);show cXi _ _ (callAny (.type B6) _) _ _ _;refine cXf ⟨cWw _ dk,cJo PySem.F.entry_type_call ?_⟩;rw[Around.under_plain (weight_type_call_type B6 [.ref l] []) rfl];have h1:=cZ7.notType;have h2:=cZ7.canCreate;have a6:=PySem.F.typeCall_set_1 (.ref l);repeat (any_goals (first|assumption|wp_step))
 refine cZ8 (bK4 (.ref l) (E:=E) (Q₁:=λC g=>C= .ref s.heap.objs.size/\g= {s with heap:=s.heap.push {cls:= .type B6,dict:=none,data:= .set #[] 0 (.fresh 0 0 (!aVf w)) } }) ⟨rfl,rfl⟩) λr g T=>?_;cases r with
 |error e=>exact T
 |ok fl=>
  cases fl with
  |ret C=>
   obtain⟨rfl,rfl⟩:=T;generalize I:({cls:= .type B6,dict:=none,data:= .set #[] 0 (.fresh 0 0 (!aVf w)) }:Obj)=O;have V:(s.heap.push O).get? s.heap.objs.size=some O:=cXA _ (by rw[<- I];rfl);have hT:Shared.TypeIs {s with heap:=s.heap.push O} (.ref s.heap.objs.size) B6:=⟨_,V,by rw[<- I]⟩;have G:aXS w (s.heap.push O) s.heap.objs.size []:=by
    refine⟨O, #[],0,.fresh 0 0 (!aVf w),[],V,?_,?_,.nil,.rfl,List.nodup_nil,by decide,Ce,bXX ?_⟩
    ·rw[<- I];exact⟨rfl,Ce,rfl⟩
    ·rw[<- I]
    ·cases aVf w<;> simp
   have d:(s.heap.push O).objs.size=s.heap.objs.size+1:=cZE ..;have p:∀b o,s.heap.get? b=some o->(s.heap.push O).get? b=some o:=λb o e=>cXg _ e;generalize hH:s.heap.push O=H at V hT G d p ⊢;have a5:=cZ7.init.lookup;have a8:=cZ7.init.bind (.ref s.heap.objs.size);repeat (any_goals (first|assumption|wp_step))
   refine cZ8 (cWi (R:=wants (λr j=>r= .none/\∃h' tk,j= {s with heap:=h',toks:=tk}/\aXS w h' s.heap.objs.size (met (λi=>y.getD i 0) items.size)/\
     (∀b o,s.heap.get? b=some o->h'.get? b=some o)) E) cZ7.init.plain PySem.F.entry_set_init (check_set_init_1 hT ?_)) λN j a=>?_
   ·obtain⟨ol,x,M,nl,u⟩:=hl;obtain⟨a0,k,S,f⟩:=ol;simp only at M u;subst M;subst u;have B:H.get? l=some {cls:= .type AC,dict:=k,data:= .seq items nl,slots:=f}:=p _ _ x;have a3:=PySem.F.sub_list_set;have a2:=PySem.F.sub_list_frozenset;have a7:(Value.type AC==Value.type "dict")=false:=by decide
    have J:H.IsList l items:=⟨_,B,Ce,nl,rfl⟩;subst I;unfold cZZ.«set.__init__» noKeywords Builtin.Frozenset.updateFrom;generalize Z:pyIter=PI;wp_walk;subst Z;refine cVV (l:=l) (items:=items) ?hl ?_;case hl=>exact J
    refine cXa (wpAny_runValue ?_);have P:l<s.heap.objs.size:=cXq x;have X:A.in1.in1.in1.handled=none:=by simp[hh]
    have q:l≠H.objs.size:=by rw[d];exact cXx (cZj P)
    have Y:s.heap.objs.size∉ [H.objs.size,l]:=by rw[d];simp only[cXj,cJU,or_false,not_or];exact⟨cXx (cZI _),cJB P⟩
    have D:∀ (i:Nat)(v:cXb),items[i]? =some v->∃t,v= .int ((λi=>y.getD i 0) i) t:=λi v hv=>
     cVl hi i v (by rw[cZQ];exact hv)
    refine bV1 (Walks.list X _ l q items) s.heap.objs.size Y (λi=>y.getD i 0) D L (items.size - 0) 0 _ (by omega) (cZc _) ⟨⟨_,cXA _ rfl,Ce,rfl⟩,J.push _⟩ ?hS0 ?hR;case hS0=>exact G.at λo e=>cXg _ e
    case hR=>
     intro h' tk hk m;show cXi _ _ _ _ _ _;refine cXf ?_;show cXi _ _ (ret Value.none) _ _ _;refine cXf ⟨rfl,h',tk,Ce,m,λb o e=>?_⟩;have L:=cXq e;refine hk b o (λz=>?_) (cXg _ (p _ _ e));simp only[cXj,cJU,or_false]at z;rcases z with z|z
     ·exact cXx L z
     ·rw[z]at L;have K:H.objs.size<s.heap.objs.size:=L;rw[d]at K;exact absurd K (Nat.not_lt.mpr (cJg _))
   ·cases N with
    |error e=>exact a
    |ok n=>
     cases n with
     |ret r=>
      obtain⟨rfl,h',tk,rfl,m,W⟩:=a;repeat (any_goals (first|assumption|wp_step))
      exact h _ _ m W
     |_=>exact a.elim
  |_=>exact T.elim
end
end Stb
namespace L2
open PySem PySem.Spec PyProof.Rows
section
variable {X:Cx}{tg:Expr}
end
section
variable {X:Cx}
theorem aXr(a:List Int):∀n,n<=a.length->preSum (λi=>a.getD i 0) n=(a.take n).sum
 |0,_=>by simp[preSum]
 |n+1,h=>by
  have b:=aXr a n (by omega);show preSum (λi=>a.getD i 0) n+a.getD n 0=_;have e:a.take (n+1)=a.take n++ [a.getD n 0]:=by rw[cZa,cQ9 (show n<a.length by omega)];simp[cXW,cQ9 (show n<a.length by omega)]
  rw[b,e,List.sum_append];simp
inductive aYG(K:cXc)(xs:List V)(H:Hp)(Q:VK):Prop|mk(p:Nat)(ns:List Int)(h:xs= [.ref p])(h:SqL K H p (ns.map V.int))(h:Q (.int ns.sum) H)
def bZa(C:X.calm=true):jZ X (.builtin "sum") (aYG X.K):=by
 intro m s σ H S R Q I r h;obtain⟨p,c,rfl,w,q⟩:=h;obtain⟨u,rfl,y⟩:=aQt r;cases y;obtain⟨a,N,pl,O⟩:=I.list w;have t:cJv a c:=aQe N;have d:a.length=c.length:=t.length;obtain⟨o,x,_⟩:=id pl.isList;have f:p<s.heap.objs.size:=cXq x;refine call_sum_walkAnyS (cVV pl.isList ?_);refine⟨s.heap.objs.size,[s.heap.objs.size,p],[s.heap.objs.size],_,a.toArray.size,_,_,λi=>c.getD i 0,Ce,(Walks.list (A:=X.A.in1) (by simpa using I.ok.hd C) _ p (cXx f) a.toArray).toS,
  ⟨⟨_,cXA _ rfl,Ce,rfl⟩,pl.isList.push _⟩,λb l=>?_,λi v E=>?_,λL n g=>?_⟩
 ·show b<(s.heap.push _).objs.size;rw[cZE];rcases cXj.mp l with rfl|l
  ·exact cZI _
  ·rw[cXo.mp l];exact cZj f
 ·exact cVl t i v (by simpa using E)
 ·have e:preSum (λi=>c.getD i 0) a.toArray.size=c.sum:=by
   rw[cXt,d,aXr c _ (cXh _),cX4]
  rw[e];obtain⟨P,D,G,k,j⟩:=L;have F:D=s.gens:=g.gens;have J:G=s.drawn:=g.drawn;have M:j=s.os:=g.os;subst F J M;exact⟨.int c.sum,H,I.kept (t':=k) λb B e=>g.heap b B (λz=>by rw[cXo.mp z]at e;exact cZk _ (cXq e)) (cXg _ e),⟨n,rfl⟩,q⟩
inductive aYC(K:cXc)(xs:List V)(H:Hp)(Q:VK):Prop|mk(x c t b)(h:xs= [x,.ty c])(h:aJ9 K H x t)(h:cX5 K t (.type c)=some b)(h:Q (.bl b) H)
def zJ:jZ X (.builtin Aa) (aYC X.K):=by
 intro a s σ H i g Q I r h;obtain⟨x,c,t,b,rfl,ty,e,q⟩:=h;obtain⟨u,v,rfl,d,f⟩:=zD.two r;cases f;exact aY1 I d ty e λtk=>⟨.bl b,H,I.tok tk,Ce,q⟩
def bYx(w:cXN)(a:Nat)(b:List Int):HO:= .ext λh=>Stb.aXS w h a b
def bX9(F:X.calm=true):jZ X (.type B6) (λA H Q=>∃ (p:Nat)(a:List Int),A= [.ref p]/\SqL X.K H p (a.map V.int)/\a.length<4000/\∀ (l:Nat)(c:List Int),H l=none->c.Nodup->c.length<=a.length->(∀d,d∈c↔d∈a)->Q (.ref l) (upd H l (bYx X.w l c))):=by
 intro v s σ H A S Q I r h;obtain⟨p,a,rfl,B,M,q⟩:=h;obtain⟨u,rfl,E⟩:=aQt r;cases E;obtain⟨b,G,pl,J⟩:=I.list B;have y:cJv b a:=aQe G;have n:b.length=a.length:=y.length;refine Stb.wT (I.ok.hd F) pl.isList (by simpa using y) (by rw[cXt];unfold cVP;omega) λN tk f C=>?_;rw[cXt]at f;have m:(Stb.met (λi=>a.getD i 0) b.length).Nodup:=by obtain⟨o,R,O,t,T,_,_,_,_,_,m,_⟩:=f;exact m
 have hl:=Stb.aVq (λi=>a.getD i 0) b.length;refine⟨.ref s.heap.objs.size,_,I.laid (t':=tk) (o:=bYx X.w s.heap.objs.size (Stb.met (λi=>a.getD i 0) b.length)) C (cXh _) ⟨f,f.there,λL P z k=>z.at k⟩,Ce,q _ _ I.fresh m (by omega) λd=>?_⟩;rw[Stb.bQj];constructor
 ·rintro⟨j,x,rfl⟩;have g:j<a.length:=by omega
  simp[cXW,cQ9 g]
 ·intro D;obtain⟨j,x,e⟩:=cX2 D;exact⟨j,by omega,by simp[cXW,cQ9 x,e]⟩
def aXT(z:X.calm=true):jZ X (.builtin AQ) (λm H Q=>∃ (p:Nat)(e:List Int),m= [.ref p]/\H p=some (bYx X.w p e)/\e.length<64/\∀ (l:Nat)(b:List Int),H l=none->b.Perm e->b.Pairwise (·<=·)->Q (.ref l) (upd H l (.lst (b.map V.int)))):=by
 intro c s σ H m D Q I r h;obtain⟨p,e,rfl,B,g,q⟩:=h;obtain⟨u,rfl,x⟩:=aQt r;cases x;obtain⟨A,_,_⟩:=(show zT X.prog X.w H s.heap p (bYx X.w p e)from I.hok p _ B);refine Stb.aYp (I.ok.hd z) A g λl k tk d out b n hl t v C f i=>?_;have y:H l=none:=I.hok.fresh hl;have j:b.length<=cXy:=by rw[f.length_eq,cXC];omega
 have a:Inv X c σ (upd H l (.lst (b.map V.int))) {s with heap:=k,toks:=tk}:=I.laid t hl ⟨by rw[cXe];exact j,out,n,jI C,v⟩;have o:Inv X c σ (upd H l (.lst (b.map V.int))) {s with heap:=k,toks:=tk,drawn:=d}:=by refine⟨a.ok,a.os,a.bare,a.base,a.loc,a.cell,a.free,a.freeC,a.pin,a.hok,a.len⟩
 exact⟨.ref l,_,o,Ce,q l b y f i⟩
def aVR(n d:Nat)(a:Nat):HT.sIx n d (some (a:Int))=min a n:=by
 unfold HT.sIx;simp only;split<;> omega
end
end L2
namespace L2
open PySem PySem.Spec PyProof.Rows
def jW(K:cXc):cX5 K (.type "NoneType") (.type AC)=some false:=by kernel_rfl
def jA(K:cXc):cX5 K (.type "NoneType") (.type AE)=some false:=by kernel_rfl
def aQB(K:cXc):cX5 K (.type Al) (.type Al)=some true:=by kernel_rfl
def aVo(K:cXc):cX5 K (.type Al) (.type As)=some true:=by kernel_rfl
def X5(K:cXc):cX5 K (.type Al) (.type At)=some false:=by kernel_rfl
def aJv(K:cXc):cX5 K (.type Al) (.type AC)=some false:=by kernel_rfl
def aZx(K:cXc):cX5 K (.type Al) (.type AE)=some false:=by kernel_rfl
def X6(K:cXc):cX5 K (.type As) (.type Al)=some false:=by kernel_rfl
def aX7(K:cXc):cX5 K (.type As) (.type As)=some true:=by kernel_rfl
def qV(K:cXc):cX5 K (.type As) (.type At)=some false:=by kernel_rfl
def aQ9(K:cXc):cX5 K (.type As) (.type AC)=some false:=by kernel_rfl
def aQC(K:cXc):cX5 K (.type As) (.type AE)=some false:=by kernel_rfl
def aXa(K:cXc):cX5 K (.type At) (.type Al)=some false:=by kernel_rfl
def aKu(K:cXc):cX5 K (.type At) (.type As)=some false:=by kernel_rfl
def jB(K:cXc):cX5 K (.type At) (.type At)=some true:=by kernel_rfl
def aXb(K:cXc):cX5 K (.type At) (.type AC)=some false:=by kernel_rfl
def aQD(K:cXc):cX5 K (.type At) (.type AE)=some false:=by kernel_rfl
def zG(K:cXc):cX5 K (.type AC) (.type AC)=some true:=by kernel_rfl
def vA(K:cXc):cX5 K (.type AC) (.type AE)=some false:=by kernel_rfl
def zR(K:cXc):cX5 K (.type AE) (.type AC)=some false:=by kernel_rfl
def wP(K:cXc):cX5 K (.type AE) (.type AE)=some true:=by kernel_rfl
section
variable {X:Cx}{pins:List (Nat×Obj)}{σ:St}{H:Hp}{s:cXd}
def aKs{E:cXb->cXd->Prop}{Q:cXb->cXd->Prop}{u t:cXb}{tp:Nat}(I:Inv X pins σ H s)(d:wG x u)(ty:aJ9 X.K H x t) (m:cJ8 s.heap tp cs.toArray) (e:PySem.W.kitAny X.K t cs=some b) (h:∀tk,Q (.bool b) {s with toks:=tk}):cXi (cXk X.prog X.w) A (call (.builtin Aa) [u,.ref tp]) Q E s:=by
 obtain⟨⟨cls,R,data,U⟩,c,B,n,v⟩:=m;simp only at B v;subst B v;cases ty with
 |non=>cases (show u=Value.none from d);exact cZV PySem.W.kitx_none I.kIn cZu c e (λz=>nomatch z) h
 |bl y=>cases (show u=Value.bool y from d);exact cZV PySem.W.kitx_bool I.kIn cZu c e (λz=>nomatch z) h
 |int i=>obtain⟨t,q⟩:=(show ∃t,u=Value.int i t from d);cases q;exact cZV PySem.W.kitx_int I.kIn cZu c e (λz=>nomatch z) h
 |str y=>obtain⟨t,q⟩:=(show ∃t,u=Value.str y t from d);cases q;exact cZV PySem.W.kitx_str I.kIn cZu c e (λz=>nomatch z) h
 |flt y=>obtain⟨t,q⟩:=(show ∃t,u=Value.float y t from d);cases q;exact cZV PySem.W.kitx_float I.kIn cZu c e (λz=>nomatch z) h
 |@lst a k f=>cases (show u=Value.ref a from d);obtain⟨_,_,n,_,g⟩:=(show zT X.prog X.w H s.heap a (.lst k)from I.hok a _ f);exact cZV cVS I.kIn ⟨_,g,rfl⟩ c e (λz=>nomatch z) h
 |@frz a D k f=>cases (show u=Value.ref a from d);obtain⟨_,_,_,n,_,g⟩:=(show zT X.prog X.w H s.heap a (.frz D (.lst k))from I.hok a _ f);exact cZV cVS I.kIn ⟨_,g,rfl⟩ c e (λz=>nomatch z) h
 |@tup a k f=>cases (show u=Value.ref a from d);obtain⟨_,_,_,p⟩:=(show zT X.prog X.w H s.heap a (.tup k)from I.hok a _ f);obtain⟨o,g,l,_⟩:=p;exact cZV PySem.W.kitx_tuple I.kIn ⟨o,g,l⟩ c e (λz=>nomatch z) h
 |@dK a j f=>cases (show u=Value.ref a from d);obtain⟨_,_,Y,_,p⟩:=(show zT X.prog X.w H s.heap a (.dK j)from I.hok a _ f);obtain⟨o,N,G,g,l,_⟩:=p;exact cZV cVR I.kIn ⟨o,g,l.1⟩ c e (λz=>nomatch z) h
 |@dT a j f=>cases (show u=Value.ref a from d);obtain⟨_,_,k,_,o,N,G,g,l,_⟩:=(show zT X.prog X.w H s.heap a (.dT j)from I.hok a _ f);exact cZV cVR I.kIn ⟨o,g,l.1⟩ c e (λz=>nomatch z) h
 |@ins a C P fs f cl M F r L=>cases (show u=Value.ref a from d);obtain⟨S,O,_⟩:=aQ5 I.hok f;obtain⟨T,J,_⟩:=O.look;exact cZV (PySem.W.kitx_own (cl.get _) cl.hd M F r L) I.kIn J c e (λz=>nomatch z) h
end
section
variable {X:Cx}
inductive aKe(K:cXc)(xs:List V)(H:Hp)(Q:VK):Prop|mk(x p c d t b b')(h:xs= [x,.ref p])(h:SqT K H p [.ty c,.ty d])(h:aJ9 K H x t)(h:cX5 K t (.type c)=some b)(h:cX5 K t (.type d)=some b')(h:Q (.bl (b || b')) H)
def Z9:jZ X (.builtin Aa) (aKe X.K):=by
 intro pins s σ H z y Q I r h;obtain⟨x,p,c,d,t,b,a,rfl,k,ty,e,l,q⟩:=h;obtain⟨u,v,rfl,f,n⟩:=zD.two r;cases n;obtain⟨i,j,pl,_⟩:=I.tuple k;obtain⟨o,w,rfl,m,g⟩:=zD.two j;cases m;cases g;refine aKs I f ty pl (b:=b || a) ?_ λtk=>⟨.bl (b || a),H,I.tok tk,rfl,q⟩;unfold PySem.W.kitAny;rw[e];cases b
 ·simp only[Bool.false_or];unfold PySem.W.kitAny;rw[l];cases a<;> rfl
 ·rfl
inductive bYl(K:cXc)(x:V)(y:V)(H:Hp)(Q:VK):Prop|mk(a b xs)(h:x= .ref a)(h:y= .ref b)(h:SqL K H a xs)(h:SqL K H b [])(h:Q (.bl xs.isEmpty) H)
inductive bYm(K:cXc)(x:V)(y:V)(H:Hp)(Q:VK):Prop|mk(a b xs)(h:x= .ref a)(h:y= .ref b)(h:SqL K H a xs)(h:SqL K H b [])(h:Q (.bl (!xs.isEmpty)) H)
def aZD(d:X.A.units<cLine):OpR X (cZN .Eq) (bYl X.K):=by
 intro pins s σ H x y v u Q I i k h;obtain⟨a,b,w,rfl,rfl,l,n,q⟩:=h;cases i;cases k;obtain⟨p,o,f,_⟩:=I.list l;obtain⟨r,m,c,_⟩:=I.list n;cases m;cases o with
 |nil=>exact SeqAt.eq_listAt (e:=λ_=>true) f.isList c.isList rfl d (λj g t=>absurd g (cZT _)) ⟨.bl true,H,I,Ce,q⟩
 |cons _ _=>exact SeqAt.eq_list_lengthsAt f.isList c.isList (by simp) d ⟨.bl false,H,I,Ce,q⟩
def jN(d:X.A.units<cLine):OpR X (cZN .NotEq) (bYm X.K):=by
 intro pins s σ H x y v u Q I i k h;obtain⟨a,b,B,rfl,rfl,l,n,q⟩:=h;cases i;cases k;obtain⟨p,o,f,_⟩:=I.list l;obtain⟨r,m,c,_⟩:=I.list n;cases m;cases o with
 |nil=>have z:=SeqAt.RcNeAt.lists (A:=X.A) (s:=s) (e:=λ_=>true) f.isList c.isList rfl d (λj g t=>absurd g (cZT _));exact z X.prog X.w X.xe _ ⟨.bl false,H,I,Ce,q⟩
 |cons _ _=>exact(SeqAt.RcNeAt.lists_lengths f.isList c.isList (by simp) d) X.prog X.w X.xe _ ⟨.bl true,H,I,Ce,q⟩
structure FnG(P:cXB)(w:cXN)(K:cXc)(mg:Str->Option cXb)(base:Heap)(k:Nat)(x:Str)(ps:List Str)(sp:Sp):Prop where
 ex:∃f fd,xL P w K mg base CX0 k f fd ps sp/\uY K fd ps []/\cX7 K (.ref f)=true/\mg x=some (.ref f)
def FnG.mono{P:cXB}{w:cXN}{K:cXc}{mg:Str->Option cXb}{base:Heap}{j k:Nat}{x:Str}{c:List Str}{sp:Sp}(G:FnG P w K mg base j x c sp)(h:j<=k):FnG P w K mg base k x c sp:=
 let ⟨f,fd,a,b⟩:=G.ex;⟨f,fd,a.mono h,b⟩
def xU{k:Nat}{sp:Sp}{t:TA}(G:FnG X.prog X.w X.K X.mg X.base k x g sp)(j:uT k X.A)(h:Gl X x)(n:PA X (e::a) t)
  (c:(x==(AK:Str))=false:=by decide) (l:cXR (e::a) X.env=(false,eval e X.env)::cXR a X.env:=by rfl) (d:(cZW pos (cXR a X.env)).any (·.1)=false:=by rfl):
  PE X (.Call (.Name x p) (e::a) [] pos) (aYq sp [] E0 t):=by
 obtain⟨f,o,F,b,i,m⟩:=G.ex
 exact bQO F j h m i b .nil uU n c l d
end
inductive Dt where
 |non|bl (b:Bool)|int (n:Int)|str (x:Str)|lst (ds:List Dt)|tup (ds:List Dt)
mutual
def Is(H:Hp):V->Dt->Prop
 |v,.non=>v= .non
 |v,.bl b=>v= .bl b
 |v,.int n=>v= .int n
 |v,.str x=>v= .str x
 |v,.lst ds=>∃a c,v= .ref a/\H a=some (.lst c)/\wF H c ds
 |v,.tup ds=>∃a c,v= .ref a/\H a=some (.tup c)/\wF H c ds
def wF(H:Hp):List V->List Dt->Prop
 |[],[]=>True
 |x::xs,d::ds=>Is H x d/\wF H xs ds
 |_,_=>False
end
mutual
def Dt.size:Dt->Nat
 |.lst a=>1+wD a
 |.tup a=>1+wD a
 |_=>1
def wD:List Dt->Nat
 |[]=>0
 |d::ds=>d.size+wD ds
end
theorem wF.length{H:Hp}:∀ {xs:List V} {ds:List Dt},wF H xs ds->xs.length=ds.length
 |[],[],_=>rfl
 |_::xs,_::ds,h=>by unfold wF at h;simp[wF.length h.2]
 |[],_::_,h=>by unfold wF at h;exact h.elim
 |_::_,[],h=>by unfold wF at h;exact h.elim
theorem wF.get{H:Hp}:∀ {xs:List V} {ds:List Dt} {i:Nat} {d:Dt},wF H xs ds->ds[i]? =some d->∃x,xs[i]? =some x/\Is H x d
 |x::xs,d::ds,0,_,h,e=>by unfold wF at h;simp at e;subst e;exact⟨x,Ce,h.1⟩
 |_::xs,_::ds,i+1,d,h,e=>by unfold wF at h;simpa using wF.get (i:=i) (d:=d) h.2 (by simpa using e)
 |[],[],_,_,_,e=>by simp at e
 |[],_::_,_,_,h,_=>by unfold wF at h;exact h.elim
 |_::_,[],_,_,h,_=>by unfold wF at h;exact h.elim
def zX{t u:TS}(R:L2.St->Hp->Prop)(c:∀a b,R a b->u D a b)(d:(∀a b,R a b->u D a b)->t {D with nx:=u D} σ H):bYZ t u D σ H:=d c
def onT{A B:Prop}(e:c=true)(h:A):if c=true then A else B:=by rw[e];exact h
def onF{A B:Prop}(e:c=false)(h:B):if c=true then A else B:=by rw[e];exact h
def z0:([]:List V).length<=cXy:=by decide
def z1: [a].length<=cXy:=by show 1<=cXy;decide
def z2: [a,b].length<=cXy:=by show 2<=cXy;decide
def z3: [a,b,c].length<=cXy:=by show 3<=cXy;decide
def z4: [a,b,c,d].length<=cXy:=by show 4<=cXy;decide
def z5: [a,b,c,d,e].length<=cXy:=by show 5<=cXy;decide
def zn{l:List V}(h:l.length<=100000):l.length<=cXy:=by rw[cXC];omega
def zlt{l:List V}(h:l.length<=100000):l.length<cXy:=by rw[cXC];omega
def xJ.fresh(k:xJ H a)(h:a p=none):H p=none:=by
 cases e:H p with
 |none=>rfl
 |some o=>rw[k _ _ e]at h;cases h
def yE(h:H p=none)(o:HO):xJ H (upd H p o):=λb u q=>by rw[yJ (yI q h)];exact q
end L2
namespace Rvl
open PySem PyProof.Rows
section
variable {prog:cXB}{w:cXN}{A:cX8}{E:cXb->cXd->Prop}{s:cXd}
end
end Rvl
namespace L2
open PySem PySem.Spec PyProof.Rows
section
variable {X:Cx}
end
end L2
namespace L2
open PySem PySem.Spec PyProof.Rows
def W8{k:List Nat}{Q:VK}(p:Nat->Bool)(f:Nat->V)(z:H D=none)(hz:n<=cXy) (t:∀i,i<n->∀ (c:Hp)(R:Bool->Hp->Prop),(∀b,b≠D->c b=H b)->R (p i) c->d (sub σ k (some (.int (i:Nat)))) c R) (q:∀i,i<n->p i=true->∀ (c:Hp)(R:VK),(∀b,b≠D->c b=H b)->R (f i) c->l (sub σ k (some (.int (i:Nat)))) c R) (o:Q (.ref D) (upd H D (.lst (((cXm n).filter p).map f)))):bVL (Itr 0 n) k d l σ D Q (upd H D (.lst [])):=by
 refine⟨λi m j c=>m=n - i/\i<=n/\j=((cXm i).filter p).map f/\c=upd H D (.lst j),⟨n,by simp,cZc _,by simp,rfl⟩,?_⟩;rintro i m j c ⟨rfl,A,rfl,rfl⟩;refine⟨yB,?_⟩;by_cases a:i<n
 ·refine .inr ⟨a,λv B u=>?_⟩;obtain⟨s,x⟩:=u;subst s;subst x;rw[cJz];have e:∀b,b≠D->upd H D (.lst (((cXm i).filter p).map f)) b=H b:=λb w=>yJ w;have g:(((cXm i).filter p).map f).length<cXy:=by
   rw[cXe];have r:=cX6 p (cXm i);rw[cX1]at r;omega
  refine t i a _ _ e ?_;cases h:p i with
  |false=>show ∃y,_;refine⟨n - (i+1),by omega,Ce,a,?_,rfl⟩;rw[cJE,cZo,cZB (by rw[h];decide)];simp
  |true=>show l _ _ _;refine q i a h _ _ e ⟨g,yB,n - (i+1),by omega,Ce,a,?_,by rw[qP]⟩;rw[cJE,cZo,cZC h];simp
 ·obtain rfl:i=n:=by omega
  exact .inl ⟨cXh _,o⟩
end L2
namespace Stree
open PySem PySem.W PyProof.Rows
def Asks{α:Type}(n:Nat)(lt:Nat->Nat->Bool):KasT α->(α->Prop)->Prop
 |.ret a,Q=>Q a
 |.ask i j k,Q=>i<n/\j<n/\Asks n lt (k (lt i j)) Q
theorem Asks.bind{α β:Type}{lt:Nat->Nat->Bool}{f:α->KasT β}{Q:β->Prop}:∀ {t:KasT α} {R:α->Prop},Asks n lt t R->(∀a,R a->Asks n lt (f a) Q)->Asks n lt (t.bind f) Q
 |.ret a,R,h,hf=>hf a h
 |.ask i j k,R,h,hf=>⟨h.1,h.2.1,Asks.bind (t:=k (lt i j)) h.2.2 hf⟩
theorem Asks.wp{α:Type}{lt:Nat->Nat->Bool}{b:Nat->Nat->(Bool->cXd->Prop)->cXd->Prop}{G:α->cXd->Prop}(c:∀i j C,i<n->j<n->C (lt i j) s->b i j C s):
  ∀ {t:KasT α} {R:α->Prop},Asks n lt t R->(∀a,R a->G a s)->t.kasWp b G s
 |.ret a,R,h,hf=>hf a h
 |.ask i j k,R,h,hf=>c i j _ h.1 h.2.1 (Asks.wp c (t:=k (lt i j)) h.2.2 hf)
section
variable {n:Nat}{r:Nat->Int}{p:Array Nat}
abbrev aQF(r:Nat->Int):Nat->Nat->Bool:=λi j=>decide (r i<r j)
abbrev R(r:Nat->Int)(p:Array Nat)(k:Nat):Int:=r (p.getD k 0)
structure Ok(n:Nat)(p:Array Nat):Prop where
 perm:p.toList.Perm (cXm n)
def Ok.size(h:Ok n p):p.size=n:=by have:=h.perm.length_eq;simpa using this
def Ok.lt(h:Ok n p)(h0:0<n)(k:Nat):p.getD k 0<n:=by
 by_cases a:k<p.size
 ·have:p.toList[k]'(by simpa using a)∈p.toList:=cZX _;have:=cXI.mp (h.perm.mem_iff.mp this);simpa[cJM,a]using this
 ·simpa[cJM,a]using h0
def Ok.ne(h:Ok n p)(g:i<n)(f:j<n)(c:i≠j):p.getD i 0≠p.getD j 0:=by
 have k:=h.size;have d:p.toList.Nodup:=h.perm.nodup_iff.mpr cVv;intro e;have a:i<p.size:=by omega
 have b:j<p.size:=by omega
 simp[cJM,a,b]at e;have:=(cZ5 (xs:=p.toList) (h₀:=by simpa using a) (h₁:=by simpa using b) d).mp (by simpa using e);exact c this
def Inj(n:Nat)(r:Nat->Int):Prop:=∀i j,i<n->j<n->r i=r j->i=j
def Ok.rne(h:Ok n p)(c:Inj n r)(d:i<n)(b:j<n)(a:i≠j):R r p i≠R r p j:=λe=>
 h.ne d b a (c _ _ (h.lt (by omega) i) (h.lt (by omega) j) e)
def Srt(r:Nat->Int)(p:Array Nat)(k:Nat):Prop:=∀i j,i<j->j<k->R r p i<R r p j
def Dsc(r:Nat->Int)(p:Array Nat)(k:Nat):Prop:=∀i j,i<j->j<k->R r p j<R r p i
def Srt.one:Srt r p 1:=λi j a b=>by omega
def aZv(p:Array Nat)(k:Nat):p.getD k 0=(p[k]?).getD 0:=by simp[cJM,cJG];split<;> simp_all
theorem aJb(h:Ok n p)(hr:Inj n r):∀ (f m:Nat),1<=m->m+f<=n->Srt r p m->Asks n (aQF r) (kas_asc p f m) (λm'=>m<=m'/\m'<=m+f/\Srt r p m'/\(m'<m+f->R r p m'<R r p (m' - 1)))
 |0,m,h1,h2,hs=>⟨cXh _,cXh _,hs,λz=>absurd z (by omega)⟩
 |f+1,m,h1,h2,hs=>by
  refine⟨h.lt (by omega) _,h.lt (by omega) _,?_⟩
  by_cases c:r (p.getD m 0)<r (p.getD (m - 1) 0)
  ·have e:aQF r (p.getD m 0) (p.getD (m - 1) 0)=true:=decide_eq_true c
   rw[e];show Asks n (aQF r) (ite _ _ _) _;rw[if_pos rfl]
   exact⟨cXh _,by omega,hs,λ_=>c⟩
  ·have e:aQF r (p.getD m 0) (p.getD (m - 1) 0)=false:=decide_eq_false c
   rw[e];show Asks n (aQF r) (ite _ _ _) _;rw[if_neg (by decide)]
   have hne:=h.rne hr (i:=m) (j:=m - 1) (by omega) (by omega) (by omega)
   have hlt:R r p (m - 1)<R r p m:=by
    have:¬R r p m<R r p (m - 1):=c
    omega
   have hs':Srt r p (m+1):=λi j hij hj=>by
    by_cases hjm:j<m
    ·exact hs i j hij hjm
    ·have:j=m:=by omega
     subst this
     by_cases hi:i=j - 1
     ·rw[hi];exact hlt
     ·have:=hs i (j - 1) (by omega) (by omega);omega
   have z:=aJb h hr f (m+1) (by omega) (by omega) hs'
   have e2:m+1+f=m+(f+1):=by omega
   rw[e2]at z
   exact Asks.mono z λm' ⟨a,b,c,d⟩=>⟨by omega,b,c,d⟩
where
 Asks.mono {α:Type} {n:Nat} {lt:Nat->Nat->Bool} {Q Q':α->Prop}:∀ {t:KasT α},Asks n lt t Q->(∀a,Q a->Q' a)->Asks n lt t Q'
  |.ret a,h,hf=>hf a h
  |.ask i j k,h,hf=>⟨h.1,h.2.1,Asks.mono (t:=k (lt i j)) h.2.2 hf⟩
theorem aYP(h:Ok n p)(q:Inj n r):∀ (f m:Nat),1<=m->m+f<=n->Dsc r p m->Asks n (aQF r) (kas_desc f p m 0) (λz=>z.1=p/\z.2.2=0/\m<=z.2.1/\z.2.1<=m+f/\Dsc r p z.2.1)
 |0,m,h1,h2,hs=>⟨rfl,Ce,cXh _,cXh _,hs⟩
 |f+1,m,h1,h2,hs=>by
  refine⟨h.lt (by omega) _,h.lt (by omega) _,?_⟩;by_cases c:r (p.getD m 0)<r (p.getD (m - 1) 0)
  ·have e:aQF r (p.getD m 0) (p.getD (m - 1) 0)=true:=decide_eq_true c;rw[e];show Asks n (aQF r) (ite _ _ _) _;rw[if_pos rfl,if_neg (by omega)];have k:Dsc r p (m+1):=λi j o w=>by
    by_cases g:j<m
    ·exact hs i j o g
    ·have:j=m:=by omega
     subst this;have v:R r p j<R r p (j - 1):=c;by_cases t:i=j - 1
     ·rw[t];exact v
     ·have:=hs i (j - 1) (by omega) (by omega);omega
   have z:=aYP h q f (m+1) (by omega) (by omega) k;have s:m+1+f=m+(f+1):=by omega
   rw[s]at z;exact aJb.Asks.mono z λz ⟨a,b,c,d,e⟩=>⟨a,b,by omega,d,e⟩
  ·have e:aQF r (p.getD m 0) (p.getD (m - 1) 0)=false:=decide_eq_false c;rw[e];show Asks n (aQF r) (ite _ _ _) _;rw[if_neg (by decide)];refine⟨h.lt (by omega) _,h.lt (by omega) _,?_⟩;have u:=h.rne q (i:=m) (j:=m - 1) (by omega) (by omega) (by omega);have l:R r p (m - 1)<R r p m:=by
    have:¬R r p m<R r p (m - 1):=c;omega
   have e:aQF r (p.getD (m - 1) 0) (p.getD m 0)=true:=decide_eq_true l;rw[e];show Asks n (aQF r) (ite _ _ _) _;rw[if_pos rfl];exact⟨rfl,Ce,cXh _,Nat.le_add_right _ _,hs⟩
def bKG(b:m<=p.size)(k:Nat)(a:k<m):R r (kas_rev p 0 m) k=R r p (m - 1 - k):=by
 unfold R kas_rev;rw[aZv,aZv,getElem?_mirror_all b,if_pos ⟨cZc _,a⟩,Nat.zero_add]
def bVu(h:Ok n p)(m:Nat):Ok n (kas_rev p 0 m):=⟨(cWz.mp (mirror_perm p 0 m _)).trans h.perm⟩
def bJX(h:Ok n p)(g:Inj n r)(o:1<=m)(e:m<=n)(k:Dsc r p m):Asks n (aQF r) (kas_tail3 m n p) (λz=>1<=z.1/\z.1<=n/\Ok n z.2/\Srt r z.2 z.1):=by
 have d:Srt r (kas_rev p 0 m) m:=λi j l f=>by rw[bKG (by rw[h.size];exact e) i (by omega),bKG (by rw[h.size];exact e) j f];exact k _ _ (by omega) (by omega)
 refine Asks.bind (aJb (bVu h m) g (n - m) m o (by omega) d) λm' ⟨a,b,c,_⟩=>?_;exact⟨by omega,by omega,bVu h m,c⟩
def bZd(h:Ok n p)(f:Inj n r)(y:1<=n):Asks n (aQF r) (kas_count n p) (λz=>1<=z.1/\z.1<=n/\Ok n z.2/\Srt r z.2 z.1):=by
 refine Asks.bind (aJb h f (n - 1) 1 (cXh _) (by omega) Srt.one) λm ⟨a,b,c,d⟩=>?_;by_cases e:m=n
 ·rw[if_pos (by simpa using e)];exact⟨a,by omega,h,c⟩
 ·rw[if_neg (by simpa using e)];by_cases l:m > 1
  ·rw[if_pos l];refine⟨h.lt (by omega) _,h.lt (by omega) _,?_⟩;have g:R r p 0<R r p (m - 1):=c 0 (m - 1) (by omega) (by omega);have s:aQF r (p.getD 0 0) (p.getD (m - 1) 0)=true:=decide_eq_true g;rw[s];show Asks n (aQF r) (ite _ _ _) _;rw[if_pos rfl];exact⟨a,by omega,h,c⟩
  ·rw[if_neg l];have v:m=1:=by omega
   subst v;have u:=d (by omega);refine Asks.bind (aYP h f (n - 2) 2 (by omega) (by omega) ?_) λz ⟨z1,z2,z3,z4,z5⟩=>?_
   ·intro i j x k;have w:i=0:=by omega
    have k:j=1:=by omega
    subst w;subst k;exact u
   ·obtain⟨q,o,t⟩:=z;simp only at z1 z2 z3 z4 z5;subst z1;subst z2;rw[if_neg (by simp)];exact bJX h f (by show 1<=o;omega) (by show o<=n;omega) z5
theorem aZH(h:Ok n p)(g:Inj n r){k:Nat}(s:k<n)(b:Srt r p k):∀ (f l u:Nat),l<=u->u<=k->u - l<=f->(∀i,i<l->R r p i<R r p k)->(∀i,u<=i->i<k->R r p k<R r p i)->
  Asks n (aQF r) (kas_place p k f l u) (λm=>m<=k/\(∀i,i<m->R r p i<R r p k)/\∀i,m<=i->i<k->R r p k<R r p i)
 |0,l,u,h1,h2,h3,h4,h5=>⟨by omega,h4,λi o a=>h5 i (by omega) a⟩
 |f+1,l,u,h1,h2,h3,h4,h5=>by
  unfold kas_place;by_cases c:l≥u
  ·rw[if_pos c];exact⟨by omega,h4,λi o a=>h5 i (by omega) a⟩
  ·rw[if_neg c];refine⟨h.lt (by omega) _,h.lt (by omega) _,?_⟩;have w:(l+u) / 2<u:=by omega
   have hl:l<=(l+u) / 2:=by omega
   by_cases d:r (p.getD k 0)<r (p.getD ((l+u) / 2) 0)
   ·have e:aQF r (p.getD k 0) (p.getD ((l+u) / 2) 0)=true:=decide_eq_true d;rw[e];show Asks n (aQF r) (ite _ _ _) _;rw[if_pos rfl];refine aZH h g s b f l _ hl (by omega) (by omega) h4 λi o a=>?_;have t:R r p k<R r p ((l+u) / 2):=d;by_cases q:i=(l+u) / 2
    ·rw[q];exact t
    ·have:=b ((l+u) / 2) i (by omega) a;omega
   ·have e:aQF r (p.getD k 0) (p.getD ((l+u) / 2) 0)=false:=decide_eq_false d;rw[e];show Asks n (aQF r) (ite _ _ _) _;rw[if_neg (by decide)];have t:¬R r p k<R r p ((l+u) / 2):=d;have v:=h.rne g (i:=k) (j:=(l+u) / 2) (by omega) (by omega) (by omega);refine aZH h g s b f _ u (by omega) h2 (by omega) (λi o=>?_) h5;by_cases q:i=(l+u) / 2
    ·rw[q];omega
    ·have:=b i ((l+u) / 2) (by omega) (by omega);omega
def bKF{k l:Nat}(h:k<p.size)(hl:l<=k)(i:Nat):R r (bubble p k (k - l)) i=if i=l then R r p k else if l<i/\i<=k then R r p (i - 1)else R r p i:=by
 have e:=getElem?_bubble h (k - l) (by omega) i;rw[show k - (k - l)=l by omega]at e;have d:∀q:Array Nat,∀a b:Nat,∀c:Array Nat,q[a]? =c[b]? ->R r q a=R r c b:=λq a b c z=>by unfold R;rw[aZv,aZv,z]
 by_cases g:i=l
 ·rw[if_pos g]at e ⊢;exact d _ _ _ _ e
 ·rw[if_neg g]at e ⊢;by_cases f:l<i/\i<=k
  ·rw[if_pos f]at e ⊢;exact d _ _ _ _ e
  ·rw[if_neg f]at e ⊢;exact d _ _ _ _ e
theorem bVd(d:Inj n r):∀ (f k:Nat)(p:Array Nat),Ok n p->k+f=n->Srt r p k->Asks n (aQF r) (kas_bin f p k) (λo=>Ok n o/\Srt r o n)
 |0,k,p,h,e,hs=>⟨h,by rw[<- e];exact hs⟩
 |f+1,k,p,h,e,hs=>by
  refine Asks.bind (aZH h d (k:=k) (by omega) hs k 0 k (by omega) (cXh _) (by omega) (λi c=>absurd c (by omega)) (λi c b=>absurd b (by omega))) λl ⟨h1,h2,h3⟩=>?_;refine bVd d f (k+1) _ ⟨(cWz.mp (bubble_perm p k _)).trans h.perm⟩ (by omega) λi j t u=>?_;have g:k<p.size:=by rw[h.size];omega
  rw[bKF g h1,bKF g h1];by_cases m:i=l
  ·rw[if_pos m];by_cases a:j=l
   ·omega
   ·rw[if_neg a,if_pos ⟨by omega,by omega⟩];exact h3 _ (by omega) (by omega)
  ·rw[if_neg m];by_cases a:j=l
   ·rw[if_pos a,if_neg (by omega)];exact h2 i (by omega)
   ·rw[if_neg a];by_cases q:l<i/\i<=k
    ·rw[if_pos q,if_pos ⟨by omega,by omega⟩];exact hs _ _ (by omega) (by omega)
    ·rw[if_neg q];by_cases s:l<j/\j<=k
     ·rw[if_pos s];by_cases cl:i=j - 1
      ·omega
      ·exact hs _ _ (by omega) (by omega)
     ·rw[if_neg s];exact hs _ _ (by omega) (by omega)
def bKj(a:Inj n r)(b:1<=n):Asks n (aQF r) (kas_sort n) (λp=>Ok n p/\Srt r p n):=by
 have h0:Ok n (cZm (cXm n)):=⟨by simp⟩;refine Asks.bind (bZd h0 a b) λz ⟨h1,h2,h3,h4⟩=>?_;by_cases c:z.1<n
 ·rw[if_pos c,Nat.max_eq_left h1];exact bVd a _ _ _ h3 (by omega) h4
 ·rw[if_neg c];exact⟨h3,by rw[show n=z.1 by omega];exact h4⟩
def aJU(f:Inj n r)(g:1<=n):Asks n (aQF r) (kas_sort n) (λp=>p.toList.Perm (cXm n)/\p.toList.Pairwise (λi j=>r i<r j)):=by
 refine aJb.Asks.mono (bKj f g) λp ⟨h1,h2⟩=>⟨h1.perm,?_⟩;rw[cJP];intro i j e d c;have b:i<p.size:=by simpa using e
 have a:j<p.size:=by simpa using d
 have z:=h2 i j c (by rw[<- h1.size];exact a);simpa[R,cJM,b,a]using z
end
end Stree
namespace Stree
open PySem PySem.W PySem.Calls PyProof.Rows
section
variable {prog:cXB}{w:cXN}{A:cX8}{E:cXb->cXd->Prop}
theorem aJm{f:cXb}{vs:List cXb}{kS:Nat}{J:List cXb->cXd->Prop}{body:cXb->PUnit->Sem (ForInStep PUnit)}
  (e:∀a s v,J a s->vs[a.length]? =some v->cXi (cXk prog w) A (body v ⟨⟩) (λr b=>r= .yield ⟨⟩/\∃k,J (a++ [k]) b) E s):
  ∀ (r a:List cXb)(s:cXd),vs.drop a.length=r->a.length<=vs.length->J a s->cXi (cXk prog w) A (forIn r PUnit.unit body) (λ_ b=>∃a,a.length=vs.length/\J a b) E s
 |[],a,s,hr,hle,hJ=>by rw[List.forIn_nil];refine cXf ⟨a,?_,hJ⟩;have:=congrArg cJk hr;rw[cV4]at this;simp at this;omega
 |v::r,a,s,hr,hle,hJ=>by
  rw[cWd];have c:vs[a.length]? =some v:=by have:=congrArg (λl=>l[0]?) hr;simpa using this
  have i:a.length<vs.length:=by
   rcases cVg a.length vs.length with h|h
   ·exact h
   ·rw[cXM h]at c;cases c
  refine cXa (cZh (e a s v hJ c) (λq b g=>?_) λ_ _ x=>x);obtain⟨rfl,k,d⟩:=g;show cXi (cXk prog w) A (forIn r PUnit.unit body) _ E b;refine aJm (kS:=kS) (f:=f) e r (a++ [k]) b ?_ (by rw[cXD,cZp];omega) d;rw[cXD,cZp,List.drop_add_one_eq_tail_drop,hr];rfl
def bYB{s:cXd}{a:Nat}{vs:List cXb}{f:cXb}{b:Bool}{P:PySem.Fin->cXd->Prop}{n0:Nat}(X:s.heap.get? a=some (cXS AC vs.toArray n0))(a9:vs.length<64)(J:Nat->List cXb->cXd->Prop) (h0:∀n q,(∀c o,c≠a->s.heap.get? c=some o->q.get? c=some o)->q.get? a=some (cXS AC #[] n)->q.get? (s.heap.objs.size+1)=some (cXS AC #[] 0)->J n [] {s with heap:=q}) (hget:∀n g l,J n g l->(∃e,l.heap.get? (s.heap.objs.size+1)=some (cXS AC g.toArray e))/\l.heap.get? a=some (cXS AC #[] n)) (hcall:∀n g l v,J n g l->vs[g.length]? =some v->cXi (cXk prog w) A (call f [v]) (λk m=>(∃e,m.heap.get? (s.heap.objs.size+1)=some (cXS AC g.toArray e))/\ ∀q c,cJf (s.heap.objs.size+1) m.heap q->q.get? (s.heap.objs.size+1)=some (cXS AC (g++ [k]).toArray c)->J n (g++ [k]) {m with heap:=q}) (λ_ _=>False) l) (hend:∀n g l,J n g l->g.length=vs.length->∃r:Nat->Int,Inj vs.length r/\ (2<=vs.length->∃κ,(∀Q:SortKind->cXd->Prop,Q κ l->cXi (cXk prog w) A (keyKind' g.toArray) Q (λ_ _=>False) l)/\∀i j C,i<vs.length->j<vs.length->C (decide (r i<r j)) l->kas_ask prog w A κ (katRev b g) i j C l)/\ ∀ (p:List Nat) q c z,p.Perm (cXm vs.length)->p.Pairwise (λi j=>r i<r j)->(∀d,d≠a->d≠s.heap.objs.size+1->q.get? d=l.heap.get? d)->q.get? (s.heap.objs.size+1)=some (cXS AC #[] c)-> q.get? a=some (cXS AC (katRev b (p.map λi=>(katRev b vs).getD i Value.none)).toArray z)->P (.done (.ret .none)) {l with heap:=q}): cXi (cXk prog w) A (ksk_tree a f b) P E s:=by
 have ha:a<s.heap.objs.size:=cXq X;have N:a≠s.heap.objs.size+1:=cXx (cZj ha);obtain⟨n,M⟩:∃n,(s.heap.update a (cXY λ_=>(#[]:Array cXb))).get? a=some (cXS AC #[] n):=⟨_,cVa X λ_=> #[]⟩;have S:((s.heap.update a (cXY λ_=>(#[]:Array cXb))).push (cXS AE vs.toArray 0)).objs.size=s.heap.objs.size+1:=by rw[size_push',cV1]
 unfold ksk_tree;refine cXa (listItems_at X rfl ?_);refine cXa (cVA X rfl ?_ (by rw[cXt,cXC];omega) (cZc _));refine cXa (seqEpoch_at M rfl ?_);refine cXa (wpAny_newTuple ?_ (by show vs.length<=_;rw[cXC];omega));refine cXa (cJ6 ?_ (cZc _));refine cZt ?_;have J0:=h0 n (((s.heap.update a (cXY λ_=>(#[]:Array cXb))).push (cXS AE vs.toArray 0)).push (cXS AC #[] 0))
  (λc o hc e=>cXg _ (cXg _ ((cXL _ _ (cXT hc)).trans e)))
  (cXg _ (cXg _ M)) (by rw[<- S];exact cXA _ rfl)
 show cXi _ _ (ksk_rest a f b vs.toArray n (.ref ((s.heap.update a (cXY λ_=>(#[]:Array cXb))).push (cXS AE vs.toArray 0)).objs.size)) _ _ _;rw[S];unfold ksk_rest;refine cXa (wpAny_rule ?_);first
  |rw[List.forIn_toArray]
  |(rw[<- Array.forIn_toList];simp only[cWq])
  |rw[<- Array.forIn_toList]
 refine cXa (cZh (aJm (f:=f) (kS:=s.heap.objs.size+1) (J:=J n) (vs:=vs) (λg l v W hv=>?_) vs [] _ (by simp) (cZc _) J0) (λ_ l hd=>?_) λ_ _ x=>x)
 ·have b1:g.length<vs.length:=by
   rcases cVg g.length vs.length with h|h
   ·exact h
   ·rw[cXM h]at hv;cases hv
  refine cXa (cVC (cZh (hcall n g l v W hv) (λk m hk=>?_) λ_ _ hF=>hF.elim));obtain⟨⟨e,nk⟩,c⟩:=hk;have s1:=cZL m.heap (s.heap.objs.size+1) (cXY (·.push k));have ea:(cZm g).push k=cZm (g++ [k]):=by simp
  obtain⟨z,G⟩:∃z,(m.heap.update (s.heap.objs.size+1) (cXY (·.push k))).get? (s.heap.objs.size+1)=some (cXS AC (cZm (g++ [k])) z):=⟨_,by rw[<- ea];exact cVa nk (·.push k)⟩;try dsimp only
  refine cXa (cVA nk rfl ?_ (by rw[cXt,cXC];omega) (cXJ (cJV (Array.size_push ..)) (by rw[cXt,cXC];omega)));exact cXf ⟨rfl,k,c _ z s1 G⟩
 ·obtain⟨g,hl,W⟩:=hd;obtain⟨⟨e,H⟩,a8⟩:=hget n g l W;try dsimp only
  refine cXa (listItems_at H rfl ?_);obtain⟨r,hr,R,V⟩:=hend n g l W hl;have step:∀t:Sem PySem.Fin,cXi (cXk prog w) A t P E l->cXi (cXk prog w) A (if b=true then(do let _ <- rule "list.sort.reverse";t)else t) P E l:=by
   intro t ht;split
   ·exact cXa (wpAny_rule ht)
   ·exact ht
  have I:(katRev b g).length=(katRev b vs).length:=by rw[kat_len,kat_len,hl]
  have D:∀ (Z:SortSt)(p:List Nat),p.Perm (cXm vs.length)->p.Pairwise (λi j=>r i<r j)->(arrOf Z).map (·.2)=cZm (p.map λi=>(katRev b vs).getD i Value.none)->failedOf Z=none->
    cXi (cXk prog w) A (ksk_tail a b n (.ref (s.heap.objs.size+1)) Z) P E l:=by
   intro Z p u L U hf
   have a6:p.length=vs.length:=by rw[u.length_eq,cX1]
   obtain⟨ck,a7⟩:∃ck,(l.heap.update (s.heap.objs.size+1) (cXY λ_=>(#[]:Array cXb))).get? (s.heap.objs.size+1)=some (cXS AC #[] ck):=⟨_,cVa H λ_=> #[]⟩
   have na:(l.heap.update (s.heap.objs.size+1) (cXY λ_=>(#[]:Array cXb))).get? a=some (cXS AC #[] n):=(cXL _ _ (cXT N)).trans a8
   obtain⟨z,G⟩:∃z,((l.heap.update (s.heap.objs.size+1) (cXY λ_=>(#[]:Array cXb))).update a (cXY λ_=>cZm (katRev b (p.map λi=>(katRev b vs).getD i Value.none)))).get? a=some (cXS AC (cZm (katRev b (p.map λi=>(katRev b vs).getD i Value.none))) z):=
    ⟨_,cVa na λ_=>cZm (katRev b (p.map λi=>(katRev b vs).getD i Value.none))⟩
   have a5:(cZm (katRev b (p.map λi=>(katRev b vs).getD i Value.none))).size=vs.length:=by rw[cXt,kat_len,cXe,a6]
   unfold ksk_tail
   try dsimp only
   rw[U,kat_outs]
   refine cXa (cVA H rfl ?_ (by rw[cXt,cXC];omega) (cZc _))
   refine cXa (wpAny_letGo ?_)
   refine cXa (seqEpoch_at na rfl ?_)
   refine cXa (cVA na rfl ?_ (cZc _) (cXJ (cJV a5) (by rw[cXC];omega)))
   rw[hf]
   simp only[bne_self_eq_false,Bool.false_eq_true,if_false]
   refine cXf (V p _ ck z u L (λd h1 y=>?_) ?_ G)
   ·exact(cXL _ _ (cXT h1)).trans (cXL _ _ (cXT y))
   ·exact(cXL _ _ N).trans a7
  unfold ksk_end;try dsimp only
  refine step _ ?_;rw[kat_pairs b hl];by_cases y:vs.toArray.size<2
  ·rw[if_pos y,if_pos y];refine cXa (cXf ?_);refine cXa (cXf ?_);have F:vs.length<2:=by rw[cXt]at y;exact y
   refine D _ (cXm vs.length) (List.Perm.refl _) ?_ ?_ rfl
   ·rw[cJP];intro i j Y hj b2;rw[cX1]at Y hj;omega
   ·show((cZm (katRev b g)).zip (cZm (katRev b vs))).map (·.2)=_;apply Array.toList_inj.mp;rw[Array.toList_map,Array.toList_zip];simp only[cWq];have n:(cVK (katRev b g) (katRev b vs)).map (·.2)=katRev b vs:=List.map_snd_zip (cJV I.symm);rw[n];apply cJp;intro i;rw[cXu];by_cases Y:i<vs.length
    ·have K:i<(katRev b vs).length:=by rw[kat_len];exact Y
     rw[cJe Y];simp[cXW,cQ9 K]
    ·have K:(katRev b vs).length<=i:=by rw[kat_len];omega
     rw[cXM K,cXM (by rw[cX1];omega)];rfl
  ·have F:2<=vs.length:=by rw[cXt]at y;omega
   rw[if_neg y,if_neg y];obtain⟨κ,hκ,T⟩:=R F;refine cXa (cZh (hκ (λk m=>k=κ/\m=l) ⟨rfl,rfl⟩) (λk m hq=>?_) λ_ _ x=>x.elim);obtain⟨rfl,rfl⟩:=hq;have b0:(kas_sort (katRev b vs).length).kasWp (kas_ask prog w A k (katRev b g)) (λp O=>O=m/\p.toList.Perm (cXm vs.length)/\p.toList.Pairwise (λi j=>r i<r j)) m:=by rw[kat_len];exact Asks.wp (lt:=aQF r) T (aJU hr (by omega)) λp hp=>⟨rfl,hp⟩
   refine cXa (cZh (kat_run (Q:=λB O=>∃p:Array Nat,arrOf B=p.map (kas_item ((cZm (katRev b g)).zip (cZm (katRev b vs))))/\failedOf B=none/\
     O=m/\p.toList.Perm (cXm vs.length)/\p.toList.Pairwise (λi j=>r i<r j))
    I (by rw[kat_len];exact F) (by rw[kat_len];exact a9) (λp' B O a1 a2 a3 a4=>⟨p',a2,a3,a4⟩) b0) ?_ λ_ _ x=>x)
   rintro⟨⟨⟩,B⟩ O ⟨p,a0,hf,rfl,u,L⟩;try dsimp only
   exact D _ p.toList u L (kat_snds I a0) hf
end
end Stree
namespace L2
open PySem PySem.Spec PyProof.Rows
abbrev bYT(X:Cx)(A:cX8)(N:List Str)(qual:Str)(sc:Scope)(L q:Nat)(cd:cXb)(cl:List (Str×Nat))(s:cXd)(H:Hp):Cx:=
 {X with A:=A.deeper (PySem.W.envX qual sc L q cd cl),N:=N,s₀:=s,H₀:=H,env:=PySem.W.envX qual sc L q cd cl,outer:=X.stack,stack:=PySem.W.envX qual sc L q cd cl::X.stack,ex:= [],fn:=λ_=>false,calm:=true,pn:= [],xe:=λ_ _=>False}
section
variable {X:Cx}{pins:List (Nat×Obj)}{σ:St}{H:Hp}{s:cXd}
def bZv{names:List Str}{pm R:cXb}{Q:VK} (I:Inv X pins σ H s) (hA:A.frames=some X.stack) (hd:A.handled=none) (G:A.depth<recursionLimit) (S:xO X.N X.env.scope x names M f) (a3:f.isCoroutine=false) (P:f.isGenerator=false) (a:∀y c,cl.lookup y=some c->X.env.cells.lookup y=some c) (B:∀y,(y,NameKind.free)∈f.names->∃c,cl.lookup y=some c) (ho:s.heap.get? q=some (cJn name qual d body f cl pm n R)) (a5:s.heap.CodeRec (.ref n) qual) (F:∀u:cXb,cJI (PySem.W.kla_fn name qual d body f cl pm (.ref n) R) ⟨[u],[]⟩=pure [(x,u)]) (he:∀A L cd s H,PE (bYT X A (x::names) qual f L q cd cl s H) body te) (r:wG v u) (h:te (sub σ M (some v)) H Q): cXi (cXk X.prog X.w) A (call (.ref q) [u]) (EP X pins σ Q) (λ_ _=>False) s:=by
 have a1:cJq (cXk X.prog X.w) A (.call (.ref q) ⟨[u],[]⟩) (λr s'=>match r with|.ok (.ret u)=>EP X pins σ Q u s'|_=>False) s:=by
  refine PySem.W.kla_callFunE G ho rfl a3 P rfl a5 ?_;rw[F u];refine cXf (wpAny_newFunctionEnv S.nocell (λy hy=>by rw[cXo.mp hy];exact S.var) (λC a4 a2=>?_) S.kind);have keep:∀b o,s.heap.get? b=some o->C.get? b=some o:=λb o e=>a2.extBut b o (cXx (cXq e)) (cXg _ e);refine⟨I.nolimit.keeps keep,?_⟩;show cJq _ _ (.expr body (PySem.W.envX qual f s.heap.objs.size q (.ref n) cl)) _ _;have a0:(bYT X A (x::names) qual f s.heap.objs.size q (.ref n) cl s H).Ok:=by
   refine⟨I.ok.mod,S.kind,Ce,Ce,cXh _,?_,?_,?_,λ_=>hd,Around.frames_deeper hA,.inr ⟨rfl,rfl⟩,?_,I.bs,cXJ I.ok.bsz I.sz,?_,?_,I.stack,I.stkFree⟩
   ·exact λy z c U Y=>I.ok.inj y z c (a y c U) (a z c Y)
   ·intro y hy;have g:f.names.lookup y=some .cell\/f.names.lookup y=some .free:=hy;rcases g with g|g
    ·exact absurd rfl (S.nocell _ (cZM g))
    ·exact B y (cZM g)
   ·exact λy c h _=>by cases h
   ·exact λb F=>absurd (show b∈([]:List Nat)from F) (by simp)
   ·exact λb o _ F=>absurd (show b∈([]:List Nat)from F) (by simp)
   ·exact λb F=>absurd (show b∈([]:List Nat)from F) (by simp)
  have IY:Inv (bYT X A (x::names) qual f s.heap.objs.size q (.ref n) cl s H) [] (sub σ M (some v)) H {s with heap:=C,toks:=s.toks+ [(x,u)].length}:=by
   refine⟨a0,Ce,I.bare,Un.kept keep,⟨_,a4,?_⟩,?_,I.hok.fresh (cXh _),λy c e=>I.freeC y c (a y c e),λp hp=>absurd (show p∈([]:List (Nat×Obj))from hp) (by simp),I.hok.kept keep,?_⟩
   ·intro i y t U Y h3;cases i with
    |zero=>
     have K:x=y:=by simpa using U
     have E:v=t:=by have z:(some (some v):Option (Option V))=some (some t):=Y;cases z;rfl
     subst K;subst E;exact⟨u,r,.inl ⟨S.var,by simp[cJx]⟩⟩
    |succ j=>
     have K:names[j]? =some y:=U;obtain⟨T,e1,e2,Z⟩:=S.from_ j y K;have E:σ[T]? =some (some t):=by
      have z:(M.map λi=>(σ[i]?).join)[j]? =some (some t):=Y;rw[cXu,e1]at z;have l:(σ[T]?).join=some t:=cXv z;cases q:σ[T]? with
      |none=>rw[q]at l;cases l
      |some o=>rw[q]at l;rw[show o=some t from l]
     obtain⟨m,hn,hl⟩:=I.loc;have O:Vis X.env.scope y:= .inr (S.free _ Z rfl);obtain⟨u',ru,lk⟩:=hl T y t e2 E O;refine⟨u',ru,.inr ⟨?_,?_⟩⟩
     ·exact .inr (S.flk _ Z rfl)
     ·rcases lk with⟨k,_⟩|⟨k,c,e,z⟩
      ·rcases S.free _ Z rfl with z|z
       ·have l:X.env.kindOf y=some .cell:=z;rw[k]at l;cases l
       ·have l:X.env.kindOf y=some .free:=z;rw[k]at l;cases l
      ·obtain⟨n,e'⟩:=B y Z;have:=a y n e';rw[e]at this;cases this;exact⟨c,e',z.keeps keep⟩
   ·intro y c e;obtain⟨v,z⟩:=I.cell y c (a y c e);exact⟨v,z.keeps keep⟩
   ·show(sub σ M (some v)).length=(x::names).length;simp[sub,S.len]
  refine PySem.W.kla_codeExpr (cZh (he A s.heap.objs.size (.ref n) s H [] _ (sub σ M (some v)) H Q IY h) (λw s' D=>?_) (λ_ _ z=>z.elim));obtain⟨t,H',J,rv,q⟩:=D;exact I.after ⟨t,H',J.os,J.bare,J.base,J.hok,rv,q⟩
 refine cVx (cZ8 a1 λr s' D=>?_);cases r with
 |error e=>exact D
 |ok fl=>
  cases fl with
  |ret u=>exact D
  |next=>exact D
  |brk=>exact D
  |cont=>exact D
end
end L2
namespace L2
open PySem PySem.Spec PyProof.Rows
def aYI(c:Nat)(qual:Str):HO:= .ext λh=>h.CodeRec (.ref c) qual
def bK5(q:Nat)(o:Obj):HO:= .ext λh=>h.get? q=some o
def bZc(r:h.CodeRec (.ref c) qual):zT P w H h c (aYI c qual):=by
 obtain⟨p,o,s,t,e,b,m,n⟩:=id r;cases e;refine⟨r,⟨o,b⟩,λb m z k=>?_⟩;obtain⟨q,f,a,l,j,i,d,g⟩:=z;cases j;exact⟨_,f,a,l,Ce,k _ i,d,g⟩
def bQq(r:h.get? q=some o):zT P w H h q (bK5 q o):=⟨r,⟨o,r⟩,λb a z k=>k _ z⟩
def Q8(pos:Pos)(qual:Str)(P:Nat)(H:Hp):Prop:=
 H P=some (.tbl #[])\/∃a,H P=some (.tbl (#[]++ #[cZv pos.line,cZv pos.col,.ref a]))/\H a=some (aYI a qual)
def zK(H a:Hp):Prop:=∀b o,(∀c,o≠ .tbl c)->H b=some o->a b=some o
def xJ.t(k:xJ H a):zK H a:=λb o _ e=>k b o e
def zK.refl(H:Hp):zK H H:=λ_ _ _ e=>e
def zK.trans(a:zK H f)(b:zK f d):zK H d:=λc o n e=>b c o n (a c o n e)
def zK.lst(k:zK H b)(h:H a=some (.lst xs)):b a=some (.lst xs):=k a _ (λ_ z=>nomatch z) h
def zK.tup(k:zK H b)(h:H a=some (.tup xs)):b a=some (.tup xs):=k a _ (λ_ z=>nomatch z) h
def zK.ext(k:zK H b){φ:Heap->Prop}(h:H a=some (.ext φ)):b a=some (.ext φ):=k a _ (λ_ z=>nomatch z) h
def zK.seq{K:cXc}{H b:Hp}{a:Nat}{xs:List V}(k:zK H b)(h:SqL K H a xs):SqL K b a xs:=by
 rcases h with h|h
 ·rcases h with h|⟨o,h⟩
  ·exact .inl (.inl (k.lst h))
  ·exact .inl (.inr ⟨o,k a _ (λ_ z=>nomatch z) h⟩)
 ·exact .inr h
def aWc:PySem.TriplesOk (#[]:Array cXb).toList:=trivial
def aWd:PySem.TriplesOk ((#[]++ #[cZv a,cZv b,v]:Array cXb)).toList:=trivial
def aYz:codeAmong pos ((#[]++ #[cZv pos.line,cZv pos.col,v]:Array cXb)).toList=some v:=by
 show(if((pos.line:Int)==pos.line && (pos.col:Int)==pos.col)=true then some v else _)=some v;simp
section
variable {X:Cx}{pins:List (Nat×Obj)}{σ:St}{H:Hp}{s:cXd}
def Inv.tab{d more:Array cXb}(I:Inv X pins σ H s)(h:H P=some (.tbl d))(f:cVW P s.heap h')(j:h'.get? P=some {cls:= .none,data:= .fields (d++more) }): Inv X pins σ (upd H P (.tbl (d++more))) {s with heap:=h',toks:=t'}:=by
 have g:∀b,H b=none->b≠P:=λb n z=>by rw[z,h]at n;cases n
 have ne:∀b o,H b=some o->(∀d,o≠ .tbl d)->b≠P:=λb o e n z=>by subst z;rw[h]at e;cases e;exact n _ rfl
 refine I.un (t':=t') ⟨λb o e n _ _=>f b o (g b n) e,λb o e n _ _=>⟨o.slots,f b o (g b n) e⟩,λb o e n _=>by rw[yJ (g b n)];exact n,λb o e _=>?_,λb k e=>?_,λb o u e=>?_,λb l e=>?_⟩ λb u e=>?_
 ·by_cases a:b=P
  ·exact⟨_,by rw[a];exact j⟩
  ·exact⟨o,f b o a e⟩
 ·rw[yJ (ne b _ e λ_ z=>nomatch z)];exact e
 ·rw[yJ (ne b _ e λ_ z=>nomatch z)];exact e
 ·by_cases a:b=P
  ·subst a;rw[h]at e;cases e;exact⟨more,yB⟩
  ·exact⟨#[],by rw[yJ a,e];simp⟩
 ·by_cases a:b=P
  ·subst a;rw[yB]at e;cases e;exact j
  ·rw[yJ a]at e;refine(I.hok b u e).stay (λc v i q=>f c v ?_ q) (λc q=>?_) λc k q=>?_
   ·rcases i with rfl|i
    ·exact a
    ·exact ne c _ i λ_ z=>nomatch z
   ·rw[yJ (ne c _ q λ_ z=>nomatch z)];exact q
   ·rw[yJ (ne c _ q λ_ z=>nomatch z)];exact q
def bZw{E:cXb->cXd->Prop}{Q:cXb->cXd->Prop}(I:Inv X pins σ H s)(F:closureFor r X.env=pure cl)(l:X.env.code= .ref c) (C:cJi X.base c P) (hB:X.base.BuiltinsAt X.mg P) (hT:Q8 pos qual P H) (hq:∀ (q f:Nat)(g:cXb)(G:Hp)(s':cXd),Inv X pins σ G s'->H q=none->G q=some (bK5 q (cJn name qual d body r cl ((X.mg Ae).getD .none) f g))->G f=some (aYI f qual)->Q8 pos qual P G->zK H G->Q (.ref q) s'): cXi (cXk X.prog X.w) X.A (makeFunction name qual d (.expr body) r X.env [] [] [] pos fl) Q E s:=by
 have hg:s.heap.Ns cXK X.mg:=I.ok.mod.glob.keeps I.bk;have hC:=C.keeps I.bk;obtain⟨bm,ob,b1,b2,b3,b4,b5,b6⟩:=hB;have R:s.heap.BuiltinsAt X.mg P:=⟨bm,ob,b1,b2,b3,b4,I.bk _ _ b5,b6⟩;rcases hT with p|⟨f,p,O⟩
 ·have m:s.heap.get? P=some (cJR #[]):=I.hok P _ p;have a0:cXK≠P:=λz=>by
   obtain⟨o,es,ep,e,hd,_⟩:=hg;rw[z,m]at e;cases e;cases hd
  refine PySem.W.kla_makeFunction (mg:=X.mg) F I.ok.glob hg l hC m aWc rfl a0 R λf g h tk J i M L y=>?_;have T:=I.tab (t':=tk) p J y;have x:P≠f:=cXx (cXE (cXq m) i);have V:H f=none:=I.hok.fresh i;have K:upd H P (.tbl (#[]++ #[cZv pos.line,cZv pos.col,.ref f])) f=none:=by rw[yJ (cXT x)];exact V
  have I2:Inv X pins σ (upd (upd H P (.tbl (#[]++ #[cZv pos.line,cZv pos.col,.ref f]))) f (aYI f qual)) {s with heap:=h,toks:=tk}:=by
   have a2:cVW P s.heap h:=J;have U:∀b,H b=none->b≠P:=λb n z=>by rw[z,p]at n;cases n
   have ne:∀b o,H b=some o->(∀ps,o≠ .tbl ps)->b≠P:=λb o e n z=>by subst z;rw[p]at e;cases e;exact n _ rfl
   have a1:∀b o,s.heap.get? b=some o->b≠f:=λb o e=>cXx (cXE (cXq e) i);have S:∀b,b≠P->b≠f->upd (upd H P (.tbl (#[]++ #[cZv pos.line,cZv pos.col,.ref f]))) f (aYI f qual) b=H b:=λb Z h2=>by rw[yJ h2,yJ Z]
   have hl:∀b u,H b=some u->b≠f:=λb u e=>yI e V;refine I.un (t':=tk) ⟨λb o e n _ _=>J b o (U b n) e,λb o e n _ _=>⟨o.slots,J b o (U b n) e⟩,λb o e n _=>by rw[S b (U b n) (a1 b o e)];exact n,λb o e _=>?_,λb xs e=>?_,λb o u e=>?_,λb qs e=>?_⟩ λb u e=>?_
   ·by_cases D:b=P
    ·exact⟨_,by rw[D];exact y⟩
    ·exact⟨o,J b o D e⟩
   ·rw[S b (ne b _ e λ_ z=>nomatch z) (hl b _ e)];exact e
   ·rw[S b (ne b _ e λ_ z=>nomatch z) (hl b _ e)];exact e
   ·by_cases D:b=P
    ·subst D;rw[p]at e;cases e;exact⟨_,by rw[yJ x];exact yB⟩
    ·exact⟨#[],by rw[S b D (hl b _ e),e];simp⟩
   ·by_cases N:b=f
    ·subst N;rw[yB]at e;cases e;exact bZc L
    ·rw[yJ N]at e;refine(T.hok b u e).stay (λc v _ q=>q) (λc q=>?_) λc xs q=>?_
     ·rw[yJ (yI q K)];exact q
     ·rw[yJ (yI q K)];exact q
  have j:H h.objs.size=none:=I.hok.fresh (cXJ i (cJW M));have I3:=I2.laid (a:=h.objs.size) (o:=bK5 h.objs.size (cJn name qual d body r cl ((X.mg Ae).getD .none) f g)) (t':=tk) (h':=h.push (cJn name qual d body r cl ((X.mg Ae).getD .none) f g))
   (λb o e=>cXg _ e) (cXh _) (bQq (cXA _ rfl))
  have B:f≠h.objs.size:=cXx M;have Y:P≠h.objs.size:=cXx (cXq y);refine hq h.objs.size f g _ _ I3 j yB (by rw[yJ B];exact yB) (.inr ⟨f,by rw[yJ Y,yJ x];exact yB,by rw[yJ B];exact yB⟩) λb o n e=>?_;have Z:b≠P:=λz=>by subst z;rw[p]at e;cases e;exact n _ rfl
  rw[yJ (yI e j),yJ (yI e V),yJ Z];exact e
 ·have m:s.heap.get? P=some (cJR (#[]++ #[cZv pos.line,cZv pos.col,.ref f])):=I.hok P _ p;refine PySem.W.kla_makeFunctionHit (mg:=X.mg) F I.ok.glob hg l hC m aWd aYz R λg h tk hk i=>?_;have T:Inv X pins σ H {s with heap:=h,toks:=tk}:=I.kept hk;have j:H h.objs.size=none:=T.hok.fresh (cXh _);have I3:=T.laid (a:=h.objs.size) (o:=bK5 h.objs.size (cJn name qual d body r cl ((X.mg Ae).getD .none) f g)) (t':=tk) (h':=h.push (cJn name qual d body r cl ((X.mg Ae).getD .none) f g))
   (λb o e=>cXg _ e) (cXh _) (bQq (cXA _ rfl))
  have k:=yE j (bK5 h.objs.size (cJn name qual d body r cl ((X.mg Ae).getD .none) f g));exact hq h.objs.size f g _ _ I3 j yB (k _ _ O) (.inr ⟨f,k _ _ p,k _ _ O⟩) k.t
end
end L2
namespace Stree
open PySem PySem.W PySem.Calls PyProof.Rows
theorem aQ2{α:Type}(p q:α->Bool):∀ (l:List α),(∀a∈l,p a=true->q a=true)->(∃a∈l,p a=false/\q a=true)->l.countP p<l.countP q
 |[],_,h=>by obtain⟨a,b,_⟩:=h;cases b
 |x::r,hs,h=>by
  have e:r.countP p<=r.countP q:=List.countP_mono_left λa b=>hs a (cXl _ b);obtain⟨a,b,d,c⟩:=h;rcases cXj.mp b with rfl|b
  ·rw[cV3,cV3,d,c];simp;omega
  ·have g:=aQ2 p q r (λa b=>hs a (cXl _ b)) ⟨a,b,d,c⟩;rw[cV3,cV3];have:=hs x cXp;cases f:p x with
   |false=>cases q x<;> simp<;> omega
   |true=>rw[this f];simp;omega
def aVJ(lt:Nat->Nat->Bool)(g:∀i,i<n->lt i i=false)(p:∀i j k,i<n->j<n->k<n->lt i j=true->lt j k=true->lt i k=true)(f:∀i j,i<n->j<n->i≠j->lt i j=true\/lt j i=true): ∃r:Nat->Int,Inj n r/\∀i j,i<n->j<n->decide (r i<r j)=lt i j:=by
 refine⟨λi=>((cXm n).countP λm=>lt m i:Nat),?_,?_⟩
 ·have up:∀i j,i<n->j<n->lt i j=true->((cXm n).countP λm=>lt m i)<((cXm n).countP λm=>lt m j):=λi j a b h=>
   aQ2 _ _ _ (λm o d=>p m i j (cXI.mp o) a b d h) ⟨i,cXI.mpr a,g i a,h⟩
  intro i j a b e;by_cases c:i=j
  ·exact c
  ·exfalso;have q:(((cXm n).countP λm=>lt m i:Nat):Int)=((cXm n).countP λm=>lt m j:Nat):=e;rcases f i j a b c with h|h
   ·have:=up i j a b h;omega
   ·have:=up j i b a h;omega
 ·intro i j a b;have up:∀i j,i<n->j<n->lt i j=true->((cXm n).countP λm=>lt m i)<((cXm n).countP λm=>lt m j):=λi j a b h=>
   aQ2 _ _ _ (λm o d=>p m i j (cXI.mp o) a b d h) ⟨i,cXI.mpr a,g i a,h⟩
  cases h:lt i j with
  |true=>have:=up i j a b h;exact decide_eq_true (by show(((cXm n).countP λm=>lt m i:Nat):Int)<((cXm n).countP λm=>lt m j:Nat);omega)
  |false=>
   refine decide_eq_false ?_;show ¬ (((cXm n).countP λm=>lt m i:Nat):Int)<((cXm n).countP λm=>lt m j:Nat);by_cases c:i=j
   ·subst c;omega
   ·rcases f i j a b c with l|l
    ·rw[h]at l;cases l
    ·have:=up j i b a l;omega
section
variable {prog:cXB}{w:cXN}{A:cX8}{E:cXb->cXd->Prop}{s:cXd}
def aZq{r:Nat}{n:Nat}{t u v:Tok}{Q:List cXb->cXd->Prop}(P:A.handled=none)(M:IsRange s.heap r 0 n 1 t u v)(V:n<64) (T:∀m tk H,(∀b o,s.heap.get? b=some o->m.get? b=some o)->s.heap.objs.size<m.objs.size->cJv H ((cXm n).map Int.ofNat)->Q H {s with heap:=m,toks:=tk}):cXi (cXk prog w) A (collect (.ref r)) Q E s:=by
 have J:Builtin.Range.rangeSize 0 n 1=(n:Int):=by rw[rangeSize_one];split<;> omega
 have D:Builtin.Range.small 0 n 1=true:=small_one (by decide) (by decide) (by omega) (by omega);unfold collect;refine cXa (wpAny_runValue (cJo F.entry_proto_collect ?_));rw[cJa F.plain_proto_collect _];show cXi _ A.in1 (newList [] >>=λl=>again (.builtin "list.__iadd__" ⟨[l,.ref r],[]⟩)) _ _ s;refine cXa (cZx ?_);refine cXf ⟨cVB F.plain_list_iadd _,cJo F.entry_list_iadd ?_⟩;rw[cJa F.plain_list_iadd _];have d:(s.heap.push {cls:= .type AC,data:= .seq ([]:List cXb).toArray}).get? s.heap.objs.size=some {cls:= .type AC,data:= .seq ([]:List cXb).toArray}:=cXA _ rfl;show cXi _ A.in1 (cVk (.ref s.heap.objs.size) (.ref r) (.ref s.heap.objs.size)) _ _ _;refine cZh (wpAny_extend_range (A:=A) (R:=λq y=>q= .ok (.ret (.ref s.heap.objs.size))/\∃a g,y.heap.get? s.heap.objs.size=some {cls:= .type AC,dict:=none,data:= .seq a g,slots:= #[] }/\Q a.toList y) (s:={s with heap:=s.heap.push {cls:= .type AC,data:= .seq ([]:List cXb).toArray} }) P (cXg _ M) D J (by omega) s.heap.objs.size (.ref s.heap.objs.size) 0 d λm tk a g K j c=>⟨rfl,a,g,j,?_⟩) (λfin y B=>?_) λe y O=>by obtain⟨z,_⟩:=O;cases z
 rotate_left
 ·cases fin with
  |done f=>
   obtain⟨e,a,g,h,p⟩:=B;have S:f= .ret (.ref s.heap.objs.size):=by cases e;rfl
   subst S;exact cXa (wpAny_load h (cXf p))
  |again g=>
   exact⟨B.1,cZ8 B.2 λq L I=>by
    obtain⟨rfl,a,g,h,p⟩:=I;exact cXa (wpAny_load h (cXf p))⟩
 refine T m tk a.toList (λb o e=>K b o (cXx (cXq e)) (cXg _ e)) (cXq j) ?_;have len:a.toList.length=n:=by rw[cZw];exact c.1
 have all:∀ (k:Nat)(l:List cXb),l.length<=n->k+l.length=n->(∀i v,l[i]? =some v->∃t,v=Value.int ((k+i:Nat):Int) t)->cJv l ((List.range' k l.length).map Int.ofNat):=by
  intro k l;induction l generalizing k with
  |nil=>intro _ _ _;exact .nil
  |cons x l N=>
   intro h p G;obtain⟨t,rfl⟩:=G 0 x rfl;rw[cZb,List.range'_succ,cXO];exact .cons _ _ (N (k+1) (by rw[cZb]at h;omega) (by rw[cZb]at p;omega) λi v C=>by
    obtain⟨U,e⟩:=G (i+1) v C;exact⟨U,by rw[e,show k+(i+1)=k+1+i by omega]⟩)
 have z:=all 0 a.toList (by omega) (by omega) λi v C=>by obtain⟨t,e⟩:=c.2 i v (by rw[<- cZQ];exact C);exact⟨t,by rw[e,show(0:Int)+(i:Int)*1=((0+i:Nat):Int) by omega]⟩
 rw[len]at z;rw[List.range_eq_range'];exact z
def aJV{r:Nat}{n:Nat}{t u v:Tok}{b:Bool}{f:cXb}{g:List (Str×cXb)}{Q:cXb->cXd->Prop}(H:A.handled=none)(F:IsRange s.heap r 0 n 1 t u v)(G:n<64) (p:argsOk AQ ⟨[.ref r],g⟩) (j:∀x,argsOk "list.sort" ⟨[.ref x],g⟩) (C:∀x,cZZ.«list.sort» ⟨[.ref x],g⟩=ksk_tree x f b) (h:∀a c tk d,(∀b o,s.heap.get? b=some o->c.get? b=some o)->s.heap.objs.size<=a->c.get? a=some (cXS AC d.toArray 0)->cJv d ((cXm n).map Int.ofNat)-> cXi (cXk prog w) A.in1.in1 (ksk_tree a f b) (λfin z=>fin= .done (.ret .none)/\Q (.ref a) z) (λ_ _=>False) {s with heap:=c,toks:=tk}): cXi (cXk prog w) A (call (.builtin AQ) [.ref r] g) Q E s:=by
 refine call_function_entry_kw kind_sorted cWm cWj p ?_;unfold cZZ.«sorted»;refine cXa (m:=checkCount AQ 1 1 _) (cXf ?_);refine cXa (aZq (A:=A.in1) (by simpa using H) F G λc tk d B q y=>?_);have D:d.length=n:=by rw[y.length];simp
 refine cXa (cJ6 ?_ (by rw[cXC];omega));have i:(c.push (cXS AC d.toArray 0)).get? c.objs.size=some (cXS AC d.toArray 0):=cXA _ rfl;have l:s.heap.objs.size<=c.objs.size:=cJW q;refine cXa (cZt (wpAny_call_entry_kw slot_list_sort ⟨_,i,rfl⟩ entry_list_sort ?body (j _)));case body=>
  show cXi (cXk prog w) A.in1.in1 (cZZ.«list.sort» ⟨[.ref c.objs.size],g⟩) _ _ _;rw[C c.objs.size];refine cZh (h c.objs.size (c.push (cXS AC d.toArray 0)) tk d (λb o e=>cXg _ (B b o e)) l i y) (λfin z k=>?_) λ_ _ x=>x.elim;obtain⟨rfl,k⟩:=k;exact⟨_,Ce,cXf ⟨_,Ce,k⟩⟩
end
end Stree
namespace Stree
open PySem PySem.W PySem.Calls PyProof.Rows
def vH(a b:Int×Int):Bool:=decide (a.1<b.1) || (decide (a.1=b.1) && decide (a.2<b.2))
def vX(a:Int×Int):vH a a=false:=by simp[vH]
def aZz(e:vH a b=true)(d:vH b c=true):vH a c=true:=by
 simp only[vH,Bool.or_eq_true,Bool.and_eq_true,decide_eq_true_eq]at e d ⊢;omega
def aZy(h:a≠b):vH a b=true\/vH b a=true:=by
 have c:¬ (a.1=b.1/\a.2=b.2):=λ⟨x,y⟩=>h (Prod.ext x y);simp only[vH,Bool.or_eq_true,Bool.and_eq_true,decide_eq_true_eq];omega
section
variable {prog:cXB}{w:cXN}{A:cX8}{E:cXb->cXd->Prop}{s:cXd}
def aVj{t t':Tok}{Q:Bool->cXd->Prop}(h:Q (a==c) s):cXi (cXk prog w) A (eqBool (.int a t) (.int c t')) Q E s:=
 (L2.bVh (A:=A) (s:=s) (y:= .int a) (x:= .int c) ⟨t,rfl⟩ ⟨t',rfl⟩ rfl rfl) prog w E Q h
def bQi{n k:Nat}{t o r j:Tok}{Q:Bool->cXd->Prop}(l:s.heap.get? x=some g)(dx:g.data= .seq #[.int a t,.int b o] n)(m:s.heap.get? y=some f)(q:f.data= .seq #[.int c r,.int d j] k) (h:Q (vH (a,b) (c,d)) s):cXi (cXk prog w) A (keyLt' (tuples' true) (.ref x) (.ref y)) Q E s:=by
 refine kat_lt l dx m q ?_;refine kat_cons (aVj ?_);unfold vH at h;by_cases e:a=c
 ·subst e;simp only[Int.lt_irrefl,decide_false,Bool.false_or,decide_true,Bool.true_and]at h;rw[beq_self_eq_true];refine kat_yes (kat_cons (aVj ?_));by_cases i:b=d
  ·subst i;rw[beq_self_eq_true];refine kat_yes (kat_nil ?_);simpa using h
  ·rw[beq_eq_false_iff_ne.mpr i];refine kat_no (kat_one _ _ ?_);exact lt_int h
 ·rw[beq_eq_false_iff_ne.mpr e];have p:Q (decide (a<c)) s:=by
   have:decide (a=c)=false:=decide_eq_false e;simpa[this]using h
  refine kat_no ?_;exact oneLt_int p
end
end Stree
namespace L2
open PySem PySem.Spec PyProof.Rows
def ixb(b:Bool)(n i:Nat):Nat:=if b=true then n - 1 - i else i
def aJu(h:i<n):ixb b n i<n:=by unfold ixb;split<;> omega
def bWa(c:i<n)(a:j<n)(h:ixb b n i=ixb b n j):i=j:=by unfold ixb at h;split at h<;> omega
def aZK{α:Type}{l:List α}{d:α}(a:l.length=n)(c:i<n):(cZr b l).getD i d=l.getD (ixb b n i) d:=by
 unfold cZr ixb;split
 ·simp only[cXW];rw[List.getElem?_reverse (by omega),a]
 ·rfl
def bYd{n:Nat}{b:Bool}{a:Nat->Int×Int}{r:Nat->Int}{p:List Nat}(m:p.Perm (cXm n))(k:p.Pairwise λi j=>r i<r j)(g:∀i j,i<n->j<n->decide (r i<r j)=Stree.vH (a (ixb b n i)) (a (ixb b n j))): (cZr b (p.map (ixb b n))).Perm (cXm n)/\(cZr b (p.map (ixb b n))).Pairwise λi j=>Stree.vH (if b=true then a j else a i) (if b=true then a i else a j)=true:=by
 have f:(p.map (ixb b n)).Pairwise λi j=>Stree.vH (a i) (a j)=true:=by rw[cJK];have l:∀i∈p,i<n:=λi c=>cXI.mp (m.mem_iff.mp c);refine k.imp_of_mem λ{i j} c hj h=>?_;rw[<- g i j (l i c) (l j hj)];exact decide_eq_true h
 have d:=m.map (ixb b n);cases b with
 |false=>
  have e:ixb false n=id:=by funext i;rfl
  rw[e]at d f ⊢;rw[cVX,cVX]at d;rw[cVX]at f ⊢;exact⟨d,f⟩
 |true=>
  have e:(cXm n).map (ixb true n)=(cXm n).reverse:=by
   apply cJp;intro i;by_cases c:i<n
   ·rw[cXu,cJe c,List.getElem?_reverse (by simpa using c),cX1,cJe (by omega)];rfl
   ·rw[cXM (by simp;omega),cXM (by simp;omega)]
  rw[e]at d;refine⟨(List.reverse_perm _).trans (d.trans (List.reverse_perm _)),?_⟩;show((p.map (ixb true n)).reverse).Pairwise _;rw[List.pairwise_reverse];exact f
def bVK(H:Hp)(b:Nat->Int×Int)(c:List cXb):Prop:=∀i v,c[i]? =some v->∃a,v= .ref a/\H a=some (.tup [.int (b i).1,.int (b i).2])
def bJW(te:TE)(fr:List Nat)(tb:TE)(P:Nat)(lpos:Pos)(qual:Str)(b:Bool):TE:=λσ H Q=>te σ H λv e=>∃n:Nat,v= .int n/\n<64/\Q8 lpos qual P e/\∃kz:Nat->Int×Int,
 (∀i j,i<n->j<n->kz i=kz j->i=j)/\
 (∀i c,i<n->zK e c->Q8 lpos qual P c->∀R:VK,(∀a d,zK c d->d P=c P->d a=some (.tup [.int (kz i).1,.int (kz i).2])->R (.ref a) d)->tb (sub σ fr (some (.int i))) c R)/\
 ∀H5 l (out:List Nat),zK e H5->Q8 lpos qual P H5->e l=none->out.Perm (cXm n)->(out.Pairwise λi j=>Stree.vH (if b=true then kz j else kz i) (if b=true then kz i else kz j)=true)->H5 l=some (.lst (out.map λi=> .int (i:Nat)))->Q (.ref l) H5
def Q8.keep(t:Q8 lpos qual P H)(k:zK H a)(e:a P=H P):Q8 lpos qual P a:=by
 rcases t with t|⟨c,b,d⟩
 ·exact .inl (e.trans t)
 ·exact .inr ⟨c,e.trans b,k.ext d⟩
section
variable {X:Cx}{e body:Expr}{te tb:TE}{x:Str}{names:List Str}{fr:List Nat}{sc:Scope}{params:Arguments}{qual:Str}{p p2 p3 pos lpos kp kp2 bp:Pos}{j:Nat}{b:Bool}{c P:Nat}{k:Nat}
set_option tactic.hygienic true in
def aK0(f8:Gl X AQ)(d9:X.mg AQ=none)(g6:Gl X Ag)(e9:X.mg Ag=none)(he:PE X e te)(S:xO X.N X.env.scope x names fr sc)(f7:sc.isCoroutine=false)(b7:sc.isGenerator=false)
  (a9:X.env.code= .ref c) (C:cJi X.base c P) (hB:X.base.BuiltinsAt X.mg P) (hr:uT (k+1) X.A) (b4:defaultsOf params X.env=([],[])) (hq:X.env.qual++"<lambda>"=qual)
  (hb:∀ (cl:List (Str×Nat))(pm f4 b2 u:cXb),cJI (PySem.W.kla_fn "<lambda>" qual params body sc cl pm f4 b2) ⟨[u],[]⟩=pure [(x,u)])
  (a7:∀A L q cd cl s H,PE (bYT X A (x::names) qual sc L q cd cl s H) body tb) (b1:cXV AQ=some (.builtin AQ):=dk)
  (s2:cXR [e] X.env= [(false,eval e X.env)]:=by rfl):
  PE X (.Call (.Name AQ p) [.Call (.Name Ag p2) [e] [] p3] [⟨some "key",.Lambda params body sc lpos,kp⟩,⟨some "reverse",.Constant (.bool b) j bp,kp2⟩] pos) (bJW te fr tb P lpos qual b):=by
 intro g s σ H Q I h
 refine cZH (aX8 I f8 d9 b1 ?_)
 refine callWith_kw ?_
 show cXi _ _ (spliced ((false,eval (.Call (.Name Ag p2) [e] [] p3) X.env):: [])) _ _ s
 refine Calls.spliced_cons ?_
 refine cZH (aX8 I g6 e9 boot_range ?_)
 refine cVn ?_ s2 rfl
 refine thn (yA he yD s2 p3 g s σ H (λvs H1=>match vs with|[v]=>(∃n:Nat,v= .int n/\n<64/\Q8 lpos qual P H1/\∃kz:Nat->Int×Int,
   (∀i j,i<n->j<n->kz i=kz j->i=j)/\
   (∀i B,i<n->zK H1 B->Q8 lpos qual P B->∀R:VK,(∀a Y,zK B Y->Y P=B P->Y a=some (.tup [.int (kz i).1,.int (kz i).2])->R (.ref a) Y)->tb (sub σ fr (some (.int i))) B R)/\
   ∀H5 l (out:List Nat),zK H1 H5->Q8 lpos qual P H5->H1 l=none->out.Perm (cXm n)->(out.Pairwise λi j=>Stree.vH (if b=true then kz j else kz i) (if b=true then kz i else kz j)=true)->H5 l=some (.lst (out.map λi=> .int (i:Nat)))->Q (.ref l) H5)|_=>False) I h) λus s1 ⟨vs,H1,I1,r1,z⟩=>?_
 match vs,z with
 |[v],⟨n,e2,hn,hT,kz,hinj,hkey,hfin⟩=>
  subst e2;obtain⟨u,rfl,ru⟩:=aQt r1;obtain⟨t,rfl⟩:=ru;refine call_range_1 (Calls.spliced_nil ?_);have fR:=I1.fpOk (b:=s1.heap.objs.size) (cXh _) I1.fresh;have I2:Inv X ((s1.heap.objs.size,{cls:= .type Ag,data:= .fields #[.int 0 s1.toks,.int (n:Int) t,.int 1 (s1.toks+1)] })::g) σ H1 {s1 with heap:=s1.heap.push {cls:= .type Ag,data:= .fields #[.int 0 s1.toks,.int (n:Int) t,.int 1 (s1.toks+1)] },toks:=s1.toks+1+1}:=by
   have I0:Inv X g σ H1 {s1 with heap:=s1.heap.push {cls:= .type Ag,data:= .fields #[.int 0 s1.toks,.int (n:Int) t,.int 1 (s1.toks+1)] },toks:=s1.toks+1+1}:=I1.kept λb o e=>cXg _ e;refine I0.pins_of λq hq=>?_;rcases cXj.mp hq with rfl|hq
   ·exact⟨cXA _ rfl,fR.1,fR.2.1,fR.2.2.1,λv z=>by cases z⟩
   ·exact I0.pin q (cXw _ hq)
  obtain⟨cl,c1,c2,c4⟩:=aVp S I2;refine kws_cons (PySem.W.kla_eval b4 ?_);rw[hq];refine bZw I2 c1 a9 C hB hT λq c' b2 H' s' I3 g7 g4 b0 f0 b6=>?_;refine kws_cons (Constant_bool (kws_nil ?_));show cXi _ _ (call (.builtin AQ) [.ref s1.heap.objs.size] [(cVj "key",.ref q),(cVj "reverse",.bool b)]) _ _ s';have a3:IsRange s'.heap s1.heap.objs.size 0 n 1 s1.toks t (s1.toks+1):=(I3.pin _ (cXw _ (cXp ..))).1;have I4:Inv X g σ H' s':=I3.pins_of λp G=>I3.pin p (cXw _ (cXl _ G));refine Stree.aJV hr.hd a3 hn (ksk_s2 _ _ _) (λx=>ksk_l2 _ _ _) (λx=>ksk_t2 q x b) λa M tk vs hk a1 ha hI=>?_;have a0:vs.length=n:=by rw[hI.length];simp
  have I5:Inv X g σ H' {s' with heap:=M,toks:=tk}:=I4.kept hk;have Z:=I4.fpOk (b:=a) a1 (I4.hok.fresh a1);have c8:a<M.objs.size:=cXq ha;have c3:s'.heap.objs.size<=M.objs.size+1:=cXJ a1 (cJW (cZj c8));have O:=I4.fpOk (b:=M.objs.size+1) c3 (I4.hok.fresh c3);refine Stree.bYB (s:={s' with heap:=M,toks:=tk}) ha (by rw[a0];exact hn) (λe1 w U=>L2.Ez2 λ(B:Hp)(e:Nat)=>Inv X ((a,cXS AC #[] e1)::(M.objs.size+1,cXS AC w.toArray e)::g) σ B U/\zK H' B/\Q8 lpos qual P B/\bVK B kz w) ?h0 ?hget ?hcall ?hend;case h0=>
   intro e1 h2 k2 a2 q2;have I6:Inv X g σ H' {s' with heap:=h2,toks:=tk}:=I5.turned (t':=tk) (h':=h2) (λb o hb e=>k2 b o hb e) Z.1 Z.2.1 Z.2.2.2.1 Z.2.2.2.2.1 Z.2.2.2.2.2;refine⟨H',0,I6.pins_of λp G=>?_,zK.refl _,f0,λi v D=>by simp at D⟩;rcases cXj.mp G with rfl|G
   ·exact⟨a2,Z.1,Z.2.1,Z.2.2.1,λv z=>by cases z⟩
   ·rcases cXj.mp G with rfl|G
    ·exact⟨q2,O.1,O.2.1,O.2.2.1,λv z=>by cases z⟩
    ·exact I6.pin p (cXw _ G)
  case hget=>
   rintro e1 w U ⟨B,e,J,_,_,_⟩;exact⟨⟨e,(J.pin _ (cXw _ (cXl _ (cXp ..)))).1⟩,(J.pin _ (cXw _ (cXp ..))).1⟩
  case hcall=>
   rintro e1 w U v ⟨B,e,J,k3,t3,z3⟩ D;have F:w.length<n:=by
    rcases cVg w.length vs.length with h|h
    ·omega
    ·rw[cXM h]at D;cases D
   obtain⟨t',rfl⟩:∃t',v=Value.int (w.length:Nat) t':=by
    have r:=jI hI;have e3:((((cXm n).map Int.ofNat)).map V.int)[w.length]? =some (V.int (w.length:Nat)):=by simp[F]
    obtain⟨u,hu,ru⟩:=r.get e3;rw[D]at hu;cases hu;exact ru
   have d6:U.heap.get? q=some (cJn "<lambda>" qual params body sc cl ((X.mg Ae).getD .none) c' b2):=(J.hok q _ (k3.ext g4)).1;have b8:U.heap.CodeRec (.ref c') qual:=(J.hok c' _ (k3.ext b0)).1;refine cZh (bZv (A:=X.A.in1.in1) J I.ok.frames hr.hd (by have:=hr.dp;show X.A.depth<_;omega) S f7 b7 c2 c4 d6 b8 (λu=>hb cl _ _ _ u) (λA L cd s H=>a7 A L q cd cl s H) (v:= .int (w.length:Nat)) ⟨t',rfl⟩ (Q:=λv Y=>∃a4,v= .ref a4/\zK B Y/\Y P=B P/\Y a4=some (.tup [.int (kz w.length).1,.int (kz w.length).2])) (hkey w.length B F (b6.trans k3) t3 _ λa4 Y k4 p4 e4=>⟨a4,Ce,k4,p4,e4⟩)) (λkv s4 e7=>?_) λ_ _ x=>x;obtain⟨v4,Y,J4,f9,a4,rfl,k4,p4,e4⟩:=e7;cases f9;refine⟨⟨e,(J4.pin _ (cXw _ (cXl _ (cXp ..)))).1⟩,λh5 c5 sb e5=>?_⟩;have d4:Inv X g σ Y s4:=J4.pins_of λp G=>J4.pin p (cXw _ (cXl _ (cXl _ G)));have pa:=J4.pin _ (cXw _ (cXp ..));have pk:=J4.pin _ (cXw _ (cXl _ (cXp ..)));have J5:Inv X g σ Y {s4 with heap:=h5,toks:=s4.toks}:=d4.turned (t':=s4.toks) (h':=h5) (it:=M.objs.size+1) (λb o hb e=>(sb.2 b hb).trans e) pk.2.1 O.2.1 O.2.2.2.1 O.2.2.2.2.1 O.2.2.2.2.2;refine⟨Y,c5,J5.pins_of λp G=>?_,k3.trans k4,t3.keep k4 p4,λi v D=>?_⟩
   ·rcases cXj.mp G with rfl|G
    ·exact⟨(sb.2 _ (cXx (cZj c8))).trans pa.1,pa.2⟩
    ·rcases cXj.mp G with rfl|G
     ·exact⟨e5,pk.2.1,O.2.1,O.2.2.1,λv z=>by cases z⟩
     ·exact J5.pin p (cXw _ G)
   ·by_cases f5:i<w.length
    ·rw[cXU f5]at D;obtain⟨a6,e6,h6⟩:=z3 i v D;exact⟨a6,e6,k4.tup h6⟩
    ·rw[cXz (by omega)]at D;have:i - w.length=0:=by
      rcases cVg (i - w.length) 1 with h|h
      ·omega
      ·rw[cXM (by simpa using h)]at D;cases D
     have ei:i=w.length:=by omega
     subst ei;simp at D;exact⟨a4,D.symm,e4⟩
  case hend=>
   rintro e1 w U ⟨B,e,J,k3,t3,z3⟩ hl;have J':Inv X g σ B U:=J.pins_of λp G=>J.pin p (cXw _ (cXl _ (cXl _ G)));have b5:w.length=n:=by omega
   obtain⟨r,d7,c7⟩:=Stree.aVJ (n:=n) (λi j=>Stree.vH (kz (ixb b n i)) (kz (ixb b n j))) (λi _=>Stree.vX _) (λi j k _ _ _ M h2=>Stree.aZz M h2)
    (λi j F hj e8=>Stree.aZy λz=>e8 (bWa F hj (hinj _ _ (aJu F) (aJu hj) z)))
   have ob:∀i,i<n->∃a o t1 t2 m,w.getD i Value.none= .ref a/\U.heap.get? a=some o/\o.cls= .type AE/\o.data= .seq #[.int (kz i).1 t1,.int (kz i).2 t2] m:=λi F=>by obtain⟨a6,e6,h6⟩:=z3 i (w.getD i Value.none) (by simp[cXW,cQ9 (show i<w.length by omega)]);obtain⟨g8,rv,pl,_⟩:=J'.tuple (Cd h6);obtain⟨u1,u2,rfl,r1,r2⟩:=zD.two rv;obtain⟨t1,rfl⟩:=r1;obtain⟨t2,rfl⟩:=r2;obtain⟨o,g1,g2,m,g3⟩:=pl;exact⟨a6,o,t1,t2,m,e6,g1,g2,g3⟩
   refine⟨r,by rw[a0];exact d7,λ_=>⟨tuples' true,λQ' d8=>?_,λi j C' F hj hC=>?_⟩,λp h5 c5 c6 a5 f6 k5 g5 o5=>?_⟩
   ·have b3:∀ (l:List cXb)(k:Nat),(∀ (i:Nat)(v:cXb),l[i]? =some v->∃a o t1 t2 m x y,v=Value.ref a/\U.heap.get? a=some o/\o.cls= .type AE/\o.data= .seq #[.int x t1,.int y t2] m)->
      ∃fs,cWQ U.heap l fs/\fs.length=l.length/\∀f∈fs,∃x t,f=Value.int x t:=by
     intro l
     induction l with
     |nil=>intro _ _;exact⟨[],trivial,Ce,λf hf=>by cases hf⟩
     |cons v l ih=>
      intro k D;obtain⟨a,o,t1,t2,m,x,y,rfl,g1,g2,g3⟩:=D 0 v rfl;obtain⟨fs,f1,f2,f3⟩:=ih (k+1) λi v h=>D (i+1) v h;refine⟨.int x t1::fs,cWg g1 g2 g3 rfl f1,by simp[f2],λf hf=>?_⟩;rcases cXj.mp hf with rfl|hf
      ·exact⟨x,t1,rfl⟩
      ·exact f3 f hf
    obtain⟨fs,f1,f2,f3⟩:=b3 w 0 λi v D=>by
     have F:i<n:=by
      rcases cVg i w.length with h|h
      ·omega
      ·rw[cXM h]at D;cases D
     obtain⟨a,o,t1,t2,m,g0,g1,g2,g3⟩:=ob i F;have:w.getD i Value.none=v:=by simp[cXW,D]
     rw[this]at g0;exact⟨a,o,t1,t2,m,_,_,g0,g1,g2,g3⟩
    refine PySem.W.kat_kind (T:= .type As) f1 (by omega) (λv D=>?_) rfl d8;obtain⟨x,t,rfl⟩:=f3 v D;exact .now
   ·rw[a0]at F hj;obtain⟨ai,oi,t1,t2,m1,g0,g1,g2,g3⟩:=ob _ (aJu (b:=b) F);obtain⟨aj,oj,t3,t4,m2,d0,d1,d2,d3⟩:=ob _ (aJu (b:=b) hj);show cXi _ _ (keyLt' _ ((cZr b w).getD i Value.none) ((cZr b w).getD j Value.none)) _ _ _;rw[aZK b5 F,aZK b5 hj,g0,d0];refine Stree.bQi g1 g3 d1 d3 ?_;have:=c7 i j F hj;rw[this]at hC;exact hC
   ·rw[a0]at a5;obtain⟨q1,q2⟩:=bYd a5 f6 c7;have hm:∀i∈p,i<n:=λi F=>cXI.mp (a5.mem_iff.mp F);have vv:∀l:List Nat,(∀i∈l,i<n)->zD ((l.map (ixb b n)).map λi=>V.int (i:Nat)) (l.map λi=>(cZr b vs).getD i Value.none):=by
     intro l;induction l with
     |nil=>intro _;exact .nil
     |cons i l ih=>
      intro h;refine .cons ?_ (ih λj hj=>h j (cXl _ hj));have F:=h i cXp;show wG (V.int (ixb b n i:Nat)) ((cZr b vs).getD i Value.none);rw[aZK a0 F];have hx:=aJu (b:=b) F;have e3:((((cXm n).map Int.ofNat)).map V.int)[ixb b n i]? =some (V.int (ixb b n i:Nat)):=by simp[hx]
      obtain⟨u,hu,ru⟩:=(jI hI).get e3;have:vs.getD (ixb b n i) Value.none=u:=by simp[cXW,hu]
      rw[this];exact ru
    have v2:=vv p hm;have v3:zD ((cZr b (p.map (ixb b n))).map λi=>V.int (i:Nat)) (cZr b (p.map λi=>(cZr b vs).getD i Value.none)):=by
     unfold cZr at v2 ⊢;split
     ·rw[List.map_reverse];rename_i a8;simp only[a8]at v2 ⊢;exact v2.reverse
     ·rename_i a8;simp only[a8]at v2 ⊢;exact v2
    have na:B a=none:=(J.pin _ (cXw _ (cXp ..))).2.1;have nk:B (M.objs.size+1)=none:=(J.pin _ (cXw _ (cXl _ (cXp ..)))).2.1;have b9:(cZr b (p.map (ixb b n))).length=n:=by rw[q1.length_eq,cX1]
    have d5:Inv X g σ (upd B a (.lst ((cZr b (p.map (ixb b n))).map λi=>V.int (i:Nat)))) {U with heap:=h5,gens:=U.gens,drawn:=U.drawn,toks:=U.toks}:=by
     have K:∀d,d∉ [a,M.objs.size+1]->d≠a/\d≠M.objs.size+1:=λd E=>⟨λz=>E (by simp[z]),λz=>E (by simp[z])⟩;refine J'.step (ch:= [a,M.objs.size+1]) (λd E=>?_) (λd o _ _ E e _=>?_) (λd o _ _ E e _=>?_) (λd o E e n=>?_) (λd o E e=>?_) (λd xs e=>?_) (λd o u e=>?_) (λd qs e=>?_) (λm c9=>?_) (λd u e=>?_) J'.bare
     ·rcases cXj.mp E with rfl|E
      ·exact⟨Z.2.2.2.1,Z.2.1,Z.2.2.2.2.1,Z.2.2.2.2.2⟩
      ·rw[cXo.mp E];exact⟨O.2.2.2.1,O.2.1,O.2.2.2.2.1,O.2.2.2.2.2⟩
     ·exact(k5 d (K d E).1 (K d E).2).trans e
     ·exact⟨o.slots,(k5 d (K d E).1 (K d E).2).trans e⟩
     ·rw[yJ (K d E).1];exact n
     ·exact⟨o,(k5 d (K d E).1 (K d E).2).trans e⟩
     ·rw[yJ (yI e na)];exact e
     ·rw[yJ (yI e na)];exact e
     ·exact⟨#[],by rw[yJ (yI e na),e];simp⟩
     ·obtain⟨o,es,ep,ho,r⟩:=c9;exact⟨o,es,ep,(k5 _ (cXT Z.2.1) (cXT O.2.1)).trans ho,r⟩
     ·by_cases E:d=a
      ·subst E;rw[yB]at e;cases e;exact⟨by rw[cXe,b9,cXC];omega,_,c6,v3,o5⟩
      ·rw[yJ E]at e;refine(J'.hok d u e).stay (λc v hc q=>?_) (λc q=>by rw[yJ (yI q na)];exact q) λc xs q=>by rw[yJ (yI q na)];exact q
       have b0:c≠a:=by
        rcases hc with rfl|hc
        ·exact E
        ·exact yI hc na
       have e0:c≠M.objs.size+1:=by
        rcases hc with rfl|hc
        ·exact yI e nk
        ·exact yI hc nk
       exact(k5 c b0 e0).trans q
    have c0:=yE na (.lst ((cZr b (p.map (ixb b n))).map λi=>V.int (i:Nat)));have hP:upd B a (.lst ((cZr b (p.map (ixb b n))).map λi=>V.int (i:Nat))) P=B P:=by
     rcases t3 with t|⟨_,t,_⟩
     ·rw[yJ (yI t na)]
     ·rw[yJ (yI t na)]
    have nl:H1 a=none:=by
     cases hz:H1 a with
     |none=>rfl
     |some o=>exact absurd (I1.hok.lt hz) (Nat.not_lt.mpr (cXJ (cJW (cXq a3)) a1))
    exact⟨rfl,.ref a,_,d5,Ce,hfin _ a _ (b6.trans (k3.trans c0.t)) (t3.keep c0.t hP) nl q1 q2 yB⟩
end
end L2
namespace Stree
open PySem PySem.W PySem.Calls PyProof.Rows
open PySem.SeqAt
open PySem.AutoSeq1 (wpAny_loadPart')
open PySem.MeetsSeq PySem.MeetsSeq2 PySem.MeetsSeq3
def aQE{α:Type} [DecidableEq α] (lt:α->α->Bool):List α->List α->Bool
 |[],[]=>false
 |[],_::_=>true
 |_::_,[]=>false
 |x::xs,y::ys=>if x=y then aQE lt xs ys else lt x y
def bQg{α:Type} [DecidableEq α] {lt:α->α->Bool}(x y:α)(xs ys:List α):aQE lt (x::xs) (y::ys)=if x=y then aQE lt xs ys else lt x y:=rfl
def aJ3{α:Type} [DecidableEq α] {lt:α->α->Bool}{rep:α->cXb->Prop}(l b:Nat)(items items2:Array cXb)(n U:Nat)(P C:Option Nat)(V H:Array (Option cXb))(xs ys:List α)(O:cXZ rep xs items.toList)(N:cXZ rep ys items2.toList): Meets (cZZ.«tuple.__lt__» ⟨[.ref l,.ref b],[]⟩) (λA R s=>s.heap.get? l=some {cls:= .type AE,dict:=P,data:= .seq items n,slots:=V}/\s.heap.get? b=some {cls:= .type AE,dict:=C,data:= .seq items2 U,slots:=H}/\ (∀x y u v,rep x u->rep y v->EqAt A.in1 s u v (decide (x=y)))/\(∀x y u v,x≠y->rep x u->rep y v->∀ (prog:cXB)(w:cXN)(E:cXb->cXd->Prop)(Q:cXb->cXd->Prop),Q (.bool (lt x y)) s->cXi (cXk prog w) A.in1 (richCompare .Lt u v) Q E s)/\ R (.ok (.ret (.bool (aQE lt xs ys)))) s):=
 .of_wp λprog w A R s h=>by
  obtain⟨M,g,d,tk,K⟩:=s;obtain⟨hl,X,J,G,h⟩:=h;have f2:=AutoSeq1.sub_tuple_tuple;have z1:items.size=xs.length:=by have:=O.length;simpa using this.symm
  have z2:items2.size=ys.length:=by have:=N.length;simpa using this.symm
  wp_walk using wpAny_loadPart' hl,wpAny_loadPart' X,wpAny_forIn_list _ (λZ0 b F=>b.1=none/\F=⟨M,g,d,tk,K⟩/\∃ (B z:List cXb)(i j:List α),Z0=B.zip z/\
   cXZ rep i B/\cXZ rep j z/\i.length+items2.size=j.length+items.size/\R (.ok (.ret (.bool (aQE lt i j)))) ⟨M,g,d,tk,K⟩) _
  case turn=>
   rintro⟨y,x⟩ Z0 b F ⟨p,rfl,B,z,i,j,k,o,m,f,hR⟩;cases o with
   |nil=>rw[List.zip_nil_left]at k;cases k
   |@cons a y' W S D r=>
    cases m with
    |nil=>rw[List.zip_nil_right]at k;cases k
    |@cons c Z Y T t q=>
     rw[List.zip_cons_cons]at k;injection k with hyx hrest
     injection hyx with hy hx
     subst hy hx;rw[bQg]at hR;simp only[cZb]at f;refine cXa (J a c _ _ D t prog w _ _ ?_);by_cases e:a=c
     ·rw[if_pos e]at hR;rw[decide_eq_true e];wp_walk;exact⟨rfl,Ce,_,_,_,_,hrest,r,q,by omega,hR⟩
     ·rw[if_neg e]at hR;rw[decide_eq_false e];have I:=G a c _ _ e D t prog w;wp_walk using I;exact⟨_,Ce,by simpa using hR⟩
  case fin=>
   rintro⟨b1,b2⟩ F ⟨p,rfl,B,z,i,j,k,o,m,f,hR⟩;simp only at p;subst p;have L:aQE lt i j=decide (items.size<items2.size):=by
    cases o with
    |nil=>
     cases m with
     |nil=>simp only[cJl]at f;exact(decide_eq_false (by omega)).symm
     |cons t hw=>simp only[cJl,cZb]at f;exact(decide_eq_true (by omega)).symm
    |cons D L=>
     cases m with
     |nil=>simp only[cJl,cZb]at f;exact(decide_eq_false (by omega)).symm
     |cons t hw=>rw[List.zip_cons_cons]at k;cases k
   rw[L]at hR;wp_walk;exact⟨_,Ce,by simpa[Builtin.Tuple.tupleCompareSizes]using hR⟩
  case h=>
   exact⟨rfl,Ce,items.toList,items2.toList,xs,ys,Ce,O,N,by omega,h⟩
section
variable {A:cX8}{s:cXd}{α:Type} [DecidableEq α] {lt:α->α->Bool}{rep:α->cXb->Prop}{l b:Nat}{items items2:List cXb}{xs ys:List α}
def bKD(A:cX8)(s:cXd)(u v:cXb)(c:Bool):Prop:=∀ (prog:cXB)(w:cXN)(E:cXb->cXd->Prop)(Q:cXb->cXd->Prop),Q (.bool c) s->cXi (cXk prog w) A (richCompare .Lt u v) Q E s
def bVm(hl:cJ8 s.heap l items.toArray)(B:cJ8 s.heap b items2.toArray)(D:cXZ rep xs items)(C:cXZ rep ys items2)(z:A.units<cLine)
  (j:∀x y u v,rep x u->rep y v->EqAt A.in1 s u v (decide (x=y))) (g:∀x y u v,x≠y->rep x u->rep y v->bKD A.in1 s u v (lt x y)):bKD A s (.ref l) (.ref b) (aQE lt xs ys):=λprog w E Q h=>by
 obtain⟨⟨cls,q,data,t⟩,k,o,n,m⟩:=id hl
 obtain⟨⟨p,e,f,i⟩,d,c,r,a⟩:=id B
 simp only at o m c a
 subst o m c a
 exact richCompare_meets_room (op:= .Lt) ⟨_,k,rfl⟩ ⟨_,d,rfl⟩ PySem.F.slot_tuple_lt PySem.F.entry_tuple_lt (PySem.F.args_tuple_lt_2 _ _) (aJ3 (lt:=lt) l b items.toArray items2.toArray n r q e t i xs ys D C)
  ⟨k,d,j,g,show Value.bool (aQE lt xs ys)≠Value.notImplemented/\Q (.bool (aQE lt xs ys)) s from⟨(λx=>nomatch x),h⟩⟩ z
def bKJ:∀ {xs ys:List α},((cXm (min xs.length ys.length)).all (λj=>decide (xs[j]? =ys[j]?)) && xs.length==ys.length)=decide (xs=ys):=by
 intro xs ys;rw[Bool.eq_iff_iff];simp only[Bool.and_eq_true,cVs,cXI,decide_eq_true_eq,beq_iff_eq];constructor
 ·rintro⟨a,b⟩;apply cJp;intro i;by_cases c:i<xs.length
  ·exact a i (by omega)
  ·rw[cXM (by omega),cXM (by omega)]
 ·rintro rfl;exact⟨λ_ _=>rfl,rfl⟩
theorem aQj{rep:α->cXb->Prop}:∀ {xs:List α} {us:List cXb} {i:Nat} {u:cXb},cXZ rep xs us->us[i]? =some u->∃x,xs[i]? =some x/\rep x u
 |_,_,0,_,.cons r _,h=>by simp at h;subst h;exact⟨_,Ce,r⟩
 |_,_,i+1,_,.cons _ t,h=>by simpa using aQj (i:=i) t (by simpa using h)
 |_,_,i,_,.nil,h=>by simp at h
theorem aQi{rep:α->cXb->Prop}(a:∀x y u,rep x u->rep y u->x=y):∀ {xs ys:List α} {us:List cXb},cXZ rep xs us->cXZ rep ys us->xs=ys
 |_,_,_,.nil,.nil=>rfl
 |_,_,_,.cons r t,.cons r' t'=>by rw[a _ _ _ r r',aQi a t t']
def bVj(hl:cJ8 s.heap l items.toArray)(m:cJ8 s.heap b items2.toArray)(g:cXZ rep xs items)(c:cXZ rep ys items2)(E:A.units<cLine)(B:∀x y u,rep x u->rep y u->x=y) (h:∀x y u v,rep x u->rep y v->EqAt A.in1 s u v (decide (x=y))):EqAt A s (.ref l) (.ref b) (decide (xs=ys)):=by
 by_cases e:l=b
 ·subst e;obtain⟨o,a,_,n,f⟩:=hl;obtain⟨G,i,_,H,k⟩:=m;rw[a]at i;cases i;rw[f]at k;have d:items=items2:=by
   have:items.toArray=items2.toArray:=by injection k
   simpa using congrArg Array.toList this
  subst d;rw[decide_eq_true (aQi B g c)];exact EqAt.same _
 ·refine EqAt.of_refs e ?_;have z:=RcAt.tuples (A:=A) (s:=s) (e:=λj=>decide (xs[j]? =ys[j]?)) (show s.heap.IsTuple l items.toArray from hl) (show s.heap.IsTuple b items2.toArray from m) E λj a f=>?_
  ·have r:items.toArray.size=xs.length:=by rw[cXt];exact g.length.symm
   have d:items2.toArray.size=ys.length:=by rw[cXt];exact c.length.symm
   rw[r,d,bKJ]at z;exact z
  ·have p:items[j]? =some items[j]:=cQ9 (by simpa using a);have F:items2[j]? =some items2[j]:=cQ9 (by simpa using f);obtain⟨x,w,t⟩:=aQj g p;obtain⟨y,C,D⟩:=aQj c F;have q:=h x y _ _ t D;show EqAt A.in1 s items[j] items2[j] (decide (xs[j]? =ys[j]?));rw[w,C];have:decide (some x=some y)=decide (x=y):=by simp
   rw[this];exact q
end
def bWP(i:Int)(u:cXb):Prop:=∃t,u= .int i t
def rep2(h:Heap)(p:Int×Int)(u:cXb):Prop:=∃a b,u= .ref a/\cJ8 h a b.toArray/\cXZ bWP [p.1,p.2] b
def rep3(h:Heap)(c:List (Int×Int))(u:cXb):Prop:=∃a b,u= .ref a/\cJ8 h a b.toArray/\cXZ (rep2 h) c b
def aWD(x y:Int)(u:cXb)(b:bWP x u)(a:bWP y u):x=y:=by
 obtain⟨t,rfl⟩:=b;obtain⟨c,e⟩:=a;cases e;rfl
def bJ4{h:Heap}{a:Nat}{i j:List cXb}(g:cJ8 h a i.toArray)(d:cJ8 h a j.toArray):i=j:=by
 obtain⟨o,e,_,n,f⟩:=g;obtain⟨l,c,_,k,b⟩:=d;rw[e]at c;cases c;rw[f]at b;have:i.toArray=j.toArray:=by injection b
 simpa using congrArg Array.toList this
def bJp{h:Heap}(x y:Int×Int)(u:cXb)(k:rep2 h x u)(d:rep2 h y u):x=y:=by
 obtain⟨a,i,rfl,c,b⟩:=k;obtain⟨l,j,e,f,g⟩:=d;cases e;rw[bJ4 c f]at b;have:=aQi aWD b g;injection this with e1 e2;injection e2 with e2 _;exact Prod.ext e1 e2
section
variable {A:cX8}{s:cXd}
def eq1(x y:Int)(u v:cXb)(b:bWP x u)(a:bWP y v):EqAt A s u v (decide (x=y)):=by
 obtain⟨t,rfl⟩:=b;obtain⟨c,rfl⟩:=a;have:decide (x=y)=(x==y):=by rw[Bool.eq_iff_iff];simp
 rw[this];exact EqAt.int_int x t y c
def lt1(x y:Int)(u v:cXb)(b:x≠y)(c:bWP x u)(a:bWP y v):bKD A s u v (decide (x<y)):=by
 obtain⟨t,rfl⟩:=c;obtain⟨d,rfl⟩:=a;exact λprog w E Q h=>HT.bJo A s x t y d prog w E Q h
def eq2(k:A.units<cLine)(x y:Int×Int)(u v:cXb)(g:rep2 s.heap x u)(d:rep2 s.heap y v):EqAt A s u v (decide (x=y)):=by
 obtain⟨a,i,rfl,c,h⟩:=g;obtain⟨b,j,rfl,l,f⟩:=d;have z:=bVj c l h f k aWD λx y u v=>eq1 x y u v;have:decide ([x.1,x.2]= [y.1,y.2])=decide (x=y):=by
  rw[Bool.eq_iff_iff,decide_eq_true_eq,decide_eq_true_eq];constructor
  ·intro e;injection e with e1 e2;injection e2 with e2 _;exact Prod.ext e1 e2
  ·rintro rfl;rfl
 rw[this]at z;exact z
def bQf(x y:Int×Int):aQE (λa b:Int=>decide (a<b)) [x.1,x.2] [y.1,y.2]=vH x y:=by
 unfold vH aQE aQE aQE;by_cases c:x.1=y.1
 ·by_cases d:x.2=y.2<;> simp[c,d]
 ·simp[c]
def lt2(k:A.units<cLine)(x y:Int×Int)(u v:cXb)(f:x≠y)(g:rep2 s.heap x u)(d:rep2 s.heap y v):bKD A s u v (vH x y):=by
 obtain⟨a,i,rfl,c,h⟩:=g;obtain⟨b,j,rfl,l,e⟩:=d;have z:=bVm (lt:=λa b:Int=>decide (a<b)) c l h e k (λx y u v=>eq1 x y u v) (λx y u v=>lt1 x y u v);rw[bQf]at z;exact z
def eq3(h:A.units+1<cLine)(x y:List (Int×Int))(u v:cXb)(f:rep3 s.heap x u)(d:rep3 s.heap y v):EqAt A s u v (decide (x=y)):=by
 obtain⟨a,i,rfl,c,g⟩:=f;obtain⟨b,j,rfl,k,e⟩:=d;exact bVj c k g e (by omega) bJp λx y u v=>eq2 (A:=A.in1) h x y u v
def lt3(c:A.units+1<cLine)(x y:List (Int×Int))(u v:cXb)(g:x≠y)(h:rep3 s.heap x u)(e:rep3 s.heap y v):bKD A s u v (aQE vH x y):=by
 obtain⟨a,i,rfl,d,k⟩:=h;obtain⟨b,j,rfl,l,f⟩:=e;exact bVm d l k f (by omega) (λx y u v=>eq2 (A:=A.in1) c x y u v) (λx y u v=>lt2 (A:=A.in1) c x y u v)
end
section
variable {prog:cXB}{w:cXN}{A:cX8}{E:cXb->cXd->Prop}{s:cXd}
def bWj{n k:Nat}{Q:Bool->cXd->Prop}(l:A.units+1<cLine)(o:s.heap.get? x=some g)(dx:g.data= .seq #[u,.int i z] n)(p:s.heap.get? y=some f)(t:f.data= .seq #[v,.int j q] k) (d:rep3 s.heap a u) (m:rep3 s.heap c v) (b:a=c->i=j) (h:Q (decide (a≠c) && aQE vH a c) s):cXi (cXk prog w) A (keyLt' (tuples' false) (.ref x) (.ref y)) Q E s:=by
 refine kat_lt o dx p t ?_;refine kat_cons (eq3 l a c u v d m prog w _ _ ?_);by_cases e:a=c
 ·rw[decide_eq_true e];refine kat_yes (kat_cons (aVj ?_));rw[beq_iff_eq.mpr (b e)];refine kat_yes (kat_nil ?_);simpa[e]using h
 ·rw[decide_eq_false e];have r:Q (aQE vH a c) s:=by simpa[e]using h
  exact kat_no (kat_one _ _ (lt3 l a c u v e d m prog w _ _ r))
def aJT{P:PySem.Fin->cXd->Prop}(H:s.heap.get? a=some (cXS AC vs.toArray Y))(M:vs.length<64)(r:Nat->Int)(Z:Inj vs.length r) (D:2<=vs.length->∃κ,∀f,(∀c o,c≠a->s.heap.get? c=some o->f.get? c=some o)->(∀Q:SortKind->cXd->Prop,Q κ {s with heap:=f}->cXi (cXk prog w) A (keyKind' vs.toArray) Q (λ_ _=>False) {s with heap:=f})/\ ∀i j C,i<vs.length->j<vs.length->C (decide (r i<r j)) {s with heap:=f}->kas_ask prog w A κ vs i j C {s with heap:=f}) (y:∀ (p:List Nat) f c,p.Perm (cXm vs.length)->p.Pairwise (λi j=>r i<r j)->(∀d o,d≠a->s.heap.get? d=some o->f.get? d=some o)->f.get? a=some (cXS AC (p.map λi=>vs.getD i Value.none).toArray c)->P (.done (.ret .none)) {s with heap:=f}): cXi (cXk prog w) A (cZZ.«list.sort» ⟨[.ref a],[]⟩) P E s:=by
 have ha:a<s.heap.objs.size:=cXq H;obtain⟨t,F⟩:∃t,(s.heap.update a (cXY λ_=>(#[]:Array cXb))).get? a=some (cXS AC #[] t):=⟨_,cVa H λ_=> #[]⟩;rw[list_sort_plain];refine cXa (listItems_at H rfl ?_);refine cXa (cVA H rfl ?_ (by rw[cXt,cXC];omega) (cZc _));refine cXa (seqEpoch_at F rfl ?_);refine cXa (wpAny_newTuple ?_ (by show vs.length<=_;rw[cXC];omega));refine cXa (cJ6 ?_ (cZc _));refine cZt ?_;have N:∀c o,c≠a->s.heap.get? c=some o->(((s.heap.update a (cXY λ_=>(#[]:Array cXb))).push (cXS AE vs.toArray 0)).push (cXS AC #[] 0)).get? c=some o:=λc o hc e=>
  cXg _ (cXg _ ((cXL _ _ (cXT hc)).trans e))
 have I:(((s.heap.update a (cXY λ_=>(#[]:Array cXb))).push (cXS AE vs.toArray 0)).push (cXS AC #[] 0)).get? a=some (cXS AC #[] t):=cXg _ (cXg _ F);show cXi (cXk prog w) A _ P E {s with heap:=((s.heap.update a (cXY λ_=>(#[]:Array cXb))).push (cXS AE vs.toArray 0)).push (cXS AC #[] 0) };generalize ((s.heap.update a (cXY λ_=>(#[]:Array cXb))).push (cXS AE vs.toArray 0)).push (cXS AC #[] 0)=h1 at N I ⊢;dsimp only;have l:∀ (B:SortSt)(p:List Nat),p.Perm (cXm vs.length)->p.Pairwise (λi j=>r i<r j)->(arrOf B).map (·.2)=cZm (p.map λi=>vs.getD i Value.none)->failedOf B=none->
   cXi (cXk prog w) A (do
    let b:=(<- seqEpoch a) !=t
    Builtin.List.listUpdate (.ref a) λ_=>(arrOf B).map (·.2)
    if let some e:=failedOf B then rule "list.sort.comparison-raised";throw e
    if b then rule "list.sort.modified";raiseError "ValueError" "list modified during sort"
    ret .none) P E {s with heap:=h1}:=by
  intro B p g n u O
  have T:p.length=vs.length:=by rw[g.length_eq,cX1]
  rw[u]
  obtain⟨L,R⟩:∃L,(h1.update a (cXY λ_=>cZm (p.map λi=>vs.getD i Value.none))).get? a=some (cXS AC (cZm (p.map λi=>vs.getD i Value.none)) L):=⟨_,cVa I λ_=>cZm (p.map λi=>vs.getD i Value.none)⟩
  have U:(cZm (p.map λi=>vs.getD i Value.none)).size=vs.length:=by rw[cXt,cXe,T]
  refine cXa (seqEpoch_at I rfl ?_)
  refine cXa (cVA I rfl ?_ (cZc _) (cXJ (cJV U) (by rw[cXC];omega)))
  rw[O]
  simp only[bne_self_eq_false,Bool.false_eq_true,if_false]
  exact cXf (y p _ L g n (λd o V e=>(cXL _ _ (cXT V)).trans (N d o V e)) R)
 by_cases q:vs.toArray.size<2
 ·rw[if_pos q,if_pos q];refine cXa (cXf ?_);refine cXa (cXf ?_);have m:vs.length<2:=by rw[cXt]at q;exact q
  refine l (SortSt.mk' general' (vs.toArray.zip vs.toArray) #[] 7 none) (cXm vs.length) (List.Perm.refl _) ?_ ?_ rfl
  ·rw[cJP];intro i j J hj a0;rw[cX1]at J hj;omega
  ·show((cZm vs).zip (cZm vs)).map (·.2)=_;apply Array.toList_inj.mp;rw[Array.toList_map,Array.toList_zip];simp only[cWq];have t:(cVK vs vs).map (·.2)=vs:=List.map_snd_zip (cXh _);rw[t];apply cJp;intro i;rw[cXu];by_cases J:i<vs.length
   ·rw[cJe J];simp[cXW,cQ9 J]
   ·rw[cXM (by omega),cXM (by rw[cX1];omega)];rfl
 ·have m:2<=vs.length:=by rw[cXt]at q;omega
  rw[if_neg q,if_neg q];obtain⟨κ,hκ⟩:=D m;obtain⟨hκ,G⟩:=hκ h1 N;refine cXa (cZh (hκ (λk v=>k=κ/\v= {s with heap:=h1}) ⟨rfl,rfl⟩) (λk v X=>?_) λ_ _ x=>x.elim);obtain⟨rfl,rfl⟩:=X;have K:(kas_sort vs.length).kasWp (kas_ask prog w A k vs) (λp z=>z= {s with heap:=h1}/\p.toList.Perm (cXm vs.length)/\p.toList.Pairwise (λi j=>r i<r j)) {s with heap:=h1}:=
   Asks.wp (lt:=aQF r) G (aJU Z (by omega)) λp hp=>⟨rfl,hp⟩
  refine cXa (cZh (kat_run (Q:=λh z=>∃p:Array Nat,arrOf h=p.map (kas_item (vs.toArray.zip vs.toArray))/\failedOf h=none/\
    z= {s with heap:=h1}/\p.toList.Perm (cXm vs.length)/\p.toList.Pairwise (λi j=>r i<r j))
   rfl m M (λp' h z a1 W a3 a4=>⟨p',W,a3,a4⟩) K) ?_ λ_ _ x=>x)
  rintro⟨⟨⟩,h⟩ z ⟨p,S,O,rfl,g,n⟩;dsimp only;exact l _ p.toList g n (kat_snds rfl S) O
end
end Stree
namespace Stree
open PySem PySem.W PySem.Calls PyProof.Rows
abbrev aQu:=List (Int×Int)
abbrev qW:aQu->aQu->Bool:=aQE vH
def vY:∀a:aQu,qW a a=false
 |[]=>rfl
 |x::r=>by show(if x=x then aQE vH r r else vH x x)=false;rw[if_pos rfl];exact vY r
theorem aQf:∀ {a b c:aQu},qW a b=true->qW b c=true->qW a c=true
 |[],[],_,h,_=>by cases h
 |[],_::_,[],_,h=>by cases h
 |[],_::_,_::_,_,_=>rfl
 |_::_,[],_,h,_=>by cases h
 |_::_,_::_,[],_,h=>by cases h
 |x::a,y::b,z::c,h1,h2=>by
  have f:(if x=y then aQE vH a b else vH x y)=true:=h1;have d:(if y=z then aQE vH b c else vH y z)=true:=h2;show(if x=z then aQE vH a c else vH x z)=true;by_cases i:x=y
  ·rw[if_pos i]at f;subst i;by_cases g:x=z
   ·rw[if_pos g]at d ⊢;exact aQf f d
   ·rw[if_neg g]at d ⊢;exact d
  ·rw[if_neg i]at f;by_cases g:y=z
   ·rw[if_pos g]at d;subst g;rw[if_neg i];exact f
   ·rw[if_neg g]at d;have j:=aZz f d;have:x≠z:=λe=>by rw[e,vX]at j;cases j
    rw[if_neg this];exact j
theorem aZA:∀ {a b:aQu},a≠b->qW a b=true\/qW b a=true
 |[],[],h=>absurd rfl h
 |[],_::_,_=> .inl rfl
 |_::_,[],_=> .inr rfl
 |x::a,y::b,h=>by
  show(if x=y then aQE vH a b else vH x y)=true\/(if y=x then aQE vH b a else vH y x)=true;by_cases e:x=y
  ·subst e;rw[if_pos rfl,if_pos rfl];exact aZA λz=>h (by rw[z])
  ·rw[if_neg e,if_neg (cXT e)];exact aZy e
theorem aWq:∀ (a:aQu) {b:aQu},b≠ []->qW a (a++b)=true
 |[],[],h=>absurd rfl h
 |[],_::_,_=>rfl
 |x::a,b,h=>by show(if x=x then aQE vH a (a++b)else _)=true;rw[if_pos rfl];exact aWq a h
theorem aJz:∀ (a:aQu) {x y:Int×Int} {b c:aQu},vH x y=true->qW (a++x::b) (a++y::c)=true
 |[],x,y,b,c,h=>by
  show(if x=y then aQE vH b c else vH x y)=true;have:x≠y:=λe=>by rw[e,vX]at h;cases h
  rw[if_neg this];exact h
 |z::a,x,y,b,c,h=>by show(if z=z then aQE vH (a++x::b) (a++y::c)else _)=true;rw[if_pos rfl];exact aJz a h
theorem uniq{α:Type}{lt:α->α->Prop}(d:∀a,¬lt a a)(j:∀a b c,lt a b->lt b c->lt a c):∀ {l m:List α},l.Pairwise lt->m.Pairwise lt->(∀a,a∈l↔a∈m)->l=m
 |[],[],_,_,_=>rfl
 |[],y::m,_,_,h=>by have:=(h y).mpr cXp;cases this
 |x::l,[],_,_,h=>by have:=(h x).mp cXp;cases this
 |x::l,y::m,h1,h2,h=>by
  obtain⟨i,k⟩:=cZF.mp h1;obtain⟨b1,n⟩:=cZF.mp h2;have e:x=y:=by
   rcases cXj.mp ((h x).mp cXp)with e|e
   ·exact e
   ·rcases cXj.mp ((h y).mpr cXp)with g|g
    ·exact g.symm
    ·exact absurd (j _ _ _ (i y g) (b1 x e)) (d x)
  subst e;rw[uniq d j k n λa=>?_];constructor
  ·intro f;rcases cXj.mp ((h a).mp (cXl _ f))with e|e
   ·subst e;exact absurd (i a f) (d a)
   ·exact e
  ·intro f;rcases cXj.mp ((h a).mpr (cXl _ f))with e|e
   ·subst e;exact absurd (b1 a f) (d a)
   ·exact e
def IsTup.keep(b:h.get? a=some (cXS AC vs n))(k:∀c o,c≠a->h.get? c=some o->h'.get? c=some o)(t:cJ8 h x its):cJ8 h' x its:=by
 obtain⟨o,e,c,m,d⟩:=t;refine⟨o,k x o (λz=>?_) e,c,m,d⟩;rw[z,b]at e;cases e;have f:Value.type AC=Value.type AE:=c;injection f with c'';exact absurd c'' (by decide)
def rep2.keep(b:h.get? a=some (cXS AC vs n))(k:∀c o,c≠a->h.get? c=some o->h'.get? c=some o)(t:rep2 h p u):rep2 h' p u:=
 let ⟨x,its,e,t1,t2⟩:=t;⟨x,its,e,IsTup.keep b k t1,t2⟩
def rep3.keep(b:h.get? a=some (cXS AC vs n))(k:∀c o,c≠a->h.get? c=some o->h'.get? c=some o)(t:rep3 h p u):rep3 h' p u:=
 let ⟨x,its,e,t1,t2⟩:=t;⟨x,its,e,IsTup.keep b k t1,L2.Paired.mapP t2 λ_ _ z=>rep2.keep b k z⟩
end Stree
namespace L2
open PySem PySem.Spec PyProof.Rows
open Stree (aQu qW)
def bVO(H:Hp)(p:Int×Int)(x:V):Prop:=∃c,x= .ref c/\H c=some (.tup [.int p.1,.int p.2])
def Q7(H:Hp)(b:Nat)(c:aQu):Prop:=∃a,H b=some (.tup a)/\cXZ (bVO H) c a
section
variable {X:Cx}{pins:List (Nat×Obj)}{σ:St}{H:Hp}{s:cXd}{k:Nat}
theorem bQL{α β γ:Type}{F:α->β->Prop}{G:β->γ->Prop}{K:α->γ->Prop}(h:∀a b c,F a b->G b c->K a c):∀ {l:List α} {m:List β} {n:List γ},cXZ F l m->cXZ G m n->cXZ K l n
 |_,_,_,.nil,.nil=> .nil
 |_,_,_,.cons a r,.cons b t=> .cons (h _ _ _ a b) (bQL h r t)
def Inv.rep2(I:Inv X pins σ H s)(h:bVO H p x)(r:wG x u):Stree.rep2 s.heap p u:=by
 obtain⟨c,rfl,e⟩:=h;cases r;obtain⟨b,d,pl,_⟩:=I.tuple (Cd e);obtain⟨i,g,rfl,a,f⟩:=zD.two d;exact⟨c,_,Ce,pl,.cons a (.cons f .nil)⟩
def Inv.rep3(I:Inv X pins σ H s)(h:Q7 H b f):Stree.rep3 s.heap f (.ref b):=by
 obtain⟨i,e,z⟩:=h;obtain⟨d,g,pl,_⟩:=I.tuple (Cd e);exact⟨b,d,Ce,pl,bQL (F:=bVO H) (G:=wG) (K:=Stree.rep2 s.heap) (λ_ _ _ a c=>I.rep2 a c) z g⟩
def aQL(hr:uT k X.A):jZ X (.builtin AQ) (λxs H Q=>∃ (p:Nat)(its:List V)(d:Nat->aQu)(kn:Nat->Int),xs= [.ref p]/\H p=some (.lst its)/\its.length<64/\ (∀i j,i<its.length->j<its.length->d i=d j->i=j)/\(∀i x,its[i]? =some x->∃a b,x= .ref a/\H a=some (.tup [.ref b,.int (kn i)])/\Q7 H b (d i))/\ ∀l (out:List Nat),H l=none->out.Perm (cXm its.length)->(out.Pairwise λi j=>qW (d i) (d j)=true)->Q (.ref l) (upd H l (.lst (out.map λi=>its.getD i .non)))):=by
 intro pins s σ H xs us Q I r h;obtain⟨p,its,d,kn,rfl,hp,b0,K,a8,q⟩:=h;obtain⟨u,rfl,ru⟩:=aQt r;cases ru;obtain⟨g,rv,pl,hz⟩:=I.list (Cc hp);have a0:g.length=its.length:=rv.length.symm;refine cJO kind_sorted cWm cWj (args_sorted1 _) ?_;unfold cZZ.«sorted»;refine cXa (m:=checkCount AQ 1 1 _) (cXf ?_);refine cXa (collect_list pl.isList ?_ (by rw[cXC];omega));refine cXa (cJ6 ?_ (by rw[cXC];omega));have N:((s.heap.push (cXS AC #[] 0)).update s.heap.objs.size (cXY (·++g.toArray))).objs.size=s.heap.objs.size+1:=by rw[cV1,size_push']
 have y:(((s.heap.push (cXS AC #[] 0)).update s.heap.objs.size (cXY (·++g.toArray))).push (cXS AC g.toArray 0)).get? (s.heap.objs.size+1)=some (cXS AC g.toArray 0):=by rw[<- N];exact cXA _ rfl
 have keep:∀b o,s.heap.get? b=some o->(((s.heap.push (cXS AC #[] 0)).update s.heap.objs.size (cXY (·++g.toArray))).push (cXS AC g.toArray 0)).get? b=some o:=λb o q=>by have F:b<s.heap.objs.size:=cXq q;rw[Heap.get?_push_ne _ _ _ (by rw[N];exact cXx (cZj F)),cWp _ _ _ _ (cXx F),Heap.get?_push_ne _ _ _ (cXx F)];exact q
 show cXi _ _ _ _ _ {s with heap:=((s.heap.push (cXS AC #[] 0)).update s.heap.objs.size (cXY (·++g.toArray))).push (cXS AC g.toArray 0) };rw[N];generalize a9:((s.heap.push (cXS AC #[] 0)).update s.heap.objs.size (cXY (·++g.toArray))).push (cXS AC g.toArray 0)=L at y keep ⊢;refine cXa (cZt (cZJ cVo ⟨_,y,rfl⟩ cVh ?body (cVm _)));case body=>
  have I1:Inv X pins σ H {s with heap:=L}:=I.kept (t':=s.toks) keep;have R:s.heap.objs.size<=s.heap.objs.size+1:=cJg _;have fa:=I.fpOk (b:=s.heap.objs.size+1) R (I.hok.fresh R);obtain⟨r,a3,a1⟩:=Stree.aVJ (n:=g.length) (λi j=>qW (d i) (d j)) (λi _=>Stree.vY _) (λi j k _ _ _ L D=>Stree.aQf L D)
   (λi j C P a5=>Stree.aZA λz=>a5 (K i j (by omega) (by omega) z))
  have ob:∀i,i<g.length->∃a o u t m,g.getD i Value.none= .ref a/\L.get? a=some o/\o.cls= .type AE/\o.data= .seq #[u,.int (kn i) t] m/\Stree.rep3 L (d i) u:=λi C=>by
   have B:i<its.length:=by omega
   obtain⟨a,b,Z,e2,e3⟩:=a8 i its[i] (cQ9 B);obtain⟨u0,U,G⟩:=rv.get (cQ9 B);rw[Z]at G;cases G;obtain⟨b1,rj,pj,_⟩:=I1.tuple (Cd e2);obtain⟨u1,u2,rfl,q1,q2⟩:=zD.two rj;cases q1;obtain⟨t,rfl⟩:=q2;obtain⟨o,J,E,m,S⟩:=pj;exact⟨a,o,_,t,m,by simp[cXW,U],J,E,S,I1.rep3 e3⟩
  refine Stree.aJT (s:={s with heap:=L}) y (by omega) r a3 (λD=>⟨tuples' false,λD k2=>⟨λQ' a4=>?_,λi j C' C P hC=>?_⟩⟩) λp h5 c5 O a7 k5 o5=>?_
  ·have kt:∀ {x:Nat} {o:Obj},L.get? x=some o->o.cls= .type AE->D.get? x=some o:=λ{x o} e c=>k2 x o (λz=>by rw[z,y]at e;cases e;have c':Value.type AC=Value.type AE:=c;injection c' with c'';exact absurd c'' (by decide)) e;have Y:∀ (l:List cXb),(∀ (i:Nat)(v:cXb),l[i]? =some v->∃a o u w m,v=Value.ref a/\D.get? a=some o/\o.cls= .type AE/\o.data= .seq #[u,w] m/\∃c its,u= .ref c/\cJ8 D c its)->
     ∃fs,cWQ D l fs/\fs.length=l.length/\∀f∈fs,∃c its,f=Value.ref c/\cJ8 D c its:=by
    intro l
    induction l with
    |nil=>intro _;exact⟨[],trivial,Ce,λf hf=>by cases hf⟩
    |cons v l ih=>
     intro M;obtain⟨a,o,u,w,m,rfl,J,E,S,c,its,rfl,g4⟩:=M 0 v rfl;obtain⟨fs,f1,f2,f3⟩:=ih λi v h=>M (i+1) v h;refine⟨.ref c::fs,cWg J E S rfl f1,by simp[f2],λf hf=>?_⟩;rcases cXj.mp hf with rfl|hf
     ·exact⟨c,its,Ce,g4⟩
     ·exact f3 f hf
   obtain⟨fs,f1,f2,f3⟩:=Y g λi v M=>by
    have C:i<g.length:=by
     rcases cVg i g.length with h|h
     ·exact h
     ·rw[cXM h]at M;cases M
    obtain⟨a,o,u,t,m,g0,J,E,S,g4⟩:=ob i C;have:g.getD i Value.none=v:=by simp[cXW,M]
    rw[this]at g0;obtain⟨c,its,e,g5,_⟩:=g4;exact⟨a,o,u,_,m,g0,kt J E,E,S,c,_,e,Stree.IsTup.keep y k2 g5⟩
   refine PySem.W.kat_kind (T:= .type AE) f1 (by omega) (λv M=>?_) rfl a4;obtain⟨c,its,rfl,o,J,E,_⟩:=f3 v M;have z:PySem.W.Looks (cXk X.prog X.w) D (typeOf (.ref c)) o.cls:=(PySem.W.Looks.ld J).andThen .now;rw[E]at z;exact z
  ·obtain⟨ai,oi,ui,t1,m1,g0,J,E,S,g4⟩:=ob i C;obtain⟨aj,oj,uj,t3,m2,d0,d1,d2,d3,d4⟩:=ob j P;have kt:∀ {x:Nat} {o:Obj},L.get? x=some o->o.cls= .type AE->D.get? x=some o:=λ{x o} e c=>k2 x o (λz=>by rw[z,y]at e;cases e;have c':Value.type AC=Value.type AE:=c;injection c' with c'';exact absurd c'' (by decide)) e;show cXi _ _ (keyLt' _ (g.getD i Value.none) (g.getD j Value.none)) _ _ _;rw[g0,d0];refine Stree.bWj (by have:=hr.un;show X.A.units+1+1+1<cLine;omega) (kt J E) S (kt d1 d2) d3 (Stree.rep3.keep y k2 g4) (Stree.rep3.keep y k2 d4) (λz=>by rw[K i j (by omega) (by omega) z]) ?_;have Z:=a1 i j C P;rw[Z]at hC;by_cases z:d i=d j
   ·have:qW (d i) (d j)=false:=by rw[z];exact Stree.vY _
    rw[this]at hC;simpa[z]using hC
   ·have:decide (d i≠d j)=true:=decide_eq_true z;rw[this,Bool.true_and];exact hC
  ·have hm:∀i∈p,i<g.length:=λi C=>cXI.mp (O.mem_iff.mp C);have vv:∀l:List Nat,(∀i∈l,i<g.length)->zD (l.map λi=>its.getD i .non) (l.map λi=>g.getD i Value.none):=by
    intro l;induction l with
    |nil=>intro _;exact .nil
    |cons i l ih=>
     intro h;refine .cons ?_ (ih λj P=>h j (cXl _ P));have C:=h i cXp;have B:i<its.length:=by omega
     obtain⟨u0,U,G⟩:=rv.get (cQ9 B);show wG (its.getD i .non) (g.getD i Value.none);have Z:g.getD i Value.none=u0:=by simp[cXW,U]
     have e2:its.getD i .non=its[i]:=by simp[cXW,cQ9 B]
     rw[Z,e2];exact G
   have v2:=vv p hm;have a2:p.Perm (cXm its.length):=by rw[<- a0];exact O
   have F:p.length=g.length:=by rw[O.length_eq,cX1]
   have a6:p.Pairwise λi j=>qW (d i) (d j)=true:=a7.imp_of_mem λ{i j} C P h=>by have:=a1 i j (hm i C) (hm j P);rw[<- this];exact decide_eq_true h
   have I5:Inv X pins σ (upd H (s.heap.objs.size+1) (.lst (p.map λi=>its.getD i .non))) {s with heap:=h5}:=
    I.laid (t':=s.toks) (λb o e=>k5 b o (cXx (cZj (cXq e))) (keep b o e)) R ⟨by rw[cXe,cXC];omega,_,c5,v2,o5⟩
   exact⟨_,Ce,cXf ⟨_,Ce,⟨.ref _,_,I5,Ce,q _ p fa.1 a2 a6⟩⟩⟩
end
end L2
namespace L2
open PySem PySem.Spec PyProof.Rows
section
variable {X:Cx}
def jV:jZ X (.builtin AQ) (λxs H Q=>∃ (p:Nat)(its:List V)(g:Nat->Int×Int),xs= [.ref p]/\H p=some (.lst its)/\its.length<64/\ (∀i j,i<its.length->j<its.length->g i=g j->i=j)/\(∀i x,its[i]? =some x->∃a,x= .ref a/\H a=some (.tup [.int (g i).1,.int (g i).2]))/\ ∀l (out:List Nat),H l=none->out.Perm (cXm its.length)->(out.Pairwise λi j=>Stree.vH (g i) (g j)=true)->Q (.ref l) (upd H l (.lst (out.map λi=>its.getD i .non)))):=by
 intro F s σ H xs us Q I r h;obtain⟨p,its,g,rfl,hp,b1,U,a9,q⟩:=h;obtain⟨u,rfl,ru⟩:=aQt r;cases ru;obtain⟨d,rv,pl,hz⟩:=I.list (Cc hp);have a1:d.length=its.length:=rv.length.symm;refine cJO kind_sorted cWm cWj (args_sorted1 _) ?_;unfold cZZ.«sorted»;refine cXa (m:=checkCount AQ 1 1 _) (cXf ?_);refine cXa (collect_list pl.isList ?_ (by rw[cXC];omega));refine cXa (cJ6 ?_ (by rw[cXC];omega));have Z:((s.heap.push (cXS AC #[] 0)).update s.heap.objs.size (cXY (·++d.toArray))).objs.size=s.heap.objs.size+1:=by rw[cV1,size_push']
 have C:(((s.heap.push (cXS AC #[] 0)).update s.heap.objs.size (cXY (·++d.toArray))).push (cXS AC d.toArray 0)).get? (s.heap.objs.size+1)=some (cXS AC d.toArray 0):=by rw[<- Z];exact cXA _ rfl
 have keep:∀b o,s.heap.get? b=some o->(((s.heap.push (cXS AC #[] 0)).update s.heap.objs.size (cXY (·++d.toArray))).push (cXS AC d.toArray 0)).get? b=some o:=λb o q=>by have a0:b<s.heap.objs.size:=cXq q;refine cXg _ ?_;exact(cXL _ _ (cJB a0)).trans (cXg _ q)
 show cXi _ _ _ _ _ {s with heap:=((s.heap.push (cXS AC #[] 0)).update s.heap.objs.size (cXY (·++d.toArray))).push (cXS AC d.toArray 0) };rw[Z];generalize b0:((s.heap.push (cXS AC #[] 0)).update s.heap.objs.size (cXY (·++d.toArray))).push (cXS AC d.toArray 0)=L at C keep ⊢;refine cXa (cZt (cZJ cVo ⟨_,C,rfl⟩ cVh ?body (cVm _)));case body=>
  have I1:Inv X F σ H {s with heap:=L}:=I.kept (t':=s.toks) keep;have O:s.heap.objs.size<=s.heap.objs.size+1:=cJg _;have fa:=I.fpOk (b:=s.heap.objs.size+1) O (I.hok.fresh O);obtain⟨r,a4,a2⟩:=Stree.aVJ (n:=d.length) (λi j=>Stree.vH (g i) (g j)) (λi _=>Stree.vX _) (λi j k _ _ _ L N=>Stree.aZz L N)
   (λi j B M a6=>Stree.aZy λz=>a6 (U i j (by omega) (by omega) z))
  have ob:∀i,i<d.length->∃a o w D m,d.getD i Value.none= .ref a/\L.get? a=some o/\o.cls= .type AE/\o.data= .seq #[.int (g i).1 w,.int (g i).2 D] m:=λi B=>by
   have A:i<its.length:=by omega
   obtain⟨a,e1,e2⟩:=a9 i its[i] (cQ9 A);obtain⟨u0,S,E⟩:=rv.get (cQ9 A);rw[e1]at E;cases E;obtain⟨b2,rj,pj,_⟩:=I1.tuple (Cd e2);obtain⟨u1,u2,rfl,q1,q2⟩:=zD.two rj;obtain⟨w,rfl⟩:=q1;obtain⟨D,rfl⟩:=q2;obtain⟨o,P,J,m,R⟩:=pj;exact⟨a,o,w,D,m,by simp[cXW,S],P,J,R⟩
  refine Stree.aJT (s:={s with heap:=L}) C (by omega) r a4 (λN=>⟨tuples' true,λN k2=>⟨λQ' a5=>?_,λi j C' B M hC=>?_⟩⟩) λp h5 c5 K a8 k5 o5=>?_
  ·have kt:∀ {x:Nat} {o:Obj},L.get? x=some o->o.cls= .type AE->N.get? x=some o:=λ{x o} e c=>k2 x o (λz=>by rw[z,C]at e;cases e;have c':Value.type AC=Value.type AE:=c;injection c' with c'';exact absurd c'' (by decide)) e;have Y:∀ (l:List cXb),(∀ (i:Nat)(v:cXb),l[i]? =some v->∃a o w D m x y,v=Value.ref a/\N.get? a=some o/\o.cls= .type AE/\o.data= .seq #[.int x w,.int y D] m)->
     ∃fs,cWQ N l fs/\fs.length=l.length/\∀f∈fs,∃x t,f=Value.int x t:=by
    intro l
    induction l with
    |nil=>intro _;exact⟨[],trivial,Ce,λf hf=>by cases hf⟩
    |cons v l ih=>
     intro G;obtain⟨a,o,w,D,m,x,y,rfl,P,J,R⟩:=G 0 v rfl;obtain⟨fs,f1,f2,f3⟩:=ih λi v h=>G (i+1) v h;refine⟨.int x w::fs,cWg P J R rfl f1,by simp[f2],λf hf=>?_⟩;rcases cXj.mp hf with rfl|hf
     ·exact⟨x,w,rfl⟩
     ·exact f3 f hf
   obtain⟨fs,f1,f2,f3⟩:=Y d λi v G=>by
    have B:i<d.length:=by
     rcases cVg i d.length with h|h
     ·exact h
     ·rw[cXM h]at G;cases G
    obtain⟨a,o,w,D,m,g0,P,J,R⟩:=ob i B;have:d.getD i Value.none=v:=by simp[cXW,G]
    rw[this]at g0;exact⟨a,o,w,D,m,_,_,g0,kt P J,J,R⟩
   refine PySem.W.kat_kind (T:= .type As) f1 (by omega) (λv G=>?_) rfl a5;obtain⟨x,t,rfl⟩:=f3 v G;exact .now
  ·obtain⟨ai,oi,w,D,m1,g0,P,J,R⟩:=ob i B;obtain⟨aj,oj,t3,t4,m2,d0,d1,d2,d3⟩:=ob j M;have kt:∀ {x:Nat} {o:Obj},L.get? x=some o->o.cls= .type AE->N.get? x=some o:=λ{x o} e c=>k2 x o (λz=>by rw[z,C]at e;cases e;have c':Value.type AC=Value.type AE:=c;injection c' with c'';exact absurd c'' (by decide)) e;show cXi _ _ (keyLt' _ (d.getD i Value.none) (d.getD j Value.none)) _ _ _;rw[g0,d0];refine Stree.bQi (kt P J) R (kt d1 d2) d3 ?_;have e1:=a2 i j B M;rw[e1]at hC;exact hC
  ·have hm:∀i∈p,i<d.length:=λi B=>cXI.mp (K.mem_iff.mp B);have vv:∀l:List Nat,(∀i∈l,i<d.length)->zD (l.map λi=>its.getD i .non) (l.map λi=>d.getD i Value.none):=by
    intro l;induction l with
    |nil=>intro _;exact .nil
    |cons i l ih=>
     intro h;refine .cons ?_ (ih λj M=>h j (cXl _ M));have B:=h i cXp;have A:i<its.length:=by omega
     obtain⟨u0,S,E⟩:=rv.get (cQ9 A);show wG (its.getD i .non) (d.getD i Value.none);have e1:d.getD i Value.none=u0:=by simp[cXW,S]
     have e2:its.getD i .non=its[i]:=by simp[cXW,cQ9 A]
     rw[e1,e2];exact E
   have v2:=vv p hm;have a3:p.Perm (cXm its.length):=by rw[<- a1];exact K
   have a0:p.length=d.length:=by rw[K.length_eq,cX1]
   have a7:p.Pairwise λi j=>Stree.vH (g i) (g j)=true:=a8.imp_of_mem λ{i j} B M h=>by have:=a2 i j (hm i B) (hm j M);rw[<- this];exact decide_eq_true h
   have I5:Inv X F σ (upd H (s.heap.objs.size+1) (.lst (p.map λi=>its.getD i .non))) {s with heap:=h5}:=
    I.laid (t':=s.toks) (λb o e=>k5 b o (cXx (cZj (cXq e))) (keep b o e)) O ⟨by rw[cXe,cXC];omega,_,c5,v2,o5⟩
   exact⟨_,Ce,cXf ⟨_,Ce,⟨.ref _,_,I5,Ce,q _ p fa.1 a3 a7⟩⟩⟩
end
end L2
namespace Fm
open Stree (aQu qW vH)
structure Ok(n:Nat)(L:Nat->Option Nat)(rk:Nat->Nat):Prop where
 lt:∀i j,i<n->L i=some j->j<n/\rk j<rk i
def rdF(L:Nat->Option Nat)(D:Nat->Int):Nat->Nat->aQu
 |0,i=> [(D i,(i:Int))]
 |f+1,i=>match L i with
  |none=> [(D i,(i:Int))]
  |some j=>rdF L D f j++ [(D i,(i:Int))]
def tpF(L:Nat->Option Nat):Nat->Nat->Nat
 |0,i=>i
 |f+1,i=>match L i with
  |none=>i
  |some j=>tpF L f j
section
variable {n:Nat}{L:Nat->Option Nat}{D:Nat->Int}{rk:Nat->Nat}
def aZI(h:L i=none):∀f,rdF L D f i= [(D i,(i:Int))]
 |0=>rfl
 |f+1=>by unfold rdF;rw[h]
def aZ3(h:L i=none):∀f,tpF L f i=i
 |0=>rfl
 |f+1=>by unfold tpF;rw[h]
theorem Y0(o:Ok n L rk):∀ (f g i:Nat),i<n->rk i<=f->rk i<=g->rdF L D f i=rdF L D g i
 |f,g,i,hi,hf,hg=>by
  cases h:L i with
  |none=>rw[aZI h,aZI h]
  |some j=>
   obtain⟨a,b⟩:=o.lt i j hi h;cases f with
   |zero=>omega
   |succ f=>
    cases g with
    |zero=>omega
    |succ g=>show(match L i with|none=>_|some j=>rdF L D f j++ [(D i,(i:Int))])=(match L i with|none=>_|some j=>rdF L D g j++ [(D i,(i:Int))]);rw[h];show rdF L D f j++_=rdF L D g j++_;rw[Y0 o f g j a (by omega) (by omega)]
theorem Y6(o:Ok n L rk):∀ (f g i:Nat),i<n->rk i<=f->rk i<=g->tpF L f i=tpF L g i
 |f,g,i,hi,hf,hg=>by
  cases h:L i with
  |none=>rw[aZ3 h,aZ3 h]
  |some j=>
   obtain⟨a,b⟩:=o.lt i j hi h;cases f with
   |zero=>omega
   |succ f=>
    cases g with
    |zero=>omega
    |succ g=>show(match L i with|none=>_|some j=>tpF L f j)=(match L i with|none=>_|some j=>tpF L g j);rw[h];exact Y6 o f g j a (by omega) (by omega)
def rd(L:Nat->Option Nat)(D:Nat->Int)(rk:Nat->Nat)(i:Nat):aQu:=rdF L D (rk i) i
def tp(L:Nat->Option Nat)(rk:Nat->Nat)(i:Nat):Nat:=tpF L (rk i) i
def aQl(h:L i=none):rd L D rk i= [(D i,(i:Int))]:=aZI h _
def wO(h:L i=none):tp L rk i=i:=aZ3 h _
def jQ(o:Ok n L rk)(b:i<n)(h:L i=some j):rd L D rk i=rd L D rk j++ [(D i,(i:Int))]:=by
 obtain⟨a,c⟩:=o.lt i j b h;unfold rd;cases d:rk i with
 |zero=>omega
 |succ m=>show(match L i with|none=>_|some j=>rdF L D m j++ [(D i,(i:Int))])=_;rw[h];show rdF L D m j++_=_;rw[Y0 o m (rk j) j a (by omega) (cXh _)]
def uX(o:Ok n L rk)(b:i<n)(h:L i=some j):tp L rk i=tp L rk j:=by
 obtain⟨a,c⟩:=o.lt i j b h;unfold tp;cases d:rk i with
 |zero=>omega
 |succ m=>show(match L i with|none=>_|some j=>tpF L m j)=_;rw[h];exact Y6 o m (rk j) j a (by omega) (cXh _)
theorem aZm(o:Ok n L rk){P:Nat->Prop}(h0:∀i,i<n->L i=none->P i)(a:∀i j,i<n->L i=some j->P j->P i):∀ (m i:Nat),rk i<=m->i<n->P i
 |m,i,hm,hi=>by
  cases h:L i with
  |none=>exact h0 i hi h
  |some j=>
   obtain⟨b,c⟩:=o.lt i j hi h;cases m with
   |zero=>omega
   |succ m=>exact a i j hi h (aZm o h0 a m j (by omega) b)
def bX0(o:Ok n L rk)(a:i<n):tp L rk i<n/\L (tp L rk i)=none:=
 aZm o (P:=λi=>tp L rk i<n/\L (tp L rk i)=none) (λi a h=>by rw[wO h];exact⟨a,h⟩) (λi j a h b=>by rw[uX o a h];exact b) (rk i) i (cXh _) a
def aZJ(o:Ok n L rk)(a:i<n):∃r,rd L D rk i=r++ [(D i,(i:Int))]:=by
 cases h:L i with
 |none=>exact⟨[],aQl h⟩
 |some j=>exact⟨_,jQ o a h⟩
def bQV(o:Ok n L rk)(b:i<n)(a:j<n)(h:rd L D rk i=rd L D rk j):i=j:=by
 obtain⟨r,e⟩:=aZJ (D:=D) o b;obtain⟨d,c⟩:=aZJ (D:=D) o a;rw[e,c]at h;have:=(cVt h rfl).2;injection this with z _;have:=congrArg Prod.snd z;simp only at this;omega
def bWM(o:Ok n L rk)(a:i<n):∃r,rd L D rk i=(D (tp L rk i),((tp L rk i:Nat):Int))::r:=
 aZm o (P:=λi=>∃r,rd L D rk i=(D (tp L rk i),((tp L rk i:Nat):Int))::r) (λi a h=>⟨[],by rw[aQl h,wO h]⟩)
  (λi j a h ⟨r,e⟩=>⟨r++ [(D i,(i:Int))],by rw[jQ o a h,uX o a h,e];rfl⟩) (rk i) i (cXh _) a
def Un(L:Nat->Option Nat)(D:Nat->Int)(rk:Nat->Nat)(v z:Nat):Prop:=rd L D rk v<+:rd L D rk z
def bYO(o:Ok n L rk)(a:i<n):Un L D rk (tp L rk i) i:=by
 obtain⟨r,e⟩:=bWM (D:=D) o a;have h:=(bX0 o a).2;unfold Un;rw[aQl h,e];exact⟨r,rfl⟩
def bJ5(o:Ok n L rk)(q:v<n):∀ {k:Nat},k<n->Un L D rk v k->k≠v->∃c,c<n/\L c=some v/\Un L D rk c k:=λ{k} a i d=>by
 refine aZm o (P:=λk=>Un L D rk v k->k≠v->∃c,c<n/\L c=some v/\Un L D rk c k) (λk a h i d=>?_) (λk p a h t i d=>?_) (rk k) k (cXh _) a i d
 ·obtain⟨r,e⟩:=i;obtain⟨j,m⟩:=aZJ (D:=D) o q;rw[aQl h,m]at e;have hl:=congrArg cJk e;simp only[cXD,cZb,cJl]at hl;have s:j= []:=cJs (by omega);have w:r= []:=cJs (by omega);rw[s,w]at e;injection e with z _;have:=congrArg Prod.snd z;simp only at this;omega
 ·obtain⟨y,_⟩:=o.lt k p a h;have b:=i;unfold Un at b;rw[jQ o a h]at b;by_cases f:p=v
  ·subst f;exact⟨k,a,h,List.prefix_refl _⟩
  ·have g:Un L D rk v p:=by
    obtain⟨r,e⟩:=b;rcases List.eq_nil_or_concat r with rfl|⟨j,x,rfl⟩
    ·rw[cZg]at e;obtain⟨j,m⟩:=aZJ (D:=D) o q;rw[m]at e;have:=(cVt e rfl).2;injection this with z _;have:=congrArg Prod.snd z;simp only at this;omega
    ·rw[List.concat_eq_append,<- cZn]at e;exact⟨j,(cVt e rfl).1⟩
   obtain⟨c,u,hl,l⟩:=t g f;refine⟨c,u,hl,?_⟩;unfold Un;rw[jQ o a h];exact List.IsPrefix.trans l (List.prefix_append _ _)
def bYN(o:Ok n L rk)(b:v<n)(hz:z<n)(h:Un L D rk v z)(a:z≠v):qW (rd L D rk v) (rd L D rk z)=true:=by
 obtain⟨r,e⟩:=h;rw[<- e];refine Stree.aWq _ λc=>a ?_;rw[c,cZg]at e;exact(bQV o b hz e).symm
def bYy(o:Ok n L rk)(f:c<n)(i:d<n)(g:L c=some v)(b:L d=some v)(a:vH (D c,(c:Int)) (D d,(d:Int))=true)(h:Un L D rk c z):qW (rd L D rk z) (rd L D rk d)=true:=by
 obtain⟨r,e⟩:=h;rw[<- e,jQ o f g,jQ o i b,cZn];exact Stree.aJz _ a
structure aJ7(n:Nat)(L:Nat->Option Nat)(D:Nat->Int)(rk:Nat->Nat)(root:Nat)(told nx:List Nat):Prop where
 tl:∀x∈told,x<n/\tp L rk x=root
 al:∀x∈nx,x<n/\tp L rk x=root
 tt:told.Pairwise λx y=>qW (rd L D rk x) (rd L D rk y)=true
 ta:∀x∈told,∀y∈nx,qW (rd L D rk x) (rd L D rk y)=true
 aa:nx.Pairwise λx y=>∀z,Un L D rk x z->qW (rd L D rk z) (rd L D rk y)=true
 all:∀k,k<n->tp L rk k=root->k∈told\/∃a∈nx,Un L D rk a k
def aJ7.start(o:Ok n L rk)(b:i<n):aJ7 n L D rk (tp L rk i) [] [tp L rk i]:=by
 have h:=bX0 o b;refine⟨λx a=>(nomatch a),λx a=>?_,.nil,λx a=>(nomatch a),cZD _ _,λk c e=> .inr ⟨_,cXo.mpr rfl,?_⟩⟩
 ·rw[cXo.mp a];exact⟨h.1,by rw[wO h.2]⟩
 ·have z:=bYO (D:=D) o c;rw[e]at z;exact z
def aJ7.step(o:Ok n L rk){m Z0 wY:List Nat}(W:aJ7 n L D rk j m (v::Z0))(E:∀i,i∈wY↔i<n/\L i=some v)(H:wY.Pairwise λx y=>vH (D x,(x:Int)) (D y,(y:Int))=true):aJ7 n L D rk j (m++ [v]) (wY++Z0):=by
 obtain⟨A,q⟩:=W.al v cXp;obtain⟨F,I⟩:=cZF.mp W.aa;have b:∀c∈wY,c<n/\L c=some v/\tp L rk c=j/\Un L D rk v c/\c≠v:=λc l=>by
  obtain⟨s,t⟩:=(E c).mp l;refine⟨s,t,by rw[uX o s t];exact q,?_,λz=>?_⟩
  ·unfold Un;rw[jQ o s t];exact List.prefix_append _ _
  ·have:=(o.lt c v s t).2;rw[z]at this;omega
 have self:∀x,Un L D rk x x:=λx=>List.prefix_refl _;refine⟨λx f=>?_,λx f=>?_,?_,λx f y g=>?_,?_,λk r w=>?_⟩
 ·rcases cXH.mp f with f|f
  ·exact W.tl x f
  ·rw[cXo.mp f];exact⟨A,q⟩
 ·rcases cXH.mp f with f|f
  ·exact⟨(b x f).1,(b x f).2.2.1⟩
  ·exact W.al x (cXl _ f)
 ·refine cWe.mpr ⟨W.tt,cZD _ _,λx f y g=>?_⟩;rw[cXo.mp g];exact W.ta x f v cXp
 ·have p:∀y∈wY++Z0,qW (rd L D rk v) (rd L D rk y)=true:=λy g=>by
   rcases cXH.mp g with g|g
   ·exact bYN o A (b y g).1 (b y g).2.2.2.1 (b y g).2.2.2.2
   ·exact F y g v (self v)
  rcases cXH.mp f with f|f
  ·exact Stree.aQf (W.ta x f v cXp) (p y g)
  ·rw[cXo.mp f];exact p y g
 ·refine cWe.mpr ⟨H.imp_of_mem λ{c d} l hd h z u=>bYy o (b c l).1 (b d hd).1 (b c l).2.1 (b d hd).2.1 h u,I,λc l y g z u=>?_⟩;exact F y g z (List.IsPrefix.trans (b c l).2.2.2.1 u)
 ·rcases W.all k r w with h|⟨a,C,G⟩
  ·exact .inl (cZY _ h)
  ·rcases cXj.mp C with rfl|C
   ·by_cases e:k=a
    ·exact .inl (cXw _ (cXo.mpr e))
    ·obtain⟨c,l,hl,B⟩:=bJ5 o A r G e;exact .inr ⟨c,cZY _ ((E c).mpr ⟨l,hl⟩),B⟩
   ·exact .inr ⟨a,cXw _ C,G⟩
def aJ7.nodup(W:aJ7 n L D rk b a nx):a.Nodup:=
 W.tt.imp λ{x y} h z=>by rw[z,Stree.vY]at h;cases h
theorem vP:∀ {n:Nat} {l:List Nat},l.Nodup->(∀x∈l,x<n)->l.length<=n
 |0,[],_,_=>cXh _
 |0,x::_,_,h=>absurd (h x cXp) (cZT _)
 |n+1,l,nd,h=>by
  by_cases c:n∈l
  ·have b:=vP (n:=n) (l:=l.erase n) (nd.erase n) λx a=>by
    have:=(cWM nd).mp a;have:=h x this.2;omega
   rw[cWN c]at b;omega
  ·have b:=vP (n:=n) (l:=l) nd λx a=>by
    have:=h x a;have:x≠n:=λz=>c (z ▸ a);omega
   omega
def aJ7.len(W:aJ7 n L D rk b a nx):a.length<=n:=vP W.nodup λx c=>(W.tl x c).1
def aJ7.done(W:aJ7 n L D rk b c [])(k:Nat):k∈c↔k<n/\tp L rk k=b:=
 ⟨λh=>W.tl k h,λ⟨e,d⟩=>(W.all k e d).elim id λ⟨a,f,_⟩=>nomatch f⟩
end
end Fm
namespace Fm
open Stree (aQu qW vH)
section
variable {n:Nat}{L:Nat->Option Nat}{D:Nat->Int}{rk rk':Nat->Nat}
def bQW(o:Ok n L rk)(b:Ok n L rk')(a:i<n):rd L D rk i=rd L D rk' i:=by
 unfold rd;rw[Y0 o (rk i) (max (rk i) (rk' i)) i a (cXh _) (Nat.le_max_left _ _),Y0 b (rk' i) (max (rk i) (rk' i)) i a (cXh _) (Nat.le_max_right _ _)]
def Z5(o:Ok n L rk)(b:Ok n L rk')(a:i<n):tp L rk i=tp L rk' i:=by
 unfold tp;rw[Y6 o (rk i) (max (rk i) (rk' i)) i a (cXh _) (Nat.le_max_left _ _),Y6 b (rk' i) (max (rk i) (rk' i)) i a (cXh _) (Nat.le_max_right _ _)]
def bWN(o:Ok n L rk)(c:i<n):∃l:List Nat,(rd L D rk i).map (·.2)=l.map (λk:Nat=>(k:Int))/\l.Nodup/\(∀k∈l,k<n/\rk k<=rk i):=
 aZm o (P:=λi=>∃l:List Nat,(rd L D rk i).map (·.2)=l.map (λk:Nat=>(k:Int))/\l.Nodup/\(∀k∈l,k<n/\rk k<=rk i)) (λi c h=>⟨[i],by rw[aQl h];rfl,by simp,λk d=>by rw[cXo.mp d];exact⟨c,cXh _⟩⟩)
  (λi j c h ⟨l,e,nd,hl⟩=>by
   obtain⟨m,p⟩:=o.lt i j c h;refine⟨l++ [i],by rw[jQ o c h,cZy,cZy,e];rfl,?_,λk d=>?_⟩
   ·rw[cJJ];refine⟨nd,by simp,λa f b g z=>?_⟩;rw[cXo.mp g]at z;have:=(hl a f).2;rw[z]at this;omega
   ·rcases cXH.mp d with d|d
    ·have:=hl k d;exact⟨this.1,by omega⟩
    ·rw[cXo.mp d];exact⟨c,cXh _⟩) (rk i) i (cXh _) c
def bYn(o:Ok n L rk)(a:i<n):(rd L D rk i).length<=n:=by
 obtain⟨l,e,c,hl⟩:=bWN (D:=D) o a;have h:=congrArg cJk e;rw[cXe,cXe]at h;rw[h];exact vP c λk b=>(hl k b).1
def bV6(o:Ok n L rk)(ha:a<n)(hb:b<n)(h0:L a=none)(hne:tp L rk b≠a):Ok n (λi=>if i=a then some b else L i) (λi=>if tp L rk i=a then rk i+rk b+1 else rk i) where
 lt:=λi j hi h=>by
  by_cases e:i=a
  ·subst e
   rw[if_pos rfl]at h
   cases h
   rw[if_neg hne,if_pos (wO h0)]
   exact⟨hb,by omega⟩
  ·rw[if_neg e]at h
   obtain⟨hj,hr⟩:=o.lt i j hi h
   have et:=uX o hi h
   refine⟨hj,?_⟩
   rw[et]
   split<;> omega
def bZG(o:Ok n L rk)(a:Nat):Ok n (λi=>if i=a then none else L i) rk where
 lt:=λi j hi h=>by
  by_cases e:i=a
  ·rw[if_pos e]at h;cases h
  ·rw[if_neg e]at h;exact o.lt i j hi h
def bVG(rk:Nat->Nat):Option Nat->Nat
 |none=>0
 |some j=>rk j+1
def bZl(o:Ok n L rk)(l:Option Nat)(hl:∀j,l=some j->j<n):Ok (n+1) (λi=>if i=n then l else L i) (λi=>if i=n then bVG rk l else rk i) where
 lt:=λi j hi h=>by
  by_cases e:i=n
  ·rw[if_pos e]at h
   have hj:=hl j h
   rw[if_pos e,if_neg (by omega),h]
   exact⟨by omega,cZI _⟩
  ·rw[if_neg e]at h
   obtain⟨hj,hr⟩:=o.lt i j (by omega) h
   rw[if_neg e,if_neg (by omega)]
   exact⟨by omega,hr⟩
def bKu(o:Ok n L rk)(a:i<n):tp L rk (tp L rk i)=tp L rk i:=wO (bX0 o a).2
def Ok.congr{a:Nat->Option Nat}(o:Ok n L rk)(h:∀i,i<n->L i=a i):Ok n a rk:=⟨λi j b e=>o.lt i j b ((h i b).trans e)⟩
end
end Fm
namespace Dm
def opn(d:Int):Bool:=decide (d % 7<5)
def cts(a:List Int)(d:Int):Bool:=opn d && !(a.contains d)
def cnt(b:List Int)(a:Int):Nat->Nat
 |0=>0
 |n+1=>cnt b a n+(if cts b (a+n)then 1 else 0)
def place(d:Int):Int:=d / 7*5+(if 4<d % 7 then 4 else d % 7)
def wH(p:Int):Int:=p / 5*7+p % 5
def aK1(d:Int):place d=place (d - 1)+(if opn d then 1 else 0):=by
 unfold place opn;simp only[decide_eq_true_eq];split<;> split<;> split<;> omega
def bVU(b:List Int)(a:Int)(n m:Nat):cnt b a (n+m)=cnt b a n+cnt b (a+n) m:=by
 induction m with
 |zero=>rfl
 |succ m c=>have e:cnt b a (n+(m+1))=cnt b a (n+m)+(if cts b (a+((n+m:Nat):Int))then 1 else 0):=rfl;have d:cnt b (a+n) (m+1)=cnt b (a+n) m+(if cts b (a+n+(m:Int))then 1 else 0):=rfl;rw[e,d,c,show a+((n+m:Nat):Int)=a+n+(m:Int) by omega];omega
def uE(a b:Int)(d:Int):Bool:=decide (a<=d) && decide (d<=b)
def aVm{S:List Int}(k:S.Nodup)(a b:Int)(h:a<=b+1): (S.filter (uE a (b+1))).length=(S.filter (uE a b)).length+(if S.contains (b+1)then 1 else 0):=by
 induction S with
 |nil=>rfl
 |cons x r c=>
  have d:=cZ4.mp k;have c:=c d.2;by_cases i:x=b+1
  ·subst i;have j:r.contains (b+1)=false:=by
    rw[<- Bool.not_eq_true,cZR];exact d.1
   rw[j]at c;have e:uE a (b+1) (b+1)=true:=by simp[uE,h]
   have g:uE a b (b+1)=false:=by simp[uE];omega
   rw[cZC e,cZB (by rw[g];decide)];simp at c ⊢;omega
  ·have e:uE a (b+1) x=uE a b x:=by
    unfold uE;have:decide (x<=b+1)=decide (x<=b):=by rw[decide_eq_decide];omega
    rw[this]
   have g:(x::r).contains (b+1)=r.contains (b+1):=by
    rw[cJA];have:(b+1==x)=false:=by simp;omega
    rw[this,Bool.false_or]
   rw[g];by_cases f:uE a b x=true
   ·rw[cZC (by rw[e];exact f),cZC f];simp only[cZb];omega
   ·rw[cZB (by rw[e];exact f),cZB f];exact c
def aKk{b S:List Int}(i:S.Nodup)(g:∀d,d∈S↔d∈b/\opn d=true)(a:Int)(n:Nat): (cnt b a n:Int)=place (a+n - 1) - place (a - 1) - ((S.filter (uE a (a+n - 1))).length:Nat):=by
 induction n with
 |zero=>
  have:S.filter (uE a (a+(0:Nat) - 1))= []:=by rw[List.filter_eq_nil_iff];intro x _;simp[uE];omega
  rw[this];simp[cnt]
 |succ n j=>
  have f:=aVm i a (a+n - 1) (by omega);rw[show a+(n:Int) - 1+1=a+n by omega]at f;have p:=aK1 (a+n);rw[show a+((n+1:Nat):Int) - 1=a+n by omega];show((cnt b a n+(if cts b (a+n)then 1 else 0):Nat):Int)=_;have c:(if cts b (a+n)then 1 else 0:Nat)+(if S.contains (a+n)then 1 else 0:Nat)=(if opn (a+n)then 1 else 0:Nat):=by
   have e:S.contains (a+n)=(b.contains (a+n) && opn (a+n)):=by rw[Bool.eq_iff_iff,cZR,Bool.and_eq_true,cZR];exact g _
   rw[e];unfold cts;cases opn (a+↑n)<;> cases b.contains (a+↑n)<;> rfl
  have h:place (a+n)=place (a+n - 1)+((if opn (a+n)then 1 else 0:Nat):Int):=by rw[p];cases opn (a+↑n)<;> rfl
  rw[h,f];push_cast;omega
def aVH(p:Int):place (wH p)=p:=by
 unfold place wH;split<;> omega
def aJG(p:Int):opn (wH p)=true:=by
 unfold opn wH;rw[decide_eq_true_eq];omega
def bZf(h:p<q):wH p<wH q:=by
 unfold wH;omega
def bZe(h:p<=q):wH p<=wH q:=by
 unfold wH;omega
def aVi(d:Int):d<wH (place d+1):=by
 unfold place wH;split<;> omega
def qF(date:Int)(p c:Int):Int:=if date<c/\c<=wH p then p+1 else p
def aZs(date:Int)(p:Int)(C:List Int):Int:=C.foldl (qF date) p
def uI(date e:Int)(c:Int):Bool:=decide (date<c) && decide (c<=e)
theorem aWh(f:Int):∀ (d b:List Int)(p:Int),(b++d).Pairwise (·<·)->
  p=f+((b.filter (uI date (wH p))).length:Nat)->(∀c∈b,date<c->c≠wH p)->f<=p->
  ∃q,aZs date p d=q/\q=f+(((b++d).filter (uI date (wH q))).length:Nat)/\(∀c∈b++d,date<c->c≠wH q)/\f<=q
 |[],b,p,_,h1,h2,h3=>⟨p,Ce,by rw[cZg];exact h1,by rw[cZg];exact h2,h3⟩
 |c::d,b,p,hs,h1,h2,h3=>by
  have g:((b++ [c])++d).Pairwise (·<·):=by rw[cZn];exact hs
  have lt:∀x∈b,x<c:=λx a=>(cWe.mp hs).2.2 x a c (cXp ..);have fin:=aWh (date:=date) f d (b++ [c]);have step:aZs date p (c::d)=aZs date (qF date p c) d:=rfl;rw[step,show b++c::d=(b++ [c])++d by simp];by_cases i:date<c/\c<=wH p
  ·have e:qF date p c=p+1:=if_pos i;rw[e];have up:=bZf (show p<p+1 by omega);refine fin (p+1) g ?_ ?_ (by omega)
   ·have k:b.filter (uI date (wH (p+1)))=b.filter (uI date (wH p)):=by
     refine cVQ λx a=>?_;have:=lt x a;unfold uI;have q:decide (x<=wH (p+1))=decide (x<=wH p):=by rw[decide_eq_decide];omega
     rw[q]
    have h:uI date (wH (p+1)) c=true:=by simp[uI];omega
    rw[cZo,k,cZC h,cXD];simp only[List.filter_nil,cZb,cJl];omega
   ·intro x a j;rcases cXH.mp a with a|a
    ·have:=lt x a;omega
    ·have:x=c:=by simpa using a
     omega
  ·have e:qF date p c=p:=if_neg i;rw[e];refine fin p g ?_ ?_ h3
   ·have h:uI date (wH p) c=false:=by simp[uI];omega
    rw[cZo,cZB (by rw[h];decide)];simpa using h1
   ·intro x a j;rcases cXH.mp a with a|a
    ·exact h2 x a j
    ·have:x=c:=by simpa using a
     omega
structure Due(sh:List Int)(date term D:Int):Prop where
 later:date<D
 cts:cts sh D=true
 cnt:(cnt sh (date+1) (D - date).toNat:Int)=term
def bVg{c C:List Int}{date term:Int}(o:1<=term)(f:C.Pairwise (·<·))(g:∀d,d∈C↔d∈c/\opn d=true): Due c date term (wH (aZs date (place date+term) C)):=by
 obtain⟨q,e,i,b,p⟩:=aWh (date:=date) (place date+term) C [] (place date+term) (by simpa using f) (by simp) (by simp) (Int.le_refl _);rw[e];rw[List.nil_append]at i b;have a:date<wH q:=Int.lt_of_lt_of_le (aVi date) (bZe (by omega));refine⟨a,?_,?_⟩
 ·unfold Dm.cts;rw[aJG,Bool.true_and,Bool.not_eq_true'];rw[<- Bool.not_eq_true,cZR];exact λz=>b _ ((g _).mpr ⟨z,aJG q⟩) a rfl
 ·have n:C.Nodup:=f.imp λh=>by omega
  have k:=aKk n g (date+1) (wH q - date).toNat;have j:date+1+((wH q - date).toNat:Int) - 1=wH q:=by omega
  have m:date+1 - 1=date:=by omega
  rw[j,m,aVH]at k;have l:C.filter (uE (date+1) (wH q))=C.filter (uI date (wH q)):=by
   refine cVQ λx _=>?_;unfold uE uI;have:decide (date+1<=x)=decide (date<x):=by rw[decide_eq_decide];omega
   rw[this]
  rw[l]at k;omega
def bZb(b:List Int)(a:Int)(h:n<=m):cnt b a n<=cnt b a m:=by
 obtain⟨k,rfl⟩:=Nat.le.dest h;rw[bVU];omega
def Due.less{a:List Int}{date term D:Int}(u:Due a date term D){n:Nat}(h:date+n<D):(Dm.cnt a (date+1) n:Int)<term:=by
 have e:(D - date).toNat=((D - date).toNat - 1)+1:=by have:=u.later;omega
 have k:=u.cnt;rw[e]at k;have b:Dm.cnt a (date+1) (((D - date).toNat - 1)+1)=Dm.cnt a (date+1) ((D - date).toNat - 1)+(if Dm.cts a (date+1+(((D - date).toNat - 1:Nat):Int))then 1 else 0):=rfl;have c:date+1+(((D - date).toNat - 1:Nat):Int)=D:=by have:=u.later;omega
 rw[c,u.cts]at b;have m:=bZb a (date+1) (show n<=(D - date).toNat - 1 by omega);simp only[if_true]at b;omega
def Due.uniq(u:Due d date term D)(v:Due d date term c):D=c:=by
 have a:=u.later;have b:=v.later;have f:¬D<c:=λh=>by have:=v.less (n:=(D - date).toNat) (by omega);have:=u.cnt;omega
 have e:¬c<D:=λh=>by have:=u.less (n:=(c - date).toNat) (by omega);have:=v.cnt;omega
 omega
end Dm
namespace Bk
open PySem (Str)
open Stree (aQu qW vH)
structure Row where
 way:Str
 date:Int
 partner:Str
 term:Int
 link:Option Nat
 place:Str
 void:Bool
 copies:List Str
abbrev Rows:=List Row
def lk(R:Rows)(i:Nat):Option Nat:=(R[i]?).bind (·.link)
def dt(R:Rows)(i:Nat):Int:=((R[i]?).map (·.date)).getD 0
def vU(R:Rows)(m:Int):Bool:=decide (0<=m) && (match R[m.toNat]? with|some r=> !r.void|none=>false)
inductive cQO(R:Rows)(m:Int):Prop|mk(k:Nat)(r:Row)(h:m=(k:Int))(h:k<R.length)(h:R[k]? =some r)(h:r.void=false)
def vL{R:Rows}(h:vU R m=true):cQO R m:=by
 unfold vU at h;rw[Bool.and_eq_true,decide_eq_true_eq]at h;obtain⟨c,a⟩:=h;cases e:R[m.toNat]? with
 |none=>rw[e]at a;cases a
 |some r=>rw[e]at a;refine⟨m.toNat,r,by omega,(cXn.mp e).1,e,?_⟩;have b:(!r.void)=true:=a;simpa using b
def qQ(R:Rows):Prop:=∃a,Fm.Ok R.length (lk R) a
def vK(R:Rows)(i:Nat)(l:List Nat):Prop:=∃a,Fm.Ok R.length (lk R) a/\(l.Pairwise λx y=>qW (Fm.rd (lk R) (dt R) a x) (Fm.rd (lk R) (dt R) a y)=true)/\∀k,k∈l↔k<R.length/\Fm.tp (lk R) a k=Fm.tp (lk R) a i
def vK.uniq{R:Rows}(q:i<R.length)(f:vK R i l)(j:vK R i m):l=m:=by
 obtain⟨n,o,p,e⟩:=f;obtain⟨s,d,r,g⟩:=j;refine Stree.uniq (lt:=λx y=>qW (Fm.rd (lk R) (dt R) n x) (Fm.rd (lk R) (dt R) n y)=true) (λa h=>by rw[Stree.vY]at h;cases h) (λa b c f j=>Stree.aQf f j) p ?_ λk=>?_
 ·refine r.imp_of_mem λ{x y} hx hy h=>?_;rw[Fm.bQW o d ((g x).mp hx).1,Fm.bQW o d ((g y).mp hy).1];exact h
 ·rw[e k,g k];constructor
  ·rintro⟨a,b⟩;exact⟨a,by rw[<- Fm.Z5 o d a,<- Fm.Z5 o d q];exact b⟩
  ·rintro⟨a,b⟩;exact⟨a,by rw[Fm.Z5 o d a,Fm.Z5 o d q];exact b⟩
def wY(R:Rows)(i:Nat):List Nat:=(cXm R.length).filter λk=>decide (lk R k=some i)
def aQO(R:Rows)(i:Nat)(d:Int):Bool:=match R[i]? with
 |none=>false
 |some r=> !r.void && decide (1<=r.term) && decide (r.date<=d) && (wY R i).all λk=>decide (d<dt R k)
def xV(R:Rows)(i:Nat)(f:Row->Row):Rows:=match R[i]? with
 |some r=>R.set i (f r)
 |none=>R
def wR(R:Rows)(i:Nat)(f:Row->Row):(xV R i f).length=R.length:=by unfold xV;split<;> simp
def wC(R:Rows)(i j:Nat)(f:Row->Row):(xV R i f)[j]? =if j=i then(R[j]?).map f else R[j]? :=by
 unfold xV;by_cases e:j=i
 ·subst e;rw[if_pos rfl];cases h:R[j]? with
  |none=>simp[h]
  |some r=>have a:j<R.length:=(cXn.mp h).1;simp[cJw a]
 ·rw[if_neg e];cases h:R[i]? with
  |none=>rfl
  |some r=>simp[cVu (cXT e)]
def laid(R:Rows)(l:List Nat)(name:Str):Rows:=l.foldl (λR k=>xV R k λr=>{r with place:=name}) R
def W9(R:Rows)(i:Nat)(f:Row->Row)(h:∀r,(f r).link=r.link):lk (xV R i f)=lk R:=by
 funext j;unfold lk;rw[wC];by_cases e:j=i
 ·rw[if_pos e];cases R[j]? with
  |none=>rfl
  |some r=>exact h r
 ·rw[if_neg e]
def wI(name:Str):∀ (l:List Nat)(R:Rows),(laid R l name).length=R.length
 |[],R=>rfl
 |k::l,R=>by show(laid (xV R k _) l name).length=_;rw[wI name l,wR]
def aXd(name:Str):∀ (l:List Nat)(R:Rows),lk (laid R l name)=lk R
 |[],R=>rfl
 |k::l,R=>by show lk (laid (xV R k _) l name)=_;rw[aXd name l,W9 R k (λr=>{r with place:=name}) λ_=>rfl]
theorem vW(name:Str):∀ (l:List Nat)(R:Rows)(j:Nat),(laid R l name)[j]? =if j∈l then(R[j]?).map (λr=>{r with place:=name})else R[j]?
 |[],R,j=>by simp[laid]
 |k::l,R,j=>by
  show(laid (xV R k _) l name)[j]? =_;rw[vW name l,wC];by_cases e:j=k
  ·subst e;rw[if_pos rfl,if_pos cXp];split
   ·cases R[j]? <;> rfl
   ·rfl
  ·rw[if_neg e];by_cases hl:j∈l
   ·rw[if_pos hl,if_pos (cXl _ hl)]
   ·rw[if_neg hl,if_neg (by simp[e,hl])]
def qQ.laid{R:Rows}(t:qQ R)(l:List Nat)(name:Str):qQ (laid R l name):=by
 obtain⟨a,o⟩:=t;refine⟨a,?_⟩;rw[wI,aXd];exact o
def qQ.same{R:Rows}(t:qQ R)(i:Nat)(f:Row->Row)(h:∀r,(f r).link=r.link):qQ (xV R i f):=by
 obtain⟨a,o⟩:=t;refine⟨a,?_⟩;rw[wR,W9 R i f h];exact o
def aWs(R:Rows)(a:i<R.length)(f:Row->Row)(l:Option Nat)(h:∀r,(f r).link=l):lk (xV R i f)=λj=>if j=i then l else lk R j:=by
 funext j;unfold lk;rw[wC];by_cases e:j=i
 ·subst e;rw[if_pos rfl,if_pos rfl,cQ9 a];exact h _
 ·rw[if_neg e,if_neg e]
def qQ.loose{R:Rows}(t:qQ R)(b:i<R.length)(f:Row->Row)(h:∀r,(f r).link=none):qQ (xV R i f):=by
 obtain⟨a,o⟩:=t;refine⟨a,?_⟩;rw[wR,aWs R b f none h];exact Fm.bZG o i
def qQ.hang{R:Rows}{rk:Nat->Nat}(o:Fm.Ok R.length (lk R) rk)(b:i<R.length)(c:j<R.length)(h0:lk R i=none)(a:Fm.tp (lk R) rk j≠i)(f:Row->Row)(h:∀r,(f r).link=some j):qQ (xV R i f):=by
 refine⟨λk=>if Fm.tp (lk R) rk k=i then rk k+rk j+1 else rk k,?_⟩;rw[wR,aWs R b f (some j) h];exact Fm.bV6 o b c h0 a
def bWi(R:Rows)(r:Row):∀i,i<R.length+1->lk (R++ [r]) i=if i=R.length then r.link else lk R i:=λi a=>by
 unfold lk;by_cases e:i=R.length
 ·subst e;rw[if_pos rfl,cXz (cXh _)];simp
 ·rw[if_neg e,cXU (by omega)]
def qQ.enter{R:Rows}(t:qQ R)(r:Row)(h:∀j,r.link=some j->j<R.length):qQ (R++ [r]):=by
 obtain⟨a,o⟩:=t;have z:=Fm.bZl o r.link h;refine⟨λi=>if i=R.length then Fm.bVG a r.link else a i,?_⟩;rw[cXD,cZp];exact z.congr λi b=>(bWi R r i b).symm
end Bk
namespace Bk
open PySem (Str)
open Stree (aQu qW vH)
theorem bXz{L:Nat->Option Nat}{D:Nat->Int}{rk:Nat->Nat}(o:Fm.Ok n L rk):∀l:List Nat,l.Nodup->(∀k∈l,k<n)->∃m:List Nat,m.Perm l/\m.Pairwise λx y=>qW (Fm.rd L D rk x) (Fm.rd L D rk y)=true
 |[],_,_=>⟨[],.refl _,.nil⟩
 |x::l,nd,h=>by
  obtain⟨m,i,t⟩:=bXz (D:=D) o l (cZ4.mp nd).2 λk c=>h k (cXl _ c);have r:x<n:=h x cXp;have f:∀k∈m,k<n/\k≠x:=λk c=>⟨h k (cXl _ (i.mem_iff.mp c)),λz=>(cZ4.mp nd).1 (by rw[<- z];exact i.mem_iff.mp c)⟩;have ins:∀m:List Nat,(∀k∈m,k<n/\k≠x)->(m.Pairwise λx y=>qW (Fm.rd L D rk x) (Fm.rd L D rk y)=true)->∃d:List Nat,d.Perm (x::m)/\d.Pairwise λx y=>qW (Fm.rd L D rk x) (Fm.rd L D rk y)=true:=by
   intro m;induction m with
   |nil=>intro _ _;exact⟨[x],.refl _,cZD _ _⟩
   |cons y m s=>
    intro j q;obtain⟨a,b⟩:=cZF.mp q;have p:=j y cXp;rcases Stree.aZA (λz=>p.2 (Fm.bQV o p.1 r z):Fm.rd L D rk y≠Fm.rd L D rk x)with z|z
    ·obtain⟨d,e,g⟩:=s (λk c=>j k (cXl _ c)) b;refine⟨y::d,(List.Perm.cons _ e).trans (List.Perm.swap _ _ _),cZF.mpr ⟨λk c=>?_,g⟩⟩;rcases cXj.mp (e.mem_iff.mp c)with rfl|c
     ·exact z
     ·exact a k c
    ·refine⟨x::y::m,.refl _,cZF.mpr ⟨λk c=>?_,q⟩⟩;rcases cXj.mp c with rfl|c
     ·exact z
     ·exact Stree.aQf z (a k c)
  obtain⟨d,e,g⟩:=ins m f t;exact⟨d,e.trans (List.Perm.cons _ i),g⟩
def bXZ{R:Rows}(t:qQ R)(i:Nat):∃l,vK R i l:=by
 obtain⟨a,o⟩:=t;obtain⟨m,d,b⟩:=bXz (D:=dt R) o ((cXm R.length).filter λk=>decide (Fm.tp (lk R) a k=Fm.tp (lk R) a i)) (cVv.sublist cZ2) λk c=>cXI.mp (cZd.mp c).1;refine⟨m,a,o,b,λk=>?_⟩;rw[d.mem_iff,cZd,cXI,decide_eq_true_eq]
open Classical in
noncomputable def thr (R:Rows) (i:Nat):List Nat:=if h:∃l,vK R i l then choose h else []
def Q2{R:Rows}(t:qQ R)(i:Nat):vK R i (thr R i):=by
 have h:=bXZ t i;unfold thr;rw[dif_pos h];exact cV7 h
def aZl{R:Rows}(b:i<R.length)(h:vK R i l):thr R i=l:=
 vK.uniq b (by obtain⟨a,o,_⟩:=h;exact Q2 ⟨a,o⟩ i) h
open Classical in
noncomputable def due (shut:List Int) (d t:Int):Int:=if h:∃D,Dm.Due shut d t D then choose h else d
def bVf{d t D:Int}(h:Dm.Due shut d t D):due shut d t=D:=by
 have a:∃D,Dm.Due shut d t D:=⟨D,h⟩;unfold due;rw[dif_pos a];exact(cV7 a).uniq h
structure bX4(R:Rows)(shut:List Int)(d:Int)(late:Bool)(l:List Nat):Prop where
 mem:∀k,k∈l↔k<R.length/\aQO R k d=true/\(late=true->due shut (dt R k) (((R[k]?).map (·.term)).getD 0)<d)
 ord:l.Pairwise λx y=>vH (due shut (dt R x) (((R[x]?).map (·.term)).getD 0),(x:Int)) (due shut (dt R y) (((R[y]?).map (·.term)).getD 0),(y:Int))=true
def bX4.uniq{R:Rows}(g:bX4 R shut d e l)(f:bX4 R shut d e m):l=m:=
 Stree.uniq (lt:=λx y=>vH (due shut (dt R x) (((R[x]?).map (·.term)).getD 0),(x:Int)) (due shut (dt R y) (((R[y]?).map (·.term)).getD 0),(y:Int))=true) (λa h=>by rw[Stree.vX]at h;cases h) (λa b c g f=>Stree.aZz g f) g.ord f.ord λk=>by rw[g.mem k,f.mem k]
inductive Ans where
 |num (n:Int)|txt (x:Str)|nums (l:List Nat)|txts (l:List Str)|row (r:Row)
inductive zO where
 |enter (way:Str) (day:Int) (who:Str) (term:Int)|reply (m:Int) (day term:Int)|hang (m o:Int)|loose (m:Int)|date (m d:Int)|term (m t:Int)
 |copy (m:Int) (who:Str)|file (m:Int) (name:Str)|void (m:Int)|shut (d:Int)|state (m:Int)|thread (m:Int)|copies (m:Int)|letters (name:Str)|on (late:Bool) (d:Int)
def qJ(a:Str):Str:=if a="in" then BL else "in"
inductive xZ(R:Rows)(S:List Int):zO->Ans->Rows->List Int->Prop
 |enter {way who:Str} {d t:Int} (h:0<=t):xZ R S (.enter way d who t) (.num R.length) (R++ [⟨way,d,who,t,none,"",false,[]⟩]) S
 |enterT {way who:Str} {d t:Int} (h:t<0):xZ R S (.enter way d who t) (.txt "no term") R S
 |replyN {m d t:Int} (h:vU R m=false):xZ R S (.reply m d t) (.txt "no letter") R S
 |replyT {m d t:Int} (h:vU R m=true) (ht:t<0):xZ R S (.reply m d t) (.txt "no term") R S
 |replyE {k:Nat} {d t:Int} {r:Row} (hk:R[k]? =some r) (h:r.void=false) (ht:0<=t) (hd:d<r.date):xZ R S (.reply k d t) (.txt "too early") R S
 |reply {k:Nat} {d t:Int} {r:Row} (hk:R[k]? =some r) (h:r.void=false) (ht:0<=t) (hd:r.date<=d):xZ R S (.reply k d t) (.num R.length) (R++ [⟨qJ r.way,d,r.partner,t,some k,r.place,false,[]⟩]) S
 |hangN {m o:Int} (h:vU R m=false\/vU R o=false):xZ R S (.hang m o) (.txt "no letter") R S
 |hangH {i j:Nat} {r q:Row} (hi:R[i]? =some r) (hv:r.void=false) (hj:R[j]? =some q) (hw:q.void=false) (h:r.link≠none):xZ R S (.hang i j) (.txt "has one") R S
 |hangO {i j:Nat} {r q:Row} (hi:R[i]? =some r) (hv:r.void=false) (hj:R[j]? =some q) (hw:q.void=false) (h:r.link=none) (ho:(thr R j).head? =some i):xZ R S (.hang i j) (.txt "own thread") R S
 |hangW {i j:Nat} {r q:Row} (hi:R[i]? =some r) (hv:r.void=false) (hj:R[j]? =some q) (hw:q.void=false) (h:r.link=none) (ho:(thr R j).head? ≠some i) (h1:r.way=q.way):xZ R S (.hang i j) (.txt "same way") R S
 |hangP {i j:Nat} {r q:Row} (hi:R[i]? =some r) (hv:r.void=false) (hj:R[j]? =some q) (hw:q.void=false) (h:r.link=none) (ho:(thr R j).head? ≠some i) (h1:r.way≠q.way) (h2:r.partner≠q.partner):xZ R S (.hang i j) (.txt "other partner") R S
 |hangE {i j:Nat} {r q:Row} (hi:R[i]? =some r) (hv:r.void=false) (hj:R[j]? =some q) (hw:q.void=false) (h:r.link=none) (ho:(thr R j).head? ≠some i) (h1:r.way≠q.way) (h2:r.partner=q.partner) (h3:r.date<q.date):xZ R S (.hang i j) (.txt "too early") R S
 |hang {i j:Nat} {r q:Row} (hi:R[i]? =some r) (hv:r.void=false) (hj:R[j]? =some q) (hw:q.void=false) (h:r.link=none) (ho:(thr R j).head? ≠some i) (h1:r.way≠q.way) (h2:r.partner=q.partner) (h3:q.date<=r.date):
   xZ R S (.hang i j) (.txt "hung") (xV (laid R (thr R i) q.place) i λr=>{r with link:=some j}) S
 |oneN {m:Int} {e:zO} (h:vU R m=false) (he:e= .loose m\/(∃d,e= .date m d)\/(∃t,e= .term m t)\/(∃w,e= .copy m w)\/(∃w,e= .file m w)\/e= .void m\/e= .state m\/e= .thread m\/e= .copies m):xZ R S e (.txt "no letter") R S
 |looseN {k:Nat} {r:Row} (hk:R[k]? =some r) (hv:r.void=false) (h:r.link=none):xZ R S (.loose k) (.txt "has none") R S
 |loose {k:Nat} {r:Row} (hk:R[k]? =some r) (hv:r.void=false) (h:r.link≠none):xZ R S (.loose k) (.txt C5) (xV R k λr=>{r with link:=none}) S
 |dateE {k:Nat} {r:Row} {d:Int} (hk:R[k]? =some r) (hv:r.void=false) (h:(∃j,r.link=some j/\d<dt R j)\/∃c∈wY R k,dt R c<d):xZ R S (.date k d) (.txt "too early") R S
 |date {k:Nat} {r:Row} {d:Int} (hk:R[k]? =some r) (hv:r.void=false) (h1:∀j,r.link=some j->dt R j<=d) (h2:∀c∈wY R k,d<=dt R c):xZ R S (.date k d) (.txt "dated") (xV R k λr=>{r with date:=d}) S
 |termN {k:Nat} {r:Row} {t:Int} (hk:R[k]? =some r) (hv:r.void=false) (h:t<0):xZ R S (.term k t) (.txt "no term") R S
 |term {k:Nat} {r:Row} {t:Int} (hk:R[k]? =some r) (hv:r.void=false) (h:0<=t):xZ R S (.term k t) (.txt B6) (xV R k λr=>{r with term:=t}) S
 |copyC {k:Nat} {r:Row} {w:Str} (hk:R[k]? =some r) (hv:r.void=false) (h:w=r.partner\/w∈r.copies):xZ R S (.copy k w) (.txt CW) R S
 |copy {k:Nat} {r:Row} {w:Str} (hk:R[k]? =some r) (hv:r.void=false) (h:w≠r.partner) (h2:w∉r.copies):xZ R S (.copy k w) (.num (r.copies.length+1)) (xV R k λr=>{r with copies:=r.copies++ [w] }) S
 |file {k:Nat} {r:Row} {w:Str} (hk:R[k]? =some r) (hv:r.void=false):xZ R S (.file k w) (.num (thr R k).length) (laid R (thr R k) w) S
 |voidA {k:Nat} {r:Row} (hk:R[k]? =some r) (hv:r.void=false) (h:wY R k≠ []):xZ R S (.void k) (.txt B4) R S
 |void {k:Nat} {r:Row} (hk:R[k]? =some r) (hv:r.void=false) (h:wY R k= []):xZ R S (.void k) (.txt Ay) (xV R k λr=>{r with link:=none,void:=true}) S
 |shutN {d:Int} (h:Dm.cts S d=false):xZ R S (.shut d) (.txt "counts not") R S
 |shut {d:Int} (h:Dm.cts S d=true):xZ R S (.shut d) (.txt Ai) R (S++ [d])
 |state {k:Nat} {r:Row} (hk:R[k]? =some r) (hv:r.void=false):xZ R S (.state k) (.row r) R S
 |thread {k:Nat} {r:Row} (hk:R[k]? =some r) (hv:r.void=false):xZ R S (.thread k) (.nums (thr R k)) R S
 |copies {k:Nat} {r:Row} (hk:R[k]? =some r) (hv:r.void=false):xZ R S (.copies k) (.txts r.copies) R S
 |letters {w:Str}:xZ R S (.letters w) (.nums ((cXm R.length).filter λk=>match R[k]? with|some r=> !r.void && decide (r.place=w)|none=>false)) R S
 |on {late:Bool} {d:Int} {l:List Nat} (h:bX4 R S d late l):xZ R S (.on late d) (.nums l) R S
end Bk
namespace Bk
open PySem (Str)
open Stree (aQu qW vH)
def vK.head{R:Rows}(k:j<R.length)(h:vK R j l):∃c,Fm.Ok R.length (lk R) c/\l.head? =some (Fm.tp (lk R) c j):=by
 obtain⟨c,o,p,e⟩:=h;refine⟨c,o,?_⟩;have f:=Fm.bX0 o k;have i:Fm.tp (lk R) c j∈l:=(e _).mpr ⟨f.1,Fm.bKu o k⟩;cases l with
 |nil=>cases i
 |cons x r=>
  by_cases z:x=Fm.tp (lk R) c j
  ·rw[z];rfl
  ·exfalso;obtain⟨a,b⟩:=cZF.mp p;have d:=(e x).mp cXp;have n:Fm.tp (lk R) c j∈r:=by
    rcases cXj.mp i with w|w
    ·exact absurd w.symm z
    ·exact w
   have s:=a _ n;have m:Fm.Un (lk R) (dt R) c (Fm.tp (lk R) c j) x:=by have:=Fm.bYO (D:=dt R) o d.1;rw[d.2]at this;exact this
   have q:=Fm.bYN o f.1 d.1 m z;have g:=Stree.aQf s q;rw[Stree.vY]at g;cases g
def Y5{R:Rows}(t:qQ R)(b:j<R.length):∃a,Fm.Ok R.length (lk R) a/\(thr R j).head? =some (Fm.tp (lk R) a j):=(Q2 t j).head b
def wW{R:Rows}{k:Nat}{r:Row}(h:R[k]? =some r):k<R.length:=(cXn.mp h).1
def uM{R:Rows}{k:Nat}(h:R[k]? =some r):lk R k=r.link:=by unfold lk;rw[h];rfl
def uL{R:Rows}{k:Nat}(h:R[k]? =some r):dt R k=r.date:=by unfold dt;rw[h];rfl
def xZ.tree{R k:Rows}{S n:List Int}{e:zO}{a:Ans}(t:qQ R)(h:xZ R S e a k n):qQ k:=by
 cases h with
 |enter h=>exact t.enter _ λj d=>nomatch d
 |reply b h w x=>exact t.enter _ λj d=>by cases d;exact wW b
 |@hang i j r q m c d hw h p s l v=>
  obtain⟨f,o,u⟩:=Y5 t (wW d);have g:Fm.tp (lk R) f j≠i:=λz=>p (by rw[u,z]);refine qQ.hang (R:=laid R (thr R i) q.place) (rk:=f) (i:=i) (j:=j) ?_ ?_ ?_ ?_ ?_ _ λ_=>rfl
  ·rw[wI,aXd];exact o
  ·rw[wI];exact wW m
  ·rw[wI];exact wW d
  ·rw[aXd,uM m];exact h
  ·rw[aXd];exact g
 |loose b c h=>exact t.loose (wW b) _ λ_=>rfl
 |date b c s l=>exact t.same _ _ λ_=>rfl
 |term b c h=>exact t.same _ _ λ_=>rfl
 |copy b c h l=>exact t.same _ _ λ_=>rfl
 |file b c=>exact t.laid _ _
 |void b c h=>exact t.loose (wW b) _ λ_=>rfl
 |_=>exact t
def bJ3:qQ []:=⟨λ_=>0,⟨λi j a=>absurd a (cZT _)⟩⟩
end Bk
namespace Bk
open PySem (Str)
open Stree (aQu qW vH)
def bKC(r q:Row):Prop:=r.void=false/\q.void=false/\r.way≠q.way/\r.partner=q.partner/\q.date<=r.date/\r.place=q.place
structure Z7(R:Rows):Prop where
 tree:qQ R
 way:∀r∈R,r.way="in"\/r.way=BL
 ans:∀ (i j:Nat)(r:Row),R[i]? =some r->r.link=some j->∃q,R[j]? =some q/\bKC r q
def aZo:Z7 [] where
 tree:=bJ3
 way:=λr h=>absurd h (by simp)
 ans:=λi j r h=>by simp at h
def aWw{w:Str}(h:w="in"\/w=BL):qJ w≠w/\(qJ w="in"\/qJ w=BL):=by
 rcases h with rfl|rfl
 ·exact⟨by decide,.inr rfl⟩
 ·exact⟨by decide,.inl rfl⟩
set_option tactic.hygienic true in
def J7{R:Rows}{i:Nat}{f:Row->Row}{r:Row}(h:r∈xV R i f):r∈R\/∃q∈R,r=f q:=by
 unfold xV at h;split at h
 ·rename_i q a;rcases List.mem_or_eq_of_mem_set h with h|h
  ·exact .inl h
  ·exact .inr ⟨q,cXs a,h⟩
 ·exact .inl h
def aJ6{R:Rows}(h:∀r∈R,r.way="in"\/r.way=BL)(i:Nat)(f:Row->Row)(c:∀r,(f r).way=r.way):∀r∈xV R i f,r.way="in"\/r.way=BL:=λr a=>by
 rcases J7 a with a|⟨q,b,rfl⟩
 ·exact h r a
 ·rw[c];exact h q b
def aW5{name:Str}:∀ (l:List Nat) {R:Rows},(∀r∈R,r.way="in"\/r.way=BL)->∀r∈laid R l name,r.way="in"\/r.way=BL
 |[],R,h=>h
 |k::l,R,h=>aW5 l (aJ6 h k (λr=>{r with place:=name}) λ_=>rfl)
def bWm{R:Rows}{k i:Nat}{r:Row}(h:wY R k= [])(a:R[i]? =some r):r.link≠some k:=λe=>by
 have:i∈wY R k:=cZd.mpr ⟨cXI.mpr (wW a),decide_eq_true (by rw[uM a];exact e)⟩;rw[h]at this;cases this
def bZI{R:Rows}{k i:Nat}{r:Row}(a:R[i]? =some r)(e:r.link=some k):i∈wY R k:=
 cZd.mpr ⟨cXI.mpr (wW a),decide_eq_true (by rw[uM a];exact e)⟩
def bJ0{R:Rows}(t:qQ R){i a b:Nat}{r:Row}(c:R[a]? =some r)(e:r.link=some b)(d:b<R.length):a∈thr R i↔b∈thr R i:=by
 obtain⟨f,o,_,h⟩:=Q2 t i;rw[h a,h b,Fm.uX o (wW c) (by rw[uM c];exact e)];exact⟨λz=>⟨d,z.2⟩,λz=>⟨wW c,z.2⟩⟩
def bJ2{R:Rows}(t:qQ R){i:Nat}(a:i<R.length):i∈thr R i:=by
 obtain⟨b,o,_,h⟩:=Q2 t i;exact(h i).mpr ⟨a,rfl⟩
def Z7.laid{R:Rows}(b:Z7 R)(i:Nat)(name:Str):Z7 (laid R (thr R i) name) where
 tree:=b.tree.laid _ _
 way:=aW5 _ b.way
 ans:=λx j r hx hl=>by
  rw[vW]at hx
  have back:∃r0,R[x]? =some r0/\r=(if x∈thr R i then {r0 with place:=name}else r0):=by
   by_cases hm:x∈thr R i
   ·rw[if_pos hm]at hx
    cases e:R[x]? with
    |none=>rw[e]at hx;cases hx
    |some r0=>rw[e]at hx;cases hx;exact⟨r0,Ce,by rw[if_pos hm]⟩
   ·rw[if_neg hm]at hx
    exact⟨r,hx,by rw[if_neg hm]⟩
  obtain⟨r0,h0,e0⟩:=back
  have hl0:r0.link=some j:=by rw[e0]at hl;split at hl<;> exact hl
  obtain⟨q0,hq0,f1,f2,f3,f4,f5,f6⟩:=b.ans x j r0 h0 hl0
  have hiff:=bJ0 (i:=i) b.tree h0 hl0 (wW hq0)
  refine⟨if j∈thr R i then {q0 with place:=name}else q0,by rw[vW,hq0];split<;> rfl,?_⟩
  by_cases hm:x∈thr R i
  ·rw[if_pos (hiff.mp hm),e0,if_pos hm]
   exact⟨f1,f2,f3,f4,f5,rfl⟩
  ·rw[if_neg (λz=>hm (hiff.mpr z)),e0,if_neg hm]
   exact⟨f1,f2,f3,f4,f5,f6⟩
def Z7.set{R:Rows}(b:Z7 R){k:Nat}{f:Row->Row}(t:qQ (xV R k f))(hw:∀r,(f r).way=r.way)(h1:∀r j q,R[k]? =some r->(f r).link=some j->j≠k->R[j]? =some q->bKC (f r) q/\True)(h0:∀r j,R[k]? =some r->(f r).link=some j->j≠k/\j<R.length)
  (h2:∀r i q,R[k]? =some r->R[i]? =some q->i≠k->q.link=some k->bKC q (f r)):Z7 (xV R k f) where
 tree:=t
 way:=aJ6 b.way k f hw
 ans:=λi j r hi hl=>by
  rw[wC]at hi
  by_cases e:i=k
  ·subst e
   rw[if_pos rfl]at hi
   cases e0:R[i]? with
   |none=>rw[e0]at hi;cases hi
   |some r0=>
    rw[e0]at hi
    cases hi
    obtain⟨hjk,hjl⟩:=h0 r0 j e0 hl
    have hq:=cQ9 hjl
    exact⟨R[j],by rw[wC,if_neg hjk];exact hq,(h1 r0 j _ e0 hl hjk hq).1⟩
  ·rw[if_neg e]at hi
   obtain⟨q,hq,hf⟩:=b.ans i j r hi hl
   by_cases ej:j=k
   ·subst ej
    exact⟨f q,by rw[wC,if_pos rfl,hq];rfl,h2 q i r hq hi e hl⟩
   ·exact⟨q,by rw[wC,if_neg ej];exact hq,hf⟩
def bQh{R:Rows}(t:qQ R){k j:Nat}{r:Row}(h:R[k]? =some r)(e:r.link=some j):j≠k:=λz=>by
 obtain⟨a,o⟩:=t;have:=(o.lt k j (wW h) (by rw[uM h];exact e)).2;rw[z]at this;omega
def xZ.book{R R':Rows}{S S':List Int}{e:zO}{a:Ans}(b:Z7 R)(hw:∀E d w t,e= .enter E d w t->E="in"\/E=BL)(h:xZ R S e a R' S'):Z7 R':=by
 have C:=h.tree b.tree;have Y:∀ (r:Row)(j:Nat) {i:Nat} {x:Row},R[i]? =some x->x.link=some j->∃q,(R++ [r])[j]? =some q/\bKC x q:=λr j {i x} m hl=>by obtain⟨q,n,B⟩:=b.ans i j x m hl;exact⟨q,by rw[cXU (wW n)];exact n,B⟩
 have snoc:∀r:Row,(r.way="in"\/r.way=BL)->(∀j,r.link=some j->∃q,R[j]? =some q/\bKC r q)->qQ (R++ [r])->Z7 (R++ [r]):=λr u s t=>⟨t,λx g=>by
   rcases cXH.mp g with g|g
   ·exact b.way x g
   ·rw[cXo.mp g];exact u,λi j x m hl=>by
   by_cases V:i<R.length
   ·rw[cXU V]at m;exact Y r j m hl
   ·have a1:i<(R++ [r]).length:=(cXn.mp m).1;rw[cXD,cZp]at a1;have:i=R.length:=by omega
    subst this;rw[cXz (cXh _)]at m;simp at m;subst m;obtain⟨q,n,B⟩:=s j hl;exact⟨q,by rw[cXU (wW n)];exact n,B⟩⟩
 have plain:∀ (k:Nat)(f:Row->Row),(∀r,(f r).way=r.way/\(f r).date=r.date/\(f r).partner=r.partner/\(f r).link=r.link/\(f r).place=r.place/\(f r).void=r.void)->qQ (xV R k f)->Z7 (xV R k f):=λk f B t=>by
  refine b.set t (λr=>(B r).1) (λr j q l hl a4 n=>?_) (λr j l hl=>?_) (λr i q l m a3 hl=>?_)
  ·obtain⟨g1,g2,g3,g4,U,Q⟩:=B r;rw[g4]at hl;obtain⟨N,c,u,s,M,W,Z,h6⟩:=b.ans k j r l hl;rw[n]at c;cases c;exact⟨⟨by rw[Q];exact u,s,by rw[g1];exact M,by rw[g3];exact W,by rw[g2];exact Z,by rw[U];exact h6⟩,trivial⟩
  ·rw[(B r).2.2.2.1]at hl;obtain⟨q,n,_⟩:=b.ans k j r l hl;exact⟨bQh b.tree l hl,wW n⟩
  ·obtain⟨g1,g2,g3,g4,U,Q⟩:=B r;obtain⟨N,c,u,s,M,W,Z,h6⟩:=b.ans i k q m hl;rw[l]at c;cases c;exact⟨u,by rw[Q];exact s,by rw[g1];exact M,by rw[g3];exact W,by rw[g2];exact Z,by rw[U];exact h6⟩
 cases h with
 |enter h=>exact snoc _ (hw _ _ _ _ rfl) (λj A=>nomatch A) C
 |@reply k d t r l h ht hd=>have K:=b.way r (cXs l);exact snoc _ (aWw K).2 (λj A=>by cases A;exact⟨r,l,Ce,h,(aWw K).1,Ce,hd,rfl⟩) C
 |@hang i j r q m J A a0 h ho u s M=>
  have bl:=b.laid i q.place;obtain⟨rk,o,hh⟩:=Y5 b.tree (wW A);have O:Fm.tp (lk R) rk j≠i:=λz=>ho (by rw[hh,z]);have X:j∉thr R i:=λz=>by obtain⟨a2,o',_,hm⟩:=Q2 b.tree i;have z2:=((hm j).mp z).2;have z3:Fm.tp (lk R) a2 i=i:=Fm.wO (by rw[uM m];exact h);rw[z3,Fm.Z5 o' o (wW A)]at z2;exact O z2
  have T:=bJ2 b.tree (wW m);have gi:(laid R (thr R i) q.place)[i]? =some {r with place:=q.place}:=by rw[vW,if_pos T,m];rfl
  have gj:(laid R (thr R i) q.place)[j]? =some q:=by rw[vW,if_neg X];exact A
  refine bl.set C (λ_=>rfl) (λx y z g hl p P=>?_) (λx y g hl=>?_) (λx y z g p v hl=>?_)
  ·rw[gi]at g;cases g;cases hl;rw[gj]at P;cases P;exact⟨⟨J,a0,u,s,M,rfl⟩,trivial⟩
  ·cases hl;exact⟨λz=>O (by rw[z,Fm.wO (by rw[uM m];exact h)]),by rw[wI];exact wW A⟩
  ·obtain⟨N,c,G,F,H,I,L,D⟩:=bl.ans y i z p hl;rw[g]at c;cases c;exact⟨G,F,H,I,L,D⟩
 |@loose k r l J h=>refine b.set C (λ_=>rfl) (λx y z g hl=>nomatch hl) (λx y g hl=>nomatch hl) (λx y z g p v hl=>?_);obtain⟨N,c,G,F,H,I,L,D⟩:=b.ans y k z p hl;rw[g]at c;cases c;exact⟨G,F,H,I,L,D⟩
 |@date k r d l J u s=>
  refine b.set C (λ_=>rfl) (λx y z g hl v P=>?_) (λx y g hl=>?_) (λx y z g p v hl=>?_)
  ·rw[l]at g;cases g;obtain⟨N,c,G,F,H,I,L,D⟩:=b.ans k y r l hl;rw[P]at c;cases c;exact⟨⟨G,F,H,I,by rw[<- uL P];exact u y hl,D⟩,trivial⟩
  ·obtain⟨q,n,_⟩:=b.ans k y x g hl;exact⟨bQh b.tree g hl,wW n⟩
  ·obtain⟨N,c,G,F,H,I,L,D⟩:=b.ans y k z p hl;rw[g]at c;cases c;exact⟨G,F,H,I,by rw[<- uL p];exact s y (bZI p hl),D⟩
 |term l J h=>exact plain _ _ (λr=>⟨rfl,Ce,Ce,Ce,Ce,rfl⟩) C
 |copy l J h s=>exact plain _ _ (λr=>⟨rfl,Ce,Ce,Ce,Ce,rfl⟩) C
 |file l J=>exact b.laid _ _
 |void l J h=>exact b.set C (λ_=>rfl) (λx y z g hl=>nomatch hl) (λx y g hl=>nomatch hl) (λx y z g p v hl=>absurd hl (bWm h p))
 |_=>exact b
end Bk
namespace Law
open PySem L2 PyProof.Rows
open Bk (Row Rows)
def aJq(x:Str):Stmt->Bool
 |.FunctionDef n _ _ _ _ _ _ _ _ _=>n==x
 |_=>false
def xM(x:Str):Stmt:=(PySem.Challenge.pw_letterdesk_k09_whole_files.main.body.find? (aJq x)).getD (.Pass ⟨0,0,0,0⟩)
abbrev bWS:Stmt:=xM Ah
abbrev bJr:Stmt:=xM Au
def xG:cXV C0=some (.builtin C0):=dk
structure uK(mg:Str->Option cXb):Prop where
 b_len:mg C0=none
 b_range:mg Ag=none
def zY:Option Nat->V
 |none=> .non
 |some j=> .int (j:Nat)
inductive bKH(H:Hp)(b:Nat)(r:Row):Prop|mk(cp)(h:H b=some (.lst [.str r.way,.int r.date,.str r.partner,.int r.term,zY r.link,.str r.place,.bl r.void,.ref cp]))(h:H cp=some (.lst (r.copies.map V.str)))
structure xF(H:Hp)(ra:Nat)(rs:List Nat)(R:Rows):Prop where
 lst:H ra=some (.lst (rs.map V.ref))
 len:rs.length=R.length
 nd:rs.Nodup
 row:∀ (i:Nat)(b:Nat)(r:Row),rs[i]? =some b->R[i]? =some r->bKH H b r
inductive cQL(H:Hp)(rs:List Nat)(i:Nat)(r:Row):Prop|mk(b:Nat)(h:(rs.map V.ref)[i]? =some (.ref b))(h:rs[i]? =some b)(h:bKH H b r)
def xF.get{H:Hp}{e:Nat}{a:List Nat}{R:Rows}(h:xF H e a R){i:Nat}{r:Row}(c:R[i]? =some r):cQL H a i r:=by
 have d:i<a.length:=by rw[h.len];exact Bk.wW c
 have b:=cQ9 d;exact⟨a[i],by rw[cXu,b];rfl,b,h.row i _ r b c⟩
inductive aQJ(vs:List V)(H:Hp)(Q:VK)(h:XK):Prop|mk(ra:Nat)(rs:List Nat)(R:Rows)(m:Int)(h:vs= [.ref ra,.int m])(h:xF H ra rs R)(h:Q (.bl (Bk.vU R m)) H)
section
variable {K:cXc}
def bW6:yO [A1,AB] [A1,AB] (yH bWS):=scM
def bWs(T:uK mg)(F:Fun K Ah Ah bWS f fd):xL P w K mg base CX0 1 f fd [A1,AB] aQJ:=by
 have n:=bW6;refine F.ok (k:=0) n (λo A outer s H u Q E r h=>?_);obtain⟨e,i,R,m,rfl,c,q⟩:=h;refine⟨_,(yF (yP (aWz (wN bQI yG (pv 1)) (aWz (wN uN (pv 1) (yR yN rfl T.b_len xG (yA (pv 0) yD))) (aJH (bVs (yL yK (yL yK (pv 0) (pv 1)) yG))))))),?_⟩;refine⟨_,Ce,_,_,Ce,Ce,_,Ce,?_⟩;unfold Bk.vU at q;cases d:decide (0<=m)with
 |false=>rw[d,Bool.false_and]at q;exact onF rfl q
 |true=>
  rw[d,Bool.true_and]at q;have h0:0<=m:=of_decide_eq_true d;refine onT rfl ⟨_,Ce,_,Ce,e,_,Ce,.inl (Cc c.lst),_,_,Ce,Ce,_,Ce,?_⟩;have hl:(i.map V.ref).length=R.length:=by rw[cXe];exact c.len
  rw[hl];obtain⟨k,rfl⟩:∃k:Nat,m=(k:Int):=⟨m.toNat,by omega⟩;rw[cXG]at q;cases g:decide ((k:Int)<(R.length:Nat))with
  |false=>
   have a:R.length<=k:=by have:=of_decide_eq_false g;omega
   rw[cXM a]at q;exact onF rfl q
  |true=>
   have a:k<R.length:=by have:=of_decide_eq_true g;omega
   obtain⟨b,j,v,t,l,p⟩:=c.get (cQ9 a);rw[cQ9 a]at q;refine onT rfl ⟨_,Ce,_,Ce,e,_,_,_,Ce,Ce,Cc c.lst,yT j,b,_,6,_,Ce,Ce,Cc l,Ce,_,Ce,q⟩
def bW9:yO [A1,AB] [A1,AB] (yH bJr):=scM
def bWc:xO [A1,AB] (yH bJr) AH [AB,A1] [1,0] (lsN [(".0",.local),(AH,.local),(AB,.free),(A1,.free)]):=
 lcM
inductive aWT(vs:List V)(H:Hp)(Q:VK)(h:XK):Prop|mk(ra:Nat)(rs:List Nat)(R:Rows)(m:Nat)(h:vs= [.ref ra,.int (m:Nat)])(h:xF H ra rs R)(h:R.length<=100)(h:∀r,H r=none->Q (.ref r) (upd H r (.lst ((Bk.wY R m).map λi=>V.int (i:Nat)))))
def aVk:decide (zY o=V.int (m:Nat))=decide (o=some m):=by
 cases o with
 |none=>rfl
 |some j=>show decide (V.int (j:Nat)=V.int (m:Nat))=decide (some j=some m);rw[Bool.eq_iff_iff];simp;omega
def bWv(T:uK mg)(F:Fun K Au Au bJr f fd):xL P w K mg base CX0 1 f fd [A1,AB] aWT:=by
 have u:=bW9;refine F.ok (k:=0) u (λv A outer s H B Q E y h=>?_);obtain⟨e,n,R,m,rfl,c,hR,q⟩:=h;refine⟨_,(yF (yP (aQk bWc rfl (wA rfl T.b_range (yA (yR yN rfl T.b_len xG (yA (pv 0) yD)) yD)) (λ_ _ _ _ _=>(vC (yM zU (yL ixK (yL ixK (pv 2) (pv 0)) yG) (pv 1)))) (λ_ _ _ _ _=>(pv 0))))),?_⟩;have hl:(n.map V.ref).length=R.length:=by rw[cXe];exact c.len
 refine⟨_,Ce,e,_,Ce,.inl (Cc c.lst),?_⟩;rw[hl];refine⟨_,Ce,by omega,by omega,λD d=>?_⟩;rw[cXG];refine W8 (λk=>decide (Bk.lk R k=some m)) (λk=>V.int (k:Nat)) d (by rw[cXC];omega) (λk g i t j a=>?_) (λk g _ i t j a=>⟨_,Ce,a⟩) (q D d);obtain⟨b,p,C,z,o,x⟩:=c.get (cQ9 g);have l:i e=some (.lst (n.map V.ref)):=by rw[j e (yI c.lst d)];exact c.lst
 have r:i b=_:=(j b (yI o d)).trans o;refine⟨_,Ce,_,Ce,e,_,_,_,Ce,Ce,Cc l,yT p,b,_,4,_,Ce,Ce,Cc r,Ce,_,Ce,?_,_,Ce,?_⟩
 ·cases R[k].link<;> rfl
 ·rw[aVk,<- Bk.uM (cQ9 g)];exact a
end
end Law
namespace L2
open PySem PySem.Spec PyProof.Rows
section
variable {X:Cx}
inductive aKh(K:cXc)(xs:List V)(H:Hp)(Q:VK):Prop|mk(p:Nat)(ns:List Int)(h:xs= [.ref p])(h:SqL K H p (ns.map V.int))(h:ns≠ [])(h:∀m,m∈ns->(∀x∈ns,m<=x)->Q (.int m) H)
def aYF(L:X.calm=true):jZ X (.builtin "min") (aKh X.K):=by
 intro y s σ H W V Q I r h;obtain⟨p,c,rfl,C,w,q⟩:=h;obtain⟨u,rfl,F⟩:=aQt r;cases F;obtain⟨a,R,pl,S⟩:=I.list C;have B:cJv a c:=aQe R;have d:a.length=c.length:=B.length;have l:0<a.length:=by rw[d];exact cZq.mpr w
 obtain⟨o,E,_⟩:=id pl.isList;have m:p<s.heap.objs.size:=cXq E;have f:∀ (i:Nat)(v:cXb),a.toArray[i]? =some v->∃t,v=Value.int (c.getD i 0) t:=λi v n=>cVl B i v (by simpa using n);refine call_min_walk (cVV pl.isList ?_);refine⟨s.heap.objs.size,[s.heap.objs.size,p],[s.heap.objs.size],a.toArray.size,_,_,_,Ce,Walks.list (A:=X.A.in1) (by simpa using I.ok.hd L) _ p (cXx m) a.toArray,⟨⟨_,cXA _ rfl,Ce,rfl⟩,pl.isList.push _⟩,λb g=>?_,by rw[cXt];exact l,CmpOf.ints_lt (λi=>c.getD i 0) f,λv U tk n D=>?_⟩
 ·show b<(s.heap.push _).objs.size;rw[cZE];rcases cXj.mp g with rfl|g
  ·exact cZI _
  ·rw[cXo.mp g];exact cZj m
 ·obtain⟨t,rfl⟩:=f _ _ n;obtain⟨T,P⟩:=argBest_lt (λi=>c.getD i 0) (a.toArray.size - 1);have O:a.toArray.size=c.length:=by rw[cXt];exact d
  have g:argBest (λi j=>decide (c.getD i 0<c.getD j 0)) (a.toArray.size - 1)<c.length:=by omega
  refine⟨.int _,H,I.kept (t':=tk) λb G e=>D b G (λz=>by rw[cXo.mp z]at e;exact cZk _ (cXq e)) (cXg _ e),⟨t,rfl⟩,q _ ?_ λx J=>?_⟩
  ·generalize argBest (λi j=>decide (c.getD i 0<c.getD j 0)) (a.toArray.size - 1)=k at g;simp[cXW,cQ9 g]
  ·obtain⟨j,M,e⟩:=cX2 J;have:=P j (by omega);have N:c.getD j 0=x:=by simp[cXW,cQ9 M,e]
   rw[N]at this;exact this
end
end L2
namespace Law
open PySem L2 PyProof.Rows
open Bk (Row Rows)
abbrev aWI:Stmt:=xM BB
def aYB:cXV "min"=some (.builtin "min"):=dk
def bKH.same(h:bKH H b r)(k:xJ H a):bKH a b r:=let ⟨cp,e1,e2⟩:=h;⟨cp,k _ _ e1,k _ _ e2⟩
def xF.same{R:Rows}(h:xF H d c R)(k:xJ H a):xF a d c R:=
 ⟨k _ _ h.lst,h.len,h.nd,λi b r f e=>(h.row i b r f e).same k⟩
inductive bXP(vs:List V)(H:Hp)(Q:VK)(h:XK):Prop|mk(ra:Nat)(rs:List Nat)(R:Rows)(k:Nat)(d:Int)(h:vs= [.ref ra,.int (k:Nat),.int d])(h:xF H ra rs R)(h:R.length<=100)(h:k<R.length)(h:∀H',xJ H H'->Q (.bl (Bk.aQO R k d)) H')
section
variable {K:cXc}
def bJM:yO [A1,AB,AR,Aq,"_law_dates"] [A1,AB,AR] (yH aWI):=scM
def bZD:xO [A1,AB,AR,Aq,"_law_dates"] (yH aWI) AH [A1] [0] (lsN [(".0",.local),(AH,.local),(A1,.free)]):=
 lcM
def dtV(R:Rows):V->V
 |.int n=> .int (Bk.dt R n.toNat)
 |_=> .non
def bZ7(T:uK mg)(z:mg "min"=none)(a:FnG P w K mg base 1 Au [A1,AB] aWT)(F:Fun K BB BB aWI f fd):xL P w K mg base CX0 2 f fd [A1,AB,AR] bXP:=by
 have Y:=bJM;refine F.ok (k:=1) Y (λa1 A outer s H0 vs Q E hr h=>?_);obtain⟨u,rs,R,k,d,rfl,C,hR,hk,q⟩:=h;refine⟨_,(yC (yU (i:=3) (yL yK (pv 0) (pv 1))) (yC (xA (PW.pt (Y7 (zA (yL yK (pv 3) yG)) (Y7 (yM uN (yL yK (pv 3) yG) yG) (uS (yM aX0 (yL yK (pv 3) yG) (pv 2)))))) (yF (yP vQ)) yS) (yC (aX1 (i:=4) bZD rfl Y.nd rfl rfl (xN (xU a hr rfl (yA (pv 0) (yA (pv 1) yD)))) (λ_ _ _ _ _=>wS) (λ_ _ _ _ _=>(yL ixK (yL ixK (pv 1) (pv 0)) yG))) (yF (yP (bYf (wN (aZD hr.units0) (pv 4) (xB yD)) (aJH (wN aX0 (yR (aYF rfl) rfl z aYB (yA (pv 4) yD)) (pv 2))))))))),?_⟩;have x:=cQ9 hk;obtain⟨b,g1,g2,cp,M,g4⟩:=C.get x;have qw:Bk.aQO R k d=(!R[k].void && decide (1<=R[k].term) && decide (R[k].date<=d) && (Bk.wY R k).all λj=>decide (d<Bk.dt R j)):=by unfold Bk.aQO;rw[x]
 rw[qw]at q;refine⟨_,Ce,_,Ce,u,_,_,_,Ce,Ce,Cc C.lst,yT g1,?_⟩;dsimp only[yW];refine⟨_,Ce,b,_,6,_,Ce,Ce,Cc M,Ce,_,Ce,?_⟩;cases y:R[k].void with
 |true=>rw[y]at q;exact onT rfl (onT rfl (q _ (xJ.refl _)))
 |false=>
  rw[y]at q;refine onF rfl ⟨_,Ce,b,_,3,_,Ce,Ce,Cc M,Ce,_,_,Ce,Ce,_,Ce,?_⟩;cases ht:decide (R[k].term<1)with
  |true=>have:decide (1<=R[k].term)=false:=decide_eq_false (by have:=of_decide_eq_true ht;omega);rw[this]at q;exact onT rfl (onT rfl (q _ (xJ.refl _)))
  |false=>
   have:decide (1<=R[k].term)=true:=decide_eq_true (by have:=of_decide_eq_false ht;omega);rw[this]at q;refine onF rfl ⟨_,Ce,b,_,1,_,Ce,Ce,Cc M,Ce,_,Ce,_,_,Ce,Ce,_,Ce,?_⟩;cases Z:decide (R[k].date > d)with
   |true=>have:decide (R[k].date<=d)=false:=decide_eq_false (by have:=of_decide_eq_true Z;omega);rw[this]at q;exact onT rfl (q _ (xJ.refl _))
   |false=>
    have:decide (R[k].date<=d)=true:=decide_eq_true (by have:=of_decide_eq_false Z;omega);rw[this]at q;refine onF rfl ?_;refine⟨_,Ce,_,Ce,u,rs,R,k,Ce,C,hR,λr O=>⟨r,Ce,⟨_,Cc yB⟩,λD B=>?_⟩⟩;have k1:=yE O (.lst ((Bk.wY R k).map λi=>V.int (i:Nat)));have g:=C.same k1;have a0:(Bk.wY R k).length<=R.length:=by have:=cX6 (λj=>decide (Bk.lk R j=some k)) (cXm R.length);rw[cX1]at this;exact this
    refine aXf (λ_=>true) (dtV R) (Cc yB) B (zn (by rw[cXe];omega)) (λv y X R' _ h=>h) (λv y _ X R' U o=>?_) ?_
    ·obtain⟨j,hj,rfl⟩:=cX3.mp y;have G:j<R.length:=cXI.mp (cZd.mp hj).1;have p:=cQ9 G;obtain⟨bj,j1,j2,cj,W,j4⟩:=g.get p;have S:X u=some (.lst (rs.map V.ref)):=by rw[U u (yI g.lst B)];exact g.lst
     have N:=(U bj (yI W B)).trans W;have e:dtV R (V.int (j:Nat))=V.int R[j].date:=by show V.int (Bk.dt R (j:Int).toNat)=_;rw[cXG,Bk.uL p]
     rw[e]at o;exact⟨_,Ce,_,Ce,u,_,_,_,Ce,Ce,Cc S,yT j1,bj,_,1,_,Ce,Ce,Cc N,Ce,o⟩
    ·have ff:((Bk.wY R k).map λi=>V.int (i:Nat)).filter (λ_=>true)=(Bk.wY R k).map λi=>V.int (i:Nat):=cJu.mpr λ_ _=>rfl;have em:((Bk.wY R k).map λi=>V.int (i:Nat)).map (dtV R)=((Bk.wY R k).map (Bk.dt R)).map V.int:=by
      rw[cZS,cZS];refine cJ1 λj _=>?_;show V.int (Bk.dt R (j:Int).toNat)=V.int (Bk.dt R j);rw[cXG]
     rw[ff,em];dsimp only[yW];have k2:=yE B (.lst (((Bk.wY R k).map (Bk.dt R)).map V.int));have c:upd (upd H0 r (.lst ((Bk.wY R k).map λi=>V.int (i:Nat)))) D (.lst (((Bk.wY R k).map (Bk.dt R)).map V.int)) D=some (.lst (((Bk.wY R k).map (Bk.dt R)).map V.int)):=yB;have kA:=k1.trans k2;generalize upd (upd H0 r (.lst ((Bk.wY R k).map λi=>V.int (i:Nat)))) D (.lst (((Bk.wY R k).map (Bk.dt R)).map V.int))=H2 at c kA ⊢;refine⟨_,Ce,z0,λpn L=>?_⟩;have I:=yE L (.lst []);refine⟨D,pn,_,Ce,Ce,Cc (I _ _ c),Cc yB,_,Ce,?_⟩;have t:=q _ (kA.trans I);cases n:Bk.wY R k with
     |nil=>rw[n]at t;exact onT rfl t
     |cons j l=>
      rw[n]at t;refine onF rfl ⟨_,Ce,D,(j::l).map (Bk.dt R),Ce,Cc (by rw[<- n];exact I _ _ c),by simp,λm hm H=>?_⟩;refine⟨_,Ce,_,_,Ce,Ce,?_⟩;have e:((!false && true && true && (j::l).all λj=>decide (d<Bk.dt R j)):Bool)=decide (m > d):=by
       rw[Bool.eq_iff_iff];simp only[Bool.not_false,Bool.true_and,cVs,decide_eq_true_eq];constructor
       ·intro h;obtain⟨i,J,rfl⟩:=cX3.mp hm;exact h i J
       ·intro h i J;have:=H _ (cX3.mpr ⟨i,J,rfl⟩);omega
      rw[e]at t;exact t
end
end Law
namespace Bk
theorem aJi:∀shut:List Int,∃C:List Int,C.Pairwise (·<·)/\∀d,d∈C↔d∈shut/\Dm.opn d=true
 |[]=>⟨[],.nil,λd=>by simp⟩
 |x::l=>by
  obtain⟨C,o,n⟩:=aJi l;have ins:∀C:List Int,C.Pairwise (·<·)->∃g:List Int,g.Pairwise (·<·)/\∀d,d∈g↔d=x\/d∈C:=by
   intro C;induction C with
   |nil=>intro _;exact⟨[x],cZD _ _,λd=>by simp⟩
   |cons y C p=>
    intro h;obtain⟨a,b⟩:=cZF.mp h;by_cases e:x=y
    ·subst e;exact⟨x::C,h,λd=>by simp⟩
    ·by_cases k:x<y
     ·refine⟨x::y::C,cZF.mpr ⟨λd f=>?_,h⟩,λd=>by simp⟩;rcases cXj.mp f with rfl|f
      ·exact k
      ·have:=a d f;omega
     ·obtain⟨g,j,i⟩:=p b;refine⟨y::g,cZF.mpr ⟨λd f=>?_,j⟩,λd=>?_⟩
      ·rcases(i d).mp f with rfl|f
       ·omega
       ·exact a d f
      ·rw[cXj,i d,cXj];constructor
       ·rintro(h|h|h)
        ·exact .inr (.inl h)
        ·exact .inl h
        ·exact .inr (.inr h)
       ·rintro(h|h|h)
        ·exact .inr (.inl h)
        ·exact .inl h
        ·exact .inr (.inr h)
  by_cases m:Dm.opn x=true
  ·obtain⟨g,j,i⟩:=ins C o;refine⟨g,j,λd=>?_⟩;rw[i d,n d,cXj];constructor
   ·rintro(rfl|⟨h,c⟩)
    ·exact⟨.inl rfl,m⟩
    ·exact⟨.inr h,c⟩
   ·rintro⟨h|h,c⟩
    ·exact .inl h
    ·exact .inr ⟨h,c⟩
  ·refine⟨C,o,λd=>?_⟩;rw[n d,cXj];constructor
   ·rintro⟨h,c⟩;exact⟨.inr h,c⟩
   ·rintro⟨h|h,c⟩
    ·rw[h]at c;exact absurd c m
    ·exact⟨h,c⟩
def bKR(shut:List Int)(d:Int){t:Int}(b:1<=t):Dm.Due shut d t (due shut d t):=by
 obtain⟨C,c,a⟩:=aJi shut;have h:=Dm.bVg (date:=d) b c a;rw[bVf h];exact h
end Bk
namespace Law
open PySem L2 PyProof.Rows
open Bk (Row Rows)
abbrev bQ6:Stmt:=xM BX
abbrev aZP:Stmt:=xM BM
def wZ:cXV AQ=some (.builtin AQ):=dk
inductive bXH(K:cXc)(vs:List V)(H:Hp)(Q:VK)(h:XK):Prop|mk(a:Nat)(ns:List Int)(d t D:Int)(h:vs= [.ref a,.int d,.int t])(h:SqL K H a (ns.map V.int))(h:Dm.Due ns d t D)(h:Q (.int D) H)
section
variable {K:cXc}
theorem qU(d:Int):∀ns:List Int,inV (.int d) (ns.map V.int)=ns.contains d
 |[]=>rfl
 |n::r=>by have a:=qU d r;unfold inV at a ⊢;rw[cXO,cJr,a,cJA];congr 1;show(n==d)=(d==n);rw[Bool.eq_iff_iff,beq_iff_eq,beq_iff_eq];exact eq_comm
def qH:∀ns:List Int,(ns.map V.int).all aQM=true
 |[]=>rfl
 |n::r=>by rw[cXO,cVy,qH r];rfl
def bJB:yO [AJ,AR,BY,"_law_many"] [AJ,AR,BY] (yH bQ6):=scM
def bZW(T:uK mg)(F:Fun K BX BX bQ6 f fd):xL P w K mg base CX0 1 f fd [AJ,AR,BY] (bXH K):=by
 have J:=bJB;refine F.ok (k:=0) J (λL A outer s I N Q E M h=>?_);obtain⟨a,g,d,t,D,rfl,C,r,q⟩:=h;refine⟨_,(yC (yU (i:=3) yG) (yC (jP cX0 (yM uN (pv 3) (pv 2)) (yC (yU (i:=1) (yV zW (pv 1) yG)) (yF (xA (PW.pt (jF (yM uN (yV xD (pv 1) yG) yG) (uH (yM aQH (pv 1) (pv 0))))) (yF (yU (i:=3) (yV zW (pv 3) yG))) yS)))) (yF (yP (pv 1))))),?_⟩;refine⟨λm σ H=>∃n:Nat,σ= [some (.ref a),some (.int (d+n)),some (.int t),some (.int (Dm.cnt g (d+1) n))]/\H=I/\d+n<=D/\m=(D - (d+n)).toNat,⟨(D - d).toNat,0,?_,Ce,by have:=r.later;omega,by simp⟩,?_⟩
 ·rw[show d+((0:Nat):Int)=d by simp];rfl
 rintro m σ H ⟨n,rfl,rfl,p,rfl⟩;refine⟨_,Ce,_,Ce,_,_,Ce,Ce,_,Ce,?_⟩;refine X4 (λc=>?_) (λc=>?_)
 ·have B:((Dm.cnt g (d+1) n:Nat):Int)<t:=of_decide_eq_true c;have G:d+n<D:=by
   by_cases e:d+n=D
   ·have:=r.cnt;rw[<- e,show(d+n - d).toNat=n by omega]at this;omega
   ·omega
  refine⟨λo x=>∃v,v<(D - (d+n)).toNat/\∃n:Nat,o= [some (.ref a),some (.int (d+n)),some (.int t),some (.int (Dm.cnt g (d+1) n))]/\x=H/\d+n<=D/\v=(D - (d+n)).toNat,λo x z=>z,?_⟩;refine⟨_,Ce,_,_,Ce,Ce,?_⟩;dsimp only[yW];have l:Dm.cnt g (d+1) (n+1)=Dm.cnt g (d+1) n+(if Dm.cts g (d+1+n)then 1 else 0):=rfl;have j:d+((n+1:Nat):Int)=d+n+1:=by omega
  refine⟨_,Ce,_,_,Ce,Ce,(show(0:Int)<7 by decide),_,_,Ce,Ce,_,Ce,?_⟩;have b:Dm.cts g (d+1+n)=(decide ((d+n+1) % 7<5) && !(g.contains (d+n+1))):=by rw[show d+1+(n:Int)=d+n+1 by omega];rfl
  cases u:decide ((d+(n:Int)+1) % 7<5)with
  |false=>rw[u,Bool.false_and]at b;rw[b]at l;refine onF rfl (onF rfl ⟨(D - (d+(n+1:Nat))).toNat,by omega,n+1,?_,Ce,by omega,rfl⟩);rw[l,j];rfl
  |true=>
   rw[u,Bool.true_and]at b;refine onT rfl ⟨_,Ce,_,Ce,a,_,Ce,.inl C,Ce,qH g,_,Ce,?_⟩;rw[if_pos rfl,qU];cases y:g.contains (d+(n:Int)+1)with
   |true=>rw[y]at b;rw[b]at l;refine onF rfl ⟨(D - (d+(n+1:Nat))).toNat,by omega,n+1,?_,Ce,by omega,rfl⟩;rw[l,j];rfl
   |false=>rw[y]at b;rw[b]at l;refine onT rfl ⟨_,Ce,_,_,Ce,Ce,(D - (d+(n+1:Nat))).toNat,by omega,n+1,?_,Ce,by omega,rfl⟩;rw[l,j];simp
 ·have B:¬ ((Dm.cnt g (d+1) n:Nat):Int)<t:=of_decide_eq_false (Bool.eq_false_iff.mpr c);have e:d+n=D:=by
   refine Int.le_antisymm p (cJ7.mp λz=>B (r.less z))
  refine⟨_,Ce,?_⟩;rw[e];exact q
noncomputable def Y9 (R:Rows) (shut:List Int) (k:Nat):Int:=Bk.due shut (Bk.dt R k) (((R[k]?).map (·.term)).getD 0)
noncomputable def Q3 (R:Rows) (shut:List Int) (d:Int) (a:Bool) (k:Nat):Bool:=Bk.aQO R k d && (!a || decide (Y9 R shut k<d))
inductive aWU(vs:List V)(H:Hp)(Q:VK)(h:XK):Prop|mk(ra sa:Nat)(rs:List Nat)(R:Rows)(shut:List Int)(d:Int)(late:Bool)(h:vs= [.ref ra,.ref sa,.int d,.bl late])(h:xF H ra rs R)(h:H sa=some (.lst (shut.map V.int)))(h:R.length<64)(h:∀ (r:Nat)(H':Hp)(l:List Nat),xJ H H'->H r=none->H' r=some (.lst (l.map λi=>V.int (i:Nat)))->Bk.bX4 R shut d late l->Q (.ref r) H')
def aYv(H:Hp)(g:Nat->Int)(k:Nat)(x:V):Prop:=∃p,x= .ref p/\H p=some (.tup [.int (g k),.int (k:Nat)])
def aYv.tk{g:Nat->Int}(t:∀a c,H a=some (.tup c)->b a=some (.tup c)){k:Nat}(h:aYv H g k x):aYv b g k x:=let ⟨p,e,a⟩:=h;⟨p,e,t _ _ a⟩
def aZn{R:Rows}{k:Nat}(a:k<R.length)(h:Bk.aQO R k d=true):1<=R[k].term:=by
 unfold Bk.aQO at h;rw[cQ9 a]at h;simp only[Bool.and_eq_true,decide_eq_true_eq]at h;exact h.1.1.2
def bXs:yO [A1,AJ,AR,BZ,"_law_made",AH,"_law_last"] [A1,AJ,AR,BZ] (yH aZP):=scM
def bQc:xO [A1,AJ,AR,BZ,"_law_made",AH,"_law_last"] (yH aZP) C6 [] [] (lsN [(".0",.local),(C6,.local)]):=
 lcM
theorem bX5{α β:Type}{F:α->β->Prop}:∀ {l:List α} {m:List β} {i:Nat} {y:β},cXZ F l m->m[i]? =some y->∃x,l[i]? =some x/\F x y
 |_,_,0,_,.cons r _,h=>by simp at h;subst h;exact⟨_,Ce,r⟩
 |_,_,i+1,_,.cons _ t,h=>by simpa using bX5 (i:=i) t (by simpa using h)
 |_,_,i,_,.nil,h=>by simp at h
theorem aZc{α β:Type}{F:α->β->Prop}{x:α}{y:β}(r:F x y):∀ {l:List α} {m:List β},cXZ F l m->cXZ F (l++ [x]) (m++ [y])
 |_,_,.nil=> .cons r .nil
 |_,_,.cons a t=> .cons a (aZc r t)
def aXQ(k:xJ a H)(h:a c=none):xJ a (upd H c o):=λb u q=>by rw[yJ (yI q h)];exact k b u q
def bYV(H:Hp):V->V
 |.ref p=>match H p with
  |some (.tup [_,y])=>y
  |_=> .non
 |_=> .non
def aWK(h:H p=some (.tup [x,y])):bYV H (.ref p)=y:=by
 show(match H p with|some (.tup [_,y])=>y|_=>V.non)=y;rw[h]
def bQC(T:uK mg)(C:mg AQ=none)(n:FnG P w K mg base 2 BB [A1,AB,AR] bXP)(B:FnG P w K mg base 2 BX [AJ,AR,BY] (bXH K)) (F:Fun K BM BM aZP f fd):xL P w K mg base CX0 3 f fd [A1,AJ,AR,BZ] aWU:=by
 have sc:=bXs;refine F.ok (k:=2) sc (λc0 A outer s H0 vs Q E hr h=>?_);obtain⟨N,sa,rs,R,shut,d,c,rfl,hB,b8,hR,q⟩:=h;refine⟨_,(yC (yU (i:=4) (xB yD)) (yC (wV cX0 rfl (wA rfl T.b_range (yA (yR yN rfl T.b_len xG (yA (pv 0) yD)) yD)) (xI (i:=5)) (yF (xA (zA (xU n hr rfl (yA (pv 0) (yA (pv 5) (yA (pv 2) yD))))) (yC (yU (i:=6) (xU B hr rfl (yA (pv 1) (yA (yL yK (yL yK (pv 0) (pv 5)) yG) (yA (yL yK (yL yK (pv 0) (pv 5)) yG) yD))))) (yF (xA (PW.pt (Y7 (vI (zA (pv 3))) (uS (yM uN (pv 6) (pv 2))))) (yF (yZ (jD cXF cXP cXQ xR (pv 4) (yA (xK (yA (pv 6) (yA (pv 5) yD))) yD)))) yS))) yS))) (yF (yP (aQk bQc rfl (xN (yR jV rfl C wZ (yA (pv 4) yD))) (λ_ _ _ _ _=>wS) (λ_ _ _ _ _=>(yL ixT (pv 0) yG))))))),?_⟩;refine⟨z0,λD a2=>?_⟩;dsimp only[yW];have k1:=yE a2 (.lst []);have hl:(rs.map V.ref).length=R.length:=by rw[cXe];exact hB.len
 refine⟨_,Ce,N,_,Ce,.inl (Cc (k1 _ _ hB.lst)),?_⟩;rw[hl];refine⟨_,Ce,by omega,by omega,?_⟩;rw[cXG];refine vO (λt σ H=>∃ (g:List V)(M O:Option V),σ= [some (.ref N),some (.ref sa),some (.int d),some (.bl c),some (.ref D),M,O]/\xJ H0 H/\H D=some (.lst g)/\
  cXZ (aYv H (Y9 R shut)) ((cXm t).filter (Q3 R shut d c)) g) ?_ ?_ ?_
 ·exact⟨[],none,none,Ce,k1,yB,.nil⟩
 ·rintro k σ H hk ⟨g,M,O,rfl,u,y,U⟩;rw[cJz];dsimp only[yW];have a3:=hB.same u;have a1:=cQ9 hk;rw[cJE,cZo];have stay:∀Z M O,xJ H Z->Q3 R shut d c k=false->∃ (g:List V)(p5 p6:Option V),[some (V.ref N),some (V.ref sa),some (V.int d),some (V.bl c),some (V.ref D),M,O]= [some (.ref N),some (.ref sa),some (.int d),some (.bl c),some (.ref D),p5,p6]/\xJ H0 Z/\Z D=some (.lst g)/\
    cXZ (aYv Z (Y9 R shut)) ((cXm k).filter (Q3 R shut d c)++ [k].filter (Q3 R shut d c)) g:=λZ M O kk e=>by
   have e3: [k].filter (Q3 R shut d c)= []:=by simp[e]
   rw[e3,cZg]
   exact⟨g,M,O,Ce,u.trans kk,kk _ _ y,Paired.mapP U λ_ _ z=>z.tk λa xs e=>kk _ _ e⟩
  refine⟨_,Ce,_,Ce,_,Ce,N,rs,R,k,d,Ce,a3,by omega,hk,λH2 I=>⟨_,Ce,?_⟩⟩;cases hw:Bk.aQO R k d with
  |false=>exact onF rfl (stay H2 _ _ I (by unfold Q3;rw[hw];rfl))
  |true=>
   have b5:=aZn hk hw;have a0:=a3.same I;obtain⟨b,g1,g2,cp,g3,g4⟩:=a0.get a1;have hD:=Bk.bKR shut (Bk.dt R k) b5;have eD:Y9 R shut k=Bk.due shut (Bk.dt R k) R[k].term:=by unfold Y9;rw[a1];rfl
   rw[<- eD,Bk.uL a1]at hD;refine onT rfl ?_;refine⟨_,Ce,_,Ce,_,Ce,N,_,_,_,Ce,Ce,Cc a0.lst,yT g1,b,_,1,_,Ce,Ce,Cc g3,Ce,_,Ce,_,Ce,N,_,_,_,Ce,Ce,Cc a0.lst,yT g1,b,_,3,_,Ce,Ce,Cc g3,Ce,?_⟩;refine⟨sa,shut,_,_,Y9 R shut k,Ce,Cc (I _ _ (u _ _ b8)),hD,?_⟩;dsimp only[yW];have b2:Q3 R shut d c k=true->aWa (tBM K AC bQU (bKr 4) (aYr (cQK (aYr (bKr 6) (aYr (bKr 5) bXW))) bXW)) {nx:=λσ H=>∃ (g:List V)(M O:Option V),σ= [some (.ref N),some (.ref sa),some (.int d),some (.bl c),some (.ref D),M,O]/\xJ H0 H/\H D=some (.lst g)/\cXZ (aYv H (Y9 R shut)) ((cXm k).filter (Q3 R shut d c)++ [k].filter (Q3 R shut d c)) g,rt:=Q} [some (.ref N),some (.ref sa),some (.int d),some (.bl c),some (.ref D),some (.int (k:Nat)),some (.int (Y9 R shut k))] H2:=λe=>by
    have a8:=I _ _ y;refine⟨_,Ce,.inl ⟨rfl,_,Cc a8⟩,_,Ce,_,Ce,z2,λq3 b7=>?_⟩;have k5:=yE b7 (.tup [V.int (Y9 R shut k),V.int (k:Nat)]);have a5:=k5 _ _ a8;have il:g.length<=k:=by rw[<- U.length];exact cXJ (cX6 _ _) (by simp)
    have t6:∀a xs,upd H2 q3 (.tup [V.int (Y9 R shut k),V.int (k:Nat)]) a=some (.tup xs)->upd (upd H2 q3 (.tup [V.int (Y9 R shut k),V.int (k:Nat)])) D (.lst (g++ [V.ref q3])) a=some (.tup xs):=λa xs e=>by rw[yJ (aXW e a5 (by intro z;cases z))];exact e
    have e3: [k].filter (Q3 R shut d c)= [k]:=by simp[e]
    refine⟨D,g,.ref q3,Ce,Ce,a5,zlt (by omega),g++ [.ref q3],_,_,Ce,aXQ (u.trans (I.trans k5)) a2,yB,?_⟩;rw[e3];exact aZc ⟨q3,Ce,t6 _ _ yB⟩ (Paired.mapP U λ_ _ z=>z.tk λa xs e=>t6 _ _ (k5 _ _ (I _ _ e)))
   refine⟨_,Ce,_,Ce,?_⟩;by_cases j:c=true
   ·refine onF (by rw[j];rfl) ⟨_,Ce,_,Ce,_,_,Ce,Ce,_,Ce,?_⟩;cases a7:decide (Y9 R shut k<d)with
    |true=>exact onT rfl (b2 (by unfold Q3;rw[hw,j,a7];rfl))
    |false=>exact onF rfl (stay H2 _ _ I (by unfold Q3;rw[hw,j,a7];rfl))
   ·have hf:c=false:=by simpa using j
    exact onT (by rw[hf];rfl) (onT rfl (b2 (by unfold Q3;rw[hw,hf];rfl)))
 ·rintro σ H1 ⟨g,M,O,rfl,u,y,U⟩;generalize L:(cXm R.length).filter (Q3 R shut d c)=fam at U;have a6:fam.length=g.length:=U.length;have fn:fam.length<=R.length:=by rw[<- L];exact cXJ (cX6 _ _) (by simp)
  have b0:∀k,k∈fam↔k<R.length/\Q3 R shut d c k=true:=λk=>by rw[<- L,cZd,cXI]
  have b3:fam.Nodup:=by rw[<- L];exact cVv.sublist cZ2
  refine⟨_,Ce,D,g,λm=>(Y9 R shut (fam.getD m 0),((fam.getD m 0:Nat):Int)),Ce,y,by omega,λa b ha hb e=>?_,λm x hx=>?_,λl out hl X b6=>?_⟩
  ·have G:fam.getD a 0=fam.getD b 0:=by have:=congrArg Prod.snd e;simp only at this;omega
   have a9:a<fam.length:=by omega
   have a4:b<fam.length:=by omega
   simp[cXW,cQ9 a9,cQ9 a4]at G;exact(cZ5 (h₀:=a9) (h₁:=a4) b3).mp G
  ·obtain⟨k,hk,p,Y,G⟩:=bX5 U hx;have:fam.getD m 0=k:=by simp[cXW,hk]
   show ∃a,x=V.ref a/\H1 a=some (.tup [V.int (Y9 R shut (fam.getD m 0)),V.int ((fam.getD m 0:Nat):Int)]);rw[this];exact⟨p,Y,G⟩
  ·have hm:∀m∈out,m<g.length:=λm hm=>cXI.mp (X.mem_iff.mp hm);have I:=yE hl (.lst (out.map λi=>g.getD i .non));refine⟨l,Ce,⟨_,Cc yB⟩,λr S=>?_⟩;have b9:out.length=g.length:=by rw[X.length_eq,cX1]
   have b1:∀m∈out,∃p,g.getD m .non= .ref p/\H1 p=some (.tup [.int (Y9 R shut (fam.getD m 0)),.int ((fam.getD m 0:Nat):Int)]):=λm o=>by
    have J:=hm m o;have hg:g[m]? =some (g.getD m .non):=by simp[cXW,cQ9 J]
    obtain⟨k,hk,p,Y,G⟩:=bX5 U hg;have:fam.getD m 0=k:=by simp[cXW,hk]
    rw[this];exact⟨p,Y,G⟩
   refine aXf (λ_=>true) (bYV H1) (Cc yB) S (zn (by rw[cXe];omega)) (λv hv Z R' _ h=>h) (λv hv _ Z R' hH W=>?_) ?_
   ·obtain⟨m,o,rfl⟩:=cX3.mp hv;obtain⟨p,Y,G⟩:=b1 m o;rw[Y]at W ⊢;have e4:=I _ _ G;have e5:=(hH p (yI e4 S)).trans e4;rw[aWK G]at W;exact⟨_,Ce,p,_,1,_,Ce,Ce,Cd e5,Ce,W⟩
   ·have ff:(out.map λi=>g.getD i .non).filter (λ_=>true)=out.map λi=>g.getD i .non:=cJu.mpr λ_ _=>rfl;have e6:((out.map λi=>g.getD i .non).map (bYV H1))=(out.map λm=>fam.getD m 0).map λi=>V.int (i:Nat):=by
     rw[cZS,cZS];refine cJ1 λm o=>?_;obtain⟨p,Y,G⟩:=b1 m o;show bYV H1 (g.getD m .non)=V.int (fam.getD m 0:Nat);rw[Y];exact aWK G
    rw[ff,e6];refine q r _ (out.map λm=>fam.getD m 0) (u.trans (I.trans (yE S _))) ((u.trans I).fresh S) yB ⟨λk=>?_,?_⟩
    ·have b4:k∈out.map (λm=>fam.getD m 0)↔k∈fam:=by
      constructor
      ·intro h;obtain⟨m,o,rfl⟩:=cX3.mp h;have J:m<fam.length:=by rw[a6];exact hm m o
       simp[cXW,cQ9 J]
      ·intro h;obtain⟨m,J,e⟩:=cX2 h;refine cX3.mpr ⟨m,X.mem_iff.mpr (cXI.mpr (by omega)),?_⟩;simp[cXW,cQ9 J,e]
     rw[b4,b0 k];unfold Q3;rw[Bool.and_eq_true,Bool.or_eq_true,decide_eq_true_eq];refine and_congr Iff.rfl (and_congr Iff.rfl ?_);cases c<;> simp[Y9]
    ·rw[cJK];exact b6
end
end Law
namespace Law
open PySem L2 PyProof.Rows
open Bk (Row Rows)
open Stree (aQu qW vH)
abbrev aZN:Stmt:=xM Ar
def wB(k:xJ a H)(h:a c=none):xJ a (upd H c o):=λb u q=>by rw[yJ (yI q h)];exact k b u q
def vS(h:H p=some (.lst c)):∀a b,H a=some (.tup b)->upd H p o a=some (.tup b):=λa b e=>by rw[yJ (aXW e h (by intro z;cases z))];exact e
structure bVb(H:Hp)(ra:Nat)(rs:List Nat)(n:Nat)(L:Nat->Option Nat)(D:Nat->Int):Prop where
 lst:H ra=some (.lst (rs.map V.ref))
 len:rs.length=n
 row:∀i b,rs[i]? =some b->∃xs,H b=some (.lst xs)/\xs[1]? =some (.int (D i))/\xs[4]? =some (zY (L i))
inductive Y2(vs:List V)(H:Hp)(Q:VK)(h:XK):Prop|mk(ra:Nat)(rs:List Nat)(n:Nat)(L:Nat->Option Nat)(rk:Nat->Nat)(D:Nat->Int)(i:Nat)(h:vs= [.ref ra,.int (i:Nat)])(h:bVb H ra rs n L D)(h:Fm.Ok n L rk)(h:n<=60)(h:i<n)(h:∀ (H':Hp)(r:Nat)(out:List Nat),xJ H H'->H r=none->H' r=some (.lst (out.map λi=>V.int (i:Nat)))->(out.Pairwise λx y=>qW (Fm.rd L D rk x) (Fm.rd L D rk y)=true)->(∀k,k∈out↔k<n/\Fm.tp L rk k=Fm.tp L rk i)->Q (.ref r) H')
def Tk(H c:Hp):Prop:=∀a b,H a=some (.tup b)->c a=some (.tup b)
def xJ.tk(k:xJ H b):Tk H b:=λa c e=>k a _ e
def Tk.trans(a:Tk H g)(b:Tk g d):Tk H d:=λc f e=>b c f (a c f e)
def Q7.tk(k:Tk H a)(h:Q7 H b d):Q7 a b d:=let ⟨xs,e,z⟩:=h;⟨xs,k _ _ e,Paired.mapP z λ_ _ ⟨c,w1,w2⟩=>⟨c,w1,k _ _ w2⟩⟩
def bYR(H:Hp)(rd:Nat->aQu)(k:Nat)(x:V):Prop:=∃p b,x= .ref p/\H p=some (.tup [.ref b,.int (k:Nat)])/\Q7 H b (rd k)
def bYR.tk{rd:Nat->aQu}(t:Tk H d){k:Nat}(h:bYR H rd k x):bYR d rd k x:=let ⟨p,b,e,a,c⟩:=h;⟨p,b,e,t _ _ a,Q7.tk t c⟩
theorem Q0{α β:Type}{F:α->β->Prop}:∀ {l:List α} {m:List β} {i:Nat} {y:β},cXZ F l m->m[i]? =some y->∃x,l[i]? =some x/\F x y
 |_,_,0,_,.cons r _,h=>by simp at h;subst h;exact⟨_,Ce,r⟩
 |_,_,i+1,_,.cons _ t,h=>by simpa using Q0 (i:=i) t (by simpa using h)
 |_,_,i,_,.nil,h=>by simp at h
def aXm{α β:Type}{F:α->β->Prop}{x:α}{y:β}(r:F x y):∀ {l:List α} {m:List β},cXZ F l m->cXZ F (l++ [x]) (m++ [y])
 |_,_,.nil=> .cons r .nil
 |_,_,.cons a t=> .cons a (aXm r t)
section
variable {K:cXc}
def bXr:yO [A1,AB,"_law_root","_law_keys",AH,"_law_key","_law_top"] [A1,AB] (yH aZN):=scM
def bQb:xO [A1,AB,"_law_root","_law_keys",AH,"_law_key","_law_top"] (yH aZN) C6 [] [] (lsN [(".0",.local),(C6,.local)]):=
 lcM
def bYA(H:Hp):V->V
 |.ref p=>match H p with
  |some (.tup [_,y])=>y
  |_=> .non
 |_=> .non
def aWL(h:H p=some (.tup [x,y])):bYA H (.ref p)=y:=by
 show(match H p with|some (.tup [_,y])=>y|_=>V.non)=y;rw[h]
def bQB(T:uK mg)(a0:mg AQ=none)(F:Fun K Ar Ar aZN f fd):xL P w K mg base CX0 2 f fd [A1,AB] Y2:=by
 have sc:=bXr;refine F.ok (k:=1) sc (λf3 A outer s H0 vs Q E hr h=>?_);obtain⟨U,rs,n,L,g,D,i,rfl,hR,ho,hn,hi,q⟩:=h;refine⟨_,(yC (yU (i:=2) (pv 1)) (yC (jP cX0 (yM vB (yL yK (yL yK (pv 0) (pv 2)) yG) zN) (yF (yU (i:=2) (yL yK (yL yK (pv 0) (pv 2)) yG)))) (yC (yU (i:=3) (xB yD)) (yC (wV cX0 rfl (wA rfl T.b_range (yA (yR yN rfl T.b_len xG (yA (pv 0) yD)) yD)) (xI (i:=4)) (yC (yU (i:=5) (xK (yA (xK (yA (yL yK (yL yK (pv 0) (pv 4)) yG) (yA (pv 4) yD))) yD))) (yC (yU (i:=6) (pv 4)) (yC (jP cX0 (yM vB (yL yK (yL yK (pv 0) (pv 6)) yG) zN) (yC (yU (i:=6) (yL yK (yL yK (pv 0) (pv 6)) yG)) (yF (yU (i:=5) (yV bQH (xK (yA (xK (yA (yL yK (yL yK (pv 0) (pv 6)) yG) (yA (pv 6) yD))) yD)) (pv 5)))))) (yF (xA (yM zU (pv 6) (pv 2)) (yF (yZ (jD cXF cXP cXQ xR (pv 3) (yA (xK (yA (pv 5) (yA (pv 4) yD))) yD)))) yS)))))) (yF (yP (aQk bQb rfl (xN (yR (aQL hr) rfl a0 wZ (yA (pv 3) yD))) (λ_ _ _ _ _=>wS) (λ_ _ _ _ _=>(yL ixT (pv 0) yG))))))))),?_⟩;have row:∀ {H:Hp} {t:Nat},xJ H0 H->t<n->∃b G,(rs.map V.ref)[t]? =some (.ref b)/\H b=some (.lst G)/\G[1]? =some (.int (D t))/\G[4]? =some (zY (L t)):=λ{H t} k ht=>by
  have d4:t<rs.length:=by rw[hR.len];exact ht
  have hb:=cQ9 d4;obtain⟨G,h1,h2,h3⟩:=hR.row t _ hb;exact⟨rs[t],G,by rw[cXu,hb];rfl,k _ _ h1,h2,h3⟩
 refine⟨_,Ce,?_⟩;dsimp only[yW];refine⟨λm σ H=>∃t:Nat,σ= [some (.ref U),some (.int (i:Nat)),some (.int (t:Nat)),none,none,none,none]/\H=H0/\t<n/\Fm.tp L g t=Fm.tp L g i/\m=g t,⟨g i,i,Ce,Ce,hi,Ce,rfl⟩,?_⟩;rintro m σ H ⟨t,rfl,rfl,ht,c1,rfl⟩;obtain⟨b,G,g1,g2,g3,g4⟩:=row (xJ.refl H) ht;refine⟨_,Ce,_,Ce,U,_,_,_,Ce,Ce,Cc hR.lst,yT g1,b,G,4,_,Ce,Ce,Cc g2,yT (j:=4) g4,Ce,_,Ce,?_⟩;cases hl:L t with
 |some j=>obtain⟨hj,b3⟩:=ho.lt t j ht hl;refine onT rfl ⟨λσ' H'=>∃m',m'<g t/\∃t:Nat,σ'= [some (.ref U),some (.int (i:Nat)),some (.int (t:Nat)),none,none,none,none]/\H'=H/\t<n/\Fm.tp L g t=Fm.tp L g i/\m'=g t,λσ' H' z=>z,?_⟩;refine⟨_,Ce,_,Ce,U,_,_,_,Ce,Ce,Cc hR.lst,yT g1,b,G,4,_,Ce,Ce,Cc g2,yT (j:=4) g4,?_⟩;rw[hl];exact⟨g j,b3,j,Ce,Ce,hj,by rw[<- c1,Fm.uX ho ht hl],rfl⟩
 |none=>
  have c8:t=Fm.tp L g i:=by rw[<- c1,Fm.wO hl]
  subst c8;refine onF rfl ?_;refine⟨z0,λka c2=>?_⟩;dsimp only[yW];have k1:=yE c2 (.lst []);have c6:(rs.map V.ref).length=n:=by rw[cXe];exact hR.len
  refine⟨_,Ce,U,_,Ce,.inl (Cc (k1 _ _ hR.lst)),?_⟩;rw[c6];refine⟨_,Ce,by omega,by omega,?_⟩;rw[cXG];refine vO (λt σ H'=>L2.Ez4 λ(d:List V)(o4 o5 o6:Option V)=>σ= [some (.ref U),some (.int (i:Nat)),some (.int (Fm.tp L g i:Nat)),some (.ref ka),o4,o5,o6]/\xJ H H'/\H' ka=some (.lst d)/\
   cXZ (bYR H' (Fm.rd L D g)) ((cXm t).filter λk=>decide (Fm.tp L g k=Fm.tp L g i)) d) ?_ ?_ ?_
  ·exact⟨[],none,none,none,Ce,k1,yB,.nil⟩
  ·rintro k σ O hk ⟨d,o4,o5,o6,rfl,C,I,hP⟩;rw[cJz];dsimp only[yW];obtain⟨b,G,g1,g2,g3,g4⟩:=row C hk;have e9:=C _ _ hR.lst;refine⟨_,Ce,_,Ce,U,_,_,_,Ce,Ce,Cc e9,yT g1,b,G,1,_,Ce,Ce,Cc g2,yT (j:=1) g3,_,Ce,z2,λp1 a1=>⟨z1,λp2 b6=>?_⟩⟩;dsimp only[yW];have d1:=yE a1 (.tup [V.int (D k),V.int (k:Nat)]);have c7:=yE b6 (.tup [V.ref p1]);have Z:Q7 (upd (upd O p1 (.tup [V.int (D k),V.int (k:Nat)])) p2 (.tup [V.ref p1])) p2 [(D k,(k:Int))]:=⟨[.ref p1],yB,.cons ⟨p1,Ce,c7 _ _ yB⟩ .nil⟩;have c4:xJ O (upd (upd O p1 (.tup [V.int (D k),V.int (k:Nat)])) p2 (.tup [V.ref p1])):=d1.trans c7;generalize upd (upd O p1 (.tup [V.int (D k),V.int (k:Nat)])) p2 (.tup [V.ref p1])=H2 at Z c4 ⊢;refine⟨_,Ce,?_⟩;dsimp only[yW];refine⟨λm σ J=>L2.Ez3 λ(o:Nat)(S:aQu)(kb:Nat)=>σ= [some (.ref U),some (.int (i:Nat)),some (.int (Fm.tp L g i:Nat)),some (.ref ka),some (.int (k:Nat)),some (.ref kb),some (.int (o:Nat))]/\xJ O J/\o<n/\
     Q7 J kb ((D o,(o:Int))::S)/\Fm.rd L D g k=Fm.rd L D g o++S/\Fm.tp L g o=Fm.tp L g k/\m=g o,⟨g k,k,[],p2,Ce,c4,hk,Z,by rw[cZg],Ce,rfl⟩,?_⟩
   rintro m σ J ⟨o,S,kb,rfl,u,a7,a2,b2,b8,rfl⟩;have y:=C.trans u;obtain⟨b,G,g1,g2,g3,g4⟩:=row y a7;refine⟨_,Ce,_,Ce,U,_,_,_,Ce,Ce,Cc (y _ _ hR.lst),yT g1,b,G,4,_,Ce,Ce,Cc g2,yT (j:=4) g4,Ce,_,Ce,?_⟩;cases N:L o with
   |some j=>
    obtain⟨hj,b3⟩:=ho.lt o j a7 N;refine onT rfl ⟨λσ J=>∃m',m'<g o/\L2.Ez3 λ(o:Nat)(S:aQu)(kb:Nat)=>σ= [some (.ref U),some (.int (i:Nat)),some (.int (Fm.tp L g i:Nat)),some (.ref ka),some (.int (k:Nat)),some (.ref kb),some (.int (o:Nat))]/\xJ O J/\o<n/\
     Q7 J kb ((D o,(o:Int))::S)/\Fm.rd L D g k=Fm.rd L D g o++S/\Fm.tp L g o=Fm.tp L g k/\m'=g o,λσ' H' z=>z,?_⟩
    refine⟨_,Ce,_,Ce,U,_,_,_,Ce,Ce,Cc (y _ _ hR.lst),yT g1,b,G,4,_,Ce,Ce,Cc g2,yT (j:=4) g4,?_⟩;rw[N];dsimp only[yW,zY];obtain⟨b',d7,d5,d9,d3,f2⟩:=row y hj;refine⟨_,Ce,_,Ce,U,_,_,_,Ce,Ce,Cc (y _ _ hR.lst),yT d5,b',d7,1,_,Ce,Ce,Cc d9,yT (j:=1) d3,_,Ce,z2,λM e7=>⟨z1,λq2 e8=>?_⟩⟩;have d8:=yE e7 (.tup [V.int (D j),V.int (j:Nat)]);have c5:=yE e8 (.tup [V.ref M]);have b5:xJ J (upd (upd J M (.tup [V.int (D j),V.int (j:Nat)])) q2 (.tup [V.ref M])):=d8.trans c5;have e1:upd (upd J M (.tup [V.int (D j),V.int (j:Nat)])) q2 (.tup [V.ref M]) M=some (.tup [V.int (D j),V.int (j:Nat)]):=c5 _ _ yB;have W:upd (upd J M (.tup [V.int (D j),V.int (j:Nat)])) q2 (.tup [V.ref M]) q2=some (.tup [V.ref M]):=yB;generalize upd (upd J M (.tup [V.int (D j),V.int (j:Nat)])) q2 (.tup [V.ref M])=H4 at b5 e1 W ⊢;obtain⟨ys,y1,y2⟩:=Q7.tk (xJ.tk b5) a2;have a9:ys.length=S.length+1:=by have:=y2.length;simpa using this.symm
    have c0:(Fm.rd L D g k).length<=n:=Fm.bYn ho hk;rw[b2,cXD]at c0;have d6:ys≠ []:=λz=>by rw[z]at a9;simp at a9
    refine⟨_,Ce,q2,kb,_,ys,Ce,Ce,Cd W,Cd y1,by simp,by rw[cXC];show 1+ys.length<=_;omega,λz=>absurd z d6,λ_ q3 b7=>?_⟩;have B:=yE b7 (.tup ([V.ref M]++ys));refine⟨g j,b3,j,(D o,(o:Int))::S,q3,Ce,u.trans (b5.trans B),hj,⟨_,yB,.cons ⟨M,Ce,B _ _ e1⟩ (Paired.mapP y2 λ_ _ ⟨c,w1,w2⟩=>⟨c,w1,B _ _ w2⟩)⟩,?_,?_,rfl⟩
    ·rw[b2,Fm.jQ ho a7 N,cZn];rfl
    ·rw[<- b8,Fm.uX ho a7 N]
   |none=>
    have b4:o=Fm.tp L g k:=by rw[<- b8,Fm.wO N]
    have d2:Fm.rd L D g k=(D o,(o:Int))::S:=by rw[b2,Fm.aQl N];rfl
    refine onF rfl ?_;refine⟨_,Ce,_,Ce,Ce,_,Ce,?_⟩;rw[cJE,cZo];by_cases ec:Fm.tp L g k=Fm.tp L g i
    ·have hd:decide ((V.int (o:Nat))=V.int (Fm.tp L g i:Nat))=true:=by rw[b4,ec];simp
     refine onT (by rw[b4,ec];simp) ?_;have b1:=u _ _ I;refine⟨_,Ce,.inl ⟨rfl,_,Cc b1⟩,_,Ce,_,Ce,z2,λq3 b7=>?_⟩;have B:=yE b7 (.tup [V.ref kb,V.int (k:Nat)]);have b0:=B _ _ b1;have il:d.length<=k:=by have:=hP.length;rw[<- this];exact cXJ (cX6 _ _) (by simp)
     have t6:Tk (upd J q3 (.tup [V.ref kb,V.int (k:Nat)])) (upd (upd J q3 (.tup [V.ref kb,V.int (k:Nat)])) ka (.lst (d++ [V.ref q3]))):=λa G e=>vS b0 a G e;refine⟨ka,d,.ref q3,Ce,Ce,b0,zlt (by omega),d++ [.ref q3],_,_,_,Ce,wB (C.trans (u.trans B)) c2,yB,?_⟩;have e3: [k].filter (λk=>decide (Fm.tp L g k=Fm.tp L g i))= [k]:=by simp[ec]
     rw[e3];refine aXm ⟨q3,kb,Ce,t6 _ _ yB,?_⟩ (Paired.mapP hP λ_ _ z=>z.tk ((xJ.tk (u.trans B)).trans t6));rw[d2];exact Q7.tk ((xJ.tk B).trans t6) a2
    ·refine onF ?_ ⟨d,_,_,_,Ce,C.trans u,u _ _ I,?_⟩
     ·rw[b4];simp;omega
     ·have e3: [k].filter (λk=>decide (Fm.tp L g k=Fm.tp L g i))= []:=by simp[ec]
      rw[e3,cZg];exact Paired.mapP hP λ_ _ z=>z.tk (xJ.tk u)
  ·rintro σ O ⟨d,o4,o5,o6,rfl,C,I,hP⟩;generalize a5:(cXm n).filter (λk=>decide (Fm.tp L g k=Fm.tp L g i))=fam at hP;have f0:fam.length=d.length:=hP.length;have fn:fam.length<=n:=by rw[<- a5];exact cXJ (cX6 _ _) (by simp)
   have a6:∀k,k∈fam↔k<n/\Fm.tp L g k=Fm.tp L g i:=λk=>by rw[<- a5,cZd,cXI,decide_eq_true_eq]
   have d0:fam.Nodup:=by rw[<- a5];exact cVv.sublist cZ2
   have Y:∀m,m<d.length->fam.getD m 0∈fam:=λm hm=>by
    have c9:m<fam.length:=by omega
    simp[cXW,cQ9 c9]
   refine⟨_,Ce,ka,d,λm=>Fm.rd L D g (fam.getD m 0),λm=>((fam.getD m 0:Nat):Int),Ce,I,by omega,λa b ha hb e=>?_,λm x hx=>?_,λl out hl a1 b6=>?_⟩
   ·have W:=Fm.bQV ho ((a6 _).mp (Y a ha)).1 ((a6 _).mp (Y b hb)).1 e;have c3:a<fam.length:=by omega
    have b9:b<fam.length:=by omega
    simp[cXW,cQ9 c3,cQ9 b9]at W;exact(cZ5 (h₀:=c3) (h₁:=b9) d0).mp W
   ·obtain⟨k,hk,p,b,e1,W,e3⟩:=Q0 hP hx;have:fam.getD m 0=k:=by simp[cXW,hk]
    show ∃a b,x=V.ref a/\O a=some (.tup [V.ref b,V.int ((fam.getD m 0:Nat):Int)])/\Q7 O b (Fm.rd L D g (fam.getD m 0));rw[this];exact⟨p,b,e1,W,e3⟩
   ·have hm:∀m∈out,m<d.length:=λm hm=>cXI.mp (a1.mem_iff.mp hm);have k2:=yE hl (.lst (out.map λi=>d.getD i .non));refine⟨l,Ce,⟨_,Cc yB⟩,λr a8=>?_⟩;have f1:out.length=d.length:=by rw[a1.length_eq,cX1]
    refine aXf (λ_=>true) (bYA O) (Cc yB) a8 (zn (by rw[cXe];omega)) ?_ ?_ ?_
    ·intro v hv H' R hH X;exact X
    ·intro v hv _ H' R hH X;obtain⟨m,a3,rfl⟩:=cX3.mp hv;have a4:=hm m a3;have hg:d[m]? =some (d.getD m .non):=by simp[cXW,cQ9 a4]
     obtain⟨k,hk,p,b,e1,W,e3⟩:=Q0 hP hg;rw[e1]at X ⊢;have e4:=k2 _ _ W;have e0:p≠r:=yI e4 a8;have e5:H' p=some (.tup [.ref b,.int (k:Nat)]):=by rw[hH p e0];exact e4
     refine⟨_,Ce,p,_,1,.int (k:Nat),Ce,Ce,Cd e5,Ce,?_⟩;have:bYA O (.ref p)= .int (k:Nat):=aWL W;rw[this]at X;exact X
    ·have ff:(out.map λi=>d.getD i .non).filter (λ_=>true)=out.map λi=>d.getD i .non:=cJu.mpr λ_ _=>rfl;rw[ff,cZS];have e6:(out.map (bYA O∘λi=>d.getD i .non))=(out.map λm=>fam.getD m 0).map λi=>V.int (i:Nat):=by
      rw[cZS];refine cJ1 λm a3=>?_;have a4:=hm m a3;have hg:d[m]? =some (d.getD m .non):=by simp[cXW,cQ9 a4]
      obtain⟨k,hk,p,b,e1,W,e3⟩:=Q0 hP hg;show bYA O (d.getD m .non)=V.int (fam.getD m 0:Nat);have:fam.getD m 0=k:=by simp[cXW,hk]
      rw[e1,this];exact aWL W
     rw[e6];refine q _ r (out.map λm=>fam.getD m 0) (C.trans (k2.trans (yE a8 _))) ((C.trans k2).fresh a8) yB ?_ λk=>?_
     ·rw[cJK];exact b6
     ·rw[<- a6 k];constructor
      ·intro h;obtain⟨m,a3,rfl⟩:=cX3.mp h;exact Y m (hm m a3)
      ·intro h;obtain⟨m,a4,e⟩:=cX2 h;refine cX3.mpr ⟨m,a1.mem_iff.mpr (cXI.mpr (by omega)),?_⟩;simp[cXW,cQ9 a4,e]
end
def xF.rows{R:Rows}(h:xF H d c R):bVb H d c R.length (Bk.lk R) (Bk.dt R):=
 ⟨h.lst,h.len,λi b e=>by
  have f:i<R.length:=by rw[<- h.len];exact(cXn.mp e).1
  have a:=cQ9 f;obtain⟨k,g,j⟩:=h.row i b _ e a;exact⟨_,g,by rw[Bk.uL a];rfl,by rw[Bk.uM a];rfl⟩⟩
end Law
namespace Law
open PySem L2 PyProof.Rows
open Bk (Row Rows)
def jX(r:Row)(a:Nat):List V:= [.str r.way,.int r.date,.str r.partner,.int r.term,zY r.link,.str r.place,.bl r.void,.ref a]
def Z1{r:Row}{a:Nat}{l:List Str}:HO.lst (jX r a)≠HO.lst (l.map V.str):=λz=>by
 injection z with z
 match l,z with
 |[],z=>cases z
 |[_],z=>injection z with _ z;cases z
 |_::_::_,z=>injection z with _ z;injection z with z _;cases z
def aXt{r:Row}{a:Nat}{l:List Nat}:HO.lst (jX r a)≠HO.lst (l.map V.ref):=λz=>by
 injection z with z
 match l,z with
 |[],z=>cases z
 |_::_,z=>injection z with z _;cases z
def xF.upd{H:Hp}{o:Nat}{j:List Nat}{R:Rows}{k:Nat}{b:Nat}{r:Row}(h:xF H o j R)(s:j[k]? =some b)(u:R[k]? =some r)(f:Row->Row){n:Nat}(d:H n=some (.lst ((f r).copies.map V.str))):xF (upd H b (.lst (jX (f r) n))) o j (Bk.xV R k f):=by
 obtain⟨A,l,_⟩:=h.row k b r s u;have m:o≠b:=aXW h.lst l (cXT aXt);refine⟨by rw[yJ m];exact h.lst,by rw[Bk.wR];exact h.len,h.nd,λi c q g a=>?_⟩;rw[Bk.wC]at a;by_cases e:i=k
 ·subst e;rw[s]at g;cases g;rw[if_pos rfl,u]at a;cases a;exact⟨n,yB,by rw[yJ (aXW d l (cXT Z1))];exact d⟩
 ·rw[if_neg e]at a;obtain⟨y,x,w⟩:=h.row i c q g a;have p:c≠b:=λz=>by
   have t:=cXn.mp g;have v:=cXn.mp s;exact e ((cZ5 (h₀:=t.1) (h₁:=v.1) h.nd).mp (by rw[t.2,v.2];exact z))
  exact⟨y,by rw[yJ p];exact x,by rw[yJ (aXW w l (cXT Z1))];exact w⟩
def NoC(a:List Nat)(H:Hp)(s:Nat):Prop:=∀b∈a,∀l,H b=some (.lst l)->l[7]? ≠some (.ref s)
def But(a:List Nat)(H c:Hp):Prop:=(∀b o,b∉a->H b=some o->c b=some o)/\(∀b∈a,∃o,c b=some o)/\∀s u,H s=some u->NoC a H s->NoC a c s
def xF.dom{R:Rows}(h:xF H f a R):∀b∈a,∃o,H b=some o:=λb j=>by
 obtain⟨i,c,e⟩:=cX2 j;have d:=cQ9 (show i<R.length by rw[<- h.len];exact c);obtain⟨k,g,_⟩:=h.row i b _ (by rw[cQ9 c,e]) d;exact⟨_,g⟩
def But.of(g:∀b∈f,∃o,H b=some o)(k:xJ H c):But f H c:=⟨λb o _ e=>k b o e,λb a=>let ⟨o,e⟩:=g b a;⟨o,k _ _ e⟩,λs u e n b a l h=>by
 obtain⟨o,d⟩:=g b a;have:=k _ _ d;rw[h]at this;cases this;exact n b a l d⟩
def But.trans(a:But d H h)(b:But d h g):But d H g:=⟨λc o n e=>b.1 c o n (a.1 c o n e),b.2.1,λs u e n=>by
 by_cases f:s∈d
 ·obtain⟨o,i⟩:=a.2.1 s f;exact b.2.2 s o i (a.2.2 s u e n)
 ·exact b.2.2 s u (a.1 s u f e) (a.2.2 s u e n)⟩
def But.upd{d:List Nat}{H:Hp}{k:Nat}{b:Nat}{l l':List V}(g:∀b∈d,∃o,H b=some o)(h:d[k]? =some b)(hl:H b=some (.lst l))(f:l'[7]? =l[7]?):But d H (upd H b (.lst l')):=
 ⟨λc u n e=>by rw[yJ (λz=>n (by rw[z];exact cXs h))];exact e,λc a=>by
  by_cases z:c=b
  ·rw[z];exact⟨_,yB⟩
  ·rw[yJ z];exact g c a,λs u e n c a x ex=>by
  by_cases z:c=b
  ·subst z;rw[yB]at ex;cases ex;rw[f];exact n c a l hl
  ·rw[yJ z]at ex;exact n c a x ex⟩
abbrev bWW:Stmt:=xM C7
inductive bVz(vs:List V)(H:Hp)(Q:VK)(h:XK):Prop|mk(ra:Nat)(rs:List Nat)(R:Rows)(k:Nat)(r:Row)(h:vs= [.ref ra,.int (k:Nat)])(h:xF H ra rs R)(h:R.length<=100)(h:R[k]? =some r)(h:∀ (H':Hp)(a:Str)(R':Rows),But rs H H'->xF H' ra rs R'->((Bk.wY R k≠ []/\a=B4/\R'=R)\/(Bk.wY R k= []/\a=Ay/\R'=Bk.xV R k λr=>{r with link:=none,void:=true}))->Q (.str a) H')
section
variable {K:cXc}
def bKa:yO [A1,AB,Aq] [A1,AB] (yH bWW):=scM
def bWw(a:FnG P w K mg base 1 Au [A1,AB] aWT)(F:Fun K C7 C7 bWW f fd):xL P w K mg base CX0 2 f fd [A1,AB] bVz:=by
 have G:=bKa;refine F.ok (k:=1) G (λI A outer s H L Q E u h=>?_);obtain⟨v,y,R,k,r,rfl,d,hR,p,q⟩:=h;refine⟨_,(yC (yU (i:=2) (yL yK (pv 0) (pv 1))) (yC (xA (yM (jN u.units0) (xU a u rfl (yA (pv 0) (yA (pv 1) yD))) (xB yD)) (yF (yP yQ)) yS) (yC (uR zN (X2 (pv 2) yG wT)) (yC (uR vQ (X2 (pv 2) yG wT)) (yF (yP yQ)))))),?_⟩;obtain⟨b,B,x,J,D,z⟩:=d.get p;refine⟨_,Ce,_,Ce,v,_,_,_,Ce,Ce,Cc d.lst,yT B,?_⟩;dsimp only[yW];refine⟨_,Ce,_,Ce,v,y,R,k,Ce,d,hR,λt n=>⟨z0,λpn m=>?_⟩⟩;have C:=yE n (.lst ((Bk.wY R k).map λi=>V.int (i:Nat)));have o:=yE m (.lst []);refine⟨t,pn,_,Ce,Ce,Cc (o _ _ yB),Cc yB,_,Ce,?_⟩;have kA:=C.trans o;generalize upd (upd H t (.lst ((Bk.wY R k).map λi=>V.int (i:Nat)))) pn (.lst [])=H2 at kA ⊢;have c:=d.same kA;cases e:Bk.wY R k with
 |cons j l=>exact onT rfl (q H2 _ R (But.of d.dom kA) c (.inl ⟨by rw[e];simp,Ce,rfl⟩))
 |nil=>refine onF rfl ?_;have g:=kA _ _ D;refine⟨_,Ce,b,_,4,4,Ce,Ce,g,Ce,?_⟩;refine⟨_,Ce,b,_,6,6,Ce,Ce,yB,Ce,?_⟩;rw[qP];exact q _ _ _ ((But.of d.dom kA).trans (But.upd c.dom x g rfl)) (c.upd x p (λr=>{r with link:=none,void:=true}) (kA _ _ z)) (.inr ⟨e,Ce,rfl⟩)
end
end Law
namespace Law
open PySem L2 PyProof.Rows
open Bk (Row Rows)
abbrev bQ3:Stmt:=xM Bm
def aYy(R:Rows)(k:Nat)(r:Row)(d:Int):Prop:=(∃j,r.link=some j/\d<Bk.dt R j)\/∃c∈Bk.wY R k,Bk.dt R c<d
inductive bXF(vs:List V)(H:Hp)(Q:VK)(h:XK):Prop|mk(ra:Nat)(rs:List Nat)(R:Rows)(k:Nat)(r:Row)(d:Int)(h:vs= [.ref ra,.int (k:Nat),.int d])(h:xF H ra rs R)(h:R.length<=100)(h:R[k]? =some r)(h:(∀j,r.link=some j->j<R.length))(h:∀ (H':Hp)(a:Str)(R':Rows),But rs H H'->xF H' ra rs R'->((aYy R k r d/\a="too early"/\R'=R)\/(¬aYy R k r d/\a="dated"/\R'=Bk.xV R k λr=>{r with date:=d}))->Q (.str a) H')
section
variable {K:cXc}
def bJy:yO [A1,AB,AR,Aq,AH] [A1,AB,AR] (yH bQ3):=scM
def bZT(a:FnG P w K mg base 1 Au [A1,AB] aWT)(F:Fun K Bm Bm bQ3 f fd):xL P w K mg base CX0 2 f fd [A1,AB,AR] bXF:=by
 have sc:=bJy;refine F.ok (k:=1) sc (λa0 A outer s H vs Q E hr h=>?_);obtain⟨y,rs,R,k,r,d,rfl,n,hR,hk,T,q⟩:=h;refine⟨_,(yC (yU (i:=3) (yL yK (pv 0) (pv 1))) (yC (xA (PW.pt (jF (yM vB (yL yK (pv 3) yG) zN) (uH (yM uN (pv 2) (yL yK (yL yK (pv 0) (yL yK (pv 3) yG)) yG))))) (yF (yP yQ)) yS) (yC (wV cX0 rfl (xN (xU a hr rfl (yA (pv 0) (yA (pv 1) yD)))) (xI (i:=4)) (yF (xA (yM uN (yL yK (yL yK (pv 0) (pv 4)) yG) (pv 2)) (yF (yP yQ)) yS))) (yC (uR (pv 2) (X2 (pv 3) yG wT)) (yF (yP yQ)))))),?_⟩;obtain⟨b,g1,g2,cp,X,g4⟩:=n.get hk;refine⟨_,Ce,_,Ce,y,_,_,_,Ce,Ce,Cc n.lst,yT g1,?_⟩;dsimp only[yW];refine zX (λJ M=>J= [some (.ref y),some (.int (k:Nat)),some (.int d),some (.ref b),none]/\M=H/\∀j,r.link=some j->Bk.dt R j<=d) ?Z0 (λo=>?_);case Z0=>
  rintro J M ⟨rfl,rfl,h1⟩;refine⟨_,Ce,_,Ce,y,rs,R,k,Ce,n,hR,λL W=>⟨L,Ce,⟨_,Cc yB⟩,?_⟩⟩;have kA:=yE W (.lst ((Bk.wY R k).map λi=>V.int (i:Nat)));have p:upd M L (.lst ((Bk.wY R k).map λi=>V.int (i:Nat))) L=some (.lst ((Bk.wY R k).map λi=>V.int (i:Nat))):=yB;generalize upd M L (.lst ((Bk.wY R k).map λi=>V.int (i:Nat)))=H2 at kA p ⊢;have m:=n.same kA;refine zV (xs:=(Bk.wY R k).map λi=>V.int (i:Nat)) (λt σ S=>∃O,σ= [some (.ref y),some (.int (k:Nat)),some (.int d),some (.ref b),O]/\S=H2/\∀u j,u<t->(Bk.wY R k)[u]? =some j->d<=Bk.dt R j) ?_ ?_ ?_ ?_
  ·exact⟨_,Ce,Ce,λu j I=>absurd I (cZT _)⟩
  ·rintro t σ S _ ⟨O,rfl,rfl,_⟩;exact Cc p
  ·rintro t x σ S C ⟨O,rfl,rfl,l⟩;rw[cXu]at C;cases N:(Bk.wY R k)[t]? with
   |none=>rw[N]at C;cases C
   |some j=>
    rw[N]at C;cases C;have D:=cXs N;have v:j<R.length:=cXI.mp (cZd.mp D).1;have g:=cQ9 v;obtain⟨Z,Y,j2,cj,U,j4⟩:=m.get g;dsimp only[yW];refine⟨_,Ce,_,Ce,y,_,_,_,Ce,Ce,Cc m.lst,yT Y,Z,_,1,_,Ce,Ce,Cc U,Ce,_,Ce,_,_,Ce,Ce,_,Ce,?_⟩;cases B:decide (R[j].date<d)with
    |true=>exact onT rfl (q _ _ R (But.of n.dom kA) m (.inl ⟨.inr ⟨j,D,by rw[Bk.uL g];exact of_decide_eq_true B⟩,Ce,rfl⟩))
    |false=>
     refine onF rfl ⟨_,Ce,Ce,λu i I z=>?_⟩;by_cases e:u=t
     ·subst e;rw[N]at z;cases z;rw[Bk.uL g];have:=of_decide_eq_false B;omega
     ·exact l u i (by omega) z
  ·rintro σ S ⟨O,rfl,rfl,l⟩;rw[cXe]at l;have G:=kA _ _ X;refine⟨_,Ce,_,Ce,b,_,1,1,Ce,Ce,G,Ce,?_⟩;refine q _ _ _ ((But.of n.dom kA).trans (But.upd m.dom g2 G rfl)) (m.upd g2 hk (λr=>{r with date:=d}) (kA _ _ g4)) (.inr ⟨?_,Ce,rfl⟩);rintro(⟨j,e1,e2⟩|⟨c,hc,e2⟩)
   ·have:=h1 j e1;omega
   ·obtain⟨u,I,e⟩:=cX2 hc;have:=l u c I (by rw[cQ9 I,e]);omega
 refine⟨_,Ce,b,_,4,_,Ce,Ce,Cc X,Ce,Ce,_,Ce,?_⟩;cases hl:r.link with
 |none=>exact onF rfl (onF rfl (o _ _ ⟨rfl,Ce,λj hj=>by rw[hl]at hj;cases hj⟩))
 |some j=>
  have v:=T j hl;have g:=cQ9 v;obtain⟨Z,Y,j2,cj,U,j4⟩:=n.get g;refine onT rfl ⟨_,Ce,_,Ce,_,Ce,b,_,4,_,Ce,Ce,Cc X,Ce,?_⟩;rw[hl];refine⟨y,_,_,_,Ce,Ce,Cc n.lst,yT Y,Z,_,1,_,Ce,Ce,Cc U,Ce,_,_,Ce,Ce,_,Ce,?_⟩;cases B:decide (d<R[j].date)with
  |true=>exact onT rfl (q _ _ R (But.of n.dom (xJ.refl _)) n (.inl ⟨.inl ⟨j,hl,by rw[Bk.uL g];exact of_decide_eq_true B⟩,Ce,rfl⟩))
  |false=>exact onF rfl (o _ _ ⟨rfl,Ce,λi z=>by rw[hl]at z;cases z;rw[Bk.uL g];have:=of_decide_eq_false B;omega⟩)
end
end Law
namespace Law
open PySem L2 PyProof.Rows
open Bk (Row Rows xZ zO Ans)
abbrev bWU:Stmt:=xM C8
inductive bVy(vs:List V)(H:Hp)(Q:VK)(h:XK):Prop|mk(ra:Nat)(rs:List Nat)(R:Rows)(m o:Int)(h:vs= [.ref ra,.int m,.int o])(h:xF H ra rs R)(h:R.length<=60)(h:Bk.qQ R)(h:∀ (H':Hp)(a:Str)(R':Rows),But rs H H'->xF H' ra rs R'->(∀S,xZ R S (.hang m o) (.txt a) R' S)->Q (.str a) H')
def aXs{r:Row}{b:Nat}{l:List Nat}:HO.lst (jX r b)≠HO.lst (l.map λi=>V.int (i:Nat)):=λz=>by
 injection z with z
 cases l with
 |nil=>cases z
 |cons a l=>cases z
def aXe(R:Rows)(l:List Nat)(k:Nat)(name:Str):Bk.laid R (l++ [k]) name=Bk.xV (Bk.laid R l name) k λr=>{r with place:=name}:=by
 unfold Bk.laid;rw[cWC];rfl
def vZ:decide (V.str a=V.str b)=decide (a=b):=by rw[Bool.eq_iff_iff];simp
def aKm:decide (V.int (a:Nat)=V.int (b:Nat))=decide (a=b):=by rw[Bool.eq_iff_iff];simp;omega
section
variable {K:cXc}
def aWo{K:cXc}{H:Hp}{n l:Nat}{d:List Nat}{R:Rows}{a:List Nat}{name:Str}{t:Nat}{k:Nat}(e:xF H n d (Bk.laid R (a.take t) name))(q:a[t]? =some k)(j:k<R.length)(hl:H l=some (.lst (a.map λi=>V.int (i:Nat)))): ∃ (b c:Nat)(r:Row),(d.map V.ref)[k]? =some (.ref b)/\H b=some (.lst (jX r c))/\xF (upd H b (.lst (jX {r with place:=name} c))) n d (Bk.laid R (a.take (t+1)) name)/\But d H (upd H b (.lst (jX {r with place:=name} c)))/\upd H b (.lst (jX {r with place:=name} c)) l=some (.lst (a.map λi=>V.int (i:Nat)))/\b∈d:=by
 have g:k<(Bk.laid R (a.take t) name).length:=by rw[Bk.wI];exact j
 have m:=cQ9 g;obtain⟨b,p,h,c,f,o⟩:=e.get m;refine⟨b,c,_,p,f,?_,But.upd e.dom h f rfl,?_,cXs h⟩
 ·rw[show a.take (t+1)=a.take t++ [k]from by rw[cZa,q];rfl,aXe];exact e.upd h m (λr=>{r with place:=name}) o
 ·rw[yJ (aXW hl f (cXT aXs))];exact hl
def bW8:yO [A1,AB,BC,Aq,"_law_other",AH,"_law_row"] [A1,AB,BC] (yH bWU):=scM
def bWu(y:FnG P w K mg base 2 Ah [A1,AB] aQJ)(a:FnG P w K mg base 2 Ar [A1,AB] Y2)(F:Fun K C8 C8 bWU f fd):xL P w K mg base CX0 3 f fd [A1,AB,BC] bVy:=by
 have sc:=bW8;refine F.ok (k:=2) sc (λb6 A outer s H vs Q E hr h=>?_);obtain⟨I,N,R,m,o,rfl,B,hR,hT,q⟩:=h;refine⟨_,(yC (xA (PW.pt (Y7 (vI (zA (xU y hr rfl (yA (pv 0) (yA (pv 1) yD))))) (uS (vI (zA (xU y hr rfl (yA (pv 0) (yA (pv 2) yD)))))))) (yF (yP yQ)) yS) (yC (yU (i:=3) (yL yK (pv 0) (pv 1))) (yC (yU (i:=4) (yL yK (pv 0) (pv 2))) (yC (xA (yM vB (yL yK (pv 3) yG) zN) (yF (yP yQ)) yS) (yC (xA (yM zU (yL yK (xU a hr rfl (yA (pv 0) (yA (pv 2) yD))) yG) (pv 1)) (yF (yP yQ)) yS) (yC (xA (yM zU (yL yK (pv 3) yG) (yL yK (pv 4) yG)) (yF (yP yQ)) yS) (yC (xA (yM J9 (yL yK (pv 3) yG) (yL yK (pv 4) yG)) (yF (yP yQ)) yS) (yC (xA (yM uN (yL yK (pv 3) yG) (yL yK (pv 4) yG)) (yF (yP yQ)) yS) (yC (wV cX0 rfl (xN (xU a hr rfl (yA (pv 0) (yA (pv 1) yD)))) (xI (i:=5)) (yC (yU (i:=6) (yL yK (pv 0) (pv 5))) (yF (uR (yL yK (pv 4) yG) (X2 (pv 6) yG wT))))) (yC (uR (pv 2) (X2 (pv 3) yG wT)) (yF (yP yQ)))))))))))),?_⟩;have v:But N H H:=But.of B.dom (xJ.refl _);refine⟨_,Ce,_,Ce,I,N,R,m,Ce,B,_,Ce,?_⟩;cases h1:Bk.vU R m with
 |false=>exact onT rfl (onT rfl (q H _ R v B λS=> .hangN (.inl h1)))
 |true=>
 refine onF rfl ⟨_,Ce,_,Ce,I,N,R,o,Ce,B,_,Ce,?_⟩;cases h2:Bk.vU R o with
 |false=>exact onT rfl (q H _ R v B λS=> .hangN (.inr h2))
 |true=>
 obtain⟨i,r,rfl,J,L,hv⟩:=Bk.vL h1;obtain⟨j,p,rfl,D,M,hw⟩:=Bk.vL h2;obtain⟨b,g1,g2,cp,g3,g4⟩:=B.get L;obtain⟨b2,f1,f2,b8,f3,f4⟩:=B.get M;refine onF rfl ⟨_,Ce,_,Ce,I,_,_,_,Ce,Ce,Cc B.lst,yT g1,?_⟩;dsimp only[yW];refine⟨_,Ce,_,Ce,I,_,_,_,Ce,Ce,Cc B.lst,yT f1,?_⟩;dsimp only[yW];refine⟨_,Ce,b,_,4,_,Ce,Ce,Cc g3,Ce,Ce,_,Ce,?_⟩;cases n:r.link with
 |some x=>exact onT rfl (q H _ R v B λS=> .hangH L hv M hw (by rw[n];simp))
 |none=>
 obtain⟨rk,ok⟩:=hT;have hT:Bk.qQ R:=⟨rk,ok⟩;refine onF rfl ⟨_,Ce,_,Ce,I,N,R.length,Bk.lk R,rk,Bk.dt R,j,Ce,B.rows,ok,hR,D,λH1 l out k1 nl hl hp hm=>?_⟩;have et:=Bk.aZl D ⟨rk,ok,hp,hm⟩;subst et;obtain⟨_,_,a5⟩:=Bk.Y5 hT D;obtain⟨hd,X⟩:∃hd,(Bk.thr R j).head? =some hd:=⟨_,a5⟩;have e0:(((Bk.thr R j).map λi=>V.int (i:Nat)))[0]? =some (.int (hd:Nat)):=by rw[cXu,<- List.head?_eq_getElem?,X];rfl
 have g:=B.same k1;have U:=k1 _ _ g3;have O:=k1 _ _ f3;have u:But N H H1:=But.of B.dom k1;refine⟨l,_,0,_,Ce,Ce,Cc hl,yT e0,_,Ce,Ce,_,Ce,?_⟩;rw[aKm];refine X4 (λc=>?_) (λc=>?_)
 ·have e:hd=i:=of_decide_eq_true c;exact q H1 _ R u g λS=> .hangO L hv M hw n (by rw[X,e])
 have C:(Bk.thr R j).head? ≠some i:=λz=>c (decide_eq_true (by rw[X]at z;exact cXv z));refine⟨_,Ce,b,_,0,_,Ce,Ce,Cc U,Ce,_,Ce,b2,_,0,_,Ce,Ce,Cc O,Ce,Ce,_,Ce,?_⟩;rw[vZ];refine X4 (λc1=>?_) (λc1=>?_)
 ·exact q H1 _ R u g λS=> .hangW L hv M hw n C (of_decide_eq_true c1)
 have h3:=of_decide_eq_false (Bool.eq_false_iff.mpr c1);refine⟨_,Ce,b,_,2,_,Ce,Ce,Cc U,Ce,_,Ce,b2,_,2,_,Ce,Ce,Cc O,Ce,Ce,_,Ce,?_⟩;rw[vZ];cases a0:decide (r.partner=p.partner)with
 |false=>exact onT rfl (q H1 _ R u g λS=> .hangP L hv M hw n C h3 (of_decide_eq_false a0))
 |true=>
 have h4:=of_decide_eq_true a0;refine onF rfl ⟨_,Ce,b,_,1,_,Ce,Ce,Cc U,Ce,_,Ce,b2,_,1,_,Ce,Ce,Cc O,Ce,_,_,Ce,Ce,_,Ce,?_⟩;refine X4 (λc2=>?_) (λc2=>?_)
 ·exact q H1 _ R u g λS=> .hangE L hv M hw n C h3 h4 (of_decide_eq_true c2)
 have h5:p.date<=r.date:=by have:=of_decide_eq_false (Bool.eq_false_iff.mpr c2);omega
 refine⟨_,Ce,_,Ce,I,N,R.length,Bk.lk R,rk,Bk.dt R,i,Ce,g.rows,ok,hR,J,λH2 l2 b4 k2 b5 a2 a6 T=>⟨l2,Ce,⟨_,Cc a2⟩,?_⟩⟩;have a4:=Bk.aZl J ⟨rk,ok,a6,T⟩;subst a4;have b7:i≠j:=λz=>by subst z;have Y:=Bk.Y5 hT J;obtain⟨a3,o2,W⟩:=Y;rw[Fm.wO (by rw[Bk.uM L];exact n)]at W;exact C W
 have b3:j∉Bk.thr R i:=λz=>by have Y:=(T j).mp z;rw[Fm.wO (i:=i) (by rw[Bk.uM L];exact n)]at Y;obtain⟨a3,o2,W⟩:=Bk.Y5 hT D;rw[Fm.Z5 o2 ok D,Y.2]at W;exact C W
 refine zV (xs:=(Bk.thr R i).map λi=>V.int (i:Nat)) (λt σ Z=>L2.Ez2 λ(o5 o6:Option V)=>σ= [some (.ref I),some (.int (i:Nat)),some (.int (j:Nat)),some (.ref b),some (.ref b2),o5,o6]/\xF Z I N (Bk.laid R ((Bk.thr R i).take t) p.place)/\But N H2 Z/\Z l2=some (.lst ((Bk.thr R i).map λi=>V.int (i:Nat)))) ?_ ?_ ?_ ?_
 ·exact⟨none,none,Ce,g.same k2,But.of (g.same k2).dom (xJ.refl _),a2⟩
 ·rintro t σ Z ht ⟨o5,o6,rfl,d,k3,G⟩;exact Cc G
 ·rintro t x σ Z hx ⟨o5,o6,rfl,d,k3,G⟩;rw[cXu]at hx;cases hc:(Bk.thr R i)[t]? with
  |none=>rw[hc]at hx;cases hx
  |some k=>
   rw[hc]at hx;cases hx;have a8:k<R.length:=((T k).mp (cXs hc)).1;obtain⟨bk,ck,b9,Y,W,e3,e4,e5,e6⟩:=aWo (K:=K) d hc a8 G;have a7:(Bk.laid R ((Bk.thr R i).take t) p.place)[j]? =some p:=by rw[Bk.vW,if_neg (λz=>b3 (List.mem_of_mem_take z))];exact M
   obtain⟨b1,d1,d2,a9,d3,d4⟩:=d.get a7;obtain rfl:b2=b1:=cXv (f2.symm.trans d2);dsimp only[yW];refine⟨_,Ce,_,Ce,I,_,_,_,Ce,Ce,Cc d.lst,yT Y,?_⟩;dsimp only[yW];exact⟨_,Ce,b2,_,5,_,Ce,Ce,Cc d3,Ce,_,Ce,bk,_,5,5,Ce,Ce,W,Ce,_,_,Ce,e3,k3.trans e4,e5⟩
 ·rintro σ Z ⟨o5,o6,rfl,d,k3,G⟩;rw[cXe,cX4]at d;have b0:i<(Bk.laid R (Bk.thr R i) p.place).length:=by rw[Bk.wI];exact J
  have a1:=cQ9 b0;obtain⟨b',d1,d2,a9,d3,d4⟩:=d.get a1;obtain rfl:b=b':=cXv (g2.symm.trans d2);refine⟨_,Ce,_,Ce,b,_,4,4,Ce,Ce,d3,Ce,?_⟩;refine q _ _ _ ((u.trans ((But.of g.dom k2).trans k3)).trans (But.upd d.dom d2 d3 rfl)) (d.upd d2 a1 (λr=>{r with link:=some j}) d4) λS=> .hang L hv M hw n C h3 h4 h5
end
end Law
namespace L2
open PySem
def tbV:Option Nat->cXb
 |none=> .none
 |some T=> .ref T
structure Q4(h:Heap)(e:Nat)(cls:cXb)(dx:Option Nat)(tb:Option Nat):Prop where
 obj:∃oe vs,h.get? e=some oe/\oe.cls=cls/\oe.dict=dx/\oe.data= .fields vs/\vs[1]? =some (tbV tb)
 ent:∀T,tb=some T->T≠e/\∃oT ts,h.get? T=some oT/\oT.data= .fields ts/\ts[3]? =some .none
def Q4.keeps(x:Q4 h e cls dx tb)(k:∀b o,(b=e\/tb=some b)->h.get? b=some o->h'.get? b=some o):Q4 h' e cls dx tb:=by
 obtain⟨d,p,i,q,g,l,m⟩:=x.obj;refine⟨⟨d,p,k e d (.inl rfl) i,q,g,l,m⟩,λT c=>?_⟩;obtain⟨ne,a,j,f,r,n⟩:=x.ent T c;exact⟨ne,a,j,k T a (.inr c) f,r,n⟩
structure bY3(fs:List Nat)(e:Nat)(tb:Option Nat)(h h':Heap):Prop where
 keep:∀b o,b≠e->tb≠some b->b∉fs->h.get? b=some o->h'.get? b=some o
 slot:∀b o,b≠e->tb≠some b->h.get? b=some o->∃sl,h'.get? b=some {o with slots:=sl}
 there:∀b o,h.get? b=some o->∃o',h'.get? b=some o'
def aXV(f:Array cXb->Array cXb)(o:Obj):(o.mapFields f).dict=o.dict:=by
 obtain⟨c,d,dt,a⟩:=o;cases dt<;> rfl
section
variable {M:Model}{A:cX8}{E:cXb->cXd->Prop}{s:cXd}{base:Heap}{env:Env}{outer:List Env}{L e:Nat}{cls:cXb}{dx tb:Option Nat}
def bQp(hl:s.heap.FunFrames base (env::outer))(f:s.heap.get? e=some a)(g:a.data= .fields vs):e∉(env::outer).filterMap (·.frame):=λc=>by
 obtain⟨_,o,b,d⟩:=hl.mem c;rw[f]at b;cases b;exact d vs g
def aJj{head:cXb}{Q:Unit->cXd->Prop}(w:A.frames=some (env::outer))(hl:s.heap.FunFrames base (env::outer))(G:env.frame=some L)
  (B:s.heap.get? e=some i) (n:i.data= .fields vs) (hz:1<vs.size)
  (h:∀t T,Q4 t e i.cls i.dict (some T)->s.heap.objs.size<=T->bY3 ((env::outer).filterMap (·.frame)) e none s.heap t->Q () {s with heap:=t}):
  cXi M A (do let fr <- frameOf env;let place <- entryPlaceOf L p;let en <- EntryCells.newEntry head fr .none (cZv L) .none place;setField (.ref e) 1 en) (λ_ H=>cXi M A (cVr (.ref e) none) Q E H) E s:=by
 have v:=bQp hl B n
 refine cXa (wpAny_frameOf_fun w hl G λa d=>?_)
 refine cXa (wpAny_entryPlaceOf λplace J=>?_)
 unfold EntryCells.newEntry newFields
 refine cXa (cZx ?_ (J.sizeOk5 _ _ _ _ _))
 have z:a.get? e=some i:=(d.2.1 e v).trans B
 generalize y:({cls:= .type "traceback",dict:=none,data:= .fields ([head,.ref L,.none,cZv L,.none]++(if place.isEmpty then cJQ 6 Value.none else place)).toArray}:Obj)=ob
 have c:ob.data= .fields ([head,.ref L,.none,cZv L,.none]++(if place.isEmpty then cJQ 6 Value.none else place)).toArray:=by rw[<- y]
 have j:ob.isFreed=false:=cZA c
 have D:(a.push ob).get? e=some i:=cXg ob z
 have l:a.objs.size≠e:=cJB (cXq z)
 refine cJj D n hz ?_
 have d3:=cZG n (·.setIfInBounds 1 (Value.ref a.objs.size))
 have r:=cZi (cZs (·.setIfInBounds 1 (Value.ref a.objs.size))) D (cZA d3)
 have F:=(cXL (a.push ob) (cZs (·.setIfInBounds 1 (Value.ref a.objs.size))) (cXT l)).trans (cXA a j)
 have k:3<([head,.ref L,.none,cZv L,.none]++(if place.isEmpty then cJQ 6 Value.none else place)).toArray.size:=by simp
 unfold cVr
 refine cXa (cVZ r d3 (x:= .ref a.objs.size) (by simp[hz]) ?_)
 rw[if_pos (show(Value.ref a.objs.size !=Value.none)=true from by simp)]
 refine cJj F c k (h _ a.objs.size ?_ ?_ ?_)
 ·refine⟨⟨_,_,(cXL _ _ l).trans r,Obj.cls_mapFields _ _,aXV _ _,d3,by simp[tbV,hz]⟩,λT K=>?_⟩;cases K;refine⟨l,_,_,cZi _ F (cZA (cZG c _)),cZG c _,?_⟩;rw[Array.getElem?_setIfInBounds_self_of_lt k];rfl
 ·exact cJV d.1.symm
 ·have m:∀b o,b≠e->a.get? b=some o->(((a.push ob).update e (cZs (·.setIfInBounds 1 (Value.ref a.objs.size)))).update a.objs.size (cZs (·.setIfInBounds 3 ((none:Option Nat).elim Value.none λf=>cZv f)))).get? b=some o:=λb o g q=>by
   rw[cXL _ _ (cJB (cXq q)),cXL _ _ (cXT g)];exact cXg _ q
  refine⟨λb o g _ I q=>m b o g ((d.2.1 b I).trans q),λb o g _ q=>?_,λb o q=>?_⟩
  ·obtain⟨C,u⟩:=d.2.2 b o q;exact⟨C,m b _ g u⟩
  ·by_cases g:b=e
   ·subst g;exact⟨_,(cXL _ _ l).trans r⟩
   ·obtain⟨C,u⟩:=d.2.2 b o q;exact⟨_,m b _ g u⟩
def aWu{Q:Unit->cXd->Prop}(i:A.frames=some (env::outer))(hl:s.heap.FunFrames base (env::outer))(n:env.frame=some L)(x:Q4 s.heap e cls dx tb) (h:∀g T,Q4 g e cls dx (some T)->s.heap.objs.size<=T->bY3 ((env::outer).filterMap (·.frame)) e tb s.heap g->Q () {s with heap:=g}): cXi M A (cVO (.ref e) env) (λ_ H=>cXi M A (cVr (.ref e) none) Q E H) E s:=by
 obtain⟨N,C,m,I,D,r,w⟩:=x.obj;subst I D;have v:=(cJG.mp w).1;unfold cVO;simp only[n];refine cXa (cVZ m r w ?_);cases tb with
 |none=>rw[if_neg (by decide)];exact aJj i hl n m r v h
 |some T=>
  obtain⟨ne,K,F,j,l,B⟩:=x.ent T rfl;rw[if_pos (show(tbV (some T) !=Value.none)=true from by simp[tbV])];refine cXa (cVZ j l B ?_);rw[if_neg (show ¬ ((Value.none==cZv L)=true)from by simp[cZv])];refine cXa (cJj j l (cJG.mp B).1 ?_);have f:∀b,b≠T->(s.heap.update T (cZs (·.setIfInBounds 3 Value.none))).get? b=s.heap.get? b:=λb k=>cXL _ _ (cXT k);have u:∀b o,s.heap.get? b=some o->(∀C,o.data≠ .fields C)->b≠T:=λb o q t z=>by rw[z,j]at q;cases q;exact t F l
  refine aJj (s:={s with heap:=s.heap.update T (cZs (·.setIfInBounds 3 Value.none)) }) i (hl.of_keeps λb o q t=>⟨o,(f b (u b o q t)).trans q,rfl⟩) n ((f e (cXT ne)).trans m) r v λg J y G p=>h g J y ?_ ⟨λb o a c d q=>?_,λb o a c q=>?_,λb o q=>?_⟩
  ·rw[<- Heap.size_after_update s.heap T (cZs (·.setIfInBounds 3 Value.none))];exact G
  ·exact p.keep b o a (by simp) d ((f b λz=>c (by rw[z])).trans q)
  ·exact p.slot b o a (by simp) ((f b λz=>c (by rw[z])).trans q)
  ·by_cases k:b=T
   ·subst k;exact p.there _ _ (cZi _ j (cZA (cZG l _)))
   ·exact p.there b o ((f b k).trans q)
def bQe{Q:Unit->cXd->Prop}(b:A.frames=some (env::outer))(hl:s.heap.FunFrames base (env::outer))(c:env.frame=some L)(x:Q4 s.heap e cls dx tb) (h:∀a T,Q4 a e cls dx (some T)->s.heap.objs.size<=T->bY3 ((env::outer).filterMap (·.frame)) e tb s.heap a->Q () {s with heap:=a}):cXi M A (leaving env (.ref e)) Q E s:=by
 unfold leaving;exact cXa (aWu b hl c x h)
def bZx{Q:Unit->cXd->Prop}(x:Q4 s.heap e cls dx (some T)) (h:∀d,Q4 d e cls dx (some T)->(∀b o,b≠T->s.heap.get? b=some o->d.get? b=some o)->(∀b o,s.heap.get? b=some o->∃p,d.get? b=some p)->Q () {s with heap:=d}):cXi M A (cVr (.ref e) none) Q E s:=by
 obtain⟨v,u,k,w,n,l,m⟩:=x.obj;obtain⟨ne,z,y,j,f,r⟩:=x.ent T rfl;have g:=(cJG.mp r).1;have i:=cZi (cZs (·.setIfInBounds 3 Value.none)) j (cZA (cZG f _));have a:∀b,b≠T->(s.heap.update T (cZs (·.setIfInBounds 3 Value.none))).get? b=s.heap.get? b:=λb c=>cXL _ _ (cXT c);refine wpAny_setFlight_none k l m j f g (h _ ⟨⟨v,u,(a e (cXT ne)).trans k,w,n,l,m⟩,λB t=>?_⟩ (λb o c q=>(a b c).trans q) λb o q=>?_)
 ·cases t;exact⟨ne,_,_,i,cZG f _,by simp[g]⟩
 ·by_cases c:b=T
  ·subst c;exact⟨_,i⟩
  ·exact⟨o,(a b c).trans q⟩
end
end L2
namespace L2
open PySem PySem.W PySem.Calls PyProof.Rows Builtin Builtin.ObjectAttr
def X0:List cXb:= [.type Ba,.type Am,.type "object"]
def aVl:List cXb->Bool
 |.ref _::r=>aVl r
 |l=>l==X0
def aYs:∀l:List cXb,aVl l=true->∃a:List Nat,l=a.map Value.ref++X0:=by
 intro l;induction l with
 |nil=>intro e;cases e
 |cons v r b=>
  intro e;cases v with
  |ref c=>obtain⟨a,h⟩:=b e;exact⟨c::a,by rw[h];rfl⟩
  |_=>exact⟨[],beq_iff_eq.mp e⟩
theorem aXP(self:cXb):∀rs:List Nat,refuseLoop self B1 (rs.map Value.ref++X0)=pure ()
 |[]=>PySem.F.store_Exception.passes self
 |c::rs=>by rw[cXO,cV2,refuseLoop_ref];exact aXP self rs
def aW3(h:X0.contains (.type T)=b):∀rs:List Nat,(rs.map Value.ref++X0).contains (.type T)=b
 |[]=>h
 |c::rs=>by rw[cXO,cV2,cJA,aW3 h rs];rfl
def bZm(K:Frag)(C:Nat):Bool:=match K.lookup C with
 |some ⟨_,_,.cls cd,sl⟩=> !cd.hasDel && cd.hasDict && (sl.toList[4]?).join==some (.builtin "Exception.__new__") && aVl cd.mro && cd.mro.contains (.ref C) &&
   specialIn K (.ref C) "__call__"==some (some (.builtin "type.__call__")) && instIn K (.ref C) (.type CG)==some true && typeIn K (.ref C)==some (.type CG) &&
   findIn K (.ref C) B1==some (some (.builtin "object.__setattr__")) && findIn K (.ref C) Af==some (some (.builtin "BaseException.__getattribute__")) &&
   findIn K (.ref C) "__getattr__"==some none && findIn K (.ref C) AG==some none
 |_=>false
structure jJ(K:Frag)(C:Nat):Prop where
 cls:∃oc od cd sl,K.lookup C=some ⟨oc,od,.cls cd,sl⟩/\cd.hasDel=false/\cd.hasDict=true/\(sl.toList[4]?).join=some (.builtin "Exception.__new__")/\(∃rs:List Nat,cd.mro=rs.map Value.ref++X0)/\cd.mro.contains (.ref C)=true
 call:specialIn K (.ref C) "__call__"=some (some (.builtin "type.__call__"))
 typ:instIn K (.ref C) (.type CG)=some true
 ty:typeIn K (.ref C)=some (.type CG)
 sa:findIn K (.ref C) B1=some (some (.builtin "object.__setattr__"))
 ga:findIn K (.ref C) Af=some (some (.builtin "BaseException.__getattribute__"))
 gh:findIn K (.ref C) "__getattr__"=some none
 wd:findIn K (.ref C) AG=some none
set_option tactic.hygienic true in
def aYS{K:Frag}{C:Nat}(e:bZm K C=true):jJ K C:=by
 unfold bZm at e;split at e
 ·rename_i i j h o d;simp only[Bool.and_eq_true,Bool.not_eq_true',beq_iff_eq]at e;obtain⟨⟨⟨⟨⟨⟨⟨⟨⟨⟨⟨g,p⟩,l⟩,f⟩,q⟩,k⟩,r⟩,m⟩,n⟩,a⟩,b⟩,c⟩:=e;exact⟨⟨i,j,h,o,d,g,p,l,aYs _ f,q⟩,k,r,m,n,a,b,c⟩
 ·cases e
abbrev vN(C t:Nat)(dx:Option Nat):Obj:={cls:= .ref C,dict:=dx,data:= .fields #[.ref t,.none,.none,.none,.bool false,.none] }
abbrev aQG:Obj:={cls:= .type AE,data:= .seq #[] }
section
variable {M:Model}{K:Frag}{C:Nat}{h:Heap}
def jJ.sub(X:K.In h)(c:jJ K C)(g:X0.contains (.type T)=b):Looks M h (cVp (.ref C) (.type T)) b:=by
 obtain⟨i,m,a,n,e,o,j,p,⟨k,f⟩,l⟩:=c.cls;have d:clsIn K C=some a:=by unfold clsIn;rw[e]
 refine looks_mroIn X ?_;unfold mroIn;rw[d,Option.bind_some,f,if_neg (by simp[X0]),aW3 g]
def jJ.self(X:K.In h)(c:jJ K C):Looks M h (cVp (.ref C) (.ref C)) true:=by
 obtain⟨g,k,a,l,e,m,i,n,⟨j,f⟩,b⟩:=c.cls;have d:clsIn K C=some a:=by unfold clsIn;rw[e]
 refine looks_mroIn X ?_;unfold mroIn;rw[d,Option.bind_some,if_neg (by rw[f];simp[X0]),b]
def jJ.made(X:K.In h)(c:jJ K C):Looks M h (Bind.madeBy (.ref C)) (some "Exception.__new__"):=by
 obtain⟨n,o,a,p,b,m,r,f,⟨i,j⟩,d⟩:=c.cls;have e:clsIn K C=some a:=by unfold clsIn;rw[b]
 have g:Looks M h (mroOf (.ref C)) a.mro:=(looks_clsIn X e).andThen .now;obtain⟨v,l,hl⟩:∃v l,a.mro=v::l:=by
  cases q:a.mro with
  |nil=>rw[q]at d;cases d
  |cons v l=>exact⟨v,l,rfl⟩
 intro A Q E s k q;unfold Bind.madeBy;refine cXa (g A _ E s k ?_);rw[hl,cWd];refine cXa (cXa (cXa (cXa (wpAny_loadPart (k _ _ (X _ _ b)) (cXf ?_)))));dsimp only;rw[<- cZQ,f];exact cXf (cXf (cXf q))
def jJ.base(X:K.In h)(c:jJ K C):Looks M h (Bind.staticBase (.ref C)) (.ref C):=by
 have made:=c.made (M:=M) X;obtain⟨m,n,a,p,d,j,r,o,⟨g,i⟩,b⟩:=c.cls;have e:clsIn K C=some a:=by unfold clsIn;rw[d]
 have f:Looks M h (mroOf (.ref C)) a.mro:=(looks_clsIn X e).andThen .now;obtain⟨v,l,hl⟩:∃v l,a.mro=v::l:=by
  cases q:a.mro with
  |nil=>rw[q]at b;cases b
  |cons v l=>exact⟨v,l,rfl⟩
 intro A Q E s k q;unfold Bind.staticBase;refine cXa (f A _ E s k ?_);rw[hl,cWd];exact cXa (cXa (cXa (made A _ E s k (cXf (cXf (cXf q))))))
def jJ.here(X:K.In h)(c:jJ K C):Looks M h (Bind.madeHere "BaseException.__new__" (.ref C)) ():=
 (c.base X).andThen ((c.made X).andThen (Looks.of_pure (by simp only[Option.map_some,cWJ.canon,bne_self_eq_false,Bool.false_eq_true,if_false])))
end
section
variable {prog:cXB}{w:cXN}{A:cX8}{R:Result->cXd->Prop}{K:Frag}{C f:Nat}{h:Heap}{g:Array GenState}{d:Drawn}{t:Nat}{os:OsState}
def bVZ(X:K.In h)(c:jJ K C)(e:R (.ok (.ret (.ref (h.objs.size+1)))) ⟨(h.push aQG).push (vN C h.objs.size none),g,d,t,os⟩): cJq (cXk prog w) A (.call (.builtin "Exception.__new__") ⟨[.ref C],[]⟩) R ⟨h,g,d,t,os⟩:=by
 have F:=cWJ;have made:=c.made (M:=cXk prog w) X;have o:=c.base (M:=cXk prog w) X;have here:=c.here (M:=cXk prog w) X;have q:Looks (cXk prog w) h (cVp (.ref C) (.type Ba)) true:=c.sub X dk;have z:Looks (cXk prog w) h (cVp (.ref C) (.type "AttributeError")) false:=c.sub X dk;have r:Looks (cXk prog w) h (cVp (.ref C) (.type "NameError")) false:=c.sub X dk;obtain⟨k,l,j,m,f,i,x,v,⟨s,u⟩,y⟩:=c.cls;have n:h.get? C=some ⟨k,l,.cls j,m⟩:=X _ _ f;refine codeAny_call_builtin_code (cWw _ F.quiet) ?_;simp only[checkBuiltinCall,F.newKind,F.newSplit,F.newRow];have args:Bind.checkArgs "Exception.__new__" ⟨.any,Ba,Ba,.cls,[⟨"args",.varPos,false⟩,⟨"kwargs",.varKw,false⟩]⟩ ⟨[.ref C],[]⟩=pure ():=by kernel_rfl
 rw[args];repeat (first|simp only[bne_self_eq_false,Bool.false_eq_true,if_false]|lk)
 have a:=F.ends;refine codeAny_builtinAt F.entry ?_;unfold cZZ.«BaseException.__new__»;refine PySem.wpAt_bind ?_;show PySem.wpAt _ _ _ (stack >>=_) _ _ _;refine PySem.wpAt_bind (PySem.wpAt_stack λp b=>PySem.wpAt_of_wpAny ?_);wp_walk;refine PySem.wpAt_of_wpAny ?_;rw[F.owner];repeat (first|simp only[Bool.not_true,Bool.false_eq_true,if_false]|lk)
 refine nd_load (cXg _ (cXg _ n)) (cXf ?_);dsimp only;refine cXf ?_;rw[i];refine cXf (cXf ?_);show R _ _;rw[cZE];exact e
def bZn(X:K.In h)(c:jJ K C)(B:findIn K (.ref C) AF=some (some (.ref f)))(s:typeIn K (.ref f)=some (.type "function")) (m:cJq (cXk prog w) (A.under (.builtin "type.__call__" ⟨[.ref C],[]⟩)) (.call (.ref f) ⟨[.ref (h.objs.size+1)],[]⟩) (InitBack (h.objs.size+1) R) ⟨(h.push aQG).push (vN C h.objs.size none),g,d,t,os⟩): cJq (cXk prog w) A (.call (.ref C) ⟨[],[]⟩) R ⟨h,g,d,t,os⟩:=by
 obtain⟨q,x,i,y,n,F,N,H,⟨E,p⟩,O⟩:=c.cls;have l:h.get? C=some ⟨q,x,.cls i,y⟩:=X _ _ n;have call:=looks_specialIn (M:=cXk prog w) X c.call;have j:=looks_instIn (M:=cXk prog w) X c.typ;have made:=c.made (M:=cXk prog w) X;have D:i.mro.isEmpty=false:=by rw[p];simp[X0]
 refine codeAny_of_tree ?_;show cXi _ _ (callAny (.ref C) _) _ _ _;refine nd_load l ?_;show cXi _ _ (callAny.viaDunder (.ref C) _) _ _ _;unfold callAny.viaDunder;refine cXa (call.at ?_);dsimp only;rw[tc_bind];refine cXa (cXf (cXa (cXf ?_)));refine cXf (a:=Fin.again (.call (.builtin "type.__call__") ⟨[.ref C],[]⟩)) (And.intro rfl ?_);refine codeAny_call_builtin_at (cWw _ dk) entry_typeCall (check_slot tc_kind tc_split j (tc_args _ _ _) ?_);unfold cZZ.«type.__call__»;have J:Looks (cXk prog w) h (mroOf (.ref C)) i.mro:=((Looks.ld (part:=none) l).andThen .now).andThen .now;repeat (first|simp only[D,Bool.false_eq_true,if_false]|with_reducible refine cVx ?_|lk)
 refine bVZ X c ?_;have k:∀b o,h.get? b=some o->((h.push aQG).push (vN C h.objs.size none)).get? b=some o:=λb o e=>cXg _ (cXg _ e);have u:((h.push aQG).push (vN C h.objs.size none)).get? (h.objs.size+1)=some (vN C h.objs.size none):=by heap_get
 have P:Looks (cXk prog w) ((h.push aQG).push (vN C h.objs.size none)) (typeOf (.ref (h.objs.size+1))) (.ref C):=(Looks.ld u).andThen .now;have I:=(c.self (M:=cXk prog w) X).keeps k;have G:=(looks_findIn (M:=cXk prog w) X B).keeps k;have b1:=(bind_fn (M:=cXk prog w) X (.ref (h.objs.size+1)) s).keeps k;unfold cWk callSpecial? specialOf;repeat (first|with_reducible refine cVx ?_|lk)
 refine cZ8 m λr L z=>?_;rcases r with e|(v|_|_|_)<;> first|exact z|exact z.elim|skip
 obtain⟨rfl,z⟩:=z;exact cXf (cXf z)
end
section
variable {prog:cXB}{w:cXN}{A:cX8}{E:cXb->cXd->Prop}{K:Frag}{C e tp:Nat}{s:cXd}{v:cXb}
def bV0{Q:Unit->cXd->Prop}(X:K.In s.heap)(c:jJ K C)(k:s.heap.get? e=some (vN C tp none)) (B:∀d tk,d.get? e=some (vN C tp (some s.heap.objs.size))->d.Ns1 s.heap.objs.size (λy=>if y=AG then some v else none)->(∀b o,b≠e->s.heap.get? b=some o->d.get? b=some o)->Q () {s with heap:=d,toks:=tk}): cXi (cXk prog w) A (setAttr (.ref e) AG v) Q E s:=by
 have I:InstAt s.heap e (vN C tp none) C none:=⟨k,Ce,Ce,cZu⟩;refine set_plain X I c.sa ?_;have i:=PySem.F.store_object;obtain⟨S,T,u,V,D,R,N,U,⟨P,G⟩,W⟩:=c.cls;have x:clsIn K C=some u:=by unfold clsIn;rw[D]
 have sub:Looks (cXk prog w) s.heap (cWk (.ref e) (.type "object")) true:=I.type.andThen (c.sub X dk);have L:Looks (cXk prog w) s.heap (mroOf (.ref C)) u.mro:=(looks_clsIn X x).andThen .now;refine cWi i.slot.plain i.entry (@check_slot (cXk prog w) _ _ {s with toks:=s.toks+1} "object.__setattr__" "object" B1 (.ref e) [.str AG s.toks,v] [] _ i.kind i.split sub (i.args (.ref e) (.str AG s.toks) v) ?_);rw[osa_eq,refuse_eq];have h:∀ (b:Nat)(o:Obj),s.heap.get? b=some o->s.heap.get? b=some o:=λ_ _ e=>e;refine cXa (cXa (I.type _ _ _ _ h (cXa (L _ _ _ _ h ?_))));rw[G,aXP];refine cXf (cXa (I.type _ _ _ _ h (cXa ((looks_findIn X c.wd) _ _ _ _ h (cXa (cXf ?_))))));have g:e≠s.heap.objs.size:=cXx (cXq k);have f:(s.heap.push emptyDict).get? e=some (vN C tp none):=cXg _ k;refine cXa (cXf (cXa (cXa (wpAny_loadPart k (cXa ((looks_clsIn X x) _ _ _ _ h ?_))))));rw[N];refine cXa (wpAny_alloc ?_);refine cXa (wpAny_update f ?_);refine cXf (a:=some s.heap.objs.size) ?_;show cXi _ _ (storeInDict s.heap.objs.size (.str AG s.toks) AG v) _ _ _;have r:((s.heap.push emptyDict).update e λo=>{o with dict:=some s.heap.objs.size}).get? s.heap.objs.size=some emptyDict:=(cWp _ _ _ _ g.symm).trans (Heap.get?_push_at rfl rfl);have l:((s.heap.push emptyDict).update e λo=>{o with dict:=some s.heap.objs.size}).Ns s.heap.objs.size (λ_=>none):=⟨_, #[],_,r,Ce,λe H=>absurd H (by simp),λ_=>rfl⟩;have t:=cZi (λo=>{o with dict:=some s.heap.objs.size}) f rfl;unfold storeInDict newKeyGuard;refine cXa (cXf (cXa (wpAny_nsSet1 (Heap.Ns1.of_empty l) λd j z=>?_)));obtain⟨Y,O,J,n,m,p⟩:=j.count (Within.cons AG v Within.nil);refine cXa (wpAny_lookBehind n (by rw[m];exact pastItsLine_dict (cXJ p (by rw[cZb,cJl,cXC];omega))) ?_);refine cXf ?_;refine B d _ ((z.2 e g).trans t) j λb o M q=>?_;exact(z.2 b (cXx (cXq q))).trans ((cWp _ _ _ _ M).trans (cXg _ q))
def bga:Slot Ba Af "BaseException.__getattribute__":=
 .of (owner:=Am) (n:=Af) (by rw[typeLookup_type,cWa];kernel_rfl) dk dk dk (by first|exact .inl dk|exact .inr dk) (by rw[isSubtype_type];kernel_rfl)
def bVY{Q:cXb->cXd->Prop}(X:K.In s.heap)(c:jJ K C)(m:s.heap.get? e=some b)(p:b.cls= .ref C)(k:b.dict=some dx)(q:notCls b=true)(j:s.heap.get? dx=some d) (hl:lookIn AG d=some (some v)) (t:handedIn v=true) (i:Q v {s with toks:=s.toks+1}):cXi (cXk prog w) A (getAttr (.ref e) AG a) Q E s:=by
 have I:InstAt s.heap e b C (some d):=⟨m,p,q,by rw[k];exact j⟩;obtain⟨D,r,l,H,f,B,x,G,⟨y,z⟩,J⟩:=c.cls;have g:clsIn K C=some l:=by unfold clsIn;rw[f]
 have n:findObj K C (some d) AG=some (.value v):=by unfold findObj;rw[g,Option.bind_some,c.wd];simp only[Option.bind_some];unfold W.ownOf;rw[x,if_pos rfl];dsimp only;rw[hl];rfl
 have h:=I.type (M:=cXk prog w);have o:=looks_find (M:=cXk prog w) X I n;have sub:Looks (cXk prog w) s.heap (cWk (.ref e) (.type Am)) true:=I.type.andThen (c.sub X dk);refine cXa (wpAny_mkText (cZt (cXa (h _ _ _ _ (λ_ _ e=>e) (cXa (looks_findIn X c.ga _ _ _ _ (λ_ _ e=>e) ?_))))));dsimp only;rw[show(onTheHeap (Value.ref C) && Value.builtin "BaseException.__getattribute__"==Value.builtin "object.__getattribute__")=false from by rw[show(Value.builtin "BaseException.__getattribute__"==Value.builtin "object.__getattribute__")=false from dk,Bool.and_false],if_neg (by decide)];have u:Looks (cXk prog w) s.heap (hookBefore (.ref C)) none:=looks_hook (mc:= .ref C) X (by rw[if_pos (show onTheHeap (Value.ref C)=true from rfl)];exact c.gh);refine cXa (u _ _ _ _ (λ_ _ e=>e) (cXa (cVC (cZt ?_))));unfold callGetattribute;rw[show(a && onTheHeap (Value.builtin "BaseException.__getattribute__"))=false from Bool.and_false _,if_neg (by decide)];unfold boundAndCalled;rw[bga.bind];refine cXa (cXf ?_);show cXi _ _ (call (.builtin "BaseException.__getattribute__") [.ref e,.str AG s.toks]) _ _ _;refine cVx (cWi bga.plain F.entry_bexc_ga ?_);refine @check_slot (cXk prog w) _ _ {s with toks:=s.toks+1} "BaseException.__getattribute__" Am Af (.ref e) [.str AG s.toks] [] _ dk dk sub (F.args_bexc_ga (.ref e) (.str AG s.toks)) ?_;unfold cZZ.«object.__getattribute__»;refine cXa (cXf (cXa (cXf ?_)));refine cXa (h _ _ _ _ (λ_ _ e=>e) (cXa (o _ _ _ _ (λ_ _ e=>e) (cXf ?_))));show cXi _ _ (handedOut v) _ _ _;rw[handedOut_of t];exact cXf i
def aYT{Q:Bool->cXd->Prop}(X:K.In s.heap)(c:jJ K C)(b:jJ K Rf)(o:mroIn K C (.ref Rf)=some true)(f:s.heap.get? e=some h)(m:h.cls= .ref C)(i:Q true s): cXi M A (excMatches (.ref e) (.ref Rf)) Q E s:=by
 obtain⟨a,g,d,t,os⟩:=s;dsimp only at X f;have G:Looks M a (typeOf (.ref e)) (.ref C):=m ▸ (Looks.ld f).andThen .now;have x:Looks M a (cVp (.ref C) (.ref Rf)) true:=looks_mroIn X o;have F:Looks M a (cWk (.ref Rf) (.type AE)) false:=(looks_typeIn X b.ty).andThen (Looks.of_pure tc_notTuple);have r:Looks M a (cVp (.ref Rf) (.type Am)) true:=b.sub X dk;have H:Looks M a (typeOf (.ref Rf)) (.type CG):=looks_typeIn X b.ty;have z:Looks M a (cVp (.type CG) (.type CG)) true:=Looks.of_pure tc_sub;obtain⟨l,n,k,p,j,v,B,w,⟨q,u⟩,D⟩:=b.cls;have y:a.get? Rf=some ⟨l,n,.cls k,p⟩:=X _ _ j;unfold excMatches isExcClass;repeat (first|simp only[Bool.not_true,Bool.false_eq_true,if_false,if_true]|lk)
 exact i
def aYU{Q:Flow->cXd->Prop}(l:A.handled=none) (h:cXi M A x (λv a=>∃e tp f C,v= .ref e/\K.In a.heap/\jJ K C/\a.heap.get? e=some (vN C tp f)/\E (.ref e) a) E s):cXi M A (raiseStmt env (some x) none) Q E s:=by
 unfold raiseStmt;refine cXa (cZh h (λv a j=>?_) λ_ _ x=>x);obtain⟨e,tp,f,C,rfl,X,c,i,k⟩:=j;obtain⟨b,g,d,tk,os⟩:=a;dsimp only at X i;have o:Looks M b (typeOf (.ref e)) (.ref C):=(Looks.ld i).andThen .now;have m:Looks M b (cVp (.ref C) (.type Am)) true:=c.sub X dk;have n:Looks M b (typeOf (.ref C)) (.type CG):=looks_typeIn X c.ty;unfold excFromValue isExcClass cWk;repeat (first|simp only[Bool.false_eq_true,if_false,if_true]|lk)
 show cXi M A handled _ _ _;refine wpAny_handled ?_;rw[l];exact wpAny_throw k
end
end L2
namespace L2
open PySem PySem.Spec PyProof.Rows
def CXR(P:cXB)(w:cXN):CXT:=λouter H s E d b=>∃ (e C c tb:Nat)(a:Hp),d= .ref e/\b.os=s.os/\AllBare b.gens/\Un (frs outer) [] H a s.heap b.heap/\HOk P w a b.heap/\
 Q4 b.heap e (.ref C) (some c) (some tb)/\a e=none/\a tb=none/\s.heap.objs.size<=e/\s.heap.objs.size<=tb/\E (.ref C) (some c) a
section
variable {P:cXB}{w:cXN}{K:cXc}{mg:Str->Option cXb}{base:Heap}{N:List Str}{qual:Str}{scope:Scope}{f:Nat}{cd:cXb}{A:cX8}{outer:List Env}{s₀:cXd}{H₀:Hp}{E:XK}
 {pins:List (Nat×Obj)} {σ:St} {H:Hp} {s:cXd}
def bYQ(I:Inv (aZr (CXR P w) P w K mg base N qual scope f cd A outer s₀ H₀ E) pins σ H s)(x:Q4 s.heap e (.ref C) (some dx) tb)(B:H e=none)(m:s₀.heap.objs.size<=e) (l:∀T,tb=some T->H T=none/\s₀.heap.objs.size<=T) (q:E (.ref C) (some dx) H):(aZr (CXR P w) P w K mg base N qual scope f cd A outer s₀ H₀ E).xe (.ref e) s:=by
 have ne:∀b o,s₀.heap.get? b=some o->b≠e:=λb o a=>cXx (cXE (cXq a) m);have D:∀b o,s₀.heap.get? b=some o->tb≠some b:=λb o a z=>absurd (cXE (cXq a) (l b z).2) (cZk _);have M:∀b,b∈(cJb qual scope s₀.heap.objs.size f cd::outer).filterMap (·.frame)->b=s₀.heap.objs.size\/b∈frs outer:=λb d=>by rw[cJ0,show(cJb qual scope s₀.heap.objs.size f cd).frame=some s₀.heap.objs.size from rfl]at d;exact cXj.mp d
 have k:∀b o,s₀.heap.get? b=some o->b∉frs outer->b∉(cJb qual scope s₀.heap.objs.size f cd::outer).filterMap (·.frame):=λb o a d z=>
  (M b z).elim (cXx (cXq a)) d
 show cXi (cXk P w) (A.deeper (cJb qual scope s₀.heap.objs.size f cd)) (leaving (cJb qual scope s₀.heap.objs.size f cd) (.ref e)) _ _ s;refine bQe (base:=base) (outer:=outer) (L:=s₀.heap.objs.size) I.ok.frames I.stack rfl x λO T y t p=>?_;refine⟨e,C,dx,T,H,Ce,I.os,I.bare,?_,?_,y,B,I.hok.fresh t,m,cXJ I.sz t,q⟩
 ·refine⟨λb o a n d g=>?_,λb o a n d g=>?_,λb o a n g=>I.base.free b o a n g,λb o a g=>?_,I.base.tups,I.base.frzs,I.base.tbls⟩
  ·exact p.keep b o (ne b o a) (D b o a) (k b o a d) (I.base.keep b o a n d g)
  ·obtain⟨Q,j⟩:=I.base.slot b o a n d g;obtain⟨i,F⟩:=p.slot b _ (ne b o a) (D b o a) j;exact⟨i,F⟩
  ·obtain⟨G,j⟩:=I.base.there b o a g;exact p.there b G j
 ·refine λb u a=>(I.hok b u a).stay (λc v J r=>?_) (λ_ r=>r) λ_ _ r=>r;have h:H c≠none:=by
   rcases J with z|z
   ·rw[z,a];simp
   ·rw[z];simp
  refine p.keep c v (λz=>h (by rw[z];exact B)) (λz=>h (l c z).1) (λz=>h (I.stkFree c z)) r
def wX:uC (CXR P w) (aZr (CXR P w) P w K mg base N qual scope f cd A outer s₀ H₀ E) E:=by
 intro a σ H s q o I h;obtain⟨e,C,p,tb,k,rfl,j,bare,un,g,x,m,i,c,d,l⟩:=h;have n:Inv (aZr (CXR P w) P w K mg base N qual scope f cd A outer s₀ H₀ E) a σ k o:=I.call' j un g bare λb z=>absurd z (by simp);exact bYQ n x m (cXJ I.sz c) (λT z=>by cases z;exact⟨i,cXJ I.sz d⟩) l
def Fun.okX{x:Str}{st:Stmt}{e:cJc}{ps:List Str}{k:Nat}{sp:Sp}(F:Fun K x qual st f e)(S:yO N ps (yH st)) (b:∀ (a:cXb)(A:cX8)(outer:List Env)(s:cXd)(H:Hp)(vs:List V)(Q:VK)(E:XK),uT k (A.deeper (cJb qual (yH st) s.heap.objs.size f a))->sp vs H Q E-> ∃t,PSs (aZr (CXR P w) P w K mg base N qual (yH st) f a A outer s H E) (xW st) t/\t {nx:=λ_ g=>Q .non g,rt:=Q} (start N vs) H) (len:∀vs H Q E,sp vs H Q E->vs.length=ps.length:=by intro _ _ _ _ h;first|(cases h;subst_vars;exact rfl)|repeat (first|(obtain⟨rfl,_⟩:=h;exact rfl)|(obtain⟨_,h⟩:=h))):xL P w K mg base (CXR P w) (k+1) f e ps sp:=by
 obtain⟨m,o,kV,j,p,n,a,ct,l,rfl,lk,d⟩:=F.ex;exact bV2 lk d S len λA outer s H vs Q E i c=>b a A outer s H vs Q E i c
end
structure FnX(P:cXB)(w:cXN)(K:cXc)(mg:Str->Option cXb)(base:Heap)(k:Nat)(x:Str)(ps:List Str)(sp:Sp):Prop where
 ex:∃f fd,xL P w K mg base (CXR P w) k f fd ps sp/\uY K fd ps []/\cX7 K (.ref f)=true/\mg x=some (.ref f)
def FnX.mono{P:cXB}{w:cXN}{K:cXc}{mg:Str->Option cXb}{base:Heap}{j k:Nat}{x:Str}{ps:List Str}{sp:Sp}(G:FnX P w K mg base j x ps sp)(h:j<=k):FnX P w K mg base k x ps sp:=
 let ⟨f,fd,a,b⟩:=G.ex;⟨f,fd,a.mono h,b⟩
structure MG(P:cXB)(w:cXN)(K:cXc)(mg:Str->Option cXb)(base:Heap)(CX:CXT)(k:Nat)(C:Nat)(m:Str)(ps:List Str)(sp:Sp):Prop where
 ex:∃f fd,xL P w K mg base CX k f fd ps sp/\uY K fd ps []/\bKw K C m f
 cl:Cls K C
def MG.mono{P:cXB}{w:cXN}{K:cXc}{mg:Str->Option cXb}{base:Heap}{CX:CXT}{j k:Nat}{C:Nat}{m:Str}{ps:List Str}{sp:Sp}(G:MG P w K mg base CX j C m ps sp)(h:j<=k):MG P w K mg base CX k C m ps sp:=
 let ⟨f,fd,a,b⟩:=G.ex;⟨⟨f,fd,a.mono h,b⟩,G.cl⟩
structure MkG(P:cXB)(w:cXN)(K:cXc)(mg:Str->Option cXb)(base:Heap)(k:Nat)(x:Str)(C:Nat)(ps:List Str)(sp:Sp):Prop where
 ex:∃f fd,xL P w K mg base CX0 k f fd ps sp/\uY K fd ps []/\Mk K C f/\mg x=some (.ref C)
def MkG.mono{P:cXB}{w:cXN}{K:cXc}{mg:Str->Option cXb}{base:Heap}{j k:Nat}{x:Str}{C:Nat}{ps:List Str}{sp:Sp}(G:MkG P w K mg base j x C ps sp)(h:j<=k):MkG P w K mg base k x C ps sp:=
 let ⟨f,fd,a,b⟩:=G.ex;⟨f,fd,a.mono h,b⟩
section
variable {X:Cx}{k:Nat}{x m:Str}{C:Nat}{ps:List Str}{sp:Sp}{e o:Expr}{es:List Expr}{ta:TE}{t:TA}{p pos apos:Pos}{E:XK}{CX:CXT}
def aXo{P:cXB}{w:cXN}{K:cXc}{mg:Str->Option cXb}{base:Heap}{N:List Str}{qual:Str}{scope:Scope}{f:Nat}{cd:cXb}{A:cX8}{outer:List Env}{s₀:cXd}{H₀:Hp}
  (G:FnX P w K mg base k x ps sp) (i:uT k (A.deeper (cJb qual scope s₀.heap.objs.size f cd))) (h:Gl (aZr (CXR P w) P w K mg base N qual scope f cd A outer s₀ H₀ E) x) (m:PA (aZr (CXR P w) P w K mg base N qual scope f cd A outer s₀ H₀ E) (e::es) t)
  (a:(x==(AK:Str))=false:=by decide) (j:cXR (e::es) (cJb qual scope s₀.heap.objs.size f cd)=(false,eval e (cJb qual scope s₀.heap.objs.size f cd))::cXR es (cJb qual scope s₀.heap.objs.size f cd):=by rfl)
  (c:(cZW pos (cXR es (cJb qual scope s₀.heap.objs.size f cd))).any (·.1)=false:=by rfl):
  PE (aZr (CXR P w) P w K mg base N qual scope f cd A outer s₀ H₀ E) (.Call (.Name x p) (e::es) [] pos) (aYq sp [] E t):=by
 obtain⟨g,n,F,b,d,l⟩:=G.ex
 exact bQO F i h l d b .nil wX m a j c
def jE{pl:Sem Bool}(G:MG X.prog X.w X.K X.mg X.base CX k C m ps sp)(i:uT k X.A)(h:uC CX X E)(j:PE X o ta)(n:PA X (e::es) t)
  (a:cXR (e::es) X.env=(false,eval e X.env)::cXR es X.env:=by rfl) (c:(cZW pos (cXR es X.env)).any (·.1)=false:=by rfl)
  (l:eval (.Call (.Attribute o m apos) (e::es) [] pos) X.env=(do
   let ov <- eval o X.env
   standAt apos.atName
   let (f,first) <- cVE [ov] (cVN ov m pl)
   callWith pos f first (cZW pos (cXR (e::es) X.env)) (cVw pos (cJy [] X.env))):=by rfl):
  PE X (.Call (.Attribute o m apos) (e::es) [] pos) (bJV C m sp [] E ta t):=by
 obtain⟨g,p,F,b,d⟩:=G.ex
 exact bWJ j G.cl d F i b .nil h n a c l
def bJg{pl:Sem Bool}(G:MG X.prog X.w X.K X.mg X.base CX k C m ps sp)(d:uT k X.A)(c:uC CX X E)(e:PE X o ta)
  (h:eval (.Call (.Attribute o m apos) [] [] pos) X.env=(do
   let ov <- eval o X.env
   standAt apos.atName
   let (f,first) <- cVE [ov] (cVN ov m pl)
   callWith pos f first (cZW pos (cXR [] X.env)) (cVw pos (cJy [] X.env))):=by rfl):
  PE X (.Call (.Attribute o m apos) [] [] pos) (bJV C m sp [] E ta bXW):=by
 obtain⟨g,i,F,b,a⟩:=G.ex
 exact bJi e G.cl a F d b .nil c h
def cQf(G:MkG X.prog X.w X.K X.mg X.base k x C ps sp)(h:uT (k+1) X.A)(l:Gl X x)(j:PA X (e::es) t)(c:(x==(AK:Str))=false:=by decide)
  (i:cXR (e::es) X.env=(false,eval e X.env)::cXR es X.env:=by rfl) (a:(cZW pos (cXR es X.env)).any (·.1)=false:=by rfl):PE X (.Call (.Name x p) (e::es) [] pos) (bJU C sp [] E0 t):=by
 obtain⟨g,m,F,b,d,f⟩:=G.ex
 exact bWI d F h l f b .nil uU j c i a
def bVr(G:MkG X.prog X.w X.K X.mg X.base k x C ps sp)(e:uT (k+1) X.A)(f:Gl X x)(a:(x==(AK:Str))=false:=by decide):PE X (.Call (.Name x p) [] [] pos) (bJU C sp [] E0 bXW):=by
 obtain⟨g,h,F,b,c,d⟩:=G.ex;exact bJh c F e f d b .nil uU a
end
end L2
namespace L2
open PySem PySem.Spec PyProof.Rows
def X3(e C tp:Nat)(dx:Option Nat):HO:= .ext λh=>h.get? e=some (vN C tp dx)
def aWj{e C tp:Nat}(b:h.get? e=some (vN C tp dx)):zT P w H h e (X3 e C tp dx):=⟨b,⟨_,b⟩,λd c a k=>k _ a⟩
def aWi{e C tp:Nat}(ok:HOk P w H h)(a:H e=some (X3 e C tp dx)):h.get? e=some (vN C tp dx):=(ok e _ a).1
section
variable {X:Cx}{pins:List (Nat×Obj)}{σ:St}{H:Hp}{s:cXd}
def Inv.forget{φ:Heap->Prop}(I:Inv X pins σ H s)(i:H e=some (.ext φ)):Inv X pins σ (λb=>if b=e then none else H b) s:=by
 have ne:∀b u,H b=some u->(∀φ,u≠ .ext φ)->b≠e:=λb u q n z=>by rw[z,i]at q;cases q;exact n _ rfl
 refine⟨I.ok,I.os,I.bare,⟨I.base.keep,I.base.slot,λb o q n h=>?_,I.base.there,λb f q=>?_,λb o u q=>?_,λb ps q=>?_⟩,I.loc,I.cell,?_,λx c q=>?_,λp l=>?_,λb u q=>?_,I.len⟩
 ·show(if b=e then none else H b)=none;rw[I.base.free b o q n h];split<;> rfl
 ·have z:=I.base.tups b f q;show(if b=e then none else H b)=_;rw[if_neg (ne b _ z λ_ y=>by cases y),z]
 ·have z:=I.base.frzs b o u q;show(if b=e then none else H b)=_;rw[if_neg (ne b _ z λ_ y=>by cases y),z]
 ·obtain⟨m,z⟩:=I.base.tbls b ps q;refine⟨m,?_⟩;show(if b=e then none else H b)=_;rw[if_neg (ne b _ z λ_ y=>by cases y),z]
 ·show(if _=e then none else H _)=none;rw[I.free];split<;> rfl
 ·show(if c=e then none else H c)=none;rw[I.freeC x c q];split<;> rfl
 ·obtain⟨k,j,g⟩:=I.pin p l;refine⟨k,?_,g⟩;show(if p.1=e then none else H p.1)=none;rw[j];split<;> rfl
 ·have a:(if b=e then none else H b)=some u:=q;by_cases d:b=e
  ·rw[if_pos d]at a;cases a
  ·rw[if_neg d]at a;refine(I.hok b u a).stay (λc v _ r=>r) (λc r=>?_) λc f r=>?_
   ·show(if c=e then none else H c)=_;rw[if_neg (ne c _ r λ_ y=>by cases y),r]
   ·show(if c=e then none else H c)=_;rw[if_neg (ne c _ r λ_ y=>by cases y),r]
inductive cQm(K:cXc)(D:bX3)(σ:St)(y:V)(x:V)(H2:Hp):Prop|mk(e C tp)(h:x= .ref e)(h:H2 e=some (X3 e C tp none))(h:jJ K C)(h:∀dx,H2 dx=none->D.nx σ (upd (upd H2 dx (.xd [(AG,y)])) e (X3 e C tp (some dx))))
def cQ0(K:cXc)(b c:TE):TS:=λD σ H=>c σ H λy d=>b σ d λx a=>cQm K D σ y x a
def bYi(M:PE X o E)(J:PE X a B)(L:swapsWith a (some (.Attribute o AG i)) pos.line X.env=pure false): PS X (.Assign [.Attribute o AG i] a pos) (cQ0 X.K E B):=by
 intro pins s σ H D I h;refine cWb (thn (J pins s σ H _ I h) λu s1 ⟨y,H1,I1,ry,q⟩=>thn (M pins s1 σ H1 _ I1 q) λov s2 ⟨x,H2,I2,rx,e,C,tp,ex,ea,c,q2⟩=>?_) L;subst ex;obtain rfl:ov=Value.ref e:=rx;have G:=aWi I2.hok ea;have g:H2 s2.heap.objs.size=none:=I2.hok.fresh (cXh _);have F:=q2 _ g;refine bV0 I2.kIn c G λQ tk w N k=>⟨σ,_,I2.un (t':=tk) ?_ ?_,F⟩
 ·have nb:∀b,H2 b=none->b≠e:=λb n z=>by rw[z,ea]at n;cases n
  have O:∀b o,s2.heap.get? b=some o->b≠s2.heap.objs.size:=λb o r=>cXx (cXq r);have l:∀b u,H2 b=some u->(∀φ,u≠ .ext φ)->upd (upd H2 s2.heap.objs.size (.xd [(AG,y)])) e (X3 e C tp (some s2.heap.objs.size)) b=some u:=λb u r n=>by rw[yJ (λz=>by rw[z,ea]at r;cases r;exact n _ rfl),yJ (yI r g)];exact r
  refine⟨λb o r n _ _=>k b o (nb b n) r,λb o r n _ _=>⟨o.slots,k b o (nb b n) r⟩,λb o r n _=>?_,λb o r _=>?_,λb P r=>l b _ r (λ_ z=>by cases z),λb o u r=>l b _ r (λ_ z=>by cases z),λb ps r=>⟨#[],by rw[l b _ r (λ_ z=>by cases z)];simp⟩⟩
  ·rw[yJ (nb b n),yJ (O b o r)];exact n
  ·by_cases j:b=e
   ·subst j;exact⟨_,w⟩
   ·exact⟨o,k b o j r⟩
 ·intro b v r;by_cases j:b=e
  ·subst j;rw[yB]at r;cases r;exact aWj w
  ·rw[yJ j]at r;by_cases A:b=s2.heap.objs.size
   ·subst A;rw[yB]at r;cases r;refine⟨_,N,λf=>?_⟩;show aZ7 (cJx f [(AG,y)]) (if f=AG then some u else none);by_cases m:f=AG
    ·subst m;exact ry
    ·rw[if_neg m];have:(f==(AG:Str))=false:=by simpa using m
     simp[cJx,this,aZ7]
   ·rw[yJ A]at r;have ne:∀c t,H2 c=some t->(∀φ,t≠ .ext φ)->c≠e:=λc t d n z=>by rw[z,ea]at d;cases d;exact n _ rfl
    refine(I2.hok b v r).stay (λc o p d=>k c o ?_ d) (λc d=>?_) λc P d=>?_
    ·rcases p with rfl|p
     ·exact j
     ·exact ne c _ p λ_ z=>by cases z
    ·rw[yJ (ne c _ d λ_ z=>by cases z),yJ (yI d g)];exact d
    ·rw[yJ (ne c _ d λ_ z=>by cases z),yJ (yI d g)];exact d
end
inductive vR(K:cXc)(vs:List V)(H:Hp)(Q:VK)(h:XK):Prop|mk(e C tp:Nat)(y:V)(h:vs= [.ref e,y])(h:H e=some (X3 e C tp none))(h:jJ K C)(h:∀dx,H dx=none->Q .non (upd (upd H dx (.xd [(AG,y)])) e (X3 e C tp (some dx))))
inductive bJR(C:Nat)(t:Str)(vs:List V)(H:Hp)(Q:VK):Prop|mk(e tp:Nat)(h:vs= [.ref e])(h:H e=some (X3 e C tp none))(h:∀dx,H dx=none->Q .non (upd (upd H dx (.xd [(AG,.str t)])) e (X3 e C tp (some dx))))
def vJ(K:cXc)(C:Nat)(t:Str):Sp:=λa H Q _=>bJR C t a H Q
structure aW6(P:cXB)(w:cXN)(K:cXc)(mg:Str->Option cXb)(base:Heap)(k:Nat)(x m:Str)(ps:List Str)(sp:Sp):Prop where
 ex:∃ (R f:Nat)(fd:cJc),xL P w K mg base CX0 k f fd ps sp/\uY K fd ps []/\PySem.W.readsIn K R (.type CG)=true/\PySem.W.findCls K (.ref R) (.type CG) m=some (.val (.ref f))/\
  cVU K (.ref R) Af=some (some (.builtin "type.__getattribute__"))/\cX7 K (.ref f)=true/\mg x=some (.ref R)
section
variable {X:Cx}{k:Nat}{x m:Str}{ps:List Str}{sp:Sp}{e:Expr}{es:List Expr}{t:TA}{p pos apos:Pos}
def qK{pl:Sem Bool}(G:aW6 X.prog X.w X.K X.mg X.base k x m ps sp)(o:uT k X.A)(n:Gl X x)(v:PA X (e::es) t)(a:(x==(AK:Str))=false:=by decide)
  (d:cXR (e::es) X.env=(false,eval e X.env)::cXR es X.env:=by rfl) (c:(cZW pos (cXR es X.env)).any (·.1)=false:=by rfl)
  (j:eval (.Call (.Attribute (.Name x p) m apos) (e::es) [] pos) X.env=(do
   let ov <- eval (.Name x p) X.env
   standAt apos.atName
   let (f,first) <- cVE [ov] (cVN ov m pl)
   callWith pos f first (cZW pos (cXR (e::es) X.env)) (cVw pos (cJy [] X.env))):=by rfl):
  PE X (.Call (.Attribute (.Name x p) m apos) (e::es) [] pos) (aYq sp [] E0 t):=by
 obtain⟨R,f,z,F,b,i,y,g,l,q⟩:=G.ex
 intro pins s σ H Q I h
 refine cVi (pl:=pl) (jM I n q ?_ a) j
 refine PySem.W.method_cls I.kIn g (PySem.W.cls_value I.kIn i y rfl ?_)
 have u:=I.tok (s.toks+1)
 refine cJ9 (first:= []) (h₀:=X.base) I.ok.mod.kin l (thn (v pos pins _ σ H _ u h) λus s2 ⟨vs,H2,I2,r,q2⟩=>⟨I2.kIn,?_⟩) d c
 exact aZf F o b .nil uU I2 r q2
end
structure ExG(P:cXB)(w:cXN)(K:cXc)(mg:Str->Option cXb)(base:Heap)(k:Nat)(x:Str)(Rf:Nat)(C:Nat)(t:Str):Prop where
 ex:∃f fd,xL P w K mg base CX0 k f fd [AA] (vJ K C t)/\uY K fd [AA] []/\cXX K (.ref C) AF=some (some (.ref f))/\cJX K (.ref f)=true/\cX7 K (.ref C)=true/\mg x=some (.ref C)
 cl:jJ K C
 sub:cVz K C (.ref Rf)=some true
def ExG.mono{P:cXB}{w:cXN}{K:cXc}{mg:Str->Option cXb}{base:Heap}{j k:Nat}{x:Str}{Rf C:Nat}{t:Str}(G:ExG P w K mg base j x Rf C t)(h:j<=k):ExG P w K mg base k x Rf C t:=
 let ⟨f,fd,a,b⟩:=G.ex;⟨⟨f,fd,a.mono h,b⟩,G.cl,G.sub⟩
def bVv(C:Nat)(t:Str)(E:XK):TS:=λ_ _ H=>∀a,H a=none->E (.ref C) (some a) (upd H a (.xd [(AG,.str t)]))
section
variable {P:cXB}{w:cXN}{K:cXc}{mg:Str->Option cXb}{base:Heap}{N:List Str}{qual:Str}{scope:Scope}{f:Nat}{cd:cXb}{A:cX8}{outer:List Env}{s₀:cXd}{H₀:Hp}{E:XK}{k:Nat}{x t:Str}{Rf C:Nat}{np cpos pos:Pos}
def vD(G:ExG P w K mg base k x Rf C t)(V:uT (k+1) (A.deeper (cJb qual scope s₀.heap.objs.size f cd)))(S:Gl (aZr (CXR P w) P w K mg base N qual scope f cd A outer s₀ H₀ E) x)(p:(x==(AK:Str))=false:=by decide):
  PS (aZr (CXR P w) P w K mg base N qual scope f cd A outer s₀ H₀ E) (.Raise (some (.Call (.Name x np) [] [] cpos)) none pos) (bVv C t E):=by
 intro pins s σ H D I h
 obtain⟨fi,fd,F,b,hi,U,R,Y⟩:=G.ex
 rw[arm_exec_Raise]
 refine cXa (cV0 ?_)
 show cXi _ _ (raiseStmt _ (some (do let v <- eval (.Call (.Name x np) [] [] cpos) (cJb qual scope s₀.heap.objs.size f cd);standAt pos;pure v)) none) _ _ _
 refine aYU (K:=K) (I.ok.hd rfl) (cXa ?_)
 refine cZH (jM I S Y ?_ p)
 refine cVH I.kIn R (cVx ?_)
 obtain⟨a,g,d,tk,M⟩:=s
 have Q:Inv (aZr (CXR P w) P w K mg base N qual scope f cd A outer s₀ H₀ E) pins σ H ⟨a.push aQG,g,d,tk,M⟩:=I.kept (t':=tk) λb u e=>cXg _ e
 have X:((a.push aQG).push (vN C a.objs.size none)).get? (a.objs.size+1)=some (vN C a.objs.size none):=by heap_get
 have B:Inv (aZr (CXR P w) P w K mg base N qual scope f cd A outer s₀ H₀ E) pins σ (upd H (a.objs.size+1) (X3 (a.objs.size+1) C a.objs.size none)) ⟨(a.push aQG).push (vN C a.objs.size none),g,d,tk,M⟩:=
  Q.laid (t':=tk) (λb u e=>cXg _ e) (cJV (cZE _ _)) (aWj X)
 have m:H (a.objs.size+1)=none:=I.hok.fresh (cJg _)
 refine bZn I.kIn G.cl hi (beq_iff_eq.mp U) (cZ8 (F.run _ (cJb qual scope s₀.heap.objs.size f cd::outer) _ _ ⟨[.ref (a.objs.size+1)],[]⟩ [.ref (a.objs.size+1)] [.ref (a.objs.size+1)] (λv O=>v= .non/\∃c,upd H (a.objs.size+1) (X3 (a.objs.size+1) C a.objs.size none) c=none/\O=upd (upd (upd H (a.objs.size+1) (X3 (a.objs.size+1) C a.objs.size none)) c (.xd [(AG,.str t)])) (a.objs.size+1) (X3 (a.objs.size+1) C a.objs.size (some c))) E0 (V.make C [] []) (B.env0.make C [] []) (b _ [.ref (a.objs.size+1)] B.kIn rfl) (.cons rfl .nil) ⟨a.objs.size+1,a.objs.size,Ce,yB,λc j=>⟨rfl,c,j,rfl⟩⟩) λr s' i=>?_)
 cases r with
 |error e=>exact cZO i
 |ok Z=>
  cases Z with
  |next=>exact cZO i
  |brk=>exact cZO i
  |cont=>exact cZO i
  |ret u=>
   obtain⟨v,O,J,rv,rfl,c,j,rfl⟩:=B.after i;have l:a.objs.size+1≠c:=yI yB j;have y:H c=none:=by rw[yJ (cXT l)]at j;exact j
   have n:=aWi J.hok yB;have L:=J.forget (e:=a.objs.size+1) yB;have eq:(λb=>if b=a.objs.size+1 then none else upd (upd (upd H (a.objs.size+1) (X3 (a.objs.size+1) C a.objs.size none)) c (.xd [(AG,.str t)])) (a.objs.size+1) (X3 (a.objs.size+1) C a.objs.size (some c)) b)=upd H c (.xd [(AG,.str t)]):=by
    funext b;by_cases o:b=a.objs.size+1
    ·rw[if_pos o,o,yJ l,m]
    ·rw[if_neg o,yJ o];by_cases q:b=c
     ·rw[q,yB,yB]
     ·rw[yJ q,yJ q,yJ o]
   rw[eq]at L;refine⟨rv,cXa (cV0 (cXf ⟨a.objs.size+1,a.objs.size,some c,C,Ce,J.kIn,G.cl,n,?_⟩))⟩;refine bYQ (tb:=none) L ⟨⟨_,_,n,Ce,Ce,Ce,rfl⟩,λT z=>by cases z⟩ (by rw[yJ l];exact m) (cXJ I.sz (cJg _)) (λT z=>by cases z) (h c y)
end
end L2
namespace L2
open PySem PySem.Spec PyProof.Rows
def bWx{X:Cx}{A:cX8}{a:Bool}{pn:List (Nat×Obj)}{xe:cXb->cXd->Prop}(o:X.Ok)(b:A.frames=X.A.frames)(c:a=true->A.handled=none):Cx.Ok {X with A:=A,calm:=a,pn:=pn,xe:=xe}:=
 ⟨o.mod,o.kind,o.glob,o.blt,o.above,o.inj,o.has,o.cab,c,b.trans o.frames,o.stk,o.exf,o.bs,o.bsz,o.noex,o.exfs,o.funs,o.frf⟩
def Inv.mark{X:Cx}{A:cX8}{b:Bool}{pn pins a:List (Nat×Obj)}{xe:cXb->cXd->Prop}{σ:St}{H:Hp}{s:cXd}(I:Inv X pins σ H s)(c:A.frames=X.A.frames)(e:b=true->A.handled=none) (d:∀p∈pn++a,p∈X.pn++pins):Inv {X with A:=A,calm:=b,pn:=pn,xe:=xe} a σ H s:=
 ⟨bWx I.ok c e,I.os,I.bare,I.base,I.loc,I.cell,I.free,I.freeC,λp h=>I.pin p (d p h),I.hok,I.len⟩
def bWp{X:Cx}{pn:List (Nat×Obj)}{xe:cXb->cXd->Prop}(o:Cx.Ok {X with A:=X.A,calm:=X.calm,pn:=pn,xe:=xe}):X.Ok:=
 ⟨o.mod,o.kind,o.glob,o.blt,o.above,o.inj,o.has,o.cab,o.hd,o.frames,o.stk,o.exf,o.bs,o.bsz,o.noex,o.exfs,o.funs,o.frf⟩
def Inv.names{h:Str->Option cXb}(I:Inv X pins σ H s)(m:h'.Ns X.env.locals h)(d:cJf X.env.locals s.heap h'): Inv X pins (cJQ X.N.length none) H {s with heap:=h',toks:=t'}:=by
 have a:∀b o,X.s₀.heap.get? b=some o->b≠X.env.locals:=λb o q=>cXx (cXE (cXq q) I.ok.above);refine⟨I.ok,I.os,I.bare,⟨λb o q n f e=>(d.2 b (a b o q)).trans (I.base.keep b o q n f e),λb o q n f e=>?_,I.base.free,λb o q e=>?_,I.base.tups,I.base.frzs,I.base.tbls⟩,⟨h,m,λi x v _ g _=>?_⟩,λx c q=>?_,I.free,I.freeC,λp B=>?_,λb u q=>?_,by simp⟩
 ·obtain⟨y,z⟩:=I.base.slot b o q n f e;exact⟨y,(d.2 b (a b o q)).trans z⟩
 ·obtain⟨k,z⟩:=I.base.there b o q e;exact⟨k,(d.2 b (a b o q)).trans z⟩
 ·rw[List.getElem?_replicate]at g;split at g<;> cases g
 ·obtain⟨v,z⟩:=I.cell x c q;exact⟨v,z.sameBut d (I.cne x c q)⟩
 ·obtain⟨A,w,j,t,C⟩:=I.pin p B;exact⟨(d.2 p.1 j).trans A,w,j,t,C⟩
 ·refine(I.hok b u q).stay (λc v l r=>(d.2 c ?_).trans r) (λ_ r=>r) λ_ _ r=>r;rintro rfl;rcases l with z|z
  ·rw[<- z,I.free]at q;cases q
  ·rw[I.free]at z;cases z
def bY1(K:cXc)(Rf:Nat)(Q:VK):XK:=λcls b a=>∃ (C d:Nat)(t:Str),cls= .ref C/\b=some d/\jJ K C/\cVz K C (.ref Rf)=some true/\a d=some (.xd [(AG,.str t)])/\Q (.str t) a
section
variable {X:Cx}{pins:List (Nat×Obj)}{σ:St}{H:Hp}{s:cXd}
def Inv.recs{h':Heap}{ch:List Nat}(I:Inv X pins σ H s)(h:∀b∈ch,s.heap.objs.size<=b\/(X.s₀.heap.objs.size<=b/\b≠X.env.locals/\(∀x c,X.env.cells.lookup x=some c->c≠b)/\∀p∈X.pn++pins,p.1≠b))(m:∀b∈ch,H b=none) (keep:∀b o,b∉frs X.stack->b∉ch->s.heap.get? b=some o->h'.get? b=some o) (a:∀b o,b∉ch->s.heap.get? b=some o->∃k,h'.get? b=some {o with slots:=k}):Inv X pins σ H {s with heap:=h'}:=by
 have i:HOk X.prog X.w H h':=λb u q=>(I.hok b u q).stay (λc v l r=>by
  have g:H c≠none:=by
   rcases l with z|z
   ·rw[z,q];simp
   ·rw[z];simp
  exact keep c v (λz=>g (I.stkFree c z)) (λz=>g (m c z)) r) (λ_ r=>r) λ_ _ r=>r
 refine I.call (g':=s.gens) (t':=s.toks) (d':=s.drawn) (ch:=ch) ⟨λb o q _ j f=>keep b o j f q,λb o q _ _ f=>a b o f q,λ_ _ _ n _=>n,λb o q f=>?_,λ_ _ q=>q,λ_ _ _ q=>q,λ_ y q=>⟨#[],by rw[q];simp⟩⟩ i I.bare λb j=>?_
 ·obtain⟨k,z⟩:=a b o f q;exact⟨_,z⟩
 ·rcases h b j with z|⟨z1,z2,z3,z4⟩
  ·refine⟨.inr (cXJ I.sz z),λe=>?_,λx c q e=>?_,λp t e=>?_⟩
   ·rw[e]at z;exact absurd (cXE I.lt z) (cZk _)
   ·obtain⟨v,o,d,_⟩:=I.cell x c q;rw[e]at d;exact absurd (cXE (cXq d) z) (cZk _)
   ·have d:=(I.pin p t).1;rw[e]at d;exact absurd (cXE (cXq d) z) (cZk _)
  ·exact⟨.inr z1,z2,z3,z4⟩
def bYj{body:List Stmt}{tb:XK->TS}{W n:Str}{i:Nat}{Rf:Nat}{cp p1 p2 p3 G tp:Pos}(hN:X.N.Nodup)(hi:X.N[i]? =some n)(hl:X.env.scope.names.lookup n=some .local)(hg:Gl X W)(hm:X.mg W=some (.ref Rf))(cr:jJ X.K Rf) (a0:X.stack=X.env::X.outer) (c7:X.env.frame=some X.env.locals) (c9:X.calm=true) (b9:(n==(AK:Str))=false) (c5:(W==(AK:Str))=false) (d0:(n==(BA:Str))=false) (hA:∀e,(X.A.mark (some (.ref e))).frames=X.A.frames) (j:∀ (pn:List (Nat×Obj))(xe:cXb->cXd->Prop)(E:XK),uC (CXR X.prog X.w) {X with A:=X.A,calm:=X.calm,pn:=pn,xe:=xe} E->PSs {X with A:=X.A,calm:=X.calm,pn:=pn,xe:=xe} body (tb E)): PS X (.Try body [.ExceptHandler (some (.Name W cp)) (some n) [.Return (some (.Attribute (.Name n p1) AG p2)) p3] G] [] [] tp) (λD σ H=>tb (bY1 X.K Rf D.rt) D σ H):=by
 intro pins s σ H D I h;refine wpAny_Try_except ?_;have m:X.calm=true->X.A.handled=none:=I.ok.hd;have go:∀ (a1:List (Nat×Obj))(l:St)(M:Hp)(Z:cXd)(g:cXb)(k:cXd),Inv X pins l M Z->CXR X.prog X.w X.stack M Z (bY1 X.K Rf D.rt) g k->
   cXi (cXk X.prog X.w) X.A (cVO g X.env) (λ_ S=>cXi (cXk X.prog X.w) X.A (cVr g none) (λ_ R=>cXi (cXk X.prog X.w) X.A (handleBy g X.env [.ExceptHandler (some (.Name W cp)) (some n) [.Return (some (.Attribute (.Name n p1) AG p2)) p3] G]) (SP X pins D) X.xe R) X.xe S) X.xe k:=by
  intro _ l M Z g k J1 hx
  obtain⟨e,C',dx,b2,H',rfl,os,bare,un,b8,x,he,ht,a2,a3,hE⟩:=hx
  obtain⟨C,d,t,ec,ed,cC,hs,hd,hq⟩:=hE
  have eC:C'=C:=by cases ec;rfl
  subst eC
  have eD:dx=d:=by cases ed;rfl
  subst eD
  have Y:Inv X pins l H' k:=J1.call' os un b8 bare λb z=>absurd z (by simp)
  have big:∀b,Z.heap.objs.size<=b->X.s₀.heap.objs.size<=b/\b≠X.env.locals/\(∀x c,X.env.cells.lookup x=some c->c≠b)/\∀p∈X.pn++pins,p.1≠b:=λb z=>by
   refine⟨cXJ J1.sz z,λe=>?_,λx c q e=>?_,λp G e=>?_⟩
   ·rw[e]at z;exact absurd (cXE J1.lt z) (cZk _)
   ·obtain⟨v,o,P,_⟩:=J1.cell x c q;rw[e]at P;exact absurd (cXE (cXq P) z) (cZk _)
   ·have P:=(J1.pin p G).1;rw[e]at P;exact absurd (cXE (cXq P) z) (cZk _)
  refine aWu (base:=X.base) (outer:=X.outer) (L:=X.env.locals) (a0 ▸ Y.ok.frames) (a0 ▸ Y.stack) c7 x λh3 T y nT p=>?_
  have b0:frs X.stack=(X.env::X.outer).filterMap (·.frame):=by rw[a0];rfl
  have J3:Inv X pins l H' {k with heap:=h3}:=Y.recs (ch:= [e,b2]) (λb j=>by
    rcases cXj.mp j with rfl|j
    ·exact .inr (big _ a2)
    ·rw[cXo.mp j];exact .inr (big _ a3)) (λb j=>by
    rcases cXj.mp j with rfl|j
    ·exact he
    ·rw[cXo.mp j];exact ht)
   (λb o j U q=>p.keep b o (λz=>U (by simp[z])) (λz=>U (by cases z;simp)) (b0 ▸ j) q)
   (λb o U q=>p.slot b o (λz=>U (by simp[z])) (λz=>U (by cases z;simp)) q)
  have b1:H' T=none:=Y.hok.fresh nT
  have Q:X.s₀.heap.objs.size<=T/\T≠X.env.locals/\(∀x c,X.env.cells.lookup x=some c->c≠T)/\∀p∈X.pn++pins,p.1≠T:=by
   refine⟨cXJ Y.sz nT,λe=>?_,λx c q e=>?_,λp G e=>?_⟩
   ·rw[e]at nT;exact absurd (cXE Y.lt nT) (cZk _)
   ·obtain⟨v,o,P,_⟩:=Y.cell x c q;rw[e]at P;exact absurd (cXE (cXq P) nT) (cZk _)
   ·have P:=(Y.pin p G).1;rw[e]at P;exact absurd (cXE (cXq P) nT) (cZk _)
  have mk:∀ {σ:St} {H:Hp} {s:cXd},Inv X pins σ H s->Inv {X with A:=X.A.mark (some (.ref e)),calm:=false,pn:=X.pn,xe:=λ_ _=>True} pins σ H s:=λJ=>J.mark (hA e) (λz=>by cases z) λp G=>G
  have un:∀ {σ:St} {H:Hp} {s:cXd},Inv {X with A:=X.A.mark (some (.ref e)),calm:=false,pn:=X.pn,xe:=λ_ _=>True} pins σ H s->Inv X pins σ H s:=λ{σ H s} J=>Inv.mark (X:={X with A:=X.A.mark (some (.ref e)),calm:=false,pn:=X.pn,xe:=λ_ _=>True}) J (hA e).symm m λp G=>G
  refine wpAny_handleBy_cons (codeAny_handlers_test ?_) (by intro q;cases q)
  refine jM (X:={X with A:=X.A.mark (some (.ref e)),calm:=false,pn:=X.pn,xe:=λ_ _=>True}) (mk J3) hg hm ?_ c5
  obtain⟨oe,vs,g1,g2,g3,g4,g5⟩:=y.obj
  refine aYT J3.kIn cC cr hs g1 g2 ?_
  refine codeAny_handlers_suite_as ?_
  refine bZx (s:={k with heap:=h3}) y λh4 y4 k4 t4=>?_
  have J4:Inv X pins l H' {k with heap:=h4}:=Inv.recs (s:={k with heap:=h3}) (h':=h4) (ch:= [T]) J3 (λb j=>by rw[cXo.mp j];exact .inr Q) (λb j=>by rw[cXo.mp j];exact b1)
   (λb o _ U q=>k4 b o (λz=>U (by simp[z])) q) (λb o U q=>⟨o.slots,k4 b o (λz=>U (by simp[z])) q⟩)
  refine aXO (X:={X with A:=X.A.mark (some (.ref e)),calm:=false,pn:=X.pn,xe:=λ_ _=>True}) (v:= .ref e) (u:= .ref e) (mk J4) hN hi (.inl hl) rfl (λs5 J5 ⟨a,sb,ha⟩=>?_) (.inr hl)
  have a4:e≠a/\T≠a:=by
   rcases ha with z|z
   ·rw[z];exact⟨(big _ a2).2.1,Q.2.1⟩
   ·exact⟨λq=>(big _ a2).2.2.1 n a z q.symm,λq=>Q.2.2.1 n a z q.symm⟩
  have y5:Q4 s5.heap e (.ref C') (some dx) (some T):=y4.keeps λb o j q=>(sb.2 b (by
   rcases j with rfl|j
   ·exact a4.1
   ·cases j;exact a4.2)).trans q
  obtain⟨a7,c8,f1,f2,f3,f4,f5⟩:=y5.obj
  obtain⟨mA,c6,a5⟩:=J5.hok dx _ hd
  obtain⟨od,a8,c0⟩:=aJB c6
  obtain⟨u,hu,ru⟩:=aZ7.some_of (v:=V.str t) (o:=mA AG) (a5 AG)
  obtain⟨m5,a6,b4⟩:=J5.loc
  obtain⟨u5,r5,l5⟩:=b4 i n (.ref e) hi (cJw (by rw[J4.len];exact(cXn.mp hi).1)) (.inl hl)
  obtain rfl:u5=Value.ref e:=r5
  have b3:m5 n=some (.ref e):=by
   rcases l5 with⟨_,z⟩|⟨z,_⟩
   ·exact z
   ·rw[show X.env.kindOf n=some .local from hl]at z;rcases z with z|z<;> cases z
  refine wpAny_execs_cons (wpAny_Return_some (aYA rfl ?_))
  refine wpAny_Name (wpAny_loadName_local J5.ok.kind hl a6 b3 ?_) b9
  refine bVY J5.kIn cC f1 f2 f3 (by obtain⟨c1,c2,c3,c4⟩:=a7;cases f4;rfl) a8 (by rw[c0,hu]) (aJp ru) ?_
  have J6:=(un J5).tok (s5.toks+1)
  obtain⟨m6,b7,_⟩:=J6.loc
  refine wpAny_nameGoes hl b7 (by rw[J6.ok.kind];rfl) λh7 m7 a9 b5=>?_
  exact⟨.str t,_,H',J6.names (t':=s5.toks+1+1) a9 b5,ru,hq⟩
 have b6:uC (CXR X.prog X.w) {X with A:=X.A,calm:=X.calm,pn:=X.pn++pins,xe:=λg k=>cXi (cXk X.prog X.w) X.A (cVO g X.env) (λ_ S=>cXi (cXk X.prog X.w) X.A (cVr g none) (λ_ R=>cXi (cXk X.prog X.w) X.A (handleBy g X.env [.ExceptHandler (some (.Name W cp)) (some n) [.Return (some (.Attribute (.Name n p1) AG p2)) p3] G]) (SP X pins D) X.xe R) X.xe S) X.xe k} (bY1 X.K Rf D.rt):=
  λa1 l M Z g k J hx=>go [] l M Z g k (Inv.mark (X:={X with A:=X.A,calm:=X.calm,pn:=X.pn++pins,xe:=λg k=>cXi (cXk X.prog X.w) X.A (cVO g X.env) (λ_ S=>cXi (cXk X.prog X.w) X.A (cVr g none) (λ_ R=>cXi (cXk X.prog X.w) X.A (handleBy g X.env [.ExceptHandler (some (.Name W cp)) (some n) [.Return (some (.Attribute (.Name n p1) AG p2)) p3] G]) (SP X pins D) X.xe R) X.xe S) X.xe k}) J rfl m λp O=>cZY _ O) hx
 have I':Inv {X with A:=X.A,calm:=X.calm,pn:=X.pn++pins,xe:=λg k=>cXi (cXk X.prog X.w) X.A (cVO g X.env) (λ_ S=>cXi (cXk X.prog X.w) X.A (cVr g none) (λ_ R=>cXi (cXk X.prog X.w) X.A (handleBy g X.env [.ExceptHandler (some (.Name W cp)) (some n) [.Return (some (.Attribute (.Name n p1) AG p2)) p3] G]) (SP X pins D) X.xe R) X.xe S) X.xe k} [] σ H s:=
  I.mark rfl m λp O=>by simpa using O
 have F:∀ {σ:St} {H:Hp} {s:cXd},Inv {X with A:=X.A,calm:=X.calm,pn:=X.pn++pins,xe:=λg k=>cXi (cXk X.prog X.w) X.A (cVO g X.env) (λ_ S=>cXi (cXk X.prog X.w) X.A (cVr g none) (λ_ R=>cXi (cXk X.prog X.w) X.A (handleBy g X.env [.ExceptHandler (some (.Name W cp)) (some n) [.Return (some (.Attribute (.Name n p1) AG p2)) p3] G]) (SP X pins D) X.xe R) X.xe S) X.xe k} [] σ H s->Inv X pins σ H s:=
  λ{σ H s} J=>⟨bWp J.ok,J.os,J.bare,J.base,J.loc,J.cell,J.free,J.freeC,λp O=>J.pin p (by simpa using O),J.hok,J.len⟩
 refine cZh (j _ _ _ b6 [] s σ H D I' h) (λf Z q=>?_) λ_ _ q=>q;cases f with
 |next=>obtain⟨B,M,J,q⟩:=q;exact yS pins Z B M D (F J) q
 |ret v=>obtain⟨u,B,M,J,r,q⟩:=q;exact⟨u,B,M,F J,r,q⟩
 |brk=>obtain⟨B,M,J,q⟩:=q;exact⟨B,M,F J,q⟩
 |cont=>obtain⟨B,M,J,q⟩:=q;exact⟨B,M,F J,q⟩
end
end L2
namespace L2
open PySem PySem.Spec PyProof.Rows
def aY8{P:cXB}{w:cXN}{K:cXc}{mg mb:Str->Option cXb}{CX:CXT}{k:Nat}{fa a c T:Nat}{fd:cJc}{x:Str}{sp:Sp}{f:cXd}{vs:List cXb}{S:List Int} (KX:K.In f.heap) (I:f.heap.Ns cXK mg) (l:f.heap.Ns builtinsNs mb) (a1:∀x:Str,x≠Ae->mb x=cXV x) (U:f.heap.NoLimit) (hg:f.gens= #[]) (J:f.heap.get? a=some {cls:= .type AC,data:= .seq vs.toArray}) (hi:cJv vs S) (hl:S.length<=cXy) (hr:uT k callerA) (hC:cJi f.heap c T) (M:f.heap.get? T=some (cJR #[])) (a6:K.lookup T=none) (a3:∃R B,mg "__builtins__"=some (.ref R)/\R≠builtinsNs/\f.heap.get? R=some B/\B.cls= .type "module"/\B.dict=some builtinsNs/\B.data= .plain) (F:∀base:Heap,K.In base->base.Ns cXK mg->cJi base c T->base.BuiltinsAt mg T->xL P w K mg base CX k fa fd [x] sp) (G:∀ (s:cXd)(u:cXb),BindsTo s fd ⟨[u],[]⟩ [(x,u)]) (a2:∀H:Hp,H T=some (.tbl #[])->SqL K H a (S.map V.int)->sp [.ref a] H (λv _=>v= .bl true) λ_ _ _=>False) (a7:∀H e j,CX [] H f (λ_ _ _=>False) e j->False): cJq (cXk P w) callerA (.call (.ref fa) ⟨[.ref a],[]⟩) (λr j=>r= .ok (.ret (.bool true))/\OldK f.heap j.heap/\j.os=f.os/\AllBare j.gens) f:=by
 have rv:=jI hi;have bWh:=hi.length;have a0:a≠T:=λz=>by rw[z,M]at J;cases J
 have D:∀H:Hp,H T=some (.tbl #[])->SqL K H a (S.map V.int)->HOk P w H f.heap->(∀b,H b≠none->b=T\/(b=a/\∃o xs,H b=some (.frz o (.lst xs))))->(H a≠none->K.lookup a=none)->
   cJq (cXk P w) callerA (.call (.ref fa) ⟨[.ref a],[]⟩) (λr j=>r= .ok (.ret (.bool true))/\OldK f.heap j.heap/\j.os=f.os/\AllBare j.gens) f:=by
  intro H hH hS Y hA hK
  have i:∀ {b:Nat} {o:Obj},f.heap.get? b=some o->H b=none->(aYX f.heap H).get? b=some o:=λe n=>bZr e n
  have p:∀ {b:Nat} {o:Obj},f.heap.get? b=some o->(∀ps,o≠cJR ps)->(∀A,o≠ {cls:= .type AC,data:= .seq A})->H b=none:=λ{b o} e n1 n2=>by
   cases q:H b with
   |none=>rfl
   |some u=>
    rcases hA b (by rw[q];simp)with z|⟨z,_⟩
    ·rw[z,M]at e;cases e;exact absurd rfl (n1 _)
    ·rw[z,J]at e;cases e;exact absurd rfl (n2 _)
  have t:∀ {b:Nat} {m:Str->Option cXb},f.heap.Ns b m->(aYX f.heap H).Ns b m:=λ{b m} ⟨o,es,ep,e,d,r⟩=>⟨o,es,ep,i e (p e (λps z=>by rw[z]at d;cases d) (λA z=>by rw[z]at d;cases d)),d,r⟩
  have Z:K.In (aYX f.heap H):=λb o e=>i (KX b o e) (by
   cases q:H b with
   |none=>rfl
   |some u=>
    rcases hA b (by rw[q];simp)with z|⟨z,_⟩
    ·rw[z,a6]at e;cases e
    ·subst z;rw[hK (by rw[q];simp)]at e;cases e)
  have hM:Mod K mg (aYX f.heap H):=⟨Z,t I,⟨mb,t l,a1⟩,let ⟨mc,h1,h2⟩:=U;⟨mc,t h1,h2⟩⟩
  have e0:bVJ P w K mg (aYX f.heap H) callerA [] f H:=⟨rfl,hM,λb o e=>bWn e,cJV (aYY _ _),trivial,λb l=>absurd (show b∈([]:List Nat)from l) (by simp),Y,.of_eq hg⟩
  have a5:cJi (aYX f.heap H) c T:=by
   obtain⟨o,vs,file,tf,E,tg,inF,text,tt,e,Q,r⟩:=hC;exact⟨o,vs,file,tf,E,tg,inF,text,tt,i e (p e (λps z=>by rw[z]at Q;cases Q) (λA z=>by
    rw[z]at Q;have c':Value.type AC=Value.type "code":=Q;injection c' with c''
    exact absurd c'' (by decide))),Q,r⟩
  have a4:(aYX f.heap H).BuiltinsAt mg T:=by
   obtain⟨R,B,b1,b2,L,b4,b5,N⟩:=a3;refine⟨R,B,b1,b2,λz=>?_,λz=>?_,i L (p L (λps z=>by rw[z]at b4;cases b4) (λA z=>by rw[z]at N;cases N)),b4,b5,N⟩
   ·obtain⟨o,es,ep,e,d,_⟩:=I;rw[z,e]at L;cases L;rw[d]at N;cases N
   ·rw[z,M]at L;cases L;cases b4
  refine cZ8 ((F _ Z (t I) a5 a4).run callerA [] f H ⟨[.ref a],[]⟩ [.ref a] [.ref a] _ _ hr e0 (G f (.ref a)) (.cons rfl .nil) (a2 H hH hS)) λr j h=>?_
  cases r with
  |error e=>exact(a7 H e j h).elim
  |ok fl=>
   cases fl with
   |next=>exact cZO h
   |brk=>exact cZO h
   |cont=>exact cZO h
   |ret u=>
    obtain⟨v,H',os,bare,un,C,r',q⟩:=h;have q':v= .bl true:=q;subst q';obtain rfl:u=Value.bool true:=r';obtain⟨more,hm⟩:=un.tbls T _ hH;have O:j.heap.get? T=some (cJR (#[]++more)):=C T _ hm;have get:∀b o,b≠T->f.heap.get? b=some o->j.heap.get? b=some o:=λb o g e=>by
     cases q:H b with
     |none=>exact un.keep b o e q (by intro z;exact absurd (show b∈([]:List Nat)from z) (by simp)) (by simp)
     |some u=>
      rcases hA b (by rw[q];simp)with z|⟨_,B,xs,z⟩
      ·exact absurd z g
      ·have z2:=un.frzs b B _ z;obtain⟨e1,_⟩:=Y b _ z;obtain⟨e2,_⟩:=C b _ z2;rw[e]at e1;cases e1;exact e2
    refine⟨rfl,⟨λb o e=>?_,λb o e=>?_⟩,os,bare⟩
    ·by_cases g:b=T
     ·subst g;rw[M]at e;cases e;exact .inr (.inl ⟨(hC.tab M).isCodeTable,Ce, #[],more,Ce,O⟩)
     ·exact .inl (get b o g e)
    ·by_cases g:b=T
     ·exact⟨_,by rw[g];exact O⟩
     ·exact⟨o,get b o g e⟩
 have X:∀H:Hp,zT P w H f.heap T (.tbl #[]):=λH=>M;cases hk:K.lookup a with
 |some o=>
  have e:=KX a o hk;rw[J]at e;cases e;refine D (λb=>if b=T then some (.tbl #[])else none) (if_pos rfl) (.inr ⟨_,vs.toArray,_,hk,Ce,Ce,Ce,by rw[cXt,bWh];exact hl,by simpa using rv⟩) (λb u z=>?_) (λb z=>?_) λz=>absurd (if_neg a0) z
  ·by_cases g:b=T
   ·have y:=(if_pos g).symm.trans z;cases y;subst g;exact X _
   ·have y:=(if_neg g).symm.trans z;cases y
  ·by_cases g:b=T
   ·exact .inl g
   ·exact absurd (if_neg g) z
 |none=>
  refine D (λb=>if b=T then some (.tbl #[])else if b=a then some (.frz {cls:= .type AC,data:= .seq vs.toArray} (.lst (S.map V.int)))else none) (if_pos rfl)
   (.inl (.inr ⟨{cls:= .type AC,data:= .seq vs.toArray},by show(if a=T then _ else _)=_;rw[if_neg a0,if_pos rfl]⟩)) (λb u z=>?_) (λb z=>?_) λ_=>hk
  ·by_cases g:b=T
   ·have y:=(if_pos g).symm.trans z;cases y;subst g;exact X _
   ·have z1:=(if_neg g).symm.trans z;by_cases l:b=a
    ·have y:=(if_pos l).symm.trans z1;cases y;subst l;exact⟨J,by rw[cXe];exact hl,vs,_,rv,J⟩
    ·have y:=(if_neg l).symm.trans z1;cases y
  ·by_cases g:b=T
   ·exact .inl g
   ·by_cases l:b=a
    ·exact .inr ⟨l,_,_,by show(if b=T then _ else _)=_;rw[if_neg g,if_pos l]⟩
    ·exact absurd (by show(if b=T then _ else _)=_;rw[if_neg g,if_neg l]) z
def bJ9{l:PySem.W.OpenLaw}{n k:Nat}{q:cXB}{loose:List Str}{XP:(Str->Option cXb)->Heap->Prop}{I:cXN->Heap->Prop}{d:DefRec}{K:Params->cXc}{CX:CXT}{sp:Nat->cXc->Sp}{x:Str}{T:Nat} (U:l.most=some n) (L:n<=cXy) (z:d.params.defaults= []) (S:uT k callerA) (O:∀ (w:cXN)(h:Heap),I w h->(K w.params).In h) (M:∀ (w:cXN)(h:Heap),I w h->h.get? T=some (cJR #[])) (F:∀ (w:cXN)(mg:Str->Option cXb)(t:Nat)(h:Heap),(K w.params).In h->h.Ns cXK mg->mg d.name=some (.ref t)-> ∃ (J:cJc)(c:Nat),cV6 (K w.params) c T=true/\(K w.params).lookup T=none/\(∀ (s:cXd)(u:cXb),BindsTo s J ⟨[u],[]⟩ [(x,u)])/\ ∀base:Heap,(K w.params).In base->base.Ns cXK mg->cJi base c T->base.BuiltinsAt mg T->xL l.prog w (K w.params) mg base CX k t J [x] (sp T (K w.params))) (E:∀ (K:cXc)(H:Hp)(a:Nat)(r:List Int),r.length<=n->H T=some (.tbl #[])->SqL K H a (r.map V.int)->sp T K [.ref a] H (λv _=>v= .bl true) λ_ _ _=>False) (C:∀ (H:Hp)(s:cXd)(e:cXb)(D:cXd),CX [] H s (λ_ _ _=>False) e D->False): PySem.W.WalkO q loose XP I l.row.toRowW d [] (λf N=>PySem.call f N):=by
 refine Att.aVc U z λw s₀ m mg mb t o pm cd a0 a N r G Y ho hd a1 y p j i R=>?_;have B:=O w _ Y;obtain⟨J,c,P,A,hb,Q⟩:=F w mg t _ B G.T.g y;exact aY8 B G.T.g G.T.b G.T.builtins G.T.nolimit R p j (cXJ i L) S (PySem.W.codeHd_of_K B P) (M w _ Y) A G.T.bmain Q hb (λH Z X=>E _ H a r i Z X) λH e D=>C H m e D
end L2
namespace Thr
open PySem L2 PyProof.Rows
open Stree (aQu qW vH)
def aJq(x:Str):Stmt->Bool
 |.FunctionDef n _ _ _ _ _ _ _ _ _=>n==x
 |_=>false
def xM(x:Str):Stmt:=(PySem.Challenge.pw_letterdesk_k09_whole_files.main.body.find? (aJq x)).getD (.Pass ⟨0,0,0,0⟩)
abbrev aVU:Stmt:=xM B9
abbrev bXg:Stmt:=xM "top_of"
abbrev aVL:Stmt:=xM AX
def xG:cXV C0=some (.builtin C0):=dk
def wZ:cXV AQ=some (.builtin AQ):=dk
def yY:cXV Aa=some (.builtin Aa):=dk
def qE:cXV As=some (.type As):=dk
def wM:cXV AC=some (.type AC):=dk
def vT:cXV AE=some (.type AE):=dk
structure uK(mg:Str->Option cXb):Prop where
 b_len:mg C0=none
 b_sorted:mg AQ=none
 b_isinstance:mg Aa=none
 b_int:mg As=none
 b_str:mg At=none
 b_bool:mg Al=none
 b_list:mg AC=none
 b_tuple:mg AE=none
 b_range:mg Ag=none
def wB(k:xJ a H)(h:a c=none):xJ a (upd H c o):=λb u q=>by rw[yJ (yI q h)];exact k b u q
def aKy{K:cXc}{a:Nat}{xs:List V}{G:List Nat}{σ:L2.St}{D:Nat}{Q:VK}{H:Hp}(hl:SqL K H a xs)(t:H D=none)(hz:xs.length<=1000) (A:∀ (d:Hp)(c:List Nat),xJ H d->d D=some (.lst (c.map V.ref))->c.length=xs.length->c.Nodup->(∀b∈c,d b=some (.lst [])/\H b=none/\b≠D)->Q (.ref D) d):bVL (Itl K a) G cQy (cQI bXW) σ D Q (upd H D (.lst [])):=by
 refine⟨λi m o d=>m=xs.length - i/\i<=xs.length/\∃c:List Nat,o=c.map V.ref/\c.length=i/\c.Nodup/\xJ H d/\d D=some (.lst o)/\∀b∈c,d b=some (.lst [])/\H b=none/\b≠D,
  ⟨xs.length,by simp,cZc _,[],Ce,Ce,.nil,yE t _,yB,λb g=>nomatch g⟩,?_⟩
 rintro i m o d ⟨rfl,I,c,rfl,l,w,j,k,f⟩;refine⟨k,?_⟩;have u:=xJ.seq j hl;by_cases q:i<xs.length
 ·refine .inr ⟨⟨xs,xs[i],u,cQ9 q⟩,λv J E=>?_⟩;obtain⟨rfl,y⟩:=E;refine⟨z0,λp h=>?_⟩;have e:p≠D:=cXT (yI k h);have n:p∉c:=λz=>by rw[(f p z).1]at h;cases h
  refine⟨zlt (by rw[cXe];omega),by rw[yJ (cXT e)];exact k,xs.length - (i+1),by omega,Ce,by omega,c++ [p],by simp,by simp[l],?_,?_,yB,λb g=>?_⟩
  ·rw[cJJ];exact⟨w,by simp,λx B y C z=>by rw[cXo.mp C]at z;exact n (z ▸ B)⟩
  ·exact wB (j.trans (yE h _)) t
  ·rcases cXH.mp g with g|g
   ·obtain⟨s,F,r⟩:=f b g;exact⟨by rw[yJ r,yJ (yI s h)];exact s,F,r⟩
   ·rw[cXo.mp g];exact⟨by rw[yJ e];exact yB,j.fresh h,e⟩
 ·refine .inl ⟨⟨xs,u,by omega⟩,A d c j k (by omega) w f⟩
def zY:Option Nat->V
 |none=> .non
 |some j=> .int (j:Nat)
def jC(n:Nat)(L:Nat->Option Nat):List V:=(cXm n).map λi=>zY (L i)
def W4(n:Nat)(D:Nat->Int):List V:=(cXm n).map λi=> .int (D i)
def qX{L:Nat->Option Nat}(h:i<n):(jC n L)[i]? =some (zY (L i)):=by unfold jC;rw[cXu,cJe h];rfl
def aKl{D:Nat->Int}(h:i<n):(W4 n D)[i]? =some (.int (D i)):=by unfold W4;rw[cXu,cJe h];rfl
inductive bYD(K:cXc)(vs:List V)(H:Hp)(Q:VK)(h:XK):Prop|mk(a:Nat)(n:Nat)(L:Nat->Option Nat)(rk:Nat->Nat)(i:Nat)(h:vs= [.ref a,.int (i:Nat)])(h:SqL K H a (jC n L))(h:Fm.Ok n L rk)(h:i<n)(h:Q (.int (Fm.tp L rk i:Nat)) H)
def vG(T:Nat):Hp->Prop:=Q8 ⟨116,48,116,71⟩ "answers_to_each.<locals>.<lambda>" T
structure cQA(n:Nat)(L:Nat->Option Nat)(D:Nat->Int)(kd:Nat->List Nat):Prop where
 mem:∀j i,i∈kd j↔i<n/\L i=some j
 ord:∀j,(kd j).Pairwise λx y=>vH (D y,(y:Int)) (D x,(x:Int))=true
inductive bKl(T:Nat)(vs:List V)(H:Hp)(Q:VK)(h:XK):Prop|mk(la da:Nat)(n:Nat)(L:Nat->Option Nat)(rk:Nat->Nat)(D:Nat->Int)(h:vs= [.ref la,.ref da])(h:H la=some (.lst (jC n L)))(h:H da=some (.lst (W4 n D)))(h:Fm.Ok n L rk)(h:n<=63)(h:vG T H)(h:∀ (H':Hp)(a:Nat)(rs:List Nat)(kd:Nat->List Nat),zK H H'->vG T H'->H' a=some (.lst (rs.map V.ref))->rs.length=n->(∀j b,rs[j]? =some b->H' b=some (.lst ((kd j).map λi=>V.int (i:Nat))))->cQA n L D kd->Q (.ref a) H')
inductive aWY(T:Nat)(vs:List V)(H:Hp)(Q:VK)(h:XK):Prop|mk(la da:Nat)(n:Nat)(L:Nat->Option Nat)(rk:Nat->Nat)(D:Nat->Int)(i:Nat)(h:vs= [.ref la,.ref da,.int (i:Nat)])(h:H la=some (.lst (jC n L)))(h:H da=some (.lst (W4 n D)))(h:Fm.Ok n L rk)(h:n<=63)(h:i<n)(h:vG T H)(h:∀ (H':Hp)(r:Nat)(told:List Nat),(∀b u,(∀ps,u≠HO.tbl ps)->H b=some u->b≠r)->zK H H'->vG T H'->H' r=some (.lst (told.map λi=>V.int (i:Nat)))->(told.Pairwise λx y=>qW (Fm.rd L D rk x) (Fm.rd L D rk y)=true)->(∀k,k∈told↔k<n/\Fm.tp L rk k=Fm.tp L rk i)->Q (.ref r) H')
section
variable {K:cXc}
def bJL:yO [An,AD,"top"] [An,AD] (yH bXg):=scM
def bZ6(T:uK mg)(F:Fun K "top_of" "top_of" bXg f fd):xL P w K mg base CX0 1 f fd [An,AD] (bYD K):=by
 have y:=bJL;refine F.ok (k:=0) y (λB A outer s x D Q E C h=>?_);obtain⟨a,n,L,b,i,rfl,r,l,v,q⟩:=h;refine⟨_,(yC (yU (i:=2) (pv 1)) (yC (jP cX0 (yM vB (yL yK (pv 0) (pv 2)) zN) (yF (yU (i:=2) (yL yK (pv 0) (pv 2))))) (yF (yP (pv 2))))),?_⟩;refine⟨_,Ce,?_⟩;refine⟨λm σ H=>∃t:Nat,σ= [some (.ref a),some (.int (i:Nat)),some (.int (t:Nat))]/\H=x/\t<n/\Fm.tp L b t=Fm.tp L b i/\m=b t,⟨b i,i,Ce,Ce,v,Ce,rfl⟩,?_⟩;rintro m σ H ⟨t,rfl,rfl,e,c,rfl⟩;refine⟨_,Ce,_,Ce,a,_,_,_,Ce,Ce,r,yT (qX e),Ce,_,Ce,?_⟩;cases hl:L t with
 |none=>refine onF rfl ⟨_,Ce,?_⟩;rw[Fm.wO hl]at c;rw[c];exact q
 |some j=>obtain⟨u,g⟩:=l.lt t j e hl;refine onT rfl ⟨λd p=>∃o,o<b t/\∃t:Nat,d= [some (.ref a),some (.int (i:Nat)),some (.int (t:Nat))]/\p=H/\t<n/\Fm.tp L b t=Fm.tp L b i/\o=b t,λd p z=>z,?_⟩;refine⟨_,Ce,_,Ce,a,_,_,_,Ce,Ce,r,yT (qX e),?_⟩;rw[hl];exact⟨b j,g,j,Ce,Ce,u,by rw[<- c,Fm.uX l e hl],rfl⟩
def bYs:yO [An,Ax,B2,AM] [An,Ax] (yH aVL):=scM
def bK1:xO [An,Ax,B2,AM] (yH aVL) Cb [] [] (lsN [(".0",.local),(Cb,.local)]):=
 lcM
def bWb:xO [An,Ax,B2,AM] (yH aVL) "n" [Ax] [1] (lsN [("n",.local),(Ax,.free)]):=
 lcM
def bK7{oc:cXb}{od an:Option Nat}{b4:Array (Option cXb)}{kV Z pm ct:cXb}(T:uK mg)(C:cJi base c Tb)(hB:base.BuiltinsAt mg Tb) (lk:K.lookup f=some ⟨oc,od,.func (cZf AX AX (zE aVL) (xW aVL) (yH aVL) .none kV Z pm an (.ref c) ct),b4⟩) (b5:cZ0 K (.ref c) AX=true): xL P w K mg base CX0 2 f (cZf AX AX (zE aVL) (xW aVL) (yH aVL) .none kV Z pm an (.ref c) ct) [An,Ax] (bKl Tb):=by
 have sc:=bYs;refine bV2 (k:=1) lk b5 sc (λvs H Q E h=>by obtain⟨I,da,n,L,rk,D,rfl,_⟩:=h;rfl) λA outer s H0 vs Q E hr h=>?_;suffices M:∃t,PSs (aZr CX0 P w K mg base [An,Ax,B2,AM] AX (yH aVL) f (.ref c) A outer s H0 E).nox (xW aVL) t/\t {nx:=λ_ H'=>Q .non H',rt:=Q} (start [An,Ax,B2,AM] vs) H0 by obtain⟨t,g,v⟩:=M;exact⟨t,g.nox,v⟩
 obtain⟨I,da,n,L,rk,D,rfl,r,a8,ho,hn,hT,q⟩:=h;refine⟨_,(yC (aX1 (i:=2) bK1 rfl sc.nd rfl rfl (xN (pv 0)) (λ_ _ _ _ _=>wS) (λ_ _ _ _ _=>(xB yD))) (yC (wV cX0 rfl (xN (aK0 (qual:="answers_to_each.<locals>.<lambda>") rfl T.b_sorted rfl T.b_range (yR yN rfl T.b_len xG (yA (pv 0) yD)) bWb rfl rfl rfl C hB hr rfl rfl (λ_ _ _ _ _=>rfl) (λ_ _ _ _ _ _ _=>xK (yA (yL ixK (pv 1) (pv 0)) (yA (pv 0) yD))))) (xI (i:=3)) (yF (xA (yM vB (yL yK (pv 0) (pv 3)) zN) (yF (yZ (jD cXF cXP cXQ xR (yL yK (pv 2) (yL yK (pv 0) (pv 3))) (yA (pv 3) yD)))) yS))) (yF (yP (pv 2))))),?_⟩;have G:(jC n L).length=n:=by simp[jC]
 refine⟨_,Ce,I,Ce,⟨_,Cc r⟩,λa ha=>aKy (Cc r) ha (by omega) λH1 d X hD a2 nd y=>?_⟩;rw[G]at a2;dsimp only[yW];have a1:=X _ _ r;have a4:=X _ _ a8;have b1:vG Tb H1:=by
  rcases hT with t|⟨c',t1,Y⟩
  ·exact .inl (X _ _ t)
  ·exact .inr ⟨c',X _ _ t1,X _ _ Y⟩
 refine⟨_,Ce,I,_,Ce,.inl (Cc a1),?_⟩;rw[G];refine⟨n,Ce,by omega,b1,λi=>(D i,(i:Int)),λi j _ _ z=>?_,λi H3 O k3 t3 R hR=>?_,λH5 l out k5 t5 nl J b3 h5=>⟨l,Ce,⟨_,Cc h5⟩,?_⟩⟩
 ·have:=congrArg Prod.snd z;simp only at this;omega
 ·refine⟨_,Ce,_,Ce,da,_,_,_,Ce,Ce,Cc (k3.lst a4),yT (aKl O),_,Ce,z2,λp hp=>hR p _ (yE hp _).t ?_ yB⟩;rcases t3 with t|⟨_,t,_⟩
  ·rw[yJ (yI t hp)]
  ·rw[yJ (yI t hp)]
 ·have hm:∀i∈out,i<n:=λi O=>cXI.mp (J.mem_iff.mp O);have kk:zK H0 H5:=X.t.trans k5;have nr:∀b o,H0 b=some o->b∉d:=λb o e z=>by rw[(y b z).2.1]at e;cases e
  have r5:∀b∈d,H5 b=some (.lst []):=λb u=>k5.lst (y b u).1;have nT:Tb∉d:=λz=>by
   have e:=r5 _ z;rcases t5 with t|⟨_,t,_⟩
   ·rw[t]at e;cases e
   ·rw[t]at e;cases e
  have b0:l∉d:=λz=>by rw[(y l z).1]at nl;cases nl
  have a0:a∉d:=λz=>(y a z).2.2 rfl;have a5:H5 a=some (.lst (d.map V.ref)):=k5.lst hD;refine zV (xs:=out.map λi=>V.int (i:Nat)) (λt σ H=>∃lt,σ= [some (.ref I),some (.ref da),some (.ref a),lt]/\(∀b o,H5 b=some o->b∉d->H b=some o)/\
   ∀j b,d[j]? =some b->H b=some (.lst (((out.take t).filter λi=>decide (L i=some j)).map λi=>V.int (i:Nat)))) ?_ ?_ ?_ ?_
  ·exact⟨none,Ce,λb o e _=>e,λj b u=>r5 b (cXs u)⟩
  ·rintro t σ H ht ⟨lt,rfl,g,v⟩;exact Cc (g _ _ h5 b0)
  ·rintro t x σ H M ⟨lt,rfl,g,v⟩;rw[cXu]at M;cases he:out[t]? with
   |none=>rw[he]at M;cases M
   |some i=>
    rw[he]at M;cases M;have O:=hm i (cXs he);have a7:out.take (t+1)=out.take t++ [i]:=by rw[cZa,he];rfl
    have B:H I=some (.lst (jC n L)):=g _ _ (kk.lst r) (nr _ _ r);have a9:H a=some (.lst (d.map V.ref)):=g _ _ a5 a0;dsimp only[yW];refine⟨_,Ce,_,Ce,I,_,_,_,Ce,Ce,Cc B,yT (qX O),Ce,_,Ce,?_⟩;cases hl:L i with
    |none=>
     refine onF rfl ⟨_,Ce,g,λj b u=>?_⟩;rw[v j b u,a7,cZo];have: [i].filter (λi=>decide (L i=some j))= []:=by simp[hl]
     rw[this,cZg]
    |some j=>
     obtain⟨hj,_⟩:=ho.lt i j O hl;have S:j<d.length:=by omega
     have u:=cQ9 S;have a6:=v j _ u;refine onT rfl ?_;refine⟨_,Ce,_,Ce,_,Ce,I,_,_,_,Ce,Ce,Cc B,yT (qX O),?_⟩;rw[hl];refine⟨a,_,_,.ref d[j],Ce,Ce,Cc a9,yT (by rw[cXu,u];rfl),.inl ⟨rfl,_,Cc a6⟩,_,Ce,d[j],_,_,Ce,Ce,a6,zlt ?_,_,Ce,λb o e a3=>?_,λU b m=>?_⟩
     ·rw[cXe];have:=cX6 (λi=>decide (L i=some j)) (out.take t);have h3:=List.length_take_le t out;have h4:out.length=n:=by rw[J.length_eq,cX1]
      have h5:(out.take t).length<=out.length:=by rw[cZl];omega
      omega
     ·rw[yJ (λz=>a3 (by rw[z];exact cZX S))];exact g b o e a3
     ·rw[a7,cZo];by_cases N:U=j
      ·subst N;rw[u]at m;cases m;rw[yB];have: [i].filter (λi=>decide (L i=some U))= [i]:=by simp[hl]
       rw[this,cZy];rfl
      ·have b2:b≠d[j]:=λz=>by
        have h6:U<d.length:=(cXn.mp m).1;have h7:d[U]=b:=(cXn.mp m).2;exact N ((cZ5 (h₀:=h6) (h₁:=S) nd).mp (h7.trans z))
       rw[yJ b2,v U b m];have: [i].filter (λi=>decide (L i=some U))= []:=by simp[hl,cXT N]
       rw[this,cZg]
  ·rintro σ H ⟨lt,rfl,g,v⟩;rw[cXe,cX4]at v;refine⟨_,Ce,q H a d (λj=>out.filter λi=>decide (L i=some j)) (λb o nt e=>g b o (kk b o nt e) (nr b o e)) ?_ (g _ _ a5 a0) a2 v ⟨λj i=>?_,λj=>?_⟩⟩
   ·rcases t5 with t|⟨c',t1,Y⟩
    ·exact .inl (g _ _ t nT)
    ·exact .inr ⟨c',g _ _ t1 nT,g _ _ Y λz=>by rw[r5 _ z]at Y;cases Y⟩
   ·rw[cZd,J.mem_iff,cXI,decide_eq_true_eq]
   ·exact(b3.imp λh=>by simpa using h).sublist cZ2
end
def aKv{L:Nat->Option Nat}{D:Nat->Int}{a:Nat->List Nat}(h:cQA n L D a)(j:Nat):(a j).length<=n:=
 Fm.vP ((h.ord j).imp λ{x y} e z=>by rw[z,Stree.vX]at e;cases e) λx b=>((h.mem j x).mp b).1
def bKv{L:Nat->Option Nat}{D:Nat->Int}{rk:Nat->Nat}(W:Fm.aJ7 n L D rk a b nx):nx.length<=n:=
 Fm.vP (W.aa.imp λ{x y} e z=>by have:=e x (List.prefix_refl _);rw[z,Stree.vY]at this;cases this) λx c=>(W.al x c).1
section
variable {K:cXc}
def bXw:yO [An,Ax,AD,B2,"told","ahead",AM] [An,Ax,AD] (yH aVU):=scM
def bQG(T:uK mg)(g:FnG P w K mg base 2 AX [An,Ax] (bKl Tb))(p:FnG P w K mg base 2 "top_of" [An,AD] (bYD K))(F:Fun K B9 B9 aVU f fd): xL P w K mg base CX0 3 f fd [An,Ax,AD] (aWY Tb):=by
 have sc:=bXw;refine F.ok (k:=2) sc (λa6 A outer s H0 vs Q E hr h=>?_);obtain⟨la,da,n,L,y,D,i,rfl,Y,a1,ho,hn,hi,hT,q⟩:=h;refine⟨_,(yC (yU (i:=3) (xU g hr rfl (yA (pv 0) (yA (pv 1) yD)))) (yC (yU (i:=4) (xB yD)) (yC (yU (i:=5) (xB (yA (xU p hr rfl (yA (pv 0) (yA (pv 2) yD))) yD))) (yC (jP cX0 (yM aX0 (yR yN rfl T.b_len xG (yA (pv 5) yD)) yG) (yC (yU (i:=6) (bQN cXF cV8 cV9 bQl (pv 5))) (yC (yZ (jD cXF cXP cXQ xR (pv 4) (yA (pv 6) yD))) (yF (yZ (jD cXF PySem.F.slot_list_extend PySem.F.type_list_extend bQk (pv 5) (yA (yL yK (pv 3) (pv 6)) yD))))))) (yF (yP (pv 4))))))),?_⟩;refine⟨_,Ce,_,Ce,la,da,n,L,y,D,Ce,Y,a1,ho,hn,hT,λO a rs kd k1 t1 ha a5 a2 hk=>?_⟩;dsimp only[yW];refine⟨z0,λr G=>?_⟩;dsimp only[yW];have k2:=yE G (.lst []);refine⟨_,Ce,_,Ce,la,n,L,y,i,Ce,Cc (k2 _ _ (k1.lst Y)),ho,hi,z1,λo J=>?_⟩;dsimp only[yW];have a0:O o=none:=k2.fresh J;have C:r≠o:=yI yB J;have k3:xJ O (upd (upd O r (.lst [])) o (.lst [V.int (Fm.tp L y i:Nat)])):=k2.trans (yE J _);refine⟨λm σ H=>L2.Ez3 λ(c N:List Nat)(lt:Option V)=>σ= [some (.ref la),some (.ref da),some (.int (i:Nat)),some (.ref a),some (.ref r),some (.ref o),lt]/\xJ O H/\H r=some (.lst (c.map λi=>V.int (i:Nat)))/\
   H o=some (.lst (N.map λi=>V.int (i:Nat)))/\Fm.aJ7 n L D y (Fm.tp L y i) c N.reverse/\m=n - c.length,
  ⟨n,[],[Fm.tp L y i],none,Ce,k3,by rw[yJ C];exact yB,yB,Fm.aJ7.start ho hi,by simp⟩,?_⟩
 rintro m σ H ⟨c,N,lt,rfl,x,R,B,W,rfl⟩;refine⟨_,Ce,o,_,Ce,.inl (Cc B),_,_,Ce,Ce,_,Ce,?_⟩;rcases List.eq_nil_or_concat N with rfl|⟨d,v,rfl⟩
 ·refine onF rfl ⟨_,Ce,q H r c (λb u n e=>yI (k1 b u n e) G) (k1.trans x.t) ?_ R W.tt λk=>W.done k⟩;rcases t1 with t|⟨c',t1,t2⟩
  ·exact .inl (x _ _ t)
  ·exact .inr ⟨c',x _ _ t1,x _ _ t2⟩
 ·rw[List.concat_eq_append]at B W ⊢;have X:decide ((((d++ [v]).map λi=>V.int (i:Nat)).length:Int) > 0)=true:=by
   refine decide_eq_true ?_;rw[cXe,cXD,cZp];omega
  refine onT X ⟨λU H'=>∃m',m'<n - c.length/\L2.Ez3 λ(c N:List Nat)(lt:Option V)=>U= [some (.ref la),some (.ref da),some (.int (i:Nat)),some (.ref a),some (.ref r),some (.ref o),lt]/\xJ O H'/\H' r=some (.lst (c.map λi=>V.int (i:Nat)))/\
   H' o=some (.lst (N.map λi=>V.int (i:Nat)))/\Fm.aJ7 n L D y (Fm.tp L y i) c N.reverse/\m'=n - c.length,λU H' z=>z,?_⟩
  have M:((d++ [v]).map λi=>V.int (i:Nat))[((d++ [v]).map λi=>V.int (i:Nat)).length - 1]? =some (V.int (v:Nat)):=by simp
  have I:((d++ [v]).map λi=>V.int (i:Nat)).dropLast=d.map λi=>V.int (i:Nat):=by simp
  refine⟨_,Ce,.inl ⟨rfl,_,Cc B⟩,o,_,_,Ce,Ce,B,M,?_⟩;rw[I];dsimp only[yW];have W':Fm.aJ7 n L D y (Fm.tp L y i) c (v::d.reverse):=by
   have:(d++ [v]).reverse=v::d.reverse:=by simp
   rw[this]at W;exact W
  have hv:=(W'.al v cXp).1;have W2:=W'.step ho (wY:=(kd v).reverse) (λj=>by rw[List.mem_reverse];exact hk.mem v j) (by rw[List.pairwise_reverse];exact hk.ord v);have l1:=W'.len;have l2:=bKv W';have l3:=aKv hk v;have l4:=W2.len;rw[cZb,List.length_reverse]at l2;rw[cXD,cZp]at l4;have Z:upd H o (.lst (d.map λi=>V.int (i:Nat))) r=some (.lst (c.map λi=>V.int (i:Nat))):=by rw[yJ C];exact R
  show aWa _ _ _ _;refine⟨_,Ce,.inl ⟨rfl,_,Cc Z⟩,_,Ce,r,_,_,Ce,Ce,Z,zlt (by rw[cXe];omega),?_⟩;have S:upd (upd H o (.lst (d.map λi=>V.int (i:Nat)))) r (.lst ((c.map λi=>V.int (i:Nat))++ [V.int (v:Nat)])) o=some (.lst (d.map λi=>V.int (i:Nat))):=by rw[yJ (cXT C)];exact yB
  have k6:xJ O (upd (upd H o (.lst (d.map λi=>V.int (i:Nat)))) r (.lst ((c.map λi=>V.int (i:Nat))++ [V.int (v:Nat)]))):=wB (wB x a0) G;have a4:v<rs.length:=by omega
  have hb:=cQ9 a4;have a3:=k6 _ _ (a2 v _ hb);refine⟨_,Ce,.inl ⟨rfl,_,Cc S⟩,_,Ce,_,Ce,a,_,_,.ref rs[v],Ce,Ce,Cc (k6 _ _ ha),yT (by rw[cXu,hb];rfl),o,rs[v],_,_,Ce,Ce,S,a3,zn (l:=(d.map λi=>V.int (i:Nat))++((kd v).map λi=>V.int (i:Nat))) (by rw[cXD,cXe,cXe];omega) |> λz=>by rw[cXD]at z;exact z,?_⟩;refine⟨n - (c.length+1),by omega,c++ [v],d++kd v,some (.int (v:Nat)),Ce,wB k6 a0,?_,?_,?_,by rw[cXD,cZp]⟩
  ·rw[yJ C,yB,cZy];rfl
  ·rw[yB,cZy]
  ·rw[List.reverse_append];exact W2
end
end Thr
namespace Desk
open PySem L2 PyProof.Rows
open Bk (Row Rows)
def aJq(x:Str):Stmt->Bool
 |.FunctionDef n _ _ _ _ _ _ _ _ _=>n==x
 |_=>false
def cQd(x:Str):Stmt->Bool
 |.ClassDef n _ _ _ _ _ _ _ _ _ _=>n==x
 |_=>false
def bVT:Stmt->List Stmt
 |.ClassDef _ _ _ b _ _ _ _ _ _ _=>b
 |_=> []
abbrev text:List Stmt:=PySem.Challenge.pw_letterdesk_k09_whole_files.main.body
def xM(x:Str):Stmt:=(text.find? (aJq x)).getD (.Pass ⟨0,0,0,0⟩)
def xQ(c m:Str):Stmt:=((bVT ((text.find? (cQd c)).getD (.Pass ⟨0,0,0,0⟩))).find? (aJq m)).getD (.Pass ⟨0,0,0,0⟩)
def xG:cXV C0=some (.builtin C0):=dk
def wZ:cXV AQ=some (.builtin AQ):=dk
def wM:cXV AC=some (.type AC):=dk
structure uK(mg:Str->Option cXb):Prop where
 b_len:mg C0=none
 b_sorted:mg AQ=none
 b_list:mg AC=none
structure Cl(K:cXc)(CB CL:Nat):Prop where
 b:Cls K CB
 l:Cls K CL
 letters:vM K CB Ao
 shut:vM K CB Ai
 number:vM K CL AD
 way:vM K CL Bb
 day:vM K CL Ab
 partner:vM K CL Ac
 term:vM K CL AU
 link:vM K CL Cb
 file:vM K CL BV
 copies:vM K CL BK
 void:vM K CL Ay
abbrev zY:Option Nat->V:=Thr.zY
def aQs(r:Row):Int:=if r.void then 0 else r.term
def W6(r:Row):V:=if r.void then .non else .str r.place
def aJy(i:Nat)(r:Row)(c:Nat):List (Str×V):=
 [(AD,.int (i:Nat)),(Bb,.str r.way),(Ab,.int r.date),(Ac,.str r.partner),(AU,.int (aQs r)),(Cb,zY r.link),(BV,W6 r),(BK,.ref c),(Ay,.bl r.void)]
def aW7(CL:Nat)(H:Hp)(b:Nat)(i:Nat)(r:Row)(c:Nat):Prop:=∃a,H b=some (.ins CL a (aJy i r c))
def stV(r:Row):List V:= [.str r.way,.int r.date,.str r.partner,.int (aQs r),zY r.link,W6 r]
inductive bXJ(CL:Nat)(vs:List V)(H:Hp)(Q:VK)(h:XK):Prop|mk(x dx:Nat)(i:Nat)(way:Str)(d:Int)(who:Str)(t:Int)(h:vs= [.ref x,.int (i:Nat),.str way,.int d,.str who,.int t])(h:H x=some (.ins CL dx []))(h:∀ (c:Nat)(H':Hp),H c=none->H' x=some (.ins CL dx (aJy i ⟨way,d,who,t,none,"",false,[]⟩ c))->H' c=some (.lst [])->(∀b,b≠x->b≠c->H' b=H b)->Q .non H')
inductive aV9(CL:Nat)(vs:List V)(H:Hp)(Q:VK)(h:XK):Prop|mk(b:Nat)(i:Nat)(r:Row)(c:Nat)(h:vs= [.ref b])(h:aW7 CL H b i r c)(h:∀t,H t=none->Q (.ref t) (upd H t (.tup (stV r))))
inductive bXD(CL:Nat)(vs:List V)(H:Hp)(Q:VK)(h:XK):Prop|mk(b b2:Nat)(i j:Nat)(r r2:Row)(c c2:Nat)(h:vs= [.ref b,.ref b2])(h:aW7 CL H b i r c)(h:aW7 CL H b2 j r2 c2)(h:Q (.bl (decide (r2.link=some i))) H)
inductive bVw(CL:Nat)(vs:List V)(H:Hp)(Q:VK)(h:XK):Prop|mk(b:Nat)(i:Nat)(r:Row)(c:Nat)(who:Str)(h:vs= [.ref b,.str who])(h:aW7 CL H b i r c)(h:H c=some (.lst (r.copies.map V.str)))(h:Q (.bl (decide (who=r.partner) || r.copies.contains who)) H)
inductive bVD(CL:Nat)(vs:List V)(H:Hp)(Q:VK)(h:XK):Prop|mk(b dx:Nat)(i:Nat)(r:Row)(c:Nat)(h:vs= [.ref b])(h:H b=some (.ins CL dx (aJy i r c)))(h:Q .non (upd H b (.ins CL dx (aJy i {r with link:=none,void:=true} c))))
inductive bXL(vs:List V)(H:Hp)(Q:VK)(h:XK):Prop|mk(way:Str)(h:vs= [.str way])(h:Q (.str (Bk.qJ way)) H)
section
variable {K:cXc}
abbrev bQ8:Stmt:=xQ CH AF
abbrev bXd:Stmt:=xQ CH Bc
abbrev bQ0:Stmt:=xQ CH Bj
abbrev bWR:Stmt:=xQ CH CI
abbrev bW1:Stmt:=xQ CH "make_void"
abbrev bQ9:Stmt:=xM C9
def bJD:yO [AA,AD,Bb,Ab,Ac,AU] [AA,AD,Bb,Ab,Ac,AU] (yH bQ8):=scM
def bZY(T:Cl K CB CL)(F:Fun K AF "Letter.__init__" bQ8 f fd):xL P w K mg base CX0 (n+1) f fd [AA,AD,Bb,Ab,Ac,AU] (bXJ CL):=by
 have v:=bJD;refine F.ok (k:=n) v (λy A outer s H B Q E z h=>?_);obtain⟨x,a,i,m,d,r,t,rfl,p,q⟩:=h;refine⟨_,(yC (wL (pv 0) (pv 1) rfl) (yC (wL (pv 0) (pv 2) rfl) (yC (wL (pv 0) (pv 3) rfl) (yC (wL (pv 0) (pv 4) rfl) (yC (wL (pv 0) (pv 5) rfl) (yC (wL (pv 0) zN rfl) (yC (wL (pv 0) yQ rfl) (yC (wL (pv 0) (xB yD) rfl) (yF (wL (pv 0) vQ rfl)))))))))),?_⟩;refine⟨_,Ce,_,Ce,x,CL,a,_,Ce,p,T.l,T.number,(show 0<1000 by decide),?_⟩;refine⟨_,Ce,_,Ce,x,CL,a,_,Ce,yB,T.l,T.way,(show 1<1000 by decide),?_⟩;refine⟨_,Ce,_,Ce,x,CL,a,_,Ce,yB,T.l,T.day,(show 2<1000 by decide),?_⟩;refine⟨_,Ce,_,Ce,x,CL,a,_,Ce,yB,T.l,T.partner,(show 3<1000 by decide),?_⟩;refine⟨_,Ce,_,Ce,x,CL,a,_,Ce,yB,T.l,T.term,(show 4<1000 by decide),?_⟩;refine⟨_,Ce,x,CL,a,_,Ce,yB,T.l,T.link,(show 5<1000 by decide),?_⟩;refine⟨_,Ce,x,CL,a,_,Ce,yB,T.l,T.file,(show 6<1000 by decide),?_⟩;refine⟨z0,λc j=>?_⟩;have e:x≠c:=yI yB j;refine⟨_,Ce,x,CL,a,_,Ce,(yJ e).trans yB,T.l,T.copies,(show 7<1000 by decide),?_⟩;refine⟨_,Ce,x,CL,a,_,Ce,yB,T.l,T.void,(show 8<1000 by decide),?_⟩;have g:H c=none:=by simp only[yJ (cXT e)]at j;exact j
 refine q c _ g yB (by rw[yJ (cXT e),yJ (cXT e),yB]) λb o u=>?_;simp only[yJ o,yJ u]
def bJI:yO [AA] [AA] (yH bXd):=scM
def bZ3(T:Cl K CB CL)(F:Fun K Bc "Letter.state" bXd f fd):xL P w K mg base CX0 (n+1) f fd [AA] (aV9 CL):=by
 have g:=bJI;refine F.ok (k:=n) g (λj A outer s H o Q E m h=>?_);obtain⟨b,i,r,c,rfl,⟨a,d⟩,q⟩:=h;refine⟨_,(yF (yP (xK (yA (xC (pv 0) rfl) (yA (xC (pv 0) rfl) (yA (xC (pv 0) rfl) (yA (xC (pv 0) rfl) (yA (xC (pv 0) rfl) (yA (xC (pv 0) rfl) yD))))))))),?_⟩;refine⟨_,Ce,b,CL,a,_,_,Ce,d,T.l,T.way,Ce,?_⟩;refine⟨_,Ce,b,CL,a,_,_,Ce,d,T.l,T.day,Ce,?_⟩;refine⟨_,Ce,b,CL,a,_,_,Ce,d,T.l,T.partner,Ce,?_⟩;refine⟨_,Ce,b,CL,a,_,_,Ce,d,T.l,T.term,Ce,?_⟩;refine⟨_,Ce,b,CL,a,_,_,Ce,d,T.l,T.link,Ce,?_⟩;refine⟨_,Ce,b,CL,a,_,_,Ce,d,T.l,T.file,Ce,?_⟩;exact⟨by show 6<=cXy;decide,λt e=>q t e⟩
def aVk:decide (zY o=V.int (m:Nat))=decide (o=some m):=by
 cases o with
 |none=>rfl
 |some j=>show decide (V.int (j:Nat)=V.int (m:Nat))=decide (some j=some m);rw[Bool.eq_iff_iff];simp;omega
def bJu:yO [AA,Bd] [AA,Bd] (yH bQ0):=scM
def bZP(T:Cl K CB CL)(F:Fun K Bj "Letter.is_answered_by" bQ0 f fd):xL P w K mg base CX0 (n+1) f fd [AA,Bd] (bXD CL):=by
 have o:=bJu;refine F.ok (k:=n) o (λt A outer s H x Q E v h=>?_);obtain⟨b,p,i,j,r,g,c,u,rfl,⟨e,m⟩,⟨a,d⟩,q⟩:=h;refine⟨_,(yF (yP (wN zU (xC (pv 1) rfl) (xC (pv 0) rfl)))),?_⟩;refine⟨_,Ce,p,CL,a,_,_,Ce,d,T.l,T.link,Ce,?_⟩;refine⟨_,Ce,b,CL,e,_,_,Ce,m,T.l,T.number,Ce,?_⟩;rw[<- aVk]at q;refine⟨?_,q⟩;cases g.link<;> rfl
theorem vV(x:Str):∀ns:List Str,inV (.str x) (ns.map V.str)=ns.contains x
 |[]=>rfl
 |n::r=>by have a:=vV x r;unfold inV at a ⊢;rw[cXO,cJr,a,cJA];congr 1;show(n==x)=(x==n);rw[Bool.eq_iff_iff,beq_iff_eq,beq_iff_eq];exact eq_comm
def aJl:∀ns:List Str,(ns.map V.str).all aQM=true
 |[]=>rfl
 |n::r=>by rw[cXO,cVy,aJl r];rfl
def bW5:yO [AA,Be] [AA,Be] (yH bWR):=scM
def bWr(T:Cl K CB CL)(F:Fun K CI "Letter.has_gone_to" bWR f fd):xL P w K mg base CX0 (n+1) f fd [AA,Be] (bVw CL):=by
 have o:=bW5;refine F.ok (k:=n) o (λp A outer s H u Q E t h=>?_);obtain⟨b,i,r,c,a,rfl,⟨d,g⟩,m,q⟩:=h;refine⟨_,(yF (yP (bYf (wN zU (pv 1) (xC (pv 0) rfl)) (aJH (wN uF (pv 1) (xC (pv 0) rfl)))))),?_⟩;refine⟨_,Ce,_,Ce,b,CL,d,_,_,Ce,g,T.l,T.partner,Ce,Ce,?_⟩;have j:decide (V.str a=V.str r.partner)=decide (a=r.partner):=by rw[Bool.eq_iff_iff];simp
 refine⟨_,Ce,?_⟩;rw[j];cases e:decide (a=r.partner)with
 |true=>rw[e,Bool.true_or]at q;exact onT rfl q
 |false=>rw[e,Bool.false_or]at q;refine onF rfl ⟨_,Ce,_,Ce,b,CL,d,_,_,Ce,g,T.l,T.copies,Ce,c,_,Ce,.inl (Cc m),Ce,aJl _,?_⟩;rw[if_neg (by decide),vV];exact q
def bKg:yO [AA] [AA] (yH bW1):=scM
def bWD(T:Cl K CB CL)(F:Fun K "make_void" "Letter.make_void" bW1 f fd):xL P w K mg base CX0 (n+1) f fd [AA] (bVD CL):=by
 have e:=bKg;refine F.ok (k:=n) e (λg A outer s H m Q E j h=>?_);obtain⟨b,a,i,r,c,rfl,d,q⟩:=h;refine⟨_,(yC (wL (pv 0) vQ rfl) (yC (wL (pv 0) zN rfl) (yC (wL (pv 0) zN rfl) (yF (wL (pv 0) yG rfl))))),?_⟩;refine⟨_,Ce,b,CL,a,_,Ce,d,T.l,T.void,(show 9<1000 by decide),?_⟩;refine⟨_,Ce,b,CL,a,_,Ce,yB,T.l,T.link,(show 9<1000 by decide),?_⟩;refine⟨_,Ce,b,CL,a,_,Ce,yB,T.l,T.file,(show 9<1000 by decide),?_⟩;refine⟨_,Ce,b,CL,a,_,Ce,yB,T.l,T.term,(show 9<1000 by decide),?_⟩;rw[qP,qP,qP];exact q
def bJE:yO [Bb] [Bb] (yH bQ9):=scM
def bZZ(F:Fun K C9 C9 bQ9 f fd):xL P w K mg base CX0 (n+1) f fd [Bb] bXL:=by
 have c:=bJE;refine F.ok (k:=n) c (λd A outer s H e Q E g h=>?_);obtain⟨a,rfl,q⟩:=h;refine⟨_,(yF (yP (aWA (yM zU (pv 0) yQ) yQ yQ))),?_⟩;unfold Bk.qJ at q;have b:decide (V.str a=V.str "in")=decide (a="in"):=by rw[Bool.eq_iff_iff];simp
 refine⟨_,Ce,Ce,_,Ce,?_⟩;rw[b];by_cases hw:a="in"
 ·rw[if_pos hw]at q;exact onT (decide_eq_true hw) q
 ·rw[if_neg hw]at q;exact onF (decide_eq_false hw) q
end
end Desk
namespace L2
open PySem PySem.Spec PyProof.Rows
section
variable {κ:Type} [DecidableEq κ]
def aQY(kvs:List (κ×V))(k:κ):Option V:=(kvs.find? λa=>decide (a.1=k)).map (·.2)
def aVI(kvs:List (κ×V))(k:κ)(v:V):List (κ×V):=
 if(kvs.any λa=>decide (a.1=k))=true then kvs.map (λa=>if a.1=k then(a.1,v)else a)else kvs++ [(k,v)]
def vF{p:κ×V}{r:List (κ×V)}{k:κ}(e:p.1=k):aQY (p::r) k=some p.2:=by simp[aQY,cJD,e]
def vE{p:κ×V}{r:List (κ×V)}{k:κ}(e:¬p.1=k):aQY (p::r) k=aQY r k:=by simp[aQY,cJD,e]
theorem aQZ(k:κ):∀kvs:List (κ×V),(kvs.any λa=>decide (a.1=k))=(aQY kvs k).isSome
 |[]=>rfl
 |p::r=>by
  rw[cJr];by_cases e:p.1=k
  ·simp only[vF e,decide_eq_true e,Bool.true_or,Option.isSome_some]
  ·rw[vE e,decide_eq_false e,Bool.false_or];exact aQZ k r
theorem aW4(k j:κ)(y:V):∀kvs:List (κ×V),aQY (kvs.map λa=>if a.1=k then(a.1,y)else a) j=(aQY kvs j).map λx=>if j=k then y else x
 |[]=>rfl
 |p::r=>by
  have b:=aW4 k j y r;rw[cXO];by_cases h:p.1=k
  ·rw[if_pos h];by_cases e:p.1=j
   ·rw[vF (p:=(p.1,y)) e,vF e,Option.map_some,if_pos (e.symm.trans h)]
   ·rw[vE (p:=(p.1,y)) e,vE e,b]
  ·rw[if_neg h];by_cases e:p.1=j
   ·rw[vF (p:=p) e,vF e,Option.map_some,if_neg (λz=>h (e.trans z))]
   ·rw[vE (p:=p) e,vE e,b]
theorem aJ5(k j:κ)(y:V):∀kvs:List (κ×V),aQY kvs k=none->aQY (kvs++ [(k,y)]) j=if j=k then some y else aQY kvs j
 |[],_=>by
  by_cases e:k=j
  ·rw[if_pos e.symm];exact vF (p:=(k,y)) e
  ·rw[if_neg (λz=>e z.symm)];exact vE (p:=(k,y)) e
 |p::r,hn=>by
  rw[cV2];have a:¬p.1=k:=λz=>by rw[vF z]at hn;cases hn
  rw[vE a]at hn;have b:=aJ5 k j y r hn;by_cases e:p.1=j
  ·rw[vF e,vF e,if_neg (λz=>a (e.trans z))]
  ·rw[vE e,vE e,b]
def bJ6(kvs:List (κ×V))(k j:κ)(y:V):aQY (aVI kvs k y) j=if j=k then some y else aQY kvs j:=by
 unfold aVI;by_cases a:(kvs.any λc=>decide (c.1=k))=true
 ·rw[if_pos a,aW4];rw[aQZ]at a;by_cases e:j=k
  ·obtain⟨x,b⟩:=Option.isSome_iff_exists.mp a;rw[if_pos e,e,b,Option.map_some,if_pos rfl]
  ·rw[if_neg e];cases aQY kvs j with
   |none=>rfl
   |some x=>rw[Option.map_some,if_neg e]
 ·rw[if_neg a];refine aJ5 k j y kvs ?_;rw[aQZ]at a;cases q:aQY kvs k with
  |none=>rfl
  |some x=>rw[q]at a;exact(a rfl).elim
def X7(kvs:List (κ×V))(k:κ)(v:V):(aVI kvs k v).length<=kvs.length+1:=by
 unfold aVI;split
 ·rw[cXe];omega
 ·rw[cXD,cZb,cJl];omega
def aZ7.isSome_eq(r:aZ7 o u):o.isSome=u.isSome:=by
 cases o with
 |none=>cases u with
  |none=>rfl
  |some _=>exact(show False from r).elim
 |some _=>cases u with
  |none=>exact(show False from r).elim
  |some _=>rfl
def KV.val{kvs:List (κ×V)}{vs:List (κ×cXb)}(r:KV kvs vs)(k:κ):aZ7 (aQY kvs k) (cVG vs k):=by
 unfold KV at r;induction r with
 |nil=>exact cZu
 |@cons p q i c h t f=>
  obtain⟨d,g⟩:=h;by_cases e:p.1=k
  ·have a:q.1=k:=d.symm.trans e;have b:cVG (q::c) k=some q.2:=by simp[cVG,cJD,a]
   rw[vF e,b];exact g
  ·have a:¬q.1=k:=λz=>e (d.trans z);have b:cVG (q::c) k=cVG c k:=by simp[cVG,cJD,a]
   rw[vE e,b];exact f
def KV.any{kvs:List (κ×V)}{vs:List (κ×cXb)}(r:KV kvs vs)(k:κ):(kvs.any λa=>decide (a.1=k))=vs.any λa=>decide (a.1=k):=by
 unfold KV at r;induction r with
 |nil=>rfl
 |cons h t b=>rw[cJr,cJr,b,h.1]
def KV.repl{kvs:List (κ×V)}{vs:List (κ×cXb)}(r:KV kvs vs)(k:κ)(d:wG y u): KV (kvs.map λa=>if a.1=k then(a.1,y)else a) (vs.map λa=>if a.1=k then(a.1,u)else a):=by
 unfold KV at r ⊢;induction r with
 |nil=>exact .nil
 |@cons p q g i h t c=>
  rw[cXO,cXO];refine .cons ?_ c;obtain⟨b,f⟩:=h;by_cases e:p.1=k
  ·rw[if_pos e,if_pos (b.symm.trans e)];exact⟨b,d⟩
  ·rw[if_neg e,if_neg (λz=>e (b.trans z))];exact⟨b,f⟩
def KV.put{kvs:List (κ×V)}{vs:List (κ×cXb)}(r:KV kvs vs)(k:κ)(a:wG y u):KV (aVI kvs k y) (stored vs k u):=by
 unfold aVI stored;rw[r.any k];by_cases e:(vs.any λb=>decide (b.1=k))=true
 ·rw[if_pos e,if_pos e];exact r.repl k a
 ·rw[if_neg e,if_neg e];exact cVY r ⟨rfl,a⟩
def KV.length{kvs:List (κ×V)}{vs:List (κ×cXb)}(r:KV kvs vs):kvs.length=vs.length:=cJh r
end
def bZu{k:Key}(r:wG (kV k) u):(zS P w).is k u=true:=by
 cases k with
 |inl i=>obtain⟨t,e⟩:=(show ∃t,u=Value.int i t from r);subst e;exact aVr P w i t
 |inr x=>obtain⟨t,e⟩:=(show ∃t,u=Value.str x t from r);subst e;exact X8 P w x t
theorem aJs{P:cXB}{w:cXN}:∀ {a:List Key} {us:List cXb},zD (a.map kV) us->ItemsAre (zS P w) a us
 |[],_,r=>by rw[List.map_nil]at r;cases r;exact .nil
 |k::a,_,r=>by
  rw[cXO]at r;cases r with
  |cons h t=>exact .cons (bZu h) (aJs t)
abbrev KT(H:Hp):List (List Key×V)->List (List Key×Addr×cXb)->Prop:=cXZ λp q=>p.1=q.1/\H q.2.1=some (.tup (p.1.map kV))/\wG p.2 q.2.2
def KT.val(r:KT H kvs xs)(k:List Key):aZ7 (aQY kvs k) ((atKey xs k).map (·.2)):=by
 induction r with
 |nil=>exact cZu
 |@cons p q i a h t f=>
  obtain⟨d,_,g⟩:=h;by_cases e:p.1=k
  ·have c:q.1=k:=d.symm.trans e;have b:atKey (q::a) k=some q.2:=by simp[atKey,cJD,c]
   rw[vF e,b];exact g
  ·have c:¬q.1=k:=λz=>e (d.trans z);have b:atKey (q::a) k=atKey a k:=by simp[atKey,cJD,c]
   rw[vE e,b];exact f
def KT.repl(r:KT H kvs xs)(k:List Key)(g:wG y u): KT H (kvs.map λb=>if b.1=k then(b.1,y)else b) (xs.map (putAt k u)):=by
 induction r with
 |nil=>exact .nil
 |@cons p q i j h t f=>
  rw[cXO,cXO];refine .cons ?_ f;obtain⟨a,c,d⟩:=h;unfold putAt;by_cases e:p.1=k
  ·rw[if_pos e,if_pos (a.symm.trans e)];exact⟨a,c,g⟩
  ·rw[if_neg e,if_neg (λz=>e (a.trans z))];exact⟨a,c,d⟩
def KT.put(r:KT H kvs xs)(k:List Key)(d:H b=some (.tup (k.map kV)))(a:wG y u): KT H (aVI kvs k y) (storedH xs k b u):=by
 have e:(kvs.any λc=>decide (c.1=k))=(atKey xs k).isSome:=by rw[aQZ,(r.val k).isSome_eq,Option.isSome_map]
 unfold aVI storedH;rw[e];by_cases q:(atKey xs k).isSome=true
 ·rw[if_pos q,if_pos q];exact r.repl k a
 ·rw[if_neg q,if_neg q];exact cVY r ⟨rfl,d,a⟩
def KT.keeps(r:KT H kvs xs)(d:∀b c,H b=some (.tup c)->a b=some (.tup c)):KT a kvs xs:=
 Paired.mapP r λ_ _ z=>⟨z.1,d _ _ z.2.1,z.2.2⟩
section
variable {P:cXB}{w:cXN}{H:Hp}{h:Heap}{a:Addr}
def bYo(ok:HOk P w H h)(e:Rd H a u):zT P w H h a u:=e.ok ok
def bKP(ok:HOk P w H h)(e:Rd H a (.dK kvs)):kvs.length<=cXy/\(a==cVb)=false/\∃b,KV kvs b/\h.DictOf (zS P w) a b:=
 show zT P w H h a (.dK kvs)from bYo ok e
def bY9(ok:HOk P w H h)(e:H a=some (.dK kvs)):kvs.length<=cXy/\(a==cVb)=false/\∃b,KV kvs b/\h.DictOf (zS P w) a b:=bKP ok (.inl e)
def aY7{c:List Key}(ok:HOk P w H h)(e:H a=some (.tup (c.map kV))):(tupleKind (zS P w)).is h c a:=by
 obtain⟨_,b,r,o,g,d,n,f⟩:=(show zT P w H h a (.tup (c.map kV))from ok a _ e);exact⟨o,b.toArray,n,g,d,f,by simpa using aJs r⟩
def bKQ(ok:HOk P w H h)(e:Rd H a (.dT kvs)):kvs.length<=cXy/\(a==cVb)=false/\ ∃c,KT H kvs c/\h.DictOfH (tupleKind (zS P w)) a c:=by
 obtain⟨z,y,c,r,o,u,n,g,s,f,j,k⟩:=(show zT P w H h a (.dT kvs)from bYo ok e);refine⟨z,y,c,r,o,u,n,g,s,f,j,λx b=>?_,k⟩;have all:∀ {l:List (List Key×V)} {m:List (List Key×Addr×cXb)},KT H l m->∀x∈m,(tupleKind (zS P w)).is h x.1 x.2.1:=by
  intro l m q;induction q with
  |nil=>intro x b;exact nomatch b
  |@cons p q v A d t i=>
   intro x b;rcases cXj.mp b with e|b
   ·subst e;exact aY7 ok (by rw[<- d.1];exact d.2.1)
   ·exact i x b
 exact all r x b
def uL(ok:HOk P w H h)(e:H a=some (.dT kvs)):kvs.length<=cXy/\(a==cVb)=false/\
  ∃b,KT H kvs b/\h.DictOfH (tupleKind (zS P w)) a b:=bKQ ok (.inl e)
end
def bKA(H:Hp)(a:Addr)(y:V)(r:Option V):Prop:=
 (∃kvs k,Rd H a (.dK kvs)/\y=kV k/\r=aQY kvs k)\/∃kvs k b,Rd H a (.dT kvs)/\y= .ref b/\H b=some (.tup (k.map kV))/\r=aQY kvs k
def bKB(H:Hp)(a:Addr)(y v:V)(c:Hp):Prop:=
 (∃kvs k,H a=some (.dK kvs)/\y=kV k/\kvs.length<cXy/\c=upd H a (.dK (aVI kvs k v)))\/
 ∃kvs k b,H a=some (.dT kvs)/\y= .ref b/\H b=some (.tup (k.map kV))/\kvs.length<cXy/\c=upd H a (.dT (aVI kvs k v))
def bKA.k{H:Hp}{a:Addr}{kvs:List (Key×V)}{k:Key}(e:H a=some (.dK kvs)):bKA H a (kV k) (aQY kvs k):= .inl ⟨kvs,k,.inl e,Ce,rfl⟩
def bKB.k{H:Hp}{a:Addr}{kvs:List (Key×V)}{k:Key}{v:V}(e:H a=some (.dK kvs))(hl:kvs.length<cXy):bKB H a (kV k) v (upd H a (.dK (aVI kvs k v))):= .inl ⟨kvs,k,e,Ce,hl,rfl⟩
section
variable {X:Cx}{pins:List (Addr×Obj)}{σ:St}{H:Hp}{s:cXd}{a:Addr}{y v:V}{u r:cXb}{o:Option V}{A:cX8}{E:cXb->cXd->Prop}
def Inv.big(I:Inv X pins σ H s):cVb<s.heap.objs.size:=by
 have h:cXK<s.heap.objs.size:=(I.mod.glob.keeps I.bk).lt;exact Nat.lt_trans (by decide) h
def bVW{Q:cXb->cXd->Prop}(n:A.units+1<cLine)(I:Inv X pins σ H s)(g:bKA H a y o)(j:wG y u)(h:∀m,Inv X pins σ H m->Q (.bool (!o.isSome)) m): cXi (cXk X.prog X.w) A (cZN .NotIn u (.ref a)) Q E s:=by
 rcases g with⟨kvs,k,e,i,l⟩|⟨kvs,k,b,e,i,p,l⟩
 ·subst i;obtain⟨z,f,r,c,d⟩:=bKP I.hok e;refine wpAny_notIn_of (bZu j) f d.mapOf ?_;rw[<- (c.val k).isSome_eq,<- l];exact h _ (I.tok _)
 ·subst i;cases (show u=Value.ref b from j);obtain⟨z,f,t,c,d⟩:=bKQ I.hok e;refine wpAny_notIn_heap (tupleKind_room_in1 n) (aY7 I.hok p) f d ?_;have q:=(c.val k).isSome_eq;rw[Option.isSome_map]at q;rw[<- q,<- l];exact h _ (I.tok _)
def aYL(I:Inv X pins σ H s)(h:Mut (H a))(f:cJf a s.heap h')(g:∃q,h'.get? a=some q)(d:zT X.prog X.w (upd H a c) h' a c): Inv X pins σ (upd H a c) {s with heap:=h',toks:=t'}:=
 I.write (x:=a) (e:=a) h (.inl rfl) (λb q i z=>(f.2 b i).trans z) g d
def bKO(z:kvs.length<=cXy)(c:(a==cVb)=false)(b:KV kvs vs)(e:h'.DictOf (zS P w) a vs):
  zT P w d h' a (.dK kvs):=⟨z,c,vs,b,e⟩
def aYK{Q:Unit->cXd->Prop}(P:A.units+1<cLine)(I:Inv X pins σ H s)(g:bKB H a y v x)(C:wG y u)(J:wG v r)(h:∀F,Inv X pins σ x F->Q () F): cXi (cXk X.prog X.w) A (setItem (.ref a) u r) Q E s:=by
 rcases g with⟨kvs,k,e,o,l,t⟩|⟨kvs,k,b,e,o,G,l,t⟩
 ·subst o t;obtain⟨z,n,R,d,m⟩:=bY9 I.hok e;have j:R.length<=cXy:=by rw[<- d.length];exact z
  have hl:(aVI kvs k v).length<=cXy:=by have:=X7 kvs k v;omega
  refine wpAny_setItem_pairs (hsz:=j) (bZu C) m λD f p=>h _ ?_;have N:∃q,D.get? a=some q:=let ⟨q,_,_,i,_⟩:=f;⟨q,i⟩;exact aYL I (by rw[e];exact cZu) p N (bKO hl n (d.put k J) f)
 ·subst o t;cases (show u=Value.ref b from C);obtain⟨z,n,U,d,m⟩:=uL I.hok e;have j:U.length<=cXy:=by rw[<- cJh d];exact z
  have hl:(aVI kvs k v).length<=cXy:=by have:=X7 kvs k v;omega
  refine wpAny_setItem_heap (hsz:=j) (tupleKind_room_in1 P) (aY7 I.hok G) m λD f p=>h _ ?_;obtain⟨q,T,O,i,S,K,L,_,M⟩:=f;refine aYL I (by rw[e];exact cZu) p ⟨q,i⟩ ⟨hl,n,_,(d.put k G J).keeps λc V B=>?_,q,T,O,i,S,K,L,M⟩;rw[yJ (aXW B e (λz=>nomatch z))];exact B
end
section
variable {X:Cx}{pins:List (Addr×Obj)}{σ:St}{H:Hp}{s:cXd}{a:Addr}{kvs:List (Key×V)}{k:Key}{u:cXb}{A:cX8}{E:cXb->cXd->Prop}
end
def cQB(i:Expr):Prop:=∀a b,subscripted i false a b=operate [a,b] (getItem a b)
def bKn{prog:cXB}{w:cXN}{A:cX8}{E:cXb->cXd->Prop}{s:cXd}{env:Env}{value a:Expr}{pos:Pos}{T id:String}{Q:cXb->cXd->Prop} (hl:typeLookup (.type T) CF=pure (some (.builtin id))) (k:cQB a) (h:cXi (cXk prog w) A (eval value env) (λo e=>cXi (cXk prog w) A (eval a env) (λi b=>b.TypeIs o T/\cXi (cXk prog w) A (getItem o i) Q E b) E e) E s): cXi (cXk prog w) A (eval (.Subscript value a pos) env) Q E s:=by
 refine Subscript_ (cZh h (λo e f=>cZh f (λi b c=>?_) λ_ _ x=>x) λ_ _ x=>x);obtain⟨j,c⟩:=c;unfold subscriptTail;refine cXa ?_;rw[getitemInPython_of_ne j.not_modules];refine cXa (wpAny_specialOf j hl ?_);have fin:cXi (cXk prog w) A (subscripted a false o i) (λr d=>cXi (cXk prog w) A (letTemporaryGo value o r >>=λ_=>pure r) Q E d) E b:=by rw[k o i];exact wpAny_operating (cZh c (λr d g=>cXa (wpAny_letTemporaryGo (cXf g))) λ_ _ x=>x)
 first
  |exact cXf (cXa fin)
  |exact cXa (cXf (cXa fin))
  |exact cXa fin
inductive bJT(Q:VK)(y:V)(x:V)(H2:Hp):Prop|mk(a o)(h:x= .ref a)(h:bKA H2 a y o)(h:Q (.bl (!o.isSome)) H2)
def bKp(ty td:TE):TE:=λσ H Q=>ty σ H λy b=>td σ b λx a=>bJT Q y x a
inductive bYp(D:bX3)(σ:St)(v:V)(x:V)(y:V)(H3:Hp):Prop|mk(a H4)(h:x= .ref a)(h:bKB H3 a y v H4)(h:D.nx σ H4)
def cQk(td ty tv:TE):TS:=λD σ H=>tv σ H λv c=>td σ c λx a=>ty σ a λy b=>bYp D σ v x y b
section
variable {X:Cx}{o i e value:Expr}{pos pos' tpos:Pos}{td ty tv:TE}
def bQM(e:X.A.units+1<cLine)(c:PE X i ty)(d:PE X o td):PC X .NotIn i o (bKp ty td):=by
 intro pins s σ H Q I h;refine thn (c pins s σ H _ I h) λiv s1 ⟨y,H1,I1,ry,q1⟩=>thn (d pins s1 σ H1 _ I1 q1) λu s2 ⟨x,H2,I2,rx,a,ov,ex,g,q2⟩=>?_;subst ex;obtain rfl:u=Value.ref a:=rx;exact bVW e I2 g ry λf b=>⟨.bl (!ov.isSome),H2,b,Ce,q2⟩
def bWK(j:X.A.units+1<cLine)(f:PE X o td)(c:PE X i ty)(b:PE X value tv)(d:swapsWith value (some (.Subscript o i pos')) pos.line X.env=pure false): PS X (.Assign [.Subscript o i pos'] value pos) (cQk td ty tv):=by
 intro pins s σ H D I h;refine wpAny_Assign_Subscript (thn (b pins s σ H _ I h) λr s1 ⟨v,H1,I1,rv,q1⟩=>thn (f pins s1 σ H1 _ I1 q1) λu s2 ⟨x,H2,I2,rx,q2⟩=>thn (c pins s2 σ H2 _ I2 q2) λiv s3 ⟨y,H3,I3,ry,a,H4,ex,g,q3⟩=>?_) d;subst ex;obtain rfl:u=Value.ref a:=rx;exact aYK j I3 g ry rv λk e=>⟨σ,H4,e,q3⟩
end
def bZi(h:Heap)(a:cVb<h.objs.size):zT P w H (h.push {cls:= .type "dict",data:= .dict #[] }) h.objs.size (.dK []):=
 ⟨cZc _,beq_eq_false_iff_ne.mpr (cXT (cXx a)),[],.nil,Heap.DictOf.new h⟩
def bYG:TE:=λ_ H Q=>∀p,H p=none->Q (.ref p) (upd H p (.dK []))
section
variable {X:Cx}{pos:Pos}
def bJf:PE X (.Dict [] [] pos) bYG:=λpins s σ H Q I h=>
 wpAny_Dict_empty ⟨.ref s.heap.objs.size,_,I.laid (a:=s.heap.objs.size) (o:= .dK []) (t':=s.toks) (λ_ _ q=>cXg _ q) (cXh _) (bZi s.heap I.big),Ce,h _ (I.hok.fresh (cXh _))⟩
end
structure M1(X:Cx)(o:Expr)(m:Str)(apos:Pos)(e:Expr)(cpos:Pos):Prop where
 base:cJ4 o m X.env (eval o X.env)=eval o X.env
 few:((cZW cpos (cXR [e] X.env)).all (λx=> !x.1) && (cVw cpos (cJy [] X.env)).all (λx=>x.1.isSome)
  && decide (([e]:List Expr).length+([]:List Keyword).length+(if([]:List Keyword).isEmpty then 0 else 1)<30))=true
 line:(apos.endLine==cpos.line)=true
 trees:cZW cpos (cXR [e] X.env)= [(false,eval e X.env)]
structure M2(X:Cx)(o:Expr)(m:Str)(apos:Pos)(e f:Expr)(cpos:Pos):Prop where
 base:cJ4 o m X.env (eval o X.env)=eval o X.env
 few:((cZW cpos (cXR [e,f] X.env)).all (λx=> !x.1) && (cVw cpos (cJy [] X.env)).all (λx=>x.1.isSome)
  && decide (([e,f]:List Expr).length+([]:List Keyword).length+(if([]:List Keyword).isEmpty then 0 else 1)<30))=true
 line:(apos.endLine==cpos.line)=true
 trees:cZW cpos (cXR [e,f] X.env)= [(false,eval e X.env),(false,eval f X.env)]
section
variable {X:Cx}{pins:List (Addr×Obj)}{σ:St}{H:Hp}{s:cXd}{a:Addr}{y d:V}{u r:cXb}{o:Option V}{A:cX8}{E:cXb->cXd->Prop}
end
section
variable {X:Cx}{o e f:Expr}{apos cpos:Pos}{td ty tx:TE}
end
section
variable {X:Cx}{pins:List (Addr×Obj)}{σ:St}{H:Hp}{s:cXd}{a:Addr}{kvs:List (Key×V)}{A:cX8}{E:cXb->cXd->Prop}
end
section
variable {X:Cx}{pins:List (Addr×Obj)}{σ:St}{H:Hp}{s:cXd}{a:Addr}{y:V}{u:cXb}{A:cX8}{E:cXb->cXd->Prop}
end
end L2
namespace L2
open PySem PySem.Spec PyProof.Rows
section
variable {κ:Type} [DecidableEq κ]
end
end L2
namespace Days
open PySem L2 PyProof.Rows
def aJq(x:Str):Stmt->Bool
 |.FunctionDef n _ _ _ _ _ _ _ _ _=>n==x
 |_=>false
def xM(x:Str):Stmt:=(PySem.Challenge.pw_letterdesk_k09_whole_files.main.body.find? (aJq x)).getD (.Pass ⟨0,0,0,0⟩)
abbrev aVP:Stmt:=xM "counts"
abbrev bWX:Stmt:=xM Av
abbrev aZL:Stmt:=xM Bf
abbrev bXb:Stmt:=xM CQ
def aYB:cXV "min"=some (.builtin "min"):=dk
def wZ:cXV AQ=some (.builtin AQ):=dk
def bKN:cXV B6=some (.type B6):=dk
structure uK(mg:Str->Option cXb):Prop where
 b_len:mg C0=none
 b_min:mg "min"=none
 b_sum:mg "sum"=none
 b_sorted:mg AQ=none
 b_isinstance:mg Aa=none
 b_int:mg As=none
 b_str:mg At=none
 b_bool:mg Al=none
 b_list:mg AC=none
 b_tuple:mg AE=none
 b_set:mg B6=none
 b_range:mg Ag=none
 b_reversed:mg "reversed"=none
 week:∃t,mg "WEEK"=some (.int 7 t)
 opens:∃t,mg "OPEN_DAYS"=some (.int 5 t)
inductive bXK(vs:List V)(H:Hp)(Q:VK)(h:XK):Prop|mk(d)(h:vs= [.int d])(h:Q (.bl (Dm.opn d)) H)
inductive bXM(vs:List V)(H:Hp)(Q:VK)(h:XK):Prop|mk(d)(h:vs= [.int d])(h:Q (.int (Dm.place d)) H)
inductive aWP(K:cXc)(vs:List V)(H:Hp)(Q:VK)(h:XK):Prop|mk(a:Nat)(ns:List Int)(h:vs= [.ref a])(h:SqL K H a (ns.map V.int))(h:ns.length<64)(h:∀ (r:Nat)(H':Hp)(C:List Int),xJ H H'->H r=none->C.Pairwise (·<·)->(∀d,d∈C↔d∈ns/\Dm.opn d=true)->C.length<=ns.length->H' r=some (.lst (C.map V.int))->Q (.ref r) H')
inductive aWR(K:cXc)(vs:List V)(H:Hp)(Q:VK)(h:XK):Prop|mk(a:Nat)(ns:List Int)(d:Int)(h:vs= [.ref a,.int d])(h:SqL K H a (ns.map V.int))(h:Q (.bl (Dm.cts ns d)) H)
abbrev cQl:Stmt:=xM CY
abbrev bQ4:Stmt:=xM "day_at"
inductive bXG(vs:List V)(H:Hp)(Q:VK)(h:XK):Prop|mk(d)(h:vs= [.int d])(h:Q (.int (Dm.wH d)) H)
inductive bYC(K:cXc)(vs:List V)(H:Hp)(Q:VK)(h:XK):Prop|mk(a:Nat)(ns:List Int)(d t:Int)(h:vs= [.ref a,.int d,.int t])(h:SqL K H a (ns.map V.int))(h:ns.length<64)(h:1<=t)(h:∀ (H':Hp)(D:Int),xJ H H'->Dm.Due ns d t D->Q (.int D) H')
section
variable {K:cXc}
def bKb:yO [Ap] [Ap] (yH bWX):=scM
def bWy(T:uK mg)(F:Fun K Av Av bWX f fd):xL P w K mg base CX0 1 f fd [Ap] bXK:=by
 obtain⟨i,b⟩:=T.week;obtain⟨j,a⟩:=T.opens;have c:=bKb;refine F.ok (k:=0) c (λe A outer s H l Q E g h=>?_);obtain⟨d,rfl,q⟩:=h;refine⟨_,(yF (yP (wN uN (yV xD (pv 0) (jO (v:= .int 7) rfl b ⟨_,rfl⟩)) (jO (v:= .int 5) rfl a ⟨_,rfl⟩)))),?_⟩;exact⟨_,Ce,_,_,Ce,Ce,(show(0:Int)<7 by decide),_,_,Ce,Ce,q⟩
def bJG:yO [Ap] [Ap] (yH bXb):=scM
def bZ1(T:uK mg)(F:Fun K CQ CQ bXb f fd):xL P w K mg base CX0 1 f fd [Ap] bXM:=by
 obtain⟨j,b⟩:=T.week;obtain⟨l,a⟩:=T.opens;have c:=bJG;refine F.ok (k:=0) c (λg A outer s H m Q E i h=>?_);obtain⟨d,rfl,q⟩:=h;refine⟨_,(yF (yP (yV zW (yV aWv (yV aQh (pv 0) (jO (v:= .int 7) rfl b ⟨_,rfl⟩)) (jO (v:= .int 5) rfl a ⟨_,rfl⟩)) (yR (aYE rfl) rfl T.b_min aYB (yA (yV xD (pv 0) (jO (v:= .int 7) rfl b ⟨_,rfl⟩)) (yA (yV uG (jO (v:= .int 5) rfl a ⟨_,rfl⟩) yG) yD)))))),?_⟩;refine⟨_,Ce,_,_,Ce,Ce,⟨by decide,by decide⟩,_,_,Ce,Ce,.inr ⟨by decide,by decide⟩,_,Ce,_,_,Ce,Ce,(show(0:Int)<7 by decide),_,_,Ce,Ce,_,_,Ce,_,_,Ce,Ce,?_⟩;have e:(if 5 - 1<d % 7 then 5 - 1 else d % 7:Int)=if 4<d % 7 then 4 else d % 7:=rfl;exact q
def bXp:yO [Ai,Ap] [Ai,Ap] (yH aVP):=scM
def qU(d:Int):∀ns:List Int,inV (.int d) (ns.map V.int)=ns.contains d
 |[]=>rfl
 |n::r=>by have a:=qU d r;unfold inV at a ⊢;rw[cXO,cJr,a,cJA];congr 1;show(n==d)=(d==n);rw[Bool.eq_iff_iff,beq_iff_eq,beq_iff_eq];exact eq_comm
def qH:∀ns:List Int,(ns.map V.int).all aQM=true
 |[]=>rfl
 |n::r=>by rw[cXO,cVy,qH r];rfl
def bQz(T:uK mg)(b:FnG P w K mg base 1 Av [Ap] bXK)(F:Fun K "counts" "counts" aVP f fd):xL P w K mg base CX0 2 f fd [Ai,Ap] (aWR K):=by
 have j:=bXp;refine F.ok (k:=1) j (λl A outer s H m Q E g h=>?_);obtain⟨a,e,d,rfl,i,q⟩:=h;refine⟨_,(yF (yP (aWz (xU b g rfl (yA (pv 1) yD)) (aJH (wN aQH (pv 1) (pv 0)))))),?_⟩;refine⟨_,Ce,d,Ce,_,Ce,?_⟩;unfold Dm.cts at q;cases c:Dm.opn d with
 |false=>rw[c]at q;exact q
 |true=>rw[c,Bool.true_and]at q;rw[if_pos rfl];refine⟨_,Ce,_,Ce,a,_,Ce,.inl i,Ce,qH e,?_⟩;rw[if_pos rfl,qU];exact q
def bXo:yO [Ai] [Ai] (yH aZL):=scM
def aY9:xO [Ai] (yH aZL) Ap [] [] (lsN [(".0",.local),(Ap,.local),(Av,.globalImplicit)]):=
 lcM
theorem aQ4(p:Int->Bool):∀ns:List Int,((ns.map V.int).filter λv=>match v with|.int d=>p d|_=>false)=(ns.filter p).map V.int
 |[]=>rfl
 |n::r=>by have a:=aQ4 p r;rw[cXO,List.filter_cons,List.filter_cons,a];show(if p n=true then _ else _)=_;split<;> rfl
def bQy(T:uK mg)(c:FnG P w K mg base 1 Av [Ap] bXK)(F:Fun K Bf Bf aZL f fd):xL P w K mg base CX0 2 f fd [Ai] (aWP K):=by
 have U:=bXo;refine F.ok (k:=1) U (λX A outer s H vs Q E I h=>?_);obtain⟨a,B,rfl,J,C,q⟩:=h;refine⟨_,(yF (yP (aQk aY9 rfl (xN (yR (aXT rfl) rfl T.b_sorted wZ (yA (zH (bX9 rfl) rfl T.b_set bKN (yA (pv 0) yD)) yD))) (λ_ _ _ _ _=>(vC (zA (xU c I rfl (yA (pv 0) yD))))) (λ_ _ _ _ _=>(pv 0))))),?_⟩;refine⟨_,Ce,a,B,Ce,J,by omega,λl p hl W t e=>?_⟩;refine⟨l,p,Ce,yB,by omega,λr S i g L=>?_⟩;refine⟨r,Ce,⟨_,Cc yB⟩,λD m=>?_⟩;have n:S.Pairwise (·<·):=by
  have j:S.Nodup:=(g.nodup_iff).mpr W;have x:S.Pairwise (λa b=>a<=b/\a≠b):=L.and j;exact x.imp λ⟨Y,x⟩=>by omega
 have z:(S.map V.int).length<=cXy:=by rw[cXe,g.length_eq,cXC];omega
 refine aXf (λv=>match v with|.int d=>Dm.opn d|_=>false) id (Cc yB) m z ?_ ?_ ?_
 ·intro v u G R N hR;obtain⟨d,Z,rfl⟩:=cX3.mp u;exact⟨_,Ce,d,Ce,_,Ce,hR⟩
 ·intro v u O G R N hR;exact⟨_,Ce,hR⟩
 ·rw[aQ4,cVX];have y:=yE hl (bYx w l p);have o:=yE i (.lst (S.map V.int));have M:=yE m (.lst ((S.filter Dm.opn).map V.int));refine q D _ (S.filter Dm.opn) (y.trans (o.trans M)) ?_ (n.sublist cZ2) ?_ ?_ yB
  ·exact(xJ.trans y o).fresh m
  ·intro d;rw[cZd,g.mem_iff,e]
  ·have:=cX6 Dm.opn S;rw[g.length_eq]at this;omega
def bJz:yO ["place"] ["place"] (yH bQ4):=scM
def bZU(T:uK mg)(F:Fun K "day_at" "day_at" bQ4 f fd):xL P w K mg base CX0 1 f fd ["place"] bXG:=by
 obtain⟨i,b⟩:=T.week;obtain⟨j,a⟩:=T.opens;have c:=bJz;refine F.ok (k:=0) c (λe A outer s H l Q E g h=>?_);obtain⟨d,rfl,q⟩:=h;refine⟨_,(yF (yP (yV zW (yV aWv (yV aQh (pv 0) (jO (v:= .int 5) rfl a ⟨_,rfl⟩)) (jO (v:= .int 7) rfl b ⟨_,rfl⟩)) (yV xD (pv 0) (jO (v:= .int 5) rfl a ⟨_,rfl⟩))))),?_⟩;exact⟨_,Ce,_,_,Ce,Ce,⟨by decide,by decide⟩,_,_,Ce,Ce,.inr ⟨by decide,by decide⟩,_,Ce,_,_,Ce,Ce,(show(0:Int)<5 by decide),_,_,Ce,Ce,q⟩
def bYt:yO [Ai,Ap,AU,"place","closed"] [Ai,Ap,AU] (yH cQl):=scM
def bZj(d p:Int)(C:List Int)(i:Nat)(c:Int)(h:C[i]? =some c):Dm.aZs d p (C.take (i+1))=Dm.qF d (Dm.aZs d p (C.take i)) c:=by
 unfold Dm.aZs;rw[cZa,h];show(C.take i++ [c]).foldl _ p=_;rw[cWC];rfl
def bK8(T:uK mg)(b:FnG P w K mg base 2 Bf [Ai] (aWP K))(j:FnG P w K mg base 2 CQ [Ap] bXM)(g:FnG P w K mg base 2 "day_at" ["place"] bXG) (F:Fun K CY CY cQl f fd):xL P w K mg base CX0 3 f fd [Ai,Ap,AU] (bYC K):=by
 have R:=bYt;refine F.ok (k:=2) R (λS A outer s H W Q E u h=>?_);obtain⟨a,I,d,t,rfl,M,y,G,q⟩:=h;refine⟨_,(yC (yU (i:=3) (yV zW (xU j u rfl (yA (pv 1) yD)) (pv 2))) (yC (wV cX0 rfl (xN (xU b u rfl (yA (pv 0) yD))) (xI (i:=4)) (yF (xA (bJk uN bQI (pv 1) (pv 4) (xU g u rfl (yA (pv 3) yD))) (yF (yU (i:=3) (yV zW (pv 3) yG))) yS))) (yF (yP (xU g u rfl (yA (pv 3) yD)))))),?_⟩;refine⟨_,Ce,d,Ce,_,Ce,_,_,Ce,Ce,?_⟩;refine⟨_,Ce,a,I,Ce,M,y,λr U C J L O N hl n=>⟨r,Ce,⟨_,Cc n⟩,?_⟩⟩;refine zV (xs:=C.map V.int) (λi σ H=>∃cl,σ= [some (.ref a),some (.int d),some (.int t),some (.int (Dm.aZs d (Dm.place d+t) (C.take i))),cl]/\H=U) ?_ ?_ ?_ ?_
 ·exact⟨none,Ce,rfl⟩
 ·rintro i σ H X ⟨cl,rfl,rfl⟩;exact Cc n
 ·rintro i x σ H o ⟨cl,rfl,rfl⟩;rw[cXu]at o;cases B:C[i]? with
  |none=>rw[B]at o;cases o
  |some c=>
   rw[B]at o;cases o;have p:=bZj d (Dm.place d+t) C i c B;generalize Dm.aZs d (Dm.place d+t) (C.take i)=pl at p ⊢;dsimp only[yW];refine⟨_,Ce,_,Ce,_,_,Ce,Ce,_,Ce,?_⟩;refine X4 (λD=>?_) (λD=>?_)
   ·have m:d<c:=of_decide_eq_true D;refine⟨_,Ce,pl,Ce,_,_,Ce,Ce,_,Ce,?_⟩;refine X4 (λv=>?_) (λv=>?_)
    ·have l:c<=Dm.wH pl:=of_decide_eq_true v;refine⟨_,Ce,_,_,Ce,Ce,some (.int c),?_,rfl⟩;have e:Dm.qF d pl c=pl+1:=if_pos ⟨m,l⟩;rw[p,e];rfl
    ·have l:¬c<=Dm.wH pl:=of_decide_eq_false (Bool.eq_false_iff.mpr v);refine⟨some (.int c),?_,rfl⟩;have e:Dm.qF d pl c=pl:=if_neg λz=>l z.2;rw[p,e];rfl
   ·have m:¬d<c:=of_decide_eq_false (Bool.eq_false_iff.mpr D);refine⟨_,Ce,?_⟩;refine onF rfl ⟨some (.int c),?_,rfl⟩;have e:Dm.qF d pl c=pl:=if_neg λz=>m z.1;rw[p,e];rfl
 ·rintro σ H ⟨cl,rfl,rfl⟩;rw[cXe,cX4];exact⟨_,Ce,_,Ce,q _ _ J (Dm.bVg G O N)⟩
end
end Days
namespace Desk
open PySem L2 PyProof.Rows
open Bk (Row Rows)
structure PB(CB CL:Nat)(H:Hp)(ba la sa:Nat)(ls cs:List Nat)(R:Rows)(S:List Int):Prop where
 book:∃dx,H ba=some (.ins CB dx [(Ao,.ref la),(Ai,.ref sa)])
 lst:H la=some (.lst (ls.map V.ref))
 sht:H sa=some (.lst (S.map V.int))
 len:ls.length=R.length
 clen:cs.length=R.length
 nd:ls.Nodup
 cnd:cs.Nodup
 las:la≠sa
 lac:la∉cs
 sac:sa∉cs
 row:∀ (i:Nat)(b c:Nat)(r:Row),ls[i]? =some b->cs[i]? =some c->R[i]? =some r->aW7 CL H b i r c/\H c=some (.lst (r.copies.map V.str))
inductive cQQ(CL:Nat)(H:Hp)(ls cs:List Nat)(i:Nat)(r:Row):Prop|mk(b c:Nat)(h:(ls.map V.ref)[i]? =some (.ref b))(h:ls[i]? =some b)(h:cs[i]? =some c)(h:aW7 CL H b i r c)(h:H c=some (.lst (r.copies.map V.str)))
def PB.get{R:Rows}(h:PB f CL H g la sa ls cs R S)(b:R[i]? =some r):cQQ CL H ls cs i r:=by
 have d:i<R.length:=Bk.wW b;have a:=cQ9 (show i<ls.length by rw[h.len];exact d);have c:=cQ9 (show i<cs.length by rw[h.clen];exact d);obtain⟨e,j⟩:=h.row i _ _ r a c b;exact⟨_,_,by rw[cXu,a];rfl,a,c,e,j⟩
def PB.sameT{R:Rows}(h:PB a CL H f la sa ls cs R S)(k:zK H d):PB a CL d f la sa ls cs R S:=
 ⟨let ⟨dx,e⟩:=h.book;⟨dx,k _ _ (λ_ z=>nomatch z) e⟩,k.lst h.lst,k.lst h.sht,h.len,h.clen,h.nd,h.cnd,h.las,h.lac,h.sac,λi b c r j l g=>
  let ⟨⟨dx,e1⟩,e2⟩:=h.row i b c r j l g;⟨⟨dx,k _ _ (λ_ z=>nomatch z) e1⟩,k.lst e2⟩⟩
def PB.same{R:Rows}(h:PB c CL H b la sa ls cs R S)(k:xJ H a):PB c CL a b la sa ls cs R S:=h.sameT k.t
def aYw(T:Nat)(H a:Hp):Prop:=zK H a/\(Thr.vG T H->Thr.vG T a)
def aYw.of(k:xJ H a):aYw T H a:=⟨k.t,λt=>by
 rcases t with t|⟨c,b,d⟩
 ·exact .inl (k _ _ t)
 ·exact .inr ⟨c,k _ _ b,k _ _ d⟩⟩
def aYw.trans(a:aYw T H d)(b:aYw T d c):aYw T H c:=⟨a.1.trans b.1,λt=>b.2 (a.2 t)⟩
def xS(K:cXc)(Rf:Nat×Nat)(H:Hp)(E:XK)(t:Str):Prop:=∀ (C b:Nat)(a:Hp),jJ K C->cVz K C (.ref Rf.1)=some true->aYw Rf.2 H a->a b=some (.xd [(AG,.str t)])->E (.ref C) (some b) a
def xS.go{K:cXc}{Rf:Nat×Nat}{H:Hp}{E:XK}{t:Str}(h:xS K Rf H E t){b:Hp}(k:aYw Rf.2 H b):xS K Rf b E t:=λC d a c m f e=>h C d a c m (k.trans f) e
def xS.raise{P:cXB}{w:cXN}{K:cXc}{mg:Str->Option cXb}{base:Heap}{k:Nat}{x:Str}{Rf:Nat×Nat}{C:Nat}{H:Hp}{E:XK}{t:Str}(h:xS K Rf H E t)(G:ExG P w K mg base k x Rf.1 C t){D:bX3}{σ:L2.St}:bVv C t E D σ H:=
 λa b=>h C a _ G.cl G.sub (aYw.of (yE b _)) yB
inductive aWM(K:cXc)(Rf:Nat×Nat)(CB CL:Nat)(vs:List V)(H:Hp)(Q:VK)(E:XK):Prop|mk(ba la sa:Nat)(ls cs:List Nat)(R:Rows)(S:List Int)(m:Int)(h:vs= [.ref ba,.int m])(h:PB CB CL H ba la sa ls cs R S)(h:(∀ (k:Nat)(r:Row)(b:Nat),m=(k:Int)->R[k]? =some r->r.void=false->ls[k]? =some b->Q (.ref b) H))(h:(Bk.vU R m=false->xS K Rf H E "no letter"))
inductive aV6(CB CL:Nat)(vs:List V)(H:Hp)(Q:VK)(h:XK):Prop|mk(ba la sa:Nat)(ls cs:List Nat)(R:Rows)(S:List Int)(i:Nat)(b:Nat)(h:vs= [.ref ba,.ref b])(h:PB CB CL H ba la sa ls cs R S)(h:ls[i]? =some b)(h:R.length<=100)(h:∀l,H l=none->Q (.ref l) (upd H l (.lst ((Bk.wY R i).map λk=>(ls.map V.ref).getD k .non))))
inductive aWQ(K:cXc)(Rf:Nat×Nat)(CB CL:Nat)(vs:List V)(H:Hp)(Q:VK)(E:XK):Prop|mk(ba la sa:Nat)(ls cs:List Nat)(R:Rows)(S:List Int)(m:Int)(h:vs= [.ref ba,.int m])(h:PB CB CL H ba la sa ls cs R S)(h:(∀ (k:Nat)(r:Row)(l:Nat),m=(k:Int)->R[k]? =some r->r.void=false->H l=none->Q (.ref l) (upd H l (.lst (r.copies.map V.str)))))(h:(Bk.vU R m=false->xS K Rf H E "no letter"))
inductive aJ1(K:cXc)(Rf:Nat×Nat)(CB CL:Nat)(vs:List V)(H:Hp)(Q:VK)(E:XK):Prop|mk(ba la sa:Nat)(ls cs:List Nat)(R:Rows)(S:List Int)(m:Int)(h:vs= [.ref ba,.int m])(h:PB CB CL H ba la sa ls cs R S)(h:(∀ (k:Nat)(r:Row)(l:Nat),m=(k:Int)->R[k]? =some r->r.void=false->H l=none->Q (.ref l) (upd H l (.tup (stV r)))))(h:(Bk.vU R m=false->xS K Rf H E "no letter"))
section
variable {K:cXc}
abbrev aXw:Stmt:=xQ Aj Ad
abbrev aWG:Stmt:=xQ Aj Bn
abbrev aXv:Stmt:=xQ Aj "copies_of"
abbrev aZS:Stmt:=xQ Aj "state_of"
def bW3:yO [AA,AD] [AA,AD] (yH aXw):=scM
def bZq{R:Rows}(h:m<0):Bk.vU R m=false:=by
 unfold Bk.vU;rw[decide_eq_false (by omega),Bool.false_and]
def bZp{R:Rows}(h:(R.length:Int)<=m):Bk.vU R m=false:=by
 unfold Bk.vU;rw[cXM (by omega)];simp
def aJo{R:Rows}{k:Nat}{r:Row}(h:R[k]? =some r):Bk.vU R (k:Int)= !r.void:=by
 unfold Bk.vU;rw[cXG,h];simp
def bWo(T:uK mg)(cl:Cl K CB CL)(a:ExG P w K mg base n "NoLetter" Rf.1 C1 "no letter")(F:Fun K Ad "Book.letter_at" aXw f fd):xL P w K mg base (CXR P w) (n+2) f fd [AA,AD] (aWM K Rf CB CL):=by
 have z:=bW3;refine F.okX (k:=n+1) z (λD A outer s H M Q E y h=>?_);obtain⟨o,i,U,B,J,R,S,m,rfl,e,q,j⟩:=h;refine⟨_,(yC (xA (PW.pt (Y7 (yM uN (pv 1) yG) (Y7 (yM cQe (pv 1) (yR yN rfl T.b_len xG (yA (xC (pv 0) rfl) yD))) (uS (zA (xC (yL yK (xC (pv 0) rfl) (pv 1)) rfl)))))) (yF (vD a y rfl)) yS) (yF (yP (yL yK (xC (pv 0) rfl) (pv 1))))),?_⟩;obtain⟨g,p⟩:=e.book;have hl:(B.map V.ref).length=R.length:=by rw[cXe];exact e.len
 refine⟨_,Ce,_,_,Ce,Ce,_,Ce,?_⟩;refine X4 (λc=>?_) (λc=>?_)
 ·exact onT rfl ((j (bZq (of_decide_eq_true c))).raise a)
 ·have L:¬m<0:=of_decide_eq_false (Bool.eq_false_iff.mpr c);refine⟨_,Ce,_,Ce,o,CB,g,_,_,Ce,p,cl.b,cl.letters,Ce,i,_,Ce,.inl (Cc e.lst),_,_,Ce,Ce,_,Ce,?_⟩;rw[hl];refine X4 (λc=>?_) (λc=>?_)
  ·exact onT rfl ((j (bZp (of_decide_eq_true c))).raise a)
  ·have O:¬m≥(R.length:Nat):=of_decide_eq_false (Bool.eq_false_iff.mpr c);obtain⟨k,rfl⟩:∃k:Nat,m=(k:Int):=⟨m.toNat,by omega⟩;have x:k<R.length:=by omega
   have d:=cQ9 x;obtain⟨b,N,t,C,I,⟨r,v⟩,G⟩:=e.get d;refine⟨_,Ce,o,CB,g,_,_,Ce,p,cl.b,cl.letters,Ce,_,Ce,i,_,_,_,Ce,Ce,Cc e.lst,yT t,b,CL,r,_,_,Ce,v,cl.l,cl.void,Ce,_,Ce,?_⟩;cases u:R[k].void with
   |true=>exact onT rfl ((j (by rw[aJo d,u];rfl)).raise a)
   |false=>exact onF rfl ⟨_,Ce,o,CB,g,_,_,Ce,p,cl.b,cl.letters,Ce,_,Ce,i,_,_,_,Ce,Ce,Cc e.lst,yT t,q k _ b rfl d u C⟩
def aKA{Q:VK}(p:Nat->Bool)(f:Nat->V)(hl:SqL K H a xs)(s:H D=none)(hz:xs.length<=cXy) (z:∀i v,xs[i]? =some v->∀ (c:Hp)(R:Bool->Hp->Prop),(∀b,b≠D->c b=H b)->R (p i) c->j (sub σ q (some v)) c R) (w:∀i v,xs[i]? =some v->p i=true->∀ (c:Hp)(R:VK),(∀b,b≠D->c b=H b)->R (f i) c->r (sub σ q (some v)) c R) (u:Q (.ref D) (upd H D (.lst (((cXm xs.length).filter p).map f)))):bVL (Itl K a) q j r σ D Q (upd H D (.lst [])):=by
 have d:∀g,SqL K (upd H D (.lst g)) a xs:=λg=>by
  rcases hl with(h|⟨o,h⟩)|h
  ·exact .inl (.inl (by rw[yJ (yI h s)];exact h))
  ·exact .inl (.inr ⟨o,by rw[yJ (yI h s)];exact h⟩)
  ·exact .inr h
 refine⟨λi m g c=>m=xs.length - i/\i<=xs.length/\g=((cXm i).filter p).map f/\c=upd H D (.lst g),⟨xs.length,by simp,cZc _,by simp,rfl⟩,?_⟩;rintro i m g c ⟨rfl,E,rfl,rfl⟩;refine⟨yB,?_⟩;by_cases e:i<xs.length
 ·refine .inr ⟨⟨xs,xs[i],d _,cQ9 e⟩,λv F A=>?_⟩;obtain⟨rfl,y⟩:=A;have t:xs[i]? =some v:=y xs (d _);have k:∀b,b≠D->upd H D (.lst (((cXm i).filter p).map f)) b=H b:=λb B=>yJ B;have l:(((cXm i).filter p).map f).length<cXy:=by
   rw[cXe];have x:=cX6 p (cXm i);rw[cX1]at x;omega
  refine z i v t _ _ k ?_;cases n:p i with
  |false=>show ∃C,_;refine⟨xs.length - (i+1),by omega,Ce,e,?_,rfl⟩;rw[cJE,cZo,cZB (by rw[n];decide)];simp
  |true=>show r _ _ _;refine w i v t n _ _ k ⟨l,yB,xs.length - (i+1),by omega,Ce,e,?_,by rw[qP]⟩;rw[cJE,cZo,cZC n];simp
 ·obtain rfl:i=xs.length:=by omega
  exact .inl ⟨⟨xs,d _,cXh _⟩,u⟩
def bJv:yO [AA,AM] [AA,AM] (yH aWG):=scM
def bZz:xO [AA,AM] (yH aWG) Bd [AM] [1] (lsN [(".0",.local),(Bd,.local),(AM,.free)]):=
 lcM
def bZQ(cl:Cl K CB CL)(a:MG P w K mg base CX0 n CL Bj [AA,Bd] (bXD CL))(F:Fun K Bn "Book.answers_to" aWG f fd):xL P w K mg base CX0 (n+1) f fd [AA,AM] (aV6 CB CL):=by
 have U:=bJv;refine F.ok (k:=n) U (λX A outer s H vs Q E I h=>?_);obtain⟨M,J,sa,u,cs,R,S,i,b,rfl,d,y,hR,q⟩:=h;refine⟨_,(yF (yP (aQk bZz rfl (xN (xC (pv 0) rfl)) (λ_ _ _ _ _=>(vC (zA (jE a I uU (pv 1) (yA (pv 0) yD))))) (λ_ _ _ _ _=>(pv 0))))),?_⟩;obtain⟨B,N⟩:=d.book;have hl:(u.map V.ref).length=R.length:=by rw[cXe];exact d.len
 have r:i<R.length:=by rw[<- d.len];exact(cXn.mp y).1
 obtain⟨L,cc,Z,W,g3,⟨l,m⟩,g5⟩:=d.get (cQ9 r);obtain rfl:b=L:=cXv (y.symm.trans W);refine⟨_,Ce,M,CB,B,_,_,Ce,N,cl.b,cl.letters,Ce,J,Ce,⟨_,Cc d.lst⟩,λD e=>?_⟩;refine aKA (λk=>decide (Bk.lk R k=some i)) (λk=>(u.map V.ref).getD k .non) (Cc d.lst) e (zn (by omega)) (λj v o C T p c=>?_) (λj v o _ C T p c=>?_) ?_
 ·have O:j<R.length:=by rw[<- hl];exact(cXn.mp o).1
  have g:=cQ9 O;obtain⟨z,c2,G,Y,k3,⟨t,x⟩,k5⟩:=d.get g;obtain rfl:v= .ref z:=cXv (o.symm.trans G);rw[Bk.uM g]at c;exact⟨_,Ce,b,l,_,Ce,(p _ (yI m e)).trans m,Ce,_,Ce,b,z,i,j,_,_,_,_,Ce,⟨l,(p _ (yI m e)).trans m⟩,⟨t,(p _ (yI x e)).trans x⟩,_,Ce,c⟩
 ·have:(u.map V.ref).getD j .non=v:=by simp only[cXW,o];rfl
  rw[this]at c;exact⟨_,Ce,c⟩
 ·rw[hl];exact q D e
def aVZ:yO [AA,AD] [AA,AD] (yH aXv):=scM
def aVy(T:uK mg)(cl:Cl K CB CL)(a:MG P w K mg base (CXR P w) n CB Ad [AA,AD] (aWM K Rf CB CL))(F:Fun K "copies_of" "Book.copies_of" aXv f fd):xL P w K mg base (CXR P w) (n+1) f fd [AA,AD] (aWQ K Rf CB CL):=by
 have I:=aVZ;refine F.okX (k:=n) I (λM A outer s H U Q E t h=>?_);obtain⟨i,u,L,G,z,R,S,m,rfl,c,q,v⟩:=h;refine⟨_,(yF (yP (zH uQ rfl T.b_list wM (yA (xC (jE a t wX (pv 0) (yA (pv 1) yD)) rfl) yD)))),?_⟩;obtain⟨j,C⟩:=c.book;refine⟨_,Ce,i,j,_,Ce,C,Ce,_,Ce,i,u,L,G,z,R,S,m,Ce,c,λk r b B g y e=>?_,v⟩;obtain⟨x,D,N,J,O,⟨d,o⟩,p⟩:=c.get g;obtain rfl:b=x:=cXv (e.symm.trans J);refine⟨b,CL,d,_,_,Ce,o,cl.l,cl.copies,Ce,?_⟩;exact⟨D,_,Ce,.inl (Cc p),λl hl=>q k r l B g y hl⟩
def aYl:yO [AA,AD] [AA,AD] (yH aZS):=scM
def aKY(cl:Cl K CB CL)(a:MG P w K mg base (CXR P w) n CB Ad [AA,AD] (aWM K Rf CB CL))(c:MG P w K mg base CX0 n CL Bc [AA] (aV9 CL))(F:Fun K "state_of" "Book.state_of" aZS f fd): xL P w K mg base (CXR P w) (n+1) f fd [AA,AD] (aJ1 K Rf CB CL):=by
 have J:=aYl;refine F.okX (k:=n) J (λN A outer s H V Q E l h=>?_);obtain⟨o,v,M,I,B,R,S,m,rfl,e,q,x⟩:=h;refine⟨_,(yF (yP (bJg c l uU (jE a l wX (pv 0) (yA (pv 1) yD))))),?_⟩;obtain⟨p,D⟩:=e.book;refine⟨_,Ce,o,p,_,Ce,D,Ce,_,Ce,o,v,M,I,B,R,S,m,Ce,e,λk r b C j z g=>?_,x⟩;obtain⟨y,G,O,L,U,⟨d,i⟩,T⟩:=e.get j;obtain rfl:b=y:=cXv (g.symm.trans L);exact⟨b,d,_,Ce,i,Ce,b,k,r,G,Ce,⟨d,i⟩,λt u=>q k r t C j z u⟩
end
end Desk
namespace Desk
open PySem L2 PyProof.Rows
open Bk (Row Rows)
open Law (aYv Y9 Q3 bX5 aZc aXQ)
def aQx(R:Rows)(w:Str):List Nat:=(cXm R.length).filter λk=>match R[k]? with|some r=> !r.void && decide (r.place=w)|none=>false
inductive aXM(CB CL:Nat)(vs:List V)(H:Hp)(Q:VK)(h:XK):Prop|mk(ba la sa:Nat)(ls cs:List Nat)(R:Rows)(S:List Int)(w:Str)(h:vs= [.ref ba,.str w])(h:PB CB CL H ba la sa ls cs R S)(h:R.length<64)(h:∀l,H l=none->Q (.ref l) (upd H l (.lst ((aQx R w).map λi=>V.int (i:Nat)))))
def bVI(R:Rows)(n:Nat)(d:Int)(a:List (Key×V)):Prop:=∀j:Nat,(aQY a (Sum.inl (j:Int))).isSome=true↔∃k,k<n/\Bk.lk R k=some j/\Bk.dt R k<=d
inductive aZh(CB CL:Nat)(vs:List V)(H:Hp)(Q:VK)(h:XK):Prop|mk(ba la sa:Nat)(ls cs:List Nat)(R:Rows)(S:List Int)(d:Int)(h:vs= [.ref ba,.int d])(h:PB CB CL H ba la sa ls cs R S)(h:R.length<64)(h:∀ (a:Nat)(H':Hp)(kvs:List (Key×V)),xJ H H'->H a=none->H' a=some (.dK kvs)->bVI R R.length d kvs->Q (.ref a) H')
inductive aV8(CB CL:Nat)(vs:List V)(H:Hp)(Q:VK)(h:XK):Prop|mk(ba la sa:Nat)(ls cs:List Nat)(R:Rows)(S:List Int)(d:Int)(h:vs= [.ref ba,.int d])(h:PB CB CL H ba la sa ls cs R S)(h:R.length<64)(h:S.length<64)(h:∀ (l:Nat)(H':Hp)(ks:List Nat)(ps:List V),xJ H H'->H l=none->H' l=some (.lst ps)->cXZ (aYv H' (Y9 R S)) ks ps->Bk.bX4 R S d false ks->Q (.ref l) H')
inductive bYW(CB CL:Nat)(late:Bool)(vs:List V)(H:Hp)(Q:VK)(h:XK):Prop|mk(ba la sa:Nat)(ls cs:List Nat)(R:Rows)(S:List Int)(d:Int)(h:vs= [.ref ba,.int d])(h:PB CB CL H ba la sa ls cs R S)(h:R.length<64)(h:S.length<64)(h:∀ (l:Nat)(H':Hp)(ks:List Nat),xJ H H'->H l=none->H' l=some (.lst (ks.map λi=>V.int (i:Nat)))->Bk.bX4 R S d late ks->Q (.ref l) H')
def aXn{X:Cx}{K:cXc}{e:Expr}{f:Str}{pos:Pos}{a:TE}(b:PE X e a)(d:cJ4 e f X.env (eval e X.env)=eval e X.env)(c:X.K=K:=by rfl):PE X (.Attribute e f pos) (cQH K a f):=c ▸ xC b d
section
variable {K:cXc}
abbrev Y1:Stmt:=xQ Aj CT
abbrev aXu:Stmt:=xQ Aj CJ
abbrev bXa:Stmt:=xQ Aj BD
abbrev aQV:Stmt:=xQ Aj AZ
abbrev aQU:Stmt:=xQ Aj AW
def aJR:yO [AA,Bo] [AA,Bo] (yH Y1):=scM
def aJx:xO [AA,Bo] (yH Y1) AM [Bo] [1] (lsN [(".0",.local),(AM,.local),(Bo,.free)]):=
 lcM
def bVX:decide (W6 r=V.str w)=(!r.void && decide (r.place=w)):=by
 unfold W6;cases r.void with
 |true=>rfl
 |false=>show decide (V.str r.place=V.str w)=(true && decide (r.place=w));rw[Bool.true_and,Bool.eq_iff_iff];simp
def aJF(cl:Cl K CB CL)(F:Fun K CT "Book.letters_in" Y1 f fd):xL P w K mg base CX0 (n+1) f fd [AA,Bo] (aXM CB CL):=by
 have L:=aJR;refine F.ok (k:=n) L (λO A outer s H X Q E U h=>?_);obtain⟨C,B,Y,M,W,R,S,w,rfl,d,hR,q⟩:=h;refine⟨_,(yF (yP (aQk aJx rfl (xN (xC (pv 0) rfl)) (λ_ _ _ _ _=>(vC (yM zU (aXn (K:=K) (pv 0) rfl) (pv 1)))) (λ_ _ _ _ _=>(aXn (K:=K) (pv 0) rfl))))),?_⟩;obtain⟨x,I⟩:=d.book;have hl:(M.map V.ref).length=R.length:=by rw[cXe];exact d.len
 refine⟨_,Ce,C,CB,x,_,_,Ce,I,cl.b,cl.letters,Ce,B,Ce,⟨_,Cc d.lst⟩,λD o=>?_⟩;refine aKA (λk=>match R[k]? with|some r=> !r.void && decide (r.place=w)|none=>false) (λk=>V.int (k:Nat)) (Cc d.lst) o (zn (by omega)) (λj v g z J t a=>?_) (λj v g _ z J t a=>?_) ?_
 ·have u:j<R.length:=by rw[<- hl];exact(cXn.mp g).1
  have i:=cQ9 u;obtain⟨m,y,p,N,G,⟨c,e⟩,T⟩:=d.get i;obtain rfl:v= .ref m:=cXv (g.symm.trans p);rw[i]at a;dsimp only at a;rw[<- bVX]at a;refine⟨_,Ce,m,CL,c,_,_,Ce,(t _ (yI e o)).trans e,cl.l,cl.file,Ce,_,Ce,?_,_,Ce,a⟩;unfold W6;cases R[j].void<;> rfl
 ·have u:j<R.length:=by rw[<- hl];exact(cXn.mp g).1
  obtain⟨m,y,p,N,G,⟨c,e⟩,T⟩:=d.get (cQ9 u);obtain rfl:v= .ref m:=cXv (g.symm.trans p);exact⟨_,Ce,m,CL,c,_,_,Ce,(t _ (yI e o)).trans e,cl.l,cl.number,Ce,a⟩
 ·rw[hl];exact q D o
def aVY:yO [AA,Ab,B4,AM] [AA,Ab] (yH aXu):=scM
def aZ9{R:Rows}{t:Nat}(h:bVI R t d a)(f:∀j,Bk.lk R t=some j->¬Bk.dt R t<=d):bVI R (t+1) d a:=λj=>by
 rw[h j];constructor
 ·rintro⟨k,g,b⟩;exact⟨k,by omega,b⟩
 ·rintro⟨k,g,b,c⟩;by_cases e:k=t
  ·subst e;exact absurd c (f j b)
  ·exact⟨k,by omega,b,c⟩
def bX7{R:Rows}{t:Nat}(h:bVI R t d b)(hl:Bk.lk R t=some i)(c:Bk.dt R t<=d):bVI R (t+1) d (aVI b (Sum.inl (i:Int)) v):=λj=>by
 rw[bJ6];by_cases e:j=i
 ·subst e;rw[if_pos rfl];exact⟨λ_=>⟨t,by omega,hl,c⟩,λ_=>rfl⟩
 ·rw[if_neg (λz=>e (by have:=Sum.inl.inj z;omega)),h j];constructor
  ·rintro⟨k,l,a⟩;exact⟨k,by omega,a⟩
  ·rintro⟨k,l,a,g⟩;by_cases f:k=t
   ·subst f;rw[hl]at a;exact absurd (cXv a).symm e
   ·exact⟨k,by omega,a,g⟩
def aVx(cl:Cl K CB CL)(F:Fun K CJ "Book.answered_by" aXu f fd):xL P w K mg base CX0 (n+1) f fd [AA,Ab] (aZh CB CL):=by
 have sc:=aVY;refine F.ok (k:=n) sc (λa0 A outer s H vs Q E Z h=>?_);obtain⟨T,la,sa,W,cs,R,S,d,rfl,C,hR,q⟩:=h;refine⟨_,(yC (yU (i:=2) bJf) (yC (wV cX0 rfl (xN (xC (pv 0) rfl)) (xI (i:=3)) (yF (xA (PW.pt (jF (yM vB (xC (pv 3) rfl) zN) (uH (yM bQI (xC (pv 3) rfl) (pv 1))))) (yF (bWK (bKT Z) (pv 2) (xC (pv 3) rfl) vQ rfl)) yS))) (yF (yP (pv 2))))),?_⟩;obtain⟨X,hb⟩:=C.book;have hl:(W.map V.ref).length=R.length:=by rw[cXe];exact C.len
 intro a J;dsimp only[yW];have I:=yE J (.dK []);refine⟨_,Ce,T,CB,X,_,_,Ce,I _ _ hb,cl.b,cl.letters,Ce,la,Ce,⟨_,Cc (I _ _ C.lst)⟩,?_⟩;refine zV (xs:=W.map V.ref) (λt σ v=>∃ (e:List (Key×V))(o:Option V),σ= [some (.ref T),some (.int d),some (.ref a),o]/\xJ H v/\v a=some (.dK e)/\e.length<=t/\bVI R t d e) ?_ ?_ ?_ ?_
 ·exact⟨[],none,Ce,I,yB,cZc _,λj=>⟨λz=>(by cases z),λ⟨k,z,_⟩=>absurd z (cZT _)⟩⟩
 ·rintro t σ v M ⟨e,o,rfl,g,y,U,r⟩;exact Cc (g _ _ C.lst)
 ·rintro t x σ v O ⟨e,o,rfl,g,y,U,r⟩;have M:t<R.length:=by rw[<- hl];exact(cXn.mp O).1
  have p:=cQ9 M;obtain⟨b,c,Y,g2,g3,⟨u,G⟩,g5⟩:=(C.same g).get p;obtain rfl:x= .ref b:=cXv (O.symm.trans Y);dsimp only[yW];refine⟨_,Ce,b,CL,u,_,_,Ce,G,cl.l,cl.link,Ce,Ce,_,Ce,?_⟩;have B:=Bk.uM p;have D:=Bk.uL p;cases m:R[t].link with
  |none=>exact onF rfl (onF rfl ⟨e,_,Ce,g,y,by omega,aZ9 r λj L=>by rw[B,m]at L;cases L⟩)
  |some i=>
   refine onT rfl ⟨_,Ce,b,CL,u,_,_,Ce,G,cl.l,cl.day,Ce,_,Ce,_,_,Ce,Ce,_,Ce,?_⟩;cases N:decide (R[t].date<=d)with
   |false=>exact onF rfl ⟨e,_,Ce,g,y,by omega,aZ9 r λj L=>by rw[D];exact of_decide_eq_false N⟩
   |true=>
    refine onT rfl ⟨_,Ce,_,Ce,b,CL,u,_,_,Ce,G,cl.l,cl.link,Ce,a,upd v a (.dK (aVI e (Sum.inl (i:Int)) (.bl true))),Ce,?_,?_⟩
    ·rw[m];exact bKB.k (k:=Sum.inl (i:Int)) y (by rw[cXC];omega)
    refine⟨_,_,Ce,?_,yB,cXJ (X7 _ _ _) (by omega),bX7 r (by rw[B,m]) (by rw[D];exact of_decide_eq_true N)⟩;exact aXQ g J
 ·rintro σ v ⟨e,o,rfl,g,y,U,r⟩;rw[hl]at r;exact⟨_,Ce,q a v e g J y r⟩
def bJ7{R:Rows}(g:R[i]? =some r)(l:bVI R R.length d a): Bk.aQO R i d=(decide (aQs r > 0) && (decide (r.date<=d) && !(aQY a (Sum.inl (i:Int))).isSome)):=by
 have j:((Bk.wY R i).all λk=>decide (d<Bk.dt R k))= !(aQY a (Sum.inl (i:Int))).isSome:=by
  rw[Bool.eq_iff_iff,cVs,Bool.not_eq_true',Bool.eq_false_iff,ne_eq,l i];constructor
  ·rintro h ⟨k,f,c,m⟩;have:=of_decide_eq_true (h k (cZd.mpr ⟨cXI.mpr f,decide_eq_true c⟩));omega
  ·intro h k b;obtain⟨f,c⟩:=cZd.mp b;refine decide_eq_true ?_;by_cases z:Bk.dt R k<=d
   ·exact absurd ⟨k,cXI.mp f,of_decide_eq_true c,z⟩ h
   ·omega
 unfold Bk.aQO;rw[g];dsimp only;rw[j];unfold aQs;cases r.void with
 |true=>rfl
 |false=>
  rw[if_neg (by decide)];have e:decide (1<=r.term)=decide (r.term > 0):=by rw[Bool.eq_iff_iff];simp;omega
  rw[e];simp[Bool.and_assoc]
def bJF:yO [AA,Ab,B4,"pairs",AM] [AA,Ab] (yH bXa):=scM
def bZ0(T:uK mg)(cl:Cl K CB CL)(j:MG P w K mg base CX0 n CB CJ [AA,Ab] (aZh CB CL))(r:FnG P w K mg base n CY [Ai,Ap,AU] (Days.bYC K)) (F:Fun K BD "Book.waiting_pairs" bXa f fd):xL P w K mg base CX0 (n+1) f fd [AA,Ab] (aV8 CB CL):=by
 have sc:=bJF;refine F.ok (k:=n) sc (λc3 A outer s H vs Q E hr h=>?_);obtain⟨U,la,sa,ls,cs,R,S,d,rfl,Z,hR,hS,q⟩:=h;refine⟨_,(yC (yU (i:=2) (jE j hr uU (pv 0) (yA (pv 1) yD))) (yC (yU (i:=3) (xB yD)) (yC (wV cX0 rfl (xN (xC (pv 0) rfl)) (xI (i:=4)) (yF (xA (PW.pt (jF (yM aX0 (xC (pv 4) rfl) yG) (jF (yM bQI (xC (pv 4) rfl) (pv 1)) (uH (bYk (bQM (bKT hr) (xC (pv 4) rfl) (pv 2))))))) (yF (yZ (jD cXF cXP cXQ xR (pv 3) (yA (xK (yA (xU r hr rfl (yA (xC (pv 0) rfl) (yA (xC (pv 4) rfl) (yA (xC (pv 4) rfl) yD)))) (yA (xC (pv 4) rfl) yD))) yD)))) yS))) (yF (yP (yR jV rfl T.b_sorted wZ (yA (pv 3) yD))))))),?_⟩;obtain⟨dx,hb⟩:=Z.book;have hl:(ls.map V.ref).length=R.length:=by rw[cXe];exact Z.len
 refine⟨_,Ce,U,dx,_,Ce,hb,Ce,_,Ce,U,la,sa,ls,cs,R,S,d,Ce,Z,hR,λa H0 b7 X c1 a6 hA=>?_⟩;dsimp only[yW];refine⟨z0,λB y=>?_⟩;dsimp only[yW];have k1:xJ H (upd H0 B (.lst [])):=X.trans (yE y _);have c0:H B=none:=X.fresh y;refine⟨_,Ce,U,CB,dx,_,_,Ce,k1 _ _ hb,cl.b,cl.letters,Ce,la,Ce,⟨_,Cc (k1 _ _ Z.lst)⟩,?_⟩;have c2:a≠B:=yI a6 y;refine zV (xs:=ls.map V.ref) (λt σ I=>∃ (g:List V)(o:Option V),σ= [some (.ref U),some (.int d),some (.ref a),some (.ref B),o]/\xJ H0 I/\I B=some (.lst g)/\
  cXZ (aYv I (Y9 R S)) ((cXm t).filter (Q3 R S d false)) g) ?_ ?_ ?_ ?_
 ·exact⟨[],none,Ce,yE y _,yB,.nil⟩
 ·rintro t σ I ht ⟨g,o,rfl,N,J,L⟩;exact Cc (N _ _ (X _ _ Z.lst))
 ·rintro t x σ I Y ⟨g,o,rfl,N,J,L⟩;have ht:t<R.length:=by rw[<- hl];exact(cXn.mp Y).1
  have M:=cQ9 ht;have O:=(Z.same X).same N;obtain⟨b0,b4⟩:=O.book;obtain⟨b,c,g1,g2,g3,⟨v,g4⟩,g5⟩:=O.get M;obtain rfl:x= .ref b:=cXv (Y.symm.trans g1);rw[cJE,cZo];dsimp only[yW];have hw:=bJ7 M hA;have u:Q3 R S d false t=Bk.aQO R t d:=by unfold Q3;simp
  have stay:∀o',Q3 R S d false t=false->∃ (g:List V)(p:Option V),[some (V.ref U),some (V.int d),some (V.ref a),some (V.ref B),o']= [some (.ref U),some (.int d),some (.ref a),some (.ref B),p]/\xJ H0 I/\I B=some (.lst g)/\
    cXZ (aYv I (Y9 R S)) ((cXm t).filter (Q3 R S d false)++ [t].filter (Q3 R S d false)) g:=λo' e=>by
   have e3: [t].filter (Q3 R S d false)= []:=by simp[e]
   rw[e3,cZg]
   exact⟨g,o',Ce,N,J,L⟩
  refine⟨_,Ce,b,CL,v,_,_,Ce,g4,cl.l,cl.term,Ce,_,_,Ce,Ce,_,Ce,?_⟩;cases h1:decide (aQs R[t] > 0)with
  |false=>exact onF rfl (onF rfl (stay _ (by rw[u,hw,h1];rfl)))
  |true=>
   refine onT rfl ⟨_,Ce,b,CL,v,_,_,Ce,g4,cl.l,cl.day,Ce,_,Ce,_,_,Ce,Ce,_,Ce,?_⟩;cases h2:decide (R[t].date<=d)with
   |false=>exact onF rfl (onF rfl (stay _ (by rw[u,hw,h1,h2];rfl)))
   |true=>
    refine onT rfl ⟨_,Ce,b,CL,v,_,_,Ce,g4,cl.l,cl.number,Ce,_,Ce,a,_,Ce,bKA.k (k:=Sum.inl (t:Int)) (N _ _ a6),_,Ce,?_⟩;cases h3:(aQY b7 (Sum.inl (t:Int))).isSome with
    |true=>exact onF rfl (stay _ (by rw[u,hw,h1,h2,h3];rfl))
    |false=>
     have a7:Bk.aQO R t d=true:=by rw[hw,h1,h2,h3];rfl
     have b3:=Law.aZn ht a7;have hv:R[t].void=false:=by
      cases hv:R[t].void with
      |false=>rfl
      |true=>have:=of_decide_eq_true h1;unfold aQs at this;rw[hv]at this;simp at this
     have a4:aQs R[t]=R[t].term:=by unfold aQs;rw[hv];rfl
     refine onT rfl ⟨_,Ce,.inl ⟨rfl,_,Cc J⟩,_,Ce,U,CB,b0,_,_,Ce,b4,cl.b,cl.shut,Ce,_,Ce,b,CL,v,_,_,Ce,g4,cl.l,cl.day,Ce,_,Ce,b,CL,v,_,_,Ce,g4,cl.l,cl.term,Ce,?_⟩;refine⟨sa,S,_,_,Ce,Cc O.sht,hS,by rw[a4];exact b3,λH2 D W hD=>?_⟩;have eD:D=Y9 R S t:=by unfold Y9;rw[M,Bk.uL M];rw[a4]at hD;exact(Bk.bVf hD).symm
     subst eD;refine⟨_,Ce,b,CL,v,_,_,Ce,W _ _ g4,cl.l,cl.number,Ce,z2,λq3 b9=>?_⟩;have b5:=W _ _ J;have k5:=yE b9 (.tup [V.int (Y9 R S t),V.int (t:Nat)]);have a2:=k5 _ _ b5;have il:g.length<=t:=by rw[<- L.length];exact cXJ (cX6 _ _) (by simp)
     have t6:∀a xs,upd H2 q3 (.tup [V.int (Y9 R S t),V.int (t:Nat)]) a=some (.tup xs)->upd (upd H2 q3 (.tup [V.int (Y9 R S t),V.int (t:Nat)])) B (.lst (g++ [V.ref q3])) a=some (.tup xs):=λa xs e=>by rw[yJ (aXW e a2 (by intro z;cases z))];exact e
     have e3: [t].filter (Q3 R S d false)= [t]:=by simp[u,a7]
     refine⟨B,g,.ref q3,Ce,Ce,a2,zlt (by omega),g++ [.ref q3],_,Ce,aXQ (N.trans (W.trans k5)) y,yB,?_⟩;rw[e3];exact aZc ⟨q3,Ce,t6 _ _ yB⟩ (Paired.mapP L λ_ _ z=>z.tk λa xs e=>t6 _ _ (k5 _ _ (W _ _ e)))
 ·rintro σ I ⟨g,o,rfl,N,J,L⟩;rw[hl]at L;generalize G:(cXm R.length).filter (Q3 R S d false)=fam at L;have a3:fam.length=g.length:=L.length;have fn:fam.length<=R.length:=by rw[<- G];exact cXJ (cX6 _ _) (by simp)
  have a9:∀k,k∈fam↔k<R.length/\Q3 R S d false k=true:=λk=>by rw[<- G,cZd,cXI]
  have b1:fam.Nodup:=by rw[<- G];exact cVv.sublist cZ2
  refine⟨_,Ce,B,g,λm=>(Y9 R S (fam.getD m 0),((fam.getD m 0:Nat):Int)),Ce,J,by omega,λa b ha hb e=>?_,λm x Y=>?_,λl out a5 a1 b8=>?_⟩
  ·have e2:fam.getD a 0=fam.getD b 0:=by have:=congrArg Prod.snd e;simp only at this;omega
   have a8:a<fam.length:=by omega
   have a0:b<fam.length:=by omega
   simp[cXW,cQ9 a8,cQ9 a0]at e2;exact(cZ5 (h₀:=a8) (h₁:=a0) b1).mp e2
  ·obtain⟨k,hk,p,J,e2⟩:=bX5 L Y;have:fam.getD m 0=k:=by simp[cXW,hk]
   show ∃a,x=V.ref a/\I a=some (.tup [V.int (Y9 R S (fam.getD m 0)),V.int ((fam.getD m 0:Nat):Int)]);rw[this];exact⟨p,J,e2⟩
  ·have hm:∀m∈out,m<g.length:=λm hm=>cXI.mp (a1.mem_iff.mp hm);have W:=yE a5 (.lst (out.map λi=>g.getD i .non));refine q l _ (out.map λm=>fam.getD m 0) _ (X.trans (N.trans W)) ((X.trans N).fresh a5) yB ?_ ⟨λk=>?_,?_⟩
   ·have go:∀o:List Nat,(∀m∈o,m<g.length)->cXZ (aYv (upd I l (.lst (out.map λi=>g.getD i .non))) (Y9 R S)) (o.map λm=>fam.getD m 0) (o.map λi=>g.getD i .non):=by
     intro o;induction o with
     |nil=>intro _;exact .nil
     |cons m o ih=>
      intro h;refine .cons ?_ (ih λx Y=>h x (cXl _ Y));have C:=h m cXp;have hg:g[m]? =some (g.getD m .non):=by simp[cXW,cQ9 C]
      obtain⟨k,hk,p,J,e2⟩:=bX5 L hg;have:fam.getD m 0=k:=by simp[cXW,hk]
      show aYv _ _ (fam.getD m 0) (g.getD m .non);rw[this];exact⟨p,J,W _ _ e2⟩
    exact go out hm
   ·have b2:k∈out.map (λm=>fam.getD m 0)↔k∈fam:=by
     constructor
     ·intro h;obtain⟨m,b6,rfl⟩:=cX3.mp h;have C:m<fam.length:=by rw[a3];exact hm m b6
      simp[cXW,cQ9 C]
     ·intro h;obtain⟨m,C,e⟩:=cX2 h;refine cX3.mpr ⟨m,a1.mem_iff.mpr (cXI.mpr (by omega)),?_⟩;simp[cXW,cQ9 C,e]
    rw[b2,a9 k];unfold Q3;simp
   ·rw[cJK];exact b8
def bJc{α β:Type}{F:α->β->Prop}:∀ {l:List α} {m:List β} {i:Nat} {y:β},cXZ F l m->m[i]? =some y->∃x,l[i]? =some x/\F x y:=λh e=>bX5 h e
def aJt{α:Type}(a:List Nat)(g:Nat->Bool)(h:Nat->α):((cXm a.length).filter λm=>g (a.getD m 0)).map (λm=>h (a.getD m 0))=(a.filter g).map h:=by
 have e:(cXm a.length).map (λm=>a.getD m 0)=a:=by
  apply cJp;intro i;rw[cXu];by_cases b:i<a.length
  ·rw[cJe b];simp[cQ9 b]
  ·rw[cXM (by simpa using b),cXM (by omega)];rfl
 conv=>rhs;rw[<- e,List.filter_map,cZS]
 rfl
def aYm:yO [AA,Ab] [AA,Ab] (yH aQV):=scM
def aKC:xO [AA,Ab] (yH aQV) "pair" [] [] (lsN [(".0",.local),("pair",.local)]):=
 lcM
def aKZ(cl:Cl K CB CL)(a:MG P w K mg base CX0 n CB BD [AA,Ab] (aV8 CB CL))(F:Fun K AZ "Book.waiting" aQV f fd):xL P w K mg base CX0 (n+1) f fd [AA,Ab] (bYW CB CL false):=by
 have sc:=aYm;refine F.ok (k:=n) sc (λa1 A outer s H vs Q E Y h=>?_);obtain⟨G,Z,sa,ls,cs,R,S,d,rfl,B,hR,hS,q⟩:=h;refine⟨_,(yF (yP (aQk aKC rfl (xN (jE a Y uU (pv 0) (yA (pv 1) yD))) (λ_ _ _ _ _=>wS) (λ_ _ _ _ _=>(yL ixT (pv 0) yG))))),?_⟩;obtain⟨M,hb⟩:=B.book;refine⟨_,Ce,G,M,_,Ce,hb,Ce,_,Ce,G,Z,sa,ls,cs,R,S,d,Ce,B,hR,hS,λl H1 g O L T r u c=>?_⟩;have o:g.length=O.length:=u.length;have a0:g.length<=R.length:=Fm.vP (c.ord.imp λ{x y} e z=>by rw[z,Stree.vX]at e;cases e) λx X=>((c.mem x).mp X).1;refine⟨l,Ce,⟨_,Cc r⟩,λD t=>?_⟩;refine aKA (λ_=>true) (λm=>V.int (g.getD m 0:Nat)) (Cc r) t (zn (by omega)) (λj v C W R' I b=>b) (λj v C _ W R' I b=>?_) ?_
 ·obtain⟨k,N,p,U,J⟩:=bX5 u C;subst U;have:g.getD j 0=k:=by simp[cXW,N]
  rw[this]at b;exact⟨_,Ce,p,_,1,_,Ce,Ce,Cd ((I p (yI J t)).trans J),Ce,b⟩
 ·have e:=aJt g (λ_=>true) λi=>V.int (i:Nat);rw[o]at e;rw[e,cJu.mpr λ_ _=>rfl];exact q D _ g (L.trans (yE t _)) (L.fresh t) yB c
def aYi:yO [AA,Ab] [AA,Ab] (yH aQU):=scM
def aKB:xO [AA,Ab] (yH aQU) "pair" [Ab] [1] (lsN [(".0",.local),("pair",.local),(Ab,.free)]):=
 lcM
def aKV(cl:Cl K CB CL)(g:MG P w K mg base CX0 n CB BD [AA,Ab] (aV8 CB CL))(F:Fun K AW "Book.overdue" aQU f fd):xL P w K mg base CX0 (n+1) f fd [AA,Ab] (bYW CB CL true):=by
 have sc:=aYi;refine F.ok (k:=n) sc (λa1 A outer s H vs Q E hr h=>?_);obtain⟨T,la,sa,ls,cs,R,S,d,rfl,O,hR,hS,q⟩:=h;refine⟨_,(yF (yP (aQk aKB rfl (xN (jE g hr uU (pv 0) (yA (pv 1) yD))) (λ_ _ _ _ _=>(vC (yM uN (yL ixT (pv 0) yG) (pv 1)))) (λ_ _ _ _ _=>(yL ixT (pv 0) yG))))),?_⟩;obtain⟨W,hb⟩:=O.book;refine⟨_,Ce,T,W,_,Ce,hb,Ce,_,Ce,T,la,sa,ls,cs,R,S,d,Ce,O,hR,hS,λl H1 t X U Y C L r=>?_⟩;have B:t.length=X.length:=L.length;have a0:t.length<=R.length:=Fm.vP (r.ord.imp λ{x y} e z=>by rw[z,Stree.vX]at e;cases e) λx hx=>((r.mem x).mp hx).1;refine⟨l,Ce,⟨_,Cc C⟩,λD u=>?_⟩;refine aKA (λm=>decide (Y9 R S (t.getD m 0)<d)) (λm=>V.int (t.getD m 0:Nat)) (Cc C) u (zn (by omega)) (λj v M Z R' N o=>?_) (λj v M _ Z R' N o=>?_) ?_
 ·obtain⟨k,I,p,J,G⟩:=bX5 L M;subst J;have:t.getD j 0=k:=by simp[cXW,I]
  rw[this]at o;exact⟨_,Ce,p,_,0,_,Ce,Ce,Cd ((N p (yI G u)).trans G),Ce,_,Ce,_,_,Ce,Ce,_,Ce,o⟩
 ·obtain⟨k,I,p,J,G⟩:=bX5 L M;subst J;have:t.getD j 0=k:=by simp[cXW,I]
  rw[this]at o;exact⟨_,Ce,p,_,1,_,Ce,Ce,Cd ((N p (yI G u)).trans G),Ce,o⟩
 ·have e:=aJt t (λk=>decide (Y9 R S k<d)) λi=>V.int (i:Nat);rw[B]at e;rw[e];refine q D _ (t.filter λk=>decide (Y9 R S k<d)) (U.trans (yE u _)) (U.fresh u) yB ⟨λk=>?_,r.ord.sublist cZ2⟩;rw[cZd,r.mem k,decide_eq_true_eq];unfold Y9;constructor
  ·rintro⟨⟨a,b,_⟩,c⟩;exact⟨a,b,λ_=>c⟩
  ·rintro⟨a,b,c⟩;exact⟨⟨a,b,λz=>by cases z⟩,c rfl⟩
end
end Desk
namespace Desk
open PySem L2 PyProof.Rows
open Bk (Row Rows)
def own(la sa:Nat)(ls cs:List Nat):List Nat:=la::sa::(ls++cs)
def Q5(o:List Nat)(H a:Hp):Prop:=∀b u,b∉o->(∀c,u≠ .tbl c)->H b=some u->a b=some u
def Q5.of(k:zK H a):Q5 o H a:=λb u _ n e=>k b u n e
def Q5.trans(a:Q5 o H f)(b:Q5 o f d):Q5 o H d:=λc u n t e=>b c u n t (a c u n t e)
def Q5.upd(a:b∈o)(u:HO):Q5 o H (upd H b u):=λc v n _ e=>by
 rw[yJ (λz=>n (by rw[z];exact a))];exact e
def aWx:la∈own la sa ls cs:=cXp
def bQK:sa∈own la sa ls cs:=cXl _ cXp
def aVG(h:b∈ls):b∈own la sa ls cs:=cXl _ (cXl _ (cZY _ h))
def bWG(h:b∈cs):b∈own la sa ls cs:=cXl _ (cXl _ (cXw _ h))
section
variable {CB CL:Nat}{H:Hp}{ba la sa:Nat}{ls cs:List Nat}{R:Rows}{S:List Int}
def PB.l_ne(h:PB CB CL H ba la sa ls cs R S)(g:b∈ls)(f:H a=some (.lst xs)):a≠b:=λz=>by
 obtain⟨i,c,e⟩:=cX2 g;obtain⟨o,n,l,d,p,⟨k,j⟩,m⟩:=h.get (cQ9 (show i<R.length by rw[<- h.len];exact c));rw[cQ9 c,e]at d;cases d;rw[z,j]at f;cases f
def PB.ba_ne(h:PB CB CL H ba la sa ls cs R S):ba∉ls:=λz=>by
 obtain⟨i,a,e⟩:=cX2 z;obtain⟨m,l,j,b,n,⟨g,d⟩,k⟩:=h.get (cQ9 (show i<R.length by rw[<- h.len];exact a));rw[cQ9 a,e]at b;cases b;obtain⟨f,c⟩:=h.book;rw[d]at c;cases c
def PB.set(h:PB CB CL H ba la sa ls cs R S){k:Nat}(m:ls[k]? =some b)(t:cs[k]? =some c)(s:R[k]? =some r)(f:Row->Row)(w:(f r).copies=r.copies): PB CB CL (upd H b (.ins CL dx (aJy k (f r) c))) ba la sa ls cs (Bk.xV R k f) S:=by
 have a:=cXs m;refine⟨?_,?_,?_,by rw[Bk.wR];exact h.len,by rw[Bk.wR];exact h.clen,h.nd,h.cnd,h.las,h.lac,h.sac,λi u y x l p g=>?_⟩
 ·obtain⟨d,e⟩:=h.book;exact⟨d,by rw[yJ (λz=>h.ba_ne (by rw[z];exact a))];exact e⟩
 ·rw[yJ (h.l_ne a h.lst)];exact h.lst
 ·rw[yJ (h.l_ne a h.sht)];exact h.sht
 ·rw[Bk.wC]at g;by_cases e:i=k
  ·subst e;rw[if_pos rfl,s]at g;cases g;rw[m]at l;cases l;rw[t]at p;cases p;obtain⟨_,j⟩:=h.row i b c r m t s;refine⟨⟨dx,yB⟩,?_⟩;rw[yJ (h.l_ne a j),w];exact j
  ·rw[if_neg e]at g;obtain⟨⟨d,v⟩,j⟩:=h.row i u y x l p g;have o:u≠b:=λz=>by
    subst z;obtain⟨A,q⟩:=cXn.mp l;obtain⟨B,n⟩:=cXn.mp m;exact e ((cZ5 h.nd).mp (q.trans n.symm))
   exact⟨⟨d,by rw[yJ o];exact v⟩,by rw[yJ (h.l_ne a j)];exact j⟩
def PB.copy(h:PB CB CL H ba la sa ls cs R S){k:Nat}(g:cs[k]? =some c)(p:R[k]? =some r)(j:Str): PB CB CL (upd H c (.lst ((r.copies++ [j]).map V.str))) ba la sa ls cs (Bk.xV R k λr=>{r with copies:=r.copies++ [j] }) S:=by
 have l:=cXs g;obtain⟨b0,J,I,K,x,⟨A,G⟩,E⟩:=h.get p;rw[g]at x;cases x;have s:∀ {a C dx fs},H a=some (.ins C dx fs)->a≠c:=λq z=>by rw[z,E]at q;cases q
 refine⟨?_,?_,?_,by rw[Bk.wR];exact h.len,by rw[Bk.wR];exact h.clen,h.nd,h.cnd,h.las,h.lac,h.sac,λi w v B u m f=>?_⟩
 ·obtain⟨b,e⟩:=h.book;exact⟨b,by rw[yJ (s e)];exact e⟩
 ·rw[yJ (λz=>h.lac (by rw[z];exact l))];exact h.lst
 ·rw[yJ (λz=>h.sac (by rw[z];exact l))];exact h.sht
 ·rw[Bk.wC]at f;by_cases e:i=k
  ·subst e;rw[if_pos rfl,p]at f;cases f;rw[g]at m;cases m;obtain⟨⟨b,d⟩,y⟩:=h.row i w c r u g p;exact⟨⟨b,by rw[yJ (s d)];exact d⟩,yB⟩
  ·rw[if_neg e]at f;obtain⟨⟨b,d⟩,y⟩:=h.row i w v B u m f;have o:v≠c:=λz=>by
    subst z;obtain⟨D,t⟩:=cXn.mp m;obtain⟨F,n⟩:=cXn.mp g;exact e ((cZ5 h.cnd).mp (t.trans n.symm))
   exact⟨⟨b,by rw[yJ (s d)];exact d⟩,by rw[yJ o];exact y⟩
def PB.shutD(h:PB CB CL H ba la sa ls cs R S)(d:Int):PB CB CL (upd H sa (.lst ((S++ [d]).map V.int))) ba la sa ls cs R (S++ [d]):=by
 have g:∀ {a C dx fs},H a=some (.ins C dx fs)->a≠sa:=λq z=>by rw[z,h.sht]at q;cases q
 refine⟨?_,?_,yB,h.len,h.clen,h.nd,h.cnd,h.las,h.lac,h.sac,λi n o j m c k=>?_⟩
 ·obtain⟨b,e⟩:=h.book;exact⟨b,by rw[yJ (g e)];exact e⟩
 ·rw[yJ h.las];exact h.lst
 ·obtain⟨⟨b,f⟩,l⟩:=h.row i n o j m c k;exact⟨⟨b,by rw[yJ (g f)];exact f⟩,by rw[yJ (λz=>h.sac (by rw[<- z];exact cXs c))];exact l⟩
def PB.enter(h:PB CB CL H ba la sa ls cs R S)(hl:H l=none)(g:H c=none)(M:l≠c)(L:r.copies= [])(J:u l=some (.ins CL dx (aJy R.length r c)))(O:u c=some (.lst [])) (k:∀b o,H b=some o->u b=some o):PB CB CL (upd u la (.lst ((ls++ [l]).map V.ref))) ba la sa (ls++ [l]) (cs++ [c]) (R++ [r]) S:=by
 have w:l≠la:=λz=>by rw[z,h.lst]at hl;cases hl
 have m:c≠la:=λz=>by rw[z,h.lst]at g;cases g
 have G:∀ {a C dx fs},H a=some (.ins C dx fs)->a≠la:=λq z=>by rw[z,h.lst]at q;cases q
 have I:∀i b,ls[i]? =some b->i<R.length:=λi b q=>by rw[<- h.len];exact(cXn.mp q).1
 have nl:l∉ls:=λz=>by obtain⟨i,f,e⟩:=cX2 z;obtain⟨y,x,s,p,A,⟨d,E⟩,F⟩:=h.get (cQ9 (show i<R.length by rw[<- h.len];exact f));rw[cQ9 f,e]at p;cases p;rw[E]at hl;cases hl
 have N:c∉cs:=λz=>by obtain⟨i,f,e⟩:=cX2 z;obtain⟨y,x,s,p,A,E,F⟩:=h.get (cQ9 (show i<R.length by rw[<- h.clen];exact f));rw[cQ9 f,e]at A;cases A;rw[F]at g;cases g
 refine⟨?_,yB,?_,by simp[h.len],by simp[h.clen],?_,?_,h.las,?_,?_,λi y x K t n j=>?_⟩
 ·obtain⟨d,e⟩:=h.book;exact⟨d,by rw[yJ (G e)];exact k _ _ e⟩
 ·rw[yJ (cXT h.las)];exact k _ _ h.sht
 ·exact cJJ.mpr ⟨h.nd,cZD _ _,λa B b D z=>nl (by rw[<- cXo.mp D,<- z];exact B)⟩
 ·exact cJJ.mpr ⟨h.cnd,cZD _ _,λa B b D z=>N (by rw[<- cXo.mp D,<- z];exact B)⟩
 ·intro z;rcases cXH.mp z with z|z
  ·exact h.lac z
  ·exact m (cXo.mp z).symm
 ·intro z;rcases cXH.mp z with z|z
  ·exact h.sac z
  ·rw[<- cXo.mp z,h.sht]at g;cases g
 ·by_cases f:i<R.length
  ·rw[cXU (by rw[h.len];exact f)]at t;rw[cXU (by rw[h.clen];exact f)]at n;rw[cXU f]at j;obtain⟨⟨d,s⟩,p⟩:=h.row i y x K t n j;exact⟨⟨d,by rw[yJ (G s)];exact k _ _ s⟩,by rw[yJ (λz=>h.lac (by rw[<- z];exact cXs n))];exact k _ _ p⟩
  ·have v:i=R.length:=by
    have:=(cXn.mp j).1;simp at this;omega
   subst v;rw[cXz (by rw[h.len];exact cXh _),h.len,cZz]at t;rw[cXz (by rw[h.clen];exact cXh _),h.clen,cZz]at n;rw[cXz (cXh _),cZz]at j;cases t;cases n;cases j;exact⟨⟨dx,by rw[yJ w];exact J⟩,by rw[yJ m,O,L];rfl⟩
end
inductive aV7(CB:Nat)(vs:List V)(H:Hp)(Q:VK)(h:XK):Prop|mk(x dx:Nat)(h:vs= [.ref x])(h:H x=some (.ins CB dx []))(h:∀ (la sa:Nat)(H':Hp),H la=none->H sa=none->la≠sa->H' x=some (.ins CB dx [(Ao,.ref la),(Ai,.ref sa)])->H' la=some (.lst [])->H' sa=some (.lst [])->(∀b,b≠x->b≠la->b≠sa->H' b=H b)->Q .non H')
inductive bKk(CB CL:Nat)(vs:List V)(H:Hp)(Q:VK)(h:XK):Prop|mk(ba la sa:Nat)(ls cs:List Nat)(R:Rows)(S:List Int)(way:Str)(d:Int)(who:Str)(t:Int)(h:vs= [.ref ba,.str way,.int d,.str who,.int t])(h:PB CB CL H ba la sa ls cs R S)(h:R.length<=1000)(h:∀ (l c:Nat)(H':Hp),H l=none->H c=none->PB CB CL H' ba la sa (ls++ [l]) (cs++ [c]) (R++ [⟨way,d,who,t,none,"",false,[]⟩]) S->(∀b o,b≠la->H b=some o->H' b=some o)->Q (.ref l) H')
inductive aZ2(K:cXc)(Rf:Nat×Nat)(vs:List V)(H:Hp)(Q:VK)(E:XK):Prop|mk(t:Int)(h:vs= [.int t])(h:(0<=t->Q .non H))(h:(t<0->xS K Rf H E "no term"))
inductive aZ1(K:cXc)(Rf:Nat×Nat)(vs:List V)(H:Hp)(Q:VK)(E:XK):Prop|mk(a b:Int)(h:vs= [.int a,.int b])(h:(a<=b->Q .non H))(h:(b<a->xS K Rf H E "too early"))
section
variable {K:cXc}
abbrev bQ1:Stmt:=xQ Aj AF
abbrev cQj:Stmt:=xQ Aj Bp
abbrev bXe:Stmt:=xM B7
abbrev bQ5:Stmt:=xM B8
def bJw:yO [AA] [AA] (yH bQ1):=scM
def bZR(cl:Cl K CB CL)(F:Fun K AF "Book.__init__" bQ1 f fd):xL P w K mg base CX0 (n+1) f fd [AA] (aV7 CB):=by
 have r:=bJw;refine F.ok (k:=n) r (λt A outer s H v Q E u h=>?_);obtain⟨x,j,rfl,m,q⟩:=h;refine⟨_,(yC (wL (pv 0) (xB yD) rfl) (yF (wL (pv 0) (xB yD) rfl))),?_⟩;refine⟨z0,λla g=>?_⟩;have c:x≠la:=yI m g;refine⟨_,Ce,x,CB,j,_,Ce,(yJ c).trans m,cl.b,cl.letters,(show 0<1000 by decide),?_⟩;refine⟨z0,λsa a=>?_⟩;have d:x≠sa:=yI yB a;have e:la≠sa:=λz=>by rw[<- z,yJ (cXT c),yB]at a;cases a
 refine⟨_,Ce,x,CB,j,_,Ce,(yJ d).trans yB,cl.b,cl.shut,(show 1<1000 by decide),?_⟩;have i:H sa=none:=by rw[yJ (cXT d),yJ (cXT e)]at a;exact a
 refine q la sa _ g i e yB ?_ ?_ λb l p o=>?_
 ·rw[yJ (cXT c),yJ e,yJ (cXT c),yB]
 ·rw[yJ (cXT d),yB]
 ·rw[yJ l,yJ o,yJ l,yJ p]
def bYr:yO [AA,Bb,Ab,Ac,AU,AM] [AA,Bb,Ab,Ac,AU] (yH cQj):=scM
def bK6(T:uK mg)(cl:Cl K CB CL)(a:MkG P w K mg base n CH CL [AA,AD,Bb,Ab,Ac,AU] (bXJ CL))(F:Fun K Bp "Book.add_letter" cQj f fd): xL P w K mg base CX0 (n+2) f fd [AA,Bb,Ab,Ac,AU] (bKk CB CL):=by
 have W:=bYr;refine F.ok (k:=n+1) W (λY A outer s H vs Q E N h=>?_);obtain⟨ba,la,sa,ls,cs,R,S,u,d,B,t,rfl,l,hR,q⟩:=h;refine⟨_,(yC (yU (i:=5) (cQf a N rfl (yA (yR yN rfl T.b_len xG (yA (xC (pv 0) rfl) yD)) (yA (pv 1) (yA (pv 2) (yA (pv 3) (yA (pv 4) yD))))))) (yC (yZ (jD cXF cXP cXQ xR (xC (pv 0) rfl) (yA (pv 5) yD))) (yF (yP (pv 5))))),?_⟩;obtain⟨I,J⟩:=l.book;have hl:(ls.map V.ref).length=R.length:=by rw[cXe];exact l.len
 refine⟨_,Ce,ba,CB,I,_,_,Ce,J,cl.b,cl.letters,Ce,la,_,Ce,.inl (Cc l.lst),?_⟩;rw[hl];refine⟨_,Ce,_,Ce,_,Ce,_,Ce,λx xd v y G=>?_⟩;refine⟨x,xd,R.length,u,d,B,t,Ce,yB,λc Z j M U L=>⟨rfl,?_⟩⟩;dsimp only[yW];have m:c≠x:=λz=>by rw[z,yB]at j;cases j
 have D:c≠xd:=λz=>by rw[z,yJ G,yB]at j;cases j
 have g:H c=none:=by rw[yJ m,yJ D]at j;exact j
 have r:∀b o,H b=some o->Z b=some o:=λb o e=>by have b1:=yI e v;have X:=yI e g;have O:=yI e y;rw[L b b1 X,yJ b1,yJ O];exact e
 refine⟨_,Ce,ba,CB,I,_,_,Ce,r _ _ J,cl.b,cl.letters,Ce,.inl ⟨rfl,_,Cc (r _ _ l.lst)⟩,_,Ce,la,_,_,Ce,Ce,r _ _ l.lst,zlt (by omega),?_⟩;refine⟨_,Ce,?_⟩;have p:=l.enter v g (cXT m) rfl M U r;rw[cZy]at p;refine q x c _ v g p λb o C e=>?_;rw[yJ C];exact r b o e
def bJK:yO [AU] [AU] (yH bXe):=scM
def bZ5(a:ExG P w K mg base n "NoTerm" Rf.1 C1 "no term")(F:Fun K B7 B7 bXe f fd):xL P w K mg base (CXR P w) (n+2) f fd [AU] (aZ2 K Rf):=by
 have d:=bJK;refine F.okX (k:=n+1) d (λg A outer s H i Q E b h=>?_);obtain⟨t,rfl,q,e⟩:=h;refine⟨_,(yF (xA (yM uN (pv 0) yG) (yF (vD a b rfl)) yS)),?_⟩;refine⟨_,Ce,_,_,Ce,Ce,_,Ce,?_⟩;refine X4 (λc=>?_) (λc=>?_)
 ·exact(e (of_decide_eq_true c)).raise a
 ·exact q (by have:=of_decide_eq_false (Bool.eq_false_iff.mpr c);omega)
def bJA:yO [BE,BF] [BE,BF] (yH bQ5):=scM
def bZV(d:ExG P w K mg base n "TooEarly" Rf.1 C1 "too early")(F:Fun K B8 B8 bQ5 f fd):xL P w K mg base (CXR P w) (n+2) f fd [BE,BF] (aZ1 K Rf):=by
 have i:=bJA;refine F.okX (k:=n+1) i (λj A outer s H l Q E e h=>?_);obtain⟨a,b,rfl,q,g⟩:=h;refine⟨_,(yF (xA (yM uN (pv 1) (pv 0)) (yF (vD d e rfl)) yS)),?_⟩;refine⟨_,Ce,_,Ce,_,_,Ce,Ce,_,Ce,?_⟩;refine X4 (λc=>?_) (λc=>?_)
 ·exact(g (of_decide_eq_true c)).raise d
 ·exact q (by have:=of_decide_eq_false (Bool.eq_false_iff.mpr c);omega)
end
end Desk
namespace Desk
open PySem L2 PyProof.Rows
open Bk (Row Rows)
def uP(o:List Nat)(H a:Hp):Prop:=∀b u,b∉o->H b=some u->a b=some u
def uP.of(k:xJ H a):uP o H a:=λb u _ e=>k b u e
def uP.trans(a:uP o H f)(b:uP o f d):uP o H d:=λc u n e=>b c u n (a c u n e)
def uP.upd(a:b∈o)(u:HO):uP o H (upd H b u):=λc v n e=>by
 rw[yJ (λz=>n (by rw[z];exact a))];exact e
def uP.t(k:uP o H a):Q5 o H a:=λb u n _ e=>k b u n e
def Z6(H:Hp)(o a:List Nat):Prop:=∀b∈a,b∈o\/H b=none
def Z6.refl:Z6 H o o:=λb h=> .inl h
def Z6.snoc(hl:H l=none)(a:H c=none):Z6 H (own la sa ls cs) (own la sa (ls++ [l]) (cs++ [c])):=λb h=>by
 rcases cXj.mp h with e|h
 ·exact .inl (by rw[e];exact aWx)
 rcases cXj.mp h with e|h
 ·exact .inl (by rw[e];exact bQK)
 rcases cXH.mp h with h|h
 ·rcases cXH.mp h with h|h
  ·exact .inl (aVG h)
  ·exact .inr (by rw[cXo.mp h];exact hl)
 ·rcases cXH.mp h with h|h
  ·exact .inl (bWG h)
  ·exact .inr (by rw[cXo.mp h];exact a)
def aZ4(g CL f la sa:Nat)(ls cs:List Nat)(H:Hp)(d:Rows)(e:List Int)(q:Hp->Prop):Prop:=∀ (c:Hp)(a b:List Nat),PB g CL c f la sa a b d e->uP (own la sa ls cs) H c->Z6 H (own la sa ls cs) (own la sa a b)->q c
def bK2(i:Nat)(r:Row)(c:Nat)(t:Int):List (Str×V):=
 [(AD,.int (i:Nat)),(Bb,.str r.way),(Ab,.int r.date),(Ac,.str r.partner),(AU,.int t),(Cb,zY r.link),(BV,W6 r),(BK,.ref c),(Ay,.bl r.void)]
inductive bXI(K:cXc)(Rf:Nat×Nat)(CB CL:Nat)(vs:List V)(H:Hp)(Q:VK)(E:XK):Prop|mk(ba la sa:Nat)(ls cs:List Nat)(R:Rows)(S:List Int)(way:Str)(d:Int)(who:Str)(t:Int)(h:vs= [.ref ba,.str way,.int d,.str who,.int t])(h:PB CB CL H ba la sa ls cs R S)(h:R.length<=1000)(h:(0<=t->aZ4 CB CL ba la sa ls cs H (R++ [⟨way,d,who,t,none,"",false,[]⟩]) S (Q (.int (R.length:Nat)))))(h:(t<0->xS K Rf H E "no term"))
inductive bXN(K:cXc)(Rf:Nat×Nat)(CB CL:Nat)(vs:List V)(H:Hp)(Q:VK)(E:XK):Prop|mk(ba la sa:Nat)(ls cs:List Nat)(R:Rows)(S:List Int)(m d t:Int)(h:vs= [.ref ba,.int m,.int d,.int t])(h:PB CB CL H ba la sa ls cs R S)(h:R.length<=1000)(h:(Bk.vU R m=false->xS K Rf H E "no letter"))(h:(Bk.vU R m=true->t<0->xS K Rf H E "no term"))(h:∀ (k:Nat)(r:Row),m=(k:Int)->R[k]? =some r->r.void=false->0<=t->(d<r.date->xS K Rf H E "too early")/\(r.date<=d->aZ4 CB CL ba la sa ls cs H (R++ [⟨Bk.qJ r.way,d,r.partner,t,some k,r.place,false,[]⟩]) S (Q (.int (R.length:Nat)))))
inductive aWV(K:cXc)(Rf:Nat×Nat)(CB CL:Nat)(vs:List V)(H:Hp)(Q:VK)(E:XK):Prop|mk(ba la sa:Nat)(ls cs:List Nat)(R:Rows)(S:List Int)(m:Int)(h:vs= [.ref ba,.int m])(h:PB CB CL H ba la sa ls cs R S)(h:(Bk.vU R m=false->xS K Rf H E "no letter"))(h:∀ (k:Nat)(r:Row),m=(k:Int)->R[k]? =some r->r.void=false->(r.link=none->xS K Rf H E "has none")/\(r.link≠none->aZ4 CB CL ba la sa ls cs H (Bk.xV R k λr=>{r with link:=none}) S (Q .non)))
inductive aJZ(K:cXc)(Rf:Nat×Nat)(CB CL:Nat)(vs:List V)(H:Hp)(Q:VK)(E:XK):Prop|mk(ba la sa:Nat)(ls cs:List Nat)(R:Rows)(S:List Int)(m t:Int)(h:vs= [.ref ba,.int m,.int t])(h:PB CB CL H ba la sa ls cs R S)(h:(Bk.vU R m=false->xS K Rf H E "no letter"))(h:∀ (k:Nat)(r:Row),m=(k:Int)->R[k]? =some r->r.void=false->(t<0->xS K Rf H E "no term")/\(0<=t->aZ4 CB CL ba la sa ls cs H (Bk.xV R k λr=>{r with term:=t}) S (Q .non)))
inductive bVB(K:cXc)(Rf:Nat×Nat)(CB CL:Nat)(vs:List V)(H:Hp)(Q:VK)(E:XK):Prop|mk(ba la sa:Nat)(ls cs:List Nat)(R:Rows)(S:List Int)(m:Int)(who:Str)(h:vs= [.ref ba,.int m,.str who])(h:PB CB CL H ba la sa ls cs R S)(h:(∀r∈R,r.copies.length<=1000))(h:(Bk.vU R m=false->xS K Rf H E "no letter"))(h:∀ (k:Nat)(r:Row),m=(k:Int)->R[k]? =some r->r.void=false->(who=r.partner\/who∈r.copies->xS K Rf H E CW)/\(who≠r.partner->who∉r.copies->aZ4 CB CL ba la sa ls cs H (Bk.xV R k λr=>{r with copies:=r.copies++ [who] }) S (Q (.int ((r.copies.length:Nat)+1)))))
inductive aWO(K:cXc)(Rf:Nat×Nat)(CB CL:Nat)(vs:List V)(H:Hp)(Q:VK)(E:XK):Prop|mk(ba la sa:Nat)(ls cs:List Nat)(R:Rows)(S:List Int)(m:Int)(h:vs= [.ref ba,.int m])(h:PB CB CL H ba la sa ls cs R S)(h:R.length<=100)(h:(Bk.vU R m=false->xS K Rf H E "no letter"))(h:∀ (k:Nat)(r:Row),m=(k:Int)->R[k]? =some r->r.void=false->(Bk.wY R k≠ []->xS K Rf H E B4)/\(Bk.wY R k= []->aZ4 CB CL ba la sa ls cs H (Bk.xV R k λr=>{r with link:=none,void:=true}) S (Q .non)))
inductive bVC(K:cXc)(Rf:Nat×Nat)(CB CL:Nat)(vs:List V)(H:Hp)(Q:VK)(E:XK):Prop|mk(ba la sa:Nat)(ls cs:List Nat)(R:Rows)(S:List Int)(d:Int)(h:vs= [.ref ba,.int d])(h:PB CB CL H ba la sa ls cs R S)(h:S.length<=1000)(h:(Dm.cts S d=false->xS K Rf H E "counts not"))(h:(Dm.cts S d=true->aZ4 CB CL ba la sa ls cs H R (S++ [d]) (Q .non)))
inductive aWW(K:cXc)(Rf:Nat×Nat)(CB CL:Nat)(vs:List V)(H:Hp)(Q:VK)(E:XK):Prop|mk(ba la sa:Nat)(ls cs:List Nat)(R:Rows)(S:List Int)(m d:Int)(h:vs= [.ref ba,.int m,.int d])(h:PB CB CL H ba la sa ls cs R S)(h:R.length<=100)(h:Bk.Z7 R)(h:(Bk.vU R m=false->xS K Rf H E "no letter"))(h:∀ (k:Nat)(r:Row),m=(k:Int)->R[k]? =some r->r.void=false->(((∃j,r.link=some j/\d<Bk.dt R j)\/∃c∈Bk.wY R k,Bk.dt R c<d)->xS K Rf H E "too early")/\((∀j,r.link=some j->Bk.dt R j<=d)->(∀c∈Bk.wY R k,d<=Bk.dt R c)->aZ4 CB CL ba la sa ls cs H (Bk.xV R k λr=>{r with date:=d}) S (Q .non)))
def aYn(R:Rows)(r:Row)(f:Row->Row):Bk.xV (R++ [r]) R.length f=R++ [f r]:=by
 apply cJp;intro i;rw[Bk.wC];by_cases e:i=R.length
 ·subst e;rw[if_pos rfl,cXz (cXh _),cXz (cXh _),cZz];rfl
 ·rw[if_neg e];by_cases h:i<R.length
  ·rw[cXU h,cXU h]
  ·rw[cXM (by simp;omega),cXM (by simp;omega)]
section
variable {K:cXc}
abbrev bQ7:Stmt:=xQ Aj "enter"
abbrev bXc:Stmt:=xQ Aj Bg
abbrev aVS:Stmt:=xQ Aj "loosen"
abbrev aZQ:Stmt:=xQ Aj "put_term"
abbrev bWZ:Stmt:=xQ Aj "send_copy"
abbrev aVO:Stmt:=xQ Aj "cancel"
abbrev bW0:Stmt:=xQ Aj "shut_day"
abbrev aVT:Stmt:=xQ Aj "put_day"
def bJC:yO [AA,Bb,Ab,Ac,AU] [AA,Bb,Ab,Ac,AU] (yH bQ7):=scM
def bZX(cl:Cl K CB CL)(g:FnX P w K mg base n B7 [AU] (aZ2 K Rf))(a:MG P w K mg base CX0 n CB Bp [AA,Bb,Ab,Ac,AU] (bKk CB CL)) (F:Fun K "enter" "Book.enter" bQ7 f fd):xL P w K mg base (CXR P w) (n+1) f fd [AA,Bb,Ab,Ac,AU] (bXI K Rf CB CL):=by
 have O:=bJC;refine F.okX (k:=n) O (λV A outer s H X Q E r h=>?_);obtain⟨x,J,U,y,v,R,S,m,d,o,t,rfl,j,hR,q,L⟩:=h;refine⟨_,(yC (yZ (aXo g r rfl (yA (pv 4) yD))) (yF (yP (xC (jE a r uU (pv 0) (yA (pv 1) (yA (pv 2) (yA (pv 3) (yA (pv 4) yD))))) rfl)))),?_⟩;obtain⟨B,M⟩:=j.book;refine⟨_,Ce,t,Ce,λG=>?_,L⟩;refine⟨_,Ce,x,B,_,Ce,M,Ce,_,Ce,_,Ce,_,Ce,_,Ce,x,J,U,y,v,R,S,m,d,o,t,Ce,j,hR,λl c W hl I i T=>?_⟩;have D:(y++ [l])[R.length]? =some l:=by rw[<- j.len,cXz (cXh _),cZz];rfl
 have N:(v++ [c])[R.length]? =some c:=by rw[<- j.clen,cXz (cXh _),cZz];rfl
 obtain⟨⟨p,C⟩,Y⟩:=i.row R.length l c _ D N (by rw[cXz (cXh _),cZz];rfl);exact⟨l,CL,p,_,_,Ce,C,cl.l,cl.number,Ce,q G W _ _ i (λb u n e=>T b u (λz=>n (by rw[z];exact aWx)) e) (Z6.snoc hl I)⟩
def bJH:yO [AA,AD,Ab,AU,CZ,AM] [AA,AD,Ab,AU] (yH bXc):=scM
def W7{R:Rows}{k:Nat}{r:Row}(b:R[k]? =some r)(a:r.void=false):Bk.vU R (k:Int)=true:=by rw[aJo b,a];rfl
def aZu(a:r.void=false):W6 r= .str r.place:=by unfold W6;rw[a];rfl
def bJY(a:r.void=false):aQs r=r.term:=by unfold aQs;rw[a];rfl
def bZ2(cl:Cl K CB CL)(o:MG P w K mg base (CXR P w) n CB Ad [AA,AD] (aWM K Rf CB CL))(j:FnX P w K mg base n B7 [AU] (aZ2 K Rf)) (g:FnX P w K mg base n B8 [BE,BF] (aZ1 K Rf)) (p:FnG P w K mg base n C9 [Bb] bXL) (a:MG P w K mg base CX0 n CB Bp [AA,Bb,Ab,Ac,AU] (bKk CB CL)) (F:Fun K Bg "Book.reply" bXc f fd):xL P w K mg base (CXR P w) (n+1) f fd [AA,AD,Ab,AU] (bXN K Rf CB CL):=by
 have sc:=bJH;refine F.okX (k:=n) sc (λa0 A outer s H vs Q E G h=>?_);obtain⟨I,N,sa,L,J,R,S,m,d,t,rfl,y,hR,q1,q2,q3⟩:=h;refine⟨_,(yC (yU (i:=4) (jE o G wX (pv 0) (yA (pv 1) yD))) (yC (yZ (aXo j G rfl (yA (pv 3) yD))) (yC (yZ (aXo g G rfl (yA (xC (pv 4) rfl) (yA (pv 2) yD)))) (yC (yU (i:=5) (jE a G uU (pv 0) (yA (xU p G rfl (yA (xC (pv 4) rfl) yD)) (yA (pv 2) (yA (xC (pv 4) rfl) (yA (pv 3) yD)))))) (yC (wL (pv 5) (pv 1) rfl) (yC (wL (pv 5) (xC (pv 4) rfl) rfl) (yF (yP (xC (pv 5) rfl))))))))),?_⟩;obtain⟨M,hb⟩:=y.book;refine⟨_,Ce,I,M,_,Ce,hb,Ce,_,Ce,I,N,sa,L,J,R,S,m,Ce,y,λk r b em W Z V=>?_,q1⟩;subst em;obtain⟨U,cc,g1,g2,g3,⟨q,B⟩,g5⟩:=y.get W;obtain rfl:b=U:=cXv (V.symm.trans g2);dsimp only[yW];refine⟨_,Ce,t,Ce,λX=>?_,λX=>q2 (W7 W Z) X⟩;obtain⟨q4,q5⟩:=q3 k r rfl W Z X;refine⟨_,Ce,b,CL,q,_,_,Ce,B,cl.l,cl.day,Ce,_,Ce,r.date,d,Ce,λhd=>?_,q4⟩;refine⟨_,Ce,I,M,_,Ce,hb,Ce,_,Ce,b,CL,q,_,_,Ce,B,cl.l,cl.way,Ce,r.way,Ce,_,Ce,_,Ce,b,CL,q,_,_,Ce,B,cl.l,cl.partner,Ce,_,Ce,I,N,sa,L,J,R,S,Bk.qJ r.way,d,r.partner,t,Ce,y,hR,λl c H1 hl hc C k1=>?_⟩;dsimp only[yW];have h1:(L++ [l])[R.length]? =some l:=by rw[<- y.len,cXz (cXh _),cZz];rfl
 have h2:(J++ [c])[R.length]? =some c:=by rw[<- y.clen,cXz (cXh _),cZz];rfl
 have h3:(R++ [(⟨Bk.qJ r.way,d,r.partner,t,none,"",false,[]⟩:Row)])[R.length]? =some ⟨Bk.qJ r.way,d,r.partner,t,none,"",false,[]⟩:=by rw[cXz (cXh _),cZz];rfl
 obtain⟨⟨v,f1⟩,f2⟩:=C.row R.length l c _ h1 h2 h3;refine⟨_,Ce,_,Ce,l,CL,v,_,Ce,f1,cl.l,cl.link,(show 9<1000 by decide),?_⟩;have T:b≠l:=yI B hl;have Y:b≠N:=λz=>by rw[z,y.lst]at B;cases B
 have O:upd H1 l (.ins CL v (aX2 Cb (.int (k:Nat)) (aJy R.length ⟨Bk.qJ r.way,d,r.partner,t,none,"",false,[]⟩ c))) b=some (.ins CL q (aJy k r cc)):=(yJ T).trans (k1 _ _ Y B);refine⟨_,Ce,b,CL,q,_,_,Ce,O,cl.l,cl.file,Ce,_,Ce,l,CL,v,_,Ce,yB,cl.l,cl.file,(show 9<1000 by decide),?_⟩;rw[qP];refine⟨_,Ce,l,CL,v,_,_,Ce,yB,cl.l,cl.number,Ce,?_⟩;have D:=C.set (dx:=v) h1 h2 h3 (λx=>{x with link:=some k,place:=r.place}) rfl;rw[aYn]at D;have e9:aX2 BV (W6 r) (aX2 Cb (.int (k:Nat)) (aJy R.length ⟨Bk.qJ r.way,d,r.partner,t,none,"",false,[]⟩ c))=aJy R.length ⟨Bk.qJ r.way,d,r.partner,t,some k,r.place,false,[]⟩ c:=by rw[aZu Z];rfl
 refine q5 hd _ (L++ [l]) (J++ [c]) ?_ (λU u nb e=>?_) (Z6.snoc hl hc)
 ·rw[e9];exact D
 ·rw[yJ (λz=>by rw[z]at e;rw[hl]at e;cases e)];exact k1 U u (λz=>nb (by rw[z];exact aWx)) e
def bXt:yO [AA,AD,AM] [AA,AD] (yH aVS):=scM
def bQD(cl:Cl K CB CL)(c:MG P w K mg base (CXR P w) (n+1) CB Ad [AA,AD] (aWM K Rf CB CL))(a:ExG P w K mg base n "HasNone" Rf.1 C1 "has none") (F:Fun K "loosen" "Book.loosen" aVS f fd):xL P w K mg base (CXR P w) (n+2) f fd [AA,AD] (aWV K Rf CB CL):=by
 have T:=bXt;refine F.okX (k:=n+1) T (λV A outer s H Y Q E u h=>?_);obtain⟨v,B,U,O,I,R,S,m,rfl,g,N,J⟩:=h;refine⟨_,(yC (yU (i:=2) (jE c u wX (pv 0) (yA (pv 1) yD))) (yC (xA (yM aZb (xC (pv 2) rfl) zN) (yF (vD a u rfl)) yS) (yF (wL (pv 2) zN rfl)))),?_⟩;obtain⟨x,M⟩:=g.book;refine⟨_,Ce,v,x,_,Ce,M,Ce,_,Ce,v,B,U,O,I,R,S,m,Ce,g,λk r b L o G q=>?_,N⟩;obtain⟨C,Z,W,p,D,⟨e,t⟩,X⟩:=g.get o;obtain rfl:b=C:=cXv (q.symm.trans p);obtain⟨y,z⟩:=J k r L o G;dsimp only[yW];refine⟨_,Ce,b,CL,e,_,_,Ce,t,cl.l,cl.link,Ce,Ce,_,Ce,?_⟩;cases d:r.link with
 |none=>exact onT rfl ((y d).raise a)
 |some j=>refine onF rfl ⟨_,Ce,b,CL,e,_,Ce,t,cl.l,cl.link,(show 9<1000 by decide),?_⟩;exact z (by rw[d];simp) _ _ _ (g.set p D o (λr=>{r with link:=none}) rfl) (uP.upd (aVG (cXs p)) _) Z6.refl
def aYj:yO [AA,AD,AU,AM] [AA,AD,AU] (yH aZQ):=scM
def aKW(cl:Cl K CB CL)(c:MG P w K mg base (CXR P w) n CB Ad [AA,AD] (aWM K Rf CB CL))(a:FnX P w K mg base n B7 [AU] (aZ2 K Rf)) (F:Fun K "put_term" "Book.put_term" aZQ f fd):xL P w K mg base (CXR P w) (n+1) f fd [AA,AD,AU] (aJZ K Rf CB CL):=by
 have V:=aYj;refine F.okX (k:=n) V (λX A outer s H vs Q E q h=>?_);obtain⟨v,D,W,U,J,R,S,m,t,rfl,d,T,L⟩:=h;refine⟨_,(yC (yU (i:=3) (jE c q wX (pv 0) (yA (pv 1) yD))) (yC (yZ (aXo a q rfl (yA (pv 2) yD))) (yF (wL (pv 3) (pv 2) rfl)))),?_⟩;obtain⟨x,O⟩:=d.book;refine⟨_,Ce,v,x,_,Ce,O,Ce,_,Ce,v,D,W,U,J,R,S,m,Ce,d,λk r b N e u p=>?_,T⟩;obtain⟨G,g,Y,o,I,⟨j,y⟩,Z⟩:=d.get e;obtain rfl:b=G:=cXv (p.symm.trans o);obtain⟨z,C⟩:=L k r N e u;dsimp only[yW];refine⟨_,Ce,t,Ce,λB=>?_,z⟩;refine⟨_,Ce,_,Ce,b,CL,j,_,Ce,y,cl.l,cl.term,(show 9<1000 by decide),?_⟩;have M:aX2 AU (.int t) (aJy k r g)=aJy k {r with term:=t} g:=by show bK2 k {r with term:=t} g t=_;unfold bK2 aJy;rw[bJY (r:={r with term:=t}) u]
 rw[M];exact C B _ _ _ (d.set o I e (λr=>{r with term:=t}) rfl) (uP.upd (aVG (cXs o)) _) Z6.refl
def bKd:yO [AA,AD,Be,AM] [AA,AD,Be] (yH bWZ):=scM
def bWA(T:uK mg)(cl:Cl K CB CL)(e:MG P w K mg base (CXR P w) (n+1) CB Ad [AA,AD] (aWM K Rf CB CL))(a:MG P w K mg base CX0 (n+1) CL CI [AA,Be] (bVw CL))(d:ExG P w K mg base n "Copied" Rf.1 C1 CW) (F:Fun K "send_copy" "Book.send_copy" bWZ f fd):xL P w K mg base (CXR P w) (n+2) f fd [AA,AD,Be] (bVB K Rf CB CL):=by
 have sc:=bKd;refine F.okX (k:=n+1) sc (λa0 A outer s H vs Q E x h=>?_);obtain⟨G,M,sa,ls,U,R,S,m,g,rfl,t,v,q1,W⟩:=h;refine⟨_,(yC (yU (i:=3) (jE e x wX (pv 0) (yA (pv 1) yD))) (yC (xA (zA (jE a x uU (pv 3) (yA (pv 2) yD))) (yF (vD d x rfl)) yS) (yC (yZ (jD cXF cXP cXQ xR (xC (pv 3) rfl) (yA (pv 2) yD))) (yF (yP (yR yN rfl T.b_len xG (yA (xC (pv 3) rfl) yD))))))),?_⟩;obtain⟨I,hb⟩:=t.book;refine⟨_,Ce,G,I,_,Ce,hb,Ce,_,Ce,G,M,sa,ls,U,R,S,m,Ce,t,λk r b Z p O B=>?_,q1⟩;obtain⟨N,u,g1,g2,D,⟨j,o⟩,q⟩:=t.get p;obtain rfl:b=N:=cXv (B.symm.trans g2);obtain⟨J,L⟩:=W k r Z p O;have C:=v r (cXs p);dsimp only[yW];refine⟨_,Ce,b,j,_,Ce,o,Ce,_,Ce,b,k,r,u,g,Ce,⟨j,o⟩,q,_,Ce,?_⟩;refine X4 (λc=>?_) (λc=>?_)
 ·refine(J ?_).raise d;rw[Bool.or_eq_true,decide_eq_true_eq,cZR]at c;exact c
 ·rw[Bool.or_eq_true,decide_eq_true_eq,cZR,not_or]at c;have y:b≠u:=λz=>by rw[z,q]at o;cases o
  refine⟨_,Ce,b,CL,j,_,_,Ce,o,cl.l,cl.copies,Ce,.inl ⟨rfl,_,Cc q⟩,_,Ce,u,_,_,Ce,Ce,q,zlt (by rw[cXe];omega),?_⟩;refine⟨_,Ce,b,CL,j,_,_,Ce,(yJ y).trans o,cl.l,cl.copies,Ce,u,_,Ce,.inl (Cc yB),?_⟩;have Y:r.copies.map V.str++ [V.str g]=(r.copies++ [g]).map V.str:=by simp
  rw[Y];have X:((r.copies++ [g]).map V.str).length=r.copies.length+1:=by simp
  rw[X];exact L c.1 c.2 _ _ _ (t.copy D p g) (uP.upd (bWG (cXs D)) _) Z6.refl
def bXn:yO [AA,AD,AM] [AA,AD] (yH aVO):=scM
def bQx(T:uK mg)(cl:Cl K CB CL)(e:MG P w K mg base (CXR P w) (n+1) CB Ad [AA,AD] (aWM K Rf CB CL))(d:MG P w K mg base CX0 (n+1) CB Bn [AA,AM] (aV6 CB CL))(g:MG P w K mg base CX0 (n+1) CL "make_void" [AA] (bVD CL))(a:ExG P w K mg base n "Answered" Rf.1 C1 B4) (F:Fun K "cancel" "Book.cancel" aVO f fd):xL P w K mg base (CXR P w) (n+2) f fd [AA,AD] (aWO K Rf CB CL):=by
 have sc:=bXn;refine F.okX (k:=n+1) sc (λa0 A outer s H vs Q E q h=>?_);obtain⟨t,G,L,y,I,R,S,m,rfl,j,hR,q1,X⟩:=h;refine⟨_,(yC (yU (i:=2) (jE e q wX (pv 0) (yA (pv 1) yD))) (yC (xA (yM aX0 (yR yN rfl T.b_len xG (yA (jE d q uU (pv 0) (yA (pv 2) yD)) yD)) yG) (yF (vD a q rfl)) yS) (yF (yZ (bJg g q uU (pv 2)))))),?_⟩;obtain⟨C,J⟩:=j.book;refine⟨_,Ce,t,C,_,Ce,J,Ce,_,Ce,t,G,L,y,I,R,S,m,Ce,j,λk r b Y v W B=>?_,q1⟩;obtain⟨O,Z,g1,u,U,⟨o,D⟩,g5⟩:=j.get v;obtain rfl:b=O:=cXv (B.symm.trans u);obtain⟨M,N⟩:=X k r Y v W;dsimp only[yW];refine⟨_,Ce,t,C,_,Ce,J,Ce,_,Ce,t,G,L,y,I,R,S,k,b,Ce,j,u,hR,λl hl=>?_⟩;refine⟨l,_,Ce,.inl (Cc yB),_,_,Ce,Ce,_,Ce,?_⟩;have p:=yE hl (.lst ((Bk.wY R k).map λk=>(y.map V.ref).getD k .non));rw[cXe];refine X4 (λc=>?_) (λc=>?_)
 ·refine((M λz=>?_).go (aYw.of p)).raise a;have:=of_decide_eq_true c;rw[z]at this;simp at this
 ·have x:Bk.wY R k= []:=by
   have:=of_decide_eq_false (Bool.eq_false_iff.mpr c);exact cJs (by omega)
  refine⟨_,Ce,b,o,_,Ce,p _ _ D,Ce,b,o,k,r,Z,Ce,p _ _ D,?_⟩;exact N x _ _ _ ((j.same p).set u U v (λr=>{r with link:=none,void:=true}) rfl) ((uP.of p).trans (uP.upd (aVG (cXs u)) _)) Z6.refl
def bKe:yO [AA,Ab] [AA,Ab] (yH bW0):=scM
def bWB(cl:Cl K CB CL)(c:FnG P w K mg base (n+1) "counts" [Ai,Ap] (Days.aWR K))(a:ExG P w K mg base n "CountsNot" Rf.1 C1 "counts not") (F:Fun K "shut_day" "Book.shut_day" bW0 f fd):xL P w K mg base (CXR P w) (n+2) f fd [AA,Ab] (bVC K Rf CB CL):=by
 have t:=bKe;refine F.okX (k:=n+1) t (λu A outer s H z Q E i h=>?_);obtain⟨l,v,o,B,y,R,S,d,rfl,e,x,r,p⟩:=h;refine⟨_,(yC (xA (vI (zA (xU c i rfl (yA (xC (pv 0) rfl) (yA (pv 1) yD))))) (yF (vD a i rfl)) yS) (yF (yZ (jD cXF cXP cXQ xR (xC (pv 0) rfl) (yA (pv 1) yD))))),?_⟩;obtain⟨g,m⟩:=e.book;refine⟨_,Ce,l,CB,g,_,_,Ce,m,cl.b,cl.shut,Ce,_,Ce,o,S,d,Ce,Cc e.sht,_,Ce,?_⟩;cases j:Dm.cts S d with
 |false=>exact onT rfl ((r j).raise a)
 |true=>
  refine onF rfl ⟨_,Ce,l,CB,g,_,_,Ce,m,cl.b,cl.shut,Ce,.inl ⟨rfl,_,Cc e.sht⟩,_,Ce,o,_,_,Ce,Ce,e.sht,zlt (by rw[cXe];omega),?_⟩;have q:S.map V.int++ [V.int d]=(S++ [d]).map V.int:=by simp
  rw[q];exact p j _ _ _ (e.shutD d) (uP.upd bQK _) Z6.refl
def bXu:yO [AA,AD,Ab,AM,Bg] [AA,AD,Ab] (yH aVT):=scM
def bQE(cl:Cl K CB CL)(g:MG P w K mg base (CXR P w) n CB Ad [AA,AD] (aWM K Rf CB CL))(p:MG P w K mg base CX0 n CB Bn [AA,AM] (aV6 CB CL))(a:FnX P w K mg base n B8 [BE,BF] (aZ1 K Rf)) (F:Fun K "put_day" "Book.put_day" aVT f fd):xL P w K mg base (CXR P w) (n+1) f fd [AA,AD,Ab] (aWW K Rf CB CL):=by
 have sc:=bXu;refine F.okX (k:=n) sc (λa7 A outer s H vs Q E T h=>?_);obtain⟨y,la,sa,C,cs,R,S,m,d,rfl,B,hR,a4,q1,q2⟩:=h;refine⟨_,(yC (yU (i:=3) (jE g T wX (pv 0) (yA (pv 1) yD))) (yC (xA (yM vB (xC (pv 3) rfl) zN) (yF (yZ (aXo a T rfl (yA (xC (jE g T wX (pv 0) (yA (xC (pv 3) rfl) yD)) rfl) (yA (pv 2) yD))))) yS) (yC (wV PassesOwn.leaving rfl (xN (jE p T uU (pv 0) (yA (pv 3) yD))) (xI (i:=4)) (yF (yZ (aXo a T rfl (yA (pv 2) (yA (xC (pv 4) rfl) yD)))))) (yF (wL (pv 3) (pv 2) rfl))))),?_⟩;obtain⟨dx,hb⟩:=B.book;refine⟨_,Ce,y,dx,_,Ce,hb,Ce,_,Ce,y,la,sa,C,cs,R,S,m,Ce,B,λk r b em hk hv a3=>?_,q1⟩;obtain⟨b',cc,g1,g2,g3,⟨G,g4⟩,g5⟩:=B.get hk;obtain rfl:b=b':=cXv (a3.symm.trans g2);obtain⟨q3,q4⟩:=q2 k r em hk hv;dsimp only[yW];refine zX (λM H'=>M= [some (.ref y),some (.int m),some (.int d),some (.ref b),none]/\H'=H/\∀j,r.link=some j->Bk.dt R j<=d) ?_ λjn=>?_
 ·rintro M H' ⟨rfl,rfl,Z⟩;refine⟨_,Ce,y,dx,_,Ce,hb,Ce,_,Ce,y,la,sa,C,cs,R,S,k,b,Ce,B,g2,hR,λl hl=>?_⟩;have W:=yE hl (.lst ((Bk.wY R k).map λk=>(C.map V.ref).getD k .non));refine⟨l,Ce,⟨_,Cc yB⟩,?_⟩;refine zV (xs:=(Bk.wY R k).map λk=>(C.map V.ref).getD k .non) (λt σ H1=>∃o:Option V,σ= [some (.ref y),some (.int m),some (.int d),some (.ref b),o]/\H1=upd H' l (.lst ((Bk.wY R k).map λk=>(C.map V.ref).getD k .non))/\∀i c,i<t->(Bk.wY R k)[i]? =some c->d<=Bk.dt R c) ?_ ?_ ?_ ?_
  ·exact⟨none,Ce,Ce,λi c z=>absurd z (cZT _)⟩
  ·rintro t σ H1 ht ⟨o,rfl,rfl,hd⟩;exact Cc yB
  ·rintro t x σ H1 N ⟨o,rfl,rfl,hd⟩;rw[cXu]at N;cases J:(Bk.wY R k)[t]? with
   |none=>rw[J]at N;cases N
   |some c=>
    rw[J]at N;have Y:=cXs J;have a0:c<R.length:=cXI.mp (cZd.mp Y).1;have D:=cQ9 a0;obtain⟨bc,c2,f1,f2,f3,⟨a1,f4⟩,f5⟩:=(B.same W).get D;have ex:(C.map V.ref).getD c .non= .ref bc:=by simp only[cXW,f1];rfl
    obtain rfl:x= .ref bc:=by have z:=cXv N;rw[<- z];exact ex
    dsimp only[yW];refine⟨_,Ce,_,Ce,bc,CL,a1,_,_,Ce,f4,cl.l,cl.day,Ce,d,R[c].date,Ce,λq=>?_,λq=>?_⟩
    ·refine⟨_,Ce,Ce,λi c' hi I=>?_⟩;by_cases e:i=t
     ·subst e;rw[J]at I;cases I;rw[Bk.uL D];exact q
     ·exact hd i c' (by omega) I
    ·exact(q3 (.inr ⟨c,Y,by rw[Bk.uL D];exact q⟩)).go (aYw.of W)
  ·rintro σ H1 ⟨o,rfl,rfl,hd⟩;have O:∀c∈Bk.wY R k,d<=Bk.dt R c:=λc J=>by
    obtain⟨i,hi,e⟩:=cX2 J;exact hd i c (by rw[cXe];exact hi) (by rw[cQ9 hi,e])
   refine⟨_,Ce,_,Ce,b,CL,G,_,Ce,W _ _ g4,cl.l,cl.day,(show 9<1000 by decide),?_⟩;exact q4 Z O _ _ _ ((B.same W).set g2 g3 hk (λr=>{r with date:=d}) rfl) ((uP.of W).trans (uP.upd (aVG (cXs g2)) _)) Z6.refl
 ·refine⟨_,Ce,b,CL,G,_,_,Ce,g4,cl.l,cl.link,Ce,Ce,_,Ce,?_⟩;cases v:r.link with
  |none=>exact onF rfl (jn _ _ ⟨rfl,Ce,λj Z=>by rw[v]at Z;cases Z⟩)
  |some j=>
   obtain⟨qj,u,a5⟩:=a4.ans k j r hk v;obtain⟨bj,cj,f1,f2,f3,⟨a2,f4⟩,f5⟩:=B.get u;refine onT rfl ⟨_,Ce,y,dx,_,Ce,hb,Ce,_,Ce,b,CL,G,_,_,Ce,g4,cl.l,cl.link,Ce,?_⟩;rw[v];refine⟨y,la,sa,C,cs,R,S,(j:Nat),Ce,B,λk2 r2 b2 e2 X a6 U=>?_,λhg=>?_⟩
   ·obtain rfl:j=k2:=by omega
    rw[u]at X;cases X;rw[f2]at U;cases U;refine⟨bj,CL,a2,_,_,Ce,f4,cl.l,cl.day,Ce,_,Ce,qj.date,d,Ce,λq=>?_,λq=>?_⟩
    ·refine jn _ _ ⟨rfl,Ce,λj' L=>?_⟩;rw[v]at L;cases L;rw[Bk.uL u];exact q
    ·exact q3 (.inl ⟨j,v,by rw[Bk.uL u];exact q⟩)
   ·rw[W7 u a5.2.1]at hg;cases hg
end
end Desk
namespace Desk
open PySem L2 PyProof.Rows
open Bk (Row Rows)
open Thr (vG jC W4)
def bX2{R:Rows}(b:Bk.Z7 R){rk:Nat->Nat}(o:Fm.Ok R.length (Bk.lk R) rk)(e:i<R.length):∀r q,R[i]? =some r->R[Fm.tp (Bk.lk R) rk i]? =some q->r.void=q.void:=
 Fm.aZm o (P:=λi=>∀r q,R[i]? =some r->R[Fm.tp (Bk.lk R) rk i]? =some q->r.void=q.void)
  (λi _ h r q d c=>by rw[Fm.wO h,d]at c;cases c;rfl)
  (λi j e h g r q d c=>by
   rw[Bk.uM d]at h;obtain⟨k,f,a⟩:=b.ans i j r d h;rw[Fm.uX o e (by rw[Bk.uM d];exact h)]at c;rw[a.1,<- g k q f c,a.2.1]) (rk i) i (cXh _) e
def bJZ{R:Rows}(b:Bk.Z7 R){k j:Nat}(e:R[k]? =some r)(g:r.void=false)(h:j∈Bk.thr R k):∃q,R[j]? =some q/\q.void=false:=by
 obtain⟨l,o,_,i⟩:=Bk.Q2 b.tree k;obtain⟨a,d⟩:=(i j).mp h;have c:=Bk.wW e;have f:=(Fm.bX0 o c).1;refine⟨_,cQ9 a,?_⟩;rw[bX2 b o a _ _ (cQ9 a) (by rw[d];exact cQ9 f),<- bX2 b o c _ _ e (cQ9 f)];exact g
def bKt{R:Rows}(t:Bk.qQ R)(e:R[i]? =some r)(hl:r.link=none)(a:j<R.length):j∈Bk.thr R i↔(Bk.thr R j).head? =some i:=by
 obtain⟨h,o,g⟩:=Bk.Y5 t a;obtain⟨b,c,_,d⟩:=Bk.Q2 t i;rw[d j,g];have f:Fm.tp (Bk.lk R) b i=i:=Fm.wO (by rw[Bk.uM e];exact hl);rw[f,Fm.Z5 c o a];exact⟨λz=>by rw[z.2],λz=>⟨a,cXv z⟩⟩
inductive Y3(K:cXc)(Rf:Nat×Nat)(CB CL:Nat)(vs:List V)(H:Hp)(Q:VK)(E:XK):Prop|mk(ba la sa:Nat)(ls cs:List Nat)(R:Rows)(S:List Int)(m:Int)(h:vs= [.ref ba,.int m])(h:PB CB CL H ba la sa ls cs R S)(h:R.length<64)(h:Bk.qQ R)(h:vG Rf.2 H)(h:(Bk.vU R m=false->xS K Rf H E "no letter"))(h:∀ (k:Nat)(r:Row),m=(k:Int)->R[k]? =some r->r.void=false->∀ (H':Hp)(l:Nat),(∀b u,(∀ps,u≠HO.tbl ps)->H b=some u->b≠l)->zK H H'->vG Rf.2 H'->H' l=some (.lst ((Bk.thr R k).map λi=>V.int (i:Nat)))->Q (.ref l) H')
def bKy(T g CL f la sa:Nat)(ls cs:List Nat)(H:Hp)(d:Rows)(e:List Int)(q:Hp->Prop):Prop:=∀ (c:Hp)(a b:List Nat),PB g CL c f la sa a b d e->Q5 (own la sa ls cs) H c->Z6 H (own la sa ls cs) (own la sa a b)->vG T c->q c
inductive bKm(K:cXc)(Rf:Nat×Nat)(CB CL:Nat)(vs:List V)(H:Hp)(Q:VK)(E:XK):Prop|mk(ba la sa:Nat)(ls cs:List Nat)(R:Rows)(S:List Int)(m:Int)(name:Str)(h:vs= [.ref ba,.int m,.str name])(h:PB CB CL H ba la sa ls cs R S)(h:R.length<64)(h:Bk.Z7 R)(h:vG Rf.2 H)(h:(Bk.vU R m=false->xS K Rf H E "no letter"))(h:∀ (k:Nat)(r:Row),m=(k:Int)->R[k]? =some r->r.void=false->∀ (H':Hp),PB CB CL H' ba la sa ls cs (Bk.laid R (Bk.thr R k) name) S->Q5 (own la sa ls cs) H H'->vG Rf.2 H'->Q (.int ((Bk.thr R k).length:Nat)) H')
section
variable {K:cXc}
abbrev Q1:Stmt:=xQ Aj Bh
abbrev cQo:Stmt:=xQ Aj Bq
def aV4:yO [AA,AD,An,Ax] [AA,AD] (yH Q1):=scM
def aXg:xO [AA,AD,An,Ax] (yH Q1) AM [] [] (lsN [(".0",.local),(AM,.local)]):=
 lcM
def aVD(cl:Cl K CB CL)(c:MG P w K mg base (CXR P w) n CB Ad [AA,AD] (aWM K Rf CB CL))(d:FnG P w K mg base n B9 [An,Ax,AD] (Thr.aWY Rf.2)) (F:Fun K Bh "Book.thread_of" Q1 f fd):xL P w K mg base (CXR P w) (n+1) f fd [AA,AD] (Y3 K Rf CB CL):=by
 have sc:=aV4;refine F.okX (k:=n) sc (λa3 A outer s H vs Q E hr h=>?_);obtain⟨N,U,sa,ls,cs,R,S,m,rfl,B,hR,hT,tb,q1,q2⟩:=h;refine⟨_,(yC (yZ (jE c hr wX (pv 0) (yA (pv 1) yD))) (yC (aX1 (i:=2) aXg rfl sc.nd rfl rfl (xN (xC (pv 0) rfl)) (λ_ _ _ _ _=>wS) (λ_ _ _ _ _=>(aXn (K:=K) (pv 0) rfl))) (yC (aX1 (i:=3) aXg rfl sc.nd rfl rfl (xN (xC (pv 0) rfl)) (λ_ _ _ _ _=>wS) (λ_ _ _ _ _=>(aXn (K:=K) (pv 0) rfl))) (yF (yP (xU d hr rfl (yA (pv 2) (yA (pv 3) (yA (pv 1) yD))))))))),?_⟩;obtain⟨O,W⟩:=B.book;have hl:(ls.map V.ref).length=R.length:=by rw[cXe];exact B.len
 refine⟨_,Ce,N,O,_,Ce,W,Ce,_,Ce,N,U,sa,ls,cs,R,S,m,Ce,B,λk r b em hk q a2=>?_,q1⟩;subst em;have M:=Bk.wW hk;have x:(cXm R.length).filter (λ_=>true)=cXm R.length:=cJu.mpr λ_ _=>rfl;refine⟨_,Ce,N,CB,O,_,_,Ce,W,cl.b,cl.letters,Ce,U,Ce,⟨_,Cc B.lst⟩,λD T=>?_⟩;refine aKA (λ_=>true) (λi=>Thr.zY (Bk.lk R i)) (Cc B.lst) T (zn (by omega)) (λj v q X Z J a=>a) (λj v q _ X Z J a=>?_) ?_
 ·have Y:j<R.length:=by rw[<- hl];exact(cXn.mp q).1
  have g:=cQ9 Y;obtain⟨L,c2,p,G,k3,⟨z,I⟩,k5⟩:=B.get g;obtain rfl:v= .ref L:=cXv (q.symm.trans p);rw[Bk.uM g]at a;exact⟨_,Ce,L,CL,z,_,_,Ce,(J _ (yI I T)).trans I,cl.l,cl.link,Ce,a⟩
 rw[hl,x];dsimp only[yW];have p:=yE T (.lst ((cXm R.length).map λi=>Thr.zY (Bk.lk R i)));have y:=B.same p;refine⟨_,Ce,N,CB,O,_,_,Ce,p _ _ W,cl.b,cl.letters,Ce,U,Ce,⟨_,Cc y.lst⟩,λD2 C=>?_⟩;refine aKA (λ_=>true) (λi=>V.int (Bk.dt R i)) (Cc y.lst) C (zn (by omega)) (λj v q X Z J a=>a) (λj v q _ X Z J a=>?_) ?_
 ·have Y:j<R.length:=by rw[<- hl];exact(cXn.mp q).1
  have g:=cQ9 Y;obtain⟨L,c2,p,G,k3,⟨z,I⟩,k5⟩:=y.get g;obtain rfl:v= .ref L:=cXv (q.symm.trans p);rw[Bk.uL g]at a;exact⟨_,Ce,L,CL,z,_,_,Ce,(J _ (yI I C)).trans I,cl.l,cl.day,Ce,a⟩
 rw[hl,x];dsimp only[yW];have G:=yE C (.lst ((cXm R.length).map λi=>V.int (Bk.dt R i)));obtain⟨rk,o⟩:=hT;have a0:vG Rf.2 (upd (upd H D (.lst ((cXm R.length).map λi=>Thr.zY (Bk.lk R i)))) D2 (.lst ((cXm R.length).map λi=>V.int (Bk.dt R i)))):=by
  have kk:=p.trans G;rcases tb with t|⟨c',t1,t2⟩
  ·exact .inl (kk _ _ t)
  ·exact .inr ⟨c',kk _ _ t1,kk _ _ t2⟩
 refine⟨_,Ce,_,Ce,_,Ce,D,D2,R.length,Bk.lk R,rk,Bk.dt R,k,Ce,G _ _ yB,yB,o,by omega,M,a0,λH3 r3 a1 n3 k3 t3 h3 hp hm=>?_⟩;have e:=Bk.aZl M ⟨rk,o,hp,hm⟩;refine q2 k r rfl hk q H3 r3 (λb u nt e=>n3 b u nt ((p.trans G) _ _ e)) ((p.trans G).t.trans k3) t3 ?_;rw[e];exact h3
end
end Desk
namespace Desk
open PySem L2 PyProof.Rows
open Bk (Row Rows)
open Thr (vG jC W4)
def zC(t:vG T H)(k:uP o H d)(i:∀b∈o,∀u,H b=some u->(∃c,u= .lst c)\/∃C a fs,u= .ins C a fs):vG T d:=by
 have no:∀b u,H b=some u->(∀c,u≠ .lst c)->(∀C a fs,u≠ .ins C a fs)->b∉o:=λb u e h l z=>by
  rcases i b z u e with⟨c,q⟩|⟨C,a,fs,q⟩
  ·exact h _ q
  ·exact l _ _ _ q
 rcases t with t|⟨j,g,f⟩
 ·exact .inl (k _ _ (no _ _ t (by intro _ z;cases z) (by intro _ _ _ z;cases z)) t)
 ·exact .inr ⟨j,k _ _ (no _ _ g (by intro _ z;cases z) (by intro _ _ _ z;cases z)) g,k _ _ (no _ _ f (by intro _ z;cases z) (by intro _ _ _ z;cases z)) f⟩
def PB.kinds{R:Rows}(h:PB m CL H p la sa ls cs R S):∀b∈own la sa ls cs,∀u,H b=some u->(∃r,u= .lst r)\/∃C g fs,u= .ins C g fs:=λb a u e=>by
 rcases cXj.mp a with rfl|a
 ·rw[h.lst]at e;cases e;exact .inl ⟨_,rfl⟩
 rcases cXj.mp a with rfl|a
 ·rw[h.sht]at e;cases e;exact .inl ⟨_,rfl⟩
 rcases cXH.mp a with a|a
 ·obtain⟨i,c,q⟩:=cX2 a;obtain⟨o,n,l,f,d,⟨g,j⟩,k⟩:=h.get (cQ9 (show i<R.length by rw[<- h.len];exact c));rw[cQ9 c,q]at f;cases f;rw[j]at e;cases e;exact .inr ⟨_,_,_,rfl⟩
 ·obtain⟨i,c,q⟩:=cX2 a;obtain⟨o,n,l,f,d,j,k⟩:=h.get (cQ9 (show i<R.length by rw[<- h.clen];exact c));rw[cQ9 c,q]at d;cases d;rw[k]at e;cases e;exact .inl ⟨_,rfl⟩
def PB.notown{R:Rows}(h:PB o CL H s la sa ls cs R S)(n:∀b u,(∀m,u≠HO.tbl m)->H b=some u->b≠l):l∉own la sa ls cs:=λa=>by
 rcases cXj.mp a with e|a
 ·exact n la _ (by intro _ z;cases z) h.lst e.symm
 rcases cXj.mp a with e|a
 ·exact n sa _ (by intro _ z;cases z) h.sht e.symm
 rcases cXH.mp a with a|a
 ·obtain⟨i,c,q⟩:=cX2 a;obtain⟨r,p,k,f,d,⟨t,g⟩,j⟩:=h.get (cQ9 (show i<R.length by rw[<- h.len];exact c));rw[cQ9 c,q]at f;cases f;exact n l _ (by intro _ z;cases z) g rfl
 ·obtain⟨i,c,q⟩:=cX2 a;obtain⟨r,p,k,f,d,g,j⟩:=h.get (cQ9 (show i<R.length by rw[<- h.clen];exact c));rw[cQ9 c,q]at d;cases d;exact n l _ (by intro _ z;cases z) j rfl
def PB.notnone{R:Rows}(h:PB c CL H a la sa ls cs R S)(n:H l=none):l∉own la sa ls cs:=h.notown λb u _ e=>yI e n
def bJl(a:q.void=false):aX2 BV (.str name) (aJy j q c)=aJy j {q with place:=name} c:=by
 have b:W6 {q with place:=name}= .str name:=aZu (r:={q with place:=name}) a;unfold aJy;rw[b];rfl
def aXe(R:Rows)(l:List Nat)(k:Nat)(name:Str):Bk.laid R (l++ [k]) name=Bk.xV (Bk.laid R l name) k λr=>{r with place:=name}:=by
 unfold Bk.laid;rw[cWC];rfl
def aJw{R:Rows}{l:List Nat}{name:Str}{j:Nat}{q:Row}(h:R[j]? =some q):∃a,(Bk.laid R l name)[j]? =some a/\a.void=q.void:=by
 rw[Bk.vW,h];by_cases e:j∈l
 ·rw[if_pos e];exact⟨_,Ce,rfl⟩
 ·rw[if_neg e];exact⟨q,Ce,rfl⟩
inductive bXE(K:cXc)(Rf:Nat×Nat)(CB CL:Nat)(vs:List V)(H:Hp)(Q:VK)(E:XK):Prop|mk(ba la sa:Nat)(ls cs:List Nat)(R:Rows)(S:List Int)(i j:Nat)(b b2:Nat)(r q:Row)(h:vs= [.ref ba,.ref b,.ref b2])(h:PB CB CL H ba la sa ls cs R S)(h:R.length<64)(h:Bk.qQ R)(h:vG Rf.2 H)(h:R[i]? =some r)(h:r.void=false)(h:R[j]? =some q)(h:q.void=false)(h:ls[i]? =some b)(h:ls[j]? =some b2)(h:(r.link≠none->xS K Rf H E "has one"))(h:(r.link=none->(Bk.thr R j).head? =some i->xS K Rf H E "own thread"))(h:(r.link=none->(Bk.thr R j).head? ≠some i->(r.way=q.way->xS K Rf H E "same way")/\(r.way≠q.way->(r.partner≠q.partner->xS K Rf H E "other partner")/\(r.partner=q.partner->(r.date<q.date->xS K Rf H E "too early")/\(q.date<=r.date->∀H',zK H H'->vG Rf.2 H'->Q .non H')))))
section
variable {K:cXc}
def bYv:yO [AA,AD,Bo,"numbers","member",AM] [AA,AD,Bo] (yH cQo):=scM
def bYa(T:uK mg)(cl:Cl K CB CL)(a:MG P w K mg base (CXR P w) n CB Bh [AA,AD] (Y3 K Rf CB CL))(F:Fun K Bq "Book.lay_thread" cQo f fd):xL P w K mg base (CXR P w) (n+1) f fd [AA,AD,Bo] (bKm K Rf CB CL):=by
 have sc:=bYv;refine F.okX (k:=n) sc (λa2 A outer s H vs Q E hr h=>?_);obtain⟨v,I,sa,Y,X,R,S,m,d,rfl,W,hR,D,tb,q1,q2⟩:=h;refine⟨_,(yC (yU (i:=3) (jE a hr wX (pv 0) (yA (pv 1) yD))) (yC (wV PassesOwn.leaving rfl (xN (pv 3)) (xI (i:=4)) (yC (yU (i:=5) (yL yK (xC (pv 0) rfl) (pv 4))) (yF (wL (pv 5) (pv 2) rfl)))) (yF (yP (yR yN rfl T.b_len xG (yA (pv 3) yD)))))),?_⟩;obtain⟨dx,hb⟩:=W.book;refine⟨_,Ce,v,dx,_,Ce,hb,Ce,_,Ce,v,I,sa,Y,X,R,S,m,Ce,W,hR,D.tree,tb,q1,λk r em hk hv H1 l _ k1 t1 hl=>?_⟩;dsimp only[yW];have q:=W.sameT k1;have a1:=Bk.wW hk;refine⟨_,Ce,l,Ce,⟨_,Cc hl⟩,?_⟩;refine zV (xs:=(Bk.thr R k).map λi=>V.int (i:Nat)) (λt σ p=>L2.Ez2 λ(M J:Option V)=>σ= [some (.ref v),some (.int m),some (.str d),some (.ref l),M,J]/\PB CB CL p v I sa Y X (Bk.laid R ((Bk.thr R k).take t) d) S/\uP (own I sa Y X) H1 p/\p l=some (.lst ((Bk.thr R k).map λi=>V.int (i:Nat)))) ?_ ?_ ?_ ?_
 ·exact⟨none,none,Ce,q,λb u _ e=>e,hl⟩
 ·rintro t σ p ht ⟨M,J,rfl,g,C,o⟩;exact Cc o
 ·rintro t x σ p B ⟨M,J,rfl,g,C,o⟩;rw[cXu]at B;cases L:(Bk.thr R k)[t]? with
  |none=>rw[L]at B;cases B
  |some j=>
   rw[L]at B;cases B;obtain⟨qj,O,N⟩:=bJZ D hk hv (cXs L);obtain⟨q',y,G⟩:=aJw (l:=(Bk.thr R k).take t) (name:=d) O;rw[N]at G;obtain⟨b,c,g1,g2,g3,⟨a0,g4⟩,g5⟩:=g.get y;obtain⟨U,Z⟩:=g.book;dsimp only[yW];refine⟨_,Ce,v,CB,U,_,_,Ce,Z,cl.b,cl.letters,Ce,_,Ce,I,_,_,_,Ce,Ce,Cc g.lst,yT g1,?_⟩;dsimp only[yW];refine⟨_,Ce,_,Ce,b,CL,a0,_,Ce,g4,cl.l,cl.file,(show 9<1000 by decide),_,_,Ce,?_,C.trans (uP.upd (aVG (cXs g2)) _),?_⟩
   ·rw[bJl G,show(Bk.thr R k).take (t+1)=(Bk.thr R k).take t++ [j]from by rw[cZa,L];rfl,aXe];exact g.set g2 g3 y (λr=>{r with place:=d}) rfl
   ·rw[yJ (λz=>by rw[z,g4]at o;cases o)];exact o
 ·rintro σ p ⟨M,J,rfl,g,C,o⟩;rw[cXe,cX4]at g;refine⟨_,Ce,l,_,Ce,.inl (Cc o),?_⟩;rw[cXe];exact q2 k r em hk hv p g ((Q5.of k1).trans C.t) (zC t1 C q.kinds)
abbrev bQ2:Stmt:=xQ Aj Br
abbrev bWT:Stmt:=xQ Aj "hang"
def bJx:yO [AA,AM,CZ] [AA,AM,CZ] (yH bQ2):=scM
theorem aWk(d:Nat):∀ns:List Nat,inV (.int (d:Nat)) (ns.map λi=>V.int (i:Nat))=ns.contains d
 |[]=>rfl
 |n::r=>by have a:=aWk d r;unfold inV at a ⊢;rw[cXO,cJr,a,cJA];congr 1;show((n:Int)==(d:Int))=(d==n);rw[Bool.eq_iff_iff,beq_iff_eq,beq_iff_eq];omega
def aJk:∀ns:List Nat,(ns.map λi=>V.int (i:Nat)).all aQM=true
 |[]=>rfl
 |n::r=>by rw[cXO,cVy,aJk r];rfl
def bZS(cl:Cl K CB CL)(o:MG P w K mg base (CXR P w) (n+1) CB Bh [AA,AD] (Y3 K Rf CB CL))(g:FnX P w K mg base (n+1) B8 [BE,BF] (aZ1 K Rf)) (m:ExG P w K mg base n "HasOne" Rf.1 C1 "has one") (d:ExG P w K mg base n "OwnThread" Rf.1 C2 "own thread") (e:ExG P w K mg base n "SameWay" Rf.1 C3 "same way") (a:ExG P w K mg base n "OtherPartner" Rf.1 C4 "other partner") (F:Fun K Br "Book.check_hanging" bQ2 f fd):xL P w K mg base (CXR P w) (n+2) f fd [AA,AM,CZ] (bXE K Rf CB CL):=by
 have sc:=bJx;refine F.okX (k:=n+1) sc (λa1 A outer s H vs Q E C h=>?_);obtain⟨Z,la,sa,ls,cs,R,S,i,j,b,G,r,q,rfl,I,hR,hT,tb,M,hv,hj,hw,N,Y,q1,q2,q3⟩:=h;refine⟨_,(yC (xA (yM vB (xC (pv 1) rfl) zN) (yF (vD m C rfl)) yS) (yC (xA (yM uF (xC (pv 2) rfl) (jE o C wX (pv 0) (yA (xC (pv 1) rfl) yD))) (yF (vD d C rfl)) yS) (yC (xA (yM zU (xC (pv 1) rfl) (xC (pv 2) rfl)) (yF (vD e C rfl)) yS) (yC (xA (yM J9 (xC (pv 1) rfl) (xC (pv 2) rfl)) (yF (vD a C rfl)) yS) (yF (yZ (aXo g C rfl (yA (xC (pv 2) rfl) (yA (xC (pv 1) rfl) yD))))))))),?_⟩;obtain⟨dx,hb⟩:=I.book;obtain⟨b',c1,g1,g2,g3,⟨p,O⟩,g5⟩:=I.get M;obtain rfl:b=b':=cXv (N.symm.trans g2);obtain⟨W,c2,f1,f2,f3,⟨t,f4⟩,f5⟩:=I.get hj;obtain rfl:G=W:=cXv (Y.symm.trans f2);refine⟨_,Ce,b,CL,p,_,_,Ce,O,cl.l,cl.link,Ce,Ce,_,Ce,?_⟩;cases u:r.link with
 |some x=>exact onT rfl ((q1 (by rw[u];simp)).raise m)
 |none=>
  have U:=q2 u;have T:=q3 u;refine onF rfl ⟨_,Ce,G,CL,t,_,_,Ce,f4,cl.l,cl.number,Ce,_,Ce,Z,dx,_,Ce,hb,Ce,_,Ce,b,CL,p,_,_,Ce,O,cl.l,cl.number,Ce,?_⟩;refine⟨Z,la,sa,ls,cs,R,S,(i:Nat),Ce,I,hR,hT,tb,(λhg=>by rw[W7 M hv]at hg;cases hg),λk r' em hk a0 H1 l _ B D hl=>?_⟩;obtain rfl:i=k:=by omega
  refine⟨l,_,Ce,.inl (Cc hl),Ce,aJk _,_,Ce,?_⟩;rw[if_neg (show ¬ (false=true) by decide),aWk];have J:=Bk.wW hj;have own:=bKt hT M u J;have y:=B _ _ (λ_ z=>by cases z) O;have v:=B _ _ (λ_ z=>by cases z) f4;refine X4 (λc=>?_) (λc=>?_)
  ·exact((U (own.mp (cZR.mp c))).go ⟨B,λ_=>D⟩).raise d
  ·have X:(Bk.thr R j).head? ≠some i:=λz=>c (cZR.mpr (own.mpr z));obtain⟨q4,q5⟩:=T X;refine⟨_,Ce,b,CL,p,_,_,Ce,y,cl.l,cl.way,Ce,_,Ce,G,CL,t,_,_,Ce,v,cl.l,cl.way,Ce,Ce,_,Ce,?_⟩;have e1:decide (V.str r.way=V.str q.way)=decide (r.way=q.way):=by rw[Bool.eq_iff_iff];simp
   rw[e1];refine X4 (λc=>?_) (λc=>?_)
   ·exact((q4 (of_decide_eq_true c)).go ⟨B,λ_=>D⟩).raise e
   ·obtain⟨q6,q7⟩:=q5 (of_decide_eq_false (Bool.eq_false_iff.mpr c));refine⟨_,Ce,b,CL,p,_,_,Ce,y,cl.l,cl.partner,Ce,_,Ce,G,CL,t,_,_,Ce,v,cl.l,cl.partner,Ce,Ce,_,Ce,?_⟩;have e2:decide (V.str r.partner=V.str q.partner)=decide (r.partner=q.partner):=by rw[Bool.eq_iff_iff];simp
    rw[e2];cases hp:decide (r.partner=q.partner)with
    |false=>exact onT rfl (((q6 (of_decide_eq_false hp)).go ⟨B,λ_=>D⟩).raise a)
    |true=>obtain⟨q8,q9⟩:=q7 (of_decide_eq_true hp);refine onF rfl ⟨_,Ce,G,CL,t,_,_,Ce,v,cl.l,cl.day,Ce,_,Ce,b,CL,p,_,_,Ce,y,cl.l,cl.day,Ce,q.date,r.date,Ce,λL=>q9 L H1 B D,λL=>(q8 L).go ⟨B,λ_=>D⟩⟩
inductive bVx(K:cXc)(Rf:Nat×Nat)(CB CL:Nat)(vs:List V)(H:Hp)(Q:VK)(E:XK):Prop|mk(ba la sa:Nat)(ls cs:List Nat)(R:Rows)(S:List Int)(m o:Int)(h:vs= [.ref ba,.int m,.int o])(h:PB CB CL H ba la sa ls cs R S)(h:R.length<64)(h:Bk.Z7 R)(h:vG Rf.2 H)(h:(Bk.vU R m=false\/Bk.vU R o=false->xS K Rf H E "no letter"))(h:∀ (i j:Nat)(r q:Row),m=(i:Int)->o=(j:Int)->R[i]? =some r->r.void=false->R[j]? =some q->q.void=false->(r.link≠none->xS K Rf H E "has one")/\(r.link=none->(Bk.thr R j).head? =some i->xS K Rf H E "own thread")/\(r.link=none->(Bk.thr R j).head? ≠some i->(r.way=q.way->xS K Rf H E "same way")/\(r.way≠q.way->(r.partner≠q.partner->xS K Rf H E "other partner")/\(r.partner=q.partner->(r.date<q.date->xS K Rf H E "too early")/\(q.date<=r.date->bKy Rf.2 CB CL ba la sa ls cs H (Bk.xV (Bk.laid R (Bk.thr R i) q.place) i λr=>{r with link:=some j}) S (Q .non))))))
def bW7:yO [AA,AD,Bd,AM,CZ] [AA,AD,Bd] (yH bWT):=scM
def bWt(cl:Cl K CB CL)(a:MG P w K mg base (CXR P w) n CB Ad [AA,AD] (aWM K Rf CB CL))(c:MG P w K mg base (CXR P w) n CB Br [AA,AM,CZ] (bXE K Rf CB CL))(d:MG P w K mg base (CXR P w) n CB Bq [AA,AD,Bo] (bKm K Rf CB CL)) (F:Fun K "hang" "Book.hang" bWT f fd):xL P w K mg base (CXR P w) (n+1) f fd [AA,AD,Bd] (bVx K Rf CB CL):=by
 have sc:=bW7;refine F.okX (k:=n) sc (λa4 A outer s H vs Q E M h=>?_);obtain⟨e,u,y,L,x,R,S,m,o,rfl,z,hR,G,tb,q1,q2⟩:=h;refine⟨_,(yC (yU (i:=3) (jE a M wX (pv 0) (yA (pv 1) yD))) (yC (yU (i:=4) (jE a M wX (pv 0) (yA (pv 2) yD))) (yC (yZ (jE c M wX (pv 0) (yA (pv 3) (yA (pv 4) yD)))) (yC (yZ (jE d M wX (pv 0) (yA (pv 1) (yA (xC (pv 4) rfl) yD)))) (yF (wL (pv 3) (pv 2) rfl)))))),?_⟩;obtain⟨N,U⟩:=z.book;refine⟨_,Ce,e,N,_,Ce,U,Ce,_,Ce,e,u,y,L,x,R,S,m,Ce,z,λi r b em C hv D=>?_,λv=>q1 (.inl v)⟩;dsimp only[yW];refine⟨_,Ce,e,N,_,Ce,U,Ce,_,Ce,e,u,y,L,x,R,S,o,Ce,z,λj q X eo W hw J=>?_,λv=>q1 (.inr v)⟩;dsimp only[yW];obtain⟨q3,q4,q5⟩:=q2 i j r q em eo C hv W hw;refine⟨_,Ce,e,N,_,Ce,U,Ce,_,Ce,_,Ce,e,u,y,L,x,R,S,i,j,b,X,r,q,Ce,z,hR,G.tree,tb,C,hv,W,hw,D,J,q3,q4,λh1 h2=>?_⟩;obtain⟨q6,q7⟩:=q5 h1 h2;refine⟨q6,λh3=>?_⟩;obtain⟨q8,q9⟩:=q7 h3;refine⟨q8,λh4=>?_⟩;obtain⟨Z,Y⟩:=q9 h4;refine⟨Z,λh5 H1 k1 t1=>?_⟩;have g:=z.sameT k1;obtain⟨O,T⟩:=g.book;obtain⟨a0,c2,f1,f2,f3,⟨V,f4⟩,f5⟩:=g.get W;obtain rfl:X=a0:=cXv (J.symm.trans f2);refine⟨_,Ce,e,O,_,Ce,T,Ce,_,Ce,_,Ce,X,CL,V,_,_,Ce,f4,cl.l,cl.file,Ce,?_⟩;rw[aZu hw];refine⟨e,u,y,L,x,R,S,m,q.place,Ce,g,hR,G,t1,(λv=>by rw[em,W7 C hv]at v;cases v),λk r' a3 hk a1 H2 p k2 t2=>?_⟩;obtain rfl:i=k:=by omega
 rw[C]at hk;cases hk;obtain⟨r2,I,a2⟩:=aJw (l:=Bk.thr R i) (name:=q.place) C;obtain⟨b',c1,g1,g2,g3,⟨B,g4⟩,g5⟩:=p.get I;obtain rfl:b=b':=cXv (D.symm.trans g2);subst eo;refine⟨_,Ce,_,Ce,b,CL,B,_,Ce,g4,cl.l,cl.link,(show 9<1000 by decide),?_⟩;have kk:=uP.upd (H:=H2) (aVG (la:=u) (sa:=y) (cs:=x) (cXs g2)) (.ins CL B (aJy i {r2 with link:=some j} c1));exact Y h5 _ _ _ (p.set g2 g3 I (λr=>{r with link:=some j}) rfl) (((Q5.of k1).trans k2).trans kk.t) Z6.refl (zC t2 kk p.kinds)
end
end Desk
namespace Desk
open PySem L2 PyProof.Rows
open Bk (Row Rows zO Ans xZ)
open Thr (vG jC W4)
def xP:zO->List V
 |.enter e d b t=> [.str e,.int d,.str b,.int t]
 |.reply m d t=> [.str Bg,.int m,.int d,.int t]
 |.hang m o=> [.str "hang",.int m,.int o]
 |.loose m=> [.str C5,.int m]
 |.date m d=> [.str Ap,.int m,.int d]
 |.term m t=> [.str AU,.int m,.int t]
 |.copy m b=> [.str "copy",.int m,.str b]
 |.file m a=> [.str BV,.int m,.str a]
 |.void m=> [.str Ay,.int m]
 |.shut d=> [.str Ai,.int d]
 |.state m=> [.str Bc,.int m]
 |.thread m=> [.str B9,.int m]
 |.copies m=> [.str BK,.int m]
 |.letters a=> [.str Ao,.str a]
 |.on c d=> [.str (if c then AW else AZ),.int d]
def uB(o:List Nat)(H:Hp):Ans->V->Prop
 |.num n,v=>v= .int n
 |.txt x,v=>v= .str x
 |.nums l,v=>∃p,v= .ref p/\p∉o/\H p=some (.lst (l.map λi=>V.int (i:Nat)))
 |.txts l,v=>∃p,v= .ref p/\p∉o/\H p=some (.lst (l.map V.str))
 |.row r,v=>∃p,v= .ref p/\p∉o/\H p=some (.tup (stV r))
def qD(H:Hp)(v:V):Prop:=∀p,v= .ref p->∀u,(∀a,u≠HO.tbl a)->H p≠some u
def qD.none(h:H l=none):qD H (.ref l):=λp z u _ e=>by cases z;rw[h]at e;cases e
def qD.nl(h:∀b u,(∀c,u≠HO.tbl c)->H b=some u->b≠l):qD H (.ref l):=λp z u a e=>by cases z;exact h _ u a e rfl
structure Sz(R:Rows)(S:List Int):Prop where
 r:R.length<64
 s:S.length<64
 c:∀r∈R,r.copies.length<=1000
inductive aJW(K:cXc)(Rf:Nat×Nat)(CB CL:Nat)(p:zO->Prop)(vs:List V)(H:Hp)(Q:VK)(E:XK):Prop|mk(ba da la sa:Nat)(ls cs:List Nat)(R:Rows)(S:List Int)(e:zO)(h:vs= [.ref ba,.ref da])(h:p e)(h:H da=some (.tup (xP e)))(h:PB CB CL H ba la sa ls cs R S)(h:Sz R S)(h:Bk.Z7 R)(h:vG Rf.2 H)(h:(∀ (a:Ans)(R':Rows)(S':List Int)(v:V)(H':Hp)(ls' cs':List Nat),xZ R S e a R' S'->PB CB CL H' ba la sa ls' cs' R' S'->Q5 (own la sa ls cs) H H'->Z6 H (own la sa ls cs) (own la sa ls' cs')->vG Rf.2 H'->uB (own la sa ls' cs') H' a v->qD H v->Q v H'))(h:(∀t,xZ R S e (.txt t) R S->xS K Rf H E t))
section
variable {K:cXc}
abbrev aQp:Stmt:=xM "do_enter"
def aV0:yO [AL,AN] [AL,AN] (yH aQp):=scM
def aVz(a:MG P w K mg base (CXR P w) n CB "enter" [AA,Bb,Ab,Ac,AU] (bXI K Rf CB CL))(F:Fun K "do_enter" "do_enter" aQp f fd):xL P w K mg base (CXR P w) (n+1) f fd [AL,AN] (aJW K Rf CB CL λe=>∃ (b:Str)(d:Int)(c:Str)(t:Int),e= .enter b d c t):=by
 have O:=aV0;refine F.okX (k:=n) O (λT A outer s H U Q E J h=>?_);obtain⟨y,i,v,C,B,x,R,S,e,rfl,⟨b,d,c,t,rfl⟩,g,m,G,M,tb,q,L⟩:=h;refine⟨_,(yF (yP (jE a J wX (pv 0) (yA (yL yX (pv 1) yG) (yA (yL yX (pv 1) yG) (yA (yL yX (pv 1) yG) (yA (yL yX (pv 1) yG) yD))))))),?_⟩;obtain⟨D,N⟩:=m.book;have tk:∀ {j},uP (own v C B x) H j->vG Rf.2 j:=λk=>zC tb k m.kinds;have g:H i=some (.tup _):=g;refine⟨_,Ce,y,D,_,Ce,N,Ce,_,Ce,i,_,0,_,Ce,Ce,Cd g,Ce,_,Ce,i,_,1,_,Ce,Ce,Cd g,Ce,_,Ce,i,_,2,_,Ce,Ce,Cd g,Ce,_,Ce,i,_,3,_,Ce,Ce,Cd g,Ce,?_⟩;refine⟨y,v,C,B,x,R,S,b,d,c,t,Ce,m,by have:=G.r;omega,λl j u o p k I=>?_,λl=>L _ (.enterT l)⟩;exact q (.num R.length) _ _ _ j u o (.enter l) p k.t I (tk k) rfl (λ_ z=>nomatch z)
abbrev aQr:Stmt:=xM "do_reply"
def aV2:yO [AL,AN] [AL,AN] (yH aQr):=scM
def aVB(a:MG P w K mg base (CXR P w) n CB Bg [AA,AD,Ab,AU] (bXN K Rf CB CL))(F:Fun K "do_reply" "do_reply" aQr f fd):xL P w K mg base (CXR P w) (n+1) f fd [AL,AN] (aJW K Rf CB CL λe=>∃ (m:Int)(d:Int)(t:Int),e= .reply m d t):=by
 have U:=aV2;refine F.okX (k:=n) U (λV A outer s H W Q E M h=>?_);obtain⟨C,i,x,G,D,B,R,S,e,rfl,⟨m,d,t,rfl⟩,b,j,J,N,tb,q,l⟩:=h;refine⟨_,(yF (yP (jE a M wX (pv 0) (yA (yL yX (pv 1) yG) (yA (yL yX (pv 1) yG) (yA (yL yX (pv 1) yG) yD)))))),?_⟩;obtain⟨I,T⟩:=j.book;have tk:∀ {g},uP (own x G D B) H g->vG Rf.2 g:=λk=>zC tb k j.kinds;have b:H i=some (.tup _):=b;refine⟨_,Ce,C,I,_,Ce,T,Ce,_,Ce,i,_,1,_,Ce,Ce,Cd b,Ce,_,Ce,i,_,2,_,Ce,Ce,Cd b,Ce,_,Ce,i,_,3,_,Ce,Ce,Cd b,Ce,?_⟩;refine⟨C,x,G,D,B,R,S,m,d,t,Ce,j,by have:=J.r;omega,λh=>l _ (.replyN h),λh c=>l _ (.replyT h c),λk r O v y c=>?_⟩;subst O;exact⟨λb=>l _ (.replyE v y c b),λb g u o p k L=>q (.num R.length) _ _ _ g u o (.reply v y c b) p k.t L (tk k) rfl (λ_ z=>nomatch z)⟩
abbrev aXF:Stmt:=xM "do_hang"
def aYb:yO [AL,AN] [AL,AN] (yH aXF):=scM
def aKO(a:MG P w K mg base (CXR P w) n CB "hang" [AA,AD,Bd] (bVx K Rf CB CL))(F:Fun K "do_hang" "do_hang" aXF f fd):xL P w K mg base (CXR P w) (n+1) f fd [AL,AN] (aJW K Rf CB CL λe=>∃ (m:Int)(o:Int),e= .hang m o):=by
 have sc:=aYb;refine F.okX (k:=n) sc (λa0 A outer s H vs Q E X h=>?_);obtain⟨N,D,L,T,O,M,R,S,e,rfl,⟨m,o,rfl⟩,v,B,V,C,tb,q,c⟩:=h;refine⟨_,(yC (yZ (jE a X wX (pv 0) (yA (yL yX (pv 1) yG) (yA (yL yX (pv 1) yG) yD)))) (yF (yP yQ))),?_⟩;obtain⟨U,hb⟩:=B.book;have tk:∀ {x},uP (own L T O M) H x->vG Rf.2 x:=λk=>zC tb k B.kinds;have v:H D=some (.tup _):=v;refine⟨_,Ce,N,U,_,Ce,hb,Ce,_,Ce,D,_,1,_,Ce,Ce,Cd v,Ce,_,Ce,D,_,2,_,Ce,Ce,Cd v,Ce,?_⟩;refine⟨N,L,T,O,M,R,S,m,o,Ce,B,V.r,C,tb,λh=>c _ (.hangN h),λi j r q' Y Z l d g hw=>?_⟩;subst Y;subst Z;refine⟨λh=>c _ (.hangH l d g hw h),λh b=>c _ (.hangO l d g hw h b),λh b=>⟨λp=>c _ (.hangW l d g hw h b p),λp=>⟨λu=>c _ (.hangP l d g hw h b p u),λu=>⟨λy=>c _ (.hangE l d g hw h b p u y),λy x J G I k W t=>?_⟩⟩⟩⟩;exact q (.txt "hung") _ _ _ x J G (.hang l d g hw h b p u y) I k W t rfl (λ_ z=>nomatch z)
abbrev aQq:Stmt:=xM "do_loose"
def aV1:yO [AL,AN] [AL,AN] (yH aQq):=scM
def aVA(a:MG P w K mg base (CXR P w) n CB "loosen" [AA,AD] (aWV K Rf CB CL))(F:Fun K "do_loose" "do_loose" aQq f fd):xL P w K mg base (CXR P w) (n+1) f fd [AL,AN] (aJW K Rf CB CL λe=>∃ (m:Int),e= .loose m):=by
 have N:=aV1;refine F.okX (k:=n) N (λO A outer s H U Q E I h=>?_);obtain⟨y,u,o,C,B,x,R,S,e,rfl,⟨m,rfl⟩,c,d,T,J,tb,q,p⟩:=h;refine⟨_,(yC (yZ (jE a I wX (pv 0) (yA (yL yX (pv 1) yG) yD))) (yF (yP yQ))),?_⟩;obtain⟨D,M⟩:=d.book;have tk:∀ {b},uP (own o C B x) H b->vG Rf.2 b:=λk=>zC tb k d.kinds;have c:H u=some (.tup _):=c;refine⟨_,Ce,y,D,_,Ce,M,Ce,_,Ce,u,_,1,_,Ce,Ce,Cd c,Ce,?_⟩;refine⟨y,o,C,B,x,R,S,m,Ce,d,λh=>p _ (.oneN h (.inl rfl)),λk r L l v=>?_⟩;subst L;exact⟨λh=>p _ (.looseN l v h),λh b j g i k G=>q (.txt C5) _ _ _ b j g (.loose l v h) i k.t G (tk k) rfl (λ_ z=>nomatch z)⟩
abbrev aXD:Stmt:=xM "do_date"
def aK9:yO [AL,AN] [AL,AN] (yH aXD):=scM
def aKM(a:MG P w K mg base (CXR P w) n CB "put_day" [AA,AD,Ab] (aWW K Rf CB CL))(F:Fun K "do_date" "do_date" aXD f fd):xL P w K mg base (CXR P w) (n+1) f fd [AL,AN] (aJW K Rf CB CL λe=>∃ (m:Int)(d:Int),e= .date m d):=by
 have V:=aK9;refine F.okX (k:=n) V (λW A outer s H X Q E N h=>?_);obtain⟨C,j,v,G,D,B,R,S,e,rfl,⟨m,d,rfl⟩,b,g,J,i,tb,q,x⟩:=h;refine⟨_,(yC (yZ (jE a N wX (pv 0) (yA (yL yX (pv 1) yG) (yA (yL yX (pv 1) yG) yD)))) (yF (yP yQ))),?_⟩;obtain⟨I,T⟩:=g.book;have tk:∀ {c},uP (own v G D B) H c->vG Rf.2 c:=λk=>zC tb k g.kinds;have b:H j=some (.tup _):=b;refine⟨_,Ce,C,I,_,Ce,T,Ce,_,Ce,j,_,1,_,Ce,Ce,Cd b,Ce,_,Ce,j,_,2,_,Ce,Ce,Cd b,Ce,?_⟩;refine⟨C,v,G,D,B,R,S,m,d,Ce,g,by have:=J.r;omega,i,λh=>x _ (.oneN h (.inr (.inl ⟨d,rfl⟩))),λk r O u y=>?_⟩;subst O;exact⟨λh=>x _ (.dateE u y h),λL U c p l o k M=>q (.txt "dated") _ _ _ c p l (.date u y L U) o k.t M (tk k) rfl (λ_ z=>nomatch z)⟩
abbrev aXH:Stmt:=xM "do_term"
def aYd:yO [AL,AN] [AL,AN] (yH aXH):=scM
def aKQ(a:MG P w K mg base (CXR P w) n CB "put_term" [AA,AD,AU] (aJZ K Rf CB CL))(F:Fun K "do_term" "do_term" aXH f fd):xL P w K mg base (CXR P w) (n+1) f fd [AL,AN] (aJW K Rf CB CL λe=>∃ (m:Int)(t:Int),e= .term m t):=by
 have N:=aYd;refine F.okX (k:=n) N (λO A outer s H U Q E I h=>?_);obtain⟨y,g,p,C,B,x,R,S,e,rfl,⟨m,t,rfl⟩,b,d,T,J,tb,q,u⟩:=h;refine⟨_,(yC (yZ (jE a I wX (pv 0) (yA (yL yX (pv 1) yG) (yA (yL yX (pv 1) yG) yD)))) (yF (yP yQ))),?_⟩;obtain⟨D,M⟩:=d.book;have tk:∀ {c},uP (own p C B x) H c->vG Rf.2 c:=λk=>zC tb k d.kinds;have b:H g=some (.tup _):=b;refine⟨_,Ce,y,D,_,Ce,M,Ce,_,Ce,g,_,1,_,Ce,Ce,Cd b,Ce,_,Ce,g,_,2,_,Ce,Ce,Cd b,Ce,?_⟩;refine⟨y,p,C,B,x,R,S,m,t,Ce,d,λh=>u _ (.oneN h (.inr (.inr (.inl ⟨t,rfl⟩)))),λk r L o v=>?_⟩;subst L;exact⟨λh=>u _ (.termN o v h),λh c l i j k G=>q (.txt B6) _ _ _ c l i (.term o v h) j k.t G (tk k) rfl (λ_ z=>nomatch z)⟩
abbrev aXC:Stmt:=xM "do_copy"
def aK8:yO [AL,AN] [AL,AN] (yH aXC):=scM
def aKL(a:MG P w K mg base (CXR P w) n CB "send_copy" [AA,AD,Be] (bVB K Rf CB CL))(F:Fun K "do_copy" "do_copy" aXC f fd):xL P w K mg base (CXR P w) (n+1) f fd [AL,AN] (aJW K Rf CB CL λe=>∃ (m:Int)(b:Str),e= .copy m b):=by
 have W:=aK8;refine F.okX (k:=n) W (λX A outer s H Y Q E N h=>?_);obtain⟨C,j,v,G,D,B,R,S,e,rfl,⟨m,b,rfl⟩,d,i,J,O,tb,q,x⟩:=h;refine⟨_,(yF (yP (jE a N wX (pv 0) (yA (yL yX (pv 1) yG) (yA (yL yX (pv 1) yG) yD))))),?_⟩;obtain⟨I,U⟩:=i.book;have tk:∀ {g},uP (own v G D B) H g->vG Rf.2 g:=λk=>zC tb k i.kinds;have d:H j=some (.tup _):=d;refine⟨_,Ce,C,I,_,Ce,U,Ce,_,Ce,j,_,1,_,Ce,Ce,Cd d,Ce,_,Ce,j,_,2,_,Ce,Ce,Cd d,Ce,?_⟩;refine⟨C,v,G,D,B,R,S,m,b,Ce,i,J.c,λh=>x _ (.oneN h (.inr (.inr (.inr (.inl ⟨b,rfl⟩))))),λk r T u y=>?_⟩;subst T;exact⟨λh=>x _ (.copyC u y h),λL V g p l o k M=>q (.num (r.copies.length+1)) _ _ _ g p l (.copy u y L V) o k.t M (tk k) rfl (λ_ z=>nomatch z)⟩
abbrev aXE:Stmt:=xM "do_file"
def aYa:yO [AL,AN] [AL,AN] (yH aXE):=scM
def aKN(a:MG P w K mg base (CXR P w) n CB Bq [AA,AD,Bo] (bKm K Rf CB CL))(F:Fun K "do_file" "do_file" aXE f fd):xL P w K mg base (CXR P w) (n+1) f fd [AL,AN] (aJW K Rf CB CL λe=>∃ (m:Int)(name:Str),e= .file m name):=by
 have M:=aYa;refine F.okX (k:=n) M (λB A outer s H O Q E C h=>?_);obtain⟨t,i,p,u,o,j,R,S,e,rfl,⟨m,name,rfl⟩,b,d,x,g,tb,q,D⟩:=h;refine⟨_,(yF (yP (jE a C wX (pv 0) (yA (yL yX (pv 1) yG) (yA (yL yX (pv 1) yG) yD))))),?_⟩;obtain⟨v,J⟩:=d.book;have tk:∀ {c},uP (own p u o j) H c->vG Rf.2 c:=λk=>zC tb k d.kinds;have b:H i=some (.tup _):=b;refine⟨_,Ce,t,v,_,Ce,J,Ce,_,Ce,i,_,1,_,Ce,Ce,Cd b,Ce,_,Ce,i,_,2,_,Ce,Ce,Cd b,Ce,?_⟩;refine⟨t,p,u,o,j,R,S,m,name,Ce,d,x.r,g,tb,λh=>D _ (.oneN h (.inr (.inr (.inr (.inr (.inl ⟨name,rfl⟩)))))),λk r I y G c l N L=>?_⟩;subst I;exact q (.num (Bk.thr R k).length) _ _ _ c o j (.file y G) l N Z6.refl L rfl (λ_ z=>nomatch z)
abbrev aXI:Stmt:=xM "do_void"
def aYe:yO [AL,AN] [AL,AN] (yH aXI):=scM
def aKR(a:MG P w K mg base (CXR P w) n CB "cancel" [AA,AD] (aWO K Rf CB CL))(F:Fun K "do_void" "do_void" aXI f fd):xL P w K mg base (CXR P w) (n+1) f fd [AL,AN] (aJW K Rf CB CL λe=>∃ (m:Int),e= .void m):=by
 have O:=aYe;refine F.okX (k:=n) O (λT A outer s H U Q E J h=>?_);obtain⟨y,u,o,C,B,x,R,S,e,rfl,⟨m,rfl⟩,c,d,G,L,tb,q,p⟩:=h;refine⟨_,(yC (yZ (jE a J wX (pv 0) (yA (yL yX (pv 1) yG) yD))) (yF (yP yQ))),?_⟩;obtain⟨D,N⟩:=d.book;have tk:∀ {b},uP (own o C B x) H b->vG Rf.2 b:=λk=>zC tb k d.kinds;have c:H u=some (.tup _):=c;refine⟨_,Ce,y,D,_,Ce,N,Ce,_,Ce,u,_,1,_,Ce,Ce,Cd c,Ce,?_⟩;refine⟨y,o,C,B,x,R,S,m,Ce,d,by have:=G.r;omega,λh=>p _ (.oneN h (.inr (.inr (.inr (.inr (.inr (.inl rfl))))))),λk r M l v=>?_⟩;subst M;exact⟨λh=>p _ (.voidA l v h),λh b j g i k I=>q (.txt Ay) _ _ _ b j g (.void l v h) i k.t I (tk k) rfl (λ_ z=>nomatch z)⟩
abbrev aXG:Stmt:=xM "do_shut"
def aYc:yO [AL,AN] [AL,AN] (yH aXG):=scM
def aKP(a:MG P w K mg base (CXR P w) n CB "shut_day" [AA,Ab] (bVC K Rf CB CL))(F:Fun K "do_shut" "do_shut" aXG f fd):xL P w K mg base (CXR P w) (n+1) f fd [AL,AN] (aJW K Rf CB CL λe=>∃ (d:Int),e= .shut d):=by
 have J:=aYc;refine F.okX (k:=n) J (λL A outer s H M Q E C h=>?_);obtain⟨r,o,m,v,u,p,R,S,e,rfl,⟨d,rfl⟩,c,g,y,G,tb,q,D⟩:=h;refine⟨_,(yC (yZ (jE a C wX (pv 0) (yA (yL yX (pv 1) yG) yD))) (yF (yP yQ))),?_⟩;obtain⟨x,I⟩:=g.book;have tk:∀ {b},uP (own m v u p) H b->vG Rf.2 b:=λk=>zC tb k g.kinds;have c:H o=some (.tup _):=c;refine⟨_,Ce,r,x,_,Ce,I,Ce,_,Ce,o,_,1,_,Ce,Ce,Cd c,Ce,?_⟩;refine⟨r,m,v,u,p,R,S,d,Ce,g,by have:=y.s;omega,λh=>D _ (.shutN h),λh b l i j k B=>?_⟩;exact q (.txt Ai) _ _ _ b l i (.shut h) j k.t B (tk k) rfl (λ_ z=>nomatch z)
abbrev Z4:Stmt:=xM "ask_state"
def aJQ:yO [AL,AN] [AL,AN] (yH Z4):=scM
def aJE(a:MG P w K mg base (CXR P w) n CB "state_of" [AA,AD] (aJ1 K Rf CB CL))(F:Fun K "ask_state" "ask_state" Z4 f fd):xL P w K mg base (CXR P w) (n+1) f fd [AL,AN] (aJW K Rf CB CL λe=>∃ (m:Int),e= .state m):=by
 have I:=aJQ;refine F.okX (k:=n) I (λJ A outer s H M Q E y h=>?_);obtain⟨p,o,j,u,g,d,R,S,e,rfl,⟨m,rfl⟩,c,b,L,B,tb,q,z⟩:=h;refine⟨_,(yF (yP (jE a y wX (pv 0) (yA (yL yX (pv 1) yG) yD)))),?_⟩;obtain⟨v,G⟩:=b.book;have tk:∀ {H'},uP (own j u g d) H H'->vG Rf.2 H':=λk=>zC tb k b.kinds;have c:H o=some (.tup _):=c;refine⟨_,Ce,p,v,_,Ce,G,Ce,_,Ce,o,_,1,_,Ce,Ce,Cd c,Ce,?_⟩;refine⟨p,j,u,g,d,R,S,m,Ce,b,λk r l D x C hl=>?_,λh=>z _ (.oneN h (.inr (.inr (.inr (.inr (.inr (.inr (.inl rfl))))))))⟩;subst D;have i:=yE hl (.tup (stV r));exact q (.row r) _ _ _ _ g d (.state x C) (b.same i) (Q5.of i.t) Z6.refl (tk (uP.of i)) ⟨l,Ce,b.notnone hl,yB⟩ (qD.none hl)
abbrev qM:Stmt:=xM CU
def aZY:yO [AL,AN] [AL,AN] (yH qM):=scM
def aZC(a:MG P w K mg base (CXR P w) n CB Bh [AA,AD] (Y3 K Rf CB CL))(F:Fun K CU CU qM f fd):xL P w K mg base (CXR P w) (n+1) f fd [AL,AN] (aJW K Rf CB CL λe=>∃ (m:Int),e= .thread m):=by
 have L:=aZY;refine F.okX (k:=n) L (λM A outer s H N Q E B h=>?_);obtain⟨t,p,o,v,j,i,R,S,e,rfl,⟨m,rfl⟩,d,b,y,g,tb,q,C⟩:=h;refine⟨_,(yF (yP (jE a B wX (pv 0) (yA (yL yX (pv 1) yG) yD)))),?_⟩;obtain⟨x,I⟩:=b.book;have tk:∀ {c},uP (own o v j i) H c->vG Rf.2 c:=λk=>zC tb k b.kinds;have d:H p=some (.tup _):=d;refine⟨_,Ce,t,x,_,Ce,I,Ce,_,Ce,p,_,1,_,Ce,Ce,Cd d,Ce,?_⟩;refine⟨t,o,v,j,i,R,S,m,Ce,b,y.r,g.tree,tb,λh=>C _ (.oneN h (.inr (.inr (.inr (.inr (.inr (.inr (.inr (.inl rfl))))))))),λk r G z D c l nl u J hl=>?_⟩;subst G;exact q (.nums (Bk.thr R k)) _ _ _ c j i (.thread z D) (b.sameT u) (Q5.of u) Z6.refl J ⟨l,Ce,b.notown nl,hl⟩ (qD.nl nl)
abbrev qL:Stmt:=xM CV
def aZX:yO [AL,AN] [AL,AN] (yH qL):=scM
def aZB(a:MG P w K mg base (CXR P w) n CB "copies_of" [AA,AD] (aWQ K Rf CB CL))(F:Fun K CV CV qL f fd):xL P w K mg base (CXR P w) (n+1) f fd [AL,AN] (aJW K Rf CB CL λe=>∃ (m:Int),e= .copies m):=by
 have I:=aZX;refine F.okX (k:=n) I (λJ A outer s H M Q E y h=>?_);obtain⟨p,o,j,u,g,d,R,S,e,rfl,⟨m,rfl⟩,c,b,L,B,tb,q,z⟩:=h;refine⟨_,(yF (yP (jE a y wX (pv 0) (yA (yL yX (pv 1) yG) yD)))),?_⟩;obtain⟨v,G⟩:=b.book;have tk:∀ {H'},uP (own j u g d) H H'->vG Rf.2 H':=λk=>zC tb k b.kinds;have c:H o=some (.tup _):=c;refine⟨_,Ce,p,v,_,Ce,G,Ce,_,Ce,o,_,1,_,Ce,Ce,Cd c,Ce,?_⟩;refine⟨p,j,u,g,d,R,S,m,Ce,b,λk r l D x C hl=>?_,λh=>z _ (.oneN h (.inr (.inr (.inr (.inr (.inr (.inr (.inr (.inr rfl)))))))))⟩;subst D;have i:=yE hl (.lst (r.copies.map V.str));exact q (.txts r.copies) _ _ _ _ g d (.copies x C) (b.same i) (Q5.of i.t) Z6.refl (tk (uP.of i)) ⟨l,Ce,b.notnone hl,yB⟩ (qD.none hl)
abbrev jR:Stmt:=xM CK
def aX3:yO [AL,AN] [AL,AN] (yH jR):=scM
def aXX(a:MG P w K mg base CX0 n CB CT [AA,Bo] (aXM CB CL))(F:Fun K CK CK jR f fd):xL P w K mg base (CXR P w) (n+1) f fd [AL,AN] (aJW K Rf CB CL λe=>∃ (name:Str),e= .letters name):=by
 have D:=aX3;refine F.okX (k:=n) D (λy A outer s H I Q E z h=>?_);obtain⟨p,o,m,u,j,g,R,S,e,rfl,⟨name,rfl⟩,c,b,x,B,tb,q,G⟩:=h;refine⟨_,(yF (yP (jE a z uU (pv 0) (yA (yL yX (pv 1) yG) yD)))),?_⟩;obtain⟨v,C⟩:=b.book;have tk:∀ {H'},uP (own m u j g) H H'->vG Rf.2 H':=λk=>zC tb k b.kinds;have c:H o=some (.tup _):=c;refine⟨_,Ce,p,v,_,Ce,C,Ce,_,Ce,o,_,1,_,Ce,Ce,Cd c,Ce,?_⟩;refine⟨p,m,u,j,g,R,S,name,Ce,b,x.r,λl hl=>?_⟩;have d:=yE hl (.lst ((aQx R name).map λi=>V.int (i:Nat)));exact q (.nums (aQx R name)) _ _ _ _ j g .letters (b.same d) (Q5.of d.t) Z6.refl (tk (uP.of d)) ⟨l,Ce,b.notnone hl,yB⟩ (qD.none hl)
abbrev jT:Stmt:=xM CM
def aX5:yO [AL,AN] [AL,AN] (yH jT):=scM
def aXZ(a:MG P w K mg base CX0 n CB AZ [AA,Ab] (bYW CB CL false))(F:Fun K CM CM jT f fd):xL P w K mg base (CXR P w) (n+1) f fd [AL,AN] (aJW K Rf CB CL λe=>∃ (d:Int),e= .on false d):=by
 have J:=aX5;refine F.okX (k:=n) J (λL A outer s H N Q E D h=>?_);obtain⟨y,x,v,z,m,j,R,S,e,rfl,⟨d,rfl⟩,g,b,u,G,tb,q,M⟩:=h;refine⟨_,(yF (yP (jE a D uU (pv 0) (yA (yL yX (pv 1) yG) yD)))),?_⟩;obtain⟨B,I⟩:=b.book;have tk:∀ {c},uP (own v z m j) H c->vG Rf.2 c:=λk=>zC tb k b.kinds;have g:H x=some (.tup _):=g;refine⟨_,Ce,y,B,_,Ce,I,Ce,_,Ce,x,_,1,_,Ce,Ce,Cd g,Ce,?_⟩;refine⟨y,v,z,m,j,R,S,d,Ce,b,u.r,u.s,λl c C o hl i p=>?_⟩;exact q (.nums C) _ _ _ c m j (.on p) (b.same o) (Q5.of o.t) Z6.refl (tk (uP.of o)) ⟨l,Ce,b.notnone hl,i⟩ (qD.none hl)
abbrev jS:Stmt:=xM CN
def aX4:yO [AL,AN] [AL,AN] (yH jS):=scM
def aXY(a:MG P w K mg base CX0 n CB AW [AA,Ab] (bYW CB CL true))(F:Fun K CN CN jS f fd):xL P w K mg base (CXR P w) (n+1) f fd [AL,AN] (aJW K Rf CB CL λe=>∃ (d:Int),e= .on true d):=by
 have J:=aX4;refine F.okX (k:=n) J (λL A outer s H N Q E D h=>?_);obtain⟨y,x,v,z,m,j,R,S,e,rfl,⟨d,rfl⟩,g,b,u,G,tb,q,M⟩:=h;refine⟨_,(yF (yP (jE a D uU (pv 0) (yA (yL yX (pv 1) yG) yD)))),?_⟩;obtain⟨B,I⟩:=b.book;have tk:∀ {c},uP (own v z m j) H c->vG Rf.2 c:=λk=>zC tb k b.kinds;have g:H x=some (.tup _):=g;refine⟨_,Ce,y,B,_,Ce,I,Ce,_,Ce,x,_,1,_,Ce,Ce,Cd g,Ce,?_⟩;refine⟨y,v,z,m,j,R,S,d,Ce,b,u.r,u.s,λl c C o hl i p=>?_⟩;exact q (.nums C) _ _ _ c m j (.on p) (b.same o) (Q5.of o.t) Z6.refl (tk (uP.of o)) ⟨l,Ce,b.notnone hl,i⟩ (qD.none hl)
end
end Desk
namespace Desk
open PySem L2 PyProof.Rows
open Bk (Row Rows zO Ans xZ)
open Thr (vG jC W4)
structure bY6(P:cXB)(w:cXN)(K:cXc)(D:Nat)(kvs:List (Key×cXb)):Prop where
 at_:∃o es ep,K.lookup D=some o/\o.ExactDict/\o.data= .dict es ep/\KeysOf (zS P w) es/\Pairs (zS P w) es.toList kvs/\(kvs.map (·.1)).Nodup
inductive cQw(kvs:List (Key×cXb))(Q:VK)(y:V)(H1:Hp):Prop|mk(x:Str)(f:Nat)(h:y= .str x)(h:cVG kvs (Sum.inr x)=some (.ref f))(h:Q (.ref f) H1)
def cQ8(a:List (Key×cXb))(b:TE):TE:=λσ H Q=>b σ H λy c=>cQw a Q y c
def bYg(l:Gl X x)(q:X.mg x=some (.ref D))(T:bY6 X.prog X.w X.K D a)(z:PE X i e)(t:cQB i)(c:(x==(AK:Str))=false:=by decide):
  PE X (.Subscript (.Name x p) i pos) (cQ8 a e):=by
 intro b s σ H Q I h
 refine bKn PySem.F.slot_dict_getitem.lookup t (jM I l q (thn (z b s σ H _ I h) λiv s2 ⟨y,H2,I2,ry,x',f,ex,hv,q2⟩=>?_) c)
 subst ex
 obtain⟨o,v,r,j,u,g,m,n,A⟩:=T.at_
 have d:s2.heap.DictOf (zS X.prog X.w) D a:=⟨o,v,r,I2.kIn _ _ j,u,g,m,n,A⟩
 exact⟨d.typeIs,wpAny_getItem_of (bZu (k:=Sum.inr x') ry) d.mapOf hv ⟨.ref f,H2,I2.tok _,Ce,q2⟩⟩
inductive bVE(P:cXB)(w:cXN)(K:cXc)(mg:Str->Option cXb)(base:Heap)(k i:Nat)(E:XK)(t:TA)(σ:L2.St)(H:Hp)(Q:VK):Prop|mk(f)(h:σ[i]? =some (some (.ref f)))(h:cX7 K (.ref f)=true)(h:t σ H λvs H1=>∃fd ps sp,xL P w K mg base (CXR P w) k f fd ps sp/\uY K fd ps []/\sp vs H1 Q E)
def bJe{k i:Nat}{t:TA}{E:XK}(y:uT k X.A)(m:X.N[i]? =some x)(D:Vis X.env.scope x)(z:uC (CXR X.prog X.w) X E)(J:PA X (e::c) t)
  (d:(x==(AK:Str))=false:=by decide) (j:(x==(BA:Str))=false:=by decide) (B:cXR (e::c) X.env=(false,eval e X.env)::cXR c X.env:=by rfl) (g:(cZW pos (cXR c X.env)).any (·.1)=false:=by rfl):
  PE X (.Call (.Name x p) (e::c) [] pos) (bVE X.prog X.w X.K X.mg X.base k i E t):=by
 intro a s σ H Q I h
 obtain⟨f,o,n,q⟩:=h
 refine cZH (thn (bVt (pos:=p) m D d j a s σ H (λv l=>v= .ref f/\l=H) I ⟨_,o,Ce,rfl⟩) ?_)
 rintro u C ⟨v,l,G,L,rfl,rfl⟩
 obtain rfl:u=Value.ref f:=L
 refine cJ9 (h₀:=X.base) I.ok.mod.kin n (thn (J pos a C σ l _ G q) λus s2 ⟨vs,H2,I2,r,fd,ps,sp,F,b,q2⟩=>⟨I2.kIn,?_⟩) B g
 exact aZf F y b .nil z I2 r (by rw[cZg];exact q2)
def aY6:zO->Str
 |.enter b _ _ _=>b
 |.reply _ _ _=>Bg
 |.hang _ _=>"hang"
 |.loose _=>C5
 |.date _ _=>Ap
 |.term _ _=>AU
 |.copy _ _=>"copy"
 |.file _ _=>BV
 |.void _=>Ay
 |.shut _=>Ai
 |.state _=>Bc
 |.thread _=>B9
 |.copies _=>BK
 |.letters _=>Ao
 |.on a _=>if a then AW else AZ
def Wf:zO->Prop
 |.enter a _ _ _=>a="in"\/a=BL
 |_=>True
def bZg(e:zO):atI (xP e) 0=some (.str (aY6 e)):=by cases e<;> rfl
def bKz(P:cXB)(w:cXN)(K:cXc)(mg:Str->Option cXb)(base:Heap)(n:Nat)(Rf:Nat×Nat)(c CL:Nat)(a:List (Key×cXb)):Prop:=∀e:zO,Wf e->∃ (f:Nat)(b:cJc)(p:zO->Prop),cVG a (Sum.inr (aY6 e))=some (.ref f)/\
 xL P w K mg base (CXR P w) n f b [AL,AN] (aJW K Rf c CL p)/\p e/\uY K b [AL,AN] []/\cX7 K (.ref f)=true
inductive aQX(Rf:Nat×Nat)(CB CL:Nat)(vs:List V)(H:Hp)(Q:VK)(h:XK):Prop|mk(ba da la sa:Nat)(ls cs:List Nat)(R:Rows)(S:List Int)(e:zO)(h:vs= [.ref ba,.ref da])(h:Wf e)(h:H da=some (.tup (xP e)))(h:PB CB CL H ba la sa ls cs R S)(h:Sz R S)(h:Bk.Z7 R)(h:vG Rf.2 H)(h:∀ (a:Ans)(R':Rows)(S':List Int)(v:V)(H':Hp)(ls' cs':List Nat),xZ R S e a R' S'->PB CB CL H' ba la sa ls' cs' R' S'->Q5 (own la sa ls cs) H H'->Z6 H (own la sa ls cs) (own la sa ls' cs')->vG Rf.2 H'->uB (own la sa ls' cs') H' a v->qD H v->Q v H')
section
variable {K:cXc}
abbrev aVM:Stmt:=xM CO
def bXl:yO [AL,AN,"do","refusal"] [AL,AN] (yH aVM):=scM
def bQv(N:mg "DEEDS"=some (.ref D))(G:bY6 P w K D kvs)(hR:mg Ak=some (.ref Rf.1))(O:jJ K Rf.1)(all:bKz P w K mg base n Rf CB CL kvs)(F:Fun K CO CO aVM f fd): xL P w K mg base CX0 (n+1) f fd [AL,AN] (aQX Rf CB CL):=by
 have v:=bXl;refine F.ok (k:=n) v (λa0 A outer s H vs Q E M h=>?_);obtain⟨X,r,T,Z,x,u,R,S,e,rfl,b,m,p,B,c,tb,q⟩:=h;refine⟨_,(yC (yU (i:=2) (bYg rfl N G (yL yX (pv 1) yG) (λ_ _=>rfl))) (yF (bYj (i:=3) v.nd rfl rfl rfl hR O rfl rfl rfl (by decide) (by decide) (by decide) (λ_=>rfl) (tb:=λE=>cQJ (bVE P w K mg base n 2 E (aYr (bKr 0) (aYr (bKr 1) bXW)))) (λpn xe E Y=>yF (yP (bJe M rfl (Or.inl rfl) Y (yA (pv 0) (yA (pv 1) yD)))))))),?_⟩;obtain⟨o,a,pe,V,I,j,g,l⟩:=all e b;refine⟨_,Ce,r,_,0,_,Ce,Ce,Cd m,bZg e,aY6 e,o,Ce,V,?_⟩;dsimp only[yW];refine⟨o,Ce,l,_,Ce,_,Ce,a,_,_,I,g,X,r,T,Z,x,u,R,S,e,Ce,j,m,p,B,c,tb,q,λt d=>?_⟩;intro C y J U W k L;exact⟨C,y,t,Ce,Ce,U,W,L,q (.txt t) R S _ J x u d (p.sameT k.1) (Q5.of k.1) Z6.refl (k.2 tb) rfl (λ_ z=>nomatch z)⟩
inductive Run:Rows->List Int->List zO->List Ans->Rows->List Int->Prop
 |nil {R:Rows} {S:List Int}:Run R S [] [] R S
 |snoc {R R' R'':Rows} {S S' S'':List Int} {es:List zO} {as:List Ans} {e:zO} {a:Ans} (h:Run R S es as R' S') (d:xZ R' S' e a R'' S''):Run R S (es++ [e]) (as++ [a]) R'' S''
def Run.len{R c:Rows}(h:Run R S b a c f):b.length=a.length:=by
 induction h with
 |nil=>rfl
 |snoc h d e=>simp[e]
structure Up(t:Nat)(R:Rows)(S:List Int):Prop where
 r:R.length<=t
 s:S.length<=t
 c:∀r∈R,r.copies.length<=t
def Up.set{t:Nat}{R:Rows}(u:Up t R S)(k:Nat)(f:Row->Row)(a:∀r,(f r).copies.length<=r.copies.length+1):Up (t+1) (Bk.xV R k f) S:=
 ⟨by rw[Bk.wR];exact cZP u.r,cZP u.s,λr b=>by
  rcases Bk.J7 b with h|⟨q,h,rfl⟩
  ·exact cZP (u.c r h)
  ·exact cXJ (a q) (Nat.succ_le_succ (u.c q h))⟩
theorem aXc:∀ (l:List Nat)(R:Rows)(t:Nat),(∀r∈R,r.copies.length<=t)->∀r∈Bk.laid R l name,r.copies.length<=t
 |[],R,t,h,r,hr=>h r hr
 |k::l,R,t,h,r,hr=>aXc l (Bk.xV R k λr=>{r with place:=name}) t (λq a=>by
   rcases Bk.J7 a with z|⟨b,z,rfl⟩
   ·exact h q z
   ·exact h b z) r hr
def Up.laid{t:Nat}{R:Rows}(u:Up t R S)(l:List Nat)(name:Str):Up t (Bk.laid R l name) S:=⟨by rw[Bk.wI];exact u.r,u.s,aXc l R t u.c⟩
def Up.le{t:Nat}{R:Rows}(u:Up t R S):Up (t+1) R S:=⟨cZP u.r,cZP u.s,λr h=>cZP (u.c r h)⟩
def Up.snoc{t:Nat}{R:Rows}(u:Up t R S)(r:Row)(h:r.copies= []):Up (t+1) (R++ [r]) S:=⟨by simpa using u.r,cZP u.s,λq a=>by
 rcases cXH.mp a with z|z
 ·exact cZP (u.c q z)
 ·rw[cXo.mp z,h];exact cZc _⟩
def Up.done{t:Nat}{R b:Rows}(u:Up t R S)(h:xZ R S e a b d):Up (t+1) b d:=by
 cases h with
 |enter _=>exact u.snoc _ rfl
 |reply _ _ _ _=>exact u.snoc _ rfl
 |hang _ _ _ _ _ _ _ _ _=>exact(u.laid _ _).set _ _ λ_=>cJg _
 |loose _ _ _=>exact u.set _ _ λ_=>cJg _
 |date _ _ _ _=>exact u.set _ _ λ_=>cJg _
 |term _ _ _=>exact u.set _ _ λ_=>cJg _
 |copy _ _ _ _=>exact u.set _ _ λr=>by simp
 |file _ _=>exact(u.laid _ _).le
 |void _ _ _=>exact u.set _ _ λ_=>cJg _
 |shut _=>exact⟨cZP u.r,by simpa using u.s,λr h=>cZP (u.c r h)⟩
 |_=>exact u.le
def Up.sz{t:Nat}{R:Rows}(u:Up t R S)(h:t<64):Sz R S:=⟨by have:=u.r;omega,by have:=u.s;omega,λr a=>by have:=u.c r a;omega⟩
end
end Desk
namespace Law
open PySem L2 PyProof.Rows
open Bk (Row Rows xZ zO Ans)
open Desk (xP uB qD Wf)
abbrev aZM:Stmt:=xM BN
def aXR(e:Nat)(c a:List Nat)(H d:Hp):Prop:=(∀x o,x∉e::c->H x=some o->d x=some o)/\(∀b∈a,b∈c\/H b=none)/\∀s u,H s=some u->NoC c H s->NoC a d s
def But.step(k:But a H c):aXR d a a H c:=⟨λx o n e=>k.1 x o (λz=>n (cXl _ z)) e,λb h=> .inl h,k.2.2⟩
def aXR.pre(i:∀b∈c,∃o,H b=some o)(k:xJ H g)(s:aXR f c a g d):aXR f c a H d:=
 ⟨λx o n e=>s.1 x o n (k _ _ e),λb h=>(s.2.1 b h).imp id λz=>k.fresh z,λx u e n=>s.2.2 x u (k _ _ e) ((But.of i k).2.2 x u e n)⟩
inductive aXL(vs:List V)(H:Hp)(Q:VK)(h:XK):Prop|mk(ra da:Nat)(rs:List Nat)(R:Rows)(e:zO)(h:vs= [.ref ra,.ref da])(h:H da=some (.tup (xP e)))(h:Wf e)(h:((∃way d who t,e= .enter way d who t)\/∃m d t,e= .reply m d t))(h:xF H ra rs R)(h:R.length<=60)(h:∀ (H':Hp)(a:Ans)(v:V)(R':Rows)(rs':List Nat),aXR ra rs rs' H H'->xF H' ra rs' R'->(∀S,xZ R S e a R' S)->uB [] H' a v->qD H v->Q v H')
def aKd{R:Rows}(h:xF H g p R)(Q:r.copies= [])(v:H f=none)(G:upd H f (.lst []) b=none): xF (upd (upd (upd H f (.lst [])) b (.lst (jX r f))) g (.lst ((p++ [b]).map V.ref))) g (p++ [b]) (R++ [r])/\aXR g p (p++ [b]) H (upd (upd (upd H f (.lst [])) b (.lst (jX r f))) g (.lst ((p++ [b]).map V.ref))):=by
 have M:=yE v (.lst []);have O:=yE G (.lst (jX r f));have F:=M.trans O;have m:H b=none:=M.fresh G;have w:b≠g:=λz=>by rw[z,h.lst]at m;cases m
 have L:f≠g:=λz=>by rw[z,h.lst]at v;cases v
 have J:f≠b:=λz=>by rw[<- z,yB]at G;cases G
 have nb:b∉p:=λz=>by obtain⟨o,e⟩:=h.dom b z;rw[m]at e;cases e
 have rne:∀ {a r' k},H a=some (.lst (jX r' k))->a≠g:=λq z=>by rw[z,h.lst]at q;exact aXt (cXv q).symm
 refine⟨⟨yB,by simp[h.len],?_,λi c q d j=>?_⟩,λx o n e=>?_,λc t=>?_,λs u e n c t l E=>?_⟩
 ·exact cJJ.mpr ⟨h.nd,cZD _ _,λa S c v z=>nb (by rw[<- cXo.mp v,<- z];exact S)⟩
 ·by_cases C:i<R.length
  ·rw[cXU (by rw[h.len];exact C)]at d;rw[cXU C]at j;obtain⟨k,D,B⟩:=h.row i c q d j;have K:k≠g:=λz=>by
    rw[z,h.lst]at B;have hl:=congrArg cJk (HO.lst.inj (cXv B));have:=cXs d;cases p with
    |nil=>cases this
    |cons x W=>
     cases A:q.copies with
     |nil=>rw[A]at hl;simp at hl
     |cons y U=>rw[A]at B;have:=HO.lst.inj (cXv B);simp at this
   exact⟨k,by rw[yJ (rne D)];exact F _ _ D,by rw[yJ K];exact F _ _ B⟩
  ·have I:i=R.length:=by
    have:=(cXn.mp j).1;simp at this;omega
   subst I;rw[cXz (by rw[h.len];exact cXh _),h.len,cZz]at d;rw[cXz (cXh _),cZz]at j;cases d;cases j;exact⟨f,by rw[yJ w,yB];rfl,by rw[yJ L,yJ J,yB,Q];rfl⟩
 ·have P:x≠g:=λz=>n (by rw[z];exact cXp);rw[yJ P];exact F _ _ e
 ·rcases cXH.mp t with z|z
  ·exact .inl z
  ·exact .inr (by rw[cXo.mp z];exact m)
 ·rcases cXH.mp t with z|z
  ·have z2:c≠g:=λy=>by
    obtain⟨i,C,T⟩:=cX2 z;obtain⟨k,D,_⟩:=h.row i c _ (by rw[cQ9 C,T]) (cQ9 (show i<R.length by rw[<- h.len];exact C));exact rne D y
   obtain⟨o,N⟩:=h.dom c z;rw[yJ z2,F _ _ N]at E;exact n c z l (by rw[N];exact E)
  ·rw[cXo.mp z,yJ w,yB]at E;cases E;intro y;have:f=s:=by injection y with y;injection y
   rw[<- this,v]at e;cases e
section
variable {K:cXc}
def qE:cXV As=some (.type As):=dk
def aYf:yO [A1,AI,"_law_way",AR,"_law_partner","_law_link","_law_place",Aq] [A1,AI] (yH aZM):=scM
def aKS(T:uK mg)(a7:mg As=none)(D:FnG P w K mg base 2 Ah [A1,AB] aQJ)(F:Fun K BN BN aZM f fd):xL P w K mg base CX0 3 f fd [A1,AI] aXL:=by
 have sc:=aYf;refine F.ok (k:=2) sc (λb7 A outer s H vs Q E hr h=>?_);obtain⟨M,o,X,R,e,rfl,y,b5,v,I,hR,q⟩:=h;refine⟨_,(yC (uR (xK (yA (yL yX (pv 1) yG) (yA (yL yX (pv 1) yG) (yA (yL yX (pv 1) yG) (yA zN (yA yQ yD)))))) (aWB rfl (wK (xI (i:=2)) (wK (xI (i:=3)) (wK (xI (i:=4)) (wK (xI (i:=5)) (wK (xI (i:=6)) aZF))))))) (yC (xA (yM zU (pv 2) yQ) (yC (xA (vI (zA (xU D hr rfl (yA (pv 0) (yA (yL yX (pv 1) yG) yD))))) (yF (yP yQ)) yS) (yC (yU (i:=7) (yL yK (pv 0) (yL yX (pv 1) yG))) (yC (yU (i:=2) (yL yK (xB (yA yQ (yA yQ yD))) (zH uD rfl a7 qE (yA (wN zU (yL yK (pv 7) yG) yQ) yD)))) (yF (uR (xK (yA (yL yX (pv 1) yG) (yA (yL yK (pv 7) yG) (yA (yL yX (pv 1) yG) (yA (yL yK (pv 7) yG) yD))))) (aWB rfl (wK (xI (i:=3)) (wK (xI (i:=4)) (wK (xI (i:=5)) (wK (xI (i:=6)) aZF)))))))))) yS) (yC (xA (yM uN (yL yX (pv 1) yG) yG) (yF (yP yQ)) yS) (yC (xA (PW.pt (jF (yM vB (pv 5) zN) (uH (yM uN (pv 3) (yL yK (yL yK (pv 0) (pv 5)) yG))))) (yF (yP yQ)) yS) (yC (yZ (jD cXF cXP cXQ xR (pv 0) (yA (xB (yA (pv 2) (yA (pv 3) (yA (pv 4) (yA (yL yX (pv 1) yG) (yA (pv 5) (yA (pv 6) (yA vQ (yA (xB yD) yD))))))))) yD))) (yF (yP (yV uG (yR yN rfl T.b_len xG (yA (pv 0) yD)) yG)))))))),?_⟩;have h0:∃a b c,(xP e)[0]? =some (.str a)/\(xP e)[1]? =some (.int b)/\(xP e)[2]? =some c/\a=Desk.aY6 e:=by
  rcases v with⟨g,d,l,t,rfl⟩|⟨m,d,t,rfl⟩
  ·exact⟨_,_,_,Ce,Ce,Ce,rfl⟩
  ·exact⟨_,_,_,Ce,Ce,Ce,rfl⟩
 obtain⟨O,b0,J,d0,d1,d2,ea⟩:=h0;refine⟨_,Ce,o,_,0,_,Ce,Ce,Cd y,yT (j:=0) d0,_,Ce,o,_,1,_,Ce,Ce,Cd y,yT (j:=1) d1,_,Ce,o,_,2,_,Ce,Ce,Cd y,yT (j:=2) d2,z5,λtp a9=>?_⟩;have W:=yE a9 (.tup [.str O,.int b0,J,.non,.str ""]);refine⟨tp,[.str O,.int b0,J,.non,.str ""],Ce,Cd yB,Ce,.str O,[.int b0,J,.non,.str ""],Ce,.int b0,[J,.non,.str ""],Ce,J,[.non,.str ""],Ce,.non,[.str ""],Ce,.str "",[],Ce,Ce,?_⟩;generalize upd H tp (.tup [.str O,.int b0,J,.non,.str ""])=H1 at W ⊢;dsimp only[yW];refine zX (λp H'=>L2.Ez7 λ(g l place:Str)(d t:Int)(lk:Option Nat)(o7:Option V)=>p= [some (.ref M),some (.ref o),some (.str g),some (.int d),some (.str l),some (zY lk),some (.str place),o7]/\xJ H H'/\(xP e)[3]? =some (.int t)/\(∀k,lk=some k->k<R.length)/\
  (t<0->∀S,xZ R S e (.txt "no term") R S)/\(0<=t->(∃k,lk=some k/\d<Bk.dt R k)->∀S,xZ R S e (.txt "too early") R S)/\(0<=t->(∀k,lk=some k->Bk.dt R k<=d)->∀S,xZ R S e (.num R.length) (R++ [⟨g,d,l,t,lk,place,false,[]⟩]) S)) ?Z0 (λn=>?_)
 case Z0=>
  rintro p H2 ⟨g,l,place,d,t,lk,o7,rfl,B,d3,b6,t1,t2,t3⟩;have u:=I.same B;have a6:=B _ _ y;have stay:∀ {H3:Hp} {x:Str},xJ H H3->(∀S,xZ R S e (.txt x) R S)->Q (.str x) H3:=λ{H3 x} k dn=>q H3 (.txt x) _ R X (But.of I.dom k).step (I.same k) dn rfl (λ_ z=>nomatch z);refine⟨_,Ce,o,_,3,_,Ce,Ce,Cd a6,yT (j:=3) d3,_,_,Ce,Ce,_,Ce,?_⟩;refine X4 (λc=>?_) (λc=>?_)
  ·exact stay B (t1 (of_decide_eq_true c))
  have ht:0<=t:=by have:=of_decide_eq_false (Bool.eq_false_iff.mpr c);omega
  dsimp only[aWb];refine zX (λp H'=>p= [some (.ref M),some (.ref o),some (.str g),some (.int d),some (.str l),some (zY lk),some (.str place),o7]/\H'=H2/\∀k,lk=some k->Bk.dt R k<=d) ?rest2 (λn=>?_);case rest2=>
   rintro p H' ⟨rfl,rfl,Z⟩;refine⟨_,Ce,.inl ⟨rfl,_,Cc u.lst⟩,_,Ce,_,Ce,_,Ce,_,Ce,o,_,3,_,Ce,Ce,Cd a6,yT (j:=3) d3,_,Ce,_,Ce,z0,λcp Y=>⟨zn (by show 8<=100000;omega),λb hb=>?_⟩⟩;have hE:=aKd u (r:=⟨g,d,l,t,lk,place,false,[]⟩) rfl Y hb;have k3:=(yE Y (.lst [])).trans (yE hb (.lst (jX ⟨g,d,l,t,lk,place,false,[]⟩ cp)));refine⟨M,_,_,Ce,Ce,k3 _ _ u.lst,zlt (by rw[cXe,I.len];omega),?_⟩;have el:X.map V.ref++ [V.ref b]=(X++ [b]).map V.ref:=by simp
   rw[el];refine⟨_,Ce,M,_,Ce,.inl (Cc yB),?_⟩;refine⟨_,_,Ce,Ce,?_⟩;have en:(((((X++ [b]).map V.ref).length:Nat):Int) - 1)=(R.length:Int):=by rw[cXe,cXD,I.len];simp
   show Q (V.int _) _;rw[en];exact q _ (.num R.length) _ _ _ (hE.2.pre I.dom B) hE.1 (t3 ht Z) rfl (λ_ z=>nomatch z)
  cases lk with
  |none=>exact⟨_,Ce,Ce,_,Ce,onF rfl (onF rfl (n _ _ ⟨rfl,Ce,λk z=>nomatch z⟩))⟩
  |some j=>
   have b3:=b6 j rfl;have L:=cQ9 b3;obtain⟨bj,j1,j2,cj,j3,j4⟩:=u.get L;refine⟨_,Ce,Ce,_,Ce,onT rfl ⟨_,Ce,_,Ce,_,Ce,M,_,_,_,Ce,Ce,Cc u.lst,yT j1,bj,_,1,_,Ce,Ce,Cc j3,Ce,_,_,Ce,Ce,_,Ce,?_⟩⟩;cases a5:decide (d<R[j].date)with
   |true=>exact onT rfl (stay B (t2 ht ⟨j,Ce,by rw[Bk.uL L];exact of_decide_eq_true a5⟩))
   |false=>exact onF rfl (n _ _ ⟨rfl,Ce,λi N=>by cases N;rw[Bk.uL L];have:=of_decide_eq_false a5;omega⟩)
 refine⟨_,Ce,Ce,_,Ce,?_⟩;rcases v with⟨g,d,l,t,rfl⟩|⟨m,d,t,rfl⟩
 ·have a3:g="in"\/g=BL:=b5;obtain rfl:O=g:=by cases d0;rfl
  obtain rfl:b0=d:=by cases d1;rfl
  obtain rfl:J= .str l:=by cases d2;rfl
  refine onF (by rcases a3 with rfl|rfl<;> decide) ?_;exact n _ _ ⟨O,l,"",b0,t,none,none,Ce,W,Ce,(λk z=>nomatch z),(λh S=> .enterT h),(λh ⟨k,z,_⟩=>nomatch z),λh _ S=> .enter h⟩
 ·obtain rfl:O=Bg:=by cases d0;rfl
  obtain rfl:b0=m:=by cases d1;rfl
  obtain rfl:J= .int d:=by cases d2;rfl
  refine onT rfl ?_;have U:H1 o=some (.tup [.str Bg,.int b0,.int d,.int t]):=W _ _ y;have C:=I.same W;refine⟨_,Ce,_,Ce,o,_,1,_,Ce,Ce,Cd U,Ce,M,X,R,b0,Ce,C,_,Ce,?_⟩;cases Z:Bk.vU R b0 with
  |false=>exact onT rfl (q H1 (.txt "no letter") _ R X (But.of I.dom W).step C (λS=> .replyN Z) rfl (λ_ z=>nomatch z))
  |true=>
  obtain⟨i,r,rfl,b4,N,hv⟩:=Bk.vL Z;obtain⟨b,g1,g2,cp,g3,g4⟩:=C.get N;refine onF rfl ⟨_,Ce,_,Ce,o,_,1,_,Ce,Ce,Cd U,Ce,M,_,_,_,Ce,Ce,Cc C.lst,yT g1,?_⟩;dsimp only[yW];refine⟨z2,λl2 a8=>⟨_,Ce,b,_,0,_,Ce,Ce,Cc (yE a8 (.lst [.str "in",.str BL]) _ _ g3),Ce,Ce,.inr ⟨_,Ce,?_⟩⟩⟩;have B:=yE a8 (.lst [.str "in",.str BL]);have a4:=W.trans B;have G:upd H1 l2 (.lst [.str "in",.str BL]) l2=some (.lst [.str "in",.str BL]):=yB;generalize upd H1 l2 (.lst [.str "in",.str BL])=H3 at B a4 G ⊢;have b2:atI [V.str "in",V.str BL] (if decide (V.str r.way=V.str "in")=true then 1 else 0)=some (.str (Bk.qJ r.way)):=by
   rw[vZ];unfold Bk.qJ;by_cases z:r.way="in"
   ·rw[if_pos z,decide_eq_true z];rfl
   ·rw[if_neg z,decide_eq_false z];rfl
  have a1:=B _ _ U;have a2:=B _ _ g3;refine⟨l2,_,_,_,Ce,Ce,Cc G,b2,?_⟩;dsimp only[yW];refine⟨_,Ce,o,_,2,_,Ce,Ce,Cd a1,Ce,_,Ce,b,_,2,_,Ce,Ce,Cc a2,Ce,_,Ce,o,_,1,_,Ce,Ce,Cd a1,Ce,_,Ce,b,_,5,_,Ce,Ce,Cc a2,Ce,z4,λt4 b1=>?_⟩;have k4:=yE b1 (.tup [.int d,.str r.partner,.int (i:Nat),.str r.place]);refine⟨t4,[.int d,.str r.partner,.int (i:Nat),.str r.place],Ce,Cd yB,Ce,.int d,[.str r.partner,.int (i:Nat),.str r.place],Ce,.str r.partner,[.int (i:Nat),.str r.place],Ce,.int (i:Nat),[.str r.place],Ce,.str r.place,[],Ce,Ce,?_⟩;refine n _ _ ⟨Bk.qJ r.way,r.partner,r.place,d,t,some i,_,Ce,a4.trans k4,Ce,(λk z=>by cases z;exact b4),(λh S=> .replyT Z h),(λh ⟨k,z,y⟩ S=>?_),(λh y S=>?_)⟩
  ·cases z;rw[Bk.uL N]at y;exact .replyE N hv h y
  ·have:=y i rfl;rw[Bk.uL N]at this;exact .reply N hv h this
end
end Law
namespace Law
open PySem L2 PyProof.Rows
open Bk (Row Rows xZ zO Ans)
open Desk (xP uB qD Wf vV)
abbrev bW2:Stmt:=xM BG
def xF.tupNo{R:Rows}(h:xF H f a R)(e:H x=some (.tup ys)):x∉a:=λz=>by
 obtain⟨i,b,d⟩:=cX2 z;obtain⟨g,c,_⟩:=h.row i x _ (by rw[cQ9 b,d]) (cQ9 (show i<R.length by rw[<- h.len];exact b));rw[e]at c;cases c
def aVd{R:Rows}{k:Nat}(h:xF H j d R)(q:d[k]? =some b)(v:R[k]? =some r)(B:H b=some (.lst (jX r A)))(w:List Str)(f:H a=none): xF (upd (upd H a (.lst (w.map V.str))) b (.lst (jX r a))) j d (Bk.xV R k λr=>{r with copies:=w})/\aXR j d d H (upd (upd H a (.lst (w.map V.str))) b (.lst (jX r a))):=by
 have m:=yE f (.lst (w.map V.str));have t:=h.same m;refine⟨t.upd q v (λr=>{r with copies:=w}) yB,λx o n e=>?_,λc i=> .inl i,λs u e n c i l g=>?_⟩
 ·rw[yJ (λz=>n (cXl _ (by rw[z];exact cXs q)))];exact m _ _ e
 ·by_cases z:c=b
  ·subst z;rw[yB]at g;cases g;intro y;have:a=s:=by injection y with y;injection y
   rw[<- this,f]at e;cases e
  ·rw[yJ z]at g;obtain⟨o,p⟩:=h.dom c i;rw[m _ _ p]at g;exact n c i l (by rw[p];exact g)
def Q6(e:zO)(m:Int):Prop:=e= .loose m\/(∃d,e= .date m d)\/(∃t,e= .term m t)\/(∃w,e= .copy m w)\/(∃w,e= .file m w)\/e= .void m
inductive bXR(vs:List V)(H:Hp)(Q:VK)(h:XK):Prop|mk(ra da:Nat)(rs:List Nat)(R:Rows)(e:zO)(m:Int)(h:vs= [.ref ra,.ref da])(h:H da=some (.tup (xP e)))(h:Q6 e m)(h:xF H ra rs R)(h:R.length<=60)(h:Bk.Z7 R)(h:(∀r∈R,r.copies.length<=1000))(h:∀ (H':Hp)(a:Ans)(v:V)(R':Rows),aXR ra rs rs H H'->xF H' ra rs R'->(∀S,xZ R S e a R' S)->uB [] H' a v->qD H v->Q v H')
def Q6.at1(h:Q6 e m):(xP e)[1]? =some (.int m):=by
 rcases h with rfl|⟨d,rfl⟩|⟨d,rfl⟩|⟨d,rfl⟩|⟨d,rfl⟩|rfl<;> rfl
def Q6.no{R:Rows}(h:Q6 e m)(g:Bk.vU R m=false)(S:List Int):xZ R S e (.txt "no letter") R S:=by
 refine .oneN g ?_;rcases h with rfl|⟨d,rfl⟩|⟨d,rfl⟩|⟨d,rfl⟩|⟨d,rfl⟩|rfl<;> simp
section
variable {K:cXc}
def bKh:yO [A1,AI,Aq,BO,AH,"_law_row"] [A1,AI] (yH bW2):=scM
def bWE(T:uK mg)(U:FnG P w K mg base 2 Ah [A1,AB] aQJ)(L:FnG P w K mg base 2 Bm [A1,AB,AR] bXF)(W:FnG P w K mg base 2 C7 [A1,AB] bVz) (I:FnG P w K mg base 2 Ar [A1,AB] Y2) (F:Fun K BG BG bW2 f fd):xL P w K mg base CX0 3 f fd [A1,AI] bXR:=by
 have sc:=bKh;refine F.ok (k:=2) sc (λc4 A outer s H vs Q E hr h=>?_);obtain⟨X,l,rs,R,e,m,rfl,n,B,y,hR,b0,a6,q⟩:=h;refine⟨_,(yC (xA (vI (zA (xU U hr rfl (yA (pv 0) (yA (yL yX (pv 1) yG) yD))))) (yF (yP yQ)) yS) (yC (yU (i:=2) (yL yK (pv 0) (yL yX (pv 1) yG))) (yC (xA (yM zU (yL yX (pv 1) yG) yQ) (yF (yP (xU L hr rfl (yA (pv 0) (yA (yL yX (pv 1) yG) (yA (yL yX (pv 1) yG) yD)))))) yS) (yC (xA (yM zU (yL yX (pv 1) yG) yQ) (yF (yP (xU W hr rfl (yA (pv 0) (yA (yL yX (pv 1) yG) yD))))) yS) (yC (xA (yM zU (yL yX (pv 1) yG) yQ) (yC (xA (yM aZb (yL yK (pv 2) yG) zN) (yF (yP yQ)) yS) (yC (uR zN (X2 (pv 2) yG wT)) (yF (yP yQ)))) yS) (yC (xA (yM zU (yL yX (pv 1) yG) yQ) (yC (xA (yM uN (yL yX (pv 1) yG) yG) (yF (yP yQ)) yS) (yC (uR (yL yX (pv 1) yG) (X2 (pv 2) yG wT)) (yF (yP yQ)))) yS) (yC (xA (yM zU (yL yX (pv 1) yG) yQ) (yC (xA (PW.pt (Y7 (yM zU (yL yX (pv 1) yG) (yL yK (pv 2) yG)) (uS (yM uF (yL yX (pv 1) yG) (yL yK (pv 2) yG))))) (yF (yP yQ)) yS) (yC (uR (yV aZa (yL yK (pv 2) yG) (xB (yA (yL yX (pv 1) yG) yD))) (X2 (pv 2) yG wT)) (yF (yP (yR yN rfl T.b_len xG (yA (yL yK (pv 2) yG) yD)))))) yS) (yC (yU (i:=3) (xU I hr rfl (yA (pv 0) (yA (yL yX (pv 1) yG) yD)))) (yC (wV cX0 rfl (xN (pv 3)) (xI (i:=4)) (yC (yU (i:=5) (yL yK (pv 0) (pv 4))) (yF (uR (yL yX (pv 1) yG) (X2 (pv 5) yG wT))))) (yF (yP (yR yN rfl T.b_len xG (yA (pv 3) yD))))))))))))),?_⟩;have b5:aXR X rs rs H H:=(But.of y.dom (xJ.refl _)).step;have txt:∀ {x:Str},(∀S,xZ R S e (.txt x) R S)->Q (.str x) H:=λ{x} dn=>q H (.txt x) _ R b5 y dn rfl (λ_ z=>nomatch z);refine⟨_,Ce,_,Ce,l,_,1,_,Ce,Ce,Cd n,yT (j:=1) B.at1,X,rs,R,m,Ce,y,_,Ce,?_⟩;cases h1:Bk.vU R m with
 |false=>exact onT rfl (txt λS=>B.no h1 S)
 |true=>
 obtain⟨i,r,rfl,a7,u,D⟩:=Bk.vL h1;obtain⟨b,g1,g2,cp,O,g4⟩:=y.get u;refine onF rfl ⟨_,Ce,_,Ce,l,_,1,_,Ce,Ce,Cd n,yT (j:=1) B.at1,X,_,_,_,Ce,Ce,Cc y.lst,yT g1,?_⟩;dsimp only[yW];have a5:∀j,r.link=some j->j<R.length:=λj hj=>by obtain⟨p,hp,_⟩:=b0.ans i j r u hj;exact(cXn.mp hp).1
 have up:∀ {x:Str} (g:Row->Row),(∀r,(g r).copies=r.copies)->(∀S,xZ R S e (.txt x) (Bk.xV R i g) S)->Q (.str x) (upd H b (.lst (jX (g r) cp))):=λ{x} g hg dn=>
  q _ (.txt x) _ _ (But.upd (l':=jX (g r) cp) y.dom g2 O rfl).step (y.upd g2 u g (by rw[hg];exact g4)) dn rfl (λ_ z=>nomatch z)
 rcases B with rfl|⟨d,rfl⟩|⟨t,rfl⟩|⟨o,rfl⟩|⟨Z,rfl⟩|rfl
 ·refine⟨_,Ce,l,_,0,_,Ce,Ce,Cd n,Ce,Ce,_,Ce,onF (by decide) ⟨_,Ce,l,_,0,_,Ce,Ce,Cd n,Ce,Ce,_,Ce,onF (by decide) ⟨_,Ce,l,_,0,_,Ce,Ce,Cd n,Ce,Ce,_,Ce,onT (by decide) ⟨_,Ce,b,_,4,_,Ce,Ce,Cc O,Ce,Ce,_,Ce,?_⟩⟩⟩⟩;cases a8:r.link with
  |none=>exact onT rfl (txt λS=> .looseN u D a8)
  |some j=>refine onF rfl ⟨_,Ce,b,_,4,4,Ce,Ce,O,Ce,?_⟩;exact up (λr=>{r with link:=none}) (λ_=>rfl) λS=> .loose u D (by rw[a8];simp)
 ·refine⟨_,Ce,l,_,0,_,Ce,Ce,Cd n,Ce,Ce,_,Ce,onT (by decide) ⟨_,Ce,_,Ce,l,_,1,_,Ce,Ce,Cd n,Ce,_,Ce,l,_,2,_,Ce,Ce,Cd n,Ce,X,rs,R,i,r,d,Ce,y,by omega,u,a5,λH' a R' M a0 N=>?_⟩⟩;refine q H' (.txt a) _ R' M.step a0 (λS=>?_) rfl (λ_ z=>nomatch z);rcases N with⟨Y,rfl,rfl⟩|⟨Y,rfl,rfl⟩
  ·exact .dateE u D Y
  ·refine .date u D (λj hj=>?_) (λc N=>?_)
   ·exact cJ7.mp λz=>Y (.inl ⟨j,hj,z⟩)
   ·exact cJ7.mp λz=>Y (.inr ⟨c,N,z⟩)
 ·refine⟨_,Ce,l,_,0,_,Ce,Ce,Cd n,Ce,Ce,_,Ce,onF (by decide) ⟨_,Ce,l,_,0,_,Ce,Ce,Cd n,Ce,Ce,_,Ce,onF (by decide) ⟨_,Ce,l,_,0,_,Ce,Ce,Cd n,Ce,Ce,_,Ce,onF (by decide) ⟨_,Ce,l,_,0,_,Ce,Ce,Cd n,Ce,Ce,_,Ce,onT (by decide) ⟨_,Ce,l,_,2,_,Ce,Ce,Cd n,Ce,_,_,Ce,Ce,_,Ce,?_⟩⟩⟩⟩⟩;refine X4 (λc=>?_) (λc=>?_)
  ·exact txt λS=> .termN u D (of_decide_eq_true c)
  ·refine⟨_,Ce,l,_,2,_,Ce,Ce,Cd n,Ce,_,Ce,b,_,3,3,Ce,Ce,O,Ce,?_⟩;exact up (λr=>{r with term:=t}) (λ_=>rfl) λS=> .term u D (by have:=of_decide_eq_false (Bool.eq_false_iff.mpr c);omega)
 ·refine⟨_,Ce,l,_,0,_,Ce,Ce,Cd n,Ce,Ce,_,Ce,onF (by decide) ⟨_,Ce,l,_,0,_,Ce,Ce,Cd n,Ce,Ce,_,Ce,onF (by decide) ⟨_,Ce,l,_,0,_,Ce,Ce,Cd n,Ce,Ce,_,Ce,onF (by decide) ⟨_,Ce,l,_,0,_,Ce,Ce,Cd n,Ce,Ce,_,Ce,onF (by decide) ⟨_,Ce,l,_,0,_,Ce,Ce,Cd n,Ce,Ce,_,Ce,onT (by decide) ⟨_,Ce,l,_,2,_,Ce,Ce,Cd n,Ce,_,Ce,b,_,2,_,Ce,Ce,Cc O,Ce,Ce,_,Ce,?_⟩⟩⟩⟩⟩⟩;rw[vZ];cases a9:decide (o=r.partner)with
  |true=>exact onT rfl (onT rfl (txt λS=> .copyC u D (.inl (of_decide_eq_true a9))))
  |false=>
  refine onF rfl ⟨_,Ce,l,_,2,_,Ce,Ce,Cd n,Ce,_,Ce,b,_,7,_,Ce,Ce,Cc O,Ce,cp,_,Ce,.inl (Cc g4),Ce,cVs.mpr (λv D=>by obtain⟨x,_,rfl⟩:=cX3.mp D;rfl),?_⟩;rw[if_neg (by decide),vV];refine⟨_,Ce,?_⟩;cases a3:r.copies.contains o with
  |true=>exact onT rfl (txt λS=> .copyC u D (.inr (by simpa using a3)))
  |false=>
  have c1:r.copies.length<=1000:=a6 r (cXs u);refine onF rfl ⟨_,Ce,b,_,7,_,Ce,Ce,Cc O,Ce,_,Ce,l,_,2,_,Ce,Ce,Cd n,Ce,z1,λl1 b6=>?_⟩;have k1:=yE b6 (.lst [.str o]);refine⟨cp,l1,_,_,Ce,Ce,k1 _ _ g4,yB,by rw[cXe,cXC];simp;omega,λc2 C=>?_⟩;have a1:=aVd (y.same k1) g2 u (k1 _ _ O) (r.copies++ [o]) C;have e5:r.copies.map V.str++ [V.str o]=(r.copies++ [o]).map V.str:=by simp
  rw[e5];have k2:=yE C (.lst ((r.copies++ [o]).map V.str));have b7:c2≠b:=λz=>by rw[z,k1 _ _ O]at C;cases C
  refine⟨_,Ce,b,_,7,7,Ce,Ce,k2 _ _ (k1 _ _ O),Ce,?_⟩;refine⟨_,Ce,b,_,7,_,Ce,Ce,Cc yB,Ce,c2,(r.copies++ [o]).map V.str,Ce,.inl (Cc (by rw[yJ b7];exact yB)),?_⟩;have en:(((((r.copies++ [o]).map V.str).length:Nat)):Int)=(r.copies.length+1:Nat):=by simp
  rw[en];have hE:Bk.xV R i (λq=>{q with copies:=r.copies++ [o] })=Bk.xV R i (λq=>{q with copies:=q.copies++ [o] }):=by unfold Bk.xV;rw[u]
  rw[hE]at a1;exact q _ (.num _) _ _ (a1.2.pre y.dom k1) a1.1 (λS=> .copy u D (of_decide_eq_false a9) (by simpa using a3)) rfl (λ_ z=>nomatch z)
 ·obtain⟨rk,ok⟩:=b0.tree;refine⟨_,Ce,l,_,0,_,Ce,Ce,Cd n,Ce,Ce,_,Ce,onF (by decide) ⟨_,Ce,l,_,0,_,Ce,Ce,Cd n,Ce,Ce,_,Ce,onF (by decide) ⟨_,Ce,l,_,0,_,Ce,Ce,Cd n,Ce,Ce,_,Ce,onF (by decide) ⟨_,Ce,l,_,0,_,Ce,Ce,Cd n,Ce,Ce,_,Ce,onF (by decide) ⟨_,Ce,l,_,0,_,Ce,Ce,Cd n,Ce,Ce,_,Ce,onF (by decide) ⟨_,Ce,_,Ce,l,_,1,_,Ce,Ce,Cd n,Ce,X,rs,R.length,Bk.lk R,rk,Bk.dt R,i,Ce,y.rows,ok,hR,a7,λH2 l2 c0 k2 c3 b1 b4 a2=>?_⟩⟩⟩⟩⟩⟩;have b2:=Bk.aZl a7 ⟨rk,ok,b4,a2⟩;subst b2;dsimp only[yW];have a4:=y.same k2;have b9:H2 l=some (.tup [.str BV,.int (i:Nat),.str Z]):=k2 _ _ n;have b3:=y.tupNo n;refine⟨_,Ce,l2,Ce,⟨_,Cc b1⟩,?_⟩;refine zV (xs:=(Bk.thr R i).map λi=>V.int (i:Nat)) (λt σ H3=>L2.Ez2 λ(o5 o6:Option V)=>σ= [some (.ref X),some (.ref l),some (.ref b),some (.ref l2),o5,o6]/\xF H3 X rs (Bk.laid R ((Bk.thr R i).take t) Z)/\But rs H2 H3/\H3 l2=some (.lst ((Bk.thr R i).map λi=>V.int (i:Nat)))) ?_ ?_ ?_ ?_
  ·exact⟨none,none,Ce,a4,But.of a4.dom (xJ.refl _),b1⟩
  ·rintro t σ H3 ht ⟨o5,o6,rfl,G,k3,J⟩;exact Cc J
  ·rintro t x σ H3 hx ⟨o5,o6,rfl,G,k3,J⟩;rw[cXu]at hx;cases N:(Bk.thr R i)[t]? with
   |none=>rw[N]at hx;cases hx
   |some k=>rw[N]at hx;cases hx;have b8:k<R.length:=((a2 k).mp (cXs N)).1;obtain⟨bk,ck,c5,e1,e2,e3,e4,e5,e6⟩:=aWo (K:=K) G N b8 J;dsimp only[yW];refine⟨_,Ce,_,Ce,X,_,_,_,Ce,Ce,Cc G.lst,yT e1,?_⟩;dsimp only[yW];exact⟨_,Ce,l,_,2,_,Ce,Ce,Cd (k3.1 _ _ b3 b9),Ce,_,Ce,bk,_,5,5,Ce,Ce,e2,Ce,_,_,Ce,e3,k3.trans e4,e5⟩
  ·rintro σ H3 ⟨o5,o6,rfl,G,k3,J⟩;rw[cXe,cX4]at G;refine⟨_,Ce,l2,_,Ce,.inl (Cc J),?_⟩;rw[cXe];exact q _ (.num _) _ _ (((But.of y.dom k2).trans k3).step) G (λS=> .file u D) rfl (λ_ z=>nomatch z)
 ·refine⟨_,Ce,l,_,0,_,Ce,Ce,Cd n,Ce,Ce,_,Ce,onF (by decide) ⟨_,Ce,l,_,0,_,Ce,Ce,Cd n,Ce,Ce,_,Ce,onT (by decide) ⟨_,Ce,_,Ce,l,_,1,_,Ce,Ce,Cd n,Ce,X,rs,R,i,r,Ce,y,by omega,u,λH' a R' M a0 N=>?_⟩⟩⟩;refine q H' (.txt a) _ R' M.step a0 (λS=>?_) rfl (λ_ z=>nomatch z);rcases N with⟨Y,rfl,rfl⟩|⟨Y,rfl,rfl⟩
  ·exact .voidA u D Y
  ·exact .void u D Y
end
end Law
namespace Law
open PySem L2 PyProof.Rows
open Bk (Row Rows xZ zO Ans)
open Desk (xP uB qD Wf vV stV)
abbrev bXf:Stmt:=xM BP
def aYx(e:zO):Prop:=(∃m,e= .state m)\/(∃m,e= .thread m)\/(∃m,e= .copies m)\/(∃w,e= .letters w)\/∃a d,e= .on a d
inductive bXO(vs:List V)(H:Hp)(Q:VK)(h:XK):Prop|mk(ra sa da:Nat)(rs:List Nat)(R:Rows)(S:List Int)(e:zO)(h:vs= [.ref ra,.ref sa,.ref da])(h:H da=some (.tup (xP e)))(h:aYx e)(h:xF H ra rs R)(h:H sa=some (.lst (S.map V.int)))(h:R.length<=60)(h:Bk.Z7 R)(h:∀ (H':Hp)(a:Ans)(v:V),xJ H H'->xZ R S e a R S->uB [] H' a v->qD H v->Q v H')
def wM:cXV AC=some (.type AC):=dk
def vT:cXV AE=some (.type AE):=dk
section
variable {K:cXc}
def bKf:yO [A1,AJ,AI,CA] [A1,AJ,AI] (yH bXf):=scM
def bZB:xO [A1,AJ,AI,CA] (yH bXf) AH [A1] [0] (lsN [(".0",.local),(AH,.local),(A1,.free)]):=
 lcM
def bZC:xO [A1,AJ,AI,CA] (yH bXf) AH [AI,A1] [2,0] (lsN [(".0",.local),(AH,.local),(AI,.free),(A1,.free)]):=
 lcM
def aQx(R:Rows)(w:Str):V->Bool
 |.int n=>match R[n.toNat]? with|some r=>decide (r.place=w)|none=>false
 |_=>false
def bWC(T:uK mg)(a0:mg AC=none)(a4:mg AE=none)(M:FnG P w K mg base 2 Ah [A1,AB] aQJ)(u:FnG P w K mg base 3 BM [A1,AJ,AR,BZ] aWU) (G:FnG P w K mg base 2 Ar [A1,AB] Y2) (F:Fun K BP BP bXf f fd):xL P w K mg base CX0 4 f fd [A1,AJ,AI] bXO:=by
 have sc:=bKf;refine F.ok (k:=3) sc (λc0 A outer s H vs Q E hr h=>?_);obtain⟨B,sa,g,Z,R,S,e,rfl,C,a5,L,b6,hR,b4,q⟩:=h;have a6:uT 2 _:=hr.mono (by omega);refine⟨_,(yC (xA (yM zU (yL yX (pv 2) yG) yQ) (yC (aX1 (i:=3) bZB rfl sc.nd rfl rfl (wA rfl T.b_range (yA (yR yN rfl T.b_len xG (yA (pv 0) yD)) yD)) (λ_ _ _ _ _=>(vC (vI (zA (yL ixK (yL ixK (pv 1) (pv 0)) yG))))) (λ_ _ _ _ _=>(pv 0))) (yF (yP (aQk bZC rfl (xN (pv 3)) (λ_ _ _ _ _=>(vC (yM zU (yL ixK (yL ixK (pv 2) (pv 0)) yG) (yL ixT (pv 1) yG)))) (λ_ _ _ _ _=>(pv 0)))))) yS) (yC (xA (yM uF (yL yX (pv 2) yG) (xB (yA yQ (yA yQ yD)))) (yF (yP (xU u hr rfl (yA (pv 0) (yA (pv 1) (yA (yL yX (pv 2) yG) (yA (wN zU (yL yX (pv 2) yG) yQ) yD))))))) yS) (yC (xA (vI (zA (xU M a6 rfl (yA (pv 0) (yA (yL yX (pv 2) yG) yD))))) (yF (yP yQ)) yS) (yC (xA (yM zU (yL yX (pv 2) yG) yQ) (yF (yP (xU G a6 rfl (yA (pv 0) (yA (yL yX (pv 2) yG) yD))))) yS) (yC (xA (yM zU (yL yX (pv 2) yG) yQ) (yF (yP (zH uQ rfl a0 wM (yA (yL yK (yL yK (pv 0) (yL yX (pv 2) yG)) yG) yD)))) yS) (yF (yP (zH W1 rfl a4 vT (yA (qZ aXK (yL yK (pv 0) (yL yX (pv 2) yG)) aXq (X9 yG)) yD))))))))),?_⟩;have txt:∀ {y:Hp} {x:Str},xJ H y->xZ R S e (.txt x) R S->Q (.str x) y:=λ{y x} k dn=>q y (.txt x) _ k dn rfl (λ_ z=>nomatch z);have one:∀ {m:Int} {x:Str},xP e= [.str x,.int m]->True:=λ_=>trivial;rcases a5 with⟨m,rfl⟩|⟨m,rfl⟩|⟨m,rfl⟩|⟨j,rfl⟩|⟨o,d,rfl⟩
 ·refine⟨_,Ce,g,_,0,_,Ce,Ce,Cd C,Ce,Ce,_,Ce,onF (by decide) ?_⟩;refine⟨_,Ce,g,_,0,_,Ce,Ce,Cd C,Ce,z2,λJ t=>⟨J,_,Ce,.inl (Cc yB),Ce,Ce,_,Ce,onF (by decide) ?_⟩⟩;have n:=yE t (.lst [.str AZ,.str AW]);generalize upd H J (.lst [.str AZ,.str AW])=H1 at n ⊢;have a:H1 g=some (.tup [.str Bc,.int m]):=n _ _ C;have c:=L.same n;refine⟨_,Ce,_,Ce,g,_,1,_,Ce,Ce,Cd a,Ce,B,Z,R,m,Ce,c,_,Ce,?_⟩;cases Y:Bk.vU R m with
  |false=>exact onT rfl (txt n (.oneN Y (by simp)))
  |true=>
  obtain⟨i,r,rfl,N,hi,W⟩:=Bk.vL Y;obtain⟨b,g1,g2,cp,O,g4⟩:=c.get hi;refine onF rfl ⟨_,Ce,g,_,0,_,Ce,Ce,Cd a,Ce,Ce,_,Ce,onF (by decide) ⟨_,Ce,g,_,0,_,Ce,Ce,Cd a,Ce,Ce,_,Ce,onF (by decide) ?_⟩⟩;refine⟨_,Ce,_,Ce,g,_,1,_,Ce,Ce,Cd a,Ce,B,_,_,_,Ce,Ce,Cc c.lst,yT g1,_,Ce,b,_,Ce,Cc O,λp2 U=>⟨p2,_,Ce,.inl ⟨Cc yB,λp3 a3=>?_⟩⟩⟩;have b5:qC (jX r cp) none (some 6)=stV r:=by unfold stV Desk.aQs Desk.W6;rw[W];cases b3:r.link<;> (unfold jX;rw[b3];rfl)
  have k2:=yE U (.lst (qC (jX r cp) none (some 6)));have k3:=yE a3 (.tup (qC (jX r cp) none (some 6)));exact q _ (.row r) _ ((n.trans k2).trans k3) (.state hi W) ⟨p3,Ce,by simp,by rw[<- b5];exact yB⟩ (.none ((n.trans k2).fresh a3))
 ·refine⟨_,Ce,g,_,0,_,Ce,Ce,Cd C,Ce,Ce,_,Ce,onF (by decide) ?_⟩;refine⟨_,Ce,g,_,0,_,Ce,Ce,Cd C,Ce,z2,λJ t=>⟨J,_,Ce,.inl (Cc yB),Ce,Ce,_,Ce,onF (by decide) ?_⟩⟩;have n:=yE t (.lst [.str AZ,.str AW]);generalize upd H J (.lst [.str AZ,.str AW])=H1 at n ⊢;have a:H1 g=some (.tup [.str B9,.int m]):=n _ _ C;have c:=L.same n;refine⟨_,Ce,_,Ce,g,_,1,_,Ce,Ce,Cd a,Ce,B,Z,R,m,Ce,c,_,Ce,?_⟩;cases Y:Bk.vU R m with
  |false=>exact onT rfl (txt n (.oneN Y (by simp)))
  |true=>
  obtain⟨i,r,rfl,N,hi,W⟩:=Bk.vL Y;obtain⟨rk,ok⟩:=b4.tree;refine onF rfl ⟨_,Ce,g,_,0,_,Ce,Ce,Cd a,Ce,Ce,_,Ce,onT (by decide) ?_⟩;refine⟨_,Ce,_,Ce,g,_,1,_,Ce,Ce,Cd a,Ce,B,Z,R.length,Bk.lk R,rk,Bk.dt R,i,Ce,c.rows,ok,hR,N,λH2 l2 b9 k2 b2 b7 b1 a7=>?_⟩;have b0:=Bk.aZl N ⟨rk,ok,b1,a7⟩;subst b0;exact q _ (.nums (Bk.thr R i)) _ (n.trans k2) (.thread hi W) ⟨l2,Ce,by simp,b7⟩ (.none (n.fresh b2))
 ·refine⟨_,Ce,g,_,0,_,Ce,Ce,Cd C,Ce,Ce,_,Ce,onF (by decide) ?_⟩;refine⟨_,Ce,g,_,0,_,Ce,Ce,Cd C,Ce,z2,λJ t=>⟨J,_,Ce,.inl (Cc yB),Ce,Ce,_,Ce,onF (by decide) ?_⟩⟩;have n:=yE t (.lst [.str AZ,.str AW]);generalize upd H J (.lst [.str AZ,.str AW])=H1 at n ⊢;have a:H1 g=some (.tup [.str BK,.int m]):=n _ _ C;have c:=L.same n;refine⟨_,Ce,_,Ce,g,_,1,_,Ce,Ce,Cd a,Ce,B,Z,R,m,Ce,c,_,Ce,?_⟩;cases Y:Bk.vU R m with
  |false=>exact onT rfl (txt n (.oneN Y (by simp)))
  |true=>
  obtain⟨i,r,rfl,N,hi,W⟩:=Bk.vL Y;obtain⟨b,g1,g2,cp,O,g4⟩:=c.get hi;refine onF rfl ⟨_,Ce,g,_,0,_,Ce,Ce,Cd a,Ce,Ce,_,Ce,onF (by decide) ⟨_,Ce,g,_,0,_,Ce,Ce,Cd a,Ce,Ce,_,Ce,onT (by decide) ?_⟩⟩;refine⟨_,Ce,_,Ce,g,_,1,_,Ce,Ce,Cd a,Ce,B,_,_,_,Ce,Ce,Cc c.lst,yT g1,b,_,7,_,Ce,Ce,Cc O,Ce,cp,_,Ce,.inl (Cc g4),λp2 U=>?_⟩;have k2:=yE U (.lst (r.copies.map V.str));exact q _ (.txts r.copies) _ (n.trans k2) (.copies hi W) ⟨p2,Ce,by simp,yB⟩ (.none (n.fresh U))
 ·have b8:H g=some (.tup [.str Ao,.str j]):=C;refine⟨_,Ce,g,_,0,_,Ce,Ce,Cd C,Ce,Ce,_,Ce,onT (by decide) ?_⟩;have hl:(Z.map V.ref).length=R.length:=by rw[cXe];exact L.len
  refine⟨_,Ce,B,_,Ce,.inl (Cc L.lst),?_⟩;rw[hl];refine⟨_,Ce,by omega,by omega,λD hD=>?_⟩;rw[cXG];refine W8 (λk=>match R[k]? with|some r=> !r.void|none=>false) (λk=>V.int (k:Nat)) hD (by rw[cXC];omega) (λk I y R' X p=>?_) (λk I _ y R' X p=>⟨_,Ce,p⟩) ?_
  ·obtain⟨b,g1,g2,cp,O,g4⟩:=L.get (cQ9 I);have a2:y B=some (.lst (Z.map V.ref)):=by rw[X B (yI L.lst hD)];exact L.lst
   have hb:y b=_:=(X b (yI O hD)).trans O;rw[cQ9 I]at p;exact⟨_,Ce,_,Ce,B,_,_,_,Ce,Ce,Cc a2,yT g1,b,_,6,_,Ce,Ce,Cc hb,Ce,_,Ce,p⟩
  have k1:=yE hD (.lst (((cXm R.length).filter λk=>match R[k]? with|some r=> !r.void|none=>false).map λk=>V.int (k:Nat)));have a1:upd H D (.lst (((cXm R.length).filter λk=>match R[k]? with|some r=> !r.void|none=>false).map λk=>V.int (k:Nat))) D=some (.lst (((cXm R.length).filter λk=>match R[k]? with|some r=> !r.void|none=>false).map λk=>V.int (k:Nat))):=yB;generalize upd H D (.lst (((cXm R.length).filter λk=>match R[k]? with|some r=> !r.void|none=>false).map λk=>V.int (k:Nat)))=H1 at k1 a1 ⊢;have c:=L.same k1;have a:=k1 _ _ b8;dsimp only[yW];refine⟨_,Ce,D,Ce,⟨_,Cc a1⟩,λE hE=>?_⟩;refine aXf (aQx R j) id (Cc a1) hE ?_ (λv W y R' X p=>?_) (λv W _ y R' X p=>⟨_,Ce,p⟩) ?_
  ·rw[cXe,cXC];have:=cX6 (λk=>match R[k]? with|some r=> !r.void|none=>false) (cXm R.length);rw[cX1]at this;omega
  ·obtain⟨k,I,rfl⟩:=cX3.mp W;have I:k<R.length:=cXI.mp (cZd.mp I).1;obtain⟨b,g1,g2,cp,O,g4⟩:=c.get (cQ9 I);have a2:y B=some (.lst (Z.map V.ref)):=by rw[X B (yI c.lst hE)];exact c.lst
   have hb:y b=_:=(X b (yI O hE)).trans O;have a8:y g=_:=(X g (yI a hE)).trans a;have e1:aQx R j (V.int (k:Nat))=decide (R[k].place=j):=by show(match R[((k:Nat):Int).toNat]? with|some r=>decide (r.place=j)|none=>false)=_;rw[cXG,cQ9 I]
   rw[e1]at p;refine⟨_,Ce,_,Ce,B,_,_,_,Ce,Ce,Cc a2,yT g1,b,_,5,_,Ce,Ce,Cc hb,Ce,_,Ce,g,_,1,_,Ce,Ce,Cd a8,Ce,Ce,_,Ce,?_⟩;rw[vZ];exact p
  ·have ef:(((((cXm R.length).filter λk=>match R[k]? with|some r=> !r.void|none=>false).map λk=>V.int (k:Nat)).filter (aQx R j)).map id)=((cXm R.length).filter λk=>match R[k]? with|some r=> !r.void && decide (r.place=j)|none=>false).map λk=>V.int (k:Nat):=by
    rw[cVX,List.filter_map,List.filter_filter];congr 1;refine cVQ λk I=>?_;have I:k<R.length:=cXI.mp I;show(aQx R j (V.int (k:Nat)) && _)=_;show((match R[((k:Nat):Int).toNat]? with|some r=>decide (r.place=j)|none=>false) && _)=_;rw[cXG,cQ9 I];exact Bool.and_comm _ _
   rw[ef];exact q _ (.nums _) _ (k1.trans (yE hE _)) .letters ⟨E,Ce,by simp,yB⟩ (.none (k1.fresh hE))
 ·refine⟨_,Ce,g,_,0,_,Ce,Ce,Cd C,Ce,Ce,_,Ce,onF (by cases o<;> decide) ?_⟩;refine⟨_,Ce,g,_,0,_,Ce,Ce,Cd C,Ce,z2,λJ t=>⟨J,_,Ce,.inl (Cc yB),Ce,Ce,_,Ce,onT (by cases o<;> decide) ?_⟩⟩;have n:=yE t (.lst [.str AZ,.str AW]);generalize upd H J (.lst [.str AZ,.str AW])=H1 at n ⊢;have a:H1 g=some (.tup [.str (if o then AW else AZ),.int d]):=n _ _ C;have c:=L.same n;have e1:decide (V.str (if o then AW else AZ)=V.str AW)=o:=by cases o<;> decide
  refine⟨_,Ce,_,Ce,_,Ce,g,_,1,_,Ce,Ce,Cd a,Ce,_,Ce,g,_,0,_,Ce,Ce,Cd a,Ce,Ce,?_⟩;rw[e1];refine⟨B,sa,Z,R,S,d,o,Ce,c,n _ _ b6,by omega,λr y l k nl hl a9=>?_⟩;exact q _ (.nums l) _ (n.trans k) (.on a9) ⟨r,Ce,by simp,hl⟩ (.none (n.fresh nl))
end
end Law
namespace Law
open PySem L2 PyProof.Rows
open Bk (Row Rows xZ zO Ans)
open Desk (xP uB qD Wf vV stV)
abbrev bWQ:Stmt:=xM Aw
structure LBk(H:Hp)(ra sa:Nat)(rs:List Nat)(R:Rows)(S:List Int):Prop where
 book:xF H ra rs R
 shut:H sa=some (.lst (S.map V.int))
 ne:sa≠ra
 no:sa∉rs
 noC:NoC rs H sa
def aZ5(e sa:Nat)(c a:List Nat)(H d:Hp):Prop:=(∀x o,x≠sa->x≠e->x∉c->H x=some o->d x=some o)/\(∀b∈a,b∈c\/H b=none)/\∀s u,H s=some u->NoC c H s->NoC a d s
def LBk.same{R:Rows}(h:LBk H c sa b R S)(k:xJ H a):LBk a c sa b R S:=
 ⟨h.book.same k,k _ _ h.shut,h.ne,h.no,(But.of h.book.dom k).2.2 sa _ h.shut h.noC⟩
def LBk.step{R f:Rows}(h:LBk H b sa d R S)(k:aXR b d a H c)(i:xF c b a f):LBk c b sa a f S/\aZ5 b sa d a H c:=
 ⟨⟨i,k.1 sa _ (λz=>(cXj.mp z).elim h.ne h.no) h.shut,h.ne,λz=>(k.2.1 sa z).elim h.no (λy=>by have:=h.shut;rw[y]at this;cases this),k.2.2 sa _ h.shut h.noC⟩,λx o _ g j e=>k.1 x o (λz=>(cXj.mp z).elim g j) e,k.2.1,k.2.2⟩
def LBk.put{R:Rows}(h:LBk H g sa f R S)(d:Int):LBk (upd H sa (.lst ((S++ [d]).map V.int))) g sa f R (S++ [d])/\aZ5 g sa f f H (upd H sa (.lst ((S++ [d]).map V.int))):=by
 refine⟨⟨⟨by rw[yJ (cXT h.ne)];exact h.book.lst,h.book.len,h.book.nd,λi b r a p=>?_⟩,yB,h.ne,h.no,λb a l c=>?_⟩,λx o n _ _ e=>by rw[yJ n];exact e,λb a=> .inl a,λs u e n b a l c=>n b a l (by rw[yJ (λz=>h.no (by rw[<- z];exact a))]at c;exact c)⟩
 ·obtain⟨k,j,t⟩:=h.book.row i b r a p;have m:b≠sa:=λz=>h.no (by rw[<- z];exact cXs a);have q:k≠sa:=λz=>h.noC b (cXs a) _ j (by rw[<- z];rfl);exact⟨k,by rw[yJ m];exact j,by rw[yJ q];exact t⟩
 ·rw[yJ (λz=>h.no (by rw[<- z];exact a))]at c;exact h.noC b a l c
inductive aZi(vs:List V)(H:Hp)(Q:VK)(h:XK):Prop|mk(ra sa da:Nat)(rs:List Nat)(R:Rows)(S:List Int)(e:zO)(h:vs= [.ref ra,.ref sa,.ref da])(h:H da=some (.tup (xP e)))(h:Wf e)(h:LBk H ra sa rs R S)(h:R.length<=60)(h:S.length<=60)(h:Bk.Z7 R)(h:(∀r∈R,r.copies.length<=1000))(h:∀ (H':Hp)(a:Ans)(v:V)(R':Rows)(S':List Int)(rs':List Nat),aZ5 ra sa rs rs' H H'->LBk H' ra sa rs' R' S'->xZ R S e a R' S'->uB [] H' a v->qD H v->Q v H')
def qD.pre(k:xJ H a)(h:qD a v):qD H v:=λp e u b z=>h p e u b (k _ _ z)
def aZ5.pre(j:∀b∈c,∃o,H b=some o)(k:xJ H g)(s:aZ5 f sa c a g d):aZ5 f sa c a H d:=
 ⟨λx o i m l e=>s.1 x o i m l (k _ _ e),λb h=>(s.2.1 b h).imp id λz=>k.fresh z,λx u e n=>s.2.2 x u (k _ _ e) ((But.of j k).2.2 x u e n)⟩
section
variable {K:cXc}
def bW4:yO [A1,AJ,AI] [A1,AJ,AI] (yH bWQ):=scM
def bWq(y:FnG P w K mg base 4 BN [A1,AI] aXL)(M:FnG P w K mg base 4 C8 [A1,AB,BC] bVy) (u:FnG P w K mg base 4 BP [A1,AJ,AI] bXO) (r:FnG P w K mg base 4 BG [A1,AI] bXR) (F:Fun K Aw Aw bWQ f fd):xL P w K mg base CX0 5 f fd [A1,AJ,AI] aZi:=by
 have sc:=bW4;refine F.ok (k:=4) sc (λa5 A outer s H vs Q E hr h=>?_);obtain⟨U,sa,g,I,R,S,e,rfl,hd,a1,J,hR,hS,T,Y,q⟩:=h;refine⟨_,(yC (xA (yM uF (yL yX (pv 2) yG) (xB (yA yQ (yA yQ (yA yQ yD))))) (yF (yP (xU y hr rfl (yA (pv 0) (yA (pv 2) yD))))) yS) (yC (xA (yM zU (yL yX (pv 2) yG) yQ) (yF (yP (xU M hr rfl (yA (pv 0) (yA (yL yX (pv 2) yG) (yA (yL yX (pv 2) yG) yD)))))) yS) (yC (xA (yM zU (yL yX (pv 2) yG) yQ) (yC (xA (PW.pt (Y7 (yM aX0 (yV xD (yL yX (pv 2) yG) yG) yG) (uS (yM uF (yL yX (pv 2) yG) (pv 1))))) (yF (yP yQ)) yS) (yC (yZ (jD cXF cXP cXQ xR (pv 1) (yA (yL yX (pv 2) yG) yD))) (yF (yP yQ)))) yS) (yC (xA (yM uF (yL yX (pv 2) yG) (xB (yA yQ (yA yQ (yA yQ (yA yQ (yA yQ (yA yQ yD)))))))) (yF (yP (xU u hr rfl (yA (pv 0) (yA (pv 1) (yA (pv 2) yD)))))) yS) (yF (yP (xU r hr rfl (yA (pv 0) (yA (pv 2) yD))))))))),?_⟩;have h0:(xP e)[0]? =some (.str (Desk.aY6 e)):=by cases e<;> rfl
 refine⟨_,Ce,g,_,0,_,Ce,Ce,Cd hd,yT (j:=0) h0,z3,λl0 a3=>⟨l0,_,Ce,.inl (Cc yB),Ce,Ce,_,Ce,?_⟩⟩;have n:=yE a3 (.lst [.str "in",.str BL,.str Bg]);generalize upd H l0 (.lst [.str "in",.str BL,.str Bg])=H1 at n ⊢;have c:=n _ _ hd;have p:=J.same n;have a0:((∃L d O t,e= .enter L d O t)\/∃m d t,e= .reply m d t)->aXL [.ref U,.ref g] H1 Q E0:=λhf=>by refine⟨U,g,I,R,e,Ce,c,a1,hf,p.book,hR,λN a v R' a4 st G W av nv=>?_⟩;have:=p.step st G;exact q N a v R' S a4 (this.2.pre J.book.dom n) this.1 (W S) av (qD.pre n nv)
 have one:∀ {X:Hp} {m:Int},xJ H X->Q6 e m->bXR [.ref U,.ref g] X Q E0:=λ{X m} k hf=>by have C:=J.same k;refine⟨U,g,I,R,e,m,Ce,k _ _ hd,hf,C.book,hR,T,Y,λN a v R' st G W av nv=>?_⟩;have:=C.step st G;exact q N a v R' S I (this.2.pre J.book.dom k) this.1 (W S) av (qD.pre k nv)
 have D:∀ {X:Hp},xJ H X->aYx e->bXO [.ref U,.ref sa,.ref g] X Q E0:=λ{X} k hf=>by have C:=J.same k;refine⟨U,sa,g,I,R,S,e,Ce,k _ _ hd,hf,C.book,C.shut,hR,T,λN a v k2 W av nv=>?_⟩;exact q N a v R S I ⟨λx o _ _ _ e=>k2 _ _ (k _ _ e),λb hb=> .inl hb,(But.of J.book.dom (k.trans k2)).2.2⟩ (C.same k2) W av (qD.pre k nv)
 cases e with
 |enter L d O t=>have a2:L="in"\/L=BL:=a1;refine onT (by rcases a2 with rfl|rfl<;> rfl) ⟨_,Ce,_,Ce,a0 (.inl ⟨_,_,_,_,rfl⟩)⟩
 |reply m d t=>exact onT rfl ⟨_,Ce,_,Ce,a0 (.inr ⟨_,_,_,rfl⟩)⟩
 |hang m o=>refine onF rfl ⟨_,Ce,g,_,0,_,Ce,Ce,Cd c,Ce,Ce,_,Ce,onT rfl ⟨_,Ce,_,Ce,g,_,1,_,Ce,Ce,Cd c,Ce,_,Ce,g,_,2,_,Ce,Ce,Cd c,Ce,?_⟩⟩;refine⟨U,I,R,m,o,Ce,p.book,hR,T.tree,λN a R' st G W=>?_⟩;have:=p.step st.step G;exact q N (.txt a) _ R' S I (this.2.pre J.book.dom n) this.1 (W S) rfl (λ_ z=>nomatch z)
 |shut d=>
  refine onF rfl ⟨_,Ce,g,_,0,_,Ce,Ce,Cd c,Ce,Ce,_,Ce,onF rfl ⟨_,Ce,g,_,0,_,Ce,Ce,Cd c,Ce,Ce,_,Ce,onT rfl ?_⟩⟩;refine⟨_,Ce,g,_,1,_,Ce,Ce,Cd c,Ce,_,_,Ce,Ce,(show(0:Int)<7 by decide),_,_,Ce,Ce,_,Ce,?_⟩;have no:Dm.cts S d=false->Q (.str "counts not") H1:=λh=>q H1 (.txt "counts not") _ R S I ⟨λx o _ _ _ e=>n _ _ e,λb hb=> .inl hb,(But.of J.book.dom n).2.2⟩ p (.shutN h) rfl (λ_ z=>nomatch z);cases h1:decide (d % 7 > 4)with
  |true=>exact onT rfl (onT rfl (no (by unfold Dm.cts Dm.opn;rw[decide_eq_false (by have:=of_decide_eq_true h1;omega)];rfl)))
  |false=>
  refine onF rfl ⟨_,Ce,g,_,1,_,Ce,Ce,Cd c,Ce,_,Ce,sa,_,Ce,.inl (Cc p.shut),Ce,cVs.mpr (λv hv=>by obtain⟨x,_,rfl⟩:=cX3.mp hv;rfl),?_⟩;rw[if_neg (by decide),qU];refine⟨_,Ce,?_⟩;cases h2:S.contains d with
  |true=>exact onT rfl (no (by unfold Dm.cts;rw[h2];simp))
  |false=>
  refine onF rfl ⟨_,Ce,.inl ⟨rfl,_,Cc p.shut⟩,_,Ce,g,_,1,_,Ce,Ce,Cd c,Ce,sa,_,_,Ce,Ce,p.shut,zlt (by rw[cXe];omega),?_⟩;have e5:S.map V.int++ [V.int d]=(S++ [d]).map V.int:=by simp
  rw[e5];have:=p.put d;exact q _ (.txt Ai) _ R (S++ [d]) I (this.2.pre J.book.dom n) this.1 (.shut (by unfold Dm.cts Dm.opn;rw[h2,decide_eq_true (by have:=of_decide_eq_false h1;omega)];rfl)) rfl (λ_ z=>nomatch z)
 |loose m=>exact onF rfl ⟨_,Ce,g,_,0,_,Ce,Ce,Cd c,Ce,Ce,_,Ce,onF rfl ⟨_,Ce,g,_,0,_,Ce,Ce,Cd c,Ce,Ce,_,Ce,onF rfl ⟨_,Ce,g,_,0,_,Ce,Ce,Cd c,Ce,zn (by show 6<=100000;omega),λl i=>⟨l,_,Ce,.inl (Cc yB),Ce,Ce,_,Ce,onF rfl ⟨_,Ce,_,Ce,one (n.trans (yE i _)) (.inl rfl)⟩⟩⟩⟩⟩
 |date m d=>exact onF rfl ⟨_,Ce,g,_,0,_,Ce,Ce,Cd c,Ce,Ce,_,Ce,onF rfl ⟨_,Ce,g,_,0,_,Ce,Ce,Cd c,Ce,Ce,_,Ce,onF rfl ⟨_,Ce,g,_,0,_,Ce,Ce,Cd c,Ce,zn (by show 6<=100000;omega),λl i=>⟨l,_,Ce,.inl (Cc yB),Ce,Ce,_,Ce,onF rfl ⟨_,Ce,_,Ce,one (n.trans (yE i _)) (.inr (.inl ⟨_,rfl⟩))⟩⟩⟩⟩⟩
 |term m t=>exact onF rfl ⟨_,Ce,g,_,0,_,Ce,Ce,Cd c,Ce,Ce,_,Ce,onF rfl ⟨_,Ce,g,_,0,_,Ce,Ce,Cd c,Ce,Ce,_,Ce,onF rfl ⟨_,Ce,g,_,0,_,Ce,Ce,Cd c,Ce,zn (by show 6<=100000;omega),λl i=>⟨l,_,Ce,.inl (Cc yB),Ce,Ce,_,Ce,onF rfl ⟨_,Ce,_,Ce,one (n.trans (yE i _)) (.inr (.inr (.inl ⟨_,rfl⟩)))⟩⟩⟩⟩⟩
 |copy m O=>exact onF rfl ⟨_,Ce,g,_,0,_,Ce,Ce,Cd c,Ce,Ce,_,Ce,onF rfl ⟨_,Ce,g,_,0,_,Ce,Ce,Cd c,Ce,Ce,_,Ce,onF rfl ⟨_,Ce,g,_,0,_,Ce,Ce,Cd c,Ce,zn (by show 6<=100000;omega),λl i=>⟨l,_,Ce,.inl (Cc yB),Ce,Ce,_,Ce,onF rfl ⟨_,Ce,_,Ce,one (n.trans (yE i _)) (.inr (.inr (.inr (.inl ⟨_,rfl⟩))))⟩⟩⟩⟩⟩
 |file m Z=>exact onF rfl ⟨_,Ce,g,_,0,_,Ce,Ce,Cd c,Ce,Ce,_,Ce,onF rfl ⟨_,Ce,g,_,0,_,Ce,Ce,Cd c,Ce,Ce,_,Ce,onF rfl ⟨_,Ce,g,_,0,_,Ce,Ce,Cd c,Ce,zn (by show 6<=100000;omega),λl i=>⟨l,_,Ce,.inl (Cc yB),Ce,Ce,_,Ce,onF rfl ⟨_,Ce,_,Ce,one (n.trans (yE i _)) (.inr (.inr (.inr (.inr (.inl ⟨_,rfl⟩)))))⟩⟩⟩⟩⟩
 |void m=>exact onF rfl ⟨_,Ce,g,_,0,_,Ce,Ce,Cd c,Ce,Ce,_,Ce,onF rfl ⟨_,Ce,g,_,0,_,Ce,Ce,Cd c,Ce,Ce,_,Ce,onF rfl ⟨_,Ce,g,_,0,_,Ce,Ce,Cd c,Ce,zn (by show 6<=100000;omega),λl i=>⟨l,_,Ce,.inl (Cc yB),Ce,Ce,_,Ce,onF rfl ⟨_,Ce,_,Ce,one (n.trans (yE i _)) (.inr (.inr (.inr (.inr (.inr rfl)))))⟩⟩⟩⟩⟩
 |state m=>exact onF rfl ⟨_,Ce,g,_,0,_,Ce,Ce,Cd c,Ce,Ce,_,Ce,onF rfl ⟨_,Ce,g,_,0,_,Ce,Ce,Cd c,Ce,Ce,_,Ce,onF rfl ⟨_,Ce,g,_,0,_,Ce,Ce,Cd c,Ce,zn (by show 6<=100000;omega),λl i=>⟨l,_,Ce,.inl (Cc yB),Ce,Ce,_,Ce,onT rfl ⟨_,Ce,_,Ce,_,Ce,D (n.trans (yE i _)) (.inl ⟨_,rfl⟩)⟩⟩⟩⟩⟩
 |thread m=>exact onF rfl ⟨_,Ce,g,_,0,_,Ce,Ce,Cd c,Ce,Ce,_,Ce,onF rfl ⟨_,Ce,g,_,0,_,Ce,Ce,Cd c,Ce,Ce,_,Ce,onF rfl ⟨_,Ce,g,_,0,_,Ce,Ce,Cd c,Ce,zn (by show 6<=100000;omega),λl i=>⟨l,_,Ce,.inl (Cc yB),Ce,Ce,_,Ce,onT rfl ⟨_,Ce,_,Ce,_,Ce,D (n.trans (yE i _)) (.inr (.inl ⟨_,rfl⟩))⟩⟩⟩⟩⟩
 |copies m=>exact onF rfl ⟨_,Ce,g,_,0,_,Ce,Ce,Cd c,Ce,Ce,_,Ce,onF rfl ⟨_,Ce,g,_,0,_,Ce,Ce,Cd c,Ce,Ce,_,Ce,onF rfl ⟨_,Ce,g,_,0,_,Ce,Ce,Cd c,Ce,zn (by show 6<=100000;omega),λl i=>⟨l,_,Ce,.inl (Cc yB),Ce,Ce,_,Ce,onT rfl ⟨_,Ce,_,Ce,_,Ce,D (n.trans (yE i _)) (.inr (.inr (.inl ⟨_,rfl⟩)))⟩⟩⟩⟩⟩
 |letters Z=>exact onF rfl ⟨_,Ce,g,_,0,_,Ce,Ce,Cd c,Ce,Ce,_,Ce,onF rfl ⟨_,Ce,g,_,0,_,Ce,Ce,Cd c,Ce,Ce,_,Ce,onF rfl ⟨_,Ce,g,_,0,_,Ce,Ce,Cd c,Ce,zn (by show 6<=100000;omega),λl i=>⟨l,_,Ce,.inl (Cc yB),Ce,Ce,_,Ce,onT rfl ⟨_,Ce,_,Ce,_,Ce,D (n.trans (yE i _)) (.inr (.inr (.inr (.inl ⟨_,rfl⟩))))⟩⟩⟩⟩⟩
 |on B d=>exact onF (by cases B<;> rfl) ⟨_,Ce,g,_,0,_,Ce,Ce,Cd c,Ce,Ce,_,Ce,onF (by cases B<;> rfl) ⟨_,Ce,g,_,0,_,Ce,Ce,Cd c,Ce,Ce,_,Ce,onF (by cases B<;> rfl) ⟨_,Ce,g,_,0,_,Ce,Ce,Cd c,Ce,zn (by show 6<=100000;omega),λl i=>⟨l,_,Ce,.inl (Cc yB),Ce,Ce,_,Ce,onT (by cases B<;> rfl) ⟨_,Ce,_,Ce,_,Ce,D (n.trans (yE i _)) (.inr (.inr (.inr (.inr ⟨_,_,rfl⟩))))⟩⟩⟩⟩⟩
end
end Law
namespace Desk
open PySem L2 PyProof.Rows
open Bk (Row Rows zO Ans xZ)
open Thr (vG jC W4)
def zP(H:Hp)(ds:Nat)(a:List Nat)(b:List zO):Prop:=H ds=some (.lst (a.map V.ref))/\a.length=b.length/\∀ (i:Nat)(d:Nat)(e:zO),a[i]? =some d->b[i]? =some e->H d=some (.tup (xP e))
def zP.same(h:zP H ds a c)(k:zK H b):zP b ds a c:=⟨k.lst h.1,h.2.1,λi d e g f=>k.tup (h.2.2 i d e g f)⟩
def uB.kept(h:uB o H a v)(k:Q5 o H d)(g:Z6 H o b):uB b d a v:=by
 have c:∀p u,p∉o->H p=some u->p∉b:=λp u n e z=>by
  rcases g p z with q|q
  ·exact n q
  ·rw[q]at e;cases e
 cases a with
 |num n=>exact h
 |txt x=>exact h
 |nums l=>obtain⟨p,e,n,q⟩:=h;exact⟨p,e,c p _ n q,k _ _ n (by intro _ z;cases z) q⟩
 |txts l=>obtain⟨p,e,n,q⟩:=h;exact⟨p,e,c p _ n q,k _ _ n (by intro _ z;cases z) q⟩
 |row r=>obtain⟨p,e,n,q⟩:=h;exact⟨p,e,c p _ n q,k _ _ n (by intro _ z;cases z) q⟩
def uB.bare(h:uB o H a v):uB [] H a v:=by
 cases a with
 |num n=>exact h
 |txt x=>exact h
 |nums l=>obtain⟨p,e,n,q⟩:=h;exact⟨p,e,by simp,q⟩
 |txts l=>obtain⟨p,e,n,q⟩:=h;exact⟨p,e,by simp,q⟩
 |row r=>obtain⟨p,e,n,q⟩:=h;exact⟨p,e,by simp,q⟩
def uB.more(h:uB o H a v)(n:∀p,v= .ref p->p≠D):uB (D::o) H a v:=by
 have b:∀p,v= .ref p->p∉o->p∉D::o:=λp e q z=>(cXj.mp z).elim (n p e) q;cases a with
 |num n=>exact h
 |txt x=>exact h
 |nums l=>obtain⟨p,e,q⟩:=h;exact⟨p,e,b p e q.1,q.2⟩
 |txts l=>obtain⟨p,e,q⟩:=h;exact⟨p,e,b p e q.1,q.2⟩
 |row r=>obtain⟨p,e,q⟩:=h;exact⟨p,e,b p e q.1,q.2⟩
def xH(H:Hp)(r:Row)(v:V):Prop:=if r.void then v= .str Ay else ∃p,v= .ref p/\H p=some (.tup (stV r))
set_option tactic.hygienic true in
def xH.same(h:xH H r v)(k:zK H a):xH a r v:=by
 unfold xH at h ⊢;split
 ·rename_i e;rw[if_pos e]at h;exact h
 ·rename_i e;rw[if_neg e]at h;obtain⟨p,e,q⟩:=h;exact⟨p,e,k.tup q⟩
structure aQK(H0:Hp)(CB CL T:Nat)(ba:Nat)(es:List zO)(as:List Ans)(H:Hp)(o:List Nat):Prop where
 ex:∃ (la sa:Nat)(ls cs:List Nat)(R:Rows)(S:List Int),o=own la sa ls cs/\PB CB CL H ba la sa ls cs R S/\Up es.length R S/\Bk.Z7 R/\Run [] [] es as R S
 tab:vG T H
 keep:zK H0 H
 new:∀b∈o,∀u,(∀ps,u≠HO.tbl ps)->H0 b≠some u
inductive jH(Rf:Nat×Nat)(vs:List V)(H:Hp)(Q:VK)(h:XK):Prop|mk(ds:Nat)(das:List Nat)(es:List zO)(h:vs= [.ref ds])(h:zP H ds das es)(h:es.length<60)(h:(∀e∈es,Wf e))(h:vG Rf.2 H)(h:∀ (l:Nat)(H':Hp)(vs:List V)(as:List Ans)(R':Rows)(S':List Int),zK H H'->vG Rf.2 H'->Run [] [] es as R' S'->Bk.Z7 R'->H' l=some (.lst vs)->cXZ (λv a=>uB [] H' a v) vs as->Q (.ref l) H')
inductive aWX(CB CL:Nat)(vs:List V)(H:Hp)(Q:VK)(h:XK):Prop|mk(ba la sa:Nat)(ls cs:List Nat)(R:Rows)(S:List Int)(h:vs= [.ref ba])(h:PB CB CL H ba la sa ls cs R S)(h:R.length<64)(h:∀ (l:Nat)(H':Hp)(vs:List V),xJ H H'->H' l=some (.lst vs)->cXZ (λv r=>xH H' r v) vs R->Q (.ref l) H')
inductive uA(Rf:Nat×Nat)(vs:List V)(H:Hp)(Q:VK)(h:XK):Prop|mk(ds:Nat)(das:List Nat)(es:List zO)(h:vs= [.ref ds])(h:zP H ds das es)(h:es.length<60)(h:(∀e∈es,Wf e))(h:vG Rf.2 H)(h:∀ (l:Nat)(H':Hp)(vs:List V)(as:List Ans)(R':Rows)(S':List Int),zK H H'->vG Rf.2 H'->Run [] [] es as R' S'->Bk.Z7 R'->H' l=some (.lst vs)->cXZ (λv r=>xH H' r v) vs R'->Q (.ref l) H')
def Y4(t:vG T H)(k:xJ H a):vG T a:=(aYw.of k).2 t
def aQK.start(tb:vG T H)(s:H x=none)(d:H dx=none)(D:dx≠x)(q:l=upd (upd H dx (.own x)) x (.ins n dx []))(j:l la=none)(g:l sa=none)(p:la≠sa) (A:a x=some (.ins n dx [(Ao,.ref la),(Ai,.ref sa)])) (C:a la=some (.lst [])) (w:a sa=some (.lst [])) (B:∀b,b≠x->b≠la->b≠sa->a b=l b):aQK H n CL T x [] [] a (own la sa [] [])/\xJ H a:=by
 have m:∀b,l b=none->H b=none:=λb e=>by
  subst q;by_cases z:b=x
  ·rw[z];exact s
  ·rw[yJ z]at e;by_cases z2:b=dx
   ·rw[z2];exact d
   ·rw[yJ z2]at e;exact e
 have k:xJ H a:=λb o e=>by have b1:=yI e s;have E:=yI e d;rw[B b b1 (yI e (m _ j)) (yI e (m _ g)),q,yJ b1,yJ E];exact e
 refine⟨⟨⟨la,sa,[],[],[],[],Ce,⟨⟨dx,A⟩,C,w,Ce,Ce,.nil,.nil,p,by simp,by simp,λi b c r e=>by simp at e⟩,⟨cXh _,cXh _,λr h=>by simp at h⟩,Bk.aZo,.nil⟩,Y4 tb k,k.t,λb f u _ z=>?_⟩,k⟩;have v:H b=none->False:=λy=>by rw[y]at z;cases z
 rcases cXj.mp f with e|f
 ·exact v (by rw[e];exact m _ j)
 rcases cXj.mp f with e|f
 ·exact v (by rw[e];exact m _ g)
 ·simp at f
def aQK.step(g:aQK E m CL T l x A H o)(hw:Wf e)(hz:x.length<60)(K:H p=some (.tup (xP e))){Q:VK}(W:Rf.2=T) (q:∀ (a:Ans)(v:V)(f:Hp)(n:List Nat),aQK E m CL T l (x++ [e]) (A++ [a]) f n->uB n f a v->qD H v->Q5 o H f->Z6 H o n->Q v f):aQX Rf m CL [.ref l,.ref p] H Q E0:=by
 subst W;obtain⟨C,F,Y,N,R,S,rfl,L,D,j,i⟩:=g.ex;refine⟨l,p,C,F,Y,N,R,S,e,Ce,hw,K,L,D.sz (by omega),j,g.tab,λa X G v f y r c s k B U O M=>?_⟩;refine q a v f _ ⟨⟨C,F,y,r,X,G,Ce,s,?_,Bk.xZ.book j ?_ c,.snoc i c⟩,U,λb u h e=>k b u (λz=>g.new b z u h e) h (g.keep b u h e),λb P u h z0=>?_⟩ O M k B
 ·rw[cXD,cZp];exact D.done c
 ·intro I d w t J;subst J;exact hw
 ·rcases B b P with z|z
  ·exact g.new b z u h z0
  ·rw[g.keep b u h z0]at z;cases z
def aQK.write(g:aQK l s CL T w A m H o)(E:H D=some (.lst xs))(nD:D∉o)(h0:l D=none):aQK l s CL T w A m (upd H D (.lst ys)) o:=by
 have h:∀ {a u},H a=some u->(∀xs,u≠ .lst xs)->a≠D:=λq n z=>by rw[z,E]at q;cases q;exact n _ rfl
 obtain⟨F,N,L,I,R,S,rfl,d,K,k,f⟩:=g.ex;refine⟨⟨F,N,L,I,R,S,Ce,⟨?_,?_,?_,d.len,d.clen,d.nd,d.cnd,d.las,d.lac,d.sac,λi b c r C y B=>?_⟩,K,k,f⟩,?_,λb u J e=>?_,g.new⟩
 ·obtain⟨j,e⟩:=d.book;exact⟨j,by rw[yJ (h e (by intro _ z;cases z))];exact e⟩
 ·rw[yJ (λz=>nD (by rw[<- z];exact aWx))];exact d.lst
 ·rw[yJ (λz=>nD (by rw[<- z];exact bQK))];exact d.sht
 ·obtain⟨⟨j,p⟩,M⟩:=d.row i b c r C y B;exact⟨⟨j,by rw[yJ (h p (by intro _ z;cases z))];exact p⟩,by rw[yJ (λz=>nD (by rw[<- z];exact bWG (cXs y)))];exact M⟩
 ·rcases g.tab with t|⟨G,x,v⟩
  ·exact .inl (by rw[yJ (h t (by intro _ z;cases z))];exact t)
  ·exact .inr ⟨G,by rw[yJ (h x (by intro _ z;cases z))];exact x,by rw[yJ (h v (by intro _ z;cases z))];exact v⟩
 ·rw[yJ (yI e h0)];exact g.keep b u J e
section
variable {K:cXc}
abbrev aQS:Stmt:=xM B2
abbrev aXx:Stmt:=xM CS
abbrev aZT:Stmt:=xQ Aj BW
def aK7:yO [Bs,AL] [Bs] (yH aQS):=scM
def aKx:xO [Bs,AL] (yH aQS) AN [AL] [1] (lsN [(".0",.local),(AN,.local),(CO,.globalImplicit),(AL,.free)]):=
 lcM
def wJ{α β:Type}{F G:α->β->Prop}(h:∀a b,F a b->G a b):∀ {l:List α} {m:List β},cXZ F l m->cXZ G l m
 |_,_,.nil=> .nil
 |_,_,.cons r t=> .cons (h _ _ r) (wJ h t)
def aKK(B:MkG P w K mg base n Aj CB [AA] (aV7 CB))(j:FnG P w K mg base (n+1) CO [AL,AN] (aQX Rf CB CL))(F:Fun K B2 B2 aQS f fd): xL P w K mg base CX0 (n+2) f fd [Bs] (jH Rf):=by
 have sc:=aK7;refine F.ok (k:=n+1) sc (λb7 A outer s H vs Q E hr h=>?_);obtain⟨ds,d,l,rfl,hD,b5,a7,tb,q⟩:=h;refine⟨_,(yC (yU (i:=1) (bVr B hr rfl)) (yF (yP (aQk aKx rfl (xN (pv 0)) (λ_ _ _ _ _=>wS) (λ_ _ _ _ _=>(xU j hr rfl (yA (pv 1) (yA (pv 0) yD)))))))),?_⟩;intro x dx hx a3 a9;refine⟨x,dx,Ce,yB,λla sa H1 a6 b3 a8 h1 h2 h3 h4=>⟨rfl,?_⟩⟩;dsimp only[yW];obtain⟨g0,k0⟩:=aQK.start (CL:=CL) tb hx a3 a9 rfl a6 b3 a8 h1 h2 h3 h4;have a5:=hD.same k0.t;refine⟨_,Ce,ds,Ce,⟨_,Cc a5.1⟩,λD c=>?_⟩;have b0:(d.map V.ref).length=l.length:=by rw[cXe];exact hD.2.1
 have a4:H D=none:=k0.fresh c;refine⟨λi m I Z=>m=l.length - i/\i<=l.length/\Z D=some (.lst I)/\∃ (Y:List Ans)(o:List Nat),aQK H CB CL Rf.2 x (l.take i) Y Z o/\D∉o/\cXZ (λv a=>uB (D::o) Z a v) I Y,⟨l.length,by simp,cZc _,yB,[],own la sa [] [],?_,?_,.nil⟩,?_⟩
 ·have kD:=yE c (.lst []);obtain⟨L,M,O,N,R,S,e1,e2,e3,e4,U⟩:=g0.ex;exact⟨⟨L,M,O,N,R,S,e1,e2.same kD,e3,e4,U⟩,Y4 g0.tab kD,λb u nt e=>kD _ _ (g0.keep b u nt e),g0.new⟩
 ·intro z;rcases cXj.mp z with e|z
  ·rw[e,h2]at c;cases c
  rcases cXj.mp z with e|z
  ·rw[e,h3]at c;cases c
  ·simp at z
 ·rintro i m I Z ⟨rfl,hi,r,Y,o,g,nD,hP⟩;have G:=hD.same g.keep;refine⟨r,?_⟩;by_cases C:i<l.length
  ·have b1:i<d.length:=by rw[hD.2.1];exact C
   have J:=cQ9 b1;have X:=cQ9 C;refine .inr ⟨⟨d.map V.ref,.ref d[i],Cc G.1,by rw[cXu,J];rfl⟩,λv H2 yl=>?_⟩;obtain⟨rfl,y⟩:=yl;have hv:(d.map V.ref)[i]? =some v:=y _ (Cc G.1);rw[cXu,J]at hv;cases hv;refine⟨_,Ce,_,Ce,?_⟩;refine g.step (a7 _ (cZX C)) (by rw[cZl];omega) (G.2.2 i _ _ J X) rfl λa v T W g3 av nv k3 gr=>?_;have b4:l.take (i+1)=l.take i++ [l[i]]:=by rw[cZa,X];rfl
   have b6:I.length<=i:=by obtain⟨L,M,O,N,R,S,e1,e2,e3,e4,U⟩:=g.ex;have:=U.len;rw[hP.length,<- this,cZl];omega
   have a1:T D=some (.lst I):=k3 _ _ nD (by intro _ z;cases z) r;have a0:D∉W:=λz=>by
    rcases gr D z with y|y
    ·exact nD y
    ·rw[r]at y;cases y
   refine⟨by rw[cXC];omega,a1,l.length - (i+1),by omega,Ce,C,yB,Y++ [a],W,?_,a0,?_⟩
   ·rw[b4];exact g3.write a1 a0 a4
   ·have k4:Q5 (D::W) T (upd T D (.lst (I++ [v]))):=Q5.upd cXp _;have k5:Q5 (D::o) H2 T:=λb u nb nt e=>k3 b u (λz=>nb (cXl _ z)) nt e;have b2:Z6 H2 (D::o) (D::W):=λb hb=>by
     rcases cXj.mp hb with e|hb
     ·exact .inl (by rw[e];exact cXp)
     ·exact(gr b hb).imp (cXl _) id
    have a2:uB (D::W) T a v:=av.more λp e z=>by rw[z]at e;exact nv D e _ (by intro _ z;cases z) r
    exact Law.aZc (F:=λv' a'=>uB (D::W) (upd T D (.lst (I++ [v]))) a' v') (a2.kept k4 Z6.refl) (wJ (λv a (h:uB (D::o) H2 a v)=>(h.kept k5 b2).kept k4 Z6.refl) hP)
  ·obtain rfl:i=l.length:=by omega
   obtain⟨L,M,O,N,R,S,e1,e2,e3,e4,U⟩:=g.ex;rw[cX4]at U;exact .inl ⟨⟨d.map V.ref,Cc G.1,by rw[b0];exact cXh _⟩,q D Z I Y R S g.keep g.tab U e4 r (wJ (λv a h=>h.bare) hP)⟩
def bXv:yO [AA] [AA] (yH aZT):=scM
def bQd:xO [AA] (yH aZT) AM [] [] (lsN [(".0",.local),(AM,.local)]):=
 lcM
set_option tactic.hygienic true in
def bQF(cl:Cl K CB CL)(d:MG P w K mg base CX0 n CL Bc [AA] (aV9 CL))(F:Fun K BW "Book.standing_states" aZT f fd):xL P w K mg base CX0 (n+1) f fd [AA] (aWX CB CL):=by
 have sc:=bXv;refine F.ok (k:=n) sc (λa1 A outer s H vs Q E hr h=>?_);obtain⟨ba,la,sa,N,cs,R,S,rfl,M,hR,q⟩:=h;refine⟨_,(yF (yP (aQk bQd rfl (xN (xC (pv 0) rfl)) (λ_ _ _ _ _=>wS) (λ_ _ _ _ _=>(aWA (zA (aXn (K:=K) (pv 0) rfl)) yQ (bJg d hr uU (pv 0))))))),?_⟩;obtain⟨dx,hb⟩:=M.book;have hl:(N.map V.ref).length=R.length:=by rw[cXe];exact M.len
 refine⟨_,Ce,ba,CB,dx,_,_,Ce,hb,cl.b,cl.letters,Ce,la,Ce,⟨_,Cc M.lst⟩,λD hD=>?_⟩;refine⟨λi m a B=>m=R.length - i/\i<=R.length/\xJ H B/\B D=some (.lst a)/\cXZ (λv r=>xH B r v) a (R.take i),⟨R.length,by simp,cZc _,yE hD _,yB,.nil⟩,?_⟩;rintro i m a B ⟨rfl,hi,W,x,L⟩;have o:=M.same W;refine⟨x,?_⟩;by_cases I:i<R.length
 ·have J:=cQ9 I;obtain⟨b,c,X,g2,g3,⟨u,O⟩,g5⟩:=o.get J;refine .inr ⟨⟨N.map V.ref,.ref b,Cc o.lst,X⟩,λv H2 yl=>?_⟩;obtain⟨rfl,y⟩:=yl;have C:(N.map V.ref)[i]? =some v:=y _ (Cc o.lst);rw[X]at C;cases C;have U:R.take (i+1)=R.take i++ [R[i]]:=by rw[cZa,J];rfl
  have a0:a.length<=i:=by rw[L.length,cZl];omega
  refine⟨_,Ce,b,CL,u,_,_,Ce,O,cl.l,cl.void,Ce,_,Ce,?_⟩;have fin:∀ (v:V)(g:Hp),xJ H2 g->xH g R[i] v->a.length<cXy/\g D=some (.lst a)/\∃Z,Z<R.length - i/\(Z=R.length - (i+1)/\i+1<=R.length/\xJ H (upd g D (.lst (a++ [v])))/\upd g D (.lst (a++ [v])) D=some (.lst (a++ [v]))/\cXZ (λj r=>xH (upd g D (.lst (a++ [v]))) r j) (a++ [v]) (R.take (i+1))):=λv g T sv=>by
   have G:=T _ _ x;have Y:∀ (j:V)(r:Row),xH g r j->xH (upd g D (.lst (a++ [v]))) r j:=λj r h=>by
    unfold xH at h ⊢;split
    ·rename_i e;rw[if_pos e]at h;exact h
    ·rename_i e;rw[if_neg e]at h;obtain⟨p,e,q⟩:=h;exact⟨p,e,by rw[yJ (aXW q G (by intro z;cases z))];exact q⟩
   refine⟨by rw[cXC];omega,G,R.length - (i+1),by omega,Ce,I,Law.aXQ (W.trans T) hD,yB,?_⟩;rw[U];exact Law.aZc (F:=λj r=>xH (upd g D (.lst (a++ [v]))) r j) (Y _ _ sv) (wJ (λj r (h:xH H2 r j)=>Y j r (h.same T.t)) L)
  cases C:R[i].void with
  |true=>exact onT rfl (fin _ _ (xJ.refl _) (by unfold xH;rw[C];rfl))
  |false=>refine onF rfl ⟨_,Ce,b,u,_,Ce,O,Ce,b,i,_,c,Ce,⟨u,O⟩,λt ht=>?_⟩;exact fin _ _ (yE ht _) (by unfold xH;rw[C];exact⟨t,Ce,yB⟩)
 ·obtain rfl:i=R.length:=by omega
  rw[cX4]at L;exact .inl ⟨⟨N.map V.ref,Cc o.lst,by rw[hl];exact cXh _⟩,q D B a W x L⟩
def aV3:yO [Bs,AL,AN] [Bs] (yH aXx):=scM
def aVC(d:MkG P w K mg base n Aj CB [AA] (aV7 CB))(c:FnG P w K mg base (n+1) CO [AL,AN] (aQX Rf CB CL))(b:MG P w K mg base CX0 (n+1) CB BW [AA] (aWX CB CL)) (F:Fun K CS CS aXx f fd):xL P w K mg base CX0 (n+2) f fd [Bs] (uA Rf):=by
 have sc:=aV3;refine F.ok (k:=n+1) sc (λa5 A outer s H vs Q E N h=>?_);obtain⟨ds,j,m,rfl,u,a4,M,tb,q⟩:=h;refine⟨_,(yC (yU (i:=1) (bVr d N rfl)) (yC (wV cX0 rfl (xN (pv 0)) (xI (i:=2)) (yF (yZ (xU c N rfl (yA (pv 1) (yA (pv 2) yD)))))) (yF (yP (bJg b N uU (pv 1)))))),?_⟩;intro x dx hx G X;refine⟨x,dx,Ce,yB,λla sa H1 L a0 T h1 h2 h3 h4=>⟨rfl,?_⟩⟩;dsimp only[yW];obtain⟨g0,k0⟩:=aQK.start (CL:=CL) tb hx G X rfl L a0 T h1 h2 h3 h4;have I:=u.same k0.t;have B:(j.map V.ref).length=m.length:=by rw[cXe];exact u.2.1
 refine⟨_,Ce,ds,Ce,⟨_,Cc I.1⟩,?_⟩;refine zV (xs:=j.map V.ref) (λi σ C=>L2.Ez3 λ(D:Option V)(y:List Ans)(o:List Nat)=>σ= [some (.ref ds),some (.ref x),D]/\aQK H CB CL Rf.2 x (m.take i) y C o) ?_ ?_ ?_ ?_
 ·exact⟨none,[],_,Ce,g0⟩
 ·rintro i σ C hi ⟨D,y,o,rfl,g⟩;exact Cc (u.same g.keep).1
 ·rintro i v σ C Z ⟨D,y,o,rfl,g⟩;have e:i<m.length:=by rw[<- B];exact(cXn.mp Z).1
  have z:=cQ9 (show i<j.length by rw[u.2.1];exact e);have p:=cQ9 e;rw[cXu,z]at Z;cases Z;have Y:=u.same g.keep;have a2:m.take (i+1)=m.take i++ [m[i]]:=by rw[cZa,p];rfl
  dsimp only[yW];refine⟨_,Ce,_,Ce,?_⟩;refine g.step (M _ (cZX e)) (by rw[cZl];omega) (Y.2.2 i _ _ z p) rfl λa v H3 o' g3 av nv k3 gr=>?_;rw[<- a2]at g3;exact⟨_,_,o',Ce,g3⟩
 ·rintro σ C ⟨D,y,o,rfl,g⟩;rw[B,cX4]at g;obtain⟨J,U,a3,W,R,S,e1,e2,e3,e4,e5⟩:=g.ex;obtain⟨a1,hb⟩:=e2.book;refine⟨_,Ce,x,a1,_,Ce,hb,Ce,x,J,U,a3,W,R,S,Ce,e2,by have:=e3.r;omega,λl H5 vs k5 O hP=>?_⟩;exact q l H5 vs y R S (g.keep.trans k5.t) (Y4 g.tab k5) e5 e4 O hP
end
end Desk
namespace Law
open PySem L2 PyProof.Rows
open Bk (Row Rows xZ zO Ans)
open Desk (xP uB qD Wf Up Run zP wJ)
structure LGo(H0:Hp)(ra sa:Nat)(es:List zO)(as:List Ans)(H:Hp)(rs:List Nat):Prop where
 ex:∃ (R:Rows)(S:List Int),LBk H ra sa rs R S/\Up es.length R S/\Bk.Z7 R/\Run [] [] es as R S
 keep:xJ H0 H
 newR:H0 ra=none
 newS:H0 sa=none
 newB:∀b∈rs,H0 b=none
def LGo.same(g:LGo h i sa f c H e)(k:xJ H d):LGo h i sa f c d e:=
 ⟨let ⟨R,S,a,b⟩:=g.ex;⟨R,S,a.same k,b⟩,g.keep.trans k,g.newR,g.newS,g.newB⟩
def LGo.start(g:H a=none)(c:upd H a (.lst []) sa=none):LGo H a sa [] [] (upd (upd H a (.lst [])) sa (.lst [])) []:=by
 have e:=yE g (.lst []);have f:=yE c (.lst []);have ne:sa≠a:=λz=>by rw[z,yB]at c;cases c
 exact⟨⟨[],[],⟨⟨f _ _ yB,Ce,.nil,λi b r h=>by simp at h⟩,yB,ne,by simp,λb d=>by simp at d⟩,⟨cXh _,cXh _,λr h=>by simp at h⟩,Bk.aZo,.nil⟩,e.trans f,g,e.fresh c,λb d=>by simp at d⟩
def bKK(o:LBk g j sa b s u)(m:∃c,H j=some (.lst c))(k:∃c,H sa=some (.lst c))(f:uB [] g a v)(q:qD H v):uB (sa::j::b) g a v:=by
 have no:∀p,v= .ref p->(∀r d,g p≠some (.lst (jX r d)))->p∉sa::j::b:=λp e n z=>by
  rcases cXj.mp z with z|z
  ·obtain⟨c,h⟩:=k;exact q p e (.lst c) (by intro _ y;cases y) (by rw[z];exact h)
  rcases cXj.mp z with z|z
  ·obtain⟨c,h⟩:=m;exact q p e (.lst c) (by intro _ y;cases y) (by rw[z];exact h)
  ·obtain⟨i,t,A⟩:=cX2 z;obtain⟨d,w,_⟩:=o.book.row i p _ (by rw[cQ9 t,A]) (cQ9 (show i<s.length by rw[<- o.book.len];exact t));exact n _ d w
 cases a with
 |num n=>exact f
 |txt x=>exact f
 |nums l=>obtain⟨p,e,_,h⟩:=f;exact⟨p,e,no p e λr d z=>by rw[h]at z;exact aXs (cXv z).symm,h⟩
 |txts l=>obtain⟨p,e,_,h⟩:=f;exact⟨p,e,no p e λr d z=>by rw[h]at z;exact Z1 (cXv z).symm,h⟩
 |row r=>obtain⟨p,e,_,h⟩:=f;exact⟨p,e,no p e λr d z=>(by rw[h]at z;cases z),h⟩
def LGo.step(g:LGo F j sa C D H p)(hw:Wf e)(hz:C.length<60)(K:H A=some (.tup (xP e))){Q:VK} (q:∀ (a:Ans)(v:V)(i:Hp)(f:List Nat),LGo F j sa (C++ [e]) (D++ [a]) i f->aZ5 j sa p f H i->uB (sa::j::f) i a v->qD H v->Q v i):aZi [.ref j,.ref sa,.ref A] H Q E0:=by
 obtain⟨R,S,u,n,l,k⟩:=g.ex;refine⟨j,sa,A,p,R,S,e,Ce,K,hw,u,by have:=n.r;omega,by have:=n.s;omega,l,λr L=>by have:=n.c r L;omega,λi a v O G f y m B M E=>?_⟩;refine q a v i f ⟨⟨O,G,m,?_,Bk.xZ.book l ?_ B,.snoc k B⟩,λx o h=>?_,g.newR,g.newS,λb N=>?_⟩ y (bKK m ⟨_,u.book.lst⟩ ⟨_,u.shut⟩ M E) E
 ·rw[cXD,cZp];exact n.done B
 ·intro I d w t J;subst J;exact hw
 ·exact y.1 x o (yI h g.newS) (yI h g.newR) (λz=>by rw[g.newB x z]at h;cases h) (g.keep _ _ h)
 ·rcases y.2.1 b N with z|z
  ·exact g.newB b z
  ·exact g.keep.fresh z
structure aW9(H0:Hp)(ra sa:Nat)(H:Hp)(rs:List Nat)(D:Nat)(xs:List V):Prop where
 at_:H D=some (.lst xs)
 new:H0 D=none
 nr:D≠ra
 ns:D≠sa
 nb:D∉rs
 nc:NoC rs H D
def aW9.step(h:aW9 e b sa H d D xs)(st:aZ5 b sa d a H c):aW9 e b sa c a D xs:=
 ⟨st.1 D _ h.ns h.nr h.nb h.at_,h.new,h.nr,h.ns,λz=>(st.2.1 D z).elim h.nb (λy=>by have:=h.at_;rw[y]at this;cases this),st.2.2 D _ h.at_ h.nc⟩
def aW9.same(h:aW9 d e sa H a D xs)(f:∀b∈a,∃o,H b=some o)(k:xJ H c):aW9 d e sa c a D xs:=
 ⟨k _ _ h.at_,h.new,h.nr,h.ns,h.nb,(But.of f k).2.2 D _ h.at_ h.nc⟩
def LGo.dom(g:LGo e f sa d c H a):∀b∈a,∃o,H b=some o:=let ⟨R,S,h,_⟩:=g.ex;h.book.dom
def LGo.write{t:List zO}(g:LGo n m sa t q H d)(h:aW9 n m sa H d D xs)(ys:List V):LGo n m sa t q (upd H D (.lst ys)) d/\aW9 n m sa (upd H D (.lst ys)) d D ys:=by
 obtain⟨R,S,c,w,p,f⟩:=g.ex;have nb:∀b∈d,b≠D:=λb a z=>h.nb (by rw[<- z];exact a);refine⟨⟨⟨R,S,⟨⟨by rw[yJ (cXT h.nr)];exact c.book.lst,c.book.len,c.book.nd,λi b r a u=>?_⟩,by rw[yJ (cXT h.ns)];exact c.shut,c.ne,c.no,λb a l j=>c.noC b a l (by rw[yJ (nb b a)]at j;exact j)⟩,w,p,f⟩,λx o e=>?_,g.newR,g.newS,g.newB⟩,yB,h.new,h.nr,h.ns,h.nb,λb a l j=>h.nc b a l (by rw[yJ (nb b a)]at j;exact j)⟩
 ·obtain⟨v,s,y⟩:=c.book.row i b r a u;have k:=cXs a;exact⟨v,by rw[yJ (nb b k)];exact s,by rw[yJ (λz=>h.nc b k _ s (by rw[<- z];rfl))];exact y⟩
 ·rw[yJ (yI e h.new)];exact g.keep _ _ e
def aW9.write(h:aW9 d e sa H a D xs)(ne:D≠E)(g:E∉a)(u:HO):aW9 d e sa (upd H E u) a D xs:=
 ⟨by rw[yJ ne];exact h.at_,h.new,h.nr,h.ns,h.nb,λb f l c=>h.nc b f l (by rw[yJ (λz=>g (by rw[<- z];exact f))]at c;exact c)⟩
end Law
namespace Bk
open PySem (Str)
def bV5{R:Rows}{k:Nat}{r:Row}(b:R[k]? =some r)(a:r.void=false):vU R (k:Int)=true:=by
 unfold vU;rw[cXG,b];simp[a]
def one(R:Rows)(S:List Int)(m:Int)(f:Nat->Row->Ans×Rows×List Int):Ans×Rows×List Int:=if vU R m=false then(.txt "no letter",R,S)else match R[m.toNat]? with
 |some r=>f m.toNat r
 |none=>(.txt "no letter",R,S)
def bYc{R:Rows}{f:Nat->Row->Ans×Rows×List Int}(h:vU R m=false):one R S m f=(.txt "no letter",R,S):=if_pos h
def wU{R:Rows}{k:Nat}{r:Row}(b:R[k]? =some r)(a:r.void=false):¬vU R (k:Int)=false:=by rw[bV5 b a];exact Bool.noConfusion
def zI{R:Rows}{S:List Int}{k:Nat}{r:Row}{f:Nat->Row->Ans×Rows×List Int}(a:R[k]? =some r)(b:r.void=false):one R S (k:Int) f=f k r:=(if_neg (wU a b)).trans (by rw[cXG,a])
open Classical in
noncomputable def out (R:Rows) (S:List Int):zO->Ans×Rows×List Int
 |.enter b d e t=>if t<0 then(.txt "no term",R,S)else(.num R.length,R++ [⟨b,d,e,t,none,"",false,[]⟩],S)
 |.reply m d t=>if vU R m=false then(.txt "no letter",R,S)else if t<0 then(.txt "no term",R,S)else one R S m λk r=>if d<r.date then(.txt "too early",R,S)else(.num R.length,R++ [⟨qJ r.way,d,r.partner,t,some k,r.place,false,[]⟩],S)
 |.hang m o=>if vU R m=false\/vU R o=false then(.txt "no letter",R,S)else one R S m λi r=>one R S o λj q=>if r.link≠none then(.txt "has one",R,S)else if(thr R j).head? =some i then(.txt "own thread",R,S)else
   if r.way=q.way then(.txt "same way",R,S)else if r.partner≠q.partner then(.txt "other partner",R,S)else if r.date<q.date then(.txt "too early",R,S)else(.txt "hung",xV (laid R (thr R i) q.place) i λr=>{r with link:=some j},S)
 |.loose m=>one R S m λk r=>if r.link=none then(.txt "has none",R,S)else(.txt C5,xV R k λr=>{r with link:=none},S)
 |.date m d=>one R S m λk r=>if(∃j,r.link=some j/\d<dt R j)\/∃c∈wY R k,dt R c<d then(.txt "too early",R,S)else(.txt "dated",xV R k λr=>{r with date:=d},S)
 |.term m t=>one R S m λk r=>if t<0 then(.txt "no term",R,S)else(.txt B6,xV R k λr=>{r with term:=t},S)
 |.copy m w=>one R S m λk r=>if w=r.partner\/w∈r.copies then(.txt CW,R,S)else(.num (r.copies.length+1),xV R k λr=>{r with copies:=r.copies++ [w] },S)
 |.file m w=>one R S m λk _=>(.num (thr R k).length,laid R (thr R k) w,S)
 |.void m=>one R S m λk r=>if wY R k= []then(.txt Ay,xV R k λr=>{r with link:=none,void:=true},S)else(.txt B4,R,S)
 |.shut d=>if Dm.cts S d=true then(.txt Ai,R,S++ [d])else(.txt "counts not",R,S)
 |.state m=>one R S m λ_ r=>(.row r,R,S)
 |.thread m=>one R S m λk _=>(.nums (thr R k),R,S)
 |.copies m=>one R S m λ_ r=>(.txts r.copies,R,S)
 |.letters w=>(.nums ((cXm R.length).filter λk=>match R[k]? with|some r=> !r.void && decide (r.place=w)|none=>false),R,S)
 |.on a d=>if h:∃l,bX4 R S d a l then(.nums (choose h),R,S)else(.nums [],R,S)
def xZ.out{R s:Rows}{S r:List Int}{e:zO}{a:Ans}(h:xZ R S e a s r):out R S e=(a,s,r):=by
 cases h with
 |enter h=>exact if_neg (cJ7.mpr h)
 |enterT h=>exact if_pos h
 |replyN h=>exact if_pos h
 |replyT h o=>exact(if_neg (by rw[h];exact Bool.noConfusion)).trans (if_pos o)
 |replyE f h o q=>exact(if_neg (wU f h)).trans ((if_neg (cJ7.mpr o)).trans ((zI f h).trans (if_pos q)))
 |reply f h o q=>exact(if_neg (wU f h)).trans ((if_neg (cJ7.mpr o)).trans ((zI f h).trans (if_neg (cJ7.mpr q))))
 |hangN h=>exact if_pos h
 |hangH i d g hw h=>exact(if_neg (not_or.mpr ⟨wU i d,wU g hw⟩)).trans ((zI i d).trans ((zI g hw).trans (if_pos h)))
 |hangO i d g hw h k=>exact(if_neg (not_or.mpr ⟨wU i d,wU g hw⟩)).trans ((zI i d).trans ((zI g hw).trans ((if_neg (not_not_intro h)).trans (if_pos k))))
 |hangW i d g hw h k m=>exact(if_neg (not_or.mpr ⟨wU i d,wU g hw⟩)).trans ((zI i d).trans ((zI g hw).trans ((if_neg (not_not_intro h)).trans ((if_neg k).trans (if_pos m)))))
 |hangP i d g hw h k m n=>exact(if_neg (not_or.mpr ⟨wU i d,wU g hw⟩)).trans ((zI i d).trans ((zI g hw).trans ((if_neg (not_not_intro h)).trans ((if_neg k).trans ((if_neg m).trans (if_pos n))))))
 |hangE i d g hw h k m n p=>exact(if_neg (not_or.mpr ⟨wU i d,wU g hw⟩)).trans ((zI i d).trans ((zI g hw).trans ((if_neg (not_not_intro h)).trans ((if_neg k).trans ((if_neg m).trans ((if_neg (not_not_intro n)).trans (if_pos p)))))))
 |hang i d g hw h k m n p=>exact(if_neg (not_or.mpr ⟨wU i d,wU g hw⟩)).trans ((zI i d).trans ((zI g hw).trans ((if_neg (not_not_intro h)).trans ((if_neg k).trans ((if_neg m).trans ((if_neg (not_not_intro n)).trans (if_neg (cJ7.mpr p))))))))
 |oneN h t=>rcases t with rfl|⟨_,rfl⟩|⟨_,rfl⟩|⟨_,rfl⟩|⟨_,rfl⟩|rfl|rfl|rfl|rfl<;> (unfold Bk.out;exact bYc h)
 |looseN f d h=>unfold Bk.out;exact(zI f d).trans (if_pos h)
 |loose f d h=>unfold Bk.out;exact(zI f d).trans (if_neg h)
 |dateE f d h=>unfold Bk.out;exact(zI f d).trans (if_pos h)
 |date f d m n=>unfold Bk.out;exact(zI f d).trans (if_neg (not_or.mpr ⟨λ⟨j,a,b⟩=>absurd (m j a) (Int.not_le.mpr b),λ⟨c,a,b⟩=>absurd (n c a) (Int.not_le.mpr b)⟩))
 |termN f d h=>unfold Bk.out;exact(zI f d).trans (if_pos h)
 |term f d h=>unfold Bk.out;exact(zI f d).trans (if_neg (cJ7.mpr h))
 |copyC f d h=>unfold Bk.out;exact(zI f d).trans (if_pos h)
 |copy f d h n=>unfold Bk.out;exact(zI f d).trans (if_neg (not_or.mpr ⟨h,n⟩))
 |file f d=>unfold Bk.out;exact zI f d
 |voidA f d h=>unfold Bk.out;exact(zI f d).trans (if_neg h)
 |void f d h=>unfold Bk.out;exact(zI f d).trans (if_pos h)
 |shutN h=>exact if_neg (by rw[h];exact Bool.noConfusion)
 |shut h=>exact if_pos h
 |state f d=>unfold Bk.out;exact zI f d
 |thread f d=>unfold Bk.out;exact zI f d
 |copies f d=>unfold Bk.out;exact zI f d
 |letters=>rfl
 |on h=>exact(dif_pos ⟨_,h⟩).trans (by rw[(cV7 (⟨_,h⟩:∃l,bX4 R S _ _ l)).uniq h])
def xZ.det{R d R2:Rows}(j:c=e)(h:xZ R S e a d f)(i:xZ R S c b R2 g):a=b/\d=R2/\f=g:=by
 subst j;have q:=h.out.symm.trans i.out;exact⟨congrArg (·.1) q,congrArg (·.2.1) q,congrArg (·.2.2) q⟩
end Bk
namespace Desk
open Bk (Row Rows xZ zO Ans)
def Run.inv{R c:Rows}{bs:List Ans}(h:Run R S l bs c b):(l= []/\bs= []/\c=R/\b=S)\/∃i e f a g j,l=i++ [e]/\bs=f++ [a]/\Run R S i f g j/\xZ g j e a c b:=by
 cases h with
 |nil=>exact .inl ⟨rfl,Ce,Ce,rfl⟩
 |snoc h d=>exact .inr ⟨_,_,_,_,_,_,Ce,Ce,h,d⟩
theorem Run.det{R:Rows}{S:List Int}:∀ (n:Nat) {b:List zO} {c bs:List Ans} {i R2:Rows} {f j:List Int},b.length=n->Run R S b c i f->Run R S b bs R2 j->c=bs/\i=R2/\f=j
 |0,b,c,bs,i,R2,f,j,hn,h,h2=>by
  rcases h.inv with⟨rfl,rfl,rfl,rfl⟩|⟨_,_,_,_,_,_,rfl,_⟩
  ·rcases h2.inv with⟨_,rfl,rfl,rfl⟩|⟨l,s,_,_,_,_,z,_⟩
   ·exact⟨rfl,Ce,rfl⟩
   ·exact absurd (congrArg cJk z) (by simp)
  ·simp at hn
 |n+1,b,c,bs,i,R2,f,j,hn,h,h2=>by
  rcases h.inv with⟨rfl,_⟩|⟨p,e,o,a,w,v,rfl,rfl,g,d⟩
  ·simp at hn
  ·rcases h2.inv with⟨z,_⟩|⟨u,s,m,x,t,k,z,rfl,q,r⟩
   ·exact absurd (congrArg cJk z) (by simp)
   ·obtain⟨rfl,z2⟩:=cVt z rfl;cases z2;obtain⟨rfl,rfl,rfl⟩:=Run.det n (by simpa using hn) g q;obtain⟨rfl,rfl,rfl⟩:=Bk.xZ.det rfl d r;exact⟨rfl,Ce,rfl⟩
end Desk
namespace Law
open PySem L2 PyProof.Rows
open Bk (Row Rows xZ zO Ans)
open Desk (xP uB qD Wf vV stV)
theorem aJn(a:Array Nat):∀ (m:Nat)(b:Array Nat),((cJQ m a).foldl (·++·) b).size=b.size+m*a.size
 |0,b=>by simp
 |m+1,b=>by rw[List.replicate_succ,List.foldl_cons,aJn a m,Array.size_append,Nat.succ_mul];omega
set_option tactic.hygienic true in
def bWl(a:x.length<=1)(c:n<=100):(cVD x n).length<=100:=by
 unfold cVD;split
 ·decide
 ·split
  ·omega
  ·rename_i f _;show((cJQ n.toNat x.cps).foldl (·++·) #[]).size<=100;rw[aJn];have b:x.cps.size<=1:=a;have e:n.toNat*x.cps.size<=n.toNat*1:=Nat.mul_le_mul_left _ b;have d:(#[]:Array Nat).size=0:=rfl;omega
inductive bJa(x:V)(y:V)(H:Hp)(Q:VK):Prop|mk(i n)(h:x= .str i)(h:y= .int n)(h:i.length<=1)(h:0<=n)(h:n<=100)(h:∀z:Str,z.length<=100->Q (.str z) H)
def aZE:OpR X (cJH .Mult) bJa:=by
 intro b s σ H x y v u Q I d f h;obtain⟨i,n,rfl,rfl,a,j,c,q⟩:=h;obtain⟨t,rfl⟩:=d;obtain⟨g,rfl⟩:=f;refine SB.mul ⟨?_,λe _=>?_,λe _=>?_⟩ λg k=>⟨.str (cVD i n),H,I.tok _,⟨_,rfl⟩,q _ (bWl a c)⟩
 ·rw[decide_eq_false (by omega),decide_eq_false (by omega)];rfl
 ·have:(1:Int)<=(2 ^ 63 - 1) / n:=Int.le_ediv_of_mul_le (by omega) (by omega);omega
 ·have:i.length*n.toNat<=1*n.toNat:=cWf _ a;unfold Builtin.Str.tooLong;simp only[decide_eq_false_iff_not,cXC];omega
inductive bZ9(x:V)(y:V)(H:Hp)(Q:VK):Prop|mk(i n)(h:x= .str i)(h:y= .int n)(h:i.length<=1)(h:0<=n)(h:n<=100)(h:Q (.str (cVD i n)) H)
def bQJ:OpR X (cJH .Mult) bZ9:=by
 intro a s σ H x y v u Q I c e h;obtain⟨i,n,rfl,rfl,b,j,g,q⟩:=h;obtain⟨t,rfl⟩:=c;obtain⟨f,rfl⟩:=e;refine SB.mul ⟨?_,λd _=>?_,λd _=>?_⟩ λf k=>⟨.str (cVD i n),H,I.tok _,⟨_,rfl⟩,q⟩
 ·rw[decide_eq_false (by omega),decide_eq_false (by omega)];rfl
 ·have:(1:Int)<=(2 ^ 63 - 1) / n:=Int.le_ediv_of_mul_le (by omega) (by omega);omega
 ·have:i.length*n.toNat<=1*n.toNat:=cWf _ b;unfold Builtin.Str.tooLong;simp only[decide_eq_false_iff_not,cXC];omega
def wQ:List Str:= ["old","","new","old files","Old, ~",cVD "y" 40]
def Nm:zO->Prop
 |.file _ w=>w∈wQ
 |_=>True
def Wd(e:zO):Prop:=Wf e/\Nm e
def bVc(h:0<l.length)(x:Int):∃v∈l,atI l (x % (l.length:Nat))=some v:=by
 have d:=Int.emod_nonneg x (show((l.length:Nat):Int)≠0 by omega);have c:=Int.emod_lt_of_pos x (show(0:Int)<((l.length:Nat):Int) by omega);obtain⟨k,b⟩:∃k:Nat,x % (l.length:Nat)=(k:Int):=⟨(x % (l.length:Nat)).toNat,by omega⟩;have a:k<l.length:=by omega
 refine⟨l[k],cZX a,?_⟩;rw[b];exact yT (cQ9 a)
def Q9(h:a≠ [])(x:Int):∃n,atI (a.map V.int) (x % ((a.map V.int).length:Nat))=some (.int n):=by
 obtain⟨v,b,e⟩:=bVc (l:=a.map V.int) (by rw[cXe];exact cZq.mpr h) x;obtain⟨n,_,rfl⟩:=cX3.mp b;exact⟨n,e⟩
def aVb(h:l≠ [])(x:Int):∃n,atI (l.map λi=>V.int (i:Nat)) (x % ((l.map λi=>V.int (i:Nat)).length:Nat))=some (.int n):=by
 obtain⟨v,a,e⟩:=bVc (l:=l.map λi=>V.int (i:Nat)) (by rw[cXe];exact cZq.mpr h) x;obtain⟨n,_,rfl⟩:=cX3.mp a;exact⟨n,e⟩
inductive uO(H:Hp)(v:V):Prop|mk(p e)(h:v= .ref p)(h:H p=some (.tup (xP e)))(h:Wd e)
def uO.same(h:uO H v)(k:xJ H d):uO d v:=let ⟨p,e,a,b,c⟩:=h;⟨p,e,a,k _ _ b,c⟩
abbrev aQT:Stmt:=xM BQ
inductive aJY(vs:List V)(H:Hp)(Q:VK)(h:XK):Prop|mk(ra ca:Nat)(rs:List Nat)(R:Rows)(ns:List Int)(k:Nat)(m:Int)(h:vs= [.ref ra,.ref ca,.int (k:Nat),.int m])(h:xF H ra rs R)(h:R.length<=60)(h:H ca=some (.lst (ns.map V.int)))(h:ns≠ [])(h:∀ (H':Hp)(v:V),xJ H H'->uO H' v->Q v H')
section
variable {K:cXc}
def aYh:yO [A1,AO,AH,AB,Bi,Bz,"_law_free",BC,"_law_fits",CP,Aq] [A1,AO,AH,AB] (yH aQT):=scM
def aKz:xO [A1,AO,AH,AB,Bi,Bz,"_law_free",BC,"_law_fits",CP,Aq] (yH aQT) CP [A1] [0] (lsN [(".0",.local),(CP,.local),(A1,.free)]):=
 lcM
def aKU(T:uK mg)(a9:mg As=none)(O:FnG P w K mg base 1 Ah [A1,AB] aQJ)(F:Fun K BQ BQ aQT f fd):xL P w K mg base CX0 2 f fd [A1,AO,AH,AB] aJY:=by
 have sc:=aYh;refine F.ok (k:=1) sc (λb2 A outer s H vs Q E hr h=>?_);obtain⟨v,ca,rs,R,ns,k,m,rfl,Y,hR,hc,a2,q⟩:=h;refine⟨_,(yC (yU (i:=4) (yL yK (pv 1) (yV xD (yV zW (pv 2) yG) (yR yN rfl T.b_len xG (yA (pv 1) yD))))) (yC (yU (i:=5) (yL yK (pv 1) (yV xD (yV zW (pv 2) yG) (yR yN rfl T.b_len xG (yA (pv 1) yD))))) (yC (aX1 (i:=6) aKz rfl sc.nd rfl rfl (wA rfl T.b_range (yA (yR yN rfl T.b_len xG (yA (pv 0) yD)) yD)) (λ_ _ _ _ _=>(vC (yM aZb (yL ixK (yL ixK (pv 1) (pv 0)) yG) zN))) (λ_ _ _ _ _=>(pv 0))) (yC (xA (PW.pt (jF (yM (jN hr.units0) (pv 6) (xB yD)) (uH (yM aX0 (yV xD (pv 4) yG) yG)))) (yF (yU (i:=3) (yL yK (pv 6) (yV xD (pv 5) (yR yN rfl T.b_len xG (yA (pv 6) yD)))))) yS) (yC (yU (i:=7) (yV uG (yV xD (yV zW (pv 4) (pv 2)) (yV zW (yR yN rfl T.b_len xG (yA (pv 0) yD)) yG)) (zH uD rfl a9 qE (yA (wN zU (yV xD (pv 4) yG) yG) yD)))) (yC (yU (i:=8) (xB yD)) (yC (wV cX0 rfl (wA rfl T.b_range (yA (yR yN rfl T.b_len xG (yA (pv 0) yD)) yD)) (xI (i:=9)) (yF (xA (PW.pt (jF (zA (xU O hr rfl (yA (pv 0) (yA (pv 3) yD)))) (uH (yM J9 (yL yK (yL yK (pv 0) (pv 9)) yG) (yL yK (yL yK (pv 0) (pv 3)) yG))))) (yC (yU (i:=10) (yL yK (pv 0) (pv 9))) (yF (xA (PW.pt (jF (yM zU (yL yK (pv 10) yG) (yL yK (yL yK (pv 0) (pv 3)) yG)) (uH (yM bQI (yL yK (pv 10) yG) (yL yK (yL yK (pv 0) (pv 3)) yG))))) (yF (yZ (jD cXF cXP cXQ xR (pv 8) (yA (pv 9) yD)))) yS))) yS))) (yC (xA (PW.pt (jF (yM (jN hr.units0) (pv 8) (xB yD)) (uH (yM aX0 (yV xD (pv 4) yG) yG)))) (yF (yU (i:=7) (yL yK (pv 8) (yV xD (yV zW (yV aQh (pv 4) yG) (pv 2)) (yR yN rfl T.b_len xG (yA (pv 8) yD)))))) yS) (yF (yP (xK (yA yQ (yA (pv 3) (yA (pv 7) yD)))))))))))))),?_⟩;have hl:(rs.map V.ref).length=R.length:=by rw[cXe];exact Y.len
 have S:(0:Int)<((ns.map V.int).length:Nat):=by rw[cXe];have:=cZq.mpr a2;omega
 obtain⟨g,a1⟩:=Q9 a2 ((k:Nat)+1);obtain⟨N,a6⟩:=Q9 a2 ((k:Nat)+2);refine⟨_,Ce,_,Ce,_,_,Ce,Ce,_,Ce,ca,_,Ce,.inl (Cc hc),_,_,Ce,Ce,S,ca,_,_,_,Ce,Ce,Cc hc,a1,?_⟩;dsimp only[yW];refine⟨_,Ce,_,Ce,_,_,Ce,Ce,_,Ce,ca,_,Ce,.inl (Cc hc),_,_,Ce,Ce,S,ca,_,_,_,Ce,Ce,Cc hc,a6,?_⟩;dsimp only[yW];refine⟨_,Ce,v,_,Ce,.inl (Cc Y.lst),?_⟩;rw[hl];refine⟨_,Ce,by omega,by omega,λD hD=>?_⟩;rw[cXG];refine W8 (λj=>decide (zY (Bk.lk R j)=V.non)) (λk=>V.int (k:Nat)) hD (by rw[cXC];omega) (λj hj X R' hH L=>?_) (λk hk _ X R' hH L=>⟨_,Ce,L⟩) ?_
 ·have M:=cQ9 hj;obtain⟨b,g1,g2,cp,g3,g4⟩:=Y.get M;have b0:X v=some (.lst (rs.map V.ref)):=by rw[hH v (yI Y.lst hD)];exact Y.lst
  have hb:X b=_:=(hH b (yI g3 hD)).trans g3;rw[Bk.uM M]at L;exact⟨_,Ce,_,Ce,v,_,_,_,Ce,Ce,Cc b0,yT g1,b,_,4,_,Ce,Ce,Cc hb,Ce,Ce,_,Ce,L⟩
 generalize b3:(cXm R.length).filter (λj=>decide (zY (Bk.lk R j)=V.non))=free;have k1:=yE hD (.lst (free.map λi=>V.int (i:Nat)));have Z:upd H D (.lst (free.map λi=>V.int (i:Nat))) D=some (.lst (free.map λi=>V.int (i:Nat))):=yB;generalize upd H D (.lst (free.map λi=>V.int (i:Nat)))=H1 at k1 Z ⊢;dsimp only[yW];refine zX (λB X=>∃W:Int,B= [some (.ref v),some (.ref ca),some (.int (k:Nat)),some (.int W),some (.int g),some (.int N),some (.ref D),none,none,none,none]/\xJ H X) ?Z0 (λd=>?_);case Z0=>
  rintro B H2 ⟨W,rfl,k2⟩;have a5:=Y.same k2;refine⟨_,Ce,_,Ce,_,_,Ce,Ce,_,Ce,v,_,Ce,.inl (Cc a5.lst),_,_,Ce,Ce,_,_,Ce,Ce,(show(0:Int)<(((rs.map V.ref).length:Nat):Int)+1 by omega),_,Ce,_,_,Ce,Ce,(show(0:Int)<11 by decide),Ce,.inr ⟨_,Ce,_,_,Ce,Ce,?_⟩⟩;dsimp only[yW];refine⟨z0,λU a0=>?_⟩;dsimp only[yW];refine⟨_,Ce,v,_,Ce,.inl (Cc ((yE a0 (.lst [])) _ _ a5.lst)),?_⟩;rw[hl];refine⟨_,Ce,by omega,by omega,?_⟩;rw[cXG];have a7:H U=none:=k2.fresh a0;generalize ((g+(k:Nat)) % ((R.length:Nat)+1) - if decide (V.int (g % 11)=V.int 5)=true then 1 else 0)=goal;refine vO (λt σ H3=>L2.Ez3 λ(a:List Nat)(o9 J:Option V)=>σ= [some (.ref v),some (.ref ca),some (.int (k:Nat)),some (.int W),some (.int g),some (.int N),some (.ref D),some (.int goal),some (.ref U),o9,J]/\xJ H H3/\H3 U=some (.lst (a.map λi=>V.int (i:Nat)))/\a.length<=t) ?_ ?_ ?_
  ·exact⟨[],none,none,Ce,k2.trans (yE a0 _),yB,cXh _⟩
  ·rintro j σ H3 hj ⟨a,o9,J,rfl,I,n,a8⟩;rw[cJz];dsimp only[yW];have u:=Y.same I;have M:=cQ9 hj;obtain⟨bj,j1,j2,cj,j3,j4⟩:=u.get M;refine⟨_,Ce,_,Ce,v,rs,R,W,Ce,u,_,Ce,?_⟩;cases h1:Bk.vU R W with
   |false=>exact onF rfl (onF rfl ⟨a,_,_,Ce,I,n,by omega⟩)
   |true=>
   obtain⟨i,r,rfl,b1,hi,hv⟩:=Bk.vL h1;obtain⟨b,g1,g2,cp,g3,g4⟩:=u.get hi;refine onT rfl ⟨_,Ce,_,Ce,v,_,_,_,Ce,Ce,Cc u.lst,yT j1,bj,_,0,_,Ce,Ce,Cc j3,Ce,_,Ce,_,Ce,v,_,_,_,Ce,Ce,Cc u.lst,yT g1,b,_,0,_,Ce,Ce,Cc g3,Ce,Ce,_,Ce,?_⟩;refine X4 (λc1=>?_) (λc1=>?_)
   ·refine⟨_,Ce,_,Ce,v,_,_,_,Ce,Ce,Cc u.lst,yT j1,?_⟩;dsimp only[yW];refine⟨_,Ce,bj,_,2,_,Ce,Ce,Cc j3,Ce,_,Ce,_,Ce,v,_,_,_,Ce,Ce,Cc u.lst,yT g1,b,_,2,_,Ce,Ce,Cc g3,Ce,Ce,_,Ce,?_⟩;rw[vZ];cases h2:decide (R[j].partner=r.partner)with
    |false=>exact onF rfl (onF rfl ⟨a,_,_,Ce,I,n,by omega⟩)
    |true=>
    refine onT rfl ⟨_,Ce,bj,_,1,_,Ce,Ce,Cc j3,Ce,_,Ce,_,Ce,v,_,_,_,Ce,Ce,Cc u.lst,yT g1,b,_,1,_,Ce,Ce,Cc g3,Ce,_,_,Ce,Ce,_,Ce,?_⟩;refine X4 (λc2=>?_) (λc2=>?_)
    ·refine⟨_,Ce,.inl ⟨rfl,_,Cc n⟩,_,Ce,U,_,_,Ce,Ce,n,zlt (by rw[cXe];omega),?_⟩;have e5:(a.map λi=>V.int (i:Nat))++ [V.int (j:Nat)]=(a++ [j]).map λi=>V.int (i:Nat):=by simp
     rw[e5];refine⟨a++ [j],_,_,Ce,λx o e=>?_,yB,by rw[cXD];simp;omega⟩;rw[yJ (λz=>by rw[z,a7]at e;cases e)];exact I _ _ e
    ·exact⟨a,_,_,Ce,I,n,by omega⟩
   ·exact⟨a,_,_,Ce,I,n,by omega⟩
  ·rintro σ H3 ⟨a,o9,J,rfl,I,n,a8⟩;dsimp only[aWb];refine zX (λB X=>∃g':Int,B= [some (.ref v),some (.ref ca),some (.int (k:Nat)),some (.int W),some (.int g),some (.int N),some (.ref D),some (.int g'),some (.ref U),o9,J]/\xJ H X) ?rest2 (λd=>?_);case rest2=>
    rintro B H4 ⟨g',rfl,k4⟩;refine⟨_,Ce,_,Ce,z3,λp hp=>?_⟩;exact q _ _ (k4.trans (yE hp _)) ⟨p,.hang W g',Ce,yB,⟨trivial,trivial⟩⟩
   refine⟨_,Ce,z0,λpn G=>⟨U,pn,_,Ce,Ce,Cc ((yE G (.lst [])) _ _ n),Cc yB,_,Ce,?_⟩⟩;have C:=yE G (.lst []);generalize upd H3 pn (.lst [])=H4 at C ⊢;by_cases l:a= []
   ·subst l;exact onF rfl (onF rfl (d _ _ ⟨goal,Ce,I.trans C⟩))
   refine onT (by cases a with|nil=>exact absurd rfl l|cons=>rfl) ⟨_,Ce,_,_,Ce,Ce,(show(0:Int)<7 by decide),_,_,Ce,Ce,_,Ce,?_⟩;refine X4 (λc=>?_) (λc=>d _ _ ⟨goal,Ce,I.trans C⟩);obtain⟨g',a3⟩:=aVb l (g / 7+(k:Nat));have y:=C _ _ n;have a4:(0:Int)<((a.map λi=>V.int (i:Nat)).length:Nat):=by rw[cXe];have:=cZq.mpr l;omega
   refine⟨_,Ce,_,Ce,_,_,Ce,Ce,⟨by decide,by decide⟩,_,Ce,_,_,Ce,Ce,_,Ce,U,_,Ce,.inl (Cc y),_,_,Ce,Ce,a4,U,_,_,_,Ce,Ce,Cc y,a3,?_⟩;dsimp only[yW];exact d _ _ ⟨g',Ce,I.trans C⟩
 refine⟨_,Ce,z0,λpn G=>⟨D,pn,_,Ce,Ce,Cc ((yE G (.lst [])) _ _ Z),Cc yB,_,Ce,?_⟩⟩;have C:=yE G (.lst []);generalize upd H1 pn (.lst [])=H4 at C ⊢;by_cases l:free= []
 ·subst l;exact onF rfl (onF rfl (d _ _ ⟨m,Ce,k1.trans C⟩))
 refine onT (by cases free with|nil=>exact absurd rfl l|cons=>rfl) ⟨_,Ce,_,_,Ce,Ce,(show(0:Int)<5 by decide),_,_,Ce,Ce,_,Ce,?_⟩;refine X4 (λc=>?_) (λc=>d _ _ ⟨m,Ce,k1.trans C⟩);obtain⟨g',a3⟩:=aVb l N;have y:=C _ _ Z;have a4:(0:Int)<((free.map λi=>V.int (i:Nat)).length:Nat):=by rw[cXe];have:=cZq.mpr l;omega
 refine⟨_,Ce,_,Ce,_,Ce,D,_,Ce,.inl (Cc y),_,_,Ce,Ce,a4,D,_,_,_,Ce,Ce,Cc y,a3,?_⟩;dsimp only[yW];exact d _ _ ⟨g',Ce,k1.trans C⟩
end
end Law
namespace Law
open PySem L2 PyProof.Rows
open Bk (Row Rows xZ zO Ans)
open Desk (xP uB qD Wf Up Run zP wJ)
def qR(h:uB o H a v)(k:∀p u,p∉o->H p=some u->p∉c/\b p=some u):uB c b a v:=by
 cases a with
 |num n=>exact h
 |txt x=>exact h
 |nums l=>obtain⟨p,e,n,q⟩:=h;exact⟨p,e,k p _ n q⟩
 |txts l=>obtain⟨p,e,n,q⟩:=h;exact⟨p,e,k p _ n q⟩
 |row r=>obtain⟨p,e,n,q⟩:=h;exact⟨p,e,k p _ n q⟩
structure Mid(H0:Hp)(ra sa ds us:Nat)(es:List zO)(das:List Nat)(i:Nat)(H:Hp):Prop where
 ne:ds≠us
 wf:∀e∈es,Wd e
 len:das.length=es.length
 at_:∀ (j:Nat)(d:Nat)(e:zO),das[j]? =some d->es[j]? =some e->H d=some (.tup (xP e))
 ex:∃ (rs:List Nat)(as:List Ans)(vs:List V),LGo H0 ra sa (es.take i) as H rs/\aW9 H0 ra sa H rs ds (das.map V.ref)/\aW9 H0 ra sa H rs us vs/\cXZ (λv a=>uB (us::ds::sa::ra::rs) H a v) vs as
def Mid.same(m:Mid l f sa ds us h b i H)(k:xJ H c):Mid l f sa ds us h b i c:=by
 obtain⟨q,o,w,g,t,s,p⟩:=m.ex;exact⟨m.ne,m.wf,m.len,λj d e r x=>k _ _ (m.at_ j d e r x),q,o,w,g.same k,t.same g.dom k,s.same g.dom k,wJ (λv a z=>qR z λp u n e=>⟨n,k _ _ e⟩) p⟩
def Mid.keep(m:Mid b d sa ds us c a i H):xJ b H:=let ⟨rs,as,vs,g,_⟩:=m.ex;g.keep
def Mid.push{k:List zO}(m:Mid A r sa ds us k b i H)(t:i=k.length)(D:H d=some (.tup (xP e)))(hw:Wd e):Mid A r sa ds us (k++ [e]) (b++ [d]) i (upd H ds (.lst ((b++ [d]).map V.ref))):=by
 obtain⟨C,B,F,g,o,E,p⟩:=m.ex;have w:=g.write o ((b++ [d]).map V.ref);have tk:∀ {x ys},H x=some (.tup ys)->upd H ds (.lst ((b++ [d]).map V.ref)) x=some (.tup ys):=λ{x ys} h=>by rw[yJ (λz=>by rw[z,o.at_]at h;cases h)];exact h
 refine⟨m.ne,λx c=>?_,by simp[m.len],λj x y l f=>?_,C,B,F,?_,w.2,E.write (cXT m.ne) o.nb _,wJ (λv a z=>qR z λp u n h=>⟨n,?_⟩) p⟩
 ·rcases cXH.mp c with c|c
  ·exact m.wf x c
  ·rw[cXo.mp c];exact hw
 ·by_cases s:j<k.length
  ·rw[cXU (by rw[m.len];exact s)]at l;rw[cXU s]at f;exact tk (m.at_ j x y l f)
  ·have q:j=k.length:=by
    have:=(cXn.mp f).1;simp at this;omega
   subst q;rw[cXz (by rw[m.len];exact cXh _),m.len,cZz]at l;rw[cXz (cXh _),cZz]at f;cases l;cases f;exact tk D
 ·rw[t,List.take_left' rfl];have:=w.1;rw[t,cX4]at this;exact this
 ·rw[yJ (λz=>n (by rw[z];exact cXl _ cXp))];exact h
def Mid.next(m:Mid X f sa ds us o b i H)(hz:i<60)(hd:b[i]? =some d)(E:o[i]? =some e){Q:VK} (q:∀ (v:V)(k:Hp)(vs:List V),H us=some (.lst vs)->k us=some (.lst vs)->vs.length=i->Mid X f sa ds us o b (i+1) (upd k us (.lst (vs++ [v])))->Q v k):aZi [.ref f,.ref sa,.ref d] H Q E0:=by
 obtain⟨N,Y,vs,g,U,J,p⟩:=m.ex;have a0:i<o.length:=(cXn.mp E).1;have A:(o.take i).length=i:=by rw[cZl];omega
 have I:vs.length=i:=by obtain⟨R,S,_,_,_,hr⟩:=g.ex;rw[cJh p,<- hr.len,A]
 have hw:Wf e:=(m.wf e (cXs E)).1;refine g.step hw (by rw[A];exact hz) (m.at_ i d e hd E) λa v k c g2 t B W=>?_;have t1:=U.step t;have F:=J.step t;refine q v k vs J.at_ F.at_ I ?_;have w:=g2.write F (vs++ [v]);obtain⟨R,S,G,_⟩:=g.ex;have tk:∀ {x ys},H x=some (.tup ys)->upd k us (.lst (vs++ [v])) x=some (.tup ys):=λ{x ys} h=>by
  have D:x≠sa:=λz=>by rw[z,G.shut]at h;cases h
  have K:x≠f:=λz=>by rw[z,G.book.lst]at h;cases h
  have C:=t.1 x _ D K (G.book.tupNo h) h;rw[yJ (λz=>by rw[z,F.at_]at C;cases C)];exact C
 have o2:∀p u,p∉us::ds::sa::f::N->H p=some u->p∉us::ds::sa::f::c/\upd k us (.lst (vs++ [v])) p=some u:=λp u n h=>by
  have D:p≠us:=λz=>n (by rw[z];exact cXp);have K:p≠ds:=λz=>n (by rw[z];simp);have O:p≠sa:=λz=>n (by rw[z];simp);have T:p≠f:=λz=>n (by rw[z];simp);have P:p∉N:=λz=>n (by simp[z]);refine⟨λz=>?_,by rw[yJ D];exact t.1 p u O T P h⟩;simp only[cXj,D,K,O,T,false_or]at z;rcases t.2.1 p z with y|y
  ·exact P y
  ·rw[h]at y;cases y
 have et:o.take (i+1)=o.take i++ [e]:=by rw[cZa,E];rfl
 refine⟨m.ne,m.wf,m.len,λj x y Z C=>tk (m.at_ j x y Z C),c,Y++ [a],vs++ [v],by rw[et];exact w.1,t1.write m.ne F.nb _,w.2,?_⟩;refine cVY (wJ (λv a z=>qR z o2) p) ?_;have s:∀x,v= .ref x->x≠us:=λx ex z=>W x ex (.lst vs) (by intro _ y;cases y) (by rw[z];exact J.at_);have L:∀x,v= .ref x->x≠ds:=λx ex z=>W x ex (.lst (b.map V.ref)) (by intro _ y;cases y) (by rw[z];exact U.at_);have M:∀x u,v= .ref x->x∉sa::f::c->k x=some u->x∉us::ds::sa::f::c/\upd k us (.lst (vs++ [v])) x=some u:=λx u ex n h=>
  ⟨λz=>(cXj.mp z).elim (s x ex) λz=>(cXj.mp z).elim (L x ex) n,by rw[yJ (s x ex)];exact h⟩
 cases a with
 |num n=>exact B
 |txt x=>exact B
 |nums l=>obtain⟨x,ex,n,h⟩:=B;exact⟨x,ex,M x _ ex n h⟩
 |txts l=>obtain⟨x,ex,n,h⟩:=B;exact⟨x,ex,M x _ ex n h⟩
 |row r=>obtain⟨x,ex,n,h⟩:=B;exact⟨x,ex,M x _ ex n h⟩
end Law
namespace Law
open PySem L2 PyProof.Rows
open Bk (Row Rows xZ zO Ans)
open Desk (xP uB qD Wf vV stV)
def aY3{K:cXc}{x i:V}{H:Hp}{Q:VK}{a:Nat}{xs:List V}{j:Int}(c:x= .ref a)(d:i= .int j)(e:SqL K H a xs)(h0:0<=j)(f:j<(xs.length:Nat))(q:∀v∈xs,Q v H):bKx K x i H Q:=by
 obtain⟨k,rfl⟩:∃k:Nat,j=(k:Int):=⟨j.toNat,by omega⟩;have b:k<xs.length:=by omega
 exact⟨a,xs,_,_,c,d,e,yT (cQ9 b),q _ (cZX b)⟩
def X1{K:cXc}{x i:V}{H:Hp}{Q:VK}{a:Nat}{xs:List V}{j:Int}(c:x= .ref a)(f:i= .int j)(e:SqL K H a xs)(h0:0<=j)(b:j<(xs.length:Nat))(d:∀v∈xs,∃n,v= .int n)(q:∀n,V.int n∈xs->Q (.int n) H):bKx K x i H Q:=
 aY3 c f e h0 b λv m=>by obtain⟨n,rfl⟩:=d v m;exact q n m
def aQ7{K:cXc}{x i:V}{H:Hp}{Q:VK}{a:Nat}{xs:List V}{j:Int}(c:x= .ref a)(f:i= .int j)(e:SqL K H a xs)(h0:0<=j)(b:j<(xs.length:Nat))(d:∀v∈xs,∃n,v= .str n)(q:∀n,V.str n∈xs->Q (.str n) H):bKx K x i H Q:=
 aY3 c f e h0 b λv m=>by obtain⟨n,rfl⟩:=d v m;exact q n m
def b0:(0:Int)<=(if b=true then 1 else 0):=by split<;> decide
def b1:(if b=true then(1:Int)else 0)<2:=by split<;> decide
def md0{x n:Int}(h:0<n):0<=x % n:=Int.emod_nonneg x (by omega)
def md1{x n:Int}(h:0<n):x % n<n:=Int.emod_lt_of_pos x h
inductive bY2(H:Hp)(ma:Nat)(n:Nat):Prop|mk(vs:List V)(h:H ma=some (.lst vs))(h:vs.length=n)(h:∀v∈vs,uO H v)
structure Y8(H0 H:Hp)(ma:Nat)(n:Nat):Prop where
 k:xJ H0 H
 new:H0 ma=none
 ex:bY2 H ma n
def Y8.same(m:Y8 e H f n)(k:xJ H d):Y8 e d f n:=
 ⟨m.k.trans k,m.new,let ⟨vs,a,b,c⟩:=m.ex;⟨vs,k _ _ a,b,λv g=>(c v g).same k⟩⟩
def Y8.push(m:Y8 j H d n)(e:H d=some (.lst vs))(l:uO H v):Y8 j (upd H d (.lst (vs++ [v]))) d (n+1):=by
 obtain⟨k,f,r,a,b,c⟩:=m;rw[e]at a;cases a;have q:∀v,uO H v->uO (upd H d (.lst (vs++ [v]))) v:=λv ⟨p,e',h1,h2,h3⟩=>⟨p,e',h1,by rw[yJ (λz=>by rw[z,e]at h2;cases h2)];exact h2,h3⟩;have g:∀v x,uO H v->uO (upd H d x) v:=λv x ⟨p,e',h1,h2,h3⟩=>⟨p,e',h1,by rw[yJ (λz=>by rw[z,e]at h2;cases h2)];exact h2,h3⟩;refine⟨λx o h=>by rw[yJ (λz=>by rw[z,f]at h;cases h)];exact k _ _ h,f,_,yB,by simp[b],λu i=>?_⟩;rcases cXH.mp i with i|i
 ·exact g _ _ (c u i)
 ·rw[cXo.mp i];exact g _ _ l
def bJO(h:u D (σ.set i (some v)) H):bYZ (bYX (tC v) (yW i)) u D σ H:=h
abbrev aWF:Stmt:=xM Bt
inductive bXB(vs:List V)(H:Hp)(Q:VK)(h:XK):Prop|mk(ra ca:Nat)(rs:List Nat)(R:Rows)(ns:List Int)(k:Nat)(m turn:Int)(h:vs= [.ref ra,.ref ca,.int (k:Nat),.int m,.int turn])(h:xF H ra rs R)(h:R.length<=60)(h:H ca=some (.lst (ns.map V.int)))(h:k<ns.length)(h:15<=turn)(h:turn<24)(h:∀ (H':Hp)(v:V),xJ H H'->uO H' v->Q v H')
section
variable {K:cXc}
def bJs:yO [A1,AO,AH,AB,BH,Bi,Bz,"_law_base","_law_tied",B5,"_law_way","_law_further","_law_menu","_law_stop","_law_asks"] [A1,AO,AH,AB,BH] (yH aWF):=scM
def bZy:xO [A1,AO,AH,AB,BH,Bi,Bz,"_law_base","_law_tied",B5,"_law_way","_law_further","_law_menu","_law_stop","_law_asks"] (yH aWF) CP [A1] [0] (lsN [(".0",.local),(CP,.local),(A1,.free)]):=
 lcM
seal PE PA PS PSs PT in
def bZN(T:uK mg)(a0:mg As=none)(G:FnG P w K mg base 1 Ah [A1,AB] aQJ)(F:Fun K Bt Bt aWF f fd):xL P w K mg base CX0 2 f fd [A1,AO,AH,AB,BH] bXB:=by
 have sc:=bJs;refine F.ok (k:=1) sc (λj3 A outer s H vs Q E hr h=>?_);obtain⟨X,Y,rs,R,ns,k,m,turn,rfl,S,hR,hc,b5,j1,j0,q⟩:=h;refine⟨_,(yC (yU (i:=5) (yL yK (pv 1) (yV xD (yV zW (pv 2) yG) (yR yN rfl T.b_len xG (yA (pv 1) yD))))) (yC (yU (i:=6) (yL yK (pv 1) (yV xD (yV zW (pv 2) yG) (yR yN rfl T.b_len xG (yA (pv 1) yD))))) (yC (yU (i:=7) yG) (yC (xA (zA (xU G hr rfl (yA (pv 0) (yA (pv 3) yD)))) (yF (yU (i:=7) (yL yK (yL yK (pv 0) (pv 3)) yG))) yS) (yC (aX1 (i:=8) bZy rfl sc.nd rfl rfl (wA rfl T.b_range (yA (yR yN rfl T.b_len xG (yA (pv 0) yD)) yD)) (λ_ _ _ _ _=>(vC (yM vB (yL ixK (yL ixK (pv 1) (pv 0)) yG) zN))) (λ_ _ _ _ _=>(pv 0))) (yC (xA (PW.pt (jF (yM zU (pv 4) yG) (jF (yM (jN hr.units0) (pv 8) (xB yD)) (uH (yM aX0 (yV xD (pv 5) yG) yG))))) (yF (yU (i:=3) (yL yK (pv 8) (yV xD (pv 6) (yR yN rfl T.b_len xG (yA (pv 8) yD)))))) yS) (yC (yU (i:=9) (yL yK (xB (yA yQ (yA yQ (yA yQ (yA yQ (yA yQ (yA (yV bQJ yQ yG) yD))))))) (yV xD (pv 5) (yL yK (xB (yA yG (yA yG yD))) (yV xD (yL yK (pv 1) (pv 2)) yG))))) (yC (yU (i:=10) (zH uD rfl a0 qE (yA (wN zU (yV xD (yL yK (pv 1) (pv 2)) yG) yG) yD))) (yC (yU (i:=11) (yV uG (yV zW (pv 7) (yV xD (pv 5) (yL yK (xB (yA yG (yA yG yD))) (pv 10)))) (yL yK (xB (yA yG (yA yG yD))) (pv 10)))) (yC (yU (i:=12) (xB (yA (xK (yA yQ (yA (pv 3) yD))) (yA (xK (yA yQ (yA (pv 3) (yA (pv 11) yD)))) yD)))) (yC (yZ (jD cXF cXP cXQ xR (pv 12) (yA (xK (yA yQ (yA (pv 3) (yA (yL yK (xB (yA yG (yA yG (yA yG (yA yG (yA (bQP aJ4 yG) yD)))))) (yV xD (pv 5) yG)) yD)))) yD))) (yC (yZ (jD cXF cXP cXQ xR (pv 12) (yA (xK (yA yQ (yA (pv 3) (yA (yL yK (xB (yA yQ (yA yQ (yA yQ (yA yQ (yA yQ (yA (yV aZE yQ yG) yD))))))) (yV xD (pv 5) yG)) yD)))) yD))) (yC (yU (i:=13) (yL yK (xB (yA (yV uG (yV xD (pv 5) yG) yG) (yA (yV zW (pv 7) (yV xD (pv 5) yG)) yD))) (zH uD rfl a0 qE (yA (wN zU (yV xD (pv 6) yG) yG) yD)))) (yC (yU (i:=12) (yV aZa (pv 12) (xB (yA (xK (yA yQ (yA (pv 3) (yA (pv 9) yD)))) (yA (xK (yA yQ (yA (pv 3) yD))) (yA (xK (yA yQ (yA (pv 13) yD))) yD)))))) (yC (yU (i:=14) (xB (yA (xK (yA yQ (yA (pv 3) yD))) (yA (xK (yA yQ (yA (pv 3) yD))) (yA (xK (yA yQ (yA (yV uG (yV xD (pv 6) yG) yG) yD))) yD))))) (yC (yU (i:=14) (yV aZa (pv 14) (xB (yA (xK (yA yQ (yA (pv 9) yD))) (yA (xK (yA yQ (yA (yV uG (yV xD (pv 6) yG) yG) yD))) (yA (xK (yA yQ (yA (pv 3) yD))) yD)))))) (yC (xA (yM uN (pv 4) yG) (yF (yP (yL yK (pv 12) (yV uG (pv 4) yG)))) yS) (yF (yP (yL yK (pv 14) (yV xD (yV zW (yV aQh (pv 5) yG) (pv 4)) yG))))))))))))))))))))),?_⟩;have b6:ns≠ []:=λz=>by rw[z]at b5;simp at b5
 have hl:(rs.map V.ref).length=R.length:=by rw[cXe];exact S.len
 have U:(0:Int)<((ns.map V.int).length:Nat):=by rw[cXe];have:=cZq.mpr b6;omega
 have d3:(ns.map V.int)[k]? =some (.int ns[k]):=by rw[cXu,cQ9 b5];rfl
 obtain⟨d,b4⟩:=Q9 b6 ((k:Nat)+1);obtain⟨g,d4⟩:=Q9 b6 ((k:Nat)+2);refine⟨_,Ce,_,Ce,_,_,Ce,Ce,_,Ce,Y,_,Ce,.inl (Cc hc),_,_,Ce,Ce,U,Y,_,_,_,Ce,Ce,Cc hc,b4,?_⟩;dsimp only[yW];refine⟨_,Ce,_,Ce,_,_,Ce,Ce,_,Ce,Y,_,Ce,.inl (Cc hc),_,_,Ce,Ce,U,Y,_,_,_,Ce,Ce,Cc hc,d4,?_⟩;dsimp only[yW];refine bJO ?_;refine zX (λo t=>∃bs:Int,o= [some (.ref X),some (.ref Y),some (.int (k:Nat)),some (.int m),some (.int turn),some (.int d),some (.int g),some (.int bs),none,none,none,none,none,none,none]/\t=H) ?Z0 (λl=>?_);case Z0=>
  rintro o t ⟨bs,rfl,rfl⟩;refine⟨_,Ce,X,_,Ce,.inl (Cc S.lst),?_⟩;rw[hl];refine⟨_,Ce,by omega,by omega,λD hD=>?_⟩;rw[cXG];refine W8 (λj=> !decide (zY (Bk.lk R j)=V.non)) (λk=>V.int (k:Nat)) hD (by rw[cXC];omega) (λj hj H1 R' hH u=>?_) (λk hk _ t R' hH u=>⟨_,Ce,u⟩) ?_
  ·have c9:=cQ9 hj;obtain⟨b,Z,g2,cp,p,O⟩:=S.get c9;have i6:H1 X=some (.lst (rs.map V.ref)):=by rw[hH X (yI S.lst hD)];exact S.lst
   have hb:H1 b=_:=(hH b (yI p hD)).trans p;rw[Bk.uM c9]at u;exact⟨_,Ce,_,Ce,X,_,_,_,Ce,Ce,Cc i6,yT Z,b,_,4,_,Ce,Ce,Cc hb,Ce,Ce,_,Ce,u⟩
  generalize j7:(cXm R.length).filter (λj=> !decide (zY (Bk.lk R j)=V.non))=free;have k1:=yE hD (.lst (free.map λi=>V.int (i:Nat)));have a9:upd t D (.lst (free.map λi=>V.int (i:Nat))) D=some (.lst (free.map λi=>V.int (i:Nat))):=yB;generalize upd t D (.lst (free.map λi=>V.int (i:Nat)))=H1 at k1 a9 ⊢;dsimp only[yW];refine zX (λo H2=>∃m:Int,o= [some (.ref X),some (.ref Y),some (.int (k:Nat)),some (.int m),some (.int turn),some (.int d),some (.int g),some (.int bs),some (.ref D),none,none,none,none,none,none]/\xJ t H2) ?rest2 (λl=>?_);case rest2=>
   rintro o H2 ⟨m,rfl,k2⟩;refine⟨_,_,Ce,Ce,by decide,by decide,by decide,zn (by show 6<=100000;omega),λl6 h2=>?_⟩;have e6:=yE h2 (.lst [.str "old",.str "",.str "new",.str "old files",.str "Old, ~",.str (cVD "y" 40)]);have h6:upd H2 l6 (.lst [.str "old",.str "",.str "new",.str "old files",.str "Old, ~",.str (cVD "y" 40)]) l6=some (.lst [.str "old",.str "",.str "new",.str "old files",.str "Old, ~",.str (cVD "y" 40)]):=yB;generalize upd H2 l6 (.lst [.str "old",.str "",.str "new",.str "old files",.str "Old, ~",.str (cVD "y" 40)])=H3 at e6 h6 ⊢;refine⟨_,Ce,z2,λl2 i5=>?_⟩;have e7:=yE i5 (.lst [.int 3,.int 6]);have h7:upd H3 l2 (.lst [.int 3,.int 6]) l2=some (.lst [.int 3,.int 6]):=yB;have c8:=e7 _ _ h6;have k4:=(k2.trans e6).trans e7;generalize upd H3 l2 (.lst [.int 3,.int 6])=H4 at e7 h7 c8 k4 ⊢;have c7:=k4 _ _ hc;refine⟨_,Ce,_,Ce,Y,_,_,_,Ce,Ce,Cc c7,yT d3,_,_,Ce,Ce,(show(0:Int)<2 by decide),?_⟩;refine X1 rfl rfl (Cc h7) (md0 (by decide)) (md1 (by decide)) (by simp) λj hj=>?_;have i8:j=3\/j=6:=by simpa using hj
   refine⟨_,_,Ce,Ce,(show(0:Int)<j by omega),?_⟩;refine aQ7 rfl rfl (Cc c8) (md0 (by omega)) (Int.lt_of_lt_of_le (md1 (by omega)) (show j<=6 by omega)) (by simp) λe g0=>?_;have a8:e∈wQ:=by simpa[wQ]using g0
   dsimp only[yW];refine⟨_,Ce,_,Ce,Y,_,_,_,Ce,Ce,Cc c7,yT d3,_,_,Ce,Ce,(show(0:Int)<11 by decide),Ce,.inr ⟨_,Ce,?_⟩⟩;generalize i7:decide (V.int (ns[k] % 11)=V.int 4)=wb;dsimp only[yW];refine⟨_,Ce,_,Ce,z2,λl9 f0=>⟨_,Ce,?_⟩⟩;have e9:=yE f0 (.lst [.int 9,.int 3001]);refine X1 rfl rfl (Cc yB) b0 b1 (by simp) λj hj=>?_;have i9:j=9\/j=3001:=by simpa using hj
   refine⟨_,_,Ce,Ce,(show(0:Int)<j by omega),_,_,Ce,Ce,z2,λl4 h3=>⟨_,Ce,?_⟩⟩;have J:=(k4.trans e9).trans (yE h3 (.lst [.int 4,.int 1500]));refine X1 rfl rfl (Cc yB) b0 b1 (by simp) λj4 _=>?_;refine⟨_,_,Ce,Ce,?_⟩;generalize upd (upd H4 l9 (.lst [.int 9,.int 3001])) l4 (.lst [.int 4,.int 1500])=H5 at J ⊢;dsimp only[yW];refine⟨_,Ce,z2,λp1 f9=>⟨_,Ce,_,Ce,z3,λp2 b8=>⟨z2,λW c6=>?_⟩⟩⟩;have M1:Y8 t (upd (upd (upd H5 p1 (.tup [.str C5,.int m])) p2 (.tup [.str Ap,.int m,.int (bs+d % j - j4)])) W (.lst [.ref p1,.ref p2])) W 2:=by
    have a1:=yE f9 (.tup [.str C5,.int m]);have a2:=yE b8 (.tup [.str Ap,.int m,.int (bs+d % j - j4)]);have a3:=yE c6 (.lst [.ref p1,.ref p2]);refine⟨((J.trans a1).trans a2).trans a3,((J.trans a1).trans a2).fresh c6,_,yB,Ce,λv a=>?_⟩;rcases cXj.mp a with rfl|a
    ·exact⟨p1,.loose m,Ce,a3 _ _ (a2 _ _ yB),⟨trivial,trivial⟩⟩
    ·rw[cXo.mp a];exact⟨p2,.date m (bs+d % j - j4),Ce,a3 _ _ yB,⟨trivial,trivial⟩⟩
   generalize upd (upd (upd H5 p1 (.tup [.str C5,.int m])) p2 (.tup [.str Ap,.int m,.int (bs+d % j - j4)])) W (.lst [.ref p1,.ref p2])=H6 at M1 ⊢;dsimp only[yW];obtain⟨e4,e2, -, -⟩:=M1.ex;refine⟨_,Ce,.inl ⟨rfl,_,Cc e2⟩,_,Ce,_,Ce,zn (by show 5<=100000;omega),λl5 h5=>⟨_,Ce,_,_,Ce,Ce,(show(0:Int)<5 by decide),?_⟩⟩;refine X1 rfl rfl (Cc yB) (md0 (by decide)) (md1 (by decide)) (by simp) λtm _=>⟨z3,λp3 f8=>?_⟩;have a5:=(yE h5 (.lst [.int 0,.int 2,.int 6,.int 1,.int (-1)])).trans (yE f8 (.tup [.str AU,.int m,.int tm]));have d5:uO (upd (upd H6 l5 (.lst [.int 0,.int 2,.int 6,.int 1,.int (-1)])) p3 (.tup [.str AU,.int m,.int tm])) (.ref p3):=⟨p3,.term m tm,Ce,yB,⟨trivial,trivial⟩⟩;generalize upd (upd H6 l5 (.lst [.int 0,.int 2,.int 6,.int 1,.int (-1)])) p3 (.tup [.str AU,.int m,.int tm])=H7 at a5 d5 ⊢;have M2:=M1.same a5;have b3:=a5 _ _ e2;refine⟨W,_,_,Ce,Ce,b3,?_,?_⟩
   ·obtain⟨ws,w1,w2,_⟩:=M2.ex;rw[b3]at w1;cases w1;exact zlt (by omega)
   have M3:=M2.push b3 d5;generalize upd H7 W (.lst (e4++ [.ref p3]))=H8 at M3 ⊢;obtain⟨f5,e3, -, -⟩:=M3.ex;refine⟨_,Ce,.inl ⟨rfl,_,Cc e3⟩,_,Ce,_,_,Ce,Ce,by decide,by decide,by decide,λz4 j5=>⟨zn (by show 6<=100000;omega),λl7 h0=>⟨_,Ce,_,_,Ce,Ce,(show(0:Int)<6 by decide),?_⟩⟩⟩;refine aQ7 rfl rfl (Cc yB) (md0 (by decide)) (md1 (by decide)) (by simp) λx _=>⟨z3,λp4 g7=>?_⟩;have a7:=(yE h0 (.lst [.str Bu,.str "cy",.str "bo",.str "",.str "ann lee",.str z4])).trans (yE g7 (.tup [.str "copy",.int m,.str x]));have d7:uO (upd (upd H8 l7 (.lst [.str Bu,.str "cy",.str "bo",.str "",.str "ann lee",.str z4])) p4 (.tup [.str "copy",.int m,.str x])) (.ref p4):=⟨p4,.copy m x,Ce,yB,⟨trivial,trivial⟩⟩;generalize upd (upd H8 l7 (.lst [.str Bu,.str "cy",.str "bo",.str "",.str "ann lee",.str z4])) p4 (.tup [.str "copy",.int m,.str x])=H9 at a7 d7 ⊢;have M4:=M3.same a7;have b7:=a7 _ _ e3;refine⟨W,_,_,Ce,Ce,b7,?_,?_⟩
   ·obtain⟨ws,w1,w2,_⟩:=M4.ex;rw[b7]at w1;cases w1;exact zlt (by omega)
   have M5:=M4.push b7 d7;generalize upd H9 W (.lst (f5++ [.ref p4]))=H10 at M5 ⊢;refine⟨_,Ce,_,_,Ce,Ce,(show(0:Int)<24 by decide),_,_,Ce,Ce,_,Ce,_,Ce,_,_,Ce,Ce,(show(0:Int)<12 by decide),_,_,Ce,Ce,z2,λl8 h9=>⟨_,Ce,_,_,Ce,Ce,(show(0:Int)<3 by decide),Ce,.inr ⟨_,Ce,?_⟩⟩⟩;refine X1 rfl rfl (Cc yB) b0 b1 (by simp) λn _=>?_;have M6:=M5.same (yE h9 (.lst [.int (d % 24 - 2),.int (bs+d % 12)]));generalize upd H10 l8 (.lst [.int (d % 24 - 2),.int (bs+d % 12)])=H11 at M6 ⊢;dsimp only[yW];obtain⟨a4,f6,e0,e5⟩:=M6.ex;refine⟨_,Ce,_,Ce,_,Ce,z3,λy f7=>⟨_,Ce,z2,λC i0=>⟨_,Ce,z2,λN h8=>⟨z3,λa6 d6=>?_⟩⟩⟩⟩;have c1:=yE f7 (.tup [.str BV,.int m,.str e]);have c2:=yE i0 (.tup [.str Ay,.int m]);have c3:=yE h8 (.tup [.str Ai,.int n]);have c4:=yE d6 (.lst [.ref y,.ref C,.ref N]);refine⟨W,a6,_,_,Ce,Ce,c4 _ _ (c3 _ _ (c2 _ _ (c1 _ _ f6))),yB,by rw[e0,cXC];show 7<=16777216;omega,λmb d8=>?_⟩;have c5:=yE d8 (.lst (a4++ [.ref y,.ref C,.ref N]));have M7:Y8 t (upd (upd (upd (upd (upd H11 y (.tup [.str BV,.int m,.str e])) C (.tup [.str Ay,.int m])) N (.tup [.str Ai,.int n])) a6 (.lst [.ref y,.ref C,.ref N])) mb (.lst (a4++ [.ref y,.ref C,.ref N]))) mb 7:=by
    have kk:=(((M6.k.trans c1).trans c2).trans c3).trans c4;refine⟨kk.trans c5,kk.fresh d8,_,yB,by rw[cXD,e0];rfl,λv a=>?_⟩;rcases cXH.mp a with a|a
    ·exact(e5 v a).same ((((c1.trans c2).trans c3).trans c4).trans c5)
    ·rcases cXj.mp a with rfl|a
     ·exact⟨y,.file m e,Ce,c5 _ _ (c4 _ _ (c3 _ _ (c2 _ _ yB))),⟨trivial,a8⟩⟩
     ·rcases cXj.mp a with rfl|a
      ·exact⟨C,.void m,Ce,c5 _ _ (c4 _ _ (c3 _ _ yB)),⟨trivial,trivial⟩⟩
      ·rw[cXo.mp a];exact⟨N,.shut n,Ce,c5 _ _ (c4 _ _ yB),⟨trivial,trivial⟩⟩
   generalize upd (upd (upd (upd (upd H11 y (.tup [.str BV,.int m,.str e])) C (.tup [.str Ay,.int m])) N (.tup [.str Ai,.int n])) a6 (.lst [.ref y,.ref C,.ref N])) mb (.lst (a4++ [.ref y,.ref C,.ref N]))=H12 at M7 ⊢;dsimp only[yW];refine⟨_,Ce,z2,λr1 g8=>⟨_,Ce,z2,λr2 i2=>⟨_,Ce,_,_,Ce,Ce,(show(0:Int)<26 by decide),_,_,Ce,Ce,z2,λr3 g9=>⟨z3,λna d0=>?_⟩⟩⟩⟩;have f1:=yE g8 (.tup [.str Bc,.int m]);have f2:=yE i2 (.tup [.str B9,.int m]);have f3:=yE g9 (.tup [.str AW,.int (g % 26 - 1)]);have f4:=yE d0 (.lst [.ref r1,.ref r2,.ref r3]);have M8:=(((M7.same f1).same f2).same f3).same f4;have N1:Y8 t (upd (upd (upd (upd H12 r1 (.tup [.str Bc,.int m])) r2 (.tup [.str B9,.int m])) r3 (.tup [.str AW,.int (g % 26 - 1)])) na (.lst [.ref r1,.ref r2,.ref r3])) na 3:=by
    have kk:=((M7.k.trans f1).trans f2).trans f3;refine⟨kk.trans f4,kk.fresh d0,_,yB,Ce,λv a=>?_⟩;rcases cXj.mp a with rfl|a
    ·exact⟨r1,.state m,Ce,f4 _ _ (f3 _ _ (f2 _ _ yB)),⟨trivial,trivial⟩⟩
    ·rcases cXj.mp a with rfl|a
     ·exact⟨r2,.thread m,Ce,f4 _ _ (f3 _ _ yB),⟨trivial,trivial⟩⟩
     ·rw[cXo.mp a];exact⟨r3,.on true (g % 26 - 1),Ce,f4 _ _ yB,⟨trivial,trivial⟩⟩
   generalize upd (upd (upd (upd H12 r1 (.tup [.str Bc,.int m])) r2 (.tup [.str B9,.int m])) r3 (.tup [.str AW,.int (g % 26 - 1)])) na (.lst [.ref r1,.ref r2,.ref r3])=H13 at M8 N1 ⊢;dsimp only[yW];obtain⟨b9,i4,c0,i3⟩:=N1.ex;refine⟨_,Ce,_,Ce,z2,λI e8=>⟨_,Ce,_,_,Ce,Ce,(show(0:Int)<26 by decide),_,_,Ce,Ce,z2,λL h4=>⟨_,Ce,z2,λM g6=>⟨z3,λb2 d9=>?_⟩⟩⟩⟩;have Z:=yE e8 (.tup [.str Ao,.str e]);have g2:=yE h4 (.tup [.str AZ,.int (g % 26 - 1)]);have p:=yE g6 (.tup [.str BK,.int m]);have O:=yE d9 (.lst [.ref I,.ref L,.ref M]);refine⟨na,b2,_,_,Ce,Ce,O _ _ (p _ _ (g2 _ _ (Z _ _ i4))),yB,by rw[c0,cXC];show 6<=16777216;omega,λnb d2=>?_⟩;have g5:=yE d2 (.lst (b9++ [.ref I,.ref L,.ref M]));have M9:=((((M8.same Z).same g2).same p).same O).same g5;have N2:Y8 t (upd (upd (upd (upd (upd H13 I (.tup [.str Ao,.str e])) L (.tup [.str AZ,.int (g % 26 - 1)])) M (.tup [.str BK,.int m])) b2 (.lst [.ref I,.ref L,.ref M])) nb (.lst (b9++ [.ref I,.ref L,.ref M]))) nb 6:=by
    have kk:=(((M8.k.trans Z).trans g2).trans p).trans O;refine⟨kk.trans g5,kk.fresh d2,_,yB,by rw[cXD,c0];rfl,λv a=>?_⟩;rcases cXH.mp a with a|a
    ·exact(i3 v a).same ((((Z.trans g2).trans p).trans O).trans g5)
    ·rcases cXj.mp a with rfl|a
     ·exact⟨I,.letters e,Ce,g5 _ _ (O _ _ (p _ _ (g2 _ _ yB))),⟨trivial,trivial⟩⟩
     ·rcases cXj.mp a with rfl|a
      ·exact⟨L,.on false (g % 26 - 1),Ce,g5 _ _ (O _ _ (p _ _ yB)),⟨trivial,trivial⟩⟩
      ·rw[cXo.mp a];exact⟨M,.copies m,Ce,g5 _ _ (O _ _ yB),⟨trivial,trivial⟩⟩
   generalize upd (upd (upd (upd (upd H13 I (.tup [.str Ao,.str e])) L (.tup [.str AZ,.int (g % 26 - 1)])) M (.tup [.str BK,.int m])) b2 (.lst [.ref I,.ref L,.ref M])) nb (.lst (b9++ [.ref I,.ref L,.ref M]))=H14 at M9 N2 ⊢;dsimp only[yW];refine⟨_,Ce,_,_,Ce,Ce,_,Ce,?_⟩;refine X4 (λc=>?_) (λc=>?_)
   ·have c:turn<22:=of_decide_eq_true c;obtain⟨us,u1,u2,u3⟩:=M9.ex;refine⟨_,Ce,_,Ce,_,_,Ce,Ce,?_⟩;exact aY3 rfl rfl (Cc u1) (by omega) (by rw[u2];show turn - 15<7;omega) λv a=>q _ _ M9.k (u3 v a)
   ·obtain⟨us,u1,u2,u3⟩:=N2.ex;refine⟨_,Ce,_,Ce,_,_,Ce,Ce,⟨by decide,by decide⟩,_,Ce,_,_,Ce,Ce,_,_,Ce,Ce,(show(0:Int)<6 by decide),?_⟩;exact aY3 rfl rfl (Cc u1) (md0 (by decide)) (by rw[u2];exact md1 (by decide)) λv a=>q _ _ N2.k (u3 v a)
  refine⟨_,Ce,Ce,_,Ce,?_⟩;cases j6:decide (V.int turn=V.int 15)with
  |false=>exact onF rfl (onF rfl (l _ _ ⟨m,Ce,k1⟩))
  |true=>
  refine onT rfl ⟨_,Ce,z0,λpn e1=>⟨D,pn,_,Ce,Ce,Cc ((yE e1 (.lst [])) _ _ a9),Cc yB,_,Ce,?_⟩⟩;have J:=yE e1 (.lst []);generalize upd H1 pn (.lst [])=H4 at J ⊢;by_cases B:free= []
  ·subst B;exact onF rfl (onF rfl (l _ _ ⟨m,Ce,k1.trans J⟩))
  refine onT (by cases free with|nil=>exact absurd rfl B|cons=>rfl) ⟨_,Ce,_,_,Ce,Ce,(show(0:Int)<4 by decide),_,_,Ce,Ce,_,Ce,?_⟩;refine X4 (λc=>?_) (λc=>l _ _ ⟨m,Ce,k1.trans J⟩);obtain⟨g',i1⟩:=aVb B g;have d1:=J _ _ a9;have b8:(0:Int)<((free.map λi=>V.int (i:Nat)).length:Nat):=by rw[cXe];have:=cZq.mpr B;omega
  refine⟨_,Ce,_,Ce,_,Ce,D,_,Ce,.inl (Cc d1),_,_,Ce,Ce,b8,D,_,_,_,Ce,Ce,Cc d1,i1,?_⟩;dsimp only[yW];exact l _ _ ⟨g',Ce,k1.trans J⟩
 refine⟨_,Ce,_,Ce,X,rs,R,m,Ce,S,_,Ce,?_⟩;cases h1:Bk.vU R m with
 |false=>exact onF rfl (l _ _ ⟨0,Ce,rfl⟩)
 |true=>
 obtain⟨i,r,rfl,j2,hi,a⟩:=Bk.vL h1;obtain⟨b,Z,g2,cp,p,O⟩:=S.get hi;refine onT rfl ⟨_,Ce,_,Ce,X,_,_,_,Ce,Ce,Cc S.lst,yT Z,b,_,1,_,Ce,Ce,Cc p,Ce,?_⟩;dsimp only[yW];exact l _ _ ⟨r.date,Ce,rfl⟩
end
end Law
namespace Law
open PySem L2 PyProof.Rows
open Bk (Row Rows xZ zO Ans)
open Desk (xP uB qD Wf vV stV)
def bKM:cXV "max"=some (.builtin "max"):=dk
def bV8{t u:TS}(I:Bool->Hp->Prop)(h:∀Kk:Bool->Hp->Prop,(∀b a,I b a->Kk b a)->c σ H Kk)(d:∀a,I true a->t D σ a)(e:∀a,I false a->u D σ a):bYY c t u D σ H:=
 h _ λb a i=>by
  cases b with
  |true=>exact onT rfl (d a i)
  |false=>exact onF rfl (e a i)
def bYw{t u r:TS}(h:bYY c t u {D with nx:=r D} σ H):bYZ (bYY c t u) r D σ H:=h
def p60:(0:Int)<10 ^ (60:Int).toNat:=dk
def c60:cQz 10 60:=⟨by decide,by decide,by decide⟩
abbrev aVQ:Stmt:=xM BR
inductive aWS(vs:List V)(H:Hp)(Q:VK)(h:XK):Prop|mk(ra ca:Nat)(rs:List Nat)(R:Rows)(ns:List Int)(k:Nat)(h:vs= [.ref ra,.ref ca,.int (k:Nat)])(h:xF H ra rs R)(h:R.length<=60)(h:H ca=some (.lst (ns.map V.int)))(h:k<ns.length)(h:∀ (H':Hp)(v:V),xJ H H'->uO H' v->Q v H')
section
variable {K:cXc}
def bXq:yO [A1,AO,AH,Bi,Bz,BH,AB,BY,AR,"_law_who","_law_twin","_law_base"] [A1,AO,AH] (yH aVQ):=scM
seal PE PA PS PSs PT in
def bQA(T:uK mg)(Z:mg As=none)(a6:mg "max"=none)(U:FnG P w K mg base 2 Ah [A1,AB] aQJ)(o:FnG P w K mg base 2 BQ [A1,AO,AH,AB] aJY) (N:FnG P w K mg base 2 Bt [A1,AO,AH,AB,BH] bXB) (F:Fun K BR BR aVQ f fd):xL P w K mg base CX0 3 f fd [A1,AO,AH] aWS:=by
 have sc:=bXq;refine F.ok (k:=2) sc (λc8 A outer s H vs Q E hr h=>?_);obtain⟨D,g,rs,R,G,k,rfl,hB,hR,L,W,q⟩:=h;refine⟨_,(yC (yU (i:=3) (yL yK (pv 1) (yV xD (yV zW (pv 2) yG) (yR yN rfl T.b_len xG (yA (pv 1) yD))))) (yC (yU (i:=4) (yL yK (pv 1) (yV xD (yV zW (pv 2) yG) (yR yN rfl T.b_len xG (yA (pv 1) yD))))) (yC (yU (i:=5) (yV xD (yV zW (yL yK (pv 1) (pv 2)) (yV aWv yG (pv 2))) yG)) (yC (yU (i:=6) (yV xD (yV zW (pv 4) (pv 2)) (yR (aYD rfl) rfl a6 bKM (yA yG (yA (yR yN rfl T.b_len xG (yA (pv 0) yD)) yD))))) (yC (xA (yM zU (yV xD (yL yK (pv 1) (pv 2)) yG) yG) (yF (yU (i:=6) (yL yK (xB (yA (bQP aJ4 yG) (yA (yR yN rfl T.b_len xG (yA (pv 0) yD)) (yA (yV aXl yG yG) (yA (yV uG (bQP aJ4 yG) (yV xD (pv 3) (yV aXl yG yG))) (yA (yV zW (yR yN rfl T.b_len xG (yA (pv 0) yD)) (yV xD (pv 3) (yV aXl yG yG))) yD)))))) (yV xD (pv 3) yG)))) yS) (yC (yU (i:=7) (yL yK (xB (yA yG (yA yG (yA yG (yA yG (yA yG (yA yG yD))))))) (yV xD (yV aQh (pv 3) yG) yG))) (yC (xA (yM zU (yV xD (yL yK (pv 1) (pv 2)) yG) yG) (yF (yU (i:=7) (yL yK (xB (yA (bQP aJ4 yG) (yA yG (yA (yV uG (bQP aJ4 yG) (yV xD (pv 4) (yV aXl yG yG))) (yA (yV xD (pv 4) yG) yD))))) (yV xD (pv 4) yG)))) yS) (yC (xA (PW.pt (Y7 (yM uN (pv 5) yG) (uS (yM (aZD hr.units0) (pv 0) (xB yD))))) (yC (yU (i:=8) (yV zW (yV uG (yV xD (pv 3) yG) yG) (yV aWv (yV aXl yG yG) (zH uD rfl Z qE (yA (wN zU (yV xD (yL yK (pv 1) (pv 2)) yG) yG) yD))))) (yC (xA (yM zU (yV xD (yL yK (pv 1) (pv 2)) yG) yG) (yF (yU (i:=8) (yL yK (xB (yA (yV uG (yV xD (pv 3) yG) yG) (yA (yV xD (pv 3) (yV aXl yG yG)) (yA (yV uG yG (yV xD (pv 3) (yV aXl yG yG))) yD)))) (yV xD (pv 4) yG)))) yS) (yC (yU (i:=9) (yL yK (xB (yA yQ (yA yQ (yA yQ (yA yQ yD))))) (yV xD (pv 4) yG))) (yC (xA (yM zU (yV xD (yL yK (pv 1) (pv 2)) yG) yG) (yC (yU (i:=10) (yV aX9 (yV aX9 (yV aZE yQ (yV xD (yL yK (pv 1) yG) yG)) yQ) (yV aZE yQ (yV uG yG (yV xD (yL yK (pv 1) yG) yG))))) (yF (yU (i:=9) (yL yK (xB (yA yQ (yA (pv 10) (yA (yV aZE yQ yG) yD)))) (yV xD (pv 4) yG))))) yS) (yF (yP (xK (yA (yL yK (xB (yA yQ (yA yQ yD))) (yV xD (yV aQh (pv 4) yG) yG)) (yA (pv 8) (yA (pv 9) (yA (pv 7) yD))))))))))) yS) (yC (xA (yM uN (pv 5) yG) (yC (yU (i:=11) (yV xD (pv 3) yG)) (yC (xA (zA (xU U hr rfl (yA (pv 0) (yA (pv 6) yD)))) (yF (yU (i:=11) (yV uG (yV zW (yL yK (yL yK (pv 0) (pv 6)) yG) (yV xD (pv 3) (yL yK (xB (yA yG (yA yG yD))) (zH uD rfl Z qE (yA (wN zU (yV xD (yL yK (pv 1) (pv 2)) yG) yG) yD))))) yG))) yS) (yF (yP (xK (yA yQ (yA (pv 6) (yA (pv 11) (yA (pv 7) yD))))))))) yS) (yC (xA (yM uN (pv 5) yG) (yF (yP (xU o hr rfl (yA (pv 0) (yA (pv 1) (yA (pv 2) (yA (pv 6) yD))))))) yS) (yF (yP (xU N hr rfl (yA (pv 0) (yA (pv 1) (yA (pv 2) (yA (pv 6) (yA (pv 5) yD)))))))))))))))))),?_⟩;have X:G≠ []:=λz=>by rw[z]at W;simp at W
 have Y:(0:Int)<((G.map V.int).length:Nat):=by rw[cXe];have:=cZq.mpr X;omega
 have u:(G.map V.int)[k]? =some (.int G[k]):=by rw[cXu,cQ9 W];rfl
 have b5:(G.map V.int)[0]? =some (.int (G[0]'(by omega))):=by rw[cXu,cQ9 (by omega:0<G.length)];rfl
 obtain⟨l,a2⟩:=Q9 X ((k:Nat)+1);obtain⟨J,a9⟩:=Q9 X ((k:Nat)+2);refine⟨_,Ce,_,Ce,_,_,Ce,Ce,_,Ce,g,_,Ce,.inl (Cc L),_,_,Ce,Ce,Y,g,_,_,_,Ce,Ce,Cc L,a2,?_⟩;dsimp only[yW];refine⟨_,Ce,_,Ce,_,_,Ce,Ce,_,Ce,g,_,Ce,.inl (Cc L),_,_,Ce,Ce,Y,g,_,_,_,Ce,Ce,Cc L,a9,?_⟩;dsimp only[yW];refine⟨_,Ce,_,Ce,g,_,_,_,Ce,Ce,Cc L,yT u,_,Ce,_,_,Ce,Ce,.inl ⟨by decide,by decide⟩,_,_,Ce,Ce,_,_,Ce,Ce,(show(0:Int)<24 by decide),?_⟩;dsimp only[yW];obtain⟨turn,y⟩:∃turn:Int,turn=(G[k]+5*(k:Nat)) % 24:=⟨_,rfl⟩;have d2:0<=turn:=by rw[y];exact md0 (by decide)
 have b3:turn<24:=by rw[y];exact md1 (by decide)
 rw[<- y];refine⟨_,Ce,_,Ce,_,_,Ce,Ce,_,Ce,D,_,Ce,.inl (Cc hB.lst),_,_,Ce,_,_,Ce,Ce,?_,?_⟩
 ·show(0:Int)<(if _ then _ else _);split<;> omega
 dsimp only[yW];refine zX (λe C=>∃m:Int,e= [some (.ref D),some (.ref g),some (.int (k:Nat)),some (.int l),some (.int J),some (.int turn),some (.int m),none,none,none,none,none]/\xJ H C) ?Z0 (λa=>?_);case Z0=>
  rintro e H1 ⟨m,rfl,k1⟩;refine⟨zn (by show 6<=100000;omega),λl6 b8=>⟨_,Ce,_,_,Ce,Ce,⟨by decide,by decide⟩,_,_,Ce,Ce,(show(0:Int)<6 by decide),?_⟩⟩;refine X1 rfl rfl (Cc yB) (md0 (by decide)) (md1 (by decide)) (by simp) λt0 _=>?_;have k2:=k1.trans (yE b8 (.lst [.int 0,.int 2,.int 1,.int 5,.int 3,.int 7]));generalize upd H1 l6 (.lst [.int 0,.int 2,.int 1,.int 5,.int 3,.int 7])=H2 at k2 ⊢;have b7:=k2 _ _ L;dsimp only[yW];refine zX (λe C=>∃t:Int,e= [some (.ref D),some (.ref g),some (.int (k:Nat)),some (.int l),some (.int J),some (.int turn),some (.int m),some (.int t),none,none,none,none]/\xJ H C) ?rest2 (λa=>?_);case rest2=>
   rintro e H3 ⟨t,rfl,k3⟩;have c6:=k3 _ _ L;have b6:=hB.same k3;refine bYw (bV8 (λb C=>xJ H C) ?_ ?_ ?_)
   ·intro Kk hK;refine⟨_,Ce,_,_,Ce,Ce,_,Ce,?_⟩;refine X4 (λc=>hK _ _ k3) (λc=>?_);exact⟨_,Ce,z0,λpn b4=>⟨D,pn,_,Ce,Ce,Cc ((yE b4 (.lst [])) _ _ b6.lst),Cc yB,_,Ce,hK _ _ (k3.trans (yE b4 _))⟩⟩
   ·intro H4 O;have B:=O _ _ L;refine⟨_,Ce,_,_,Ce,Ce,(show(0:Int)<20 by decide),_,_,Ce,Ce,_,_,Ce,Ce,⟨by decide,by decide,by decide⟩,_,Ce,_,Ce,g,_,_,_,Ce,Ce,Cc B,yT u,_,_,Ce,Ce,(show(0:Int)<37 by decide),Ce,.inr ⟨_,Ce,_,_,Ce,Ce,.inl ⟨dk,dk⟩,_,_,Ce,Ce,?_⟩⟩;dsimp only[yW];refine zX (λe C=>∃d:Int,e= [some (.ref D),some (.ref g),some (.int (k:Nat)),some (.int l),some (.int J),some (.int turn),some (.int m),some (.int t),some (.int d),none,none,none]/\xJ H C) ?rest3 (λa=>?_);case rest3=>
     rintro e H5 ⟨d,rfl,k5⟩;refine⟨zn (by show 4<=100000;omega),λl4 b9=>⟨_,Ce,_,_,Ce,Ce,(show(0:Int)<4 by decide),?_⟩⟩;refine aQ7 rfl rfl (Cc yB) (md0 (by decide)) (md1 (by decide)) (by simp) λa7 _=>?_;have k6:=k5.trans (yE b9 (.lst [.str Bu,.str "bo",.str Bu,.str ""]));generalize upd H5 l4 (.lst [.str Bu,.str "bo",.str Bu,.str ""])=H6 at k6 ⊢;have a3:=k6 _ _ L;dsimp only[yW];refine zX (λe C=>L2.Ez2 λ(a1:Str)(a5:Option V)=>e= [some (.ref D),some (.ref g),some (.int (k:Nat)),some (.int l),some (.int J),some (.int turn),some (.int m),some (.int t),some (.int d),some (.str a1),a5,none]/\xJ H C) ?rest4 (λa=>?_);case rest4=>
      rintro e H7 ⟨a1,a5,rfl,k7⟩;refine⟨z2,λl2 a4=>⟨_,Ce,_,_,Ce,Ce,⟨by decide,by decide⟩,_,_,Ce,Ce,(show(0:Int)<2 by decide),?_⟩⟩;refine aQ7 rfl rfl (Cc yB) (md0 (by decide)) (md1 (by decide)) (by simp) λa0 b2=>?_;have hw:a0="in"\/a0=BL:=by simpa using b2
      refine⟨_,Ce,_,Ce,_,Ce,z4,λp hp=>?_⟩;exact q _ _ ((k7.trans (yE a4 _)).trans (yE hp _)) ⟨p,.enter a0 d a1 t,Ce,yB,⟨hw,trivial⟩⟩
     refine⟨_,Ce,_,Ce,g,_,_,_,Ce,Ce,Cc a3,yT u,_,_,Ce,Ce,(show(0:Int)<13 by decide),Ce,_,Ce,?_⟩;refine X4 (λc=>?_) (λc=>a _ _ ⟨a7,none,Ce,k6⟩);have S:∀x:Int,0<=x % 40/\x % 40<=39:=λx=>⟨md0 (by decide),by have:=md1 (x:=x) (n:=40) (by decide);omega⟩;refine⟨_,Ce,g,_,_,_,Ce,Ce,Cc a3,yT (j:=0) b5,_,_,Ce,Ce,(show(0:Int)<40 by decide),_,_,Ce,Ce,by decide,(S _).1,by have:=(S (G[0]'(by omega))).2;omega,λza c1=>?_⟩;refine⟨_,_,Ce,Ce,by rw[cXC];show za.length+1<=_;omega,?_⟩;refine⟨_,Ce,g,_,_,_,Ce,Ce,Cc a3,yT (j:=0) b5,_,_,Ce,Ce,(show(0:Int)<40 by decide),_,_,Ce,Ce,_,_,Ce,Ce,by decide,by have:=(S (G[0]'(by omega))).2;omega,by have:=(S (G[0]'(by omega))).1;omega,λzb d0=>?_⟩;have c9:(za++("y":Str)).length<=101:=by
      show(za.cps++_).size<=101;rw[Array.size_append];have:za.cps.size<=100:=c1;have:("y":Str).cps.size=1:=by decide
      omega
     refine⟨_,_,Ce,Ce,by rw[cXC];omega,?_⟩;dsimp only[yW];refine⟨_,Ce,_,_,Ce,Ce,by decide,by decide,by decide,λzc c5=>⟨z3,λl3 I=>⟨_,Ce,_,_,Ce,Ce,(show(0:Int)<3 by decide),?_⟩⟩⟩;refine aQ7 rfl rfl (Cc yB) (md0 (by decide)) (md1 (by decide)) (by simp) λa8 _=>?_;dsimp only[yW];exact a _ _ ⟨a8,_,Ce,k6.trans (yE I _)⟩
    refine⟨_,Ce,_,Ce,g,_,_,_,Ce,Ce,Cc B,yT u,_,_,Ce,Ce,(show(0:Int)<37 by decide),Ce,_,Ce,?_⟩;refine X4 (λc=>?_) (λc=>a _ _ ⟨_,Ce,O⟩);refine⟨_,Ce,_,_,Ce,Ce,(show(0:Int)<2001 by decide),_,_,Ce,Ce,_,Ce,_,_,Ce,Ce,c60,_,_,Ce,Ce,p60,_,Ce,_,_,Ce,Ce,c60,_,_,Ce,Ce,p60,_,_,Ce,Ce,z3,λl3 I=>⟨_,Ce,_,_,Ce,Ce,(show(0:Int)<3 by decide),?_⟩⟩;refine X1 rfl rfl (Cc yB) (md0 (by decide)) (md1 (by decide)) (by simp) λd1 _=>?_;dsimp only[yW];exact a _ _ ⟨d1,Ce,O.trans (yE I _)⟩
   ·intro H4 O;have B:=O _ _ L;have M:=hB.same O;dsimp only[aWb];refine⟨_,Ce,_,_,Ce,Ce,_,Ce,?_⟩;refine X4 (λc=>?_) (λc=>?_)
    ·refine⟨_,Ce,_,_,Ce,Ce,(show(0:Int)<20 by decide),?_⟩;dsimp only[yW];refine zX (λe C=>∃bs:Int,e= [some (.ref D),some (.ref g),some (.int (k:Nat)),some (.int l),some (.int J),some (.int turn),some (.int m),some (.int t),none,none,none,some (.int bs)]/\xJ H C) ?rest5 (λa=>?_);case rest5=>
      rintro e H5 ⟨bs,rfl,k5⟩;refine⟨_,Ce,_,Ce,_,Ce,z4,λp hp=>?_⟩;exact q _ _ (k5.trans (yE hp _)) ⟨p,.reply m bs t,Ce,yB,⟨trivial,trivial⟩⟩
     refine⟨_,Ce,_,Ce,D,rs,R,m,Ce,M,_,Ce,?_⟩;cases h1:Bk.vU R m with
     |false=>exact onF rfl (a _ _ ⟨_,Ce,O⟩)
     |true=>
     obtain⟨i,r,rfl,c7,hi,hv⟩:=Bk.vL h1;obtain⟨b,g1,g2,cp,g3,g4⟩:=M.get hi;refine onT rfl ⟨_,Ce,_,Ce,D,_,_,_,Ce,Ce,Cc M.lst,yT g1,b,_,1,_,Ce,Ce,Cc g3,Ce,_,Ce,z2,λl2 a4=>?_⟩;have e2:=yE a4 (.lst [.int 7,.int 3000]);have c3:=e2 _ _ B;refine⟨_,Ce,_,Ce,g,_,_,_,Ce,Ce,Cc c3,yT u,_,_,Ce,Ce,(show(0:Int)<11 by decide),Ce,.inr ⟨_,Ce,?_⟩⟩;refine X1 rfl rfl (Cc yB) b0 b1 (by simp) λj hj=>?_;have c4:j=7\/j=3000:=by simpa using hj
     refine⟨_,_,Ce,Ce,(show(0:Int)<j by omega),_,_,Ce,Ce,_,_,Ce,Ce,?_⟩;dsimp only[yW];exact a _ _ ⟨_,Ce,O.trans e2⟩
    ·have c:¬turn<12:=of_decide_eq_false (Bool.eq_false_iff.mpr c);refine⟨_,Ce,_,_,Ce,Ce,_,Ce,?_⟩;refine X4 (λc2=>?_) (λc2=>?_)
     ·exact⟨_,Ce,_,Ce,_,Ce,_,Ce,D,g,rs,R,G,k,m,Ce,M,hR,B,X,λC v k5 hd=>q _ _ (O.trans k5) hd⟩
     ·have c2:¬turn<15:=of_decide_eq_false (Bool.eq_false_iff.mpr c2);exact⟨_,Ce,_,Ce,_,Ce,_,Ce,_,Ce,D,g,rs,R,G,k,m,turn,Ce,M,hR,B,W,by omega,b3,λC v k5 hd=>q _ _ (O.trans k5) hd⟩
  refine⟨_,Ce,_,Ce,g,_,_,_,Ce,Ce,Cc b7,yT u,_,_,Ce,Ce,(show(0:Int)<29 by decide),Ce,_,Ce,?_⟩;refine X4 (λc=>?_) (λc=>a _ _ ⟨t0,Ce,k2⟩);refine⟨_,Ce,_,Ce,_,Ce,_,_,Ce,Ce,c60,_,_,Ce,Ce,p60,_,_,Ce,Ce,_,Ce,_,_,Ce,Ce,(show(0:Int)<990 by decide),z4,λl3 I=>⟨_,Ce,_,_,Ce,Ce,(show(0:Int)<4 by decide),?_⟩⟩;refine X1 rfl rfl (Cc yB) (md0 (by decide)) (md1 (by decide)) (by simp) λt1 _=>?_;dsimp only[yW];exact a _ _ ⟨t1,Ce,k2.trans (yE I _)⟩
 refine⟨_,Ce,_,Ce,g,_,_,_,Ce,Ce,Cc L,yT u,_,_,Ce,Ce,(show(0:Int)<23 by decide),Ce,_,Ce,?_⟩;refine X4 (λc=>?_) (λc=>a _ _ ⟨_,Ce,xJ.refl _⟩);refine⟨_,Ce,_,Ce,D,_,Ce,.inl (Cc hB.lst),_,_,Ce,Ce,⟨by decide,by decide,by decide⟩,_,Ce,_,Ce,_,_,Ce,Ce,c60,_,_,Ce,Ce,p60,_,_,Ce,Ce,_,Ce,D,_,Ce,.inl (Cc hB.lst),_,Ce,_,_,Ce,Ce,c60,_,_,Ce,Ce,p60,_,_,Ce,Ce,zn (by show 5<=100000;omega),λl5 c0=>⟨_,Ce,_,_,Ce,Ce,(show(0:Int)<5 by decide),?_⟩⟩;refine X1 rfl rfl (Cc yB) (md0 (by decide)) (md1 (by decide)) (by simp) λm1 _=>?_;dsimp only[yW];exact a _ _ ⟨m1,Ce,yE c0 _⟩
end
end Law
namespace Law
open PySem L2 PyProof.Rows
open Bk (Row Rows xZ zO Ans)
open Desk (xP uB qD Wf Up Run zP wJ)
abbrev aWH:Stmt:=xM Bv
inductive aXN(vs:List V)(H:Hp)(Q:VK)(h:XK):Prop|mk(ca:Nat)(ns:List Int)(h:vs= [.ref ca])(h:H ca=some (.lst (ns.map V.int)))(h:ns.length<=40)(h:∀ (H':Hp)(t ds us:Nat)(das:List Nat)(es:List zO)(vs:List V)(as:List Ans)(R:Rows)(S:List Int),xJ H H'->H' t=some (.tup [.ref ds,.ref us])->zP H' ds das es->H' us=some (.lst vs)->cXZ (λv a=>uB [] H' a v) vs as->Run [] [] es as R S->(∀e∈es,Wd e)->es.length<=ns.length+3->Q (.ref t) H')
def Mid.start(g:LGo H p sa [] [] l [])(k:List zO)(a:List Nat)(i:xJ l c)(n:l ds=none)(t:c ds=some (.lst (a.map V.ref)))(m:xJ c o)(f:c us=none)(y:o us=some (.lst []))(v:∀e∈k,Wd e)(len:a.length=k.length) (r:∀ (j:Nat)(d:Nat)(e:zO),a[j]? =some d->k[j]? =some e->c d=some (.tup (xP e))):Mid H p sa ds us k a 0 o:=by
 have ne:ds≠us:=λz=>by rw[<- z,t]at f;cases f
 obtain⟨R,S,s,_⟩:=g.ex;have d1:∀ {x},l x=none->x≠p/\x≠sa:=λ{x} h=>⟨λz=>(by rw[z,s.book.lst]at h;cases h),λz=>(by rw[z,s.shut]at h;cases h)⟩;refine⟨ne,v,len,λj d e u w=>m _ _ (r j d e u w),[],[],[],(g.same i).same m,⟨m _ _ t,g.keep.fresh n,(d1 n).1,(d1 n).2,by simp,λb q=>by simp at q⟩,⟨y,g.keep.fresh (i.fresh f),(d1 (i.fresh f)).1,(d1 (i.fresh f)).2,by simp,λb q=>by simp at q⟩,.nil⟩
section
variable {K:cXc}
def bJJ:yO [AO,A1,AJ,Az,"_law_dues",AH,AI] [AO] (yH aWH):=scM
def bZA:xO [AO,A1,AJ,Az,"_law_dues",AH,AI] (yH aWH) AI [A1,AJ] [1,2] (lsN [(".0",.local),(AI,.local),(Aw,.globalImplicit),(A1,.free),(AJ,.free)]):=
 lcM
seal PE PA PS PSs PT in
def bZ4(T:uK mg)(l:FnG P w K mg base 5 Aw [A1,AJ,AI] aZi)(B:FnG P w K mg base 5 BR [A1,AO,AH] aWS)(F:Fun K Bv Bv aWH f fd):xL P w K mg base CX0 6 f fd [AO] aXN:=by
 have sc:=bJJ;refine F.ok (k:=5) sc (λd3 A outer s H vs Q E hr h=>?_);obtain⟨ca,ns,rfl,hc,hn,q⟩:=h;refine⟨_,(yC (yU (i:=1) (xB yD)) (yC (yU (i:=2) (xB yD)) (yC (yU (i:=3) (xB yD)) (yC (yU (i:=4) (xB yD)) (yC (xA (PW.pt (jF (yM (jN hr.units0) (pv 0) (xB yD)) (uH (yM zU (yV xD (yL yK (pv 0) yG) yG) yG)))) (yC (yU (i:=3) (xB (yA (xK (yA yQ (yA yG (yA yQ (yA yG yD))))) (yA (xK (yA yQ (yA yG (yA yG (yA yG yD))))) (yA (xK (yA yQ (yA yG (yA yG yD)))) yD))))) (yF (aX1 (i:=4) bZA rfl sc.nd rfl rfl (xN (pv 3)) (λ_ _ _ _ _=>wS) (λ_ _ _ _ _=>(xU l hr rfl (yA (pv 1) (yA (pv 2) (yA (pv 0) yD)))))))) yS) (yC (wV cX0 rfl (wA rfl T.b_range (yA (yR yN rfl T.b_len xG (yA (pv 0) yD)) yD)) (xI (i:=5)) (yC (yU (i:=6) (xU B hr rfl (yA (pv 1) (yA (pv 0) (yA (pv 5) yD))))) (yC (yZ (jD cXF cXP cXQ xR (pv 3) (yA (pv 6) yD))) (yF (yZ (jD cXF cXP cXQ xR (pv 4) (yA (xU l hr rfl (yA (pv 1) (yA (pv 2) (yA (pv 6) yD)))) yD))))))) (yF (yP (xK (yA (pv 3) (yA (pv 4) yD))))))))))),?_⟩;refine⟨z0,λU c9=>?_⟩;dsimp only[yW];refine⟨z0,λsa c8=>?_⟩;dsimp only[yW];have g0:=LGo.start c9 c8;generalize upd (upd H U (.lst [])) sa (.lst [])=H2 at g0 ⊢;refine⟨z0,λC b0=>?_⟩;dsimp only[yW];refine⟨z0,λG b5=>?_⟩;dsimp only[yW];have k3:=yE b0 (.lst []);have k4:=yE b5 (.lst []);have M0:Mid H U sa C G [] [] 0 (upd (upd H2 C (.lst [])) G (.lst [])):=Mid.start g0 [] [] k3 b0 yB k4 b5 yB (λe h=>by simp at h) rfl (λj d e h=>by simp at h);have gk:=g0.same (k3.trans k4);generalize upd (upd H2 C (.lst [])) G (.lst [])=H4 at M0 gk k4 ⊢;have b1:=M0.keep _ _ hc;refine zX (λσ' X=>L2.Ez4 λ(C G:Nat)(x:List zO)(b:List Nat)=>σ'= [some (.ref ca),some (.ref U),some (.ref sa),some (.ref C),some (.ref G),none,none]/\Mid H U sa C G x b x.length X/\x.length<=3) ?Z0 (λa6=>?_);case Z0=>
  rintro σ' H5 ⟨C,G,x,b,rfl,M5,h3⟩;refine⟨_,Ce,ca,_,Ce,.inl (Cc (M5.keep _ _ hc)),?_⟩;rw[cXe];refine⟨_,Ce,by omega,by omega,?_⟩;rw[cXG];refine vO (λt σ H6=>L2.Ez4 λ(x:List zO)(b:List Nat)(o5 o6:Option V)=>σ= [some (.ref ca),some (.ref U),some (.ref sa),some (.ref C),some (.ref G),o5,o6]/\Mid H U sa C G x b x.length H6/\x.length<=3+t) ?_ ?_ ?_
  ·exact⟨x,b,none,none,Ce,M5,by omega⟩
  ·rintro k σ H6 hk ⟨x,b,o5,o6,rfl,Z,c2⟩;rw[cJz];dsimp only[yW];obtain⟨rs,as,vs,g6,s6,u6,p6⟩:=Z.ex;obtain⟨R,S,hL,hu,c5,N⟩:=g6.ex;have b7:=hu.r;rw[cX4]at b7;refine⟨_,Ce,_,Ce,_,Ce,U,ca,rs,R,ns,k,Ce,hL.book,by omega,Z.keep _ _ hc,hk,λH7 v k7 c3=>?_⟩;obtain⟨p,e,rfl,hp,hw⟩:=c3;dsimp only[yW];have M7:=Z.same k7;have b2:=k7 _ _ s6.at_;refine⟨_,Ce,.inl ⟨rfl,_,Cc b2⟩,_,Ce,C,_,_,Ce,Ce,b2,zlt (by rw[cXe,Z.len];omega),?_⟩;have el:b.map V.ref++ [V.ref p]=(b++ [p]).map V.ref:=by simp
   rw[el];have M8:=M7.push rfl hp hw;generalize upd H7 C (.lst ((b++ [p]).map V.ref))=H8 at M8 ⊢;obtain⟨d2,d0,d1,g8,s8,u8,p8⟩:=M8.ex;have W:(b++ [p])[x.length]? =some p:=by rw[<- Z.len,cXz (cXh _),cZz];rfl
   have Y:(x++ [e])[x.length]? =some e:=by rw[cXz (cXh _),cZz];rfl
   refine⟨_,Ce,.inl ⟨rfl,_,Cc u8.at_⟩,_,Ce,_,Ce,_,Ce,M8.next (by omega) W Y λv H9 ws _ a8 c7 M9=>⟨G,_,_,Ce,Ce,a8,zlt (by omega),x++ [e],b++ [p],_,_,Ce,?_,by rw[cXD];simp;omega⟩⟩;rw[cXD];exact M9
  ·rintro σ H6 ⟨x,b,o5,o6,rfl,Z,c2⟩;refine⟨_,Ce,_,Ce,z2,λt ht=>?_⟩;have k6:=yE ht (.tup [.ref C,.ref G]);have M7:=Z.same k6;obtain⟨rs,as,vs,g7,s7,u7,p7⟩:=M7.ex;obtain⟨R,S,hL,hu,c5,N⟩:=g7.ex;rw[cX4]at N;exact q _ t C G b x vs as R S M7.keep yB ⟨s7.at_,M7.len,M7.at_⟩ u7.at_ (wJ (λv a z=>qR z λp u n e=>⟨by simp,e⟩) p7) N M7.wf (by omega)
 refine⟨_,Ce,z0,λpn b3=>⟨ca,pn,_,Ce,Ce,Cc ((yE b3 (.lst [])) _ _ b1),Cc yB,_,Ce,?_⟩⟩;have k5:=yE b3 (.lst []);generalize upd H4 pn (.lst [])=H5 at k5 ⊢;have a5:∀X,xJ H4 X->_:=λX k=>a6 [some (.ref ca),some (.ref U),some (.ref sa),some (.ref C),some (.ref G),none,none] X ⟨C,G,[],[],Ce,M0.same k,by simp⟩;by_cases a0:ns= []
 ·subst a0;exact onF rfl (onF rfl (a5 _ k5))
 have c4:(ns.map V.int)[0]? =some (.int (ns[0]'(cZq.mpr a0))):=by rw[cXu,cQ9 (cZq.mpr a0)];rfl
 refine onT (by cases ns with|nil=>exact absurd rfl a0|cons=>rfl) ⟨_,Ce,ca,_,_,_,Ce,Ce,Cc (k5 _ _ b1),yT (j:=0) c4,_,_,Ce,Ce,(show(0:Int)<5 by decide),Ce,_,Ce,?_⟩;refine X4 (λc=>?_) (λc=>a5 _ k5);refine⟨z4,λI b9=>⟨z4,λJ c6=>⟨z3,λL b8=>⟨z3,λdl b4=>?_⟩⟩⟩⟩;have a1:=yE b9 (.tup (xP (.enter "in" 4 Bu 2)));have a2:=yE c6 (.tup (xP (.reply 0 4 1)));have a3:=yE b8 (.tup (xP (.hang 0 1)));have a4:=yE b4 (.lst ([I,J,L].map V.ref));have g5:=((gk.same k5).same a1).same (a2.trans a3);have e1:=a4 _ _ (a3 _ _ (a2 _ _ (yB (H:=H5) (a:=I) (o:= .tup (xP (.enter "in" 4 Bu 2))))));have e2:=a4 _ _ (a3 _ _ (yB (H:=upd H5 I (.tup (xP (.enter "in" 4 Bu 2)))) (a:=J) (o:= .tup (xP (.reply 0 4 1)))));have e3:=a4 _ _ (yB (H:=upd (upd H5 I (.tup (xP (.enter "in" 4 Bu 2)))) J (.tup (xP (.reply 0 4 1)))) (a:=L) (o:= .tup (xP (.hang 0 1))));have e4:=yB (H:=upd (upd (upd H5 I (.tup (xP (.enter "in" 4 Bu 2)))) J (.tup (xP (.reply 0 4 1)))) L (.tup (xP (.hang 0 1)))) (a:=dl) (o:= .lst ([I,J,L].map V.ref));have c0:∀D,upd (upd (upd (upd H5 I (.tup (xP (.enter "in" 4 Bu 2)))) J (.tup (xP (.reply 0 4 1)))) L (.tup (xP (.hang 0 1)))) dl (.lst ([I,J,L].map V.ref)) D=none->Mid H U sa dl D [.enter "in" 4 Bu 2,.reply 0 4 1,.hang 0 1] [I,J,L] 0 (upd (upd (upd (upd (upd H5 I (.tup (xP (.enter "in" 4 Bu 2)))) J (.tup (xP (.reply 0 4 1)))) L (.tup (xP (.hang 0 1)))) dl (.lst ([I,J,L].map V.ref))) D (.lst [])):=λD hD=>by
  refine Mid.start g5 _ _ a4 b4 e4 (yE hD (.lst [])) hD yB (λe he=>?_) rfl (λj d e W Y=>?_)
  ·simp only[cXj,cV5,or_false]at he;rcases he with rfl|rfl|rfl
   ·exact⟨.inl rfl,trivial⟩
   ·exact⟨trivial,trivial⟩
   ·exact⟨trivial,trivial⟩
  ·match j,W,Y with
   |0,W,Y=>cases W;cases Y;exact e1
   |1,W,Y=>cases W;cases Y;exact e2
   |2,W,Y=>cases W;cases Y;exact e3
 dsimp only[yW];refine⟨_,Ce,dl,Ce,⟨_,Cc e4⟩,λD hD=>?_⟩;have Z:=c0 D hD;refine⟨λi m ys X=>m=3 - i/\i<=3/\X D=some (.lst ys)/\Mid H U sa dl D [.enter "in" 4 Bu 2,.reply 0 4 1,.hang 0 1] [I,J,L] i X,⟨3,Ce,by omega,yB,Z⟩,?_⟩;rintro i m ys X ⟨rfl,hi,a9,M⟩;refine⟨a9,?_⟩;obtain⟨rs,as,vs,g,s1,s2,p⟩:=M.ex;by_cases O:i<3
 ·have a7:([I,J,L]:List Nat)[i]? =some ([I,J,L][i]'(by simpa using O)):=cQ9 (by simpa using O);have b6:([.enter "in" 4 Bu 2,.reply 0 4 1,.hang 0 1]:List zO)[i]? =some (([.enter "in" 4 Bu 2,.reply 0 4 1,.hang 0 1]:List zO)[i]'(by simpa using O)):=cQ9 (by simpa using O);refine .inr ⟨⟨_,_,Cc s1.at_,by rw[cXu,a7];rfl⟩,λv H7 yl=>?_⟩;obtain⟨rfl,y⟩:=yl;have hv:=y _ (Cc s1.at_);rw[cXu,a7]at hv;cases hv;refine⟨_,Ce,_,Ce,_,Ce,?_⟩;refine M.next (by omega) a7 b6 λv H8 ws c1 a8 c7 M8=>?_;have ey:ys=ws:=by rw[c1]at a9;cases a9;rfl
  subst ey;exact⟨by rw[cXC];omega,a8,3 - (i+1),by omega,Ce,O,yB,M8⟩
 ·have:i=3:=by omega
  subst this;refine .inl ⟨⟨_,Cc s1.at_,by simp⟩,?_⟩;exact a6 _ _ ⟨dl,D,_,_,Ce,M,by simp⟩
end
end Law
namespace Alike
open PySem L2 PyProof.Rows
open Law (xM)
abbrev bQZ:Stmt:=xM Bw
abbrev bWY:Stmt:=xM CC
abbrev bXh:Stmt:=xM Bx
def xG:cXV C0=some (.builtin C0):=dk
def wZ:cXV AQ=some (.builtin AQ):=dk
def yY:cXV Aa=some (.builtin Aa):=dk
def qE:cXV As=some (.type As):=dk
def aJg:cXV At=some (.type At):=dk
def aVe:cXV Al=some (.type Al):=dk
def wM:cXV AC=some (.type AC):=dk
def vT:cXV AE=some (.type AE):=dk
structure uK(mg:Str->Option cXb):Prop where
 b_len:mg C0=none
 b_sorted:mg AQ=none
 b_isinstance:mg Aa=none
 b_int:mg As=none
 b_str:mg At=none
 b_bool:mg Al=none
 b_list:mg AC=none
 b_tuple:mg AE=none
 b_range:mg Ag=none
inductive bXQ(vs:List V)(H:Hp)(Q:VK)(h:XK):Prop|mk(n)(h:vs= [.int n])(h:Q (.bl true) H)
inductive bVA(K:cXc)(vs:List V)(H:Hp)(Q:VK)(h:XK):Prop|mk(a:Nat)(ns:List Int)(x y:Int)(h:vs= [.ref a,.int x,.int y])(h:SqL K H a (ns.map V.int))(h:ns.length<=63)(h:Q (.int x) H)
section
variable {K:cXc}
def bJN:yO [AV] [AV] (yH bXh):=scM
def bZ8(T:uK mg)(F:Fun K Bx Bx bXh f fd):xL P w K mg base CX0 1 f fd [AV] bXQ:=by
 have a:=bJN;refine F.ok (k:=0) a (λb A outer s H c Q E d h=>?_);obtain⟨n,rfl,q⟩:=h;refine⟨_,(yF (yP (aWz (yR zJ rfl T.b_isinstance yY (yA (pv 0) (yA (xX (v:= .ty As) rfl T.b_int qE rfl) yD))) (aJH (bVs (yR zJ rfl T.b_isinstance yY (yA (pv 0) (yA (xX (v:= .ty Al) rfl T.b_bool aVe rfl) yD)))))))),?_⟩;refine⟨_,Ce,_,As,_,_,Ce,.int n,aX7 _,_,Ce,onT rfl ?_⟩;exact⟨_,Ce,_,Al,_,_,Ce,.int n,X6 _,_,Ce,q⟩
def bKc:yO [AY,CD,By] [AY,CD,By] (yH bWY):=scM
def bWz(T:uK mg)(F:Fun K CC CC bWY f fd):xL P w K mg base CX0 1 f fd [AY,CD,By] (bVA K):=by
 have d:=bKc;refine F.ok (k:=0) d (λe A outer s H j Q E i h=>?_);obtain⟨a,g,x,y,rfl,c,b,q⟩:=h;refine⟨_,(yC (xA (yM aX0 (yR yN rfl T.b_len xG (yA (pv 0) yD)) yG) (yF (yP (pv 2))) yS) (yF (yP (pv 1)))),?_⟩;refine⟨_,Ce,a,_,Ce,.inl c,_,_,Ce,Ce,_,Ce,onF ?_ ⟨_,Ce,q⟩⟩;rw[cXe];exact decide_eq_false (by omega)
end
def Sq(K:cXc)(H:Hp)(a:Nat)(xs:List V):Prop:=H a=some (.lst xs)\/H a=some (.tup xs)
def Sq.same{K:cXc}{H b:Hp}{a:Nat}{xs:List V}(k:xJ H b)(h:Sq K H a xs):Sq K b a xs:=h.imp (k _ _) (k _ _)
def Sq.ix{K:cXc}{H:Hp}{a:Nat}{xs:List V}{i:Nat}{v:V}{Q:VK}(h:Sq K H a xs)(e:xs[i]? =some v)(q:Q v H):rIx K (.ref a) (.int (i:Int)) H Q:=by
 rcases h with h|h
 ·exact .inl ⟨a,xs,_,v,Ce,Ce,Cc h,yT e,q⟩
 ·exact .inr (.inl ⟨a,xs,_,v,Ce,Ce,Cd h,yT e,q⟩)
def zF:List (Nat×Dt)->Nat
 |[]=>0
 |q::r=>q.2.size+zF r
theorem xE:∀a b:List (Nat×Dt),zF (a++b)=zF a+zF b
 |[],b=>by simp[zF]
 |q::r,b=>by rw[cV2];show q.2.size+zF (r++b)=q.2.size+zF r+zF b;rw[xE r b];omega
theorem uJ:∀ {a:List (Nat×Dt)} {ds:List Dt},a.map (·.2)=ds->zF a=wD ds
 |[],[],_=>by simp[zF,wD]
 |q::r,d::ds,h=>by rw[cXO]at h;cases h;show q.2.size+zF r=q.2.size+wD (r.map (·.2));rw[uJ rfl]
 |[],_::_,h=>by cases h
 |_::_,[],h=>by cases h
def qN:∀qs:List (Nat×Dt),qs.length<=zF qs
 |[]=>cXh _
 |q::r=>by
  have:=qN r;have a:1<=q.2.size:=by cases q.2<;> simp[Dt.size]
  show r.length+1<=q.2.size+zF r;omega
def qI:∀ds:List Dt,ds.length<=wD ds
 |[]=>cXh _
 |d::r=>by
  have:=qI r;have a:1<=d.size:=by cases d<;> simp[Dt.size]
  show r.length+1<=d.size+wD r;omega
theorem aZ0{α:Type}:∀ {l:List α},l≠ []->∃a b,l=a++ [b]
 |[],h=>absurd rfl h
 |[x],_=>⟨[],x,rfl⟩
 |x::y::r,_=>by obtain⟨i,l,e⟩:=aZ0 (l:=y::r) (by simp);exact⟨x::i,l,by rw[e];rfl⟩
def wB(k:xJ a H)(h:a c=none):xJ a (upd H c o):=λb u q=>by rw[yJ (yI q h)];exact k b u q
mutual
def nb:Dt->Bool
 |.bl _=>false
 |.lst a=>nbs a
 |.tup a=>nbs a
 |.non=>true
 |.int _=>true
 |.str _=>true
def nbs:List Dt->Bool
 |[]=>true
 |d::r=>nb d && nbs r
end
def aVt:∀ {ds:List Dt} {i:Nat} (h:i<ds.length),nbs ds=true->nb ds[i]=true
 |d::r,0,h,e=>by unfold nbs at e;rw[Bool.and_eq_true]at e;exact e.1
 |d::r,i+1,h,e=>by unfold nbs at e;rw[Bool.and_eq_true]at e;exact aVt (ds:=r) (by simpa using h) e.2
def bVN(a H:Hp)(q:Nat×Dt):Prop:=∃x y,H q.1=some (.tup [x,y])/\Is a x q.2/\Is a y q.2/\nb q.2=true
def bVN.keep(p:bVN c H q)(k:∀a d,H a=some (.tup d)->b a=some (.tup d)):bVN c b q:=let ⟨x,y,h,r⟩:=p;⟨x,y,k _ _ h,r⟩
def qO(h:H p=none):∀a b,H a=some (.tup b)->upd H p o a=some (.tup b):=λa b e=>by rw[yJ (yI e h)];exact e
def vS(h:H p=some (.lst c)):∀a b,H a=some (.tup b)->upd H p o a=some (.tup b):=λa b e=>by rw[yJ (aXW e h (by intro z;cases z))];exact e
inductive WU(H0:Hp)(v u:V)(td:Nat)(m:Nat)(σ:L2.St)(H:Hp):Prop|mk(qs l r k)(h:σ= [some v,some u,some (.ref td),l,r,k])(h:xJ H0 H)(h:H td=some (.lst (qs.map λq=> .ref q.1)))(h:(∀q∈qs,bVN H0 H q))(h:m=zF qs)(h:zF qs<=50000)
inductive bXC(vs:List V)(H:Hp)(Q:VK)(h:XK):Prop|mk(v u d)(h:vs= [v,u])(h:Is H v d)(h:Is H u d)(h:nb d=true)(h:d.size<=50000)(h:∀H',xJ H H'->Q (.bl true) H')
section
variable {K:cXc}
def bJt:yO [AV,B0,"_law_todo",Aq,"_law_other",AH] [AV,B0] (yH bQZ):=scM
seal PE PA PS PSs PT in
def bZO(T:uK mg)(Y:FnG P w K mg base 1 Bx [AV] bXQ)(F:Fun K Bw Bw bQZ f fd):xL P w K mg base CX0 2 f fd [AV,B0] bXC:=by
 have sc:=bJt;refine F.ok (k:=1) sc (λc7 A outer s H0 vs Q E hr h=>?_);obtain⟨v,u,d,rfl,hv,hu,b8,hd,q⟩:=h;refine⟨_,(yC (yU (i:=2) (xB (yA (xK (yA (pv 0) (yA (pv 1) yD))) yD))) (yC (jP cX0 (yM (jN hr.units0) (pv 2) (xB yD)) (yC (uR (bQN cXF cV8 cV9 bQl (pv 2)) (aWB rfl (wK (xI (i:=3)) (wK (xI (i:=4)) aZF)))) (yF (xA (zA (yR Z9 rfl T.b_isinstance yY (yA (pv 4) (yA (xK (yA (xX (v:= .ty AC) rfl T.b_list wM rfl) (yA (xX (v:= .ty AE) rfl T.b_tuple vT rfl) yD))) yD)))) (yC (xA (yM J9 (yR zJ rfl T.b_isinstance yY (yA (pv 3) (yA (xX (v:= .ty AC) rfl T.b_list wM rfl) yD))) (yR zJ rfl T.b_isinstance yY (yA (pv 4) (yA (xX (v:= .ty AC) rfl T.b_list wM rfl) yD)))) (yF (yP vQ)) yS) (yC (xA (yM J9 (yR zJ rfl T.b_isinstance yY (yA (pv 3) (yA (xX (v:= .ty AE) rfl T.b_tuple vT rfl) yD))) (yR zJ rfl T.b_isinstance yY (yA (pv 4) (yA (xX (v:= .ty AE) rfl T.b_tuple vT rfl) yD)))) (yF (yP vQ)) yS) (yC (xA (yM J9 (yR yN rfl T.b_len xG (yA (pv 3) yD)) (yR yN rfl T.b_len xG (yA (pv 4) yD))) (yF (yP vQ)) yS) (yF (wV cX0 rfl (wA rfl T.b_range (yA (yR yN rfl T.b_len xG (yA (pv 4) yD)) yD)) (xI (i:=5)) (yF (yZ (jD cXF cXP cXQ xR (pv 2) (yA (xK (yA (yL aWn (pv 3) (pv 5)) (yA (yL aWn (pv 4) (pv 5)) yD))) yD))))))))) (yF (xA (yM aZb (pv 4) zN) (yF (xA (yM vB (pv 3) zN) (yF (yP vQ)) yS)) (yF (xA (zA (yR zJ rfl T.b_isinstance yY (yA (pv 4) (yA (xX (v:= .ty At) rfl T.b_str aJg rfl) yD)))) (yF (xA (PW.pt (Y7 (vI (zA (yR zJ rfl T.b_isinstance yY (yA (pv 3) (yA (xX (v:= .ty At) rfl T.b_str aJg rfl) yD))))) (uS (yM J9 (pv 3) (pv 4))))) (yF (yP vQ)) yS)) (yF (xA (PW.pt (Y7 (vI (zA (xU Y hr rfl (yA (pv 3) yD)))) (uS (yM J9 (pv 3) (pv 4))))) (yF (yP vQ)) yS)))))))))) (yF (yP vQ)))),?_⟩;refine⟨_,Ce,_,Ce,z2,λp0 b4=>⟨z1,λB b0=>?_⟩⟩;have a4:H0 B=none:=(yE b4 _).fresh b0;refine⟨WU H0 v u B,⟨d.size,[(p0,d)],none,none,none,Ce,wB (yE b4 _) a4,yB,?_,by simp[zF],by simpa[zF]using hd⟩,?_⟩
 ·intro q t;rw[cXo.mp t];exact⟨v,u,qO b0 _ _ yB,hv,hu,b8⟩
 rintro m σ H ⟨qs,l,r,k,rfl,hk,hT,hP,rfl,a7⟩;refine⟨_,Ce,z0,λpn a3=>?_⟩;have c0:pn≠B:=cXT (yI hT a3);have a1:upd H pn (.lst []) B=some (.lst (qs.map λq=> .ref q.1)):=by rw[yJ (cXT c0)];exact hT
 refine⟨B,pn,_,Ce,Ce,Cc a1,Cc yB,_,Ce,?_⟩;by_cases b3:qs= []
 ·subst b3;rw[if_neg (by decide)];exact q _ (hk.trans (yE a3 _))
 obtain⟨c,⟨lp,d⟩,rfl⟩:=aZ0 b3;rw[if_pos (by simp)];refine⟨λC I=>∃m',m'<zF (c++ [(lp,d)])/\WU H0 v u B m' C I,λC I z=>z,?_⟩;obtain⟨x,y,c3,hx,hy,D⟩:=hP (lp,d) (by simp);have a9:((c++ [(lp,d)]).map λq=>V.ref q.1)[((c++ [(lp,d)]).map λq=>V.ref q.1).length - 1]? =some (.ref lp):=by simp
 have a8:((c++ [(lp,d)]).map λq=>V.ref q.1).dropLast=c.map λq=>V.ref q.1:=by simp
 have b1:∀a N,H a=some (.tup N)->upd (upd H pn (.lst [])) B (.lst (c.map λq=>V.ref q.1)) a=some (.tup N):=λa N e=>vS a1 _ _ (qO a3 _ _ e);refine⟨_,Ce,.inl ⟨rfl,_,Cc a1⟩,B,_,.ref lp,Ce,Ce,a1,a9,?_⟩;rw[a8];have L:xJ H0 (upd (upd H pn (.lst [])) B (.lst (c.map λq=>V.ref q.1))):=wB (hk.trans (yE a3 _)) a4;have a5:upd (upd H pn (.lst [])) B (.lst (c.map λq=>V.ref q.1)) B=some (.lst (c.map λq=> .ref q.1)):=yB;have a0:∀q∈c,bVN H0 (upd (upd H pn (.lst [])) B (.lst (c.map λq=>V.ref q.1))) q:=λq t=>(hP q (by simp[t])).keep b1;have a6:=b1 _ _ c3;generalize c4:upd (upd H pn (.lst [])) B (.lst (c.map λq=>V.ref q.1))=H2 at L a5 a0 a6 ⊢;refine⟨lp,[x,y],Ce,Cd a6,Ce,x,[y],Ce,y,[],Ce,Ce,?_⟩;have c5:1<=d.size:=by cases d<;> simp[Dt.size]
 have c6:zF c+d.size<=50000:=by rw[xE]at a7;simpa[zF]using a7
 have hm:zF c<zF (c++ [(lp,d)]):=by rw[xE];simp[zF];omega
 have fin:∀H3,(∀b o,H2 b=some o->H3 b=some o)->∃m',m'<zF (c++ [(lp,d)])/\WU H0 v u B m' [some v,some u,some (.ref B),some x,some y,k] H3:=λH3 k3=>
  ⟨zF c,hm,c,some x,some y,k,Ce,L.trans k3,k3 _ _ a5,λq t=>(a0 q t).keep λa N e=>k3 _ _ e,Ce,by omega⟩
 refine⟨_,Ce,z2,λp1 b7=>?_⟩;have j:xJ H2 (upd H2 p1 (.tup [.ty AC,.ty AE])):=yE b7 _;cases d with
 |non=>
  have ex:x= .non:=by unfold Is at hx;exact hx
  have ey:y= .non:=by unfold Is at hy;exact hy
  subst ex;subst ey;refine⟨_,p1,AC,AE,_,_,_,Ce,Cd yB,.non,jW _,jA _,_,Ce,onF rfl ?_⟩;refine⟨_,Ce,Ce,_,Ce,onT rfl ?_⟩;refine⟨_,Ce,Ce,_,Ce,onF rfl ?_⟩;exact fin _ j
 |bl b=>unfold nb at D;cases D
 |int n=>
  have ex:x= .int n:=by unfold Is at hx;exact hx
  have ey:y= .int n:=by unfold Is at hy;exact hy
  subst ex;subst ey;refine⟨_,p1,AC,AE,_,_,_,Ce,Cd yB,.int n,aQ9 _,aQC _,_,Ce,onF rfl ?_⟩;refine⟨_,Ce,Ce,_,Ce,onF rfl ?_⟩;refine⟨_,Ce,_,At,_,_,Ce,.int n,qV _,_,Ce,onF rfl ?_⟩;refine⟨_,Ce,n,Ce,_,Ce,onF rfl ⟨_,Ce,_,Ce,Ce,_,Ce,onF (by simp) ?_⟩⟩;exact fin _ j
 |str z=>
  have ex:x= .str z:=by unfold Is at hx;exact hx
  have ey:y= .str z:=by unfold Is at hy;exact hy
  subst ex;subst ey;refine⟨_,p1,AC,AE,_,_,_,Ce,Cd yB,.str z,aXb _,aQD _,_,Ce,onF rfl ?_⟩;refine⟨_,Ce,Ce,_,Ce,onF rfl ?_⟩;refine⟨_,Ce,_,At,_,_,Ce,.str z,jB _,_,Ce,onT rfl ?_⟩;refine⟨_,Ce,_,At,_,_,Ce,.str z,jB _,_,Ce,onF rfl ⟨_,Ce,_,Ce,Ce,_,Ce,onF (by simp) ?_⟩⟩;exact fin _ j
 |lst g=>
  unfold Is at hx hy;obtain⟨a,N,rfl,ha,X⟩:=hx;obtain⟨b,ys,rfl,hb,Z⟩:=hy;have lx:=X.length;have ly:=Z.length;have a2:=L _ _ ha;have W:=L _ _ hb;have b6:wD g+1<=50000:=by
   have:Dt.size (.lst g)=1+wD g:=by simp[Dt.size]
   omega
  have c2:g.length<=wD g:=qI g;have D:nbs g=true:=by unfold nb at D;exact D
  refine⟨_,p1,AC,AE,_,_,_,Ce,Cd yB,.lst (j _ _ W),zG _,vA _,_,Ce,onT rfl ?_⟩;refine⟨_,Ce,_,AC,_,_,Ce,.lst (j _ _ a2),zG _,_,Ce,_,AC,_,_,Ce,.lst (j _ _ W),zG _,Ce,_,Ce,onF rfl ?_⟩;refine⟨_,Ce,_,AE,_,_,Ce,.lst (j _ _ a2),vA _,_,Ce,_,AE,_,_,Ce,.lst (j _ _ W),vA _,Ce,_,Ce,onF rfl ?_⟩;refine⟨_,Ce,a,_,Ce,.inl (Cc (j _ _ a2)),_,Ce,b,_,Ce,.inl (Cc (j _ _ W)),Ce,_,Ce,onF (by simp[lx,ly]) ?_⟩;refine⟨_,Ce,b,_,Ce,.inl (Cc (j _ _ W)),_,Ce,by omega,by omega,?_⟩;have R:Dt.size (.lst g)=1+wD g:=by simp[Dt.size]
  generalize b9:upd H2 p1 (.tup [.ty AC,.ty AE])=H3 at j ⊢;refine vO (λi C I=>L2.Ez2 λ(G:List (Nat×Dt))(kk:Option V)=>C= [some v,some u,some (.ref B),some (.ref a),some (.ref b),kk]/\xJ H0 I/\I B=some (.lst ((c++G).map λq=> .ref q.1))/\(∀q∈c++G,bVN H0 I q)/\G.map (·.2)=g.take i) ?_ ?_ ?_
  ·exact⟨[],k,Ce,L.trans j,by rw[cZg];exact j _ _ a5,λq t=>(a0 q (by simpa using t)).keep λa N e=>j _ _ e,rfl⟩
  ·rintro i C I hi ⟨G,kk,rfl,O,U,h3,S⟩;have J:i<g.length:=by rw[<- ly];omega
   obtain⟨xi,ex,ix⟩:=X.get (cQ9 J);obtain⟨yi,ey,iy⟩:=Z.get (cQ9 J);show aWa _ _ _ _;have sa:Sq K I a N:=Sq.same O (.inl ha);have sb:Sq K I b ys:=Sq.same O (.inl hb);refine⟨_,Ce,.inl ⟨rfl,_,Cc U⟩,_,Ce,_,Ce,?_⟩;rw[cJz];refine sa.ix ex ⟨_,Ce,_,Ce,?_⟩;refine sb.ix ey ⟨z2,λp hp=>?_⟩;have b5:G.length=i:=by have:=congrArg cJk S;simp at this;omega
   have c1:=qN c;have M:upd I p (.tup [xi,yi]) B=some (.lst ((c++G).map λq=> .ref q.1)):=by rw[yJ (yI U hp)];exact U
   refine⟨B,_,.ref p,Ce,Ce,M,zlt (by simp;omega),G++ [(p,g[i])],_,Ce,wB (O.trans (yE hp _)) a4,?_,?_,?_⟩
   ·rw[yB];simp
   ·intro q t;rw[<- cZn,cXH]at t;rcases t with t|t
    ·exact(h3 q t).keep λa N e=>vS M _ _ (qO hp _ _ e)
    ·rw[cXo.mp t];exact⟨xi,yi,vS M _ _ yB,ix,iy,aVt J D⟩
   ·rw[cZy,S,cZa,cQ9 J];rfl
  ·rintro C I ⟨G,kk,rfl,O,U,h3,S⟩;have e1:g.take ((ys.length:Nat):Int).toNat=g:=by rw[cXG,ly,cX4]
   rw[e1]at S;have e2:=uJ S;refine⟨zF (c++G),?_,c++G,some (.ref a),some (.ref b),kk,Ce,O,U,h3,Ce,?_⟩
   ·rw[xE,xE,e2];simp[zF,R]
   ·rw[xE,e2];omega
 |tup g=>
  unfold Is at hx hy;obtain⟨a,N,rfl,ha,X⟩:=hx;obtain⟨b,ys,rfl,hb,Z⟩:=hy;have lx:=X.length;have ly:=Z.length;have a2:=L _ _ ha;have W:=L _ _ hb;have b6:wD g+1<=50000:=by
   have:Dt.size (.tup g)=1+wD g:=by simp[Dt.size]
   omega
  have c2:g.length<=wD g:=qI g;have D:nbs g=true:=by unfold nb at D;exact D
  refine⟨_,p1,AC,AE,_,_,_,Ce,Cd yB,.tup (j _ _ W),zR _,wP _,_,Ce,onT rfl ?_⟩;refine⟨_,Ce,_,AC,_,_,Ce,.tup (j _ _ a2),zR _,_,Ce,_,AC,_,_,Ce,.tup (j _ _ W),zR _,Ce,_,Ce,onF rfl ?_⟩;refine⟨_,Ce,_,AE,_,_,Ce,.tup (j _ _ a2),wP _,_,Ce,_,AE,_,_,Ce,.tup (j _ _ W),wP _,Ce,_,Ce,onF rfl ?_⟩;refine⟨_,Ce,a,_,Ce,.inr (Cd (j _ _ a2)),_,Ce,b,_,Ce,.inr (Cd (j _ _ W)),Ce,_,Ce,onF (by simp[lx,ly]) ?_⟩;refine⟨_,Ce,b,_,Ce,.inr (Cd (j _ _ W)),_,Ce,by omega,by omega,?_⟩;have R:Dt.size (.tup g)=1+wD g:=by simp[Dt.size]
  generalize b9:upd H2 p1 (.tup [.ty AC,.ty AE])=H3 at j ⊢;refine vO (λi C I=>L2.Ez2 λ(G:List (Nat×Dt))(kk:Option V)=>C= [some v,some u,some (.ref B),some (.ref a),some (.ref b),kk]/\xJ H0 I/\I B=some (.lst ((c++G).map λq=> .ref q.1))/\(∀q∈c++G,bVN H0 I q)/\G.map (·.2)=g.take i) ?_ ?_ ?_
  ·exact⟨[],k,Ce,L.trans j,by rw[cZg];exact j _ _ a5,λq t=>(a0 q (by simpa using t)).keep λa N e=>j _ _ e,rfl⟩
  ·rintro i C I hi ⟨G,kk,rfl,O,U,h3,S⟩;have J:i<g.length:=by rw[<- ly];omega
   obtain⟨xi,ex,ix⟩:=X.get (cQ9 J);obtain⟨yi,ey,iy⟩:=Z.get (cQ9 J);show aWa _ _ _ _;have sa:Sq K I a N:=Sq.same O (.inr ha);have sb:Sq K I b ys:=Sq.same O (.inr hb);refine⟨_,Ce,.inl ⟨rfl,_,Cc U⟩,_,Ce,_,Ce,?_⟩;rw[cJz];refine sa.ix ex ⟨_,Ce,_,Ce,?_⟩;refine sb.ix ey ⟨z2,λp hp=>?_⟩;have b5:G.length=i:=by have:=congrArg cJk S;simp at this;omega
   have c1:=qN c;have M:upd I p (.tup [xi,yi]) B=some (.lst ((c++G).map λq=> .ref q.1)):=by rw[yJ (yI U hp)];exact U
   refine⟨B,_,.ref p,Ce,Ce,M,zlt (by simp;omega),G++ [(p,g[i])],_,Ce,wB (O.trans (yE hp _)) a4,?_,?_,?_⟩
   ·rw[yB];simp
   ·intro q t;rw[<- cZn,cXH]at t;rcases t with t|t
    ·exact(h3 q t).keep λa N e=>vS M _ _ (qO hp _ _ e)
    ·rw[cXo.mp t];exact⟨xi,yi,vS M _ _ yB,ix,iy,aVt J D⟩
   ·rw[cZy,S,cZa,cQ9 J];rfl
  ·rintro C I ⟨G,kk,rfl,O,U,h3,S⟩;have e1:g.take ((ys.length:Nat):Int).toNat=g:=by rw[cXG,ly,cX4]
   rw[e1]at S;have e2:=uJ S;refine⟨zF (c++G),?_,c++G,some (.ref a),some (.ref b),kk,Ce,O,U,h3,Ce,?_⟩
   ·rw[xE,xE,e2];simp[zF,R]
   ·rw[xE,e2];omega
end
end Alike
namespace Alike
open PySem L2 PyProof.Rows
open Bk (Row Rows xZ zO Ans)
open Desk (xP uB stV xH)
def vDt:V->Dt
 |.int n=> .int n
 |.str x=> .str x
 |_=> .non
def aW8(v:V):Prop:=v= .non\/(∃n,v= .int n)\/∃x,v= .str x
def aW8.is(h:aW8 v):Is H v (vDt v):=by
 rcases h with rfl|⟨n,rfl⟩|⟨x,rfl⟩
 ·show Is H .non .non;unfold Is;rfl
 ·show Is H (.int n) (.int n);unfold Is;rfl
 ·show Is H (.str x) (.str x);unfold Is;rfl
theorem jL{H:Hp}:∀ {xs:List V},(∀v∈xs,aW8 v)->wF H xs (xs.map vDt)
 |[],_=>by show wF H [] [];unfold wF;trivial
 |x::xs,h=>by show wF H (x::xs) (vDt x::xs.map vDt);unfold wF;exact⟨(h x cXp).is,jL λv a=>h v (cXl _ a)⟩
theorem zZ{α:Type}{F:V->α->Prop}{g:α->Dt}(c:∀v a,F v a->Is H v (g a)):∀ {vs:List V} {b:List α},cXZ F vs b->wF H vs (b.map g)
 |_,_,.nil=>by show wF H [] [];unfold wF;trivial
 |_,_,.cons r t=>by rw[cXO];unfold wF;exact⟨c _ _ r,zZ c t⟩
def cQD(v:V):nb (vDt v)=true:=by cases v<;> (unfold vDt;unfold nb;rfl)
theorem aQg{α:Type}{g:α->Dt}(h:∀a,nb (g a)=true):∀l:List α,nbs (l.map g)=true
 |[]=>by show nbs []=true;unfold nbs;rfl
 |a::l=>by rw[cXO];unfold nbs;rw[h a,aQg h l];rfl
def aW0(r:Row):∀v∈stV r,aW8 v:=by
 intro v a;unfold stV at a;simp only[cXj,cV5,or_false]at a;rcases a with rfl|rfl|rfl|rfl|rfl|rfl
 ·exact .inr (.inr ⟨_,rfl⟩)
 ·exact .inr (.inl ⟨_,rfl⟩)
 ·exact .inr (.inr ⟨_,rfl⟩)
 ·exact .inr (.inl ⟨_,rfl⟩)
 ·cases r.link with
  |none=>exact .inl rfl
  |some j=>exact .inr (.inl ⟨_,rfl⟩)
 ·unfold Desk.W6;split
  ·exact .inl rfl
  ·exact .inr (.inr ⟨_,rfl⟩)
def jK:Ans->Dt
 |.num n=> .int n
 |.txt x=> .str x
 |.nums l=> .lst (l.map λi=> .int (i:Nat))
 |.txts l=> .lst (l.map .str)
 |.row r=> .tup ((stV r).map vDt)
def uW(r:Row):Dt:=if r.void then .str Ay else .tup ((stV r).map vDt)
def aY0{H:Hp}{p:Nat}{xs:List V}(h:H p=some (.tup xs))(k:∀v∈xs,aW8 v):Is H (.ref p) (.tup (xs.map vDt)):=by
 unfold Is;exact⟨p,xs,Ce,h,jL k⟩
def aJr(h:uB o H a v):Is H v (jK a):=by
 cases a with
 |num n=>show Is H v (.int n);unfold Is;exact h
 |txt x=>show Is H v (.str x);unfold Is;exact h
 |nums l=>
  obtain⟨p,e,_,q⟩:=h;show Is H v (.lst (l.map λi=> .int (i:Nat)));unfold Is;refine⟨p,_,e,q,?_⟩;have:=jL (H:=H) (xs:=l.map λi=>V.int (i:Nat)) λv b=>by obtain⟨i,_,rfl⟩:=cX3.mp b;exact .inr (.inl ⟨_,rfl⟩)
  rw[cZS]at this;exact this
 |txts l=>
  obtain⟨p,e,_,q⟩:=h;show Is H v (.lst (l.map .str));unfold Is;refine⟨p,_,e,q,?_⟩;have:=jL (H:=H) (xs:=l.map V.str) λv b=>by obtain⟨i,_,rfl⟩:=cX3.mp b;exact .inr (.inr ⟨_,rfl⟩)
  rw[cZS]at this;exact this
 |row r=>obtain⟨p,e,_,q⟩:=h;subst e;exact aY0 q (aW0 r)
set_option tactic.hygienic true in
def aQQ(h:xH H r v):Is H v (uW r):=by
 unfold xH at h;unfold uW;split
 ·rename_i e;rw[if_pos e]at h;unfold Is;exact h
 ·rename_i e;rw[if_neg e]at h;obtain⟨p,e,q⟩:=h;subst e;exact aY0 q (aW0 r)
def bVo(a:Ans):nb (jK a)=true:=by
 cases a with
 |num n=>show nb (.int n)=true;unfold nb;rfl
 |txt x=>show nb (.str x)=true;unfold nb;rfl
 |nums l=>show nb (.lst (l.map λi=> .int (i:Nat)))=true;unfold nb;exact aQg (λi=>by unfold nb;rfl) l
 |txts l=>show nb (.lst (l.map .str))=true;unfold nb;exact aQg (λi=>by unfold nb;rfl) l
 |row r=>show nb (.tup ((stV r).map vDt))=true;unfold nb;exact aQg cQD _
def bZJ(r:Row):nb (uW r)=true:=by
 unfold uW;split
 ·unfold nb;rfl
 ·unfold nb;exact aQg cQD _
end Alike
namespace Alike
open PySem L2 PyProof.Rows
open Bk (Row Rows xZ zO Ans)
open Desk (xP uB stV xH Up Run)
theorem aQR:∀ (n:Nat)(l:List Nat),l.Nodup->(∀k∈l,k<n)->l.length<=n
 |0,l,_,h=>by
  cases l with
  |nil=>exact cXh _
  |cons a r=>exact absurd (h a cXp) (cZT _)
 |n+1,l,nd,h=>by
  by_cases c:n∈l
  ·have:=aQR n (l.erase n) (nd.erase n) λk b=>by
    have d:=(cWM nd).mp b;have e:=h k d.2;have f:=d.1;omega
   rw[cWN c]at this;omega
  ·have:=aQR n l nd λk b=>by
    have e:=h k b;have f:k≠n:=λz=>c (by rw[<- z];exact b);omega
   omega
theorem jG{α:Type}{g:α->Dt}(h:∀a,(g a).size=1):∀l:List α,wD (l.map g)=l.length
 |[]=>by simp[wD]
 |a::l=>by rw[cXO];show(g a).size+wD (l.map g)=l.length+1;rw[h a,jG h l];omega
theorem aWJ{α:Type}{g:α->Dt}:∀ (l:List α),(∀a∈l,(g a).size<=c)->wD (l.map g)<=l.length*c
 |[],_=>by simp[wD]
 |a::l,h=>by rw[cXO,cZb,Nat.succ_mul];show(g a).size+wD (l.map g)<=_;have f:=h a cXp;have e:=aWJ l λb d=>h b (cXl _ d);omega
def bVH(v:V):(vDt v).size=1:=by cases v<;> simp[vDt,Dt.size]
def aZk(r:Row):(uW r).size<=7:=by
 unfold uW;split
 ·simp[Dt.size]
 ·have h:Dt.size (.tup ((stV r).map vDt))=1+wD ((stV r).map vDt):=by simp[Dt.size]
  rw[h,jG bVH];simp[stV]
def bXY{R:Rows}(t:Bk.qQ R){k:Nat}:(Bk.thr R k).length<=R.length:=by
 obtain⟨d,o,c,b⟩:=Bk.Q2 t k;refine aQR _ _ (c.imp λ{x y} h z=>?_) λj a=>((b j).mp a).1;rw[z,Stree.vY]at h;cases h
def bYb{R:Rows}(h:Bk.bX4 R S d a l):l.length<=R.length:=by
 refine aQR _ _ (h.ord.imp λ{x y} h z=>?_) λj b=>((h.mem j).mp b).1;rw[z,Stree.vX]at h;cases h
def J8(l:List Nat):(jK (.nums l)).size=1+l.length:=by
 have h:(jK (.nums l)).size=1+wD (l.map λi=>Dt.int (i:Nat)):=by unfold jK;simp[Dt.size]
 rw[h,jG (λi=>by simp[Dt.size])]
set_option tactic.hygienic true in
def bX8{t:Nat}{R g:Rows}(h:xZ R S e a g j)(l:Bk.Z7 R)(f:Up t R S):(jK a).size<=t+7:=by
 have d:∀x:Str,(jK (.txt x)).size=1:=λx=>by unfold jK;simp[Dt.size]
 have b:∀n:Int,(jK (.num n)).size=1:=λn=>by unfold jK;simp[Dt.size]
 have m:=f.r;cases h<;> (try rw[d])<;> (try rw[b])<;> try omega
 case state hk hv=>
  rename_i k r;have h:(jK (.row r)).size=1+wD ((stV r).map vDt):=by unfold jK;simp[Dt.size]
  rw[h,jG bVH];simp[stV]
 case thread hk hv=>
  rename_i k r;rw[J8];have:=bXY l.tree (k:=k);omega
 case copies hk hv=>
  rename_i k r;have h:(jK (.txts r.copies)).size=1+wD (r.copies.map Dt.str):=by unfold jK;simp[Dt.size]
  rw[h,jG (λi=>by simp[Dt.size])];have:=f.c r (cXs hk);omega
 case letters=>
  rw[J8];refine cXJ (Nat.add_le_add_left (cX6 _ _) 1) ?_;rw[cX1];omega
 case on h=>
  rw[J8];have:=bYb h;omega
theorem aJN:∀ (n:Nat) {f:List zO} {i:List Ans} {c:Rows} {j:List Int},f.length=n->(∀e∈f,Desk.Wf e)->Run [] [] f i c j->Up n c j/\Bk.Z7 c/\∀a∈i,(jK a).size<=n+7
 |0,f,i,c,j,hn,hw,h=>by
  rcases h.inv with⟨_,rfl,rfl,rfl⟩|⟨_,_,_,_,_,_,rfl,_⟩
  ·exact⟨⟨cXh _,cXh _,λr h=>by simp at h⟩,Bk.aZo,λa h=>by simp at h⟩
  ·simp at hn
 |n+1,f,i,c,j,hn,hw,h=>by
  rcases h.inv with⟨rfl,_⟩|⟨s,e,p,a,z,y,rfl,rfl,g,d⟩
  ·simp at hn
  ·obtain⟨l,m,v⟩:=aJN n (by simpa using hn) (λe u=>hw e (cZY _ u)) g;have k:=hw e (by simp);refine⟨l.done d,Bk.xZ.book m (λo d w t q=>by subst q;exact k) d,λx b=>?_⟩;rcases cXH.mp b with b|b
   ·have:=v x b;omega
   ·rw[cXo.mp b];have:=bX8 d m l;omega
end Alike
namespace Alike
open PySem L2 PyProof.Rows
open Law (xM)
abbrev aXy:Stmt:=xM BI
abbrev sAt:Stmt:=xM Ca
inductive aWM(K:cXc)(vs:List V)(H:Hp)(Q:VK)(h:XK):Prop|mk(a:Nat)(ns:List Int)(k:Nat)(h:vs= [.ref a,.int (k:Int)])(h:SqL K H a (ns.map V.int))(h:Q (.int (ns.getD k 0)) H)
section
variable {K:cXc}
def bW3:yO [AY,AH] [AY,AH] (yH sAt):=scM
seal PE PA PS PSs PT in
def bWo(T:uK mg)(F:Fun K Ca Ca sAt f fd):xL P w K mg base CX0 1 f fd [AY,AH] (aWM K):=by
 have j:=bW3;refine F.ok (k:=0) j (λl A outer s H n Q E m h=>?_);obtain⟨a,b,k,rfl,i,q⟩:=h;refine⟨_,(yC (xA (yM uN (pv 1) (yR yN rfl T.b_len xG (yA (pv 0) yD))) (yF (yP (yL yK (pv 0) (pv 1)))) yS) (yF (yP yG))),?_⟩;refine⟨_,Ce,_,Ce,a,_,Ce,.inl i,_,_,Ce,Ce,_,Ce,?_⟩;refine X4 (λc=>?_) (λc=>?_)
 ·have d:=of_decide_eq_true c;have g:k<b.length:=by rw[cXe]at d;omega
  refine⟨_,Ce,_,Ce,a,_,_,.int (b.getD k 0),Ce,Ce,i,yT ?_,q⟩;simp[cXu,cXW,cQ9 g]
 ·have d:=of_decide_eq_false (Bool.eq_false_iff.mpr c);have g:¬k<b.length:=by rw[cXe]at d;omega
  have e:b.getD k 0=0:=by simp[cXW,cXM (show b.length<=k by omega)]
  rw[e]at q;exact q
end
def aJ8(a H:Hp)(q:Nat×Dt):Prop:=∃x y,H q.1=some (.tup [x,y])/\Is a x q.2/\Is a y q.2
def aJ8.keep(p:aJ8 c H q)(k:∀a d,H a=some (.tup d)->b a=some (.tup d)):aJ8 c b q:=let ⟨x,y,h,r⟩:=p;⟨x,y,k _ _ h,r⟩
inductive WUU(H0:Hp)(v u:V)(td:Nat)(m:Nat)(σ:L2.St)(H:Hp):Prop|mk(qs l r k)(h:σ= [some v,some u,some (.ref td),l,r,k])(h:xJ H0 H)(h:H td=some (.lst (qs.map λq=> .ref q.1)))(h:(∀q∈qs,aJ8 H0 H q))(h:m=zF qs)(h:zF qs<=1000)
inductive aZj(vs:List V)(H:Hp)(Q:VK)(h:XK):Prop|mk(v u d)(h:vs= [v,u])(h:Is H v d)(h:Is H u d)(h:d.size<=1000)(h:∀H',xJ H H'->Q (.bl true) H')
section
variable {K:cXc}
def aV5:yO [AV,B0,"_law_todo","_law_left","_law_right",AH] [AV,B0] (yH aXy):=scM
seal PE PA PS PSs PT in
def aVE(T:uK mg)(F:Fun K BI BI aXy f fd):xL P w K mg base CX0 1 f fd [AV,B0] aZj:=by
 have sc:=aV5;refine F.ok (k:=0) sc (λc8 A outer s H0 vs Q E hr h=>?_);obtain⟨v,u,d,rfl,hv,hu,hd,q⟩:=h;refine⟨_,(yC (yU (i:=2) (xB (yA (xK (yA (pv 0) (yA (pv 1) yD))) yD))) (yC (jP cX0 (yM (jN hr.units0) (pv 2) (xB yD)) (yC (uR (bQN cXF cV8 cV9 bQl (pv 2)) (aWB rfl (wK (xI (i:=3)) (wK (xI (i:=4)) aZF)))) (yF (xA (zA (yR Z9 rfl T.b_isinstance yY (yA (pv 4) (yA (xK (yA (xX (v:= .ty AC) rfl T.b_list wM rfl) (yA (xX (v:= .ty AE) rfl T.b_tuple vT rfl) yD))) yD)))) (yC (xA (yM J9 (yR zJ rfl T.b_isinstance yY (yA (pv 3) (yA (xX (v:= .ty AC) rfl T.b_list wM rfl) yD))) (yR zJ rfl T.b_isinstance yY (yA (pv 4) (yA (xX (v:= .ty AC) rfl T.b_list wM rfl) yD)))) (yF (yP vQ)) yS) (yC (xA (PW.pt (Y7 (vI (zA (yR Z9 rfl T.b_isinstance yY (yA (pv 3) (yA (xK (yA (xX (v:= .ty AC) rfl T.b_list wM rfl) (yA (xX (v:= .ty AE) rfl T.b_tuple vT rfl) yD))) yD))))) (uS (yM J9 (yR yN rfl T.b_len xG (yA (pv 3) yD)) (yR yN rfl T.b_len xG (yA (pv 4) yD)))))) (yF (yP vQ)) yS) (yF (wV cX0 rfl (wA rfl T.b_range (yA (yR yN rfl T.b_len xG (yA (pv 4) yD)) yD)) (xI (i:=5)) (yF (yZ (jD cXF cXP cXQ xR (pv 2) (yA (xK (yA (yL aWn (pv 3) (pv 5)) (yA (yL aWn (pv 4) (pv 5)) yD))) yD)))))))) (yF (xA (PW.pt (Y7 (yM aZb (pv 3) zN) (uS (yM aZb (pv 4) zN)))) (yF (xA (PW.pt (Y7 (yM vB (pv 3) zN) (uS (yM vB (pv 4) zN)))) (yF (yP vQ)) yS)) (yF (xA (yM J9 (yR zJ rfl T.b_isinstance yY (yA (pv 3) (yA (xX (v:= .ty Al) rfl T.b_bool aVe rfl) yD))) (yR zJ rfl T.b_isinstance yY (yA (pv 4) (yA (xX (v:= .ty Al) rfl T.b_bool aVe rfl) yD)))) (yF (yP vQ)) (yF (xA (yM J9 (yR zJ rfl T.b_isinstance yY (yA (pv 3) (yA (xX (v:= .ty At) rfl T.b_str aJg rfl) yD))) (yR zJ rfl T.b_isinstance yY (yA (pv 4) (yA (xX (v:= .ty At) rfl T.b_str aJg rfl) yD)))) (yF (yP vQ)) (yF (xA (PW.pt (Y7 (vI (zA (yR Z9 rfl T.b_isinstance yY (yA (pv 3) (yA (xK (yA (xX (v:= .ty At) rfl T.b_str aJg rfl) (yA (xX (v:= .ty As) rfl T.b_int qE rfl) yD))) yD))))) (uS (yM J9 (pv 3) (pv 4))))) (yF (yP vQ)) yS)))))))))))) (yF (yP vQ)))),?_⟩;refine⟨_,Ce,_,Ce,z2,λp0 b6=>⟨z1,λt b3=>?_⟩⟩;have a6:H0 t=none:=(yE b6 _).fresh b3;refine⟨WUU H0 v u t,⟨d.size,[(p0,d)],none,none,none,Ce,wB (yE b6 _) a6,yB,?_,by simp[zF],by simpa[zF]using hd⟩,?_⟩
 ·intro q j;rw[cXo.mp j];exact⟨v,u,qO b3 _ _ yB,hv,hu⟩
 rintro m σ H ⟨qs,l,r,k,rfl,hk,hT,hP,rfl,a9⟩;refine⟨_,Ce,z0,λpn a5=>?_⟩;have c1:pn≠t:=cXT (yI hT a5);have a4:upd H pn (.lst []) t=some (.lst (qs.map λq=> .ref q.1)):=by rw[yJ (cXT c1)];exact hT
 refine⟨t,pn,_,Ce,Ce,Cc a4,Cc yB,_,Ce,?_⟩;by_cases b5:qs= []
 ·subst b5;rw[if_neg (by decide)];exact q _ (hk.trans (yE a5 _))
 obtain⟨c,⟨lp,d⟩,rfl⟩:=aZ0 b5;rw[if_pos (by simp)];refine⟨λB D=>∃m',m'<zF (c++ [(lp,d)])/\WUU H0 v u t m' B D,λB D z=>z,?_⟩;obtain⟨x,y,c4,N,O⟩:=hP (lp,d) (by simp);have b1:((c++ [(lp,d)]).map λq=>V.ref q.1)[((c++ [(lp,d)]).map λq=>V.ref q.1).length - 1]? =some (.ref lp):=by simp
 have b0:((c++ [(lp,d)]).map λq=>V.ref q.1).dropLast=c.map λq=>V.ref q.1:=by simp
 have b4:∀a S,H a=some (.tup S)->upd (upd H pn (.lst [])) t (.lst (c.map λq=>V.ref q.1)) a=some (.tup S):=λa S e=>vS a4 _ _ (qO a5 _ _ e);refine⟨_,Ce,.inl ⟨rfl,_,Cc a4⟩,t,_,.ref lp,Ce,Ce,a4,b1,?_⟩;rw[b0];have J:xJ H0 (upd (upd H pn (.lst [])) t (.lst (c.map λq=>V.ref q.1))):=wB (hk.trans (yE a5 _)) a6;have a7:upd (upd H pn (.lst [])) t (.lst (c.map λq=>V.ref q.1)) t=some (.lst (c.map λq=> .ref q.1)):=yB;have a3:∀q∈c,aJ8 H0 (upd (upd H pn (.lst [])) t (.lst (c.map λq=>V.ref q.1))) q:=λq j=>(hP q (by simp[j])).keep b4;have a8:=b4 _ _ c4;generalize c5:upd (upd H pn (.lst [])) t (.lst (c.map λq=>V.ref q.1))=H2 at J a7 a3 a8 ⊢;refine⟨lp,[x,y],Ce,Cd a8,Ce,x,[y],Ce,y,[],Ce,Ce,?_⟩;have c6:1<=d.size:=by cases d<;> simp[Dt.size]
 have c7:zF c+d.size<=1000:=by rw[xE]at a9;simpa[zF]using a9
 have hm:zF c<zF (c++ [(lp,d)]):=by rw[xE];simp[zF];omega
 have fin:∀H3,(∀b o,H2 b=some o->H3 b=some o)->∃m',m'<zF (c++ [(lp,d)])/\WUU H0 v u t m' [some v,some u,some (.ref t),some x,some y,k] H3:=λH3 k3=>
  ⟨zF c,hm,c,some x,some y,k,Ce,J.trans k3,k3 _ _ a7,λq j=>(a3 q j).keep λa S e=>k3 _ _ e,Ce,by omega⟩
 refine⟨_,Ce,z2,λp1 b9=>?_⟩;have R:xJ H2 (upd H2 p1 (.tup [.ty AC,.ty AE])):=yE b9 _;cases d with
 |non=>
  have ex:x= .non:=by unfold Is at N;exact N
  have ey:y= .non:=by unfold Is at O;exact O
  subst ex;subst ey;refine⟨_,p1,AC,AE,_,_,_,Ce,Cd yB,.non,jW _,jA _,_,Ce,onF rfl ?_⟩;refine⟨_,Ce,Ce,_,Ce,onT rfl (onT rfl ?_)⟩;refine⟨_,Ce,Ce,_,Ce,onF rfl ?_⟩;refine⟨_,Ce,Ce,_,Ce,onF rfl ?_⟩;exact fin _ R
 |bl b=>
  have ex:x= .bl b:=by unfold Is at N;exact N
  have ey:y= .bl b:=by unfold Is at O;exact O
  subst ex;subst ey;refine⟨_,p1,AC,AE,_,_,_,Ce,Cd yB,.bl b,aJv _,aZx _,_,Ce,onF rfl ?_⟩;refine⟨_,Ce,Ce,_,Ce,onF rfl ?_⟩;refine⟨_,Ce,Ce,_,Ce,onF rfl ?_⟩;refine⟨_,Ce,_,Al,_,_,Ce,.bl b,aQB _,_,Ce,_,Al,_,_,Ce,.bl b,aQB _,Ce,_,Ce,onF rfl ?_⟩;refine⟨_,Ce,_,At,_,_,Ce,.bl b,X5 _,_,Ce,_,At,_,_,Ce,.bl b,X5 _,Ce,_,Ce,onF rfl ?_⟩;refine⟨_,Ce,z2,λY G=>?_⟩;refine⟨_,Y,At,As,_,_,_,Ce,Cd yB,.bl b,X5 _,aVo _,_,Ce,onF rfl ?_⟩;refine⟨_,Ce,_,Ce,Ce,_,Ce,onF (by simp) ?_⟩;exact fin _ (R.trans (yE G _))
 |int n=>
  have ex:x= .int n:=by unfold Is at N;exact N
  have ey:y= .int n:=by unfold Is at O;exact O
  subst ex;subst ey;refine⟨_,p1,AC,AE,_,_,_,Ce,Cd yB,.int n,aQ9 _,aQC _,_,Ce,onF rfl ?_⟩;refine⟨_,Ce,Ce,_,Ce,onF rfl ?_⟩;refine⟨_,Ce,Ce,_,Ce,onF rfl ?_⟩;refine⟨_,Ce,_,Al,_,_,Ce,.int n,X6 _,_,Ce,_,Al,_,_,Ce,.int n,X6 _,Ce,_,Ce,onF rfl ?_⟩;refine⟨_,Ce,_,At,_,_,Ce,.int n,qV _,_,Ce,_,At,_,_,Ce,.int n,qV _,Ce,_,Ce,onF rfl ?_⟩;refine⟨_,Ce,z2,λY G=>?_⟩;refine⟨_,Y,At,As,_,_,_,Ce,Cd yB,.int n,qV _,aX7 _,_,Ce,onF rfl ?_⟩;refine⟨_,Ce,_,Ce,Ce,_,Ce,onF (by simp) ?_⟩;exact fin _ (R.trans (yE G _))
 |str z=>
  have ex:x= .str z:=by unfold Is at N;exact N
  have ey:y= .str z:=by unfold Is at O;exact O
  subst ex;subst ey;refine⟨_,p1,AC,AE,_,_,_,Ce,Cd yB,.str z,aXb _,aQD _,_,Ce,onF rfl ?_⟩;refine⟨_,Ce,Ce,_,Ce,onF rfl ?_⟩;refine⟨_,Ce,Ce,_,Ce,onF rfl ?_⟩;refine⟨_,Ce,_,Al,_,_,Ce,.str z,aXa _,_,Ce,_,Al,_,_,Ce,.str z,aXa _,Ce,_,Ce,onF rfl ?_⟩;refine⟨_,Ce,_,At,_,_,Ce,.str z,jB _,_,Ce,_,At,_,_,Ce,.str z,jB _,Ce,_,Ce,onF rfl ?_⟩;refine⟨_,Ce,z2,λY G=>?_⟩;refine⟨_,Y,At,As,_,_,_,Ce,Cd yB,.str z,jB _,aKu _,_,Ce,onF rfl ?_⟩;refine⟨_,Ce,_,Ce,Ce,_,Ce,onF (by simp) ?_⟩;exact fin _ (R.trans (yE G _))
 |lst g=>
  unfold Is at N O;obtain⟨a,S,rfl,ha,a0⟩:=N;obtain⟨b,ys,rfl,hb,a1⟩:=O;have lx:=a0.length;have ly:=a1.length;have a2:=J _ _ ha;have b2:=J _ _ hb;have b8:wD g+1<=1000:=by
   have:Dt.size (.lst g)=1+wD g:=by simp[Dt.size]
   omega
  have c3:g.length<=wD g:=qI g;refine⟨_,p1,AC,AE,_,_,_,Ce,Cd yB,.lst (R _ _ b2),zG _,vA _,_,Ce,onT rfl ?_⟩;refine⟨_,Ce,_,AC,_,_,Ce,.lst (R _ _ a2),zG _,_,Ce,_,AC,_,_,Ce,.lst (R _ _ b2),zG _,Ce,_,Ce,onF rfl ?_⟩;refine⟨_,Ce,z2,λY G=>?_⟩;have I:=R.trans (yE G (.tup [.ty AC,.ty AE]));refine⟨_,Y,AC,AE,_,_,_,Ce,Cd yB,.lst (I _ _ a2),zG _,vA _,_,Ce,onF rfl ?_⟩;refine⟨_,Ce,a,_,Ce,.inl (Cc (I _ _ a2)),_,Ce,b,_,Ce,.inl (Cc (I _ _ b2)),Ce,_,Ce,onF (by simp[lx,ly]) ?_⟩;refine⟨_,Ce,b,_,Ce,.inl (Cc (I _ _ b2)),_,Ce,by omega,by omega,?_⟩;have W:Dt.size (.lst g)=1+wD g:=by simp[Dt.size]
  generalize c0:upd (upd H2 p1 (.tup [.ty AC,.ty AE])) Y (.tup [.ty AC,.ty AE])=H3 at I ⊢;refine vO (λi B D=>L2.Ez2 λ(C:List (Nat×Dt))(kk:Option V)=>B= [some v,some u,some (.ref t),some (.ref a),some (.ref b),kk]/\xJ H0 D/\D t=some (.lst ((c++C).map λq=> .ref q.1))/\(∀q∈c++C,aJ8 H0 D q)/\C.map (·.2)=g.take i) ?_ ?_ ?_
  ·exact⟨[],k,Ce,J.trans I,by rw[cZg];exact I _ _ a7,λq j=>(a3 q (by simpa using j)).keep λa S e=>I _ _ e,rfl⟩
  ·rintro i B D hi ⟨C,kk,rfl,U,Z,h3,X⟩;have M:i<g.length:=by rw[<- ly];omega
   obtain⟨xi,ex,ix⟩:=a0.get (cQ9 M);obtain⟨yi,ey,iy⟩:=a1.get (cQ9 M);show aWa _ _ _ _;have sa:Sq K D a S:=Sq.same U (.inl ha);have sb:Sq K D b ys:=Sq.same U (.inl hb);refine⟨_,Ce,.inl ⟨rfl,_,Cc Z⟩,_,Ce,_,Ce,?_⟩;rw[cJz];refine sa.ix ex ⟨_,Ce,_,Ce,?_⟩;refine sb.ix ey ⟨z2,λp hp=>?_⟩;have b7:C.length=i:=by have:=congrArg cJk X;simp at this;omega
   have c2:=qN c;have L:upd D p (.tup [xi,yi]) t=some (.lst ((c++C).map λq=> .ref q.1)):=by rw[yJ (yI Z hp)];exact Z
   refine⟨t,_,.ref p,Ce,Ce,L,zlt (by simp;omega),C++ [(p,g[i])],_,Ce,wB (U.trans (yE hp _)) a6,?_,?_,?_⟩
   ·rw[yB];simp
   ·intro q j;rw[<- cZn,cXH]at j;rcases j with j|j
    ·exact(h3 q j).keep λa S e=>vS L _ _ (qO hp _ _ e)
    ·rw[cXo.mp j];exact⟨xi,yi,vS L _ _ yB,ix,iy⟩
   ·rw[cZy,X,cZa,cQ9 M];rfl
  ·rintro B D ⟨C,kk,rfl,U,Z,h3,X⟩;have e1:g.take ((ys.length:Nat):Int).toNat=g:=by rw[cXG,ly,cX4]
   rw[e1]at X;have e2:=uJ X;refine⟨zF (c++C),?_,c++C,some (.ref a),some (.ref b),kk,Ce,U,Z,h3,Ce,?_⟩
   ·rw[xE,xE,e2];simp[zF,W]
   ·rw[xE,e2];omega
 |tup g=>
  unfold Is at N O;obtain⟨a,S,rfl,ha,a0⟩:=N;obtain⟨b,ys,rfl,hb,a1⟩:=O;have lx:=a0.length;have ly:=a1.length;have a2:=J _ _ ha;have b2:=J _ _ hb;have b8:wD g+1<=1000:=by
   have:Dt.size (.tup g)=1+wD g:=by simp[Dt.size]
   omega
  have c3:g.length<=wD g:=qI g;refine⟨_,p1,AC,AE,_,_,_,Ce,Cd yB,.tup (R _ _ b2),zR _,wP _,_,Ce,onT rfl ?_⟩;refine⟨_,Ce,_,AC,_,_,Ce,.tup (R _ _ a2),zR _,_,Ce,_,AC,_,_,Ce,.tup (R _ _ b2),zR _,Ce,_,Ce,onF rfl ?_⟩;refine⟨_,Ce,z2,λY G=>?_⟩;have I:=R.trans (yE G (.tup [.ty AC,.ty AE]));refine⟨_,Y,AC,AE,_,_,_,Ce,Cd yB,.tup (I _ _ a2),zR _,wP _,_,Ce,onF rfl ?_⟩;refine⟨_,Ce,a,_,Ce,.inr (Cd (I _ _ a2)),_,Ce,b,_,Ce,.inr (Cd (I _ _ b2)),Ce,_,Ce,onF (by simp[lx,ly]) ?_⟩;refine⟨_,Ce,b,_,Ce,.inr (Cd (I _ _ b2)),_,Ce,by omega,by omega,?_⟩;have W:Dt.size (.tup g)=1+wD g:=by simp[Dt.size]
  generalize c0:upd (upd H2 p1 (.tup [.ty AC,.ty AE])) Y (.tup [.ty AC,.ty AE])=H3 at I ⊢;refine vO (λi B D=>L2.Ez2 λ(C:List (Nat×Dt))(kk:Option V)=>B= [some v,some u,some (.ref t),some (.ref a),some (.ref b),kk]/\xJ H0 D/\D t=some (.lst ((c++C).map λq=> .ref q.1))/\(∀q∈c++C,aJ8 H0 D q)/\C.map (·.2)=g.take i) ?_ ?_ ?_
  ·exact⟨[],k,Ce,J.trans I,by rw[cZg];exact I _ _ a7,λq j=>(a3 q (by simpa using j)).keep λa S e=>I _ _ e,rfl⟩
  ·rintro i B D hi ⟨C,kk,rfl,U,Z,h3,X⟩;have M:i<g.length:=by rw[<- ly];omega
   obtain⟨xi,ex,ix⟩:=a0.get (cQ9 M);obtain⟨yi,ey,iy⟩:=a1.get (cQ9 M);show aWa _ _ _ _;have sa:Sq K D a S:=Sq.same U (.inr ha);have sb:Sq K D b ys:=Sq.same U (.inr hb);refine⟨_,Ce,.inl ⟨rfl,_,Cc Z⟩,_,Ce,_,Ce,?_⟩;rw[cJz];refine sa.ix ex ⟨_,Ce,_,Ce,?_⟩;refine sb.ix ey ⟨z2,λp hp=>?_⟩;have b7:C.length=i:=by have:=congrArg cJk X;simp at this;omega
   have c2:=qN c;have L:upd D p (.tup [xi,yi]) t=some (.lst ((c++C).map λq=> .ref q.1)):=by rw[yJ (yI Z hp)];exact Z
   refine⟨t,_,.ref p,Ce,Ce,L,zlt (by simp;omega),C++ [(p,g[i])],_,Ce,wB (U.trans (yE hp _)) a6,?_,?_,?_⟩
   ·rw[yB];simp
   ·intro q j;rw[<- cZn,cXH]at j;rcases j with j|j
    ·exact(h3 q j).keep λa S e=>vS L _ _ (qO hp _ _ e)
    ·rw[cXo.mp j];exact⟨xi,yi,vS L _ _ yB,ix,iy⟩
   ·rw[cZy,X,cZa,cQ9 M];rfl
  ·rintro B D ⟨C,kk,rfl,U,Z,h3,X⟩;have e1:g.take ((ys.length:Nat):Int).toNat=g:=by rw[cXG,ly,cX4]
   rw[e1]at X;have e2:=uJ X;refine⟨zF (c++C),?_,c++C,some (.ref a),some (.ref b),kk,Ce,U,Z,h3,Ce,?_⟩
   ·rw[xE,xE,e2];simp[zF,W]
   ·rw[xE,e2];omega
end
end Alike
namespace Alike
open PySem L2 PyProof.Rows
open Bk (Row Rows xZ zO Ans)
open Desk (xP uB stV xH Up Run zP Wf jH uA)
open Law (xM LGo LBk xF aZi jX)
open Thr (vG)
theorem aWm{α:Type}{g:α->Dt}:∀ {vs:List V} {b:List α},vs.length=b.length->(∀ (i:Nat) v a,vs[i]? =some v->b[i]? =some a->Is H v (g a))->wF H vs (b.map g)
 |[],[],_,_=>by show wF H [] [];unfold wF;trivial
 |v::vs,a::b,hl,h=>by rw[cXO];unfold wF;exact⟨h 0 v a rfl rfl,aWm (by simpa using hl) λi v a d c=>h (i+1) v a d c⟩
 |[],_::_,hl,_=>by simp at hl
 |_::_,[],hl,_=>by simp at hl
def aQA(h:H p=some (.lst vs))(k:wF H vs ds):Is H (.ref p) (.lst ds):=by
 unfold Is;exact⟨p,vs,Ce,h,k⟩
def bQm{α:Type}{g:α->Dt}(h:∀a,nb (g a)=true)(l:List α):nb (.lst (l.map g))=true:=by unfold nb;exact aQg h l
def aQW{α:Type}{g:α->Dt}{l:List α}(h:∀a∈l,(g a).size<=c)(hl:l.length<=n):Dt.size (.lst (l.map g))<=1+n*c:=by
 have e:Dt.size (.lst (l.map g))=1+wD (l.map g):=by simp[Dt.size]
 have b:=aWJ l h;have d:l.length*c<=n*c:=cWf _ hl;omega
theorem Run.cut:∀ (n:Nat) {R c:Rows} {S b:List Int} {f fs:List zO} {cs:List Ans},fs.length=n->Run R S (f++fs) cs c b->∃d bs j i,cs=d++bs/\Run R S f d j i/\Run j i fs bs c b
 |0,R,c,S,b,f,fs,cs,hn,h=>by have e:fs= []:=cJs hn;subst e;rw[cZg]at h;exact⟨cs,[],c,b,by rw[cZg],h,.nil⟩
 |n+1,R,c,S,b,f,fs,cs,hn,h=>by
  obtain⟨x,g,rfl⟩:=aZ0 (l:=fs) (by intro z;rw[z]at hn;cases hn);rcases Desk.Run.inv h with⟨z,_⟩|⟨l,e,t,a,j,i,k,u,o,v⟩
  ·rw[<- cZn]at z;simp at z
  ·rw[<- cZn]at k;obtain⟨w,r⟩:=cVt k rfl;cases r;subst w;obtain⟨d,bs,R2,s,q,m,p⟩:=Run.cut n (by simpa using hn) o;exact⟨d,bs++ [a],R2,s,by rw[u,q,cZn],m,.snoc p v⟩
abbrev aVN:Stmt:=xM BS
abbrev aZR:Stmt:=xM B3
inductive aWN(vs:List V)(H:Hp)(Q:VK)(h:XK):Prop|mk(ds:Nat)(das:List Nat)(es:List zO)(h:vs= [.ref ds])(h:zP H ds das es)(h:es.length<=60)(h:(∀e∈es,Wf e))(h:∀ (t ra sa:Nat)(H':Hp)(rs:List Nat)(as:List Ans),LGo H ra sa es as H' rs->H' t=some (.tup [.ref ra,.ref sa])->Q (.ref t) H')
inductive aJ0(vs:List V)(H:Hp)(Q:VK)(h:XK):Prop|mk(ra:Nat)(rs:List Nat)(R:Rows)(h:vs= [.ref ra])(h:xF H ra rs R)(h:R.length<=60)(h:∀ (d:Nat)(H':Hp)(ws:List V),xJ H H'->H d=none->H' d=some (.lst ws)->cXZ (λv r=>xH H' r v) ws R->Q (.ref d) H')
section
variable {K:cXc}
def bXm:yO [Az,A1,AJ,AI] [Az] (yH aVN):=scM
seal PE PA PS PSs PT in
def bQw(a:FnG P w K mg base n Aw [A1,AJ,AI] aZi)(F:Fun K BS BS aVN f fd):xL P w K mg base CX0 (n+1) f fd [Az] aWN:=by
 have S:=bXm;refine F.ok (k:=n) S (λU A outer s N vs Q E O h=>?_);obtain⟨J,e,p,rfl,m,hl,C,q⟩:=h;refine⟨_,(yC (yU (i:=1) (xB yD)) (yC (yU (i:=2) (xB yD)) (yC (wV cX0 rfl (xN (pv 0)) (xI (i:=3)) (yF (yZ (xU a O rfl (yA (pv 1) (yA (pv 2) (yA (pv 3) yD))))))) (yF (yP (xK (yA (pv 1) (yA (pv 2) yD)))))))),?_⟩;refine⟨z0,λu I=>?_⟩;dsimp only[yW];refine⟨z0,λz H=>?_⟩;dsimp only[yW];have G:=LGo.start I H;generalize upd (upd N u (.lst [])) z (.lst [])=H6 at G ⊢;refine⟨_,Ce,J,Ce,⟨_,Cc (G.keep _ _ m.1)⟩,?_⟩;refine zV (xs:=e.map V.ref) (λt σ B=>L2.Ez3 λ(j:List Nat)(c:List Ans)(y:Option V)=>σ= [some (.ref J),some (.ref u),some (.ref z),y]/\LGo N u z (p.take t) c B j) ?_ ?_ ?_ ?_
 ·exact⟨[],[],none,Ce,G⟩
 ·rintro t σ B L ⟨j,c,y,rfl,g⟩;exact Cc (g.keep _ _ m.1)
 ·rintro t x σ B l ⟨j,c,y,rfl,g⟩;rw[cXu]at l;cases r:e[t]? with
  |none=>rw[r]at l;cases l
  |some d=>
   rw[r]at l;cases l;have o:t<p.length:=by rw[<- m.2.1];exact(cXn.mp r).1
   have M:=cQ9 o;dsimp only[yW];refine⟨_,Ce,_,Ce,_,Ce,g.step (C _ (cZX o)) (by rw[cZl];omega) (g.keep _ _ (m.2.2 t d _ r M)) λb v W D R X Z Y=>?_⟩;have T:p.take (t+1)=p.take t++ [p[t]]:=by rw[cZa,M];rfl
   exact⟨D,c++ [b],_,Ce,by rw[T];exact R⟩
 rintro σ B ⟨j,c,y,rfl,g⟩;rw[cXe,m.2.1,cX4]at g;dsimp only[aWb];refine⟨_,Ce,_,Ce,z2,λt L=>?_⟩;exact q t u z _ j c (g.same (yE L _)) yB
def aYk:yO [A1,"_law_made","_law_row"] [A1] (yH aZR):=scM
set_option tactic.hygienic true in
seal PE PA PS PSs PT in
def aKX(T:uK mg)(F:Fun K B3 B3 aZR f fd):xL P w K mg base CX0 1 f fd [A1] aJ0:=by
 have sc:=aYk;refine F.ok (k:=0) sc (λa9 A outer s H7 vs Q E hr h=>?_);obtain⟨ra,rs,R,rfl,G,a8,q⟩:=h;refine⟨_,(yC (yU (i:=1) (xB yD)) (yC (wV cX0 rfl (xN (pv 0)) (xI (i:=2)) (yF (yZ (jD cXF cXP cXQ xR (pv 1) (yA (yL yK (xB (yA (zH W1 rfl T.b_tuple vT (yA (qZ aXK (pv 2) aXq (X9 yG)) yD)) (yA yQ yD))) (zH uD rfl T.b_int qE (yA (yL yK (pv 2) yG) yD))) yD))))) (yF (yP (pv 1))))),?_⟩;refine⟨z0,λu n=>?_⟩;dsimp only[yW];have k8:=yE n (.lst []);refine⟨_,Ce,ra,Ce,⟨_,Cc (k8 _ _ G.lst)⟩,?_⟩;refine zV (xs:=rs.map V.ref) (λt σ g=>L2.Ez2 λ(m:List V)(S:Option V)=>σ= [some (.ref ra),some (.ref u),S]/\xJ H7 g/\g u=some (.lst m)/\cXZ (λv r=>xH g r v) m (R.take t)) ?_ ?_ ?_ ?_
 ·exact⟨[],none,Ce,k8,yB,.nil⟩
 ·rintro t σ g ht ⟨m,S,rfl,y,c,d⟩;exact Cc (y _ _ G.lst)
 ·rintro t x σ g D ⟨m,S,rfl,y,c,d⟩;rw[cXu]at D;cases O:rs[t]? with
  |none=>rw[O]at D;cases D
  |some b=>
   rw[O]at D;cases D;have Y:t<R.length:=by rw[<- G.len];exact(cXn.mp O).1
   have J:=cQ9 Y;obtain⟨l,e1,e2⟩:=G.row t b _ O J;have b9:g b=some (.lst (jX R[t] l)):=y _ _ e1;have a7:m.length=t:=by rw[cJh d,cZl];omega
   dsimp only[yW];refine⟨_,Ce,.inl ⟨rfl,_,Cc c⟩,_,Ce,_,Ce,b,_,Ce,Cc b9,λN Z=>⟨N,_,Ce,.inl ⟨Cc yB,λj a6=>⟨z2,λM a5=>?_⟩⟩⟩⟩;have a2:=yE Z (.lst (qC (jX R[t] l) none (some 6)));have a3:=yE a6 (.tup (qC (jX R[t] l) none (some 6)));have a4:=yE a5 (.lst [.ref j,.str Ay]);have B:=(a2.trans a3).trans a4;have I:=a4 _ _ (yB (H:=upd g N (.lst (qC (jX R[t] l) none (some 6)))) (a:=j) (o:= .tup (qC (jX R[t] l) none (some 6))));have e4:upd (upd (upd g N (.lst (qC (jX R[t] l) none (some 6)))) j (.tup (qC (jX R[t] l) none (some 6)))) M (.lst [.ref j,.str Ay]) M=some (.lst [.ref j,.str Ay]):=yB;generalize upd (upd (upd g N (.lst (qC (jX R[t] l) none (some 6)))) j (.tup (qC (jX R[t] l) none (some 6)))) M (.lst [.ref j,.str Ay])=H10 at B I e4 ⊢;have X:=B _ _ b9;have W:atI [V.ref j,V.str Ay] (if R[t].void=true then 1 else 0)=some (if R[t].void=true then .str Ay else .ref j):=by cases R[t].void<;> rfl
   refine⟨_,Ce,b,_,6,_,Ce,Ce,Cc X,Ce,.inr ⟨_,Ce,M,_,_,_,Ce,Ce,Cc e4,W,u,_,_,Ce,Ce,B _ _ c,zlt (by omega),?_⟩⟩;have C:H7 u=none:=n;have a1:∀L,xJ H7 (upd H10 u (.lst L)):=λL x o e=>by rw[yJ (yI e C)];exact B _ _ (y _ _ e)
   have tk:∀ {x zs L},g x=some (.tup zs)->upd H10 u (.lst L) x=some (.tup zs):=λ{x zs L} e=>by rw[yJ (λz=>by rw[z,c]at e;cases e)];exact B _ _ e
   refine⟨m++ [if R[t].void=true then .str Ay else .ref j],_,Ce,a1 _,yB,?_⟩;have et:R.take (t+1)=R.take t++ [R[t]]:=by rw[cZa,J];rfl
   rw[et];refine cVY (Desk.wJ (λv r z=>?_) d) ?_
   ·unfold xH at z ⊢;split
    ·rename_i e;rw[if_pos e]at z;exact z
    ·rename_i e;rw[if_neg e]at z;obtain⟨p,e,q⟩:=z;exact⟨p,e,tk q⟩
   ·unfold xH;cases hv:R[t].void with
    |true=>exact rfl
    |false=>
     have a0:qC (jX R[t] l) none (some 6)=stV R[t]:=by unfold stV Desk.aQs Desk.W6;rw[hv];cases U:R[t].link<;> (unfold jX;rw[U];rfl)
     rw[a0]at I;refine⟨j,Ce,?_⟩;rw[yJ (λz=>by rw[z,B _ _ c]at I;cases I)];exact I
 rintro σ g ⟨m,S,rfl,y,c,d⟩;rw[cXe,G.len,cX4]at d;exact⟨_,Ce,q u g m y n c d⟩
end
end Alike
namespace Alike
open PySem L2 PyProof.Rows
open Bk (Row Rows xZ zO Ans)
open Desk (xP uB stV xH Up Run zP Wf jH uA)
open Law (xM LGo LBk xF aXN jX)
open Thr (vG)
def bVV(ns:List Int)(a b:Option Int):∃ms:List Int,qC (ns.map V.int) a b=ms.map V.int/\ms.length<=HT.sIx ns.length ns.length b - HT.sIx ns.length 0 a:=by
 refine⟨(ns.drop (HT.sIx ns.length 0 a)).take (HT.sIx ns.length ns.length b - HT.sIx ns.length 0 a),?_,?_⟩
 ·unfold qC;rw[cXe,List.map_take,List.map_drop]
 ·rw[cZl];exact Nat.min_le_left _ _
def aYJ(ns:List Int)(a b:Nat):∃c:List Int,qC (ns.map V.int) (some (a:Int)) (some (b:Int))=c.map V.int/\c.length<=b - a:=by
 obtain⟨c,e,d⟩:=bVV ns (some (a:Int)) (some (b:Int));refine⟨c,e,cXJ d ?_⟩;rw[aVR,aVR];omega
def aWg(xs:List V)(m:Nat):qC xs (some (m:Int)) none=xs.drop m:=by
 unfold qC;rw[HT.bJq,aVR];by_cases h:m<=xs.length
 ·rw[Nat.min_eq_left h,List.take_of_length_le (by rw[cV4];exact cXh _)]
 ·rw[Nat.min_eq_right (by omega),List.drop_of_length_le (cXh _),List.drop_of_length_le (by omega)];simp
theorem bWH{α β:Type}{F:α->β->Prop}:∀ {xs:List α} {d bs:List β},cXZ F xs (d++bs)->∃c b,xs=c++b/\cXZ F c d/\cXZ F b bs
 |xs,[],bs,h=>⟨[],xs,Ce,.nil,h⟩
 |x::xs,a::d,bs,.cons h1 h2=>by obtain⟨c,b,e,g,f⟩:=bWH h2;exact⟨x::c,b,by rw[e];rfl,.cons h1 g,f⟩
def bJc{α β:Type}{F:α->β->Prop}{xs:List α}{ys:List β}(h:cXZ F xs ys):∀ {i:Nat} {y:β},ys[i]? =some y->∃x,xs[i]? =some x/\F x y:=by
 induction h with
 |nil=>intro i y e;simp at e
 |@cons a b d c g l j=>
  intro i y e;cases i with
  |zero=>cases e;exact⟨a,Ce,g⟩
  |succ i=>obtain⟨u,f,k⟩:=j (i:=i) (by simpa using e);exact⟨u,by simpa using f,k⟩
def W5(c:das.length=es.length)(g:∀ (i:Nat)(d:Nat)(e:zO),das[i]? =some d->es[i]? =some e->H d=some (.tup (xP e))) (j:das2.length=es2.length) (f:∀ (i:Nat)(d:Nat)(e:zO),das2[i]? =some d->es2[i]? =some e->H d=some (.tup (xP e))) (k:H p=some (.lst (das.map V.ref++das2.map V.ref))):zP H p (das++das2) (es++es2):=by
 refine⟨by rw[cZy];exact k,by rw[cXD,cXD,c,j],λi d e a b=>?_⟩;by_cases h:i<das.length
 ·rw[cXU h]at a;rw[cXU (by omega)]at b;exact g i d e a b
 ·rw[cXz (by omega)]at a b;rw[c]at a;exact f _ d e a b
structure Has(K:cXc)(Tb a ds ra sa:Nat)(ns:List Int)(das:List Nat)(es:List zO)(rs:List Nat)(R:Rows)(S:List Int)(H:Hp):Prop where
 s:SqL K H a (ns.map V.int)
 d:zP H ds das es
 b:xF H ra rs R
 sh:H sa=some (.lst (S.map V.int))
 t:vG Tb H
def bKL{R:Rows}(h:xF H ra rs R)(k:zK H H'):xF H' ra rs R:=
 ⟨k.lst h.lst,h.len,h.nd,λi b r c a=>let ⟨cp,e1,e2⟩:=h.row i b r c a;⟨cp,k.lst e1,k.lst e2⟩⟩
section
variable {K:cXc}{Tb a ds ra sa:Nat}{ns:List Int}{das:List Nat}{es:List zO}{rs:List Nat}{R:Rows}{S:List Int}{H H':Hp}
def Has.sameT(h:Has K Tb a ds ra sa ns das es rs R S H)(k:zK H H')(t:vG Tb H'):Has K Tb a ds ra sa ns das es rs R S H':=
 ⟨k.seq h.s,h.d.same k,bKL h.b k,k.lst h.sh,t⟩
def Has.same(h:Has K Tb a ds ra sa ns das es rs R S H)(k:xJ H H'):Has K Tb a ds ra sa ns das es rs R S H':=h.sameT k.t (Desk.Y4 h.t k)
end
end Alike
namespace L2
open PySem PySem.Spec PyProof.Rows
def aWl:∀ {a:List Int} {vs:List cXb},zD (a.map V.int) vs->cJv vs a
 |[],_,.nil=> .nil
 |k::a,_,.cons ⟨t,e⟩ r=>by subst e;exact .cons _ t (aWl r)
section
variable {X:Cx}
def aQ1:jZ X (.builtin AQ) (λz H Q=>∃ (p:Nat)(j:List Int),z= [.ref p]/\H p=some (.lst (j.map V.int))/\j.length<64/\ ∀ (l:Nat)(k:List Int),H l=none->k.Perm j->k.Pairwise (·<=·)->Q (.ref l) (upd H l (.lst (k.map V.int)))):=by
 intro x s σ H z O Q I r h;obtain⟨p,j,rfl,K,D,q⟩:=h;obtain⟨u,rfl,E⟩:=aQt r;cases E;obtain⟨a,y,pl,N⟩:=I.list (Cc K);have w:a.length=j.length:=by rw[<- y.length,cXe]
 have C:=aWl y;refine cJO kind_sorted cWm cWj (args_sorted1 _) ?_;unfold cZZ.«sorted»;refine cXa (m:=checkCount AQ 1 1 _) (cXf ?_);refine cXa (collect_list pl.isList ?_ (by rw[cXC];omega));refine cXa (cJ6 ?_ (by rw[cXC];omega));have i:((s.heap.push (cXS AC #[] 0)).update s.heap.objs.size (cXY (·++a.toArray))).objs.size=s.heap.objs.size+1:=by rw[cV1,size_push']
 have c:(((s.heap.push (cXS AC #[] 0)).update s.heap.objs.size (cXY (·++a.toArray))).push (cXS AC a.toArray 0)).get? (s.heap.objs.size+1)=some (cXS AC a.toArray 0):=by rw[<- i];exact cXA _ rfl
 have keep:∀b o,s.heap.get? b=some o->(((s.heap.push (cXS AC #[] 0)).update s.heap.objs.size (cXY (·++a.toArray))).push (cXS AC a.toArray 0)).get? b=some o:=λb o q=>by have d:b<s.heap.objs.size:=cXq q;refine cXg _ ?_;exact(cXL _ _ (cJB d)).trans (cXg _ q)
 show cXi _ _ _ _ _ {s with heap:=((s.heap.push (cXS AC #[] 0)).update s.heap.objs.size (cXY (·++a.toArray))).push (cXS AC a.toArray 0) };rw[i];have f:(((s.heap.push (cXS AC #[] 0)).update s.heap.objs.size (cXY (·++a.toArray))).push (cXS AC a.toArray 0)).objs.size=s.heap.objs.size+2:=by rw[size_push',i]
 generalize A:((s.heap.push (cXS AC #[] 0)).update s.heap.objs.size (cXY (·++a.toArray))).push (cXS AC a.toArray 0)=h1 at c keep f ⊢;refine cXa (cZt (cZJ cVo ⟨_,c,rfl⟩ cVh (list_sort_tree c C (by omega) λout g J v G=>⟨_,Ce,?_⟩) (cVm _)));obtain⟨n,e⟩:=sortedHeap_at (out:=out) c;have hl:s.heap.objs.size<=s.heap.objs.size+1:=cJg _;have F:H (s.heap.objs.size+1)=none:=I.hok.fresh hl;have t:g.length<=cXy:=by rw[v.length_eq,cXC];omega
 refine cXf ⟨_,Ce,.ref (s.heap.objs.size+1),_,I.laid (o:= .lst (g.map V.int)) (λb o e=>?_) hl ⟨by rw[cXe];exact t,out.toList,n,jI J,by simpa using e⟩,Ce,q _ g F v G⟩;have L:=keep b o e;have d:b<s.heap.objs.size:=cXq e;have B:b≠s.heap.objs.size+1:=cXx (cZj d);have M:b<h1.objs.size:=by rw[f];exact cXE d (Nat.le_add_right _ 2)
 rw[sortedHeap_old B M];exact L
def bVq{k:Nat}{x:Str}{d:List Str}{sp:Sp}{p pos:Pos}(G:FnG X.prog X.w X.K X.mg X.base k x d sp)(c:uT k X.A)(e:Gl X x)(a:(x==(AK:Str))=false:=by decide):PE X (.Call (.Name x p) [] [] pos) (aYq sp [] E0 bXW):=by
 obtain⟨f,h,F,b,g,m⟩:=G.ex;exact bJd F c e m g b .nil uU a
end
end L2
namespace Alike
open PySem L2 PyProof.Rows
open Bk (Row Rows xZ zO Ans xV laid thr lk dt wY)
open Desk (Run stV)
open Law (wQ Nm)
def aXp{R:Rows}(t:∀r∈R,r.place∈wQ)(i:Nat)(f:Row->Row)(a:∀r∈R,(f r).place∈wQ):∀r∈xV R i f,r.place∈wQ:=λr b=>by
 rcases Bk.J7 b with z|⟨q,z,rfl⟩
 ·exact t r z
 ·exact a q z
def aZG{w:Str}(hw:w∈wQ):∀ (l:List Nat) {R:Rows},(∀r∈R,r.place∈wQ)->∀r∈laid R l w,r.place∈wQ
 |[],R,t=>t
 |k::l,R,t=>aZG hw l (R:=xV R k λr=>{r with place:=w}) (aXp t k _ λ_ _=>hw)
def aKn{R f:Rows}{S g:List Int}{e:zO}{a:Ans}(h:xZ R S e a f g)(k:Nm e)(t:∀r∈R,r.place∈wQ):∀r∈f,r.place∈wQ:=by
 have b:∀x:Row,x.place∈wQ->∀r∈R++ [x],r.place∈wQ:=λx i r j=>by
  rcases cXH.mp j with z|z
  ·exact t r z
  ·rw[cXo.mp z];exact i
 cases h with
 |enter h=>exact b _ (by show("":Str)∈wQ;decide+kernel)
 |reply d h q s=>have h0:=t _ (cXs d);exact b _ h0
 |hang v l m hw h o p u n=>have c:=t _ (cXs m);exact aXp (aZG c _ t) _ _ (aZG c _ t)
 |loose=>exact aXp t _ _ t
 |date=>exact aXp t _ _ t
 |term=>exact aXp t _ _ t
 |copy=>exact aXp t _ _ t
 |void=>exact aXp t _ _ t
 |file d l=>exact aZG k _ t
 |_=>exact t
def bQY{R a:Rows}{S i:List Int}{b:List zO}{f:List Ans}(h:Run R S b f a i)(c:∀e∈b,Nm e)(t:∀r∈R,r.place∈wQ):∀r∈a,r.place∈wQ:=by
 induction h with
 |nil=>exact t
 |snoc h d g=>exact aKn d (c _ (by simp)) (g (λe j=>c e (by simp[j])))
theorem aWr{R:Rows}{rk:Nat->Nat}(b:Bk.Z7 R)(o:Fm.Ok R.length (lk R) rk):∀ (m k:Nat)(r:Row),rk k<m->R[k]? =some r->r.void=false->∃q,R[Fm.tp (lk R) rk k]? =some q/\q.void=false
 |0,k,r,h,_,_=>absurd h (cZT _)
 |m+1,k,r,h,hr,hv=>by
  have a:=Bk.wW hr;cases hl:r.link with
  |none=>rw[Fm.wO (by rw[Bk.uM hr];exact hl)];exact⟨r,hr,hv⟩
  |some j=>
   have e:lk R k=some j:=by rw[Bk.uM hr];exact hl
   obtain⟨q,c,f⟩:=b.ans k j r hr hl;rw[Fm.uX o a e];exact aWr b o m j q (by have:=(o.lt k j a e).2;omega) c f.2.1
def bJ1{R:Rows}(b:Bk.Z7 R){i k:Nat}{r q:Row}(e:R[i]? =some r)(g:r.void=false)(a:R[k]? =some q)(d:k∈thr R i):q.void=false:=by
 obtain⟨m,o,_,h⟩:=Bk.Q2 b.tree i;obtain⟨n,c,l⟩:=aWr b o _ i r (cZI _) e g;rw[<- ((h k).mp d).2]at c;cases hl:q.link with
 |none=>rw[Fm.wO (by rw[Bk.uM a];exact hl),a]at c;cases c;exact l
 |some j=>obtain⟨p,_,f⟩:=b.ans k j q a hl;exact f.1
def zL:List Str:= ["","old","new",AT,"old files","Old, ~",cVD "y" 40]
def aKq:zL.Nodup:=dk
def bQQ:∀x∈wQ,x∈zL:=dk
def bZh:(AT:Str)∉wQ:=dk
theorem bXU(f g:Str->Int):∀F:List Str,(F.map λn=>f n+g n).sum=(F.map f).sum+(F.map g).sum
 |[]=>rfl
 |x::F=>by simp only[cXO,List.sum_cons,bXU f g F];omega
def aW2:∀F:List Str,(F.map λ_=>(0:Int)).sum=0
 |[]=>rfl
 |x::F=>by simp only[cXO,List.sum_cons,aW2 F];rfl
theorem bXV(x:Str):∀ {F:List Str},F.Nodup->(x∉F->(F.map λn=>if x=n then(1:Int)else 0).sum=0)/\(x∈F->(F.map λn=>if x=n then(1:Int)else 0).sum=1)
 |[],_=>⟨λ_=>rfl,λh=>nomatch h⟩
 |y::F,nd=>by
  obtain⟨a,b⟩:=bXV x (cZ4.mp nd).2;refine⟨λh=>?_,λh=>?_⟩
  ·rw[cXO,List.sum_cons,if_neg (λz=>h (by rw[z];exact cXp)),a (λz=>h (cXl _ z))];rfl
  ·rw[cXO,List.sum_cons];by_cases e:x=y
   ·rw[if_pos e,a (by rw[e];exact(cZ4.mp nd).1)];rfl
   ·rw[if_neg e,b (by rcases cXj.mp h with z|z;exact absurd z e;exact z)];rfl
theorem aJ2{F:List Str}(a:F.Nodup)(pl:Nat->Str):∀l:List Nat,(∀k∈l,pl k∈F)->(F.map λn=>((l.filter λk=>decide (pl k=n)).length:Int)).sum=(l.length:Int)
 |[],_=>by simpa using aW2 F
 |k::l,h=>by
  have c:=aJ2 a pl l λj b=>h j (cXl _ b);have e:(F.map λn=>(((k::l).filter λk=>decide (pl k=n)).length:Int))=F.map λn=>(if pl k=n then(1:Int)else 0)+((l.filter λk=>decide (pl k=n)).length:Int):=by
   refine cJ1 λn _=>?_;by_cases z:pl k=n
   ·rw[cZC (by simpa using z),if_pos z,cZb];omega
   ·rw[cZB (by simpa using z),if_neg z];omega
  rw[e,bXU,c,(bXV (pl k) a).2 (h k cXp),cZb];omega
end Alike
namespace Alike
open PySem L2 PyProof.Rows
open Bk (Row Rows xZ zO Ans)
open Desk (xP uB stV xH Up Run zP Wf jH uA)
open Law (xM LGo LBk xF aXN jX zY wQ Nm Wd)
open Thr (vG)
abbrev aZO:Stmt:=xM BT
inductive aJX(vs:List V)(H:Hp)(Q:VK)(h:XK):Prop|mk(h:vs= [])(h:∀l,H l=none->Q (.ref l) (upd H l (.lst (zL.map V.str))))
def aZ6(a:Nat)(H:Hp)(v:V)(l:List Nat):Prop:=∃p,v= .ref p/\p≠a/\H p=some (.lst (l.map λi=>V.int (i:Nat)))
def aQd(R:Rows)(k:Nat):Bool:=match R[k]? with|some r=> !r.void|none=>false
def pl(R:Rows)(k:Nat):Str:=((R[k]?).map (·.place)).getD ""
def plB(R:Rows)(x:Str):V->Bool
 |.int n=>decide (pl R n.toNat=x)
 |_=>false
def inF(R:Rows)(x:Str):List Nat:=(cXm R.length).filter λk=>match R[k]? with|some r=> !r.void && decide (r.place=x)|none=>false
def bKW(R:Rows)(x:Str):((cXm R.length).filter (aQd R)).filter (λk=>decide (pl R k=x))=inF R x:=by
 rw[List.filter_filter];refine cVQ λk b=>?_;obtain⟨r,a⟩:∃r,R[k]? =some r:=⟨_,cQ9 (cXI.mp b)⟩;unfold aQd pl;rw[a];show(decide (r.place=x) && !r.void)=_;exact Bool.and_comm _ _
def bYh{R:Rows}{k:Nat}{r:Row}(h:R[k]? =some r):pl R k=r.place:=by unfold pl;rw[h];rfl
def aQv{R c:Rows}{S b:List Int}{x:Str}{a:Ans}(h:xZ R S (.letters x) a c b):a= .nums (inF R x)/\c=R/\b=S:=Bk.xZ.det rfl h .letters
def bYe{α β:Type}{F:α->β->Prop}{xs:List α}{ys:List β}(h:cXZ F xs ys):∀ {i:Nat} {x:α},xs[i]? =some x->∃y,ys[i]? =some y/\F x y:=by
 induction h with
 |nil=>intro i y e;simp at e
 |@cons a b d c g l j=>
  intro i y e;cases i with
  |zero=>cases e;exact⟨b,Ce,g⟩
  |succ i=>obtain⟨u,f,k⟩:=j (i:=i) (by simpa using e);exact⟨u,by simpa using f,k⟩
theorem aJM{R d:Rows}{S g:List Int}:∀ (n:Nat) {fs:List zO} {bs:List Ans},fs.length=n->(∀e∈fs,∀a c b,xZ R S e a c b->c=R/\b=S)->Run R S fs bs d g->d=R/\g=S/\cXZ (λe a=>xZ R S e a R S) fs bs
 |0,fs,bs,hn,hf,h=>by
  rcases Desk.Run.inv h with⟨rfl,rfl,rfl,rfl⟩|⟨_,_,_,_,_,_,rfl,_⟩
  ·exact⟨rfl,Ce,.nil⟩
  ·simp at hn
 |n+1,fs,bs,hn,hf,h=>by
  rcases Desk.Run.inv h with⟨rfl,rfl,rfl,rfl⟩|⟨l,e,i,a,c,b,rfl,rfl,j,f⟩
  ·simp at hn
  ·obtain⟨rfl,rfl,m⟩:=aJM n (by simpa using hn) (λe k=>hf e (by simp[k])) j;obtain⟨rfl,rfl⟩:=hf e (by simp) _ _ _ f;exact⟨rfl,Ce,cVY m f⟩
def aXi{R:Rows}{S:List Int}:∀ {F:List Str} {bs:List Ans},cXZ (λe a=>xZ R S e a R S) (F.map zO.letters) bs->bs=F.map λx=> .nums (inF R x)
 |[],_,.nil=>rfl
 |x::F,_,.cons h r=>by rw[(aQv h).1,aXi r];rfl
def bQa{K:cXc}{a:Nat}{F:List Str}{I:List Nat}{A:TE}{σ:L2.St}{D:Nat}{Q:VK}{H:Hp}(g:Str->zO)(hl:H a=some (.lst (F.map V.str)))(B:H D=none)(hz:F.length<=1000) (L:∀x∈F,∀ (c:Hp)(R:VK),(∀t,c t=none->R (.ref t) (upd c t (.tup (xP (g x)))))->A (sub σ I (some (.str x))) c R) (J:∀ (c:Hp)(b:List Nat),xJ H c->zP c D b (F.map g)->Q (.ref D) c):bVL (Itl K a) I cQy A σ D Q (upd H D (.lst [])):=by
 refine⟨λi m E c=>m=F.length - i/\i<=F.length/\∃b:List Nat,E=b.map V.ref/\xJ H c/\zP c D b ((F.take i).map g),⟨F.length,by simp,cZc _,[],Ce,yE B _,yB,by simp,λi d e h=>by simp at h⟩,?_⟩;rintro i m E c ⟨rfl,P,b,rfl,q,f⟩;refine⟨f.1,?_⟩;by_cases l:i<F.length
 ·have s:=cQ9 l;refine .inr ⟨⟨_,.str F[i],Cc (q _ _ hl),by rw[cXu,s];rfl⟩,λv G M=>?_⟩;obtain⟨rfl,y⟩:=M;have C:(F.map V.str)[i]? =some v:=y _ (Cc (q _ _ hl));rw[cXu,s]at C;cases C;have O:b.length=i:=by rw[f.2.1,cXe,cZl];omega
  have N:F.take (i+1)=F.take i++ [F[i]]:=by rw[cZa,s];rfl
  show A _ _ _;refine L _ (cZX l) _ _ λt u=>?_;have r:=yE u (.tup (xP (g F[i])));refine⟨zlt (by rw[cXe];omega),r _ _ f.1,F.length - (i+1),by omega,Ce,l,b++ [t],by simp,λx o e=>?_,?_⟩
  ·rw[yJ (yI e B)];exact r _ _ (q _ _ e)
  ·rw[N,cZy];have p:∀ {x:Nat} {w:List V},upd G t (.tup (xP (g F[i]))) x=some (.tup w)->upd (upd G t (.tup (xP (g F[i])))) D (.lst (b.map V.ref++ [.ref t])) x=some (.tup w):=λ{x w} e=>by
    rw[yJ (λz=>by rw[z,r _ _ f.1]at e;cases e)];exact e
   refine W5 f.2.1 (λj d e k n=>p (r _ _ (f.2.2 j d e k n))) rfl (λj d e k n=>?_) yB;match j,k,n with
   |0,k,n=>cases k;cases n;exact p yB
   |j+1,k,n=>cases k
 ·obtain rfl:i=F.length:=by omega
  rw[cX4]at f;exact .inl ⟨⟨_,Cc (q _ _ hl),by rw[cXe];exact cXh _⟩,J _ _ q f⟩
def bXA{f:List Int}{l m:List Nat}(j:f.Perm (l.map λi:Nat=>(i:Int)))(p:f.Pairwise (·<=·))(n:l.Nodup)(o:m.Pairwise (·<·))(h:∀k,k∈l↔k∈m):f=m.map λi:Nat=>(i:Int):=by
 have g:(l.map λi:Nat=>(i:Int)).Nodup:=by unfold List.Nodup at n ⊢;rw[cJK];exact n.imp λh z=>h (by omega)
 have e:f.Nodup:=j.nodup_iff.mpr g;refine Stree.uniq (lt:=λx y:Int=>x<y) (λa h=>by omega) (λa b c d q=>by omega) ((p.and e).imp λ{a b} h=>by have d:=h.1;have q:=h.2;omega) ?_ λk=>?_
 ·rw[cJK];exact o.imp λh=>by omega
 ·rw[j.mem_iff,cX3,cX3];constructor
  ·rintro⟨i,d,rfl⟩;exact⟨i,(h i).mp d,rfl⟩
  ·rintro⟨i,d,rfl⟩;exact⟨i,(h i).mpr d,rfl⟩
def bJn(n:Nat):(cXm n).Pairwise (·<·):=List.pairwise_lt_range
section
variable {K:cXc}
def aYg:yO [] [] (yH aZO):=scM
seal PE PA PS PSs PT in
def aKT(F:Fun K BT BT aZO f fd):xL P w K mg base CX0 1 f fd [] aJX:=by have a:=aYg;refine F.ok (k:=0) a (λb A outer s H c Q E d h=>?_);obtain⟨rfl,q⟩:=h;refine⟨_,(yF (yP (xB (yA yQ (yA yQ (yA yQ (yA yQ (yA yQ (yA yQ (yA (yV Law.bQJ yQ yG) yD)))))))))),?_⟩;exact⟨_,_,Ce,Ce,by decide,by decide,by decide,zn (by show 7<=100000;omega),λl hl=>q l hl⟩
end
end Alike
namespace Alike
open PySem L2 PyProof.Rows
open Bk (Row Rows xZ zO Ans)
open Desk (xP uB stV xH Up Run zP Wf jH uA)
open Law (xM LGo LBk xF aXN jX zY wQ Nm Wd md0 md1 Y2)
open Thr (vG)
def bVR:cXV "sum"=some (.builtin "sum"):=dk
abbrev bWV:Stmt:=xM "law"
def bJS(d:Nat)(K:cXc):Sp:=λe H Q _=>∃ (a:Nat)(b:List Int),e= [.ref a]/\SqL K H a (b.map V.int)/\b.length<=63/\vG d H/\∀c,Q (.bl true) c
def bWh(H:Hp):V->V
 |.ref p=>match H p with|some (.lst xs)=> .int xs.length|_=> .non
 |_=> .non
def aWp{H:Hp}{p:Nat}{xs:List V}(h:H p=some (.lst xs)):bWh H (.ref p)= .int (xs.length:Nat):=by
 show(match H p with|some (.lst xs)=>V.int xs.length|_=>V.non)=_;rw[h]
def bXS{H:Hp}{b:List V}{R:Rows}(g:cXZ (λv r=>xH H r v) b R){k:Nat}{r:Row}(d:R[k]? =some r)(c:r.void=false):∃p,b[k]? =some (.ref p)/\H p=some (.tup (stV r)):=by
 obtain⟨v,f,a⟩:=bJc g d;unfold xH at a;rw[if_neg (by rw[c];decide)]at a;obtain⟨p,rfl,e⟩:=a;exact⟨p,f,e⟩
def aWZ{r:Row}(a:r.void=false):stV r= [.str r.way,.int r.date,.str r.partner,.int r.term,zY r.link,.str r.place]:=by
 unfold stV Desk.aQs Desk.W6;rw[a];cases r.link<;> rfl
def cQN(H:Hp)(c:Nat)(a:List V)(R:Rows)(done:List Nat)(b:List V):Prop:=b.length=R.length/\∀ (m:Nat)(r:Row),R[m]? =some r->∃v,b[m]? =some v/\
 (m∈done->∃p,v= .ref p/\p≠c/\H p=some (.tup [.str r.way,.int r.date,.str r.partner,.int r.term,zY r.link,.str AT]))/\(m∉done->a[m]? =some v)
abbrev bK3:List Str:= [AY,Az,A1,B0,AV,"_law_asks",CA,B5,"_law_told",AB,BO,"_law_laid","_law_behind",AH]
section
variable {K:cXc}
def bYu:yO bK3 [AY] (yH bWV):=scM
def bWd:xO bK3 (yH bWV) B5 [] [] (lsN [(".0",.local),(B5,.local)]):=
 lcM
def bWe:xO bK3 (yH bWV) AH [A1] [2] (lsN [(".0",.local),(AH,.local),(A1,.free)]):=
 lcM
def bWf:xO bK3 (yH bWV) AH [B5,A1] [7,2] (lsN [(".0",.local),(AH,.local),(B5,.free),(A1,.free)]):=
 lcM
def bWg:xO bK3 (yH bWV) BO [] [] (lsN [(".0",.local),(BO,.local),(C0,.globalImplicit)]):=
 lcM
seal PE PA PS PSs PT in
def bK9(T:uK mg)(p9:mg "sum"=none)(f8:FnG P w K mg base n Bv [AO] aXN)(h4:FnG P w K mg base n CC [AY,CD,By] (bVA K))(a9:FnG P w K mg base n BS [Az] aWN) (U:FnG P w K mg base n B3 [A1] aJ0) (a2:FnG P w K mg base n BI [AV,B0] aZj) (q7:FnG P w K mg base n Ca [AY,AH] (aWM K)) (X:FnG P w K mg base n BT [] aJX) (c8:FnG P w K mg base n Ar [A1,AB] Y2) (Z:FnG P w K mg base n Bw [AV,B0] bXC) (Y:FnG P w K mg base n B2 [Bs] (jH Rf)) (N:FnG P w K mg base n CS [Bs] (uA Rf)) (F:Fun K "law" "law" bWV f fd):xL P w K mg base CX0 (n+1) f fd [AY] (bJS Rf.2 K):=by
 have sc:=bYu;refine F.ok (k:=n) sc (λy8 A outer s H0 vs Q E hr h=>?_);obtain⟨a,ns,rfl,hS,w2,hT,q⟩:=h;refine⟨_,(yC (yU (i:=1) (yL yX (xU f8 hr rfl (yA (qZ aXK (pv 0) (X9 yG) (X9 (yV zW yG (xU h4 hr rfl (yA (pv 0) (yA yG (yA yG yD))))))) yD)) yG)) (yC (yU (i:=2) (yL yX (xU a9 hr rfl (yA (pv 1) yD)) yG)) (yC (yU (i:=3) (xU U hr rfl (yA (pv 2) yD))) (yC (yU (i:=4) (xU N hr rfl (yA (zH uQ rfl T.b_list wM (yA (pv 1) yD)) yD))) (yC (xA (vI (zA (xU a2 hr rfl (yA (pv 4) (yA (pv 3) yD))))) (yF (yP vQ)) yS) (yC (yU (i:=4) (pv 3)) (yC (aX1 (i:=5) bWd rfl sc.nd rfl rfl (xN (bVq X hr rfl)) (λ_ _ _ _ _=>wS) (λ_ _ _ _ _=>(xK (yA yQ (yA (pv 0) yD))))) (yC (aX1 (i:=6) bWe rfl sc.nd rfl rfl (wA rfl T.b_range (yA (yR yN rfl T.b_len xG (yA (pv 2) yD)) yD)) (λ_ _ _ _ _=>(vC (vI (zA (yL ixK (yL ixK (pv 1) (pv 0)) yG))))) (λ_ _ _ _ _=>(pv 0))) (yC (yU (i:=3) (xB yD)) (yC (wV cX0 rfl (xN (bVq X hr rfl)) (xI (i:=7)) (yF (yZ (jD cXF cXP cXQ xR (pv 3) (yA (aQk bWf rfl (xN (pv 6)) (λ_ _ _ _ _=>(vC (yM zU (yL ixK (yL ixK (pv 2) (pv 0)) yG) (pv 1)))) (λ_ _ _ _ _=>(pv 0))) yD))))) (yC (yU (i:=8) (xU Y hr rfl (yA (yV aZa (pv 1) (pv 5)) yD))) (yC (xA (PW.pt (Y7 (vI (zA (yR zJ rfl T.b_isinstance yY (yA (pv 8) (yA (xX (v:= .ty AC) rfl T.b_list wM rfl) yD))))) (uS (vI (zA (xU Z hr rfl (yA (qZ aXK (pv 8) (X9 (yR yN rfl T.b_len xG (yA (pv 1) yD))) aXq) (yA (pv 3) yD)))))))) (yF (yP vQ)) yS) (yC (xA (yM J9 (yR (bZa rfl) rfl p9 bVR (yA (aQk bWg rfl (xN (pv 3)) (λ_ _ _ _ _=>wS) (λ_ _ _ _ _=>(yR (show jZ _ (.builtin C0) (W0 K)from yN) rfl T.b_len xG (yA (pv 0) yD)))) yD)) (yR yN rfl T.b_len xG (yA (pv 6) yD))) (yF (yP vQ)) yS) (yC (xA (yM (aZD hr.units0) (pv 6) (xB yD)) (yF (yP vQ)) yS) (yC (yU (i:=9) (yL yK (pv 6) (yV xD (xU q7 hr rfl (yA (pv 0) (yA yG yD))) (yR yN rfl T.b_len xG (yA (pv 6) yD))))) (yC (yU (i:=10) (xU c8 hr rfl (yA (pv 2) (yA (pv 9) yD)))) (yC (yU (i:=11) (xK (yA yQ (yA (pv 9) (yA yQ yD))))) (yC (yU (i:=8) (xU Y hr rfl (yA (yV aZa (pv 1) (xB (yA (pv 11) (yA (xK (yA yQ (yA yQ yD))) yD)))) yD))) (yC (xA (vI (zA (yR zJ rfl T.b_isinstance yY (yA (pv 8) (yA (xX (v:= .ty AC) rfl T.b_list wM rfl) yD))))) (yF (yP vQ)) yS) (yC (xA (vI (zA (xU Z hr rfl (yA (qZ aXK (pv 8) (X9 (yR yN rfl T.b_len xG (yA (pv 1) yD))) aXq) (yA (xB (yA (yR yN rfl T.b_len xG (yA (pv 10) yD)) (yA (yR aQ1 rfl T.b_sorted wZ (yA (pv 10) yD)) yD))) yD))))) (yF (yP vQ)) yS) (yC (yU (i:=12) (zH uQ rfl T.b_list wM (yA (pv 4) yD))) (yC (wV cX0 rfl (xN (pv 10)) (xI (i:=13)) (yF (uR (yV bQH (qZ bYz (yL yK (pv 4) (pv 13)) aXq (X9 yG)) (xK (yA yQ yD))) (X2 (pv 12) (pv 13) wT)))) (yF (yP (xU Z hr rfl (yA (xU N hr rfl (yA (yV aZa (pv 1) (xB (yA (pv 11) yD))) yD)) (yA (pv 12) yD))))))))))))))))))))))))))),?_⟩;refine⟨_,Ce,_,Ce,_,Ce,a,ns,22,60,Ce,hS,w2,_,_,Ce,Ce,_,Ce,a,_,Ce,hS,λp hp=>?_⟩;obtain⟨ms,v0,t5⟩:=aYJ ns 1 23;have k0:=yE hp (.lst (qC (ns.map V.int) (some 1) (some (1+22))));refine⟨p,ms,Ce,yB.trans (congrArg (λz=>some (HO.lst z)) v0),by omega,λH1 t ds us B es vs as R S k1 ht hD v4 hP W p0 x3=>?_⟩;have f0:∀e∈es,Wf e:=λe he=>(p0 e he).1;have r3:es.length<=25:=by omega
 have q5:=(k0.trans k1).t.seq hS;have T1:=Desk.Y4 hT (k0.trans k1);refine⟨t,_,0,_,Ce,Ce,Cd ht,Ce,?_⟩;dsimp only[yW];refine⟨_,Ce,ds,B,es,Ce,hD,by omega,f0,λt2 ra sa H2 rs cs g o3=>?_⟩;obtain⟨R2,S2,hL,u2,l1,o8⟩:=g.ex;obtain⟨rfl,rfl,rfl⟩:=Run.det es.length rfl W o8;have l0:R.length<=25:=cXJ u2.r r3;have j0:=bQY W (λe he=>(p0 e he).2) (λr h=>nomatch h);have A2:Has K Rf.2 a ds ra sa ns B es rs R S H2:=⟨g.keep.t.seq q5,hD.same g.keep.t,hL.book,hL.shut,Desk.Y4 T1 g.keep⟩;clear hD v4 hP ht q5 T1 g hL k1;refine⟨t2,_,0,_,Ce,Ce,Cd o3,Ce,?_⟩;dsimp only[yW];refine⟨_,Ce,ra,rs,R,Ce,A2.b,by omega,λd1 H3 i0 k3 y9 s8 e6=>?_⟩;have A3:=A2.same k3;dsimp only[yW];refine⟨_,Ce,ds,_,Ce,.inl (Cc A3.d.1),λhl h6=>?_⟩;have k4:=yE h6 (.lst (B.map V.ref));have A4:=A3.same k4;have D4:zP (upd H3 hl (.lst (B.map V.ref))) hl B es:=⟨yB,A3.d.2.1,λi d e I G=>k4 _ _ (A3.d.2.2 i d e I G)⟩;have n2:=k4 _ _ s8;have d2:=Desk.wJ (λv r (z:xH H3 r v)=>z.same k4.t) e6;generalize upd H3 hl (.lst (B.map V.ref))=H4 at A4 D4 n2 d2 ⊢;refine⟨hl,B,es,Ce,D4,by omega,f0,A4.t,λl H5 ws bs R2 S2 k5 T5 q2 x9 f1 h5=>?_⟩;obtain⟨-,rfl, -⟩:=Run.det es.length rfl W q2;have A5:=A4.sameT k5 T5;have j9:=k5.lst n2;have e5:=Desk.wJ (λv r (z:xH H4 r v)=>z.same k5) d2;dsimp only[yW];refine⟨_,Ce,_,Ce,.ref l,.ref d1,.lst (R.map uW),Ce,aQA f1 (zZ (F:=λv r=>xH H5 r v) (λv r z=>aQQ z) h5),aQA j9 (zZ (F:=λv r=>xH H5 r v) (λv r z=>aQQ z) e5),cXJ (aQW (n:=25) (c:=7) (λr _=>aZk r) l0) (by decide),λH6 k6=>⟨_,Ce,onF rfl ?_⟩⟩;have A6:=A5.same k6;have o4:=k6 _ _ j9;have t4:=Desk.wJ (λv r (z:xH H5 r v)=>z.same k6.t) e5;have w9:i0.length=R.length:=e6.length;clear A2 A3 A4 A5 D4 d2 h5 e5 f1 n2 j9 k4 k5 k3 k6 h6 o3 s8 e6;refine⟨_,Ce,?_⟩;dsimp only[yW];refine⟨rfl,λfl r1=>⟨fl,Ce,⟨_,Cc yB⟩,λD hD=>?_⟩⟩;have b0:=yE r1 (.lst (zL.map V.str));refine bQa zO.letters yB hD (by decide) (λx hx H' R' L=>⟨_,Ce,z2,λt ht=>L t ht⟩) λH7 i1 k7 hq=>?_;have l8:=b0.trans k7;have A7:=A6.same l8;have t1:=l8 _ _ o4;have r7:=Desk.wJ (λv r (z:xH H6 r v)=>z.same l8.t) t4;have z6:i1.length=7:=by rw[hq.2.1];rfl
 have A0:B.length<=25:=by rw[A7.d.2.1];exact r3
 clear A6 o4 t4 b0 k7 r1;dsimp only[yW];have u0:(rs.map V.ref).length=R.length:=by rw[cXe];exact A7.b.len
 refine⟨_,Ce,ra,_,Ce,.inl (Cc A7.b.lst),?_⟩;rw[u0];refine⟨_,Ce,by omega,by omega,λD2 g5=>?_⟩;rw[cXG];refine W8 (aQd R) (λk=>V.int (k:Nat)) g5 (by rw[cXC];omega) (λk hk H' R' hH L=>?_) (λk hk _ H' R' hH L=>⟨_,Ce,L⟩) ?_
 ·have d9:=cQ9 hk;obtain⟨b,g1,g2,cp,g3,g4⟩:=A7.b.get d9;have n1:H' ra=some (.lst (rs.map V.ref)):=by rw[hH ra (yI A7.b.lst g5)];exact A7.b.lst
  have hb:H' b=_:=(hH b (yI g3 g5)).trans g3;have eB:aQd R k= !R[k].void:=by unfold aQd;rw[d9]
  rw[eB]at L;exact⟨_,Ce,_,Ce,ra,_,_,_,Ce,Ce,Cc n1,yT g1,b,_,6,_,Ce,Ce,Cc hb,Ce,_,Ce,L⟩
 dsimp only[yW];have k8:=yE g5 (.lst (((cXm R.length).filter (aQd R)).map λk=>V.int (k:Nat)));have d3:upd H7 D2 (.lst (((cXm R.length).filter (aQd R)).map λk=>V.int (k:Nat))) D2=some (.lst (((cXm R.length).filter (aQd R)).map λk=>V.int (k:Nat))):=yB;have b9:∀k∈(cXm R.length).filter (aQd R),∃r,R[k]? =some r/\r.void=false:=λk hk=>by obtain⟨I,G⟩:=cZd.mp hk;have d9:=cQ9 (cXI.mp I);unfold aQd at G;rw[d9]at G;exact⟨_,d9,by simpa using G⟩
 have h6:((cXm R.length).filter (aQd R)).length<=25:=by have:=cX6 (aQd R) (cXm R.length);rw[cX1]at this;omega
 have d4:=bKW R;generalize (cXm R.length).filter (aQd R)=here at k8 d3 b9 h6 d4 ⊢;have A8:=A7.same k8;have n4:=k8 _ _ t1;have n9:=Desk.wJ (λv r (z:xH H7 r v)=>z.same k8.t) r7;have o2:=hq.same k8.t;generalize upd H7 D2 (.lst (here.map λk=>V.int (k:Nat)))=H8 at k8 d3 A8 n4 n9 o2 ⊢;clear A7 t1 r7 hq k8 g5 hD;refine⟨z0,λdu k2=>?_⟩;dsimp only[yW];have b1:=yE k2 (.lst []);refine⟨rfl,λl4 b8=>⟨l4,Ce,⟨_,Cc yB⟩,?_⟩⟩;have b2:=yE b8 (.lst (zL.map V.str));have r5:l4≠du:=λz=>by rw[z,yB]at b8;cases b8
 refine zV (xs:=zL.map V.str) (λt σ H=>L2.Ez2 λ(us:List V)(o7:Option V)=>σ= [some (.ref a),some (.ref ds),some (.ref ra),some (.ref du),some (.ref d1),some (.ref D),some (.ref D2),o7,none,none,none,none,none,none]/\xJ H8 H/\H l4=some (.lst (zL.map V.str))/\H du=some (.lst us)/\cXZ (aZ6 du H) us ((zL.take t).map (inF R))) ?_ ?_ ?_ ?_
 ·exact⟨[],none,Ce,b1.trans b2,yB,b2 _ _ yB,.nil⟩
 ·rintro t σ H ht ⟨us,o7,rfl,kH,I,G,h3⟩;exact Cc I
 ·rintro t v σ H hv ⟨us,o7,rfl,kH,I,G,h3⟩;rw[cXu]at hv;cases hx:zL[t]? with
  |none=>rw[hx]at hv;cases hv
  |some x=>
   rw[hx]at hv;cases hv;have et:zL.take (t+1)=zL.take t++ [x]:=by rw[cZa,hx];rfl
   have v9:us.length<=7:=by rw[h3.length,cXe,cZl];exact Nat.min_le_right _ _
   have A9:=A8.same kH;dsimp only[yW];refine⟨_,Ce,.inl ⟨rfl,_,Cc G⟩,_,Ce,D2,Ce,⟨_,Cc (kH _ _ d3)⟩,λD3 c9=>?_⟩;refine aXf (plB R x) id (Cc (kH _ _ d3)) c9 (zn (by rw[cXe];omega)) (λv hv H' R' hH L=>?_) (λv hv _ H' R' hH L=>⟨_,Ce,L⟩) ?_
   ·obtain⟨k,hk,rfl⟩:=cX3.mp hv;obtain⟨r,J,a4⟩:=b9 k hk;obtain⟨b,g1,g2,cp,g3,g4⟩:=A9.b.get J;have n1:H' ra=some (.lst (rs.map V.ref)):=by rw[hH ra (yI A9.b.lst c9)];exact A9.b.lst
    have hb:H' b=_:=(hH b (yI g3 c9)).trans g3;have eT:plB R x (V.int (k:Nat))=decide (V.str r.place=V.str x):=by show decide (pl R (k:Int).toNat=x)=_;rw[cXG,bYh J];simp
    rw[eT]at L;exact⟨_,Ce,_,Ce,ra,_,_,_,Ce,Ce,Cc n1,yT g1,b,_,5,_,Ce,Ce,Cc hb,Ce,_,Ce,Ce,_,Ce,L⟩
   have ef:((here.map λk=>V.int (k:Nat)).filter (plB R x)).map id=(inF R x).map λk=>V.int (k:Nat):=by rw[cVX,List.filter_map,<- d4 x];rfl
   rw[ef];have b3:=yE c9 (.lst ((inF R x).map λk=>V.int (k:Nat)));refine⟨du,_,_,Ce,Ce,b3 _ _ G,zlt (by omega),?_⟩;have nD:D3≠du:=λz=>by rw[z,G]at c9;cases c9
   have p8:H8 du=none:=k2;refine⟨us++ [.ref D3],_,Ce,wB (kH.trans b3) p8,by rw[yJ r5];exact b3 _ _ I,yB,?_⟩;rw[et,cZy];refine cVY (Desk.wJ (λv l z=>?_) h3) ⟨D3,Ce,nD,by rw[yJ nD];exact yB⟩;obtain⟨p,e,n,z⟩:=z;exact⟨p,e,n,by rw[yJ n];exact b3 _ _ z⟩
 rintro σ H9 ⟨us,o7,rfl,k9,I,G,h3⟩;rw[cXe,cX4]at h3;have A9:=A8.same k9;have s6:=k9 _ _ n4;have r0:=Desk.wJ (λv r (z:xH H8 r v)=>z.same k9.t) n9;have h0:=o2.same k9.t;have p6:=k9 _ _ d3;clear A8 n4 n9 o2 d3 b1 b2 b8 k2 k9 r5 I;dsimp only[aWb];refine⟨_,Ce,_,Ce,ds,D,_,_,Ce,Ce,A9.d.1,h0.1,by rw[cXe,cXe,cXC];omega,λp1 u6=>?_⟩;have b1:=yE u6 (.lst (B.map V.ref++i1.map V.ref));have r9:=W5 A9.d.2.1 (λi d e I G=>b1 _ _ (A9.d.2.2 i d e I G)) h0.2.1 (λi d e I G=>b1 _ _ (h0.2.2 i d e I G)) (yB (H:=H9) (a:=p1) (o:= .lst (B.map V.ref++i1.map V.ref)));have s0:∀e∈es++zL.map zO.letters,Wf e:=λe he=>by
  rcases cXH.mp he with z|z
  ·exact f0 e z
  ·obtain⟨k,_,rfl⟩:=cX3.mp z;exact cZu
 have x1:(es++zL.map zO.letters).length<=32:=by rw[cXD,cXe];show es.length+7<=_;omega
 refine⟨p1,B++i1,_,Ce,r9,by omega,s0,(A9.same b1).t,λm g8 y5 y0 R' S' d0 u3 e4 x6 hm j2=>?_⟩;obtain⟨_,_,w4⟩:=aJN _ rfl s0 e4;obtain⟨t8,z7,R1,S1,rfl,e8,m5⟩:=Run.cut _ rfl e4;obtain⟨rfl,rfl,rfl⟩:=Run.det es.length rfl W e8;obtain⟨-, -,u7⟩:=aJM _ rfl (λe he a R1 S1 h=>by
  obtain⟨k,hk,rfl⟩:=cX3.mp he;exact(aQv h).2) m5
 obtain rfl:=aXi u7;obtain⟨ys,zs,rfl,i4,a0⟩:=bWH j2;have h9:=(A9.same b1).sameT d0 u3;have i2:=d0.lst (b1 _ _ s6);have d8:=Desk.wJ (λv r (z:xH H9 r v)=>(z.same b1.t).same d0) r0;have i6:=d0.lst (b1 _ _ p6);have a5:=d0.lst (b1 _ _ G);have g0:cXZ (aZ6 du g8) us (zL.map (inF R)):=Desk.wJ (λv l z=>by obtain⟨p,e,n,z⟩:=z;exact⟨p,e,n,d0.lst (b1 _ _ z)⟩) h3;have u4:ys.length=B.length:=by rw[cJh i4,<- e8.len,h9.d.2.1]
 clear A9 s6 r0 h0 p6 G h3 r9 b1 j2;dsimp only[yW];refine⟨_,Ce,_,AC,_,_,Ce,.lst hm,zG _,_,Ce,onF rfl ?_⟩;refine⟨_,Ce,_,Ce,ds,_,Ce,.inl (Cc h9.d.1),_,Ce,m,_,Ce,Cc hm,λp2 w1=>?_⟩;have b1:=yE w1 (.lst (qC (ys++zs) (some ((B.map V.ref).length:Nat)) none));have e1:qC (ys++zs) (some ((B.map V.ref).length:Nat)) none=zs:=by rw[aWg,cXe,<- u4,List.drop_left]
 refine⟨_,Ce,.ref p2,.ref du,.lst ((zL.map (inF R)).map λl=>jK (.nums l)),Ce,aQA (yB.trans (by rw[e1])) ?_,aQA (b1 _ _ a5) ?_,bQm (λl=>bVo (.nums l)) _,cXJ (aQW (n:=7) (c:=40) (λl hl=>?_) (by rw[cXe];exact cXh _)) (by decide),λa3 s5=>⟨_,Ce,onF rfl ?_⟩⟩
 ·have e2:=zZ (F:=λv a=>uB [] (upd g8 p2 (.lst (qC (ys++zs) (some ((B.map V.ref).length:Nat)) none))) a v) (λv a z=>aJr z) (Desk.wJ (λv a z=>Law.qR z λp u n e=>⟨n,b1 _ _ e⟩) a0);rw[cZS]at e2 ⊢;exact e2
 ·exact zZ (F:=λv l=>aZ6 du (upd g8 p2 (.lst (qC (ys++zs) (some ((B.map V.ref).length:Nat)) none))) v l) (λv l z=>by obtain⟨p,rfl,_,e⟩:=z;exact aJr (a:= .nums l) (o:= []) ⟨p,Ce,(λz=>nomatch z),e⟩) (Desk.wJ (λv l z=>by obtain⟨p,e,n,z⟩:=z;exact⟨p,e,n,b1 _ _ z⟩) g0)
 ·obtain⟨x,hx,rfl⟩:=cX3.mp hl;have:=w4 (.nums (inF R x)) (cXw _ (cX3.mpr ⟨x,hx,rfl⟩));omega
 have kk:=b1.trans s5;have s4:=h9.same kk;have i8:=kk _ _ i2;have f4:=Desk.wJ (λv r (z:xH g8 r v)=>z.same kk.t) d8;have c0:=kk _ _ i6;have b4:=kk _ _ a5;have b6:cXZ (aZ6 du a3) us (zL.map (inF R)):=Desk.wJ (λv l z=>by obtain⟨p,e,n,z⟩:=z;exact⟨p,e,n,kk _ _ z⟩) g0;clear h9 i2 d8 i6 a5 g0 b1 s5 kk i4 a0 hm;refine⟨_,Ce,du,Ce,⟨_,Cc b4⟩,λD4 g6=>?_⟩;have v9:us.length=7:=by rw[b6.length,cXe];rfl
 refine aXf (λ_=>true) (bWh a3) (Cc b4) g6 (zn (by omega)) (λv hv H' R' _ h=>h) (λv hv _ H' R' hH L=>?_) ?_
 ·obtain⟨i,hi,ei⟩:=List.mem_iff_getElem.mp hv;obtain⟨l,_,p,e,n,z⟩:=bYe b6 (x:=v) (by rw[cQ9 hi,ei]);subst e;have e2:bWh a3 (.ref p)= .int ((l.map λi=>V.int (i:Nat)).length:Nat):=aWp z;rw[e2]at L;exact⟨_,Ce,p,_,Ce,.inl (Cc ((hH p (yI z g6)).trans z)),L⟩
 have q0:(us.filter λ_=>true).map (bWh a3)=(zL.map λx=>((inF R x).length:Int)).map V.int:=by
  rw[cJu.mpr λ_ _=>rfl];have:∀ {us:List V} {ls:List (List Nat)},cXZ (aZ6 du a3) us ls->us.map (bWh a3)=ls.map λl=>V.int (l.length:Nat):=by
   intro us ls h;induction h with
   |nil=>rfl
   |@cons a b l₁ l₂ I G ih=>obtain⟨p,rfl,_,z⟩:=I;rw[cXO,cXO,ih];congr 1;rw[aWp z];simp
  rw[this b6,cZS,cZS];rfl
 rw[q0];have b1:=yE g6 (.lst ((zL.map λx=>((inF R x).length:Int)).map V.int));have q6:(zL.map λx=>((inF R x).length:Int)).sum=(here.length:Int):=by
  have:=aJ2 aKq (pl R) here λk hk=>by obtain⟨r,J,_⟩:=b9 k hk;rw[bYh J];exact bQQ _ (j0 r (cXs J))
  rw[<- this];congr 1;refine cJ1 λx _=>?_;rw[d4 x]
 refine⟨D4,_,Ce,Cc yB,_,Ce,D2,_,Ce,.inl (Cc (b1 _ _ c0)),Ce,_,Ce,onF (by rw[q6,cXe];simp) ?_⟩;refine⟨_,Ce,z0,λpn r8=>?_⟩;have b2:=yE r8 (.lst []);have M:=b1.trans b2;refine⟨D2,pn,_,Ce,Ce,Cc (M _ _ c0),Cc yB,_,Ce,?_⟩;have f5:=s4.same M;have f3:=M _ _ i8;have a0:=Desk.wJ (λv r (z:xH a3 r v)=>z.same M.t) f4;have b7:=M _ _ c0;generalize upd (upd a3 D4 (.lst ((zL.map λx=>((inF R x).length:Int)).map V.int))) pn (.lst [])=H12 at f5 f3 a0 b7 ⊢;clear s4 i8 f4 c0 b4 b6 b1 b2 M r8 g6;by_cases m8:here= []
 ·subst m8;exact onT rfl (q _)
 refine onF (by simp[m8]) ?_;have d7:(0:Int)<((here.map λk=>V.int (k:Nat)).length:Nat):=by rw[cXe];have:=cZq.mpr m8;omega
 refine⟨_,Ce,_,Ce,a,ns,0,Ce,f5.s,_,Ce,D2,_,Ce,.inl (Cc b7),_,_,Ce,Ce,d7,?_⟩;refine Law.aY3 rfl rfl (Cc b7) (md0 d7) (md1 d7) λv hv=>?_;obtain⟨i,hi,rfl⟩:=cX3.mp hv;obtain⟨r,n0,t3⟩:=b9 i hi;have q9:=Bk.wW n0;dsimp only[yW];obtain⟨rk,o⟩:=l1.tree;refine⟨_,Ce,_,Ce,ra,rs,R.length,Bk.lk R,rk,Bk.dt R,i,Ce,f5.b.rows,o,by omega,q9,λl3 nl out n6 x7 j3 t6 i9=>?_⟩;have eo:Bk.thr R i=out:=Bk.aZl q9 ⟨rk,o,t6,i9⟩;have o6:=f5.same n6;have i3:=n6 _ _ f3;have i5:=Desk.wJ (λv r (z:xH H12 r v)=>z.same n6.t) a0;have z5:out.length<=25:=by have:=bXY l1.tree (k:=i);rw[eo]at this;omega
 have v3:out.Nodup:=t6.imp λ{x y} h z=>by rw[z,Stree.vY]at h;cases h
 have a7:∀k∈out,∃C,R[k]? =some C/\C.void=false:=λk hk=>by have n5:=((i9 k).mp hk).1;exact⟨_,cQ9 n5,bJ1 l1 n0 t3 (cQ9 n5) (by rw[eo];exact hk)⟩
 clear f5 f3 a0 b7;dsimp only[yW];refine⟨_,Ce,z3,λla o5=>?_⟩;have b1:=yE o5 (.tup [.str BV,.int (i:Nat),.str AT]);have c6:upd l3 la (.tup [.str BV,.int (i:Nat),.str AT]) la=some (.tup (xP (.file (i:Nat) AT))):=yB;have b5:=o6.same b1;have e7:=b1 _ _ i3;have f2:=Desk.wJ (λv r (z:xH l3 r v)=>z.same b1.t) i5;have a1:=b1 _ _ j3;generalize upd l3 la (.tup [.str BV,.int (i:Nat),.str AT])=H14 at c6 b5 e7 f2 a1 ⊢;clear o6 i3 i5 j3 b1 o5;dsimp only[yW];refine⟨_,Ce,_,Ce,z2,λlt v8=>⟨z2,λl2 x0=>?_⟩⟩;have b1:=yE v8 (.tup [.str Ao,.str AT]);have b2:=yE x0 (.lst [.ref la,.ref lt]);refine⟨ds,l2,B.map V.ref,_,Ce,Ce,b2 _ _ (b1 _ _ b5.d.1),yB,by rw[cXe,cXC];show B.length+2<=_;omega,λp3 e6=>?_⟩;have b3:=yE e6 (.lst (B.map V.ref++ [.ref la,.ref lt]));have M:=(b1.trans b2).trans b3;have q4:=W5 (das2:= [la,lt]) (es2:= [.file (i:Nat) AT,.letters AT]) b5.d.2.1 (λi d e I G=>M _ _ (b5.d.2.2 i d e I G)) rfl (λm d e I G=>by
  match m,I,G with
  |0,I,G=>cases I;cases G;exact M _ _ c6
  |1,I,G=>cases I;cases G;exact b3 _ _ (b2 _ _ yB)
  |m+2,I,G=>cases I) (yB (H:=upd (upd H14 lt (.tup [.str Ao,.str AT])) l2 (.lst [.ref la,.ref lt])) (a:=p3) (o:= .lst (B.map V.ref++ [.ref la,.ref lt])))
 have v7:∀e∈es++ [.file (i:Nat) AT,.letters AT],Wf e:=λe he=>by
  rcases cXH.mp he with z|z
  ·exact f0 e z
  ·simp only[cXj,cV5,or_false]at z;rcases z with rfl|rfl<;> exact cZu
 refine⟨p3,B++ [la,lt],es++ [.file (i:Nat) AT,.letters AT],Ce,q4,by simp;omega,v7,(b5.same M).t,λm2 w6 y7 t8 y4 z8 d5 w3 m6 x8 f6 j5=>?_⟩;have f9:xZ R S (.file (i:Nat) AT) (.num (Bk.thr R i).length) (Bk.laid R (Bk.thr R i) AT) S:= .file n0 t3;have o0:Run [] [] (es++ [.file (i:Nat) AT,.letters AT]) (as++ [.num (Bk.thr R i).length,.nums (inF (Bk.laid R (Bk.thr R i) AT) AT)]) (Bk.laid R (Bk.thr R i) AT) S:=by have:=Run.snoc (Run.snoc W f9) (xZ.letters (w:=AT));rw[cZn,cZn]at this;exact this
 obtain⟨rfl,rfl,rfl⟩:=Run.det _ rfl o0 m6;obtain⟨m0,m4,rfl,j4,c4⟩:=bWH j5;have g7:=(b5.same M).sameT d5 w3;have j1:=d5.lst (M _ _ e7);have e0:=Desk.wJ (λv r (z:xH H14 r v)=>(z.same M.t).same d5) f2;have O:=d5.lst (M _ _ a1);have d6:=d5.tup (M _ _ c6);have q3:m0.length=B.length:=by rw[cJh j4,<- W.len,g7.d.2.1]
 clear b5 e7 f2 a1 c6 b1 b2 b3 M q4 j5;have j7:∀k,k∈out↔k∈inF (Bk.laid R (Bk.thr R i) AT) AT:=λk=>by
  unfold inF;rw[cZd,cXI,Bk.wI,Bk.vW,eo];constructor
  ·intro hk;obtain⟨C,J,a4⟩:=a7 k hk;rw[if_pos hk,J];exact⟨Bk.wW J,by show(!C.void && decide ((AT:Str)=AT))=true;rw[a4];simp⟩
  ·rintro⟨hk,h⟩;by_cases hm:k∈out
   ·exact hm
   ·exfalso;rw[if_neg hm,cQ9 hk]at h;have G:R[k].place=AT:=of_decide_eq_true (Bool.and_eq_true_iff.mp h).2;exact bZh (by rw[<- G];exact j0 _ (cZX hk))
 dsimp only[yW];refine⟨_,Ce,_,AC,_,_,Ce,.lst f6,zG _,_,Ce,onF rfl ?_⟩;refine⟨_,Ce,_,Ce,ds,_,Ce,.inl (Cc g7.d.1),_,Ce,m2,_,Ce,Cc f6,λp4 d2=>?_⟩;have b1:=yE d2 (.lst (qC (m0++m4) (some ((B.map V.ref).length:Nat)) none));have e1:qC (m0++m4) (some ((B.map V.ref).length:Nat)) none=m4:=by rw[aWg,cXe,<- q3,List.drop_left]
 refine⟨_,Ce,nl,_,Ce,.inl (Cc (b1 _ _ O)),_,Ce,nl,out.map (λj:Nat=>(j:Int)),Ce,by rw[cZS];exact b1 _ _ O,by rw[cXe];omega,λsl t7 t0 j8 o9=>?_⟩;have b2:=yE t0 (.lst (t7.map V.int));have r6:t7=(inF (Bk.laid R (Bk.thr R i) AT) AT).map λj:Nat=>(j:Int):=bXA j8 o9 v3 ((bJn _).sublist cZ2) j7;refine⟨z2,λl5 f1=>?_⟩;have b3:=yE f1 (.lst [.int ((out.map λi=>V.int (i:Nat)).length:Nat),.ref sl]);have M:=(b1.trans b2).trans b3;have u1:(inF (Bk.laid R (Bk.thr R i) AT) AT).length<=25:=by unfold inF;refine cXJ (cX6 _ _) ?_;rw[cX1,Bk.wI];exact l0
 refine⟨.ref p4,.ref l5,.lst ([.num (Bk.thr R i).length,.nums (inF (Bk.laid R (Bk.thr R i) AT) AT)].map jK),Ce,aQA (b3 _ _ (b2 _ _ (yB.trans (by rw[e1])))) ?_,aQA yB ?_,bQm bVo _,cXJ (aQW (n:=2) (c:=40) (λx hx=>?_) (cXh _)) (by decide),λh8 q1=>⟨_,Ce,onF rfl ?_⟩⟩
 ·exact zZ (F:=λv a=>uB [] _ a v) (λv a z=>aJr z) (Desk.wJ (λv a z=>Law.qR z λp u n e=>⟨n,M _ _ e⟩) c4)
 ·show wF _ [_,_] [jK _,jK _];unfold wF;refine⟨aJr (o:= []) (a:= .num _) (by show V.int _=V.int _;rw[cXe,eo]),?_⟩;unfold wF;refine⟨aJr (o:= []) (a:= .nums _) ⟨sl,Ce,(λz=>nomatch z),b3 _ _ (yB.trans (by rw[r6,cZS];rfl))⟩,?_⟩;unfold wF;trivial
 ·simp only[cXj,cV5,or_false]at hx;rcases hx with rfl|rfl
  ·show Dt.size (.int _)<=40;simp[Dt.size]
  ·rw[J8];omega
 have kk:=M.trans q1;have u5:=g7.same kk;have i7:=kk _ _ j1;have a8:=Desk.wJ (λv r (z:xH w6 r v)=>z.same kk.t) e0;have c5:=kk _ _ O;have m1:=kk _ _ d6;clear g7 j1 e0 O d6 b1 b2 b3 M q1 kk j4 c4 f6 f1 t0 d2;refine⟨_,Ce,d1,_,Ce,.inl (Cc i7),λbh s7=>?_⟩;have b1:=yE s7 (.lst i0);dsimp only[yW];refine⟨_,Ce,nl,Ce,⟨_,Cc (b1 _ _ c5)⟩,?_⟩;refine zV (xs:=out.map λi=>V.int (i:Nat)) (λt σ H=>L2.Ez2 λ(a6:List V)(h7:Option V)=>σ= [some (.ref a),some (.ref ds),some (.ref ra),some (.ref du),some (.ref d1),some (.ref D),some (.ref D2),o7,some (.ref m2),some (.int (i:Nat)),some (.ref nl),some (.ref la),some (.ref bh),h7]/\xJ h8 H/\H bh=some (.lst a6)/\cQN H bh i0 R (out.take t) a6) ?_ ?_ ?_ ?_
 ·refine⟨i0,none,Ce,b1,yB,w9,λm C J=>?_⟩;obtain⟨v,I,_⟩:=bJc a8 J;exact⟨v,I,(λz=>by simp at z),λ_=>I⟩
 ·rintro t σ H ht ⟨a6,h7,rfl,kH,I,G⟩;exact Cc (kH _ _ c5)
 ·rintro t v σ H hv ⟨a6,h7,rfl,kH,I,G,h3⟩;rw[cXu]at hv;cases hx:out[t]? with
  |none=>rw[hx]at hv;cases hv
  |some k=>
   rw[hx]at hv;cases hv;have u8:k∈out:=cXs hx;have et:out.take (t+1)=out.take t++ [k]:=by rw[cZa,hx];rfl
   obtain⟨C,J,a4⟩:=a7 k u8;have n5:=Bk.wW J;obtain⟨pk,g1,g2⟩:=bXS (Desk.wJ (λv r (z:xH h8 r v)=>z.same kH.t) a8) J a4;rw[aWZ a4]at g2;have v6:=kH _ _ i7;dsimp only[yW];refine⟨_,Ce,_,Ce,d1,_,_,_,Ce,Ce,Cc v6,yT g1,_,Ce,pk,_,Ce,Cd g2,(show ¬ (HT.sIx 6 0 none=0/\HT.sIx 6 6 (some 5)=6) by decide),λs1 w7=>?_⟩;have c1:=yE w7 (.tup (qC [.str C.way,.int C.date,.str C.partner,.int C.term,zY C.link,.str C.place] none (some 5)));refine⟨z1,λs2 v1=>?_⟩;have c2:=yE v1 (.tup [.str AT]);refine⟨s1,s2,_,_,Ce,Ce,Cd (c2 _ _ yB),Cd yB,(λz=>nomatch z),(show 5+1<=cXy by rw[cXC];decide),(λz=>nomatch z),λ_ s3 v5=>?_⟩;have c3:=yE v5 (.tup (qC [.str C.way,.int C.date,.str C.partner,.int C.term,zY C.link,.str C.place] none (some 5)++ [.str AT]));have cc:=(c1.trans c2).trans c3;have c7:=yB (H:=upd (upd H s1 (.tup (qC [.str C.way,.int C.date,.str C.partner,.int C.term,zY C.link,.str C.place] none (some 5)))) s2 (.tup [.str AT])) (a:=s3) (o:= .tup (qC [.str C.way,.int C.date,.str C.partner,.int C.term,zY C.link,.str C.place] none (some 5)++ [.str AT]));have e9:=cc _ _ I;generalize upd (upd (upd H s1 (.tup (qC [.str C.way,.int C.date,.str C.partner,.int C.term,zY C.link,.str C.place] none (some 5)))) s2 (.tup [.str AT])) s3 (.tup (qC [.str C.way,.int C.date,.str C.partner,.int C.term,zY C.link,.str C.place] none (some 5)++ [.str AT]))=H' at cc c7 e9 ⊢;have n3:s3≠bh:=λz=>by rw[z,e9]at c7;cases c7
   refine⟨_,Ce,_,Ce,bh,a6,(k:Int),k,Ce,Ce,e9,?_,?_⟩
   ·unfold ixN;rw[if_pos (by omega),if_pos (by omega),cXG]
   ·have q8:h8 bh=none:=s7;refine⟨a6.set k (.ref s3),_,Ce,wB (kH.trans cc) q8,yB,by rw[List.length_set];exact G,λm r2 m9=>?_⟩;rw[et];by_cases n7:m=k
    ·subst n7;rw[J]at m9;cases m9;exact⟨.ref s3,by rw[cJw (by omega)],λ_=>⟨s3,Ce,n3,by rw[yJ n3];exact c7⟩,λz=>absurd (cXw _ cXp) z⟩
    ·obtain⟨v,e1,e2,e3⟩:=h3 m r2 m9;refine⟨v,by rw[cVu (cXT n7)];exact e1,λz=>?_,λz=>e3 λy=>z (cZY _ y)⟩;rcases cXH.mp z with z|z
     ·obtain⟨p,y1,y2,y3⟩:=e2 z;exact⟨p,y1,y2,by rw[yJ y2];exact cc _ _ y3⟩
     ·exact absurd (cXo.mp z) n7
 rintro σ s9 ⟨a6,h7,rfl,o1,I,G,h3⟩;rw[cXe,cX4]at h3;have g9:=u5.same o1;have m7:=o1 _ _ m1;have c4:=Desk.wJ (λv r (z:xH h8 r v)=>z.same o1.t) a8;dsimp only[aWb];refine⟨_,Ce,_,Ce,z1,λl6 u9=>?_⟩;have b2:=yE u9 (.lst [.ref la]);refine⟨ds,l6,B.map V.ref,_,Ce,Ce,b2 _ _ g9.d.1,yB,by rw[cXe,cXC];show B.length+1<=_;omega,λp5 h5=>?_⟩;have b3:=yE h5 (.lst (B.map V.ref++ [.ref la]));have M:=b2.trans b3;have w5:=W5 (das2:= [la]) (es2:= [.file (i:Nat) AT]) g9.d.2.1 (λi d e I G=>M _ _ (g9.d.2.2 i d e I G)) rfl (λm d e I G=>by
  match m,I,G with
  |0,I,G=>cases I;cases G;exact M _ _ m7
  |m+1,I,G=>cases I) (yB (H:=upd s9 l6 (.lst [.ref la])) (a:=p5) (o:= .lst (B.map V.ref++ [.ref la])))
 refine⟨p5,B++ [la],es++ [.file (i:Nat) AT],Ce,w5,by simp;omega,λe he=>?_,(g9.same M).t,λt9 w8 x5 x2 y6 z4 m3 z9 l7 x4 r4 p7=>?_⟩
 ·rcases cXH.mp he with z|z
  ·exact f0 e z
  ·rw[cXo.mp z];exact cZu
 obtain⟨-,rfl, -⟩:=Run.det _ rfl l7 (Run.snoc W f9);have l9:=m3.lst (M _ _ I);have n8:=Desk.wJ (λv r (z:xH s9 r v)=>(z.same M.t).same m3) c4;refine⟨_,Ce,.ref t9,.ref bh,.lst ((Bk.laid R (Bk.thr R i) AT).map uW),Ce,aQA r4 (zZ (F:=λv r=>xH w8 r v) (λv r z=>aQQ z) p7),aQA l9 (aWm (by rw[Bk.wI];exact G) λm v r2 e1 e2=>?_),bQm bZJ _,cXJ (aQW (n:=25) (c:=7) (λr _=>aZk r) (by rw[Bk.wI];exact l0)) (by decide),λw0 _=>q w0⟩;rw[Bk.vW,eo]at e2;have t5:m<R.length:=by rw[<- G];exact(cXn.mp e1).1
 have j6:=cQ9 t5;obtain⟨v',y1,y2,y3⟩:=h3 m _ j6;rw[e1]at y1;cases y1;by_cases f7:m∈out
 ·rw[if_pos f7,j6]at e2;cases e2;obtain⟨p,rfl,_,z⟩:=y2 f7;obtain⟨C,J,a4⟩:=a7 m f7;rw[j6]at J;cases J;have e3:uW {R[m]with place:=AT}= .tup ([.str R[m].way,.int R[m].date,.str R[m].partner,.int R[m].term,zY R[m].link,.str AT].map vDt):=by
   unfold uW;rw[if_neg (by show ¬R[m].void=true;rw[a4];decide),aWZ (r:={R[m]with place:=AT}) a4]
  rw[e3];refine aY0 (m3.tup (M _ _ z)) ?_;cases R[m].link<;> simp[aW8,zY]
 ·rw[if_neg f7]at e2;obtain⟨v2,z1,z2⟩:=bJc n8 e2;rw[y3 f7]at z1;cases z1;exact aQQ z2
end
end Alike
namespace Desk
open PySem L2 PyProof.Rows
section
variable {K:cXc}
abbrev aXA:Stmt:=xQ Ak AF
def aK5:yO [AA,AG] [AA,AG] (yH aXA):=scM
def aKI(F:Fun K AF "Refused.__init__" aXA f fd):xL P w K mg base CX0 (n+1) f fd [AA,AG] (vR K):=by
 have g:=aK5;refine F.ok (k:=n) g (λi A outer s H l Q E j h=>?_);obtain⟨e,C,tp,y,rfl,c,d,q⟩:=h;refine⟨_,(yF (bYi (pv 0) (pv 1) rfl)),?_⟩;exact⟨_,Ce,_,Ce,e,C,tp,Ce,c,d,λb a=>q b a⟩
abbrev aQn:Stmt:=xQ "NoLetter" AF
def aVW:yO [AA] [AA] (yH aQn):=scM
def aVv(a:aW6 P w K mg base n Ak AF [AA,AG] (vR K))(i:jJ K C)(F:Fun K AF "NoLetter.__init__" aQn f fd):xL P w K mg base CX0 (n+1) f fd [AA] (vJ K C "no letter"):=by
 have j:=aVW;refine F.ok (k:=n) j (λl A outer s H m Q E d h=>?_);obtain⟨e,tp,rfl,g,q⟩:=h;refine⟨_,(yF (yZ (qK a d rfl (yA (pv 0) (yA yQ yD))))),?_⟩;exact⟨_,Ce,e,C,tp,_,Ce,g,i,λc b=>q c b⟩
abbrev aZW:Stmt:=xQ "NoTerm" AF
def bXk:yO [AA] [AA] (yH aZW):=scM
def bQu(a:aW6 P w K mg base n Ak AF [AA,AG] (vR K))(i:jJ K C)(F:Fun K AF "NoTerm.__init__" aZW f fd):xL P w K mg base CX0 (n+1) f fd [AA] (vJ K C "no term"):=by
 have j:=bXk;refine F.ok (k:=n) j (λl A outer s H m Q E d h=>?_);obtain⟨e,tp,rfl,g,q⟩:=h;refine⟨_,(yF (yZ (qK a d rfl (yA (pv 0) (yA yQ yD))))),?_⟩;exact⟨_,Ce,e,C,tp,_,Ce,g,i,λc b=>q c b⟩
abbrev aZV:Stmt:=xQ "HasOne" AF
def bXj:yO [AA] [AA] (yH aZV):=scM
def bQt(a:aW6 P w K mg base n Ak AF [AA,AG] (vR K))(i:jJ K C)(F:Fun K AF "HasOne.__init__" aZV f fd):xL P w K mg base CX0 (n+1) f fd [AA] (vJ K C "has one"):=by
 have j:=bXj;refine F.ok (k:=n) j (λl A outer s H m Q E d h=>?_);obtain⟨e,tp,rfl,g,q⟩:=h;refine⟨_,(yF (yZ (qK a d rfl (yA (pv 0) (yA yQ yD))))),?_⟩;exact⟨_,Ce,e,C,tp,_,Ce,g,i,λc b=>q c b⟩
abbrev aXz:Stmt:=xQ "HasNone" AF
def aK4:yO [AA] [AA] (yH aXz):=scM
def aKH(a:aW6 P w K mg base n Ak AF [AA,AG] (vR K))(i:jJ K C)(F:Fun K AF "HasNone.__init__" aXz f fd):xL P w K mg base CX0 (n+1) f fd [AA] (vJ K C "has none"):=by
 have j:=aK4;refine F.ok (k:=n) j (λl A outer s H m Q E d h=>?_);obtain⟨e,tp,rfl,g,q⟩:=h;refine⟨_,(yF (yZ (qK a d rfl (yA (pv 0) (yA yQ yD))))),?_⟩;exact⟨_,Ce,e,C,tp,_,Ce,g,i,λc b=>q c b⟩
abbrev Z3:Stmt:=xQ "OwnThread" AF
def aJP:yO [AA] [AA] (yH Z3):=scM
def aJD(a:aW6 P w K mg base n Ak AF [AA,AG] (vR K))(i:jJ K C)(F:Fun K AF "OwnThread.__init__" Z3 f fd):xL P w K mg base CX0 (n+1) f fd [AA] (vJ K C "own thread"):=by
 have j:=aJP;refine F.ok (k:=n) j (λl A outer s H m Q E d h=>?_);obtain⟨e,tp,rfl,g,q⟩:=h;refine⟨_,(yF (yZ (qK a d rfl (yA (pv 0) (yA yQ yD))))),?_⟩;exact⟨_,Ce,e,C,tp,_,Ce,g,i,λc b=>q c b⟩
abbrev aXB:Stmt:=xQ "SameWay" AF
def aK6:yO [AA] [AA] (yH aXB):=scM
def aKJ(a:aW6 P w K mg base n Ak AF [AA,AG] (vR K))(i:jJ K C)(F:Fun K AF "SameWay.__init__" aXB f fd):xL P w K mg base CX0 (n+1) f fd [AA] (vJ K C "same way"):=by
 have j:=aK6;refine F.ok (k:=n) j (λl A outer s H m Q E d h=>?_);obtain⟨e,tp,rfl,g,q⟩:=h;refine⟨_,(yF (yZ (qK a d rfl (yA (pv 0) (yA yQ yD))))),?_⟩;exact⟨_,Ce,e,C,tp,_,Ce,g,i,λc b=>q c b⟩
abbrev uV:Stmt:=xQ "OtherPartner" AF
def aXJ:yO [AA] [AA] (yH uV):=scM
def aXk(a:aW6 P w K mg base n Ak AF [AA,AG] (vR K))(i:jJ K C)(F:Fun K AF "OtherPartner.__init__" uV f fd):xL P w K mg base CX0 (n+1) f fd [AA] (vJ K C "other partner"):=by
 have j:=aXJ;refine F.ok (k:=n) j (λl A outer s H m Q E d h=>?_);obtain⟨e,tp,rfl,g,q⟩:=h;refine⟨_,(yF (yZ (qK a d rfl (yA (pv 0) (yA yQ yD))))),?_⟩;exact⟨_,Ce,e,C,tp,_,Ce,g,i,λc b=>q c b⟩
abbrev aQo:Stmt:=xQ "TooEarly" AF
def aVX:yO [AA] [AA] (yH aQo):=scM
def aVw(a:aW6 P w K mg base n Ak AF [AA,AG] (vR K))(i:jJ K C)(F:Fun K AF "TooEarly.__init__" aQo f fd):xL P w K mg base CX0 (n+1) f fd [AA] (vJ K C "too early"):=by
 have j:=aVX;refine F.ok (k:=n) j (λl A outer s H m Q E d h=>?_);obtain⟨e,tp,rfl,g,q⟩:=h;refine⟨_,(yF (yZ (qK a d rfl (yA (pv 0) (yA yQ yD))))),?_⟩;exact⟨_,Ce,e,C,tp,_,Ce,g,i,λc b=>q c b⟩
abbrev aZU:Stmt:=xQ "Copied" AF
def bXi:yO [AA] [AA] (yH aZU):=scM
def bQs(a:aW6 P w K mg base n Ak AF [AA,AG] (vR K))(i:jJ K C)(F:Fun K AF "Copied.__init__" aZU f fd):xL P w K mg base CX0 (n+1) f fd [AA] (vJ K C CW):=by
 have j:=bXi;refine F.ok (k:=n) j (λl A outer s H m Q E d h=>?_);obtain⟨e,tp,rfl,g,q⟩:=h;refine⟨_,(yF (yZ (qK a d rfl (yA (pv 0) (yA yQ yD))))),?_⟩;exact⟨_,Ce,e,C,tp,_,Ce,g,i,λc b=>q c b⟩
abbrev aQm:Stmt:=xQ "Answered" AF
def aVV:yO [AA] [AA] (yH aQm):=scM
def aVu(a:aW6 P w K mg base n Ak AF [AA,AG] (vR K))(i:jJ K C)(F:Fun K AF "Answered.__init__" aQm f fd):xL P w K mg base CX0 (n+1) f fd [AA] (vJ K C B4):=by
 have j:=aVV;refine F.ok (k:=n) j (λl A outer s H m Q E d h=>?_);obtain⟨e,tp,rfl,g,q⟩:=h;refine⟨_,(yF (yZ (qK a d rfl (yA (pv 0) (yA yQ yD))))),?_⟩;exact⟨_,Ce,e,C,tp,_,Ce,g,i,λc b=>q c b⟩
abbrev Z2:Stmt:=xQ "CountsNot" AF
def aJO:yO [AA] [AA] (yH Z2):=scM
def aJC(a:aW6 P w K mg base n Ak AF [AA,AG] (vR K))(i:jJ K C)(F:Fun K AF "CountsNot.__init__" Z2 f fd):xL P w K mg base CX0 (n+1) f fd [AA] (vJ K C "counts not"):=by
 have j:=aJO;refine F.ok (k:=n) j (λl A outer s H m Q E d h=>?_);obtain⟨e,tp,rfl,g,q⟩:=h;refine⟨_,(yF (yZ (qK a d rfl (yA (pv 0) (yA yQ yD))))),?_⟩;exact⟨_,Ce,e,C,tp,_,Ce,g,i,λc b=>q c b⟩
end
end Desk
namespace End4
open PySem L2 PyProof.Rows
section
variable {K:cXc}{x m qual t:Str}{st:Stmt}{f C R CB CL:Nat}{oc:cXb}{od an:Option Nat}{osl:Array (Option cXb)}{kV doc pm cdv ct:cXb}
structure uZ(K:cXc)(x:Str)(st:Stmt)(f:Nat):Prop where
 ns:cX9 K cXK x=some (some (.ref f))
 ex:∃fd,Fun K x x st f fd
def Def(K:cXc)(x:Str)(st:Stmt):Prop:=∃f,uZ K x st f
def zB(a:cX9 K cXK x=some (some (.ref f)))(l:K.lookup f=some ⟨oc,od,.func (cZf x x (zE st) (xW st) (yH st) .none kV doc pm an cdv ct),osl⟩)
  (c:cZ0 K cdv x=true) (k:cX7 K (.ref f)=true):uZ K x st f:=⟨a,_,aX6 l c k⟩
def xT(a:cX9 K cXK x=some (some (.ref f)))(l:K.lookup f=some ⟨oc,od,.func (cZf x x (zE st) (xW st) (yH st) .none kV doc pm an cdv ct),osl⟩)
  (c:cZ0 K cdv x=true) (k:cX7 K (.ref f)=true):Def K x st:=⟨f,zB a l c k⟩
structure Mtd(K:cXc)(C:Nat)(m qual:Str)(st:Stmt):Prop where
 ex:∃f fd,bKw K C m f/\Fun K m qual st f fd
def zM(a:cXX K (.ref C) m=some (some (.ref f)))(i:cJX K (.ref f)=true)(l:K.lookup f=some ⟨oc,od,.func (cZf m qual (zE st) (xW st) (yH st) .none kV doc pm an cdv ct),osl⟩)
  (c:cZ0 K cdv qual=true) (k:cX7 K (.ref f)=true):Mtd K C m qual st:=⟨f,_,⟨a,i,k⟩,aX6 l c k⟩
structure MkD(K:cXc)(x:Str)(C:Nat)(qual:Str)(st:Stmt):Prop where
 ns:cX9 K cXK x=some (some (.ref C))
 ex:∃f fd,Mk K C f/\Fun K "__init__" qual st f fd
def bVn(a:cX9 K cXK x=some (some (.ref C)))(mk:PySem.W.makesIn K C=true)(b:cX7 K (.ref C)=true)(d:cXX K (.ref C) "__init__"=some (some (.ref f)))(i:cJX K (.ref f)=true) (l:K.lookup f=some ⟨oc,od,.func (cZf "__init__" qual (zE st) (xW st) (yH st) .none kV doc pm an cdv ct),osl⟩) (c:cZ0 K cdv qual=true) (k:cX7 K (.ref f)=true):MkD K x C qual st:=
 ⟨a,f,_,⟨mk,d,i,b⟩,aX6 l c k⟩
structure Exc(K:cXc)(R:Nat)(x qual:Str)(st:Stmt):Prop where
 ex:∃C f fd,cX9 K cXK x=some (some (.ref C))/\jJ K C/\cVz K C (.ref R)=some true/\cXX K (.ref C) "__init__"=some (some (.ref f))/\cJX K (.ref f)=true/\cX7 K (.ref C)=true/\Fun K "__init__" qual st f fd
def qG(a:cX9 K cXK x=some (some (.ref C)))(e:bZm K C=true)(b:cVz K C (.ref R)=some true)(d:cX7 K (.ref C)=true)(g:cXX K (.ref C) "__init__"=some (some (.ref f)))(i:cJX K (.ref f)=true) (l:K.lookup f=some ⟨oc,od,.func (cZf "__init__" qual (zE st) (xW st) (yH st) .none kV doc pm an cdv ct),osl⟩) (c:cZ0 K cdv qual=true) (k:cX7 K (.ref f)=true):Exc K R x qual st:=
 ⟨C,f,_,a,aYS e,b,g,i,d,aX6 l c k⟩
structure bY4(K:cXc)(x:Str)(R:Nat)(qual:Str)(st:Stmt):Prop where
 ns:cX9 K cXK x=some (some (.ref R))
 cl:jJ K R
 ex:∃f fd,PySem.W.readsIn K R (.type "type")=true/\PySem.W.findCls K (.ref R) (.type "type") "__init__"=some (.val (.ref f))/\cVU K (.ref R) "__getattribute__"=some (some (.builtin "type.__getattribute__"))/\Fun K "__init__" qual st f fd
def bWO(a:cX9 K cXK x=some (some (.ref R)))(e:bZm K R=true)(rd:PySem.W.readsIn K R (.type "type")=true)(b:PySem.W.findCls K (.ref R) (.type "type") "__init__"=some (.val (.ref f))) (sp:cVU K (.ref R) "__getattribute__"=some (some (.builtin "type.__getattribute__"))) (l:K.lookup f=some ⟨oc,od,.func (cZf "__init__" qual (zE st) (xW st) (yH st) .none kV doc pm an cdv ct),osl⟩) (c:cZ0 K cdv qual=true) (k:cX7 K (.ref f)=true):bY4 K x R qual st:=
 ⟨a,aYS e,f,_,rd,b,sp,aX6 l c k⟩
def bY8(b1:cJY K CB Str.empty=true)(p:cVd K CB=true)(l:cVT K CB=true)(i:cXX K (.ref CB) "__setattr__"=some (some (.builtin "object.__setattr__")))
  (d:cJY K CL Str.empty=true) (j:cVd K CL=true) (n:cVT K CL=true) (e:cXX K (.ref CL) "__setattr__"=some (some (.builtin "object.__setattr__")))
  (f:cXX K (.ref CB) "letters"=some none) (k:cXX K (.ref CB) "shut"=some none)
  (g:cXX K (.ref CL) "number"=some none) (h:cXX K (.ref CL) "way"=some none) (q:cXX K (.ref CL) "day"=some none) (m:cXX K (.ref CL) "partner"=some none)
  (o:cXX K (.ref CL) "term"=some none) (r:cXX K (.ref CL) "link"=some none) (c:cXX K (.ref CL) "file"=some none) (a:cXX K (.ref CL) "copies"=some none) (b:cXX K (.ref CL) "void"=some none):
  Desk.Cl K CB CL:=⟨⟨b1,p,l,i⟩,⟨d,j,n,e⟩,f,k,g,h,q,m,o,r,c,a,b⟩
end
section
variable {P:cXB}{w:cXN}{K:cXc}{h:Heap}{mg:Str->Option cXb}{base:Heap}{x m qual t:Str}{st:Stmt}{f C R:Nat}{k:Nat}{ps:List Str}{sp:Sp}{CX:CXT}
def jY(x qual:Str)(st:Stmt)(ps:List Str):Prop:=∀ (kV doc pm:cXb)(an:Option Nat)(cdv ct:cXb)(a:List cXb),a.length=ps.length->cJI (cZf x qual (zE st) (xW st) (yH st) .none kV doc pm an cdv ct) ⟨a,[]⟩=pure (ps.zip a)
def aQP{a:cJc}(F:Fun K x qual st f a):cX7 K (.ref f)=true:=F.2
def gOf(P:cXB)(w:cXN)(base:Heap)(k:Nat)(X:K.In h)(G:h.Ns cXK mg)(D:Def K x st)(b:jY x x st ps)(ok:∀f c,Fun K x x st f c->xL P w K mg base CX0 k f c ps sp):FnG P w K mg base k x ps sp:=by
 obtain⟨f,a,c,F⟩:=D;exact⟨f,c,ok f c F,F.binds b,aQP F,cZ9 X G a⟩
def xOf(P:cXB)(w:cXN)(base:Heap)(k:Nat)(X:K.In h)(G:h.Ns cXK mg)(D:Def K x st)(b:jY x x st ps)(ok:∀f c,Fun K x x st f c->xL P w K mg base (CXR P w) k f c ps sp):FnX P w K mg base k x ps sp:=by
 obtain⟨f,a,c,F⟩:=D;exact⟨f,c,ok f c F,F.binds b,aQP F,cZ9 X G a⟩
structure DoG(P:cXB)(w:cXN)(K:cXc)(mg:Str->Option cXb)(base:Heap)(k:Nat)(f:Nat)(ps:List Str)(sp:Sp):Prop where
 ex:∃fd,xL P w K mg base (CXR P w) k f fd ps sp/\uY K fd ps []/\cX7 K (.ref f)=true
def dOf(mg:Str->Option cXb)(P:cXB)(w:cXN)(base:Heap)(k:Nat)(D:uZ K x st f)(b:jY x x st ps)(ok:∀f c,Fun K x x st f c->xL P w K mg base (CXR P w) k f c ps sp):DoG P w K mg base k f ps sp:=by
 obtain⟨a,c,F⟩:=D;exact⟨c,ok f c F,F.binds b,aQP F⟩
def mOf(mg:Str->Option cXb)(P:cXB)(w:cXN)(base:Heap)(k:Nat)(c:Cls K C)(D:Mtd K C m qual st)(b:jY m qual st ps)(ok:∀f a,Fun K m qual st f a->xL P w K mg base CX0 k f a ps sp):MG P w K mg base CX0 k C m ps sp:=by
 obtain⟨f,a,M,F⟩:=D.ex;exact⟨⟨f,a,ok f a F,F.binds b,M⟩,c⟩
def aVs(mg:Str->Option cXb)(P:cXB)(w:cXN)(base:Heap)(k:Nat)(c:Cls K C)(D:Mtd K C m qual st)(b:jY m qual st ps)(ok:∀f a,Fun K m qual st f a->xL P w K mg base (CXR P w) k f a ps sp):MG P w K mg base (CXR P w) k C m ps sp:=by
 obtain⟨f,a,M,F⟩:=D.ex;exact⟨⟨f,a,ok f a F,F.binds b,M⟩,c⟩
def kOf(P:cXB)(w:cXN)(base:Heap)(k:Nat)(X:K.In h)(G:h.Ns cXK mg)(D:MkD K x C qual st)(b:jY "__init__" qual st ps)(ok:∀f a,Fun K "__init__" qual st f a->xL P w K mg base CX0 k f a ps sp):MkG P w K mg base k x C ps sp:=by
 obtain⟨f,a,M,F⟩:=D.ex;exact⟨⟨f,a,ok f a F,F.binds b,M,cZ9 X G D.ns⟩⟩
def eOf(P:cXB)(w:cXN)(base:Heap)(k:Nat)(t:Str)(X:K.In h)(G:h.Ns cXK mg)(D:Exc K R x qual st)(b:jY "__init__" qual st ["self"])(ok:∀C f c,jJ K C->Fun K "__init__" qual st f c->xL P w K mg base CX0 k f c ["self"] (vJ K C t)):∃C,ExG P w K mg base k x R C t:=by
 obtain⟨C,f,c,a,e,g,d,i,j,F⟩:=D.ex;exact⟨C,⟨f,c,ok C f c e F,F.binds b,d,i,j,cZ9 X G a⟩,e,g⟩
def rOf(P:cXB)(w:cXN)(base:Heap)(k:Nat)(X:K.In h)(G:h.Ns cXK mg)(D:bY4 K x R qual st)(b:jY "__init__" qual st ps)(ok:∀f a,Fun K "__init__" qual st f a->xL P w K mg base CX0 k f a ps sp):aW6 P w K mg base k x "__init__" ps sp:=by
 obtain⟨f,a,rd,c,s,F⟩:=D.ex;exact⟨⟨R,f,a,ok f a F,F.binds b,rd,c,s,aQP F,cZ9 X G D.ns⟩⟩
end
def Pr(w:cXN):List DictEntry->List (Str×Nat)->Prop
 |[],[]=>True
 |e::es,(x,f)::r=>(∃t,e.key= .str x t)/\e.hash=hashStr w x/\e.val= .ref f/\Pr w es r
 |_,_=>False
abbrev bVk(r:List (Str×Nat)):List (Key×cXb):=r.map λp=>(Sum.inr p.1,.ref p.2)
theorem aWC{P:cXB}{w:cXN}:∀ {a:List DictEntry} {r:List (Str×Nat)},Pr w a r->Pairs (zS P w) a (bVk r)
 |[],[],_=> .nil
 |e::a,(x,f)::r,⟨⟨t,h1⟩,h2,h3,h4⟩=> .cons (by rw[h1];exact X8 P w x t) h3 (aWC h4)
 |[],_::_,h=>nomatch h
 |_::_,[],h=>nomatch h
theorem bQS{P:cXB}{w:cXN}:∀ {a:List DictEntry} {r:List (Str×Nat)},Pr w a r->∀e∈a,∃k,(zS P w).is k e.key=true/\e.hash=(zS P w).hash k
 |[],_,_,e,he=>nomatch he
 |e::a,(x,f)::r,⟨⟨t,h1⟩,h2,h3,h4⟩,e',he=>by
  rcases cXj.mp he with rfl|z
  ·exact⟨Sum.inr x,by rw[h1];exact X8 P w x t,h2⟩
  ·exact bQS h4 e' z
 |_::_,[],h,_,_=>nomatch h
def bKs{P:cXB}{w:cXN}{K:cXc}{D:Nat}{c:Array DictEntry}{f:Nat}{r:List (Str×Nat)}(l:K.lookup D=some ⟨.type "dict",none,.dict c f, #[]⟩)(p:Pr w c.toList r)(h:(r.map (·.1)).Nodup):Desk.bY6 P w K D (bVk r):=by
 refine⟨⟨_,c,f,l,⟨rfl,rfl,rfl⟩,rfl,λe g=>bQS p e (Array.mem_toList_iff.mpr g),aWC p,?_⟩⟩;have e:(bVk r).map (·.1)=(r.map (·.1)).map Sum.inr:=by simp[bVk,Function.comp_def]
 rw[e];exact List.Pairwise.map _ (λa b d z=>d (Sum.inr.inj z)) h
theorem qA:∀ {r:List (Str×Nat)} {x:Str} {f:Nat},(r.map (·.1)).Nodup->∀i:Nat,r[i]? =some (x,f)->cVG (bVk r) (Sum.inr x:Key)=some (.ref f)
 |[],_,_,_,_,h=>by simp at h
 |(y,g)::r,x,f,nd,0,h=>by cases h;simp[cVG,bVk]
 |(y,g)::r,x,f,nd,i+1,h=>by
  have c:r[i]? =some (x,f):=by simpa using h
  have a:=cZ4.mp nd;have d:¬ ((Sum.inr y:Key)=Sum.inr x):=λz=>a.1 (by
   rw[Sum.inr.inj z];exact cX3.mpr ⟨(x,f),cXs c,rfl⟩)
  have b:=qA a.2 i c;unfold cVG at b ⊢;simp only[bVk,cXO,cJD,decide_eq_false d]at b ⊢;exact b
end End4
namespace L2
open PySem
section
variable {P:cXB}{w:cXN}{K:cXc}{mg:Str->Option cXb}{base:Heap}{j k:Nat}{x t:Str}{ps:List Str}{sp:Sp}{C Rf:Nat}{CX:CXT}
def FnG.up(G:FnG P w K mg base j x ps sp)(h:j<=k:=by decide):FnG P w K mg base k x ps sp:=G.mono h
def FnX.up(G:FnX P w K mg base j x ps sp)(h:j<=k:=by decide):FnX P w K mg base k x ps sp:=G.mono h
def MG.up(G:MG P w K mg base CX j C x ps sp)(h:j<=k:=by decide):MG P w K mg base CX k C x ps sp:=G.mono h
def MkG.up(G:MkG P w K mg base j x C ps sp)(h:j<=k:=by decide):MkG P w K mg base k x C ps sp:=G.mono h
def ExG.up(G:ExG P w K mg base j x Rf C t)(h:j<=k:=by decide):ExG P w K mg base k x Rf C t:=G.mono h
end
end L2
namespace End4
open PySem L2 PyProof.Rows
def bd0{x qual:Str}{st:Stmt}(h:∀ (kV doc pm:cXb)(an:Option Nat)(cdv ct:cXb),cJI (cZf x qual (zE st) (xW st) (yH st) .none kV doc pm an cdv ct) ⟨[],[]⟩=pure []):jY x qual st []:=by
 intro kV doc pm an cdv ct a l;rcases a with _|⟨_,_⟩<;> first|(cases l;done)|exact h _ _ _ _ _ _
def bd1{x qual:Str}{st:Stmt}{a:Str}(h:∀ (kV doc pm:cXb)(an:Option Nat)(cdv ct b:cXb),cJI (cZf x qual (zE st) (xW st) (yH st) .none kV doc pm an cdv ct) ⟨[b],[]⟩=pure (cVK [a] [b])):jY x qual st [a]:=by
 intro kV doc pm an cdv ct c l;rcases c with _|⟨_,_|⟨_,_⟩⟩<;> first|(cases l;done)|exact h _ _ _ _ _ _ _
def bd2{x qual:Str}{st:Stmt}{a c:Str}(h:∀ (kV doc pm:cXb)(an:Option Nat)(cdv ct b d:cXb),cJI (cZf x qual (zE st) (xW st) (yH st) .none kV doc pm an cdv ct) ⟨[b,d],[]⟩=pure (cVK [a,c] [b,d])):jY x qual st [a,c]:=by
 intro kV doc pm an cdv ct e l;rcases e with _|⟨_,_|⟨_,_|⟨_,_⟩⟩⟩<;> first|(cases l;done)|exact h _ _ _ _ _ _ _ _
def bd3{x qual:Str}{st:Stmt}{b d c:Str}(h:∀ (kV doc pm:cXb)(an:Option Nat)(cdv ct f e a:cXb),cJI (cZf x qual (zE st) (xW st) (yH st) .none kV doc pm an cdv ct) ⟨[f,e,a],[]⟩=pure (cVK [b,d,c] [f,e,a])):jY x qual st [b,d,c]:=by
 intro kV doc pm an cdv ct g l;rcases g with _|⟨_,_|⟨_,_|⟨_,_|⟨_,_⟩⟩⟩⟩<;> first|(cases l;done)|exact h _ _ _ _ _ _ _ _ _
def bd4{x qual:Str}{st:Stmt}{b f e c:Str}(h:∀ (kV doc pm:cXb)(an:Option Nat)(cdv ct i g a d:cXb),cJI (cZf x qual (zE st) (xW st) (yH st) .none kV doc pm an cdv ct) ⟨[i,g,a,d],[]⟩=pure (cVK [b,f,e,c] [i,g,a,d])):jY x qual st [b,f,e,c]:=by
 intro kV doc pm an cdv ct j l;rcases j with _|⟨_,_|⟨_,_|⟨_,_|⟨_,_|⟨_,_⟩⟩⟩⟩⟩<;> first|(cases l;done)|exact h _ _ _ _ _ _ _ _ _ _
def bd5{x qual:Str}{st:Stmt}{b i g c e:Str}(h:∀ (kV doc pm:cXb)(an:Option Nat)(cdv ct k j a d f:cXb),cJI (cZf x qual (zE st) (xW st) (yH st) .none kV doc pm an cdv ct) ⟨[k,j,a,d,f],[]⟩=pure (cVK [b,i,g,c,e] [k,j,a,d,f])):jY x qual st [b,i,g,c,e]:=by
 intro kV doc pm an cdv ct m l;rcases m with _|⟨_,_|⟨_,_|⟨_,_|⟨_,_|⟨_,_|⟨_,_⟩⟩⟩⟩⟩⟩<;> first|(cases l;done)|exact h _ _ _ _ _ _ _ _ _ _ _
def bd6{x qual:Str}{st:Stmt}{c k j d g n:Str}(h:∀ (kV doc pm:cXb)(an:Option Nat)(cdv ct b m a e i f:cXb),cJI (cZf x qual (zE st) (xW st) (yH st) .none kV doc pm an cdv ct) ⟨[b,m,a,e,i,f],[]⟩=pure (cVK [c,k,j,d,g,n] [b,m,a,e,i,f])):jY x qual st [c,k,j,d,g,n]:=by
 intro kV doc pm an cdv ct o l;rcases o with _|⟨_,_|⟨_,_|⟨_,_|⟨_,_|⟨_,_|⟨_,_|⟨_,_⟩⟩⟩⟩⟩⟩⟩<;> first|(cases l;done)|exact h _ _ _ _ _ _ _ _ _ _ _ _
def bd7{x qual:Str}{st:Stmt}{d n m e j p c:Str}(h:∀ (kV doc pm:cXb)(an:Option Nat)(cdv ct b o a f k i g:cXb),cJI (cZf x qual (zE st) (xW st) (yH st) .none kV doc pm an cdv ct) ⟨[b,o,a,f,k,i,g],[]⟩=pure (cVK [d,n,m,e,j,p,c] [b,o,a,f,k,i,g])):jY x qual st [d,n,m,e,j,p,c]:=by
 intro kV doc pm an cdv ct q l;rcases q with _|⟨_,_|⟨_,_|⟨_,_|⟨_,_|⟨_,_|⟨_,_|⟨_,_|⟨_,_⟩⟩⟩⟩⟩⟩⟩⟩<;> first|(cases l;done)|exact h _ _ _ _ _ _ _ _ _ _ _ _ _
def bdA{x qual:Str}{st:Stmt}{ps:List Str}(h:jY x qual st ps:=by
  first|refine bd0 λa b c d e f=>?_|refine bd1 λa b c d e f g=>?_|refine bd2 λa b c d e f g i=>?_|refine bd3 λa b c d e f g i j=>?_|refine bd4 λa b c d e f g i j k=>?_|refine bd5 λa b c d e f g i j k l=>?_|refine bd6 λa b c d e f g i j k l m=>?_|refine bd7 λa b c d e f g i j k l m n=>?_
  kernel_rfl):jY x qual st ps:=h
end End4
namespace End4
open PySem L2 PyProof.Rows
set_option maxHeartbeats 0 in
def all_mk{l:PySem.W.OpenLaw}{w:cXN}{K:cXc}{h:Heap}{mg:Str->Option cXb}{fa R L CL cA J fA fL DD i y A x H I D B E z u r q j k p:Nat}{f4 h2:Option Nat}{b8:Array (Option cXb)}{j5 h4 f1 k2 e2:cXb}{b2:Array DictEntry}{e7:Nat}{tW tO:Tok} (X:K.In h) (G:h.Ns cXK mg) (h3:mg "law"=some (.ref fa)) (d60:bY4 K "Refused" R "Refused.__init__" Desk.aXA) (d61:Exc K R "NoLetter" "NoLetter.__init__" Desk.aQn) (d62:Exc K R "NoTerm" "NoTerm.__init__" Desk.aZW) (d63:Exc K R "HasOne" "HasOne.__init__" Desk.aZV) (d64:Exc K R "HasNone" "HasNone.__init__" Desk.aXz) (d65:Exc K R "OwnThread" "OwnThread.__init__" Desk.Z3) (d66:Exc K R "SameWay" "SameWay.__init__" Desk.aXB) (d67:Exc K R "OtherPartner" "OtherPartner.__init__" Desk.uV) (d68:Exc K R "TooEarly" "TooEarly.__init__" Desk.aQo) (d69:Exc K R "Copied" "Copied.__init__" Desk.aZU) (d70:Exc K R "Answered" "Answered.__init__" Desk.aQm) (d71:Exc K R "CountsNot" "CountsNot.__init__" Desk.Z2) (d9:MkD K "Letter" CL "Letter.__init__" Desk.bQ8) (d24:MkD K "Book" L "Book.__init__" Desk.bQ1) (cl:Desk.Cl K L CL) (d10:Mtd K CL "state" "Letter.state" Desk.bXd) (d11:Mtd K CL "is_answered_by" "Letter.is_answered_by" Desk.bQ0) (d12:Mtd K CL "has_gone_to" "Letter.has_gone_to" Desk.bWR) (d13:Mtd K CL "make_void" "Letter.make_void" Desk.bW1) (d15:Mtd K L "letter_at" "Book.letter_at" Desk.aXw) (d16:Mtd K L "answers_to" "Book.answers_to" Desk.aWG) (d17:Mtd K L "copies_of" "Book.copies_of" Desk.aXv) (d18:Mtd K L "state_of" "Book.state_of" Desk.aZS) (d19:Mtd K L "letters_in" "Book.letters_in" Desk.Y1) (d20:Mtd K L "answered_by" "Book.answered_by" Desk.aXu) (d21:Mtd K L "waiting_pairs" "Book.waiting_pairs" Desk.bXa) (d22:Mtd K L "waiting" "Book.waiting" Desk.aQV) (d23:Mtd K L "overdue" "Book.overdue" Desk.aQU) (d25:Mtd K L "add_letter" "Book.add_letter" Desk.cQj) (d28:Mtd K L "enter" "Book.enter" Desk.bQ7) (d29:Mtd K L "reply" "Book.reply" Desk.bXc) (d30:Mtd K L "loosen" "Book.loosen" Desk.aVS) (d31:Mtd K L "put_term" "Book.put_term" Desk.aZQ) (d32:Mtd K L "send_copy" "Book.send_copy" Desk.bWZ) (d33:Mtd K L "cancel" "Book.cancel" Desk.aVO) (d34:Mtd K L "shut_day" "Book.shut_day" Desk.bW0) (d35:Mtd K L "put_day" "Book.put_day" Desk.aVT) (d36:Mtd K L "thread_of" "Book.thread_of" Desk.Q1) (d37:Mtd K L "lay_thread" "Book.lay_thread" Desk.cQo) (d38:Mtd K L "check_hanging" "Book.check_hanging" Desk.bQ2) (d39:Mtd K L "hang" "Book.hang" Desk.bWT) (d58:Mtd K L "standing_states" "Book.standing_states" Desk.aZT) (d1:Def K "open_by_rest" Days.bWX) (d2:Def K "place_of" Days.bXb) (d3:Def K "counts" Days.aVP) (d4:Def K "closed_days" Days.aZL) (d5:Def K "day_at" Days.bQ4) (d6:Def K "due_day" Days.cQl) (d7:Def K "top_of" Thr.bXg) (d8:Def K "thread" Thr.aVU) (d14:Def K "other_way" Desk.bQ9) (d26:Def K "check_term" Desk.bXe) (d27:Def K "check_days" Desk.bQ5) (d56:Def K "answer" Desk.aVM) (d57:Def K "answers" Desk.aQS) (d59:Def K "standing" Desk.aXx) (d72:Def K "_law_good" Law.bWS) (d73:Def K "_law_kids_of" Law.bJr) (d74:Def K "_law_waits_on" Law.aWI) (d75:Def K "_law_due_by" Law.bQ6) (d76:Def K "_law_list_on" Law.aZP) (d77:Def K "_law_family" Law.aZN) (d78:Def K "_law_lost" Law.bWW) (d79:Def K "_law_dated" Law.bQ3) (d80:Def K "_law_hung" Law.bWU) (d81:Def K "_law_entered" Law.aZM) (d82:Def K "_law_with_one" Law.bW2) (d83:Def K "_law_told_of" Law.bXf) (d84:Def K "_law_done_by" Law.bWQ) (d85:Def K "_law_hanging" Law.aQT) (d86:Def K "_law_about" Law.aWF) (d87:Def K "_law_deed_at" Law.aVQ) (d88:Def K "_law_story" Law.aWH) (d89:Def K "_law_whole" Alike.bXh) (d90:Def K "_law_room" Alike.bWY) (d91:Def K "_law_alike" Alike.bQZ) (d92:Def K "_law_at" Alike.sAt) (d93:Def K "_law_unturned" Alike.aXy) (d94:Def K "_law_book_of" Alike.aVN) (d95:Def K "_law_standing_of" Alike.aZR) (d96:Def K "_law_folders" Alike.aZO) (d40:uZ K "do_enter" Desk.aQp i) (d41:uZ K "do_reply" Desk.aQr y) (d42:uZ K "do_hang" Desk.aXF A) (d43:uZ K "do_loose" Desk.aQq x) (d44:uZ K "do_date" Desk.aXD H) (d45:uZ K "do_term" Desk.aXH I) (d46:uZ K "do_copy" Desk.aXC D) (d47:uZ K "do_file" Desk.aXE B) (d48:uZ K "do_void" Desk.aXI E) (d49:uZ K "do_shut" Desk.aXG z) (d50:uZ K "ask_state" Desk.Z4 u) (d51:uZ K "ask_thread" Desk.qM r) (d52:uZ K "ask_copies" Desk.qL q) (d53:uZ K "ask_letters" Desk.jR j) (d54:uZ K "ask_waiting" Desk.jT k) (d55:uZ K "ask_overdue" Desk.jS p) (dL:uZ K "law" Alike.bWV fL) (aA:cX9 K cXK "answers_to_each"=some (some (.ref fA))) (lA:K.lookup fA=some ⟨j5,f4,.func (cZf "answers_to_each" "answers_to_each" (zE Thr.aVL) (xW Thr.aVL) (yH Thr.aVL) .none h4 f1 k2 h2 (.ref cA) e2),b8⟩) (cA1:cZ0 K (.ref cA) "answers_to_each"=true) (kA:cX7 K (.ref fA)=true) (nD:cX9 K cXK "DEEDS"=some (some (.ref DD))) (lD:K.lookup DD=some ⟨.type "dict",none,.dict b2 e7, #[]⟩) (pD:Pr w b2.toList [("in",i),("out",i),("reply",y),("hang",A),("loose",x),("date",H),("term",I),("copy",D),("file",B),("void",E),("shut",z),("state",u),("thread",r),("copies",q),("letters",j),("waiting",k),("overdue",p)]) (z_len:cX9 K cXK "len"=some none) (z_min:cX9 K cXK "min"=some none) (z_sum:cX9 K cXK "sum"=some none) (z_sorted:cX9 K cXK "sorted"=some none) (z_isinstance:cX9 K cXK "isinstance"=some none) (z_int:cX9 K cXK "int"=some none) (z_str:cX9 K cXK "str"=some none) (z_bool:cX9 K cXK "bool"=some none) (z_list:cX9 K cXK "list"=some none) (z_tuple:cX9 K cXK "tuple"=some none) (z_set:cX9 K cXK "set"=some none) (z_range:cX9 K cXK "range"=some none) (z_reversed:cX9 K cXK "reversed"=some none) (z_max:cX9 K cXK "max"=some none) (y_week:cX9 K cXK "WEEK"=some (some (.int 7 tW))) (y_open:cX9 K cXK "OPEN_DAYS"=some (some (.int 5 tO))) (tb:cV6 K cA J=true) (tn:K.lookup J=none) :∃ (g:cJc)(c:Nat),cV6 K c J=true/\K.lookup J=none/\(∀ (s:cXd)(v:cXb),BindsTo s g ⟨[v],[]⟩ [("_law_script",v)])/\∀base:Heap,K.In base->base.Ns cXK mg->cJi base c J->base.BuiltinsAt mg J->xL l.prog w K mg base CX0 11 fa g ["_law_script"] (Alike.bJS J K):=by
 obtain⟨aL,b0,Q⟩:=dL;have e:=h3.symm.trans (cZ9 X G aL);cases e;have TD:Days.uK mg:=⟨cXr X G z_len,cXr X G z_min,cXr X G z_sum,cXr X G z_sorted,cXr X G z_isinstance,cXr X G z_int,cXr X G z_str,cXr X G z_bool,cXr X G z_list,cXr X G z_tuple,cXr X G z_set,cXr X G z_range,cXr X G z_reversed,⟨_,cZ9 X G y_week⟩,⟨_,cZ9 X G y_open⟩⟩;have TT:Thr.uK mg:=⟨cXr X G z_len,cXr X G z_sorted,cXr X G z_isinstance,cXr X G z_int,cXr X G z_str,cXr X G z_bool,cXr X G z_list,cXr X G z_tuple,cXr X G z_range⟩;have Z:Desk.uK mg:=⟨cXr X G z_len,cXr X G z_sorted,cXr X G z_list⟩;have T:Law.uK mg:=⟨cXr X G z_len,cXr X G z_range⟩;have TA:Alike.uK mg:=⟨cXr X G z_len,cXr X G z_sorted,cXr X G z_isinstance,cXr X G z_int,cXr X G z_str,cXr X G z_bool,cXr X G z_list,cXr X G z_tuple,cXr X G z_range⟩;have bL:∀ (s:cXd)(v:cXb),BindsTo s b0 ⟨[v],[]⟩ [("_law_script",v)]:=by obtain⟨oc,od,kV,l8,pm,an,l7,ct,m0,rfl,lk,l9⟩:=Q.ex;exact λs v=> .of_eq rfl
 refine⟨b0,cA,tb,tn,bL,λbase _ _ M hB=>?_⟩;have g0:FnG l.prog w K mg base 2 "answers_to_each" ["links","dates"] (Thr.bKl J):=⟨fA,_,Thr.bK7 TT M hB lA cA1,(aX6 (st:=Thr.aVL) lA cA1 kA).binds bdA,kA,cZ9 X G aA⟩;have g1:=gOf l.prog w base 1 X G d1 bdA λf g F=>Days.bWy TD F;have g2:=gOf l.prog w base 1 X G d2 bdA λf g F=>Days.bZ1 TD F;have g3:=gOf l.prog w base 2 X G d3 bdA λf g F=>Days.bQz TD g1.up F;have g4:=gOf l.prog w base 2 X G d4 bdA λf g F=>Days.bQy TD g1.up F;have g5:=gOf l.prog w base 1 X G d5 bdA λf g F=>Days.bZU TD F;have g6:=gOf l.prog w base 3 X G d6 bdA λf g F=>Days.bK8 TD g4.up g2.up g5.up F;have g7:=gOf l.prog w base 1 X G d7 bdA λf g F=>Thr.bZ6 TT F;have g8:=gOf l.prog w base 3 X G d8 bdA λf g F=>Thr.bQG TT g0.up g7.up F;have g9:=kOf l.prog w base 1 X G d9 bdA λf g F=>Desk.bZY (n:=0) cl F;have a7:=mOf mg l.prog w base 1 cl.l d10 bdA λf g F=>Desk.bZ3 (n:=0) cl F;have c5:=mOf mg l.prog w base 1 cl.l d11 bdA λf g F=>Desk.bZP (n:=0) cl F;have j1:=mOf mg l.prog w base 1 cl.l d12 bdA λf g F=>Desk.bWr (n:=0) cl F;have c4:=mOf mg l.prog w base 1 cl.l d13 bdA λf g F=>Desk.bWD (n:=0) cl F;have j3:=gOf l.prog w base 1 X G d14 bdA λf g F=>Desk.bZZ (n:=0) F;have a4:=mOf mg l.prog w base 2 cl.b d16 bdA λf g F=>Desk.bZQ (n:=1) cl c5.up F;have k5:=mOf mg l.prog w base 1 cl.b d19 bdA λf g F=>Desk.aJF (n:=0) cl F;have l1:=mOf mg l.prog w base 1 cl.b d20 bdA λf g F=>Desk.aVx (n:=0) cl F;have b1:=mOf mg l.prog w base 4 cl.b d21 bdA λf g F=>Desk.bZ0 (n:=3) Z cl l1.up g6.up F;have e3:=mOf mg l.prog w base 5 cl.b d22 bdA λf g F=>Desk.aKZ (n:=4) cl b1.up F;have d0:=mOf mg l.prog w base 5 cl.b d23 bdA λf g F=>Desk.aKV (n:=4) cl b1.up F;have b4:=kOf l.prog w base 1 X G d24 bdA λf g F=>Desk.bZR (n:=0) cl F;have b3:=mOf mg l.prog w base 3 cl.b d25 bdA λf g F=>Desk.bK6 (n:=1) Z cl g9.up F;have i2:=dOf mg l.prog w base 2 d53 bdA λf g F=>Desk.aXX (n:=1) (Rf:=(R,J)) k5.up F;have l3:=dOf mg l.prog w base 6 d54 bdA λf g F=>Desk.aXZ (n:=5) (Rf:=(R,J)) e3.up F;have e5:=dOf mg l.prog w base 6 d55 bdA λf g F=>Desk.aXY (n:=5) (Rf:=(R,J)) d0.up F;have h0:=mOf mg l.prog w base 2 cl.b d58 bdA λf g F=>Desk.bQF (n:=1) cl a7.up F;have N:=rOf l.prog w base 1 X G d60 bdA λf g F=>Desk.aKI (n:=0) F;obtain⟨_,f9⟩:=eOf l.prog w base 2 "no letter" X G d61 bdA λC f g M F=>Desk.aVv (n:=1) N M F;obtain⟨_,f7⟩:=eOf l.prog w base 2 "no term" X G d62 bdA λC f g M F=>Desk.bQu (n:=1) N M F;obtain⟨_,i7⟩:=eOf l.prog w base 2 "has one" X G d63 bdA λC f g M F=>Desk.bQt (n:=1) N M F;obtain⟨_,b9⟩:=eOf l.prog w base 2 "has none" X G d64 bdA λC f g M F=>Desk.aKH (n:=1) N M F;obtain⟨_,l4⟩:=eOf l.prog w base 2 "own thread" X G d65 bdA λC f g M F=>Desk.aJD (n:=1) N M F;obtain⟨_,c0⟩:=eOf l.prog w base 2 "same way" X G d66 bdA λC f g M F=>Desk.aKJ (n:=1) N M F;obtain⟨_,j6⟩:=eOf l.prog w base 2 "other partner" X G d67 bdA λC f g M F=>Desk.aXk (n:=1) N M F;obtain⟨_,k0⟩:=eOf l.prog w base 2 "too early" X G d68 bdA λC f g M F=>Desk.aVw (n:=1) N M F;obtain⟨_,j4⟩:=eOf l.prog w base 2 "copied" X G d69 bdA λC f g M F=>Desk.bQs (n:=1) N M F;obtain⟨_,h9⟩:=eOf l.prog w base 2 "answered" X G d70 bdA λC f g M F=>Desk.aVu (n:=1) N M F;obtain⟨_,c1⟩:=eOf l.prog w base 2 "counts not" X G d71 bdA λC f g M F=>Desk.aJC (n:=1) N M F;have S:=gOf l.prog w base 1 X G d72 bdA λf g F=>Law.bWs T F;have a2:=gOf l.prog w base 1 X G d73 bdA λf g F=>Law.bWv T F;have f5:=gOf l.prog w base 2 X G d74 bdA λf g F=>Law.bZ7 T (cXr X G z_min) a2.up F;have f2:=gOf l.prog w base 1 X G d75 bdA λf g F=>Law.bZW T F;have l0:=gOf l.prog w base 3 X G d76 bdA λf g F=>Law.bQC T (cXr X G z_sorted) f5.up f2.up F;have V:=gOf l.prog w base 2 X G d77 bdA λf g F=>Law.bQB T (cXr X G z_sorted) F;have i1:=gOf l.prog w base 2 X G d78 bdA λf g F=>Law.bWw a2.up F;have h7:=gOf l.prog w base 2 X G d79 bdA λf g F=>Law.bZT a2.up F;have e4:=gOf l.prog w base 3 X G d80 bdA λf g F=>Law.bWu S.up V.up F;have i0:=gOf l.prog w base 3 X G d81 bdA λf g F=>Law.aKS T (cXr X G z_int) S.up F;have h8:=gOf l.prog w base 3 X G d82 bdA λf g F=>Law.bWE T S.up h7.up i1.up V.up F;have i8:=gOf l.prog w base 4 X G d83 bdA λf g F=>Law.bWC T (cXr X G z_list) (cXr X G z_tuple) S.up l0.up V.up F;have a5:=gOf l.prog w base 5 X G d84 bdA λf g F=>Law.bWq i0.up e4.up i8.up h8.up F;have k9:=gOf l.prog w base 2 X G d85 bdA λf g F=>Law.aKU T (cXr X G z_int) S.up F;have c2:=gOf l.prog w base 2 X G d86 bdA λf g F=>Law.bZN T (cXr X G z_int) S.up F;have k7:=gOf l.prog w base 3 X G d87 bdA λf g F=>Law.bQA T (cXr X G z_int) (cXr X G z_max) S.up k9.up c2.up F;have k3:=gOf l.prog w base 6 X G d88 bdA λf g F=>Law.bZ4 T a5.up k7.up F;have f8:=gOf l.prog w base 1 X G d89 bdA λf g F=>Alike.bZ8 TA F;have c7:=gOf l.prog w base 1 X G d90 bdA λf g F=>Alike.bWz TA F;have j0:=gOf l.prog w base 2 X G d91 bdA λf g F=>Alike.bZO TA f8.up F;have c9:=gOf l.prog w base 1 X G d92 bdA λf g F=>Alike.bWo TA F;have k8:=gOf l.prog w base 1 X G d93 bdA λf g F=>Alike.aVE TA F;have b6:=gOf l.prog w base 6 X G d94 bdA λf g F=>Alike.bQw (n:=5) a5.up F;have k1:=gOf l.prog w base 1 X G d95 bdA λf g F=>Alike.aKX TA F;have e1:=gOf l.prog w base 1 X G d96 bdA λf g F=>Alike.aKT F;have O:=aVs mg l.prog w base 4 cl.b d15 bdA λf g F=>Desk.bWo (n:=2) (Rf:=(R,J)) Z cl f9.up F;have k4:=aVs mg l.prog w base 5 cl.b d17 bdA λf g F=>Desk.aVy (n:=4) (Rf:=(R,J)) Z cl O.up F;have l2:=aVs mg l.prog w base 5 cl.b d18 bdA λf g F=>Desk.aKY (n:=4) (Rf:=(R,J)) cl O.up a7.up F;have a3:=xOf l.prog w base 4 X G d26 bdA λf g F=>Desk.bZ5 (n:=2) (Rf:=(R,J)) f7.up F;have a1:=xOf l.prog w base 4 X G d27 bdA λf g F=>Desk.bZV (n:=2) (Rf:=(R,J)) k0.up F;have h1:=aVs mg l.prog w base 5 cl.b d28 bdA λf g F=>Desk.bZX (n:=4) (Rf:=(R,J)) cl a3.up b3.up F;have c3:=aVs mg l.prog w base 5 cl.b d29 bdA λf g F=>Desk.bZ2 (n:=4) (Rf:=(R,J)) cl O.up a3.up a1.up j3.up b3.up F
 have i4:=aVs mg l.prog w base 5 cl.b d30 bdA λf g F=>Desk.bQD (n:=3) (Rf:=(R,J)) cl O.up b9.up F;have f6:=aVs mg l.prog w base 5 cl.b d31 bdA λf g F=>Desk.aKW (n:=4) (Rf:=(R,J)) cl O.up a3.up F;have c8:=aVs mg l.prog w base 5 cl.b d32 bdA λf g F=>Desk.bWA (n:=3) (Rf:=(R,J)) Z cl O.up j1.up j4.up F;have k6:=aVs mg l.prog w base 5 cl.b d33 bdA λf g F=>Desk.bQx (n:=3) (Rf:=(R,J)) Z cl O.up a4.up c4.up h9.up F;have i3:=aVs mg l.prog w base 4 cl.b d34 bdA λf g F=>Desk.bWB (n:=2) (Rf:=(R,J)) cl g3.up c1.up F;have j2:=aVs mg l.prog w base 5 cl.b d35 bdA λf g F=>Desk.bQE (n:=4) (Rf:=(R,J)) cl O.up a4.up a1.up F;have a0:=aVs mg l.prog w base 5 cl.b d36 bdA λf g F=>Desk.aVD (n:=4) (Rf:=(R,J)) cl O.up g8.up F;have a8:=aVs mg l.prog w base 6 cl.b d37 bdA λf g F=>Desk.bYa (n:=5) (Rf:=(R,J)) Z cl a0.up F;have c6:=aVs mg l.prog w base 6 cl.b d38 bdA λf g F=>Desk.bZS (n:=4) (Rf:=(R,J)) cl a0.up a1.up i7.up l4.up c0.up j6.up F;have e9:=aVs mg l.prog w base 7 cl.b d39 bdA λf g F=>Desk.bWt (n:=6) (Rf:=(R,J)) cl O.up c6.up a8.up F;have h5:=dOf mg l.prog w base 6 d40 bdA λf g F=>Desk.aVz (n:=5) (Rf:=(R,J)) h1.up F;have e0:=dOf mg l.prog w base 6 d41 bdA λf g F=>Desk.aVB (n:=5) (Rf:=(R,J)) c3.up F;have h6:=dOf mg l.prog w base 8 d42 bdA λf g F=>Desk.aKO (n:=7) (Rf:=(R,J)) e9.up F;have j9:=dOf mg l.prog w base 6 d43 bdA λf g F=>Desk.aVA (n:=5) (Rf:=(R,J)) i4.up F;have b7:=dOf mg l.prog w base 6 d44 bdA λf g F=>Desk.aKM (n:=5) (Rf:=(R,J)) j2.up F;have j7:=dOf mg l.prog w base 6 d45 bdA λf g F=>Desk.aKQ (n:=5) (Rf:=(R,J)) f6.up F;have i6:=dOf mg l.prog w base 6 d46 bdA λf g F=>Desk.aKL (n:=5) (Rf:=(R,J)) c8.up F;have l5:=dOf mg l.prog w base 7 d47 bdA λf g F=>Desk.aKN (n:=6) (Rf:=(R,J)) a8.up F;have j8:=dOf mg l.prog w base 6 d48 bdA λf g F=>Desk.aKR (n:=5) (Rf:=(R,J)) k6.up F;have i9:=dOf mg l.prog w base 5 d49 bdA λf g F=>Desk.aKP (n:=4) (Rf:=(R,J)) i3.up F;have b5:=dOf mg l.prog w base 6 d50 bdA λf g F=>Desk.aJE (n:=5) (Rf:=(R,J)) l2.up F;have i5:=dOf mg l.prog w base 6 d51 bdA λf g F=>Desk.aZC (n:=5) (Rf:=(R,J)) a0.up F;have f3:=dOf mg l.prog w base 6 d52 bdA λf g F=>Desk.aZB (n:=5) (Rf:=(R,J)) k4.up F;have P:(([("in",i),("out",i),("reply",y),("hang",A),("loose",x),("date",H),("term",I),("copy",D),("file",B),("void",E),("shut",z),("state",u),("thread",r),("copies",q),("letters",j),("waiting",k),("overdue",p)]:List (Str×Nat)).map (·.1)).Nodup:=show(["in","out","reply","hang","loose","date","term","copy","file","void","shut","state","thread","copies","letters","waiting","overdue"]:List Str).Nodup from dk;have all:Desk.bKz l.prog w K mg base 8 (R,J) L CL (bVk [("in",i),("out",i),("reply",y),("hang",A),("loose",x),("date",H),("term",I),("copy",D),("file",B),("void",E),("shut",z),("state",u),("thread",r),("copies",q),("letters",j),("waiting",k),("overdue",p)]):=by
  intro e f0;cases e with
  |enter l6 d Y t=>
   obtain⟨g,a,b,c⟩:=h5.ex;rcases f0 with rfl|rfl
   ·exact⟨i,g,_,qA P 0 rfl,a.mono (by decide),⟨_,d,Y,t,rfl⟩,b,c⟩
   ·exact⟨i,g,_,qA P 1 rfl,a.mono (by decide),⟨_,d,Y,t,rfl⟩,b,c⟩
  |reply m d t=>obtain⟨g,a,b,c⟩:=e0.ex;exact⟨y,g,_,qA P 2 rfl,a.mono (by decide),⟨m,d,t,rfl⟩,b,c⟩
  |hang m o=>obtain⟨g,a,b,c⟩:=h6.ex;exact⟨A,g,_,qA P 3 rfl,a.mono (by decide),⟨m,o,rfl⟩,b,c⟩
  |loose m=>obtain⟨g,a,b,c⟩:=j9.ex;exact⟨x,g,_,qA P 4 rfl,a.mono (by decide),⟨m,rfl⟩,b,c⟩
  |date m d=>obtain⟨g,a,b,c⟩:=b7.ex;exact⟨H,g,_,qA P 5 rfl,a.mono (by decide),⟨m,d,rfl⟩,b,c⟩
  |term m t=>obtain⟨g,a,b,c⟩:=j7.ex;exact⟨I,g,_,qA P 6 rfl,a.mono (by decide),⟨m,t,rfl⟩,b,c⟩
  |copy m Y=>obtain⟨g,a,b,c⟩:=i6.ex;exact⟨D,g,_,qA P 7 rfl,a.mono (by decide),⟨m,Y,rfl⟩,b,c⟩
  |file m U=>obtain⟨g,a,b,c⟩:=l5.ex;exact⟨B,g,_,qA P 8 rfl,a.mono (by decide),⟨m,U,rfl⟩,b,c⟩
  |void m=>obtain⟨g,a,b,c⟩:=j8.ex;exact⟨E,g,_,qA P 9 rfl,a.mono (by decide),⟨m,rfl⟩,b,c⟩
  |shut d=>obtain⟨g,a,b,c⟩:=i9.ex;exact⟨z,g,_,qA P 10 rfl,a.mono (by decide),⟨d,rfl⟩,b,c⟩
  |state m=>obtain⟨g,a,b,c⟩:=b5.ex;exact⟨u,g,_,qA P 11 rfl,a.mono (by decide),⟨m,rfl⟩,b,c⟩
  |thread m=>obtain⟨g,a,b,c⟩:=i5.ex;exact⟨r,g,_,qA P 12 rfl,a.mono (by decide),⟨m,rfl⟩,b,c⟩
  |copies m=>obtain⟨g,a,b,c⟩:=f3.ex;exact⟨q,g,_,qA P 13 rfl,a.mono (by decide),⟨m,rfl⟩,b,c⟩
  |letters U=>obtain⟨g,a,b,c⟩:=i2.ex;exact⟨j,g,_,qA P 14 rfl,a.mono (by decide),⟨U,rfl⟩,b,c⟩
  |on a6 d=>
   cases a6
   ·obtain⟨g,a,b,c⟩:=l3.ex;exact⟨k,g,_,qA P 15 rfl,a.mono (by decide),⟨d,rfl⟩,b,c⟩
   ·obtain⟨g,a,b,c⟩:=e5.ex;exact⟨p,g,_,qA P 16 rfl,a.mono (by decide),⟨d,rfl⟩,b,c⟩
 have a9:=gOf l.prog w base 9 X G d56 bdA λf g F=>Desk.bQv (n:=8) (Rf:=(R,J)) (cZ9 X G nD) (bKs lD pD P) (cZ9 X G d60.ns) d60.cl all F;have e8:=gOf l.prog w base 10 X G d57 bdA λf g F=>Desk.aKK (n:=8) (Rf:=(R,J)) b4.up a9.up F;have e6:=gOf l.prog w base 10 X G d59 bdA λf g F=>Desk.aVC (n:=8) (Rf:=(R,J)) b4.up a9.up h0.up F;exact Alike.bK9 (n:=10) (Rf:=(R,J)) TA (cXr X G z_sum) k3.up c7.up b6.up k1.up k8.up c9.up e1.up V.up j0.up e8.up e6.up Q
end End4
namespace End4
open PySem L2 PyProof.Rows
def walk{l:PySem.W.OpenLaw}{q:cXB}{loose:List Str}{y:(Str->Option cXb)->Heap->Prop}{e:cXN->Heap->Prop}{d:DefRec}{K:Params->cXc}{T:Nat}(p:l.most=some 63)(b:d.params.defaults= []) (m:∀ (w:cXN)(h:Heap),e w h->(K w.params).In h) (g:∀ (w:cXN)(h:Heap),e w h->h.get? T=some (cJR #[])) (F:∀ (w:cXN)(mg:Str->Option cXb)(i:Nat)(h:Heap),(K w.params).In h->h.Ns cXK mg->mg d.name=some (.ref i)-> ∃ (j:cJc)(c:Nat),cV6 (K w.params) c T=true/\(K w.params).lookup T=none/\(∀ (s:cXd)(u:cXb),BindsTo s j ⟨[u],[]⟩ [("_law_script",u)])/\∀base:Heap,(K w.params).In base->base.Ns cXK mg->cJi base c T->base.BuiltinsAt mg T->xL l.prog w (K w.params) mg base CX0 11 i j ["_law_script"] (Alike.bJS T (K w.params))): PySem.W.WalkO q loose y e l.row.toRowW d [] (λf v=>PySem.call f v):=
 L2.bJ9 (n:=63) (k:=11) (x:="_law_script") (CX:=CX0) (sp:=Alike.bJS) p (by decide) b ⟨rfl,by decide,by decide⟩ m g F (λ_ _ a o hl t r=>⟨a,o,rfl,r,hl,.inl t,λ_=>rfl⟩) λ_ _ _ _ z=>z
end End4
open PySem PySem.W PyProof.Rows
set_option tactic.hygienic true
namespace PySem.W.Fast
def tw631974646597172828:=0
def tw8534582997539163054:=0
def tw4665023916404845881:=0
def tw1343484663632316830:=0
def tw12930372842870895386:=0
def tw8376226545620234157:=0
def tw10040255775343777989:=0
def tw1337365720775012362:=0
def tw9071235740108007412:=0
def tw12985891929882465065:=0
def tw16270422930795466395:=0
def tw17106382845200968110:=0
def tw6588409375014075690:=0
def tw9189639392189884973:=0
def tw5812378405827185198:=0
def tw9011552511104923842:=0
def tw5383699612020035424:=0
def tw10996533030786442517:=0
def tw18113610087687891130:=0
def tw1564592468001137005:=0
def tw14590308672862327545:=0
def tw9286279144629492063:=0
def tw1156144920958093242:=0
def tw17168750041239597323:=0
def tw1899386537598000432:=0
def tw8458687091664476908:=0
def tw6568338056733542318:=0
def tw18278483057479266298:=0
def tw16727296290197674006:=0
def tw4833844180014894679:=0
def tw18131211853801340974:=0
def tw10994667453411516798:=0
def tw5406828364578978681:=0
def tw12438847605820684491:=0
def tw10476173491049942534:=0
def tw11594021847624810504:=0
def tw697805846619132849:=0
def tw6962156127967346407:=0
def tw5883377661300101646:=0
def tw3716749088264173396:=0
def tw7737539699155172960:=0
def tw8976529931076705664:=0
def tw7388172440801591171:=0
def tw14863308268133419097:=0
def tw15270884903279026986:=0
def tw12214149401934474059:=0
def tw13932765065511116906:=0
def tw16606491415062917571:=0
def tw9113669124493210108:=0
def tw12396320825813692802:=0
def tw6535633284730709196:=0
def tw3084047026264568921:=0
def tw219233673005647440:=0
def tw2669372460183429434:=0
def tw9977070969536852822:=0
def tw3506370764067583476:=0
def tw5837515281471053647:=0
def tw8610327687999060250:=0
def tw9922040933171972178:=0
def tw6197558386518041173:=0
def tw11219548633434476473:=0
def tw13122415599294203407:=0
def tw6995147834952574384:=0
def tw3431990069794959802:=0
def tw5005652142683834094:=0
def tw14201312380243098009:=0
def tw10152655512792064786:=0
def tw11162355231124811184:=0
def tw476175790856930852:=0
def tw13312164273328794819:=0
def tw15400581142056726751:=0
def tw16196853165144652966:=0
def tw11196003683700431661:=0
def tw13059387370437893011:=0
def tw5508028121112056081:=0
def tw16870446626214465261:=0
def tw11336978174013287810:=0
def tw18256741685885423977:=0
def tw9754850279491775301:=0
def tw13935843301843596193:=0
def tw13252566017932473267:=0
def tw1441085109271128833:=0
def tw9380372763545295653:=0
def tw16696924489808521541:=0
def tw17367384022334770051:=0
def tw7163986455269606427:=0
def tw4065814593099183211:=0
def tw342223730002248344:=0
def tw6674709473628872244:=0
def tw12282785996855317498:=0
def tw6737295855864842815:=0
def tw5083875315156466763:=0
def tw1142044237605851867:=0
def tw15917948106676267260:=0
def tw12257698111695745668:=0
def tw7248061218315281257:=0
def tw15734323762180665624:=0
def tw15939441356202078431:=0
def tw14188440444798242357:=0
def tw6762215774166811972:=0
def tw17442264231231686642:=0
def tw6908145099185565388:=0
def tw9963908261602730890:=0
def tw13921185489087011695:=0
def tw11888296107577365405:=0
def tw18119182556123675433:=0
def tw2132405750773783644:=0
def tw16724444325357394365:=0
def tw5095380430842810297:=0
def tw868586721422469397:=0
def tw11157200171209148553:=0
def tw640623828701360934:=0
def tw4167096862999486265:=0
def tw15686041803750071615:=0
def tw5349105113395001360:=0
def tw12851659264937885618:=0
def tw14608476782067718217:=0
def tw4838764837193855181:=0
def tw10594407601008260074:=0
def tw15930897747829740175:=0
def tw1021678694744859883:=0
def tw10766912635259245479:=0
def tw11640855079940199953:=0
def tw3454466102534730187:=0
def tw13231157992004705939:=0
def tw2923516136573247782:=0
def tw8312054465394777118:=0
def tw15816412439758934768:=0
def tw15424890034573467935:=0
def tw11418620026042184968:=0
def tw10114063936495714726:=0
def tw18314210409466389820:=0
def tw13187757293235234059:=0
def tw2922364259870838073:=0
def tw3461844261519705368:=0
def tw3359470629788000699:=0
def tw8863404653483361570:=0
def tw10289098870294531566:=0
def tw3892862961537878228:=0
def tw17884284841416240743:=0
def tw11411406332445597491:=0
def tw4018269343199155691:=0
def tw14338129517353947679:=0
def tw14250428944662339585:=0
def tw7975011516656621537:=0
def tw1615951741154277644:=0
def tw17776526359427742736:=0
def tw6398367667361389903:=0
def tw5432575388267349612:=0
def tw8894504878772966183:=0
def tw6810476194884754368:=0
def tw18234796852619212155:=0
def tw7694307805407885166:=0
def tw15590592789840023004:=0
def tw13745250391998692022:=0
def tw6674706980171380546:=0
def tw8157871243574771456:=0
def tw6598945498139627304:=0
def tw2021979549371668603:=0
def tw362189777992985564:=0
def tw9645046077669843848:=0
def tw1464481938479290246:=0
def tw6342033494056346101:=0
def tw591718569392707558:=0
def tw5034186920093094593:=0
def tw7839908182116465425:=0
def tw15130512591666645956:=0
def tw15828619670019463168:=0
def tw6129847213219026422:=0
def tw1464967035064296004:=0
def tw17547446826063019226:=0
def tw4655727174232312927:=0
def tw1520505163018595497:=0
def tw12590305429351061816:=0
def tw10313679492184590485:=0
def tw2787390008443015014:=0
def tw12720195584751593466:=0
def tw5529093976521103332:=0
def tw8863118943840307199:=0
def tw12734233635460463957:=0
def tw16439076963974684714:=0
def tw12057999641625682873:=0
def tw10490382536767787965:=0
def tw14115274558827714696:=0
def tw13217613344190826372:=0
def tw2438465240387069409:=0
def tw13421730843778229900:=0
def tw17967337295584933477:=0
def tw1794183973656849140:=0
def tw17774583974962158675:=0
def tw8300328647053759210:=0
def tw7291221320356768725:=0
def tw11837731895040677438:=0
def tw11678147544020716470:=0
def tw1839310916572332346:=0
def tw4758316119313124075:=0
def tw4771185073599089313:=0
def tw4601900081204676075:=0
def tw9292437436789667048:=0
def tw12629818693360461742:=0
def tw1138279321183043131:=0
def tw15343023457502609796:=0
def tw2779244369850724252:=0
def tw2321143719582955796:=0
def tw475511877806610556:=0
def tw14933639510395015517:=0
def tw5406486142216824655:=0
def tw2647739755489656837:=0
def tw6575913637247446137:=0
def tw3613272156365118713:=0
def tw5168424871537882773:=0
def tw7052002742769254749:=0
def tw7157080477316098119:=0
def tw3496170711449940334:=0
def tw14187245563320987930:=0
def tw123201690422098769:=0
def tw5066577913065541163:=0
def tw6038835387397821275:=0
def tw9351325765804792324:=0
def tw16990733592770909812:=0
def tw6359314163303739940:=0
def tw6244935666116413181:=0
def tw15382058139271287049:=0
def tw3951979022917686758:=0
def tw7502339165940399804:=0
def tw17776092744965959050:=0
def tw7350286973003436853:=0
def tw7764762247996393177:=0
def tw11922777578197668877:=0
def tw6033654454610782645:=0
def tw6880324066692996629:=0
def tw10835209612497454516:=0
def tw12577006256098582886:=0
def tw805948385701870343:=0
def tw3395767664368958854:=0
def tw9558488419455522643:=0
def tw6973551266296967964:=0
def tw5944651148215875118:=0
def tw6965265819212603115:=0
def tw2890711463393646078:=0
def tw5083478672401788451:=0
def tw9945203667016648821:=0
def tw11960665940451880526:=0
def tw216003481644767332:=0
def tw13512130797756014767:=0
def tw8340110497312423894:=0
def tw11716793026195956361:=0
def tw4969700757409127388:=0
def tw1864080783107269802:=0
def tw9879630180044197458:=0
def tw3906175412493026629:=0
def tw4605062444479160336:=0
def tw3732225414014522152:=0
def tw13103257718837380592:=0
def tw1998960178565800599:=0
def tw13133957761427976119:=0
def tw8733470380776176406:=0
def tw4990454507980356641:=0
def tw14183061348755751936:=0
def tw3388812343624292618:=0
def tw12205626289700491812:=0
def tw335483143545788243:=0
def tw14153868213626087463:=0
def tw11862330834202674340:=0
def tw5596288478684412239:=0
def tw16622812572123469783:=0
def tw12436163717451428326:=0
def tw5683197108301777387:=0
def tw6904553505718544504:=0
def tw3329676867078477293:=0
def tw698319232814542105:=0
def tw16307012909293878109:=0
def tw13721464554042328612:=0
def tw7873849653336537947:=0
def tw126497820136118057:=0
def tw1394053466693052792:=0
def tw9800592242210561757:=0
def tw2907991649861621631:=0
def tw16120700277643860094:=0
def tw2309505011609309061:=0
def tw3737221970413235247:=0
def tw13011528422998019052:=0
def tw14629132507051785675:=0
def tw11780319492167544196:=0
def tw10659589800834614183:=0
def tw5028292181716775197:=0
def tw13460354446040707221:=0
def tw12248294130725119303:=0
def tw14329587112633459619:=0
def tw9207332942095452114:=0
def tw4200152548295776983:=0
def tw3501301673735588345:=0
def tw2888575575154936930:=0
def tw17525312982610772563:=0
def tw15750411790003066150:=0
def tw12878676778597281894:=0
def tw651879820251298342:=0
def tw6586230565983279977:=0
def tw16676415787913751273:=0
def tw2437338617456241079:=0
def tw5490026438638489395:=0
def tw8632208898404472975:=0
def tw6256305308558371980:=0
def tw977653719666547830:=0
def tw13990865998948900240:=0
def tw2087977445397852559:=0
def tw1487849843975355810:=0
def tw14123824866366019368:=0
def tw14076689116474760326:=0
def tw17984557552409937856:=0
def tw11979320272303735454:=0
def tw9319372751782301480:=0
def tw2482693484524516372:=0
def tw5281555857988546624:=0
def tw14229518610272244695:=0
def tw13421079756259945803:=0
def tw2766921714518326864:=0
def tw9435863985814160577:=0
def tw15458445495241270025:=0
def tw11182303244059274916:=0
def tw15386859062284364537:=0
def tw2202071983697063482:=0
def tw15855830682539545933:=0
def tw3840150722675395005:=0
def tw43455670086086185:=0
def tw15822946225430709428:=0
def tw262554248847572574:=0
def tw16592352077389788339:=0
def tw5832386535617543425:=0
def tw5699182853646947427:=0
def tw11300473640431330038:=0
def tw9871622329226899787:=0
def tw14352149360060034107:=0
def tw13016701308438451895:=0
def tw11884889623943396971:=0
def tw9009659238940260575:=0
def tw11911875317001266739:=0
def tw2880597030874300602:=0
def tw18187989218221388656:=0
def tw9069431490561040424:=0
def tw15159982009676691410:=0
def tw16440825969814134317:=0
def tw8004571854609036402:=0
def tw9689829139302323984:=0
def tw9897226933734465346:=0
def tw10336496534780445273:=0
def tw936931647266714982:=0
def tw11001059932564104744:=0
def tw15541570239880783709:=0
def tw17383067238903623899:=0
def tw6637996529639170252:=0
def tw5881228567718854227:=0
def tw6951087729818078200:=0
def tw16919372039874195977:=0
def tw18407976448260167800:=0
def tw623943408476850372:=0
def tw10452031153057721727:=0
def tw9876619266080810603:=0
def tw6451197750343371577:=0
def tw8192929646952853547:=0
def tw9637710009541452024:=0
def tw6944207769359162009:=0
def tw632966152173872444:=0
def tw9449782472101688720:=0
def tw2040437125022926977:=0
def tw4325759926147671046:=0
def tw3177337954204004091:=0
def tw8578711232683190230:=0
def tw7635036888657493586:=0
def tw5463657470715275227:=0
def tw1175816740357150855:=0
def tw1442676902180463055:=0
def tw11976810011840862845:=0
def tw16160745919356490329:=0
def tw13023680252955211551:=0
def tw12338033858870106998:=0
def tw12002405677383179877:=0
def tw5041986332434544999:=0
def tw1098023932916106193:=0
def tw6539571007811205968:=0
def tw18222468428614657083:=0
def tw13358624901091624833:=0
def tw8938269938975346744:=0
def tw1592065606177156666:=0
def tw18007125312967643172:=0
def tw5968288919104697861:=0
def tw7113428805581174894:=0
def tw18091201459981655942:=0
def tw12171376708931370148:=0
def tw3553703796685495479:=0
def tw1257064814053117635:=0
def tw2285931486814622874:=0
def tw15317371730108700604:=0
def tw4628222827416994382:=0
def tw8277438832634653963:=0
def tw1658426075849734048:=0
def tw12014917898324644382:=0
def tw6674397999996589397:=0
def tw1423428884354521926:=0
def tw16236538393882589873:=0
def tw4312715827204477740:=0
def tw2486573554545943371:=0
def tw7628966257129234210:=0
def tw7482670388320492657:=0
def tw5804847690943369829:=0
def tw12546628722755382260:=0
def tw9536387696508516797:=0
def tw16667664687696478057:=0
def tw15629629807370158894:=0
def tw14712569043270518453:=0
def tw7188696918846853724:=0
def tw2995174896739810390:=0
def tw2502866401229012757:=0
def tw1297803103093633306:=0
def tw5822758122994607149:=0
def tw7652316979308792009:=0
def tw10795297612242829326:=0
def tw7947651566168124778:=0
def tw4647405926497810134:=0
def tw10719461323432975092:=0
def tw2313524153223959428:=0
def tw17567204998333662510:=0
def tw8638079581085404619:=0
def tw442277748478855579:=0
def tw2671088215987692077:=0
def tw11135063503179455532:=0
def tw12815415717061265842:=0
def tw11010556528382646685:=0
def tw4588918479798271674:=0
def tw6705979152749320667:=0
def tw4354257013060862979:=0
def tw9954630773724716098:=0
def tw13514250422687868545:=0
def tw5879560130948202053:=0
def tw17720606819078370657:=0
def tw15978027595572523939:=0
def tw17160012168695408231:=0
def tw5918726479570566570:=0
def tw7393609952089151304:=0
def tw6476514726715335687:=0
def tw3153924055327485318:=0
def tw14366033089688693832:=0
def tw8879123069336735493:=0
def tw1210251515692030342:=0
def tw14499781348259924197:=0
def tw17574032381010156215:=0
def tw18249504834517555233:=0
def tw12749542848436354395:=0
def tw16366991550868638962:=0
def tw3677968675052962574:=0
def tw4875113807310337025:=0
def tw2451063958611420714:=0
def tw15284200646461583262:=0
def tw3563307388009239844:=0
def tw15012622452558802621:=0
def tw8042721394512814278:=0
def tw1625344527937584601:=0
def tw3332508996310383340:=0
def tw3346727598738129149:=0
def tw222072671795367636:=0
def tw3295961778593773655:=0
def tw9095292511902861126:=0
def tw9021158171144239268:=0
def tw3897827453358071588:=0
def tw2462008467678505473:=0
def tw4656612633575295483:=0
def tw12865440319669709853:=0
def tw12789246876721304339:=0
def tw5348413627062371099:=0
def tw5815425477898159882:=0
def tw3038299510225786318:=0
def tw8971648908793427184:=0
def tw3841983695708749125:=0
def tw3294393477171125406:=0
def tw10931871733434678865:=0
def tw593343571049481205:=0
def tw4374201441553374419:=0
def tw7425278146738291029:=0
def tw11321161079817560701:=0
def tw7328441662548499980:=0
def tw4074753522753256831:=0
def tw13567098742858930714:=0
def tw4191273362445285794:=0
end PySem.W.Fast
set_option maxRecDepth 100000 in
set_option maxHeartbeats 0 in
theorem PySem.Challenge.cw_letterdesk_k09_whole_files_holds : PySem.Challenge.rw_letterdesk_k09_whole_files.Holds := by
 w_on;o_law;k_head;(case hw=>w_witness2);k_fill;refine End4.walk (l:=PySem.Challenge.rw_letterdesk_k09_whole_files) rfl rfl (λw h Y=>PySem.W.km_in_of Y) (λw h Y=>PySem.W.km_tabs_of Y _ (cXp ..)) ?F;case F=>
  intro w c d h b G a;refine' End4.all_mk b G a ?d60 ?d61 ?d62 ?d63 ?d64 ?d65 ?d66 ?d67 ?d68 ?d69 ?d70 ?d71 ?d9 ?d24 ?cl ?d10 ?d11 ?d12 ?d13 ?d15 ?d16 ?d17 ?d18 ?d19 ?d20 ?d21 ?d22 ?d23 ?d25 ?d28 ?d29 ?d30 ?d31 ?d32 ?d33 ?d34 ?d35 ?d36 ?d37 ?d38 ?d39 ?d58 ?d1 ?d2 ?d3 ?d4 ?d5 ?d6 ?d7 ?d8 ?d14 ?d26 ?d27 ?d56 ?d57 ?d59 ?d72 ?d73 ?d74 ?d75 ?d76 ?d77 ?d78 ?d79 ?d80 ?d81 ?d82 ?d83 ?d84 ?d85 ?d86 ?d87 ?d88 ?d89 ?d90 ?d91 ?d92 ?d93 ?d94 ?d95 ?d96 ?d40 ?d41 ?d42 ?d43 ?d44 ?d45 ?d46 ?d47 ?d48 ?d49 ?d50 ?d51 ?d52 ?d53 ?d54 ?d55 ?dL ?aA ?lA ?cA1 ?kA ?nD ?lD ?pD ?z_len ?z_min ?z_sum ?z_sorted ?z_isinstance ?z_int ?z_str ?z_bool ?z_list ?z_tuple ?z_set ?z_range ?z_reversed ?z_max ?y_week ?y_open ?tb ?tn;(case d60=>apply End4.bWO<;> first|k_is|kernel_rfl);(case d61=>apply End4.qG<;> first|k_is|kernel_rfl);(case d62=>apply End4.qG<;> first|k_is|kernel_rfl);(case d63=>apply End4.qG<;> first|k_is|kernel_rfl);(case d64=>apply End4.qG<;> first|k_is|kernel_rfl);(case d65=>apply End4.qG<;> first|k_is|kernel_rfl);(case d66=>apply End4.qG<;> first|k_is|kernel_rfl);(case d67=>apply End4.qG<;> first|k_is|kernel_rfl);(case d68=>apply End4.qG<;> first|k_is|kernel_rfl);(case d69=>apply End4.qG<;> first|k_is|kernel_rfl);(case d70=>apply End4.qG<;> first|k_is|kernel_rfl);(case d71=>apply End4.qG<;> first|k_is|kernel_rfl);(case d9=>apply End4.bVn<;> k_is);(case d24=>apply End4.bVn<;> k_is);(case cl=>apply End4.bY8<;> k_is);(case d10=>apply End4.zM<;> k_is);(case d11=>apply End4.zM<;> k_is);(case d12=>apply End4.zM<;> k_is);(case d13=>apply End4.zM<;> k_is);(case d15=>apply End4.zM<;> k_is);(case d16=>apply End4.zM<;> k_is);(case d17=>apply End4.zM<;> k_is);(case d18=>apply End4.zM<;> k_is);(case d19=>apply End4.zM<;> k_is);(case d20=>apply End4.zM<;> k_is);(case d21=>apply End4.zM<;> k_is);(case d22=>apply End4.zM<;> k_is);(case d23=>apply End4.zM<;> k_is);(case d25=>apply End4.zM<;> k_is);(case d28=>apply End4.zM<;> k_is);(case d29=>apply End4.zM<;> k_is);(case d30=>apply End4.zM<;> k_is);(case d31=>apply End4.zM<;> k_is);(case d32=>apply End4.zM<;> k_is);(case d33=>apply End4.zM<;> k_is);(case d34=>apply End4.zM<;> k_is);(case d35=>apply End4.zM<;> k_is);(case d36=>apply End4.zM<;> k_is);(case d37=>apply End4.zM<;> k_is);(case d38=>apply End4.zM<;> k_is);(case d39=>apply End4.zM<;> k_is);(case d58=>apply End4.zM<;> k_is);(case d1=>apply End4.xT<;> k_is);(case d2=>apply End4.xT<;> k_is);(case d3=>apply End4.xT<;> k_is);(case d4=>apply End4.xT<;> k_is);(case d5=>apply End4.xT<;> k_is);(case d6=>apply End4.xT<;> k_is);(case d7=>apply End4.xT<;> k_is);(case d8=>apply End4.xT<;> k_is);(case d14=>apply End4.xT<;> k_is);(case d26=>apply End4.xT<;> k_is);(case d27=>apply End4.xT<;> k_is);(case d56=>apply End4.xT<;> k_is);(case d57=>apply End4.xT<;> k_is);(case d59=>apply End4.xT<;> k_is);(case d72=>apply End4.xT<;> k_is);(case d73=>apply End4.xT<;> k_is);(case d74=>apply End4.xT<;> k_is);(case d75=>apply End4.xT<;> k_is);(case d76=>apply End4.xT<;> k_is);(case d77=>apply End4.xT<;> k_is);(case d78=>apply End4.xT<;> k_is);(case d79=>apply End4.xT<;> k_is);(case d80=>apply End4.xT<;> k_is);(case d81=>apply End4.xT<;> k_is);(case d82=>apply End4.xT<;> k_is);(case d83=>apply End4.xT<;> k_is);(case d84=>apply End4.xT<;> k_is);(case d85=>apply End4.xT<;> k_is);(case d86=>apply End4.xT<;> k_is);(case d87=>apply End4.xT<;> k_is);(case d88=>apply End4.xT<;> k_is);(case d89=>apply End4.xT<;> k_is);(case d90=>apply End4.xT<;> k_is);(case d91=>apply End4.xT<;> k_is);(case d92=>apply End4.xT<;> k_is);(case d93=>apply End4.xT<;> k_is);(case d94=>apply End4.xT<;> k_is);(case d95=>apply End4.xT<;> k_is);(case d96=>apply End4.xT<;> k_is);(case d40=>apply End4.zB<;> k_is);(case d41=>apply End4.zB<;> k_is);(case d42=>apply End4.zB<;> k_is);(case d43=>apply End4.zB<;> k_is);(case d44=>apply End4.zB<;> k_is);(case d45=>apply End4.zB<;> k_is);(case d46=>apply End4.zB<;> k_is);(case d47=>apply End4.zB<;> k_is);(case d48=>apply End4.zB<;> k_is);(case d49=>apply End4.zB<;> k_is);(case d50=>apply End4.zB<;> k_is);(case d51=>apply End4.zB<;> k_is);(case d52=>apply End4.zB<;> k_is);(case d53=>apply End4.zB<;> k_is);(case d54=>apply End4.zB<;> k_is);(case d55=>apply End4.zB<;> k_is);(case dL=>apply End4.zB<;> k_is);(case aA=>k_is);(case lA=>k_is);(case cA1=>k_is);(case kA=>k_is);(case nD=>k_is);(case lD=>k_is);(case pD=>exact⟨⟨_,rfl⟩,rfl,rfl,⟨_,rfl⟩,rfl,rfl,⟨_,rfl⟩,rfl,rfl,⟨_,rfl⟩,rfl,rfl,⟨_,rfl⟩,rfl,rfl,⟨_,rfl⟩,rfl,rfl,⟨_,rfl⟩,rfl,rfl,⟨_,rfl⟩,rfl,rfl,⟨_,rfl⟩,rfl,rfl,⟨_,rfl⟩,rfl,rfl,⟨_,rfl⟩,rfl,rfl,⟨_,rfl⟩,rfl,rfl,⟨_,rfl⟩,rfl,rfl,⟨_,rfl⟩,rfl,rfl,⟨_,rfl⟩,rfl,rfl,⟨_,rfl⟩,rfl,rfl,⟨_,rfl⟩,rfl,rfl,cZu⟩);(case z_len=>k_is);(case z_min=>k_is);(case z_sum=>k_is);(case z_sorted=>k_is);(case z_isinstance=>k_is);(case z_int=>k_is);(case z_str=>k_is);(case z_bool=>k_is);(case z_list=>k_is);(case z_tuple=>k_is);(case z_set=>k_is);(case z_range=>k_is);(case z_reversed=>k_is);(case z_max=>k_is);(case y_week=>k_is);(case y_open=>k_is);(case tb=>kernel_rfl);(case tn=>kernel_rfl)
