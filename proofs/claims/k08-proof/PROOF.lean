import PyProof.Rows.All
import Wide.All
import OpenK.AllK
import Wide.FinOn
import KE.KLam
import KE.KNestM
import KE.KSortTup
import Lean
import OpenK.KCls
import PyProof.CollectWalk
import PyProof.CompMap
import PyProof.DictStraight
import PyProof.EqAt
import PyProof.EqKinds
import PyProof.ExcArgs
import PyProof.ExcBaseAll.Exception
import PyProof.FactsAll.set
import PyProof.FactsBase
import PyProof.InstStoreFacts
import PyProof.ListRange
import PyProof.LongRange
import PyProof.MakeMany
import PyProof.MinMaxWalk
import PyProof.NeKinds
import PyProof.Rows.SetFrom
import PyProof.Rows.SortWalk
import PyProof.SeqI3
import PyProof.SetKind
import PyProof.SetNew
import PyProof.SetScanFacts
import PyProof.StationsW
import PyProof.TupleCall
import PyProof.WalkInts
import PyProof.Walks
import PySem.Challenge.RW_letterdesk_k08_whole_put_right_and_back
set_option Elab.async false
set_option linter.all false
set_option maxRecDepth 100000
set_option maxHeartbeats 4000000
open Array renaming length_toList → cQ6, getElem?_eq_getElem → cXh, getElem?_toList → cXn, getElem?_eq_some_iff → cZf, getD → cZk, getElem?_eq_none → cZJ, getElem?_extract_of_lt → cJR, getElem?_append_left → cJ2, perm_iff_toList_perm → cJ3
open Classical renaming byContradiction → cVe
open False renaming elim → cXl
open ForInStep renaming yield → cJA
open Int renaming toNat_natCast → cQl, zero_add → cX9, natCast_inj → cJB
open List renaming getElem?_eq_getElem → bYL, length_map → bYR, range → bYW, mem_cons → bYX, getElem?_eq_some_iff → bYY, mem_cons_of_mem → bYZ, mem_singleton → bY1, size_toArray → bY3, mem_cons_self → bY4, mem_of_getElem? → bY5, getElem?_map → bY7, getElem?_append_right → bY9, length_append → cQa, mem_append_right → cQc, mem_range → cQi, getElem?_eq_none → cQk, mem_append → cQn, getElem?_append_left → cQp, getD → cQx, map_cons → cQz, replicate → cQC, getElem_of_mem → cQD, mem_filter → cQE, length_range → cQG, length_filter_le → cQL, length_cons → cQN, append_nil → cQP, mem_map → cQR, take_length → cQT, length_singleton → cQU, length_pos_iff → cQV, toArray → cQW, take_add_one → cQX, filter_append → cQZ, append_assoc → cQ8, pairwise_singleton → cXd, pairwise_cons → cXe, length_take → cXg, contains_iff_mem → cXp, map_append → cXq, filter_cons_of_neg → cXw, filter_cons_of_pos → cXx, ext_getElem? → cXA, getElem_inj → cXE, lookup_cons → cXF, filter_sublist → cXN, getElem?_range → cXO, length → cXQ, length_nil → cXU, mem_append_left → cXV, nodup_cons → cXW, any_cons → cX2, replicate_succ → cX4, getElem_mem → cX5, getElem?_set_self → cX6, lookup → cX7, contains_cons → cZa, find?_cons → cZc, range_succ → cZd, nodup_append → cZi, pairwise_iff_getElem → cZm, not_mem_nil → cZs, filterMap_cons → cZz, filter_eq_self → cZA, eq_nil_of_length_eq_zero → cZK, map_map → cZO, all_eq_true → cZX, getElem?_set_ne → cZY, nodup_range → cZZ, all_cons → cZ3, flatten_cons → cJj, pairwise_map → cJk, map_id → cJq, append_inj' → cJs, cons_append → cJt, countP_cons → cJu, forIn_cons → cJC, pairwise_append → cJD, map_congr_left → cJN, toList_toArray → cJO, Perm → cJX, filter_congr → cJ6, foldl_append → cJ7, getElem?_eq_none_iff → cVf
open Nat renaming le_refl → bYT, ne_of_lt → cQd, lt_of_lt_of_le → cQf, le_trans → cQo, zero_le → cQM, lt_succ_of_lt → cQY, lt_irrefl → cQ0, sub_self → cQ4, lt_succ_self → cQ9, le_succ_of_le → cXm, not_lt_zero → cXr, le_succ → cXT, le_of_eq → cZt, le_of_lt → cZu, ne_of_gt → cZv, lt_or_ge → cZP
open Ne renaming symm → cQu
open Option.some renaming inj → bY6, injEq → cJ8
open PyProof.Rows renaming seqObj → cQB, envOfC → cXK, IntsAre → cZn, slot_tuple_getitem → cZC, IsTup → cZF, get?_update_seq → cZH, callWith_type1 → cZT, listUpdate_at → cZ5, entry_list_sort → cJS, args_list_sort → cJZ, slot_list_sort → cJ0, assignInOrder_cons → cJ1
open PyProof.Rows.F renaming plain_set_update_loop → cZb, entry_set_update_loop → cJf
open PyProof.Rows.IntsAre renaming int_at → cJY
open PySem renaming Value → bYM, wpAny_bind → bYN, Shared → bYP, wpAny_pure → bYQ, wpAny → bYU, model → bYV, Program → bY8, sizeLine → cQb, sizeLine_eq → cQe, World → cQg, mainGlobals → cQm, starEach → cQt, Around → cQv, bootBuiltins → cQw, Paired → cQI, wpAny_mono → cQQ, wpAny_newObj_type → cQ3, rawInt → cQ5, wpAny_holding → cQ7, mem_of_lookup → cXj, compareOp → cXk, backTo → cXu, wpAny_Call_Name_kw → cXv, wpAny_call_entry → cXy, SetTable → cXC, Builtin → cXD, codeAny_mono → cXH, FuncData → cXL, wpAny_truthy_bool → cXM, wpAny_setField → cXS, Scope → cXZ, codeAny_builtin → cX0, codeAny → cX1, wpAny_callSpecial?_slot → cX3, keywordEach → cX8, wpAny_passesOwn → cZe, binaryOp → cZh, wpAny_setState_of → cZj, wpAny_askSetting → cZy, wpAny_setEntries_of → cZB, attributeBase → cZD, behindInMarks → cZE, sysModules → cZI, isSubtype → cZU, pickOrder → cZV, setFlight → cZW, NameKind → cZ0, backToKw → cZ1, wpAny_call → cZ2, plainId_quiet → cZ6, wpAny_attempt → cZ7, wpAny_newList → cZ8, wpAny_standAt → cZ9, holding → cJa, sliceBounds → cJb, valueAt → cJc, getMethod → cJg, noteFrame → cJh, scanBound → cJi, wpAny_field → cJr, builtinLookup_eq_fast → cJy, plainObj_wpAny_Assign_Attribute → cJz, assignEach → cJF, codeAny_call_builtin → cJG, isInstance → cJH, letOwnedTupleGo → cJI, wpAny_execs_nil → cJJ, wpAny_ite_split → cJK, wpAny_rule → cJL, wpAny_fieldsOf → cJU, fits_of_scanBound → cVb, foldedSetIterable → cVc, wpAny_pyIter_list → cVd, wpAny_comprehension_free → cVk
open PySem.Around renaming under_plainId → cXJ
open PySem.Builtin.List renaming listTooLong → cZq, listExtendWith → cZS, listLengthHint → cJV, listSameRef → cVi
open PySem.Builtin.Slice renaming slicePlaces → cZl, sliceAdjust → cJd, sliceApplied → cJ4
open PySem.Builtin.Tuple renaming tupleExact → cZr
open PySem.Calls renaming call_function_entry → cJe, Name_function_global → cJ5
open PySem.Code renaming quiet_builtin → cJW
open PySem.F renaming plainAttrs_list → cQj, slot_list_append → cQr, type_list_append → cQs, called_set → cXG, slot_list_pop → cJw, type_list_pop → cJx, excBase_Exception → cVg, plain_extend_loop → cVh, args_tuple_add_2 → cVj
open PySem.Heap renaming get?_push_of_some → bYS, lt_size → bY0, get?_push_size → cQh, get?_update_other → cQq, get?_update_self → cQS, size_push → cXo, SameBut → cXP, ExtBut → cJp, get?_update_ne → cJM
open PySem.Heap.SameBut renaming update → cXi
open PySem.Obj renaming mapSeq → cQH, mapFields → cQ2, isFreed_of_fields → cXc, data_mapFields → cXf
open PySem.Paired renaming length → cZg
open PySem.PassesOwn renaming never → cQF
open PySem.SeqAt renaming EqAt → cVm
open PySem.SetTable renaming below → cQO, grown → cZp, insertAt → cZN
open PySem.SetTable.below renaming go → cZM
open PySem.SetTable.probe renaming go → cVa
open PySem.Str renaming ofString → cZR
open PySem.W renaming Frag → bYO, mg_none_of → bY2, findIn → cQy, kitOne → cQA, nsIn → cQJ, keepIn → cQK, katRev → cQ1, fnOf → cXa, kia_one → cXs, kia_tup → cXt, codeIn → cXz, emptyDict → cXB, mg_of → cXI, CodeHd → cXR, instObj → cXX, kla_obj → cXY, tabObj → cZo, isFn → cZw, plainGet → cZx, callWith_K → cZG, hasDictIn → cZL, methodCall_KW → cZQ, mroIn → cZ4, kitx_dict → cJl, kitx_list → cJm, plainOver → cJn, specialIn → cJo, codeHdIn → cJv, callWith_K0 → cJP, plainGet_of → cJQ, lookIn → cJT, methodObj → cJ9, KatTups → cVl
open PySem.W.KatTups renaming cons → cJE
open True renaming intro → cXb
theorem dk {p:Prop}[Decidable p](h:decide p=true:=by decide +kernel):p:=of_decide_eq_true h
namespace L2
open PySem PySem.Spec PyProof.Rows
abbrev Key:=Sum Int Str
def aWL:Key->bYM->Bool
 |.inl k,v=>Value.isInt k v
 |.inr x,v=>Value.isStrOf x v
def bYv(w:cQg):Key->Int
 |.inl k=>hashInt k
 |.inr x=>hashStr w x
theorem zC:∀ {k:Key} {v:bYM},aWL k v=true->(∃i t,k=Sum.inl i/\v=Value.int i t)\/(∃x t,k=Sum.inr x/\v=Value.str x t)
 |.inl i,v,h=>by obtain⟨t,e⟩:=Value.isInt_shape (k:=i) (v:=v) h;exact .inl ⟨i,t,rfl,e⟩
 |.inr x,v,h=>by obtain⟨t,e⟩:=Value.isStrOf_shape (x:=x) (v:=v) h;exact .inr ⟨x,t,rfl,e⟩
theorem aYi(i:Int)(t:Tok):aWL (.inl i) (.int i t)=true:=by simp[aWL,Value.isInt]
theorem aYj(x:Str)(t:Tok):aWL (.inr x) (.str x t)=true:=by simp[aWL,Value.isStrOf]
theorem bWM(a b:Int):decide ((Sum.inl a:Key)=Sum.inl b)=(a==b):=by
 by_cases e:a=b
 ·subst e;simp
 ·have h:¬ (Sum.inl a:Key)=Sum.inl b:=λq=>e (Sum.inl.inj q);rw[decide_eq_false h];exact(beq_eq_false_iff_ne.mpr e).symm
theorem bWP(a b:Str):decide ((Sum.inr a:Key)=Sum.inr b)=decide (a=b):=by
 by_cases e:a=b
 ·subst e;simp
 ·have h:¬ (Sum.inr a:Key)=Sum.inr b:=λq=>e (Sum.inr.inj q);rw[decide_eq_false h,decide_eq_false e]
theorem bWN(a:Int)(b:Str):decide ((Sum.inl a:Key)=Sum.inr b)=false:=decide_eq_false (λq=>nomatch q)
theorem bWO(a:Str)(b:Int):decide ((Sum.inr a:Key)=Sum.inl b)=false:=decide_eq_false (λq=>nomatch q)
def zE(prog:bY8)(w:cQg):PySem.KeyKind prog w Key where
 is:=aWL
 hash:=bYv w
 inj:=λv a b ha hb=>by
  rcases zC ha with⟨i,t,rfl,rfl⟩|⟨x,t,rfl,rfl⟩
  ·rcases zC hb with⟨j,u,rfl,e⟩|⟨y,u,rfl,e⟩
   ·injection e with e1 _;rw[e1]
   ·exact nomatch e
  ·rcases zC hb with⟨j,u,rfl,e⟩|⟨y,u,rfl,e⟩
   ·exact nomatch e
   ·injection e with e1 _;rw[e1]
 byValue:=λk v h=>by
  rcases zC h with⟨i,t,rfl,rfl⟩|⟨x,t,rfl,rfl⟩<;> rfl
 pyHash:=λhv h=>by
  rcases zC hv with⟨i,t,rfl,rfl⟩|⟨x,t,rfl,rfl⟩
  ·exact wpAny_pyHash_int h
  ·exact wpAny_pyHash_str h
 eqBool:=λhu hv h=>by
  rcases zC hu with⟨i,t,rfl,rfl⟩|⟨x,t,rfl,rfl⟩
  ·rcases zC hv with⟨j,u,rfl,rfl⟩|⟨y,u,rfl,rfl⟩
   ·rw[bWM]at h;exact wpAny_eqBool_int h
   ·rw[bWN]at h;exact SeqAt.EqAt.int_str i t y u _ _ _ _ h
  ·rcases zC hv with⟨j,u,rfl,rfl⟩|⟨y,u,rfl,rfl⟩
   ·rw[bWO]at h;exact SeqAt.EqAt.str_int x t j u _ _ _ _ h
   ·rw[bWP]at h;exact wpAny_eqBool_str h
 «strs»:=λk x t v h=>by
  rcases zC h with⟨i,u,rfl,e⟩|⟨y,u,rfl,e⟩
  ·exact nomatch e
  ·injection e with e1 _
   subst e1
   cases v<;> rfl
theorem aJV(prog:bY8)(w:cQg)(i:Int)(t:Tok):(zE prog w).is (.inl i) (.int i t)=true:=aYi i t
theorem qI(prog:bY8)(w:cQg)(x:Str)(t:Tok):(zE prog w).is (.inr x) (.str x t)=true:=aYj x t
end L2
namespace L2
open PySem PySem.Spec PyProof.Rows
inductive V where
 |non|bl (b:Bool)|int (i:Int)|str (x:Str)|byt (b:Array UInt8)|flt (b:UInt64)|ref (a:Addr)|ty (n:String)
 deriving DecidableEq
def zI:V->bYM->Prop
 |.non,u=>u=Value.none
 |.bl b,u=>u=Value.bool b
 |.int i,u=>∃t,u=Value.int i t
 |.str x,u=>∃t,u=Value.str x t
 |.byt b,u=>∃t,u=Value.bytes b t
 |.flt b,u=>∃t,u=Value.float b t
 |.ref a,u=>u=Value.ref a
 |.ty n,u=>u=Value.type n
abbrev xY:List V->List bYM->Prop:=cQI zI
theorem xY.length{xs:List V}{us:List bYM}(r:xY xs us):xs.length=us.length:=cZg r
theorem xY.get:∀ {xs:List V} {us:List bYM} {i:Nat} {x:V},xY xs us->xs[i]? =some x->∃u,us[i]? =some u/\zI x u
 |_,_,_,_,.nil,e=>by simp at e
 |_,_,0,_,.cons r _,e=>by simp at e;subst e;exact⟨_,rfl,r⟩
 |_,_,i+1,x,.cons _ t,e=>by obtain⟨u,h1,h2⟩:=xY.get (i:=i) (x:=x) t (by simpa using e);exact⟨u,by simpa using h1,h2⟩
theorem xY.set{x:V}{u:bYM}(r:zI x u):∀ {xs:List V} {us:List bYM} (i:Nat),xY xs us->xY (xs.set i x) (us.set i u)
 |_,_,_,.nil=> .nil
 |_,_,0,.cons _ t=> .cons r t
 |_,_,i+1,.cons q t=> .cons q (xY.set r i t)
theorem xY.append:∀ {xs ys:List V} {us a:List bYM},xY xs us->xY ys a->xY (xs++ys) (us++a)
 |_,_,_,_,.nil,s=>s
 |_,_,_,_,.cons r t,s=> .cons r (xY.append t s)
theorem xY.take:∀ {xs:List V} {us:List bYM} (n:Nat),xY xs us->xY (xs.take n) (us.take n)
 |_,_,0,_=> .nil
 |_,_,_+1,.nil=> .nil
 |_,_,n+1,.cons r t=> .cons r (xY.take n t)
theorem xY.drop:∀ {xs:List V} {us:List bYM} (n:Nat),xY xs us->xY (xs.drop n) (us.drop n)
 |_,_,0,r=>r
 |_,_,_+1,.nil=> .nil
 |_,_,n+1,.cons _ t=>xY.drop n t
def aZz:Option V->Option bYM->Prop
 |some v,some u=>zI v u
 |none,none=>True
 |_,_=>False
def KV{κ:Type}:List (κ×V)->List (κ×bYM)->Prop:=cQI λ(p:κ×V)(q:κ×bYM)=>p.1=q.1/\zI p.2 q.2
def kV:Key->V
 |.inl i=> .int i
 |.inr x=> .str x
inductive HO where
 |lst (xs:List V)
 |tup (xs:List V)
 |dK (kvs:List (Key×V))|dT (kvs:List (List Key×V))
 |set (S:Int->Bool) (n:Nat)
 |ins (C dx:Addr) (fs:List (Str×V))
 |own (x:Addr)
 |xd (fs:List (Str×V))
 |met (f x:Addr)
 |rng (lo hi:Int)
 |frz (o:Obj) (u:HO)
 |tbl (ps:Array bYM)
 |ext (φ:Heap->Prop)
abbrev Hp:=Addr->Option HO
def upd(H:Hp)(a:Addr)(o:HO):Hp:=λb=>if b=a then some o else H b
theorem yB{H:Hp}{a:Addr}{o:HO}:upd H a o a=some o:=by unfold upd;rw[if_pos rfl]
theorem yJ{H:Hp}{a b:Addr}{o:HO}(h:b≠a):upd H a o b=H b:=by unfold upd;rw[if_neg h]
theorem jE{H:Hp}{a:Addr}{o u:HO}:upd (upd H a o) a u=upd H a u:=by
 funext b;unfold upd;split<;> rfl
theorem aXl{H:Hp}{a b:Addr}{o u:HO}(h:H a=some o)(h':H b=some u)(d:o≠u):a≠b:=by
 intro e;subst e;rw[h]at h';exact d (bY6 h')
theorem yI{H:Hp}{a b:Addr}{o:HO}(h:H a=some o)(h':H b=none):a≠b:=by
 intro e;subst e;rw[h]at h';cases h'
section
variable (P:bY8)(w:cQg)
def zG(H:Hp)(h:Heap)(a:Addr):HO->Prop
 |.lst xs=>xs.length<=cQb/\∃ (b:List bYM)(n:Nat),xY xs b/\h.get? a=some {cls:= .type "list",data:= .seq b.toArray n}
 |.tup xs=>xs.length<=cQb/\∃b:List bYM,xY xs b/\cZF h a b.toArray
 |.dK c=>c.length<=cQb/\(a==cZI)=false/\∃d,KV c d/\h.DictOf (zE P w) a d
 |.dT c=>c.length<=cQb/\(a==cZI)=false/\∃xs:List (List Key×Addr×bYM),
   cQI (λ(p:List Key×V)(q:List Key×Addr×bYM)=>p.1=q.1/\H q.2.1=some (.tup (p.1.map kV))/\zI p.2 q.2.2) c xs/\
   ∃o es e,h.get? a=some o/\o.ExactDict/\o.data= .dict es e/\es.toList=xs.map (entryOfKey (tupleKind (zE P w)))/\(xs.map (·.1)).Nodup
 |.set S n=>h.SetOf (intKind P w) a S n
 |.ins C dx fs=>H dx=some (.own a)/\fs.length<=1000/\dx≠a/\h.get? a=some (cXX C dx)/\
   ∃mA,h.Ns1 dx mA/\(∀f,aZz (fs.lookup f) (mA f))/\PySem.Within mA (fs.map (·.1))
 |.own _=>∃o,h.get? a=some o
 |.xd fs=>∃mA,h.Ns1 a mA/\∀f,aZz (fs.lookup f) (mA f)
 |.rng lo hi=>∃t u v,h.get? a=some {cls:= .type "range",data:= .fields #[.int lo t,.int hi u,.int 1 v] }
 |.frz o u=>h.get? a=some o/\zG H h a u
 |.tbl ps=>h.get? a=some {cls:= .none,data:= .fields ps}
 |.met f x=>h.get? a=some (cJ9 (.ref f) (.ref x))
 |.ext φ=>φ h/\(∃o,h.get? a=some o)/\∀h1 h2:Heap,φ h1->(∀o,h1.get? a=some o->h2.get? a=some o)->φ h2
def HOk(H:Hp)(h:Heap):Prop:=∀a o,H a=some o->zG P w H h a o
end
section
variable {P:bY8}{w:cQg}{H H':Hp}{h h':Heap}{a:Addr}{o:HO}
theorem zG.lt(x:zG P w H h a o):a<h.objs.size:=by
 cases o with
 |lst xs=>obtain⟨_,_,_,_,e⟩:=x;exact bY0 e
 |tup xs=>obtain⟨_,_,_,p⟩:=x;exact p.lt
 |dK b=>obtain⟨_,_,_,_,o,_,_,e,_⟩:=x;exact bY0 e
 |dT b=>obtain⟨_,_,_,_,o,_,_,e,_⟩:=x;exact bY0 e
 |set S n=>obtain⟨o,_,_,_,e,_⟩:=x;exact bY0 e
 |ins C dx fs=>obtain⟨_,_,_,e,_⟩:=x;exact bY0 e
 |own y=>obtain⟨_,e⟩:=x;exact bY0 e
 |xd fs=>obtain⟨_,⟨_,_,_,e,_⟩,_⟩:=x;exact bY0 e
 |rng lo hi=>obtain⟨_,_,_,e⟩:=x;exact bY0 e
 |frz c u=>obtain⟨e,_⟩:=x;exact bY0 e
 |tbl ps=>exact bY0 (show h.get? a=some _ from x)
 |met f y=>exact bY0 (show h.get? a=some _ from x)
 |ext φ=>obtain⟨_,⟨_,e⟩,_⟩:=x;exact bY0 e
theorem Paired.mapP{α β:Type}{F G:α->β->Prop}:∀ {d:List α} {c:List β},cQI F d c->(∀a b,F a b->G a b)->cQI G d c
 |_,_,.nil,_=> .nil
 |_,_,.cons r t,f=> .cons (f _ _ r) (Paired.mapP t f)
theorem zG.stay(x:zG P w H h a o)(k:∀b u,(b=a\/H b=some (.own a))->h.get? b=some u->h'.get? b=some u) (E:∀b,H b=some (.own a)->H' b=some (.own a)) (A:∀b xs,H b=some (.tup xs)->H' b=some (.tup xs)):zG P w H' h' a o:=by
 induction o with
 |lst xs=>obtain⟨z,j,n,r,e⟩:=x;exact⟨z,j,n,r,k _ _ (.inl rfl) e⟩
 |tup xs=>obtain⟨z,j,r,g,e,c⟩:=x;exact⟨z,j,r,g,k _ _ (.inl rfl) e,c⟩
 |dK m=>obtain⟨z,y,B,r,g,es,i,e,c⟩:=x;exact⟨z,y,B,r,g,es,i,k _ _ (.inl rfl) e,c⟩
 |dT m=>obtain⟨z,y,xs,r,g,es,i,e,c⟩:=x;exact⟨z,y,xs,Paired.mapP r λp q z=>⟨z.1,A _ _ z.2.1,z.2.2⟩,g,es,i,k _ _ (.inl rfl) e,c⟩
 |set S n=>obtain⟨g,es,i,t,e,c⟩:=x;exact⟨g,es,i,t,k _ _ (.inl rfl) e,c⟩
 |ins C dx fs=>obtain⟨d,z,ne,e,mA,⟨l,es,i,D,c⟩,r⟩:=x;exact⟨E _ d,z,ne,k _ _ (.inl rfl) e,mA,⟨l,es,i,k _ _ (.inr d) D,c⟩,r⟩
 |own y=>obtain⟨g,e⟩:=x;exact⟨g,k _ _ (.inl rfl) e⟩
 |xd fs=>obtain⟨mA,⟨l,es,i,e,c⟩,r⟩:=x;exact⟨mA,⟨l,es,i,k _ _ (.inl rfl) e,c⟩,r⟩
 |rng lo hi=>obtain⟨t,u,v,e⟩:=x;exact⟨t,u,v,k _ _ (.inl rfl) e⟩
 |frz g u s=>obtain⟨e,q⟩:=x;exact⟨k _ _ (.inl rfl) e,s q⟩
 |tbl ps=>have e:h.get? a=some {cls:= .none,data:= .fields ps}:=x;show h'.get? a=some {cls:= .none,data:= .fields ps};exact k a _ (.inl rfl) e
 |met f y=>have e:h.get? a=some (cJ9 (.ref f) (.ref y)):=x;show h'.get? a=some (cJ9 (.ref f) (.ref y));exact k a _ (.inl rfl) e
 |ext φ=>obtain⟨p,⟨o,e⟩,st⟩:=x;exact⟨st _ _ p λo q=>k _ _ (.inl rfl) q,⟨o,k _ _ (.inl rfl) e⟩,st⟩
theorem HOk.lt(x:HOk P w H h)(e:H a=some o):a<h.objs.size:=(x a o e).lt
theorem HOk.fresh(x:HOk P w H h)(e:h.objs.size<=a):H a=none:=by
 cases q:H a with
 |none=>rfl
 |some u=>exact absurd (cQf (x.lt q) e) (cQ0 _)
theorem HOk.kept(x:HOk P w H h)(k:∀b u,h.get? b=some u->h'.get? b=some u):HOk P w H h':=λa o e=>
 (x a o e).stay (λb u _ q=>k b u q) (λ_ q=>q) λ_ _ q=>q
theorem HOk.laid(x:HOk P w H h)(k:∀b u,h.get? b=some u->h'.get? b=some u)(i:h.objs.size<=a)(d:zG P w (upd H a o) h' a o):HOk P w (upd H a o) h':=λb u e=>by
 have f:=x.fresh i;by_cases g:b=a
 ·subst g;rw[yB]at e;cases e;exact d
 ·rw[yJ g]at e;exact(x b u e).stay (λc v _ q=>k c v q) (λc q=>by rw[yJ (yI q f)];exact q) λc xs q=>by rw[yJ (yI q f)];exact q
end
def Rd(H:Hp)(a:Addr)(u:HO):Prop:=H a=some u\/∃o,H a=some (.frz o u)
theorem Rd.ok{P:bY8}{w:cQg}{H:Hp}{h:Heap}{a:Addr}{u:HO}(r:Rd H a u)(x:HOk P w H h):zG P w H h a u:=by
 rcases r with r|⟨o,r⟩
 ·exact x a u r
 ·obtain⟨_,q⟩:=x a _ r;exact q
def Mut:Option HO->Prop
 |some (.lst _)=>True
 |some (.dK _)=>True
 |some (.dT _)=>True
 |some (.set _ _)=>True
 |some (.ins _ _ _)=>True
 |some (.ext _)=>True
 |_=>False
section
variable {P:bY8}{w:cQg}{H:Hp}{h h':Heap}{x e:Addr}{o':HO}
theorem HOk.write(ok:HOk P w H h)(g:Mut (H x))(o:e=x\/H e=some (.own x))(k:∀b u,b≠e->h.get? b=some u->h'.get? b=some u)(l:∃u,h'.get? e=some u)
  (m:zG P w (upd H x o') h' x o'):HOk P w (upd H x o') h':=λb u q=>by
 have d:∀c y,H c=some (.own y)->c≠x:=λc y r z=>by subst z;rw[r]at g;exact g
 have f:∀c xs,H c=some (.tup xs)->c≠x:=λc xs r z=>by subst z;rw[r]at g;exact g
 by_cases i:b=x
 ·subst i;rw[yB]at q;cases q;exact m
 ·rw[yJ i]at q;by_cases a:b=e
  ·have n:H b=some (.own x):=by
    rcases o with z|z
    ·exact absurd (a.trans z) i
    ·rw[a];exact z
   rw[q]at n;cases n;obtain⟨v,p⟩:=l;exact⟨v,by rw[a];exact p⟩
  ·refine(ok b u q).stay (λc v j r=>k c v ?_ r) (λc r=>by rw[yJ (d c b r)];exact r) λc xs r=>by rw[yJ (f c xs r)];exact r
   rcases j with rfl|j
   ·exact a
   ·rintro rfl;rcases o with z|z
    ·exact d c b j z
    ·rw[j]at z;cases z;exact i rfl
end
structure Un(fs ex:List Addr)(H H':Hp)(h h':Heap):Prop where
 keep:∀b o,h.get? b=some o->H b=none->b∉fs->b∉ex->h'.get? b=some o
 slot:∀b o,h.get? b=some o->H b=none->b∈fs->b∉ex->∃sl,h'.get? b=some {o with slots:=sl}
 free:∀b o,h.get? b=some o->H b=none->b∉ex->H' b=none
 there:∀b o,h.get? b=some o->b∉ex->∃o',h'.get? b=some o'
 tups:∀b xs,H b=some (.tup xs)->H' b=some (.tup xs)
 frzs:∀b o u,H b=some (.frz o u)->H' b=some (.frz o u)
 tbls:∀b ps,H b=some (.tbl ps)->∃more,H' b=some (.tbl (ps++more))
section
variable {fs fs' ex ex':List Addr}{H H1 H2:Hp}{h h1 h2 h':Heap}{a x e:Addr}{o:HO}
theorem Un.any(u:Un fs ex H H1 h h1){b:Addr}{a:Obj}(q:h.get? b=some a)(n:H b=none)(c:b∉ex):∃e,h1.get? b=some {a with slots:=e}:=by
 by_cases d:b∈fs
 ·exact u.slot b a q n d c
 ·exact⟨a.slots,u.keep b a q n d c⟩
theorem Un.kept(k:∀b u,h.get? b=some u->h'.get? b=some u):Un fs ex H H h h':=
 ⟨λb a q _ _ _=>k b a q,λb a q _ _ _=>⟨a.slots,k b a q⟩,λ_ _ _ n _=>n,λb a q _=>⟨a,k b a q⟩,λ_ _ q=>q,λ_ _ _ q=>q,λ_ ps q=>⟨#[],by rw[q];simp⟩⟩
theorem Un.refl:Un fs ex H H h h:=Un.kept λ_ _ q=>q
theorem Un.laid(k:∀b u,h.get? b=some u->h'.get? b=some u)(hp:h.objs.size<=a)(hn:H a=none):Un fs ex H (upd H a o) h h' where
 keep:=λb u q _ _ _=>k b u q
 slot:=λb u q _ _ _=>⟨u.slots,k b u q⟩
 free:=λb u q n _=>by rw[yJ (cQd (cQf (bY0 q) hp))];exact n
 there:=λb u q _=>⟨u,k b u q⟩
 tups:=λb xs q=>by rw[yJ (yI q hn)];exact q
 frzs:=λb u xs q=>by rw[yJ (yI q hn)];exact q
 tbls:=λb ps q=>⟨#[],by rw[yJ (yI q hn),q];simp⟩
theorem Un.write(c:Mut (H x))(j:e=x\/H e=some (.own x))(k:∀b u,b≠e->h.get? b=some u->h'.get? b=some u)(f:∃u,h'.get? e=some u):Un fs ex H (upd H x o) h h':=by
 have i:∀b,H b=none->b≠x:=λb n z=>by subst z;rw[n]at c;exact c
 have g:∀b,H b=none->b≠e:=λb n z=>by
  subst z;rcases j with r|r
  ·exact i b n r
  ·rw[n]at r;cases r
 have d:∀b u,H b=some u->¬Mut (some u)->b≠x:=λb u q nm z=>by subst z;rw[q]at c;exact nm c
 refine⟨λb u q n _ _=>k b u (g b n) q,λb u q n _ _=>⟨u.slots,k b u (g b n) q⟩,λb u q n _=>by rw[yJ (i b n)];exact n,λb u q _=>?_,
  λb xs q=>by rw[yJ (d b _ q λz=>z)];exact q,λb u xs q=>by rw[yJ (d b _ q λz=>z)];exact q,λb ps q=>⟨#[],by rw[yJ (d b _ q λz=>z),q];simp⟩⟩
 by_cases a:b=e
 ·subst a;exact f
 ·exact⟨u,k b u a q⟩
end
def trk(h:Heap)(H:Hp):List Addr:=(bYW h.objs.size).filter λa=>(H a).isSome
def aYd(h:Heap)(H:Hp):Heap:=PySem.W.hideAll h (trk h H)
theorem aYe(h:Heap)(H:Hp):(aYd h H).objs.size=h.objs.size:=PySem.W.hideAll_size _ _
theorem bXu{h:Heap}{H:Hp}{b:Addr}{o:Obj}(e:h.get? b=some o)(n:H b=none):(aYd h H).get? b=some o:=
 PySem.W.hideAll_get _ e λa=>by have q:(H b).isSome=true:=(cQE.mp a).2;rw[n]at q;simp at q
theorem bVh{h:Heap}{H:Hp}{b:Addr}{o:Obj}(e:(aYd h H).get? b=some o):h.get? b=some o/\H b=none:=by
 have a:h.get? b=some o:=PySem.W.of_hideAll (trk h H) e;refine⟨a,?_⟩;cases q:H b with
 |none=>rfl
 |some x=>have c:b∈trk h H:=cQE.mpr ⟨cQi.mpr (bY0 a),by simp[q]⟩;have z:(aYd h H).get? b=none:=PySem.W.hideAll_none (trk h H) c;rw[z]at e;cases e
def bJO(g h:Heap)(L:Addr):List (Addr×Obj):=(bYW h.objs.size).filterMap λa=>if a=L\/(g.get? a).isSome=true then none else(h.get? a).map λo=>(a,o)
def jV(g h:Heap)(L d:Addr):List (Addr×Obj):=(bJO g h L).filter λp=>decide (p.1≠d)
end L2
namespace L2
open PySem PySem.Spec PyProof.Rows
structure Mod(K:bYO)(mg:Str->Option bYM)(base:Heap):Prop where
 kin:K.In base
 glob:base.Ns cQm mg
 blt:∃mb,base.Ns builtinsNs mb/\∀x:Str,x≠"__name__"->mb x=cQw x
 nolimit:base.NoLimit
structure Cx where
 prog:bY8
 w:cQg
 K:bYO
 mg:Str->Option bYM
 base:Heap
 A:cQv
 N:List Str
 s₀:bYP
 H₀:Hp
 env:Env
 outer:List Env
 stack:List Env
 ex:List Addr
 fn:Str->Bool
 calm:Bool
 pn:List (Addr×Obj)
 xe:bYM->bYP->Prop
def frs(l:List Env):List Addr:=l.filterMap (·.frame)
abbrev Cx.fs(X:Cx):List Addr:=frs X.outer
def Vis(a:cXZ)(x:Str):Prop:=a.names.lookup x=some .local\/a.names.lookup x=some .cell\/a.names.lookup x=some .free
def Loc(a:cXZ)(x:Str):Prop:=a.names.lookup x=some .local\/a.names.lookup x=some .cell
def bYq(env:Env)(h:Heap)(m:Str->Option bYM)(x:Str)(u:bYM):Prop:=
 (env.kindOf x=some .local/\m x=some u)\/((env.kindOf x=some .cell\/env.kindOf x=some .free)/\∃c,env.cells.lookup x=some c/\h.IsCell c (some u))
structure Cx.Ok(X:Cx):Prop where
 mod:Mod X.K X.mg X.base
 kind:X.env.scope.kind= .function
 glob:X.env.globals=cQm
 blt:X.env.builtins=builtinsNs
 above:X.s₀.heap.objs.size<=X.env.locals
 inj:∀x y c,X.env.cells.lookup x=some c->X.env.cells.lookup y=some c->x=y
 has:∀x,(X.env.kindOf x=some .cell\/X.env.kindOf x=some .free)->∃c,X.env.cells.lookup x=some c
 cab:∀x c,X.fn x=true->X.env.cells.lookup x=some c->X.s₀.heap.objs.size<=c
 hd:X.calm=true->X.A.handled=none
 frames:X.A.frames=some X.stack
 stk:X.stack=X.outer\/(X.stack=X.env::X.outer/\X.env.frame=some X.env.locals)
 exf:∀b∈X.ex,b≠X.env.locals/\∀x c,X.env.cells.lookup x=some c->c≠b
 bs:∀b o,X.base.get? b=some o->X.s₀.heap.get? b=some o/\X.H₀ b=none
 bsz:X.base.objs.size<=X.s₀.heap.objs.size
 noex:∀b o,X.base.get? b=some o->b∉X.ex
 exfs:∀b∈X.ex,b∉X.fs
 funs:X.s₀.heap.FunFrames X.base X.outer
 frf:∀b∈X.fs,X.H₀ b=none
structure Inv(X:Cx)(pins:List (Addr×Obj))(σ:List (Option V))(H:Hp)(s:bYP):Prop where
 ok:X.Ok
 os:s.os=X.s₀.os
 bare:AllBare s.gens
 base:Un X.fs X.ex X.H₀ H X.s₀.heap s.heap
 loc:∃m,s.heap.Ns X.env.locals m/\∀ (i:Nat)(x:Str)(v:V),X.N[i]? =some x->σ[i]? =some (some v)->Vis X.env.scope x->∃u,zI v u/\bYq X.env s.heap m x u
 cell:∀x c,X.env.cells.lookup x=some c->∃v,s.heap.IsCell c v
 free:H X.env.locals=none
 freeC:∀x c,X.env.cells.lookup x=some c->H c=none
 pin:∀p∈X.pn++pins,s.heap.get? p.1=some p.2/\H p.1=none/\p.1≠X.env.locals/\p.1∉X.fs/\∀v,p.2.data≠ .cell v
 hok:HOk X.prog X.w H s.heap
 len:σ.length=X.N.length
section
variable {X:Cx}{pins:List (Addr×Obj)}{σ:List (Option V)}{H H':Hp}{s:bYP}{h':Heap}
theorem Cx.Ok.nofr(ok:X.Ok){b:Addr}{o:Obj}(e:X.base.get? b=some o):b∉X.fs:=λa=>by
 have:=(ok.funs.mem a).1;rw[e]at this;cases this
theorem Inv.bs(I:Inv X pins σ H s):∀b o,X.base.get? b=some o->s.heap.get? b=some o/\H b=none:=λb o e=>
 ⟨I.base.keep b o (I.ok.bs b o e).1 (I.ok.bs b o e).2 (I.ok.nofr e) (I.ok.noex b o e),I.base.free b o (I.ok.bs b o e).1 (I.ok.bs b o e).2 (I.ok.noex b o e)⟩
theorem Inv.bk(I:Inv X pins σ H s):∀b o,X.base.get? b=some o->s.heap.get? b=some o:=λb o e=>(I.bs b o e).1
theorem Inv.mod(I:Inv X pins σ H s):Mod X.K X.mg X.base:=I.ok.mod
theorem Inv.kIn(I:Inv X pins σ H s):X.K.In s.heap:=I.ok.mod.kin.keeps I.bk
theorem Inv.nolimit(I:Inv X pins σ H s):s.heap.NoLimit:=I.ok.mod.nolimit.keeps I.bk
theorem Inv.lt(I:Inv X pins σ H s):X.env.locals<s.heap.objs.size:=let ⟨_,hn,_⟩:=I.loc;hn.lt
theorem Inv.sz(I:Inv X pins σ H s):X.s₀.heap.objs.size<=s.heap.objs.size:=cQo I.ok.above (cZu I.lt)
theorem Inv.nofs(I:Inv X pins σ H s){a:Addr}(h:s.heap.objs.size<=a):a∉X.fs:=λb=>by
 obtain⟨_,o,c,_⟩:=I.ok.funs.mem b;exact absurd (cQf (bY0 c) (cQo I.sz h)) (cQ0 _)
theorem Inv.cne(I:Inv X pins σ H s):∀x c,X.env.cells.lookup x=some c->c≠X.env.locals:=λx c e z=>by
 obtain⟨v,o,f,d⟩:=I.cell x c e;obtain⟨m,⟨o',es,g,b,a,_⟩,_⟩:=I.loc;rw[z,b]at f;cases f;rw[a]at d;cases d
theorem Inv.funs(I:Inv X pins σ H s):s.heap.FunFrames X.base X.outer:=by
 have all:∀ (l:List Env),(∀b∈frs l,b∈X.fs)->X.s₀.heap.FunFrames X.base l->s.heap.FunFrames X.base l:=by
  intro l;induction l with
  |nil=>intro _ _;trivial
  |cons env r i=>intro f hl;obtain⟨h,⟨L,o,d,k,m,j⟩,g⟩:=hl;have c:L∈X.fs:=f L (by unfold frs;rw[cZz,d];exact bY4);obtain⟨n,e⟩:=I.base.slot L o m (I.ok.frf L c) c λz=>I.ok.exfs L z c;exact⟨h,⟨L,_,d,k,e,j⟩,i (λb a=>f b (by unfold frs;rw[cZz,d];exact bYZ _ a)) g⟩
 exact all X.outer (λ_ a=>a) I.ok.funs
theorem Inv.stack(I:Inv X pins σ H s):s.heap.FunFrames X.base X.stack:=by
 rcases I.ok.stk with e|⟨e,a⟩
 ·rw[e];exact I.funs
 ·rw[e];obtain⟨m,b,_⟩:=I.loc;refine .cons (by rw[I.ok.kind];decide) a b ?_ I.funs;exact Heap.get?_none_of_le (cQo I.ok.bsz I.ok.above)
theorem Inv.stkSub(I:Inv X pins σ H s):∀b∈frs X.stack,b∈X.env.locals::X.fs:=λb a=>by
 rcases I.ok.stk with e|⟨e,c⟩
 ·rw[e]at a;exact bYZ _ a
 ·rw[e]at a;unfold frs at a;rw[cZz,c]at a;exact a
theorem Inv.stkFree(I:Inv X pins σ H s):∀b∈frs X.stack,H b=none:=λb a=>by
 rcases bYX.mp (I.stkSub b a)with e|a
 ·rw[e];exact I.free
 ·obtain⟨_,o,c,_⟩:=I.ok.funs.mem a;exact I.base.free b o c (I.ok.frf b a) λz=>I.ok.exfs b z a
theorem Inv.step{g':Array GenState}{t':Nat}{d':Drawn}{ch:List Addr}(I:Inv X pins σ H s) (h:∀b∈ch,(b∈X.ex\/X.s₀.heap.objs.size<=b)/\b≠X.env.locals/\(∀x c,X.env.cells.lookup x=some c->c≠b)/\∀p∈X.pn++pins,p.1≠b) (keep:∀b o,b≠X.env.locals->b∉X.fs->b∉ch->s.heap.get? b=some o->H b=none->h'.get? b=some o) (A:∀b o,b≠X.env.locals->b∈X.fs->b∉ch->s.heap.get? b=some o->H b=none->∃K,h'.get? b=some {o with slots:=K}) (f:∀b o,b∉ch->s.heap.get? b=some o->H b=none->H' b=none) (there:∀b o,b∉ch->s.heap.get? b=some o->∃o',h'.get? b=some o') (E:∀b xs,H b=some (.tup xs)->H' b=some (.tup xs)) (D:∀b o u,H b=some (.frz o u)->H' b=some (.frz o u)) (F:∀b ps,H b=some (.tbl ps)->∃more,H' b=some (.tbl (ps++more))) (S:∀m,s.heap.Ns X.env.locals m->h'.Ns X.env.locals m) (M:HOk X.prog X.w H' h') (T:AllBare g'): Inv X pins σ H' {s with heap:=h',gens:=g',drawn:=d',toks:=t'}:=by
 have G:∀b o,X.s₀.heap.get? b=some o->b≠X.env.locals:=λb o e=>cQd (cQf (bY0 e) I.ok.above);have t:∀b o,X.s₀.heap.get? b=some o->b∉X.ex->b∉ch:=λb o e a B=>by
  rcases(h b B).1 with z|z
  ·exact a z
  ·exact absurd (cQf (bY0 e) z) (cQ0 _)
 have g:∀x c,X.env.cells.lookup x=some c->∀v,s.heap.IsCell c v->h'.IsCell c v:=λx c e v ⟨o,C,N⟩=>by
  have j:c∉ch:=λz=>(h c z).2.2.1 x c e rfl;by_cases P:c∈X.fs
  ·obtain⟨K,q⟩:=A c o (I.cne x c e) P j C (I.freeC x c e);exact⟨_,q,N⟩
  ·exact⟨o,keep c o (I.cne x c e) P j C (I.freeC x c e),N⟩
 refine⟨I.ok,I.os,T,⟨λb o e n B a=>?_,λb o e n B a=>?_,λb o e n a=>?_,λb o e a=>?_,λb xs e=>E b xs (I.base.tups b xs e),λb o xs e=>D b o xs (I.base.frzs b o xs e),λb ps e=>?_⟩,?_,λx c e=>?_,?_,λx c e=>?_,λp Q=>?_,M,I.len⟩
 ·exact keep b o (G b o e) B (t b o e a) (I.base.keep b o e n B a) (I.base.free b o e n a)
 ·obtain⟨K,y⟩:=I.base.slot b o e n B a;obtain⟨L,J⟩:=A b _ (G b o e) B (t b o e a) y (I.base.free b o e n a);exact⟨L,J⟩
 ·obtain⟨o',y⟩:=I.base.there b o e a;exact f b o' (t b o e a) y (I.base.free b o e n a)
 ·obtain⟨o',y⟩:=I.base.there b o e a;exact there b o' (t b o e a) y
 ·obtain⟨V,y⟩:=I.base.tbls b ps e;obtain⟨R,J⟩:=F b _ y;exact⟨V++R,by rw[J,Array.append_assoc]⟩
 ·obtain⟨m,W,hl⟩:=I.loc;refine⟨m,S m W,λi x v y J U=>?_⟩;obtain⟨u,r,l⟩:=hl i x v y J U;refine⟨u,r,?_⟩;rcases l with l|⟨k,c,e,z⟩
  ·exact .inl l
  ·exact .inr ⟨k,c,e,g x c e _ z⟩
 ·obtain⟨v,z⟩:=I.cell x c e;exact⟨v,g x c e v z⟩
 ·obtain⟨m,⟨o,_,_,C,_⟩,_⟩:=I.loc;exact f _ o (λz=>(h _ z).2.1 rfl) C I.free
 ·obtain⟨v,o,C,N⟩:=I.cell x c e;exact f c o (λz=>(h c z).2.2.1 x c e rfl) C (I.freeC x c e)
 ·obtain⟨e,n,ne,O,d⟩:=I.pin p Q;have j:p.1∉ch:=λz=>(h p.1 z).2.2.2 p Q rfl;exact⟨keep p.1 p.2 ne O j e n,f p.1 p.2 j e n,ne,O,d⟩
theorem Inv.un{t':Nat}(I:Inv X pins σ H s)(u:Un X.fs [] H H' s.heap h')(f:HOk X.prog X.w H' h'):Inv X pins σ H' {s with heap:=h',toks:=t'}:=by
 obtain⟨m,⟨o,es,q,h,r⟩,_⟩:=id I.loc;obtain⟨l,j⟩:=u.any h I.free (by simp);exact I.step (g':=s.gens) (d':=s.drawn) (ch:= []) (λ_ z=>nomatch z) (λb o _ d _ e n=>u.keep b o e n d (by simp)) (λb o _ d _ e n=>u.slot b o e n d (by simp)) (λb o _ e n=>u.free b o e n (by simp)) (λb o _ e=>u.there b o e (by simp)) u.tups u.frzs u.tbls (λp i=>by
  obtain⟨o',g,c,a,k⟩:=i;rw[h]at a;cases a;exact⟨_,g,c,j,k⟩) f I.bare
theorem Inv.call{g':Array GenState}{t':Nat}{d':Drawn}{ch:List Addr}(I:Inv X pins σ H s)(u:Un (frs X.stack) ch H H' s.heap h')(h:HOk X.prog X.w H' h')(l:AllBare g') (f:∀b∈ch,(b∈X.ex\/X.s₀.heap.objs.size<=b)/\b≠X.env.locals/\(∀x c,X.env.cells.lookup x=some c->c≠b)/\∀p∈X.pn++pins,p.1≠b): Inv X pins σ H' {s with heap:=h',gens:=g',drawn:=d',toks:=t'}:=by
 obtain⟨m,⟨o,es,B,k,r⟩,_⟩:=id I.loc;obtain⟨y,i⟩:=u.any k I.free λz=>(f _ z).2.1 rfl;exact I.step (ch:=ch) f (λb o i t a e n=>u.keep b o e n (λz=>(bYX.mp (I.stkSub b z)).elim i t) a) (λb o _ _ a e n=>u.any e n a) (λb o a e n=>u.free b o e n a) (λb o a e=>u.there b o e a) u.tups u.frzs u.tbls (λA q=>by
  obtain⟨o',j,g,d,v⟩:=q;rw[k]at d;cases d;exact⟨_,j,g,i,v⟩) h l
theorem Inv.turned{t':Nat}{it:Addr}(I:Inv X pins σ H s)(k:∀b o,b≠it->s.heap.get? b=some o->h'.get? b=some o)(l:H it=none)(f:it≠X.env.locals) (h1:it∈X.ex\/X.s₀.heap.objs.size<=it) (h2:∀x c,X.env.cells.lookup x=some c->c≠it) (g:∀p∈X.pn++pins,p.1≠it):Inv X pins σ H {s with heap:=h',toks:=t'}:=by
 have d:∀b u,H b=some u->b≠it:=λb u e z=>by rw[z,l]at e;cases e
 refine I.step (g':=s.gens) (d':=s.drawn) (ch:= [it]) (λb i=>?_) (λb o _ _ a e _=>k b o (λz=>a (by simp[z])) e) (λb o _ _ a e _=>⟨o.slots,k b o (λz=>a (by simp[z])) e⟩) (λ_ _ _ _ n=>n)
  (λb o a e=>⟨o,k b o (λz=>a (by simp[z])) e⟩) (λ_ _ e=>e) (λ_ _ _ e=>e) (λb ps e=>⟨#[],by rw[e];simp⟩) (λm h=>?_) (λb u e=>?_) I.bare
 ·have e:b=it:=by simpa using i
  subst e;exact⟨h1,f,h2,g⟩
 ·obtain⟨o,es,j,t,r⟩:=h;exact⟨o,es,j,k _ o (cQu f) t,r⟩
 ·refine(I.hok b u e).stay (λc v a q=>k c v ?_ q) (λ_ q=>q) λ_ _ q=>q;rcases a with z|z
  ·rw[z];exact d b u e
  ·exact d c _ z
theorem Inv.tok(I:Inv X pins σ H s)(t:Nat):Inv X pins σ H {s with toks:=t}:=I.un (h':=s.heap) (t':=t) Un.refl I.hok
theorem Inv.kept{t':Nat}(I:Inv X pins σ H s)(k:∀b u,s.heap.get? b=some u->h'.get? b=some u):Inv X pins σ H {s with heap:=h',toks:=t'}:=I.un (Un.kept k) (I.hok.kept k)
theorem Inv.laid{a:Addr}{o:HO}{t':Nat}(I:Inv X pins σ H s)(k:∀b u,s.heap.get? b=some u->h'.get? b=some u)(c:s.heap.objs.size<=a)(d:zG X.prog X.w (upd H a o) h' a o):
  Inv X pins σ (upd H a o) {s with heap:=h',toks:=t'}:=I.un (Un.laid k c (I.hok.fresh c)) (I.hok.laid k c d)
theorem Inv.write{x e:Addr}{o:HO}{t':Nat}(I:Inv X pins σ H s)(f:Mut (H x))(d:e=x\/H e=some (.own x))(k:∀b u,b≠e->s.heap.get? b=some u->h'.get? b=some u)(a:∃u,h'.get? e=some u)
  (c:zG X.prog X.w (upd H x o) h' x o):Inv X pins σ (upd H x o) {s with heap:=h',toks:=t'}:=I.un (Un.write f d k a) (I.hok.write f d k a c)
theorem Inv.pins_of{a:List (Addr×Obj)}(I:Inv X pins σ H s)(h:∀p∈a,s.heap.get? p.1=some p.2/\H p.1=none/\p.1≠X.env.locals/\p.1∉X.fs/\∀v,p.2.data≠ .cell v):Inv X a σ H s:=
 ⟨I.ok,I.os,I.bare,I.base,I.loc,I.cell,I.free,I.freeC,λp b=>(cQn.mp b).elim (λz=>I.pin p (cXV _ z)) (h p),I.hok,I.len⟩
theorem aVT{N:List Str}(e:N.Nodup){i j:Nat}{x:Str}(a:N[i]? =some x)(b:N[j]? =some x):i=j:=by
 obtain⟨h1,d⟩:=bYY.mp a;obtain⟨h2,c⟩:=bYY.mp b;exact(cXE e).mp (d.trans c.symm)
theorem aXb{M:Model}{A:cQv}{E:bYM->bYP->Prop}{i:Nat}{x:Str}{v:V}{u:bYM}{Q:Unit->bYP->Prop}(I:Inv X pins σ H s)(hN:X.N.Nodup)(hi:X.N[i]? =some x)(B:Loc X.env.scope x)(r:zI v u) (h:∀s',Inv X pins (σ.set i (some v)) H s'->(∃a,cXP a s.heap s'.heap/\(a=X.env.locals\/X.env.cells.lookup x=some a))->Q () s') (hf:X.fn x=true\/X.env.scope.names.lookup x=some .local:=by first|exact .inl rfl|exact .inr rfl|assumption):bYU M A (storeName X.env x u) Q E s:=by
 obtain⟨m,hn,hl⟩:=id I.loc;have O:(X.env.scope.kind== .class || (X.env.scope.kind== .module && X.env.locals !=X.env.globals))=false:=by rw[I.ok.kind];rfl
 have hiσ:i<σ.length:=by rw[I.len];exact(bYY.mp hi).1
 have cne:=I.cne;have g:∀ {a:Addr} {h':Heap},(∃o,s.heap.get? a=some o/\H a=none)->cXP a s.heap h'->HOk X.prog X.w H h':=λ{a h'} ha f b ob e=>by
  obtain⟨_,_,C⟩:=ha;refine(I.hok b ob e).stay (λc U t q=>(f.2 c ?_).trans q) (λ_ q=>q) λ_ _ q=>q;rintro rfl;rcases t with rfl|t
  ·rw[C]at e;cases e
  ·rw[C]at t;cases t
 rcases B with F|F
 ·refine wpAny_storeName_local F hn (λh' W f=>?_) O;obtain⟨oL,_,_,Y,_⟩:=id hn;refine h _ ⟨I.ok,I.os,I.bare,⟨λb o e n J B=>?_,λb o e n J B=>?_,I.base.free,λb o e B=>?_,I.base.tups,I.base.frzs,I.base.tbls⟩,⟨_,W,λj y v' l D e3=>?_⟩,λy c e=>?_,I.free,I.freeC,λp hp=>?_,g ⟨oL,Y,I.free⟩ f,by simpa using I.len⟩ ⟨_,f,.inl rfl⟩
  ·exact(f.2 b (cQd (cQf (bY0 e) I.ok.above))).trans (I.base.keep b o e n J B)
  ·obtain⟨sl,l⟩:=I.base.slot b o e n J B;exact⟨sl,(f.2 b (cQd (cQf (bY0 e) I.ok.above))).trans l⟩
  ·obtain⟨o',l⟩:=I.base.there b o e B;exact⟨o',(f.2 b (cQd (cQf (bY0 e) I.ok.above))).trans l⟩
  ·by_cases G:j=i
   ·subst G;rw[hi]at l;cases l;rw[cX6 hiσ]at D;cases D;exact⟨u,r,.inl ⟨F,by simp⟩⟩
   ·rw[cZY (cQu G)]at D;obtain⟨u',r',q⟩:=hl j y v' l D e3;refine⟨u',r',?_⟩;rcases q with⟨k,e⟩|⟨k,c,e,z⟩
    ·refine .inl ⟨k,?_⟩;have:y≠x:=λe=>G (aVT hN l (e ▸ hi));simp[this,e]
    ·exact .inr ⟨k,c,e,z.sameBut f (cne y c e)⟩
  ·obtain⟨U,z⟩:=I.cell y c e;exact⟨U,z.sameBut f (cne y c e)⟩
  ·obtain⟨e,n,ne,Z,d⟩:=I.pin p hp;exact⟨(f.2 p.1 ne).trans e,n,ne,Z,d⟩
 ·have K:X.fn x=true:=by
   rcases hf with z|z
   ·exact z
   ·rw[z]at F;cases F
  obtain⟨c,t⟩:=I.ok.has x (.inl F);obtain⟨U,z⟩:=I.cell x c t;refine wpAny_storeName_cell I.ok.kind F t z (λh' S f=>?_);obtain⟨oc,P,L⟩:=id z;refine h {s with heap:=h'} ⟨I.ok,I.os,I.bare,⟨λb o e n J B=>?_,λb o e n J B=>?_,I.base.free,λb o e B=>?_,I.base.tups,I.base.frzs,I.base.tbls⟩,⟨m,hn.sameBut f (cQu (cne x c t)),λj y v' l D e3=>?_⟩,λy T e=>?_,I.free,I.freeC,λp hp=>?_,g ⟨oc,P,I.freeC x c t⟩ f,by simpa using I.len⟩ ⟨c,f,.inr t⟩
  ·exact(f.2 b (cQd (cQf (bY0 e) (I.ok.cab x c K t)))).trans (I.base.keep b o e n J B)
  ·obtain⟨sl,l⟩:=I.base.slot b o e n J B;exact⟨sl,(f.2 b (cQd (cQf (bY0 e) (I.ok.cab x c K t)))).trans l⟩
  ·obtain⟨o',l⟩:=I.base.there b o e B;exact⟨o',(f.2 b (cQd (cQf (bY0 e) (I.ok.cab x c K t)))).trans l⟩
  ·by_cases G:j=i
   ·subst G;rw[hi]at l;cases l;rw[cX6 hiσ]at D;cases D;exact⟨u,r,.inr ⟨.inl F,c,t,S⟩⟩
   ·rw[cZY (cQu G)]at D;obtain⟨u',r',q⟩:=hl j y v' l D e3;refine⟨u',r',?_⟩;rcases q with q|⟨k,T,e,z'⟩
    ·exact .inl q
    ·refine .inr ⟨k,T,e,z'.sameBut f ?_⟩;rintro rfl;exact G (aVT hN l (I.ok.inj _ _ _ e t ▸ hi))
  ·by_cases R:T=c
   ·subst R;exact⟨_,S⟩
   ·obtain⟨w2,z2⟩:=I.cell y T e;exact⟨w2,z2.sameBut f R⟩
  ·obtain⟨e,n,ne,Z,d⟩:=I.pin p hp;refine⟨(f.2 p.1 ?_).trans e,n,ne,Z,d⟩;intro q;rw[q,P]at e;have q':oc=p.2:=bY6 e;exact d U (by rw[<- q'];exact L)
theorem aQi{M:Model}{A:cQv}{E:bYM->bYP->Prop}{i:Nat}{x:Str}{v:V}{u:bYM}{Q:Unit->bYP->Prop}(I:Inv X pins σ H s)(d:X.N.Nodup)(hi:X.N[i]? =some x)(b:Loc X.env.scope x)(r:zI v u) (h:∀s',Inv X pins (σ.set i (some v)) H s'->Q () s') (a:X.fn x=true\/X.env.scope.names.lookup x=some .local:=by first|exact .inl rfl|exact .inr rfl|assumption):bYU M A (storeName X.env x u) Q E s:=
 aXb I d hi b r (λs' c _=>h s' c) a
theorem Inv.call'{s':bYP}{ch:List Addr}(I:Inv X pins σ H s)(j:s'.os=s.os)(u:Un (frs X.stack) ch H H' s.heap s'.heap)(d:HOk X.prog X.w H' s'.heap)(i:AllBare s'.gens) (a:∀b∈ch,(b∈X.ex\/X.s₀.heap.objs.size<=b)/\b≠X.env.locals/\(∀x c,X.env.cells.lookup x=some c->c≠b)/\∀p∈X.pn++pins,p.1≠b):Inv X pins σ H' s':=by
 obtain⟨h',g,h,f,o'⟩:=s';have e:o'=s.os:=j;subst e;exact I.call (g':=g) (t':=f) (d':=h) u d i a
end
abbrev XK:=bYM->Option Addr->Hp->Prop
abbrev St:=List (Option V)
abbrev VK:=V->Hp->Prop
abbrev TE:=St->Hp->VK->Prop
abbrev TT:=St->Hp->(Bool->Hp->Prop)->Prop
abbrev TA:=St->Hp->(List V->Hp->Prop)->Prop
structure aKI where
 nx:St->Hp->Prop
 rt:VK
 bk:St->Hp->Prop:=λ_ _=>False
 ct:St->Hp->Prop:=λ_ _=>False
abbrev TS:=aKI->St->Hp->Prop
def EP(X:Cx)(pins:List (Addr×Obj))(σ:St)(Q:VK)(u:bYM)(s':bYP):Prop:=∃v H',Inv X pins σ H' s'/\zI v u/\Q v H'
def TP(X:Cx)(pins:List (Addr×Obj))(σ:St)(Q:Bool->Hp->Prop)(b:Bool)(s':bYP):Prop:=∃H',Inv X pins σ H' s'/\Q b H'
def AP(X:Cx)(pins:List (Addr×Obj))(σ:St)(Q:List V->Hp->Prop)(us:List bYM)(s':bYP):Prop:=∃a H',Inv X pins σ H' s'/\xY a us/\Q a H'
def SP(X:Cx)(pins:List (Addr×Obj))(D:aKI)(f:Flow)(s':bYP):Prop:=
 match f with
 |.next=>∃a H',Inv X pins a H' s'/\D.nx a H'
 |.brk=>∃a H',Inv X pins a H' s'/\D.bk a H'
 |.cont=>∃a H',Inv X pins a H' s'/\D.ct a H'
 |.ret u=>∃v a H',Inv X pins a H' s'/\zI v u/\D.rt v H'
def PE(X:Cx)(e:Expr)(t:TE):Prop:=
 ∀ (pins:List (Addr×Obj))(s:bYP)(σ:St)(H:Hp)(Q:VK),Inv X pins σ H s->t σ H Q->bYU (bYV X.prog X.w) X.A (eval e X.env) (EP X pins σ Q) X.xe s
def PT(X:Cx)(e:Expr)(t:TT):Prop:=
 ∀ (pins:List (Addr×Obj))(s:bYP)(σ:St)(H:Hp)(Q:Bool->Hp->Prop),Inv X pins σ H s->t σ H Q->bYU (bYV X.prog X.w) X.A (isTrue e X.env (eval e X.env)) (TP X pins σ Q) X.xe s
def PW(X:Cx)(e:Expr)(t:TT):Prop:=
 ∀ (a:Sem bYM)(pins:List (Addr×Obj))(s:bYP)(σ:St)(H:Hp)(Q:Bool->Hp->Prop),Inv X pins σ H s->t σ H Q->bYU (bYV X.prog X.w) X.A (isTrue e X.env a) (TP X pins σ Q) X.xe s
theorem PW.pt{X:Cx}{e:Expr}{t:TT}(h:PW X e t):PT X e t:=h _
def PA(X:Cx)(es:List Expr)(t:TA):Prop:=
 ∀ (pos:Pos)(pins:List (Addr×Obj))(s:bYP)(σ:St)(H:Hp)(Q:List V->Hp->Prop),Inv X pins σ H s->t σ H Q->bYU (bYV X.prog X.w) X.A (spliced (cXu pos (cQt es X.env))) (AP X pins σ Q) X.xe s
def PS(X:Cx)(st:Stmt)(t:TS):Prop:=
 ∀ (pins:List (Addr×Obj))(s:bYP)(σ:St)(H:Hp)(D:aKI),Inv X pins σ H s->t D σ H->bYU (bYV X.prog X.w) X.A (exec st X.env) (SP X pins D) X.xe s
def PSs(X:Cx)(st:List Stmt)(t:TS):Prop:=
 ∀ (pins:List (Addr×Obj))(s:bYP)(σ:St)(H:Hp)(D:aKI),Inv X pins σ H s->t D σ H->bYU (bYV X.prog X.w) X.A (execs st X.env) (SP X pins D) X.xe s
theorem thn{α:Type}{t:Sem α}{Q b:α->bYP->Prop}{M:Model}{A:cQv}{E:bYM->bYP->Prop}{s:bYP}(h:bYU M A t Q E s)(c:∀a s,Q a s->b a s):bYU M A t b E s:=cQQ h c λ_ _ x=>x
end L2
namespace L2
open PySem PySem.Spec PyProof.Rows
section
variable {X:Cx}
theorem bin{a b:Expr}{ta tb:TE}(i:PE X a ta)(g:PE X b tb){pins:List (Addr×Obj)}{s:bYP}{σ:St}{H:Hp}{R:V->V->Hp->Prop}(I:Inv X pins σ H s)(h:ta σ H λx H1=>tb σ H1 λy H2=>R x y H2) {α:Type} {Q:α->bYP->Prop} {f:bYM->bYM->Sem α} (j:∀v u e x y H2,Inv X pins σ H2 e->zI x v->zI y u->R x y H2->bYU (bYV X.prog X.w) X.A (f v u) Q X.xe e): bYU (bYV X.prog X.w) X.A (eval a X.env) (λv d=>bYU (bYV X.prog X.w) X.A (eval b X.env) (λu c=>bYU (bYV X.prog X.w) X.A (f v u) Q X.xe c) X.xe d) X.xe s:=by
 refine thn (i pins s σ H _ I h) λv s1 ⟨x,H1,I1,r1,q1⟩=>?_;refine thn (g pins s1 σ H1 _ I1 q1) λu e ⟨y,H2,I2,r2,q2⟩=>?_;exact j v u e x y H2 I2 r1 r2 q2
def bWh(i:Nat):TE:=λσ H Q=>∃v,σ[i]? =some (some v)/\Q v H
def tC(v:V):TE:=λ_ H Q=>Q v H
theorem bJs{i:Nat}{x:Str}{pos:Pos}(j:X.N[i]? =some x)(n:Vis X.env.scope x)(f:(x==("__debug__":Str))=false:=by decide)(d:(x==("__classdict__":Str))=false:=by decide):PE X (.Name x pos) (bWh i):=by
 intro pins s σ H Q I h;obtain⟨v,e,h⟩:=h;obtain⟨m,o,hl⟩:=I.loc;obtain⟨u,r,l⟩:=hl i x v j e n;have fin:EP X pins σ Q u s:=⟨v,H,I,r,h⟩;rcases l with⟨b,k⟩|⟨b,c,g,a⟩
 ·exact wpAny_Name (wpAny_loadName_local I.ok.kind b o k fin) f
 ·rcases b with b|b
  ·exact wpAny_Name (wpAny_loadName_cell I.ok.kind b g a fin) f
  ·exact wpAny_Name (wpAny_loadName_free I.ok.kind b g a fin d) f
theorem yF{i j pos}:PE X (.Constant (.int i) j pos) (tC (.int i)):=λ_ _ _ H _ I h=>wpAny_Constant_int ⟨.int i,H,I.tok _,⟨_,rfl⟩,h⟩
theorem vI{b j pos}:PE X (.Constant (.bool b) j pos) (tC (.bl b)):=λ_ _ _ H _ I h=>Constant_bool ⟨.bl b,H,I,rfl,h⟩
theorem x3{j pos}:PE X (.Constant .none j pos) (tC .non):=λ_ _ _ H _ I h=>Constant_none ⟨.non,H,I,rfl,h⟩
theorem yP{x j pos}:PE X (.Constant (.str x) j pos) (tC (.str x)):=λ_ _ _ H _ I h=>Calls.Constant_str ⟨.str x,H,I.tok _,⟨_,rfl⟩,h⟩
def Gl(X:Cx)(x:Str):Prop:=X.env.kindOf x=some .globalImplicit
theorem uY{E:bYM->bYP->Prop}{pins:List (Addr×Obj)}{s:bYP}{σ:St}{H:Hp}{x:Str}{u:bYM}{pos:Pos}{Q:bYM->bYP->Prop}(I:Inv X pins σ H s)(a:Gl X x)(b:X.mg x=some u)(h:Q u s) (c:(x==("__debug__":Str))=false:=by decide):bYU (bYV X.prog X.w) X.A (eval (.Name x pos) X.env) Q E s:=
 cJ5 I.ok.kind a (Calls.loadGlobal_global (by rw[I.ok.glob];exact I.mod.glob.keeps I.bk) b h) c
theorem aXC{E:bYM->bYP->Prop}{pins:List (Addr×Obj)}{s:bYP}{σ:St}{H:Hp}{x:Str}{u:bYM}{pos:Pos}{Q:bYM->bYP->Prop}(I:Inv X pins σ H s)(a:Gl X x)(b:X.mg x=none)(d:cQw x=some u)(h:Q u s) (e:x≠"__name__":=by decide) (c:(x==("__debug__":Str))=false:=by decide):bYU (bYV X.prog X.w) X.A (eval (.Name x pos) X.env) Q E s:=by
 obtain⟨f,h1,h2⟩:=I.mod.blt;exact cJ5 I.ok.kind a (Calls.loadGlobal_builtin (by rw[I.ok.glob];exact I.mod.glob.keeps I.bk) b (by rw[I.ok.blt];exact h1.keeps I.bk) ((h2 x e).trans d) h) c
theorem uE{x:Str}{v:V}{u:bYM}{pos:Pos}(a:Gl X x)(b:X.mg x=some u)(r:zI v u)(c:(x==("__debug__":Str))=false:=by decide):PE X (.Name x pos) (tC v):=
 λ_ _ _ H _ I h=>uY I a b ⟨v,H,I,r,h⟩ c
theorem xV{x:Str}{v:V}{u:bYM}{pos:Pos}(a:Gl X x)(b:X.mg x=none)(c:cQw x=some u)(r:zI v u)(d:x≠"__name__":=by decide)(e:(x==("__debug__":Str))=false:=by decide):PE X (.Name x pos) (tC v):=
 λ_ _ _ H _ I h=>aXC I a b c ⟨v,H,I,r,h⟩ d e
variable {a b:Expr}{ta tb:TE}{pos:Pos}
def PC(X:Cx)(op:CmpOp)(a b:Expr)(t:TE):Prop:=
 ∀ (pins:List (Addr×Obj))(s:bYP)(σ:St)(H:Hp)(Q:VK),Inv X pins σ H s->t σ H Q->
  bYU (bYV X.prog X.w) X.A (eval a X.env) (λv c=>bYU (bYV X.prog X.w) X.A (eval b X.env) (λu d=>bYU (bYV X.prog X.w) X.A (cXk op v u) (EP X pins σ Q) X.xe d) X.xe c) X.xe s
theorem bXO(b:Expr){op:CmpOp}(h:op≠ .In)(h2:op≠ .NotIn):cZE op b=false:=by
 have c:(op==CmpOp.In)=false:=by cases op<;> first|rfl|exact absurd rfl h
 have a:(op==CmpOp.NotIn)=false:=by cases op<;> first|rfl|exact absurd rfl h2
 cases b<;> simp[cZE,c,a]
def tB(t:TE):TT:=λσ H Q=>t σ H λx H1=>∃c,x= .bl c/\Q c H1
theorem bW9{op:CmpOp}{t:TE}(h:PC X op a b t)(h1:cZE op b=false:=by first|exact bXO _ (by decide) (by decide)|rfl):PT X (.Compare a [op] [b] pos) (tB t):=by
 intro pins s σ H Q I hw;refine wpAny_isTrue_Compare1 (thn (h pins s σ H _ I hw) λv e h1=>thn h1 λu f h2=>thn h2 λc s3 ⟨x,H1,I1,r1,q1⟩=>?_) h1;obtain⟨d,rfl,q⟩:=q1;cases r1;exact cXM ⟨H1,I1,q⟩
theorem x5{e:Expr}{t:TE}(h:PE X e t)(b:∀a,isTrue e X.env a=(do let v <- a;standAt e.pos;cJa [v] (truthy v)):=by intro _;rfl):PT X e (tB t):=by
 intro pins s σ H Q I hw;refine isTrue_plain (thn (h pins s σ H _ I hw) λv s1 ⟨x,H1,I1,r1,q1⟩=>?_) (b _);obtain⟨d,rfl,q⟩:=q1;cases r1;exact cXM ⟨H1,I1,q⟩
variable {tA tB':TT}{jV:List Expr}
def bYE(t u:TT):TT:=λσ H Q=>t σ H λc H1=>if c=true then u σ H1 Q else Q false H1
def tOr(t u:TT):TT:=λσ H Q=>t σ H λc H1=>if c=true then Q true H1 else u σ H1 Q
def bYH(t:TT):TT:=λσ H Q=>t σ H λc H1=>Q (!c) H1
theorem vL(b:PT X a tA):PW X (.BoolOp .And [a] pos) tA:=by
 intro d pins s σ H Q I h;refine isTrue_and (thn (b pins s σ H Q I h) λc f e=>?_);cases c with
 |true=>exact isTrue_and_nil e
 |false=>exact e
theorem vW(b:PT X a tA):PW X (.BoolOp .Or [a] pos) tA:=by
 intro d pins s σ H Q I h;refine isTrue_or (thn (b pins s σ H Q I h) λc f e=>?_);cases c with
 |false=>exact isTrue_or_nil e
 |true=>exact e
theorem v8(d:PT X a tA)(f:PW X (.BoolOp .And (b::jV) pos) tB'):PW X (.BoolOp .And (a::b::jV) pos) (bYE tA tB'):=by
 intro e pins s σ H Q I h;refine isTrue_and (thn (d pins s σ H _ I h) λc s1 ⟨H1,I1,q1⟩=>?_);cases c with
 |true=>exact f e pins s1 σ H1 Q I1 q1
 |false=>exact⟨H1,I1,q1⟩
theorem jU(d:PT X a tA)(f:PW X (.BoolOp .Or (b::jV) pos) tB'):PW X (.BoolOp .Or (a::b::jV) pos) (tOr tA tB'):=by
 intro e pins s σ H Q I h;refine isTrue_or (thn (d pins s σ H _ I h) λc s1 ⟨H1,I1,q1⟩=>?_);cases c with
 |true=>exact⟨H1,I1,q1⟩
 |false=>exact f e pins s1 σ H1 Q I1 q1
theorem vK(b:PT X a tA):PT X (.UnaryOp .Not a pos) (bYH tA):=by
 intro pins s σ H Q I h;exact isTrue_not (b pins s σ H (λc H1=>Q (!c) H1) I h)
def bYa(ta tb:TE):TE:=λσ H Q=>ta σ H λx H1=>∃c,x= .bl c/\if c=true then tb σ H1 Q else Q (.bl false) H1
def bYI(ta tb:TE):TE:=λσ H Q=>ta σ H λx H1=>∃c,x= .bl c/\if c=true then Q (.bl true) H1 else tb σ H1 Q
def bYb(ta:TE):TE:=λσ H Q=>ta σ H λx H1=>∃c,x= .bl c/\Q (.bl (!c)) H1
theorem aJb{op}{t:TE}(h:PE X a t):PE X (.BoolOp op [a] pos) t:=λpins s σ H Q I hw=>BoolOp_one (h pins s σ H Q I hw)
theorem aVZ(e:PE X a ta)(f:PE X (.BoolOp .And (b::jV) pos) tb):PE X (.BoolOp .And (a::b::jV) pos) (bYa ta tb):=by
 intro pins s σ H Q I h;refine BoolOp_and (thn (e pins s σ H _ I h) λv s1 ⟨x,H1,I1,r1,d⟩=>?_);obtain⟨c,rfl,d⟩:=d;cases r1;refine cXM ?_;cases c with
 |true=>exact f pins s1 σ H1 Q I1 d
 |false=>exact⟨.bl false,H1,I1,rfl,d⟩
theorem bW4(e:PE X a ta)(f:PE X (.BoolOp .Or (b::jV) pos) tb):PE X (.BoolOp .Or (a::b::jV) pos) (bYI ta tb):=by
 intro pins s σ H Q I h;refine BoolOp_or (thn (e pins s σ H _ I h) λv s1 ⟨x,H1,I1,r1,d⟩=>?_);obtain⟨c,rfl,d⟩:=d;cases r1;refine cXM ?_;cases c with
 |false=>exact f pins s1 σ H1 Q I1 d
 |true=>exact⟨.bl true,H1,I1,rfl,d⟩
theorem bJr(d:PE X a ta):PE X (.UnaryOp .Not a pos) (bYb ta):=by
 intro pins s σ H Q I h;refine UnaryOp_ (thn (d pins s σ H _ I h) λv s1 ⟨x,H1,I1,r1,b⟩=>?_);obtain⟨c,rfl,b⟩:=b;cases r1;exact not_of (cXM ⟨.bl (!c),H1,I1,rfl,b⟩)
def tIf(t:TT)(ta tb:TE):TE:=λσ H Q=>t σ H λc H1=>if c=true then ta σ H1 Q else tb σ H1 Q
theorem aV0{c:Expr}(f:PT X c tA)(e:PE X a ta)(g:PE X b tb):PE X (.IfExp c a b pos) (tIf tA ta tb):=by
 intro pins s σ H Q I h;refine wpAny_IfExp (thn (f pins s σ H _ I h) λd s1 ⟨H1,I1,q1⟩=>?_);cases d with
 |true=>exact e pins s1 σ H1 Q I1 q1
 |false=>exact g pins s1 σ H1 Q I1 q1
end
end L2
namespace L2
open PySem PySem.Spec PyProof.Rows
def SqL(K:bYO)(H:Hp)(a:Addr)(xs:List V):Prop:=
 Rd H a (.lst xs)\/
  ∃ (o:Obj)(b:Array bYM)(n:Nat),K.lookup a=some o/\o.cls= .type "list"/\o.dict=none/\o.data= .seq b n/\b.size<=cQb/\xY xs b.toList
def SqT(K:bYO)(H:Hp)(a:Addr)(xs:List V):Prop:=
 Rd H a (.tup xs)\/
  ∃ (o:Obj)(b:Array bYM)(n:Nat),K.lookup a=some o/\o.cls= .type "tuple"/\o.data= .seq b n/\b.size<=cQb/\xY xs b.toList
def bYr:bYM->Option V
 |.none=>some .non
 |.bool b=>some (.bl b)
 |.int i _=>some (.int i)
 |.str x _=>some (.str x)
 |.bytes b _=>some (.byt b)
 |.float b _=>some (.flt b)
 |.ref a=>some (.ref a)
 |.type n=>some (.ty n)
 |_=>none
theorem zI.abs{x:V}{u:bYM}(r:zI x u):bYr u=some x:=by
 cases x with
 |non=>cases r;rfl
 |bl _=>cases r;rfl
 |int _=>obtain⟨t,rfl⟩:=r;rfl
 |str _=>obtain⟨t,rfl⟩:=r;rfl
 |byt _=>obtain⟨t,rfl⟩:=r;rfl
 |flt _=>obtain⟨t,rfl⟩:=r;rfl
 |ref _=>cases r;rfl
 |ty _=>cases r;rfl
theorem zI.inj{x y:V}{u:bYM}(r:zI x u)(q:zI y u):x=y:=bY6 (r.abs.symm.trans q.abs)
theorem xY.inj:∀ {xs ys:List V} {us:List bYM},xY xs us->xY ys us->xs=ys
 |_,_,_,.nil,.nil=>rfl
 |_,_,_,.cons r t,.cons r' t'=>by rw[r.inj r',xY.inj t t']
section
variable {X:Cx}{pins:List (Addr×Obj)}{σ:St}{H:Hp}{s:bYP}{a:Addr}{xs ys:List V}
theorem SqL.of{K:bYO}(h:H a=some (.lst xs)):SqL K H a xs:= .inl (.inl h)
theorem SqT.of{K:bYO}(h:H a=some (.tup xs)):SqT K H a xs:= .inl (.inl h)
theorem Inv.list(I:Inv X pins σ H s)(h:SqL X.K H a xs):∃b:List bYM,xY xs b/\PlainL s.heap a b.toArray/\xs.length<=cQb:=by
 rcases h with h|⟨o,b,n,c,g,f,d,i,r⟩
 ·obtain⟨z,b,n,r,e⟩:=h.ok I.hok;exact⟨b,r,⟨_,n,e,rfl,rfl,rfl⟩,z⟩
 ·refine⟨b.toList,r,⟨o,n,I.kIn a o c,g,f,by simpa using d⟩,?_⟩;have e:=r.length;simp only[cQ6]at e;omega
theorem Inv.tuple(I:Inv X pins σ H s)(h:SqT X.K H a xs):∃b:List bYM,xY xs b/\cZF s.heap a b.toArray/\xs.length<=cQb:=by
 rcases h with h|⟨o,b,n,c,f,d,g,r⟩
 ·obtain⟨z,b,r,p⟩:=h.ok I.hok;exact⟨b,r,p,z⟩
 ·refine⟨b.toList,r,⟨o,I.kIn a o c,f,n,by simpa using d⟩,?_⟩;have e:=r.length;simp only[cQ6]at e;omega
theorem Inv.list_inj(I:Inv X pins σ H s)(h:SqL X.K H a xs)(h':SqL X.K H a ys):xs=ys:=by
 obtain⟨c,r,⟨o,n,e,_,_,d⟩,_⟩:=I.list h;obtain⟨b,i,⟨o',j,f,_,_,g⟩,_⟩:=I.list h';rw[e]at f;cases f;rw[d]at g;injection g with d1 _;have:c=b:=by simpa using congrArg Array.toList d1
 subst this;exact r.inj i
end
abbrev Cx.wish(X:Cx)(E:bYM->bYP->Prop):Cx:={X with xe:=E}
abbrev Cx.nox(X:Cx):Cx:=X.wish λ_ _=>False
theorem Cx.Ok.wish{X:Cx}(ok:X.Ok)(E:bYM->bYP->Prop):(X.wish E).Ok:=
 ⟨ok.mod,ok.kind,ok.glob,ok.blt,ok.above,ok.inj,ok.has,ok.cab,ok.hd,ok.frames,ok.stk,ok.exf,ok.bs,ok.bsz,ok.noex,ok.exfs,ok.funs,ok.frf⟩
theorem Cx.Ok.unwish{X:Cx}{E:bYM->bYP->Prop}(ok:(X.wish E).Ok):X.Ok:=
 ⟨ok.mod,ok.kind,ok.glob,ok.blt,ok.above,ok.inj,ok.has,ok.cab,ok.hd,ok.frames,ok.stk,ok.exf,ok.bs,ok.bsz,ok.noex,ok.exfs,ok.funs,ok.frf⟩
section
variable {X:Cx}{pins:List (Addr×Obj)}{σ:St}{H:Hp}{s:bYP}{E:bYM->bYP->Prop}
theorem Inv.wish(I:Inv X pins σ H s)(E:bYM->bYP->Prop):Inv (X.wish E) pins σ H s:=⟨I.ok.wish E,I.os,I.bare,I.base,I.loc,I.cell,I.free,I.freeC,I.pin,I.hok,I.len⟩
theorem Inv.unwish(I:Inv (X.wish E) pins σ H s):Inv X pins σ H s:=⟨I.ok.unwish,I.os,I.bare,I.base,I.loc,I.cell,I.free,I.freeC,I.pin,I.hok,I.len⟩
theorem SP.unwish{D:aKI}{f:Flow}{s':bYP}(h:SP (X.wish E) pins D f s'):SP X pins D f s':=by
 cases f with
 |next=>obtain⟨a,H',I,q⟩:=h;exact⟨a,H',I.unwish,q⟩
 |brk=>obtain⟨a,H',I,q⟩:=h;exact⟨a,H',I.unwish,q⟩
 |cont=>obtain⟨a,H',I,q⟩:=h;exact⟨a,H',I.unwish,q⟩
 |ret u=>obtain⟨v,a,H',I,r,q⟩:=h;exact⟨v,a,H',I.unwish,r,q⟩
theorem PSs.nox{st:List Stmt}{t:TS}(h:PSs X.nox st t):PSs X st t:=λpins s σ H D I hw=>
 cQQ (h pins s σ H D (I.wish _) hw) (λ_ _ q=>q.unwish) λ_ _ z=>cXl z
end
section
variable {X:Cx}{st:Stmt}{jV:List Stmt}{t u:TS}{e:Expr}{te:TE}{pos:Pos}
def bQ2:TS:=λD σ H=>D.nx σ H
def bKN(t u:TS):TS:=λD σ H=>t {D with nx:=u D} σ H
theorem yT:PSs X [] bQ2:=λ_ _ σ H _ I h=>cJJ ⟨σ,H,I,h⟩
theorem yC(h1:PS X st t)(h2:PSs X jV u):PSs X (st::jV) (bKN t u):=by
 intro pins s σ H D I h;refine wpAny_execs_cons (thn (h1 pins s σ H {D with nx:=u D} I h) λf c q=>?_);cases f with
 |next=>obtain⟨a,H',b,q⟩:=q;exact h2 pins c a H' D b q
 |ret v=>exact q
 |brk=>exact q
 |cont=>exact q
theorem yG(h1:PS X st t):PSs X [st] t:=by
 intro pins s σ H D I h;refine wpAny_execs_cons (thn (h1 pins s σ H D I h) λf a q=>?_);cases f with
 |next=>exact cJJ q
 |ret v=>exact q
 |brk=>exact q
 |cont=>exact q
theorem Inv.quiet{pins:List (Addr×Obj)}{σ:St}{H:Hp}{s:bYP}(I:Inv X pins σ H s):interactive X.env=false:=by simp[interactive,I.ok.kind]
def aVE(te:TE):TS:=λD σ H=>te σ H λ_ H1=>D.nx σ H1
theorem y0(b:PE X e te)(a:swapsWith e none pos.line X.env=pure false:=by rfl):PS X (.Expr e pos) (aVE te):=by
 intro pins s σ H D I h;exact wpAny_Expr_any (thn (b pins s σ H _ I h) λv s1 ⟨x,H1,I1,r1,q1⟩=>⟨σ,H1,I1,q1⟩) I.quiet a
def bYm(te:TE):TS:=λD σ H=>te σ H D.rt
theorem yQ(a:PE X e te):PS X (.Return (some e) pos) (bYm te):=by
 intro pins s σ H D I h;exact wpAny_Return_some (thn (a pins s σ H _ I h) λv s1 ⟨x,H1,I1,r1,q1⟩=>⟨x,σ,H1,I1,r1,q1⟩)
def bKM(c:TT)(t u:TS):TS:=λD σ H=>c σ H λb H1=>if b=true then t D σ H1 else u D σ H1
theorem y6{c:Expr}{a b:List Stmt}{tc:TT}(g:PT X c tc)(f:PSs X a t)(e:PSs X b u):PS X (.If c a b pos) (bKM tc t u):=by
 intro pins s σ H D I h;refine wpAny_If (thn (g pins s σ H _ I h) λd s1 ⟨H1,I1,q1⟩=>?_);cases d with
 |true=>exact f pins s1 σ H1 D I1 q1
 |false=>exact e pins s1 σ H1 D I1 q1
end
abbrev TG:=V->St->Hp->(St->Hp->Prop)->Prop
abbrev TGs:=List V->St->Hp->(St->Hp->Prop)->Prop
def PG(X:Cx)(a:Expr)(t:TG):Prop:=
 ∀ (pins:List (Addr×Obj))(s:bYP)(σ:St)(H:Hp)(v:V)(u:bYM)(Q:St->Hp->Prop),Inv X pins σ H s->zI v u->t v σ H Q->
  bYU (bYV X.prog X.w) X.A (assign a X.env u) (λ_ s'=>∃b H',Inv X pins b H' s'/\Q b H') X.xe s
def PGs(X:Cx)(d:List Expr)(t:TGs):Prop:=
 ∀ (pins:List (Addr×Obj))(s:bYP)(σ:St)(H:Hp)(c:List V)(b:List bYM)(Q:St->Hp->Prop),Inv X pins σ H s->xY c b->t c σ H Q->
  bYU (bYV X.prog X.w) X.A (assignInOrder ((cJF d X.env).map (·.2)) b) (λ_ s'=>∃a H',Inv X pins a H' s'/\Q a H') X.xe s
abbrev bKS:=V->V->V->Hp->(Hp->Prop)->Prop
def bYg(X:Cx)(t:bKS):Prop:=
 ∀ (pins:List (Addr×Obj))(s:bYP)(σ:St)(H:Hp)(o i v:V)(b a u:bYM)(Q:Hp->Prop),Inv X pins σ H s->zI o b->zI i a->zI v u->t o i v H Q->
  bYU (bYV X.prog X.w) X.A (setItem b a u) (λ_ s'=>∃H',Inv X pins σ H' s'/\Q H') X.xe s
section
variable {X:Cx}{pos:Pos}
def yX(i:Nat):TG:=λv σ H Q=>Q (σ.set i (some v)) H
theorem xE{i:Nat}{x:Str}(d:X.N.Nodup:=by exact ‹yN _ _ _›.nd)(hi:X.N[i]? =some x:=by rfl)(c:Loc X.env.scope x:=by first|exact Or.inl rfl|exact Or.inr rfl)(b:X.fn x=true\/X.env.scope.names.lookup x=some .local:=by first|exact .inl rfl|exact .inr rfl|assumption):PG X (.Name x pos) (yX i):=by
 intro pins s σ H v u Q I r h;exact wpAny_assign_Name (aQi I d hi c r (λs' a=>⟨_,H,a,h⟩) b)
def bYs:TGs:=λa σ H Q=>a= []/\Q σ H
def bKX(t:TG)(u:TGs):TGs:=λb σ H Q=>∃v r,b=v::r/\t v σ H λa H'=>u r a H' Q
theorem aQM:PGs X [] bYs:=by
 intro pins s σ H b a Q I r h;obtain⟨e,h⟩:=h;subst e;cases r;exact assignInOrder_nil ⟨σ,H,I,h⟩
theorem zF{e:Expr}{es:List Expr}{t:TG}{u:TGs}(h1:PG X e t)(h2:PGs X es u) (b:(cJF (e::es) X.env).map (·.2)=assign e X.env::(cJF es X.env).map (·.2):=by rfl):PGs X (e::es) (bKX t u):=by
 intro pins s σ H f g Q I r h;obtain⟨v,d,c,h⟩:=h;subst c;cases r with
 |cons r a=>rw[b];refine cJ1 (thn (h1 pins s σ H _ _ _ I r h) λ_ s1 ⟨σ1,H1,I1,q1⟩=>?_);exact h2 pins s1 σ1 H1 _ _ Q I1 a q1
def bYu(K:bYO)(n:Nat)(t:TGs):TG:=λv σ H Q=>∃a xs,v= .ref a/\SqT K H a xs/\xs.length=n/\t xs σ H Q
theorem aJc{es:List Expr}{k:Nat}{t:TGs}{n:Nat}(g:X.calm=true)(h:PGs X es t) (p:(cJF es X.env).length=n:=by rfl) (c:(cJF es X.env).findIdx? (·.1)=none:=by rfl):PG X (.Tuple es k pos) (bYu X.K n t):=by
 intro pins s σ H v u Q I r hw;obtain⟨a,xs,q,m,hl,hw⟩:=hw;subst q;cases r;obtain⟨j,d,i,w⟩:=I.tuple m;refine assign_Tuple_tuple (I.ok.hd g) i (by simp[p,<- hl,d.length]) c λh' l=>?_;have f:Inv X pins σ H {s with heap:=h'}:=I.kept (t':=s.toks) λb o e=>l b o (cQd (bY0 e)) e;exact h pins _ σ H xs _ Q f (by simpa using d) hw
def bYt(to a:TE)(t:bKS):TG:=λv σ H Q=>to σ H λo H1=>a σ H1 λi H2=>t o i v H2 λb=>Q σ b
theorem qB{o i:Expr}{to a:TE}{t:bKS}(d:PE X o to)(hi:PE X i a)(c:bYg X t)
  (b:∀v,assign (.Subscript o i pos) X.env v=(do
   let ov <- cJa [v] (eval o X.env)
   let iv <- cJa [v,ov] (eval i X.env)
   standAt pos
   cJa [v,ov,iv] (setItem ov iv v)
   release [v,ov,iv] []):=by intro _;rfl):PG X (.Subscript o i pos) (bYt to a t):=by
 intro pins s σ H v u Q I r h
 rw[b]
 refine bYN (cQ7 (thn (d pins s σ H _ I h) λov s1 ⟨x,H1,I1,r1,q1⟩=>?_))
 refine bYN (cQ7 (thn (hi pins s1 σ H1 _ I1 q1) λiv s2 ⟨y,H2,I2,r2,q2⟩=>?_))
 refine bYN (cZ9 (bYN (cQ7 (thn (c pins s2 σ H2 x y v ov iv u _ I2 r1 r2 r q2) λ_ s3 ⟨H3,I3,q3⟩=>?_))))
 exact wpAny_release ⟨σ,H3,I3,q3⟩
def bKL(te:TE)(g:TG):TS:=λD σ H=>te σ H λx H1=>g x σ H1 D.nx
theorem vJ{tg e:Expr}{te:TE}{g:TG}(b:PE X e te)(a:PG X tg g)(c:swapsWithSole [tg] e pos.line X.env=pure false:=by rfl)(hw:swappedStores [tg] e X.env=pure none:=by rfl)
  (h1:(cJF [tg] X.env).map (·.2)= [assign tg X.env]:=by rfl):PS X (.Assign [tg] e pos) (bKL te g):=by
 intro pins s σ H D I h
 refine wpAny_Assign_stores (thn (b pins s σ H _ I h) λv s1 ⟨x,H1,I1,r1,q1⟩=>?_) c hw
 rw[h1]
 exact thn (a pins s1 σ H1 x v _ I1 r1 q1) λ_ d q=>q
theorem yU{i:Nat}{x:Str}{e:Expr}{te:TE}{pos':Pos}(c:PE X e te)(a:X.N.Nodup:=by exact ‹yN _ _ _›.nd)(hi:X.N[i]? =some x:=by rfl)(d:Loc X.env.scope x:=by first|exact Or.inl rfl|exact Or.inr rfl)(g:swapsWith e (some (.Name x pos')) pos.line X.env=pure false:=by rfl)(f:X.fn x=true\/X.env.scope.names.lookup x=some .local:=by first|exact .inl rfl|exact .inr rfl|assumption):
  PS X (.Assign [.Name x pos'] e pos) (bKL te (yX i)):=by
 intro pins s σ H D I h
 refine wpAny_Assign_Name (thn (c pins s σ H _ I h) λv s1 ⟨y,H1,I1,r1,q1⟩=>?_) g
 exact aQi I1 a hi d r1 (λj b=>⟨_,H1,b,q1⟩) f
def bYJ(i j:Nat)(ta:TA):TS:=λD σ H=>ta σ H λa H1=>∃v w,a= [v,w]/\D.nx ((σ.set i (some v)).set j (some w)) H1
theorem bW7{i j:Nat}{x y:Str}{a b:Expr}{ta:TA}{g n pt:Pos}{kt k2 pt2}(F:X.calm=true)(t:X.N.Nodup)(hi:X.N[i]? =some x)(E:X.N[j]? =some y)(l:i≠j)
  (z:X.env.scope.names.lookup x=some .local) (u:X.env.scope.names.lookup y=some .local) (J:PA X [a,b] ta)
  (hw:swappedStores [.Tuple [.Name x g,.Name y n] kt pt] (.Tuple [a,b] k2 pt2) X.env=pure (some [x,y]))
  (L:swapsWithSole [.Tuple [.Name x g,.Name y n] kt pt] (.Tuple [a,b] k2 pt2) pos.line X.env=pure false:=by rfl):
  PS X (.Assign [.Tuple [.Name x g,.Name y n] kt pt] (.Tuple [a,b] k2 pt2) pos) (bYJ i j ta):=by
 intro pins s σ H D I h
 rw[exec_Assign_arm]
 refine bYN (cZ9 ?_)
 rw[L]
 refine bYN (bYQ ?_)
 rw[if_neg (by decide)]
 refine bYN (Tuple_ (thn (J _ pins s σ H _ I h) λus s1 ⟨vs,H1,I1,r1,m⟩=>?_))
 obtain⟨v,w,O,m⟩:=m
 subst O
 obtain⟨d,c,rfl,P,f⟩:∃d c,us= [d,c]/\zI v d/\zI w c:=by
  cases r1 with
  |cons p q=>
   cases q with
   |cons G C=>cases C;exact⟨_,_,rfl,p,G⟩
 refine cQ3 ?_ (by show 2<=cQb;decide)
 have B:Inv X pins σ H1 {s1 with heap:=s1.heap.push {cls:= .type "tuple",data:= .seq [d,c].toArray} }:=I1.kept (t':=s1.toks) λb o e=>bYS _ e
 rw[hw]
 refine bYN (bYQ ?_)
 show bYU (bYV X.prog X.w) X.A (do rule "assign.swapped-stores";let items <- unpackItems (.ref s1.heap.objs.size) 2 none;assignInOrder [λv=>bindName X.env y v,λv=>bindName X.env x v] items.reverse;pure Flow.next) _ _ _
 refine bYN (cJL (bYN (unpackItems_tuple (items:= #[d,c]) (I.ok.hd F) (IsTup.new s1.heap _) λh' k=>?_)))
 have K:=B.kept (h':=h') (t':=s1.toks) λb o e=>k b o (cQd (bY0 e)) e
 show bYU _ _ (assignInOrder [λv=>bindName X.env y v,λv=>bindName X.env x v] [c,d] >>=λ_=>pure Flow.next) _ _ _
 refine bYN (cJ1 (wpAny_bindName (aQi K t E (.inl u) f (λQ M=>?_) (.inr u))))
 refine cJ1 (wpAny_bindName (aQi M t hi (.inl z) P (λR r=>assignInOrder_nil (bYQ ?_)) (.inr z)))
 rw[List.set_comm _ _ (cQu l)]at r
 exact⟨_,H1,r,m⟩
end
section
variable {X:Cx}{pos:Pos}
def bKx(c:TT)(tb:TS):TS:=λD σ H=>∃W:Nat->St->Hp->Prop,(∃m,W m σ H)/\∀m σ H,W m σ H->
 c σ H λb H1=>if b=true then ∃N:St->Hp->Prop,(∀a H',N a H'->∃d,d<m/\W d a H')/\tb {D with nx:=N,ct:=N,bk:=D.nx} σ H1 else D.nx σ H1
theorem uF{c:Expr}{body:List Stmt}{tc:TT}{tb:TS}(r:PassesOwn (bYV X.prog X.w) X.A X.env X.xe)(C:PT X c tc)(B:PSs X body tb):PS X (.While c body [] pos) (bKx tc tb):=by
 intro pins s σ H D I h;obtain⟨W,⟨u,t⟩,turn⟩:=h;refine wpAny_While (codeAny_whileLoop (λn s'=>∃g H',Inv X pins g H' s'/\W n g H') ?_ u ⟨σ,H,I,t⟩);rintro n z ⟨d,H1,y,x⟩;refine cZe r (thn (C pins z d H1 _ y (turn n d H1 x)) λb s2 ⟨H2,I2,i⟩=>?_);cases b with
 |true=>
  obtain⟨N,q,i⟩:=i;rw[if_pos rfl];refine cZe r (thn (B pins s2 d H2 _ I2 i) λf E j=>?_);cases f with
  |next=>obtain⟨a,e,p,k⟩:=j;obtain⟨l,m,o⟩:=q a e k;exact⟨l,m,a,e,p,o⟩
  |cont=>obtain⟨a,e,p,k⟩:=j;obtain⟨l,m,o⟩:=q a e k;exact⟨l,m,a,e,p,o⟩
  |brk=>exact j
  |ret v=>exact j
 |false=>rw[if_neg Bool.false_ne_true];exact cJJ ⟨d,H2,I2,i⟩
end
structure It where
 go:Nat->Hp->Prop
 yld:Nat->Hp->V->Hp->Prop
 stop:Nat->Hp->Prop
def bZ9(X:Cx)(pins:List (Addr×Obj))(H:Hp)(b:Addr):Prop:=
 H b=none/\b≠X.env.locals/\b∉X.fs/\(b∈X.ex\/X.s₀.heap.objs.size<=b)/\(∀x c,X.env.cells.lookup x=some c->c≠b)/\∀p∈X.pn++pins,p.1≠b
theorem Inv.fpOk{X:Cx}{pins:List (Addr×Obj)}{σ:St}{H H':Hp}{s:bYP}{b:Addr}(I:Inv X pins σ H s)(a:s.heap.objs.size<=b)(f:H' b=none):bZ9 X pins H' b:=by
 refine⟨f,cZv (cQf I.lt a),I.nofs a,.inr (cQo I.sz a),λx c e z=>?_,λp d z=>?_⟩
 ·obtain⟨v,q⟩:=I.cell x c e;exact absurd (cQf q.lt (by rw[z];exact a)) (cQ0 _)
 ·exact absurd (cQf (bY0 (I.pin p d).1) (by rw[z];exact a)) (cQ0 _)
structure bKG(P:bY8)(w:cQg)(K:bYO)(tg:Expr)(J:It)(fp:List Addr)(it:Addr)(tn:Nat->Heap->Prop):Prop where
 mem:it∈fp
 obj:∀i h,tn i h->∀b∈fp,∃o,h.get? b=some o/\∀v,o.data≠ .cell v
 keep:∀i h h',tn i h->(∀b∈fp,∀o,h.get? b=some o->h'.get? b=some o)->tn i h'
 item:∀ (X:Cx),X.prog=P->X.w=w->X.K=K->X.calm=true->∀ (i:Nat)(pins:List (Addr×Obj))(s:bYP)(σ:St)(H:Hp)(E:bYM->bYP->Prop),Inv X pins σ H s->(∀b∈fp,bZ9 X pins H b)->tn i s.heap->J.go i H->
  bYU (bYV P w) X.A (pyNext (.ref it)) (λr s1=>∃u,r=some u/\
   bYU (bYV P w) X.A (cJI tg (.ref it) u) (λ_ s2=>∃x H',Inv X pins σ H' s2/\zI x u/\J.yld i H x H'/\tn (i+1) s2.heap/\∀b∈fp,H' b=none) E s1) E s
 done:∀ (X:Cx),X.prog=P->X.w=w->X.K=K->X.calm=true->∀ (i:Nat)(pins:List (Addr×Obj))(s:bYP)(σ:St)(H:Hp)(E:bYM->bYP->Prop),Inv X pins σ H s->(∀b∈fp,bZ9 X pins H b)->tn i s.heap->J.stop i H->
  bYU (bYV P w) X.A (pyNext (.ref it)) (λr s1=>r=none/\Inv X pins σ H s1) E s
 self:∀ (A:cQv)(i:Nat)(s:bYP)(Q:bYM->bYP->Prop)(E:bYM->bYP->Prop),tn i s.heap->Q (.ref it) s->bYU (bYV P w) A (pyIter (.ref it)) Q E s
abbrev TI:=St->Hp->(It->Hp->Prop)->Prop
def PIE(X:Cx)(pins:List (Addr×Obj))(σ:St)(tg:Expr)(R:It->Hp->Prop)(a:bYM)(e:bYP):Prop:=
 ∃ (d:Addr)(c:List Addr)(tn:Nat->Heap->Prop)(J:It)(H':Hp),a= .ref d/\Inv X pins σ H' e/\bKG X.prog X.w X.K tg J c d tn/\tn 0 e.heap/\(∀b∈c,bZ9 X pins H' b)/\R J H'
def PI(X:Cx)(tg a:Expr)(b:TI):Prop:=
 ∀ (pins:List (Addr×Obj))(s:bYP)(σ:St)(H:Hp)(R:It->Hp->Prop),Inv X pins σ H s->b σ H R->
  bYU (bYV X.prog X.w) X.A (eval a X.env) (λv c=>bYU (bYV X.prog X.w) X.A (pyIter v) (PIE X pins σ tg R) X.xe c) X.xe s
theorem bWK{M:Model}{A:cQv}{E:bYM->bYP->Prop}{s:bYP}{tg:Expr}{it:Addr}{u:bYM}{o:Obj}{n:String}{vs:Array bYM}{Q:Unit->bYP->Prop}(e:s.heap.get? it=some o)(d:o.cls= .type n)(c:o.data= .fields vs) (b: ["enumerate","zip","dict_itemiterator","dict_reverseitemiterator","odict_iterator","itertools.zip_longest","itertools.pairwise"].contains n=false) (a:Q () s):bYU M A (cJI tg (.ref it) u) Q E s:=by
 unfold cJI;cases tg<;> first
  |exact bYQ a
  |(cases u<;> first
    |exact bYQ a
    |(refine bYN (wpAny_load e ?_)
      rw[d,c]
      show bYU M A (if(["enumerate","zip","dict_itemiterator","dict_reverseitemiterator","odict_iterator","itertools.zip_longest","itertools.pairwise"].contains n && vs[0]? ==some (cQ5 _))=true then _ else _) Q E s
      rw[if_neg (by intro h;rw[b,Bool.false_and]at h;cases h)]
      exact bYQ a))
def Itl(K:bYO)(a:Addr):It:=
 ⟨λi H=>∃xs x,SqL K H a xs/\xs[i]? =some x,λi H x H'=>H'=H/\∀xs,SqL K H a xs->xs[i]? =some x,λi H=>∃xs,SqL K H a xs/\xs.length<=i⟩
def Itr(lo:Int)(n:Nat):It:=⟨λi _=>i<n,λi H x H'=>H'=H/\x= .int (lo+i),λi _=>n<=i⟩
theorem bQ7{P:bY8}{w:cQg}{K:bYO}{tg:Expr}(a it:Addr):bKG P w K tg (Itl K a) [it] it (λi h=>h.IsListIter it a i) where
 mem:=by simp
 obj:=λi h st b hb=>by
  have e:b=it:=by simpa using hb
  subst e
  obtain⟨o,e,c,d⟩:=st
  exact⟨o,e,λv z=>by rw[d]at z;cases z⟩
 keep:=λi h h' st k=>st.at λo e=>k it (by simp) o e
 item:=by
  intro X hP hw hK hc i pins s σ H E I hf st hg
  subst hP hw hK
  obtain⟨xs,x,hq,hx⟩:=hg
  obtain⟨its,rv,p,hz⟩:=I.list hq
  obtain⟨u,hu,ru⟩:=rv.get hx
  obtain⟨f0,f1,f2,f3,f4,f5⟩:=hf it (by simp)
  refine wpAny_pyNext_list_item st p.isList (x:=u) (by simpa using hu) λh' st' sb=>?_
  have I1:Inv X pins σ H {s with heap:=h'}:=I.turned (t':=s.toks) (λb o hb e=>(sb.2 b hb).trans e) f0 f1 f3 f4 f5
  obtain⟨o,e,c,d⟩:=id st'
  exact⟨u,rfl,bWK (s:={s with heap:=h'}) e c d (by decide) ⟨x,H,I1,ru,⟨rfl,λys hy=>by rw[I.list_inj hy hq];exact hx⟩,st',λb hb=>(hf b hb).1⟩⟩
 done:=by
  intro X hP hw hK hc i pins s σ H E I hf st hg
  subst hP hw hK
  obtain⟨xs,hq,hx⟩:=hg
  obtain⟨its,rv,p,hz⟩:=I.list hq
  obtain⟨f0,f1,f2,f3,f4,f5⟩:=hf it (by simp)
  have hl:=rv.length
  exact wpAny_pyNext_list_end (I.ok.hd hc) st p.isList (by simp;omega) λh' eb=>⟨rfl,I.turned (t':=s.toks) (λb o hb e=>eb b o hb e) f0 f1 f3 f4 f5⟩
 self:=λ_ _ _ _ _ st h=>wpAny_pyIter_listiter st h
theorem aKG{P:bY8}{w:cQg}{K:bYO}{tg:Expr}(it:Addr)(lo:Int)(n:Nat):bKG P w K tg (Itr lo n) [it] it (λi h=>IsRangeIter h it (lo+(i:Nat)*1) ((n:Int) - (i:Nat)) 1) where
 mem:=by simp
 obj:=λi h st b hb=>by
  have e:b=it:=by simpa using hb
  subst e
  exact⟨_,st,λv z=>by
   have z':Data.fields _=Data.cell v:=z
   cases z'⟩
 keep:=λi h h' st k=>k it (by simp) _ st
 item:=by
  intro X hP hw hK hc i pins s σ H E I hf st hg
  subst hP hw hK
  obtain⟨f0,f1,f2,f3,f4,f5⟩:=hf it (by simp)
  have W:=Walks.range (prog:=X.prog) (w:=X.w) (I.ok.hd hc) it lo 1 n
  refine W.item i s _ _ hg st λv h' tk hv st' kk=>?_
  obtain⟨t,rfl⟩:=hv
  have I1:Inv X pins σ H {s with heap:=h',toks:=tk}:=I.turned (λb o hb e=>kk b o (by simpa using hb) e) f0 f1 f3 f4 f5
  refine⟨_,rfl,bWK (s:={s with heap:=h',toks:=tk}) (n:="range_iterator") st' rfl rfl (by decide) ⟨.int (lo+i),H,I1,⟨t,?_⟩,⟨rfl,rfl⟩,st',λb hb=>(hf b hb).1⟩⟩
  rw[Int.mul_one]
 done:=by
  intro X hP hw hK hc i pins s σ H E I hf st hg
  subst hP hw hK
  obtain⟨f0,f1,f2,f3,f4,f5⟩:=hf it (by simp)
  exact wpAny_pyNext_range_end (I.ok.hd hc) st (by have:n<=i:=hg;omega) λh' eb=>⟨rfl,I.turned (t':=s.toks) (λb o hb e=>eb b o hb e) f0 f1 f3 f4 f5⟩
 self:=λ_ _ _ _ _ st h=>wpAny_pyIter_rangeiter st h
end L2
namespace L2
open PySem PySem.Spec PyProof.Rows
section
variable {X:Cx}{tg:Expr}
def bKY(K:bYO)(tl:TE):TI:=λσ H R=>tl σ H λx H1=>∃a,x= .ref a/\(∃xs,SqL K H1 a xs)/\R (Itl K a) H1
theorem xR{l:Expr}{tl:TE}(hl:PE X l tl):PI X tg l (bKY X.K tl):=by
 intro pins s σ H R I h;refine thn (hl pins s σ H _ I h) λv s1 ⟨x,H1,I1,r1,q1⟩=>?_;obtain⟨a,e,⟨xs,f⟩,q⟩:=q1;subst e;cases r1;obtain⟨d,i,p,g⟩:=I1.list f;refine cVd p.isList ?_;refine⟨s1.heap.objs.size,[s1.heap.objs.size],_,_,H1,rfl,I1.kept (t':=s1.toks) λb o e=>bYS _ e,bQ7 a _,⟨_,cQh _ rfl,rfl,rfl⟩,λb c=>?_,q⟩;have e:b=s1.heap.objs.size:=by simpa using c
 subst e;exact I1.fpOk (bYT _) (I1.hok.fresh (bYT _))
theorem bZl{pins:List (Addr×Obj)}{σ:St}{H:Hp}{s:bYP}{R:It->Hp->Prop}{E:bYM->bYP->Prop}{lo hi:Int}{t u v:Tok}{tk:Nat}(I:Inv X pins σ H s)(h1: -(2 ^ 62)<=lo)(h2:lo<2 ^ 62)(c: -(2 ^ 62)<=hi)(d:hi<2 ^ 62) (q:R (Itr lo (hi - lo).toNat) H):bYU (bYV X.prog X.w) X.A (pyIter (.ref s.heap.objs.size)) (PIE X pins σ tg R) E {s with heap:=s.heap.push {cls:= .type "range",data:= .fields #[.int lo t,.int hi u,.int 1 v] },toks:=tk}:=by
 refine wpAny_pyIter_range (IsRange.new ..) (small_one h1 h2 c d) ?_;have a:Inv X pins σ H {s with heap:=s.heap.push {cls:= .type "range",data:= .fields #[.int lo t,.int hi u,.int 1 v] },toks:=tk}:=I.kept λb o e=>bYS _ e;refine⟨(s.heap.push {cls:= .type "range",data:= .fields #[.int lo t,.int hi u,.int 1 v] }).objs.size,[(s.heap.push {cls:= .type "range",data:= .fields #[.int lo t,.int hi u,.int 1 v] }).objs.size],_,_,H,rfl,a.kept (t':=tk) λb o e=>bYS _ e,aKG _ lo (hi - lo).toNat,?_,λb f=>?_,q⟩
 ·have h:lo+((0:Nat):Int)*1=lo:=by simp
  have g:(((hi - lo).toNat:Nat):Int) - ((0:Nat):Int)=Builtin.Range.rangeSize lo hi 1:=by rw[rangeSize_one];split<;> omega
  show IsRangeIter _ _ (lo+((0:Nat):Int)*1) ((((hi - lo).toNat:Nat):Int) - ((0:Nat):Int)) 1;rw[h,g];exact cQh _ rfl
 ·have e:b=(s.heap.push {cls:= .type "range",data:= .fields #[.int lo t,.int hi u,.int 1 v] }).objs.size:=by simpa using f
  subst e;exact a.fpOk (bYT _) (a.hok.fresh (bYT _))
def bKZ(ta:TA):TI:=λσ H R=>ta σ H λa H1=>∃j:Int,a= [.int j]/\ -(2 ^ 62)<=j/\j<2 ^ 62/\R (Itr 0 j.toNat) H1
theorem zN{a:Expr}{ta:TA}{p pos:Pos}(f:Gl X "range")(g:X.mg "range"=none)(i:PA X [a] ta)(k:cQt [a] X.env= [(false,eval a X.env)]:=by rfl):PI X tg (.Call (.Name "range" p) [a] [] pos) (bKZ ta):=by
 intro pins s σ H R I h;refine Call_ (aXC I f g boot_range (cZT (thn (i pos pins s σ H _ I h) λus s1 ⟨vs,H1,I1,r1,b⟩=>?_) k rfl));obtain⟨j,e,b,c,q⟩:=b;subst e;cases r1 with
 |cons r d=>cases d;obtain⟨t,rfl⟩:=r;exact call_range_1 (bZl I1 (by omega) (by omega) b c (by simpa using q))
def bYG(d:TI)(g:TG)(tb:TS):TS:=λD σ H=>d σ H λJ H1=>∃W:Nat->Nat->St->Hp->Prop,(∃m,W 0 m σ H1)/\∀i m σ H,W i m σ H->
 (J.stop i H/\D.nx σ H)\/(J.go i H/\∃N:St->Hp->Prop,(∀a H',N a H'->∃c,c<m/\W (i+1) c a H')/\∀x H',J.yld i H x H'->g x σ H' λb H2=>tb {D with nx:=N,ct:=N,bk:=D.nx} b H2)
def aJe(a:List Addr)(h:Heap):List (Addr×Obj):=a.filterMap λb=>(h.get? b).map λo=>(b,o)
theorem jN{a:List Addr}{h:Heap}{b:Addr}{o:Obj}(c:b∈a)(e:h.get? b=some o):(b,o)∈aJe a h:=List.mem_filterMap.mpr ⟨b,c,by rw[e];rfl⟩
theorem aYD{a:List Addr}{h:Heap}{p:Addr×Obj}(c:p∈aJe a h):p.1∈a/\h.get? p.1=some p.2:=by
 obtain⟨b,f,e⟩:=List.mem_filterMap.mp c;cases q:h.get? b with
 |none=>rw[q]at e;cases e
 |some o=>rw[q]at e;have d:(b,o)=p:=bY6 e;subst d;exact⟨f,q⟩
theorem Inv.pinned{pins:List (Addr×Obj)}{σ:St}{H:Hp}{s:bYP}{a:List Addr}(I:Inv X pins σ H s)(l:∀b∈a,bZ9 X pins H b)(j:∀b∈a,∃o,s.heap.get? b=some o/\∀v,o.data≠ .cell v):Inv X (pins++aJe a s.heap) σ H s:=
 I.pins_of λp k=>(cQn.mp k).elim (λz=>I.pin p (cQc _ z)) λz=>by obtain⟨c,e⟩:=aYD z;obtain⟨g,h,i,_⟩:=l p.1 c;obtain⟨o,f,d⟩:=j p.1 c;rw[e]at f;cases f;exact⟨e,g,h,i,d⟩
theorem Inv.unpinned{pins pl:List (Addr×Obj)}{σ:St}{H:Hp}{s:bYP}(I:Inv X (pins++pl) σ H s):Inv X pins σ H s:=I.pins_of λp a=>I.pin p (cQc _ (cXV _ a))
theorem wL{t:Expr}{body:List Stmt}{S:TI}{g:TG}{tb:TS}{pos:Pos}(K:PassesOwn (bYV X.prog X.w) X.A X.env X.xe)(V:X.calm=true)(hi:PI X tg t S)(hg:PG X tg g)(p:PSs X body tb) (hs:∀x,cVc t X.env x=pure x:=by intro _;rfl):PS X (.For tg t body [] pos) (bYG S g tb):=by
 intro pins s σ H D I h;refine wpAny_For (thn (hi pins s σ H _ I h) λv s1 h1=>thn h1 λa0 s2 h2=>?_) hs;obtain⟨it,F,tn,J,H2,e,Z,T,O,Q,W,⟨m0,w0⟩,turn⟩:=h2;subst e;have q:∀ {H':Hp},(∀b∈F,H' b=none)->∀b∈F,bZ9 X pins H' b:=λhn b p=>⟨hn b p,(Q b p).2⟩;refine codeAny_forLoop_any (λn s'=>∃i y H',Inv X pins y H' s'/\tn i s'.heap/\(∀b∈F,H' b=none)/\W i n y H') ?_ m0 ⟨0,σ,H2,Z,O,λb p=>(Q b p).1,w0⟩;rintro n U ⟨i,k,L,R,C,E,w3⟩;rcases turn i n k L w3 with⟨B,qn⟩|⟨go,N,Y,step⟩
 ·refine cZe K (thn (T.done X rfl rfl rfl V i pins U k L X.xe R (q E) C B) λr s4 ⟨hr,I4⟩=>?_);subst hr;exact cJJ ⟨k,L,I4,qn⟩
 ·refine cZe K (thn (T.item X rfl rfl rfl V i pins U k L X.xe R (q E) C go) λr s4 ⟨u,hr,h4⟩=>?_);subst hr;refine cZe K (thn h4 λ_ s5 ⟨x,H5,I5,r5,y5,st5,fr5⟩=>?_);have P:=I5.pinned (q fr5) (T.obj _ _ st5);refine cZe K (thn (hg _ s5 k H5 x u _ P r5 (step x H5 y5)) λ_ s6 ⟨σ6,H6,I6,q6⟩=>?_);refine cZe K (thn (p _ s6 σ6 H6 _ I6 q6) λf M z=>?_);have l:∀ {a:St} {j:Hp},Inv X (pins++aJe F s5.heap) a j M->N a j->∃m,m<n/\∃i y H',Inv X pins y H' M/\tn i M.heap/\(∀b∈F,H' b=none)/\W i m y H':=λ{a j} c G=>by
   obtain⟨m',hm,w7⟩:=Y a j G;refine⟨m',hm,i+1,a,j,c.unpinned,T.keep _ _ _ st5 λb p o e=>(c.pin (b,o) (cQc _ (cQc _ (jN p e)))).1,λb p=>?_,w7⟩;obtain⟨o,e,d⟩:=T.obj _ _ st5 b p;exact(c.pin (b,o) (cQc _ (cQc _ (jN p e)))).2.1
  cases f with
  |next=>obtain⟨a,j,c,G⟩:=z;exact l c G
  |cont=>obtain⟨a,j,c,G⟩:=z;exact l c G
  |brk=>obtain⟨a,j,c,z⟩:=z;exact⟨a,j,c.unpinned,z⟩
  |ret v=>obtain⟨x7,a,j,c,r7,z⟩:=z;exact⟨x7,a,j,c.unpinned,r7,z⟩
end
theorem zX{K:bYO}{a:Addr}{xs:List V}{g:TG}{tb:TS}{D:aKI}{σ:St}{H:Hp}(b:Nat->St->Hp->Prop)(h0:b 0 σ H)(hl:∀i σ H,i<=xs.length->b i σ H->SqL K H a xs) (l:∀i x σ H,xs[i]? =some x->b i σ H->g x σ H λc H2=>tb {D with nx:=b (i+1),ct:=b (i+1),bk:=D.nx} c H2) (k:∀σ H,b xs.length σ H->D.nx σ H): ∃W:Nat->Nat->St->Hp->Prop,(∃m,W 0 m σ H)/\∀i m σ H,W i m σ H-> ((Itl K a).stop i H/\D.nx σ H)\/((Itl K a).go i H/\∃N:St->Hp->Prop,(∀d H',N d H'->∃h,h<m/\W (i+1) h d H')/\∀x H',(Itl K a).yld i H x H'->g x σ H' λc H2=>tb {D with nx:=N,ct:=N,bk:=D.nx} c H2):=by
 refine⟨λi m σ H=>m=xs.length - i/\i<=xs.length/\b i σ H,⟨xs.length,by simp,cQM _,h0⟩,?_⟩;rintro i m σ H ⟨rfl,hi,p⟩;have q:=hl i σ H hi p;by_cases f:i<xs.length
 ·refine .inr ⟨⟨xs,xs[i],q,by simp[f]⟩,b (i+1),λd H' j=>⟨xs.length - (i+1),by omega,rfl,f,j⟩,λx H' y=>?_⟩;obtain⟨e,y⟩:=y;subst e;exact l i x σ _ (y xs q) p
 ·have e:i=xs.length:=by omega
  subst e;exact .inl ⟨⟨xs,q,bYT _⟩,k σ H p⟩
theorem wV{lo:Int}{n:Nat}{g:TG}{tb:TS}{D:aKI}{σ:St}{H:Hp}(a:Nat->St->Hp->Prop)(h0:a 0 σ H) (k:∀i σ H,i<n->a i σ H->g (.int (lo+i)) σ H λc H2=>tb {D with nx:=a (i+1),ct:=a (i+1),bk:=D.nx} c H2) (j:∀σ H,a n σ H->D.nx σ H): ∃W:Nat->Nat->St->Hp->Prop,(∃m,W 0 m σ H)/\∀i m σ H,W i m σ H-> ((Itr lo n).stop i H/\D.nx σ H)\/((Itr lo n).go i H/\∃N:St->Hp->Prop,(∀d H',N d H'->∃f,f<m/\W (i+1) f d H')/\∀x H',(Itr lo n).yld i H x H'->g x σ H' λc H2=>tb {D with nx:=N,ct:=N,bk:=D.nx} c H2):=by
 refine⟨λi m σ H=>m=n - i/\i<=n/\a i σ H,⟨n,by simp,cQM _,h0⟩,?_⟩;rintro i m σ H ⟨rfl,hi,p⟩;by_cases b:i<n
 ·refine .inr ⟨b,a (i+1),λd H' h=>⟨n - (i+1),by omega,rfl,b,h⟩,λx H' y=>?_⟩;obtain⟨e,y⟩:=y;subst e y;exact k i σ _ b p
 ·have e:i=n:=by omega
  subst e;exact .inl ⟨bYT _,j σ H p⟩
end L2
namespace L2
open PySem PySem.Spec PyProof.Rows
abbrev R2:=V->V->Hp->VK->Prop
def OpR(X:Cx)(f:bYM->bYM->Sem bYM)(r:R2):Prop:=
 ∀ (pins:List (Addr×Obj))(s:bYP)(σ:St)(H:Hp)(x y:V)(v u:bYM)(Q:VK),Inv X pins σ H s->zI x v->zI y u->r x y H Q->
  bYU (bYV X.prog X.w) X.A (f v u) (EP X pins σ Q) X.xe s
def UnR(X:Cx)(f:bYM->Sem bYM)(r:V->Hp->VK->Prop):Prop:=
 ∀ (pins:List (Addr×Obj))(s:bYP)(σ:St)(H:Hp)(x:V)(v:bYM)(Q:VK),Inv X pins σ H s->zI x v->r x H Q->
  bYU (bYV X.prog X.w) X.A (f v) (EP X pins σ Q) X.xe s
def jT(X:Cx)(f:bYM)(r:List V->Hp->VK->Prop):Prop:=
 ∀ (pins:List (Addr×Obj))(s:bYP)(σ:St)(H:Hp)(xs:List V)(a:List bYM)(Q:VK),Inv X pins σ H s->xY xs a->r xs H Q->
  bYU (bYV X.prog X.w) X.A (call f a) (EP X pins σ Q) X.xe s
def tOp(r:R2)(ta tb:TE):TE:=λσ H Q=>ta σ H λx H1=>tb σ H1 λy H2=>r x y H2 Q
def tUn(r:V->Hp->VK->Prop)(ta:TE):TE:=λσ H Q=>ta σ H λx H1=>r x H1 Q
def rI(C:Int->Int->Prop)(g:Int->Int->V):R2:=λx y H Q=>∃i j,x= .int i/\y= .int j/\C i j/\Q (g i j) H
def rI0(g:Int->Int->V):R2:=λx y H Q=>∃i j,x= .int i/\y= .int j/\Q (g i j) H
def rU(g:Int->V):V->Hp->VK->Prop:=λx H Q=>∃i,x= .int i/\Q (g i) H
section
variable {X:Cx}{a b c:Expr}{ta tb tc:TE}{pos:Pos}
theorem bKU(i:PE X a ta)(g:PE X b tb){pins:List (Addr×Obj)}{s:bYP}{σ:St}{H:Hp}{R:V->V->Hp->Prop}(I:Inv X pins σ H s) (h:ta σ H λx H1=>tb σ H1 λy H2=>R x y H2) {Q:bYM->bYP->Prop} {f:bYM->bYM->Sem bYM} (j:∀v u e x y H2,Inv X pins σ H2 e->zI x v->zI y u->R x y H2->bYU (bYV X.prog X.w) X.A (f v u) Q X.xe e): bYU (bYV X.prog X.w) X.A (eval a X.env) (λv d=>bYU (bYV X.prog X.w) X.A (eval b X.env) (λu c=>bYU (bYV X.prog X.w) X.A (f v u) Q X.xe c) X.xe d) X.xe s:=by
 refine thn (i pins s σ H _ I h) λv s1 ⟨x,H1,I1,r1,q1⟩=>?_;refine thn (g pins s1 σ H1 _ I1 q1) λu e ⟨y,H2,I2,r2,q2⟩=>?_;exact j v u e x y H2 I2 r1 r2 q2
theorem yV{op:Operator}{r:R2}(j:OpR X (cZh op) r)(f:PE X a ta)(e:PE X b tb):PE X (.BinOp a op b pos) (tOp r ta tb):=by
 intro pins s σ H Q I h;exact wpAny_BinOp (bKU f e I h λv u g x y H2 c d i q=>j pins g σ H2 x y v u Q c d i q)
theorem aY0{op:UnaryOp}{r:V->Hp->VK->Prop}(b:UnR X (unaryOp op) r)(c:PE X a ta):PE X (.UnaryOp op a pos) (tUn r ta):=by
 intro pins s σ H Q I h;exact UnaryOp_ (thn (c pins s σ H _ I h) λv s1 ⟨x,H1,I1,r1,q1⟩=>b pins s1 σ H1 x v Q I1 r1 q1)
theorem opI{f:bYM->bYM->Sem bYM}{C:Int->Int->Prop}{g:Int->Int->Int} (a:∀ (i j:Int)(t u:Tok)(s:bYP)(Q:bYM->bYP->Prop)(E:bYM->bYP->Prop),C i j->Q (.int (g i j) s.toks) {s with toks:=s.toks+1}->bYU (bYV X.prog X.w) X.A (f (.int i t) (.int j u)) Q E s): OpR X f (rI C λi j=> .int (g i j)):=by
 intro pins s σ H x y v u Q I e c h;obtain⟨i,j,rfl,rfl,d,q⟩:=h;obtain⟨t,rfl⟩:=e;obtain⟨b,rfl⟩:=c;exact a i j t b s _ _ d ⟨.int (g i j),H,I.tok _,⟨_,rfl⟩,q⟩
theorem bYh{f:bYM->bYM->Sem bYM}{g:Int->Int->Int} (a:∀ (i j:Int)(t u:Tok)(s:bYP)(Q:bYM->bYP->Prop)(E:bYM->bYP->Prop),Q (.int (g i j) s.toks) {s with toks:=s.toks+1}->bYU (bYV X.prog X.w) X.A (f (.int i t) (.int j u)) Q E s): OpR X f (rI0 λi j=> .int (g i j)):=by
 intro pins s σ H x y v u Q I d c h;obtain⟨i,j,rfl,rfl,q⟩:=h;obtain⟨t,rfl⟩:=d;obtain⟨b,rfl⟩:=c;exact a i j t b s _ _ ⟨.int (g i j),H,I.tok _,⟨_,rfl⟩,q⟩
theorem bKI{f:bYM->bYM->Sem bYM}{g:Int->Int->Bool} (a:∀ (i j:Int)(t u:Tok)(s:bYP)(Q:bYM->bYP->Prop)(E:bYM->bYP->Prop),Q (.bool (g i j)) s->bYU (bYV X.prog X.w) X.A (f (.int i t) (.int j u)) Q E s): OpR X f (rI0 λi j=> .bl (g i j)):=by
 intro pins s σ H x y v u Q I d c h;obtain⟨i,j,rfl,rfl,q⟩:=h;obtain⟨t,rfl⟩:=d;obtain⟨b,rfl⟩:=c;exact a i j t b s _ _ ⟨.bl (g i j),H,I,rfl,q⟩
def bYp(i j:Int):Prop:=0<j/\j<1073741824
def bYd(i j:Int):Prop:=0<=j/\j<=1000000/\i.natAbs<2 ^ 64
def bKO(i j:Int):Prop:=(-(2 ^ 64)<i/\i<2 ^ 64)\/(-(2 ^ 64)<j/\j<2 ^ 64)
theorem bKO.ok{i j:Int}(h:bKO i j):IntMulOk i j:=by
 rcases h with⟨h1,h2⟩|⟨h1,h2⟩
 ·exact .of_left (intBits_le_64 h1 h2)
 ·exact .of_right (intBits_le_64 h1 h2)
theorem zA:OpR X (cZh .Add) (rI0 λi j=> .int (i+j)):=bYh λ_ _ _ _ _ _ _ q=>add_int q
theorem w6:OpR X (cZh .Sub) (rI0 λi j=> .int (i - j)):=bYh λ_ _ _ _ _ _ _ q=>sub_int q
theorem aVW:OpR X (cZh .Mult) (rI bKO λi j=> .int (i*j)):=opI λ_ _ _ _ _ _ _ a q=>mul_int q a.ok
theorem Z2:OpR X (cZh .FloorDiv) (rI bYp λi j=> .int (i / j)):=opI λi j _ _ _ _ _ a q=>by
 have h1:(0:Int)<j:=a.1;have h2:j<1073741824:=a.2;exact floordiv_int (by omega) (by rw[Int.fdiv_eq_ediv_of_nonneg i (by omega)];exact q) (.inl (PyProof.noPylong_small (by omega)))
theorem y3:OpR X (cZh .Mod) (rI (λ_ j=>0<j) λi j=> .int (i % j)):=opI λi j _ _ _ _ _ a q=>by
 have h1:(0:Int)<j:=a;exact mod_int' (by omega) (by rw[Int.fmod_eq_emod_of_nonneg i (by omega)];exact q)
theorem aQI:OpR X (cZh .Pow) (rI bYd λi j=> .int (i ^ j.toNat)):=opI λ_ _ _ _ _ _ _ a q=>pow_int_small a.1 a.2.1 a.2.2 q
theorem unI{f:bYM->Sem bYM}{g:Int->Int} (a:∀ (i:Int)(t:Tok)(s:bYP)(Q:bYM->bYP->Prop)(E:bYM->bYP->Prop),Q (.int (g i) s.toks) {s with toks:=s.toks+1}->bYU (bYV X.prog X.w) X.A (f (.int i t)) Q E s): UnR X f (rU λi=> .int (g i)):=by
 intro pins s σ H x v Q I b h;obtain⟨i,rfl,q⟩:=h;obtain⟨t,rfl⟩:=b;exact a i t s _ _ ⟨.int (g i),H,I.tok _,⟨_,rfl⟩,q⟩
theorem aJx:UnR X (unaryOp .USub) (rU λi=> .int (-i)):=unI λ_ _ _ _ _ q=>neg_int q
end
def bYj:V->V->Bool
 |.non,.non=>true|.non,.int _=>true|.int _,.non=>true|.non,.bl _=>true|.bl _,.non=>true|.non,.str _=>true|.str _,.non=>true
 |.int _,.int _=>true|.bl _,.bl _=>true|.str _,.str _=>true|.byt _,.byt _=>true
 |.int _,.str _=>true|.str _,.int _=>true|.bl _,.str _=>true|.str _,.bl _=>true
 |_,_=>false
def rEq:R2:=λx y H Q=>bYj x y=true/\Q (.bl (decide (x=y))) H
def rNe:R2:=λx y H Q=>bYj x y=true/\Q (.bl (!decide (x=y))) H
theorem aK2{i j:Int}:decide (V.int i=V.int j)=(i==j):=by
 rw[Bool.eq_iff_iff];simp
theorem bJd{i j:Bool}:decide (V.bl i=V.bl j)=(i==j):=by
 rw[Bool.eq_iff_iff];simp
theorem aK3{i j:Str}:decide (V.str i=V.str j)=(i==j):=by
 rw[Bool.eq_iff_iff];simp
theorem aK1{i j:Array UInt8}:decide (V.byt i=V.byt j)=(i.toList==j.toList):=by
 rw[Bool.eq_iff_iff];cases i;cases j;simp
section
variable {X:Cx}{a b c:Expr}{ta tb tc:TE}{pos:Pos}
theorem xT{pins:List (Addr×Obj)}{σ:St}{H:Hp}{s:bYP}{Q:VK}{k a:Bool}(I:Inv X pins σ H s)(q:Q (.bl k) H)(e:k=a):EP X pins σ Q (.bool a) s:=by
 subst e;exact⟨.bl k,H,I,rfl,q⟩
theorem zH:OpR X (cXk .Eq) rEq:=by
 intro pins s σ H x y v u Q I d a h;obtain⟨c,q⟩:=h;cases x with
 |non=>
  cases d;cases y with
  |non=>cases a;exact PySem.EqNone.eq_none_none (xT I q (by simp))
  |bl j=>cases a;exact PySem.EqNone.eq_none_bool (xT I q (by simp))
  |int j=>obtain⟨b,rfl⟩:=a;exact PySem.EqNone.eq_none_int (xT I q (by simp))
  |str j=>obtain⟨b,rfl⟩:=a;exact PySem.EqNone.eq_none_str (xT I q (by simp))
  |_=>exact absurd (show false=true from c) Bool.false_ne_true
 |bl i=>
  cases d;cases y with
  |non=>cases a;exact PySem.EqNone.eq_bool_none (xT I q (by simp))
  |bl j=>cases a;exact eq_bool (xT I q bJd)
  |str j=>obtain⟨b,rfl⟩:=a;exact PySem.EqMixed.eq_bool_str (xT I q (by simp))
  |_=>exact absurd (show false=true from c) Bool.false_ne_true
 |int i=>
  obtain⟨t,rfl⟩:=d;cases y with
  |non=>cases a;exact PySem.EqNone.eq_int_none (xT I q (by simp))
  |int j=>obtain⟨b,rfl⟩:=a;exact eq_int (xT I q aK2)
  |str j=>obtain⟨b,rfl⟩:=a;exact PySem.EqMixed.eq_int_str (xT I q (by simp))
  |_=>exact absurd (show false=true from c) Bool.false_ne_true
 |str i=>
  obtain⟨t,rfl⟩:=d;cases y with
  |non=>cases a;exact PySem.EqNone.eq_str_none (xT I q (by simp))
  |bl j=>cases a;exact PySem.EqMixed.eq_str_bool (xT I q (by simp))
  |int j=>obtain⟨b,rfl⟩:=a;exact PySem.EqMixed.eq_str_int (xT I q (by simp))
  |str j=>obtain⟨b,rfl⟩:=a;exact eq_str (xT I q aK3)
  |_=>exact absurd (show false=true from c) Bool.false_ne_true
 |byt i=>
  obtain⟨t,rfl⟩:=d;cases y with
  |byt j=>obtain⟨b,rfl⟩:=a;exact PySem.W.eq_bytes (xT I q aK1)
  |_=>exact absurd (show false=true from c) Bool.false_ne_true
 |_=>cases y<;> exact absurd (show false=true from c) Bool.false_ne_true
theorem Y0:OpR X (cXk .NotEq) rNe:=by
 intro pins s σ H x y v u Q I d a h;obtain⟨c,q⟩:=h;cases x with
 |non=>
  cases d;cases y with
  |non=>cases a;exact PySem.EqNone.ne_none_none (xT I q (by simp))
  |bl j=>cases a;exact PySem.EqNone.ne_none_bool (xT I q (by simp))
  |int j=>obtain⟨b,rfl⟩:=a;exact PySem.EqNone.ne_none_int (xT I q (by simp))
  |str j=>obtain⟨b,rfl⟩:=a;exact PySem.EqNone.ne_none_str (xT I q (by simp))
  |_=>exact absurd (show false=true from c) Bool.false_ne_true
 |bl i=>
  cases d;cases y with
  |non=>cases a;exact PySem.EqNone.ne_bool_none (xT I q (by simp))
  |bl j=>cases a;exact ne_bool (xT I q (congrArg not bJd))
  |str j=>obtain⟨b,rfl⟩:=a;exact PySem.EqMixed.ne_bool_str (xT I q (by simp))
  |_=>exact absurd (show false=true from c) Bool.false_ne_true
 |int i=>
  obtain⟨t,rfl⟩:=d;cases y with
  |non=>cases a;exact PySem.EqNone.ne_int_none (xT I q (by simp))
  |int j=>obtain⟨b,rfl⟩:=a;exact ne_int (xT I q (congrArg not aK2))
  |str j=>obtain⟨b,rfl⟩:=a;exact PySem.EqMixed.ne_int_str (xT I q (by simp))
  |_=>exact absurd (show false=true from c) Bool.false_ne_true
 |str i=>
  obtain⟨t,rfl⟩:=d;cases y with
  |non=>cases a;exact PySem.EqNone.ne_str_none (xT I q (by simp))
  |bl j=>cases a;exact PySem.EqMixed.ne_str_bool (xT I q (by simp))
  |int j=>obtain⟨b,rfl⟩:=a;exact PySem.EqMixed.ne_str_int (xT I q (by simp))
  |str j=>obtain⟨b,rfl⟩:=a;exact ne_str (xT I q (congrArg not aK3))
  |_=>exact absurd (show false=true from c) Bool.false_ne_true
 |byt i=>
  obtain⟨t,rfl⟩:=d;cases y with
  |byt j=>obtain⟨b,rfl⟩:=a;exact PySem.W.ne_bytes (xT I q (congrArg not aK1))
  |_=>exact absurd (show false=true from c) Bool.false_ne_true
 |_=>cases y<;> exact absurd (show false=true from c) Bool.false_ne_true
theorem vQ:OpR X (cXk .Lt) (rI0 λi j=> .bl (decide (i<j))):=bKI λ_ _ _ _ _ _ _ q=>lt_int q
theorem aYU:OpR X (cXk .LtE) (rI0 λi j=> .bl (decide (i<=j))):=bKI λ_ _ _ _ _ _ _ q=>le_int q
theorem aXp:OpR X (cXk .Gt) (rI0 λi j=> .bl (decide (j<i))):=bKI λ_ _ _ _ _ _ _ q=>gt_int q
theorem bK1:OpR X (cXk .GtE) (rI0 λi j=> .bl (decide (j<=i))):=bKI λ_ _ _ _ _ _ _ q=>ge_int q
theorem aXE:OpR X (cXk .Is) (λx y H Q=>y= .non/\Q (.bl (decide (x= .non))) H):=by
 intro pins s σ H x y v u Q I a b h;obtain⟨rfl,q⟩:=h;cases b;refine is_none_gen (xT I q ?_);cases x<;> first
  |(cases a;rfl)
  |(obtain⟨t,rfl⟩:=a;rfl)
theorem z6:OpR X (cXk .IsNot) (λx y H Q=>y= .non/\Q (.bl (!decide (x= .non))) H):=by
 intro pins s σ H x y v u Q I a b h;obtain⟨rfl,q⟩:=h;cases b;refine isnot_none_gen (xT I q ?_);cases x<;> first
  |(cases a;rfl)
  |(obtain⟨t,rfl⟩:=a;rfl)
theorem bJp(b:Expr){op:CmpOp}(h:op≠ .In:=by decide)(h2:op≠ .NotIn:=by decide):cZE op b=false:=by
 have c:(op==CmpOp.In)=false:=by cases op<;> first|rfl|exact absurd rfl h
 have a:(op==CmpOp.NotIn)=false:=by cases op<;> first|rfl|exact absurd rfl h2
 cases b<;> simp[cZE,c,a]
theorem zM{op:CmpOp}{r:R2}(k:OpR X (cXk op) r)(g:PE X a ta)(f:PE X b tb)(e:cZE op b=false:=by first|exact bJp _|with_unfolding_all rfl):PE X (.Compare a [op] [b] pos) (tOp r ta tb):=by
 intro pins s σ H Q I h;exact wpAny_Compare1 (bKU g f I h λv u i x y H2 c d j q=>k pins i σ H2 x y v u Q c d j q) e
def bKw(t:TE):TT:=λσ H Q=>t σ H λx H'=>∃k,x= .bl k/\Q k H'
theorem yM{op:CmpOp}{r:R2}(d:OpR X (cXk op) r)(f:PE X a ta)(i:PE X b tb)(g:cZE op b=false:=by first|exact bJp _|with_unfolding_all rfl):PT X (.Compare a [op] [b] pos) (bKw (tOp r ta tb)):=by
 intro pins s σ H Q I h;refine wpAny_isTrue_Compare1 (thn (f pins s σ H _ I h) λv s1 ⟨x,H1,I1,r1,q1⟩=>thn (i pins s1 σ H1 _ I1 q1) λu s2 ⟨y,H2,I2,r2,q2⟩=>
  thn (d pins s2 σ H2 x y v u _ I2 r1 r2 q2) λc s3 ⟨z,H3,I3,r3,k,e,q3⟩=>?_) g
 subst e;cases r3;exact cXM ⟨H3,I3,q3⟩
def bKu(r c:R2)(ta tb tc:TE):TE:=λσ H Q=>ta σ H λx H1=>tb σ H1 λy H2=>r x y H2 λz a=>∃k,z= .bl k/\
 (if k=true then tc σ a λd b=>c y d b Q else Q (.bl false) a)
theorem bZi{op f:CmpOp}{r i:R2}(q:OpR X (cXk op) r)(g:OpR X (cXk f) i)(n:PE X a ta)(m:PE X b tb)(p:PE X c tc) (l:lastMarks [op,f] [b,c]=false:=by with_unfolding_all rfl):PT X (.Compare a [op,f] [b,c] pos) (bKw (bKu r i ta tb tc)):=by
 intro pins s σ H Q I h;refine isTrue_chain (thn (n pins s σ H _ I h) λv s1 ⟨x,H1,I1,r1,q1⟩=>test_link (thn (m pins s1 σ H1 _ I1 q1) λu s2 ⟨y,H2,I2,r2,q2⟩=>
  thn (q pins s2 σ H2 x y v u _ I2 r1 r2 q2) λd s3 ⟨z,H3,I3,r3,k,e,q3⟩=>?_)) l
 subst e;cases r3;refine cXM ?_;cases k with
 |false=>obtain⟨t,o,j⟩:=q3;cases o;exact ite_ff ⟨H3,I3,j⟩
 |true=>refine ite_tt (test_last (thn (p pins s3 σ H3 _ I3 q3) λw' s4 ⟨z',H4,I4,r4,q4⟩=>thn (g pins s4 σ H4 y z' u w' _ I4 r2 r4 q4) λd' s5 ⟨z2,H5,I5,r5,k2,e2,q5⟩=>?_));subst e2;cases r5;exact cXM ⟨H5,I5,q5⟩
theorem aZ3:(cQb:Nat)<2 ^ 63:=by rw[cQe];decide
theorem aXD:OpR X (cZh .Add) (λx y H Q=>∃i j,x= .str i/\y= .str j/\i.length+j.length<=cQb/\Q (.str (i++j)) H):=by
 intro pins s σ H x y v u Q I d c h;obtain⟨i,j,rfl,rfl,b,q⟩:=h;obtain⟨t,rfl⟩:=d;obtain⟨a,rfl⟩:=c;exact add_str (λa tk=>⟨.str (i++j),H,I.tok _,⟨_,rfl⟩,q⟩) b
theorem aXe{x:V}{us:List bYM}(r:xY [x] us):∃u,us= [u]/\zI x u:=by
 cases r with
 |cons a b=>cases b;exact⟨_,rfl,a⟩
theorem bKB{x y:V}{us:List bYM}(r:xY [x,y] us):∃u a,us= [u,a]/\zI x u/\zI y a:=by
 cases r with
 |cons b c=>
  cases c with
  |cons d e=>cases e;exact⟨_,_,rfl,b,d⟩
theorem aKT(b:X.calm=true):jT X (.builtin "max") (λxs H Q=>∃i j,xs= [.int i,.int j]/\Q (.int (if j > i then j else i)) H):=by
 intro pins s σ H xs d Q I r h;obtain⟨i,j,rfl,q⟩:=h;obtain⟨u,e,rfl,⟨t,rfl⟩,⟨c,rfl⟩⟩:=bKB r;refine max_two_ints (I.ok.hd b) λh' tk k=>⟨_,H,I.kept k,?_,q⟩;by_cases a:j > i
 ·rw[if_pos a,if_pos a];exact⟨_,rfl⟩
 ·rw[if_neg a,if_neg a];exact⟨_,rfl⟩
theorem aKU(b:X.calm=true):jT X (.builtin "min") (λxs H Q=>∃i j,xs= [.int i,.int j]/\Q (.int (if j<i then j else i)) H):=by
 intro pins s σ H xs d Q I r h;obtain⟨i,j,rfl,q⟩:=h;obtain⟨u,e,rfl,⟨t,rfl⟩,⟨c,rfl⟩⟩:=bKB r;refine min_two_ints (I.ok.hd b) λh' tk k=>⟨_,H,I.kept k,?_,q⟩;by_cases a:j<i
 ·rw[if_pos a,if_pos a];exact⟨_,rfl⟩
 ·rw[if_neg a,if_neg a];exact⟨_,rfl⟩
theorem wT:jT X (.type "int") (λxs H Q=>(∃i,xs= [.int i]/\Q (.int i) H)\/∃k,xs= [.bl k]/\Q (.int (if k then 1 else 0)) H):=by
 intro pins s σ H xs b Q I r h;rcases h with⟨i,rfl,q⟩|⟨k,rfl,q⟩
 ·obtain⟨u,rfl,t,rfl⟩:=aXe r;exact call_int_int ⟨.int i,H,I,⟨_,rfl⟩,q⟩
 ·obtain⟨u,rfl,a⟩:=aXe r;cases a;exact call_int_bool ⟨.int (if k then 1 else 0),H,I.tok _,⟨_,rfl⟩,q⟩
end
end L2
namespace L2
open PySem PySem.Spec PyProof.Rows
structure bJK(h:Heap)(x dx C:Addr)(mA:Str->Option bYM):Prop where
 obj:h.get? x=some (cXX C dx)
 ns:h.Ns1 dx mA
 ne:dx≠x
theorem aZ4{h:Heap}{dx:Addr}{mA:Str->Option bYM}(n:h.Ns1 dx mA):∃c,h.get? dx=some c/\∀name,cJT name c=some (mA name):=by
 obtain⟨o,es,l,k,j,d,_,f⟩:=n;refine⟨o,k,λname=>?_⟩;have e:=f name;unfold nsFind findBy at e;rw[<- Array.find?_toList]at e;unfold cJT;rw[j];dsimp only;split
 ·rename_i y q;rw[q]at e;exact congrArg some e
 ·rename_i q;rw[q]at e;have a:es.toList.any (·.refKey)=false:=by
   rw[List.any_eq_false];intro y i;obtain⟨z,t,b⟩:=d y (Array.mem_toList_iff.mp i);simp[DictEntry.refKey,b]
  have g:¬es.toList.any (·.refKey)=true:=by rw[a];exact Bool.false_ne_true
  rw[if_neg g];exact congrArg some e
theorem bJK.look{h:Heap}{x dx C:Addr}{mA:Str->Option bYM}(I:bJK h x dx C mA):∃a,PySem.W.InstAt h x (cXX C dx) C (some a)/\∀name,cJT name a=some (mA name):=
 let ⟨a,ho,hl⟩:=aZ4 I.ns
 ⟨a,⟨I.obj,rfl,rfl,ho⟩,hl⟩
section
variable {prog:bY8}{w:cQg}{A:cQv}{E:bYM->bYP->Prop}{s:bYP}{K:bYO}{x dx C f:Addr}{mA:Str->Option bYM}{name:Str}{v:bYM}
theorem bJ1{a:Bool}{Q:bYM->bYP->Prop}(X:K.In s.heap)(I:bJK s.heap x dx C mA)(c:cZx K C name=true)(e:cZL K C=true) (f:cQy K (.ref C) name=some none) (d:mA name=some v) (b:PySem.W.handedIn v=true) (h:Q v {s with toks:=s.toks+1}): bYU (bYV prog w) A (getAttr (.ref x) name a) Q E s:=by
 obtain⟨g,J,hl⟩:=I.look;exact PySem.W.get_value X J (cJQ c).1 (PySem.W.findObj_own e f rfl (by rw[hl,d])) b h
theorem bXr{pl:Sem Bool}{Q:bYM×List bYM->bYP->Prop}(X:K.In s.heap)(I:bJK s.heap x dx C mA)(a:cZx K C name=true) (d:cQy K (.ref C) name=some (some (.ref f))) (c:cZw K (.ref f)=true) (e:mA name=none) (h:Q (.ref f,[.ref x]) s): bYU (bYV prog w) A (cJg (.ref x) name pl) Q E s:=by
 obtain⟨b,J,hl⟩:=I.look;exact PySem.W.method_fn X J (cJQ a).1 (cJQ a).2 d (beq_iff_eq.mp c) (by show(cJT name b).map (·.isSome)=some false;rw[hl,e];rfl) h
theorem bV9{j:List Str}{Q:Unit->bYP->Prop}(X:K.In s.heap)(I:bJK s.heap x dx C mA) (p:cQy K (.ref C) "__setattr__"=some (some (.builtin "object.__setattr__"))) (o:cJn K C=true) (l:PySem.W.takerIn K C name=some none) (q:cZL K C=true) (hw:PySem.Within mA j) (hsz:j.length<=cQb) (h:∀h',bJK h' x dx C (λy=>if y=name then some v else mA y)->cXP dx s.heap h'->Q () {s with heap:=h',toks:=s.toks+2}): bYU (bYV prog w) A (setAttr (.ref x) name v) Q E s:=by
 obtain⟨u,J,hl⟩:=I.look;refine PySem.W.set_plain X J p (PySem.W.osa_open (s:={s with toks:=s.toks+1}) (r:=none) X J o l λb=>?_);obtain⟨z,t,g⟩:=PySem.W.any_some q;have m:s.heap.get? x=some ⟨.ref C,some dx,.plain, #[]⟩:=I.obj;refine bYN (bYQ (bYN (bYN (wpAny_loadPart m (bYN (PySem.W.Looks.here (s:={s with toks:=s.toks+1}) (PySem.W.looks_clsIn X t) ?_))))));rw[g];refine bYQ (a:=some dx) (bYN (bYQ (bYN ?_)));refine wpAny_nsSet1 (s:={s with toks:=s.toks+1}) I.ns λh' c d=>?_;obtain⟨B,k,n,i,f,e⟩:=c.count (PySem.Within.cons name v hw);refine bYN (wpAny_lookBehind i (by rw[f];exact pastItsLine_dict (cQo e (by rw[cQN];omega))) ?_);exact bYQ (h _ ⟨(d.2 _ (cQu I.ne)).trans I.obj,c,I.ne⟩ d)
theorem bXL{R:Result->bYP->Prop}{vs:List bYM}{a:List (Str×bYM)}(X:K.In s.heap)(c:PySem.W.makesIn K C=true) (hi:cQy K (.ref C) "__init__"=some (some (.ref f))) (b:PySem.W.typeIn K (.ref f)=some (.type "function")) (h:cX1 (bYV prog w) (A.under (.builtin "type.__call__" ⟨.ref C::vs,a⟩)) (.call (.ref f) ⟨.ref (s.heap.objs.size+1)::vs,a⟩) (PySem.W.InitBack (s.heap.objs.size+1) R) {s with heap:=(s.heap.push cXB).push (cXX C s.heap.objs.size) }): cX1 (bYV prog w) A (.call (.ref C) ⟨vs,a⟩) R s:=by
 obtain⟨e,g,d,t,i⟩:=s;exact PySem.W.make_core (PySem.W.makes_of X c) (PySem.W.looks_findIn X hi) (λself=>PySem.W.bind_fn X self b) (.inl rfl) h
end
def aXs(f:Str)(v:V):List (Str×V)->List (Str×V)
 |[]=> [(f,v)]
 |(g,x)::r=>if g=f then(g,v)::r else(g,x)::aXs f v r
theorem aQF(f g:Str)(v:V):∀fs:List (Str×V),(aXs f v fs).lookup g=if g=f then some v else fs.lookup g
 |[]=>by
  show cX7 g [(f,v)]=_;by_cases h:g=f
  ·have a:(g==f)=true:=beq_iff_eq.mpr h;simp only[cX7,a,if_pos h]
  ·have a:(g==f)=false:=beq_eq_false_iff_ne.mpr h;simp only[cX7,a,if_neg h]
 |(k,x)::r=>by
  have c:=aQF f g v r;rw[show aXs f v ((k,x)::r)=(if k=f then(k,v)::r else(k,x)::aXs f v r)from rfl];by_cases b:k=f
  ·rw[if_pos b];by_cases h:g=k
   ·have a:(g==k)=true:=beq_iff_eq.mpr h;simp only[cX7,a,if_pos (h.trans b)]
   ·have a:(g==k)=false:=beq_eq_false_iff_ne.mpr h;simp only[cX7,a,if_neg (λe:g=f=>h (e.trans b.symm))]
  ·rw[if_neg b];by_cases h:g=k
   ·have a:(g==k)=true:=beq_iff_eq.mpr h;simp only[cX7,a,if_neg (λe:g=f=>b (h.symm.trans e))]
   ·have a:(g==k)=false:=beq_eq_false_iff_ne.mpr h;simp only[cX7,a];exact c
theorem aQw(f:Str)(v:V):∀fs:List (Str×V),f∈(aXs f v fs).map (·.1)/\∀g,g∈fs.map (·.1)->g∈(aXs f v fs).map (·.1)
 |[]=>⟨by simp[aXs],λg h=>by simp at h⟩
 |(k,x)::r=>by
  obtain⟨b,c⟩:=aQw f v r;rw[show aXs f v ((k,x)::r)=(if k=f then(k,v)::r else(k,x)::aXs f v r)from rfl];by_cases a:k=f
  ·rw[if_pos a];subst a;exact⟨by simp,λg h=>by simpa using h⟩
  ·rw[if_neg a];refine⟨?_,λg h=>?_⟩
   ·rw[cQz];exact bYZ _ b
   ·rw[cQz]at h ⊢;rcases bYX.mp h with e|e
    ·exact bYX.mpr (.inl e)
    ·exact bYZ _ (c g e)
theorem aQD(f:Str)(v:V):∀fs:List (Str×V),(aXs f v fs).length<=fs.length+1
 |[]=>by simp[aXs]
 |(k,x)::r=>by
  have b:=aQD f v r;rw[show aXs f v ((k,x)::r)=(if k=f then(k,v)::r else(k,x)::aXs f v r)from rfl];by_cases a:k=f
  ·rw[if_pos a,cQN,cQN];omega
  ·rw[if_neg a,cQN,cQN];omega
theorem aZz.some_of{v:V}{o:Option bYM}(r:aZz (some v) o):∃u,o=some u/\zI v u:=by
 cases o with
 |none=>exact(show False from r).elim
 |some u=>exact⟨u,rfl,r⟩
theorem aZz.none_of{o:Option bYM}(r:aZz none o):o=none:=by
 cases o with
 |none=>rfl
 |some u=>exact(show False from r).elim
theorem aZR{v:V}{u:bYM}(r:zI v u):PySem.W.handedIn u=true:=by
 cases v with
 |non=>cases (show u=Value.none from r);rfl
 |bl b=>cases (show u=Value.bool b from r);rfl
 |int i=>obtain⟨t,e⟩:=(show ∃t,u=Value.int i t from r);cases e;rfl
 |str x=>obtain⟨t,e⟩:=(show ∃t,u=Value.str x t from r);cases e;rfl
 |byt b=>obtain⟨t,e⟩:=(show ∃t,u=Value.bytes b t from r);cases e;rfl
 |flt b=>obtain⟨t,e⟩:=(show ∃t,u=Value.float b t from r);cases e;rfl
 |ref a=>cases (show u=Value.ref a from r);rfl
 |ty n=>cases (show u=Value.type n from r);rfl
section
variable {P:bY8}{w:cQg}{H H':Hp}{h h':Heap}{a C dx:Addr}{fs fs':List (Str×V)}
theorem aQs(b:HOk P w H h)(e:H a=some (.ins C dx fs)):∃mA,bJK h a dx C mA/\(∀f,aZz (fs.lookup f) (mA f))/\PySem.Within mA (fs.map (·.1))/\fs.length<=1000/\H dx=some (.own a):=by
 obtain⟨d,z,ne,c,mA,n,r,q⟩:=(show zG P w H h a (.ins C dx fs)from b a _ e);exact⟨mA,⟨c,n,ne⟩,r,q,z,d⟩
end
structure Cls(K:bYO)(C:Addr):Prop where
 pg:cZx K C Str.empty=true
 hd:cZL K C=true
 po:cJn K C=true
 sa:cQy K (.ref C) "__setattr__"=some (some (.builtin "object.__setattr__"))
theorem Cls.get{K:bYO}{C:Addr}(c:Cls K C)(f:Str):cZx K C f=true:=c.pg
def wS(K:bYO)(C:Addr)(f:Str):Prop:=cQy K (.ref C) f=some none
theorem wS.taker{K:bYO}{C:Addr}{f:Str}(n:wS K C f):PySem.W.takerIn K C f=some none:=by
 unfold PySem.W.takerIn;rw[show cQy K (.ref C) f=some none from n];rfl
structure bWp(K:bYO)(C:Addr)(m:Str)(f:Addr):Prop where
 at_:cQy K (.ref C) m=some (some (.ref f))
 fn:cZw K (.ref f)=true
 kp:cQK K (.ref f)=true
section
variable {X:Cx}{pins:List (Addr×Obj)}{σ:St}{H:Hp}{s:bYP}{a C dx:Addr}{fs:List (Str×V)}{f:Str}{v:V}{A:cQv}{E:bYM->bYP->Prop}
theorem aWI{b:Bool}{Q:bYM->bYP->Prop}(I:Inv X pins σ H s)(e:H a=some (.ins C dx fs))(c:Cls X.K C)(n:wS X.K C f)(l:fs.lookup f=some v) (h:∀u s',Inv X pins σ H s'->zI v u->Q u s'):bYU (bYV X.prog X.w) A (getAttr (.ref a) f b) Q E s:=by
 obtain⟨mA,O,r,_,_,_⟩:=aQs I.hok e;obtain⟨u,g,d⟩:=aZz.some_of (v:=v) (o:=mA f) (by rw[<- l];exact r f);exact bJ1 I.kIn O (c.get f) c.hd n g (aZR d) (h u _ (I.tok _) d)
theorem X8{m:Str}{g:Addr}{pl:Sem Bool}{Q:bYM×List bYM->bYP->Prop}(I:Inv X pins σ H s)(e:H a=some (.ins C dx fs))(c:Cls X.K C)(k:bWp X.K C m g)(l:fs.lookup m=none) (h:Q (.ref g,[.ref a]) s):bYU (bYV X.prog X.w) A (cJg (.ref a) m pl) Q E s:=by
 obtain⟨mA,O,r,_,_,_⟩:=aQs I.hok e;have b:mA m=none:=aZz.none_of (by rw[<- l];exact r m);exact bXr I.kIn O (c.get m) k.at_ k.fn b h
theorem aKC{y:V}{u:bYM}{Q:Unit->bYP->Prop}(I:Inv X pins σ H s)(e:H a=some (.ins C dx fs))(c:Cls X.K C)(n:wS X.K C f)(hl:fs.length<1000)(v:zI y u) (h:∀s',Inv X pins σ (upd H a (.ins C dx (aXs f y fs))) s'->Q () s'):bYU (bYV X.prog X.w) A (setAttr (.ref a) f u) Q E s:=by
 obtain⟨mA,O,r,i,_,j⟩:=aQs I.hok e;have t:(fs.map (·.1)).length<=cQb:=by rw[bYR,cQe];omega
 refine bV9 I.kIn O c.sa c.po n.taker c.hd i t λh' d k=>h _ ?_;have p:∃o,h'.get? dx=some o:=let ⟨o,_,_,e',_⟩:=d.ns;⟨o,e'⟩;refine I.write (x:=a) (e:=dx) (by rw[e];exact cXb) (.inr j) (λb q m z=>(k.2 b m).trans z) p ?_;refine⟨by rw[yJ O.ne];exact j,?_,O.ne,d.obj,_,d.ns,λg=>?_,λg l=>?_⟩
 ·have:=aQD f y fs;omega
 ·show aZz ((aXs f y fs).lookup g) (if g=f then some u else mA g);rw[aQF];by_cases q:g=f
  ·rw[if_pos q,if_pos q];exact v
  ·rw[if_neg q,if_neg q];exact r g
 ·by_cases q:g=f
  ·rw[q];exact(aQw f y fs).1
  ·refine(aQw f y fs).2 g (i g λz=>l ?_);show(if g=f then some u else mA g)=none;rw[if_neg q];exact z
theorem Inv.made(I:Inv X pins σ H s):Inv X pins σ (upd (upd H s.heap.objs.size (.own (s.heap.objs.size+1))) (s.heap.objs.size+1) (.ins C s.heap.objs.size [])) {s with heap:=(s.heap.push cXB).push (cXX C s.heap.objs.size) }:=by
 have c:(s.heap.push cXB).get? s.heap.objs.size=some cXB:=cQh s.heap rfl;have g:((s.heap.push cXB).push (cXX C s.heap.objs.size)).get? (s.heap.objs.size+1)=some (cXX C s.heap.objs.size):=by have:=cQh (s.heap.push cXB) (o:=cXX C s.heap.objs.size) rfl;rwa [cXo]at this
 have i:(s.heap.push cXB).Ns s.heap.objs.size (λ_=>none):=⟨cXB, #[],_,c,rfl,(λe h=>absurd h (by simp)),λ_=>rfl⟩;have f:=I.laid (a:=s.heap.objs.size) (o:= .own (s.heap.objs.size+1)) (h':=s.heap.push cXB) (t':=s.toks) (λb u q=>bYS _ q) (bYT _) ⟨_,c⟩;refine f.laid (a:=s.heap.objs.size+1) (o:= .ins C s.heap.objs.size []) (t':=s.toks) (λb u q=>bYS _ q) (cZt (cXo _ _)) ?_;have ne:s.heap.objs.size≠s.heap.objs.size+1:=cQd (cQ9 _);refine⟨by rw[yJ ne,yB],cQM _,ne,g,λ_=>none,(Heap.Ns1.of_empty i).at λo q=>bYS _ q,λ_=>cXb,λy d=>absurd rfl d⟩
theorem aKO{prog:bY8}{w:cQg}{env:Env}{e:Expr}{f:Str}{pos:Pos}{s:bYP}{Q:bYM->bYP->Prop}(b:cZD e f env (eval e env)=eval e env) (h:bYU (bYV prog w) A (eval e env) (λo a=>bYU (bYV prog w) A (getAttr o f true) Q E a) E s):bYU (bYV prog w) A (eval (.Attribute e f pos) env) Q E s:=
 Attribute_any_ h (by rw[arm_eval_Attribute,b])
end
def bYk(K:bYO)(ta:TE)(f:Str):TE:=λσ H Q=>ta σ H λx H1=>∃a C dx fs v,x= .ref a/\H1 a=some (.ins C dx fs)/\Cls K C/\wS K C f/\fs.lookup f=some v/\Q v H1
def bYD(K:bYO)(ta tv:TE)(f:Str):TS:=λD σ H=>tv σ H λy H1=>ta σ H1 λx H2=>∃a C dx fs,x= .ref a/\H2 a=some (.ins C dx fs)/\Cls K C/\wS K C f/\fs.length<1000/\
 D.nx σ (upd H2 a (.ins C dx (aXs f y fs)))
section
variable {X:Cx}{o e value:Expr}{f:Str}{pos pos' tpos:Pos}{ta tv:TE}
theorem y7(d:PE X e ta)(i:cZD e f X.env (eval e X.env)=eval e X.env):PE X (.Attribute e f pos) (bYk X.K ta f):=by
 intro pins s σ H Q I h;refine aKO i (thn (d pins s σ H _ I h) λu s1 ⟨x,H1,I1,rx,a,C,dx,fs,v,ex,ea,c,n,l,q⟩=>?_);subst ex;obtain rfl:u=Value.ref a:=rx;exact aWI I1 ea c n l λj k b g=>⟨v,H1,b,g,q⟩
theorem zR(e:PE X o ta)(g:PE X value tv)(d:swapsWith value (some (.Attribute o f pos')) pos.line X.env=pure false):PS X (.Assign [.Attribute o f pos'] value pos) (bYD X.K ta tv f):=by
 intro pins s σ H D I h;refine cJz (thn (g pins s σ H _ I h) λu s1 ⟨y,H1,I1,ry,q⟩=>thn (e pins s1 σ H1 _ I1 q) λov s2 ⟨x,H2,I2,rx,a,C,dx,fs,ex,ea,c,n,l,q2⟩=>?_) d;subst ex;obtain rfl:ov=Value.ref a:=rx;exact aKC I2 ea c n l ry λi b=>⟨σ,_,b,q2⟩
theorem bVe{pl:Sem Bool}{m:Str}{apos:Pos}{args:List Expr}{pins:List (Addr×Obj)}{s:bYP}{σ:St}{H:Hp}{Q:bYM->bYP->Prop}{te:TE}(i:PE X e te)(I:Inv X pins σ H s)
  (h:te σ H λx H1=>∃a C dx fs g,x= .ref a/\H1 a=some (.ins C dx fs)/\Cls X.K C/\bWp X.K C m g/\fs.lookup m=none/\
   ∀b,Inv X pins σ H1 b->bYU (bYV X.prog X.w) X.A (callWith pos (.ref g) [.ref a] (cXu pos (cQt args X.env)) (cZ1 pos (cX8 [] X.env))) Q X.xe b)
  (d:eval (.Call (.Attribute e m apos) args [] pos) X.env=(do
   let ov <- eval e X.env
   standAt apos.atName
   let (f,first) <- cJa [ov] (cJg ov m pl)
   callWith pos f first (cXu pos (cQt args X.env)) (cZ1 pos (cX8 [] X.env)))):
  bYU (bYV X.prog X.w) X.A (eval (.Call (.Attribute e m apos) args [] pos) X.env) Q X.xe s:=by
 refine cZQ (pl:=pl) (thn (i pins s σ H _ I h) λu b ⟨x,H1,I1,rx,a,C,dx,fs,g,ex,ea,c,k,l,q⟩=>?_) d
 subst ex
 obtain rfl:u=Value.ref a:=rx
 exact X8 I1 ea c k l (q b I1)
end
section
variable {X:Cx}{pins:List (Addr×Obj)}{σ:St}{H:Hp}{s:bYP}{A:cQv}{E:bYM->bYP->Prop}{Q:bYM->bYP->Prop}{c:bYM}{b:Bool}
inductive aJA(K:bYO)(H:Hp):V->bYM->Prop where
 |non:aJA K H .non (.type "NoneType")
 |bl (x:Bool):aJA K H (.bl x) (.type "bool")
 |int (i:Int):aJA K H (.int i) (.type "int")
 |str (x:Str):aJA K H (.str x) (.type "str")
 |flt (x:UInt64):aJA K H (.flt x) (.type "float")
 |lst {a:Addr} {xs:List V} (e:H a=some (.lst xs)):aJA K H (.ref a) (.type "list")
 |frz {a:Addr} {o:Obj} {xs:List V} (e:H a=some (.frz o (.lst xs))):aJA K H (.ref a) (.type "list")
 |tup {a:Addr} {xs:List V} (e:H a=some (.tup xs)):aJA K H (.ref a) (.type "tuple")
 |dK {a:Addr} {kvs:List (Key×V)} (e:H a=some (.dK kvs)):aJA K H (.ref a) (.type "dict")
 |dT {a:Addr} {kvs:List (List Key×V)} (e:H a=some (.dT kvs)):aJA K H (.ref a) (.type "dict")
 |ins {a C dx:Addr} {fs:List (Str×V)} (e:H a=some (.ins C dx fs)) (cl:Cls K C) (ha:cQy K (.ref C) "__class__"=some (some (.builtin "object.__class__")))
   (hn:cJo K (.builtin "object.__class__") "__get__"=some (some (.builtin "getset_descriptor.__get__"))) (htk:PySem.W.takesIn K (.builtin "object.__class__")=some true)
   (hm:cZ4 K C (.type "object")=some true):aJA K H (.ref a) (.ref C)
theorem aYg{x:V}{u t:bYM}(I:Inv X pins σ H s)(f:zI x u)(ty:aJA X.K H x t)(e:cQA X.K t c=some b)(h:∀tk,Q (.bool b) {s with toks:=tk}): bYU (bYV X.prog X.w) A (call (.builtin "isinstance") [u,c]) Q E s:=by
 cases ty with
 |non=>cases (show u=Value.none from f);exact cXs PySem.W.kitx_none I.kIn cXb e (λz=>nomatch z) h
 |bl y=>cases (show u=Value.bool y from f);exact cXs PySem.W.kitx_bool I.kIn cXb e (λz=>nomatch z) h
 |int i=>obtain⟨t,q⟩:=(show ∃t,u=Value.int i t from f);cases q;exact cXs PySem.W.kitx_int I.kIn cXb e (λz=>nomatch z) h
 |str y=>obtain⟨t,q⟩:=(show ∃t,u=Value.str y t from f);cases q;exact cXs PySem.W.kitx_str I.kIn cXb e (λz=>nomatch z) h
 |flt y=>obtain⟨t,q⟩:=(show ∃t,u=Value.float y t from f);cases q;exact cXs PySem.W.kitx_float I.kIn cXb e (λz=>nomatch z) h
 |@lst a xs d=>cases (show u=Value.ref a from f);obtain⟨_,_,n,_,h1⟩:=(show zG X.prog X.w H s.heap a (.lst xs)from I.hok a _ d);exact cXs cJm I.kIn ⟨_,h1,rfl⟩ e (λz=>nomatch z) h
 |@frz a r xs d=>cases (show u=Value.ref a from f);obtain⟨_,_,_,n,_,h1⟩:=(show zG X.prog X.w H s.heap a (.frz r (.lst xs))from I.hok a _ d);exact cXs cJm I.kIn ⟨_,h1,rfl⟩ e (λz=>nomatch z) h
 |@tup a xs d=>cases (show u=Value.ref a from f);obtain⟨_,_,_,p⟩:=(show zG X.prog X.w H s.heap a (.tup xs)from I.hok a _ d);obtain⟨o,h1,h2,_⟩:=p;exact cXs PySem.W.kitx_tuple I.kIn ⟨o,h1,h2⟩ e (λz=>nomatch z) h
 |@dK a g d=>cases (show u=Value.ref a from f);obtain⟨_,_,D,_,p⟩:=(show zG X.prog X.w H s.heap a (.dK g)from I.hok a _ d);obtain⟨o,es,l,h1,h2,_⟩:=p;exact cXs cJl I.kIn ⟨o,h1,h2.1⟩ e (λz=>nomatch z) h
 |@dT a g d=>cases (show u=Value.ref a from f);obtain⟨_,_,xs,_,o,es,l,h1,h2,_⟩:=(show zG X.prog X.w H s.heap a (.dT g)from I.hok a _ d);exact cXs cJl I.kIn ⟨o,h1,h2.1⟩ e (λz=>nomatch z) h
 |@ins a C dx fs d cl m v j k=>cases (show u=Value.ref a from f);obtain⟨mA,O,_⟩:=aQs I.hok d;obtain⟨B,J,_⟩:=O.look;exact cXs (PySem.W.kitx_own (cl.get _) cl.hd m v j k) I.kIn J e (λz=>nomatch z) h
end
end L2
namespace L2
open PySem PySem.Spec PyProof.Rows
structure vZ(k:Nat)(A:cQv):Prop where
 hd:A.handled=none
 dp:A.depth+3*k+5<recursionLimit
 un:A.units+16*k+200<cLine
theorem vZ.mono{j k:Nat}{A:cQv}(r:vZ k A)(h:j<=k):vZ j A:=⟨r.hd,by have:=r.dp;omega,by have:=r.un;omega⟩
theorem vZ.deeper{k:Nat}{A:cQv}(r:vZ (k+1) A)(env:Env):vZ k (A.deeper env):=
 ⟨r.hd,by have:=r.dp;show A.depth+1+3*k+5<_;omega,by have:=r.un;show A.units+3+16*k+200<_;omega⟩
theorem aWV{A:cQv}{C:Addr}{us:List bYM}{a:List (Str×bYM)}:(A.under (.builtin "type.__call__" ⟨.ref C::us,a⟩)).depth=A.depth+1:=by
 first|rfl|simp[Around.under,Code.weight,Code.isCreation,Code.isGuard,Code.isCaller,Code.frames,Code.isFrame,guardIds]
theorem aWW{A:cQv}{C:Addr}{us:List bYM}{a:List (Str×bYM)}:(A.under (.builtin "type.__call__" ⟨.ref C::us,a⟩)).units=A.units+1:=by
 first|rfl|simp[Around.under,Code.cUnits,Code.frames,Code.isFrame]
theorem vZ.make{k:Nat}{A:cQv}(r:vZ (k+1) A)(C:Addr)(us:List bYM)(a:List (Str×bYM)):vZ k (A.under (.builtin "type.__call__" ⟨.ref C::us,a⟩)):=
 ⟨r.hd,by have:=r.dp;rw[aWV];omega,by have:=r.un;rw[aWW];omega⟩
theorem vZ.depth{k:Nat}{A:cQv}(r:vZ k A):A.depth<recursionLimit:=by have:=r.dp;omega
theorem vZ.units{k:Nat}{A:cQv}(r:vZ k A):A.units+64<cLine:=by have:=r.un;omega
theorem vZ.units0{k:Nat}{A:cQv}(r:vZ k A):A.units<cLine:=by have:=r.un;omega
def bZW:TA:=λ_ H Q=>Q [] H
def aKE(ta:TE)(a:TA):TA:=λσ H Q=>ta σ H λx H1=>a σ H1 λxs H2=>Q (x::xs) H2
section
variable {X:Cx}{e:Expr}{es:List Expr}{te:TE}{t:TA}{pos:Pos}
theorem yD:PA X [] bZW:=λ_ _ _ _ H Q I h=>Calls.spliced_nil ⟨[],H,I,.nil,h⟩
theorem yA(b:PE X e te)(c:PA X es t)(a:cQt (e::es) X.env=(false,eval e X.env)::cQt es X.env:=by rfl):PA X (e::es) (aKE te t):=by
 intro pos pins s σ H Q I h;rw[a];show bYU _ _ (spliced ((false,eval e X.env)::cXu pos (cQt es X.env))) _ _ s;refine Calls.spliced_cons (thn (b pins s σ H _ I h) λu s1 ⟨x,H1,I1,r1,q1⟩=>?_);exact thn (c pos pins s1 σ H1 _ I1 q1) λus s2 ⟨xs,H2,I2,r2,q2⟩=>⟨x::xs,H2,I2,.cons r1 r2,q2⟩
def bYn(t:TA):TE:=λσ H Q=>t σ H λxs H1=>xs.length<=cQb/\∀p,H1 p=none->Q (.ref p) (upd H1 p (.tup xs))
def bYl(t:TA):TE:=λσ H Q=>t σ H λxs H1=>xs.length<=cQb/\∀p,H1 p=none->Q (.ref p) (upd H1 p (.lst xs))
theorem y8{x1}(h:PA X es t):PE X (.Tuple es x1 pos) (bYn t):=by
 intro pins s σ H Q I c;refine wpAny_Tuple_spliced (thn (h pos pins s σ H _ I c) λus s1 ⟨xs,H1,I1,r,z,q⟩=>⟨by rw[<- r.length];exact z,?_⟩);have a:H1 s1.heap.objs.size=none:=I1.hok.fresh (bYT _);refine⟨.ref s1.heap.objs.size,upd H1 s1.heap.objs.size (.tup xs),I1.laid (t':=s1.toks) (λb u e=>bYS _ e) (bYT _) ?_,rfl,q _ a⟩;exact⟨z,us,r,⟨_,cQh _ rfl,rfl,_,rfl⟩⟩
theorem yZ(h:PA X es t):PE X (.List es pos) (bYl t):=by
 intro pins s σ H Q I c;refine wpAny_List_spliced (thn (h pos pins s σ H _ I c) λus s1 ⟨xs,H1,I1,r,z,q⟩=>⟨by rw[<- r.length];exact z,?_⟩);have a:H1 s1.heap.objs.size=none:=I1.hok.fresh (bYT _);refine⟨.ref s1.heap.objs.size,upd H1 s1.heap.objs.size (.lst xs),I1.laid (t':=s1.toks) (λb u e=>bYS _ e) (bYT _) ?_,rfl,q _ a⟩;exact⟨z,us,0,r,cQh _ rfl⟩
end
abbrev Sp:=List V->Hp->VK->XK->Prop
abbrev CXT:=List Env->Hp->bYP->XK->bYM->bYP->Prop
structure bJH(P:bY8)(w:cQg)(K:bYO)(mg:Str->Option bYM)(base:Heap)(A:cQv)(outer:List Env)(s:bYP)(H:Hp):Prop where
 frames:A.frames=some outer
 mod:Mod K mg base
 bs:∀b o,base.get? b=some o->s.heap.get? b=some o/\H b=none
 bsz:base.objs.size<=s.heap.objs.size
 funs:s.heap.FunFrames base outer
 frf:∀b∈frs outer,H b=none
 hok:HOk P w H s.heap
 bare:AllBare s.gens
def CE(outer:List Env)(P:bY8)(w:cQg)(H:Hp)(s:bYP)(Q:VK)(u:bYM)(s':bYP):Prop:=
 ∃v H',s'.os=s.os/\AllBare s'.gens/\Un (frs outer) [] H H' s.heap s'.heap/\HOk P w H' s'.heap/\zI v u/\Q v H'
def CR(CX:CXT)(outer:List Env)(P:bY8)(w:cQg)(H:Hp)(s:bYP)(Q:VK)(E:XK)(r:Result)(s':bYP):Prop:=
 match r with
 |.ok (.ret u)=>CE outer P w H s Q u s'
 |.ok _=>False
 |.error e=>CX outer H s E e s'
structure xH(P:bY8)(w:cQg)(K:bYO)(mg:Str->Option bYM)(base:Heap)(CX:CXT)(k:Nat)(f:Addr)(fd:cXL)(ps:List Str)(sp:Sp):Prop where
 len:∀vs H Q E,sp vs H Q E->vs.length=ps.length
 run:∀ (A:cQv)(outer:List Env)(s:bYP)(H:Hp)(args:Args)(us:List bYM)(vs:List V)(Q:VK)(E:XK),vZ k A->bJH P w K mg base A outer s H->BindsTo s fd args (ps.zip us)->xY vs us->sp vs H Q E->
  cX1 (bYV P w) A (.call (.ref f) args) (CR CX outer P w H s Q E) s
theorem xH.mono{P:bY8}{w:cQg}{K:bYO}{mg:Str->Option bYM}{base:Heap}{CX:CXT}{j k:Nat}{f:Addr}{fd:cXL}{ps:List Str}{sp:Sp}(F:xH P w K mg base CX j f fd ps sp)(h:j<=k):
  xH P w K mg base CX k f fd ps sp:=⟨F.len,λA outer s H args c b Q E a=>F.run A outer s H args c b Q E (a.mono h)⟩
theorem bJH.make{P:bY8}{w:cQg}{K:bYO}{mg:Str->Option bYM}{base:Heap}{A:cQv}{outer:List Env}{s:bYP}{H:Hp}(e:bJH P w K mg base A outer s H)(C:Addr)(us:List bYM)(a:List (Str×bYM)):
  bJH P w K mg base (A.under (.builtin "type.__call__" ⟨.ref C::us,a⟩)) outer s H:=⟨by first|exact e.frames|(simpa[Around.under,Code.envs,Code.isFrame,pushEnvs]using e.frames),e.mod,e.bs,e.bsz,e.funs,e.frf,e.hok,e.bare⟩
section
variable {X:Cx}{pins:List (Addr×Obj)}{σ:St}{H:Hp}{s s':bYP}
theorem Inv.env0(I:Inv X pins σ H s):bJH X.prog X.w X.K X.mg X.base X.A X.stack s H:=
 ⟨I.ok.frames,I.ok.mod,I.bs,cQo I.ok.bsz I.sz,I.stack,I.stkFree,I.hok,I.bare⟩
theorem Inv.after{Q:VK}{u:bYM}(I:Inv X pins σ H s)(h:CE X.stack X.prog X.w H s Q u s'):EP X pins σ Q u s':=by
 obtain⟨v,H',f,a,un,c,r,q⟩:=h;obtain⟨i,g,d,t,e⟩:=s';obtain rfl:e=s.os:=f;exact⟨v,H',I.call (h':=i) (g':=g) (d':=d) (t':=t) (ch:= []) un c a (λb z=>absurd z (by simp)),r,q⟩
end
def bZT(sp:Sp)(dvs:List V)(E:XK)(t:TA):TE:=λσ H Q=>t σ H λa H1=>sp (a++dvs) H1 Q E
def bZV(C:Addr)(m:Str)(sp:Sp)(dvs:List V)(E:XK)(ta:TE)(t:TA):TE:=λσ H Q=>ta σ H λx H1=>∃a dx fs,x= .ref a/\H1 a=some (.ins C dx fs)/\fs.lookup m=none/\
 t σ H1 λb H2=>sp (x::(b++dvs)) H2 Q E
def bZU(C:Addr)(sp:Sp)(dvs:List V)(E:XK)(t:TA):TE:=λσ H Q=>t σ H λa H1=>∀x dx,H1 x=none->H1 dx=none->dx≠x->
 sp (.ref x::(a++dvs)) (upd (upd H1 dx (.own x)) x (.ins C dx [])) (λv H2=>v= .non/\Q (.ref x) H2) E
def v9(K:bYO)(fd:cXL)(ps:List Str)(ds:List bYM):Prop:=
 ∀ (s:bYP)(a:List bYM),K.In s.heap->(a++ds).length=ps.length->BindsTo s fd ⟨a,[]⟩ (ps.zip (a++ds))
theorem v9.all{K:bYO}{fd:cXL}{ps:List Str}(h:∀a:List bYM,a.length=ps.length->bindArgs fd ⟨a,[]⟩=pure (ps.zip a)):v9 K fd ps []:=λs a _ hl=>by
 rw[cQP]at hl ⊢;exact .of_eq (h a hl)
def vT(CX:CXT)(X:Cx)(E:XK):Prop:=∀ (pins:List (Addr×Obj))(σ:St)(H:Hp)(s:bYP)(e:bYM)(s':bYP),Inv X pins σ H s->CX X.stack H s E e s'->X.xe e s'
section
variable {X:Cx}{CX:CXT}{k:Nat}{f C:Addr}{fd:cXL}{ps:List Str}{sp:Sp}{dvs:List V}{ds:List bYM}{E:XK}{x m:Str}{p pos apos:Pos}{e o:Expr}{es:List Expr}{ta:TE}{t:TA}
theorem aJh{pins:List (Addr×Obj)}{σ:St}{H:Hp}{s:bYP}{Q:VK}{us:List bYM}{vs:List V}(F:xH X.prog X.w X.K X.mg X.base CX k f fd ps sp)(c:vZ k X.A)(g:v9 X.K fd ps ds)(j:xY dvs ds)(i:vT CX X E) (I:Inv X pins σ H s) (r:xY vs us) (h:sp (vs++dvs) H Q E):bYU (bYV X.prog X.w) X.A (call (.ref f) us) (EP X pins σ Q) X.xe s:=by
 have b:xY (vs++dvs) (us++ds):=r.append j;have hl:(us++ds).length=ps.length:=by rw[<- b.length];exact F.len _ _ _ _ h
 refine cZ2 (cXH (F.run X.A X.stack s H ⟨us,[]⟩ (us++ds) (vs++dvs) Q E c I.env0 (g s us I.kIn hl) b h) λr s' a=>?_);cases r with
 |error e=>exact i pins σ H s e s' I a
 |ok d=>
  cases d with
  |ret u=>exact I.after a
  |next=>exact cXl a
  |brk=>exact cXl a
  |cont=>exact cXl a
theorem aYZ(F:xH X.prog X.w X.K X.mg X.base CX k f fd ps sp)(c:vZ k X.A)(g:Gl X x)(i:X.mg x=some (.ref f))(d:cQK X.K (.ref f)=true)(j:v9 X.K fd ps ds)(n:xY dvs ds)(m:vT CX X E)
  (o:PA X (e::es) t) (b:(x==("__debug__":Str))=false:=by decide) (l:cQt (e::es) X.env=(false,eval e X.env)::cQt es X.env:=by rfl) (a:(cXu pos (cQt es X.env)).any (·.1)=false:=by rfl):
  PE X (.Call (.Name x p) (e::es) [] pos) (bZT sp dvs E t):=by
 intro pins s σ H Q I h
 refine cXv (uY I g i ?_ b)
 refine cZG (h₀:=X.base) I.ok.mod.kin d (thn (o pos pins s σ H _ I h) λus s1 ⟨vs,H1,I1,r,q⟩=>⟨I1.kIn,?_⟩) l a
 exact aJh F c j n m I1 r q
theorem bVA{pl:Sem Bool}(p:PE X o ta)(c:Cls X.K C)(g:bWp X.K C m f)(F:xH X.prog X.w X.K X.mg X.base CX k f fd ps sp)(i:vZ k X.A)(j:v9 X.K fd ps ds)(y:xY dvs ds)(v:vT CX X E)(z:PA X (e::es) t)
  (b:cQt (e::es) X.env=(false,eval e X.env)::cQt es X.env:=by rfl) (d:(cXu pos (cQt es X.env)).any (·.1)=false:=by rfl)
  (n:eval (.Call (.Attribute o m apos) (e::es) [] pos) X.env=(do
   let ov <- eval o X.env
   standAt apos.atName
   let (f,first) <- cJa [ov] (cJg ov m pl)
   callWith pos f first (cXu pos (cQt (e::es) X.env)) (cZ1 pos (cX8 [] X.env))):=by rfl):
  PE X (.Call (.Attribute o m apos) (e::es) [] pos) (bZV C m sp dvs E ta t):=by
 intro pins s σ H Q I h
 refine cZQ (pl:=pl) (thn (p pins s σ H _ I h) λu s1 ⟨x,H1,I1,rx,a,dx,fs,ex,ea,l,q⟩=>?_) n
 subst ex
 obtain rfl:u=Value.ref a:=rx
 refine X8 I1 ea c g l ?_
 refine cZG (first:= [.ref a]) (h₀:=X.base) I.ok.mod.kin g.kp (thn (z pos pins s1 σ H1 _ I1 q) λus s2 ⟨vs,H2,I2,r,q2⟩=>⟨I2.kIn,?_⟩) b d
 exact aJh (us:= .ref a::us) (vs:= .ref a::vs) F i j y v I2 (.cons rfl r) q2
theorem bZg{pl:Sem Bool}(e:PE X o ta)(c:Cls X.K C)(b:bWp X.K C m f)(F:xH X.prog X.w X.K X.mg X.base CX k f fd ps sp)(j:vZ k X.A)(n:v9 X.K fd ps ds)(i:xY dvs ds)(g:vT CX X E)
  (d:eval (.Call (.Attribute o m apos) [] [] pos) X.env=(do
   let ov <- eval o X.env
   standAt apos.atName
   let (f,first) <- cJa [ov] (cJg ov m pl)
   callWith pos f first (cXu pos (cQt [] X.env)) (cZ1 pos (cX8 [] X.env))):=by rfl):
  PE X (.Call (.Attribute o m apos) [] [] pos) (bZV C m sp dvs E ta bZW):=by
 intro pins s σ H Q I h
 refine cZQ (pl:=pl) (thn (e pins s σ H _ I h) λu s1 ⟨x,H1,I1,rx,a,dx,fs,ex,ea,l,q⟩=>?_) d
 subst ex
 obtain rfl:u=Value.ref a:=rx
 refine X8 I1 ea c b l ?_
 exact cJP (first:= [.ref a]) I1.kIn b.kp (aJh (us:= [.ref a]) (vs:= [.ref a]) F j n i g I1 (.cons rfl .nil) q)
structure Mk(K:bYO)(C f:Addr):Prop where
 makes:PySem.W.makesIn K C=true
 init:cQy K (.ref C) "__init__"=some (some (.ref f))
 fn:cZw K (.ref f)=true
 kp:cQK K (.ref C)=true
theorem aV3{pins:List (Addr×Obj)}{σ:St}{H:Hp}{s:bYP}{Q:VK}{us:List bYM}{vs:List V}(M:Mk X.K C f)(F:xH X.prog X.w X.K X.mg X.base CX k f fd ps sp)(g:vZ (k+1) X.A)(m:v9 X.K fd ps ds)(o:xY dvs ds) (n:vT CX X E) (I:Inv X pins σ H s) (r:xY vs us) (h:∀x dx,H x=none->H dx=none->dx≠x->sp (.ref x::(vs++dvs)) (upd (upd H dx (.own x)) x (.ins C dx [])) (λv H2=>v= .non/\Q (.ref x) H2) E): bYU (bYV X.prog X.w) X.A (call (.ref C) us) (EP X pins σ Q) X.xe s:=by
 have d:=h (s.heap.objs.size+1) s.heap.objs.size (I.hok.fresh (cXT _)) (I.hok.fresh (bYT _)) (cQd (cQ9 _));have b:=Inv.made (C:=C) I;have c:xY (V.ref (s.heap.objs.size+1)::(vs++dvs)) (Value.ref (s.heap.objs.size+1)::(us++ds)):= .cons rfl (r.append o);have hl:(Value.ref (s.heap.objs.size+1)::us++ds).length=ps.length:=by have e:=c.length;rw[F.len _ _ _ _ d]at e;exact e.symm
 refine cZ2 (bXL (f:=f) I.kIn M.makes M.init (beq_iff_eq.mp M.fn) (cXH (F.run _ X.stack _ _ ⟨Value.ref (s.heap.objs.size+1)::us,[]⟩ (Value.ref (s.heap.objs.size+1)::(us++ds)) _ _ E (g.make C us []) (b.env0.make C us []) (m _ (Value.ref (s.heap.objs.size+1)::us) b.kIn hl) c d) λr s' a=>?_));cases r with
 |error e=>exact n pins σ _ _ e s' b a
 |ok i=>
  cases i with
  |ret u=>obtain⟨v,H',p,q,j,l⟩:=b.after a;subst j;exact⟨q,⟨V.ref (s.heap.objs.size+1),H',p,rfl,l⟩⟩
  |next=>exact cXl a
  |brk=>exact cXl a
  |cont=>exact cXl a
theorem bVz(M:Mk X.K C f)(F:xH X.prog X.w X.K X.mg X.base CX k f fd ps sp)(c:vZ (k+1) X.A)(d:Gl X x)(g:X.mg x=some (.ref C))(i:v9 X.K fd ps ds)(m:xY dvs ds)(l:vT CX X E)
  (n:PA X (e::es) t) (b:(x==("__debug__":Str))=false:=by decide) (j:cQt (e::es) X.env=(false,eval e X.env)::cQt es X.env:=by rfl) (a:(cXu pos (cQt es X.env)).any (·.1)=false:=by rfl):
  PE X (.Call (.Name x p) (e::es) [] pos) (bZU C sp dvs E t):=by
 intro pins s σ H Q I h
 refine cXv (uY I d g ?_ b)
 refine cZG (h₀:=X.base) I.ok.mod.kin M.kp (thn (n pos pins s σ H _ I h) λus s1 ⟨vs,H1,I1,r,q⟩=>⟨I1.kIn,?_⟩) j a
 exact aV3 M F c i m l I1 r q
theorem bZf(M:Mk X.K C f)(F:xH X.prog X.w X.K X.mg X.base CX k f fd ps sp)(g:vZ (k+1) X.A)(b:Gl X x)(c:X.mg x=some (.ref C))(i:v9 X.K fd ps ds)(e:xY dvs ds)(d:vT CX X E) (a:(x==("__debug__":Str))=false:=by decide):PE X (.Call (.Name x p) [] [] pos) (bZU C sp dvs E bZW):=by
 intro pins s σ H Q I h;refine cXv (uY I b c ?_ a);exact cJP I.kIn M.kp (aV3 (us:= []) M F g i e d I .nil h)
end
section
variable {X:Cx}{CX:CXT}{k:Nat}{f C:Addr}{fd:cXL}{ps ks:List Str}{sp:Sp}{E:XK}{x m:Str}{p pos apos kpos:Pos}{e o:Expr}{es:List Expr}{kws:List Keyword}{te ta:TE}{t tk:TA}{nm:Option Str}
variable {g:List bYM->List bYM->List bYM}{gV:List V->List V->List V}
end
structure yN(N P:List Str)(sc:cXZ):Prop where
 kind:sc.kind= .function
 co:sc.isCoroutine=false
 gen:sc.isGenerator=false
 nd:N.Nodup
 pre:N.take P.length=P
 par:∀x∈P,sc.names.lookup x=some .local\/sc.names.lookup x=some .cell
 nofree:∀y∈sc.names,y.2≠ .free
theorem aZH{a:Str->Option cZ0}{x:Str}:∀ {binds:List (Str×bYM)} {m:Str->Option bYM},(∀v,(x,v)∉binds)->bindL a binds m x=m x
 |[],_,_=>rfl
 |(n,v)::r,m,h=>by
  unfold bindL;rw[aZH λw hw=>h w (bYZ _ hw)];split
  ·have:x≠n:=by rintro rfl;exact h v bY4
   simp[this]
  ·rfl
theorem aZF{a:Str->Option cZ0}{x:Str}:∀ {binds:List (Str×bYM)} {m:Str->Option bYM},(∀v,(x,v)∉binds)->bindC a binds m x=m x
 |[],_,_=>rfl
 |(n,v)::r,m,h=>by
  unfold bindC;rw[aZF λw hw=>h w (bYZ _ hw)];split
  ·rfl
  ·have:x≠n:=by rintro rfl;exact h v bY4
   simp[this]
theorem aZG{a:Str->Option cZ0}{x:Str}{v:bYM}:∀ {P:List Str} {vs:List bYM} {i:Nat} {m:Str->Option bYM},P.Nodup->P[i]? =some x->vs[i]? =some v->a x=some .local->
  bindL a (P.zip vs) m x=some v
 |[],_,_,_,_,h,_,_=>by simp at h
 |_::_,[],_,_,_,_,h,_=>by simp at h
 |p::P,w::vs,0,m,nd,h1,h2,hk=>by simp at h1 h2;subst h1;subst h2;show bindL a ((p,w)::P.zip vs) m p=_;unfold bindL;rw[aZH λv b=>(cXW.mp nd).1 (List.of_mem_zip b).1,if_pos hk];simp
 |p::P,w::vs,i+1,m,nd,h1,h2,hk=>by show bindL a ((p,w)::P.zip vs) m x=_;unfold bindL;exact aZG (i:=i) (cXW.mp nd).2 (by simpa using h1) (by simpa using h2) hk
theorem aZE{a:Str->Option cZ0}{x:Str}{v:bYM}:∀ {P:List Str} {vs:List bYM} {i:Nat} {m:Str->Option bYM},P.Nodup->P[i]? =some x->vs[i]? =some v->a x≠some .local->
  bindC a (P.zip vs) m x=some v
 |[],_,_,_,_,h,_,_=>by simp at h
 |_::_,[],_,_,_,_,h,_=>by simp at h
 |p::P,w::vs,0,m,nd,h1,h2,hk=>by simp at h1 h2;subst h1;subst h2;show bindC a ((p,w)::P.zip vs) m p=_;unfold bindC;rw[aZF λv b=>(cXW.mp nd).1 (List.of_mem_zip b).1,if_neg hk];simp
 |p::P,w::vs,i+1,m,nd,h1,h2,hk=>by show bindC a ((p,w)::P.zip vs) m x=_;unfold bindC;exact aZE (i:=i) (cXW.mp nd).2 (by simpa using h1) (by simpa using h2) hk
def start(N:List Str)(vs:List V):St:=vs.map some++cQC (N.length - vs.length) none
def aXR(CX:CXT)(P:bY8)(w:cQg)(K:bYO)(mg:Str->Option bYM)(base:Heap)(N:List Str)(qual:Str)(scope:cXZ)(f:Addr)(cd:bYM)(A:cQv)(outer:List Env)(s:bYP)(H:Hp)(E:XK):Cx where
 prog:=P
 w:=w
 K:=K
 mg:=mg
 base:=base
 A:=A.deeper (cXK qual scope s.heap.objs.size f cd)
 N:=N
 s₀:=s
 H₀:=H
 env:=cXK qual scope s.heap.objs.size f cd
 outer:=outer
 stack:=cXK qual scope s.heap.objs.size f cd::outer
 ex:= []
 calm:=true
 fn:=λ_=>true
 pn:= []
 xe:=λe s'=>bYU (bYV P w) (A.deeper (cXK qual scope s.heap.objs.size f cd)) (leaving (cXK qual scope s.heap.objs.size f cd) e) (λ_ s''=>CX outer H s E e s'') (λe' s''=>CX outer H s E e' s'') s'
theorem aVJ{a:cXZ}{n:Nat}{x:Str}(h:a.names.lookup x=some .cell):∃c,(cellsFrom n a.names []).lookup x=some c:=by
 have q:=PySem.W.cellsFrom_some a.names n [] (.inl h);exact Option.isSome_iff_exists.mp q
theorem aYf{CX:CXT}{P:bY8}{w:cQg}{K:bYO}{mg:Str->Option bYM}{base:Heap}{N ps:List Str}{qual:Str}{scope:cXZ}{f:Addr}{o:bYM}{A:cQv}{outer:List Env}{s C:bYP}{H:Hp}{E:XK}{us:List bYM}{vs:List V} (S:yN N ps scope) (G:A.handled=none) (d:bJH P w K mg base A outer s H) (hl:vs.length=ps.length) (r:xY vs us) (x:InCallC s s.heap.objs.size (bindL (cXK qual scope s.heap.objs.size f o).kindOf (ps.zip us) λ_=>none) (cellsFrom (s.heap.objs.size+1) scope.names []) (bindC (cXK qual scope s.heap.objs.size f o).kindOf (ps.zip us) λ_=>none) C): Inv (aXR CX P w K mg base N qual scope f o A outer s H E) [] (start N vs) H C:=by
 have D:ps.length<=N.length:=by have:=congrArg cXQ S.pre;rw[cXg]at this;omega
 obtain⟨h1,tk,rfl,t⟩:=x.done;have g:∀b:Addr,b∉(aXR CX P w K mg base N qual scope f o A outer s H E).ex:=λb z=>absurd (show b∈([]:List Addr)from z) (by simp);refine⟨⟨d.mod,S.kind,rfl,rfl,bYT _,λy z c h1 h2=>?_,λy j=>?_,λy c _ h=>?_,λ_=>G,Around.frames_deeper d.frames,.inr ⟨rfl,rfl⟩,λb z=>absurd z (g b),d.bs,d.bsz,λb _ _=>g b,λb z=>absurd z (g b),d.funs,d.frf⟩,rfl,d.bare,Un.kept t,⟨_,x.toInCall.ns,λi y v h1 h2 J=>?_⟩,λy c h=>⟨_,x.cell y c h⟩,d.hok.fresh (bYT _),λy c h=>?_,λp m=>absurd (show p∈([]:List (Addr×Obj))from m) (by simp),d.hok.kept t,?_⟩
 ·exact name_of_addr x.apart (cXj h1) (cXj h2)
 ·have j:scope.names.lookup y=some .cell\/scope.names.lookup y=some .free:=j;rcases j with j|j
  ·exact aVJ j
  ·exact absurd rfl (S.nofree _ (cXj j))
 ·exact cZu (x.above y c (cXj h))
 ·have hi:i<vs.length:=by
   unfold start at h2;by_cases hi:i<vs.length
   ·exact hi
   ·rw[bY9 (by simpa using hi)]at h2;rw[List.getElem?_replicate]at h2;split at h2<;> cases h2
  have I:vs[i]? =some v:=by
   unfold start at h2;rw[cQp (by simpa using hi),bY7]at h2;cases e:vs[i]? with
   |none=>rw[e]at h2;cases h2
   |some a=>rw[e]at h2;cases h2;rfl
  obtain⟨u,B,F⟩:=r.get I;have m:ps[i]? =some y:=by rw[<- S.pre,List.getElem?_take_of_lt (by omega)];exact h1
  have l:ps.Nodup:=by rw[<- S.pre];exact S.nd.sublist (List.take_sublist _ _)
  refine⟨u,F,?_⟩;rcases S.par y (bY5 m)with k|k
  ·exact .inl ⟨k,aZG l m B k⟩
  ·obtain⟨c,e⟩:=aVJ (n:=s.heap.objs.size+1) k;refine .inr ⟨.inl k,c,e,?_⟩;have q:=x.cell y c e;rw[aZE l m B (by show scope.names.lookup y≠_;rw[k];decide)]at q;exact q
 ·exact d.hok.fresh (cZu (x.above y c (cXj h)))
 ·unfold start;show _=N.length;rw[cQa,bYR,List.length_replicate];omega
theorem bJZ{CX:CXT}{P:bY8}{w:cQg}{K:bYO}{mg:Str->Option bYM}{base:Heap}{k:Nat}{f:Addr}{name qual:Str}{c:Arguments}{body:List Stmt}{scope:cXZ}{F kV m L a ct oc:bYM}{G R:Option Addr} {C:Array (Option bYM)} {N ps:List Str} {sp:Sp} (lk:K.lookup f=some ⟨oc,R,.func (cXa name qual c body scope F kV m L G a ct),C⟩) (B:cXz K a qual=true) (S:yN N ps scope) (len:∀vs H Q E,sp vs H Q E->vs.length=ps.length) (g:∀ (A:cQv)(outer:List Env)(s:bYP)(H:Hp)(vs:List V)(Q:VK)(E:XK),vZ k (A.deeper (cXK qual scope s.heap.objs.size f a))->sp vs H Q E-> ∃t,PSs (aXR CX P w K mg base N qual scope f a A outer s H E) body t/\t {nx:=λ_ H'=>Q .non H',rt:=Q} (start N vs) H): xH P w K mg base CX (k+1) f (cXa name qual c body scope F kV m L G a ct) ps sp:=by
 refine⟨len,λA outer s H args us vs Q E p j U r l=>?_⟩;have hl:=len _ _ _ _ l;have O:K.In s.heap:=j.mod.kin.keeps λb o e=>(j.bs b o e).1;have z:s.heap.NoLimit:=j.mod.nolimit.keeps λb o e=>(j.bs b o e).1;have h:∀y∈ps.zip us,scope.names.lookup y.1=some .local\/(scope.names.lookup y.1=some .cell/\((cellsFrom (s.heap.objs.size+1) scope.names []).lookup y.1).isSome=true):=λ⟨n,v⟩ hy=>by
  rcases S.par n (List.of_mem_zip hy).1 with q|q
  ·exact .inl q
  ·exact .inr ⟨q,PySem.W.cellsFrom_some _ _ _ (.inl q)⟩
 refine codeAny_call_function p.depth (O _ _ lk) rfl S.co S.gen rfl (PySem.W.codeRec_of O B) (U _ _ _ _ ?_);refine wpAny_newFunctionEnv_cells S.kind h λenv Y M x=>?_;subst Y;refine⟨z.keeps x.toInCall.keep,codeAny_func ?_⟩;obtain⟨t,X,Z⟩:=g A outer s H vs Q E (p.deeper _) l;have I:Inv (aXR CX P w K mg base N qual scope f a A outer s H E) [] (start N vs) H M:=aYf S p.hd j hl r x;refine cQQ (X [] M (start N vs) H _ I Z) (λT s' i=>?_) λe s' i=>i;have fin:∀ {d:St} {H':Hp} {v:V} {u:bYM},Inv (aXR CX P w K mg base N qual scope f a A outer s H E) [] d H' s'->zI v u->Q v H'->CE outer P w H s Q u s':=
  λ{d H' v u} J D q=>⟨v,H',J.os,J.bare,J.base,J.hok,D,q⟩
 cases T with
 |ret u=>obtain⟨v,d,H',J,D,q⟩:=i;exact fin J D q
 |next=>obtain⟨d,H',J,q⟩:=i;exact fin (v:=V.non) (u:=Value.none) J rfl q
 |brk=>obtain⟨_,_,_,q⟩:=i;exact cXl q
 |cont=>obtain⟨_,_,_,q⟩:=i;exact cXl q
end L2
namespace L2
open PySem PySem.Spec PyProof.Rows
section
variable {X:Cx}{x:Str}{p pos:Pos}{e:Expr}{es:List Expr}{t:TA}{id T:String}{r:List V->Hp->VK->Prop}
def tCB(r:List V->Hp->VK->Prop)(t:TA):TE:=λσ H Q=>t σ H λa H1=>r a H1 Q
theorem yS(k:jT X (.builtin id) r)(c:Gl X x)(f:X.mg x=none)(i:cQw x=some (.builtin id))(d:PA X (e::es) t)(j:x≠"__name__":=by decide)(a:(x==("__debug__":Str))=false:=by decide)
  (g:cQt (e::es) X.env=(false,eval e X.env)::cQt es X.env:=by rfl) (b:(cXu pos (cQt es X.env)).any (·.1)=false:=by rfl):PE X (.Call (.Name x p) (e::es) [] pos) (tCB r t):=by
 intro pins s σ H Q I h
 refine cXv (aXC I c f i ?_ j a)
 exact PyProof.Rows.callWith_builtin1 (thn (d pos pins s σ H _ I h) λus s1 ⟨vs,H1,I1,r1,q1⟩=>k pins s1 σ H1 vs us Q I1 r1 q1) g b
theorem xW(k:jT X (.type T) r)(c:Gl X x)(f:X.mg x=none)(i:cQw x=some (.type T))(d:PA X (e::es) t)(j:x≠"__name__":=by decide)(a:(x==("__debug__":Str))=false:=by decide)
  (g:cQt (e::es) X.env=(false,eval e X.env)::cQt es X.env:=by rfl) (b:(cXu pos (cQt es X.env)).any (·.1)=false:=by rfl):PE X (.Call (.Name x p) (e::es) [] pos) (tCB r t):=by
 intro pins s σ H Q I h
 refine cXv (aXC I c f i ?_ j a)
 exact cZT (thn (d pos pins s σ H _ I h) λus s1 ⟨vs,H1,I1,r1,q1⟩=>k pins s1 σ H1 vs us Q I1 r1 q1) g b
end
end L2
namespace HT
open PySem PyProof.Rows
theorem bZm(A:cQv)(s:bYP)(a:Int)(t:Tok)(c:Int)(u:Tok)(prog:bY8)(w:cQg)(E:bYM->bYP->Prop)(Q:bYM->bYP->Prop)(h:Q (.bool (decide (a<c))) s): bYU (bYV prog w) A (richCompare .Lt (.int a t) (.int c u)) Q E s:=
 (PyProof.Rows.lt_int h:bYU (bYV prog w) A (cXk .Lt (.int a t) (.int c u)) Q E s)
section
open PySem.SeqAt
open PySem.AutoSeq1 (wpAny_loadPart')
open PySem.MeetsSeq PySem.MeetsSeq2 PySem.MeetsSeq3
end
section
variable {prog:bY8}{w:cQg}{A:cQv}{E:bYM->bYP->Prop}{s:bYP}
theorem bJP{t b:Addr}{vs a:List bYM}{Q:bYM->bYP->Prop}(x:cZF s.heap t vs.toArray)(v:cZF s.heap b a.toArray)(r:vs≠ []) (h1:a= []->Q (.ref t) s) (h2:a≠ []->Q (.ref s.heap.objs.size) {s with heap:=s.heap.push {cls:= .type "tuple",data:= .seq (vs++a).toArray} }) (k:vs.length+a.length<=cQb):bYU (bYV prog w) A (cZh .Add (.ref t) (.ref b)) Q E s:=by
 obtain⟨⟨cls,l,data,m⟩,i,u,n,q⟩:=id x;obtain⟨⟨o,g,j,f⟩,c,h,p,d⟩:=id v;simp only at u q h d;subst u q h d;have e:vs.toArray++a.toArray=(vs++a).toArray:=by simp
 by_cases hw:a= []
 ·exact concat_meets ⟨_,i,rfl⟩ ⟨_,c,rfl⟩ noFill_tuple_add seq_tuple_add PySem.F.slot_tuple_add PySem.F.entry_tuple_add (cVj _ _)
   (tuple_addW1 t b vs.toArray a.toArray n p l g m f (by simpa using r) (by simp[hw])) ⟨i,c,h1 hw⟩
 ·refine concat_meets ⟨_,i,rfl⟩ ⟨_,c,rfl⟩ noFill_tuple_add seq_tuple_add PySem.F.slot_tuple_add PySem.F.entry_tuple_add (cVj _ _)
   (tuple_addW2 t b vs.toArray a.toArray n p l g m f (by simpa using r) (by simpa using hw) (by rw[bY3,bY3];exact k)) ⟨i,c,?_⟩
  rw[e];exact h2 hw
def sIx(n d:Nat):Option Int->Nat
 |none=>d
 |some v=>if v<0 then(v+(n:Int)).toNat else min v.toNat n
theorem bZp(n d:Nat):sIx n d none=d:=rfl
theorem bKe(n d:Nat)(b:d<=n)(o:Option Int):sIx n d o<=n:=by
 cases o with
 |none=>exact b
 |some v=>
  show(if v<0 then(v+(n:Int)).toNat else min v.toNat n)<=n;by_cases a:v<0
  ·rw[if_pos a];omega
  ·rw[if_neg a];exact Nat.min_le_right _ _
theorem aKW(v:Int)(n d:Nat):(if v<0 then max (v+(n:Int)) 0 else min v (n:Int))=((sIx n d (some v):Nat):Int):=by
 show(if v<0 then max (v+(n:Int)) 0 else min v (n:Int))=(((if v<0 then(v+(n:Int)).toNat else min v.toNat n):Nat):Int);by_cases a:v<0
 ·simp only[if_pos a];omega
 ·simp only[if_neg a];omega
theorem aWx(lo hi:Option Int)(n:Nat):cJd lo hi 1 (n:Int)=(((sIx n 0 lo:Nat):Int),((sIx n n hi:Nat):Int)):=by
 have h1:¬ ((1:Int)<0):=by omega
 unfold cJd;simp only[h1,if_false];refine Prod.ext ?_ ?_
 ·cases lo with
  |none=>rfl
  |some v=>exact aKW v n 0
 ·cases hi with
  |none=>rfl
  |some v=>exact aKW v n n
theorem aKi(i j:Nat):cZl (i:Int) (j:Int) 1=j - i:=by
 unfold cZl;have h1:(1:Int) > 0:=by omega
 simp only[h1,if_true,Int.ediv_one];split<;> omega
theorem aXJ{v:bYM}{o:Option Int}{Q:Option Int->bYP->Prop}(p:IsPart v o)(h:Q o s):bYU (bYV prog w) A (Builtin.Slice.slicePartIndex v) Q E s:=by
 cases p with
 |none=>exact slicePart_none h
 |int i t=>exact slicePart_int h
theorem Q9{e:Addr}{d c:bYM}{lo hi:Option Int}{n:Nat}{Q:Int×Int×Nat->bYP->Prop}(g:s.heap.IsSliceOf e d c .none)(pl:IsPart d lo)(i:IsPart c hi) (h:Q (((sIx n 0 lo:Nat):Int),1,sIx n n hi - sIx n 0 lo) s):bYU (bYV prog w) A (cJ4 (.ref e) (pure (n:Int))) Q E s:=by
 obtain⟨j,a,f,b⟩:=id g;unfold cJ4 Builtin.Slice.sliceFields;refine bYN (bYN (cJr a b (x:=d) rfl (bYN (cJr a b (x:=c) rfl (bYN (cJr a b (x:= .none) rfl (bYQ ?_)))))));refine bYN (slicePart_none ?_);show bYU _ _ (if((1:Int)==0)=true then _ else _) _ _ s;rw[if_neg (by decide)];refine bYN (aXJ pl (bYN (aXJ i (bYN (bYQ ?_)))));show bYU _ _ (match cJd lo hi 1 (n:Int)with|(lo,hi)=>pure (lo,(1:Int),cZl lo hi 1)) _ _ s;rw[aWx lo hi n];show bYU _ _ (pure (((sIx n 0 lo:Nat):Int),(1:Int),cZl ((sIx n 0 lo:Nat):Int) ((sIx n n hi:Nat):Int) 1)) _ _ s;rw[aKi];exact bYQ h
theorem bZh(xs:Array bYM)(i k:Nat):((bYW k).filterMap λ(m:Nat)=>xs[((i:Int)+(m:Int)*1).toNat]?).toArray=((xs.toList.drop i).take k).toArray:=by
 have e:(λ(m:Nat)=>xs[((i:Int)+(m:Int)*1).toNat]?)=λm=>xs[i+m]? :=by
  funext m;have:((i:Int)+(m:Int)*1).toNat=i+m:=by omega
  rw[this]
 rw[e];have:=pick_run xs i k;rw[List.filterMap_map]at this;have a:((λx=>xs[x]?)∘λx=>i+x)=λm=>xs[i+m]? :=rfl;rw[a]at this;rw[this]
theorem X7{t d:Addr}{items:Array bYM}{j i:bYM}{lo hi:Option Int}{Q:bYM->bYP->Prop}(b:cZF s.heap t items)(k:s.heap.IsSliceOf d j i .none)(pl:IsPart j lo)(p:IsPart i hi) (hw:¬ (sIx items.size 0 lo=0/\sIx items.size items.size hi=items.size)) (h:Q (.ref s.heap.objs.size) {s with heap:=s.heap.push {cls:= .type "tuple",data:= .seq ((items.toList.drop (sIx items.size 0 lo)).take (sIx items.size items.size hi - sIx items.size 0 lo)).toArray} }) (n:items.size<=cQb):bYU (bYV prog w) A (getItem (.ref t) (.ref d)) Q E s:=by
 have a:sizeOk (.seq ((items.toList.drop (sIx items.size 0 lo)).take (sIx items.size items.size hi - sIx items.size 0 lo)).toArray):=by show((items.toList.drop (sIx items.size 0 lo)).take (sIx items.size items.size hi - sIx items.size 0 lo)).toArray.size<=cQb;rw[bY3,cXg,List.length_drop,cQ6];omega
 have u:sIx items.size items.size hi<=items.size:=bKe _ _ (bYT _) hi;obtain⟨o,e,f,l⟩:=id k;have g:s.TypeIs (.ref d) "slice":=⟨o,e,f⟩;unfold getItem;try with_reducible refine cQ7 ?_
 first|refine bYN (bYQ ?_)|skip
 refine bYN (wpAny_sequenceKey b.typeIs (by decide) ?_);refine bYN (cX3 (name:=cZR "__getitem__") b.typeIs cZC (cXy cZC b.typeIs entry_tuple_getitem ?_ (args_tuple_getitem _ _)));show bYU _ _ (Builtin.Tuple.tupleItemsOf (.ref t) >>=_) _ _ s;refine bYN (tupleItemsOf_ b ?_);refine bYN (wpAny_typeOf g ?_);rw[if_pos (by decide)];refine bYN (Q9 k pl p ?_);have c:¬ ((((sIx items.size 0 lo:Nat):Int)==0 && (1:Int)==1 && (sIx items.size items.size hi - sIx items.size 0 lo)==items.size)=true):=by intro q;rw[Bool.and_eq_true,Bool.and_eq_true]at q;have v:((sIx items.size 0 lo:Nat):Int)=0:=eq_of_beq q.1.1;have r:sIx items.size items.size hi - sIx items.size 0 lo=items.size:=eq_of_beq q.2;exact hw ⟨by omega,by omega⟩
 show bYU _ _ (if(((sIx items.size 0 lo:Nat):Int)==0 && (1:Int)==1 && (sIx items.size items.size hi - sIx items.size 0 lo)==items.size)=true then _ else _) _ _ s;rw[if_neg c,bZh];first
  |exact bYN (m:=cZr _) (cQ3 (bYQ ⟨_,rfl,bYQ h⟩) a)
  |exact bYN (m:=cZr _) (cQ3 (bYN (bYQ (bYQ ⟨_,rfl,bYQ h⟩))) a)
  |exact bYN (bYN (m:=cZr _) (cQ3 (bYQ (bYQ ⟨_,rfl,bYQ h⟩)) a))
  |exact bYN (bYN (m:=cZr _) (cQ3 (bYQ ⟨_,rfl,bYQ h⟩) a))
end
end HT
namespace L2
open PySem PySem.Spec PyProof.Rows
abbrev TO:=St->Hp->(Option Int->Hp->Prop)->Prop
def PO(X:Cx)(e:Option Expr)(t:TO):Prop:=
 ∀ (pins:List (Addr×Obj))(s:bYP)(σ:St)(H:Hp)(Q:Option Int->Hp->Prop),Inv X pins σ H s->t σ H Q->
  bYU (bYV X.prog X.w) X.A (evalPart e X.env) (λu s'=>∃o H',Inv X pins σ H' s'/\IsPart u o/\Q o H') X.xe s
def bWg:TO:=λ_ H Q=>Q none H
def bYc(t:TE):TO:=λσ H Q=>t σ H λx H1=>∃i,x= .int i/\Q (some i) H1
theorem aXy{a:List Int}:∀ {us:List bYM},xY (a.map V.int) us->cZn us a:=by
 induction a with
 |nil=>intro us r;rw[List.map_nil]at r;cases r;exact .nil
 |cons n a d=>
  intro us r;rw[cQz]at r;cases r with
  |cons b c=>obtain⟨t,e⟩:=b;subst e;exact .cons n t (d c)
section
variable {X:Cx}{e:Expr}{te:TE}{lo hi:Option Expr}{tl th:TO}{pos p2:Pos}
theorem aX7:PO X none bWg:=by
 intro pins s σ H Q I h;rw[evalPart_none];exact bYQ ⟨none,H,I,.none,h⟩
theorem Z5(h:PE X e te):PO X (some e) (bYc te):=by
 intro pins s σ H Q I hw;rw[evalPart_some];refine thn (h pins s σ H _ I hw) λu s1 ⟨x,H1,I1,r1,q1⟩=>?_;obtain⟨i,rfl,q⟩:=q1;obtain⟨t,rfl⟩:=r1;exact⟨some i,H1,I1,.int i t,q⟩
def SlR(X:Cx)(r:V->Option Int->Option Int->Hp->VK->Prop):Prop:=
 ∀ (pins:List (Addr×Obj))(s:bYP)(σ:St)(H:Hp)(x:V)(v c a:bYM)(lo hi:Option Int)(b:Addr)(Q:VK),Inv X pins σ H s->zI x v->s.heap.IsSliceOf b c a .none->IsPart c lo->IsPart a hi->r x lo hi H Q->
  ∃T id,typeLookup (.type T) "__getitem__"=pure (some (.builtin id))/\s.TypeIs v T/\bYU (bYV X.prog X.w) X.A (getItem v (.ref b)) (EP X pins σ Q) X.xe s
def tSl(r:V->Option Int->Option Int->Hp->VK->Prop)(te:TE)(tl th:TO):TE:=λσ H Q=>te σ H λx H1=>tl σ H1 λl H2=>th σ H2 λu a=>r x l u a Q
theorem Y2{r:V->Option Int->Option Int->Hp->VK->Prop}(a:SlR X r)(g:PE X e te)(hl:PO X lo tl)(d:PO X hi th):PE X (.Subscript e (.Slice lo hi none p2) pos) (tSl r te tl th):=by
 intro pins s σ H Q I h;refine Subscript_ (thn (g pins s σ H _ I h) λv s1 ⟨x,H1,I1,r1,q1⟩=>?_);refine wpAny_Slice (thn (hl pins s1 σ H1 _ I1 q1) λvl s2 ⟨l,H2,I2,pl,q2⟩=>thn (d pins s2 σ H2 _ I2 q2) λvu s3 ⟨u,H3,I3,pu,q3⟩=>?_);rw[evalPart_none];refine bYQ ?_;have j:Inv X pins σ H3 {s3 with heap:=s3.heap.push {cls:= .type "slice",data:= .fields #[vl,vu,.none] } }:=I3.kept (t':=s3.toks) λb k q=>bYS _ q;obtain⟨T,id,i,f,c⟩:=a pins {s3 with heap:=s3.heap.push {cls:= .type "slice",data:= .fields #[vl,vu,.none] } } σ H3 x v vl vu l u s3.heap.objs.size Q j r1 (Heap.IsSliceOf.new ..) pl pu q3;show bYU (bYV X.prog X.w) X.A (subscriptTail e (.Slice lo hi none p2) v (.ref s3.heap.objs.size)) (EP X pins σ Q) X.xe {s3 with heap:=s3.heap.push {cls:= .type "slice",data:= .fields #[vl,vu,.none] } };exact tail_any (ops:= [.ref s3.heap.objs.size,v]) f i c (by with_unfolding_all rfl)
def qN(xs:List V)(lo hi:Option Int):List V:=(xs.drop (HT.sIx xs.length 0 lo)).take (HT.sIx xs.length xs.length hi - HT.sIx xs.length 0 lo)
theorem aQp(xs:List V)(lo hi:Option Int):(qN xs lo hi).length<=xs.length:=by
 unfold qN;rw[cXg,List.length_drop];omega
def bYB(K:bYO):V->Option Int->Option Int->Hp->VK->Prop:=λx lo hi H Q=>∃a xs,x= .ref a/\SqT K H a xs/\
 ¬ (HT.sIx xs.length 0 lo=0/\HT.sIx xs.length xs.length hi=xs.length)/\∀p,H p=none->Q (.ref p) (upd H p (.tup (qN xs lo hi)))
theorem bKo:SlR X (bYB X.K):=by
 intro pins s σ H x v p m lo hi n Q I l k j i h;obtain⟨a,xs,rfl,g,hw,q⟩:=h;cases l;obtain⟨d,r,e,f⟩:=I.tuple g;have c:d.toArray.size=xs.length:=by rw[bY3];exact r.length.symm
 refine⟨"tuple",_,cZC.lookup,e.typeIs,?_⟩;refine HT.X7 e k j i (by rw[c];exact hw) ?_ (by rw[c];exact f);rw[c];refine⟨.ref s.heap.objs.size,_,I.laid (t':=s.toks) (o:= .tup (qN xs lo hi)) (λb t q=>bYS _ q) (bYT _) ?_,rfl,q _ (I.hok.fresh (bYT _))⟩;exact⟨cQo (aQp xs lo hi) f,_,(r.drop (HT.sIx xs.length 0 lo)).take (HT.sIx xs.length xs.length hi - HT.sIx xs.length 0 lo),IsTup.new _ _⟩
def bK3(K:bYO):R2:=λx y H Q=>∃a b xs ys,x= .ref a/\y= .ref b/\SqT K H a xs/\SqT K H b ys/\xs≠ []/\xs.length+ys.length<=cQb/\
 (ys= []->Q (.ref a) H)/\(ys≠ []->∀p,H p=none->Q (.ref p) (upd H p (.tup (xs++ys))))
theorem xY.nil_iff{xs:List V}{us:List bYM}(r:xY xs us):us= []↔xs= []:=by
 cases r with
 |nil=>simp
 |cons _ _=>simp
theorem aYT:OpR X (cZh .Add) (bK3 X.K):=by
 intro pins s σ H x y v u Q I r p h;obtain⟨a,b,xs,ys,rfl,rfl,n,i,l,f,m,g⟩:=h;cases r;cases p;obtain⟨k,d,j,_⟩:=I.tuple n;obtain⟨e,c,p2,_⟩:=I.tuple i;refine HT.bJP j p2 (λz=>l (d.nil_iff.mp z)) (λz=>⟨.ref a,H,I,rfl,m (c.nil_iff.mp z)⟩) (λz=>?_) (by rw[<- d.length,<- c.length];exact f);refine⟨.ref s.heap.objs.size,_,I.laid (t':=s.toks) (o:= .tup (xs++ys)) (λb t q=>bYS _ q) (bYT _) ?_,rfl,g (λw=>z (c.nil_iff.mpr w)) _ (I.hok.fresh (bYT _))⟩;exact⟨by rw[cQa];exact f,_,d.append c,IsTup.new _ _⟩
end
end L2
namespace L2
open PySem PySem.Spec PyProof.Rows
def ixN(n:Nat)(i:Int):Option Nat:=if 0<=i then(if i<n then some i.toNat else none)else if -(n:Int)<=i then some (i+n).toNat else none
def atI{α:Type}(xs:List α)(i:Int):Option α:=(ixN xs.length i).bind λj=>xs[j]?
theorem aYh{n:Nat}{i:Int}{j:Nat}(h:ixN n i=some j):seqIndex? i n=some j/\j<n/\ -(n:Int)<=i/\i<n:=by
 unfold ixN at h;by_cases h0:0<=i
 ·rw[if_pos h0]at h;by_cases h1:i<n
  ·rw[if_pos h1]at h;have e:i.toNat=j:=bY6 h;exact⟨by rw[seqIndex_of h0 h1,e],by omega,by omega,h1⟩
  ·rw[if_neg h1]at h;cases h
 ·rw[if_neg h0]at h;by_cases h1: -(n:Int)<=i
  ·rw[if_pos h1]at h;have e:(i+n).toNat=j:=bY6 h;exact⟨by rw[seqIndex_neg (by omega) h1,e],by omega,h1,by omega⟩
  ·rw[if_neg h1]at h;cases h
theorem aJE{α:Type}{xs:List α}{i:Int}{v:α}(h:atI xs i=some v):∃j,seqIndex? i xs.length=some j/\xs[j]? =some v/\j<xs.length/\ -(xs.length:Int)<=i/\i<xs.length:=by
 unfold atI at h;cases e:ixN xs.length i with
 |none=>rw[e]at h;cases h
 |some j=>rw[e]at h;obtain⟨h1,h2,a,b⟩:=aYh e;exact⟨j,h1,h,h2,a,b⟩
theorem yR{α:Type}{xs:List α}{j:Nat}{v:α}(h:xs[j]? =some v):atI xs (j:Int)=some v:=by
 have a:j<xs.length:=(bYY.mp h).1;have e:ixN xs.length (j:Int)=some j:=by unfold ixN;rw[if_pos (by omega),if_pos (by omega)];simp
 unfold atI;rw[e];exact h
def bJN(b:Expr):Prop:=∀o i,subscripted b false o i=operate [o,i] (getItem o i)
def IxR(X:Cx)(r:R2):Prop:=
 ∀ (value a:Expr)(pins:List (Addr×Obj))(s:bYP)(σ:St)(H:Hp)(x y:V)(v u:bYM)(Q:VK),Inv X pins σ H s->zI x v->zI y u->r x y H Q->
  subscripted a false v u=operate [v,u] (getItem v u)->bYU (bYV X.prog X.w) X.A (subscriptTail value a v u) (EP X pins σ Q) X.xe s
def MtR(X:Cx)(id:String)(r:V->List V->Hp->VK->Prop):Prop:=
 ∀ (pins:List (Addr×Obj))(s:bYP)(σ:St)(H:Hp)(x:V)(xs:List V)(v:bYM)(a:List bYM)(Q:VK),Inv X pins σ H s->zI x v->xY xs a->r x xs H Q->
  bYU (bYV X.prog X.w) X.A (call (.builtin id) (v::a)) (EP X pins σ Q) X.xe s
section
variable {X:Cx}{a b:Expr}{ta tb:TE}{pos:Pos}
theorem IxR.or{r c:R2}(h:IxR X r)(h':IxR X c):IxR X (λx y H Q=>r x y H Q\/c x y H Q):=by
 intro value a pins s σ H x y v u Q I e b q d;rcases q with q|q
 ·exact h value a pins s σ H x y v u Q I e b q d
 ·exact h' value a pins s σ H x y v u Q I e b q d
theorem yL{r:R2}(c:IxR X r)(g:PE X a ta)(f:PE X b tb)(k:bJN b:=by exact λ_ _=>rfl):PE X (.Subscript a b pos) (tOp r ta tb):=by
 intro pins s σ H Q I h;exact Subscript_ (bKU g f I h λv u i x y H2 d e j q=>c a b pins i σ H2 x y v u Q d e j q (k _ _))
def aXG(K:bYO):R2:=λx y H Q=>∃p xs i v,x= .ref p/\y= .int i/\SqL K H p xs/\atI xs i=some v/\Q v H
def bZk(K:bYO):R2:=λx y H Q=>∃p xs i v,x= .ref p/\y= .int i/\SqT K H p xs/\atI xs i=some v/\Q v H
def bYi:R2:=λx y H Q=>∃z i c,x= .str z/\y= .int i/\z.length<=cQb/\atI z.cps.toList i=some c/\Q (.str ⟨#[c]⟩) H
theorem yK:IxR X (aXG X.K):=by
 intro value b pins s σ H x y v u Q I A o h g;obtain⟨p,xs,i,z,rfl,rfl,n,m,q⟩:=h;cases A;obtain⟨t,rfl⟩:=o;obtain⟨d,r,e,C⟩:=I.list n;obtain⟨j,h1,h2,B,k,l⟩:=aJE m;obtain⟨w,f,a⟩:=r.get h2;have hl:=r.length;have D:=aZ3;have fin:EP X pins σ Q w s:=⟨z,H,I,a,q⟩;by_cases h0:0<=i
 ·have c:i.toNat=j:=by
   rw[seqIndex_of h0 l]at h1;exact bY6 h1
  exact item_listR e.isList h0 (by omega) (by rw[c];simpa using f) fin g
 ·have c:(i+(d.toArray.size:Int)).toNat=j:=by
   rw[seqIndex_neg (by omega) k]at h1;rw[bY3,<- hl];exact bY6 h1
  exact subscriptTail_builtinR (x:=w) e.isList.typeIs slot_list_getitem.lookup
   (wpAny_getItem_list_neg (Q:=λr s'=>r=w/\EP X pins σ Q r s') e.isList (by omega) (by rw[bY3]<;> omega) (by omega) (by rw[c];simpa using f) ⟨rfl,fin⟩) g
theorem yW:IxR X (bZk X.K):=by
 intro value b pins s σ H x y v u Q I m g h l;obtain⟨p,xs,i,z,rfl,rfl,f,e,q⟩:=h;cases m;obtain⟨t,rfl⟩:=g;obtain⟨d,r,c,B⟩:=I.tuple f;obtain⟨j,h1,h2,n,o,A⟩:=aJE e;obtain⟨w,k,a⟩:=r.get h2;have hl:=r.length;have C:=aZ3;have fin:EP X pins σ Q w s:=⟨z,H,I,a,q⟩;exact subscriptTail_builtinR (x:=w) c.typeIs slot_tuple_getitem.lookup
  (getItem_tuple (j:=j) (Q:=λr s'=>r=w/\EP X pins σ Q r s') c (by omega) (by omega) (by rw[bY3,<- hl];exact h1) (by simpa using k) ⟨rfl,fin⟩) l
theorem aQv:IxR X bYi:=by
 intro value a pins s σ H x y v u Q I m f h g;obtain⟨z,i,c,rfl,rfl,p,e,q⟩:=h;obtain⟨t,rfl⟩:=m;obtain⟨o,rfl⟩:=f;obtain⟨j,h1,h2,n,b,d⟩:=aJE e;have hl:z.cps.toList.length=z.length:=by simp[Str.length]
 rw[hl]at h1 b d;have r:=aZ3;exact tail_any (typeIs_str s z t) slot_str_getitem.lookup (getItem_str (c:=c) (by
  have l:decide (i< -(2 ^ 63:Int))=false:=decide_eq_false (by omega);have k:decide (i≥2 ^ 63)=false:=decide_eq_false (by omega);rw[l,k,Bool.or_false]) (by rw[h1];simpa using h2) ⟨.str ⟨#[c]⟩,H,I.tok _,⟨_,rfl⟩,q⟩) g
def rIx(K:bYO):R2:=λx y H Q=>aXG K x y H Q\/bZk K x y H Q\/bYi x y H Q
theorem aVP:IxR X (rIx X.K):=yK.or (yW.or aQv)
theorem aWX(its:List bYM)(n j:Nat)(u:bYM):cQH (·.setIfInBounds j u) {cls:= .type "list",data:= .seq its.toArray n}= {cls:= .type "list",data:= .seq (its.set j u).toArray n}:=by
 simp[cQH]
theorem Inv.lst{pins:List (Addr×Obj)}{σ:St}{H:Hp}{s:bYP}{p:Addr}{xs:List V}(I:Inv X pins σ H s)(h:H p=some (.lst xs)): ∃ (its:List bYM)(n:Nat),xY xs its/\s.heap.get? p=some {cls:= .type "list",data:= .seq its.toArray n}/\xs.length<=cQb:=by
 obtain⟨z,its,n,r,e⟩:=I.hok p _ h;exact⟨its,n,r,e,z⟩
theorem Inv.lstUpd{pins:List (Addr×Obj)}{σ:St}{H:Hp}{s:bYP}{p:Addr}{xs ys:List V}{its its':List bYM}{n a:Nat}{f:Obj->Obj}(I:Inv X pins σ H s)(h:H p=some (.lst xs)) (i:s.heap.get? p=some {cls:= .type "list",data:= .seq its.toArray n}) (c:f {cls:= .type "list",data:= .seq its.toArray n}= {cls:= .type "list",data:= .seq its'.toArray a}) (r:xY ys its') (g:ys.length<=cQb) (t:Nat): Inv X pins σ (upd H p (.lst ys)) {s with heap:=s.heap.update p f,toks:=t}:=by
 have e:(s.heap.update p f).get? p=some {cls:= .type "list",data:= .seq its'.toArray a}:=by rw[cQS f i (by rw[c]<;> rfl),c]
 refine I.write (x:=p) (e:=p) (by rw[h];trivial) (.inl rfl) (λb u d q=>(cQq _ _ (cQu d)).trans q) ⟨_,e⟩ ?_;exact⟨g,its',a,r,e⟩
def bK4:V->V->V->Hp->(Hp->Prop)->Prop:=λo i v H Q=>∃p xs k j,o= .ref p/\i= .int k/\H p=some (.lst xs)/\ixN xs.length k=some j/\Q (upd H p (.lst (xs.set j v)))
theorem zY:bYg X bK4:=by
 intro pins s σ H o i v A z u Q I m l y h;obtain⟨p,xs,k,j,rfl,rfl,g,w,q⟩:=h;cases m;obtain⟨t,rfl⟩:=l;obtain⟨a,n,r,c,x⟩:=I.lst g;obtain⟨h1,h2,d,f⟩:=aYh w;have hl:=r.length;have B:=aZ3;have e:Inv X pins σ (upd H p (.lst (xs.set j v))) {s with heap:=s.heap.update p (cQH (·.setIfInBounds j u)) }:=
  I.lstUpd g c (aWX a n j u) (r.set y j) (by rw[List.length_set];exact x) s.toks
 by_cases h0:0<=k
 ·have b:k.toNat=j:=by
   rw[seqIndex_of h0 f]at h1;exact bY6 h1
  exact PySem.W.ki_setAt c h0 (by omega) (by rw[bY3,<- hl];exact f) (by rw[b];exact⟨_,e,q⟩)
 ·have b:(k+(a.toArray.size:Int)).toNat=j:=by
   rw[seqIndex_neg (by omega) d]at h1;rw[bY3,<- hl];exact bY6 h1
  exact PySem.W.ki_setBack c (by omega) (by rw[bY3,<- hl];exact d) (by omega) (by rw[b];exact⟨_,e,q⟩)
theorem aJm(lo hi:Option Int)(n:Nat):(cJb lo hi none n).1=((HT.sIx n 0 lo:Nat):Int)/\(cJb lo hi none n).2.1=((HT.sIx n n hi:Nat):Int)/\(cJb lo hi none n).2.2=1:=by
 refine⟨?_,?_,rfl⟩
 ·cases lo with
  |none=>simp[cJb,HT.sIx]
  |some i=>
   simp only[cJb,HT.sIx,Option.getD_none,show(1:Int) > 0 by decide,if_true];by_cases h:i<0
   ·simp only[h,if_true]<;> omega
   ·simp only[h,if_false]<;> omega
 ·cases hi with
  |none=>simp[cJb,HT.sIx]
  |some i=>
   simp only[cJb,HT.sIx,Option.getD_none,show(1:Int) > 0 by decide,if_true];by_cases h:i<0
   ·simp only[h,if_true]<;> omega
   ·simp only[h,if_false]<;> omega
theorem aZr(its:List bYM)(lo hi:Option Int):slicePick its.toArray lo hi none=((its.drop (HT.sIx its.length 0 lo)).take (HT.sIx its.length its.length hi - HT.sIx its.length 0 lo)).toArray:=by
 obtain⟨h1,h2,a⟩:=aJm lo hi its.toArray.size;unfold slicePick;rw[h1,h2,a];simp only[sliceRange_one,pick_run,bY3]<;> rfl
def bYA(K:bYO):V->Option Int->Option Int->Hp->VK->Prop:=λx lo hi H Q=>∃a xs,x= .ref a/\SqL K H a xs/\∀p,H p=none->Q (.ref p) (upd H p (.lst (qN xs lo hi)))
theorem aZq:SlR X (bYA X.K):=by
 intro pins s σ H x v p m lo hi n Q I l k j g h;obtain⟨a,xs,rfl,f,q⟩:=h;cases l;obtain⟨e,r,d,i⟩:=I.list f;have c:=r.length;refine⟨"list",_,slot_list_getitem.lookup,d.isList.typeIs,?_⟩;refine wpAny_getItem_list_slice d.isList k j g .none (by simp) ?_ (by rw[bY3]<;> omega);rw[aZr,<- c];refine⟨.ref s.heap.objs.size,_,I.laid (t':=s.toks) (o:= .lst (qN xs lo hi)) (λb t q=>bYS _ q) (bYT _) ?_,rfl,q _ (I.hok.fresh (bYT _))⟩;exact⟨cQo (aQp xs lo hi) i,_,0,(r.drop (HT.sIx xs.length 0 lo)).take (HT.sIx xs.length xs.length hi - HT.sIx xs.length 0 lo),cQh _ rfl⟩
def Q8:V->Bool
 |.non=>true
 |.bl _=>true
 |.int _=>true
 |.str _=>true
 |_=>false
def eqV:V->V->Bool
 |.non,.non=>true
 |.bl a,.bl b=>a==b
 |.bl a,.int b=>(if a then 1 else 0)==b
 |.int a,.bl b=>a==(if b then 1 else 0)
 |.int a,.int b=>a==b
 |.str a,.str b=>a==b
 |_,_=>false
theorem bJg{A:cQv}{s:bYP}{y x:V}{u v:bYM}(f:zI y u)(c:zI x v)(g:Q8 y=true)(e:Q8 x=true):cVm A s u v (eqV y x):=by
 cases y with
 |non=>
  cases f;cases x with
  |non=>cases c;exact SeqAt.EqAt.same _
  |bl b=>cases c;exact SeqAt.EqAt.none_bool b
  |int b=>obtain⟨t,rfl⟩:=c;exact SeqAt.EqAt.none_int b t
  |str b=>obtain⟨t,rfl⟩:=c;exact SeqAt.EqAt.none_str b t
  |_=>exact absurd (show false=true from e) Bool.false_ne_true
 |bl a=>
  cases f;cases x with
  |non=>cases c;exact SeqAt.EqAt.bool_none a
  |bl b=>cases c;exact SeqAt.EqAt.bool_bool a b
  |int b=>obtain⟨t,rfl⟩:=c;exact SeqAt.EqAt.bool_int a b t
  |str b=>obtain⟨t,rfl⟩:=c;exact SeqAt.EqAt.bool_str a b t
  |_=>exact absurd (show false=true from e) Bool.false_ne_true
 |int a=>
  obtain⟨d,rfl⟩:=f;cases x with
  |non=>cases c;exact SeqAt.EqAt.int_none a d
  |bl b=>cases c;exact SeqAt.EqAt.int_bool a d b
  |int b=>obtain⟨t,rfl⟩:=c;exact SeqAt.EqAt.int_int a d b t
  |str b=>obtain⟨t,rfl⟩:=c;exact SeqAt.EqAt.int_str a d b t
  |_=>exact absurd (show false=true from e) Bool.false_ne_true
 |str a=>
  obtain⟨d,rfl⟩:=f;cases x with
  |non=>cases c;exact SeqAt.EqAt.str_none a d
  |bl b=>cases c;exact SeqAt.EqAt.str_bool a d b
  |int b=>obtain⟨t,rfl⟩:=c;exact SeqAt.EqAt.str_int a d b t
  |str b=>obtain⟨t,rfl⟩:=c;exact SeqAt.EqAt.str_str a d b t
  |_=>exact absurd (show false=true from e) Bool.false_ne_true
 |_=>exact absurd (show false=true from g) Bool.false_ne_true
def eqU(x:V)(u:bYM):Bool:=match u with
 |.none=>eqV .non x
 |.bool b=>eqV (.bl b) x
 |.int i _=>eqV (.int i) x
 |.str z _=>eqV (.str z) x
 |_=>false
theorem bJh{x y:V}{u:bYM}(r:zI y u)(f:Q8 y=true):eqU x u=eqV y x:=by
 cases y with
 |non=>cases r;rfl
 |bl b=>cases r;rfl
 |int i=>obtain⟨t,rfl⟩:=r;rfl
 |str z=>obtain⟨t,rfl⟩:=r;rfl
 |_=>exact absurd (show false=true from f) Bool.false_ne_true
theorem aQm{x:V}:∀ {xs:List V} {us:List bYM},xY xs us->xs.all Q8=true->us.any (eqU x)=xs.any λy=>eqV y x
 |_,_,.nil,_=>rfl
 |y::xs,u::us,.cons r t,f=>by rw[cZ3,Bool.and_eq_true]at f;rw[cX2,cX2,bJh r f.1,aQm t f.2]
theorem qY{A:cQv}{s:bYP}{x:V}{v:bYM}(c:zI x v)(b:Q8 x=true):∀ {xs:List V} {us:List bYM},xY xs us->xs.all Q8=true->∀u∈us,cVm A s u v (eqU x u)
 |_,_,.nil,_=>λu a=>by cases a
 |y::xs,u::us,.cons r t,f=>λd a=>by
  rw[cZ3,Bool.and_eq_true]at f;rcases bYX.mp a with rfl|a
  ·rw[bJh r f.1];exact bJg r c f.1 b
  ·exact qY c b t f.2 d a
def inV(x:V)(xs:List V):Bool:=xs.any λy=>eqV y x
def rIn(K:bYO)(a:Bool):R2:=λx y H Q=>∃p xs,y= .ref p/\(SqL K H p xs\/SqT K H p xs)/\Q8 x=true/\xs.all Q8=true/\Q (.bl (if a then !inV x xs else inV x xs)) H
theorem vH:OpR X (cXk .In) (rIn X.K false):=by
 intro pins s σ H x y v u Q I e f h;obtain⟨p,xs,rfl,b,d,fs,q⟩:=h;cases f;rcases b with b|b
 ·obtain⟨a,r,c,g⟩:=I.list b;refine SeqAt.in_listAt (eqU x) c.isList (λw hw=>qY e d r fs w (by simpa using hw)) ⟨.bl _,H,I,rfl,?_⟩;rw[show a.toArray.any (eqU x)=a.any (eqU x) by simp,aQm r fs];exact q
 ·obtain⟨a,r,c,g⟩:=I.tuple b;refine SeqAt.in_tupleAt (eqU x) c (λw hw=>qY e d r fs w (by simpa using hw)) ⟨.bl _,H,I,rfl,?_⟩;rw[show a.toArray.any (eqU x)=a.any (eqU x) by simp,aQm r fs];exact q
theorem Q4:OpR X (cXk .NotIn) (rIn X.K true):=by
 intro pins s σ H x y v u Q I e f h;obtain⟨p,xs,rfl,b,d,fs,q⟩:=h;cases f;rcases b with b|b
 ·obtain⟨a,r,c,g⟩:=I.list b;refine SeqAt.notIn_listAt (eqU x) c.isList (λw hw=>qY e d r fs w (by simpa using hw)) ⟨.bl _,H,I,rfl,?_⟩;rw[show a.toArray.any (eqU x)=a.any (eqU x) by simp,aQm r fs];exact q
 ·obtain⟨a,r,c,g⟩:=I.tuple b;refine SeqAt.notIn_tupleAt (eqU x) c (λw hw=>qY e d r fs w (by simpa using hw)) ⟨.bl _,H,I,rfl,?_⟩;rw[show a.toArray.any (eqU x)=a.any (eqU x) by simp,aQm r fs];exact q
theorem yO:jT X (.builtin "len") (λxs H Q=>∃p ys,xs= [.ref p]/\(SqL X.K H p ys\/SqT X.K H p ys)/\Q (.int ys.length) H):=by
 intro pins s σ H xs i Q I r h;obtain⟨p,ys,rfl,b,q⟩:=h;obtain⟨u,rfl,g⟩:=aXe r;cases g;have j:=aZ3;rcases b with b|b
 ·obtain⟨c,d,e,f⟩:=I.list b;have a:=d.length;exact Calls.call_len_list e.isList (by simp only[bY3]<;> omega) ⟨.int ys.length,H,I.tok _,⟨s.toks+1,by rw[bY3,a]⟩,q⟩
 ·obtain⟨c,d,e,f⟩:=I.tuple b;have a:=d.length;exact len_tuple e (by simp only[bY3]<;> omega) ⟨.int ys.length,H,I.tok _,⟨s.toks+1,by rw[bY3,a]⟩,q⟩
theorem vU:jT X (.type "list") (λxs H Q=>∃p ys,xs= [.ref p]/\(SqL X.K H p ys\/SqT X.K H p ys)/\∀l,H l=none->Q (.ref l) (upd H l (.lst ys))):=by
 intro pins s σ H xs y Q I r h;obtain⟨p,ys,rfl,i,q⟩:=h;obtain⟨u,rfl,x⟩:=aXe r;cases x;have fin:∀ (a:List bYM),xY ys a->ys.length<=cQb->∀ (h':Heap)(c:Nat),(∀b o',s.heap.get? b=some o'->h'.get? b=some o')->
   h'.get? s.heap.objs.size=some {cls:= .type "list",dict:=none,data:= .seq a.toArray c,slots:= #[] }->EP X pins σ Q (.ref s.heap.objs.size) {s with heap:=h'}:=λa d j h' c g e=>
  ⟨.ref s.heap.objs.size,_,I.laid (t':=s.toks) g (bYT _) (show zG X.prog X.w _ h' _ (.lst ys)from⟨j,a,c,d,e⟩),rfl,q _ (I.hok.fresh (bYT _))⟩
 rcases i with i|i
 ·obtain⟨a,d,t,j⟩:=I.list i;have f:=d.length;obtain⟨o,m,v,n,k⟩:=t.isList;exact call_list_seq p (.inl rfl) m v k (λh' c g e=>fin a d j h' c g e) (by simp only[bY3]<;> omega)
 ·obtain⟨a,d,t,j⟩:=I.tuple i;have f:=d.length;obtain⟨o,m,v,n,k⟩:=t;exact call_list_seq p (.inr rfl) m v k (λh' c g e=>fin a d j h' c g e) (by simp only[bY3]<;> omega)
theorem qR:jT X (.type "tuple") (λxs H Q=>∃p ys,xs= [.ref p]/\((SqL X.K H p ys/\∀l,H l=none->Q (.ref l) (upd H l (.tup ys)))\/(SqT X.K H p ys/\Q (.ref p) H))):=by
 intro pins s σ H xs t Q I r h;obtain⟨p,ys,rfl,h⟩:=h;obtain⟨u,rfl,n⟩:=aXe r;cases n;rcases h with⟨c,q⟩|⟨c,q⟩
 ·obtain⟨a,d,f,j⟩:=I.list c;have g:=d.length;refine call_tuple_list f.isList (λh' m=>?_) (by simp only[bY3]<;> omega);have i:Inv X pins σ H {s with heap:=h'}:=I.kept (t':=s.toks) m;have k:Inv X pins σ (upd H h'.objs.size (.tup ys)) {s with heap:=h'.push {cls:= .type "tuple",data:= .seq a.toArray} }:=
   i.laid (t':=s.toks) (λb o e=>bYS _ e) (bYT _) (show zG X.prog X.w _ _ _ (.tup ys)from⟨j,a,d,IsTup.new _ _⟩)
  exact⟨.ref h'.objs.size,_,k,rfl,q _ (i.hok.fresh (bYT _))⟩
 ·obtain⟨a,d,f,j⟩:=I.tuple c;exact call_tuple_same f ⟨.ref p,H,I,rfl,q⟩
def tyV(K:bYO)(T:String)(x:V)(H:Hp):Prop:=match x with
 |.str _=>T="str"
 |.int _=>T="int"
 |.ref p=>(T="list"/\∃xs,SqL K H p xs)\/(T="tuple"/\∃o,K.lookup p=some o/\o.cls= .type "tuple"/\o.dict=none)\/
   (T="dict"/\((∃a,H p=some (.dK a))\/∃a,H p=some (.dT a)))\/(T="set"/\∃S n,H p=some (.set S n))
 |_=>False
theorem bJE{pins:List (Addr×Obj)}{σ:St}{H:Hp}{s:bYP}{T:String}{x:V}{v:bYM}(I:Inv X pins σ H s)(r:zI x v)(ty:tyV X.K T x H): s.TypeIs v T/\∀a,v= .ref a->∃h,s.heap.get? a=some h/\h.dict=none:=by
 cases x with
 |str z=>obtain⟨t,rfl⟩:=r;cases (show T="str" from ty);exact⟨typeIs_str s z t,λ_ e=>nomatch e⟩
 |int i=>obtain⟨t,rfl⟩:=r;cases (show T="int" from ty);exact⟨typeIs_int s i t,λ_ e=>nomatch e⟩
 |ref p=>
  cases r;rcases ty with⟨rfl,xs,l⟩|⟨rfl,o,b,m,d⟩|⟨rfl,b⟩|⟨rfl,S,n,b⟩
  ·obtain⟨k,_,j,_⟩:=I.list l;refine⟨j.isList.typeIs,λa e=>?_⟩;cases e;obtain⟨o,n,e,c,d,_⟩:=j;exact⟨o,e,d⟩
  ·refine⟨⟨o,I.kIn p o b,m⟩,λa e=>?_⟩;cases e;exact⟨o,I.kIn _ o b,d⟩
  ·have z:∃o,s.heap.get? p=some o/\o.ExactDict:=by
    rcases b with⟨f,b⟩|⟨f,b⟩
    ·obtain⟨_,_,_,_,o,_,_,e,ex,_⟩:=I.hok p _ b;exact⟨o,e,ex⟩
    ·obtain⟨_,_,_,_,o,_,_,e,ex,_⟩:=I.hok p _ b;exact⟨o,e,ex⟩
   obtain⟨o,e,ex⟩:=z;refine⟨⟨o,e,ex.1⟩,λa g=>?_⟩;cases g;exact⟨o,e,ex.2.1⟩
  ·obtain⟨o,_,_,_,e,ex,_⟩:=I.hok p _ b;refine⟨⟨o,e,ex.1⟩,λa g=>?_⟩;cases g;exact⟨o,e,ex.2.1⟩
 |_=>exact cXl ty
def bYF(K:bYO)(T:String)(r:V->List V->Hp->VK->Prop)(to:TE):TE:=λσ H Q=>to σ H λx H1=>tyV K T x H1/\r x [] H1 Q
def tBM(K:bYO)(T:String)(r:V->List V->Hp->VK->Prop)(to:TE)(t:TA):TE:=λσ H Q=>to σ H λx H1=>tyV K T x H1/\t σ H1 λxs H2=>r x xs H2 Q
variable {o e:Expr}{es:List Expr}{to:TE}{t:TA}{name:Str}{apos cpos:Pos}{T id:String}{r:V->List V->Hp->VK->Prop}
theorem aYY(f:PlainAttrs T)(c:Slot T name id)(d:typeOf (.builtin id)=pure (.type "method_descriptor"))(g:MtR X id r)(e:PE X o to) (a:cZD o name X.env (eval o X.env)=eval o X.env:=by rfl) (b:(apos.endLine==cpos.line)=true:=by rfl):PE X (.Call (.Attribute o name apos) [] [] cpos) (bYF X.K T r to):=by
 intro pins s σ H Q I h;refine wpAny_Call_method0_late a b (thn (e pins s σ H _ I h) λv s1 ⟨x,H1,I1,r1,ty,q1⟩=>?_);obtain⟨h1,h2⟩:=bJE I1 r1 ty;exact⟨T,id,f,c,d,h1,h2,Calls.callWith_builtin rfl (PySem.evalArgs_none (g pins s1 σ H1 x [] v [] Q I1 r1 .nil q1))⟩
theorem v6(j:PlainAttrs T)(f:Slot T name id)(g:typeOf (.builtin id)=pure (.type "method_descriptor"))(k:MtR X id r)(n:PE X o to)(l:PA X (e::es) t)
  (c:cZD o name X.env (eval o X.env)=eval o X.env:=by rfl)
  (d:((cXu cpos (cQt (e::es) X.env)).all (λx=> !x.1) && (cZ1 cpos (cX8 [] X.env)).all (λx=>x.1.isSome) && decide ((e::es).length+([]:List Keyword).length+(if([]:List Keyword).isEmpty then 0 else 1)<30))=true:=by rfl)
  (b:(apos.endLine==cpos.line)=true:=by rfl) (m:cQt (e::es) X.env=(false,eval e X.env)::cQt es X.env:=by rfl) (a:(cXu cpos (cQt es X.env)).any (·.1)=false:=by rfl):
  PE X (.Call (.Attribute o name apos) (e::es) [] cpos) (tBM X.K T r to t):=by
 intro pins s σ H Q I h
 refine wpAny_Call_method_late c d b rfl (thn (n pins s σ H _ I h) λv s1 ⟨x,H1,I1,r1,ty,q1⟩=>?_)
 obtain⟨h1,h2⟩:=bJE I1 r1 ty
 refine⟨T,id,j,f,g,h1,h2,?_⟩
 have i:=l cpos pins s1 σ H1 _ I1 q1
 rw[m]at i ⊢
 refine Calls.callWith_builtin (by show(false || (cXu cpos (cQt es X.env)).any (·.1))=false;rw[a]<;> rfl) (Calls.evalArgs_plain ?_)
 exact thn i λus s2 ⟨vs,H2,I2,r2,q2⟩=>k pins s2 σ H2 x vs v us Q I2 r1 r2 q2
end
end L2
namespace L2
open PySem PySem.Spec PyProof.Rows
def MtM(X:Cx)(id:String)(r:V->List V->Hp->VK->Prop):Prop:=
 ∀ (pins:List (Addr×Obj))(s:bYP)(σ:St)(H:Hp)(x:V)(xs:List V)(v:bYM)(a:List bYM)(Q:VK),Inv X pins σ H s->zI x v->xY xs a->r x xs H Q->
  bYU (bYV X.prog X.w) X.A (call (.builtin id) (v::a)) (EP X pins σ Q) X.xe s
theorem xY.one:∀ {x:V} {us:List bYM},xY [x] us->∃u,us= [u]/\zI x u
 |_,_,.cons r .nil=>⟨_,rfl,r⟩
theorem xY.two:∀ {x y:V} {us:List bYM},xY [x,y] us->∃u v,us= [u,v]/\zI x u/\zI y v
 |_,_,_,.cons r (.cons q .nil)=>⟨_,_,rfl,r,q⟩
theorem xY.zero:∀ {us:List bYM},xY [] us->us= []
 |_,.nil=>rfl
theorem xY.dropLast{xs:List V}{us:List bYM}(h:xY xs us):xY xs.dropLast us.dropLast:=by
 induction h with
 |nil=>exact .nil
 |cons r t a=>
  cases t with
  |nil=>exact .nil
  |cons q b=>exact .cons r a
theorem xY.reverse{xs:List V}{us:List bYM}(h:xY xs us):xY xs.reverse us.reverse:=by
 induction h with
 |nil=>exact .nil
 |cons r t a=>rw[List.reverse_cons,List.reverse_cons];exact xY.append a (.cons r .nil)
theorem xY.rep{xs:List V}{us:List bYM}(h:xY xs us):∀k:Nat,xY (cQC k xs).flatten (cQC k us).flatten
 |0=> .nil
 |k+1=>by rw[cX4,cX4,cJj,cJj];exact xY.append h (xY.rep h k)
theorem aWH{α:Type}(l:List α):l.eraseIdx (l.length - 1)=l.dropLast:=by
 induction l with
 |nil=>rfl
 |cons a r c=>
  cases r with
  |nil=>rfl
  |cons b r=>
   have e:(a::b::r).length - 1=((b::r).length - 1)+1:=by have h1:(a::b::r).length=r.length+2:=rfl;have h2:(b::r).length=r.length+1:=rfl;omega
   rw[e,List.eraseIdx_cons_succ,c];all_goals rfl
theorem aZP(its:List bYM):∀ (k:Nat)(a:List bYM),
  List.foldl (λd c=>d++c) a.toArray (cQC k its.toArray)=(a++(cQC k its).flatten).toArray
 |0,a=>by simp
 |k+1,a=>by
  have e:a.toArray++its.toArray=(a++its).toArray:=by simp
  have b:(a++its)++(cQC k its).flatten=a++(cQC (k+1) its).flatten:=by rw[cX4,cJj,cQ8]
  rw[<- b,<- aZP its k (a++its),<- e,cX4,List.foldl_cons]
section
variable {X:Cx}{pins:List (Addr×Obj)}{σ:St}{H:Hp}{s:bYP}{l b:Addr}{xs ys zs:List V}
theorem Inv.lset{its its':List bYM}{n:Nat}{f:Array bYM->Array bYM}{t':Nat}(I:Inv X pins σ H s)(a:H l=some (.lst xs)) (e:s.heap.get? l=some {cls:= .type "list",data:= .seq its.toArray n}) (b:f its.toArray=its'.toArray) (c:xY ys its') (g:ys.length<=cQb): Inv X pins σ (upd H l (.lst ys)) {s with heap:=s.heap.update l (cQH f),toks:=t'}:=by
 have q:=PySem.IsL.update e f;rw[b]at q;refine I.write (x:=l) (e:=l) (by rw[a];exact trivial) (.inl rfl) (λi u h d=>(cQq s.heap (cQH f) (cQu h)).trans d) ⟨_,q⟩ ?_;exact⟨g,its',_,c,q⟩
theorem Inv.lnew{its:List bYM}{t':Nat}(I:Inv X pins σ H s)(a:xY ys its)(hz:ys.length<=cQb): Inv X pins σ (upd H s.heap.objs.size (.lst ys)) {s with heap:=s.heap.push {cls:= .type "list",data:= .seq its.toArray},toks:=t'}:=
 I.laid (λ_ _ q=>bYS _ q) (bYT _) ⟨hz,its,0,a,cQh _ rfl⟩
theorem Inv.fresh(I:Inv X pins σ H s):H s.heap.objs.size=none:=I.hok.fresh (bYT _)
theorem Inv.lstM(I:Inv X pins σ H s)(a:H l=some (.lst xs)):xs.length<=cQb/\∃ (its:List bYM)(n:Nat),xY xs its/\xs.length=its.length/\s.heap.get? l=some {cls:= .type "list",data:= .seq its.toArray n}:=by
 obtain⟨z,its,n,r,e⟩:=I.hok l _ a;exact⟨z,its,n,r,r.length,e⟩
theorem aVU{n:Nat}(h:n<=cQb):cZq n=false:=by
 unfold cZq;exact decide_eq_false (by omega)
end
section
variable {X:Cx}
def aY4:V->List V->Hp->VK->Prop:=λx a H Q=>∃l xs y,x= .ref l/\a= [y]/\H l=some (.lst xs)/\xs.length<cQb/\Q .non (upd H l (.lst (xs++ [y])))
theorem xL:MtM X "list.append" aY4:=by
 intro pins s σ H x g v j Q I c f h;obtain⟨l,xs,y,rfl,rfl,b,i,q⟩:=h;cases c;obtain⟨u,rfl,d⟩:=f.one;obtain⟨z,a,n,r,hl,e⟩:=I.lstM b;refine call_meets F.slot_list_append ⟨_,e,rfl⟩ F.entry_list_append (F.args_list_append_2 _ _) (PySem.list_append l a.toArray n u (by rw[bY3];omega)) ⟨e,?_⟩;refine⟨.non,_,I.lset (its':=a++ [u]) b e (by simp) (r.append (.cons d .nil)) ?_,rfl,q⟩;rw[cQa,cQU];omega
def bVC:V->List V->Hp->VK->Prop:=λx a H Q=>∃l b xs zs,x= .ref l/\a= [.ref b]/\H l=some (.lst xs)/\H b=some (.lst zs)/\xs.length+zs.length<=cQb/\Q .non (upd H l (.lst (xs++zs)))
theorem aYx:MtM X "list.extend" bVC:=by
 intro pins s σ H x y v B Q I t w h;obtain⟨l,b,xs,zs,rfl,rfl,g,o,A,q⟩:=h;cases t;obtain⟨u,rfl,k⟩:=w.one;cases k;obtain⟨z,c,n,r,hl,e⟩:=I.lstM g;obtain⟨z2,a,m,i,j,p⟩:=I.lstM o;have f:c.toArray.size+a.toArray.size<=cQb:=by rw[bY3,bY3];omega
 have d:¬ (!c.toArray.isEmpty && cZq (c.toArray.size+a.toArray.size))=true:=by rw[aVU f,Bool.and_false];exact Bool.false_ne_true
 refine call_meets F.slot_list_extend ⟨_,e,rfl⟩ F.entry_list_extend (F.args_list_extend_2 _ _)
  (AutoSeq1.list_extend_list_list_0 l c.toArray n b a.toArray m d (by rw[bY3];omega) (by omega)) ⟨e,p,?_⟩
 refine⟨.non,_,I.lset (its':=c++a) g e (by simp) (r.append i) ?_,rfl,q⟩;rw[cQa];omega
def bYy:V->List V->Hp->VK->Prop:=λx a H Q=>∃l xs y,x= .ref l/\a= []/\H l=some (.lst xs)/\xs[xs.length - 1]? =some y/\Q y (upd H l (.lst xs.dropLast))
theorem aYy:MtM X "list.pop" bYy:=by
 intro pins s σ H x m v o Q I f k h;obtain⟨l,xs,y,rfl,rfl,d,i,q⟩:=h;cases f;have b:=k.zero;subst b;obtain⟨z,a,n,r,hl,e⟩:=I.lstM d;obtain⟨u,g,j⟩:=r.get i;have c:a.toArray[a.toArray.size - 1]? =some u:=by show a.toArray[a.length - 1]? =some u;rw[<- cXn,<- hl];exact g
 refine call_meets F.slot_list_pop ⟨_,e,rfl⟩ F.entry_list_pop (F.args_list_pop_1 _) (MeetsSeq.list_pop_last l a.toArray n u c (by rw[bY3];omega)) ⟨e,?_⟩;refine⟨y,_,I.lset (its':=a.dropLast) d e ?_ r.dropLast ?_,j,q⟩
 ·show a.toArray.eraseIdxIfInBounds (a.toArray.size - 1)=a.dropLast.toArray;rw[bY3,List.eraseIdxIfInBounds_toArray,aWH]
 ·rw[List.length_dropLast];omega
def bYx:R2:=λx y H Q=>∃l b xs zs,x= .ref l/\y= .ref b/\H l=some (.lst xs)/\H b=some (.lst zs)/\xs.length+zs.length<=cQb/\∀p,H p=none->Q (.ref p) (upd H p (.lst (xs++zs)))
theorem qA:OpR X (cZh .Add) bYx:=by
 intro pins s σ H x y v u Q I o j h;obtain⟨l,b,xs,zs,rfl,rfl,f,i,t,q⟩:=h;cases o;cases j;obtain⟨z,c,n,r,hl,e⟩:=I.lstM f;obtain⟨z2,a,p,d,g,m⟩:=I.lstM i;refine PySem.P.add_list e m ?_ (by rw[bY3,bY3];omega);have k:c.toArray++a.toArray=(c++a).toArray:=by simp
 rw[k];exact⟨.ref _,_,I.lnew (t':=s.toks) (r.append d) (by rw[cQa];omega),rfl,q _ I.fresh⟩
def bYz:R2:=λx y H Q=>∃l k xs,x= .ref l/\y= .int k/\H l=some (.lst xs)/\ -(2 ^ 63)<=k/\k<2 ^ 63/\xs.length*k.toNat<=cQb/\
 ∀p,H p=none->Q (.ref p) (upd H p (.lst (cQC k.toNat xs).flatten))
theorem bVc{α:Type}(xs:List α)(k:Nat):(cQC k xs).flatten.length=k*xs.length:=by
 induction k with
 |zero=>simp
 |succ k a=>rw[cX4,cJj,cQa,a,Nat.succ_mul,Nat.add_comm]
theorem bW0:OpR X (cZh .Mult) bYz:=by
 intro pins s σ H x y v u Q I C B h;obtain⟨l,k,xs,rfl,rfl,A,h1,h2,p,q⟩:=h;cases C;obtain⟨t,rfl⟩:=B;obtain⟨z,b,n,r,hl,e⟩:=I.lstM A;have f:b.toArray.size*k.toNat<=cQb:=by rw[bY3,<- hl];exact p
 have d:¬b.toArray.size*k.toNat > (2 ^ 63 - 1) / 8:=by
  have:(cQb:Nat)<=(2 ^ 63 - 1) / 8:=by decide
  omega
 have g:¬ (!Builtin.List.listFitsIndex k)=true:=by rw[fitsIndex_both h1 h2];exact Bool.false_ne_true
 have c:¬cZq (b.toArray.size*k.toNat)=true:=by rw[aVU f];exact Bool.false_ne_true
 have i:List.foldl (λj o=>j++o) #[] (cQC (if b.toArray.isEmpty=true then 0 else k.toNat) b.toArray)=(cQC k.toNat b).flatten.toArray:=by
  have w:∀m:Nat,List.foldl (λj o=>j++o) #[] (cQC m b.toArray)=(cQC m b).flatten.toArray:=λm=>by have:=aZP b m [];rw[List.nil_append]at this;exact this
  rw[w];cases b with
  |nil=>simp
  |cons a D=>rw[if_neg (by simp)]
 refine wpAny_binaryOp_repeat_ref (T:="list") (U:="int") (by decide) ⟨_,e,rfl⟩ (λs'=>typeIs_int s' k t) noFill_list_mul F.fills_int_mul F.slot_int_rmul repeat_list F.slot_int_index.lookup
  (call_meets F.slot_int_rmul (typeIs_int s k t) F.entry_int_rmul (F.args_int_rmul_2 _ _) (int___rmul___int_list k t l b.toArray n) ⟨e,rfl,⟨_,e,rfl⟩,call_meets F.slot_list_mul ⟨_,e,rfl⟩ F.entry_list_mul (F.args_list_mul_2 _ _) (AutoListH.list___mul___list_int_3 l b.toArray n k t g d c) ⟨e,?_⟩⟩)
 rw[i];exact⟨.ref _,_,I.lnew (t':=s.toks) (r.rep k.toNat) (by rw[bVc,Nat.mul_comm];exact p),rfl,q _ I.fresh⟩
end
section
variable {prog:bY8}{w:cQg}{A:cQv}{E:bYM->bYP->Prop}{s:bYP}
end
section
variable {X:Cx}
end
end L2
namespace Att
open PySem PySem.W PySem.Calls PyProof.Rows
theorem aQt{P:Params}{h:Heap}:∀ (c:List Int)(vs:List bYM),WellAll P h vs (c.map WData.int)->cZn vs c:=by
 intro c;induction c with
 |nil=>intro vs w;rw[List.map_nil]at w;cases w;exact .nil
 |cons n c d=>
  intro vs w;rw[cQz]at w;cases w with
  |cons a b=>cases a;exact .cons _ _ (d _ b)
theorem bQG{l:OpenLaw}{n:Nat}(v:l.most=some n){P:Params}{h:Heap}{args:List WData}{vals:List bYM} (c:l.row.toRowW.claim.pre args=true) (j:WellAll P h vals args): ∃a m b,vals= [Value.ref a]/\args= [WData.list (b.map WData.int)]/\h.get? a=some {cls:= .type "list",data:= .seq m.toArray}/\cZn m b/\b.length<=n:=by
 have k:WShape.hasAll [] args [.list .int]=true:=(pre_splitW c).1;have o:l.pre.holds [] {args:=args}=true:=(pre_splitW c).2;obtain⟨d,r,rfl,h1,h2⟩:=hasAllW_cons k;obtain rfl:=hasAllW_nil h2;obtain⟨xs,rfl,p⟩:=hasW_list h1;obtain⟨b,rfl⟩:=items_int p;have f:b.length<=n:=by
  unfold OpenLaw.pre at o;have g:(WTm.not (.lt (.lit (.int (n:Int))) (.len (.arg 0)))).holds [] {args:= [.list (b.map .int)] }=true:=by have g:=(holds_andW o).1;rw[v]at g;exact g
  have i:=condW_of g (w_not (w_lt w_lit (w_len_list (w_arg rfl))));rw[bYR]at i;refine Nat.le_of_not_lt λq=>?_;have t:(n:Int)<((b.length:Nat):Int):=by omega
  first
   |(rw[decide_eq_true t]at i;exact absurd i (by decide))
   |(simp at i;omega)
 cases j with
 |cons u s=>
  cases s;cases u with
  |list w e=>exact⟨_,_,b,rfl,rfl,w,aQt b _ e,f⟩
theorem aY1(l:OpenLaw)(args:List WData):l.row.toRowW.claim.post args (.bool true) args=true:=
 postW_of (r:=l.row.toRowW) (X:=(true==true))
  (show WShape.has [] (.bool true) .bool=true by first|rfl|decide|simp[WShape.has,WShape.arms,WShape.armsAll])
  (show(WTm.eq .res (.lit (.bool true))).value [] {args:=args,res:=some (.bool true),after:=args}=some (.bool (true==true))from w_eq_bool (w_res rfl) w_lit) rfl
theorem aJG{l:OpenLaw}{n:Nat}{q:bY8}{loose:List Str}{A:(Str->Option bYM)->Heap->Prop}{z:cQg->Heap->Prop}{d:DefRec} (M:l.most=some n) (x:d.params.defaults= []) (call:∀ (w:cQg)(s₀ b:bYP)(mg p:Str->Option bYM)(g:Addr)(o:Obj)(t k e:bYM)(a:Addr)(vs:List bYM)(m:List Int), Ground q loose [] A w s₀ mg p b.heap->z w b.heap-> b.heap.get? g=some o->o.data= .func (docDef d.name d.params d.body d.scope t k e)->b.heap.CodeRec k d.name->mg d.name=some (.ref g)-> b.heap.get? a=some {cls:= .type "list",data:= .seq vs.toArray}->cZn vs m->m.length<=n->b.gens= #[]-> cX1 (bYV l.prog w) callerA (.call (.ref g) ⟨[.ref a],[]⟩) (λr s'=>r= .ok (.ret (.bool true))/\OldK b.heap s'.heap/\s'.os=b.os/\AllBare s'.gens) b): WalkO q loose A z l.row.toRowW d [] (λf vs=>PySem.call f vs):=by
 intro w s₀ b mg p G Y g o t k e D kV N K v B s I args vals O h y E u F;obtain rfl:D= .none:=Dflts.none B x;obtain rfl:kV= .none:=Dflts.noKw B;obtain⟨a,vs,m,rfl,rfl,j,c,i⟩:=bQG M h u;refine enter_call (cXH (call w s₀ b mg p g o t k e a vs m G Y N (fd_plain K) v s j c i I) λr s' L=>?_);obtain⟨rfl,h2,C,H⟩:=L;exact⟨.inl ⟨.bool true,.bool true,[],rfl,λ_=>rfl,.bool true,aY1 l _,λ_=>⟨List.Pairwise.nil,λ_ J=>(nomatch J)⟩⟩,h2,C,H⟩
section
variable {prog:bY8}{w:cQg}{A:cQv}{E:bYM->bYP->Prop}{s:bYP}{K:Frag}
end
end Att
namespace L2
open PySem PySem.Spec PyProof.Rows
theorem jF:∀ {vs:List bYM} {a:List Int},cZn vs a->xY (a.map V.int) vs
 |_,_,.nil=> .nil
 |_,_,.cons n t h=> .cons ⟨t,rfl⟩ (jF h)
end L2
namespace L2
open PySem PySem.Spec PyProof.Rows
end L2
namespace L2
open PySem PySem.Spec PyProof.Rows
def wC(s:Stmt):Arguments:=match s with
 |.FunctionDef _ a _ _ _ _ _ _ _ _=>a
 |_=>{posonlyargs:= [],args:= [],vararg:=none,kwonlyargs:= [],kw_defaults:= [],kwarg:=none,defaults:= [] }
def zJ(s:Stmt):List Stmt:=match s with
 |.FunctionDef _ _ b _ _ _ _ _ _ _=>b
 |_=> []
def yH(s:Stmt):cXZ:=match s with
 |.FunctionDef _ _ _ _ _ _ a _ _ _=>a
 |_=>{kind:= .function,names:= [],isGenerator:=false,isCoroutine:=false}
abbrev CX0:CXT:=λ_ _ _ _ _ _=>False
abbrev E0:XK:=λ_ _ _=>False
theorem v5{X:Cx}:vT CX0 X E0:=λ_ _ _ _ _ _ _ h=>h.elim
structure Fun(K:bYO)(x qual:Str)(st:Stmt)(f:Addr)(fd:cXL):Prop where
 ex:∃ (oc:bYM)(od:Option Addr)(kV doc pm:bYM)(an:Option Addr)(cdv ct:bYM)(osl:Array (Option bYM)),
  fd=cXa x qual (wC st) (zJ st) (yH st) .none kV doc pm an cdv ct/\K.lookup f=some ⟨oc,od,.func fd,osl⟩/\cXz K cdv qual=true
 kp:cQK K (.ref f)=true
section
variable {P:bY8}{w:cQg}{K:bYO}{mg:Str->Option bYM}{base:Heap}
theorem Fun.ok{x qual:Str}{st:Stmt}{f:Addr}{fd:cXL}{N ps:List Str}{k:Nat}{sp:Sp}(F:Fun K x qual st f fd)(S:yN N ps (yH st)) (b:∀ (a:bYM)(A:cQv)(outer:List Env)(s:bYP)(H:Hp)(vs:List V)(Q:VK)(E:XK),vZ k (A.deeper (cXK qual (yH st) s.heap.objs.size f a))->sp vs H Q E-> ∃t,PSs (aXR CX0 P w K mg base N qual (yH st) f a A outer s H E).nox (zJ st) t/\t {nx:=λ_ H'=>Q .non H',rt:=Q} (start N vs) H) (len:∀vs H Q E,sp vs H Q E->vs.length=ps.length:=by intro _ _ _ _ h;repeat (first|(obtain⟨rfl,_⟩:=h;exact rfl)|(obtain⟨_,h⟩:=h))):xH P w K mg base CX0 (k+1) f fd ps sp:=by
 obtain⟨n,j,kV,g,m,l,a,ct,i,rfl,lk,c⟩:=F.ex;refine bJZ lk c S len λA outer s H vs Q E e d=>?_;obtain⟨t,h,q⟩:=b a A outer s H vs Q E e d;exact⟨t,h.nox,q⟩
theorem Fun.binds{x qual:Str}{st:Stmt}{f:Addr}{fd:cXL}{ps:List Str}(F:Fun K x qual st f fd) (h:∀ (kV b d:bYM)(c:Option Addr)(a ct:bYM)(us:List bYM),us.length=ps.length->bindArgs (cXa x qual (wC st) (zJ st) (yH st) .none kV b d c a ct) ⟨us,[]⟩=pure (ps.zip us)):v9 K fd ps []:=by
 obtain⟨j,i,kV,b,d,c,a,ct,g,rfl,lk,e⟩:=F.ex;exact .all (h kV b d c a ct)
theorem aXx{x qual:Str}{st:Stmt}{f:Addr}{i:bYM}{h e:Option Addr}{d:Array (Option bYM)}{kV b g a ct:bYM}(l:K.lookup f=some ⟨i,h,.func (cXa x qual (wC st) (zJ st) (yH st) .none kV b g e a ct),d⟩)
  (c:cXz K a qual=true) (k:cQK K (.ref f)=true):Fun K x qual st f (cXa x qual (wC st) (zJ st) (yH st) .none kV b g e a ct):=⟨⟨i,h,kV,b,g,e,a,ct,d,rfl,l,c⟩,k⟩
end
theorem bWL{A:cQv}{k:Nat}(a:vZ k A):A.units+1<cLine:=Nat.lt_of_le_of_lt (Nat.add_le_add_left (by decide:1<=64) _) a.units
section
variable {X:Cx}
theorem pv(i:Nat){x:Str}{pos:Pos}(d:X.N[i]? =some x:=by rfl)(b:Vis X.env.scope x:=by first|exact Or.inl rfl|exact Or.inr (Or.inl rfl)|exact Or.inr (Or.inr rfl))(c:(x==("__debug__":Str))=false:=by decide)
  (a:(x==("__classdict__":Str))=false:=by decide):PE X (.Name x pos) (bWh i):=bJs d b c a
end
theorem qE{c A B:Prop} [Decidable c] (h1:c->A)(h2:¬c->B):if c then A else B:=by
 by_cases h:c
 ·rw[if_pos h];exact h1 h
 ·rw[if_neg h];exact h2 h
def xF(H H':Hp):Prop:=∀b o,H b=some o->H' b=some o
theorem xF.refl(H:Hp):xF H H:=λ_ _ h=>h
theorem xF.trans{H H1 H2:Hp}(a:xF H H1)(b:xF H1 H2):xF H H2:=λc o h=>b c o (a c o h)
theorem xF.seq{K:bYO}{H H':Hp}{a:Addr}{xs:List V}(e:xF H H')(h:SqL K H a xs):SqL K H' a xs:=by
 rcases h with(h|⟨o,h⟩)|h
 ·exact .inl (.inl (e _ _ h))
 ·exact .inl (.inr ⟨o,e _ _ h⟩)
 ·exact .inr h
end L2
namespace L2
open PySem
theorem scM{N P:List Str}{sc:Scope}(h:decide (sc.kind=.function/\sc.isCoroutine=false/\sc.isGenerator=false/\N.Nodup/\N.take P.length=P/\(∀x∈P,sc.names.lookup x=some .local\/sc.names.lookup x=some .cell)/\∀y∈sc.names,y.2≠.free)=true:=by decide +kernel):yN N P sc:=
 have z:=of_decide_eq_true h;⟨z.1,z.2.1,z.2.2.1,z.2.2.2.1,z.2.2.2.2.1,z.2.2.2.2.2.1,z.2.2.2.2.2.2⟩
end L2
namespace L2
open PySem PySem.Spec PyProof.Rows
def qS(env:Env)(l:List (Str×cZ0))(cs:List (Str×Nat)):Sem (List (Str×Nat)):=do
 let mut cs:=cs
 for (name,kind)in l do
  if kind== .free then cs:=(name,<- cellOf env name)::cs
 return cs
theorem aWB(env:Env)(cs:List (Str×Nat)):qS env [] cs=pure cs:=by simp[qS]
theorem aJK{env:Env}{n:Str}{c:Nat}{r:List (Str×cZ0)}{cs:List (Str×Nat)}(h:env.cells.lookup n=some c):qS env ((n,.free)::r) cs=qS env r ((n,c)::cs):=by
 have e:cellOf env n=pure c:=by unfold cellOf;rw[h]
 simp[qS,e]
theorem aZI{env:Env}{n:Str}{k:cZ0}{r:List (Str×cZ0)}{cs:List (Str×Nat)}(h:k≠ .free):qS env ((n,k)::r) cs=qS env r cs:=by
 simp[qS,h]
theorem aJL{env:Env}:∀ (l:List (Str×cZ0))(cs:List (Str×Nat)),(∀y∈l,y.2= .free->∃c,env.cells.lookup y.1=some c)->(∀y c,cs.lookup y=some c->env.cells.lookup y=some c)->
  ∃cl,qS env l cs=pure cl/\(∀y c,cl.lookup y=some c->env.cells.lookup y=some c)/\(∀y,(∃c,cs.lookup y=some c)->∃c,cl.lookup y=some c)/\(∀y,(y,NameKind.free)∈l->∃c,cl.lookup y=some c)
 |[],cs,_,h=>⟨cs,aWB env cs,h,λ_ z=>z,λ_ z=>by cases z⟩
 |(n,k)::r,cs,hl,h=>by
  by_cases f:k= .free
  ·subst f;obtain⟨c,o⟩:=hl (n,.free) bY4 rfl;obtain⟨cl,i,m,d,j⟩:=aJL r ((n,c)::cs) (λy a=>hl y (bYZ _ a)) (λy b e=>by
    rw[cXF]at e;split at e
    ·rename_i z;cases e;rw[beq_iff_eq.mp z];exact o
    ·exact h y b e)
   have g:∀y,(∃c,cs.lookup y=some c)->∃b,((n,c)::cs).lookup y=some b:=λy ⟨b,e⟩=>by
    rw[cXF];split
    ·exact⟨_,rfl⟩
    ·exact⟨b,e⟩
   refine⟨cl,by rw[aJK o];exact i,m,λy z=>d y (g y z),λy a=>?_⟩;rcases bYX.mp a with e|a
   ·cases e;exact d _ ⟨c,by rw[cXF,beq_self_eq_true]⟩
   ·exact j y a
  ·obtain⟨cl,i,m,d,j⟩:=aJL r cs (λy a=>hl y (bYZ _ a)) h;refine⟨cl,by rw[aZI f];exact i,m,d,λy a=>?_⟩;rcases bYX.mp a with e|a
   ·cases e;exact absurd rfl f
   ·exact j y a
abbrev blk(X:Cx)(N:List Str)(sc:cXZ)(cl:List (Str×Nat))(C:Nat)(s:bYP)(H:Hp)(ex:List Nat):Cx:=
 {X with N:=N,s₀:=s,H₀:=H,env:=compEnvC sc cl C X.env,outer:=X.stack,ex:=ex,fn:=λ_=>false,pn:= [],xe:=λ_ _=>False}
def sub(σ:St)(fr:List Nat)(o:Option V):St:=o::fr.map λi=>(σ[i]?).join
structure xQ(N:List Str)(osc:cXZ)(x:Str)(names:List Str)(fr:List Nat)(sc:cXZ):Prop where
 kind:sc.kind= .function
 nocell:∀y∈sc.names,y.2≠ .cell
 loc:∀y∈sc.names,y.2= .local->sc.names.lookup y.1=some .local
 var:sc.names.lookup x=some .local
 free:∀y∈sc.names,y.2= .free->osc.names.lookup y.1=some .cell\/osc.names.lookup y.1=some .free
 flk:∀y∈sc.names,y.2= .free->sc.names.lookup y.1=some .free
 nd:(x::names).Nodup
 len:fr.length=names.length
 taken:∀p∈names.zip fr,N[p.2]? =some p.1/\(p.1,NameKind.free)∈sc.names
theorem xQ.from_{N:List Str}{b sc:cXZ}{x:Str}{names:List Str}{fr:List Nat}(S:xQ N b x names fr sc)(j:Nat)(y:Str)(h:names[j]? =some y):∃i,fr[j]? =some i/\N[i]? =some y/\(y,NameKind.free)∈sc.names:=by
 have e:j<names.length:=(bYY.mp h).1;have a:j<fr.length:=by rw[S.len];exact e
 have z:(names.zip fr)[j]? =some (y,fr[j]):=by rw[List.getElem?_zip_eq_some];exact⟨h,bYL a⟩
 obtain⟨d,c⟩:=S.taken _ (bY5 z);exact⟨fr[j],bYL a,d,c⟩
def bWw(X:Cx)(ifs:List Expr)(t:TT):Prop:=
 ∀ (pins:List (Nat×Obj))(s:bYP)(σ:St)(H:Hp)(Q:Bool->Hp->Prop),Inv X pins σ H s->t σ H Q->
  bYU (bYV X.prog X.w) X.A (forIn ifs true λc r=>if r=true then do let ok <- isTrue c X.env (eval c X.env);pure (cJA ok)else pure (cJA r)) (TP X pins σ Q) X.xe s
def bYo:TT:=λ_ H Q=>Q true H
theorem vB{X:Cx}:bWw X [] bYo:=λpins s σ H Q I h=>by
 simp only[List.forIn_nil];exact bYQ ⟨H,I,h⟩
theorem wF{X:Cx}{c:Expr}{a:TT}(d:PT X c a):bWw X [c] a:=λpins s σ H Q I h=>by
 simp only[cJC,List.forIn_nil,if_true,bind_assoc,pure_bind];refine bYN (thn (d pins s σ H Q I h) λb e z=>?_);exact bYQ z
def bWo(J:It)(fr:List Nat)(tif:TT)(te:TE)(σ:St)(D:Nat)(Q:VK)(g:Hp):Prop:=
 ∃W:Nat->Nat->List V->Hp->Prop,(∃m,W 0 m [] g)/\∀i m a H,W i m a H->H D=some (.lst a)/\
  ((J.stop i H/\Q (.ref D) H)\/(J.go i H/\∀v e,J.yld i H v e->tif (sub σ fr (some v)) e λb f=>
   if b=true then te (sub σ fr (some v)) f λy d=>a.length<cQb/\d D=some (.lst a)/\∃c,c<m/\W (i+1) c (a++ [y]) (upd d D (.lst (a++ [y])))
   else ∃c,c<m/\W (i+1) c a f))
def tLc(wi:TI)(fr:List Nat)(tif:TT)(te:TE):TE:=λσ H Q=>wi σ H λJ a=>∀D,a D=none->bWo J fr tif te σ D Q (upd a D (.lst []))
theorem aXH{env:Env}:∀ {names:List (Str×cZ0)} {y:Str},names.lookup y=some .free->
  (names.map λ(n,k)=>if(k==NameKind.free && env.scope.kind== .function && env.kindOf n==some .cell)then(n,NameKind.cell)else(n,k)).lookup y=some .cell\/
  (names.map λ(n,k)=>if(k==NameKind.free && env.scope.kind== .function && env.kindOf n==some .cell)then(n,NameKind.cell)else(n,k)).lookup y=some .free
 |[],_,h=>by simp at h
 |(n,k)::r,y,h=>by
  have b:= @aXH env r y;rw[cQz];dsimp only;cases a:y==n with
  |true=>
   rw[cXF,a]at h;cases h;split
   ·left;rw[cXF,a]
   ·right;rw[cXF,a]
  |false=>
   rw[cXF,a]at h;split
   ·rw[cXF,a];exact b h
   ·rw[cXF,a];exact b h
theorem aJf{env:Env}{sc:cXZ}{y:Str}(h:sc.names.lookup y=some .free):(relabel sc env).names.lookup y=some .cell\/(relabel sc env).names.lookup y=some .free:=aXH h
section
variable {X:Cx}{pins:List (Nat×Obj)}{σ:St}{H:Hp}{s:bYP}
theorem bXJ{prog:bY8}{w:cQg}{A:cQv}{R:Result->bYP->Prop}{s:bYP}{elt a iter:Expr}{ifs:List Expr}{scope:cXZ}{pos:Pos}{it l:bYM}{env:Env}(I:Nat->bYP->Prop)
  (turn:∀n s,I n s->bYU (bYV prog w) A (pyNext it) (λr d=>match r with
   |none=>R (.ok .next) d
   |some v=>bYU (bYV prog w) A (cJI a it v) (λ_ b=>bYU (bYV prog w) A (assign a env v) (λ_ g=>
     bYU (bYV prog w) A (forIn ifs true λc r=>if r=true then do let ok <- isTrue c env (eval c env);pure (cJA ok)else pure (cJA r)) (λok e=>
      if ok=true then bYU (bYV prog w) A (eval elt env) (λx j=>
       bYU (bYV prog w) A (call (.builtin "list.append") [l,x]) (λ_ k=>∃m,m<n/\I m k) (λ_ _=>False) j) (λ_ _=>False) e
      else ∃m,m<n/\I m e) (λ_ _=>False) g) (λ_ _=>False) b) (λ_ _=>False) d) (λ_ _=>False) s)
  (n:Nat) (h:I n s):cX1 (bYV prog w) A (.compLoop (.ListComp elt [⟨a,iter,ifs,0⟩] scope pos) 0 it l env) R s:=by
 refine codeAny_loop rfl I (λn s u=>?_) n h
 show bYU _ A ((compTurn (.ListComp elt [⟨a,iter,ifs,0⟩] scope pos) 0 it l env).onRaise (λx=>do cJh x env;theTreesLotGoes x)) _ _ s
 refine wpAny_noted ?_
 rw[compTurn_list]
 refine bYN (cZ9 (bYN (cQQ (turn n s u) (λr d i=>?_) λ_ _ z=>z.elim)))
 cases r with
 |none=>exact bYQ i
 |some v=>
  refine bYN (cQQ i (λ_ b o=>?_) λ_ _ z=>z.elim);refine bYN (cQQ o (λ_ g q=>bYN (cQQ q (λok e f=>?_) λ_ _ z=>z.elim)) λ_ _ z=>z.elim);cases ok with
  |false=>exact bYQ ⟨rfl,f⟩
  |true=>refine bYN (bYN (cQQ f (λx j t=>bYN (cQQ t (λ_ k p=>?_) λ_ _ z=>z.elim)) λ_ _ z=>z.elim));exact bYQ (bYQ ⟨rfl,p⟩)
theorem bJl{elt iter:Expr}{x:Str}{px:Pos}{ifs:List Expr}{sc:cXZ}{pos:Pos}{names:List Str}{fr:List Nat}{tif:TT}{te:TE}{cl:List (Str×Nat)}{E:bYM->bYP->Prop}(S:xQ X.N X.env.scope x names fr sc)(hc:X.calm=true)
  (d:∀y c,cl.lookup y=some c->X.env.cells.lookup y=some c) (Z:∀y,(y,NameKind.free)∈sc.names->∃c,cl.lookup y=some c)
  (c2:∀cl C s H ex,bWw (blk X (x::names) sc cl C s H ex) ifs tif) (he:∀cl C s H ex,PE (blk X (x::names) sc cl C s H ex) elt te)
  {J:It} {it:Nat} {f:List Nat} {tn:Nat->Heap->Prop} {Q:VK} (I:Inv X pins σ H s) (T:bKG X.prog X.w X.K (.Name x px) J f it tn) (st:tn 0 s.heap) (hf:∀b∈f,bZ9 X pins H b)
  (q:∀D,H D=none->bWo J fr tif te σ D Q (upd H D (.lst []))) {RR:bYM->Nat->Result->bYP->Prop}
  (b9:∀D C B g,Inv X pins σ g B->g C=none->C≠X.env.locals->X.s₀.heap.objs.size<=C->(∀y c,X.env.cells.lookup y=some c->c≠C)->(∀p∈X.pn++pins,p.1≠C)->(∃m,B.heap.Ns C m)->Q (.ref D) g->RR (.ref D) C (.ok .next) B):
  bYU (bYV X.prog X.w) X.A (newList []) (λb2 s₃=>bYU (bYV X.prog X.w) X.A (newFunctionEnv sc X.env.globals cl [] X.env.qual none .none (some X.env)) (λa0 s₄=>
   cX1 (bYV X.prog X.w) X.A (.compStart (.ListComp elt [⟨.Name x px,iter,ifs,0⟩] sc pos) 0 (.ref it) b2 {a0 with scope:=relabel sc X.env}) (RR b2 a0.locals) s₄) E s₃) E s:=by
 refine cQ3 (wpAny_newFunctionEnv S.nocell (by intro y hy;simp at hy) (λt a2 a3=>?_) S.kind)
 dsimp only at a2 a3 ⊢
 have l:Inv X pins σ (upd H s.heap.objs.size (.lst [])) {s with heap:=s.heap.push {cls:= .type "list",dict:=none,data:= .seq ([]:List bYM).toArray} }:=I.lnew (t':=s.toks) (ys:= []) (its:= []) .nil (cQM _)
 have a7:=I.fresh
 obtain⟨W,⟨m0,w0⟩,turn⟩:=q s.heap.objs.size a7
 have Y:∀b∈f,∃o,s.heap.get? b=some o/\∀v,o.data≠ .cell v:=T.obj 0 _ st
 have hG:(s.heap.push {cls:= .type "list",dict:=none,data:= .seq ([]:List bYM).toArray}).objs.size=s.heap.objs.size+1:=cXo ..
 have kG:∀b o,s.heap.get? b=some o->(s.heap.push {cls:= .type "list",dict:=none,data:= .seq ([]:List bYM).toArray}).get? b=some o:=λb o e=>bYS _ e
 generalize c9:s.heap.push {cls:= .type "list",dict:=none,data:= .seq ([]:List bYM).toArray}=G at a2 a3 l hG kG ⊢
 generalize c4:s.heap.objs.size=D at a7 turn w0 hG l ⊢
 have keep:∀b o,G.get? b=some o->t.get? b=some o:=λb o e=>a3.extBut b o (cQd (bY0 e)) (bYS _ e)
 have b1:∀b∈f,b≠G.objs.size:=λb a=>by obtain⟨o,e,_⟩:=Y b a;exact cQd (bY0 (kG b o e))
 have a4:∀y c,X.env.cells.lookup y=some c->c≠G.objs.size:=λy c e=>by obtain⟨v,z⟩:=l.cell y c e;exact cQd z.lt
 have c3:(blk X (x::names) sc cl G.objs.size {s with heap:=G} (upd H D (.lst [])) f).Ok:=by
  refine⟨I.ok.mod,?_,I.ok.glob,I.ok.blt,bYT _,?_,?_,?_,I.ok.hd,I.ok.frames,.inl rfl,?_,l.bs,cQo I.ok.bsz l.sz,?_,?_,l.stack,l.stkFree⟩
  ·show(relabel sc X.env).kind= .function;exact S.kind
  ·exact λy z c h1 h2=>I.ok.inj y z c (d y c h1) (d z c h2)
  ·intro y hy;have c1:(relabel sc X.env).names.lookup y=some .cell\/(relabel sc X.env).names.lookup y=some .free:=hy;have R:(y,NameKind.cell)∈(relabel sc X.env).names\/(y,NameKind.free)∈(relabel sc X.env).names:=c1.imp cXj cXj;have c0:(y,NameKind.free)∈sc.names:=by
    rcases R with R|R
    ·obtain⟨⟨n,k⟩,hn,e⟩:=cQR.mp (show(y,NameKind.cell)∈sc.names.map _ from R);dsimp only at e;split at e
     ·rename_i L;cases e;have:k= .free:=by
       simp only[Bool.and_eq_true,beq_iff_eq]at L;exact L.1.1
      rw[this]at hn;exact hn
     ·cases e;exact absurd rfl (S.nocell _ hn)
    ·obtain⟨⟨n,k⟩,hn,e⟩:=cQR.mp (show(y,NameKind.free)∈sc.names.map _ from R);dsimp only at e;split at e
     ·cases e
     ·cases e;exact hn
   exact Z y c0
  ·exact λy c h _=>by cases h
  ·intro b a;exact⟨b1 b a,λy c e=>(hf b a).2.2.2.2.1 y c (d y c e)⟩
  ·intro b o e a;obtain⟨f0,f1,f2,f3,f4,f5⟩:=hf b a;rcases f3 with z|z
   ·exact I.ok.noex b o e z
   ·exact absurd (cQf (bY0 e) (cQo I.ok.bsz z)) (cQ0 _)
  ·intro b a z;obtain⟨f0,f1,f2,f3,f4,f5⟩:=hf b a;rcases bYX.mp (I.stkSub b z)with z|z
   ·exact f1 z
   ·exact f2 z
 have IY:Inv (blk X (x::names) sc cl G.objs.size {s with heap:=G} (upd H D (.lst [])) f) [] (sub σ fr none) (upd H D (.lst [])) {s with heap:=t,toks:=s.toks+([]:List (Str×bYM)).length}:=by
  refine⟨c3,rfl,I.bare,Un.kept keep,⟨_,a2,?_⟩,?_,l.hok.fresh (bYT _),λy c e=>l.freeC y c (d y c e),λp hp=>absurd (show p∈([]:List (Nat×Obj))from hp) (by simp),l.hok.kept keep,?_⟩
  ·intro i y v h1 h2 h3;cases i with
   |zero=>cases h2
   |succ j=>
    have c6:names[j]? =some y:=h1;obtain⟨i',e1,e2,e3⟩:=S.from_ j y c6;have c7:σ[i']? =some (some v):=by
     have z:(fr.map λi=>(σ[i]?).join)[j]? =some (some v):=h2;rw[bY7,e1]at z;have P:(σ[i']?).join=some v:=bY6 z;cases q:σ[i']? with
     |none=>rw[q]at P;cases P
     |some o=>rw[q]at P;rw[show o=some v from P]
    obtain⟨m,hn,hl⟩:=l.loc;have b4:Vis X.env.scope y:= .inr (S.free _ e3 rfl);obtain⟨u,ru,lk⟩:=hl i' y v e2 c7 b4;refine⟨u,ru,.inr ⟨?_,?_⟩⟩
    ·exact aJf (S.flk _ e3 rfl)
    ·rcases lk with⟨k,_⟩|⟨k,c,e,z⟩
     ·rcases S.free _ e3 rfl with z|z
      ·have P:X.env.kindOf y=some .cell:=z;rw[k]at P;cases P
      ·have P:X.env.kindOf y=some .free:=z;rw[k]at P;cases P
     ·obtain⟨c',e'⟩:=Z y e3;have:=d y c' e';rw[e]at this;cases this;exact⟨c,e',z.keeps keep⟩
  ·intro y c e;obtain⟨v,z⟩:=l.cell y c (d y c e);exact⟨v,z.keeps keep⟩
  ·show(sub σ fr none).length=(x::names).length;simp[sub,S.len]
 have b0:∀ {o:Option V} {g:Hp} {B:bYP} {pl:List (Nat×Obj)},Inv (blk X (x::names) sc cl G.objs.size {s with heap:=G} (upd H D (.lst [])) f) pl (sub σ fr o) g B->Inv X pins σ g B:=λ{o g B pl} I'=>
  l.call' (ch:=f) I'.os I'.base I'.hok I'.bare λb a=>by obtain⟨f0,f1,f2,f3,f4,f5⟩:=hf b a;exact⟨f3,f1,f4,f5⟩
 have O:∀ {g:Hp},(∀b∈f,g b=none)->∀b∈f,bZ9 (blk X (x::names) sc cl G.objs.size {s with heap:=G} (upd H D (.lst [])) f) [] g b:=λ{g} hn b a=>by
  obtain⟨f0,f1,f2,f3,f4,f5⟩:=hf b a;refine⟨hn b a,b1 b a,λz=>?_,.inl a,λy c e=>f4 y c (d y c e),λp hp=>absurd (show p∈([]:List (Nat×Obj))from hp) (by simp)⟩;rcases bYX.mp (I.stkSub b z)with z|z
  ·exact f1 z
  ·exact f2 z
 have c8:∀b∈f,upd H D (.lst []) b=none:=λb a=>by
  obtain⟨o,e,_⟩:=Y b a;have b6:b≠D:=by rw[<- c4];exact cQd (bY0 e)
  rw[yJ b6];exact(hf b a).1
 have a9:tn 0 t:=T.keep 0 _ _ st λb a o e=>keep b o (kG b o e)
 have a6:cX1 (bYV X.prog X.w) X.A (.compLoop (.ListComp elt [⟨.Name x px,iter,ifs,0⟩] sc pos) 0 (.ref it) (.ref D) (compEnvC sc cl G.objs.size X.env)) (RR (.ref D) G.objs.size) {s with heap:=t,toks:=s.toks+([]:List (Str×bYM)).length}:=by
  refine bXJ (λn B=>∃i F o g,Inv (blk X (x::names) sc cl G.objs.size {s with heap:=G} (upd H D (.lst [])) f) [] (sub σ fr o) g B/\tn i B.heap/\(∀b∈f,g b=none)/\W i n F g) ?_ m0
   ⟨0,[],none,_,IY,a9,c8,w0⟩
  rintro n B ⟨i,F,o,g,I',a8,b3,w'⟩;obtain⟨hD,b5⟩:=turn i n F g w';rcases b5 with⟨a5,qn⟩|⟨go,step⟩
  ·refine thn (T.done (blk X (x::names) sc cl G.objs.size {s with heap:=G} (upd H D (.lst [])) f) rfl rfl rfl hc i [] B _ g (λ_ _=>False) I' (O b3) a8 a5) λr s1 ⟨hr,I1⟩=>?_;subst hr;obtain⟨mC,b8,_⟩:=I1.loc;exact b9 D G.objs.size s1 g (b0 I1) I1.free (cZv l.lt) l.sz a4 (λp hp=>cQd (bY0 (l.pin p hp).1)) ⟨mC,b8⟩ qn
  ·refine thn (T.item (blk X (x::names) sc cl G.objs.size {s with heap:=G} (upd H D (.lst [])) f) rfl rfl rfl hc i [] B _ g (λ_ _=>False) I' (O b3) a8 go) λr s1 ⟨u,hr,h1⟩=>?_;subst hr;refine thn h1 λ_ s2 ⟨v,H2,I2,rv,yl,st2,fr2⟩=>?_;have b7:=I2.pinned (O fr2) (T.obj _ _ st2);have pg:PG (blk X (x::names) sc cl G.objs.size {s with heap:=G} (upd H D (.lst [])) f) (.Name x px) (yX 0):=xE S.nd rfl (.inl (lookup_relabel_local S.var)) (.inr (lookup_relabel_local S.var));have M:∀ {o:Option V} {H3:Hp} {s3:bYP},Inv (blk X (x::names) sc cl G.objs.size {s with heap:=G} (upd H D (.lst [])) f) ([]++aJe f s2.heap) (sub σ fr o) H3 s3->tn (i+1) s3.heap/\∀b∈f,H3 b=none:=λ{o H3 s3} J3=>by
    refine⟨T.keep _ _ _ st2 λb a ob e=>(J3.pin (b,ob) (cQc _ (cQc _ (jN a e)))).1,λb a=>?_⟩;obtain⟨ob,e,_⟩:=T.obj _ _ st2 b a;exact(J3.pin (b,ob) (cQc _ (cQc _ (jN a e)))).2.1
   refine thn (pg _ s2 _ H2 v u (λσ' c5=>σ'=sub σ fr (some v)/\c5=H2) b7 rv ⟨rfl,rfl⟩) λ_ s3 ⟨σ3,H3,I3',e3,e3'⟩=>?_;subst e3;subst e3';refine thn (c2 cl G.objs.size {s with heap:=G} (upd H D (.lst [])) f _ s3 _ _ _ I3' (step v _ yl)) λb s4 ⟨H4,I4,q4⟩=>?_;cases b with
   |false=>have a1:∃U,U<n/\W (i+1) U F H4:=q4;obtain⟨U,R,w4⟩:=a1;obtain⟨z1,z2⟩:=M I4;show ∃m,m<n/\_;exact⟨U,R,i+1,F,some v,H4,I4.unpinned,z1,z2,w4⟩
   |true=>have a1:te (sub σ fr (some v)) H4 λy H5=>F.length<cQb/\H5 D=some (.lst F)/\∃U,U<n/\W (i+1) U (F++ [y]) (upd H5 D (.lst (F++ [y]))):=q4;show bYU _ _ _ _ _ _;refine thn (he cl G.objs.size {s with heap:=G} (upd H D (.lst [])) f _ s4 _ _ _ I4 a1) λue s5 ⟨y,H5,I5,r5,hl,hD5,U,R,w5⟩=>?_;refine thn (xL _ s5 _ H5 (.ref D) [y] (.ref D) [ue] (λ_ H6=>H6=upd H5 D (.lst (F++ [y]))) I5 rfl (.cons r5 .nil) ⟨D,F,y,rfl,rfl,hD5,hl,rfl⟩) λ_ s6 ⟨_,H6,I6,_,e6⟩=>?_;subst e6;obtain⟨z1,z2⟩:=M I6;exact⟨U,R,i+1,F++ [y],some v,_,I6.unpinned,z1,z2,w5⟩
 exact codeAny_compStart_list a6 (T.self _ 0 _ _ _ a9 a6)
theorem aJT{sc:cXZ}{x:Str}{names:List Str}{fr:List Nat}(S:xQ X.N X.env.scope x names fr sc)(I:Inv X pins σ H s): ∃cl,closureFor sc X.env=pure cl/\(∀y c,cl.lookup y=some c->X.env.cells.lookup y=some c)/\(∀y,(y,NameKind.free)∈sc.names->∃c,cl.lookup y=some c):=by
 obtain⟨cl,d,f,_,g⟩:=aJL (env:=X.env) sc.names [] (λy a b=>I.ok.has y.1 (S.free y a b)) (λy c e=>by simp at e);exact⟨cl,d,f,g⟩
end
section
variable {X:Cx}{elt iter:Expr}{x:Str}{px:Pos}{ifs:List Expr}{sc:cXZ}{pos:Pos}{names:List Str}{fr:List Nat}{wi:TI}{tif:TT}{te:TE}
theorem aXq(S:xQ X.N X.env.scope x names fr sc)(P:X.calm=true)(O:PI X (.Name x px) iter wi)(d:∀cl C s H ex,bWw (blk X (x::names) sc cl C s H ex) ifs tif) (z:∀cl C s H ex,PE (blk X (x::names) sc cl C s H ex) elt te) (L:∀v,cVc iter X.env v=pure v:=by intro _;rfl):PE X (.ListComp elt [⟨.Name x px,iter,ifs,0⟩] sc pos) (tLc wi fr tif te):=by
 intro pins s σ H Q I h;obtain⟨cl,l,K,M⟩:=aJT S I;rw[eval_ListComp];refine cVk (use:=none) rfl L l S.kind S.loc (thn (O pins s σ H _ I h) λv W f=>thn f λj Z a=>?_);obtain⟨V,Y,tn,J,R,rfl,u,T,B,G,q⟩:=a;refine bJl (RR:=λg C=>compPost (bYV X.prog X.w) X.A X.xe none (EP X pins σ Q) g C) S P K M d z u T B G q ?_;intro D C F i n f a k p t c E;obtain⟨m,c⟩:=c;exact⟨m,c,λU r=>⟨.ref D,i,n.turned (t':=F.toks) (λb o y e=>(r.2 b y).trans e) f (cQu (cQu a)) (.inr k) p t,rfl,E⟩⟩
theorem aXr{i:Nat}{y:Str}{f c:Pos}(S:xQ X.N X.env.scope x names fr sc)(hc:X.calm=true)(P:X.N.Nodup)(U:X.N[i]? =some y)(hl:X.env.scope.names.lookup y=some .local)(hi:PI X (.Name x px) iter wi)
  (k:∀cl C s H ex,bWw (blk X (x::names) sc cl C s H ex) ifs tif) (W:∀cl C s H ex,PE (blk X (x::names) sc cl C s H ex) elt te)
  (z:swapsWith (.ListComp elt [⟨.Name x px,iter,ifs,0⟩] sc pos) (some (.Name y f)) c.line X.env=pure true:=by rfl) (hs:∀v,cVc iter X.env v=pure v:=by intro _;rfl):
  PS X (.Assign [.Name y f] (.ListComp elt [⟨.Name x px,iter,ifs,0⟩] sc pos) c) (bKL (tLc wi fr tif te) (yX i)):=by
 intro pins s σ H D I h
 obtain⟨cl,K,c2,c4⟩:=aJT S I
 rw[exec_Assign_Name_used _ _ _ _ z]
 refine bYN (cZ9 (bYN ?_))
 show bYU _ X.A (do let _ <- comprehension (.ListComp elt [⟨.Name x px,iter,ifs,0⟩] sc pos) sc X.env _ (newList []) false (eval iter X.env) (some (assign (.Name y f) X.env))) _ _ s
 refine bYN (cQQ (cVk (use:=some (assign (.Name y f) X.env)) (Q:=λ_ d=>SP X pins D .next d) rfl hs K S.kind S.loc (thn (hi pins s σ H _ I h) λv s1 l=>thn l λF s2 g=>?_)) (λ_ d r=>bYQ (bYQ r)) λ_ _ e=>e)
 obtain⟨it,fp,tn,J,H1,rfl,R,T,Y,Z,q⟩:=g
 refine bJl (RR:=λn C=>compPost (bYV X.prog X.w) X.A X.xe (some (assign (.Name y f) X.env)) (λ_ d=>SP X pins D .next d) n C) S hc c2 c4 k W R T Y Z q ?_
 intro L C d E M l g G B O j r
 obtain⟨m,j⟩:=j
 show bYU _ X.A (assign (.Name y f) X.env (.ref L)) _ _ d
 refine wpAny_assign_Name (aXb M P U (.inl hl) (v:= .ref L) rfl (λs'' I'' ⟨a,sb,p⟩=>?_) (.inr hl))
 have u:C≠a:=by
  rcases p with rfl|p
  ·exact g
  ·exact cQu (B y a p)
 exact⟨m,j.sameBut sb u,λh' t=>⟨_,E,I''.turned (t':=s''.toks) (λb o V e=>(t.2 b V).trans e) l g (.inr G) B O,r⟩⟩
end
theorem aXB{K:bYO}{a:Nat}{xs:List V}{fr:List Nat}{tif:TT}{te:TE}{σ:St}{D:Nat}{Q:VK}{H:Hp}(p:V->Bool)(f:V->V)(hl:SqL K H a xs)(s:H D=none)(hz:xs.length<=cQb) (A:∀v∈xs,∀ (c:Hp)(R:Bool->Hp->Prop),(∀b,b≠D->c b=H b)->R (p v) c->tif (sub σ fr (some v)) c R) (u:∀v∈xs,p v=true->∀ (c:Hp)(R:VK),(∀b,b≠D->c b=H b)->R (f v) c->te (sub σ fr (some v)) c R) (z:Q (.ref D) (upd H D (.lst ((xs.filter p).map f)))):bWo (Itl K a) fr tif te σ D Q (upd H D (.lst [])):=by
 have e:∀g,SqL K (upd H D (.lst g)) a xs:=λg=>by
  rcases hl with(h|⟨o,h⟩)|h
  ·exact .inl (.inl (by rw[yJ (yI h s)];exact h))
  ·exact .inl (.inr ⟨o,by rw[yJ (yI h s)];exact h⟩)
  ·exact .inr h
 refine⟨λi m g c=>m=xs.length - i/\i<=xs.length/\g=((xs.take i).filter p).map f/\c=upd H D (.lst g),⟨xs.length,by simp,cQM _,by simp,rfl⟩,?_⟩;rintro i m g c ⟨rfl,E,rfl,rfl⟩;refine⟨yB,?_⟩;by_cases d:i<xs.length
 ·refine .inr ⟨⟨xs,xs[i],e _,bYL d⟩,λv C w=>?_⟩;obtain⟨rfl,y⟩:=w;have r:xs[i]? =some v:=y xs (e _);have k:v∈xs:=bY5 r;have n:xs.take (i+1)=xs.take i++ [v]:=by rw[cQX,r];rfl
  have l:∀b,b≠D->upd H D (.lst (((xs.take i).filter p).map f)) b=H b:=λb t=>yJ t;have j:(((xs.take i).filter p).map f).length<cQb:=by rw[bYR];have x:=cQL p (xs.take i);rw[cXg]at x;omega
  refine A v k _ _ l ?_;cases q:p v with
  |false=>show ∃B,_;refine⟨xs.length - (i+1),by omega,rfl,d,?_,rfl⟩;rw[n,cQZ,cXw (by rw[q];decide)];simp
  |true=>show te _ _ _;refine u v k q _ _ l ⟨j,yB,xs.length - (i+1),by omega,rfl,d,?_,by rw[jE]⟩;rw[n,cQZ,cXx q];simp
 ·obtain rfl:i=xs.length:=by omega
  refine .inl ⟨⟨xs,e _,bYT _⟩,?_⟩;rw[cQT];exact z
end L2
namespace L2
open PySem
theorem lcM{N:List Str}{osc:Scope}{x:Str}{names:List Str}{fr:List Nat}{sc:Scope}(h:decide (sc.kind=.function/\(∀y∈sc.names,y.2≠.cell)/\(∀y∈sc.names,y.2=.local->sc.names.lookup y.1=some .local)/\sc.names.lookup x=some .local/\(∀y∈sc.names,y.2=.free->osc.names.lookup y.1=some .cell\/osc.names.lookup y.1=some .free)/\(∀y∈sc.names,y.2=.free->sc.names.lookup y.1=some .free)/\(x::names).Nodup/\fr.length=names.length/\∀p∈names.zip fr,N[p.2]?=some p.1/\(p.1,NameKind.free)∈sc.names)=true:=by decide +kernel):xQ N osc x names fr sc:=
 have z:=of_decide_eq_true h;⟨z.1,z.2.1,z.2.2.1,z.2.2.2.1,z.2.2.2.2.1,z.2.2.2.2.2.1,z.2.2.2.2.2.2.1,z.2.2.2.2.2.2.2.1,z.2.2.2.2.2.2.2.2⟩
end L2
namespace Stb
open PySem
def bXa(xs:Array Nat):Prop:=∀i j:Nat,i<j->j<xs.size->xs.getD i 0<xs.getD j 0
theorem bJ0{xs:Array Nat}{i:Nat}(h:i<xs.size)(d e:Nat):xs.getD i d=xs.getD i e:=by
 simp[cZk,h]
theorem aJR{xs:Array Nat}{j:Nat}(f:bXa xs):∀ (a c b:Nat),b<=xs.size->c<=b->b - c<=a->
  (∀k,k<c->xs.getD k 0<j)->(∀k,b<=k->k<xs.size->j<=xs.getD k 0)->
  (∀k,k<cZM xs j a c b->xs.getD k 0<j)/\(∀k,cZM xs j a c b<=k->k<xs.size->j<=xs.getD k 0)/\cZM xs j a c b<=xs.size
 |0,c,b,h1,h2,h3,h4,h5=>by
  have e:c=b:=by omega
  subst e;unfold cZM;exact⟨h4,h5,h1⟩
 |a+1,c,b,h1,h2,h3,h4,h5=>by
  unfold cZM;by_cases hl:c<b
  ·rw[if_pos hl];dsimp only;have h:(c+b) / 2<xs.size:=by omega
   have e:=bJ0 h j 0;by_cases i:xs.getD ((c+b) / 2) j<j
   ·rw[if_pos i];refine aJR f a _ _ h1 (by omega) (by omega) (λk l=>?_) h5;by_cases d:k=(c+b) / 2
    ·subst d;omega
    ·have:=f k ((c+b) / 2) (by omega) h;omega
   ·rw[if_neg i];refine aJR f a _ _ (by omega) (by omega) (by omega) h4 (λk l d=>?_);by_cases g:k=(c+b) / 2
    ·subst g;omega
    ·have:=f ((c+b) / 2) k (by omega) d;omega
  ·rw[if_neg hl];have e:c=b:=by omega
   subst e;exact⟨h4,h5,h1⟩
theorem jG{xs:Array Nat}(b:bXa xs)(j:Nat): (∀k,k<cQO xs j->xs.getD k 0<j)/\(∀k,cQO xs j<=k->k<xs.size->j<=xs.getD k 0)/\cQO xs j<=xs.size:=by
 unfold cQO;exact aJR b xs.size 0 xs.size (bYT _) (cQM _) (by omega) (λk a=>absurd a (cXr _)) (λk d c=>by omega)
theorem aWy{xs:Array Nat}(c:bXa xs){i:Nat}(d:i<xs.size):cQO xs (xs.getD i 0+1)=i+1:=by
 obtain⟨f,e,g⟩:=jG c (xs.getD i 0+1);have a:i<cQO xs (xs.getD i 0+1):=by apply Nat.lt_of_not_le;intro h;have:=e i h d;omega
 have b:¬i+1<cQO xs (xs.getD i 0+1):=λh=>by have q:=f (i+1) h;have:=c i (i+1) (by omega) (by omega);omega
 omega
theorem aWz{xs:Array Nat}(b:bXa xs):cQO xs 0=0:=by
 obtain⟨a,d,c⟩:=jG b 0;apply Nat.le_antisymm _ (cQM _);apply Nat.le_of_not_lt;intro h;have:=a 0 h;omega
theorem aXX{α:Type}(xs:Array α)(p:Nat)(x:α)(h:p<=xs.size):(cZN xs p x).size=xs.size+1:=by
 unfold cZN;simp;omega
theorem J2{xs:Array Nat}{p x k:Nat}(h:p<=xs.size):(cZN xs p x).getD k 0=if k<p then xs.getD k 0 else if k=p then x else xs.getD (k - 1) 0:=by
 unfold cZN;have d:(xs.extract 0 p).size=p:=by simp;omega
 have f:((xs.extract 0 p).push x).size=p+1:=by rw[Array.size_push,d]
 simp only[Array.getD_eq_getD_getElem?];by_cases c:k<p
 ·rw[if_pos c,cJ2 (by omega),Array.getElem?_push,if_neg (by omega),cJR (by omega)];have a:k<xs.size:=by omega
  simp[a]
 ·rw[if_neg c];by_cases b:k=p
  ·subst b;rw[if_pos rfl,cJ2 (by omega),Array.getElem?_push,if_pos (by omega)];rfl
  ·rw[if_neg b,Array.getElem?_append_right (by omega),f];by_cases g:k - (p+1)<xs.size - p
   ·rw[cJR (by omega)];have a:k - 1<xs.size:=by omega
    have e:p+(k - (p+1))=k - 1:=by omega
    simp[a,e]
   ·rw[cZJ (by simp;omega),cZJ (by omega)]
theorem aVe{xs:Array Nat}(e:bXa xs){j:Nat}(l:∀k,k<xs.size->xs.getD k 0≠j):bXa (cZN xs (cQO xs j) j):=by
 obtain⟨b1,f,c⟩:=jG e j;intro i k b h;rw[aXX _ _ _ c]at h;rw[J2 c,J2 c];by_cases d:i<cQO xs j
 ·rw[if_pos d];have v:=b1 i d;by_cases g:k<cQO xs j
  ·rw[if_pos g];exact e i k b (by omega)
  ·rw[if_neg g];by_cases a:k=cQO xs j
   ·rw[if_pos a];exact v
   ·rw[if_neg a];have:=f (k - 1) (by omega) (by omega);omega
 ·rw[if_neg d,if_neg (show ¬k<cQO xs j by omega),if_neg (show ¬k=cQO xs j by omega)];by_cases a:i=cQO xs j
  ·rw[if_pos a];have:=f (k - 1) (by omega) (by omega);have:=l (k - 1) (by omega);omega
  ·rw[if_neg a];exact e (i - 1) (k - 1) (by omega) (by omega)
theorem aKj(n:Nat):bXa (Array.range n):=by
 intro i j b a;rw[Array.size_range]at a;simp[cZk,a,Nat.lt_trans b a,b]
theorem aY7{l:List Nat}(h:l.Pairwise (·<·)):bXa l.toArray:=by
 intro i j c d;have a:j<l.length:=by simpa using d
 have b:i<l.length:=Nat.lt_trans c a;have:=cZm.mp h i j b a c;simp[cZk,a,b,this]
structure Tab(b:Bool)(t:cXC):Prop where
 rise:bXa t.place
 dum:t.dummies= #[]
 led:b=true\/t.led=true
theorem aYc(j:Nat):SetTable.has #[] j=false:=by
 unfold SetTable.has;simp
theorem bZQ{b:Bool}{t:cXC}(T:Tab b t){j:Nat}(h:t.slot j= .empty):∀k,k<t.place.size->t.place.getD k 0≠j:=by
 intro k a e;obtain⟨b1,c,l⟩:=jG T.rise j;have f:cQO t.place j=k:=by
  have g:¬k<cQO t.place j:=λh=>by have:=b1 k h;omega
  have i:¬cQO t.place j<k:=λh=>by have:=c _ (bYT _) (by omega);have:=T.rise _ k h a;omega
  omega
 unfold SetTable.slot at h;dsimp only at h;rw[f]at h;have d:t.place[k]? =some j:=by
  rw[cXh a];have:t.place.getD k 0=t.place[k]:=by simp[cZk,a]
  rw[<- this,e]
 rw[d]at h;simp at h
theorem bZP{b:Bool}{t:cXC}(T:Tab b t)(j:Nat):t.slot j≠ .dummy:=by
 unfold SetTable.slot;dsimp only;rw[T.dum,aYc];split<;> simp
theorem aXF{b:Bool}{t:cXC}(T:Tab b t)(f:Nat->Int)(h:Int):∀ (a:Nat)(p:SetTable.Probe),p.dummy=none->∀j d,cVa t f h a p=some (.empty j d)->t.slot j= .empty/\d=none
 |0,p,_,j,d,e=>by unfold cVa at e;cases e
 |a+1,p,hp,j,d,e=>by
  have c:(t.advance p).dummy=none:=by
   unfold SetTable.advance;split
   ·exact hp
   ·exact hp
  unfold cVa at e;cases q:t.slot p.j with
  |empty=>rw[q]at e;simp only[cJ8,SetTable.Met.empty.injEq]at e;obtain⟨rfl,rfl⟩:=e;exact⟨q,hp⟩
  |dummy=>exact absurd q (bZP T _)
  |live i=>
   rw[q]at e;dsimp only at e;split at e
   ·cases e
   ·exact aXF T f h a _ c j d e
theorem uK{b:Bool}{t:cXC}(T:Tab b t)(n:Nat):Tab b (t.standIn n):=⟨aKj n,rfl,T.led⟩
theorem aWP{b:Bool}{t:cXC}(T:Tab b t)(k:Array (Int×bYM))(h:Int)(x:bYM):Tab b (layNew t k h x).2.1:=by
 unfold layNew;cases q:t.freeSlot h with
 |none=>exact uK T _
 |some f=>
  obtain⟨a,m⟩:=f;dsimp only;have g:t.slot a= .empty:=by
   unfold SetTable.freeSlot at q;split at q
   ·rename_i j d e;simp only[cJ8,Prod.mk.injEq]at q;obtain⟨l,i⟩:=aXF T _ h _ _ rfl j d e;rw[<- q.1,i];exact l
   ·cases q
  have c:Tab b (t.put a).1:=by unfold SetTable.put;dsimp only;refine⟨aVe T.rise (bZQ T g),?_,T.led⟩;rw[T.dum,aYc];rfl
  unfold SetTable.orStandIn;split
  ·exact c
  ·exact uK c _
theorem aJg{b:Bool}{t:cXC}(T:Tab b t)(h:Array (Int×bYM))(c:Nat):Tab b (relayAll t h c).2.1:=by
 unfold relayAll;cases q:t.relaid (h.map (·.1)) c with
 |none=>exact uK T _
 |some r=>
  obtain⟨m,g⟩:=r;dsimp only;have n:Tab b m:=by
   unfold SetTable.relaid SetTable.laid at q;simp only[Option.bind_eq_bind,Option.bind_eq_some_iff]at q;obtain⟨d,_,e⟩:=q;simp only[Option.pure_def,cJ8,Prod.mk.injEq]at e;obtain⟨rfl,_⟩:=e;refine⟨aY7 ?_,rfl,T.led⟩;rw[List.map_filterMap];have sub:∀ (f:Nat->Option Nat),(∀j k,f j=some k->k=j)->∀l:List Nat,List.Sublist (l.filterMap f) l:=by
    intro f o l;induction l with
    |nil=>exact List.Sublist.slnil
    |cons a r i=>
     rw[cZz];cases e:f a with
     |none=>exact i.cons a
     |some k=>rw[o a k e];exact i.cons_cons a
   refine List.Pairwise.sublist (sub _ ?_ _) List.pairwise_lt_range;intro j k e;cases q:d.getD j none with
   |none=>rw[q]at e;cases e
   |some z=>rw[q]at e;simpa using e.symm
  split
  ·exact n
  ·exact uK T _
theorem bQ3{b a:Bool}(h:b=true\/a=true):Tab b (.fresh 0 0 a):=⟨λi j d c=>absurd c (cXr _),rfl,h⟩
end Stb
namespace Stb
open PySem
def Ent(b:List Int)(a:List (Int×bYM)):Prop:=cQI (λ(k:Int)(e:Int×bYM)=>e.1=hashInt k/\∃t,e.2=Value.int k t) b a
theorem Ent.mem_l:∀ {c:List Int} {b:List (Int×bYM)},Ent c b->∀k∈c,∃e∈b,∃t,e.2=Value.int k t
 |_,_,.nil,k,a=>by cases a
 |_,_,.cons r t,k,a=>by
  rcases bYX.mp a with rfl|a
  ·exact⟨_,bY4 ..,r.2⟩
  ·obtain⟨e,d,z⟩:=Ent.mem_l t k a;exact⟨e,bYZ _ d,z⟩
theorem Ent.mem_r:∀ {c:List Int} {b:List (Int×bYM)},Ent c b->∀e∈b,∃k∈c,e.1=hashInt k/\∃t,e.2=Value.int k t
 |_,_,.nil,e,a=>by cases a
 |_,_,.cons r t,e,a=>by
  rcases bYX.mp a with rfl|a
  ·exact⟨_,bY4 ..,r⟩
  ·obtain⟨k,d,z⟩:=Ent.mem_r t e a;exact⟨k,bYZ _ d,z⟩
theorem Ent.elems{prog:bY8}{w:cQg}{d:List Int}{a:List (Int×bYM)}(h:Ent d a):ElemsOf (intKind prog w) a:=λe c=>by
 obtain⟨k,_,f,t,b⟩:=h.mem_r e c;refine⟨⟨k,?_,f⟩,?_⟩
 ·rw[b];exact intKind_is prog w k t
 ·rw[b];rfl
theorem Ent.length{b:List Int}{a:List (Int×bYM)}(h:Ent b a):b.length=a.length:=cZg h
theorem Ent.append:∀ {b ls:List Int} {a fs:List (Int×bYM)},Ent b a->Ent ls fs->Ent (b++ls) (a++fs)
 |_,_,_,_,.nil,s=>s
 |_,_,_,_,.cons r t,s=> .cons r (Ent.append t s)
theorem Ent.perm{g fs:List (Int×bYM)}(p:cJX g fs):∀ {a:List Int},Ent a g->∃b,Ent b fs/\b.Perm a:=by
 induction p with
 |nil=>exact λ{a} h=>⟨a,h,.rfl⟩
 |cons x p m=>
  intro a h;cases h with
  |cons r t=>obtain⟨b,f,d⟩:=m t;exact⟨_::b,.cons r f,d.cons _⟩
 |swap x y l=>
  intro a h;cases h with
  |cons r t=>
   cases t with
   |cons o n=>exact⟨_::_::_,.cons o (.cons r n),.swap ..⟩
 |trans p q c e=>intro a h;obtain⟨b,f,d⟩:=c h;obtain⟨k,i,j⟩:=e f;exact⟨k,i,j.trans d⟩
abbrev aJJ(w:cQg):Bool:=w.params.followText "set-order"
def aXi(w:cQg)(h:Heap)(a:Nat)(d:List Int):Prop:=
 ∃o b e t c,h.get? a=some o/\o.ExactSet/\o.data= .set b e t/\Ent c b.toList/\c.Perm d/\d.Nodup/\b.size<cJi/\t.fits b.size=true/\Tab (aJJ w) t
theorem aXi.at{w:cQg}{h h':Heap}{a:Nat}{b:List Int}(x:aXi w h a b)(k:∀o,h.get? a=some o->h'.get? a=some o):aXi w h' a b:=
 let ⟨o,es,ep,t,ls,ho,r⟩:=x;⟨o,es,ep,t,ls,k o ho,r⟩
theorem aXi.there{w:cQg}{h:Heap}{a:Nat}{b:List Int}(x:aXi w h a b):∃o,h.get? a=some o:=
 let ⟨o,es,ep,t,ls,ho,r⟩:=x;⟨o,ho⟩
theorem aXi.type{w:cQg}{s:bYP}{a:Nat}{b:List Int}(x:aXi w s.heap a b):s.TypeIs (.ref a) "set":=
 let ⟨o,es,ep,t,ls,ho,he,r⟩:=x;⟨o,ho,he.1⟩
theorem aY3{h:Heap}{a:Nat}{o:Obj}{e:Array (Int×bYM)}{c:Nat}{t:cXC}(f:h.get? a=some o)(d:o.data= .set e c t)(b:Array (Int×bYM))(t':cXC): (h.update a (Obj.putSet b t')).get? a=some {o with data:= .set b (c+1) t'}:=by
 have q:=cQS (Obj.putSet b t') f (by rw[putSet_of b t' d];rfl);rw[putSet_of b t' d]at q;exact q
section
variable {prog:bY8}{w:cQg}{A:cQv}{E:bYM->bYP->Prop}{s:bYP}
theorem aYb{b:Bool}{Q:Unit->bYP->Prop}(h:Q () s):bYU (bYV prog w) A (match b with|true=>rule "set.scan.the-table-gave-way"|false=>pure ()) Q E s:=by
 cases b
 ·exact bYQ h
 ·exact cJL h
theorem bWA{a:Nat}{p:List Int}{k:Int}{tk:Tok}{Q:Bool->bYP->Prop}(hS:aXi w s.heap a p)(a1:p.length+1<cJi) (h:∀m b,cXP a s.heap m->aXi w m a (if k∈p then p else p++ [k])->Q b {s with heap:=m}): bYU (bYV prog w) A (setAddHashed a (.int k tk) (hashInt k)) Q E s:=by
 obtain⟨o,G,ep,t,ls,P,J,hd,l,hp,W,hb,hf,hT⟩:=hS;have O:=l.elems (prog:=prog) (w:=w);have a7:G.size=p.length:=by rw[<- cQ6,<- l.length,hp.length_eq]
 unfold setAddHashed setAddHashedIn;refine cQ7 (bYN (cZj P hd hf ?_));dsimp only;rw[byScan_of (knd:=intKind prog w) rfl hb O];simp only[↓reduceIte];unfold setAddByScan;refine bYN ?_;refine bYN (cJL ?_);refine bYN (wpAny_setScan_of (knd:=intKind prog w) (k:=k) (intKind_is prog w k tk) P hd hf O ?_);cases hr:List.findIdx? (λe=>(intKind prog w).is k e.2) G.toList with
 |some j=>
  dsimp only;obtain⟨hj,R,_⟩:=List.findIdx?_eq_some_iff_getElem.mp hr;have B:k∈p:=by
   obtain⟨k',a0,_,t',e'⟩:=l.mem_r _ (cX5 hj);rw[e']at R;have:k=k':=by have z:(k'==k)=true:=R;exact(beq_iff_eq.mp z).symm
   rw[this];exact hp.mem_iff.mp a0
  refine bYQ (bYQ ?_);have q:=h s.heap false (Heap.SameBut.refl a s.heap) (by rw[if_pos B];exact⟨o,G,ep,t,ls,P,J,hd,l,hp,W,hb,hf,hT⟩);exact q
 |none=>
  dsimp only;have B:k∉p:=λz=>by obtain⟨e,he,t',e'⟩:=l.mem_l k (hp.mem_iff.mpr z);have q:=List.findIdx?_eq_none_iff.mp hr e he;rw[e',intKind_is]at q;cases q
  rw[if_neg B]at h;have X:(p++ [k]).Nodup:=by rw[cZi];exact⟨W,cXd ..,λx hx y hy=>by rw[bY1.mp hy];rintro rfl;exact B hx⟩
  have d:=layNew_perm t G (hashInt k) (.int k tk);have f:=layNew_fits t G (hashInt k) (.int k tk);have i:=aWP hT G (hashInt k) (.int k tk);generalize hL:layNew t G (hashInt k) (.int k tk)=L at d f i ⊢;obtain⟨c,S,n,a8⟩:=L;dsimp only at d f i ⊢;rw[Array.toList_push]at d;obtain⟨Y,C,a4⟩:=(l.append (ls:= [k]) (fs:= [(hashInt k,.int k tk)]) (.cons ⟨rfl,tk,rfl⟩ .nil)).perm d.symm;have D:Y.Perm (p++ [k]):=a4.trans (hp.append_right [k]);have v:c.size<cJi:=by rw[<- cQ6,d.length_eq,cQa,cQ6];simpa using (by omega:G.size+1<cJi)
  have F:∀g:cXC,g.fits c.size=true->Tab (aJJ w) g->
    bYU (bYV prog w) A (do
     storeSet a c g
     if(!n && g.tooFull)=true then do
       (match(relayAll g c (cZp c.size)).2.2 with|true=>rule "set.scan.the-table-gave-way"|false=>pure ())
       storeSet a (relayAll g c (cZp c.size)).1 (relayAll g c (cZp c.size)).2.1
       pure (some true)
      else pure (some true)) (λr V=>∃m,r=some true/\V= {s with heap:=m}/\cXP a s.heap m/\aXi w m a (p++ [k])) E s:=by
   intro g a5 Z
   refine bYN (wpAny_storeSet_of P hd ?_ (cVb v))
   have H:=cXi s.heap a (Obj.putSet c g)
   have M:=aY3 P hd c g
   split
   ·have u:=relayAll_perm g c (cZp c.size);have K:=relayAll_fits g c (cZp c.size);have I:=aJg Z c (cZp c.size);generalize a9:relayAll g c (cZp c.size)=Rl at u K I ⊢;obtain⟨N,t3,a6⟩:=Rl;dsimp only at u K I ⊢;obtain⟨a2,T,a3⟩:=C.perm u.symm;have U:N.size=c.size:=by rw[<- cQ6,u.length_eq,cQ6]
    refine bYN (aYb ?_);refine bYN (wpAny_storeSet_of M rfl ?_ (cVb (by rw[U];exact v)));refine bYQ ⟨_,rfl,rfl,H.trans (cXi _ a _),_,N,_,t3,a2,aY3 M rfl N t3,J,rfl,T,a3.trans D,X,by rw[U];exact v,K,I⟩
   ·exact bYQ ⟨_,rfl,rfl,H,_,c,_,g,Y,M,J,rfl,C,D,X,v,a5,Z⟩
  have done:∀ (r:Option Bool)(V:bYP),(∃m,r=some true/\V= {s with heap:=m}/\cXP a s.heap m/\aXi w m a (p++ [k]))->
    bYU (bYV prog w) A (match r with|some added=>pure added|none=>setAddHashedIn a (.int k tk) (hashInt k) 99999) Q E V:=by
   rintro r V ⟨m,rfl,rfl,h1,h2⟩
   exact bYQ (h m true h1 h2)
  refine bYN (aYb ?_);split
  ·refine bYN ?_;rw[hashByValue_scannable 8 (show(Value.int k tk).scannable=true from rfl)];refine bYQ ?_;have e:(if plainKind (Value.int k tk)=true then S else {S with plain:=false})=S:=rfl;rw[e];exact cQQ (F S f i) done λ_ _ z=>z
  ·refine bYN (bYQ ?_);simp only[↓reduceIte];exact cQQ (F S f i) done λ_ _ z=>z
end
end Stb
namespace Stb
open PySem
theorem zP:Slot "set_iterator" "__next__" "set_iterator.__next__":=
 .of (owner:="set_iterator") (n:="__next__") (by rw[typeLookup_type,cJy];kernel_rfl) dk dk dk
  (by first|exact .inl dk|exact .inr dk) (by rw[isSubtype_type];kernel_rfl)
theorem jH:entryFor table "set_iterator.__next__"=some cXD.«set_iterator.__next__»:=entryFor_of_tree (by kernel_rfl)
theorem aVY:Manifest.owners.lookup (String.ofList ['r', 'o', 't', 'a', 'r', 'e', 't', 'i', '_', 't', 'e', 's'].reverse)=some Manifest.sig_set_iterator:=by kernel_rfl
theorem qP(a:bYM):argsOk "set_iterator.__next__" ⟨[a],[]⟩:=by
 unfold argsOk;rw[signature?_of (id:="set_iterator.__next__") (n:= ['_', '_', 't', 'x', 'e', 'n', '_', '_']) (o:= ['r', 'o', 't', 'a', 'r', 'e', 't', 'i', '_', 't', 'e', 's']) (by kernel_rfl) aVY];kernel_rfl
theorem aWG:entryFor table "set.__iter__"=some cXD.«frozenset.__iter__»:=
 entryFor_alias (id':="frozenset.__iter__") (by kernel_rfl) rfl dk (by kernel_rfl)
theorem Q5:Slot "set_iterator" "__iter__" "set_iterator.__iter__":=
 .of (owner:="set_iterator") (n:="__iter__") (by rw[typeLookup_type,cJy];kernel_rfl) dk dk dk
  (by first|exact .inl dk|exact .inr dk) (by rw[isSubtype_type];kernel_rfl)
def uS(first:bYM)(i:Nat)(a:Nat)(n b:Nat):Obj:={cls:= .type "set_iterator",data:= .fields #[first,.int i 0,.ref a,.int n 0,.int b 0] }
section
variable {prog:bY8}{w:cQg}{A:cQv}{E:bYM->bYP->Prop}{s:bYP}
theorem bQ1{I:Nat}{Q:Option bYM->bYP->Prop}{h₁:Heap}(h:A.handled=none)(g:cJp I s.heap h₁)(i:∀d,cJp I s.heap d->Q none {s with heap:=d}):
  bYU (bYV prog w) A.in1 (do raiseNew (<- newExc (.type "StopIteration") []):Sem PySem.Fin) (λf c=>∃r,f= .done (.ret r)/\bYU (bYV prog w) A (pure (some r)) Q E c)
   (λe c=>bYU (bYV prog w) A (do if <- cJH e (.type "StopIteration")then pure none else throw e) Q E c) {s with heap:=h₁}:=by
 refine bYN ?_
 simp only[newExc,newTuple]
 refine bYN (cQ3 ?_ (by size_fits))
 refine bYN (m:=firstArgMember _ _) (wpAny_of_eq (a:=Value.none) (by first|rfl|(simp only[firstArgMember];rfl)) ?_)
 refine cQ3 ?_ (by size_fits)
 simp only[raiseNew]
 refine bYN (wpAny_handled ?_)
 rw[show A.in1.handled=none from h]
 refine bYN (bYQ (wpAny_throw ?_))
 refine bYN (wpAny_isInstance (T:="StopIteration") (b:=true) ⟨_,cQh _ rfl,rfl⟩ isSubtype_stop ?_)
 exact bYQ (i _ ((g.push _).push _))
theorem aYz{I a:Nat}{o:Obj}{f:Array (Int×bYM)}{c:Nat}{t:cXC}{b i nx:Nat}{x:bYM}{Q:Option bYM->bYP->Prop} (u:s.heap.get? a=some o) (p:o.data= .set f c t) (q:t.fits f.size=true) (e:s.heap.get? I=some (uS (.int b 0) i a f.size c)) (n:∀ (k:Option (bYM×Nat)->bYP->Prop)(m:bYM->bYP->Prop)(l:cQv),k (some (x,nx)) s->bYU (bYV prog w) l (setNext a b i c) k m s) (r:∀g,g.get? I=some (uS (.int nx 0) (i+1) a f.size c)->cXP I s.heap g->Q (some x) {s with heap:=g}):bYU (bYV prog w) A (pyNext (.ref I)) Q E s:=by
 have j:s.TypeIs (.ref I) "set_iterator":=⟨_,e,rfl⟩;unfold pyNext;refine bYN (cZ7 (cX3 (name:=cZR "__next__") j zP (cXy zP j jH ?_ (qP _))));unfold cXD.«set_iterator.__next__»;refine bYN (bYQ ?_);refine bYN (cJU e rfl ?_);show bYU _ _ (setEntries a >>=_) _ _ s;refine bYN (cZB u p q ?_);rw[if_neg (by simp)];show bYU _ _ (setNext a ((b:Int)).toNat ((i:Int)).toNat ((c:Int)).toNat >>=_) _ _ s;rw[cQl,cQl,cQl];refine bYN (n _ _ _ ?_);show bYU _ _ (setField (.ref I) 0 (cQ5 nx) >>=_) _ _ s;refine bYN (cXS e rfl (by simp) ?_);have d:=cQS (cQ2 (·.setIfInBounds 0 (cQ5 (nx:Int)))) e (cXc (cXf rfl _));refine bYN (cXS d rfl (by simp) (bYQ ⟨x,rfl,bYQ (r _ ?_ ((cXi ..).trans (cXi ..)))⟩));have h:=cQS (cQ2 (·.setIfInBounds 1 (cQ5 ((i:Int)+1)))) d (cXc (cXf rfl _));exact h
end
end Stb
namespace Stb
open PySem
section
variable {prog:bY8}{w:cQg}{A:cQv}{E:bYM->bYP->Prop}{s:bYP}
theorem bXn{I a:Nat}{o:Obj}{e:Array (Int×bYM)}{c:Nat}{t:cXC}{b i:Nat}{Q:Option bYM->bYP->Prop}(p:A.handled=none) (r:s.heap.get? a=some o) (m:o.data= .set e c t) (n:t.fits e.size=true) (d:s.heap.get? I=some (uS (.int b 0) i a e.size c)) (l:∀ (h:Option (bYM×Nat)->bYP->Prop)(k:bYM->bYP->Prop)(j:cQv),h none s->bYU (bYV prog w) j (setNext a b i c) h k s) (q:∀f,cJp I s.heap f->Q none {s with heap:=f}):bYU (bYV prog w) A (pyNext (.ref I)) Q E s:=by
 have g:s.TypeIs (.ref I) "set_iterator":=⟨_,d,rfl⟩;unfold pyNext;refine bYN (cZ7 (cX3 (name:=cZR "__next__") g zP (cXy zP g jH ?_ (qP _))));unfold cXD.«set_iterator.__next__»;refine bYN (bYQ ?_);refine bYN (cJU d rfl ?_);show bYU _ _ (setEntries a >>=_) _ _ s;refine bYN (cZB r m n ?_);rw[if_neg (by simp)];show bYU _ _ (setNext a ((b:Int)).toNat ((i:Int)).toNat ((c:Int)).toNat >>=_) _ _ s;rw[cQl,cQl,cQl];refine bYN (l _ _ _ ?_);show bYU _ _ (setField (.ref I) 2 .none >>=_) _ _ s;refine bYN (cXS d rfl (by simp) ?_);exact bQ1 p (cXi ..).extBut q
theorem bXw{h:Heap}{I:Nat}{f:bYM}{i:Nat}{a:Nat}{n b:Nat}(c:h.get? I=some (uS f i a n b)): (h.update I (cQ2 (·.setIfInBounds 1 (cQ5 ((i:Int)+1))))).get? I=some (uS f (i+1) a n b):=by
 have q:=cQS (cQ2 (·.setIfInBounds 1 (cQ5 ((i:Int)+1)))) c (cXc (cXf (o:=uS f i a n b) rfl _));rw[q];rfl
theorem bXv{h:Heap}{I:Nat}{f:bYM}{i:Nat}{a:Nat}{n b:Nat}(c:h.get? I=some (uS f i a n b)): (h.update I (cQ2 (·.setIfInBounds 0 (cQ5 (0:Int))))).get? I=some (uS (.int 0 0) i a n b):=by
 have q:=cQS (cQ2 (·.setIfInBounds 0 (cQ5 (0:Int)))) c (cXc (cXf (o:=uS f i a n b) rfl _));rw[q];rfl
theorem aWY{I a p:Nat}{o:Obj}{b:Array (Int×bYM)}{g:Nat}{t:cXC}{i j:Nat}{pl:Array bYM}{op:Obj}{c:Nat}{e:Int×bYM}{Q:Option bYM->bYP->Prop} (q:s.heap.get? a=some o) (l:o.data= .set b g t) (n:t.fits b.size=true) (d:s.heap.get? I=some (uS (.ref p) i a b.size g)) (v:s.heap.get? p=some op) (h:op.data= .seq pl c) (r:pl[i]? =some (.int j 0)) (u:b[j]? =some e) (x:∀f,f.get? I=some (uS (.ref p) (i+1) a b.size g)->cXP I s.heap f->Q (some e.2) {s with heap:=f}):bYU (bYV prog w) A (pyNext (.ref I)) Q E s:=by
 have m:s.TypeIs (.ref I) "set_iterator":=⟨_,d,rfl⟩;unfold pyNext;refine bYN (cZ7 (cX3 (name:=cZR "__next__") m zP (cXy zP m jH ?_ (qP _))));unfold cXD.«set_iterator.__next__»;refine bYN (bYQ ?_);refine bYN (cJU d rfl ?_);show bYU _ _ (setEntries a >>=_) _ _ s;refine bYN (cZB q l n ?_);rw[if_neg (by simp)];show bYU _ _ (seqItems? (.ref p) >>=_) _ _ s;refine bYN (wpAny_seqItems v h ?_);dsimp only;simp only[cQl,r];refine bYN ?_;unfold setNextDrawn;refine bYN (cZj q l n ?_);dsimp only;rw[if_neg (by simp)];obtain⟨y,ex⟩:=e;rw[u];refine bYQ ?_;have k:=bXw d;refine bYN (cXS d rfl (by simp) ?_);refine bYQ ⟨ex,rfl,?_⟩;refine bYQ ?_;exact x _ k (cXi s.heap I _)
theorem aK7{I a p:Nat}{o:Obj}{d:Array (Int×bYM)}{h:Nat}{t:cXC}{i:Nat}{pl:Array bYM}{op:Obj}{c:Nat}{Q:Option bYM->bYP->Prop}(r:A.handled=none) (v:s.heap.get? a=some o) (m:o.data= .set d h t) (q:t.fits d.size=true) (b:s.heap.get? I=some (uS (.ref p) i a d.size h)) (n:s.heap.get? p=some op) (e:op.data= .seq pl c) (l:pl[i]? =none) (u:∀g,cJp I s.heap g->Q none {s with heap:=g}):bYU (bYV prog w) A (pyNext (.ref I)) Q E s:=by
 have j:s.TypeIs (.ref I) "set_iterator":=⟨_,b,rfl⟩;unfold pyNext;refine bYN (cZ7 (cX3 (name:=cZR "__next__") j zP (cXy zP j jH ?_ (qP _))));unfold cXD.«set_iterator.__next__»;refine bYN (bYQ ?_);refine bYN (cJU b rfl ?_);show bYU _ _ (setEntries a >>=_) _ _ s;refine bYN (cZB v m q ?_);rw[if_neg (by simp)];show bYU _ _ (seqItems? (.ref p) >>=_) _ _ s;refine bYN (wpAny_seqItems n e ?_);dsimp only;simp only[cQl,l];refine bYN (cXS b rfl (by simp) ?_);have f:=bXv b;refine bYN (cXS f rfl (by simp) ?_);have k:=(cXi s.heap I (cQ2 (·.setIfInBounds 0 (cQ5 (0:Int))))).trans (cXi _ I (cQ2 (·.setIfInBounds 2 Value.none)));exact bQ1 (s:=s) r k.extBut u
theorem X6{α:Type}:∀ {l:List α} {i:Nat} (h:i<l.length),cJX (l[i]::l.eraseIdx i) l
 |x::r,0,_=> .rfl
 |x::r,i+1,h=>by have a:=X6 (l:=r) (i:=i) (by simpa using h);exact(List.Perm.swap ..).trans (a.cons x)
theorem aJd{α:Type}(f:Nat->Nat):∀ (a k:Nat)(left:List α)(out:Array α),left.length=a->cJX (cZV.go f a k left out).toList (out.toList++left)
 |0,k,left,out,h=>by have e:left= []:=List.length_eq_zero_iff.mp h;subst e;unfold cZV.go;rw[cQP]
 |a+1,k,left,out,h=>by unfold cZV.go;have b:f k % left.length<left.length:=Nat.mod_lt _ (by omega);rw[bYL b];dsimp only;refine(aJd f a (k+1) _ _ (by rw[List.length_eraseIdx,if_pos b];omega)).trans ?_;rw[Array.toList_push,cQ8,List.singleton_append];exact(X6 b).append_left _
theorem bZ7{a:Nat}{o:Obj}{b:Array (Int×bYM)}{c:Nat}{t:cXC}{Q:Array (Int×bYM)->bYP->Prop}(g:s.heap.get? a=some o)(f:o.data= .set b c t)(e:t.fits b.size=true) (d:aJJ w=true) (h:Q (cZV (w.params.setOrder a c) b) s):bYU (bYV prog w) A (setWalk a) Q E s:=by
 unfold setWalk setsByText;refine bYN (cZj g f e ?_);dsimp only;refine bYN (bYN (cZy (bYQ ?_)));show bYU (bYV prog w) A (if aJJ w=true then _ else _) Q E s;rw[if_pos d];exact bYN (cZy (bYQ h))
theorem aYA{a:Nat}{o:Obj}{d:Array (Int×bYM)}{c:Nat}{t:cXC}{b i:Nat}{Q:Option (bYM×Nat)->bYP->Prop}(k:s.heap.get? a=some o)(j:o.data= .set d c t) (g:t.fits d.size=true) (f:aJJ w=true) (h:Q (((cZV (w.params.setOrder a c) d)[i]?).map λe=>(e.2,b)) s):bYU (bYV prog w) A (setNext a b i c) Q E s:=by
 unfold setNext setsByText;refine bYN (cZj k j g ?_);dsimp only;refine bYN (bYN (cZy (bYQ ?_)));show bYU (bYV prog w) A (if aJJ w=true then _ else _) Q E s;rw[if_pos f];rw[if_neg (by simp)];exact bYN (bZ7 k j g f (bYQ h))
theorem bXN{a:Nat}{o:Obj}{c:Array (Int×bYM)}{e:Nat}{t:cXC}{b i:Nat}{Q:Option (bYM×Nat)->bYP->Prop}(l:s.heap.get? a=some o)(k:o.data= .set c e t)
  (g:t.fits c.size=true) (f:aJJ w=false) (d:(!t.plain && decide (c.size > 1))=false) (hl:t.led=true)
  (h:Q (match c[cQO t.place b]?,t.place[cQO t.place b]? with|some (_,x),some j=>some (x,j+1)|_,_=>none) s):bYU (bYV prog w) A (setNext a b i e) Q E s:=by
 unfold setNext setsByText
 refine bYN (cZj l k g ?_)
 dsimp only
 refine bYN (bYN (cZy (bYQ ?_)))
 show bYU (bYV prog w) A (if aJJ w=true then _ else _) Q E s
 rw[f,if_neg (by decide)]
 show bYU (bYV prog w) A (if(!t.plain && decide (c.size > 1))=true then _ else _) Q E s
 rw[d,if_neg (by decide)]
 refine bYN ?_
 show bYU (bYV prog w) A (if(!t.led && !c.isEmpty)=true then _ else _) _ E s
 rw[hl]
 simp only[Bool.not_true,Bool.false_and,Bool.false_eq_true,↓reduceIte]
 exact bYQ (bYQ h)
end
end Stb
namespace Stb
open PySem
def aZA(a:List Int)(vs:List bYM):Prop:=cQI (λ(k:Int)(v:bYM)=>∃t,v=Value.int k t) a vs
theorem Ent.vals:∀ {b:List Int} {a:List (Int×bYM)},Ent b a->aZA b (a.map (·.2))
 |_,_,.nil=> .nil
 |_,_,.cons r t=> .cons r.2 (Ent.vals t)
theorem bXI{α:Type}{xs ys:List α}(hl:xs.length=ys.length)(h:∀ (j:Nat)(x:α),xs[j]? =some x->ys[j]? =some x):xs=ys:=by
 apply cXA;intro i;cases e:xs[i]? with
 |some x=>exact(h i x e).symm
 |none=>have:=cVf.mp e;exact(cVf.mpr (by omega)).symm
theorem W8{α β:Type}{f:α->Option β}:∀ {l:List α} (h:∀x∈l,(f x).isSome=true) (i:Nat),(l.filterMap f)[i]? =l[i]?.bind f
 |[],_,i=>by simp
 |x::r,h,i=>by
  obtain⟨y,e⟩:=Option.isSome_iff_exists.mp (h x (bY4 ..));rw[List.filterMap_cons_some e];cases i with
  |zero=>simp[e]
  |succ i=>simpa using W8 (λz a=>h z (bYZ _ a)) i
theorem aXU:entryFor table "set_iterator.__iter__"=some cXD.«dict_keyiterator.__iter__»:=
 entryFor_alias (id':="dict_keyiterator.__iter__") (by kernel_rfl) rfl dk (by kernel_rfl)
theorem aZC(a:bYM):argsOk "set_iterator.__iter__" ⟨[a],[]⟩:=by
 unfold argsOk;rw[signature?_of (id:="set_iterator.__iter__") (n:= ['_', '_', 'r', 'e', 't', 'i', '_', '_']) (o:= ['r', 'o', 't', 'a', 'r', 'e', 't', 'i', '_', 't', 'e', 's']) (by kernel_rfl) aVY];kernel_rfl
section
variable {prog:bY8}{w:cQg}{A:cQv}{E:bYM->bYP->Prop}{s:bYP}
theorem aK6{α:Type}:∀ (n:Nat)(xs:List α)(s:bYP)(Q:List α->bYP->Prop),xs.length=n->(∀c d,cJX c xs->Q c {s with drawn:=d})->bYU (bYV prog w) A (drawOrder n xs) Q E s
 |0,xs,s,Q,hl,h=>by have e:xs= []:=List.length_eq_zero_iff.mp hl;subst e;unfold drawOrder;exact bYQ (h [] s.drawn .rfl)
 |n+1,[],s,Q,hl,h=>by cases hl
 |n+1,x::r,s,Q,hl,h=>by
  unfold drawOrder;have a:w.draws .order (s.drawn.get .order) % (x::r).length<(x::r).length:=Nat.mod_lt _ (Nat.succ_pos _);refine bYN (m:=choose .order (x::r).length) ?_;have g:∀ (b:Nat->bYP->Prop),b (w.draws .order (s.drawn.get .order) % (x::r).length) {s with drawn:=s.drawn.bump .order}->bYU (bYV prog w) A (choose .order (x::r).length) b E s:=by intro b j Γ p hΓ;show Sem.wp _ _ (.choose .order (x::r).length .pure) _ _ _ _;rw[Sem.wp_choose];exact⟨Nat.succ_ne_zero _,j⟩
  refine g _ ?_;generalize k:w.draws .order (s.drawn.get .order) % (x::r).length=i at a ⊢;rw[bYL a];dsimp only;refine bYN (aK6 n _ _ _ (by rw[List.length_eraseIdx,if_pos a];simpa using hl) λc d f=>?_);exact bYQ (h _ _ ((f.cons _).trans (X6 a)))
theorem bQH{I a:Nat}{f:bYM}{i n c:Nat}{Q:bYM->bYP->Prop}(d:s.heap.get? I=some (uS f i a n c))(h:Q (.ref I) s):bYU (bYV prog w) A (pyIter (.ref I)) Q E s:=by
 have b:s.TypeIs (.ref I) "set_iterator":=⟨_,d,rfl⟩;refine wpAny_pyIter_slot b Q5 (cXy Q5 b aXU ?_ (aZC _));show bYU _ _ (ret (.ref I)) _ _ s;exact bYQ ⟨_,rfl,"set_iterator",_,b,zP.lookup,h⟩
theorem aKH{I a:Nat}{o:Obj}{es:Array (Int×bYM)}{ep:Nat}{t:cXC}{vs:List bYM}{g:Nat->Nat}(hd:o.data= .set es ep t)(hf:t.fits es.size=true)(hv:vs.length=es.size)(hne:a≠I)
  (hx:∀ (s:bYP)(i:Nat)(A':cQv)(E':bYM->bYP->Prop)(Q':Option (bYM×Nat)->bYP->Prop),s.heap.get? a=some o->i<=es.size->Q' ((vs[i]?).map λx=>(x,g (i+1))) s->bYU (bYV prog w) A' (setNext a (g i) i ep) Q' E' s)
  (hh:A.handled=none):Walks prog w A I [I,a] [I] es.size (λi v=>vs[i]? =some v) (λi h=>i<=es.size/\h.get? a=some o/\h.get? I=some (uS (.int (g i) 0) i a es.size ep)) where
 sub:=λb hb=>by simp at hb;simp[hb]
 frame:=λi h h' st k=>⟨st.1,k a (by simp) o st.2.1,k I (by simp) _ st.2.2⟩
 item:=λi s Q E hi st hQ=>by
  obtain⟨h1,h2,h3⟩:=st
  have hlt:i<vs.length:=by omega
  refine aYz (nx:=g (i+1)) (x:=vs[i]) h2 hd hf h3 (λQ' E' A' hq=>hx s i A' E' Q' h2 h1 (by rw[bYL hlt];exact hq)) λh' hI' sb=>?_
  exact hQ _ h' s.toks (bYL hlt) ⟨by omega,sb.extBut a o hne h2,hI'⟩ λb ob hb e=>sb.extBut b ob (λz=>hb (by simp[z])) e
 done:=λs Q E st hQ=>by
  obtain⟨h1,h2,h3⟩:=st
  refine bXn hh h2 hd hf h3 (λQ' E' A' hq=>hx s es.size A' E' Q' h2 h1 (by rw[cQk (by omega)];exact hq)) λh' sb=>?_
  exact hQ h' s.toks λb ob hb e=>sb b ob (λz=>hb (by simp[z])) e
 self:=λi s Q E st hQ=>bQH st.2.2 hQ
theorem aVH{I a p:Nat}{o op:Obj}{es:Array (Int×bYM)}{ep c:Nat}{t:cXC}{vs:List bYM}{ys:List Nat}(hd:o.data= .set es ep t)(hf:t.fits es.size=true)(hv:ys.length=es.size)
  (hpd:op.data= .seq (ys.map λ(j:Nat)=>Value.int j 0).toArray c) (hne:a≠I) (hnp:p≠I) (hx:∀ (i j:Nat),ys[i]? =some j->∃e,es[j]? =some e/\vs[i]? =some e.2)
  (hh:A.handled=none):Walks prog w A I [I,a,p] [I] es.size (λi v=>vs[i]? =some v) (λi h=>i<=es.size/\h.get? a=some o/\h.get? p=some op/\h.get? I=some (uS (.ref p) i a es.size ep)) where
 sub:=λb hb=>by simp at hb;simp[hb]
 frame:=λi h h' st k=>⟨st.1,k a (by simp) o st.2.1,k p (by simp) op st.2.2.1,k I (by simp) _ st.2.2.2⟩
 item:=λi s Q E hi st hQ=>by
  obtain⟨h1,h2,h3,h4⟩:=st
  have hlt:i<ys.length:=by omega
  obtain⟨e,he,hve⟩:=hx i ys[i] (bYL hlt)
  refine aWY (j:=ys[i]) (e:=e) h2 hd hf h4 h3 hpd (by simp[hlt]) he λh' hI' sb=>?_
  exact hQ _ h' s.toks hve ⟨by omega,sb.extBut a o hne h2,sb.extBut p op hnp h3,hI'⟩ λb ob hb e=>sb.extBut b ob (λz=>hb (by simp[z])) e
 done:=λs Q E st hQ=>by
  obtain⟨h1,h2,h3,h4⟩:=st
  refine aK7 hh h2 hd hf h4 h3 hpd (by simp[hv]) λh' sb=>?_
  exact hQ h' s.toks λb ob hb e=>sb b ob (λz=>hb (by simp[z])) e
 self:=λi s Q E st hQ=>bQH st.2.2.2 hQ
theorem bJ5{a:Nat}{S:List Int}{Q:bYM->bYP->Prop}(hS:aXi w s.heap a S) (h:∀ (I:Nat)(h':Heap)(d:Drawn)(fp:List Nat)(St:Nat->Heap->Prop)(vs:List bYM)(ls:List Int),s.heap.objs.size<=I->(∀b∈fp,b=a\/s.heap.objs.size<=b)->(∀b∈fp,b<h'.objs.size)->aZA ls vs->ls.Perm S-> (∀ (A:cQv),A.handled=none->Walks prog w A I fp [I] S.length (λi v=>vs[i]? =some v) St)->St 0 h'->(∀b o,s.heap.get? b=some o->h'.get? b=some o)-> Q (.ref I) {s with heap:=h',drawn:=d}):bYU (bYV prog w) A (pyIter (.ref a)) Q E s:=by
 have hT:=hS.type;obtain⟨o,f,G,t,ls,M,a7,K,q,Y,a8,l,D,N⟩:=hS;have J:f.size=S.length:=by rw[<- cQ6,<- q.length,Y.length_eq]
 have r:a<s.heap.objs.size:=bY0 M;refine wpAny_pyIter_slot hT F.slot_set_iter (cXy F.slot_set_iter hT aWG ?_ (F.args_set_iter_1 _));unfold cXD.«frozenset.__iter__» Builtin.Frozenset.slot0 slotArgs;simp only[List.isEmpty_nil,Bool.not_true,Bool.false_eq_true,↓reduceIte,bind_assoc,cXU,bne_self_eq_false];unfold Builtin.Frozenset.addrOf Builtin.Frozenset.sizeOf;refine bYN (bYQ ?_);try dsimp only
 refine bYN (bYQ ?_);refine bYN (bYN (cZB M K D (bYQ ?_)));refine bYN ?_;unfold setDrawn setsByText;refine bYN (cZj M K D ?_);dsimp only;refine bYN (bYN (cZy (bYQ ?_)));refine bYQ ?_;refine cJK (λc=>?_) (λc=>?_)
 ·refine bYN (aK6 f.size (bYW f.size) s _ cQG λB d R=>?_);have U:B.length=f.size:=by rw[R.length_eq,cQG]
  have T:∀j∈B,j<f.size:=λj W=>cQi.mp (R.mem_iff.mp W);refine bYN (wpAny_newTuple ?_ (by rw[bYR,U];exact cVb l));have a1:=bYS {cls:= .type "tuple",data:= .seq (B.map λ(i:Nat)=>cQ5 (i:Int)).toArray} M;refine bYN (wpAny_setEpoch_of a1 K D ?_);refine bYN (cQ3 (bYQ ⟨_,rfl,"set_iterator",_,⟨_,cQh _ rfl,rfl⟩,zP.lookup,?_⟩));have O:cJX (B.filterMap λj=>f[j]?) f.toList:=(R.filterMap _).trans (by rw[filterMap_getElem?_range]);obtain⟨k,n,m⟩:=q.perm O.symm;have a6:∀ (i j:Nat),B[i]? =some j->∃e,f[j]? =some e/\((B.filterMap λj=>f[j]?).map (·.2))[i]? =some e.2:=λi j e=>by have W:j<f.size:=T j (bY5 e);refine⟨f[j],cXh W,?_⟩;rw[bY7,W8 (λx hx=>by rw[cXh (T x hx)];rfl),e,Option.bind_some,cXh W];rfl
  have fin:∀ (C:Heap)(X:Obj),X.data= .seq (B.map λ(i:Nat)=>Value.int i 0).toArray 0->C.objs.size=s.heap.objs.size+1->C.get? s.heap.objs.size=some X->(∀b o,s.heap.get? b=some o->C.get? b=some o)->
    Q (.ref C.objs.size) {s with heap:=C.push (uS (.ref s.heap.objs.size) 0 a f.size G),drawn:=d}:=by
   intro C X a4 u a5 hk
   refine h C.objs.size _ d [C.objs.size,a,s.heap.objs.size] (λi h=>i<=f.size/\h.get? a=some o/\h.get? s.heap.objs.size=some X/\h.get? C.objs.size=some (uS (.ref s.heap.objs.size) i a f.size G)) _ k ?_ ?_ ?_ n.vals (m.trans Y)
    (λA hh=>by rw[<- J];exact aVH (o:=o) (ys:=B) (c:=0) K D U a4 (cQd (by rw[u];exact cQY r)) (cQd (by rw[u];exact cQ9 _)) a6 hh) ⟨cQM _,bYS _ (hk _ _ M),bYS _ a5,cQh _ rfl⟩ λb ob e=>bYS _ (hk _ _ e)
   ·omega
   ·intro b l;simp only[bYX,cZs,or_false]at l;rcases l with rfl|rfl|rfl
    ·right;omega
    ·left;rfl
    ·right;exact bYT _
   ·intro b l;rw[cXo];simp only[bYX,cZs,or_false]at l;rcases l with rfl|rfl|rfl
    ·exact cQ9 _
    ·rw[u];exact cQY (cQY r)
    ·rw[u];exact cQY (cQ9 _)
  exact fin _ _ rfl (cXo ..) (cQh _ rfl) λb ob e=>bYS _ e
 ·refine bYN (bYQ ?_);refine bYN (wpAny_setEpoch_of M K D ?_);refine bYN (cQ3 (bYQ ⟨_,rfl,"set_iterator",_,⟨_,cQh _ rfl,rfl⟩,zP.lookup,?_⟩));have fin:∀ (vs:List bYM)(g:Nat->Nat)(k:List Int),g 0=0->vs.length=f.size->aZA k vs->k.Perm S->
    (∀ (s:bYP)(i:Nat)(A':cQv)(E':bYM->bYP->Prop)(Z:Option (bYM×Nat)->bYP->Prop),s.heap.get? a=some o->i<=f.size->Z ((vs[i]?).map λx=>(x,g (i+1))) s->bYU (bYV prog w) A' (setNext a (g i) i G) Z E' s)->
    Q (.ref s.heap.objs.size) {s with heap:=s.heap.push {cls:= .type "set_iterator",dict:=none,data:= .fields [cQ5 0,cQ5 0,Value.ref a,cQ5 (f.size:Int),cQ5 (G:Int)].toArray} }:=by
   intro vs g k g0 a2 hv m hx
   refine h s.heap.objs.size _ s.drawn [s.heap.objs.size,a] (λi h=>i<=f.size/\h.get? a=some o/\h.get? s.heap.objs.size=some (uS (.int (g i) 0) i a f.size G)) vs k (bYT _) ?_ ?_ hv m
    (λA hh=>by rw[<- J];exact aKH (o:=o) (g:=g) K D a2 (cQd r) hx hh) ⟨cQM _,bYS _ M,?_⟩ λb ob e=>bYS _ e
   ·intro b l;simp only[bYX,cZs,or_false]at l;rcases l with rfl|rfl
    ·right;exact bYT _
    ·left;rfl
   ·intro b l;rw[cXo];simp only[bYX,cZs,or_false]at l;rcases l with rfl|rfl
    ·exact cQ9 _
    ·exact cQY r
   ·rw[g0];exact cQh _ rfl
  cases y:aJJ w with
  |true=>
   have pp:cJX (cZV (w.params.setOrder a G) f).toList f.toList:=by have:=aJd (w.params.setOrder a G) f.size 0 f.toList #[] (by simp);simpa[cZV]using this
   obtain⟨k,n,m⟩:=q.perm pp.symm;refine fin ((cZV (w.params.setOrder a G) f).toList.map (·.2)) (λ_=>0) k rfl (by rw[bYR,pp.length_eq];simp) n.vals (m.trans Y) λs i A' E' Z P hi p=>?_;refine aYA P K D y ?_;rw[bY7,cXn]at p;cases e:(cZV (w.params.setOrder a G) f)[i]? with
   |none=>rw[e]at p;exact p
   |some z=>rw[e]at p;exact p
  |false=>
   have a0:(!t.plain && decide (f.size > 1))=false:=by have c':¬ ((!aJJ w && (!t.plain && decide (f.size > 1)))=true):=c;rw[y]at c';simpa using c'
   have V:t.led=true:=N.led.resolve_left (by rw[y];decide);have a9:t.place.size=f.size:=by have:=D;simp only[SetTable.fits,Bool.and_eq_true,beq_iff_eq]at this;exact this.1
   refine fin (f.toList.map (·.2)) (λi=>if i=0 then 0 else t.place.getD (i - 1) 0+1) ls (by simp) (by simp) q.vals Y λs i A' E' Z P hi p=>?_;refine bXN P K D y a0 V ?_;have a3:cQO t.place (if i=0 then 0 else t.place.getD (i - 1) 0+1)=i:=by
    by_cases h0:i=0
    ·rw[if_pos h0,aWz N.rise,h0]
    ·rw[if_neg h0,aWy N.rise (by omega)];omega
   rw[a3];by_cases H:i<f.size
   ·have L:i<t.place.size:=by omega
    rw[cXh H,cXh L];rw[bY7,cXn,cXh H]at p;have e1:t.place.getD i 0=t.place[i]:=by simp[cZk,L]
    simpa[e1]using p
   ·rw[cZJ (by omega)];rw[bY7,cXn,cZJ (by omega)]at p;exact p
end
end Stb
namespace Stb
open PySem PyProof.Rows
section
variable {prog:bY8}{w:cQg}{A:cQv}{E:bYM->bYP->Prop}{s:bYP}
theorem bJ3{r:Nat}{Q:Bool->bYP->Prop}(c:s.TypeIs (.ref r) "set")(h:Q false s):bYU (bYV prog w) A (cJV (.ref r)) Q E s:=by
 unfold cJV;refine bYN (wpAny_specialOf c PySem.F.slot_set_len.lookup ?_);generalize a:("set.__len__":String)=q;wp_delta;rw[show splitId q=some ("set","__len__")from by subst a;decide+kernel];subst a;refine bYN (wpAny_isInstance (T:="set") (b:=true) c sub_set_self ?_);refine cJK (λz=>absurd z (by decide)) (λ_=>?_);refine cJK (λ_=>?_) (λz=>absurd dk z);exact bYN (wpAny_typeOf c (bYQ h))
theorem aWC{a:Nat}{p:List Int}{R:List bYM->bYP->Prop}(hh:A.handled=none)(Z:aXi w s.heap a p)(hn:p.length<=cQb) (h:∀ (h':Heap)(tk:Nat)(d:Drawn)(vs:List bYM)(ls:List Int),s.heap.objs.size<h'.objs.size->(∀b o,s.heap.get? b=some o->h'.get? b=some o)->aZA ls vs->ls.Perm p->R vs {s with heap:=h',toks:=tk,drawn:=d}): bYU (bYV prog w) A (collect (.ref a)) R E s:=by
 have hT:=Z.type;obtain⟨oa,a3⟩:=Z.there;have J:a<s.heap.objs.size:=bY0 a3;unfold collect;refine bYN (wpAny_runValue (cX0 entry_proto_collect' ?_));rw[cXJ PySem.F.plain_proto_collect _];show bYU _ A.in1 (newList [] >>=λl=>again (.builtin "list.__iadd__" ⟨[l,.ref a],[]⟩)) _ _ s;refine bYN (cQ3 ?_);refine bYQ ⟨cZ6 PySem.F.plain_list_iadd _,cX0 entry_list_iadd' ?_⟩;rw[cXJ PySem.F.plain_list_iadd _];have hL:(s.heap.push {cls:= .type "list",data:= .seq ([]:List bYM).toArray}).get? s.heap.objs.size=some {cls:= .type "list",data:= .seq #[] }:=cQh _ rfl;have t:aXi w (s.heap.push {cls:= .type "list",data:= .seq ([]:List bYM).toArray}) a p:=Z.at λo e=>bYS _ e;have g:(s.heap.push {cls:= .type "list",data:= .seq ([]:List bYM).toArray}).objs.size=s.heap.objs.size+1:=cXo ..;generalize a1:s.heap.push {cls:= .type "list",data:= .seq ([]:List bYM).toArray}=H1 at hL t g ⊢;have a4:∀b o,s.heap.get? b=some o->H1.get? b=some o:=λb o e=>by rw[<- a1];exact bYS _ e
 show bYU _ A.in1 (cZS (.ref s.heap.objs.size) (.ref a) (.ref s.heap.objs.size)) _ _ {s with heap:=H1};have P:Shared.TypeIs {s with heap:=H1} (.ref a) "set":=t.type (s:={s with heap:=H1});unfold cZS;refine bYN (wpAny_typeOf (T:="set") P ?_);have q1:cVi (.ref s.heap.objs.size) (.ref a)=false:=by simp[cVi,cZv J]
 have q2:(Value.type "set"==Value.type "list")=false:=by decide
 have q3:(Value.type "set"==Value.type "tuple")=false:=by decide
 simp only[q1,q2,q3,Bool.or_false,Bool.false_eq_true,if_false];refine bYN (bJ5 (s:={s with heap:=H1}) t ?_);intro I h2 d fp St vs ls hI a6 b0 hv hp W O u;have L:s.heap.objs.size∉fp:=λz=>by
  rcases a6 _ z with e|e
  ·exact cZv J e
  ·have e':H1.objs.size<=s.heap.objs.size:=e;rw[g]at e';exact absurd e' (Nat.not_succ_le_self _)
 have y:=u _ _ hL;have C:∀ (G:Heap)(c:Nat),St 0 G->(∀b o,b≠s.heap.objs.size->h2.get? b=some o->G.get? b=some o)->G.get? s.heap.objs.size=some {cls:= .type "list",data:= .seq #[] c}->
   cX1 (bYV prog w) A (.builtin "list.extend.loop" ⟨[.ref s.heap.objs.size,.ref I,.ref s.heap.objs.size],[]⟩)
    (λq k=>∃ (h':Heap)(tk:Nat)(f:Array bYM)(B:Nat),q= .ok (.ret (.ref s.heap.objs.size))/\k= {s with heap:=h',toks:=tk,drawn:=d}/\
     (∀b o,s.heap.get? b=some o->h'.get? b=some o)/\h'.get? s.heap.objs.size=some {cls:= .type "list",dict:=none,data:= .seq f B,slots:= #[] }/\ItemsOf (λi v=>vs[i]? =some v) f p.length) {s with heap:=G,drawn:=d}:=by
  intro G c D a8 m
  refine codeAny_extend_loopS (W A.in1 hh).toS hn s.heap.objs.size L (.ref s.heap.objs.size) p.length 0 _ #[] c rfl (cQM _) D m (ItemsOf.nil _) λk M B S a9 Q=>?_
  obtain⟨Y,g',d',a0,X⟩:=k
  have eg:g'=s.gens:=S.gens
  have ed:d'=d:=S.drawn
  have eo:X=s.os:=S.os
  subst eg ed eo
  refine⟨Y,a0,M,B,rfl,rfl,λb o e=>?_,a9,Q⟩
  have r:b<s.heap.objs.size:=bY0 e
  refine S.heap b o (λz=>?_) (a8 b o (cQd r) (u b o (a4 b o e)))
  rcases bYX.mp z with z|z
  ·exact cQd r z
  ·have z':b=I:=bY1.mp z;have H:H1.objs.size<=I:=hI;rw[g,<- z']at H;exact absurd (cQf r (Nat.le_of_succ_le H)) (cQ0 _)
 have n:∀ (q:Result)(k:bYP),(∃ (h':Heap)(tk:Nat)(f:Array bYM)(B:Nat),q= .ok (.ret (.ref s.heap.objs.size))/\k= {s with heap:=h',toks:=tk,drawn:=d}/\ (∀b o,s.heap.get? b=some o->h'.get? b=some o)/\h'.get? s.heap.objs.size=some {cls:= .type "list",dict:=none,data:= .seq f B,slots:= #[] }/\ItemsOf (λi v=>vs[i]? =some v) f p.length)->
   ∃tk h',q= .ok (.ret (.ref s.heap.objs.size))/\k= {s with heap:=h',toks:=tk,drawn:=d}/\bYU (bYV prog w) A (do
    let o <- load s.heap.objs.size
    match o.data with
    |.seq xs _=>pure xs.toList
    |_=>unsupported "internal:collect") R E {s with heap:=h',toks:=tk,drawn:=d}:=by
  rintro q k ⟨h',tk,f,B,rfl,rfl,hk,hg,N⟩
  refine⟨tk,h',rfl,rfl,bYN (wpAny_load hg (bYQ ?_))⟩
  have U:vs.length=p.length:=by rw[<- cZg hv,hp.length_eq]
  have e:f.toList=vs:=bXI (by rw[cQ6,N.1,U]) λj x hx=>N.2 j x (by rw[<- cXn];exact hx)
  show R f.toList _
  rw[e]
  exact h h' tk d vs ls (bY0 hg) hk hv hp
 have a5:Shared.TypeIs {s with heap:=h2,drawn:=d} (.ref a) "set":=by obtain⟨o',a2,V⟩:=P;exact⟨o',u _ _ a2,V⟩
 refine bYN (cQ7 (bJ3 a5 ?_));refine cJK (λ_=>?_) (λ_=>?_)
 ·refine bYN (cJL ?_);refine bYN ?_;show bYU _ _ (updateSeq s.heap.objs.size (·.push .none) >>=λ_=>updateSeq s.heap.objs.size (·.pop)) _ _ _;refine bYN (wpAny_updateSeq y rfl ?_);have m:=cQS (cQH (·.push Value.none)) y rfl;refine wpAny_updateSeq (hz:=by seq_fits) m rfl ?_;have a7:=cQS (cQH (·.pop)) m rfl;refine bYQ ⟨cZ6 cVh _,cXH (C _ _ ?_ (λb o r e=>?_) a7) λq k z=>?_⟩
  ·refine(W A.in1 hh).frame 0 _ _ O λb r o e=>?_;have K:b≠s.heap.objs.size:=λz=>L (z ▸ r);exact(cQq _ _ (cQu K)).trans ((cQq _ _ (cQu K)).trans e)
  ·exact(cQq _ _ (cQu r)).trans ((cQq _ _ (cQu r)).trans e)
  ·obtain⟨tk,h',rfl,rfl,zz⟩:=n q k z;exact zz
 ·refine bYQ ⟨cZ6 cVh _,cXH (C _ _ O (λb o _ e=>e) y) λq k z=>?_⟩;obtain⟨tk,h',rfl,rfl,zz⟩:=n q k z;exact zz
theorem J7:∀ {a:List Int} {vs:List bYM},aZA a vs->cZn vs a
 |_,_,.nil=> .nil
 |_,_,.cons ⟨t,e⟩ r=>by subst e;exact .cons _ t (J7 r)
theorem aKD{a:Nat}{f:List Int}{Q:bYM->bYP->Prop}(F:A.handled=none)(C:aXi w s.heap a f)(y:f.length<64) (h:∀ (l:Nat)(h':Heap)(tk:Nat)(d:Drawn)(out:List bYM)(i:List Int)(n:Nat),s.heap.objs.size<=l->(∀b o,s.heap.get? b=some o->h'.get? b=some o)->h'.get? l=some {cls:= .type "list",data:= .seq out.toArray n}-> cZn out i->i.Perm f->i.Pairwise (·<=·)->Q (.ref l) {s with heap:=h',toks:=tk,drawn:=d}):bYU (bYV prog w) A (call (.builtin "sorted") [.ref a]) Q E s:=by
 refine cJe kind_sorted plain_sorted entry_sorted (args_sorted1 _) ?_;unfold cXD.«sorted»;refine bYN (m:=checkCount "sorted" 1 1 _) (bYQ ?_);refine bYN (aWC (A:=A.in1) F C (by rw[cQe];omega) λq tk d p G j x u t=>?_);have v:=J7 u;have r:p.length=f.length:=by rw[<- cZg u,t.length_eq]
 refine bYN (cZ8 ?_ (by rw[r,cQe];omega));have c:(q.push {cls:= .type "list",data:= .seq p.toArray}).get? q.objs.size=some (cQB "list" p.toArray 0):=cQh _ rfl;refine bYN (cQ7 (cXy slot_list_sort ⟨_,c,rfl⟩ entry_list_sort (list_sort_tree c v (by omega) λout g z D B=>⟨_,rfl,?_⟩) (args_list_sort _)));obtain⟨n,e⟩:=sortedHeap_at (out:=out) c;refine bYQ ⟨_,rfl,h q.objs.size _ tk d out.toList g n (cZu j) (λb o e=>?_) (by simpa using e) z (D.trans t) B⟩;have k:=x b o e;rw[sortedHeap_old (cQd (bY0 k)) (by rw[cXo];exact cQY (bY0 k))];exact bYS _ k
end
end Stb
namespace Stb
open PySem PyProof.Rows
def met(val:Nat->Int):Nat->List Int
 |0=> []
 |i+1=>if val i∈met val i then met val i else met val i++ [val i]
theorem aJU(val:Nat->Int):∀i,(met val i).length<=i
 |0=>bYT _
 |i+1=>by
  have a:=aJU val i;unfold met;split
  ·omega
  ·rw[cQa,cQU];omega
theorem aYw(val:Nat->Int)(d:Int):∀i,d∈met val i↔∃j,j<i/\val j=d
 |0=>by simp[met]
 |i+1=>by
  have c:=aYw val d i;have step:d∈met val (i+1)↔d∈met val i\/d=val i:=by
   show d∈(if val i∈met val i then met val i else met val i++ [val i])↔_;split
   ·rename_i a;constructor
    ·exact .inl
    ·rintro(z|rfl)
     ·exact z
     ·exact a
   ·simp
  rw[step,c];constructor
  ·rintro(⟨j,b,e⟩|rfl)
   ·exact⟨j,by omega,e⟩
   ·exact⟨i,by omega,rfl⟩
  ·rintro⟨j,b,e⟩;by_cases h:j=i
   ·subst h;exact .inr e.symm
   ·exact .inl ⟨j,by omega,e⟩
section
variable {prog:bY8}{w:cQg}{A:cQv}
theorem bJY{R:Result->bYP->Prop}{I:Nat}{K G:List Nat}{n:Nat}{P:Nat->bYM->Prop}{St:Nat->Heap->Prop}(W:Walks prog w A.in1 I K G n P St)(S:Nat)(x:S∉K) (val:Nat->Int) (u:∀i v,P i v->∃t,v= .int (val i) t) (a:n+1<cJi): ∀ (k i:Nat)(s:bYP),n - i=k->i<=n->St i s.heap->aXi w s.heap S (met val i)-> (∀j tk,(∀b o,b∉S::G->s.heap.get? b=some o->j.get? b=some o)->aXi w j S (met val n)->R (.ok (.ret .none)) {s with heap:=j,toks:=tk})-> cX1 (bYV prog w) A (.builtin "set.update.loop" ⟨[.ref S,.ref I],[]⟩) R s:=by
 have g:S∉G:=λh=>x (W.sub _ h);intro k;induction k with
 |zero=>
  intro i s M Q c C hR;obtain rfl:i=n:=by omega
  refine cX0 cJf ?_;rw[cXJ cZb _];refine bYN (m:=pyNext (.ref I)) (W.done s _ _ c λj tk f=>?_);exact bYQ (hR j tk (λb o a e=>f b o (λz=>a (bYZ _ z)) e) (C.at λo e=>f S o g e))
 |succ k O=>
  intro i s M Q c C hR;have p:i<n:=by omega
  refine cX0 cJf ?_;rw[cXJ cZb _];refine bYN (m:=pyNext (.ref I)) (W.item i s _ _ p c λv B r N l q=>?_);obtain⟨t,rfl⟩:=u i v N;show bYU _ A.in1 (cJa [Value.int (val i) t] (setAdd S (.int (val i) t)) >>=_) _ _ {s with heap:=B,toks:=r};refine bYN (cQ7 ?_);unfold setAdd;refine cQ7 ?_;refine bYN ((intKind prog w).pyHash (k:=val i) (intKind_is _ _ _ _) ?_);have d:(met val i).length+1<cJi:=by have:=aJU val i;omega
  refine bWA (s:={s with heap:=B,toks:=r+1}) (C.at λo e=>q S o g e) d λT b J H=>?_;refine bYQ ⟨cZ6 cZb _,O (i+1) _ (by omega) p (W.frame _ B _ l λb a o e=>?_) H λL D E y=>?_⟩
  ·exact J.extBut b o (λz=>x (z ▸ a)) e
  ·refine hR L D (λb o a e=>E b o a (J.extBut b o (λz=>a (by rw[z];exact bY4)) (q b o (λz=>a (bYZ _ z)) e))) y
variable {E:bYM->bYP->Prop}{s:bYP}
theorem bWS(a:bYM){Q₁:bYM->bYP->Prop} (h:Q₁ (.ref s.heap.objs.size) {s with heap:=s.heap.push {cls:= .type "set",dict:=none,data:= .set #[] 0 (.fresh 0 0 (!aJJ w)) } }): cX1 (bYV prog w) A (.call (.builtin "set.__new__") ⟨[.type "set",a],[]⟩) (wants Q₁ E) s:=by
 refine codeAny_of_tree ?_;show bYU _ A.in1 (do checkBuiltinCall "set.__new__" ⟨[.type "set",a],[]⟩;again (.builtin "set.__new__" ⟨[.type "set",a],[]⟩)) _ _ s;refine bYN (wpAny_of_eq (PySem.F.newCall_set_1 a) (bYQ ⟨cZ6 PySem.F.plain_set_new _,cX0 PySem.F.entry_set_new ?_⟩));rw[cXJ PySem.F.plain_set_new _];unfold cXD.«set.__new__» Builtin.Frozenset.newClass;have b:=sub_set_self;obtain⟨c,g,d,tk,e⟩:=s;dsimp only;wp_walk;refine cZy (bYQ ?_);dsimp only;simp only[newObj];refine bYN (wpAny_alloc (bYQ ?_));exact bYQ h
set_option maxHeartbeats 3200000 in
theorem zY{l:Nat}{items:Array bYM}{B:List Int}{Q:bYM->bYP->Prop}(hh:A.handled=none)(hl:s.heap.IsList l items)(hi:cZn items.toList B)(G:items.size+1<cJi) (h:∀ (h':Heap)(tk:Nat),aXi w h' s.heap.objs.size (met (λi=>B.getD i 0) items.size)->(∀b o,s.heap.get? b=some o->h'.get? b=some o)->Q (.ref s.heap.objs.size) {s with heap:=h',toks:=tk}): bYU (bYV prog w) A (call (.type "set") [.ref l]) Q E s:=by
 obtain⟨c,tl,a0⟩:=cXG.mro;have U:=cXG.made;have a3:=cXG.sub;refine cZ2 (codeAny_of_tree ?_);show bYU _ _ (callAny (.type "set") _) _ _ _;refine bYQ ⟨cJW _ dk,cX0 PySem.F.entry_type_call ?_⟩;rw[Around.under_plain (weight_type_call_type "set" [.ref l] []) rfl];have h1:=cXG.notType;have h2:=cXG.canCreate;have a5:=PySem.F.typeCall_set_1 (.ref l);repeat (any_goals (first|assumption|wp_step))
 refine cXH (bWS (.ref l) (E:=E) (Q₁:=λP j=>P= .ref s.heap.objs.size/\j= {s with heap:=s.heap.push {cls:= .type "set",dict:=none,data:= .set #[] 0 (.fresh 0 0 (!aJJ w)) } }) ⟨rfl,rfl⟩) λr j T=>?_;cases r with
 |error e=>exact T
 |ok fl=>
  cases fl with
  |ret P=>
   obtain⟨rfl,rfl⟩:=T;generalize q:({cls:= .type "set",dict:=none,data:= .set #[] 0 (.fresh 0 0 (!aJJ w)) }:Obj)=O;have Y:(s.heap.push O).get? s.heap.objs.size=some O:=cQh _ (by rw[<- q];rfl);have hT:Shared.TypeIs {s with heap:=s.heap.push O} (.ref s.heap.objs.size) "set":=⟨_,Y,by rw[<- q]⟩;have L:aXi w (s.heap.push O) s.heap.objs.size []:=by
    refine⟨O, #[],0,.fresh 0 0 (!aJJ w),[],Y,?_,?_,.nil,.rfl,List.nodup_nil,by decide,rfl,bQ3 ?_⟩
    ·rw[<- q];exact⟨rfl,rfl,rfl⟩
    ·rw[<- q]
    ·cases aJJ w<;> simp
   have f:(s.heap.push O).objs.size=s.heap.objs.size+1:=cXo ..;have k:∀b o,s.heap.get? b=some o->(s.heap.push O).get? b=some o:=λb o e=>bYS _ e;generalize hH:s.heap.push O=H at Y hT L f k ⊢;have a6:=cXG.init.lookup;have a7:=cXG.init.bind (.ref s.heap.objs.size);repeat (any_goals (first|assumption|wp_step))
   refine cXH (cJG (R:=wants (λr g=>r= .none/\∃h' tk,g= {s with heap:=h',toks:=tk}/\aXi w h' s.heap.objs.size (met (λi=>B.getD i 0) items.size)/\
     (∀b o,s.heap.get? b=some o->h'.get? b=some o)) E) cXG.init.plain PySem.F.entry_set_init (check_set_init_1 hT ?_)) λK g a=>?_
   ·obtain⟨ol,I,x,nl,D⟩:=hl;obtain⟨a4,n,V,d⟩:=ol;simp only at x D;subst x;subst D;have y:H.get? l=some {cls:= .type "list",dict:=n,data:= .seq items nl,slots:=d}:=k _ _ I;have a1:=PySem.F.sub_list_set;have a2:=PySem.F.sub_list_frozenset;have a8:(Value.type "list"==Value.type "dict")=false:=by decide
    have M:H.IsList l items:=⟨_,y,rfl,nl,rfl⟩;subst q;unfold cXD.«set.__init__» noKeywords Builtin.Frozenset.updateFrom;generalize X:pyIter=PI;wp_walk;subst X;refine cVd (l:=l) (items:=items) ?hl ?_;case hl=>exact M
    refine bYN (wpAny_runValue ?_);have J:l<s.heap.objs.size:=bY0 I;have W:A.in1.in1.in1.handled=none:=by simp[hh]
    have u:l≠H.objs.size:=by rw[f];exact cQd (cQY J)
    have Z:s.heap.objs.size∉ [H.objs.size,l]:=by rw[f];simp only[bYX,cZs,or_false,not_or];exact⟨cQd (cQ9 _),cZv J⟩
    have N:∀ (i:Nat)(v:bYM),items[i]? =some v->∃t,v= .int ((λi=>B.getD i 0) i) t:=λi v hv=>
     cJY hi i v (by rw[cXn];exact hv)
    refine bJY (Walks.list W _ l u items) s.heap.objs.size Z (λi=>B.getD i 0) N G (items.size - 0) 0 _ (by omega) (cQM _) ⟨⟨_,cQh _ rfl,rfl,rfl⟩,M.push _⟩ ?hS0 ?hR;case hS0=>exact L.at λo e=>bYS _ e
    case hR=>
     intro h' tk hk p;show bYU _ _ _ _ _ _;refine bYQ ?_;show bYU _ _ (ret Value.none) _ _ _;refine bYQ ⟨rfl,h',tk,rfl,p,λb o e=>?_⟩;have G:=bY0 e;refine hk b o (λz=>?_) (bYS _ (k _ _ e));simp only[bYX,cZs,or_false]at z;rcases z with z|z
     ·exact cQd G z
     ·rw[z]at G;have C:H.objs.size<s.heap.objs.size:=G;rw[f]at C;exact absurd C (Nat.not_lt.mpr (cXT _))
   ·cases K with
    |error e=>exact a
    |ok m=>
     cases m with
     |ret r=>
      obtain⟨rfl,h',tk,rfl,p,S⟩:=a;repeat (any_goals (first|assumption|wp_step))
      exact h _ _ p S
     |_=>exact a.elim
  |_=>exact T.elim
end
end Stb
namespace L2
open PySem PySem.Spec PyProof.Rows
section
variable {X:Cx}{tg:Expr}
end
section
variable {X:Cx}
theorem zB:jT X (.builtin "isinstance") (λa H Q=>∃x c t b,a= [x,.ty c]/\aJA X.K H x t/\cQA X.K t (.type c)=some b/\Q (.bl b) H):=by
 intro d s σ H a i Q I r h;obtain⟨x,c,t,b,rfl,ty,e,q⟩:=h;obtain⟨u,v,rfl,f,g⟩:=xY.two r;cases g;exact aYg I f ty e λtk=>⟨.bl b,H,I.tok tk,rfl,q⟩
def bKm(w:cQg)(a:Nat)(b:List Int):HO:= .ext λh=>Stb.aXi w h a b
theorem bXe(G:X.calm=true):jT X (.type "set") (λx H Q=>∃ (p:Nat)(a:List Int),x= [.ref p]/\SqL X.K H p (a.map V.int)/\a.length<4000/\∀ (l:Nat)(c:List Int),H l=none->c.Nodup->c.length<=a.length->(∀d,d∈c↔d∈a)->Q (.ref l) (upd H l (bKm X.w l c))):=by
 intro A s σ H x T Q I r h;obtain⟨p,a,rfl,E,U,q⟩:=h;obtain⟨u,rfl,C⟩:=aXe r;cases C;obtain⟨b,J,F,S⟩:=I.list E;have y:cZn b a:=aXy J;have n:b.length=a.length:=y.length;refine Stb.zY (I.ok.hd G) F.isList (by simpa using y) (by rw[bY3];unfold cJi;omega) λN tk f B=>?_;rw[bY3]at f;have g:(Stb.met (λi=>a.getD i 0) b.length).Nodup:=by obtain⟨o,L,P,t,O,_,_,_,_,_,g,_⟩:=f;exact g
 have hl:=Stb.aJU (λi=>a.getD i 0) b.length;refine⟨.ref s.heap.objs.size,_,I.laid (t':=tk) (o:=bKm X.w s.heap.objs.size (Stb.met (λi=>a.getD i 0) b.length)) B (bYT _) ⟨f,f.there,λR M z k=>z.at k⟩,rfl,q _ _ I.fresh g (by omega) λd=>?_⟩;rw[Stb.aYw];constructor
 ·rintro⟨j,v,rfl⟩;have m:j<a.length:=by omega
  simp[cQx,bYL m]
 ·intro D;obtain⟨j,v,e⟩:=cQD D;exact⟨j,by omega,by simp[cQx,bYL v,e]⟩
theorem aXj(D:X.calm=true):jT X (.builtin "sorted") (λo H Q=>∃ (p:Nat)(e:List Int),o= [.ref p]/\H p=some (bKm X.w p e)/\e.length<64/\∀ (l:Nat)(b:List Int),H l=none->b.Perm e->b.Pairwise (·<=·)->Q (.ref l) (upd H l (.lst (b.map V.int)))):=by
 intro c s σ H o E Q I r h;obtain⟨p,e,rfl,z,g,q⟩:=h;obtain⟨u,rfl,y⟩:=aXe r;cases y;obtain⟨A,_,_⟩:=(show zG X.prog X.w H s.heap p (bKm X.w p e)from I.hok p _ z);refine Stb.aKD (I.ok.hd D) A g λl m tk d i b n hl v x C f j=>?_;have B:H l=none:=I.hok.fresh hl;have k:b.length<=cQb:=by rw[f.length_eq,cQe];omega
 have a:Inv X c σ (upd H l (.lst (b.map V.int))) {s with heap:=m,toks:=tk}:=I.laid v hl ⟨by rw[bYR];exact k,i,n,jF C,x⟩;have t:Inv X c σ (upd H l (.lst (b.map V.int))) {s with heap:=m,toks:=tk,drawn:=d}:=by refine⟨a.ok,a.os,a.bare,a.base,a.loc,a.cell,a.free,a.freeC,a.pin,a.hok,a.len⟩
 exact⟨.ref l,_,t,rfl,q l b B f j⟩
theorem aVl(n d:Nat)(a:Nat):HT.sIx n d (some (a:Int))=min a n:=by
 unfold HT.sIx;simp only;split<;> omega
end
end L2
namespace L2
open PySem PySem.Spec PyProof.Rows
theorem uP(K:bYO):cQA K (.type "NoneType") (.type "list")=some false:=by kernel_rfl
theorem v0(K:bYO):cQA K (.type "NoneType") (.type "tuple")=some false:=by kernel_rfl
theorem J8(K:bYO):cQA K (.type "bool") (.type "bool")=some true:=by kernel_rfl
theorem aJS(K:bYO):cQA K (.type "bool") (.type "int")=some true:=by kernel_rfl
theorem qF(K:bYO):cQA K (.type "bool") (.type "str")=some false:=by kernel_rfl
theorem aZX(K:bYO):cQA K (.type "bool") (.type "list")=some false:=by kernel_rfl
theorem aXY(K:bYO):cQA K (.type "bool") (.type "tuple")=some false:=by kernel_rfl
theorem qG(K:bYO):cQA K (.type "int") (.type "bool")=some false:=by kernel_rfl
theorem aXA(K:bYO):cQA K (.type "int") (.type "int")=some true:=by kernel_rfl
theorem jK(K:bYO):cQA K (.type "int") (.type "str")=some false:=by kernel_rfl
theorem aQx(K:bYO):cQA K (.type "int") (.type "list")=some false:=by kernel_rfl
theorem J9(K:bYO):cQA K (.type "int") (.type "tuple")=some false:=by kernel_rfl
theorem aQy(K:bYO):cQA K (.type "str") (.type "bool")=some false:=by kernel_rfl
theorem aWN(K:bYO):cQA K (.type "str") (.type "int")=some false:=by kernel_rfl
theorem vD(K:bYO):cQA K (.type "str") (.type "str")=some true:=by kernel_rfl
theorem aQz(K:bYO):cQA K (.type "str") (.type "list")=some false:=by kernel_rfl
theorem Q0(K:bYO):cQA K (.type "str") (.type "tuple")=some false:=by kernel_rfl
theorem zK(K:bYO):cQA K (.type "list") (.type "list")=some true:=by kernel_rfl
theorem wD(K:bYO):cQA K (.type "list") (.type "tuple")=some false:=by kernel_rfl
theorem aZY(K:bYO):cQA K (.type "tuple") (.type "str")=some false:=by kernel_rfl
theorem zD(K:bYO):cQA K (.type "tuple") (.type "list")=some false:=by kernel_rfl
theorem zU(K:bYO):cQA K (.type "tuple") (.type "tuple")=some true:=by kernel_rfl
section
variable {X:Cx}{pins:List (Nat×Obj)}{σ:St}{H:Hp}{s:bYP}
theorem aWJ{A:cQv}{E:bYM->bYP->Prop}{Q:bYM->bYP->Prop}{x:V}{u t:bYM}{tp:Nat}{cs:List bYM}{b:Bool}(I:Inv X pins σ H s)(f:zI x u)(ty:aJA X.K H x t) (r:cZF s.heap tp cs.toArray) (e:PySem.W.kitAny X.K t cs=some b) (h:∀tk,Q (.bool b) {s with toks:=tk}):bYU (bYV X.prog X.w) A (call (.builtin "isinstance") [u,.ref tp]) Q E s:=by
 obtain⟨⟨cls,R,data,S⟩,d,B,n,v⟩:=r;simp only at B v;subst B v;cases ty with
 |non=>cases (show u=Value.none from f);exact cXt PySem.W.kitx_none I.kIn cXb d e (λz=>nomatch z) h
 |bl y=>cases (show u=Value.bool y from f);exact cXt PySem.W.kitx_bool I.kIn cXb d e (λz=>nomatch z) h
 |int i=>obtain⟨t,q⟩:=(show ∃t,u=Value.int i t from f);cases q;exact cXt PySem.W.kitx_int I.kIn cXb d e (λz=>nomatch z) h
 |str y=>obtain⟨t,q⟩:=(show ∃t,u=Value.str y t from f);cases q;exact cXt PySem.W.kitx_str I.kIn cXb d e (λz=>nomatch z) h
 |flt y=>obtain⟨t,q⟩:=(show ∃t,u=Value.float y t from f);cases q;exact cXt PySem.W.kitx_float I.kIn cXb d e (λz=>nomatch z) h
 |@lst a k c=>cases (show u=Value.ref a from f);obtain⟨_,_,n,_,g⟩:=(show zG X.prog X.w H s.heap a (.lst k)from I.hok a _ c);exact cXt cJm I.kIn ⟨_,g,rfl⟩ d e (λz=>nomatch z) h
 |@frz a M k c=>cases (show u=Value.ref a from f);obtain⟨_,_,_,n,_,g⟩:=(show zG X.prog X.w H s.heap a (.frz M (.lst k))from I.hok a _ c);exact cXt cJm I.kIn ⟨_,g,rfl⟩ d e (λz=>nomatch z) h
 |@tup a k c=>cases (show u=Value.ref a from f);obtain⟨_,_,_,p⟩:=(show zG X.prog X.w H s.heap a (.tup k)from I.hok a _ c);obtain⟨o,g,l,_⟩:=p;exact cXt PySem.W.kitx_tuple I.kIn ⟨o,g,l⟩ d e (λz=>nomatch z) h
 |@dK a j c=>cases (show u=Value.ref a from f);obtain⟨_,_,U,_,p⟩:=(show zG X.prog X.w H s.heap a (.dK j)from I.hok a _ c);obtain⟨o,D,G,g,l,_⟩:=p;exact cXt cJl I.kIn ⟨o,g,l.1⟩ d e (λz=>nomatch z) h
 |@dT a j c=>cases (show u=Value.ref a from f);obtain⟨_,_,k,_,o,D,G,g,l,_⟩:=(show zG X.prog X.w H s.heap a (.dT j)from I.hok a _ c);exact cXt cJl I.kIn ⟨o,g,l.1⟩ d e (λz=>nomatch z) h
 |@ins a C Y fs c cl L N m F=>cases (show u=Value.ref a from f);obtain⟨T,O,_⟩:=aQs I.hok c;obtain⟨P,J,_⟩:=O.look;exact cXt (PySem.W.kitx_own (cl.get _) cl.hd L N m F) I.kIn J d e (λz=>nomatch z) h
end
section
variable {X:Cx}
theorem qQ:jT X (.builtin "isinstance") (λe H Q=>∃x p c d t b a,e= [x,.ref p]/\SqT X.K H p [.ty c,.ty d]/\aJA X.K H x t/\cQA X.K t (.type c)=some b/\cQA X.K t (.type d)=some a/\Q (.bl (b || a)) H):=by
 intro pins s σ H e z Q I r h;obtain⟨x,p,c,d,t,b,a,rfl,l,ty,o,n,q⟩:=h;obtain⟨u,v,rfl,j,w⟩:=xY.two r;cases w;obtain⟨i,g,m,_⟩:=I.tuple l;obtain⟨A,y,rfl,k,f⟩:=xY.two g;cases k;cases f;refine aWJ I j ty m (b:=b || a) ?_ λtk=>⟨.bl (b || a),H,I.tok tk,rfl,q⟩;unfold PySem.W.kitAny;rw[o];cases b
 ·simp only[Bool.false_or];unfold PySem.W.kitAny;rw[n];cases a<;> rfl
 ·rfl
def bKa(K:bYO):R2:=λx y H Q=>∃a b c,x= .ref a/\y= .ref b/\SqL K H a c/\SqL K H b []/\Q (.bl c.isEmpty) H
def bKb(K:bYO):R2:=λx y H Q=>∃a b c,x= .ref a/\y= .ref b/\SqL K H a c/\SqL K H b []/\Q (.bl (!c.isEmpty)) H
theorem aX5(c:X.A.units<cLine):OpR X (cXk .Eq) (bKa X.K):=by
 intro pins s σ H x y v u Q I o n h;obtain⟨a,b,t,rfl,rfl,m,k,q⟩:=h;cases o;cases n;obtain⟨w,g,d,_⟩:=I.list m;obtain⟨r,i,f,_⟩:=I.list k;cases i;cases g with
 |nil=>exact SeqAt.eq_listAt (e:=λ_=>true) d.isList f.isList rfl c (λj l p=>absurd l (cXr _)) ⟨.bl true,H,I,rfl,q⟩
 |cons _ _=>exact SeqAt.eq_list_lengthsAt d.isList f.isList (by simp) c ⟨.bl false,H,I,rfl,q⟩
theorem wR(c:X.A.units<cLine):OpR X (cXk .NotEq) (bKb X.K):=by
 intro pins s σ H x y v u Q I o n h;obtain⟨a,b,t,rfl,rfl,m,k,q⟩:=h;cases o;cases n;obtain⟨B,g,d,_⟩:=I.list m;obtain⟨r,i,f,_⟩:=I.list k;cases i;cases g with
 |nil=>have z:=SeqAt.RcNeAt.lists (A:=X.A) (s:=s) (e:=λ_=>true) d.isList f.isList rfl c (λj l p=>absurd l (cXr _));exact z X.prog X.w X.xe _ ⟨.bl false,H,I,rfl,q⟩
 |cons _ _=>exact(SeqAt.RcNeAt.lists_lengths d.isList f.isList (by simp) c) X.prog X.w X.xe _ ⟨.bl true,H,I,rfl,q⟩
structure FnG(P:bY8)(w:cQg)(K:bYO)(mg:Str->Option bYM)(base:Heap)(k:Nat)(x:Str)(ps:List Str)(sp:Sp):Prop where
 ex:∃f fd,xH P w K mg base CX0 k f fd ps sp/\v9 K fd ps []/\cQK K (.ref f)=true/\mg x=some (.ref f)
theorem FnG.mono{P:bY8}{w:cQg}{K:bYO}{mg:Str->Option bYM}{base:Heap}{j k:Nat}{x:Str}{c:List Str}{sp:Sp}(G:FnG P w K mg base j x c sp)(h:j<=k):FnG P w K mg base k x c sp:=
 let ⟨f,fd,a,b⟩:=G.ex;⟨f,fd,a.mono h,b⟩
theorem xO{k:Nat}{x:Str}{l:List Str}{sp:Sp}{e:Expr}{a:List Expr}{t:TA}{p pos:Pos}(G:FnG X.prog X.w X.K X.mg X.base k x l sp)(g:vZ k X.A)(h:Gl X x)(n:PA X (e::a) t)
  (d:(x==("__debug__":Str))=false:=by decide) (j:cQt (e::a) X.env=(false,eval e X.env)::cQt a X.env:=by rfl) (c:(cXu pos (cQt a X.env)).any (·.1)=false:=by rfl):
  PE X (.Call (.Name x p) (e::a) [] pos) (bZT sp [] E0 t):=by
 obtain⟨f,o,F,b,i,m⟩:=G.ex
 exact aYZ F g h m i b .nil v5 n d j c
end
inductive Dt where
 |non|bl (b:Bool)|int (n:Int)|str (x:Str)|lst (ds:List Dt)|tup (ds:List Dt)
mutual
def Is(H:Hp):V->Dt->Prop
 |v,.non=>v= .non
 |v,.bl b=>v= .bl b
 |v,.int n=>v= .int n
 |v,.str x=>v= .str x
 |v,.lst ds=>∃a c,v= .ref a/\H a=some (.lst c)/\x4 H c ds
 |v,.tup ds=>∃a c,v= .ref a/\H a=some (.tup c)/\x4 H c ds
def x4(H:Hp):List V->List Dt->Prop
 |[],[]=>True
 |x::xs,d::ds=>Is H x d/\x4 H xs ds
 |_,_=>False
end
mutual
def Dt.size:Dt->Nat
 |.lst a=>1+zW a
 |.tup a=>1+zW a
 |_=>1
def zW:List Dt->Nat
 |[]=>0
 |d::ds=>d.size+zW ds
end
theorem x4.length{H:Hp}:∀ {xs:List V} {ds:List Dt},x4 H xs ds->xs.length=ds.length
 |[],[],_=>rfl
 |_::xs,_::ds,h=>by unfold x4 at h;simp[x4.length h.2]
 |[],_::_,h=>by unfold x4 at h;exact h.elim
 |_::_,[],h=>by unfold x4 at h;exact h.elim
theorem x4.get{H:Hp}:∀ {xs:List V} {ds:List Dt} {i:Nat} {d:Dt},x4 H xs ds->ds[i]? =some d->∃x,xs[i]? =some x/\Is H x d
 |x::xs,d::ds,0,_,h,e=>by unfold x4 at h;simp at e;subst e;exact⟨x,rfl,h.1⟩
 |_::xs,_::ds,i+1,d,h,e=>by unfold x4 at h;simpa using x4.get (i:=i) (d:=d) h.2 (by simpa using e)
 |[],[],_,_,_,e=>by simp at e
 |[],_::_,_,_,h,_=>by unfold x4 at h;exact h.elim
 |_::_,[],_,_,h,_=>by unfold x4 at h;exact h.elim
theorem x6{t u:TS}{D:aKI}{σ:L2.St}{H:Hp}(R:L2.St->Hp->Prop)(c:∀a b,R a b->u D a b)(d:(∀a b,R a b->u D a b)->t {D with nx:=u D} σ H):bKN t u D σ H:=d c
theorem onT{c:Bool}{A B:Prop}(e:c=true)(h:A):if c=true then A else B:=by rw[e];exact h
theorem onF{c:Bool}{A B:Prop}(e:c=false)(h:B):if c=true then A else B:=by rw[e];exact h
theorem z0:([]:List V).length<=cQb:=by decide
theorem z1{a:V}: [a].length<=cQb:=by show 1<=cQb;decide
theorem z2{a b:V}: [a,b].length<=cQb:=by show 2<=cQb;decide
theorem z3{a b c:V}: [a,b,c].length<=cQb:=by show 3<=cQb;decide
theorem z4{a b c d:V}: [a,b,c,d].length<=cQb:=by show 4<=cQb;decide
theorem z5{a b c d e:V}: [a,b,c,d,e].length<=cQb:=by show 5<=cQb;decide
theorem zn{l:List V}(h:l.length<=100000):l.length<=cQb:=by rw[cQe];omega
theorem zlt{l:List V}(h:l.length<=100000):l.length<cQb:=by rw[cQe];omega
theorem xF.fresh{H a:Hp}(k:xF H a){p:Nat}(h:a p=none):H p=none:=by
 cases e:H p with
 |none=>rfl
 |some o=>rw[k _ _ e]at h;cases h
theorem yE{H:Hp}{p:Nat}(h:H p=none)(o:HO):xF H (upd H p o):=λb u q=>by rw[yJ (yI q h)];exact q
end L2
namespace Rvl
open PySem PyProof.Rows
section
variable {prog:bY8}{w:cQg}{A:cQv}{E:bYM->bYP->Prop}{s:bYP}
end
end Rvl
namespace L2
open PySem PySem.Spec PyProof.Rows
section
variable {X:Cx}
end
end L2
namespace L2
open PySem PySem.Spec PyProof.Rows
theorem qX{n:Nat}{l:List Nat}{d:TT}{h:TE}{σ:St}{D:Nat}{Q:VK}{H:Hp}(p:Nat->Bool)(f:Nat->V)(B:H D=none)(hz:n<=cQb) (u:∀i,i<n->∀ (c:Hp)(R:Bool->Hp->Prop),(∀b,b≠D->c b=H b)->R (p i) c->d (sub σ l (some (.int (i:Nat)))) c R) (q:∀i,i<n->p i=true->∀ (c:Hp)(R:VK),(∀b,b≠D->c b=H b)->R (f i) c->h (sub σ l (some (.int (i:Nat)))) c R) (t:Q (.ref D) (upd H D (.lst (((bYW n).filter p).map f)))):bWo (Itr 0 n) l d h σ D Q (upd H D (.lst [])):=by
 refine⟨λi m j c=>m=n - i/\i<=n/\j=((bYW i).filter p).map f/\c=upd H D (.lst j),⟨n,by simp,cQM _,by simp,rfl⟩,?_⟩;rintro i m j c ⟨rfl,A,rfl,rfl⟩;refine⟨yB,?_⟩;by_cases a:i<n
 ·refine .inr ⟨a,λv z r=>?_⟩;obtain⟨x,w⟩:=r;subst x;subst w;rw[cX9];have g:∀b,b≠D->upd H D (.lst (((bYW i).filter p).map f)) b=H b:=λb o=>yJ o;have e:(((bYW i).filter p).map f).length<cQb:=by
   rw[bYR];have s:=cQL p (bYW i);rw[cQG]at s;omega
  refine u i a _ _ g ?_;cases k:p i with
  |false=>show ∃y,_;refine⟨n - (i+1),by omega,rfl,a,?_,rfl⟩;rw[cZd,cQZ,cXw (by rw[k];decide)];simp
  |true=>show h _ _ _;refine q i a k _ _ g ⟨e,yB,n - (i+1),by omega,rfl,a,?_,by rw[jE]⟩;rw[cZd,cQZ,cXx k];simp
 ·obtain rfl:i=n:=by omega
  exact .inl ⟨bYT _,t⟩
end L2
namespace Stree
open PySem PySem.W PyProof.Rows
def Asks{α:Type}(n:Nat)(lt:Nat->Nat->Bool):KasT α->(α->Prop)->Prop
 |.ret a,Q=>Q a
 |.ask i j k,Q=>i<n/\j<n/\Asks n lt (k (lt i j)) Q
theorem Asks.bind{α β:Type}{n:Nat}{lt:Nat->Nat->Bool}{f:α->KasT β}{Q:β->Prop}:∀ {t:KasT α} {R:α->Prop},Asks n lt t R->(∀a,R a->Asks n lt (f a) Q)->Asks n lt (t.bind f) Q
 |.ret a,R,h,hf=>hf a h
 |.ask i j k,R,h,hf=>⟨h.1,h.2.1,Asks.bind (t:=k (lt i j)) h.2.2 hf⟩
theorem Asks.wp{α:Type}{n:Nat}{lt:Nat->Nat->Bool}{b:Nat->Nat->(Bool->bYP->Prop)->bYP->Prop}{s:bYP}{G:α->bYP->Prop}(c:∀i j C,i<n->j<n->C (lt i j) s->b i j C s):
  ∀ {t:KasT α} {R:α->Prop},Asks n lt t R->(∀a,R a->G a s)->t.kasWp b G s
 |.ret a,R,h,hf=>hf a h
 |.ask i j k,R,h,hf=>c i j _ h.1 h.2.1 (Asks.wp c (t:=k (lt i j)) h.2.2 hf)
section
variable {n:Nat}{r:Nat->Int}{p:Array Nat}
abbrev Q2(r:Nat->Int):Nat->Nat->Bool:=λi j=>decide (r i<r j)
abbrev R(r:Nat->Int)(p:Array Nat)(k:Nat):Int:=r (p.getD k 0)
structure Ok(n:Nat)(p:Array Nat):Prop where
 perm:p.toList.Perm (bYW n)
theorem Ok.size(h:Ok n p):p.size=n:=by have:=h.perm.length_eq;simpa using this
theorem Ok.lt(h:Ok n p)(h0:0<n)(k:Nat):p.getD k 0<n:=by
 by_cases a:k<p.size
 ·have:p.toList[k]'(by simpa using a)∈p.toList:=cX5 _;have:=cQi.mp (h.perm.mem_iff.mp this);simpa[cZk,a]using this
 ·simpa[cZk,a]using h0
theorem Ok.ne(h:Ok n p){i j:Nat}(g:i<n)(k:j<n)(c:i≠j):p.getD i 0≠p.getD j 0:=by
 have f:=h.size;have d:p.toList.Nodup:=h.perm.nodup_iff.mpr cZZ;intro e;have a:i<p.size:=by omega
 have b:j<p.size:=by omega
 simp[cZk,a,b]at e;have:=(cXE (xs:=p.toList) (h₀:=by simpa using a) (h₁:=by simpa using b) d).mp (by simpa using e);exact c this
def Inj(n:Nat)(r:Nat->Int):Prop:=∀i j,i<n->j<n->r i=r j->i=j
theorem Ok.rne(h:Ok n p)(c:Inj n r){i j:Nat}(b:i<n)(d:j<n)(a:i≠j):R r p i≠R r p j:=λe=>
 h.ne b d a (c _ _ (h.lt (by omega) i) (h.lt (by omega) j) e)
def Srt(r:Nat->Int)(p:Array Nat)(k:Nat):Prop:=∀i j,i<j->j<k->R r p i<R r p j
def Dsc(r:Nat->Int)(p:Array Nat)(k:Nat):Prop:=∀i j,i<j->j<k->R r p j<R r p i
theorem Srt.one:Srt r p 1:=λi j a b=>by omega
theorem aXW(p:Array Nat)(k:Nat):p.getD k 0=(p[k]?).getD 0:=by simp[cZk,cZf];split<;> simp_all
theorem aZD(h:Ok n p)(hr:Inj n r):∀ (f m:Nat),1<=m->m+f<=n->Srt r p m->Asks n (Q2 r) (kas_asc p f m) (λm'=>m<=m'/\m'<=m+f/\Srt r p m'/\(m'<m+f->R r p m'<R r p (m' - 1)))
 |0,m,h1,h2,hs=>⟨bYT _,bYT _,hs,λz=>absurd z (by omega)⟩
 |f+1,m,h1,h2,hs=>by
  refine⟨h.lt (by omega) _,h.lt (by omega) _,?_⟩
  by_cases c:r (p.getD m 0)<r (p.getD (m - 1) 0)
  ·have e:Q2 r (p.getD m 0) (p.getD (m - 1) 0)=true:=decide_eq_true c
   rw[e];show Asks n (Q2 r) (ite _ _ _) _;rw[if_pos rfl]
   exact⟨bYT _,by omega,hs,λ_=>c⟩
  ·have e:Q2 r (p.getD m 0) (p.getD (m - 1) 0)=false:=decide_eq_false c
   rw[e];show Asks n (Q2 r) (ite _ _ _) _;rw[if_neg (by decide)]
   have hne:=h.rne hr (i:=m) (j:=m - 1) (by omega) (by omega) (by omega)
   have hlt:R r p (m - 1)<R r p m:=by
    have:¬R r p m<R r p (m - 1):=c
    omega
   have hs':Srt r p (m+1):=λi j hij hj=>by
    by_cases hjm:j<m
    ·exact hs i j hij hjm
    ·have:j=m:=by omega
     subst this
     by_cases hi:i=j - 1
     ·rw[hi];exact hlt
     ·have:=hs i (j - 1) (by omega) (by omega);omega
   have z:=aZD h hr f (m+1) (by omega) (by omega) hs'
   have e2:m+1+f=m+(f+1):=by omega
   rw[e2]at z
   exact Asks.mono z λm' ⟨a,b,c,d⟩=>⟨by omega,b,c,d⟩
where
 Asks.mono {α:Type} {n:Nat} {lt:Nat->Nat->Bool} {Q Q':α->Prop}:∀ {t:KasT α},Asks n lt t Q->(∀a,Q a->Q' a)->Asks n lt t Q'
  |.ret a,h,hf=>hf a h
  |.ask i j k,h,hf=>⟨h.1,h.2.1,Asks.mono (t:=k (lt i j)) h.2.2 hf⟩
theorem aK4(h:Ok n p)(q:Inj n r):∀ (f m:Nat),1<=m->m+f<=n->Dsc r p m->Asks n (Q2 r) (kas_desc f p m 0) (λz=>z.1=p/\z.2.2=0/\m<=z.2.1/\z.2.1<=m+f/\Dsc r p z.2.1)
 |0,m,h1,h2,hs=>⟨rfl,rfl,bYT _,bYT _,hs⟩
 |f+1,m,h1,h2,hs=>by
  refine⟨h.lt (by omega) _,h.lt (by omega) _,?_⟩;by_cases c:r (p.getD m 0)<r (p.getD (m - 1) 0)
  ·have e:Q2 r (p.getD m 0) (p.getD (m - 1) 0)=true:=decide_eq_true c;rw[e];show Asks n (Q2 r) (ite _ _ _) _;rw[if_pos rfl,if_neg (by omega)];have o:Dsc r p (m+1):=λi j k w=>by
    by_cases l:j<m
    ·exact hs i j k l
    ·have:j=m:=by omega
     subst this;have s:R r p j<R r p (j - 1):=c;by_cases u:i=j - 1
     ·rw[u];exact s
     ·have:=hs i (j - 1) (by omega) (by omega);omega
   have z:=aK4 h q f (m+1) (by omega) (by omega) o;have t:m+1+f=m+(f+1):=by omega
   rw[t]at z;exact aZD.Asks.mono z λz ⟨a,b,c,d,e⟩=>⟨a,b,by omega,d,e⟩
  ·have e:Q2 r (p.getD m 0) (p.getD (m - 1) 0)=false:=decide_eq_false c;rw[e];show Asks n (Q2 r) (ite _ _ _) _;rw[if_neg (by decide)];refine⟨h.lt (by omega) _,h.lt (by omega) _,?_⟩;have v:=h.rne q (i:=m) (j:=m - 1) (by omega) (by omega) (by omega);have g:R r p (m - 1)<R r p m:=by
    have:¬R r p m<R r p (m - 1):=c;omega
   have e:Q2 r (p.getD (m - 1) 0) (p.getD m 0)=true:=decide_eq_true g;rw[e];show Asks n (Q2 r) (ite _ _ _) _;rw[if_pos rfl];exact⟨rfl,rfl,bYT _,Nat.le_add_right _ _,hs⟩
theorem bWy{m:Nat}(a:m<=p.size)(k:Nat)(b:k<m):R r (kas_rev p 0 m) k=R r p (m - 1 - k):=by
 unfold R kas_rev;rw[aXW,aXW,getElem?_mirror_all a,if_pos ⟨cQM _,b⟩,Nat.zero_add]
theorem bJt(h:Ok n p)(m:Nat):Ok n (kas_rev p 0 m):=⟨(cJ3.mp (mirror_perm p 0 m _)).trans h.perm⟩
theorem bZY(h:Ok n p)(l:Inj n r){m:Nat}(k:1<=m)(e:m<=n)(f:Dsc r p m):Asks n (Q2 r) (kas_tail3 m n p) (λz=>1<=z.1/\z.1<=n/\Ok n z.2/\Srt r z.2 z.1):=by
 have d:Srt r (kas_rev p 0 m) m:=λi j g o=>by rw[bWy (by rw[h.size];exact e) i (by omega),bWy (by rw[h.size];exact e) j o];exact f _ _ (by omega) (by omega)
 refine Asks.bind (aZD (bJt h m) l (n - m) m k (by omega) d) λm' ⟨a,b,c,_⟩=>?_;exact⟨by omega,by omega,bJt h m,c⟩
theorem bXh(h:Ok n p)(g:Inj n r)(y:1<=n):Asks n (Q2 r) (kas_count n p) (λz=>1<=z.1/\z.1<=n/\Ok n z.2/\Srt r z.2 z.1):=by
 refine Asks.bind (aZD h g (n - 1) 1 (bYT _) (by omega) Srt.one) λm ⟨a,b,c,d⟩=>?_;by_cases e:m=n
 ·rw[if_pos (by simpa using e)];exact⟨a,by omega,h,c⟩
 ·rw[if_neg (by simpa using e)];by_cases l:m > 1
  ·rw[if_pos l];refine⟨h.lt (by omega) _,h.lt (by omega) _,?_⟩;have f:R r p 0<R r p (m - 1):=c 0 (m - 1) (by omega) (by omega);have s:Q2 r (p.getD 0 0) (p.getD (m - 1) 0)=true:=decide_eq_true f;rw[s];show Asks n (Q2 r) (ite _ _ _) _;rw[if_pos rfl];exact⟨a,by omega,h,c⟩
  ·rw[if_neg l];have w:m=1:=by omega
   subst w;have x:=d (by omega);refine Asks.bind (aK4 h g (n - 2) 2 (by omega) (by omega) ?_) λz ⟨z1,z2,z3,z4,z5⟩=>?_
   ·intro i j v o;have u:i=0:=by omega
    have o:j=1:=by omega
    subst u;subst o;exact x
   ·obtain⟨q,k,t⟩:=z;simp only at z1 z2 z3 z4 z5;subst z1;subst z2;rw[if_neg (by simp)];exact bZY h g (by show 1<=k;omega) (by show k<=n;omega) z5
theorem aX6(h:Ok n p)(g:Inj n r){k:Nat}(s:k<n)(b:Srt r p k):∀ (f l u:Nat),l<=u->u<=k->u - l<=f->(∀i,i<l->R r p i<R r p k)->(∀i,u<=i->i<k->R r p k<R r p i)->
  Asks n (Q2 r) (kas_place p k f l u) (λo=>o<=k/\(∀i,i<o->R r p i<R r p k)/\∀i,o<=i->i<k->R r p k<R r p i)
 |0,l,u,h1,h2,h3,h4,h5=>⟨by omega,h4,λi q a=>h5 i (by omega) a⟩
 |f+1,l,u,h1,h2,h3,h4,h5=>by
  unfold kas_place;by_cases c:l≥u
  ·rw[if_pos c];exact⟨by omega,h4,λi q a=>h5 i (by omega) a⟩
  ·rw[if_neg c];refine⟨h.lt (by omega) _,h.lt (by omega) _,?_⟩;have w:(l+u) / 2<u:=by omega
   have hl:l<=(l+u) / 2:=by omega
   by_cases d:r (p.getD k 0)<r (p.getD ((l+u) / 2) 0)
   ·have e:Q2 r (p.getD k 0) (p.getD ((l+u) / 2) 0)=true:=decide_eq_true d;rw[e];show Asks n (Q2 r) (ite _ _ _) _;rw[if_pos rfl];refine aX6 h g s b f l _ hl (by omega) (by omega) h4 λi q a=>?_;have t:R r p k<R r p ((l+u) / 2):=d;by_cases m:i=(l+u) / 2
    ·rw[m];exact t
    ·have:=b ((l+u) / 2) i (by omega) a;omega
   ·have e:Q2 r (p.getD k 0) (p.getD ((l+u) / 2) 0)=false:=decide_eq_false d;rw[e];show Asks n (Q2 r) (ite _ _ _) _;rw[if_neg (by decide)];have t:¬R r p k<R r p ((l+u) / 2):=d;have v:=h.rne g (i:=k) (j:=(l+u) / 2) (by omega) (by omega) (by omega);refine aX6 h g s b f _ u (by omega) h2 (by omega) (λi q=>?_) h5;by_cases m:i=(l+u) / 2
    ·rw[m];omega
    ·have:=b i ((l+u) / 2) (by omega) (by omega);omega
theorem bWx{k l:Nat}(h:k<p.size)(hl:l<=k)(i:Nat):R r (bubble p k (k - l)) i=if i=l then R r p k else if l<i/\i<=k then R r p (i - 1)else R r p i:=by
 have e:=getElem?_bubble h (k - l) (by omega) i;rw[show k - (k - l)=l by omega]at e;have d:∀q:Array Nat,∀a b:Nat,∀c:Array Nat,q[a]? =c[b]? ->R r q a=R r c b:=λq a b c z=>by unfold R;rw[aXW,aXW,z]
 by_cases g:i=l
 ·rw[if_pos g]at e ⊢;exact d _ _ _ _ e
 ·rw[if_neg g]at e ⊢;by_cases f:l<i/\i<=k
  ·rw[if_pos f]at e ⊢;exact d _ _ _ _ e
  ·rw[if_neg f]at e ⊢;exact d _ _ _ _ e
theorem bJc(s:Inj n r):∀ (f k:Nat)(p:Array Nat),Ok n p->k+f=n->Srt r p k->Asks n (Q2 r) (kas_bin f p k) (λm=>Ok n m/\Srt r m n)
 |0,k,p,h,e,hs=>⟨h,by rw[<- e];exact hs⟩
 |f+1,k,p,h,e,hs=>by
  refine Asks.bind (aX6 h s (k:=k) (by omega) hs k 0 k (by omega) (bYT _) (by omega) (λi o=>absurd o (by omega)) (λi o b=>absurd b (by omega))) λl ⟨h1,h2,h3⟩=>?_;refine bJc s f (k+1) _ ⟨(cJ3.mp (bubble_perm p k _)).trans h.perm⟩ (by omega) λi j t u=>?_;have c:k<p.size:=by rw[h.size];omega
  rw[bWx c h1,bWx c h1];by_cases d:i=l
  ·rw[if_pos d];by_cases a:j=l
   ·omega
   ·rw[if_neg a,if_pos ⟨by omega,by omega⟩];exact h3 _ (by omega) (by omega)
  ·rw[if_neg d];by_cases a:j=l
   ·rw[if_pos a,if_neg (by omega)];exact h2 i (by omega)
   ·rw[if_neg a];by_cases q:l<i/\i<=k
    ·rw[if_pos q,if_pos ⟨by omega,by omega⟩];exact hs _ _ (by omega) (by omega)
    ·rw[if_neg q];by_cases g:l<j/\j<=k
     ·rw[if_pos g];by_cases cl:i=j - 1
      ·omega
      ·exact hs _ _ (by omega) (by omega)
     ·rw[if_neg g];exact hs _ _ (by omega) (by omega)
theorem bWa(a:Inj n r)(b:1<=n):Asks n (Q2 r) (kas_sort n) (λp=>Ok n p/\Srt r p n):=by
 have h0:Ok n (cQW (bYW n)):=⟨by simp⟩;refine Asks.bind (bXh h0 a b) λz ⟨h1,h2,h3,h4⟩=>?_;by_cases c:z.1<n
 ·rw[if_pos c,Nat.max_eq_left h1];exact bJc a _ _ _ h3 (by omega) h4
 ·rw[if_neg c];exact⟨h3,by rw[show n=z.1 by omega];exact h4⟩
theorem aJo(f:Inj n r)(e:1<=n):Asks n (Q2 r) (kas_sort n) (λp=>p.toList.Perm (bYW n)/\p.toList.Pairwise (λi j=>r i<r j)):=by
 refine aZD.Asks.mono (bWa f e) λp ⟨h1,h2⟩=>⟨h1.perm,?_⟩;rw[cZm];intro i j d g c;have b:i<p.size:=by simpa using d
 have a:j<p.size:=by simpa using g
 have z:=h2 i j c (by rw[<- h1.size];exact a);simpa[R,cZk,b,a]using z
end
end Stree
namespace Stree
open PySem PySem.W PySem.Calls PyProof.Rows
section
variable {prog:bY8}{w:cQg}{A:cQv}{E:bYM->bYP->Prop}
theorem aZN{f:bYM}{vs:List bYM}{kS:Nat}{J:List bYM->bYP->Prop}{body:bYM->PUnit->Sem (ForInStep PUnit)}
  (e:∀a s v,J a s->vs[a.length]? =some v->bYU (bYV prog w) A (body v ⟨⟩) (λr b=>r= .yield ⟨⟩/\∃k,J (a++ [k]) b) E s):
  ∀ (r a:List bYM)(s:bYP),vs.drop a.length=r->a.length<=vs.length->J a s->bYU (bYV prog w) A (forIn r PUnit.unit body) (λ_ b=>∃a,a.length=vs.length/\J a b) E s
 |[],a,s,hr,hle,hJ=>by rw[List.forIn_nil];refine bYQ ⟨a,?_,hJ⟩;have:=congrArg cXQ hr;rw[List.length_drop]at this;simp at this;omega
 |v::r,a,s,hr,hle,hJ=>by
  rw[cJC];have d:vs[a.length]? =some v:=by have:=congrArg (λl=>l[0]?) hr;simpa using this
  have g:a.length<vs.length:=by
   rcases cZP a.length vs.length with h|h
   ·exact h
   ·rw[cQk h]at d;cases d
  refine bYN (cQQ (e a s v hJ d) (λq b i=>?_) λ_ _ x=>x);obtain⟨rfl,k,c⟩:=i;show bYU (bYV prog w) A (forIn r PUnit.unit body) _ E b;refine aZN (kS:=kS) (f:=f) e r (a++ [k]) b ?_ (by rw[cQa,cQU];omega) c;rw[cQa,cQU,List.drop_add_one_eq_tail_drop,hr];rfl
theorem bKq{s:bYP}{a:Nat}{vs:List bYM}{f:bYM}{b:Bool}{P:PySem.Fin->bYP->Prop}{n0:Nat}(X:s.heap.get? a=some (cQB "list" vs.toArray n0))(a8:vs.length<64)(J:Nat->List bYM->bYP->Prop) (h0:∀n q,(∀c o,c≠a->s.heap.get? c=some o->q.get? c=some o)->q.get? a=some (cQB "list" #[] n)->q.get? (s.heap.objs.size+1)=some (cQB "list" #[] 0)->J n [] {s with heap:=q}) (hget:∀n g l,J n g l->(∃e,l.heap.get? (s.heap.objs.size+1)=some (cQB "list" g.toArray e))/\l.heap.get? a=some (cQB "list" #[] n)) (hcall:∀n g l v,J n g l->vs[g.length]? =some v->bYU (bYV prog w) A (call f [v]) (λk m=>(∃e,m.heap.get? (s.heap.objs.size+1)=some (cQB "list" g.toArray e))/\ ∀q c,cXP (s.heap.objs.size+1) m.heap q->q.get? (s.heap.objs.size+1)=some (cQB "list" (g++ [k]).toArray c)->J n (g++ [k]) {m with heap:=q}) (λ_ _=>False) l) (hend:∀n g l,J n g l->g.length=vs.length->∃r:Nat->Int,Inj vs.length r/\ (2<=vs.length->∃κ,(∀Q:SortKind->bYP->Prop,Q κ l->bYU (bYV prog w) A (keyKind' g.toArray) Q (λ_ _=>False) l)/\∀i j C,i<vs.length->j<vs.length->C (decide (r i<r j)) l->kas_ask prog w A κ (katRev b g) i j C l)/\ ∀ (p:List Nat) q c B,p.Perm (bYW vs.length)->p.Pairwise (λi j=>r i<r j)->(∀d,d≠a->d≠s.heap.objs.size+1->q.get? d=l.heap.get? d)->q.get? (s.heap.objs.size+1)=some (cQB "list" #[] c)-> q.get? a=some (cQB "list" (katRev b (p.map λi=>(katRev b vs).getD i Value.none)).toArray B)->P (.done (.ret .none)) {l with heap:=q}): bYU (bYV prog w) A (ksk_tree a f b) P E s:=by
 have ha:a<s.heap.objs.size:=bY0 X;have V:a≠s.heap.objs.size+1:=cQd (cQY ha);obtain⟨n,M⟩:∃n,(s.heap.update a (cQH λ_=>(#[]:Array bYM))).get? a=some (cQB "list" #[] n):=⟨_,cZH X λ_=> #[]⟩;have U:((s.heap.update a (cQH λ_=>(#[]:Array bYM))).push (cQB "tuple" vs.toArray 0)).objs.size=s.heap.objs.size+1:=by rw[size_push',Heap.size_update]
 unfold ksk_tree;refine bYN (listItems_at X rfl ?_);refine bYN (cZ5 X rfl ?_ (by rw[bY3,cQe];omega) (cQM _));refine bYN (seqEpoch_at M rfl ?_);refine bYN (wpAny_newTuple ?_ (by show vs.length<=_;rw[cQe];omega));refine bYN (cZ8 ?_ (cQM _));refine cQ7 ?_;have J0:=h0 n (((s.heap.update a (cQH λ_=>(#[]:Array bYM))).push (cQB "tuple" vs.toArray 0)).push (cQB "list" #[] 0))
  (λc o hc e=>bYS _ (bYS _ ((cQq _ _ (cQu hc)).trans e)))
  (bYS _ (bYS _ M)) (by rw[<- U];exact cQh _ rfl)
 show bYU _ _ (ksk_rest a f b vs.toArray n (.ref ((s.heap.update a (cQH λ_=>(#[]:Array bYM))).push (cQB "tuple" vs.toArray 0)).objs.size)) _ _ _;rw[U];unfold ksk_rest;refine bYN (cJL ?_);first
  |rw[List.forIn_toArray]
  |(rw[<- Array.forIn_toList];simp only[cJO])
  |rw[<- Array.forIn_toList]
 refine bYN (cQQ (aZN (f:=f) (kS:=s.heap.objs.size+1) (J:=J n) (vs:=vs) (λg l v Z hv=>?_) vs [] _ (by simp) (cQM _) J0) (λ_ l hd=>?_) λ_ _ x=>x)
 ·have b1:g.length<vs.length:=by
   rcases cZP g.length vs.length with h|h
   ·exact h
   ·rw[cQk h]at hv;cases hv
  refine bYN (cZ7 (cQQ (hcall n g l v Z hv) (λk m hk=>?_) λ_ _ hF=>hF.elim));obtain⟨⟨e,nk⟩,c⟩:=hk;have s1:=cXi m.heap (s.heap.objs.size+1) (cQH (·.push k));have ea:(cQW g).push k=cQW (g++ [k]):=by simp
  obtain⟨B,L⟩:∃B,(m.heap.update (s.heap.objs.size+1) (cQH (·.push k))).get? (s.heap.objs.size+1)=some (cQB "list" (cQW (g++ [k])) B):=⟨_,by rw[<- ea];exact cZH nk (·.push k)⟩;try dsimp only
  refine bYN (cZ5 nk rfl ?_ (by rw[bY3,cQe];omega) (cQo (cZt (Array.size_push ..)) (by rw[bY3,cQe];omega)));exact bYQ ⟨rfl,k,c _ B s1 L⟩
 ·obtain⟨g,hl,Z⟩:=hd;obtain⟨⟨e,H⟩,a7⟩:=hget n g l Z;try dsimp only
  refine bYN (listItems_at H rfl ?_);obtain⟨r,hr,O,R⟩:=hend n g l Z hl;have step:∀t:Sem PySem.Fin,bYU (bYV prog w) A t P E l->bYU (bYV prog w) A (if b=true then(do let _ <- rule "list.sort.reverse";t)else t) P E l:=by
   intro t ht;split
   ·exact bYN (cJL ht)
   ·exact ht
  have G:(katRev b g).length=(katRev b vs).length:=by rw[kat_len,kat_len,hl]
  have D:∀ (W:SortSt)(p:List Nat),p.Perm (bYW vs.length)->p.Pairwise (λi j=>r i<r j)->(arrOf W).map (·.2)=cQW (p.map λi=>(katRev b vs).getD i Value.none)->failedOf W=none->
    bYU (bYV prog w) A (ksk_tail a b n (.ref (s.heap.objs.size+1)) W) P E l:=by
   intro W p z F S hf
   have a9:p.length=vs.length:=by rw[z.length_eq,cQG]
   obtain⟨ck,b0⟩:∃ck,(l.heap.update (s.heap.objs.size+1) (cQH λ_=>(#[]:Array bYM))).get? (s.heap.objs.size+1)=some (cQB "list" #[] ck):=⟨_,cZH H λ_=> #[]⟩
   have na:(l.heap.update (s.heap.objs.size+1) (cQH λ_=>(#[]:Array bYM))).get? a=some (cQB "list" #[] n):=(cQq _ _ (cQu V)).trans a7
   obtain⟨B,L⟩:∃B,((l.heap.update (s.heap.objs.size+1) (cQH λ_=>(#[]:Array bYM))).update a (cQH λ_=>cQW (katRev b (p.map λi=>(katRev b vs).getD i Value.none)))).get? a=some (cQB "list" (cQW (katRev b (p.map λi=>(katRev b vs).getD i Value.none))) B):=
    ⟨_,cZH na λ_=>cQW (katRev b (p.map λi=>(katRev b vs).getD i Value.none))⟩
   have a6:(cQW (katRev b (p.map λi=>(katRev b vs).getD i Value.none))).size=vs.length:=by rw[bY3,kat_len,bYR,a9]
   unfold ksk_tail
   try dsimp only
   rw[S,kat_outs]
   refine bYN (cZ5 H rfl ?_ (by rw[bY3,cQe];omega) (cQM _))
   refine bYN (wpAny_letGo ?_)
   refine bYN (seqEpoch_at na rfl ?_)
   refine bYN (cZ5 na rfl ?_ (cQM _) (cQo (cZt a6) (by rw[cQe];omega)))
   rw[hf]
   simp only[bne_self_eq_false,Bool.false_eq_true,if_false]
   refine bYQ (R p _ ck B z F (λd h1 y=>?_) ?_ L)
   ·exact(cQq _ _ (cQu h1)).trans (cQq _ _ (cQu y))
   ·exact(cQq _ _ V).trans b0
  unfold ksk_end;try dsimp only
  refine step _ ?_;rw[kat_pairs b hl];by_cases y:vs.toArray.size<2
  ·rw[if_pos y,if_pos y];refine bYN (bYQ ?_);refine bYN (bYQ ?_);have K:vs.length<2:=by rw[bY3]at y;exact y
   refine D _ (bYW vs.length) (List.Perm.refl _) ?_ ?_ rfl
   ·rw[cZm];intro i j Y hj b2;rw[cQG]at Y hj;omega
   ·show((cQW (katRev b g)).zip (cQW (katRev b vs))).map (·.2)=_;apply Array.toList_inj.mp;rw[Array.toList_map,Array.toList_zip];simp only[cJO];have n:(List.zip (katRev b g) (katRev b vs)).map (·.2)=katRev b vs:=List.map_snd_zip (cZt G.symm);rw[n];apply cXA;intro i;rw[bY7];by_cases Y:i<vs.length
    ·have I:i<(katRev b vs).length:=by rw[kat_len];exact Y
     rw[cXO Y];simp[cQx,bYL I]
    ·have I:(katRev b vs).length<=i:=by rw[kat_len];omega
     rw[cQk I,cQk (by rw[cQG];omega)];rfl
  ·have K:2<=vs.length:=by rw[bY3]at y;omega
   rw[if_neg y,if_neg y];obtain⟨κ,hκ,N⟩:=O K;refine bYN (cQQ (hκ (λk m=>k=κ/\m=l) ⟨rfl,rfl⟩) (λk m hq=>?_) λ_ _ x=>x.elim);obtain⟨rfl,rfl⟩:=hq;have a5:(kas_sort (katRev b vs).length).kasWp (kas_ask prog w A k (katRev b g)) (λp T=>T=m/\p.toList.Perm (bYW vs.length)/\p.toList.Pairwise (λi j=>r i<r j)) m:=by rw[kat_len];exact Asks.wp (lt:=Q2 r) N (aJo hr (by omega)) λp hp=>⟨rfl,hp⟩
   refine bYN (cQQ (kat_run (Q:=λu T=>∃p:Array Nat,arrOf u=p.map (kas_item ((cQW (katRev b g)).zip (cQW (katRev b vs))))/\failedOf u=none/\
     T=m/\p.toList.Perm (bYW vs.length)/\p.toList.Pairwise (λi j=>r i<r j))
    G (by rw[kat_len];exact K) (by rw[kat_len];exact a8) (λp' u T a1 a2 a3 a4=>⟨p',a2,a3,a4⟩) a5) ?_ λ_ _ x=>x)
   rintro⟨⟨⟩,u⟩ T ⟨p,a0,hf,rfl,z,F⟩;try dsimp only
   exact D _ p.toList z F (kat_snds G a0) hf
end
end Stree
namespace L2
open PySem PySem.Spec PyProof.Rows
abbrev bKH(X:Cx)(A:cQv)(N:List Str)(qual:Str)(sc:cXZ)(L q:Nat)(cd:bYM)(cl:List (Str×Nat))(s:bYP)(H:Hp):Cx:=
 {X with A:=A.deeper (PySem.W.envX qual sc L q cd cl),N:=N,s₀:=s,H₀:=H,env:=PySem.W.envX qual sc L q cd cl,outer:=X.stack,stack:=PySem.W.envX qual sc L q cd cl::X.stack,ex:= [],fn:=λ_=>false,calm:=true,pn:= [],xe:=λ_ _=>False}
section
variable {X:Cx}{pins:List (Nat×Obj)}{σ:St}{H:Hp}{s:bYP}
theorem bXz{A:cQv}{x:Str}{names:List Str}{M:List Nat}{f:cXZ}{cl:List (Str×Nat)}{name qual:Str}{d:Arguments}{body:Expr}{pm P:bYM}{q n:Nat}{te:TE}{v:V}{u:bYM}{Q:VK} (I:Inv X pins σ H s) (hA:A.frames=some X.stack) (hd:A.handled=none) (E:A.depth<recursionLimit) (S:xQ X.N X.env.scope x names M f) (a3:f.isCoroutine=false) (O:f.isGenerator=false) (a:∀y c,cl.lookup y=some c->X.env.cells.lookup y=some c) (B:∀y,(y,NameKind.free)∈f.names->∃c,cl.lookup y=some c) (ho:s.heap.get? q=some (cXY name qual d body f cl pm n P)) (a1:s.heap.CodeRec (.ref n) qual) (F:∀u:bYM,bindArgs (PySem.W.kla_fn name qual d body f cl pm (.ref n) P) ⟨[u],[]⟩=pure [(x,u)]) (he:∀A L cd s H,PE (bKH X A (x::names) qual f L q cd cl s H) body te) (r:zI v u) (h:te (sub σ M (some v)) H Q): bYU (bYV X.prog X.w) A (call (.ref q) [u]) (EP X pins σ Q) (λ_ _=>False) s:=by
 have a0:cX1 (bYV X.prog X.w) A (.call (.ref q) ⟨[u],[]⟩) (λr s'=>match r with|.ok (.ret u)=>EP X pins σ Q u s'|_=>False) s:=by
  refine PySem.W.kla_callFunE E ho rfl a3 O rfl a1 ?_;rw[F u];refine bYQ (wpAny_newFunctionEnv S.nocell (λy hy=>by rw[bY1.mp hy];exact S.var) (λC a2 a4=>?_) S.kind);have keep:∀b o,s.heap.get? b=some o->C.get? b=some o:=λb o e=>a4.extBut b o (cQd (bY0 e)) (bYS _ e);refine⟨I.nolimit.keeps keep,?_⟩;show cX1 _ _ (.expr body (PySem.W.envX qual f s.heap.objs.size q (.ref n) cl)) _ _;have a5:(bKH X A (x::names) qual f s.heap.objs.size q (.ref n) cl s H).Ok:=by
   refine⟨I.ok.mod,S.kind,rfl,rfl,bYT _,?_,?_,?_,λ_=>hd,Around.frames_deeper hA,.inr ⟨rfl,rfl⟩,?_,I.bs,cQo I.ok.bsz I.sz,?_,?_,I.stack,I.stkFree⟩
   ·exact λy z c Y T=>I.ok.inj y z c (a y c Y) (a z c T)
   ·intro y hy;have g:f.names.lookup y=some .cell\/f.names.lookup y=some .free:=hy;rcases g with g|g
    ·exact absurd rfl (S.nocell _ (cXj g))
    ·exact B y (cXj g)
   ·exact λy c h _=>by cases h
   ·exact λb F=>absurd (show b∈([]:List Nat)from F) (by simp)
   ·exact λb o _ F=>absurd (show b∈([]:List Nat)from F) (by simp)
   ·exact λb F=>absurd (show b∈([]:List Nat)from F) (by simp)
  have IY:Inv (bKH X A (x::names) qual f s.heap.objs.size q (.ref n) cl s H) [] (sub σ M (some v)) H {s with heap:=C,toks:=s.toks+ [(x,u)].length}:=by
   refine⟨a5,rfl,I.bare,Un.kept keep,⟨_,a2,?_⟩,?_,I.hok.fresh (bYT _),λy c e=>I.freeC y c (a y c e),λp hp=>absurd (show p∈([]:List (Nat×Obj))from hp) (by simp),I.hok.kept keep,?_⟩
   ·intro i y t Y T h3;cases i with
    |zero=>
     have G:x=y:=by simpa using Y
     have K:v=t:=by have z:(some (some v):Option (Option V))=some (some t):=T;cases z;rfl
     subst G;subst K;exact⟨u,r,.inl ⟨S.var,by simp[cX7]⟩⟩
    |succ j=>
     have G:names[j]? =some y:=Y;obtain⟨U,e1,e2,Z⟩:=S.from_ j y G;have K:σ[U]? =some (some t):=by
      have z:(M.map λi=>(σ[i]?).join)[j]? =some (some t):=T;rw[bY7,e1]at z;have l:(σ[U]?).join=some t:=bY6 z;cases q:σ[U]? with
      |none=>rw[q]at l;cases l
      |some o=>rw[q]at l;rw[show o=some t from l]
     obtain⟨m,hn,hl⟩:=I.loc;have R:Vis X.env.scope y:= .inr (S.free _ Z rfl);obtain⟨u',ru,lk⟩:=hl U y t e2 K R;refine⟨u',ru,.inr ⟨?_,?_⟩⟩
     ·exact .inr (S.flk _ Z rfl)
     ·rcases lk with⟨k,_⟩|⟨k,c,e,z⟩
      ·rcases S.free _ Z rfl with z|z
       ·have l:X.env.kindOf y=some .cell:=z;rw[k]at l;cases l
       ·have l:X.env.kindOf y=some .free:=z;rw[k]at l;cases l
      ·obtain⟨n,e'⟩:=B y Z;have:=a y n e';rw[e]at this;cases this;exact⟨c,e',z.keeps keep⟩
   ·intro y c e;obtain⟨v,z⟩:=I.cell y c (a y c e);exact⟨v,z.keeps keep⟩
   ·show(sub σ M (some v)).length=(x::names).length;simp[sub,S.len]
  refine PySem.W.kla_codeExpr (cQQ (he A s.heap.objs.size (.ref n) s H [] _ (sub σ M (some v)) H Q IY h) (λw s' D=>?_) (λ_ _ z=>z.elim));obtain⟨t,H',J,rv,q⟩:=D;exact I.after ⟨t,H',J.os,J.bare,J.base,J.hok,rv,q⟩
 refine cZ2 (cXH a0 λr s' D=>?_);cases r with
 |error e=>exact D
 |ok fl=>
  cases fl with
  |ret u=>exact D
  |next=>exact D
  |brk=>exact D
  |cont=>exact D
end
end L2
namespace L2
open PySem PySem.Spec PyProof.Rows
def aKX(c:Nat)(qual:Str):HO:= .ext λh=>h.CodeRec (.ref c) qual
def bWT(q:Nat)(o:Obj):HO:= .ext λh=>h.get? q=some o
theorem bXg{P:bY8}{w:cQg}{H:Hp}{h:Heap}{c:Nat}{qual:Str}(r:h.CodeRec (.ref c) qual):zG P w H h c (aKX c qual):=by
 obtain⟨s,o,p,t,e,b,d,n⟩:=id r;cases e;refine⟨r,⟨o,b⟩,λb d z k=>?_⟩;obtain⟨q,l,a,i,m,f,j,g⟩:=z;cases m;exact⟨_,l,a,i,rfl,k _ f,j,g⟩
theorem aYC{P:bY8}{w:cQg}{H:Hp}{h:Heap}{q:Nat}{o:Obj}(r:h.get? q=some o):zG P w H h q (bWT q o):=⟨r,⟨o,r⟩,λb a z k=>k _ z⟩
def X4(pos:Pos)(qual:Str)(P:Nat)(H:Hp):Prop:=
 H P=some (.tbl #[])\/∃a,H P=some (.tbl (#[]++ #[cQ5 pos.line,cQ5 pos.col,.ref a]))/\H a=some (aKX a qual)
def x8(H a:Hp):Prop:=∀b o,(∀c,o≠ .tbl c)->H b=some o->a b=some o
theorem xF.t{H a:Hp}(k:xF H a):x8 H a:=λb o _ e=>k b o e
theorem x8.refl(H:Hp):x8 H H:=λ_ _ _ e=>e
theorem x8.trans{H f d:Hp}(a:x8 H f)(b:x8 f d):x8 H d:=λc o n e=>b c o n (a c o n e)
theorem x8.lst{H b:Hp}(k:x8 H b){a:Nat}{xs:List V}(h:H a=some (.lst xs)):b a=some (.lst xs):=k a _ (λ_ z=>nomatch z) h
theorem x8.tup{H b:Hp}(k:x8 H b){a:Nat}{xs:List V}(h:H a=some (.tup xs)):b a=some (.tup xs):=k a _ (λ_ z=>nomatch z) h
theorem x8.ext{H b:Hp}(k:x8 H b){a:Nat}{φ:Heap->Prop}(h:H a=some (.ext φ)):b a=some (.ext φ):=k a _ (λ_ z=>nomatch z) h
theorem x8.seq{K:bYO}{H b:Hp}{a:Nat}{xs:List V}(k:x8 H b)(h:SqL K H a xs):SqL K b a xs:=by
 rcases h with h|h
 ·rcases h with h|⟨o,h⟩
  ·exact .inl (.inl (k.lst h))
  ·exact .inl (.inr ⟨o,k a _ (λ_ z=>nomatch z) h⟩)
 ·exact .inr h
theorem aVF:PySem.TriplesOk (#[]:Array bYM).toList:=trivial
theorem aVG{a b:Int}{v:bYM}:PySem.TriplesOk ((#[]++ #[cQ5 a,cQ5 b,v]:Array bYM)).toList:=trivial
theorem aKN{pos:Pos}{v:bYM}:codeAmong pos ((#[]++ #[cQ5 pos.line,cQ5 pos.col,v]:Array bYM)).toList=some v:=by
 show(if((pos.line:Int)==pos.line && (pos.col:Int)==pos.col)=true then some v else _)=some v;simp
section
variable {X:Cx}{pins:List (Nat×Obj)}{σ:St}{H:Hp}{s:bYP}
theorem Inv.tab{P:Nat}{d more:Array bYM}{h':Heap}{t':Nat}(I:Inv X pins σ H s)(h:H P=some (.tbl d))(f:cJp P s.heap h')(j:h'.get? P=some {cls:= .none,data:= .fields (d++more) }): Inv X pins σ (upd H P (.tbl (d++more))) {s with heap:=h',toks:=t'}:=by
 have g:∀b,H b=none->b≠P:=λb n z=>by rw[z,h]at n;cases n
 have ne:∀b o,H b=some o->(∀d,o≠ .tbl d)->b≠P:=λb o e n z=>by subst z;rw[h]at e;cases e;exact n _ rfl
 refine I.un (t':=t') ⟨λb o e n _ _=>f b o (g b n) e,λb o e n _ _=>⟨o.slots,f b o (g b n) e⟩,λb o e n _=>by rw[yJ (g b n)];exact n,λb o e _=>?_,λb k e=>?_,λb o u e=>?_,λb l e=>?_⟩ λb u e=>?_
 ·by_cases a:b=P
  ·exact⟨_,by rw[a];exact j⟩
  ·exact⟨o,f b o a e⟩
 ·rw[yJ (ne b _ e λ_ z=>nomatch z)];exact e
 ·rw[yJ (ne b _ e λ_ z=>nomatch z)];exact e
 ·by_cases a:b=P
  ·subst a;rw[h]at e;cases e;exact⟨more,yB⟩
  ·exact⟨#[],by rw[yJ a,e];simp⟩
 ·by_cases a:b=P
  ·subst a;rw[yB]at e;cases e;exact j
  ·rw[yJ a]at e;refine(I.hok b u e).stay (λc v i q=>f c v ?_ q) (λc q=>?_) λc k q=>?_
   ·rcases i with rfl|i
    ·exact a
    ·exact ne c _ i λ_ z=>nomatch z
   ·rw[yJ (ne c _ q λ_ z=>nomatch z)];exact q
   ·rw[yJ (ne c _ q λ_ z=>nomatch z)];exact q
theorem bXA{name qual:Str}{d:Arguments}{body:Expr}{r:cXZ}{c P:Nat}{pos:Pos}{fl:Nat}{cl:List (Str×Nat)}{E:bYM->bYP->Prop}{Q:bYM->bYP->Prop}(I:Inv X pins σ H s)(D:closureFor r X.env=pure cl)(l:X.env.code= .ref c) (C:cXR X.base c P) (hB:X.base.BuiltinsAt X.mg P) (hT:X4 pos qual P H) (hq:∀ (q f:Nat)(g:bYM)(B:Hp)(s':bYP),Inv X pins σ B s'->H q=none->B q=some (bWT q (cXY name qual d body r cl ((X.mg "__name__").getD .none) f g))->B f=some (aKX f qual)->X4 pos qual P B->x8 H B->Q (.ref q) s'): bYU (bYV X.prog X.w) X.A (makeFunction name qual d (.expr body) r X.env [] [] [] pos fl) Q E s:=by
 have Y:s.heap.Ns cQm X.mg:=I.ok.mod.glob.keeps I.bk;have hC:=C.keeps I.bk;obtain⟨bm,ob,b1,b2,b3,b4,b5,b6⟩:=hB;have F:s.heap.BuiltinsAt X.mg P:=⟨bm,ob,b1,b2,b3,b4,I.bk _ _ b5,b6⟩;rcases hT with p|⟨f,p,L⟩
 ·have m:s.heap.get? P=some (cZo #[]):=I.hok P _ p;have a0:cQm≠P:=λz=>by
   obtain⟨o,es,ep,e,hd,_⟩:=Y;rw[z,m]at e;cases e;cases hd
  refine PySem.W.kla_makeFunction (mg:=X.mg) D I.ok.glob Y l hC m aVF rfl a0 F λf g h tk O i J M y=>?_;have S:=I.tab (t':=tk) p O y;have x:P≠f:=cQd (cQf (bY0 m) i);have nc:H f=none:=I.hok.fresh i;have G:upd H P (.tbl (#[]++ #[cQ5 pos.line,cQ5 pos.col,.ref f])) f=none:=by rw[yJ (cQu x)];exact nc
  have I2:Inv X pins σ (upd (upd H P (.tbl (#[]++ #[cQ5 pos.line,cQ5 pos.col,.ref f]))) f (aKX f qual)) {s with heap:=h,toks:=tk}:=by
   have a2:cJp P s.heap h:=O;have Z:∀b,H b=none->b≠P:=λb n z=>by rw[z,p]at n;cases n
   have ne:∀b o,H b=some o->(∀ps,o≠ .tbl ps)->b≠P:=λb o e n z=>by subst z;rw[p]at e;cases e;exact n _ rfl
   have U:∀b o,s.heap.get? b=some o->b≠f:=λb o e=>cQd (cQf (bY0 e) i);have T:∀b,b≠P->b≠f->upd (upd H P (.tbl (#[]++ #[cQ5 pos.line,cQ5 pos.col,.ref f]))) f (aKX f qual) b=H b:=λb h1 h2=>by rw[yJ h2,yJ h1]
   have hl:∀b u,H b=some u->b≠f:=λb u e=>yI e nc;refine I.un (t':=tk) ⟨λb o e n _ _=>O b o (Z b n) e,λb o e n _ _=>⟨o.slots,O b o (Z b n) e⟩,λb o e n _=>by rw[T b (Z b n) (U b o e)];exact n,λb o e _=>?_,λb xs e=>?_,λb o u e=>?_,λb qs e=>?_⟩ λb u e=>?_
   ·by_cases K:b=P
    ·exact⟨_,by rw[K];exact y⟩
    ·exact⟨o,O b o K e⟩
   ·rw[T b (ne b _ e λ_ z=>nomatch z) (hl b _ e)];exact e
   ·rw[T b (ne b _ e λ_ z=>nomatch z) (hl b _ e)];exact e
   ·by_cases K:b=P
    ·subst K;rw[p]at e;cases e;exact⟨_,by rw[yJ x];exact yB⟩
    ·exact⟨#[],by rw[T b K (hl b _ e),e];simp⟩
   ·by_cases N:b=f
    ·subst N;rw[yB]at e;cases e;exact bXg M
    ·rw[yJ N]at e;refine(S.hok b u e).stay (λc v _ q=>q) (λc q=>?_) λc xs q=>?_
     ·rw[yJ (yI q G)];exact q
     ·rw[yJ (yI q G)];exact q
  have j:H h.objs.size=none:=I.hok.fresh (cQo i (cZu J));have V:=I2.laid (a:=h.objs.size) (o:=bWT h.objs.size (cXY name qual d body r cl ((X.mg "__name__").getD .none) f g)) (t':=tk) (h':=h.push (cXY name qual d body r cl ((X.mg "__name__").getD .none) f g))
   (λb o e=>bYS _ e) (bYT _) (aYC (cQh _ rfl))
  have R:f≠h.objs.size:=cQd J;have a1:P≠h.objs.size:=cQd (bY0 y);refine hq h.objs.size f g _ _ V j yB (by rw[yJ R];exact yB) (.inr ⟨f,by rw[yJ a1,yJ x];exact yB,by rw[yJ R];exact yB⟩) λb o n e=>?_;have h1:b≠P:=λz=>by subst z;rw[p]at e;cases e;exact n _ rfl
  rw[yJ (yI e j),yJ (yI e nc),yJ h1];exact e
 ·have m:s.heap.get? P=some (cZo (#[]++ #[cQ5 pos.line,cQ5 pos.col,.ref f])):=I.hok P _ p;refine PySem.W.kla_makeFunctionHit (mg:=X.mg) D I.ok.glob Y l hC m aVG aKN F λg h tk hk i=>?_;have S:Inv X pins σ H {s with heap:=h,toks:=tk}:=I.kept hk;have j:H h.objs.size=none:=S.hok.fresh (bYT _);have V:=S.laid (a:=h.objs.size) (o:=bWT h.objs.size (cXY name qual d body r cl ((X.mg "__name__").getD .none) f g)) (t':=tk) (h':=h.push (cXY name qual d body r cl ((X.mg "__name__").getD .none) f g))
   (λb o e=>bYS _ e) (bYT _) (aYC (cQh _ rfl))
  have k:=yE j (bWT h.objs.size (cXY name qual d body r cl ((X.mg "__name__").getD .none) f g));exact hq h.objs.size f g _ _ V j yB (k _ _ L) (.inr ⟨f,k _ _ p,k _ _ L⟩) k.t
end
end L2
namespace Stree
open PySem PySem.W PySem.Calls PyProof.Rows
theorem aQo{α:Type}(p q:α->Bool):∀ (l:List α),(∀a∈l,p a=true->q a=true)->(∃a∈l,p a=false/\q a=true)->l.countP p<l.countP q
 |[],_,h=>by obtain⟨a,b,_⟩:=h;cases b
 |x::r,hs,h=>by
  have f:r.countP p<=r.countP q:=List.countP_mono_left λa b=>hs a (bYZ _ b);obtain⟨a,b,d,c⟩:=h;rcases bYX.mp b with rfl|b
  ·rw[cJu,cJu,d,c];simp;omega
  ·have g:=aQo p q r (λa b=>hs a (bYZ _ b)) ⟨a,b,d,c⟩;rw[cJu,cJu];have:=hs x bY4;cases e:p x with
   |false=>cases q x<;> simp<;> omega
   |true=>rw[this e];simp;omega
theorem aVd{n:Nat}(lt:Nat->Nat->Bool)(f:∀i,i<n->lt i i=false)(p:∀i j k,i<n->j<n->k<n->lt i j=true->lt j k=true->lt i k=true)(g:∀i j,i<n->j<n->i≠j->lt i j=true\/lt j i=true): ∃r:Nat->Int,Inj n r/\∀i j,i<n->j<n->decide (r i<r j)=lt i j:=by
 refine⟨λi=>((bYW n).countP λm=>lt m i:Nat),?_,?_⟩
 ·have up:∀i j,i<n->j<n->lt i j=true->((bYW n).countP λm=>lt m i)<((bYW n).countP λm=>lt m j):=λi j a c h=>
   aQo _ _ _ (λm o d=>p m i j (cQi.mp o) a c d h) ⟨i,cQi.mpr a,f i a,h⟩
  intro i j a c e;by_cases b:i=j
  ·exact b
  ·exfalso;have q:(((bYW n).countP λm=>lt m i:Nat):Int)=((bYW n).countP λm=>lt m j:Nat):=e;rcases g i j a c b with h|h
   ·have:=up i j a c h;omega
   ·have:=up j i c a h;omega
 ·intro i j a c;have up:∀i j,i<n->j<n->lt i j=true->((bYW n).countP λm=>lt m i)<((bYW n).countP λm=>lt m j):=λi j a c h=>
   aQo _ _ _ (λm o d=>p m i j (cQi.mp o) a c d h) ⟨i,cQi.mpr a,f i a,h⟩
  cases h:lt i j with
  |true=>have:=up i j a c h;exact decide_eq_true (by show(((bYW n).countP λm=>lt m i:Nat):Int)<((bYW n).countP λm=>lt m j:Nat);omega)
  |false=>
   refine decide_eq_false ?_;show ¬ (((bYW n).countP λm=>lt m i:Nat):Int)<((bYW n).countP λm=>lt m j:Nat);by_cases b:i=j
   ·subst b;omega
   ·rcases g i j a c b with l|l
    ·rw[h]at l;cases l
    ·have:=up j i c a l;omega
section
variable {prog:bY8}{w:cQg}{A:cQv}{E:bYM->bYP->Prop}{s:bYP}
theorem aXQ{r:Nat}{n:Nat}{t u v:Tok}{Q:List bYM->bYP->Prop}(S:A.handled=none)(I:IsRange s.heap r 0 n 1 t u v)(V:n<64) (U:∀j tk H,(∀b o,s.heap.get? b=some o->j.get? b=some o)->s.heap.objs.size<j.objs.size->cZn H ((bYW n).map Int.ofNat)->Q H {s with heap:=j,toks:=tk}):bYU (bYV prog w) A (collect (.ref r)) Q E s:=by
 have P:Builtin.Range.rangeSize 0 n 1=(n:Int):=by rw[rangeSize_one];split<;> omega
 have B:Builtin.Range.small 0 n 1=true:=small_one (by decide) (by decide) (by omega) (by omega);unfold collect;refine bYN (wpAny_runValue (cX0 F.entry_proto_collect ?_));rw[cXJ F.plain_proto_collect _];show bYU _ A.in1 (newList [] >>=λl=>again (.builtin "list.__iadd__" ⟨[l,.ref r],[]⟩)) _ _ s;refine bYN (cQ3 ?_);refine bYQ ⟨cZ6 F.plain_list_iadd _,cX0 F.entry_list_iadd ?_⟩;rw[cXJ F.plain_list_iadd _];have d:(s.heap.push {cls:= .type "list",data:= .seq ([]:List bYM).toArray}).get? s.heap.objs.size=some {cls:= .type "list",data:= .seq ([]:List bYM).toArray}:=cQh _ rfl;show bYU _ A.in1 (cZS (.ref s.heap.objs.size) (.ref r) (.ref s.heap.objs.size)) _ _ _;refine cQQ (wpAny_extend_range (A:=A) (R:=λq y=>q= .ok (.ret (.ref s.heap.objs.size))/\∃a g,y.heap.get? s.heap.objs.size=some {cls:= .type "list",dict:=none,data:= .seq a g,slots:= #[] }/\Q a.toList y) (s:={s with heap:=s.heap.push {cls:= .type "list",data:= .seq ([]:List bYM).toArray} }) S (bYS _ I) B P (by omega) s.heap.objs.size (.ref s.heap.objs.size) 0 d λj tk a g J p c=>⟨rfl,a,g,p,?_⟩) (λfin y C=>?_) λe y N=>by obtain⟨z,_⟩:=N;cases z
 rotate_left
 ·cases fin with
  |done f=>
   obtain⟨e,a,g,m,h⟩:=C;have T:f= .ret (.ref s.heap.objs.size):=by cases e;rfl
   subst T;exact bYN (wpAny_load m (bYQ h))
  |again g=>
   exact⟨C.1,cXH C.2 λq M O=>by
    obtain⟨rfl,a,g,m,h⟩:=O;exact bYN (wpAny_load m (bYQ h))⟩
 refine U j tk a.toList (λb o e=>J b o (cQd (bY0 e)) (bYS _ e)) (bY0 p) ?_;have len:a.toList.length=n:=by rw[cQ6];exact c.1
 have all:∀ (k:Nat)(l:List bYM),l.length<=n->k+l.length=n->(∀i v,l[i]? =some v->∃t,v=Value.int ((k+i:Nat):Int) t)->cZn l ((List.range' k l.length).map Int.ofNat):=by
  intro k l;induction l generalizing k with
  |nil=>intro _ _ _;exact .nil
  |cons x l K=>
   intro m h G;obtain⟨t,rfl⟩:=G 0 x rfl;rw[cQN,List.range'_succ,cQz];exact .cons _ _ (K (k+1) (by rw[cQN]at m;omega) (by rw[cQN]at h;omega) λi v D=>by
    obtain⟨L,e⟩:=G (i+1) v D;exact⟨L,by rw[e,show k+(i+1)=k+1+i by omega]⟩)
 have z:=all 0 a.toList (by omega) (by omega) λi v D=>by obtain⟨t,e⟩:=c.2 i v (by rw[<- cXn];exact D);exact⟨t,by rw[e,show(0:Int)+(i:Int)*1=((0+i:Nat):Int) by omega]⟩
 rw[len]at z;rw[List.range_eq_range'];exact z
theorem aJp{r:Nat}{n:Nat}{t u v:Tok}{b:Bool}{f:bYM}{g:List (Str×bYM)}{Q:bYM->bYP->Prop}(G:A.handled=none)(B:IsRange s.heap r 0 n 1 t u v)(H:n<64) (k:argsOk "sorted" ⟨[.ref r],g⟩) (q:∀x,argsOk "list.sort" ⟨[.ref x],g⟩) (D:∀x,cXD.«list.sort» ⟨[.ref x],g⟩=ksk_tree x f b) (h:∀a c tk d,(∀b o,s.heap.get? b=some o->c.get? b=some o)->s.heap.objs.size<=a->c.get? a=some (cQB "list" d.toArray 0)->cZn d ((bYW n).map Int.ofNat)-> bYU (bYV prog w) A.in1.in1 (ksk_tree a f b) (λfin z=>fin= .done (.ret .none)/\Q (.ref a) z) (λ_ _=>False) {s with heap:=c,toks:=tk}): bYU (bYV prog w) A (call (.builtin "sorted") [.ref r] g) Q E s:=by
 refine call_function_entry_kw kind_sorted plain_sorted entry_sorted k ?_;unfold cXD.«sorted»;refine bYN (m:=checkCount "sorted" 1 1 _) (bYQ ?_);refine bYN (aXQ (A:=A.in1) (by simpa using G) B H λc tk d C j y=>?_);have F:d.length=n:=by rw[y.length];simp
 refine bYN (cZ8 ?_ (by rw[cQe];omega));have i:(c.push (cQB "list" d.toArray 0)).get? c.objs.size=some (cQB "list" d.toArray 0):=cQh _ rfl;have p:s.heap.objs.size<=c.objs.size:=cZu j;refine bYN (cQ7 (wpAny_call_entry_kw slot_list_sort ⟨_,i,rfl⟩ entry_list_sort ?body (q _)));case body=>
  show bYU (bYV prog w) A.in1.in1 (cXD.«list.sort» ⟨[.ref c.objs.size],g⟩) _ _ _;rw[D c.objs.size];refine cQQ (h c.objs.size (c.push (cQB "list" d.toArray 0)) tk d (λb o e=>bYS _ (C b o e)) p i y) (λfin z l=>?_) λ_ _ x=>x.elim;obtain⟨rfl,l⟩:=l;exact⟨_,rfl,bYQ ⟨_,rfl,l⟩⟩
end
end Stree
namespace Stree
open PySem PySem.W PySem.Calls PyProof.Rows
def wK(a b:Int×Int):Bool:=decide (a.1<b.1) || (decide (a.1=b.1) && decide (a.2<b.2))
theorem vV(a:Int×Int):wK a a=false:=by simp[wK]
theorem aX0{a b c:Int×Int}(e:wK a b=true)(d:wK b c=true):wK a c=true:=by
 simp only[wK,Bool.or_eq_true,Bool.and_eq_true,decide_eq_true_eq]at e d ⊢;omega
theorem aXZ{a b:Int×Int}(h:a≠b):wK a b=true\/wK b a=true:=by
 have c:¬ (a.1=b.1/\a.2=b.2):=λ⟨x,y⟩=>h (Prod.ext x y);simp only[wK,Bool.or_eq_true,Bool.and_eq_true,decide_eq_true_eq];omega
section
variable {prog:bY8}{w:cQg}{A:cQv}{E:bYM->bYP->Prop}{s:bYP}
theorem aJN{a c:Int}{t t':Tok}{Q:Bool->bYP->Prop}(h:Q (a==c) s):bYU (bYV prog w) A (eqBool (.int a t) (.int c t')) Q E s:=
 (L2.bJg (A:=A) (s:=s) (y:= .int a) (x:= .int c) ⟨t,rfl⟩ ⟨t',rfl⟩ rfl rfl) prog w E Q h
theorem aYv{x y:Nat}{i f:Obj}{n k:Nat}{a b c d:Int}{o t l m:Tok}{Q:Bool->bYP->Prop}(r:s.heap.get? x=some i)(dx:i.data= .seq #[.int a o,.int b t] n)(q:s.heap.get? y=some f)(j:f.data= .seq #[.int c l,.int d m] k) (h:Q (wK (a,b) (c,d)) s):bYU (bYV prog w) A (keyLt' (tuples' true) (.ref x) (.ref y)) Q E s:=by
 refine kat_lt r dx q j ?_;refine kat_cons (aJN ?_);unfold wK at h;by_cases e:a=c
 ·subst e;simp only[Int.lt_irrefl,decide_false,Bool.false_or,decide_true,Bool.true_and]at h;rw[beq_self_eq_true];refine kat_yes (kat_cons (aJN ?_));by_cases g:b=d
  ·subst g;rw[beq_self_eq_true];refine kat_yes (kat_nil ?_);simpa using h
  ·rw[beq_eq_false_iff_ne.mpr g];refine kat_no (kat_one _ _ ?_);exact lt_int h
 ·rw[beq_eq_false_iff_ne.mpr e];have p:Q (decide (a<c)) s:=by
   have:decide (a=c)=false:=decide_eq_false e;simpa[this]using h
  refine kat_no ?_;exact oneLt_int p
end
end Stree
namespace L2
open PySem PySem.Spec PyProof.Rows
def ixb(b:Bool)(n i:Nat):Nat:=if b=true then n - 1 - i else i
theorem aZW{b:Bool}{n i:Nat}(h:i<n):ixb b n i<n:=by unfold ixb;split<;> omega
theorem bJ6{b:Bool}{n i j:Nat}(a:i<n)(c:j<n)(h:ixb b n i=ixb b n j):i=j:=by unfold ixb at h;split at h<;> omega
theorem aZa{α:Type}{b:Bool}{l:List α}{n i:Nat}{d:α}(a:l.length=n)(c:i<n):(cQ1 b l).getD i d=l.getD (ixb b n i) d:=by
 unfold cQ1 ixb;split
 ·simp only[cQx];rw[List.getElem?_reverse (by omega),a]
 ·rfl
theorem bW1{n:Nat}{b:Bool}{a:Nat->Int×Int}{r:Nat->Int}{p:List Nat}(l:p.Perm (bYW n))(k:p.Pairwise λi j=>r i<r j)(g:∀i j,i<n->j<n->decide (r i<r j)=Stree.wK (a (ixb b n i)) (a (ixb b n j))): (cQ1 b (p.map (ixb b n))).Perm (bYW n)/\(cQ1 b (p.map (ixb b n))).Pairwise λi j=>Stree.wK (if b=true then a j else a i) (if b=true then a i else a j)=true:=by
 have f:(p.map (ixb b n)).Pairwise λi j=>Stree.wK (a i) (a j)=true:=by rw[cJk];have m:∀i∈p,i<n:=λi c=>cQi.mp (l.mem_iff.mp c);refine k.imp_of_mem λ{i j} c hj h=>?_;rw[<- g i j (m i c) (m j hj)];exact decide_eq_true h
 have d:=l.map (ixb b n);cases b with
 |false=>
  have e:ixb false n=id:=by funext i;rfl
  rw[e]at d f ⊢;rw[cJq,cJq]at d;rw[cJq]at f ⊢;exact⟨d,f⟩
 |true=>
  have e:(bYW n).map (ixb true n)=(bYW n).reverse:=by
   apply cXA;intro i;by_cases c:i<n
   ·rw[bY7,cXO c,List.getElem?_reverse (by simpa using c),cQG,cXO (by omega)];rfl
   ·rw[cQk (by simp;omega),cQk (by simp;omega)]
  rw[e]at d;refine⟨(List.reverse_perm _).trans (d.trans (List.reverse_perm _)),?_⟩;show((p.map (ixb true n)).reverse).Pairwise _;rw[List.pairwise_reverse];exact f
def bJJ(H:Hp)(b:Nat->Int×Int)(c:List bYM):Prop:=∀i v,c[i]? =some v->∃a,v= .ref a/\H a=some (.tup [.int (b i).1,.int (b i).2])
def bZX(te:TE)(fr:List Nat)(tb:TE)(P:Nat)(lpos:Pos)(qual:Str)(b:Bool):TE:=λσ H Q=>te σ H λv f=>∃n:Nat,v= .int n/\n<64/\X4 lpos qual P f/\∃kz:Nat->Int×Int,
 (∀i j,i<n->j<n->kz i=kz j->i=j)/\
 (∀i d,i<n->x8 f d->X4 lpos qual P d->∀R:VK,(∀a e,x8 d e->e P=d P->e a=some (.tup [.int (kz i).1,.int (kz i).2])->R (.ref a) e)->tb (sub σ fr (some (.int i))) d R)/\
 ∀H5 l (c:List Nat),x8 f H5->X4 lpos qual P H5->f l=none->c.Perm (bYW n)->(c.Pairwise λi j=>Stree.wK (if b=true then kz j else kz i) (if b=true then kz i else kz j)=true)->H5 l=some (.lst (c.map λi=> .int (i:Nat)))->Q (.ref l) H5
theorem X4.keep{lpos:Pos}{qual:Str}{P:Nat}{H a:Hp}(t:X4 lpos qual P H)(k:x8 H a)(e:a P=H P):X4 lpos qual P a:=by
 rcases t with t|⟨c,b,d⟩
 ·exact .inl (e.trans t)
 ·exact .inr ⟨c,e.trans b,k.ext d⟩
section
variable {X:Cx}{e body:Expr}{te tb:TE}{x:Str}{names:List Str}{fr:List Nat}{sc:cXZ}{params:Arguments}{qual:Str}{p p2 p3 pos lpos kp kp2 bp:Pos}{j:Nat}{b:Bool}{c P:Nat}{k:Nat}
theorem aKg(d9:Gl X "sorted")(d7:X.mg "sorted"=none)(e8:Gl X "range")(e5:X.mg "range"=none)(he:PE X e te)(S:xQ X.N X.env.scope x names fr sc)(f0:sc.isCoroutine=false)(b7:sc.isGenerator=false)
  (b3:X.env.code= .ref c) (C:cXR X.base c P) (hB:X.base.BuiltinsAt X.mg P) (hr:vZ (k+1) X.A) (b9:defaultsOf params X.env=([],[])) (hq:X.env.qual++"<lambda>"=qual)
  (hb:∀ (cl:List (Str×Nat))(pm f9 b2 u:bYM),bindArgs (PySem.W.kla_fn "<lambda>" qual params body sc cl pm f9 b2) ⟨[u],[]⟩=pure [(x,u)])
  (a7:∀A L q cd cl s H,PE (bKH X A (x::names) qual sc L q cd cl s H) body tb) (b1:cQw "sorted"=some (.builtin "sorted"):=dk)
  (s2:cQt [e] X.env= [(false,eval e X.env)]:=by rfl):
  PE X (.Call (.Name "sorted" p) [.Call (.Name "range" p2) [e] [] p3] [⟨some "key",.Lambda params body sc lpos,kp⟩,⟨some "reverse",.Constant (.bool b) j bp,kp2⟩] pos) (bZX te fr tb P lpos qual b):=by
 intro g s σ H Q I h
 refine cXv (aXC I d9 d7 b1 ?_)
 refine callWith_kw ?_
 show bYU _ _ (spliced ((false,eval (.Call (.Name "range" p2) [e] [] p3) X.env):: [])) _ _ s
 refine Calls.spliced_cons ?_
 refine cXv (aXC I e8 e5 boot_range ?_)
 refine cZT ?_ s2 rfl
 refine thn (yA he yD s2 p3 g s σ H (λvs H1=>match vs with|[v]=>(∃n:Nat,v= .int n/\n<64/\X4 lpos qual P H1/\∃kz:Nat->Int×Int,
   (∀i j,i<n->j<n->kz i=kz j->i=j)/\
   (∀i B,i<n->x8 H1 B->X4 lpos qual P B->∀R:VK,(∀a Y,x8 B Y->Y P=B P->Y a=some (.tup [.int (kz i).1,.int (kz i).2])->R (.ref a) Y)->tb (sub σ fr (some (.int i))) B R)/\
   ∀H5 l (a8:List Nat),x8 H1 H5->X4 lpos qual P H5->H1 l=none->a8.Perm (bYW n)->(a8.Pairwise λi j=>Stree.wK (if b=true then kz j else kz i) (if b=true then kz i else kz j)=true)->H5 l=some (.lst (a8.map λi=> .int (i:Nat)))->Q (.ref l) H5)|_=>False) I h) λus s1 ⟨vs,H1,I1,r1,z⟩=>?_
 match vs,z with
 |[v],⟨n,e2,hn,hT,kz,hinj,hkey,hfin⟩=>
  subst e2;obtain⟨u,rfl,ru⟩:=aXe r1;obtain⟨t,rfl⟩:=ru;refine call_range_1 (Calls.spliced_nil ?_);have fR:=I1.fpOk (b:=s1.heap.objs.size) (bYT _) I1.fresh;have I2:Inv X ((s1.heap.objs.size,{cls:= .type "range",data:= .fields #[.int 0 s1.toks,.int (n:Int) t,.int 1 (s1.toks+1)] })::g) σ H1 {s1 with heap:=s1.heap.push {cls:= .type "range",data:= .fields #[.int 0 s1.toks,.int (n:Int) t,.int 1 (s1.toks+1)] },toks:=s1.toks+1+1}:=by
   have I0:Inv X g σ H1 {s1 with heap:=s1.heap.push {cls:= .type "range",data:= .fields #[.int 0 s1.toks,.int (n:Int) t,.int 1 (s1.toks+1)] },toks:=s1.toks+1+1}:=I1.kept λb o e=>bYS _ e;refine I0.pins_of λq hq=>?_;rcases bYX.mp hq with rfl|hq
   ·exact⟨cQh _ rfl,fR.1,fR.2.1,fR.2.2.1,λv z=>by cases z⟩
   ·exact I0.pin q (cQc _ hq)
  obtain⟨cl,c1,c2,c4⟩:=aJT S I2;refine kws_cons (PySem.W.kla_eval b9 ?_);rw[hq];refine bXA I2 c1 b3 C hB hT λq c' b2 H' s' I3 g8 e7 a9 g4 b4=>?_;refine kws_cons (Constant_bool (kws_nil ?_));show bYU _ _ (call (.builtin "sorted") [.ref s1.heap.objs.size] [(cZR "key",.ref q),(cZR "reverse",.bool b)]) _ _ s';have a3:IsRange s'.heap s1.heap.objs.size 0 n 1 s1.toks t (s1.toks+1):=(I3.pin _ (cQc _ (bY4 ..))).1;have I4:Inv X g σ H' s':=I3.pins_of λp G=>I3.pin p (cQc _ (bYZ _ G));refine Stree.aJp hr.hd a3 hn (ksk_s2 _ _ _) (λx=>ksk_l2 _ _ _) (λx=>ksk_t2 q x b) λa O tk vs hk a1 ha hI=>?_;have a0:vs.length=n:=by rw[hI.length];simp
  have I5:Inv X g σ H' {s' with heap:=O,toks:=tk}:=I4.kept hk;have Z:=I4.fpOk (b:=a) a1 (I4.hok.fresh a1);have c3:a<O.objs.size:=bY0 ha;have b6:s'.heap.objs.size<=O.objs.size+1:=cQo a1 (cZu (cQY c3));have U:=I4.fpOk (b:=O.objs.size+1) b6 (I4.hok.fresh b6);refine Stree.bKq (s:={s' with heap:=O,toks:=tk}) ha (by rw[a0];exact hn) (λe1 w M=>∃ (B:Hp)(e:Nat),Inv X ((a,cQB "list" #[] e1)::(O.objs.size+1,cQB "list" w.toArray e)::g) σ B M/\x8 H' B/\X4 lpos qual P B/\bJJ B kz w) ?h0 ?hget ?hcall ?hend;case h0=>
   intro e1 h2 k2 a2 q2;have I6:Inv X g σ H' {s' with heap:=h2,toks:=tk}:=I5.turned (t':=tk) (h':=h2) (λb o hb e=>k2 b o hb e) Z.1 Z.2.1 Z.2.2.2.1 Z.2.2.2.2.1 Z.2.2.2.2.2;refine⟨H',0,I6.pins_of λp G=>?_,x8.refl _,g4,λi v D=>by simp at D⟩;rcases bYX.mp G with rfl|G
   ·exact⟨a2,Z.1,Z.2.1,Z.2.2.1,λv z=>by cases z⟩
   ·rcases bYX.mp G with rfl|G
    ·exact⟨q2,U.1,U.2.1,U.2.2.1,λv z=>by cases z⟩
    ·exact I6.pin p (cQc _ G)
  case hget=>
   rintro e1 w M ⟨B,e,J,_,_,_⟩;exact⟨⟨e,(J.pin _ (cQc _ (bYZ _ (bY4 ..)))).1⟩,(J.pin _ (cQc _ (bY4 ..))).1⟩
  case hcall=>
   rintro e1 w M v ⟨B,e,J,k3,t3,z3⟩ D;have F:w.length<n:=by
    rcases cZP w.length vs.length with h|h
    ·omega
    ·rw[cQk h]at D;cases D
   obtain⟨t',rfl⟩:∃t',v=Value.int (w.length:Nat) t':=by
    have r:=jF hI;have e3:((((bYW n).map Int.ofNat)).map V.int)[w.length]? =some (V.int (w.length:Nat)):=by simp[F]
    obtain⟨u,hu,ru⟩:=r.get e3;rw[D]at hu;cases hu;exact ru
   have f5:M.heap.get? q=some (cXY "<lambda>" qual params body sc cl ((X.mg "__name__").getD .none) c' b2):=(J.hok q _ (k3.ext e7)).1;have c9:M.heap.CodeRec (.ref c') qual:=(J.hok c' _ (k3.ext a9)).1;refine cQQ (bXz (A:=X.A.in1.in1) J I.ok.frames hr.hd (by have:=hr.dp;show X.A.depth<_;omega) S f0 b7 c2 c4 f5 c9 (λu=>hb cl _ _ _ u) (λA L cd s H=>a7 A L q cd cl s H) (v:= .int (w.length:Nat)) ⟨t',rfl⟩ (Q:=λv Y=>∃a4,v= .ref a4/\x8 B Y/\Y P=B P/\Y a4=some (.tup [.int (kz w.length).1,.int (kz w.length).2])) (hkey w.length B F (b4.trans k3) t3 _ λa4 Y k4 p4 e4=>⟨a4,rfl,k4,p4,e4⟩)) (λkv s4 f8=>?_) λ_ _ x=>x;obtain⟨v4,Y,J4,e9,a4,rfl,k4,p4,e4⟩:=f8;cases e9;refine⟨⟨e,(J4.pin _ (cQc _ (bYZ _ (bY4 ..)))).1⟩,λh5 c5 sb d6=>?_⟩;have f7:Inv X g σ Y s4:=J4.pins_of λp G=>J4.pin p (cQc _ (bYZ _ (bYZ _ G)));have pa:=J4.pin _ (cQc _ (bY4 ..));have pk:=J4.pin _ (cQc _ (bYZ _ (bY4 ..)));have J5:Inv X g σ Y {s4 with heap:=h5,toks:=s4.toks}:=f7.turned (t':=s4.toks) (h':=h5) (it:=O.objs.size+1) (λb o hb e=>(sb.2 b hb).trans e) pk.2.1 U.2.1 U.2.2.2.1 U.2.2.2.2.1 U.2.2.2.2.2;refine⟨Y,c5,J5.pins_of λp G=>?_,k3.trans k4,t3.keep k4 p4,λi v D=>?_⟩
   ·rcases bYX.mp G with rfl|G
    ·exact⟨(sb.2 _ (cQd (cQY c3))).trans pa.1,pa.2⟩
    ·rcases bYX.mp G with rfl|G
     ·exact⟨d6,pk.2.1,U.2.1,U.2.2.1,λv z=>by cases z⟩
     ·exact J5.pin p (cQc _ G)
   ·by_cases f6:i<w.length
    ·rw[cQp f6]at D;obtain⟨a6,e6,h6⟩:=z3 i v D;exact⟨a6,e6,k4.tup h6⟩
    ·rw[bY9 (by omega)]at D;have:i - w.length=0:=by
      rcases cZP (i - w.length) 1 with h|h
      ·omega
      ·rw[cQk (by simpa using h)]at D;cases D
     have ei:i=w.length:=by omega
     subst ei;simp at D;exact⟨a4,D.symm,e4⟩
  case hend=>
   rintro e1 w M ⟨B,e,J,k3,t3,z3⟩ hl;have J':Inv X g σ B M:=J.pins_of λp G=>J.pin p (cQc _ (bYZ _ (bYZ _ G)));have c8:w.length=n:=by omega
   obtain⟨r,d5,c7⟩:=Stree.aVd (n:=n) (λi j=>Stree.wK (kz (ixb b n i)) (kz (ixb b n j))) (λi _=>Stree.vV _) (λi j k _ _ _ O h2=>Stree.aX0 O h2)
    (λi j F hj f4=>Stree.aXZ λz=>f4 (bJ6 F hj (hinj _ _ (aZW F) (aZW hj) z)))
   have ob:∀i,i<n->∃a o t1 t2 m,w.getD i Value.none= .ref a/\M.heap.get? a=some o/\o.cls= .type "tuple"/\o.data= .seq #[.int (kz i).1 t1,.int (kz i).2 t2] m:=λi F=>by obtain⟨a6,e6,h6⟩:=z3 i (w.getD i Value.none) (by simp[cQx,bYL (show i<w.length by omega)]);obtain⟨g9,rv,pl,_⟩:=J'.tuple (SqT.of h6);obtain⟨u1,u2,rfl,r1,r2⟩:=xY.two rv;obtain⟨t1,rfl⟩:=r1;obtain⟨t2,rfl⟩:=r2;obtain⟨o,g1,g2,m,g3⟩:=pl;exact⟨a6,o,t1,t2,m,e6,g1,g2,g3⟩
   refine⟨r,by rw[a0];exact d5,λ_=>⟨tuples' true,λQ' e0=>?_,λi j C' F hj hC=>?_⟩,λp h5 c5 c6 b0 d4 k5 g5 o5=>?_⟩
   ·have b5:∀ (l:List bYM)(k:Nat),(∀ (i:Nat)(v:bYM),l[i]? =some v->∃a o t1 t2 m x y,v=Value.ref a/\M.heap.get? a=some o/\o.cls= .type "tuple"/\o.data= .seq #[.int x t1,.int y t2] m)->
      ∃fs,cVl M.heap l fs/\fs.length=l.length/\∀f∈fs,∃x t,f=Value.int x t:=by
     intro l
     induction l with
     |nil=>intro _ _;exact⟨[],trivial,rfl,λf hf=>by cases hf⟩
     |cons v l ih=>
      intro k D;obtain⟨a,o,t1,t2,m,x,y,rfl,g1,g2,g3⟩:=D 0 v rfl;obtain⟨fs,f1,f2,f3⟩:=ih (k+1) λi v h=>D (i+1) v h;refine⟨.int x t1::fs,cJE g1 g2 g3 rfl f1,by simp[f2],λf hf=>?_⟩;rcases bYX.mp hf with rfl|hf
      ·exact⟨x,t1,rfl⟩
      ·exact f3 f hf
    obtain⟨fs,f1,f2,f3⟩:=b5 w 0 λi v D=>by
     have F:i<n:=by
      rcases cZP i w.length with h|h
      ·omega
      ·rw[cQk h]at D;cases D
     obtain⟨a,o,t1,t2,m,g0,g1,g2,g3⟩:=ob i F;have:w.getD i Value.none=v:=by simp[cQx,D]
     rw[this]at g0;exact⟨a,o,t1,t2,m,_,_,g0,g1,g2,g3⟩
    refine PySem.W.kat_kind (T:= .type "int") f1 (by omega) (λv D=>?_) rfl e0;obtain⟨x,t,rfl⟩:=f3 v D;exact .now
   ·rw[a0]at F hj;obtain⟨ai,oi,t1,t2,m1,g0,g1,g2,g3⟩:=ob _ (aZW (b:=b) F);obtain⟨aj,oj,t3,t4,m2,d0,d1,d2,d3⟩:=ob _ (aZW (b:=b) hj);show bYU _ _ (keyLt' _ ((cQ1 b w).getD i Value.none) ((cQ1 b w).getD j Value.none)) _ _ _;rw[aZa c8 F,aZa c8 hj,g0,d0];refine Stree.aYv g1 g3 d1 d3 ?_;have:=c7 i j F hj;rw[this]at hC;exact hC
   ·rw[a0]at b0;obtain⟨q1,q2⟩:=bW1 b0 d4 c7;have hm:∀i∈p,i<n:=λi F=>cQi.mp (b0.mem_iff.mp F);have vv:∀l:List Nat,(∀i∈l,i<n)->xY ((l.map (ixb b n)).map λi=>V.int (i:Nat)) (l.map λi=>(cQ1 b vs).getD i Value.none):=by
     intro l;induction l with
     |nil=>intro _;exact .nil
     |cons i l ih=>
      intro h;refine .cons ?_ (ih λj hj=>h j (bYZ _ hj));have F:=h i bY4;show zI (V.int (ixb b n i:Nat)) ((cQ1 b vs).getD i Value.none);rw[aZa a0 F];have hx:=aZW (b:=b) F;have e3:((((bYW n).map Int.ofNat)).map V.int)[ixb b n i]? =some (V.int (ixb b n i:Nat)):=by simp[hx]
      obtain⟨u,hu,ru⟩:=(jF hI).get e3;have:vs.getD (ixb b n i) Value.none=u:=by simp[cQx,hu]
      rw[this];exact ru
    have v2:=vv p hm;have v3:xY ((cQ1 b (p.map (ixb b n))).map λi=>V.int (i:Nat)) (cQ1 b (p.map λi=>(cQ1 b vs).getD i Value.none)):=by
     unfold cQ1 at v2 ⊢;split
     ·rw[List.map_reverse];rename_i a5;simp only[a5]at v2 ⊢;exact v2.reverse
     ·rename_i a5;simp only[a5]at v2 ⊢;exact v2
    have na:B a=none:=(J.pin _ (cQc _ (bY4 ..))).2.1;have nk:B (O.objs.size+1)=none:=(J.pin _ (cQc _ (bYZ _ (bY4 ..)))).2.1;have c0:(cQ1 b (p.map (ixb b n))).length=n:=by rw[q1.length_eq,cQG]
    have d8:Inv X g σ (upd B a (.lst ((cQ1 b (p.map (ixb b n))).map λi=>V.int (i:Nat)))) {M with heap:=h5,gens:=M.gens,drawn:=M.drawn,toks:=M.toks}:=by
     have K:∀d,d∉ [a,O.objs.size+1]->d≠a/\d≠O.objs.size+1:=λd E=>⟨λz=>E (by simp[z]),λz=>E (by simp[z])⟩;refine J'.step (ch:= [a,O.objs.size+1]) (λd E=>?_) (λd o _ _ E e _=>?_) (λd o _ _ E e _=>?_) (λd o E e n=>?_) (λd o E e=>?_) (λd xs e=>?_) (λd o u e=>?_) (λd qs e=>?_) (λm g7=>?_) (λd u e=>?_) J'.bare
     ·rcases bYX.mp E with rfl|E
      ·exact⟨Z.2.2.2.1,Z.2.1,Z.2.2.2.2.1,Z.2.2.2.2.2⟩
      ·rw[bY1.mp E];exact⟨U.2.2.2.1,U.2.1,U.2.2.2.2.1,U.2.2.2.2.2⟩
     ·exact(k5 d (K d E).1 (K d E).2).trans e
     ·exact⟨o.slots,(k5 d (K d E).1 (K d E).2).trans e⟩
     ·rw[yJ (K d E).1];exact n
     ·exact⟨o,(k5 d (K d E).1 (K d E).2).trans e⟩
     ·rw[yJ (yI e na)];exact e
     ·rw[yJ (yI e na)];exact e
     ·exact⟨#[],by rw[yJ (yI e na),e];simp⟩
     ·obtain⟨o,es,ep,ho,r⟩:=g7;exact⟨o,es,ep,(k5 _ (cQu Z.2.1) (cQu U.2.1)).trans ho,r⟩
     ·by_cases E:d=a
      ·subst E;rw[yB]at e;cases e;exact⟨by rw[bYR,c0,cQe];omega,_,c6,v3,o5⟩
      ·rw[yJ E]at e;refine(J'.hok d u e).stay (λc v hc q=>?_) (λc q=>by rw[yJ (yI q na)];exact q) λc xs q=>by rw[yJ (yI q na)];exact q
       have a9:c≠a:=by
        rcases hc with rfl|hc
        ·exact E
        ·exact yI hc na
       have g6:c≠O.objs.size+1:=by
        rcases hc with rfl|hc
        ·exact yI e nk
        ·exact yI hc nk
       exact(k5 c a9 g6).trans q
    have b8:=yE na (.lst ((cQ1 b (p.map (ixb b n))).map λi=>V.int (i:Nat)));have hP:upd B a (.lst ((cQ1 b (p.map (ixb b n))).map λi=>V.int (i:Nat))) P=B P:=by
     rcases t3 with t|⟨_,t,_⟩
     ·rw[yJ (yI t na)]
     ·rw[yJ (yI t na)]
    have nl:H1 a=none:=by
     cases hz:H1 a with
     |none=>rfl
     |some o=>exact absurd (I1.hok.lt hz) (Nat.not_lt.mpr (cQo (cZu (bY0 a3)) a1))
    exact⟨rfl,.ref a,_,d8,rfl,hfin _ a _ (b4.trans (k3.trans b8.t)) (t3.keep b8.t hP) nl q1 q2 yB⟩
end
end L2
namespace Stree
open PySem PySem.W PySem.Calls PyProof.Rows
open PySem.SeqAt
open PySem.AutoSeq1 (wpAny_loadPart')
open PySem.MeetsSeq PySem.MeetsSeq2 PySem.MeetsSeq3
def Q1{α:Type} [DecidableEq α] (lt:α->α->Bool):List α->List α->Bool
 |[],[]=>false
 |[],_::_=>true
 |_::_,[]=>false
 |x::xs,y::ys=>if x=y then Q1 lt xs ys else lt x y
theorem aYt{α:Type} [DecidableEq α] {lt:α->α->Bool}(x y:α)(xs ys:List α):Q1 lt (x::xs) (y::ys)=if x=y then Q1 lt xs ys else lt x y:=rfl
theorem aJw{α:Type} [DecidableEq α] {lt:α->α->Bool}{rep:α->bYM->Prop}(l b:Nat)(items items2:Array bYM)(n X:Nat)(S G:Option Nat)(U D:Array (Option bYM))(xs ys:List α)(N:cQI rep xs items.toList)(K:cQI rep ys items2.toList): Meets (cXD.«tuple.__lt__» ⟨[.ref l,.ref b],[]⟩) (λA R s=>s.heap.get? l=some {cls:= .type "tuple",dict:=S,data:= .seq items n,slots:=U}/\s.heap.get? b=some {cls:= .type "tuple",dict:=G,data:= .seq items2 X,slots:=D}/\ (∀x y u v,rep x u->rep y v->EqAt A.in1 s u v (decide (x=y)))/\(∀x y u v,x≠y->rep x u->rep y v->∀ (prog:bY8)(w:cQg)(E:bYM->bYP->Prop)(Q:bYM->bYP->Prop),Q (.bool (lt x y)) s->bYU (bYV prog w) A.in1 (richCompare .Lt u v) Q E s)/\ R (.ok (.ret (.bool (Q1 lt xs ys)))) s):=
 .of_wp λprog w A R s h=>by
  obtain⟨M,g,d,tk,L⟩:=s;obtain⟨hl,W,C,F,h⟩:=h;have f2:=AutoSeq1.sub_tuple_tuple;have z1:items.size=xs.length:=by have:=N.length;simpa using this.symm
  have z2:items2.size=ys.length:=by have:=K.length;simpa using this.symm
  wp_walk using wpAny_loadPart' hl,wpAny_loadPart' W,wpAny_forIn_list _ (λjV b I=>b.1=none/\I=⟨M,g,d,tk,L⟩/\∃ (t B:List bYM)(i j:List α),jV=t.zip B/\
   cQI rep i t/\cQI rep j B/\i.length+items2.size=j.length+items.size/\R (.ok (.ret (.bool (Q1 lt i j)))) ⟨M,g,d,tk,L⟩) _
  case turn=>
   rintro⟨y,x⟩ jV b I ⟨p,rfl,t,B,i,j,m,o,k,f,hR⟩;cases o with
   |nil=>rw[List.zip_nil_left]at m;cases m
   |@cons a y' V P H q=>
    cases k with
    |nil=>rw[List.zip_nil_right]at m;cases m
    |@cons c Z Y T z r=>
     rw[List.zip_cons_cons]at m;injection m with hyx hrest
     injection hyx with hy hx
     subst hy hx;rw[aYt]at hR;simp only[cQN]at f;refine bYN (C a c _ _ H z prog w _ _ ?_);by_cases e:a=c
     ·rw[if_pos e]at hR;rw[decide_eq_true e];wp_walk;exact⟨rfl,rfl,_,_,_,_,hrest,q,r,by omega,hR⟩
     ·rw[if_neg e]at hR;rw[decide_eq_false e];have J:=F a c _ _ e H z prog w;wp_walk using J;exact⟨_,rfl,by simpa using hR⟩
  case fin=>
   rintro⟨b1,b2⟩ I ⟨p,rfl,t,B,i,j,m,o,k,f,hR⟩;simp only at p;subst p;have O:Q1 lt i j=decide (items.size<items2.size):=by
    cases o with
    |nil=>
     cases k with
     |nil=>simp only[cXU]at f;exact(decide_eq_false (by omega)).symm
     |cons z hw=>simp only[cXU,cQN]at f;exact(decide_eq_true (by omega)).symm
    |cons H O=>
     cases k with
     |nil=>simp only[cXU,cQN]at f;exact(decide_eq_false (by omega)).symm
     |cons z hw=>rw[List.zip_cons_cons]at m;cases m
   rw[O]at hR;wp_walk;exact⟨_,rfl,by simpa[Builtin.Tuple.tupleCompareSizes]using hR⟩
  case h=>
   exact⟨rfl,rfl,items.toList,items2.toList,xs,ys,rfl,N,K,by omega,h⟩
section
variable {A:cQv}{s:bYP}{α:Type} [DecidableEq α] {lt:α->α->Bool}{rep:α->bYM->Prop}{l b:Nat}{items items2:List bYM}{xs ys:List α}
def bWv(A:cQv)(s:bYP)(u v:bYM)(c:Bool):Prop:=∀ (prog:bY8)(w:cQg)(E:bYM->bYP->Prop)(Q:bYM->bYP->Prop),Q (.bool c) s->bYU (bYV prog w) A (richCompare .Lt u v) Q E s
theorem bJm(hl:cZF s.heap l items.toArray)(B:cZF s.heap b items2.toArray)(D:cQI rep xs items)(z:cQI rep ys items2)(t:A.units<cLine)
  (e:∀x y u v,rep x u->rep y v->EqAt A.in1 s u v (decide (x=y))) (i:∀x y u v,x≠y->rep x u->rep y v->bWv A.in1 s u v (lt x y)):bWv A s (.ref l) (.ref b) (Q1 lt xs ys):=λprog w E Q h=>by
 obtain⟨⟨cls,q,data,r⟩,p,o,n,m⟩:=id hl
 obtain⟨⟨k,j,f,g⟩,c,d,C,a⟩:=id B
 simp only at o m d a
 subst o m d a
 exact richCompare_meets_room (op:= .Lt) ⟨_,p,rfl⟩ ⟨_,c,rfl⟩ PySem.F.slot_tuple_lt PySem.F.entry_tuple_lt (PySem.F.args_tuple_lt_2 _ _) (aJw (lt:=lt) l b items.toArray items2.toArray n C q j r g xs ys D z)
  ⟨p,c,e,i,show Value.bool (Q1 lt xs ys)≠Value.notImplemented/\Q (.bool (Q1 lt xs ys)) s from⟨(λx=>nomatch x),h⟩⟩ t
theorem bWB:∀ {xs ys:List α},((bYW (min xs.length ys.length)).all (λj=>decide (xs[j]? =ys[j]?)) && xs.length==ys.length)=decide (xs=ys):=by
 intro xs ys;rw[Bool.eq_iff_iff];simp only[Bool.and_eq_true,cZX,cQi,decide_eq_true_eq,beq_iff_eq];constructor
 ·rintro⟨a,c⟩;apply cXA;intro i;by_cases b:i<xs.length
  ·exact a i (by omega)
  ·rw[cQk (by omega),cQk (by omega)]
 ·rintro rfl;exact⟨λ_ _=>rfl,rfl⟩
theorem Z4{rep:α->bYM->Prop}:∀ {xs:List α} {us:List bYM} {i:Nat} {u:bYM},cQI rep xs us->us[i]? =some u->∃x,xs[i]? =some x/\rep x u
 |_,_,0,_,.cons r _,h=>by simp at h;subst h;exact⟨_,rfl,r⟩
 |_,_,i+1,_,.cons _ t,h=>by simpa using Z4 (i:=i) t (by simpa using h)
 |_,_,i,_,.nil,h=>by simp at h
theorem Z3{rep:α->bYM->Prop}(a:∀x y u,rep x u->rep y u->x=y):∀ {xs ys:List α} {us:List bYM},cQI rep xs us->cQI rep ys us->xs=ys
 |_,_,_,.nil,.nil=>rfl
 |_,_,_,.cons r t,.cons r' t'=>by rw[a _ _ _ r r',Z3 a t t']
theorem bJi(hl:cZF s.heap l items.toArray)(m:cZF s.heap b items2.toArray)(h:cQI rep xs items)(d:cQI rep ys items2)(w:A.units<cLine)(E:∀x y u,rep x u->rep y u->x=y) (c:∀x y u v,rep x u->rep y v->EqAt A.in1 s u v (decide (x=y))):EqAt A s (.ref l) (.ref b) (decide (xs=ys)):=by
 by_cases e:l=b
 ·subst e;obtain⟨o,f,_,n,a⟩:=hl;obtain⟨H,i,_,G,k⟩:=m;rw[f]at i;cases i;rw[a]at k;have g:items=items2:=by
   have:items.toArray=items2.toArray:=by injection k
   simpa using congrArg Array.toList this
  subst g;rw[decide_eq_true (Z3 E h d)];exact EqAt.same _
 ·refine EqAt.of_refs e ?_;have z:=RcAt.tuples (A:=A) (s:=s) (e:=λj=>decide (xs[j]? =ys[j]?)) (show s.heap.IsTuple l items.toArray from hl) (show s.heap.IsTuple b items2.toArray from m) w λj f a=>?_
  ·have F:items.toArray.size=xs.length:=by rw[bY3];exact h.length.symm
   have g:items2.toArray.size=ys.length:=by rw[bY3];exact d.length.symm
   rw[F,g,bWB]at z;exact z
  ·have p:items[j]? =some items[j]:=bYL (by simpa using f);have r:items2[j]? =some items2[j]:=bYL (by simpa using a);obtain⟨x,C,t⟩:=Z4 h p;obtain⟨y,B,D⟩:=Z4 d r;have q:=c x y _ _ t D;show EqAt A.in1 s items[j] items2[j] (decide (xs[j]? =ys[j]?));rw[C,B];have:decide (some x=some y)=decide (x=y):=by simp
   rw[this];exact q
end
def bVG(i:Int)(u:bYM):Prop:=∃t,u= .int i t
def rep2(h:Heap)(p:Int×Int)(u:bYM):Prop:=∃a b,u= .ref a/\cZF h a b.toArray/\cQI bVG [p.1,p.2] b
def rep3(h:Heap)(c:List (Int×Int))(u:bYM):Prop:=∃a b,u= .ref a/\cZF h a b.toArray/\cQI (rep2 h) c b
theorem aV2(x y:Int)(u:bYM)(b:bVG x u)(a:bVG y u):x=y:=by
 obtain⟨t,rfl⟩:=b;obtain⟨c,e⟩:=a;cases e;rfl
theorem bZ3{h:Heap}{a:Nat}{i j:List bYM}(g:cZF h a i.toArray)(e:cZF h a j.toArray):i=j:=by
 obtain⟨o,d,_,n,f⟩:=g;obtain⟨k,b,_,l,c⟩:=e;rw[d]at b;cases b;rw[f]at c;have:i.toArray=j.toArray:=by injection c
 simpa using congrArg Array.toList this
theorem bZn{h:Heap}(x y:Int×Int)(u:bYM)(d:rep2 h x u)(f:rep2 h y u):x=y:=by
 obtain⟨a,i,rfl,c,b⟩:=d;obtain⟨l,j,e,k,g⟩:=f;cases e;rw[bZ3 c k]at b;have:=Z3 aV2 b g;injection this with e1 e2;injection e2 with e2 _;exact Prod.ext e1 e2
section
variable {A:cQv}{s:bYP}
theorem eq1(x y:Int)(u v:bYM)(c:bVG x u)(b:bVG y v):EqAt A s u v (decide (x=y)):=by
 obtain⟨t,rfl⟩:=c;obtain⟨a,rfl⟩:=b;have:decide (x=y)=(x==y):=by rw[Bool.eq_iff_iff];simp
 rw[this];exact EqAt.int_int x t y a
theorem lt1(x y:Int)(u v:bYM)(b:x≠y)(d:bVG x u)(c:bVG y v):bWv A s u v (decide (x<y)):=by
 obtain⟨t,rfl⟩:=d;obtain⟨a,rfl⟩:=c;exact λprog w E Q h=>HT.bZm A s x t y a prog w E Q h
theorem eq2(g:A.units<cLine)(x y:Int×Int)(u v:bYM)(f:rep2 s.heap x u)(h:rep2 s.heap y v):EqAt A s u v (decide (x=y)):=by
 obtain⟨a,i,rfl,c,d⟩:=f;obtain⟨b,j,rfl,l,k⟩:=h;have z:=bJi c l d k g aV2 λx y u v=>eq1 x y u v;have:decide ([x.1,x.2]= [y.1,y.2])=decide (x=y):=by
  rw[Bool.eq_iff_iff,decide_eq_true_eq,decide_eq_true_eq];constructor
  ·intro e;injection e with e1 e2;injection e2 with e2 _;exact Prod.ext e1 e2
  ·rintro rfl;rfl
 rw[this]at z;exact z
theorem aYs(x y:Int×Int):Q1 (λa b:Int=>decide (a<b)) [x.1,x.2] [y.1,y.2]=wK x y:=by
 unfold wK Q1 Q1 Q1;by_cases c:x.1=y.1
 ·by_cases d:x.2=y.2<;> simp[c,d]
 ·simp[c]
theorem lt2(f:A.units<cLine)(x y:Int×Int)(u v:bYM)(g:x≠y)(e:rep2 s.heap x u)(h:rep2 s.heap y v):bWv A s u v (wK x y):=by
 obtain⟨a,i,rfl,c,d⟩:=e;obtain⟨b,j,rfl,l,k⟩:=h;have z:=bJm (lt:=λa b:Int=>decide (a<b)) c l d k f (λx y u v=>eq1 x y u v) (λx y u v=>lt1 x y u v);rw[aYs]at z;exact z
theorem eq3(f:A.units+1<cLine)(x y:List (Int×Int))(u v:bYM)(e:rep3 s.heap x u)(g:rep3 s.heap y v):EqAt A s u v (decide (x=y)):=by
 obtain⟨a,i,rfl,c,d⟩:=e;obtain⟨b,j,rfl,k,h⟩:=g;exact bJi c k d h (by omega) bZn λx y u v=>eq2 (A:=A.in1) f x y u v
theorem lt3(c:A.units+1<cLine)(x y:List (Int×Int))(u v:bYM)(g:x≠y)(f:rep3 s.heap x u)(h:rep3 s.heap y v):bWv A s u v (Q1 wK x y):=by
 obtain⟨a,i,rfl,d,e⟩:=f;obtain⟨b,j,rfl,l,k⟩:=h;exact bJm d l e k (by omega) (λx y u v=>eq2 (A:=A.in1) c x y u v) (λx y u v=>lt2 (A:=A.in1) c x y u v)
end
section
variable {prog:bY8}{w:cQg}{A:cQv}{E:bYM->bYP->Prop}{s:bYP}
theorem bVd{x y:Nat}{m f:Obj}{n k:Nat}{u v:bYM}{a c:List (Int×Int)}{i j:Int}{p z:Tok}{Q:Bool->bYP->Prop}(g:A.units+1<cLine)(t:s.heap.get? x=some m)(dx:m.data= .seq #[u,.int i p] n)(r:s.heap.get? y=some f)(o:f.data= .seq #[v,.int j z] k) (l:rep3 s.heap a u) (d:rep3 s.heap c v) (b:a=c->i=j) (h:Q (decide (a≠c) && Q1 wK a c) s):bYU (bYV prog w) A (keyLt' (tuples' false) (.ref x) (.ref y)) Q E s:=by
 refine kat_lt t dx r o ?_;refine kat_cons (eq3 g a c u v l d prog w _ _ ?_);by_cases e:a=c
 ·rw[decide_eq_true e];refine kat_yes (kat_cons (aJN ?_));rw[beq_iff_eq.mpr (b e)];refine kat_yes (kat_nil ?_);simpa[e]using h
 ·rw[decide_eq_false e];have q:Q (Q1 wK a c) s:=by simpa[e]using h
  exact kat_no (kat_one _ _ (lt3 g a c u v e l d prog w _ _ q))
theorem aJn{a:Nat}{vs:List bYM}{P:PySem.Fin->bYP->Prop}{Y:Nat}(J:s.heap.get? a=some (cQB "list" vs.toArray Y))(M:vs.length<64)(r:Nat->Int)(X:Inj vs.length r) (G:2<=vs.length->∃κ,∀g,(∀c o,c≠a->s.heap.get? c=some o->g.get? c=some o)->(∀Q:SortKind->bYP->Prop,Q κ {s with heap:=g}->bYU (bYV prog w) A (keyKind' vs.toArray) Q (λ_ _=>False) {s with heap:=g})/\ ∀i j C,i<vs.length->j<vs.length->C (decide (r i<r j)) {s with heap:=g}->kas_ask prog w A κ vs i j C {s with heap:=g}) (u:∀ (p:List Nat) g c,p.Perm (bYW vs.length)->p.Pairwise (λi j=>r i<r j)->(∀d o,d≠a->s.heap.get? d=some o->g.get? d=some o)->g.get? a=some (cQB "list" (p.map λi=>vs.getD i Value.none).toArray c)->P (.done (.ret .none)) {s with heap:=g}): bYU (bYV prog w) A (cXD.«list.sort» ⟨[.ref a],[]⟩) P E s:=by
 have ha:a<s.heap.objs.size:=bY0 J;obtain⟨t,v⟩:∃t,(s.heap.update a (cQH λ_=>(#[]:Array bYM))).get? a=some (cQB "list" #[] t):=⟨_,cZH J λ_=> #[]⟩;rw[list_sort_plain];refine bYN (listItems_at J rfl ?_);refine bYN (cZ5 J rfl ?_ (by rw[bY3,cQe];omega) (cQM _));refine bYN (seqEpoch_at v rfl ?_);refine bYN (wpAny_newTuple ?_ (by show vs.length<=_;rw[cQe];omega));refine bYN (cZ8 ?_ (cQM _));refine cQ7 ?_;have N:∀c o,c≠a->s.heap.get? c=some o->(((s.heap.update a (cQH λ_=>(#[]:Array bYM))).push (cQB "tuple" vs.toArray 0)).push (cQB "list" #[] 0)).get? c=some o:=λc o hc e=>
  bYS _ (bYS _ ((cQq _ _ (cQu hc)).trans e))
 have H:(((s.heap.update a (cQH λ_=>(#[]:Array bYM))).push (cQB "tuple" vs.toArray 0)).push (cQB "list" #[] 0)).get? a=some (cQB "list" #[] t):=bYS _ (bYS _ v);show bYU (bYV prog w) A _ P E {s with heap:=((s.heap.update a (cQH λ_=>(#[]:Array bYM))).push (cQB "tuple" vs.toArray 0)).push (cQB "list" #[] 0) };generalize ((s.heap.update a (cQH λ_=>(#[]:Array bYM))).push (cQB "tuple" vs.toArray 0)).push (cQB "list" #[] 0)=h1 at N H ⊢;dsimp only;have l:∀ (B:SortSt)(p:List Nat),p.Perm (bYW vs.length)->p.Pairwise (λi j=>r i<r j)->(arrOf B).map (·.2)=cQW (p.map λi=>vs.getD i Value.none)->failedOf B=none->
   bYU (bYV prog w) A (do
    let b:=(<- seqEpoch a) !=t
    Builtin.List.listUpdate (.ref a) λ_=>(arrOf B).map (·.2)
    if let some e:=failedOf B then rule "list.sort.comparison-raised";throw e
    if b then rule "list.sort.modified";raiseError "ValueError" "list modified during sort"
    ret .none) P E {s with heap:=h1}:=by
  intro B p h m y S
  have O:p.length=vs.length:=by rw[h.length_eq,cQG]
  rw[y]
  obtain⟨T,U⟩:∃T,(h1.update a (cQH λ_=>cQW (p.map λi=>vs.getD i Value.none))).get? a=some (cQB "list" (cQW (p.map λi=>vs.getD i Value.none)) T):=⟨_,cZH H λ_=>cQW (p.map λi=>vs.getD i Value.none)⟩
  have R:(cQW (p.map λi=>vs.getD i Value.none)).size=vs.length:=by rw[bY3,bYR,O]
  refine bYN (seqEpoch_at H rfl ?_)
  refine bYN (cZ5 H rfl ?_ (cQM _) (cQo (cZt R) (by rw[cQe];omega)))
  rw[S]
  simp only[bne_self_eq_false,Bool.false_eq_true,if_false]
  exact bYQ (u p _ T h m (λd o V e=>(cQq _ _ (cQu V)).trans (N d o V e)) U)
 by_cases n:vs.toArray.size<2
 ·rw[if_pos n,if_pos n];refine bYN (bYQ ?_);refine bYN (bYQ ?_);have q:vs.length<2:=by rw[bY3]at n;exact n
  refine l (SortSt.mk' general' (vs.toArray.zip vs.toArray) #[] 7 none) (bYW vs.length) (List.Perm.refl _) ?_ ?_ rfl
  ·rw[cZm];intro i j I hj W;rw[cQG]at I hj;omega
  ·show((cQW vs).zip (cQW vs)).map (·.2)=_;apply Array.toList_inj.mp;rw[Array.toList_map,Array.toList_zip];simp only[cJO];have t:(List.zip vs vs).map (·.2)=vs:=List.map_snd_zip (bYT _);rw[t];apply cXA;intro i;rw[bY7];by_cases I:i<vs.length
   ·rw[cXO I];simp[cQx,bYL I]
   ·rw[cQk (by omega),cQk (by rw[cQG];omega)];rfl
 ·have q:2<=vs.length:=by rw[bY3]at n;omega
  rw[if_neg n,if_neg n];obtain⟨κ,hκ⟩:=G q;obtain⟨hκ,D⟩:=hκ h1 N;refine bYN (cQQ (hκ (λk z=>k=κ/\z= {s with heap:=h1}) ⟨rfl,rfl⟩) (λk z hq=>?_) λ_ _ x=>x.elim);obtain⟨rfl,rfl⟩:=hq;have K:(kas_sort vs.length).kasWp (kas_ask prog w A k vs) (λp F=>F= {s with heap:=h1}/\p.toList.Perm (bYW vs.length)/\p.toList.Pairwise (λi j=>r i<r j)) {s with heap:=h1}:=
   Asks.wp (lt:=Q2 r) D (aJo X (by omega)) λp hp=>⟨rfl,hp⟩
  refine bYN (cQQ (kat_run (Q:=λf F=>∃p:Array Nat,arrOf f=p.map (kas_item (vs.toArray.zip vs.toArray))/\failedOf f=none/\
    F= {s with heap:=h1}/\p.toList.Perm (bYW vs.length)/\p.toList.Pairwise (λi j=>r i<r j))
   rfl q M (λp' f F a1 a2 Z a4=>⟨p',a2,Z,a4⟩) K) ?_ λ_ _ x=>x)
  rintro⟨⟨⟩,f⟩ F ⟨p,L,S,rfl,h,m⟩;dsimp only;exact l _ p.toList h m (kat_snds rfl L) S
end
end Stree
namespace Stree
open PySem PySem.W PySem.Calls PyProof.Rows
abbrev qO:=List (Int×Int)
abbrev jL:qO->qO->Bool:=Q1 wK
theorem uB:∀a:qO,jL a a=false
 |[]=>rfl
 |x::r=>by show(if x=x then Q1 wK r r else wK x x)=false;rw[if_pos rfl];exact uB r
theorem Z1:∀ {a b c:qO},jL a b=true->jL b c=true->jL a c=true
 |[],[],_,h,_=>by cases h
 |[],_::_,[],_,h=>by cases h
 |[],_::_,_::_,_,_=>rfl
 |_::_,[],_,h,_=>by cases h
 |_::_,_::_,[],_,h=>by cases h
 |x::a,y::b,z::c,h1,h2=>by
  have f:(if x=y then Q1 wK a b else wK x y)=true:=h1;have d:(if y=z then Q1 wK b c else wK y z)=true:=h2;show(if x=z then Q1 wK a c else wK x z)=true;by_cases i:x=y
  ·rw[if_pos i]at f;subst i;by_cases g:x=z
   ·rw[if_pos g]at d ⊢;exact Z1 f d
   ·rw[if_neg g]at d ⊢;exact d
  ·rw[if_neg i]at f;by_cases g:y=z
   ·rw[if_pos g]at d;subst g;rw[if_neg i];exact f
   ·rw[if_neg g]at d;have j:=aX0 f d;have:x≠z:=λe=>by rw[e,vV]at j;cases j
    rw[if_neg this];exact j
theorem aX1:∀ {a b:qO},a≠b->jL a b=true\/jL b a=true
 |[],[],h=>absurd rfl h
 |[],_::_,_=> .inl rfl
 |_::_,[],_=> .inr rfl
 |x::a,y::b,h=>by
  show(if x=y then Q1 wK a b else wK x y)=true\/(if y=x then Q1 wK b a else wK y x)=true;by_cases e:x=y
  ·subst e;rw[if_pos rfl,if_pos rfl];exact aX1 λz=>h (by rw[z])
  ·rw[if_neg e,if_neg (cQu e)];exact aXZ e
theorem aVR:∀ (a:qO) {b:qO},b≠ []->jL a (a++b)=true
 |[],[],h=>absurd rfl h
 |[],_::_,_=>rfl
 |x::a,b,h=>by show(if x=x then Q1 wK a (a++b)else _)=true;rw[if_pos rfl];exact aVR a h
theorem aZ2:∀ (a:qO) {x y:Int×Int} {b c:qO},wK x y=true->jL (a++x::b) (a++y::c)=true
 |[],x,y,b,c,h=>by
  show(if x=y then Q1 wK b c else wK x y)=true;have:x≠y:=λe=>by rw[e,vV]at h;cases h
  rw[if_neg this];exact h
 |z::a,x,y,b,c,h=>by show(if z=z then Q1 wK (a++x::b) (a++y::c)else _)=true;rw[if_pos rfl];exact aZ2 a h
theorem uniq{α:Type}{lt:α->α->Prop}(d:∀a,¬lt a a)(i:∀a b c,lt a b->lt b c->lt a c):∀ {l m:List α},l.Pairwise lt->m.Pairwise lt->(∀a,a∈l↔a∈m)->l=m
 |[],[],_,_,_=>rfl
 |[],y::m,_,_,h=>by have:=(h y).mpr bY4;cases this
 |x::l,[],_,_,h=>by have:=(h x).mp bY4;cases this
 |x::l,y::m,h1,h2,h=>by
  obtain⟨j,n⟩:=cXe.mp h1;obtain⟨b1,k⟩:=cXe.mp h2;have e:x=y:=by
   rcases bYX.mp ((h x).mp bY4)with e|e
   ·exact e
   ·rcases bYX.mp ((h y).mpr bY4)with g|g
    ·exact g.symm
    ·exact absurd (i _ _ _ (j y g) (b1 x e)) (d x)
  subst e;rw[uniq d i n k λa=>?_];constructor
  ·intro f;rcases bYX.mp ((h a).mp (bYZ _ f))with e|e
   ·subst e;exact absurd (j a f) (d a)
   ·exact e
  ·intro f;rcases bYX.mp ((h a).mpr (bYZ _ f))with e|e
   ·subst e;exact absurd (b1 a f) (d a)
   ·exact e
theorem IsTup.keep{h h':Heap}{a x:Nat}{vs its:Array bYM}{n:Nat}(f:h.get? a=some (cQB "list" vs n))(k:∀c o,c≠a->h.get? c=some o->h'.get? c=some o)(t:cZF h x its):cZF h' x its:=by
 obtain⟨o,e,c,m,d⟩:=t;refine⟨o,k x o (λz=>?_) e,c,m,d⟩;rw[z,f]at e;cases e;have b:Value.type "list"=Value.type "tuple":=c;injection b with c'';exact absurd c'' (by decide)
theorem rep2.keep{h h':Heap}{a:Nat}{vs:Array bYM}{n:Nat}(b:h.get? a=some (cQB "list" vs n))(k:∀c o,c≠a->h.get? c=some o->h'.get? c=some o){p:Int×Int}{u:bYM}(t:rep2 h p u):rep2 h' p u:=
 let ⟨x,its,e,t1,t2⟩:=t;⟨x,its,e,IsTup.keep b k t1,t2⟩
theorem rep3.keep{h h':Heap}{a:Nat}{vs:Array bYM}{n:Nat}(b:h.get? a=some (cQB "list" vs n))(k:∀c o,c≠a->h.get? c=some o->h'.get? c=some o){p:qO}{u:bYM}(t:rep3 h p u):rep3 h' p u:=
 let ⟨x,its,e,t1,t2⟩:=t;⟨x,its,e,IsTup.keep b k t1,L2.Paired.mapP t2 λ_ _ z=>rep2.keep b k z⟩
end Stree
namespace L2
open PySem PySem.Spec PyProof.Rows
open Stree (qO jL)
def bJM(H:Hp)(p:Int×Int)(x:V):Prop:=∃c,x= .ref c/\H c=some (.tup [.int p.1,.int p.2])
def X3(H:Hp)(b:Nat)(c:qO):Prop:=∃a,H b=some (.tup a)/\cQI (bJM H) c a
section
variable {X:Cx}{pins:List (Nat×Obj)}{σ:St}{H:Hp}{s:bYP}{k:Nat}
theorem aYW{α β γ:Type}{F:α->β->Prop}{G:β->γ->Prop}{K:α->γ->Prop}(h:∀a b c,F a b->G b c->K a c):∀ {l:List α} {m:List β} {n:List γ},cQI F l m->cQI G m n->cQI K l n
 |_,_,_,.nil,.nil=> .nil
 |_,_,_,.cons a r,.cons b t=> .cons (h _ _ _ a b) (aYW h r t)
theorem Inv.rep2(I:Inv X pins σ H s){p:Int×Int}{x:V}{u:bYM}(h:bJM H p x)(r:zI x u):Stree.rep2 s.heap p u:=by
 obtain⟨c,rfl,e⟩:=h;cases r;obtain⟨b,g,a,_⟩:=I.tuple (SqT.of e);obtain⟨j,i,rfl,d,f⟩:=xY.two g;exact⟨c,_,rfl,a,.cons d (.cons f .nil)⟩
theorem Inv.rep3(I:Inv X pins σ H s){b:Nat}{f:qO}(h:X3 H b f):Stree.rep3 s.heap f (.ref b):=by
 obtain⟨j,e,z⟩:=h;obtain⟨d,i,g,_⟩:=I.tuple (SqT.of e);exact⟨b,d,rfl,g,aYW (F:=bJM H) (G:=zI) (K:=Stree.rep2 s.heap) (λ_ _ _ a c=>I.rep2 a c) z i⟩
theorem Q7(hr:vZ k X.A):jT X (.builtin "sorted") (λxs H Q=>∃ (p:Nat)(its:List V)(d:Nat->qO)(kn:Nat->Int),xs= [.ref p]/\H p=some (.lst its)/\its.length<64/\ (∀i j,i<its.length->j<its.length->d i=d j->i=j)/\(∀i x,its[i]? =some x->∃a b,x= .ref a/\H a=some (.tup [.ref b,.int (kn i)])/\X3 H b (d i))/\ ∀l (out:List Nat),H l=none->out.Perm (bYW its.length)->(out.Pairwise λi j=>jL (d i) (d j)=true)->Q (.ref l) (upd H l (.lst (out.map λi=>its.getD i .non)))):=by
 intro pins s σ H xs us Q I r h;obtain⟨p,its,d,kn,rfl,hp,a9,K,a6,q⟩:=h;obtain⟨u,rfl,ru⟩:=aXe r;cases ru;obtain⟨g,rv,pl,hz⟩:=I.list (SqL.of hp);have Z:g.length=its.length:=rv.length.symm;refine cJe kind_sorted plain_sorted entry_sorted (args_sorted1 _) ?_;unfold cXD.«sorted»;refine bYN (m:=checkCount "sorted" 1 1 _) (bYQ ?_);refine bYN (collect_list pl.isList ?_ (by rw[cQe];omega));refine bYN (cZ8 ?_ (by rw[cQe];omega));have R:((s.heap.push (cQB "list" #[] 0)).update s.heap.objs.size (cQH (·++g.toArray))).objs.size=s.heap.objs.size+1:=by rw[Heap.size_update,size_push']
 have y:(((s.heap.push (cQB "list" #[] 0)).update s.heap.objs.size (cQH (·++g.toArray))).push (cQB "list" g.toArray 0)).get? (s.heap.objs.size+1)=some (cQB "list" g.toArray 0):=by rw[<- R];exact cQh _ rfl
 have keep:∀b o,s.heap.get? b=some o->(((s.heap.push (cQB "list" #[] 0)).update s.heap.objs.size (cQH (·++g.toArray))).push (cQB "list" g.toArray 0)).get? b=some o:=λb o q=>by have F:b<s.heap.objs.size:=bY0 q;rw[Heap.get?_push_ne _ _ _ (by rw[R];exact cQd (cQY F)),cJM _ _ _ _ (cQd F),Heap.get?_push_ne _ _ _ (cQd F)];exact q
 show bYU _ _ _ _ _ {s with heap:=((s.heap.push (cQB "list" #[] 0)).update s.heap.objs.size (cQH (·++g.toArray))).push (cQB "list" g.toArray 0) };rw[R];generalize a8:((s.heap.push (cQB "list" #[] 0)).update s.heap.objs.size (cQH (·++g.toArray))).push (cQB "list" g.toArray 0)=L at y keep ⊢;refine bYN (cQ7 (cXy cJ0 ⟨_,y,rfl⟩ cJS ?body (cJZ _)));case body=>
  have I1:Inv X pins σ H {s with heap:=L}:=I.kept (t':=s.toks) keep;have O:s.heap.objs.size<=s.heap.objs.size+1:=cXT _;have fa:=I.fpOk (b:=s.heap.objs.size+1) O (I.hok.fresh O);obtain⟨r,a2,a0⟩:=Stree.aVd (n:=g.length) (λi j=>jL (d i) (d j)) (λi _=>Stree.uB _) (λi j k _ _ _ L D=>Stree.Z1 L D)
   (λi j B P a5=>Stree.aX1 λz=>a5 (K i j (by omega) (by omega) z))
  have ob:∀i,i<g.length->∃a o u t m,g.getD i Value.none= .ref a/\L.get? a=some o/\o.cls= .type "tuple"/\o.data= .seq #[u,.int (kn i) t] m/\Stree.rep3 L (d i) u:=λi B=>by
   have C:i<its.length:=by omega
   obtain⟨a,b,e1,e2,e3⟩:=a6 i its[i] (bYL C);obtain⟨u0,N,J⟩:=rv.get (bYL C);rw[e1]at J;cases J;obtain⟨b0,rj,pj,_⟩:=I1.tuple (SqT.of e2);obtain⟨u1,u2,rfl,q1,q2⟩:=xY.two rj;cases q1;obtain⟨t,rfl⟩:=q2;obtain⟨o,G,E,m,U⟩:=pj;exact⟨a,o,_,t,m,by simp[cQx,N],G,E,U,I1.rep3 e3⟩
  refine Stree.aJn (s:={s with heap:=L}) y (by omega) r a2 (λD=>⟨tuples' false,λD k2=>⟨λQ' a4=>?_,λi j C' B P hC=>?_⟩⟩) λp h5 c5 S a1 k5 o5=>?_
  ·have kt:∀ {x:Nat} {o:Obj},L.get? x=some o->o.cls= .type "tuple"->D.get? x=some o:=λ{x o} e c=>k2 x o (λz=>by rw[z,y]at e;cases e;have c':Value.type "list"=Value.type "tuple":=c;injection c' with c'';exact absurd c'' (by decide)) e;have Y:∀ (l:List bYM),(∀ (i:Nat)(v:bYM),l[i]? =some v->∃a o u w m,v=Value.ref a/\D.get? a=some o/\o.cls= .type "tuple"/\o.data= .seq #[u,w] m/\∃c its,u= .ref c/\cZF D c its)->
     ∃fs,cVl D l fs/\fs.length=l.length/\∀f∈fs,∃c its,f=Value.ref c/\cZF D c its:=by
    intro l
    induction l with
    |nil=>intro _;exact⟨[],trivial,rfl,λf hf=>by cases hf⟩
    |cons v l ih=>
     intro M;obtain⟨a,o,u,w,m,rfl,G,E,U,c,its,rfl,g4⟩:=M 0 v rfl;obtain⟨fs,f1,f2,f3⟩:=ih λi v h=>M (i+1) v h;refine⟨.ref c::fs,cJE G E U rfl f1,by simp[f2],λf hf=>?_⟩;rcases bYX.mp hf with rfl|hf
     ·exact⟨c,its,rfl,g4⟩
     ·exact f3 f hf
   obtain⟨fs,f1,f2,f3⟩:=Y g λi v M=>by
    have B:i<g.length:=by
     rcases cZP i g.length with h|h
     ·exact h
     ·rw[cQk h]at M;cases M
    obtain⟨a,o,u,t,m,g0,G,E,U,g4⟩:=ob i B;have:g.getD i Value.none=v:=by simp[cQx,M]
    rw[this]at g0;obtain⟨c,its,e,g5,_⟩:=g4;exact⟨a,o,u,_,m,g0,kt G E,E,U,c,_,e,Stree.IsTup.keep y k2 g5⟩
   refine PySem.W.kat_kind (T:= .type "tuple") f1 (by omega) (λv M=>?_) rfl a4;obtain⟨c,its,rfl,o,G,E,_⟩:=f3 v M;have z:PySem.W.Looks (bYV X.prog X.w) D (typeOf (.ref c)) o.cls:=(PySem.W.Looks.ld G).andThen .now;rw[E]at z;exact z
  ·obtain⟨ai,oi,ui,t1,m1,g0,G,E,U,g4⟩:=ob i B;obtain⟨aj,oj,uj,t3,m2,d0,d1,d2,d3,d4⟩:=ob j P;have kt:∀ {x:Nat} {o:Obj},L.get? x=some o->o.cls= .type "tuple"->D.get? x=some o:=λ{x o} e c=>k2 x o (λz=>by rw[z,y]at e;cases e;have c':Value.type "list"=Value.type "tuple":=c;injection c' with c'';exact absurd c'' (by decide)) e;show bYU _ _ (keyLt' _ (g.getD i Value.none) (g.getD j Value.none)) _ _ _;rw[g0,d0];refine Stree.bVd (by have:=hr.un;show X.A.units+1+1+1<cLine;omega) (kt G E) U (kt d1 d2) d3 (Stree.rep3.keep y k2 g4) (Stree.rep3.keep y k2 d4) (λz=>by rw[K i j (by omega) (by omega) z]) ?_;have e1:=a0 i j B P;rw[e1]at hC;by_cases z:d i=d j
   ·have:jL (d i) (d j)=false:=by rw[z];exact Stree.uB _
    rw[this]at hC;simpa[z]using hC
   ·have:decide (d i≠d j)=true:=decide_eq_true z;rw[this,Bool.true_and];exact hC
  ·have hm:∀i∈p,i<g.length:=λi B=>cQi.mp (S.mem_iff.mp B);have vv:∀l:List Nat,(∀i∈l,i<g.length)->xY (l.map λi=>its.getD i .non) (l.map λi=>g.getD i Value.none):=by
    intro l;induction l with
    |nil=>intro _;exact .nil
    |cons i l ih=>
     intro h;refine .cons ?_ (ih λj P=>h j (bYZ _ P));have B:=h i bY4;have C:i<its.length:=by omega
     obtain⟨u0,N,J⟩:=rv.get (bYL C);show zI (its.getD i .non) (g.getD i Value.none);have e1:g.getD i Value.none=u0:=by simp[cQx,N]
     have e2:its.getD i .non=its[i]:=by simp[cQx,bYL C]
     rw[e1,e2];exact J
   have v2:=vv p hm;have a3:p.Perm (bYW its.length):=by rw[<- Z];exact S
   have F:p.length=g.length:=by rw[S.length_eq,cQG]
   have a7:p.Pairwise λi j=>jL (d i) (d j)=true:=a1.imp_of_mem λ{i j} B P h=>by have:=a0 i j (hm i B) (hm j P);rw[<- this];exact decide_eq_true h
   have I5:Inv X pins σ (upd H (s.heap.objs.size+1) (.lst (p.map λi=>its.getD i .non))) {s with heap:=h5}:=
    I.laid (t':=s.toks) (λb o e=>k5 b o (cQd (cQY (bY0 e))) (keep b o e)) O ⟨by rw[bYR,cQe];omega,_,c5,v2,o5⟩
   exact⟨_,rfl,bYQ ⟨_,rfl,⟨.ref _,_,I5,rfl,q _ p fa.1 a3 a7⟩⟩⟩
end
end L2
namespace L2
open PySem PySem.Spec PyProof.Rows
section
variable {X:Cx}
theorem uO:jT X (.builtin "sorted") (λxs H Q=>∃ (p:Nat)(its:List V)(g:Nat->Int×Int),xs= [.ref p]/\H p=some (.lst its)/\its.length<64/\ (∀i j,i<its.length->j<its.length->g i=g j->i=j)/\(∀i x,its[i]? =some x->∃a,x= .ref a/\H a=some (.tup [.int (g i).1,.int (g i).2]))/\ ∀l (out:List Nat),H l=none->out.Perm (bYW its.length)->(out.Pairwise λi j=>Stree.wK (g i) (g j)=true)->Q (.ref l) (upd H l (.lst (out.map λi=>its.getD i .non)))):=by
 intro J s σ H xs us Q I r h;obtain⟨p,its,g,rfl,hp,b1,a2,a8,q⟩:=h;obtain⟨u,rfl,ru⟩:=aXe r;cases ru;obtain⟨d,rv,pl,hz⟩:=I.list (SqL.of hp);have Y:d.length=its.length:=rv.length.symm;refine cJe kind_sorted plain_sorted entry_sorted (args_sorted1 _) ?_;unfold cXD.«sorted»;refine bYN (m:=checkCount "sorted" 1 1 _) (bYQ ?_);refine bYN (collect_list pl.isList ?_ (by rw[cQe];omega));refine bYN (cZ8 ?_ (by rw[cQe];omega));have a0:((s.heap.push (cQB "list" #[] 0)).update s.heap.objs.size (cQH (·++d.toArray))).objs.size=s.heap.objs.size+1:=by rw[Heap.size_update,size_push']
 have w:(((s.heap.push (cQB "list" #[] 0)).update s.heap.objs.size (cQH (·++d.toArray))).push (cQB "list" d.toArray 0)).get? (s.heap.objs.size+1)=some (cQB "list" d.toArray 0):=by rw[<- a0];exact cQh _ rfl
 have keep:∀b o,s.heap.get? b=some o->(((s.heap.push (cQB "list" #[] 0)).update s.heap.objs.size (cQH (·++d.toArray))).push (cQB "list" d.toArray 0)).get? b=some o:=λb o q=>by have Z:b<s.heap.objs.size:=bY0 q;refine bYS _ ?_;exact(cQq _ _ (cZv Z)).trans (bYS _ q)
 show bYU _ _ _ _ _ {s with heap:=((s.heap.push (cQB "list" #[] 0)).update s.heap.objs.size (cQH (·++d.toArray))).push (cQB "list" d.toArray 0) };rw[a0];generalize b0:((s.heap.push (cQB "list" #[] 0)).update s.heap.objs.size (cQH (·++d.toArray))).push (cQB "list" d.toArray 0)=P at w keep ⊢;refine bYN (cQ7 (cXy cJ0 ⟨_,w,rfl⟩ cJS ?body (cJZ _)));case body=>
  have I1:Inv X J σ H {s with heap:=P}:=I.kept (t':=s.toks) keep;have L:s.heap.objs.size<=s.heap.objs.size+1:=cXT _;have fa:=I.fpOk (b:=s.heap.objs.size+1) L (I.hok.fresh L);obtain⟨r,a4,a1⟩:=Stree.aVd (n:=d.length) (λi j=>Stree.wK (g i) (g j)) (λi _=>Stree.vV _) (λi j k _ _ _ P N=>Stree.aX0 P N)
   (λi j B M a7=>Stree.aXZ λz=>a7 (a2 i j (by omega) (by omega) z))
  have ob:∀i,i<d.length->∃a o A D m,d.getD i Value.none= .ref a/\P.get? a=some o/\o.cls= .type "tuple"/\o.data= .seq #[.int (g i).1 A,.int (g i).2 D] m:=λi B=>by
   have C:i<its.length:=by omega
   obtain⟨a,e1,e2⟩:=a8 i its[i] (bYL C);obtain⟨u0,K,E⟩:=rv.get (bYL C);rw[e1]at E;cases E;obtain⟨b2,rj,pj,_⟩:=I1.tuple (SqT.of e2);obtain⟨u1,u2,rfl,q1,q2⟩:=xY.two rj;obtain⟨A,rfl⟩:=q1;obtain⟨D,rfl⟩:=q2;obtain⟨o,R,F,m,S⟩:=pj;exact⟨a,o,A,D,m,by simp[cQx,K],R,F,S⟩
  refine Stree.aJn (s:={s with heap:=P}) w (by omega) r a4 (λN=>⟨tuples' true,λN k2=>⟨λQ' a6=>?_,λi j C' B M hC=>?_⟩⟩) λp h5 c5 O a3 k5 o5=>?_
  ·have kt:∀ {x:Nat} {o:Obj},P.get? x=some o->o.cls= .type "tuple"->N.get? x=some o:=λ{x o} e c=>k2 x o (λz=>by rw[z,w]at e;cases e;have c':Value.type "list"=Value.type "tuple":=c;injection c' with c'';exact absurd c'' (by decide)) e;have U:∀ (l:List bYM),(∀ (i:Nat)(v:bYM),l[i]? =some v->∃a o A D m x y,v=Value.ref a/\N.get? a=some o/\o.cls= .type "tuple"/\o.data= .seq #[.int x A,.int y D] m)->
     ∃fs,cVl N l fs/\fs.length=l.length/\∀f∈fs,∃x t,f=Value.int x t:=by
    intro l
    induction l with
    |nil=>intro _;exact⟨[],trivial,rfl,λf hf=>by cases hf⟩
    |cons v l ih=>
     intro G;obtain⟨a,o,A,D,m,x,y,rfl,R,F,S⟩:=G 0 v rfl;obtain⟨fs,f1,f2,f3⟩:=ih λi v h=>G (i+1) v h;refine⟨.int x A::fs,cJE R F S rfl f1,by simp[f2],λf hf=>?_⟩;rcases bYX.mp hf with rfl|hf
     ·exact⟨x,A,rfl⟩
     ·exact f3 f hf
   obtain⟨fs,f1,f2,f3⟩:=U d λi v G=>by
    have B:i<d.length:=by
     rcases cZP i d.length with h|h
     ·exact h
     ·rw[cQk h]at G;cases G
    obtain⟨a,o,A,D,m,g0,R,F,S⟩:=ob i B;have:d.getD i Value.none=v:=by simp[cQx,G]
    rw[this]at g0;exact⟨a,o,A,D,m,_,_,g0,kt R F,F,S⟩
   refine PySem.W.kat_kind (T:= .type "int") f1 (by omega) (λv G=>?_) rfl a6;obtain⟨x,t,rfl⟩:=f3 v G;exact .now
  ·obtain⟨ai,oi,A,D,m1,g0,R,F,S⟩:=ob i B;obtain⟨aj,oj,t3,t4,m2,d0,d1,d2,d3⟩:=ob j M;have kt:∀ {x:Nat} {o:Obj},P.get? x=some o->o.cls= .type "tuple"->N.get? x=some o:=λ{x o} e c=>k2 x o (λz=>by rw[z,w]at e;cases e;have c':Value.type "list"=Value.type "tuple":=c;injection c' with c'';exact absurd c'' (by decide)) e;show bYU _ _ (keyLt' _ (d.getD i Value.none) (d.getD j Value.none)) _ _ _;rw[g0,d0];refine Stree.aYv (kt R F) S (kt d1 d2) d3 ?_;have e1:=a1 i j B M;rw[e1]at hC;exact hC
  ·have hm:∀i∈p,i<d.length:=λi B=>cQi.mp (O.mem_iff.mp B);have vv:∀l:List Nat,(∀i∈l,i<d.length)->xY (l.map λi=>its.getD i .non) (l.map λi=>d.getD i Value.none):=by
    intro l;induction l with
    |nil=>intro _;exact .nil
    |cons i l ih=>
     intro h;refine .cons ?_ (ih λj M=>h j (bYZ _ M));have B:=h i bY4;have C:i<its.length:=by omega
     obtain⟨u0,K,E⟩:=rv.get (bYL C);show zI (its.getD i .non) (d.getD i Value.none);have e1:d.getD i Value.none=u0:=by simp[cQx,K]
     have e2:its.getD i .non=its[i]:=by simp[cQx,bYL C]
     rw[e1,e2];exact E
   have v2:=vv p hm;have a5:p.Perm (bYW its.length):=by rw[<- Y];exact O
   have Z:p.length=d.length:=by rw[O.length_eq,cQG]
   have a9:p.Pairwise λi j=>Stree.wK (g i) (g j)=true:=a3.imp_of_mem λ{i j} B M h=>by have:=a1 i j (hm i B) (hm j M);rw[<- this];exact decide_eq_true h
   have I5:Inv X J σ (upd H (s.heap.objs.size+1) (.lst (p.map λi=>its.getD i .non))) {s with heap:=h5}:=
    I.laid (t':=s.toks) (λb o e=>k5 b o (cQd (cQY (bY0 e))) (keep b o e)) L ⟨by rw[bYR,cQe];omega,_,c5,v2,o5⟩
   exact⟨_,rfl,bYQ ⟨_,rfl,⟨.ref _,_,I5,rfl,q _ p fa.1 a5 a9⟩⟩⟩
end
end L2
namespace Fm
open Stree (qO jL wK)
structure Ok(n:Nat)(L:Nat->Option Nat)(rk:Nat->Nat):Prop where
 lt:∀i j,i<n->L i=some j->j<n/\rk j<rk i
def rdF(L:Nat->Option Nat)(D:Nat->Int):Nat->Nat->qO
 |0,i=> [(D i,(i:Int))]
 |f+1,i=>match L i with
  |none=> [(D i,(i:Int))]
  |some j=>rdF L D f j++ [(D i,(i:Int))]
def tpF(L:Nat->Option Nat):Nat->Nat->Nat
 |0,i=>i
 |f+1,i=>match L i with
  |none=>i
  |some j=>tpF L f j
section
variable {n:Nat}{L:Nat->Option Nat}{D:Nat->Int}{rk:Nat->Nat}
theorem aX8{i:Nat}(h:L i=none):∀f,rdF L D f i= [(D i,(i:Int))]
 |0=>rfl
 |f+1=>by unfold rdF;rw[h]
theorem aZv{i:Nat}(h:L i=none):∀f,tpF L f i=i
 |0=>rfl
 |f+1=>by unfold tpF;rw[h]
theorem jO(o:Ok n L rk):∀ (f g i:Nat),i<n->rk i<=f->rk i<=g->rdF L D f i=rdF L D g i
 |f,g,i,hi,hf,hg=>by
  cases h:L i with
  |none=>rw[aX8 h,aX8 h]
  |some j=>
   obtain⟨a,b⟩:=o.lt i j hi h;cases f with
   |zero=>omega
   |succ f=>
    cases g with
    |zero=>omega
    |succ g=>show(match L i with|none=>_|some j=>rdF L D f j++ [(D i,(i:Int))])=(match L i with|none=>_|some j=>rdF L D g j++ [(D i,(i:Int))]);rw[h];show rdF L D f j++_=rdF L D g j++_;rw[jO o f g j a (by omega) (by omega)]
theorem jR(o:Ok n L rk):∀ (f g i:Nat),i<n->rk i<=f->rk i<=g->tpF L f i=tpF L g i
 |f,g,i,hi,hf,hg=>by
  cases h:L i with
  |none=>rw[aZv h,aZv h]
  |some j=>
   obtain⟨a,b⟩:=o.lt i j hi h;cases f with
   |zero=>omega
   |succ f=>
    cases g with
    |zero=>omega
    |succ g=>show(match L i with|none=>_|some j=>tpF L f j)=(match L i with|none=>_|some j=>tpF L g j);rw[h];exact jR o f g j a (by omega) (by omega)
def rd(L:Nat->Option Nat)(D:Nat->Int)(rk:Nat->Nat)(i:Nat):qO:=rdF L D (rk i) i
def tp(L:Nat->Option Nat)(rk:Nat->Nat)(i:Nat):Nat:=tpF L (rk i) i
theorem Z6{i:Nat}(h:L i=none):rd L D rk i= [(D i,(i:Int))]:=aX8 h _
theorem zT{i:Nat}(h:L i=none):tp L rk i=i:=aZv h _
theorem uG(o:Ok n L rk){i j:Nat}(a:i<n)(h:L i=some j):rd L D rk i=rd L D rk j++ [(D i,(i:Int))]:=by
 obtain⟨b,d⟩:=o.lt i j a h;unfold rd;cases c:rk i with
 |zero=>omega
 |succ m=>show(match L i with|none=>_|some j=>rdF L D m j++ [(D i,(i:Int))])=_;rw[h];show rdF L D m j++_=_;rw[jO o m (rk j) j b (by omega) (bYT _)]
theorem vO(o:Ok n L rk){i j:Nat}(a:i<n)(h:L i=some j):tp L rk i=tp L rk j:=by
 obtain⟨b,d⟩:=o.lt i j a h;unfold tp;cases c:rk i with
 |zero=>omega
 |succ m=>show(match L i with|none=>_|some j=>tpF L m j)=_;rw[h];exact jR o m (rk j) j b (by omega) (bYT _)
theorem aXO(o:Ok n L rk){P:Nat->Prop}(h0:∀i,i<n->L i=none->P i)(a:∀i j,i<n->L i=some j->P j->P i):∀ (m i:Nat),rk i<=m->i<n->P i
 |m,i,hm,hi=>by
  cases h:L i with
  |none=>exact h0 i hi h
  |some j=>
   obtain⟨b,c⟩:=o.lt i j hi h;cases m with
   |zero=>omega
   |succ m=>exact a i j hi h (aXO o h0 a m j (by omega) b)
theorem bQ6(o:Ok n L rk){i:Nat}(a:i<n):tp L rk i<n/\L (tp L rk i)=none:=
 aXO o (P:=λi=>tp L rk i<n/\L (tp L rk i)=none) (λi a h=>by rw[zT h];exact⟨a,h⟩) (λi j a h b=>by rw[vO o a h];exact b) (rk i) i (bYT _) a
theorem aX9(o:Ok n L rk){i:Nat}(a:i<n):∃r,rd L D rk i=r++ [(D i,(i:Int))]:=by
 cases h:L i with
 |none=>exact⟨[],Z6 h⟩
 |some j=>exact⟨_,uG o a h⟩
theorem aY5(o:Ok n L rk){i j:Nat}(a:i<n)(c:j<n)(h:rd L D rk i=rd L D rk j):i=j:=by
 obtain⟨r,e⟩:=aX9 (D:=D) o a;obtain⟨d,b⟩:=aX9 (D:=D) o c;rw[e,b]at h;have:=(cJs h rfl).2;injection this with z _;have:=congrArg Prod.snd z;simp only at this;omega
theorem bVD(o:Ok n L rk){i:Nat}(a:i<n):∃r,rd L D rk i=(D (tp L rk i),((tp L rk i:Nat):Int))::r:=
 aXO o (P:=λi=>∃r,rd L D rk i=(D (tp L rk i),((tp L rk i:Nat):Int))::r) (λi a h=>⟨[],by rw[Z6 h,zT h]⟩)
  (λi j a h ⟨r,e⟩=>⟨r++ [(D i,(i:Int))],by rw[uG o a h,vO o a h,e];rfl⟩) (rk i) i (bYT _) a
def Un(L:Nat->Option Nat)(D:Nat->Int)(rk:Nat->Nat)(v z:Nat):Prop:=rd L D rk v<+:rd L D rk z
theorem bKz(o:Ok n L rk){i:Nat}(a:i<n):Un L D rk (tp L rk i) i:=by
 obtain⟨r,e⟩:=bVD (D:=D) o a;have h:=(bQ6 o a).2;unfold Un;rw[Z6 h,e];exact⟨r,rfl⟩
theorem bZ4(o:Ok n L rk){v:Nat}(q:v<n):∀ {k:Nat},k<n->Un L D rk v k->k≠v->∃c,c<n/\L c=some v/\Un L D rk c k:=λ{k} a i d=>by
 refine aXO o (P:=λk=>Un L D rk v k->k≠v->∃c,c<n/\L c=some v/\Un L D rk c k) (λk a h i d=>?_) (λk p a h t i d=>?_) (rk k) k (bYT _) a i d
 ·obtain⟨r,e⟩:=i;obtain⟨j,l⟩:=aX9 (D:=D) o q;rw[Z6 h,l]at e;have hl:=congrArg cXQ e;simp only[cQa,cQN,cXU]at hl;have u:j= []:=cZK (by omega);have s:r= []:=cZK (by omega);rw[u,s]at e;injection e with z _;have:=congrArg Prod.snd z;simp only at this;omega
 ·obtain⟨y,_⟩:=o.lt k p a h;have b:=i;unfold Un at b;rw[uG o a h]at b;by_cases f:p=v
  ·subst f;exact⟨k,a,h,List.prefix_refl _⟩
  ·have g:Un L D rk v p:=by
    obtain⟨r,e⟩:=b;rcases List.eq_nil_or_concat r with rfl|⟨j,x,rfl⟩
    ·rw[cQP]at e;obtain⟨j,l⟩:=aX9 (D:=D) o q;rw[l]at e;have:=(cJs e rfl).2;injection this with z _;have:=congrArg Prod.snd z;simp only at this;omega
    ·rw[List.concat_eq_append,<- cQ8]at e;exact⟨j,(cJs e rfl).1⟩
   obtain⟨c,w,hl,m⟩:=t g f;refine⟨c,w,hl,?_⟩;unfold Un;rw[uG o a h];exact List.IsPrefix.trans m (List.prefix_append _ _)
theorem bKy(o:Ok n L rk){v z:Nat}(b:v<n)(hz:z<n)(h:Un L D rk v z)(a:z≠v):jL (rd L D rk v) (rd L D rk z)=true:=by
 obtain⟨r,e⟩:=h;rw[<- e];refine Stree.aVR _ λc=>a ?_;rw[c,cQP]at e;exact(aY5 o b hz e).symm
theorem bKn(o:Ok n L rk){v c d z:Nat}(i:c<n)(h:d<n)(b:L c=some v)(g:L d=some v)(a:wK (D c,(c:Int)) (D d,(d:Int))=true)(f:Un L D rk c z):jL (rd L D rk z) (rd L D rk d)=true:=by
 obtain⟨r,e⟩:=f;rw[<- e,uG o i b,uG o h g,cQ8];exact Stree.aZ2 _ a
structure aJB(n:Nat)(L:Nat->Option Nat)(D:Nat->Int)(rk:Nat->Nat)(root:Nat)(told nx:List Nat):Prop where
 tl:∀x∈told,x<n/\tp L rk x=root
 al:∀x∈nx,x<n/\tp L rk x=root
 tt:told.Pairwise λx y=>jL (rd L D rk x) (rd L D rk y)=true
 ta:∀x∈told,∀y∈nx,jL (rd L D rk x) (rd L D rk y)=true
 aa:nx.Pairwise λx y=>∀z,Un L D rk x z->jL (rd L D rk z) (rd L D rk y)=true
 all:∀k,k<n->tp L rk k=root->k∈told\/∃a∈nx,Un L D rk a k
theorem aJB.start(o:Ok n L rk){i:Nat}(c:i<n):aJB n L D rk (tp L rk i) [] [tp L rk i]:=by
 have h:=bQ6 o c;refine⟨λx a=>(nomatch a),λx a=>?_,.nil,λx a=>(nomatch a),cXd _ _,λk b e=> .inr ⟨_,bY1.mpr rfl,?_⟩⟩
 ·rw[bY1.mp a];exact⟨h.1,by rw[zT h.2]⟩
 ·have z:=bKz (D:=D) o b;rw[e]at z;exact z
theorem aJB.step(o:Ok n L rk){j v:Nat}{l jV zV:List Nat}(W:aJB n L D rk j l (v::jV))(F:∀i,i∈zV↔i<n/\L i=some v)(H:zV.Pairwise λx y=>wK (D x,(x:Int)) (D y,(y:Int))=true):aJB n L D rk j (l++ [v]) (zV++jV):=by
 obtain⟨C,r⟩:=W.al v bY4;obtain⟨E,I⟩:=cXe.mp W.aa;have b:∀c∈zV,c<n/\L c=some v/\tp L rk c=j/\Un L D rk v c/\c≠v:=λc m=>by
  obtain⟨t,s⟩:=(F c).mp m;refine⟨t,s,by rw[vO o t s];exact r,?_,λz=>?_⟩
  ·unfold Un;rw[uG o t s];exact List.prefix_append _ _
  ·have:=(o.lt c v t s).2;rw[z]at this;omega
 have self:∀x,Un L D rk x x:=λx=>List.prefix_refl _;refine⟨λx f=>?_,λx f=>?_,?_,λx f y g=>?_,?_,λk q u=>?_⟩
 ·rcases cQn.mp f with f|f
  ·exact W.tl x f
  ·rw[bY1.mp f];exact⟨C,r⟩
 ·rcases cQn.mp f with f|f
  ·exact⟨(b x f).1,(b x f).2.2.1⟩
  ·exact W.al x (bYZ _ f)
 ·refine cJD.mpr ⟨W.tt,cXd _ _,λx f y g=>?_⟩;rw[bY1.mp g];exact W.ta x f v bY4
 ·have p:∀y∈zV++jV,jL (rd L D rk v) (rd L D rk y)=true:=λy g=>by
   rcases cQn.mp g with g|g
   ·exact bKy o C (b y g).1 (b y g).2.2.2.1 (b y g).2.2.2.2
   ·exact E y g v (self v)
  rcases cQn.mp f with f|f
  ·exact Stree.Z1 (W.ta x f v bY4) (p y g)
  ·rw[bY1.mp f];exact p y g
 ·refine cJD.mpr ⟨H.imp_of_mem λ{c d} m hd h z A=>bKn o (b c m).1 (b d hd).1 (b c m).2.1 (b d hd).2.1 h A,I,λc m y g z A=>?_⟩;exact E y g z (List.IsPrefix.trans (b c m).2.2.2.1 A)
 ·rcases W.all k q u with h|⟨a,w,G⟩
  ·exact .inl (cXV _ h)
  ·rcases bYX.mp w with rfl|w
   ·by_cases e:k=a
    ·exact .inl (cQc _ (bY1.mpr e))
    ·obtain⟨c,m,hl,B⟩:=bZ4 o C q G e;exact .inr ⟨c,cXV _ ((F c).mpr ⟨m,hl⟩),B⟩
   ·exact .inr ⟨a,cQc _ w,G⟩
theorem aJB.nodup{b:Nat}{a nx:List Nat}(W:aJB n L D rk b a nx):a.Nodup:=
 W.tt.imp λ{x y} h z=>by rw[z,Stree.uB]at h;cases h
theorem wW:∀ {n:Nat} {l:List Nat},l.Nodup->(∀x∈l,x<n)->l.length<=n
 |0,[],_,_=>bYT _
 |0,x::_,_,h=>absurd (h x bY4) (cXr _)
 |n+1,l,nd,h=>by
  by_cases c:n∈l
  ·have b:=wW (n:=n) (l:=l.erase n) (nd.erase n) λx a=>by
    have:=(List.Nodup.mem_erase_iff nd).mp a;have:=h x this.2;omega
   rw[List.length_erase_of_mem c]at b;omega
  ·have b:=wW (n:=n) (l:=l) nd λx a=>by
    have:=h x a;have:x≠n:=λz=>c (z ▸ a);omega
   omega
theorem aJB.len{b:Nat}{a nx:List Nat}(W:aJB n L D rk b a nx):a.length<=n:=wW W.nodup λx c=>(W.tl x c).1
theorem aJB.done{b:Nat}{c:List Nat}(W:aJB n L D rk b c [])(k:Nat):k∈c↔k<n/\tp L rk k=b:=
 ⟨λh=>W.tl k h,λ⟨e,d⟩=>(W.all k e d).elim id λ⟨a,f,_⟩=>nomatch f⟩
end
end Fm
namespace Fm
open Stree (qO jL wK)
section
variable {n:Nat}{L:Nat->Option Nat}{D:Nat->Int}{rk rk':Nat->Nat}
theorem aY6(o:Ok n L rk)(b:Ok n L rk'){i:Nat}(a:i<n):rd L D rk i=rd L D rk' i:=by
 unfold rd;rw[jO o (rk i) (max (rk i) (rk' i)) i a (bYT _) (Nat.le_max_left _ _),jO b (rk' i) (max (rk i) (rk' i)) i a (bYT _) (Nat.le_max_right _ _)]
theorem jC(o:Ok n L rk)(b:Ok n L rk'){i:Nat}(a:i<n):tp L rk i=tp L rk' i:=by
 unfold tp;rw[jR o (rk i) (max (rk i) (rk' i)) i a (bYT _) (Nat.le_max_left _ _),jR b (rk' i) (max (rk i) (rk' i)) i a (bYT _) (Nat.le_max_right _ _)]
theorem bVE(o:Ok n L rk){i:Nat}(d:i<n):∃l:List Nat,(rd L D rk i).map (·.2)=l.map (λk:Nat=>(k:Int))/\l.Nodup/\(∀k∈l,k<n/\rk k<=rk i):=
 aXO o (P:=λi=>∃l:List Nat,(rd L D rk i).map (·.2)=l.map (λk:Nat=>(k:Int))/\l.Nodup/\(∀k∈l,k<n/\rk k<=rk i)) (λi d h=>⟨[i],by rw[Z6 h];rfl,by simp,λk c=>by rw[bY1.mp c];exact⟨d,bYT _⟩⟩)
  (λi j d h ⟨l,e,nd,hl⟩=>by
   obtain⟨p,m⟩:=o.lt i j d h;refine⟨l++ [i],by rw[uG o d h,cXq,cXq,e];rfl,?_,λk c=>?_⟩
   ·rw[cZi];refine⟨nd,by simp,λa g b f z=>?_⟩;rw[bY1.mp f]at z;have:=(hl a g).2;rw[z]at this;omega
   ·rcases cQn.mp c with c|c
    ·have:=hl k c;exact⟨this.1,by omega⟩
    ·rw[bY1.mp c];exact⟨d,bYT _⟩) (rk i) i (bYT _) d
theorem bKc(o:Ok n L rk){i:Nat}(c:i<n):(rd L D rk i).length<=n:=by
 obtain⟨l,e,a,hl⟩:=bVE (D:=D) o c;have h:=congrArg cXQ e;rw[bYR,bYR]at h;rw[h];exact wW a λk b=>(hl k b).1
theorem bJ2(o:Ok n L rk){a b:Nat}(ha:a<n)(hb:b<n)(h0:L a=none)(hne:tp L rk b≠a):Ok n (λi=>if i=a then some b else L i) (λi=>if tp L rk i=a then rk i+rk b+1 else rk i) where
 lt:=λi j hi h=>by
  by_cases e:i=a
  ·subst e
   rw[if_pos rfl]at h
   cases h
   rw[if_neg hne,if_pos (zT h0)]
   exact⟨hb,by omega⟩
  ·rw[if_neg e]at h
   obtain⟨hj,hr⟩:=o.lt i j hi h
   have et:=vO o hi h
   refine⟨hj,?_⟩
   rw[et]
   split<;> omega
theorem bXK(o:Ok n L rk)(a:Nat):Ok n (λi=>if i=a then none else L i) rk where
 lt:=λi j hi h=>by
  by_cases e:i=a
  ·rw[if_pos e]at h;cases h
  ·rw[if_neg e]at h;exact o.lt i j hi h
def bJF(rk:Nat->Nat):Option Nat->Nat
 |none=>0
 |some j=>rk j+1
theorem bXo(o:Ok n L rk)(l:Option Nat)(hl:∀j,l=some j->j<n):Ok (n+1) (λi=>if i=n then l else L i) (λi=>if i=n then bJF rk l else rk i) where
 lt:=λi j hi h=>by
  by_cases e:i=n
  ·rw[if_pos e]at h
   have hj:=hl j h
   rw[if_pos e,if_neg (by omega),h]
   exact⟨by omega,cQ9 _⟩
  ·rw[if_neg e]at h
   obtain⟨hj,hr⟩:=o.lt i j (by omega) h
   rw[if_neg e,if_neg (by omega)]
   exact⟨by omega,hr⟩
theorem bWl(o:Ok n L rk){i:Nat}(a:i<n):tp L rk (tp L rk i)=tp L rk i:=zT (bQ6 o a).2
theorem Ok.congr{b:Nat->Option Nat}(o:Ok n L rk)(h:∀i,i<n->L i=b i):Ok n b rk:=⟨λi j a e=>o.lt i j a ((h i a).trans e)⟩
end
end Fm
namespace Dm
def opn(d:Int):Bool:=decide (d % 7<5)
def cts(a:List Int)(d:Int):Bool:=opn d && !(a.contains d)
def cnt(b:List Int)(a:Int):Nat->Nat
 |0=>0
 |n+1=>cnt b a n+(if cts b (a+n)then 1 else 0)
def place(d:Int):Int:=d / 7*5+(if 4<d % 7 then 4 else d % 7)
def zQ(p:Int):Int:=p / 5*7+p % 5
theorem aKh(d:Int):place d=place (d - 1)+(if opn d then 1 else 0):=by
 unfold place opn;simp only[decide_eq_true_eq];split<;> split<;> split<;> omega
theorem bJR(b:List Int)(a:Int)(n m:Nat):cnt b a (n+m)=cnt b a n+cnt b (a+n) m:=by
 induction m with
 |zero=>rfl
 |succ m d=>have e:cnt b a (n+(m+1))=cnt b a (n+m)+(if cts b (a+((n+m:Nat):Int))then 1 else 0):=rfl;have c:cnt b (a+n) (m+1)=cnt b (a+n) m+(if cts b (a+n+(m:Int))then 1 else 0):=rfl;rw[e,c,d,show a+((n+m:Nat):Int)=a+n+(m:Int) by omega];omega
def vG(a b:Int)(d:Int):Bool:=decide (a<=d) && decide (d<=b)
theorem aJQ{S:List Int}(i:S.Nodup)(a b:Int)(g:a<=b+1): (S.filter (vG a (b+1))).length=(S.filter (vG a b)).length+(if S.contains (b+1)then 1 else 0):=by
 induction S with
 |nil=>rfl
 |cons x r d=>
  have c:=cXW.mp i;have d:=d c.2;by_cases j:x=b+1
  ·subst j;have k:r.contains (b+1)=false:=by
    rw[<- Bool.not_eq_true,cXp];exact c.1
   rw[k]at d;have f:vG a (b+1) (b+1)=true:=by simp[vG,g]
   have h:vG a b (b+1)=false:=by simp[vG];omega
   rw[cXx f,cXw (by rw[h];decide)];simp at d ⊢;omega
  ·have f:vG a (b+1) x=vG a b x:=by
    unfold vG;have:decide (x<=b+1)=decide (x<=b):=by rw[decide_eq_decide];omega
    rw[this]
   have h:(x::r).contains (b+1)=r.contains (b+1):=by
    rw[cZa];have:(b+1==x)=false:=by simp;omega
    rw[this,Bool.false_or]
   rw[h];by_cases e:vG a b x=true
   ·rw[cXx (by rw[f];exact e),cXx e];simp only[cQN];omega
   ·rw[cXw (by rw[f];exact e),cXw e];exact d
theorem aWD{b S:List Int}(e:S.Nodup)(g:∀d,d∈S↔d∈b/\opn d=true)(a:Int)(n:Nat): (cnt b a n:Int)=place (a+n - 1) - place (a - 1) - ((S.filter (vG a (a+n - 1))).length:Nat):=by
 induction n with
 |zero=>
  have:S.filter (vG a (a+(0:Nat) - 1))= []:=by rw[List.filter_eq_nil_iff];intro x _;simp[vG];omega
  rw[this];simp[cnt]
 |succ n j=>
  have f:=aJQ e a (a+n - 1) (by omega);rw[show a+(n:Int) - 1+1=a+n by omega]at f;have p:=aKh (a+n);rw[show a+((n+1:Nat):Int) - 1=a+n by omega];show((cnt b a n+(if cts b (a+n)then 1 else 0):Nat):Int)=_;have c:(if cts b (a+n)then 1 else 0:Nat)+(if S.contains (a+n)then 1 else 0:Nat)=(if opn (a+n)then 1 else 0:Nat):=by
   have i:S.contains (a+n)=(b.contains (a+n) && opn (a+n)):=by rw[Bool.eq_iff_iff,cXp,Bool.and_eq_true,cXp];exact g _
   rw[i];unfold cts;cases opn (a+↑n)<;> cases b.contains (a+↑n)<;> rfl
  have h:place (a+n)=place (a+n - 1)+((if opn (a+n)then 1 else 0:Nat):Int):=by rw[p];cases opn (a+↑n)<;> rfl
  rw[h,f];push_cast;omega
theorem aVb(p:Int):place (zQ p)=p:=by
 unfold place zQ;split<;> omega
theorem aZ9(p:Int):opn (zQ p)=true:=by
 unfold opn zQ;rw[decide_eq_true_eq];omega
theorem bXj{p q:Int}(h:p<q):zQ p<zQ q:=by
 unfold zQ;omega
theorem bXi{p q:Int}(h:p<=q):zQ p<=zQ q:=by
 unfold zQ;omega
theorem aJM(d:Int):d<zQ (place d+1):=by
 unfold place zQ;split<;> omega
def uV(date:Int)(p c:Int):Int:=if date<c/\c<=zQ p then p+1 else p
def aXT(date:Int)(p:Int)(C:List Int):Int:=C.foldl (uV date) p
def vM(date e:Int)(c:Int):Bool:=decide (date<c) && decide (c<=e)
theorem aVK{date:Int}(g:Int):∀ (d b:List Int)(p:Int),(b++d).Pairwise (·<·)->
  p=g+((b.filter (vM date (zQ p))).length:Nat)->(∀c∈b,date<c->c≠zQ p)->g<=p->
  ∃q,aXT date p d=q/\q=g+(((b++d).filter (vM date (zQ q))).length:Nat)/\(∀c∈b++d,date<c->c≠zQ q)/\g<=q
 |[],b,p,_,h1,h2,h3=>⟨p,rfl,by rw[cQP];exact h1,by rw[cQP];exact h2,h3⟩
 |c::d,b,p,hs,h1,h2,h3=>by
  have f:((b++ [c])++d).Pairwise (·<·):=by rw[cQ8];exact hs
  have lt:∀x∈b,x<c:=λx a=>(cJD.mp hs).2.2 x a c (bY4 ..);have fin:=aVK (date:=date) g d (b++ [c]);have step:aXT date p (c::d)=aXT date (uV date p c) d:=rfl;rw[step,show b++c::d=(b++ [c])++d by simp];by_cases i:date<c/\c<=zQ p
  ·have e:uV date p c=p+1:=if_pos i;rw[e];have up:=bXj (show p<p+1 by omega);refine fin (p+1) f ?_ ?_ (by omega)
   ·have k:b.filter (vM date (zQ (p+1)))=b.filter (vM date (zQ p)):=by
     refine cJ6 λx a=>?_;have:=lt x a;unfold vM;have q:decide (x<=zQ (p+1))=decide (x<=zQ p):=by rw[decide_eq_decide];omega
     rw[q]
    have h:vM date (zQ (p+1)) c=true:=by simp[vM];omega
    rw[cQZ,k,cXx h,cQa];simp only[List.filter_nil,cQN,cXU];omega
   ·intro x a j;rcases cQn.mp a with a|a
    ·have:=lt x a;omega
    ·have:x=c:=by simpa using a
     omega
  ·have e:uV date p c=p:=if_neg i;rw[e];refine fin p f ?_ ?_ h3
   ·have h:vM date (zQ p) c=false:=by simp[vM];omega
    rw[cQZ,cXw (by rw[h];decide)];simpa using h1
   ·intro x a j;rcases cQn.mp a with a|a
    ·exact h2 x a j
    ·have:x=c:=by simpa using a
     omega
structure Due(sh:List Int)(date term D:Int):Prop where
 later:date<D
 cts:cts sh D=true
 cnt:(cnt sh (date+1) (D - date).toNat:Int)=term
theorem bJf{b C:List Int}{date term:Int}(o:1<=term)(f:C.Pairwise (·<·))(c:∀d,d∈C↔d∈b/\opn d=true): Due b date term (zQ (aXT date (place date+term) C)):=by
 obtain⟨q,e,l,g,p⟩:=aVK (date:=date) (place date+term) C [] (place date+term) (by simpa using f) (by simp) (by simp) (Int.le_refl _);rw[e];rw[List.nil_append]at l g;have a:date<zQ q:=Int.lt_of_lt_of_le (aJM date) (bXi (by omega));refine⟨a,?_,?_⟩
 ·unfold Dm.cts;rw[aZ9,Bool.true_and,Bool.not_eq_true'];rw[<- Bool.not_eq_true,cXp];exact λz=>g _ ((c _).mpr ⟨z,aZ9 q⟩) a rfl
 ·have j:C.Nodup:=f.imp λh=>by omega
  have k:=aWD j c (date+1) (zQ q - date).toNat;have n:date+1+((zQ q - date).toNat:Int) - 1=zQ q:=by omega
  have m:date+1 - 1=date:=by omega
  rw[n,m,aVb]at k;have i:C.filter (vG (date+1) (zQ q))=C.filter (vM date (zQ q)):=by
   refine cJ6 λx _=>?_;unfold vG vM;have:decide (date+1<=x)=decide (date<x):=by rw[decide_eq_decide];omega
   rw[this]
  rw[i]at k;omega
theorem bXf(b:List Int)(a:Int){n m:Nat}(h:n<=m):cnt b a n<=cnt b a m:=by
 obtain⟨k,rfl⟩:=Nat.le.dest h;rw[bJR];omega
theorem Due.less{a:List Int}{date term D:Int}(u:Due a date term D){n:Nat}(h:date+n<D):(Dm.cnt a (date+1) n:Int)<term:=by
 have e:(D - date).toNat=((D - date).toNat - 1)+1:=by have:=u.later;omega
 have k:=u.cnt;rw[e]at k;have b:Dm.cnt a (date+1) (((D - date).toNat - 1)+1)=Dm.cnt a (date+1) ((D - date).toNat - 1)+(if Dm.cts a (date+1+(((D - date).toNat - 1:Nat):Int))then 1 else 0):=rfl;have c:date+1+(((D - date).toNat - 1:Nat):Int)=D:=by have:=u.later;omega
 rw[c,u.cts]at b;have m:=bXf a (date+1) (show n<=(D - date).toNat - 1 by omega);simp only[if_true]at b;omega
theorem Due.uniq{d:List Int}{date term D c:Int}(u:Due d date term D)(v:Due d date term c):D=c:=by
 have a:=u.later;have b:=v.later;have f:¬D<c:=λh=>by have:=v.less (n:=(D - date).toNat) (by omega);have:=u.cnt;omega
 have e:¬c<D:=λh=>by have:=u.less (n:=(c - date).toNat) (by omega);have:=v.cnt;omega
 omega
end Dm
namespace Bk
open PySem (Str)
open Stree (qO jL wK)
structure Row where
 way:Str
 date:Int
 partner:Str
 term:Int
 link:Option Nat
 place:Str
 void:Bool
 copies:List Str
abbrev Rows:=List Row
def lk(R:Rows)(i:Nat):Option Nat:=(R[i]?).bind (·.link)
def dt(R:Rows)(i:Nat):Int:=((R[i]?).map (·.date)).getD 0
def wO(R:Rows)(m:Int):Bool:=decide (0<=m) && (match R[m.toNat]? with|some r=> !r.void|none=>false)
theorem wP{R:Rows}{m:Int}(h:wO R m=true):∃ (k:Nat)(r:Row),m=(k:Int)/\k<R.length/\R[k]? =some r/\r.void=false:=by
 unfold wO at h;rw[Bool.and_eq_true,decide_eq_true_eq]at h;obtain⟨c,a⟩:=h;cases e:R[m.toNat]? with
 |none=>rw[e]at a;cases a
 |some r=>rw[e]at a;refine⟨m.toNat,r,by omega,(bYY.mp e).1,e,?_⟩;have b:(!r.void)=true:=a;simpa using b
def uU(R:Rows):Prop:=∃a,Fm.Ok R.length (lk R) a
def wA(R:Rows)(i:Nat)(l:List Nat):Prop:=∃a,Fm.Ok R.length (lk R) a/\(l.Pairwise λx y=>jL (Fm.rd (lk R) (dt R) a x) (Fm.rd (lk R) (dt R) a y)=true)/\∀k,k∈l↔k<R.length/\Fm.tp (lk R) a k=Fm.tp (lk R) a i
theorem wA.uniq{R:Rows}{i:Nat}{l m:List Nat}(q:i<R.length)(g:wA R i l)(f:wA R i m):l=m:=by
 obtain⟨n,o,p,e⟩:=g;obtain⟨r,d,s,j⟩:=f;refine Stree.uniq (lt:=λx y=>jL (Fm.rd (lk R) (dt R) n x) (Fm.rd (lk R) (dt R) n y)=true) (λa h=>by rw[Stree.uB]at h;cases h) (λa b c g f=>Stree.Z1 g f) p ?_ λk=>?_
 ·refine s.imp_of_mem λ{x y} hx hy h=>?_;rw[Fm.aY6 o d ((j x).mp hx).1,Fm.aY6 o d ((j y).mp hy).1];exact h
 ·rw[e k,j k];constructor
  ·rintro⟨a,b⟩;exact⟨a,by rw[<- Fm.jC o d a,<- Fm.jC o d q];exact b⟩
  ·rintro⟨a,b⟩;exact⟨a,by rw[Fm.jC o d a,Fm.jC o d q];exact b⟩
def zV(R:Rows)(i:Nat):List Nat:=(bYW R.length).filter λk=>decide (lk R k=some i)
def aQa(R:Rows)(i:Nat)(d:Int):Bool:=match R[i]? with
 |none=>false
 |some r=> !r.void && decide (1<=r.term) && decide (r.date<=d) && (zV R i).all λk=>decide (d<dt R k)
def xG(R:Rows)(i:Nat)(f:Row->Row):Rows:=match R[i]? with
 |some r=>R.set i (f r)
 |none=>R
theorem xX(R:Rows)(i:Nat)(f:Row->Row):(xG R i f).length=R.length:=by unfold xG;split<;> simp
theorem xJ(R:Rows)(i j:Nat)(f:Row->Row):(xG R i f)[j]? =if j=i then(R[j]?).map f else R[j]? :=by
 unfold xG;by_cases e:j=i
 ·subst e;rw[if_pos rfl];cases h:R[j]? with
  |none=>simp[h]
  |some r=>have a:j<R.length:=(bYY.mp h).1;simp[cX6 a]
 ·rw[if_neg e];cases h:R[i]? with
  |none=>rfl
  |some r=>simp[cZY (cQu e)]
def laid(R:Rows)(l:List Nat)(name:Str):Rows:=l.foldl (λR k=>xG R k λr=>{r with place:=name}) R
theorem uC(R:Rows)(i:Nat)(f:Row->Row)(h:∀r,(f r).link=r.link):lk (xG R i f)=lk R:=by
 funext j;unfold lk;rw[xJ];by_cases e:j=i
 ·rw[if_pos e];cases R[j]? with
  |none=>rfl
  |some r=>exact h r
 ·rw[if_neg e]
theorem aXS(R:Rows)(i:Nat)(f:Row->Row)(h:∀r,(f r).date=r.date):dt (xG R i f)=dt R:=by
 funext j;unfold dt;rw[xJ];by_cases e:j=i
 ·rw[if_pos e];cases R[j]? with
  |none=>rfl
  |some r=>show((some (f r)).map (·.date)).getD 0=_;simp[h r]
 ·rw[if_neg e]
theorem wQ(name:Str):∀ (l:List Nat)(R:Rows),(laid R l name).length=R.length
 |[],R=>rfl
 |k::l,R=>by show(laid (xG R k _) l name).length=_;rw[wQ name l,xX]
theorem Z0(name:Str):∀ (l:List Nat)(R:Rows),lk (laid R l name)=lk R
 |[],R=>rfl
 |k::l,R=>by show lk (laid (xG R k _) l name)=_;rw[Z0 name l,uC R k (λr=>{r with place:=name}) λ_=>rfl]
theorem aYl(name:Str):∀ (l:List Nat)(R:Rows),dt (laid R l name)=dt R
 |[],R=>rfl
 |k::l,R=>by show dt (laid (xG R k _) l name)=_;rw[aYl name l,aXS R k (λr=>{r with place:=name}) λ_=>rfl]
theorem wE(name:Str):∀ (l:List Nat)(R:Rows)(j:Nat),(laid R l name)[j]? =if j∈l then(R[j]?).map (λr=>{r with place:=name})else R[j]?
 |[],R,j=>by simp[laid]
 |k::l,R,j=>by
  show(laid (xG R k _) l name)[j]? =_;rw[wE name l,xJ];by_cases e:j=k
  ·subst e;rw[if_pos rfl,if_pos bY4];split
   ·cases R[j]? <;> rfl
   ·rfl
  ·rw[if_neg e];by_cases hl:j∈l
   ·rw[if_pos hl,if_pos (bYZ _ hl)]
   ·rw[if_neg hl,if_neg (by simp[e,hl])]
theorem uU.laid{R:Rows}(t:uU R)(l:List Nat)(name:Str):uU (laid R l name):=by
 obtain⟨a,o⟩:=t;refine⟨a,?_⟩;rw[wQ,Z0];exact o
theorem uU.same{R:Rows}(t:uU R)(i:Nat)(f:Row->Row)(h:∀r,(f r).link=r.link):uU (xG R i f):=by
 obtain⟨a,o⟩:=t;refine⟨a,?_⟩;rw[xX,uC R i f h];exact o
theorem aX2(R:Rows){i:Nat}(a:i<R.length)(f:Row->Row)(l:Option Nat)(h:∀r,(f r).link=l):lk (xG R i f)=λj=>if j=i then l else lk R j:=by
 funext j;unfold lk;rw[xJ];by_cases e:j=i
 ·subst e;rw[if_pos rfl,if_pos rfl,bYL a];exact h _
 ·rw[if_neg e,if_neg e]
theorem uU.loose{R:Rows}(t:uU R){i:Nat}(b:i<R.length)(f:Row->Row)(h:∀r,(f r).link=none):uU (xG R i f):=by
 obtain⟨a,o⟩:=t;refine⟨a,?_⟩;rw[xX,aX2 R b f none h];exact Fm.bXK o i
theorem uU.hang{R:Rows}{rk:Nat->Nat}(o:Fm.Ok R.length (lk R) rk){i j:Nat}(b:i<R.length)(c:j<R.length)(h0:lk R i=none)(a:Fm.tp (lk R) rk j≠i)(f:Row->Row)(h:∀r,(f r).link=some j):uU (xG R i f):=by
 refine⟨λk=>if Fm.tp (lk R) rk k=i then rk k+rk j+1 else rk k,?_⟩;rw[xX,aX2 R b f (some j) h];exact Fm.bJ2 o b c h0 a
theorem aYu(R:Rows)(r:Row):∀i,i<R.length+1->lk (R++ [r]) i=if i=R.length then r.link else lk R i:=λi a=>by
 unfold lk;by_cases e:i=R.length
 ·subst e;rw[if_pos rfl,bY9 (bYT _)];simp
 ·rw[if_neg e,cQp (by omega)]
theorem uU.enter{R:Rows}(t:uU R)(r:Row)(h:∀j,r.link=some j->j<R.length):uU (R++ [r]):=by
 obtain⟨a,o⟩:=t;have z:=Fm.bXo o r.link h;refine⟨λi=>if i=R.length then Fm.bJF a r.link else a i,?_⟩;rw[cQa,cQU];exact z.congr λi b=>(aYu R r i b).symm
end Bk
namespace Bk
open PySem (Str)
open Stree (qO jL wK)
theorem bQI{n:Nat}{L:Nat->Option Nat}{D:Nat->Int}{rk:Nat->Nat}(o:Fm.Ok n L rk):∀l:List Nat,l.Nodup->(∀k∈l,k<n)->∃m:List Nat,m.Perm l/\m.Pairwise λx y=>jL (Fm.rd L D rk x) (Fm.rd L D rk y)=true
 |[],_,_=>⟨[],.refl _,.nil⟩
 |x::l,nd,h=>by
  obtain⟨m,g,r⟩:=bQI (D:=D) o l (cXW.mp nd).2 λk c=>h k (bYZ _ c);have t:x<n:=h x bY4;have f:∀k∈m,k<n/\k≠x:=λk c=>⟨h k (bYZ _ (g.mem_iff.mp c)),λz=>(cXW.mp nd).1 (by rw[<- z];exact g.mem_iff.mp c)⟩;have ins:∀m:List Nat,(∀k∈m,k<n/\k≠x)->(m.Pairwise λx y=>jL (Fm.rd L D rk x) (Fm.rd L D rk y)=true)->∃d:List Nat,d.Perm (x::m)/\d.Pairwise λx y=>jL (Fm.rd L D rk x) (Fm.rd L D rk y)=true:=by
   intro m;induction m with
   |nil=>intro _ _;exact⟨[x],.refl _,cXd _ _⟩
   |cons y m s=>
    intro q j;obtain⟨a,b⟩:=cXe.mp j;have p:=q y bY4;rcases Stree.aX1 (λz=>p.2 (Fm.aY5 o p.1 t z):Fm.rd L D rk y≠Fm.rd L D rk x)with z|z
    ·obtain⟨d,e,i⟩:=s (λk c=>q k (bYZ _ c)) b;refine⟨y::d,(List.Perm.cons _ e).trans (List.Perm.swap _ _ _),cXe.mpr ⟨λk c=>?_,i⟩⟩;rcases bYX.mp (e.mem_iff.mp c)with rfl|c
     ·exact z
     ·exact a k c
    ·refine⟨x::y::m,.refl _,cXe.mpr ⟨λk c=>?_,j⟩⟩;rcases bYX.mp c with rfl|c
     ·exact z
     ·exact Stree.Z1 z (a k c)
  obtain⟨d,e,i⟩:=ins m f r;exact⟨d,e.trans (List.Perm.cons _ g),i⟩
theorem bQ5{R:Rows}(t:uU R)(i:Nat):∃l,wA R i l:=by
 obtain⟨a,o⟩:=t;obtain⟨m,b,d⟩:=bQI (D:=dt R) o ((bYW R.length).filter λk=>decide (Fm.tp (lk R) a k=Fm.tp (lk R) a i)) (cZZ.sublist cXN) λk c=>cQi.mp (cQE.mp c).1;refine⟨m,a,o,d,λk=>?_⟩;rw[b.mem_iff,cQE,cQi,decide_eq_true_eq]
open Classical in
noncomputable def thr (R:Rows) (i:Nat):List Nat:=if h:∃l,wA R i l then choose h else []
theorem Y9{R:Rows}(t:uU R)(i:Nat):wA R i (thr R i):=by
 have h:=bQ5 t i;unfold thr;rw[dif_pos h];exact Classical.choose_spec h
theorem aXN{R:Rows}{i:Nat}(b:i<R.length){l:List Nat}(h:wA R i l):thr R i=l:=
 wA.uniq b (by obtain⟨a,o,_⟩:=h;exact Y9 ⟨a,o⟩ i) h
open Classical in
noncomputable def due (shut:List Int) (d t:Int):Int:=if h:∃D,Dm.Due shut d t D then choose h else d
theorem bJe{shut:List Int}{d t D:Int}(h:Dm.Due shut d t D):due shut d t=D:=by
 have a:∃D,Dm.Due shut d t D:=⟨D,h⟩;unfold due;rw[dif_pos a];exact(Classical.choose_spec a).uniq h
structure bJI(R:Rows)(shut:List Int)(d:Int)(late:Bool)(l:List Nat):Prop where
 mem:∀k,k∈l↔k<R.length/\aQa R k d=true/\(late=true->due shut (dt R k) (((R[k]?).map (·.term)).getD 0)<d)
 ord:l.Pairwise λx y=>wK (due shut (dt R x) (((R[x]?).map (·.term)).getD 0),(x:Int)) (due shut (dt R y) (((R[y]?).map (·.term)).getD 0),(y:Int))=true
theorem bJI.uniq{R:Rows}{shut:List Int}{d:Int}{e:Bool}{l m:List Nat}(g:bJI R shut d e l)(f:bJI R shut d e m):l=m:=
 Stree.uniq (lt:=λx y=>wK (due shut (dt R x) (((R[x]?).map (·.term)).getD 0),(x:Int)) (due shut (dt R y) (((R[y]?).map (·.term)).getD 0),(y:Int))=true) (λa h=>by rw[Stree.vV]at h;cases h) (λa b c g f=>Stree.aX0 g f) g.ord f.ord λk=>by rw[g.mem k,f.mem k]
inductive Ans where
 |num (n:Int)|txt (x:Str)|nums (l:List Nat)|txts (l:List Str)|row (r:Row)
inductive xN where
 |enter (way:Str) (day:Int) (who:Str) (term:Int)|reply (m:Int) (day term:Int)|hang (m o:Int)|loose (m:Int)|date (m d:Int)|term (m t:Int)
 |copy (m:Int) (who:Str)|file (m:Int) (name:Str)|void (m:Int)|shut (d:Int)|state (m:Int)|thread (m:Int)|copies (m:Int)|letters (name:Str)|on (late:Bool) (d:Int)
def uD(a:Str):Str:=if a="in" then "out" else "in"
inductive xS(R:Rows)(S:List Int):xN->Ans->Rows->List Int->Prop
 |enter {way who:Str} {d t:Int} (h:0<=t):xS R S (.enter way d who t) (.num R.length) (R++ [⟨way,d,who,t,none,"",false,[]⟩]) S
 |enterT {way who:Str} {d t:Int} (h:t<0):xS R S (.enter way d who t) (.txt "no term") R S
 |replyN {m d t:Int} (h:wO R m=false):xS R S (.reply m d t) (.txt "no letter") R S
 |replyT {m d t:Int} (h:wO R m=true) (ht:t<0):xS R S (.reply m d t) (.txt "no term") R S
 |replyE {k:Nat} {d t:Int} {r:Row} (hk:R[k]? =some r) (h:r.void=false) (ht:0<=t) (hd:d<r.date):xS R S (.reply k d t) (.txt "too early") R S
 |reply {k:Nat} {d t:Int} {r:Row} (hk:R[k]? =some r) (h:r.void=false) (ht:0<=t) (hd:r.date<=d):xS R S (.reply k d t) (.num R.length) (R++ [⟨uD r.way,d,r.partner,t,some k,r.place,false,[]⟩]) S
 |hangN {m o:Int} (h:wO R m=false\/wO R o=false):xS R S (.hang m o) (.txt "no letter") R S
 |hangH {i j:Nat} {r q:Row} (hi:R[i]? =some r) (hv:r.void=false) (hj:R[j]? =some q) (hw:q.void=false) (h:r.link≠none):xS R S (.hang i j) (.txt "has one") R S
 |hangO {i j:Nat} {r q:Row} (hi:R[i]? =some r) (hv:r.void=false) (hj:R[j]? =some q) (hw:q.void=false) (h:r.link=none) (ho:(thr R j).head? =some i):xS R S (.hang i j) (.txt "own thread") R S
 |hangW {i j:Nat} {r q:Row} (hi:R[i]? =some r) (hv:r.void=false) (hj:R[j]? =some q) (hw:q.void=false) (h:r.link=none) (ho:(thr R j).head? ≠some i) (h1:r.way=q.way):xS R S (.hang i j) (.txt "same way") R S
 |hangP {i j:Nat} {r q:Row} (hi:R[i]? =some r) (hv:r.void=false) (hj:R[j]? =some q) (hw:q.void=false) (h:r.link=none) (ho:(thr R j).head? ≠some i) (h1:r.way≠q.way) (h2:r.partner≠q.partner):xS R S (.hang i j) (.txt "other partner") R S
 |hangE {i j:Nat} {r q:Row} (hi:R[i]? =some r) (hv:r.void=false) (hj:R[j]? =some q) (hw:q.void=false) (h:r.link=none) (ho:(thr R j).head? ≠some i) (h1:r.way≠q.way) (h2:r.partner=q.partner) (h3:r.date<q.date):xS R S (.hang i j) (.txt "too early") R S
 |hang {i j:Nat} {r q:Row} (hi:R[i]? =some r) (hv:r.void=false) (hj:R[j]? =some q) (hw:q.void=false) (h:r.link=none) (ho:(thr R j).head? ≠some i) (h1:r.way≠q.way) (h2:r.partner=q.partner) (h3:q.date<=r.date):
   xS R S (.hang i j) (.txt "hung") (xG (laid R (thr R i) q.place) i λr=>{r with link:=some j}) S
 |oneN {m:Int} {e:xN} (h:wO R m=false) (he:e= .loose m\/(∃d,e= .date m d)\/(∃t,e= .term m t)\/(∃w,e= .copy m w)\/(∃w,e= .file m w)\/e= .void m\/e= .state m\/e= .thread m\/e= .copies m):xS R S e (.txt "no letter") R S
 |looseN {k:Nat} {r:Row} (hk:R[k]? =some r) (hv:r.void=false) (h:r.link=none):xS R S (.loose k) (.txt "has none") R S
 |loose {k:Nat} {r:Row} (hk:R[k]? =some r) (hv:r.void=false) (h:r.link≠none):xS R S (.loose k) (.txt "loose") (xG R k λr=>{r with link:=none}) S
 |dateE {k:Nat} {r:Row} {d:Int} (hk:R[k]? =some r) (hv:r.void=false) (h:(∃j,r.link=some j/\d<dt R j)\/∃c∈zV R k,dt R c<d):xS R S (.date k d) (.txt "too early") R S
 |date {k:Nat} {r:Row} {d:Int} (hk:R[k]? =some r) (hv:r.void=false) (h1:∀j,r.link=some j->dt R j<=d) (h2:∀c∈zV R k,d<=dt R c):xS R S (.date k d) (.txt "dated") (xG R k λr=>{r with date:=d}) S
 |termN {k:Nat} {r:Row} {t:Int} (hk:R[k]? =some r) (hv:r.void=false) (h:t<0):xS R S (.term k t) (.txt "no term") R S
 |term {k:Nat} {r:Row} {t:Int} (hk:R[k]? =some r) (hv:r.void=false) (h:0<=t):xS R S (.term k t) (.txt "set") (xG R k λr=>{r with term:=t}) S
 |copyC {k:Nat} {r:Row} {w:Str} (hk:R[k]? =some r) (hv:r.void=false) (h:w=r.partner\/w∈r.copies):xS R S (.copy k w) (.txt "copied") R S
 |copy {k:Nat} {r:Row} {w:Str} (hk:R[k]? =some r) (hv:r.void=false) (h:w≠r.partner) (h2:w∉r.copies):xS R S (.copy k w) (.num (r.copies.length+1)) (xG R k λr=>{r with copies:=r.copies++ [w] }) S
 |file {k:Nat} {r:Row} {w:Str} (hk:R[k]? =some r) (hv:r.void=false):xS R S (.file k w) (.num (thr R k).length) (laid R (thr R k) w) S
 |voidA {k:Nat} {r:Row} (hk:R[k]? =some r) (hv:r.void=false) (h:zV R k≠ []):xS R S (.void k) (.txt "answered") R S
 |void {k:Nat} {r:Row} (hk:R[k]? =some r) (hv:r.void=false) (h:zV R k= []):xS R S (.void k) (.txt "void") (xG R k λr=>{r with link:=none,void:=true}) S
 |shutN {d:Int} (h:Dm.cts S d=false):xS R S (.shut d) (.txt "counts not") R S
 |shut {d:Int} (h:Dm.cts S d=true):xS R S (.shut d) (.txt "shut") R (S++ [d])
 |state {k:Nat} {r:Row} (hk:R[k]? =some r) (hv:r.void=false):xS R S (.state k) (.row r) R S
 |thread {k:Nat} {r:Row} (hk:R[k]? =some r) (hv:r.void=false):xS R S (.thread k) (.nums (thr R k)) R S
 |copies {k:Nat} {r:Row} (hk:R[k]? =some r) (hv:r.void=false):xS R S (.copies k) (.txts r.copies) R S
 |letters {w:Str}:xS R S (.letters w) (.nums ((bYW R.length).filter λk=>match R[k]? with|some r=> !r.void && decide (r.place=w)|none=>false)) R S
 |on {late:Bool} {d:Int} {l:List Nat} (h:bJI R S d late l):xS R S (.on late d) (.nums l) R S
end Bk
namespace Bk
open PySem (Str)
open Stree (qO jL wK)
theorem wA.head{R:Rows}{j:Nat}(i:j<R.length){l:List Nat}(h:wA R j l):∃c,Fm.Ok R.length (lk R) c/\l.head? =some (Fm.tp (lk R) c j):=by
 obtain⟨c,o,p,e⟩:=h;refine⟨c,o,?_⟩;have k:=Fm.bQ6 o i;have g:Fm.tp (lk R) c j∈l:=(e _).mpr ⟨k.1,Fm.bWl o i⟩;cases l with
 |nil=>cases g
 |cons x r=>
  by_cases z:x=Fm.tp (lk R) c j
  ·rw[z];rfl
  ·exfalso;obtain⟨a,b⟩:=cXe.mp p;have d:=(e x).mp bY4;have s:Fm.tp (lk R) c j∈r:=by
    rcases bYX.mp g with w|w
    ·exact absurd w.symm z
    ·exact w
   have q:=a _ s;have m:Fm.Un (lk R) (dt R) c (Fm.tp (lk R) c j) x:=by have:=Fm.bKz (D:=dt R) o d.1;rw[d.2]at this;exact this
   have n:=Fm.bKy o k.1 d.1 m z;have f:=Stree.Z1 q n;rw[Stree.uB]at f;cases f
theorem uM{R:Rows}(t:uU R){j:Nat}(b:j<R.length):∃a,Fm.Ok R.length (lk R) a/\(thr R j).head? =some (Fm.tp (lk R) a j):=(Y9 t j).head b
theorem zS{R:Rows}{k:Nat}{r:Row}(h:R[k]? =some r):k<R.length:=(bYY.mp h).1
theorem wM{R:Rows}{k:Nat}{r:Row}(h:R[k]? =some r):lk R k=r.link:=by unfold lk;rw[h];rfl
theorem w9{R:Rows}{k:Nat}{r:Row}(h:R[k]? =some r):dt R k=r.date:=by unfold dt;rw[h];rfl
theorem xS.tree{R k:Rows}{S n:List Int}{e:xN}{a:Ans}(t:uU R)(h:xS R S e a k n):uU k:=by
 cases h with
 |enter h=>exact t.enter _ λj c=>nomatch c
 |reply b h w x=>exact t.enter _ λj c=>by cases c;exact zS b
 |@hang i j r q m d c hw h u p l v=>
  obtain⟨f,o,s⟩:=uM t (zS c);have g:Fm.tp (lk R) f j≠i:=λz=>u (by rw[s,z]);refine uU.hang (R:=laid R (thr R i) q.place) (rk:=f) (i:=i) (j:=j) ?_ ?_ ?_ ?_ ?_ _ λ_=>rfl
  ·rw[wQ,Z0];exact o
  ·rw[wQ];exact zS m
  ·rw[wQ];exact zS c
  ·rw[Z0,wM m];exact h
  ·rw[Z0];exact g
 |loose b d h=>exact t.loose (zS b) _ λ_=>rfl
 |date b d p l=>exact t.same _ _ λ_=>rfl
 |term b d h=>exact t.same _ _ λ_=>rfl
 |copy b d h l=>exact t.same _ _ λ_=>rfl
 |file b d=>exact t.laid _ _
 |void b d h=>exact t.loose (zS b) _ λ_=>rfl
 |_=>exact t
theorem bZ2:uU []:=⟨λ_=>0,⟨λi j a=>absurd a (cXr _)⟩⟩
end Bk
namespace Bk
open PySem (Str)
open Stree (qO jL wK)
def bWu(r q:Row):Prop:=r.void=false/\q.void=false/\r.way≠q.way/\r.partner=q.partner/\q.date<=r.date/\r.place=q.place
structure jS(R:Rows):Prop where
 tree:uU R
 way:∀r∈R,r.way="in"\/r.way="out"
 ans:∀ (i j:Nat)(r:Row),R[i]? =some r->r.link=some j->∃q,R[j]? =some q/\bWu r q
theorem aVI:jS [] where
 tree:=bZ2
 way:=λr h=>absurd h (by simp)
 ans:=λi j r h=>by simp at h
theorem aVX{w:Str}(h:w="in"\/w="out"):uD w≠w/\(uD w="in"\/uD w="out"):=by
 rcases h with rfl|rfl
 ·exact⟨by decide,.inr rfl⟩
 ·exact⟨by decide,.inl rfl⟩
theorem qZ{R:Rows}{i:Nat}{f:Row->Row}{r:Row}(h:r∈xG R i f):r∈R\/∃q∈R,r=f q:=by
 unfold xG at h;split at h
 ·rename_i q a;rcases List.mem_or_eq_of_mem_set h with h|h
  ·exact .inl h
  ·exact .inr ⟨q,bY5 a,h⟩
 ·exact .inl h
theorem aJz{R:Rows}(h:∀r∈R,r.way="in"\/r.way="out")(i:Nat)(f:Row->Row)(b:∀r,(f r).way=r.way):∀r∈xG R i f,r.way="in"\/r.way="out":=λr a=>by
 rcases qZ a with a|⟨q,c,rfl⟩
 ·exact h r a
 ·rw[b];exact h q c
theorem aWs{name:Str}:∀ (l:List Nat) {R:Rows},(∀r∈R,r.way="in"\/r.way="out")->∀r∈laid R l name,r.way="in"\/r.way="out"
 |[],R,h=>h
 |k::l,R,h=>aWs l (aJz h k (λr=>{r with place:=name}) λ_=>rfl)
theorem bVg{R:Rows}{k i:Nat}{r:Row}(h:zV R k= [])(a:R[i]? =some r):r.link≠some k:=λe=>by
 have:i∈zV R k:=cQE.mpr ⟨cQi.mpr (zS a),decide_eq_true (by rw[wM a];exact e)⟩;rw[h]at this;cases this
theorem bXM{R:Rows}{k i:Nat}{r:Row}(a:R[i]? =some r)(e:r.link=some k):i∈zV R k:=
 cQE.mpr ⟨cQi.mpr (zS a),decide_eq_true (by rw[wM a];exact e)⟩
theorem bZ1{R:Rows}(t:uU R){i a b:Nat}{r:Row}(c:R[a]? =some r)(e:r.link=some b)(d:b<R.length):a∈thr R i↔b∈thr R i:=by
 obtain⟨f,o,_,h⟩:=Y9 t i;rw[h a,h b,Fm.vO o (zS c) (by rw[wM c];exact e)];exact⟨λz=>⟨d,z.2⟩,λz=>⟨zS c,z.2⟩⟩
theorem aWq{R:Rows}(t:uU R){i:Nat}(a:i<R.length):i∈thr R i:=by
 obtain⟨b,o,_,h⟩:=Y9 t i;exact(h i).mpr ⟨a,rfl⟩
theorem jS.laid{R:Rows}(b:jS R)(i:Nat)(name:Str):jS (laid R (thr R i) name) where
 tree:=b.tree.laid _ _
 way:=aWs _ b.way
 ans:=λx j r hx hl=>by
  rw[wE]at hx
  have back:∃r0,R[x]? =some r0/\r=(if x∈thr R i then {r0 with place:=name}else r0):=by
   by_cases hm:x∈thr R i
   ·rw[if_pos hm]at hx
    cases e:R[x]? with
    |none=>rw[e]at hx;cases hx
    |some r0=>rw[e]at hx;cases hx;exact⟨r0,rfl,by rw[if_pos hm]⟩
   ·rw[if_neg hm]at hx
    exact⟨r,hx,by rw[if_neg hm]⟩
  obtain⟨r0,h0,e0⟩:=back
  have hl0:r0.link=some j:=by rw[e0]at hl;split at hl<;> exact hl
  obtain⟨q0,hq0,f1,f2,f3,f4,f5,f6⟩:=b.ans x j r0 h0 hl0
  have hiff:=bZ1 (i:=i) b.tree h0 hl0 (zS hq0)
  refine⟨if j∈thr R i then {q0 with place:=name}else q0,by rw[wE,hq0];split<;> rfl,?_⟩
  by_cases hm:x∈thr R i
  ·rw[if_pos (hiff.mp hm),e0,if_pos hm]
   exact⟨f1,f2,f3,f4,f5,rfl⟩
  ·rw[if_neg (λz=>hm (hiff.mpr z)),e0,if_neg hm]
   exact⟨f1,f2,f3,f4,f5,f6⟩
theorem jS.set{R:Rows}(b:jS R){k:Nat}{f:Row->Row}(t:uU (xG R k f))(hw:∀r,(f r).way=r.way)(h1:∀r j q,R[k]? =some r->(f r).link=some j->j≠k->R[j]? =some q->bWu (f r) q/\True)(h0:∀r j,R[k]? =some r->(f r).link=some j->j≠k/\j<R.length)
  (h2:∀r i q,R[k]? =some r->R[i]? =some q->i≠k->q.link=some k->bWu q (f r)):jS (xG R k f) where
 tree:=t
 way:=aJz b.way k f hw
 ans:=λi j r hi hl=>by
  rw[xJ]at hi
  by_cases e:i=k
  ·subst e
   rw[if_pos rfl]at hi
   cases e0:R[i]? with
   |none=>rw[e0]at hi;cases hi
   |some r0=>
    rw[e0]at hi
    cases hi
    obtain⟨hjk,hjl⟩:=h0 r0 j e0 hl
    have hq:=bYL hjl
    exact⟨R[j],by rw[xJ,if_neg hjk];exact hq,(h1 r0 j _ e0 hl hjk hq).1⟩
  ·rw[if_neg e]at hi
   obtain⟨q,hq,hf⟩:=b.ans i j r hi hl
   by_cases ej:j=k
   ·subst ej
    exact⟨f q,by rw[xJ,if_pos rfl,hq];rfl,h2 q i r hq hi e hl⟩
   ·exact⟨q,by rw[xJ,if_neg ej];exact hq,hf⟩
theorem aQE{R:Rows}(t:uU R){k j:Nat}{r:Row}(h:R[k]? =some r)(e:r.link=some j):j≠k:=λz=>by
 obtain⟨a,o⟩:=t;have:=(o.lt k j (zS h) (by rw[wM h];exact e)).2;rw[z]at this;omega
theorem xS.book{R R':Rows}{S S':List Int}{e:xN}{a:Ans}(b:jS R)(hw:∀I d w t,e= .enter I d w t->I="in"\/I="out")(h:xS R S e a R' S'):jS R':=by
 have C:=h.tree b.tree;have Q:∀ (r:Row)(j:Nat) {i:Nat} {x:Row},R[i]? =some x->x.link=some j->∃q,(R++ [r])[j]? =some q/\bWu x q:=λr j {i x} m hl=>by obtain⟨q,n,B⟩:=b.ans i j x m hl;exact⟨q,by rw[cQp (zS n)];exact n,B⟩
 have snoc:∀r:Row,(r.way="in"\/r.way="out")->(∀j,r.link=some j->∃q,R[j]? =some q/\bWu r q)->uU (R++ [r])->jS (R++ [r]):=λr u s t=>⟨t,λx g=>by
   rcases cQn.mp g with g|g
   ·exact b.way x g
   ·rw[bY1.mp g];exact u,λi j x m hl=>by
   by_cases Z:i<R.length
   ·rw[cQp Z]at m;exact Q r j m hl
   ·have a0:i<(R++ [r]).length:=(bYY.mp m).1;rw[cQa,cQU]at a0;have:i=R.length:=by omega
    subst this;rw[bY9 (bYT _)]at m;simp at m;subst m;obtain⟨q,n,B⟩:=s j hl;exact⟨q,by rw[cQp (zS n)];exact n,B⟩⟩
 have plain:∀ (k:Nat)(f:Row->Row),(∀r,(f r).way=r.way/\(f r).date=r.date/\(f r).partner=r.partner/\(f r).link=r.link/\(f r).place=r.place/\(f r).void=r.void)->uU (xG R k f)->jS (xG R k f):=λk f B t=>by
  refine b.set t (λr=>(B r).1) (λr j q l hl a2 n=>?_) (λr j l hl=>?_) (λr i q l m a3 hl=>?_)
  ·obtain⟨g1,g2,g3,g4,g5,Y⟩:=B r;rw[g4]at hl;obtain⟨M,c,u,s,L,V,W,h6⟩:=b.ans k j r l hl;rw[n]at c;cases c;exact⟨⟨by rw[Y];exact u,s,by rw[g1];exact L,by rw[g3];exact V,by rw[g2];exact W,by rw[g5];exact h6⟩,trivial⟩
  ·rw[(B r).2.2.2.1]at hl;obtain⟨q,n,_⟩:=b.ans k j r l hl;exact⟨aQE b.tree l hl,zS n⟩
  ·obtain⟨g1,g2,g3,g4,g5,Y⟩:=B r;obtain⟨M,c,u,s,L,V,W,h6⟩:=b.ans i k q m hl;rw[l]at c;cases c;exact⟨u,by rw[Y];exact s,by rw[g1];exact L,by rw[g3];exact V,by rw[g2];exact W,by rw[g5];exact h6⟩
 cases h with
 |enter h=>exact snoc _ (hw _ _ _ _ rfl) (λj A=>nomatch A) C
 |@reply k d t r l h ht hd=>have P:=b.way r (bY5 l);exact snoc _ (aVX P).2 (λj A=>by cases A;exact⟨r,l,rfl,h,(aVX P).1,rfl,hd,rfl⟩) C
 |@hang i j r q m H A a1 h ho u s L=>
  have bl:=b.laid i q.place;obtain⟨rk,o,hh⟩:=uM b.tree (zS A);have N:Fm.tp (lk R) rk j≠i:=λz=>ho (by rw[hh,z]);have U:j∉thr R i:=λz=>by obtain⟨X,o',_,hm⟩:=Y9 b.tree i;have z2:=((hm j).mp z).2;have z3:Fm.tp (lk R) X i=i:=Fm.zT (by rw[wM m];exact h);rw[z3,Fm.jC o' o (zS A)]at z2;exact N z2
  have T:=aWq b.tree (zS m);have gi:(laid R (thr R i) q.place)[i]? =some {r with place:=q.place}:=by rw[wE,if_pos T,m];rfl
  have gj:(laid R (thr R i) q.place)[j]? =some q:=by rw[wE,if_neg U];exact A
  refine bl.set C (λ_=>rfl) (λx y z g hl p O=>?_) (λx y g hl=>?_) (λx y z g p v hl=>?_)
  ·rw[gi]at g;cases g;cases hl;rw[gj]at O;cases O;exact⟨⟨H,a1,u,s,L,rfl⟩,trivial⟩
  ·cases hl;exact⟨λz=>N (by rw[z,Fm.zT (by rw[wM m];exact h)]),by rw[wQ];exact zS A⟩
  ·obtain⟨M,c,G,E,J,D,K,F⟩:=bl.ans y i z p hl;rw[g]at c;cases c;exact⟨G,E,J,D,K,F⟩
 |@loose k r l H h=>refine b.set C (λ_=>rfl) (λx y z g hl=>nomatch hl) (λx y g hl=>nomatch hl) (λx y z g p v hl=>?_);obtain⟨M,c,G,E,J,D,K,F⟩:=b.ans y k z p hl;rw[g]at c;cases c;exact⟨G,E,J,D,K,F⟩
 |@date k r d l H u s=>
  refine b.set C (λ_=>rfl) (λx y z g hl v O=>?_) (λx y g hl=>?_) (λx y z g p v hl=>?_)
  ·rw[l]at g;cases g;obtain⟨M,c,G,E,J,D,K,F⟩:=b.ans k y r l hl;rw[O]at c;cases c;exact⟨⟨G,E,J,D,by rw[<- w9 O];exact u y hl,F⟩,trivial⟩
  ·obtain⟨q,n,_⟩:=b.ans k y x g hl;exact⟨aQE b.tree g hl,zS n⟩
  ·obtain⟨M,c,G,E,J,D,K,F⟩:=b.ans y k z p hl;rw[g]at c;cases c;exact⟨G,E,J,D,by rw[<- w9 p];exact s y (bXM p hl),F⟩
 |term l H h=>exact plain _ _ (λr=>⟨rfl,rfl,rfl,rfl,rfl,rfl⟩) C
 |copy l H h s=>exact plain _ _ (λr=>⟨rfl,rfl,rfl,rfl,rfl,rfl⟩) C
 |file l H=>exact b.laid _ _
 |void l H h=>exact b.set C (λ_=>rfl) (λx y z g hl=>nomatch hl) (λx y g hl=>nomatch hl) (λx y z g p v hl=>absurd hl (bVg h p))
 |_=>exact b
end Bk
namespace Law
open PySem L2 PyProof.Rows
open Bk (Row Rows)
def aZT(x:Str):Stmt->Bool
 |.FunctionDef n _ _ _ _ _ _ _ _ _=>n==x
 |_=>false
def xI(x:Str):Stmt:=(PySem.Challenge.pw_letterdesk_k08_whole_put_right_and_back.main.body.find? (aZT x)).getD (.Pass ⟨0,0,0,0⟩)
abbrev bVK:Stmt:=xI "_law_good"
abbrev bZq:Stmt:=xI "_law_kids_of"
theorem xD:cQw "len"=some (.builtin "len"):=dk
structure vP(mg:Str->Option bYM):Prop where
 b_len:mg "len"=none
 b_range:mg "range"=none
def zL:Option Nat->V
 |none=> .non
 |some j=> .int (j:Nat)
def bWz(H:Hp)(b:Nat)(r:Row):Prop:=∃a,H b=some (.lst [.str r.way,.int r.date,.str r.partner,.int r.term,zL r.link,.str r.place,.bl r.void,.ref a])/\H a=some (.lst (r.copies.map V.str))
structure xC(H:Hp)(ra:Nat)(rs:List Nat)(R:Rows):Prop where
 lst:H ra=some (.lst (rs.map V.ref))
 len:rs.length=R.length
 nd:rs.Nodup
 row:∀ (i:Nat)(b:Nat)(r:Row),rs[i]? =some b->R[i]? =some r->bWz H b r
theorem xC.get{H:Hp}{f:Nat}{a:List Nat}{R:Rows}(h:xC H f a R){i:Nat}{r:Row}(d:R[i]? =some r):∃b,(a.map V.ref)[i]? =some (.ref b)/\a[i]? =some b/\bWz H b r:=by
 have e:i<a.length:=by rw[h.len];exact Bk.zS d
 have c:=bYL e;exact⟨a[i],by rw[bY7,c];rfl,c,h.row i _ r c d⟩
def Q6:Sp:=λc H Q _=>∃ (a:Nat)(b:List Nat)(R:Rows)(m:Int),c= [.ref a,.int m]/\xC H a b R/\Q (.bl (Bk.wO R m)) H
section
variable {K:bYO}
theorem bVX:yN ["_law_rows","_law_number"] ["_law_rows","_law_number"] (yH bVK):=scM
theorem bVm(T:vP mg)(F:Fun K "_law_good" "_law_good" bVK f fd):xH P w K mg base CX0 1 f fd ["_law_rows","_law_number"] Q6:=by
 have n:=bVX;refine F.ok (k:=0) n (λo A outer s H u Q E r h=>?_);obtain⟨g,i,R,m,rfl,c,q⟩:=h;refine⟨_,(yG (yQ (aVZ (zM aYU yF (pv 1)) (aVZ (zM vQ (pv 1) (yS yO rfl T.b_len xD (yA (pv 0) yD))) (aJb (bJr (yL yK (yL yK (pv 0) (pv 1)) yF))))))),?_⟩;refine⟨_,rfl,_,_,rfl,rfl,_,rfl,?_⟩;unfold Bk.wO at q;cases d:decide (0<=m)with
 |false=>rw[d,Bool.false_and]at q;exact onF rfl q
 |true=>
  rw[d,Bool.true_and]at q;have h0:0<=m:=of_decide_eq_true d;refine onT rfl ⟨_,rfl,_,rfl,g,_,rfl,.inl (SqL.of c.lst),_,_,rfl,rfl,_,rfl,?_⟩;have hl:(i.map V.ref).length=R.length:=by rw[bYR];exact c.len
  rw[hl];obtain⟨k,rfl⟩:∃k:Nat,m=(k:Int):=⟨m.toNat,by omega⟩;rw[cQl]at q;cases e:decide ((k:Int)<(R.length:Nat))with
  |false=>
   have a:R.length<=k:=by have:=of_decide_eq_false e;omega
   rw[cQk a]at q;exact onF rfl q
  |true=>
   have a:k<R.length:=by have:=of_decide_eq_true e;omega
   obtain⟨b,j,p,t,l,v⟩:=c.get (bYL a);rw[bYL a]at q;refine onT rfl ⟨_,rfl,_,rfl,g,_,_,_,rfl,rfl,SqL.of c.lst,yR j,b,_,6,_,rfl,rfl,SqL.of l,rfl,_,rfl,q⟩
theorem bV0:yN ["_law_rows","_law_number"] ["_law_rows","_law_number"] (yH bZq):=scM
theorem bJ9:xQ ["_law_rows","_law_number"] (yH bZq) "_law_k" ["_law_number","_law_rows"] [1,0] {kind:= .function,names:= [(".0",.local),("_law_k",.local),("_law_number",.free),("_law_rows",.free)],isGenerator:=false,isCoroutine:=false,more:= [] }:=
 lcM
def aWj:Sp:=λc H Q _=>∃ (a:Nat)(b:List Nat)(R:Rows)(m:Nat),c= [.ref a,.int (m:Nat)]/\xC H a b R/\R.length<=100/\∀r,H r=none->Q (.ref r) (upd H r (.lst ((Bk.zV R m).map λi=>V.int (i:Nat))))
theorem aJO{o:Option Nat}{m:Nat}:decide (zL o=V.int (m:Nat))=decide (o=some m):=by
 cases o with
 |none=>rfl
 |some j=>show decide (V.int (j:Nat)=V.int (m:Nat))=decide (some j=some m);rw[Bool.eq_iff_iff];simp;omega
theorem bVp(T:vP mg)(F:Fun K "_law_kids_of" "_law_kids_of" bZq f fd):xH P w K mg base CX0 1 f fd ["_law_rows","_law_number"] aWj:=by
 have t:=bV0;refine F.ok (k:=0) t (λu A outer s H B Q E y h=>?_);obtain⟨d,n,R,m,rfl,c,hR,q⟩:=h;refine⟨_,(yG (yQ (aXq bJ9 rfl (zN rfl T.b_range (yA (yS yO rfl T.b_len xD (yA (pv 0) yD)) yD)) (λ_ _ _ _ _=>(wF (yM zH (yL (show IxR _ (aXG K)from yK) (yL (show IxR _ (aXG K)from yK) (pv 2) (pv 0)) yF) (pv 1)))) (λ_ _ _ _ _=>(pv 0))))),?_⟩;have hl:(n.map V.ref).length=R.length:=by rw[bYR];exact c.len
 refine⟨_,rfl,d,_,rfl,.inl (SqL.of c.lst),?_⟩;rw[hl];refine⟨_,rfl,by omega,by omega,λD e=>?_⟩;rw[cQl];refine qX (λk=>decide (Bk.lk R k=some m)) (λk=>V.int (k:Nat)) e (by rw[cQe];omega) (λk j g r i a=>?_) (λk j _ g r i a=>⟨_,rfl,a⟩) (q D e);obtain⟨b,p,x,z,o,C⟩:=c.get (bYL j);have l:g d=some (.lst (n.map V.ref)):=by rw[i d (yI c.lst e)];exact c.lst
 have v:g b=_:=(i b (yI o e)).trans o;refine⟨_,rfl,_,rfl,d,_,_,_,rfl,rfl,SqL.of l,yR p,b,_,4,_,rfl,rfl,SqL.of v,rfl,_,rfl,?_,_,rfl,?_⟩
 ·cases R[k].link<;> rfl
 ·rw[aJO,<- Bk.wM (bYL j)];exact a
end
end Law
namespace L2
open PySem PySem.Spec PyProof.Rows
section
variable {X:Cx}
theorem aKV(T:X.calm=true):jT X (.builtin "min") (λC H Q=>∃ (p:Nat)(c:List Int),C= [.ref p]/\SqL X.K H p (c.map V.int)/\c≠ []/\∀m,m∈c->(∀x∈c,m<=x)->Q (.int m) H):=by
 intro E s σ H C us Q I r h;obtain⟨p,c,rfl,O,w,q⟩:=h;obtain⟨u,rfl,L⟩:=aXe r;cases L;obtain⟨a,U,y,Z⟩:=I.list O;have D:cZn a c:=aXy U;have d:a.length=c.length:=D.length;have n:0<a.length:=by rw[d];exact cQV.mpr w
 obtain⟨o,P,_⟩:=id y.isList;have l:p<s.heap.objs.size:=bY0 P;have f:∀ (i:Nat)(v:bYM),a.toArray[i]? =some v->∃t,v=Value.int (c.getD i 0) t:=λi v B=>cJY D i v (by simpa using B);refine call_min_walk (cVd y.isList ?_);refine⟨s.heap.objs.size,[s.heap.objs.size,p],[s.heap.objs.size],a.toArray.size,_,_,_,rfl,Walks.list (A:=X.A.in1) (by simpa using I.ok.hd T) _ p (cQd l) a.toArray,⟨⟨_,cQh _ rfl,rfl,rfl⟩,y.isList.push _⟩,λb g=>?_,by rw[bY3];exact n,CmpOf.ints_lt (λi=>c.getD i 0) f,λv W tk B G=>?_⟩
 ·show b<(s.heap.push _).objs.size;rw[cXo];rcases bYX.mp g with rfl|g
  ·exact cQ9 _
  ·rw[bY1.mp g];exact cQY l
 ·obtain⟨t,rfl⟩:=f _ _ B;obtain⟨Y,F⟩:=argBest_lt (λi=>c.getD i 0) (a.toArray.size - 1);have N:a.toArray.size=c.length:=by rw[bY3];exact d
  have g:argBest (λi j=>decide (c.getD i 0<c.getD j 0)) (a.toArray.size - 1)<c.length:=by omega
  refine⟨.int _,H,I.kept (t':=tk) λb R e=>G b R (λz=>by rw[bY1.mp z]at e;exact cQ0 _ (bY0 e)) (bYS _ e),⟨t,rfl⟩,q _ ?_ λx M=>?_⟩
  ·generalize argBest (λi j=>decide (c.getD i 0<c.getD j 0)) (a.toArray.size - 1)=k at g;simp[cQx,bYL g]
  ·obtain⟨j,J,e⟩:=cQD M;have:=F j (by omega);have S:c.getD j 0=x:=by simp[cQx,bYL J,e]
   rw[S]at this;exact this
end
end L2
namespace Law
open PySem L2 PyProof.Rows
open Bk (Row Rows)
abbrev aV7:Stmt:=xI "_law_waits_on"
theorem aKS:cQw "min"=some (.builtin "min"):=dk
theorem bWz.same{H a:Hp}{b:Nat}{r:Row}(h:bWz H b r)(k:xF H a):bWz a b r:=let ⟨cp,e1,e2⟩:=h;⟨cp,k _ _ e1,k _ _ e2⟩
theorem xC.same{H a:Hp}{d:Nat}{c:List Nat}{R:Rows}(h:xC H d c R)(k:xF H a):xC a d c R:=
 ⟨k _ _ h.lst,h.len,h.nd,λi b r f e=>(h.row i b r f e).same k⟩
def bQY:Sp:=λe H Q _=>∃ (b:Nat)(c:List Nat)(R:Rows)(k:Nat)(d:Int),e= [.ref b,.int (k:Nat),.int d]/\xC H b c R/\R.length<=100/\k<R.length/\∀a,xF H a->Q (.bl (Bk.aQa R k d)) a
section
variable {K:bYO}
theorem bZL:yN ["_law_rows","_law_number","_law_date","_law_one","_law_dates"] ["_law_rows","_law_number","_law_date"] (yH aV7):=scM
theorem bXH:xQ ["_law_rows","_law_number","_law_date","_law_one","_law_dates"] (yH aV7) "_law_k" ["_law_rows"] [0] {kind:= .function,names:= [(".0",.local),("_law_k",.local),("_law_rows",.free)],isGenerator:=false,isCoroutine:=false,more:= [] }:=
 lcM
def dtV(R:Rows):V->V
 |.int n=> .int (Bk.dt R n.toNat)
 |_=> .non
theorem bX9(T:vP mg)(u:mg "min"=none)(a:FnG P w K mg base 1 "_law_kids_of" ["_law_rows","_law_number"] aWj)(F:Fun K "_law_waits_on" "_law_waits_on" aV7 f fd):xH P w K mg base CX0 2 f fd ["_law_rows","_law_number","_law_date"] bQY:=by
 have sc:=bZL;refine F.ok (k:=1) sc (λa0 A outer s H0 vs Q E X h=>?_);obtain⟨y,W,R,k,d,rfl,C,hR,hk,q⟩:=h;refine⟨_,(yC (yU (i:=3) (yL yK (pv 0) (pv 1))) (yC (y6 (PW.pt (jU (x5 (yL yK (pv 3) yF)) (jU (yM vQ (yL yK (pv 3) yF) yF) (vW (yM aXp (yL yK (pv 3) yF) (pv 2)))))) (yG (yQ vI)) yT) (yC (aXr (i:=4) bXH rfl sc.nd rfl rfl (xR (xO a X rfl (yA (pv 0) (yA (pv 1) yD)))) (λ_ _ _ _ _=>vB) (λ_ _ _ _ _=>(yL (show IxR _ (aXG K)from yK) (yL (show IxR _ (aXG K)from yK) (pv 1) (pv 0)) yF))) (yG (yQ (bW4 (zM (aX5 X.units0) (pv 4) (yZ yD)) (aJb (zM aXp (yS (aKV rfl) rfl u aKS (yA (pv 4) yD)) (pv 2))))))))),?_⟩;have o:=bYL hk;obtain⟨b,g1,g2,cp,N,g4⟩:=C.get o;have qw:Bk.aQa R k d=(!R[k].void && decide (1<=R[k].term) && decide (R[k].date<=d) && (Bk.zV R k).all λj=>decide (d<Bk.dt R j)):=by unfold Bk.aQa;rw[o]
 rw[qw]at q;refine⟨_,rfl,_,rfl,y,_,_,_,rfl,rfl,SqL.of C.lst,yR g1,?_⟩;dsimp only[yX];refine⟨_,rfl,b,_,6,_,rfl,rfl,SqL.of N,rfl,_,rfl,?_⟩;cases x:R[k].void with
 |true=>rw[x]at q;exact onT rfl (onT rfl (q _ (xF.refl _)))
 |false=>
  rw[x]at q;refine onF rfl ⟨_,rfl,b,_,3,_,rfl,rfl,SqL.of N,rfl,_,_,rfl,rfl,_,rfl,?_⟩;cases ht:decide (R[k].term<1)with
  |true=>have:decide (1<=R[k].term)=false:=decide_eq_false (by have:=of_decide_eq_true ht;omega);rw[this]at q;exact onT rfl (onT rfl (q _ (xF.refl _)))
  |false=>
   have:decide (1<=R[k].term)=true:=decide_eq_true (by have:=of_decide_eq_false ht;omega);rw[this]at q;refine onF rfl ⟨_,rfl,b,_,1,_,rfl,rfl,SqL.of N,rfl,_,rfl,_,_,rfl,rfl,_,rfl,?_⟩;cases hd:decide (R[k].date > d)with
   |true=>have:decide (R[k].date<=d)=false:=decide_eq_false (by have:=of_decide_eq_true hd;omega);rw[this]at q;exact onT rfl (q _ (xF.refl _))
   |false=>
    have:decide (R[k].date<=d)=true:=decide_eq_true (by have:=of_decide_eq_false hd;omega);rw[this]at q;refine onF rfl ?_;refine⟨_,rfl,_,rfl,y,W,R,k,rfl,C,hR,λr L=>⟨r,rfl,⟨_,SqL.of yB⟩,λD B=>?_⟩⟩;have k1:=yE L (.lst ((Bk.zV R k).map λi=>V.int (i:Nat)));have n:=C.same k1;have Z:(Bk.zV R k).length<=R.length:=by have:=cQL (λj=>decide (Bk.lk R j=some k)) (bYW R.length);rw[cQG]at this;exact this
    refine aXB (λ_=>true) (dtV R) (SqL.of yB) B (zn (by rw[bYR];omega)) (λv x U R' _ h=>h) (λv x _ U R' hH t=>?_) ?_
    ·obtain⟨j,hj,rfl⟩:=cQR.mp x;have I:j<R.length:=cQi.mp (cQE.mp hj).1;have z:=bYL I;obtain⟨bj,j1,j2,cj,Y,j4⟩:=n.get z;have M:U y=some (.lst (W.map V.ref)):=by rw[hH y (yI n.lst B)];exact n.lst
     have H:=(hH bj (yI Y B)).trans Y;have e:dtV R (V.int (j:Nat))=V.int R[j].date:=by show V.int (Bk.dt R (j:Int).toNat)=_;rw[cQl,Bk.w9 z]
     rw[e]at t;exact⟨_,rfl,_,rfl,y,_,_,_,rfl,rfl,SqL.of M,yR j1,bj,_,1,_,rfl,rfl,SqL.of H,rfl,t⟩
    ·have ff:((Bk.zV R k).map λi=>V.int (i:Nat)).filter (λ_=>true)=(Bk.zV R k).map λi=>V.int (i:Nat):=cZA.mpr λ_ _=>rfl;have em:((Bk.zV R k).map λi=>V.int (i:Nat)).map (dtV R)=((Bk.zV R k).map (Bk.dt R)).map V.int:=by
      rw[cZO,cZO];refine cJN λj _=>?_;show V.int (Bk.dt R (j:Int).toNat)=V.int (Bk.dt R j);rw[cQl]
     rw[ff,em];dsimp only[yX];have k2:=yE B (.lst (((Bk.zV R k).map (Bk.dt R)).map V.int));have c:upd (upd H0 r (.lst ((Bk.zV R k).map λi=>V.int (i:Nat)))) D (.lst (((Bk.zV R k).map (Bk.dt R)).map V.int)) D=some (.lst (((Bk.zV R k).map (Bk.dt R)).map V.int)):=yB;have kA:=k1.trans k2;generalize upd (upd H0 r (.lst ((Bk.zV R k).map λi=>V.int (i:Nat)))) D (.lst (((Bk.zV R k).map (Bk.dt R)).map V.int))=H2 at c kA ⊢;refine⟨_,rfl,z0,λpn S=>?_⟩;have O:=yE S (.lst []);refine⟨D,pn,_,rfl,rfl,SqL.of (O _ _ c),SqL.of yB,_,rfl,?_⟩;have p:=q _ (kA.trans O);cases g:Bk.zV R k with
     |nil=>rw[g]at p;exact onT rfl p
     |cons j l=>
      rw[g]at p;refine onF rfl ⟨_,rfl,D,(j::l).map (Bk.dt R),rfl,SqL.of (by rw[<- g];exact O _ _ c),by simp,λm hm G=>?_⟩;refine⟨_,rfl,_,_,rfl,rfl,?_⟩;have e:((!false && true && true && (j::l).all λj=>decide (d<Bk.dt R j)):Bool)=decide (m > d):=by
       rw[Bool.eq_iff_iff];simp only[Bool.not_false,Bool.true_and,cZX,decide_eq_true_eq];constructor
       ·intro h;obtain⟨i,J,rfl⟩:=cQR.mp hm;exact h i J
       ·intro h i J;have:=G _ (cQR.mpr ⟨i,J,rfl⟩);omega
      rw[e]at p;exact p
end
end Law
namespace Bk
theorem aZJ:∀shut:List Int,∃C:List Int,C.Pairwise (·<·)/\∀d,d∈C↔d∈shut/\Dm.opn d=true
 |[]=>⟨[],.nil,λd=>by simp⟩
 |x::l=>by
  obtain⟨C,n,m⟩:=aZJ l;have ins:∀C:List Int,C.Pairwise (·<·)->∃g:List Int,g.Pairwise (·<·)/\∀d,d∈g↔d=x\/d∈C:=by
   intro C;induction C with
   |nil=>intro _;exact⟨[x],cXd _ _,λd=>by simp⟩
   |cons y C p=>
    intro h;obtain⟨a,b⟩:=cXe.mp h;by_cases e:x=y
    ·subst e;exact⟨x::C,h,λd=>by simp⟩
    ·by_cases j:x<y
     ·refine⟨x::y::C,cXe.mpr ⟨λd f=>?_,h⟩,λd=>by simp⟩;rcases bYX.mp f with rfl|f
      ·exact j
      ·have:=a d f;omega
     ·obtain⟨g,k,i⟩:=p b;refine⟨y::g,cXe.mpr ⟨λd f=>?_,k⟩,λd=>?_⟩
      ·rcases(i d).mp f with rfl|f
       ·omega
       ·exact a d f
      ·rw[bYX,i d,bYX];constructor
       ·rintro(h|h|h)
        ·exact .inr (.inl h)
        ·exact .inl h
        ·exact .inr (.inr h)
       ·rintro(h|h|h)
        ·exact .inr (.inl h)
        ·exact .inl h
        ·exact .inr (.inr h)
  by_cases o:Dm.opn x=true
  ·obtain⟨g,k,i⟩:=ins C n;refine⟨g,k,λd=>?_⟩;rw[i d,m d,bYX];constructor
   ·rintro(rfl|⟨h,c⟩)
    ·exact⟨.inl rfl,o⟩
    ·exact⟨.inr h,c⟩
   ·rintro⟨h|h,c⟩
    ·exact .inl h
    ·exact .inr ⟨h,c⟩
  ·refine⟨C,n,λd=>?_⟩;rw[m d,bYX];constructor
   ·rintro⟨h,c⟩;exact⟨.inr h,c⟩
   ·rintro⟨h|h,c⟩
    ·rw[h]at c;exact absurd c o
    ·exact⟨h,c⟩
theorem bWJ(shut:List Int)(d:Int){t:Int}(a:1<=t):Dm.Due shut d t (due shut d t):=by
 obtain⟨C,c,b⟩:=aZJ shut;have h:=Dm.bJf (date:=d) a c b;rw[bJe h];exact h
end Bk
namespace Law
open PySem L2 PyProof.Rows
open Bk (Row Rows)
abbrev bQf:Stmt:=xI "_law_due_by"
abbrev aZe:Stmt:=xI "_law_list_on"
theorem vF:cQw "sorted"=some (.builtin "sorted"):=dk
def bQQ(K:bYO):Sp:=λc H Q _=>∃ (a:Nat)(b:List Int)(d t D:Int),c= [.ref a,.int d,.int t]/\SqL K H a (b.map V.int)/\Dm.Due b d t D/\Q (.int D) H
section
variable {K:bYO}
theorem jI(d:Int):∀ns:List Int,inV (.int d) (ns.map V.int)=ns.contains d
 |[]=>rfl
 |n::r=>by have a:=jI d r;unfold inV at a ⊢;rw[cQz,cX2,a,cZa];congr 1;show(n==d)=(d==n);rw[Bool.eq_iff_iff,beq_iff_eq,beq_iff_eq];exact eq_comm
theorem uX:∀ns:List Int,(ns.map V.int).all Q8=true
 |[]=>rfl
 |n::r=>by rw[cQz,cZ3,uX r];rfl
theorem bZA:yN ["_law_shut","_law_date","_law_term","_law_many"] ["_law_shut","_law_date","_law_term"] (yH bQf):=scM
theorem bXY(T:vP mg)(F:Fun K "_law_due_by" "_law_due_by" bQf f fd):xH P w K mg base CX0 1 f fd ["_law_shut","_law_date","_law_term"] (bQQ K):=by
 have C:=bZA;refine F.ok (k:=0) C (λI A outer s L N Q E M h=>?_);obtain⟨a,g,d,t,D,rfl,J,r,q⟩:=h;refine⟨_,(yC (yU (i:=3) yF) (yC (uF cQF (yM vQ (pv 3) (pv 2)) (yC (yU (i:=1) (yV zA (pv 1) yF)) (yG (y6 (PW.pt (v8 (yM vQ (yV y3 (pv 1) yF) yF) (vL (yM Q4 (pv 1) (pv 0))))) (yG (yU (i:=3) (yV zA (pv 3) yF))) yT)))) (yG (yQ (pv 1))))),?_⟩;refine⟨λm σ H=>∃n:Nat,σ= [some (.ref a),some (.int (d+n)),some (.int t),some (.int (Dm.cnt g (d+1) n))]/\H=L/\d+n<=D/\m=(D - (d+n)).toNat,⟨(D - d).toNat,0,?_,rfl,by have:=r.later;omega,by simp⟩,?_⟩
 ·rw[show d+((0:Nat):Int)=d by simp];rfl
 rintro m σ H ⟨n,rfl,rfl,p,rfl⟩;refine⟨_,rfl,_,rfl,_,_,rfl,rfl,_,rfl,?_⟩;refine qE (λc=>?_) (λc=>?_)
 ·have v:((Dm.cnt g (d+1) n:Nat):Int)<t:=of_decide_eq_true c;have G:d+n<D:=by
   by_cases e:d+n=D
   ·have:=r.cnt;rw[<- e,show(d+n - d).toNat=n by omega]at this;omega
   ·omega
  refine⟨λo u=>∃x,x<(D - (d+n)).toNat/\∃n:Nat,o= [some (.ref a),some (.int (d+n)),some (.int t),some (.int (Dm.cnt g (d+1) n))]/\u=H/\d+n<=D/\x=(D - (d+n)).toNat,λo u z=>z,?_⟩;refine⟨_,rfl,_,_,rfl,rfl,?_⟩;dsimp only[yX];have l:Dm.cnt g (d+1) (n+1)=Dm.cnt g (d+1) n+(if Dm.cts g (d+1+n)then 1 else 0):=rfl;have j:d+((n+1:Nat):Int)=d+n+1:=by omega
  refine⟨_,rfl,_,_,rfl,rfl,(show(0:Int)<7 by decide),_,_,rfl,rfl,_,rfl,?_⟩;have b:Dm.cts g (d+1+n)=(decide ((d+n+1) % 7<5) && !(g.contains (d+n+1))):=by rw[show d+1+(n:Int)=d+n+1 by omega];rfl
  cases B:decide ((d+(n:Int)+1) % 7<5)with
  |false=>rw[B,Bool.false_and]at b;rw[b]at l;refine onF rfl (onF rfl ⟨(D - (d+(n+1:Nat))).toNat,by omega,n+1,?_,rfl,by omega,rfl⟩);rw[l,j];rfl
  |true=>
   rw[B,Bool.true_and]at b;refine onT rfl ⟨_,rfl,_,rfl,a,_,rfl,.inl J,rfl,uX g,_,rfl,?_⟩;rw[if_pos rfl,jI];cases y:g.contains (d+(n:Int)+1)with
   |true=>rw[y]at b;rw[b]at l;refine onF rfl ⟨(D - (d+(n+1:Nat))).toNat,by omega,n+1,?_,rfl,by omega,rfl⟩;rw[l,j];rfl
   |false=>rw[y]at b;rw[b]at l;refine onT rfl ⟨_,rfl,_,_,rfl,rfl,(D - (d+(n+1:Nat))).toNat,by omega,n+1,?_,rfl,by omega,rfl⟩;rw[l,j];simp
 ·have v:¬ ((Dm.cnt g (d+1) n:Nat):Int)<t:=of_decide_eq_false (Bool.eq_false_iff.mpr c);have e:d+n=D:=by
   refine Int.le_antisymm p (Int.not_lt.mp λz=>v (r.less z))
  refine⟨_,rfl,?_⟩;rw[e];exact q
noncomputable def jX (R:Rows) (shut:List Int) (k:Nat):Int:=Bk.due shut (Bk.dt R k) (((R[k]?).map (·.term)).getD 0)
noncomputable def X0 (R:Rows) (shut:List Int) (d:Int) (a:Bool) (k:Nat):Bool:=Bk.aQa R k d && (!a || decide (jX R shut k<d))
def aWk:Sp:=λg H Q _=>∃ (e c:Nat)(f:List Nat)(R:Rows)(shut:List Int)(d:Int)(a:Bool),g= [.ref e,.ref c,.int d,.bl a]/\xC H e f R/\H c=some (.lst (shut.map V.int))/\R.length<64/\
 ∀ (r:Nat)(b:Hp)(l:List Nat),xF H b->H r=none->b r=some (.lst (l.map λi=>V.int (i:Nat)))->Bk.bJI R shut d a l->Q (.ref r) b
def aKJ(H:Hp)(g:Nat->Int)(k:Nat)(x:V):Prop:=∃p,x= .ref p/\H p=some (.tup [.int (g k),.int (k:Nat)])
theorem aKJ.tk{H b:Hp}{g:Nat->Int}(t:∀a c,H a=some (.tup c)->b a=some (.tup c)){k:Nat}{x:V}(h:aKJ H g k x):aKJ b g k x:=let ⟨p,e,a⟩:=h;⟨p,e,t _ _ a⟩
theorem aXP{R:Rows}{k:Nat}{d:Int}(a:k<R.length)(h:Bk.aQa R k d=true):1<=R[k].term:=by
 unfold Bk.aQa at h;rw[bYL a]at h;simp only[Bool.and_eq_true,decide_eq_true_eq]at h;exact h.1.1.2
theorem bQB:yN ["_law_rows","_law_shut","_law_date","_law_late","_law_made","_law_k","_law_last"] ["_law_rows","_law_shut","_law_date","_law_late"] (yH aZe):=scM
theorem aYp:xQ ["_law_rows","_law_shut","_law_date","_law_late","_law_made","_law_k","_law_last"] (yH aZe) "_law_pair" [] [] {kind:= .function,names:= [(".0",.local),("_law_pair",.local)],isGenerator:=false,isCoroutine:=false,more:= [] }:=
 lcM
theorem bQ9{α β:Type}{F:α->β->Prop}:∀ {l:List α} {m:List β} {i:Nat} {y:β},cQI F l m->m[i]? =some y->∃x,l[i]? =some x/\F x y
 |_,_,0,_,.cons r _,h=>by simp at h;subst h;exact⟨_,rfl,r⟩
 |_,_,i+1,_,.cons _ t,h=>by simpa using bQ9 (i:=i) t (by simpa using h)
 |_,_,i,_,.nil,h=>by simp at h
theorem aJa{α β:Type}{F:α->β->Prop}{x:α}{y:β}(r:F x y):∀ {l:List α} {m:List β},cQI F l m->cQI F (l++ [x]) (m++ [y])
 |_,_,.nil=> .cons r .nil
 |_,_,.cons a t=> .cons a (aJa r t)
theorem aXd{a H:Hp}{c:Nat}{o:HO}(k:xF a H)(h:a c=none):xF a (upd H c o):=λb u q=>by rw[yJ (yI q h)];exact k b u q
def bKJ(H:Hp):V->V
 |.ref p=>match H p with
  |some (.tup [_,y])=>y
  |_=> .non
 |_=> .non
theorem aWa{H:Hp}{p:Nat}{x y:V}(h:H p=some (.tup [x,y])):bKJ H (.ref p)=y:=by
 show(match H p with|some (.tup [_,y])=>y|_=>V.non)=y;rw[h]
theorem aYO(T:vP mg)(L:mg "sorted"=none)(o:FnG P w K mg base 2 "_law_waits_on" ["_law_rows","_law_number","_law_date"] bQY)(C:FnG P w K mg base 2 "_law_due_by" ["_law_shut","_law_date","_law_term"] (bQQ K)) (F:Fun K "_law_list_on" "_law_list_on" aZe f fd):xH P w K mg base CX0 3 f fd ["_law_rows","_law_shut","_law_date","_law_late"] aWk:=by
 have sc:=bQB;refine F.ok (k:=2) sc (λc0 A outer s H0 vs Q E hr h=>?_);obtain⟨U,sa,rs,R,shut,d,c,rfl,hB,b4,hR,q⟩:=h;refine⟨_,(yC (yU (i:=4) (yZ yD)) (yC (wL cQF rfl (zN rfl T.b_range (yA (yS yO rfl T.b_len xD (yA (pv 0) yD)) yD)) (xE (i:=5)) (yG (y6 (x5 (xO o hr rfl (yA (pv 0) (yA (pv 5) (yA (pv 2) yD))))) (yC (yU (i:=6) (xO C hr rfl (yA (pv 1) (yA (yL yK (yL yK (pv 0) (pv 5)) yF) (yA (yL yK (yL yK (pv 0) (pv 5)) yF) yD))))) (yG (y6 (PW.pt (jU (vK (x5 (pv 3))) (vW (yM vQ (pv 6) (pv 2))))) (yG (y0 (v6 cQj cQr cQs xL (pv 4) (yA (y8 (yA (pv 6) (yA (pv 5) yD))) yD)))) yT))) yT))) (yG (yQ (aXq aYp rfl (xR (yS uO rfl L vF (yA (pv 4) yD))) (λ_ _ _ _ _=>vB) (λ_ _ _ _ _=>(yL (show IxR _ (bZk K)from yW) (pv 0) yF))))))),?_⟩;refine⟨z0,λG b2=>?_⟩;dsimp only[yX];have k1:=yE b2 (.lst []);have hl:(rs.map V.ref).length=R.length:=by rw[bYR];exact hB.len
 refine⟨_,rfl,U,_,rfl,.inl (SqL.of (k1 _ _ hB.lst)),?_⟩;rw[hl];refine⟨_,rfl,by omega,by omega,?_⟩;rw[cQl];refine wV (λt σ H=>∃ (g:List V)(S N:Option V),σ= [some (.ref U),some (.ref sa),some (.int d),some (.bl c),some (.ref G),S,N]/\xF H0 H/\H G=some (.lst g)/\
  cQI (aKJ H (jX R shut)) ((bYW t).filter (X0 R shut d c)) g) ?_ ?_ ?_
 ·exact⟨[],none,none,rfl,k1,yB,.nil⟩
 ·rintro k σ H hk ⟨g,S,N,rfl,y,B,W⟩;rw[cX9];dsimp only[yX];have a8:=hB.same y;have Z:=bYL hk;rw[cZd,cQZ];have stay:∀X S N,xF H X->X0 R shut d c k=false->∃ (g:List V)(p5 p6:Option V),[some (V.ref U),some (V.ref sa),some (V.int d),some (V.bl c),some (V.ref G),S,N]= [some (.ref U),some (.ref sa),some (.int d),some (.bl c),some (.ref G),p5,p6]/\xF H0 X/\X G=some (.lst g)/\
    cQI (aKJ X (jX R shut)) ((bYW k).filter (X0 R shut d c)++ [k].filter (X0 R shut d c)) g:=λX S N kk e=>by
   have e3: [k].filter (X0 R shut d c)= []:=by simp[e]
   rw[e3,cQP]
   exact⟨g,S,N,rfl,y.trans kk,kk _ _ B,Paired.mapP W λ_ _ z=>z.tk λa xs e=>kk _ _ e⟩
  refine⟨_,rfl,_,rfl,_,rfl,U,rs,R,k,d,rfl,a8,by omega,hk,λH2 M=>⟨_,rfl,?_⟩⟩;cases hw:Bk.aQa R k d with
  |false=>exact onF rfl (stay H2 _ _ M (by unfold X0;rw[hw];rfl))
  |true=>
   have b7:=aXP hk hw;have Y:=a8.same M;obtain⟨b,g1,g2,cp,g3,g4⟩:=Y.get Z;have hD:=Bk.bWJ shut (Bk.dt R k) b7;have eD:jX R shut k=Bk.due shut (Bk.dt R k) R[k].term:=by unfold jX;rw[Z];rfl
   rw[<- eD,Bk.w9 Z]at hD;refine onT rfl ?_;refine⟨_,rfl,_,rfl,_,rfl,U,_,_,_,rfl,rfl,SqL.of Y.lst,yR g1,b,_,1,_,rfl,rfl,SqL.of g3,rfl,_,rfl,_,rfl,U,_,_,_,rfl,rfl,SqL.of Y.lst,yR g1,b,_,3,_,rfl,rfl,SqL.of g3,rfl,?_⟩;refine⟨sa,shut,_,_,jX R shut k,rfl,SqL.of (M _ _ (y _ _ b4)),hD,?_⟩;dsimp only[yX];have b0:X0 R shut d c k=true->aVE (tBM K "list" aY4 (bWh 4) (aKE (bYn (aKE (bWh 6) (aKE (bWh 5) bZW))) bZW)) {nx:=λσ H=>∃ (g:List V)(S N:Option V),σ= [some (.ref U),some (.ref sa),some (.int d),some (.bl c),some (.ref G),S,N]/\xF H0 H/\H G=some (.lst g)/\cQI (aKJ H (jX R shut)) ((bYW k).filter (X0 R shut d c)++ [k].filter (X0 R shut d c)) g,rt:=Q} [some (.ref U),some (.ref sa),some (.int d),some (.bl c),some (.ref G),some (.int (k:Nat)),some (.int (jX R shut k))] H2:=λe=>by
    have a2:=M _ _ B;refine⟨_,rfl,.inl ⟨rfl,_,SqL.of a2⟩,_,rfl,_,rfl,z2,λq3 b8=>?_⟩;have k5:=yE b8 (.tup [V.int (jX R shut k),V.int (k:Nat)]);have a9:=k5 _ _ a2;have il:g.length<=k:=by rw[<- W.length];exact cQo (cQL _ _) (by simp)
    have t6:∀a xs,upd H2 q3 (.tup [V.int (jX R shut k),V.int (k:Nat)]) a=some (.tup xs)->upd (upd H2 q3 (.tup [V.int (jX R shut k),V.int (k:Nat)])) G (.lst (g++ [V.ref q3])) a=some (.tup xs):=λa xs e=>by rw[yJ (aXl e a9 (by intro z;cases z))];exact e
    have e3: [k].filter (X0 R shut d c)= [k]:=by simp[e]
    refine⟨G,g,.ref q3,rfl,rfl,a9,zlt (by omega),g++ [.ref q3],_,_,rfl,aXd (y.trans (M.trans k5)) b2,yB,?_⟩;rw[e3];exact aJa ⟨q3,rfl,t6 _ _ yB⟩ (Paired.mapP W λ_ _ z=>z.tk λa xs e=>t6 _ _ (k5 _ _ (M _ _ e)))
   refine⟨_,rfl,_,rfl,?_⟩;by_cases n:c=true
   ·refine onF (by rw[n];rfl) ⟨_,rfl,_,rfl,_,_,rfl,rfl,_,rfl,?_⟩;cases a7:decide (jX R shut k<d)with
    |true=>exact onT rfl (b0 (by unfold X0;rw[hw,n,a7];rfl))
    |false=>exact onF rfl (stay H2 _ _ M (by unfold X0;rw[hw,n,a7];rfl))
   ·have hf:c=false:=by simpa using n
    exact onT (by rw[hf];rfl) (onT rfl (b0 (by unfold X0;rw[hw,hf];rfl)))
 ·rintro σ H1 ⟨g,S,N,rfl,y,B,W⟩;generalize J:(bYW R.length).filter (X0 R shut d c)=fam at W;have a6:fam.length=g.length:=W.length;have fn:fam.length<=R.length:=by rw[<- J];exact cQo (cQL _ _) (by simp)
  have a4:∀k,k∈fam↔k<R.length/\X0 R shut d c k=true:=λk=>by rw[<- J,cQE,cQi]
  have b6:fam.Nodup:=by rw[<- J];exact cZZ.sublist cXN
  refine⟨_,rfl,G,g,λm=>(jX R shut (fam.getD m 0),((fam.getD m 0:Nat):Int)),rfl,B,by omega,λa b ha hb e=>?_,λm x hx=>?_,λl j hl a1 b3=>?_⟩
  ·have I:fam.getD a 0=fam.getD b 0:=by have:=congrArg Prod.snd e;simp only at this;omega
   have b1:a<fam.length:=by omega
   have a3:b<fam.length:=by omega
   simp[cQx,bYL b1,bYL a3]at I;exact(cXE (h₀:=b1) (h₁:=a3) b6).mp I
  ·obtain⟨k,hk,p,e1,I⟩:=bQ9 W hx;have:fam.getD m 0=k:=by simp[cQx,hk]
   show ∃a,x=V.ref a/\H1 a=some (.tup [V.int (jX R shut (fam.getD m 0)),V.int ((fam.getD m 0:Nat):Int)]);rw[this];exact⟨p,e1,I⟩
  ·have hm:∀m∈j,m<g.length:=λm hm=>cQi.mp (a1.mem_iff.mp hm);have M:=yE hl (.lst (j.map λi=>g.getD i .non));refine⟨l,rfl,⟨_,SqL.of yB⟩,λr O=>?_⟩;have b9:j.length=g.length:=by rw[a1.length_eq,cQG]
   have a5:∀m∈j,∃p,g.getD m .non= .ref p/\H1 p=some (.tup [.int (jX R shut (fam.getD m 0)),.int ((fam.getD m 0:Nat):Int)]):=λm u=>by
    have D:=hm m u;have hg:g[m]? =some (g.getD m .non):=by simp[cQx,bYL D]
    obtain⟨k,hk,p,e1,I⟩:=bQ9 W hg;have:fam.getD m 0=k:=by simp[cQx,hk]
    rw[this];exact⟨p,e1,I⟩
   refine aXB (λ_=>true) (bKJ H1) (SqL.of yB) O (zn (by rw[bYR];omega)) (λv hv X R' _ h=>h) (λv hv _ X R' hH a0=>?_) ?_
   ·obtain⟨m,u,rfl⟩:=cQR.mp hv;obtain⟨p,e1,I⟩:=a5 m u;rw[e1]at a0 ⊢;have e4:=M _ _ I;have e5:=(hH p (yI e4 O)).trans e4;rw[aWa I]at a0;exact⟨_,rfl,p,_,1,_,rfl,rfl,SqT.of e5,rfl,a0⟩
   ·have ff:(j.map λi=>g.getD i .non).filter (λ_=>true)=j.map λi=>g.getD i .non:=cZA.mpr λ_ _=>rfl;have e6:((j.map λi=>g.getD i .non).map (bKJ H1))=(j.map λm=>fam.getD m 0).map λi=>V.int (i:Nat):=by
     rw[cZO,cZO];refine cJN λm u=>?_;obtain⟨p,e1,I⟩:=a5 m u;show bKJ H1 (g.getD m .non)=V.int (fam.getD m 0:Nat);rw[e1];exact aWa I
    rw[ff,e6];refine q r _ (j.map λm=>fam.getD m 0) (y.trans (M.trans (yE O _))) ((y.trans M).fresh O) yB ⟨λk=>?_,?_⟩
    ·have b5:k∈j.map (λm=>fam.getD m 0)↔k∈fam:=by
      constructor
      ·intro h;obtain⟨m,u,rfl⟩:=cQR.mp h;have D:m<fam.length:=by rw[a6];exact hm m u
       simp[cQx,bYL D]
      ·intro h;obtain⟨m,D,e⟩:=cQD h;refine cQR.mpr ⟨m,a1.mem_iff.mpr (cQi.mpr (by omega)),?_⟩;simp[cQx,bYL D,e]
     rw[b5,a4 k];unfold X0;rw[Bool.and_eq_true,Bool.or_eq_true,decide_eq_true_eq];refine and_congr Iff.rfl (and_congr Iff.rfl ?_);cases c<;> simp[jX]
    ·rw[cJk];exact b3
end
end Law
namespace Law
open PySem L2 PyProof.Rows
open Bk (Row Rows)
open Stree (qO jL wK)
abbrev aZd:Stmt:=xI "_law_family"
theorem zO{a H:Hp}{c:Nat}{o:HO}(k:xF a H)(h:a c=none):xF a (upd H c o):=λb u q=>by rw[yJ (yI q h)];exact k b u q
theorem wZ{H:Hp}{p:Nat}{c:List V}{o:HO}(h:H p=some (.lst c)):∀a b,H a=some (.tup b)->upd H p o a=some (.tup b):=λa b e=>by rw[yJ (aXl e h (by intro z;cases z))];exact e
structure bJa(H:Hp)(ra:Nat)(rs:List Nat)(n:Nat)(L:Nat->Option Nat)(D:Nat->Int):Prop where
 lst:H ra=some (.lst (rs.map V.ref))
 len:rs.length=n
 row:∀i b,rs[i]? =some b->∃xs,H b=some (.lst xs)/\xs[1]? =some (.int (D i))/\xs[4]? =some (zL (L i))
def aQh:Sp:=λf H Q _=>∃ (d:Nat)(e:List Nat)(n:Nat)(L:Nat->Option Nat)(b:Nat->Nat)(D:Nat->Int)(i:Nat),f= [.ref d,.int (i:Nat)]/\bJa H d e n L D/\Fm.Ok n L b/\n<=60/\i<n/\
 ∀ (c:Hp)(r:Nat)(a:List Nat),xF H c->H r=none->c r=some (.lst (a.map λi=>V.int (i:Nat)))->(a.Pairwise λx y=>jL (Fm.rd L D b x) (Fm.rd L D b y)=true)->(∀k,k∈a↔k<n/\Fm.tp L b k=Fm.tp L b i)->Q (.ref r) c
def Tk(H c:Hp):Prop:=∀a b,H a=some (.tup b)->c a=some (.tup b)
theorem xF.tk{H b:Hp}(k:xF H b):Tk H b:=λa c e=>k a _ e
theorem Tk.trans{H f d:Hp}(a:Tk H f)(b:Tk f d):Tk H d:=λc g e=>b c g (a c g e)
theorem X3.tk{H a:Hp}(k:Tk H a){b:Nat}{d:qO}(h:X3 H b d):X3 a b d:=let ⟨xs,e,z⟩:=h;⟨xs,k _ _ e,Paired.mapP z λ_ _ ⟨c,w1,w2⟩=>⟨c,w1,k _ _ w2⟩⟩
def bKE(H:Hp)(rd:Nat->qO)(k:Nat)(x:V):Prop:=∃p b,x= .ref p/\H p=some (.tup [.ref b,.int (k:Nat)])/\X3 H b (rd k)
theorem bKE.tk{H d:Hp}{rd:Nat->qO}(t:Tk H d){k:Nat}{x:V}(h:bKE H rd k x):bKE d rd k x:=let ⟨p,b,e,a,c⟩:=h;⟨p,b,e,t _ _ a,X3.tk t c⟩
theorem Y1{α β:Type}{F:α->β->Prop}:∀ {l:List α} {m:List β} {i:Nat} {y:β},cQI F l m->m[i]? =some y->∃x,l[i]? =some x/\F x y
 |_,_,0,_,.cons r _,h=>by simp at h;subst h;exact⟨_,rfl,r⟩
 |_,_,i+1,_,.cons _ t,h=>by simpa using Y1 (i:=i) t (by simpa using h)
 |_,_,i,_,.nil,h=>by simp at h
theorem aQJ{α β:Type}{F:α->β->Prop}{x:α}{y:β}(r:F x y):∀ {l:List α} {m:List β},cQI F l m->cQI F (l++ [x]) (m++ [y])
 |_,_,.nil=> .cons r .nil
 |_,_,.cons a t=> .cons a (aQJ r t)
section
variable {K:bYO}
theorem bQA:yN ["_law_rows","_law_number","_law_root","_law_keys","_law_k","_law_key","_law_top"] ["_law_rows","_law_number"] (yH aZd):=scM
theorem aYo:xQ ["_law_rows","_law_number","_law_root","_law_keys","_law_k","_law_key","_law_top"] (yH aZd) "_law_pair" [] [] {kind:= .function,names:= [(".0",.local),("_law_pair",.local)],isGenerator:=false,isCoroutine:=false,more:= [] }:=
 lcM
def bKp(H:Hp):V->V
 |.ref p=>match H p with
  |some (.tup [_,y])=>y
  |_=> .non
 |_=> .non
theorem aWb{H:Hp}{p:Nat}{x y:V}(h:H p=some (.tup [x,y])):bKp H (.ref p)=y:=by
 show(match H p with|some (.tup [_,y])=>y|_=>V.non)=y;rw[h]
theorem aYN(T:vP mg)(a6:mg "sorted"=none)(F:Fun K "_law_family" "_law_family" aZd f fd):xH P w K mg base CX0 2 f fd ["_law_rows","_law_number"] aQh:=by
 have sc:=bQA;refine F.ok (k:=1) sc (λf4 A outer s H0 vs Q E hr h=>?_);obtain⟨X,rs,n,L,g,D,i,rfl,hR,ho,hn,hi,q⟩:=h;refine⟨_,(yC (yU (i:=2) (pv 1)) (yC (uF cQF (yM z6 (yL yK (yL yK (pv 0) (pv 2)) yF) x3) (yG (yU (i:=2) (yL yK (yL yK (pv 0) (pv 2)) yF)))) (yC (yU (i:=3) (yZ yD)) (yC (wL cQF rfl (zN rfl T.b_range (yA (yS yO rfl T.b_len xD (yA (pv 0) yD)) yD)) (xE (i:=4)) (yC (yU (i:=5) (y8 (yA (y8 (yA (yL yK (yL yK (pv 0) (pv 4)) yF) (yA (pv 4) yD))) yD))) (yC (yU (i:=6) (pv 4)) (yC (uF cQF (yM z6 (yL yK (yL yK (pv 0) (pv 6)) yF) x3) (yC (yU (i:=6) (yL yK (yL yK (pv 0) (pv 6)) yF)) (yG (yU (i:=5) (yV aYT (y8 (yA (y8 (yA (yL yK (yL yK (pv 0) (pv 6)) yF) (yA (pv 6) yD))) yD)) (pv 5)))))) (yG (y6 (yM zH (pv 6) (pv 2)) (yG (y0 (v6 cQj cQr cQs xL (pv 3) (yA (y8 (yA (pv 5) (yA (pv 4) yD))) yD)))) yT)))))) (yG (yQ (aXq aYo rfl (xR (yS (Q7 hr) rfl a6 vF (yA (pv 3) yD))) (λ_ _ _ _ _=>vB) (λ_ _ _ _ _=>(yL (show IxR _ (bZk K)from yW) (pv 0) yF))))))))),?_⟩;have row:∀ {H:Hp} {t:Nat},xF H0 H->t<n->∃b I,(rs.map V.ref)[t]? =some (.ref b)/\H b=some (.lst I)/\I[1]? =some (.int (D t))/\I[4]? =some (zL (L t)):=λ{H t} k ht=>by
  have d9:t<rs.length:=by rw[hR.len];exact ht
  have hb:=bYL d9;obtain⟨I,h1,h2,h3⟩:=hR.row t _ hb;exact⟨rs[t],I,by rw[bY7,hb];rfl,k _ _ h1,h2,h3⟩
 refine⟨_,rfl,?_⟩;dsimp only[yX];refine⟨λm σ H=>∃t:Nat,σ= [some (.ref X),some (.int (i:Nat)),some (.int (t:Nat)),none,none,none,none]/\H=H0/\t<n/\Fm.tp L g t=Fm.tp L g i/\m=g t,⟨g i,i,rfl,rfl,hi,rfl,rfl⟩,?_⟩;rintro m σ H ⟨t,rfl,rfl,ht,c6,rfl⟩;obtain⟨b,I,g1,g2,g3,g4⟩:=row (xF.refl H) ht;refine⟨_,rfl,_,rfl,X,_,_,_,rfl,rfl,SqL.of hR.lst,yR g1,b,I,4,_,rfl,rfl,SqL.of g2,yR (j:=4) g4,rfl,_,rfl,?_⟩;cases hl:L t with
 |some j=>obtain⟨hj,b7⟩:=ho.lt t j ht hl;refine onT rfl ⟨λσ' H'=>∃m',m'<g t/\∃t:Nat,σ'= [some (.ref X),some (.int (i:Nat)),some (.int (t:Nat)),none,none,none,none]/\H'=H/\t<n/\Fm.tp L g t=Fm.tp L g i/\m'=g t,λσ' H' z=>z,?_⟩;refine⟨_,rfl,_,rfl,X,_,_,_,rfl,rfl,SqL.of hR.lst,yR g1,b,I,4,_,rfl,rfl,SqL.of g2,yR (j:=4) g4,?_⟩;rw[hl];exact⟨g j,b7,j,rfl,rfl,hj,by rw[<- c6,Fm.vO ho ht hl],rfl⟩
 |none=>
  have c4:t=Fm.tp L g i:=by rw[<- c6,Fm.zT hl]
  subst c4;refine onF rfl ?_;refine⟨z0,λka c3=>?_⟩;dsimp only[yX];have k1:=yE c3 (.lst []);have c0:(rs.map V.ref).length=n:=by rw[bYR];exact hR.len
  refine⟨_,rfl,X,_,rfl,.inl (SqL.of (k1 _ _ hR.lst)),?_⟩;rw[c0];refine⟨_,rfl,by omega,by omega,?_⟩;rw[cQl];refine wV (λt σ H'=>∃ (d:List V)(o4 o5 o6:Option V),σ= [some (.ref X),some (.int (i:Nat)),some (.int (Fm.tp L g i:Nat)),some (.ref ka),o4,o5,o6]/\xF H H'/\H' ka=some (.lst d)/\
   cQI (bKE H' (Fm.rd L D g)) ((bYW t).filter λk=>decide (Fm.tp L g k=Fm.tp L g i)) d) ?_ ?_ ?_
  ·exact⟨[],none,none,none,rfl,k1,yB,.nil⟩
  ·rintro k σ N hk ⟨d,o4,o5,o6,rfl,B,J,hP⟩;rw[cX9];dsimp only[yX];obtain⟨b,I,g1,g2,g3,g4⟩:=row B hk;have d4:=B _ _ hR.lst;refine⟨_,rfl,_,rfl,X,_,_,_,rfl,rfl,SqL.of d4,yR g1,b,I,1,_,rfl,rfl,SqL.of g2,yR (j:=1) g3,_,rfl,z2,λp1 a5=>⟨z1,λp2 b3=>?_⟩⟩;dsimp only[yX];have d1:=yE a5 (.tup [V.int (D k),V.int (k:Nat)]);have c9:=yE b3 (.tup [V.ref p1]);have a3:X3 (upd (upd N p1 (.tup [V.int (D k),V.int (k:Nat)])) p2 (.tup [V.ref p1])) p2 [(D k,(k:Int))]:=⟨[.ref p1],yB,.cons ⟨p1,rfl,c9 _ _ yB⟩ .nil⟩;have b9:xF N (upd (upd N p1 (.tup [V.int (D k),V.int (k:Nat)])) p2 (.tup [V.ref p1])):=d1.trans c9;generalize upd (upd N p1 (.tup [V.int (D k),V.int (k:Nat)])) p2 (.tup [V.ref p1])=H2 at a3 b9 ⊢;refine⟨_,rfl,?_⟩;dsimp only[yX];refine⟨λm σ M=>∃ (o:Nat)(S:qO)(kb:Nat),σ= [some (.ref X),some (.int (i:Nat)),some (.int (Fm.tp L g i:Nat)),some (.ref ka),some (.int (k:Nat)),some (.ref kb),some (.int (o:Nat))]/\xF N M/\o<n/\
     X3 M kb ((D o,(o:Int))::S)/\Fm.rd L D g k=Fm.rd L D g o++S/\Fm.tp L g o=Fm.tp L g k/\m=g o,⟨g k,k,[],p2,rfl,b9,hk,a3,by rw[cQP],rfl,rfl⟩,?_⟩
   rintro m σ M ⟨o,S,kb,rfl,G,a8,Z,b5,c8,rfl⟩;have C:=B.trans G;obtain⟨b,I,g1,g2,g3,g4⟩:=row C a8;refine⟨_,rfl,_,rfl,X,_,_,_,rfl,rfl,SqL.of (C _ _ hR.lst),yR g1,b,I,4,_,rfl,rfl,SqL.of g2,yR (j:=4) g4,rfl,_,rfl,?_⟩;cases O:L o with
   |some j=>
    obtain⟨hj,b7⟩:=ho.lt o j a8 O;refine onT rfl ⟨λσ M=>∃m',m'<g o/\∃ (o:Nat)(S:qO)(kb:Nat),σ= [some (.ref X),some (.int (i:Nat)),some (.int (Fm.tp L g i:Nat)),some (.ref ka),some (.int (k:Nat)),some (.ref kb),some (.int (o:Nat))]/\xF N M/\o<n/\
     X3 M kb ((D o,(o:Int))::S)/\Fm.rd L D g k=Fm.rd L D g o++S/\Fm.tp L g o=Fm.tp L g k/\m'=g o,λσ' H' z=>z,?_⟩
    refine⟨_,rfl,_,rfl,X,_,_,_,rfl,rfl,SqL.of (C _ _ hR.lst),yR g1,b,I,4,_,rfl,rfl,SqL.of g2,yR (j:=4) g4,?_⟩;rw[O];dsimp only[yX,zL];obtain⟨b',e0,d5,d7,e9,f3⟩:=row C hj;refine⟨_,rfl,_,rfl,X,_,_,_,rfl,rfl,SqL.of (C _ _ hR.lst),yR d5,b',e0,1,_,rfl,rfl,SqL.of d7,yR (j:=1) e9,_,rfl,z2,λU d3=>⟨z1,λq2 e7=>?_⟩⟩;have d8:=yE d3 (.tup [V.int (D j),V.int (j:Nat)]);have c5:=yE e7 (.tup [V.ref U]);have b6:xF M (upd (upd M U (.tup [V.int (D j),V.int (j:Nat)])) q2 (.tup [V.ref U])):=d8.trans c5;have e1:upd (upd M U (.tup [V.int (D j),V.int (j:Nat)])) q2 (.tup [V.ref U]) U=some (.tup [V.int (D j),V.int (j:Nat)]):=c5 _ _ yB;have W:upd (upd M U (.tup [V.int (D j),V.int (j:Nat)])) q2 (.tup [V.ref U]) q2=some (.tup [V.ref U]):=yB;generalize upd (upd M U (.tup [V.int (D j),V.int (j:Nat)])) q2 (.tup [V.ref U])=H4 at b6 e1 W ⊢;obtain⟨ys,y1,y2⟩:=X3.tk (xF.tk b6) Z;have b0:ys.length=S.length+1:=by have:=y2.length;simpa using this.symm
    have c2:(Fm.rd L D g k).length<=n:=Fm.bKc ho hk;rw[b5,cQa]at c2;have d2:ys≠ []:=λz=>by rw[z]at b0;simp at b0
    refine⟨_,rfl,q2,kb,_,ys,rfl,rfl,SqT.of W,SqT.of y1,by simp,by rw[cQe];show 1+ys.length<=_;omega,λz=>absurd z d2,λ_ q3 b8=>?_⟩;have u:=yE b8 (.tup ([V.ref U]++ys));refine⟨g j,b7,j,(D o,(o:Int))::S,q3,rfl,G.trans (b6.trans u),hj,⟨_,yB,.cons ⟨U,rfl,u _ _ e1⟩ (Paired.mapP y2 λ_ _ ⟨c,w1,w2⟩=>⟨c,w1,u _ _ w2⟩)⟩,?_,?_,rfl⟩
    ·rw[b5,Fm.uG ho a8 O,cQ8];rfl
    ·rw[<- c8,Fm.vO ho a8 O]
   |none=>
    have b4:o=Fm.tp L g k:=by rw[<- c8,Fm.zT O]
    have d0:Fm.rd L D g k=(D o,(o:Int))::S:=by rw[b5,Fm.Z6 O];rfl
    refine onF rfl ?_;refine⟨_,rfl,_,rfl,rfl,_,rfl,?_⟩;rw[cZd,cQZ];by_cases ec:Fm.tp L g k=Fm.tp L g i
    ·have hd:decide ((V.int (o:Nat))=V.int (Fm.tp L g i:Nat))=true:=by rw[b4,ec];simp
     refine onT (by rw[b4,ec];simp) ?_;have b2:=G _ _ J;refine⟨_,rfl,.inl ⟨rfl,_,SqL.of b2⟩,_,rfl,_,rfl,z2,λq3 b8=>?_⟩;have u:=yE b8 (.tup [V.ref kb,V.int (k:Nat)]);have b1:=u _ _ b2;have il:d.length<=k:=by have:=hP.length;rw[<- this];exact cQo (cQL _ _) (by simp)
     have t6:Tk (upd M q3 (.tup [V.ref kb,V.int (k:Nat)])) (upd (upd M q3 (.tup [V.ref kb,V.int (k:Nat)])) ka (.lst (d++ [V.ref q3]))):=λa I e=>wZ b1 a I e;refine⟨ka,d,.ref q3,rfl,rfl,b1,zlt (by omega),d++ [.ref q3],_,_,_,rfl,zO (B.trans (G.trans u)) c3,yB,?_⟩;have e3: [k].filter (λk=>decide (Fm.tp L g k=Fm.tp L g i))= [k]:=by simp[ec]
     rw[e3];refine aQJ ⟨q3,kb,rfl,t6 _ _ yB,?_⟩ (Paired.mapP hP λ_ _ z=>z.tk ((xF.tk (G.trans u)).trans t6));rw[d0];exact X3.tk ((xF.tk u).trans t6) Z
    ·refine onF ?_ ⟨d,_,_,_,rfl,B.trans G,G _ _ J,?_⟩
     ·rw[b4];simp;omega
     ·have e3: [k].filter (λk=>decide (Fm.tp L g k=Fm.tp L g i))= []:=by simp[ec]
      rw[e3,cQP];exact Paired.mapP hP λ_ _ z=>z.tk (xF.tk G)
  ·rintro σ N ⟨d,o4,o5,o6,rfl,B,J,hP⟩;generalize a4:(bYW n).filter (λk=>decide (Fm.tp L g k=Fm.tp L g i))=fam at hP;have f1:fam.length=d.length:=hP.length;have fn:fam.length<=n:=by rw[<- a4];exact cQo (cQL _ _) (by simp)
   have Y:∀k,k∈fam↔k<n/\Fm.tp L g k=Fm.tp L g i:=λk=>by rw[<- a4,cQE,cQi,decide_eq_true_eq]
   have d6:fam.Nodup:=by rw[<- a4];exact cZZ.sublist cXN
   have a7:∀m,m<d.length->fam.getD m 0∈fam:=λm hm=>by
    have f0:m<fam.length:=by omega
    simp[cQx,bYL f0]
   refine⟨_,rfl,ka,d,λm=>Fm.rd L D g (fam.getD m 0),λm=>((fam.getD m 0:Nat):Int),rfl,J,by omega,λa b ha hb e=>?_,λm x hx=>?_,λl y hl a5 b3=>?_⟩
   ·have W:=Fm.aY5 ho ((Y _).mp (a7 a ha)).1 ((Y _).mp (a7 b hb)).1 e;have c7:a<fam.length:=by omega
    have c1:b<fam.length:=by omega
    simp[cQx,bYL c7,bYL c1]at W;exact(cXE (h₀:=c7) (h₁:=c1) d6).mp W
   ·obtain⟨k,hk,p,b,e1,W,e3⟩:=Y1 hP hx;have:fam.getD m 0=k:=by simp[cQx,hk]
    show ∃a b,x=V.ref a/\N a=some (.tup [V.ref b,V.int ((fam.getD m 0:Nat):Int)])/\X3 N b (Fm.rd L D g (fam.getD m 0));rw[this];exact⟨p,b,e1,W,e3⟩
   ·have hm:∀m∈y,m<d.length:=λm hm=>cQi.mp (a5.mem_iff.mp hm);have k2:=yE hl (.lst (y.map λi=>d.getD i .non));refine⟨l,rfl,⟨_,SqL.of yB⟩,λr a9=>?_⟩;have f2:y.length=d.length:=by rw[a5.length_eq,cQG]
    refine aXB (λ_=>true) (bKp N) (SqL.of yB) a9 (zn (by rw[bYR];omega)) ?_ ?_ ?_
    ·intro v hv H' R hH a2;exact a2
    ·intro v hv _ H' R hH a2;obtain⟨m,a0,rfl⟩:=cQR.mp hv;have a1:=hm m a0;have hg:d[m]? =some (d.getD m .non):=by simp[cQx,bYL a1]
     obtain⟨k,hk,p,b,e1,W,e3⟩:=Y1 hP hg;rw[e1]at a2 ⊢;have e4:=k2 _ _ W;have e8:p≠r:=yI e4 a9;have e5:H' p=some (.tup [.ref b,.int (k:Nat)]):=by rw[hH p e8];exact e4
     refine⟨_,rfl,p,_,1,.int (k:Nat),rfl,rfl,SqT.of e5,rfl,?_⟩;have:bKp N (.ref p)= .int (k:Nat):=aWb W;rw[this]at a2;exact a2
    ·have ff:(y.map λi=>d.getD i .non).filter (λ_=>true)=y.map λi=>d.getD i .non:=cZA.mpr λ_ _=>rfl;rw[ff,cZO];have e6:(y.map (bKp N∘λi=>d.getD i .non))=(y.map λm=>fam.getD m 0).map λi=>V.int (i:Nat):=by
      rw[cZO];refine cJN λm a0=>?_;have a1:=hm m a0;have hg:d[m]? =some (d.getD m .non):=by simp[cQx,bYL a1]
      obtain⟨k,hk,p,b,e1,W,e3⟩:=Y1 hP hg;show bKp N (d.getD m .non)=V.int (fam.getD m 0:Nat);have:fam.getD m 0=k:=by simp[cQx,hk]
      rw[e1,this];exact aWb W
     rw[e6];refine q _ r (y.map λm=>fam.getD m 0) (B.trans (k2.trans (yE a9 _))) ((B.trans k2).fresh a9) yB ?_ λk=>?_
     ·rw[cJk];exact b3
     ·rw[<- Y k];constructor
      ·intro h;obtain⟨m,a0,rfl⟩:=cQR.mp h;exact a7 m (hm m a0)
      ·intro h;obtain⟨m,a1,e⟩:=cQD h;refine cQR.mpr ⟨m,a5.mem_iff.mpr (cQi.mpr (by omega)),?_⟩;simp[cQx,bYL a1,e]
end
theorem xC.rows{H:Hp}{d:Nat}{c:List Nat}{R:Rows}(h:xC H d c R):bJa H d c R.length (Bk.lk R) (Bk.dt R):=
 ⟨h.lst,h.len,λi b e=>by
  have f:i<R.length:=by rw[<- h.len];exact(bYY.mp e).1
  have a:=bYL f;obtain⟨j,g,k⟩:=h.row i b _ e a;exact⟨_,g,by rw[Bk.w9 a];rfl,by rw[Bk.wM a];rfl⟩⟩
end Law
namespace Law
open PySem L2 PyProof.Rows
open Bk (Row Rows)
def uQ(r:Row)(a:Nat):List V:= [.str r.way,.int r.date,.str r.partner,.int r.term,zL r.link,.str r.place,.bl r.void,.ref a]
theorem qJ{r:Row}{a:Nat}{l:List Str}:HO.lst (uQ r a)≠HO.lst (l.map V.str):=λz=>by
 injection z with z
 match l,z with
 |[],z=>cases z
 |[_],z=>injection z with _ z;cases z
 |_::_::_,z=>injection z with _ z;injection z with z _;cases z
theorem aQP{r:Row}{a:Nat}{l:List Nat}:HO.lst (uQ r a)≠HO.lst (l.map V.ref):=λz=>by
 injection z with z
 match l,z with
 |[],z=>cases z
 |_::_,z=>injection z with z _;cases z
theorem xC.upd{H:Hp}{s:Nat}{j:List Nat}{R:Rows}{k:Nat}{b:Nat}{r:Row}(h:xC H s j R)(n:j[k]? =some b)(v:R[k]? =some r)(f:Row->Row){o:Nat}(d:H o=some (.lst ((f r).copies.map V.str))):xC (upd H b (.lst (uQ (f r) o))) s j (Bk.xG R k f):=by
 obtain⟨A,m,_⟩:=h.row k b r n v;have l:s≠b:=aXl h.lst m (cQu aQP);refine⟨by rw[yJ l];exact h.lst,by rw[Bk.xX];exact h.len,h.nd,λi c q g a=>?_⟩;rw[Bk.xJ]at a;by_cases e:i=k
 ·subst e;rw[n]at g;cases g;rw[if_pos rfl,v]at a;cases a;exact⟨o,yB,by rw[yJ (aXl d m (cQu qJ))];exact d⟩
 ·rw[if_neg e]at a;obtain⟨x,y,u⟩:=h.row i c q g a;have p:c≠b:=λz=>by
   have w:=bYY.mp g;have t:=bYY.mp n;exact e ((cXE (h₀:=w.1) (h₁:=t.1) h.nd).mp (by rw[w.2,t.2];exact z))
  exact⟨x,by rw[yJ p];exact y,by rw[yJ (aXl u m (cQu qJ))];exact u⟩
def NoC(a:List Nat)(H:Hp)(s:Nat):Prop:=∀b∈a,∀l,H b=some (.lst l)->l[7]? ≠some (.ref s)
def But(a:List Nat)(H c:Hp):Prop:=(∀b o,b∉a->H b=some o->c b=some o)/\(∀b∈a,∃o,c b=some o)/\∀s u,H s=some u->NoC a H s->NoC a c s
theorem xC.dom{H:Hp}{f:Nat}{a:List Nat}{R:Rows}(h:xC H f a R):∀b∈a,∃o,H b=some o:=λb j=>by
 obtain⟨i,c,e⟩:=cQD j;have d:=bYL (show i<R.length by rw[<- h.len];exact c);obtain⟨k,g,_⟩:=h.row i b _ (by rw[bYL c,e]) d;exact⟨_,g⟩
theorem But.of{d:List Nat}{H c:Hp}(g:∀b∈d,∃o,H b=some o)(k:xF H c):But d H c:=⟨λb o _ e=>k b o e,λb a=>let ⟨o,e⟩:=g b a;⟨o,k _ _ e⟩,λs u e n b a l h=>by
 obtain⟨o,f⟩:=g b a;have:=k _ _ f;rw[h]at this;cases this;exact n b a l f⟩
theorem But.trans{d:List Nat}{H g f:Hp}(a:But d H g)(b:But d g f):But d H f:=⟨λc o n e=>b.1 c o n (a.1 c o n e),b.2.1,λs u e n=>by
 by_cases h:s∈d
 ·obtain⟨o,i⟩:=a.2.1 s h;exact b.2.2 s o i (a.2.2 s u e n)
 ·exact b.2.2 s u (a.1 s u h e) (a.2.2 s u e n)⟩
theorem But.upd{d:List Nat}{H:Hp}{k:Nat}{b:Nat}{l l':List V}(g:∀b∈d,∃o,H b=some o)(f:d[k]? =some b)(hl:H b=some (.lst l))(h:l'[7]? =l[7]?):But d H (upd H b (.lst l')):=
 ⟨λc u n e=>by rw[yJ (λz=>n (by rw[z];exact bY5 f))];exact e,λc a=>by
  by_cases z:c=b
  ·rw[z];exact⟨_,yB⟩
  ·rw[yJ z];exact g c a,λs u e n c a x ex=>by
  by_cases z:c=b
  ·subst z;rw[yB]at ex;cases ex;rw[h];exact n c a l hl
  ·rw[yJ z]at ex;exact n c a x ex⟩
abbrev bVN:Stmt:=xI "_law_lost"
def bJy:Sp:=λf H Q _=>∃ (e:Nat)(c:List Nat)(R:Rows)(k:Nat)(r:Row),f= [.ref e,.int (k:Nat)]/\xC H e c R/\R.length<=100/\R[k]? =some r/\
 ∀ (b:Hp)(a:Str)(d:Rows),But c H b->xC b e c d->((Bk.zV R k≠ []/\a="answered"/\d=R)\/(Bk.zV R k= []/\a="void"/\d=Bk.xG R k λr=>{r with link:=none,void:=true}))->Q (.str a) b
section
variable {K:bYO}
theorem bV1:yN ["_law_rows","_law_number","_law_one"] ["_law_rows","_law_number"] (yH bVN):=scM
theorem bVq(a:FnG P w K mg base 1 "_law_kids_of" ["_law_rows","_law_number"] aWj)(F:Fun K "_law_lost" "_law_lost" bVN f fd):xH P w K mg base CX0 2 f fd ["_law_rows","_law_number"] bJy:=by
 have C:=bV1;refine F.ok (k:=1) C (λD A outer s H L Q E p h=>?_);obtain⟨x,y,R,k,r,rfl,d,hR,t,q⟩:=h;refine⟨_,(yC (yU (i:=2) (yL yK (pv 0) (pv 1))) (yC (y6 (yM (wR p.units0) (xO a p rfl (yA (pv 0) (yA (pv 1) yD))) (yZ yD)) (yG (yQ yP)) yT) (yC (vJ x3 (qB (pv 2) yF zY)) (yC (vJ vI (qB (pv 2) yF zY)) (yG (yQ yP)))))),?_⟩;obtain⟨b,z,o,J,B,I⟩:=d.get t;refine⟨_,rfl,_,rfl,x,_,_,_,rfl,rfl,SqL.of d.lst,yR z,?_⟩;dsimp only[yX];refine⟨_,rfl,_,rfl,x,y,R,k,rfl,d,hR,λu m=>⟨z0,λpn n=>?_⟩⟩;have G:=yE m (.lst ((Bk.zV R k).map λi=>V.int (i:Nat)));have v:=yE n (.lst []);refine⟨u,pn,_,rfl,rfl,SqL.of (v _ _ yB),SqL.of yB,_,rfl,?_⟩;have kA:=G.trans v;generalize upd (upd H u (.lst ((Bk.zV R k).map λi=>V.int (i:Nat)))) pn (.lst [])=H2 at kA ⊢;have c:=d.same kA;cases g:Bk.zV R k with
 |cons j l=>exact onT rfl (q H2 _ R (But.of d.dom kA) c (.inl ⟨by rw[g];simp,rfl,rfl⟩))
 |nil=>refine onF rfl ?_;have e:=kA _ _ B;refine⟨_,rfl,b,_,4,4,rfl,rfl,e,rfl,?_⟩;refine⟨_,rfl,b,_,6,6,rfl,rfl,yB,rfl,?_⟩;rw[jE];exact q _ _ _ ((But.of d.dom kA).trans (But.upd c.dom o e rfl)) (c.upd o t (λr=>{r with link:=none,void:=true}) (kA _ _ I)) (.inr ⟨g,rfl,rfl⟩)
end
end Law
namespace Law
open PySem L2 PyProof.Rows
open Bk (Row Rows)
abbrev bQc:Stmt:=xI "_law_dated"
def aKM(R:Rows)(k:Nat)(r:Row)(d:Int):Prop:=(∃j,r.link=some j/\d<Bk.dt R j)\/∃c∈Bk.zV R k,Bk.dt R c<d
def bQO:Sp:=λg H Q _=>∃ (f:Nat)(c:List Nat)(R:Rows)(k:Nat)(r:Row)(d:Int),g= [.ref f,.int (k:Nat),.int d]/\xC H f c R/\R.length<=100/\R[k]? =some r/\(∀j,r.link=some j->j<R.length)/\
 ∀ (b:Hp)(a:Str)(e:Rows),But c H b->xC b f c e->((aKM R k r d/\a="too early"/\e=R)\/(¬aKM R k r d/\a="dated"/\e=Bk.xG R k λr=>{r with date:=d}))->Q (.str a) b
section
variable {K:bYO}
theorem bZx:yN ["_law_rows","_law_number","_law_date","_law_one","_law_k"] ["_law_rows","_law_number","_law_date"] (yH bQc):=scM
theorem bXV(a:FnG P w K mg base 1 "_law_kids_of" ["_law_rows","_law_number"] aWj)(F:Fun K "_law_dated" "_law_dated" bQc f fd):xH P w K mg base CX0 2 f fd ["_law_rows","_law_number","_law_date"] bQO:=by
 have sc:=bZx;refine F.ok (k:=1) sc (λa0 A outer s H vs Q E hr h=>?_);obtain⟨z,rs,R,k,r,d,rfl,n,hR,hk,U,q⟩:=h;refine⟨_,(yC (yU (i:=3) (yL yK (pv 0) (pv 1))) (yC (y6 (PW.pt (v8 (yM z6 (yL yK (pv 3) yF) x3) (vL (yM vQ (pv 2) (yL yK (yL yK (pv 0) (yL yK (pv 3) yF)) yF))))) (yG (yQ yP)) yT) (yC (wL cQF rfl (xR (xO a hr rfl (yA (pv 0) (yA (pv 1) yD)))) (xE (i:=4)) (yG (y6 (yM vQ (yL yK (yL yK (pv 0) (pv 4)) yF) (pv 2)) (yG (yQ yP)) yT))) (yC (vJ (pv 2) (qB (pv 3) yF zY)) (yG (yQ yP)))))),?_⟩;obtain⟨b,g1,g2,cp,W,g4⟩:=n.get hk;refine⟨_,rfl,_,rfl,z,_,_,_,rfl,rfl,SqL.of n.lst,yR g1,?_⟩;dsimp only[yX];refine x6 (λJ L=>J= [some (.ref z),some (.int (k:Nat)),some (.int d),some (.ref b),none]/\L=H/\∀j,r.link=some j->Bk.dt R j<=d) ?jV (λo=>?_);case jV=>
  rintro J L ⟨rfl,rfl,h1⟩;refine⟨_,rfl,_,rfl,z,rs,R,k,rfl,n,hR,λS Z=>⟨S,rfl,⟨_,SqL.of yB⟩,?_⟩⟩;have kA:=yE Z (.lst ((Bk.zV R k).map λi=>V.int (i:Nat)));have p:upd L S (.lst ((Bk.zV R k).map λi=>V.int (i:Nat))) S=some (.lst ((Bk.zV R k).map λi=>V.int (i:Nat))):=yB;generalize upd L S (.lst ((Bk.zV R k).map λi=>V.int (i:Nat)))=H2 at kA p ⊢;have m:=n.same kA;refine zX (xs:=(Bk.zV R k).map λi=>V.int (i:Nat)) (λt σ N=>∃M,σ= [some (.ref z),some (.int (k:Nat)),some (.int d),some (.ref b),M]/\N=H2/\∀u j,u<t->(Bk.zV R k)[u]? =some j->d<=Bk.dt R j) ?_ ?_ ?_ ?_
  ·exact⟨_,rfl,rfl,λu j C=>absurd C (cXr _)⟩
  ·rintro t σ N _ ⟨M,rfl,rfl,_⟩;exact SqL.of p
  ·rintro t x σ N G ⟨M,rfl,rfl,l⟩;rw[bY7]at G;cases O:(Bk.zV R k)[t]? with
   |none=>rw[O]at G;cases G
   |some j=>
    rw[O]at G;cases G;have D:=bY5 O;have v:j<R.length:=cQi.mp (cQE.mp D).1;have g:=bYL v;obtain⟨Y,T,j2,cj,X,j4⟩:=m.get g;dsimp only[yX];refine⟨_,rfl,_,rfl,z,_,_,_,rfl,rfl,SqL.of m.lst,yR T,Y,_,1,_,rfl,rfl,SqL.of X,rfl,_,rfl,_,_,rfl,rfl,_,rfl,?_⟩;cases I:decide (R[j].date<d)with
    |true=>exact onT rfl (q _ _ R (But.of n.dom kA) m (.inl ⟨.inr ⟨j,D,by rw[Bk.w9 g];exact of_decide_eq_true I⟩,rfl,rfl⟩))
    |false=>
     refine onF rfl ⟨_,rfl,rfl,λu i C y=>?_⟩;by_cases e:u=t
     ·subst e;rw[O]at y;cases y;rw[Bk.w9 g];have:=of_decide_eq_false I;omega
     ·exact l u i (by omega) y
  ·rintro σ N ⟨M,rfl,rfl,l⟩;rw[bYR]at l;have B:=kA _ _ W;refine⟨_,rfl,_,rfl,b,_,1,1,rfl,rfl,B,rfl,?_⟩;refine q _ _ _ ((But.of n.dom kA).trans (But.upd m.dom g2 B rfl)) (m.upd g2 hk (λr=>{r with date:=d}) (kA _ _ g4)) (.inr ⟨?_,rfl,rfl⟩);rintro(⟨j,e1,e2⟩|⟨c,hc,e2⟩)
   ·have:=h1 j e1;omega
   ·obtain⟨u,C,e⟩:=cQD hc;have:=l u c C (by rw[bYL C,e]);omega
 refine⟨_,rfl,b,_,4,_,rfl,rfl,SqL.of W,rfl,rfl,_,rfl,?_⟩;cases hl:r.link with
 |none=>exact onF rfl (onF rfl (o _ _ ⟨rfl,rfl,λj hj=>by rw[hl]at hj;cases hj⟩))
 |some j=>
  have v:=U j hl;have g:=bYL v;obtain⟨Y,T,j2,cj,X,j4⟩:=n.get g;refine onT rfl ⟨_,rfl,_,rfl,_,rfl,b,_,4,_,rfl,rfl,SqL.of W,rfl,?_⟩;rw[hl];refine⟨z,_,_,_,rfl,rfl,SqL.of n.lst,yR T,Y,_,1,_,rfl,rfl,SqL.of X,rfl,_,_,rfl,rfl,_,rfl,?_⟩;cases I:decide (d<R[j].date)with
  |true=>exact onT rfl (q _ _ R (But.of n.dom (xF.refl _)) n (.inl ⟨.inl ⟨j,hl,by rw[Bk.w9 g];exact of_decide_eq_true I⟩,rfl,rfl⟩))
  |false=>exact onF rfl (o _ _ ⟨rfl,rfl,λi y=>by rw[hl]at y;cases y;rw[Bk.w9 g];have:=of_decide_eq_false I;omega⟩)
end
end Law
namespace Law
open PySem L2 PyProof.Rows
open Bk (Row Rows xS xN Ans)
abbrev bVM:Stmt:=xI "_law_hung"
def bJx:Sp:=λf H Q _=>∃ (d:Nat)(c:List Nat)(R:Rows)(m o:Int),f= [.ref d,.int m,.int o]/\xC H d c R/\R.length<=60/\Bk.uU R/\
 ∀ (b:Hp)(a:Str)(e:Rows),But c H b->xC b d c e->(∀S,xS R S (.hang m o) (.txt a) e S)->Q (.str a) b
theorem aQO{r:Row}{b:Nat}{l:List Nat}:HO.lst (uQ r b)≠HO.lst (l.map λi=>V.int (i:Nat)):=λz=>by
 injection z with z
 cases l with
 |nil=>cases z
 |cons a l=>cases z
theorem aQB(R:Rows)(l:List Nat)(k:Nat)(name:Str):Bk.laid R (l++ [k]) name=Bk.xG (Bk.laid R l name) k λr=>{r with place:=name}:=by
 unfold Bk.laid;rw[cJ7];rfl
theorem vC{a b:Str}:decide (V.str a=V.str b)=decide (a=b):=by rw[Bool.eq_iff_iff];simp
theorem aWF{a b:Nat}:decide (V.int (a:Nat)=V.int (b:Nat))=decide (a=b):=by rw[Bool.eq_iff_iff];simp;omega
section
variable {K:bYO}
theorem aVQ{K:bYO}{H:Hp}{n l:Nat}{d:List Nat}{R:Rows}{a:List Nat}{name:Str}{t:Nat}{k:Nat}(j:xC H n d (Bk.laid R (a.take t) name))(p:a[t]? =some k)(e:k<R.length)(hl:H l=some (.lst (a.map λi=>V.int (i:Nat)))): ∃ (b c:Nat)(r:Row),(d.map V.ref)[k]? =some (.ref b)/\H b=some (.lst (uQ r c))/\xC (upd H b (.lst (uQ {r with place:=name} c))) n d (Bk.laid R (a.take (t+1)) name)/\But d H (upd H b (.lst (uQ {r with place:=name} c)))/\upd H b (.lst (uQ {r with place:=name} c)) l=some (.lst (a.map λi=>V.int (i:Nat)))/\b∈d:=by
 have h:k<(Bk.laid R (a.take t) name).length:=by rw[Bk.wQ];exact e
 have m:=bYL h;obtain⟨b,o,f,c,g,q⟩:=j.get m;refine⟨b,c,_,o,g,?_,But.upd j.dom f g rfl,?_,bY5 f⟩
 ·rw[show a.take (t+1)=a.take t++ [k]from by rw[cQX,p];rfl,aQB];exact j.upd f m (λr=>{r with place:=name}) q
 ·rw[yJ (aXl hl g (cQu aQO))];exact hl
theorem bVZ:yN ["_law_rows","_law_number","_law_goal","_law_one","_law_other","_law_k","_law_row"] ["_law_rows","_law_number","_law_goal"] (yH bVM):=scM
theorem bVo(y:FnG P w K mg base 2 "_law_good" ["_law_rows","_law_number"] Q6)(a:FnG P w K mg base 2 "_law_family" ["_law_rows","_law_number"] aQh)(F:Fun K "_law_hung" "_law_hung" bVM f fd):xH P w K mg base CX0 3 f fd ["_law_rows","_law_number","_law_goal"] bJx:=by
 have sc:=bVZ;refine F.ok (k:=2) sc (λb9 A outer s H vs Q E hr h=>?_);obtain⟨I,M,R,m,o,rfl,C,hR,hT,q⟩:=h;refine⟨_,(yC (y6 (PW.pt (jU (vK (x5 (xO y hr rfl (yA (pv 0) (yA (pv 1) yD))))) (vW (vK (x5 (xO y hr rfl (yA (pv 0) (yA (pv 2) yD)))))))) (yG (yQ yP)) yT) (yC (yU (i:=3) (yL yK (pv 0) (pv 1))) (yC (yU (i:=4) (yL yK (pv 0) (pv 2))) (yC (y6 (yM z6 (yL yK (pv 3) yF) x3) (yG (yQ yP)) yT) (yC (y6 (yM zH (yL yK (xO a hr rfl (yA (pv 0) (yA (pv 2) yD))) yF) (pv 1)) (yG (yQ yP)) yT) (yC (y6 (yM zH (yL yK (pv 3) yF) (yL yK (pv 4) yF)) (yG (yQ yP)) yT) (yC (y6 (yM Y0 (yL yK (pv 3) yF) (yL yK (pv 4) yF)) (yG (yQ yP)) yT) (yC (y6 (yM vQ (yL yK (pv 3) yF) (yL yK (pv 4) yF)) (yG (yQ yP)) yT) (yC (wL cQF rfl (xR (xO a hr rfl (yA (pv 0) (yA (pv 1) yD)))) (xE (i:=5)) (yC (yU (i:=6) (yL yK (pv 0) (pv 5))) (yG (vJ (yL yK (pv 4) yF) (qB (pv 6) yF zY))))) (yC (vJ (pv 2) (qB (pv 3) yF zY)) (yG (yQ yP)))))))))))),?_⟩;have v:But M H H:=But.of C.dom (xF.refl _);refine⟨_,rfl,_,rfl,I,M,R,m,rfl,C,_,rfl,?_⟩;cases h1:Bk.wO R m with
 |false=>exact onT rfl (onT rfl (q H _ R v C λS=> .hangN (.inl h1)))
 |true=>
 refine onF rfl ⟨_,rfl,_,rfl,I,M,R,o,rfl,C,_,rfl,?_⟩;cases h2:Bk.wO R o with
 |false=>exact onT rfl (q H _ R v C λS=> .hangN (.inr h2))
 |true=>
 obtain⟨i,r,rfl,L,G,hv⟩:=Bk.wP h1;obtain⟨j,p,rfl,D,N,hw⟩:=Bk.wP h2;obtain⟨b,g1,g2,cp,g3,g4⟩:=C.get G;obtain⟨Z,f1,f2,b8,f3,f4⟩:=C.get N;refine onF rfl ⟨_,rfl,_,rfl,I,_,_,_,rfl,rfl,SqL.of C.lst,yR g1,?_⟩;dsimp only[yX];refine⟨_,rfl,_,rfl,I,_,_,_,rfl,rfl,SqL.of C.lst,yR f1,?_⟩;dsimp only[yX];refine⟨_,rfl,b,_,4,_,rfl,rfl,SqL.of g3,rfl,rfl,_,rfl,?_⟩;cases u:r.link with
 |some x=>exact onT rfl (q H _ R v C λS=> .hangH G hv N hw (by rw[u];simp))
 |none=>
 obtain⟨rk,ok⟩:=hT;have hT:Bk.uU R:=⟨rk,ok⟩;refine onF rfl ⟨_,rfl,_,rfl,I,M,R.length,Bk.lk R,rk,Bk.dt R,j,rfl,C.rows,ok,hR,D,λH1 l b7 k1 nl hl hp hm=>?_⟩;have et:=Bk.aXN D ⟨rk,ok,hp,hm⟩;subst et;obtain⟨_,_,a8⟩:=Bk.uM hT D;obtain⟨hd,U⟩:∃hd,(Bk.thr R j).head? =some hd:=⟨_,a8⟩;have e0:(((Bk.thr R j).map λi=>V.int (i:Nat)))[0]? =some (.int (hd:Nat)):=by rw[bY7,<- List.head?_eq_getElem?,U];rfl
 have g:=C.same k1;have W:=k1 _ _ g3;have O:=k1 _ _ f3;have n:But M H H1:=But.of C.dom k1;refine⟨l,_,0,_,rfl,rfl,SqL.of hl,yR e0,_,rfl,rfl,_,rfl,?_⟩;rw[aWF];refine qE (λc=>?_) (λc=>?_)
 ·have e:hd=i:=of_decide_eq_true c;exact q H1 _ R n g λS=> .hangO G hv N hw u (by rw[U,e])
 have B:(Bk.thr R j).head? ≠some i:=λz=>c (decide_eq_true (by rw[U]at z;exact bY6 z));refine⟨_,rfl,b,_,0,_,rfl,rfl,SqL.of W,rfl,_,rfl,Z,_,0,_,rfl,rfl,SqL.of O,rfl,rfl,_,rfl,?_⟩;rw[vC];refine qE (λc1=>?_) (λc1=>?_)
 ·exact q H1 _ R n g λS=> .hangW G hv N hw u B (of_decide_eq_true c1)
 have h3:=of_decide_eq_false (Bool.eq_false_iff.mpr c1);refine⟨_,rfl,b,_,2,_,rfl,rfl,SqL.of W,rfl,_,rfl,Z,_,2,_,rfl,rfl,SqL.of O,rfl,rfl,_,rfl,?_⟩;rw[vC];cases a0:decide (r.partner=p.partner)with
 |false=>exact onT rfl (q H1 _ R n g λS=> .hangP G hv N hw u B h3 (of_decide_eq_false a0))
 |true=>
 have h4:=of_decide_eq_true a0;refine onF rfl ⟨_,rfl,b,_,1,_,rfl,rfl,SqL.of W,rfl,_,rfl,Z,_,1,_,rfl,rfl,SqL.of O,rfl,_,_,rfl,rfl,_,rfl,?_⟩;refine qE (λc2=>?_) (λc2=>?_)
 ·exact q H1 _ R n g λS=> .hangE G hv N hw u B h3 h4 (of_decide_eq_true c2)
 have h5:p.date<=r.date:=by have:=of_decide_eq_false (Bool.eq_false_iff.mpr c2);omega
 refine⟨_,rfl,_,rfl,I,M,R.length,Bk.lk R,rk,Bk.dt R,i,rfl,g.rows,ok,hR,L,λH2 l2 b4 k2 c0 a2 a7 X=>⟨l2,rfl,⟨_,SqL.of a2⟩,?_⟩⟩;have a6:=Bk.aXN L ⟨rk,ok,a7,X⟩;subst a6;have b6:i≠j:=λz=>by subst z;have e1:=Bk.uM hT L;obtain⟨b1,o2,T⟩:=e1;rw[Fm.zT (by rw[Bk.wM G];exact u)]at T;exact B T
 have b0:j∉Bk.thr R i:=λz=>by have e1:=(X j).mp z;rw[Fm.zT (i:=i) (by rw[Bk.wM G];exact u)]at e1;obtain⟨b1,o2,T⟩:=Bk.uM hT D;rw[Fm.jC o2 ok D,e1.2]at T;exact B T
 refine zX (xs:=(Bk.thr R i).map λi=>V.int (i:Nat)) (λt σ Y=>∃o5 o6:Option V,σ= [some (.ref I),some (.int (i:Nat)),some (.int (j:Nat)),some (.ref b),some (.ref Z),o5,o6]/\xC Y I M (Bk.laid R ((Bk.thr R i).take t) p.place)/\But M H2 Y/\Y l2=some (.lst ((Bk.thr R i).map λi=>V.int (i:Nat)))) ?_ ?_ ?_ ?_
 ·exact⟨none,none,rfl,g.same k2,But.of (g.same k2).dom (xF.refl _),a2⟩
 ·rintro t σ Y ht ⟨o5,o6,rfl,d,k3,J⟩;exact SqL.of J
 ·rintro t x σ Y hx ⟨o5,o6,rfl,d,k3,J⟩;rw[bY7]at hx;cases hc:(Bk.thr R i)[t]? with
  |none=>rw[hc]at hx;cases hx
  |some k=>
   rw[hc]at hx;cases hx;have a3:k<R.length:=((X k).mp (bY5 hc)).1;obtain⟨bk,ck,b5,e1,T,e3,e4,e5,e6⟩:=aVQ (K:=K) d hc a3 J;have a4:(Bk.laid R ((Bk.thr R i).take t) p.place)[j]? =some p:=by rw[Bk.wE,if_neg (λz=>b0 (List.mem_of_mem_take z))];exact N
   obtain⟨a9,d1,d2,a5,d3,d4⟩:=d.get a4;obtain rfl:Z=a9:=bY6 (f2.symm.trans d2);dsimp only[yX];refine⟨_,rfl,_,rfl,I,_,_,_,rfl,rfl,SqL.of d.lst,yR e1,?_⟩;dsimp only[yX];exact⟨_,rfl,Z,_,5,_,rfl,rfl,SqL.of d3,rfl,_,rfl,bk,_,5,5,rfl,rfl,T,rfl,_,_,rfl,e3,k3.trans e4,e5⟩
 ·rintro σ Y ⟨o5,o6,rfl,d,k3,J⟩;rw[bYR,cQT]at d;have b3:i<(Bk.laid R (Bk.thr R i) p.place).length:=by rw[Bk.wQ];exact L
  have a1:=bYL b3;obtain⟨b',d1,d2,a5,d3,d4⟩:=d.get a1;obtain rfl:b=b':=bY6 (g2.symm.trans d2);refine⟨_,rfl,_,rfl,b,_,4,4,rfl,rfl,d3,rfl,?_⟩;refine q _ _ _ ((n.trans ((But.of g.dom k2).trans k3)).trans (But.upd d.dom d2 d3 rfl)) (d.upd d2 a1 (λr=>{r with link:=some j}) d4) λS=> .hang G hv N hw u B h3 h4 h5
end
end Law
namespace L2
open PySem
def tbV:Option Nat->bYM
 |none=> .none
 |some T=> .ref T
structure X1(h:Heap)(e:Nat)(cls:bYM)(dx:Option Nat)(tb:Option Nat):Prop where
 obj:∃oe vs,h.get? e=some oe/\oe.cls=cls/\oe.dict=dx/\oe.data= .fields vs/\vs[1]? =some (tbV tb)
 ent:∀T,tb=some T->T≠e/\∃oT ts,h.get? T=some oT/\oT.data= .fields ts/\ts[3]? =some .none
theorem X1.keeps{h h':Heap}{e:Nat}{cls:bYM}{dx tb:Option Nat}(x:X1 h e cls dx tb)(k:∀b o,(b=e\/tb=some b)->h.get? b=some o->h'.get? b=some o):X1 h' e cls dx tb:=by
 obtain⟨c,p,r,j,f,i,l⟩:=x.obj;refine⟨⟨c,p,k e c (.inl rfl) r,j,f,i,l⟩,λT d=>?_⟩;obtain⟨ne,a,q,g,m,n⟩:=x.ent T d;exact⟨ne,a,q,k T a (.inr d) g,m,n⟩
structure bKQ(fs:List Nat)(e:Nat)(tb:Option Nat)(h h':Heap):Prop where
 keep:∀b o,b≠e->tb≠some b->b∉fs->h.get? b=some o->h'.get? b=some o
 slot:∀b o,b≠e->tb≠some b->h.get? b=some o->∃sl,h'.get? b=some {o with slots:=sl}
 there:∀b o,h.get? b=some o->∃o',h'.get? b=some o'
theorem aXk(f:Array bYM->Array bYM)(o:Obj):(o.mapFields f).dict=o.dict:=by
 obtain⟨c,d,dt,a⟩:=o;cases dt<;> rfl
section
variable {M:Model}{A:cQv}{E:bYM->bYP->Prop}{s:bYP}{base:Heap}{env:Env}{outer:List Env}{L e:Nat}{cls:bYM}{dx tb:Option Nat}
theorem aYB{a:Obj}{vs:Array bYM}(hl:s.heap.FunFrames base (env::outer))(d:s.heap.get? e=some a)(g:a.data= .fields vs):e∉(env::outer).filterMap (·.frame):=λc=>by
 obtain⟨_,o,b,f⟩:=hl.mem c;rw[d]at b;cases b;exact f vs g
theorem aZK{head:bYM}{n:Bool}{Q:Unit->bYP->Prop}{i:Obj}{vs:Array bYM}(p:A.frames=some (env::outer))(hl:s.heap.FunFrames base (env::outer))(K:env.frame=some L)
  (C:s.heap.get? e=some i) (y:i.data= .fields vs) (hz:1<vs.size)
  (h:∀r T,X1 r e i.cls i.dict (some T)->s.heap.objs.size<=T->bKQ ((env::outer).filterMap (·.frame)) e none s.heap r->Q () {s with heap:=r}):
  bYU M A (do let fr <- frameOf env;let place <- entryPlaceOf L n;let en <- EntryCells.newEntry head fr .none (cQ5 L) .none place;setField (.ref e) 1 en) (λ_ H=>bYU M A (cZW (.ref e) none) Q E H) E s:=by
 have t:=aYB hl C y
 refine bYN (wpAny_frameOf_fun p hl K λa d=>?_)
 refine bYN (wpAny_entryPlaceOf λplace I=>?_)
 unfold EntryCells.newEntry newFields
 refine bYN (cQ3 ?_ (I.sizeOk5 _ _ _ _ _))
 have F:a.get? e=some i:=(d.2.1 e t).trans C
 generalize m:({cls:= .type "traceback",dict:=none,data:= .fields ([head,.ref L,.none,cQ5 L,.none]++(if place.isEmpty then cQC 6 Value.none else place)).toArray}:Obj)=ob
 have c:ob.data= .fields ([head,.ref L,.none,cQ5 L,.none]++(if place.isEmpty then cQC 6 Value.none else place)).toArray:=by rw[<- m]
 have k:ob.isFreed=false:=cXc c
 have D:(a.push ob).get? e=some i:=bYS ob F
 have l:a.objs.size≠e:=cZv (bY0 F)
 refine cXS D y hz ?_
 have d3:=cXf y (·.setIfInBounds 1 (Value.ref a.objs.size))
 have v:=cQS (cQ2 (·.setIfInBounds 1 (Value.ref a.objs.size))) D (cXc d3)
 have z:=(cQq (a.push ob) (cQ2 (·.setIfInBounds 1 (Value.ref a.objs.size))) (cQu l)).trans (cQh a k)
 have j:3<([head,.ref L,.none,cQ5 L,.none]++(if place.isEmpty then cQC 6 Value.none else place)).toArray.size:=by simp
 unfold cZW
 refine bYN (cJr v d3 (x:= .ref a.objs.size) (by simp[hz]) ?_)
 rw[if_pos (show(Value.ref a.objs.size !=Value.none)=true from by simp)]
 refine cXS z c j (h _ a.objs.size ?_ ?_ ?_)
 ·refine⟨⟨_,_,(cQq _ _ l).trans v,Obj.cls_mapFields _ _,aXk _ _,d3,by simp[tbV,hz]⟩,λT J=>?_⟩;cases J;refine⟨l,_,_,cQS _ z (cXc (cXf c _)),cXf c _,?_⟩;rw[Array.getElem?_setIfInBounds_self_of_lt j];rfl
 ·exact cZt d.1.symm
 ·have u:∀b o,b≠e->a.get? b=some o->(((a.push ob).update e (cQ2 (·.setIfInBounds 1 (Value.ref a.objs.size)))).update a.objs.size (cQ2 (·.setIfInBounds 3 ((none:Option Nat).elim Value.none λf=>cQ5 f)))).get? b=some o:=λb o g q=>by
   rw[cQq _ _ (cZv (bY0 q)),cQq _ _ (cQu g)];exact bYS _ q
  refine⟨λb o g _ G q=>u b o g ((d.2.1 b G).trans q),λb o g _ q=>?_,λb o q=>?_⟩
  ·obtain⟨B,w⟩:=d.2.2 b o q;exact⟨B,u b _ g w⟩
  ·by_cases g:b=e
   ·subst g;exact⟨_,(cQq _ _ l).trans v⟩
   ·obtain⟨B,w⟩:=d.2.2 b o q;exact⟨_,u b _ g w⟩
theorem aVV{Q:Unit->bYP->Prop}(g:A.frames=some (env::outer))(hl:s.heap.FunFrames base (env::outer))(t:env.frame=some L)(x:X1 s.heap e cls dx tb) (h:∀i T,X1 i e cls dx (some T)->s.heap.objs.size<=T->bKQ ((env::outer).filterMap (·.frame)) e tb s.heap i->Q () {s with heap:=i}): bYU M A (cJh (.ref e) env) (λ_ G=>bYU M A (cZW (.ref e) none) Q E G) E s:=by
 obtain⟨N,B,n,F,D,m,v⟩:=x.obj;subst F D;have C:=(cZf.mp v).1;unfold cJh;simp only[t];refine bYN (cJr n m v ?_);cases tb with
 |none=>rw[if_neg (by decide)];exact aZK g hl t n m C h
 |some T=>
  obtain⟨ne,K,H,j,k,w⟩:=x.ent T rfl;rw[if_pos (show(tbV (some T) !=Value.none)=true from by simp[tbV])];refine bYN (cJr j k w ?_);rw[if_neg (show ¬ ((Value.none==cQ5 L)=true)from by simp[cQ5])];refine bYN (cXS j k (cZf.mp w).1 ?_);have f:∀b,b≠T->(s.heap.update T (cQ2 (·.setIfInBounds 3 Value.none))).get? b=s.heap.get? b:=λb l=>cQq _ _ (cQu l);have r:∀b o,s.heap.get? b=some o->(∀B,o.data≠ .fields B)->b≠T:=λb o q u z=>by rw[z,j]at q;cases q;exact u H k
  refine aZK (s:={s with heap:=s.heap.update T (cQ2 (·.setIfInBounds 3 Value.none)) }) g (hl.of_keeps λb o q u=>⟨o,(f b (r b o q u)).trans q,rfl⟩) t ((f e (cQu ne)).trans n) m C λi J y I p=>h i J y ?_ ⟨λb o a c d q=>?_,λb o a c q=>?_,λb o q=>?_⟩
  ·rw[<- Heap.size_after_update s.heap T (cQ2 (·.setIfInBounds 3 Value.none))];exact I
  ·exact p.keep b o a (by simp) d ((f b λz=>c (by rw[z])).trans q)
  ·exact p.slot b o a (by simp) ((f b λz=>c (by rw[z])).trans q)
  ·by_cases l:b=T
   ·subst l;exact p.there _ _ (cQS _ j (cXc (cXf k _)))
   ·exact p.there b o ((f b l).trans q)
theorem aYr{Q:Unit->bYP->Prop}(a:A.frames=some (env::outer))(hl:s.heap.FunFrames base (env::outer))(c:env.frame=some L)(x:X1 s.heap e cls dx tb) (h:∀b T,X1 b e cls dx (some T)->s.heap.objs.size<=T->bKQ ((env::outer).filterMap (·.frame)) e tb s.heap b->Q () {s with heap:=b}):bYU M A (leaving env (.ref e)) Q E s:=by
 unfold leaving;exact bYN (aVV a hl c x h)
theorem bXB{T:Nat}{Q:Unit->bYP->Prop}(x:X1 s.heap e cls dx (some T)) (h:∀d,X1 d e cls dx (some T)->(∀b o,b≠T->s.heap.get? b=some o->d.get? b=some o)->(∀b o,s.heap.get? b=some o->∃w,d.get? b=some w)->Q () {s with heap:=d}):bYU M A (cZW (.ref e) none) Q E s:=by
 obtain⟨u,t,k,p,n,i,j⟩:=x.obj;obtain⟨ne,y,z,g,f,r⟩:=x.ent T rfl;have l:=(cZf.mp r).1;have m:=cQS (cQ2 (·.setIfInBounds 3 Value.none)) g (cXc (cXf f _));have a:∀b,b≠T->(s.heap.update T (cQ2 (·.setIfInBounds 3 Value.none))).get? b=s.heap.get? b:=λb c=>cQq _ _ (cQu c);refine wpAny_setFlight_none k i j g f l (h _ ⟨⟨u,t,(a e (cQu ne)).trans k,p,n,i,j⟩,λB v=>?_⟩ (λb o c q=>(a b c).trans q) λb o q=>?_)
 ·cases v;exact⟨ne,_,_,m,cXf f _,by simp[l]⟩
 ·by_cases c:b=T
  ·subst c;exact⟨_,m⟩
  ·exact⟨o,(a b c).trans q⟩
end
end L2
namespace L2
open PySem PySem.W PySem.Calls PyProof.Rows Builtin Builtin.ObjectAttr
def jY:List bYM:= [.type "Exception",.type "BaseException",.type "object"]
def aJP:List bYM->Bool
 |.ref _::r=>aJP r
 |l=>l==jY
theorem aKF:∀l:List bYM,aJP l=true->∃a:List Nat,l=a.map Value.ref++jY:=by
 intro l;induction l with
 |nil=>intro e;cases e
 |cons v r b=>
  intro e;cases v with
  |ref c=>obtain⟨a,h⟩:=b e;exact⟨c::a,by rw[h];rfl⟩
  |_=>exact⟨[],beq_iff_eq.mp e⟩
theorem aXc(self:bYM):∀rs:List Nat,refuseLoop self "__setattr__" (rs.map Value.ref++jY)=pure ()
 |[]=>PySem.F.store_Exception.passes self
 |c::rs=>by rw[cQz,cJt,refuseLoop_ref];exact aXc self rs
theorem aWp{T:String}{b:Bool}(h:jY.contains (.type T)=b):∀rs:List Nat,(rs.map Value.ref++jY).contains (.type T)=b
 |[]=>h
 |c::rs=>by rw[cQz,cJt,cZa,aWp h rs];rfl
def bXp(K:Frag)(C:Nat):Bool:=match K.lookup C with
 |some ⟨_,_,.cls cd,sl⟩=> !cd.hasDel && cd.hasDict && (sl.toList[4]?).join==some (.builtin "Exception.__new__") && aJP cd.mro && cd.mro.contains (.ref C) &&
   specialIn K (.ref C) "__call__"==some (some (.builtin "type.__call__")) && instIn K (.ref C) (.type "type")==some true && typeIn K (.ref C)==some (.type "type") &&
   findIn K (.ref C) "__setattr__"==some (some (.builtin "object.__setattr__")) && findIn K (.ref C) "__getattribute__"==some (some (.builtin "BaseException.__getattribute__")) &&
   findIn K (.ref C) "__getattr__"==some none && findIn K (.ref C) "words"==some none
 |_=>false
structure uA(K:Frag)(C:Nat):Prop where
 cls:∃oc od cd sl,K.lookup C=some ⟨oc,od,.cls cd,sl⟩/\cd.hasDel=false/\cd.hasDict=true/\(sl.toList[4]?).join=some (.builtin "Exception.__new__")/\(∃rs:List Nat,cd.mro=rs.map Value.ref++jY)/\cd.mro.contains (.ref C)=true
 call:specialIn K (.ref C) "__call__"=some (some (.builtin "type.__call__"))
 typ:instIn K (.ref C) (.type "type")=some true
 ty:typeIn K (.ref C)=some (.type "type")
 sa:findIn K (.ref C) "__setattr__"=some (some (.builtin "object.__setattr__"))
 ga:findIn K (.ref C) "__getattribute__"=some (some (.builtin "BaseException.__getattribute__"))
 gh:findIn K (.ref C) "__getattr__"=some none
 wd:findIn K (.ref C) "words"=some none
theorem aK8{K:Frag}{C:Nat}(e:bXp K C=true):uA K C:=by
 unfold bXp at e;split at e
 ·rename_i r d i j q;simp only[Bool.and_eq_true,Bool.not_eq_true',beq_iff_eq]at e;obtain⟨⟨⟨⟨⟨⟨⟨⟨⟨⟨⟨p,o⟩,m⟩,h⟩,n⟩,l⟩,g⟩,f⟩,k⟩,b⟩,c⟩,a⟩:=e;exact⟨⟨r,d,i,j,q,p,o,m,aKF _ h,n⟩,l,g,f,k,b,c,a⟩
 ·cases e
abbrev wU(C t:Nat)(dx:Option Nat):Obj:={cls:= .ref C,dict:=dx,data:= .fields #[.ref t,.none,.none,.none,.bool false,.none] }
abbrev Q3:Obj:={cls:= .type "tuple",data:= .seq #[] }
section
variable {M:Model}{K:Frag}{C:Nat}{h:Heap}
theorem uA.sub(X:K.In h)(c:uA K C){T:String}{b:Bool}(g:jY.contains (.type T)=b):Looks M h (cZU (.ref C) (.type T)) b:=by
 obtain⟨o,i,e,j,f,n,l,p,⟨k,d⟩,m⟩:=c.cls;have a:clsIn K C=some e:=by unfold clsIn;rw[f]
 refine looks_mroIn X ?_;unfold mroIn;rw[a,Option.bind_some,d,if_neg (by simp[jY]),aWp g]
theorem uA.self(X:K.In h)(c:uA K C):Looks M h (cZU (.ref C) (.ref C)) true:=by
 obtain⟨m,g,d,i,f,l,k,n,⟨j,b⟩,e⟩:=c.cls;have a:clsIn K C=some d:=by unfold clsIn;rw[f]
 refine looks_mroIn X ?_;unfold mroIn;rw[a,Option.bind_some,if_neg (by rw[b];simp[jY]),e]
theorem uA.made(X:K.In h)(c:uA K C):Looks M h (Bind.madeBy (.ref C)) (some "Exception.__new__"):=by
 obtain⟨r,i,a,n,d,p,o,f,⟨j,m⟩,b⟩:=c.cls;have g:clsIn K C=some a:=by unfold clsIn;rw[d]
 have e:Looks M h (mroOf (.ref C)) a.mro:=(looks_clsIn X g).andThen .now;obtain⟨v,l,hl⟩:∃v l,a.mro=v::l:=by
  cases q:a.mro with
  |nil=>rw[q]at b;cases b
  |cons v l=>exact⟨v,l,rfl⟩
 intro A Q E s k q;unfold Bind.madeBy;refine bYN (e A _ E s k ?_);rw[hl,cJC];refine bYN (bYN (bYN (bYN (wpAny_loadPart (k _ _ (X _ _ d)) (bYQ ?_)))));dsimp only;rw[<- cXn,f];exact bYQ (bYQ (bYQ q))
theorem uA.base(X:K.In h)(c:uA K C):Looks M h (Bind.staticBase (.ref C)) (.ref C):=by
 have made:=c.made (M:=M) X;obtain⟨r,g,a,m,f,p,o,n,⟨i,j⟩,b⟩:=c.cls;have e:clsIn K C=some a:=by unfold clsIn;rw[f]
 have d:Looks M h (mroOf (.ref C)) a.mro:=(looks_clsIn X e).andThen .now;obtain⟨v,l,hl⟩:∃v l,a.mro=v::l:=by
  cases q:a.mro with
  |nil=>rw[q]at b;cases b
  |cons v l=>exact⟨v,l,rfl⟩
 intro A Q E s k q;unfold Bind.staticBase;refine bYN (d A _ E s k ?_);rw[hl,cJC];exact bYN (bYN (bYN (made A _ E s k (bYQ (bYQ (bYQ q))))))
theorem uA.here(X:K.In h)(c:uA K C):Looks M h (Bind.madeHere "BaseException.__new__" (.ref C)) ():=
 (c.base X).andThen ((c.made X).andThen (Looks.of_pure (by simp only[Option.map_some,cVg.canon,bne_self_eq_false,Bool.false_eq_true,if_false])))
end
section
variable {prog:bY8}{w:cQg}{A:cQv}{R:Result->bYP->Prop}{K:Frag}{C f:Nat}{h:Heap}{g:Array GenState}{d:Drawn}{t:Nat}{os:OsState}
theorem bJW(X:K.In h)(c:uA K C)(l:R (.ok (.ret (.ref (h.objs.size+1)))) ⟨(h.push Q3).push (wU C h.objs.size none),g,d,t,os⟩): cX1 (bYV prog w) A (.call (.builtin "Exception.__new__") ⟨[.ref C],[]⟩) R ⟨h,g,d,t,os⟩:=by
 have F:=cVg;have made:=c.made (M:=bYV prog w) X;have f:=c.base (M:=bYV prog w) X;have here:=c.here (M:=bYV prog w) X;have u:Looks (bYV prog w) h (cZU (.ref C) (.type "Exception")) true:=c.sub X dk;have x:Looks (bYV prog w) h (cZU (.ref C) (.type "AttributeError")) false:=c.sub X dk;have z:Looks (bYV prog w) h (cZU (.ref C) (.type "NameError")) false:=c.sub X dk;obtain⟨o,e,i,j,n,m,y,s,⟨q,r⟩,v⟩:=c.cls;have k:h.get? C=some ⟨o,e,.cls i,j⟩:=X _ _ n;refine codeAny_call_builtin_code (cJW _ F.quiet) ?_;simp only[checkBuiltinCall,F.newKind,F.newSplit,F.newRow];have args:Bind.checkArgs "Exception.__new__" ⟨.any,"Exception","Exception",.cls,[⟨"args",.varPos,false⟩,⟨"kwargs",.varKw,false⟩]⟩ ⟨[.ref C],[]⟩=pure ():=by kernel_rfl
 rw[args];repeat (first|simp only[bne_self_eq_false,Bool.false_eq_true,if_false]|lk)
 have b:=F.ends;refine codeAny_builtinAt F.entry ?_;unfold cXD.«BaseException.__new__»;refine PySem.wpAt_bind ?_;show PySem.wpAt _ _ _ (stack >>=_) _ _ _;refine PySem.wpAt_bind (PySem.wpAt_stack λp a=>PySem.wpAt_of_wpAny ?_);wp_walk;refine PySem.wpAt_of_wpAny ?_;rw[F.owner];repeat (first|simp only[Bool.not_true,Bool.false_eq_true,if_false]|lk)
 refine nd_load (bYS _ (bYS _ k)) (bYQ ?_);dsimp only;refine bYQ ?_;rw[m];refine bYQ (bYQ ?_);show R _ _;rw[cXo];exact l
theorem bXq(X:K.In h)(c:uA K C)(x:findIn K (.ref C) "__init__"=some (some (.ref f)))(u:typeIn K (.ref f)=some (.type "function")) (s:cX1 (bYV prog w) (A.under (.builtin "type.__call__" ⟨[.ref C],[]⟩)) (.call (.ref f) ⟨[.ref (h.objs.size+1)],[]⟩) (InitBack (h.objs.size+1) R) ⟨(h.push Q3).push (wU C h.objs.size none),g,d,t,os⟩): cX1 (bYV prog w) A (.call (.ref C) ⟨[],[]⟩) R ⟨h,g,d,t,os⟩:=by
 obtain⟨D,m,i,p,B,P,O,I,⟨E,n⟩,J⟩:=c.cls;have l:h.get? C=some ⟨D,m,.cls i,p⟩:=X _ _ B;have call:=looks_specialIn (M:=bYV prog w) X c.call;have j:=looks_instIn (M:=bYV prog w) X c.typ;have made:=c.made (M:=bYV prog w) X;have y:i.mro.isEmpty=false:=by rw[n];simp[jY]
 refine codeAny_of_tree ?_;show bYU _ _ (callAny (.ref C) _) _ _ _;refine nd_load l ?_;show bYU _ _ (callAny.viaDunder (.ref C) _) _ _ _;unfold callAny.viaDunder;refine bYN (call.at ?_);dsimp only;rw[tc_bind];refine bYN (bYQ (bYN (bYQ ?_)));refine bYQ (a:=Fin.again (.call (.builtin "type.__call__") ⟨[.ref C],[]⟩)) (And.intro rfl ?_);refine codeAny_call_builtin_at (cJW _ dk) entry_typeCall (check_slot tc_kind tc_split j (tc_args _ _ _) ?_);unfold cXD.«type.__call__»;have G:Looks (bYV prog w) h (mroOf (.ref C)) i.mro:=((Looks.ld (part:=none) l).andThen .now).andThen .now;repeat (first|simp only[y,Bool.false_eq_true,if_false]|with_reducible refine cZ2 ?_|lk)
 refine bJW X c ?_;have k:∀b o,h.get? b=some o->((h.push Q3).push (wU C h.objs.size none)).get? b=some o:=λb o e=>bYS _ (bYS _ e);have q:((h.push Q3).push (wU C h.objs.size none)).get? (h.objs.size+1)=some (wU C h.objs.size none):=by heap_get
 have F:Looks (bYV prog w) ((h.push Q3).push (wU C h.objs.size none)) (typeOf (.ref (h.objs.size+1))) (.ref C):=(Looks.ld q).andThen .now;have H:=(c.self (M:=bYV prog w) X).keeps k;have N:=(looks_findIn (M:=bYV prog w) X x).keeps k;have b1:=(bind_fn (M:=bYV prog w) X (.ref (h.objs.size+1)) u).keeps k;unfold cJH callSpecial? specialOf;repeat (first|with_reducible refine cZ2 ?_|lk)
 refine cXH s λr L z=>?_;rcases r with e|(v|_|_|_)<;> first|exact z|exact z.elim|skip
 obtain⟨rfl,z⟩:=z;exact bYQ (bYQ z)
end
section
variable {prog:bY8}{w:cQg}{A:cQv}{E:bYM->bYP->Prop}{K:Frag}{C e tp:Nat}{s:bYP}{v:bYM}
theorem bJX{Q:Unit->bYP->Prop}(X:K.In s.heap)(c:uA K C)(k:s.heap.get? e=some (wU C tp none)) (M:∀d tk,d.get? e=some (wU C tp (some s.heap.objs.size))->d.Ns1 s.heap.objs.size (λy=>if y="words" then some v else none)->(∀b o,b≠e->s.heap.get? b=some o->d.get? b=some o)->Q () {s with heap:=d,toks:=tk}): bYU (bYV prog w) A (setAttr (.ref e) "words" v) Q E s:=by
 have I:InstAt s.heap e (wU C tp none) C none:=⟨k,rfl,rfl,cXb⟩;refine set_plain X I c.sa ?_;have f:=PySem.F.store_object;obtain⟨W,P,u,S,O,Y,N,T,⟨R,D⟩,U⟩:=c.cls;have x:clsIn K C=some u:=by unfold clsIn;rw[O]
 have sub:Looks (bYV prog w) s.heap (cJH (.ref e) (.type "object")) true:=I.type.andThen (c.sub X dk);have G:Looks (bYV prog w) s.heap (mroOf (.ref C)) u.mro:=(looks_clsIn X x).andThen .now;refine cJG f.slot.plain f.entry (@check_slot (bYV prog w) _ _ {s with toks:=s.toks+1} "object.__setattr__" "object" "__setattr__" (.ref e) [.str "words" s.toks,v] [] _ f.kind f.split sub (f.args (.ref e) (.str "words" s.toks) v) ?_);rw[osa_eq,refuse_eq];have g:∀ (b:Nat)(o:Obj),s.heap.get? b=some o->s.heap.get? b=some o:=λ_ _ e=>e;refine bYN (bYN (I.type _ _ _ _ g (bYN (G _ _ _ _ g ?_))));rw[D,aXc];refine bYQ (bYN (I.type _ _ _ _ g (bYN ((looks_findIn X c.wd) _ _ _ _ g (bYN (bYQ ?_))))));have i:e≠s.heap.objs.size:=cQd (bY0 k);have j:(s.heap.push emptyDict).get? e=some (wU C tp none):=bYS _ k;refine bYN (bYQ (bYN (bYN (wpAny_loadPart k (bYN ((looks_clsIn X x) _ _ _ _ g ?_))))));rw[N];refine bYN (wpAny_alloc ?_);refine bYN (wpAny_update j ?_);refine bYQ (a:=some s.heap.objs.size) ?_;show bYU _ _ (storeInDict s.heap.objs.size (.str "words" s.toks) "words" v) _ _ _;have p:((s.heap.push emptyDict).update e λo=>{o with dict:=some s.heap.objs.size}).get? s.heap.objs.size=some emptyDict:=(cJM _ _ _ _ i.symm).trans (Heap.get?_push_at rfl rfl);have t:((s.heap.push emptyDict).update e λo=>{o with dict:=some s.heap.objs.size}).Ns s.heap.objs.size (λ_=>none):=⟨_, #[],_,p,rfl,λe J=>absurd J (by simp),λ_=>rfl⟩;have n:=cQS (λo=>{o with dict:=some s.heap.objs.size}) j rfl;unfold storeInDict newKeyGuard;refine bYN (bYQ (bYN (wpAny_nsSet1 (Heap.Ns1.of_empty t) λd h z=>?_)));obtain⟨V,B,L,r,m,l⟩:=h.count (Within.cons "words" v Within.nil);refine bYN (wpAny_lookBehind r (by rw[m];exact pastItsLine_dict (cQo l (by rw[cQN,cXU,cQe];omega))) ?_);refine bYQ ?_;refine M d _ ((z.2 e i).trans n) h λb o H q=>?_;exact(z.2 b (cQd (bY0 q))).trans ((cJM _ _ _ _ H).trans (bYS _ q))
theorem bga:Slot "Exception" "__getattribute__" "BaseException.__getattribute__":=
 .of (owner:="BaseException") (n:="__getattribute__") (by rw[typeLookup_type,cJy];kernel_rfl) dk dk dk (by first|exact .inl dk|exact .inr dk) (by rw[isSubtype_type];kernel_rfl)
theorem bJV{a:Bool}{Q:bYM->bYP->Prop}{b d:Obj}{dx:Nat}(X:K.In s.heap)(c:uA K C)(m:s.heap.get? e=some b)(l:b.cls= .ref C)(n:b.dict=some dx)(t:notCls b=true)(x:s.heap.get? dx=some d) (hl:lookIn "words" d=some (some v)) (r:handedIn v=true) (o:Q v {s with toks:=s.toks+1}):bYU (bYV prog w) A (getAttr (.ref e) "words" a) Q E s:=by
 have I:InstAt s.heap e b C (some d):=⟨m,l,t,by rw[n];exact x⟩;obtain⟨J,u,j,B,f,H,q,D,⟨y,z⟩,G⟩:=c.cls;have g:clsIn K C=some j:=by unfold clsIn;rw[f]
 have p:findObj K C (some d) "words"=some (.value v):=by unfold findObj;rw[g,Option.bind_some,c.wd];simp only[Option.bind_some];unfold W.ownOf;rw[q,if_pos rfl];dsimp only;rw[hl];rfl
 have h:=I.type (M:=bYV prog w);have i:=looks_find (M:=bYV prog w) X I p;have sub:Looks (bYV prog w) s.heap (cJH (.ref e) (.type "BaseException")) true:=I.type.andThen (c.sub X dk);refine bYN (wpAny_mkText (cQ7 (bYN (h _ _ _ _ (λ_ _ e=>e) (bYN (looks_findIn X c.ga _ _ _ _ (λ_ _ e=>e) ?_))))));dsimp only;rw[show(onTheHeap (Value.ref C) && Value.builtin "BaseException.__getattribute__"==Value.builtin "object.__getattribute__")=false from by rw[show(Value.builtin "BaseException.__getattribute__"==Value.builtin "object.__getattribute__")=false from dk,Bool.and_false],if_neg (by decide)];have k:Looks (bYV prog w) s.heap (hookBefore (.ref C)) none:=looks_hook (mc:= .ref C) X (by rw[if_pos (show onTheHeap (Value.ref C)=true from rfl)];exact c.gh);refine bYN (k _ _ _ _ (λ_ _ e=>e) (bYN (cZ7 (cQ7 ?_))));unfold callGetattribute;rw[show(a && onTheHeap (Value.builtin "BaseException.__getattribute__"))=false from Bool.and_false _,if_neg (by decide)];unfold boundAndCalled;rw[bga.bind];refine bYN (bYQ ?_);show bYU _ _ (call (.builtin "BaseException.__getattribute__") [.ref e,.str "words" s.toks]) _ _ _;refine cZ2 (cJG bga.plain F.entry_bexc_ga ?_);refine @check_slot (bYV prog w) _ _ {s with toks:=s.toks+1} "BaseException.__getattribute__" "BaseException" "__getattribute__" (.ref e) [.str "words" s.toks] [] _ dk dk sub (F.args_bexc_ga (.ref e) (.str "words" s.toks)) ?_;unfold cXD.«object.__getattribute__»;refine bYN (bYQ (bYN (bYQ ?_)));refine bYN (h _ _ _ _ (λ_ _ e=>e) (bYN (i _ _ _ _ (λ_ _ e=>e) (bYQ ?_))));show bYU _ _ (handedOut v) _ _ _;rw[handedOut_of r];exact bYQ o
theorem aK9{M:Model}{Q:Bool->bYP->Prop}{f:Obj}{Rf:Nat}(X:K.In s.heap)(c:uA K C)(b:uA K Rf)(n:mroIn K C (.ref Rf)=some true)(h:s.heap.get? e=some f)(l:f.cls= .ref C)(m:Q true s): bYU M A (excMatches (.ref e) (.ref Rf)) Q E s:=by
 obtain⟨a,g,d,t,os⟩:=s;dsimp only at X h;have w:Looks M a (typeOf (.ref e)) (.ref C):=l ▸ (Looks.ld h).andThen .now;have y:Looks M a (cZU (.ref C) (.ref Rf)) true:=looks_mroIn X n;have r:Looks M a (cJH (.ref Rf) (.type "tuple")) false:=(looks_typeIn X b.ty).andThen (Looks.of_pure tc_notTuple);have u:Looks M a (cZU (.ref Rf) (.type "BaseException")) true:=b.sub X dk;have x:Looks M a (typeOf (.ref Rf)) (.type "type"):=looks_typeIn X b.ty;have F:Looks M a (cZU (.type "type") (.type "type")) true:=Looks.of_pure tc_sub;obtain⟨p,i,j,k,o,H,G,z,⟨q,v⟩,D⟩:=b.cls;have B:a.get? Rf=some ⟨p,i,.cls j,k⟩:=X _ _ o;unfold excMatches isExcClass;repeat (first|simp only[Bool.not_true,Bool.false_eq_true,if_false,if_true]|lk)
 exact m
theorem aYa{M:Model}{env:Env}{x:Sem bYM}{Q:Flow->bYP->Prop}(l:A.handled=none) (h:bYU M A x (λv a=>∃e tp i C,v= .ref e/\K.In a.heap/\uA K C/\a.heap.get? e=some (wU C tp i)/\E (.ref e) a) E s):bYU M A (raiseStmt env (some x) none) Q E s:=by
 unfold raiseStmt;refine bYN (cQQ h (λv a j=>?_) λ_ _ x=>x);obtain⟨e,tp,i,C,rfl,X,c,f,k⟩:=j;obtain⟨b,g,d,tk,os⟩:=a;dsimp only at X f;have n:Looks M b (typeOf (.ref e)) (.ref C):=(Looks.ld f).andThen .now;have o:Looks M b (cZU (.ref C) (.type "BaseException")) true:=c.sub X dk;have m:Looks M b (typeOf (.ref C)) (.type "type"):=looks_typeIn X c.ty;unfold excFromValue isExcClass cJH;repeat (first|simp only[Bool.false_eq_true,if_false,if_true]|lk)
 show bYU M A handled _ _ _;refine wpAny_handled ?_;rw[l];exact wpAny_throw k
end
end L2
namespace L2
open PySem PySem.Spec PyProof.Rows
def CXR(P:bY8)(w:cQg):CXT:=λouter H s E d a=>∃ (e C c tb:Nat)(b:Hp),d= .ref e/\a.os=s.os/\AllBare a.gens/\Un (frs outer) [] H b s.heap a.heap/\HOk P w b a.heap/\
 X1 a.heap e (.ref C) (some c) (some tb)/\b e=none/\b tb=none/\s.heap.objs.size<=e/\s.heap.objs.size<=tb/\E (.ref C) (some c) b
section
variable {P:bY8}{w:cQg}{K:bYO}{mg:Str->Option bYM}{base:Heap}{N:List Str}{qual:Str}{scope:cXZ}{f:Nat}{cd:bYM}{A:cQv}{outer:List Env}{s₀:bYP}{H₀:Hp}{E:XK}
 {pins:List (Nat×Obj)} {σ:St} {H:Hp} {s:bYP}
theorem bKC{e C dx:Nat}{tb:Option Nat}(I:Inv (aXR (CXR P w) P w K mg base N qual scope f cd A outer s₀ H₀ E) pins σ H s)(x:X1 s.heap e (.ref C) (some dx) tb)(t:H e=none)(D:s₀.heap.objs.size<=e) (m:∀T,tb=some T->H T=none/\s₀.heap.objs.size<=T) (q:E (.ref C) (some dx) H):(aXR (CXR P w) P w K mg base N qual scope f cd A outer s₀ H₀ E).xe (.ref e) s:=by
 have ne:∀b o,s₀.heap.get? b=some o->b≠e:=λb o a=>cQd (cQf (bY0 a) D);have l:∀b o,s₀.heap.get? b=some o->tb≠some b:=λb o a z=>absurd (cQf (bY0 a) (m b z).2) (cQ0 _);have G:∀b,b∈(cXK qual scope s₀.heap.objs.size f cd::outer).filterMap (·.frame)->b=s₀.heap.objs.size\/b∈frs outer:=λb d=>by rw[cZz,show(cXK qual scope s₀.heap.objs.size f cd).frame=some s₀.heap.objs.size from rfl]at d;exact bYX.mp d
 have k:∀b o,s₀.heap.get? b=some o->b∉frs outer->b∉(cXK qual scope s₀.heap.objs.size f cd::outer).filterMap (·.frame):=λb o a d z=>
  (G b z).elim (cQd (bY0 a)) d
 show bYU (bYV P w) (A.deeper (cXK qual scope s₀.heap.objs.size f cd)) (leaving (cXK qual scope s₀.heap.objs.size f cd) (.ref e)) _ _ s;refine aYr (base:=base) (outer:=outer) (L:=s₀.heap.objs.size) I.ok.frames I.stack rfl x λQ T y B p=>?_;refine⟨e,C,dx,T,H,rfl,I.os,I.bare,?_,?_,y,t,I.hok.fresh B,D,cQo I.sz B,q⟩
 ·refine⟨λb o a n d g=>?_,λb o a n d g=>?_,λb o a n g=>I.base.free b o a n g,λb o a g=>?_,I.base.tups,I.base.frzs,I.base.tbls⟩
  ·exact p.keep b o (ne b o a) (l b o a) (k b o a d) (I.base.keep b o a n d g)
  ·obtain⟨O,i⟩:=I.base.slot b o a n d g;obtain⟨j,F⟩:=p.slot b _ (ne b o a) (l b o a) i;exact⟨j,F⟩
  ·obtain⟨J,i⟩:=I.base.there b o a g;exact p.there b J i
 ·refine λb u a=>(I.hok b u a).stay (λc v M r=>?_) (λ_ r=>r) λ_ _ r=>r;have h:H c≠none:=by
   rcases M with z|z
   ·rw[z,a];simp
   ·rw[z];simp
  refine p.keep c v (λz=>h (by rw[z];exact t)) (λz=>h (m c z).1) (λz=>h (I.stkFree c z)) r
theorem z9:vT (CXR P w) (aXR (CXR P w) P w K mg base N qual scope f cd A outer s₀ H₀ E) E:=by
 intro c σ H s q o I h;obtain⟨e,C,r,tb,j,rfl,n,a,un,g,x,m,l,i,d,p⟩:=h;have k:Inv (aXR (CXR P w) P w K mg base N qual scope f cd A outer s₀ H₀ E) c σ j o:=I.call' n un g a λb z=>absurd z (by simp);exact bKC k x m (cQo I.sz i) (λT z=>by cases z;exact⟨l,cQo I.sz d⟩) p
theorem Fun.okX{x:Str}{st:Stmt}{e:cXL}{ps:List Str}{k:Nat}{sp:Sp}(F:Fun K x qual st f e)(S:yN N ps (yH st)) (b:∀ (a:bYM)(A:cQv)(outer:List Env)(s:bYP)(H:Hp)(vs:List V)(Q:VK)(E:XK),vZ k (A.deeper (cXK qual (yH st) s.heap.objs.size f a))->sp vs H Q E-> ∃t,PSs (aXR (CXR P w) P w K mg base N qual (yH st) f a A outer s H E) (zJ st) t/\t {nx:=λ_ g=>Q .non g,rt:=Q} (start N vs) H) (len:∀vs H Q E,sp vs H Q E->vs.length=ps.length:=by intro _ _ _ _ h;repeat (first|(obtain⟨rfl,_⟩:=h;exact rfl)|(obtain⟨_,h⟩:=h))):xH P w K mg base (CXR P w) (k+1) f e ps sp:=by
 obtain⟨p,m,kV,j,o,n,a,ct,l,rfl,lk,c⟩:=F.ex;exact bJZ lk c S len λA outer s H vs Q E i d=>b a A outer s H vs Q E i d
end
structure FnX(P:bY8)(w:cQg)(K:bYO)(mg:Str->Option bYM)(base:Heap)(k:Nat)(x:Str)(ps:List Str)(sp:Sp):Prop where
 ex:∃f fd,xH P w K mg base (CXR P w) k f fd ps sp/\v9 K fd ps []/\cQK K (.ref f)=true/\mg x=some (.ref f)
theorem FnX.mono{P:bY8}{w:cQg}{K:bYO}{mg:Str->Option bYM}{base:Heap}{j k:Nat}{x:Str}{ps:List Str}{sp:Sp}(G:FnX P w K mg base j x ps sp)(h:j<=k):FnX P w K mg base k x ps sp:=
 let ⟨f,fd,a,b⟩:=G.ex;⟨f,fd,a.mono h,b⟩
structure MG(P:bY8)(w:cQg)(K:bYO)(mg:Str->Option bYM)(base:Heap)(CX:CXT)(k:Nat)(C:Nat)(m:Str)(ps:List Str)(sp:Sp):Prop where
 ex:∃f fd,xH P w K mg base CX k f fd ps sp/\v9 K fd ps []/\bWp K C m f
 cl:Cls K C
theorem MG.mono{P:bY8}{w:cQg}{K:bYO}{mg:Str->Option bYM}{base:Heap}{CX:CXT}{j k:Nat}{C:Nat}{m:Str}{ps:List Str}{sp:Sp}(G:MG P w K mg base CX j C m ps sp)(h:j<=k):MG P w K mg base CX k C m ps sp:=
 let ⟨f,fd,a,b⟩:=G.ex;⟨⟨f,fd,a.mono h,b⟩,G.cl⟩
structure MkG(P:bY8)(w:cQg)(K:bYO)(mg:Str->Option bYM)(base:Heap)(k:Nat)(x:Str)(C:Nat)(ps:List Str)(sp:Sp):Prop where
 ex:∃f fd,xH P w K mg base CX0 k f fd ps sp/\v9 K fd ps []/\Mk K C f/\mg x=some (.ref C)
theorem MkG.mono{P:bY8}{w:cQg}{K:bYO}{mg:Str->Option bYM}{base:Heap}{j k:Nat}{x:Str}{C:Nat}{ps:List Str}{sp:Sp}(G:MkG P w K mg base j x C ps sp)(h:j<=k):MkG P w K mg base k x C ps sp:=
 let ⟨f,fd,a,b⟩:=G.ex;⟨f,fd,a.mono h,b⟩
section
variable {X:Cx}{k:Nat}{x m:Str}{C:Nat}{ps:List Str}{sp:Sp}{e o:Expr}{es:List Expr}{ta:TE}{t:TA}{p pos apos:Pos}{E:XK}{CX:CXT}
theorem aQL{P:bY8}{w:cQg}{K:bYO}{mg:Str->Option bYM}{base:Heap}{N:List Str}{qual:Str}{scope:cXZ}{f:Nat}{cd:bYM}{A:cQv}{outer:List Env}{s₀:bYP}{H₀:Hp}
  (G:FnX P w K mg base k x ps sp) (d:vZ k (A.deeper (cXK qual scope s₀.heap.objs.size f cd))) (h:Gl (aXR (CXR P w) P w K mg base N qual scope f cd A outer s₀ H₀ E) x) (m:PA (aXR (CXR P w) P w K mg base N qual scope f cd A outer s₀ H₀ E) (e::es) t)
  (c:(x==("__debug__":Str))=false:=by decide) (l:cQt (e::es) (cXK qual scope s₀.heap.objs.size f cd)=(false,eval e (cXK qual scope s₀.heap.objs.size f cd))::cQt es (cXK qual scope s₀.heap.objs.size f cd):=by rfl)
  (a:(cXu pos (cQt es (cXK qual scope s₀.heap.objs.size f cd))).any (·.1)=false:=by rfl):
  PE (aXR (CXR P w) P w K mg base N qual scope f cd A outer s₀ H₀ E) (.Call (.Name x p) (e::es) [] pos) (bZT sp [] E t):=by
 obtain⟨g,n,F,b,j,i⟩:=G.ex
 exact aYZ F d h i j b .nil z9 m c l a
theorem v7{pl:Sem Bool}(G:MG X.prog X.w X.K X.mg X.base CX k C m ps sp)(l:vZ k X.A)(j:vT CX X E)(n:PE X o ta)(h:PA X (e::es) t)
  (c:cQt (e::es) X.env=(false,eval e X.env)::cQt es X.env:=by rfl) (a:(cXu pos (cQt es X.env)).any (·.1)=false:=by rfl)
  (d:eval (.Call (.Attribute o m apos) (e::es) [] pos) X.env=(do
   let ov <- eval o X.env
   standAt apos.atName
   let (f,first) <- cJa [ov] (cJg ov m pl)
   callWith pos f first (cXu pos (cQt (e::es) X.env)) (cZ1 pos (cX8 [] X.env))):=by rfl):
  PE X (.Call (.Attribute o m apos) (e::es) [] pos) (bZV C m sp [] E ta t):=by
 obtain⟨g,p,F,b,i⟩:=G.ex
 exact bVA n G.cl i F l b .nil j h c a d
theorem bZe{pl:Sem Bool}(G:MG X.prog X.w X.K X.mg X.base CX k C m ps sp)(e:vZ k X.A)(d:vT CX X E)(h:PE X o ta)
  (a:eval (.Call (.Attribute o m apos) [] [] pos) X.env=(do
   let ov <- eval o X.env
   standAt apos.atName
   let (f,first) <- cJa [ov] (cJg ov m pl)
   callWith pos f first (cXu pos (cQt [] X.env)) (cZ1 pos (cX8 [] X.env))):=by rfl):
  PE X (.Call (.Attribute o m apos) [] [] pos) (bZV C m sp [] E ta bZW):=by
 obtain⟨g,i,F,b,c⟩:=G.ex
 exact bZg h G.cl c F e b .nil d a
theorem bK2(G:MkG X.prog X.w X.K X.mg X.base k x C ps sp)(j:vZ (k+1) X.A)(d:Gl X x)(l:PA X (e::es) t)(c:(x==("__debug__":Str))=false:=by decide)
  (h:cQt (e::es) X.env=(false,eval e X.env)::cQt es X.env:=by rfl) (a:(cXu pos (cQt es X.env)).any (·.1)=false:=by rfl):PE X (.Call (.Name x p) (e::es) [] pos) (bZU C sp [] E0 t):=by
 obtain⟨g,m,F,b,f,i⟩:=G.ex
 exact bVz f F j d i b .nil v5 l c h a
theorem bW3(G:MkG X.prog X.w X.K X.mg X.base k x C ps sp)(f:vZ (k+1) X.A)(c:Gl X x)(a:(x==("__debug__":Str))=false:=by decide):PE X (.Call (.Name x p) [] [] pos) (bZU C sp [] E0 bZW):=by
 obtain⟨g,h,F,b,d,e⟩:=G.ex;exact bZf d F f c e b .nil v5 a
end
end L2
namespace L2
open PySem PySem.Spec PyProof.Rows
def qD(e C tp:Nat)(dx:Option Nat):HO:= .ext λh=>h.get? e=some (wU C tp dx)
theorem aVM{P:bY8}{w:cQg}{H:Hp}{h:Heap}{e C tp:Nat}{dx:Option Nat}(b:h.get? e=some (wU C tp dx)):zG P w H h e (qD e C tp dx):=⟨b,⟨_,b⟩,λd c a k=>k _ a⟩
theorem aVL{P:bY8}{w:cQg}{H:Hp}{h:Heap}{e C tp:Nat}{dx:Option Nat}(ok:HOk P w H h)(a:H e=some (qD e C tp dx)):h.get? e=some (wU C tp dx):=(ok e _ a).1
section
variable {X:Cx}{pins:List (Nat×Obj)}{σ:St}{H:Hp}{s:bYP}
theorem Inv.forget{e:Nat}{φ:Heap->Prop}(I:Inv X pins σ H s)(h:H e=some (.ext φ)):Inv X pins σ (λb=>if b=e then none else H b) s:=by
 have ne:∀b u,H b=some u->(∀φ,u≠ .ext φ)->b≠e:=λb u q n z=>by rw[z,h]at q;cases q;exact n _ rfl
 refine⟨I.ok,I.os,I.bare,⟨I.base.keep,I.base.slot,λb o q n i=>?_,I.base.there,λb f q=>?_,λb o u q=>?_,λb ps q=>?_⟩,I.loc,I.cell,?_,λx c q=>?_,λp k=>?_,λb u q=>?_,I.len⟩
 ·show(if b=e then none else H b)=none;rw[I.base.free b o q n i];split<;> rfl
 ·have z:=I.base.tups b f q;show(if b=e then none else H b)=_;rw[if_neg (ne b _ z λ_ y=>by cases y),z]
 ·have z:=I.base.frzs b o u q;show(if b=e then none else H b)=_;rw[if_neg (ne b _ z λ_ y=>by cases y),z]
 ·obtain⟨m,z⟩:=I.base.tbls b ps q;refine⟨m,?_⟩;show(if b=e then none else H b)=_;rw[if_neg (ne b _ z λ_ y=>by cases y),z]
 ·show(if _=e then none else H _)=none;rw[I.free];split<;> rfl
 ·show(if c=e then none else H c)=none;rw[I.freeC x c q];split<;> rfl
 ·obtain⟨g,l,j⟩:=I.pin p k;refine⟨g,?_,j⟩;show(if p.1=e then none else H p.1)=none;rw[l];split<;> rfl
 ·have a:(if b=e then none else H b)=some u:=q;by_cases d:b=e
  ·rw[if_pos d]at a;cases a
  ·rw[if_neg d]at a;refine(I.hok b u a).stay (λc v _ r=>r) (λc r=>?_) λc f r=>?_
   ·show(if c=e then none else H c)=_;rw[if_neg (ne c _ r λ_ y=>by cases y),r]
   ·show(if c=e then none else H c)=_;rw[if_neg (ne c _ r λ_ y=>by cases y),r]
def bYC(K:bYO)(d f:TE):TS:=λD σ H=>f σ H λy c=>d σ c λx a=>∃e C tp,x= .ref e/\a e=some (qD e C tp none)/\uA K C/\∀b,a b=none->D.nx σ (upd (upd a b (.xd [("words",y)])) e (qD e C tp (some b)))
theorem bW6{o a:Expr}{A E:TE}{pos i:Pos}(N:PE X o A)(P:PE X a E)(O:swapsWith a (some (.Attribute o "words" i)) pos.line X.env=pure false): PS X (.Assign [.Attribute o "words" i] a pos) (bYC X.K A E):=by
 intro pins s σ H D I h;refine cJz (thn (P pins s σ H _ I h) λu s1 ⟨y,H1,I1,ry,q⟩=>thn (N pins s1 σ H1 _ I1 q) λov s2 ⟨x,H2,I2,rx,e,C,tp,ex,ea,c,q2⟩=>?_) O;subst ex;obtain rfl:ov=Value.ref e:=rx;have M:=aVL I2.hok ea;have g:H2 s2.heap.objs.size=none:=I2.hok.fresh (bYT _);have G:=q2 _ g;refine bJX I2.kIn c M λQ tk w F k=>⟨σ,_,I2.un (t':=tk) ?_ ?_,G⟩
 ·have nb:∀b,H2 b=none->b≠e:=λb n z=>by rw[z,ea]at n;cases n
  have J:∀b o,s2.heap.get? b=some o->b≠s2.heap.objs.size:=λb o r=>cQd (bY0 r);have p:∀b u,H2 b=some u->(∀φ,u≠ .ext φ)->upd (upd H2 s2.heap.objs.size (.xd [("words",y)])) e (qD e C tp (some s2.heap.objs.size)) b=some u:=λb u r n=>by rw[yJ (λz=>by rw[z,ea]at r;cases r;exact n _ rfl),yJ (yI r g)];exact r
  refine⟨λb o r n _ _=>k b o (nb b n) r,λb o r n _ _=>⟨o.slots,k b o (nb b n) r⟩,λb o r n _=>?_,λb o r _=>?_,λb L r=>p b _ r (λ_ z=>by cases z),λb o u r=>p b _ r (λ_ z=>by cases z),λb ps r=>⟨#[],by rw[p b _ r (λ_ z=>by cases z)];simp⟩⟩
  ·rw[yJ (nb b n),yJ (J b o r)];exact n
  ·by_cases j:b=e
   ·subst j;exact⟨_,w⟩
   ·exact⟨o,k b o j r⟩
 ·intro b v r;by_cases j:b=e
  ·subst j;rw[yB]at r;cases r;exact aVM w
  ·rw[yJ j]at r;by_cases B:b=s2.heap.objs.size
   ·subst B;rw[yB]at r;cases r;refine⟨_,F,λf=>?_⟩;show aZz (cX7 f [("words",y)]) (if f="words" then some u else none);by_cases m:f="words"
    ·subst m;exact ry
    ·rw[if_neg m];have:(f==("words":Str))=false:=by simpa using m
     simp[cX7,this,aZz]
   ·rw[yJ B]at r;have ne:∀c l,H2 c=some l->(∀φ,l≠ .ext φ)->c≠e:=λc l d n z=>by rw[z,ea]at d;cases d;exact n _ rfl
    refine(I2.hok b v r).stay (λc o t d=>k c o ?_ d) (λc d=>?_) λc L d=>?_
    ·rcases t with rfl|t
     ·exact j
     ·exact ne c _ t λ_ z=>by cases z
    ·rw[yJ (ne c _ d λ_ z=>by cases z),yJ (yI d g)];exact d
    ·rw[yJ (ne c _ d λ_ z=>by cases z),yJ (yI d g)];exact d
end
def wY(K:bYO):Sp:=λb H Q _=>∃ (e C tp:Nat)(y:V),b= [.ref e,y]/\H e=some (qD e C tp none)/\uA K C/\∀a,H a=none->Q .non (upd (upd H a (.xd [("words",y)])) e (qD e C tp (some a)))
def wN(K:bYO)(C:Nat)(t:Str):Sp:=λb H Q _=>∃e tp:Nat,b= [.ref e]/\H e=some (qD e C tp none)/\∀a,H a=none->Q .non (upd (upd H a (.xd [("words",.str t)])) e (qD e C tp (some a)))
structure aWt(P:bY8)(w:cQg)(K:bYO)(mg:Str->Option bYM)(base:Heap)(k:Nat)(x m:Str)(ps:List Str)(sp:Sp):Prop where
 ex:∃ (R f:Nat)(fd:cXL),xH P w K mg base CX0 k f fd ps sp/\v9 K fd ps []/\PySem.W.readsIn K R (.type "type")=true/\PySem.W.findCls K (.ref R) (.type "type") m=some (.val (.ref f))/\
  cJo K (.ref R) "__getattribute__"=some (some (.builtin "type.__getattribute__"))/\cQK K (.ref f)=true/\mg x=some (.ref R)
section
variable {X:Cx}{k:Nat}{x m:Str}{ps:List Str}{sp:Sp}{e:Expr}{es:List Expr}{t:TA}{p pos apos:Pos}
theorem u4{pl:Sem Bool}(G:aWt X.prog X.w X.K X.mg X.base k x m ps sp)(l:vZ k X.A)(n:Gl X x)(y:PA X (e::es) t)(d:(x==("__debug__":Str))=false:=by decide)
  (a:cQt (e::es) X.env=(false,eval e X.env)::cQt es X.env:=by rfl) (c:(cXu pos (cQt es X.env)).any (·.1)=false:=by rfl)
  (u:eval (.Call (.Attribute (.Name x p) m apos) (e::es) [] pos) X.env=(do
   let ov <- eval (.Name x p) X.env
   standAt apos.atName
   let (f,first) <- cJa [ov] (cJg ov m pl)
   callWith pos f first (cXu pos (cQt (e::es) X.env)) (cZ1 pos (cX8 [] X.env))):=by rfl):
  PE X (.Call (.Attribute (.Name x p) m apos) (e::es) [] pos) (bZT sp [] E0 t):=by
 obtain⟨R,f,z,F,b,v,j,g,q,o⟩:=G.ex
 intro pins s σ H Q I h
 refine cZQ (pl:=pl) (uY I n o ?_ d) u
 refine PySem.W.method_cls I.kIn g (PySem.W.cls_value I.kIn v j rfl ?_)
 have i:=I.tok (s.toks+1)
 refine cZG (first:= []) (h₀:=X.base) I.ok.mod.kin q (thn (y pos pins _ σ H _ i h) λus s2 ⟨vs,H2,I2,r,q2⟩=>⟨I2.kIn,?_⟩) a c
 exact aJh F l b .nil v5 I2 r q2
end
structure ExG(P:bY8)(w:cQg)(K:bYO)(mg:Str->Option bYM)(base:Heap)(k:Nat)(x:Str)(Rf:Nat)(C:Nat)(t:Str):Prop where
 ex:∃f fd,xH P w K mg base CX0 k f fd ["self"] (wN K C t)/\v9 K fd ["self"] []/\cQy K (.ref C) "__init__"=some (some (.ref f))/\cZw K (.ref f)=true/\cQK K (.ref C)=true/\mg x=some (.ref C)
 cl:uA K C
 sub:cZ4 K C (.ref Rf)=some true
theorem ExG.mono{P:bY8}{w:cQg}{K:bYO}{mg:Str->Option bYM}{base:Heap}{j k:Nat}{x:Str}{Rf C:Nat}{t:Str}(G:ExG P w K mg base j x Rf C t)(h:j<=k):ExG P w K mg base k x Rf C t:=
 let ⟨f,fd,a,b⟩:=G.ex;⟨⟨f,fd,a.mono h,b⟩,G.cl,G.sub⟩
def bJu(C:Nat)(t:Str)(E:XK):TS:=λ_ _ H=>∀a,H a=none->E (.ref C) (some a) (upd H a (.xd [("words",.str t)]))
section
variable {P:bY8}{w:cQg}{K:bYO}{mg:Str->Option bYM}{base:Heap}{N:List Str}{qual:Str}{scope:cXZ}{f:Nat}{cd:bYM}{A:cQv}{outer:List Env}{s₀:bYP}{H₀:Hp}{E:XK}{k:Nat}{x t:Str}{Rf C:Nat}{np cpos pos:Pos}
theorem wG(G:ExG P w K mg base k x Rf C t)(R:vZ (k+1) (A.deeper (cXK qual scope s₀.heap.objs.size f cd)))(U:Gl (aXR (CXR P w) P w K mg base N qual scope f cd A outer s₀ H₀ E) x)(y:(x==("__debug__":Str))=false:=by decide):
  PS (aXR (CXR P w) P w K mg base N qual scope f cd A outer s₀ H₀ E) (.Raise (some (.Call (.Name x np) [] [] cpos)) none pos) (bJu C t E):=by
 intro pins s σ H D I h
 obtain⟨fi,fd,F,b,hi,hf,X,V⟩:=G.ex
 rw[arm_exec_Raise]
 refine bYN (cZ9 ?_)
 show bYU _ _ (raiseStmt _ (some (do let v <- eval (.Call (.Name x np) [] [] cpos) (cXK qual scope s₀.heap.objs.size f cd);standAt pos;pure v)) none) _ _ _
 refine aYa (K:=K) (I.ok.hd rfl) (bYN ?_)
 refine cXv (uY I U V ?_ y)
 refine cJP I.kIn X (cZ2 ?_)
 obtain⟨a,g,d,tk,M⟩:=s
 have Y:Inv (aXR (CXR P w) P w K mg base N qual scope f cd A outer s₀ H₀ E) pins σ H ⟨a.push Q3,g,d,tk,M⟩:=I.kept (t':=tk) λb u e=>bYS _ e
 have Z:((a.push Q3).push (wU C a.objs.size none)).get? (a.objs.size+1)=some (wU C a.objs.size none):=by heap_get
 have q:Inv (aXR (CXR P w) P w K mg base N qual scope f cd A outer s₀ H₀ E) pins σ (upd H (a.objs.size+1) (qD (a.objs.size+1) C a.objs.size none)) ⟨(a.push Q3).push (wU C a.objs.size none),g,d,tk,M⟩:=
  Y.laid (t':=tk) (λb u e=>bYS _ e) (cZt (cXo _ _)) (aVM Z)
 have n:H (a.objs.size+1)=none:=I.hok.fresh (cXT _)
 refine bXq I.kIn G.cl hi (beq_iff_eq.mp hf) (cXH (F.run _ (cXK qual scope s₀.heap.objs.size f cd::outer) _ _ ⟨[.ref (a.objs.size+1)],[]⟩ [.ref (a.objs.size+1)] [.ref (a.objs.size+1)] (λv L=>v= .non/\∃c,upd H (a.objs.size+1) (qD (a.objs.size+1) C a.objs.size none) c=none/\L=upd (upd (upd H (a.objs.size+1) (qD (a.objs.size+1) C a.objs.size none)) c (.xd [("words",.str t)])) (a.objs.size+1) (qD (a.objs.size+1) C a.objs.size (some c))) E0 (R.make C [] []) (q.env0.make C [] []) (b _ [.ref (a.objs.size+1)] q.kIn rfl) (.cons rfl .nil) ⟨a.objs.size+1,a.objs.size,rfl,yB,λc i=>⟨rfl,c,i,rfl⟩⟩) λr s' j=>?_)
 cases r with
 |error e=>exact cXl j
 |ok S=>
  cases S with
  |next=>exact cXl j
  |brk=>exact cXl j
  |cont=>exact cXl j
  |ret u=>
   obtain⟨v,L,J,rv,rfl,c,i,rfl⟩:=q.after j;have l:a.objs.size+1≠c:=yI yB i;have p:H c=none:=by rw[yJ (cQu l)]at i;exact i
   have m:=aVL J.hok yB;have O:=J.forget (e:=a.objs.size+1) yB;have Q:(λb=>if b=a.objs.size+1 then none else upd (upd (upd H (a.objs.size+1) (qD (a.objs.size+1) C a.objs.size none)) c (.xd [("words",.str t)])) (a.objs.size+1) (qD (a.objs.size+1) C a.objs.size (some c)) b)=upd H c (.xd [("words",.str t)]):=by
    funext b;by_cases o:b=a.objs.size+1
    ·rw[if_pos o,o,yJ l,n]
    ·rw[if_neg o,yJ o];by_cases B:b=c
     ·rw[B,yB,yB]
     ·rw[yJ B,yJ B,yJ o]
   rw[Q]at O;refine⟨rv,bYN (cZ9 (bYQ ⟨a.objs.size+1,a.objs.size,some c,C,rfl,J.kIn,G.cl,m,?_⟩))⟩;refine bKC (tb:=none) O ⟨⟨_,_,m,rfl,rfl,rfl,rfl⟩,λT z=>by cases z⟩ (by rw[yJ l];exact n) (cQo I.sz (cXT _)) (λT z=>by cases z) (h c p)
end
end L2
namespace L2
open PySem PySem.Spec PyProof.Rows
theorem bVr{X:Cx}{A:cQv}{a:Bool}{pn:List (Nat×Obj)}{xe:bYM->bYP->Prop}(o:X.Ok)(b:A.frames=X.A.frames)(c:a=true->A.handled=none):Cx.Ok {X with A:=A,calm:=a,pn:=pn,xe:=xe}:=
 ⟨o.mod,o.kind,o.glob,o.blt,o.above,o.inj,o.has,o.cab,c,b.trans o.frames,o.stk,o.exf,o.bs,o.bsz,o.noex,o.exfs,o.funs,o.frf⟩
theorem Inv.mark{X:Cx}{A:cQv}{b:Bool}{pn pins a:List (Nat×Obj)}{xe:bYM->bYP->Prop}{σ:St}{H:Hp}{s:bYP}(I:Inv X pins σ H s)(d:A.frames=X.A.frames)(e:b=true->A.handled=none) (c:∀p∈pn++a,p∈X.pn++pins):Inv {X with A:=A,calm:=b,pn:=pn,xe:=xe} a σ H s:=
 ⟨bVr I.ok d e,I.os,I.bare,I.base,I.loc,I.cell,I.free,I.freeC,λp h=>I.pin p (c p h),I.hok,I.len⟩
theorem bVj{X:Cx}{pn:List (Nat×Obj)}{xe:bYM->bYP->Prop}(o:Cx.Ok {X with A:=X.A,calm:=X.calm,pn:=pn,xe:=xe}):X.Ok:=
 ⟨o.mod,o.kind,o.glob,o.blt,o.above,o.inj,o.has,o.cab,o.hd,o.frames,o.stk,o.exf,o.bs,o.bsz,o.noex,o.exfs,o.funs,o.frf⟩
theorem Inv.names{X:Cx}{pins:List (Nat×Obj)}{σ:St}{H:Hp}{s:bYP}{h':Heap}{h:Str->Option bYM}{t':Nat}(I:Inv X pins σ H s)(A:h'.Ns X.env.locals h)(d:cXP X.env.locals s.heap h'): Inv X pins (cQC X.N.length none) H {s with heap:=h',toks:=t'}:=by
 have a:∀b o,X.s₀.heap.get? b=some o->b≠X.env.locals:=λb o q=>cQd (cQf (bY0 q) I.ok.above);refine⟨I.ok,I.os,I.bare,⟨λb o q n f e=>(d.2 b (a b o q)).trans (I.base.keep b o q n f e),λb o q n f e=>?_,I.base.free,λb o q e=>?_,I.base.tups,I.base.frzs,I.base.tbls⟩,⟨h,A,λi x v _ g _=>?_⟩,λx c q=>?_,I.free,I.freeC,λp w=>?_,λb u q=>?_,by simp⟩
 ·obtain⟨l,z⟩:=I.base.slot b o q n f e;exact⟨l,(d.2 b (a b o q)).trans z⟩
 ·obtain⟨y,z⟩:=I.base.there b o q e;exact⟨y,(d.2 b (a b o q)).trans z⟩
 ·rw[List.getElem?_replicate]at g;split at g<;> cases g
 ·obtain⟨v,z⟩:=I.cell x c q;exact⟨v,z.sameBut d (I.cne x c q)⟩
 ·obtain⟨t,B,j,k,m⟩:=I.pin p w;exact⟨(d.2 p.1 j).trans t,B,j,k,m⟩
 ·refine(I.hok b u q).stay (λc v C r=>(d.2 c ?_).trans r) (λ_ r=>r) λ_ _ r=>r;rintro rfl;rcases C with z|z
  ·rw[<- z,I.free]at q;cases q
  ·rw[I.free]at z;cases z
def bKP(K:bYO)(Rf:Nat)(Q:VK):XK:=λcls b a=>∃ (C d:Nat)(t:Str),cls= .ref C/\b=some d/\uA K C/\cZ4 K C (.ref Rf)=some true/\a d=some (.xd [("words",.str t)])/\Q (.str t) a
section
variable {X:Cx}{pins:List (Nat×Obj)}{σ:St}{H:Hp}{s:bYP}
theorem Inv.recs{h':Heap}{ch:List Nat}(I:Inv X pins σ H s)(j:∀b∈ch,s.heap.objs.size<=b\/(X.s₀.heap.objs.size<=b/\b≠X.env.locals/\(∀x c,X.env.cells.lookup x=some c->c≠b)/\∀p∈X.pn++pins,p.1≠b))(m:∀b∈ch,H b=none) (keep:∀b o,b∉frs X.stack->b∉ch->s.heap.get? b=some o->h'.get? b=some o) (a:∀b o,b∉ch->s.heap.get? b=some o->∃k,h'.get? b=some {o with slots:=k}):Inv X pins σ H {s with heap:=h'}:=by
 have i:HOk X.prog X.w H h':=λb u q=>(I.hok b u q).stay (λc v t r=>by
  have f:H c≠none:=by
   rcases t with z|z
   ·rw[z,q];simp
   ·rw[z];simp
  exact keep c v (λz=>f (I.stkFree c z)) (λz=>f (m c z)) r) (λ_ r=>r) λ_ _ r=>r
 refine I.call (g':=s.gens) (t':=s.toks) (d':=s.drawn) (ch:=ch) ⟨λb o q _ h d=>keep b o h d q,λb o q _ _ d=>a b o d q,λ_ _ _ n _=>n,λb o q d=>?_,λ_ _ q=>q,λ_ _ _ q=>q,λ_ y q=>⟨#[],by rw[q];simp⟩⟩ i I.bare λb h=>?_
 ·obtain⟨k,z⟩:=a b o d q;exact⟨_,z⟩
 ·rcases j b h with z|⟨z1,z2,z3,z4⟩
  ·refine⟨.inr (cQo I.sz z),λe=>?_,λx c q e=>?_,λp l e=>?_⟩
   ·rw[e]at z;exact absurd (cQf I.lt z) (cQ0 _)
   ·obtain⟨v,o,g,_⟩:=I.cell x c q;rw[e]at g;exact absurd (cQf (bY0 g) z) (cQ0 _)
   ·have g:=(I.pin p l).1;rw[e]at g;exact absurd (cQf (bY0 g) z) (cQ0 _)
  ·exact⟨.inr z1,z2,z3,z4⟩
theorem bW8{body:List Stmt}{tb:XK->TS}{U n:Str}{i:Nat}{Rf:Nat}{cp p1 p2 p3 G tp:Pos}(hN:X.N.Nodup)(hi:X.N[i]? =some n)(hl:X.env.scope.names.lookup n=some .local)(hg:Gl X U)(hm:X.mg U=some (.ref Rf))(cr:uA X.K Rf) (a2:X.stack=X.env::X.outer) (b7:X.env.frame=some X.env.locals) (d1:X.calm=true) (c6:(n==("__debug__":Str))=false) (c7:(U==("__debug__":Str))=false) (c9:(n==("__classdict__":Str))=false) (hA:∀e,(X.A.mark (some (.ref e))).frames=X.A.frames) (j:∀ (pn:List (Nat×Obj))(xe:bYM->bYP->Prop)(E:XK),vT (CXR X.prog X.w) {X with A:=X.A,calm:=X.calm,pn:=pn,xe:=xe} E->PSs {X with A:=X.A,calm:=X.calm,pn:=pn,xe:=xe} body (tb E)): PS X (.Try body [.ExceptHandler (some (.Name U cp)) (some n) [.Return (some (.Attribute (.Name n p1) "words" p2)) p3] G] [] [] tp) (λD σ H=>tb (bKP X.K Rf D.rt) D σ H):=by
 intro pins s σ H D I h;refine wpAny_Try_except ?_;have l:X.calm=true->X.A.handled=none:=I.ok.hd;have go:∀ (a0:List (Nat×Obj))(B:St)(M:Hp)(Z:bYP)(g:bYM)(k:bYP),Inv X pins B M Z->CXR X.prog X.w X.stack M Z (bKP X.K Rf D.rt) g k->
   bYU (bYV X.prog X.w) X.A (cJh g X.env) (λ_ R=>bYU (bYV X.prog X.w) X.A (cZW g none) (λ_ S=>bYU (bYV X.prog X.w) X.A (handleBy g X.env [.ExceptHandler (some (.Name U cp)) (some n) [.Return (some (.Attribute (.Name n p1) "words" p2)) p3] G]) (SP X pins D) X.xe S) X.xe R) X.xe k:=by
  intro _ B M Z g k J1 hx
  obtain⟨e,C',dx,b1,H',rfl,os,a4,un,b4,x,he,ht,a1,a3,hE⟩:=hx
  obtain⟨C,d,t,ec,ed,cC,hs,hd,hq⟩:=hE
  have eC:C'=C:=by cases ec;rfl
  subst eC
  have eD:dx=d:=by cases ed;rfl
  subst eD
  have Y:Inv X pins B H' k:=J1.call' os un b4 a4 λb z=>absurd z (by simp)
  have big:∀b,Z.heap.objs.size<=b->X.s₀.heap.objs.size<=b/\b≠X.env.locals/\(∀x c,X.env.cells.lookup x=some c->c≠b)/\∀p∈X.pn++pins,p.1≠b:=λb z=>by
   refine⟨cQo J1.sz z,λe=>?_,λx c q e=>?_,λp G e=>?_⟩
   ·rw[e]at z;exact absurd (cQf J1.lt z) (cQ0 _)
   ·obtain⟨v,o,O,_⟩:=J1.cell x c q;rw[e]at O;exact absurd (cQf (bY0 O) z) (cQ0 _)
   ·have O:=(J1.pin p G).1;rw[e]at O;exact absurd (cQf (bY0 O) z) (cQ0 _)
  refine aVV (base:=X.base) (outer:=X.outer) (L:=X.env.locals) (a2 ▸ Y.ok.frames) (a2 ▸ Y.stack) b7 x λh3 T y nT p=>?_
  have b0:frs X.stack=(X.env::X.outer).filterMap (·.frame):=by rw[a2];rfl
  have J3:Inv X pins B H' {k with heap:=h3}:=Y.recs (ch:= [e,b1]) (λb j=>by
    rcases bYX.mp j with rfl|j
    ·exact .inr (big _ a1)
    ·rw[bY1.mp j];exact .inr (big _ a3)) (λb j=>by
    rcases bYX.mp j with rfl|j
    ·exact he
    ·rw[bY1.mp j];exact ht)
   (λb o j W q=>p.keep b o (λz=>W (by simp[z])) (λz=>W (by cases z;simp)) (b0 ▸ j) q)
   (λb o W q=>p.slot b o (λz=>W (by simp[z])) (λz=>W (by cases z;simp)) q)
  have b9:H' T=none:=Y.hok.fresh nT
  have P:X.s₀.heap.objs.size<=T/\T≠X.env.locals/\(∀x c,X.env.cells.lookup x=some c->c≠T)/\∀p∈X.pn++pins,p.1≠T:=by
   refine⟨cQo Y.sz nT,λe=>?_,λx c q e=>?_,λp G e=>?_⟩
   ·rw[e]at nT;exact absurd (cQf Y.lt nT) (cQ0 _)
   ·obtain⟨v,o,O,_⟩:=Y.cell x c q;rw[e]at O;exact absurd (cQf (bY0 O) nT) (cQ0 _)
   ·have O:=(Y.pin p G).1;rw[e]at O;exact absurd (cQf (bY0 O) nT) (cQ0 _)
  have mk:∀ {σ:St} {H:Hp} {s:bYP},Inv X pins σ H s->Inv {X with A:=X.A.mark (some (.ref e)),calm:=false,pn:=X.pn,xe:=λ_ _=>True} pins σ H s:=λJ=>J.mark (hA e) (λz=>by cases z) λp G=>G
  have un:∀ {σ:St} {H:Hp} {s:bYP},Inv {X with A:=X.A.mark (some (.ref e)),calm:=false,pn:=X.pn,xe:=λ_ _=>True} pins σ H s->Inv X pins σ H s:=λ{σ H s} J=>Inv.mark (X:={X with A:=X.A.mark (some (.ref e)),calm:=false,pn:=X.pn,xe:=λ_ _=>True}) J (hA e).symm l λp G=>G
  refine wpAny_handleBy_cons (codeAny_handlers_test ?_) (by intro q;cases q)
  refine uY (X:={X with A:=X.A.mark (some (.ref e)),calm:=false,pn:=X.pn,xe:=λ_ _=>True}) (mk J3) hg hm ?_ c7
  obtain⟨oe,vs,g1,g2,g3,g4,g5⟩:=y.obj
  refine aK9 J3.kIn cC cr hs g1 g2 ?_
  refine codeAny_handlers_suite_as ?_
  refine bXB (s:={k with heap:=h3}) y λh4 y4 k4 t4=>?_
  have J4:Inv X pins B H' {k with heap:=h4}:=Inv.recs (s:={k with heap:=h3}) (h':=h4) (ch:= [T]) J3 (λb j=>by rw[bY1.mp j];exact .inr P) (λb j=>by rw[bY1.mp j];exact b9)
   (λb o _ W q=>k4 b o (λz=>W (by simp[z])) q) (λb o W q=>⟨o.slots,k4 b o (λz=>W (by simp[z])) q⟩)
  refine aXb (X:={X with A:=X.A.mark (some (.ref e)),calm:=false,pn:=X.pn,xe:=λ_ _=>True}) (v:= .ref e) (u:= .ref e) (mk J4) hN hi (.inl hl) rfl (λs5 J5 ⟨a,sb,ha⟩=>?_) (.inr hl)
  have a5:e≠a/\T≠a:=by
   rcases ha with z|z
   ·rw[z];exact⟨(big _ a1).2.1,P.2.1⟩
   ·exact⟨λq=>(big _ a1).2.2.1 n a z q.symm,λq=>P.2.2.1 n a z q.symm⟩
  have y5:X1 s5.heap e (.ref C') (some dx) (some T):=y4.keeps λb o j q=>(sb.2 b (by
   rcases j with rfl|j
   ·exact a5.1
   ·cases j;exact a5.2)).trans q
  obtain⟨b8,d0,f1,f2,f3,f4,f5⟩:=y5.obj
  obtain⟨mA,b3,a6⟩:=J5.hok dx _ hd
  obtain⟨od,c8,c5⟩:=aZ4 b3
  obtain⟨u,hu,ru⟩:=aZz.some_of (v:=V.str t) (o:=mA "words") (a6 "words")
  obtain⟨m5,b2,a9⟩:=J5.loc
  obtain⟨u5,r5,l5⟩:=a9 i n (.ref e) hi (cX6 (by rw[J4.len];exact(bYY.mp hi).1)) (.inl hl)
  obtain rfl:u5=Value.ref e:=r5
  have c0:m5 n=some (.ref e):=by
   rcases l5 with⟨_,z⟩|⟨z,_⟩
   ·exact z
   ·rw[show X.env.kindOf n=some .local from hl]at z;rcases z with z|z<;> cases z
  refine wpAny_execs_cons (wpAny_Return_some (aKO rfl ?_))
  refine wpAny_Name (wpAny_loadName_local J5.ok.kind hl b2 c0 ?_) c6
  refine bJV J5.kIn cC f1 f2 f3 (by obtain⟨c1,c2,c3,c4⟩:=b8;cases f4;rfl) c8 (by rw[c5,hu]) (aZR ru) ?_
  have J6:=(un J5).tok (s5.toks+1)
  obtain⟨m6,b6,_⟩:=J6.loc
  refine wpAny_nameGoes hl b6 (by rw[J6.ok.kind];rfl) λh7 m7 a7 b5=>?_
  exact⟨.str t,_,H',J6.names (t':=s5.toks+1+1) a7 b5,ru,hq⟩
 have a8:vT (CXR X.prog X.w) {X with A:=X.A,calm:=X.calm,pn:=X.pn++pins,xe:=λg k=>bYU (bYV X.prog X.w) X.A (cJh g X.env) (λ_ R=>bYU (bYV X.prog X.w) X.A (cZW g none) (λ_ S=>bYU (bYV X.prog X.w) X.A (handleBy g X.env [.ExceptHandler (some (.Name U cp)) (some n) [.Return (some (.Attribute (.Name n p1) "words" p2)) p3] G]) (SP X pins D) X.xe S) X.xe R) X.xe k} (bKP X.K Rf D.rt):=
  λa0 B M Z g k J hx=>go [] B M Z g k (Inv.mark (X:={X with A:=X.A,calm:=X.calm,pn:=X.pn++pins,xe:=λg k=>bYU (bYV X.prog X.w) X.A (cJh g X.env) (λ_ R=>bYU (bYV X.prog X.w) X.A (cZW g none) (λ_ S=>bYU (bYV X.prog X.w) X.A (handleBy g X.env [.ExceptHandler (some (.Name U cp)) (some n) [.Return (some (.Attribute (.Name n p1) "words" p2)) p3] G]) (SP X pins D) X.xe S) X.xe R) X.xe k}) J rfl l λp Q=>cXV _ Q) hx
 have I':Inv {X with A:=X.A,calm:=X.calm,pn:=X.pn++pins,xe:=λg k=>bYU (bYV X.prog X.w) X.A (cJh g X.env) (λ_ R=>bYU (bYV X.prog X.w) X.A (cZW g none) (λ_ S=>bYU (bYV X.prog X.w) X.A (handleBy g X.env [.ExceptHandler (some (.Name U cp)) (some n) [.Return (some (.Attribute (.Name n p1) "words" p2)) p3] G]) (SP X pins D) X.xe S) X.xe R) X.xe k} [] σ H s:=
  I.mark rfl l λp Q=>by simpa using Q
 have F:∀ {σ:St} {H:Hp} {s:bYP},Inv {X with A:=X.A,calm:=X.calm,pn:=X.pn++pins,xe:=λg k=>bYU (bYV X.prog X.w) X.A (cJh g X.env) (λ_ R=>bYU (bYV X.prog X.w) X.A (cZW g none) (λ_ S=>bYU (bYV X.prog X.w) X.A (handleBy g X.env [.ExceptHandler (some (.Name U cp)) (some n) [.Return (some (.Attribute (.Name n p1) "words" p2)) p3] G]) (SP X pins D) X.xe S) X.xe R) X.xe k} [] σ H s->Inv X pins σ H s:=
  λ{σ H s} J=>⟨bVj J.ok,J.os,J.bare,J.base,J.loc,J.cell,J.free,J.freeC,λp Q=>J.pin p (by simpa using Q),J.hok,J.len⟩
 refine cQQ (j _ _ _ a8 [] s σ H D I' h) (λf Z q=>?_) λ_ _ q=>q;cases f with
 |next=>obtain⟨m,M,J,q⟩:=q;exact yT pins Z m M D (F J) q
 |ret v=>obtain⟨u,m,M,J,r,q⟩:=q;exact⟨u,m,M,F J,r,q⟩
 |brk=>obtain⟨m,M,J,q⟩:=q;exact⟨m,M,F J,q⟩
 |cont=>obtain⟨m,M,J,q⟩:=q;exact⟨m,M,F J,q⟩
end
end L2
namespace L2
open PySem PySem.Spec PyProof.Rows
theorem aYm{P:bY8}{w:cQg}{K:bYO}{mg mb:Str->Option bYM}{CX:CXT}{k:Nat}{fa a c T:Nat}{fd:cXL}{x:Str}{sp:Sp}{f:bYP}{vs:List bYM}{U:List Int} (KX:K.In f.heap) (G:f.heap.Ns cQm mg) (p:f.heap.Ns builtinsNs mb) (a2:∀x:Str,x≠"__name__"->mb x=cQw x) (N:f.heap.NoLimit) (hg:f.gens= #[]) (L:f.heap.get? a=some {cls:= .type "list",data:= .seq vs.toArray}) (hi:cZn vs U) (hl:U.length<=cQb) (hr:vZ k callerA) (hC:cXR f.heap c T) (M:f.heap.get? T=some (cZo #[])) (a8:K.lookup T=none) (a5:∃O B,mg "__builtins__"=some (.ref O)/\O≠builtinsNs/\f.heap.get? O=some B/\B.cls= .type "module"/\B.dict=some builtinsNs/\B.data= .plain) (F:∀base:Heap,K.In base->base.Ns cQm mg->cXR base c T->base.BuiltinsAt mg T->xH P w K mg base CX k fa fd [x] sp) (E:∀ (s:bYP)(u:bYM),BindsTo s fd ⟨[u],[]⟩ [(x,u)]) (a9:∀H:Hp,H T=some (.tbl #[])->SqL K H a (U.map V.int)->sp [.ref a] H (λv _=>v= .bl true) λ_ _ _=>False) (a4:∀H e j,CX [] H f (λ_ _ _=>False) e j->False): cX1 (bYV P w) callerA (.call (.ref fa) ⟨[.ref a],[]⟩) (λr j=>r= .ok (.ret (.bool true))/\OldK f.heap j.heap/\j.os=f.os/\AllBare j.gens) f:=by
 have rv:=jF hi;have X:=hi.length;have a1:a≠T:=λz=>by rw[z,M]at L;cases L
 have C:∀H:Hp,H T=some (.tbl #[])->SqL K H a (U.map V.int)->HOk P w H f.heap->(∀b,H b≠none->b=T\/(b=a/\∃o xs,H b=some (.frz o (.lst xs))))->(H a≠none->K.lookup a=none)->
   cX1 (bYV P w) callerA (.call (.ref fa) ⟨[.ref a],[]⟩) (λr j=>r= .ok (.ret (.bool true))/\OldK f.heap j.heap/\j.os=f.os/\AllBare j.gens) f:=by
  intro H hH hS S hA hK
  have i:∀ {b:Nat} {o:Obj},f.heap.get? b=some o->H b=none->(aYd f.heap H).get? b=some o:=λe n=>bXu e n
  have l:∀ {b:Nat} {o:Obj},f.heap.get? b=some o->(∀ps,o≠cZo ps)->(∀A,o≠ {cls:= .type "list",data:= .seq A})->H b=none:=λ{b o} e n1 n2=>by
   cases q:H b with
   |none=>rfl
   |some u=>
    rcases hA b (by rw[q];simp)with z|⟨z,_⟩
    ·rw[z,M]at e;cases e;exact absurd rfl (n1 _)
    ·rw[z,L]at e;cases e;exact absurd rfl (n2 _)
  have y:∀ {b:Nat} {m:Str->Option bYM},f.heap.Ns b m->(aYd f.heap H).Ns b m:=λ{b m} ⟨o,es,ep,e,d,r⟩=>⟨o,es,ep,i e (l e (λps z=>by rw[z]at d;cases d) (λA z=>by rw[z]at d;cases d)),d,r⟩
  have Z:K.In (aYd f.heap H):=λb o e=>i (KX b o e) (by
   cases q:H b with
   |none=>rfl
   |some u=>
    rcases hA b (by rw[q];simp)with z|⟨z,_⟩
    ·rw[z,a8]at e;cases e
    ·subst z;rw[hK (by rw[q];simp)]at e;cases e)
  have hM:Mod K mg (aYd f.heap H):=⟨Z,y G,⟨mb,y p,a2⟩,let ⟨mc,h1,h2⟩:=N;⟨mc,y h1,h2⟩⟩
  have e0:bJH P w K mg (aYd f.heap H) callerA [] f H:=⟨rfl,hM,λb o e=>bVh e,cZt (aYe _ _),trivial,λb p=>absurd (show b∈([]:List Nat)from p) (by simp),S,.of_eq hg⟩
  have a6:cXR (aYd f.heap H) c T:=by
   obtain⟨o,vs,file,tf,I,tg,a7,text,tt,e,R,r⟩:=hC;exact⟨o,vs,file,tf,I,tg,a7,text,tt,i e (l e (λps z=>by rw[z]at R;cases R) (λA z=>by
    rw[z]at R;have c':Value.type "list"=Value.type "code":=R;injection c' with c''
    exact absurd c'' (by decide))),R,r⟩
  have a3:(aYd f.heap H).BuiltinsAt mg T:=by
   obtain⟨O,B,b1,b2,J,b4,b5,b6⟩:=a5;refine⟨O,B,b1,b2,λz=>?_,λz=>?_,i J (l J (λps z=>by rw[z]at b4;cases b4) (λA z=>by rw[z]at b6;cases b6)),b4,b5,b6⟩
   ·obtain⟨o,es,ep,e,d,_⟩:=G;rw[z,e]at J;cases J;rw[d]at b6;cases b6
   ·rw[z,M]at J;cases J;cases b4
  refine cXH ((F _ Z (y G) a6 a3).run callerA [] f H ⟨[.ref a],[]⟩ [.ref a] [.ref a] _ _ hr e0 (E f (.ref a)) (.cons rfl .nil) (a9 H hH hS)) λr j h=>?_
  cases r with
  |error e=>exact(a4 H e j h).elim
  |ok fl=>
   cases fl with
   |next=>exact cXl h
   |brk=>exact cXl h
   |cont=>exact cXl h
   |ret u=>
    obtain⟨v,H',os,Q,un,D,r',q⟩:=h;have q':v= .bl true:=q;subst q';obtain rfl:u=Value.bool true:=r';obtain⟨more,hm⟩:=un.tbls T _ hH;have Y:j.heap.get? T=some (cZo (#[]++more)):=D T _ hm;have get:∀b o,b≠T->f.heap.get? b=some o->j.heap.get? b=some o:=λb o g e=>by
     cases q:H b with
     |none=>exact un.keep b o e q (by intro z;exact absurd (show b∈([]:List Nat)from z) (by simp)) (by simp)
     |some u=>
      rcases hA b (by rw[q];simp)with z|⟨_,B,xs,z⟩
      ·exact absurd z g
      ·have z2:=un.frzs b B _ z;obtain⟨e1,_⟩:=S b _ z;obtain⟨e2,_⟩:=D b _ z2;rw[e]at e1;cases e1;exact e2
    refine⟨rfl,⟨λb o e=>?_,λb o e=>?_⟩,os,Q⟩
    ·by_cases g:b=T
     ·subst g;rw[M]at e;cases e;exact .inr (.inl ⟨(hC.tab M).isCodeTable,rfl, #[],more,rfl,Y⟩)
     ·exact .inl (get b o g e)
    ·by_cases g:b=T
     ·exact⟨_,by rw[g];exact Y⟩
     ·exact⟨o,get b o g e⟩
 have a0:∀H:Hp,zG P w H f.heap T (.tbl #[]):=λH=>M;cases hk:K.lookup a with
 |some o=>
  have e:=KX a o hk;rw[L]at e;cases e;refine C (λb=>if b=T then some (.tbl #[])else none) (if_pos rfl) (.inr ⟨_,vs.toArray,_,hk,rfl,rfl,rfl,by rw[bY3,X];exact hl,by simpa using rv⟩) (λb u z=>?_) (λb z=>?_) λz=>absurd (if_neg a1) z
  ·by_cases g:b=T
   ·have t:=(if_pos g).symm.trans z;cases t;subst g;exact a0 _
   ·have t:=(if_neg g).symm.trans z;cases t
  ·by_cases g:b=T
   ·exact .inl g
   ·exact absurd (if_neg g) z
 |none=>
  refine C (λb=>if b=T then some (.tbl #[])else if b=a then some (.frz {cls:= .type "list",data:= .seq vs.toArray} (.lst (U.map V.int)))else none) (if_pos rfl)
   (.inl (.inr ⟨{cls:= .type "list",data:= .seq vs.toArray},by show(if a=T then _ else _)=_;rw[if_neg a1,if_pos rfl]⟩)) (λb u z=>?_) (λb z=>?_) λ_=>hk
  ·by_cases g:b=T
   ·have t:=(if_pos g).symm.trans z;cases t;subst g;exact a0 _
   ·have z1:=(if_neg g).symm.trans z;by_cases p:b=a
    ·have t:=(if_pos p).symm.trans z1;cases t;subst p;exact⟨L,by rw[bYR];exact hl,vs,_,rv,L⟩
    ·have t:=(if_neg p).symm.trans z1;cases t
  ·by_cases g:b=T
   ·exact .inl g
   ·by_cases p:b=a
    ·exact .inr ⟨p,_,_,by show(if b=T then _ else _)=_;rw[if_neg g,if_pos p]⟩
    ·exact absurd (by show(if b=T then _ else _)=_;rw[if_neg g,if_neg p]) z
theorem bZ8{l:PySem.W.OpenLaw}{n k:Nat}{q:bY8}{loose:List Str}{P:(Str->Option bYM)->Heap->Prop}{B:cQg->Heap->Prop}{d:DefRec}{K:Params->bYO}{CX:CXT}{sp:Nat->bYO->Sp}{x:Str}{T:Nat} (hn:l.most=some n) (D:n<=cQb) (C:d.params.defaults= []) (Q:vZ k callerA) (hY:∀ (w:cQg)(h:Heap),B w h->(K w.params).In h) (y:∀ (w:cQg)(h:Heap),B w h->h.get? T=some (cZo #[])) (F:∀ (w:cQg)(mg:Str->Option bYM)(r:Nat)(h:Heap),(K w.params).In h->h.Ns cQm mg->mg d.name=some (.ref r)-> ∃ (z:cXL)(c:Nat),cJv (K w.params) c T=true/\(K w.params).lookup T=none/\(∀ (s:bYP)(u:bYM),BindsTo s z ⟨[u],[]⟩ [(x,u)])/\ ∀base:Heap,(K w.params).In base->base.Ns cQm mg->cXR base c T->base.BuiltinsAt mg T->xH l.prog w (K w.params) mg base CX k r z [x] (sp T (K w.params))) (M:∀ (K:bYO)(H:Hp)(a:Nat)(t:List Int),t.length<=n->H T=some (.tbl #[])->SqL K H a (t.map V.int)->sp T K [.ref a] H (λv _=>v= .bl true) λ_ _ _=>False) (J:∀ (H:Hp)(s:bYP)(e:bYM)(L:bYP),CX [] H s (λ_ _ _=>False) e L->False): PySem.W.WalkO q loose P B l.row.toRowW d [] (λf N=>PySem.call f N):=by
 refine Att.aJG hn C λw s₀ m mg mb r o pm cd a0 a N t G Y ho hd S A p j i R=>?_;have I:=hY w _ Y;obtain⟨z,c,Z,E,X,U⟩:=F w mg r _ I G.T.g A;exact aYm I G.T.g G.T.b G.T.builtins G.T.nolimit R p j (cQo i D) Q (PySem.W.codeHd_of_K I Z) (y w _ Y) E G.T.bmain U X (λH O hS=>M _ H a t i O hS) λH e L=>J H m e L
end L2
namespace Thr
open PySem L2 PyProof.Rows
open Stree (qO jL wK)
def aZT(x:Str):Stmt->Bool
 |.FunctionDef n _ _ _ _ _ _ _ _ _=>n==x
 |_=>false
def xI(x:Str):Stmt:=(PySem.Challenge.pw_letterdesk_k08_whole_put_right_and_back.main.body.find? (aZT x)).getD (.Pass ⟨0,0,0,0⟩)
abbrev aVo:Stmt:=xI "thread"
abbrev bQp:Stmt:=xI "top_of"
abbrev aVf:Stmt:=xI "answers_to_each"
theorem xD:cQw "len"=some (.builtin "len"):=dk
theorem vF:cQw "sorted"=some (.builtin "sorted"):=dk
theorem yY:cQw "isinstance"=some (.builtin "isinstance"):=dk
theorem uN:cQw "int"=some (.type "int"):=dk
theorem aQn:cQw "str"=some (.type "str"):=dk
theorem wB:cQw "list"=some (.type "list"):=dk
theorem w8:cQw "tuple"=some (.type "tuple"):=dk
structure vP(mg:Str->Option bYM):Prop where
 b_len:mg "len"=none
 b_sorted:mg "sorted"=none
 b_isinstance:mg "isinstance"=none
 b_int:mg "int"=none
 b_str:mg "str"=none
 b_bool:mg "bool"=none
 b_list:mg "list"=none
 b_tuple:mg "tuple"=none
 b_range:mg "range"=none
theorem zO{a H:Hp}{c:Nat}{o:HO}(k:xF a H)(h:a c=none):xF a (upd H c o):=λb u q=>by rw[yJ (yI q h)];exact k b u q
theorem aWQ{K:bYO}{a:Nat}{xs:List V}{G:List Nat}{σ:L2.St}{D:Nat}{Q:VK}{H:Hp}(hl:SqL K H a xs)(w:H D=none)(hz:xs.length<=1000) (F:∀ (d:Hp)(c:List Nat),xF H d->d D=some (.lst (c.map V.ref))->c.length=xs.length->c.Nodup->(∀b∈c,d b=some (.lst [])/\H b=none/\b≠D)->Q (.ref D) d):bWo (Itl K a) G bYo (bYl bZW) σ D Q (upd H D (.lst [])):=by
 refine⟨λi m q d=>m=xs.length - i/\i<=xs.length/\∃c:List Nat,q=c.map V.ref/\c.length=i/\c.Nodup/\xF H d/\d D=some (.lst q)/\∀b∈c,d b=some (.lst [])/\H b=none/\b≠D,
  ⟨xs.length,by simp,cQM _,[],rfl,rfl,.nil,yE w _,yB,λb f=>nomatch f⟩,?_⟩
 rintro i m q d ⟨rfl,J,c,rfl,n,s,j,k,g⟩;refine⟨k,?_⟩;have u:=xF.seq j hl;by_cases o:i<xs.length
 ·refine .inr ⟨⟨xs,xs[i],u,bYL o⟩,λv I E=>?_⟩;obtain⟨rfl,y⟩:=E;refine⟨z0,λp h=>?_⟩;have e:p≠D:=cQu (yI k h);have l:p∉c:=λz=>by rw[(g p z).1]at h;cases h
  refine⟨zlt (by rw[bYR];omega),by rw[yJ (cQu e)];exact k,xs.length - (i+1),by omega,rfl,by omega,c++ [p],by simp,by simp[n],?_,?_,yB,λb f=>?_⟩
  ·rw[cZi];exact⟨s,by simp,λx C y B z=>by rw[bY1.mp B]at z;exact l (z ▸ C)⟩
  ·exact zO (j.trans (yE h _)) w
  ·rcases cQn.mp f with f|f
   ·obtain⟨t,A,r⟩:=g b f;exact⟨by rw[yJ r,yJ (yI t h)];exact t,A,r⟩
   ·rw[bY1.mp f];exact⟨by rw[yJ e];exact yB,j.fresh h,e⟩
 ·refine .inl ⟨⟨xs,u,by omega⟩,F d c j k (by omega) s g⟩
def zL:Option Nat->V
 |none=> .non
 |some j=> .int (j:Nat)
def v1(n:Nat)(L:Nat->Option Nat):List V:=(bYW n).map λi=>zL (L i)
def qT(n:Nat)(D:Nat->Int):List V:=(bYW n).map λi=> .int (D i)
theorem jM{n i:Nat}{L:Nat->Option Nat}(h:i<n):(v1 n L)[i]? =some (zL (L i)):=by unfold v1;rw[bY7,cXO h];rfl
theorem aWE{n i:Nat}{D:Nat->Int}(h:i<n):(qT n D)[i]? =some (.int (D i)):=by unfold qT;rw[bY7,cXO h];rfl
def bKt(K:bYO):Sp:=λc H Q _=>∃ (a:Nat)(n:Nat)(L:Nat->Option Nat)(b:Nat->Nat)(i:Nat),c= [.ref a,.int (i:Nat)]/\SqL K H a (v1 n L)/\Fm.Ok n L b/\i<n/\Q (.int (Fm.tp L b i:Nat)) H
def wJ(T:Nat):Hp->Prop:=X4 ⟨116,48,116,71⟩ "answers_to_each.<locals>.<lambda>" T
structure bYe(n:Nat)(L:Nat->Option Nat)(D:Nat->Int)(kd:Nat->List Nat):Prop where
 mem:∀j i,i∈kd j↔i<n/\L i=some j
 ord:∀j,(kd j).Pairwise λx y=>wK (D y,(y:Int)) (D x,(x:Int))=true
def bWc(T:Nat):Sp:=λk H Q _=>∃ (e f:Nat)(n:Nat)(L:Nat->Option Nat)(h:Nat->Nat)(D:Nat->Int),k= [.ref e,.ref f]/\H e=some (.lst (v1 n L))/\H f=some (.lst (qT n D))/\Fm.Ok n L h/\n<=63/\wJ T H/\
 ∀ (c:Hp)(a:Nat)(d:List Nat)(g:Nat->List Nat),x8 H c->wJ T c->c a=some (.lst (d.map V.ref))->d.length=n->(∀j b,d[j]? =some b->c b=some (.lst ((g j).map λi=>V.int (i:Nat))))->bYe n L D g->Q (.ref a) c
def aWo(T:Nat):Sp:=λg H Q _=>∃ (e f:Nat)(n:Nat)(L:Nat->Option Nat)(c:Nat->Nat)(D:Nat->Int)(i:Nat),g= [.ref e,.ref f,.int (i:Nat)]/\H e=some (.lst (v1 n L))/\H f=some (.lst (qT n D))/\Fm.Ok n L c/\n<=63/\i<n/\wJ T H/\
 ∀ (d:Hp)(r:Nat)(a:List Nat),(∀b u,(∀h,u≠HO.tbl h)->H b=some u->b≠r)->x8 H d->wJ T d->d r=some (.lst (a.map λi=>V.int (i:Nat)))->(a.Pairwise λx y=>jL (Fm.rd L D c x) (Fm.rd L D c y)=true)->(∀k,k∈a↔k<n/\Fm.tp L c k=Fm.tp L c i)->Q (.ref r) d
section
variable {K:bYO}
theorem bZK:yN ["links","number","top"] ["links","number"] (yH bQp):=scM
theorem bX8(T:vP mg)(F:Fun K "top_of" "top_of" bQp f fd):xH P w K mg base CX0 1 f fd ["links","number"] (bKt K):=by
 have u:=bZK;refine F.ok (k:=0) u (λx A outer s y D Q E C h=>?_);obtain⟨a,n,L,b,i,rfl,p,r,B,q⟩:=h;refine⟨_,(yC (yU (i:=2) (pv 1)) (yC (uF cQF (yM z6 (yL yK (pv 0) (pv 2)) x3) (yG (yU (i:=2) (yL yK (pv 0) (pv 2))))) (yG (yQ (pv 2))))),?_⟩;refine⟨_,rfl,?_⟩;refine⟨λm σ H=>∃t:Nat,σ= [some (.ref a),some (.int (i:Nat)),some (.int (t:Nat))]/\H=y/\t<n/\Fm.tp L b t=Fm.tp L b i/\m=b t,⟨b i,i,rfl,rfl,B,rfl,rfl⟩,?_⟩;rintro m σ H ⟨t,rfl,rfl,e,c,rfl⟩;refine⟨_,rfl,_,rfl,a,_,_,_,rfl,rfl,p,yR (jM e),rfl,_,rfl,?_⟩;cases hl:L t with
 |none=>refine onF rfl ⟨_,rfl,?_⟩;rw[Fm.zT hl]at c;rw[c];exact q
 |some j=>obtain⟨v,g⟩:=r.lt t j e hl;refine onT rfl ⟨λd l=>∃o,o<b t/\∃t:Nat,d= [some (.ref a),some (.int (i:Nat)),some (.int (t:Nat))]/\l=H/\t<n/\Fm.tp L b t=Fm.tp L b i/\o=b t,λd l z=>z,?_⟩;refine⟨_,rfl,_,rfl,a,_,_,_,rfl,rfl,p,yR (jM e),?_⟩;rw[hl];exact⟨b j,g,j,rfl,rfl,v,by rw[<- c,Fm.vO r e hl],rfl⟩
theorem bKh:yN ["links","dates","answers","letter"] ["links","dates"] (yH aVf):=scM
theorem bWQ:xQ ["links","dates","answers","letter"] (yH aVf) "link" [] [] {kind:= .function,names:= [(".0",.local),("link",.local)],isGenerator:=false,isCoroutine:=false,more:= [] }:=
 lcM
theorem bJ8:xQ ["links","dates","answers","letter"] (yH aVf) "n" ["dates"] [1] {kind:= .function,names:= [("n",.local),("dates",.free)],isGenerator:=false,isCoroutine:=false,more:= [] }:=
 lcM
theorem bWV{oc:bYM}{od an:Option Nat}{b0:Array (Option bYM)}{kV Z pm ct:bYM}(T:vP mg)(C:cXR base c Tb)(hB:base.BuiltinsAt mg Tb) (lk:K.lookup f=some ⟨oc,od,.func (cXa "answers_to_each" "answers_to_each" (wC aVf) (zJ aVf) (yH aVf) .none kV Z pm an (.ref c) ct),b0⟩) (a9:cXz K (.ref c) "answers_to_each"=true): xH P w K mg base CX0 2 f (cXa "answers_to_each" "answers_to_each" (wC aVf) (zJ aVf) (yH aVf) .none kV Z pm an (.ref c) ct) ["links","dates"] (bWc Tb):=by
 have sc:=bKh;refine bJZ (k:=1) lk a9 sc (λvs H Q E h=>by obtain⟨N,da,n,L,rk,D,rfl,_⟩:=h;rfl) λA outer s H0 vs Q E hr h=>?_;suffices S:∃t,PSs (aXR CX0 P w K mg base ["links","dates","answers","letter"] "answers_to_each" (yH aVf) f (.ref c) A outer s H0 E).nox (zJ aVf) t/\t {nx:=λ_ H'=>Q .non H',rt:=Q} (start ["links","dates","answers","letter"] vs) H0 by obtain⟨t,m,B⟩:=S;exact⟨t,m.nox,B⟩
 obtain⟨N,da,n,L,rk,D,rfl,u,b2,ho,hn,hT,q⟩:=h;refine⟨_,(yC (aXr (i:=2) bWQ rfl sc.nd rfl rfl (xR (pv 0)) (λ_ _ _ _ _=>vB) (λ_ _ _ _ _=>(yZ yD))) (yC (wL cQF rfl (xR (aKg (qual:="answers_to_each.<locals>.<lambda>") rfl T.b_sorted rfl T.b_range (yS yO rfl T.b_len xD (yA (pv 0) yD)) bJ8 rfl rfl rfl C hB hr rfl rfl (λ_ _ _ _ _=>rfl) (λ_ _ _ _ _ _ _=>y8 (yA (yL (show IxR _ (aXG K)from yK) (pv 1) (pv 0)) (yA (pv 0) yD))))) (xE (i:=3)) (yG (y6 (yM z6 (yL yK (pv 0) (pv 3)) x3) (yG (y0 (v6 cQj cQr cQs xL (yL yK (pv 2) (yL yK (pv 0) (pv 3))) (yA (pv 3) yD)))) yT))) (yG (yQ (pv 2))))),?_⟩;have G:(v1 n L).length=n:=by simp[v1]
 refine⟨_,rfl,N,rfl,⟨_,SqL.of u⟩,λa ha=>aWQ (SqL.of u) ha (by omega) λH1 g Y hD a5 nd y=>?_⟩;rw[G]at a5;dsimp only[yX];have a6:=Y _ _ u;have a7:=Y _ _ b2;have b5:wJ Tb H1:=by
  rcases hT with t|⟨c',t1,t2⟩
  ·exact .inl (Y _ _ t)
  ·exact .inr ⟨c',Y _ _ t1,Y _ _ t2⟩
 refine⟨_,rfl,N,_,rfl,.inl (SqL.of a6),?_⟩;rw[G];refine⟨n,rfl,by omega,b5,λi=>(D i,(i:Int)),λi j _ _ z=>?_,λi H3 M k3 t3 R hR=>?_,λH5 l d k5 t5 nl O a8 h5=>⟨l,rfl,⟨_,SqL.of h5⟩,?_⟩⟩
 ·have:=congrArg Prod.snd z;simp only at this;omega
 ·refine⟨_,rfl,_,rfl,da,_,_,_,rfl,rfl,SqL.of (k3.lst a7),yR (aWE M),_,rfl,z2,λp hp=>hR p _ (yE hp _).t ?_ yB⟩;rcases t3 with t|⟨_,t,_⟩
  ·rw[yJ (yI t hp)]
  ·rw[yJ (yI t hp)]
 ·have hm:∀i∈d,i<n:=λi M=>cQi.mp (O.mem_iff.mp M);have kk:x8 H0 H5:=Y.t.trans k5;have nr:∀b o,H0 b=some o->b∉g:=λb o e z=>by rw[(y b z).2.1]at e;cases e
  have r5:∀b∈g,H5 b=some (.lst []):=λb v=>k5.lst (y b v).1;have nT:Tb∉g:=λz=>by
   have e:=r5 _ z;rcases t5 with t|⟨_,t,_⟩
   ·rw[t]at e;cases e
   ·rw[t]at e;cases e
  have b4:l∉g:=λz=>by rw[(y l z).1]at nl;cases nl
  have a3:a∉g:=λz=>(y a z).2.2 rfl;have a2:H5 a=some (.lst (g.map V.ref)):=k5.lst hD;refine zX (xs:=d.map λi=>V.int (i:Nat)) (λt σ H=>∃lt,σ= [some (.ref N),some (.ref da),some (.ref a),lt]/\(∀b o,H5 b=some o->b∉g->H b=some o)/\
   ∀j b,g[j]? =some b->H b=some (.lst (((d.take t).filter λi=>decide (L i=some j)).map λi=>V.int (i:Nat)))) ?_ ?_ ?_ ?_
  ·exact⟨none,rfl,λb o e _=>e,λj b v=>r5 b (bY5 v)⟩
  ·rintro t σ H ht ⟨lt,rfl,m,B⟩;exact SqL.of (m _ _ h5 b4)
  ·rintro t x σ H S ⟨lt,rfl,m,B⟩;rw[bY7]at S;cases he:d[t]? with
   |none=>rw[he]at S;cases S
   |some i=>
    rw[he]at S;cases S;have M:=hm i (bY5 he);have a0:d.take (t+1)=d.take t++ [i]:=by rw[cQX,he];rfl
    have I:H N=some (.lst (v1 n L)):=m _ _ (kk.lst u) (nr _ _ u);have b3:H a=some (.lst (g.map V.ref)):=m _ _ a2 a3;dsimp only[yX];refine⟨_,rfl,_,rfl,N,_,_,_,rfl,rfl,SqL.of I,yR (jM M),rfl,_,rfl,?_⟩;cases hl:L i with
    |none=>
     refine onF rfl ⟨_,rfl,m,λj b v=>?_⟩;rw[B j b v,a0,cQZ];have: [i].filter (λi=>decide (L i=some j))= []:=by simp[hl]
     rw[this,cQP]
    |some j=>
     obtain⟨hj,_⟩:=ho.lt i j M hl;have U:j<g.length:=by omega
     have v:=bYL U;have a1:=B j _ v;refine onT rfl ?_;refine⟨_,rfl,_,rfl,_,rfl,N,_,_,_,rfl,rfl,SqL.of I,yR (jM M),?_⟩;rw[hl];refine⟨a,_,_,.ref g[j],rfl,rfl,SqL.of b3,yR (by rw[bY7,v];rfl),.inl ⟨rfl,_,SqL.of a1⟩,_,rfl,g[j],_,_,rfl,rfl,a1,zlt ?_,_,rfl,λb o e a4=>?_,λX b r=>?_⟩
     ·rw[bYR];have:=cQL (λi=>decide (L i=some j)) (d.take t);have h3:=List.length_take_le t d;have h4:d.length=n:=by rw[O.length_eq,cQG]
      have h5:(d.take t).length<=d.length:=by rw[cXg];omega
      omega
     ·rw[yJ (λz=>a4 (by rw[z];exact cX5 U))];exact m b o e a4
     ·rw[a0,cQZ];by_cases J:X=j
      ·subst J;rw[v]at r;cases r;rw[yB];have: [i].filter (λi=>decide (L i=some X))= [i]:=by simp[hl]
       rw[this,cXq];rfl
      ·have b1:b≠g[j]:=λz=>by
        have h6:X<g.length:=(bYY.mp r).1;have h7:g[X]=b:=(bYY.mp r).2;exact J ((cXE (h₀:=h6) (h₁:=U) nd).mp (h7.trans z))
       rw[yJ b1,B X b r];have: [i].filter (λi=>decide (L i=some X))= []:=by simp[hl,cQu J]
       rw[this,cQP]
  ·rintro σ H ⟨lt,rfl,m,B⟩;rw[bYR,cQT]at B;refine⟨_,rfl,q H a g (λj=>d.filter λi=>decide (L i=some j)) (λb o nt e=>m b o (kk b o nt e) (nr b o e)) ?_ (m _ _ a2 a3) a5 B ⟨λj i=>?_,λj=>?_⟩⟩
   ·rcases t5 with t|⟨c',t1,t2⟩
    ·exact .inl (m _ _ t nT)
    ·exact .inr ⟨c',m _ _ t1 nT,m _ _ t2 λz=>by rw[r5 _ z]at t2;cases t2⟩
   ·rw[cQE,O.mem_iff,cQi,decide_eq_true_eq]
   ·exact(a8.imp λh=>by simpa using h).sublist cXN
end
theorem aWO{n:Nat}{L:Nat->Option Nat}{D:Nat->Int}{a:Nat->List Nat}(h:bYe n L D a)(j:Nat):(a j).length<=n:=
 Fm.wW ((h.ord j).imp λ{x y} e z=>by rw[z,Stree.vV]at e;cases e) λx b=>((h.mem j x).mp b).1
theorem bWm{n:Nat}{L:Nat->Option Nat}{D:Nat->Int}{rk:Nat->Nat}{a:Nat}{b nx:List Nat}(W:Fm.aJB n L D rk a b nx):nx.length<=n:=
 Fm.wW (W.aa.imp λ{x y} e z=>by have:=e x (List.prefix_refl _);rw[z,Stree.uB]at this;cases this) λx c=>(W.al x c).1
section
variable {K:bYO}
theorem bQF:yN ["links","dates","number","answers","told","ahead","letter"] ["links","dates","number"] (yH aVo):=scM
theorem aYS(T:vP mg)(g:FnG P w K mg base 2 "answers_to_each" ["links","dates"] (bWc Tb))(p:FnG P w K mg base 2 "top_of" ["links","number"] (bKt K))(F:Fun K "thread" "thread" aVo f fd): xH P w K mg base CX0 3 f fd ["links","dates","number"] (aWo Tb):=by
 have sc:=bQF;refine F.ok (k:=2) sc (λa5 A outer s H0 vs Q E hr h=>?_);obtain⟨la,da,n,L,y,D,i,rfl,U,a0,ho,hn,hi,hT,q⟩:=h;refine⟨_,(yC (yU (i:=3) (xO g hr rfl (yA (pv 0) (yA (pv 1) yD)))) (yC (yU (i:=4) (yZ yD)) (yC (yU (i:=5) (yZ (yA (xO p hr rfl (yA (pv 0) (yA (pv 2) yD))) yD))) (yC (uF cQF (yM aXp (yS yO rfl T.b_len xD (yA (pv 5) yD)) yF) (yC (yU (i:=6) (aYY cQj cJw cJx aYy (pv 5))) (yC (y0 (v6 cQj cQr cQs xL (pv 4) (yA (pv 6) yD))) (yG (y0 (v6 cQj PySem.F.slot_list_extend PySem.F.type_list_extend aYx (pv 5) (yA (yL yK (pv 3) (pv 6)) yD))))))) (yG (yQ (pv 4))))))),?_⟩;refine⟨_,rfl,_,rfl,la,da,n,L,y,D,rfl,U,a0,ho,hn,hT,λO a rs kd k1 t1 ha a4 a1 hk=>?_⟩;dsimp only[yX];refine⟨z0,λx G=>?_⟩;dsimp only[yX];have k2:=yE G (.lst []);refine⟨_,rfl,_,rfl,la,n,L,y,i,rfl,SqL.of (k2 _ _ (k1.lst U)),ho,hi,z1,λo N=>?_⟩;dsimp only[yX];have S:O o=none:=k2.fresh N;have B:x≠o:=yI yB N;have k3:xF O (upd (upd O x (.lst [])) o (.lst [V.int (Fm.tp L y i:Nat)])):=k2.trans (yE N _);refine⟨λm σ H=>∃ (c I:List Nat)(lt:Option V),σ= [some (.ref la),some (.ref da),some (.int (i:Nat)),some (.ref a),some (.ref x),some (.ref o),lt]/\xF O H/\H x=some (.lst (c.map λi=>V.int (i:Nat)))/\
   H o=some (.lst (I.map λi=>V.int (i:Nat)))/\Fm.aJB n L D y (Fm.tp L y i) c I.reverse/\m=n - c.length,
  ⟨n,[],[Fm.tp L y i],none,rfl,k3,by rw[yJ B];exact yB,yB,Fm.aJB.start ho hi,by simp⟩,?_⟩
 rintro m σ H ⟨c,I,lt,rfl,r,R,C,W,rfl⟩;refine⟨_,rfl,o,_,rfl,.inl (SqL.of C),_,_,rfl,rfl,_,rfl,?_⟩;rcases List.eq_nil_or_concat I with rfl|⟨d,v,rfl⟩
 ·refine onF rfl ⟨_,rfl,q H x c (λb u n e=>yI (k1 b u n e) G) (k1.trans r.t) ?_ R W.tt λk=>W.done k⟩;rcases t1 with t|⟨c',t1,t2⟩
  ·exact .inl (r _ _ t)
  ·exact .inr ⟨c',r _ _ t1,r _ _ t2⟩
 ·rw[List.concat_eq_append]at C W ⊢;have X:decide ((((d++ [v]).map λi=>V.int (i:Nat)).length:Int) > 0)=true:=by
   refine decide_eq_true ?_;rw[bYR,cQa,cQU];omega
  refine onT X ⟨λσ' H'=>∃m',m'<n - c.length/\∃ (c I:List Nat)(lt:Option V),σ'= [some (.ref la),some (.ref da),some (.int (i:Nat)),some (.ref a),some (.ref x),some (.ref o),lt]/\xF O H'/\H' x=some (.lst (c.map λi=>V.int (i:Nat)))/\
   H' o=some (.lst (I.map λi=>V.int (i:Nat)))/\Fm.aJB n L D y (Fm.tp L y i) c I.reverse/\m'=n - c.length,λσ' H' z=>z,?_⟩
  have M:((d++ [v]).map λi=>V.int (i:Nat))[((d++ [v]).map λi=>V.int (i:Nat)).length - 1]? =some (V.int (v:Nat)):=by simp
  have J:((d++ [v]).map λi=>V.int (i:Nat)).dropLast=d.map λi=>V.int (i:Nat):=by simp
  refine⟨_,rfl,.inl ⟨rfl,_,SqL.of C⟩,o,_,_,rfl,rfl,C,M,?_⟩;rw[J];dsimp only[yX];have W':Fm.aJB n L D y (Fm.tp L y i) c (v::d.reverse):=by
   have:(d++ [v]).reverse=v::d.reverse:=by simp
   rw[this]at W;exact W
  have hv:=(W'.al v bY4).1;have W2:=W'.step ho (zV:=(kd v).reverse) (λj=>by rw[List.mem_reverse];exact hk.mem v j) (by rw[List.pairwise_reverse];exact hk.ord v);have l1:=W'.len;have l2:=bWm W';have l3:=aWO hk v;have l4:=W2.len;rw[cQN,List.length_reverse]at l2;rw[cQa,cQU]at l4;have Z:upd H o (.lst (d.map λi=>V.int (i:Nat))) x=some (.lst (c.map λi=>V.int (i:Nat))):=by rw[yJ B];exact R
  show aVE _ _ _ _;refine⟨_,rfl,.inl ⟨rfl,_,SqL.of Z⟩,_,rfl,x,_,_,rfl,rfl,Z,zlt (by rw[bYR];omega),?_⟩;have Y:upd (upd H o (.lst (d.map λi=>V.int (i:Nat)))) x (.lst ((c.map λi=>V.int (i:Nat))++ [V.int (v:Nat)])) o=some (.lst (d.map λi=>V.int (i:Nat))):=by rw[yJ (cQu B)];exact yB
  have k6:xF O (upd (upd H o (.lst (d.map λi=>V.int (i:Nat)))) x (.lst ((c.map λi=>V.int (i:Nat))++ [V.int (v:Nat)]))):=zO (zO r S) G;have a2:v<rs.length:=by omega
  have hb:=bYL a2;have a3:=k6 _ _ (a1 v _ hb);refine⟨_,rfl,.inl ⟨rfl,_,SqL.of Y⟩,_,rfl,_,rfl,a,_,_,.ref rs[v],rfl,rfl,SqL.of (k6 _ _ ha),yR (by rw[bY7,hb];rfl),o,rs[v],_,_,rfl,rfl,Y,a3,zn (l:=(d.map λi=>V.int (i:Nat))++((kd v).map λi=>V.int (i:Nat))) (by rw[cQa,bYR,bYR];omega) |> λz=>by rw[cQa]at z;exact z,?_⟩;refine⟨n - (c.length+1),by omega,c++ [v],d++kd v,some (.int (v:Nat)),rfl,zO k6 S,?_,?_,?_,by rw[cQa,cQU]⟩
  ·rw[yJ B,yB,cXq];rfl
  ·rw[yB,cXq]
  ·rw[List.reverse_append];exact W2
end
end Thr
namespace Desk
open PySem L2 PyProof.Rows
open Bk (Row Rows)
def aZT(x:Str):Stmt->Bool
 |.FunctionDef n _ _ _ _ _ _ _ _ _=>n==x
 |_=>false
def bK0(x:Str):Stmt->Bool
 |.ClassDef n _ _ _ _ _ _ _ _ _ _=>n==x
 |_=>false
def bJQ:Stmt->List Stmt
 |.ClassDef _ _ _ b _ _ _ _ _ _ _=>b
 |_=> []
abbrev text:List Stmt:=PySem.Challenge.pw_letterdesk_k08_whole_put_right_and_back.main.body
def xI(x:Str):Stmt:=(text.find? (aZT x)).getD (.Pass ⟨0,0,0,0⟩)
def xK(c m:Str):Stmt:=((bJQ ((text.find? (bK0 c)).getD (.Pass ⟨0,0,0,0⟩))).find? (aZT m)).getD (.Pass ⟨0,0,0,0⟩)
theorem xD:cQw "len"=some (.builtin "len"):=dk
theorem vF:cQw "sorted"=some (.builtin "sorted"):=dk
theorem wB:cQw "list"=some (.type "list"):=dk
structure vP(mg:Str->Option bYM):Prop where
 b_len:mg "len"=none
 b_sorted:mg "sorted"=none
 b_list:mg "list"=none
structure Cl(K:bYO)(CB CL:Nat):Prop where
 b:Cls K CB
 l:Cls K CL
 letters:wS K CB "letters"
 shut:wS K CB "shut"
 number:wS K CL "number"
 way:wS K CL "way"
 day:wS K CL "day"
 partner:wS K CL "partner"
 term:wS K CL "term"
 link:wS K CL "link"
 file:wS K CL "file"
 copies:wS K CL "copies"
 void:wS K CL "void"
abbrev zL:Option Nat->V:=Thr.zL
def W6(r:Row):Int:=if r.void then 0 else r.term
def qV(r:Row):V:=if r.void then .non else .str r.place
def aZ1(i:Nat)(r:Row)(c:Nat):List (Str×V):=
 [("number",.int (i:Nat)),("way",.str r.way),("day",.int r.date),("partner",.str r.partner),("term",.int (W6 r)),("link",zL r.link),("file",qV r),("copies",.ref c),("void",.bl r.void)]
def aWu(CL:Nat)(H:Hp)(b:Nat)(i:Nat)(r:Row)(c:Nat):Prop:=∃a,H b=some (.ins CL a (aZ1 i r c))
def stV(r:Row):List V:= [.str r.way,.int r.date,.str r.partner,.int (W6 r),zL r.link,qV r]
def bQS(CL:Nat):Sp:=λh H Q _=>∃ (x g:Nat)(i:Nat)(e:Str)(d:Int)(a:Str)(t:Int),h= [.ref x,.int (i:Nat),.str e,.int d,.str a,.int t]/\H x=some (.ins CL g [])/\
 ∀ (c:Nat)(f:Hp),H c=none->f x=some (.ins CL g (aZ1 i ⟨e,d,a,t,none,"",false,[]⟩ c))->f c=some (.lst [])->(∀b,b≠x->b≠c->f b=H b)->Q .non f
def aVD(CL:Nat):Sp:=λa H Q _=>∃ (b:Nat)(i:Nat)(r:Row)(c:Nat),a= [.ref b]/\aWu CL H b i r c/\∀t,H t=none->Q (.ref t) (upd H t (.tup (stV r)))
def bQL(CL:Nat):Sp:=λf H Q _=>∃ (b a:Nat)(i j:Nat)(r d:Row)(c e:Nat),f= [.ref b,.ref a]/\aWu CL H b i r c/\aWu CL H a j d e/\Q (.bl (decide (d.link=some i))) H
def bJv(CL:Nat):Sp:=λd H Q _=>∃ (b:Nat)(i:Nat)(r:Row)(c:Nat)(a:Str),d= [.ref b,.str a]/\aWu CL H b i r c/\H c=some (.lst (r.copies.map V.str))/\Q (.bl (decide (a=r.partner) || r.copies.contains a)) H
def bJC(CL:Nat):Sp:=λd H Q _=>∃ (b a:Nat)(i:Nat)(r:Row)(c:Nat),d= [.ref b]/\H b=some (.ins CL a (aZ1 i r c))/\Q .non (upd H b (.ins CL a (aZ1 i {r with link:=none,void:=true} c)))
def bQU:Sp:=λa H Q _=>∃way:Str,a= [.str way]/\Q (.str (Bk.uD way)) H
section
variable {K:bYO}
abbrev bQh:Stmt:=xK "Letter" "__init__"
abbrev bQm:Stmt:=xK "Letter" "state"
abbrev aY9:Stmt:=xK "Letter" "is_answered_by"
abbrev bVJ:Stmt:=xK "Letter" "has_gone_to"
abbrev bVS:Stmt:=xK "Letter" "make_void"
abbrev bQi:Stmt:=xI "other_way"
theorem bZC:yN ["self","number","way","day","partner","term"] ["self","number","way","day","partner","term"] (yH bQh):=scM
theorem bX0(T:Cl K CB CL)(F:Fun K "__init__" "Letter.__init__" bQh f fd):xH P w K mg base CX0 (n+1) f fd ["self","number","way","day","partner","term"] (bQS CL):=by
 have o:=bZC;refine F.ok (k:=n) o (λp A outer s H B Q E z h=>?_);obtain⟨x,e,i,u,d,r,t,rfl,v,q⟩:=h;refine⟨_,(yC (zR (pv 0) (pv 1) rfl) (yC (zR (pv 0) (pv 2) rfl) (yC (zR (pv 0) (pv 3) rfl) (yC (zR (pv 0) (pv 4) rfl) (yC (zR (pv 0) (pv 5) rfl) (yC (zR (pv 0) x3 rfl) (yC (zR (pv 0) yP rfl) (yC (zR (pv 0) (yZ yD) rfl) (yG (zR (pv 0) vI rfl)))))))))),?_⟩;refine⟨_,rfl,_,rfl,x,CL,e,_,rfl,v,T.l,T.number,(show 0<1000 by decide),?_⟩;refine⟨_,rfl,_,rfl,x,CL,e,_,rfl,yB,T.l,T.way,(show 1<1000 by decide),?_⟩;refine⟨_,rfl,_,rfl,x,CL,e,_,rfl,yB,T.l,T.day,(show 2<1000 by decide),?_⟩;refine⟨_,rfl,_,rfl,x,CL,e,_,rfl,yB,T.l,T.partner,(show 3<1000 by decide),?_⟩;refine⟨_,rfl,_,rfl,x,CL,e,_,rfl,yB,T.l,T.term,(show 4<1000 by decide),?_⟩;refine⟨_,rfl,x,CL,e,_,rfl,yB,T.l,T.link,(show 5<1000 by decide),?_⟩;refine⟨_,rfl,x,CL,e,_,rfl,yB,T.l,T.file,(show 6<1000 by decide),?_⟩;refine⟨z0,λc j=>?_⟩;have a:x≠c:=yI yB j;refine⟨_,rfl,x,CL,e,_,rfl,(yJ a).trans yB,T.l,T.copies,(show 7<1000 by decide),?_⟩;refine⟨_,rfl,x,CL,e,_,rfl,yB,T.l,T.void,(show 8<1000 by decide),?_⟩;have g:H c=none:=by simp only[yJ (cQu a)]at j;exact j
 refine q c _ g yB (by rw[yJ (cQu a),yJ (cQu a),yB]) λb y m=>?_;simp only[yJ y,yJ m]
theorem bZH:yN ["self"] ["self"] (yH bQm):=scM
theorem bX5(T:Cl K CB CL)(F:Fun K "state" "Letter.state" bQm f fd):xH P w K mg base CX0 (n+1) f fd ["self"] (aVD CL):=by
 have e:=bZH;refine F.ok (k:=n) e (λg A outer s H o Q E m h=>?_);obtain⟨b,i,r,c,rfl,⟨d,a⟩,q⟩:=h;refine⟨_,(yG (yQ (y8 (yA (y7 (pv 0) rfl) (yA (y7 (pv 0) rfl) (yA (y7 (pv 0) rfl) (yA (y7 (pv 0) rfl) (yA (y7 (pv 0) rfl) (yA (y7 (pv 0) rfl) yD))))))))),?_⟩;refine⟨_,rfl,b,CL,d,_,_,rfl,a,T.l,T.way,rfl,?_⟩;refine⟨_,rfl,b,CL,d,_,_,rfl,a,T.l,T.day,rfl,?_⟩;refine⟨_,rfl,b,CL,d,_,_,rfl,a,T.l,T.partner,rfl,?_⟩;refine⟨_,rfl,b,CL,d,_,_,rfl,a,T.l,T.term,rfl,?_⟩;refine⟨_,rfl,b,CL,d,_,_,rfl,a,T.l,T.link,rfl,?_⟩;refine⟨_,rfl,b,CL,d,_,_,rfl,a,T.l,T.file,rfl,?_⟩;exact⟨by show 6<=cQb;decide,λt j=>q t j⟩
theorem aJO{o:Option Nat}{m:Nat}:decide (zL o=V.int (m:Nat))=decide (o=some m):=by
 cases o with
 |none=>rfl
 |some j=>show decide (V.int (j:Nat)=V.int (m:Nat))=decide (some j=some m);rw[Bool.eq_iff_iff];simp;omega
theorem bZt:yN ["self","other"] ["self","other"] (yH aY9):=scM
theorem bXR(T:Cl K CB CL)(F:Fun K "is_answered_by" "Letter.is_answered_by" aY9 f fd):xH P w K mg base CX0 (n+1) f fd ["self","other"] (bQL CL):=by
 have g:=bZt;refine F.ok (k:=n) g (λm A outer s H v Q E u h=>?_);obtain⟨b,p,i,j,r,e,c,x,rfl,⟨t,o⟩,⟨a,d⟩,q⟩:=h;refine⟨_,(yG (yQ (zM zH (y7 (pv 1) rfl) (y7 (pv 0) rfl)))),?_⟩;refine⟨_,rfl,p,CL,a,_,_,rfl,d,T.l,T.link,rfl,?_⟩;refine⟨_,rfl,b,CL,t,_,_,rfl,o,T.l,T.number,rfl,?_⟩;rw[<- aJO]at q;refine⟨?_,q⟩;cases e.link<;> rfl
theorem vA(x:Str):∀ns:List Str,inV (.str x) (ns.map V.str)=ns.contains x
 |[]=>rfl
 |n::r=>by have a:=vA x r;unfold inV at a ⊢;rw[cQz,cX2,a,cZa];congr 1;show(n==x)=(x==n);rw[Bool.eq_iff_iff,beq_iff_eq,beq_iff_eq];exact eq_comm
theorem aZM:∀ns:List Str,(ns.map V.str).all Q8=true
 |[]=>rfl
 |n::r=>by rw[cQz,cZ3,aZM r];rfl
theorem bVW:yN ["self","person"] ["self","person"] (yH bVJ):=scM
theorem bVl(T:Cl K CB CL)(F:Fun K "has_gone_to" "Letter.has_gone_to" bVJ f fd):xH P w K mg base CX0 (n+1) f fd ["self","person"] (bJv CL):=by
 have j:=bVW;refine F.ok (k:=n) j (λm A outer s H u Q E t h=>?_);obtain⟨b,i,r,c,a,rfl,⟨e,d⟩,p,q⟩:=h;refine⟨_,(yG (yQ (bW4 (zM zH (pv 1) (y7 (pv 0) rfl)) (aJb (zM vH (pv 1) (y7 (pv 0) rfl)))))),?_⟩;refine⟨_,rfl,_,rfl,b,CL,e,_,_,rfl,d,T.l,T.partner,rfl,rfl,?_⟩;have o:decide (V.str a=V.str r.partner)=decide (a=r.partner):=by rw[Bool.eq_iff_iff];simp
 refine⟨_,rfl,?_⟩;rw[o];cases g:decide (a=r.partner)with
 |true=>rw[g,Bool.true_or]at q;exact onT rfl q
 |false=>rw[g,Bool.false_or]at q;refine onF rfl ⟨_,rfl,_,rfl,b,CL,e,_,_,rfl,d,T.l,T.copies,rfl,c,_,rfl,.inl (SqL.of p),rfl,aZM _,?_⟩;rw[if_neg (by decide),vA];exact q
theorem bV7:yN ["self"] ["self"] (yH bVS):=scM
theorem bVx(T:Cl K CB CL)(F:Fun K "make_void" "Letter.make_void" bVS f fd):xH P w K mg base CX0 (n+1) f fd ["self"] (bJC CL):=by
 have d:=bV7;refine F.ok (k:=n) d (λe A outer s H m Q E j h=>?_);obtain⟨b,a,i,r,c,rfl,g,q⟩:=h;refine⟨_,(yC (zR (pv 0) vI rfl) (yC (zR (pv 0) x3 rfl) (yC (zR (pv 0) x3 rfl) (yG (zR (pv 0) yF rfl))))),?_⟩;refine⟨_,rfl,b,CL,a,_,rfl,g,T.l,T.void,(show 9<1000 by decide),?_⟩;refine⟨_,rfl,b,CL,a,_,rfl,yB,T.l,T.link,(show 9<1000 by decide),?_⟩;refine⟨_,rfl,b,CL,a,_,rfl,yB,T.l,T.file,(show 9<1000 by decide),?_⟩;refine⟨_,rfl,b,CL,a,_,rfl,yB,T.l,T.term,(show 9<1000 by decide),?_⟩;rw[jE,jE,jE];exact q
theorem bZD:yN ["way"] ["way"] (yH bQi):=scM
theorem bX1(F:Fun K "other_way" "other_way" bQi f fd):xH P w K mg base CX0 (n+1) f fd ["way"] bQU:=by
 have b:=bZD;refine F.ok (k:=n) b (λd A outer s H e Q E g h=>?_);obtain⟨a,rfl,q⟩:=h;refine⟨_,(yG (yQ (aV0 (yM zH (pv 0) yP) yP yP))),?_⟩;unfold Bk.uD at q;have c:decide (V.str a=V.str "in")=decide (a="in"):=by rw[Bool.eq_iff_iff];simp
 refine⟨_,rfl,rfl,_,rfl,?_⟩;rw[c];by_cases hw:a="in"
 ·rw[if_pos hw]at q;exact onT (decide_eq_true hw) q
 ·rw[if_neg hw]at q;exact onF (decide_eq_false hw) q
end
end Desk
namespace L2
open PySem PySem.Spec PyProof.Rows
section
variable {κ:Type} [DecidableEq κ]
def aQk(kvs:List (κ×V))(k:κ):Option V:=(kvs.find? λa=>decide (a.1=k)).map (·.2)
def aVc(kvs:List (κ×V))(k:κ)(v:V):List (κ×V):=
 if(kvs.any λa=>decide (a.1=k))=true then kvs.map (λa=>if a.1=k then(a.1,v)else a)else kvs++ [(k,v)]
theorem wI{p:κ×V}{r:List (κ×V)}{k:κ}(e:p.1=k):aQk (p::r) k=some p.2:=by simp[aQk,cZc,e]
theorem wH{p:κ×V}{r:List (κ×V)}{k:κ}(e:¬p.1=k):aQk (p::r) k=aQk r k:=by simp[aQk,cZc,e]
theorem aQl(k:κ):∀kvs:List (κ×V),(kvs.any λa=>decide (a.1=k))=(aQk kvs k).isSome
 |[]=>rfl
 |p::r=>by
  rw[cX2];by_cases e:p.1=k
  ·simp only[wI e,decide_eq_true e,Bool.true_or,Option.isSome_some]
  ·rw[wH e,decide_eq_false e,Bool.false_or];exact aQl k r
theorem aWr(k j:κ)(y:V):∀kvs:List (κ×V),aQk (kvs.map λa=>if a.1=k then(a.1,y)else a) j=(aQk kvs j).map λx=>if j=k then y else x
 |[]=>rfl
 |p::r=>by
  have b:=aWr k j y r;rw[cQz];by_cases h:p.1=k
  ·rw[if_pos h];by_cases e:p.1=j
   ·rw[wI (p:=(p.1,y)) e,wI e,Option.map_some,if_pos (e.symm.trans h)]
   ·rw[wH (p:=(p.1,y)) e,wH e,b]
  ·rw[if_neg h];by_cases e:p.1=j
   ·rw[wI (p:=p) e,wI e,Option.map_some,if_neg (λz=>h (e.trans z))]
   ·rw[wH (p:=p) e,wH e,b]
theorem aJy(k j:κ)(y:V):∀kvs:List (κ×V),aQk kvs k=none->aQk (kvs++ [(k,y)]) j=if j=k then some y else aQk kvs j
 |[],_=>by
  by_cases e:k=j
  ·rw[if_pos e.symm];exact wI (p:=(k,y)) e
  ·rw[if_neg (λz=>e z.symm)];exact wH (p:=(k,y)) e
 |p::r,hn=>by
  rw[cJt];have a:¬p.1=k:=λz=>by rw[wI z]at hn;cases hn
  rw[wH a]at hn;have b:=aJy k j y r hn;by_cases e:p.1=j
  ·rw[wI e,wI e,if_neg (λz=>a (e.trans z))]
  ·rw[wH e,wH e,b]
theorem bZ5(kvs:List (κ×V))(k j:κ)(y:V):aQk (aVc kvs k y) j=if j=k then some y else aQk kvs j:=by
 unfold aVc;by_cases a:(kvs.any λb=>decide (b.1=k))=true
 ·rw[if_pos a,aWr];rw[aQl]at a;by_cases e:j=k
  ·obtain⟨x,c⟩:=Option.isSome_iff_exists.mp a;rw[if_pos e,e,c,Option.map_some,if_pos rfl]
  ·rw[if_neg e];cases aQk kvs j with
   |none=>rfl
   |some x=>rw[Option.map_some,if_neg e]
 ·rw[if_neg a];refine aJy k j y kvs ?_;rw[aQl]at a;cases q:aQk kvs k with
  |none=>rfl
  |some x=>rw[q]at a;exact(a rfl).elim
theorem qH(kvs:List (κ×V))(k:κ)(v:V):(aVc kvs k v).length<=kvs.length+1:=by
 unfold aVc;split
 ·rw[bYR];omega
 ·rw[cQa,cQN,cXU];omega
theorem aZz.isSome_eq{o:Option V}{u:Option bYM}(r:aZz o u):o.isSome=u.isSome:=by
 cases o with
 |none=>cases u with
  |none=>rfl
  |some _=>exact(show False from r).elim
 |some _=>cases u with
  |none=>exact(show False from r).elim
  |some _=>rfl
theorem KV.val{kvs:List (κ×V)}{vs:List (κ×bYM)}(r:KV kvs vs)(k:κ):aZz (aQk kvs k) (cJc vs k):=by
 unfold KV at r;induction r with
 |nil=>exact cXb
 |@cons p q i a h t g=>
  obtain⟨d,f⟩:=h;by_cases e:p.1=k
  ·have c:q.1=k:=d.symm.trans e;have b:cJc (q::a) k=some q.2:=by simp[cJc,cZc,c]
   rw[wI e,b];exact f
  ·have c:¬q.1=k:=λz=>e (d.trans z);have b:cJc (q::a) k=cJc a k:=by simp[cJc,cZc,c]
   rw[wH e,b];exact g
theorem KV.any{kvs:List (κ×V)}{vs:List (κ×bYM)}(r:KV kvs vs)(k:κ):(kvs.any λa=>decide (a.1=k))=vs.any λa=>decide (a.1=k):=by
 unfold KV at r;induction r with
 |nil=>rfl
 |cons h t b=>rw[cX2,cX2,b,h.1]
theorem KV.repl{kvs:List (κ×V)}{vs:List (κ×bYM)}(r:KV kvs vs)(k:κ){y:V}{u:bYM}(f:zI y u): KV (kvs.map λa=>if a.1=k then(a.1,y)else a) (vs.map λa=>if a.1=k then(a.1,u)else a):=by
 unfold KV at r ⊢;induction r with
 |nil=>exact .nil
 |@cons p q i g h t d=>
  rw[cQz,cQz];refine .cons ?_ d;obtain⟨b,c⟩:=h;by_cases e:p.1=k
  ·rw[if_pos e,if_pos (b.symm.trans e)];exact⟨b,f⟩
  ·rw[if_neg e,if_neg (λz=>e (b.trans z))];exact⟨b,c⟩
theorem KV.put{kvs:List (κ×V)}{vs:List (κ×bYM)}(r:KV kvs vs)(k:κ){y:V}{u:bYM}(a:zI y u):KV (aVc kvs k y) (stored vs k u):=by
 unfold aVc stored;rw[r.any k];by_cases e:(vs.any λb=>decide (b.1=k))=true
 ·rw[if_pos e,if_pos e];exact r.repl k a
 ·rw[if_neg e,if_neg e];exact Paired.snoc r ⟨rfl,a⟩
theorem KV.length{kvs:List (κ×V)}{vs:List (κ×bYM)}(r:KV kvs vs):kvs.length=vs.length:=cZg r
end
theorem bXx{P:bY8}{w:cQg}{k:Key}{u:bYM}(r:zI (kV k) u):(zE P w).is k u=true:=by
 cases k with
 |inl i=>obtain⟨t,e⟩:=(show ∃t,u=Value.int i t from r);subst e;exact aJV P w i t
 |inr x=>obtain⟨t,e⟩:=(show ∃t,u=Value.str x t from r);subst e;exact qI P w x t
theorem aZU{P:bY8}{w:cQg}:∀ {a:List Key} {us:List bYM},xY (a.map kV) us->ItemsAre (zE P w) a us
 |[],_,r=>by rw[List.map_nil]at r;cases r;exact .nil
 |k::a,_,r=>by
  rw[cQz]at r;cases r with
  |cons h t=>exact .cons (bXx h) (aZU t)
abbrev KT(H:Hp):List (List Key×V)->List (List Key×Addr×bYM)->Prop:=cQI λp q=>p.1=q.1/\H q.2.1=some (.tup (p.1.map kV))/\zI p.2 q.2.2
theorem KT.val{H:Hp}{kvs:List (List Key×V)}{xs:List (List Key×Addr×bYM)}(r:KT H kvs xs)(k:List Key):aZz (aQk kvs k) ((atKey xs k).map (·.2)):=by
 induction r with
 |nil=>exact cXb
 |@cons p q i a h t g=>
  obtain⟨d,_,f⟩:=h;by_cases e:p.1=k
  ·have c:q.1=k:=d.symm.trans e;have b:atKey (q::a) k=some q.2:=by simp[atKey,cZc,c]
   rw[wI e,b];exact f
  ·have c:¬q.1=k:=λz=>e (d.trans z);have b:atKey (q::a) k=atKey a k:=by simp[atKey,cZc,c]
   rw[wH e,b];exact g
theorem KT.repl{H:Hp}{kvs:List (List Key×V)}{xs:List (List Key×Addr×bYM)}(r:KT H kvs xs)(k:List Key){y:V}{u:bYM}(g:zI y u): KT H (kvs.map λb=>if b.1=k then(b.1,y)else b) (xs.map (putAt k u)):=by
 induction r with
 |nil=>exact .nil
 |@cons p q j i h t f=>
  rw[cQz,cQz];refine .cons ?_ f;obtain⟨a,c,d⟩:=h;unfold putAt;by_cases e:p.1=k
  ·rw[if_pos e,if_pos (a.symm.trans e)];exact⟨a,c,g⟩
  ·rw[if_neg e,if_neg (λz=>e (a.trans z))];exact⟨a,c,d⟩
theorem KT.put{H:Hp}{kvs:List (List Key×V)}{xs:List (List Key×Addr×bYM)}(r:KT H kvs xs)(k:List Key){b:Addr}{y:V}{u:bYM}(d:H b=some (.tup (k.map kV)))(a:zI y u): KT H (aVc kvs k y) (storedH xs k b u):=by
 have e:(kvs.any λc=>decide (c.1=k))=(atKey xs k).isSome:=by rw[aQl,(r.val k).isSome_eq,Option.isSome_map]
 unfold aVc storedH;rw[e];by_cases q:(atKey xs k).isSome=true
 ·rw[if_pos q,if_pos q];exact r.repl k a
 ·rw[if_neg q,if_neg q];exact Paired.snoc r ⟨rfl,d,a⟩
theorem KT.keeps{H a:Hp}{kvs:List (List Key×V)}{xs:List (List Key×Addr×bYM)}(r:KT H kvs xs)(d:∀b c,H b=some (.tup c)->a b=some (.tup c)):KT a kvs xs:=
 Paired.mapP r λ_ _ z=>⟨z.1,d _ _ z.2.1,z.2.2⟩
section
variable {P:bY8}{w:cQg}{H:Hp}{h:Heap}{a:Addr}
theorem bKd{u:HO}(ok:HOk P w H h)(e:Rd H a u):zG P w H h a u:=e.ok ok
theorem bWH{kvs:List (Key×V)}(ok:HOk P w H h)(e:Rd H a (.dK kvs)):kvs.length<=cQb/\(a==cZI)=false/\∃b,KV kvs b/\h.DictOf (zE P w) a b:=
 show zG P w H h a (.dK kvs)from bKd ok e
theorem bKW{kvs:List (Key×V)}(ok:HOk P w H h)(e:H a=some (.dK kvs)):kvs.length<=cQb/\(a==cZI)=false/\∃b,KV kvs b/\h.DictOf (zE P w) a b:=bWH ok (.inl e)
theorem aYk{c:List Key}(ok:HOk P w H h)(e:H a=some (.tup (c.map kV))):(tupleKind (zE P w)).is h c a:=by
 obtain⟨_,b,r,o,g,f,n,d⟩:=(show zG P w H h a (.tup (c.map kV))from ok a _ e);exact⟨o,b.toArray,n,g,f,d,by simpa using aZU r⟩
theorem bWI{kvs:List (List Key×V)}(ok:HOk P w H h)(e:Rd H a (.dT kvs)):kvs.length<=cQb/\(a==cZI)=false/\ ∃c,KT H kvs c/\h.DictOfH (tupleKind (zE P w)) a c:=by
 obtain⟨z,y,c,r,o,i,s,u,j,f,g,k⟩:=(show zG P w H h a (.dT kvs)from bKd ok e);refine⟨z,y,c,r,o,i,s,u,j,f,g,λx b=>?_,k⟩;have all:∀ {l:List (List Key×V)} {m:List (List Key×Addr×bYM)},KT H l m->∀x∈m,(tupleKind (zE P w)).is h x.1 x.2.1:=by
  intro l m q;induction q with
  |nil=>intro x b;exact nomatch b
  |@cons p q A v d t n=>
   intro x b;rcases bYX.mp b with e|b
   ·subst e;exact aYk ok (by rw[<- d.1];exact d.2.1)
   ·exact n x b
 exact all r x b
theorem w9{kvs:List (List Key×V)}(ok:HOk P w H h)(e:H a=some (.dT kvs)):kvs.length<=cQb/\(a==cZI)=false/\
  ∃b,KT H kvs b/\h.DictOfH (tupleKind (zE P w)) a b:=bWI ok (.inl e)
end
def bWs(H:Hp)(a:Addr)(y:V)(r:Option V):Prop:=
 (∃kvs k,Rd H a (.dK kvs)/\y=kV k/\r=aQk kvs k)\/∃kvs k b,Rd H a (.dT kvs)/\y= .ref b/\H b=some (.tup (k.map kV))/\r=aQk kvs k
def bWt(H:Hp)(a:Addr)(y v:V)(c:Hp):Prop:=
 (∃kvs k,H a=some (.dK kvs)/\y=kV k/\kvs.length<cQb/\c=upd H a (.dK (aVc kvs k v)))\/
 ∃kvs k b,H a=some (.dT kvs)/\y= .ref b/\H b=some (.tup (k.map kV))/\kvs.length<cQb/\c=upd H a (.dT (aVc kvs k v))
theorem bWs.k{H:Hp}{a:Addr}{kvs:List (Key×V)}{k:Key}(e:H a=some (.dK kvs)):bWs H a (kV k) (aQk kvs k):= .inl ⟨kvs,k,.inl e,rfl,rfl⟩
theorem bWt.k{H:Hp}{a:Addr}{kvs:List (Key×V)}{k:Key}{v:V}(e:H a=some (.dK kvs))(hl:kvs.length<cQb):bWt H a (kV k) v (upd H a (.dK (aVc kvs k v))):= .inl ⟨kvs,k,e,rfl,hl,rfl⟩
section
variable {X:Cx}{pins:List (Addr×Obj)}{σ:St}{H:Hp}{s:bYP}{a:Addr}{y v:V}{u r:bYM}{o:Option V}{A:cQv}{E:bYM->bYP->Prop}
theorem Inv.big(I:Inv X pins σ H s):cZI<s.heap.objs.size:=by
 have h:cQm<s.heap.objs.size:=(I.mod.glob.keeps I.bk).lt;exact Nat.lt_trans (by decide) h
theorem bJT{Q:bYM->bYP->Prop}(n:A.units+1<cLine)(I:Inv X pins σ H s)(g:bWs H a y o)(j:zI y u)(h:∀m,Inv X pins σ H m->Q (.bool (!o.isSome)) m): bYU (bYV X.prog X.w) A (cXk .NotIn u (.ref a)) Q E s:=by
 rcases g with⟨kvs,k,e,i,l⟩|⟨kvs,k,b,e,i,p,l⟩
 ·subst i;obtain⟨z,f,t,c,d⟩:=bWH I.hok e;refine wpAny_notIn_of (bXx j) f d.mapOf ?_;rw[<- (c.val k).isSome_eq,<- l];exact h _ (I.tok _)
 ·subst i;cases (show u=Value.ref b from j);obtain⟨z,f,r,c,d⟩:=bWI I.hok e;refine wpAny_notIn_heap (tupleKind_room_in1 n) (aYk I.hok p) f d ?_;have q:=(c.val k).isSome_eq;rw[Option.isSome_map]at q;rw[<- q,<- l];exact h _ (I.tok _)
theorem aK0{h':Heap}{t':Nat}{c:HO}(I:Inv X pins σ H s)(i:Mut (H a))(g:cXP a s.heap h')(h:∃q,h'.get? a=some q)(d:zG X.prog X.w (upd H a c) h' a c): Inv X pins σ (upd H a c) {s with heap:=h',toks:=t'}:=
 I.write (x:=a) (e:=a) i (.inl rfl) (λb q f z=>(g.2 b f).trans z) h d
theorem bWG{P:bY8}{w:cQg}{c:Hp}{h':Heap}{kvs:List (Key×V)}{vs:List (Key×bYM)}(z:kvs.length<=cQb)(e:(a==cZI)=false)(b:KV kvs vs)(d:h'.DictOf (zE P w) a vs):
  zG P w c h' a (.dK kvs):=⟨z,e,vs,b,d⟩
theorem aKZ{x:Hp}{Q:Unit->bYP->Prop}(P:A.units+1<cLine)(I:Inv X pins σ H s)(g:bWt H a y v x)(G:zI y u)(D:zI v r)(h:∀J,Inv X pins σ x J->Q () J): bYU (bYV X.prog X.w) A (setItem (.ref a) u r) Q E s:=by
 rcases g with⟨kvs,k,e,t,l,m⟩|⟨kvs,k,b,e,t,F,l,m⟩
 ·subst t m;obtain⟨z,n,T,d,j⟩:=bKW I.hok e;have o:T.length<=cQb:=by rw[<- d.length];exact z
  have hl:(aVc kvs k v).length<=cQb:=by have:=qH kvs k v;omega
  refine wpAny_setItem_pairs (hsz:=o) (bXx G) j λC f p=>h _ ?_;have U:∃q,C.get? a=some q:=let ⟨q,_,_,i,_⟩:=f;⟨q,i⟩;exact aK0 I (by rw[e];exact cXb) p U (bWG hl n (d.put k D) f)
 ·subst t m;cases (show u=Value.ref b from G);obtain⟨z,n,S,d,j⟩:=w9 I.hok e;have o:S.length<=cQb:=by rw[<- cZg d];exact z
  have hl:(aVc kvs k v).length<=cQb:=by have:=qH kvs k v;omega
  refine wpAny_setItem_heap (hsz:=o) (tupleKind_room_in1 P) (aYk I.hok F) j λC f p=>h _ ?_;obtain⟨q,L,R,i,N,K,M,_,O⟩:=f;refine aK0 I (by rw[e];exact cXb) p ⟨q,i⟩ ⟨hl,n,_,(d.put k F D).keeps λc V B=>?_,q,L,R,i,N,K,M,O⟩;rw[yJ (aXl B e (λz=>nomatch z))];exact B
end
section
variable {X:Cx}{pins:List (Addr×Obj)}{σ:St}{H:Hp}{s:bYP}{a:Addr}{kvs:List (Key×V)}{k:Key}{u:bYM}{A:cQv}{E:bYM->bYP->Prop}
end
def bYf(i:Expr):Prop:=∀a b,subscripted i false a b=operate [a,b] (getItem a b)
theorem bWe{prog:bY8}{w:cQg}{A:cQv}{E:bYM->bYP->Prop}{s:bYP}{env:Env}{value a:Expr}{pos:Pos}{T id:String}{Q:bYM->bYP->Prop} (hl:typeLookup (.type T) "__getitem__"=pure (some (.builtin id))) (k:bYf a) (h:bYU (bYV prog w) A (eval value env) (λo d=>bYU (bYV prog w) A (eval a env) (λi b=>b.TypeIs o T/\bYU (bYV prog w) A (getItem o i) Q E b) E d) E s): bYU (bYV prog w) A (eval (.Subscript value a pos) env) Q E s:=by
 refine Subscript_ (cQQ h (λo d g=>cQQ g (λi b c=>?_) λ_ _ x=>x) λ_ _ x=>x);obtain⟨j,c⟩:=c;unfold subscriptTail;refine bYN ?_;rw[getitemInPython_of_ne j.not_modules];refine bYN (wpAny_specialOf j hl ?_);have fin:bYU (bYV prog w) A (subscripted a false o i) (λr e=>bYU (bYV prog w) A (letTemporaryGo value o r >>=λ_=>pure r) Q E e) E b:=by rw[k o i];exact wpAny_operating (cQQ c (λr e f=>bYN (wpAny_letTemporaryGo (bYQ f))) λ_ _ x=>x)
 first
  |exact bYQ (bYN fin)
  |exact bYN (bYQ (bYN fin))
  |exact bYN fin
def bWf(ty td:TE):TE:=λσ H Q=>ty σ H λy c=>td σ c λx b=>∃a o,x= .ref a/\bWs b a y o/\Q (.bl (!o.isSome)) b
def bK6(td ty tv:TE):TS:=λD σ H=>tv σ H λv d=>td σ d λx c=>ty σ c λy e=>∃a b,x= .ref a/\bWt e a y v b/\D.nx σ b
section
variable {X:Cx}{o i e value:Expr}{pos pos' tpos:Pos}{td ty tv:TE}
theorem aYX(e:X.A.units+1<cLine)(d:PE X i ty)(b:PE X o td):PC X .NotIn i o (bWf ty td):=by
 intro pins s σ H Q I h;refine thn (d pins s σ H _ I h) λiv s1 ⟨y,H1,I1,ry,q1⟩=>thn (b pins s1 σ H1 _ I1 q1) λu s2 ⟨x,H2,I2,rx,a,ov,ex,g,q2⟩=>?_;subst ex;obtain rfl:u=Value.ref a:=rx;exact bJT e I2 g ry λf c=>⟨.bl (!ov.isSome),H2,c,rfl,q2⟩
theorem bVB(j:X.A.units+1<cLine)(b:PE X o td)(d:PE X i ty)(f:PE X value tv)(c:swapsWith value (some (.Subscript o i pos')) pos.line X.env=pure false): PS X (.Assign [.Subscript o i pos'] value pos) (bK6 td ty tv):=by
 intro pins s σ H D I h;refine wpAny_Assign_Subscript (thn (f pins s σ H _ I h) λr s1 ⟨v,H1,I1,rv,q1⟩=>thn (b pins s1 σ H1 _ I1 q1) λu s2 ⟨x,H2,I2,rx,q2⟩=>thn (d pins s2 σ H2 _ I2 q2) λiv s3 ⟨y,H3,I3,ry,a,H4,ex,g,q3⟩=>?_) c;subst ex;obtain rfl:u=Value.ref a:=rx;exact aKZ j I3 g ry rv λk e=>⟨σ,H4,e,q3⟩
end
theorem bXl{P:bY8}{w:cQg}{H:Hp}(h:Heap)(a:cZI<h.objs.size):zG P w H (h.push {cls:= .type "dict",data:= .dict #[] }) h.objs.size (.dK []):=
 ⟨cQM _,beq_eq_false_iff_ne.mpr (cQu (cQd a)),[],.nil,Heap.DictOf.new h⟩
def bKv:TE:=λ_ H Q=>∀p,H p=none->Q (.ref p) (upd H p (.dK []))
section
variable {X:Cx}{pos:Pos}
theorem bZd:PE X (.Dict [] [] pos) bKv:=λpins s σ H Q I h=>
 wpAny_Dict_empty ⟨.ref s.heap.objs.size,_,I.laid (a:=s.heap.objs.size) (o:= .dK []) (t':=s.toks) (λ_ _ q=>bYS _ q) (bYT _) (bXl s.heap I.big),rfl,h _ (I.hok.fresh (bYT _))⟩
end
structure M1(X:Cx)(o:Expr)(m:Str)(apos:Pos)(e:Expr)(cpos:Pos):Prop where
 base:cZD o m X.env (eval o X.env)=eval o X.env
 few:((cXu cpos (cQt [e] X.env)).all (λx=> !x.1) && (cZ1 cpos (cX8 [] X.env)).all (λx=>x.1.isSome)
  && decide (([e]:List Expr).length+([]:List Keyword).length+(if([]:List Keyword).isEmpty then 0 else 1)<30))=true
 line:(apos.endLine==cpos.line)=true
 trees:cXu cpos (cQt [e] X.env)= [(false,eval e X.env)]
structure M2(X:Cx)(o:Expr)(m:Str)(apos:Pos)(e f:Expr)(cpos:Pos):Prop where
 base:cZD o m X.env (eval o X.env)=eval o X.env
 few:((cXu cpos (cQt [e,f] X.env)).all (λx=> !x.1) && (cZ1 cpos (cX8 [] X.env)).all (λx=>x.1.isSome)
  && decide (([e,f]:List Expr).length+([]:List Keyword).length+(if([]:List Keyword).isEmpty then 0 else 1)<30))=true
 line:(apos.endLine==cpos.line)=true
 trees:cXu cpos (cQt [e,f] X.env)= [(false,eval e X.env),(false,eval f X.env)]
section
variable {X:Cx}{pins:List (Addr×Obj)}{σ:St}{H:Hp}{s:bYP}{a:Addr}{y d:V}{u r:bYM}{o:Option V}{A:cQv}{E:bYM->bYP->Prop}
end
section
variable {X:Cx}{o e f:Expr}{apos cpos:Pos}{td ty tx:TE}
end
section
variable {X:Cx}{pins:List (Addr×Obj)}{σ:St}{H:Hp}{s:bYP}{a:Addr}{kvs:List (Key×V)}{A:cQv}{E:bYM->bYP->Prop}
end
section
variable {X:Cx}{pins:List (Addr×Obj)}{σ:St}{H:Hp}{s:bYP}{a:Addr}{y:V}{u:bYM}{A:cQv}{E:bYM->bYP->Prop}
end
end L2
namespace L2
open PySem PySem.Spec PyProof.Rows
section
variable {κ:Type} [DecidableEq κ]
end
end L2
namespace Days
open PySem L2 PyProof.Rows
def aZT(x:Str):Stmt->Bool
 |.FunctionDef n _ _ _ _ _ _ _ _ _=>n==x
 |_=>false
def xI(x:Str):Stmt:=(PySem.Challenge.pw_letterdesk_k08_whole_put_right_and_back.main.body.find? (aZT x)).getD (.Pass ⟨0,0,0,0⟩)
abbrev aVj:Stmt:=xI "counts"
abbrev bVO:Stmt:=xI "open_by_rest"
abbrev aZb:Stmt:=xI "closed_days"
abbrev bQk:Stmt:=xI "place_of"
theorem aKS:cQw "min"=some (.builtin "min"):=dk
theorem vF:cQw "sorted"=some (.builtin "sorted"):=dk
theorem bWF:cQw "set"=some (.type "set"):=dk
structure vP(mg:Str->Option bYM):Prop where
 b_len:mg "len"=none
 b_min:mg "min"=none
 b_sum:mg "sum"=none
 b_sorted:mg "sorted"=none
 b_isinstance:mg "isinstance"=none
 b_int:mg "int"=none
 b_str:mg "str"=none
 b_bool:mg "bool"=none
 b_list:mg "list"=none
 b_tuple:mg "tuple"=none
 b_set:mg "set"=none
 b_range:mg "range"=none
 b_reversed:mg "reversed"=none
 week:∃t,mg "WEEK"=some (.int 7 t)
 opens:∃t,mg "OPEN_DAYS"=some (.int 5 t)
def bQT:Sp:=λa H Q _=>∃d,a= [.int d]/\Q (.bl (Dm.opn d)) H
def bQV:Sp:=λa H Q _=>∃d,a= [.int d]/\Q (.int (Dm.place d)) H
def aWf(K:bYO):Sp:=λe H Q _=>∃ (a:Nat)(b:List Int),e= [.ref a]/\SqL K H a (b.map V.int)/\b.length<64/\
 ∀ (r:Nat)(c:Hp)(C:List Int),xF H c->H r=none->C.Pairwise (·<·)->(∀d,d∈C↔d∈b/\Dm.opn d=true)->C.length<=b.length->c r=some (.lst (C.map V.int))->Q (.ref r) c
def aWh(K:bYO):Sp:=λc H Q _=>∃ (a:Nat)(b:List Int)(d:Int),c= [.ref a,.int d]/\SqL K H a (b.map V.int)/\Q (.bl (Dm.cts b d)) H
abbrev bK7:Stmt:=xI "due_day"
abbrev bQd:Stmt:=xI "day_at"
def bQP:Sp:=λa H Q _=>∃d,a= [.int d]/\Q (.int (Dm.zQ d)) H
def bKr(K:bYO):Sp:=λe H Q _=>∃ (a:Nat)(b:List Int)(d t:Int),e= [.ref a,.int d,.int t]/\SqL K H a (b.map V.int)/\b.length<64/\1<=t/\∀ (c:Hp)(D:Int),xF H c->Dm.Due b d t D->Q (.int D) c
section
variable {K:bYO}
theorem bV2:yN ["date"] ["date"] (yH bVO):=scM
theorem bVs(T:vP mg)(F:Fun K "open_by_rest" "open_by_rest" bVO f fd):xH P w K mg base CX0 1 f fd ["date"] bQT:=by
 obtain⟨l,b⟩:=T.week;obtain⟨j,a⟩:=T.opens;have c:=bV2;refine F.ok (k:=0) c (λe A outer s H i Q E g h=>?_);obtain⟨d,rfl,q⟩:=h;refine⟨_,(yG (yQ (zM vQ (yV y3 (pv 0) (uE (v:= .int 7) rfl b ⟨_,rfl⟩)) (uE (v:= .int 5) rfl a ⟨_,rfl⟩)))),?_⟩;exact⟨_,rfl,_,_,rfl,rfl,(show(0:Int)<7 by decide),_,_,rfl,rfl,q⟩
theorem bZF:yN ["date"] ["date"] (yH bQk):=scM
theorem bX3(T:vP mg)(F:Fun K "place_of" "place_of" bQk f fd):xH P w K mg base CX0 1 f fd ["date"] bQV:=by
 obtain⟨m,b⟩:=T.week;obtain⟨l,a⟩:=T.opens;have c:=bZF;refine F.ok (k:=0) c (λg A outer s H j Q E i h=>?_);obtain⟨d,rfl,q⟩:=h;refine⟨_,(yG (yQ (yV zA (yV aVW (yV Z2 (pv 0) (uE (v:= .int 7) rfl b ⟨_,rfl⟩)) (uE (v:= .int 5) rfl a ⟨_,rfl⟩)) (yS (aKU rfl) rfl T.b_min aKS (yA (yV y3 (pv 0) (uE (v:= .int 7) rfl b ⟨_,rfl⟩)) (yA (yV w6 (uE (v:= .int 5) rfl a ⟨_,rfl⟩) yF) yD)))))),?_⟩;refine⟨_,rfl,_,_,rfl,rfl,⟨by decide,by decide⟩,_,_,rfl,rfl,.inr ⟨by decide,by decide⟩,_,rfl,_,_,rfl,rfl,(show(0:Int)<7 by decide),_,_,rfl,rfl,_,_,rfl,_,_,rfl,rfl,?_⟩;have e:(if 5 - 1<d % 7 then 5 - 1 else d % 7:Int)=if 4<d % 7 then 4 else d % 7:=rfl;exact q
theorem bQy:yN ["shut","date"] ["shut","date"] (yH aVj):=scM
theorem jI(d:Int):∀ns:List Int,inV (.int d) (ns.map V.int)=ns.contains d
 |[]=>rfl
 |n::r=>by have a:=jI d r;unfold inV at a ⊢;rw[cQz,cX2,a,cZa];congr 1;show(n==d)=(d==n);rw[Bool.eq_iff_iff,beq_iff_eq,beq_iff_eq];exact eq_comm
theorem uX:∀ns:List Int,(ns.map V.int).all Q8=true
 |[]=>rfl
 |n::r=>by rw[cQz,cZ3,uX r];rfl
theorem aYL(T:vP mg)(b:FnG P w K mg base 1 "open_by_rest" ["date"] bQT)(F:Fun K "counts" "counts" aVj f fd):xH P w K mg base CX0 2 f fd ["shut","date"] (aWh K):=by
 have i:=bQy;refine F.ok (k:=1) i (λj A outer s H m Q E e h=>?_);obtain⟨a,g,d,rfl,l,q⟩:=h;refine⟨_,(yG (yQ (aVZ (xO b e rfl (yA (pv 1) yD)) (aJb (zM Q4 (pv 1) (pv 0)))))),?_⟩;refine⟨_,rfl,d,rfl,_,rfl,?_⟩;unfold Dm.cts at q;cases c:Dm.opn d with
 |false=>rw[c]at q;exact q
 |true=>rw[c,Bool.true_and]at q;rw[if_pos rfl];refine⟨_,rfl,_,rfl,a,_,rfl,.inl l,rfl,uX g,?_⟩;rw[if_pos rfl,jI];exact q
theorem bQx:yN ["shut"] ["shut"] (yH aZb):=scM
theorem aYn:xQ ["shut"] (yH aZb) "date" [] [] {kind:= .function,names:= [(".0",.local),("date",.local),("open_by_rest",.globalImplicit)],isGenerator:=false,isCoroutine:=false,more:= [] }:=
 lcM
theorem aQq(p:Int->Bool):∀ns:List Int,((ns.map V.int).filter λv=>match v with|.int d=>p d|_=>false)=(ns.filter p).map V.int
 |[]=>rfl
 |n::r=>by have a:=aQq p r;rw[cQz,List.filter_cons,List.filter_cons,a];show(if p n=true then _ else _)=_;split<;> rfl
theorem aYK(T:vP mg)(c:FnG P w K mg base 1 "open_by_rest" ["date"] bQT)(F:Fun K "closed_days" "closed_days" aZb f fd):xH P w K mg base CX0 2 f fd ["shut"] (aWf K):=by
 have L:=bQx;refine F.ok (k:=1) L (λM A outer s H Y Q E B h=>?_);obtain⟨a,I,rfl,W,G,q⟩:=h;refine⟨_,(yG (yQ (aXq aYn rfl (xR (yS (aXj rfl) rfl T.b_sorted vF (yA (xW (bXe rfl) rfl T.b_set bWF (yA (pv 0) yD)) yD))) (λ_ _ _ _ _=>(wF (x5 (xO c B rfl (yA (pv 0) yD))))) (λ_ _ _ _ _=>(pv 0))))),?_⟩;refine⟨_,rfl,a,I,rfl,W,by omega,λl t hl N p e=>?_⟩;refine⟨l,t,rfl,yB,by omega,λr S i g X=>?_⟩;refine⟨r,rfl,⟨_,SqL.of yB⟩,λD n=>?_⟩;have j:S.Pairwise (·<·):=by
  have m:S.Nodup:=(g.nodup_iff).mpr N;have o:S.Pairwise (λa b=>a<=b/\a≠b):=X.and m;exact o.imp λ⟨h1,o⟩=>by omega
 have O:(S.map V.int).length<=cQb:=by rw[bYR,g.length_eq,cQe];omega
 refine aXB (λv=>match v with|.int d=>Dm.opn d|_=>false) id (SqL.of yB) n O ?_ ?_ ?_
 ·intro v x z R C hR;obtain⟨d,Z,rfl⟩:=cQR.mp x;exact⟨_,rfl,d,rfl,_,rfl,hR⟩
 ·intro v x U z R C hR;exact⟨_,rfl,hR⟩
 ·rw[aQq,cJq];have u:=yE hl (bKm w l t);have y:=yE i (.lst (S.map V.int));have J:=yE n (.lst ((S.filter Dm.opn).map V.int));refine q D _ (S.filter Dm.opn) (u.trans (y.trans J)) ?_ (j.sublist cXN) ?_ ?_ yB
  ·exact(xF.trans u y).fresh n
  ·intro d;rw[cQE,g.mem_iff,e]
  ·have:=cQL Dm.opn S;rw[g.length_eq]at this;omega
theorem bZy:yN ["place"] ["place"] (yH bQd):=scM
theorem bXW(T:vP mg)(F:Fun K "day_at" "day_at" bQd f fd):xH P w K mg base CX0 1 f fd ["place"] bQP:=by
 obtain⟨l,b⟩:=T.week;obtain⟨j,a⟩:=T.opens;have c:=bZy;refine F.ok (k:=0) c (λe A outer s H i Q E g h=>?_);obtain⟨d,rfl,q⟩:=h;refine⟨_,(yG (yQ (yV zA (yV aVW (yV Z2 (pv 0) (uE (v:= .int 5) rfl a ⟨_,rfl⟩)) (uE (v:= .int 7) rfl b ⟨_,rfl⟩)) (yV y3 (pv 0) (uE (v:= .int 5) rfl a ⟨_,rfl⟩))))),?_⟩;exact⟨_,rfl,_,_,rfl,rfl,⟨by decide,by decide⟩,_,_,rfl,rfl,.inr ⟨by decide,by decide⟩,_,rfl,_,_,rfl,rfl,(show(0:Int)<5 by decide),_,_,rfl,rfl,q⟩
theorem bKi:yN ["shut","date","term","place","closed"] ["shut","date","term"] (yH bK7):=scM
theorem bXm(d p:Int)(C:List Int)(i:Nat)(c:Int)(h:C[i]? =some c):Dm.aXT d p (C.take (i+1))=Dm.uV d (Dm.aXT d p (C.take i)) c:=by
 unfold Dm.aXT;rw[cQX,h];show(C.take i++ [c]).foldl _ p=_;rw[cJ7];rfl
theorem bWW(T:vP mg)(b:FnG P w K mg base 2 "closed_days" ["shut"] (aWf K))(j:FnG P w K mg base 2 "place_of" ["date"] bQV)(g:FnG P w K mg base 2 "day_at" ["place"] bQP) (F:Fun K "due_day" "due_day" bK7 f fd):xH P w K mg base CX0 3 f fd ["shut","date","term"] (bKr K):=by
 have M:=bKi;refine F.ok (k:=2) M (λN A outer s H W Q E p h=>?_);obtain⟨a,I,d,t,rfl,U,y,O,q⟩:=h;refine⟨_,(yC (yU (i:=3) (yV zA (xO j p rfl (yA (pv 1) yD)) (pv 2))) (yC (wL cQF rfl (xR (xO b p rfl (yA (pv 0) yD))) (xE (i:=4)) (yG (y6 (bZi vQ aYU (pv 1) (pv 4) (xO g p rfl (yA (pv 3) yD))) (yG (yU (i:=3) (yV zA (pv 3) yF))) yT))) (yG (yQ (xO g p rfl (yA (pv 3) yD)))))),?_⟩;refine⟨_,rfl,d,rfl,_,rfl,_,_,rfl,rfl,?_⟩;refine⟨_,rfl,a,I,rfl,U,y,λr J C S G R L hl n=>⟨r,rfl,⟨_,SqL.of n⟩,?_⟩⟩;refine zX (xs:=C.map V.int) (λi σ H=>∃cl,σ= [some (.ref a),some (.int d),some (.int t),some (.int (Dm.aXT d (Dm.place d+t) (C.take i))),cl]/\H=J) ?_ ?_ ?_ ?_
 ·exact⟨none,rfl,rfl⟩
 ·rintro i σ H X ⟨cl,rfl,rfl⟩;exact SqL.of n
 ·rintro i x σ H o ⟨cl,rfl,rfl⟩;rw[bY7]at o;cases B:C[i]? with
  |none=>rw[B]at o;cases o
  |some c=>
   rw[B]at o;cases o;have u:=bXm d (Dm.place d+t) C i c B;generalize Dm.aXT d (Dm.place d+t) (C.take i)=pl at u ⊢;dsimp only[yX];refine⟨_,rfl,_,rfl,_,_,rfl,rfl,_,rfl,?_⟩;refine qE (λv=>?_) (λv=>?_)
   ·have l:d<c:=of_decide_eq_true v;refine⟨_,rfl,pl,rfl,_,_,rfl,rfl,_,rfl,?_⟩;refine qE (λD=>?_) (λD=>?_)
    ·have m:c<=Dm.zQ pl:=of_decide_eq_true D;refine⟨_,rfl,_,_,rfl,rfl,some (.int c),?_,rfl⟩;have e:Dm.uV d pl c=pl+1:=if_pos ⟨l,m⟩;rw[u,e];rfl
    ·have m:¬c<=Dm.zQ pl:=of_decide_eq_false (Bool.eq_false_iff.mpr D);refine⟨some (.int c),?_,rfl⟩;have e:Dm.uV d pl c=pl:=if_neg λz=>m z.2;rw[u,e];rfl
   ·have l:¬d<c:=of_decide_eq_false (Bool.eq_false_iff.mpr v);refine⟨_,rfl,?_⟩;refine onF rfl ⟨some (.int c),?_,rfl⟩;have e:Dm.uV d pl c=pl:=if_neg λz=>l z.1;rw[u,e];rfl
 ·rintro σ H ⟨cl,rfl,rfl⟩;rw[bYR,cQT];exact⟨_,rfl,_,rfl,q _ _ S (Dm.bJf O R L)⟩
end
end Days
namespace Desk
open PySem L2 PyProof.Rows
open Bk (Row Rows)
structure PB(CB CL:Nat)(H:Hp)(ba la sa:Nat)(ls cs:List Nat)(R:Rows)(S:List Int):Prop where
 book:∃dx,H ba=some (.ins CB dx [("letters",.ref la),("shut",.ref sa)])
 lst:H la=some (.lst (ls.map V.ref))
 sht:H sa=some (.lst (S.map V.int))
 len:ls.length=R.length
 clen:cs.length=R.length
 nd:ls.Nodup
 cnd:cs.Nodup
 las:la≠sa
 lac:la∉cs
 sac:sa∉cs
 row:∀ (i:Nat)(b c:Nat)(r:Row),ls[i]? =some b->cs[i]? =some c->R[i]? =some r->aWu CL H b i r c/\H c=some (.lst (r.copies.map V.str))
theorem PB.get{j CL:Nat}{H:Hp}{k la sa:Nat}{ls cs:List Nat}{R:Rows}{S:List Int}(h:PB j CL H k la sa ls cs R S){i:Nat}{r:Row}(d:R[i]? =some r): ∃b c,(ls.map V.ref)[i]? =some (.ref b)/\ls[i]? =some b/\cs[i]? =some c/\aWu CL H b i r c/\H c=some (.lst (r.copies.map V.str)):=by
 have e:i<R.length:=Bk.zS d;have a:=bYL (show i<ls.length by rw[h.len];exact e);have f:=bYL (show i<cs.length by rw[h.clen];exact e);obtain⟨l,g⟩:=h.row i _ _ r a f d;exact⟨_,_,by rw[bY7,a];rfl,a,f,l,g⟩
theorem PB.sameT{d CL:Nat}{H a:Hp}{f la sa:Nat}{ls cs:List Nat}{R:Rows}{S:List Int}(h:PB d CL H f la sa ls cs R S)(k:x8 H a):PB d CL a f la sa ls cs R S:=
 ⟨let ⟨dx,e⟩:=h.book;⟨dx,k _ _ (λ_ z=>nomatch z) e⟩,k.lst h.lst,k.lst h.sht,h.len,h.clen,h.nd,h.cnd,h.las,h.lac,h.sac,λi b c r l j g=>
  let ⟨⟨dx,e1⟩,e2⟩:=h.row i b c r l j g;⟨⟨dx,k _ _ (λ_ z=>nomatch z) e1⟩,k.lst e2⟩⟩
theorem PB.same{c CL:Nat}{H a:Hp}{b la sa:Nat}{ls cs:List Nat}{R:Rows}{S:List Int}(h:PB c CL H b la sa ls cs R S)(k:xF H a):PB c CL a b la sa ls cs R S:=h.sameT k.t
def aKK(T:Nat)(H a:Hp):Prop:=x8 H a/\(Thr.wJ T H->Thr.wJ T a)
theorem aKK.of{T:Nat}{H a:Hp}(k:xF H a):aKK T H a:=⟨k.t,λt=>by
 rcases t with t|⟨c,b,d⟩
 ·exact .inl (k _ _ t)
 ·exact .inr ⟨c,k _ _ b,k _ _ d⟩⟩
theorem aKK.trans{T:Nat}{H d c:Hp}(a:aKK T H d)(b:aKK T d c):aKK T H c:=⟨a.1.trans b.1,λt=>b.2 (a.2 t)⟩
def xM(K:bYO)(Rf:Nat×Nat)(H:Hp)(E:XK)(t:Str):Prop:=∀ (C b:Nat)(a:Hp),uA K C->cZ4 K C (.ref Rf.1)=some true->aKK Rf.2 H a->a b=some (.xd [("words",.str t)])->E (.ref C) (some b) a
theorem xM.go{K:bYO}{Rf:Nat×Nat}{H:Hp}{E:XK}{t:Str}(h:xM K Rf H E t){b:Hp}(k:aKK Rf.2 H b):xM K Rf b E t:=λC d a c m f e=>h C d a c m (k.trans f) e
theorem xM.raise{P:bY8}{w:cQg}{K:bYO}{mg:Str->Option bYM}{base:Heap}{k:Nat}{x:Str}{Rf:Nat×Nat}{C:Nat}{H:Hp}{E:XK}{t:Str}(h:xM K Rf H E t)(G:ExG P w K mg base k x Rf.1 C t){D:aKI}{σ:L2.St}:bJu C t E D σ H:=
 λa b=>h C a _ G.cl G.sub (aKK.of (yE b _)) yB
def aWc(K:bYO)(Rf:Nat×Nat)(e CL:Nat):Sp:=λh H Q E=>∃ (a d f:Nat)(c g:List Nat)(R:Rows)(S:List Int)(m:Int),h= [.ref a,.int m]/\PB e CL H a d f c g R S/\
 (∀ (k:Nat)(r:Row)(b:Nat),m=(k:Int)->R[k]? =some r->r.void=false->c[k]? =some b->Q (.ref b) H)/\(Bk.wO R m=false->xM K Rf H E "no letter")
def aVB(h CL:Nat):Sp:=λd H Q _=>∃ (c g e:Nat)(a f:List Nat)(R:Rows)(S:List Int)(i:Nat)(b:Nat),d= [.ref c,.ref b]/\PB h CL H c g e a f R S/\a[i]? =some b/\R.length<=100/\
 ∀l,H l=none->Q (.ref l) (upd H l (.lst ((Bk.zV R i).map λk=>(a.map V.ref).getD k .non)))
def aWg(K:bYO)(Rf:Nat×Nat)(c CL:Nat):Sp:=λg H Q E=>∃ (a b d:Nat)(f e:List Nat)(R:Rows)(S:List Int)(m:Int),g= [.ref a,.int m]/\PB c CL H a b d f e R S/\
 (∀ (k:Nat)(r:Row)(l:Nat),m=(k:Int)->R[k]? =some r->r.void=false->H l=none->Q (.ref l) (upd H l (.lst (r.copies.map V.str))))/\(Bk.wO R m=false->xM K Rf H E "no letter")
def aJu(K:bYO)(Rf:Nat×Nat)(c CL:Nat):Sp:=λg H Q E=>∃ (a b d:Nat)(f e:List Nat)(R:Rows)(S:List Int)(m:Int),g= [.ref a,.int m]/\PB c CL H a b d f e R S/\
 (∀ (k:Nat)(r:Row)(l:Nat),m=(k:Int)->R[k]? =some r->r.void=false->H l=none->Q (.ref l) (upd H l (.tup (stV r))))/\(Bk.wO R m=false->xM K Rf H E "no letter")
section
variable {K:bYO}
abbrev aQT:Stmt:=xK "Book" "letter_at"
abbrev aV5:Stmt:=xK "Book" "answers_to"
abbrev aQS:Stmt:=xK "Book" "copies_of"
abbrev aZh:Stmt:=xK "Book" "state_of"
theorem bVU:yN ["self","number"] ["self","number"] (yH aQT):=scM
theorem bXt{R:Rows}{m:Int}(h:m<0):Bk.wO R m=false:=by
 unfold Bk.wO;rw[decide_eq_false (by omega),Bool.false_and]
theorem bXs{R:Rows}{m:Int}(h:(R.length:Int)<=m):Bk.wO R m=false:=by
 unfold Bk.wO;rw[cQk (by omega)];simp
theorem aZQ{R:Rows}{k:Nat}{r:Row}(h:R[k]? =some r):Bk.wO R (k:Int)= !r.void:=by
 unfold Bk.wO;rw[cQl,h];simp
theorem bVi(T:vP mg)(cl:Cl K CB CL)(a:ExG P w K mg base n "NoLetter" Rf.1 C1 "no letter")(F:Fun K "letter_at" "Book.letter_at" aQT f fd):xH P w K mg base (CXR P w) (n+2) f fd ["self","number"] (aWc K Rf CB CL):=by
 have z:=bVU;refine F.okX (k:=n+1) z (λC A outer s H O Q E x h=>?_);obtain⟨o,i,L,B,M,R,S,m,rfl,e,q,g⟩:=h;refine⟨_,(yC (y6 (PW.pt (jU (yM vQ (pv 1) yF) (jU (yM bK1 (pv 1) (yS yO rfl T.b_len xD (yA (y7 (pv 0) rfl) yD))) (vW (x5 (y7 (yL yK (y7 (pv 0) rfl) (pv 1)) rfl)))))) (yG (wG a x rfl)) yT) (yG (yQ (yL yK (y7 (pv 0) rfl) (pv 1))))),?_⟩;obtain⟨r,p⟩:=e.book;have hl:(B.map V.ref).length=R.length:=by rw[bYR];exact e.len
 refine⟨_,rfl,_,_,rfl,rfl,_,rfl,?_⟩;refine qE (λc=>?_) (λc=>?_)
 ·exact onT rfl ((g (bXt (of_decide_eq_true c))).raise a)
 ·have I:¬m<0:=of_decide_eq_false (Bool.eq_false_iff.mpr c);refine⟨_,rfl,_,rfl,o,CB,r,_,_,rfl,p,cl.b,cl.letters,rfl,i,_,rfl,.inl (SqL.of e.lst),_,_,rfl,rfl,_,rfl,?_⟩;rw[hl];refine qE (λc=>?_) (λc=>?_)
  ·exact onT rfl ((g (bXs (of_decide_eq_true c))).raise a)
  ·have G:¬m≥(R.length:Nat):=of_decide_eq_false (Bool.eq_false_iff.mpr c);obtain⟨k,rfl⟩:∃k:Nat,m=(k:Int):=⟨m.toNat,by omega⟩;have y:k<R.length:=by omega
   have d:=bYL y;obtain⟨b,N,t,v,J,⟨j,D⟩,U⟩:=e.get d;refine⟨_,rfl,o,CB,r,_,_,rfl,p,cl.b,cl.letters,rfl,_,rfl,i,_,_,_,rfl,rfl,SqL.of e.lst,yR t,b,CL,j,_,_,rfl,D,cl.l,cl.void,rfl,_,rfl,?_⟩;cases u:R[k].void with
   |true=>exact onT rfl ((g (by rw[aZQ d,u];rfl)).raise a)
   |false=>exact onF rfl ⟨_,rfl,o,CB,r,_,_,rfl,p,cl.b,cl.letters,rfl,_,rfl,i,_,_,_,rfl,rfl,SqL.of e.lst,yR t,q k _ b rfl d u v⟩
theorem aWS{K:bYO}{a:Nat}{xs:List V}{r:List Nat}{j:TT}{n:TE}{σ:L2.St}{D:Nat}{Q:VK}{H:Hp}(p:Nat->Bool)(f:Nat->V)(hl:SqL K H a xs)(t:H D=none)(hz:xs.length<=cQb) (B:∀i v,xs[i]? =some v->∀ (c:Hp)(R:Bool->Hp->Prop),(∀b,b≠D->c b=H b)->R (p i) c->j (sub σ r (some v)) c R) (w:∀i v,xs[i]? =some v->p i=true->∀ (c:Hp)(R:VK),(∀b,b≠D->c b=H b)->R (f i) c->n (sub σ r (some v)) c R) (A:Q (.ref D) (upd H D (.lst (((bYW xs.length).filter p).map f)))):bWo (Itl K a) r j n σ D Q (upd H D (.lst [])):=by
 have e:∀g,SqL K (upd H D (.lst g)) a xs:=λg=>by
  rcases hl with(h|⟨o,h⟩)|h
  ·exact .inl (.inl (by rw[yJ (yI h t)];exact h))
  ·exact .inl (.inr ⟨o,by rw[yJ (yI h t)];exact h⟩)
  ·exact .inr h
 refine⟨λi m g c=>m=xs.length - i/\i<=xs.length/\g=((bYW i).filter p).map f/\c=upd H D (.lst g),⟨xs.length,by simp,cQM _,by simp,rfl⟩,?_⟩;rintro i m g c ⟨rfl,F,rfl,rfl⟩;refine⟨yB,?_⟩;by_cases d:i<xs.length
 ·refine .inr ⟨⟨xs,xs[i],e _,bYL d⟩,λv E x=>?_⟩;obtain⟨rfl,y⟩:=x;have s:xs[i]? =some v:=y xs (e _);have l:∀b,b≠D->upd H D (.lst (((bYW i).filter p).map f)) b=H b:=λb u=>yJ u;have k:(((bYW i).filter p).map f).length<cQb:=by
   rw[bYR];have z:=cQL p (bYW i);rw[cQG]at z;omega
  refine B i v s _ _ l ?_;cases q:p i with
  |false=>show ∃C,_;refine⟨xs.length - (i+1),by omega,rfl,d,?_,rfl⟩;rw[cZd,cQZ,cXw (by rw[q];decide)];simp
  |true=>show n _ _ _;refine w i v s q _ _ l ⟨k,yB,xs.length - (i+1),by omega,rfl,d,?_,by rw[jE]⟩;rw[cZd,cQZ,cXx q];simp
 ·obtain rfl:i=xs.length:=by omega
  exact .inl ⟨⟨xs,e _,bYT _⟩,A⟩
theorem bZu:yN ["self","letter"] ["self","letter"] (yH aV5):=scM
theorem bXD:xQ ["self","letter"] (yH aV5) "other" ["letter"] [1] {kind:= .function,names:= [(".0",.local),("other",.local),("letter",.free)],isGenerator:=false,isCoroutine:=false,more:= [] }:=
 lcM
theorem bXS(cl:Cl K CB CL)(a:MG P w K mg base CX0 n CL "is_answered_by" ["self","other"] (bQL CL))(F:Fun K "answers_to" "Book.answers_to" aV5 f fd):xH P w K mg base CX0 (n+1) f fd ["self","letter"] (aVB CB CL):=by
 have M:=bZu;refine F.ok (k:=n) M (λU A outer s H vs Q E J h=>?_);obtain⟨L,C,sa,t,cs,R,S,i,b,rfl,d,z,hR,q⟩:=h;refine⟨_,(yG (yQ (aXq bXD rfl (xR (y7 (pv 0) rfl)) (λ_ _ _ _ _=>(wF (x5 (v7 a J v5 (pv 1) (yA (pv 0) yD))))) (λ_ _ _ _ _=>(pv 0))))),?_⟩;obtain⟨W,T⟩:=d.book;have hl:(t.map V.ref).length=R.length:=by rw[bYR];exact d.len
 have u:i<R.length:=by rw[<- d.len];exact(bYY.mp z).1
 obtain⟨N,cc,Y,I,Z,⟨e,o⟩,g5⟩:=d.get (bYL u);obtain rfl:b=N:=bY6 (z.symm.trans I);refine⟨_,rfl,L,CB,W,_,_,rfl,T,cl.b,cl.letters,rfl,C,rfl,⟨_,SqL.of d.lst⟩,λD l=>?_⟩;refine aWS (λk=>decide (Bk.lk R k=some i)) (λk=>(t.map V.ref).getD k .non) (SqL.of d.lst) l (zn (by omega)) (λj v p B G m c=>?_) (λj v p _ B G m c=>?_) ?_
 ·have O:j<R.length:=by rw[<- hl];exact(bYY.mp p).1
  have g:=bYL O;obtain⟨y,c2,X,k2,k3,⟨r,x⟩,k5⟩:=d.get g;obtain rfl:v= .ref y:=bY6 (p.symm.trans X);rw[Bk.wM g]at c;exact⟨_,rfl,b,e,_,rfl,(m _ (yI o l)).trans o,rfl,_,rfl,b,y,i,j,_,_,_,_,rfl,⟨e,(m _ (yI o l)).trans o⟩,⟨r,(m _ (yI x l)).trans x⟩,_,rfl,c⟩
 ·have:(t.map V.ref).getD j .non=v:=by simp only[cQx,p];rfl
  rw[this]at c;exact⟨_,rfl,c⟩
 ·rw[hl];exact q D l
theorem aVt:yN ["self","number"] ["self","number"] (yH aQS):=scM
theorem aJ3(T:vP mg)(cl:Cl K CB CL)(a:MG P w K mg base (CXR P w) n CB "letter_at" ["self","number"] (aWc K Rf CB CL))(F:Fun K "copies_of" "Book.copies_of" aQS f fd):xH P w K mg base (CXR P w) (n+1) f fd ["self","number"] (aWg K Rf CB CL):=by
 have x:=aVt;refine F.okX (k:=n) x (λD A outer s H U Q E t h=>?_);obtain⟨i,o,u,z,v,R,S,m,rfl,e,q,j⟩:=h;refine⟨_,(yG (yQ (xW vU rfl T.b_list wB (yA (y7 (v7 a t z9 (pv 0) (yA (pv 1) yD)) rfl) yD)))),?_⟩;obtain⟨I,C⟩:=e.book;refine⟨_,rfl,i,I,_,rfl,C,rfl,_,rfl,i,o,u,z,v,R,S,m,rfl,e,λk r b G g M d=>?_,j⟩;obtain⟨y,B,N,p,O,⟨c,L⟩,J⟩:=e.get g;obtain rfl:b=y:=bY6 (d.symm.trans p);refine⟨b,CL,c,_,_,rfl,L,cl.l,cl.copies,rfl,?_⟩;exact⟨B,_,rfl,.inl (SqL.of J),λl hl=>q k r l G g M hl⟩
theorem aKz:yN ["self","number"] ["self","number"] (yH aZh):=scM
theorem aKe(cl:Cl K CB CL)(a:MG P w K mg base (CXR P w) n CB "letter_at" ["self","number"] (aWc K Rf CB CL))(c:MG P w K mg base CX0 n CL "state" ["self"] (aVD CL))(F:Fun K "state_of" "Book.state_of" aZh f fd): xH P w K mg base (CXR P w) (n+1) f fd ["self","number"] (aJu K Rf CB CL):=by
 have z:=aKz;refine F.okX (k:=n) z (λI A outer s H U Q E i h=>?_);obtain⟨l,u,x,C,y,R,S,m,rfl,g,q,p⟩:=h;refine⟨_,(yG (yQ (bZe c i v5 (v7 a i z9 (pv 0) (yA (pv 1) yD))))),?_⟩;obtain⟨M,G⟩:=g.book;refine⟨_,rfl,l,M,_,rfl,G,rfl,_,rfl,l,u,x,C,y,R,S,m,rfl,g,λk r b L j N e=>?_,p⟩;obtain⟨B,D,O,v,T,⟨d,o⟩,V⟩:=g.get j;obtain rfl:b=B:=bY6 (e.symm.trans v);exact⟨b,d,_,rfl,o,rfl,b,k,r,D,rfl,⟨d,o⟩,λt J=>q k r t L j N J⟩
end
end Desk
namespace Desk
open PySem L2 PyProof.Rows
open Bk (Row Rows)
open Law (aKJ jX X0 bQ9 aJa aXd)
def W9(R:Rows)(w:Str):List Nat:=(bYW R.length).filter λk=>match R[k]? with|some r=> !r.void && decide (r.place=w)|none=>false
def aQ9(g CL:Nat):Sp:=λb H Q _=>∃ (a e c:Nat)(f d:List Nat)(R:Rows)(S:List Int)(w:Str),b= [.ref a,.str w]/\PB g CL H a e c f d R S/\R.length<64/\
 ∀l,H l=none->Q (.ref l) (upd H l (.lst ((W9 R w).map λi=>V.int (i:Nat))))
def bJG(R:Rows)(n:Nat)(d:Int)(a:List (Key×V)):Prop:=∀j:Nat,(aQk a (Sum.inl (j:Int))).isSome=true↔∃k,k<n/\Bk.lk R k=some j/\Bk.dt R k<=d
def aXK(k CL:Nat):Sp:=λf H Q _=>∃ (e i g:Nat)(j h:List Nat)(R:Rows)(S:List Int)(d:Int),f= [.ref e,.int d]/\PB k CL H e i g j h R S/\R.length<64/\
 ∀ (a:Nat)(c:Hp)(b:List (Key×V)),xF H c->H a=none->c a=some (.dK b)->bJG R R.length d b->Q (.ref a) c
def aVC(k CL:Nat):Sp:=λf H Q _=>∃ (b i g:Nat)(j h:List Nat)(R:Rows)(S:List Int)(d:Int),f= [.ref b,.int d]/\PB k CL H b i g j h R S/\R.length<64/\S.length<64/\
 ∀ (l:Nat)(a:Hp)(e:List Nat)(c:List V),xF H a->H l=none->a l=some (.lst c)->cQI (aKJ a (jX R S)) e c->Bk.bJI R S d false e->Q (.ref l) a
def bKK(g CL:Nat)(a:Bool):Sp:=λm H Q _=>∃ (c f h:Nat)(k j:List Nat)(R:Rows)(S:List Int)(d:Int),m= [.ref c,.int d]/\PB g CL H c f h k j R S/\R.length<64/\S.length<64/\
 ∀ (l:Nat)(b:Hp)(e:List Nat),xF H b->H l=none->b l=some (.lst (e.map λi=>V.int (i:Nat)))->Bk.bJI R S d a e->Q (.ref l) b
theorem aQK{X:Cx}{K:bYO}{e:Expr}{f:Str}{pos:Pos}{a:TE}(c:PE X e a)(d:cZD e f X.env (eval e X.env)=eval e X.env)(b:X.K=K:=by rfl):PE X (.Attribute e f pos) (bYk K a f):=b ▸ y7 c d
section
variable {K:bYO}
abbrev jP:Stmt:=xK "Book" "letters_in"
abbrev aQR:Stmt:=xK "Book" "answered_by"
abbrev bQj:Stmt:=xK "Book" "waiting_pairs"
abbrev aQg:Stmt:=xK "Book" "waiting"
abbrev aQf:Stmt:=xK "Book" "overdue"
theorem aJl:yN ["self","name"] ["self","name"] (yH jP):=scM
theorem aZ0:xQ ["self","name"] (yH jP) "letter" ["name"] [1] {kind:= .function,names:= [(".0",.local),("letter",.local),("name",.free)],isGenerator:=false,isCoroutine:=false,more:= [] }:=
 lcM
theorem bJU{r:Row}{w:Str}:decide (qV r=V.str w)=(!r.void && decide (r.place=w)):=by
 unfold qV;cases r.void with
 |true=>rfl
 |false=>show decide (V.str r.place=V.str w)=(true && decide (r.place=w));rw[Bool.true_and,Bool.eq_iff_iff];simp
theorem aZ8(cl:Cl K CB CL)(F:Fun K "letters_in" "Book.letters_in" jP f fd):xH P w K mg base CX0 (n+1) f fd ["self","name"] (aQ9 CB CL):=by
 have I:=aJl;refine F.ok (k:=n) I (λM A outer s H Y Q E U h=>?_);obtain⟨G,z,W,J,X,R,S,w,rfl,d,hR,q⟩:=h;refine⟨_,(yG (yQ (aXq aZ0 rfl (xR (y7 (pv 0) rfl)) (λ_ _ _ _ _=>(wF (yM zH (aQK (K:=K) (pv 0) rfl) (pv 1)))) (λ_ _ _ _ _=>(aQK (K:=K) (pv 0) rfl))))),?_⟩;obtain⟨N,L⟩:=d.book;have hl:(J.map V.ref).length=R.length:=by rw[bYR];exact d.len
 refine⟨_,rfl,G,CB,N,_,_,rfl,L,cl.b,cl.letters,rfl,z,rfl,⟨_,SqL.of d.lst⟩,λD o=>?_⟩;refine aWS (λk=>match R[k]? with|some r=> !r.void && decide (r.place=w)|none=>false) (λk=>V.int (k:Nat)) (SqL.of d.lst) o (zn (by omega)) (λj v m x y p a=>?_) (λj v m _ x y p a=>?_) ?_
 ·have t:j<R.length:=by rw[<- hl];exact(bYY.mp m).1
  have g:=bYL t;obtain⟨i,O,u,T,C,⟨c,e⟩,B⟩:=d.get g;obtain rfl:v= .ref i:=bY6 (m.symm.trans u);rw[g]at a;dsimp only at a;rw[<- bJU]at a;refine⟨_,rfl,i,CL,c,_,_,rfl,(p _ (yI e o)).trans e,cl.l,cl.file,rfl,_,rfl,?_,_,rfl,a⟩;unfold qV;cases R[j].void<;> rfl
 ·have t:j<R.length:=by rw[<- hl];exact(bYY.mp m).1
  obtain⟨i,O,u,T,C,⟨c,e⟩,B⟩:=d.get (bYL t);obtain rfl:v= .ref i:=bY6 (m.symm.trans u);exact⟨_,rfl,i,CL,c,_,_,rfl,(p _ (yI e o)).trans e,cl.l,cl.number,rfl,a⟩
 ·rw[hl];exact q D o
theorem aVs:yN ["self","day","answered","letter"] ["self","day"] (yH aQR):=scM
theorem aZB{R:Rows}{t:Nat}{d:Int}{a:List (Key×V)}(h:bJG R t d a)(f:∀j,Bk.lk R t=some j->¬Bk.dt R t<=d):bJG R (t+1) d a:=λj=>by
 rw[h j];constructor
 ·rintro⟨k,g,b⟩;exact⟨k,by omega,b⟩
 ·rintro⟨k,g,b,c⟩;by_cases e:k=t
  ·subst e;exact absurd c (f j b)
  ·exact⟨k,by omega,b,c⟩
theorem bXb{R:Rows}{t:Nat}{d:Int}{a:List (Key×V)}(h:bJG R t d a){i:Nat}(hl:Bk.lk R t=some i)(g:Bk.dt R t<=d){v:V}:bJG R (t+1) d (aVc a (Sum.inl (i:Int)) v):=λj=>by
 rw[bZ5];by_cases e:j=i
 ·subst e;rw[if_pos rfl];exact⟨λ_=>⟨t,by omega,hl,g⟩,λ_=>rfl⟩
 ·rw[if_neg (λz=>e (by have:=Sum.inl.inj z;omega)),h j];constructor
  ·rintro⟨k,l,b⟩;exact⟨k,by omega,b⟩
  ·rintro⟨k,l,b,c⟩;by_cases f:k=t
   ·subst f;rw[hl]at b;exact absurd (bY6 b).symm e
   ·exact⟨k,by omega,b,c⟩
theorem aJ2(cl:Cl K CB CL)(F:Fun K "answered_by" "Book.answered_by" aQR f fd):xH P w K mg base CX0 (n+1) f fd ["self","day"] (aXK CB CL):=by
 have sc:=aVs;refine F.ok (k:=n) sc (λa0 A outer s H vs Q E Z h=>?_);obtain⟨M,Y,sa,N,cs,R,S,d,rfl,D,hR,q⟩:=h;refine⟨_,(yC (yU (i:=2) bZd) (yC (wL cQF rfl (xR (y7 (pv 0) rfl)) (xE (i:=3)) (yG (y6 (PW.pt (v8 (yM z6 (y7 (pv 3) rfl) x3) (vL (yM aYU (y7 (pv 3) rfl) (pv 1))))) (yG (bVB (bWL Z) (pv 2) (y7 (pv 3) rfl) vI rfl)) yT))) (yG (yQ (pv 2))))),?_⟩;obtain⟨dx,hb⟩:=D.book;have hl:(N.map V.ref).length=R.length:=by rw[bYR];exact D.len
 intro a I;dsimp only[yX];have J:=yE I (.dK []);refine⟨_,rfl,M,CB,dx,_,_,rfl,J _ _ hb,cl.b,cl.letters,rfl,Y,rfl,⟨_,SqL.of (J _ _ D.lst)⟩,?_⟩;refine zX (xs:=N.map V.ref) (λt σ r=>∃ (e:List (Key×V))(o:Option V),σ= [some (.ref M),some (.int d),some (.ref a),o]/\xF H r/\r a=some (.dK e)/\e.length<=t/\bJG R t d e) ?_ ?_ ?_ ?_
 ·exact⟨[],none,rfl,J,yB,cQM _,λj=>⟨λz=>(by cases z),λ⟨k,z,_⟩=>absurd z (cXr _)⟩⟩
 ·rintro t σ r O ⟨e,o,rfl,g,y,W,u⟩;exact SqL.of (g _ _ D.lst)
 ·rintro t x σ r T ⟨e,o,rfl,g,y,W,u⟩;have O:t<R.length:=by rw[<- hl];exact(bYY.mp T).1
  have v:=bYL O;obtain⟨b,c,X,g2,g3,⟨m,L⟩,g5⟩:=(D.same g).get v;obtain rfl:x= .ref b:=bY6 (T.symm.trans X);dsimp only[yX];refine⟨_,rfl,b,CL,m,_,_,rfl,L,cl.l,cl.link,rfl,rfl,_,rfl,?_⟩;have C:=Bk.wM v;have B:=Bk.w9 v;cases p:R[t].link with
  |none=>exact onF rfl (onF rfl ⟨e,_,rfl,g,y,by omega,aZB u λj G=>by rw[C,p]at G;cases G⟩)
  |some i=>
   refine onT rfl ⟨_,rfl,b,CL,m,_,_,rfl,L,cl.l,cl.day,rfl,_,rfl,_,_,rfl,rfl,_,rfl,?_⟩;cases U:decide (R[t].date<=d)with
   |false=>exact onF rfl ⟨e,_,rfl,g,y,by omega,aZB u λj G=>by rw[B];exact of_decide_eq_false U⟩
   |true=>refine onT rfl ⟨_,rfl,_,rfl,b,CL,m,_,_,rfl,L,cl.l,cl.link,rfl,a,upd r a (.dK (aVc e (Sum.inl (i:Int)) (.bl true))),rfl,?_⟩;rw[p];refine⟨bWt.k (k:=Sum.inl (i:Int)) y (by rw[cQe];omega),_,_,rfl,?_,yB,cQo (qH _ _ _) (by omega),bXb u (by rw[C,p]) (by rw[B];exact of_decide_eq_true U)⟩;exact aXd g I
 ·rintro σ r ⟨e,o,rfl,g,y,W,u⟩;rw[hl]at u;exact⟨_,rfl,q a r e g I y u⟩
theorem bZ6{R:Rows}{i:Nat}{r:Row}{d:Int}{a:List (Key×V)}(l:R[i]? =some r)(j:bJG R R.length d a): Bk.aQa R i d=(decide (W6 r > 0) && (decide (r.date<=d) && !(aQk a (Sum.inl (i:Int))).isSome)):=by
 have g:((Bk.zV R i).all λk=>decide (d<Bk.dt R k))= !(aQk a (Sum.inl (i:Int))).isSome:=by
  rw[Bool.eq_iff_iff,cZX,Bool.not_eq_true',Bool.eq_false_iff,ne_eq,j i];constructor
  ·rintro h ⟨k,f,c,m⟩;have:=of_decide_eq_true (h k (cQE.mpr ⟨cQi.mpr f,decide_eq_true c⟩));omega
  ·intro h k b;obtain⟨f,c⟩:=cQE.mp b;refine decide_eq_true ?_;by_cases z:Bk.dt R k<=d
   ·exact absurd ⟨k,cQi.mp f,of_decide_eq_true c,z⟩ h
   ·omega
 unfold Bk.aQa;rw[l];dsimp only;rw[g];unfold W6;cases r.void with
 |true=>rfl
 |false=>
  rw[if_neg (by decide)];have e:decide (1<=r.term)=decide (r.term > 0):=by rw[Bool.eq_iff_iff];simp;omega
  rw[e];simp[Bool.and_assoc]
theorem bZE:yN ["self","day","answered","pairs","letter"] ["self","day"] (yH bQj):=scM
theorem bX2(T:vP mg)(cl:Cl K CB CL)(j:MG P w K mg base CX0 n CB "answered_by" ["self","day"] (aXK CB CL))(r:FnG P w K mg base n "due_day" ["shut","date","term"] (Days.bKr K)) (F:Fun K "waiting_pairs" "Book.waiting_pairs" bQj f fd):xH P w K mg base CX0 (n+1) f fd ["self","day"] (aVC CB CL):=by
 have sc:=bZE;refine F.ok (k:=n) sc (λc3 A outer s H vs Q E hr h=>?_);obtain⟨U,la,sa,ls,cs,R,S,d,rfl,hB,hR,hS,q⟩:=h;refine⟨_,(yC (yU (i:=2) (v7 j hr v5 (pv 0) (yA (pv 1) yD))) (yC (yU (i:=3) (yZ yD)) (yC (wL cQF rfl (xR (y7 (pv 0) rfl)) (xE (i:=4)) (yG (y6 (PW.pt (v8 (yM aXp (y7 (pv 4) rfl) yF) (v8 (yM aYU (y7 (pv 4) rfl) (pv 1)) (vL (bW9 (aYX (bWL hr) (y7 (pv 4) rfl) (pv 2))))))) (yG (y0 (v6 cQj cQr cQs xL (pv 3) (yA (y8 (yA (xO r hr rfl (yA (y7 (pv 0) rfl) (yA (y7 (pv 4) rfl) (yA (y7 (pv 4) rfl) yD)))) (yA (y7 (pv 4) rfl) yD))) yD)))) yT))) (yG (yQ (yS uO rfl T.b_sorted vF (yA (pv 3) yD))))))),?_⟩;obtain⟨dx,hb⟩:=hB.book;have hl:(ls.map V.ref).length=R.length:=by rw[bYR];exact hB.len
 refine⟨_,rfl,U,dx,_,rfl,hb,rfl,_,rfl,U,la,sa,ls,cs,R,S,d,rfl,hB,hR,λa H0 b8 Z c1 a4 hA=>?_⟩;dsimp only[yX];refine⟨z0,λG J=>?_⟩;dsimp only[yX];have k1:xF H (upd H0 G (.lst [])):=Z.trans (yE J _);have c0:H G=none:=Z.fresh J;refine⟨_,rfl,U,CB,dx,_,_,rfl,k1 _ _ hb,cl.b,cl.letters,rfl,la,rfl,⟨_,SqL.of (k1 _ _ hB.lst)⟩,?_⟩;have c2:a≠G:=yI a4 J;refine zX (xs:=ls.map V.ref) (λt σ C=>∃ (g:List V)(o:Option V),σ= [some (.ref U),some (.int d),some (.ref a),some (.ref G),o]/\xF H0 C/\C G=some (.lst g)/\
  cQI (aKJ C (jX R S)) ((bYW t).filter (X0 R S d false)) g) ?_ ?_ ?_ ?_
 ·exact⟨[],none,rfl,yE J _,yB,.nil⟩
 ·rintro t σ C ht ⟨g,o,rfl,O,L,M⟩;exact SqL.of (O _ _ (Z _ _ hB.lst))
 ·rintro t x σ C hx ⟨g,o,rfl,O,L,M⟩;have ht:t<R.length:=by rw[<- hl];exact(bYY.mp hx).1
  have N:=bYL ht;have W:=(hB.same Z).same O;obtain⟨b2,b1⟩:=W.book;obtain⟨b,c,g1,g2,g3,⟨v,g4⟩,g5⟩:=W.get N;obtain rfl:x= .ref b:=bY6 (hx.symm.trans g1);rw[cZd,cQZ];dsimp only[yX];have hw:=bZ6 N hA;have u:X0 R S d false t=Bk.aQa R t d:=by unfold X0;simp
  have stay:∀o',X0 R S d false t=false->∃ (g:List V)(p:Option V),[some (V.ref U),some (V.int d),some (V.ref a),some (V.ref G),o']= [some (.ref U),some (.int d),some (.ref a),some (.ref G),p]/\xF H0 C/\C G=some (.lst g)/\
    cQI (aKJ C (jX R S)) ((bYW t).filter (X0 R S d false)++ [t].filter (X0 R S d false)) g:=λo' e=>by
   have e3: [t].filter (X0 R S d false)= []:=by simp[e]
   rw[e3,cQP]
   exact⟨g,o',rfl,O,L,M⟩
  refine⟨_,rfl,b,CL,v,_,_,rfl,g4,cl.l,cl.term,rfl,_,_,rfl,rfl,_,rfl,?_⟩;cases h1:decide (W6 R[t] > 0)with
  |false=>exact onF rfl (onF rfl (stay _ (by rw[u,hw,h1];rfl)))
  |true=>
   refine onT rfl ⟨_,rfl,b,CL,v,_,_,rfl,g4,cl.l,cl.day,rfl,_,rfl,_,_,rfl,rfl,_,rfl,?_⟩;cases h2:decide (R[t].date<=d)with
   |false=>exact onF rfl (onF rfl (stay _ (by rw[u,hw,h1,h2];rfl)))
   |true=>
    refine onT rfl ⟨_,rfl,b,CL,v,_,_,rfl,g4,cl.l,cl.number,rfl,_,rfl,a,_,rfl,bWs.k (k:=Sum.inl (t:Int)) (O _ _ a4),_,rfl,?_⟩;cases h3:(aQk b8 (Sum.inl (t:Int))).isSome with
    |true=>exact onF rfl (stay _ (by rw[u,hw,h1,h2,h3];rfl))
    |false=>
     have a9:Bk.aQa R t d=true:=by rw[hw,h1,h2,h3];rfl
     have b7:=Law.aXP ht a9;have hv:R[t].void=false:=by
      cases hv:R[t].void with
      |false=>rfl
      |true=>have:=of_decide_eq_true h1;unfold W6 at this;rw[hv]at this;simp at this
     have a0:W6 R[t]=R[t].term:=by unfold W6;rw[hv];rfl
     refine onT rfl ⟨_,rfl,.inl ⟨rfl,_,SqL.of L⟩,_,rfl,U,CB,b2,_,_,rfl,b1,cl.b,cl.shut,rfl,_,rfl,b,CL,v,_,_,rfl,g4,cl.l,cl.day,rfl,_,rfl,b,CL,v,_,_,rfl,g4,cl.l,cl.term,rfl,?_⟩;refine⟨sa,S,_,_,rfl,SqL.of W.sht,hS,by rw[a0];exact b7,λH2 D X hD=>?_⟩;have eD:D=jX R S t:=by unfold jX;rw[N,Bk.w9 N];rw[a0]at hD;exact(Bk.bJe hD).symm
     subst eD;refine⟨_,rfl,b,CL,v,_,_,rfl,X _ _ g4,cl.l,cl.number,rfl,z2,λY b9=>?_⟩;have b3:=X _ _ L;have k5:=yE b9 (.tup [V.int (jX R S t),V.int (t:Nat)]);have a5:=k5 _ _ b3;have il:g.length<=t:=by rw[<- M.length];exact cQo (cQL _ _) (by simp)
     have t6:∀a xs,upd H2 Y (.tup [V.int (jX R S t),V.int (t:Nat)]) a=some (.tup xs)->upd (upd H2 Y (.tup [V.int (jX R S t),V.int (t:Nat)])) G (.lst (g++ [V.ref Y])) a=some (.tup xs):=λa xs e=>by rw[yJ (aXl e a5 (by intro z;cases z))];exact e
     have e3: [t].filter (X0 R S d false)= [t]:=by simp[u,a9]
     refine⟨G,g,.ref Y,rfl,rfl,a5,zlt (by omega),g++ [.ref Y],_,rfl,aXd (O.trans (X.trans k5)) J,yB,?_⟩;rw[e3];exact aJa ⟨Y,rfl,t6 _ _ yB⟩ (Paired.mapP M λ_ _ z=>z.tk λa xs e=>t6 _ _ (k5 _ _ (X _ _ e)))
 ·rintro σ C ⟨g,o,rfl,O,L,M⟩;rw[hl]at M;generalize I:(bYW R.length).filter (X0 R S d false)=fam at M;have a3:fam.length=g.length:=M.length;have fn:fam.length<=R.length:=by rw[<- I];exact cQo (cQL _ _) (by simp)
  have a2:∀k,k∈fam↔k<R.length/\X0 R S d false k=true:=λk=>by rw[<- I,cQE,cQi]
  have b6:fam.Nodup:=by rw[<- I];exact cZZ.sublist cXN
  refine⟨_,rfl,G,g,λm=>(jX R S (fam.getD m 0),((fam.getD m 0:Nat):Int)),rfl,L,by omega,λa b ha hb e=>?_,λm x hx=>?_,λl y a6 a7 b0=>?_⟩
  ·have e2:fam.getD a 0=fam.getD b 0:=by have:=congrArg Prod.snd e;simp only at this;omega
   have a8:a<fam.length:=by omega
   have a1:b<fam.length:=by omega
   simp[cQx,bYL a8,bYL a1]at e2;exact(cXE (h₀:=a8) (h₁:=a1) b6).mp e2
  ·obtain⟨k,hk,p,L,e2⟩:=bQ9 M hx;have:fam.getD m 0=k:=by simp[cQx,hk]
   show ∃a,x=V.ref a/\C a=some (.tup [V.int (jX R S (fam.getD m 0)),V.int ((fam.getD m 0:Nat):Int)]);rw[this];exact⟨p,L,e2⟩
  ·have hm:∀m∈y,m<g.length:=λm hm=>cQi.mp (a7.mem_iff.mp hm);have X:=yE a6 (.lst (y.map λi=>g.getD i .non));refine q l _ (y.map λm=>fam.getD m 0) _ (Z.trans (O.trans X)) ((Z.trans O).fresh a6) yB ?_ ⟨λk=>?_,?_⟩
   ·have go:∀o:List Nat,(∀m∈o,m<g.length)->cQI (aKJ (upd C l (.lst (y.map λi=>g.getD i .non))) (jX R S)) (o.map λm=>fam.getD m 0) (o.map λi=>g.getD i .non):=by
     intro o;induction o with
     |nil=>intro _;exact .nil
     |cons m o ih=>
      intro h;refine .cons ?_ (ih λx hx=>h x (bYZ _ hx));have B:=h m bY4;have hg:g[m]? =some (g.getD m .non):=by simp[cQx,bYL B]
      obtain⟨k,hk,p,L,e2⟩:=bQ9 M hg;have:fam.getD m 0=k:=by simp[cQx,hk]
      show aKJ _ _ (fam.getD m 0) (g.getD m .non);rw[this];exact⟨p,L,X _ _ e2⟩
    exact go y hm
   ·have b5:k∈y.map (λm=>fam.getD m 0)↔k∈fam:=by
     constructor
     ·intro h;obtain⟨m,b4,rfl⟩:=cQR.mp h;have B:m<fam.length:=by rw[a3];exact hm m b4
      simp[cQx,bYL B]
     ·intro h;obtain⟨m,B,e⟩:=cQD h;refine cQR.mpr ⟨m,a7.mem_iff.mpr (cQi.mpr (by omega)),?_⟩;simp[cQx,bYL B,e]
    rw[b5,a2 k];unfold X0;simp
   ·rw[cJk];exact b0
theorem bZb{α β:Type}{F:α->β->Prop}:∀ {l:List α} {m:List β} {i:Nat} {y:β},cQI F l m->m[i]? =some y->∃x,l[i]? =some x/\F x y:=λh e=>bQ9 h e
theorem aZV{α:Type}(a:List Nat)(g:Nat->Bool)(h:Nat->α):((bYW a.length).filter λm=>g (a.getD m 0)).map (λm=>h (a.getD m 0))=(a.filter g).map h:=by
 have e:(bYW a.length).map (λm=>a.getD m 0)=a:=by
  apply cXA;intro i;rw[bY7];by_cases b:i<a.length
  ·rw[cXO b];simp[bYL b]
  ·rw[cQk (by simpa using b),cQk (by omega)];rfl
 conv=>rhs;rw[<- e,List.filter_map,cZO]
 rfl
theorem aKA:yN ["self","day"] ["self","day"] (yH aQg):=scM
theorem aWU:xQ ["self","day"] (yH aQg) "pair" [] [] {kind:= .function,names:= [(".0",.local),("pair",.local)],isGenerator:=false,isCoroutine:=false,more:= [] }:=
 lcM
theorem aKf(cl:Cl K CB CL)(a:MG P w K mg base CX0 n CB "waiting_pairs" ["self","day"] (aVC CB CL))(F:Fun K "waiting" "Book.waiting" aQg f fd):xH P w K mg base CX0 (n+1) f fd ["self","day"] (bKK CB CL false):=by
 have Y:=aKA;refine F.ok (k:=n) Y (λa0 A outer s H vs Q E T h=>?_);obtain⟨B,O,W,Z,X,R,S,d,rfl,G,hR,hS,q⟩:=h;refine⟨_,(yG (yQ (aXq aWU rfl (xR (v7 a T v5 (pv 0) (yA (pv 1) yD))) (λ_ _ _ _ _=>vB) (λ_ _ _ _ _=>(yL (show IxR _ (bZk K)from yW) (pv 0) yF))))),?_⟩;obtain⟨dx,hb⟩:=G.book;refine⟨_,rfl,B,dx,_,rfl,hb,rfl,_,rfl,B,O,W,Z,X,R,S,d,rfl,G,hR,hS,λl H1 g ps I a2 r C c=>?_⟩;have o:g.length=ps.length:=C.length;have a1:g.length<=R.length:=Fm.wW (c.ord.imp λ{x y} e z=>by rw[z,Stree.vV]at e;cases e) λx hx=>((c.mem x).mp hx).1;refine⟨l,rfl,⟨_,SqL.of r⟩,λD t=>?_⟩;refine aWS (λ_=>true) (λm=>V.int (g.getD m 0:Nat)) (SqL.of r) t (zn (by omega)) (λj v L M N u b=>b) (λj v L _ M N u b=>?_) ?_
 ·obtain⟨k,U,p,e1,J⟩:=bQ9 C L;subst e1;have:g.getD j 0=k:=by simp[cQx,U]
  rw[this]at b;exact⟨_,rfl,p,_,1,_,rfl,rfl,SqT.of ((u p (yI J t)).trans J),rfl,b⟩
 ·have e:=aZV g (λ_=>true) λi=>V.int (i:Nat);rw[o]at e;rw[e,cZA.mpr λ_ _=>rfl];exact q D _ g (I.trans (yE t _)) (I.fresh t) yB c
theorem aKw:yN ["self","day"] ["self","day"] (yH aQf):=scM
theorem aWT:xQ ["self","day"] (yH aQf) "pair" ["day"] [1] {kind:= .function,names:= [(".0",.local),("pair",.local),("day",.free)],isGenerator:=false,isCoroutine:=false,more:= [] }:=
 lcM
theorem aKb(cl:Cl K CB CL)(g:MG P w K mg base CX0 n CB "waiting_pairs" ["self","day"] (aVC CB CL))(F:Fun K "overdue" "Book.overdue" aQf f fd):xH P w K mg base CX0 (n+1) f fd ["self","day"] (bKK CB CL true):=by
 have sc:=aKw;refine F.ok (k:=n) sc (λa0 A outer s H vs Q E Z h=>?_);obtain⟨O,Y,sa,ls,cs,R,S,d,rfl,T,hR,hS,q⟩:=h;refine⟨_,(yG (yQ (aXq aWT rfl (xR (v7 g Z v5 (pv 0) (yA (pv 1) yD))) (λ_ _ _ _ _=>(wF (yM vQ (yL (show IxR _ (bZk K)from yW) (pv 0) yF) (pv 1)))) (λ_ _ _ _ _=>(yL (show IxR _ (bZk K)from yW) (pv 0) yF))))),?_⟩;obtain⟨dx,hb⟩:=T.book;refine⟨_,rfl,O,dx,_,rfl,hb,rfl,_,rfl,O,Y,sa,ls,cs,R,S,d,rfl,T,hR,hS,λl H1 t ps U a2 B L r=>?_⟩;have u:t.length=ps.length:=L.length;have a1:t.length<=R.length:=Fm.wW (r.ord.imp λ{x y} e z=>by rw[z,Stree.vV]at e;cases e) λx hx=>((r.mem x).mp hx).1;refine⟨l,rfl,⟨_,SqL.of B⟩,λD G=>?_⟩;refine aWS (λm=>decide (jX R S (t.getD m 0)<d)) (λm=>V.int (t.getD m 0:Nat)) (SqL.of B) G (zn (by omega)) (λj v M W X I o=>?_) (λj v M _ W X I o=>?_) ?_
 ·obtain⟨k,J,p,N,C⟩:=bQ9 L M;subst N;have:t.getD j 0=k:=by simp[cQx,J]
  rw[this]at o;exact⟨_,rfl,p,_,0,_,rfl,rfl,SqT.of ((I p (yI C G)).trans C),rfl,_,rfl,_,_,rfl,rfl,_,rfl,o⟩
 ·obtain⟨k,J,p,N,C⟩:=bQ9 L M;subst N;have:t.getD j 0=k:=by simp[cQx,J]
  rw[this]at o;exact⟨_,rfl,p,_,1,_,rfl,rfl,SqT.of ((I p (yI C G)).trans C),rfl,o⟩
 ·have e:=aZV t (λk=>decide (jX R S k<d)) λi=>V.int (i:Nat);rw[u]at e;rw[e];refine q D _ (t.filter λk=>decide (jX R S k<d)) (U.trans (yE G _)) (U.fresh G) yB ⟨λk=>?_,r.ord.sublist cXN⟩;rw[cQE,r.mem k,decide_eq_true_eq];unfold jX;constructor
  ·rintro⟨⟨a,b,_⟩,c⟩;exact⟨a,b,λ_=>c⟩
  ·rintro⟨a,b,c⟩;exact⟨⟨a,b,λz=>by cases z⟩,c rfl⟩
end
end Desk
namespace Desk
open PySem L2 PyProof.Rows
open Bk (Row Rows)
def own(la sa:Nat)(ls cs:List Nat):List Nat:=la::sa::(ls++cs)
def aXg(o:List Nat)(H a:Hp):Prop:=∀b u,b∉o->(∀c,u≠ .tbl c)->H b=some u->a b=some u
theorem aXg.of{o:List Nat}{H a:Hp}(k:x8 H a):aXg o H a:=λb u _ n e=>k b u n e
theorem aXg.trans{o:List Nat}{H f d:Hp}(a:aXg o H f)(b:aXg o f d):aXg o H d:=λc u n t e=>b c u n t (a c u n t e)
theorem aYV{la sa:Nat}{ls cs:List Nat}:la∈own la sa ls cs:=bY4
theorem bJq{la sa:Nat}{ls cs:List Nat}:sa∈own la sa ls cs:=bYZ _ bY4
theorem aVa{la sa b:Nat}{ls cs:List Nat}(h:b∈ls):b∈own la sa ls cs:=bYZ _ (bYZ _ (cXV _ h))
theorem bW2{la sa b:Nat}{ls cs:List Nat}(h:b∈cs):b∈own la sa ls cs:=bYZ _ (bYZ _ (cQc _ h))
section
variable {CB CL:Nat}{H:Hp}{ba la sa:Nat}{ls cs:List Nat}{R:Rows}{S:List Int}
theorem PB.l_ne(h:PB CB CL H ba la sa ls cs R S){b a:Nat}{xs:List V}(g:b∈ls)(f:H a=some (.lst xs)):a≠b:=λz=>by
 obtain⟨i,c,e⟩:=cQD g;obtain⟨n,k,m,d,l,⟨o,j⟩,p⟩:=h.get (bYL (show i<R.length by rw[<- h.len];exact c));rw[bYL c,e]at d;cases d;rw[z,j]at f;cases f
theorem PB.ba_ne(h:PB CB CL H ba la sa ls cs R S):ba∉ls:=λz=>by
 obtain⟨i,a,e⟩:=cQD z;obtain⟨l,g,k,b,j,⟨m,f⟩,n⟩:=h.get (bYL (show i<R.length by rw[<- h.len];exact a));rw[bYL a,e]at b;cases b;obtain⟨d,c⟩:=h.book;rw[f]at c;cases c
theorem PB.set(h:PB CB CL H ba la sa ls cs R S){k:Nat}{b c dx:Nat}{r:Row}(l:ls[k]? =some b)(u:cs[k]? =some c)(s:R[k]? =some r)(f:Row->Row)(B:(f r).copies=r.copies): PB CB CL (upd H b (.ins CL dx (aZ1 k (f r) c))) ba la sa ls cs (Bk.xG R k f) S:=by
 have a:=bY5 l;refine⟨?_,?_,?_,by rw[Bk.xX];exact h.len,by rw[Bk.xX];exact h.clen,h.nd,h.cnd,h.las,h.lac,h.sac,λi t y A m o g=>?_⟩
 ·obtain⟨d,e⟩:=h.book;exact⟨d,by rw[yJ (λz=>h.ba_ne (by rw[z];exact a))];exact e⟩
 ·rw[yJ (h.l_ne a h.lst)];exact h.lst
 ·rw[yJ (h.l_ne a h.sht)];exact h.sht
 ·rw[Bk.xJ]at g;by_cases e:i=k
  ·subst e;rw[if_pos rfl,s]at g;cases g;rw[l]at m;cases m;rw[u]at o;cases o;obtain⟨_,j⟩:=h.row i b c r l u s;refine⟨⟨dx,yB⟩,?_⟩;rw[yJ (h.l_ne a j),B];exact j
  ·rw[if_neg e]at g;obtain⟨⟨d,v⟩,j⟩:=h.row i t y A m o g;have p:t≠b:=λz=>by
    subst z;obtain⟨x,q⟩:=bYY.mp m;obtain⟨w,n⟩:=bYY.mp l;exact e ((cXE h.nd).mp (q.trans n.symm))
   exact⟨⟨d,by rw[yJ p];exact v⟩,by rw[yJ (h.l_ne a j)];exact j⟩
theorem PB.copy(h:PB CB CL H ba la sa ls cs R S){k:Nat}{c:Nat}{r:Row}(g:cs[k]? =some c)(o:R[k]? =some r)(j:Str): PB CB CL (upd H c (.lst ((r.copies++ [j]).map V.str))) ba la sa ls cs (Bk.xG R k λr=>{r with copies:=r.copies++ [j] }) S:=by
 have l:=bY5 g;obtain⟨b0,G,K,J,x,⟨D,I⟩,E⟩:=h.get o;rw[g]at x;cases x;have s:∀ {a C dx fs},H a=some (.ins C dx fs)->a≠c:=λq z=>by rw[z,E]at q;cases q
 refine⟨?_,?_,?_,by rw[Bk.xX];exact h.len,by rw[Bk.xX];exact h.clen,h.nd,h.cnd,h.las,h.lac,h.sac,λi w v F y m d=>?_⟩
 ·obtain⟨b,e⟩:=h.book;exact⟨b,by rw[yJ (s e)];exact e⟩
 ·rw[yJ (λz=>h.lac (by rw[z];exact l))];exact h.lst
 ·rw[yJ (λz=>h.sac (by rw[z];exact l))];exact h.sht
 ·rw[Bk.xJ]at d;by_cases e:i=k
  ·subst e;rw[if_pos rfl,o]at d;cases d;rw[g]at m;cases m;obtain⟨⟨b,f⟩,u⟩:=h.row i w c r y g o;exact⟨⟨b,by rw[yJ (s f)];exact f⟩,yB⟩
  ·rw[if_neg e]at d;obtain⟨⟨b,f⟩,u⟩:=h.row i w v F y m d;have p:v≠c:=λz=>by
    subst z;obtain⟨B,t⟩:=bYY.mp m;obtain⟨A,n⟩:=bYY.mp g;exact e ((cXE h.cnd).mp (t.trans n.symm))
   exact⟨⟨b,by rw[yJ (s f)];exact f⟩,by rw[yJ p];exact u⟩
theorem PB.shutD(h:PB CB CL H ba la sa ls cs R S)(d:Int):PB CB CL (upd H sa (.lst ((S++ [d]).map V.int))) ba la sa ls cs R (S++ [d]):=by
 have c:∀ {a C dx fs},H a=some (.ins C dx fs)->a≠sa:=λq z=>by rw[z,h.sht]at q;cases q
 refine⟨?_,?_,yB,h.len,h.clen,h.nd,h.cnd,h.las,h.lac,h.sac,λi m j k o g l=>?_⟩
 ·obtain⟨b,e⟩:=h.book;exact⟨b,by rw[yJ (c e)];exact e⟩
 ·rw[yJ h.las];exact h.lst
 ·obtain⟨⟨b,f⟩,n⟩:=h.row i m j k o g l;exact⟨⟨b,by rw[yJ (c f)];exact f⟩,by rw[yJ (λz=>h.sac (by rw[<- z];exact bY5 g))];exact n⟩
theorem PB.enter(h:PB CB CL H ba la sa ls cs R S){l c dx:Nat}{r:Row}{s:Hp}(hl:H l=none)(g:H c=none)(M:l≠c)(I:r.copies= [])(L:s l=some (.ins CL dx (aZ1 R.length r c)))(O:s c=some (.lst [])) (k:∀b o,H b=some o->s b=some o):PB CB CL (upd s la (.lst ((ls++ [l]).map V.ref))) ba la sa (ls++ [l]) (cs++ [c]) (R++ [r]) S:=by
 have D:l≠la:=λz=>by rw[z,h.lst]at hl;cases hl
 have p:c≠la:=λz=>by rw[z,h.lst]at g;cases g
 have E:∀ {a C dx fs},H a=some (.ins C dx fs)->a≠la:=λq z=>by rw[z,h.lst]at q;cases q
 have K:∀i b,ls[i]? =some b->i<R.length:=λi b q=>by rw[<- h.len];exact(bYY.mp q).1
 have nl:l∉ls:=λz=>by obtain⟨i,f,e⟩:=cQD z;obtain⟨x,v,t,n,w,⟨d,G⟩,F⟩:=h.get (bYL (show i<R.length by rw[<- h.len];exact f));rw[bYL f,e]at n;cases n;rw[G]at hl;cases hl
 have J:c∉cs:=λz=>by obtain⟨i,f,e⟩:=cQD z;obtain⟨x,v,t,n,w,G,F⟩:=h.get (bYL (show i<R.length by rw[<- h.clen];exact f));rw[bYL f,e]at w;cases w;rw[F]at g;cases g
 refine⟨?_,yB,?_,by simp[h.len],by simp[h.clen],?_,?_,h.las,?_,?_,λi x v N u m j=>?_⟩
 ·obtain⟨d,e⟩:=h.book;exact⟨d,by rw[yJ (E e)];exact k _ _ e⟩
 ·rw[yJ (cQu h.las)];exact k _ _ h.sht
 ·exact cZi.mpr ⟨h.nd,cXd _ _,λa A b y z=>nl (by rw[<- bY1.mp y,<- z];exact A)⟩
 ·exact cZi.mpr ⟨h.cnd,cXd _ _,λa A b y z=>J (by rw[<- bY1.mp y,<- z];exact A)⟩
 ·intro z;rcases cQn.mp z with z|z
  ·exact h.lac z
  ·exact p (bY1.mp z).symm
 ·intro z;rcases cQn.mp z with z|z
  ·exact h.sac z
  ·rw[<- bY1.mp z,h.sht]at g;cases g
 ·by_cases f:i<R.length
  ·rw[cQp (by rw[h.len];exact f)]at u;rw[cQp (by rw[h.clen];exact f)]at m;rw[cQp f]at j;obtain⟨⟨d,t⟩,n⟩:=h.row i x v N u m j;exact⟨⟨d,by rw[yJ (E t)];exact k _ _ t⟩,by rw[yJ (λz=>h.lac (by rw[<- z];exact bY5 m))];exact k _ _ n⟩
  ·have B:i=R.length:=by
    have:=(bYY.mp j).1;simp at this;omega
   subst B;rw[bY9 (by rw[h.len];exact bYT _),h.len,cQ4]at u;rw[bY9 (by rw[h.clen];exact bYT _),h.clen,cQ4]at m;rw[bY9 (bYT _),cQ4]at j;cases u;cases m;cases j;exact⟨⟨dx,by rw[yJ D];exact L⟩,by rw[yJ p,O,I];rfl⟩
end
def bQM(CB:Nat):Sp:=λd H Q _=>∃ (x c:Nat),d= [.ref x]/\H x=some (.ins CB c [])/\
 ∀ (la sa:Nat)(a:Hp),H la=none->H sa=none->la≠sa->a x=some (.ins CB c [("letters",.ref la),("shut",.ref sa)])->a la=some (.lst [])->a sa=some (.lst [])->(∀b,b≠x->b≠la->b≠sa->a b=H b)->Q .non a
def bWb(CB CL:Nat):Sp:=λg H Q _=>∃ (ba la sa:Nat)(ls cs:List Nat)(R:Rows)(S:List Int)(e:Str)(d:Int)(a:Str)(t:Int),g= [.ref ba,.str e,.int d,.str a,.int t]/\PB CB CL H ba la sa ls cs R S/\R.length<=1000/\
 ∀ (l c:Nat)(f:Hp),H l=none->H c=none->PB CB CL f ba la sa (ls++ [l]) (cs++ [c]) (R++ [⟨e,d,a,t,none,"",false,[]⟩]) S->(∀b o,b≠la->H b=some o->f b=some o)->Q (.ref l) f
def aZu(K:bYO)(Rf:Nat×Nat):Sp:=λa H Q E=>∃t:Int,a= [.int t]/\(0<=t->Q .non H)/\(t<0->xM K Rf H E "no term")
def aZt(K:bYO)(Rf:Nat×Nat):Sp:=λc H Q E=>∃a b:Int,c= [.int a,.int b]/\(a<=b->Q .non H)/\(b<a->xM K Rf H E "too early")
section
variable {K:bYO}
abbrev bQa:Stmt:=xK "Book" "__init__"
abbrev bK5:Stmt:=xK "Book" "add_letter"
abbrev bQn:Stmt:=xI "check_term"
abbrev bQe:Stmt:=xI "check_days"
theorem bZv:yN ["self"] ["self"] (yH bQa):=scM
theorem bXT(cl:Cl K CB CL)(F:Fun K "__init__" "Book.__init__" bQa f fd):xH P w K mg base CX0 (n+1) f fd ["self"] (bQM CB):=by
 have r:=bZv;refine F.ok (k:=n) r (λt A outer s H v Q E u h=>?_);obtain⟨x,l,rfl,j,q⟩:=h;refine⟨_,(yC (zR (pv 0) (yZ yD) rfl) (yG (zR (pv 0) (yZ yD) rfl))),?_⟩;refine⟨z0,λla g=>?_⟩;have c:x≠la:=yI j g;refine⟨_,rfl,x,CB,l,_,rfl,(yJ c).trans j,cl.b,cl.letters,(show 0<1000 by decide),?_⟩;refine⟨z0,λsa a=>?_⟩;have d:x≠sa:=yI yB a;have e:la≠sa:=λz=>by rw[<- z,yJ (cQu c),yB]at a;cases a
 refine⟨_,rfl,x,CB,l,_,rfl,(yJ d).trans yB,cl.b,cl.shut,(show 1<1000 by decide),?_⟩;have i:H sa=none:=by rw[yJ (cQu d),yJ (cQu e)]at a;exact a
 refine q la sa _ g i e yB ?_ ?_ λb m p o=>?_
 ·rw[yJ (cQu c),yJ e,yJ (cQu c),yB]
 ·rw[yJ (cQu d),yB]
 ·rw[yJ m,yJ o,yJ m,yJ p]
theorem bKg:yN ["self","way","day","partner","term","letter"] ["self","way","day","partner","term"] (yH bK5):=scM
theorem bWU(T:vP mg)(cl:Cl K CB CL)(a:MkG P w K mg base n "Letter" CL ["self","number","way","day","partner","term"] (bQS CL))(F:Fun K "add_letter" "Book.add_letter" bK5 f fd): xH P w K mg base CX0 (n+2) f fd ["self","way","day","partner","term"] (bWb CB CL):=by
 have U:=bKg;refine F.ok (k:=n+1) U (λW A outer s H vs Q E N h=>?_);obtain⟨ba,la,sa,ls,cs,R,S,C,d,B,t,rfl,j,hR,q⟩:=h;refine⟨_,(yC (yU (i:=5) (bK2 a N rfl (yA (yS yO rfl T.b_len xD (yA (y7 (pv 0) rfl) yD)) (yA (pv 1) (yA (pv 2) (yA (pv 3) (yA (pv 4) yD))))))) (yC (y0 (v6 cQj cQr cQs xL (y7 (pv 0) rfl) (yA (pv 5) yD))) (yG (yQ (pv 5))))),?_⟩;obtain⟨J,I⟩:=j.book;have hl:(ls.map V.ref).length=R.length:=by rw[bYR];exact j.len
 refine⟨_,rfl,ba,CB,J,_,_,rfl,I,cl.b,cl.letters,rfl,la,_,rfl,.inl (SqL.of j.lst),?_⟩;rw[hl];refine⟨_,rfl,_,rfl,_,rfl,_,rfl,λx xd D G v=>?_⟩;refine⟨x,xd,R.length,C,d,B,t,rfl,yB,λc O l Y M L=>⟨rfl,?_⟩⟩;dsimp only[yX];have p:c≠x:=λz=>by rw[z,yB]at l;cases l
 have u:c≠xd:=λz=>by rw[z,yJ v,yB]at l;cases l
 have g:H c=none:=by rw[yJ p,yJ u]at l;exact l
 have r:∀b o,H b=some o->O b=some o:=λb o e=>by have b1:=yI e D;have X:=yI e g;have Z:=yI e G;rw[L b b1 X,yJ b1,yJ Z];exact e
 refine⟨_,rfl,ba,CB,J,_,_,rfl,r _ _ I,cl.b,cl.letters,rfl,.inl ⟨rfl,_,SqL.of (r _ _ j.lst)⟩,_,rfl,la,_,_,rfl,rfl,r _ _ j.lst,zlt (by omega),?_⟩;refine⟨_,rfl,?_⟩;have m:=j.enter D g (cQu p) rfl Y M r;rw[cXq]at m;refine q x c _ D g m λb o y e=>?_;rw[yJ y];exact r b o e
theorem bZJ:yN ["term"] ["term"] (yH bQn):=scM
theorem bX7(a:ExG P w K mg base n "NoTerm" Rf.1 C1 "no term")(F:Fun K "check_term" "check_term" bQn f fd):xH P w K mg base (CXR P w) (n+2) f fd ["term"] (aZu K Rf):=by
 have d:=bZJ;refine F.okX (k:=n+1) d (λg A outer s H i Q E e h=>?_);obtain⟨t,rfl,q,b⟩:=h;refine⟨_,(yG (y6 (yM vQ (pv 0) yF) (yG (wG a e rfl)) yT)),?_⟩;refine⟨_,rfl,_,_,rfl,rfl,_,rfl,?_⟩;refine qE (λc=>?_) (λc=>?_)
 ·exact(b (of_decide_eq_true c)).raise a
 ·exact q (by have:=of_decide_eq_false (Bool.eq_false_iff.mpr c);omega)
theorem bZz:yN ["asked_day","reply_day"] ["asked_day","reply_day"] (yH bQe):=scM
theorem bXX(d:ExG P w K mg base n "TooEarly" Rf.1 C1 "too early")(F:Fun K "check_days" "check_days" bQe f fd):xH P w K mg base (CXR P w) (n+2) f fd ["asked_day","reply_day"] (aZt K Rf):=by
 have i:=bZz;refine F.okX (k:=n+1) i (λj A outer s H l Q E g h=>?_);obtain⟨a,b,rfl,q,e⟩:=h;refine⟨_,(yG (y6 (yM vQ (pv 1) (pv 0)) (yG (wG d g rfl)) yT)),?_⟩;refine⟨_,rfl,_,rfl,_,_,rfl,rfl,_,rfl,?_⟩;refine qE (λc=>?_) (λc=>?_)
 ·exact(e (of_decide_eq_true c)).raise d
 ·exact q (by have:=of_decide_eq_false (Bool.eq_false_iff.mpr c);omega)
end
end Desk
namespace Desk
open PySem L2 PyProof.Rows
open Bk (Row Rows)
def vS(o:List Nat)(H a:Hp):Prop:=∀b u,b∉o->H b=some u->a b=some u
theorem vS.of{o:List Nat}{H a:Hp}(k:xF H a):vS o H a:=λb u _ e=>k b u e
theorem vS.trans{o:List Nat}{H f d:Hp}(a:vS o H f)(b:vS o f d):vS o H d:=λc u n e=>b c u n (a c u n e)
theorem vS.upd{o:List Nat}{H:Hp}{b:Nat}(a:b∈o)(u:HO):vS o H (upd H b u):=λc v n e=>by
 rw[yJ (λz=>n (by rw[z];exact a))];exact e
theorem vS.t{o:List Nat}{H a:Hp}(k:vS o H a):aXg o H a:=λb u n _ e=>k b u n e
def W7(H:Hp)(o a:List Nat):Prop:=∀b∈a,b∈o\/H b=none
theorem W7.refl{H:Hp}{o:List Nat}:W7 H o o:=λb h=> .inl h
theorem W7.snoc{H:Hp}{la sa l c:Nat}{ls cs:List Nat}(hl:H l=none)(a:H c=none):W7 H (own la sa ls cs) (own la sa (ls++ [l]) (cs++ [c])):=λb h=>by
 rcases bYX.mp h with e|h
 ·exact .inl (by rw[e];exact aYV)
 rcases bYX.mp h with e|h
 ·exact .inl (by rw[e];exact bJq)
 rcases cQn.mp h with h|h
 ·rcases cQn.mp h with h|h
  ·exact .inl (aVa h)
  ·exact .inr (by rw[bY1.mp h];exact hl)
 ·rcases cQn.mp h with h|h
  ·exact .inl (bW2 h)
  ·exact .inr (by rw[bY1.mp h];exact a)
def aZx(g CL e la sa:Nat)(ls cs:List Nat)(H:Hp)(f:Rows)(d:List Int)(q:Hp->Prop):Prop:=∀ (c:Hp)(b a:List Nat),PB g CL c e la sa b a f d->vS (own la sa ls cs) H c->W7 H (own la sa ls cs) (own la sa b a)->q c
def bWR(i:Nat)(r:Row)(c:Nat)(t:Int):List (Str×V):=
 [("number",.int (i:Nat)),("way",.str r.way),("day",.int r.date),("partner",.str r.partner),("term",.int t),("link",zL r.link),("file",qV r),("copies",.ref c),("void",.bl r.void)]
def bQR(K:bYO)(Rf:Nat×Nat)(f CL:Nat):Sp:=λj H Q E=>∃ (c e g:Nat)(i h:List Nat)(R:Rows)(S:List Int)(b:Str)(d:Int)(a:Str)(t:Int),j= [.ref c,.str b,.int d,.str a,.int t]/\PB f CL H c e g i h R S/\R.length<=1000/\
 (0<=t->aZx f CL c e g i h H (R++ [⟨b,d,a,t,none,"",false,[]⟩]) S (Q (.int (R.length:Nat))))/\(t<0->xM K Rf H E "no term")
def bQW(K:bYO)(Rf:Nat×Nat)(c CL:Nat):Sp:=λh H Q E=>∃ (a b e:Nat)(g f:List Nat)(R:Rows)(S:List Int)(m d t:Int),h= [.ref a,.int m,.int d,.int t]/\PB c CL H a b e g f R S/\R.length<=1000/\
 (Bk.wO R m=false->xM K Rf H E "no letter")/\(Bk.wO R m=true->t<0->xM K Rf H E "no term")/\
 ∀ (k:Nat)(r:Row),m=(k:Int)->R[k]? =some r->r.void=false->0<=t->(d<r.date->xM K Rf H E "too early")/\(r.date<=d->aZx c CL a b e g f H (R++ [⟨Bk.uD r.way,d,r.partner,t,some k,r.place,false,[]⟩]) S (Q (.int (R.length:Nat))))
def aWl(K:bYO)(Rf:Nat×Nat)(f CL:Nat):Sp:=λg H Q E=>∃ (a e c:Nat)(b d:List Nat)(R:Rows)(S:List Int)(m:Int),g= [.ref a,.int m]/\PB f CL H a e c b d R S/\
 (Bk.wO R m=false->xM K Rf H E "no letter")/\∀ (k:Nat)(r:Row),m=(k:Int)->R[k]? =some r->r.void=false->(r.link=none->xM K Rf H E "has none")/\(r.link≠none->aZx f CL a e c b d H (Bk.xG R k λr=>{r with link:=none}) S (Q .non))
def aJs(K:bYO)(Rf:Nat×Nat)(c CL:Nat):Sp:=λg H Q E=>∃ (a b d:Nat)(f e:List Nat)(R:Rows)(S:List Int)(m t:Int),g= [.ref a,.int m,.int t]/\PB c CL H a b d f e R S/\
 (Bk.wO R m=false->xM K Rf H E "no letter")/\∀ (k:Nat)(r:Row),m=(k:Int)->R[k]? =some r->r.void=false->(t<0->xM K Rf H E "no term")/\(0<=t->aZx c CL a b d f e H (Bk.xG R k λr=>{r with term:=t}) S (Q .non))
def bJA(K:bYO)(Rf:Nat×Nat)(d CL:Nat):Sp:=λh H Q E=>∃ (b c e:Nat)(g f:List Nat)(R:Rows)(S:List Int)(m:Int)(a:Str),h= [.ref b,.int m,.str a]/\PB d CL H b c e g f R S/\(∀r∈R,r.copies.length<=1000)/\
 (Bk.wO R m=false->xM K Rf H E "no letter")/\∀ (k:Nat)(r:Row),m=(k:Int)->R[k]? =some r->r.void=false->(a=r.partner\/a∈r.copies->xM K Rf H E "copied")/\
  (a≠r.partner->a∉r.copies->aZx d CL b c e g f H (Bk.xG R k λr=>{r with copies:=r.copies++ [a] }) S (Q (.int ((r.copies.length:Nat)+1))))
def aWe(K:bYO)(Rf:Nat×Nat)(f CL:Nat):Sp:=λg H Q E=>∃ (a e c:Nat)(b d:List Nat)(R:Rows)(S:List Int)(m:Int),g= [.ref a,.int m]/\PB f CL H a e c b d R S/\R.length<=100/\
 (Bk.wO R m=false->xM K Rf H E "no letter")/\∀ (k:Nat)(r:Row),m=(k:Int)->R[k]? =some r->r.void=false->(Bk.zV R k≠ []->xM K Rf H E "answered")/\(Bk.zV R k= []->aZx f CL a e c b d H (Bk.xG R k λr=>{r with link:=none,void:=true}) S (Q .non))
def bJB(K:bYO)(Rf:Nat×Nat)(g CL:Nat):Sp:=λh H Q E=>∃ (a f c:Nat)(b e:List Nat)(R:Rows)(S:List Int)(d:Int),h= [.ref a,.int d]/\PB g CL H a f c b e R S/\S.length<=1000/\
 (Dm.cts S d=false->xM K Rf H E "counts not")/\(Dm.cts S d=true->aZx g CL a f c b e H R (S++ [d]) (Q .non))
def aWm(K:bYO)(Rf:Nat×Nat)(e CL:Nat):Sp:=λi H Q E=>∃ (a b f:Nat)(h g:List Nat)(R:Rows)(S:List Int)(m d:Int),i= [.ref a,.int m,.int d]/\PB e CL H a b f h g R S/\R.length<=100/\Bk.jS R/\
 (Bk.wO R m=false->xM K Rf H E "no letter")/\∀ (k:Nat)(r:Row),m=(k:Int)->R[k]? =some r->r.void=false->(((∃j,r.link=some j/\d<Bk.dt R j)\/∃c∈Bk.zV R k,Bk.dt R c<d)->xM K Rf H E "too early")/\
  ((∀j,r.link=some j->Bk.dt R j<=d)->(∀c∈Bk.zV R k,d<=Bk.dt R c)->aZx e CL a b f h g H (Bk.xG R k λr=>{r with date:=d}) S (Q .non))
theorem aKB(R:Rows)(r:Row)(f:Row->Row):Bk.xG (R++ [r]) R.length f=R++ [f r]:=by
 apply cXA;intro i;rw[Bk.xJ];by_cases e:i=R.length
 ·subst e;rw[if_pos rfl,bY9 (bYT _),bY9 (bYT _),cQ4];rfl
 ·rw[if_neg e];by_cases h:i<R.length
  ·rw[cQp h,cQp h]
  ·rw[cQk (by simp;omega),cQk (by simp;omega)]
section
variable {K:bYO}
abbrev bQg:Stmt:=xK "Book" "enter"
abbrev bQl:Stmt:=xK "Book" "reply"
abbrev aVm:Stmt:=xK "Book" "loosen"
abbrev aZf:Stmt:=xK "Book" "put_term"
abbrev bVQ:Stmt:=xK "Book" "send_copy"
abbrev aVi:Stmt:=xK "Book" "cancel"
abbrev bVR:Stmt:=xK "Book" "shut_day"
abbrev aVn:Stmt:=xK "Book" "put_day"
theorem bZB:yN ["self","way","day","partner","term"] ["self","way","day","partner","term"] (yH bQg):=scM
theorem bXZ(cl:Cl K CB CL)(a:FnX P w K mg base n "check_term" ["term"] (aZu K Rf))(g:MG P w K mg base CX0 n CB "add_letter" ["self","way","day","partner","term"] (bWb CB CL)) (F:Fun K "enter" "Book.enter" bQg f fd):xH P w K mg base (CXR P w) (n+1) f fd ["self","way","day","partner","term"] (bQR K Rf CB CL):=by
 have L:=bZB;refine F.okX (k:=n) L (λN A outer s H Y Q E r h=>?_);obtain⟨x,D,J,y,v,R,S,p,d,o,t,rfl,j,hR,q,B⟩:=h;refine⟨_,(yC (y0 (aQL a r rfl (yA (pv 4) yD))) (yG (yQ (y7 (v7 g r v5 (pv 0) (yA (pv 1) (yA (pv 2) (yA (pv 3) (yA (pv 4) yD))))) rfl)))),?_⟩;obtain⟨T,M⟩:=j.book;refine⟨_,rfl,t,rfl,λO=>?_,B⟩;refine⟨_,rfl,x,T,_,rfl,M,rfl,_,rfl,_,rfl,_,rfl,_,rfl,x,D,J,y,v,R,S,p,d,o,t,rfl,j,hR,λl c I hl W i V=>?_⟩;have U:(y++ [l])[R.length]? =some l:=by rw[<- j.len,bY9 (bYT _),cQ4];rfl
 have G:(v++ [c])[R.length]? =some c:=by rw[<- j.clen,bY9 (bYT _),cQ4];rfl
 obtain⟨⟨m,C⟩,X⟩:=i.row R.length l c _ U G (by rw[bY9 (bYT _),cQ4];rfl);exact⟨l,CL,m,_,_,rfl,C,cl.l,cl.number,rfl,q O I _ _ i (λb u n e=>V b u (λz=>n (by rw[z];exact aYV)) e) (W7.snoc hl W)⟩
theorem bZG:yN ["self","number","day","term","asked","letter"] ["self","number","day","term"] (yH bQl):=scM
theorem qW{R:Rows}{k:Nat}{r:Row}(a:R[k]? =some r)(b:r.void=false):Bk.wO R (k:Int)=true:=by rw[aZQ a,b];rfl
theorem aXV{r:Row}(a:r.void=false):qV r= .str r.place:=by unfold qV;rw[a];rfl
theorem bZZ{r:Row}(a:r.void=false):W6 r=r.term:=by unfold W6;rw[a];rfl
theorem bX4(cl:Cl K CB CL)(p:MG P w K mg base (CXR P w) n CB "letter_at" ["self","number"] (aWc K Rf CB CL))(a:FnX P w K mg base n "check_term" ["term"] (aZu K Rf)) (g:FnX P w K mg base n "check_days" ["asked_day","reply_day"] (aZt K Rf)) (o:FnG P w K mg base n "other_way" ["way"] bQU) (j:MG P w K mg base CX0 n CB "add_letter" ["self","way","day","partner","term"] (bWb CB CL)) (F:Fun K "reply" "Book.reply" bQl f fd):xH P w K mg base (CXR P w) (n+1) f fd ["self","number","day","term"] (bQW K Rf CB CL):=by
 have sc:=bZG;refine F.okX (k:=n) sc (λa0 A outer s H vs Q E C h=>?_);obtain⟨J,V,sa,I,L,R,S,m,d,t,rfl,B,hR,q1,q2,q3⟩:=h;refine⟨_,(yC (yU (i:=4) (v7 p C z9 (pv 0) (yA (pv 1) yD))) (yC (y0 (aQL a C rfl (yA (pv 3) yD))) (yC (y0 (aQL g C rfl (yA (y7 (pv 4) rfl) (yA (pv 2) yD)))) (yC (yU (i:=5) (v7 j C v5 (pv 0) (yA (xO o C rfl (yA (y7 (pv 4) rfl) yD)) (yA (pv 2) (yA (y7 (pv 4) rfl) (yA (pv 3) yD)))))) (yC (zR (pv 5) (pv 1) rfl) (yC (zR (pv 5) (y7 (pv 4) rfl) rfl) (yG (yQ (y7 (pv 5) rfl))))))))),?_⟩;obtain⟨U,hb⟩:=B.book;refine⟨_,rfl,J,U,_,rfl,hb,rfl,_,rfl,J,V,sa,I,L,R,S,m,rfl,B,λk r b em N Y Z=>?_,q1⟩;subst em;obtain⟨O,cc,g1,g2,g3,⟨q,y⟩,g5⟩:=B.get N;obtain rfl:b=O:=bY6 (Z.symm.trans g2);dsimp only[yX];refine⟨_,rfl,t,rfl,λW=>?_,λW=>q2 (qW N Y) W⟩;obtain⟨q4,q5⟩:=q3 k r rfl N Y W;refine⟨_,rfl,b,CL,q,_,_,rfl,y,cl.l,cl.day,rfl,_,rfl,r.date,d,rfl,λhd=>?_,q4⟩;refine⟨_,rfl,J,U,_,rfl,hb,rfl,_,rfl,b,CL,q,_,_,rfl,y,cl.l,cl.way,rfl,r.way,rfl,_,rfl,_,rfl,b,CL,q,_,_,rfl,y,cl.l,cl.partner,rfl,_,rfl,J,V,sa,I,L,R,S,Bk.uD r.way,d,r.partner,t,rfl,B,hR,λl c H1 hl hc G k1=>?_⟩;dsimp only[yX];have h1:(I++ [l])[R.length]? =some l:=by rw[<- B.len,bY9 (bYT _),cQ4];rfl
 have h2:(L++ [c])[R.length]? =some c:=by rw[<- B.clen,bY9 (bYT _),cQ4];rfl
 have h3:(R++ [(⟨Bk.uD r.way,d,r.partner,t,none,"",false,[]⟩:Row)])[R.length]? =some ⟨Bk.uD r.way,d,r.partner,t,none,"",false,[]⟩:=by rw[bY9 (bYT _),cQ4];rfl
 obtain⟨⟨v,f1⟩,f2⟩:=G.row R.length l c _ h1 h2 h3;refine⟨_,rfl,_,rfl,l,CL,v,_,rfl,f1,cl.l,cl.link,(show 9<1000 by decide),?_⟩;have T:b≠l:=yI y hl;have X:b≠V:=λz=>by rw[z,B.lst]at y;cases y
 have M:upd H1 l (.ins CL v (aXs "link" (.int (k:Nat)) (aZ1 R.length ⟨Bk.uD r.way,d,r.partner,t,none,"",false,[]⟩ c))) b=some (.ins CL q (aZ1 k r cc)):=(yJ T).trans (k1 _ _ X y);refine⟨_,rfl,b,CL,q,_,_,rfl,M,cl.l,cl.file,rfl,_,rfl,l,CL,v,_,rfl,yB,cl.l,cl.file,(show 9<1000 by decide),?_⟩;rw[jE];refine⟨_,rfl,l,CL,v,_,_,rfl,yB,cl.l,cl.number,rfl,?_⟩;have D:=G.set (dx:=v) h1 h2 h3 (λx=>{x with link:=some k,place:=r.place}) rfl;rw[aKB]at D;have e9:aXs "file" (qV r) (aXs "link" (.int (k:Nat)) (aZ1 R.length ⟨Bk.uD r.way,d,r.partner,t,none,"",false,[]⟩ c))=aZ1 R.length ⟨Bk.uD r.way,d,r.partner,t,some k,r.place,false,[]⟩ c:=by rw[aXV Y];rfl
 refine q5 hd _ (I++ [l]) (L++ [c]) ?_ (λO u nb e=>?_) (W7.snoc hl hc)
 ·rw[e9];exact D
 ·rw[yJ (λz=>by rw[z]at e;rw[hl]at e;cases e)];exact k1 O u (λz=>nb (by rw[z];exact aYV)) e
theorem bQC:yN ["self","number","letter"] ["self","number"] (yH aVm):=scM
theorem aYP(cl:Cl K CB CL)(c:MG P w K mg base (CXR P w) (n+1) CB "letter_at" ["self","number"] (aWc K Rf CB CL))(a:ExG P w K mg base n "HasNone" Rf.1 C1 "has none") (F:Fun K "loosen" "Book.loosen" aVm f fd):xH P w K mg base (CXR P w) (n+2) f fd ["self","number"] (aWl K Rf CB CL):=by
 have I:=bQC;refine F.okX (k:=n+1) I (λN A outer s H Y Q E t h=>?_);obtain⟨u,y,C,L,D,R,S,m,rfl,g,U,x⟩:=h;refine⟨_,(yC (yU (i:=2) (v7 c t z9 (pv 0) (yA (pv 1) yD))) (yC (y6 (yM aXE (y7 (pv 2) rfl) x3) (yG (wG a t rfl)) yT) (yG (zR (pv 2) x3 rfl)))),?_⟩;obtain⟨T,M⟩:=g.book;refine⟨_,rfl,u,T,_,rfl,M,rfl,_,rfl,u,y,C,L,D,R,S,m,rfl,g,λk r b O p V q=>?_,U⟩;obtain⟨J,X,W,o,B,⟨e,v⟩,Z⟩:=g.get p;obtain rfl:b=J:=bY6 (q.symm.trans o);obtain⟨G,z⟩:=x k r O p V;dsimp only[yX];refine⟨_,rfl,b,CL,e,_,_,rfl,v,cl.l,cl.link,rfl,rfl,_,rfl,?_⟩;cases d:r.link with
 |none=>exact onT rfl ((G d).raise a)
 |some j=>refine onF rfl ⟨_,rfl,b,CL,e,_,rfl,v,cl.l,cl.link,(show 9<1000 by decide),?_⟩;exact z (by rw[d];simp) _ _ _ (g.set o B p (λr=>{r with link:=none}) rfl) (vS.upd (aVa (bY5 o)) _) W7.refl
theorem aKx:yN ["self","number","term","letter"] ["self","number","term"] (yH aZf):=scM
theorem aKc(cl:Cl K CB CL)(c:MG P w K mg base (CXR P w) n CB "letter_at" ["self","number"] (aWc K Rf CB CL))(a:FnX P w K mg base n "check_term" ["term"] (aZu K Rf)) (F:Fun K "put_term" "Book.put_term" aZf f fd):xH P w K mg base (CXR P w) (n+1) f fd ["self","number","term"] (aJs K Rf CB CL):=by
 have I:=aKx;refine F.okX (k:=n) I (λO A outer s H Z Q E q h=>?_);obtain⟨u,y,C,M,D,R,S,m,t,rfl,d,W,x⟩:=h;refine⟨_,(yC (yU (i:=3) (v7 c q z9 (pv 0) (yA (pv 1) yD))) (yC (y0 (aQL a q rfl (yA (pv 2) yD))) (yG (zR (pv 3) (pv 2) rfl)))),?_⟩;obtain⟨V,N⟩:=d.book;refine⟨_,rfl,u,V,_,rfl,N,rfl,_,rfl,u,y,C,M,D,R,S,m,rfl,d,λk r b U g v p=>?_,W⟩;obtain⟨J,o,Y,e,B,⟨j,X⟩,g5⟩:=d.get g;obtain rfl:b=J:=bY6 (p.symm.trans e);obtain⟨G,z⟩:=x k r U g v;dsimp only[yX];refine⟨_,rfl,t,rfl,λT=>?_,G⟩;refine⟨_,rfl,_,rfl,b,CL,j,_,rfl,X,cl.l,cl.term,(show 9<1000 by decide),?_⟩;have L:aXs "term" (.int t) (aZ1 k r o)=aZ1 k {r with term:=t} o:=by show bWR k {r with term:=t} o t=_;unfold bWR aZ1;rw[bZZ (r:={r with term:=t}) v]
 rw[L];exact z T _ _ _ (d.set e B g (λr=>{r with term:=t}) rfl) (vS.upd (aVa (bY5 e)) _) W7.refl
theorem bV4:yN ["self","number","person","letter"] ["self","number","person"] (yH bVQ):=scM
theorem bVu(T:vP mg)(cl:Cl K CB CL)(e:MG P w K mg base (CXR P w) (n+1) CB "letter_at" ["self","number"] (aWc K Rf CB CL))(a:MG P w K mg base CX0 (n+1) CL "has_gone_to" ["self","person"] (bJv CL))(d:ExG P w K mg base n "Copied" Rf.1 C1 "copied") (F:Fun K "send_copy" "Book.send_copy" bVQ f fd):xH P w K mg base (CXR P w) (n+2) f fd ["self","number","person"] (bJA K Rf CB CL):=by
 have X:=bV4;refine F.okX (k:=n+1) X (λa0 A outer s H vs Q E v h=>?_);obtain⟨G,L,O,ls,U,R,S,m,g,rfl,u,B,q1,I⟩:=h;refine⟨_,(yC (yU (i:=3) (v7 e v z9 (pv 0) (yA (pv 1) yD))) (yC (y6 (x5 (v7 a v v5 (pv 3) (yA (pv 2) yD))) (yG (wG d v rfl)) yT) (yC (y0 (v6 cQj cQr cQs xL (y7 (pv 3) rfl) (yA (pv 2) yD))) (yG (yQ (yS yO rfl T.b_len xD (yA (y7 (pv 3) rfl) yD))))))),?_⟩;obtain⟨dx,hb⟩:=u.book;refine⟨_,rfl,G,dx,_,rfl,hb,rfl,_,rfl,G,L,O,ls,U,R,S,m,rfl,u,λk r b em p hv x=>?_,q1⟩;obtain⟨Y,q,g1,M,C,⟨j,o⟩,t⟩:=u.get p;obtain rfl:b=Y:=bY6 (x.symm.trans M);obtain⟨W,N⟩:=I k r em p hv;have D:=B r (bY5 p);dsimp only[yX];refine⟨_,rfl,b,j,_,rfl,o,rfl,_,rfl,b,k,r,q,g,rfl,⟨j,o⟩,t,_,rfl,?_⟩;refine qE (λc=>?_) (λc=>?_)
 ·refine(W ?_).raise d;rw[Bool.or_eq_true,decide_eq_true_eq,cXp]at c;exact c
 ·rw[Bool.or_eq_true,decide_eq_true_eq,cXp,not_or]at c;have y:b≠q:=λz=>by rw[z,t]at o;cases o
  refine⟨_,rfl,b,CL,j,_,_,rfl,o,cl.l,cl.copies,rfl,.inl ⟨rfl,_,SqL.of t⟩,_,rfl,q,_,_,rfl,rfl,t,zlt (by rw[bYR];omega),?_⟩;refine⟨_,rfl,b,CL,j,_,_,rfl,(yJ y).trans o,cl.l,cl.copies,rfl,q,_,rfl,.inl (SqL.of yB),?_⟩;have Z:r.copies.map V.str++ [V.str g]=(r.copies++ [g]).map V.str:=by simp
  rw[Z];have J:((r.copies++ [g]).map V.str).length=r.copies.length+1:=by simp
  rw[J];exact N c.1 c.2 _ _ _ (u.copy C p g) (vS.upd (bW2 (bY5 C)) _) W7.refl
theorem bQw:yN ["self","number","letter"] ["self","number"] (yH aVi):=scM
theorem aYJ(T:vP mg)(cl:Cl K CB CL)(g:MG P w K mg base (CXR P w) (n+1) CB "letter_at" ["self","number"] (aWc K Rf CB CL))(d:MG P w K mg base CX0 (n+1) CB "answers_to" ["self","letter"] (aVB CB CL))(e:MG P w K mg base CX0 (n+1) CL "make_void" ["self"] (bJC CL))(a:ExG P w K mg base n "Answered" Rf.1 C1 "answered") (F:Fun K "cancel" "Book.cancel" aVi f fd):xH P w K mg base (CXR P w) (n+2) f fd ["self","number"] (aWe K Rf CB CL):=by
 have W:=bQw;refine F.okX (k:=n+1) W (λZ A outer s H vs Q E t h=>?_);obtain⟨u,C,D,y,G,R,S,m,rfl,o,hR,q1,M⟩:=h;refine⟨_,(yC (yU (i:=2) (v7 g t z9 (pv 0) (yA (pv 1) yD))) (yC (y6 (yM aXp (yS yO rfl T.b_len xD (yA (v7 d t v5 (pv 0) (yA (pv 2) yD)) yD)) yF) (yG (wG a t rfl)) yT) (yG (y0 (bZe e t v5 (pv 2)))))),?_⟩;obtain⟨J,I⟩:=o.book;refine⟨_,rfl,u,J,_,rfl,I,rfl,_,rfl,u,C,D,y,G,R,S,m,rfl,o,λk r b em v hv B=>?_,q1⟩;obtain⟨X,Y,g1,q,O,⟨j,L⟩,g5⟩:=o.get v;obtain rfl:b=X:=bY6 (B.symm.trans q);obtain⟨U,N⟩:=M k r em v hv;dsimp only[yX];refine⟨_,rfl,u,J,_,rfl,I,rfl,_,rfl,u,C,D,y,G,R,S,k,b,rfl,o,q,hR,λl hl=>?_⟩;refine⟨l,_,rfl,.inl (SqL.of yB),_,_,rfl,rfl,_,rfl,?_⟩;have p:=yE hl (.lst ((Bk.zV R k).map λk=>(y.map V.ref).getD k .non));rw[bYR];refine qE (λc=>?_) (λc=>?_)
 ·refine((U λz=>?_).go (aKK.of p)).raise a;have:=of_decide_eq_true c;rw[z]at this;simp at this
 ·have x:Bk.zV R k= []:=by
   have:=of_decide_eq_false (Bool.eq_false_iff.mpr c);exact cZK (by omega)
  refine⟨_,rfl,b,j,_,rfl,p _ _ L,rfl,b,j,k,r,Y,rfl,p _ _ L,?_⟩;exact N x _ _ _ ((o.same p).set q O v (λr=>{r with link:=none,void:=true}) rfl) ((vS.of p).trans (vS.upd (aVa (bY5 q)) _)) W7.refl
theorem bV5:yN ["self","day"] ["self","day"] (yH bVR):=scM
theorem bVv(cl:Cl K CB CL)(c:FnG P w K mg base (n+1) "counts" ["shut","date"] (Days.aWh K))(a:ExG P w K mg base n "CountsNot" Rf.1 C1 "counts not") (F:Fun K "shut_day" "Book.shut_day" bVR f fd):xH P w K mg base (CXR P w) (n+2) f fd ["self","day"] (bJB K Rf CB CL):=by
 have q:=bV5;refine F.okX (k:=n+1) q (λt A outer s H z Q E g h=>?_);obtain⟨j,v,i,y,x,R,S,d,rfl,e,B,u,p⟩:=h;refine⟨_,(yC (y6 (vK (x5 (xO c g rfl (yA (y7 (pv 0) rfl) (yA (pv 1) yD))))) (yG (wG a g rfl)) yT) (yG (y0 (v6 cQj cQr cQs xL (y7 (pv 0) rfl) (yA (pv 1) yD))))),?_⟩;obtain⟨m,l⟩:=e.book;refine⟨_,rfl,j,CB,m,_,_,rfl,l,cl.b,cl.shut,rfl,_,rfl,i,S,d,rfl,SqL.of e.sht,_,rfl,?_⟩;cases o:Dm.cts S d with
 |false=>exact onT rfl ((u o).raise a)
 |true=>
  refine onF rfl ⟨_,rfl,j,CB,m,_,_,rfl,l,cl.b,cl.shut,rfl,.inl ⟨rfl,_,SqL.of e.sht⟩,_,rfl,i,_,_,rfl,rfl,e.sht,zlt (by rw[bYR];omega),?_⟩;have r:S.map V.int++ [V.int d]=(S++ [d]).map V.int:=by simp
  rw[r];exact p o _ _ _ (e.shutD d) (vS.upd bJq _) W7.refl
theorem bQD:yN ["self","number","day","letter","reply"] ["self","number","day"] (yH aVn):=scM
theorem aYQ(cl:Cl K CB CL)(g:MG P w K mg base (CXR P w) n CB "letter_at" ["self","number"] (aWc K Rf CB CL))(p:MG P w K mg base CX0 n CB "answers_to" ["self","letter"] (aVB CB CL))(a:FnX P w K mg base n "check_days" ["asked_day","reply_day"] (aZt K Rf)) (F:Fun K "put_day" "Book.put_day" aVn f fd):xH P w K mg base (CXR P w) (n+1) f fd ["self","number","day"] (aWm K Rf CB CL):=by
 have sc:=bQD;refine F.okX (k:=n) sc (λa7 A outer s H vs Q E L h=>?_);obtain⟨y,la,sa,C,cs,R,S,m,d,rfl,B,hR,a3,q1,q2⟩:=h;refine⟨_,(yC (yU (i:=3) (v7 g L z9 (pv 0) (yA (pv 1) yD))) (yC (y6 (yM z6 (y7 (pv 3) rfl) x3) (yG (y0 (aQL a L rfl (yA (y7 (v7 g L z9 (pv 0) (yA (y7 (pv 3) rfl) yD)) rfl) (yA (pv 2) yD))))) yT) (yC (wL PassesOwn.leaving rfl (xR (v7 p L v5 (pv 0) (yA (pv 3) yD))) (xE (i:=4)) (yG (y0 (aQL a L rfl (yA (pv 2) (yA (y7 (pv 4) rfl) yD)))))) (yG (zR (pv 3) (pv 2) rfl))))),?_⟩;obtain⟨dx,hb⟩:=B.book;refine⟨_,rfl,y,dx,_,rfl,hb,rfl,_,rfl,y,la,sa,C,cs,R,S,m,rfl,B,λk r b em Z hv a5=>?_,q1⟩;obtain⟨b',cc,g1,g2,g3,⟨D,g4⟩,g5⟩:=B.get Z;obtain rfl:b=b':=bY6 (a5.symm.trans g2);obtain⟨q3,q4⟩:=q2 k r em Z hv;dsimp only[yX];refine x6 (λY H'=>Y= [some (.ref y),some (.int m),some (.int d),some (.ref b),none]/\H'=H/\∀j,r.link=some j->Bk.dt R j<=d) ?_ λjn=>?_
 ·rintro Y H' ⟨rfl,rfl,hj⟩;refine⟨_,rfl,y,dx,_,rfl,hb,rfl,_,rfl,y,la,sa,C,cs,R,S,k,b,rfl,B,g2,hR,λl hl=>?_⟩;have U:=yE hl (.lst ((Bk.zV R k).map λk=>(C.map V.ref).getD k .non));refine⟨l,rfl,⟨_,SqL.of yB⟩,?_⟩;refine zX (xs:=(Bk.zV R k).map λk=>(C.map V.ref).getD k .non) (λt σ H1=>∃o:Option V,σ= [some (.ref y),some (.int m),some (.int d),some (.ref b),o]/\H1=upd H' l (.lst ((Bk.zV R k).map λk=>(C.map V.ref).getD k .non))/\∀i c,i<t->(Bk.zV R k)[i]? =some c->d<=Bk.dt R c) ?_ ?_ ?_ ?_
  ·exact⟨none,rfl,rfl,λi c z=>absurd z (cXr _)⟩
  ·rintro t σ H1 ht ⟨o,rfl,rfl,hd⟩;exact SqL.of yB
  ·rintro t x σ H1 T ⟨o,rfl,rfl,hd⟩;rw[bY7]at T;cases J:(Bk.zV R k)[t]? with
   |none=>rw[J]at T;cases T
   |some c=>
    rw[J]at T;have X:=bY5 J;have a1:c<R.length:=cQi.mp (cQE.mp X).1;have I:=bYL a1;obtain⟨bc,c2,f1,f2,f3,⟨a4,f4⟩,f5⟩:=(B.same U).get I;have ex:(C.map V.ref).getD c .non= .ref bc:=by simp only[cQx,f1];rfl
    obtain rfl:x= .ref bc:=by have z:=bY6 T;rw[<- z];exact ex
    dsimp only[yX];refine⟨_,rfl,_,rfl,bc,CL,a4,_,_,rfl,f4,cl.l,cl.day,rfl,d,R[c].date,rfl,λq=>?_,λq=>?_⟩
    ·refine⟨_,rfl,rfl,λi c' hi G=>?_⟩;by_cases e:i=t
     ·subst e;rw[J]at G;cases G;rw[Bk.w9 I];exact q
     ·exact hd i c' (by omega) G
    ·exact(q3 (.inr ⟨c,X,by rw[Bk.w9 I];exact q⟩)).go (aKK.of U)
  ·rintro σ H1 ⟨o,rfl,rfl,hd⟩;have N:∀c∈Bk.zV R k,d<=Bk.dt R c:=λc J=>by
    obtain⟨i,hi,e⟩:=cQD J;exact hd i c (by rw[bYR];exact hi) (by rw[bYL hi,e])
   refine⟨_,rfl,_,rfl,b,CL,D,_,rfl,U _ _ g4,cl.l,cl.day,(show 9<1000 by decide),?_⟩;exact q4 hj N _ _ _ ((B.same U).set g2 g3 Z (λr=>{r with date:=d}) rfl) ((vS.of U).trans (vS.upd (aVa (bY5 g2)) _)) W7.refl
 ·refine⟨_,rfl,b,CL,D,_,_,rfl,g4,cl.l,cl.link,rfl,rfl,_,rfl,?_⟩;cases v:r.link with
  |none=>exact onF rfl (jn _ _ ⟨rfl,rfl,λj hj=>by rw[v]at hj;cases hj⟩)
  |some j=>
   obtain⟨qj,u,a0⟩:=a3.ans k j r Z v;obtain⟨bj,cj,f1,f2,f3,⟨a2,f4⟩,f5⟩:=B.get u;refine onT rfl ⟨_,rfl,y,dx,_,rfl,hb,rfl,_,rfl,b,CL,D,_,_,rfl,g4,cl.l,cl.link,rfl,?_⟩;rw[v];refine⟨y,la,sa,C,cs,R,S,(j:Nat),rfl,B,λk2 r2 b2 e2 O a6 W=>?_,λhg=>?_⟩
   ·obtain rfl:j=k2:=by omega
    rw[u]at O;cases O;rw[f2]at W;cases W;refine⟨bj,CL,a2,_,_,rfl,f4,cl.l,cl.day,rfl,_,rfl,qj.date,d,rfl,λq=>?_,λq=>?_⟩
    ·refine jn _ _ ⟨rfl,rfl,λj' M=>?_⟩;rw[v]at M;cases M;rw[Bk.w9 u];exact q
    ·exact q3 (.inl ⟨j,v,by rw[Bk.w9 u];exact q⟩)
   ·rw[qW u a0.2.1]at hg;cases hg
end
end Desk
namespace Desk
open PySem L2 PyProof.Rows
open Bk (Row Rows)
open Thr (wJ v1 qT)
theorem bQ8{R:Rows}(b:Bk.jS R){rk:Nat->Nat}(o:Fm.Ok R.length (Bk.lk R) rk){i:Nat}(e:i<R.length):∀r q,R[i]? =some r->R[Fm.tp (Bk.lk R) rk i]? =some q->r.void=q.void:=
 Fm.aXO o (P:=λi=>∀r q,R[i]? =some r->R[Fm.tp (Bk.lk R) rk i]? =some q->r.void=q.void)
  (λi _ h r q d a=>by rw[Fm.zT h,d]at a;cases a;rfl)
  (λi j e h k r q d a=>by
   rw[Bk.wM d]at h;obtain⟨g,f,c⟩:=b.ans i j r d h;rw[Fm.vO o e (by rw[Bk.wM d];exact h)]at a;rw[c.1,<- k g q f a,c.2.1]) (rk i) i (bYT _) e
theorem bZ0{R:Rows}(b:Bk.jS R){k j:Nat}{r:Row}(e:R[k]? =some r)(h:r.void=false)(i:j∈Bk.thr R k):∃q,R[j]? =some q/\q.void=false:=by
 obtain⟨l,o,_,g⟩:=Bk.Y9 b.tree k;obtain⟨a,d⟩:=(g j).mp i;have c:=Bk.zS e;have f:=(Fm.bQ6 o c).1;refine⟨_,bYL a,?_⟩;rw[bQ8 b o a _ _ (bYL a) (by rw[d];exact bYL f),<- bQ8 b o c _ _ e (bYL f)];exact h
theorem bWj{R:Rows}(t:Bk.uU R){i j:Nat}{r:Row}(d:R[i]? =some r)(hl:r.link=none)(b:j<R.length):j∈Bk.thr R i↔(Bk.thr R j).head? =some i:=by
 obtain⟨h,o,f⟩:=Bk.uM t b;obtain⟨a,e,_,c⟩:=Bk.Y9 t i;rw[c j,f];have g:Fm.tp (Bk.lk R) a i=i:=Fm.zT (by rw[Bk.wM d];exact hl);rw[g,Fm.jC e o b];exact⟨λz=>by rw[z.2],λz=>⟨b,bY6 z⟩⟩
def jQ(K:bYO)(Rf:Nat×Nat)(e CL:Nat):Sp:=λj H Q E=>∃ (c d f:Nat)(h g:List Nat)(R:Rows)(S:List Int)(m:Int),j= [.ref c,.int m]/\PB e CL H c d f h g R S/\R.length<64/\Bk.uU R/\wJ Rf.2 H/\
 (Bk.wO R m=false->xM K Rf H E "no letter")/\∀ (k:Nat)(r:Row),m=(k:Int)->R[k]? =some r->r.void=false->∀ (a:Hp)(l:Nat),(∀b u,(∀n,u≠HO.tbl n)->H b=some u->b≠l)->x8 H a->wJ Rf.2 a->a l=some (.lst ((Bk.thr R k).map λi=>V.int (i:Nat)))->Q (.ref l) a
def bWq(T g CL e la sa:Nat)(ls cs:List Nat)(H:Hp)(f:Rows)(d:List Int)(q:Hp->Prop):Prop:=∀ (c:Hp)(b a:List Nat),PB g CL c e la sa b a f d->aXg (own la sa ls cs) H c->W7 H (own la sa ls cs) (own la sa b a)->wJ T c->q c
def bWd(K:bYO)(Rf:Nat×Nat)(h CL:Nat):Sp:=λi H Q E=>∃ (f c d:Nat)(g e:List Nat)(R:Rows)(S:List Int)(m:Int)(a:Str),i= [.ref f,.int m,.str a]/\PB h CL H f c d g e R S/\R.length<64/\Bk.jS R/\wJ Rf.2 H/\
 (Bk.wO R m=false->xM K Rf H E "no letter")/\∀ (k:Nat)(r:Row),m=(k:Int)->R[k]? =some r->r.void=false->∀ (b:Hp),PB h CL b f c d g e (Bk.laid R (Bk.thr R k) a) S->aXg (own c d g e) H b->wJ Rf.2 b->Q (.int ((Bk.thr R k).length:Nat)) b
section
variable {K:bYO}
abbrev Y3:Stmt:=xK "Book" "thread_of"
abbrev bK9:Stmt:=xK "Book" "lay_thread"
theorem aVy:yN ["self","number","links","dates"] ["self","number"] (yH Y3):=scM
theorem aQC:xQ ["self","number","links","dates"] (yH Y3) "letter" [] [] {kind:= .function,names:= [(".0",.local),("letter",.local)],isGenerator:=false,isCoroutine:=false,more:= [] }:=
 lcM
theorem aJ8(cl:Cl K CB CL)(c:MG P w K mg base (CXR P w) n CB "letter_at" ["self","number"] (aWc K Rf CB CL))(d:FnG P w K mg base n "thread" ["links","dates","number"] (Thr.aWo Rf.2)) (F:Fun K "thread_of" "Book.thread_of" Y3 f fd):xH P w K mg base (CXR P w) (n+1) f fd ["self","number"] (jQ K Rf CB CL):=by
 have sc:=aVy;refine F.okX (k:=n) sc (λa3 A outer s H vs Q E hr h=>?_);obtain⟨N,la,sa,ls,cs,R,S,m,rfl,C,hR,hT,tb,q1,q2⟩:=h;refine⟨_,(yC (y0 (v7 c hr z9 (pv 0) (yA (pv 1) yD))) (yC (aXr (i:=2) aQC rfl sc.nd rfl rfl (xR (y7 (pv 0) rfl)) (λ_ _ _ _ _=>vB) (λ_ _ _ _ _=>(aQK (K:=K) (pv 0) rfl))) (yC (aXr (i:=3) aQC rfl sc.nd rfl rfl (xR (y7 (pv 0) rfl)) (λ_ _ _ _ _=>vB) (λ_ _ _ _ _=>(aQK (K:=K) (pv 0) rfl))) (yG (yQ (xO d hr rfl (yA (pv 2) (yA (pv 3) (yA (pv 1) yD))))))))),?_⟩;obtain⟨Z,Y⟩:=C.book;have hl:(ls.map V.ref).length=R.length:=by rw[bYR];exact C.len
 refine⟨_,rfl,N,Z,_,rfl,Y,rfl,_,rfl,N,la,sa,ls,cs,R,S,m,rfl,C,λk r b em hk q a2=>?_,q1⟩;subst em;have I:=Bk.zS hk;have x:(bYW R.length).filter (λ_=>true)=bYW R.length:=cZA.mpr λ_ _=>rfl;refine⟨_,rfl,N,CB,Z,_,_,rfl,Y,cl.b,cl.letters,rfl,la,rfl,⟨_,SqL.of C.lst⟩,λD W=>?_⟩;refine aWS (λ_=>true) (λi=>Thr.zL (Bk.lk R i)) (SqL.of C.lst) W (zn (by omega)) (λj v q O T M a=>a) (λj v q _ O T M a=>?_) ?_
 ·have X:j<R.length:=by rw[<- hl];exact(bYY.mp q).1
  have g:=bYL X;obtain⟨J,c2,p,G,k3,⟨z,L⟩,k5⟩:=C.get g;obtain rfl:v= .ref J:=bY6 (q.symm.trans p);rw[Bk.wM g]at a;exact⟨_,rfl,J,CL,z,_,_,rfl,(M _ (yI L W)).trans L,cl.l,cl.link,rfl,a⟩
 rw[hl,x];dsimp only[yX];have p:=yE W (.lst ((bYW R.length).map λi=>Thr.zL (Bk.lk R i)));have y:=C.same p;refine⟨_,rfl,N,CB,Z,_,_,rfl,p _ _ Y,cl.b,cl.letters,rfl,la,rfl,⟨_,SqL.of y.lst⟩,λD2 B=>?_⟩;refine aWS (λ_=>true) (λi=>V.int (Bk.dt R i)) (SqL.of y.lst) B (zn (by omega)) (λj v q O T M a=>a) (λj v q _ O T M a=>?_) ?_
 ·have X:j<R.length:=by rw[<- hl];exact(bYY.mp q).1
  have g:=bYL X;obtain⟨J,c2,p,G,k3,⟨z,L⟩,k5⟩:=y.get g;obtain rfl:v= .ref J:=bY6 (q.symm.trans p);rw[Bk.w9 g]at a;exact⟨_,rfl,J,CL,z,_,_,rfl,(M _ (yI L B)).trans L,cl.l,cl.day,rfl,a⟩
 rw[hl,x];dsimp only[yX];have G:=yE B (.lst ((bYW R.length).map λi=>V.int (Bk.dt R i)));obtain⟨rk,o⟩:=hT;have a0:wJ Rf.2 (upd (upd H D (.lst ((bYW R.length).map λi=>Thr.zL (Bk.lk R i)))) D2 (.lst ((bYW R.length).map λi=>V.int (Bk.dt R i)))):=by
  have U:=p.trans G;rcases tb with t|⟨c',t1,t2⟩
  ·exact .inl (U _ _ t)
  ·exact .inr ⟨c',U _ _ t1,U _ _ t2⟩
 refine⟨_,rfl,_,rfl,_,rfl,D,D2,R.length,Bk.lk R,rk,Bk.dt R,k,rfl,G _ _ yB,yB,o,by omega,I,a0,λH3 r3 a1 n3 k3 t3 h3 hp hm=>?_⟩;have e:=Bk.aXN I ⟨rk,o,hp,hm⟩;refine q2 k r rfl hk q H3 r3 (λb u nt e=>n3 b u nt ((p.trans G) _ _ e)) ((p.trans G).t.trans k3) t3 ?_;rw[e];exact h3
end
end Desk
namespace Desk
open PySem L2 PyProof.Rows
open Bk (Row Rows)
open Thr (wJ v1 qT)
theorem x0{T:Nat}{o:List Nat}{H d:Hp}(t:wJ T H)(k:vS o H d)(l:∀b∈o,∀u,H b=some u->(∃a,u= .lst a)\/∃C c fs,u= .ins C c fs):wJ T d:=by
 have no:∀b u,H b=some u->(∀a,u≠ .lst a)->(∀C c fs,u≠ .ins C c fs)->b∉o:=λb u e h j z=>by
  rcases l b z u e with⟨a,q⟩|⟨C,c,fs,q⟩
  ·exact h _ q
  ·exact j _ _ _ q
 rcases t with t|⟨i,f,g⟩
 ·exact .inl (k _ _ (no _ _ t (by intro _ z;cases z) (by intro _ _ _ z;cases z)) t)
 ·exact .inr ⟨i,k _ _ (no _ _ f (by intro _ z;cases z) (by intro _ _ _ z;cases z)) f,k _ _ (no _ _ g (by intro _ z;cases z) (by intro _ _ _ z;cases z)) g⟩
theorem PB.kinds{m CL:Nat}{H:Hp}{o la sa:Nat}{ls cs:List Nat}{R:Rows}{S:List Int}(h:PB m CL H o la sa ls cs R S):∀b∈own la sa ls cs,∀u,H b=some u->(∃r,u= .lst r)\/∃C g fs,u= .ins C g fs:=λb a u e=>by
 rcases bYX.mp a with rfl|a
 ·rw[h.lst]at e;cases e;exact .inl ⟨_,rfl⟩
 rcases bYX.mp a with rfl|a
 ·rw[h.sht]at e;cases e;exact .inl ⟨_,rfl⟩
 rcases cQn.mp a with a|a
 ·obtain⟨i,c,q⟩:=cQD a;obtain⟨p,n,l,d,f,⟨g,k⟩,j⟩:=h.get (bYL (show i<R.length by rw[<- h.len];exact c));rw[bYL c,q]at d;cases d;rw[k]at e;cases e;exact .inr ⟨_,_,_,rfl⟩
 ·obtain⟨i,c,q⟩:=cQD a;obtain⟨p,n,l,d,f,k,j⟩:=h.get (bYL (show i<R.length by rw[<- h.clen];exact c));rw[bYL c,q]at f;cases f;rw[j]at e;cases e;exact .inl ⟨_,rfl⟩
theorem PB.notown{m CL:Nat}{H:Hp}{p la sa:Nat}{ls cs:List Nat}{R:Rows}{S:List Int}(h:PB m CL H p la sa ls cs R S){l:Nat}(n:∀b u,(∀s,u≠HO.tbl s)->H b=some u->b≠l):l∉own la sa ls cs:=λa=>by
 rcases bYX.mp a with e|a
 ·exact n la _ (by intro _ z;cases z) h.lst e.symm
 rcases bYX.mp a with e|a
 ·exact n sa _ (by intro _ z;cases z) h.sht e.symm
 rcases cQn.mp a with a|a
 ·obtain⟨i,c,q⟩:=cQD a;obtain⟨r,o,k,d,f,⟨t,j⟩,g⟩:=h.get (bYL (show i<R.length by rw[<- h.len];exact c));rw[bYL c,q]at d;cases d;exact n l _ (by intro _ z;cases z) j rfl
 ·obtain⟨i,c,q⟩:=cQD a;obtain⟨r,o,k,d,f,j,g⟩:=h.get (bYL (show i<R.length by rw[<- h.clen];exact c));rw[bYL c,q]at f;cases f;exact n l _ (by intro _ z;cases z) g rfl
theorem PB.notnone{c CL:Nat}{H:Hp}{a la sa:Nat}{ls cs:List Nat}{R:Rows}{S:List Int}(h:PB c CL H a la sa ls cs R S){l:Nat}(n:H l=none):l∉own la sa ls cs:=h.notown λb u _ e=>yI e n
theorem bZj{j:Nat}{q:Row}{c:Nat}{name:Str}(b:q.void=false):aXs "file" (.str name) (aZ1 j q c)=aZ1 j {q with place:=name} c:=by
 have a:qV {q with place:=name}= .str name:=aXV (r:={q with place:=name}) b;unfold aZ1;rw[a];rfl
theorem aQB(R:Rows)(l:List Nat)(k:Nat)(name:Str):Bk.laid R (l++ [k]) name=Bk.xG (Bk.laid R l name) k λr=>{r with place:=name}:=by
 unfold Bk.laid;rw[cJ7];rfl
theorem aZZ{R:Rows}{l:List Nat}{name:Str}{j:Nat}{q:Row}(h:R[j]? =some q):∃a,(Bk.laid R l name)[j]? =some a/\a.void=q.void:=by
 rw[Bk.wE,h];by_cases e:j∈l
 ·rw[if_pos e];exact⟨_,rfl,rfl⟩
 ·rw[if_neg e];exact⟨q,rfl,rfl⟩
def bQN(K:bYO)(Rf:Nat×Nat)(g CL:Nat):Sp:=λl H Q E=>∃ (d f h:Nat)(c k:List Nat)(R:Rows)(S:List Int)(i j:Nat)(b e:Nat)(r q:Row),l= [.ref d,.ref b,.ref e]/\PB g CL H d f h c k R S/\R.length<64/\Bk.uU R/\wJ Rf.2 H/\
 R[i]? =some r/\r.void=false/\R[j]? =some q/\q.void=false/\c[i]? =some b/\c[j]? =some e/\(r.link≠none->xM K Rf H E "has one")/\(r.link=none->(Bk.thr R j).head? =some i->xM K Rf H E "own thread")/\
 (r.link=none->(Bk.thr R j).head? ≠some i->(r.way=q.way->xM K Rf H E "same way")/\(r.way≠q.way->(r.partner≠q.partner->xM K Rf H E "other partner")/\(r.partner=q.partner->(r.date<q.date->xM K Rf H E "too early")/\(q.date<=r.date->∀a,x8 H a->wJ Rf.2 a->Q .non a))))
section
variable {K:bYO}
theorem bKk:yN ["self","number","name","numbers","member","letter"] ["self","number","name"] (yH bK9):=scM
theorem bWY(T:vP mg)(cl:Cl K CB CL)(a:MG P w K mg base (CXR P w) n CB "thread_of" ["self","number"] (jQ K Rf CB CL))(F:Fun K "lay_thread" "Book.lay_thread" bK9 f fd):xH P w K mg base (CXR P w) (n+1) f fd ["self","number","name"] (bWd K Rf CB CL):=by
 have sc:=bKk;refine F.okX (k:=n) sc (λa2 A outer s H vs Q E hr h=>?_);obtain⟨q,I,sa,O,Z,R,S,m,g,rfl,hB,hR,B,tb,q1,q2⟩:=h;refine⟨_,(yC (yU (i:=3) (v7 a hr z9 (pv 0) (yA (pv 1) yD))) (yC (wL PassesOwn.leaving rfl (xR (pv 3)) (xE (i:=4)) (yC (yU (i:=5) (yL yK (y7 (pv 0) rfl) (pv 4))) (yG (zR (pv 5) (pv 2) rfl)))) (yG (yQ (yS yO rfl T.b_len xD (yA (pv 3) yD)))))),?_⟩;obtain⟨dx,hb⟩:=hB.book;refine⟨_,rfl,q,dx,_,rfl,hb,rfl,_,rfl,q,I,sa,O,Z,R,S,m,rfl,hB,hR,B.tree,tb,q1,λk r em X hv H1 l _ k1 t1 hl=>?_⟩;dsimp only[yX];have v:=hB.sameT k1;have a1:=Bk.zS X;refine⟨_,rfl,l,rfl,⟨_,SqL.of hl⟩,?_⟩;refine zX (xs:=(Bk.thr R k).map λi=>V.int (i:Nat)) (λt σ p=>∃L J:Option V,σ= [some (.ref q),some (.int m),some (.str g),some (.ref l),L,J]/\PB CB CL p q I sa O Z (Bk.laid R ((Bk.thr R k).take t) g) S/\vS (own I sa O Z) H1 p/\p l=some (.lst ((Bk.thr R k).map λi=>V.int (i:Nat)))) ?_ ?_ ?_ ?_
 ·exact⟨none,none,rfl,v,λb u _ e=>e,hl⟩
 ·rintro t σ p ht ⟨L,J,rfl,d,G,o⟩;exact SqL.of o
 ·rintro t x σ p D ⟨L,J,rfl,d,G,o⟩;rw[bY7]at D;cases M:(Bk.thr R k)[t]? with
  |none=>rw[M]at D;cases D
  |some j=>
   rw[M]at D;cases D;obtain⟨qj,U,W⟩:=bZ0 B X hv (bY5 M);obtain⟨q',y,C⟩:=aZZ (l:=(Bk.thr R k).take t) (name:=g) U;rw[W]at C;obtain⟨b,c,g1,g2,g3,⟨N,g4⟩,g5⟩:=d.get y;obtain⟨Y,a0⟩:=d.book;dsimp only[yX];refine⟨_,rfl,q,CB,Y,_,_,rfl,a0,cl.b,cl.letters,rfl,_,rfl,I,_,_,_,rfl,rfl,SqL.of d.lst,yR g1,?_⟩;dsimp only[yX];refine⟨_,rfl,_,rfl,b,CL,N,_,rfl,g4,cl.l,cl.file,(show 9<1000 by decide),_,_,rfl,?_,G.trans (vS.upd (aVa (bY5 g2)) _),?_⟩
   ·rw[bZj C,show(Bk.thr R k).take (t+1)=(Bk.thr R k).take t++ [j]from by rw[cQX,M];rfl,aQB];exact d.set g2 g3 y (λr=>{r with place:=g}) rfl
   ·rw[yJ (λz=>by rw[z,g4]at o;cases o)];exact o
 ·rintro σ p ⟨L,J,rfl,d,G,o⟩;rw[bYR,cQT]at d;refine⟨_,rfl,l,_,rfl,.inl (SqL.of o),?_⟩;rw[bYR];exact q2 k r em X hv p d ((aXg.of k1).trans G.t) (x0 t1 G v.kinds)
abbrev bQb:Stmt:=xK "Book" "check_hanging"
abbrev bVL:Stmt:=xK "Book" "hang"
theorem bZw:yN ["self","letter","asked"] ["self","letter","asked"] (yH bQb):=scM
theorem aVN(d:Nat):∀ns:List Nat,inV (.int (d:Nat)) (ns.map λi=>V.int (i:Nat))=ns.contains d
 |[]=>rfl
 |n::r=>by have a:=aVN d r;unfold inV at a ⊢;rw[cQz,cX2,a,cZa];congr 1;show((n:Int)==(d:Int))=(d==n);rw[Bool.eq_iff_iff,beq_iff_eq,beq_iff_eq];omega
theorem aZL:∀ns:List Nat,(ns.map λi=>V.int (i:Nat)).all Q8=true
 |[]=>rfl
 |n::r=>by rw[cQz,cZ3,aZL r];rfl
theorem bXU(cl:Cl K CB CL)(o:MG P w K mg base (CXR P w) (n+1) CB "thread_of" ["self","number"] (jQ K Rf CB CL))(g:FnX P w K mg base (n+1) "check_days" ["asked_day","reply_day"] (aZt K Rf)) (m:ExG P w K mg base n "HasOne" Rf.1 C1 "has one") (d:ExG P w K mg base n "OwnThread" Rf.1 C2 "own thread") (e:ExG P w K mg base n "SameWay" Rf.1 C3 "same way") (a:ExG P w K mg base n "OtherPartner" Rf.1 C4 "other partner") (F:Fun K "check_hanging" "Book.check_hanging" bQb f fd):xH P w K mg base (CXR P w) (n+2) f fd ["self","letter","asked"] (bQN K Rf CB CL):=by
 have sc:=bZw;refine F.okX (k:=n+1) sc (λa1 A outer s H vs Q E C h=>?_);obtain⟨ba,la,sa,ls,cs,R,S,i,j,b,G,r,q,rfl,I,hR,hT,tb,O,hv,hj,hw,J,M,q1,q2,q3⟩:=h;refine⟨_,(yC (y6 (yM z6 (y7 (pv 1) rfl) x3) (yG (wG m C rfl)) yT) (yC (y6 (yM vH (y7 (pv 2) rfl) (v7 o C z9 (pv 0) (yA (y7 (pv 1) rfl) yD))) (yG (wG d C rfl)) yT) (yC (y6 (yM zH (y7 (pv 1) rfl) (y7 (pv 2) rfl)) (yG (wG e C rfl)) yT) (yC (y6 (yM Y0 (y7 (pv 1) rfl) (y7 (pv 2) rfl)) (yG (wG a C rfl)) yT) (yG (y0 (aQL g C rfl (yA (y7 (pv 2) rfl) (yA (y7 (pv 1) rfl) yD))))))))),?_⟩;obtain⟨dx,hb⟩:=I.book;obtain⟨b',c1,g1,g2,g3,⟨p,L⟩,g5⟩:=I.get O;obtain rfl:b=b':=bY6 (J.symm.trans g2);obtain⟨T,c2,f1,f2,f3,⟨t,Z⟩,f5⟩:=I.get hj;obtain rfl:G=T:=bY6 (M.symm.trans f2);refine⟨_,rfl,b,CL,p,_,_,rfl,L,cl.l,cl.link,rfl,rfl,_,rfl,?_⟩;cases u:r.link with
 |some x=>exact onT rfl ((q1 (by rw[u];simp)).raise m)
 |none=>
  have N:=q2 u;have U:=q3 u;refine onF rfl ⟨_,rfl,G,CL,t,_,_,rfl,Z,cl.l,cl.number,rfl,_,rfl,ba,dx,_,rfl,hb,rfl,_,rfl,b,CL,p,_,_,rfl,L,cl.l,cl.number,rfl,?_⟩;refine⟨ba,la,sa,ls,cs,R,S,(i:Nat),rfl,I,hR,hT,tb,(λhg=>by rw[qW O hv]at hg;cases hg),λk r' em hk a0 H1 l _ B D hl=>?_⟩;obtain rfl:i=k:=by omega
  refine⟨l,_,rfl,.inl (SqL.of hl),rfl,aZL _,_,rfl,?_⟩;rw[if_neg (by decide),aVN];have W:=Bk.zS hj;have own:=bWj hT O u W;have v:=B _ _ (λ_ z=>by cases z) L;have y:=B _ _ (λ_ z=>by cases z) Z;refine qE (λc=>?_) (λc=>?_)
  ·exact((N (own.mp (cXp.mp c))).go ⟨B,λ_=>D⟩).raise d
  ·have Y:(Bk.thr R j).head? ≠some i:=λz=>c (cXp.mpr (own.mpr z));obtain⟨q4,q5⟩:=U Y;refine⟨_,rfl,b,CL,p,_,_,rfl,v,cl.l,cl.way,rfl,_,rfl,G,CL,t,_,_,rfl,y,cl.l,cl.way,rfl,rfl,_,rfl,?_⟩;have e1:decide (V.str r.way=V.str q.way)=decide (r.way=q.way):=by rw[Bool.eq_iff_iff];simp
   rw[e1];refine qE (λc=>?_) (λc=>?_)
   ·exact((q4 (of_decide_eq_true c)).go ⟨B,λ_=>D⟩).raise e
   ·obtain⟨q6,q7⟩:=q5 (of_decide_eq_false (Bool.eq_false_iff.mpr c));refine⟨_,rfl,b,CL,p,_,_,rfl,v,cl.l,cl.partner,rfl,_,rfl,G,CL,t,_,_,rfl,y,cl.l,cl.partner,rfl,rfl,_,rfl,?_⟩;have e2:decide (V.str r.partner=V.str q.partner)=decide (r.partner=q.partner):=by rw[Bool.eq_iff_iff];simp
    rw[e2];cases hp:decide (r.partner=q.partner)with
    |false=>exact onT rfl (((q6 (of_decide_eq_false hp)).go ⟨B,λ_=>D⟩).raise a)
    |true=>obtain⟨q8,q9⟩:=q7 (of_decide_eq_true hp);refine onF rfl ⟨_,rfl,G,CL,t,_,_,rfl,y,cl.l,cl.day,rfl,_,rfl,b,CL,p,_,_,rfl,v,cl.l,cl.day,rfl,q.date,r.date,rfl,λX=>q9 X H1 B D,λX=>(q8 X).go ⟨B,λ_=>D⟩⟩
def bJw(K:bYO)(Rf:Nat×Nat)(c CL:Nat):Sp:=λg H Q E=>∃ (a b d:Nat)(f e:List Nat)(R:Rows)(S:List Int)(m o:Int),g= [.ref a,.int m,.int o]/\PB c CL H a b d f e R S/\R.length<64/\Bk.jS R/\wJ Rf.2 H/\
 (Bk.wO R m=false\/Bk.wO R o=false->xM K Rf H E "no letter")/\∀ (i j:Nat)(r q:Row),m=(i:Int)->o=(j:Int)->R[i]? =some r->r.void=false->R[j]? =some q->q.void=false->
 (r.link≠none->xM K Rf H E "has one")/\(r.link=none->(Bk.thr R j).head? =some i->xM K Rf H E "own thread")/\
 (r.link=none->(Bk.thr R j).head? ≠some i->(r.way=q.way->xM K Rf H E "same way")/\(r.way≠q.way->(r.partner≠q.partner->xM K Rf H E "other partner")/\(r.partner=q.partner->(r.date<q.date->xM K Rf H E "too early")/\ (q.date<=r.date->bWq Rf.2 c CL a b d f e H (Bk.xG (Bk.laid R (Bk.thr R i) q.place) i λr=>{r with link:=some j}) S (Q .non)))))
theorem bVY:yN ["self","number","other","letter","asked"] ["self","number","other"] (yH bVL):=scM
theorem bVn(cl:Cl K CB CL)(a:MG P w K mg base (CXR P w) n CB "letter_at" ["self","number"] (aWc K Rf CB CL))(c:MG P w K mg base (CXR P w) n CB "check_hanging" ["self","letter","asked"] (bQN K Rf CB CL))(d:MG P w K mg base (CXR P w) n CB "lay_thread" ["self","number","name"] (bWd K Rf CB CL)) (F:Fun K "hang" "Book.hang" bVL f fd):xH P w K mg base (CXR P w) (n+1) f fd ["self","number","other"] (bJw K Rf CB CL):=by
 have sc:=bVY;refine F.okX (k:=n) sc (λa4 A outer s H vs Q E L h=>?_);obtain⟨e,v,y,M,x,R,S,m,o,rfl,J,hR,G,tb,q1,q2⟩:=h;refine⟨_,(yC (yU (i:=3) (v7 a L z9 (pv 0) (yA (pv 1) yD))) (yC (yU (i:=4) (v7 a L z9 (pv 0) (yA (pv 2) yD))) (yC (y0 (v7 c L z9 (pv 0) (yA (pv 3) (yA (pv 4) yD)))) (yC (y0 (v7 d L z9 (pv 0) (yA (pv 1) (yA (y7 (pv 4) rfl) yD)))) (yG (zR (pv 3) (pv 2) rfl)))))),?_⟩;obtain⟨W,U⟩:=J.book;refine⟨_,rfl,e,W,_,rfl,U,rfl,_,rfl,e,v,y,M,x,R,S,m,rfl,J,λi r b em D hv z=>?_,λu=>q1 (.inl u)⟩;dsimp only[yX];refine⟨_,rfl,e,W,_,rfl,U,rfl,_,rfl,e,v,y,M,x,R,S,o,rfl,J,λj q V eo T hw B=>?_,λu=>q1 (.inr u)⟩;dsimp only[yX];obtain⟨q3,q4,q5⟩:=q2 i j r q em eo D hv T hw;refine⟨_,rfl,e,W,_,rfl,U,rfl,_,rfl,_,rfl,e,v,y,M,x,R,S,i,j,b,V,r,q,rfl,J,hR,G.tree,tb,D,hv,T,hw,z,B,q3,q4,λh1 h2=>?_⟩;obtain⟨q6,q7⟩:=q5 h1 h2;refine⟨q6,λh3=>?_⟩;obtain⟨q8,q9⟩:=q7 h3;refine⟨q8,λh4=>?_⟩;obtain⟨a0,a1⟩:=q9 h4;refine⟨a0,λh5 H1 k1 t1=>?_⟩;have p:=J.sameT k1;obtain⟨N,O⟩:=p.book;obtain⟨X,c2,f1,f2,f3,⟨Y,f4⟩,f5⟩:=p.get T;obtain rfl:V=X:=bY6 (B.symm.trans f2);refine⟨_,rfl,e,N,_,rfl,O,rfl,_,rfl,_,rfl,V,CL,Y,_,_,rfl,f4,cl.l,cl.file,rfl,?_⟩;rw[aXV hw];refine⟨e,v,y,M,x,R,S,m,q.place,rfl,p,hR,G,t1,(λu=>by rw[em,qW D hv]at u;cases u),λk r' a5 hk a2 H2 g k2 t2=>?_⟩;obtain rfl:i=k:=by omega
 rw[D]at hk;cases hk;obtain⟨r2,I,a3⟩:=aZZ (l:=Bk.thr R i) (name:=q.place) D;obtain⟨b',c1,g1,Z,g3,⟨C,g4⟩,g5⟩:=g.get I;obtain rfl:b=b':=bY6 (z.symm.trans Z);subst eo;refine⟨_,rfl,_,rfl,b,CL,C,_,rfl,g4,cl.l,cl.link,(show 9<1000 by decide),?_⟩;have kk:=vS.upd (H:=H2) (aVa (la:=v) (sa:=y) (cs:=x) (bY5 Z)) (.ins CL C (aZ1 i {r2 with link:=some j} c1));exact a1 h5 _ _ _ (g.set Z g3 I (λr=>{r with link:=some j}) rfl) (((aXg.of k1).trans k2).trans kk.t) W7.refl (x0 t2 kk g.kinds)
end
end Desk
namespace Desk
open PySem L2 PyProof.Rows
open Bk (Row Rows xN Ans xS)
open Thr (wJ v1 qT)
def xA:xN->List V
 |.enter e d b t=> [.str e,.int d,.str b,.int t]
 |.reply m d t=> [.str "reply",.int m,.int d,.int t]
 |.hang m o=> [.str "hang",.int m,.int o]
 |.loose m=> [.str "loose",.int m]
 |.date m d=> [.str "date",.int m,.int d]
 |.term m t=> [.str "term",.int m,.int t]
 |.copy m b=> [.str "copy",.int m,.str b]
 |.file m a=> [.str "file",.int m,.str a]
 |.void m=> [.str "void",.int m]
 |.shut d=> [.str "shut",.int d]
 |.state m=> [.str "state",.int m]
 |.thread m=> [.str "thread",.int m]
 |.copies m=> [.str "copies",.int m]
 |.letters a=> [.str "letters",.str a]
 |.on c d=> [.str (if c then "overdue" else "waiting"),.int d]
def qC(o:List Nat)(H:Hp):Ans->V->Prop
 |.num n,v=>v= .int n
 |.txt x,v=>v= .str x
 |.nums l,v=>∃p,v= .ref p/\p∉o/\H p=some (.lst (l.map λi=>V.int (i:Nat)))
 |.txts l,v=>∃p,v= .ref p/\p∉o/\H p=some (.lst (l.map V.str))
 |.row r,v=>∃p,v= .ref p/\p∉o/\H p=some (.tup (stV r))
def uT(H:Hp)(v:V):Prop:=∀p,v= .ref p->∀u,(∀a,u≠HO.tbl a)->H p≠some u
theorem uT.none{H:Hp}{l:Nat}(h:H l=none):uT H (.ref l):=λp z u _ e=>by cases z;rw[h]at e;cases e
theorem uT.nl{H:Hp}{l:Nat}(h:∀b u,(∀c,u≠HO.tbl c)->H b=some u->b≠l):uT H (.ref l):=λp z u a e=>by cases z;exact h _ u a e rfl
structure Sz(R:Rows)(S:List Int):Prop where
 r:R.length<64
 s:S.length<64
 c:∀r∈R,r.copies.length<=1000
def aJq(K:bYO)(Rf:Nat×Nat)(l CL:Nat)(p:xN->Prop):Sp:=λo H Q E=>∃ (i n d f:Nat)(j h:List Nat)(R:Rows)(S:List Int)(e:xN),o= [.ref i,.ref n]/\p e/\H n=some (.tup (xA e))/\PB l CL H i d f j h R S/\Sz R S/\Bk.jS R/\wJ Rf.2 H/\
 (∀ (a:Ans)(k:Rows)(m:List Int)(v:V)(g:Hp)(c b:List Nat),xS R S e a k m->PB l CL g i d f c b k m->aXg (own d f j h) H g->W7 H (own d f j h) (own d f c b)->wJ Rf.2 g->qC (own d f c b) g a v->uT H v->Q v g)/\(∀t,xS R S e (.txt t) R S->xM K Rf H E t)
section
variable {K:bYO}
abbrev W1:Stmt:=xI "do_enter"
theorem aVu:yN ["book","deed"] ["book","deed"] (yH W1):=scM
theorem aJ4(a:MG P w K mg base (CXR P w) n CB "enter" ["self","way","day","partner","term"] (bQR K Rf CB CL))(F:Fun K "do_enter" "do_enter" W1 f fd):xH P w K mg base (CXR P w) (n+1) f fd ["book","deed"] (aJq K Rf CB CL λe=>∃ (c:Str)(d:Int)(b:Str)(t:Int),e= .enter c d b t):=by
 have I:=aVu;refine F.okX (k:=n) I (λL A outer s H U Q E G h=>?_);obtain⟨B,i,v,x,C,y,R,S,e,rfl,⟨c,d,b,t,rfl⟩,g,u,O,T,tb,q,D⟩:=h;refine⟨_,(yG (yQ (v7 a G z9 (pv 0) (yA (yL yW (pv 1) yF) (yA (yL yW (pv 1) yF) (yA (yL yW (pv 1) yF) (yA (yL yW (pv 1) yF) yD))))))),?_⟩;obtain⟨N,J⟩:=u.book;have tk:∀ {j},vS (own v x C y) H j->wJ Rf.2 j:=λk=>x0 tb k u.kinds;have g:H i=some (.tup _):=g;refine⟨_,rfl,B,N,_,rfl,J,rfl,_,rfl,i,_,0,_,rfl,rfl,SqT.of g,rfl,_,rfl,i,_,1,_,rfl,rfl,SqT.of g,rfl,_,rfl,i,_,2,_,rfl,rfl,SqT.of g,rfl,_,rfl,i,_,3,_,rfl,rfl,SqT.of g,rfl,?_⟩;refine⟨B,v,x,C,y,R,S,c,d,b,t,rfl,u,by have:=O.r;omega,λo j p l m k M=>?_,λo=>D _ (.enterT o)⟩;exact q (.num R.length) _ _ _ j p l (.enter o) m k.t M (tk k) rfl (λ_ z=>nomatch z)
abbrev W4:Stmt:=xI "do_reply"
theorem aVw:yN ["book","deed"] ["book","deed"] (yH W4):=scM
theorem aJ6(a:MG P w K mg base (CXR P w) n CB "reply" ["self","number","day","term"] (bQW K Rf CB CL))(F:Fun K "do_reply" "do_reply" W4 f fd):xH P w K mg base (CXR P w) (n+1) f fd ["book","deed"] (aJq K Rf CB CL λe=>∃ (m:Int)(d:Int)(t:Int),e= .reply m d t):=by
 have J:=aVw;refine F.okX (k:=n) J (λM A outer s H W Q E I h=>?_);obtain⟨C,i,v,y,D,B,R,S,e,rfl,⟨m,d,t,rfl⟩,b,u,U,V,tb,q,j⟩:=h;refine⟨_,(yG (yQ (v7 a I z9 (pv 0) (yA (yL yW (pv 1) yF) (yA (yL yW (pv 1) yF) (yA (yL yW (pv 1) yF) yD)))))),?_⟩;obtain⟨T,L⟩:=u.book;have tk:∀ {c},vS (own v y D B) H c->wJ Rf.2 c:=λk=>x0 tb k u.kinds;have b:H i=some (.tup _):=b;refine⟨_,rfl,C,T,_,rfl,L,rfl,_,rfl,i,_,1,_,rfl,rfl,SqT.of b,rfl,_,rfl,i,_,2,_,rfl,rfl,SqT.of b,rfl,_,rfl,i,_,3,_,rfl,rfl,SqT.of b,rfl,?_⟩;refine⟨C,v,y,D,B,R,S,m,d,t,rfl,u,by have:=U.r;omega,λh=>j _ (.replyN h),λh g=>j _ (.replyT h g),λk r O x G g=>?_⟩;subst O;exact⟨λb=>j _ (.replyE x G g b),λb c p l o k N=>q (.num R.length) _ _ _ c p l (.reply x G g b) o k.t N (tk k) rfl (λ_ z=>nomatch z)⟩
abbrev aQ2:Stmt:=xI "do_hang"
theorem aKq:yN ["book","deed"] ["book","deed"] (yH aQ2):=scM
theorem aW5(a:MG P w K mg base (CXR P w) n CB "hang" ["self","number","other"] (bJw K Rf CB CL))(F:Fun K "do_hang" "do_hang" aQ2 f fd):xH P w K mg base (CXR P w) (n+1) f fd ["book","deed"] (aJq K Rf CB CL λe=>∃ (m:Int)(o:Int),e= .hang m o):=by
 have W:=aKq;refine F.okX (k:=n) W (λY A outer s H vs Q E V h=>?_);obtain⟨O,I,L,M,T,N,R,S,e,rfl,⟨m,o,rfl⟩,x,G,hz,J,tb,q,b⟩:=h;refine⟨_,(yC (y0 (v7 a V z9 (pv 0) (yA (yL yW (pv 1) yF) (yA (yL yW (pv 1) yF) yD)))) (yG (yQ yP))),?_⟩;obtain⟨dx,X⟩:=G.book;have tk:∀ {u},vS (own L M T N) H u->wJ Rf.2 u:=λk=>x0 tb k G.kinds;have x:H I=some (.tup _):=x;refine⟨_,rfl,O,dx,_,rfl,X,rfl,_,rfl,I,_,1,_,rfl,rfl,SqT.of x,rfl,_,rfl,I,_,2,_,rfl,rfl,SqT.of x,rfl,?_⟩;refine⟨O,L,M,T,N,R,S,m,o,rfl,G,hz.r,J,tb,λh=>b _ (.hangN h),λi j r q' em U g l c hw=>?_⟩;subst em;subst U;refine⟨λh=>b _ (.hangH g l c hw h),λh d=>b _ (.hangO g l c hw h d),λh d=>⟨λp=>b _ (.hangW g l c hw h d p),λp=>⟨λv=>b _ (.hangP g l c hw h d p v),λv=>⟨λy=>b _ (.hangE g l c hw h d p v y),λy u D B C k Z t=>?_⟩⟩⟩⟩;exact q (.txt "hung") _ _ _ u D B (.hang g l c hw h d p v y) C k Z t rfl (λ_ z=>nomatch z)
abbrev W3:Stmt:=xI "do_loose"
theorem aVv:yN ["book","deed"] ["book","deed"] (yH W3):=scM
theorem aJ5(a:MG P w K mg base (CXR P w) n CB "loosen" ["self","number"] (aWl K Rf CB CL))(F:Fun K "do_loose" "do_loose" W3 f fd):xH P w K mg base (CXR P w) (n+1) f fd ["book","deed"] (aJq K Rf CB CL λe=>∃ (m:Int),e= .loose m):=by
 have G:=aVv;refine F.okX (k:=n) G (λJ A outer s H T Q E D h=>?_);obtain⟨x,B,o,u,y,v,R,S,e,rfl,⟨m,rfl⟩,g,j,U,O,tb,q,l⟩:=h;refine⟨_,(yC (y0 (v7 a D z9 (pv 0) (yA (yL yW (pv 1) yF) yD))) (yG (yQ yP))),?_⟩;obtain⟨N,I⟩:=j.book;have tk:∀ {b},vS (own o u y v) H b->wJ Rf.2 b:=λk=>x0 tb k j.kinds;have g:H B=some (.tup _):=g;refine⟨_,rfl,x,N,_,rfl,I,rfl,_,rfl,B,_,1,_,rfl,rfl,SqT.of g,rfl,?_⟩;refine⟨x,o,u,y,v,R,S,m,rfl,j,λh=>l _ (.oneN h (.inl rfl)),λk r M p C=>?_⟩;subst M;exact⟨λh=>l _ (.looseN p C h),λh b i c d k L=>q (.txt "loose") _ _ _ b i c (.loose p C h) d k.t L (tk k) rfl (λ_ z=>nomatch z)⟩
abbrev aQ0:Stmt:=xI "do_date"
theorem aKo:yN ["book","deed"] ["book","deed"] (yH aQ0):=scM
theorem aW3(a:MG P w K mg base (CXR P w) n CB "put_day" ["self","number","day"] (aWm K Rf CB CL))(F:Fun K "do_date" "do_date" aQ0 f fd):xH P w K mg base (CXR P w) (n+1) f fd ["book","deed"] (aJq K Rf CB CL λe=>∃ (m:Int)(d:Int),e= .date m d):=by
 have L:=aKo;refine F.okX (k:=n) L (λN A outer s H X Q E J h=>?_);obtain⟨C,o,v,y,D,B,R,S,e,rfl,⟨m,d,rfl⟩,c,l,W,p,tb,q,u⟩:=h;refine⟨_,(yC (y0 (v7 a J z9 (pv 0) (yA (yL yW (pv 1) yF) (yA (yL yW (pv 1) yF) yD)))) (yG (yQ yP))),?_⟩;obtain⟨U,M⟩:=l.book;have tk:∀ {b},vS (own v y D B) H b->wJ Rf.2 b:=λk=>x0 tb k l.kinds;have c:H o=some (.tup _):=c;refine⟨_,rfl,C,U,_,rfl,M,rfl,_,rfl,o,_,1,_,rfl,rfl,SqT.of c,rfl,_,rfl,o,_,2,_,rfl,rfl,SqT.of c,rfl,?_⟩;refine⟨C,v,y,D,B,R,S,m,d,rfl,l,by have:=W.r;omega,p,λh=>u _ (.oneN h (.inr (.inl ⟨d,rfl⟩))),λk r T x G=>?_⟩;subst T;exact⟨λh=>u _ (.dateE x G h),λV I b j g i k O=>q (.txt "dated") _ _ _ b j g (.date x G V I) i k.t O (tk k) rfl (λ_ z=>nomatch z)⟩
abbrev aQ4:Stmt:=xI "do_term"
theorem aKs:yN ["book","deed"] ["book","deed"] (yH aQ4):=scM
theorem aW7(a:MG P w K mg base (CXR P w) n CB "put_term" ["self","number","term"] (aJs K Rf CB CL))(F:Fun K "do_term" "do_term" aQ4 f fd):xH P w K mg base (CXR P w) (n+1) f fd ["book","deed"] (aJq K Rf CB CL λe=>∃ (m:Int)(t:Int),e= .term m t):=by
 have G:=aKs;refine F.okX (k:=n) G (λJ A outer s H T Q E D h=>?_);obtain⟨y,l,p,v,B,x,R,S,e,rfl,⟨m,t,rfl⟩,c,j,U,O,tb,q,o⟩:=h;refine⟨_,(yC (y0 (v7 a D z9 (pv 0) (yA (yL yW (pv 1) yF) (yA (yL yW (pv 1) yF) yD)))) (yG (yQ yP))),?_⟩;obtain⟨N,I⟩:=j.book;have tk:∀ {b},vS (own p v B x) H b->wJ Rf.2 b:=λk=>x0 tb k j.kinds;have c:H l=some (.tup _):=c;refine⟨_,rfl,y,N,_,rfl,I,rfl,_,rfl,l,_,1,_,rfl,rfl,SqT.of c,rfl,_,rfl,l,_,2,_,rfl,rfl,SqT.of c,rfl,?_⟩;refine⟨y,p,v,B,x,R,S,m,t,rfl,j,λh=>o _ (.oneN h (.inr (.inr (.inl ⟨t,rfl⟩)))),λk r M u C=>?_⟩;subst M;exact⟨λh=>o _ (.termN u C h),λh b i d g k L=>q (.txt "set") _ _ _ b i d (.term u C h) g k.t L (tk k) rfl (λ_ z=>nomatch z)⟩
abbrev aQZ:Stmt:=xI "do_copy"
theorem aKn:yN ["book","deed"] ["book","deed"] (yH aQZ):=scM
theorem aW2(a:MG P w K mg base (CXR P w) n CB "send_copy" ["self","number","person"] (bJA K Rf CB CL))(F:Fun K "do_copy" "do_copy" aQZ f fd):xH P w K mg base (CXR P w) (n+1) f fd ["book","deed"] (aJq K Rf CB CL λe=>∃ (m:Int)(b:Str),e= .copy m b):=by
 have L:=aKn;refine F.okX (k:=n) L (λN A outer s H Y Q E J h=>?_);obtain⟨C,p,v,y,D,B,R,S,e,rfl,⟨m,b,rfl⟩,g,o,W,X,tb,q,u⟩:=h;refine⟨_,(yG (yQ (v7 a J z9 (pv 0) (yA (yL yW (pv 1) yF) (yA (yL yW (pv 1) yF) yD))))),?_⟩;obtain⟨U,M⟩:=o.book;have tk:∀ {d},vS (own v y D B) H d->wJ Rf.2 d:=λk=>x0 tb k o.kinds;have g:H p=some (.tup _):=g;refine⟨_,rfl,C,U,_,rfl,M,rfl,_,rfl,p,_,1,_,rfl,rfl,SqT.of g,rfl,_,rfl,p,_,2,_,rfl,rfl,SqT.of g,rfl,?_⟩;refine⟨C,v,y,D,B,R,S,m,b,rfl,o,W.c,λh=>u _ (.oneN h (.inr (.inr (.inr (.inl ⟨b,rfl⟩))))),λk r T x G=>?_⟩;subst T;exact⟨λh=>u _ (.copyC x G h),λV I d l i j k O=>q (.num (r.copies.length+1)) _ _ _ d l i (.copy x G V I) j k.t O (tk k) rfl (λ_ z=>nomatch z)⟩
abbrev aQ1:Stmt:=xI "do_file"
theorem aKp:yN ["book","deed"] ["book","deed"] (yH aQ1):=scM
theorem aW4(a:MG P w K mg base (CXR P w) n CB "lay_thread" ["self","number","name"] (bWd K Rf CB CL))(F:Fun K "do_file" "do_file" aQ1 f fd):xH P w K mg base (CXR P w) (n+1) f fd ["book","deed"] (aJq K Rf CB CL λe=>∃ (m:Int)(name:Str),e= .file m name):=by
 have C:=aKp;refine F.okX (k:=n) C (λG A outer s H O Q E x h=>?_);obtain⟨u,l,p,t,g,d,R,S,e,rfl,⟨m,name,rfl⟩,c,j,L,o,tb,q,v⟩:=h;refine⟨_,(yG (yQ (v7 a x z9 (pv 0) (yA (yL yW (pv 1) yF) (yA (yL yW (pv 1) yF) yD))))),?_⟩;obtain⟨J,D⟩:=j.book;have tk:∀ {b},vS (own p t g d) H b->wJ Rf.2 b:=λk=>x0 tb k j.kinds;have c:H l=some (.tup _):=c;refine⟨_,rfl,u,J,_,rfl,D,rfl,_,rfl,l,_,1,_,rfl,rfl,SqT.of c,rfl,_,rfl,l,_,2,_,rfl,rfl,SqT.of c,rfl,?_⟩;refine⟨u,p,t,g,d,R,S,m,name,rfl,j,L.r,o,tb,λh=>v _ (.oneN h (.inr (.inr (.inr (.inr (.inl ⟨name,rfl⟩)))))),λk r I y N b i M B=>?_⟩;subst I;exact q (.num (Bk.thr R k).length) _ _ _ b g d (.file y N) i M W7.refl B rfl (λ_ z=>nomatch z)
abbrev aQ5:Stmt:=xI "do_void"
theorem aKt:yN ["book","deed"] ["book","deed"] (yH aQ5):=scM
theorem aW8(a:MG P w K mg base (CXR P w) n CB "cancel" ["self","number"] (aWe K Rf CB CL))(F:Fun K "do_void" "do_void" aQ5 f fd):xH P w K mg base (CXR P w) (n+1) f fd ["book","deed"] (aJq K Rf CB CL λe=>∃ (m:Int),e= .void m):=by
 have G:=aKt;refine F.okX (k:=n) G (λJ A outer s H U Q E D h=>?_);obtain⟨x,B,o,u,y,v,R,S,e,rfl,⟨m,rfl⟩,g,j,O,T,tb,q,l⟩:=h;refine⟨_,(yC (y0 (v7 a D z9 (pv 0) (yA (yL yW (pv 1) yF) yD))) (yG (yQ yP))),?_⟩;obtain⟨N,I⟩:=j.book;have tk:∀ {b},vS (own o u y v) H b->wJ Rf.2 b:=λk=>x0 tb k j.kinds;have g:H B=some (.tup _):=g;refine⟨_,rfl,x,N,_,rfl,I,rfl,_,rfl,B,_,1,_,rfl,rfl,SqT.of g,rfl,?_⟩;refine⟨x,o,u,y,v,R,S,m,rfl,j,by have:=O.r;omega,λh=>l _ (.oneN h (.inr (.inr (.inr (.inr (.inr (.inl rfl))))))),λk r M p C=>?_⟩;subst M;exact⟨λh=>l _ (.voidA p C h),λh b i c d k L=>q (.txt "void") _ _ _ b i c (.void p C h) d k.t L (tk k) rfl (λ_ z=>nomatch z)⟩
abbrev aQ3:Stmt:=xI "do_shut"
theorem aKr:yN ["book","deed"] ["book","deed"] (yH aQ3):=scM
theorem aW6(a:MG P w K mg base (CXR P w) n CB "shut_day" ["self","day"] (bJB K Rf CB CL))(F:Fun K "do_shut" "do_shut" aQ3 f fd):xH P w K mg base (CXR P w) (n+1) f fd ["book","deed"] (aJq K Rf CB CL λe=>∃ (d:Int),e= .shut d):=by
 have B:=aKr;refine F.okX (k:=n) B (λD A outer s H M Q E y h=>?_);obtain⟨r,v,m,o,u,p,R,S,e,rfl,⟨d,rfl⟩,i,l,J,L,tb,q,x⟩:=h;refine⟨_,(yC (y0 (v7 a y z9 (pv 0) (yA (yL yW (pv 1) yF) yD))) (yG (yQ yP))),?_⟩;obtain⟨I,C⟩:=l.book;have tk:∀ {b},vS (own m o u p) H b->wJ Rf.2 b:=λk=>x0 tb k l.kinds;have i:H v=some (.tup _):=i;refine⟨_,rfl,r,I,_,rfl,C,rfl,_,rfl,v,_,1,_,rfl,rfl,SqT.of i,rfl,?_⟩;refine⟨r,m,o,u,p,R,S,d,rfl,l,by have:=J.s;omega,λh=>x _ (.shutN h),λh b j c g k G=>?_⟩;exact q (.txt "shut") _ _ _ b j c (.shut h) g k.t G (tk k) rfl (λ_ z=>nomatch z)
abbrev qM:Stmt:=xI "ask_state"
theorem aJk:yN ["book","deed"] ["book","deed"] (yH qM):=scM
theorem aZ7(a:MG P w K mg base (CXR P w) n CB "state_of" ["self","number"] (aJu K Rf CB CL))(F:Fun K "ask_state" "ask_state" qM f fd):xH P w K mg base (CXR P w) (n+1) f fd ["book","deed"] (aJq K Rf CB CL λe=>∃ (m:Int),e= .state m):=by
 have z:=aJk;refine F.okX (k:=n) z (λC A outer s H L Q E x h=>?_);obtain⟨p,u,j,o,d,c,R,S,e,rfl,⟨m,rfl⟩,g,b,M,J,tb,q,v⟩:=h;refine⟨_,(yG (yQ (v7 a x z9 (pv 0) (yA (yL yW (pv 1) yF) yD)))),?_⟩;obtain⟨G,B⟩:=b.book;have tk:∀ {H'},vS (own j o d c) H H'->wJ Rf.2 H':=λk=>x0 tb k b.kinds;have g:H u=some (.tup _):=g;refine⟨_,rfl,p,G,_,rfl,B,rfl,_,rfl,u,_,1,_,rfl,rfl,SqT.of g,rfl,?_⟩;refine⟨p,j,o,d,c,R,S,m,rfl,b,λk r l D y I hl=>?_,λh=>v _ (.oneN h (.inr (.inr (.inr (.inr (.inr (.inr (.inl rfl))))))))⟩;subst D;have i:=yE hl (.tup (stV r));exact q (.row r) _ _ _ _ d c (.state y I) (b.same i) (aXg.of i.t) W7.refl (tk (vS.of i)) ⟨l,rfl,b.notnone hl,yB⟩ (uT.none hl)
abbrev jA:Stmt:=xI "ask_thread"
theorem aZn:yN ["book","deed"] ["book","deed"] (yH jA):=scM
theorem aX4(a:MG P w K mg base (CXR P w) n CB "thread_of" ["self","number"] (jQ K Rf CB CL))(F:Fun K "ask_thread" "ask_thread" jA f fd):xH P w K mg base (CXR P w) (n+1) f fd ["book","deed"] (aJq K Rf CB CL λe=>∃ (m:Int),e= .thread m):=by
 have C:=aZn;refine F.okX (k:=n) C (λG A outer s H N Q E y h=>?_);obtain⟨t,v,o,p,g,d,R,S,e,rfl,⟨m,rfl⟩,i,b,L,j,tb,q,x⟩:=h;refine⟨_,(yG (yQ (v7 a y z9 (pv 0) (yA (yL yW (pv 1) yF) yD)))),?_⟩;obtain⟨J,D⟩:=b.book;have tk:∀ {c},vS (own o p g d) H c->wJ Rf.2 c:=λk=>x0 tb k b.kinds;have i:H v=some (.tup _):=i;refine⟨_,rfl,t,J,_,rfl,D,rfl,_,rfl,v,_,1,_,rfl,rfl,SqT.of i,rfl,?_⟩;refine⟨t,o,p,g,d,R,S,m,rfl,b,L.r,j.tree,tb,λh=>x _ (.oneN h (.inr (.inr (.inr (.inr (.inr (.inr (.inr (.inl rfl))))))))),λk r I z M c l nl u B hl=>?_⟩;subst I;exact q (.nums (Bk.thr R k)) _ _ _ c g d (.thread z M) (b.sameT u) (aXg.of u) W7.refl B ⟨l,rfl,b.notown nl,hl⟩ (uT.nl nl)
abbrev u9:Stmt:=xI "ask_copies"
theorem aZm:yN ["book","deed"] ["book","deed"] (yH u9):=scM
theorem aX3(a:MG P w K mg base (CXR P w) n CB "copies_of" ["self","number"] (aWg K Rf CB CL))(F:Fun K "ask_copies" "ask_copies" u9 f fd):xH P w K mg base (CXR P w) (n+1) f fd ["book","deed"] (aJq K Rf CB CL λe=>∃ (m:Int),e= .copies m):=by
 have z:=aZm;refine F.okX (k:=n) z (λC A outer s H L Q E x h=>?_);obtain⟨p,u,j,o,d,c,R,S,e,rfl,⟨m,rfl⟩,g,b,M,J,tb,q,v⟩:=h;refine⟨_,(yG (yQ (v7 a x z9 (pv 0) (yA (yL yW (pv 1) yF) yD)))),?_⟩;obtain⟨G,B⟩:=b.book;have tk:∀ {H'},vS (own j o d c) H H'->wJ Rf.2 H':=λk=>x0 tb k b.kinds;have g:H u=some (.tup _):=g;refine⟨_,rfl,p,G,_,rfl,B,rfl,_,rfl,u,_,1,_,rfl,rfl,SqT.of g,rfl,?_⟩;refine⟨p,j,o,d,c,R,S,m,rfl,b,λk r l D y I hl=>?_,λh=>v _ (.oneN h (.inr (.inr (.inr (.inr (.inr (.inr (.inr (.inr rfl)))))))))⟩;subst D;have i:=yE hl (.lst (r.copies.map V.str));exact q (.txts r.copies) _ _ _ _ d c (.copies y I) (b.same i) (aXg.of i.t) W7.refl (tk (vS.of i)) ⟨l,rfl,b.notnone hl,yB⟩ (uT.none hl)
abbrev uH:Stmt:=xI "ask_letters"
theorem aXt:yN ["book","deed"] ["book","deed"] (yH uH):=scM
theorem aXm(a:MG P w K mg base CX0 n CB "letters_in" ["self","name"] (aQ9 CB CL))(F:Fun K "ask_letters" "ask_letters" uH f fd):xH P w K mg base (CXR P w) (n+1) f fd ["book","deed"] (aJq K Rf CB CL λe=>∃ (name:Str),e= .letters name):=by
 have x:=aXt;refine F.okX (k:=n) x (λz A outer s H I Q E v h=>?_);obtain⟨p,u,m,o,d,c,R,S,e,rfl,⟨name,rfl⟩,g,b,C,D,tb,q,G⟩:=h;refine⟨_,(yG (yQ (v7 a v v5 (pv 0) (yA (yL yW (pv 1) yF) yD)))),?_⟩;obtain⟨B,y⟩:=b.book;have tk:∀ {H'},vS (own m o d c) H H'->wJ Rf.2 H':=λk=>x0 tb k b.kinds;have g:H u=some (.tup _):=g;refine⟨_,rfl,p,B,_,rfl,y,rfl,_,rfl,u,_,1,_,rfl,rfl,SqT.of g,rfl,?_⟩;refine⟨p,m,o,d,c,R,S,name,rfl,b,C.r,λl hl=>?_⟩;have j:=yE hl (.lst ((W9 R name).map λi=>V.int (i:Nat)));exact q (.nums (W9 R name)) _ _ _ _ d c .letters (b.same j) (aXg.of j.t) W7.refl (tk (vS.of j)) ⟨l,rfl,b.notnone hl,yB⟩ (uT.none hl)
abbrev uJ:Stmt:=xI "ask_waiting"
theorem aXv:yN ["book","deed"] ["book","deed"] (yH uJ):=scM
theorem aXo(a:MG P w K mg base CX0 n CB "waiting" ["self","day"] (bKK CB CL false))(F:Fun K "ask_waiting" "ask_waiting" uJ f fd):xH P w K mg base (CXR P w) (n+1) f fd ["book","deed"] (aJq K Rf CB CL λe=>∃ (d:Int),e= .on false d):=by
 have C:=aXv;refine F.okX (k:=n) C (λI A outer s H N Q E B h=>?_);obtain⟨x,z,u,v,m,j,R,S,e,rfl,⟨d,rfl⟩,o,b,y,L,tb,q,M⟩:=h;refine⟨_,(yG (yQ (v7 a B v5 (pv 0) (yA (yL yW (pv 1) yF) yD)))),?_⟩;obtain⟨J,G⟩:=b.book;have tk:∀ {c},vS (own u v m j) H c->wJ Rf.2 c:=λk=>x0 tb k b.kinds;have o:H z=some (.tup _):=o;refine⟨_,rfl,x,J,_,rfl,G,rfl,_,rfl,z,_,1,_,rfl,rfl,SqT.of o,rfl,?_⟩;refine⟨x,u,v,m,j,R,S,d,rfl,b,y.r,y.s,λl c D p hl g i=>?_⟩;exact q (.nums D) _ _ _ c m j (.on i) (b.same p) (aXg.of p.t) W7.refl (tk (vS.of p)) ⟨l,rfl,b.notnone hl,g⟩ (uT.none hl)
abbrev uI:Stmt:=xI "ask_overdue"
theorem aXu:yN ["book","deed"] ["book","deed"] (yH uI):=scM
theorem aXn(a:MG P w K mg base CX0 n CB "overdue" ["self","day"] (bKK CB CL true))(F:Fun K "ask_overdue" "ask_overdue" uI f fd):xH P w K mg base (CXR P w) (n+1) f fd ["book","deed"] (aJq K Rf CB CL λe=>∃ (d:Int),e= .on true d):=by
 have C:=aXu;refine F.okX (k:=n) C (λI A outer s H N Q E B h=>?_);obtain⟨x,z,u,v,m,j,R,S,e,rfl,⟨d,rfl⟩,o,b,y,L,tb,q,M⟩:=h;refine⟨_,(yG (yQ (v7 a B v5 (pv 0) (yA (yL yW (pv 1) yF) yD)))),?_⟩;obtain⟨J,G⟩:=b.book;have tk:∀ {c},vS (own u v m j) H c->wJ Rf.2 c:=λk=>x0 tb k b.kinds;have o:H z=some (.tup _):=o;refine⟨_,rfl,x,J,_,rfl,G,rfl,_,rfl,z,_,1,_,rfl,rfl,SqT.of o,rfl,?_⟩;refine⟨x,u,v,m,j,R,S,d,rfl,b,y.r,y.s,λl c D p hl g i=>?_⟩;exact q (.nums D) _ _ _ c m j (.on i) (b.same p) (aXg.of p.t) W7.refl (tk (vS.of p)) ⟨l,rfl,b.notnone hl,g⟩ (uT.none hl)
end
end Desk
namespace Desk
open PySem L2 PyProof.Rows
open Bk (Row Rows xN Ans xS)
open Thr (wJ v1 qT)
structure bKT(P:bY8)(w:cQg)(K:bYO)(D:Nat)(kvs:List (Key×bYM)):Prop where
 at_:∃o es ep,K.lookup D=some o/\o.ExactDict/\o.data= .dict es ep/\KeysOf (zE P w) es/\Pairs (zE P w) es.toList kvs/\(kvs.map (·.1)).Nodup
def bYK(a:List (Key×bYM))(c:TE):TE:=λσ H Q=>c σ H λy b=>∃ (x:Str)(f:Nat),y= .str x/\cJc a (Sum.inr x)=some (.ref f)/\Q (.ref f) b
theorem bW5{X:Cx}{x:Str}{D:Nat}{a:List (Key×bYM)}{i:Expr}{e:TE}{p pos:Pos}(q:Gl X x)(r:X.mg x=some (.ref D))(T:bKT X.prog X.w X.K D a)(A:PE X i e)(z:bYf i)(c:(x==("__debug__":Str))=false:=by decide):
  PE X (.Subscript (.Name x p) i pos) (bYK a e):=by
 intro b s σ H Q I h
 refine bWe PySem.F.slot_dict_getitem.lookup z (uY I q r (thn (A b s σ H _ I h) λiv s2 ⟨y,H2,I2,ry,x',f,ex,hv,q2⟩=>?_) c)
 subst ex
 obtain⟨o,l,u,v,m,g,j,n,t⟩:=T.at_
 have d:s2.heap.DictOf (zE X.prog X.w) D a:=⟨o,l,u,I2.kIn _ _ v,m,g,j,n,t⟩
 exact⟨d.typeIs,wpAny_getItem_of (bXx (k:=Sum.inr x') ry) d.mapOf hv ⟨.ref f,H2,I2.tok _,rfl,q2⟩⟩
def bJD(P:bY8)(w:cQg)(K:bYO)(mg:Str->Option bYM)(base:Heap)(k i:Nat)(E:XK)(t:TA):TE:=λσ H Q=>∃f,σ[i]? =some (some (.ref f))/\cQK K (.ref f)=true/\
 t σ H λe d=>∃a b c,xH P w K mg base (CXR P w) k f a b c/\v9 K a b []/\c e d Q E
theorem bZc{X:Cx}{k i:Nat}{x:Str}{e:Expr}{c:List Expr}{t:TA}{E:XK}{p pos:Pos}(m:vZ k X.A)(n:X.N[i]? =some x)(J:Vis X.env.scope x)(C:vT (CXR X.prog X.w) X E)(D:PA X (e::c) t)
  (l:(x==("__debug__":Str))=false:=by decide) (g:(x==("__classdict__":Str))=false:=by decide) (B:cQt (e::c) X.env=(false,eval e X.env)::cQt c X.env:=by rfl) (j:(cXu pos (cQt c X.env)).any (·.1)=false:=by rfl):
  PE X (.Call (.Name x p) (e::c) [] pos) (bJD X.prog X.w X.K X.mg X.base k i E t):=by
 intro a s σ H Q I h
 obtain⟨f,G,o,q⟩:=h
 refine cXv (thn (bJs (pos:=p) n J l g a s σ H (λv d=>v= .ref f/\d=H) I ⟨_,G,rfl,rfl⟩) ?_)
 rintro u z ⟨v,d,y,L,rfl,rfl⟩
 obtain rfl:u=Value.ref f:=L
 refine cZG (h₀:=X.base) I.ok.mod.kin o (thn (D pos a z σ d _ y q) λus s2 ⟨vs,H2,I2,r,fd,ps,sp,F,b,q2⟩=>⟨I2.kIn,?_⟩) B j
 exact aJh F m b .nil C I2 r (by rw[cQP];exact q2)
def aWM:xN->Str
 |.enter b _ _ _=>b
 |.reply _ _ _=>"reply"
 |.hang _ _=>"hang"
 |.loose _=>"loose"
 |.date _ _=>"date"
 |.term _ _=>"term"
 |.copy _ _=>"copy"
 |.file _ _=>"file"
 |.void _=>"void"
 |.shut _=>"shut"
 |.state _=>"state"
 |.thread _=>"thread"
 |.copies _=>"copies"
 |.letters _=>"letters"
 |.on a _=>if a then "overdue" else "waiting"
def Wf:xN->Prop
 |.enter a _ _ _=>a="in"\/a="out"
 |_=>True
theorem bXk(e:xN):atI (xA e) 0=some (.str (aWM e)):=by cases e<;> rfl
def bWr(P:bY8)(w:cQg)(K:bYO)(mg:Str->Option bYM)(base:Heap)(n:Nat)(Rf:Nat×Nat)(c CL:Nat)(a:List (Key×bYM)):Prop:=∀e:xN,Wf e->∃ (f:Nat)(b:cXL)(p:xN->Prop),cJc a (Sum.inr (aWM e))=some (.ref f)/\
 xH P w K mg base (CXR P w) n f b ["book","deed"] (aJq K Rf c CL p)/\p e/\v9 K b ["book","deed"] []/\cQK K (.ref f)=true
def aZs(Rf:Nat×Nat)(l CL:Nat):Sp:=λo H Q _=>∃ (i n d f:Nat)(j h:List Nat)(R:Rows)(S:List Int)(e:xN),o= [.ref i,.ref n]/\Wf e/\H n=some (.tup (xA e))/\PB l CL H i d f j h R S/\Sz R S/\Bk.jS R/\wJ Rf.2 H/\
 ∀ (a:Ans)(k:Rows)(m:List Int)(v:V)(g:Hp)(c b:List Nat),xS R S e a k m->PB l CL g i d f c b k m->aXg (own d f j h) H g->W7 H (own d f j h) (own d f c b)->wJ Rf.2 g->qC (own d f c b) g a v->uT H v->Q v g
section
variable {K:bYO}
abbrev aVg:Stmt:=xI "answer"
theorem bQu:yN ["book","deed","do","refusal"] ["book","deed"] (yH aVg):=scM
theorem aYH(Y:mg "DEEDS"=some (.ref D))(TD:bKT P w K D kvs)(hR:mg "Refused"=some (.ref Rf.1))(W:uA K Rf.1)(all:bWr P w K mg base n Rf CB CL kvs)(F:Fun K "answer" "answer" aVg f fd): xH P w K mg base CX0 (n+1) f fd ["book","deed"] (aZs Rf CB CL):=by
 have p:=bQu;refine F.ok (k:=n) p (λN A outer s H vs Q E G h=>?_);obtain⟨J,x,B,I,r,o,R,S,e,rfl,d,u,v,U,l,tb,q⟩:=h;refine⟨_,(yC (yU (i:=2) (bW5 rfl Y TD (yL yW (pv 1) yF) (λ_ _=>rfl))) (yG (bW8 (i:=3) p.nd rfl rfl rfl hR W rfl rfl rfl (by decide) (by decide) (by decide) (λ_=>rfl) (tb:=λE=>bYm (bJD P w K mg base n 2 E (aKE (bWh 0) (aKE (bWh 1) bZW)))) (λpn xe E V=>yG (yQ (bZc G rfl (Or.inl rfl) V (yA (pv 0) (yA (pv 1) yD)))))))),?_⟩;obtain⟨m,g,pe,Z,M,j,c,a⟩:=all e d;refine⟨_,rfl,x,_,0,_,rfl,rfl,SqT.of u,bXk e,aWM e,m,rfl,Z,?_⟩;dsimp only[yX];refine⟨m,rfl,a,_,rfl,_,rfl,g,_,_,M,c,J,x,B,I,r,o,R,S,e,rfl,j,u,v,U,l,tb,q,λt b=>?_⟩;intro C O y X L k T;exact⟨C,O,t,rfl,rfl,X,L,T,q (.txt t) R S _ y r o b (v.sameT k.1) (aXg.of k.1) W7.refl (k.2 tb) rfl (λ_ z=>nomatch z)⟩
inductive Run:Rows->List Int->List xN->List Ans->Rows->List Int->Prop
 |nil {R:Rows} {S:List Int}:Run R S [] [] R S
 |snoc {R R' R'':Rows} {S S' S'':List Int} {es:List xN} {as:List Ans} {e:xN} {a:Ans} (h:Run R S es as R' S') (d:xS R' S' e a R'' S''):Run R S (es++ [e]) (as++ [a]) R'' S''
theorem Run.len{R e:Rows}{S c:List Int}{b:List xN}{a:List Ans}(h:Run R S b a e c):b.length=a.length:=by
 induction h with
 |nil=>rfl
 |snoc h d f=>simp[f]
structure Up(t:Nat)(R:Rows)(S:List Int):Prop where
 r:R.length<=t
 s:S.length<=t
 c:∀r∈R,r.copies.length<=t
theorem Up.set{t:Nat}{R:Rows}{S:List Int}(u:Up t R S)(k:Nat)(f:Row->Row)(a:∀r,(f r).copies.length<=r.copies.length+1):Up (t+1) (Bk.xG R k f) S:=
 ⟨by rw[Bk.xX];exact cXm u.r,cXm u.s,λr b=>by
  rcases Bk.qZ b with h|⟨q,h,rfl⟩
  ·exact cXm (u.c r h)
  ·exact cQo (a q) (Nat.succ_le_succ (u.c q h))⟩
theorem aQA{name:Str}:∀ (l:List Nat)(R:Rows)(t:Nat),(∀r∈R,r.copies.length<=t)->∀r∈Bk.laid R l name,r.copies.length<=t
 |[],R,t,h,r,hr=>h r hr
 |k::l,R,t,h,r,hr=>aQA l (Bk.xG R k λr=>{r with place:=name}) t (λq b=>by
   rcases Bk.qZ b with z|⟨a,z,rfl⟩
   ·exact h q z
   ·exact h a z) r hr
theorem Up.laid{t:Nat}{R:Rows}{S:List Int}(u:Up t R S)(l:List Nat)(name:Str):Up t (Bk.laid R l name) S:=⟨by rw[Bk.wQ];exact u.r,u.s,aQA l R t u.c⟩
theorem Up.le{t:Nat}{R:Rows}{S:List Int}(u:Up t R S):Up (t+1) R S:=⟨cXm u.r,cXm u.s,λr h=>cXm (u.c r h)⟩
theorem Up.snoc{t:Nat}{R:Rows}{S:List Int}(u:Up t R S)(r:Row)(h:r.copies= []):Up (t+1) (R++ [r]) S:=⟨by simpa using u.r,cXm u.s,λq a=>by
 rcases cQn.mp a with z|z
 ·exact cXm (u.c q z)
 ·rw[bY1.mp z,h];exact cQM _⟩
theorem Up.done{t:Nat}{R d:Rows}{S b:List Int}{e:xN}{a:Ans}(u:Up t R S)(h:xS R S e a d b):Up (t+1) d b:=by
 cases h with
 |enter _=>exact u.snoc _ rfl
 |reply _ _ _ _=>exact u.snoc _ rfl
 |hang _ _ _ _ _ _ _ _ _=>exact(u.laid _ _).set _ _ λ_=>cXT _
 |loose _ _ _=>exact u.set _ _ λ_=>cXT _
 |date _ _ _ _=>exact u.set _ _ λ_=>cXT _
 |term _ _ _=>exact u.set _ _ λ_=>cXT _
 |copy _ _ _ _=>exact u.set _ _ λr=>by simp
 |file _ _=>exact(u.laid _ _).le
 |void _ _ _=>exact u.set _ _ λ_=>cXT _
 |shut _=>exact⟨cXm u.r,by simpa using u.s,λr h=>cXm (u.c r h)⟩
 |_=>exact u.le
theorem Up.sz{t:Nat}{R:Rows}{S:List Int}(u:Up t R S)(h:t<64):Sz R S:=⟨by have:=u.r;omega,by have:=u.s;omega,λr a=>by have:=u.c r a;omega⟩
end
end Desk
namespace Law
open PySem L2 PyProof.Rows
open Bk (Row Rows xS xN Ans)
open Desk (xA qC uT Wf)
abbrev aZc:Stmt:=xI "_law_entered"
def aXh(e:Nat)(c a:List Nat)(H d:Hp):Prop:=(∀x o,x∉e::c->H x=some o->d x=some o)/\(∀b∈a,b∈c\/H b=none)/\∀s u,H s=some u->NoC c H s->NoC a d s
theorem But.step{d:Nat}{a:List Nat}{H c:Hp}(k:But a H c):aXh d a a H c:=⟨λx o n e=>k.1 x o (λz=>n (bYZ _ z)) e,λb h=> .inl h,k.2.2⟩
theorem aXh.pre{g:Nat}{c a:List Nat}{H f d:Hp}(i:∀b∈c,∃o,H b=some o)(k:xF H f)(s:aXh g c a f d):aXh g c a H d:=
 ⟨λx o n e=>s.1 x o n (k _ _ e),λb h=>(s.2.1 b h).imp id λz=>k.fresh z,λx u e n=>s.2.2 x u (k _ _ e) ((But.of i k).2.2 x u e n)⟩
def aQ8:Sp:=λl H Q _=>∃ (f k:Nat)(i:List Nat)(R:Rows)(e:xN),l= [.ref f,.ref k]/\H k=some (.tup (xA e))/\Wf e/\((∃h d g t,e= .enter h d g t)\/∃m d t,e= .reply m d t)/\xC H f i R/\R.length<=60/\
 ∀ (c:Hp)(a:Ans)(v:V)(j:Rows)(b:List Nat),aXh f i b H c->xC c f b j->(∀S,xS R S e a j S)->qC [] c a v->uT H v->Q v c
theorem aWA{H:Hp}{k:Nat}{p:List Nat}{R:Rows}(h:xC H k p R){r:Row}(P:r.copies= []){g b:Nat}(v:H g=none)(F:upd H g (.lst []) b=none): xC (upd (upd (upd H g (.lst [])) b (.lst (uQ r g))) k (.lst ((p++ [b]).map V.ref))) k (p++ [b]) (R++ [r])/\aXh k p (p++ [b]) H (upd (upd (upd H g (.lst [])) b (.lst (uQ r g))) k (.lst ((p++ [b]).map V.ref))):=by
 have N:=yE v (.lst []);have T:=yE F (.lst (uQ r g));have D:=N.trans T;have m:H b=none:=N.fresh F;have A:b≠k:=λz=>by rw[z,h.lst]at m;cases m
 have I:g≠k:=λz=>by rw[z,h.lst]at v;cases v
 have J:g≠b:=λz=>by rw[<- z,yB]at F;cases F
 have nb:b∉p:=λz=>by obtain⟨o,e⟩:=h.dom b z;rw[m]at e;cases e
 have rne:∀ {a r' d},H a=some (.lst (uQ r' d))->a≠k:=λq z=>by rw[z,h.lst]at q;exact aQP (bY6 q).symm
 refine⟨⟨yB,by simp[h.len],?_,λi c q j f=>?_⟩,λx o n e=>?_,λc t=>?_,λs u e n c t l E=>?_⟩
 ·exact cZi.mpr ⟨h.nd,cXd _ _,λa S c v z=>nb (by rw[<- bY1.mp v,<- z];exact S)⟩
 ·by_cases B:i<R.length
  ·rw[cQp (by rw[h.len];exact B)]at j;rw[cQp B]at f;obtain⟨d,G,w⟩:=h.row i c q j f;have K:d≠k:=λz=>by
    rw[z,h.lst]at w;have hl:=congrArg cXQ (HO.lst.inj (bY6 w));have:=bY5 j;cases p with
    |nil=>cases this
    |cons x W=>
     cases C:q.copies with
     |nil=>rw[C]at hl;simp at hl
     |cons y U=>rw[C]at w;have:=HO.lst.inj (bY6 w);simp at this
   exact⟨d,by rw[yJ (rne G)];exact D _ _ G,by rw[yJ K];exact D _ _ w⟩
  ·have L:i=R.length:=by
    have:=(bYY.mp f).1;simp at this;omega
   subst L;rw[bY9 (by rw[h.len];exact bYT _),h.len,cQ4]at j;rw[bY9 (bYT _),cQ4]at f;cases j;cases f;exact⟨g,by rw[yJ A,yB];rfl,by rw[yJ I,yJ J,yB,P];rfl⟩
 ·have O:x≠k:=λz=>n (by rw[z];exact bY4);rw[yJ O];exact D _ _ e
 ·rcases cQn.mp t with z|z
  ·exact .inl z
  ·exact .inr (by rw[bY1.mp z];exact m)
 ·rcases cQn.mp t with z|z
  ·have z2:c≠k:=λy=>by
    obtain⟨i,B,Q⟩:=cQD z;obtain⟨d,G,_⟩:=h.row i c _ (by rw[bYL B,Q]) (bYL (show i<R.length by rw[<- h.len];exact B));exact rne G y
   obtain⟨o,M⟩:=h.dom c z;rw[yJ z2,D _ _ M]at E;exact n c z l (by rw[M];exact E)
  ·rw[bY1.mp z,yJ A,yB]at E;cases E;intro y;have:g=s:=by injection y with y;injection y
   rw[<- this,v]at e;cases e
section
variable {K:bYO}
theorem uN:cQw "int"=some (.type "int"):=dk
theorem aKu:yN ["_law_rows","_law_deed","_law_way","_law_date","_law_partner","_law_link","_law_place","_law_one"] ["_law_rows","_law_deed"] (yH aZc):=scM
theorem aW9(T:vP mg)(a4:mg "int"=none)(D:FnG P w K mg base 2 "_law_good" ["_law_rows","_law_number"] Q6)(F:Fun K "_law_entered" "_law_entered" aZc f fd):xH P w K mg base CX0 3 f fd ["_law_rows","_law_deed"] aQ8:=by
 have sc:=aKu;refine F.ok (k:=2) sc (λb6 A outer s H vs Q E hr h=>?_);obtain⟨O,o,W,R,e,rfl,y,a8,u,J,hR,q⟩:=h;refine⟨_,(yC (vJ (y8 (yA (yL yW (pv 1) yF) (yA (yL yW (pv 1) yF) (yA (yL yW (pv 1) yF) (yA x3 (yA yP yD)))))) (aJc rfl (zF (xE (i:=2)) (zF (xE (i:=3)) (zF (xE (i:=4)) (zF (xE (i:=5)) (zF (xE (i:=6)) aQM))))))) (yC (y6 (yM zH (pv 2) yP) (yC (y6 (vK (x5 (xO D hr rfl (yA (pv 0) (yA (yL yW (pv 1) yF) yD))))) (yG (yQ yP)) yT) (yC (yU (i:=7) (yL yK (pv 0) (yL yW (pv 1) yF))) (yC (yU (i:=2) (yL yK (yZ (yA yP (yA yP yD))) (xW wT rfl a4 uN (yA (zM zH (yL yK (pv 7) yF) yP) yD)))) (yG (vJ (y8 (yA (yL yW (pv 1) yF) (yA (yL yK (pv 7) yF) (yA (yL yW (pv 1) yF) (yA (yL yK (pv 7) yF) yD))))) (aJc rfl (zF (xE (i:=3)) (zF (xE (i:=4)) (zF (xE (i:=5)) (zF (xE (i:=6)) aQM)))))))))) yT) (yC (y6 (yM vQ (yL yW (pv 1) yF) yF) (yG (yQ yP)) yT) (yC (y6 (PW.pt (v8 (yM z6 (pv 5) x3) (vL (yM vQ (pv 3) (yL yK (yL yK (pv 0) (pv 5)) yF))))) (yG (yQ yP)) yT) (yC (y0 (v6 cQj cQr cQs xL (pv 0) (yA (yZ (yA (pv 2) (yA (pv 3) (yA (pv 4) (yA (yL yW (pv 1) yF) (yA (pv 5) (yA (pv 6) (yA vI (yA (yZ yD) yD))))))))) yD))) (yG (yQ (yV w6 (yS yO rfl T.b_len xD (yA (pv 0) yD)) yF)))))))),?_⟩;have h0:∃a b c,(xA e)[0]? =some (.str a)/\(xA e)[1]? =some (.int b)/\(xA e)[2]? =some c/\a=Desk.aWM e:=by
  rcases u with⟨g,d,l,t,rfl⟩|⟨m,d,t,rfl⟩
  ·exact⟨_,_,_,rfl,rfl,rfl,rfl⟩
  ·exact⟨_,_,_,rfl,rfl,rfl,rfl⟩
 obtain⟨N,b0,I,d0,d1,d2,ea⟩:=h0;refine⟨_,rfl,o,_,0,_,rfl,rfl,SqT.of y,yR (j:=0) d0,_,rfl,o,_,1,_,rfl,rfl,SqT.of y,yR (j:=1) d1,_,rfl,o,_,2,_,rfl,rfl,SqT.of y,yR (j:=2) d2,z5,λtp b3=>?_⟩;have X:=yE b3 (.tup [.str N,.int b0,I,.non,.str ""]);refine⟨tp,[.str N,.int b0,I,.non,.str ""],rfl,SqT.of yB,rfl,.str N,[.int b0,I,.non,.str ""],rfl,.int b0,[I,.non,.str ""],rfl,I,[.non,.str ""],rfl,.non,[.str ""],rfl,.str "",[],rfl,rfl,?_⟩;generalize upd H tp (.tup [.str N,.int b0,I,.non,.str ""])=H1 at X ⊢;dsimp only[yX];refine x6 (λv H'=>∃ (g l place:Str)(d t:Int)(lk:Option Nat)(o7:Option V),v= [some (.ref O),some (.ref o),some (.str g),some (.int d),some (.str l),some (zL lk),some (.str place),o7]/\xF H H'/\(xA e)[3]? =some (.int t)/\(∀k,lk=some k->k<R.length)/\
  (t<0->∀S,xS R S e (.txt "no term") R S)/\(0<=t->(∃k,lk=some k/\d<Bk.dt R k)->∀S,xS R S e (.txt "too early") R S)/\(0<=t->(∀k,lk=some k->Bk.dt R k<=d)->∀S,xS R S e (.num R.length) (R++ [⟨g,d,l,t,lk,place,false,[]⟩]) S)) ?jV (λn=>?_)
 case jV=>
  rintro v H2 ⟨g,l,place,d,t,lk,o7,rfl,B,d3,b4,t1,t2,t3⟩;have p:=J.same B;have a3:=B _ _ y;have stay:∀ {H3:Hp} {x:Str},xF H H3->(∀S,xS R S e (.txt x) R S)->Q (.str x) H3:=λ{H3 x} k dn=>q H3 (.txt x) _ R W (But.of J.dom k).step (J.same k) dn rfl (λ_ z=>nomatch z);refine⟨_,rfl,o,_,3,_,rfl,rfl,SqT.of a3,yR (j:=3) d3,_,_,rfl,rfl,_,rfl,?_⟩;refine qE (λc=>?_) (λc=>?_)
  ·exact stay B (t1 (of_decide_eq_true c))
  have ht:0<=t:=by have:=of_decide_eq_false (Bool.eq_false_iff.mpr c);omega
  dsimp only[bQ2];refine x6 (λv H'=>v= [some (.ref O),some (.ref o),some (.str g),some (.int d),some (.str l),some (zL lk),some (.str place),o7]/\H'=H2/\∀k,lk=some k->Bk.dt R k<=d) ?rest2 (λn=>?_);case rest2=>
   rintro v H' ⟨rfl,rfl,h1⟩;refine⟨_,rfl,.inl ⟨rfl,_,SqL.of p.lst⟩,_,rfl,_,rfl,_,rfl,_,rfl,o,_,3,_,rfl,rfl,SqT.of a3,yR (j:=3) d3,_,rfl,_,rfl,z0,λcp Z=>⟨zn (by show 8<=100000;omega),λb hb=>?_⟩⟩;have hE:=aWA p (r:=⟨g,d,l,t,lk,place,false,[]⟩) rfl Z hb;have k3:=(yE Z (.lst [])).trans (yE hb (.lst (uQ ⟨g,d,l,t,lk,place,false,[]⟩ cp)));refine⟨O,_,_,rfl,rfl,k3 _ _ p.lst,zlt (by rw[bYR,J.len];omega),?_⟩;have el:W.map V.ref++ [V.ref b]=(W++ [b]).map V.ref:=by simp
   rw[el];refine⟨_,rfl,O,_,rfl,.inl (SqL.of yB),?_⟩;refine⟨_,_,rfl,rfl,?_⟩;have en:(((((W++ [b]).map V.ref).length:Nat):Int) - 1)=(R.length:Int):=by rw[bYR,cQa,J.len];simp
   show Q (V.int _) _;rw[en];exact q _ (.num R.length) _ _ _ (hE.2.pre J.dom B) hE.1 (t3 ht h1) rfl (λ_ z=>nomatch z)
  cases lk with
  |none=>exact⟨_,rfl,rfl,_,rfl,onF rfl (onF rfl (n _ _ ⟨rfl,rfl,λk z=>nomatch z⟩))⟩
  |some j=>
   have b1:=b4 j rfl;have U:=bYL b1;obtain⟨bj,j1,j2,cj,j3,j4⟩:=p.get U;refine⟨_,rfl,rfl,_,rfl,onT rfl ⟨_,rfl,_,rfl,_,rfl,O,_,_,_,rfl,rfl,SqL.of p.lst,yR j1,bj,_,1,_,rfl,rfl,SqL.of j3,rfl,_,_,rfl,rfl,_,rfl,?_⟩⟩;cases a1:decide (d<R[j].date)with
   |true=>exact onT rfl (stay B (t2 ht ⟨j,rfl,by rw[Bk.w9 U];exact of_decide_eq_true a1⟩))
   |false=>exact onF rfl (n _ _ ⟨rfl,rfl,λi M=>by cases M;rw[Bk.w9 U];have:=of_decide_eq_false a1;omega⟩)
 refine⟨_,rfl,rfl,_,rfl,?_⟩;rcases u with⟨g,d,l,t,rfl⟩|⟨m,d,t,rfl⟩
 ·have a6:g="in"\/g="out":=a8;obtain rfl:N=g:=by cases d0;rfl
  obtain rfl:b0=d:=by cases d1;rfl
  obtain rfl:I= .str l:=by cases d2;rfl
  refine onF (by rcases a6 with rfl|rfl<;> decide) ?_;exact n _ _ ⟨N,l,"",b0,t,none,none,rfl,X,rfl,(λk z=>nomatch z),(λh S=> .enterT h),(λh ⟨k,z,_⟩=>nomatch z),λh _ S=> .enter h⟩
 ·obtain rfl:N="reply":=by cases d0;rfl
  obtain rfl:b0=m:=by cases d1;rfl
  obtain rfl:I= .int d:=by cases d2;rfl
  refine onT rfl ?_;have L:H1 o=some (.tup [.str "reply",.int b0,.int d,.int t]):=X _ _ y;have C:=J.same X;refine⟨_,rfl,_,rfl,o,_,1,_,rfl,rfl,SqT.of L,rfl,O,W,R,b0,rfl,C,_,rfl,?_⟩;cases h1:Bk.wO R b0 with
  |false=>exact onT rfl (q H1 (.txt "no letter") _ R W (But.of J.dom X).step C (λS=> .replyN h1) rfl (λ_ z=>nomatch z))
  |true=>
  obtain⟨i,r,rfl,b5,M,hv⟩:=Bk.wP h1;obtain⟨b,g1,g2,cp,g3,g4⟩:=C.get M;refine onF rfl ⟨_,rfl,_,rfl,o,_,1,_,rfl,rfl,SqT.of L,rfl,O,_,_,_,rfl,rfl,SqL.of C.lst,yR g1,?_⟩;dsimp only[yX];refine⟨z2,λl2 a2=>⟨_,rfl,b,_,0,_,rfl,rfl,SqL.of (yE a2 (.lst [.str "in",.str "out"]) _ _ g3),rfl,rfl,.inr ⟨_,rfl,?_⟩⟩⟩;have B:=yE a2 (.lst [.str "in",.str "out"]);have Y:=X.trans B;have G:upd H1 l2 (.lst [.str "in",.str "out"]) l2=some (.lst [.str "in",.str "out"]):=yB;generalize upd H1 l2 (.lst [.str "in",.str "out"])=H3 at B Y G ⊢;have b2:atI [V.str "in",V.str "out"] (if decide (V.str r.way=V.str "in")=true then 1 else 0)=some (.str (Bk.uD r.way)):=by
   rw[vC];unfold Bk.uD;by_cases z:r.way="in"
   ·rw[if_pos z,decide_eq_true z];rfl
   ·rw[if_neg z,decide_eq_false z];rfl
  have a5:=B _ _ L;have a7:=B _ _ g3;refine⟨l2,_,_,_,rfl,rfl,SqL.of G,b2,?_⟩;dsimp only[yX];refine⟨_,rfl,o,_,2,_,rfl,rfl,SqT.of a5,rfl,_,rfl,b,_,2,_,rfl,rfl,SqL.of a7,rfl,_,rfl,o,_,1,_,rfl,rfl,SqT.of a5,rfl,_,rfl,b,_,5,_,rfl,rfl,SqL.of a7,rfl,z4,λt4 a9=>?_⟩;have k4:=yE a9 (.tup [.int d,.str r.partner,.int (i:Nat),.str r.place]);refine⟨t4,[.int d,.str r.partner,.int (i:Nat),.str r.place],rfl,SqT.of yB,rfl,.int d,[.str r.partner,.int (i:Nat),.str r.place],rfl,.str r.partner,[.int (i:Nat),.str r.place],rfl,.int (i:Nat),[.str r.place],rfl,.str r.place,[],rfl,rfl,?_⟩;refine n _ _ ⟨Bk.uD r.way,r.partner,r.place,d,t,some i,_,rfl,Y.trans k4,rfl,(λk z=>by cases z;exact b5),(λh S=> .replyT h1 h),(λh ⟨k,z,y⟩ S=>?_),(λh y S=>?_)⟩
  ·cases z;rw[Bk.w9 M]at y;exact .replyE M hv h y
  ·have:=y i rfl;rw[Bk.w9 M]at this;exact .reply M hv h this
end
end Law
namespace Law
open PySem L2 PyProof.Rows
open Bk (Row Rows xS xN Ans)
open Desk (xA qC uT Wf vA)
abbrev bVT:Stmt:=xI "_law_with_one"
theorem xC.tupNo{H:Hp}{f:Nat}{a:List Nat}{R:Rows}(h:xC H f a R){x:Nat}{ys:List V}(e:H x=some (.tup ys)):x∉a:=λz=>by
 obtain⟨i,b,d⟩:=cQD z;obtain⟨g,c,_⟩:=h.row i x _ (by rw[bYL b,d]) (bYL (show i<R.length by rw[<- h.len];exact b));rw[e]at c;cases c
theorem aJH{H:Hp}{m:Nat}{d:List Nat}{R:Rows}{k:Nat}{b:Nat}{r:Row}(h:xC H m d R)(q:d[k]? =some b)(v:R[k]? =some r){t a:Nat}(B:H b=some (.lst (uQ r t)))(w:List Str)(g:H a=none): xC (upd (upd H a (.lst (w.map V.str))) b (.lst (uQ r a))) m d (Bk.xG R k λr=>{r with copies:=w})/\aXh m d d H (upd (upd H a (.lst (w.map V.str))) b (.lst (uQ r a))):=by
 have j:=yE g (.lst (w.map V.str));have A:=h.same j;refine⟨A.upd q v (λr=>{r with copies:=w}) yB,λx o n e=>?_,λc i=> .inl i,λs u e n c i l f=>?_⟩
 ·rw[yJ (λz=>n (bYZ _ (by rw[z];exact bY5 q)))];exact j _ _ e
 ·by_cases z:c=b
  ·subst z;rw[yB]at f;cases f;intro y;have:a=s:=by injection y with y;injection y
   rw[<- this,g]at e;cases e
  ·rw[yJ z]at f;obtain⟨o,p⟩:=h.dom c i;rw[j _ _ p]at f;exact n c i l (by rw[p];exact f)
def X2(e:xN)(m:Int):Prop:=e= .loose m\/(∃d,e= .date m d)\/(∃t,e= .term m t)\/(∃w,e= .copy m w)\/(∃w,e= .file m w)\/e= .void m
def bQ0:Sp:=λh H Q _=>∃ (d g:Nat)(c:List Nat)(R:Rows)(e:xN)(m:Int),h= [.ref d,.ref g]/\H g=some (.tup (xA e))/\X2 e m/\xC H d c R/\R.length<=60/\Bk.jS R/\(∀r∈R,r.copies.length<=1000)/\
 ∀ (b:Hp)(a:Ans)(v:V)(f:Rows),aXh d c c H b->xC b d c f->(∀S,xS R S e a f S)->qC [] b a v->uT H v->Q v b
theorem X2.at1{e:xN}{m:Int}(h:X2 e m):(xA e)[1]? =some (.int m):=by
 rcases h with rfl|⟨d,rfl⟩|⟨d,rfl⟩|⟨d,rfl⟩|⟨d,rfl⟩|rfl<;> rfl
theorem X2.no{e:xN}{m:Int}{R:Rows}(h:X2 e m)(g:Bk.wO R m=false)(S:List Int):xS R S e (.txt "no letter") R S:=by
 refine .oneN g ?_;rcases h with rfl|⟨d,rfl⟩|⟨d,rfl⟩|⟨d,rfl⟩|⟨d,rfl⟩|rfl<;> simp
section
variable {K:bYO}
theorem bV8:yN ["_law_rows","_law_deed","_law_one","_law_numbers","_law_k","_law_row"] ["_law_rows","_law_deed"] (yH bVT):=scM
theorem bVy(T:vP mg)(W:FnG P w K mg base 2 "_law_good" ["_law_rows","_law_number"] Q6)(J:FnG P w K mg base 2 "_law_dated" ["_law_rows","_law_number","_law_date"] bQO)(U:FnG P w K mg base 2 "_law_lost" ["_law_rows","_law_number"] bJy) (I:FnG P w K mg base 2 "_law_family" ["_law_rows","_law_number"] aQh) (F:Fun K "_law_with_one" "_law_with_one" bVT f fd):xH P w K mg base CX0 3 f fd ["_law_rows","_law_deed"] bQ0:=by
 have sc:=bV8;refine F.ok (k:=2) sc (λc5 A outer s H vs Q E hr h=>?_);obtain⟨X,l,Y,R,e,m,rfl,n,C,y,hR,a6,a4,q⟩:=h;refine⟨_,(yC (y6 (vK (x5 (xO W hr rfl (yA (pv 0) (yA (yL yW (pv 1) yF) yD))))) (yG (yQ yP)) yT) (yC (yU (i:=2) (yL yK (pv 0) (yL yW (pv 1) yF))) (yC (y6 (yM zH (yL yW (pv 1) yF) yP) (yG (yQ (xO J hr rfl (yA (pv 0) (yA (yL yW (pv 1) yF) (yA (yL yW (pv 1) yF) yD)))))) yT) (yC (y6 (yM zH (yL yW (pv 1) yF) yP) (yG (yQ (xO U hr rfl (yA (pv 0) (yA (yL yW (pv 1) yF) yD))))) yT) (yC (y6 (yM zH (yL yW (pv 1) yF) yP) (yC (y6 (yM aXE (yL yK (pv 2) yF) x3) (yG (yQ yP)) yT) (yC (vJ x3 (qB (pv 2) yF zY)) (yG (yQ yP)))) yT) (yC (y6 (yM zH (yL yW (pv 1) yF) yP) (yC (y6 (yM vQ (yL yW (pv 1) yF) yF) (yG (yQ yP)) yT) (yC (vJ (yL yW (pv 1) yF) (qB (pv 2) yF zY)) (yG (yQ yP)))) yT) (yC (y6 (yM zH (yL yW (pv 1) yF) yP) (yC (y6 (PW.pt (jU (yM zH (yL yW (pv 1) yF) (yL yK (pv 2) yF)) (vW (yM vH (yL yW (pv 1) yF) (yL yK (pv 2) yF))))) (yG (yQ yP)) yT) (yC (vJ (yV qA (yL yK (pv 2) yF) (yZ (yA (yL yW (pv 1) yF) yD))) (qB (pv 2) yF zY)) (yG (yQ (yS yO rfl T.b_len xD (yA (yL yK (pv 2) yF) yD)))))) yT) (yC (yU (i:=3) (xO I hr rfl (yA (pv 0) (yA (yL yW (pv 1) yF) yD)))) (yC (wL cQF rfl (xR (pv 3)) (xE (i:=4)) (yC (yU (i:=5) (yL yK (pv 0) (pv 4))) (yG (vJ (yL yW (pv 1) yF) (qB (pv 5) yF zY))))) (yG (yQ (yS yO rfl T.b_len xD (yA (pv 3) yD))))))))))))),?_⟩;have c0:aXh X Y Y H H:=(But.of y.dom (xF.refl _)).step;have txt:∀ {x:Str},(∀S,xS R S e (.txt x) R S)->Q (.str x) H:=λ{x} dn=>q H (.txt x) _ R c0 y dn rfl (λ_ z=>nomatch z);refine⟨_,rfl,_,rfl,l,_,1,_,rfl,rfl,SqT.of n,yR (j:=1) C.at1,X,Y,R,m,rfl,y,_,rfl,?_⟩;cases h1:Bk.wO R m with
 |false=>exact onT rfl (txt λS=>C.no h1 S)
 |true=>
 obtain⟨i,r,rfl,a8,u,D⟩:=Bk.wP h1;obtain⟨b,g1,g2,cp,N,g4⟩:=y.get u;refine onF rfl ⟨_,rfl,_,rfl,l,_,1,_,rfl,rfl,SqT.of n,yR (j:=1) C.at1,X,_,_,_,rfl,rfl,SqL.of y.lst,yR g1,?_⟩;dsimp only[yX];have b0:∀j,r.link=some j->j<R.length:=λj hj=>by obtain⟨p,hp,_⟩:=a6.ans i j r u hj;exact(bYY.mp hp).1
 have up:∀ {x:Str} (g:Row->Row),(∀r,(g r).copies=r.copies)->(∀S,xS R S e (.txt x) (Bk.xG R i g) S)->Q (.str x) (upd H b (.lst (uQ (g r) cp))):=λ{x} g hg dn=>
  q _ (.txt x) _ _ (But.upd (l':=uQ (g r) cp) y.dom g2 N rfl).step (y.upd g2 u g (by rw[hg];exact g4)) dn rfl (λ_ z=>nomatch z)
 rcases C with rfl|⟨d,rfl⟩|⟨t,rfl⟩|⟨o,rfl⟩|⟨a0,rfl⟩|rfl
 ·refine⟨_,rfl,l,_,0,_,rfl,rfl,SqT.of n,rfl,rfl,_,rfl,onF (by decide) ⟨_,rfl,l,_,0,_,rfl,rfl,SqT.of n,rfl,rfl,_,rfl,onF (by decide) ⟨_,rfl,l,_,0,_,rfl,rfl,SqT.of n,rfl,rfl,_,rfl,onT (by decide) ⟨_,rfl,b,_,4,_,rfl,rfl,SqL.of N,rfl,rfl,_,rfl,?_⟩⟩⟩⟩;cases a9:r.link with
  |none=>exact onT rfl (txt λS=> .looseN u D a9)
  |some j=>refine onF rfl ⟨_,rfl,b,_,4,4,rfl,rfl,N,rfl,?_⟩;exact up (λr=>{r with link:=none}) (λ_=>rfl) λS=> .loose u D (by rw[a9];simp)
 ·refine⟨_,rfl,l,_,0,_,rfl,rfl,SqT.of n,rfl,rfl,_,rfl,onT (by decide) ⟨_,rfl,_,rfl,l,_,1,_,rfl,rfl,SqT.of n,rfl,_,rfl,l,_,2,_,rfl,rfl,SqT.of n,rfl,X,Y,R,i,r,d,rfl,y,by omega,u,b0,λH' a R' L a2 O=>?_⟩⟩;refine q H' (.txt a) _ R' L.step a2 (λS=>?_) rfl (λ_ z=>nomatch z);rcases O with⟨Z,rfl,rfl⟩|⟨Z,rfl,rfl⟩
  ·exact .dateE u D Z
  ·refine .date u D (λj hj=>?_) (λc O=>?_)
   ·exact Int.not_lt.mp λz=>Z (.inl ⟨j,hj,z⟩)
   ·exact Int.not_lt.mp λz=>Z (.inr ⟨c,O,z⟩)
 ·refine⟨_,rfl,l,_,0,_,rfl,rfl,SqT.of n,rfl,rfl,_,rfl,onF (by decide) ⟨_,rfl,l,_,0,_,rfl,rfl,SqT.of n,rfl,rfl,_,rfl,onF (by decide) ⟨_,rfl,l,_,0,_,rfl,rfl,SqT.of n,rfl,rfl,_,rfl,onF (by decide) ⟨_,rfl,l,_,0,_,rfl,rfl,SqT.of n,rfl,rfl,_,rfl,onT (by decide) ⟨_,rfl,l,_,2,_,rfl,rfl,SqT.of n,rfl,_,_,rfl,rfl,_,rfl,?_⟩⟩⟩⟩⟩;refine qE (λc=>?_) (λc=>?_)
  ·exact txt λS=> .termN u D (of_decide_eq_true c)
  ·refine⟨_,rfl,l,_,2,_,rfl,rfl,SqT.of n,rfl,_,rfl,b,_,3,3,rfl,rfl,N,rfl,?_⟩;exact up (λr=>{r with term:=t}) (λ_=>rfl) λS=> .term u D (by have:=of_decide_eq_false (Bool.eq_false_iff.mpr c);omega)
 ·refine⟨_,rfl,l,_,0,_,rfl,rfl,SqT.of n,rfl,rfl,_,rfl,onF (by decide) ⟨_,rfl,l,_,0,_,rfl,rfl,SqT.of n,rfl,rfl,_,rfl,onF (by decide) ⟨_,rfl,l,_,0,_,rfl,rfl,SqT.of n,rfl,rfl,_,rfl,onF (by decide) ⟨_,rfl,l,_,0,_,rfl,rfl,SqT.of n,rfl,rfl,_,rfl,onF (by decide) ⟨_,rfl,l,_,0,_,rfl,rfl,SqT.of n,rfl,rfl,_,rfl,onT (by decide) ⟨_,rfl,l,_,2,_,rfl,rfl,SqT.of n,rfl,_,rfl,b,_,2,_,rfl,rfl,SqL.of N,rfl,rfl,_,rfl,?_⟩⟩⟩⟩⟩⟩;rw[vC];cases a7:decide (o=r.partner)with
  |true=>exact onT rfl (onT rfl (txt λS=> .copyC u D (.inl (of_decide_eq_true a7))))
  |false=>
  refine onF rfl ⟨_,rfl,l,_,2,_,rfl,rfl,SqT.of n,rfl,_,rfl,b,_,7,_,rfl,rfl,SqL.of N,rfl,cp,_,rfl,.inl (SqL.of g4),rfl,cZX.mpr (λv D=>by obtain⟨x,_,rfl⟩:=cQR.mp D;rfl),?_⟩;rw[if_neg (by decide),vA];refine⟨_,rfl,?_⟩;cases b1:r.copies.contains o with
  |true=>exact onT rfl (txt λS=> .copyC u D (.inr (by simpa using b1)))
  |false=>
  have c3:r.copies.length<=1000:=a4 r (bY5 u);refine onF rfl ⟨_,rfl,b,_,7,_,rfl,rfl,SqL.of N,rfl,_,rfl,l,_,2,_,rfl,rfl,SqT.of n,rfl,z1,λl1 b9=>?_⟩;have k1:=yE b9 (.lst [.str o]);refine⟨cp,l1,_,_,rfl,rfl,k1 _ _ g4,yB,by rw[bYR,cQe];simp;omega,λc2 B=>?_⟩;have a1:=aJH (y.same k1) g2 u (k1 _ _ N) (r.copies++ [o]) B;have e5:r.copies.map V.str++ [V.str o]=(r.copies++ [o]).map V.str:=by simp
  rw[e5];have k2:=yE B (.lst ((r.copies++ [o]).map V.str));have b4:c2≠b:=λz=>by rw[z,k1 _ _ N]at B;cases B
  refine⟨_,rfl,b,_,7,7,rfl,rfl,k2 _ _ (k1 _ _ N),rfl,?_⟩;refine⟨_,rfl,b,_,7,_,rfl,rfl,SqL.of yB,rfl,c2,(r.copies++ [o]).map V.str,rfl,.inl (SqL.of (by rw[yJ b4];exact yB)),?_⟩;have en:(((((r.copies++ [o]).map V.str).length:Nat)):Int)=(r.copies.length+1:Nat):=by simp
  rw[en];have hE:Bk.xG R i (λq=>{q with copies:=r.copies++ [o] })=Bk.xG R i (λq=>{q with copies:=q.copies++ [o] }):=by unfold Bk.xG;rw[u]
  rw[hE]at a1;exact q _ (.num _) _ _ (a1.2.pre y.dom k1) a1.1 (λS=> .copy u D (of_decide_eq_false a7) (by simpa using b1)) rfl (λ_ z=>nomatch z)
 ·obtain⟨rk,ok⟩:=a6.tree;refine⟨_,rfl,l,_,0,_,rfl,rfl,SqT.of n,rfl,rfl,_,rfl,onF (by decide) ⟨_,rfl,l,_,0,_,rfl,rfl,SqT.of n,rfl,rfl,_,rfl,onF (by decide) ⟨_,rfl,l,_,0,_,rfl,rfl,SqT.of n,rfl,rfl,_,rfl,onF (by decide) ⟨_,rfl,l,_,0,_,rfl,rfl,SqT.of n,rfl,rfl,_,rfl,onF (by decide) ⟨_,rfl,l,_,0,_,rfl,rfl,SqT.of n,rfl,rfl,_,rfl,onF (by decide) ⟨_,rfl,_,rfl,l,_,1,_,rfl,rfl,SqT.of n,rfl,X,Y,R.length,Bk.lk R,rk,Bk.dt R,i,rfl,y.rows,ok,hR,a8,λH2 l2 c1 k2 c6 a5 b7 b2=>?_⟩⟩⟩⟩⟩⟩;have b6:=Bk.aXN a8 ⟨rk,ok,b7,b2⟩;subst b6;dsimp only[yX];have a3:=y.same k2;have b8:H2 l=some (.tup [.str "file",.int (i:Nat),.str a0]):=k2 _ _ n;have b5:=y.tupNo n;refine⟨_,rfl,l2,rfl,⟨_,SqL.of a5⟩,?_⟩;refine zX (xs:=(Bk.thr R i).map λi=>V.int (i:Nat)) (λt σ H3=>∃o5 o6:Option V,σ= [some (.ref X),some (.ref l),some (.ref b),some (.ref l2),o5,o6]/\xC H3 X Y (Bk.laid R ((Bk.thr R i).take t) a0)/\But Y H2 H3/\H3 l2=some (.lst ((Bk.thr R i).map λi=>V.int (i:Nat)))) ?_ ?_ ?_ ?_
  ·exact⟨none,none,rfl,a3,But.of a3.dom (xF.refl _),a5⟩
  ·rintro t σ H3 ht ⟨o5,o6,rfl,G,k3,M⟩;exact SqL.of M
  ·rintro t x σ H3 hx ⟨o5,o6,rfl,G,k3,M⟩;rw[bY7]at hx;cases O:(Bk.thr R i)[t]? with
   |none=>rw[O]at hx;cases hx
   |some k=>rw[O]at hx;cases hx;have b3:k<R.length:=((b2 k).mp (bY5 O)).1;obtain⟨bk,ck,c4,e1,e2,e3,e4,e5,e6⟩:=aVQ (K:=K) G O b3 M;dsimp only[yX];refine⟨_,rfl,_,rfl,X,_,_,_,rfl,rfl,SqL.of G.lst,yR e1,?_⟩;dsimp only[yX];exact⟨_,rfl,l,_,2,_,rfl,rfl,SqT.of (k3.1 _ _ b5 b8),rfl,_,rfl,bk,_,5,5,rfl,rfl,e2,rfl,_,_,rfl,e3,k3.trans e4,e5⟩
  ·rintro σ H3 ⟨o5,o6,rfl,G,k3,M⟩;rw[bYR,cQT]at G;refine⟨_,rfl,l2,_,rfl,.inl (SqL.of M),?_⟩;rw[bYR];exact q _ (.num _) _ _ (((But.of y.dom k2).trans k3).step) G (λS=> .file u D) rfl (λ_ z=>nomatch z)
 ·refine⟨_,rfl,l,_,0,_,rfl,rfl,SqT.of n,rfl,rfl,_,rfl,onF (by decide) ⟨_,rfl,l,_,0,_,rfl,rfl,SqT.of n,rfl,rfl,_,rfl,onT (by decide) ⟨_,rfl,_,rfl,l,_,1,_,rfl,rfl,SqT.of n,rfl,X,Y,R,i,r,rfl,y,by omega,u,λH' a R' L a2 O=>?_⟩⟩⟩;refine q H' (.txt a) _ R' L.step a2 (λS=>?_) rfl (λ_ z=>nomatch z);rcases O with⟨Z,rfl,rfl⟩|⟨Z,rfl,rfl⟩
  ·exact .voidA u D Z
  ·exact .void u D Z
end
end Law
namespace Law
open PySem L2 PyProof.Rows
open Bk (Row Rows xS xN Ans)
open Desk (xA qC uT Wf vA stV)
abbrev bQo:Stmt:=xI "_law_told_of"
def aKL(e:xN):Prop:=(∃m,e= .state m)\/(∃m,e= .thread m)\/(∃m,e= .copies m)\/(∃w,e= .letters w)\/∃a d,e= .on a d
def bQX:Sp:=λh H Q _=>∃ (f c d:Nat)(g:List Nat)(R:Rows)(S:List Int)(e:xN),h= [.ref f,.ref c,.ref d]/\H d=some (.tup (xA e))/\aKL e/\xC H f g R/\H c=some (.lst (S.map V.int))/\R.length<=60/\Bk.jS R/\
 ∀ (b:Hp)(a:Ans)(v:V),xF H b->xS R S e a R S->qC [] b a v->uT H v->Q v b
theorem wB:cQw "list"=some (.type "list"):=dk
theorem w8:cQw "tuple"=some (.type "tuple"):=dk
section
variable {K:bYO}
theorem bV6:yN ["_law_rows","_law_shut","_law_deed","_law_here"] ["_law_rows","_law_shut","_law_deed"] (yH bQo):=scM
theorem bXF:xQ ["_law_rows","_law_shut","_law_deed","_law_here"] (yH bQo) "_law_k" ["_law_rows"] [0] {kind:= .function,names:= [(".0",.local),("_law_k",.local),("_law_rows",.free)],isGenerator:=false,isCoroutine:=false,more:= [] }:=
 lcM
theorem bXG:xQ ["_law_rows","_law_shut","_law_deed","_law_here"] (yH bQo) "_law_k" ["_law_deed","_law_rows"] [2,0] {kind:= .function,names:= [(".0",.local),("_law_k",.local),("_law_deed",.free),("_law_rows",.free)],isGenerator:=false,isCoroutine:=false,more:= [] }:=
 lcM
def W9(R:Rows)(w:Str):V->Bool
 |.int n=>match R[n.toNat]? with|some r=>decide (r.place=w)|none=>false
 |_=>false
theorem bVw(T:vP mg)(a1:mg "list"=none)(a3:mg "tuple"=none)(N:FnG P w K mg base 2 "_law_good" ["_law_rows","_law_number"] Q6)(t:FnG P w K mg base 3 "_law_list_on" ["_law_rows","_law_shut","_law_date","_law_late"] aWk) (G:FnG P w K mg base 2 "_law_family" ["_law_rows","_law_number"] aQh) (F:Fun K "_law_told_of" "_law_told_of" bQo f fd):xH P w K mg base CX0 4 f fd ["_law_rows","_law_shut","_law_deed"] bQX:=by
 have sc:=bV6;refine F.ok (k:=3) sc (λc0 A outer s H vs Q E hr h=>?_);obtain⟨C,sa,g,X,R,S,e,rfl,B,a5,L,a7,hR,b2,q⟩:=h;have a6:vZ 2 _:=hr.mono (by omega);refine⟨_,(yC (y6 (yM zH (yL yW (pv 2) yF) yP) (yC (aXr (i:=3) bXF rfl sc.nd rfl rfl (zN rfl T.b_range (yA (yS yO rfl T.b_len xD (yA (pv 0) yD)) yD)) (λ_ _ _ _ _=>(wF (vK (x5 (yL (show IxR _ (aXG K)from yK) (yL (show IxR _ (aXG K)from yK) (pv 1) (pv 0)) yF))))) (λ_ _ _ _ _=>(pv 0))) (yG (yQ (aXq bXG rfl (xR (pv 3)) (λ_ _ _ _ _=>(wF (yM zH (yL (show IxR _ (aXG K)from yK) (yL (show IxR _ (aXG K)from yK) (pv 2) (pv 0)) yF) (yL (show IxR _ (bZk K)from yW) (pv 1) yF)))) (λ_ _ _ _ _=>(pv 0)))))) yT) (yC (y6 (yM vH (yL yW (pv 2) yF) (yZ (yA yP (yA yP yD)))) (yG (yQ (xO t hr rfl (yA (pv 0) (yA (pv 1) (yA (yL yW (pv 2) yF) (yA (zM zH (yL yW (pv 2) yF) yP) yD))))))) yT) (yC (y6 (vK (x5 (xO N a6 rfl (yA (pv 0) (yA (yL yW (pv 2) yF) yD))))) (yG (yQ yP)) yT) (yC (y6 (yM zH (yL yW (pv 2) yF) yP) (yG (yQ (xO G a6 rfl (yA (pv 0) (yA (yL yW (pv 2) yF) yD))))) yT) (yC (y6 (yM zH (yL yW (pv 2) yF) yP) (yG (yQ (xW vU rfl a1 wB (yA (yL yK (yL yK (pv 0) (yL yW (pv 2) yF)) yF) yD)))) yT) (yG (yQ (xW qR rfl a3 w8 (yA (Y2 aZq (yL yK (pv 0) (yL yW (pv 2) yF)) aX7 (Z5 yF)) yD))))))))),?_⟩;have txt:∀ {y:Hp} {x:Str},xF H y->xS R S e (.txt x) R S->Q (.str x) y:=λ{y x} k dn=>q y (.txt x) _ k dn rfl (λ_ z=>nomatch z);have one:∀ {m:Int} {x:Str},xA e= [.str x,.int m]->True:=λ_=>trivial;rcases a5 with⟨m,rfl⟩|⟨m,rfl⟩|⟨m,rfl⟩|⟨j,rfl⟩|⟨o,d,rfl⟩
 ·refine⟨_,rfl,g,_,0,_,rfl,rfl,SqT.of B,rfl,rfl,_,rfl,onF (by decide) ?_⟩;refine⟨_,rfl,g,_,0,_,rfl,rfl,SqT.of B,rfl,z2,λJ u=>⟨J,_,rfl,.inl (SqL.of yB),rfl,rfl,_,rfl,onF (by decide) ?_⟩⟩;have n:=yE u (.lst [.str "waiting",.str "overdue"]);generalize upd H J (.lst [.str "waiting",.str "overdue"])=H1 at n ⊢;have a:H1 g=some (.tup [.str "state",.int m]):=n _ _ B;have c:=L.same n;refine⟨_,rfl,_,rfl,g,_,1,_,rfl,rfl,SqT.of a,rfl,C,X,R,m,rfl,c,_,rfl,?_⟩;cases Y:Bk.wO R m with
  |false=>exact onT rfl (txt n (.oneN Y (by simp)))
  |true=>
  obtain⟨i,r,rfl,W,hi,O⟩:=Bk.wP Y;obtain⟨b,g1,g2,cp,U,g4⟩:=c.get hi;refine onF rfl ⟨_,rfl,g,_,0,_,rfl,rfl,SqT.of a,rfl,rfl,_,rfl,onF (by decide) ⟨_,rfl,g,_,0,_,rfl,rfl,SqT.of a,rfl,rfl,_,rfl,onF (by decide) ?_⟩⟩;refine⟨_,rfl,_,rfl,g,_,1,_,rfl,rfl,SqT.of a,rfl,C,_,_,_,rfl,rfl,SqL.of c.lst,yR g1,_,rfl,b,_,rfl,SqL.of U,λp2 M=>⟨p2,_,rfl,.inl ⟨SqL.of yB,λp3 a4=>?_⟩⟩⟩;have b5:qN (uQ r cp) none (some 6)=stV r:=by unfold stV Desk.W6 Desk.qV;rw[O];cases b6:r.link<;> (unfold uQ;rw[b6];rfl)
  have k2:=yE M (.lst (qN (uQ r cp) none (some 6)));have k3:=yE a4 (.tup (qN (uQ r cp) none (some 6)));exact q _ (.row r) _ ((n.trans k2).trans k3) (.state hi O) ⟨p3,rfl,by simp,by rw[<- b5];exact yB⟩ (.none ((n.trans k2).fresh a4))
 ·refine⟨_,rfl,g,_,0,_,rfl,rfl,SqT.of B,rfl,rfl,_,rfl,onF (by decide) ?_⟩;refine⟨_,rfl,g,_,0,_,rfl,rfl,SqT.of B,rfl,z2,λJ u=>⟨J,_,rfl,.inl (SqL.of yB),rfl,rfl,_,rfl,onF (by decide) ?_⟩⟩;have n:=yE u (.lst [.str "waiting",.str "overdue"]);generalize upd H J (.lst [.str "waiting",.str "overdue"])=H1 at n ⊢;have a:H1 g=some (.tup [.str "thread",.int m]):=n _ _ B;have c:=L.same n;refine⟨_,rfl,_,rfl,g,_,1,_,rfl,rfl,SqT.of a,rfl,C,X,R,m,rfl,c,_,rfl,?_⟩;cases Y:Bk.wO R m with
  |false=>exact onT rfl (txt n (.oneN Y (by simp)))
  |true=>
  obtain⟨i,r,rfl,W,hi,O⟩:=Bk.wP Y;obtain⟨rk,ok⟩:=b2.tree;refine onF rfl ⟨_,rfl,g,_,0,_,rfl,rfl,SqT.of a,rfl,rfl,_,rfl,onT (by decide) ?_⟩;refine⟨_,rfl,_,rfl,g,_,1,_,rfl,rfl,SqT.of a,rfl,C,X,R.length,Bk.lk R,rk,Bk.dt R,i,rfl,c.rows,ok,hR,W,λH2 l2 b9 k2 b7 a9 b1 b8=>?_⟩;have b0:=Bk.aXN W ⟨rk,ok,b1,b8⟩;subst b0;exact q _ (.nums (Bk.thr R i)) _ (n.trans k2) (.thread hi O) ⟨l2,rfl,by simp,a9⟩ (.none (n.fresh b7))
 ·refine⟨_,rfl,g,_,0,_,rfl,rfl,SqT.of B,rfl,rfl,_,rfl,onF (by decide) ?_⟩;refine⟨_,rfl,g,_,0,_,rfl,rfl,SqT.of B,rfl,z2,λJ u=>⟨J,_,rfl,.inl (SqL.of yB),rfl,rfl,_,rfl,onF (by decide) ?_⟩⟩;have n:=yE u (.lst [.str "waiting",.str "overdue"]);generalize upd H J (.lst [.str "waiting",.str "overdue"])=H1 at n ⊢;have a:H1 g=some (.tup [.str "copies",.int m]):=n _ _ B;have c:=L.same n;refine⟨_,rfl,_,rfl,g,_,1,_,rfl,rfl,SqT.of a,rfl,C,X,R,m,rfl,c,_,rfl,?_⟩;cases Y:Bk.wO R m with
  |false=>exact onT rfl (txt n (.oneN Y (by simp)))
  |true=>
  obtain⟨i,r,rfl,W,hi,O⟩:=Bk.wP Y;obtain⟨b,g1,g2,cp,U,g4⟩:=c.get hi;refine onF rfl ⟨_,rfl,g,_,0,_,rfl,rfl,SqT.of a,rfl,rfl,_,rfl,onF (by decide) ⟨_,rfl,g,_,0,_,rfl,rfl,SqT.of a,rfl,rfl,_,rfl,onT (by decide) ?_⟩⟩;refine⟨_,rfl,_,rfl,g,_,1,_,rfl,rfl,SqT.of a,rfl,C,_,_,_,rfl,rfl,SqL.of c.lst,yR g1,b,_,7,_,rfl,rfl,SqL.of U,rfl,cp,_,rfl,.inl (SqL.of g4),λp2 M=>?_⟩;have k2:=yE M (.lst (r.copies.map V.str));exact q _ (.txts r.copies) _ (n.trans k2) (.copies hi O) ⟨p2,rfl,by simp,yB⟩ (.none (n.fresh M))
 ·have b4:H g=some (.tup [.str "letters",.str j]):=B;refine⟨_,rfl,g,_,0,_,rfl,rfl,SqT.of B,rfl,rfl,_,rfl,onT (by decide) ?_⟩;have hl:(X.map V.ref).length=R.length:=by rw[bYR];exact L.len
  refine⟨_,rfl,C,_,rfl,.inl (SqL.of L.lst),?_⟩;rw[hl];refine⟨_,rfl,by omega,by omega,λD hD=>?_⟩;rw[cQl];refine qX (λk=>match R[k]? with|some r=> !r.void|none=>false) (λk=>V.int (k:Nat)) hD (by rw[cQe];omega) (λk I y R' Z p=>?_) (λk I _ y R' Z p=>⟨_,rfl,p⟩) ?_
  ·obtain⟨b,g1,g2,cp,U,g4⟩:=L.get (bYL I);have a2:y C=some (.lst (X.map V.ref)):=by rw[Z C (yI L.lst hD)];exact L.lst
   have hb:y b=_:=(Z b (yI U hD)).trans U;rw[bYL I]at p;exact⟨_,rfl,_,rfl,C,_,_,_,rfl,rfl,SqL.of a2,yR g1,b,_,6,_,rfl,rfl,SqL.of hb,rfl,_,rfl,p⟩
  have k1:=yE hD (.lst (((bYW R.length).filter λk=>match R[k]? with|some r=> !r.void|none=>false).map λk=>V.int (k:Nat)));have a0:upd H D (.lst (((bYW R.length).filter λk=>match R[k]? with|some r=> !r.void|none=>false).map λk=>V.int (k:Nat))) D=some (.lst (((bYW R.length).filter λk=>match R[k]? with|some r=> !r.void|none=>false).map λk=>V.int (k:Nat))):=yB;generalize upd H D (.lst (((bYW R.length).filter λk=>match R[k]? with|some r=> !r.void|none=>false).map λk=>V.int (k:Nat)))=H1 at k1 a0 ⊢;have c:=L.same k1;have a:=k1 _ _ b4;dsimp only[yX];refine⟨_,rfl,D,rfl,⟨_,SqL.of a0⟩,λE hE=>?_⟩;refine aXB (W9 R j) id (SqL.of a0) hE ?_ (λv O y R' Z p=>?_) (λv O _ y R' Z p=>⟨_,rfl,p⟩) ?_
  ·rw[bYR,cQe];have:=cQL (λk=>match R[k]? with|some r=> !r.void|none=>false) (bYW R.length);rw[cQG]at this;omega
  ·obtain⟨k,I,rfl⟩:=cQR.mp O;have I:k<R.length:=cQi.mp (cQE.mp I).1;obtain⟨b,g1,g2,cp,U,g4⟩:=c.get (bYL I);have a2:y C=some (.lst (X.map V.ref)):=by rw[Z C (yI c.lst hE)];exact c.lst
   have hb:y b=_:=(Z b (yI U hE)).trans U;have a8:y g=_:=(Z g (yI a hE)).trans a;have e1:W9 R j (V.int (k:Nat))=decide (R[k].place=j):=by show(match R[((k:Nat):Int).toNat]? with|some r=>decide (r.place=j)|none=>false)=_;rw[cQl,bYL I]
   rw[e1]at p;refine⟨_,rfl,_,rfl,C,_,_,_,rfl,rfl,SqL.of a2,yR g1,b,_,5,_,rfl,rfl,SqL.of hb,rfl,_,rfl,g,_,1,_,rfl,rfl,SqT.of a8,rfl,rfl,_,rfl,?_⟩;rw[vC];exact p
  ·have ef:(((((bYW R.length).filter λk=>match R[k]? with|some r=> !r.void|none=>false).map λk=>V.int (k:Nat)).filter (W9 R j)).map id)=((bYW R.length).filter λk=>match R[k]? with|some r=> !r.void && decide (r.place=j)|none=>false).map λk=>V.int (k:Nat):=by
    rw[cJq,List.filter_map,List.filter_filter];congr 1;refine cJ6 λk I=>?_;have I:k<R.length:=cQi.mp I;show(W9 R j (V.int (k:Nat)) && _)=_;show((match R[((k:Nat):Int).toNat]? with|some r=>decide (r.place=j)|none=>false) && _)=_;rw[cQl,bYL I];exact Bool.and_comm _ _
   rw[ef];exact q _ (.nums _) _ (k1.trans (yE hE _)) .letters ⟨E,rfl,by simp,yB⟩ (.none (k1.fresh hE))
 ·refine⟨_,rfl,g,_,0,_,rfl,rfl,SqT.of B,rfl,rfl,_,rfl,onF (by cases o<;> decide) ?_⟩;refine⟨_,rfl,g,_,0,_,rfl,rfl,SqT.of B,rfl,z2,λJ u=>⟨J,_,rfl,.inl (SqL.of yB),rfl,rfl,_,rfl,onT (by cases o<;> decide) ?_⟩⟩;have n:=yE u (.lst [.str "waiting",.str "overdue"]);generalize upd H J (.lst [.str "waiting",.str "overdue"])=H1 at n ⊢;have a:H1 g=some (.tup [.str (if o then "overdue" else "waiting"),.int d]):=n _ _ B;have c:=L.same n;have e1:decide (V.str (if o then "overdue" else "waiting")=V.str "overdue")=o:=by cases o<;> decide
  refine⟨_,rfl,_,rfl,_,rfl,g,_,1,_,rfl,rfl,SqT.of a,rfl,_,rfl,g,_,0,_,rfl,rfl,SqT.of a,rfl,rfl,?_⟩;rw[e1];refine⟨C,sa,X,R,S,d,o,rfl,c,n _ _ a7,by omega,λr y l k nl hl b3=>?_⟩;exact q _ (.nums l) _ (n.trans k) (.on b3) ⟨r,rfl,by simp,hl⟩ (.none (n.fresh nl))
end
end Law
namespace Law
open PySem L2 PyProof.Rows
open Bk (Row Rows xS xN Ans)
open Desk (xA qC uT Wf vA stV)
abbrev bVI:Stmt:=xI "_law_done_by"
structure LBk(H:Hp)(ra sa:Nat)(rs:List Nat)(R:Rows)(S:List Int):Prop where
 book:xC H ra rs R
 shut:H sa=some (.lst (S.map V.int))
 ne:sa≠ra
 no:sa∉rs
 noC:NoC rs H sa
def aZy(e sa:Nat)(c a:List Nat)(H d:Hp):Prop:=(∀x o,x≠sa->x≠e->x∉c->H x=some o->d x=some o)/\(∀b∈a,b∈c\/H b=none)/\∀s u,H s=some u->NoC c H s->NoC a d s
theorem LBk.same{H a:Hp}{c sa:Nat}{b:List Nat}{R:Rows}{S:List Int}(h:LBk H c sa b R S)(k:xF H a):LBk a c sa b R S:=
 ⟨h.book.same k,k _ _ h.shut,h.ne,h.no,(But.of h.book.dom k).2.2 sa _ h.shut h.noC⟩
theorem LBk.step{H c:Hp}{b sa:Nat}{d a:List Nat}{R f:Rows}{S:List Int}(h:LBk H b sa d R S)(k:aXh b d a H c)(j:xC c b a f):LBk c b sa a f S/\aZy b sa d a H c:=
 ⟨⟨j,k.1 sa _ (λz=>(bYX.mp z).elim h.ne h.no) h.shut,h.ne,λz=>(k.2.1 sa z).elim h.no (λy=>by have:=h.shut;rw[y]at this;cases this),k.2.2 sa _ h.shut h.noC⟩,λx o _ g i e=>k.1 x o (λz=>(bYX.mp z).elim g i) e,k.2.1,k.2.2⟩
theorem LBk.put{H:Hp}{g sa:Nat}{f:List Nat}{R:Rows}{S:List Int}(h:LBk H g sa f R S)(d:Int):LBk (upd H sa (.lst ((S++ [d]).map V.int))) g sa f R (S++ [d])/\aZy g sa f f H (upd H sa (.lst ((S++ [d]).map V.int))):=by
 refine⟨⟨⟨by rw[yJ (cQu h.ne)];exact h.book.lst,h.book.len,h.book.nd,λi b r a p=>?_⟩,yB,h.ne,h.no,λb a l c=>?_⟩,λx o n _ _ e=>by rw[yJ n];exact e,λb a=> .inl a,λs u e n b a l c=>n b a l (by rw[yJ (λz=>h.no (by rw[<- z];exact a))]at c;exact c)⟩
 ·obtain⟨j,k,t⟩:=h.book.row i b r a p;have m:b≠sa:=λz=>h.no (by rw[<- z];exact bY5 a);have q:j≠sa:=λz=>h.noC b (bY5 a) _ k (by rw[<- z];rfl);exact⟨j,by rw[yJ m];exact k,by rw[yJ q];exact t⟩
 ·rw[yJ (λz=>h.no (by rw[<- z];exact a))]at c;exact h.noC b a l c
def aXL:Sp:=λk H Q _=>∃ (f d j:Nat)(g:List Nat)(R:Rows)(S:List Int)(e:xN),k= [.ref f,.ref d,.ref j]/\H j=some (.tup (xA e))/\Wf e/\LBk H f d g R S/\R.length<=60/\S.length<=60/\Bk.jS R/\(∀r∈R,r.copies.length<=1000)/\
 ∀ (c:Hp)(a:Ans)(v:V)(i:Rows)(h:List Int)(b:List Nat),aZy f d g b H c->LBk c f d b i h->xS R S e a i h->qC [] c a v->uT H v->Q v c
theorem uT.pre{H a:Hp}(k:xF H a){v:V}(h:uT a v):uT H v:=λp e u b z=>h p e u b (k _ _ z)
theorem aZy.pre{g sa:Nat}{c a:List Nat}{H f d:Hp}(m:∀b∈c,∃o,H b=some o)(k:xF H f)(s:aZy g sa c a f d):aZy g sa c a H d:=
 ⟨λx o i l j e=>s.1 x o i l j (k _ _ e),λb h=>(s.2.1 b h).imp id λz=>k.fresh z,λx u e n=>s.2.2 x u (k _ _ e) ((But.of m k).2.2 x u e n)⟩
section
variable {K:bYO}
theorem bVV:yN ["_law_rows","_law_shut","_law_deed"] ["_law_rows","_law_shut","_law_deed"] (yH bVI):=scM
theorem bVk(u:FnG P w K mg base 4 "_law_entered" ["_law_rows","_law_deed"] aQ8)(J:FnG P w K mg base 4 "_law_hung" ["_law_rows","_law_number","_law_goal"] bJx) (y:FnG P w K mg base 4 "_law_told_of" ["_law_rows","_law_shut","_law_deed"] bQX) (r:FnG P w K mg base 4 "_law_with_one" ["_law_rows","_law_deed"] bQ0) (F:Fun K "_law_done_by" "_law_done_by" bVI f fd):xH P w K mg base CX0 5 f fd ["_law_rows","_law_shut","_law_deed"] aXL:=by
 have sc:=bVV;refine F.ok (k:=4) sc (λa7 A outer s H vs Q E hr h=>?_);obtain⟨W,sa,g,I,R,S,e,rfl,hd,a1,M,hR,hS,X,a0,q⟩:=h;refine⟨_,(yC (y6 (yM vH (yL yW (pv 2) yF) (yZ (yA yP (yA yP (yA yP yD))))) (yG (yQ (xO u hr rfl (yA (pv 0) (yA (pv 2) yD))))) yT) (yC (y6 (yM zH (yL yW (pv 2) yF) yP) (yG (yQ (xO J hr rfl (yA (pv 0) (yA (yL yW (pv 2) yF) (yA (yL yW (pv 2) yF) yD)))))) yT) (yC (y6 (yM zH (yL yW (pv 2) yF) yP) (yC (y6 (PW.pt (jU (yM aXp (yV y3 (yL yW (pv 2) yF) yF) yF) (vW (yM vH (yL yW (pv 2) yF) (pv 1))))) (yG (yQ yP)) yT) (yC (y0 (v6 cQj cQr cQs xL (pv 1) (yA (yL yW (pv 2) yF) yD))) (yG (yQ yP)))) yT) (yC (y6 (yM vH (yL yW (pv 2) yF) (yZ (yA yP (yA yP (yA yP (yA yP (yA yP (yA yP yD)))))))) (yG (yQ (xO y hr rfl (yA (pv 0) (yA (pv 1) (yA (pv 2) yD)))))) yT) (yG (yQ (xO r hr rfl (yA (pv 0) (yA (pv 2) yD))))))))),?_⟩;have h0:(xA e)[0]? =some (.str (Desk.aWM e)):=by cases e<;> rfl
 refine⟨_,rfl,g,_,0,_,rfl,rfl,SqT.of hd,yR (j:=0) h0,z3,λl0 a6=>⟨l0,_,rfl,.inl (SqL.of yB),rfl,rfl,_,rfl,?_⟩⟩;have n:=yE a6 (.lst [.str "in",.str "out",.str "reply"]);generalize upd H l0 (.lst [.str "in",.str "out",.str "reply"])=H1 at n ⊢;have c:=n _ _ hd;have p:=M.same n;have a4:((∃L d U t,e= .enter L d U t)\/∃m d t,e= .reply m d t)->aQ8 [.ref W,.ref g] H1 Q E0:=λhf=>by refine⟨W,g,I,R,e,rfl,c,a1,hf,p.book,hR,λN a v Y a5 st G O av Z=>?_⟩;have:=p.step st G;exact q N a v Y S a5 (this.2.pre M.book.dom n) this.1 (O S) av (uT.pre n Z)
 have one:∀ {T:Hp} {m:Int},xF H T->X2 e m->bQ0 [.ref W,.ref g] T Q E0:=λ{T m} k hf=>by have C:=M.same k;refine⟨W,g,I,R,e,m,rfl,k _ _ hd,hf,C.book,hR,X,a0,λN a v Y st G O av Z=>?_⟩;have:=C.step st G;exact q N a v Y S I (this.2.pre M.book.dom k) this.1 (O S) av (uT.pre k Z)
 have D:∀ {T:Hp},xF H T->aKL e->bQX [.ref W,.ref sa,.ref g] T Q E0:=λ{T} k hf=>by have C:=M.same k;refine⟨W,sa,g,I,R,S,e,rfl,k _ _ hd,hf,C.book,C.shut,hR,X,λN a v k2 O av Z=>?_⟩;exact q N a v R S I ⟨λx o _ _ _ e=>k2 _ _ (k _ _ e),λb hb=> .inl hb,(But.of M.book.dom (k.trans k2)).2.2⟩ (C.same k2) O av (uT.pre k Z)
 cases e with
 |enter L d U t=>have a2:L="in"\/L="out":=a1;refine onT (by rcases a2 with rfl|rfl<;> rfl) ⟨_,rfl,_,rfl,a4 (.inl ⟨_,_,_,_,rfl⟩)⟩
 |reply m d t=>exact onT rfl ⟨_,rfl,_,rfl,a4 (.inr ⟨_,_,_,rfl⟩)⟩
 |hang m o=>refine onF rfl ⟨_,rfl,g,_,0,_,rfl,rfl,SqT.of c,rfl,rfl,_,rfl,onT rfl ⟨_,rfl,_,rfl,g,_,1,_,rfl,rfl,SqT.of c,rfl,_,rfl,g,_,2,_,rfl,rfl,SqT.of c,rfl,?_⟩⟩;refine⟨W,I,R,m,o,rfl,p.book,hR,X.tree,λN a Y st G O=>?_⟩;have:=p.step st.step G;exact q N (.txt a) _ Y S I (this.2.pre M.book.dom n) this.1 (O S) rfl (λ_ z=>nomatch z)
 |shut d=>
  refine onF rfl ⟨_,rfl,g,_,0,_,rfl,rfl,SqT.of c,rfl,rfl,_,rfl,onF rfl ⟨_,rfl,g,_,0,_,rfl,rfl,SqT.of c,rfl,rfl,_,rfl,onT rfl ?_⟩⟩;refine⟨_,rfl,g,_,1,_,rfl,rfl,SqT.of c,rfl,_,_,rfl,rfl,(show(0:Int)<7 by decide),_,_,rfl,rfl,_,rfl,?_⟩;have no:Dm.cts S d=false->Q (.str "counts not") H1:=λh=>q H1 (.txt "counts not") _ R S I ⟨λx o _ _ _ e=>n _ _ e,λb hb=> .inl hb,(But.of M.book.dom n).2.2⟩ p (.shutN h) rfl (λ_ z=>nomatch z);cases h1:decide (d % 7 > 4)with
  |true=>exact onT rfl (onT rfl (no (by unfold Dm.cts Dm.opn;rw[decide_eq_false (by have:=of_decide_eq_true h1;omega)];rfl)))
  |false=>
  refine onF rfl ⟨_,rfl,g,_,1,_,rfl,rfl,SqT.of c,rfl,_,rfl,sa,_,rfl,.inl (SqL.of p.shut),rfl,cZX.mpr (λv hv=>by obtain⟨x,_,rfl⟩:=cQR.mp hv;rfl),?_⟩;rw[if_neg (by decide),jI];refine⟨_,rfl,?_⟩;cases h2:S.contains d with
  |true=>exact onT rfl (no (by unfold Dm.cts;rw[h2];simp))
  |false=>
  refine onF rfl ⟨_,rfl,.inl ⟨rfl,_,SqL.of p.shut⟩,_,rfl,g,_,1,_,rfl,rfl,SqT.of c,rfl,sa,_,_,rfl,rfl,p.shut,zlt (by rw[bYR];omega),?_⟩;have e5:S.map V.int++ [V.int d]=(S++ [d]).map V.int:=by simp
  rw[e5];have:=p.put d;exact q _ (.txt "shut") _ R (S++ [d]) I (this.2.pre M.book.dom n) this.1 (.shut (by unfold Dm.cts Dm.opn;rw[h2,decide_eq_true (by have:=of_decide_eq_false h1;omega)];rfl)) rfl (λ_ z=>nomatch z)
 |loose m=>exact onF rfl ⟨_,rfl,g,_,0,_,rfl,rfl,SqT.of c,rfl,rfl,_,rfl,onF rfl ⟨_,rfl,g,_,0,_,rfl,rfl,SqT.of c,rfl,rfl,_,rfl,onF rfl ⟨_,rfl,g,_,0,_,rfl,rfl,SqT.of c,rfl,zn (by show 6<=100000;omega),λl i=>⟨l,_,rfl,.inl (SqL.of yB),rfl,rfl,_,rfl,onF rfl ⟨_,rfl,_,rfl,one (n.trans (yE i _)) (.inl rfl)⟩⟩⟩⟩⟩
 |date m d=>exact onF rfl ⟨_,rfl,g,_,0,_,rfl,rfl,SqT.of c,rfl,rfl,_,rfl,onF rfl ⟨_,rfl,g,_,0,_,rfl,rfl,SqT.of c,rfl,rfl,_,rfl,onF rfl ⟨_,rfl,g,_,0,_,rfl,rfl,SqT.of c,rfl,zn (by show 6<=100000;omega),λl i=>⟨l,_,rfl,.inl (SqL.of yB),rfl,rfl,_,rfl,onF rfl ⟨_,rfl,_,rfl,one (n.trans (yE i _)) (.inr (.inl ⟨_,rfl⟩))⟩⟩⟩⟩⟩
 |term m t=>exact onF rfl ⟨_,rfl,g,_,0,_,rfl,rfl,SqT.of c,rfl,rfl,_,rfl,onF rfl ⟨_,rfl,g,_,0,_,rfl,rfl,SqT.of c,rfl,rfl,_,rfl,onF rfl ⟨_,rfl,g,_,0,_,rfl,rfl,SqT.of c,rfl,zn (by show 6<=100000;omega),λl i=>⟨l,_,rfl,.inl (SqL.of yB),rfl,rfl,_,rfl,onF rfl ⟨_,rfl,_,rfl,one (n.trans (yE i _)) (.inr (.inr (.inl ⟨_,rfl⟩)))⟩⟩⟩⟩⟩
 |copy m U=>exact onF rfl ⟨_,rfl,g,_,0,_,rfl,rfl,SqT.of c,rfl,rfl,_,rfl,onF rfl ⟨_,rfl,g,_,0,_,rfl,rfl,SqT.of c,rfl,rfl,_,rfl,onF rfl ⟨_,rfl,g,_,0,_,rfl,rfl,SqT.of c,rfl,zn (by show 6<=100000;omega),λl i=>⟨l,_,rfl,.inl (SqL.of yB),rfl,rfl,_,rfl,onF rfl ⟨_,rfl,_,rfl,one (n.trans (yE i _)) (.inr (.inr (.inr (.inl ⟨_,rfl⟩))))⟩⟩⟩⟩⟩
 |file m a3=>exact onF rfl ⟨_,rfl,g,_,0,_,rfl,rfl,SqT.of c,rfl,rfl,_,rfl,onF rfl ⟨_,rfl,g,_,0,_,rfl,rfl,SqT.of c,rfl,rfl,_,rfl,onF rfl ⟨_,rfl,g,_,0,_,rfl,rfl,SqT.of c,rfl,zn (by show 6<=100000;omega),λl i=>⟨l,_,rfl,.inl (SqL.of yB),rfl,rfl,_,rfl,onF rfl ⟨_,rfl,_,rfl,one (n.trans (yE i _)) (.inr (.inr (.inr (.inr (.inl ⟨_,rfl⟩)))))⟩⟩⟩⟩⟩
 |void m=>exact onF rfl ⟨_,rfl,g,_,0,_,rfl,rfl,SqT.of c,rfl,rfl,_,rfl,onF rfl ⟨_,rfl,g,_,0,_,rfl,rfl,SqT.of c,rfl,rfl,_,rfl,onF rfl ⟨_,rfl,g,_,0,_,rfl,rfl,SqT.of c,rfl,zn (by show 6<=100000;omega),λl i=>⟨l,_,rfl,.inl (SqL.of yB),rfl,rfl,_,rfl,onF rfl ⟨_,rfl,_,rfl,one (n.trans (yE i _)) (.inr (.inr (.inr (.inr (.inr rfl)))))⟩⟩⟩⟩⟩
 |state m=>exact onF rfl ⟨_,rfl,g,_,0,_,rfl,rfl,SqT.of c,rfl,rfl,_,rfl,onF rfl ⟨_,rfl,g,_,0,_,rfl,rfl,SqT.of c,rfl,rfl,_,rfl,onF rfl ⟨_,rfl,g,_,0,_,rfl,rfl,SqT.of c,rfl,zn (by show 6<=100000;omega),λl i=>⟨l,_,rfl,.inl (SqL.of yB),rfl,rfl,_,rfl,onT rfl ⟨_,rfl,_,rfl,_,rfl,D (n.trans (yE i _)) (.inl ⟨_,rfl⟩)⟩⟩⟩⟩⟩
 |thread m=>exact onF rfl ⟨_,rfl,g,_,0,_,rfl,rfl,SqT.of c,rfl,rfl,_,rfl,onF rfl ⟨_,rfl,g,_,0,_,rfl,rfl,SqT.of c,rfl,rfl,_,rfl,onF rfl ⟨_,rfl,g,_,0,_,rfl,rfl,SqT.of c,rfl,zn (by show 6<=100000;omega),λl i=>⟨l,_,rfl,.inl (SqL.of yB),rfl,rfl,_,rfl,onT rfl ⟨_,rfl,_,rfl,_,rfl,D (n.trans (yE i _)) (.inr (.inl ⟨_,rfl⟩))⟩⟩⟩⟩⟩
 |copies m=>exact onF rfl ⟨_,rfl,g,_,0,_,rfl,rfl,SqT.of c,rfl,rfl,_,rfl,onF rfl ⟨_,rfl,g,_,0,_,rfl,rfl,SqT.of c,rfl,rfl,_,rfl,onF rfl ⟨_,rfl,g,_,0,_,rfl,rfl,SqT.of c,rfl,zn (by show 6<=100000;omega),λl i=>⟨l,_,rfl,.inl (SqL.of yB),rfl,rfl,_,rfl,onT rfl ⟨_,rfl,_,rfl,_,rfl,D (n.trans (yE i _)) (.inr (.inr (.inl ⟨_,rfl⟩)))⟩⟩⟩⟩⟩
 |letters a3=>exact onF rfl ⟨_,rfl,g,_,0,_,rfl,rfl,SqT.of c,rfl,rfl,_,rfl,onF rfl ⟨_,rfl,g,_,0,_,rfl,rfl,SqT.of c,rfl,rfl,_,rfl,onF rfl ⟨_,rfl,g,_,0,_,rfl,rfl,SqT.of c,rfl,zn (by show 6<=100000;omega),λl i=>⟨l,_,rfl,.inl (SqL.of yB),rfl,rfl,_,rfl,onT rfl ⟨_,rfl,_,rfl,_,rfl,D (n.trans (yE i _)) (.inr (.inr (.inr (.inl ⟨_,rfl⟩))))⟩⟩⟩⟩⟩
 |on B d=>exact onF (by cases B<;> rfl) ⟨_,rfl,g,_,0,_,rfl,rfl,SqT.of c,rfl,rfl,_,rfl,onF (by cases B<;> rfl) ⟨_,rfl,g,_,0,_,rfl,rfl,SqT.of c,rfl,rfl,_,rfl,onF (by cases B<;> rfl) ⟨_,rfl,g,_,0,_,rfl,rfl,SqT.of c,rfl,zn (by show 6<=100000;omega),λl i=>⟨l,_,rfl,.inl (SqL.of yB),rfl,rfl,_,rfl,onT (by cases B<;> rfl) ⟨_,rfl,_,rfl,_,rfl,D (n.trans (yE i _)) (.inr (.inr (.inr (.inr ⟨_,_,rfl⟩))))⟩⟩⟩⟩⟩
end
end Law
namespace Desk
open PySem L2 PyProof.Rows
open Bk (Row Rows xN Ans xS)
open Thr (wJ v1 qT)
def xU(H:Hp)(ds:Nat)(a:List Nat)(b:List xN):Prop:=H ds=some (.lst (a.map V.ref))/\a.length=b.length/\∀ (i:Nat)(d:Nat)(e:xN),a[i]? =some d->b[i]? =some e->H d=some (.tup (xA e))
theorem xU.same{H b:Hp}{ds:Nat}{a:List Nat}{c:List xN}(h:xU H ds a c)(k:x8 H b):xU b ds a c:=⟨k.lst h.1,h.2.1,λi d e g f=>k.tup (h.2.2 i d e g f)⟩
def xB(H:Hp)(r:Row)(v:V):Prop:=if r.void then v= .str "void" else ∃p,v= .ref p/\H p=some (.tup (stV r))
theorem xB.same{H a:Hp}{r:Row}{v:V}(h:xB H r v)(k:x8 H a):xB a r v:=by
 unfold xB at h ⊢;split
 ·rename_i e;rw[if_pos e]at h;exact h
 ·rename_i e;rw[if_neg e]at h;obtain⟨p,e,q⟩:=h;exact⟨p,e,k.tup q⟩
structure aJC(H0:Hp)(CB CL T:Nat)(ba:Nat)(es:List xN)(as:List Ans)(H:Hp)(o:List Nat):Prop where
 ex:∃ (la sa:Nat)(ls cs:List Nat)(R:Rows)(S:List Int),o=own la sa ls cs/\PB CB CL H ba la sa ls cs R S/\Up es.length R S/\Bk.jS R/\Run [] [] es as R S
 tab:wJ T H
 keep:x8 H0 H
 new:∀b∈o,∀u,(∀ps,u≠HO.tbl ps)->H0 b≠some u
def Y4(Rf:Nat×Nat):Sp:=λc H Q _=>∃ (i:Nat)(f:List Nat)(d:List xN),c= [.ref i]/\xU H i f d/\d.length<60/\(∀e∈d,Wf e)/\wJ Rf.2 H/\
 ∀ (l:Nat)(b:Hp)(c:List V)(g:List Ans)(h:Rows)(j:List Int),x8 H b->wJ Rf.2 b->Run [] [] d g h j->Bk.jS h->b l=some (.lst c)->cQI (λv a=>qC [] b a v) c g->Q (.ref l) b
def aWn(h CL:Nat):Sp:=λb H Q _=>∃ (c g e:Nat)(d f:List Nat)(R:Rows)(S:List Int),b= [.ref c]/\PB h CL H c g e d f R S/\R.length<64/\
 ∀ (l:Nat)(a:Hp)(b:List V),xF H a->a l=some (.lst b)->cQI (λv r=>xB a r v) b R->Q (.ref l) a
def vE(Rf:Nat×Nat):Sp:=λb H Q _=>∃ (g:Nat)(d:List Nat)(c:List xN),b= [.ref g]/\xU H g d c/\c.length<60/\(∀e∈c,Wf e)/\wJ Rf.2 H/\
 ∀ (l:Nat)(a:Hp)(b:List V)(h:List Ans)(f:Rows)(i:List Int),x8 H a->wJ Rf.2 a->Run [] [] c h f i->Bk.jS f->a l=some (.lst b)->cQI (λv r=>xB a r v) b f->Q (.ref l) a
theorem Y7{T:Nat}{H a:Hp}(t:wJ T H)(k:xF H a):wJ T a:=(aKK.of k).2 t
theorem aJC.start{H:Hp}{n CL T x dx la sa:Nat}{f a:Hp}(tb:wJ T H)(s:H x=none)(l:H dx=none)(C:dx≠x)(v:f=upd (upd H dx (.own x)) x (.ins n dx []))(g:f la=none)(d:f sa=none)(p:la≠sa) (E:a x=some (.ins n dx [("letters",.ref la),("shut",.ref sa)])) (B:a la=some (.lst [])) (w:a sa=some (.lst [])) (A:∀b,b≠x->b≠la->b≠sa->a b=f b):aJC H n CL T x [] [] a (own la sa [] [])/\xF H a:=by
 have m:∀b,f b=none->H b=none:=λb e=>by
  subst v;by_cases z:b=x
  ·rw[z];exact s
  ·rw[yJ z]at e;by_cases z2:b=dx
   ·rw[z2];exact l
   ·rw[yJ z2]at e;exact e
 have k:xF H a:=λb o e=>by have b1:=yI e s;have D:=yI e l;rw[A b b1 (yI e (m _ g)) (yI e (m _ d)),v,yJ b1,yJ D];exact e
 refine⟨⟨⟨la,sa,[],[],[],[],rfl,⟨⟨dx,E⟩,B,w,rfl,rfl,.nil,.nil,p,by simp,by simp,λi b c r e=>by simp at e⟩,⟨bYT _,bYT _,λr h=>by simp at h⟩,Bk.aVI,.nil⟩,Y7 tb k,k.t,λb j u _ z=>?_⟩,k⟩;have q:H b=none->False:=λy=>by rw[y]at z;cases z
 rcases bYX.mp j with e|j
 ·exact q (by rw[e];exact m _ g)
 rcases bYX.mp j with e|j
 ·exact q (by rw[e];exact m _ d)
 ·simp at j
theorem aJC.step{F:Hp}{n CL T l:Nat}{m:List xN}{D:List Ans}{H:Hp}{o:List Nat}{e:xN}(g:aJC F n CL T l m D H o)(hw:Wf e)(hz:m.length<60){x:Nat}(W:H x=some (.tup (xA e))){Q:VK}{Rf:Nat×Nat}(Y:Rf.2=T) (q:∀ (a:Ans)(v:V)(f:Hp)(y:List Nat),aJC F n CL T l (m++ [e]) (D++ [a]) f y->qC y f a v->uT H v->aXg o H f->W7 H o y->Q v f):aZs Rf n CL [.ref l,.ref x] H Q E0:=by
 subst Y;obtain⟨A,B,L,K,R,S,rfl,X,C,j,i⟩:=g.ex;refine⟨l,x,A,B,L,K,R,S,e,rfl,hw,W,X,C.sz (by omega),j,g.tab,λa G J v f s p c r k E N U I=>?_⟩;refine q a v f _ ⟨⟨A,B,s,p,G,J,rfl,r,?_,Bk.xS.book j ?_ c,.snoc i c⟩,N,λb u h e=>k b u (λz=>g.new b z u h e) h (g.keep b u h e),λb M u h z0=>?_⟩ U I k E
 ·rw[cQa,cQU];exact C.done c
 ·intro P d w t O;subst O;exact hw
 ·rcases E b M with z|z
  ·exact g.new b z u h z0
  ·rw[g.keep b u h z0]at z;cases z
section
variable {K:bYO}
abbrev aQU:Stmt:=xI "standing"
abbrev aZi:Stmt:=xK "Book" "standing_states"
theorem wX{α β:Type}{F G:α->β->Prop}(h:∀a b,F a b->G a b):∀ {l:List α} {m:List β},cQI F l m->cQI G l m
 |_,_,.nil=> .nil
 |_,_,.cons r t=> .cons (h _ _ r) (wX h t)
theorem bQE:yN ["self"] ["self"] (yH aZi):=scM
theorem aYq:xQ ["self"] (yH aZi) "letter" [] [] {kind:= .function,names:= [(".0",.local),("letter",.local)],isGenerator:=false,isCoroutine:=false,more:= [] }:=
 lcM
theorem aYR(cl:Cl K CB CL)(d:MG P w K mg base CX0 n CL "state" ["self"] (aVD CL))(F:Fun K "standing_states" "Book.standing_states" aZi f fd):xH P w K mg base CX0 (n+1) f fd ["self"] (aWn CB CL):=by
 have sc:=bQE;refine F.ok (k:=n) sc (λa0 A outer s H vs Q E hr h=>?_);obtain⟨ba,la,sa,M,cs,R,S,rfl,N,hR,q⟩:=h;refine⟨_,(yG (yQ (aXq aYq rfl (xR (y7 (pv 0) rfl)) (λ_ _ _ _ _=>vB) (λ_ _ _ _ _=>(aV0 (x5 (aQK (K:=K) (pv 0) rfl)) yP (bZe d hr v5 (pv 0))))))),?_⟩;obtain⟨dx,hb⟩:=N.book;have hl:(M.map V.ref).length=R.length:=by rw[bYR];exact N.len
 refine⟨_,rfl,ba,CB,dx,_,_,rfl,hb,cl.b,cl.letters,rfl,la,rfl,⟨_,SqL.of N.lst⟩,λD hD=>?_⟩;refine⟨λi m a B=>m=R.length - i/\i<=R.length/\xF H B/\B D=some (.lst a)/\cQI (λv r=>xB B r v) a (R.take i),⟨R.length,by simp,cQM _,yE hD _,yB,.nil⟩,?_⟩;rintro i m a B ⟨rfl,hi,T,u,L⟩;have o:=N.same T;refine⟨u,?_⟩;by_cases G:i<R.length
 ·have I:=bYL G;obtain⟨b,c,X,g2,g3,⟨x,U⟩,g5⟩:=o.get I;refine .inr ⟨⟨M.map V.ref,.ref b,SqL.of o.lst,X⟩,λv Z yl=>?_⟩;obtain⟨rfl,y⟩:=yl;have J:(M.map V.ref)[i]? =some v:=y _ (SqL.of o.lst);rw[X]at J;cases J;have W:R.take (i+1)=R.take i++ [R[i]]:=by rw[cQX,I];rfl
  have a1:a.length<=i:=by rw[L.length,cXg];omega
  refine⟨_,rfl,b,CL,x,_,_,rfl,U,cl.l,cl.void,rfl,_,rfl,?_⟩;have fin:∀ (v:V)(g:Hp),xF Z g->xB g R[i] v->a.length<cQb/\g D=some (.lst a)/\∃Y,Y<R.length - i/\(Y=R.length - (i+1)/\i+1<=R.length/\xF H (upd g D (.lst (a++ [v])))/\upd g D (.lst (a++ [v])) D=some (.lst (a++ [v]))/\cQI (λj r=>xB (upd g D (.lst (a++ [v]))) r j) (a++ [v]) (R.take (i+1))):=λv g O sv=>by
   have C:=O _ _ u;have tu:∀ (j:V)(r:Row),xB g r j->xB (upd g D (.lst (a++ [v]))) r j:=λj r h=>by
    unfold xB at h ⊢;split
    ·rename_i e;rw[if_pos e]at h;exact h
    ·rename_i e;rw[if_neg e]at h;obtain⟨p,e,q⟩:=h;exact⟨p,e,by rw[yJ (aXl q C (by intro z;cases z))];exact q⟩
   refine⟨by rw[cQe];omega,C,R.length - (i+1),by omega,rfl,G,Law.aXd (T.trans O) hD,yB,?_⟩;rw[W];exact Law.aJa (F:=λj r=>xB (upd g D (.lst (a++ [v]))) r j) (tu _ _ sv) (wX (λj r (h:xB Z r j)=>tu j r (h.same O.t)) L)
  cases J:R[i].void with
  |true=>exact onT rfl (fin _ _ (xF.refl _) (by unfold xB;rw[J];rfl))
  |false=>refine onF rfl ⟨_,rfl,b,x,_,rfl,U,rfl,b,i,_,c,rfl,⟨x,U⟩,λt ht=>?_⟩;exact fin _ _ (yE ht _) (by unfold xB;rw[J];exact⟨t,rfl,yB⟩)
 ·obtain rfl:i=R.length:=by omega
  rw[cQT]at L;exact .inl ⟨⟨M.map V.ref,SqL.of o.lst,by rw[hl];exact bYT _⟩,q D B a T u L⟩
theorem aVx:yN ["deeds","book","deed"] ["deeds"] (yH aQU):=scM
theorem aJ7(d:MkG P w K mg base n "Book" CB ["self"] (bQM CB))(c:FnG P w K mg base (n+1) "answer" ["book","deed"] (aZs Rf CB CL))(b:MG P w K mg base CX0 (n+1) CB "standing_states" ["self"] (aWn CB CL)) (F:Fun K "standing" "standing" aQU f fd):xH P w K mg base CX0 (n+2) f fd ["deeds"] (vE Rf):=by
 have sc:=aVx;refine F.ok (k:=n+1) sc (λa4 A outer s H vs Q E L h=>?_);obtain⟨ds,e,m,rfl,u,a3,N,tb,q⟩:=h;refine⟨_,(yC (yU (i:=1) (bW3 d L rfl)) (yC (wL cQF rfl (xR (pv 0)) (xE (i:=2)) (yG (y0 (xO c L rfl (yA (pv 1) (yA (pv 2) yD)))))) (yG (yQ (bZe b L v5 (pv 1)))))),?_⟩;intro x dx hx a2 X;refine⟨x,dx,rfl,yB,λla sa H1 Z I Y h1 h2 h3 h4=>⟨rfl,?_⟩⟩;dsimp only[yX];obtain⟨g0,k0⟩:=aJC.start (CL:=CL) tb hx a2 X rfl Z I Y h1 h2 h3 h4;have J:=u.same k0.t;have y:(e.map V.ref).length=m.length:=by rw[bYR];exact u.2.1
 refine⟨_,rfl,ds,rfl,⟨_,SqL.of J.1⟩,?_⟩;refine zX (xs:=e.map V.ref) (λi σ C=>∃ (D:Option V)(z:List Ans)(o:List Nat),σ= [some (.ref ds),some (.ref x),D]/\aJC H CB CL Rf.2 x (m.take i) z C o) ?_ ?_ ?_ ?_
 ·exact⟨none,[],_,rfl,g0⟩
 ·rintro i σ C hi ⟨D,z,o,rfl,g⟩;exact SqL.of (u.same g.keep).1
 ·rintro i v σ C hv ⟨D,z,o,rfl,g⟩;have j:i<m.length:=by rw[<- y];exact(bYY.mp hv).1
  have p:=bYL (show i<e.length by rw[u.2.1];exact j);have B:=bYL j;rw[bY7,p]at hv;cases hv;have G:=u.same g.keep;have U:m.take (i+1)=m.take i++ [m[i]]:=by rw[cQX,B];rfl
  dsimp only[yX];refine⟨_,rfl,_,rfl,?_⟩;refine g.step (N _ (cX5 j)) (by rw[cXg];omega) (G.2.2 i _ _ p B) rfl λa v H3 o' g3 av nv k3 gr=>?_;rw[<- U]at g3;exact⟨_,_,o',rfl,g3⟩
 ·rintro σ C ⟨D,z,o,rfl,g⟩;rw[y,cQT]at g;obtain⟨a1,W,a0,O,R,S,e1,e2,e3,e4,e5⟩:=g.ex;obtain⟨M,hb⟩:=e2.book;refine⟨_,rfl,x,M,_,rfl,hb,rfl,x,a1,W,a0,O,R,S,rfl,e2,by have:=e3.r;omega,λl H5 vs k5 T hP=>?_⟩;exact q l H5 vs z R S (g.keep.trans k5.t) (Y7 g.tab k5) e5 e4 T hP
end
end Desk
namespace Law
open PySem L2 PyProof.Rows
open Bk (Row Rows xS xN Ans)
open Desk (xA qC uT Wf Up Run xU wX)
structure LGo(H0:Hp)(ra sa:Nat)(es:List xN)(as:List Ans)(H:Hp)(rs:List Nat):Prop where
 ex:∃ (R:Rows)(S:List Int),LBk H ra sa rs R S/\Up es.length R S/\Bk.jS R/\Run [] [] es as R S
 keep:xF H0 H
 newR:H0 ra=none
 newS:H0 sa=none
 newB:∀b∈rs,H0 b=none
theorem LGo.same{f H c:Hp}{i sa:Nat}{h:List xN}{d:List Ans}{e:List Nat}(g:LGo f i sa h d H e)(k:xF H c):LGo f i sa h d c e:=
 ⟨let ⟨R,S,a,b⟩:=g.ex;⟨R,S,a.same k,b⟩,g.keep.trans k,g.newR,g.newS,g.newB⟩
theorem LGo.start{H:Hp}{a sa:Nat}(g:H a=none)(c:upd H a (.lst []) sa=none):LGo H a sa [] [] (upd (upd H a (.lst [])) sa (.lst [])) []:=by
 have e:=yE g (.lst []);have f:=yE c (.lst []);have ne:sa≠a:=λz=>by rw[z,yB]at c;cases c
 exact⟨⟨[],[],⟨⟨f _ _ yB,rfl,.nil,λi b r h=>by simp at h⟩,yB,ne,by simp,λb d=>by simp at d⟩,⟨bYT _,bYT _,λr h=>by simp at h⟩,Bk.aVI,.nil⟩,e.trans f,g,e.fresh c,λb d=>by simp at d⟩
theorem bWC{H g:Hp}{j sa:Nat}{b:List Nat}{o:Rows}{w:List Int}{a:Ans}{v:V}(s:LBk g j sa b o w)(m:∃c,H j=some (.lst c))(k:∃c,H sa=some (.lst c))(f:qC [] g a v)(q:uT H v):qC (sa::j::b) g a v:=by
 have no:∀p,v= .ref p->(∀r d,g p≠some (.lst (uQ r d)))->p∉sa::j::b:=λp e n z=>by
  rcases bYX.mp z with z|z
  ·obtain⟨c,h⟩:=k;exact q p e (.lst c) (by intro _ y;cases y) (by rw[z];exact h)
  rcases bYX.mp z with z|z
  ·obtain⟨c,h⟩:=m;exact q p e (.lst c) (by intro _ y;cases y) (by rw[z];exact h)
  ·obtain⟨i,t,u⟩:=cQD z;obtain⟨d,A,_⟩:=s.book.row i p _ (by rw[bYL t,u]) (bYL (show i<o.length by rw[<- s.book.len];exact t));exact n _ d A
 cases a with
 |num n=>exact f
 |txt x=>exact f
 |nums l=>obtain⟨p,e,_,h⟩:=f;exact⟨p,e,no p e λr d z=>by rw[h]at z;exact aQO (bY6 z).symm,h⟩
 |txts l=>obtain⟨p,e,_,h⟩:=f;exact⟨p,e,no p e λr d z=>by rw[h]at z;exact qJ (bY6 z).symm,h⟩
 |row r=>obtain⟨p,e,_,h⟩:=f;exact⟨p,e,no p e λr d z=>(by rw[h]at z;cases z),h⟩
theorem LGo.step{F H:Hp}{j sa:Nat}{y:List xN}{E:List Ans}{u:List Nat}{e:xN}(g:LGo F j sa y E H u)(hw:Wf e)(hz:y.length<60){C:Nat}(N:H C=some (.tup (xA e))){Q:VK} (q:∀ (a:Ans)(v:V)(i:Hp)(f:List Nat),LGo F j sa (y++ [e]) (E++ [a]) i f->aZy j sa u f H i->qC (sa::j::f) i a v->uT H v->Q v i):aXL [.ref j,.ref sa,.ref C] H Q E0:=by
 obtain⟨R,S,B,n,m,l⟩:=g.ex;refine⟨j,sa,C,u,R,S,e,rfl,N,hw,B,by have:=n.r;omega,by have:=n.s;omega,m,λr I=>by have:=n.c r I;omega,λi a v G J f A k p O D=>?_⟩;refine q a v i f ⟨⟨G,J,k,?_,Bk.xS.book m ?_ p,.snoc l p⟩,λx o h=>?_,g.newR,g.newS,λb K=>?_⟩ A (bWC k ⟨_,B.book.lst⟩ ⟨_,B.shut⟩ O D) D
 ·rw[cQa,cQU];exact n.done p
 ·intro M d w t L;subst L;exact hw
 ·exact A.1 x o (yI h g.newS) (yI h g.newR) (λz=>by rw[g.newB x z]at h;cases h) (g.keep _ _ h)
 ·rcases A.2.1 b K with z|z
  ·exact g.newB b z
  ·exact g.keep.fresh z
structure aWw(H0:Hp)(ra sa:Nat)(H:Hp)(rs:List Nat)(D:Nat)(xs:List V):Prop where
 at_:H D=some (.lst xs)
 new:H0 D=none
 nr:D≠ra
 ns:D≠sa
 nb:D∉rs
 nc:NoC rs H D
theorem aWw.step{e H c:Hp}{b sa D:Nat}{d a:List Nat}{xs:List V}(h:aWw e b sa H d D xs)(st:aZy b sa d a H c):aWw e b sa c a D xs:=
 ⟨st.1 D _ h.ns h.nr h.nb h.at_,h.new,h.nr,h.ns,λz=>(st.2.1 D z).elim h.nb (λy=>by have:=h.at_;rw[y]at this;cases this),st.2.2 D _ h.at_ h.nc⟩
theorem aWw.same{d H c:Hp}{e sa D:Nat}{a:List Nat}{xs:List V}(h:aWw d e sa H a D xs)(f:∀b∈a,∃o,H b=some o)(k:xF H c):aWw d e sa c a D xs:=
 ⟨k _ _ h.at_,h.new,h.nr,h.ns,h.nb,(But.of f k).2.2 D _ h.at_ h.nc⟩
theorem LGo.dom{d H:Hp}{f sa:Nat}{e:List xN}{c:List Ans}{a:List Nat}(g:LGo d f sa e c H a):∀b∈a,∃o,H b=some o:=let ⟨R,S,h,_⟩:=g.ex;h.book.dom
theorem LGo.write{m H:Hp}{n sa D:Nat}{q:List xN}{s:List Ans}{d:List Nat}{xs:List V}(g:LGo m n sa q s H d)(h:aWw m n sa H d D xs)(ys:List V):LGo m n sa q s (upd H D (.lst ys)) d/\aWw m n sa (upd H D (.lst ys)) d D ys:=by
 obtain⟨R,S,c,v,p,f⟩:=g.ex;have nb:∀b∈d,b≠D:=λb a z=>h.nb (by rw[<- z];exact a);refine⟨⟨⟨R,S,⟨⟨by rw[yJ (cQu h.nr)];exact c.book.lst,c.book.len,c.book.nd,λi b r a u=>?_⟩,by rw[yJ (cQu h.ns)];exact c.shut,c.ne,c.no,λb a l j=>c.noC b a l (by rw[yJ (nb b a)]at j;exact j)⟩,v,p,f⟩,λx o e=>?_,g.newR,g.newS,g.newB⟩,yB,h.new,h.nr,h.ns,h.nb,λb a l j=>h.nc b a l (by rw[yJ (nb b a)]at j;exact j)⟩
 ·obtain⟨w,t,y⟩:=c.book.row i b r a u;have k:=bY5 a;exact⟨w,by rw[yJ (nb b k)];exact t,by rw[yJ (λz=>h.nc b k _ t (by rw[<- z];rfl))];exact y⟩
 ·rw[yJ (yI e h.new)];exact g.keep _ _ e
theorem aWw.write{e H:Hp}{f sa D E:Nat}{a:List Nat}{xs:List V}(h:aWw e f sa H a D xs)(ne:D≠E)(g:E∉a)(u:HO):aWw e f sa (upd H E u) a D xs:=
 ⟨by rw[yJ ne];exact h.at_,h.new,h.nr,h.ns,h.nb,λb d l c=>h.nc b d l (by rw[yJ (λz=>g (by rw[<- z];exact d))]at c;exact c)⟩
end Law
namespace Bk
open PySem (Str)
theorem zZ{R:Rows}{k:Nat}{r:Row}(a:R[k]? =some r)(b:r.void=false):wO R (k:Int)=true:=by
 unfold wO;rw[cQl,a];simp[b]
theorem xS.noOne{R R2:Rows}{S g:List Int}{m:Int}{e:xN}{f:Ans}(h:wO R m=false)(a:e= .loose m\/(∃d,e= .date m d)\/(∃t,e= .term m t)\/(∃w,e= .copy m w)\/(∃w,e= .file m w)\/e= .void m\/e= .state m\/e= .thread m\/e= .copies m) (i:xS R S e f R2 g):f= .txt "no letter"/\R2=R/\g=S:=by
 cases i with
 |oneN k j=>exact⟨rfl,rfl,rfl⟩
 |enter _=>simp at a
 |enterT _=>simp at a
 |replyN _=>simp at a
 |replyT _ _=>simp at a
 |replyE _ _ _ _=>simp at a
 |reply _ _ _ _=>simp at a
 |hangN _=>simp at a
 |hangH _ _ _ _ _=>simp at a
 |hangO _ _ _ _ _ _=>simp at a
 |hangW _ _ _ _ _ _ _=>simp at a
 |hangP _ _ _ _ _ _ _ _=>simp at a
 |hangE _ _ _ _ _ _ _ _ _=>simp at a
 |hang _ _ _ _ _ _ _ _ _=>simp at a
 |shutN _=>simp at a
 |shut _=>simp at a
 |letters=>simp at a
 |on _=>simp at a
 |looseN b c _=>simp at a;rw[<- a,zZ b c]at h;cases h
 |loose b c _=>simp at a;rw[<- a,zZ b c]at h;cases h
 |dateE b c _=>simp at a;rw[<- a,zZ b c]at h;cases h
 |date b c _ _=>simp at a;rw[<- a,zZ b c]at h;cases h
 |termN b c _=>simp at a;rw[<- a,zZ b c]at h;cases h
 |term b c _=>simp at a;rw[<- a,zZ b c]at h;cases h
 |copyC b c _=>simp at a;rw[<- a,zZ b c]at h;cases h
 |copy b c _ _=>simp at a;rw[<- a,zZ b c]at h;cases h
 |file b c=>simp at a;rw[<- a,zZ b c]at h;cases h
 |voidA b c _=>simp at a;rw[<- a,zZ b c]at h;cases h
 |void b c _=>simp at a;rw[<- a,zZ b c]at h;cases h
 |state b c=>simp at a;rw[<- a,zZ b c]at h;cases h
 |thread b c=>simp at a;rw[<- a,zZ b c]at h;cases h
 |copies b c=>simp at a;rw[<- a,zZ b c]at h;cases h
def aZw(R:Rows)(e:xN):Prop:=∃m,wO R m=false/\(e= .loose m\/(∃d,e= .date m d)\/(∃t,e= .term m t)\/(∃w,e= .copy m w)\/(∃w,e= .file m w)\/e= .void m\/e= .state m\/e= .thread m\/e= .copies m)
theorem X9{R:Rows}{m:Int}{k:Nat}{r:Row}(h:wO R m=false)(e:m=(k:Int))(a:R[k]? =some r)(b:r.void=false):False:=by
 rw[e,zZ a b]at h;cases h
theorem xS.det{R w R2:Rows}{S y B:List Int}{e n:xN}{a D:Ans}(b:n=e)(h:xS R S e a w y)(i:xS R S n D R2 B):a=D/\w=R2/\y=B:=by
 by_cases o:aZw R e
 ·obtain⟨m,x,C⟩:=o;obtain⟨rfl,rfl,rfl⟩:=xS.noOne x C h;subst b;obtain⟨rfl,rfl,rfl⟩:=xS.noOne x C i;exact⟨rfl,rfl,rfl⟩
 have J:¬aZw R n:=by rw[b];exact o
 cases e<;> cases n<;> try (cases b;done)
 all_goals simp only[xN.loose.injEq,xN.date.injEq,xN.term.injEq,xN.copy.injEq,xN.file.injEq,xN.void.injEq,xN.state.injEq,xN.thread.injEq,xN.copies.injEq,xN.letters.injEq,xN.shut.injEq,xN.enter.injEq,xN.reply.injEq,xN.hang.injEq,xN.on.injEq]at b
 all_goals cases h<;> cases i<;> first
  |(exfalso;exact o ⟨_,‹wO R _=false›,‹_›⟩)
  |(exfalso;exact J ⟨_,‹wO R _=false›,‹_›⟩)
  |(simp_all [cJB];done)
  |(simp_all [cJB];omega)
  |skip
 all_goals first
  |exact(X9 ‹wO R _=false› b.1.symm ‹R[_]? =some _› ‹_›).elim
  |exact(X9 ‹wO R _=false› b.1 ‹R[_]? =some _› ‹_›).elim
  |(rcases ‹wO R _=false\/wO R _=false› with z|z
    ·exact(X9 z b.1.symm ‹R[_]? =some _› ‹_›).elim
    ·exact(X9 z b.2.symm ‹R[_]? =some _› ‹_›).elim)
  |(rcases ‹wO R _=false\/wO R _=false› with z|z
    ·exact(X9 z b.1 ‹R[_]? =some _› ‹_›).elim
    ·exact(X9 z b.2 ‹R[_]? =some _› ‹_›).elim)
  |skip
 case date.date.dateE.date=>
  rename_i d E k r q I h F H f s t i;exfalso;obtain⟨v,rfl⟩:=b;cases cJB.mp v;rw[q]at f;cases f;rcases h with⟨j,g,p⟩|⟨c,g,p⟩
  ·have:=t j g;omega
  ·have:=i c g;omega
 case date.date.date.dateE=>
  rename_i d E k r q I t i F H f s h;exfalso;obtain⟨v,rfl⟩:=b;cases cJB.mp v;rw[q]at f;cases f;rcases h with⟨j,g,p⟩|⟨c,g,p⟩
  ·have:=t j g;omega
  ·have:=i c g;omega
 case on.on.on.on=>
  rename_i A d u E l h K G;obtain⟨rfl,rfl⟩:=b;cases h.uniq G;exact⟨rfl,rfl,rfl⟩
end Bk
namespace Desk
open Bk (Row Rows xS xN Ans)
theorem Run.inv{R c:Rows}{S b:List Int}{l:List xN}{bs:List Ans}(h:Run R S l bs c b):(l= []/\bs= []/\c=R/\b=S)\/∃i e f a j g,l=i++ [e]/\bs=f++ [a]/\Run R S i f j g/\xS j g e a c b:=by
 cases h with
 |nil=>exact .inl ⟨rfl,rfl,rfl,rfl⟩
 |snoc h d=>exact .inr ⟨_,_,_,_,_,_,rfl,rfl,h,d⟩
theorem Run.det{R:Rows}{S:List Int}:∀ (n:Nat) {b:List xN} {i bs:List Ans} {c R2:Rows} {j f:List Int},b.length=n->Run R S b i c j->Run R S b bs R2 f->i=bs/\c=R2/\j=f
 |0,b,i,bs,c,R2,j,f,hn,h,h2=>by
  rcases h.inv with⟨rfl,rfl,rfl,rfl⟩|⟨_,_,_,_,_,_,rfl,_⟩
  ·rcases h2.inv with⟨_,rfl,rfl,rfl⟩|⟨r,t,_,_,_,_,z,_⟩
   ·exact⟨rfl,rfl,rfl⟩
   ·exact absurd (congrArg cXQ z) (by simp)
  ·simp at hn
 |n+1,b,i,bs,c,R2,j,f,hn,h,h2=>by
  rcases h.inv with⟨rfl,_⟩|⟨m,e,s,a,v,w,rfl,rfl,g,d⟩
  ·simp at hn
  ·rcases h2.inv with⟨z,_⟩|⟨o,t,l,x,q,k,z,rfl,p,u⟩
   ·exact absurd (congrArg cXQ z) (by simp)
   ·obtain⟨rfl,z2⟩:=cJs z rfl;cases z2;obtain⟨rfl,rfl,rfl⟩:=Run.det n (by simpa using hn) g p;obtain⟨rfl,rfl,rfl⟩:=Bk.xS.det rfl d u;exact⟨rfl,rfl,rfl⟩
end Desk
namespace Law
open PySem L2 PyProof.Rows
open Bk (Row Rows xS xN Ans)
open Desk (xA qC uT Wf Up Run xU wX)
theorem aQb{o c:List Nat}{H b:Hp}{a:Ans}{v:V}(h:qC o H a v)(k:∀p u,p∉o->H p=some u->p∉c/\b p=some u):qC c b a v:=by
 cases a with
 |num n=>exact h
 |txt x=>exact h
 |nums l=>obtain⟨p,e,n,q⟩:=h;exact⟨p,e,k p _ n q⟩
 |txts l=>obtain⟨p,e,n,q⟩:=h;exact⟨p,e,k p _ n q⟩
 |row r=>obtain⟨p,e,n,q⟩:=h;exact⟨p,e,k p _ n q⟩
structure Mid(H0:Hp)(ra sa ds us:Nat)(es:List xN)(das:List Nat)(i:Nat)(H:Hp):Prop where
 ne:ds≠us
 wf:∀e∈es,Wf e
 len:das.length=es.length
 at_:∀ (j:Nat)(d:Nat)(e:xN),das[j]? =some d->es[j]? =some e->H d=some (.tup (xA e))
 ex:∃ (rs:List Nat)(as:List Ans)(vs:List V),LGo H0 ra sa (es.take i) as H rs/\aWw H0 ra sa H rs ds (das.map V.ref)/\aWw H0 ra sa H rs us vs/\cQI (λv a=>qC (us::ds::sa::ra::rs) H a v) vs as
theorem Mid.same{l H c:Hp}{h sa ds us:Nat}{f:List xN}{b:List Nat}{i:Nat}(m:Mid l h sa ds us f b i H)(k:xF H c):Mid l h sa ds us f b i c:=by
 obtain⟨o,s,t,g,r,x,p⟩:=m.ex;exact⟨m.ne,m.wf,m.len,λj d e w q=>k _ _ (m.at_ j d e w q),o,s,t,g.same k,r.same g.dom k,x.same g.dom k,wX (λv a z=>aQb z λp u n e=>⟨n,k _ _ e⟩) p⟩
theorem Mid.keep{b H:Hp}{d sa ds us:Nat}{c:List xN}{a:List Nat}{i:Nat}(m:Mid b d sa ds us c a i H):xF b H:=let ⟨rs,as,vs,g,_⟩:=m.ex;g.keep
theorem Mid.push{t H:Hp}{s sa ds us:Nat}{c:List xN}{b:List Nat}{i:Nat}(m:Mid t s sa ds us c b i H)(A:i=c.length){d:Nat}{e:xN}(E:H d=some (.tup (xA e)))(hw:Wf e):Mid t s sa ds us (c++ [e]) (b++ [d]) i (upd H ds (.lst ((b++ [d]).map V.ref))):=by
 obtain⟨B,C,D,g,o,F,p⟩:=m.ex;have w:=g.write o ((b++ [d]).map V.ref);have tk:∀ {x ys},H x=some (.tup ys)->upd H ds (.lst ((b++ [d]).map V.ref)) x=some (.tup ys):=λ{x ys} h=>by rw[yJ (λz=>by rw[z,o.at_]at h;cases h)];exact h
 refine⟨m.ne,λx k=>?_,by simp[m.len],λj x y l f=>?_,B,C,D,?_,w.2,F.write (cQu m.ne) o.nb _,wX (λv a z=>aQb z λp u n h=>⟨n,?_⟩) p⟩
 ·rcases cQn.mp k with k|k
  ·exact m.wf x k
  ·rw[bY1.mp k];exact hw
 ·by_cases r:j<c.length
  ·rw[cQp (by rw[m.len];exact r)]at l;rw[cQp r]at f;exact tk (m.at_ j x y l f)
  ·have q:j=c.length:=by
    have:=(bYY.mp f).1;simp at this;omega
   subst q;rw[bY9 (by rw[m.len];exact bYT _),m.len,cQ4]at l;rw[bY9 (bYT _),cQ4]at f;cases l;cases f;exact tk E
 ·rw[A,List.take_left' rfl];have:=w.1;rw[A,cQT]at this;exact this
 ·rw[yJ (λz=>n (by rw[z];exact bYZ _ bY4))];exact h
theorem Mid.next{X H:Hp}{k sa ds us:Nat}{o:List xN}{b:List Nat}{i:Nat}(m:Mid X k sa ds us o b i H)(hz:i<60){d:Nat}{e:xN}(hd:b[i]? =some d)(E:o[i]? =some e){Q:VK} (q:∀ (v:V)(f:Hp)(vs:List V),H us=some (.lst vs)->f us=some (.lst vs)->vs.length=i->Mid X k sa ds us o b (i+1) (upd f us (.lst (vs++ [v])))->Q v f):aXL [.ref k,.ref sa,.ref d] H Q E0:=by
 obtain⟨N,as,vs,g,U,K,p⟩:=m.ex;have a0:i<o.length:=(bYY.mp E).1;have C:(o.take i).length=i:=by rw[cXg];omega
 have M:vs.length=i:=by obtain⟨R,S,_,_,_,Z⟩:=g.ex;rw[cZg p,<- Z.len,C]
 have hw:Wf e:=m.wf e (bY5 E);refine g.step hw (by rw[C];exact hz) (m.at_ i d e hd E) λa v f c Y B A O=>?_;have t1:=U.step B;have F:=K.step B;refine q v f vs K.at_ F.at_ M ?_;have w:=Y.write F (vs++ [v]);obtain⟨R,S,L,_⟩:=g.ex;have tk:∀ {x ys},H x=some (.tup ys)->upd f us (.lst (vs++ [v])) x=some (.tup ys):=λ{x ys} h=>by
  have D:x≠sa:=λz=>by rw[z,L.shut]at h;cases h
  have J:x≠k:=λz=>by rw[z,L.book.lst]at h;cases h
  have t:=B.1 x _ D J (L.book.tupNo h) h;rw[yJ (λz=>by rw[z,F.at_]at t;cases t)];exact t
 have o2:∀p u,p∉us::ds::sa::k::N->H p=some u->p∉us::ds::sa::k::c/\upd f us (.lst (vs++ [v])) p=some u:=λp u n h=>by
  have D:p≠us:=λz=>n (by rw[z];exact bY4);have J:p≠ds:=λz=>n (by rw[z];simp);have P:p≠sa:=λz=>n (by rw[z];simp);have T:p≠k:=λz=>n (by rw[z];simp);have W:p∉N:=λz=>n (by simp[z]);refine⟨λz=>?_,by rw[yJ D];exact B.1 p u P T W h⟩;simp only[bYX,D,J,P,T,false_or]at z;rcases B.2.1 p z with y|y
  ·exact W y
  ·rw[h]at y;cases y
 have et:o.take (i+1)=o.take i++ [e]:=by rw[cQX,E];rfl
 refine⟨m.ne,m.wf,m.len,λj x y h1 t=>tk (m.at_ j x y h1 t),c,as++ [a],vs++ [v],by rw[et];exact w.1,t1.write m.ne F.nb _,w.2,?_⟩;refine Paired.snoc (wX (λv a z=>aQb z o2) p) ?_;have s:∀x,v= .ref x->x≠us:=λx ex z=>O x ex (.lst vs) (by intro _ y;cases y) (by rw[z];exact K.at_);have G:∀x,v= .ref x->x≠ds:=λx ex z=>O x ex (.lst (b.map V.ref)) (by intro _ y;cases y) (by rw[z];exact U.at_);have I:∀x u,v= .ref x->x∉sa::k::c->f x=some u->x∉us::ds::sa::k::c/\upd f us (.lst (vs++ [v])) x=some u:=λx u ex n h=>
  ⟨λz=>(bYX.mp z).elim (s x ex) λz=>(bYX.mp z).elim (G x ex) n,by rw[yJ (s x ex)];exact h⟩
 cases a with
 |num n=>exact A
 |txt x=>exact A
 |nums l=>obtain⟨x,ex,n,h⟩:=A;exact⟨x,ex,I x _ ex n h⟩
 |txts l=>obtain⟨x,ex,n,h⟩:=A;exact⟨x,ex,I x _ ex n h⟩
 |row r=>obtain⟨x,ex,n,h⟩:=A;exact⟨x,ex,I x _ ex n h⟩
end Law
namespace Law
open PySem L2 PyProof.Rows
open Bk (Row Rows xS xN Ans)
open Desk (xA qC uT Wf vA stV)
theorem aZO(a:Array Nat):∀ (m:Nat)(b:Array Nat),((cQC m a).foldl (·++·) b).size=b.size+m*a.size
 |0,b=>by simp
 |m+1,b=>by rw[cX4,List.foldl_cons,aZO a m,Array.size_append,Nat.succ_mul];omega
theorem bVf{x:Str}{n:Int}(a:x.length<=1)(e:n<=100):(Txt.mul x n).length<=100:=by
 unfold Txt.mul;split
 ·decide
 ·split
  ·omega
  ·rename_i f _;show((cQC n.toNat x.cps).foldl (·++·) #[]).size<=100;rw[aZO];have b:x.cps.size<=1:=a;have c:n.toNat*x.cps.size<=n.toNat*1:=Nat.mul_le_mul_left _ b;have d:(#[]:Array Nat).size=0:=rfl;omega
theorem aQH{X:Cx}:OpR X (cZh .Mult) (λx y H Q=>∃i n,x= .str i/\y= .int n/\i.length<=1/\0<=n/\n<=100/\∀z:Str,z.length<=100->Q (.str z) H):=by
 intro b s σ H x y v u Q I g f h;obtain⟨i,n,rfl,rfl,a,j,c,q⟩:=h;obtain⟨t,rfl⟩:=g;obtain⟨e,rfl⟩:=f;refine SB.mul ⟨?_,λd _=>?_,λd _=>?_⟩ λe k=>⟨.str (Txt.mul i n),H,I.tok _,⟨_,rfl⟩,q _ (bVf a c)⟩
 ·rw[decide_eq_false (by omega),decide_eq_false (by omega)];rfl
 ·have:(1:Int)<=(2 ^ 63 - 1) / n:=Int.le_ediv_of_mul_le (by omega) (by omega);omega
 ·have:i.length*n.toNat<=1*n.toNat:=Nat.mul_le_mul_right _ a;unfold Builtin.Str.tooLong;simp only[decide_eq_false_iff_not,cQe];omega
theorem bJb{l:List V}(h:0<l.length)(x:Int):∃v∈l,atI l (x % (l.length:Nat))=some v:=by
 have d:=Int.emod_nonneg x (show((l.length:Nat):Int)≠0 by omega);have c:=Int.emod_lt_of_pos x (show(0:Int)<((l.length:Nat):Int) by omega);obtain⟨k,b⟩:∃k:Nat,x % (l.length:Nat)=(k:Int):=⟨(x % (l.length:Nat)).toNat,by omega⟩;have a:k<l.length:=by omega
 refine⟨l[k],cX5 a,?_⟩;rw[b];exact yR (bYL a)
theorem X5{a:List Int}(h:a≠ [])(x:Int):∃n,atI (a.map V.int) (x % ((a.map V.int).length:Nat))=some (.int n):=by
 obtain⟨v,b,e⟩:=bJb (l:=a.map V.int) (by rw[bYR];exact cQV.mpr h) x;obtain⟨n,_,rfl⟩:=cQR.mp b;exact⟨n,e⟩
theorem aJF{l:List Nat}(h:l≠ [])(x:Int):∃n,atI (l.map λi=>V.int (i:Nat)) (x % ((l.map λi=>V.int (i:Nat)).length:Nat))=some (.int n):=by
 obtain⟨v,a,e⟩:=bJb (l:=l.map λi=>V.int (i:Nat)) (by rw[bYR];exact cQV.mpr h) x;obtain⟨n,_,rfl⟩:=cQR.mp a;exact⟨n,e⟩
def vR(H:Hp)(v:V):Prop:=∃p e,v= .ref p/\H p=some (.tup (xA e))/\Wf e
theorem vR.same{H d:Hp}{v:V}(h:vR H v)(k:xF H d):vR d v:=let ⟨p,e,a,b,c⟩:=h;⟨p,e,a,k _ _ b,c⟩
abbrev aQe:Stmt:=xI "_law_hanging"
def aJr:Sp:=λf H Q _=>∃ (d c:Nat)(e:List Nat)(R:Rows)(b:List Int)(k:Nat)(m:Int),f= [.ref d,.ref c,.int (k:Nat),.int m]/\xC H d e R/\R.length<=60/\H c=some (.lst (b.map V.int))/\b≠ []/\
 ∀ (a:Hp)(v:V),xF H a->vR a v->Q v a
section
variable {K:bYO}
theorem aKv:yN ["_law_rows","_law_cells","_law_k","_law_number","_law_near","_law_far","_law_free","_law_goal","_law_fits","_law_j","_law_one"] ["_law_rows","_law_cells","_law_k","_law_number"] (yH aQe):=scM
theorem aWR:xQ ["_law_rows","_law_cells","_law_k","_law_number","_law_near","_law_far","_law_free","_law_goal","_law_fits","_law_j","_law_one"] (yH aQe) "_law_j" ["_law_rows"] [0] {kind:= .function,names:= [(".0",.local),("_law_j",.local),("_law_rows",.free)],isGenerator:=false,isCoroutine:=false,more:= [] }:=
 lcM
theorem aKa(T:vP mg)(a5:mg "int"=none)(L:FnG P w K mg base 1 "_law_good" ["_law_rows","_law_number"] Q6)(F:Fun K "_law_hanging" "_law_hanging" aQe f fd):xH P w K mg base CX0 2 f fd ["_law_rows","_law_cells","_law_k","_law_number"] aJr:=by
 have sc:=aKv;refine F.ok (k:=1) sc (λb0 A outer s H vs Q E hr h=>?_);obtain⟨v,ca,rs,R,ns,k,m,rfl,hB,hR,hc,a2,q⟩:=h;refine⟨_,(yC (yU (i:=4) (yL yK (pv 1) (yV y3 (yV zA (pv 2) yF) (yS yO rfl T.b_len xD (yA (pv 1) yD))))) (yC (yU (i:=5) (yL yK (pv 1) (yV y3 (yV zA (pv 2) yF) (yS yO rfl T.b_len xD (yA (pv 1) yD))))) (yC (aXr (i:=6) aWR rfl sc.nd rfl rfl (zN rfl T.b_range (yA (yS yO rfl T.b_len xD (yA (pv 0) yD)) yD)) (λ_ _ _ _ _=>(wF (yM aXE (yL (show IxR _ (aXG K)from yK) (yL (show IxR _ (aXG K)from yK) (pv 1) (pv 0)) yF) x3))) (λ_ _ _ _ _=>(pv 0))) (yC (y6 (PW.pt (v8 (yM (wR hr.units0) (pv 6) (yZ yD)) (vL (yM aXp (yV y3 (pv 4) yF) yF)))) (yG (yU (i:=3) (yL yK (pv 6) (yV y3 (pv 5) (yS yO rfl T.b_len xD (yA (pv 6) yD)))))) yT) (yC (yU (i:=7) (yV w6 (yV y3 (yV zA (pv 4) (pv 2)) (yV zA (yS yO rfl T.b_len xD (yA (pv 0) yD)) yF)) (xW wT rfl a5 uN (yA (zM zH (yV y3 (pv 4) yF) yF) yD)))) (yC (yU (i:=8) (yZ yD)) (yC (wL cQF rfl (zN rfl T.b_range (yA (yS yO rfl T.b_len xD (yA (pv 0) yD)) yD)) (xE (i:=9)) (yG (y6 (PW.pt (v8 (x5 (xO L hr rfl (yA (pv 0) (yA (pv 3) yD)))) (vL (yM Y0 (yL yK (yL yK (pv 0) (pv 9)) yF) (yL yK (yL yK (pv 0) (pv 3)) yF))))) (yC (yU (i:=10) (yL yK (pv 0) (pv 9))) (yG (y6 (PW.pt (v8 (yM zH (yL yK (pv 10) yF) (yL yK (yL yK (pv 0) (pv 3)) yF)) (vL (yM aYU (yL yK (pv 10) yF) (yL yK (yL yK (pv 0) (pv 3)) yF))))) (yG (y0 (v6 cQj cQr cQs xL (pv 8) (yA (pv 9) yD)))) yT))) yT))) (yC (y6 (PW.pt (v8 (yM (wR hr.units0) (pv 8) (yZ yD)) (vL (yM aXp (yV y3 (pv 4) yF) yF)))) (yG (yU (i:=7) (yL yK (pv 8) (yV y3 (yV zA (yV Z2 (pv 4) yF) (pv 2)) (yS yO rfl T.b_len xD (yA (pv 8) yD)))))) yT) (yG (yQ (y8 (yA yP (yA (pv 3) (yA (pv 7) yD)))))))))))))),?_⟩;have hl:(rs.map V.ref).length=R.length:=by rw[bYR];exact hB.len
 have U:(0:Int)<((ns.map V.int).length:Nat):=by rw[bYR];have:=cQV.mpr a2;omega
 obtain⟨g,a0⟩:=X5 a2 ((k:Nat)+1);obtain⟨O,a6⟩:=X5 a2 ((k:Nat)+2);refine⟨_,rfl,_,rfl,_,_,rfl,rfl,_,rfl,ca,_,rfl,.inl (SqL.of hc),_,_,rfl,rfl,U,ca,_,_,_,rfl,rfl,SqL.of hc,a0,?_⟩;dsimp only[yX];refine⟨_,rfl,_,rfl,_,_,rfl,rfl,_,rfl,ca,_,rfl,.inl (SqL.of hc),_,_,rfl,rfl,U,ca,_,_,_,rfl,rfl,SqL.of hc,a6,?_⟩;dsimp only[yX];refine⟨_,rfl,v,_,rfl,.inl (SqL.of hB.lst),?_⟩;rw[hl];refine⟨_,rfl,by omega,by omega,λD hD=>?_⟩;rw[cQl];refine qX (λj=>decide (zL (Bk.lk R j)=V.non)) (λk=>V.int (k:Nat)) hD (by rw[cQe];omega) (λj hj X R' hH J=>?_) (λk hk _ X R' hH J=>⟨_,rfl,J⟩) ?_
 ·have N:=bYL hj;obtain⟨b,g1,g2,cp,g3,g4⟩:=hB.get N;have a8:X v=some (.lst (rs.map V.ref)):=by rw[hH v (yI hB.lst hD)];exact hB.lst
  have hb:X b=_:=(hH b (yI g3 hD)).trans g3;rw[Bk.wM N]at J;exact⟨_,rfl,_,rfl,v,_,_,_,rfl,rfl,SqL.of a8,yR g1,b,_,4,_,rfl,rfl,SqL.of hb,rfl,rfl,_,rfl,J⟩
 generalize a9:(bYW R.length).filter (λj=>decide (zL (Bk.lk R j)=V.non))=free;have k1:=yE hD (.lst (free.map λi=>V.int (i:Nat)));have Z:upd H D (.lst (free.map λi=>V.int (i:Nat))) D=some (.lst (free.map λi=>V.int (i:Nat))):=yB;generalize upd H D (.lst (free.map λi=>V.int (i:Nat)))=H1 at k1 Z ⊢;dsimp only[yX];refine x6 (λG X=>∃m':Int,G= [some (.ref v),some (.ref ca),some (.int (k:Nat)),some (.int m'),some (.int g),some (.int O),some (.ref D),none,none,none,none]/\xF H X) ?jV (λd=>?_);case jV=>
  rintro G H2 ⟨m',rfl,k2⟩;have a3:=hB.same k2;refine⟨_,rfl,_,rfl,_,_,rfl,rfl,_,rfl,v,_,rfl,.inl (SqL.of a3.lst),_,_,rfl,rfl,_,_,rfl,rfl,(show(0:Int)<(((rs.map V.ref).length:Nat):Int)+1 by omega),_,rfl,_,_,rfl,rfl,(show(0:Int)<11 by decide),rfl,.inr ⟨_,rfl,_,_,rfl,rfl,?_⟩⟩;dsimp only[yX];refine⟨z0,λS a1=>?_⟩;dsimp only[yX];refine⟨_,rfl,v,_,rfl,.inl (SqL.of ((yE a1 (.lst [])) _ _ a3.lst)),?_⟩;rw[hl];refine⟨_,rfl,by omega,by omega,?_⟩;rw[cQl];have a7:H S=none:=k2.fresh a1;generalize ((g+(k:Nat)) % ((R.length:Nat)+1) - if decide (V.int (g % 11)=V.int 5)=true then 1 else 0)=goal;refine wV (λt σ H3=>∃ (a:List Nat)(o9 M:Option V),σ= [some (.ref v),some (.ref ca),some (.int (k:Nat)),some (.int m'),some (.int g),some (.int O),some (.ref D),some (.int goal),some (.ref S),o9,M]/\xF H H3/\H3 S=some (.lst (a.map λi=>V.int (i:Nat)))/\a.length<=t) ?_ ?_ ?_
  ·exact⟨[],none,none,rfl,k2.trans (yE a1 _),yB,bYT _⟩
  ·rintro j σ H3 hj ⟨a,o9,M,rfl,I,l,a4⟩;rw[cX9];dsimp only[yX];have u:=hB.same I;have N:=bYL hj;obtain⟨bj,j1,j2,cj,j3,j4⟩:=u.get N;refine⟨_,rfl,_,rfl,v,rs,R,m',rfl,u,_,rfl,?_⟩;cases h1:Bk.wO R m' with
   |false=>exact onF rfl (onF rfl ⟨a,_,_,rfl,I,l,by omega⟩)
   |true=>
   obtain⟨i,r,rfl,b1,hi,hv⟩:=Bk.wP h1;obtain⟨b,g1,g2,cp,g3,g4⟩:=u.get hi;refine onT rfl ⟨_,rfl,_,rfl,v,_,_,_,rfl,rfl,SqL.of u.lst,yR j1,bj,_,0,_,rfl,rfl,SqL.of j3,rfl,_,rfl,_,rfl,v,_,_,_,rfl,rfl,SqL.of u.lst,yR g1,b,_,0,_,rfl,rfl,SqL.of g3,rfl,rfl,_,rfl,?_⟩;refine qE (λc1=>?_) (λc1=>?_)
   ·refine⟨_,rfl,_,rfl,v,_,_,_,rfl,rfl,SqL.of u.lst,yR j1,?_⟩;dsimp only[yX];refine⟨_,rfl,bj,_,2,_,rfl,rfl,SqL.of j3,rfl,_,rfl,_,rfl,v,_,_,_,rfl,rfl,SqL.of u.lst,yR g1,b,_,2,_,rfl,rfl,SqL.of g3,rfl,rfl,_,rfl,?_⟩;rw[vC];cases h2:decide (R[j].partner=r.partner)with
    |false=>exact onF rfl (onF rfl ⟨a,_,_,rfl,I,l,by omega⟩)
    |true=>
    refine onT rfl ⟨_,rfl,bj,_,1,_,rfl,rfl,SqL.of j3,rfl,_,rfl,_,rfl,v,_,_,_,rfl,rfl,SqL.of u.lst,yR g1,b,_,1,_,rfl,rfl,SqL.of g3,rfl,_,_,rfl,rfl,_,rfl,?_⟩;refine qE (λc2=>?_) (λc2=>?_)
    ·refine⟨_,rfl,.inl ⟨rfl,_,SqL.of l⟩,_,rfl,S,_,_,rfl,rfl,l,zlt (by rw[bYR];omega),?_⟩;have e5:(a.map λi=>V.int (i:Nat))++ [V.int (j:Nat)]=(a++ [j]).map λi=>V.int (i:Nat):=by simp
     rw[e5];refine⟨a++ [j],_,_,rfl,λx o e=>?_,yB,by rw[cQa];simp;omega⟩;rw[yJ (λz=>by rw[z,a7]at e;cases e)];exact I _ _ e
    ·exact⟨a,_,_,rfl,I,l,by omega⟩
   ·exact⟨a,_,_,rfl,I,l,by omega⟩
  ·rintro σ H3 ⟨a,o9,M,rfl,I,l,a4⟩;dsimp only[bQ2];refine x6 (λG X=>∃g':Int,G= [some (.ref v),some (.ref ca),some (.int (k:Nat)),some (.int m'),some (.int g),some (.int O),some (.ref D),some (.int g'),some (.ref S),o9,M]/\xF H X) ?rest2 (λd=>?_);case rest2=>
    rintro G H4 ⟨g',rfl,k4⟩;refine⟨_,rfl,_,rfl,z3,λp hp=>?_⟩;exact q _ _ (k4.trans (yE hp _)) ⟨p,.hang m' g',rfl,yB,trivial⟩
   refine⟨_,rfl,z0,λpn B=>⟨S,pn,_,rfl,rfl,SqL.of ((yE B (.lst [])) _ _ l),SqL.of yB,_,rfl,?_⟩⟩;have y:=yE B (.lst []);generalize upd H3 pn (.lst [])=H4 at y ⊢;by_cases n:a= []
   ·subst n;exact onF rfl (onF rfl (d _ _ ⟨goal,rfl,I.trans y⟩))
   refine onT (by cases a with|nil=>exact absurd rfl n|cons=>rfl) ⟨_,rfl,_,_,rfl,rfl,(show(0:Int)<7 by decide),_,_,rfl,rfl,_,rfl,?_⟩;refine qE (λc=>?_) (λc=>d _ _ ⟨goal,rfl,I.trans y⟩);obtain⟨g',W⟩:=aJF n (g / 7+(k:Nat));have C:=y _ _ l;have Y:(0:Int)<((a.map λi=>V.int (i:Nat)).length:Nat):=by rw[bYR];have:=cQV.mpr n;omega
   refine⟨_,rfl,_,rfl,_,_,rfl,rfl,⟨by decide,by decide⟩,_,rfl,_,_,rfl,rfl,_,rfl,S,_,rfl,.inl (SqL.of C),_,_,rfl,rfl,Y,S,_,_,_,rfl,rfl,SqL.of C,W,?_⟩;dsimp only[yX];exact d _ _ ⟨g',rfl,I.trans y⟩
 refine⟨_,rfl,z0,λpn B=>⟨D,pn,_,rfl,rfl,SqL.of ((yE B (.lst [])) _ _ Z),SqL.of yB,_,rfl,?_⟩⟩;have y:=yE B (.lst []);generalize upd H1 pn (.lst [])=H4 at y ⊢;by_cases n:free= []
 ·subst n;exact onF rfl (onF rfl (d _ _ ⟨m,rfl,k1.trans y⟩))
 refine onT (by cases free with|nil=>exact absurd rfl n|cons=>rfl) ⟨_,rfl,_,_,rfl,rfl,(show(0:Int)<5 by decide),_,_,rfl,rfl,_,rfl,?_⟩;refine qE (λc=>?_) (λc=>d _ _ ⟨m,rfl,k1.trans y⟩);obtain⟨g',W⟩:=aJF n O;have C:=y _ _ Z;have Y:(0:Int)<((free.map λi=>V.int (i:Nat)).length:Nat):=by rw[bYR];have:=cQV.mpr n;omega
 refine⟨_,rfl,_,rfl,_,rfl,D,_,rfl,.inl (SqL.of C),_,_,rfl,rfl,Y,D,_,_,_,rfl,rfl,SqL.of C,W,?_⟩;dsimp only[yX];exact d _ _ ⟨g',rfl,k1.trans y⟩
end
end Law
namespace Law
open PySem L2 PyProof.Rows
open Bk (Row Rows xS xN Ans)
open Desk (xA qC uT Wf vA stV)
theorem aWK{K:bYO}{x i:V}{H:Hp}{Q:VK}{a:Nat}{xs:List V}{j:Int}(e:x= .ref a)(d:i= .int j)(c:SqL K H a xs)(h0:0<=j)(f:j<(xs.length:Nat))(q:∀v∈xs,Q v H):aXG K x i H Q:=by
 obtain⟨k,rfl⟩:∃k:Nat,j=(k:Int):=⟨j.toNat,by omega⟩;have b:k<xs.length:=by omega
 exact⟨a,xs,_,_,e,d,c,yR (bYL b),q _ (cX5 b)⟩
theorem jZ{K:bYO}{x i:V}{H:Hp}{Q:VK}{a:Nat}{xs:List V}{j:Int}(b:x= .ref a)(e:i= .int j)(d:SqL K H a xs)(h0:0<=j)(c:j<(xs.length:Nat))(f:∀v∈xs,∃n,v= .int n)(q:∀n,V.int n∈xs->Q (.int n) H):aXG K x i H Q:=
 aWK b e d h0 c λv m=>by obtain⟨n,rfl⟩:=f v m;exact q n m
theorem aQv{K:bYO}{x i:V}{H:Hp}{Q:VK}{a:Nat}{xs:List V}{j:Int}(b:x= .ref a)(e:i= .int j)(d:SqL K H a xs)(h0:0<=j)(c:j<(xs.length:Nat))(f:∀v∈xs,∃n,v= .str n)(q:∀n,V.str n∈xs->Q (.str n) H):aXG K x i H Q:=
 aWK b e d h0 c λv m=>by obtain⟨n,rfl⟩:=f v m;exact q n m
theorem b0{b:Bool}:(0:Int)<=(if b=true then 1 else 0):=by split<;> decide
theorem b1{b:Bool}:(if b=true then(1:Int)else 0)<2:=by split<;> decide
theorem md0{x n:Int}(h:0<n):0<=x % n:=Int.emod_nonneg x (by omega)
theorem md1{x n:Int}(h:0<n):x % n<n:=Int.emod_lt_of_pos x h
structure jW(H0 H:Hp)(ma:Nat)(n:Nat):Prop where
 k:xF H0 H
 new:H0 ma=none
 ex:∃vs,H ma=some (.lst vs)/\vs.length=n/\∀v∈vs,vR H v
theorem jW.same{e H d:Hp}{f:Nat}{n:Nat}(m:jW e H f n)(k:xF H d):jW e d f n:=
 ⟨m.k.trans k,m.new,let ⟨vs,a,b,c⟩:=m.ex;⟨vs,k _ _ a,b,λv g=>(c v g).same k⟩⟩
theorem jW.push{j H:Hp}{d:Nat}{n:Nat}(m:jW j H d n){vs:List V}(e:H d=some (.lst vs)){v:V}(l:vR H v):jW j (upd H d (.lst (vs++ [v]))) d (n+1):=by
 obtain⟨k,i,r,a,b,c⟩:=m;rw[e]at a;cases a;have q:∀v,vR H v->vR (upd H d (.lst (vs++ [v]))) v:=λv ⟨p,e',h1,h2,h3⟩=>⟨p,e',h1,by rw[yJ (λz=>by rw[z,e]at h2;cases h2)];exact h2,h3⟩;have g:∀v x,vR H v->vR (upd H d x) v:=λv x ⟨p,e',h1,h2,h3⟩=>⟨p,e',h1,by rw[yJ (λz=>by rw[z,e]at h2;cases h2)];exact h2,h3⟩;refine⟨λx o h=>by rw[yJ (λz=>by rw[z,i]at h;cases h)];exact k _ _ h,i,_,yB,by simp[b],λu f=>?_⟩;rcases cQn.mp f with f|f
 ·exact g _ _ (c u f)
 ·rw[bY1.mp f];exact g _ _ l
theorem bZN{v:V}{i:Nat}{u:TS}{D:aKI}{σ:L2.St}{H:Hp}(h:u D (σ.set i (some v)) H):bKN (bKL (tC v) (yX i)) u D σ H:=h
abbrev aV4:Stmt:=xI "_law_about"
def bQJ:Sp:=λf H Q _=>∃ (d c:Nat)(e:List Nat)(R:Rows)(b:List Int)(k:Nat)(m turn:Int),f= [.ref d,.ref c,.int (k:Nat),.int m,.int turn]/\xC H d e R/\R.length<=60/\H c=some (.lst (b.map V.int))/\k<b.length/\15<=turn/\turn<24/\
 ∀ (a:Hp)(v:V),xF H a->vR a v->Q v a
section
variable {K:bYO}
theorem bZr:yN ["_law_rows","_law_cells","_law_k","_law_number","_law_turn","_law_near","_law_far","_law_base","_law_tied","_law_name","_law_way","_law_further","_law_menu","_law_stop","_law_asks"] ["_law_rows","_law_cells","_law_k","_law_number","_law_turn"] (yH aV4):=scM
theorem bXC:xQ ["_law_rows","_law_cells","_law_k","_law_number","_law_turn","_law_near","_law_far","_law_base","_law_tied","_law_name","_law_way","_law_further","_law_menu","_law_stop","_law_asks"] (yH aV4) "_law_j" ["_law_rows"] [0] {kind:= .function,names:= [(".0",.local),("_law_j",.local),("_law_rows",.free)],isGenerator:=false,isCoroutine:=false,more:= [] }:=
 lcM
seal PE PA PS PSs PT in
theorem bXP(T:vP mg)(a0:mg "int"=none)(N:FnG P w K mg base 1 "_law_good" ["_law_rows","_law_number"] Q6)(F:Fun K "_law_about" "_law_about" aV4 f fd):xH P w K mg base CX0 2 f fd ["_law_rows","_law_cells","_law_k","_law_number","_law_turn"] bQJ:=by
 have sc:=bZr;refine F.ok (k:=1) sc (λj5 A outer s H vs Q E hr h=>?_);obtain⟨Z,X,rs,R,ns,k,m,turn,rfl,hB,hR,hc,b8,j1,j2,q⟩:=h;refine⟨_,(yC (yU (i:=5) (yL yK (pv 1) (yV y3 (yV zA (pv 2) yF) (yS yO rfl T.b_len xD (yA (pv 1) yD))))) (yC (yU (i:=6) (yL yK (pv 1) (yV y3 (yV zA (pv 2) yF) (yS yO rfl T.b_len xD (yA (pv 1) yD))))) (yC (yU (i:=7) yF) (yC (y6 (x5 (xO N hr rfl (yA (pv 0) (yA (pv 3) yD)))) (yG (yU (i:=7) (yL yK (yL yK (pv 0) (pv 3)) yF))) yT) (yC (aXr (i:=8) bXC rfl sc.nd rfl rfl (zN rfl T.b_range (yA (yS yO rfl T.b_len xD (yA (pv 0) yD)) yD)) (λ_ _ _ _ _=>(wF (yM z6 (yL (show IxR _ (aXG K)from yK) (yL (show IxR _ (aXG K)from yK) (pv 1) (pv 0)) yF) x3))) (λ_ _ _ _ _=>(pv 0))) (yC (y6 (PW.pt (v8 (yM zH (pv 4) yF) (v8 (yM (wR hr.units0) (pv 8) (yZ yD)) (vL (yM aXp (yV y3 (pv 5) yF) yF))))) (yG (yU (i:=3) (yL yK (pv 8) (yV y3 (pv 6) (yS yO rfl T.b_len xD (yA (pv 8) yD)))))) yT) (yC (yU (i:=9) (yL yK (yZ (yA yP (yA yP (yA yP (yA yP (yA yP (yA (yV aQH yP yF) yD))))))) (yV y3 (pv 5) (yL yK (yZ (yA yF (yA yF yD))) (yV y3 (yL yK (pv 1) (pv 2)) yF))))) (yC (yU (i:=10) (xW wT rfl a0 uN (yA (zM zH (yV y3 (yL yK (pv 1) (pv 2)) yF) yF) yD))) (yC (yU (i:=11) (yV w6 (yV zA (pv 7) (yV y3 (pv 5) (yL yK (yZ (yA yF (yA yF yD))) (pv 10)))) (yL yK (yZ (yA yF (yA yF yD))) (pv 10)))) (yC (yU (i:=12) (yZ (yA (y8 (yA yP (yA (pv 3) yD))) (yA (y8 (yA yP (yA (pv 3) (yA (pv 11) yD)))) yD)))) (yC (y0 (v6 cQj cQr cQs xL (pv 12) (yA (y8 (yA yP (yA (pv 3) (yA (yL yK (yZ (yA yF (yA yF (yA yF (yA yF (yA (aY0 aJx yF) yD)))))) (yV y3 (pv 5) yF)) yD)))) yD))) (yC (y0 (v6 cQj cQr cQs xL (pv 12) (yA (y8 (yA yP (yA (pv 3) (yA (yL yK (yZ (yA yP (yA yP (yA yP (yA yP (yA yP (yA (yV aQH yP yF) yD))))))) (yV y3 (pv 5) yF)) yD)))) yD))) (yC (yU (i:=13) (yL yK (yZ (yA (yV w6 (yV y3 (pv 5) yF) yF) (yA (yV zA (pv 7) (yV y3 (pv 5) yF)) yD))) (xW wT rfl a0 uN (yA (zM zH (yV y3 (pv 6) yF) yF) yD)))) (yC (yU (i:=12) (yV qA (pv 12) (yZ (yA (y8 (yA yP (yA (pv 3) (yA (pv 9) yD)))) (yA (y8 (yA yP (yA (pv 3) yD))) (yA (y8 (yA yP (yA (pv 13) yD))) yD)))))) (yC (yU (i:=14) (yZ (yA (y8 (yA yP (yA (pv 3) yD))) (yA (y8 (yA yP (yA (pv 3) yD))) (yA (y8 (yA yP (yA (yV w6 (yV y3 (pv 6) yF) yF) yD))) yD))))) (yC (yU (i:=14) (yV qA (pv 14) (yZ (yA (y8 (yA yP (yA (pv 9) yD))) (yA (y8 (yA yP (yA (yV w6 (yV y3 (pv 6) yF) yF) yD))) (yA (y8 (yA yP (yA (pv 3) yD))) yD)))))) (yC (y6 (yM vQ (pv 4) yF) (yG (yQ (yL yK (pv 12) (yV w6 (pv 4) yF)))) yT) (yG (yQ (yL yK (pv 14) (yV y3 (yV zA (yV Z2 (pv 5) yF) (pv 4)) yF))))))))))))))))))))),?_⟩;have b3:ns≠ []:=λz=>by rw[z]at b8;simp at b8
 have hl:(rs.map V.ref).length=R.length:=by rw[bYR];exact hB.len
 have Y:(0:Int)<((ns.map V.int).length:Nat):=by rw[bYR];have:=cQV.mpr b3;omega
 have e2:(ns.map V.int)[k]? =some (.int ns[k]):=by rw[bY7,bYL b8];rfl
 obtain⟨d,a9⟩:=X5 b3 ((k:Nat)+1);obtain⟨l,e0⟩:=X5 b3 ((k:Nat)+2);refine⟨_,rfl,_,rfl,_,_,rfl,rfl,_,rfl,X,_,rfl,.inl (SqL.of hc),_,_,rfl,rfl,Y,X,_,_,_,rfl,rfl,SqL.of hc,a9,?_⟩;dsimp only[yX];refine⟨_,rfl,_,rfl,_,_,rfl,rfl,_,rfl,X,_,rfl,.inl (SqL.of hc),_,_,rfl,rfl,Y,X,_,_,_,rfl,rfl,SqL.of hc,e0,?_⟩;dsimp only[yX];refine bZN ?_;refine x6 (λp t=>∃bs:Int,p= [some (.ref Z),some (.ref X),some (.int (k:Nat)),some (.int m),some (.int turn),some (.int d),some (.int l),some (.int bs),none,none,none,none,none,none,none]/\t=H) ?jV (λg=>?_);case jV=>
  rintro p t ⟨bs,rfl,rfl⟩;refine⟨_,rfl,Z,_,rfl,.inl (SqL.of hB.lst),?_⟩;rw[hl];refine⟨_,rfl,by omega,by omega,λD hD=>?_⟩;rw[cQl];refine qX (λj=> !decide (zL (Bk.lk R j)=V.non)) (λk=>V.int (k:Nat)) hD (by rw[cQe];omega) (λj hj H1 R' hH G=>?_) (λk hk _ t R' hH G=>⟨_,rfl,G⟩) ?_
  ·have d8:=bYL hj;obtain⟨b,g1,g2,cp,o,B⟩:=hB.get d8;have h3:H1 Z=some (.lst (rs.map V.ref)):=by rw[hH Z (yI hB.lst hD)];exact hB.lst
   have hb:H1 b=_:=(hH b (yI o hD)).trans o;rw[Bk.wM d8]at G;exact⟨_,rfl,_,rfl,Z,_,_,_,rfl,rfl,SqL.of h3,yR g1,b,_,4,_,rfl,rfl,SqL.of hb,rfl,rfl,_,rfl,G⟩
  generalize j0:(bYW R.length).filter (λj=> !decide (zL (Bk.lk R j)=V.non))=free;have k1:=yE hD (.lst (free.map λi=>V.int (i:Nat)));have a6:upd t D (.lst (free.map λi=>V.int (i:Nat))) D=some (.lst (free.map λi=>V.int (i:Nat))):=yB;generalize upd t D (.lst (free.map λi=>V.int (i:Nat)))=H1 at k1 a6 ⊢;dsimp only[yX];refine x6 (λp H2=>∃m:Int,p= [some (.ref Z),some (.ref X),some (.int (k:Nat)),some (.int m),some (.int turn),some (.int d),some (.int l),some (.int bs),some (.ref D),none,none,none,none,none,none]/\xF t H2) ?rest2 (λg=>?_);case rest2=>
   rintro p H2 ⟨m,rfl,k2⟩;refine⟨_,_,rfl,rfl,by decide,by decide,by decide,λL i6=>⟨zn (by show 6<=100000;omega),λl6 h9=>?_⟩⟩;have e6:=yE h9 (.lst [.str "old",.str "",.str "new",.str "old files",.str "Old, ~",.str L]);have h6:upd H2 l6 (.lst [.str "old",.str "",.str "new",.str "old files",.str "Old, ~",.str L]) l6=some (.lst [.str "old",.str "",.str "new",.str "old files",.str "Old, ~",.str L]):=yB;generalize upd H2 l6 (.lst [.str "old",.str "",.str "new",.str "old files",.str "Old, ~",.str L])=H3 at e6 h6 ⊢;refine⟨_,rfl,z2,λl2 g8=>?_⟩;have e7:=yE g8 (.lst [.int 3,.int 6]);have h7:upd H3 l2 (.lst [.int 3,.int 6]) l2=some (.lst [.int 3,.int 6]):=yB;have c9:=e7 _ _ h6;have k4:=(k2.trans e6).trans e7;generalize upd H3 l2 (.lst [.int 3,.int 6])=H4 at e7 h7 c9 k4 ⊢;have c0:=k4 _ _ hc;refine⟨_,rfl,_,rfl,X,_,_,_,rfl,rfl,SqL.of c0,yR e2,_,_,rfl,rfl,(show(0:Int)<2 by decide),?_⟩;refine jZ rfl rfl (SqL.of h7) (md0 (by decide)) (md1 (by decide)) (by simp) λj hj=>?_;have i5:j=3\/j=6:=by simpa using hj
   refine⟨_,_,rfl,rfl,(show(0:Int)<j by omega),?_⟩;refine aQv rfl rfl (SqL.of c9) (md0 (by omega)) (Int.lt_of_lt_of_le (md1 (by omega)) (show j<=6 by omega)) (by simp) λe _=>?_;dsimp only[yX];refine⟨_,rfl,_,rfl,X,_,_,_,rfl,rfl,SqL.of c0,yR e2,_,_,rfl,rfl,(show(0:Int)<11 by decide),rfl,.inr ⟨_,rfl,?_⟩⟩;generalize i7:decide (V.int (ns[k] % 11)=V.int 4)=wb;dsimp only[yX];refine⟨_,rfl,_,rfl,z2,λl9 g0=>⟨_,rfl,?_⟩⟩;have e9:=yE g0 (.lst [.int 9,.int 3001]);refine jZ rfl rfl (SqL.of yB) b0 b1 (by simp) λj hj=>?_;have j3:j=9\/j=3001:=by simpa using hj
   refine⟨_,_,rfl,rfl,(show(0:Int)<j by omega),_,_,rfl,rfl,z2,λl4 e5=>⟨_,rfl,?_⟩⟩;have u:=(k4.trans e9).trans (yE e5 (.lst [.int 4,.int 1500]));refine jZ rfl rfl (SqL.of yB) b0 b1 (by simp) λj4 _=>?_;refine⟨_,_,rfl,rfl,?_⟩;generalize upd (upd H4 l9 (.lst [.int 9,.int 3001])) l4 (.lst [.int 4,.int 1500])=H5 at u ⊢;dsimp only[yX];refine⟨_,rfl,z2,λp1 h4=>⟨_,rfl,_,rfl,z3,λp2 a4=>⟨z2,λW d6=>?_⟩⟩⟩;have M1:jW t (upd (upd (upd H5 p1 (.tup [.str "loose",.int m])) p2 (.tup [.str "date",.int m,.int (bs+d % j - j4)])) W (.lst [.ref p1,.ref p2])) W 2:=by
    have a1:=yE h4 (.tup [.str "loose",.int m]);have a2:=yE a4 (.tup [.str "date",.int m,.int (bs+d % j - j4)]);have a3:=yE d6 (.lst [.ref p1,.ref p2]);refine⟨((u.trans a1).trans a2).trans a3,((u.trans a1).trans a2).fresh d6,_,yB,rfl,λv a=>?_⟩;rcases bYX.mp a with rfl|a
    ·exact⟨p1,.loose m,rfl,a3 _ _ (a2 _ _ yB),trivial⟩
    ·rw[bY1.mp a];exact⟨p2,.date m (bs+d % j - j4),rfl,a3 _ _ yB,trivial⟩
   generalize upd (upd (upd H5 p1 (.tup [.str "loose",.int m])) p2 (.tup [.str "date",.int m,.int (bs+d % j - j4)])) W (.lst [.ref p1,.ref p2])=H6 at M1 ⊢;dsimp only[yX];obtain⟨i4,b9, -, -⟩:=M1.ex;refine⟨_,rfl,.inl ⟨rfl,_,SqL.of b9⟩,_,rfl,_,rfl,zn (by show 5<=100000;omega),λl5 e8=>⟨_,rfl,_,_,rfl,rfl,(show(0:Int)<5 by decide),?_⟩⟩;refine jZ rfl rfl (SqL.of yB) (md0 (by decide)) (md1 (by decide)) (by simp) λtm _=>⟨z3,λp3 f7=>?_⟩;have a5:=(yE e8 (.lst [.int 0,.int 2,.int 6,.int 1,.int (-1)])).trans (yE f7 (.tup [.str "term",.int m,.int tm]));have d5:vR (upd (upd H6 l5 (.lst [.int 0,.int 2,.int 6,.int 1,.int (-1)])) p3 (.tup [.str "term",.int m,.int tm])) (.ref p3):=⟨p3,.term m tm,rfl,yB,trivial⟩;generalize upd (upd H6 l5 (.lst [.int 0,.int 2,.int 6,.int 1,.int (-1)])) p3 (.tup [.str "term",.int m,.int tm])=H7 at a5 d5 ⊢;have M2:=M1.same a5;have a8:=a5 _ _ b9;refine⟨W,_,_,rfl,rfl,a8,?_,?_⟩
   ·obtain⟨ws,w1,w2,_⟩:=M2.ex;rw[a8]at w1;cases w1;exact zlt (by omega)
   have M3:=M2.push a8 d5;generalize upd H7 W (.lst (i4++ [.ref p3]))=H8 at M3 ⊢;obtain⟨g6,c6, -, -⟩:=M3.ex;refine⟨_,rfl,.inl ⟨rfl,_,SqL.of c6⟩,_,rfl,_,_,rfl,rfl,by decide,by decide,by decide,λz4 i8=>⟨zn (by show 6<=100000;omega),λl7 h2=>⟨_,rfl,_,_,rfl,rfl,(show(0:Int)<6 by decide),?_⟩⟩⟩;refine aQv rfl rfl (SqL.of yB) (md0 (by decide)) (md1 (by decide)) (by simp) λM _=>⟨z3,λp4 i3=>?_⟩;have a7:=(yE h2 (.lst [.str "ann",.str "cy",.str "bo",.str "",.str "ann lee",.str z4])).trans (yE i3 (.tup [.str "copy",.int m,.str M]));have d7:vR (upd (upd H8 l7 (.lst [.str "ann",.str "cy",.str "bo",.str "",.str "ann lee",.str z4])) p4 (.tup [.str "copy",.int m,.str M])) (.ref p4):=⟨p4,.copy m M,rfl,yB,trivial⟩;generalize upd (upd H8 l7 (.lst [.str "ann",.str "cy",.str "bo",.str "",.str "ann lee",.str z4])) p4 (.tup [.str "copy",.int m,.str M])=H9 at a7 d7 ⊢;have M4:=M3.same a7;have b6:=a7 _ _ c6;refine⟨W,_,_,rfl,rfl,b6,?_,?_⟩
   ·obtain⟨ws,w1,w2,_⟩:=M4.ex;rw[b6]at w1;cases w1;exact zlt (by omega)
   have M5:=M4.push b6 d7;generalize upd H9 W (.lst (g6++ [.ref p4]))=H10 at M5 ⊢;refine⟨_,rfl,_,_,rfl,rfl,(show(0:Int)<24 by decide),_,_,rfl,rfl,_,rfl,_,rfl,_,_,rfl,rfl,(show(0:Int)<12 by decide),_,_,rfl,rfl,z2,λl8 i0=>⟨_,rfl,_,_,rfl,rfl,(show(0:Int)<3 by decide),rfl,.inr ⟨_,rfl,?_⟩⟩⟩;refine jZ rfl rfl (SqL.of yB) b0 b1 (by simp) λn _=>?_;have M6:=M5.same (yE i0 (.lst [.int (d % 24 - 2),.int (bs+d % 12)]));generalize upd H10 l8 (.lst [.int (d % 24 - 2),.int (bs+d % 12)])=H11 at M6 ⊢;dsimp only[yX];obtain⟨b4,f6,d1,h0⟩:=M6.ex;refine⟨_,rfl,_,rfl,_,rfl,z3,λx f0=>⟨_,rfl,z2,λS h8=>⟨_,rfl,z2,λC f8=>⟨z3,λb7 c7=>?_⟩⟩⟩⟩;have c1:=yE f0 (.tup [.str "file",.int m,.str e]);have c2:=yE h8 (.tup [.str "void",.int m]);have c3:=yE f8 (.tup [.str "shut",.int n]);have c4:=yE c7 (.lst [.ref x,.ref S,.ref C]);refine⟨W,b7,_,_,rfl,rfl,c4 _ _ (c3 _ _ (c2 _ _ (c1 _ _ f6))),yB,by rw[d1,cQe];show 7<=16777216;omega,λmb d0=>?_⟩;have c5:=yE d0 (.lst (b4++ [.ref x,.ref S,.ref C]));have M7:jW t (upd (upd (upd (upd (upd H11 x (.tup [.str "file",.int m,.str e])) S (.tup [.str "void",.int m])) C (.tup [.str "shut",.int n])) b7 (.lst [.ref x,.ref S,.ref C])) mb (.lst (b4++ [.ref x,.ref S,.ref C]))) mb 7:=by
    have U:=(((M6.k.trans c1).trans c2).trans c3).trans c4;refine⟨U.trans c5,U.fresh d0,_,yB,by rw[cQa,d1];rfl,λv a=>?_⟩;rcases cQn.mp a with a|a
    ·exact(h0 v a).same ((((c1.trans c2).trans c3).trans c4).trans c5)
    ·rcases bYX.mp a with rfl|a
     ·exact⟨x,.file m e,rfl,c5 _ _ (c4 _ _ (c3 _ _ (c2 _ _ yB))),trivial⟩
     ·rcases bYX.mp a with rfl|a
      ·exact⟨S,.void m,rfl,c5 _ _ (c4 _ _ (c3 _ _ yB)),trivial⟩
      ·rw[bY1.mp a];exact⟨C,.shut n,rfl,c5 _ _ (c4 _ _ yB),trivial⟩
   generalize upd (upd (upd (upd (upd H11 x (.tup [.str "file",.int m,.str e])) S (.tup [.str "void",.int m])) C (.tup [.str "shut",.int n])) b7 (.lst [.ref x,.ref S,.ref C])) mb (.lst (b4++ [.ref x,.ref S,.ref C]))=H12 at M7 ⊢;dsimp only[yX];refine⟨_,rfl,z2,λr1 e4=>⟨_,rfl,z2,λr2 h5=>⟨_,rfl,_,_,rfl,rfl,(show(0:Int)<26 by decide),_,_,rfl,rfl,z2,λr3 g9=>⟨z3,λna d4=>?_⟩⟩⟩⟩;have f1:=yE e4 (.tup [.str "state",.int m]);have f2:=yE h5 (.tup [.str "thread",.int m]);have f3:=yE g9 (.tup [.str "overdue",.int (l % 26 - 1)]);have f4:=yE d4 (.lst [.ref r1,.ref r2,.ref r3]);have M8:=(((M7.same f1).same f2).same f3).same f4;have N1:jW t (upd (upd (upd (upd H12 r1 (.tup [.str "state",.int m])) r2 (.tup [.str "thread",.int m])) r3 (.tup [.str "overdue",.int (l % 26 - 1)])) na (.lst [.ref r1,.ref r2,.ref r3])) na 3:=by
    have U:=((M7.k.trans f1).trans f2).trans f3;refine⟨U.trans f4,U.fresh d4,_,yB,rfl,λv a=>?_⟩;rcases bYX.mp a with rfl|a
    ·exact⟨r1,.state m,rfl,f4 _ _ (f3 _ _ (f2 _ _ yB)),trivial⟩
    ·rcases bYX.mp a with rfl|a
     ·exact⟨r2,.thread m,rfl,f4 _ _ (f3 _ _ yB),trivial⟩
     ·rw[bY1.mp a];exact⟨r3,.on true (l % 26 - 1),rfl,f4 _ _ yB,trivial⟩
   generalize upd (upd (upd (upd H12 r1 (.tup [.str "state",.int m])) r2 (.tup [.str "thread",.int m])) r3 (.tup [.str "overdue",.int (l % 26 - 1)])) na (.lst [.ref r1,.ref r2,.ref r3])=H13 at M8 N1 ⊢;dsimp only[yX];obtain⟨b5,g7,e1,f5⟩:=N1.ex;refine⟨_,rfl,_,rfl,z2,λI i1=>⟨_,rfl,_,_,rfl,rfl,(show(0:Int)<26 by decide),_,_,rfl,rfl,z2,λJ i2=>⟨_,rfl,z2,λy f9=>⟨z3,λb2 d9=>?_⟩⟩⟩⟩;have g1:=yE i1 (.tup [.str "letters",.str e]);have g2:=yE i2 (.tup [.str "waiting",.int (l % 26 - 1)]);have o:=yE f9 (.tup [.str "copies",.int m]);have B:=yE d9 (.lst [.ref I,.ref J,.ref y]);refine⟨na,b2,_,_,rfl,rfl,B _ _ (o _ _ (g2 _ _ (g1 _ _ g7))),yB,by rw[e1,cQe];show 6<=16777216;omega,λnb d3=>?_⟩;have g5:=yE d3 (.lst (b5++ [.ref I,.ref J,.ref y]));have M9:=((((M8.same g1).same g2).same o).same B).same g5;have N2:jW t (upd (upd (upd (upd (upd H13 I (.tup [.str "letters",.str e])) J (.tup [.str "waiting",.int (l % 26 - 1)])) y (.tup [.str "copies",.int m])) b2 (.lst [.ref I,.ref J,.ref y])) nb (.lst (b5++ [.ref I,.ref J,.ref y]))) nb 6:=by
    have U:=(((M8.k.trans g1).trans g2).trans o).trans B;refine⟨U.trans g5,U.fresh d3,_,yB,by rw[cQa,e1];rfl,λv a=>?_⟩;rcases cQn.mp a with a|a
    ·exact(f5 v a).same ((((g1.trans g2).trans o).trans B).trans g5)
    ·rcases bYX.mp a with rfl|a
     ·exact⟨I,.letters e,rfl,g5 _ _ (B _ _ (o _ _ (g2 _ _ yB))),trivial⟩
     ·rcases bYX.mp a with rfl|a
      ·exact⟨J,.on false (l % 26 - 1),rfl,g5 _ _ (B _ _ (o _ _ yB)),trivial⟩
      ·rw[bY1.mp a];exact⟨y,.copies m,rfl,g5 _ _ (B _ _ yB),trivial⟩
   generalize upd (upd (upd (upd (upd H13 I (.tup [.str "letters",.str e])) J (.tup [.str "waiting",.int (l % 26 - 1)])) y (.tup [.str "copies",.int m])) b2 (.lst [.ref I,.ref J,.ref y])) nb (.lst (b5++ [.ref I,.ref J,.ref y]))=H14 at M9 N2 ⊢;dsimp only[yX];refine⟨_,rfl,_,_,rfl,rfl,_,rfl,?_⟩;refine qE (λc=>?_) (λc=>?_)
   ·have c:turn<22:=of_decide_eq_true c;obtain⟨us,u1,u2,u3⟩:=M9.ex;refine⟨_,rfl,_,rfl,_,_,rfl,rfl,?_⟩;exact aWK rfl rfl (SqL.of u1) (by omega) (by rw[u2];show turn - 15<7;omega) λv a=>q _ _ M9.k (u3 v a)
   ·obtain⟨us,u1,u2,u3⟩:=N2.ex;refine⟨_,rfl,_,rfl,_,_,rfl,rfl,⟨by decide,by decide⟩,_,rfl,_,_,rfl,rfl,_,_,rfl,rfl,(show(0:Int)<6 by decide),?_⟩;exact aWK rfl rfl (SqL.of u1) (md0 (by decide)) (by rw[u2];exact md1 (by decide)) λv a=>q _ _ N2.k (u3 v a)
  refine⟨_,rfl,rfl,_,rfl,?_⟩;cases i9:decide (V.int turn=V.int 15)with
  |false=>exact onF rfl (onF rfl (g _ _ ⟨m,rfl,k1⟩))
  |true=>
  refine onT rfl ⟨_,rfl,z0,λpn c8=>⟨D,pn,_,rfl,rfl,SqL.of ((yE c8 (.lst [])) _ _ a6),SqL.of yB,_,rfl,?_⟩⟩;have u:=yE c8 (.lst []);generalize upd H1 pn (.lst [])=H4 at u ⊢;by_cases O:free= []
  ·subst O;exact onF rfl (onF rfl (g _ _ ⟨m,rfl,k1.trans u⟩))
  refine onT (by cases free with|nil=>exact absurd rfl O|cons=>rfl) ⟨_,rfl,_,_,rfl,rfl,(show(0:Int)<4 by decide),_,_,rfl,rfl,_,rfl,?_⟩;refine qE (λc=>?_) (λc=>g _ _ ⟨m,rfl,k1.trans u⟩);obtain⟨g',e3⟩:=aJF O l;have d2:=u _ _ a6;have a4:(0:Int)<((free.map λi=>V.int (i:Nat)).length:Nat):=by rw[bYR];have:=cQV.mpr O;omega
  refine⟨_,rfl,_,rfl,_,rfl,D,_,rfl,.inl (SqL.of d2),_,_,rfl,rfl,a4,D,_,_,_,rfl,rfl,SqL.of d2,e3,?_⟩;dsimp only[yX];exact g _ _ ⟨g',rfl,k1.trans u⟩
 refine⟨_,rfl,_,rfl,Z,rs,R,m,rfl,hB,_,rfl,?_⟩;cases h1:Bk.wO R m with
 |false=>exact onF rfl (g _ _ ⟨0,rfl,rfl⟩)
 |true=>
 obtain⟨i,r,rfl,j6,hi,a⟩:=Bk.wP h1;obtain⟨b,g1,g2,cp,o,B⟩:=hB.get hi;refine onT rfl ⟨_,rfl,_,rfl,Z,_,_,_,rfl,rfl,SqL.of hB.lst,yR g1,b,_,1,_,rfl,rfl,SqL.of o,rfl,?_⟩;dsimp only[yX];exact g _ _ ⟨r.date,rfl,rfl⟩
end
end Law
namespace Law
open PySem L2 PyProof.Rows
open Bk (Row Rows xS xN Ans)
open Desk (xA qC uT Wf vA stV)
theorem bWE:cQw "max"=some (.builtin "max"):=dk
theorem bJ4{c:TT}{t u:TS}{D:aKI}{σ:L2.St}{H:Hp}(I:Bool->Hp->Prop)(h:∀Kk:Bool->Hp->Prop,(∀b a,I b a->Kk b a)->c σ H Kk)(d:∀a,I true a->t D σ a)(e:∀a,I false a->u D σ a):bKM c t u D σ H:=
 h _ λb a i=>by
  cases b with
  |true=>exact onT rfl (d a i)
  |false=>exact onF rfl (e a i)
theorem aV8{c:TT}{t u r:TS}{D:aKI}{σ:L2.St}{H:Hp}(h:bKM c t u {D with nx:=r D} σ H):bKN (bKM c t u) r D σ H:=h
theorem p60:(0:Int)<10 ^ (60:Int).toNat:=dk
theorem c60:bYd 10 60:=⟨by decide,by decide,by decide⟩
abbrev aVk:Stmt:=xI "_law_deed_at"
def aWi:Sp:=λf H Q _=>∃ (d c:Nat)(e:List Nat)(R:Rows)(b:List Int)(k:Nat),f= [.ref d,.ref c,.int (k:Nat)]/\xC H d e R/\R.length<=60/\H c=some (.lst (b.map V.int))/\k<b.length/\
 ∀ (a:Hp)(v:V),xF H a->vR a v->Q v a
section
variable {K:bYO}
theorem bQz:yN ["_law_rows","_law_cells","_law_k","_law_near","_law_far","_law_turn","_law_number","_law_term","_law_date","_law_who","_law_twin","_law_base"] ["_law_rows","_law_cells","_law_k"] (yH aVk):=scM
seal PE PA PS PSs PT in
theorem aYM(T:vP mg)(Z:mg "int"=none)(a7:mg "max"=none)(W:FnG P w K mg base 2 "_law_good" ["_law_rows","_law_number"] Q6)(u:FnG P w K mg base 2 "_law_hanging" ["_law_rows","_law_cells","_law_k","_law_number"] aJr) (J:FnG P w K mg base 2 "_law_about" ["_law_rows","_law_cells","_law_k","_law_number","_law_turn"] bQJ) (F:Fun K "_law_deed_at" "_law_deed_at" aVk f fd):xH P w K mg base CX0 3 f fd ["_law_rows","_law_cells","_law_k"] aWi:=by
 have sc:=bQz;refine F.ok (k:=2) sc (λd2 A outer s H vs Q E hr h=>?_);obtain⟨G,g,rs,R,D,k,rfl,hB,hR,I,U,q⟩:=h;refine⟨_,(yC (yU (i:=3) (yL yK (pv 1) (yV y3 (yV zA (pv 2) yF) (yS yO rfl T.b_len xD (yA (pv 1) yD))))) (yC (yU (i:=4) (yL yK (pv 1) (yV y3 (yV zA (pv 2) yF) (yS yO rfl T.b_len xD (yA (pv 1) yD))))) (yC (yU (i:=5) (yV y3 (yV zA (yL yK (pv 1) (pv 2)) (yV aVW yF (pv 2))) yF)) (yC (yU (i:=6) (yV y3 (yV zA (pv 4) (pv 2)) (yS (aKT rfl) rfl a7 bWE (yA yF (yA (yS yO rfl T.b_len xD (yA (pv 0) yD)) yD))))) (yC (y6 (yM zH (yV y3 (yL yK (pv 1) (pv 2)) yF) yF) (yG (yU (i:=6) (yL yK (yZ (yA (aY0 aJx yF) (yA (yS yO rfl T.b_len xD (yA (pv 0) yD)) (yA (yV aQI yF yF) (yA (yV w6 (aY0 aJx yF) (yV y3 (pv 3) (yV aQI yF yF))) (yA (yV zA (yS yO rfl T.b_len xD (yA (pv 0) yD)) (yV y3 (pv 3) (yV aQI yF yF))) yD)))))) (yV y3 (pv 3) yF)))) yT) (yC (yU (i:=7) (yL yK (yZ (yA yF (yA yF (yA yF (yA yF (yA yF (yA yF yD))))))) (yV y3 (yV Z2 (pv 3) yF) yF))) (yC (y6 (yM zH (yV y3 (yL yK (pv 1) (pv 2)) yF) yF) (yG (yU (i:=7) (yL yK (yZ (yA (aY0 aJx yF) (yA yF (yA (yV w6 (aY0 aJx yF) (yV y3 (pv 4) (yV aQI yF yF))) (yA (yV y3 (pv 4) yF) yD))))) (yV y3 (pv 4) yF)))) yT) (yC (y6 (PW.pt (jU (yM vQ (pv 5) yF) (vW (yM (aX5 hr.units0) (pv 0) (yZ yD))))) (yC (yU (i:=8) (yV zA (yV w6 (yV y3 (pv 3) yF) yF) (yV aVW (yV aQI yF yF) (xW wT rfl Z uN (yA (zM zH (yV y3 (yL yK (pv 1) (pv 2)) yF) yF) yD))))) (yC (y6 (yM zH (yV y3 (yL yK (pv 1) (pv 2)) yF) yF) (yG (yU (i:=8) (yL yK (yZ (yA (yV w6 (yV y3 (pv 3) yF) yF) (yA (yV y3 (pv 3) (yV aQI yF yF)) (yA (yV w6 yF (yV y3 (pv 3) (yV aQI yF yF))) yD)))) (yV y3 (pv 4) yF)))) yT) (yC (yU (i:=9) (yL yK (yZ (yA yP (yA yP (yA yP (yA yP yD))))) (yV y3 (pv 4) yF))) (yC (y6 (yM zH (yV y3 (yL yK (pv 1) (pv 2)) yF) yF) (yC (yU (i:=10) (yV aXD (yV aXD (yV aQH yP (yV y3 (yL yK (pv 1) yF) yF)) yP) (yV aQH yP (yV w6 yF (yV y3 (yL yK (pv 1) yF) yF))))) (yG (yU (i:=9) (yL yK (yZ (yA yP (yA (pv 10) (yA (yV aQH yP yF) yD)))) (yV y3 (pv 4) yF))))) yT) (yG (yQ (y8 (yA (yL yK (yZ (yA yP (yA yP yD))) (yV y3 (yV Z2 (pv 4) yF) yF)) (yA (pv 8) (yA (pv 9) (yA (pv 7) yD))))))))))) yT) (yC (y6 (yM vQ (pv 5) yF) (yC (yU (i:=11) (yV y3 (pv 3) yF)) (yC (y6 (x5 (xO W hr rfl (yA (pv 0) (yA (pv 6) yD)))) (yG (yU (i:=11) (yV w6 (yV zA (yL yK (yL yK (pv 0) (pv 6)) yF) (yV y3 (pv 3) (yL yK (yZ (yA yF (yA yF yD))) (xW wT rfl Z uN (yA (zM zH (yV y3 (yL yK (pv 1) (pv 2)) yF) yF) yD))))) yF))) yT) (yG (yQ (y8 (yA yP (yA (pv 6) (yA (pv 11) (yA (pv 7) yD))))))))) yT) (yC (y6 (yM vQ (pv 5) yF) (yG (yQ (xO u hr rfl (yA (pv 0) (yA (pv 1) (yA (pv 2) (yA (pv 6) yD))))))) yT) (yG (yQ (xO J hr rfl (yA (pv 0) (yA (pv 1) (yA (pv 2) (yA (pv 6) (yA (pv 5) yD)))))))))))))))))),?_⟩;have S:D≠ []:=λz=>by rw[z]at U;simp at U
 have Y:(0:Int)<((D.map V.int).length:Nat):=by rw[bYR];have:=cQV.mpr S;omega
 have y:(D.map V.int)[k]? =some (.int D[k]):=by rw[bY7,bYL U];rfl
 have a8:(D.map V.int)[0]? =some (.int (D[0]'(by omega))):=by rw[bY7,bYL (by omega:0<D.length)];rfl
 obtain⟨l,a0⟩:=X5 S ((k:Nat)+1);obtain⟨M,b3⟩:=X5 S ((k:Nat)+2);refine⟨_,rfl,_,rfl,_,_,rfl,rfl,_,rfl,g,_,rfl,.inl (SqL.of I),_,_,rfl,rfl,Y,g,_,_,_,rfl,rfl,SqL.of I,a0,?_⟩;dsimp only[yX];refine⟨_,rfl,_,rfl,_,_,rfl,rfl,_,rfl,g,_,rfl,.inl (SqL.of I),_,_,rfl,rfl,Y,g,_,_,_,rfl,rfl,SqL.of I,b3,?_⟩;dsimp only[yX];refine⟨_,rfl,_,rfl,g,_,_,_,rfl,rfl,SqL.of I,yR y,_,rfl,_,_,rfl,rfl,.inl ⟨by decide,by decide⟩,_,_,rfl,rfl,_,_,rfl,rfl,(show(0:Int)<24 by decide),?_⟩;dsimp only[yX];obtain⟨turn,o⟩:∃turn:Int,turn=(D[k]+5*(k:Nat)) % 24:=⟨_,rfl⟩;have c9:0<=turn:=by rw[o];exact md0 (by decide)
 have a5:turn<24:=by rw[o];exact md1 (by decide)
 rw[<- o];refine⟨_,rfl,_,rfl,_,_,rfl,rfl,_,rfl,G,_,rfl,.inl (SqL.of hB.lst),_,_,rfl,_,_,rfl,rfl,?_,?_⟩
 ·show(0:Int)<(if _ then _ else _);split<;> omega
 dsimp only[yX];refine x6 (λe B=>∃m:Int,e= [some (.ref G),some (.ref g),some (.int (k:Nat)),some (.int l),some (.int M),some (.int turn),some (.int m),none,none,none,none,none]/\xF H B) ?jV (λa=>?_);case jV=>
  rintro e H1 ⟨m,rfl,k1⟩;refine⟨zn (by show 6<=100000;omega),λl6 b9=>⟨_,rfl,_,_,rfl,rfl,⟨by decide,by decide⟩,_,_,rfl,rfl,(show(0:Int)<6 by decide),?_⟩⟩;refine jZ rfl rfl (SqL.of yB) (md0 (by decide)) (md1 (by decide)) (by simp) λt0 _=>?_;have k2:=k1.trans (yE b9 (.lst [.int 0,.int 2,.int 1,.int 5,.int 3,.int 7]));generalize upd H1 l6 (.lst [.int 0,.int 2,.int 1,.int 5,.int 3,.int 7])=H2 at k2 ⊢;have c3:=k2 _ _ I;dsimp only[yX];refine x6 (λe B=>∃t:Int,e= [some (.ref G),some (.ref g),some (.int (k:Nat)),some (.int l),some (.int M),some (.int turn),some (.int m),some (.int t),none,none,none,none]/\xF H B) ?rest2 (λa=>?_);case rest2=>
   rintro e H3 ⟨t,rfl,k3⟩;have c6:=k3 _ _ I;have c0:=hB.same k3;refine aV8 (bJ4 (λb B=>xF H B) ?_ ?_ ?_)
   ·intro Kk hK;refine⟨_,rfl,_,_,rfl,rfl,_,rfl,?_⟩;refine qE (λc=>hK _ _ k3) (λc=>?_);exact⟨_,rfl,z0,λpn b5=>⟨G,pn,_,rfl,rfl,SqL.of ((yE b5 (.lst [])) _ _ c0.lst),SqL.of yB,_,rfl,hK _ _ (k3.trans (yE b5 _))⟩⟩
   ·intro H4 O;have C:=O _ _ I;refine⟨_,rfl,_,_,rfl,rfl,(show(0:Int)<20 by decide),_,_,rfl,rfl,_,_,rfl,rfl,⟨by decide,by decide,by decide⟩,_,rfl,_,rfl,g,_,_,_,rfl,rfl,SqL.of C,yR y,_,_,rfl,rfl,(show(0:Int)<37 by decide),rfl,.inr ⟨_,rfl,_,_,rfl,rfl,.inl ⟨dk,dk⟩,_,_,rfl,rfl,?_⟩⟩;dsimp only[yX];refine x6 (λe B=>∃d:Int,e= [some (.ref G),some (.ref g),some (.int (k:Nat)),some (.int l),some (.int M),some (.int turn),some (.int m),some (.int t),some (.int d),none,none,none]/\xF H B) ?rest3 (λa=>?_);case rest3=>
     rintro e H5 ⟨d,rfl,k5⟩;refine⟨zn (by show 4<=100000;omega),λl4 b7=>⟨_,rfl,_,_,rfl,rfl,(show(0:Int)<4 by decide),?_⟩⟩;refine aQv rfl rfl (SqL.of yB) (md0 (by decide)) (md1 (by decide)) (by simp) λa9 _=>?_;have k6:=k5.trans (yE b7 (.lst [.str "ann",.str "bo",.str "ann",.str ""]));generalize upd H5 l4 (.lst [.str "ann",.str "bo",.str "ann",.str ""])=H6 at k6 ⊢;have a1:=k6 _ _ I;dsimp only[yX];refine x6 (λe B=>∃ (a3:Str)(a6:Option V),e= [some (.ref G),some (.ref g),some (.int (k:Nat)),some (.int l),some (.int M),some (.int turn),some (.int m),some (.int t),some (.int d),some (.str a3),a6,none]/\xF H B) ?rest4 (λa=>?_);case rest4=>
      rintro e H7 ⟨a3,a6,rfl,k7⟩;refine⟨z2,λl2 a2=>⟨_,rfl,_,_,rfl,rfl,⟨by decide,by decide⟩,_,_,rfl,rfl,(show(0:Int)<2 by decide),?_⟩⟩;refine aQv rfl rfl (SqL.of yB) (md0 (by decide)) (md1 (by decide)) (by simp) λa4 b2=>?_;have hw:a4="in"\/a4="out":=by simpa using b2
      refine⟨_,rfl,_,rfl,_,rfl,z4,λp hp=>?_⟩;exact q _ _ ((k7.trans (yE a2 _)).trans (yE hp _)) ⟨p,.enter a4 d a3 t,rfl,yB,hw⟩
     refine⟨_,rfl,_,rfl,g,_,_,_,rfl,rfl,SqL.of a1,yR y,_,_,rfl,rfl,(show(0:Int)<13 by decide),rfl,_,rfl,?_⟩;refine qE (λc=>?_) (λc=>a _ _ ⟨a9,none,rfl,k6⟩);have X:∀x:Int,0<=x % 40/\x % 40<=39:=λx=>⟨md0 (by decide),by have:=md1 (x:=x) (n:=40) (by decide);omega⟩;refine⟨_,rfl,g,_,_,_,rfl,rfl,SqL.of a1,yR (j:=0) a8,_,_,rfl,rfl,(show(0:Int)<40 by decide),_,_,rfl,rfl,by decide,(X _).1,by have:=(X (D[0]'(by omega))).2;omega,λza c1=>?_⟩;refine⟨_,_,rfl,rfl,by rw[cQe];show za.length+1<=_;omega,?_⟩;refine⟨_,rfl,g,_,_,_,rfl,rfl,SqL.of a1,yR (j:=0) a8,_,_,rfl,rfl,(show(0:Int)<40 by decide),_,_,rfl,rfl,_,_,rfl,rfl,by decide,by have:=(X (D[0]'(by omega))).2;omega,by have:=(X (D[0]'(by omega))).1;omega,λzb c8=>?_⟩;have c5:(za++("y":Str)).length<=101:=by
      show(za.cps++_).size<=101;rw[Array.size_append];have:za.cps.size<=100:=c1;have:("y":Str).cps.size=1:=by decide
      omega
     refine⟨_,_,rfl,rfl,by rw[cQe];omega,?_⟩;dsimp only[yX];refine⟨_,rfl,_,_,rfl,rfl,by decide,by decide,by decide,λzc c4=>⟨z3,λl3 N=>⟨_,rfl,_,_,rfl,rfl,(show(0:Int)<3 by decide),?_⟩⟩⟩;refine aQv rfl rfl (SqL.of yB) (md0 (by decide)) (md1 (by decide)) (by simp) λb4 _=>?_;dsimp only[yX];exact a _ _ ⟨b4,_,rfl,k6.trans (yE N _)⟩
    refine⟨_,rfl,_,rfl,g,_,_,_,rfl,rfl,SqL.of C,yR y,_,_,rfl,rfl,(show(0:Int)<37 by decide),rfl,_,rfl,?_⟩;refine qE (λc=>?_) (λc=>a _ _ ⟨_,rfl,O⟩);refine⟨_,rfl,_,_,rfl,rfl,(show(0:Int)<2001 by decide),_,_,rfl,rfl,_,rfl,_,_,rfl,rfl,c60,_,_,rfl,rfl,p60,_,rfl,_,_,rfl,rfl,c60,_,_,rfl,rfl,p60,_,_,rfl,rfl,z3,λl3 N=>⟨_,rfl,_,_,rfl,rfl,(show(0:Int)<3 by decide),?_⟩⟩;refine jZ rfl rfl (SqL.of yB) (md0 (by decide)) (md1 (by decide)) (by simp) λd1 _=>?_;dsimp only[yX];exact a _ _ ⟨d1,rfl,O.trans (yE N _)⟩
   ·intro H4 O;have C:=O _ _ I;have L:=hB.same O;dsimp only[bQ2];refine⟨_,rfl,_,_,rfl,rfl,_,rfl,?_⟩;refine qE (λc=>?_) (λc=>?_)
    ·refine⟨_,rfl,_,_,rfl,rfl,(show(0:Int)<20 by decide),?_⟩;dsimp only[yX];refine x6 (λe B=>∃bs:Int,e= [some (.ref G),some (.ref g),some (.int (k:Nat)),some (.int l),some (.int M),some (.int turn),some (.int m),some (.int t),none,none,none,some (.int bs)]/\xF H B) ?rest5 (λa=>?_);case rest5=>
      rintro e H5 ⟨bs,rfl,k5⟩;refine⟨_,rfl,_,rfl,_,rfl,z4,λp hp=>?_⟩;exact q _ _ (k5.trans (yE hp _)) ⟨p,.reply m bs t,rfl,yB,trivial⟩
     refine⟨_,rfl,_,rfl,G,rs,R,m,rfl,L,_,rfl,?_⟩;cases h1:Bk.wO R m with
     |false=>exact onF rfl (a _ _ ⟨_,rfl,O⟩)
     |true=>
     obtain⟨i,r,rfl,c7,hi,hv⟩:=Bk.wP h1;obtain⟨b,g1,g2,cp,g3,g4⟩:=L.get hi;refine onT rfl ⟨_,rfl,_,rfl,G,_,_,_,rfl,rfl,SqL.of L.lst,yR g1,b,_,1,_,rfl,rfl,SqL.of g3,rfl,_,rfl,z2,λl2 a2=>?_⟩;have e2:=yE a2 (.lst [.int 7,.int 3000]);have b8:=e2 _ _ C;refine⟨_,rfl,_,rfl,g,_,_,_,rfl,rfl,SqL.of b8,yR y,_,_,rfl,rfl,(show(0:Int)<11 by decide),rfl,.inr ⟨_,rfl,?_⟩⟩;refine jZ rfl rfl (SqL.of yB) b0 b1 (by simp) λj hj=>?_;have d0:j=7\/j=3000:=by simpa using hj
     refine⟨_,_,rfl,rfl,(show(0:Int)<j by omega),_,_,rfl,rfl,_,_,rfl,rfl,?_⟩;dsimp only[yX];exact a _ _ ⟨_,rfl,O.trans e2⟩
    ·have c:¬turn<12:=of_decide_eq_false (Bool.eq_false_iff.mpr c);refine⟨_,rfl,_,_,rfl,rfl,_,rfl,?_⟩;refine qE (λc2=>?_) (λc2=>?_)
     ·exact⟨_,rfl,_,rfl,_,rfl,_,rfl,G,g,rs,R,D,k,m,rfl,L,hR,C,S,λB v k5 hd=>q _ _ (O.trans k5) hd⟩
     ·have c2:¬turn<15:=of_decide_eq_false (Bool.eq_false_iff.mpr c2);exact⟨_,rfl,_,rfl,_,rfl,_,rfl,_,rfl,G,g,rs,R,D,k,m,turn,rfl,L,hR,C,U,by omega,a5,λB v k5 hd=>q _ _ (O.trans k5) hd⟩
  refine⟨_,rfl,_,rfl,g,_,_,_,rfl,rfl,SqL.of c3,yR y,_,_,rfl,rfl,(show(0:Int)<29 by decide),rfl,_,rfl,?_⟩;refine qE (λc=>?_) (λc=>a _ _ ⟨t0,rfl,k2⟩);refine⟨_,rfl,_,rfl,_,rfl,_,_,rfl,rfl,c60,_,_,rfl,rfl,p60,_,_,rfl,rfl,_,rfl,_,_,rfl,rfl,(show(0:Int)<990 by decide),z4,λl3 N=>⟨_,rfl,_,_,rfl,rfl,(show(0:Int)<4 by decide),?_⟩⟩;refine jZ rfl rfl (SqL.of yB) (md0 (by decide)) (md1 (by decide)) (by simp) λt1 _=>?_;dsimp only[yX];exact a _ _ ⟨t1,rfl,k2.trans (yE N _)⟩
 refine⟨_,rfl,_,rfl,g,_,_,_,rfl,rfl,SqL.of I,yR y,_,_,rfl,rfl,(show(0:Int)<23 by decide),rfl,_,rfl,?_⟩;refine qE (λc=>?_) (λc=>a _ _ ⟨_,rfl,xF.refl _⟩);refine⟨_,rfl,_,rfl,G,_,rfl,.inl (SqL.of hB.lst),_,_,rfl,rfl,⟨by decide,by decide,by decide⟩,_,rfl,_,rfl,_,_,rfl,rfl,c60,_,_,rfl,rfl,p60,_,_,rfl,rfl,_,rfl,G,_,rfl,.inl (SqL.of hB.lst),_,rfl,_,_,rfl,rfl,c60,_,_,rfl,rfl,p60,_,_,rfl,rfl,zn (by show 5<=100000;omega),λl5 b6=>⟨_,rfl,_,_,rfl,rfl,(show(0:Int)<5 by decide),?_⟩⟩;refine jZ rfl rfl (SqL.of yB) (md0 (by decide)) (md1 (by decide)) (by simp) λm1 _=>?_;dsimp only[yX];exact a _ _ ⟨m1,rfl,yE b6 _⟩
end
end Law
namespace Law
open PySem L2 PyProof.Rows
open Bk (Row Rows xS xN Ans)
open Desk (xA qC uT Wf Up Run xU wX)
abbrev aV6:Stmt:=xI "_law_story"
def aXa:Sp:=λc H Q _=>∃ (j:Nat)(f:List Int),c= [.ref j]/\H j=some (.lst (f.map V.int))/\f.length<=40/\
 ∀ (b:Hp)(t k i:Nat)(g:List Nat)(d:List xN)(c:List V)(h:List Ans)(R:Rows)(S:List Int),xF H b->b t=some (.tup [.ref k,.ref i])->xU b k g d->b i=some (.lst c)->cQI (λv a=>qC [] b a v) c h->Run [] [] d h R S->(∀e∈d,Wf e)->d.length<=f.length+3->Q (.ref t) b
theorem Mid.start{H l c m:Hp}{q sa ds us:Nat}(g:LGo H q sa [] [] l [])(i:List xN)(a:List Nat)(k:xF l c)(p:l ds=none)(t:c ds=some (.lst (a.map V.ref)))(n:xF c m)(f:c us=none)(v:m us=some (.lst []))(w:∀e∈i,Wf e)(len:a.length=i.length) (r:∀ (j:Nat)(d:Nat)(e:xN),a[j]? =some d->i[j]? =some e->c d=some (.tup (xA e))):Mid H q sa ds us i a 0 m:=by
 have ne:ds≠us:=λz=>by rw[<- z,t]at f;cases f
 obtain⟨R,S,s,_⟩:=g.ex;have d1:∀ {x},l x=none->x≠q/\x≠sa:=λ{x} h=>⟨λz=>(by rw[z,s.book.lst]at h;cases h),λz=>(by rw[z,s.shut]at h;cases h)⟩;refine⟨ne,w,len,λj d e y u=>n _ _ (r j d e y u),[],[],[],(g.same k).same n,⟨n _ _ t,g.keep.fresh p,(d1 p).1,(d1 p).2,by simp,λb o=>by simp at o⟩,⟨v,g.keep.fresh (k.fresh f),(d1 (k.fresh f)).1,(d1 (k.fresh f)).2,by simp,λb o=>by simp at o⟩,.nil⟩
section
variable {K:bYO}
theorem bZI:yN ["_law_cells","_law_rows","_law_shut","_law_deeds","_law_dues","_law_k","_law_deed"] ["_law_cells"] (yH aV6):=scM
theorem bXE:xQ ["_law_cells","_law_rows","_law_shut","_law_deeds","_law_dues","_law_k","_law_deed"] (yH aV6) "_law_deed" ["_law_rows","_law_shut"] [1,2] {kind:= .function,names:= [(".0",.local),("_law_deed",.local),("_law_done_by",.globalImplicit),("_law_rows",.free),("_law_shut",.free)],isGenerator:=false,isCoroutine:=false,more:= [] }:=
 lcM
seal PE PA PS PSs PT in
theorem bX6(T:vP mg)(l:FnG P w K mg base 5 "_law_done_by" ["_law_rows","_law_shut","_law_deed"] aXL)(B:FnG P w K mg base 5 "_law_deed_at" ["_law_rows","_law_cells","_law_k"] aWi)(F:Fun K "_law_story" "_law_story" aV6 f fd):xH P w K mg base CX0 6 f fd ["_law_cells"] aXa:=by
 have sc:=bZI;refine F.ok (k:=5) sc (λd2 A outer s H vs Q E hr h=>?_);obtain⟨ca,ns,rfl,hc,hn,q⟩:=h;refine⟨_,(yC (yU (i:=1) (yZ yD)) (yC (yU (i:=2) (yZ yD)) (yC (yU (i:=3) (yZ yD)) (yC (yU (i:=4) (yZ yD)) (yC (y6 (PW.pt (v8 (yM (wR hr.units0) (pv 0) (yZ yD)) (vL (yM zH (yV y3 (yL yK (pv 0) yF) yF) yF)))) (yC (yU (i:=3) (yZ (yA (y8 (yA yP (yA yF (yA yP (yA yF yD))))) (yA (y8 (yA yP (yA yF (yA yF (yA yF yD))))) (yA (y8 (yA yP (yA yF (yA yF yD)))) yD))))) (yG (aXr (i:=4) bXE rfl sc.nd rfl rfl (xR (pv 3)) (λ_ _ _ _ _=>vB) (λ_ _ _ _ _=>(xO l hr rfl (yA (pv 1) (yA (pv 2) (yA (pv 0) yD)))))))) yT) (yC (wL cQF rfl (zN rfl T.b_range (yA (yS yO rfl T.b_len xD (yA (pv 0) yD)) yD)) (xE (i:=5)) (yC (yU (i:=6) (xO B hr rfl (yA (pv 1) (yA (pv 0) (yA (pv 5) yD))))) (yC (y0 (v6 cQj cQr cQs xL (pv 3) (yA (pv 6) yD))) (yG (y0 (v6 cQj cQr cQs xL (pv 4) (yA (xO l hr rfl (yA (pv 1) (yA (pv 2) (yA (pv 6) yD)))) yD))))))) (yG (yQ (y8 (yA (pv 3) (yA (pv 4) yD))))))))))),?_⟩;refine⟨z0,λU c3=>?_⟩;dsimp only[yX];refine⟨z0,λsa b6=>?_⟩;dsimp only[yX];have g0:=LGo.start c3 b6;generalize upd (upd H U (.lst [])) sa (.lst [])=H2 at g0 ⊢;refine⟨z0,λC b2=>?_⟩;dsimp only[yX];refine⟨z0,λG b3=>?_⟩;dsimp only[yX];have k3:=yE b2 (.lst []);have k4:=yE b3 (.lst []);have M0:Mid H U sa C G [] [] 0 (upd (upd H2 C (.lst [])) G (.lst [])):=Mid.start g0 [] [] k3 b2 yB k4 b3 yB (λe h=>by simp at h) rfl (λj d e h=>by simp at h);have gk:=g0.same (k3.trans k4);generalize upd (upd H2 C (.lst [])) G (.lst [])=H4 at M0 gk k4 ⊢;have a9:=M0.keep _ _ hc;refine x6 (λσ' W=>∃ (C G:Nat)(x:List xN)(b:List Nat),σ'= [some (.ref ca),some (.ref U),some (.ref sa),some (.ref C),some (.ref G),none,none]/\Mid H U sa C G x b x.length W/\x.length<=3) ?jV (λa0=>?_);case jV=>
  rintro σ' H5 ⟨C,G,x,b,rfl,M5,h3⟩;refine⟨_,rfl,ca,_,rfl,.inl (SqL.of (M5.keep _ _ hc)),?_⟩;rw[bYR];refine⟨_,rfl,by omega,by omega,?_⟩;rw[cQl];refine wV (λt σ H6=>∃ (x:List xN)(b:List Nat)(o5 o6:Option V),σ= [some (.ref ca),some (.ref U),some (.ref sa),some (.ref C),some (.ref G),o5,o6]/\Mid H U sa C G x b x.length H6/\x.length<=3+t) ?_ ?_ ?_
  ·exact⟨x,b,none,none,rfl,M5,by omega⟩
  ·rintro k σ H6 hk ⟨x,b,o5,o6,rfl,M6,c5⟩;rw[cX9];dsimp only[yX];obtain⟨rs,as,vs,g6,s6,u6,p6⟩:=M6.ex;obtain⟨R,S,hL,hu,c2,O⟩:=g6.ex;have b8:=hu.r;rw[cQT]at b8;refine⟨_,rfl,_,rfl,_,rfl,U,ca,rs,R,ns,k,rfl,hL.book,by omega,M6.keep _ _ hc,hk,λH7 v k7 c7=>?_⟩;obtain⟨p,e,rfl,hp,hw⟩:=c7;dsimp only[yX];have M7:=M6.same k7;have b4:=k7 _ _ s6.at_;refine⟨_,rfl,.inl ⟨rfl,_,SqL.of b4⟩,_,rfl,C,_,_,rfl,rfl,b4,zlt (by rw[bYR,M6.len];omega),?_⟩;have el:b.map V.ref++ [V.ref p]=(b++ [p]).map V.ref:=by simp
   rw[el];have M8:=M7.push rfl hp hw;generalize upd H7 C (.lst ((b++ [p]).map V.ref))=H8 at M8 ⊢;obtain⟨d0,d1,c9,g8,s8,u8,p8⟩:=M8.ex;have Z:(b++ [p])[x.length]? =some p:=by rw[<- M6.len,bY9 (bYT _),cQ4];rfl
   have Y:(x++ [e])[x.length]? =some e:=by rw[bY9 (bYT _),cQ4];rfl
   refine⟨_,rfl,.inl ⟨rfl,_,SqL.of u8.at_⟩,_,rfl,_,rfl,_,rfl,M8.next (by omega) Z Y λv H9 ws _ a6 b7 M9=>⟨G,_,_,rfl,rfl,a6,zlt (by omega),x++ [e],b++ [p],_,_,rfl,?_,by rw[cQa];simp;omega⟩⟩;rw[cQa];exact M9
  ·rintro σ H6 ⟨x,b,o5,o6,rfl,M6,c5⟩;refine⟨_,rfl,_,rfl,z2,λt ht=>?_⟩;have k6:=yE ht (.tup [.ref C,.ref G]);have M7:=M6.same k6;obtain⟨rs,as,vs,g7,s7,u7,p7⟩:=M7.ex;obtain⟨R,S,hL,hu,c2,O⟩:=g7.ex;rw[cQT]at O;exact q _ t C G b x vs as R S M7.keep yB ⟨s7.at_,M7.len,M7.at_⟩ u7.at_ (wX (λv a z=>aQb z λp u n e=>⟨by simp,e⟩) p7) O M7.wf (by omega)
 refine⟨_,rfl,z0,λpn b1=>⟨ca,pn,_,rfl,rfl,SqL.of ((yE b1 (.lst [])) _ _ a9),SqL.of yB,_,rfl,?_⟩⟩;have k5:=yE b1 (.lst []);generalize upd H4 pn (.lst [])=H5 at k5 ⊢;have a5:∀W,xF H4 W->_:=λW k=>a0 [some (.ref ca),some (.ref U),some (.ref sa),some (.ref C),some (.ref G),none,none] W ⟨C,G,[],[],rfl,M0.same k,by simp⟩;by_cases X:ns= []
 ·subst X;exact onF rfl (onF rfl (a5 _ k5))
 have c6:(ns.map V.int)[0]? =some (.int (ns[0]'(cQV.mpr X))):=by rw[bY7,bYL (cQV.mpr X)];rfl
 refine onT (by cases ns with|nil=>exact absurd rfl X|cons=>rfl) ⟨_,rfl,ca,_,_,_,rfl,rfl,SqL.of (k5 _ _ a9),yR (j:=0) c6,_,_,rfl,rfl,(show(0:Int)<5 by decide),rfl,_,rfl,?_⟩;refine qE (λc=>?_) (λc=>a5 _ k5);refine⟨z4,λI c4=>⟨z4,λJ b5=>⟨z3,λL c0=>⟨z3,λdl b0=>?_⟩⟩⟩⟩;have a1:=yE c4 (.tup (xA (.enter "in" 4 "ann" 2)));have a2:=yE b5 (.tup (xA (.reply 0 4 1)));have a3:=yE c0 (.tup (xA (.hang 0 1)));have a4:=yE b0 (.lst ([I,J,L].map V.ref));have g5:=((gk.same k5).same a1).same (a2.trans a3);have e1:=a4 _ _ (a3 _ _ (a2 _ _ (yB (H:=H5) (a:=I) (o:= .tup (xA (.enter "in" 4 "ann" 2))))));have e2:=a4 _ _ (a3 _ _ (yB (H:=upd H5 I (.tup (xA (.enter "in" 4 "ann" 2)))) (a:=J) (o:= .tup (xA (.reply 0 4 1)))));have e3:=a4 _ _ (yB (H:=upd (upd H5 I (.tup (xA (.enter "in" 4 "ann" 2)))) J (.tup (xA (.reply 0 4 1)))) (a:=L) (o:= .tup (xA (.hang 0 1))));have e4:=yB (H:=upd (upd (upd H5 I (.tup (xA (.enter "in" 4 "ann" 2)))) J (.tup (xA (.reply 0 4 1)))) L (.tup (xA (.hang 0 1)))) (a:=dl) (o:= .lst ([I,J,L].map V.ref));have c1:∀D,upd (upd (upd (upd H5 I (.tup (xA (.enter "in" 4 "ann" 2)))) J (.tup (xA (.reply 0 4 1)))) L (.tup (xA (.hang 0 1)))) dl (.lst ([I,J,L].map V.ref)) D=none->Mid H U sa dl D [.enter "in" 4 "ann" 2,.reply 0 4 1,.hang 0 1] [I,J,L] 0 (upd (upd (upd (upd (upd H5 I (.tup (xA (.enter "in" 4 "ann" 2)))) J (.tup (xA (.reply 0 4 1)))) L (.tup (xA (.hang 0 1)))) dl (.lst ([I,J,L].map V.ref))) D (.lst [])):=λD hD=>by
  refine Mid.start g5 _ _ a4 b0 e4 (yE hD (.lst [])) hD yB (λe he=>?_) rfl (λj d e Z Y=>?_)
  ·simp only[bYX,List.mem_nil_iff,or_false]at he;rcases he with rfl|rfl|rfl
   ·exact .inl rfl
   ·trivial
   ·trivial
  ·match j,Z,Y with
   |0,Z,Y=>cases Z;cases Y;exact e1
   |1,Z,Y=>cases Z;cases Y;exact e2
   |2,Z,Y=>cases Z;cases Y;exact e3
 dsimp only[yX];refine⟨_,rfl,dl,rfl,⟨_,SqL.of e4⟩,λD hD=>?_⟩;have M6:=c1 D hD;refine⟨λi m ys W=>m=3 - i/\i<=3/\W D=some (.lst ys)/\Mid H U sa dl D [.enter "in" 4 "ann" 2,.reply 0 4 1,.hang 0 1] [I,J,L] i W,⟨3,rfl,by omega,yB,M6⟩,?_⟩;rintro i m ys W ⟨rfl,hi,a8,M⟩;refine⟨a8,?_⟩;obtain⟨rs,as,vs,g,s1,s2,p⟩:=M.ex;by_cases N:i<3
 ·have a7:([I,J,L]:List Nat)[i]? =some ([I,J,L][i]'(by simpa using N)):=bYL (by simpa using N);have c8:([.enter "in" 4 "ann" 2,.reply 0 4 1,.hang 0 1]:List xN)[i]? =some (([.enter "in" 4 "ann" 2,.reply 0 4 1,.hang 0 1]:List xN)[i]'(by simpa using N)):=bYL (by simpa using N);refine .inr ⟨⟨_,_,SqL.of s1.at_,by rw[bY7,a7];rfl⟩,λv H7 yl=>?_⟩;obtain⟨rfl,y⟩:=yl;have hv:=y _ (SqL.of s1.at_);rw[bY7,a7]at hv;cases hv;refine⟨_,rfl,_,rfl,_,rfl,?_⟩;refine M.next (by omega) a7 c8 λv H8 ws b9 a6 b7 M8=>?_;have ey:ys=ws:=by rw[b9]at a8;cases a8;rfl
  subst ey;exact⟨by rw[cQe];omega,a6,3 - (i+1),by omega,rfl,N,yB,M8⟩
 ·have:i=3:=by omega
  subst this;refine .inl ⟨⟨_,SqL.of s1.at_,by simp⟩,?_⟩;exact a0 _ _ ⟨dl,D,_,_,rfl,M,by simp⟩
end
end Law
namespace Alike
open PySem L2 PyProof.Rows
open Law (xI)
abbrev aY8:Stmt:=xI "_law_alike"
abbrev bVP:Stmt:=xI "_law_room"
abbrev bQq:Stmt:=xI "_law_whole"
theorem xD:cQw "len"=some (.builtin "len"):=dk
theorem yY:cQw "isinstance"=some (.builtin "isinstance"):=dk
theorem uN:cQw "int"=some (.type "int"):=dk
theorem aQn:cQw "str"=some (.type "str"):=dk
theorem aJI:cQw "bool"=some (.type "bool"):=dk
theorem wB:cQw "list"=some (.type "list"):=dk
theorem w8:cQw "tuple"=some (.type "tuple"):=dk
structure vP(mg:Str->Option bYM):Prop where
 b_len:mg "len"=none
 b_sorted:mg "sorted"=none
 b_isinstance:mg "isinstance"=none
 b_int:mg "int"=none
 b_str:mg "str"=none
 b_bool:mg "bool"=none
 b_list:mg "list"=none
 b_tuple:mg "tuple"=none
 b_range:mg "range"=none
def bQZ:Sp:=λa H Q _=>∃n,a= [.int n]/\Q (.bl true) H
def bJz(K:bYO):Sp:=λc H Q _=>∃ (a:Nat)(b:List Int)(x y:Int),c= [.ref a,.int x,.int y]/\SqL K H a (b.map V.int)/\b.length<=63/\Q (.int x) H
section
variable {K:bYO}
theorem bZM:yN ["_law_found"] ["_law_found"] (yH bQq):=scM
theorem bZa(T:vP mg)(F:Fun K "_law_whole" "_law_whole" bQq f fd):xH P w K mg base CX0 1 f fd ["_law_found"] bQZ:=by
 have a:=bZM;refine F.ok (k:=0) a (λb A outer s H c Q E d h=>?_);obtain⟨n,rfl,q⟩:=h;refine⟨_,(yG (yQ (aVZ (yS zB rfl T.b_isinstance yY (yA (pv 0) (yA (xV (v:= .ty "int") rfl T.b_int uN rfl) yD))) (aJb (bJr (yS zB rfl T.b_isinstance yY (yA (pv 0) (yA (xV (v:= .ty "bool") rfl T.b_bool aJI rfl) yD)))))))),?_⟩;refine⟨_,rfl,_,"int",_,_,rfl,.int n,aXA _,_,rfl,onT rfl ?_⟩;exact⟨_,rfl,_,"bool",_,_,rfl,.int n,qG _,_,rfl,q⟩
theorem bV3:yN ["_law_script","_law_most","_law_bound"] ["_law_script","_law_most","_law_bound"] (yH bVP):=scM
theorem bVt(T:vP mg)(F:Fun K "_law_room" "_law_room" bVP f fd):xH P w K mg base CX0 1 f fd ["_law_script","_law_most","_law_bound"] (bJz K):=by
 have b:=bV3;refine F.ok (k:=0) b (λc A outer s H j Q E g h=>?_);obtain⟨a,i,x,y,rfl,d,e,q⟩:=h;refine⟨_,(yC (y6 (yM aXp (yS yO rfl T.b_len xD (yA (pv 0) yD)) yF) (yG (yQ (pv 2))) yT) (yG (yQ (pv 1)))),?_⟩;refine⟨_,rfl,a,_,rfl,.inl d,_,_,rfl,rfl,_,rfl,onF ?_ ⟨_,rfl,q⟩⟩;rw[bYR];exact decide_eq_false (by omega)
end
def Sq(K:bYO)(H:Hp)(a:Nat)(xs:List V):Prop:=H a=some (.lst xs)\/H a=some (.tup xs)
theorem Sq.same{K:bYO}{H b:Hp}{a:Nat}{xs:List V}(k:xF H b)(h:Sq K H a xs):Sq K b a xs:=h.imp (k _ _) (k _ _)
theorem Sq.ix{K:bYO}{H:Hp}{a:Nat}{xs:List V}{i:Nat}{v:V}{Q:VK}(h:Sq K H a xs)(e:xs[i]? =some v)(q:Q v H):rIx K (.ref a) (.int (i:Int)) H Q:=by
 rcases h with h|h
 ·exact .inl ⟨a,xs,_,v,rfl,rfl,SqL.of h,yR e,q⟩
 ·exact .inr (.inl ⟨a,xs,_,v,rfl,rfl,SqT.of h,yR e,q⟩)
def x2:List (Nat×Dt)->Nat
 |[]=>0
 |q::r=>q.2.size+x2 r
theorem y9:∀a b:List (Nat×Dt),x2 (a++b)=x2 a+x2 b
 |[],b=>by simp[x2]
 |q::r,b=>by rw[cJt];show q.2.size+x2 (r++b)=q.2.size+x2 r+x2 b;rw[y9 r b];omega
theorem vN:∀ {a:List (Nat×Dt)} {ds:List Dt},a.map (·.2)=ds->x2 a=zW ds
 |[],[],_=>by simp[x2,zW]
 |q::r,d::ds,h=>by rw[cQz]at h;cases h;show q.2.size+x2 r=q.2.size+zW (r.map (·.2));rw[vN rfl]
 |[],_::_,h=>by cases h
 |_::_,[],h=>by cases h
theorem jB:∀qs:List (Nat×Dt),qs.length<=x2 qs
 |[]=>bYT _
 |q::r=>by
  have:=jB r;have a:1<=q.2.size:=by cases q.2<;> simp[Dt.size]
  show r.length+1<=q.2.size+x2 r;omega
theorem uZ:∀ds:List Dt,ds.length<=zW ds
 |[]=>bYT _
 |d::r=>by
  have:=uZ r;have a:1<=d.size:=by cases d<;> simp[Dt.size]
  show r.length+1<=d.size+zW r;omega
theorem aVA{α:Type}:∀ {l:List α},l≠ []->∃a b,l=a++ [b]
 |[],h=>absurd rfl h
 |[x],_=>⟨[],x,rfl⟩
 |x::y::r,_=>by obtain⟨i,l,e⟩:=aVA (l:=y::r) (by simp);exact⟨x::i,l,by rw[e];rfl⟩
theorem zO{a H:Hp}{c:Nat}{o:HO}(k:xF a H)(h:a c=none):xF a (upd H c o):=λb u q=>by rw[yJ (yI q h)];exact k b u q
mutual
def nb:Dt->Bool
 |.bl _=>false
 |.lst a=>nbs a
 |.tup a=>nbs a
 |.non=>true
 |.int _=>true
 |.str _=>true
def nbs:List Dt->Bool
 |[]=>true
 |d::r=>nb d && nbs r
end
theorem aJX:∀ {ds:List Dt} {i:Nat} (h:i<ds.length),nbs ds=true->nb ds[i]=true
 |d::r,0,h,e=>by unfold nbs at e;rw[Bool.and_eq_true]at e;exact e.1
 |d::r,i+1,h,e=>by unfold nbs at e;rw[Bool.and_eq_true]at e;exact aJX (ds:=r) (by simpa using h) e.2
def bJL(a H:Hp)(q:Nat×Dt):Prop:=∃x y,H q.1=some (.tup [x,y])/\Is a x q.2/\Is a y q.2/\nb q.2=true
theorem bJL.keep{d H b:Hp}{q:Nat×Dt}(p:bJL d H q)(k:∀a c,H a=some (.tup c)->b a=some (.tup c)):bJL d b q:=let ⟨x,y,h,r⟩:=p;⟨x,y,k _ _ h,r⟩
theorem jD{H:Hp}{p:Nat}{o:HO}(h:H p=none):∀a b,H a=some (.tup b)->upd H p o a=some (.tup b):=λa b e=>by rw[yJ (yI e h)];exact e
theorem wZ{H:Hp}{p:Nat}{c:List V}{o:HO}(h:H p=some (.lst c)):∀a b,H a=some (.tup b)->upd H p o a=some (.tup b):=λa b e=>by rw[yJ (aXl e h (by intro z;cases z))];exact e
def WU(c:Hp)(v u:V)(b:Nat)(m:Nat)(σ:L2.St)(H:Hp):Prop:=∃a l r k,σ= [some v,some u,some (.ref b),l,r,k]/\xF c H/\H b=some (.lst (a.map λq=> .ref q.1))/\(∀q∈a,bJL c H q)/\m=x2 a/\x2 a<=50000
def bQK:Sp:=λb H Q _=>∃v u d,b= [v,u]/\Is H v d/\Is H u d/\nb d=true/\d.size<=50000/\∀a,xF H a->Q (.bl true) a
section
variable {K:bYO}
theorem bZs:yN ["_law_found","_law_due","_law_todo","_law_one","_law_other","_law_k"] ["_law_found","_law_due"] (yH aY8):=scM
seal PE PA PS PSs PT in
theorem bXQ(T:vP mg)(U:FnG P w K mg base 1 "_law_whole" ["_law_found"] bQZ)(F:Fun K "_law_alike" "_law_alike" aY8 f fd):xH P w K mg base CX0 2 f fd ["_law_found","_law_due"] bQK:=by
 have sc:=bZs;refine F.ok (k:=1) sc (λc7 A outer s H0 vs Q E hr h=>?_);obtain⟨v,u,d,rfl,hv,hu,c0,hd,q⟩:=h;refine⟨_,(yC (yU (i:=2) (yZ (yA (y8 (yA (pv 0) (yA (pv 1) yD))) yD))) (yC (uF cQF (yM (wR hr.units0) (pv 2) (yZ yD)) (yC (vJ (aYY cQj cJw cJx aYy (pv 2)) (aJc rfl (zF (xE (i:=3)) (zF (xE (i:=4)) aQM)))) (yG (y6 (x5 (yS qQ rfl T.b_isinstance yY (yA (pv 4) (yA (y8 (yA (xV (v:= .ty "list") rfl T.b_list wB rfl) (yA (xV (v:= .ty "tuple") rfl T.b_tuple w8 rfl) yD))) yD)))) (yC (y6 (yM Y0 (yS zB rfl T.b_isinstance yY (yA (pv 3) (yA (xV (v:= .ty "list") rfl T.b_list wB rfl) yD))) (yS zB rfl T.b_isinstance yY (yA (pv 4) (yA (xV (v:= .ty "list") rfl T.b_list wB rfl) yD)))) (yG (yQ vI)) yT) (yC (y6 (yM Y0 (yS zB rfl T.b_isinstance yY (yA (pv 3) (yA (xV (v:= .ty "tuple") rfl T.b_tuple w8 rfl) yD))) (yS zB rfl T.b_isinstance yY (yA (pv 4) (yA (xV (v:= .ty "tuple") rfl T.b_tuple w8 rfl) yD)))) (yG (yQ vI)) yT) (yC (y6 (yM Y0 (yS yO rfl T.b_len xD (yA (pv 3) yD)) (yS yO rfl T.b_len xD (yA (pv 4) yD))) (yG (yQ vI)) yT) (yG (wL cQF rfl (zN rfl T.b_range (yA (yS yO rfl T.b_len xD (yA (pv 4) yD)) yD)) (xE (i:=5)) (yG (y0 (v6 cQj cQr cQs xL (pv 2) (yA (y8 (yA (yL aVP (pv 3) (pv 5)) (yA (yL aVP (pv 4) (pv 5)) yD))) yD))))))))) (yG (y6 (yM aXE (pv 4) x3) (yG (y6 (yM z6 (pv 3) x3) (yG (yQ vI)) yT)) (yG (y6 (x5 (yS zB rfl T.b_isinstance yY (yA (pv 4) (yA (xV (v:= .ty "str") rfl T.b_str aQn rfl) yD)))) (yG (y6 (PW.pt (jU (vK (x5 (yS zB rfl T.b_isinstance yY (yA (pv 3) (yA (xV (v:= .ty "str") rfl T.b_str aQn rfl) yD))))) (vW (yM Y0 (pv 3) (pv 4))))) (yG (yQ vI)) yT)) (yG (y6 (PW.pt (jU (vK (x5 (xO U hr rfl (yA (pv 3) yD)))) (vW (yM Y0 (pv 3) (pv 4))))) (yG (yQ vI)) yT)))))))))) (yG (yQ vI)))),?_⟩;refine⟨_,rfl,_,rfl,z2,λp0 b1=>⟨z1,λB b0=>?_⟩⟩;have a3:H0 B=none:=(yE b1 _).fresh b0;refine⟨WU H0 v u B,⟨d.size,[(p0,d)],none,none,none,rfl,zO (yE b1 _) a3,yB,?_,by simp[x2],by simpa[x2]using hd⟩,?_⟩
 ·intro q t;rw[bY1.mp t];exact⟨v,u,jD b0 _ _ yB,hv,hu,c0⟩
 rintro m σ H ⟨qs,l,r,k,rfl,hk,hT,hP,rfl,a6⟩;refine⟨_,rfl,z0,λpn a5=>?_⟩;have b7:pn≠B:=cQu (yI hT a5);have a4:upd H pn (.lst []) B=some (.lst (qs.map λq=> .ref q.1)):=by rw[yJ (cQu b7)];exact hT
 refine⟨B,pn,_,rfl,rfl,SqL.of a4,SqL.of yB,_,rfl,?_⟩;by_cases b3:qs= []
 ·subst b3;rw[if_neg (by decide)];exact q _ (hk.trans (yE a5 _))
 obtain⟨c,⟨lp,d⟩,rfl⟩:=aVA b3;rw[if_pos (by simp)];refine⟨λG I=>∃m',m'<x2 (c++ [(lp,d)])/\WU H0 v u B m' G I,λG I z=>z,?_⟩;obtain⟨x,y,b9,hx,hy,D⟩:=hP (lp,d) (by simp);have a9:((c++ [(lp,d)]).map λq=>V.ref q.1)[((c++ [(lp,d)]).map λq=>V.ref q.1).length - 1]? =some (.ref lp):=by simp
 have a8:((c++ [(lp,d)]).map λq=>V.ref q.1).dropLast=c.map λq=>V.ref q.1:=by simp
 have b4:∀a N,H a=some (.tup N)->upd (upd H pn (.lst [])) B (.lst (c.map λq=>V.ref q.1)) a=some (.tup N):=λa N e=>wZ a4 _ _ (jD a5 _ _ e);refine⟨_,rfl,.inl ⟨rfl,_,SqL.of a4⟩,B,_,.ref lp,rfl,rfl,a4,a9,?_⟩;rw[a8];have L:xF H0 (upd (upd H pn (.lst [])) B (.lst (c.map λq=>V.ref q.1))):=zO (hk.trans (yE a5 _)) a3;have a0:upd (upd H pn (.lst [])) B (.lst (c.map λq=>V.ref q.1)) B=some (.lst (c.map λq=> .ref q.1)):=yB;have a1:∀q∈c,bJL H0 (upd (upd H pn (.lst [])) B (.lst (c.map λq=>V.ref q.1))) q:=λq t=>(hP q (by simp[t])).keep b4;have a7:=b4 _ _ b9;generalize c6:upd (upd H pn (.lst [])) B (.lst (c.map λq=>V.ref q.1))=H2 at L a0 a1 a7 ⊢;refine⟨lp,[x,y],rfl,SqT.of a7,rfl,x,[y],rfl,y,[],rfl,rfl,?_⟩;have c5:1<=d.size:=by cases d<;> simp[Dt.size]
 have c4:x2 c+d.size<=50000:=by rw[y9]at a6;simpa[x2]using a6
 have hm:x2 c<x2 (c++ [(lp,d)]):=by rw[y9];simp[x2];omega
 have fin:∀H3,(∀b o,H2 b=some o->H3 b=some o)->∃m',m'<x2 (c++ [(lp,d)])/\WU H0 v u B m' [some v,some u,some (.ref B),some x,some y,k] H3:=λH3 k3=>
  ⟨x2 c,hm,c,some x,some y,k,rfl,L.trans k3,k3 _ _ a0,λq t=>(a1 q t).keep λa N e=>k3 _ _ e,rfl,by omega⟩
 refine⟨_,rfl,z2,λp1 c1=>?_⟩;have j:xF H2 (upd H2 p1 (.tup [.ty "list",.ty "tuple"])):=yE c1 _;cases d with
 |non=>
  have ex:x= .non:=by unfold Is at hx;exact hx
  have ey:y= .non:=by unfold Is at hy;exact hy
  subst ex;subst ey;refine⟨_,p1,"list","tuple",_,_,_,rfl,SqT.of yB,.non,uP _,v0 _,_,rfl,onF rfl ?_⟩;refine⟨_,rfl,rfl,_,rfl,onT rfl ?_⟩;refine⟨_,rfl,rfl,_,rfl,onF rfl ?_⟩;exact fin _ j
 |bl b=>unfold nb at D;cases D
 |int n=>
  have ex:x= .int n:=by unfold Is at hx;exact hx
  have ey:y= .int n:=by unfold Is at hy;exact hy
  subst ex;subst ey;refine⟨_,p1,"list","tuple",_,_,_,rfl,SqT.of yB,.int n,aQx _,J9 _,_,rfl,onF rfl ?_⟩;refine⟨_,rfl,rfl,_,rfl,onF rfl ?_⟩;refine⟨_,rfl,_,"str",_,_,rfl,.int n,jK _,_,rfl,onF rfl ?_⟩;refine⟨_,rfl,n,rfl,_,rfl,onF rfl ⟨_,rfl,_,rfl,rfl,_,rfl,onF (by simp) ?_⟩⟩;exact fin _ j
 |str z=>
  have ex:x= .str z:=by unfold Is at hx;exact hx
  have ey:y= .str z:=by unfold Is at hy;exact hy
  subst ex;subst ey;refine⟨_,p1,"list","tuple",_,_,_,rfl,SqT.of yB,.str z,aQz _,Q0 _,_,rfl,onF rfl ?_⟩;refine⟨_,rfl,rfl,_,rfl,onF rfl ?_⟩;refine⟨_,rfl,_,"str",_,_,rfl,.str z,vD _,_,rfl,onT rfl ?_⟩;refine⟨_,rfl,_,"str",_,_,rfl,.str z,vD _,_,rfl,onF rfl ⟨_,rfl,_,rfl,rfl,_,rfl,onF (by simp) ?_⟩⟩;exact fin _ j
 |lst g=>
  unfold Is at hx hy;obtain⟨a,N,rfl,ha,Y⟩:=hx;obtain⟨b,ys,rfl,hb,X⟩:=hy;have lx:=Y.length;have ly:=X.length;have a2:=L _ _ ha;have R:=L _ _ hb;have b8:zW g+1<=50000:=by
   have:Dt.size (.lst g)=1+zW g:=by simp[Dt.size]
   omega
  have b6:g.length<=zW g:=uZ g;have D:nbs g=true:=by unfold nb at D;exact D
  refine⟨_,p1,"list","tuple",_,_,_,rfl,SqT.of yB,.lst (j _ _ R),zK _,wD _,_,rfl,onT rfl ?_⟩;refine⟨_,rfl,_,"list",_,_,rfl,.lst (j _ _ a2),zK _,_,rfl,_,"list",_,_,rfl,.lst (j _ _ R),zK _,rfl,_,rfl,onF rfl ?_⟩;refine⟨_,rfl,_,"tuple",_,_,rfl,.lst (j _ _ a2),wD _,_,rfl,_,"tuple",_,_,rfl,.lst (j _ _ R),wD _,rfl,_,rfl,onF rfl ?_⟩;refine⟨_,rfl,a,_,rfl,.inl (SqL.of (j _ _ a2)),_,rfl,b,_,rfl,.inl (SqL.of (j _ _ R)),rfl,_,rfl,onF (by simp[lx,ly]) ?_⟩;refine⟨_,rfl,b,_,rfl,.inl (SqL.of (j _ _ R)),_,rfl,by omega,by omega,?_⟩;have Z:Dt.size (.lst g)=1+zW g:=by simp[Dt.size]
  generalize c2:upd H2 p1 (.tup [.ty "list",.ty "tuple"])=H3 at j ⊢;refine wV (λi G I=>∃ (C:List (Nat×Dt))(kk:Option V),G= [some v,some u,some (.ref B),some (.ref a),some (.ref b),kk]/\xF H0 I/\I B=some (.lst ((c++C).map λq=> .ref q.1))/\(∀q∈c++C,bJL H0 I q)/\C.map (·.2)=g.take i) ?_ ?_ ?_
  ·exact⟨[],k,rfl,L.trans j,by rw[cQP];exact j _ _ a0,λq t=>(a1 q (by simpa using t)).keep λa N e=>j _ _ e,rfl⟩
  ·rintro i G I hi ⟨C,kk,rfl,W,S,h3,O⟩;have J:i<g.length:=by rw[<- ly];omega
   obtain⟨xi,ex,ix⟩:=Y.get (bYL J);obtain⟨yi,ey,iy⟩:=X.get (bYL J);show aVE _ _ _ _;have sa:Sq K I a N:=Sq.same W (.inl ha);have sb:Sq K I b ys:=Sq.same W (.inl hb);refine⟨_,rfl,.inl ⟨rfl,_,SqL.of S⟩,_,rfl,_,rfl,?_⟩;rw[cX9];refine sa.ix ex ⟨_,rfl,_,rfl,?_⟩;refine sb.ix ey ⟨z2,λp hp=>?_⟩;have b5:C.length=i:=by have:=congrArg cXQ O;simp at this;omega
   have c3:=jB c;have M:upd I p (.tup [xi,yi]) B=some (.lst ((c++C).map λq=> .ref q.1)):=by rw[yJ (yI S hp)];exact S
   refine⟨B,_,.ref p,rfl,rfl,M,zlt (by simp;omega),C++ [(p,g[i])],_,rfl,zO (W.trans (yE hp _)) a3,?_,?_,?_⟩
   ·rw[yB];simp
   ·intro q t;rw[<- cQ8,cQn]at t;rcases t with t|t
    ·exact(h3 q t).keep λa N e=>wZ M _ _ (jD hp _ _ e)
    ·rw[bY1.mp t];exact⟨xi,yi,wZ M _ _ yB,ix,iy,aJX J D⟩
   ·rw[cXq,O,cQX,bYL J];rfl
  ·rintro G I ⟨C,kk,rfl,W,S,h3,O⟩;have e1:g.take ((ys.length:Nat):Int).toNat=g:=by rw[cQl,ly,cQT]
   rw[e1]at O;have e2:=vN O;refine⟨x2 (c++C),?_,c++C,some (.ref a),some (.ref b),kk,rfl,W,S,h3,rfl,?_⟩
   ·rw[y9,y9,e2];simp[x2,Z]
   ·rw[y9,e2];omega
 |tup g=>
  unfold Is at hx hy;obtain⟨a,N,rfl,ha,Y⟩:=hx;obtain⟨b,ys,rfl,hb,X⟩:=hy;have lx:=Y.length;have ly:=X.length;have a2:=L _ _ ha;have R:=L _ _ hb;have b8:zW g+1<=50000:=by
   have:Dt.size (.tup g)=1+zW g:=by simp[Dt.size]
   omega
  have b6:g.length<=zW g:=uZ g;have D:nbs g=true:=by unfold nb at D;exact D
  refine⟨_,p1,"list","tuple",_,_,_,rfl,SqT.of yB,.tup (j _ _ R),zD _,zU _,_,rfl,onT rfl ?_⟩;refine⟨_,rfl,_,"list",_,_,rfl,.tup (j _ _ a2),zD _,_,rfl,_,"list",_,_,rfl,.tup (j _ _ R),zD _,rfl,_,rfl,onF rfl ?_⟩;refine⟨_,rfl,_,"tuple",_,_,rfl,.tup (j _ _ a2),zU _,_,rfl,_,"tuple",_,_,rfl,.tup (j _ _ R),zU _,rfl,_,rfl,onF rfl ?_⟩;refine⟨_,rfl,a,_,rfl,.inr (SqT.of (j _ _ a2)),_,rfl,b,_,rfl,.inr (SqT.of (j _ _ R)),rfl,_,rfl,onF (by simp[lx,ly]) ?_⟩;refine⟨_,rfl,b,_,rfl,.inr (SqT.of (j _ _ R)),_,rfl,by omega,by omega,?_⟩;have Z:Dt.size (.tup g)=1+zW g:=by simp[Dt.size]
  generalize c2:upd H2 p1 (.tup [.ty "list",.ty "tuple"])=H3 at j ⊢;refine wV (λi G I=>∃ (C:List (Nat×Dt))(kk:Option V),G= [some v,some u,some (.ref B),some (.ref a),some (.ref b),kk]/\xF H0 I/\I B=some (.lst ((c++C).map λq=> .ref q.1))/\(∀q∈c++C,bJL H0 I q)/\C.map (·.2)=g.take i) ?_ ?_ ?_
  ·exact⟨[],k,rfl,L.trans j,by rw[cQP];exact j _ _ a0,λq t=>(a1 q (by simpa using t)).keep λa N e=>j _ _ e,rfl⟩
  ·rintro i G I hi ⟨C,kk,rfl,W,S,h3,O⟩;have J:i<g.length:=by rw[<- ly];omega
   obtain⟨xi,ex,ix⟩:=Y.get (bYL J);obtain⟨yi,ey,iy⟩:=X.get (bYL J);show aVE _ _ _ _;have sa:Sq K I a N:=Sq.same W (.inr ha);have sb:Sq K I b ys:=Sq.same W (.inr hb);refine⟨_,rfl,.inl ⟨rfl,_,SqL.of S⟩,_,rfl,_,rfl,?_⟩;rw[cX9];refine sa.ix ex ⟨_,rfl,_,rfl,?_⟩;refine sb.ix ey ⟨z2,λp hp=>?_⟩;have b5:C.length=i:=by have:=congrArg cXQ O;simp at this;omega
   have c3:=jB c;have M:upd I p (.tup [xi,yi]) B=some (.lst ((c++C).map λq=> .ref q.1)):=by rw[yJ (yI S hp)];exact S
   refine⟨B,_,.ref p,rfl,rfl,M,zlt (by simp;omega),C++ [(p,g[i])],_,rfl,zO (W.trans (yE hp _)) a3,?_,?_,?_⟩
   ·rw[yB];simp
   ·intro q t;rw[<- cQ8,cQn]at t;rcases t with t|t
    ·exact(h3 q t).keep λa N e=>wZ M _ _ (jD hp _ _ e)
    ·rw[bY1.mp t];exact⟨xi,yi,wZ M _ _ yB,ix,iy,aJX J D⟩
   ·rw[cXq,O,cQX,bYL J];rfl
  ·rintro G I ⟨C,kk,rfl,W,S,h3,O⟩;have e1:g.take ((ys.length:Nat):Int).toNat=g:=by rw[cQl,ly,cQT]
   rw[e1]at O;have e2:=vN O;refine⟨x2 (c++C),?_,c++C,some (.ref a),some (.ref b),kk,rfl,W,S,h3,rfl,?_⟩
   ·rw[y9,y9,e2];simp[x2,Z]
   ·rw[y9,e2];omega
end
end Alike
namespace Alike
open PySem L2 PyProof.Rows
open Bk (Row Rows xS xN Ans)
open Desk (xA qC stV xB)
def vDt:V->Dt
 |.int n=> .int n
 |.str x=> .str x
 |_=> .non
def aWv(v:V):Prop:=v= .non\/(∃n,v= .int n)\/∃x,v= .str x
theorem aWv.is{H:Hp}{v:V}(h:aWv v):Is H v (vDt v):=by
 rcases h with rfl|⟨n,rfl⟩|⟨x,rfl⟩
 ·show Is H .non .non;unfold Is;rfl
 ·show Is H (.int n) (.int n);unfold Is;rfl
 ·show Is H (.str x) (.str x);unfold Is;rfl
theorem aQu{H:Hp}:∀ {xs:List V},(∀v∈xs,aWv v)->x4 H xs (xs.map vDt)
 |[],_=>by show x4 H [] [];unfold x4;trivial
 |x::xs,h=>by show x4 H (x::xs) (vDt x::xs.map vDt);unfold x4;exact⟨(h x bY4).is,aQu λv a=>h v (bYZ _ a)⟩
theorem z8{H:Hp}{α:Type}{F:V->α->Prop}{g:α->Dt}(c:∀v a,F v a->Is H v (g a)):∀ {vs:List V} {b:List α},cQI F vs b->x4 H vs (b.map g)
 |_,_,.nil=>by show x4 H [] [];unfold x4;trivial
 |_,_,.cons r t=>by rw[cQz];unfold x4;exact⟨c _ _ r,z8 c t⟩
theorem bYw(v:V):nb (vDt v)=true:=by cases v<;> (unfold vDt;unfold nb;rfl)
theorem aJY{α:Type}{g:α->Dt}(h:∀a,nb (g a)=true):∀l:List α,nbs (l.map g)=true
 |[]=>by show nbs []=true;unfold nbs;rfl
 |a::l=>by rw[cQz];unfold nbs;rw[h a,aJY h l];rfl
theorem bZS(r:Row):∀v∈stV r,aWv v:=by
 intro v a;unfold stV at a;simp only[bYX,List.mem_nil_iff,or_false]at a;rcases a with rfl|rfl|rfl|rfl|rfl|rfl
 ·exact .inr (.inr ⟨_,rfl⟩)
 ·exact .inr (.inl ⟨_,rfl⟩)
 ·exact .inr (.inr ⟨_,rfl⟩)
 ·exact .inr (.inl ⟨_,rfl⟩)
 ·cases r.link with
  |none=>exact .inl rfl
  |some j=>exact .inr (.inl ⟨_,rfl⟩)
 ·unfold Desk.qV;split
  ·exact .inl rfl
  ·exact .inr (.inr ⟨_,rfl⟩)
def z7(r:Row):Dt:=if r.void then .str "void" else .tup ((stV r).map vDt)
theorem bJj{H:Hp}{p:Nat}{xs:List V}(h:H p=some (.tup xs))(k:∀v∈xs,aWv v):Is H (.ref p) (.tup (xs.map vDt)):=by
 unfold Is;exact⟨p,xs,rfl,h,aQu k⟩
theorem jJ{H:Hp}{r:Row}{v:V}(h:xB H r v):Is H v (z7 r):=by
 unfold xB at h;unfold z7;split
 ·rename_i e;rw[if_pos e]at h;unfold Is;exact h
 ·rename_i e;rw[if_neg e]at h;obtain⟨p,e,q⟩:=h;subst e;exact bJj q (bZS r)
theorem aVS(r:Row):nb (z7 r)=true:=by
 unfold z7;split
 ·unfold nb;rfl
 ·unfold nb;exact aJY bYw _
end Alike
namespace Alike
open PySem L2 PyProof.Rows
open Bk (Row Rows xS xN Ans)
open Desk (xA qC stV xB Up Run)
theorem aXI{α:Type}{g:α->Dt}(h:∀a,(g a).size=1):∀l:List α,zW (l.map g)=l.length
 |[]=>by simp[zW]
 |a::l=>by rw[cQz];show(g a).size+zW (l.map g)=l.length+1;rw[h a,aXI h l];omega
theorem aV9{α:Type}{g:α->Dt}{c:Nat}:∀ (l:List α),(∀a∈l,(g a).size<=c)->zW (l.map g)<=l.length*c
 |[],_=>by simp[zW]
 |a::l,h=>by rw[cQz,cQN,Nat.succ_mul];show(g a).size+zW (l.map g)<=_;have f:=h a bY4;have e:=aV9 l λb d=>h b (bYZ _ d);omega
theorem bKA(v:V):(vDt v).size=1:=by cases v<;> simp[vDt,Dt.size]
theorem W5(r:Row):(z7 r).size<=7:=by
 unfold z7;split
 ·simp[Dt.size]
 ·have h:Dt.size (.tup ((stV r).map vDt))=1+zW ((stV r).map vDt):=by simp[Dt.size]
  rw[h,aXI bKA];simp[stV]
end Alike
namespace Alike
open PySem L2 PyProof.Rows
open Law (xI)
abbrev aQV:Stmt:=xI "_law_unturned"
abbrev sAt:Stmt:=xI "_law_at"
def aWc(K:bYO):Sp:=λc H Q _=>∃ (a:Nat)(b:List Int)(k:Nat),c= [.ref a,.int (k:Int)]/\SqL K H a (b.map V.int)/\Q (.int (b.getD k 0)) H
section
variable {K:bYO}
theorem bVU:yN ["_law_script","_law_k"] ["_law_script","_law_k"] (yH sAt):=scM
seal PE PA PS PSs PT in
theorem bVi(T:vP mg)(F:Fun K "_law_at" "_law_at" sAt f fd):xH P w K mg base CX0 1 f fd ["_law_script","_law_k"] (aWc K):=by
 have j:=bVU;refine F.ok (k:=0) j (λl A outer s H n Q E m h=>?_);obtain⟨a,b,k,rfl,i,q⟩:=h;refine⟨_,(yC (y6 (yM vQ (pv 1) (yS yO rfl T.b_len xD (yA (pv 0) yD))) (yG (yQ (yL yK (pv 0) (pv 1)))) yT) (yG (yQ yF))),?_⟩;refine⟨_,rfl,_,rfl,a,_,rfl,.inl i,_,_,rfl,rfl,_,rfl,?_⟩;refine qE (λc=>?_) (λc=>?_)
 ·have d:=of_decide_eq_true c;have g:k<b.length:=by rw[bYR]at d;omega
  refine⟨_,rfl,_,rfl,a,_,_,.int (b.getD k 0),rfl,rfl,i,yR ?_,q⟩;simp[bY7,cQx,bYL g]
 ·have d:=of_decide_eq_false (Bool.eq_false_iff.mpr c);have g:¬k<b.length:=by rw[bYR]at d;omega
  have e:b.getD k 0=0:=by simp[cQx,cQk (show b.length<=k by omega)]
  rw[e]at q;exact q
end
def aJD(a H:Hp)(q:Nat×Dt):Prop:=∃x y,H q.1=some (.tup [x,y])/\Is a x q.2/\Is a y q.2
theorem aJD.keep{d H b:Hp}{q:Nat×Dt}(p:aJD d H q)(k:∀a c,H a=some (.tup c)->b a=some (.tup c)):aJD d b q:=let ⟨x,y,h,r⟩:=p;⟨x,y,k _ _ h,r⟩
def WUU(c:Hp)(v u:V)(b:Nat)(m:Nat)(σ:L2.St)(H:Hp):Prop:=∃a l r k,σ= [some v,some u,some (.ref b),l,r,k]/\xF c H/\H b=some (.lst (a.map λq=> .ref q.1))/\(∀q∈a,aJD c H q)/\m=x2 a/\x2 a<=1000
def aXM:Sp:=λb H Q _=>∃v u d,b= [v,u]/\Is H v d/\Is H u d/\d.size<=1000/\∀a,xF H a->Q (.bl true) a
section
variable {K:bYO}
theorem aVz:yN ["_law_found","_law_due","_law_todo","_law_left","_law_right","_law_k"] ["_law_found","_law_due"] (yH aQV):=scM
seal PE PA PS PSs PT in
theorem aJ9(T:vP mg)(F:Fun K "_law_unturned" "_law_unturned" aQV f fd):xH P w K mg base CX0 1 f fd ["_law_found","_law_due"] aXM:=by
 have sc:=aVz;refine F.ok (k:=0) sc (λc8 A outer s H0 vs Q E hr h=>?_);obtain⟨v,u,d,rfl,hv,hu,hd,q⟩:=h;refine⟨_,(yC (yU (i:=2) (yZ (yA (y8 (yA (pv 0) (yA (pv 1) yD))) yD))) (yC (uF cQF (yM (wR hr.units0) (pv 2) (yZ yD)) (yC (vJ (aYY cQj cJw cJx aYy (pv 2)) (aJc rfl (zF (xE (i:=3)) (zF (xE (i:=4)) aQM)))) (yG (y6 (x5 (yS qQ rfl T.b_isinstance yY (yA (pv 4) (yA (y8 (yA (xV (v:= .ty "list") rfl T.b_list wB rfl) (yA (xV (v:= .ty "tuple") rfl T.b_tuple w8 rfl) yD))) yD)))) (yC (y6 (yM Y0 (yS zB rfl T.b_isinstance yY (yA (pv 3) (yA (xV (v:= .ty "list") rfl T.b_list wB rfl) yD))) (yS zB rfl T.b_isinstance yY (yA (pv 4) (yA (xV (v:= .ty "list") rfl T.b_list wB rfl) yD)))) (yG (yQ vI)) yT) (yC (y6 (PW.pt (jU (vK (x5 (yS qQ rfl T.b_isinstance yY (yA (pv 3) (yA (y8 (yA (xV (v:= .ty "list") rfl T.b_list wB rfl) (yA (xV (v:= .ty "tuple") rfl T.b_tuple w8 rfl) yD))) yD))))) (vW (yM Y0 (yS yO rfl T.b_len xD (yA (pv 3) yD)) (yS yO rfl T.b_len xD (yA (pv 4) yD)))))) (yG (yQ vI)) yT) (yG (wL cQF rfl (zN rfl T.b_range (yA (yS yO rfl T.b_len xD (yA (pv 4) yD)) yD)) (xE (i:=5)) (yG (y0 (v6 cQj cQr cQs xL (pv 2) (yA (y8 (yA (yL aVP (pv 3) (pv 5)) (yA (yL aVP (pv 4) (pv 5)) yD))) yD)))))))) (yG (y6 (PW.pt (jU (yM aXE (pv 3) x3) (vW (yM aXE (pv 4) x3)))) (yG (y6 (PW.pt (jU (yM z6 (pv 3) x3) (vW (yM z6 (pv 4) x3)))) (yG (yQ vI)) yT)) (yG (y6 (yM Y0 (yS zB rfl T.b_isinstance yY (yA (pv 3) (yA (xV (v:= .ty "bool") rfl T.b_bool aJI rfl) yD))) (yS zB rfl T.b_isinstance yY (yA (pv 4) (yA (xV (v:= .ty "bool") rfl T.b_bool aJI rfl) yD)))) (yG (yQ vI)) (yG (y6 (yM Y0 (yS zB rfl T.b_isinstance yY (yA (pv 3) (yA (xV (v:= .ty "str") rfl T.b_str aQn rfl) yD))) (yS zB rfl T.b_isinstance yY (yA (pv 4) (yA (xV (v:= .ty "str") rfl T.b_str aQn rfl) yD)))) (yG (yQ vI)) (yG (y6 (PW.pt (jU (vK (x5 (yS qQ rfl T.b_isinstance yY (yA (pv 3) (yA (y8 (yA (xV (v:= .ty "str") rfl T.b_str aQn rfl) (yA (xV (v:= .ty "int") rfl T.b_int uN rfl) yD))) yD))))) (vW (yM Y0 (pv 3) (pv 4))))) (yG (yQ vI)) yT)))))))))))) (yG (yQ vI)))),?_⟩;refine⟨_,rfl,_,rfl,z2,λp0 b4=>⟨z1,λt b3=>?_⟩⟩;have a5:H0 t=none:=(yE b4 _).fresh b3;refine⟨WUU H0 v u t,⟨d.size,[(p0,d)],none,none,none,rfl,zO (yE b4 _) a5,yB,?_,by simp[x2],by simpa[x2]using hd⟩,?_⟩
 ·intro q j;rw[bY1.mp j];exact⟨v,u,jD b3 _ _ yB,hv,hu⟩
 rintro m σ H ⟨qs,l,r,k,rfl,hk,hT,hP,rfl,a8⟩;refine⟨_,rfl,z0,λpn a7=>?_⟩;have b9:pn≠t:=cQu (yI hT a7);have a6:upd H pn (.lst []) t=some (.lst (qs.map λq=> .ref q.1)):=by rw[yJ (cQu b9)];exact hT
 refine⟨t,pn,_,rfl,rfl,SqL.of a6,SqL.of yB,_,rfl,?_⟩;by_cases b5:qs= []
 ·subst b5;rw[if_neg (by decide)];exact q _ (hk.trans (yE a7 _))
 obtain⟨c,⟨lp,d⟩,rfl⟩:=aVA b5;rw[if_pos (by simp)];refine⟨λC D=>∃m',m'<x2 (c++ [(lp,d)])/\WUU H0 v u t m' C D,λC D z=>z,?_⟩;obtain⟨x,y,c1,O,N⟩:=hP (lp,d) (by simp);have b1:((c++ [(lp,d)]).map λq=>V.ref q.1)[((c++ [(lp,d)]).map λq=>V.ref q.1).length - 1]? =some (.ref lp):=by simp
 have b0:((c++ [(lp,d)]).map λq=>V.ref q.1).dropLast=c.map λq=>V.ref q.1:=by simp
 have b6:∀a S,H a=some (.tup S)->upd (upd H pn (.lst [])) t (.lst (c.map λq=>V.ref q.1)) a=some (.tup S):=λa S e=>wZ a6 _ _ (jD a7 _ _ e);refine⟨_,rfl,.inl ⟨rfl,_,SqL.of a6⟩,t,_,.ref lp,rfl,rfl,a6,b1,?_⟩;rw[b0];have I:xF H0 (upd (upd H pn (.lst [])) t (.lst (c.map λq=>V.ref q.1))):=zO (hk.trans (yE a7 _)) a5;have a3:upd (upd H pn (.lst [])) t (.lst (c.map λq=>V.ref q.1)) t=some (.lst (c.map λq=> .ref q.1)):=yB;have a4:∀q∈c,aJD H0 (upd (upd H pn (.lst [])) t (.lst (c.map λq=>V.ref q.1))) q:=λq j=>(hP q (by simp[j])).keep b6;have a9:=b6 _ _ c1;generalize c7:upd (upd H pn (.lst [])) t (.lst (c.map λq=>V.ref q.1))=H2 at I a3 a4 a9 ⊢;refine⟨lp,[x,y],rfl,SqT.of a9,rfl,x,[y],rfl,y,[],rfl,rfl,?_⟩;have c6:1<=d.size:=by cases d<;> simp[Dt.size]
 have c5:x2 c+d.size<=1000:=by rw[y9]at a8;simpa[x2]using a8
 have hm:x2 c<x2 (c++ [(lp,d)]):=by rw[y9];simp[x2];omega
 have fin:∀H3,(∀b o,H2 b=some o->H3 b=some o)->∃m',m'<x2 (c++ [(lp,d)])/\WUU H0 v u t m' [some v,some u,some (.ref t),some x,some y,k] H3:=λH3 k3=>
  ⟨x2 c,hm,c,some x,some y,k,rfl,I.trans k3,k3 _ _ a3,λq j=>(a4 q j).keep λa S e=>k3 _ _ e,rfl,by omega⟩
 refine⟨_,rfl,z2,λp1 c2=>?_⟩;have R:xF H2 (upd H2 p1 (.tup [.ty "list",.ty "tuple"])):=yE c2 _;cases d with
 |non=>
  have ex:x= .non:=by unfold Is at O;exact O
  have ey:y= .non:=by unfold Is at N;exact N
  subst ex;subst ey;refine⟨_,p1,"list","tuple",_,_,_,rfl,SqT.of yB,.non,uP _,v0 _,_,rfl,onF rfl ?_⟩;refine⟨_,rfl,rfl,_,rfl,onT rfl (onT rfl ?_)⟩;refine⟨_,rfl,rfl,_,rfl,onF rfl ?_⟩;refine⟨_,rfl,rfl,_,rfl,onF rfl ?_⟩;exact fin _ R
 |bl b=>
  have ex:x= .bl b:=by unfold Is at O;exact O
  have ey:y= .bl b:=by unfold Is at N;exact N
  subst ex;subst ey;refine⟨_,p1,"list","tuple",_,_,_,rfl,SqT.of yB,.bl b,aZX _,aXY _,_,rfl,onF rfl ?_⟩;refine⟨_,rfl,rfl,_,rfl,onF rfl ?_⟩;refine⟨_,rfl,rfl,_,rfl,onF rfl ?_⟩;refine⟨_,rfl,_,"bool",_,_,rfl,.bl b,J8 _,_,rfl,_,"bool",_,_,rfl,.bl b,J8 _,rfl,_,rfl,onF rfl ?_⟩;refine⟨_,rfl,_,"str",_,_,rfl,.bl b,qF _,_,rfl,_,"str",_,_,rfl,.bl b,qF _,rfl,_,rfl,onF rfl ?_⟩;refine⟨_,rfl,z2,λW G=>?_⟩;refine⟨_,W,"str","int",_,_,_,rfl,SqT.of yB,.bl b,qF _,aJS _,_,rfl,onF rfl ?_⟩;refine⟨_,rfl,_,rfl,rfl,_,rfl,onF (by simp) ?_⟩;exact fin _ (R.trans (yE G _))
 |int n=>
  have ex:x= .int n:=by unfold Is at O;exact O
  have ey:y= .int n:=by unfold Is at N;exact N
  subst ex;subst ey;refine⟨_,p1,"list","tuple",_,_,_,rfl,SqT.of yB,.int n,aQx _,J9 _,_,rfl,onF rfl ?_⟩;refine⟨_,rfl,rfl,_,rfl,onF rfl ?_⟩;refine⟨_,rfl,rfl,_,rfl,onF rfl ?_⟩;refine⟨_,rfl,_,"bool",_,_,rfl,.int n,qG _,_,rfl,_,"bool",_,_,rfl,.int n,qG _,rfl,_,rfl,onF rfl ?_⟩;refine⟨_,rfl,_,"str",_,_,rfl,.int n,jK _,_,rfl,_,"str",_,_,rfl,.int n,jK _,rfl,_,rfl,onF rfl ?_⟩;refine⟨_,rfl,z2,λW G=>?_⟩;refine⟨_,W,"str","int",_,_,_,rfl,SqT.of yB,.int n,jK _,aXA _,_,rfl,onF rfl ?_⟩;refine⟨_,rfl,_,rfl,rfl,_,rfl,onF (by simp) ?_⟩;exact fin _ (R.trans (yE G _))
 |str z=>
  have ex:x= .str z:=by unfold Is at O;exact O
  have ey:y= .str z:=by unfold Is at N;exact N
  subst ex;subst ey;refine⟨_,p1,"list","tuple",_,_,_,rfl,SqT.of yB,.str z,aQz _,Q0 _,_,rfl,onF rfl ?_⟩;refine⟨_,rfl,rfl,_,rfl,onF rfl ?_⟩;refine⟨_,rfl,rfl,_,rfl,onF rfl ?_⟩;refine⟨_,rfl,_,"bool",_,_,rfl,.str z,aQy _,_,rfl,_,"bool",_,_,rfl,.str z,aQy _,rfl,_,rfl,onF rfl ?_⟩;refine⟨_,rfl,_,"str",_,_,rfl,.str z,vD _,_,rfl,_,"str",_,_,rfl,.str z,vD _,rfl,_,rfl,onF rfl ?_⟩;refine⟨_,rfl,z2,λW G=>?_⟩;refine⟨_,W,"str","int",_,_,_,rfl,SqT.of yB,.str z,vD _,aWN _,_,rfl,onF rfl ?_⟩;refine⟨_,rfl,_,rfl,rfl,_,rfl,onF (by simp) ?_⟩;exact fin _ (R.trans (yE G _))
 |lst g=>
  unfold Is at O N;obtain⟨a,S,rfl,ha,a0⟩:=O;obtain⟨b,ys,rfl,hb,Z⟩:=N;have lx:=a0.length;have ly:=Z.length;have a2:=I _ _ ha;have b2:=I _ _ hb;have c0:zW g+1<=1000:=by
   have:Dt.size (.lst g)=1+zW g:=by simp[Dt.size]
   omega
  have b8:g.length<=zW g:=uZ g;refine⟨_,p1,"list","tuple",_,_,_,rfl,SqT.of yB,.lst (R _ _ b2),zK _,wD _,_,rfl,onT rfl ?_⟩;refine⟨_,rfl,_,"list",_,_,rfl,.lst (R _ _ a2),zK _,_,rfl,_,"list",_,_,rfl,.lst (R _ _ b2),zK _,rfl,_,rfl,onF rfl ?_⟩;refine⟨_,rfl,z2,λW G=>?_⟩;have J:=R.trans (yE G (.tup [.ty "list",.ty "tuple"]));refine⟨_,W,"list","tuple",_,_,_,rfl,SqT.of yB,.lst (J _ _ a2),zK _,wD _,_,rfl,onF rfl ?_⟩;refine⟨_,rfl,a,_,rfl,.inl (SqL.of (J _ _ a2)),_,rfl,b,_,rfl,.inl (SqL.of (J _ _ b2)),rfl,_,rfl,onF (by simp[lx,ly]) ?_⟩;refine⟨_,rfl,b,_,rfl,.inl (SqL.of (J _ _ b2)),_,rfl,by omega,by omega,?_⟩;have a1:Dt.size (.lst g)=1+zW g:=by simp[Dt.size]
  generalize c3:upd (upd H2 p1 (.tup [.ty "list",.ty "tuple"])) W (.tup [.ty "list",.ty "tuple"])=H3 at J ⊢;refine wV (λi C D=>∃ (B:List (Nat×Dt))(kk:Option V),C= [some v,some u,some (.ref t),some (.ref a),some (.ref b),kk]/\xF H0 D/\D t=some (.lst ((c++B).map λq=> .ref q.1))/\(∀q∈c++B,aJD H0 D q)/\B.map (·.2)=g.take i) ?_ ?_ ?_
  ·exact⟨[],k,rfl,I.trans J,by rw[cQP];exact J _ _ a3,λq j=>(a4 q (by simpa using j)).keep λa S e=>J _ _ e,rfl⟩
  ·rintro i C D hi ⟨B,kk,rfl,Y,X,h3,U⟩;have L:i<g.length:=by rw[<- ly];omega
   obtain⟨xi,ex,ix⟩:=a0.get (bYL L);obtain⟨yi,ey,iy⟩:=Z.get (bYL L);show aVE _ _ _ _;have sa:Sq K D a S:=Sq.same Y (.inl ha);have sb:Sq K D b ys:=Sq.same Y (.inl hb);refine⟨_,rfl,.inl ⟨rfl,_,SqL.of X⟩,_,rfl,_,rfl,?_⟩;rw[cX9];refine sa.ix ex ⟨_,rfl,_,rfl,?_⟩;refine sb.ix ey ⟨z2,λp hp=>?_⟩;have b7:B.length=i:=by have:=congrArg cXQ U;simp at this;omega
   have c4:=jB c;have M:upd D p (.tup [xi,yi]) t=some (.lst ((c++B).map λq=> .ref q.1)):=by rw[yJ (yI X hp)];exact X
   refine⟨t,_,.ref p,rfl,rfl,M,zlt (by simp;omega),B++ [(p,g[i])],_,rfl,zO (Y.trans (yE hp _)) a5,?_,?_,?_⟩
   ·rw[yB];simp
   ·intro q j;rw[<- cQ8,cQn]at j;rcases j with j|j
    ·exact(h3 q j).keep λa S e=>wZ M _ _ (jD hp _ _ e)
    ·rw[bY1.mp j];exact⟨xi,yi,wZ M _ _ yB,ix,iy⟩
   ·rw[cXq,U,cQX,bYL L];rfl
  ·rintro C D ⟨B,kk,rfl,Y,X,h3,U⟩;have e1:g.take ((ys.length:Nat):Int).toNat=g:=by rw[cQl,ly,cQT]
   rw[e1]at U;have e2:=vN U;refine⟨x2 (c++B),?_,c++B,some (.ref a),some (.ref b),kk,rfl,Y,X,h3,rfl,?_⟩
   ·rw[y9,y9,e2];simp[x2,a1]
   ·rw[y9,e2];omega
 |tup g=>
  unfold Is at O N;obtain⟨a,S,rfl,ha,a0⟩:=O;obtain⟨b,ys,rfl,hb,Z⟩:=N;have lx:=a0.length;have ly:=Z.length;have a2:=I _ _ ha;have b2:=I _ _ hb;have c0:zW g+1<=1000:=by
   have:Dt.size (.tup g)=1+zW g:=by simp[Dt.size]
   omega
  have b8:g.length<=zW g:=uZ g;refine⟨_,p1,"list","tuple",_,_,_,rfl,SqT.of yB,.tup (R _ _ b2),zD _,zU _,_,rfl,onT rfl ?_⟩;refine⟨_,rfl,_,"list",_,_,rfl,.tup (R _ _ a2),zD _,_,rfl,_,"list",_,_,rfl,.tup (R _ _ b2),zD _,rfl,_,rfl,onF rfl ?_⟩;refine⟨_,rfl,z2,λW G=>?_⟩;have J:=R.trans (yE G (.tup [.ty "list",.ty "tuple"]));refine⟨_,W,"list","tuple",_,_,_,rfl,SqT.of yB,.tup (J _ _ a2),zD _,zU _,_,rfl,onF rfl ?_⟩;refine⟨_,rfl,a,_,rfl,.inr (SqT.of (J _ _ a2)),_,rfl,b,_,rfl,.inr (SqT.of (J _ _ b2)),rfl,_,rfl,onF (by simp[lx,ly]) ?_⟩;refine⟨_,rfl,b,_,rfl,.inr (SqT.of (J _ _ b2)),_,rfl,by omega,by omega,?_⟩;have a1:Dt.size (.tup g)=1+zW g:=by simp[Dt.size]
  generalize c3:upd (upd H2 p1 (.tup [.ty "list",.ty "tuple"])) W (.tup [.ty "list",.ty "tuple"])=H3 at J ⊢;refine wV (λi C D=>∃ (B:List (Nat×Dt))(kk:Option V),C= [some v,some u,some (.ref t),some (.ref a),some (.ref b),kk]/\xF H0 D/\D t=some (.lst ((c++B).map λq=> .ref q.1))/\(∀q∈c++B,aJD H0 D q)/\B.map (·.2)=g.take i) ?_ ?_ ?_
  ·exact⟨[],k,rfl,I.trans J,by rw[cQP];exact J _ _ a3,λq j=>(a4 q (by simpa using j)).keep λa S e=>J _ _ e,rfl⟩
  ·rintro i C D hi ⟨B,kk,rfl,Y,X,h3,U⟩;have L:i<g.length:=by rw[<- ly];omega
   obtain⟨xi,ex,ix⟩:=a0.get (bYL L);obtain⟨yi,ey,iy⟩:=Z.get (bYL L);show aVE _ _ _ _;have sa:Sq K D a S:=Sq.same Y (.inr ha);have sb:Sq K D b ys:=Sq.same Y (.inr hb);refine⟨_,rfl,.inl ⟨rfl,_,SqL.of X⟩,_,rfl,_,rfl,?_⟩;rw[cX9];refine sa.ix ex ⟨_,rfl,_,rfl,?_⟩;refine sb.ix ey ⟨z2,λp hp=>?_⟩;have b7:B.length=i:=by have:=congrArg cXQ U;simp at this;omega
   have c4:=jB c;have M:upd D p (.tup [xi,yi]) t=some (.lst ((c++B).map λq=> .ref q.1)):=by rw[yJ (yI X hp)];exact X
   refine⟨t,_,.ref p,rfl,rfl,M,zlt (by simp;omega),B++ [(p,g[i])],_,rfl,zO (Y.trans (yE hp _)) a5,?_,?_,?_⟩
   ·rw[yB];simp
   ·intro q j;rw[<- cQ8,cQn]at j;rcases j with j|j
    ·exact(h3 q j).keep λa S e=>wZ M _ _ (jD hp _ _ e)
    ·rw[bY1.mp j];exact⟨xi,yi,wZ M _ _ yB,ix,iy⟩
   ·rw[cXq,U,cQX,bYL L];rfl
  ·rintro C D ⟨B,kk,rfl,Y,X,h3,U⟩;have e1:g.take ((ys.length:Nat):Int).toNat=g:=by rw[cQl,ly,cQT]
   rw[e1]at U;have e2:=vN U;refine⟨x2 (c++B),?_,c++B,some (.ref a),some (.ref b),kk,rfl,Y,X,h3,rfl,?_⟩
   ·rw[y9,y9,e2];simp[x2,a1]
   ·rw[y9,e2];omega
end
end Alike
namespace Alike
open PySem L2 PyProof.Rows
open Bk (Row Rows xS xN Ans)
open Desk (xA qC stV xB Up Run xU Wf Y4 vE)
open Law (xI LGo LBk xC aXL uQ)
open Thr (wJ)
theorem aVO{H:Hp}{α:Type}{g:α->Dt}:∀ {vs:List V} {b:List α},vs.length=b.length->(∀ (i:Nat) v a,vs[i]? =some v->b[i]? =some a->Is H v (g a))->x4 H vs (b.map g)
 |[],[],_,_=>by show x4 H [] [];unfold x4;trivial
 |v::vs,a::b,hl,h=>by rw[cQz];unfold x4;exact⟨h 0 v a rfl rfl,aVO (by simpa using hl) λi v a d c=>h (i+1) v a d c⟩
 |[],_::_,hl,_=>by simp at hl
 |_::_,[],hl,_=>by simp at hl
theorem aXz{H:Hp}{p:Nat}{vs:List V}{ds:List Dt}(h:H p=some (.lst vs))(k:x4 H vs ds):Is H (.ref p) (.lst ds):=by
 unfold Is;exact⟨p,vs,rfl,h,k⟩
theorem bJo{α:Type}{g:α->Dt}(h:∀a,nb (g a)=true)(l:List α):nb (.lst (l.map g))=true:=by unfold nb;exact aJY h l
theorem aZp{α:Type}{g:α->Dt}{c n:Nat}{l:List α}(h:∀a∈l,(g a).size<=c)(hl:l.length<=n):Dt.size (.lst (l.map g))<=1+n*c:=by
 have e:Dt.size (.lst (l.map g))=1+zW (l.map g):=by simp[Dt.size]
 have d:=aV9 l h;have b:l.length*c<=n*c:=Nat.mul_le_mul_right _ hl;omega
abbrev aVh:Stmt:=xI "_law_book_of"
abbrev aZg:Stmt:=xI "_law_standing_of"
def aWd:Sp:=λj H Q _=>∃ (g:Nat)(c:List Nat)(a:List xN),j= [.ref g]/\xU H g c a/\a.length<=60/\(∀e∈a,Wf e)/\
 ∀ (t f d:Nat)(b:Hp)(i:List Nat)(h:List Ans),LGo H f d a h b i->b t=some (.tup [.ref f,.ref d])->Q (.ref t) b
def aJt:Sp:=λf H Q _=>∃ (c:Nat)(e:List Nat)(R:Rows),f= [.ref c]/\xC H c e R/\R.length<=60/\
 ∀ (d:Nat)(a:Hp)(b:List V),xF H a->H d=none->a d=some (.lst b)->cQI (λv r=>xB a r v) b R->Q (.ref d) a
section
variable {K:bYO}
theorem bQv:yN ["_law_deeds","_law_rows","_law_shut","_law_deed"] ["_law_deeds"] (yH aVh):=scM
seal PE PA PS PSs PT in
theorem aYI(a:FnG P w K mg base n "_law_done_by" ["_law_rows","_law_shut","_law_deed"] aXL)(F:Fun K "_law_book_of" "_law_book_of" aVh f fd):xH P w K mg base CX0 (n+1) f fd ["_law_deeds"] aWd:=by
 have R:=bQv;refine F.ok (k:=n) R (λS A outer s N Y Q E O h=>?_);obtain⟨J,l,j,rfl,p,hl,H,q⟩:=h;refine⟨_,(yC (yU (i:=1) (yZ yD)) (yC (yU (i:=2) (yZ yD)) (yC (wL cQF rfl (xR (pv 0)) (xE (i:=3)) (yG (y0 (xO a O rfl (yA (pv 1) (yA (pv 2) (yA (pv 3) yD))))))) (yG (yQ (y8 (yA (pv 1) (yA (pv 2) yD)))))))),?_⟩;refine⟨z0,λz G=>?_⟩;dsimp only[yX];refine⟨z0,λr C=>?_⟩;dsimp only[yX];have I:=LGo.start G C;generalize upd (upd N z (.lst [])) r (.lst [])=H6 at I ⊢;refine⟨_,rfl,J,rfl,⟨_,SqL.of (I.keep _ _ p.1)⟩,?_⟩;refine zX (xs:=l.map V.ref) (λt σ u=>∃ (e:List Nat)(c:List Ans)(B:Option V),σ= [some (.ref J),some (.ref z),some (.ref r),B]/\LGo N z r (j.take t) c u e) ?_ ?_ ?_ ?_
 ·exact⟨[],[],none,rfl,I⟩
 ·rintro t σ u L ⟨e,c,B,rfl,g⟩;exact SqL.of (g.keep _ _ p.1)
 ·rintro t x σ u m ⟨e,c,B,rfl,g⟩;rw[bY7]at m;cases y:l[t]? with
  |none=>rw[y]at m;cases m
  |some d=>
   rw[y]at m;cases m;have o:t<j.length:=by rw[<- p.2.1];exact(bYY.mp y).1
   have M:=bYL o;dsimp only[yX];refine⟨_,rfl,_,rfl,_,rfl,g.step (H _ (cX5 o)) (by rw[cXg];omega) (g.keep _ _ (p.2.2 t d _ y M)) λb v W D T st Z X=>?_⟩;have U:j.take (t+1)=j.take t++ [j[t]]:=by rw[cQX,M];rfl
   exact⟨D,c++ [b],_,rfl,by rw[U];exact T⟩
 rintro σ u ⟨e,c,B,rfl,g⟩;rw[bYR,p.2.1,cQT]at g;dsimp only[bQ2];refine⟨_,rfl,_,rfl,z2,λt L=>?_⟩;exact q t z r _ e c (g.same (yE L _)) yB
theorem aKy:yN ["_law_rows","_law_made","_law_row"] ["_law_rows"] (yH aZg):=scM
seal PE PA PS PSs PT in
theorem aKd(T:vP mg)(F:Fun K "_law_standing_of" "_law_standing_of" aZg f fd):xH P w K mg base CX0 1 f fd ["_law_rows"] aJt:=by
 have sc:=aKy;refine F.ok (k:=0) sc (λa9 A outer s H7 vs Q E hr h=>?_);obtain⟨ra,rs,R,rfl,J,a8,q⟩:=h;refine⟨_,(yC (yU (i:=1) (yZ yD)) (yC (wL cQF rfl (xR (pv 0)) (xE (i:=2)) (yG (y0 (v6 cQj cQr cQs xL (pv 1) (yA (yL yK (yZ (yA (xW qR rfl T.b_tuple w8 (yA (Y2 aZq (pv 2) aX7 (Z5 yF)) yD)) (yA yP yD))) (xW wT rfl T.b_int uN (yA (yL yK (pv 2) yF) yD))) yD))))) (yG (yQ (pv 1))))),?_⟩;refine⟨z0,λu n=>?_⟩;dsimp only[yX];have k8:=yE n (.lst []);refine⟨_,rfl,ra,rfl,⟨_,SqL.of (k8 _ _ J.lst)⟩,?_⟩;refine zX (xs:=rs.map V.ref) (λt σ g=>∃ (m:List V)(M:Option V),σ= [some (.ref ra),some (.ref u),M]/\xF H7 g/\g u=some (.lst m)/\cQI (λv r=>xB g r v) m (R.take t)) ?_ ?_ ?_ ?_
 ·exact⟨[],none,rfl,k8,yB,.nil⟩
 ·rintro t σ g ht ⟨m,M,rfl,y,c,d⟩;exact SqL.of (y _ _ J.lst)
 ·rintro t x σ g I ⟨m,M,rfl,y,c,d⟩;rw[bY7]at I;cases O:rs[t]? with
  |none=>rw[O]at I;cases I
  |some b=>
   rw[O]at I;cases I;have a6:t<R.length:=by rw[<- J.len];exact(bYY.mp O).1
   have C:=bYL a6;obtain⟨l,e1,e2⟩:=J.row t b _ O C;have b9:g b=some (.lst (uQ R[t] l)):=y _ _ e1;have a7:m.length=t:=by rw[cZg d,cXg];omega
   dsimp only[yX];refine⟨_,rfl,.inl ⟨rfl,_,SqL.of c⟩,_,rfl,_,rfl,b,_,rfl,SqL.of b9,λS U=>⟨S,_,rfl,.inl ⟨SqL.of yB,λj a5=>⟨z2,λN a1=>?_⟩⟩⟩⟩;have a2:=yE U (.lst (qN (uQ R[t] l) none (some 6)));have a3:=yE a5 (.tup (qN (uQ R[t] l) none (some 6)));have a4:=yE a1 (.lst [.ref j,.str "void"]);have B:=(a2.trans a3).trans a4;have G:=a4 _ _ (yB (H:=upd g S (.lst (qN (uQ R[t] l) none (some 6)))) (a:=j) (o:= .tup (qN (uQ R[t] l) none (some 6))));have e4:upd (upd (upd g S (.lst (qN (uQ R[t] l) none (some 6)))) j (.tup (qN (uQ R[t] l) none (some 6)))) N (.lst [.ref j,.str "void"]) N=some (.lst [.ref j,.str "void"]):=yB;generalize upd (upd (upd g S (.lst (qN (uQ R[t] l) none (some 6)))) j (.tup (qN (uQ R[t] l) none (some 6)))) N (.lst [.ref j,.str "void"])=H10 at B G e4 ⊢;have X:=B _ _ b9;have Z:atI [V.ref j,V.str "void"] (if R[t].void=true then 1 else 0)=some (if R[t].void=true then .str "void" else .ref j):=by cases R[t].void<;> rfl
   refine⟨_,rfl,b,_,6,_,rfl,rfl,SqL.of X,rfl,.inr ⟨_,rfl,N,_,_,_,rfl,rfl,SqL.of e4,Z,u,_,_,rfl,rfl,B _ _ c,zlt (by omega),?_⟩⟩;have L:H7 u=none:=n;have W:∀D,xF H7 (upd H10 u (.lst D)):=λD x o e=>by rw[yJ (yI e L)];exact B _ _ (y _ _ e)
   have tk:∀ {x zs D},g x=some (.tup zs)->upd H10 u (.lst D) x=some (.tup zs):=λ{x zs D} e=>by rw[yJ (λz=>by rw[z,c]at e;cases e)];exact B _ _ e
   refine⟨m++ [if R[t].void=true then .str "void" else .ref j],_,rfl,W _,yB,?_⟩;have et:R.take (t+1)=R.take t++ [R[t]]:=by rw[cQX,C];rfl
   rw[et];refine Paired.snoc (Desk.wX (λv r z=>?_) d) ?_
   ·unfold xB at z ⊢;split
    ·rename_i e;rw[if_pos e]at z;exact z
    ·rename_i e;rw[if_neg e]at z;obtain⟨p,e,q⟩:=z;exact⟨p,e,tk q⟩
   ·unfold xB;cases hv:R[t].void with
    |true=>exact rfl
    |false=>
     have a0:qN (uQ R[t] l) none (some 6)=stV R[t]:=by unfold stV Desk.W6 Desk.qV;rw[hv];cases Y:R[t].link<;> (unfold uQ;rw[Y];rfl)
     rw[a0]at G;refine⟨j,rfl,?_⟩;rw[yJ (λz=>by rw[z,B _ _ c]at G;cases G)];exact G
 rintro σ g ⟨m,M,rfl,y,c,d⟩;rw[bYR,J.len,cQT]at d;exact⟨_,rfl,q u g m y n c d⟩
end
end Alike
namespace Alike
open PySem L2 PyProof.Rows
open Bk (Row Rows xS xN Ans)
open Desk (xA qC stV xB Up Run xU Wf Y4 vE)
open Law (xI LGo LBk xC aXa uQ)
open Thr (wJ)
theorem bJS(ns:List Int)(a b:Option Int):∃ms:List Int,qN (ns.map V.int) a b=ms.map V.int/\ms.length<=HT.sIx ns.length ns.length b - HT.sIx ns.length 0 a:=by
 refine⟨(ns.drop (HT.sIx ns.length 0 a)).take (HT.sIx ns.length ns.length b - HT.sIx ns.length 0 a),?_,?_⟩
 ·unfold qN;rw[bYR,List.map_take,List.map_drop]
 ·rw[cXg];exact Nat.min_le_left _ _
theorem aKY(ns:List Int)(a b:Nat):∃c:List Int,qN (ns.map V.int) (some (a:Int)) (some (b:Int))=c.map V.int/\c.length<=b - a:=by
 obtain⟨c,e,d⟩:=bJS ns (some (a:Int)) (some (b:Int));refine⟨c,e,cQo d ?_⟩;rw[aVl,aVl];omega
theorem bZb{α β:Type}{F:α->β->Prop}{xs:List α}{ys:List β}(h:cQI F xs ys):∀ {i:Nat} {y:β},ys[i]? =some y->∃x,xs[i]? =some x/\F x y:=by
 induction h with
 |nil=>intro i y e;simp at e
 |@cons a b c d k l j=>
  intro i y e;cases i with
  |zero=>cases e;exact⟨a,rfl,k⟩
  |succ i=>obtain⟨u,f,g⟩:=j (i:=i) (by simpa using e);exact⟨u,by simpa using f,g⟩
theorem qU{H:Hp}{das das2:List Nat}{es es2:List xN}(c:das.length=es.length)(j:∀ (i:Nat)(d:Nat)(e:xN),das[i]? =some d->es[i]? =some e->H d=some (.tup (xA e))) (g:das2.length=es2.length) (k:∀ (i:Nat)(d:Nat)(e:xN),das2[i]? =some d->es2[i]? =some e->H d=some (.tup (xA e))) {p:Nat} (f:H p=some (.lst (das.map V.ref++das2.map V.ref))):xU H p (das++das2) (es++es2):=by
 refine⟨by rw[cXq];exact f,by rw[cQa,cQa,c,g],λi d e a b=>?_⟩;by_cases h:i<das.length
 ·rw[cQp h]at a;rw[cQp (by omega)]at b;exact j i d e a b
 ·rw[bY9 (by omega)]at a b;rw[c]at a;exact k _ d e a b
structure Has(K:bYO)(Tb a ds ra sa:Nat)(ns:List Int)(das:List Nat)(es:List xN)(rs:List Nat)(R:Rows)(S:List Int)(H:Hp):Prop where
 s:SqL K H a (ns.map V.int)
 d:xU H ds das es
 b:xC H ra rs R
 sh:H sa=some (.lst (S.map V.int))
 t:wJ Tb H
theorem bWD{H H':Hp}{ra:Nat}{rs:List Nat}{R:Rows}(h:xC H ra rs R)(k:x8 H H'):xC H' ra rs R:=
 ⟨k.lst h.lst,h.len,h.nd,λi b r c a=>let ⟨cp,e1,e2⟩:=h.row i b r c a;⟨cp,k.lst e1,k.lst e2⟩⟩
section
variable {K:bYO}{Tb a ds ra sa:Nat}{ns:List Int}{das:List Nat}{es:List xN}{rs:List Nat}{R:Rows}{S:List Int}{H H':Hp}
theorem Has.sameT(h:Has K Tb a ds ra sa ns das es rs R S H)(k:x8 H H')(t:wJ Tb H'):Has K Tb a ds ra sa ns das es rs R S H':=
 ⟨k.seq h.s,h.d.same k,bWD h.b k,k.lst h.sh,t⟩
theorem Has.same(h:Has K Tb a ds ra sa ns das es rs R S H)(k:xF H H'):Has K Tb a ds ra sa ns das es rs R S H':=h.sameT k.t (Desk.Y7 h.t k)
end
end Alike
namespace Alike
open PySem (Str)
open Bk (Row Rows xS xN Ans xG laid thr lk dt zV)
open Desk (Run stV)
theorem aQQ{R e R2:Rows}{S c f:List Int}{b fs:List xN}{a bs:List Ans}(g:Run R S b a e c)(i:Run e c fs bs R2 f):Run R S (b++fs) (a++bs) R2 f:=by
 induction i with
 |nil=>simpa using g
 |snoc h d j=>rw[<- cQ8,<- cQ8];exact .snoc (j g) d
theorem bVH{R c:Rows}{S b:List Int}{e:xN}{a:Ans}(d:xS R S e a c b):Run R S [e] [a] c b:=Run.snoc .nil d
theorem Z7{R c R2:Rows}{S b g:List Int}{e f:xN}{a h:Ans}(d:xS R S e a c b)(d':xS c b f h R2 g):Run R S [e,f] [a,h] R2 g:=Run.snoc (bVH d) d'
theorem uL{R:Rows}(t:∀r∈R,0<=r.term)(i:Nat)(f:Row->Row)(a:∀r∈R,0<=(f r).term):∀r∈xG R i f,0<=r.term:=λr b=>by
 rcases Bk.qZ b with z|⟨q,z,rfl⟩
 ·exact t r z
 ·exact a q z
theorem Y8{w:Str}:∀ (l:List Nat) {R:Rows},(∀r∈R,0<=r.term)->∀r∈laid R l w,0<=r.term
 |[],R,t=>t
 |k::l,R,t=>Y8 l (R:=xG R k λr=>{r with place:=w}) (uL t k _ t)
theorem aK5{R c:Rows}{S g:List Int}{e:xN}{a:Ans}(h:xS R S e a c g)(t:∀r∈R,0<=r.term):∀r∈c,0<=r.term:=by
 have b:∀x:Row,0<=x.term->∀r∈R++ [x],0<=r.term:=λx j r d=>by
  rcases cQn.mp d with z|z
  ·exact t r z
  ·rw[bY1.mp z];exact j
 cases h with
 |enter h=>exact b _ h
 |reply f h i k=>exact b _ i
 |hang=>exact uL (Y8 _ t) _ _ (Y8 _ t)
 |loose=>exact uL t _ _ t
 |date=>exact uL t _ _ t
 |term f l h=>exact uL t _ _ λ_ _=>h
 |copy=>exact uL t _ _ t
 |void=>exact uL t _ _ t
 |file=>exact Y8 _ t
 |_=>exact t
theorem bZo{R a:Rows}{S c:List Int}{e:List xN}{b:List Ans}(h:Run R S e b a c)(t:∀r∈R,0<=r.term):∀r∈a,0<=r.term:=by
 induction h with
 |nil=>exact t
 |snoc h d f=>exact aK5 d f
theorem aQd{R Q:Rows}(h:∀j:Nat,R[j]? =Q[j]?):R=Q:=cXA h
theorem bZO{R:Rows}{i:Nat}{f:Row->Row}(h:∀r,R[i]? =some r->f r=r):xG R i f=R:=aQd λj=>by
 rw[Bk.xJ];split
 ·rename_i e;subst e;cases a:R[j]? with
  |none=>rfl
  |some r=>simp[h r a]
 ·rfl
theorem aQ7{R:Rows}{i:Nat}{f g:Row->Row}(h:∀r,R[i]? =some r->g (f r)=r):xG (xG R i f) i g=R:=aQd λj=>by
 rw[Bk.xJ,Bk.xJ];split
 ·rename_i e;subst e;cases a:R[j]? with
  |none=>rfl
  |some r=>simp[h r a]
 ·rfl
theorem aZo{R:Rows}{i:Nat}{r:Row}(f:Row->Row)(h:R[i]? =some r):(xG R i f)[i]? =some (f r):=by rw[Bk.xJ,if_pos rfl,h];rfl
theorem bXy{R:Rows}{l:List Nat}{w p:Str}(h:∀k∈l,∀r,R[k]? =some r->r.place=p):laid (laid R l w) l p=R:=aQd λj=>by
 rw[Bk.wE,Bk.wE];split
 ·rename_i b;cases a:R[j]? with
  |none=>rfl
  |some r=>simp[<- h j b r a]
 ·rfl
theorem bJ7{R:Rows}{l:List Nat}{p:Str}(h:∀k∈l,∀r,R[k]? =some r->r.place=p):laid R l p=R:=aQd λj=>by
 rw[Bk.wE];split
 ·rename_i b;cases a:R[j]? with
  |none=>rfl
  |some r=>simp[<- h j b r a]
 ·rfl
theorem aQN{R:Rows}{rk:Nat->Nat}(b:Bk.jS R)(o:Fm.Ok R.length (lk R) rk):∀ (m k:Nat)(r:Row),rk k<m->R[k]? =some r->∃q,R[Fm.tp (lk R) rk k]? =some q/\q.place=r.place
 |0,k,r,h,_=>absurd h (cXr _)
 |m+1,k,r,h,hr=>by
  have a:=Bk.zS hr;cases hl:r.link with
  |none=>rw[Fm.zT (by rw[Bk.wM hr];exact hl)];exact⟨r,hr,rfl⟩
  |some j=>
   have e:lk R k=some j:=by rw[Bk.wM hr];exact hl
   obtain⟨q,g,f⟩:=b.ans k j r hr hl;rw[Fm.vO o a e];obtain⟨p,d,c⟩:=aQN b o m j q (by have:=(o.lt k j a e).2;omega) g;exact⟨p,d,by rw[c];exact f.2.2.2.2.2.symm⟩
theorem aJv{R:Rows}(b:Bk.jS R){i k:Nat}{r q:Row}(e:R[i]? =some r)(j:R[k]? =some q)(f:k∈thr R i):q.place=r.place:=by
 obtain⟨l,o,_,g⟩:=Bk.Y9 b.tree i;obtain⟨m,h,d⟩:=aQN b o _ i r (cQ9 _) e;obtain⟨n,a,c⟩:=aQN b o _ k q (cQ9 _) j;rw[((g k).mp f).2,h]at a;cases a;rw[<- c,d]
theorem bQ4{R Q:Rows}(t:Bk.uU R){i:Nat}(c:i<R.length)(a:Q.length=R.length)(d:lk Q=lk R)(b:dt Q=dt R):thr Q i=thr R i:=by
 refine Bk.aXN (by rw[a];exact c) ?_;have h:=Bk.Y9 t i;unfold Bk.wA at h ⊢;rw[a,d,b];exact h
section
variable {R:Rows}{S:List Int}{i j:Nat}{r:Row}
theorem aKR(a:R[i]? =some r)(e:r.void=false)(h0:0<=r.term):∃f,Run R S [.term i (r.term+3),.term i r.term] f R S:=by
 have d:=xS.term (S:=S) (t:=r.term) (aZo (λb=>{b with term:=r.term+3}) a) e h0;rw[aQ7 (λb c=>by rw[a]at c;cases c;rfl)]at d;exact⟨_,Z7 (.term a e (by omega)) d⟩
theorem aKP(b:Bk.jS R)(a:R[i]? =some r)(u:r.void=false)(d:Int):∃y,Run R S [.date i d,.date i r.date] y R S:=by
 have up:∀j,r.link=some j->dt R j<=r.date:=λj n=>by obtain⟨q,l,f⟩:=b.ans i j r a n;rw[Bk.w9 l];exact f.2.2.2.2.1
 have w:∀c∈zV R i,r.date<=dt R c:=λc g=>by have m:=of_decide_eq_true (cQE.mp g).2;have hl:c<R.length:=cQi.mp (cQE.mp g).1;have l:=bYL hl;rw[Bk.wM l]at m;obtain⟨q,t,f⟩:=b.ans c i _ l m;rw[a]at t;cases t;rw[Bk.w9 l];exact f.2.2.2.2.1
 by_cases h:(∀j,r.link=some j->dt R j<=d)/\∀c∈zV R i,d<=dt R c
 ·have o:∀k,k≠i->dt (xG R i λe=>{e with date:=d}) k=dt R k:=λk x=>by
   unfold Bk.dt;rw[Bk.xJ,if_neg x]
  have s:zV (xG R i λe=>{e with date:=d}) i=zV R i:=by unfold Bk.zV;rw[Bk.xX,Bk.uC R i (λe=>{e with date:=d}) λ_=>rfl]
  have z:=xS.date (S:=S) (d:=r.date) (aZo (λe=>{e with date:=d}) a) u (λj n=>?_) (λc g=>?_)
  ·rw[aQ7 (λe p=>by rw[a]at p;cases p;rfl)]at z;exact⟨_,Z7 (.date a u h.1 h.2) z⟩
  ·rw[o j (Bk.aQE b.tree a n)];exact up j n
  ·rw[s]at g;have m:=of_decide_eq_true (cQE.mp g).2;have l:=bYL (cQi.mp (cQE.mp g).1);rw[o c (λz=>Bk.aQE b.tree l (by rw[<- Bk.wM l];exact m) z.symm)];exact w c g
 ·have no:(∃j,r.link=some j/\d<dt R j)\/∃c∈zV R i,dt R c<d:=by
   by_cases m:∀j,r.link=some j->dt R j<=d
   ·refine .inr (cVe λv=>h ⟨m,λc g=>?_⟩);exact Int.not_lt.mp λz=>v ⟨c,g,z⟩
   ·refine .inl (cVe λv=>m λj n=>?_);exact Int.not_lt.mp λz=>v ⟨j,n,z⟩
  have z:=xS.date (S:=S) a u up w;rw[bZO (λe p=>by rw[a]at p;cases p;rfl)]at z;exact⟨_,Z7 (.dateE a u no) z⟩
theorem aKQ(b:Bk.jS R)(a:R[i]? =some r)(e:r.void=false)(w:Str):∃f,Run R S [.file i w,.file i r.place] f R S:=by
 have d:=Bk.zS a;have c:=Bk.aWq b.tree d;have h:(laid R (thr R i) w)[i]? =some {r with place:=w}:=by rw[Bk.wE,if_pos c,a];rfl
 have z:=xS.file (S:=S) (w:=r.place) h e;rw[bQ4 (Q:=laid R (thr R i) w) b.tree d (Bk.wQ _ _ _) (Bk.Z0 _ _ _) (Bk.aYl _ _ _),bXy (λk g q j=>aJv b a j g)]at z;exact⟨_,Z7 (.file a e) z⟩
theorem aXw(b:Bk.jS R)(f:R[i]? =some r)(H:r.void=false)(hl:r.link=some j):xS R S (.loose i) (.txt "loose") (xG R i λa=>{a with link:=none}) S/\∃N,Run R S [.loose i,.hang i j] N R S:=by
 have d1:xS R S (.loose i) (.txt "loose") (xG R i λa=>{a with link:=none}) S:= .loose f H (by rw[hl];exact λz=>nomatch z);have B:=Bk.zS f;obtain⟨q,G,Y,P,U,L,O,Q⟩:=b.ans i j r f hl;have v:=Bk.aQE b.tree f hl;have x:=Bk.zS G;have K:Bk.uU (xG R i λa=>{a with link:=none}):=b.tree.loose B _ λ_=>rfl;have d:=Bk.xX R i λa=>{a with link:=none};have s:=aZo (λa=>{a with link:=none}) f;have D:(xG R i λa=>{a with link:=none})[j]? =some q:=by rw[Bk.xJ,if_neg v];exact G
 have y:lk (xG R i λa=>{a with link:=none})=λk=>if k=i then none else lk R k:=Bk.aX2 R B _ none λ_=>rfl;obtain⟨n,o⟩:=b.tree;have E:Fm.Ok R.length (λk=>if k=i then none else lk R k) n:=⟨λk m l e=>by
  by_cases z:k=i
  ·rw[if_pos z]at e;cases e
  ·rw[if_neg z]at e;exact o.lt k m l e⟩
 have t:∀ (m k:Nat),n k<m->k<R.length->n k<n i->Fm.tp (λk=>if k=i then none else lk R k) n k≠i:=by
  intro m;induction m with
  |zero=>intro k h;exact absurd h (cXr _)
  |succ m M=>
   intro k X l A;have g:k≠i:=λz=>by rw[z]at A;omega
   cases e:lk R k with
   |none=>rw[Fm.zT (by rw[if_neg g];exact e)];exact g
   |some c=>obtain⟨W,I⟩:=o.lt k c l e;rw[Fm.vO E l (show(if k=i then none else lk R k)=some c by rw[if_neg g];exact e)];exact M c (by omega) W (by omega)
 have u:lk R i=some j:=by rw[Bk.wM f];exact hl
 have w:(thr (xG R i λa=>{a with link:=none}) j).head? ≠some i:=by obtain⟨J,C,V⟩:=Bk.uM K (show j<_ by rw[d];exact x);rw[V];intro z;rw[y]at z C;rw[d]at C;rw[Fm.jC C E x]at z;exact t _ j (cQ9 _) x (o.lt i j B u).2 (bY6 z)
 have z:=xS.hang (S:=S) s H D P rfl w U L O;have same:∀k∈thr (xG R i λa=>{a with link:=none}) i,∀p,(xG R i λa=>{a with link:=none})[k]? =some p->p.place=q.place:=by have b1:Bk.jS (xG R i λa=>{a with link:=none}):=Bk.xS.book b (λ_ _ _ _ e=>by cases e) d1;intro k l p T;rw[aJv b1 s T l];exact Q
 rw[bJ7 same,aQ7 (λa F=>by rw[f]at F;cases F;rw[<- hl])]at z;exact⟨d1,_,Z7 d1 z⟩
theorem bXd(b:Bk.jS R)(n:R[i]? =some r)(v:r.void=false):∃B w,Run R S [.copy i "zed",.reply i r.date 1,.void (R.length:Nat)] B w S/\w.map z7=R.map z7++ [.str "void"]:=by
 have D:∃a l,xS R S (.copy i "zed") a l S/\l.length=R.length/\∀ (k:Nat) p,R[k]? =some p->∃c,l[k]? =some {p with copies:=c}:=by
  by_cases h:("zed":Str)=r.partner\/("zed":Str)∈r.copies
  ·exact⟨_,R,.copyC n v h,rfl,λk p f=>⟨p.copies,f⟩⟩
  ·refine⟨_,_,.copy n v (λz=>h (.inl z)) (λz=>h (.inr z)),Bk.xX _ _ _,λk p f=>?_⟩;rw[Bk.xJ];split
   ·rename_i e;rw[f];exact⟨p.copies++ [("zed":Str)],rfl⟩
   ·exact⟨p.copies,f⟩
 obtain⟨a,l,d1,m,u⟩:=D;obtain⟨c,o⟩:=u i r n;have d2:=xS.reply (S:=S) (d:=r.date) (t:=1) o v (by decide) (Int.le_refl _);have x:(l++ [⟨Bk.uD r.way,r.date,r.partner,1,some i,r.place,false,[]⟩])[R.length]? =some ⟨Bk.uD r.way,r.date,r.partner,1,some i,r.place,false,[]⟩:=by rw[<- m,bY9 (bYT _),cQ4];rfl
 have j:zV (l++ [⟨Bk.uD r.way,r.date,r.partner,1,some i,r.place,false,[]⟩]) R.length= []:=by
  refine List.filter_eq_nil_iff.mpr λk j=>?_;rw[cQa,cQU]at j;have j:=cQi.mp j;rw[decide_eq_true_eq,Bk.aYu _ _ k j];intro z;split at z
  ·have E:i=R.length:=bY6 z;have:=Bk.zS n;omega
  ·rename_i A;have s:k<R.length:=by omega
   have f:=bYL s;obtain⟨y,g⟩:=u k _ f;rw[Bk.wM g]at z;obtain⟨q,C,_⟩:=b.ans k R.length _ f z;have:=Bk.zS C;omega
 refine⟨_,_,Run.snoc (Z7 d1 d2) (.void x rfl j),?_⟩;apply cXA;intro k;rw[bY7,Bk.xJ];by_cases h:k=R.length
 ·subst h;rw[if_pos rfl,x,bY9 (by simp),bYR,cQ4];rfl
 ·rw[if_neg h];by_cases hl:k<R.length
  ·have f:=bYL hl;obtain⟨y,g⟩:=u k _ f;rw[cQp (by omega),g,cQp (by simpa using hl),bY7,f];rfl
  ·rw[cQk (by simp;omega),cQk (by simp;omega)];rfl
end
end Alike
namespace Alike
open PySem L2 PyProof.Rows
open Bk (Row Rows xS xN Ans)
open Desk (xA qC stV xB Up Run xU Wf Y4 vE)
open Law (xI LGo LBk xC aXa uQ zL md0 md1 aV8)
open Thr (wJ)
abbrev bKf:Stmt:=xI "_law_there_and_back"
def bKF(R:Rows)(A:List xN):Prop:=A= []\/∃ (i j:Nat)(r:Row),R[i]? =some r/\r.void=false/\r.link=some j/\A= [.loose i,.hang i j]
def bKD(R:Rows)(b:Bool)(B:List xN):Prop:=(b=false/\B= [])\/(b=true/\∃ (i:Nat)(r:Row)(d:Int),R[i]? =some r/\r.void=false/\ B= [.term i (r.term+3),.term i r.term,.date i d,.date i r.date,.file i "elsewhere",.file i r.place,.copy i "zed",.reply i r.date 1,.void (R.length:Nat)])
def bKs(K:bYO):Sp:=λh H Q _=>∃ (d a:Nat)(f:List V)(R:Rows)(g:List Int),h= [.ref d,.ref a]/\H d=some (.lst f)/\cQI (λv r=>xB H r v) f R/\R.length<=30/\SqL K H a (g.map V.int)/\
 ∀ (c:Hp)(t l:Nat)(e:List Nat)(A B:List xN)(b:Bool),xF H c->c t=some (.tup [.ref l,.bl b])->xU c l e (A++B)->bKF R A->bKD R b B->Q (.ref t) c
theorem aQj{H:Hp}{v a b j k:Nat}{c:List Nat}{A:List xN}(g h:xN)(t:xU H v c A)(n:H a=none)(m:upd H a (.tup (xA g)) b=none) (o:upd (upd H a (.tup (xA g))) b (.tup (xA h)) j=none) (q:upd (upd (upd H a (.tup (xA g))) b (.tup (xA h))) j (.lst [.ref a,.ref b]) k=none): xF H (upd (upd (upd (upd H a (.tup (xA g))) b (.tup (xA h))) j (.lst [.ref a,.ref b])) k (.lst (c.map V.ref++ [.ref a,.ref b])))/\ xU (upd (upd (upd (upd H a (.tup (xA g))) b (.tup (xA h))) j (.lst [.ref a,.ref b])) k (.lst (c.map V.ref++ [.ref a,.ref b]))) k (c++ [a,b]) (A++ [g,h]):=by
 have b1:=yE n (.tup (xA g));have s:=yE m (.tup (xA h));have l:=yE o (.lst [.ref a,.ref b]);have p:=yE q (.lst (c.map V.ref++ [.ref a,.ref b]));have r:=((b1.trans s).trans l).trans p;refine⟨r,qU t.2.1 (λi u e d f=>r _ _ (t.2.2 i u e d f)) rfl (λi u e d f=>?_) yB⟩;match i,d,f with
 |0,d,f=>cases d;cases f;exact p _ _ (l _ _ (s _ _ yB))
 |1,d,f=>cases d;cases f;exact p _ _ (l _ _ yB)
 |i+2,d,f=>cases d
def aQr(R:Rows)(k:Nat):Bool:=match R[k]? with|some r=> !r.void|none=>false
def bWk(R:Rows):V->Bool
 |.int n=>(Bk.lk R n.toNat).isSome
 |_=>false
theorem Y6{H:Hp}{b:List V}{R:Rows}(c:cQI (λv r=>xB H r v) b R){k:Nat}{r:Row}(e:R[k]? =some r)(f:r.void=false):∃p,b[k]? =some (.ref p)/\H p=some (.tup (stV r)):=by
 obtain⟨v,g,a⟩:=bZb c e;unfold xB at a;rw[if_neg (by rw[f];decide)]at a;obtain⟨p,rfl,d⟩:=a;exact⟨p,g,d⟩
theorem Y5{r:Row}(a:r.void=false):stV r= [.str r.way,.int r.date,.str r.partner,.int r.term,zL r.link,.str r.place]:=by
 unfold stV Desk.W6 Desk.qV;rw[a];cases r.link<;> rfl
section
variable {K:bYO}
theorem bKl:yN ["_law_found","_law_script","_law_here","_law_tied","_law_deeds","_law_number","_law_date","_law_term","_law_place","_law_further"] ["_law_found","_law_script"] (yH bKf):=scM
theorem bVa:xQ ["_law_found","_law_script","_law_here","_law_tied","_law_deeds","_law_number","_law_date","_law_term","_law_place","_law_further"] (yH bKf) "_law_k" ["_law_found"] [0] {kind:= .function,names:= [(".0",.local),("_law_k",.local),("isinstance",.globalImplicit),("str",.globalImplicit),("_law_found",.free)],isGenerator:=false,isCoroutine:=false,more:= [] }:=
 lcM
theorem bVb:xQ ["_law_found","_law_script","_law_here","_law_tied","_law_deeds","_law_number","_law_date","_law_term","_law_place","_law_further"] (yH bKf) "_law_k" ["_law_found"] [0] {kind:= .function,names:= [(".0",.local),("_law_k",.local),("_law_found",.free)],isGenerator:=false,isCoroutine:=false,more:= [] }:=
 lcM
seal PE PA PS PSs PT in
theorem bWZ(T:vP mg)(a2:FnG P w K mg base n "_law_at" ["_law_script","_law_k"] (aWc K))(F:Fun K "_law_there_and_back" "_law_there_and_back" bKf f fd):xH P w K mg base CX0 (n+1) f fd ["_law_found","_law_script"] (bKs K):=by
 have sc:=bKl;refine F.ok (k:=n) sc (λi1 A outer s H0 vs Q E hr h=>?_);obtain⟨S,a,ws,R,ns,rfl,hf,hp,i0,hS,q⟩:=h;refine⟨_,(yC (aXr (i:=2) bVa rfl sc.nd rfl rfl (zN rfl T.b_range (yA (yS yO rfl T.b_len xD (yA (pv 0) yD)) yD)) (λ_ _ _ _ _=>(wF (vK (x5 (yS (show jT _ (.builtin "isinstance") (λxs H Q=>∃x c t b,xs= [x,.ty c]/\aJA K H x t/\cQA K t (.type c)=some b/\Q (.bl b) H)from zB) rfl T.b_isinstance yY (yA (yL (show IxR _ (aXG K)from yK) (pv 1) (pv 0)) (yA (xV (v:= .ty "str") rfl T.b_str aQn rfl) yD))))))) (λ_ _ _ _ _=>(pv 0))) (yC (aXr (i:=3) bVb rfl sc.nd rfl rfl (xR (pv 2)) (λ_ _ _ _ _=>(wF (yM z6 (yL (show IxR _ (bZk K)from yW) (yL (show IxR _ (aXG K)from yK) (pv 1) (pv 0)) yF) x3))) (λ_ _ _ _ _=>(pv 0))) (yC (yU (i:=4) (yZ yD)) (yC (y6 (yM (wR hr.units0) (pv 3) (yZ yD)) (yC (yU (i:=5) (yL yK (pv 3) (yV y3 (xO a2 hr rfl (yA (pv 1) (yA yF yD))) (yS yO rfl T.b_len xD (yA (pv 3) yD))))) (yG (yU (i:=4) (yZ (yA (y8 (yA yP (yA (pv 5) yD))) (yA (y8 (yA yP (yA (pv 5) (yA (yL yW (yL yK (pv 0) (pv 5)) yF) yD)))) yD)))))) yT) (yC (y6 (yM (wR hr.units0) (pv 2) (yZ yD)) (yC (yU (i:=5) (yL yK (pv 2) (yV y3 (xO a2 hr rfl (yA (pv 1) (yA yF yD))) (yS yO rfl T.b_len xD (yA (pv 2) yD))))) (yC (bW7 (i:=6) (j:=7) rfl sc.nd rfl rfl (by decide) rfl rfl (yA (yL yW (yL yK (pv 0) (pv 5)) yF) (yA (yL yW (yL yK (pv 0) (pv 5)) yF) yD)) rfl) (yC (yU (i:=8) (yL yW (yL yK (pv 0) (pv 5)) yF)) (yC (yU (i:=4) (yV qA (pv 4) (yZ (yA (y8 (yA yP (yA (pv 5) (yA (yV zA (pv 7) yF) yD)))) (yA (y8 (yA yP (yA (pv 5) (yA (pv 7) yD)))) yD))))) (yC (yU (i:=9) (yV w6 (yV zA (pv 6) (yV y3 (xO a2 hr rfl (yA (pv 1) (yA yF yD))) yF)) yF)) (yC (yU (i:=4) (yV qA (pv 4) (yZ (yA (y8 (yA yP (yA (pv 5) (yA (pv 9) yD)))) (yA (y8 (yA yP (yA (pv 5) (yA (pv 6) yD)))) yD))))) (yC (yU (i:=4) (yV qA (pv 4) (yZ (yA (y8 (yA yP (yA (pv 5) (yA yP yD)))) (yA (y8 (yA yP (yA (pv 5) (yA (pv 8) yD)))) yD))))) (yC (yU (i:=4) (yV qA (pv 4) (yZ (yA (y8 (yA yP (yA (pv 5) (yA yP yD)))) (yA (y8 (yA yP (yA (pv 5) (yA (pv 6) (yA yF yD))))) yD))))) (yG (y0 (v6 cQj cQr cQs xL (pv 4) (yA (y8 (yA yP (yA (yS yO rfl T.b_len xD (yA (pv 0) yD)) yD))) yD)))))))))))) yT) (yG (yQ (y8 (yA (pv 4) (yA (zM (wR hr.units0) (pv 2) (yZ yD)) yD)))))))))),?_⟩;have e7:ws.length=R.length:=hp.length;refine⟨_,rfl,S,_,rfl,.inl (SqL.of hf),?_⟩;rw[e7];refine⟨_,rfl,by omega,by omega,λD hD=>?_⟩;rw[cQl];refine qX (aQr R) (λk=>V.int (k:Nat)) hD (by rw[cQe];omega) (λk hk H' R' hH u=>?_) (λk hk _ H' R' hH u=>⟨_,rfl,u⟩) ?_
 ·have a3:=bYL hk;have c1:H' S=some (.lst ws):=by rw[hH S (yI hf hD)];exact hf
  obtain⟨v,g1,O⟩:=bZb hp a3;have eB:aQr R k= !R[k].void:=by unfold aQr;rw[a3]
  rw[eB]at u;unfold xB at O;cases hv:R[k].void with
  |true=>rw[hv,if_pos rfl]at O;subst O;rw[hv]at u;exact⟨_,rfl,_,rfl,S,_,_,_,rfl,rfl,SqL.of c1,yR g1,_,"str",_,_,rfl,.str _,vD _,_,rfl,u⟩
  |false=>
   rw[hv,if_neg (by decide)]at O;obtain⟨p,rfl,g3⟩:=O;rw[hv]at u;have h8:H' p=some (.tup (stV R[k])):=by rw[hH p (yI g3 hD)];exact g3
   exact⟨_,rfl,_,rfl,S,_,_,_,rfl,rfl,SqL.of c1,yR g1,_,"str",_,_,rfl,.tup h8,aZY _,_,rfl,u⟩
 dsimp only[yX];have k1:=yE hD (.lst (((bYW R.length).filter (aQr R)).map λk=>V.int (k:Nat)));have a4:upd H0 D (.lst (((bYW R.length).filter (aQr R)).map λk=>V.int (k:Nat))) D=some (.lst (((bYW R.length).filter (aQr R)).map λk=>V.int (k:Nat))):=yB;have Z:∀k∈(bYW R.length).filter (aQr R),∃r,R[k]? =some r/\r.void=false:=λk hk=>by obtain⟨I,C⟩:=cQE.mp hk;have a3:=bYL (cQi.mp I);unfold aQr at C;rw[a3]at C;exact⟨_,a3,by simpa using C⟩
 have f8:((bYW R.length).filter (aQr R)).length<=30:=by have:=cQL (aQr R) (bYW R.length);rw[cQG]at this;omega
 generalize (bYW R.length).filter (aQr R)=here at k1 a4 Z f8 ⊢;generalize upd H0 D (.lst (here.map λk=>V.int (k:Nat)))=H1 at k1 a4 ⊢;have d5:=k1 _ _ hf;have N:=Desk.wX (λv r (z:xB H0 r v)=>z.same k1.t) hp;have g8:=k1.t.seq hS;refine⟨_,rfl,D,rfl,⟨_,SqL.of a4⟩,λD2 c4=>?_⟩;refine aXB (bWk R) id (SqL.of a4) c4 (zn (by rw[bYR];omega)) (λv hv H' R' hH u=>?_) (λv hv _ H' R' hH u=>⟨_,rfl,u⟩) ?_
 ·obtain⟨k,hk,rfl⟩:=cQR.mp hv;obtain⟨r,a9,b9⟩:=Z k hk;obtain⟨p,g1,O⟩:=Y6 N a9 b9;have c1:H' S=some (.lst ws):=by rw[hH S (yI d5 c4)];exact d5
  have f9:H' p=some (.tup (stV r)):=by rw[hH p (yI O c4)];exact O
  rw[Y5 b9]at f9;have eT:bWk R (V.int (k:Nat))= !decide (zL r.link=V.non):=by show(Bk.lk R (k:Int).toNat).isSome=_;rw[cQl,Bk.wM a9];cases r.link<;> rfl
  rw[eT]at u;exact⟨_,rfl,_,rfl,S,_,_,_,rfl,rfl,SqL.of c1,yR g1,p,_,4,_,rfl,rfl,SqT.of f9,rfl,rfl,_,rfl,u⟩
 dsimp only[yX];have et:((here.map λk=>V.int (k:Nat)).filter (bWk R)).map id=(here.filter λk=>(Bk.lk R k).isSome).map λk=>V.int (k:Nat):=by rw[cJq,List.filter_map];rfl
 rw[et];have k2:=yE c4 (.lst ((here.filter λk=>(Bk.lk R k).isSome).map λk=>V.int (k:Nat)));have b0:upd H1 D2 (.lst ((here.filter λk=>(Bk.lk R k).isSome).map λk=>V.int (k:Nat))) D2=some (.lst ((here.filter λk=>(Bk.lk R k).isSome).map λk=>V.int (k:Nat))):=yB;have b4:∀k∈here.filter λk=>(Bk.lk R k).isSome,∃r j,R[k]? =some r/\r.void=false/\r.link=some j:=λk hk=>by obtain⟨I,C⟩:=cQE.mp hk;obtain⟨r,a9,b9⟩:=Z k I;rw[Bk.wM a9]at C;obtain⟨j,hj⟩:=Option.isSome_iff_exists.mp C;exact⟨r,j,a9,b9,hj⟩
 have h7:(here.filter λk=>(Bk.lk R k).isSome).length<=30:=cQo (cQL _ _) f8;generalize (here.filter λk=>(Bk.lk R k).isSome)=tied at k2 b0 b4 h7 ⊢;generalize upd H1 D2 (.lst (tied.map λk=>V.int (k:Nat)))=H2 at k2 b0 ⊢;have d8:=k2 _ _ d5;have a0:=Desk.wX (λv r (z:xB H1 r v)=>z.same k2.t) N;have d7:=k2.t.seq g8;have Y:=k2 _ _ a4;have g9:=k1.trans k2;refine⟨z0,λdl h0=>?_⟩;dsimp only[yX];have k3:=yE h0 (.lst []);have g7:xU (upd H2 dl (.lst [])) dl [] []:=⟨yB,rfl,λi d e h=>by simp at h⟩;generalize upd H2 dl (.lst [])=H3 at k3 g7 ⊢;refine x6 (λσ' H'=>∃ (l:Nat)(g:List Nat)(A:List xN)(o5:Option V),σ'= [some (.ref S),some (.ref a),some (.ref D),some (.ref D2),some (.ref l),o5,none,none,none,none]/\xF H2 H'/\xU H' l g A/\bKF R A) ?jV (λL=>?_);case jV=>
  rintro σ' H4 ⟨l,g,A,o5,rfl,k4,hq,hA⟩;have h3:A.length<=2:=by
   rcases hA with rfl|⟨i,j,r,_,_,_,rfl⟩
   ·exact cQM _
   ·exact bYT _
  have h9:g.length<=2:=by rw[hq.2.1];exact h3
  refine x6 (λσ' H'=>∃ (l:Nat)(g:List Nat)(B:List xN)(o5 o6 o7 o8 o9:Option V),σ'= [some (.ref S),some (.ref a),some (.ref D),some (.ref D2),some (.ref l),o5,o6,o7,o8,o9]/\xF H2 H'/\xU H' l g (A++B)/\bKD R (!(here.map λk=>V.int (k:Nat)).isEmpty) B) ?rest2 (λL=>?_);case rest2=>
   rintro σ' H5 ⟨l,g,B,o5,o6,o7,o8,o9,rfl,k5,a1,hB⟩;refine⟨_,rfl,_,rfl,z0,λpn b7=>?_⟩;have k6:=yE b7 (.lst []);refine⟨D,pn,_,rfl,rfl,SqL.of (k6 _ _ (k5 _ _ Y)),SqL.of yB,z2,λt ht=>?_⟩;have k7:=yE ht (.tup [.ref l,.bl (!(here.map λk=>V.int (k:Nat)).isEmpty)]);exact q _ t l g A B _ (g9.trans (k5.trans (k6.trans k7))) yB ((a1.same k6.t).same k7.t) hA hB
  refine aV8 ?_;have c0:True:=trivial;refine⟨_,rfl,z0,λpn b7=>?_⟩;have k5:=yE b7 (.lst []);have a1:=hq.same k5.t;have o:=k4.trans k5;generalize e4:upd H4 pn (.lst [])=H5 at k5 a1 o;refine⟨D,pn,_,rfl,rfl,SqL.of (o _ _ Y),SqL.of (by rw[<- e4];exact yB),_,rfl,?_⟩;have e2:=o _ _ d8;have h4:=Desk.wX (λv r (z:xB H2 r v)=>z.same o.t) a0;have h6:=o.t.seq d7;by_cases U:here= []
  ·subst U;refine onF rfl ?_;exact L _ _ ⟨l,g,[],o5,none,none,none,none,rfl,o,by rw[cQP];exact a1,.inl ⟨rfl,rfl⟩⟩
  have hb:(!(here.map λk=>V.int (k:Nat)).isEmpty)=true:=by simp[U]
  refine onT hb ?_;have y:(0:Int)<((here.map λk=>V.int (k:Nat)).length:Nat):=by rw[bYR];have:=cQV.mpr U;omega
  refine⟨_,rfl,_,rfl,a,ns,1,rfl,h6,_,rfl,D,_,rfl,.inl (SqL.of (o _ _ Y)),_,_,rfl,rfl,y,?_⟩;refine Law.aWK rfl rfl (SqL.of (o _ _ Y)) (md0 y) (md1 y) λv hv=>?_;obtain⟨i,hi,rfl⟩:=cQR.mp hv;obtain⟨r,a8,X⟩:=Z i hi;obtain⟨p,g1,O⟩:=Y6 h4 a8 X;rw[Y5 X]at O;dsimp only[yX];refine⟨_,rfl,_,rfl,S,_,_,_,rfl,rfl,SqL.of e2,yR g1,p,_,1,_,rfl,rfl,SqT.of O,rfl,_,rfl,_,rfl,S,_,_,_,rfl,rfl,SqL.of e2,yR g1,p,_,3,_,rfl,rfl,SqT.of O,rfl,_,_,rfl,?_⟩;dsimp only[yX];refine⟨_,rfl,_,rfl,S,_,_,_,rfl,rfl,SqL.of e2,yR g1,p,_,5,_,rfl,rfl,SqT.of O,rfl,?_⟩;dsimp only[yX];refine⟨_,rfl,_,rfl,_,rfl,_,_,rfl,rfl,z3,λJ N=>⟨_,rfl,_,rfl,z3,λG a0=>⟨z2,λl2 a7=>⟨l,l2,g.map V.ref,_,rfl,rfl,?_,yB,(by rw[bYR,cQe];show g.length+2<=_;omega),λp3 f0=>?_⟩⟩⟩⟩
  ·exact(yE a7 _) _ _ ((yE a0 _) _ _ ((yE N _) _ _ a1.1))
  obtain⟨k7,d6⟩:=aQj (.term i (r.term+3)) (.term i r.term) a1 N a0 a7 f0;dsimp only[yX];have e5:=o.trans k7;generalize f3:upd (upd (upd (upd H5 J (.tup (xA (.term i (r.term+3))))) G (.tup (xA (.term i r.term)))) l2 (.lst [.ref J,.ref G])) p3 (.lst (g.map V.ref++ [.ref J,.ref G]))=H7 at k7 d6 e5;have d0:upd (upd (upd (upd H5 J (.tup [.str "term",.int i,.int (r.term+3)])) G (.tup [.str "term",.int i,.int r.term])) l2 (.lst [.ref J,.ref G])) p3 (.lst (g.map V.ref++ [.ref J,.ref G]))=H7:=f3;rw[d0];clear f3 d0 N a0 a7 f0;refine⟨_,rfl,_,rfl,a,ns,2,rfl,e5.t.seq d7,_,_,rfl,rfl,(show(0:Int)<9 by decide),_,_,rfl,rfl,_,_,rfl,rfl,?_⟩;dsimp only[yX];generalize r.date+ns.getD 2 0 % 9 - 4=dd;refine⟨_,rfl,_,rfl,_,rfl,z3,λp4 e3=>⟨_,rfl,_,rfl,z3,λp5 b5=>⟨z2,λl4 d2=>⟨p3,l4,(g++ [J,G]).map V.ref,_,rfl,rfl,?_,yB,(by rw[cQe];simp;omega),λp6 f7=>?_⟩⟩⟩⟩
  ·exact(yE d2 _) _ _ ((yE b5 _) _ _ ((yE e3 _) _ _ d6.1))
  obtain⟨k8,d9⟩:=aQj (.date i dd) (.date i r.date) d6 e3 b5 d2 f7;dsimp only[yX];have g0:=e5.trans k8;generalize g5:upd (upd (upd (upd H7 p4 (.tup (xA (.date i dd)))) p5 (.tup (xA (.date i r.date)))) l4 (.lst [.ref p4,.ref p5])) p6 (.lst ((g++ [J,G]).map V.ref++ [.ref p4,.ref p5]))=H8 at k8 d9 g0;have c5:upd (upd (upd (upd H7 p4 (.tup [.str "date",.int i,.int dd])) p5 (.tup [.str "date",.int i,.int r.date])) l4 (.lst [.ref p4,.ref p5])) p6 (.lst ((g++ [J,G]).map V.ref++ [.ref p4,.ref p5]))=H8:=g5;rw[c5];clear g5 c5 e3 b5 d2 f7;refine⟨_,rfl,_,rfl,z3,λp7 d4=>⟨_,rfl,_,rfl,z3,λp8 d3=>⟨z2,λl5 d1=>⟨p6,l5,(g++ [J,G]++ [p4,p5]).map V.ref,_,rfl,rfl,?_,yB,(by rw[cQe];simp;omega),λp9 f6=>?_⟩⟩⟩⟩
  ·exact(yE d1 _) _ _ ((yE d3 _) _ _ ((yE d4 _) _ _ d9.1))
  obtain⟨k9,e1⟩:=aQj (.file i "elsewhere") (.file i r.place) d9 d4 d3 d1 f6;dsimp only[yX];have e0:=g0.trans k9;generalize g4:upd (upd (upd (upd H8 p7 (.tup (xA (.file i "elsewhere")))) p8 (.tup (xA (.file i r.place)))) l5 (.lst [.ref p7,.ref p8])) p9 (.lst ((g++ [J,G]++ [p4,p5]).map V.ref++ [.ref p7,.ref p8]))=H9 at k9 e1 e0;have c9:upd (upd (upd (upd H8 p7 (.tup [.str "file",.int i,.str "elsewhere"])) p8 (.tup [.str "file",.int i,.str r.place])) l5 (.lst [.ref p7,.ref p8])) p9 (.lst ((g++ [J,G]++ [p4,p5]).map V.ref++ [.ref p7,.ref p8]))=H9:=g4;rw[c9];clear g4 c9 d4 d3 d1 f6;refine⟨_,rfl,_,rfl,z3,λr1 b8=>⟨_,rfl,_,rfl,z4,λr2 c2=>⟨z2,λl6 c3=>⟨p9,l6,(g++ [J,G]++ [p4,p5]++ [p7,p8]).map V.ref,_,rfl,rfl,?_,yB,(by rw[cQe];simp;omega),λr3 f5=>?_⟩⟩⟩⟩
  ·exact(yE c3 _) _ _ ((yE c2 _) _ _ ((yE b8 _) _ _ e1.1))
  obtain⟨f2,b6⟩:=aQj (.copy i "zed") (.reply i r.date 1) e1 b8 c2 c3 f5;dsimp only[yX];have a6:=e0.trans f2;generalize c6:upd (upd (upd (upd H9 r1 (.tup (xA (.copy i "zed")))) r2 (.tup (xA (.reply i r.date 1)))) l6 (.lst [.ref r1,.ref r2])) r3 (.lst ((g++ [J,G]++ [p4,p5]++ [p7,p8]).map V.ref++ [.ref r1,.ref r2]))=H10 at f2 b6 a6;have a5:upd (upd (upd (upd H9 r1 (.tup [.str "copy",.int i,.str "zed"])) r2 (.tup [.str "reply",.int i,.int r.date,.int 1])) l6 (.lst [.ref r1,.ref r2])) r3 (.lst ((g++ [J,G]++ [p4,p5]++ [p7,p8]).map V.ref++ [.ref r1,.ref r2]))=H10:=c6;rw[a5];have e8:H2 r3=none:=e0.fresh ((((yE b8 _).trans (yE c2 _)).trans (yE c3 _)).fresh f5);clear c6 a5 b8 c2 c3;refine⟨_,rfl,.inl ⟨rfl,_,SqL.of b6.1⟩,_,rfl,S,_,rfl,.inl (SqL.of (a6 _ _ d8)),z2,λvt h5=>?_⟩;rw[e7];have g6:=yE h5 (.tup [.str "void",.int (R.length:Nat)]);have M:=b6.same g6.t;refine⟨r3,_,_,rfl,rfl,M.1,zlt (by simp;omega),?_⟩;have c8:upd H10 vt (.tup [.str "void",.int (R.length:Nat)]) vt=some (.tup (xA (.void (R.length:Nat)))):=yB;have c7:=a6.trans g6;generalize upd H10 vt (.tup [.str "void",.int (R.length:Nat)])=H11 at M c8 c7 ⊢;refine L _ _ ⟨r3,g++ [J,G]++ [p4,p5]++ [p7,p8]++ [r1,r2]++ [vt],[.term i (r.term+3),.term i r.term,.date i dd,.date i r.date,.file i "elsewhere",.file i r.place,.copy i "zed",.reply i r.date 1,.void (R.length:Nat)],_,_,_,_,_,rfl,zO c7 e8,?_,.inr ⟨hb,i,r,dd,a8,X,rfl⟩⟩;have e9:A++ [.term i (r.term+3),.term i r.term,.date i dd,.date i r.date,.file i "elsewhere",.file i r.place,.copy i "zed",.reply i r.date 1,.void (R.length:Nat)]=(A++ [.term i (r.term+3),.term i r.term]++ [.date i dd,.date i r.date]++ [.file i "elsewhere",.file i r.place]++ [.copy i "zed",.reply i r.date 1])++ [.void (R.length:Nat)]:=by simp
  rw[e9];have tk:∀ {x:Nat} {zs:List V} {ys:List V},H11 x=some (.tup zs)->upd H11 r3 (.lst ys) x=some (.tup zs):=λ{x zs ys} e=>by rw[yJ (λz=>by rw[z,M.1]at e;cases e)];exact e
  refine qU M.2.1 (λi d' e I C=>tk (M.2.2 i d' e I C)) rfl (λi d' e I C=>?_) yB;match i,I,C with
  |0,I,C=>cases I;cases C;exact tk c8
  |i+1,I,C=>cases I
 refine aV8 ?_;refine⟨_,rfl,z0,λpn b7=>?_⟩;have k5:=yE b7 (.lst []);have o:=k3.trans k5;have f1:=g7.same k5.t;generalize e4:upd H3 pn (.lst [])=H5 at k5 f1 o;refine⟨D2,pn,_,rfl,rfl,SqL.of (o _ _ b0),SqL.of (by rw[<- e4];exact yB),_,rfl,?_⟩;by_cases U:tied= []
 ·subst U;refine onF rfl ?_;exact L _ _ ⟨dl,[],[],none,rfl,o,f1,.inl rfl⟩
 refine onT (by simp[U]) ?_;have y:(0:Int)<((tied.map λk=>V.int (k:Nat)).length:Nat):=by rw[bYR];have:=cQV.mpr U;omega
 refine⟨_,rfl,_,rfl,a,ns,0,rfl,o.t.seq d7,_,rfl,D2,_,rfl,.inl (SqL.of (o _ _ b0)),_,_,rfl,rfl,y,?_⟩;refine Law.aWK rfl rfl (SqL.of (o _ _ b0)) (md0 y) (md1 y) λv hv=>?_;obtain⟨i,hi,rfl⟩:=cQR.mp hv;obtain⟨r,j,a8,X,e6⟩:=b4 i hi;obtain⟨p,g1,O⟩:=Y6 (Desk.wX (λv r (z:xB H2 r v)=>z.same o.t) a0) a8 X;rw[Y5 X,e6]at O;dsimp only[yX];refine⟨_,rfl,z2,λJ N=>?_⟩;have b1:=yE N (.tup [.str "loose",.int (i:Nat)]);refine⟨_,rfl,_,rfl,_,rfl,S,_,_,_,rfl,rfl,SqL.of (b1 _ _ (o _ _ d8)),yR g1,p,_,4,_,rfl,rfl,SqT.of (b1 _ _ O),rfl,z3,λG f4=>⟨z2,λl2 a7=>?_⟩⟩;have b2:=yE f4 (.tup [.str "hang",.int (i:Nat),zL (some j)]);have b3:=yE a7 (.lst [.ref J,.ref G]);refine L _ _ ⟨l2,[J,G],[.loose i,.hang i j],_,rfl,o.trans ((b1.trans b2).trans b3),⟨yB,rfl,λm d e I C=>?_⟩,.inr ⟨i,j,r,a8,X,e6,rfl⟩⟩;match m,I,C with
 |0,I,C=>cases I;cases C;exact b3 _ _ (b2 _ _ yB)
 |1,I,C=>cases I;cases C;exact b3 _ _ yB
 |m+2,I,C=>cases I
end
end Alike
namespace Alike
open PySem L2 PyProof.Rows
open Bk (Row Rows xS xN Ans)
open Desk (xA qC stV xB Up Run xU Wf Y4 vE)
open Law (xI LGo LBk xC aXa uQ zL)
open Thr (wJ)
theorem aZS{H:Hp}:∀ {vs b:List V} {ds a:List Dt},x4 H vs ds->x4 H b a->x4 H (vs++b) (ds++a)
 |[],b,[],a,_,h=>h
 |v::vs,b,d::ds,a,h1,h2=>by unfold x4 at h1;show x4 H (v::(vs++b)) (d::(ds++a));unfold x4;exact⟨h1.1,aZS h1.2 h2⟩
 |[],_,_::_,_,h,_=>by unfold x4 at h;exact h.elim
 |_::_,_,[],_,h,_=>by unfold x4 at h;exact h.elim
theorem bXc{R:Rows}{S:List Int}{A B:List xN}{k:Bool}(b:Bk.jS R)(t:∀r∈R,0<=r.term)(q:bKF R A)(o:bKD R k B):∃f g,Run R S (A++B) f g S/\g.map z7=R.map z7++(if k=true then [.str "void"]else []):=by
 have h:∃f,Run R S A f R S:=by
  rcases q with rfl|⟨i,j,r,a,c,hl,rfl⟩
  ·exact⟨[],.nil⟩
  ·exact(aXw b a c hl).2
 obtain⟨f,h⟩:=h;rcases o with⟨rfl,rfl⟩|⟨rfl,i,r,d,a,c,rfl⟩
 ·exact⟨f,R,by rw[cQP];exact h,by simp⟩
 ·obtain⟨s,l⟩:=aKR (S:=S) a c (t r (bY5 a));obtain⟨w,m⟩:=aKP (S:=S) b a c d;obtain⟨u,n⟩:=aKQ (S:=S) b a c "elsewhere";obtain⟨v,g,p,e⟩:=bXd (S:=S) b a c;exact⟨_,g,aQQ h (aQQ l (aQQ m (aQQ n p))),by rw[e];rfl⟩
abbrev bK8:Stmt:=xI "law"
def bZR(e:Nat)(K:bYO):Sp:=λd H Q _=>∃ (a:Nat)(b:List Int),d= [.ref a]/\SqL K H a (b.map V.int)/\b.length<=63/\wJ e H/\∀c,Q (.bl true) c
theorem bWn{R:Rows}{A B:List xN}{b:Bool}(a:bKF R A)(c:bKD R b B):(∀e∈A++B,Wf e)/\(A++B).length<=11:=by
 rcases a with rfl|⟨i,j,r,_,_,_,rfl⟩<;> rcases c with⟨_,rfl⟩|⟨_,g,f,d,_,_,rfl⟩<;> exact⟨by simp[Wf],by simp⟩
section
variable {K:bYO}
theorem bKj:yN ["_law_script","_law_deeds","_law_rows","_law_due","_law_found","_law_more","_law_replied","_law_behind","_law_number","_law_cut"] ["_law_script"] (yH bK8):=scM
seal PE PA PS PSs PT in
theorem bWX(T:vP mg)(a4:FnG P w K mg base n "_law_story" ["_law_cells"] aXa)(b2:FnG P w K mg base n "_law_room" ["_law_script","_law_most","_law_bound"] (bJz K))(Y:FnG P w K mg base n "_law_book_of" ["_law_deeds"] aWd) (I:FnG P w K mg base n "_law_standing_of" ["_law_rows"] aJt) (W:FnG P w K mg base n "_law_unturned" ["_law_found","_law_due"] aXM) (G:FnG P w K mg base n "_law_there_and_back" ["_law_found","_law_script"] (bKs K)) (U:FnG P w K mg base n "_law_alike" ["_law_found","_law_due"] bQK) (u:FnG P w K mg base n "standing" ["deeds"] (vE Rf)) (F:Fun K "law" "law" bK8 f fd):xH P w K mg base CX0 (n+1) f fd ["_law_script"] (bZR Rf.2 K):=by
 have sc:=bKj;refine F.ok (k:=n) sc (λn5 A outer s H0 vs Q E hr h=>?_);obtain⟨a,ns,rfl,hS,l3,hT,q⟩:=h;refine⟨_,(yC (yU (i:=1) (yL yW (xO a4 hr rfl (yA (Y2 aZq (pv 0) (Z5 yF) (Z5 (yV zA yF (xO b2 hr rfl (yA (pv 0) (yA yF (yA yF yD))))))) yD)) yF)) (yC (yU (i:=2) (yL yW (xO Y hr rfl (yA (pv 1) yD)) yF)) (yC (yU (i:=3) (xO I hr rfl (yA (pv 2) yD))) (yC (yU (i:=4) (xO u hr rfl (yA (xW vU rfl T.b_list wB (yA (pv 1) yD)) yD))) (yC (y6 (vK (x5 (xO W hr rfl (yA (pv 4) (yA (pv 3) yD))))) (yG (yQ vI)) yT) (yC (yU (i:=4) (pv 3)) (yC (vJ (xO G hr rfl (yA (pv 4) (yA (pv 0) yD))) (aJc rfl (zF (xE (i:=5)) (zF (xE (i:=6)) aQM)))) (yC (yU (i:=7) (xO u hr rfl (yA (yV qA (pv 1) (pv 5)) yD))) (yC (yU (i:=3) (yV qA (pv 4) (yV bW0 (yZ (yA yP yD)) (xW wT rfl T.b_int uN (yA (pv 6) yD))))) (yC (y6 (vK (x5 (xO U hr rfl (yA (pv 7) (yA (pv 3) yD))))) (yG (yQ vI)) yT) (yC (y6 (PW.pt (jU (yM (aX5 hr.units0) (pv 5) (yZ yD)) (vW (yM Y0 (yL yW (yL yK (pv 5) yF) yF) yP)))) (yG (yQ vI)) yT) (yC (yU (i:=8) (yL yW (yL yK (pv 5) yF) yF)) (yC (yU (i:=9) (xW vU rfl T.b_list wB (yA (pv 4) yD))) (yC (vJ (yV aYT (Y2 bKo (yL yK (pv 4) (pv 8)) aX7 (Z5 yF)) (y8 (yA x3 (yA (yL yW (yL yK (pv 4) (pv 8)) yF) yD)))) (qB (pv 9) (pv 8) zY)) (yG (yQ (xO U hr rfl (yA (xO u hr rfl (yA (yV qA (pv 1) (Y2 aZq (pv 5) aX7 (Z5 yF))) yD)) (yA (pv 9) yD))))))))))))))))))),?_⟩;refine⟨_,rfl,_,rfl,_,rfl,a,ns,22,60,rfl,hS,l3,_,_,rfl,rfl,_,rfl,a,_,rfl,hS,λp hp=>?_⟩;obtain⟨ms,j3,m7⟩:=aKY ns 3 25;have k0:=yE hp (.lst (qN (ns.map V.int) (some 3) (some (3+22))));refine⟨p,ms,rfl,yB.trans (congrArg (λz=>some (HO.lst z)) j3),by omega,λH1 t ds us C es vs as R S k1 ht hD j7 hP O a8 l7=>?_⟩;have f4:es.length<=25:=by omega
 have d9:=(k0.trans k1).t.seq hS;have T1:=Desk.Y7 hT (k0.trans k1);refine⟨t,_,0,_,rfl,rfl,SqT.of ht,rfl,?_⟩;dsimp only[yX];refine⟨_,rfl,ds,C,es,rfl,hD,by omega,a8,λt2 ra sa H2 rs cs g h7=>?_⟩;obtain⟨R2,S2,hL,l4,i5,f5⟩:=g.ex;obtain⟨rfl,rfl,rfl⟩:=Run.det es.length rfl O f5;have i3:R.length<=25:=cQo l4.r f4;have A2:Has K Rf.2 a ds ra sa ns C es rs R S H2:=⟨g.keep.t.seq d9,hD.same g.keep.t,hL.book,hL.shut,Desk.Y7 T1 g.keep⟩;clear hD j7 hP ht d9 T1 g hL k1;refine⟨t2,_,0,_,rfl,rfl,SqT.of h7,rfl,?_⟩;dsimp only[yX];refine⟨_,rfl,ra,rs,R,rfl,A2.b,by omega,λd1 H3 D k3 m6 i6 c7=>?_⟩;have A3:=A2.same k3;dsimp only[yX];refine⟨_,rfl,ds,_,rfl,.inl (SqL.of A3.d.1),λhl g8=>?_⟩;have k4:=yE g8 (.lst (C.map V.ref));have A4:=A3.same k4;have D4:xU (upd H3 hl (.lst (C.map V.ref))) hl C es:=⟨yB,A3.d.2.1,λi d e M L=>k4 _ _ (A3.d.2.2 i d e M L)⟩;have d7:=k4 _ _ i6;have d8:=Desk.wX (λv r (z:xB H3 r v)=>z.same k4.t) c7;generalize upd H3 hl (.lst (C.map V.ref))=H4 at A4 D4 d7 d8 ⊢;refine⟨hl,C,es,rfl,D4,by omega,a8,A4.t,λl H5 ws bs R2 S2 k5 T5 f6 n0 e7 e8=>?_⟩;obtain⟨-,rfl, -⟩:=Run.det es.length rfl O f6;have A5:=A4.sameT k5 T5;have c8:=k5.lst d7;have a6:=Desk.wX (λv r (z:xB H4 r v)=>z.same k5) d8;dsimp only[yX];refine⟨_,rfl,_,rfl,.ref l,.ref d1,.lst (R.map z7),rfl,aXz e7 (z8 (F:=λv r=>xB H5 r v) (λv r z=>jJ z) e8),aXz c8 (z8 (F:=λv r=>xB H5 r v) (λv r z=>jJ z) a6),cQo (aZp (n:=25) (c:=7) (λr _=>W5 r) i3) (by decide),λH6 k6=>⟨_,rfl,onF rfl ?_⟩⟩;have A6:=A5.same k6;have g0:=k6 _ _ c8;have g7:=Desk.wX (λv r (z:xB H5 r v)=>z.same k6.t) a6;have e5:D.length=R.length:=c7.length;clear A2 A3 A4 A5 D4 d8 e8 a6 e7 d7 c8 k4 k5 k3 k6 g8 h7 i6 c7;refine⟨_,rfl,?_⟩;dsimp only[yX];refine⟨_,rfl,_,rfl,d1,a,D,R,ns,rfl,g0,g7,by omega,A6.s,λH7 tt ml a3 A B X k7 j6 hq hA hB=>?_⟩;have A7:=A6.same k7;have i4:=k7 _ _ g0;have f1:=Desk.wX (λv r (z:xB H6 r v)=>z.same k7.t) g7;obtain⟨j5,h6⟩:=bWn hA hB;have m8:a3.length<=11:=by rw[hq.2.1];exact h6
 have m5:C.length<=25:=by rw[A7.d.2.1];exact f4
 refine⟨tt,[.ref ml,.bl X],rfl,SqT.of j6,rfl,.ref ml,[.bl X],rfl,.bl X,[],rfl,rfl,?_⟩;dsimp only[yX];refine⟨_,rfl,_,rfl,ds,ml,_,_,rfl,rfl,A7.d.1,hq.1,by rw[bYR,bYR,cQe];omega,λp1 k2=>?_⟩;have b1:=yE k2 (.lst (C.map V.ref++a3.map V.ref));have D8:=qU A7.d.2.1 (λi d e M L=>b1 _ _ (A7.d.2.2 i d e M L)) hq.2.1 (λi d e M L=>b1 _ _ (hq.2.2 i d e M L)) (yB (H:=H7) (a:=p1) (o:= .lst (C.map V.ref++a3.map V.ref)));have l1:∀e∈es++(A++B),Wf e:=λe he=>(cQn.mp he).elim (a8 e) (j5 e);have l9:(es++(A++B)).length<=36:=by rw[cQa];omega
 refine⟨p1,C++a3,es++(A++B),rfl,D8,by omega,l1,(A7.same b1).t,λl8 H8 n2 n4 R8 S8 k8 T8 i2 n3 l0 j4=>?_⟩;have d3:=bZo O (λr h=>nomatch h);obtain⟨n6,R9,f9,e9⟩:=bXc (S:=S) i5 d3 hA hB;obtain⟨-,rfl, -⟩:=Run.det _ rfl i2 (aQQ O f9);have A8:=(A7.same b1).sameT k8 T8;have b8:=k8.lst (b1 _ _ i4);have b3:=Desk.wX (λv r (z:xB H7 r v)=>(z.same b1.t).same k8) f1;have h5:=(hq.same b1.t).same k8;dsimp only[yX];refine⟨_,rfl,z1,λlv g6=>?_⟩;have c1:=yE g6 (.lst [.str "void"]);refine⟨_,rfl,.inr ⟨X,rfl,lv,_,[.str "void"],rfl,rfl,yB,by cases X<;> decide,by cases X<;> decide,by cases X<;> decide,λpr i1=>?_⟩⟩;have c2:=yE i1 (.lst (cQC (if X=true then(1:Int)else 0).toNat [V.str "void"]).flatten);have m3:(cQC (if X=true then(1:Int)else 0).toNat [V.str "void"]).flatten.length<=1:=by cases X<;> decide
 refine⟨d1,pr,D,_,rfl,rfl,c2 _ _ (c1 _ _ b8),yB,by rw[e5,cQe];omega,λpd f8=>?_⟩;have c3:=yE f8 (.lst (D++(cQC (if X=true then(1:Int)else 0).toNat [V.str "void"]).flatten));have b6:=yB (H:=upd (upd H8 lv (.lst [.str "void"])) pr (.lst (cQC (if X=true then(1:Int)else 0).toNat [V.str "void"]).flatten)) (a:=pd) (o:= .lst (D++(cQC (if X=true then(1:Int)else 0).toNat [V.str "void"]).flatten));have cc:=(c1.trans c2).trans c3;generalize upd (upd (upd H8 lv (.lst [.str "void"])) pr (.lst (cQC (if X=true then(1:Int)else 0).toNat [V.str "void"]).flatten)) pd (.lst (D++(cQC (if X=true then(1:Int)else 0).toNat [V.str "void"]).flatten))=H9 at cc b6 ⊢;clear c1 c2 c3 g6 i1 f8;have A9:=A8.same cc;have i7:=cc _ _ b8;have d2:=Desk.wX (λv r (z:xB H8 r v)=>z.same cc.t) b3;have i0:=h5.same cc.t;dsimp only[yX];have h9:R8.length<=26:=by have:=congrArg cXQ e9;rw[bYR,cQa,bYR]at this;cases X<;> simp at this<;> omega
 refine⟨_,rfl,_,rfl,.ref l8,.ref pd,.lst (R8.map z7),rfl,aXz (cc _ _ l0) (z8 (F:=λv r=>xB H9 r v) (λv r z=>jJ z) (Desk.wX (λv r (z:xB H8 r v)=>z.same cc.t) j4)),aXz b6 ?_,bJo aVS _,cQo (aZp (n:=26) (c:=7) (λr _=>W5 r) h9) (by decide),λf7 b0=>⟨_,rfl,onF rfl ?_⟩⟩
 ·rw[e9];refine aZS (z8 (F:=λv r=>xB H9 r v) (λv r z=>jJ z) d2) ?_;cases X with
  |false=>show x4 H9 [] [];unfold x4;trivial
  |true=>show x4 H9 [.str "void"] [.str "void"];unfold x4;exact⟨by unfold Is;rfl,by unfold x4;trivial⟩
 have i9:=A9.same b0;have e4:=b0 _ _ i7;have g4:=Desk.wX (λv r (z:xB H9 r v)=>z.same b0.t) d2;have b7:=i0.same b0.t;clear A7 A8 A9 i4 b8 i7 f1 b3 d2 hq h5 i0 D8;refine⟨_,rfl,z0,λpn l5=>?_⟩;have c1:=yE l5 (.lst []);refine⟨ml,pn,_,rfl,rfl,SqL.of (c1 _ _ b7.1),SqL.of yB,_,rfl,?_⟩;have g3:=i9.same c1;have a1:=c1 _ _ e4;have a7:=Desk.wX (λv r (z:xB f7 r v)=>z.same c1.t) g4;have J:=b7.same c1.t;generalize upd f7 pn (.lst [])=H11 at g3 a1 a7 J ⊢;cases a3 with
 |nil=>exact onT rfl (onT rfl (q _))
 |cons q0 qr=>
 refine onF rfl ?_;obtain⟨e0,er,Z⟩:∃e0 er,A++B=e0::er:=by
  have:=J.2.1;cases h:A++B with
  |nil=>rw[h]at this;simp at this
  |cons x y=>exact⟨x,y,rfl⟩
 have d4:H11 q0=some (.tup (xA e0)):=J.2.2 0 q0 e0 rfl (by rw[Z];rfl);have h0:(xA e0)[0]? =some (.str (Desk.aWM e0)):=by cases e0<;> rfl
 refine⟨_,rfl,ml,_,0,_,rfl,rfl,SqL.of J.1,yR (j:=0) rfl,q0,_,0,_,rfl,rfl,SqT.of d4,yR (j:=0) h0,rfl,_,rfl,?_⟩;rcases hA with rfl|⟨i,j,r,a5,a2,j1,rfl⟩
 ·rcases hB with⟨rfl,rfl⟩|⟨rfl,i,r,d,a5,a2,rfl⟩
  ·cases Z
  ·cases Z;exact onT rfl (q _)
 cases Z;refine onF rfl ?_;refine⟨_,rfl,ml,_,0,_,rfl,rfl,SqL.of J.1,yR (j:=0) rfl,q0,_,1,_,rfl,rfl,SqT.of d4,rfl,?_⟩;dsimp only[yX];refine⟨_,rfl,d1,_,rfl,.inl (SqL.of a1),λca d5=>?_⟩;have c2:=yE d5 (.lst D);obtain⟨pi,g1,g2⟩:=Y6 a7 a5 a2;rw[Y5 a2]at g2;dsimp only[yX];refine⟨_,rfl,_,rfl,d1,_,_,_,rfl,rfl,SqL.of (c2 _ _ a1),yR g1,_,rfl,pi,_,rfl,SqT.of (c2 _ _ g2),(show ¬ (HT.sIx 6 0 none=0/\HT.sIx 6 6 (some 4)=6) by decide),λs1 f3=>?_⟩;have c3:=yE f3 (.tup (qN [.str r.way,.int r.date,.str r.partner,.int r.term,zL r.link,.str r.place] none (some 4)));refine⟨_,rfl,_,rfl,d1,_,_,_,rfl,rfl,SqL.of (c3 _ _ (c2 _ _ a1)),yR g1,pi,_,5,_,rfl,rfl,SqT.of (c3 _ _ (c2 _ _ g2)),rfl,z2,λs2 f2=>?_⟩;have c4:=yE f2 (.tup [.non,.str r.place]);refine⟨s1,s2,_,_,rfl,rfl,SqT.of (c4 _ _ yB),SqT.of yB,(λz=>nomatch z),(show 4+2<=cQb by rw[cQe];decide),(λz=>nomatch z),λ_ s3 e6=>?_⟩;have c5:=yE e6 (.tup (qN [.str r.way,.int r.date,.str r.partner,.int r.term,zL r.link,.str r.place] none (some 4)++ [.non,.str r.place]));have a0:=c5 _ _ (c4 _ _ (c3 _ _ (yB (H:=H11) (a:=ca) (o:= .lst D))));have N:=yB (H:=upd (upd (upd H11 ca (.lst D)) s1 (.tup (qN [.str r.way,.int r.date,.str r.partner,.int r.term,zL r.link,.str r.place] none (some 4)))) s2 (.tup [.non,.str r.place])) (a:=s3) (o:= .tup (qN [.str r.way,.int r.date,.str r.partner,.int r.term,zL r.link,.str r.place] none (some 4)++ [.non,.str r.place]));have cc:=((c2.trans c3).trans c4).trans c5;have g5:H11 ca=none:=d5;generalize upd (upd (upd (upd H11 ca (.lst D)) s1 (.tup (qN [.str r.way,.int r.date,.str r.partner,.int r.term,zL r.link,.str r.place] none (some 4)))) s2 (.tup [.non,.str r.place])) s3 (.tup (qN [.str r.way,.int r.date,.str r.partner,.int r.term,zL r.link,.str r.place] none (some 4)++ [.non,.str r.place]))=H12 at cc a0 N ⊢;have hi:=Bk.zS a5;refine⟨_,rfl,_,rfl,ca,D,(i:Int),i,rfl,rfl,a0,?_,?_⟩
 ·unfold ixN;rw[if_pos (by omega),if_pos (by omega),cQl]
 have c6:xF H11 (upd H12 ca (.lst (D.set i (.ref s3)))):=zO cc g5;have b5:upd H12 ca (.lst (D.set i (.ref s3))) s3=some (.tup [.str r.way,.int r.date,.str r.partner,.int r.term,.non,.str r.place]):=by rw[yJ (λz=>by rw[z,a0]at N;cases N)];exact N
 have b4:=yB (H:=H12) (a:=ca) (o:= .lst (D.set i (.ref s3)));generalize upd H12 ca (.lst (D.set i (.ref s3)))=H13 at c6 b5 b4 ⊢;have a9:=g3.same c6;have e3:=J.same c6.t;have g9:=Desk.wX (λv r (z:xB H11 r v)=>z.same c6.t) a7;clear d5 f3 f2 e6 c2 c3 c4 c5 cc a0 N;refine⟨_,rfl,_,rfl,_,rfl,ml,_,rfl,SqL.of e3.1,λsl j9=>?_⟩;have e1:qN ((q0::qr).map V.ref) none (some 1)= [.ref q0]:=by unfold qN;rw[HT.bZp,show(some (1:Int))=some ((1:Nat):Int)from rfl,aVl,List.drop_zero,Nat.sub_zero,bYR,cQN,Nat.min_eq_left (by omega)];rfl
 rw[e1]at*;have i8:=yE j9 (.lst [.ref q0]);refine⟨ds,sl,_,_,rfl,rfl,i8 _ _ a9.d.1,yB,by rw[bYR,cQe];show C.length+1<=_;omega,λp2 j0=>?_⟩;have j2:=yE j0 (.lst (C.map V.ref++ [.ref q0]));have dd:=i8.trans j2;have l2:=qU (das2:= [q0]) (es2:= [.loose (i:Nat)]) a9.d.2.1 (λi d e M L=>dd _ _ (a9.d.2.2 i d e M L)) rfl (λm d e M L=>by
  match m,M,L with
  |0,M,L=>cases M;cases L;exact dd _ _ (c6 _ _ d4)
  |m+1,M,L=>cases M) (yB (H:=upd H13 sl (.lst [.ref q0])) (a:=p2) (o:= .lst (C.map V.ref++ [.ref q0])))
 refine⟨p2,C++ [q0],es++ [.loose (i:Nat)],rfl,l2,by simp;omega,λe he=>?_,(a9.same dd).t,λl6 k9 m0 m2 m9 n1 c0 m4 c9 m1 f0 h8=>?_⟩
 ·rcases cQn.mp he with z|z
  ·exact a8 e z
  ·rw[bY1.mp z];exact cXb
 have dl:=(aXw (S:=S) i5 a5 a2 j1).1;obtain⟨-,rfl, -⟩:=Run.det _ rfl c9 (Run.snoc O dl);have d0:=c0.lst (dd _ _ b4);have d6:=c0.tup (dd _ _ b5);have b9:=Desk.wX (λv r (z:xB H13 r v)=>(z.same dd.t).same c0) g9;refine⟨_,rfl,.ref l6,.ref ca,.lst ((Bk.xG R i λr'=>{r' with link:=none}).map z7),rfl,aXz f0 (z8 (F:=λv r=>xB k9 r v) (λv r z=>jJ z) h8),aXz d0 (aVO (by rw[List.length_set,e5,Bk.xX]) λm v r' M L=>?_),bJo aVS _,cQo (aZp (n:=25) (c:=7) (λr _=>W5 r) (by rw[Bk.xX];exact i3)) (by decide),λj8 _=>q j8⟩;rw[Bk.xJ]at L;by_cases hm:m=i
 ·subst hm;rw[if_pos rfl,a5]at L;cases L;rw[cX6 (by omega)]at M;cases M;have e2:z7 {r with link:=none}= .tup ([.str r.way,.int r.date,.str r.partner,.int r.term,.non,.str r.place].map vDt):=by
   unfold z7;rw[if_neg (by show ¬r.void=true;rw[a2];decide),Y5 (r:={r with link:=none}) a2];rfl
  rw[e2];exact bJj d6 (by simp[aWv])
 ·rw[if_neg hm]at L;rw[cZY (cQu hm)]at M;obtain⟨v',h3,h4⟩:=bZb b9 L;rw[M]at h3;cases h3;exact jJ h4
end
end Alike
namespace Desk
open PySem L2 PyProof.Rows
section
variable {K:bYO}
abbrev aQX:Stmt:=xK "Refused" "__init__"
theorem aKl:yN ["self","words"] ["self","words"] (yH aQX):=scM
theorem aW0(F:Fun K "__init__" "Refused.__init__" aQX f fd):xH P w K mg base CX0 (n+1) f fd ["self","words"] (wY K):=by
 have b:=aKl;refine F.ok (k:=n) b (λc A outer s H l Q E j h=>?_);obtain⟨e,C,tp,y,rfl,d,g,q⟩:=h;refine⟨_,(yG (bW6 (pv 0) (pv 1) rfl)),?_⟩;exact⟨_,rfl,_,rfl,e,C,tp,rfl,d,g,λi a=>q i a⟩
abbrev Z9:Stmt:=xK "NoLetter" "__init__"
theorem aVq:yN ["self"] ["self"] (yH Z9):=scM
theorem aJ0(a:aWt P w K mg base n "Refused" "__init__" ["self","words"] (wY K))(j:uA K C)(F:Fun K "__init__" "NoLetter.__init__" Z9 f fd):xH P w K mg base CX0 (n+1) f fd ["self"] (wN K C "no letter"):=by
 have d:=aVq;refine F.ok (k:=n) d (λg A outer s H m Q E c h=>?_);obtain⟨e,tp,rfl,i,q⟩:=h;refine⟨_,(yG (y0 (u4 a c rfl (yA (pv 0) (yA yP yD))))),?_⟩;exact⟨_,rfl,e,C,tp,_,rfl,i,j,λl b=>q l b⟩
abbrev aZl:Stmt:=xK "NoTerm" "__init__"
theorem bQt:yN ["self"] ["self"] (yH aZl):=scM
theorem aYG(a:aWt P w K mg base n "Refused" "__init__" ["self","words"] (wY K))(j:uA K C)(F:Fun K "__init__" "NoTerm.__init__" aZl f fd):xH P w K mg base CX0 (n+1) f fd ["self"] (wN K C "no term"):=by
 have d:=bQt;refine F.ok (k:=n) d (λg A outer s H m Q E c h=>?_);obtain⟨e,tp,rfl,i,q⟩:=h;refine⟨_,(yG (y0 (u4 a c rfl (yA (pv 0) (yA yP yD))))),?_⟩;exact⟨_,rfl,e,C,tp,_,rfl,i,j,λl b=>q l b⟩
abbrev aZk:Stmt:=xK "HasOne" "__init__"
theorem bQs:yN ["self"] ["self"] (yH aZk):=scM
theorem aYF(a:aWt P w K mg base n "Refused" "__init__" ["self","words"] (wY K))(j:uA K C)(F:Fun K "__init__" "HasOne.__init__" aZk f fd):xH P w K mg base CX0 (n+1) f fd ["self"] (wN K C "has one"):=by
 have d:=bQs;refine F.ok (k:=n) d (λg A outer s H m Q E c h=>?_);obtain⟨e,tp,rfl,i,q⟩:=h;refine⟨_,(yG (y0 (u4 a c rfl (yA (pv 0) (yA yP yD))))),?_⟩;exact⟨_,rfl,e,C,tp,_,rfl,i,j,λl b=>q l b⟩
abbrev aQW:Stmt:=xK "HasNone" "__init__"
theorem aKk:yN ["self"] ["self"] (yH aQW):=scM
theorem aWZ(a:aWt P w K mg base n "Refused" "__init__" ["self","words"] (wY K))(j:uA K C)(F:Fun K "__init__" "HasNone.__init__" aQW f fd):xH P w K mg base CX0 (n+1) f fd ["self"] (wN K C "has none"):=by
 have d:=aKk;refine F.ok (k:=n) d (λg A outer s H m Q E c h=>?_);obtain⟨e,tp,rfl,i,q⟩:=h;refine⟨_,(yG (y0 (u4 a c rfl (yA (pv 0) (yA yP yD))))),?_⟩;exact⟨_,rfl,e,C,tp,_,rfl,i,j,λl b=>q l b⟩
abbrev qL:Stmt:=xK "OwnThread" "__init__"
theorem aJj:yN ["self"] ["self"] (yH qL):=scM
theorem aZ6(a:aWt P w K mg base n "Refused" "__init__" ["self","words"] (wY K))(j:uA K C)(F:Fun K "__init__" "OwnThread.__init__" qL f fd):xH P w K mg base CX0 (n+1) f fd ["self"] (wN K C "own thread"):=by
 have d:=aJj;refine F.ok (k:=n) d (λg A outer s H m Q E c h=>?_);obtain⟨e,tp,rfl,i,q⟩:=h;refine⟨_,(yG (y0 (u4 a c rfl (yA (pv 0) (yA yP yD))))),?_⟩;exact⟨_,rfl,e,C,tp,_,rfl,i,j,λl b=>q l b⟩
abbrev aQY:Stmt:=xK "SameWay" "__init__"
theorem aKm:yN ["self"] ["self"] (yH aQY):=scM
theorem aW1(a:aWt P w K mg base n "Refused" "__init__" ["self","words"] (wY K))(j:uA K C)(F:Fun K "__init__" "SameWay.__init__" aQY f fd):xH P w K mg base CX0 (n+1) f fd ["self"] (wN K C "same way"):=by
 have d:=aKm;refine F.ok (k:=n) d (λg A outer s H m Q E c h=>?_);obtain⟨e,tp,rfl,i,q⟩:=h;refine⟨_,(yG (y0 (u4 a c rfl (yA (pv 0) (yA yP yD))))),?_⟩;exact⟨_,rfl,e,C,tp,_,rfl,i,j,λl b=>q l b⟩
abbrev vX:Stmt:=xK "OtherPartner" "__init__"
theorem aQ6:yN ["self"] ["self"] (yH vX):=scM
theorem aQG(a:aWt P w K mg base n "Refused" "__init__" ["self","words"] (wY K))(j:uA K C)(F:Fun K "__init__" "OtherPartner.__init__" vX f fd):xH P w K mg base CX0 (n+1) f fd ["self"] (wN K C "other partner"):=by
 have d:=aQ6;refine F.ok (k:=n) d (λg A outer s H m Q E c h=>?_);obtain⟨e,tp,rfl,i,q⟩:=h;refine⟨_,(yG (y0 (u4 a c rfl (yA (pv 0) (yA yP yD))))),?_⟩;exact⟨_,rfl,e,C,tp,_,rfl,i,j,λl b=>q l b⟩
abbrev W0:Stmt:=xK "TooEarly" "__init__"
theorem aVr:yN ["self"] ["self"] (yH W0):=scM
theorem aJ1(a:aWt P w K mg base n "Refused" "__init__" ["self","words"] (wY K))(j:uA K C)(F:Fun K "__init__" "TooEarly.__init__" W0 f fd):xH P w K mg base CX0 (n+1) f fd ["self"] (wN K C "too early"):=by
 have d:=aVr;refine F.ok (k:=n) d (λg A outer s H m Q E c h=>?_);obtain⟨e,tp,rfl,i,q⟩:=h;refine⟨_,(yG (y0 (u4 a c rfl (yA (pv 0) (yA yP yD))))),?_⟩;exact⟨_,rfl,e,C,tp,_,rfl,i,j,λl b=>q l b⟩
abbrev aZj:Stmt:=xK "Copied" "__init__"
theorem bQr:yN ["self"] ["self"] (yH aZj):=scM
theorem aYE(a:aWt P w K mg base n "Refused" "__init__" ["self","words"] (wY K))(j:uA K C)(F:Fun K "__init__" "Copied.__init__" aZj f fd):xH P w K mg base CX0 (n+1) f fd ["self"] (wN K C "copied"):=by
 have d:=bQr;refine F.ok (k:=n) d (λg A outer s H m Q E c h=>?_);obtain⟨e,tp,rfl,i,q⟩:=h;refine⟨_,(yG (y0 (u4 a c rfl (yA (pv 0) (yA yP yD))))),?_⟩;exact⟨_,rfl,e,C,tp,_,rfl,i,j,λl b=>q l b⟩
abbrev Z8:Stmt:=xK "Answered" "__init__"
theorem aVp:yN ["self"] ["self"] (yH Z8):=scM
theorem aJZ(a:aWt P w K mg base n "Refused" "__init__" ["self","words"] (wY K))(j:uA K C)(F:Fun K "__init__" "Answered.__init__" Z8 f fd):xH P w K mg base CX0 (n+1) f fd ["self"] (wN K C "answered"):=by
 have d:=aVp;refine F.ok (k:=n) d (λg A outer s H m Q E c h=>?_);obtain⟨e,tp,rfl,i,q⟩:=h;refine⟨_,(yG (y0 (u4 a c rfl (yA (pv 0) (yA yP yD))))),?_⟩;exact⟨_,rfl,e,C,tp,_,rfl,i,j,λl b=>q l b⟩
abbrev qK:Stmt:=xK "CountsNot" "__init__"
theorem aJi:yN ["self"] ["self"] (yH qK):=scM
theorem aZ5(a:aWt P w K mg base n "Refused" "__init__" ["self","words"] (wY K))(j:uA K C)(F:Fun K "__init__" "CountsNot.__init__" qK f fd):xH P w K mg base CX0 (n+1) f fd ["self"] (wN K C "counts not"):=by
 have d:=aJi;refine F.ok (k:=n) d (λg A outer s H m Q E c h=>?_);obtain⟨e,tp,rfl,i,q⟩:=h;refine⟨_,(yG (y0 (u4 a c rfl (yA (pv 0) (yA yP yD))))),?_⟩;exact⟨_,rfl,e,C,tp,_,rfl,i,j,λl b=>q l b⟩
end
end Desk
namespace End4
open PySem L2 PyProof.Rows
section
variable {K:bYO}{x m qual t:Str}{st:Stmt}{f C R CB CL:Nat}{oc:bYM}{od an:Option Nat}{osl:Array (Option bYM)}{kV doc pm cdv ct:bYM}
structure vY(K:bYO)(x:Str)(st:Stmt)(f:Nat):Prop where
 ns:cQJ K cQm x=some (some (.ref f))
 ex:∃fd,Fun K x x st f fd
def Def(K:bYO)(x:Str)(st:Stmt):Prop:=∃f,vY K x st f
theorem xZ(a:cQJ K cQm x=some (some (.ref f)))(l:K.lookup f=some ⟨oc,od,.func (cXa x x (wC st) (zJ st) (yH st) .none kV doc pm an cdv ct),osl⟩)
  (c:cXz K cdv x=true) (k:cQK K (.ref f)=true):vY K x st f:=⟨a,_,aXx l c k⟩
theorem xP(a:cQJ K cQm x=some (some (.ref f)))(l:K.lookup f=some ⟨oc,od,.func (cXa x x (wC st) (zJ st) (yH st) .none kV doc pm an cdv ct),osl⟩)
  (c:cXz K cdv x=true) (k:cQK K (.ref f)=true):Def K x st:=⟨f,xZ a l c k⟩
structure Mtd(K:bYO)(C:Nat)(m qual:Str)(st:Stmt):Prop where
 ex:∃f fd,bWp K C m f/\Fun K m qual st f fd
theorem x9(a:cQy K (.ref C) m=some (some (.ref f)))(i:cZw K (.ref f)=true)(l:K.lookup f=some ⟨oc,od,.func (cXa m qual (wC st) (zJ st) (yH st) .none kV doc pm an cdv ct),osl⟩)
  (c:cXz K cdv qual=true) (k:cQK K (.ref f)=true):Mtd K C m qual st:=⟨f,_,⟨a,i,k⟩,aXx l c k⟩
structure MkD(K:bYO)(x:Str)(C:Nat)(qual:Str)(st:Stmt):Prop where
 ns:cQJ K cQm x=some (some (.ref C))
 ex:∃f fd,Mk K C f/\Fun K "__init__" qual st f fd
theorem bJn(a:cQJ K cQm x=some (some (.ref C)))(mk:PySem.W.makesIn K C=true)(d:cQK K (.ref C)=true)(b:cQy K (.ref C) "__init__"=some (some (.ref f)))(i:cZw K (.ref f)=true) (l:K.lookup f=some ⟨oc,od,.func (cXa "__init__" qual (wC st) (zJ st) (yH st) .none kV doc pm an cdv ct),osl⟩) (c:cXz K cdv qual=true) (k:cQK K (.ref f)=true):MkD K x C qual st:=
 ⟨a,f,_,⟨mk,b,i,d⟩,aXx l c k⟩
structure Exc(K:bYO)(R:Nat)(x qual:Str)(st:Stmt):Prop where
 ex:∃C f fd,cQJ K cQm x=some (some (.ref C))/\uA K C/\cZ4 K C (.ref R)=some true/\cQy K (.ref C) "__init__"=some (some (.ref f))/\cZw K (.ref f)=true/\cQK K (.ref C)=true/\Fun K "__init__" qual st f fd
theorem uW(a:cQJ K cQm x=some (some (.ref C)))(e:bXp K C=true)(b:cZ4 K C (.ref R)=some true)(g:cQK K (.ref C)=true)(d:cQy K (.ref C) "__init__"=some (some (.ref f)))(i:cZw K (.ref f)=true) (l:K.lookup f=some ⟨oc,od,.func (cXa "__init__" qual (wC st) (zJ st) (yH st) .none kV doc pm an cdv ct),osl⟩) (c:cXz K cdv qual=true) (k:cQK K (.ref f)=true):Exc K R x qual st:=
 ⟨C,f,_,a,aK8 e,b,d,i,g,aXx l c k⟩
structure bKR(K:bYO)(x:Str)(R:Nat)(qual:Str)(st:Stmt):Prop where
 ns:cQJ K cQm x=some (some (.ref R))
 cl:uA K R
 ex:∃f fd,PySem.W.readsIn K R (.type "type")=true/\PySem.W.findCls K (.ref R) (.type "type") "__init__"=some (.val (.ref f))/\cJo K (.ref R) "__getattribute__"=some (some (.builtin "type.__getattribute__"))/\Fun K "__init__" qual st f fd
theorem bVF(a:cQJ K cQm x=some (some (.ref R)))(e:bXp K R=true)(rd:PySem.W.readsIn K R (.type "type")=true)(b:PySem.W.findCls K (.ref R) (.type "type") "__init__"=some (.val (.ref f))) (sp:cJo K (.ref R) "__getattribute__"=some (some (.builtin "type.__getattribute__"))) (l:K.lookup f=some ⟨oc,od,.func (cXa "__init__" qual (wC st) (zJ st) (yH st) .none kV doc pm an cdv ct),osl⟩) (c:cXz K cdv qual=true) (k:cQK K (.ref f)=true):bKR K x R qual st:=
 ⟨a,aK8 e,f,_,rd,b,sp,aXx l c k⟩
theorem bKV(b1:cZx K CB Str.empty=true)(i:cZL K CB=true)(r:cJn K CB=true)(n:cQy K (.ref CB) "__setattr__"=some (some (.builtin "object.__setattr__")))
  (o:cZx K CL Str.empty=true) (h:cZL K CL=true) (m:cJn K CL=true) (d:cQy K (.ref CL) "__setattr__"=some (some (.builtin "object.__setattr__")))
  (c:cQy K (.ref CB) "letters"=some none) (k:cQy K (.ref CB) "shut"=some none)
  (e:cQy K (.ref CL) "number"=some none) (g:cQy K (.ref CL) "way"=some none) (j:cQy K (.ref CL) "day"=some none) (p:cQy K (.ref CL) "partner"=some none)
  (l:cQy K (.ref CL) "term"=some none) (q:cQy K (.ref CL) "link"=some none) (f:cQy K (.ref CL) "file"=some none) (b:cQy K (.ref CL) "copies"=some none) (a:cQy K (.ref CL) "void"=some none):
  Desk.Cl K CB CL:=⟨⟨b1,i,r,n⟩,⟨o,h,m,d⟩,c,k,e,g,j,p,l,q,f,b,a⟩
end
section
variable {P:bY8}{w:cQg}{K:bYO}{h:Heap}{mg:Str->Option bYM}{base:Heap}{x m qual t:Str}{st:Stmt}{f C R:Nat}{k:Nat}{ps:List Str}{sp:Sp}{CX:CXT}
def aXf(x qual:Str)(st:Stmt)(ps:List Str):Prop:=∀ (kV doc pm:bYM)(an:Option Nat)(cdv ct:bYM)(a:List bYM),a.length=ps.length->bindArgs (cXa x qual (wC st) (zJ st) (yH st) .none kV doc pm an cdv ct) ⟨a,[]⟩=pure (ps.zip a)
theorem aQc{a:cXL}(F:Fun K x qual st f a):cQK K (.ref f)=true:=F.2
theorem gOf(P:bY8)(w:cQg)(base:Heap)(k:Nat)(X:K.In h)(G:h.Ns cQm mg)(D:Def K x st)(b:aXf x x st ps)(ok:∀f c,Fun K x x st f c->xH P w K mg base CX0 k f c ps sp):FnG P w K mg base k x ps sp:=by
 obtain⟨f,a,c,F⟩:=D;exact⟨f,c,ok f c F,F.binds b,aQc F,cXI X G a⟩
theorem xOf(P:bY8)(w:cQg)(base:Heap)(k:Nat)(X:K.In h)(G:h.Ns cQm mg)(D:Def K x st)(b:aXf x x st ps)(ok:∀f c,Fun K x x st f c->xH P w K mg base (CXR P w) k f c ps sp):FnX P w K mg base k x ps sp:=by
 obtain⟨f,a,c,F⟩:=D;exact⟨f,c,ok f c F,F.binds b,aQc F,cXI X G a⟩
structure DoG(P:bY8)(w:cQg)(K:bYO)(mg:Str->Option bYM)(base:Heap)(k:Nat)(f:Nat)(ps:List Str)(sp:Sp):Prop where
 ex:∃fd,xH P w K mg base (CXR P w) k f fd ps sp/\v9 K fd ps []/\cQK K (.ref f)=true
theorem dOf(mg:Str->Option bYM)(P:bY8)(w:cQg)(base:Heap)(k:Nat)(D:vY K x st f)(b:aXf x x st ps)(ok:∀f c,Fun K x x st f c->xH P w K mg base (CXR P w) k f c ps sp):DoG P w K mg base k f ps sp:=by
 obtain⟨a,c,F⟩:=D;exact⟨c,ok f c F,F.binds b,aQc F⟩
theorem mOf(mg:Str->Option bYM)(P:bY8)(w:cQg)(base:Heap)(k:Nat)(c:Cls K C)(D:Mtd K C m qual st)(b:aXf m qual st ps)(ok:∀f a,Fun K m qual st f a->xH P w K mg base CX0 k f a ps sp):MG P w K mg base CX0 k C m ps sp:=by
 obtain⟨f,a,M,F⟩:=D.ex;exact⟨⟨f,a,ok f a F,F.binds b,M⟩,c⟩
theorem aJW(mg:Str->Option bYM)(P:bY8)(w:cQg)(base:Heap)(k:Nat)(c:Cls K C)(D:Mtd K C m qual st)(b:aXf m qual st ps)(ok:∀f a,Fun K m qual st f a->xH P w K mg base (CXR P w) k f a ps sp):MG P w K mg base (CXR P w) k C m ps sp:=by
 obtain⟨f,a,M,F⟩:=D.ex;exact⟨⟨f,a,ok f a F,F.binds b,M⟩,c⟩
theorem kOf(P:bY8)(w:cQg)(base:Heap)(k:Nat)(X:K.In h)(G:h.Ns cQm mg)(D:MkD K x C qual st)(b:aXf "__init__" qual st ps)(ok:∀f a,Fun K "__init__" qual st f a->xH P w K mg base CX0 k f a ps sp):MkG P w K mg base k x C ps sp:=by
 obtain⟨f,a,M,F⟩:=D.ex;exact⟨⟨f,a,ok f a F,F.binds b,M,cXI X G D.ns⟩⟩
theorem eOf(P:bY8)(w:cQg)(base:Heap)(k:Nat)(t:Str)(X:K.In h)(G:h.Ns cQm mg)(D:Exc K R x qual st)(b:aXf "__init__" qual st ["self"])(ok:∀C f c,uA K C->Fun K "__init__" qual st f c->xH P w K mg base CX0 k f c ["self"] (wN K C t)):∃C,ExG P w K mg base k x R C t:=by
 obtain⟨C,f,c,a,e,g,j,i,d,F⟩:=D.ex;exact⟨C,⟨f,c,ok C f c e F,F.binds b,j,i,d,cXI X G a⟩,e,g⟩
theorem rOf(P:bY8)(w:cQg)(base:Heap)(k:Nat)(X:K.In h)(G:h.Ns cQm mg)(D:bKR K x R qual st)(b:aXf "__init__" qual st ps)(ok:∀f a,Fun K "__init__" qual st f a->xH P w K mg base CX0 k f a ps sp):aWt P w K mg base k x "__init__" ps sp:=by
 obtain⟨f,a,rd,c,s,F⟩:=D.ex;exact⟨⟨R,f,a,ok f a F,F.binds b,rd,c,s,aQc F,cXI X G D.ns⟩⟩
end
def Pr(w:cQg):List DictEntry->List (Str×Nat)->Prop
 |[],[]=>True
 |e::es,(x,f)::r=>(∃t,e.key= .str x t)/\e.hash=hashStr w x/\e.val= .ref f/\Pr w es r
 |_,_=>False
abbrev bJk(r:List (Str×Nat)):List (Key×bYM):=r.map λp=>(Sum.inr p.1,.ref p.2)
theorem aV1{P:bY8}{w:cQg}:∀ {a:List DictEntry} {r:List (Str×Nat)},Pr w a r->Pairs (zE P w) a (bJk r)
 |[],[],_=> .nil
 |e::a,(x,f)::r,⟨⟨t,h1⟩,h2,h3,h4⟩=> .cons (by rw[h1];exact qI P w x t) h3 (aV1 h4)
 |[],_::_,h=>nomatch h
 |_::_,[],h=>nomatch h
theorem aY2{P:bY8}{w:cQg}:∀ {a:List DictEntry} {r:List (Str×Nat)},Pr w a r->∀e∈a,∃k,(zE P w).is k e.key=true/\e.hash=(zE P w).hash k
 |[],_,_,e,he=>nomatch he
 |e::a,(x,f)::r,⟨⟨t,h1⟩,h2,h3,h4⟩,e',he=>by
  rcases bYX.mp he with rfl|z
  ·exact⟨Sum.inr x,by rw[h1];exact qI P w x t,h2⟩
  ·exact aY2 h4 e' z
 |_::_,[],h,_,_=>nomatch h
theorem bWi{P:bY8}{w:cQg}{K:bYO}{D:Nat}{d:Array DictEntry}{f:Nat}{r:List (Str×Nat)}(l:K.lookup D=some ⟨.type "dict",none,.dict d f, #[]⟩)(p:Pr w d.toList r)(g:(r.map (·.1)).Nodup):Desk.bKT P w K D (bJk r):=by
 refine⟨⟨_,d,f,l,⟨rfl,rfl,rfl⟩,rfl,λe h=>aY2 p e (Array.mem_toList_iff.mpr h),aV1 p,?_⟩⟩;have e:(bJk r).map (·.1)=(r.map (·.1)).map Sum.inr:=by simp[bJk,Function.comp_def]
 rw[e];exact List.Pairwise.map _ (λa b c z=>c (Sum.inr.inj z)) g
theorem uR:∀ {r:List (Str×Nat)} {x:Str} {f:Nat},(r.map (·.1)).Nodup->∀i:Nat,r[i]? =some (x,f)->cJc (bJk r) (Sum.inr x:Key)=some (.ref f)
 |[],_,_,_,_,h=>by simp at h
 |(y,g)::r,x,f,nd,0,h=>by cases h;simp[cJc,bJk]
 |(y,g)::r,x,f,nd,i+1,h=>by
  have c:r[i]? =some (x,f):=by simpa using h
  have a:=cXW.mp nd;have d:¬ ((Sum.inr y:Key)=Sum.inr x):=λz=>a.1 (by
   rw[Sum.inr.inj z];exact cQR.mpr ⟨(x,f),bY5 c,rfl⟩)
  have b:=uR a.2 i c;unfold cJc at b ⊢;simp only[bJk,cQz,cZc,decide_eq_false d]at b ⊢;exact b
end End4
namespace L2
open PySem
section
variable {P:bY8}{w:cQg}{K:bYO}{mg:Str->Option bYM}{base:Heap}{j k:Nat}{x t:Str}{ps:List Str}{sp:Sp}{C Rf:Nat}{CX:CXT}
theorem FnG.up(G:FnG P w K mg base j x ps sp)(h:j<=k:=by decide):FnG P w K mg base k x ps sp:=G.mono h
theorem FnX.up(G:FnX P w K mg base j x ps sp)(h:j<=k:=by decide):FnX P w K mg base k x ps sp:=G.mono h
theorem MG.up(G:MG P w K mg base CX j C x ps sp)(h:j<=k:=by decide):MG P w K mg base CX k C x ps sp:=G.mono h
theorem MkG.up(G:MkG P w K mg base j x C ps sp)(h:j<=k:=by decide):MkG P w K mg base k x C ps sp:=G.mono h
theorem ExG.up(G:ExG P w K mg base j x Rf C t)(h:j<=k:=by decide):ExG P w K mg base k x Rf C t:=G.mono h
end
end L2
namespace End4
open PySem L2 PyProof.Rows
theorem bdA{x qual:Str}{st:Stmt}{ps:List Str}(h:aXf x qual st ps:=by
  intro a b c d e f u h;rcases u with _|⟨_,_|⟨_,_|⟨_,_|⟨_,_|⟨_,_|⟨_,_|⟨_,_⟩⟩⟩⟩⟩⟩⟩<;> first|(cases h;done)|kernel_rfl):aXf x qual st ps:=h
end End4
namespace End4
open PySem L2 PyProof.Rows
set_option maxHeartbeats 0 in
theorem all_mk{l:PySem.W.OpenLaw}{w:cQg}{K:bYO}{h:Heap}{mg:Str->Option bYM}{fa R L CL cA J fA fL DD i y D x E I z A B H u q r p k j:Nat}{h7 b7:Option Nat}{h6:Array (Option bYM)}{i1 j7 j2 e7 j8:bYM}{a7:Array DictEntry}{k1:Nat}{tW tO:Tok} (X:K.In h) (G:h.Ns cQm mg) (b4:mg "law"=some (.ref fa)) (d59:bKR K "Refused" R "Refused.__init__" Desk.aQX) (d60:Exc K R "NoLetter" "NoLetter.__init__" Desk.Z9) (d61:Exc K R "NoTerm" "NoTerm.__init__" Desk.aZl) (d62:Exc K R "HasOne" "HasOne.__init__" Desk.aZk) (d63:Exc K R "HasNone" "HasNone.__init__" Desk.aQW) (d64:Exc K R "OwnThread" "OwnThread.__init__" Desk.qL) (d65:Exc K R "SameWay" "SameWay.__init__" Desk.aQY) (d66:Exc K R "OtherPartner" "OtherPartner.__init__" Desk.vX) (d67:Exc K R "TooEarly" "TooEarly.__init__" Desk.W0) (d68:Exc K R "Copied" "Copied.__init__" Desk.aZj) (d69:Exc K R "Answered" "Answered.__init__" Desk.Z8) (d70:Exc K R "CountsNot" "CountsNot.__init__" Desk.qK) (d9:MkD K "Letter" CL "Letter.__init__" Desk.bQh) (d24:MkD K "Book" L "Book.__init__" Desk.bQa) (cl:Desk.Cl K L CL) (d10:Mtd K CL "state" "Letter.state" Desk.bQm) (d11:Mtd K CL "is_answered_by" "Letter.is_answered_by" Desk.aY9) (d12:Mtd K CL "has_gone_to" "Letter.has_gone_to" Desk.bVJ) (d13:Mtd K CL "make_void" "Letter.make_void" Desk.bVS) (d15:Mtd K L "letter_at" "Book.letter_at" Desk.aQT) (d16:Mtd K L "answers_to" "Book.answers_to" Desk.aV5) (d17:Mtd K L "copies_of" "Book.copies_of" Desk.aQS) (d18:Mtd K L "state_of" "Book.state_of" Desk.aZh) (d19:Mtd K L "letters_in" "Book.letters_in" Desk.jP) (d20:Mtd K L "answered_by" "Book.answered_by" Desk.aQR) (d21:Mtd K L "waiting_pairs" "Book.waiting_pairs" Desk.bQj) (d22:Mtd K L "waiting" "Book.waiting" Desk.aQg) (d23:Mtd K L "overdue" "Book.overdue" Desk.aQf) (d25:Mtd K L "add_letter" "Book.add_letter" Desk.bK5) (d28:Mtd K L "enter" "Book.enter" Desk.bQg) (d29:Mtd K L "reply" "Book.reply" Desk.bQl) (d30:Mtd K L "loosen" "Book.loosen" Desk.aVm) (d31:Mtd K L "put_term" "Book.put_term" Desk.aZf) (d32:Mtd K L "send_copy" "Book.send_copy" Desk.bVQ) (d33:Mtd K L "cancel" "Book.cancel" Desk.aVi) (d34:Mtd K L "shut_day" "Book.shut_day" Desk.bVR) (d35:Mtd K L "put_day" "Book.put_day" Desk.aVn) (d36:Mtd K L "thread_of" "Book.thread_of" Desk.Y3) (d37:Mtd K L "lay_thread" "Book.lay_thread" Desk.bK9) (d38:Mtd K L "check_hanging" "Book.check_hanging" Desk.bQb) (d39:Mtd K L "hang" "Book.hang" Desk.bVL) (d57:Mtd K L "standing_states" "Book.standing_states" Desk.aZi) (d1:Def K "open_by_rest" Days.bVO) (d2:Def K "place_of" Days.bQk) (d3:Def K "counts" Days.aVj) (d4:Def K "closed_days" Days.aZb) (d5:Def K "day_at" Days.bQd) (d6:Def K "due_day" Days.bK7) (d7:Def K "top_of" Thr.bQp) (d8:Def K "thread" Thr.aVo) (d14:Def K "other_way" Desk.bQi) (d26:Def K "check_term" Desk.bQn) (d27:Def K "check_days" Desk.bQe) (d56:Def K "answer" Desk.aVg) (d58:Def K "standing" Desk.aQU) (d71:Def K "_law_good" Law.bVK) (d72:Def K "_law_kids_of" Law.bZq) (d73:Def K "_law_waits_on" Law.aV7) (d74:Def K "_law_due_by" Law.bQf) (d75:Def K "_law_list_on" Law.aZe) (d76:Def K "_law_family" Law.aZd) (d77:Def K "_law_lost" Law.bVN) (d78:Def K "_law_dated" Law.bQc) (d79:Def K "_law_hung" Law.bVM) (d80:Def K "_law_entered" Law.aZc) (d81:Def K "_law_with_one" Law.bVT) (d82:Def K "_law_told_of" Law.bQo) (d83:Def K "_law_done_by" Law.bVI) (d84:Def K "_law_hanging" Law.aQe) (d85:Def K "_law_about" Law.aV4) (d86:Def K "_law_deed_at" Law.aVk) (d87:Def K "_law_story" Law.aV6) (d88:Def K "_law_whole" Alike.bQq) (d89:Def K "_law_room" Alike.bVP) (d90:Def K "_law_alike" Alike.aY8) (d91:Def K "_law_at" Alike.sAt) (d92:Def K "_law_unturned" Alike.aQV) (d93:Def K "_law_book_of" Alike.aVh) (d94:Def K "_law_standing_of" Alike.aZg) (d95:Def K "_law_there_and_back" Alike.bKf) (d40:vY K "do_enter" Desk.W1 i) (d41:vY K "do_reply" Desk.W4 y) (d42:vY K "do_hang" Desk.aQ2 D) (d43:vY K "do_loose" Desk.W3 x) (d44:vY K "do_date" Desk.aQ0 E) (d45:vY K "do_term" Desk.aQ4 I) (d46:vY K "do_copy" Desk.aQZ z) (d47:vY K "do_file" Desk.aQ1 A) (d48:vY K "do_void" Desk.aQ5 B) (d49:vY K "do_shut" Desk.aQ3 H) (d50:vY K "ask_state" Desk.qM u) (d51:vY K "ask_thread" Desk.jA q) (d52:vY K "ask_copies" Desk.u9 r) (d53:vY K "ask_letters" Desk.uH p) (d54:vY K "ask_waiting" Desk.uJ k) (d55:vY K "ask_overdue" Desk.uI j) (dL:vY K "law" Alike.bK8 fL) (aA:cQJ K cQm "answers_to_each"=some (some (.ref fA))) (lA:K.lookup fA=some ⟨i1,h7,.func (cXa "answers_to_each" "answers_to_each" (wC Thr.aVf) (zJ Thr.aVf) (yH Thr.aVf) .none j7 j2 e7 b7 (.ref cA) j8),h6⟩) (cA1:cXz K (.ref cA) "answers_to_each"=true) (kA:cQK K (.ref fA)=true) (nD:cQJ K cQm "DEEDS"=some (some (.ref DD))) (lD:K.lookup DD=some ⟨.type "dict",none,.dict a7 k1, #[]⟩) (pD:Pr w a7.toList [("in",i),("out",i),("reply",y),("hang",D),("loose",x),("date",E),("term",I),("copy",z),("file",A),("void",B),("shut",H),("state",u),("thread",q),("copies",r),("letters",p),("waiting",k),("overdue",j)]) (z_len:cQJ K cQm "len"=some none) (z_min:cQJ K cQm "min"=some none) (z_sum:cQJ K cQm "sum"=some none) (z_sorted:cQJ K cQm "sorted"=some none) (z_isinstance:cQJ K cQm "isinstance"=some none) (z_int:cQJ K cQm "int"=some none) (z_str:cQJ K cQm "str"=some none) (z_bool:cQJ K cQm "bool"=some none) (z_list:cQJ K cQm "list"=some none) (z_tuple:cQJ K cQm "tuple"=some none) (z_set:cQJ K cQm "set"=some none) (z_range:cQJ K cQm "range"=some none) (z_reversed:cQJ K cQm "reversed"=some none) (z_max:cQJ K cQm "max"=some none) (y_week:cQJ K cQm "WEEK"=some (some (.int 7 tW))) (y_open:cQJ K cQm "OPEN_DAYS"=some (some (.int 5 tO))) (tb:cJv K cA J=true) (tn:K.lookup J=none) :∃ (g:cXL)(c:Nat),cJv K c J=true/\K.lookup J=none/\(∀ (s:bYP)(v:bYM),BindsTo s g ⟨[v],[]⟩ [("_law_script",v)])/\∀base:Heap,K.In base->base.Ns cQm mg->cXR base c J->base.BuiltinsAt mg J->xH l.prog w K mg base CX0 11 fa g ["_law_script"] (Alike.bZR J K):=by
 obtain⟨aL,a6,Q⟩:=dL;have e:=b4.symm.trans (cXI X G aL);cases e;have TD:Days.vP mg:=⟨bY2 X G z_len,bY2 X G z_min,bY2 X G z_sum,bY2 X G z_sorted,bY2 X G z_isinstance,bY2 X G z_int,bY2 X G z_str,bY2 X G z_bool,bY2 X G z_list,bY2 X G z_tuple,bY2 X G z_set,bY2 X G z_range,bY2 X G z_reversed,⟨_,cXI X G y_week⟩,⟨_,cXI X G y_open⟩⟩;have TT:Thr.vP mg:=⟨bY2 X G z_len,bY2 X G z_sorted,bY2 X G z_isinstance,bY2 X G z_int,bY2 X G z_str,bY2 X G z_bool,bY2 X G z_list,bY2 X G z_tuple,bY2 X G z_range⟩;have TB:Desk.vP mg:=⟨bY2 X G z_len,bY2 X G z_sorted,bY2 X G z_list⟩;have T:Law.vP mg:=⟨bY2 X G z_len,bY2 X G z_range⟩;have TA:Alike.vP mg:=⟨bY2 X G z_len,bY2 X G z_sorted,bY2 X G z_isinstance,bY2 X G z_int,bY2 X G z_str,bY2 X G z_bool,bY2 X G z_list,bY2 X G z_tuple,bY2 X G z_range⟩;have bL:∀ (s:bYP)(v:bYM),BindsTo s a6 ⟨[v],[]⟩ [("_law_script",v)]:=by obtain⟨oc,od,kV,l7,pm,an,l4,ct,l5,rfl,lk,l6⟩:=Q.ex;exact λs v=> .of_eq rfl
 refine⟨a6,cA,tb,tn,bL,λbase _ _ N hB=>?_⟩;have g0:FnG l.prog w K mg base 2 "answers_to_each" ["links","dates"] (Thr.bWc J):=⟨fA,_,Thr.bWV TT N hB lA cA1,(aXx (st:=Thr.aVf) lA cA1 kA).binds bdA,kA,cXI X G aA⟩;have g1:=gOf l.prog w base 1 X G d1 bdA λf g F=>Days.bVs TD F;have g2:=gOf l.prog w base 1 X G d2 bdA λf g F=>Days.bX3 TD F;have g3:=gOf l.prog w base 2 X G d3 bdA λf g F=>Days.aYL TD g1.up F;have g4:=gOf l.prog w base 2 X G d4 bdA λf g F=>Days.aYK TD g1.up F;have g5:=gOf l.prog w base 1 X G d5 bdA λf g F=>Days.bXW TD F;have g6:=gOf l.prog w base 3 X G d6 bdA λf g F=>Days.bWW TD g4.up g2.up g5.up F;have g7:=gOf l.prog w base 1 X G d7 bdA λf g F=>Thr.bX8 TT F;have g8:=gOf l.prog w base 3 X G d8 bdA λf g F=>Thr.aYS TT g0.up g7.up F;have g9:=kOf l.prog w base 1 X G d9 bdA λf g F=>Desk.bX0 (n:=0) cl F;have b0:=mOf mg l.prog w base 1 cl.l d10 bdA λf g F=>Desk.bX5 (n:=0) cl F;have f3:=mOf mg l.prog w base 1 cl.l d11 bdA λf g F=>Desk.bXR (n:=0) cl F;have c7:=mOf mg l.prog w base 1 cl.l d12 bdA λf g F=>Desk.bVl (n:=0) cl F;have h0:=mOf mg l.prog w base 1 cl.l d13 bdA λf g F=>Desk.bVx (n:=0) cl F;have h2:=gOf l.prog w base 1 X G d14 bdA λf g F=>Desk.bX1 (n:=0) F;have a4:=mOf mg l.prog w base 2 cl.b d16 bdA λf g F=>Desk.bXS (n:=1) cl f3.up F;have k6:=mOf mg l.prog w base 1 cl.b d19 bdA λf g F=>Desk.aZ8 (n:=0) cl F;have e8:=mOf mg l.prog w base 1 cl.b d20 bdA λf g F=>Desk.aJ2 (n:=0) cl F;have a9:=mOf mg l.prog w base 4 cl.b d21 bdA λf g F=>Desk.bX2 (n:=3) TB cl e8.up g6.up F;have f5:=mOf mg l.prog w base 5 cl.b d22 bdA λf g F=>Desk.aKf (n:=4) cl a9.up F;have h3:=mOf mg l.prog w base 5 cl.b d23 bdA λf g F=>Desk.aKb (n:=4) cl a9.up F;have k5:=kOf l.prog w base 1 X G d24 bdA λf g F=>Desk.bXT (n:=0) cl F;have a8:=mOf mg l.prog w base 3 cl.b d25 bdA λf g F=>Desk.bWU (n:=1) TB cl g9.up F;have j5:=dOf mg l.prog w base 2 d53 bdA λf g F=>Desk.aXm (n:=1) (Rf:=(R,J)) k6.up F;have d0:=dOf mg l.prog w base 6 d54 bdA λf g F=>Desk.aXo (n:=5) (Rf:=(R,J)) f5.up F;have c6:=dOf mg l.prog w base 6 d55 bdA λf g F=>Desk.aXn (n:=5) (Rf:=(R,J)) h3.up F;have j3:=mOf mg l.prog w base 2 cl.b d57 bdA λf g F=>Desk.aYR (n:=1) cl b0.up F;have M:=rOf l.prog w base 1 X G d59 bdA λf g F=>Desk.aW0 (n:=0) F;obtain⟨_,e9⟩:=eOf l.prog w base 2 "no letter" X G d60 bdA λC f g N F=>Desk.aJ0 (n:=1) M N F;obtain⟨_,e2⟩:=eOf l.prog w base 2 "no term" X G d61 bdA λC f g N F=>Desk.aYG (n:=1) M N F;obtain⟨_,c4⟩:=eOf l.prog w base 2 "has one" X G d62 bdA λC f g N F=>Desk.aYF (n:=1) M N F;obtain⟨_,c5⟩:=eOf l.prog w base 2 "has none" X G d63 bdA λC f g N F=>Desk.aWZ (n:=1) M N F;obtain⟨_,e0⟩:=eOf l.prog w base 2 "own thread" X G d64 bdA λC f g N F=>Desk.aZ6 (n:=1) M N F;obtain⟨_,k4⟩:=eOf l.prog w base 2 "same way" X G d65 bdA λC f g N F=>Desk.aW1 (n:=1) M N F;obtain⟨_,i6⟩:=eOf l.prog w base 2 "other partner" X G d66 bdA λC f g N F=>Desk.aQG (n:=1) M N F;obtain⟨_,h9⟩:=eOf l.prog w base 2 "too early" X G d67 bdA λC f g N F=>Desk.aJ1 (n:=1) M N F;obtain⟨_,b2⟩:=eOf l.prog w base 2 "copied" X G d68 bdA λC f g N F=>Desk.aYE (n:=1) M N F;obtain⟨_,c8⟩:=eOf l.prog w base 2 "answered" X G d69 bdA λC f g N F=>Desk.aJZ (n:=1) M N F;obtain⟨_,e4⟩:=eOf l.prog w base 2 "counts not" X G d70 bdA λC f g N F=>Desk.aZ5 (n:=1) M N F;have S:=gOf l.prog w base 1 X G d71 bdA λf g F=>Law.bVm T F;have a0:=gOf l.prog w base 1 X G d72 bdA λf g F=>Law.bVp T F;have j1:=gOf l.prog w base 2 X G d73 bdA λf g F=>Law.bX9 T (bY2 X G z_min) a0.up F;have b6:=gOf l.prog w base 1 X G d74 bdA λf g F=>Law.bXY T F;have e1:=gOf l.prog w base 3 X G d75 bdA λf g F=>Law.aYO T (bY2 X G z_sorted) j1.up b6.up F;have Y:=gOf l.prog w base 2 X G d76 bdA λf g F=>Law.aYN T (bY2 X G z_sorted) F;have f6:=gOf l.prog w base 2 X G d77 bdA λf g F=>Law.bVq a0.up F;have j4:=gOf l.prog w base 2 X G d78 bdA λf g F=>Law.bXV a0.up F;have b8:=gOf l.prog w base 3 X G d79 bdA λf g F=>Law.bVo S.up Y.up F;have k9:=gOf l.prog w base 3 X G d80 bdA λf g F=>Law.aW9 T (bY2 X G z_int) S.up F;have f8:=gOf l.prog w base 3 X G d81 bdA λf g F=>Law.bVy T S.up j4.up f6.up Y.up F;have f4:=gOf l.prog w base 4 X G d82 bdA λf g F=>Law.bVw T (bY2 X G z_list) (bY2 X G z_tuple) S.up e1.up Y.up F;have a5:=gOf l.prog w base 5 X G d83 bdA λf g F=>Law.bVk k9.up b8.up f4.up f8.up F;have k8:=gOf l.prog w base 2 X G d84 bdA λf g F=>Law.aKa T (bY2 X G z_int) S.up F;have i8:=gOf l.prog w base 2 X G d85 bdA λf g F=>Law.bXP T (bY2 X G z_int) S.up F;have b3:=gOf l.prog w base 3 X G d86 bdA λf g F=>Law.aYM T (bY2 X G z_int) (bY2 X G z_max) S.up k8.up i8.up F;have c3:=gOf l.prog w base 6 X G d87 bdA λf g F=>Law.bX6 T a5.up b3.up F;have j9:=gOf l.prog w base 1 X G d88 bdA λf g F=>Alike.bZa TA F;have f1:=gOf l.prog w base 1 X G d89 bdA λf g F=>Alike.bVt TA F;have l0:=gOf l.prog w base 2 X G d90 bdA λf g F=>Alike.bXQ TA j9.up F;have l1:=gOf l.prog w base 1 X G d91 bdA λf g F=>Alike.bVi TA F;have b5:=gOf l.prog w base 1 X G d92 bdA λf g F=>Alike.aJ9 TA F;have i4:=gOf l.prog w base 6 X G d93 bdA λf g F=>Alike.aYI (n:=5) a5.up F;have i3:=gOf l.prog w base 1 X G d94 bdA λf g F=>Alike.aKd TA F;have l2:=gOf l.prog w base 2 X G d95 bdA λf g F=>Alike.bWZ (n:=1) TA l1.up F;have O:=aJW mg l.prog w base 4 cl.b d15 bdA λf g F=>Desk.bVi (n:=2) (Rf:=(R,J)) TB cl e9.up F;have k2:=aJW mg l.prog w base 5 cl.b d17 bdA λf g F=>Desk.aJ3 (n:=4) (Rf:=(R,J)) TB cl O.up F;have h8:=aJW mg l.prog w base 5 cl.b d18 bdA λf g F=>Desk.aKe (n:=4) (Rf:=(R,J)) cl O.up b0.up F;have Z:=xOf l.prog w base 4 X G d26 bdA λf g F=>Desk.bX7 (n:=2) (Rf:=(R,J)) e2.up F;have a1:=xOf l.prog w base 4 X G d27 bdA λf g F=>Desk.bXX (n:=2) (Rf:=(R,J)) h9.up F;have f2:=aJW mg l.prog w base 5 cl.b d28 bdA λf g F=>Desk.bXZ (n:=4) (Rf:=(R,J)) cl Z.up a8.up F;have h1:=aJW mg l.prog w base 5 cl.b d29 bdA λf g F=>Desk.bX4 (n:=4) (Rf:=(R,J)) cl O.up Z.up a1.up h2.up a8.up F
 have e3:=aJW mg l.prog w base 5 cl.b d30 bdA λf g F=>Desk.aYP (n:=3) (Rf:=(R,J)) cl O.up c5.up F;have f0:=aJW mg l.prog w base 5 cl.b d31 bdA λf g F=>Desk.aKc (n:=4) (Rf:=(R,J)) cl O.up Z.up F;have i7:=aJW mg l.prog w base 5 cl.b d32 bdA λf g F=>Desk.bVu (n:=3) (Rf:=(R,J)) TB cl O.up c7.up b2.up F;have c0:=aJW mg l.prog w base 5 cl.b d33 bdA λf g F=>Desk.aYJ (n:=3) (Rf:=(R,J)) TB cl O.up a4.up h0.up c8.up F;have k3:=aJW mg l.prog w base 4 cl.b d34 bdA λf g F=>Desk.bVv (n:=2) (Rf:=(R,J)) cl g3.up e4.up F;have i2:=aJW mg l.prog w base 5 cl.b d35 bdA λf g F=>Desk.aYQ (n:=4) (Rf:=(R,J)) cl O.up a4.up a1.up F;have a2:=aJW mg l.prog w base 5 cl.b d36 bdA λf g F=>Desk.aJ8 (n:=4) (Rf:=(R,J)) cl O.up g8.up F;have b1:=aJW mg l.prog w base 6 cl.b d37 bdA λf g F=>Desk.bWY (n:=5) (Rf:=(R,J)) TB cl a2.up F;have i5:=aJW mg l.prog w base 6 cl.b d38 bdA λf g F=>Desk.bXU (n:=4) (Rf:=(R,J)) cl a2.up a1.up c4.up e0.up k4.up i6.up F;have j0:=aJW mg l.prog w base 7 cl.b d39 bdA λf g F=>Desk.bVn (n:=6) (Rf:=(R,J)) cl O.up i5.up b1.up F;have i9:=dOf mg l.prog w base 6 d40 bdA λf g F=>Desk.aJ4 (n:=5) (Rf:=(R,J)) f2.up F;have e6:=dOf mg l.prog w base 6 d41 bdA λf g F=>Desk.aJ6 (n:=5) (Rf:=(R,J)) h1.up F;have k0:=dOf mg l.prog w base 8 d42 bdA λf g F=>Desk.aW5 (n:=7) (Rf:=(R,J)) j0.up F;have l3:=dOf mg l.prog w base 6 d43 bdA λf g F=>Desk.aJ5 (n:=5) (Rf:=(R,J)) e3.up F;have i0:=dOf mg l.prog w base 6 d44 bdA λf g F=>Desk.aW3 (n:=5) (Rf:=(R,J)) i2.up F;have f9:=dOf mg l.prog w base 6 d45 bdA λf g F=>Desk.aW7 (n:=5) (Rf:=(R,J)) f0.up F;have b9:=dOf mg l.prog w base 6 d46 bdA λf g F=>Desk.aW2 (n:=5) (Rf:=(R,J)) i7.up F;have c1:=dOf mg l.prog w base 7 d47 bdA λf g F=>Desk.aW4 (n:=6) (Rf:=(R,J)) b1.up F;have f7:=dOf mg l.prog w base 6 d48 bdA λf g F=>Desk.aW8 (n:=5) (Rf:=(R,J)) c0.up F;have j6:=dOf mg l.prog w base 5 d49 bdA λf g F=>Desk.aW6 (n:=4) (Rf:=(R,J)) k3.up F;have h5:=dOf mg l.prog w base 6 d50 bdA λf g F=>Desk.aZ7 (n:=5) (Rf:=(R,J)) h8.up F;have k7:=dOf mg l.prog w base 6 d51 bdA λf g F=>Desk.aX4 (n:=5) (Rf:=(R,J)) a2.up F;have h4:=dOf mg l.prog w base 6 d52 bdA λf g F=>Desk.aX3 (n:=5) (Rf:=(R,J)) k2.up F;have P:(([("in",i),("out",i),("reply",y),("hang",D),("loose",x),("date",E),("term",I),("copy",z),("file",A),("void",B),("shut",H),("state",u),("thread",q),("copies",r),("letters",p),("waiting",k),("overdue",j)]:List (Str×Nat)).map (·.1)).Nodup:=show(["in","out","reply","hang","loose","date","term","copy","file","void","shut","state","thread","copies","letters","waiting","overdue"]:List Str).Nodup from dk;have all:Desk.bWr l.prog w K mg base 8 (R,J) L CL (bJk [("in",i),("out",i),("reply",y),("hang",D),("loose",x),("date",E),("term",I),("copy",z),("file",A),("void",B),("shut",H),("state",u),("thread",q),("copies",r),("letters",p),("waiting",k),("overdue",j)]):=by
  intro e e5;cases e with
  |enter l8 d V t=>
   obtain⟨g,a,b,c⟩:=i9.ex;rcases e5 with rfl|rfl
   ·exact⟨i,g,_,uR P 0 rfl,a.mono (by decide),⟨_,d,V,t,rfl⟩,b,c⟩
   ·exact⟨i,g,_,uR P 1 rfl,a.mono (by decide),⟨_,d,V,t,rfl⟩,b,c⟩
  |reply m d t=>obtain⟨g,a,b,c⟩:=e6.ex;exact⟨y,g,_,uR P 2 rfl,a.mono (by decide),⟨m,d,t,rfl⟩,b,c⟩
  |hang m o=>obtain⟨g,a,b,c⟩:=k0.ex;exact⟨D,g,_,uR P 3 rfl,a.mono (by decide),⟨m,o,rfl⟩,b,c⟩
  |loose m=>obtain⟨g,a,b,c⟩:=l3.ex;exact⟨x,g,_,uR P 4 rfl,a.mono (by decide),⟨m,rfl⟩,b,c⟩
  |date m d=>obtain⟨g,a,b,c⟩:=i0.ex;exact⟨E,g,_,uR P 5 rfl,a.mono (by decide),⟨m,d,rfl⟩,b,c⟩
  |term m t=>obtain⟨g,a,b,c⟩:=f9.ex;exact⟨I,g,_,uR P 6 rfl,a.mono (by decide),⟨m,t,rfl⟩,b,c⟩
  |copy m V=>obtain⟨g,a,b,c⟩:=b9.ex;exact⟨z,g,_,uR P 7 rfl,a.mono (by decide),⟨m,V,rfl⟩,b,c⟩
  |file m U=>obtain⟨g,a,b,c⟩:=c1.ex;exact⟨A,g,_,uR P 8 rfl,a.mono (by decide),⟨m,U,rfl⟩,b,c⟩
  |void m=>obtain⟨g,a,b,c⟩:=f7.ex;exact⟨B,g,_,uR P 9 rfl,a.mono (by decide),⟨m,rfl⟩,b,c⟩
  |shut d=>obtain⟨g,a,b,c⟩:=j6.ex;exact⟨H,g,_,uR P 10 rfl,a.mono (by decide),⟨d,rfl⟩,b,c⟩
  |state m=>obtain⟨g,a,b,c⟩:=h5.ex;exact⟨u,g,_,uR P 11 rfl,a.mono (by decide),⟨m,rfl⟩,b,c⟩
  |thread m=>obtain⟨g,a,b,c⟩:=k7.ex;exact⟨q,g,_,uR P 12 rfl,a.mono (by decide),⟨m,rfl⟩,b,c⟩
  |copies m=>obtain⟨g,a,b,c⟩:=h4.ex;exact⟨r,g,_,uR P 13 rfl,a.mono (by decide),⟨m,rfl⟩,b,c⟩
  |letters U=>obtain⟨g,a,b,c⟩:=j5.ex;exact⟨p,g,_,uR P 14 rfl,a.mono (by decide),⟨U,rfl⟩,b,c⟩
  |on a3 d=>
   cases a3
   ·obtain⟨g,a,b,c⟩:=d0.ex;exact⟨k,g,_,uR P 15 rfl,a.mono (by decide),⟨d,rfl⟩,b,c⟩
   ·obtain⟨g,a,b,c⟩:=c6.ex;exact⟨j,g,_,uR P 16 rfl,a.mono (by decide),⟨d,rfl⟩,b,c⟩
 have c2:=gOf l.prog w base 9 X G d56 bdA λf g F=>Desk.aYH (n:=8) (Rf:=(R,J)) (cXI X G nD) (bWi lD pD P) (cXI X G d59.ns) d59.cl all F;have c9:=gOf l.prog w base 10 X G d58 bdA λf g F=>Desk.aJ7 (n:=8) (Rf:=(R,J)) k5.up c2.up j3.up F;exact Alike.bWX (n:=10) (Rf:=(R,J)) TA c3.up f1.up i4.up i3.up b5.up l2.up l0.up c9.up Q
end End4
namespace End4
open PySem L2 PyProof.Rows
theorem walk{l:PySem.W.OpenLaw}{q:bY8}{loose:List Str}{m:(Str->Option bYM)->Heap->Prop}{e:cQg->Heap->Prop}{d:DefRec}{K:Params->bYO}{T:Nat}(y:l.most=some 63)(g:d.params.defaults= []) (v:∀ (w:cQg)(h:Heap),e w h->(K w.params).In h) (b:∀ (w:cQg)(h:Heap),e w h->h.get? T=some (cZo #[])) (F:∀ (w:cQg)(mg:Str->Option bYM)(i:Nat)(h:Heap),(K w.params).In h->h.Ns cQm mg->mg d.name=some (.ref i)-> ∃ (j:cXL)(c:Nat),cJv (K w.params) c T=true/\(K w.params).lookup T=none/\(∀ (s:bYP)(u:bYM),BindsTo s j ⟨[u],[]⟩ [("_law_script",u)])/\∀base:Heap,(K w.params).In base->base.Ns cQm mg->cXR base c T->base.BuiltinsAt mg T->xH l.prog w (K w.params) mg base CX0 11 i j ["_law_script"] (Alike.bZR T (K w.params))): PySem.W.WalkO q loose m e l.row.toRowW d [] (λf p=>PySem.call f p):=
 L2.bZ8 (n:=63) (k:=11) (x:="_law_script") (CX:=CX0) (sp:=Alike.bZR) y (by decide) g ⟨rfl,by decide,by decide⟩ v b F (λ_ _ a o hl r t=>⟨a,o,rfl,t,hl,.inl r,λ_=>rfl⟩) λ_ _ _ _ z=>z
end End4
open PySem PySem.W PyProof.Rows
set_option maxRecDepth 100000 in
set_option maxHeartbeats 0 in
theorem PySem.Challenge.cw_letterdesk_k08_whole_put_right_and_back_holds : PySem.Challenge.rw_letterdesk_k08_whole_put_right_and_back.Holds := by
 w_on;o_law;k_head;(case hw=>w_witness2);k_fill;refine End4.walk (l:=PySem.Challenge.rw_letterdesk_k08_whole_put_right_and_back) rfl rfl (λw h Y=>PySem.W.km_in_of Y) (λw h Y=>PySem.W.km_tabs_of Y _ (bY4 ..)) ?F;case F=>
  intro w d c h b G a;refine' End4.all_mk b G a ?d59 ?d60 ?d61 ?d62 ?d63 ?d64 ?d65 ?d66 ?d67 ?d68 ?d69 ?d70 ?d9 ?d24 ?cl ?d10 ?d11 ?d12 ?d13 ?d15 ?d16 ?d17 ?d18 ?d19 ?d20 ?d21 ?d22 ?d23 ?d25 ?d28 ?d29 ?d30 ?d31 ?d32 ?d33 ?d34 ?d35 ?d36 ?d37 ?d38 ?d39 ?d57 ?d1 ?d2 ?d3 ?d4 ?d5 ?d6 ?d7 ?d8 ?d14 ?d26 ?d27 ?d56 ?d58 ?d71 ?d72 ?d73 ?d74 ?d75 ?d76 ?d77 ?d78 ?d79 ?d80 ?d81 ?d82 ?d83 ?d84 ?d85 ?d86 ?d87 ?d88 ?d89 ?d90 ?d91 ?d92 ?d93 ?d94 ?d95 ?d40 ?d41 ?d42 ?d43 ?d44 ?d45 ?d46 ?d47 ?d48 ?d49 ?d50 ?d51 ?d52 ?d53 ?d54 ?d55 ?dL ?aA ?lA ?cA1 ?kA ?nD ?lD ?pD ?z_len ?z_min ?z_sum ?z_sorted ?z_isinstance ?z_int ?z_str ?z_bool ?z_list ?z_tuple ?z_set ?z_range ?z_reversed ?z_max ?y_week ?y_open ?tb ?tn;(case d59=>apply End4.bVF<;> first|k_is|kernel_rfl);(case d60=>apply End4.uW<;> first|k_is|kernel_rfl);(case d61=>apply End4.uW<;> first|k_is|kernel_rfl);(case d62=>apply End4.uW<;> first|k_is|kernel_rfl);(case d63=>apply End4.uW<;> first|k_is|kernel_rfl);(case d64=>apply End4.uW<;> first|k_is|kernel_rfl);(case d65=>apply End4.uW<;> first|k_is|kernel_rfl);(case d66=>apply End4.uW<;> first|k_is|kernel_rfl);(case d67=>apply End4.uW<;> first|k_is|kernel_rfl);(case d68=>apply End4.uW<;> first|k_is|kernel_rfl);(case d69=>apply End4.uW<;> first|k_is|kernel_rfl);(case d70=>apply End4.uW<;> first|k_is|kernel_rfl);(case d9=>apply End4.bJn<;> k_is);(case d24=>apply End4.bJn<;> k_is);(case cl=>apply End4.bKV<;> k_is);(case d10=>apply End4.x9<;> k_is);(case d11=>apply End4.x9<;> k_is);(case d12=>apply End4.x9<;> k_is);(case d13=>apply End4.x9<;> k_is);(case d15=>apply End4.x9<;> k_is);(case d16=>apply End4.x9<;> k_is);(case d17=>apply End4.x9<;> k_is);(case d18=>apply End4.x9<;> k_is);(case d19=>apply End4.x9<;> k_is);(case d20=>apply End4.x9<;> k_is);(case d21=>apply End4.x9<;> k_is);(case d22=>apply End4.x9<;> k_is);(case d23=>apply End4.x9<;> k_is);(case d25=>apply End4.x9<;> k_is);(case d28=>apply End4.x9<;> k_is);(case d29=>apply End4.x9<;> k_is);(case d30=>apply End4.x9<;> k_is);(case d31=>apply End4.x9<;> k_is);(case d32=>apply End4.x9<;> k_is);(case d33=>apply End4.x9<;> k_is);(case d34=>apply End4.x9<;> k_is);(case d35=>apply End4.x9<;> k_is);(case d36=>apply End4.x9<;> k_is);(case d37=>apply End4.x9<;> k_is);(case d38=>apply End4.x9<;> k_is);(case d39=>apply End4.x9<;> k_is);(case d57=>apply End4.x9<;> k_is);(case d1=>apply End4.xP<;> k_is);(case d2=>apply End4.xP<;> k_is);(case d3=>apply End4.xP<;> k_is);(case d4=>apply End4.xP<;> k_is);(case d5=>apply End4.xP<;> k_is);(case d6=>apply End4.xP<;> k_is);(case d7=>apply End4.xP<;> k_is);(case d8=>apply End4.xP<;> k_is);(case d14=>apply End4.xP<;> k_is);(case d26=>apply End4.xP<;> k_is);(case d27=>apply End4.xP<;> k_is);(case d56=>apply End4.xP<;> k_is);(case d58=>apply End4.xP<;> k_is);(case d71=>apply End4.xP<;> k_is);(case d72=>apply End4.xP<;> k_is);(case d73=>apply End4.xP<;> k_is);(case d74=>apply End4.xP<;> k_is);(case d75=>apply End4.xP<;> k_is);(case d76=>apply End4.xP<;> k_is);(case d77=>apply End4.xP<;> k_is);(case d78=>apply End4.xP<;> k_is);(case d79=>apply End4.xP<;> k_is);(case d80=>apply End4.xP<;> k_is);(case d81=>apply End4.xP<;> k_is);(case d82=>apply End4.xP<;> k_is);(case d83=>apply End4.xP<;> k_is);(case d84=>apply End4.xP<;> k_is);(case d85=>apply End4.xP<;> k_is);(case d86=>apply End4.xP<;> k_is);(case d87=>apply End4.xP<;> k_is);(case d88=>apply End4.xP<;> k_is);(case d89=>apply End4.xP<;> k_is);(case d90=>apply End4.xP<;> k_is);(case d91=>apply End4.xP<;> k_is);(case d92=>apply End4.xP<;> k_is);(case d93=>apply End4.xP<;> k_is);(case d94=>apply End4.xP<;> k_is);(case d95=>apply End4.xP<;> k_is);(case d40=>apply End4.xZ<;> k_is);(case d41=>apply End4.xZ<;> k_is);(case d42=>apply End4.xZ<;> k_is);(case d43=>apply End4.xZ<;> k_is);(case d44=>apply End4.xZ<;> k_is);(case d45=>apply End4.xZ<;> k_is);(case d46=>apply End4.xZ<;> k_is);(case d47=>apply End4.xZ<;> k_is);(case d48=>apply End4.xZ<;> k_is);(case d49=>apply End4.xZ<;> k_is);(case d50=>apply End4.xZ<;> k_is);(case d51=>apply End4.xZ<;> k_is);(case d52=>apply End4.xZ<;> k_is);(case d53=>apply End4.xZ<;> k_is);(case d54=>apply End4.xZ<;> k_is);(case d55=>apply End4.xZ<;> k_is);(case dL=>apply End4.xZ<;> k_is);(case aA=>k_is);(case lA=>k_is);(case cA1=>k_is);(case kA=>k_is);(case nD=>k_is);(case lD=>k_is);(case pD=>exact⟨⟨_,rfl⟩,rfl,rfl,⟨_,rfl⟩,rfl,rfl,⟨_,rfl⟩,rfl,rfl,⟨_,rfl⟩,rfl,rfl,⟨_,rfl⟩,rfl,rfl,⟨_,rfl⟩,rfl,rfl,⟨_,rfl⟩,rfl,rfl,⟨_,rfl⟩,rfl,rfl,⟨_,rfl⟩,rfl,rfl,⟨_,rfl⟩,rfl,rfl,⟨_,rfl⟩,rfl,rfl,⟨_,rfl⟩,rfl,rfl,⟨_,rfl⟩,rfl,rfl,⟨_,rfl⟩,rfl,rfl,⟨_,rfl⟩,rfl,rfl,⟨_,rfl⟩,rfl,rfl,⟨_,rfl⟩,rfl,rfl,cXb⟩);(case z_len=>k_is);(case z_min=>k_is);(case z_sum=>k_is);(case z_sorted=>k_is);(case z_isinstance=>k_is);(case z_int=>k_is);(case z_str=>k_is);(case z_bool=>k_is);(case z_list=>k_is);(case z_tuple=>k_is);(case z_set=>k_is);(case z_range=>k_is);(case z_reversed=>k_is);(case z_max=>k_is);(case y_week=>k_is);(case y_open=>k_is);(case tb=>kernel_rfl);(case tn=>kernel_rfl)
