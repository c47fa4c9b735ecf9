import PyProof.Rows.All
import Wide.All
import OpenK.AllK
import Wide.FinOn
import KE.KLam
import KE.KNestM
import KE.KSortTup
import Lean
import OpenK.KCls
import PyProof.CollectWalk
import PyProof.CompMap
import PyProof.DictStraight
import PyProof.EqAt
import PyProof.EqKinds
import PyProof.ExcArgs
import PyProof.ExcBaseAll.Exception
import PyProof.FactsAll.set
import PyProof.FactsBase
import PyProof.InstStoreFacts
import PyProof.ListRange
import PyProof.LongRange
import PyProof.MakeMany
import PyProof.MinMaxWalk
import PyProof.NeKinds
import PyProof.Rows.SetFrom
import PyProof.Rows.SortWalk
import PyProof.SeqI3
import PyProof.SetKind
import PyProof.SetNew
import PyProof.SetScanFacts
import PyProof.StationsW
import PyProof.TupleCall
import PyProof.WalkInts
import PyProof.Walks
import PySem.Challenge.RW_letterdesk_k05_whole_numbers_and_trees
set_option Elab.async false
set_option linter.all false
set_option maxRecDepth 100000
set_option maxHeartbeats 4000000
open Array renaming length_toList → cQ2, getElem?_eq_getElem → cQ8, getElem?_toList → cXf, getElem?_eq_some_iff → cX9, getD → cZc, getElem?_eq_none → cZC, getElem?_extract_of_lt → cJF, getElem?_append_left → cJP, perm_iff_toList_perm → cJQ
open Classical renaming choose_spec → cJm
open False renaming elim → cXc
open ForInStep renaming yield → cJp
open Int renaming toNat_natCast → cQc, zero_add → cXM, not_lt → cZy
open List renaming getElem?_eq_getElem → bYG, length_map → bYL, mem_cons → bYQ, getElem?_eq_some_iff → bYS, mem_cons_of_mem → bYT, range → bYU, mem_cons_self → bYW, mem_singleton → bYY, size_toArray → bYZ, mem_of_getElem? → bY0, getElem?_map → bY1, getElem?_append_right → bY2, length_append → bY5, mem_append_right → bY6, getElem?_append_left → cQd, mem_range → cQf, getElem?_eq_none → cQi, mem_append → cQm, length_range → cQt, getD → cQu, map_cons → cQx, getElem_of_mem → cQy, length_cons → cQF, mem_map → cQH, take_length → cQI, length_filter_le → cQM, append_nil → cQN, mem_filter → cQO, take_add_one → cQP, toArray → cQR, filter_append → cQT, length_singleton → cQU, length_take → cQV, length_pos_iff → cQZ, pairwise_singleton → cQ5, pairwise_cons → cQ6, append_assoc → cXd, contains_iff_mem → cXh, filter_cons_of_neg → cXm, filter_cons_of_pos → cXn, getElem_mem → cXo, getElem?_range → cXr, map_append → cXt, eq_nil_of_length_eq_zero → cXw, getElem_inj → cXx, lookup_cons → cXy, nodup_cons → cXJ, filter_sublist → cXK, length_nil → cXQ, mem_append_left → cXR, range_succ → cXS, ext_getElem? → cXX, any_cons → cXZ, append_inj' → cX1, lookup → cX2, contains_cons → cX4, map_map → cX5, find?_cons → cX7, nodup_append → cZa, pairwise_iff_getElem → cZd, length → cZe, replicate → cZg, not_mem_nil → cZj, filterMap_cons → cZs, filter_eq_self → cZt, getElem?_set_self → cZD, take_of_length_le → cZE, all_eq_true → cZR, nodup_range → cZS, all_cons → cZV, zip → cZ6, pairwise_map → cJc, cons_append → cJj, countP_cons → cJk, forIn_cons → cJq, getElem?_set_ne → cJr, pairwise_append → cJs, map_congr_left → cJB, toList_toArray → cJC, Perm → cJL, filter_congr → cJS, foldl_append → cJT, getElem?_eq_none_iff → cJ0, length_erase_of_mem → cJ5
open List.Nodup renaming mem_erase_iff → cJ4
open Nat renaming le_refl → bYO, ne_of_lt → bY7, lt_of_lt_of_le → bY9, le_trans → cQn, zero_le → cQE, lt_irrefl → cQQ, lt_succ_of_lt → cQS, sub_self → cQ1, le_succ_of_le → cXe, not_lt_zero → cXu, lt_succ_self → cXz, le_succ → cXP, le_of_eq → cZk, le_of_lt → cZl, ne_of_gt → cZm, lt_or_ge → cZK
open Ne renaming symm → cQr
open Option.some renaming inj → bY3, injEq → cJU
open PyProof.Rows renaming seqObj → cQw, envOfC → cXF, IntsAre → cZf, get?_update_seq → cZA, IsTup → cZG, callWith_type1 → cZN, listUpdate_at → cZX, entry_list_sort → cJG, args_list_sort → cJN, slot_list_sort → cJO
open PyProof.Rows.F renaming plain_set_update_loop → cX6, entry_set_update_loop → cZ7
open PyProof.Rows.IntsAre renaming int_at → cJM
open PySem renaming Value → bYH, wpAny_bind → bYJ, Shared → bYK, wpAny_pure → bYN, wpAny → bYP, model → bYR, Program → bY4, sizeLine → bY8, World → cQa, mainGlobals → cQe, sizeLine_eq → cQg, starEach → cQk, Around → cQl, bootBuiltins → cQq, Paired → cQA, wpAny_mono → cQJ, rawInt → cQY, wpAny_holding → cQ0, mem_of_lookup → cXa, compareOp → cXb, backTo → cXk, wpAny_Call_Name_kw → cXl, SetTable → cXs, Builtin → cXv, codeAny_mono → cXB, wpAny_call_entry → cXC, FuncData → cXG, wpAny_newObj_type → cXH, wpAny_truthy_bool → cXI, wpAny_setField → cXO, Scope → cXV, codeAny_builtin → cXW, codeAny → cXY, keywordEach → cX3, wpAny_passesOwn → cX8, wpAny_setState_of → cZb, binaryOp → cZp, bindArgs → cZq, wpAny_askSetting → cZr, wpAny_setEntries_of → cZu, wpAny_callSpecial?_slot → cZv, attributeBase → cZw, behindInMarks → cZx, sysModules → cZB, NameKind → cZF, isSubtype → cZO, pickOrder → cZP, setFlight → cZQ, backToKw → cZT, wpAny_call → cZU, plainId_quiet → cZY, wpAny_attempt → cZZ, wpAny_newList → cZ0, holding → cZ1, sliceBounds → cZ2, valueAt → cZ3, getMethod → cZ9, noteFrame → cJa, scanBound → cJb, wpAny_standAt → cJi, builtinLookup_eq_fast → cJn, plainObj_wpAny_Assign_Attribute → cJo, assignEach → cJu, codeAny_call_builtin → cJv, isInstance → cJw, letOwnedTupleGo → cJx, wpAny_execs_nil → cJy, wpAny_ite_split → cJz, wpAny_fieldsOf → cJI, fits_of_scanBound → cJX, foldedSetIterable → cJY, wpAny_pyIter_list → cJZ, wpAny_comprehension_free → cJ7
open PySem.Around renaming under_plainId → cXE
open PySem.Builtin.List renaming listExtendWith → cZM, listTooLong → cZ5, listLengthHint → cJJ, listSameRef → cJ3
open PySem.Calls renaming call_function_entry → cZ4, Name_function_global → cJR
open PySem.Code renaming quiet_builtin → cJK
open PySem.F renaming plainAttrs_list → cQj, slot_list_append → cQo, type_list_append → cQp, called_set → cXA, excBase_Exception → cJ1, plain_extend_loop → cJ2, args_tuple_add_2 → cJ6
open PySem.Heap renaming get?_push_of_some → bYM, lt_size → bYV, get?_push_size → cQb, get?_update_other → cQh, get?_update_self → cQL, size_push → cXg, SameBut → cXL, ExtBut → cJh, get?_update_ne → cJA
open PySem.Heap.SameBut renaming update → cQ9
open PySem.Obj renaming mapSeq → cQB, mapFields → cQX, isFreed_of_fields → cQ4, data_mapFields → cQ7
open PySem.Paired renaming length → cX0
open PySem.PassesOwn renaming never → cQv
open PySem.SeqAt renaming EqAt → cJ9
open PySem.SetTable renaming below → cQG, grown → cZi, insertAt → cZJ
open PySem.SetTable.below renaming go → cZI
open PySem.SetTable.probe renaming go → cJW
open PySem.Str renaming ofString → cZ8
open PySem.W renaming Frag → bYI, mg_none_of → bYX, findIn → cQs, kitOne → cQz, nsIn → cQC, keepIn → cQD, fnOf → cQK, katRev → cQW, kia_one → cXi, kia_tup → cXj, codeIn → cXp, emptyDict → cXq, mg_of → cXD, CodeHd → cXN, instObj → cXT, kla_obj → cXU, tabObj → cZh, isFn → cZn, plainGet → cZo, callWith_K → cZz, hasDictIn → cZH, methodCall_KW → cZL, mroIn → cZW, kitx_dict → cJd, kitx_list → cJe, plainOver → cJf, specialIn → cJg, codeHdIn → cJl, callWith_K0 → cJD, plainGet_of → cJE, lookIn → cJH, methodObj → cJV, KatTups → cJ8
open PySem.W.KatTups renaming cons → cJt
open True renaming intro → cQ3
theorem dk {p:Prop}[Decidable p](h:decide p=true:=by decide +kernel):p:=of_decide_eq_true h
namespace L2
open PySem PySem.Spec PyProof.Rows
abbrev Key:=Sum Int Str
def aWk:Key->bYH->Bool
 |.inl k,v=>Value.isInt k v
 |.inr x,v=>Value.isStrOf x v
def bYt(w:cQa):Key->Int
 |.inl k=>hashInt k
 |.inr x=>hashStr w x
def x9:∀ {k:Key} {v:bYH},aWk k v=true->(∃i t,k=Sum.inl i/\v=Value.int i t)\/(∃x t,k=Sum.inr x/\v=Value.str x t)
 |.inl i,v,h=>by obtain⟨t,e⟩:=Value.isInt_shape (k:=i) (v:=v) h;exact .inl ⟨i,t,rfl,e⟩
 |.inr x,v,h=>by obtain⟨t,e⟩:=Value.isStrOf_shape (x:=x) (v:=v) h;exact .inr ⟨x,t,rfl,e⟩
def aKS(i:Int)(t:Tok):aWk (.inl i) (.int i t)=true:=by simp[aWk,Value.isInt]
def aKT(x:Str)(t:Tok):aWk (.inr x) (.str x t)=true:=by simp[aWk,Value.isStrOf]
def bWz(a b:Int):decide ((Sum.inl a:Key)=Sum.inl b)=(a==b):=by
 by_cases e:a=b
 ·subst e;simp
 ·have h:¬ (Sum.inl a:Key)=Sum.inl b:=λq=>e (Sum.inl.inj q);rw[decide_eq_false h];exact(beq_eq_false_iff_ne.mpr e).symm
def bWC(a b:Str):decide ((Sum.inr a:Key)=Sum.inr b)=decide (a=b):=by
 by_cases e:a=b
 ·subst e;simp
 ·have h:¬ (Sum.inr a:Key)=Sum.inr b:=λq=>e (Sum.inr.inj q);rw[decide_eq_false h,decide_eq_false e]
def bWA(a:Int)(b:Str):decide ((Sum.inl a:Key)=Sum.inr b)=false:=decide_eq_false (λq=>nomatch q)
def bWB(a:Str)(b:Int):decide ((Sum.inr a:Key)=Sum.inl b)=false:=decide_eq_false (λq=>nomatch q)
def zA(prog:bY4)(w:cQa):PySem.KeyKind prog w Key where
 is:=aWk
 hash:=bYt w
 inj:=λv a b ha hb=>by
  rcases x9 ha with⟨i,t,rfl,rfl⟩|⟨x,t,rfl,rfl⟩
  ·rcases x9 hb with⟨j,u,rfl,e⟩|⟨y,u,rfl,e⟩
   ·injection e with e1 _;rw[e1]
   ·exact nomatch e
  ·rcases x9 hb with⟨j,u,rfl,e⟩|⟨y,u,rfl,e⟩
   ·exact nomatch e
   ·injection e with e1 _;rw[e1]
 byValue:=λk v h=>by
  rcases x9 h with⟨i,t,rfl,rfl⟩|⟨x,t,rfl,rfl⟩<;> rfl
 pyHash:=λhv h=>by
  rcases x9 hv with⟨i,t,rfl,rfl⟩|⟨x,t,rfl,rfl⟩
  ·exact wpAny_pyHash_int h
  ·exact wpAny_pyHash_str h
 eqBool:=λhu hv h=>by
  rcases x9 hu with⟨i,t,rfl,rfl⟩|⟨x,t,rfl,rfl⟩
  ·rcases x9 hv with⟨j,u,rfl,rfl⟩|⟨y,u,rfl,rfl⟩
   ·rw[bWz]at h;exact wpAny_eqBool_int h
   ·rw[bWA]at h;exact SeqAt.EqAt.int_str i t y u _ _ _ _ h
  ·rcases x9 hv with⟨j,u,rfl,rfl⟩|⟨y,u,rfl,rfl⟩
   ·rw[bWB]at h;exact SeqAt.EqAt.str_int x t j u _ _ _ _ h
   ·rw[bWC]at h;exact wpAny_eqBool_str h
 «strs»:=λk x t v h=>by
  rcases x9 h with⟨i,u,rfl,e⟩|⟨y,u,rfl,e⟩
  ·exact nomatch e
  ·injection e with e1 _
   subst e1
   cases v<;> rfl
def aJr(prog:bY4)(w:cQa)(i:Int)(t:Tok):(zA prog w).is (.inl i) (.int i t)=true:=aKS i t
def jV(prog:bY4)(w:cQa)(x:Str)(t:Tok):(zA prog w).is (.inr x) (.str x t)=true:=aKT x t
end L2
namespace L2
open PySem PySem.Spec PyProof.Rows
inductive V where
 |non|bl (b:Bool)|int (i:Int)|str (x:Str)|byt (b:Array UInt8)|flt (b:UInt64)|ref (a:Addr)|ty (n:String)
 deriving DecidableEq
def zJ:V->bYH->Prop
 |.non,u=>u=Value.none
 |.bl b,u=>u=Value.bool b
 |.int i,u=>∃t,u=Value.int i t
 |.str x,u=>∃t,u=Value.str x t
 |.byt b,u=>∃t,u=Value.bytes b t
 |.flt b,u=>∃t,u=Value.float b t
 |.ref a,u=>u=Value.ref a
 |.ty n,u=>u=Value.type n
abbrev xW:List V->List bYH->Prop:=cQA zJ
def xW.length{xs:List V}{us:List bYH}(r:xW xs us):xs.length=us.length:=cX0 r
def xW.get:∀ {xs:List V} {us:List bYH} {i:Nat} {x:V},xW xs us->xs[i]? =some x->∃u,us[i]? =some u/\zJ x u
 |_,_,_,_,.nil,e=>by simp at e
 |_,_,0,_,.cons r _,e=>by simp at e;subst e;exact⟨_,rfl,r⟩
 |_,_,i+1,x,.cons _ t,e=>by obtain⟨u,h1,h2⟩:=xW.get (i:=i) (x:=x) t (by simpa using e);exact⟨u,by simpa using h1,h2⟩
def xW.set{x:V}{u:bYH}(r:zJ x u):∀ {xs:List V} {us:List bYH} (i:Nat),xW xs us->xW (xs.set i x) (us.set i u)
 |_,_,_,.nil=> .nil
 |_,_,0,.cons _ t=> .cons r t
 |_,_,i+1,.cons q t=> .cons q (xW.set r i t)
def xW.append:∀ {xs ys:List V} {us a:List bYH},xW xs us->xW ys a->xW (xs++ys) (us++a)
 |_,_,_,_,.nil,s=>s
 |_,_,_,_,.cons r t,s=> .cons r (xW.append t s)
def xW.take:∀ {xs:List V} {us:List bYH} (n:Nat),xW xs us->xW (xs.take n) (us.take n)
 |_,_,0,_=> .nil
 |_,_,_+1,.nil=> .nil
 |_,_,n+1,.cons r t=> .cons r (xW.take n t)
def xW.drop:∀ {xs:List V} {us:List bYH} (n:Nat),xW xs us->xW (xs.drop n) (us.drop n)
 |_,_,0,r=>r
 |_,_,_+1,.nil=> .nil
 |_,_,n+1,.cons _ t=>xW.drop n t
def aX3:Option V->Option bYH->Prop
 |some v,some u=>zJ v u
 |none,none=>True
 |_,_=>False
def KV{κ:Type}:List (κ×V)->List (κ×bYH)->Prop:=cQA λ(p:κ×V)(q:κ×bYH)=>p.1=q.1/\zJ p.2 q.2
def kV:Key->V
 |.inl i=> .int i
 |.inr x=> .str x
inductive HO where
 |lst (xs:List V)
 |tup (xs:List V)
 |dK (kvs:List (Key×V))|dT (kvs:List (List Key×V))
 |set (S:Int->Bool) (n:Nat)
 |ins (C dx:Addr) (fs:List (Str×V))
 |own (x:Addr)
 |xd (fs:List (Str×V))
 |met (f x:Addr)
 |rng (lo hi:Int)
 |frz (o:Obj) (u:HO)
 |tbl (ps:Array bYH)
 |ext (φ:Heap->Prop)
abbrev Hp:=Addr->Option HO
def upd(H:Hp)(a:Addr)(o:HO):Hp:=λb=>if b=a then some o else H b
def yB{H:Hp}{a:Addr}{o:HO}:upd H a o a=some o:=by unfold upd;rw[if_pos rfl]
def yI{H:Hp}{a b:Addr}{o:HO}(h:b≠a):upd H a o b=H b:=by unfold upd;rw[if_neg h]
def uT{H:Hp}{a:Addr}{o u:HO}:upd (upd H a o) a u=upd H a u:=by
 funext b;unfold upd;split<;> rfl
def aQ1{H:Hp}{a b:Addr}{o u:HO}(h:H a=some o)(h':H b=some u)(d:o≠u):a≠b:=by
 intro e;subst e;rw[h]at h';exact d (bY3 h')
def yJ{H:Hp}{a b:Addr}{o:HO}(h:H a=some o)(h':H b=none):a≠b:=by
 intro e;subst e;rw[h]at h';cases h'
section
variable (P:bY4)(w:cQa)
def zD(H:Hp)(h:Heap)(a:Addr):HO->Prop
 |.lst xs=>xs.length<=bY8/\∃ (c:List bYH)(n:Nat),xW xs c/\h.get? a=some {cls:= .type "list",data:= .seq c.toArray n}
 |.tup xs=>xs.length<=bY8/\∃c:List bYH,xW xs c/\cZG h a c.toArray
 |.dK b=>b.length<=bY8/\(a==cZB)=false/\∃d,KV b d/\h.DictOf (zA P w) a d
 |.dT b=>b.length<=bY8/\(a==cZB)=false/\∃xs:List (List Key×Addr×bYH),
   cQA (λ(p:List Key×V)(q:List Key×Addr×bYH)=>p.1=q.1/\H q.2.1=some (.tup (p.1.map kV))/\zJ p.2 q.2.2) b xs/\
   ∃o es e,h.get? a=some o/\o.ExactDict/\o.data= .dict es e/\es.toList=xs.map (entryOfKey (tupleKind (zA P w)))/\(xs.map (·.1)).Nodup
 |.set S n=>h.SetOf (intKind P w) a S n
 |.ins C dx fs=>H dx=some (.own a)/\fs.length<=1000/\dx≠a/\h.get? a=some (cXT C dx)/\
   ∃mA,h.Ns1 dx mA/\(∀f,aX3 (fs.lookup f) (mA f))/\PySem.Within mA (fs.map (·.1))
 |.own _=>∃o,h.get? a=some o
 |.xd fs=>∃mA,h.Ns1 a mA/\∀f,aX3 (fs.lookup f) (mA f)
 |.rng lo hi=>∃t u v,h.get? a=some {cls:= .type "range",data:= .fields #[.int lo t,.int hi u,.int 1 v] }
 |.frz o u=>h.get? a=some o/\zD H h a u
 |.tbl ps=>h.get? a=some {cls:= .none,data:= .fields ps}
 |.met f x=>h.get? a=some (cJV (.ref f) (.ref x))
 |.ext φ=>φ h/\(∃o,h.get? a=some o)/\∀h1 h2:Heap,φ h1->(∀o,h1.get? a=some o->h2.get? a=some o)->φ h2
def HOk(H:Hp)(h:Heap):Prop:=∀a o,H a=some o->zD P w H h a o
end
section
variable {P:bY4}{w:cQa}{H H':Hp}{h h':Heap}{a:Addr}{o:HO}
def zD.lt(x:zD P w H h a o):a<h.objs.size:=by
 cases o with
 |lst xs=>obtain⟨_,_,_,_,e⟩:=x;exact bYV e
 |tup xs=>obtain⟨_,_,_,p⟩:=x;exact p.lt
 |dK b=>obtain⟨_,_,_,_,o,_,_,e,_⟩:=x;exact bYV e
 |dT b=>obtain⟨_,_,_,_,o,_,_,e,_⟩:=x;exact bYV e
 |set S n=>obtain⟨o,_,_,_,e,_⟩:=x;exact bYV e
 |ins C dx fs=>obtain⟨_,_,_,e,_⟩:=x;exact bYV e
 |own y=>obtain⟨_,e⟩:=x;exact bYV e
 |xd fs=>obtain⟨_,⟨_,_,_,e,_⟩,_⟩:=x;exact bYV e
 |rng lo hi=>obtain⟨_,_,_,e⟩:=x;exact bYV e
 |frz c u=>obtain⟨e,_⟩:=x;exact bYV e
 |tbl ps=>exact bYV (show h.get? a=some _ from x)
 |met f y=>exact bYV (show h.get? a=some _ from x)
 |ext φ=>obtain⟨_,⟨_,e⟩,_⟩:=x;exact bYV e
def Paired.mapP{α β:Type}{F G:α->β->Prop}:∀ {c:List α} {d:List β},cQA F c d->(∀a b,F a b->G a b)->cQA G c d
 |_,_,.nil,_=> .nil
 |_,_,.cons r t,f=> .cons (f _ _ r) (Paired.mapP t f)
def zD.stay(x:zD P w H h a o)(k:∀b u,(b=a\/H b=some (.own a))->h.get? b=some u->h'.get? b=some u) (D:∀b,H b=some (.own a)->H' b=some (.own a)) (s:∀b xs,H b=some (.tup xs)->H' b=some (.tup xs)):zD P w H' h' a o:=by
 induction o with
 |lst xs=>obtain⟨z,j,n,r,e⟩:=x;exact⟨z,j,n,r,k _ _ (.inl rfl) e⟩
 |tup xs=>obtain⟨z,j,r,g,e,c⟩:=x;exact⟨z,j,r,g,k _ _ (.inl rfl) e,c⟩
 |dK m=>obtain⟨z,y,A,r,g,es,i,e,c⟩:=x;exact⟨z,y,A,r,g,es,i,k _ _ (.inl rfl) e,c⟩
 |dT m=>obtain⟨z,y,xs,r,g,es,i,e,c⟩:=x;exact⟨z,y,xs,Paired.mapP r λp q z=>⟨z.1,s _ _ z.2.1,z.2.2⟩,g,es,i,k _ _ (.inl rfl) e,c⟩
 |set S n=>obtain⟨g,es,i,t,e,c⟩:=x;exact⟨g,es,i,t,k _ _ (.inl rfl) e,c⟩
 |ins C dx fs=>obtain⟨d,z,ne,e,mA,⟨l,es,i,B,c⟩,r⟩:=x;exact⟨D _ d,z,ne,k _ _ (.inl rfl) e,mA,⟨l,es,i,k _ _ (.inr d) B,c⟩,r⟩
 |own y=>obtain⟨g,e⟩:=x;exact⟨g,k _ _ (.inl rfl) e⟩
 |xd fs=>obtain⟨mA,⟨l,es,i,e,c⟩,r⟩:=x;exact⟨mA,⟨l,es,i,k _ _ (.inl rfl) e,c⟩,r⟩
 |rng lo hi=>obtain⟨t,u,v,e⟩:=x;exact⟨t,u,v,k _ _ (.inl rfl) e⟩
 |frz g u E=>obtain⟨e,q⟩:=x;exact⟨k _ _ (.inl rfl) e,E q⟩
 |tbl ps=>have e:h.get? a=some {cls:= .none,data:= .fields ps}:=x;show h'.get? a=some {cls:= .none,data:= .fields ps};exact k a _ (.inl rfl) e
 |met f y=>have e:h.get? a=some (cJV (.ref f) (.ref y)):=x;show h'.get? a=some (cJV (.ref f) (.ref y));exact k a _ (.inl rfl) e
 |ext φ=>obtain⟨p,⟨o,e⟩,st⟩:=x;exact⟨st _ _ p λo q=>k _ _ (.inl rfl) q,⟨o,k _ _ (.inl rfl) e⟩,st⟩
def HOk.lt(x:HOk P w H h)(e:H a=some o):a<h.objs.size:=(x a o e).lt
def HOk.fresh(x:HOk P w H h)(e:h.objs.size<=a):H a=none:=by
 cases q:H a with
 |none=>rfl
 |some u=>exact absurd (bY9 (x.lt q) e) (cQQ _)
def HOk.kept(x:HOk P w H h)(k:∀b u,h.get? b=some u->h'.get? b=some u):HOk P w H h':=λa o e=>
 (x a o e).stay (λb u _ q=>k b u q) (λ_ q=>q) λ_ _ q=>q
def HOk.laid(x:HOk P w H h)(k:∀b u,h.get? b=some u->h'.get? b=some u)(i:h.objs.size<=a)(d:zD P w (upd H a o) h' a o):HOk P w (upd H a o) h':=λb u e=>by
 have f:=x.fresh i;by_cases g:b=a
 ·subst g;rw[yB]at e;cases e;exact d
 ·rw[yI g]at e;exact(x b u e).stay (λc v _ q=>k c v q) (λc q=>by rw[yI (yJ q f)];exact q) λc xs q=>by rw[yI (yJ q f)];exact q
end
def Rd(H:Hp)(a:Addr)(u:HO):Prop:=H a=some u\/∃o,H a=some (.frz o u)
def Rd.ok{P:bY4}{w:cQa}{H:Hp}{h:Heap}{a:Addr}{u:HO}(r:Rd H a u)(x:HOk P w H h):zD P w H h a u:=by
 rcases r with r|⟨o,r⟩
 ·exact x a u r
 ·obtain⟨_,q⟩:=x a _ r;exact q
def Mut:Option HO->Prop
 |some (.lst _)=>True
 |some (.dK _)=>True
 |some (.dT _)=>True
 |some (.set _ _)=>True
 |some (.ins _ _ _)=>True
 |some (.ext _)=>True
 |_=>False
section
variable {P:bY4}{w:cQa}{H:Hp}{h h':Heap}{x e:Addr}{o':HO}
def HOk.write(ok:HOk P w H h)(g:Mut (H x))(o:e=x\/H e=some (.own x))(k:∀b u,b≠e->h.get? b=some u->h'.get? b=some u)(l:∃u,h'.get? e=some u)
  (m:zD P w (upd H x o') h' x o'):HOk P w (upd H x o') h':=λb u q=>by
 have d:∀c y,H c=some (.own y)->c≠x:=λc y r z=>by subst z;rw[r]at g;exact g
 have f:∀c xs,H c=some (.tup xs)->c≠x:=λc xs r z=>by subst z;rw[r]at g;exact g
 by_cases j:b=x
 ·subst j;rw[yB]at q;cases q;exact m
 ·rw[yI j]at q;by_cases a:b=e
  ·have n:H b=some (.own x):=by
    rcases o with z|z
    ·exact absurd (a.trans z) j
    ·rw[a];exact z
   rw[q]at n;cases n;obtain⟨v,p⟩:=l;exact⟨v,by rw[a];exact p⟩
  ·refine(ok b u q).stay (λc v i r=>k c v ?_ r) (λc r=>by rw[yI (d c b r)];exact r) λc xs r=>by rw[yI (f c xs r)];exact r
   rcases i with rfl|i
   ·exact a
   ·rintro rfl;rcases o with z|z
    ·exact d c b i z
    ·rw[i]at z;cases z;exact j rfl
end
structure Un(fs ex:List Addr)(H H':Hp)(h h':Heap):Prop where
 keep:∀b o,h.get? b=some o->H b=none->b∉fs->b∉ex->h'.get? b=some o
 slot:∀b o,h.get? b=some o->H b=none->b∈fs->b∉ex->∃sl,h'.get? b=some {o with slots:=sl}
 free:∀b o,h.get? b=some o->H b=none->b∉ex->H' b=none
 there:∀b o,h.get? b=some o->b∉ex->∃o',h'.get? b=some o'
 tups:∀b xs,H b=some (.tup xs)->H' b=some (.tup xs)
 frzs:∀b o u,H b=some (.frz o u)->H' b=some (.frz o u)
 tbls:∀b ps,H b=some (.tbl ps)->∃more,H' b=some (.tbl (ps++more))
section
variable {fs fs' ex ex':List Addr}{H H1 H2:Hp}{h h1 h2 h':Heap}{a x e:Addr}{o:HO}
def Un.any(u:Un fs ex H H1 h h1){b:Addr}{a:Obj}(q:h.get? b=some a)(n:H b=none)(c:b∉ex):∃e,h1.get? b=some {a with slots:=e}:=by
 by_cases d:b∈fs
 ·exact u.slot b a q n d c
 ·exact⟨a.slots,u.keep b a q n d c⟩
def Un.kept(k:∀b u,h.get? b=some u->h'.get? b=some u):Un fs ex H H h h':=
 ⟨λb a q _ _ _=>k b a q,λb a q _ _ _=>⟨a.slots,k b a q⟩,λ_ _ _ n _=>n,λb a q _=>⟨a,k b a q⟩,λ_ _ q=>q,λ_ _ _ q=>q,λ_ ps q=>⟨#[],by rw[q];simp⟩⟩
def Un.refl:Un fs ex H H h h:=Un.kept λ_ _ q=>q
def Un.laid(k:∀b u,h.get? b=some u->h'.get? b=some u)(hp:h.objs.size<=a)(hn:H a=none):Un fs ex H (upd H a o) h h' where
 keep:=λb u q _ _ _=>k b u q
 slot:=λb u q _ _ _=>⟨u.slots,k b u q⟩
 free:=λb u q n _=>by rw[yI (bY7 (bY9 (bYV q) hp))];exact n
 there:=λb u q _=>⟨u,k b u q⟩
 tups:=λb xs q=>by rw[yI (yJ q hn)];exact q
 frzs:=λb u xs q=>by rw[yI (yJ q hn)];exact q
 tbls:=λb ps q=>⟨#[],by rw[yI (yJ q hn),q];simp⟩
def Un.write(c:Mut (H x))(j:e=x\/H e=some (.own x))(k:∀b u,b≠e->h.get? b=some u->h'.get? b=some u)(d:∃u,h'.get? e=some u):Un fs ex H (upd H x o) h h':=by
 have g:∀b,H b=none->b≠x:=λb n z=>by subst z;rw[n]at c;exact c
 have i:∀b,H b=none->b≠e:=λb n z=>by
  subst z;rcases j with r|r
  ·exact g b n r
  ·rw[n]at r;cases r
 have f:∀b u,H b=some u->¬Mut (some u)->b≠x:=λb u q nm z=>by subst z;rw[q]at c;exact nm c
 refine⟨λb u q n _ _=>k b u (i b n) q,λb u q n _ _=>⟨u.slots,k b u (i b n) q⟩,λb u q n _=>by rw[yI (g b n)];exact n,λb u q _=>?_,
  λb xs q=>by rw[yI (f b _ q λz=>z)];exact q,λb u xs q=>by rw[yI (f b _ q λz=>z)];exact q,λb ps q=>⟨#[],by rw[yI (f b _ q λz=>z),q];simp⟩⟩
 by_cases a:b=e
 ·subst a;exact d
 ·exact⟨u,k b u a q⟩
end
def trk(h:Heap)(H:Hp):List Addr:=(bYU h.objs.size).filter λa=>(H a).isSome
def aKN(h:Heap)(H:Hp):Heap:=PySem.W.hideAll h (trk h H)
def aKO(h:Heap)(H:Hp):(aKN h H).objs.size=h.objs.size:=PySem.W.hideAll_size _ _
def bQ0{h:Heap}{H:Hp}{b:Addr}{o:Obj}(e:h.get? b=some o)(n:H b=none):(aKN h H).get? b=some o:=
 PySem.W.hideAll_get _ e λa=>by have q:(H b).isSome=true:=(cQO.mp a).2;rw[n]at q;simp at q
def bJT{h:Heap}{H:Hp}{b:Addr}{o:Obj}(e:(aKN h H).get? b=some o):h.get? b=some o/\H b=none:=by
 have a:h.get? b=some o:=PySem.W.of_hideAll (trk h H) e;refine⟨a,?_⟩;cases q:H b with
 |none=>rfl
 |some x=>have c:b∈trk h H:=cQO.mpr ⟨cQf.mpr (bYV a),by simp[q]⟩;have z:(aKN h H).get? b=none:=PySem.W.hideAll_none (trk h H) c;rw[z]at e;cases e
def bJs(g h:Heap)(L:Addr):List (Addr×Obj):=(bYU h.objs.size).filterMap λa=>if a=L\/(g.get? a).isSome=true then none else(h.get? a).map λo=>(a,o)
def jW(g h:Heap)(L d:Addr):List (Addr×Obj):=(bJs g h L).filter λp=>decide (p.1≠d)
end L2
namespace L2
open PySem PySem.Spec PyProof.Rows
structure Mod(K:bYI)(mg:Str->Option bYH)(base:Heap):Prop where
 kin:K.In base
 glob:base.Ns cQe mg
 blt:∃mb,base.Ns builtinsNs mb/\∀x:Str,x≠"__name__"->mb x=cQq x
 nolimit:base.NoLimit
structure Cx where
 prog:bY4
 w:cQa
 K:bYI
 mg:Str->Option bYH
 base:Heap
 A:cQl
 N:List Str
 s₀:bYK
 H₀:Hp
 env:Env
 outer:List Env
 stack:List Env
 ex:List Addr
 fn:Str->Bool
 calm:Bool
 pn:List (Addr×Obj)
 xe:bYH->bYK->Prop
def frs(l:List Env):List Addr:=l.filterMap (·.frame)
abbrev Cx.fs(X:Cx):List Addr:=frs X.outer
def Vis(a:cXV)(x:Str):Prop:=a.names.lookup x=some .local\/a.names.lookup x=some .cell\/a.names.lookup x=some .free
def Loc(a:cXV)(x:Str):Prop:=a.names.lookup x=some .local\/a.names.lookup x=some .cell
def bYn(env:Env)(h:Heap)(m:Str->Option bYH)(x:Str)(u:bYH):Prop:=
 (env.kindOf x=some .local/\m x=some u)\/((env.kindOf x=some .cell\/env.kindOf x=some .free)/\∃c,env.cells.lookup x=some c/\h.IsCell c (some u))
structure Cx.Ok(X:Cx):Prop where
 mod:Mod X.K X.mg X.base
 kind:X.env.scope.kind= .function
 glob:X.env.globals=cQe
 blt:X.env.builtins=builtinsNs
 above:X.s₀.heap.objs.size<=X.env.locals
 inj:∀x y c,X.env.cells.lookup x=some c->X.env.cells.lookup y=some c->x=y
 has:∀x,(X.env.kindOf x=some .cell\/X.env.kindOf x=some .free)->∃c,X.env.cells.lookup x=some c
 cab:∀x c,X.fn x=true->X.env.cells.lookup x=some c->X.s₀.heap.objs.size<=c
 hd:X.calm=true->X.A.handled=none
 frames:X.A.frames=some X.stack
 stk:X.stack=X.outer\/(X.stack=X.env::X.outer/\X.env.frame=some X.env.locals)
 exf:∀b∈X.ex,b≠X.env.locals/\∀x c,X.env.cells.lookup x=some c->c≠b
 bs:∀b o,X.base.get? b=some o->X.s₀.heap.get? b=some o/\X.H₀ b=none
 bsz:X.base.objs.size<=X.s₀.heap.objs.size
 noex:∀b o,X.base.get? b=some o->b∉X.ex
 exfs:∀b∈X.ex,b∉X.fs
 funs:X.s₀.heap.FunFrames X.base X.outer
 frf:∀b∈X.fs,X.H₀ b=none
structure Inv(X:Cx)(pins:List (Addr×Obj))(σ:List (Option V))(H:Hp)(s:bYK):Prop where
 ok:X.Ok
 os:s.os=X.s₀.os
 bare:AllBare s.gens
 base:Un X.fs X.ex X.H₀ H X.s₀.heap s.heap
 loc:∃m,s.heap.Ns X.env.locals m/\∀ (i:Nat)(x:Str)(v:V),X.N[i]? =some x->σ[i]? =some (some v)->Vis X.env.scope x->∃u,zJ v u/\bYn X.env s.heap m x u
 cell:∀x c,X.env.cells.lookup x=some c->∃v,s.heap.IsCell c v
 free:H X.env.locals=none
 freeC:∀x c,X.env.cells.lookup x=some c->H c=none
 pin:∀p∈X.pn++pins,s.heap.get? p.1=some p.2/\H p.1=none/\p.1≠X.env.locals/\p.1∉X.fs/\∀v,p.2.data≠ .cell v
 hok:HOk X.prog X.w H s.heap
 len:σ.length=X.N.length
section
variable {X:Cx}{pins:List (Addr×Obj)}{σ:List (Option V)}{H H':Hp}{s:bYK}{h':Heap}
def Cx.Ok.nofr(ok:X.Ok){b:Addr}{o:Obj}(e:X.base.get? b=some o):b∉X.fs:=λa=>by
 have:=(ok.funs.mem a).1;rw[e]at this;cases this
def Inv.bs(I:Inv X pins σ H s):∀b o,X.base.get? b=some o->s.heap.get? b=some o/\H b=none:=λb o e=>
 ⟨I.base.keep b o (I.ok.bs b o e).1 (I.ok.bs b o e).2 (I.ok.nofr e) (I.ok.noex b o e),I.base.free b o (I.ok.bs b o e).1 (I.ok.bs b o e).2 (I.ok.noex b o e)⟩
def Inv.bk(I:Inv X pins σ H s):∀b o,X.base.get? b=some o->s.heap.get? b=some o:=λb o e=>(I.bs b o e).1
def Inv.mod(I:Inv X pins σ H s):Mod X.K X.mg X.base:=I.ok.mod
def Inv.kIn(I:Inv X pins σ H s):X.K.In s.heap:=I.ok.mod.kin.keeps I.bk
def Inv.nolimit(I:Inv X pins σ H s):s.heap.NoLimit:=I.ok.mod.nolimit.keeps I.bk
def Inv.lt(I:Inv X pins σ H s):X.env.locals<s.heap.objs.size:=let ⟨_,hn,_⟩:=I.loc;hn.lt
def Inv.sz(I:Inv X pins σ H s):X.s₀.heap.objs.size<=s.heap.objs.size:=cQn I.ok.above (cZl I.lt)
def Inv.nofs(I:Inv X pins σ H s){a:Addr}(h:s.heap.objs.size<=a):a∉X.fs:=λc=>by
 obtain⟨_,o,b,_⟩:=I.ok.funs.mem c;exact absurd (bY9 (bYV b) (cQn I.sz h)) (cQQ _)
def Inv.cne(I:Inv X pins σ H s):∀x c,X.env.cells.lookup x=some c->c≠X.env.locals:=λx c e z=>by
 obtain⟨v,o,f,d⟩:=I.cell x c e;obtain⟨m,⟨o',es,g,b,a,_⟩,_⟩:=I.loc;rw[z,b]at f;cases f;rw[a]at d;cases d
def Inv.funs(I:Inv X pins σ H s):s.heap.FunFrames X.base X.outer:=by
 have all:∀ (l:List Env),(∀b∈frs l,b∈X.fs)->X.s₀.heap.FunFrames X.base l->s.heap.FunFrames X.base l:=by
  intro l;induction l with
  |nil=>intro _ _;trivial
  |cons env r m=>intro f hl;obtain⟨j,⟨L,o,a,h,k,i⟩,g⟩:=hl;have c:L∈X.fs:=f L (by unfold frs;rw[cZs,a];exact bYW);obtain⟨n,e⟩:=I.base.slot L o k (I.ok.frf L c) c λz=>I.ok.exfs L z c;exact⟨j,⟨L,_,a,h,e,i⟩,m (λb d=>f b (by unfold frs;rw[cZs,a];exact bYT _ d)) g⟩
 exact all X.outer (λ_ d=>d) I.ok.funs
def Inv.stack(I:Inv X pins σ H s):s.heap.FunFrames X.base X.stack:=by
 rcases I.ok.stk with e|⟨e,a⟩
 ·rw[e];exact I.funs
 ·rw[e];obtain⟨m,b,_⟩:=I.loc;refine .cons (by rw[I.ok.kind];decide) a b ?_ I.funs;exact Heap.get?_none_of_le (cQn I.ok.bsz I.ok.above)
def Inv.stkSub(I:Inv X pins σ H s):∀b∈frs X.stack,b∈X.env.locals::X.fs:=λb a=>by
 rcases I.ok.stk with e|⟨e,c⟩
 ·rw[e]at a;exact bYT _ a
 ·rw[e]at a;unfold frs at a;rw[cZs,c]at a;exact a
def Inv.stkFree(I:Inv X pins σ H s):∀b∈frs X.stack,H b=none:=λb a=>by
 rcases bYQ.mp (I.stkSub b a)with e|a
 ·rw[e];exact I.free
 ·obtain⟨_,o,c,_⟩:=I.ok.funs.mem a;exact I.base.free b o c (I.ok.frf b a) λz=>I.ok.exfs b z a
def Inv.step{g':Array GenState}{t':Nat}{d':Drawn}{ch:List Addr}(I:Inv X pins σ H s) (h:∀b∈ch,(b∈X.ex\/X.s₀.heap.objs.size<=b)/\b≠X.env.locals/\(∀x c,X.env.cells.lookup x=some c->c≠b)/\∀p∈X.pn++pins,p.1≠b) (keep:∀b o,b≠X.env.locals->b∉X.fs->b∉ch->s.heap.get? b=some o->H b=none->h'.get? b=some o) (A:∀b o,b≠X.env.locals->b∈X.fs->b∉ch->s.heap.get? b=some o->H b=none->∃L,h'.get? b=some {o with slots:=L}) (f:∀b o,b∉ch->s.heap.get? b=some o->H b=none->H' b=none) (there:∀b o,b∉ch->s.heap.get? b=some o->∃o',h'.get? b=some o') (E:∀b xs,H b=some (.tup xs)->H' b=some (.tup xs)) (F:∀b o u,H b=some (.frz o u)->H' b=some (.frz o u)) (D:∀b ps,H b=some (.tbl ps)->∃more,H' b=some (.tbl (ps++more))) (V:∀m,s.heap.Ns X.env.locals m->h'.Ns X.env.locals m) (M:HOk X.prog X.w H' h') (T:AllBare g'): Inv X pins σ H' {s with heap:=h',gens:=g',drawn:=d',toks:=t'}:=by
 have J:∀b o,X.s₀.heap.get? b=some o->b≠X.env.locals:=λb o e=>bY7 (bY9 (bYV e) I.ok.above);have y:∀b o,X.s₀.heap.get? b=some o->b∉X.ex->b∉ch:=λb o e a B=>by
  rcases(h b B).1 with z|z
  ·exact a z
  ·exact absurd (bY9 (bYV e) z) (cQQ _)
 have g:∀x c,X.env.cells.lookup x=some c->∀v,s.heap.IsCell c v->h'.IsCell c v:=λx c e v ⟨o,C,N⟩=>by
  have j:c∉ch:=λz=>(h c z).2.2.1 x c e rfl;by_cases Q:c∈X.fs
  ·obtain⟨L,q⟩:=A c o (I.cne x c e) Q j C (I.freeC x c e);exact⟨_,q,N⟩
  ·exact⟨o,keep c o (I.cne x c e) Q j C (I.freeC x c e),N⟩
 refine⟨I.ok,I.os,T,⟨λb o e n B a=>?_,λb o e n B a=>?_,λb o e n a=>?_,λb o e a=>?_,λb xs e=>E b xs (I.base.tups b xs e),λb o xs e=>F b o xs (I.base.frzs b o xs e),λb ps e=>?_⟩,?_,λx c e=>?_,?_,λx c e=>?_,λp O=>?_,M,I.len⟩
 ·exact keep b o (J b o e) B (y b o e a) (I.base.keep b o e n B a) (I.base.free b o e n a)
 ·obtain⟨L,t⟩:=I.base.slot b o e n B a;obtain⟨K,G⟩:=A b _ (J b o e) B (y b o e a) t (I.base.free b o e n a);exact⟨K,G⟩
 ·obtain⟨o',t⟩:=I.base.there b o e a;exact f b o' (y b o e a) t (I.base.free b o e n a)
 ·obtain⟨o',t⟩:=I.base.there b o e a;exact there b o' (y b o e a) t
 ·obtain⟨R,t⟩:=I.base.tbls b ps e;obtain⟨W,G⟩:=D b _ t;exact⟨R++W,by rw[G,Array.append_assoc]⟩
 ·obtain⟨m,S,hl⟩:=I.loc;refine⟨m,V m S,λi x v t G U=>?_⟩;obtain⟨u,r,l⟩:=hl i x v t G U;refine⟨u,r,?_⟩;rcases l with l|⟨k,c,e,z⟩
  ·exact .inl l
  ·exact .inr ⟨k,c,e,g x c e _ z⟩
 ·obtain⟨v,z⟩:=I.cell x c e;exact⟨v,g x c e v z⟩
 ·obtain⟨m,⟨o,_,_,C,_⟩,_⟩:=I.loc;exact f _ o (λz=>(h _ z).2.1 rfl) C I.free
 ·obtain⟨v,o,C,N⟩:=I.cell x c e;exact f c o (λz=>(h c z).2.2.1 x c e rfl) C (I.freeC x c e)
 ·obtain⟨e,n,ne,P,d⟩:=I.pin p O;have j:p.1∉ch:=λz=>(h p.1 z).2.2.2 p O rfl;exact⟨keep p.1 p.2 ne P j e n,f p.1 p.2 j e n,ne,P,d⟩
def Inv.un{t':Nat}(I:Inv X pins σ H s)(u:Un X.fs [] H H' s.heap h')(d:HOk X.prog X.w H' h'):Inv X pins σ H' {s with heap:=h',toks:=t'}:=by
 obtain⟨m,⟨o,es,l,h,r⟩,_⟩:=id I.loc;obtain⟨p,j⟩:=u.any h I.free (by simp);exact I.step (g':=s.gens) (d':=s.drawn) (ch:= []) (λ_ z=>nomatch z) (λb o _ g _ e n=>u.keep b o e n g (by simp)) (λb o _ g _ e n=>u.slot b o e n g (by simp)) (λb o _ e n=>u.free b o e n (by simp)) (λb o _ e=>u.there b o e (by simp)) u.tups u.frzs u.tbls (λq k=>by
  obtain⟨o',f,c,a,i⟩:=k;rw[h]at a;cases a;exact⟨_,f,c,j,i⟩) d I.bare
def Inv.call{g':Array GenState}{t':Nat}{d':Drawn}{ch:List Addr}(I:Inv X pins σ H s)(u:Un (frs X.stack) ch H H' s.heap h')(h:HOk X.prog X.w H' h')(q:AllBare g') (d:∀b∈ch,(b∈X.ex\/X.s₀.heap.objs.size<=b)/\b≠X.env.locals/\(∀x c,X.env.cells.lookup x=some c->c≠b)/\∀p∈X.pn++pins,p.1≠b): Inv X pins σ H' {s with heap:=h',gens:=g',drawn:=d',toks:=t'}:=by
 obtain⟨m,⟨o,es,y,k,r⟩,_⟩:=id I.loc;obtain⟨A,j⟩:=u.any k I.free λz=>(d _ z).2.1 rfl;exact I.step (ch:=ch) d (λb o j t a e n=>u.keep b o e n (λz=>(bYQ.mp (I.stkSub b z)).elim j t) a) (λb o _ _ a e n=>u.any e n a) (λb o a e n=>u.free b o e n a) (λb o a e=>u.there b o e a) u.tups u.frzs u.tbls (λB v=>by
  obtain⟨o',i,g,f,l⟩:=v;rw[k]at f;cases f;exact⟨_,i,g,j,l⟩) h q
def Inv.turned{t':Nat}{it:Addr}(I:Inv X pins σ H s)(k:∀b o,b≠it->s.heap.get? b=some o->h'.get? b=some o)(h:H it=none)(f:it≠X.env.locals) (h1:it∈X.ex\/X.s₀.heap.objs.size<=it) (h2:∀x c,X.env.cells.lookup x=some c->c≠it) (i:∀p∈X.pn++pins,p.1≠it):Inv X pins σ H {s with heap:=h',toks:=t'}:=by
 have d:∀b u,H b=some u->b≠it:=λb u e z=>by rw[z,h]at e;cases e
 refine I.step (g':=s.gens) (d':=s.drawn) (ch:= [it]) (λb l=>?_) (λb o _ _ a e _=>k b o (λz=>a (by simp[z])) e) (λb o _ _ a e _=>⟨o.slots,k b o (λz=>a (by simp[z])) e⟩) (λ_ _ _ _ n=>n)
  (λb o a e=>⟨o,k b o (λz=>a (by simp[z])) e⟩) (λ_ _ e=>e) (λ_ _ _ e=>e) (λb ps e=>⟨#[],by rw[e];simp⟩) (λm t=>?_) (λb u e=>?_) I.bare
 ·have e:b=it:=by simpa using l
  subst e;exact⟨h1,f,h2,i⟩
 ·obtain⟨o,es,g,j,r⟩:=t;exact⟨o,es,g,k _ o (cQr f) j,r⟩
 ·refine(I.hok b u e).stay (λc v a q=>k c v ?_ q) (λ_ q=>q) λ_ _ q=>q;rcases a with z|z
  ·rw[z];exact d b u e
  ·exact d c _ z
def Inv.tok(I:Inv X pins σ H s)(t:Nat):Inv X pins σ H {s with toks:=t}:=I.un (h':=s.heap) (t':=t) Un.refl I.hok
def Inv.kept{t':Nat}(I:Inv X pins σ H s)(k:∀b u,s.heap.get? b=some u->h'.get? b=some u):Inv X pins σ H {s with heap:=h',toks:=t'}:=I.un (Un.kept k) (I.hok.kept k)
def Inv.laid{a:Addr}{o:HO}{t':Nat}(I:Inv X pins σ H s)(k:∀b u,s.heap.get? b=some u->h'.get? b=some u)(c:s.heap.objs.size<=a)(d:zD X.prog X.w (upd H a o) h' a o):
  Inv X pins σ (upd H a o) {s with heap:=h',toks:=t'}:=I.un (Un.laid k c (I.hok.fresh c)) (I.hok.laid k c d)
def Inv.write{x e:Addr}{o:HO}{t':Nat}(I:Inv X pins σ H s)(f:Mut (H x))(d:e=x\/H e=some (.own x))(k:∀b u,b≠e->s.heap.get? b=some u->h'.get? b=some u)(a:∃u,h'.get? e=some u)
  (c:zD X.prog X.w (upd H x o) h' x o):Inv X pins σ (upd H x o) {s with heap:=h',toks:=t'}:=I.un (Un.write f d k a) (I.hok.write f d k a c)
def Inv.pins_of{a:List (Addr×Obj)}(I:Inv X pins σ H s)(h:∀p∈a,s.heap.get? p.1=some p.2/\H p.1=none/\p.1≠X.env.locals/\p.1∉X.fs/\∀v,p.2.data≠ .cell v):Inv X a σ H s:=
 ⟨I.ok,I.os,I.bare,I.base,I.loc,I.cell,I.free,I.freeC,λp b=>(cQm.mp b).elim (λz=>I.pin p (cXR _ z)) (h p),I.hok,I.len⟩
def aVq{N:List Str}(e:N.Nodup){i j:Nat}{x:Str}(a:N[i]? =some x)(b:N[j]? =some x):i=j:=by
 obtain⟨h1,d⟩:=bYS.mp a;obtain⟨h2,c⟩:=bYS.mp b;exact(cXx e).mp (d.trans c.symm)
def aQR{M:Model}{A:cQl}{E:bYH->bYK->Prop}{i:Nat}{x:Str}{v:V}{u:bYH}{Q:Unit->bYK->Prop}(I:Inv X pins σ H s)(hN:X.N.Nodup)(hi:X.N[i]? =some x)(B:Loc X.env.scope x)(r:zJ v u) (h:∀s',Inv X pins (σ.set i (some v)) H s'->(∃a,cXL a s.heap s'.heap/\(a=X.env.locals\/X.env.cells.lookup x=some a))->Q () s') (hf:X.fn x=true\/X.env.scope.names.lookup x=some .local:=by first|exact .inl rfl|exact .inr rfl|assumption):bYP M A (storeName X.env x u) Q E s:=by
 obtain⟨m,hn,hl⟩:=id I.loc;have P:(X.env.scope.kind== .class || (X.env.scope.kind== .module && X.env.locals !=X.env.globals))=false:=by rw[I.ok.kind];rfl
 have hiσ:i<σ.length:=by rw[I.len];exact(bYS.mp hi).1
 have cne:=I.cne;have l:∀ {a:Addr} {h':Heap},(∃o,s.heap.get? a=some o/\H a=none)->cXL a s.heap h'->HOk X.prog X.w H h':=λ{a h'} ha f b ob e=>by
  obtain⟨_,_,C⟩:=ha;refine(I.hok b ob e).stay (λc T t q=>(f.2 c ?_).trans q) (λ_ q=>q) λ_ _ q=>q;rintro rfl;rcases t with rfl|t
  ·rw[C]at e;cases e
  ·rw[C]at t;cases t
 rcases B with F|F
 ·refine wpAny_storeName_local F hn (λh' a0 f=>?_) P;obtain⟨oL,_,_,a1,_⟩:=id hn;refine h _ ⟨I.ok,I.os,I.bare,⟨λb o e n K B=>?_,λb o e n K B=>?_,I.base.free,λb o e B=>?_,I.base.tups,I.base.frzs,I.base.tbls⟩,⟨_,a0,λj y v' g D e3=>?_⟩,λy c e=>?_,I.free,I.freeC,λp Z=>?_,l ⟨oL,a1,I.free⟩ f,by simpa using I.len⟩ ⟨_,f,.inl rfl⟩
  ·exact(f.2 b (bY7 (bY9 (bYV e) I.ok.above))).trans (I.base.keep b o e n K B)
  ·obtain⟨W,g⟩:=I.base.slot b o e n K B;exact⟨W,(f.2 b (bY7 (bY9 (bYV e) I.ok.above))).trans g⟩
  ·obtain⟨o',g⟩:=I.base.there b o e B;exact⟨o',(f.2 b (bY7 (bY9 (bYV e) I.ok.above))).trans g⟩
  ·by_cases G:j=i
   ·subst G;rw[hi]at g;cases g;rw[cZD hiσ]at D;cases D;exact⟨u,r,.inl ⟨F,by simp⟩⟩
   ·rw[cJr (cQr G)]at D;obtain⟨u',Y,q⟩:=hl j y v' g D e3;refine⟨u',Y,?_⟩;rcases q with⟨k,e⟩|⟨k,c,e,z⟩
    ·refine .inl ⟨k,?_⟩;have:y≠x:=λe=>G (aVq hN g (e ▸ hi));simp[this,e]
    ·exact .inr ⟨k,c,e,z.sameBut f (cne y c e)⟩
  ·obtain⟨T,z⟩:=I.cell y c e;exact⟨T,z.sameBut f (cne y c e)⟩
  ·obtain⟨e,n,ne,nf,d⟩:=I.pin p Z;exact⟨(f.2 p.1 ne).trans e,n,ne,nf,d⟩
 ·have J:X.fn x=true:=by
   rcases hf with z|z
   ·exact z
   ·rw[z]at F;cases F
  obtain⟨c,t⟩:=I.ok.has x (.inl F);obtain⟨T,z⟩:=I.cell x c t;refine wpAny_storeName_cell I.ok.kind F t z (λh' S f=>?_);obtain⟨oc,L,O⟩:=id z;refine h {s with heap:=h'} ⟨I.ok,I.os,I.bare,⟨λb o e n K B=>?_,λb o e n K B=>?_,I.base.free,λb o e B=>?_,I.base.tups,I.base.frzs,I.base.tbls⟩,⟨m,hn.sameBut f (cQr (cne x c t)),λj y v' g D e3=>?_⟩,λy U e=>?_,I.free,I.freeC,λp Z=>?_,l ⟨oc,L,I.freeC x c t⟩ f,by simpa using I.len⟩ ⟨c,f,.inr t⟩
  ·exact(f.2 b (bY7 (bY9 (bYV e) (I.ok.cab x c J t)))).trans (I.base.keep b o e n K B)
  ·obtain⟨W,g⟩:=I.base.slot b o e n K B;exact⟨W,(f.2 b (bY7 (bY9 (bYV e) (I.ok.cab x c J t)))).trans g⟩
  ·obtain⟨o',g⟩:=I.base.there b o e B;exact⟨o',(f.2 b (bY7 (bY9 (bYV e) (I.ok.cab x c J t)))).trans g⟩
  ·by_cases G:j=i
   ·subst G;rw[hi]at g;cases g;rw[cZD hiσ]at D;cases D;exact⟨u,r,.inr ⟨.inl F,c,t,S⟩⟩
   ·rw[cJr (cQr G)]at D;obtain⟨u',Y,q⟩:=hl j y v' g D e3;refine⟨u',Y,?_⟩;rcases q with q|⟨k,U,e,z'⟩
    ·exact .inl q
    ·refine .inr ⟨k,U,e,z'.sameBut f ?_⟩;rintro rfl;exact G (aVq hN g (I.ok.inj _ _ _ e t ▸ hi))
  ·by_cases R:U=c
   ·subst R;exact⟨_,S⟩
   ·obtain⟨w2,z2⟩:=I.cell y U e;exact⟨w2,z2.sameBut f R⟩
  ·obtain⟨e,n,ne,nf,d⟩:=I.pin p Z;refine⟨(f.2 p.1 ?_).trans e,n,ne,nf,d⟩;intro q;rw[q,L]at e;have q':oc=p.2:=bY3 e;exact d T (by rw[<- q'];exact O)
def aVX{M:Model}{A:cQl}{E:bYH->bYK->Prop}{i:Nat}{x:Str}{v:V}{u:bYH}{Q:Unit->bYK->Prop}(I:Inv X pins σ H s)(d:X.N.Nodup)(hi:X.N[i]? =some x)(b:Loc X.env.scope x)(r:zJ v u) (h:∀s',Inv X pins (σ.set i (some v)) H s'->Q () s') (a:X.fn x=true\/X.env.scope.names.lookup x=some .local:=by first|exact .inl rfl|exact .inr rfl|assumption):bYP M A (storeName X.env x u) Q E s:=
 aQR I d hi b r (λs' c _=>h s' c) a
def Inv.call'{s':bYK}{ch:List Addr}(I:Inv X pins σ H s)(i:s'.os=s.os)(u:Un (frs X.stack) ch H H' s.heap s'.heap)(d:HOk X.prog X.w H' s'.heap)(j:AllBare s'.gens) (a:∀b∈ch,(b∈X.ex\/X.s₀.heap.objs.size<=b)/\b≠X.env.locals/\(∀x c,X.env.cells.lookup x=some c->c≠b)/\∀p∈X.pn++pins,p.1≠b):Inv X pins σ H' s':=by
 obtain⟨h',f,h,g,o'⟩:=s';have e:o'=s.os:=i;subst e;exact I.call (g':=f) (t':=g) (d':=h) u d j a
end
abbrev XK:=bYH->Option Addr->Hp->Prop
abbrev St:=List (Option V)
abbrev VK:=V->Hp->Prop
abbrev TE:=St->Hp->VK->Prop
abbrev TT:=St->Hp->(Bool->Hp->Prop)->Prop
abbrev TA:=St->Hp->(List V->Hp->Prop)->Prop
structure aZ4 where
 nx:St->Hp->Prop
 rt:VK
 bk:St->Hp->Prop:=λ_ _=>False
 ct:St->Hp->Prop:=λ_ _=>False
abbrev TS:=aZ4->St->Hp->Prop
def EP(X:Cx)(pins:List (Addr×Obj))(σ:St)(Q:VK)(u:bYH)(s':bYK):Prop:=∃v H',Inv X pins σ H' s'/\zJ v u/\Q v H'
def TP(X:Cx)(pins:List (Addr×Obj))(σ:St)(Q:Bool->Hp->Prop)(b:Bool)(s':bYK):Prop:=∃H',Inv X pins σ H' s'/\Q b H'
def AP(X:Cx)(pins:List (Addr×Obj))(σ:St)(Q:List V->Hp->Prop)(us:List bYH)(s':bYK):Prop:=∃a H',Inv X pins σ H' s'/\xW a us/\Q a H'
def SP(X:Cx)(pins:List (Addr×Obj))(D:aZ4)(f:Flow)(s':bYK):Prop:=
 match f with
 |.next=>∃a H',Inv X pins a H' s'/\D.nx a H'
 |.brk=>∃a H',Inv X pins a H' s'/\D.bk a H'
 |.cont=>∃a H',Inv X pins a H' s'/\D.ct a H'
 |.ret u=>∃v a H',Inv X pins a H' s'/\zJ v u/\D.rt v H'
def PE(X:Cx)(e:Expr)(t:TE):Prop:=
 ∀ (pins:List (Addr×Obj))(s:bYK)(σ:St)(H:Hp)(Q:VK),Inv X pins σ H s->t σ H Q->bYP (bYR X.prog X.w) X.A (eval e X.env) (EP X pins σ Q) X.xe s
def PT(X:Cx)(e:Expr)(t:TT):Prop:=
 ∀ (pins:List (Addr×Obj))(s:bYK)(σ:St)(H:Hp)(Q:Bool->Hp->Prop),Inv X pins σ H s->t σ H Q->bYP (bYR X.prog X.w) X.A (isTrue e X.env (eval e X.env)) (TP X pins σ Q) X.xe s
def PW(X:Cx)(e:Expr)(t:TT):Prop:=
 ∀ (a:Sem bYH)(pins:List (Addr×Obj))(s:bYK)(σ:St)(H:Hp)(Q:Bool->Hp->Prop),Inv X pins σ H s->t σ H Q->bYP (bYR X.prog X.w) X.A (isTrue e X.env a) (TP X pins σ Q) X.xe s
def PW.pt{X:Cx}{e:Expr}{t:TT}(h:PW X e t):PT X e t:=h _
def PA(X:Cx)(es:List Expr)(t:TA):Prop:=
 ∀ (pos:Pos)(pins:List (Addr×Obj))(s:bYK)(σ:St)(H:Hp)(Q:List V->Hp->Prop),Inv X pins σ H s->t σ H Q->bYP (bYR X.prog X.w) X.A (spliced (cXk pos (cQk es X.env))) (AP X pins σ Q) X.xe s
def PS(X:Cx)(st:Stmt)(t:TS):Prop:=
 ∀ (pins:List (Addr×Obj))(s:bYK)(σ:St)(H:Hp)(D:aZ4),Inv X pins σ H s->t D σ H->bYP (bYR X.prog X.w) X.A (exec st X.env) (SP X pins D) X.xe s
def PSs(X:Cx)(st:List Stmt)(t:TS):Prop:=
 ∀ (pins:List (Addr×Obj))(s:bYK)(σ:St)(H:Hp)(D:aZ4),Inv X pins σ H s->t D σ H->bYP (bYR X.prog X.w) X.A (execs st X.env) (SP X pins D) X.xe s
def thn{α:Type}{t:Sem α}{Q b:α->bYK->Prop}{M:Model}{A:cQl}{E:bYH->bYK->Prop}{s:bYK}(h:bYP M A t Q E s)(c:∀a s,Q a s->b a s):bYP M A t b E s:=cQJ h c λ_ _ x=>x
end L2
namespace L2
open PySem PySem.Spec PyProof.Rows
section
variable {X:Cx}
def bin{a b:Expr}{ta tb:TE}(i:PE X a ta)(j:PE X b tb){pins:List (Addr×Obj)}{s:bYK}{σ:St}{H:Hp}{R:V->V->Hp->Prop}(I:Inv X pins σ H s)(h:ta σ H λx H1=>tb σ H1 λy H2=>R x y H2) {α:Type} {Q:α->bYK->Prop} {f:bYH->bYH->Sem α} (g:∀v u e x y H2,Inv X pins σ H2 e->zJ x v->zJ y u->R x y H2->bYP (bYR X.prog X.w) X.A (f v u) Q X.xe e): bYP (bYR X.prog X.w) X.A (eval a X.env) (λv c=>bYP (bYR X.prog X.w) X.A (eval b X.env) (λu d=>bYP (bYR X.prog X.w) X.A (f v u) Q X.xe d) X.xe c) X.xe s:=by
 refine thn (i pins s σ H _ I h) λv s1 ⟨x,H1,I1,r1,q1⟩=>?_;refine thn (j pins s1 σ H1 _ I1 q1) λu e ⟨y,H2,I2,r2,q2⟩=>?_;exact g v u e x y H2 I2 r1 r2 q2
inductive bV1(i:Nat)(σ:St)(H:Hp)(Q:VK):Prop|mk (v) (_:σ[i]? =some (some v)) (_:Q v H)
def tC(v:V):TE:=λ_ H Q=>Q v H
def bZ5{i:Nat}{x:Str}{pos:Pos}(n:X.N[i]? =some x)(j:Vis X.env.scope x)(d:(x==("__debug__":Str))=false:=by decide)(f:(x==("__classdict__":Str))=false:=by decide):PE X (.Name x pos) (bV1 i):=by
 intro pins s σ H Q I h;obtain⟨v,e,h⟩:=h;obtain⟨m,k,hl⟩:=I.loc;obtain⟨u,r,l⟩:=hl i x v n e j;have fin:EP X pins σ Q u s:=⟨v,H,I,r,h⟩;rcases l with⟨b,o⟩|⟨b,c,g,a⟩
 ·exact wpAny_Name (wpAny_loadName_local I.ok.kind b k o fin) d
 ·rcases b with b|b
  ·exact wpAny_Name (wpAny_loadName_cell I.ok.kind b g a fin) d
  ·exact wpAny_Name (wpAny_loadName_free I.ok.kind b g a fin f) d
def yE{i j pos}:PE X (.Constant (.int i) j pos) (tC (.int i)):=λ_ _ _ H _ I h=>wpAny_Constant_int ⟨.int i,H,I.tok _,⟨_,rfl⟩,h⟩
def wP{b j pos}:PE X (.Constant (.bool b) j pos) (tC (.bl b)):=λ_ _ _ H _ I h=>Constant_bool ⟨.bl b,H,I,rfl,h⟩
def x2{j pos}:PE X (.Constant .none j pos) (tC .non):=λ_ _ _ H _ I h=>Constant_none ⟨.non,H,I,rfl,h⟩
def yQ{x j pos}:PE X (.Constant (.str x) j pos) (tC (.str x)):=λ_ _ _ H _ I h=>Calls.Constant_str ⟨.str x,H,I.tok _,⟨_,rfl⟩,h⟩
def Gl(X:Cx)(x:Str):Prop:=X.env.kindOf x=some .globalImplicit
def uO{E:bYH->bYK->Prop}{pins:List (Addr×Obj)}{s:bYK}{σ:St}{H:Hp}{x:Str}{u:bYH}{pos:Pos}{Q:bYH->bYK->Prop}(I:Inv X pins σ H s)(b:Gl X x)(c:X.mg x=some u)(h:Q u s) (a:(x==("__debug__":Str))=false:=by decide):bYP (bYR X.prog X.w) X.A (eval (.Name x pos) X.env) Q E s:=
 cJR I.ok.kind b (Calls.loadGlobal_global (by rw[I.ok.glob];exact I.mod.glob.keeps I.bk) c h) a
def aXd{E:bYH->bYK->Prop}{pins:List (Addr×Obj)}{s:bYK}{σ:St}{H:Hp}{x:Str}{u:bYH}{pos:Pos}{Q:bYH->bYK->Prop}(I:Inv X pins σ H s)(c:Gl X x)(e:X.mg x=none)(a:cQq x=some u)(h:Q u s) (b:x≠"__name__":=by decide) (d:(x==("__debug__":Str))=false:=by decide):bYP (bYR X.prog X.w) X.A (eval (.Name x pos) X.env) Q E s:=by
 obtain⟨f,h1,h2⟩:=I.mod.blt;exact cJR I.ok.kind c (Calls.loadGlobal_builtin (by rw[I.ok.glob];exact I.mod.glob.keeps I.bk) e (by rw[I.ok.blt];exact h1.keeps I.bk) ((h2 x b).trans a) h) d
def v0{x:Str}{v:V}{u:bYH}{pos:Pos}(c:Gl X x)(b:X.mg x=some u)(r:zJ v u)(a:(x==("__debug__":Str))=false:=by decide):PE X (.Name x pos) (tC v):=
 λ_ _ _ H _ I h=>uO I c b ⟨v,H,I,r,h⟩ a
def zF{x:Str}{v:V}{u:bYH}{pos:Pos}(e:Gl X x)(d:X.mg x=none)(a:cQq x=some u)(r:zJ v u)(b:x≠"__name__":=by decide)(c:(x==("__debug__":Str))=false:=by decide):PE X (.Name x pos) (tC v):=
 λ_ _ _ H _ I h=>aXd I e d a ⟨v,H,I,r,h⟩ b c
variable {a b:Expr}{ta tb:TE}{pos:Pos}
def PC(X:Cx)(op:CmpOp)(a b:Expr)(t:TE):Prop:=
 ∀ (pins:List (Addr×Obj))(s:bYK)(σ:St)(H:Hp)(Q:VK),Inv X pins σ H s->t σ H Q->
  bYP (bYR X.prog X.w) X.A (eval a X.env) (λv c=>bYP (bYR X.prog X.w) X.A (eval b X.env) (λu d=>bYP (bYR X.prog X.w) X.A (cXb op v u) (EP X pins σ Q) X.xe d) X.xe c) X.xe s
def bXl(b:Expr){op:CmpOp}(h:op≠ .In)(h2:op≠ .NotIn):cZx op b=false:=by
 have c:(op==CmpOp.In)=false:=by cases op<;> first|rfl|exact absurd rfl h
 have a:(op==CmpOp.NotIn)=false:=by cases op<;> first|rfl|exact absurd rfl h2
 cases b<;> simp[cZx,c,a]
inductive tBQ(Q:Bool->Hp->Prop)(x:V)(H1:Hp):Prop|mk (c) (_:x= .bl c) (_:Q c H1)
def tB(t:TE):TT:=λσ H Q=>t σ H λx H1=>tBQ Q x H1
def bWW{op:CmpOp}{t:TE}(h:PC X op a b t)(h1:cZx op b=false:=by first|exact bXl _ (by decide) (by decide)|rfl):PT X (.Compare a [op] [b] pos) (tB t):=by
 intro pins s σ H Q I hw;refine wpAny_isTrue_Compare1 (thn (h pins s σ H _ I hw) λv f h1=>thn h1 λu e h2=>thn h2 λc s3 ⟨x,H1,I1,r1,q1⟩=>?_) h1;obtain⟨d,rfl,q⟩:=q1;cases r1;exact cXI ⟨H1,I1,q⟩
def xQ{e:Expr}{t:TE}(h:PE X e t)(b:∀a,isTrue e X.env a=(do let v <- a;standAt e.pos;cZ1 [v] (truthy v)):=by intro _;rfl):PT X e (tB t):=by
 intro pins s σ H Q I hw;refine isTrue_plain (thn (h pins s σ H _ I hw) λv s1 ⟨x,H1,I1,r1,q1⟩=>?_) (b _);obtain⟨d,rfl,q⟩:=q1;cases r1;exact cXI ⟨H1,I1,q⟩
variable {tA tB':TT}{jW:List Expr}
def bYz(t u:TT):TT:=λσ H Q=>t σ H λc H1=>if c=true then u σ H1 Q else Q false H1
def tOr(t u:TT):TT:=λσ H Q=>t σ H λc H1=>if c=true then Q true H1 else u σ H1 Q
def bYD(t:TT):TT:=λσ H Q=>t σ H λc H1=>Q (!c) H1
def wQ(b:PT X a tA):PW X (.BoolOp .And [a] pos) tA:=by
 intro d pins s σ H Q I h;refine isTrue_and (thn (b pins s σ H Q I h) λc f e=>?_);cases c with
 |true=>exact isTrue_and_nil e
 |false=>exact e
def wM(b:PT X a tA):PW X (.BoolOp .Or [a] pos) tA:=by
 intro d pins s σ H Q I h;refine isTrue_or (thn (b pins s σ H Q I h) λc f e=>?_);cases c with
 |false=>exact isTrue_or_nil e
 |true=>exact e
def vM(e:PT X a tA)(f:PW X (.BoolOp .And (b::jW) pos) tB'):PW X (.BoolOp .And (a::b::jW) pos) (bYz tA tB'):=by
 intro d pins s σ H Q I h;refine isTrue_and (thn (e pins s σ H _ I h) λc s1 ⟨H1,I1,q1⟩=>?_);cases c with
 |true=>exact f d pins s1 σ H1 Q I1 q1
 |false=>exact⟨H1,I1,q1⟩
def vG(e:PT X a tA)(f:PW X (.BoolOp .Or (b::jW) pos) tB'):PW X (.BoolOp .Or (a::b::jW) pos) (tOr tA tB'):=by
 intro d pins s σ H Q I h;refine isTrue_or (thn (e pins s σ H _ I h) λc s1 ⟨H1,I1,q1⟩=>?_);cases c with
 |true=>exact⟨H1,I1,q1⟩
 |false=>exact f d pins s1 σ H1 Q I1 q1
def wA(b:PT X a tA):PT X (.UnaryOp .Not a pos) (bYD tA):=by
 intro pins s σ H Q I h;exact isTrue_not (b pins s σ H (λc H1=>Q (!c) H1) I h)
inductive bKe(tb:TE)(σ:St)(Q:VK)(x:V)(H1:Hp):Prop|mk (c) (_:x= .bl c) (_:if c=true then tb σ H1 Q else Q (.bl false) H1)
def bK1(ta tb:TE):TE:=λσ H Q=>ta σ H λx H1=>bKe tb σ Q x H1
inductive bK6(tb:TE)(σ:St)(Q:VK)(x:V)(H1:Hp):Prop|mk (c) (_:x= .bl c) (_:if c=true then Q (.bl true) H1 else tb σ H1 Q)
def bYE(ta tb:TE):TE:=λσ H Q=>ta σ H λx H1=>bK6 tb σ Q x H1
inductive bKi(Q:VK)(x:V)(H1:Hp):Prop|mk (c) (_:x= .bl c) (_:Q (.bl (!c)) H1)
def bK5(ta:TE):TE:=λσ H Q=>ta σ H λx H1=>bKi Q x H1
def aZE{op}{t:TE}(h:PE X a t):PE X (.BoolOp op [a] pos) t:=λpins s σ H Q I hw=>BoolOp_one (h pins s σ H Q I hw)
def aVy(e:PE X a ta)(f:PE X (.BoolOp .And (b::jW) pos) tb):PE X (.BoolOp .And (a::b::jW) pos) (bK1 ta tb):=by
 intro pins s σ H Q I h;refine BoolOp_and (thn (e pins s σ H _ I h) λv s1 ⟨x,H1,I1,r1,d⟩=>?_);obtain⟨c,rfl,d⟩:=d;cases r1;refine cXI ?_;cases c with
 |true=>exact f pins s1 σ H1 Q I1 d
 |false=>exact⟨.bl false,H1,I1,rfl,d⟩
def bWS(e:PE X a ta)(f:PE X (.BoolOp .Or (b::jW) pos) tb):PE X (.BoolOp .Or (a::b::jW) pos) (bYE ta tb):=by
 intro pins s σ H Q I h;refine BoolOp_or (thn (e pins s σ H _ I h) λv s1 ⟨x,H1,I1,r1,d⟩=>?_);obtain⟨c,rfl,d⟩:=d;cases r1;refine cXI ?_;cases c with
 |false=>exact f pins s1 σ H1 Q I1 d
 |true=>exact⟨.bl true,H1,I1,rfl,d⟩
def bZ4(d:PE X a ta):PE X (.UnaryOp .Not a pos) (bK5 ta):=by
 intro pins s σ H Q I h;refine UnaryOp_ (thn (d pins s σ H _ I h) λv s1 ⟨x,H1,I1,r1,b⟩=>?_);obtain⟨c,rfl,b⟩:=b;cases r1;exact not_of (cXI ⟨.bl (!c),H1,I1,rfl,b⟩)
def tIf(t:TT)(ta tb:TE):TE:=λσ H Q=>t σ H λc H1=>if c=true then ta σ H1 Q else tb σ H1 Q
def aVz{c:Expr}(e:PT X c tA)(f:PE X a ta)(g:PE X b tb):PE X (.IfExp c a b pos) (tIf tA ta tb):=by
 intro pins s σ H Q I h;refine wpAny_IfExp (thn (e pins s σ H _ I h) λd s1 ⟨H1,I1,q1⟩=>?_);cases d with
 |true=>exact f pins s1 σ H1 Q I1 q1
 |false=>exact g pins s1 σ H1 Q I1 q1
end
end L2
namespace L2
open PySem PySem.Spec PyProof.Rows
def SqL(K:bYI)(H:Hp)(a:Addr)(xs:List V):Prop:=
 Rd H a (.lst xs)\/
  ∃ (o:Obj)(b:Array bYH)(n:Nat),K.lookup a=some o/\o.cls= .type "list"/\o.dict=none/\o.data= .seq b n/\b.size<=bY8/\xW xs b.toList
def SqT(K:bYI)(H:Hp)(a:Addr)(xs:List V):Prop:=
 Rd H a (.tup xs)\/
  ∃ (o:Obj)(b:Array bYH)(n:Nat),K.lookup a=some o/\o.cls= .type "tuple"/\o.data= .seq b n/\b.size<=bY8/\xW xs b.toList
def bYp:bYH->Option V
 |.none=>some .non
 |.bool b=>some (.bl b)
 |.int i _=>some (.int i)
 |.str x _=>some (.str x)
 |.bytes b _=>some (.byt b)
 |.float b _=>some (.flt b)
 |.ref a=>some (.ref a)
 |.type n=>some (.ty n)
 |_=>none
def zJ.abs{x:V}{u:bYH}(r:zJ x u):bYp u=some x:=by
 cases x with
 |non=>cases r;rfl
 |bl _=>cases r;rfl
 |int _=>obtain⟨t,rfl⟩:=r;rfl
 |str _=>obtain⟨t,rfl⟩:=r;rfl
 |byt _=>obtain⟨t,rfl⟩:=r;rfl
 |flt _=>obtain⟨t,rfl⟩:=r;rfl
 |ref _=>cases r;rfl
 |ty _=>cases r;rfl
def zJ.inj{x y:V}{u:bYH}(r:zJ x u)(q:zJ y u):x=y:=bY3 (r.abs.symm.trans q.abs)
def xW.inj:∀ {xs ys:List V} {us:List bYH},xW xs us->xW ys us->xs=ys
 |_,_,_,.nil,.nil=>rfl
 |_,_,_,.cons r t,.cons r' t'=>by rw[r.inj r',xW.inj t t']
section
variable {X:Cx}{pins:List (Addr×Obj)}{σ:St}{H:Hp}{s:bYK}{a:Addr}{xs ys:List V}
def SqL.of{K:bYI}(h:H a=some (.lst xs)):SqL K H a xs:= .inl (.inl h)
def SqT.of{K:bYI}(h:H a=some (.tup xs)):SqT K H a xs:= .inl (.inl h)
def Inv.list(I:Inv X pins σ H s)(h:SqL X.K H a xs):∃b:List bYH,xW xs b/\PlainL s.heap a b.toArray/\xs.length<=bY8:=by
 rcases h with h|⟨o,b,n,g,d,f,c,i,r⟩
 ·obtain⟨z,b,n,r,e⟩:=h.ok I.hok;exact⟨b,r,⟨_,n,e,rfl,rfl,rfl⟩,z⟩
 ·refine⟨b.toList,r,⟨o,n,I.kIn a o g,d,f,by simpa using c⟩,?_⟩;have e:=r.length;simp only[cQ2]at e;omega
def Inv.tuple(I:Inv X pins σ H s)(h:SqT X.K H a xs):∃b:List bYH,xW xs b/\cZG s.heap a b.toArray/\xs.length<=bY8:=by
 rcases h with h|⟨o,b,n,f,d,c,g,r⟩
 ·obtain⟨z,b,r,p⟩:=h.ok I.hok;exact⟨b,r,p,z⟩
 ·refine⟨b.toList,r,⟨o,I.kIn a o f,d,n,by simpa using c⟩,?_⟩;have e:=r.length;simp only[cQ2]at e;omega
def Inv.list_inj(I:Inv X pins σ H s)(h:SqL X.K H a xs)(h':SqL X.K H a ys):xs=ys:=by
 obtain⟨c,r,⟨o,n,e,_,_,d⟩,_⟩:=I.list h;obtain⟨b,i,⟨o',j,f,_,_,g⟩,_⟩:=I.list h';rw[e]at f;cases f;rw[d]at g;injection g with d1 _;have:c=b:=by simpa using congrArg Array.toList d1
 subst this;exact r.inj i
end
abbrev Cx.wish(X:Cx)(E:bYH->bYK->Prop):Cx:={X with xe:=E}
abbrev Cx.nox(X:Cx):Cx:=X.wish λ_ _=>False
def Cx.Ok.wish{X:Cx}(ok:X.Ok)(E:bYH->bYK->Prop):(X.wish E).Ok:=
 ⟨ok.mod,ok.kind,ok.glob,ok.blt,ok.above,ok.inj,ok.has,ok.cab,ok.hd,ok.frames,ok.stk,ok.exf,ok.bs,ok.bsz,ok.noex,ok.exfs,ok.funs,ok.frf⟩
def Cx.Ok.unwish{X:Cx}{E:bYH->bYK->Prop}(ok:(X.wish E).Ok):X.Ok:=
 ⟨ok.mod,ok.kind,ok.glob,ok.blt,ok.above,ok.inj,ok.has,ok.cab,ok.hd,ok.frames,ok.stk,ok.exf,ok.bs,ok.bsz,ok.noex,ok.exfs,ok.funs,ok.frf⟩
section
variable {X:Cx}{pins:List (Addr×Obj)}{σ:St}{H:Hp}{s:bYK}{E:bYH->bYK->Prop}
def Inv.wish(I:Inv X pins σ H s)(E:bYH->bYK->Prop):Inv (X.wish E) pins σ H s:=⟨I.ok.wish E,I.os,I.bare,I.base,I.loc,I.cell,I.free,I.freeC,I.pin,I.hok,I.len⟩
def Inv.unwish(I:Inv (X.wish E) pins σ H s):Inv X pins σ H s:=⟨I.ok.unwish,I.os,I.bare,I.base,I.loc,I.cell,I.free,I.freeC,I.pin,I.hok,I.len⟩
def SP.unwish{D:aZ4}{f:Flow}{s':bYK}(h:SP (X.wish E) pins D f s'):SP X pins D f s':=by
 cases f with
 |next=>obtain⟨a,H',I,q⟩:=h;exact⟨a,H',I.unwish,q⟩
 |brk=>obtain⟨a,H',I,q⟩:=h;exact⟨a,H',I.unwish,q⟩
 |cont=>obtain⟨a,H',I,q⟩:=h;exact⟨a,H',I.unwish,q⟩
 |ret u=>obtain⟨v,a,H',I,r,q⟩:=h;exact⟨v,a,H',I.unwish,r,q⟩
def PSs.nox{st:List Stmt}{t:TS}(h:PSs X.nox st t):PSs X st t:=λpins s σ H D I hw=>
 cQJ (h pins s σ H D (I.wish _) hw) (λ_ _ q=>q.unwish) λ_ _ z=>cXc z
end
section
variable {X:Cx}{st:Stmt}{jW:List Stmt}{t u:TS}{e:Expr}{te:TE}{pos:Pos}
def aKh:TS:=λD σ H=>D.nx σ H
def bKB(t u:TS):TS:=λD σ H=>t {D with nx:=u D} σ H
def yS:PSs X [] aKh:=λ_ _ σ H _ I h=>cJy ⟨σ,H,I,h⟩
def yC(h1:PS X st t)(h2:PSs X jW u):PSs X (st::jW) (bKB t u):=by
 intro pins s σ H D I h;refine wpAny_execs_cons (thn (h1 pins s σ H {D with nx:=u D} I h) λf b q=>?_);cases f with
 |next=>obtain⟨a,H',c,q⟩:=q;exact h2 pins b a H' D c q
 |ret v=>exact q
 |brk=>exact q
 |cont=>exact q
def yF(h1:PS X st t):PSs X [st] t:=by
 intro pins s σ H D I h;refine wpAny_execs_cons (thn (h1 pins s σ H D I h) λf a q=>?_);cases f with
 |next=>exact cJy q
 |ret v=>exact q
 |brk=>exact q
 |cont=>exact q
def Inv.quiet{pins:List (Addr×Obj)}{σ:St}{H:Hp}{s:bYK}(I:Inv X pins σ H s):interactive X.env=false:=by simp[interactive,I.ok.kind]
def bQA(te:TE):TS:=λD σ H=>te σ H λ_ H1=>D.nx σ H1
def yY(b:PE X e te)(a:swapsWith e none pos.line X.env=pure false:=by rfl):PS X (.Expr e pos) (bQA te):=by
 intro pins s σ H D I h;exact wpAny_Expr_any (thn (b pins s σ H _ I h) λv s1 ⟨x,H1,I1,r1,q1⟩=>⟨σ,H1,I1,q1⟩) I.quiet a
def bYk(te:TE):TS:=λD σ H=>te σ H D.rt
def yP(a:PE X e te):PS X (.Return (some e) pos) (bYk te):=by
 intro pins s σ H D I h;exact wpAny_Return_some (thn (a pins s σ H _ I h) λv s1 ⟨x,H1,I1,r1,q1⟩=>⟨x,σ,H1,I1,r1,q1⟩)
def bKA(c:TT)(t u:TS):TS:=λD σ H=>c σ H λb H1=>if b=true then t D σ H1 else u D σ H1
def y0{c:Expr}{a b:List Stmt}{tc:TT}(e:PT X c tc)(f:PSs X a t)(g:PSs X b u):PS X (.If c a b pos) (bKA tc t u):=by
 intro pins s σ H D I h;refine wpAny_If (thn (e pins s σ H _ I h) λd s1 ⟨H1,I1,q1⟩=>?_);cases d with
 |true=>exact f pins s1 σ H1 D I1 q1
 |false=>exact g pins s1 σ H1 D I1 q1
end
abbrev TG:=V->St->Hp->(St->Hp->Prop)->Prop
abbrev TGs:=List V->St->Hp->(St->Hp->Prop)->Prop
def PG(X:Cx)(a:Expr)(t:TG):Prop:=
 ∀ (pins:List (Addr×Obj))(s:bYK)(σ:St)(H:Hp)(v:V)(u:bYH)(Q:St->Hp->Prop),Inv X pins σ H s->zJ v u->t v σ H Q->
  bYP (bYR X.prog X.w) X.A (assign a X.env u) (λ_ s'=>∃b H',Inv X pins b H' s'/\Q b H') X.xe s
def PGs(X:Cx)(d:List Expr)(t:TGs):Prop:=
 ∀ (pins:List (Addr×Obj))(s:bYK)(σ:St)(H:Hp)(b:List V)(c:List bYH)(Q:St->Hp->Prop),Inv X pins σ H s->xW b c->t b σ H Q->
  bYP (bYR X.prog X.w) X.A (assignInOrder ((cJu d X.env).map (·.2)) c) (λ_ s'=>∃a H',Inv X pins a H' s'/\Q a H') X.xe s
abbrev bKG:=V->V->V->Hp->(Hp->Prop)->Prop
def bYe(X:Cx)(t:bKG):Prop:=
 ∀ (pins:List (Addr×Obj))(s:bYK)(σ:St)(H:Hp)(o i v:V)(b a u:bYH)(Q:Hp->Prop),Inv X pins σ H s->zJ o b->zJ i a->zJ v u->t o i v H Q->
  bYP (bYR X.prog X.w) X.A (setItem b a u) (λ_ s'=>∃H',Inv X pins σ H' s'/\Q H') X.xe s
section
variable {X:Cx}{pos:Pos}
def yW(i:Nat):TG:=λv σ H Q=>Q (σ.set i (some v)) H
def xB{i:Nat}{x:Str}(d:X.N.Nodup:=by exact ‹yO _ _ _›.nd)(hi:X.N[i]? =some x:=by rfl)(b:Loc X.env.scope x:=by first|exact Or.inl rfl|exact Or.inr rfl)(a:X.fn x=true\/X.env.scope.names.lookup x=some .local:=by first|exact .inl rfl|exact .inr rfl|assumption):PG X (.Name x pos) (yW i):=by
 intro pins s σ H v u Q I r h;exact wpAny_assign_Name (aVX I d hi b r (λs' c=>⟨_,H,c,h⟩) a)
inductive bYq(vs:List V)(σ:St)(H:Hp)(Q:St->Hp->Prop):Prop|mk (_:vs= []) (_:Q σ H)
inductive bKL(t:TG)(u:TGs)(vs:List V)(σ:St)(H:Hp)(Q:St->Hp->Prop):Prop|mk (v r) (_:vs=v::r) (_:t v σ H λσ' H'=>u r σ' H' Q)
def aJG:PGs X [] bYq:=by
 intro pins s σ H a b Q I r h;obtain⟨e,h⟩:=h;subst e;cases r;exact assignInOrder_nil ⟨σ,H,I,h⟩
def zU{e:Expr}{es:List Expr}{t:TG}{u:TGs}(h1:PG X e t)(h2:PGs X es u) (c:(cJu (e::es) X.env).map (·.2)=assign e X.env::(cJu es X.env).map (·.2):=by rfl):PGs X (e::es) (bKL t u):=by
 intro pins s σ H d g Q I r h;obtain⟨v,f,a,h⟩:=h;subst a;cases r with
 |cons r b=>rw[c];refine assignInOrder_cons (thn (h1 pins s σ H _ _ _ I r h) λ_ s1 ⟨σ1,H1,I1,q1⟩=>?_);exact h2 pins s1 σ1 H1 _ _ Q I1 b q1
inductive bYs(K:bYI)(n:Nat)(t:TGs)(v:V)(σ:St)(H:Hp)(Q:St->Hp->Prop):Prop|mk (a xs) (_:v= .ref a) (_:SqT K H a xs) (_:xs.length=n) (_:t xs σ H Q)
def aYy{es:List Expr}{k:Nat}{t:TGs}{n:Nat}(m:X.calm=true)(h:PGs X es t) (j:(cJu es X.env).length=n:=by rfl) (c:(cJu es X.env).findIdx? (·.1)=none:=by rfl):PG X (.Tuple es k pos) (bYs X.K n t):=by
 intro pins s σ H v u Q I r hw;obtain⟨a,xs,f,p,hl,hw⟩:=hw;subst f;cases r;obtain⟨q,d,g,w⟩:=I.tuple p;refine assign_Tuple_tuple (I.ok.hd m) g (by simp[j,<- hl,d.length]) c λh' i=>?_;have l:Inv X pins σ H {s with heap:=h'}:=I.kept (t':=s.toks) λb o e=>i b o (bY7 (bYV e)) e;exact h pins _ σ H xs _ Q l (by simpa using d) hw
def bYr(to b:TE)(t:bKG):TG:=λv σ H Q=>to σ H λo H1=>b σ H1 λi H2=>t o i v H2 λa=>Q σ a
def qS{o i:Expr}{to a:TE}{t:bKG}(c:PE X o to)(hi:PE X i a)(b:bYe X t)
  (d:∀v,assign (.Subscript o i pos) X.env v=(do
   let ov <- cZ1 [v] (eval o X.env)
   let iv <- cZ1 [v,ov] (eval i X.env)
   standAt pos
   cZ1 [v,ov,iv] (setItem ov iv v)
   release [v,ov,iv] []):=by intro _;rfl):PG X (.Subscript o i pos) (bYr to a t):=by
 intro pins s σ H v u Q I r h
 rw[d]
 refine bYJ (cQ0 (thn (c pins s σ H _ I h) λov s1 ⟨x,H1,I1,r1,q1⟩=>?_))
 refine bYJ (cQ0 (thn (hi pins s1 σ H1 _ I1 q1) λiv s2 ⟨y,H2,I2,r2,q2⟩=>?_))
 refine bYJ (cJi (bYJ (cQ0 (thn (b pins s2 σ H2 x y v ov iv u _ I2 r1 r2 r q2) λ_ s3 ⟨H3,I3,q3⟩=>?_))))
 exact wpAny_release ⟨σ,H3,I3,q3⟩
def bKz(te:TE)(g:TG):TS:=λD σ H=>te σ H λx H1=>g x σ H1 D.nx
def uB{tg e:Expr}{te:TE}{g:TG}(a:PE X e te)(b:PG X tg g)(c:swapsWithSole [tg] e pos.line X.env=pure false:=by rfl)(hw:swappedStores [tg] e X.env=pure none:=by rfl)
  (h1:(cJu [tg] X.env).map (·.2)= [assign tg X.env]:=by rfl):PS X (.Assign [tg] e pos) (bKz te g):=by
 intro pins s σ H D I h
 refine wpAny_Assign_stores (thn (a pins s σ H _ I h) λv s1 ⟨x,H1,I1,r1,q1⟩=>?_) c hw
 rw[h1]
 exact thn (b pins s1 σ H1 x v _ I1 r1 q1) λ_ d q=>q
def yU{i:Nat}{x:Str}{e:Expr}{te:TE}{pos':Pos}(d:PE X e te)(f:X.N.Nodup:=by exact ‹yO _ _ _›.nd)(hi:X.N[i]? =some x:=by rfl)(c:Loc X.env.scope x:=by first|exact Or.inl rfl|exact Or.inr rfl)(g:swapsWith e (some (.Name x pos')) pos.line X.env=pure false:=by rfl)(b:X.fn x=true\/X.env.scope.names.lookup x=some .local:=by first|exact .inl rfl|exact .inr rfl|assumption):
  PS X (.Assign [.Name x pos'] e pos) (bKz te (yW i)):=by
 intro pins s σ H D I h
 refine wpAny_Assign_Name (thn (d pins s σ H _ I h) λv s1 ⟨y,H1,I1,r1,q1⟩=>?_) g
 exact aVX I1 f hi c r1 (λj a=>⟨_,H1,a,q1⟩) b
end
section
variable {X:Cx}{pos:Pos}
def bKm(c:TT)(tb:TS):TS:=λD σ H=>∃W:Nat->St->Hp->Prop,(∃m,W m σ H)/\∀m σ H,W m σ H->
 c σ H λb H1=>if b=true then ∃N:St->Hp->Prop,(∀a H',N a H'->∃d,d<m/\W d a H')/\tb {D with nx:=N,ct:=N,bk:=D.nx} σ H1 else D.nx σ H1
def jD{c:Expr}{body:List Stmt}{tc:TT}{tb:TS}(q:PassesOwn (bYR X.prog X.w) X.A X.env X.xe)(x:PT X c tc)(C:PSs X body tb):PS X (.While c body [] pos) (bKm tc tb):=by
 intro pins s σ H D I h;obtain⟨W,⟨B,y⟩,turn⟩:=h;refine wpAny_While (codeAny_whileLoop (λn s'=>∃g H',Inv X pins g H' s'/\W n g H') ?_ B ⟨σ,H,I,y⟩);rintro n t ⟨d,H1,u,z⟩;refine cX8 q (thn (x pins t d H1 _ u (turn n d H1 z)) λb s2 ⟨H2,I2,j⟩=>?_);cases b with
 |true=>
  obtain⟨N,r,j⟩:=j;rw[if_pos rfl];refine cX8 q (thn (C pins s2 d H2 _ I2 j) λf E i=>?_);cases f with
  |next=>obtain⟨a,e,o,m⟩:=i;obtain⟨l,p,k⟩:=r a e m;exact⟨l,p,a,e,o,k⟩
  |cont=>obtain⟨a,e,o,m⟩:=i;obtain⟨l,p,k⟩:=r a e m;exact⟨l,p,a,e,o,k⟩
  |brk=>exact i
  |ret v=>exact i
 |false=>rw[if_neg Bool.false_ne_true];exact cJy ⟨d,H2,I2,j⟩
end
structure It where
 go:Nat->Hp->Prop
 yld:Nat->Hp->V->Hp->Prop
 stop:Nat->Hp->Prop
def bZI(X:Cx)(pins:List (Addr×Obj))(H:Hp)(b:Addr):Prop:=
 H b=none/\b≠X.env.locals/\b∉X.fs/\(b∈X.ex\/X.s₀.heap.objs.size<=b)/\(∀x c,X.env.cells.lookup x=some c->c≠b)/\∀p∈X.pn++pins,p.1≠b
def Inv.fpOk{X:Cx}{pins:List (Addr×Obj)}{σ:St}{H H':Hp}{s:bYK}{b:Addr}(I:Inv X pins σ H s)(a:s.heap.objs.size<=b)(d:H' b=none):bZI X pins H' b:=by
 refine⟨d,cZm (bY9 I.lt a),I.nofs a,.inr (cQn I.sz a),λx c e z=>?_,λp f z=>?_⟩
 ·obtain⟨v,q⟩:=I.cell x c e;exact absurd (bY9 q.lt (by rw[z];exact a)) (cQQ _)
 ·exact absurd (bY9 (bYV (I.pin p f).1) (by rw[z];exact a)) (cQQ _)
structure bKt(P:bY4)(w:cQa)(K:bYI)(tg:Expr)(J:It)(fp:List Addr)(it:Addr)(tn:Nat->Heap->Prop):Prop where
 mem:it∈fp
 obj:∀i h,tn i h->∀b∈fp,∃o,h.get? b=some o/\∀v,o.data≠ .cell v
 keep:∀i h h',tn i h->(∀b∈fp,∀o,h.get? b=some o->h'.get? b=some o)->tn i h'
 item:∀ (X:Cx),X.prog=P->X.w=w->X.K=K->X.calm=true->∀ (i:Nat)(pins:List (Addr×Obj))(s:bYK)(σ:St)(H:Hp)(E:bYH->bYK->Prop),Inv X pins σ H s->(∀b∈fp,bZI X pins H b)->tn i s.heap->J.go i H->
  bYP (bYR P w) X.A (pyNext (.ref it)) (λr s1=>∃u,r=some u/\
   bYP (bYR P w) X.A (cJx tg (.ref it) u) (λ_ s2=>∃x H',Inv X pins σ H' s2/\zJ x u/\J.yld i H x H'/\tn (i+1) s2.heap/\∀b∈fp,H' b=none) E s1) E s
 done:∀ (X:Cx),X.prog=P->X.w=w->X.K=K->X.calm=true->∀ (i:Nat)(pins:List (Addr×Obj))(s:bYK)(σ:St)(H:Hp)(E:bYH->bYK->Prop),Inv X pins σ H s->(∀b∈fp,bZI X pins H b)->tn i s.heap->J.stop i H->
  bYP (bYR P w) X.A (pyNext (.ref it)) (λr s1=>r=none/\Inv X pins σ H s1) E s
 self:∀ (A:cQl)(i:Nat)(s:bYK)(Q:bYH->bYK->Prop)(E:bYH->bYK->Prop),tn i s.heap->Q (.ref it) s->bYP (bYR P w) A (pyIter (.ref it)) Q E s
abbrev TI:=St->Hp->(It->Hp->Prop)->Prop
def PIE(X:Cx)(pins:List (Addr×Obj))(σ:St)(tg:Expr)(R:It->Hp->Prop)(a:bYH)(c:bYK):Prop:=
 ∃ (e:Addr)(d:List Addr)(tn:Nat->Heap->Prop)(J:It)(H':Hp),a= .ref e/\Inv X pins σ H' c/\bKt X.prog X.w X.K tg J d e tn/\tn 0 c.heap/\(∀b∈d,bZI X pins H' b)/\R J H'
def PI(X:Cx)(tg a:Expr)(b:TI):Prop:=
 ∀ (pins:List (Addr×Obj))(s:bYK)(σ:St)(H:Hp)(R:It->Hp->Prop),Inv X pins σ H s->b σ H R->
  bYP (bYR X.prog X.w) X.A (eval a X.env) (λv c=>bYP (bYR X.prog X.w) X.A (pyIter v) (PIE X pins σ tg R) X.xe c) X.xe s
def bWu{M:Model}{A:cQl}{E:bYH->bYK->Prop}{s:bYK}{tg:Expr}{it:Addr}{u:bYH}{o:Obj}{n:String}{vs:Array bYH}{Q:Unit->bYK->Prop}(c:s.heap.get? it=some o)(d:o.cls= .type n)(b:o.data= .fields vs) (e: ["enumerate","zip","dict_itemiterator","dict_reverseitemiterator","odict_iterator","itertools.zip_longest","itertools.pairwise"].contains n=false) (a:Q () s):bYP M A (cJx tg (.ref it) u) Q E s:=by
 unfold cJx;cases tg<;> first
  |exact bYN a
  |(cases u<;> first
    |exact bYN a
    |(refine bYJ (wpAny_load c ?_)
      rw[d,b]
      show bYP M A (if(["enumerate","zip","dict_itemiterator","dict_reverseitemiterator","odict_iterator","itertools.zip_longest","itertools.pairwise"].contains n && vs[0]? ==some (cQY _))=true then _ else _) Q E s
      rw[if_neg (by intro h;rw[e,Bool.false_and]at h;cases h)]
      exact bYN a))
def Itl(K:bYI)(a:Addr):It:=
 ⟨λi H=>∃xs x,SqL K H a xs/\xs[i]? =some x,λi H x H'=>H'=H/\∀xs,SqL K H a xs->xs[i]? =some x,λi H=>∃xs,SqL K H a xs/\xs.length<=i⟩
def Itr(lo:Int)(n:Nat):It:=⟨λi _=>i<n,λi H x H'=>H'=H/\x= .int (lo+i),λi _=>n<=i⟩
def bQE{P:bY4}{w:cQa}{K:bYI}{tg:Expr}(a it:Addr):bKt P w K tg (Itl K a) [it] it (λi h=>h.IsListIter it a i) where
 mem:=by simp
 obj:=λi h st b hb=>by
  have e:b=it:=by simpa using hb
  subst e
  obtain⟨o,e,c,d⟩:=st
  exact⟨o,e,λv z=>by rw[d]at z;cases z⟩
 keep:=λi h h' st k=>st.at λo e=>k it (by simp) o e
 item:=by
  intro X hP hw hK hc i pins s σ H E I hf st hg
  subst hP hw hK
  obtain⟨xs,x,hq,hx⟩:=hg
  obtain⟨its,rv,p,hz⟩:=I.list hq
  obtain⟨u,hu,ru⟩:=rv.get hx
  obtain⟨f0,f1,f2,f3,f4,f5⟩:=hf it (by simp)
  refine wpAny_pyNext_list_item st p.isList (x:=u) (by simpa using hu) λh' st' sb=>?_
  have I1:Inv X pins σ H {s with heap:=h'}:=I.turned (t':=s.toks) (λb o hb e=>(sb.2 b hb).trans e) f0 f1 f3 f4 f5
  obtain⟨o,e,c,d⟩:=id st'
  exact⟨u,rfl,bWu (s:={s with heap:=h'}) e c d (by decide) ⟨x,H,I1,ru,⟨rfl,λys hy=>by rw[I.list_inj hy hq];exact hx⟩,st',λb hb=>(hf b hb).1⟩⟩
 done:=by
  intro X hP hw hK hc i pins s σ H E I hf st hg
  subst hP hw hK
  obtain⟨xs,hq,hx⟩:=hg
  obtain⟨its,rv,p,hz⟩:=I.list hq
  obtain⟨f0,f1,f2,f3,f4,f5⟩:=hf it (by simp)
  have hl:=rv.length
  exact wpAny_pyNext_list_end (I.ok.hd hc) st p.isList (by simp;omega) λh' eb=>⟨rfl,I.turned (t':=s.toks) (λb o hb e=>eb b o hb e) f0 f1 f3 f4 f5⟩
 self:=λ_ _ _ _ _ st h=>wpAny_pyIter_listiter st h
def aKj{P:bY4}{w:cQa}{K:bYI}{tg:Expr}(it:Addr)(lo:Int)(n:Nat):bKt P w K tg (Itr lo n) [it] it (λi h=>IsRangeIter h it (lo+(i:Nat)*1) ((n:Int) - (i:Nat)) 1) where
 mem:=by simp
 obj:=λi h st b hb=>by
  have e:b=it:=by simpa using hb
  subst e
  exact⟨_,st,λv z=>by
   have z':Data.fields _=Data.cell v:=z
   cases z'⟩
 keep:=λi h h' st k=>k it (by simp) _ st
 item:=by
  intro X hP hw hK hc i pins s σ H E I hf st hg
  subst hP hw hK
  obtain⟨f0,f1,f2,f3,f4,f5⟩:=hf it (by simp)
  have W:=Walks.range (prog:=X.prog) (w:=X.w) (I.ok.hd hc) it lo 1 n
  refine W.item i s _ _ hg st λv h' tk hv st' kk=>?_
  obtain⟨t,rfl⟩:=hv
  have I1:Inv X pins σ H {s with heap:=h',toks:=tk}:=I.turned (λb o hb e=>kk b o (by simpa using hb) e) f0 f1 f3 f4 f5
  refine⟨_,rfl,bWu (s:={s with heap:=h',toks:=tk}) (n:="range_iterator") st' rfl rfl (by decide) ⟨.int (lo+i),H,I1,⟨t,?_⟩,⟨rfl,rfl⟩,st',λb hb=>(hf b hb).1⟩⟩
  rw[Int.mul_one]
 done:=by
  intro X hP hw hK hc i pins s σ H E I hf st hg
  subst hP hw hK
  obtain⟨f0,f1,f2,f3,f4,f5⟩:=hf it (by simp)
  exact wpAny_pyNext_range_end (I.ok.hd hc) st (by have:n<=i:=hg;omega) λh' eb=>⟨rfl,I.turned (t':=s.toks) (λb o hb e=>eb b o hb e) f0 f1 f3 f4 f5⟩
 self:=λ_ _ _ _ _ st h=>wpAny_pyIter_rangeiter st h
end L2
namespace L2
open PySem PySem.Spec PyProof.Rows
section
variable {X:Cx}{tg:Expr}
inductive bWw(K:bYI)(R:It->Hp->Prop)(x:V)(H1:Hp):Prop|mk (a) (_:x= .ref a) (_:(∃xs,SqL K H1 a xs)) (_:R (Itl K a) H1)
def bKM(K:bYI)(tl:TE):TI:=λσ H R=>tl σ H λx H1=>bWw K R x H1
def xM{l:Expr}{tl:TE}(hl:PE X l tl):PI X tg l (bKM X.K tl):=by
 intro pins s σ H R I h;refine thn (hl pins s σ H _ I h) λv s1 ⟨x,H1,I1,r1,q1⟩=>?_;obtain⟨a,e,⟨xs,c⟩,q⟩:=q1;subst e;cases r1;obtain⟨d,g,p,i⟩:=I1.list c;refine cJZ p.isList ?_;refine⟨s1.heap.objs.size,[s1.heap.objs.size],_,_,H1,rfl,I1.kept (t':=s1.toks) λb o e=>bYM _ e,bQE a _,⟨_,cQb _ rfl,rfl,rfl⟩,λb f=>?_,q⟩;have e:b=s1.heap.objs.size:=by simpa using f
 subst e;exact I1.fpOk (bYO _) (I1.hok.fresh (bYO _))
def bXR{pins:List (Addr×Obj)}{σ:St}{H:Hp}{s:bYK}{R:It->Hp->Prop}{E:bYH->bYK->Prop}{lo hi:Int}{t u v:Tok}{tk:Nat}(I:Inv X pins σ H s)(h1: -(2 ^ 62)<=lo)(h2:lo<2 ^ 62)(g: -(2 ^ 62)<=hi)(c:hi<2 ^ 62) (q:R (Itr lo (hi - lo).toNat) H):bYP (bYR X.prog X.w) X.A (pyIter (.ref s.heap.objs.size)) (PIE X pins σ tg R) E {s with heap:=s.heap.push {cls:= .type "range",data:= .fields #[.int lo t,.int hi u,.int 1 v] },toks:=tk}:=by
 refine wpAny_pyIter_range (IsRange.new ..) (small_one h1 h2 g c) ?_;have a:Inv X pins σ H {s with heap:=s.heap.push {cls:= .type "range",data:= .fields #[.int lo t,.int hi u,.int 1 v] },toks:=tk}:=I.kept λb o e=>bYM _ e;refine⟨(s.heap.push {cls:= .type "range",data:= .fields #[.int lo t,.int hi u,.int 1 v] }).objs.size,[(s.heap.push {cls:= .type "range",data:= .fields #[.int lo t,.int hi u,.int 1 v] }).objs.size],_,_,H,rfl,a.kept (t':=tk) λb o e=>bYM _ e,aKj _ lo (hi - lo).toNat,?_,λb h=>?_,q⟩
 ·have d:lo+((0:Nat):Int)*1=lo:=by simp
  have f:(((hi - lo).toNat:Nat):Int) - ((0:Nat):Int)=Builtin.Range.rangeSize lo hi 1:=by rw[rangeSize_one];split<;> omega
  show IsRangeIter _ _ (lo+((0:Nat):Int)*1) ((((hi - lo).toNat:Nat):Int) - ((0:Nat):Int)) 1;rw[d,f];exact cQb _ rfl
 ·have e:b=(s.heap.push {cls:= .type "range",data:= .fields #[.int lo t,.int hi u,.int 1 v] }).objs.size:=by simpa using h
  subst e;exact a.fpOk (bYO _) (a.hok.fresh (bYO _))
inductive bWx(R:It->Hp->Prop)(vs:List V)(H1:Hp):Prop|mk (j:Int) (_:vs= [.int j]) (_: -(2 ^ 62)<=j) (_:j<2 ^ 62) (_:R (Itr 0 j.toNat) H1)
def bKN(ta:TA):TI:=λσ H R=>ta σ H λa H1=>bWx R a H1
def xX{a:Expr}{ta:TA}{p pos:Pos}(c:Gl X "range")(k:X.mg "range"=none)(i:PA X [a] ta)(g:cQk [a] X.env= [(false,eval a X.env)]:=by rfl):PI X tg (.Call (.Name "range" p) [a] [] pos) (bKN ta):=by
 intro pins s σ H R I h;refine Call_ (aXd I c k boot_range (cZN (thn (i pos pins s σ H _ I h) λus s1 ⟨vs,H1,I1,r1,b⟩=>?_) g rfl));obtain⟨j,e,b,f,q⟩:=b;subst e;cases r1 with
 |cons r d=>cases d;obtain⟨t,rfl⟩:=r;exact call_range_1 (bXR I1 (by omega) (by omega) b f (by simpa using q))
def bYC(d:TI)(g:TG)(tb:TS):TS:=λD σ H=>d σ H λJ H1=>∃W:Nat->Nat->St->Hp->Prop,(∃m,W 0 m σ H1)/\∀i m σ H,W i m σ H->
 (J.stop i H/\D.nx σ H)\/(J.go i H/\∃N:St->Hp->Prop,(∀a H',N a H'->∃c,c<m/\W (i+1) c a H')/\∀x H',J.yld i H x H'->g x σ H' λb H2=>tb {D with nx:=N,ct:=N,bk:=D.nx} b H2)
def aZG(a:List Addr)(h:Heap):List (Addr×Obj):=a.filterMap λb=>(h.get? b).map λo=>(b,o)
def jB{a:List Addr}{h:Heap}{b:Addr}{o:Obj}(c:b∈a)(e:h.get? b=some o):(b,o)∈aZG a h:=List.mem_filterMap.mpr ⟨b,c,by rw[e];rfl⟩
def aYc{a:List Addr}{h:Heap}{p:Addr×Obj}(c:p∈aZG a h):p.1∈a/\h.get? p.1=some p.2:=by
 obtain⟨b,d,e⟩:=List.mem_filterMap.mp c;cases q:h.get? b with
 |none=>rw[q]at e;cases e
 |some o=>rw[q]at e;have f:(b,o)=p:=bY3 e;subst f;exact⟨d,q⟩
def Inv.pinned{pins:List (Addr×Obj)}{σ:St}{H:Hp}{s:bYK}{a:List Addr}(I:Inv X pins σ H s)(h:∀b∈a,bZI X pins H b)(l:∀b∈a,∃o,s.heap.get? b=some o/\∀v,o.data≠ .cell v):Inv X (pins++aZG a s.heap) σ H s:=
 I.pins_of λp g=>(cQm.mp g).elim (λz=>I.pin p (bY6 _ z)) λz=>by obtain⟨c,e⟩:=aYc z;obtain⟨k,j,i,_⟩:=h p.1 c;obtain⟨o,f,d⟩:=l p.1 c;rw[e]at f;cases f;exact⟨e,k,j,i,d⟩
def Inv.unpinned{pins pl:List (Addr×Obj)}{σ:St}{H:Hp}{s:bYK}(I:Inv X (pins++pl) σ H s):Inv X pins σ H s:=I.pins_of λp a=>I.pin p (bY6 _ (cXR _ a))
def zN{j:Expr}{body:List Stmt}{R:TI}{g:TG}{tb:TS}{pos:Pos}(K:PassesOwn (bYR X.prog X.w) X.A X.env X.xe)(Q:X.calm=true)(hi:PI X tg j R)(Z:PG X tg g)(p:PSs X body tb) (hs:∀x,cJY j X.env x=pure x:=by intro _;rfl):PS X (.For tg j body [] pos) (bYC R g tb):=by
 intro pins s σ H D I h;refine wpAny_For (thn (hi pins s σ H _ I h) λv s1 h1=>thn h1 λa0 s2 h2=>?_) hs;obtain⟨it,F,tn,J,H2,e,I2,T,P,S,W,⟨m0,w0⟩,turn⟩:=h2;subst e;have t:∀ {H':Hp},(∀b∈F,H' b=none)->∀b∈F,bZI X pins H' b:=λhn b p=>⟨hn b p,(S b p).2⟩;refine codeAny_forLoop_any (λn s'=>∃i y H',Inv X pins y H' s'/\tn i s'.heap/\(∀b∈F,H' b=none)/\W i n y H') ?_ m0 ⟨0,σ,H2,I2,P,λb p=>(S b p).1,w0⟩;rintro n V ⟨i,l,L,U,E,G,w3⟩;rcases turn i n l L w3 with⟨C,qn⟩|⟨go,N,hN,step⟩
 ·refine cX8 K (thn (T.done X rfl rfl rfl Q i pins V l L X.xe U (t G) E C) λr s4 ⟨hr,I4⟩=>?_);subst hr;exact cJy ⟨l,L,I4,qn⟩
 ·refine cX8 K (thn (T.item X rfl rfl rfl Q i pins V l L X.xe U (t G) E go) λr s4 ⟨u,hr,h4⟩=>?_);subst hr;refine cX8 K (thn h4 λ_ s5 ⟨x,H5,I5,r5,y5,st5,fr5⟩=>?_);have M:=I5.pinned (t fr5) (T.obj _ _ st5);refine cX8 K (thn (Z _ s5 l H5 x u _ M r5 (step x H5 y5)) λ_ s6 ⟨σ6,H6,I6,q6⟩=>?_);refine cX8 K (thn (p _ s6 σ6 H6 _ I6 q6) λf O z=>?_);have c:∀ {a:St} {q:Hp},Inv X (pins++aZG F s5.heap) a q O->N a q->∃m,m<n/\∃i y H',Inv X pins y H' O/\tn i O.heap/\(∀b∈F,H' b=none)/\W i m y H':=λ{a q} k B=>by
   obtain⟨Y,hm,w7⟩:=hN a q B;refine⟨Y,hm,i+1,a,q,k.unpinned,T.keep _ _ _ st5 λb p o e=>(k.pin (b,o) (bY6 _ (bY6 _ (jB p e)))).1,λb p=>?_,w7⟩;obtain⟨o,e,d⟩:=T.obj _ _ st5 b p;exact(k.pin (b,o) (bY6 _ (bY6 _ (jB p e)))).2.1
  cases f with
  |next=>obtain⟨a,q,k,B⟩:=z;exact c k B
  |cont=>obtain⟨a,q,k,B⟩:=z;exact c k B
  |brk=>obtain⟨a,q,k,z⟩:=z;exact⟨a,q,k.unpinned,z⟩
  |ret v=>obtain⟨x7,a,q,k,r7,z⟩:=z;exact⟨x7,a,q,k.unpinned,r7,z⟩
end
def zO{K:bYI}{a:Addr}{xs:List V}{g:TG}{tb:TS}{D:aZ4}{σ:St}{H:Hp}(b:Nat->St->Hp->Prop)(h0:b 0 σ H)(hl:∀i σ H,i<=xs.length->b i σ H->SqL K H a xs) (l:∀i x σ H,xs[i]? =some x->b i σ H->g x σ H λc H2=>tb {D with nx:=b (i+1),ct:=b (i+1),bk:=D.nx} c H2) (k:∀σ H,b xs.length σ H->D.nx σ H): ∃W:Nat->Nat->St->Hp->Prop,(∃m,W 0 m σ H)/\∀i m σ H,W i m σ H-> ((Itl K a).stop i H/\D.nx σ H)\/((Itl K a).go i H/\∃N:St->Hp->Prop,(∀d H',N d H'->∃h,h<m/\W (i+1) h d H')/\∀x H',(Itl K a).yld i H x H'->g x σ H' λc H2=>tb {D with nx:=N,ct:=N,bk:=D.nx} c H2):=by
 refine⟨λi m σ H=>m=xs.length - i/\i<=xs.length/\b i σ H,⟨xs.length,by simp,cQE _,h0⟩,?_⟩;rintro i m σ H ⟨rfl,hi,p⟩;have q:=hl i σ H hi p;by_cases f:i<xs.length
 ·refine .inr ⟨⟨xs,xs[i],q,by simp[f]⟩,b (i+1),λd H' j=>⟨xs.length - (i+1),by omega,rfl,f,j⟩,λx H' y=>?_⟩;obtain⟨e,y⟩:=y;subst e;exact l i x σ _ (y xs q) p
 ·have e:i=xs.length:=by omega
  subst e;exact .inl ⟨⟨xs,q,bYO _⟩,k σ H p⟩
def zM{lo:Int}{n:Nat}{g:TG}{tb:TS}{D:aZ4}{σ:St}{H:Hp}(c:Nat->St->Hp->Prop)(h0:c 0 σ H) (k:∀i σ H,i<n->c i σ H->g (.int (lo+i)) σ H λb H2=>tb {D with nx:=c (i+1),ct:=c (i+1),bk:=D.nx} b H2) (j:∀σ H,c n σ H->D.nx σ H): ∃W:Nat->Nat->St->Hp->Prop,(∃m,W 0 m σ H)/\∀i m σ H,W i m σ H-> ((Itr lo n).stop i H/\D.nx σ H)\/((Itr lo n).go i H/\∃N:St->Hp->Prop,(∀d H',N d H'->∃f,f<m/\W (i+1) f d H')/\∀x H',(Itr lo n).yld i H x H'->g x σ H' λb H2=>tb {D with nx:=N,ct:=N,bk:=D.nx} b H2):=by
 refine⟨λi m σ H=>m=n - i/\i<=n/\c i σ H,⟨n,by simp,cQE _,h0⟩,?_⟩;rintro i m σ H ⟨rfl,hi,p⟩;by_cases a:i<n
 ·refine .inr ⟨a,c (i+1),λd H' h=>⟨n - (i+1),by omega,rfl,a,h⟩,λx H' y=>?_⟩;obtain⟨e,y⟩:=y;subst e y;exact k i σ _ a p
 ·have e:i=n:=by omega
  subst e;exact .inl ⟨bYO _,j σ H p⟩
end L2
namespace L2
open PySem PySem.Spec PyProof.Rows
abbrev R2:=V->V->Hp->VK->Prop
def OpR(X:Cx)(f:bYH->bYH->Sem bYH)(r:R2):Prop:=
 ∀ (pins:List (Addr×Obj))(s:bYK)(σ:St)(H:Hp)(x y:V)(v u:bYH)(Q:VK),Inv X pins σ H s->zJ x v->zJ y u->r x y H Q->
  bYP (bYR X.prog X.w) X.A (f v u) (EP X pins σ Q) X.xe s
def UnR(X:Cx)(f:bYH->Sem bYH)(r:V->Hp->VK->Prop):Prop:=
 ∀ (pins:List (Addr×Obj))(s:bYK)(σ:St)(H:Hp)(x:V)(v:bYH)(Q:VK),Inv X pins σ H s->zJ x v->r x H Q->
  bYP (bYR X.prog X.w) X.A (f v) (EP X pins σ Q) X.xe s
def jQ(X:Cx)(f:bYH)(r:List V->Hp->VK->Prop):Prop:=
 ∀ (pins:List (Addr×Obj))(s:bYK)(σ:St)(H:Hp)(xs:List V)(a:List bYH)(Q:VK),Inv X pins σ H s->xW xs a->r xs H Q->
  bYP (bYR X.prog X.w) X.A (call f a) (EP X pins σ Q) X.xe s
def tOp(r:R2)(ta tb:TE):TE:=λσ H Q=>ta σ H λx H1=>tb σ H1 λy H2=>r x y H2 Q
def tUn(r:V->Hp->VK->Prop)(ta:TE):TE:=λσ H Q=>ta σ H λx H1=>r x H1 Q
inductive rI(C:Int->Int->Prop)(g:Int->Int->V)(x:V)(y:V)(H:Hp)(Q:VK):Prop|mk (i j) (_:x= .int i) (_:y= .int j) (_:C i j) (_:Q (g i j) H)
inductive rI0(g:Int->Int->V)(x:V)(y:V)(H:Hp)(Q:VK):Prop|mk (i j) (_:x= .int i) (_:y= .int j) (_:Q (g i j) H)
inductive rU(g:Int->V)(x:V)(H:Hp)(Q:VK):Prop|mk (i) (_:x= .int i) (_:Q (g i) H)
section
variable {X:Cx}{a b c:Expr}{ta tb tc:TE}{pos:Pos}
def bKI(i:PE X a ta)(j:PE X b tb){pins:List (Addr×Obj)}{s:bYK}{σ:St}{H:Hp}{R:V->V->Hp->Prop}(I:Inv X pins σ H s) (h:ta σ H λx H1=>tb σ H1 λy H2=>R x y H2) {Q:bYH->bYK->Prop} {f:bYH->bYH->Sem bYH} (g:∀v u e x y H2,Inv X pins σ H2 e->zJ x v->zJ y u->R x y H2->bYP (bYR X.prog X.w) X.A (f v u) Q X.xe e): bYP (bYR X.prog X.w) X.A (eval a X.env) (λv c=>bYP (bYR X.prog X.w) X.A (eval b X.env) (λu d=>bYP (bYR X.prog X.w) X.A (f v u) Q X.xe d) X.xe c) X.xe s:=by
 refine thn (i pins s σ H _ I h) λv s1 ⟨x,H1,I1,r1,q1⟩=>?_;refine thn (j pins s1 σ H1 _ I1 q1) λu e ⟨y,H2,I2,r2,q2⟩=>?_;exact g v u e x y H2 I2 r1 r2 q2
def yV{op:Operator}{r:R2}(g:OpR X (cZp op) r)(i:PE X a ta)(j:PE X b tb):PE X (.BinOp a op b pos) (tOp r ta tb):=by
 intro pins s σ H Q I h;exact wpAny_BinOp (bKI i j I h λv u c x y H2 d f e q=>g pins c σ H2 x y v u Q d f e q)
def aYx{op:UnaryOp}{r:V->Hp->VK->Prop}(b:UnR X (unaryOp op) r)(c:PE X a ta):PE X (.UnaryOp op a pos) (tUn r ta):=by
 intro pins s σ H Q I h;exact UnaryOp_ (thn (c pins s σ H _ I h) λv s1 ⟨x,H1,I1,r1,q1⟩=>b pins s1 σ H1 x v Q I1 r1 q1)
def opI{f:bYH->bYH->Sem bYH}{C:Int->Int->Prop}{g:Int->Int->Int} (a:∀ (i j:Int)(t u:Tok)(s:bYK)(Q:bYH->bYK->Prop)(E:bYH->bYK->Prop),C i j->Q (.int (g i j) s.toks) {s with toks:=s.toks+1}->bYP (bYR X.prog X.w) X.A (f (.int i t) (.int j u)) Q E s): OpR X f (rI C λi j=> .int (g i j)):=by
 intro pins s σ H x y v u Q I d c h;obtain⟨i,j,rfl,rfl,e,q⟩:=h;obtain⟨t,rfl⟩:=d;obtain⟨b,rfl⟩:=c;exact a i j t b s _ _ e ⟨.int (g i j),H,I.tok _,⟨_,rfl⟩,q⟩
def bYf{f:bYH->bYH->Sem bYH}{g:Int->Int->Int} (a:∀ (i j:Int)(t u:Tok)(s:bYK)(Q:bYH->bYK->Prop)(E:bYH->bYK->Prop),Q (.int (g i j) s.toks) {s with toks:=s.toks+1}->bYP (bYR X.prog X.w) X.A (f (.int i t) (.int j u)) Q E s): OpR X f (rI0 λi j=> .int (g i j)):=by
 intro pins s σ H x y v u Q I d c h;obtain⟨i,j,rfl,rfl,q⟩:=h;obtain⟨t,rfl⟩:=d;obtain⟨b,rfl⟩:=c;exact a i j t b s _ _ ⟨.int (g i j),H,I.tok _,⟨_,rfl⟩,q⟩
def bKv{f:bYH->bYH->Sem bYH}{g:Int->Int->Bool} (a:∀ (i j:Int)(t u:Tok)(s:bYK)(Q:bYH->bYK->Prop)(E:bYH->bYK->Prop),Q (.bool (g i j)) s->bYP (bYR X.prog X.w) X.A (f (.int i t) (.int j u)) Q E s): OpR X f (rI0 λi j=> .bl (g i j)):=by
 intro pins s σ H x y v u Q I d c h;obtain⟨i,j,rfl,rfl,q⟩:=h;obtain⟨t,rfl⟩:=d;obtain⟨b,rfl⟩:=c;exact a i j t b s _ _ ⟨.bl (g i j),H,I,rfl,q⟩
def bYm(i j:Int):Prop:=0<j/\j<1073741824
def bYb(i j:Int):Prop:=0<=j/\j<=1000000/\i.natAbs<2 ^ 64
def bKC(i j:Int):Prop:=(-(2 ^ 64)<i/\i<2 ^ 64)\/(-(2 ^ 64)<j/\j<2 ^ 64)
def bKC.ok{i j:Int}(h:bKC i j):IntMulOk i j:=by
 rcases h with⟨h1,h2⟩|⟨h1,h2⟩
 ·exact .of_left (intBits_le_64 h1 h2)
 ·exact .of_right (intBits_le_64 h1 h2)
def x6:OpR X (cZp .Add) (rI0 λi j=> .int (i+j)):=bYf λ_ _ _ _ _ _ _ q=>add_int q
def vA:OpR X (cZp .Sub) (rI0 λi j=> .int (i - j)):=bYf λ_ _ _ _ _ _ _ q=>sub_int q
def aVu:OpR X (cZp .Mult) (rI bKC λi j=> .int (i*j)):=opI λ_ _ _ _ _ _ _ a q=>mul_int q a.ok
def Y7:OpR X (cZp .FloorDiv) (rI bYm λi j=> .int (i / j)):=opI λi j _ _ _ _ _ a q=>by
 have h1:(0:Int)<j:=a.1;have h2:j<1073741824:=a.2;exact floordiv_int (by omega) (by rw[Int.fdiv_eq_ediv_of_nonneg i (by omega)];exact q) (.inl (PyProof.noPylong_small (by omega)))
def y3:OpR X (cZp .Mod) (rI (λ_ j=>0<j) λi j=> .int (i % j)):=opI λi j _ _ _ _ _ a q=>by
 have h1:(0:Int)<j:=a;exact mod_int' (by omega) (by rw[Int.fmod_eq_emod_of_nonneg i (by omega)];exact q)
def aQr:OpR X (cZp .Pow) (rI bYb λi j=> .int (i ^ j.toNat)):=opI λ_ _ _ _ _ _ _ a q=>pow_int_small a.1 a.2.1 a.2.2 q
def unI{f:bYH->Sem bYH}{g:Int->Int} (a:∀ (i:Int)(t:Tok)(s:bYK)(Q:bYH->bYK->Prop)(E:bYH->bYK->Prop),Q (.int (g i) s.toks) {s with toks:=s.toks+1}->bYP (bYR X.prog X.w) X.A (f (.int i t)) Q E s): UnR X f (rU λi=> .int (g i)):=by
 intro pins s σ H x v Q I b h;obtain⟨i,rfl,q⟩:=h;obtain⟨t,rfl⟩:=b;exact a i t s _ _ ⟨.int (g i),H,I.tok _,⟨_,rfl⟩,q⟩
def aZ0:UnR X (unaryOp .USub) (rU λi=> .int (-i)):=unI λ_ _ _ _ _ q=>neg_int q
end
def bYh:V->V->Bool
 |.non,.non=>true|.non,.int _=>true|.int _,.non=>true|.non,.bl _=>true|.bl _,.non=>true|.non,.str _=>true|.str _,.non=>true
 |.int _,.int _=>true|.bl _,.bl _=>true|.str _,.str _=>true|.byt _,.byt _=>true
 |.int _,.str _=>true|.str _,.int _=>true|.bl _,.str _=>true|.str _,.bl _=>true
 |_,_=>false
inductive rEq(x:V)(y:V)(H:Hp)(Q:VK):Prop|mk (_:bYh x y=true) (_:Q (.bl (decide (x=y))) H)
inductive rNe(x:V)(y:V)(H:Hp)(Q:VK):Prop|mk (_:bYh x y=true) (_:Q (.bl (!decide (x=y))) H)
def aKC{i j:Int}:decide (V.int i=V.int j)=(i==j):=by
 rw[Bool.eq_iff_iff];simp
def bZM{i j:Bool}:decide (V.bl i=V.bl j)=(i==j):=by
 rw[Bool.eq_iff_iff];simp
def aKD{i j:Str}:decide (V.str i=V.str j)=(i==j):=by
 rw[Bool.eq_iff_iff];simp
def aKB{i j:Array UInt8}:decide (V.byt i=V.byt j)=(i.toList==j.toList):=by
 rw[Bool.eq_iff_iff];cases i;cases j;simp
section
variable {X:Cx}{a b c:Expr}{ta tb tc:TE}{pos:Pos}
def xP{pins:List (Addr×Obj)}{σ:St}{H:Hp}{s:bYK}{Q:VK}{k a:Bool}(I:Inv X pins σ H s)(q:Q (.bl k) H)(e:k=a):EP X pins σ Q (.bool a) s:=by
 subst e;exact⟨.bl k,H,I,rfl,q⟩
def zB:OpR X (cXb .Eq) rEq:=by
 intro pins s σ H x y v u Q I d a h;obtain⟨c,q⟩:=h;cases x with
 |non=>
  cases d;cases y with
  |non=>cases a;exact PySem.EqNone.eq_none_none (xP I q (by simp))
  |bl j=>cases a;exact PySem.EqNone.eq_none_bool (xP I q (by simp))
  |int j=>obtain⟨b,rfl⟩:=a;exact PySem.EqNone.eq_none_int (xP I q (by simp))
  |str j=>obtain⟨b,rfl⟩:=a;exact PySem.EqNone.eq_none_str (xP I q (by simp))
  |_=>exact absurd (show false=true from c) Bool.false_ne_true
 |bl i=>
  cases d;cases y with
  |non=>cases a;exact PySem.EqNone.eq_bool_none (xP I q (by simp))
  |bl j=>cases a;exact eq_bool (xP I q bZM)
  |str j=>obtain⟨b,rfl⟩:=a;exact PySem.EqMixed.eq_bool_str (xP I q (by simp))
  |_=>exact absurd (show false=true from c) Bool.false_ne_true
 |int i=>
  obtain⟨t,rfl⟩:=d;cases y with
  |non=>cases a;exact PySem.EqNone.eq_int_none (xP I q (by simp))
  |int j=>obtain⟨b,rfl⟩:=a;exact eq_int (xP I q aKC)
  |str j=>obtain⟨b,rfl⟩:=a;exact PySem.EqMixed.eq_int_str (xP I q (by simp))
  |_=>exact absurd (show false=true from c) Bool.false_ne_true
 |str i=>
  obtain⟨t,rfl⟩:=d;cases y with
  |non=>cases a;exact PySem.EqNone.eq_str_none (xP I q (by simp))
  |bl j=>cases a;exact PySem.EqMixed.eq_str_bool (xP I q (by simp))
  |int j=>obtain⟨b,rfl⟩:=a;exact PySem.EqMixed.eq_str_int (xP I q (by simp))
  |str j=>obtain⟨b,rfl⟩:=a;exact eq_str (xP I q aKD)
  |_=>exact absurd (show false=true from c) Bool.false_ne_true
 |byt i=>
  obtain⟨t,rfl⟩:=d;cases y with
  |byt j=>obtain⟨b,rfl⟩:=a;exact PySem.W.eq_bytes (xP I q aKB)
  |_=>exact absurd (show false=true from c) Bool.false_ne_true
 |_=>cases y<;> exact absurd (show false=true from c) Bool.false_ne_true
def Y8:OpR X (cXb .NotEq) rNe:=by
 intro pins s σ H x y v u Q I d a h;obtain⟨c,q⟩:=h;cases x with
 |non=>
  cases d;cases y with
  |non=>cases a;exact PySem.EqNone.ne_none_none (xP I q (by simp))
  |bl j=>cases a;exact PySem.EqNone.ne_none_bool (xP I q (by simp))
  |int j=>obtain⟨b,rfl⟩:=a;exact PySem.EqNone.ne_none_int (xP I q (by simp))
  |str j=>obtain⟨b,rfl⟩:=a;exact PySem.EqNone.ne_none_str (xP I q (by simp))
  |_=>exact absurd (show false=true from c) Bool.false_ne_true
 |bl i=>
  cases d;cases y with
  |non=>cases a;exact PySem.EqNone.ne_bool_none (xP I q (by simp))
  |bl j=>cases a;exact ne_bool (xP I q (congrArg not bZM))
  |str j=>obtain⟨b,rfl⟩:=a;exact PySem.EqMixed.ne_bool_str (xP I q (by simp))
  |_=>exact absurd (show false=true from c) Bool.false_ne_true
 |int i=>
  obtain⟨t,rfl⟩:=d;cases y with
  |non=>cases a;exact PySem.EqNone.ne_int_none (xP I q (by simp))
  |int j=>obtain⟨b,rfl⟩:=a;exact ne_int (xP I q (congrArg not aKC))
  |str j=>obtain⟨b,rfl⟩:=a;exact PySem.EqMixed.ne_int_str (xP I q (by simp))
  |_=>exact absurd (show false=true from c) Bool.false_ne_true
 |str i=>
  obtain⟨t,rfl⟩:=d;cases y with
  |non=>cases a;exact PySem.EqNone.ne_str_none (xP I q (by simp))
  |bl j=>cases a;exact PySem.EqMixed.ne_str_bool (xP I q (by simp))
  |int j=>obtain⟨b,rfl⟩:=a;exact PySem.EqMixed.ne_str_int (xP I q (by simp))
  |str j=>obtain⟨b,rfl⟩:=a;exact ne_str (xP I q (congrArg not aKD))
  |_=>exact absurd (show false=true from c) Bool.false_ne_true
 |byt i=>
  obtain⟨t,rfl⟩:=d;cases y with
  |byt j=>obtain⟨b,rfl⟩:=a;exact PySem.W.ne_bytes (xP I q (congrArg not aKB))
  |_=>exact absurd (show false=true from c) Bool.false_ne_true
 |_=>cases y<;> exact absurd (show false=true from c) Bool.false_ne_true
def vF:OpR X (cXb .Lt) (rI0 λi j=> .bl (decide (i<j))):=bKv λ_ _ _ _ _ _ _ q=>lt_int q
def aYs:OpR X (cXb .LtE) (rI0 λi j=> .bl (decide (i<=j))):=bKv λ_ _ _ _ _ _ _ q=>le_int q
def aQo:OpR X (cXb .Gt) (rI0 λi j=> .bl (decide (j<i))):=bKv λ_ _ _ _ _ _ _ q=>gt_int q
def bWP:OpR X (cXb .GtE) (rI0 λi j=> .bl (decide (j<=i))):=bKv λ_ _ _ _ _ _ _ q=>ge_int q
def aQp:OpR X (cXb .Is) (λx y H Q=>y= .non/\Q (.bl (decide (x= .non))) H):=by
 intro pins s σ H x y v u Q I a b h;obtain⟨rfl,q⟩:=h;cases b;refine is_none_gen (xP I q ?_);cases x<;> first
  |(cases a;rfl)
  |(obtain⟨t,rfl⟩:=a;rfl)
def wC:OpR X (cXb .IsNot) (λx y H Q=>y= .non/\Q (.bl (!decide (x= .non))) H):=by
 intro pins s σ H x y v u Q I a b h;obtain⟨rfl,q⟩:=h;cases b;refine isnot_none_gen (xP I q ?_);cases x<;> first
  |(cases a;rfl)
  |(obtain⟨t,rfl⟩:=a;rfl)
def bZ1(b:Expr){op:CmpOp}(h:op≠ .In:=by decide)(h2:op≠ .NotIn:=by decide):cZx op b=false:=by
 have c:(op==CmpOp.In)=false:=by cases op<;> first|rfl|exact absurd rfl h
 have a:(op==CmpOp.NotIn)=false:=by cases op<;> first|rfl|exact absurd rfl h2
 cases b<;> simp[cZx,c,a]
def zG{op:CmpOp}{r:R2}(g:OpR X (cXb op) r)(i:PE X a ta)(j:PE X b tb)(k:cZx op b=false:=by first|exact bZ1 _|with_unfolding_all rfl):PE X (.Compare a [op] [b] pos) (tOp r ta tb):=by
 intro pins s σ H Q I h;exact wpAny_Compare1 (bKI i j I h λv u c x y H2 d f e q=>g pins c σ H2 x y v u Q d f e q) k
inductive bKl(Q:Bool->Hp->Prop)(x:V)(H':Hp):Prop|mk (k) (_:x= .bl k) (_:Q k H')
def bKk(t:TE):TT:=λσ H Q=>t σ H λx H'=>bKl Q x H'
def yM{op:CmpOp}{r:R2}(d:OpR X (cXb op) r)(f:PE X a ta)(g:PE X b tb)(i:cZx op b=false:=by first|exact bZ1 _|with_unfolding_all rfl):PT X (.Compare a [op] [b] pos) (bKk (tOp r ta tb)):=by
 intro pins s σ H Q I h;refine wpAny_isTrue_Compare1 (thn (f pins s σ H _ I h) λv s1 ⟨x,H1,I1,r1,q1⟩=>thn (g pins s1 σ H1 _ I1 q1) λu s2 ⟨y,H2,I2,r2,q2⟩=>
  thn (d pins s2 σ H2 x y v u _ I2 r1 r2 q2) λc s3 ⟨z,H3,I3,r3,k,e,q3⟩=>?_) i
 subst e;cases r3;exact cXI ⟨H3,I3,q3⟩
inductive bVY(r':R2)(tc:TE)(σ:St)(Q:VK)(y:V)(z:V)(H3:Hp):Prop|mk (k) (_:z= .bl k) (_:(if k=true then tc σ H3 λw' H4=>r' y w' H4 Q else Q (.bl false) H3))
def bKf(r a:R2)(ta tb tc:TE):TE:=λσ H Q=>ta σ H λx H1=>tb σ H1 λy H2=>r x y H2 λz b=>bVY a tc σ Q y z b
def bXP{op f:CmpOp}{r i:R2}(n:OpR X (cXb op) r)(g:OpR X (cXb f) i)(o:PE X a ta)(p:PE X b tb)(m:PE X c tc) (j:lastMarks [op,f] [b,c]=false:=by with_unfolding_all rfl):PT X (.Compare a [op,f] [b,c] pos) (bKk (bKf r i ta tb tc)):=by
 intro pins s σ H Q I h;refine isTrue_chain (thn (o pins s σ H _ I h) λv s1 ⟨x,H1,I1,r1,q1⟩=>test_link (thn (p pins s1 σ H1 _ I1 q1) λu s2 ⟨y,H2,I2,r2,q2⟩=>
  thn (n pins s2 σ H2 x y v u _ I2 r1 r2 q2) λd s3 ⟨z,H3,I3,r3,k,e,q3⟩=>?_)) j
 subst e;cases r3;refine cXI ?_;cases k with
 |false=>obtain⟨t,q,l⟩:=q3;cases q;exact ite_ff ⟨H3,I3,l⟩
 |true=>refine ite_tt (test_last (thn (m pins s3 σ H3 _ I3 q3) λw' s4 ⟨z',H4,I4,r4,q4⟩=>thn (g pins s4 σ H4 y z' u w' _ I4 r2 r4 q4) λd' s5 ⟨z2,H5,I5,r5,k2,e2,q5⟩=>?_));subst e2;cases r5;exact cXI ⟨H5,I5,q5⟩
def aZx:(bY8:Nat)<2 ^ 63:=by rw[cQg];decide
inductive aJE(x:V)(y:V)(H:Hp)(Q:VK):Prop|mk (i j) (_:x= .str i) (_:y= .str j) (_:i.length+j.length<=bY8) (_:Q (.str (i++j)) H)
def aXe:OpR X (cZp .Add) aJE:=by
 intro pins s σ H x y v u Q I c b h;obtain⟨i,j,rfl,rfl,d,q⟩:=h;obtain⟨t,rfl⟩:=c;obtain⟨a,rfl⟩:=b;exact add_str (λa tk=>⟨.str (i++j),H,I.tok _,⟨_,rfl⟩,q⟩) d
def aQV{x:V}{us:List bYH}(r:xW [x] us):∃u,us= [u]/\zJ x u:=by
 cases r with
 |cons a b=>cases b;exact⟨_,rfl,a⟩
def bKq{x y:V}{us:List bYH}(r:xW [x,y] us):∃u a,us= [u,a]/\zJ x u/\zJ y a:=by
 cases r with
 |cons b d=>
  cases d with
  |cons c e=>cases e;exact⟨_,_,rfl,b,c⟩
inductive aV8(xs:List V)(H:Hp)(Q:VK):Prop|mk (i j) (_:xs= [.int i,.int j]) (_:Q (.int (if j > i then j else i)) H)
def aKv(b:X.calm=true):jQ X (.builtin "max") aV8:=by
 intro pins s σ H xs e Q I r h;obtain⟨i,j,rfl,q⟩:=h;obtain⟨u,c,rfl,⟨t,rfl⟩,⟨d,rfl⟩⟩:=bKq r;refine max_two_ints (I.ok.hd b) λh' tk k=>⟨_,H,I.kept k,?_,q⟩;by_cases a:j > i
 ·rw[if_pos a,if_pos a];exact⟨_,rfl⟩
 ·rw[if_neg a,if_neg a];exact⟨_,rfl⟩
inductive aV9(xs:List V)(H:Hp)(Q:VK):Prop|mk (i j) (_:xs= [.int i,.int j]) (_:Q (.int (if j<i then j else i)) H)
def aKw(b:X.calm=true):jQ X (.builtin "min") aV9:=by
 intro pins s σ H xs e Q I r h;obtain⟨i,j,rfl,q⟩:=h;obtain⟨u,c,rfl,⟨t,rfl⟩,⟨d,rfl⟩⟩:=bKq r;refine min_two_ints (I.ok.hd b) λh' tk k=>⟨_,H,I.kept k,?_,q⟩;by_cases a:j<i
 ·rw[if_pos a,if_pos a];exact⟨_,rfl⟩
 ·rw[if_neg a,if_neg a];exact⟨_,rfl⟩
def w8:jQ X (.type "int") (λxs H Q=>(∃i,xs= [.int i]/\Q (.int i) H)\/∃k,xs= [.bl k]/\Q (.int (if k then 1 else 0)) H):=by
 intro pins s σ H xs b Q I r h;rcases h with⟨i,rfl,q⟩|⟨k,rfl,q⟩
 ·obtain⟨u,rfl,t,rfl⟩:=aQV r;exact call_int_int ⟨.int i,H,I,⟨_,rfl⟩,q⟩
 ·obtain⟨u,rfl,a⟩:=aQV r;cases a;exact call_int_bool ⟨.int (if k then 1 else 0),H,I.tok _,⟨_,rfl⟩,q⟩
end
end L2
namespace L2
open PySem PySem.Spec PyProof.Rows
structure bJp(h:Heap)(x dx C:Addr)(mA:Str->Option bYH):Prop where
 obj:h.get? x=some (cXT C dx)
 ns:h.Ns1 dx mA
 ne:dx≠x
def aZy{h:Heap}{dx:Addr}{mA:Str->Option bYH}(n:h.Ns1 dx mA):∃c,h.get? dx=some c/\∀name,cJH name c=some (mA name):=by
 obtain⟨o,es,l,j,g,i,_,k⟩:=n;refine⟨o,j,λname=>?_⟩;have e:=k name;unfold nsFind findBy at e;rw[<- Array.find?_toList]at e;unfold cJH;rw[g];dsimp only;split
 ·rename_i y q;rw[q]at e;exact congrArg some e
 ·rename_i q;rw[q]at e;have a:es.toList.any (·.refKey)=false:=by
   rw[List.any_eq_false];intro y d;obtain⟨z,t,b⟩:=i y (Array.mem_toList_iff.mp d);simp[DictEntry.refKey,b]
  have f:¬es.toList.any (·.refKey)=true:=by rw[a];exact Bool.false_ne_true
  rw[if_neg f];exact congrArg some e
def bJp.look{h:Heap}{x dx C:Addr}{mA:Str->Option bYH}(I:bJp h x dx C mA):∃a,PySem.W.InstAt h x (cXT C dx) C (some a)/\∀name,cJH name a=some (mA name):=
 let ⟨a,ho,hl⟩:=aZy I.ns
 ⟨a,⟨I.obj,rfl,rfl,ho⟩,hl⟩
section
variable {prog:bY4}{w:cQa}{A:cQl}{E:bYH->bYK->Prop}{s:bYK}{K:bYI}{x dx C f:Addr}{mA:Str->Option bYH}{name:Str}{v:bYH}
def bJF{a:Bool}{Q:bYH->bYK->Prop}(X:K.In s.heap)(I:bJp s.heap x dx C mA)(f:cZo K C name=true)(c:cZH K C=true) (e:cQs K (.ref C) name=some none) (d:mA name=some v) (b:PySem.W.handedIn v=true) (h:Q v {s with toks:=s.toks+1}): bYP (bYR prog w) A (getAttr (.ref x) name a) Q E s:=by
 obtain⟨g,J,hl⟩:=I.look;exact PySem.W.get_value X J (cJE f).1 (PySem.W.findObj_own c e rfl (by rw[hl,d])) b h
def bQX{pl:Sem Bool}{Q:bYH×List bYH->bYK->Prop}(X:K.In s.heap)(I:bJp s.heap x dx C mA)(a:cZo K C name=true) (d:cQs K (.ref C) name=some (some (.ref f))) (c:cZn K (.ref f)=true) (b:mA name=none) (h:Q (.ref f,[.ref x]) s): bYP (bYR prog w) A (cZ9 (.ref x) name pl) Q E s:=by
 obtain⟨e,J,hl⟩:=I.look;exact PySem.W.method_fn X J (cJE a).1 (cJE a).2 d (beq_iff_eq.mp c) (by show(cJH name e).map (·.isSome)=some false;rw[hl,b];rfl) h
def bVS{j:List Str}{Q:Unit->bYK->Prop}(X:K.In s.heap)(I:bJp s.heap x dx C mA) (q:cQs K (.ref C) "__setattr__"=some (some (.builtin "object.__setattr__"))) (l:cJf K C=true) (k:PySem.W.takerIn K C name=some none) (o:cZH K C=true) (hw:PySem.Within mA j) (hsz:j.length<=bY8) (h:∀h',bJp h' x dx C (λy=>if y=name then some v else mA y)->cXL dx s.heap h'->Q () {s with heap:=h',toks:=s.toks+2}): bYP (bYR prog w) A (setAttr (.ref x) name v) Q E s:=by
 obtain⟨B,J,hl⟩:=I.look;refine PySem.W.set_plain X J q (PySem.W.osa_open (s:={s with toks:=s.toks+1}) (r:=none) X J l k λb=>?_);obtain⟨z,p,f⟩:=PySem.W.any_some o;have n:s.heap.get? x=some ⟨.ref C,some dx,.plain, #[]⟩:=I.obj;refine bYJ (bYN (bYJ (bYJ (wpAny_loadPart n (bYJ (PySem.W.Looks.here (s:={s with toks:=s.toks+1}) (PySem.W.looks_clsIn X p) ?_))))));rw[f];refine bYN (a:=some dx) (bYJ (bYN (bYJ ?_)));refine wpAny_nsSet1 (s:={s with toks:=s.toks+1}) I.ns λh' c d=>?_;obtain⟨u,t,m,i,g,e⟩:=c.count (PySem.Within.cons name v hw);refine bYJ (wpAny_lookBehind i (by rw[g];exact pastItsLine_dict (cQn e (by rw[cQF];omega))) ?_);exact bYN (h _ ⟨(d.2 _ (cQr I.ne)).trans I.obj,c,I.ne⟩ d)
def bXi{R:Result->bYK->Prop}{vs:List bYH}{a:List (Str×bYH)}(X:K.In s.heap)(c:PySem.W.makesIn K C=true) (hi:cQs K (.ref C) "__init__"=some (some (.ref f))) (b:PySem.W.typeIn K (.ref f)=some (.type "function")) (h:cXY (bYR prog w) (A.under (.builtin "type.__call__" ⟨.ref C::vs,a⟩)) (.call (.ref f) ⟨.ref (s.heap.objs.size+1)::vs,a⟩) (PySem.W.InitBack (s.heap.objs.size+1) R) {s with heap:=(s.heap.push cXq).push (cXT C s.heap.objs.size) }): cXY (bYR prog w) A (.call (.ref C) ⟨vs,a⟩) R s:=by
 obtain⟨e,g,d,t,i⟩:=s;exact PySem.W.make_core (PySem.W.makes_of X c) (PySem.W.looks_findIn X hi) (λself=>PySem.W.bind_fn X self b) (.inl rfl) h
end
def aQ5(f:Str)(v:V):List (Str×V)->List (Str×V)
 |[]=> [(f,v)]
 |(g,x)::r=>if g=f then(g,v)::r else(g,x)::aQ5 f v r
def aQl(f g:Str)(v:V):∀fs:List (Str×V),(aQ5 f v fs).lookup g=if g=f then some v else fs.lookup g
 |[]=>by
  show cX2 g [(f,v)]=_;by_cases h:g=f
  ·have a:(g==f)=true:=beq_iff_eq.mpr h;simp only[cX2,a,if_pos h]
  ·have a:(g==f)=false:=beq_eq_false_iff_ne.mpr h;simp only[cX2,a,if_neg h]
 |(k,x)::r=>by
  have c:=aQl f g v r;rw[show aQ5 f v ((k,x)::r)=(if k=f then(k,v)::r else(k,x)::aQ5 f v r)from rfl];by_cases b:k=f
  ·rw[if_pos b];by_cases h:g=k
   ·have a:(g==k)=true:=beq_iff_eq.mpr h;simp only[cX2,a,if_pos (h.trans b)]
   ·have a:(g==k)=false:=beq_eq_false_iff_ne.mpr h;simp only[cX2,a,if_neg (λe:g=f=>h (e.trans b.symm))]
  ·rw[if_neg b];by_cases h:g=k
   ·have a:(g==k)=true:=beq_iff_eq.mpr h;simp only[cX2,a,if_neg (λe:g=f=>b (h.symm.trans e))]
   ·have a:(g==k)=false:=beq_eq_false_iff_ne.mpr h;simp only[cX2,a];exact c
def aQd(f:Str)(v:V):∀fs:List (Str×V),f∈(aQ5 f v fs).map (·.1)/\∀g,g∈fs.map (·.1)->g∈(aQ5 f v fs).map (·.1)
 |[]=>⟨by simp[aQ5],λg h=>by simp at h⟩
 |(k,x)::r=>by
  obtain⟨c,b⟩:=aQd f v r;rw[show aQ5 f v ((k,x)::r)=(if k=f then(k,v)::r else(k,x)::aQ5 f v r)from rfl];by_cases a:k=f
  ·rw[if_pos a];subst a;exact⟨by simp,λg h=>by simpa using h⟩
  ·rw[if_neg a];refine⟨?_,λg h=>?_⟩
   ·rw[cQx];exact bYT _ c
   ·rw[cQx]at h ⊢;rcases bYQ.mp h with e|e
    ·exact bYQ.mpr (.inl e)
    ·exact bYT _ (b g e)
def aQk(f:Str)(v:V):∀fs:List (Str×V),(aQ5 f v fs).length<=fs.length+1
 |[]=>by simp[aQ5]
 |(k,x)::r=>by
  have b:=aQk f v r;rw[show aQ5 f v ((k,x)::r)=(if k=f then(k,v)::r else(k,x)::aQ5 f v r)from rfl];by_cases a:k=f
  ·rw[if_pos a,cQF,cQF];omega
  ·rw[if_neg a,cQF,cQF];omega
def aX3.some_of{v:V}{o:Option bYH}(r:aX3 (some v) o):∃u,o=some u/\zJ v u:=by
 cases o with
 |none=>exact(show False from r).elim
 |some u=>exact⟨u,rfl,r⟩
def aX3.none_of{o:Option bYH}(r:aX3 none o):o=none:=by
 cases o with
 |none=>rfl
 |some u=>exact(show False from r).elim
def aZk{v:V}{u:bYH}(r:zJ v u):PySem.W.handedIn u=true:=by
 cases v with
 |non=>cases (show u=Value.none from r);rfl
 |bl b=>cases (show u=Value.bool b from r);rfl
 |int i=>obtain⟨t,e⟩:=(show ∃t,u=Value.int i t from r);cases e;rfl
 |str x=>obtain⟨t,e⟩:=(show ∃t,u=Value.str x t from r);cases e;rfl
 |byt b=>obtain⟨t,e⟩:=(show ∃t,u=Value.bytes b t from r);cases e;rfl
 |flt b=>obtain⟨t,e⟩:=(show ∃t,u=Value.float b t from r);cases e;rfl
 |ref a=>cases (show u=Value.ref a from r);rfl
 |ty n=>cases (show u=Value.type n from r);rfl
section
variable {P:bY4}{w:cQa}{H H':Hp}{h h':Heap}{a C dx:Addr}{fs fs':List (Str×V)}
def aQa(b:HOk P w H h)(e:H a=some (.ins C dx fs)):∃mA,bJp h a dx C mA/\(∀f,aX3 (fs.lookup f) (mA f))/\PySem.Within mA (fs.map (·.1))/\fs.length<=1000/\H dx=some (.own a):=by
 obtain⟨d,z,ne,c,mA,n,r,q⟩:=(show zD P w H h a (.ins C dx fs)from b a _ e);exact⟨mA,⟨c,n,ne⟩,r,q,z,d⟩
end
structure Cls(K:bYI)(C:Addr):Prop where
 pg:cZo K C Str.empty=true
 hd:cZH K C=true
 po:cJf K C=true
 sa:cQs K (.ref C) "__setattr__"=some (some (.builtin "object.__setattr__"))
def Cls.get{K:bYI}{C:Addr}(c:Cls K C)(f:Str):cZo K C f=true:=c.pg
def wH(K:bYI)(C:Addr)(f:Str):Prop:=cQs K (.ref C) f=some none
def wH.taker{K:bYI}{C:Addr}{f:Str}(n:wH K C f):PySem.W.takerIn K C f=some none:=by
 unfold PySem.W.takerIn;rw[show cQs K (.ref C) f=some none from n];rfl
structure bV7(K:bYI)(C:Addr)(m:Str)(f:Addr):Prop where
 at_:cQs K (.ref C) m=some (some (.ref f))
 fn:cZn K (.ref f)=true
 kp:cQD K (.ref f)=true
section
variable {X:Cx}{pins:List (Addr×Obj)}{σ:St}{H:Hp}{s:bYK}{a C dx:Addr}{fs:List (Str×V)}{f:Str}{v:V}{A:cQl}{E:bYH->bYK->Prop}
def aWi{b:Bool}{Q:bYH->bYK->Prop}(I:Inv X pins σ H s)(e:H a=some (.ins C dx fs))(c:Cls X.K C)(n:wH X.K C f)(l:fs.lookup f=some v) (h:∀u s',Inv X pins σ H s'->zJ v u->Q u s'):bYP (bYR X.prog X.w) A (getAttr (.ref a) f b) Q E s:=by
 obtain⟨mA,O,r,_,_,_⟩:=aQa I.hok e;obtain⟨u,g,d⟩:=aX3.some_of (v:=v) (o:=mA f) (by rw[<- l];exact r f);exact bJF I.kIn O (c.get f) c.hd n g (aZk d) (h u _ (I.tok _) d)
def Y4{m:Str}{g:Addr}{pl:Sem Bool}{Q:bYH×List bYH->bYK->Prop}(I:Inv X pins σ H s)(e:H a=some (.ins C dx fs))(c:Cls X.K C)(k:bV7 X.K C m g)(l:fs.lookup m=none) (h:Q (.ref g,[.ref a]) s):bYP (bYR X.prog X.w) A (cZ9 (.ref a) m pl) Q E s:=by
 obtain⟨mA,O,r,_,_,_⟩:=aQa I.hok e;have b:mA m=none:=aX3.none_of (by rw[<- l];exact r m);exact bQX I.kIn O (c.get m) k.at_ k.fn b h
def aKd{y:V}{u:bYH}{Q:Unit->bYK->Prop}(I:Inv X pins σ H s)(e:H a=some (.ins C dx fs))(c:Cls X.K C)(n:wH X.K C f)(hl:fs.length<1000)(k:zJ y u) (h:∀s',Inv X pins σ (upd H a (.ins C dx (aQ5 f y fs))) s'->Q () s'):bYP (bYR X.prog X.w) A (setAttr (.ref a) f u) Q E s:=by
 obtain⟨mA,O,r,i,_,j⟩:=aQa I.hok e;have t:(fs.map (·.1)).length<=bY8:=by rw[bYL,cQg];omega
 refine bVS I.kIn O c.sa c.po n.taker c.hd i t λh' d p=>h _ ?_;have m:∃o,h'.get? dx=some o:=let ⟨o,_,_,e',_⟩:=d.ns;⟨o,e'⟩;refine I.write (x:=a) (e:=dx) (by rw[e];exact cQ3) (.inr j) (λb q v z=>(p.2 b v).trans z) m ?_;refine⟨by rw[yI O.ne];exact j,?_,O.ne,d.obj,_,d.ns,λg=>?_,λg l=>?_⟩
 ·have:=aQk f y fs;omega
 ·show aX3 ((aQ5 f y fs).lookup g) (if g=f then some u else mA g);rw[aQl];by_cases q:g=f
  ·rw[if_pos q,if_pos q];exact k
  ·rw[if_neg q,if_neg q];exact r g
 ·by_cases q:g=f
  ·rw[q];exact(aQd f y fs).1
  ·refine(aQd f y fs).2 g (i g λz=>l ?_);show(if g=f then some u else mA g)=none;rw[if_neg q];exact z
def Inv.made(I:Inv X pins σ H s):Inv X pins σ (upd (upd H s.heap.objs.size (.own (s.heap.objs.size+1))) (s.heap.objs.size+1) (.ins C s.heap.objs.size [])) {s with heap:=(s.heap.push cXq).push (cXT C s.heap.objs.size) }:=by
 have c:(s.heap.push cXq).get? s.heap.objs.size=some cXq:=cQb s.heap rfl;have g:((s.heap.push cXq).push (cXT C s.heap.objs.size)).get? (s.heap.objs.size+1)=some (cXT C s.heap.objs.size):=by have:=cQb (s.heap.push cXq) (o:=cXT C s.heap.objs.size) rfl;rwa [cXg]at this
 have f:(s.heap.push cXq).Ns s.heap.objs.size (λ_=>none):=⟨cXq, #[],_,c,rfl,(λe i=>absurd i (by simp)),λ_=>rfl⟩;have d:=I.laid (a:=s.heap.objs.size) (o:= .own (s.heap.objs.size+1)) (h':=s.heap.push cXq) (t':=s.toks) (λb u q=>bYM _ q) (bYO _) ⟨_,c⟩;refine d.laid (a:=s.heap.objs.size+1) (o:= .ins C s.heap.objs.size []) (t':=s.toks) (λb u q=>bYM _ q) (cZk (cXg _ _)) ?_;have ne:s.heap.objs.size≠s.heap.objs.size+1:=bY7 (cXz _);refine⟨by rw[yI ne,yB],cQE _,ne,g,λ_=>none,(Heap.Ns1.of_empty f).at λo q=>bYM _ q,λ_=>cQ3,λy h=>absurd rfl h⟩
def aKs{prog:bY4}{w:cQa}{env:Env}{e:Expr}{f:Str}{pos:Pos}{s:bYK}{Q:bYH->bYK->Prop}(b:cZw e f env (eval e env)=eval e env) (h:bYP (bYR prog w) A (eval e env) (λo a=>bYP (bYR prog w) A (getAttr o f true) Q E a) E s):bYP (bYR prog w) A (eval (.Attribute e f pos) env) Q E s:=
 Attribute_any_ h (by rw[arm_eval_Attribute,b])
end
inductive bK3(K:bYI)(f:Str)(Q:VK)(x:V)(H1:Hp):Prop|mk (a C dx fs v) (_:x= .ref a) (_:H1 a=some (.ins C dx fs)) (_:Cls K C) (_:wH K C f) (_:fs.lookup f=some v) (_:Q v H1)
def bYi(K:bYI)(ta:TE)(f:Str):TE:=λσ H Q=>ta σ H λx H1=>bK3 K f Q x H1
inductive bKY(K:bYI)(f:Str)(D:aZ4)(σ:St)(y:V)(x:V)(H2:Hp):Prop|mk (a C dx fs) (_:x= .ref a) (_:H2 a=some (.ins C dx fs)) (_:Cls K C) (_:wH K C f) (_:fs.length<1000) (_:D.nx σ (upd H2 a (.ins C dx (aQ5 f y fs))))
def bYy(K:bYI)(ta tv:TE)(f:Str):TS:=λD σ H=>tv σ H λy H1=>ta σ H1 λx H2=>bKY K f D σ y x H2
section
variable {X:Cx}{o e value:Expr}{f:Str}{pos pos' tpos:Pos}{ta tv:TE}
def yZ(g:PE X e ta)(i:cZw e f X.env (eval e X.env)=eval e X.env):PE X (.Attribute e f pos) (bYi X.K ta f):=by
 intro pins s σ H Q I h;refine aKs i (thn (g pins s σ H _ I h) λu s1 ⟨x,H1,I1,rx,a,C,dx,fs,v,ex,ea,c,n,l,q⟩=>?_);subst ex;obtain rfl:u=Value.ref a:=rx;exact aWi I1 ea c n l λk j b d=>⟨v,H1,b,d,q⟩
def zL(g:PE X o ta)(b:PE X value tv)(d:swapsWith value (some (.Attribute o f pos')) pos.line X.env=pure false):PS X (.Assign [.Attribute o f pos'] value pos) (bYy X.K ta tv f):=by
 intro pins s σ H D I h;refine cJo (thn (b pins s σ H _ I h) λu s1 ⟨y,H1,I1,ry,q⟩=>thn (g pins s1 σ H1 _ I1 q) λov s2 ⟨x,H2,I2,rx,a,C,dx,fs,ex,ea,c,n,l,q2⟩=>?_) d;subst ex;obtain rfl:ov=Value.ref a:=rx;exact aKd I2 ea c n l ry λi e=>⟨σ,_,e,q2⟩
def bJQ{pl:Sem Bool}{m:Str}{apos:Pos}{args:List Expr}{pins:List (Addr×Obj)}{s:bYK}{σ:St}{H:Hp}{Q:bYH->bYK->Prop}{te:TE}(i:PE X e te)(I:Inv X pins σ H s)
  (h:te σ H λx H1=>∃a C dx fs g,x= .ref a/\H1 a=some (.ins C dx fs)/\Cls X.K C/\bV7 X.K C m g/\fs.lookup m=none/\
   ∀b,Inv X pins σ H1 b->bYP (bYR X.prog X.w) X.A (callWith pos (.ref g) [.ref a] (cXk pos (cQk args X.env)) (cZT pos (cX3 [] X.env))) Q X.xe b)
  (d:eval (.Call (.Attribute e m apos) args [] pos) X.env=(do
   let ov <- eval e X.env
   standAt apos.atName
   let (f,first) <- cZ1 [ov] (cZ9 ov m pl)
   callWith pos f first (cXk pos (cQk args X.env)) (cZT pos (cX3 [] X.env)))):
  bYP (bYR X.prog X.w) X.A (eval (.Call (.Attribute e m apos) args [] pos) X.env) Q X.xe s:=by
 refine cZL (pl:=pl) (thn (i pins s σ H _ I h) λu b ⟨x,H1,I1,rx,a,C,dx,fs,g,ex,ea,c,k,l,q⟩=>?_) d
 subst ex
 obtain rfl:u=Value.ref a:=rx
 exact Y4 I1 ea c k l (q b I1)
end
section
variable {X:Cx}{pins:List (Addr×Obj)}{σ:St}{H:Hp}{s:bYK}{A:cQl}{E:bYH->bYK->Prop}{Q:bYH->bYK->Prop}{c:bYH}{b:Bool}
inductive aZ6(K:bYI)(H:Hp):V->bYH->Prop where
 |non:aZ6 K H .non (.type "NoneType")
 |bl (x:Bool):aZ6 K H (.bl x) (.type "bool")
 |int (i:Int):aZ6 K H (.int i) (.type "int")
 |str (x:Str):aZ6 K H (.str x) (.type "str")
 |flt (x:UInt64):aZ6 K H (.flt x) (.type "float")
 |lst {a:Addr} {xs:List V} (e:H a=some (.lst xs)):aZ6 K H (.ref a) (.type "list")
 |frz {a:Addr} {o:Obj} {xs:List V} (e:H a=some (.frz o (.lst xs))):aZ6 K H (.ref a) (.type "list")
 |tup {a:Addr} {xs:List V} (e:H a=some (.tup xs)):aZ6 K H (.ref a) (.type "tuple")
 |dK {a:Addr} {kvs:List (Key×V)} (e:H a=some (.dK kvs)):aZ6 K H (.ref a) (.type "dict")
 |dT {a:Addr} {kvs:List (List Key×V)} (e:H a=some (.dT kvs)):aZ6 K H (.ref a) (.type "dict")
 |ins {a C dx:Addr} {fs:List (Str×V)} (e:H a=some (.ins C dx fs)) (cl:Cls K C) (ha:cQs K (.ref C) "__class__"=some (some (.builtin "object.__class__")))
   (hn:cJg K (.builtin "object.__class__") "__get__"=some (some (.builtin "getset_descriptor.__get__"))) (htk:PySem.W.takesIn K (.builtin "object.__class__")=some true)
   (hm:cZW K C (.type "object")=some true):aZ6 K H (.ref a) (.ref C)
def aKQ{x:V}{u t:bYH}(I:Inv X pins σ H s)(f:zJ x u)(ty:aZ6 X.K H x t)(e:cQz X.K t c=some b)(h:∀tk,Q (.bool b) {s with toks:=tk}): bYP (bYR X.prog X.w) A (call (.builtin "isinstance") [u,c]) Q E s:=by
 cases ty with
 |non=>cases (show u=Value.none from f);exact cXi PySem.W.kitx_none I.kIn cQ3 e (λz=>nomatch z) h
 |bl y=>cases (show u=Value.bool y from f);exact cXi PySem.W.kitx_bool I.kIn cQ3 e (λz=>nomatch z) h
 |int i=>obtain⟨t,q⟩:=(show ∃t,u=Value.int i t from f);cases q;exact cXi PySem.W.kitx_int I.kIn cQ3 e (λz=>nomatch z) h
 |str y=>obtain⟨t,q⟩:=(show ∃t,u=Value.str y t from f);cases q;exact cXi PySem.W.kitx_str I.kIn cQ3 e (λz=>nomatch z) h
 |flt y=>obtain⟨t,q⟩:=(show ∃t,u=Value.float y t from f);cases q;exact cXi PySem.W.kitx_float I.kIn cQ3 e (λz=>nomatch z) h
 |@lst a xs d=>cases (show u=Value.ref a from f);obtain⟨_,_,n,_,h1⟩:=(show zD X.prog X.w H s.heap a (.lst xs)from I.hok a _ d);exact cXi cJe I.kIn ⟨_,h1,rfl⟩ e (λz=>nomatch z) h
 |@frz a l xs d=>cases (show u=Value.ref a from f);obtain⟨_,_,_,n,_,h1⟩:=(show zD X.prog X.w H s.heap a (.frz l (.lst xs))from I.hok a _ d);exact cXi cJe I.kIn ⟨_,h1,rfl⟩ e (λz=>nomatch z) h
 |@tup a xs d=>cases (show u=Value.ref a from f);obtain⟨_,_,_,p⟩:=(show zD X.prog X.w H s.heap a (.tup xs)from I.hok a _ d);obtain⟨o,h1,h2,_⟩:=p;exact cXi PySem.W.kitx_tuple I.kIn ⟨o,h1,h2⟩ e (λz=>nomatch z) h
 |@dK a g d=>cases (show u=Value.ref a from f);obtain⟨_,_,B,_,p⟩:=(show zD X.prog X.w H s.heap a (.dK g)from I.hok a _ d);obtain⟨o,es,k,h1,h2,_⟩:=p;exact cXi cJd I.kIn ⟨o,h1,h2.1⟩ e (λz=>nomatch z) h
 |@dT a g d=>cases (show u=Value.ref a from f);obtain⟨_,_,xs,_,o,es,k,h1,h2,_⟩:=(show zD X.prog X.w H s.heap a (.dT g)from I.hok a _ d);exact cXi cJd I.kIn ⟨o,h1,h2.1⟩ e (λz=>nomatch z) h
 |@ins a C dx fs d cl r m j v=>cases (show u=Value.ref a from f);obtain⟨mA,O,_⟩:=aQa I.hok d;obtain⟨D,J,_⟩:=O.look;exact cXi (PySem.W.kitx_own (cl.get _) cl.hd r m j v) I.kIn J e (λz=>nomatch z) h
end
end L2
namespace L2
open PySem PySem.Spec PyProof.Rows
structure vP(k:Nat)(A:cQl):Prop where
 hd:A.handled=none
 dp:A.depth+3*k+5<recursionLimit
 un:A.units+16*k+200<cLine
def vP.mono{j k:Nat}{A:cQl}(r:vP k A)(h:j<=k):vP j A:=⟨r.hd,by have:=r.dp;omega,by have:=r.un;omega⟩
def vP.deeper{k:Nat}{A:cQl}(r:vP (k+1) A)(env:Env):vP k (A.deeper env):=
 ⟨r.hd,by have:=r.dp;show A.depth+1+3*k+5<_;omega,by have:=r.un;show A.units+3+16*k+200<_;omega⟩
def aWv{A:cQl}{C:Addr}{us:List bYH}{a:List (Str×bYH)}:(A.under (.builtin "type.__call__" ⟨.ref C::us,a⟩)).depth=A.depth+1:=by
 first|rfl|simp[Around.under,Code.weight,Code.isCreation,Code.isGuard,Code.isCaller,Code.frames,Code.isFrame,guardIds]
def aWw{A:cQl}{C:Addr}{us:List bYH}{a:List (Str×bYH)}:(A.under (.builtin "type.__call__" ⟨.ref C::us,a⟩)).units=A.units+1:=by
 first|rfl|simp[Around.under,Code.cUnits,Code.frames,Code.isFrame]
def vP.make{k:Nat}{A:cQl}(r:vP (k+1) A)(C:Addr)(us:List bYH)(a:List (Str×bYH)):vP k (A.under (.builtin "type.__call__" ⟨.ref C::us,a⟩)):=
 ⟨r.hd,by have:=r.dp;rw[aWv];omega,by have:=r.un;rw[aWw];omega⟩
def vP.depth{k:Nat}{A:cQl}(r:vP k A):A.depth<recursionLimit:=by have:=r.dp;omega
def vP.units{k:Nat}{A:cQl}(r:vP k A):A.units+64<cLine:=by have:=r.un;omega
def vP.units0{k:Nat}{A:cQl}(r:vP k A):A.units<cLine:=by have:=r.un;omega
def bZu:TA:=λ_ H Q=>Q [] H
def aKg(ta:TE)(a:TA):TA:=λσ H Q=>ta σ H λx H1=>a σ H1 λxs H2=>Q (x::xs) H2
section
variable {X:Cx}{e:Expr}{es:List Expr}{te:TE}{t:TA}{pos:Pos}
def yD:PA X [] bZu:=λ_ _ _ _ H Q I h=>Calls.spliced_nil ⟨[],H,I,.nil,h⟩
def yA(c:PE X e te)(a:PA X es t)(b:cQk (e::es) X.env=(false,eval e X.env)::cQk es X.env:=by rfl):PA X (e::es) (aKg te t):=by
 intro pos pins s σ H Q I h;rw[b];show bYP _ _ (spliced ((false,eval e X.env)::cXk pos (cQk es X.env))) _ _ s;refine Calls.spliced_cons (thn (c pins s σ H _ I h) λu s1 ⟨x,H1,I1,r1,q1⟩=>?_);exact thn (a pos pins s1 σ H1 _ I1 q1) λus s2 ⟨xs,H2,I2,r2,q2⟩=>⟨x::xs,H2,I2,.cons r1 r2,q2⟩
inductive bK9(Q:VK)(xs:List V)(H1:Hp):Prop|mk (_:xs.length<=bY8) (_:∀p,H1 p=none->Q (.ref p) (upd H1 p (.tup xs)))
def bYl(t:TA):TE:=λσ H Q=>t σ H λxs H1=>bK9 Q xs H1
inductive bK4(Q:VK)(xs:List V)(H1:Hp):Prop|mk (_:xs.length<=bY8) (_:∀p,H1 p=none->Q (.ref p) (upd H1 p (.lst xs)))
def bYj(t:TA):TE:=λσ H Q=>t σ H λxs H1=>bK4 Q xs H1
def xI{x1}(h:PA X es t):PE X (.Tuple es x1 pos) (bYl t):=by
 intro pins s σ H Q I a;refine wpAny_Tuple_spliced (thn (h pos pins s σ H _ I a) λus s1 ⟨xs,H1,I1,r,z,q⟩=>⟨by rw[<- r.length];exact z,?_⟩);have c:H1 s1.heap.objs.size=none:=I1.hok.fresh (bYO _);refine⟨.ref s1.heap.objs.size,upd H1 s1.heap.objs.size (.tup xs),I1.laid (t':=s1.toks) (λb u e=>bYM _ e) (bYO _) ?_,rfl,q _ c⟩;exact⟨z,us,r,⟨_,cQb _ rfl,rfl,_,rfl⟩⟩
def y6(h:PA X es t):PE X (.List es pos) (bYj t):=by
 intro pins s σ H Q I a;refine wpAny_List_spliced (thn (h pos pins s σ H _ I a) λus s1 ⟨xs,H1,I1,r,z,q⟩=>⟨by rw[<- r.length];exact z,?_⟩);have c:H1 s1.heap.objs.size=none:=I1.hok.fresh (bYO _);refine⟨.ref s1.heap.objs.size,upd H1 s1.heap.objs.size (.lst xs),I1.laid (t':=s1.toks) (λb u e=>bYM _ e) (bYO _) ?_,rfl,q _ c⟩;exact⟨z,us,0,r,cQb _ rfl⟩
end
abbrev Sp:=List V->Hp->VK->XK->Prop
abbrev CXT:=List Env->Hp->bYK->XK->bYH->bYK->Prop
structure bJm(P:bY4)(w:cQa)(K:bYI)(mg:Str->Option bYH)(base:Heap)(A:cQl)(outer:List Env)(s:bYK)(H:Hp):Prop where
 frames:A.frames=some outer
 mod:Mod K mg base
 bs:∀b o,base.get? b=some o->s.heap.get? b=some o/\H b=none
 bsz:base.objs.size<=s.heap.objs.size
 funs:s.heap.FunFrames base outer
 frf:∀b∈frs outer,H b=none
 hok:HOk P w H s.heap
 bare:AllBare s.gens
def CE(outer:List Env)(P:bY4)(w:cQa)(H:Hp)(s:bYK)(Q:VK)(u:bYH)(s':bYK):Prop:=
 ∃v H',s'.os=s.os/\AllBare s'.gens/\Un (frs outer) [] H H' s.heap s'.heap/\HOk P w H' s'.heap/\zJ v u/\Q v H'
def CR(CX:CXT)(outer:List Env)(P:bY4)(w:cQa)(H:Hp)(s:bYK)(Q:VK)(E:XK)(r:Result)(s':bYK):Prop:=
 match r with
 |.ok (.ret u)=>CE outer P w H s Q u s'
 |.ok _=>False
 |.error e=>CX outer H s E e s'
structure xD(P:bY4)(w:cQa)(K:bYI)(mg:Str->Option bYH)(base:Heap)(CX:CXT)(k:Nat)(f:Addr)(fd:cXG)(ps:List Str)(sp:Sp):Prop where
 len:∀vs H Q E,sp vs H Q E->vs.length=ps.length
 run:∀ (A:cQl)(outer:List Env)(s:bYK)(H:Hp)(args:Args)(us:List bYH)(vs:List V)(Q:VK)(E:XK),vP k A->bJm P w K mg base A outer s H->BindsTo s fd args (ps.zip us)->xW vs us->sp vs H Q E->
  cXY (bYR P w) A (.call (.ref f) args) (CR CX outer P w H s Q E) s
def xD.mono{P:bY4}{w:cQa}{K:bYI}{mg:Str->Option bYH}{base:Heap}{CX:CXT}{j k:Nat}{f:Addr}{fd:cXG}{ps:List Str}{sp:Sp}(F:xD P w K mg base CX j f fd ps sp)(h:j<=k):
  xD P w K mg base CX k f fd ps sp:=⟨F.len,λA outer s H args c b Q E a=>F.run A outer s H args c b Q E (a.mono h)⟩
def bJm.make{P:bY4}{w:cQa}{K:bYI}{mg:Str->Option bYH}{base:Heap}{A:cQl}{outer:List Env}{s:bYK}{H:Hp}(e:bJm P w K mg base A outer s H)(C:Addr)(us:List bYH)(a:List (Str×bYH)):
  bJm P w K mg base (A.under (.builtin "type.__call__" ⟨.ref C::us,a⟩)) outer s H:=⟨by first|exact e.frames|(simpa[Around.under,Code.envs,Code.isFrame,pushEnvs]using e.frames),e.mod,e.bs,e.bsz,e.funs,e.frf,e.hok,e.bare⟩
section
variable {X:Cx}{pins:List (Addr×Obj)}{σ:St}{H:Hp}{s s':bYK}
def Inv.env0(I:Inv X pins σ H s):bJm X.prog X.w X.K X.mg X.base X.A X.stack s H:=
 ⟨I.ok.frames,I.ok.mod,I.bs,cQn I.ok.bsz I.sz,I.stack,I.stkFree,I.hok,I.bare⟩
def Inv.after{Q:VK}{u:bYH}(I:Inv X pins σ H s)(h:CE X.stack X.prog X.w H s Q u s'):EP X pins σ Q u s':=by
 obtain⟨v,H',e,bare,un,a,r,q⟩:=h;obtain⟨f,g,d,t,c⟩:=s';obtain rfl:c=s.os:=e;exact⟨v,H',I.call (h':=f) (g':=g) (d':=d) (t':=t) (ch:= []) un a bare (λb z=>absurd z (by simp)),r,q⟩
end
def bZq(sp:Sp)(dvs:List V)(E:XK)(t:TA):TE:=λσ H Q=>t σ H λa H1=>sp (a++dvs) H1 Q E
inductive bKh(C:Addr)(m:Str)(sp:Sp)(dvs:List V)(E:XK)(t:TA)(σ:St)(Q:VK)(x:V)(H1:Hp):Prop|mk (a dx fs) (_:x= .ref a) (_:H1 a=some (.ins C dx fs)) (_:fs.lookup m=none) (_:t σ H1 λvs H2=>sp (x::(vs++dvs)) H2 Q E)
def bZt(C:Addr)(m:Str)(sp:Sp)(dvs:List V)(E:XK)(ta:TE)(t:TA):TE:=λσ H Q=>ta σ H λx H1=>bKh C m sp dvs E t σ Q x H1
def bZs(C:Addr)(sp:Sp)(dvs:List V)(E:XK)(t:TA):TE:=λσ H Q=>t σ H λa H1=>∀x dx,H1 x=none->H1 dx=none->dx≠x->
 sp (.ref x::(a++dvs)) (upd (upd H1 dx (.own x)) x (.ins C dx [])) (λv H2=>v= .non/\Q (.ref x) H2) E
def vW(K:bYI)(fd:cXG)(ps:List Str)(ds:List bYH):Prop:=
 ∀ (s:bYK)(a:List bYH),K.In s.heap->(a++ds).length=ps.length->BindsTo s fd ⟨a,[]⟩ (ps.zip (a++ds))
def vW.all{K:bYI}{fd:cXG}{ps:List Str}(h:∀a:List bYH,a.length=ps.length->cZq fd ⟨a,[]⟩=pure (ps.zip a)):vW K fd ps []:=λs a _ hl=>by
 rw[cQN]at hl ⊢;exact .of_eq (h a hl)
def vJ(CX:CXT)(X:Cx)(E:XK):Prop:=∀ (pins:List (Addr×Obj))(σ:St)(H:Hp)(s:bYK)(e:bYH)(s':bYK),Inv X pins σ H s->CX X.stack H s E e s'->X.xe e s'
section
variable {X:Cx}{CX:CXT}{k:Nat}{f C:Addr}{fd:cXG}{ps:List Str}{sp:Sp}{dvs:List V}{ds:List bYH}{E:XK}{x m:Str}{p pos apos:Pos}{e o:Expr}{es:List Expr}{ta:TE}{t:TA}
def aZK{pins:List (Addr×Obj)}{σ:St}{H:Hp}{s:bYK}{Q:VK}{us:List bYH}{vs:List V}(F:xD X.prog X.w X.K X.mg X.base CX k f fd ps sp)(d:vP k X.A)(j:vW X.K fd ps ds)(i:xW dvs ds)(g:vJ CX X E) (I:Inv X pins σ H s) (r:xW vs us) (h:sp (vs++dvs) H Q E):bYP (bYR X.prog X.w) X.A (call (.ref f) us) (EP X pins σ Q) X.xe s:=by
 have b:xW (vs++dvs) (us++ds):=r.append i;have hl:(us++ds).length=ps.length:=by rw[<- b.length];exact F.len _ _ _ _ h
 refine cZU (cXB (F.run X.A X.stack s H ⟨us,[]⟩ (us++ds) (vs++dvs) Q E d I.env0 (j s us I.kIn hl) b h) λr s' a=>?_);cases r with
 |error e=>exact g pins σ H s e s' I a
 |ok c=>
  cases c with
  |ret u=>exact I.after a
  |next=>exact cXc a
  |brk=>exact cXc a
  |cont=>exact cXc a
def aYw(F:xD X.prog X.w X.K X.mg X.base CX k f fd ps sp)(c:vP k X.A)(i:Gl X x)(o:X.mg x=some (.ref f))(l:cQD X.K (.ref f)=true)(n:vW X.K fd ps ds)(j:xW dvs ds)(d:vJ CX X E)
  (m:PA X (e::es) t) (b:(x==("__debug__":Str))=false:=by decide) (g:cQk (e::es) X.env=(false,eval e X.env)::cQk es X.env:=by rfl) (a:(cXk pos (cQk es X.env)).any (·.1)=false:=by rfl):
  PE X (.Call (.Name x p) (e::es) [] pos) (bZq sp dvs E t):=by
 intro pins s σ H Q I h
 refine cXl (uO I i o ?_ b)
 refine cZz (h₀:=X.base) I.ok.mod.kin l (thn (m pos pins s σ H _ I h) λus s1 ⟨vs,H1,I1,r,q⟩=>⟨I1.kIn,?_⟩) g a
 exact aZK F c n j d I1 r q
def bVg{pl:Sem Bool}(p:PE X o ta)(c:Cls X.K C)(g:bV7 X.K C m f)(F:xD X.prog X.w X.K X.mg X.base CX k f fd ps sp)(j:vP k X.A)(z:vW X.K fd ps ds)(v:xW dvs ds)(n:vJ CX X E)(y:PA X (e::es) t)
  (d:cQk (e::es) X.env=(false,eval e X.env)::cQk es X.env:=by rfl) (b:(cXk pos (cQk es X.env)).any (·.1)=false:=by rfl)
  (i:eval (.Call (.Attribute o m apos) (e::es) [] pos) X.env=(do
   let ov <- eval o X.env
   standAt apos.atName
   let (f,first) <- cZ1 [ov] (cZ9 ov m pl)
   callWith pos f first (cXk pos (cQk (e::es) X.env)) (cZT pos (cX3 [] X.env))):=by rfl):
  PE X (.Call (.Attribute o m apos) (e::es) [] pos) (bZt C m sp dvs E ta t):=by
 intro pins s σ H Q I h
 refine cZL (pl:=pl) (thn (p pins s σ H _ I h) λu s1 ⟨x,H1,I1,rx,a,dx,fs,ex,ea,l,q⟩=>?_) i
 subst ex
 obtain rfl:u=Value.ref a:=rx
 refine Y4 I1 ea c g l ?_
 refine cZz (first:= [.ref a]) (h₀:=X.base) I.ok.mod.kin g.kp (thn (y pos pins s1 σ H1 _ I1 q) λus s2 ⟨vs,H2,I2,r,q2⟩=>⟨I2.kIn,?_⟩) d b
 exact aZK (us:= .ref a::us) (vs:= .ref a::vs) F j z v n I2 (.cons rfl r) q2
def bXO{pl:Sem Bool}(j:PE X o ta)(c:Cls X.K C)(b:bV7 X.K C m f)(F:xD X.prog X.w X.K X.mg X.base CX k f fd ps sp)(d:vP k X.A)(n:vW X.K fd ps ds)(g:xW dvs ds)(i:vJ CX X E)
  (e:eval (.Call (.Attribute o m apos) [] [] pos) X.env=(do
   let ov <- eval o X.env
   standAt apos.atName
   let (f,first) <- cZ1 [ov] (cZ9 ov m pl)
   callWith pos f first (cXk pos (cQk [] X.env)) (cZT pos (cX3 [] X.env))):=by rfl):
  PE X (.Call (.Attribute o m apos) [] [] pos) (bZt C m sp dvs E ta bZu):=by
 intro pins s σ H Q I h
 refine cZL (pl:=pl) (thn (j pins s σ H _ I h) λu s1 ⟨x,H1,I1,rx,a,dx,fs,ex,ea,l,q⟩=>?_) e
 subst ex
 obtain rfl:u=Value.ref a:=rx
 refine Y4 I1 ea c b l ?_
 exact cJD (first:= [.ref a]) I1.kIn b.kp (aZK (us:= [.ref a]) (vs:= [.ref a]) F d n g i I1 (.cons rfl .nil) q)
structure Mk(K:bYI)(C f:Addr):Prop where
 makes:PySem.W.makesIn K C=true
 init:cQs K (.ref C) "__init__"=some (some (.ref f))
 fn:cZn K (.ref f)=true
 kp:cQD K (.ref C)=true
def aVC{pins:List (Addr×Obj)}{σ:St}{H:Hp}{s:bYK}{Q:VK}{us:List bYH}{vs:List V}(M:Mk X.K C f)(F:xD X.prog X.w X.K X.mg X.base CX k f fd ps sp)(j:vP (k+1) X.A)(q:vW X.K fd ps ds)(n:xW dvs ds) (l:vJ CX X E) (I:Inv X pins σ H s) (r:xW vs us) (h:∀x dx,H x=none->H dx=none->dx≠x->sp (.ref x::(vs++dvs)) (upd (upd H dx (.own x)) x (.ins C dx [])) (λv H2=>v= .non/\Q (.ref x) H2) E): bYP (bYR X.prog X.w) X.A (call (.ref C) us) (EP X pins σ Q) X.xe s:=by
 have d:=h (s.heap.objs.size+1) s.heap.objs.size (I.hok.fresh (cXP _)) (I.hok.fresh (bYO _)) (bY7 (cXz _));have b:=Inv.made (C:=C) I;have c:xW (V.ref (s.heap.objs.size+1)::(vs++dvs)) (Value.ref (s.heap.objs.size+1)::(us++ds)):= .cons rfl (r.append n);have hl:(Value.ref (s.heap.objs.size+1)::us++ds).length=ps.length:=by have e:=c.length;rw[F.len _ _ _ _ d]at e;exact e.symm
 refine cZU (bXi (f:=f) I.kIn M.makes M.init (beq_iff_eq.mp M.fn) (cXB (F.run _ X.stack _ _ ⟨Value.ref (s.heap.objs.size+1)::us,[]⟩ (Value.ref (s.heap.objs.size+1)::(us++ds)) _ _ E (j.make C us []) (b.env0.make C us []) (q _ (Value.ref (s.heap.objs.size+1)::us) b.kIn hl) c d) λr s' a=>?_));cases r with
 |error e=>exact l pins σ _ _ e s' b a
 |ok g=>
  cases g with
  |ret u=>obtain⟨v,H',o,m,p,i⟩:=b.after a;subst p;exact⟨m,⟨V.ref (s.heap.objs.size+1),H',o,rfl,i⟩⟩
  |next=>exact cXc a
  |brk=>exact cXc a
  |cont=>exact cXc a
def bVf(M:Mk X.K C f)(F:xD X.prog X.w X.K X.mg X.base CX k f fd ps sp)(c:vP (k+1) X.A)(i:Gl X x)(n:X.mg x=some (.ref C))(m:vW X.K fd ps ds)(j:xW dvs ds)(d:vJ CX X E)
  (l:PA X (e::es) t) (b:(x==("__debug__":Str))=false:=by decide) (g:cQk (e::es) X.env=(false,eval e X.env)::cQk es X.env:=by rfl) (a:(cXk pos (cQk es X.env)).any (·.1)=false:=by rfl):
  PE X (.Call (.Name x p) (e::es) [] pos) (bZs C sp dvs E t):=by
 intro pins s σ H Q I h
 refine cXl (uO I i n ?_ b)
 refine cZz (h₀:=X.base) I.ok.mod.kin M.kp (thn (l pos pins s σ H _ I h) λus s1 ⟨vs,H1,I1,r,q⟩=>⟨I1.kIn,?_⟩) g a
 exact aVC M F c m j d I1 r q
def bXN(M:Mk X.K C f)(F:xD X.prog X.w X.K X.mg X.base CX k f fd ps sp)(b:vP (k+1) X.A)(e:Gl X x)(i:X.mg x=some (.ref C))(g:vW X.K fd ps ds)(c:xW dvs ds)(d:vJ CX X E) (a:(x==("__debug__":Str))=false:=by decide):PE X (.Call (.Name x p) [] [] pos) (bZs C sp dvs E bZu):=by
 intro pins s σ H Q I h;refine cXl (uO I e i ?_ a);exact cJD I.kIn M.kp (aVC (us:= []) M F b g c d I .nil h)
end
section
variable {X:Cx}{CX:CXT}{k:Nat}{f C:Addr}{fd:cXG}{ps ks:List Str}{sp:Sp}{E:XK}{x m:Str}{p pos apos kpos:Pos}{e o:Expr}{es:List Expr}{kws:List Keyword}{te ta:TE}{t tk:TA}{nm:Option Str}
variable {g:List bYH->List bYH->List bYH}{gV:List V->List V->List V}
end
structure yO(N P:List Str)(sc:cXV):Prop where
 kind:sc.kind= .function
 co:sc.isCoroutine=false
 gen:sc.isGenerator=false
 nd:N.Nodup
 pre:N.take P.length=P
 par:∀x∈P,sc.names.lookup x=some .local\/sc.names.lookup x=some .cell
 nofree:∀y∈sc.names,y.2≠ .free
def aZb{a:Str->Option cZF}{x:Str}:∀ {binds:List (Str×bYH)} {m:Str->Option bYH},(∀v,(x,v)∉binds)->bindL a binds m x=m x
 |[],_,_=>rfl
 |(n,v)::r,m,h=>by
  unfold bindL;rw[aZb λw hw=>h w (bYT _ hw)];split
  ·have:x≠n:=by rintro rfl;exact h v bYW
   simp[this]
  ·rfl
def aX9{a:Str->Option cZF}{x:Str}:∀ {binds:List (Str×bYH)} {m:Str->Option bYH},(∀v,(x,v)∉binds)->bindC a binds m x=m x
 |[],_,_=>rfl
 |(n,v)::r,m,h=>by
  unfold bindC;rw[aX9 λw hw=>h w (bYT _ hw)];split
  ·rfl
  ·have:x≠n:=by rintro rfl;exact h v bYW
   simp[this]
def aZa{a:Str->Option cZF}{x:Str}{v:bYH}:∀ {P:List Str} {vs:List bYH} {i:Nat} {m:Str->Option bYH},P.Nodup->P[i]? =some x->vs[i]? =some v->a x=some .local->
  bindL a (P.zip vs) m x=some v
 |[],_,_,_,_,h,_,_=>by simp at h
 |_::_,[],_,_,_,_,h,_=>by simp at h
 |p::P,w::vs,0,m,nd,h1,h2,hk=>by simp at h1 h2;subst h1;subst h2;show bindL a ((p,w)::P.zip vs) m p=_;unfold bindL;rw[aZb λv b=>(cXJ.mp nd).1 (List.of_mem_zip b).1,if_pos hk];simp
 |p::P,w::vs,i+1,m,nd,h1,h2,hk=>by show bindL a ((p,w)::P.zip vs) m x=_;unfold bindL;exact aZa (i:=i) (cXJ.mp nd).2 (by simpa using h1) (by simpa using h2) hk
def aX8{a:Str->Option cZF}{x:Str}{v:bYH}:∀ {P:List Str} {vs:List bYH} {i:Nat} {m:Str->Option bYH},P.Nodup->P[i]? =some x->vs[i]? =some v->a x≠some .local->
  bindC a (P.zip vs) m x=some v
 |[],_,_,_,_,h,_,_=>by simp at h
 |_::_,[],_,_,_,_,h,_=>by simp at h
 |p::P,w::vs,0,m,nd,h1,h2,hk=>by simp at h1 h2;subst h1;subst h2;show bindC a ((p,w)::P.zip vs) m p=_;unfold bindC;rw[aX9 λv b=>(cXJ.mp nd).1 (List.of_mem_zip b).1,if_neg hk];simp
 |p::P,w::vs,i+1,m,nd,h1,h2,hk=>by show bindC a ((p,w)::P.zip vs) m x=_;unfold bindC;exact aX8 (i:=i) (cXJ.mp nd).2 (by simpa using h1) (by simpa using h2) hk
def start(N:List Str)(vs:List V):St:=vs.map some++cZg (N.length - vs.length) none
def aXs(CX:CXT)(P:bY4)(w:cQa)(K:bYI)(mg:Str->Option bYH)(base:Heap)(N:List Str)(qual:Str)(scope:cXV)(f:Addr)(cd:bYH)(A:cQl)(outer:List Env)(s:bYK)(H:Hp)(E:XK):Cx where
 prog:=P
 w:=w
 K:=K
 mg:=mg
 base:=base
 A:=A.deeper (cXF qual scope s.heap.objs.size f cd)
 N:=N
 s₀:=s
 H₀:=H
 env:=cXF qual scope s.heap.objs.size f cd
 outer:=outer
 stack:=cXF qual scope s.heap.objs.size f cd::outer
 ex:= []
 calm:=true
 fn:=λ_=>true
 pn:= []
 xe:=λe s'=>bYP (bYR P w) (A.deeper (cXF qual scope s.heap.objs.size f cd)) (leaving (cXF qual scope s.heap.objs.size f cd) e) (λ_ s''=>CX outer H s E e s'') (λe' s''=>CX outer H s E e' s'') s'
def aVh{a:cXV}{n:Nat}{x:Str}(h:a.names.lookup x=some .cell):∃c,(cellsFrom n a.names []).lookup x=some c:=by
 have q:=PySem.W.cellsFrom_some a.names n [] (.inl h);exact Option.isSome_iff_exists.mp q
def aKP{CX:CXT}{P:bY4}{w:cQa}{K:bYI}{mg:Str->Option bYH}{base:Heap}{N ps:List Str}{qual:Str}{scope:cXV}{f:Addr}{o:bYH}{A:cQl}{outer:List Env}{s t:bYK}{H:Hp}{E:XK}{us:List bYH}{vs:List V} (S:yO N ps scope) (G:A.handled=none) (d:bJm P w K mg base A outer s H) (hl:vs.length=ps.length) (r:xW vs us) (x:InCallC s s.heap.objs.size (bindL (cXF qual scope s.heap.objs.size f o).kindOf (ps.zip us) λ_=>none) (cellsFrom (s.heap.objs.size+1) scope.names []) (bindC (cXF qual scope s.heap.objs.size f o).kindOf (ps.zip us) λ_=>none) t): Inv (aXs CX P w K mg base N qual scope f o A outer s H E) [] (start N vs) H t:=by
 have D:ps.length<=N.length:=by have:=congrArg cZe S.pre;rw[cQV]at this;omega
 obtain⟨h1,tk,rfl,C⟩:=x.done;have j:∀b:Addr,b∉(aXs CX P w K mg base N qual scope f o A outer s H E).ex:=λb z=>absurd (show b∈([]:List Addr)from z) (by simp);refine⟨⟨d.mod,S.kind,rfl,rfl,bYO _,λy z c h1 h2=>?_,λy g=>?_,λy c _ h=>?_,λ_=>G,Around.frames_deeper d.frames,.inr ⟨rfl,rfl⟩,λb z=>absurd z (j b),d.bs,d.bsz,λb _ _=>j b,λb z=>absurd z (j b),d.funs,d.frf⟩,rfl,d.bare,Un.kept C,⟨_,x.toInCall.ns,λi y v h1 h2 J=>?_⟩,λy c h=>⟨_,x.cell y c h⟩,d.hok.fresh (bYO _),λy c h=>?_,λp l=>absurd (show p∈([]:List (Addr×Obj))from l) (by simp),d.hok.kept C,?_⟩
 ·exact name_of_addr x.apart (cXa h1) (cXa h2)
 ·have g:scope.names.lookup y=some .cell\/scope.names.lookup y=some .free:=g;rcases g with g|g
  ·exact aVh g
  ·exact absurd rfl (S.nofree _ (cXa g))
 ·exact cZl (x.above y c (cXa h))
 ·have hi:i<vs.length:=by
   unfold start at h2;by_cases hi:i<vs.length
   ·exact hi
   ·rw[bY2 (by simpa using hi)]at h2;rw[List.getElem?_replicate]at h2;split at h2<;> cases h2
  have I:vs[i]? =some v:=by
   unfold start at h2;rw[cQd (by simpa using hi),bY1]at h2;cases e:vs[i]? with
   |none=>rw[e]at h2;cases h2
   |some a=>rw[e]at h2;cases h2;rfl
  obtain⟨u,B,F⟩:=r.get I;have l:ps[i]? =some y:=by rw[<- S.pre,List.getElem?_take_of_lt (by omega)];exact h1
  have m:ps.Nodup:=by rw[<- S.pre];exact S.nd.sublist (List.take_sublist _ _)
  refine⟨u,F,?_⟩;rcases S.par y (bY0 l)with k|k
  ·exact .inl ⟨k,aZa m l B k⟩
  ·obtain⟨c,e⟩:=aVh (n:=s.heap.objs.size+1) k;refine .inr ⟨.inl k,c,e,?_⟩;have q:=x.cell y c e;rw[aX8 m l B (by show scope.names.lookup y≠_;rw[k];decide)]at q;exact q
 ·exact d.hok.fresh (cZl (x.above y c (cXa h)))
 ·unfold start;show _=N.length;rw[bY5,bYL,List.length_replicate];omega
def bJD{CX:CXT}{P:bY4}{w:cQa}{K:bYI}{mg:Str->Option bYH}{base:Heap}{k:Nat}{f:Addr}{name qual:Str}{c:Arguments}{body:List Stmt}{scope:cXV}{O kV m M a ct U:bYH}{L Y:Option Addr} {p:Array (Option bYH)} {N ps:List Str} {sp:Sp} (lk:K.lookup f=some ⟨U,Y,.func (cQK name qual c body scope O kV m M L a ct),p⟩) (D:cXp K a qual=true) (S:yO N ps scope) (len:∀vs H Q E,sp vs H Q E->vs.length=ps.length) (h:∀ (A:cQl)(outer:List Env)(s:bYK)(H:Hp)(vs:List V)(Q:VK)(E:XK),vP k (A.deeper (cXF qual scope s.heap.objs.size f a))->sp vs H Q E-> ∃t,PSs (aXs CX P w K mg base N qual scope f a A outer s H E) body t/\t {nx:=λ_ H'=>Q .non H',rt:=Q} (start N vs) H): xD P w K mg base CX (k+1) f (cQK name qual c body scope O kV m M L a ct) ps sp:=by
 refine⟨len,λA outer s H args us vs Q E z l hb r j=>?_⟩;have hl:=len _ _ _ _ j;have G:K.In s.heap:=l.mod.kin.keeps λb o e=>(l.bs b o e).1;have C:s.heap.NoLimit:=l.mod.nolimit.keeps λb o e=>(l.bs b o e).1;have g:∀y∈ps.zip us,scope.names.lookup y.1=some .local\/(scope.names.lookup y.1=some .cell/\((cellsFrom (s.heap.objs.size+1) scope.names []).lookup y.1).isSome=true):=λ⟨n,v⟩ hy=>by
  rcases S.par n (List.of_mem_zip hy).1 with q|q
  ·exact .inl q
  ·exact .inr ⟨q,PySem.W.cellsFrom_some _ _ _ (.inl q)⟩
 refine codeAny_call_function z.depth (G _ _ lk) rfl S.co S.gen rfl (PySem.W.codeRec_of G D) (hb _ _ _ _ ?_);refine wpAny_newFunctionEnv_cells S.kind g λenv X F x=>?_;subst X;refine⟨C.keeps x.toInCall.keep,codeAny_func ?_⟩;obtain⟨t,T,Z⟩:=h A outer s H vs Q E (z.deeper _) j;have I:Inv (aXs CX P w K mg base N qual scope f a A outer s H E) [] (start N vs) H F:=aKP S z.hd l hl r x;refine cQJ (T [] F (start N vs) H _ I Z) (λR s' i=>?_) λe s' i=>i;have fin:∀ {d:St} {H':Hp} {v:V} {u:bYH},Inv (aXs CX P w K mg base N qual scope f a A outer s H E) [] d H' s'->zJ v u->Q v H'->CE outer P w H s Q u s':=
  λ{d H' v u} J B q=>⟨v,H',J.os,J.bare,J.base,J.hok,B,q⟩
 cases R with
 |ret u=>obtain⟨v,d,H',J,B,q⟩:=i;exact fin J B q
 |next=>obtain⟨d,H',J,q⟩:=i;exact fin (v:=V.non) (u:=Value.none) J rfl q
 |brk=>obtain⟨_,_,_,q⟩:=i;exact cXc q
 |cont=>obtain⟨_,_,_,q⟩:=i;exact cXc q
end L2
namespace L2
open PySem PySem.Spec PyProof.Rows
section
variable {X:Cx}{x:Str}{p pos:Pos}{e:Expr}{es:List Expr}{t:TA}{id T:String}{r:List V->Hp->VK->Prop}
def tCB(r:List V->Hp->VK->Prop)(t:TA):TE:=λσ H Q=>t σ H λa H1=>r a H1 Q
def yT(f:jQ X (.builtin id) r)(j:Gl X x)(k:X.mg x=none)(c:cQq x=some (.builtin id))(g:PA X (e::es) t)(d:x≠"__name__":=by decide)(b:(x==("__debug__":Str))=false:=by decide)
  (i:cQk (e::es) X.env=(false,eval e X.env)::cQk es X.env:=by rfl) (a:(cXk pos (cQk es X.env)).any (·.1)=false:=by rfl):PE X (.Call (.Name x p) (e::es) [] pos) (tCB r t):=by
 intro pins s σ H Q I h
 refine cXl (aXd I j k c ?_ d b)
 exact PyProof.Rows.callWith_builtin1 (thn (g pos pins s σ H _ I h) λus s1 ⟨vs,H1,I1,r1,q1⟩=>f pins s1 σ H1 vs us Q I1 r1 q1) i a
def x8(f:jQ X (.type T) r)(j:Gl X x)(k:X.mg x=none)(c:cQq x=some (.type T))(g:PA X (e::es) t)(d:x≠"__name__":=by decide)(b:(x==("__debug__":Str))=false:=by decide)
  (i:cQk (e::es) X.env=(false,eval e X.env)::cQk es X.env:=by rfl) (a:(cXk pos (cQk es X.env)).any (·.1)=false:=by rfl):PE X (.Call (.Name x p) (e::es) [] pos) (tCB r t):=by
 intro pins s σ H Q I h
 refine cXl (aXd I j k c ?_ d b)
 exact cZN (thn (g pos pins s σ H _ I h) λus s1 ⟨vs,H1,I1,r1,q1⟩=>f pins s1 σ H1 vs us Q I1 r1 q1) i a
end
end L2
namespace HT
open PySem PyProof.Rows
def bXS(A:cQl)(s:bYK)(a:Int)(t:Tok)(c:Int)(u:Tok)(prog:bY4)(w:cQa)(E:bYH->bYK->Prop)(Q:bYH->bYK->Prop)(h:Q (.bool (decide (a<c))) s): bYP (bYR prog w) A (richCompare .Lt (.int a t) (.int c u)) Q E s:=
 (PyProof.Rows.lt_int h:bYP (bYR prog w) A (cXb .Lt (.int a t) (.int c u)) Q E s)
section
open PySem.SeqAt
open PySem.AutoSeq1 (wpAny_loadPart')
open PySem.MeetsSeq PySem.MeetsSeq2 PySem.MeetsSeq3
end
section
variable {prog:bY4}{w:cQa}{A:cQl}{E:bYH->bYK->Prop}{s:bYK}
def bJt{t b:Addr}{vs a:List bYH}{Q:bYH->bYK->Prop}(v:cZG s.heap t vs.toArray)(x:cZG s.heap b a.toArray)(m:vs≠ []) (h1:a= []->Q (.ref t) s) (h2:a≠ []->Q (.ref s.heap.objs.size) {s with heap:=s.heap.push {cls:= .type "tuple",data:= .seq (vs++a).toArray} }) (k:vs.length+a.length<=bY8):bYP (bYR prog w) A (cZp .Add (.ref t) (.ref b)) Q E s:=by
 obtain⟨⟨cls,u,data,l⟩,i,q,n,p⟩:=id v;obtain⟨⟨r,g,j,f⟩,c,h,o,d⟩:=id x;simp only at q p h d;subst q p h d;have e:vs.toArray++a.toArray=(vs++a).toArray:=by simp
 by_cases hw:a= []
 ·exact concat_meets ⟨_,i,rfl⟩ ⟨_,c,rfl⟩ noFill_tuple_add seq_tuple_add PySem.F.slot_tuple_add PySem.F.entry_tuple_add (cJ6 _ _)
   (tuple_addW1 t b vs.toArray a.toArray n o u g l f (by simpa using m) (by simp[hw])) ⟨i,c,h1 hw⟩
 ·refine concat_meets ⟨_,i,rfl⟩ ⟨_,c,rfl⟩ noFill_tuple_add seq_tuple_add PySem.F.slot_tuple_add PySem.F.entry_tuple_add (cJ6 _ _)
   (tuple_addW2 t b vs.toArray a.toArray n o u g l f (by simpa using m) (by simpa using hw) (by rw[bYZ,bYZ];exact k)) ⟨i,c,?_⟩
  rw[e];exact h2 hw
def sIx(n d:Nat):Option Int->Nat
 |none=>d
 |some v=>if v<0 then(v+(n:Int)).toNat else min v.toNat n
def bXW(n d:Nat):sIx n d none=d:=rfl
end
end HT
namespace L2
open PySem PySem.Spec PyProof.Rows
abbrev TO:=St->Hp->(Option Int->Hp->Prop)->Prop
def PO(X:Cx)(e:Option Expr)(t:TO):Prop:=
 ∀ (pins:List (Addr×Obj))(s:bYK)(σ:St)(H:Hp)(Q:Option Int->Hp->Prop),Inv X pins σ H s->t σ H Q->
  bYP (bYR X.prog X.w) X.A (evalPart e X.env) (λu s'=>∃o H',Inv X pins σ H' s'/\IsPart u o/\Q o H') X.xe s
def bV0:TO:=λ_ H Q=>Q none H
inductive bKj(Q:Option Int->Hp->Prop)(x:V)(H1:Hp):Prop|mk (i) (_:x= .int i) (_:Q (some i) H1)
def bK7(t:TE):TO:=λσ H Q=>t σ H λx H1=>bKj Q x H1
def aXb{a:List Int}:∀ {us:List bYH},xW (a.map V.int) us->cZf us a:=by
 induction a with
 |nil=>intro us r;rw[List.map_nil]at r;cases r;exact .nil
 |cons n a d=>
  intro us r;rw[cQx]at r;cases r with
  |cons b c=>obtain⟨t,e⟩:=b;subst e;exact .cons n t (d c)
section
variable {X:Cx}{e:Expr}{te:TE}{lo hi:Option Expr}{tl th:TO}{pos p2:Pos}
def aJI:PO X none bV0:=by
 intro pins s σ H Q I h;rw[evalPart_none];exact bYN ⟨none,H,I,.none,h⟩
def aJJ(h:PE X e te):PO X (some e) (bK7 te):=by
 intro pins s σ H Q I hw;rw[evalPart_some];refine thn (h pins s σ H _ I hw) λu s1 ⟨x,H1,I1,r1,q1⟩=>?_;obtain⟨i,rfl,q⟩:=q1;obtain⟨t,rfl⟩:=r1;exact⟨some i,H1,I1,.int i t,q⟩
def SlR(X:Cx)(r:V->Option Int->Option Int->Hp->VK->Prop):Prop:=
 ∀ (pins:List (Addr×Obj))(s:bYK)(σ:St)(H:Hp)(x:V)(v b c:bYH)(lo hi:Option Int)(a:Addr)(Q:VK),Inv X pins σ H s->zJ x v->s.heap.IsSliceOf a b c .none->IsPart b lo->IsPart c hi->r x lo hi H Q->
  ∃T id,typeLookup (.type T) "__getitem__"=pure (some (.builtin id))/\s.TypeIs v T/\bYP (bYR X.prog X.w) X.A (getItem v (.ref a)) (EP X pins σ Q) X.xe s
def tSl(r:V->Option Int->Option Int->Hp->VK->Prop)(te:TE)(tl th:TO):TE:=λσ H Q=>te σ H λx H1=>tl σ H1 λl H2=>th σ H2 λu a=>r x l u a Q
def aXE{r:V->Option Int->Option Int->Hp->VK->Prop}(d:SlR X r)(f:PE X e te)(hl:PO X lo tl)(i:PO X hi th):PE X (.Subscript e (.Slice lo hi none p2) pos) (tSl r te tl th):=by
 intro pins s σ H Q I h;refine Subscript_ (thn (f pins s σ H _ I h) λv s1 ⟨x,H1,I1,r1,q1⟩=>?_);refine wpAny_Slice (thn (hl pins s1 σ H1 _ I1 q1) λvl s2 ⟨l,H2,I2,pl,q2⟩=>thn (i pins s2 σ H2 _ I2 q2) λvu s3 ⟨u,H3,I3,pu,q3⟩=>?_);rw[evalPart_none];refine bYN ?_;have j:Inv X pins σ H3 {s3 with heap:=s3.heap.push {cls:= .type "slice",data:= .fields #[vl,vu,.none] } }:=I3.kept (t':=s3.toks) λb k q=>bYM _ q;obtain⟨T,id,a,c,g⟩:=d pins {s3 with heap:=s3.heap.push {cls:= .type "slice",data:= .fields #[vl,vu,.none] } } σ H3 x v vl vu l u s3.heap.objs.size Q j r1 (Heap.IsSliceOf.new ..) pl pu q3;show bYP (bYR X.prog X.w) X.A (subscriptTail e (.Slice lo hi none p2) v (.ref s3.heap.objs.size)) (EP X pins σ Q) X.xe {s3 with heap:=s3.heap.push {cls:= .type "slice",data:= .fields #[vl,vu,.none] } };exact tail_any (ops:= [.ref s3.heap.objs.size,v]) c a g (by with_unfolding_all rfl)
def aXr(xs:List V)(lo hi:Option Int):List V:=(xs.drop (HT.sIx xs.length 0 lo)).take (HT.sIx xs.length xs.length hi - HT.sIx xs.length 0 lo)
def aJf(xs:List V)(lo hi:Option Int):(aXr xs lo hi).length<=xs.length:=by
 unfold aXr;rw[cQV,List.length_drop];omega
inductive bKR(K:bYI)(x:V)(y:V)(H:Hp)(Q:VK):Prop|mk (a b xs ys) (_:x= .ref a) (_:y= .ref b) (_:SqT K H a xs) (_:SqT K H b ys) (_:xs≠ []) (_:xs.length+ys.length<=bY8) (_:(ys= []->Q (.ref a) H)) (_:(ys≠ []->∀p,H p=none->Q (.ref p) (upd H p (.tup (xs++ys)))))
def xW.nil_iff{xs:List V}{us:List bYH}(r:xW xs us):us= []↔xs= []:=by
 cases r with
 |nil=>simp
 |cons _ _=>simp
def bVc:OpR X (cZp .Add) (bKR X.K):=by
 intro pins s σ H x y v u Q I l j h;obtain⟨a,b,xs,ys,rfl,rfl,n,r,k,f,g,m⟩:=h;cases l;cases j;obtain⟨p,d,i,_⟩:=I.tuple n;obtain⟨e,c,p2,_⟩:=I.tuple r;refine HT.bJt i p2 (λz=>k (d.nil_iff.mp z)) (λz=>⟨.ref a,H,I,rfl,g (c.nil_iff.mp z)⟩) (λz=>?_) (by rw[<- d.length,<- c.length];exact f);refine⟨.ref s.heap.objs.size,_,I.laid (t':=s.toks) (o:= .tup (xs++ys)) (λb t q=>bYM _ q) (bYO _) ?_,rfl,m (λw=>z (c.nil_iff.mpr w)) _ (I.hok.fresh (bYO _))⟩;exact⟨by rw[bY5];exact f,_,d.append c,IsTup.new _ _⟩
end
end L2
namespace L2
open PySem PySem.Spec PyProof.Rows
def ixN(n:Nat)(i:Int):Option Nat:=if 0<=i then(if i<n then some i.toNat else none)else if -(n:Int)<=i then some (i+n).toNat else none
def atI{α:Type}(xs:List α)(i:Int):Option α:=(ixN xs.length i).bind λj=>xs[j]?
def aKR{n:Nat}{i:Int}{j:Nat}(h:ixN n i=some j):seqIndex? i n=some j/\j<n/\ -(n:Int)<=i/\i<n:=by
 unfold ixN at h;by_cases h0:0<=i
 ·rw[if_pos h0]at h;by_cases h1:i<n
  ·rw[if_pos h1]at h;have e:i.toNat=j:=bY3 h;exact⟨by rw[seqIndex_of h0 h1,e],by omega,by omega,h1⟩
  ·rw[if_neg h1]at h;cases h
 ·rw[if_neg h0]at h;by_cases h1: -(n:Int)<=i
  ·rw[if_pos h1]at h;have e:(i+n).toNat=j:=bY3 h;exact⟨by rw[seqIndex_neg (by omega) h1,e],by omega,h1,by omega⟩
  ·rw[if_neg h1]at h;cases h
def aZ7{α:Type}{xs:List α}{i:Int}{v:α}(h:atI xs i=some v):∃j,seqIndex? i xs.length=some j/\xs[j]? =some v/\j<xs.length/\ -(xs.length:Int)<=i/\i<xs.length:=by
 unfold atI at h;cases e:ixN xs.length i with
 |none=>rw[e]at h;cases h
 |some j=>rw[e]at h;obtain⟨h1,h2,b,a⟩:=aKR e;exact⟨j,h1,h,h2,b,a⟩
def yR{α:Type}{xs:List α}{j:Nat}{v:α}(h:xs[j]? =some v):atI xs (j:Int)=some v:=by
 have a:j<xs.length:=(bYS.mp h).1;have e:ixN xs.length (j:Int)=some j:=by unfold ixN;rw[if_pos (by omega),if_pos (by omega)];simp
 unfold atI;rw[e];exact h
def bJr(b:Expr):Prop:=∀o i,subscripted b false o i=operate [o,i] (getItem o i)
def IxR(X:Cx)(r:R2):Prop:=
 ∀ (value a:Expr)(pins:List (Addr×Obj))(s:bYK)(σ:St)(H:Hp)(x y:V)(v u:bYH)(Q:VK),Inv X pins σ H s->zJ x v->zJ y u->r x y H Q->
  subscripted a false v u=operate [v,u] (getItem v u)->bYP (bYR X.prog X.w) X.A (subscriptTail value a v u) (EP X pins σ Q) X.xe s
def MtR(X:Cx)(id:String)(r:V->List V->Hp->VK->Prop):Prop:=
 ∀ (pins:List (Addr×Obj))(s:bYK)(σ:St)(H:Hp)(x:V)(xs:List V)(v:bYH)(a:List bYH)(Q:VK),Inv X pins σ H s->zJ x v->xW xs a->r x xs H Q->
  bYP (bYR X.prog X.w) X.A (call (.builtin id) (v::a)) (EP X pins σ Q) X.xe s
section
variable {X:Cx}{a b:Expr}{ta tb:TE}{pos:Pos}
def IxR.or{r b:R2}(h:IxR X r)(h':IxR X b):IxR X (λx y H Q=>r x y H Q\/b x y H Q):=by
 intro value a pins s σ H x y v u Q I d c q e;rcases q with q|q
 ·exact h value a pins s σ H x y v u Q I d c q e
 ·exact h' value a pins s σ H x y v u Q I d c q e
def yL{r:R2}(e:IxR X r)(j:PE X a ta)(k:PE X b tb)(i:bJr b:=by exact λ_ _=>rfl):PE X (.Subscript a b pos) (tOp r ta tb):=by
 intro pins s σ H Q I h;exact Subscript_ (bKI j k I h λv u c x y H2 d g f q=>e a b pins c σ H2 x y v u Q d g f q (i _ _))
inductive bV8(K:bYI)(x:V)(y:V)(H:Hp)(Q:VK):Prop|mk (p xs i v) (_:x= .ref p) (_:y= .int i) (_:SqL K H p xs) (_:atI xs i=some v) (_:Q v H)
inductive bKS(K:bYI)(x:V)(y:V)(H:Hp)(Q:VK):Prop|mk (p xs i v) (_:x= .ref p) (_:y= .int i) (_:SqT K H p xs) (_:atI xs i=some v) (_:Q v H)
inductive bYg(x:V)(y:V)(H:Hp)(Q:VK):Prop|mk (z i c) (_:x= .str z) (_:y= .int i) (_:z.length<=bY8) (_:atI z.cps.toList i=some c) (_:Q (.str ⟨#[c]⟩) H)
def yK:IxR X (bV8 X.K):=by
 intro value c pins s σ H x y v u Q I o l h g;obtain⟨p,xs,i,z,rfl,rfl,A,n,q⟩:=h;cases o;obtain⟨t,rfl⟩:=l;obtain⟨e,r,d,D⟩:=I.list A;obtain⟨j,h1,h2,C,k,m⟩:=aZ7 n;obtain⟨w,f,b⟩:=r.get h2;have hl:=r.length;have B:=aZx;have fin:EP X pins σ Q w s:=⟨z,H,I,b,q⟩;by_cases h0:0<=i
 ·have a:i.toNat=j:=by
   rw[seqIndex_of h0 m]at h1;exact bY3 h1
  exact item_listR d.isList h0 (by omega) (by rw[a];simpa using f) fin g
 ·have a:(i+(e.toArray.size:Int)).toNat=j:=by
   rw[seqIndex_neg (by omega) k]at h1;rw[bYZ,<- hl];exact bY3 h1
  exact subscriptTail_builtinR (x:=w) d.isList.typeIs slot_list_getitem.lookup
   (wpAny_getItem_list_neg (Q:=λr s'=>r=w/\EP X pins σ Q r s') d.isList (by omega) (by rw[bYZ]<;> omega) (by omega) (by rw[a];simpa using f) ⟨rfl,fin⟩) g
def yX:IxR X (bKS X.K):=by
 intro value b pins s σ H x y v u Q I f d h l;obtain⟨p,xs,i,z,rfl,rfl,k,e,q⟩:=h;cases f;obtain⟨t,rfl⟩:=d;obtain⟨m,r,c,C⟩:=I.tuple k;obtain⟨j,h1,h2,B,n,o⟩:=aZ7 e;obtain⟨w,g,a⟩:=r.get h2;have hl:=r.length;have A:=aZx;have fin:EP X pins σ Q w s:=⟨z,H,I,a,q⟩;exact subscriptTail_builtinR (x:=w) c.typeIs slot_tuple_getitem.lookup
  (getItem_tuple (j:=j) (Q:=λr s'=>r=w/\EP X pins σ Q r s') c (by omega) (by omega) (by rw[bYZ,<- hl];exact h1) (by simpa using g) ⟨rfl,fin⟩) l
def aQc:IxR X bYg:=by
 intro value a pins s σ H x y v u Q I k e h m;obtain⟨z,i,c,rfl,rfl,r,g,q⟩:=h;obtain⟨t,rfl⟩:=k;obtain⟨n,rfl⟩:=e;obtain⟨j,h1,h2,p,b,f⟩:=aZ7 g;have hl:z.cps.toList.length=z.length:=by simp[Str.length]
 rw[hl]at h1 b f;have o:=aZx;exact tail_any (typeIs_str s z t) slot_str_getitem.lookup (getItem_str (c:=c) (by
  have d:decide (i< -(2 ^ 63:Int))=false:=decide_eq_false (by omega);have l:decide (i≥2 ^ 63)=false:=decide_eq_false (by omega);rw[d,l,Bool.or_false]) (by rw[h1];simpa using h2) ⟨.str ⟨#[c]⟩,H,I.tok _,⟨_,rfl⟩,q⟩) m
def rIx(K:bYI):R2:=λx y H Q=>bV8 K x y H Q\/bKS K x y H Q\/bYg x y H Q
def bZV:IxR X (rIx X.K):=yK.or (yX.or aQc)
def aWx(its:List bYH)(n j:Nat)(u:bYH):cQB (·.setIfInBounds j u) {cls:= .type "list",data:= .seq its.toArray n}= {cls:= .type "list",data:= .seq (its.set j u).toArray n}:=by
 simp[cQB]
def Inv.lst{pins:List (Addr×Obj)}{σ:St}{H:Hp}{s:bYK}{p:Addr}{xs:List V}(I:Inv X pins σ H s)(h:H p=some (.lst xs)): ∃ (its:List bYH)(n:Nat),xW xs its/\s.heap.get? p=some {cls:= .type "list",data:= .seq its.toArray n}/\xs.length<=bY8:=by
 obtain⟨z,its,n,r,e⟩:=I.hok p _ h;exact⟨its,n,r,e,z⟩
def Inv.lstUpd{pins:List (Addr×Obj)}{σ:St}{H:Hp}{s:bYK}{p:Addr}{xs ys:List V}{its its':List bYH}{n a:Nat}{f:Obj->Obj}(I:Inv X pins σ H s)(h:H p=some (.lst xs)) (g:s.heap.get? p=some {cls:= .type "list",data:= .seq its.toArray n}) (c:f {cls:= .type "list",data:= .seq its.toArray n}= {cls:= .type "list",data:= .seq its'.toArray a}) (r:xW ys its') (d:ys.length<=bY8) (t:Nat): Inv X pins σ (upd H p (.lst ys)) {s with heap:=s.heap.update p f,toks:=t}:=by
 have e:(s.heap.update p f).get? p=some {cls:= .type "list",data:= .seq its'.toArray a}:=by rw[cQL f g (by rw[c]<;> rfl),c]
 refine I.write (x:=p) (e:=p) (by rw[h];trivial) (.inl rfl) (λb u i q=>(cQh _ _ (cQr i)).trans q) ⟨_,e⟩ ?_;exact⟨d,its',a,r,e⟩
inductive bKT(o:V)(i:V)(v:V)(H:Hp)(Q:(Hp->Prop)):Prop|mk (p xs k j) (_:o= .ref p) (_:i= .int k) (_:H p=some (.lst xs)) (_:ixN xs.length k=some j) (_:Q (upd H p (.lst (xs.set j v))))
def zX:bYe X bKT:=by
 intro pins s σ H o i v B z u Q I w m x h;obtain⟨p,xs,k,j,rfl,rfl,e,l,q⟩:=h;cases w;obtain⟨t,rfl⟩:=m;obtain⟨a,n,r,c,y⟩:=I.lst e;obtain⟨h1,h2,g,d⟩:=aKR l;have hl:=r.length;have A:=aZx;have f:Inv X pins σ (upd H p (.lst (xs.set j v))) {s with heap:=s.heap.update p (cQB (·.setIfInBounds j u)) }:=
  I.lstUpd e c (aWx a n j u) (r.set x j) (by rw[List.length_set];exact y) s.toks
 by_cases h0:0<=k
 ·have b:k.toNat=j:=by
   rw[seqIndex_of h0 d]at h1;exact bY3 h1
  exact PySem.W.ki_setAt c h0 (by omega) (by rw[bYZ,<- hl];exact d) (by rw[b];exact⟨_,f,q⟩)
 ·have b:(k+(a.toArray.size:Int)).toNat=j:=by
   rw[seqIndex_neg (by omega) g]at h1;rw[bYZ,<- hl];exact bY3 h1
  exact PySem.W.ki_setBack c (by omega) (by rw[bYZ,<- hl];exact g) (by omega) (by rw[b];exact⟨_,f,q⟩)
def aZQ(lo hi:Option Int)(n:Nat):(cZ2 lo hi none n).1=((HT.sIx n 0 lo:Nat):Int)/\(cZ2 lo hi none n).2.1=((HT.sIx n n hi:Nat):Int)/\(cZ2 lo hi none n).2.2=1:=by
 refine⟨?_,?_,rfl⟩
 ·cases lo with
  |none=>simp[cZ2,HT.sIx]
  |some i=>
   simp only[cZ2,HT.sIx,Option.getD_none,show(1:Int) > 0 by decide,if_true];by_cases h:i<0
   ·simp only[h,if_true]<;> omega
   ·simp only[h,if_false]<;> omega
 ·cases hi with
  |none=>simp[cZ2,HT.sIx]
  |some i=>
   simp only[cZ2,HT.sIx,Option.getD_none,show(1:Int) > 0 by decide,if_true];by_cases h:i<0
   ·simp only[h,if_true]<;> omega
   ·simp only[h,if_false]<;> omega
def aXW(its:List bYH)(lo hi:Option Int):slicePick its.toArray lo hi none=((its.drop (HT.sIx its.length 0 lo)).take (HT.sIx its.length its.length hi - HT.sIx its.length 0 lo)).toArray:=by
 obtain⟨h1,h2,a⟩:=aZQ lo hi its.toArray.size;unfold slicePick;rw[h1,h2,a];simp only[sliceRange_one,pick_run,bYZ]<;> rfl
inductive bYw(K:bYI)(x:V)(lo:Option Int)(hi:Option Int)(H:Hp)(Q:VK):Prop|mk (a xs) (_:x= .ref a) (_:SqL K H a xs) (_:∀p,H p=none->Q (.ref p) (upd H p (.lst (aXr xs lo hi))))
def aJ7:SlR X (bYw X.K):=by
 intro pins s σ H x v n t lo hi m Q I g k i e h;obtain⟨a,xs,rfl,f,q⟩:=h;cases g;obtain⟨l,r,d,j⟩:=I.list f;have c:=r.length;refine⟨"list",_,slot_list_getitem.lookup,d.isList.typeIs,?_⟩;refine wpAny_getItem_list_slice d.isList k i e .none (by simp) ?_ (by rw[bYZ]<;> omega);rw[aXW,<- c];refine⟨.ref s.heap.objs.size,_,I.laid (t':=s.toks) (o:= .lst (aXr xs lo hi)) (λb p q=>bYM _ q) (bYO _) ?_,rfl,q _ (I.hok.fresh (bYO _))⟩;exact⟨cQn (aJf xs lo hi) j,_,0,(r.drop (HT.sIx xs.length 0 lo)).take (HT.sIx xs.length xs.length hi - HT.sIx xs.length 0 lo),cQb _ rfl⟩
def W4:V->Bool
 |.non=>true
 |.bl _=>true
 |.int _=>true
 |.str _=>true
 |_=>false
def eqV:V->V->Bool
 |.non,.non=>true
 |.bl a,.bl b=>a==b
 |.bl a,.int b=>(if a then 1 else 0)==b
 |.int a,.bl b=>a==(if b then 1 else 0)
 |.int a,.int b=>a==b
 |.str a,.str b=>a==b
 |_,_=>false
def bZP{A:cQl}{s:bYK}{y x:V}{u v:bYH}(e:zJ y u)(c:zJ x v)(g:W4 y=true)(f:W4 x=true):cJ9 A s u v (eqV y x):=by
 cases y with
 |non=>
  cases e;cases x with
  |non=>cases c;exact SeqAt.EqAt.same _
  |bl b=>cases c;exact SeqAt.EqAt.none_bool b
  |int b=>obtain⟨t,rfl⟩:=c;exact SeqAt.EqAt.none_int b t
  |str b=>obtain⟨t,rfl⟩:=c;exact SeqAt.EqAt.none_str b t
  |_=>exact absurd (show false=true from f) Bool.false_ne_true
 |bl a=>
  cases e;cases x with
  |non=>cases c;exact SeqAt.EqAt.bool_none a
  |bl b=>cases c;exact SeqAt.EqAt.bool_bool a b
  |int b=>obtain⟨t,rfl⟩:=c;exact SeqAt.EqAt.bool_int a b t
  |str b=>obtain⟨t,rfl⟩:=c;exact SeqAt.EqAt.bool_str a b t
  |_=>exact absurd (show false=true from f) Bool.false_ne_true
 |int a=>
  obtain⟨d,rfl⟩:=e;cases x with
  |non=>cases c;exact SeqAt.EqAt.int_none a d
  |bl b=>cases c;exact SeqAt.EqAt.int_bool a d b
  |int b=>obtain⟨t,rfl⟩:=c;exact SeqAt.EqAt.int_int a d b t
  |str b=>obtain⟨t,rfl⟩:=c;exact SeqAt.EqAt.int_str a d b t
  |_=>exact absurd (show false=true from f) Bool.false_ne_true
 |str a=>
  obtain⟨d,rfl⟩:=e;cases x with
  |non=>cases c;exact SeqAt.EqAt.str_none a d
  |bl b=>cases c;exact SeqAt.EqAt.str_bool a d b
  |int b=>obtain⟨t,rfl⟩:=c;exact SeqAt.EqAt.str_int a d b t
  |str b=>obtain⟨t,rfl⟩:=c;exact SeqAt.EqAt.str_str a d b t
  |_=>exact absurd (show false=true from f) Bool.false_ne_true
 |_=>exact absurd (show false=true from g) Bool.false_ne_true
def eqU(x:V)(u:bYH):Bool:=match u with
 |.none=>eqV .non x
 |.bool b=>eqV (.bl b) x
 |.int i _=>eqV (.int i) x
 |.str z _=>eqV (.str z) x
 |_=>false
def bZQ{x y:V}{u:bYH}(r:zJ y u)(f:W4 y=true):eqU x u=eqV y x:=by
 cases y with
 |non=>cases r;rfl
 |bl b=>cases r;rfl
 |int i=>obtain⟨t,rfl⟩:=r;rfl
 |str z=>obtain⟨t,rfl⟩:=r;rfl
 |_=>exact absurd (show false=true from f) Bool.false_ne_true
def Q5{x:V}:∀ {xs:List V} {us:List bYH},xW xs us->xs.all W4=true->us.any (eqU x)=xs.any λy=>eqV y x
 |_,_,.nil,_=>rfl
 |y::xs,u::us,.cons r t,f=>by rw[cZV,Bool.and_eq_true]at f;rw[cXZ,cXZ,bZQ r f.1,Q5 t f.2]
def qP{A:cQl}{s:bYK}{x:V}{v:bYH}(b:zJ x v)(c:W4 x=true):∀ {xs:List V} {us:List bYH},xW xs us->xs.all W4=true->∀u∈us,cJ9 A s u v (eqU x u)
 |_,_,.nil,_=>λu a=>by cases a
 |y::xs,u::us,.cons r t,f=>λd a=>by
  rw[cZV,Bool.and_eq_true]at f;rcases bYQ.mp a with rfl|a
  ·rw[bZQ r f.1];exact bZP r b f.1 c
  ·exact qP b c t f.2 d a
def inV(x:V)(xs:List V):Bool:=xs.any λy=>eqV y x
inductive rIn(K:bYI)(neg:Bool)(x:V)(y:V)(H:Hp)(Q:VK):Prop|mk (p xs) (_:y= .ref p) (_:(SqL K H p xs\/SqT K H p xs)) (_:W4 x=true) (_:xs.all W4=true) (_:Q (.bl (if neg then !inV x xs else inV x xs)) H)
def wL:OpR X (cXb .In) (rIn X.K false):=by
 intro pins s σ H x y v u Q I d f h;obtain⟨p,xs,rfl,b,e,fs,q⟩:=h;cases f;rcases b with b|b
 ·obtain⟨a,r,c,g⟩:=I.list b;refine SeqAt.in_listAt (eqU x) c.isList (λw hw=>qP d e r fs w (by simpa using hw)) ⟨.bl _,H,I,rfl,?_⟩;rw[show a.toArray.any (eqU x)=a.any (eqU x) by simp,Q5 r fs];exact q
 ·obtain⟨a,r,c,g⟩:=I.tuple b;refine SeqAt.in_tupleAt (eqU x) c (λw hw=>qP d e r fs w (by simpa using hw)) ⟨.bl _,H,I,rfl,?_⟩;rw[show a.toArray.any (eqU x)=a.any (eqU x) by simp,Q5 r fs];exact q
def Z7:OpR X (cXb .NotIn) (rIn X.K true):=by
 intro pins s σ H x y v u Q I d f h;obtain⟨p,xs,rfl,b,e,fs,q⟩:=h;cases f;rcases b with b|b
 ·obtain⟨a,r,c,g⟩:=I.list b;refine SeqAt.notIn_listAt (eqU x) c.isList (λw hw=>qP d e r fs w (by simpa using hw)) ⟨.bl _,H,I,rfl,?_⟩;rw[show a.toArray.any (eqU x)=a.any (eqU x) by simp,Q5 r fs];exact q
 ·obtain⟨a,r,c,g⟩:=I.tuple b;refine SeqAt.notIn_tupleAt (eqU x) c (λw hw=>qP d e r fs w (by simpa using hw)) ⟨.bl _,H,I,rfl,?_⟩;rw[show a.toArray.any (eqU x)=a.any (eqU x) by simp,Q5 r fs];exact q
inductive aXo(K:bYI)(xs:List V)(H:Hp)(Q:VK):Prop|mk (p ys) (_:xs= [.ref p]) (_:(SqL K H p ys\/SqT K H p ys)) (_:Q (.int ys.length) H)
def yN:jQ X (.builtin "len") (aXo X.K):=by
 intro pins s σ H xs j Q I r h;obtain⟨p,ys,rfl,b,q⟩:=h;obtain⟨u,rfl,f⟩:=aQV r;cases f;have i:=aZx;rcases b with b|b
 ·obtain⟨e,c,d,g⟩:=I.list b;have a:=c.length;exact Calls.call_len_list d.isList (by simp only[bYZ]<;> omega) ⟨.int ys.length,H,I.tok _,⟨s.toks+1,by rw[bYZ,a]⟩,q⟩
 ·obtain⟨e,c,d,g⟩:=I.tuple b;have a:=c.length;exact len_tuple d (by simp only[bYZ]<;> omega) ⟨.int ys.length,H,I.tok _,⟨s.toks+1,by rw[bYZ,a]⟩,q⟩
inductive aXp(K:bYI)(xs:List V)(H:Hp)(Q:VK):Prop|mk (p ys) (_:xs= [.ref p]) (_:(SqL K H p ys\/SqT K H p ys)) (_:∀l,H l=none->Q (.ref l) (upd H l (.lst ys)))
def uJ:jQ X (.type "list") (aXp X.K):=by
 intro pins s σ H xs x Q I r h;obtain⟨p,ys,rfl,j,q⟩:=h;obtain⟨u,rfl,v⟩:=aQV r;cases v;have fin:∀ (a:List bYH),xW ys a->ys.length<=bY8->∀ (h':Heap)(d:Nat),(∀b o',s.heap.get? b=some o'->h'.get? b=some o')->
   h'.get? s.heap.objs.size=some {cls:= .type "list",dict:=none,data:= .seq a.toArray d,slots:= #[] }->EP X pins σ Q (.ref s.heap.objs.size) {s with heap:=h'}:=λa c i h' d f e=>
  ⟨.ref s.heap.objs.size,_,I.laid (t':=s.toks) f (bYO _) (show zD X.prog X.w _ h' _ (.lst ys)from⟨i,a,d,c,e⟩),rfl,q _ (I.hok.fresh (bYO _))⟩
 rcases j with j|j
 ·obtain⟨a,c,m,i⟩:=I.list j;have g:=c.length;obtain⟨o,t,l,n,k⟩:=m.isList;exact call_list_seq p (.inl rfl) t l k (λh' d f e=>fin a c i h' d f e) (by simp only[bYZ]<;> omega)
 ·obtain⟨a,c,m,i⟩:=I.tuple j;have g:=c.length;obtain⟨o,t,l,n,k⟩:=m;exact call_list_seq p (.inr rfl) t l k (λh' d f e=>fin a c i h' d f e) (by simp only[bYZ]<;> omega)
inductive aQZ(K:bYI)(xs:List V)(H:Hp)(Q:VK):Prop|mk (p ys) (_:xs= [.ref p]) (_:((SqL K H p ys/\∀l,H l=none->Q (.ref l) (upd H l (.tup ys)))\/(SqT K H p ys/\Q (.ref p) H)))
def qJ:jQ X (.type "tuple") (aQZ X.K):=by
 intro pins s σ H xs n Q I r h;obtain⟨p,ys,rfl,h⟩:=h;obtain⟨u,rfl,m⟩:=aQV r;cases m;rcases h with⟨f,q⟩|⟨f,q⟩
 ·obtain⟨a,c,d,j⟩:=I.list f;have g:=c.length;refine call_tuple_list d.isList (λh' l=>?_) (by simp only[bYZ]<;> omega);have i:Inv X pins σ H {s with heap:=h'}:=I.kept (t':=s.toks) l;have k:Inv X pins σ (upd H h'.objs.size (.tup ys)) {s with heap:=h'.push {cls:= .type "tuple",data:= .seq a.toArray} }:=
   i.laid (t':=s.toks) (λb o e=>bYM _ e) (bYO _) (show zD X.prog X.w _ _ _ (.tup ys)from⟨j,a,c,IsTup.new _ _⟩)
  exact⟨.ref h'.objs.size,_,k,rfl,q _ (i.hok.fresh (bYO _))⟩
 ·obtain⟨a,c,d,j⟩:=I.tuple f;exact call_tuple_same d ⟨.ref p,H,I,rfl,q⟩
def tyV(K:bYI)(T:String)(x:V)(H:Hp):Prop:=match x with
 |.str _=>T="str"
 |.int _=>T="int"
 |.ref p=>(T="list"/\∃xs,SqL K H p xs)\/(T="tuple"/\∃o,K.lookup p=some o/\o.cls= .type "tuple"/\o.dict=none)\/
   (T="dict"/\((∃a,H p=some (.dK a))\/∃a,H p=some (.dT a)))\/(T="set"/\∃S n,H p=some (.set S n))
 |_=>False
def bJj{pins:List (Addr×Obj)}{σ:St}{H:Hp}{s:bYK}{T:String}{x:V}{v:bYH}(I:Inv X pins σ H s)(r:zJ x v)(ty:tyV X.K T x H): s.TypeIs v T/\∀a,v= .ref a->∃h,s.heap.get? a=some h/\h.dict=none:=by
 cases x with
 |str z=>obtain⟨t,rfl⟩:=r;cases (show T="str" from ty);exact⟨typeIs_str s z t,λ_ e=>nomatch e⟩
 |int i=>obtain⟨t,rfl⟩:=r;cases (show T="int" from ty);exact⟨typeIs_int s i t,λ_ e=>nomatch e⟩
 |ref p=>
  cases r;rcases ty with⟨rfl,xs,l⟩|⟨rfl,o,b,k,d⟩|⟨rfl,b⟩|⟨rfl,S,n,b⟩
  ·obtain⟨m,_,j,_⟩:=I.list l;refine⟨j.isList.typeIs,λa e=>?_⟩;cases e;obtain⟨o,n,e,c,d,_⟩:=j;exact⟨o,e,d⟩
  ·refine⟨⟨o,I.kIn p o b,k⟩,λa e=>?_⟩;cases e;exact⟨o,I.kIn _ o b,d⟩
  ·have z:∃o,s.heap.get? p=some o/\o.ExactDict:=by
    rcases b with⟨g,b⟩|⟨g,b⟩
    ·obtain⟨_,_,_,_,o,_,_,e,ex,_⟩:=I.hok p _ b;exact⟨o,e,ex⟩
    ·obtain⟨_,_,_,_,o,_,_,e,ex,_⟩:=I.hok p _ b;exact⟨o,e,ex⟩
   obtain⟨o,e,ex⟩:=z;refine⟨⟨o,e,ex.1⟩,λa f=>?_⟩;cases f;exact⟨o,e,ex.2.1⟩
  ·obtain⟨o,_,_,_,e,ex,_⟩:=I.hok p _ b;refine⟨⟨o,e,ex.1⟩,λa f=>?_⟩;cases f;exact⟨o,e,ex.2.1⟩
 |_=>exact cXc ty
inductive bK2(K:bYI)(T:String)(r:V->List V->Hp->VK->Prop)(Q:VK)(x:V)(H1:Hp):Prop|mk (_:tyV K T x H1) (_:r x [] H1 Q)
def bYA(K:bYI)(T:String)(r:V->List V->Hp->VK->Prop)(to:TE):TE:=λσ H Q=>to σ H λx H1=>bK2 K T r Q x H1
inductive bYB(K:bYI)(T:String)(r:V->List V->Hp->VK->Prop)(t:TA)(σ:St)(Q:VK)(x:V)(H1:Hp):Prop|mk (_:tyV K T x H1) (_:t σ H1 λxs H2=>r x xs H2 Q)
def tBM(K:bYI)(T:String)(r:V->List V->Hp->VK->Prop)(to:TE)(t:TA):TE:=λσ H Q=>to σ H λx H1=>bYB K T r t σ Q x H1
variable {o e:Expr}{es:List Expr}{to:TE}{t:TA}{name:Str}{apos cpos:Pos}{T id:String}{r:V->List V->Hp->VK->Prop}
def bZ2(e:PlainAttrs T)(c:Slot T name id)(d:typeOf (.builtin id)=pure (.type "method_descriptor"))(g:MtR X id r)(f:PE X o to) (b:cZw o name X.env (eval o X.env)=eval o X.env:=by rfl) (a:(apos.endLine==cpos.line)=true:=by rfl):PE X (.Call (.Attribute o name apos) [] [] cpos) (bYA X.K T r to):=by
 intro pins s σ H Q I h;refine wpAny_Call_method0_late b a (thn (f pins s σ H _ I h) λv s1 ⟨x,H1,I1,r1,ty,q1⟩=>?_);obtain⟨h1,h2⟩:=bJj I1 r1 ty;exact⟨T,id,e,c,d,h1,h2,Calls.callWith_builtin rfl (PySem.evalArgs_none (g pins s1 σ H1 x [] v [] Q I1 r1 .nil q1))⟩
def uF(m:PlainAttrs T)(f:Slot T name id)(g:typeOf (.builtin id)=pure (.type "method_descriptor"))(n:MtR X id r)(k:PE X o to)(l:PA X (e::es) t)
  (b:cZw o name X.env (eval o X.env)=eval o X.env:=by rfl)
  (d:((cXk cpos (cQk (e::es) X.env)).all (λx=> !x.1) && (cZT cpos (cX3 [] X.env)).all (λx=>x.1.isSome) && decide ((e::es).length+([]:List Keyword).length+(if([]:List Keyword).isEmpty then 0 else 1)<30))=true:=by rfl)
  (c:(apos.endLine==cpos.line)=true:=by rfl) (j:cQk (e::es) X.env=(false,eval e X.env)::cQk es X.env:=by rfl) (a:(cXk cpos (cQk es X.env)).any (·.1)=false:=by rfl):
  PE X (.Call (.Attribute o name apos) (e::es) [] cpos) (tBM X.K T r to t):=by
 intro pins s σ H Q I h
 refine wpAny_Call_method_late b d c rfl (thn (k pins s σ H _ I h) λv s1 ⟨x,H1,I1,r1,ty,q1⟩=>?_)
 obtain⟨h1,h2⟩:=bJj I1 r1 ty
 refine⟨T,id,m,f,g,h1,h2,?_⟩
 have i:=l cpos pins s1 σ H1 _ I1 q1
 rw[j]at i ⊢
 refine Calls.callWith_builtin (by show(false || (cXk cpos (cQk es X.env)).any (·.1))=false;rw[a]<;> rfl) (Calls.evalArgs_plain ?_)
 exact thn i λus s2 ⟨vs,H2,I2,r2,q2⟩=>n pins s2 σ H2 x vs v us Q I2 r1 r2 q2
end
end L2
namespace L2
open PySem PySem.Spec PyProof.Rows
def MtM(X:Cx)(id:String)(r:V->List V->Hp->VK->Prop):Prop:=
 ∀ (pins:List (Addr×Obj))(s:bYK)(σ:St)(H:Hp)(x:V)(xs:List V)(v:bYH)(a:List bYH)(Q:VK),Inv X pins σ H s->zJ x v->xW xs a->r x xs H Q->
  bYP (bYR X.prog X.w) X.A (call (.builtin id) (v::a)) (EP X pins σ Q) X.xe s
def xW.one:∀ {x:V} {us:List bYH},xW [x] us->∃u,us= [u]/\zJ x u
 |_,_,.cons r .nil=>⟨_,rfl,r⟩
def xW.two:∀ {x y:V} {us:List bYH},xW [x,y] us->∃u v,us= [u,v]/\zJ x u/\zJ y v
 |_,_,_,.cons r (.cons q .nil)=>⟨_,_,rfl,r,q⟩
def xW.zero:∀ {us:List bYH},xW [] us->us= []
 |_,.nil=>rfl
def xW.dropLast{xs:List V}{us:List bYH}(h:xW xs us):xW xs.dropLast us.dropLast:=by
 induction h with
 |nil=>exact .nil
 |cons r t a=>
  cases t with
  |nil=>exact .nil
  |cons q b=>exact .cons r a
def xW.reverse{xs:List V}{us:List bYH}(h:xW xs us):xW xs.reverse us.reverse:=by
 induction h with
 |nil=>exact .nil
 |cons r t a=>rw[List.reverse_cons,List.reverse_cons];exact xW.append a (.cons r .nil)
def aWh{α:Type}(l:List α):l.eraseIdx (l.length - 1)=l.dropLast:=by
 induction l with
 |nil=>rfl
 |cons a r c=>
  cases r with
  |nil=>rfl
  |cons b r=>
   have e:(a::b::r).length - 1=((b::r).length - 1)+1:=by have h1:(a::b::r).length=r.length+2:=rfl;have h2:(b::r).length=r.length+1:=rfl;omega
   rw[e,List.eraseIdx_cons_succ,c];all_goals rfl
section
variable {X:Cx}{pins:List (Addr×Obj)}{σ:St}{H:Hp}{s:bYK}{l b:Addr}{xs ys zs:List V}
def Inv.lset{its its':List bYH}{n:Nat}{f:Array bYH->Array bYH}{t':Nat}(I:Inv X pins σ H s)(h:H l=some (.lst xs)) (e:s.heap.get? l=some {cls:= .type "list",data:= .seq its.toArray n}) (d:f its.toArray=its'.toArray) (a:xW ys its') (b:ys.length<=bY8): Inv X pins σ (upd H l (.lst ys)) {s with heap:=s.heap.update l (cQB f),toks:=t'}:=by
 have q:=PySem.IsL.update e f;rw[d]at q;refine I.write (x:=l) (e:=l) (by rw[h];exact trivial) (.inl rfl) (λi u g c=>(cQh s.heap (cQB f) (cQr g)).trans c) ⟨_,q⟩ ?_;exact⟨b,its',_,a,q⟩
def Inv.lnew{its:List bYH}{t':Nat}(I:Inv X pins σ H s)(a:xW ys its)(hz:ys.length<=bY8): Inv X pins σ (upd H s.heap.objs.size (.lst ys)) {s with heap:=s.heap.push {cls:= .type "list",data:= .seq its.toArray},toks:=t'}:=
 I.laid (λ_ _ q=>bYM _ q) (bYO _) ⟨hz,its,0,a,cQb _ rfl⟩
def Inv.fresh(I:Inv X pins σ H s):H s.heap.objs.size=none:=I.hok.fresh (bYO _)
def Inv.lstM(I:Inv X pins σ H s)(a:H l=some (.lst xs)):xs.length<=bY8/\∃ (its:List bYH)(n:Nat),xW xs its/\xs.length=its.length/\s.heap.get? l=some {cls:= .type "list",data:= .seq its.toArray n}:=by
 obtain⟨z,its,n,r,e⟩:=I.hok l _ a;exact⟨z,its,n,r,r.length,e⟩
def bXm{n:Nat}(h:n<=bY8):cZ5 n=false:=by
 unfold cZ5;exact decide_eq_false (by omega)
end
section
variable {X:Cx}
inductive aYC(x:V)(vs:List V)(H:Hp)(Q:VK):Prop|mk (l xs y) (_:x= .ref l) (_:vs= [y]) (_:H l=some (.lst xs)) (_:xs.length<bY8) (_:Q .non (upd H l (.lst (xs++ [y]))))
def xL:MtM X "list.append" aYC:=by
 intro pins s σ H x g v j Q I f d h;obtain⟨l,xs,y,rfl,rfl,b,i,q⟩:=h;cases f;obtain⟨u,rfl,c⟩:=d.one;obtain⟨z,a,n,r,hl,e⟩:=I.lstM b;refine call_meets F.slot_list_append ⟨_,e,rfl⟩ F.entry_list_append (F.args_list_append_2 _ _) (PySem.list_append l a.toArray n u (by rw[bYZ];omega)) ⟨e,?_⟩;refine⟨.non,_,I.lset (its':=a++ [u]) b e (by simp) (r.append (.cons c .nil)) ?_,rfl,q⟩;rw[bY5,cQU];omega
inductive bVi(x:V)(vs:List V)(H:Hp)(Q:VK):Prop|mk (l b xs zs) (_:x= .ref l) (_:vs= [.ref b]) (_:H l=some (.lst xs)) (_:H b=some (.lst zs)) (_:xs.length+zs.length<=bY8) (_:Q .non (upd H l (.lst (xs++zs))))
def aK6:MtM X "list.extend" bVi:=by
 intro pins s σ H x y v B Q I p m h;obtain⟨l,b,xs,zs,rfl,rfl,g,j,A,q⟩:=h;cases p;obtain⟨u,rfl,k⟩:=m.one;cases k;obtain⟨z,c,n,r,hl,e⟩:=I.lstM g;obtain⟨z2,a,o,i,t,w⟩:=I.lstM j;have f:c.toArray.size+a.toArray.size<=bY8:=by rw[bYZ,bYZ];omega
 have d:¬ (!c.toArray.isEmpty && cZ5 (c.toArray.size+a.toArray.size))=true:=by rw[bXm f,Bool.and_false];exact Bool.false_ne_true
 refine call_meets F.slot_list_extend ⟨_,e,rfl⟩ F.entry_list_extend (F.args_list_extend_2 _ _)
  (AutoSeq1.list_extend_list_list_0 l c.toArray n b a.toArray o d (by rw[bYZ];omega) (by omega)) ⟨e,w,?_⟩
 refine⟨.non,_,I.lset (its':=c++a) g e (by simp) (r.append i) ?_,rfl,q⟩;rw[bY5];omega
inductive bYv(x:V)(vs:List V)(H:Hp)(Q:VK):Prop|mk (l xs y) (_:x= .ref l) (_:vs= []) (_:H l=some (.lst xs)) (_:xs[xs.length - 1]? =some y) (_:Q y (upd H l (.lst xs.dropLast)))
def bZ0:MtM X "list.pop" bYv:=by
 intro pins s σ H x m v o Q I j i h;obtain⟨l,xs,y,rfl,rfl,d,f,q⟩:=h;cases j;have c:=i.zero;subst c;obtain⟨z,a,n,r,hl,e⟩:=I.lstM d;obtain⟨u,k,g⟩:=r.get f;have b:a.toArray[a.toArray.size - 1]? =some u:=by show a.toArray[a.length - 1]? =some u;rw[<- cXf,<- hl];exact k
 refine call_meets F.slot_list_pop ⟨_,e,rfl⟩ F.entry_list_pop (F.args_list_pop_1 _) (MeetsSeq.list_pop_last l a.toArray n u b (by rw[bYZ];omega)) ⟨e,?_⟩;refine⟨y,_,I.lset (its':=a.dropLast) d e ?_ r.dropLast ?_,g,q⟩
 ·show a.toArray.eraseIdxIfInBounds (a.toArray.size - 1)=a.dropLast.toArray;rw[bYZ,List.eraseIdxIfInBounds_toArray,aWh]
 ·rw[List.length_dropLast];omega
inductive bYu(x:V)(y:V)(H:Hp)(Q:VK):Prop|mk (l b xs zs) (_:x= .ref l) (_:y= .ref b) (_:H l=some (.lst xs)) (_:H b=some (.lst zs)) (_:xs.length+zs.length<=bY8) (_:∀p,H p=none->Q (.ref p) (upd H p (.lst (xs++zs))))
def aVs:OpR X (cZp .Add) bYu:=by
 intro pins s σ H x y v u Q I j i h;obtain⟨l,b,xs,zs,rfl,rfl,o,f,t,q⟩:=h;cases j;cases i;obtain⟨z,c,n,r,hl,e⟩:=I.lstM o;obtain⟨z2,a,p,d,k,m⟩:=I.lstM f;refine PySem.P.add_list e m ?_ (by rw[bYZ,bYZ];omega);have g:c.toArray++a.toArray=(c++a).toArray:=by simp
 rw[g];exact⟨.ref _,_,I.lnew (t':=s.toks) (r.append d) (by rw[bY5];omega),rfl,q _ I.fresh⟩
end
section
variable {prog:bY4}{w:cQa}{A:cQl}{E:bYH->bYK->Prop}{s:bYK}
end
section
variable {X:Cx}
end
end L2
namespace Att
open PySem PySem.W PySem.Calls PyProof.Rows
def aQb{P:Params}{h:Heap}:∀ (c:List Int)(vs:List bYH),WellAll P h vs (c.map WData.int)->cZf vs c:=by
 intro c;induction c with
 |nil=>intro vs w;rw[List.map_nil]at w;cases w;exact .nil
 |cons n c d=>
  intro vs w;rw[cQx]at w;cases w with
  |cons a b=>cases a;exact .cons _ _ (d _ b)
def bQe{l:OpenLaw}{n:Nat}(t:l.most=some n){P:Params}{h:Heap}{args:List WData}{vals:List bYH} (c:l.row.toRowW.claim.pre args=true) (k:WellAll P h vals args): ∃a m b,vals= [Value.ref a]/\args= [WData.list (b.map WData.int)]/\h.get? a=some {cls:= .type "list",data:= .seq m.toArray}/\cZf m b/\b.length<=n:=by
 have j:WShape.hasAll [] args [.list .int]=true:=(pre_splitW c).1;have o:l.pre.holds [] {args:=args}=true:=(pre_splitW c).2;obtain⟨d,r,rfl,h1,h2⟩:=hasAllW_cons j;obtain rfl:=hasAllW_nil h2;obtain⟨xs,rfl,u⟩:=hasW_list h1;obtain⟨b,rfl⟩:=items_int u;have f:b.length<=n:=by
  unfold OpenLaw.pre at o;have g:(WTm.not (.lt (.lit (.int (n:Int))) (.len (.arg 0)))).holds [] {args:= [.list (b.map .int)] }=true:=by have g:=(holds_andW o).1;rw[t]at g;exact g
  have i:=condW_of g (w_not (w_lt w_lit (w_len_list (w_arg rfl))));rw[bYL]at i;refine Nat.le_of_not_lt λq=>?_;have s:(n:Int)<((b.length:Nat):Int):=by omega
  first
   |(rw[decide_eq_true s]at i;exact absurd i (by decide))
   |(simp at i;omega)
 cases k with
 |cons v p=>
  cases p;cases v with
  |list w e=>exact⟨_,_,b,rfl,rfl,w,aQb b _ e,f⟩
def aYz(l:OpenLaw)(args:List WData):l.row.toRowW.claim.post args (.bool true) args=true:=
 postW_of (r:=l.row.toRowW) (X:=(true==true))
  (show WShape.has [] (.bool true) .bool=true by first|rfl|decide|simp[WShape.has,WShape.arms,WShape.armsAll])
  (show(WTm.eq .res (.lit (.bool true))).value [] {args:=args,res:=some (.bool true),after:=args}=some (.bool (true==true))from w_eq_bool (w_res rfl) w_lit) rfl
def aZ9{l:OpenLaw}{n:Nat}{q:bY4}{loose:List Str}{y:(Str->Option bYH)->Heap->Prop}{z:cQa->Heap->Prop}{d:DefRec} (D:l.most=some n) (s:d.params.defaults= []) (call:∀ (w:cQa)(s₀ b:bYK)(mg u:Str->Option bYH)(j:Addr)(o:Obj)(t k c:bYH)(a:Addr)(vs:List bYH)(m:List Int), Ground q loose [] y w s₀ mg u b.heap->z w b.heap-> b.heap.get? j=some o->o.data= .func (docDef d.name d.params d.body d.scope t k c)->b.heap.CodeRec k d.name->mg d.name=some (.ref j)-> b.heap.get? a=some {cls:= .type "list",data:= .seq vs.toArray}->cZf vs m->m.length<=n->b.gens= #[]-> cXY (bYR l.prog w) callerA (.call (.ref j) ⟨[.ref a],[]⟩) (λr s'=>r= .ok (.ret (.bool true))/\OldK b.heap s'.heap/\s'.os=b.os/\AllBare s'.gens) b): WalkO q loose y z l.row.toRowW d [] (λf vs=>PySem.call f vs):=by
 intro w s₀ b mg u G Y j o t k c K kV M H v A p F args vals O h B J x E;obtain rfl:K= .none:=Dflts.none A s;obtain rfl:kV= .none:=Dflts.noKw A;obtain⟨a,vs,m,rfl,rfl,i,e,g⟩:=bQe D h x;refine enter_call (cXB (call w s₀ b mg u j o t k c a vs m G Y M (fd_plain H) v p i e g F) λr s' L=>?_);obtain⟨rfl,h2,I,C⟩:=L;exact⟨.inl ⟨.bool true,.bool true,[],rfl,λ_=>rfl,.bool true,aYz l _,λ_=>⟨List.Pairwise.nil,λ_ N=>(nomatch N)⟩⟩,h2,I,C⟩
section
variable {prog:bY4}{w:cQa}{A:cQl}{E:bYH->bYK->Prop}{s:bYK}{K:Frag}
end
end Att
namespace L2
open PySem PySem.Spec PyProof.Rows
def uU:∀ {vs:List bYH} {a:List Int},cZf vs a->xW (a.map V.int) vs
 |_,_,.nil=> .nil
 |_,_,.cons n t h=> .cons ⟨t,rfl⟩ (uU h)
end L2
namespace L2
open PySem PySem.Spec PyProof.Rows
end L2
namespace L2
open PySem PySem.Spec PyProof.Rows
def xZ(s:Stmt):Arguments:=match s with
 |.FunctionDef _ a _ _ _ _ _ _ _ _=>a
 |_=>{posonlyargs:= [],args:= [],vararg:=none,kwonlyargs:= [],kw_defaults:= [],kwarg:=none,defaults:= [] }
def xO(s:Stmt):List Stmt:=match s with
 |.FunctionDef _ _ b _ _ _ _ _ _ _=>b
 |_=> []
def yH(s:Stmt):cXV:=match s with
 |.FunctionDef _ _ _ _ _ _ a _ _ _=>a
 |_=>{kind:= .function,names:= [],isGenerator:=false,isCoroutine:=false}
abbrev CX0:CXT:=λ_ _ _ _ _ _=>False
abbrev E0:XK:=λ_ _ _=>False
def vT{X:Cx}:vJ CX0 X E0:=λ_ _ _ _ _ _ _ h=>h.elim
structure Fun(K:bYI)(x qual:Str)(st:Stmt)(f:Addr)(fd:cXG):Prop where
 ex:∃ (oc:bYH)(od:Option Addr)(kV doc pm:bYH)(an:Option Addr)(cdv ct:bYH)(osl:Array (Option bYH)),
  fd=cQK x qual (xZ st) (xO st) (yH st) .none kV doc pm an cdv ct/\K.lookup f=some ⟨oc,od,.func fd,osl⟩/\cXp K cdv qual=true
 kp:cQD K (.ref f)=true
section
variable {P:bY4}{w:cQa}{K:bYI}{mg:Str->Option bYH}{base:Heap}
def Fun.ok{x qual:Str}{st:Stmt}{f:Addr}{fd:cXG}{N ps:List Str}{k:Nat}{sp:Sp}(F:Fun K x qual st f fd)(S:yO N ps (yH st)) (b:∀ (a:bYH)(A:cQl)(outer:List Env)(s:bYK)(H:Hp)(vs:List V)(Q:VK)(E:XK),vP k (A.deeper (cXF qual (yH st) s.heap.objs.size f a))->sp vs H Q E-> ∃t,PSs (aXs CX0 P w K mg base N qual (yH st) f a A outer s H E).nox (xO st) t/\t {nx:=λ_ H'=>Q .non H',rt:=Q} (start N vs) H) (len:∀vs H Q E,sp vs H Q E->vs.length=ps.length:=by intro _ _ _ _ h;first|(cases h;subst_vars;exact rfl)|repeat (first|(obtain⟨rfl,_⟩:=h;exact rfl)|(obtain⟨_,h⟩:=h))):xD P w K mg base CX0 (k+1) f fd ps sp:=by
 obtain⟨j,n,kV,i,m,l,a,ct,e,rfl,lk,d⟩:=F.ex;refine bJD lk d S len λA outer s H vs Q E g c=>?_;obtain⟨t,h,q⟩:=b a A outer s H vs Q E g c;exact⟨t,h.nox,q⟩
def Fun.binds{x qual:Str}{st:Stmt}{f:Addr}{fd:cXG}{ps:List Str}(F:Fun K x qual st f fd) (h:∀ (kV a d:bYH)(c:Option Addr)(b ct:bYH)(us:List bYH),us.length=ps.length->cZq (cQK x qual (xZ st) (xO st) (yH st) .none kV a d c b ct) ⟨us,[]⟩=pure (ps.zip us)):vW K fd ps []:=by
 obtain⟨i,j,kV,a,d,c,b,ct,e,rfl,lk,g⟩:=F.ex;exact .all (h kV a d c b ct)
def aXa{x qual:Str}{st:Stmt}{f:Addr}{h:bYH}{i e:Option Addr}{d:Array (Option bYH)}{kV b g a ct:bYH}(l:K.lookup f=some ⟨h,i,.func (cQK x qual (xZ st) (xO st) (yH st) .none kV b g e a ct),d⟩)
  (c:cXp K a qual=true) (k:cQD K (.ref f)=true):Fun K x qual st f (cQK x qual (xZ st) (xO st) (yH st) .none kV b g e a ct):=⟨⟨h,i,kV,b,g,e,a,ct,d,rfl,l,c⟩,k⟩
end
def bWv{A:cQl}{k:Nat}(a:vP k A):A.units+1<cLine:=Nat.lt_of_le_of_lt (Nat.add_le_add_left (by decide:1<=64) _) a.units
section
variable {X:Cx}
def pv(i:Nat){x:Str}{pos:Pos}(d:X.N[i]? =some x:=by rfl)(b:Vis X.env.scope x:=by first|exact Or.inl rfl|exact Or.inr (Or.inl rfl)|exact Or.inr (Or.inr rfl))(c:(x==("__debug__":Str))=false:=by decide)
  (a:(x==("__classdict__":Str))=false:=by decide):PE X (.Name x pos) (bV1 i):=bZ5 d b c a
end
def qF{c A B:Prop} [Decidable c] (h1:c->A)(h2:¬c->B):if c then A else B:=by
 by_cases h:c
 ·rw[if_pos h];exact h1 h
 ·rw[if_neg h];exact h2 h
def xA(H H':Hp):Prop:=∀b o,H b=some o->H' b=some o
def xA.refl(H:Hp):xA H H:=λ_ _ h=>h
def xA.trans{H H1 H2:Hp}(a:xA H H1)(b:xA H1 H2):xA H H2:=λc o h=>b c o (a c o h)
def xA.seq{K:bYI}{H H':Hp}{a:Addr}{xs:List V}(e:xA H H')(h:SqL K H a xs):SqL K H' a xs:=by
 rcases h with(h|⟨o,h⟩)|h
 ·exact .inl (.inl (e _ _ h))
 ·exact .inl (.inr ⟨o,e _ _ h⟩)
 ·exact .inr h
end L2
namespace L2
open PySem
def scM{N P:List Str}{sc:Scope}(h:decide (sc.kind=.function/\sc.isCoroutine=false/\sc.isGenerator=false/\N.Nodup/\N.take P.length=P/\(∀x∈P,sc.names.lookup x=some .local\/sc.names.lookup x=some .cell)/\∀y∈sc.names,y.2≠.free)=true:=by decide +kernel):yO N P sc:=
 have z:=of_decide_eq_true h;⟨z.1,z.2.1,z.2.2.1,z.2.2.2.1,z.2.2.2.2.1,z.2.2.2.2.2.1,z.2.2.2.2.2.2⟩
end L2
namespace L2
open PySem PySem.Spec PyProof.Rows
def qK(env:Env)(l:List (Str×cZF))(cs:List (Str×Nat)):Sem (List (Str×Nat)):=do
 let mut cs:=cs
 for (name,kind)in l do
  if kind== .free then cs:=(name,<- cellOf env name)::cs
 return cs
def aWb(env:Env)(cs:List (Str×Nat)):qK env [] cs=pure cs:=by simp[qK]
def aJd{env:Env}{n:Str}{c:Nat}{r:List (Str×cZF)}{cs:List (Str×Nat)}(h:env.cells.lookup n=some c):qK env ((n,.free)::r) cs=qK env r ((n,c)::cs):=by
 have e:cellOf env n=pure c:=by unfold cellOf;rw[h]
 simp[qK,e]
def aZc{env:Env}{n:Str}{k:cZF}{r:List (Str×cZF)}{cs:List (Str×Nat)}(h:k≠ .free):qK env ((n,k)::r) cs=qK env r cs:=by
 simp[qK,h]
def aJe{env:Env}:∀ (l:List (Str×cZF))(cs:List (Str×Nat)),(∀y∈l,y.2= .free->∃c,env.cells.lookup y.1=some c)->(∀y c,cs.lookup y=some c->env.cells.lookup y=some c)->
  ∃cl,qK env l cs=pure cl/\(∀y c,cl.lookup y=some c->env.cells.lookup y=some c)/\(∀y,(∃c,cs.lookup y=some c)->∃c,cl.lookup y=some c)/\(∀y,(y,NameKind.free)∈l->∃c,cl.lookup y=some c)
 |[],cs,_,h=>⟨cs,aWb env cs,h,λ_ z=>z,λ_ z=>by cases z⟩
 |(n,k)::r,cs,hl,h=>by
  by_cases j:k= .free
  ·subst j;obtain⟨c,o⟩:=hl (n,.free) bYW rfl;obtain⟨cl,g,i,d,f⟩:=aJe r ((n,c)::cs) (λy a=>hl y (bYT _ a)) (λy b e=>by
    rw[cXy]at e;split at e
    ·rename_i z;cases e;rw[beq_iff_eq.mp z];exact o
    ·exact h y b e)
   have m:∀y,(∃c,cs.lookup y=some c)->∃b,((n,c)::cs).lookup y=some b:=λy ⟨b,e⟩=>by
    rw[cXy];split
    ·exact⟨_,rfl⟩
    ·exact⟨b,e⟩
   refine⟨cl,by rw[aJd o];exact g,i,λy z=>d y (m y z),λy a=>?_⟩;rcases bYQ.mp a with e|a
   ·cases e;exact d _ ⟨c,by rw[cXy,beq_self_eq_true]⟩
   ·exact f y a
  ·obtain⟨cl,g,i,d,f⟩:=aJe r cs (λy a=>hl y (bYT _ a)) h;refine⟨cl,by rw[aZc j];exact g,i,d,λy a=>?_⟩;rcases bYQ.mp a with e|a
   ·cases e;exact absurd rfl j
   ·exact f y a
abbrev blk(X:Cx)(N:List Str)(sc:cXV)(cl:List (Str×Nat))(C:Nat)(s:bYK)(H:Hp)(ex:List Nat):Cx:=
 {X with N:=N,s₀:=s,H₀:=H,env:=compEnvC sc cl C X.env,outer:=X.stack,ex:=ex,fn:=λ_=>false,pn:= [],xe:=λ_ _=>False}
def sub(σ:St)(fr:List Nat)(o:Option V):St:=o::fr.map λi=>(σ[i]?).join
abbrev lsN(l:List (Str×cZF)):PySem.Scope:={kind:= .function,names:=l,isGenerator:=false,isCoroutine:=false,more:= [] }
def ixK{X:Cx}{K:bYI}(h:X.K=K:=by rfl):IxR X (bV8 K):=by subst h;exact yK
def ixT{X:Cx}{K:bYI}(h:X.K=K:=by rfl):IxR X (bKS K):=by subst h;exact yX
structure xJ(N:List Str)(osc:cXV)(x:Str)(names:List Str)(fr:List Nat)(sc:cXV):Prop where
 kind:sc.kind= .function
 nocell:∀y∈sc.names,y.2≠ .cell
 loc:∀y∈sc.names,y.2= .local->sc.names.lookup y.1=some .local
 var:sc.names.lookup x=some .local
 free:∀y∈sc.names,y.2= .free->osc.names.lookup y.1=some .cell\/osc.names.lookup y.1=some .free
 flk:∀y∈sc.names,y.2= .free->sc.names.lookup y.1=some .free
 nd:(x::names).Nodup
 len:fr.length=names.length
 taken:∀p∈names.zip fr,N[p.2]? =some p.1/\(p.1,NameKind.free)∈sc.names
def xJ.from_{N:List Str}{b sc:cXV}{x:Str}{names:List Str}{fr:List Nat}(S:xJ N b x names fr sc)(j:Nat)(y:Str)(h:names[j]? =some y):∃i,fr[j]? =some i/\N[i]? =some y/\(y,NameKind.free)∈sc.names:=by
 have e:j<names.length:=(bYS.mp h).1;have a:j<fr.length:=by rw[S.len];exact e
 have z:(names.zip fr)[j]? =some (y,fr[j]):=by rw[List.getElem?_zip_eq_some];exact⟨h,bYG a⟩
 obtain⟨c,d⟩:=S.taken _ (bY0 z);exact⟨fr[j],bYG a,c,d⟩
def bWf(X:Cx)(ifs:List Expr)(t:TT):Prop:=
 ∀ (pins:List (Nat×Obj))(s:bYK)(σ:St)(H:Hp)(Q:Bool->Hp->Prop),Inv X pins σ H s->t σ H Q->
  bYP (bYR X.prog X.w) X.A (forIn ifs true λc r=>if r=true then do let ok <- isTrue c X.env (eval c X.env);pure (cJp ok)else pure (cJp r)) (TP X pins σ Q) X.xe s
def bYa:TT:=λ_ H Q=>Q true H
def zV{X:Cx}:bWf X [] bYa:=λpins s σ H Q I h=>by
 simp only[List.forIn_nil];exact bYN ⟨H,I,h⟩
def wV{X:Cx}{c:Expr}{a:TT}(d:PT X c a):bWf X [c] a:=λpins s σ H Q I h=>by
 simp only[cJq,List.forIn_nil,if_true,bind_assoc,pure_bind];refine bYJ (thn (d pins s σ H Q I h) λb e z=>?_);exact bYN z
def bJo(J:It)(fr:List Nat)(tif:TT)(te:TE)(σ:St)(D:Nat)(Q:VK)(g:Hp):Prop:=
 ∃W:Nat->Nat->List V->Hp->Prop,(∃m,W 0 m [] g)/\∀i m a H,W i m a H->H D=some (.lst a)/\
  ((J.stop i H/\Q (.ref D) H)\/(J.go i H/\∀v f,J.yld i H v f->tif (sub σ fr (some v)) f λb d=>
   if b=true then te (sub σ fr (some v)) d λy e=>a.length<bY8/\e D=some (.lst a)/\∃c,c<m/\W (i+1) c (a++ [y]) (upd e D (.lst (a++ [y])))
   else ∃c,c<m/\W (i+1) c a d))
def tLc(wi:TI)(fr:List Nat)(tif:TT)(te:TE):TE:=λσ H Q=>wi σ H λJ a=>∀D,a D=none->bJo J fr tif te σ D Q (upd a D (.lst []))
def aXh{env:Env}:∀ {names:List (Str×cZF)} {y:Str},names.lookup y=some .free->
  (names.map λ(n,k)=>if(k==NameKind.free && env.scope.kind== .function && env.kindOf n==some .cell)then(n,NameKind.cell)else(n,k)).lookup y=some .cell\/
  (names.map λ(n,k)=>if(k==NameKind.free && env.scope.kind== .function && env.kindOf n==some .cell)then(n,NameKind.cell)else(n,k)).lookup y=some .free
 |[],_,h=>by simp at h
 |(n,k)::r,y,h=>by
  have b:= @aXh env r y;rw[cQx];dsimp only;cases a:y==n with
  |true=>
   rw[cXy,a]at h;cases h;split
   ·left;rw[cXy,a]
   ·right;rw[cXy,a]
  |false=>
   rw[cXy,a]at h;split
   ·rw[cXy,a];exact b h
   ·rw[cXy,a];exact b h
def aZI{env:Env}{sc:cXV}{y:Str}(h:sc.names.lookup y=some .free):(relabel sc env).names.lookup y=some .cell\/(relabel sc env).names.lookup y=some .free:=aXh h
section
variable {X:Cx}{pins:List (Nat×Obj)}{σ:St}{H:Hp}{s:bYK}
def bXg{prog:bY4}{w:cQa}{A:cQl}{R:Result->bYK->Prop}{s:bYK}{elt a iter:Expr}{ifs:List Expr}{scope:cXV}{pos:Pos}{it o:bYH}{env:Env}(I:Nat->bYK->Prop)
  (turn:∀n s,I n s->bYP (bYR prog w) A (pyNext it) (λr b=>match r with
   |none=>R (.ok .next) b
   |some v=>bYP (bYR prog w) A (cJx a it v) (λ_ e=>bYP (bYR prog w) A (assign a env v) (λ_ j=>
     bYP (bYR prog w) A (forIn ifs true λc r=>if r=true then do let ok <- isTrue c env (eval c env);pure (cJp ok)else pure (cJp r)) (λok d=>
      if ok=true then bYP (bYR prog w) A (eval elt env) (λx i=>
       bYP (bYR prog w) A (call (.builtin "list.append") [o,x]) (λ_ k=>∃m,m<n/\I m k) (λ_ _=>False) i) (λ_ _=>False) d
      else ∃m,m<n/\I m d) (λ_ _=>False) j) (λ_ _=>False) e) (λ_ _=>False) b) (λ_ _=>False) s)
  (n:Nat) (h:I n s):cXY (bYR prog w) A (.compLoop (.ListComp elt [⟨a,iter,ifs,0⟩] scope pos) 0 it o env) R s:=by
 refine codeAny_loop rfl I (λn s u=>?_) n h
 show bYP _ A ((compTurn (.ListComp elt [⟨a,iter,ifs,0⟩] scope pos) 0 it o env).onRaise (λx=>do cJa x env;theTreesLotGoes x)) _ _ s
 refine wpAny_noted ?_
 rw[compTurn_list]
 refine bYJ (cJi (bYJ (cQJ (turn n s u) (λr b g=>?_) λ_ _ z=>z.elim)))
 cases r with
 |none=>exact bYN g
 |some v=>
  refine bYJ (cQJ g (λ_ e l=>?_) λ_ _ z=>z.elim);refine bYJ (cQJ l (λ_ j p=>bYJ (cQJ p (λok d f=>?_) λ_ _ z=>z.elim)) λ_ _ z=>z.elim);cases ok with
  |false=>exact bYN ⟨rfl,f⟩
  |true=>refine bYJ (bYJ (cQJ f (λx i t=>bYJ (cQJ t (λ_ k q=>?_) λ_ _ z=>z.elim)) λ_ _ z=>z.elim));exact bYN (bYN ⟨rfl,q⟩)
def bZX{elt iter:Expr}{x:Str}{px:Pos}{ifs:List Expr}{sc:cXV}{pos:Pos}{names:List Str}{fr:List Nat}{tif:TT}{te:TE}{cl:List (Str×Nat)}{E:bYH->bYK->Prop}(S:xJ X.N X.env.scope x names fr sc)(hc:X.calm=true)
  (d:∀y c,cl.lookup y=some c->X.env.cells.lookup y=some c) (Z:∀y,(y,NameKind.free)∈sc.names->∃c,cl.lookup y=some c)
  (b5:∀cl C s H ex,bWf (blk X (x::names) sc cl C s H ex) ifs tif) (he:∀cl C s H ex,PE (blk X (x::names) sc cl C s H ex) elt te)
  {J:It} {it:Nat} {f:List Nat} {tn:Nat->Heap->Prop} {Q:VK} (I:Inv X pins σ H s) (T:bKt X.prog X.w X.K (.Name x px) J f it tn) (st:tn 0 s.heap) (hf:∀b∈f,bZI X pins H b)
  (q:∀D,H D=none->bJo J fr tif te σ D Q (upd H D (.lst []))) {RR:bYH->Nat->Result->bYK->Prop}
  (c1:∀D C F g,Inv X pins σ g F->g C=none->C≠X.env.locals->X.s₀.heap.objs.size<=C->(∀y c,X.env.cells.lookup y=some c->c≠C)->(∀p∈X.pn++pins,p.1≠C)->(∃m,F.heap.Ns C m)->Q (.ref D) g->RR (.ref D) C (.ok .next) F):
  bYP (bYR X.prog X.w) X.A (newList []) (λa6 s₃=>bYP (bYR X.prog X.w) X.A (newFunctionEnv sc X.env.globals cl [] X.env.qual none .none (some X.env)) (λY s₄=>
   cXY (bYR X.prog X.w) X.A (.compStart (.ListComp elt [⟨.Name x px,iter,ifs,0⟩] sc pos) 0 (.ref it) a6 {Y with scope:=relabel sc X.env}) (RR a6 Y.locals) s₄) E s₃) E s:=by
 refine cXH (wpAny_newFunctionEnv S.nocell (by intro y hy;simp at hy) (λt a3 a4=>?_) S.kind)
 dsimp only at a3 a4 ⊢
 have l:Inv X pins σ (upd H s.heap.objs.size (.lst [])) {s with heap:=s.heap.push {cls:= .type "list",dict:=none,data:= .seq ([]:List bYH).toArray} }:=I.lnew (t':=s.toks) (ys:= []) (its:= []) .nil (cQE _)
 have a9:=I.fresh
 obtain⟨W,⟨m0,w0⟩,turn⟩:=q s.heap.objs.size a9
 have a0:∀b∈f,∃o,s.heap.get? b=some o/\∀v,o.data≠ .cell v:=T.obj 0 _ st
 have hG:(s.heap.push {cls:= .type "list",dict:=none,data:= .seq ([]:List bYH).toArray}).objs.size=s.heap.objs.size+1:=cXg ..
 have kG:∀b o,s.heap.get? b=some o->(s.heap.push {cls:= .type "list",dict:=none,data:= .seq ([]:List bYH).toArray}).get? b=some o:=λb o e=>bYM _ e
 generalize c9:s.heap.push {cls:= .type "list",dict:=none,data:= .seq ([]:List bYH).toArray}=G at a3 a4 l hG kG ⊢
 generalize c6:s.heap.objs.size=D at a9 turn w0 hG l ⊢
 have keep:∀b o,G.get? b=some o->t.get? b=some o:=λb o e=>a4.extBut b o (bY7 (bYV e)) (bYM _ e)
 have a7:∀b∈f,b≠G.objs.size:=λb a=>by obtain⟨o,e,_⟩:=a0 b a;exact bY7 (bYV (kG b o e))
 have a1:∀y c,X.env.cells.lookup y=some c->c≠G.objs.size:=λy c e=>by obtain⟨v,z⟩:=l.cell y c e;exact bY7 z.lt
 have b6:(blk X (x::names) sc cl G.objs.size {s with heap:=G} (upd H D (.lst [])) f).Ok:=by
  refine⟨I.ok.mod,?_,I.ok.glob,I.ok.blt,bYO _,?_,?_,?_,I.ok.hd,I.ok.frames,.inl rfl,?_,l.bs,cQn I.ok.bsz l.sz,?_,?_,l.stack,l.stkFree⟩
  ·show(relabel sc X.env).kind= .function;exact S.kind
  ·exact λy z c h1 h2=>I.ok.inj y z c (d y c h1) (d z c h2)
  ·intro y hy;have c5:(relabel sc X.env).names.lookup y=some .cell\/(relabel sc X.env).names.lookup y=some .free:=hy;have U:(y,NameKind.cell)∈(relabel sc X.env).names\/(y,NameKind.free)∈(relabel sc X.env).names:=c5.imp cXa cXa;have c2:(y,NameKind.free)∈sc.names:=by
    rcases U with U|U
    ·obtain⟨⟨n,k⟩,hn,e⟩:=cQH.mp (show(y,NameKind.cell)∈sc.names.map _ from U);dsimp only at e;split at e
     ·rename_i L;cases e;have:k= .free:=by
       simp only[Bool.and_eq_true,beq_iff_eq]at L;exact L.1.1
      rw[this]at hn;exact hn
     ·cases e;exact absurd rfl (S.nocell _ hn)
    ·obtain⟨⟨n,k⟩,hn,e⟩:=cQH.mp (show(y,NameKind.free)∈sc.names.map _ from U);dsimp only at e;split at e
     ·cases e
     ·cases e;exact hn
   exact Z y c2
  ·exact λy c h _=>by cases h
  ·intro b a;exact⟨a7 b a,λy c e=>(hf b a).2.2.2.2.1 y c (d y c e)⟩
  ·intro b o e a;obtain⟨f0,f1,f2,f3,f4,f5⟩:=hf b a;rcases f3 with z|z
   ·exact I.ok.noex b o e z
   ·exact absurd (bY9 (bYV e) (cQn I.ok.bsz z)) (cQQ _)
  ·intro b a z;obtain⟨f0,f1,f2,f3,f4,f5⟩:=hf b a;rcases bYQ.mp (I.stkSub b z)with z|z
   ·exact f1 z
   ·exact f2 z
 have IY:Inv (blk X (x::names) sc cl G.objs.size {s with heap:=G} (upd H D (.lst [])) f) [] (sub σ fr none) (upd H D (.lst [])) {s with heap:=t,toks:=s.toks+([]:List (Str×bYH)).length}:=by
  refine⟨b6,rfl,I.bare,Un.kept keep,⟨_,a3,?_⟩,?_,l.hok.fresh (bYO _),λy c e=>l.freeC y c (d y c e),λp hp=>absurd (show p∈([]:List (Nat×Obj))from hp) (by simp),l.hok.kept keep,?_⟩
  ·intro i y v h1 h2 h3;cases i with
   |zero=>cases h2
   |succ j=>
    have c3:names[j]? =some y:=h1;obtain⟨i',e1,e2,e3⟩:=S.from_ j y c3;have c4:σ[i']? =some (some v):=by
     have z:(fr.map λi=>(σ[i]?).join)[j]? =some (some v):=h2;rw[bY1,e1]at z;have P:(σ[i']?).join=some v:=bY3 z;cases q:σ[i']? with
     |none=>rw[q]at P;cases P
     |some o=>rw[q]at P;rw[show o=some v from P]
    obtain⟨m,hn,hl⟩:=l.loc;have b2:Vis X.env.scope y:= .inr (S.free _ e3 rfl);obtain⟨u,ru,lk⟩:=hl i' y v e2 c4 b2;refine⟨u,ru,.inr ⟨?_,?_⟩⟩
    ·exact aZI (S.flk _ e3 rfl)
    ·rcases lk with⟨k,_⟩|⟨k,c,e,z⟩
     ·rcases S.free _ e3 rfl with z|z
      ·have P:X.env.kindOf y=some .cell:=z;rw[k]at P;cases P
      ·have P:X.env.kindOf y=some .free:=z;rw[k]at P;cases P
     ·obtain⟨c',e'⟩:=Z y e3;have:=d y c' e';rw[e]at this;cases this;exact⟨c,e',z.keeps keep⟩
  ·intro y c e;obtain⟨v,z⟩:=l.cell y c (d y c e);exact⟨v,z.keeps keep⟩
  ·show(sub σ fr none).length=(x::names).length;simp[sub,S.len]
 have b1:∀ {o:Option V} {g:Hp} {F:bYK} {pl:List (Nat×Obj)},Inv (blk X (x::names) sc cl G.objs.size {s with heap:=G} (upd H D (.lst [])) f) pl (sub σ fr o) g F->Inv X pins σ g F:=λ{o g F pl} I'=>
  l.call' (ch:=f) I'.os I'.base I'.hok I'.bare λb a=>by obtain⟨f0,f1,f2,f3,f4,f5⟩:=hf b a;exact⟨f3,f1,f4,f5⟩
 have M:∀ {g:Hp},(∀b∈f,g b=none)->∀b∈f,bZI (blk X (x::names) sc cl G.objs.size {s with heap:=G} (upd H D (.lst [])) f) [] g b:=λ{g} hn b a=>by
  obtain⟨f0,f1,f2,f3,f4,f5⟩:=hf b a;refine⟨hn b a,a7 b a,λz=>?_,.inl a,λy c e=>f4 y c (d y c e),λp hp=>absurd (show p∈([]:List (Nat×Obj))from hp) (by simp)⟩;rcases bYQ.mp (I.stkSub b z)with z|z
  ·exact f1 z
  ·exact f2 z
 have c8:∀b∈f,upd H D (.lst []) b=none:=λb a=>by
  obtain⟨o,e,_⟩:=a0 b a;have b8:b≠D:=by rw[<- c6];exact bY7 (bYV e)
  rw[yI b8];exact(hf b a).1
 have a8:tn 0 t:=T.keep 0 _ _ st λb a o e=>keep b o (kG b o e)
 have b4:cXY (bYR X.prog X.w) X.A (.compLoop (.ListComp elt [⟨.Name x px,iter,ifs,0⟩] sc pos) 0 (.ref it) (.ref D) (compEnvC sc cl G.objs.size X.env)) (RR (.ref D) G.objs.size) {s with heap:=t,toks:=s.toks+([]:List (Str×bYH)).length}:=by
  refine bXg (λn F=>∃i B o g,Inv (blk X (x::names) sc cl G.objs.size {s with heap:=G} (upd H D (.lst [])) f) [] (sub σ fr o) g F/\tn i F.heap/\(∀b∈f,g b=none)/\W i n B g) ?_ m0
   ⟨0,[],none,_,IY,a8,c8,w0⟩
  rintro n F ⟨i,B,o,g,I',a5,b3,w'⟩;obtain⟨hD,b7⟩:=turn i n B g w';rcases b7 with⟨b0,qn⟩|⟨go,step⟩
  ·refine thn (T.done (blk X (x::names) sc cl G.objs.size {s with heap:=G} (upd H D (.lst [])) f) rfl rfl rfl hc i [] F _ g (λ_ _=>False) I' (M b3) a5 b0) λr s1 ⟨hr,I1⟩=>?_;subst hr;obtain⟨mC,c0,_⟩:=I1.loc;exact c1 D G.objs.size s1 g (b1 I1) I1.free (cZm l.lt) l.sz a1 (λp hp=>bY7 (bYV (l.pin p hp).1)) ⟨mC,c0⟩ qn
  ·refine thn (T.item (blk X (x::names) sc cl G.objs.size {s with heap:=G} (upd H D (.lst [])) f) rfl rfl rfl hc i [] F _ g (λ_ _=>False) I' (M b3) a5 go) λr s1 ⟨u,hr,h1⟩=>?_;subst hr;refine thn h1 λ_ s2 ⟨v,H2,I2,rv,yl,st2,fr2⟩=>?_;have b9:=I2.pinned (M fr2) (T.obj _ _ st2);have pg:PG (blk X (x::names) sc cl G.objs.size {s with heap:=G} (upd H D (.lst [])) f) (.Name x px) (yW 0):=xB S.nd rfl (.inl (lookup_relabel_local S.var)) (.inr (lookup_relabel_local S.var));have O:∀ {o:Option V} {H3:Hp} {s3:bYK},Inv (blk X (x::names) sc cl G.objs.size {s with heap:=G} (upd H D (.lst [])) f) ([]++aZG f s2.heap) (sub σ fr o) H3 s3->tn (i+1) s3.heap/\∀b∈f,H3 b=none:=λ{o H3 s3} J3=>by
    refine⟨T.keep _ _ _ st2 λb a ob e=>(J3.pin (b,ob) (bY6 _ (bY6 _ (jB a e)))).1,λb a=>?_⟩;obtain⟨ob,e,_⟩:=T.obj _ _ st2 b a;exact(J3.pin (b,ob) (bY6 _ (bY6 _ (jB a e)))).2.1
   refine thn (pg _ s2 _ H2 v u (λσ' c7=>σ'=sub σ fr (some v)/\c7=H2) b9 rv ⟨rfl,rfl⟩) λ_ s3 ⟨σ3,H3,I3',e3,e3'⟩=>?_;subst e3;subst e3';refine thn (b5 cl G.objs.size {s with heap:=G} (upd H D (.lst [])) f _ s3 _ _ _ I3' (step v _ yl)) λb s4 ⟨H4,I4,q4⟩=>?_;cases b with
   |false=>have a2:∃R,R<n/\W (i+1) R B H4:=q4;obtain⟨R,U,w4⟩:=a2;obtain⟨z1,z2⟩:=O I4;show ∃m,m<n/\_;exact⟨R,U,i+1,B,some v,H4,I4.unpinned,z1,z2,w4⟩
   |true=>have a2:te (sub σ fr (some v)) H4 λy H5=>B.length<bY8/\H5 D=some (.lst B)/\∃R,R<n/\W (i+1) R (B++ [y]) (upd H5 D (.lst (B++ [y]))):=q4;show bYP _ _ _ _ _ _;refine thn (he cl G.objs.size {s with heap:=G} (upd H D (.lst [])) f _ s4 _ _ _ I4 a2) λue s5 ⟨y,H5,I5,r5,hl,hD5,R,U,w5⟩=>?_;refine thn (xL _ s5 _ H5 (.ref D) [y] (.ref D) [ue] (λ_ H6=>H6=upd H5 D (.lst (B++ [y]))) I5 rfl (.cons r5 .nil) ⟨D,B,y,rfl,rfl,hD5,hl,rfl⟩) λ_ s6 ⟨_,H6,I6,_,e6⟩=>?_;subst e6;obtain⟨z1,z2⟩:=O I6;exact⟨R,U,i+1,B++ [y],some v,_,I6.unpinned,z1,z2,w5⟩
 exact codeAny_compStart_list b4 (T.self _ 0 _ _ _ a8 b4)
def aJp{sc:cXV}{x:Str}{names:List Str}{fr:List Nat}(S:xJ X.N X.env.scope x names fr sc)(I:Inv X pins σ H s): ∃cl,closureFor sc X.env=pure cl/\(∀y c,cl.lookup y=some c->X.env.cells.lookup y=some c)/\(∀y,(y,NameKind.free)∈sc.names->∃c,cl.lookup y=some c):=by
 obtain⟨cl,f,a,_,g⟩:=aJe (env:=X.env) sc.names [] (λy b d=>I.ok.has y.1 (S.free y b d)) (λy c e=>by simp at e);exact⟨cl,f,a,g⟩
end
section
variable {X:Cx}{elt iter:Expr}{x:Str}{px:Pos}{ifs:List Expr}{sc:cXV}{pos:Pos}{names:List Str}{fr:List Nat}{wi:TI}{tif:TT}{te:TE}
def W6(S:xJ X.N X.env.scope x names fr sc)(z:X.calm=true)(p:PI X (.Name x px) iter wi)(c:∀cl C s H ex,bWf (blk X (x::names) sc cl C s H ex) ifs tif) (t:∀cl C s H ex,PE (blk X (x::names) sc cl C s H ex) elt te) (M:∀v,cJY iter X.env v=pure v:=by intro _;rfl):PE X (.ListComp elt [⟨.Name x px,iter,ifs,0⟩] sc pos) (tLc wi fr tif te):=by
 intro pins s σ H Q I h;obtain⟨cl,E,L,k⟩:=aJp S I;rw[eval_ListComp];refine cJ7 (use:=none) rfl M E S.kind S.loc (thn (p pins s σ H _ I h) λv V a=>thn a λF R d=>?_);obtain⟨Z,U,tn,J,Y,rfl,y,T,j,l,q⟩:=d;refine bZX (RR:=λf C=>compPost (bYR X.prog X.w) X.A X.xe none (EP X pins σ Q) f C) S z L k c t y T j l q ?_;intro D C n P u a d B i r g K;obtain⟨m,g⟩:=g;exact⟨m,g,λW G=>⟨.ref D,P,u.turned (t':=n.toks) (λb o O e=>(G.2 b O).trans e) a (cQr (cQr d)) (.inr B) i r,rfl,K⟩⟩
def aZH{i:Nat}{y:Str}{f c:Pos}(S:xJ X.N X.env.scope x names fr sc)(W:X.calm=true)(U:X.N.Nodup)(F:X.N[i]? =some y)(hl:X.env.scope.names.lookup y=some .local)(M:PI X (.Name x px) iter wi)
  (k:∀cl C s H ex,bWf (blk X (x::names) sc cl C s H ex) ifs tif) (P:∀cl C s H ex,PE (blk X (x::names) sc cl C s H ex) elt te)
  (l:swapsWith (.ListComp elt [⟨.Name x px,iter,ifs,0⟩] sc pos) (some (.Name y f)) c.line X.env=pure true:=by rfl) (hs:∀v,cJY iter X.env v=pure v:=by intro _;rfl):
  PS X (.Assign [.Name y f] (.ListComp elt [⟨.Name x px,iter,ifs,0⟩] sc pos) c) (bKz (tLc wi fr tif te) (yW i)):=by
 intro pins s σ H D I h
 obtain⟨cl,Z,c2,G⟩:=aJp S I
 rw[exec_Assign_Name_used _ _ _ _ l]
 refine bYJ (cJi (bYJ ?_))
 show bYP _ X.A (do let _ <- comprehension (.ListComp elt [⟨.Name x px,iter,ifs,0⟩] sc pos) sc X.env _ (newList []) false (eval iter X.env) (some (assign (.Name y f) X.env))) _ _ s
 refine bYJ (cQJ (cJ7 (use:=some (assign (.Name y f) X.env)) (Q:=λ_ d=>SP X pins D .next d) rfl hs Z S.kind S.loc (thn (M pins s σ H _ I h) λv s1 j=>thn j λa0 s2 g=>?_)) (λ_ d r=>bYN (bYN r)) λ_ _ e=>e)
 obtain⟨it,fp,tn,J,H1,rfl,V,T,E,K,q⟩:=g
 refine bZX (RR:=λt C=>compPost (bYR X.prog X.w) X.A X.xe (some (assign (.Name y f) X.env)) (λ_ d=>SP X pins D .next d) t C) S W c2 G k P V T E K q ?_
 intro L C d H' R j g Y B O z r
 obtain⟨m,z⟩:=z
 show bYP _ X.A (assign (.Name y f) X.env (.ref L)) _ _ d
 refine wpAny_assign_Name (aQR R U F (.inl hl) (v:= .ref L) rfl (λs'' I'' ⟨a,sb,u⟩=>?_) (.inr hl))
 have p:C≠a:=by
  rcases u with rfl|u
  ·exact g
  ·exact cQr (B y a u)
 exact⟨m,z.sameBut sb p,λh' n=>⟨_,H',I''.turned (t':=s''.toks) (λb o hb e=>(n.2 b hb).trans e) j g (.inr Y) B O,r⟩⟩
end
def aZu{K:bYI}{a:Nat}{xs:List V}{fr:List Nat}{tif:TT}{te:TE}{σ:St}{D:Nat}{Q:VK}{H:Hp}(p:V->Bool)(f:V->V)(hl:SqL K H a xs)(s:H D=none)(hz:xs.length<=bY8) (z:∀v∈xs,∀ (c:Hp)(R:Bool->Hp->Prop),(∀b,b≠D->c b=H b)->R (p v) c->tif (sub σ fr (some v)) c R) (w:∀v∈xs,p v=true->∀ (c:Hp)(R:VK),(∀b,b≠D->c b=H b)->R (f v) c->te (sub σ fr (some v)) c R) (x:Q (.ref D) (upd H D (.lst ((xs.filter p).map f)))):bJo (Itl K a) fr tif te σ D Q (upd H D (.lst [])):=by
 have d:∀g,SqL K (upd H D (.lst g)) a xs:=λg=>by
  rcases hl with(h|⟨o,h⟩)|h
  ·exact .inl (.inl (by rw[yI (yJ h s)];exact h))
  ·exact .inl (.inr ⟨o,by rw[yI (yJ h s)];exact h⟩)
  ·exact .inr h
 refine⟨λi m g c=>m=xs.length - i/\i<=xs.length/\g=((xs.take i).filter p).map f/\c=upd H D (.lst g),⟨xs.length,by simp,cQE _,by simp,rfl⟩,?_⟩;rintro i m g c ⟨rfl,E,rfl,rfl⟩;refine⟨yB,?_⟩;by_cases e:i<xs.length
 ·refine .inr ⟨⟨xs,xs[i],d _,bYG e⟩,λv C u=>?_⟩;obtain⟨rfl,y⟩:=u;have r:xs[i]? =some v:=y xs (d _);have j:v∈xs:=bY0 r;have n:xs.take (i+1)=xs.take i++ [v]:=by rw[cQP,r];rfl
  have l:∀b,b≠D->upd H D (.lst (((xs.take i).filter p).map f)) b=H b:=λb A=>yI A;have k:(((xs.take i).filter p).map f).length<bY8:=by rw[bYL];have t:=cQM p (xs.take i);rw[cQV]at t;omega
  refine z v j _ _ l ?_;cases q:p v with
  |false=>show ∃B,_;refine⟨xs.length - (i+1),by omega,rfl,e,?_,rfl⟩;rw[n,cQT,cXm (by rw[q];decide)];simp
  |true=>show te _ _ _;refine w v j q _ _ l ⟨k,yB,xs.length - (i+1),by omega,rfl,e,?_,by rw[uT]⟩;rw[n,cQT,cXn q];simp
 ·obtain rfl:i=xs.length:=by omega
  refine .inl ⟨⟨xs,d _,bYO _⟩,?_⟩;rw[cQI];exact x
end L2
namespace L2
open PySem
def lcM{N:List Str}{osc:Scope}{x:Str}{names:List Str}{fr:List Nat}{sc:Scope}(h:decide (sc.kind=.function/\(∀y∈sc.names,y.2≠.cell)/\(∀y∈sc.names,y.2=.local->sc.names.lookup y.1=some .local)/\sc.names.lookup x=some .local/\(∀y∈sc.names,y.2=.free->osc.names.lookup y.1=some .cell\/osc.names.lookup y.1=some .free)/\(∀y∈sc.names,y.2=.free->sc.names.lookup y.1=some .free)/\(x::names).Nodup/\fr.length=names.length/\∀p∈names.zip fr,N[p.2]?=some p.1/\(p.1,NameKind.free)∈sc.names)=true:=by decide +kernel):xJ N osc x names fr sc:=
 have z:=of_decide_eq_true h;⟨z.1,z.2.1,z.2.2.1,z.2.2.2.1,z.2.2.2.2.1,z.2.2.2.2.2.1,z.2.2.2.2.2.2.1,z.2.2.2.2.2.2.2.1,z.2.2.2.2.2.2.2.2⟩
end L2
namespace Stb
open PySem
def bQI(xs:Array Nat):Prop:=∀i j:Nat,i<j->j<xs.size->xs.getD i 0<xs.getD j 0
def bJE{xs:Array Nat}{i:Nat}(h:i<xs.size)(d e:Nat):xs.getD i d=xs.getD i e:=by
 simp[cZc,h]
def aJl{xs:Array Nat}{j:Nat}(f:bQI xs):∀ (a c b:Nat),b<=xs.size->c<=b->b - c<=a->
  (∀k,k<c->xs.getD k 0<j)->(∀k,b<=k->k<xs.size->j<=xs.getD k 0)->
  (∀k,k<cZI xs j a c b->xs.getD k 0<j)/\(∀k,cZI xs j a c b<=k->k<xs.size->j<=xs.getD k 0)/\cZI xs j a c b<=xs.size
 |0,c,b,h1,h2,h3,h4,h5=>by
  have e:c=b:=by omega
  subst e;unfold cZI;exact⟨h4,h5,h1⟩
 |a+1,c,b,h1,h2,h3,h4,h5=>by
  unfold cZI;by_cases hl:c<b
  ·rw[if_pos hl];dsimp only;have i:(c+b) / 2<xs.size:=by omega
   have e:=bJE i j 0;by_cases h:xs.getD ((c+b) / 2) j<j
   ·rw[if_pos h];refine aJl f a _ _ h1 (by omega) (by omega) (λk l=>?_) h5;by_cases d:k=(c+b) / 2
    ·subst d;omega
    ·have:=f k ((c+b) / 2) (by omega) i;omega
   ·rw[if_neg h];refine aJl f a _ _ (by omega) (by omega) (by omega) h4 (λk l d=>?_);by_cases g:k=(c+b) / 2
    ·subst g;omega
    ·have:=f ((c+b) / 2) k (by omega) d;omega
  ·rw[if_neg hl];have e:c=b:=by omega
   subst e;exact⟨h4,h5,h1⟩
def uW{xs:Array Nat}(a:bQI xs)(j:Nat): (∀k,k<cQG xs j->xs.getD k 0<j)/\(∀k,cQG xs j<=k->k<xs.size->j<=xs.getD k 0)/\cQG xs j<=xs.size:=by
 unfold cQG;exact aJl a xs.size 0 xs.size (bYO _) (cQE _) (by omega) (λk b=>absurd b (cXu _)) (λk c d=>by omega)
def aV4{xs:Array Nat}(c:bQI xs){i:Nat}(f:i<xs.size):cQG xs (xs.getD i 0+1)=i+1:=by
 obtain⟨d,e,g⟩:=uW c (xs.getD i 0+1);have a:i<cQG xs (xs.getD i 0+1):=by apply Nat.lt_of_not_le;intro h;have:=e i h f;omega
 have b:¬i+1<cQG xs (xs.getD i 0+1):=λh=>by have q:=d (i+1) h;have:=c i (i+1) (by omega) (by omega);omega
 omega
def aV5{xs:Array Nat}(b:bQI xs):cQG xs 0=0:=by
 obtain⟨a,c,d⟩:=uW b 0;apply Nat.le_antisymm _ (cQE _);apply Nat.le_of_not_lt;intro h;have:=a 0 h;omega
def aXx{α:Type}(xs:Array α)(p:Nat)(x:α)(h:p<=xs.size):(cZJ xs p x).size=xs.size+1:=by
 unfold cZJ;simp;omega
def Z1{xs:Array Nat}{p x k:Nat}(h:p<=xs.size):(cZJ xs p x).getD k 0=if k<p then xs.getD k 0 else if k=p then x else xs.getD (k - 1) 0:=by
 unfold cZJ;have f:(xs.extract 0 p).size=p:=by simp;omega
 have d:((xs.extract 0 p).push x).size=p+1:=by rw[Array.size_push,f]
 simp only[Array.getD_eq_getD_getElem?];by_cases b:k<p
 ·rw[if_pos b,cJP (by omega),Array.getElem?_push,if_neg (by omega),cJF (by omega)];have a:k<xs.size:=by omega
  simp[a]
 ·rw[if_neg b];by_cases c:k=p
  ·subst c;rw[if_pos rfl,cJP (by omega),Array.getElem?_push,if_pos (by omega)];rfl
  ·rw[if_neg c,Array.getElem?_append_right (by omega),d];by_cases g:k - (p+1)<xs.size - p
   ·rw[cJF (by omega)];have a:k - 1<xs.size:=by omega
    have e:p+(k - (p+1))=k - 1:=by omega
    simp[a,e]
   ·rw[cZC (by simp;omega),cZC (by omega)]
def aJM{xs:Array Nat}(b:bQI xs){j:Nat}(l:∀k,k<xs.size->xs.getD k 0≠j):bQI (cZJ xs (cQG xs j) j):=by
 obtain⟨b1,f,e⟩:=uW b j;intro i k d h;rw[aXx _ _ _ e]at h;rw[Z1 e,Z1 e];by_cases c:i<cQG xs j
 ·rw[if_pos c];have v:=b1 i c;by_cases g:k<cQG xs j
  ·rw[if_pos g];exact b i k d (by omega)
  ·rw[if_neg g];by_cases a:k=cQG xs j
   ·rw[if_pos a];exact v
   ·rw[if_neg a];have:=f (k - 1) (by omega) (by omega);omega
 ·rw[if_neg c,if_neg (show ¬k<cQG xs j by omega),if_neg (show ¬k=cQG xs j by omega)];by_cases a:i=cQG xs j
  ·rw[if_pos a];have:=f (k - 1) (by omega) (by omega);have:=l (k - 1) (by omega);omega
  ·rw[if_neg a];exact b (i - 1) (k - 1) (by omega) (by omega)
def aWT(n:Nat):bQI (Array.range n):=by
 intro i j b a;rw[Array.size_range]at a;simp[cZc,a,Nat.lt_trans b a,b]
def aYF{l:List Nat}(h:l.Pairwise (·<·)):bQI l.toArray:=by
 intro i j b d;have a:j<l.length:=by simpa using d
 have c:i<l.length:=Nat.lt_trans b a;have:=cZd.mp h i j c a b;simp[cZc,a,c,this]
structure Tab(b:Bool)(t:cXs):Prop where
 rise:bQI t.place
 dum:t.dummies= #[]
 led:b=true\/t.led=true
def aKM(j:Nat):SetTable.has #[] j=false:=by
 unfold SetTable.has;simp
def bZn{b:Bool}{t:cXs}(T:Tab b t){j:Nat}(h:t.slot j= .empty):∀k,k<t.place.size->t.place.getD k 0≠j:=by
 intro k a e;obtain⟨b1,d,l⟩:=uW T.rise j;have c:cQG t.place j=k:=by
  have i:¬k<cQG t.place j:=λh=>by have:=b1 k h;omega
  have g:¬cQG t.place j<k:=λh=>by have:=d _ (bYO _) (by omega);have:=T.rise _ k h a;omega
  omega
 unfold SetTable.slot at h;dsimp only at h;rw[c]at h;have f:t.place[k]? =some j:=by
  rw[cQ8 a];have:t.place.getD k 0=t.place[k]:=by simp[cZc,a]
  rw[<- this,e]
 rw[f]at h;simp at h
def bZm{b:Bool}{t:cXs}(T:Tab b t)(j:Nat):t.slot j≠ .dummy:=by
 unfold SetTable.slot;dsimp only;rw[T.dum,aKM];split<;> simp
def aXg{b:Bool}{t:cXs}(T:Tab b t)(f:Nat->Int)(h:Int):∀ (a:Nat)(p:SetTable.Probe),p.dummy=none->∀j d,cJW t f h a p=some (.empty j d)->t.slot j= .empty/\d=none
 |0,p,_,j,d,e=>by unfold cJW at e;cases e
 |a+1,p,hp,j,d,e=>by
  have c:(t.advance p).dummy=none:=by
   unfold SetTable.advance;split
   ·exact hp
   ·exact hp
  unfold cJW at e;cases q:t.slot p.j with
  |empty=>rw[q]at e;simp only[cJU,SetTable.Met.empty.injEq]at e;obtain⟨rfl,rfl⟩:=e;exact⟨q,hp⟩
  |dummy=>exact absurd q (bZm T _)
  |live i=>
   rw[q]at e;dsimp only at e;split at e
   ·cases e
   ·exact aXg T f h a _ c j d e
def v8{b:Bool}{t:cXs}(T:Tab b t)(n:Nat):Tab b (t.standIn n):=⟨aWT n,rfl,T.led⟩
def aWo{b:Bool}{t:cXs}(T:Tab b t)(l:Array (Int×bYH))(h:Int)(x:bYH):Tab b (layNew t l h x).2.1:=by
 unfold layNew;cases q:t.freeSlot h with
 |none=>exact v8 T _
 |some k=>
  obtain⟨a,m⟩:=k;dsimp only;have g:t.slot a= .empty:=by
   unfold SetTable.freeSlot at q;split at q
   ·rename_i j d e;simp only[cJU,Prod.mk.injEq]at q;obtain⟨f,i⟩:=aXg T _ h _ _ rfl j d e;rw[<- q.1,i];exact f
   ·cases q
  have c:Tab b (t.put a).1:=by unfold SetTable.put;dsimp only;refine⟨aJM T.rise (bZn T g),?_,T.led⟩;rw[T.dum,aKM];rfl
  unfold SetTable.orStandIn;split
  ·exact c
  ·exact v8 c _
def aZJ{b:Bool}{t:cXs}(T:Tab b t)(h:Array (Int×bYH))(c:Nat):Tab b (relayAll t h c).2.1:=by
 unfold relayAll;cases q:t.relaid (h.map (·.1)) c with
 |none=>exact v8 T _
 |some r=>
  obtain⟨n,g⟩:=r;dsimp only;have m:Tab b n:=by
   unfold SetTable.relaid SetTable.laid at q;simp only[Option.bind_eq_bind,Option.bind_eq_some_iff]at q;obtain⟨d,_,e⟩:=q;simp only[Option.pure_def,cJU,Prod.mk.injEq]at e;obtain⟨rfl,_⟩:=e;refine⟨aYF ?_,rfl,T.led⟩;rw[List.map_filterMap];have sub:∀ (f:Nat->Option Nat),(∀j k,f j=some k->k=j)->∀l:List Nat,List.Sublist (l.filterMap f) l:=by
    intro f o l;induction l with
    |nil=>exact List.Sublist.slnil
    |cons a r i=>
     rw[cZs];cases e:f a with
     |none=>exact i.cons a
     |some k=>rw[o a k e];exact i.cons_cons a
   refine List.Pairwise.sublist (sub _ ?_ _) List.pairwise_lt_range;intro j k e;cases q:d.getD j none with
   |none=>rw[q]at e;cases e
   |some z=>rw[q]at e;simpa using e.symm
  split
  ·exact m
  ·exact v8 T _
def bQB{b a:Bool}(h:b=true\/a=true):Tab b (.fresh 0 0 a):=⟨λi j d c=>absurd c (cXu _),rfl,h⟩
end Stb
namespace Stb
open PySem
def Ent(a:List Int)(b:List (Int×bYH)):Prop:=cQA (λ(k:Int)(e:Int×bYH)=>e.1=hashInt k/\∃t,e.2=Value.int k t) a b
def Ent.mem_l:∀ {b:List Int} {c:List (Int×bYH)},Ent b c->∀k∈b,∃e∈c,∃t,e.2=Value.int k t
 |_,_,.nil,k,a=>by cases a
 |_,_,.cons r t,k,a=>by
  rcases bYQ.mp a with rfl|a
  ·exact⟨_,bYW ..,r.2⟩
  ·obtain⟨e,d,z⟩:=Ent.mem_l t k a;exact⟨e,bYT _ d,z⟩
def Ent.mem_r:∀ {b:List Int} {c:List (Int×bYH)},Ent b c->∀e∈c,∃k∈b,e.1=hashInt k/\∃t,e.2=Value.int k t
 |_,_,.nil,e,a=>by cases a
 |_,_,.cons r t,e,a=>by
  rcases bYQ.mp a with rfl|a
  ·exact⟨_,bYW ..,r⟩
  ·obtain⟨k,d,z⟩:=Ent.mem_r t e a;exact⟨k,bYT _ d,z⟩
def Ent.elems{prog:bY4}{w:cQa}{d:List Int}{b:List (Int×bYH)}(h:Ent d b):ElemsOf (intKind prog w) b:=λe f=>by
 obtain⟨k,_,c,t,a⟩:=h.mem_r e f;refine⟨⟨k,?_,c⟩,?_⟩
 ·rw[a];exact intKind_is prog w k t
 ·rw[a];rfl
def Ent.length{b:List Int}{a:List (Int×bYH)}(h:Ent b a):b.length=a.length:=cX0 h
def Ent.append:∀ {b ls:List Int} {a fs:List (Int×bYH)},Ent b a->Ent ls fs->Ent (b++ls) (a++fs)
 |_,_,_,_,.nil,s=>s
 |_,_,_,_,.cons r t,s=> .cons r (Ent.append t s)
def Ent.perm{g fs:List (Int×bYH)}(p:cJL g fs):∀ {a:List Int},Ent a g->∃b,Ent b fs/\b.Perm a:=by
 induction p with
 |nil=>exact λ{a} h=>⟨a,h,.rfl⟩
 |cons x p o=>
  intro a h;cases h with
  |cons r t=>obtain⟨b,c,d⟩:=o t;exact⟨_::b,.cons r c,d.cons _⟩
 |swap x y l=>
  intro a h;cases h with
  |cons r t=>
   cases t with
   |cons j k=>exact⟨_::_::_,.cons j (.cons r k),.swap ..⟩
 |trans p q f e=>intro a h;obtain⟨b,c,d⟩:=f h;obtain⟨m,n,i⟩:=e c;exact⟨m,n,i.trans d⟩
abbrev aJc(w:cQa):Bool:=w.params.followText "set-order"
def aQX(w:cQa)(h:Heap)(a:Nat)(d:List Int):Prop:=
 ∃o b e t c,h.get? a=some o/\o.ExactSet/\o.data= .set b e t/\Ent c b.toList/\c.Perm d/\d.Nodup/\b.size<cJb/\t.fits b.size=true/\Tab (aJc w) t
def aQX.at{w:cQa}{h h':Heap}{a:Nat}{b:List Int}(x:aQX w h a b)(k:∀o,h.get? a=some o->h'.get? a=some o):aQX w h' a b:=
 let ⟨o,es,ep,t,ls,ho,r⟩:=x;⟨o,es,ep,t,ls,k o ho,r⟩
def aQX.there{w:cQa}{h:Heap}{a:Nat}{b:List Int}(x:aQX w h a b):∃o,h.get? a=some o:=
 let ⟨o,es,ep,t,ls,ho,r⟩:=x;⟨o,ho⟩
def aQX.type{w:cQa}{s:bYK}{a:Nat}{b:List Int}(x:aQX w s.heap a b):s.TypeIs (.ref a) "set":=
 let ⟨o,es,ep,t,ls,ho,he,r⟩:=x;⟨o,ho,he.1⟩
def aYB{h:Heap}{a:Nat}{o:Obj}{f:Array (Int×bYH)}{d:Nat}{t:cXs}(e:h.get? a=some o)(c:o.data= .set f d t)(b:Array (Int×bYH))(t':cXs): (h.update a (Obj.putSet b t')).get? a=some {o with data:= .set b (d+1) t'}:=by
 have q:=cQL (Obj.putSet b t') e (by rw[putSet_of b t' c];rfl);rw[putSet_of b t' c]at q;exact q
section
variable {prog:bY4}{w:cQa}{A:cQl}{E:bYH->bYK->Prop}{s:bYK}
def aKL{b:Bool}{Q:Unit->bYK->Prop}(h:Q () s):bYP (bYR prog w) A (match b with|true=>rule "set.scan.the-table-gave-way"|false=>pure ()) Q E s:=by
 cases b
 ·exact bYN h
 ·exact wpAny_rule h
def bWj{a:Nat}{p:List Int}{k:Int}{tk:Tok}{Q:Bool->bYK->Prop}(hS:aQX w s.heap a p)(a7:p.length+1<cJb) (h:∀m b,cXL a s.heap m->aQX w m a (if k∈p then p else p++ [k])->Q b {s with heap:=m}): bYP (bYR prog w) A (setAddHashed a (.int k tk) (hashInt k)) Q E s:=by
 obtain⟨o,G,ep,t,ls,R,I,V,n,Z,U,hb,hf,hT⟩:=hS;have X:=n.elems (prog:=prog) (w:=w);have a9:G.size=p.length:=by rw[<- cQ2,<- n.length,Z.length_eq]
 unfold setAddHashed setAddHashedIn;refine cQ0 (bYJ (cZb R V hf ?_));dsimp only;rw[byScan_of (knd:=intKind prog w) rfl hb X];simp only[↓reduceIte];unfold setAddByScan;refine bYJ ?_;refine bYJ (wpAny_rule ?_);refine bYJ (wpAny_setScan_of (knd:=intKind prog w) (k:=k) (intKind_is prog w k tk) R V hf X ?_);cases hr:List.findIdx? (λe=>(intKind prog w).is k e.2) G.toList with
 |some j=>
  dsimp only;obtain⟨hj,a0,_⟩:=List.findIdx?_eq_some_iff_getElem.mp hr;have B:k∈p:=by
   obtain⟨k',a2,_,t',e'⟩:=n.mem_r _ (cXo hj);rw[e']at a0;have:k=k':=by have z:(k'==k)=true:=a0;exact(beq_iff_eq.mp z).symm
   rw[this];exact Z.mem_iff.mp a2
  refine bYN (bYN ?_);have q:=h s.heap false (Heap.SameBut.refl a s.heap) (by rw[if_pos B];exact⟨o,G,ep,t,ls,R,I,V,n,Z,U,hb,hf,hT⟩);exact q
 |none=>
  dsimp only;have B:k∉p:=λz=>by obtain⟨e,he,t',e'⟩:=n.mem_l k (Z.mem_iff.mpr z);have q:=List.findIdx?_eq_none_iff.mp hr e he;rw[e',intKind_is]at q;cases q
  rw[if_neg B]at h;have W:(p++ [k]).Nodup:=by rw[cZa];exact⟨U,cQ5 ..,λx hx y hy=>by rw[bYY.mp hy];rintro rfl;exact B hx⟩
  have d:=layNew_perm t G (hashInt k) (.int k tk);have f:=layNew_fits t G (hashInt k) (.int k tk);have g:=aWo hT G (hashInt k) (.int k tk);generalize hL:layNew t G (hashInt k) (.int k tk)=L at d f g ⊢;obtain⟨c,O,l,a8⟩:=L;dsimp only at d f g ⊢;rw[Array.toList_push]at d;obtain⟨S,F,a1⟩:=(n.append (ls:= [k]) (fs:= [(hashInt k,.int k tk)]) (.cons ⟨rfl,tk,rfl⟩ .nil)).perm d.symm;have D:S.Perm (p++ [k]):=a1.trans (Z.append_right [k]);have v:c.size<cJb:=by rw[<- cQ2,d.length_eq,bY5,cQ2];simpa using (by omega:G.size+1<cJb)
  have C:∀i:cXs,i.fits c.size=true->Tab (aJc w) i->
    bYP (bYR prog w) A (do
     storeSet a c i
     if(!l && i.tooFull)=true then do
       (match(relayAll i c (cZi c.size)).2.2 with|true=>rule "set.scan.the-table-gave-way"|false=>pure ())
       storeSet a (relayAll i c (cZi c.size)).1 (relayAll i c (cZi c.size)).2.1
       pure (some true)
      else pure (some true)) (λr s'=>∃m,r=some true/\s'= {s with heap:=m}/\cXL a s.heap m/\aQX w m a (p++ [k])) E s:=by
   intro i a6 T
   refine bYJ (wpAny_storeSet_of R V ?_ (cJX v))
   have H:=cQ9 s.heap a (Obj.putSet c i)
   have M:=aYB R V c i
   split
   ·have u:=relayAll_perm i c (cZi c.size);have N:=relayAll_fits i c (cZi c.size);have K:=aZJ T c (cZi c.size);generalize b0:relayAll i c (cZi c.size)=Rl at u N K ⊢;obtain⟨J,t3,a4⟩:=Rl;dsimp only at u N K ⊢;obtain⟨a3,Y,a5⟩:=F.perm u.symm;have P:J.size=c.size:=by rw[<- cQ2,u.length_eq,cQ2]
    refine bYJ (aKL ?_);refine bYJ (wpAny_storeSet_of M rfl ?_ (cJX (by rw[P];exact v)));refine bYN ⟨_,rfl,rfl,H.trans (cQ9 _ a _),_,J,_,t3,a3,aYB M rfl J t3,I,rfl,Y,a5.trans D,W,by rw[P];exact v,N,K⟩
   ·exact bYN ⟨_,rfl,rfl,H,_,c,_,i,S,M,I,rfl,F,D,W,v,a6,T⟩
  have done:∀ (r:Option Bool)(s':bYK),(∃m,r=some true/\s'= {s with heap:=m}/\cXL a s.heap m/\aQX w m a (p++ [k]))->
    bYP (bYR prog w) A (match r with|some added=>pure added|none=>setAddHashedIn a (.int k tk) (hashInt k) 99999) Q E s':=by
   rintro r s' ⟨m,rfl,rfl,h1,h2⟩
   exact bYN (h m true h1 h2)
  refine bYJ (aKL ?_);split
  ·refine bYJ ?_;rw[hashByValue_scannable 8 (show(Value.int k tk).scannable=true from rfl)];refine bYN ?_;have e:(if plainKind (Value.int k tk)=true then O else {O with plain:=false})=O:=rfl;rw[e];exact cQJ (C O f g) done λ_ _ z=>z
  ·refine bYJ (bYN ?_);simp only[↓reduceIte];exact cQJ (C O f g) done λ_ _ z=>z
end
end Stb
namespace Stb
open PySem
def zI:Slot "set_iterator" "__next__" "set_iterator.__next__":=
 .of (owner:="set_iterator") (n:="__next__") (by rw[typeLookup_type,cJn];kernel_rfl) dk dk dk
  (by first|exact .inl dk|exact .inr dk) (by rw[isSubtype_type];kernel_rfl)
def uY:entryFor table "set_iterator.__next__"=some cXv.«set_iterator.__next__»:=entryFor_of_tree (by kernel_rfl)
def aVx:Manifest.owners.lookup (String.ofList ['r', 'o', 't', 'a', 'r', 'e', 't', 'i', '_', 't', 'e', 's'].reverse)=some Manifest.sig_set_iterator:=by kernel_rfl
def qI(a:bYH):argsOk "set_iterator.__next__" ⟨[a],[]⟩:=by
 unfold argsOk;rw[signature?_of (id:="set_iterator.__next__") (n:= ['_', '_', 't', 'x', 'e', 'n', '_', '_']) (o:= ['r', 'o', 't', 'a', 'r', 'e', 't', 'i', '_', 't', 'e', 's']) (by kernel_rfl) aVx];kernel_rfl
def aWg:entryFor table "set.__iter__"=some cXv.«frozenset.__iter__»:=
 entryFor_alias (id':="frozenset.__iter__") (by kernel_rfl) rfl dk (by kernel_rfl)
def Z8:Slot "set_iterator" "__iter__" "set_iterator.__iter__":=
 .of (owner:="set_iterator") (n:="__iter__") (by rw[typeLookup_type,cJn];kernel_rfl) dk dk dk
  (by first|exact .inl dk|exact .inr dk) (by rw[isSubtype_type];kernel_rfl)
def uE(first:bYH)(i:Nat)(a:Nat)(n b:Nat):Obj:={cls:= .type "set_iterator",data:= .fields #[first,.int i 0,.ref a,.int n 0,.int b 0] }
section
variable {prog:bY4}{w:cQa}{A:cQl}{E:bYH->bYK->Prop}{s:bYK}
def bQz{I:Nat}{Q:Option bYH->bYK->Prop}{h₁:Heap}(g:A.handled=none)(h:cJh I s.heap h₁)(i:∀d,cJh I s.heap d->Q none {s with heap:=d}):
  bYP (bYR prog w) A.in1 (do raiseNew (<- newExc (.type "StopIteration") []):Sem PySem.Fin) (λf c=>∃r,f= .done (.ret r)/\bYP (bYR prog w) A (pure (some r)) Q E c)
   (λe c=>bYP (bYR prog w) A (do if <- cJw e (.type "StopIteration")then pure none else throw e) Q E c) {s with heap:=h₁}:=by
 refine bYJ ?_
 simp only[newExc,newTuple]
 refine bYJ (cXH ?_ (by size_fits))
 refine bYJ (m:=firstArgMember _ _) (wpAny_of_eq (a:=Value.none) (by first|rfl|(simp only[firstArgMember];rfl)) ?_)
 refine cXH ?_ (by size_fits)
 simp only[raiseNew]
 refine bYJ (wpAny_handled ?_)
 rw[show A.in1.handled=none from g]
 refine bYJ (bYN (wpAny_throw ?_))
 refine bYJ (wpAny_isInstance (T:="StopIteration") (b:=true) ⟨_,cQb _ rfl,rfl⟩ isSubtype_stop ?_)
 exact bYN (i _ ((h.push _).push _))
def aK7{I a:Nat}{o:Obj}{f:Array (Int×bYH)}{c:Nat}{t:cXs}{b i nx:Nat}{x:bYH}{Q:Option bYH->bYK->Prop} (r:s.heap.get? a=some o) (p:o.data= .set f c t) (l:t.fits f.size=true) (e:s.heap.get? I=some (uE (.int b 0) i a f.size c)) (m:∀ (k:Option (bYH×Nat)->bYK->Prop)(q:bYH->bYK->Prop)(u:cQl),k (some (x,nx)) s->bYP (bYR prog w) u (setNext a b i c) k q s) (n:∀h,h.get? I=some (uE (.int nx 0) (i+1) a f.size c)->cXL I s.heap h->Q (some x) {s with heap:=h}):bYP (bYR prog w) A (pyNext (.ref I)) Q E s:=by
 have j:s.TypeIs (.ref I) "set_iterator":=⟨_,e,rfl⟩;unfold pyNext;refine bYJ (cZZ (cZv (name:=cZ8 "__next__") j zI (cXC zI j uY ?_ (qI _))));unfold cXv.«set_iterator.__next__»;refine bYJ (bYN ?_);refine bYJ (cJI e rfl ?_);show bYP _ _ (setEntries a >>=_) _ _ s;refine bYJ (cZu r p l ?_);rw[if_neg (by simp)];show bYP _ _ (setNext a ((b:Int)).toNat ((i:Int)).toNat ((c:Int)).toNat >>=_) _ _ s;rw[cQc,cQc,cQc];refine bYJ (m _ _ _ ?_);show bYP _ _ (setField (.ref I) 0 (cQY nx) >>=_) _ _ s;refine bYJ (cXO e rfl (by simp) ?_);have d:=cQL (cQX (·.setIfInBounds 0 (cQY (nx:Int)))) e (cQ4 (cQ7 rfl _));refine bYJ (cXO d rfl (by simp) (bYN ⟨x,rfl,bYN (n _ ?_ ((cQ9 ..).trans (cQ9 ..)))⟩));have g:=cQL (cQX (·.setIfInBounds 1 (cQY ((i:Int)+1)))) d (cQ4 (cQ7 rfl _));exact g
end
end Stb
namespace Stb
open PySem
section
variable {prog:bY4}{w:cQa}{A:cQl}{E:bYH->bYK->Prop}{s:bYK}
def bQT{I a:Nat}{o:Obj}{e:Array (Int×bYH)}{c:Nat}{t:cXs}{b i:Nat}{Q:Option bYH->bYK->Prop}(m:A.handled=none) (q:s.heap.get? a=some o) (n:o.data= .set e c t) (j:t.fits e.size=true) (d:s.heap.get? I=some (uE (.int b 0) i a e.size c)) (k:∀ (h:Option (bYH×Nat)->bYK->Prop)(p:bYH->bYK->Prop)(r:cQl),h none s->bYP (bYR prog w) r (setNext a b i c) h p s) (l:∀g,cJh I s.heap g->Q none {s with heap:=g}):bYP (bYR prog w) A (pyNext (.ref I)) Q E s:=by
 have f:s.TypeIs (.ref I) "set_iterator":=⟨_,d,rfl⟩;unfold pyNext;refine bYJ (cZZ (cZv (name:=cZ8 "__next__") f zI (cXC zI f uY ?_ (qI _))));unfold cXv.«set_iterator.__next__»;refine bYJ (bYN ?_);refine bYJ (cJI d rfl ?_);show bYP _ _ (setEntries a >>=_) _ _ s;refine bYJ (cZu q n j ?_);rw[if_neg (by simp)];show bYP _ _ (setNext a ((b:Int)).toNat ((i:Int)).toNat ((c:Int)).toNat >>=_) _ _ s;rw[cQc,cQc,cQc];refine bYJ (k _ _ _ ?_);show bYP _ _ (setField (.ref I) 2 .none >>=_) _ _ s;refine bYJ (cXO d rfl (by simp) ?_);exact bQz m (cQ9 ..).extBut l
def bQ2{h:Heap}{I:Nat}{f:bYH}{i:Nat}{a:Nat}{n b:Nat}(c:h.get? I=some (uE f i a n b)): (h.update I (cQX (·.setIfInBounds 1 (cQY ((i:Int)+1))))).get? I=some (uE f (i+1) a n b):=by
 have q:=cQL (cQX (·.setIfInBounds 1 (cQY ((i:Int)+1)))) c (cQ4 (cQ7 (o:=uE f i a n b) rfl _));rw[q];rfl
def bQ1{h:Heap}{I:Nat}{f:bYH}{i:Nat}{a:Nat}{n b:Nat}(c:h.get? I=some (uE f i a n b)): (h.update I (cQX (·.setIfInBounds 0 (cQY (0:Int))))).get? I=some (uE (.int 0 0) i a n b):=by
 have q:=cQL (cQX (·.setIfInBounds 0 (cQY (0:Int)))) c (cQ4 (cQ7 (o:=uE f i a n b) rfl _));rw[q];rfl
def aWy{I a p:Nat}{o:Obj}{b:Array (Int×bYH)}{f:Nat}{t:cXs}{i j:Nat}{pl:Array bYH}{op:Obj}{c:Nat}{e:Int×bYH}{Q:Option bYH->bYK->Prop} (q:s.heap.get? a=some o) (n:o.data= .set b f t) (m:t.fits b.size=true) (d:s.heap.get? I=some (uE (.ref p) i a b.size f)) (u:s.heap.get? p=some op) (h:op.data= .seq pl c) (r:pl[i]? =some (.int j 0)) (x:b[j]? =some e) (v:∀g,g.get? I=some (uE (.ref p) (i+1) a b.size f)->cXL I s.heap g->Q (some e.2) {s with heap:=g}):bYP (bYR prog w) A (pyNext (.ref I)) Q E s:=by
 have l:s.TypeIs (.ref I) "set_iterator":=⟨_,d,rfl⟩;unfold pyNext;refine bYJ (cZZ (cZv (name:=cZ8 "__next__") l zI (cXC zI l uY ?_ (qI _))));unfold cXv.«set_iterator.__next__»;refine bYJ (bYN ?_);refine bYJ (cJI d rfl ?_);show bYP _ _ (setEntries a >>=_) _ _ s;refine bYJ (cZu q n m ?_);rw[if_neg (by simp)];show bYP _ _ (seqItems? (.ref p) >>=_) _ _ s;refine bYJ (wpAny_seqItems u h ?_);dsimp only;simp only[cQc,r];refine bYJ ?_;unfold setNextDrawn;refine bYJ (cZb q n m ?_);dsimp only;rw[if_neg (by simp)];obtain⟨y,ex⟩:=e;rw[x];refine bYN ?_;have k:=bQ2 d;refine bYJ (cXO d rfl (by simp) ?_);refine bYN ⟨ex,rfl,?_⟩;refine bYN ?_;exact v _ k (cQ9 s.heap I _)
def aKH{I a p:Nat}{o:Obj}{d:Array (Int×bYH)}{h:Nat}{t:cXs}{i:Nat}{pl:Array bYH}{op:Obj}{c:Nat}{Q:Option bYH->bYK->Prop}(q:A.handled=none) (v:s.heap.get? a=some o) (r:o.data= .set d h t) (m:t.fits d.size=true) (b:s.heap.get? I=some (uE (.ref p) i a d.size h)) (l:s.heap.get? p=some op) (e:op.data= .seq pl c) (k:pl[i]? =none) (n:∀j,cJh I s.heap j->Q none {s with heap:=j}):bYP (bYR prog w) A (pyNext (.ref I)) Q E s:=by
 have g:s.TypeIs (.ref I) "set_iterator":=⟨_,b,rfl⟩;unfold pyNext;refine bYJ (cZZ (cZv (name:=cZ8 "__next__") g zI (cXC zI g uY ?_ (qI _))));unfold cXv.«set_iterator.__next__»;refine bYJ (bYN ?_);refine bYJ (cJI b rfl ?_);show bYP _ _ (setEntries a >>=_) _ _ s;refine bYJ (cZu v r m ?_);rw[if_neg (by simp)];show bYP _ _ (seqItems? (.ref p) >>=_) _ _ s;refine bYJ (wpAny_seqItems l e ?_);dsimp only;simp only[cQc,k];refine bYJ (cXO b rfl (by simp) ?_);have f:=bQ1 b;refine bYJ (cXO f rfl (by simp) ?_);have u:=(cQ9 s.heap I (cQX (·.setIfInBounds 0 (cQY (0:Int))))).trans (cQ9 _ I (cQX (·.setIfInBounds 2 Value.none)));exact bQz (s:=s) q u.extBut n
def Y2{α:Type}:∀ {l:List α} {i:Nat} (h:i<l.length),cJL (l[i]::l.eraseIdx i) l
 |x::r,0,_=> .rfl
 |x::r,i+1,h=>by have a:=Y2 (l:=r) (i:=i) (by simpa using h);exact(List.Perm.swap ..).trans (a.cons x)
def aZF{α:Type}(f:Nat->Nat):∀ (a k:Nat)(left:List α)(out:Array α),left.length=a->cJL (cZP.go f a k left out).toList (out.toList++left)
 |0,k,left,out,h=>by have e:left= []:=List.length_eq_zero_iff.mp h;subst e;unfold cZP.go;rw[cQN]
 |a+1,k,left,out,h=>by unfold cZP.go;have b:f k % left.length<left.length:=Nat.mod_lt _ (by omega);rw[bYG b];dsimp only;refine(aZF f a (k+1) _ _ (by rw[List.length_eraseIdx,if_pos b];omega)).trans ?_;rw[Array.toList_push,cXd,List.singleton_append];exact(Y2 b).append_left _
def bZG{a:Nat}{o:Obj}{b:Array (Int×bYH)}{c:Nat}{t:cXs}{Q:Array (Int×bYH)->bYK->Prop}(f:s.heap.get? a=some o)(d:o.data= .set b c t)(e:t.fits b.size=true) (g:aJc w=true) (h:Q (cZP (w.params.setOrder a c) b) s):bYP (bYR prog w) A (setWalk a) Q E s:=by
 unfold setWalk setsByText;refine bYJ (cZb f d e ?_);dsimp only;refine bYJ (bYJ (cZr (bYN ?_)));show bYP (bYR prog w) A (if aJc w=true then _ else _) Q E s;rw[if_pos g];exact bYJ (cZr (bYN h))
def aK8{a:Nat}{o:Obj}{d:Array (Int×bYH)}{c:Nat}{t:cXs}{b i:Nat}{Q:Option (bYH×Nat)->bYK->Prop}(j:s.heap.get? a=some o)(f:o.data= .set d c t) (g:t.fits d.size=true) (k:aJc w=true) (h:Q (((cZP (w.params.setOrder a c) d)[i]?).map λe=>(e.2,b)) s):bYP (bYR prog w) A (setNext a b i c) Q E s:=by
 unfold setNext setsByText;refine bYJ (cZb j f g ?_);dsimp only;refine bYJ (bYJ (cZr (bYN ?_)));show bYP (bYR prog w) A (if aJc w=true then _ else _) Q E s;rw[if_pos k];rw[if_neg (by simp)];exact bYJ (bZG j f g k (bYN h))
def bXk{a:Nat}{o:Obj}{c:Array (Int×bYH)}{e:Nat}{t:cXs}{b i:Nat}{Q:Option (bYH×Nat)->bYK->Prop}(k:s.heap.get? a=some o)(f:o.data= .set c e t)
  (g:t.fits c.size=true) (l:aJc w=false) (d:(!t.plain && decide (c.size > 1))=false) (hl:t.led=true)
  (h:Q (match c[cQG t.place b]?,t.place[cQG t.place b]? with|some (_,x),some j=>some (x,j+1)|_,_=>none) s):bYP (bYR prog w) A (setNext a b i e) Q E s:=by
 unfold setNext setsByText
 refine bYJ (cZb k f g ?_)
 dsimp only
 refine bYJ (bYJ (cZr (bYN ?_)))
 show bYP (bYR prog w) A (if aJc w=true then _ else _) Q E s
 rw[l,if_neg (by decide)]
 show bYP (bYR prog w) A (if(!t.plain && decide (c.size > 1))=true then _ else _) Q E s
 rw[d,if_neg (by decide)]
 refine bYJ ?_
 show bYP (bYR prog w) A (if(!t.led && !c.isEmpty)=true then _ else _) _ E s
 rw[hl]
 simp only[Bool.not_true,Bool.false_and,Bool.false_eq_true,↓reduceIte]
 exact bYN (bYN h)
end
end Stb
namespace Stb
open PySem
def aX4(a:List Int)(vs:List bYH):Prop:=cQA (λ(k:Int)(v:bYH)=>∃t,v=Value.int k t) a vs
def Ent.vals:∀ {b:List Int} {a:List (Int×bYH)},Ent b a->aX4 b (a.map (·.2))
 |_,_,.nil=> .nil
 |_,_,.cons r t=> .cons r.2 (Ent.vals t)
def bXf{α:Type}{xs ys:List α}(hl:xs.length=ys.length)(h:∀ (j:Nat)(x:α),xs[j]? =some x->ys[j]? =some x):xs=ys:=by
 apply cXX;intro i;cases e:xs[i]? with
 |some x=>exact(h i x e).symm
 |none=>have:=cJ0.mp e;exact(cJ0.mpr (by omega)).symm
def X9{α β:Type}{f:α->Option β}:∀ {l:List α} (h:∀x∈l,(f x).isSome=true) (i:Nat),(l.filterMap f)[i]? =l[i]?.bind f
 |[],_,i=>by simp
 |x::r,h,i=>by
  obtain⟨y,e⟩:=Option.isSome_iff_exists.mp (h x (bYW ..));rw[List.filterMap_cons_some e];cases i with
  |zero=>simp[e]
  |succ i=>simpa using X9 (λz a=>h z (bYT _ a)) i
def aXu:entryFor table "set_iterator.__iter__"=some cXv.«dict_keyiterator.__iter__»:=
 entryFor_alias (id':="dict_keyiterator.__iter__") (by kernel_rfl) rfl dk (by kernel_rfl)
def aX6(a:bYH):argsOk "set_iterator.__iter__" ⟨[a],[]⟩:=by
 unfold argsOk;rw[signature?_of (id:="set_iterator.__iter__") (n:= ['_', '_', 'r', 'e', 't', 'i', '_', '_']) (o:= ['r', 'o', 't', 'a', 'r', 'e', 't', 'i', '_', 't', 'e', 's']) (by kernel_rfl) aVx];kernel_rfl
section
variable {prog:bY4}{w:cQa}{A:cQl}{E:bYH->bYK->Prop}{s:bYK}
def aKG{α:Type}:∀ (n:Nat)(xs:List α)(s:bYK)(Q:List α->bYK->Prop),xs.length=n->(∀b d,cJL b xs->Q b {s with drawn:=d})->bYP (bYR prog w) A (drawOrder n xs) Q E s
 |0,xs,s,Q,hl,h=>by have e:xs= []:=List.length_eq_zero_iff.mp hl;subst e;unfold drawOrder;exact bYN (h [] s.drawn .rfl)
 |n+1,[],s,Q,hl,h=>by cases hl
 |n+1,x::r,s,Q,hl,h=>by
  unfold drawOrder;have a:w.draws .order (s.drawn.get .order) % (x::r).length<(x::r).length:=Nat.mod_lt _ (Nat.succ_pos _);refine bYJ (m:=choose .order (x::r).length) ?_;have j:∀ (c:Nat->bYK->Prop),c (w.draws .order (s.drawn.get .order) % (x::r).length) {s with drawn:=s.drawn.bump .order}->bYP (bYR prog w) A (choose .order (x::r).length) c E s:=by intro c f Γ p hΓ;show Sem.wp _ _ (.choose .order (x::r).length .pure) _ _ _ _;rw[Sem.wp_choose];exact⟨Nat.succ_ne_zero _,f⟩
  refine j _ ?_;generalize k:w.draws .order (s.drawn.get .order) % (x::r).length=i at a ⊢;rw[bYG a];dsimp only;refine bYJ (aKG n _ _ _ (by rw[List.length_eraseIdx,if_pos a];simpa using hl) λb d g=>?_);exact bYN (h _ _ ((g.cons _).trans (Y2 a)))
def bQf{I a:Nat}{f:bYH}{i n d:Nat}{Q:bYH->bYK->Prop}(c:s.heap.get? I=some (uE f i a n d))(h:Q (.ref I) s):bYP (bYR prog w) A (pyIter (.ref I)) Q E s:=by
 have b:s.TypeIs (.ref I) "set_iterator":=⟨_,c,rfl⟩;refine wpAny_pyIter_slot b Z8 (cXC Z8 b aXu ?_ (aX6 _));show bYP _ _ (ret (.ref I)) _ _ s;exact bYN ⟨_,rfl,"set_iterator",_,b,zI.lookup,h⟩
def aKk{I a:Nat}{o:Obj}{es:Array (Int×bYH)}{ep:Nat}{t:cXs}{vs:List bYH}{g:Nat->Nat}(hd:o.data= .set es ep t)(hf:t.fits es.size=true)(hv:vs.length=es.size)(hne:a≠I)
  (hx:∀ (s:bYK)(i:Nat)(A':cQl)(E':bYH->bYK->Prop)(Q':Option (bYH×Nat)->bYK->Prop),s.heap.get? a=some o->i<=es.size->Q' ((vs[i]?).map λx=>(x,g (i+1))) s->bYP (bYR prog w) A' (setNext a (g i) i ep) Q' E' s)
  (hh:A.handled=none):Walks prog w A I [I,a] [I] es.size (λi v=>vs[i]? =some v) (λi h=>i<=es.size/\h.get? a=some o/\h.get? I=some (uE (.int (g i) 0) i a es.size ep)) where
 sub:=λb hb=>by simp at hb;simp[hb]
 frame:=λi h h' st k=>⟨st.1,k a (by simp) o st.2.1,k I (by simp) _ st.2.2⟩
 item:=λi s Q E hi st hQ=>by
  obtain⟨h1,h2,h3⟩:=st
  have hlt:i<vs.length:=by omega
  refine aK7 (nx:=g (i+1)) (x:=vs[i]) h2 hd hf h3 (λQ' E' A' hq=>hx s i A' E' Q' h2 h1 (by rw[bYG hlt];exact hq)) λh' hI' sb=>?_
  exact hQ _ h' s.toks (bYG hlt) ⟨by omega,sb.extBut a o hne h2,hI'⟩ λb ob hb e=>sb.extBut b ob (λz=>hb (by simp[z])) e
 done:=λs Q E st hQ=>by
  obtain⟨h1,h2,h3⟩:=st
  refine bQT hh h2 hd hf h3 (λQ' E' A' hq=>hx s es.size A' E' Q' h2 h1 (by rw[cQi (by omega)];exact hq)) λh' sb=>?_
  exact hQ h' s.toks λb ob hb e=>sb b ob (λz=>hb (by simp[z])) e
 self:=λi s Q E st hQ=>bQf st.2.2 hQ
def aVf{I a p:Nat}{o op:Obj}{es:Array (Int×bYH)}{ep c:Nat}{t:cXs}{vs:List bYH}{ys:List Nat}(hd:o.data= .set es ep t)(hf:t.fits es.size=true)(hv:ys.length=es.size)
  (hpd:op.data= .seq (ys.map λ(j:Nat)=>Value.int j 0).toArray c) (hne:a≠I) (hnp:p≠I) (hx:∀ (i j:Nat),ys[i]? =some j->∃e,es[j]? =some e/\vs[i]? =some e.2)
  (hh:A.handled=none):Walks prog w A I [I,a,p] [I] es.size (λi v=>vs[i]? =some v) (λi h=>i<=es.size/\h.get? a=some o/\h.get? p=some op/\h.get? I=some (uE (.ref p) i a es.size ep)) where
 sub:=λb hb=>by simp at hb;simp[hb]
 frame:=λi h h' st k=>⟨st.1,k a (by simp) o st.2.1,k p (by simp) op st.2.2.1,k I (by simp) _ st.2.2.2⟩
 item:=λi s Q E hi st hQ=>by
  obtain⟨h1,h2,h3,h4⟩:=st
  have hlt:i<ys.length:=by omega
  obtain⟨e,he,hve⟩:=hx i ys[i] (bYG hlt)
  refine aWy (j:=ys[i]) (e:=e) h2 hd hf h4 h3 hpd (by simp[hlt]) he λh' hI' sb=>?_
  exact hQ _ h' s.toks hve ⟨by omega,sb.extBut a o hne h2,sb.extBut p op hnp h3,hI'⟩ λb ob hb e=>sb.extBut b ob (λz=>hb (by simp[z])) e
 done:=λs Q E st hQ=>by
  obtain⟨h1,h2,h3,h4⟩:=st
  refine aKH hh h2 hd hf h4 h3 hpd (by simp[hv]) λh' sb=>?_
  exact hQ h' s.toks λb ob hb e=>sb b ob (λz=>hb (by simp[z])) e
 self:=λi s Q E st hQ=>bQf st.2.2.2 hQ
def bJK{a:Nat}{V:List Int}{Q:bYH->bYK->Prop}(hS:aQX w s.heap a V) (h:∀ (I:Nat)(h':Heap)(d:Drawn)(fp:List Nat)(St:Nat->Heap->Prop)(vs:List bYH)(ls:List Int),s.heap.objs.size<=I->(∀b∈fp,b=a\/s.heap.objs.size<=b)->(∀b∈fp,b<h'.objs.size)->aX4 ls vs->ls.Perm V-> (∀ (A:cQl),A.handled=none->Walks prog w A I fp [I] V.length (λi v=>vs[i]? =some v) St)->St 0 h'->(∀b o,s.heap.get? b=some o->h'.get? b=some o)-> Q (.ref I) {s with heap:=h',drawn:=d}):bYP (bYR prog w) A (pyIter (.ref a)) Q E s:=by
 have hT:=hS.type;obtain⟨o,f,r,t,ls,O,a7,H,G,Z,a9,l,B,M⟩:=hS;have J:f.size=V.length:=by rw[<- cQ2,<- G.length,Z.length_eq]
 have u:a<s.heap.objs.size:=bYV O;refine wpAny_pyIter_slot hT F.slot_set_iter (cXC F.slot_set_iter hT aWg ?_ (F.args_set_iter_1 _));unfold cXv.«frozenset.__iter__» Builtin.Frozenset.slot0 slotArgs;simp only[List.isEmpty_nil,Bool.not_true,Bool.false_eq_true,↓reduceIte,bind_assoc,cXQ,bne_self_eq_false];unfold Builtin.Frozenset.addrOf Builtin.Frozenset.sizeOf;refine bYJ (bYN ?_);try dsimp only
 refine bYJ (bYN ?_);refine bYJ (bYJ (cZu O H B (bYN ?_)));refine bYJ ?_;unfold setDrawn setsByText;refine bYJ (cZb O H B ?_);dsimp only;refine bYJ (bYJ (cZr (bYN ?_)));refine bYN ?_;refine cJz (λc=>?_) (λc=>?_)
 ·refine bYJ (aKG f.size (bYU f.size) s _ cQt λD d P=>?_);have U:D.length=f.size:=by rw[P.length_eq,cQt]
  have T:∀j∈D,j<f.size:=λj W=>cQf.mp (P.mem_iff.mp W);refine bYJ (wpAny_newTuple ?_ (by rw[bYL,U];exact cJX l));have a0:=bYM {cls:= .type "tuple",data:= .seq (D.map λ(i:Nat)=>cQY (i:Int)).toArray} O;refine bYJ (wpAny_setEpoch_of a0 H B ?_);refine bYJ (cXH (bYN ⟨_,rfl,"set_iterator",_,⟨_,cQb _ rfl,rfl⟩,zI.lookup,?_⟩));have R:cJL (D.filterMap λj=>f[j]?) f.toList:=(P.filterMap _).trans (by rw[filterMap_getElem?_range]);obtain⟨k,m,n⟩:=G.perm R.symm;have a3:∀ (i j:Nat),D[i]? =some j->∃e,f[j]? =some e/\((D.filterMap λj=>f[j]?).map (·.2))[i]? =some e.2:=λi j e=>by have W:j<f.size:=T j (bY0 e);refine⟨f[j],cQ8 W,?_⟩;rw[bY1,X9 (λx hx=>by rw[cQ8 (T x hx)];rfl),e,Option.bind_some,cQ8 W];rfl
  have fin:∀ (q:Heap)(Y:Obj),Y.data= .seq (D.map λ(i:Nat)=>Value.int i 0).toArray 0->q.objs.size=s.heap.objs.size+1->q.get? s.heap.objs.size=some Y->(∀b o,s.heap.get? b=some o->q.get? b=some o)->
    Q (.ref q.objs.size) {s with heap:=q.push (uE (.ref s.heap.objs.size) 0 a f.size r),drawn:=d}:=by
   intro q Y a2 y a4 hk
   refine h q.objs.size _ d [q.objs.size,a,s.heap.objs.size] (λi h=>i<=f.size/\h.get? a=some o/\h.get? s.heap.objs.size=some Y/\h.get? q.objs.size=some (uE (.ref s.heap.objs.size) i a f.size r)) _ k ?_ ?_ ?_ m.vals (n.trans Z)
    (λA hh=>by rw[<- J];exact aVf (o:=o) (ys:=D) (c:=0) H B U a2 (bY7 (by rw[y];exact cQS u)) (bY7 (by rw[y];exact cXz _)) a3 hh) ⟨cQE _,bYM _ (hk _ _ O),bYM _ a4,cQb _ rfl⟩ λb ob e=>bYM _ (hk _ _ e)
   ·omega
   ·intro b l;simp only[bYQ,cZj,or_false]at l;rcases l with rfl|rfl|rfl
    ·right;omega
    ·left;rfl
    ·right;exact bYO _
   ·intro b l;rw[cXg];simp only[bYQ,cZj,or_false]at l;rcases l with rfl|rfl|rfl
    ·exact cXz _
    ·rw[y];exact cQS (cQS u)
    ·rw[y];exact cQS (cXz _)
  exact fin _ _ rfl (cXg ..) (cQb _ rfl) λb ob e=>bYM _ e
 ·refine bYJ (bYN ?_);refine bYJ (wpAny_setEpoch_of O H B ?_);refine bYJ (cXH (bYN ⟨_,rfl,"set_iterator",_,⟨_,cQb _ rfl,rfl⟩,zI.lookup,?_⟩));have fin:∀ (vs:List bYH)(g:Nat->Nat)(k:List Int),g 0=0->vs.length=f.size->aX4 k vs->k.Perm V->
    (∀ (s:bYK)(i:Nat)(A':cQl)(E':bYH->bYK->Prop)(X:Option (bYH×Nat)->bYK->Prop),s.heap.get? a=some o->i<=f.size->X ((vs[i]?).map λx=>(x,g (i+1))) s->bYP (bYR prog w) A' (setNext a (g i) i r) X E' s)->
    Q (.ref s.heap.objs.size) {s with heap:=s.heap.push {cls:= .type "set_iterator",dict:=none,data:= .fields [cQY 0,cQY 0,Value.ref a,cQY (f.size:Int),cQY (r:Int)].toArray} }:=by
   intro vs g k g0 a5 hv n hx
   refine h s.heap.objs.size _ s.drawn [s.heap.objs.size,a] (λi h=>i<=f.size/\h.get? a=some o/\h.get? s.heap.objs.size=some (uE (.int (g i) 0) i a f.size r)) vs k (bYO _) ?_ ?_ hv n
    (λA hh=>by rw[<- J];exact aKk (o:=o) (g:=g) H B a5 (bY7 u) hx hh) ⟨cQE _,bYM _ O,?_⟩ λb ob e=>bYM _ e
   ·intro b l;simp only[bYQ,cZj,or_false]at l;rcases l with rfl|rfl
    ·right;exact bYO _
    ·left;rfl
   ·intro b l;rw[cXg];simp only[bYQ,cZj,or_false]at l;rcases l with rfl|rfl
    ·exact cXz _
    ·exact cQS u
   ·rw[g0];exact cQb _ rfl
  cases C:aJc w with
  |true=>
   have pp:cJL (cZP (w.params.setOrder a r) f).toList f.toList:=by have:=aZF (w.params.setOrder a r) f.size 0 f.toList #[] (by simp);simpa[cZP]using this
   obtain⟨k,m,n⟩:=G.perm pp.symm;refine fin ((cZP (w.params.setOrder a r) f).toList.map (·.2)) (λ_=>0) k rfl (by rw[bYL,pp.length_eq];simp) m.vals (n.trans Z) λs i A' E' X N hi p=>?_;refine aK8 N H B C ?_;rw[bY1,cXf]at p;cases e:(cZP (w.params.setOrder a r) f)[i]? with
   |none=>rw[e]at p;exact p
   |some z=>rw[e]at p;exact p
  |false=>
   have a6:(!t.plain && decide (f.size > 1))=false:=by have c':¬ ((!aJc w && (!t.plain && decide (f.size > 1)))=true):=c;rw[C]at c';simpa using c'
   have S:t.led=true:=M.led.resolve_left (by rw[C];decide);have a8:t.place.size=f.size:=by have:=B;simp only[SetTable.fits,Bool.and_eq_true,beq_iff_eq]at this;exact this.1
   refine fin (f.toList.map (·.2)) (λi=>if i=0 then 0 else t.place.getD (i - 1) 0+1) ls (by simp) (by simp) G.vals Z λs i A' E' X N hi p=>?_;refine bXk N H B C a6 S ?_;have a1:cQG t.place (if i=0 then 0 else t.place.getD (i - 1) 0+1)=i:=by
    by_cases h0:i=0
    ·rw[if_pos h0,aV5 M.rise,h0]
    ·rw[if_neg h0,aV4 M.rise (by omega)];omega
   rw[a1];by_cases K:i<f.size
   ·have L:i<t.place.size:=by omega
    rw[cQ8 K,cQ8 L];rw[bY1,cXf,cQ8 K]at p;have e1:t.place.getD i 0=t.place[i]:=by simp[cZc,L]
    simpa[e1]using p
   ·rw[cZC (by omega)];rw[bY1,cXf,cZC (by omega)]at p;exact p
end
end Stb
namespace Stb
open PySem PyProof.Rows
section
variable {prog:bY4}{w:cQa}{A:cQl}{E:bYH->bYK->Prop}{s:bYK}
def bJI{r:Nat}{Q:Bool->bYK->Prop}(c:s.TypeIs (.ref r) "set")(h:Q false s):bYP (bYR prog w) A (cJJ (.ref r)) Q E s:=by
 unfold cJJ;refine bYJ (wpAny_specialOf c PySem.F.slot_set_len.lookup ?_);generalize a:("set.__len__":String)=q;wp_delta;rw[show splitId q=some ("set","__len__")from by subst a;decide+kernel];subst a;refine bYJ (wpAny_isInstance (T:="set") (b:=true) c sub_set_self ?_);refine cJz (λz=>absurd z (by decide)) (λ_=>?_);refine cJz (λ_=>?_) (λz=>absurd dk z);exact bYJ (wpAny_typeOf c (bYN h))
def aWc{a:Nat}{p:List Int}{R:List bYH->bYK->Prop}(hh:A.handled=none)(V:aQX w s.heap a p)(hn:p.length<=bY8) (h:∀ (h':Heap)(tk:Nat)(d:Drawn)(vs:List bYH)(ls:List Int),s.heap.objs.size<h'.objs.size->(∀b o,s.heap.get? b=some o->h'.get? b=some o)->aX4 ls vs->ls.Perm p->R vs {s with heap:=h',toks:=tk,drawn:=d}): bYP (bYR prog w) A (collect (.ref a)) R E s:=by
 have hT:=V.type;obtain⟨oa,a7⟩:=V.there;have C:a<s.heap.objs.size:=bYV a7;unfold collect;refine bYJ (wpAny_runValue (cXW entry_proto_collect' ?_));rw[cXE PySem.F.plain_proto_collect _];show bYP _ A.in1 (newList [] >>=λl=>again (.builtin "list.__iadd__" ⟨[l,.ref a],[]⟩)) _ _ s;refine bYJ (cXH ?_);refine bYN ⟨cZY PySem.F.plain_list_iadd _,cXW entry_list_iadd' ?_⟩;rw[cXE PySem.F.plain_list_iadd _];have hL:(s.heap.push {cls:= .type "list",data:= .seq ([]:List bYH).toArray}).get? s.heap.objs.size=some {cls:= .type "list",data:= .seq #[] }:=cQb _ rfl;have t:aQX w (s.heap.push {cls:= .type "list",data:= .seq ([]:List bYH).toArray}) a p:=V.at λo e=>bYM _ e;have g:(s.heap.push {cls:= .type "list",data:= .seq ([]:List bYH).toArray}).objs.size=s.heap.objs.size+1:=cXg ..;generalize a4:s.heap.push {cls:= .type "list",data:= .seq ([]:List bYH).toArray}=H1 at hL t g ⊢;have a1:∀b o,s.heap.get? b=some o->H1.get? b=some o:=λb o e=>by rw[<- a4];exact bYM _ e
 show bYP _ A.in1 (cZM (.ref s.heap.objs.size) (.ref a) (.ref s.heap.objs.size)) _ _ {s with heap:=H1};have K:Shared.TypeIs {s with heap:=H1} (.ref a) "set":=t.type (s:={s with heap:=H1});unfold cZM;refine bYJ (wpAny_typeOf (T:="set") K ?_);have q1:cJ3 (.ref s.heap.objs.size) (.ref a)=false:=by simp[cJ3,cZm C]
 have q2:(Value.type "set"==Value.type "list")=false:=by decide
 have q3:(Value.type "set"==Value.type "tuple")=false:=by decide
 simp only[q1,q2,q3,Bool.or_false,Bool.false_eq_true,if_false];refine bYJ (bJK (s:={s with heap:=H1}) t ?_);intro I h2 d fp St vs ls hI a3 b0 hv hp W P u;have J:s.heap.objs.size∉fp:=λz=>by
  rcases a3 _ z with e|e
  ·exact cZm C e
  ·have e':H1.objs.size<=s.heap.objs.size:=e;rw[g]at e';exact absurd e' (Nat.not_succ_le_self _)
 have y:=u _ _ hL;have D:∀ (H:Heap)(c:Nat),St 0 H->(∀b o,b≠s.heap.objs.size->h2.get? b=some o->H.get? b=some o)->H.get? s.heap.objs.size=some {cls:= .type "list",data:= .seq #[] c}->
   cXY (bYR prog w) A (.builtin "list.extend.loop" ⟨[.ref s.heap.objs.size,.ref I,.ref s.heap.objs.size],[]⟩)
    (λq k=>∃ (h':Heap)(tk:Nat)(f:Array bYH)(B:Nat),q= .ok (.ret (.ref s.heap.objs.size))/\k= {s with heap:=h',toks:=tk,drawn:=d}/\
     (∀b o,s.heap.get? b=some o->h'.get? b=some o)/\h'.get? s.heap.objs.size=some {cls:= .type "list",dict:=none,data:= .seq f B,slots:= #[] }/\ItemsOf (λi v=>vs[i]? =some v) f p.length) {s with heap:=H,drawn:=d}:=by
  intro H c M U m
  refine codeAny_extend_loopS (W A.in1 hh).toS hn s.heap.objs.size J (.ref s.heap.objs.size) p.length 0 _ #[] c rfl (cQE _) M m (ItemsOf.nil _) λk L B S a8 N=>?_
  obtain⟨Z,g',d',a2,a5⟩:=k
  have eg:g'=s.gens:=S.gens
  have ed:d'=d:=S.drawn
  have eo:a5=s.os:=S.os
  subst eg ed eo
  refine⟨Z,a2,L,B,rfl,rfl,λb o e=>?_,a8,N⟩
  have r:b<s.heap.objs.size:=bYV e
  refine S.heap b o (λz=>?_) (U b o (bY7 r) (u b o (a1 b o e)))
  rcases bYQ.mp z with z|z
  ·exact bY7 r z
  ·have z':b=I:=bYY.mp z;have O:H1.objs.size<=I:=hI;rw[g,<- z']at O;exact absurd (bY9 r (Nat.le_of_succ_le O)) (cQQ _)
 have n:∀ (q:Result)(k:bYK),(∃ (h':Heap)(tk:Nat)(f:Array bYH)(B:Nat),q= .ok (.ret (.ref s.heap.objs.size))/\k= {s with heap:=h',toks:=tk,drawn:=d}/\ (∀b o,s.heap.get? b=some o->h'.get? b=some o)/\h'.get? s.heap.objs.size=some {cls:= .type "list",dict:=none,data:= .seq f B,slots:= #[] }/\ItemsOf (λi v=>vs[i]? =some v) f p.length)->
   ∃tk h',q= .ok (.ret (.ref s.heap.objs.size))/\k= {s with heap:=h',toks:=tk,drawn:=d}/\bYP (bYR prog w) A (do
    let o <- load s.heap.objs.size
    match o.data with
    |.seq xs _=>pure xs.toList
    |_=>unsupported "internal:collect") R E {s with heap:=h',toks:=tk,drawn:=d}:=by
  rintro q k ⟨h',tk,f,B,rfl,rfl,hk,hg,G⟩
  refine⟨tk,h',rfl,rfl,bYJ (wpAny_load hg (bYN ?_))⟩
  have a6:vs.length=p.length:=by rw[<- cX0 hv,hp.length_eq]
  have e:f.toList=vs:=bXf (by rw[cQ2,G.1,a6]) λj x hx=>G.2 j x (by rw[<- cXf];exact hx)
  show R f.toList _
  rw[e]
  exact h h' tk d vs ls (bYV hg) hk hv hp
 have Y:Shared.TypeIs {s with heap:=h2,drawn:=d} (.ref a) "set":=by obtain⟨o',X,a0⟩:=K;exact⟨o',u _ _ X,a0⟩
 refine bYJ (cQ0 (bJI Y ?_));refine cJz (λ_=>?_) (λ_=>?_)
 ·refine bYJ (wpAny_rule ?_);refine bYJ ?_;show bYP _ _ (updateSeq s.heap.objs.size (·.push .none) >>=λ_=>updateSeq s.heap.objs.size (·.pop)) _ _ _;refine bYJ (wpAny_updateSeq y rfl ?_);have m:=cQL (cQB (·.push Value.none)) y rfl;refine wpAny_updateSeq (hz:=by seq_fits) m rfl ?_;have a9:=cQL (cQB (·.pop)) m rfl;refine bYN ⟨cZY cJ2 _,cXB (D _ _ ?_ (λb o r e=>?_) a9) λq k z=>?_⟩
  ·refine(W A.in1 hh).frame 0 _ _ P λb r o e=>?_;have Q:b≠s.heap.objs.size:=λz=>J (z ▸ r);exact(cQh _ _ (cQr Q)).trans ((cQh _ _ (cQr Q)).trans e)
  ·exact(cQh _ _ (cQr r)).trans ((cQh _ _ (cQr r)).trans e)
  ·obtain⟨tk,h',rfl,rfl,zz⟩:=n q k z;exact zz
 ·refine bYN ⟨cZY cJ2 _,cXB (D _ _ P (λb o _ e=>e) y) λq k z=>?_⟩;obtain⟨tk,h',rfl,rfl,zz⟩:=n q k z;exact zz
def Z2:∀ {a:List Int} {vs:List bYH},aX4 a vs->cZf vs a
 |_,_,.nil=> .nil
 |_,_,.cons ⟨t,e⟩ r=>by subst e;exact .cons _ t (Z2 r)
def aKe{a:Nat}{f:List Int}{Q:bYH->bYK->Prop}(z:A.handled=none)(x:aQX w s.heap a f)(y:f.length<64) (h:∀ (l:Nat)(h':Heap)(tk:Nat)(d:Drawn)(out:List bYH)(q:List Int)(n:Nat),s.heap.objs.size<=l->(∀b o,s.heap.get? b=some o->h'.get? b=some o)->h'.get? l=some {cls:= .type "list",data:= .seq out.toArray n}-> cZf out q->q.Perm f->q.Pairwise (·<=·)->Q (.ref l) {s with heap:=h',toks:=tk,drawn:=d}):bYP (bYR prog w) A (call (.builtin "sorted") [.ref a]) Q E s:=by
 refine cZ4 kind_sorted plain_sorted entry_sorted (args_sorted1 _) ?_;unfold cXv.«sorted»;refine bYJ (m:=checkCount "sorted" 1 1 _) (bYN ?_);refine bYJ (aWc (A:=A.in1) z x (by rw[cQg];omega) λg tk d j G p C t u=>?_);have v:=Z2 t;have k:j.length=f.length:=by rw[<- cX0 t,u.length_eq]
 refine bYJ (cZ0 ?_ (by rw[k,cQg];omega));have c:(g.push {cls:= .type "list",data:= .seq j.toArray}).get? g.objs.size=some (cQw "list" j.toArray 0):=cQb _ rfl;refine bYJ (cQ0 (cXC slot_list_sort ⟨_,c,rfl⟩ entry_list_sort (list_sort_tree c v (by omega) λout i B D F=>⟨_,rfl,?_⟩) (args_list_sort _)));obtain⟨n,e⟩:=sortedHeap_at (out:=out) c;refine bYN ⟨_,rfl,h g.objs.size _ tk d out.toList i n (cZl p) (λb o e=>?_) (by simpa using e) B (D.trans u) F⟩;have r:=C b o e;rw[sortedHeap_old (bY7 (bYV r)) (by rw[cXg];exact cQS (bYV r))];exact bYM _ r
end
end Stb
namespace Stb
open PySem PyProof.Rows
def met(val:Nat->Int):Nat->List Int
 |0=> []
 |i+1=>if val i∈met val i then met val i else met val i++ [val i]
def aJq(val:Nat->Int):∀i,(met val i).length<=i
 |0=>bYO _
 |i+1=>by
  have a:=aJq val i;unfold met;split
  ·omega
  ·rw[bY5,cQU];omega
def aK5(val:Nat->Int)(d:Int):∀i,d∈met val i↔∃j,j<i/\val j=d
 |0=>by simp[met]
 |i+1=>by
  have c:=aK5 val d i;have step:d∈met val (i+1)↔d∈met val i\/d=val i:=by
   show d∈(if val i∈met val i then met val i else met val i++ [val i])↔_;split
   ·rename_i a;constructor
    ·exact .inl
    ·rintro(z|rfl)
     ·exact z
     ·exact a
   ·simp
  rw[step,c];constructor
  ·rintro(⟨j,b,e⟩|rfl)
   ·exact⟨j,by omega,e⟩
   ·exact⟨i,by omega,rfl⟩
  ·rintro⟨j,b,e⟩;by_cases h:j=i
   ·subst h;exact .inr e.symm
   ·exact .inl ⟨j,by omega,e⟩
section
variable {prog:bY4}{w:cQa}{A:cQl}
def bJC{R:Result->bYK->Prop}{I:Nat}{J B:List Nat}{n:Nat}{P:Nat->bYH->Prop}{St:Nat->Heap->Prop}(W:Walks prog w A.in1 I J B n P St)(S:Nat)(u:S∉J) (val:Nat->Int) (j:∀i v,P i v->∃t,v= .int (val i) t) (a:n+1<cJb): ∀ (k i:Nat)(s:bYK),n - i=k->i<=n->St i s.heap->aQX w s.heap S (met val i)-> (∀r tk,(∀b o,b∉S::B->s.heap.get? b=some o->r.get? b=some o)->aQX w r S (met val n)->R (.ok (.ret .none)) {s with heap:=r,toks:=tk})-> cXY (bYR prog w) A (.builtin "set.update.loop" ⟨[.ref S,.ref I],[]⟩) R s:=by
 have f:S∉B:=λh=>u (W.sub _ h);intro k;induction k with
 |zero=>
  intro i s O M d E hR;obtain rfl:i=n:=by omega
  refine cXW cZ7 ?_;rw[cXE cX6 _];refine bYJ (m:=pyNext (.ref I)) (W.done s _ _ d λr tk p=>?_);exact bYN (hR r tk (λb o a e=>p b o (λz=>a (bYT _ z)) e) (E.at λo e=>p S o f e))
 |succ k Q=>
  intro i s O M d E hR;have g:i<n:=by omega
  refine cXW cZ7 ?_;rw[cXE cX6 _];refine bYJ (m:=pyNext (.ref I)) (W.item i s _ _ g d λv y q L l x=>?_);obtain⟨t,rfl⟩:=j i v L;show bYP _ A.in1 (cZ1 [Value.int (val i) t] (setAdd S (.int (val i) t)) >>=_) _ _ {s with heap:=y,toks:=q};refine bYJ (cQ0 ?_);unfold setAdd;refine cQ0 ?_;refine bYJ ((intKind prog w).pyHash (k:=val i) (intKind_is _ _ _ _) ?_);have c:(met val i).length+1<cJb:=by have:=aJq val i;omega
  refine bWj (s:={s with heap:=y,toks:=q+1}) (E.at λo e=>x S o f e) c λT b K H=>?_;refine bYN ⟨cZY cX6 _,Q (i+1) _ (by omega) g (W.frame _ y _ l λb a o e=>?_) H λN G D C=>?_⟩
  ·exact K.extBut b o (λz=>u (z ▸ a)) e
  ·refine hR N G (λb o a e=>D b o a (K.extBut b o (λz=>a (by rw[z];exact bYW)) (x b o (λz=>a (bYT _ z)) e))) C
variable {E:bYH->bYK->Prop}{s:bYK}
def bWH(a:bYH){Q₁:bYH->bYK->Prop} (h:Q₁ (.ref s.heap.objs.size) {s with heap:=s.heap.push {cls:= .type "set",dict:=none,data:= .set #[] 0 (.fresh 0 0 (!aJc w)) } }): cXY (bYR prog w) A (.call (.builtin "set.__new__") ⟨[.type "set",a],[]⟩) (wants Q₁ E) s:=by
 refine codeAny_of_tree ?_;show bYP _ A.in1 (do checkBuiltinCall "set.__new__" ⟨[.type "set",a],[]⟩;again (.builtin "set.__new__" ⟨[.type "set",a],[]⟩)) _ _ s;refine bYJ (wpAny_of_eq (PySem.F.newCall_set_1 a) (bYN ⟨cZY PySem.F.plain_set_new _,cXW PySem.F.entry_set_new ?_⟩));rw[cXE PySem.F.plain_set_new _];unfold cXv.«set.__new__» Builtin.Frozenset.newClass;have b:=sub_set_self;obtain⟨e,g,d,tk,c⟩:=s;dsimp only;wp_walk;refine cZr (bYN ?_);dsimp only;simp only[newObj];refine bYJ (wpAny_alloc (bYN ?_));exact bYN h
set_option maxHeartbeats 3200000 in
def zX{l:Nat}{items:Array bYH}{L:List Int}{Q:bYH->bYK->Prop}(hh:A.handled=none)(hl:s.heap.IsList l items)(hi:cZf items.toList L)(P:items.size+1<cJb) (h:∀ (h':Heap)(tk:Nat),aQX w h' s.heap.objs.size (met (λi=>L.getD i 0) items.size)->(∀b o,s.heap.get? b=some o->h'.get? b=some o)->Q (.ref s.heap.objs.size) {s with heap:=h',toks:=tk}): bYP (bYR prog w) A (call (.type "set") [.ref l]) Q E s:=by
 obtain⟨c,tl,a0⟩:=cXA.mro;have Z:=cXA.made;have a4:=cXA.sub;refine cZU (codeAny_of_tree ?_);show bYP _ _ (callAny (.type "set") _) _ _ _;refine bYN ⟨cJK _ dk,cXW PySem.F.entry_type_call ?_⟩;rw[Around.under_plain (weight_type_call_type "set" [.ref l] []) rfl];have h1:=cXA.notType;have h2:=cXA.canCreate;have a5:=PySem.F.typeCall_set_1 (.ref l);repeat (any_goals (first|assumption|wp_step))
 refine cXB (bWH (.ref l) (E:=E) (Q₁:=λx g=>x= .ref s.heap.objs.size/\g= {s with heap:=s.heap.push {cls:= .type "set",dict:=none,data:= .set #[] 0 (.fresh 0 0 (!aJc w)) } }) ⟨rfl,rfl⟩) λr g S=>?_;cases r with
 |error e=>exact S
 |ok fl=>
  cases fl with
  |ret x=>
   obtain⟨rfl,rfl⟩:=S;generalize G:({cls:= .type "set",dict:=none,data:= .set #[] 0 (.fresh 0 0 (!aJc w)) }:Obj)=O;have T:(s.heap.push O).get? s.heap.objs.size=some O:=cQb _ (by rw[<- G];rfl);have hT:Shared.TypeIs {s with heap:=s.heap.push O} (.ref s.heap.objs.size) "set":=⟨_,T,by rw[<- G]⟩;have N:aQX w (s.heap.push O) s.heap.objs.size []:=by
    refine⟨O, #[],0,.fresh 0 0 (!aJc w),[],T,?_,?_,.nil,.rfl,List.nodup_nil,by decide,rfl,bQB ?_⟩
    ·rw[<- G];exact⟨rfl,rfl,rfl⟩
    ·rw[<- G]
    ·cases aJc w<;> simp
   have f:(s.heap.push O).objs.size=s.heap.objs.size+1:=cXg ..;have k:∀b o,s.heap.get? b=some o->(s.heap.push O).get? b=some o:=λb o e=>bYM _ e;generalize hH:s.heap.push O=H at T hT N f k ⊢;have a6:=cXA.init.lookup;have a7:=cXA.init.bind (.ref s.heap.objs.size);repeat (any_goals (first|assumption|wp_step))
   refine cXB (cJv (R:=wants (λr j=>r= .none/\∃h' tk,j= {s with heap:=h',toks:=tk}/\aQX w h' s.heap.objs.size (met (λi=>L.getD i 0) items.size)/\
     (∀b o,s.heap.get? b=some o->h'.get? b=some o)) E) cXA.init.plain PySem.F.entry_set_init (check_set_init_1 hT ?_)) λB j a=>?_
   ·obtain⟨ol,u,D,nl,J⟩:=hl;obtain⟨a1,n,W,d⟩:=ol;simp only at D J;subst D;subst J;have I:H.get? l=some {cls:= .type "list",dict:=n,data:= .seq items nl,slots:=d}:=k _ _ u;have a3:=PySem.F.sub_list_set;have a2:=PySem.F.sub_list_frozenset;have a8:(Value.type "list"==Value.type "dict")=false:=by decide
    have C:H.IsList l items:=⟨_,I,rfl,nl,rfl⟩;subst G;unfold cXv.«set.__init__» noKeywords Builtin.Frozenset.updateFrom;generalize X:pyIter=PI;wp_walk;subst X;refine cJZ (l:=l) (items:=items) ?hl ?_;case hl=>exact C
    refine bYJ (wpAny_runValue ?_);have q:l<s.heap.objs.size:=bYV u;have Y:A.in1.in1.in1.handled=none:=by simp[hh]
    have K:l≠H.objs.size:=by rw[f];exact bY7 (cQS q)
    have V:s.heap.objs.size∉ [H.objs.size,l]:=by rw[f];simp only[bYQ,cZj,or_false,not_or];exact⟨bY7 (cXz _),cZm q⟩
    have y:∀ (i:Nat)(v:bYH),items[i]? =some v->∃t,v= .int ((λi=>L.getD i 0) i) t:=λi v hv=>
     cJM hi i v (by rw[cXf];exact hv)
    refine bJC (Walks.list Y _ l K items) s.heap.objs.size V (λi=>L.getD i 0) y P (items.size - 0) 0 _ (by omega) (cQE _) ⟨⟨_,cQb _ rfl,rfl,rfl⟩,C.push _⟩ ?hS0 ?hR;case hS0=>exact N.at λo e=>bYM _ e
    case hR=>
     intro h' tk hk p;show bYP _ _ _ _ _ _;refine bYN ?_;show bYP _ _ (ret Value.none) _ _ _;refine bYN ⟨rfl,h',tk,rfl,p,λb o e=>?_⟩;have P:=bYV e;refine hk b o (λz=>?_) (bYM _ (k _ _ e));simp only[bYQ,cZj,or_false]at z;rcases z with z|z
     ·exact bY7 P z
     ·rw[z]at P;have M:H.objs.size<s.heap.objs.size:=P;rw[f]at M;exact absurd M (Nat.not_lt.mpr (cXP _))
   ·cases B with
    |error e=>exact a
    |ok m=>
     cases m with
     |ret r=>
      obtain⟨rfl,h',tk,rfl,p,U⟩:=a;repeat (any_goals (first|assumption|wp_step))
      exact h _ _ p U
     |_=>exact a.elim
  |_=>exact S.elim
end
end Stb
namespace L2
open PySem PySem.Spec PyProof.Rows
section
variable {X:Cx}{tg:Expr}
end
section
variable {X:Cx}
inductive aKu(K:bYI)(xs:List V)(H:Hp)(Q:VK):Prop|mk (x c t b) (_:xs= [x,.ty c]) (_:aZ6 K H x t) (_:cQz K t (.type c)=some b) (_:Q (.bl b) H)
def zR:jQ X (.builtin "isinstance") (aKu X.K):=by
 intro a s σ H g i Q I r h;obtain⟨x,c,t,b,rfl,ty,e,q⟩:=h;obtain⟨u,v,rfl,d,f⟩:=xW.two r;cases f;exact aKQ I d ty e λtk=>⟨.bl b,H,I.tok tk,rfl,q⟩
def bW8(w:cQa)(a:Nat)(b:List Int):HO:= .ext λh=>Stb.aQX w h a b
def bQK(E:X.calm=true):jQ X (.type "set") (λv H Q=>∃ (p:Nat)(a:List Int),v= [.ref p]/\SqL X.K H p (a.map V.int)/\a.length<4000/\∀ (l:Nat)(c:List Int),H l=none->c.Nodup->c.length<=a.length->(∀d,d∈c↔d∈a)->Q (.ref l) (upd H l (bW8 X.w l c))):=by
 intro n s σ H v U Q I r h;obtain⟨p,a,rfl,J,N,q⟩:=h;obtain⟨u,rfl,B⟩:=aQV r;cases B;obtain⟨b,C,G,S⟩:=I.list J;have y:cZf b a:=aXb C;have A:b.length=a.length:=y.length;refine Stb.zX (I.ok.hd E) G.isList (by simpa using y) (by rw[bYZ];unfold cJb;omega) λP tk f F=>?_;rw[bYZ]at f;have g:(Stb.met (λi=>a.getD i 0) b.length).Nodup:=by obtain⟨o,T,M,t,O,_,_,_,_,_,g,_⟩:=f;exact g
 have hl:=Stb.aJq (λi=>a.getD i 0) b.length;refine⟨.ref s.heap.objs.size,_,I.laid (t':=tk) (o:=bW8 X.w s.heap.objs.size (Stb.met (λi=>a.getD i 0) b.length)) F (bYO _) ⟨f,f.there,λL R z k=>z.at k⟩,rfl,q _ _ I.fresh g (by omega) λd=>?_⟩;rw[Stb.aK5];constructor
 ·rintro⟨j,x,rfl⟩;have m:j<a.length:=by omega
  simp[cQu,bYG m]
 ·intro D;obtain⟨j,x,e⟩:=cQy D;exact⟨j,by omega,by simp[cQu,bYG x,e]⟩
def aQY(B:X.calm=true):jQ X (.builtin "sorted") (λk H Q=>∃ (p:Nat)(e:List Int),k= [.ref p]/\H p=some (bW8 X.w p e)/\e.length<64/\∀ (l:Nat)(c:List Int),H l=none->c.Perm e->c.Pairwise (·<=·)->Q (.ref l) (upd H l (.lst (c.map V.int)))):=by
 intro b s σ H k D Q I r h;obtain⟨p,e,rfl,t,j,q⟩:=h;obtain⟨u,rfl,z⟩:=aQV r;cases z;obtain⟨y,_,_⟩:=(show zD X.prog X.w H s.heap p (bW8 X.w p e)from I.hok p _ t);refine Stb.aKe (I.ok.hd B) y j λl m tk d out c n hl C A v f i=>?_;have x:H l=none:=I.hok.fresh hl;have g:c.length<=bY8:=by rw[f.length_eq,cQg];omega
 have a:Inv X b σ (upd H l (.lst (c.map V.int))) {s with heap:=m,toks:=tk}:=I.laid C hl ⟨by rw[bYL];exact g,out,n,uU v,A⟩;have o:Inv X b σ (upd H l (.lst (c.map V.int))) {s with heap:=m,toks:=tk,drawn:=d}:=by refine⟨a.ok,a.os,a.bare,a.base,a.loc,a.cell,a.free,a.freeC,a.pin,a.hok,a.len⟩
 exact⟨.ref l,_,o,rfl,q l c x f i⟩
def bVt(n d:Nat)(a:Nat):HT.sIx n d (some (a:Int))=min a n:=by
 unfold HT.sIx;simp only;split<;> omega
end
end L2
namespace L2
open PySem PySem.Spec PyProof.Rows
def W5(K:bYI):cQz K (.type "NoneType") (.type "list")=some false:=by kernel_rfl
def Y5(K:bYI):cQz K (.type "NoneType") (.type "tuple")=some false:=by kernel_rfl
def Z3(K:bYI):cQz K (.type "bool") (.type "bool")=some true:=by kernel_rfl
def aJm(K:bYI):cQz K (.type "bool") (.type "int")=some true:=by kernel_rfl
def jS(K:bYI):cQz K (.type "bool") (.type "str")=some false:=by kernel_rfl
def aZp(K:bYI):cQz K (.type "bool") (.type "list")=some false:=by kernel_rfl
def aXy(K:bYI):cQz K (.type "bool") (.type "tuple")=some false:=by kernel_rfl
def jT(K:bYI):cQz K (.type "int") (.type "bool")=some false:=by kernel_rfl
def aXc(K:bYI):cQz K (.type "int") (.type "int")=some true:=by kernel_rfl
def u4(K:bYI):cQz K (.type "int") (.type "str")=some false:=by kernel_rfl
def aJn(K:bYI):cQz K (.type "int") (.type "list")=some false:=by kernel_rfl
def aZq(K:bYI):cQz K (.type "int") (.type "tuple")=some false:=by kernel_rfl
def aQe(K:bYI):cQz K (.type "str") (.type "bool")=some false:=by kernel_rfl
def aWm(K:bYI):cQz K (.type "str") (.type "int")=some false:=by kernel_rfl
def vQ(K:bYI):cQz K (.type "str") (.type "str")=some true:=by kernel_rfl
def aJo(K:bYI):cQz K (.type "str") (.type "list")=some false:=by kernel_rfl
def aZr(K:bYI):cQz K (.type "str") (.type "tuple")=some false:=by kernel_rfl
def wJ(K:bYI):cQz K (.type "list") (.type "list")=some true:=by kernel_rfl
def qN(K:bYI):cQz K (.type "list") (.type "tuple")=some false:=by kernel_rfl
def wU(K:bYI):cQz K (.type "tuple") (.type "list")=some false:=by kernel_rfl
def jP(K:bYI):cQz K (.type "tuple") (.type "tuple")=some true:=by kernel_rfl
section
variable {X:Cx}{pins:List (Nat×Obj)}{σ:St}{H:Hp}{s:bYK}
def aWj{A:cQl}{E:bYH->bYK->Prop}{Q:bYH->bYK->Prop}{x:V}{u t:bYH}{tp:Nat}{cs:List bYH}{b:Bool}(I:Inv X pins σ H s)(d:zJ x u)(ty:aZ6 X.K H x t) (r:cZG s.heap tp cs.toArray) (e:PySem.W.kitAny X.K t cs=some b) (h:∀tk,Q (.bool b) {s with toks:=tk}):bYP (bYR X.prog X.w) A (call (.builtin "isinstance") [u,.ref tp]) Q E s:=by
 obtain⟨⟨cls,T,data,R⟩,f,B,n,v⟩:=r;simp only at B v;subst B v;cases ty with
 |non=>cases (show u=Value.none from d);exact cXj PySem.W.kitx_none I.kIn cQ3 f e (λz=>nomatch z) h
 |bl y=>cases (show u=Value.bool y from d);exact cXj PySem.W.kitx_bool I.kIn cQ3 f e (λz=>nomatch z) h
 |int i=>obtain⟨t,q⟩:=(show ∃t,u=Value.int i t from d);cases q;exact cXj PySem.W.kitx_int I.kIn cQ3 f e (λz=>nomatch z) h
 |str y=>obtain⟨t,q⟩:=(show ∃t,u=Value.str y t from d);cases q;exact cXj PySem.W.kitx_str I.kIn cQ3 f e (λz=>nomatch z) h
 |flt y=>obtain⟨t,q⟩:=(show ∃t,u=Value.float y t from d);cases q;exact cXj PySem.W.kitx_float I.kIn cQ3 f e (λz=>nomatch z) h
 |@lst a k c=>cases (show u=Value.ref a from d);obtain⟨_,_,n,_,g⟩:=(show zD X.prog X.w H s.heap a (.lst k)from I.hok a _ c);exact cXj cJe I.kIn ⟨_,g,rfl⟩ f e (λz=>nomatch z) h
 |@frz a G k c=>cases (show u=Value.ref a from d);obtain⟨_,_,_,n,_,g⟩:=(show zD X.prog X.w H s.heap a (.frz G (.lst k))from I.hok a _ c);exact cXj cJe I.kIn ⟨_,g,rfl⟩ f e (λz=>nomatch z) h
 |@tup a k c=>cases (show u=Value.ref a from d);obtain⟨_,_,_,p⟩:=(show zD X.prog X.w H s.heap a (.tup k)from I.hok a _ c);obtain⟨o,g,l,_⟩:=p;exact cXj PySem.W.kitx_tuple I.kIn ⟨o,g,l⟩ f e (λz=>nomatch z) h
 |@dK a j c=>cases (show u=Value.ref a from d);obtain⟨_,_,S,_,p⟩:=(show zD X.prog X.w H s.heap a (.dK j)from I.hok a _ c);obtain⟨o,M,D,g,l,_⟩:=p;exact cXj cJd I.kIn ⟨o,g,l.1⟩ f e (λz=>nomatch z) h
 |@dT a j c=>cases (show u=Value.ref a from d);obtain⟨_,_,k,_,o,M,D,g,l,_⟩:=(show zD X.prog X.w H s.heap a (.dT j)from I.hok a _ c);exact cXj cJd I.kIn ⟨o,g,l.1⟩ f e (λz=>nomatch z) h
 |@ins a C P fs c cl N L m F=>cases (show u=Value.ref a from d);obtain⟨U,O,_⟩:=aQa I.hok c;obtain⟨Y,J,_⟩:=O.look;exact cXj (PySem.W.kitx_own (cl.get _) cl.hd N L m F) I.kIn J f e (λz=>nomatch z) h
end
section
variable {X:Cx}
inductive aV7(K:bYI)(xs:List V)(H:Hp)(Q:VK):Prop|mk (x p c d t b b') (_:xs= [x,.ref p]) (_:SqT K H p [.ty c,.ty d]) (_:aZ6 K H x t) (_:cQz K t (.type c)=some b) (_:cQz K t (.type d)=some b') (_:Q (.bl (b || b')) H)
def Q6:jQ X (.builtin "isinstance") (aV7 X.K):=by
 intro pins s σ H w A Q I r h;obtain⟨x,p,c,d,t,b,a,rfl,i,ty,f,l,q⟩:=h;obtain⟨u,v,rfl,j,k⟩:=xW.two r;cases k;obtain⟨o,e,n,_⟩:=I.tuple i;obtain⟨y,z,rfl,g,m⟩:=xW.two e;cases g;cases m;refine aWj I j ty n (b:=b || a) ?_ λtk=>⟨.bl (b || a),H,I.tok tk,rfl,q⟩;unfold PySem.W.kitAny;rw[f];cases b
 ·simp only[Bool.false_or];unfold PySem.W.kitAny;rw[l];cases a<;> rfl
 ·rfl
inductive bWX(K:bYI)(x:V)(y:V)(H:Hp)(Q:VK):Prop|mk (a b xs) (_:x= .ref a) (_:y= .ref b) (_:SqL K H a xs) (_:SqL K H b []) (_:Q (.bl xs.isEmpty) H)
inductive bWY(K:bYI)(x:V)(y:V)(H:Hp)(Q:VK):Prop|mk (a b xs) (_:x= .ref a) (_:y= .ref b) (_:SqL K H a xs) (_:SqL K H b []) (_:Q (.bl (!xs.isEmpty)) H)
def aVt(d:X.A.units<cLine):OpR X (cXb .Eq) (bWX X.K):=by
 intro pins s σ H x y v u Q I m l h;obtain⟨a,b,p,rfl,rfl,n,o,q⟩:=h;cases m;cases l;obtain⟨t,k,c,_⟩:=I.list n;obtain⟨w,i,f,_⟩:=I.list o;cases i;cases k with
 |nil=>exact SeqAt.eq_listAt (e:=λ_=>true) c.isList f.isList rfl d (λj g r=>absurd g (cXu _)) ⟨.bl true,H,I,rfl,q⟩
 |cons _ _=>exact SeqAt.eq_list_lengthsAt c.isList f.isList (by simp) d ⟨.bl false,H,I,rfl,q⟩
def jC(d:X.A.units<cLine):OpR X (cXb .NotEq) (bWY X.K):=by
 intro pins s σ H x y v u Q I m l h;obtain⟨a,b,p,rfl,rfl,n,o,q⟩:=h;cases m;cases l;obtain⟨t,k,c,_⟩:=I.list n;obtain⟨B,i,f,_⟩:=I.list o;cases i;cases k with
 |nil=>have z:=SeqAt.RcNeAt.lists (A:=X.A) (s:=s) (e:=λ_=>true) c.isList f.isList rfl d (λj g r=>absurd g (cXu _));exact z X.prog X.w X.xe _ ⟨.bl false,H,I,rfl,q⟩
 |cons _ _=>exact(SeqAt.RcNeAt.lists_lengths c.isList f.isList (by simp) d) X.prog X.w X.xe _ ⟨.bl true,H,I,rfl,q⟩
structure FnG(P:bY4)(w:cQa)(K:bYI)(mg:Str->Option bYH)(base:Heap)(k:Nat)(x:Str)(ps:List Str)(sp:Sp):Prop where
 ex:∃f fd,xD P w K mg base CX0 k f fd ps sp/\vW K fd ps []/\cQD K (.ref f)=true/\mg x=some (.ref f)
def FnG.mono{P:bY4}{w:cQa}{K:bYI}{mg:Str->Option bYH}{base:Heap}{j k:Nat}{x:Str}{c:List Str}{sp:Sp}(G:FnG P w K mg base j x c sp)(h:j<=k):FnG P w K mg base k x c sp:=
 let ⟨f,fd,a,b⟩:=G.ex;⟨f,fd,a.mono h,b⟩
def xK{k:Nat}{x:Str}{l:List Str}{sp:Sp}{e:Expr}{a:List Expr}{t:TA}{p pos:Pos}(G:FnG X.prog X.w X.K X.mg X.base k x l sp)(g:vP k X.A)(j:Gl X x)(n:PA X (e::a) t)
  (d:(x==("__debug__":Str))=false:=by decide) (i:cQk (e::a) X.env=(false,eval e X.env)::cQk a X.env:=by rfl) (c:(cXk pos (cQk a X.env)).any (·.1)=false:=by rfl):
  PE X (.Call (.Name x p) (e::a) [] pos) (bZq sp [] E0 t):=by
 obtain⟨f,o,F,b,h,m⟩:=G.ex
 exact aYw F g j m h b .nil vT n d i c
end
inductive Dt where
 |non|bl (b:Bool)|int (n:Int)|str (x:Str)|lst (ds:List Dt)|tup (ds:List Dt)
mutual
def Is(H:Hp):V->Dt->Prop
 |v,.non=>v= .non
 |v,.bl b=>v= .bl b
 |v,.int n=>v= .int n
 |v,.str x=>v= .str x
 |v,.lst ds=>∃a c,v= .ref a/\H a=some (.lst c)/\wG H c ds
 |v,.tup ds=>∃a c,v= .ref a/\H a=some (.tup c)/\wG H c ds
def wG(H:Hp):List V->List Dt->Prop
 |[],[]=>True
 |x::xs,d::ds=>Is H x d/\wG H xs ds
 |_,_=>False
end
mutual
def Dt.size:Dt->Nat
 |.lst a=>1+wR a
 |.tup a=>1+wR a
 |_=>1
def wR:List Dt->Nat
 |[]=>0
 |d::ds=>d.size+wR ds
end
def wG.length{H:Hp}:∀ {xs:List V} {a:List Dt},wG H xs a->xs.length=a.length
 |[],[],_=>rfl
 |_::xs,_::a,h=>by unfold wG at h;simp[wG.length h.2]
 |[],_::_,h=>by unfold wG at h;exact h.elim
 |_::_,[],h=>by unfold wG at h;exact h.elim
def wG.get{H:Hp}:∀ {xs:List V} {a:List Dt} {i:Nat} {d:Dt},wG H xs a->a[i]? =some d->∃x,xs[i]? =some x/\Is H x d
 |x::xs,d::a,0,_,h,e=>by unfold wG at h;simp at e;subst e;exact⟨x,rfl,h.1⟩
 |_::xs,_::a,i+1,d,h,e=>by unfold wG at h;simpa using wG.get (i:=i) (d:=d) h.2 (by simpa using e)
 |[],[],_,_,_,e=>by simp at e
 |[],_::_,_,_,h,_=>by unfold wG at h;exact h.elim
 |_::_,[],_,_,h,_=>by unfold wG at h;exact h.elim
def zE{t u:TS}{D:aZ4}{σ:L2.St}{H:Hp}(R:L2.St->Hp->Prop)(d:∀a b,R a b->u D a b)(c:(∀a b,R a b->u D a b)->t {D with nx:=u D} σ H):bKB t u D σ H:=c d
def onT{c:Bool}{A B:Prop}(e:c=true)(h:A):if c=true then A else B:=by rw[e];exact h
def onF{c:Bool}{A B:Prop}(e:c=false)(h:B):if c=true then A else B:=by rw[e];exact h
def z0:([]:List V).length<=bY8:=by decide
def z1{a:V}: [a].length<=bY8:=by show 1<=bY8;decide
def z2{a b:V}: [a,b].length<=bY8:=by show 2<=bY8;decide
def z3{a b c:V}: [a,b,c].length<=bY8:=by show 3<=bY8;decide
def z4{a b c d:V}: [a,b,c,d].length<=bY8:=by show 4<=bY8;decide
def z5{a b c d e:V}: [a,b,c,d,e].length<=bY8:=by show 5<=bY8;decide
def zn{l:List V}(h:l.length<=100000):l.length<=bY8:=by rw[cQg];omega
def zlt{l:List V}(h:l.length<=100000):l.length<bY8:=by rw[cQg];omega
def xA.fresh{H a:Hp}(k:xA H a){p:Nat}(h:a p=none):H p=none:=by
 cases e:H p with
 |none=>rfl
 |some o=>rw[k _ _ e]at h;cases h
def yG{H:Hp}{p:Nat}(h:H p=none)(o:HO):xA H (upd H p o):=λb u q=>by rw[yI (yJ q h)];exact q
end L2
namespace Rvl
open PySem PyProof.Rows
section
variable {prog:bY4}{w:cQa}{A:cQl}{E:bYH->bYK->Prop}{s:bYK}
end
end Rvl
namespace L2
open PySem PySem.Spec PyProof.Rows
section
variable {X:Cx}
end
end L2
namespace L2
open PySem PySem.Spec PyProof.Rows
def J2{n:Nat}{l:List Nat}{d:TT}{k:TE}{σ:St}{D:Nat}{Q:VK}{H:Hp}(p:Nat->Bool)(f:Nat->V)(B:H D=none)(hz:n<=bY8) (w:∀i,i<n->∀ (c:Hp)(R:Bool->Hp->Prop),(∀b,b≠D->c b=H b)->R (p i) c->d (sub σ l (some (.int (i:Nat)))) c R) (s:∀i,i<n->p i=true->∀ (c:Hp)(R:VK),(∀b,b≠D->c b=H b)->R (f i) c->k (sub σ l (some (.int (i:Nat)))) c R) (u:Q (.ref D) (upd H D (.lst (((bYU n).filter p).map f)))):bJo (Itr 0 n) l d k σ D Q (upd H D (.lst [])):=by
 refine⟨λi m h c=>m=n - i/\i<=n/\h=((bYU i).filter p).map f/\c=upd H D (.lst h),⟨n,by simp,cQE _,by simp,rfl⟩,?_⟩;rintro i m h c ⟨rfl,A,rfl,rfl⟩;refine⟨yB,?_⟩;by_cases a:i<n
 ·refine .inr ⟨a,λv z q=>?_⟩;obtain⟨r,t⟩:=q;subst r;subst t;rw[cXM];have g:∀b,b≠D->upd H D (.lst (((bYU i).filter p).map f)) b=H b:=λb x=>yI x;have e:(((bYU i).filter p).map f).length<bY8:=by
   rw[bYL];have o:=cQM p (bYU i);rw[cQt]at o;omega
  refine w i a _ _ g ?_;cases j:p i with
  |false=>show ∃y,_;refine⟨n - (i+1),by omega,rfl,a,?_,rfl⟩;rw[cXS,cQT,cXm (by rw[j];decide)];simp
  |true=>show k _ _ _;refine s i a j _ _ g ⟨e,yB,n - (i+1),by omega,rfl,a,?_,by rw[uT]⟩;rw[cXS,cQT,cXn j];simp
 ·obtain rfl:i=n:=by omega
  exact .inl ⟨bYO _,u⟩
end L2
namespace Stree
open PySem PySem.W PyProof.Rows
def Asks{α:Type}(n:Nat)(lt:Nat->Nat->Bool):KasT α->(α->Prop)->Prop
 |.ret a,Q=>Q a
 |.ask i j k,Q=>i<n/\j<n/\Asks n lt (k (lt i j)) Q
def Asks.bind{α β:Type}{n:Nat}{lt:Nat->Nat->Bool}{f:α->KasT β}{Q:β->Prop}:∀ {t:KasT α} {R:α->Prop},Asks n lt t R->(∀a,R a->Asks n lt (f a) Q)->Asks n lt (t.bind f) Q
 |.ret a,R,h,hf=>hf a h
 |.ask i j k,R,h,hf=>⟨h.1,h.2.1,Asks.bind (t:=k (lt i j)) h.2.2 hf⟩
def Asks.wp{α:Type}{n:Nat}{lt:Nat->Nat->Bool}{b:Nat->Nat->(Bool->bYK->Prop)->bYK->Prop}{s:bYK}{G:α->bYK->Prop}(c:∀i j C,i<n->j<n->C (lt i j) s->b i j C s):
  ∀ {t:KasT α} {R:α->Prop},Asks n lt t R->(∀a,R a->G a s)->t.kasWp b G s
 |.ret a,R,h,hf=>hf a h
 |.ask i j k,R,h,hf=>c i j _ h.1 h.2.1 (Asks.wp c (t:=k (lt i j)) h.2.2 hf)
section
variable {n:Nat}{r:Nat->Int}{p:Array Nat}
abbrev Z5(r:Nat->Int):Nat->Nat->Bool:=λi j=>decide (r i<r j)
abbrev R(r:Nat->Int)(p:Array Nat)(k:Nat):Int:=r (p.getD k 0)
structure Ok(n:Nat)(p:Array Nat):Prop where
 perm:p.toList.Perm (bYU n)
def Ok.size(h:Ok n p):p.size=n:=by have:=h.perm.length_eq;simpa using this
def Ok.lt(h:Ok n p)(h0:0<n)(k:Nat):p.getD k 0<n:=by
 by_cases a:k<p.size
 ·have:p.toList[k]'(by simpa using a)∈p.toList:=cXo _;have:=cQf.mp (h.perm.mem_iff.mp this);simpa[cZc,a]using this
 ·simpa[cZc,a]using h0
def Ok.ne(h:Ok n p){i j:Nat}(g:i<n)(k:j<n)(c:i≠j):p.getD i 0≠p.getD j 0:=by
 have f:=h.size;have d:p.toList.Nodup:=h.perm.nodup_iff.mpr cZS;intro e;have b:i<p.size:=by omega
 have a:j<p.size:=by omega
 simp[cZc,b,a]at e;have:=(cXx (xs:=p.toList) (h₀:=by simpa using b) (h₁:=by simpa using a) d).mp (by simpa using e);exact c this
def Inj(n:Nat)(r:Nat->Int):Prop:=∀i j,i<n->j<n->r i=r j->i=j
def Ok.rne(h:Ok n p)(b:Inj n r){i j:Nat}(c:i<n)(d:j<n)(a:i≠j):R r p i≠R r p j:=λe=>
 h.ne c d a (b _ _ (h.lt (by omega) i) (h.lt (by omega) j) e)
def Srt(r:Nat->Int)(p:Array Nat)(k:Nat):Prop:=∀i j,i<j->j<k->R r p i<R r p j
def Dsc(r:Nat->Int)(p:Array Nat)(k:Nat):Prop:=∀i j,i<j->j<k->R r p j<R r p i
def Srt.one:Srt r p 1:=λi j a b=>by omega
def aXw(p:Array Nat)(k:Nat):p.getD k 0=(p[k]?).getD 0:=by simp[cZc,cX9];split<;> simp_all
def aX7(h:Ok n p)(hr:Inj n r):∀ (f m:Nat),1<=m->m+f<=n->Srt r p m->Asks n (Z5 r) (kas_asc p f m) (λm'=>m<=m'/\m'<=m+f/\Srt r p m'/\(m'<m+f->R r p m'<R r p (m' - 1)))
 |0,m,h1,h2,hs=>⟨bYO _,bYO _,hs,λz=>absurd z (by omega)⟩
 |f+1,m,h1,h2,hs=>by
  refine⟨h.lt (by omega) _,h.lt (by omega) _,?_⟩
  by_cases c:r (p.getD m 0)<r (p.getD (m - 1) 0)
  ·have e:Z5 r (p.getD m 0) (p.getD (m - 1) 0)=true:=decide_eq_true c
   rw[e];show Asks n (Z5 r) (ite _ _ _) _;rw[if_pos rfl]
   exact⟨bYO _,by omega,hs,λ_=>c⟩
  ·have e:Z5 r (p.getD m 0) (p.getD (m - 1) 0)=false:=decide_eq_false c
   rw[e];show Asks n (Z5 r) (ite _ _ _) _;rw[if_neg (by decide)]
   have hne:=h.rne hr (i:=m) (j:=m - 1) (by omega) (by omega) (by omega)
   have hlt:R r p (m - 1)<R r p m:=by
    have:¬R r p m<R r p (m - 1):=c
    omega
   have hs':Srt r p (m+1):=λi j hij hj=>by
    by_cases hjm:j<m
    ·exact hs i j hij hjm
    ·have:j=m:=by omega
     subst this
     by_cases hi:i=j - 1
     ·rw[hi];exact hlt
     ·have:=hs i (j - 1) (by omega) (by omega);omega
   have z:=aX7 h hr f (m+1) (by omega) (by omega) hs'
   have e2:m+1+f=m+(f+1):=by omega
   rw[e2]at z
   exact Asks.mono z λm' ⟨a,b,c,d⟩=>⟨by omega,b,c,d⟩
where
 Asks.mono {α:Type} {n:Nat} {lt:Nat->Nat->Bool} {Q Q':α->Prop}:∀ {t:KasT α},Asks n lt t Q->(∀a,Q a->Q' a)->Asks n lt t Q'
  |.ret a,h,hf=>hf a h
  |.ask i j k,h,hf=>⟨h.1,h.2.1,Asks.mono (t:=k (lt i j)) h.2.2 hf⟩
def aKF(h:Ok n p)(q:Inj n r):∀ (f m:Nat),1<=m->m+f<=n->Dsc r p m->Asks n (Z5 r) (kas_desc f p m 0) (λz=>z.1=p/\z.2.2=0/\m<=z.2.1/\z.2.1<=m+f/\Dsc r p z.2.1)
 |0,m,h1,h2,hs=>⟨rfl,rfl,bYO _,bYO _,hs⟩
 |f+1,m,h1,h2,hs=>by
  refine⟨h.lt (by omega) _,h.lt (by omega) _,?_⟩;by_cases c:r (p.getD m 0)<r (p.getD (m - 1) 0)
  ·have e:Z5 r (p.getD m 0) (p.getD (m - 1) 0)=true:=decide_eq_true c;rw[e];show Asks n (Z5 r) (ite _ _ _) _;rw[if_pos rfl,if_neg (by omega)];have l:Dsc r p (m+1):=λi j o w=>by
    by_cases g:j<m
    ·exact hs i j o g
    ·have:j=m:=by omega
     subst this;have s:R r p j<R r p (j - 1):=c;by_cases v:i=j - 1
     ·rw[v];exact s
     ·have:=hs i (j - 1) (by omega) (by omega);omega
   have z:=aKF h q f (m+1) (by omega) (by omega) l;have u:m+1+f=m+(f+1):=by omega
   rw[u]at z;exact aX7.Asks.mono z λz ⟨a,b,c,d,e⟩=>⟨a,b,by omega,d,e⟩
  ·have e:Z5 r (p.getD m 0) (p.getD (m - 1) 0)=false:=decide_eq_false c;rw[e];show Asks n (Z5 r) (ite _ _ _) _;rw[if_neg (by decide)];refine⟨h.lt (by omega) _,h.lt (by omega) _,?_⟩;have t:=h.rne q (i:=m) (j:=m - 1) (by omega) (by omega) (by omega);have k:R r p (m - 1)<R r p m:=by
    have:¬R r p m<R r p (m - 1):=c;omega
   have e:Z5 r (p.getD (m - 1) 0) (p.getD m 0)=true:=decide_eq_true k;rw[e];show Asks n (Z5 r) (ite _ _ _) _;rw[if_pos rfl];exact⟨rfl,rfl,bYO _,Nat.le_add_right _ _,hs⟩
def bWh{m:Nat}(b:m<=p.size)(k:Nat)(a:k<m):R r (kas_rev p 0 m) k=R r p (m - 1 - k):=by
 unfold R kas_rev;rw[aXw,aXw,getElem?_mirror_all b,if_pos ⟨cQE _,a⟩,Nat.zero_add]
def bZ6(h:Ok n p)(m:Nat):Ok n (kas_rev p 0 m):=⟨(cJQ.mp (mirror_perm p 0 m _)).trans h.perm⟩
def bZw(h:Ok n p)(g:Inj n r){m:Nat}(f:1<=m)(e:m<=n)(k:Dsc r p m):Asks n (Z5 r) (kas_tail3 m n p) (λz=>1<=z.1/\z.1<=n/\Ok n z.2/\Srt r z.2 z.1):=by
 have d:Srt r (kas_rev p 0 m) m:=λi j o l=>by rw[bWh (by rw[h.size];exact e) i (by omega),bWh (by rw[h.size];exact e) j l];exact k _ _ (by omega) (by omega)
 refine Asks.bind (aX7 (bZ6 h m) g (n - m) m f (by omega) d) λm' ⟨a,b,c,_⟩=>?_;exact⟨by omega,by omega,bZ6 h m,c⟩
def bQN(h:Ok n p)(f:Inj n r)(y:1<=n):Asks n (Z5 r) (kas_count n p) (λz=>1<=z.1/\z.1<=n/\Ok n z.2/\Srt r z.2 z.1):=by
 refine Asks.bind (aX7 h f (n - 1) 1 (bYO _) (by omega) Srt.one) λm ⟨a,b,c,d⟩=>?_;by_cases e:m=n
 ·rw[if_pos (by simpa using e)];exact⟨a,by omega,h,c⟩
 ·rw[if_neg (by simpa using e)];by_cases o:m > 1
  ·rw[if_pos o];refine⟨h.lt (by omega) _,h.lt (by omega) _,?_⟩;have g:R r p 0<R r p (m - 1):=c 0 (m - 1) (by omega) (by omega);have w:Z5 r (p.getD 0 0) (p.getD (m - 1) 0)=true:=decide_eq_true g;rw[w];show Asks n (Z5 r) (ite _ _ _) _;rw[if_pos rfl];exact⟨a,by omega,h,c⟩
  ·rw[if_neg o];have s:m=1:=by omega
   subst s;have u:=d (by omega);refine Asks.bind (aKF h f (n - 2) 2 (by omega) (by omega) ?_) λz ⟨z1,z2,z3,z4,z5⟩=>?_
   ·intro i j x k;have v:i=0:=by omega
    have k:j=1:=by omega
    subst v;subst k;exact u
   ·obtain⟨q,l,t⟩:=z;simp only at z1 z2 z3 z4 z5;subst z1;subst z2;rw[if_neg (by simp)];exact bZw h f (by show 1<=l;omega) (by show l<=n;omega) z5
def aXF(h:Ok n p)(g:Inj n r){k:Nat}(s:k<n)(b:Srt r p k):∀ (f l u:Nat),l<=u->u<=k->u - l<=f->(∀i,i<l->R r p i<R r p k)->(∀i,u<=i->i<k->R r p k<R r p i)->
  Asks n (Z5 r) (kas_place p k f l u) (λq=>q<=k/\(∀i,i<q->R r p i<R r p k)/\∀i,q<=i->i<k->R r p k<R r p i)
 |0,l,u,h1,h2,h3,h4,h5=>⟨by omega,h4,λi m a=>h5 i (by omega) a⟩
 |f+1,l,u,h1,h2,h3,h4,h5=>by
  unfold kas_place;by_cases c:l≥u
  ·rw[if_pos c];exact⟨by omega,h4,λi m a=>h5 i (by omega) a⟩
  ·rw[if_neg c];refine⟨h.lt (by omega) _,h.lt (by omega) _,?_⟩;have w:(l+u) / 2<u:=by omega
   have hl:l<=(l+u) / 2:=by omega
   by_cases d:r (p.getD k 0)<r (p.getD ((l+u) / 2) 0)
   ·have e:Z5 r (p.getD k 0) (p.getD ((l+u) / 2) 0)=true:=decide_eq_true d;rw[e];show Asks n (Z5 r) (ite _ _ _) _;rw[if_pos rfl];refine aXF h g s b f l _ hl (by omega) (by omega) h4 λi m a=>?_;have t:R r p k<R r p ((l+u) / 2):=d;by_cases o:i=(l+u) / 2
    ·rw[o];exact t
    ·have:=b ((l+u) / 2) i (by omega) a;omega
   ·have e:Z5 r (p.getD k 0) (p.getD ((l+u) / 2) 0)=false:=decide_eq_false d;rw[e];show Asks n (Z5 r) (ite _ _ _) _;rw[if_neg (by decide)];have t:¬R r p k<R r p ((l+u) / 2):=d;have v:=h.rne g (i:=k) (j:=(l+u) / 2) (by omega) (by omega) (by omega);refine aXF h g s b f _ u (by omega) h2 (by omega) (λi m=>?_) h5;by_cases o:i=(l+u) / 2
    ·rw[o];omega
    ·have:=b i ((l+u) / 2) (by omega) (by omega);omega
def bWg{k l:Nat}(h:k<p.size)(hl:l<=k)(i:Nat):R r (bubble p k (k - l)) i=if i=l then R r p k else if l<i/\i<=k then R r p (i - 1)else R r p i:=by
 have e:=getElem?_bubble h (k - l) (by omega) i;rw[show k - (k - l)=l by omega]at e;have d:∀q:Array Nat,∀a b:Nat,∀c:Array Nat,q[a]? =c[b]? ->R r q a=R r c b:=λq a b c z=>by unfold R;rw[aXw,aXw,z]
 by_cases f:i=l
 ·rw[if_pos f]at e ⊢;exact d _ _ _ _ e
 ·rw[if_neg f]at e ⊢;by_cases g:l<i/\i<=k
  ·rw[if_pos g]at e ⊢;exact d _ _ _ _ e
  ·rw[if_neg g]at e ⊢;exact d _ _ _ _ e
def bZL(d:Inj n r):∀ (f k:Nat)(p:Array Nat),Ok n p->k+f=n->Srt r p k->Asks n (Z5 r) (kas_bin f p k) (λs=>Ok n s/\Srt r s n)
 |0,k,p,h,e,hs=>⟨h,by rw[<- e];exact hs⟩
 |f+1,k,p,h,e,hs=>by
  refine Asks.bind (aXF h d (k:=k) (by omega) hs k 0 k (by omega) (bYO _) (by omega) (λi g=>absurd g (by omega)) (λi g b=>absurd b (by omega))) λl ⟨h1,h2,h3⟩=>?_;refine bZL d f (k+1) _ ⟨(cJQ.mp (bubble_perm p k _)).trans h.perm⟩ (by omega) λi j t u=>?_;have m:k<p.size:=by rw[h.size];omega
  rw[bWg m h1,bWg m h1];by_cases o:i=l
  ·rw[if_pos o];by_cases a:j=l
   ·omega
   ·rw[if_neg a,if_pos ⟨by omega,by omega⟩];exact h3 _ (by omega) (by omega)
  ·rw[if_neg o];by_cases a:j=l
   ·rw[if_pos a,if_neg (by omega)];exact h2 i (by omega)
   ·rw[if_neg a];by_cases q:l<i/\i<=k
    ·rw[if_pos q,if_pos ⟨by omega,by omega⟩];exact hs _ _ (by omega) (by omega)
    ·rw[if_neg q];by_cases c:l<j/\j<=k
     ·rw[if_pos c];by_cases cl:i=j - 1
      ·omega
      ·exact hs _ _ (by omega) (by omega)
     ·rw[if_neg c];exact hs _ _ (by omega) (by omega)
def bVT(a:Inj n r)(b:1<=n):Asks n (Z5 r) (kas_sort n) (λp=>Ok n p/\Srt r p n):=by
 have h0:Ok n (cQR (bYU n)):=⟨by simp⟩;refine Asks.bind (bQN h0 a b) λz ⟨h1,h2,h3,h4⟩=>?_;by_cases c:z.1<n
 ·rw[if_pos c,Nat.max_eq_left h1];exact bZL a _ _ _ h3 (by omega) h4
 ·rw[if_neg c];exact⟨h3,by rw[show n=z.1 by omega];exact h4⟩
def aZS(d:Inj n r)(g:1<=n):Asks n (Z5 r) (kas_sort n) (λp=>p.toList.Perm (bYU n)/\p.toList.Pairwise (λi j=>r i<r j)):=by
 refine aX7.Asks.mono (bVT d g) λp ⟨h1,h2⟩=>⟨h1.perm,?_⟩;rw[cZd];intro i j e f c;have b:i<p.size:=by simpa using e
 have a:j<p.size:=by simpa using f
 have z:=h2 i j c (by rw[<- h1.size];exact a);simpa[R,cZc,b,a]using z
end
end Stree
namespace Stree
open PySem PySem.W PySem.Calls PyProof.Rows
section
variable {prog:bY4}{w:cQa}{A:cQl}{E:bYH->bYK->Prop}
def aZh{f:bYH}{vs:List bYH}{kS:Nat}{J:List bYH->bYK->Prop}{body:bYH->PUnit->Sem (ForInStep PUnit)}
  (e:∀a s v,J a s->vs[a.length]? =some v->bYP (bYR prog w) A (body v ⟨⟩) (λr b=>r= .yield ⟨⟩/\∃k,J (a++ [k]) b) E s):
  ∀ (r a:List bYH)(s:bYK),vs.drop a.length=r->a.length<=vs.length->J a s->bYP (bYR prog w) A (forIn r PUnit.unit body) (λ_ b=>∃a,a.length=vs.length/\J a b) E s
 |[],a,s,hr,hle,hJ=>by rw[List.forIn_nil];refine bYN ⟨a,?_,hJ⟩;have:=congrArg cZe hr;rw[List.length_drop]at this;simp at this;omega
 |v::r,a,s,hr,hle,hJ=>by
  rw[cJq];have d:vs[a.length]? =some v:=by have:=congrArg (λl=>l[0]?) hr;simpa using this
  have g:a.length<vs.length:=by
   rcases cZK a.length vs.length with h|h
   ·exact h
   ·rw[cQi h]at d;cases d
  refine bYJ (cQJ (e a s v hJ d) (λq b i=>?_) λ_ _ x=>x);obtain⟨rfl,k,c⟩:=i;show bYP (bYR prog w) A (forIn r PUnit.unit body) _ E b;refine aZh (kS:=kS) (f:=f) e r (a++ [k]) b ?_ (by rw[bY5,cQU];omega) c;rw[bY5,cQU,List.drop_add_one_eq_tail_drop,hr];rfl
def bKb{s:bYK}{a:Nat}{vs:List bYH}{f:bYH}{b:Bool}{P:PySem.Fin->bYK->Prop}{n0:Nat}(W:s.heap.get? a=some (cQw "list" vs.toArray n0))(a7:vs.length<64)(J:Nat->List bYH->bYK->Prop) (h0:∀n q,(∀c o,c≠a->s.heap.get? c=some o->q.get? c=some o)->q.get? a=some (cQw "list" #[] n)->q.get? (s.heap.objs.size+1)=some (cQw "list" #[] 0)->J n [] {s with heap:=q}) (hget:∀n g l,J n g l->(∃e,l.heap.get? (s.heap.objs.size+1)=some (cQw "list" g.toArray e))/\l.heap.get? a=some (cQw "list" #[] n)) (hcall:∀n g l v,J n g l->vs[g.length]? =some v->bYP (bYR prog w) A (call f [v]) (λk m=>(∃e,m.heap.get? (s.heap.objs.size+1)=some (cQw "list" g.toArray e))/\ ∀q c,cXL (s.heap.objs.size+1) m.heap q->q.get? (s.heap.objs.size+1)=some (cQw "list" (g++ [k]).toArray c)->J n (g++ [k]) {m with heap:=q}) (λ_ _=>False) l) (hend:∀n g l,J n g l->g.length=vs.length->∃r:Nat->Int,Inj vs.length r/\ (2<=vs.length->∃κ,(∀Q:SortKind->bYK->Prop,Q κ l->bYP (bYR prog w) A (keyKind' g.toArray) Q (λ_ _=>False) l)/\∀i j C,i<vs.length->j<vs.length->C (decide (r i<r j)) l->kas_ask prog w A κ (katRev b g) i j C l)/\ ∀ (p:List Nat) q c B,p.Perm (bYU vs.length)->p.Pairwise (λi j=>r i<r j)->(∀d,d≠a->d≠s.heap.objs.size+1->q.get? d=l.heap.get? d)->q.get? (s.heap.objs.size+1)=some (cQw "list" #[] c)-> q.get? a=some (cQw "list" (katRev b (p.map λi=>(katRev b vs).getD i Value.none)).toArray B)->P (.done (.ret .none)) {l with heap:=q}): bYP (bYR prog w) A (ksk_tree a f b) P E s:=by
 have ha:a<s.heap.objs.size:=bYV W;have O:a≠s.heap.objs.size+1:=bY7 (cQS ha);obtain⟨n,R⟩:∃n,(s.heap.update a (cQB λ_=>(#[]:Array bYH))).get? a=some (cQw "list" #[] n):=⟨_,cZA W λ_=> #[]⟩;have S:((s.heap.update a (cQB λ_=>(#[]:Array bYH))).push (cQw "tuple" vs.toArray 0)).objs.size=s.heap.objs.size+1:=by rw[size_push',Heap.size_update]
 unfold ksk_tree;refine bYJ (listItems_at W rfl ?_);refine bYJ (cZX W rfl ?_ (by rw[bYZ,cQg];omega) (cQE _));refine bYJ (seqEpoch_at R rfl ?_);refine bYJ (wpAny_newTuple ?_ (by show vs.length<=_;rw[cQg];omega));refine bYJ (cZ0 ?_ (cQE _));refine cQ0 ?_;have J0:=h0 n (((s.heap.update a (cQB λ_=>(#[]:Array bYH))).push (cQw "tuple" vs.toArray 0)).push (cQw "list" #[] 0))
  (λc o hc e=>bYM _ (bYM _ ((cQh _ _ (cQr hc)).trans e)))
  (bYM _ (bYM _ R)) (by rw[<- S];exact cQb _ rfl)
 show bYP _ _ (ksk_rest a f b vs.toArray n (.ref ((s.heap.update a (cQB λ_=>(#[]:Array bYH))).push (cQw "tuple" vs.toArray 0)).objs.size)) _ _ _;rw[S];unfold ksk_rest;refine bYJ (wpAny_rule ?_);first
  |rw[List.forIn_toArray]
  |(rw[<- Array.forIn_toList];simp only[cJC])
  |rw[<- Array.forIn_toList]
 refine bYJ (cQJ (aZh (f:=f) (kS:=s.heap.objs.size+1) (J:=J n) (vs:=vs) (λg l v X hv=>?_) vs [] _ (by simp) (cQE _) J0) (λ_ l hd=>?_) λ_ _ x=>x)
 ·have b1:g.length<vs.length:=by
   rcases cZK g.length vs.length with h|h
   ·exact h
   ·rw[cQi h]at hv;cases hv
  refine bYJ (cZZ (cQJ (hcall n g l v X hv) (λk m hk=>?_) λ_ _ hF=>hF.elim));obtain⟨⟨e,nk⟩,c⟩:=hk;have s1:=cQ9 m.heap (s.heap.objs.size+1) (cQB (·.push k));have ea:(cQR g).push k=cQR (g++ [k]):=by simp
  obtain⟨B,I⟩:∃B,(m.heap.update (s.heap.objs.size+1) (cQB (·.push k))).get? (s.heap.objs.size+1)=some (cQw "list" (cQR (g++ [k])) B):=⟨_,by rw[<- ea];exact cZA nk (·.push k)⟩;try dsimp only
  refine bYJ (cZX nk rfl ?_ (by rw[bYZ,cQg];omega) (cQn (cZk (Array.size_push ..)) (by rw[bYZ,cQg];omega)));exact bYN ⟨rfl,k,c _ B s1 I⟩
 ·obtain⟨g,hl,X⟩:=hd;obtain⟨⟨e,F⟩,b0⟩:=hget n g l X;try dsimp only
  refine bYJ (listItems_at F rfl ?_);obtain⟨r,hr,U,M⟩:=hend n g l X hl;have step:∀t:Sem PySem.Fin,bYP (bYR prog w) A t P E l->bYP (bYR prog w) A (if b=true then(do let _ <- rule "list.sort.reverse";t)else t) P E l:=by
   intro t ht;split
   ·exact bYJ (wpAny_rule ht)
   ·exact ht
  have G:(katRev b g).length=(katRev b vs).length:=by rw[kat_len,kat_len,hl]
  have D:∀ (Z:SortSt)(p:List Nat),p.Perm (bYU vs.length)->p.Pairwise (λi j=>r i<r j)->(arrOf Z).map (·.2)=cQR (p.map λi=>(katRev b vs).getD i Value.none)->failedOf Z=none->
    bYP (bYR prog w) A (ksk_tail a b n (.ref (s.heap.objs.size+1)) Z) P E l:=by
   intro Z p u L V hf
   have a0:p.length=vs.length:=by rw[u.length_eq,cQt]
   obtain⟨ck,a8⟩:∃ck,(l.heap.update (s.heap.objs.size+1) (cQB λ_=>(#[]:Array bYH))).get? (s.heap.objs.size+1)=some (cQw "list" #[] ck):=⟨_,cZA F λ_=> #[]⟩
   have na:(l.heap.update (s.heap.objs.size+1) (cQB λ_=>(#[]:Array bYH))).get? a=some (cQw "list" #[] n):=(cQh _ _ (cQr O)).trans b0
   obtain⟨B,I⟩:∃B,((l.heap.update (s.heap.objs.size+1) (cQB λ_=>(#[]:Array bYH))).update a (cQB λ_=>cQR (katRev b (p.map λi=>(katRev b vs).getD i Value.none)))).get? a=some (cQw "list" (cQR (katRev b (p.map λi=>(katRev b vs).getD i Value.none))) B):=
    ⟨_,cZA na λ_=>cQR (katRev b (p.map λi=>(katRev b vs).getD i Value.none))⟩
   have a5:(cQR (katRev b (p.map λi=>(katRev b vs).getD i Value.none))).size=vs.length:=by rw[bYZ,kat_len,bYL,a0]
   unfold ksk_tail
   try dsimp only
   rw[V,kat_outs]
   refine bYJ (cZX F rfl ?_ (by rw[bYZ,cQg];omega) (cQE _))
   refine bYJ (wpAny_letGo ?_)
   refine bYJ (seqEpoch_at na rfl ?_)
   refine bYJ (cZX na rfl ?_ (cQE _) (cQn (cZk a5) (by rw[cQg];omega)))
   rw[hf]
   simp only[bne_self_eq_false,Bool.false_eq_true,if_false]
   refine bYN (M p _ ck B u L (λd h1 z=>?_) ?_ I)
   ·exact(cQh _ _ (cQr h1)).trans (cQh _ _ (cQr z))
   ·exact(cQh _ _ O).trans a8
  unfold ksk_end;try dsimp only
  refine step _ ?_;rw[kat_pairs b hl];by_cases z:vs.toArray.size<2
  ·rw[if_pos z,if_pos z];refine bYJ (bYN ?_);refine bYJ (bYN ?_);have H:vs.length<2:=by rw[bYZ]at z;exact z
   refine D _ (bYU vs.length) (List.Perm.refl _) ?_ ?_ rfl
   ·rw[cZd];intro i j Y hj b2;rw[cQt]at Y hj;omega
   ·show((cQR (katRev b g)).zip (cQR (katRev b vs))).map (·.2)=_;apply Array.toList_inj.mp;rw[Array.toList_map,Array.toList_zip];simp only[cJC];have n:(cZ6 (katRev b g) (katRev b vs)).map (·.2)=katRev b vs:=List.map_snd_zip (cZk G.symm);rw[n];apply cXX;intro i;rw[bY1];by_cases Y:i<vs.length
    ·have K:i<(katRev b vs).length:=by rw[kat_len];exact Y
     rw[cXr Y];simp[cQu,bYG K]
    ·have K:(katRev b vs).length<=i:=by rw[kat_len];omega
     rw[cQi K,cQi (by rw[cQt];omega)];rfl
  ·have H:2<=vs.length:=by rw[bYZ]at z;omega
   rw[if_neg z,if_neg z];obtain⟨κ,hκ,N⟩:=U H;refine bYJ (cQJ (hκ (λk m=>k=κ/\m=l) ⟨rfl,rfl⟩) (λk m hq=>?_) λ_ _ x=>x.elim);obtain⟨rfl,rfl⟩:=hq;have a6:(kas_sort (katRev b vs).length).kasWp (kas_ask prog w A k (katRev b g)) (λp T=>T=m/\p.toList.Perm (bYU vs.length)/\p.toList.Pairwise (λi j=>r i<r j)) m:=by rw[kat_len];exact Asks.wp (lt:=Z5 r) N (aZS hr (by omega)) λp hp=>⟨rfl,hp⟩
   refine bYJ (cQJ (kat_run (Q:=λy T=>∃p:Array Nat,arrOf y=p.map (kas_item ((cQR (katRev b g)).zip (cQR (katRev b vs))))/\failedOf y=none/\
     T=m/\p.toList.Perm (bYU vs.length)/\p.toList.Pairwise (λi j=>r i<r j))
    G (by rw[kat_len];exact H) (by rw[kat_len];exact a7) (λp' y T a1 a2 a3 a4=>⟨p',a2,a3,a4⟩) a6) ?_ λ_ _ x=>x)
   rintro⟨⟨⟩,y⟩ T ⟨p,a9,hf,rfl,u,L⟩;try dsimp only
   exact D _ p.toList u L (kat_snds G a9) hf
end
end Stree
namespace L2
open PySem PySem.Spec PyProof.Rows
abbrev bKu(X:Cx)(A:cQl)(N:List Str)(qual:Str)(sc:cXV)(L q:Nat)(cd:bYH)(cl:List (Str×Nat))(s:bYK)(H:Hp):Cx:=
 {X with A:=A.deeper (PySem.W.envX qual sc L q cd cl),N:=N,s₀:=s,H₀:=H,env:=PySem.W.envX qual sc L q cd cl,outer:=X.stack,stack:=PySem.W.envX qual sc L q cd cl::X.stack,ex:= [],fn:=λ_=>false,calm:=true,pn:= [],xe:=λ_ _=>False}
section
variable {X:Cx}{pins:List (Nat×Obj)}{σ:St}{H:Hp}{s:bYK}
def bQ5{A:cQl}{x:Str}{names:List Str}{M:List Nat}{f:cXV}{cl:List (Str×Nat)}{name qual:Str}{d:Arguments}{body:Expr}{pm O:bYH}{q n:Nat}{te:TE}{v:V}{u:bYH}{Q:VK} (I:Inv X pins σ H s) (hA:A.frames=some X.stack) (hd:A.handled=none) (K:A.depth<recursionLimit) (S:xJ X.N X.env.scope x names M f) (a2:f.isCoroutine=false) (P:f.isGenerator=false) (a:∀y c,cl.lookup y=some c->X.env.cells.lookup y=some c) (B:∀y,(y,NameKind.free)∈f.names->∃c,cl.lookup y=some c) (ho:s.heap.get? q=some (cXU name qual d body f cl pm n O)) (a4:s.heap.CodeRec (.ref n) qual) (G:∀u:bYH,cZq (PySem.W.kla_fn name qual d body f cl pm (.ref n) O) ⟨[u],[]⟩=pure [(x,u)]) (he:∀A L cd s H,PE (bKu X A (x::names) qual f L q cd cl s H) body te) (r:zJ v u) (h:te (sub σ M (some v)) H Q): bYP (bYR X.prog X.w) A (call (.ref q) [u]) (EP X pins σ Q) (λ_ _=>False) s:=by
 have a0:cXY (bYR X.prog X.w) A (.call (.ref q) ⟨[u],[]⟩) (λr s'=>match r with|.ok (.ret u)=>EP X pins σ Q u s'|_=>False) s:=by
  refine PySem.W.kla_callFunE K ho rfl a2 P rfl a4 ?_;rw[G u];refine bYN (wpAny_newFunctionEnv S.nocell (λy hy=>by rw[bYY.mp hy];exact S.var) (λC a3 a5=>?_) S.kind);have keep:∀b o,s.heap.get? b=some o->C.get? b=some o:=λb o e=>a5.extBut b o (bY7 (bYV e)) (bYM _ e);refine⟨I.nolimit.keeps keep,?_⟩;show cXY _ _ (.expr body (PySem.W.envX qual f s.heap.objs.size q (.ref n) cl)) _ _;have a1:(bKu X A (x::names) qual f s.heap.objs.size q (.ref n) cl s H).Ok:=by
   refine⟨I.ok.mod,S.kind,rfl,rfl,bYO _,?_,?_,?_,λ_=>hd,Around.frames_deeper hA,.inr ⟨rfl,rfl⟩,?_,I.bs,cQn I.ok.bsz I.sz,?_,?_,I.stack,I.stkFree⟩
   ·exact λy z c T U=>I.ok.inj y z c (a y c T) (a z c U)
   ·intro y hy;have g:f.names.lookup y=some .cell\/f.names.lookup y=some .free:=hy;rcases g with g|g
    ·exact absurd rfl (S.nocell _ (cXa g))
    ·exact B y (cXa g)
   ·exact λy c h _=>by cases h
   ·exact λb G=>absurd (show b∈([]:List Nat)from G) (by simp)
   ·exact λb o _ G=>absurd (show b∈([]:List Nat)from G) (by simp)
   ·exact λb G=>absurd (show b∈([]:List Nat)from G) (by simp)
  have IY:Inv (bKu X A (x::names) qual f s.heap.objs.size q (.ref n) cl s H) [] (sub σ M (some v)) H {s with heap:=C,toks:=s.toks+ [(x,u)].length}:=by
   refine⟨a1,rfl,I.bare,Un.kept keep,⟨_,a3,?_⟩,?_,I.hok.fresh (bYO _),λy c e=>I.freeC y c (a y c e),λp hp=>absurd (show p∈([]:List (Nat×Obj))from hp) (by simp),I.hok.kept keep,?_⟩
   ·intro i y t T U h3;cases i with
    |zero=>
     have E:x=y:=by simpa using T
     have F:v=t:=by have z:(some (some v):Option (Option V))=some (some t):=U;cases z;rfl
     subst E;subst F;exact⟨u,r,.inl ⟨S.var,by simp[cX2]⟩⟩
    |succ j=>
     have E:names[j]? =some y:=T;obtain⟨Z,e1,e2,Y⟩:=S.from_ j y E;have F:σ[Z]? =some (some t):=by
      have z:(M.map λi=>(σ[i]?).join)[j]? =some (some t):=U;rw[bY1,e1]at z;have l:(σ[Z]?).join=some t:=bY3 z;cases q:σ[Z]? with
      |none=>rw[q]at l;cases l
      |some o=>rw[q]at l;rw[show o=some t from l]
     obtain⟨m,hn,hl⟩:=I.loc;have R:Vis X.env.scope y:= .inr (S.free _ Y rfl);obtain⟨u',ru,lk⟩:=hl Z y t e2 F R;refine⟨u',ru,.inr ⟨?_,?_⟩⟩
     ·exact .inr (S.flk _ Y rfl)
     ·rcases lk with⟨k,_⟩|⟨k,c,e,z⟩
      ·rcases S.free _ Y rfl with z|z
       ·have l:X.env.kindOf y=some .cell:=z;rw[k]at l;cases l
       ·have l:X.env.kindOf y=some .free:=z;rw[k]at l;cases l
      ·obtain⟨n,e'⟩:=B y Y;have:=a y n e';rw[e]at this;cases this;exact⟨c,e',z.keeps keep⟩
   ·intro y c e;obtain⟨v,z⟩:=I.cell y c (a y c e);exact⟨v,z.keeps keep⟩
   ·show(sub σ M (some v)).length=(x::names).length;simp[sub,S.len]
  refine PySem.W.kla_codeExpr (cQJ (he A s.heap.objs.size (.ref n) s H [] _ (sub σ M (some v)) H Q IY h) (λw s' D=>?_) (λ_ _ z=>z.elim));obtain⟨t,H',J,rv,q⟩:=D;exact I.after ⟨t,H',J.os,J.bare,J.base,J.hok,rv,q⟩
 refine cZU (cXB a0 λr s' D=>?_);cases r with
 |error e=>exact D
 |ok fl=>
  cases fl with
  |ret u=>exact D
  |next=>exact D
  |brk=>exact D
  |cont=>exact D
end
end L2
namespace L2
open PySem PySem.Spec PyProof.Rows
def aKy(c:Nat)(qual:Str):HO:= .ext λh=>h.CodeRec (.ref c) qual
def bWI(q:Nat)(o:Obj):HO:= .ext λh=>h.get? q=some o
def bQM{P:bY4}{w:cQa}{H:Hp}{h:Heap}{c:Nat}{qual:Str}(r:h.CodeRec (.ref c) qual):zD P w H h c (aKy c qual):=by
 obtain⟨s,o,p,t,e,b,g,q⟩:=id r;cases e;refine⟨r,⟨o,b⟩,λb g z k=>?_⟩;obtain⟨n,d,a,f,m,i,j,l⟩:=z;cases m;exact⟨_,d,a,f,rfl,k _ i,j,l⟩
def aYb{P:bY4}{w:cQa}{H:Hp}{h:Heap}{q:Nat}{o:Obj}(r:h.get? q=some o):zD P w H h q (bWI q o):=⟨r,⟨o,r⟩,λa b z k=>k _ z⟩
def Y0(pos:Pos)(qual:Str)(P:Nat)(H:Hp):Prop:=
 H P=some (.tbl #[])\/∃a,H P=some (.tbl (#[]++ #[cQY pos.line,cQY pos.col,.ref a]))/\H a=some (aKy a qual)
def x4(H c:Hp):Prop:=∀b o,(∀a,o≠ .tbl a)->H b=some o->c b=some o
def xA.t{H a:Hp}(k:xA H a):x4 H a:=λb o _ e=>k b o e
def x4.refl(H:Hp):x4 H H:=λ_ _ _ e=>e
def x4.trans{H f d:Hp}(a:x4 H f)(b:x4 f d):x4 H d:=λc o n e=>b c o n (a c o n e)
def x4.lst{H b:Hp}(k:x4 H b){a:Nat}{xs:List V}(h:H a=some (.lst xs)):b a=some (.lst xs):=k a _ (λ_ z=>nomatch z) h
def x4.tup{H b:Hp}(k:x4 H b){a:Nat}{xs:List V}(h:H a=some (.tup xs)):b a=some (.tup xs):=k a _ (λ_ z=>nomatch z) h
def x4.ext{H b:Hp}(k:x4 H b){a:Nat}{φ:Heap->Prop}(h:H a=some (.ext φ)):b a=some (.ext φ):=k a _ (λ_ z=>nomatch z) h
def x4.seq{K:bYI}{H b:Hp}{a:Nat}{xs:List V}(k:x4 H b)(h:SqL K H a xs):SqL K b a xs:=by
 rcases h with h|h
 ·rcases h with h|⟨o,h⟩
  ·exact .inl (.inl (k.lst h))
  ·exact .inl (.inr ⟨o,k a _ (λ_ z=>nomatch z) h⟩)
 ·exact .inr h
def aVd:PySem.TriplesOk (#[]:Array bYH).toList:=trivial
def aVe{a b:Int}{v:bYH}:PySem.TriplesOk ((#[]++ #[cQY a,cQY b,v]:Array bYH)).toList:=trivial
def aKq{pos:Pos}{v:bYH}:codeAmong pos ((#[]++ #[cQY pos.line,cQY pos.col,v]:Array bYH)).toList=some v:=by
 show(if((pos.line:Int)==pos.line && (pos.col:Int)==pos.col)=true then some v else _)=some v;simp
section
variable {X:Cx}{pins:List (Nat×Obj)}{σ:St}{H:Hp}{s:bYK}
def Inv.tab{P:Nat}{d more:Array bYH}{h':Heap}{t':Nat}(I:Inv X pins σ H s)(h:H P=some (.tbl d))(f:cJh P s.heap h')(j:h'.get? P=some {cls:= .none,data:= .fields (d++more) }): Inv X pins σ (upd H P (.tbl (d++more))) {s with heap:=h',toks:=t'}:=by
 have g:∀b,H b=none->b≠P:=λb n z=>by rw[z,h]at n;cases n
 have ne:∀b o,H b=some o->(∀d,o≠ .tbl d)->b≠P:=λb o e n z=>by subst z;rw[h]at e;cases e;exact n _ rfl
 refine I.un (t':=t') ⟨λb o e n _ _=>f b o (g b n) e,λb o e n _ _=>⟨o.slots,f b o (g b n) e⟩,λb o e n _=>by rw[yI (g b n)];exact n,λb o e _=>?_,λb k e=>?_,λb o u e=>?_,λb l e=>?_⟩ λb u e=>?_
 ·by_cases a:b=P
  ·exact⟨_,by rw[a];exact j⟩
  ·exact⟨o,f b o a e⟩
 ·rw[yI (ne b _ e λ_ z=>nomatch z)];exact e
 ·rw[yI (ne b _ e λ_ z=>nomatch z)];exact e
 ·by_cases a:b=P
  ·subst a;rw[h]at e;cases e;exact⟨more,yB⟩
  ·exact⟨#[],by rw[yI a,e];simp⟩
 ·by_cases a:b=P
  ·subst a;rw[yB]at e;cases e;exact j
  ·rw[yI a]at e;refine(I.hok b u e).stay (λc v i q=>f c v ?_ q) (λc q=>?_) λc k q=>?_
   ·rcases i with rfl|i
    ·exact a
    ·exact ne c _ i λ_ z=>nomatch z
   ·rw[yI (ne c _ q λ_ z=>nomatch z)];exact q
   ·rw[yI (ne c _ q λ_ z=>nomatch z)];exact q
def bQ6{name qual:Str}{d:Arguments}{body:Expr}{r:cXV}{c P:Nat}{pos:Pos}{fl:Nat}{cl:List (Str×Nat)}{E:bYH->bYK->Prop}{Q:bYH->bYK->Prop}(I:Inv X pins σ H s)(F:closureFor r X.env=pure cl)(j:X.env.code= .ref c) (C:cXN X.base c P) (hB:X.base.BuiltinsAt X.mg P) (hT:Y0 pos qual P H) (hq:∀ (q f:Nat)(g:bYH)(K:Hp)(s':bYK),Inv X pins σ K s'->H q=none->K q=some (bWI q (cXU name qual d body r cl ((X.mg "__name__").getD .none) f g))->K f=some (aKy f qual)->Y0 pos qual P K->x4 H K->Q (.ref q) s'): bYP (bYR X.prog X.w) X.A (makeFunction name qual d (.expr body) r X.env [] [] [] pos fl) Q E s:=by
 have Z:s.heap.Ns cQe X.mg:=I.ok.mod.glob.keeps I.bk;have hC:=C.keeps I.bk;obtain⟨bm,ob,b1,b2,b3,b4,b5,b6⟩:=hB;have N:s.heap.BuiltinsAt X.mg P:=⟨bm,ob,b1,b2,b3,b4,I.bk _ _ b5,b6⟩;rcases hT with p|⟨f,p,J⟩
 ·have m:s.heap.get? P=some (cZh #[]):=I.hok P _ p;have V:cQe≠P:=λz=>by
   obtain⟨o,es,ep,e,hd,_⟩:=Z;rw[z,m]at e;cases e;cases hd
  refine PySem.W.kla_makeFunction (mg:=X.mg) F I.ok.glob Z j hC m aVd rfl V N λf g h tk M l B D y=>?_;have T:=I.tab (t':=tk) p M y;have x:P≠f:=bY7 (bY9 (bYV m) l);have nc:H f=none:=I.hok.fresh l;have R:upd H P (.tbl (#[]++ #[cQY pos.line,cQY pos.col,.ref f])) f=none:=by rw[yI (cQr x)];exact nc
  have I2:Inv X pins σ (upd (upd H P (.tbl (#[]++ #[cQY pos.line,cQY pos.col,.ref f]))) f (aKy f qual)) {s with heap:=h,toks:=tk}:=by
   have a2:cJh P s.heap h:=M;have Y:∀b,H b=none->b≠P:=λb n z=>by rw[z,p]at n;cases n
   have ne:∀b o,H b=some o->(∀ps,o≠ .tbl ps)->b≠P:=λb o e n z=>by subst z;rw[p]at e;cases e;exact n _ rfl
   have a1:∀b o,s.heap.get? b=some o->b≠f:=λb o e=>bY7 (bY9 (bYV e) l);have S:∀b,b≠P->b≠f->upd (upd H P (.tbl (#[]++ #[cQY pos.line,cQY pos.col,.ref f]))) f (aKy f qual) b=H b:=λb U h2=>by rw[yI h2,yI U]
   have hl:∀b u,H b=some u->b≠f:=λb u e=>yJ e nc;refine I.un (t':=tk) ⟨λb o e n _ _=>M b o (Y b n) e,λb o e n _ _=>⟨o.slots,M b o (Y b n) e⟩,λb o e n _=>by rw[S b (Y b n) (a1 b o e)];exact n,λb o e _=>?_,λb xs e=>?_,λb o u e=>?_,λb qs e=>?_⟩ λb u e=>?_
   ·by_cases O:b=P
    ·exact⟨_,by rw[O];exact y⟩
    ·exact⟨o,M b o O e⟩
   ·rw[S b (ne b _ e λ_ z=>nomatch z) (hl b _ e)];exact e
   ·rw[S b (ne b _ e λ_ z=>nomatch z) (hl b _ e)];exact e
   ·by_cases O:b=P
    ·subst O;rw[p]at e;cases e;exact⟨_,by rw[yI x];exact yB⟩
    ·exact⟨#[],by rw[S b O (hl b _ e),e];simp⟩
   ·by_cases L:b=f
    ·subst L;rw[yB]at e;cases e;exact bQM D
    ·rw[yI L]at e;refine(T.hok b u e).stay (λc v _ q=>q) (λc q=>?_) λc xs q=>?_
     ·rw[yI (yJ q R)];exact q
     ·rw[yI (yJ q R)];exact q
  have i:H h.objs.size=none:=I.hok.fresh (cQn l (cZl B));have I3:=I2.laid (a:=h.objs.size) (o:=bWI h.objs.size (cXU name qual d body r cl ((X.mg "__name__").getD .none) f g)) (t':=tk) (h':=h.push (cXU name qual d body r cl ((X.mg "__name__").getD .none) f g))
   (λb o e=>bYM _ e) (bYO _) (aYb (cQb _ rfl))
  have G:f≠h.objs.size:=bY7 B;have a0:P≠h.objs.size:=bY7 (bYV y);refine hq h.objs.size f g _ _ I3 i yB (by rw[yI G];exact yB) (.inr ⟨f,by rw[yI a0,yI x];exact yB,by rw[yI G];exact yB⟩) λb o n e=>?_;have U:b≠P:=λz=>by subst z;rw[p]at e;cases e;exact n _ rfl
  rw[yI (yJ e i),yI (yJ e nc),yI U];exact e
 ·have m:s.heap.get? P=some (cZh (#[]++ #[cQY pos.line,cQY pos.col,.ref f])):=I.hok P _ p;refine PySem.W.kla_makeFunctionHit (mg:=X.mg) F I.ok.glob Z j hC m aVe aKq N λg h tk hk l=>?_;have T:Inv X pins σ H {s with heap:=h,toks:=tk}:=I.kept hk;have i:H h.objs.size=none:=T.hok.fresh (bYO _);have I3:=T.laid (a:=h.objs.size) (o:=bWI h.objs.size (cXU name qual d body r cl ((X.mg "__name__").getD .none) f g)) (t':=tk) (h':=h.push (cXU name qual d body r cl ((X.mg "__name__").getD .none) f g))
   (λb o e=>bYM _ e) (bYO _) (aYb (cQb _ rfl))
  have k:=yG i (bWI h.objs.size (cXU name qual d body r cl ((X.mg "__name__").getD .none) f g));exact hq h.objs.size f g _ _ I3 i yB (k _ _ J) (.inr ⟨f,k _ _ p,k _ _ J⟩) k.t
end
end L2
namespace Stree
open PySem PySem.W PySem.Calls PyProof.Rows
def Q7{α:Type}(p q:α->Bool):∀ (l:List α),(∀a∈l,p a=true->q a=true)->(∃a∈l,p a=false/\q a=true)->l.countP p<l.countP q
 |[],_,h=>by obtain⟨a,b,_⟩:=h;cases b
 |x::r,hs,h=>by
  have e:r.countP p<=r.countP q:=List.countP_mono_left λa b=>hs a (bYT _ b);obtain⟨a,b,c,d⟩:=h;rcases bYQ.mp b with rfl|b
  ·rw[cJk,cJk,c,d];simp;omega
  ·have g:=Q7 p q r (λa b=>hs a (bYT _ b)) ⟨a,b,c,d⟩;rw[cJk,cJk];have:=hs x bYW;cases f:p x with
   |false=>cases q x<;> simp<;> omega
   |true=>rw[this f];simp;omega
def aJL{n:Nat}(lt:Nat->Nat->Bool)(f:∀i,i<n->lt i i=false)(p:∀i j k,i<n->j<n->k<n->lt i j=true->lt j k=true->lt i k=true)(g:∀i j,i<n->j<n->i≠j->lt i j=true\/lt j i=true): ∃r:Nat->Int,Inj n r/\∀i j,i<n->j<n->decide (r i<r j)=lt i j:=by
 refine⟨λi=>((bYU n).countP λm=>lt m i:Nat),?_,?_⟩
 ·have up:∀i j,i<n->j<n->lt i j=true->((bYU n).countP λm=>lt m i)<((bYU n).countP λm=>lt m j):=λi j a b h=>
   Q7 _ _ _ (λm o d=>p m i j (cQf.mp o) a b d h) ⟨i,cQf.mpr a,f i a,h⟩
  intro i j a b e;by_cases c:i=j
  ·exact c
  ·exfalso;have q:(((bYU n).countP λm=>lt m i:Nat):Int)=((bYU n).countP λm=>lt m j:Nat):=e;rcases g i j a b c with h|h
   ·have:=up i j a b h;omega
   ·have:=up j i b a h;omega
 ·intro i j a b;have up:∀i j,i<n->j<n->lt i j=true->((bYU n).countP λm=>lt m i)<((bYU n).countP λm=>lt m j):=λi j a b h=>
   Q7 _ _ _ (λm o d=>p m i j (cQf.mp o) a b d h) ⟨i,cQf.mpr a,f i a,h⟩
  cases h:lt i j with
  |true=>have:=up i j a b h;exact decide_eq_true (by show(((bYU n).countP λm=>lt m i:Nat):Int)<((bYU n).countP λm=>lt m j:Nat);omega)
  |false=>
   refine decide_eq_false ?_;show ¬ (((bYU n).countP λm=>lt m i:Nat):Int)<((bYU n).countP λm=>lt m j:Nat);by_cases c:i=j
   ·subst c;omega
   ·rcases g i j a b c with l|l
    ·rw[h]at l;cases l
    ·have:=up j i b a l;omega
section
variable {prog:bY4}{w:cQa}{A:cQl}{E:bYH->bYK->Prop}{s:bYK}
def aXq{r:Nat}{n:Nat}{t u v:Tok}{Q:List bYH->bYK->Prop}(M:A.handled=none)(J:IsRange s.heap r 0 n 1 t u v)(V:n<64) (K:∀m tk G,(∀b o,s.heap.get? b=some o->m.get? b=some o)->s.heap.objs.size<m.objs.size->cZf G ((bYU n).map Int.ofNat)->Q G {s with heap:=m,toks:=tk}):bYP (bYR prog w) A (collect (.ref r)) Q E s:=by
 have P:Builtin.Range.rangeSize 0 n 1=(n:Int):=by rw[rangeSize_one];split<;> omega
 have D:Builtin.Range.small 0 n 1=true:=small_one (by decide) (by decide) (by omega) (by omega);unfold collect;refine bYJ (wpAny_runValue (cXW F.entry_proto_collect ?_));rw[cXE F.plain_proto_collect _];show bYP _ A.in1 (newList [] >>=λl=>again (.builtin "list.__iadd__" ⟨[l,.ref r],[]⟩)) _ _ s;refine bYJ (cXH ?_);refine bYN ⟨cZY F.plain_list_iadd _,cXW F.entry_list_iadd ?_⟩;rw[cXE F.plain_list_iadd _];have d:(s.heap.push {cls:= .type "list",data:= .seq ([]:List bYH).toArray}).get? s.heap.objs.size=some {cls:= .type "list",data:= .seq ([]:List bYH).toArray}:=cQb _ rfl;show bYP _ A.in1 (cZM (.ref s.heap.objs.size) (.ref r) (.ref s.heap.objs.size)) _ _ _;refine cQJ (wpAny_extend_range (A:=A) (R:=λq y=>q= .ok (.ret (.ref s.heap.objs.size))/\∃a g,y.heap.get? s.heap.objs.size=some {cls:= .type "list",dict:=none,data:= .seq a g,slots:= #[] }/\Q a.toList y) (s:={s with heap:=s.heap.push {cls:= .type "list",data:= .seq ([]:List bYH).toArray} }) M (bYM _ J) D P (by omega) s.heap.objs.size (.ref s.heap.objs.size) 0 d λm tk a g N p c=>⟨rfl,a,g,p,?_⟩) (λfin y C=>?_) λe y L=>by obtain⟨z,_⟩:=L;cases z
 rotate_left
 ·cases fin with
  |done f=>
   obtain⟨e,a,g,h,j⟩:=C;have U:f= .ret (.ref s.heap.objs.size):=by cases e;rfl
   subst U;exact bYJ (wpAny_load h (bYN j))
  |again g=>
   exact⟨C.1,cXB C.2 λq O S=>by
    obtain⟨rfl,a,g,h,j⟩:=S;exact bYJ (wpAny_load h (bYN j))⟩
 refine K m tk a.toList (λb o e=>N b o (bY7 (bYV e)) (bYM _ e)) (bYV p) ?_;have len:a.toList.length=n:=by rw[cQ2];exact c.1
 have all:∀ (k:Nat)(l:List bYH),l.length<=n->k+l.length=n->(∀i v,l[i]? =some v->∃t,v=Value.int ((k+i:Nat):Int) t)->cZf l ((List.range' k l.length).map Int.ofNat):=by
  intro k l;induction l generalizing k with
  |nil=>intro _ _ _;exact .nil
  |cons x l T=>
   intro h j H;obtain⟨t,rfl⟩:=H 0 x rfl;rw[cQF,List.range'_succ,cQx];exact .cons _ _ (T (k+1) (by rw[cQF]at h;omega) (by rw[cQF]at j;omega) λi v B=>by
    obtain⟨I,e⟩:=H (i+1) v B;exact⟨I,by rw[e,show k+(i+1)=k+1+i by omega]⟩)
 have z:=all 0 a.toList (by omega) (by omega) λi v B=>by obtain⟨t,e⟩:=c.2 i v (by rw[<- cXf];exact B);exact⟨t,by rw[e,show(0:Int)+(i:Int)*1=((0+i:Nat):Int) by omega]⟩
 rw[len]at z;rw[List.range_eq_range'];exact z
def aZT{r:Nat}{n:Nat}{t u v:Tok}{b:Bool}{f:bYH}{g:List (Str×bYH)}{Q:bYH->bYK->Prop}(G:A.handled=none)(C:IsRange s.heap r 0 n 1 t u v)(F:n<64) (j:argsOk "sorted" ⟨[.ref r],g⟩) (q:∀x,argsOk "list.sort" ⟨[.ref x],g⟩) (B:∀x,cXv.«list.sort» ⟨[.ref x],g⟩=ksk_tree x f b) (h:∀a c tk d,(∀b o,s.heap.get? b=some o->c.get? b=some o)->s.heap.objs.size<=a->c.get? a=some (cQw "list" d.toArray 0)->cZf d ((bYU n).map Int.ofNat)-> bYP (bYR prog w) A.in1.in1 (ksk_tree a f b) (λfin z=>fin= .done (.ret .none)/\Q (.ref a) z) (λ_ _=>False) {s with heap:=c,toks:=tk}): bYP (bYR prog w) A (call (.builtin "sorted") [.ref r] g) Q E s:=by
 refine call_function_entry_kw kind_sorted plain_sorted entry_sorted j ?_;unfold cXv.«sorted»;refine bYJ (m:=checkCount "sorted" 1 1 _) (bYN ?_);refine bYJ (aXq (A:=A.in1) (by simpa using G) C F λc tk d H k y=>?_);have D:d.length=n:=by rw[y.length];simp
 refine bYJ (cZ0 ?_ (by rw[cQg];omega));have i:(c.push (cQw "list" d.toArray 0)).get? c.objs.size=some (cQw "list" d.toArray 0):=cQb _ rfl;have l:s.heap.objs.size<=c.objs.size:=cZl k;refine bYJ (cQ0 (wpAny_call_entry_kw slot_list_sort ⟨_,i,rfl⟩ entry_list_sort ?body (q _)));case body=>
  show bYP (bYR prog w) A.in1.in1 (cXv.«list.sort» ⟨[.ref c.objs.size],g⟩) _ _ _;rw[B c.objs.size];refine cQJ (h c.objs.size (c.push (cQw "list" d.toArray 0)) tk d (λb o e=>bYM _ (H b o e)) l i y) (λfin z p=>?_) λ_ _ x=>x.elim;obtain⟨rfl,p⟩:=p;exact⟨_,rfl,bYN ⟨_,rfl,p⟩⟩
end
end Stree
namespace Stree
open PySem PySem.W PySem.Calls PyProof.Rows
def z9(a b:Int×Int):Bool:=decide (a.1<b.1) || (decide (a.1=b.1) && decide (a.2<b.2))
def vK(a:Int×Int):z9 a a=false:=by simp[z9]
def aXA{a b c:Int×Int}(d:z9 a b=true)(e:z9 b c=true):z9 a c=true:=by
 simp only[z9,Bool.or_eq_true,Bool.and_eq_true,decide_eq_true_eq]at d e ⊢;omega
def aXz{a b:Int×Int}(h:a≠b):z9 a b=true\/z9 b a=true:=by
 have c:¬ (a.1=b.1/\a.2=b.2):=λ⟨x,y⟩=>h (Prod.ext x y);simp only[z9,Bool.or_eq_true,Bool.and_eq_true,decide_eq_true_eq];omega
section
variable {prog:bY4}{w:cQa}{A:cQl}{E:bYH->bYK->Prop}{s:bYK}
def aJh{a c:Int}{t t':Tok}{Q:Bool->bYK->Prop}(h:Q (a==c) s):bYP (bYR prog w) A (eqBool (.int a t) (.int c t')) Q E s:=
 (L2.bZP (A:=A) (s:=s) (y:= .int a) (x:= .int c) ⟨t,rfl⟩ ⟨t',rfl⟩ rfl rfl) prog w E Q h
def aK4{x y:Nat}{f i:Obj}{n k:Nat}{a b c d:Int}{m t j p:Tok}{Q:Bool->bYK->Prop}(o:s.heap.get? x=some f)(dx:f.data= .seq #[.int a m,.int b t] n)(l:s.heap.get? y=some i)(r:i.data= .seq #[.int c j,.int d p] k) (h:Q (z9 (a,b) (c,d)) s):bYP (bYR prog w) A (keyLt' (tuples' true) (.ref x) (.ref y)) Q E s:=by
 refine kat_lt o dx l r ?_;refine kat_cons (aJh ?_);unfold z9 at h;by_cases e:a=c
 ·subst e;simp only[Int.lt_irrefl,decide_false,Bool.false_or,decide_true,Bool.true_and]at h;rw[beq_self_eq_true];refine kat_yes (kat_cons (aJh ?_));by_cases g:b=d
  ·subst g;rw[beq_self_eq_true];refine kat_yes (kat_nil ?_);simpa using h
  ·rw[beq_eq_false_iff_ne.mpr g];refine kat_no (kat_one _ _ ?_);exact lt_int h
 ·rw[beq_eq_false_iff_ne.mpr e];have q:Q (decide (a<c)) s:=by
   have:decide (a=c)=false:=decide_eq_false e;simpa[this]using h
  refine kat_no ?_;exact oneLt_int q
end
end Stree
namespace L2
open PySem PySem.Spec PyProof.Rows
def ixb(b:Bool)(n i:Nat):Nat:=if b=true then n - 1 - i else i
def aZo{b:Bool}{n i:Nat}(h:i<n):ixb b n i<n:=by unfold ixb;split<;> omega
def bJL{b:Bool}{n i j:Nat}(a:i<n)(c:j<n)(h:ixb b n i=ixb b n j):i=j:=by unfold ixb at h;split at h<;> omega
def aXI{α:Type}{b:Bool}{l:List α}{n i:Nat}{d:α}(a:l.length=n)(c:i<n):(cQW b l).getD i d=l.getD (ixb b n i) d:=by
 unfold cQW ixb;split
 ·simp only[cQu];rw[List.getElem?_reverse (by omega),a]
 ·rfl
def bWQ{n:Nat}{b:Bool}{a:Nat->Int×Int}{r:Nat->Int}{p:List Nat}(l:p.Perm (bYU n))(k:p.Pairwise λi j=>r i<r j)(g:∀i j,i<n->j<n->decide (r i<r j)=Stree.z9 (a (ixb b n i)) (a (ixb b n j))): (cQW b (p.map (ixb b n))).Perm (bYU n)/\(cQW b (p.map (ixb b n))).Pairwise λi j=>Stree.z9 (if b=true then a j else a i) (if b=true then a i else a j)=true:=by
 have f:(p.map (ixb b n)).Pairwise λi j=>Stree.z9 (a i) (a j)=true:=by rw[cJc];have m:∀i∈p,i<n:=λi c=>cQf.mp (l.mem_iff.mp c);refine k.imp_of_mem λ{i j} c hj h=>?_;rw[<- g i j (m i c) (m j hj)];exact decide_eq_true h
 have d:=l.map (ixb b n);cases b with
 |false=>
  have e:ixb false n=id:=by funext i;rfl
  rw[e]at d f ⊢;rw[List.map_id,List.map_id]at d;rw[List.map_id]at f ⊢;exact⟨d,f⟩
 |true=>
  have e:(bYU n).map (ixb true n)=(bYU n).reverse:=by
   apply cXX;intro i;by_cases c:i<n
   ·rw[bY1,cXr c,List.getElem?_reverse (by simpa using c),cQt,cXr (by omega)];rfl
   ·rw[cQi (by simp;omega),cQi (by simp;omega)]
  rw[e]at d;refine⟨(List.reverse_perm _).trans (d.trans (List.reverse_perm _)),?_⟩;show((p.map (ixb true n)).reverse).Pairwise _;rw[List.pairwise_reverse];exact f
def bJn(H:Hp)(b:Nat->Int×Int)(c:List bYH):Prop:=∀i v,c[i]? =some v->∃a,v= .ref a/\H a=some (.tup [.int (b i).1,.int (b i).2])
def bZv(te:TE)(fr:List Nat)(tb:TE)(P:Nat)(lpos:Pos)(qual:Str)(b:Bool):TE:=λσ H Q=>te σ H λv d=>∃n:Nat,v= .int n/\n<64/\Y0 lpos qual P d/\∃kz:Nat->Int×Int,
 (∀i j,i<n->j<n->kz i=kz j->i=j)/\
 (∀i c,i<n->x4 d c->Y0 lpos qual P c->∀R:VK,(∀a e,x4 c e->e P=c P->e a=some (.tup [.int (kz i).1,.int (kz i).2])->R (.ref a) e)->tb (sub σ fr (some (.int i))) c R)/\
 ∀H5 l (out:List Nat),x4 d H5->Y0 lpos qual P H5->d l=none->out.Perm (bYU n)->(out.Pairwise λi j=>Stree.z9 (if b=true then kz j else kz i) (if b=true then kz i else kz j)=true)->H5 l=some (.lst (out.map λi=> .int (i:Nat)))->Q (.ref l) H5
def Y0.keep{lpos:Pos}{qual:Str}{P:Nat}{H a:Hp}(t:Y0 lpos qual P H)(k:x4 H a)(e:a P=H P):Y0 lpos qual P a:=by
 rcases t with t|⟨c,b,d⟩
 ·exact .inl (e.trans t)
 ·exact .inr ⟨c,e.trans b,k.ext d⟩
section
variable {X:Cx}{e body:Expr}{te tb:TE}{x:Str}{names:List Str}{fr:List Nat}{sc:cXV}{params:Arguments}{qual:Str}{p p2 p3 pos lpos kp kp2 bp:Pos}{j:Nat}{b:Bool}{c P:Nat}{k:Nat}
def aWR(c9:Gl X "sorted")(d7:X.mg "sorted"=none)(f6:Gl X "range")(f0:X.mg "range"=none)(he:PE X e te)(S:xJ X.N X.env.scope x names fr sc)(d6:sc.isCoroutine=false)(c3:sc.isGenerator=false)
  (a7:X.env.code= .ref c) (C:cXN X.base c P) (hB:X.base.BuiltinsAt X.mg P) (hr:vP (k+1) X.A) (c8:defaultsOf params X.env=([],[])) (hq:X.env.qual++"<lambda>"=qual)
  (hb:∀ (cl:List (Str×Nat))(pm f5 a8 u:bYH),cZq (PySem.W.kla_fn "<lambda>" qual params body sc cl pm f5 a8) ⟨[u],[]⟩=pure [(x,u)])
  (b2:∀A L q cd cl s H,PE (bKu X A (x::names) qual sc L q cd cl s H) body tb) (b1:cQq "sorted"=some (.builtin "sorted"):=dk)
  (s2:cQk [e] X.env= [(false,eval e X.env)]:=by rfl):
  PE X (.Call (.Name "sorted" p) [.Call (.Name "range" p2) [e] [] p3] [⟨some "key",.Lambda params body sc lpos,kp⟩,⟨some "reverse",.Constant (.bool b) j bp,kp2⟩] pos) (bZv te fr tb P lpos qual b):=by
 intro g s σ H Q I h
 refine cXl (aXd I c9 d7 b1 ?_)
 refine callWith_kw ?_
 show bYP _ _ (spliced ((false,eval (.Call (.Name "range" p2) [e] [] p3) X.env):: [])) _ _ s
 refine Calls.spliced_cons ?_
 refine cXl (aXd I f6 f0 boot_range ?_)
 refine cZN ?_ s2 rfl
 refine thn (yA he yD s2 p3 g s σ H (λvs H1=>match vs with|[v]=>(∃n:Nat,v= .int n/\n<64/\Y0 lpos qual P H1/\∃kz:Nat->Int×Int,
   (∀i j,i<n->j<n->kz i=kz j->i=j)/\
   (∀i B,i<n->x4 H1 B->Y0 lpos qual P B->∀R:VK,(∀a Y,x4 B Y->Y P=B P->Y a=some (.tup [.int (kz i).1,.int (kz i).2])->R (.ref a) Y)->tb (sub σ fr (some (.int i))) B R)/\
   ∀H5 l (out:List Nat),x4 H1 H5->Y0 lpos qual P H5->H1 l=none->out.Perm (bYU n)->(out.Pairwise λi j=>Stree.z9 (if b=true then kz j else kz i) (if b=true then kz i else kz j)=true)->H5 l=some (.lst (out.map λi=> .int (i:Nat)))->Q (.ref l) H5)|_=>False) I h) λus s1 ⟨vs,H1,I1,r1,z⟩=>?_
 match vs,z with
 |[v],⟨n,e2,hn,hT,kz,hinj,hkey,hfin⟩=>
  subst e2;obtain⟨u,rfl,ru⟩:=aQV r1;obtain⟨t,rfl⟩:=ru;refine call_range_1 (Calls.spliced_nil ?_);have fR:=I1.fpOk (b:=s1.heap.objs.size) (bYO _) I1.fresh;have I2:Inv X ((s1.heap.objs.size,{cls:= .type "range",data:= .fields #[.int 0 s1.toks,.int (n:Int) t,.int 1 (s1.toks+1)] })::g) σ H1 {s1 with heap:=s1.heap.push {cls:= .type "range",data:= .fields #[.int 0 s1.toks,.int (n:Int) t,.int 1 (s1.toks+1)] },toks:=s1.toks+1+1}:=by
   have I0:Inv X g σ H1 {s1 with heap:=s1.heap.push {cls:= .type "range",data:= .fields #[.int 0 s1.toks,.int (n:Int) t,.int 1 (s1.toks+1)] },toks:=s1.toks+1+1}:=I1.kept λb o e=>bYM _ e;refine I0.pins_of λq hq=>?_;rcases bYQ.mp hq with rfl|hq
   ·exact⟨cQb _ rfl,fR.1,fR.2.1,fR.2.2.1,λv z=>by cases z⟩
   ·exact I0.pin q (bY6 _ hq)
  obtain⟨cl,c1,c2,c4⟩:=aJp S I2;refine kws_cons (PySem.W.kla_eval c8 ?_);rw[hq];refine bQ6 I2 c1 a7 C hB hT λq c' a8 H' s' I3 g7 e0 a9 d9 b6=>?_;refine kws_cons (Constant_bool (kws_nil ?_));show bYP _ _ (call (.builtin "sorted") [.ref s1.heap.objs.size] [(cZ8 "key",.ref q),(cZ8 "reverse",.bool b)]) _ _ s';have a3:IsRange s'.heap s1.heap.objs.size 0 n 1 s1.toks t (s1.toks+1):=(I3.pin _ (bY6 _ (bYW ..))).1;have I4:Inv X g σ H' s':=I3.pins_of λp G=>I3.pin p (bY6 _ (bYT _ G));refine Stree.aZT hr.hd a3 hn (ksk_s2 _ _ _) (λx=>ksk_l2 _ _ _) (λx=>ksk_t2 q x b) λa M tk vs hk a1 ha hI=>?_;have a0:vs.length=n:=by rw[hI.length];simp
  have I5:Inv X g σ H' {s' with heap:=M,toks:=tk}:=I4.kept hk;have Z:=I4.fpOk (b:=a) a1 (I4.hok.fresh a1);have b8:a<M.objs.size:=bYV ha;have b5:s'.heap.objs.size<=M.objs.size+1:=cQn a1 (cZl (cQS b8));have O:=I4.fpOk (b:=M.objs.size+1) b5 (I4.hok.fresh b5);refine Stree.bKb (s:={s' with heap:=M,toks:=tk}) ha (by rw[a0];exact hn) (λe1 w U=>∃ (B:Hp)(e:Nat),Inv X ((a,cQw "list" #[] e1)::(M.objs.size+1,cQw "list" w.toArray e)::g) σ B U/\x4 H' B/\Y0 lpos qual P B/\bJn B kz w) ?h0 ?hget ?hcall ?hend;case h0=>
   intro e1 h2 k2 a2 q2;have I6:Inv X g σ H' {s' with heap:=h2,toks:=tk}:=I5.turned (t':=tk) (h':=h2) (λb o hb e=>k2 b o hb e) Z.1 Z.2.1 Z.2.2.2.1 Z.2.2.2.2.1 Z.2.2.2.2.2;refine⟨H',0,I6.pins_of λp G=>?_,x4.refl _,d9,λi v D=>by simp at D⟩;rcases bYQ.mp G with rfl|G
   ·exact⟨a2,Z.1,Z.2.1,Z.2.2.1,λv z=>by cases z⟩
   ·rcases bYQ.mp G with rfl|G
    ·exact⟨q2,O.1,O.2.1,O.2.2.1,λv z=>by cases z⟩
    ·exact I6.pin p (bY6 _ G)
  case hget=>
   rintro e1 w U ⟨B,e,J,_,_,_⟩;exact⟨⟨e,(J.pin _ (bY6 _ (bYT _ (bYW ..)))).1⟩,(J.pin _ (bY6 _ (bYW ..))).1⟩
  case hcall=>
   rintro e1 w U v ⟨B,e,J,k3,t3,z3⟩ D;have F:w.length<n:=by
    rcases cZK w.length vs.length with h|h
    ·omega
    ·rw[cQi h]at D;cases D
   obtain⟨t',rfl⟩:∃t',v=Value.int (w.length:Nat) t':=by
    have r:=uU hI;have e3:((((bYU n).map Int.ofNat)).map V.int)[w.length]? =some (V.int (w.length:Nat)):=by simp[F]
    obtain⟨u,hu,ru⟩:=r.get e3;rw[D]at hu;cases hu;exact ru
   have d8:U.heap.get? q=some (cXU "<lambda>" qual params body sc cl ((X.mg "__name__").getD .none) c' a8):=(J.hok q _ (k3.ext e0)).1;have c0:U.heap.CodeRec (.ref c') qual:=(J.hok c' _ (k3.ext a9)).1;refine cQJ (bQ5 (A:=X.A.in1.in1) J I.ok.frames hr.hd (by have:=hr.dp;show X.A.depth<_;omega) S d6 c3 c2 c4 d8 c0 (λu=>hb cl _ _ _ u) (λA L cd s H=>b2 A L q cd cl s H) (v:= .int (w.length:Nat)) ⟨t',rfl⟩ (Q:=λv Y=>∃a4,v= .ref a4/\x4 B Y/\Y P=B P/\Y a4=some (.tup [.int (kz w.length).1,.int (kz w.length).2])) (hkey w.length B F (b6.trans k3) t3 _ λa4 Y k4 p4 e4=>⟨a4,rfl,k4,p4,e4⟩)) (λkv s4 g4=>?_) λ_ _ x=>x;obtain⟨v4,Y,J4,d5,a4,rfl,k4,p4,e4⟩:=g4;cases d5;refine⟨⟨e,(J4.pin _ (bY6 _ (bYT _ (bYW ..)))).1⟩,λh5 c5 sb e5=>?_⟩;have f4:Inv X g σ Y s4:=J4.pins_of λp G=>J4.pin p (bY6 _ (bYT _ (bYT _ G)));have pa:=J4.pin _ (bY6 _ (bYW ..));have pk:=J4.pin _ (bY6 _ (bYT _ (bYW ..)));have J5:Inv X g σ Y {s4 with heap:=h5,toks:=s4.toks}:=f4.turned (t':=s4.toks) (h':=h5) (it:=M.objs.size+1) (λb o hb e=>(sb.2 b hb).trans e) pk.2.1 O.2.1 O.2.2.2.1 O.2.2.2.2.1 O.2.2.2.2.2;refine⟨Y,c5,J5.pins_of λp G=>?_,k3.trans k4,t3.keep k4 p4,λi v D=>?_⟩
   ·rcases bYQ.mp G with rfl|G
    ·exact⟨(sb.2 _ (bY7 (cQS b8))).trans pa.1,pa.2⟩
    ·rcases bYQ.mp G with rfl|G
     ·exact⟨e5,pk.2.1,O.2.1,O.2.2.1,λv z=>by cases z⟩
     ·exact J5.pin p (bY6 _ G)
   ·by_cases d4:i<w.length
    ·rw[cQd d4]at D;obtain⟨a6,e6,h6⟩:=z3 i v D;exact⟨a6,e6,k4.tup h6⟩
    ·rw[bY2 (by omega)]at D;have:i - w.length=0:=by
      rcases cZK (i - w.length) 1 with h|h
      ·omega
      ·rw[cQi (by simpa using h)]at D;cases D
     have ei:i=w.length:=by omega
     subst ei;simp at D;exact⟨a4,D.symm,e4⟩
  case hend=>
   rintro e1 w U ⟨B,e,J,k3,t3,z3⟩ hl;have J':Inv X g σ B U:=J.pins_of λp G=>J.pin p (bY6 _ (bYT _ (bYT _ G)));have b9:w.length=n:=by omega
   obtain⟨r,f8,b7⟩:=Stree.aJL (n:=n) (λi j=>Stree.z9 (kz (ixb b n i)) (kz (ixb b n j))) (λi _=>Stree.vK _) (λi j k _ _ _ M h2=>Stree.aXA M h2)
    (λi j F hj e8=>Stree.aXz λz=>e8 (bJL F hj (hinj _ _ (aZo F) (aZo hj) z)))
   have ob:∀i,i<n->∃a o t1 t2 m,w.getD i Value.none= .ref a/\U.heap.get? a=some o/\o.cls= .type "tuple"/\o.data= .seq #[.int (kz i).1 t1,.int (kz i).2 t2] m:=λi F=>by obtain⟨a6,e6,h6⟩:=z3 i (w.getD i Value.none) (by simp[cQu,bYG (show i<w.length by omega)]);obtain⟨g8,rv,pl,_⟩:=J'.tuple (SqT.of h6);obtain⟨u1,u2,rfl,r1,r2⟩:=xW.two rv;obtain⟨t1,rfl⟩:=r1;obtain⟨t2,rfl⟩:=r2;obtain⟨o,g1,g2,m,g3⟩:=pl;exact⟨a6,o,t1,t2,m,e6,g1,g2,g3⟩
   refine⟨r,by rw[a0];exact f8,λ_=>⟨tuples' true,λQ' f9=>?_,λi j C' F hj hC=>?_⟩,λp h5 c5 c6 a5 f7 k5 g5 o5=>?_⟩
   ·have c7:∀ (l:List bYH)(k:Nat),(∀ (i:Nat)(v:bYH),l[i]? =some v->∃a o t1 t2 m x y,v=Value.ref a/\U.heap.get? a=some o/\o.cls= .type "tuple"/\o.data= .seq #[.int x t1,.int y t2] m)->
      ∃fs,cJ8 U.heap l fs/\fs.length=l.length/\∀f∈fs,∃x t,f=Value.int x t:=by
     intro l
     induction l with
     |nil=>intro _ _;exact⟨[],trivial,rfl,λf hf=>by cases hf⟩
     |cons v l ih=>
      intro k D;obtain⟨a,o,t1,t2,m,x,y,rfl,g1,g2,g3⟩:=D 0 v rfl;obtain⟨fs,f1,f2,f3⟩:=ih (k+1) λi v h=>D (i+1) v h;refine⟨.int x t1::fs,cJt g1 g2 g3 rfl f1,by simp[f2],λf hf=>?_⟩;rcases bYQ.mp hf with rfl|hf
      ·exact⟨x,t1,rfl⟩
      ·exact f3 f hf
    obtain⟨fs,f1,f2,f3⟩:=c7 w 0 λi v D=>by
     have F:i<n:=by
      rcases cZK i w.length with h|h
      ·omega
      ·rw[cQi h]at D;cases D
     obtain⟨a,o,t1,t2,m,g0,g1,g2,g3⟩:=ob i F;have:w.getD i Value.none=v:=by simp[cQu,D]
     rw[this]at g0;exact⟨a,o,t1,t2,m,_,_,g0,g1,g2,g3⟩
    refine PySem.W.kat_kind (T:= .type "int") f1 (by omega) (λv D=>?_) rfl f9;obtain⟨x,t,rfl⟩:=f3 v D;exact .now
   ·rw[a0]at F hj;obtain⟨ai,oi,t1,t2,m1,g0,g1,g2,g3⟩:=ob _ (aZo (b:=b) F);obtain⟨aj,oj,t3,t4,m2,d0,d1,d2,d3⟩:=ob _ (aZo (b:=b) hj);show bYP _ _ (keyLt' _ ((cQW b w).getD i Value.none) ((cQW b w).getD j Value.none)) _ _ _;rw[aXI b9 F,aXI b9 hj,g0,d0];refine Stree.aK4 g1 g3 d1 d3 ?_;have:=b7 i j F hj;rw[this]at hC;exact hC
   ·rw[a0]at a5;obtain⟨q1,q2⟩:=bWQ a5 f7 b7;have hm:∀i∈p,i<n:=λi F=>cQf.mp (a5.mem_iff.mp F);have vv:∀l:List Nat,(∀i∈l,i<n)->xW ((l.map (ixb b n)).map λi=>V.int (i:Nat)) (l.map λi=>(cQW b vs).getD i Value.none):=by
     intro l;induction l with
     |nil=>intro _;exact .nil
     |cons i l ih=>
      intro h;refine .cons ?_ (ih λj hj=>h j (bYT _ hj));have F:=h i bYW;show zJ (V.int (ixb b n i:Nat)) ((cQW b vs).getD i Value.none);rw[aXI a0 F];have hx:=aZo (b:=b) F;have e3:((((bYU n).map Int.ofNat)).map V.int)[ixb b n i]? =some (V.int (ixb b n i:Nat)):=by simp[hx]
      obtain⟨u,hu,ru⟩:=(uU hI).get e3;have:vs.getD (ixb b n i) Value.none=u:=by simp[cQu,hu]
      rw[this];exact ru
    have v2:=vv p hm;have v3:xW ((cQW b (p.map (ixb b n))).map λi=>V.int (i:Nat)) (cQW b (p.map λi=>(cQW b vs).getD i Value.none)):=by
     unfold cQW at v2 ⊢;split
     ·rw[List.map_reverse];rename_i b0;simp only[b0]at v2 ⊢;exact v2.reverse
     ·rename_i b0;simp only[b0]at v2 ⊢;exact v2
    have na:B a=none:=(J.pin _ (bY6 _ (bYW ..))).2.1;have nk:B (M.objs.size+1)=none:=(J.pin _ (bY6 _ (bYT _ (bYW ..)))).2.1;have b3:(cQW b (p.map (ixb b n))).length=n:=by rw[q1.length_eq,cQt]
    have g6:Inv X g σ (upd B a (.lst ((cQW b (p.map (ixb b n))).map λi=>V.int (i:Nat)))) {U with heap:=h5,gens:=U.gens,drawn:=U.drawn,toks:=U.toks}:=by
     have K:∀d,d∉ [a,M.objs.size+1]->d≠a/\d≠M.objs.size+1:=λd E=>⟨λz=>E (by simp[z]),λz=>E (by simp[z])⟩;refine J'.step (ch:= [a,M.objs.size+1]) (λd E=>?_) (λd o _ _ E e _=>?_) (λd o _ _ E e _=>?_) (λd o E e n=>?_) (λd o E e=>?_) (λd xs e=>?_) (λd o u e=>?_) (λd qs e=>?_) (λm e7=>?_) (λd u e=>?_) J'.bare
     ·rcases bYQ.mp E with rfl|E
      ·exact⟨Z.2.2.2.1,Z.2.1,Z.2.2.2.2.1,Z.2.2.2.2.2⟩
      ·rw[bYY.mp E];exact⟨O.2.2.2.1,O.2.1,O.2.2.2.2.1,O.2.2.2.2.2⟩
     ·exact(k5 d (K d E).1 (K d E).2).trans e
     ·exact⟨o.slots,(k5 d (K d E).1 (K d E).2).trans e⟩
     ·rw[yI (K d E).1];exact n
     ·exact⟨o,(k5 d (K d E).1 (K d E).2).trans e⟩
     ·rw[yI (yJ e na)];exact e
     ·rw[yI (yJ e na)];exact e
     ·exact⟨#[],by rw[yI (yJ e na),e];simp⟩
     ·obtain⟨o,es,ep,ho,r⟩:=e7;exact⟨o,es,ep,(k5 _ (cQr Z.2.1) (cQr O.2.1)).trans ho,r⟩
     ·by_cases E:d=a
      ·subst E;rw[yB]at e;cases e;exact⟨by rw[bYL,b3,cQg];omega,_,c6,v3,o5⟩
      ·rw[yI E]at e;refine(J'.hok d u e).stay (λc v hc q=>?_) (λc q=>by rw[yI (yJ q na)];exact q) λc xs q=>by rw[yI (yJ q na)];exact q
       have a9:c≠a:=by
        rcases hc with rfl|hc
        ·exact E
        ·exact yJ hc na
       have e9:c≠M.objs.size+1:=by
        rcases hc with rfl|hc
        ·exact yJ e nk
        ·exact yJ hc nk
       exact(k5 c a9 e9).trans q
    have b4:=yG na (.lst ((cQW b (p.map (ixb b n))).map λi=>V.int (i:Nat)));have hP:upd B a (.lst ((cQW b (p.map (ixb b n))).map λi=>V.int (i:Nat))) P=B P:=by
     rcases t3 with t|⟨_,t,_⟩
     ·rw[yI (yJ t na)]
     ·rw[yI (yJ t na)]
    have nl:H1 a=none:=by
     cases hz:H1 a with
     |none=>rfl
     |some o=>exact absurd (I1.hok.lt hz) (Nat.not_lt.mpr (cQn (cZl (bYV a3)) a1))
    exact⟨rfl,.ref a,_,g6,rfl,hfin _ a _ (b6.trans (k3.trans b4.t)) (t3.keep b4.t hP) nl q1 q2 yB⟩
end
end L2
namespace Stree
open PySem PySem.W PySem.Calls PyProof.Rows
open PySem.SeqAt
open PySem.AutoSeq1 (wpAny_loadPart')
open PySem.MeetsSeq PySem.MeetsSeq2 PySem.MeetsSeq3
def Z4{α:Type} [DecidableEq α] (lt:α->α->Bool):List α->List α->Bool
 |[],[]=>false
 |[],_::_=>true
 |_::_,[]=>false
 |x::xs,y::ys=>if x=y then Z4 lt xs ys else lt x y
def aK2{α:Type} [DecidableEq α] {lt:α->α->Bool}(x y:α)(xs ys:List α):Z4 lt (x::xs) (y::ys)=if x=y then Z4 lt xs ys else lt x y:=rfl
def aZZ{α:Type} [DecidableEq α] {lt:α->α->Bool}{rep:α->bYH->Prop}(l b:Nat)(items items2:Array bYH)(n U:Nat)(X G:Option Nat)(P F:Array (Option bYH))(xs ys:List α)(O:cQA rep xs items.toList)(K:cQA rep ys items2.toList): Meets (cXv.«tuple.__lt__» ⟨[.ref l,.ref b],[]⟩) (λA R s=>s.heap.get? l=some {cls:= .type "tuple",dict:=X,data:= .seq items n,slots:=P}/\s.heap.get? b=some {cls:= .type "tuple",dict:=G,data:= .seq items2 U,slots:=F}/\ (∀x y u v,rep x u->rep y v->EqAt A.in1 s u v (decide (x=y)))/\(∀x y u v,x≠y->rep x u->rep y v->∀ (prog:bY4)(w:cQa)(E:bYH->bYK->Prop)(Q:bYH->bYK->Prop),Q (.bool (lt x y)) s->bYP (bYR prog w) A.in1 (richCompare .Lt u v) Q E s)/\ R (.ok (.ret (.bool (Z4 lt xs ys)))) s):=
 .of_wp λprog w A R s h=>by
  obtain⟨N,g,d,tk,M⟩:=s;obtain⟨hl,Y,J,C,h⟩:=h;have f2:=AutoSeq1.sub_tuple_tuple;have z1:items.size=xs.length:=by have:=O.length;simpa using this.symm
  have z2:items2.size=ys.length:=by have:=K.length;simpa using this.symm
  wp_walk using wpAny_loadPart' hl,wpAny_loadPart' Y,wpAny_forIn_list _ (λjW b D=>b.1=none/\D=⟨N,g,d,tk,M⟩/\∃ (B t:List bYH)(i j:List α),jW=B.zip t/\
   cQA rep i B/\cQA rep j t/\i.length+items2.size=j.length+items.size/\R (.ok (.ret (.bool (Z4 lt i j)))) ⟨N,g,d,tk,M⟩) _
  case turn=>
   rintro⟨y,x⟩ jW b D ⟨p,rfl,B,t,i,j,k,o,m,f,hR⟩;cases o with
   |nil=>rw[List.zip_nil_left]at k;cases k
   |@cons a y' S T I q=>
    cases m with
    |nil=>rw[List.zip_nil_right]at k;cases k
    |@cons c Z V W z r=>
     rw[List.zip_cons_cons]at k;injection k with hyx hrest
     injection hyx with hy hx
     subst hy hx;rw[aK2]at hR;simp only[cQF]at f;refine bYJ (J a c _ _ I z prog w _ _ ?_);by_cases e:a=c
     ·rw[if_pos e]at hR;rw[decide_eq_true e];wp_walk;exact⟨rfl,rfl,_,_,_,_,hrest,q,r,by omega,hR⟩
     ·rw[if_neg e]at hR;rw[decide_eq_false e];have H:=C a c _ _ e I z prog w;wp_walk using H;exact⟨_,rfl,by simpa using hR⟩
  case fin=>
   rintro⟨b1,b2⟩ D ⟨p,rfl,B,t,i,j,k,o,m,f,hR⟩;simp only at p;subst p;have L:Z4 lt i j=decide (items.size<items2.size):=by
    cases o with
    |nil=>
     cases m with
     |nil=>simp only[cXQ]at f;exact(decide_eq_false (by omega)).symm
     |cons z hw=>simp only[cXQ,cQF]at f;exact(decide_eq_true (by omega)).symm
    |cons I L=>
     cases m with
     |nil=>simp only[cXQ,cQF]at f;exact(decide_eq_false (by omega)).symm
     |cons z hw=>rw[List.zip_cons_cons]at k;cases k
   rw[L]at hR;wp_walk;exact⟨_,rfl,by simpa[Builtin.Tuple.tupleCompareSizes]using hR⟩
  case h=>
   exact⟨rfl,rfl,items.toList,items2.toList,xs,ys,rfl,O,K,by omega,h⟩
section
variable {A:cQl}{s:bYK}{α:Type} [DecidableEq α] {lt:α->α->Bool}{rep:α->bYH->Prop}{l b:Nat}{items items2:List bYH}{xs ys:List α}
def bWe(A:cQl)(s:bYK)(u v:bYH)(c:Bool):Prop:=∀ (prog:bY4)(w:cQa)(E:bYH->bYK->Prop)(Q:bYH->bYK->Prop),Q (.bool c) s->bYP (bYR prog w) A (richCompare .Lt u v) Q E s
def bZY(hl:cZG s.heap l items.toArray)(D:cZG s.heap b items2.toArray)(t:cQA rep xs items)(q:cQA rep ys items2)(B:A.units<cLine)
  (j:∀x y u v,rep x u->rep y v->EqAt A.in1 s u v (decide (x=y))) (f:∀x y u v,x≠y->rep x u->rep y v->bWe A.in1 s u v (lt x y)):bWe A s (.ref l) (.ref b) (Z4 lt xs ys):=λprog w E Q h=>by
 obtain⟨⟨cls,C,data,r⟩,p,m,n,k⟩:=id hl
 obtain⟨⟨o,i,e,g⟩,a,d,z,c⟩:=id D
 simp only at m k d c
 subst m k d c
 exact richCompare_meets_room (op:= .Lt) ⟨_,p,rfl⟩ ⟨_,a,rfl⟩ PySem.F.slot_tuple_lt PySem.F.entry_tuple_lt (PySem.F.args_tuple_lt_2 _ _) (aZZ (lt:=lt) l b items.toArray items2.toArray n z C i r g xs ys t q)
  ⟨p,a,j,f,show Value.bool (Z4 lt xs ys)≠Value.notImplemented/\Q (.bool (Z4 lt xs ys)) s from⟨(λx=>nomatch x),h⟩⟩ B
def bWk:∀ {xs ys:List α},((bYU (min xs.length ys.length)).all (λj=>decide (xs[j]? =ys[j]?)) && xs.length==ys.length)=decide (xs=ys):=by
 intro xs ys;rw[Bool.eq_iff_iff];simp only[Bool.and_eq_true,cZR,cQf,decide_eq_true_eq,beq_iff_eq];constructor
 ·rintro⟨a,b⟩;apply cXX;intro i;by_cases c:i<xs.length
  ·exact a i (by omega)
  ·rw[cQi (by omega),cQi (by omega)]
 ·rintro rfl;exact⟨λ_ _=>rfl,rfl⟩
def X0{rep:α->bYH->Prop}:∀ {xs:List α} {us:List bYH} {i:Nat} {u:bYH},cQA rep xs us->us[i]? =some u->∃x,xs[i]? =some x/\rep x u
 |_,_,0,_,.cons r _,h=>by simp at h;subst h;exact⟨_,rfl,r⟩
 |_,_,i+1,_,.cons _ t,h=>by simpa using X0 (i:=i) t (by simpa using h)
 |_,_,i,_,.nil,h=>by simp at h
def Y9{rep:α->bYH->Prop}(a:∀x y u,rep x u->rep y u->x=y):∀ {xs ys:List α} {us:List bYH},cQA rep xs us->cQA rep ys us->xs=ys
 |_,_,_,.nil,.nil=>rfl
 |_,_,_,.cons r t,.cons r' t'=>by rw[a _ _ _ r r',Y9 a t t']
def bZR(hl:cZG s.heap l items.toArray)(m:cZG s.heap b items2.toArray)(d:cQA rep xs items)(c:cQA rep ys items2)(F:A.units<cLine)(B:∀x y u,rep x u->rep y u->x=y) (h:∀x y u v,rep x u->rep y v->EqAt A.in1 s u v (decide (x=y))):EqAt A s (.ref l) (.ref b) (decide (xs=ys)):=by
 by_cases e:l=b
 ·subst e;obtain⟨o,a,_,n,f⟩:=hl;obtain⟨G,k,_,H,i⟩:=m;rw[a]at k;cases k;rw[f]at i;have g:items=items2:=by
   have:items.toArray=items2.toArray:=by injection i
   simpa using congrArg Array.toList this
  subst g;rw[decide_eq_true (Y9 B d c)];exact EqAt.same _
 ·refine EqAt.of_refs e ?_;have z:=RcAt.tuples (A:=A) (s:=s) (e:=λj=>decide (xs[j]? =ys[j]?)) (show s.heap.IsTuple l items.toArray from hl) (show s.heap.IsTuple b items2.toArray from m) F λj a f=>?_
  ·have t:items.toArray.size=xs.length:=by rw[bYZ];exact d.length.symm
   have g:items2.toArray.size=ys.length:=by rw[bYZ];exact c.length.symm
   rw[t,g,bWk]at z;exact z
  ·have C:items[j]? =some items[j]:=bYG (by simpa using a);have p:items2[j]? =some items2[j]:=bYG (by simpa using f);obtain⟨x,D,E⟩:=X0 d C;obtain⟨y,r,w⟩:=X0 c p;have q:=h x y _ _ E w;show EqAt A.in1 s items[j] items2[j] (decide (xs[j]? =ys[j]?));rw[D,r];have:decide (some x=some y)=decide (x=y):=by simp
   rw[this];exact q
end
def bVm(i:Int)(u:bYH):Prop:=∃t,u= .int i t
def rep2(h:Heap)(p:Int×Int)(u:bYH):Prop:=∃a b,u= .ref a/\cZG h a b.toArray/\cQA bVm [p.1,p.2] b
def rep3(h:Heap)(c:List (Int×Int))(u:bYH):Prop:=∃a b,u= .ref a/\cZG h a b.toArray/\cQA (rep2 h) c b
def aVB(x y:Int)(u:bYH)(a:bVm x u)(b:bVm y u):x=y:=by
 obtain⟨t,rfl⟩:=a;obtain⟨c,e⟩:=b;cases e;rfl
def bZC{h:Heap}{a:Nat}{i j:List bYH}(d:cZG h a i.toArray)(f:cZG h a j.toArray):i=j:=by
 obtain⟨o,g,_,n,e⟩:=d;obtain⟨l,b,_,k,c⟩:=f;rw[g]at b;cases b;rw[e]at c;have:i.toArray=j.toArray:=by injection c
 simpa using congrArg Array.toList this
def bXT{h:Heap}(x y:Int×Int)(u:bYH)(c:rep2 h x u)(f:rep2 h y u):x=y:=by
 obtain⟨a,i,rfl,d,b⟩:=c;obtain⟨l,j,e,g,k⟩:=f;cases e;rw[bZC d g]at b;have:=Y9 aVB b k;injection this with e1 e2;injection e2 with e2 _;exact Prod.ext e1 e2
section
variable {A:cQl}{s:bYK}
def eq1(x y:Int)(u v:bYH)(b:bVm x u)(c:bVm y v):EqAt A s u v (decide (x=y)):=by
 obtain⟨t,rfl⟩:=b;obtain⟨a,rfl⟩:=c;have:decide (x=y)=(x==y):=by rw[Bool.eq_iff_iff];simp
 rw[this];exact EqAt.int_int x t y a
def lt1(x y:Int)(u v:bYH)(d:x≠y)(b:bVm x u)(c:bVm y v):bWe A s u v (decide (x<y)):=by
 obtain⟨t,rfl⟩:=b;obtain⟨a,rfl⟩:=c;exact λprog w E Q h=>HT.bXS A s x t y a prog w E Q h
def eq2(g:A.units<cLine)(x y:Int×Int)(u v:bYH)(d:rep2 s.heap x u)(h:rep2 s.heap y v):EqAt A s u v (decide (x=y)):=by
 obtain⟨a,i,rfl,f,c⟩:=d;obtain⟨b,j,rfl,k,l⟩:=h;have z:=bZR f k c l g aVB λx y u v=>eq1 x y u v;have:decide ([x.1,x.2]= [y.1,y.2])=decide (x=y):=by
  rw[Bool.eq_iff_iff,decide_eq_true_eq,decide_eq_true_eq];constructor
  ·intro e;injection e with e1 e2;injection e2 with e2 _;exact Prod.ext e1 e2
  ·rintro rfl;rfl
 rw[this]at z;exact z
def aK1(x y:Int×Int):Z4 (λa b:Int=>decide (a<b)) [x.1,x.2] [y.1,y.2]=z9 x y:=by
 unfold z9 Z4 Z4 Z4;by_cases c:x.1=y.1
 ·by_cases d:x.2=y.2<;> simp[c,d]
 ·simp[c]
def lt2(f:A.units<cLine)(x y:Int×Int)(u v:bYH)(h:x≠y)(d:rep2 s.heap x u)(g:rep2 s.heap y v):bWe A s u v (z9 x y):=by
 obtain⟨a,i,rfl,e,c⟩:=d;obtain⟨b,j,rfl,k,l⟩:=g;have z:=bZY (lt:=λa b:Int=>decide (a<b)) e k c l f (λx y u v=>eq1 x y u v) (λx y u v=>lt1 x y u v);rw[aK1]at z;exact z
def eq3(f:A.units+1<cLine)(x y:List (Int×Int))(u v:bYH)(d:rep3 s.heap x u)(g:rep3 s.heap y v):EqAt A s u v (decide (x=y)):=by
 obtain⟨a,i,rfl,e,c⟩:=d;obtain⟨b,j,rfl,h,k⟩:=g;exact bZR e h c k (by omega) bXT λx y u v=>eq2 (A:=A.in1) f x y u v
def lt3(c:A.units+1<cLine)(x y:List (Int×Int))(u v:bYH)(h:x≠y)(e:rep3 s.heap x u)(g:rep3 s.heap y v):bWe A s u v (Z4 z9 x y):=by
 obtain⟨a,i,rfl,f,d⟩:=e;obtain⟨b,j,rfl,k,l⟩:=g;exact bZY f k d l (by omega) (λx y u v=>eq2 (A:=A.in1) c x y u v) (λx y u v=>lt2 (A:=A.in1) c x y u v)
end
section
variable {prog:bY4}{w:cQa}{A:cQl}{E:bYH->bYK->Prop}{s:bYK}
def bJP{x y:Nat}{f m:Obj}{n k:Nat}{u v:bYH}{a c:List (Int×Int)}{i j:Int}{p z:Tok}{Q:Bool->bYK->Prop}(g:A.units+1<cLine)(q:s.heap.get? x=some f)(dx:f.data= .seq #[u,.int i p] n)(o:s.heap.get? y=some m)(t:m.data= .seq #[v,.int j z] k) (d:rep3 s.heap a u) (l:rep3 s.heap c v) (b:a=c->i=j) (h:Q (decide (a≠c) && Z4 z9 a c) s):bYP (bYR prog w) A (keyLt' (tuples' false) (.ref x) (.ref y)) Q E s:=by
 refine kat_lt q dx o t ?_;refine kat_cons (eq3 g a c u v d l prog w _ _ ?_);by_cases e:a=c
 ·rw[decide_eq_true e];refine kat_yes (kat_cons (aJh ?_));rw[beq_iff_eq.mpr (b e)];refine kat_yes (kat_nil ?_);simpa[e]using h
 ·rw[decide_eq_false e];have r:Q (Z4 z9 a c) s:=by simpa[e]using h
  exact kat_no (kat_one _ _ (lt3 g a c u v e d l prog w _ _ r))
def aZR{a:Nat}{vs:List bYH}{P:PySem.Fin->bYK->Prop}{n0:Nat}(J:s.heap.get? a=some (cQw "list" vs.toArray n0))(N:vs.length<64)(r:Nat->Int)(Y:Inj vs.length r) (D:2<=vs.length->∃κ,∀h,(∀c o,c≠a->s.heap.get? c=some o->h.get? c=some o)->(∀Q:SortKind->bYK->Prop,Q κ {s with heap:=h}->bYP (bYR prog w) A (keyKind' vs.toArray) Q (λ_ _=>False) {s with heap:=h})/\ ∀i j C,i<vs.length->j<vs.length->C (decide (r i<r j)) {s with heap:=h}->kas_ask prog w A κ vs i j C {s with heap:=h}) (F:∀ (p:List Nat) h c,p.Perm (bYU vs.length)->p.Pairwise (λi j=>r i<r j)->(∀d o,d≠a->s.heap.get? d=some o->h.get? d=some o)->h.get? a=some (cQw "list" (p.map λi=>vs.getD i Value.none).toArray c)->P (.done (.ret .none)) {s with heap:=h}): bYP (bYR prog w) A (cXv.«list.sort» ⟨[.ref a],[]⟩) P E s:=by
 have ha:a<s.heap.objs.size:=bYV J;obtain⟨t,v⟩:∃t,(s.heap.update a (cQB λ_=>(#[]:Array bYH))).get? a=some (cQw "list" #[] t):=⟨_,cZA J λ_=> #[]⟩;rw[list_sort_plain];refine bYJ (listItems_at J rfl ?_);refine bYJ (cZX J rfl ?_ (by rw[bYZ,cQg];omega) (cQE _));refine bYJ (seqEpoch_at v rfl ?_);refine bYJ (wpAny_newTuple ?_ (by show vs.length<=_;rw[cQg];omega));refine bYJ (cZ0 ?_ (cQE _));refine cQ0 ?_;have O:∀c o,c≠a->s.heap.get? c=some o->(((s.heap.update a (cQB λ_=>(#[]:Array bYH))).push (cQw "tuple" vs.toArray 0)).push (cQw "list" #[] 0)).get? c=some o:=λc o hc e=>
  bYM _ (bYM _ ((cQh _ _ (cQr hc)).trans e))
 have I:(((s.heap.update a (cQB λ_=>(#[]:Array bYH))).push (cQw "tuple" vs.toArray 0)).push (cQw "list" #[] 0)).get? a=some (cQw "list" #[] t):=bYM _ (bYM _ v);show bYP (bYR prog w) A _ P E {s with heap:=((s.heap.update a (cQB λ_=>(#[]:Array bYH))).push (cQw "tuple" vs.toArray 0)).push (cQw "list" #[] 0) };generalize ((s.heap.update a (cQB λ_=>(#[]:Array bYH))).push (cQw "tuple" vs.toArray 0)).push (cQw "list" #[] 0)=h1 at O I ⊢;dsimp only;have l:∀ (u:SortSt)(p:List Nat),p.Perm (bYU vs.length)->p.Pairwise (λi j=>r i<r j)->(arrOf u).map (·.2)=cQR (p.map λi=>vs.getD i Value.none)->failedOf u=none->
   bYP (bYR prog w) A (do
    let b:=(<- seqEpoch a) !=t
    Builtin.List.listUpdate (.ref a) λ_=>(arrOf u).map (·.2)
    if let some e:=failedOf u then rule "list.sort.comparison-raised";throw e
    if b then rule "list.sort.modified";raiseError "ValueError" "list modified during sort"
    ret .none) P E {s with heap:=h1}:=by
  intro u p f q y M
  have K:p.length=vs.length:=by rw[f.length_eq,cQt]
  rw[y]
  obtain⟨T,S⟩:∃T,(h1.update a (cQB λ_=>cQR (p.map λi=>vs.getD i Value.none))).get? a=some (cQw "list" (cQR (p.map λi=>vs.getD i Value.none)) T):=⟨_,cZA I λ_=>cQR (p.map λi=>vs.getD i Value.none)⟩
  have R:(cQR (p.map λi=>vs.getD i Value.none)).size=vs.length:=by rw[bYZ,bYL,K]
  refine bYJ (seqEpoch_at I rfl ?_)
  refine bYJ (cZX I rfl ?_ (cQE _) (cQn (cZk R) (by rw[cQg];omega)))
  rw[M]
  simp only[bne_self_eq_false,Bool.false_eq_true,if_false]
  exact bYN (F p _ T f q (λd o V e=>(cQh _ _ (cQr V)).trans (O d o V e)) S)
 by_cases m:vs.toArray.size<2
 ·rw[if_pos m,if_pos m];refine bYJ (bYN ?_);refine bYJ (bYN ?_);have n:vs.length<2:=by rw[bYZ]at m;exact m
  refine l (SortSt.mk' general' (vs.toArray.zip vs.toArray) #[] 7 none) (bYU vs.length) (List.Perm.refl _) ?_ ?_ rfl
  ·rw[cZd];intro i j H W a0;rw[cQt]at H W;omega
  ·show((cQR vs).zip (cQR vs)).map (·.2)=_;apply Array.toList_inj.mp;rw[Array.toList_map,Array.toList_zip];simp only[cJC];have t:(cZ6 vs vs).map (·.2)=vs:=List.map_snd_zip (bYO _);rw[t];apply cXX;intro i;rw[bY1];by_cases H:i<vs.length
   ·rw[cXr H];simp[cQu,bYG H]
   ·rw[cQi (by omega),cQi (by rw[cQt];omega)];rfl
 ·have n:2<=vs.length:=by rw[bYZ]at m;omega
  rw[if_neg m,if_neg m];obtain⟨κ,hκ⟩:=D n;obtain⟨hκ,G⟩:=hκ h1 O;refine bYJ (cQJ (hκ (λk B=>k=κ/\B= {s with heap:=h1}) ⟨rfl,rfl⟩) (λk B hq=>?_) λ_ _ x=>x.elim);obtain⟨rfl,rfl⟩:=hq;have U:(kas_sort vs.length).kasWp (kas_ask prog w A k vs) (λp z=>z= {s with heap:=h1}/\p.toList.Perm (bYU vs.length)/\p.toList.Pairwise (λi j=>r i<r j)) {s with heap:=h1}:=
   Asks.wp (lt:=Z5 r) G (aZS Y (by omega)) λp Z=>⟨rfl,Z⟩
  refine bYJ (cQJ (kat_run (Q:=λg z=>∃p:Array Nat,arrOf g=p.map (kas_item (vs.toArray.zip vs.toArray))/\failedOf g=none/\
    z= {s with heap:=h1}/\p.toList.Perm (bYU vs.length)/\p.toList.Pairwise (λi j=>r i<r j))
   rfl n N (λX g z a1 a2 a3 a4=>⟨X,a2,a3,a4⟩) U) ?_ λ_ _ x=>x)
  rintro⟨⟨⟩,g⟩ z ⟨p,L,M,rfl,f,q⟩;dsimp only;exact l _ p.toList f q (kat_snds rfl L) M
end
end Stree
namespace Stree
open PySem PySem.W PySem.Calls PyProof.Rows
abbrev qG:=List (Int×Int)
abbrev u9:qG->qG->Bool:=Z4 z9
def vL:∀a:qG,u9 a a=false
 |[]=>rfl
 |x::r=>by show(if x=x then Z4 z9 r r else z9 x x)=false;rw[if_pos rfl];exact vL r
def Y6:∀ {a b c:qG},u9 a b=true->u9 b c=true->u9 a c=true
 |[],[],_,h,_=>by cases h
 |[],_::_,[],_,h=>by cases h
 |[],_::_,_::_,_,_=>rfl
 |_::_,[],_,h,_=>by cases h
 |_::_,_::_,[],_,h=>by cases h
 |x::a,y::b,z::c,h1,h2=>by
  have f:(if x=y then Z4 z9 a b else z9 x y)=true:=h1;have d:(if y=z then Z4 z9 b c else z9 y z)=true:=h2;show(if x=z then Z4 z9 a c else z9 x z)=true;by_cases i:x=y
  ·rw[if_pos i]at f;subst i;by_cases g:x=z
   ·rw[if_pos g]at d ⊢;exact Y6 f d
   ·rw[if_neg g]at d ⊢;exact d
  ·rw[if_neg i]at f;by_cases g:y=z
   ·rw[if_pos g]at d;subst g;rw[if_neg i];exact f
   ·rw[if_neg g]at d;have j:=aXA f d;have:x≠z:=λe=>by rw[e,vK]at j;cases j
    rw[if_neg this];exact j
def aXB:∀ {a b:qG},a≠b->u9 a b=true\/u9 b a=true
 |[],[],h=>absurd rfl h
 |[],_::_,_=> .inl rfl
 |_::_,[],_=> .inr rfl
 |x::a,y::b,h=>by
  show(if x=y then Z4 z9 a b else z9 x y)=true\/(if y=x then Z4 z9 b a else z9 y x)=true;by_cases e:x=y
  ·subst e;rw[if_pos rfl,if_pos rfl];exact aXB λz=>h (by rw[z])
  ·rw[if_neg e,if_neg (cQr e)];exact aXz e
def aVo:∀ (a:qG) {b:qG},b≠ []->u9 a (a++b)=true
 |[],[],h=>absurd rfl h
 |[],_::_,_=>rfl
 |x::a,b,h=>by show(if x=x then Z4 z9 a (a++b)else _)=true;rw[if_pos rfl];exact aVo a h
def aZw:∀ (a:qG) {x y:Int×Int} {b c:qG},z9 x y=true->u9 (a++x::b) (a++y::c)=true
 |[],x,y,b,c,h=>by
  show(if x=y then Z4 z9 b c else z9 x y)=true;have:x≠y:=λe=>by rw[e,vK]at h;cases h
  rw[if_neg this];exact h
 |z::a,x,y,b,c,h=>by show(if z=z then Z4 z9 (a++x::b) (a++y::c)else _)=true;rw[if_pos rfl];exact aZw a h
def uniq{α:Type}{lt:α->α->Prop}(d:∀a,¬lt a a)(i:∀a b c,lt a b->lt b c->lt a c):∀ {l m:List α},l.Pairwise lt->m.Pairwise lt->(∀a,a∈l↔a∈m)->l=m
 |[],[],_,_,_=>rfl
 |[],y::m,_,_,h=>by have:=(h y).mpr bYW;cases this
 |x::l,[],_,_,h=>by have:=(h x).mp bYW;cases this
 |x::l,y::m,h1,h2,h=>by
  obtain⟨j,n⟩:=cQ6.mp h1;obtain⟨b1,k⟩:=cQ6.mp h2;have e:x=y:=by
   rcases bYQ.mp ((h x).mp bYW)with e|e
   ·exact e
   ·rcases bYQ.mp ((h y).mpr bYW)with g|g
    ·exact g.symm
    ·exact absurd (i _ _ _ (j y g) (b1 x e)) (d x)
  subst e;rw[uniq d i n k λa=>?_];constructor
  ·intro f;rcases bYQ.mp ((h a).mp (bYT _ f))with e|e
   ·subst e;exact absurd (j a f) (d a)
   ·exact e
  ·intro f;rcases bYQ.mp ((h a).mpr (bYT _ f))with e|e
   ·subst e;exact absurd (b1 a f) (d a)
   ·exact e
def IsTup.keep{h h':Heap}{a x:Nat}{vs its:Array bYH}{n:Nat}(b:h.get? a=some (cQw "list" vs n))(k:∀c o,c≠a->h.get? c=some o->h'.get? c=some o)(t:cZG h x its):cZG h' x its:=by
 obtain⟨o,e,c,m,d⟩:=t;refine⟨o,k x o (λz=>?_) e,c,m,d⟩;rw[z,b]at e;cases e;have f:Value.type "list"=Value.type "tuple":=c;injection f with c'';exact absurd c'' (by decide)
def rep2.keep{h h':Heap}{a:Nat}{vs:Array bYH}{n:Nat}(b:h.get? a=some (cQw "list" vs n))(k:∀c o,c≠a->h.get? c=some o->h'.get? c=some o){p:Int×Int}{u:bYH}(t:rep2 h p u):rep2 h' p u:=
 let ⟨x,its,e,t1,t2⟩:=t;⟨x,its,e,IsTup.keep b k t1,t2⟩
def rep3.keep{h h':Heap}{a:Nat}{vs:Array bYH}{n:Nat}(b:h.get? a=some (cQw "list" vs n))(k:∀c o,c≠a->h.get? c=some o->h'.get? c=some o){p:qG}{u:bYH}(t:rep3 h p u):rep3 h' p u:=
 let ⟨x,its,e,t1,t2⟩:=t;⟨x,its,e,IsTup.keep b k t1,L2.Paired.mapP t2 λ_ _ z=>rep2.keep b k z⟩
end Stree
namespace L2
open PySem PySem.Spec PyProof.Rows
open Stree (qG u9)
def bJq(H:Hp)(p:Int×Int)(x:V):Prop:=∃c,x= .ref c/\H c=some (.tup [.int p.1,.int p.2])
def qZ(H:Hp)(b:Nat)(c:qG):Prop:=∃a,H b=some (.tup a)/\cQA (bJq H) c a
section
variable {X:Cx}{pins:List (Nat×Obj)}{σ:St}{H:Hp}{s:bYK}{k:Nat}
def aYu{α β γ:Type}{F:α->β->Prop}{G:β->γ->Prop}{K:α->γ->Prop}(h:∀a b c,F a b->G b c->K a c):∀ {l:List α} {m:List β} {n:List γ},cQA F l m->cQA G m n->cQA K l n
 |_,_,_,.nil,.nil=> .nil
 |_,_,_,.cons a r,.cons b t=> .cons (h _ _ _ a b) (aYu h r t)
def Inv.rep2(I:Inv X pins σ H s){p:Int×Int}{x:V}{u:bYH}(h:bJq H p x)(r:zJ x u):Stree.rep2 s.heap p u:=by
 obtain⟨c,rfl,e⟩:=h;cases r;obtain⟨f,g,d,_⟩:=I.tuple (SqT.of e);obtain⟨i,j,rfl,a,b⟩:=xW.two g;exact⟨c,_,rfl,d,.cons a (.cons b .nil)⟩
def Inv.rep3(I:Inv X pins σ H s){b:Nat}{f:qG}(h:qZ H b f):Stree.rep3 s.heap f (.ref b):=by
 obtain⟨j,e,z⟩:=h;obtain⟨d,g,i,_⟩:=I.tuple (SqT.of e);exact⟨b,d,rfl,i,aYu (F:=bJq H) (G:=zJ) (K:=Stree.rep2 s.heap) (λ_ _ _ a c=>I.rep2 a c) z g⟩
def W3(hr:vP k X.A):jQ X (.builtin "sorted") (λxs H Q=>∃ (p:Nat)(its:List V)(d:Nat->qG)(kn:Nat->Int),xs= [.ref p]/\H p=some (.lst its)/\its.length<64/\ (∀i j,i<its.length->j<its.length->d i=d j->i=j)/\(∀i x,its[i]? =some x->∃a b,x= .ref a/\H a=some (.tup [.ref b,.int (kn i)])/\qZ H b (d i))/\ ∀l (out:List Nat),H l=none->out.Perm (bYU its.length)->(out.Pairwise λi j=>u9 (d i) (d j)=true)->Q (.ref l) (upd H l (.lst (out.map λi=>its.getD i .non)))):=by
 intro pins s σ H xs us Q I r h;obtain⟨p,its,d,kn,rfl,hp,b0,L,a3,q⟩:=h;obtain⟨u,rfl,ru⟩:=aQV r;cases ru;obtain⟨g,rv,pl,hz⟩:=I.list (SqL.of hp);have a2:g.length=its.length:=rv.length.symm;refine cZ4 kind_sorted plain_sorted entry_sorted (args_sorted1 _) ?_;unfold cXv.«sorted»;refine bYJ (m:=checkCount "sorted" 1 1 _) (bYN ?_);refine bYJ (collect_list pl.isList ?_ (by rw[cQg];omega));refine bYJ (cZ0 ?_ (by rw[cQg];omega));have P:((s.heap.push (cQw "list" #[] 0)).update s.heap.objs.size (cQB (·++g.toArray))).objs.size=s.heap.objs.size+1:=by rw[Heap.size_update,size_push']
 have y:(((s.heap.push (cQw "list" #[] 0)).update s.heap.objs.size (cQB (·++g.toArray))).push (cQw "list" g.toArray 0)).get? (s.heap.objs.size+1)=some (cQw "list" g.toArray 0):=by rw[<- P];exact cQb _ rfl
 have keep:∀b o,s.heap.get? b=some o->(((s.heap.push (cQw "list" #[] 0)).update s.heap.objs.size (cQB (·++g.toArray))).push (cQw "list" g.toArray 0)).get? b=some o:=λb o q=>by have F:b<s.heap.objs.size:=bYV q;rw[Heap.get?_push_ne _ _ _ (by rw[P];exact bY7 (cQS F)),cJA _ _ _ _ (bY7 F),Heap.get?_push_ne _ _ _ (bY7 F)];exact q
 show bYP _ _ _ _ _ {s with heap:=((s.heap.push (cQw "list" #[] 0)).update s.heap.objs.size (cQB (·++g.toArray))).push (cQw "list" g.toArray 0) };rw[P];generalize b1:((s.heap.push (cQw "list" #[] 0)).update s.heap.objs.size (cQB (·++g.toArray))).push (cQw "list" g.toArray 0)=K at y keep ⊢;refine bYJ (cQ0 (cXC cJO ⟨_,y,rfl⟩ cJG ?body (cJN _)));case body=>
  have I1:Inv X pins σ H {s with heap:=K}:=I.kept (t':=s.toks) keep;have O:s.heap.objs.size<=s.heap.objs.size+1:=cXP _;have fa:=I.fpOk (b:=s.heap.objs.size+1) O (I.hok.fresh O);obtain⟨r,a8,a0⟩:=Stree.aJL (n:=g.length) (λi j=>u9 (d i) (d j)) (λi _=>Stree.vL _) (λi j k _ _ _ K E=>Stree.Y6 K E)
   (λi j C R a6=>Stree.aXB λz=>a6 (L i j (by omega) (by omega) z))
  have ob:∀i,i<g.length->∃a o u t m,g.getD i Value.none= .ref a/\K.get? a=some o/\o.cls= .type "tuple"/\o.data= .seq #[u,.int (kn i) t] m/\Stree.rep3 K (d i) u:=λi C=>by
   have B:i<its.length:=by omega
   obtain⟨a,b,Y,e2,e3⟩:=a3 i its[i] (bYG B);obtain⟨u0,S,J⟩:=rv.get (bYG B);rw[Y]at J;cases J;obtain⟨b2,rj,pj,_⟩:=I1.tuple (SqT.of e2);obtain⟨u1,u2,rfl,q1,q2⟩:=xW.two rj;cases q1;obtain⟨t,rfl⟩:=q2;obtain⟨o,G,D,m,U⟩:=pj;exact⟨a,o,_,t,m,by simp[cQu,S],G,D,U,I1.rep3 e3⟩
  refine Stree.aZR (s:={s with heap:=K}) y (by omega) r a8 (λE=>⟨tuples' false,λE k2=>⟨λQ' a9=>?_,λi j C' C R hC=>?_⟩⟩) λp h5 c5 N a7 k5 o5=>?_
  ·have kt:∀ {x:Nat} {o:Obj},K.get? x=some o->o.cls= .type "tuple"->E.get? x=some o:=λ{x o} e c=>k2 x o (λz=>by rw[z,y]at e;cases e;have c':Value.type "list"=Value.type "tuple":=c;injection c' with c'';exact absurd c'' (by decide)) e;have a1:∀ (l:List bYH),(∀ (i:Nat)(v:bYH),l[i]? =some v->∃a o u w m,v=Value.ref a/\E.get? a=some o/\o.cls= .type "tuple"/\o.data= .seq #[u,w] m/\∃c its,u= .ref c/\cZG E c its)->
     ∃fs,cJ8 E l fs/\fs.length=l.length/\∀f∈fs,∃c its,f=Value.ref c/\cZG E c its:=by
    intro l
    induction l with
    |nil=>intro _;exact⟨[],trivial,rfl,λf Z=>by cases Z⟩
    |cons v l ih=>
     intro M;obtain⟨a,o,u,w,m,rfl,G,D,U,c,its,rfl,g4⟩:=M 0 v rfl;obtain⟨fs,f1,f2,f3⟩:=ih λi v h=>M (i+1) v h;refine⟨.ref c::fs,cJt G D U rfl f1,by simp[f2],λf Z=>?_⟩;rcases bYQ.mp Z with rfl|Z
     ·exact⟨c,its,rfl,g4⟩
     ·exact f3 f Z
   obtain⟨fs,f1,f2,f3⟩:=a1 g λi v M=>by
    have C:i<g.length:=by
     rcases cZK i g.length with h|h
     ·exact h
     ·rw[cQi h]at M;cases M
    obtain⟨a,o,u,t,m,g0,G,D,U,g4⟩:=ob i C;have:g.getD i Value.none=v:=by simp[cQu,M]
    rw[this]at g0;obtain⟨c,its,e,g5,_⟩:=g4;exact⟨a,o,u,_,m,g0,kt G D,D,U,c,_,e,Stree.IsTup.keep y k2 g5⟩
   refine PySem.W.kat_kind (T:= .type "tuple") f1 (by omega) (λv M=>?_) rfl a9;obtain⟨c,its,rfl,o,G,D,_⟩:=f3 v M;have z:PySem.W.Looks (bYR X.prog X.w) E (typeOf (.ref c)) o.cls:=(PySem.W.Looks.ld G).andThen .now;rw[D]at z;exact z
  ·obtain⟨ai,oi,ui,t1,m1,g0,G,D,U,g4⟩:=ob i C;obtain⟨aj,oj,uj,t3,m2,d0,d1,d2,d3,d4⟩:=ob j R;have kt:∀ {x:Nat} {o:Obj},K.get? x=some o->o.cls= .type "tuple"->E.get? x=some o:=λ{x o} e c=>k2 x o (λz=>by rw[z,y]at e;cases e;have c':Value.type "list"=Value.type "tuple":=c;injection c' with c'';exact absurd c'' (by decide)) e;show bYP _ _ (keyLt' _ (g.getD i Value.none) (g.getD j Value.none)) _ _ _;rw[g0,d0];refine Stree.bJP (by have:=hr.un;show X.A.units+1+1+1<cLine;omega) (kt G D) U (kt d1 d2) d3 (Stree.rep3.keep y k2 g4) (Stree.rep3.keep y k2 d4) (λz=>by rw[L i j (by omega) (by omega) z]) ?_;have Y:=a0 i j C R;rw[Y]at hC;by_cases z:d i=d j
   ·have:u9 (d i) (d j)=false:=by rw[z];exact Stree.vL _
    rw[this]at hC;simpa[z]using hC
   ·have:decide (d i≠d j)=true:=decide_eq_true z;rw[this,Bool.true_and];exact hC
  ·have hm:∀i∈p,i<g.length:=λi C=>cQf.mp (N.mem_iff.mp C);have vv:∀l:List Nat,(∀i∈l,i<g.length)->xW (l.map λi=>its.getD i .non) (l.map λi=>g.getD i Value.none):=by
    intro l;induction l with
    |nil=>intro _;exact .nil
    |cons i l ih=>
     intro h;refine .cons ?_ (ih λj R=>h j (bYT _ R));have C:=h i bYW;have B:i<its.length:=by omega
     obtain⟨u0,S,J⟩:=rv.get (bYG B);show zJ (its.getD i .non) (g.getD i Value.none);have Y:g.getD i Value.none=u0:=by simp[cQu,S]
     have e2:its.getD i .non=its[i]:=by simp[cQu,bYG B]
     rw[Y,e2];exact J
   have v2:=vv p hm;have a4:p.Perm (bYU its.length):=by rw[<- a2];exact N
   have F:p.length=g.length:=by rw[N.length_eq,cQt]
   have a5:p.Pairwise λi j=>u9 (d i) (d j)=true:=a7.imp_of_mem λ{i j} C R h=>by have:=a0 i j (hm i C) (hm j R);rw[<- this];exact decide_eq_true h
   have I5:Inv X pins σ (upd H (s.heap.objs.size+1) (.lst (p.map λi=>its.getD i .non))) {s with heap:=h5}:=
    I.laid (t':=s.toks) (λb o e=>k5 b o (bY7 (cQS (bYV e))) (keep b o e)) O ⟨by rw[bYL,cQg];omega,_,c5,v2,o5⟩
   exact⟨_,rfl,bYN ⟨_,rfl,⟨.ref _,_,I5,rfl,q _ p fa.1 a4 a5⟩⟩⟩
end
end L2
namespace L2
open PySem PySem.Spec PyProof.Rows
section
variable {X:Cx}
def uA:jQ X (.builtin "sorted") (λxs H Q=>∃ (p:Nat)(its:List V)(g:Nat->Int×Int),xs= [.ref p]/\H p=some (.lst its)/\its.length<64/\ (∀i j,i<its.length->j<its.length->g i=g j->i=j)/\(∀i x,its[i]? =some x->∃a,x= .ref a/\H a=some (.tup [.int (g i).1,.int (g i).2]))/\ ∀l (out:List Nat),H l=none->out.Perm (bYU its.length)->(out.Pairwise λi j=>Stree.z9 (g i) (g j)=true)->Q (.ref l) (upd H l (.lst (out.map λi=>its.getD i .non)))):=by
 intro G s σ H xs us Q I r h;obtain⟨p,its,g,rfl,hp,b1,Z,a4,q⟩:=h;obtain⟨u,rfl,ru⟩:=aQV r;cases ru;obtain⟨d,rv,pl,hz⟩:=I.list (SqL.of hp);have a3:d.length=its.length:=rv.length.symm;refine cZ4 kind_sorted plain_sorted entry_sorted (args_sorted1 _) ?_;unfold cXv.«sorted»;refine bYJ (m:=checkCount "sorted" 1 1 _) (bYN ?_);refine bYJ (collect_list pl.isList ?_ (by rw[cQg];omega));refine bYJ (cZ0 ?_ (by rw[cQg];omega));have a0:((s.heap.push (cQw "list" #[] 0)).update s.heap.objs.size (cQB (·++d.toArray))).objs.size=s.heap.objs.size+1:=by rw[Heap.size_update,size_push']
 have C:(((s.heap.push (cQw "list" #[] 0)).update s.heap.objs.size (cQB (·++d.toArray))).push (cQw "list" d.toArray 0)).get? (s.heap.objs.size+1)=some (cQw "list" d.toArray 0):=by rw[<- a0];exact cQb _ rfl
 have keep:∀b o,s.heap.get? b=some o->(((s.heap.push (cQw "list" #[] 0)).update s.heap.objs.size (cQB (·++d.toArray))).push (cQw "list" d.toArray 0)).get? b=some o:=λb o q=>by have Y:b<s.heap.objs.size:=bYV q;refine bYM _ ?_;exact(cQh _ _ (cZm Y)).trans (bYM _ q)
 show bYP _ _ _ _ _ {s with heap:=((s.heap.push (cQw "list" #[] 0)).update s.heap.objs.size (cQB (·++d.toArray))).push (cQw "list" d.toArray 0) };rw[a0];generalize b2:((s.heap.push (cQw "list" #[] 0)).update s.heap.objs.size (cQB (·++d.toArray))).push (cQw "list" d.toArray 0)=K at C keep ⊢;refine bYJ (cQ0 (cXC cJO ⟨_,C,rfl⟩ cJG ?body (cJN _)));case body=>
  have I1:Inv X G σ H {s with heap:=K}:=I.kept (t':=s.toks) keep;have M:s.heap.objs.size<=s.heap.objs.size+1:=cXP _;have fa:=I.fpOk (b:=s.heap.objs.size+1) M (I.hok.fresh M);obtain⟨r,a9,a1⟩:=Stree.aJL (n:=d.length) (λi j=>Stree.z9 (g i) (g j)) (λi _=>Stree.vK _) (λi j k _ _ _ K P=>Stree.aXA K P)
   (λi j B O a7=>Stree.aXz λz=>a7 (Z i j (by omega) (by omega) z))
  have ob:∀i,i<d.length->∃a o w E m,d.getD i Value.none= .ref a/\K.get? a=some o/\o.cls= .type "tuple"/\o.data= .seq #[.int (g i).1 w,.int (g i).2 E] m:=λi B=>by
   have A:i<its.length:=by omega
   obtain⟨a,U,e2⟩:=a4 i its[i] (bYG A);obtain⟨u0,R,D⟩:=rv.get (bYG A);rw[U]at D;cases D;obtain⟨b3,rj,pj,_⟩:=I1.tuple (SqT.of e2);obtain⟨u1,u2,rfl,q1,q2⟩:=xW.two rj;obtain⟨w,rfl⟩:=q1;obtain⟨E,rfl⟩:=q2;obtain⟨o,N,F,m,S⟩:=pj;exact⟨a,o,w,E,m,by simp[cQu,R],N,F,S⟩
  refine Stree.aZR (s:={s with heap:=K}) C (by omega) r a9 (λP=>⟨tuples' true,λP k2=>⟨λQ' b0=>?_,λi j C' B O hC=>?_⟩⟩) λp h5 c5 L a8 k5 o5=>?_
  ·have kt:∀ {x:Nat} {o:Obj},K.get? x=some o->o.cls= .type "tuple"->P.get? x=some o:=λ{x o} e c=>k2 x o (λz=>by rw[z,C]at e;cases e;have c':Value.type "list"=Value.type "tuple":=c;injection c' with c'';exact absurd c'' (by decide)) e;have a2:∀ (l:List bYH),(∀ (i:Nat)(v:bYH),l[i]? =some v->∃a o w E m x y,v=Value.ref a/\P.get? a=some o/\o.cls= .type "tuple"/\o.data= .seq #[.int x w,.int y E] m)->
     ∃fs,cJ8 P l fs/\fs.length=l.length/\∀f∈fs,∃x t,f=Value.int x t:=by
    intro l
    induction l with
    |nil=>intro _;exact⟨[],trivial,rfl,λf hf=>by cases hf⟩
    |cons v l ih=>
     intro J;obtain⟨a,o,w,E,m,x,y,rfl,N,F,S⟩:=J 0 v rfl;obtain⟨fs,f1,f2,f3⟩:=ih λi v h=>J (i+1) v h;refine⟨.int x w::fs,cJt N F S rfl f1,by simp[f2],λf hf=>?_⟩;rcases bYQ.mp hf with rfl|hf
     ·exact⟨x,w,rfl⟩
     ·exact f3 f hf
   obtain⟨fs,f1,f2,f3⟩:=a2 d λi v J=>by
    have B:i<d.length:=by
     rcases cZK i d.length with h|h
     ·exact h
     ·rw[cQi h]at J;cases J
    obtain⟨a,o,w,E,m,g0,N,F,S⟩:=ob i B;have:d.getD i Value.none=v:=by simp[cQu,J]
    rw[this]at g0;exact⟨a,o,w,E,m,_,_,g0,kt N F,F,S⟩
   refine PySem.W.kat_kind (T:= .type "int") f1 (by omega) (λv J=>?_) rfl b0;obtain⟨x,t,rfl⟩:=f3 v J;exact .now
  ·obtain⟨ai,oi,w,E,m1,g0,N,F,S⟩:=ob i B;obtain⟨aj,oj,t3,t4,m2,d0,d1,d2,d3⟩:=ob j O;have kt:∀ {x:Nat} {o:Obj},K.get? x=some o->o.cls= .type "tuple"->P.get? x=some o:=λ{x o} e c=>k2 x o (λz=>by rw[z,C]at e;cases e;have c':Value.type "list"=Value.type "tuple":=c;injection c' with c'';exact absurd c'' (by decide)) e;show bYP _ _ (keyLt' _ (d.getD i Value.none) (d.getD j Value.none)) _ _ _;rw[g0,d0];refine Stree.aK4 (kt N F) S (kt d1 d2) d3 ?_;have U:=a1 i j B O;rw[U]at hC;exact hC
  ·have hm:∀i∈p,i<d.length:=λi B=>cQf.mp (L.mem_iff.mp B);have vv:∀l:List Nat,(∀i∈l,i<d.length)->xW (l.map λi=>its.getD i .non) (l.map λi=>d.getD i Value.none):=by
    intro l;induction l with
    |nil=>intro _;exact .nil
    |cons i l ih=>
     intro h;refine .cons ?_ (ih λj O=>h j (bYT _ O));have B:=h i bYW;have A:i<its.length:=by omega
     obtain⟨u0,R,D⟩:=rv.get (bYG A);show zJ (its.getD i .non) (d.getD i Value.none);have U:d.getD i Value.none=u0:=by simp[cQu,R]
     have e2:its.getD i .non=its[i]:=by simp[cQu,bYG A]
     rw[U,e2];exact D
   have v2:=vv p hm;have a5:p.Perm (bYU its.length):=by rw[<- a3];exact L
   have Y:p.length=d.length:=by rw[L.length_eq,cQt]
   have a6:p.Pairwise λi j=>Stree.z9 (g i) (g j)=true:=a8.imp_of_mem λ{i j} B O h=>by have:=a1 i j (hm i B) (hm j O);rw[<- this];exact decide_eq_true h
   have I5:Inv X G σ (upd H (s.heap.objs.size+1) (.lst (p.map λi=>its.getD i .non))) {s with heap:=h5}:=
    I.laid (t':=s.toks) (λb o e=>k5 b o (bY7 (cQS (bYV e))) (keep b o e)) M ⟨by rw[bYL,cQg];omega,_,c5,v2,o5⟩
   exact⟨_,rfl,bYN ⟨_,rfl,⟨.ref _,_,I5,rfl,q _ p fa.1 a5 a6⟩⟩⟩
end
end L2
namespace Fm
open Stree (qG u9 z9)
structure Ok(n:Nat)(L:Nat->Option Nat)(rk:Nat->Nat):Prop where
 lt:∀i j,i<n->L i=some j->j<n/\rk j<rk i
def rdF(L:Nat->Option Nat)(D:Nat->Int):Nat->Nat->qG
 |0,i=> [(D i,(i:Int))]
 |f+1,i=>match L i with
  |none=> [(D i,(i:Int))]
  |some j=>rdF L D f j++ [(D i,(i:Int))]
def tpF(L:Nat->Option Nat):Nat->Nat->Nat
 |0,i=>i
 |f+1,i=>match L i with
  |none=>i
  |some j=>tpF L f j
section
variable {n:Nat}{L:Nat->Option Nat}{D:Nat->Int}{rk:Nat->Nat}
def aXG{i:Nat}(h:L i=none):∀f,rdF L D f i= [(D i,(i:Int))]
 |0=>rfl
 |f+1=>by unfold rdF;rw[h]
def aXZ{i:Nat}(h:L i=none):∀f,tpF L f i=i
 |0=>rfl
 |f+1=>by unfold tpF;rw[h]
def jE(o:Ok n L rk):∀ (f g i:Nat),i<n->rk i<=f->rk i<=g->rdF L D f i=rdF L D g i
 |f,g,i,hi,hf,hg=>by
  cases h:L i with
  |none=>rw[aXG h,aXG h]
  |some j=>
   obtain⟨a,b⟩:=o.lt i j hi h;cases f with
   |zero=>omega
   |succ f=>
    cases g with
    |zero=>omega
    |succ g=>show(match L i with|none=>_|some j=>rdF L D f j++ [(D i,(i:Int))])=(match L i with|none=>_|some j=>rdF L D g j++ [(D i,(i:Int))]);rw[h];show rdF L D f j++_=rdF L D g j++_;rw[jE o f g j a (by omega) (by omega)]
def jK(o:Ok n L rk):∀ (f g i:Nat),i<n->rk i<=f->rk i<=g->tpF L f i=tpF L g i
 |f,g,i,hi,hf,hg=>by
  cases h:L i with
  |none=>rw[aXZ h,aXZ h]
  |some j=>
   obtain⟨a,b⟩:=o.lt i j hi h;cases f with
   |zero=>omega
   |succ f=>
    cases g with
    |zero=>omega
    |succ g=>show(match L i with|none=>_|some j=>tpF L f j)=(match L i with|none=>_|some j=>tpF L g j);rw[h];exact jK o f g j a (by omega) (by omega)
def rd(L:Nat->Option Nat)(D:Nat->Int)(rk:Nat->Nat)(i:Nat):qG:=rdF L D (rk i) i
def tp(L:Nat->Option Nat)(rk:Nat->Nat)(i:Nat):Nat:=tpF L (rk i) i
def X1{i:Nat}(h:L i=none):rd L D rk i= [(D i,(i:Int))]:=aXG h _
def zZ{i:Nat}(h:L i=none):tp L rk i=i:=aXZ h _
def v1(o:Ok n L rk){i j:Nat}(a:i<n)(h:L i=some j):rd L D rk i=rd L D rk j++ [(D i,(i:Int))]:=by
 obtain⟨b,c⟩:=o.lt i j a h;unfold rd;cases d:rk i with
 |zero=>omega
 |succ m=>show(match L i with|none=>_|some j=>rdF L D m j++ [(D i,(i:Int))])=_;rw[h];show rdF L D m j++_=_;rw[jE o m (rk j) j b (by omega) (bYO _)]
def v9(o:Ok n L rk){i j:Nat}(a:i<n)(h:L i=some j):tp L rk i=tp L rk j:=by
 obtain⟨b,c⟩:=o.lt i j a h;unfold tp;cases d:rk i with
 |zero=>omega
 |succ m=>show(match L i with|none=>_|some j=>tpF L m j)=_;rw[h];exact jK o m (rk j) j b (by omega) (bYO _)
def aXm(o:Ok n L rk){P:Nat->Prop}(h0:∀i,i<n->L i=none->P i)(a:∀i j,i<n->L i=some j->P j->P i):∀ (m i:Nat),rk i<=m->i<n->P i
 |m,i,hm,hi=>by
  cases h:L i with
  |none=>exact h0 i hi h
  |some j=>
   obtain⟨b,c⟩:=o.lt i j hi h;cases m with
   |zero=>omega
   |succ m=>exact a i j hi h (aXm o h0 a m j (by omega) b)
def bQD(o:Ok n L rk){i:Nat}(a:i<n):tp L rk i<n/\L (tp L rk i)=none:=
 aXm o (P:=λi=>tp L rk i<n/\L (tp L rk i)=none) (λi a h=>by rw[zZ h];exact⟨a,h⟩) (λi j a h b=>by rw[v9 o a h];exact b) (rk i) i (bYO _) a
def aXH(o:Ok n L rk){i:Nat}(a:i<n):∃r,rd L D rk i=r++ [(D i,(i:Int))]:=by
 cases h:L i with
 |none=>exact⟨[],X1 h⟩
 |some j=>exact⟨_,v1 o a h⟩
def aYD(o:Ok n L rk){i j:Nat}(a:i<n)(b:j<n)(h:rd L D rk i=rd L D rk j):i=j:=by
 obtain⟨r,e⟩:=aXH (D:=D) o a;obtain⟨d,c⟩:=aXH (D:=D) o b;rw[e,c]at h;have:=(cX1 h rfl).2;injection this with z _;have:=congrArg Prod.snd z;simp only at this;omega
def bVj(o:Ok n L rk){i:Nat}(a:i<n):∃r,rd L D rk i=(D (tp L rk i),((tp L rk i:Nat):Int))::r:=
 aXm o (P:=λi=>∃r,rd L D rk i=(D (tp L rk i),((tp L rk i:Nat):Int))::r) (λi a h=>⟨[],by rw[X1 h,zZ h]⟩)
  (λi j a h ⟨r,e⟩=>⟨r++ [(D i,(i:Int))],by rw[v1 o a h,v9 o a h,e];rfl⟩) (rk i) i (bYO _) a
def Un(L:Nat->Option Nat)(D:Nat->Int)(rk:Nat->Nat)(v z:Nat):Prop:=rd L D rk v<+:rd L D rk z
def bKo(o:Ok n L rk){i:Nat}(a:i<n):Un L D rk (tp L rk i) i:=by
 obtain⟨r,e⟩:=bVj (D:=D) o a;have h:=(bQD o a).2;unfold Un;rw[X1 h,e];exact⟨r,rfl⟩
def bZD(o:Ok n L rk){v:Nat}(q:v<n):∀ {k:Nat},k<n->Un L D rk v k->k≠v->∃c,c<n/\L c=some v/\Un L D rk c k:=λ{k} d i b=>by
 refine aXm o (P:=λk=>Un L D rk v k->k≠v->∃c,c<n/\L c=some v/\Un L D rk c k) (λk d h i b=>?_) (λk p d h w i b=>?_) (rk k) k (bYO _) d i b
 ·obtain⟨r,e⟩:=i;obtain⟨j,m⟩:=aXH (D:=D) o q;rw[X1 h,m]at e;have hl:=congrArg cZe e;simp only[bY5,cQF,cXQ]at hl;have s:j= []:=cXw (by omega);have t:r= []:=cXw (by omega);rw[s,t]at e;injection e with z _;have:=congrArg Prod.snd z;simp only at this;omega
 ·obtain⟨y,_⟩:=o.lt k p d h;have a:=i;unfold Un at a;rw[v1 o d h]at a;by_cases f:p=v
  ·subst f;exact⟨k,d,h,List.prefix_refl _⟩
  ·have g:Un L D rk v p:=by
    obtain⟨r,e⟩:=a;rcases List.eq_nil_or_concat r with rfl|⟨j,x,rfl⟩
    ·rw[cQN]at e;obtain⟨j,m⟩:=aXH (D:=D) o q;rw[m]at e;have:=(cX1 e rfl).2;injection this with z _;have:=congrArg Prod.snd z;simp only at this;omega
    ·rw[List.concat_eq_append,<- cXd]at e;exact⟨j,(cX1 e rfl).1⟩
   obtain⟨c,u,hl,l⟩:=w g f;refine⟨c,u,hl,?_⟩;unfold Un;rw[v1 o d h];exact List.IsPrefix.trans l (List.prefix_append _ _)
def bKn(o:Ok n L rk){v z:Nat}(b:v<n)(hz:z<n)(h:Un L D rk v z)(a:z≠v):u9 (rd L D rk v) (rd L D rk z)=true:=by
 obtain⟨r,e⟩:=h;rw[<- e];refine Stree.aVo _ λc=>a ?_;rw[c,cQN]at e;exact(aYD o b hz e).symm
def bW9(o:Ok n L rk){v c d z:Nat}(h:c<n)(g:d<n)(b:L c=some v)(i:L d=some v)(a:z9 (D c,(c:Int)) (D d,(d:Int))=true)(f:Un L D rk c z):u9 (rd L D rk z) (rd L D rk d)=true:=by
 obtain⟨r,e⟩:=f;rw[<- e,v1 o h b,v1 o g i,cXd];exact Stree.aZw _ a
structure aZ3(n:Nat)(L:Nat->Option Nat)(D:Nat->Int)(rk:Nat->Nat)(root:Nat)(told nx:List Nat):Prop where
 tl:∀x∈told,x<n/\tp L rk x=root
 al:∀x∈nx,x<n/\tp L rk x=root
 tt:told.Pairwise λx y=>u9 (rd L D rk x) (rd L D rk y)=true
 ta:∀x∈told,∀y∈nx,u9 (rd L D rk x) (rd L D rk y)=true
 aa:nx.Pairwise λx y=>∀z,Un L D rk x z->u9 (rd L D rk z) (rd L D rk y)=true
 all:∀k,k<n->tp L rk k=root->k∈told\/∃a∈nx,Un L D rk a k
def aZ3.start(o:Ok n L rk){i:Nat}(b:i<n):aZ3 n L D rk (tp L rk i) [] [tp L rk i]:=by
 have h:=bQD o b;refine⟨λx a=>(nomatch a),λx a=>?_,.nil,λx a=>(nomatch a),cQ5 _ _,λk c e=> .inr ⟨_,bYY.mpr rfl,?_⟩⟩
 ·rw[bYY.mp a];exact⟨h.1,by rw[zZ h.2]⟩
 ·have z:=bKo (D:=D) o c;rw[e]at z;exact z
def aZ3.step(o:Ok n L rk){j v:Nat}{l jW zS:List Nat}(W:aZ3 n L D rk j l (v::jW))(G:∀i,i∈zS↔i<n/\L i=some v)(I:zS.Pairwise λx y=>z9 (D x,(x:Int)) (D y,(y:Int))=true):aZ3 n L D rk j (l++ [v]) (zS++jW):=by
 obtain⟨u,p⟩:=W.al v bYW;obtain⟨F,H⟩:=cQ6.mp W.aa;have b:∀c∈zS,c<n/\L c=some v/\tp L rk c=j/\Un L D rk v c/\c≠v:=λc m=>by
  obtain⟨s,t⟩:=(G c).mp m;refine⟨s,t,by rw[v9 o s t];exact p,?_,λz=>?_⟩
  ·unfold Un;rw[v1 o s t];exact List.prefix_append _ _
  ·have:=(o.lt c v s t).2;rw[z]at this;omega
 have self:∀x,Un L D rk x x:=λx=>List.prefix_refl _;refine⟨λx f=>?_,λx f=>?_,?_,λx f y g=>?_,?_,λk q A=>?_⟩
 ·rcases cQm.mp f with f|f
  ·exact W.tl x f
  ·rw[bYY.mp f];exact⟨u,p⟩
 ·rcases cQm.mp f with f|f
  ·exact⟨(b x f).1,(b x f).2.2.1⟩
  ·exact W.al x (bYT _ f)
 ·refine cJs.mpr ⟨W.tt,cQ5 _ _,λx f y g=>?_⟩;rw[bYY.mp g];exact W.ta x f v bYW
 ·have r:∀y∈zS++jW,u9 (rd L D rk v) (rd L D rk y)=true:=λy g=>by
   rcases cQm.mp g with g|g
   ·exact bKn o u (b y g).1 (b y g).2.2.2.1 (b y g).2.2.2.2
   ·exact F y g v (self v)
  rcases cQm.mp f with f|f
  ·exact Stree.Y6 (W.ta x f v bYW) (r y g)
  ·rw[bYY.mp f];exact r y g
 ·refine cJs.mpr ⟨I.imp_of_mem λ{c d} m hd h z B=>bW9 o (b c m).1 (b d hd).1 (b c m).2.1 (b d hd).2.1 h B,H,λc m y g z B=>?_⟩;exact F y g z (List.IsPrefix.trans (b c m).2.2.2.1 B)
 ·rcases W.all k q A with h|⟨a,C,E⟩
  ·exact .inl (cXR _ h)
  ·rcases bYQ.mp C with rfl|C
   ·by_cases e:k=a
    ·exact .inl (bY6 _ (bYY.mpr e))
    ·obtain⟨c,m,hl,w⟩:=bZD o u q E e;exact .inr ⟨c,cXR _ ((G c).mpr ⟨m,hl⟩),w⟩
   ·exact .inr ⟨a,bY6 _ C,E⟩
def aZ3.nodup{b:Nat}{a nx:List Nat}(W:aZ3 n L D rk b a nx):a.Nodup:=
 W.tt.imp λ{x y} h z=>by rw[z,Stree.vL]at h;cases h
def wK:∀ {n:Nat} {l:List Nat},l.Nodup->(∀x∈l,x<n)->l.length<=n
 |0,[],_,_=>bYO _
 |0,x::_,_,h=>absurd (h x bYW) (cXu _)
 |n+1,l,nd,h=>by
  by_cases b:n∈l
  ·have c:=wK (n:=n) (l:=l.erase n) (nd.erase n) λx a=>by
    have:=(cJ4 nd).mp a;have:=h x this.2;omega
   rw[cJ5 b]at c;omega
  ·have c:=wK (n:=n) (l:=l) nd λx a=>by
    have:=h x a;have:x≠n:=λz=>b (z ▸ a);omega
   omega
def aZ3.len{b:Nat}{a nx:List Nat}(W:aZ3 n L D rk b a nx):a.length<=n:=wK W.nodup λx c=>(W.tl x c).1
def aZ3.done{b:Nat}{c:List Nat}(W:aZ3 n L D rk b c [])(k:Nat):k∈c↔k<n/\tp L rk k=b:=
 ⟨λh=>W.tl k h,λ⟨d,e⟩=>(W.all k d e).elim id λ⟨a,f,_⟩=>nomatch f⟩
end
end Fm
namespace Fm
open Stree (qG u9 z9)
section
variable {n:Nat}{L:Nat->Option Nat}{D:Nat->Int}{rk rk':Nat->Nat}
def aYE(o:Ok n L rk)(b:Ok n L rk'){i:Nat}(a:i<n):rd L D rk i=rd L D rk' i:=by
 unfold rd;rw[jE o (rk i) (max (rk i) (rk' i)) i a (bYO _) (Nat.le_max_left _ _),jE b (rk' i) (max (rk i) (rk' i)) i a (bYO _) (Nat.le_max_right _ _)]
def qC(o:Ok n L rk)(b:Ok n L rk'){i:Nat}(a:i<n):tp L rk i=tp L rk' i:=by
 unfold tp;rw[jK o (rk i) (max (rk i) (rk' i)) i a (bYO _) (Nat.le_max_left _ _),jK b (rk' i) (max (rk i) (rk' i)) i a (bYO _) (Nat.le_max_right _ _)]
def bVk(o:Ok n L rk){i:Nat}(c:i<n):∃l:List Nat,(rd L D rk i).map (·.2)=l.map (λk:Nat=>(k:Int))/\l.Nodup/\(∀k∈l,k<n/\rk k<=rk i):=
 aXm o (P:=λi=>∃l:List Nat,(rd L D rk i).map (·.2)=l.map (λk:Nat=>(k:Int))/\l.Nodup/\(∀k∈l,k<n/\rk k<=rk i)) (λi c h=>⟨[i],by rw[X1 h];rfl,by simp,λk d=>by rw[bYY.mp d];exact⟨c,bYO _⟩⟩)
  (λi j c h ⟨l,e,nd,hl⟩=>by
   obtain⟨p,m⟩:=o.lt i j c h;refine⟨l++ [i],by rw[v1 o c h,cXt,cXt,e];rfl,?_,λk d=>?_⟩
   ·rw[cZa];refine⟨nd,by simp,λa f b g z=>?_⟩;rw[bYY.mp g]at z;have:=(hl a f).2;rw[z]at this;omega
   ·rcases cQm.mp d with d|d
    ·have:=hl k d;exact⟨this.1,by omega⟩
    ·rw[bYY.mp d];exact⟨c,bYO _⟩) (rk i) i (bYO _) c
def bWZ(o:Ok n L rk){i:Nat}(a:i<n):(rd L D rk i).length<=n:=by
 obtain⟨l,e,b,hl⟩:=bVk (D:=D) o a;have h:=congrArg cZe e;rw[bYL,bYL]at h;rw[h];exact wK b λk c=>(hl k c).1
def bJH(o:Ok n L rk){a b:Nat}(ha:a<n)(hb:b<n)(h0:L a=none)(hne:tp L rk b≠a):Ok n (λi=>if i=a then some b else L i) (λi=>if tp L rk i=a then rk i+rk b+1 else rk i) where
 lt:=λi j hi h=>by
  by_cases e:i=a
  ·subst e
   rw[if_pos rfl]at h
   cases h
   rw[if_neg hne,if_pos (zZ h0)]
   exact⟨hb,by omega⟩
  ·rw[if_neg e]at h
   obtain⟨hj,hr⟩:=o.lt i j hi h
   have et:=v9 o hi h
   refine⟨hj,?_⟩
   rw[et]
   split<;> omega
def bXh(o:Ok n L rk)(a:Nat):Ok n (λi=>if i=a then none else L i) rk where
 lt:=λi j hi h=>by
  by_cases e:i=a
  ·rw[if_pos e]at h;cases h
  ·rw[if_neg e]at h;exact o.lt i j hi h
def bJk(rk:Nat->Nat):Option Nat->Nat
 |none=>0
 |some j=>rk j+1
def bQU(o:Ok n L rk)(l:Option Nat)(hl:∀j,l=some j->j<n):Ok (n+1) (λi=>if i=n then l else L i) (λi=>if i=n then bJk rk l else rk i) where
 lt:=λi j hi h=>by
  by_cases e:i=n
  ·rw[if_pos e]at h
   have hj:=hl j h
   rw[if_pos e,if_neg (by omega),h]
   exact⟨by omega,cXz _⟩
  ·rw[if_neg e]at h
   obtain⟨hj,hr⟩:=o.lt i j (by omega) h
   rw[if_neg e,if_neg (by omega)]
   exact⟨by omega,hr⟩
def bV5(o:Ok n L rk){i:Nat}(a:i<n):tp L rk (tp L rk i)=tp L rk i:=zZ (bQD o a).2
def Ok.congr{b:Nat->Option Nat}(o:Ok n L rk)(h:∀i,i<n->L i=b i):Ok n b rk:=⟨λi j a e=>o.lt i j a ((h i a).trans e)⟩
end
end Fm
namespace Dm
def opn(d:Int):Bool:=decide (d % 7<5)
def cts(a:List Int)(d:Int):Bool:=opn d && !(a.contains d)
def cnt(b:List Int)(a:Int):Nat->Nat
 |0=>0
 |n+1=>cnt b a n+(if cts b (a+n)then 1 else 0)
def place(d:Int):Int:=d / 7*5+(if 4<d % 7 then 4 else d % 7)
def zK(p:Int):Int:=p / 5*7+p % 5
def aWS(d:Int):place d=place (d - 1)+(if opn d then 1 else 0):=by
 unfold place opn;simp only[decide_eq_true_eq];split<;> split<;> split<;> omega
def bJv(b:List Int)(a:Int)(n m:Nat):cnt b a (n+m)=cnt b a n+cnt b (a+n) m:=by
 induction m with
 |zero=>rfl
 |succ m c=>have e:cnt b a (n+(m+1))=cnt b a (n+m)+(if cts b (a+((n+m:Nat):Int))then 1 else 0):=rfl;have d:cnt b (a+n) (m+1)=cnt b (a+n) m+(if cts b (a+n+(m:Int))then 1 else 0):=rfl;rw[e,d,c,show a+((n+m:Nat):Int)=a+n+(m:Int) by omega];omega
def w9(a b:Int)(d:Int):Bool:=decide (a<=d) && decide (d<=b)
def aJk{S:List Int}(j:S.Nodup)(a b:Int)(h:a<=b+1): (S.filter (w9 a (b+1))).length=(S.filter (w9 a b)).length+(if S.contains (b+1)then 1 else 0):=by
 induction S with
 |nil=>rfl
 |cons x r d=>
  have c:=cXJ.mp j;have d:=d c.2;by_cases k:x=b+1
  ·subst k;have i:r.contains (b+1)=false:=by
    rw[<- Bool.not_eq_true,cXh];exact c.1
   rw[i]at d;have e:w9 a (b+1) (b+1)=true:=by simp[w9,h]
   have g:w9 a b (b+1)=false:=by simp[w9];omega
   rw[cXn e,cXm (by rw[g];decide)];simp at d ⊢;omega
  ·have e:w9 a (b+1) x=w9 a b x:=by
    unfold w9;have:decide (x<=b+1)=decide (x<=b):=by rw[decide_eq_decide];omega
    rw[this]
   have g:(x::r).contains (b+1)=r.contains (b+1):=by
    rw[cX4];have:(b+1==x)=false:=by simp;omega
    rw[this,Bool.false_or]
   rw[g];by_cases f:w9 a b x=true
   ·rw[cXn (by rw[e];exact f),cXn f];simp only[cQF];omega
   ·rw[cXm (by rw[e];exact f),cXm f];exact d
def aWd{b S:List Int}(h:S.Nodup)(i:∀d,d∈S↔d∈b/\opn d=true)(a:Int)(n:Nat): (cnt b a n:Int)=place (a+n - 1) - place (a - 1) - ((S.filter (w9 a (a+n - 1))).length:Nat):=by
 induction n with
 |zero=>
  have:S.filter (w9 a (a+(0:Nat) - 1))= []:=by rw[List.filter_eq_nil_iff];intro x _;simp[w9];omega
  rw[this];simp[cnt]
 |succ n j=>
  have f:=aJk h a (a+n - 1) (by omega);rw[show a+(n:Int) - 1+1=a+n by omega]at f;have p:=aWS (a+n);rw[show a+((n+1:Nat):Int) - 1=a+n by omega];show((cnt b a n+(if cts b (a+n)then 1 else 0):Nat):Int)=_;have c:(if cts b (a+n)then 1 else 0:Nat)+(if S.contains (a+n)then 1 else 0:Nat)=(if opn (a+n)then 1 else 0:Nat):=by
   have g:S.contains (a+n)=(b.contains (a+n) && opn (a+n)):=by rw[Bool.eq_iff_iff,cXh,Bool.and_eq_true,cXh];exact i _
   rw[g];unfold cts;cases opn (a+↑n)<;> cases b.contains (a+↑n)<;> rfl
  have e:place (a+n)=place (a+n - 1)+((if opn (a+n)then 1 else 0:Nat):Int):=by rw[p];cases opn (a+↑n)<;> rfl
  rw[e,f];push_cast;omega
def aJH(p:Int):place (zK p)=p:=by
 unfold place zK;split<;> omega
def aZD(p:Int):opn (zK p)=true:=by
 unfold opn zK;rw[decide_eq_true_eq];omega
def bQP{p q:Int}(h:p<q):zK p<zK q:=by
 unfold zK;omega
def bQO{p q:Int}(h:p<=q):zK p<=zK q:=by
 unfold zK;omega
def aJg(d:Int):d<zK (place d+1):=by
 unfold place zK;split<;> omega
def uK(date:Int)(p c:Int):Int:=if date<c/\c<=zK p then p+1 else p
def aXt(date:Int)(p:Int)(C:List Int):Int:=C.foldl (uK date) p
def vC(date e:Int)(c:Int):Bool:=decide (date<c) && decide (c<=e)
def aVi{date:Int}(f:Int):∀ (d b:List Int)(p:Int),(b++d).Pairwise (·<·)->
  p=f+((b.filter (vC date (zK p))).length:Nat)->(∀c∈b,date<c->c≠zK p)->f<=p->
  ∃q,aXt date p d=q/\q=f+(((b++d).filter (vC date (zK q))).length:Nat)/\(∀c∈b++d,date<c->c≠zK q)/\f<=q
 |[],b,p,_,h1,h2,h3=>⟨p,rfl,by rw[cQN];exact h1,by rw[cQN];exact h2,h3⟩
 |c::d,b,p,hs,h1,h2,h3=>by
  have g:((b++ [c])++d).Pairwise (·<·):=by rw[cXd];exact hs
  have lt:∀x∈b,x<c:=λx a=>(cJs.mp hs).2.2 x a c (bYW ..);have fin:=aVi (date:=date) f d (b++ [c]);have step:aXt date p (c::d)=aXt date (uK date p c) d:=rfl;rw[step,show b++c::d=(b++ [c])++d by simp];by_cases j:date<c/\c<=zK p
  ·have e:uK date p c=p+1:=if_pos j;rw[e];have up:=bQP (show p<p+1 by omega);refine fin (p+1) g ?_ ?_ (by omega)
   ·have k:b.filter (vC date (zK (p+1)))=b.filter (vC date (zK p)):=by
     refine cJS λx a=>?_;have:=lt x a;unfold vC;have q:decide (x<=zK (p+1))=decide (x<=zK p):=by rw[decide_eq_decide];omega
     rw[q]
    have h:vC date (zK (p+1)) c=true:=by simp[vC];omega
    rw[cQT,k,cXn h,bY5];simp only[List.filter_nil,cQF,cXQ];omega
   ·intro x a i;rcases cQm.mp a with a|a
    ·have:=lt x a;omega
    ·have:x=c:=by simpa using a
     omega
  ·have e:uK date p c=p:=if_neg j;rw[e];refine fin p g ?_ ?_ h3
   ·have h:vC date (zK p) c=false:=by simp[vC];omega
    rw[cQT,cXm (by rw[h];decide)];simpa using h1
   ·intro x a i;rcases cQm.mp a with a|a
    ·exact h2 x a i
    ·have:x=c:=by simpa using a
     omega
structure Due(sh:List Int)(date term D:Int):Prop where
 later:date<D
 cts:cts sh D=true
 cnt:(cnt sh (date+1) (D - date).toNat:Int)=term
def bZO{b C:List Int}{date term:Int}(o:1<=term)(g:C.Pairwise (·<·))(c:∀d,d∈C↔d∈b/\opn d=true): Due b date term (zK (aXt date (place date+term) C)):=by
 obtain⟨q,e,n,f,p⟩:=aVi (date:=date) (place date+term) C [] (place date+term) (by simpa using g) (by simp) (by simp) (Int.le_refl _);rw[e];rw[List.nil_append]at n f;have a:date<zK q:=Int.lt_of_lt_of_le (aJg date) (bQO (by omega));refine⟨a,?_,?_⟩
 ·unfold Dm.cts;rw[aZD,Bool.true_and,Bool.not_eq_true'];rw[<- Bool.not_eq_true,cXh];exact λz=>f _ ((c _).mpr ⟨z,aZD q⟩) a rfl
 ·have i:C.Nodup:=g.imp λh=>by omega
  have k:=aWd i c (date+1) (zK q - date).toNat;have j:date+1+((zK q - date).toNat:Int) - 1=zK q:=by omega
  have l:date+1 - 1=date:=by omega
  rw[j,l,aJH]at k;have m:C.filter (w9 (date+1) (zK q))=C.filter (vC date (zK q)):=by
   refine cJS λx _=>?_;unfold w9 vC;have:decide (date+1<=x)=decide (date<x):=by rw[decide_eq_decide];omega
   rw[this]
  rw[m]at k;omega
def bQL(b:List Int)(a:Int){n m:Nat}(h:n<=m):cnt b a n<=cnt b a m:=by
 obtain⟨k,rfl⟩:=Nat.le.dest h;rw[bJv];omega
def Due.less{a:List Int}{date term D:Int}(u:Due a date term D){n:Nat}(h:date+n<D):(Dm.cnt a (date+1) n:Int)<term:=by
 have e:(D - date).toNat=((D - date).toNat - 1)+1:=by have:=u.later;omega
 have k:=u.cnt;rw[e]at k;have b:Dm.cnt a (date+1) (((D - date).toNat - 1)+1)=Dm.cnt a (date+1) ((D - date).toNat - 1)+(if Dm.cts a (date+1+(((D - date).toNat - 1:Nat):Int))then 1 else 0):=rfl;have c:date+1+(((D - date).toNat - 1:Nat):Int)=D:=by have:=u.later;omega
 rw[c,u.cts]at b;have m:=bQL a (date+1) (show n<=(D - date).toNat - 1 by omega);simp only[if_true]at b;omega
def Due.uniq{d:List Int}{date term D c:Int}(u:Due d date term D)(v:Due d date term c):D=c:=by
 have a:=u.later;have b:=v.later;have e:¬D<c:=λh=>by have:=v.less (n:=(D - date).toNat) (by omega);have:=u.cnt;omega
 have f:¬c<D:=λh=>by have:=u.less (n:=(c - date).toNat) (by omega);have:=v.cnt;omega
 omega
end Dm
namespace Bk
open PySem (Str)
open Stree (qG u9 z9)
structure Row where
 way:Str
 date:Int
 partner:Str
 term:Int
 link:Option Nat
 place:Str
 void:Bool
 copies:List Str
abbrev Rows:=List Row
def lk(R:Rows)(i:Nat):Option Nat:=(R[i]?).bind (·.link)
def dt(R:Rows)(i:Nat):Int:=((R[i]?).map (·.date)).getD 0
def wN(R:Rows)(m:Int):Bool:=decide (0<=m) && (match R[m.toNat]? with|some r=> !r.void|none=>false)
def wF{R:Rows}{m:Int}(h:wN R m=true):∃ (k:Nat)(r:Row),m=(k:Int)/\k<R.length/\R[k]? =some r/\r.void=false:=by
 unfold wN at h;rw[Bool.and_eq_true,decide_eq_true_eq]at h;obtain⟨c,a⟩:=h;cases e:R[m.toNat]? with
 |none=>rw[e]at a;cases a
 |some r=>rw[e]at a;refine⟨m.toNat,r,by omega,(bYS.mp e).1,e,?_⟩;have b:(!r.void)=true:=a;simpa using b
def uV(R:Rows):Prop:=∃a,Fm.Ok R.length (lk R) a
def wE(R:Rows)(i:Nat)(l:List Nat):Prop:=∃a,Fm.Ok R.length (lk R) a/\(l.Pairwise λx y=>u9 (Fm.rd (lk R) (dt R) a x) (Fm.rd (lk R) (dt R) a y)=true)/\∀k,k∈l↔k<R.length/\Fm.tp (lk R) a k=Fm.tp (lk R) a i
def wE.uniq{R:Rows}{i:Nat}{l m:List Nat}(n:i<R.length)(f:wE R i l)(g:wE R i m):l=m:=by
 obtain⟨q,o,p,e⟩:=f;obtain⟨r,d,s,j⟩:=g;refine Stree.uniq (lt:=λx y=>u9 (Fm.rd (lk R) (dt R) q x) (Fm.rd (lk R) (dt R) q y)=true) (λa h=>by rw[Stree.vL]at h;cases h) (λa b c f g=>Stree.Y6 f g) p ?_ λk=>?_
 ·refine s.imp_of_mem λ{x y} hx hy h=>?_;rw[Fm.aYE o d ((j x).mp hx).1,Fm.aYE o d ((j y).mp hy).1];exact h
 ·rw[e k,j k];constructor
  ·rintro⟨a,b⟩;exact⟨a,by rw[<- Fm.qC o d a,<- Fm.qC o d n];exact b⟩
  ·rintro⟨a,b⟩;exact⟨a,by rw[Fm.qC o d a,Fm.qC o d n];exact b⟩
def zS(R:Rows)(i:Nat):List Nat:=(bYU R.length).filter λk=>decide (lk R k=some i)
def W8(R:Rows)(i:Nat)(d:Int):Bool:=match R[i]? with
 |none=>false
 |some r=> !r.void && decide (1<=r.term) && decide (r.date<=d) && (zS R i).all λk=>decide (d<dt R k)
def xN(R:Rows)(i:Nat)(f:Row->Row):Rows:=match R[i]? with
 |some r=>R.set i (f r)
 |none=>R
def zC(R:Rows)(i:Nat)(f:Row->Row):(xN R i f).length=R.length:=by unfold xN;split<;> simp
def zH(R:Rows)(i j:Nat)(f:Row->Row):(xN R i f)[j]? =if j=i then(R[j]?).map f else R[j]? :=by
 unfold xN;by_cases e:j=i
 ·subst e;rw[if_pos rfl];cases h:R[j]? with
  |none=>simp[h]
  |some r=>have a:j<R.length:=(bYS.mp h).1;simp[cZD a]
 ·rw[if_neg e];cases h:R[i]? with
  |none=>rfl
  |some r=>simp[cJr (cQr e)]
def laid(R:Rows)(l:List Nat)(name:Str):Rows:=l.foldl (λR k=>xN R k λr=>{r with place:=name}) R
def qO(R:Rows)(i:Nat)(f:Row->Row)(h:∀r,(f r).link=r.link):lk (xN R i f)=lk R:=by
 funext j;unfold lk;rw[zH];by_cases e:j=i
 ·rw[if_pos e];cases R[j]? with
  |none=>rfl
  |some r=>exact h r
 ·rw[if_neg e]
def zT(name:Str):∀ (l:List Nat)(R:Rows),(laid R l name).length=R.length
 |[],R=>rfl
 |k::l,R=>by show(laid (xN R k _) l name).length=_;rw[zT name l,zC]
def aQg(name:Str):∀ (l:List Nat)(R:Rows),lk (laid R l name)=lk R
 |[],R=>rfl
 |k::l,R=>by show lk (laid (xN R k _) l name)=_;rw[aQg name l,qO R k (λr=>{r with place:=name}) λ_=>rfl]
def vZ(name:Str):∀ (l:List Nat)(R:Rows)(j:Nat),(laid R l name)[j]? =if j∈l then(R[j]?).map (λr=>{r with place:=name})else R[j]?
 |[],R,j=>by simp[laid]
 |k::l,R,j=>by
  show(laid (xN R k _) l name)[j]? =_;rw[vZ name l,zH];by_cases e:j=k
  ·subst e;rw[if_pos rfl,if_pos bYW];split
   ·cases R[j]? <;> rfl
   ·rfl
  ·rw[if_neg e];by_cases hl:j∈l
   ·rw[if_pos hl,if_pos (bYT _ hl)]
   ·rw[if_neg hl,if_neg (by simp[e,hl])]
def uV.laid{R:Rows}(t:uV R)(l:List Nat)(name:Str):uV (laid R l name):=by
 obtain⟨a,o⟩:=t;refine⟨a,?_⟩;rw[zT,aQg];exact o
def uV.same{R:Rows}(t:uV R)(i:Nat)(f:Row->Row)(h:∀r,(f r).link=r.link):uV (xN R i f):=by
 obtain⟨a,o⟩:=t;refine⟨a,?_⟩;rw[zC,qO R i f h];exact o
def aVp(R:Rows){i:Nat}(a:i<R.length)(f:Row->Row)(l:Option Nat)(h:∀r,(f r).link=l):lk (xN R i f)=λj=>if j=i then l else lk R j:=by
 funext j;unfold lk;rw[zH];by_cases e:j=i
 ·subst e;rw[if_pos rfl,if_pos rfl,bYG a];exact h _
 ·rw[if_neg e,if_neg e]
def uV.loose{R:Rows}(t:uV R){i:Nat}(a:i<R.length)(f:Row->Row)(h:∀r,(f r).link=none):uV (xN R i f):=by
 obtain⟨b,o⟩:=t;refine⟨b,?_⟩;rw[zC,aVp R a f none h];exact Fm.bXh o i
def uV.hang{R:Rows}{rk:Nat->Nat}(o:Fm.Ok R.length (lk R) rk){i j:Nat}(b:i<R.length)(c:j<R.length)(h0:lk R i=none)(a:Fm.tp (lk R) rk j≠i)(f:Row->Row)(h:∀r,(f r).link=some j):uV (xN R i f):=by
 refine⟨λk=>if Fm.tp (lk R) rk k=i then rk k+rk j+1 else rk k,?_⟩;rw[zC,aVp R b f (some j) h];exact Fm.bJH o b c h0 a
def bJO(R:Rows)(r:Row):∀i,i<R.length+1->lk (R++ [r]) i=if i=R.length then r.link else lk R i:=λi a=>by
 unfold lk;by_cases e:i=R.length
 ·subst e;rw[if_pos rfl,bY2 (bYO _)];simp
 ·rw[if_neg e,cQd (by omega)]
def uV.enter{R:Rows}(t:uV R)(r:Row)(h:∀j,r.link=some j->j<R.length):uV (R++ [r]):=by
 obtain⟨a,o⟩:=t;have z:=Fm.bQU o r.link h;refine⟨λi=>if i=R.length then Fm.bJk a r.link else a i,?_⟩;rw[bY5,cQU];exact z.congr λi b=>(bJO R r i b).symm
end Bk
namespace Bk
open PySem (Str)
open Stree (qG u9 z9)
def bQg{n:Nat}{L:Nat->Option Nat}{D:Nat->Int}{rk:Nat->Nat}(o:Fm.Ok n L rk):∀l:List Nat,l.Nodup->(∀k∈l,k<n)->∃m:List Nat,m.Perm l/\m.Pairwise λx y=>u9 (Fm.rd L D rk x) (Fm.rd L D rk y)=true
 |[],_,_=>⟨[],.refl _,.nil⟩
 |x::l,nd,h=>by
  obtain⟨m,f,t⟩:=bQg (D:=D) o l (cXJ.mp nd).2 λk c=>h k (bYT _ c);have r:x<n:=h x bYW;have g:∀k∈m,k<n/\k≠x:=λk c=>⟨h k (bYT _ (f.mem_iff.mp c)),λz=>(cXJ.mp nd).1 (by rw[<- z];exact f.mem_iff.mp c)⟩;have ins:∀m:List Nat,(∀k∈m,k<n/\k≠x)->(m.Pairwise λx y=>u9 (Fm.rd L D rk x) (Fm.rd L D rk y)=true)->∃d:List Nat,d.Perm (x::m)/\d.Pairwise λx y=>u9 (Fm.rd L D rk x) (Fm.rd L D rk y)=true:=by
   intro m;induction m with
   |nil=>intro _ _;exact⟨[x],.refl _,cQ5 _ _⟩
   |cons y m s=>
    intro j q;obtain⟨a,b⟩:=cQ6.mp q;have p:=j y bYW;rcases Stree.aXB (λz=>p.2 (Fm.aYD o p.1 r z):Fm.rd L D rk y≠Fm.rd L D rk x)with z|z
    ·obtain⟨d,e,i⟩:=s (λk c=>j k (bYT _ c)) b;refine⟨y::d,(List.Perm.cons _ e).trans (List.Perm.swap _ _ _),cQ6.mpr ⟨λk c=>?_,i⟩⟩;rcases bYQ.mp (e.mem_iff.mp c)with rfl|c
     ·exact z
     ·exact a k c
    ·refine⟨x::y::m,.refl _,cQ6.mpr ⟨λk c=>?_,q⟩⟩;rcases bYQ.mp c with rfl|c
     ·exact z
     ·exact Stree.Y6 z (a k c)
  obtain⟨d,e,i⟩:=ins m g t;exact⟨d,e.trans (List.Perm.cons _ f),i⟩
def bQC{R:Rows}(t:uV R)(i:Nat):∃l,wE R i l:=by
 obtain⟨a,o⟩:=t;obtain⟨m,b,d⟩:=bQg (D:=dt R) o ((bYU R.length).filter λk=>decide (Fm.tp (lk R) a k=Fm.tp (lk R) a i)) (cZS.sublist cXK) λk c=>cQf.mp (cQO.mp c).1;refine⟨m,a,o,d,λk=>?_⟩;rw[b.mem_iff,cQO,cQf,decide_eq_true_eq]
open Classical in
noncomputable def thr (R:Rows) (i:Nat):List Nat:=if h:∃l,wE R i l then choose h else []
def W0{R:Rows}(t:uV R)(i:Nat):wE R i (thr R i):=by
 have h:=bQC t i;unfold thr;rw[dif_pos h];exact cJm h
def aXl{R:Rows}{i:Nat}(a:i<R.length){l:List Nat}(h:wE R i l):thr R i=l:=
 wE.uniq a (by obtain⟨b,o,_⟩:=h;exact W0 ⟨b,o⟩ i) h
open Classical in
noncomputable def due (shut:List Int) (d t:Int):Int:=if h:∃D,Dm.Due shut d t D then choose h else d
def bZN{shut:List Int}{d t D:Int}(h:Dm.Due shut d t D):due shut d t=D:=by
 have a:∃D,Dm.Due shut d t D:=⟨D,h⟩;unfold due;rw[dif_pos a];exact(cJm a).uniq h
structure bQH(R:Rows)(shut:List Int)(d:Int)(late:Bool)(l:List Nat):Prop where
 mem:∀k,k∈l↔k<R.length/\W8 R k d=true/\(late=true->due shut (dt R k) (((R[k]?).map (·.term)).getD 0)<d)
 ord:l.Pairwise λx y=>z9 (due shut (dt R x) (((R[x]?).map (·.term)).getD 0),(x:Int)) (due shut (dt R y) (((R[y]?).map (·.term)).getD 0),(y:Int))=true
def bQH.uniq{R:Rows}{shut:List Int}{d:Int}{e:Bool}{l m:List Nat}(f:bQH R shut d e l)(g:bQH R shut d e m):l=m:=
 Stree.uniq (lt:=λx y=>z9 (due shut (dt R x) (((R[x]?).map (·.term)).getD 0),(x:Int)) (due shut (dt R y) (((R[y]?).map (·.term)).getD 0),(y:Int))=true) (λa h=>by rw[Stree.vK]at h;cases h) (λa b c f g=>Stree.aXA f g) f.ord g.ord λk=>by rw[f.mem k,g.mem k]
inductive Ans where
 |num (n:Int)|txt (x:Str)|nums (l:List Nat)|txts (l:List Str)|row (r:Row)
inductive xS where
 |enter (way:Str) (day:Int) (who:Str) (term:Int)|reply (m:Int) (day term:Int)|hang (m o:Int)|loose (m:Int)|date (m d:Int)|term (m t:Int)
 |copy (m:Int) (who:Str)|file (m:Int) (name:Str)|void (m:Int)|shut (d:Int)|state (m:Int)|thread (m:Int)|copies (m:Int)|letters (name:Str)|on (late:Bool) (d:Int)
def uP(a:Str):Str:=if a="in" then "out" else "in"
inductive xV(R:Rows)(S:List Int):xS->Ans->Rows->List Int->Prop
 |enter {way who:Str} {d t:Int} (h:0<=t):xV R S (.enter way d who t) (.num R.length) (R++ [⟨way,d,who,t,none,"",false,[]⟩]) S
 |enterT {way who:Str} {d t:Int} (h:t<0):xV R S (.enter way d who t) (.txt "no term") R S
 |replyN {m d t:Int} (h:wN R m=false):xV R S (.reply m d t) (.txt "no letter") R S
 |replyT {m d t:Int} (h:wN R m=true) (ht:t<0):xV R S (.reply m d t) (.txt "no term") R S
 |replyE {k:Nat} {d t:Int} {r:Row} (hk:R[k]? =some r) (h:r.void=false) (ht:0<=t) (hd:d<r.date):xV R S (.reply k d t) (.txt "too early") R S
 |reply {k:Nat} {d t:Int} {r:Row} (hk:R[k]? =some r) (h:r.void=false) (ht:0<=t) (hd:r.date<=d):xV R S (.reply k d t) (.num R.length) (R++ [⟨uP r.way,d,r.partner,t,some k,r.place,false,[]⟩]) S
 |hangN {m o:Int} (h:wN R m=false\/wN R o=false):xV R S (.hang m o) (.txt "no letter") R S
 |hangH {i j:Nat} {r q:Row} (hi:R[i]? =some r) (hv:r.void=false) (hj:R[j]? =some q) (hw:q.void=false) (h:r.link≠none):xV R S (.hang i j) (.txt "has one") R S
 |hangO {i j:Nat} {r q:Row} (hi:R[i]? =some r) (hv:r.void=false) (hj:R[j]? =some q) (hw:q.void=false) (h:r.link=none) (ho:(thr R j).head? =some i):xV R S (.hang i j) (.txt "own thread") R S
 |hangW {i j:Nat} {r q:Row} (hi:R[i]? =some r) (hv:r.void=false) (hj:R[j]? =some q) (hw:q.void=false) (h:r.link=none) (ho:(thr R j).head? ≠some i) (h1:r.way=q.way):xV R S (.hang i j) (.txt "same way") R S
 |hangP {i j:Nat} {r q:Row} (hi:R[i]? =some r) (hv:r.void=false) (hj:R[j]? =some q) (hw:q.void=false) (h:r.link=none) (ho:(thr R j).head? ≠some i) (h1:r.way≠q.way) (h2:r.partner≠q.partner):xV R S (.hang i j) (.txt "other partner") R S
 |hangE {i j:Nat} {r q:Row} (hi:R[i]? =some r) (hv:r.void=false) (hj:R[j]? =some q) (hw:q.void=false) (h:r.link=none) (ho:(thr R j).head? ≠some i) (h1:r.way≠q.way) (h2:r.partner=q.partner) (h3:r.date<q.date):xV R S (.hang i j) (.txt "too early") R S
 |hang {i j:Nat} {r q:Row} (hi:R[i]? =some r) (hv:r.void=false) (hj:R[j]? =some q) (hw:q.void=false) (h:r.link=none) (ho:(thr R j).head? ≠some i) (h1:r.way≠q.way) (h2:r.partner=q.partner) (h3:q.date<=r.date):
   xV R S (.hang i j) (.txt "hung") (xN (laid R (thr R i) q.place) i λr=>{r with link:=some j}) S
 |oneN {m:Int} {e:xS} (h:wN R m=false) (he:e= .loose m\/(∃d,e= .date m d)\/(∃t,e= .term m t)\/(∃w,e= .copy m w)\/(∃w,e= .file m w)\/e= .void m\/e= .state m\/e= .thread m\/e= .copies m):xV R S e (.txt "no letter") R S
 |looseN {k:Nat} {r:Row} (hk:R[k]? =some r) (hv:r.void=false) (h:r.link=none):xV R S (.loose k) (.txt "has none") R S
 |loose {k:Nat} {r:Row} (hk:R[k]? =some r) (hv:r.void=false) (h:r.link≠none):xV R S (.loose k) (.txt "loose") (xN R k λr=>{r with link:=none}) S
 |dateE {k:Nat} {r:Row} {d:Int} (hk:R[k]? =some r) (hv:r.void=false) (h:(∃j,r.link=some j/\d<dt R j)\/∃c∈zS R k,dt R c<d):xV R S (.date k d) (.txt "too early") R S
 |date {k:Nat} {r:Row} {d:Int} (hk:R[k]? =some r) (hv:r.void=false) (h1:∀j,r.link=some j->dt R j<=d) (h2:∀c∈zS R k,d<=dt R c):xV R S (.date k d) (.txt "dated") (xN R k λr=>{r with date:=d}) S
 |termN {k:Nat} {r:Row} {t:Int} (hk:R[k]? =some r) (hv:r.void=false) (h:t<0):xV R S (.term k t) (.txt "no term") R S
 |term {k:Nat} {r:Row} {t:Int} (hk:R[k]? =some r) (hv:r.void=false) (h:0<=t):xV R S (.term k t) (.txt "set") (xN R k λr=>{r with term:=t}) S
 |copyC {k:Nat} {r:Row} {w:Str} (hk:R[k]? =some r) (hv:r.void=false) (h:w=r.partner\/w∈r.copies):xV R S (.copy k w) (.txt "copied") R S
 |copy {k:Nat} {r:Row} {w:Str} (hk:R[k]? =some r) (hv:r.void=false) (h:w≠r.partner) (h2:w∉r.copies):xV R S (.copy k w) (.num (r.copies.length+1)) (xN R k λr=>{r with copies:=r.copies++ [w] }) S
 |file {k:Nat} {r:Row} {w:Str} (hk:R[k]? =some r) (hv:r.void=false):xV R S (.file k w) (.num (thr R k).length) (laid R (thr R k) w) S
 |voidA {k:Nat} {r:Row} (hk:R[k]? =some r) (hv:r.void=false) (h:zS R k≠ []):xV R S (.void k) (.txt "answered") R S
 |void {k:Nat} {r:Row} (hk:R[k]? =some r) (hv:r.void=false) (h:zS R k= []):xV R S (.void k) (.txt "void") (xN R k λr=>{r with link:=none,void:=true}) S
 |shutN {d:Int} (h:Dm.cts S d=false):xV R S (.shut d) (.txt "counts not") R S
 |shut {d:Int} (h:Dm.cts S d=true):xV R S (.shut d) (.txt "shut") R (S++ [d])
 |state {k:Nat} {r:Row} (hk:R[k]? =some r) (hv:r.void=false):xV R S (.state k) (.row r) R S
 |thread {k:Nat} {r:Row} (hk:R[k]? =some r) (hv:r.void=false):xV R S (.thread k) (.nums (thr R k)) R S
 |copies {k:Nat} {r:Row} (hk:R[k]? =some r) (hv:r.void=false):xV R S (.copies k) (.txts r.copies) R S
 |letters {w:Str}:xV R S (.letters w) (.nums ((bYU R.length).filter λk=>match R[k]? with|some r=> !r.void && decide (r.place=w)|none=>false)) R S
 |on {late:Bool} {d:Int} {l:List Nat} (h:bQH R S d late l):xV R S (.on late d) (.nums l) R S
end Bk
namespace Bk
open PySem (Str)
open Stree (qG u9 z9)
def wE.head{R:Rows}{j:Nat}(f:j<R.length){l:List Nat}(h:wE R j l):∃c,Fm.Ok R.length (lk R) c/\l.head? =some (Fm.tp (lk R) c j):=by
 obtain⟨c,o,p,e⟩:=h;refine⟨c,o,?_⟩;have g:=Fm.bQD o f;have k:Fm.tp (lk R) c j∈l:=(e _).mpr ⟨g.1,Fm.bV5 o f⟩;cases l with
 |nil=>cases k
 |cons x r=>
  by_cases z:x=Fm.tp (lk R) c j
  ·rw[z];rfl
  ·exfalso;obtain⟨a,b⟩:=cQ6.mp p;have d:=(e x).mp bYW;have n:Fm.tp (lk R) c j∈r:=by
    rcases bYQ.mp k with w|w
    ·exact absurd w.symm z
    ·exact w
   have q:=a _ n;have s:Fm.Un (lk R) (dt R) c (Fm.tp (lk R) c j) x:=by have:=Fm.bKo (D:=dt R) o d.1;rw[d.2]at this;exact this
   have m:=Fm.bKn o g.1 d.1 s z;have i:=Stree.Y6 q m;rw[Stree.vL]at i;cases i
def jJ{R:Rows}(t:uV R){j:Nat}(b:j<R.length):∃a,Fm.Ok R.length (lk R) a/\(thr R j).head? =some (Fm.tp (lk R) a j):=(W0 t j).head b
def wB{R:Rows}{k:Nat}{r:Row}(h:R[k]? =some r):k<R.length:=(bYS.mp h).1
def vS{R:Rows}{k:Nat}{r:Row}(h:R[k]? =some r):lk R k=r.link:=by unfold lk;rw[h];rfl
def vE{R:Rows}{k:Nat}{r:Row}(h:R[k]? =some r):dt R k=r.date:=by unfold dt;rw[h];rfl
def xV.tree{R m:Rows}{S p:List Int}{e:xS}{a:Ans}(t:uV R)(h:xV R S e a m p):uV m:=by
 cases h with
 |enter h=>exact t.enter _ λj c=>nomatch c
 |reply b h v w=>exact t.enter _ λj c=>by cases c;exact wB b
 |@hang i j r q k d c hw h u n l x=>
  obtain⟨f,o,s⟩:=jJ t (wB c);have g:Fm.tp (lk R) f j≠i:=λz=>u (by rw[s,z]);refine uV.hang (R:=laid R (thr R i) q.place) (rk:=f) (i:=i) (j:=j) ?_ ?_ ?_ ?_ ?_ _ λ_=>rfl
  ·rw[zT,aQg];exact o
  ·rw[zT];exact wB k
  ·rw[zT];exact wB c
  ·rw[aQg,vS k];exact h
  ·rw[aQg];exact g
 |loose b d h=>exact t.loose (wB b) _ λ_=>rfl
 |date b d n l=>exact t.same _ _ λ_=>rfl
 |term b d h=>exact t.same _ _ λ_=>rfl
 |copy b d h l=>exact t.same _ _ λ_=>rfl
 |file b d=>exact t.laid _ _
 |void b d h=>exact t.loose (wB b) _ λ_=>rfl
 |_=>exact t
def bZB:uV []:=⟨λ_=>0,⟨λi j a=>absurd a (cXu _)⟩⟩
end Bk
namespace Bk
open PySem (Str)
open Stree (qG u9 z9)
def bWd(r q:Row):Prop:=r.void=false/\q.void=false/\r.way≠q.way/\r.partner=q.partner/\q.date<=r.date/\r.place=q.place
structure qV(R:Rows):Prop where
 tree:uV R
 way:∀r∈R,r.way="in"\/r.way="out"
 ans:∀ (i j:Nat)(r:Row),R[i]? =some r->r.link=some j->∃q,R[j]? =some q/\bWd r q
def aVg:qV [] where
 tree:=bZB
 way:=λr h=>absurd h (by simp)
 ans:=λi j r h=>by simp at h
def aVv{w:Str}(h:w="in"\/w="out"):uP w≠w/\(uP w="in"\/uP w="out"):=by
 rcases h with rfl|rfl
 ·exact⟨by decide,.inr rfl⟩
 ·exact⟨by decide,.inl rfl⟩
def aQm{R:Rows}{i:Nat}{f:Row->Row}{r:Row}(h:r∈xN R i f):r∈R\/∃q∈R,r=f q:=by
 unfold xN at h;split at h
 ·rename_i q a;rcases List.mem_or_eq_of_mem_set h with h|h
  ·exact .inl h
  ·exact .inr ⟨q,bY0 a,h⟩
 ·exact .inl h
def aZ2{R:Rows}(h:∀r∈R,r.way="in"\/r.way="out")(i:Nat)(f:Row->Row)(c:∀r,(f r).way=r.way):∀r∈xN R i f,r.way="in"\/r.way="out":=λr a=>by
 rcases aQm a with a|⟨q,b,rfl⟩
 ·exact h r a
 ·rw[c];exact h q b
def aV0{name:Str}:∀ (l:List Nat) {R:Rows},(∀r∈R,r.way="in"\/r.way="out")->∀r∈laid R l name,r.way="in"\/r.way="out"
 |[],R,h=>h
 |k::l,R,h=>aV0 l (aZ2 h k (λr=>{r with place:=name}) λ_=>rfl)
def bJS{R:Rows}{k i:Nat}{r:Row}(h:zS R k= [])(a:R[i]? =some r):r.link≠some k:=λe=>by
 have:i∈zS R k:=cQO.mpr ⟨cQf.mpr (wB a),decide_eq_true (by rw[vS a];exact e)⟩;rw[h]at this;cases this
def bXj{R:Rows}{k i:Nat}{r:Row}(a:R[i]? =some r)(e:r.link=some k):i∈zS R k:=
 cQO.mpr ⟨cQf.mpr (wB a),decide_eq_true (by rw[vS a];exact e)⟩
def bZz{R:Rows}(t:uV R){i a b:Nat}{r:Row}(c:R[a]? =some r)(e:r.link=some b)(d:b<R.length):a∈thr R i↔b∈thr R i:=by
 obtain⟨f,o,_,h⟩:=W0 t i;rw[h a,h b,Fm.v9 o (wB c) (by rw[vS c];exact e)];exact⟨λz=>⟨d,z.2⟩,λz=>⟨wB c,z.2⟩⟩
def bZA{R:Rows}(t:uV R){i:Nat}(a:i<R.length):i∈thr R i:=by
 obtain⟨b,o,_,h⟩:=W0 t i;exact(h i).mpr ⟨a,rfl⟩
def qV.laid{R:Rows}(b:qV R)(i:Nat)(name:Str):qV (laid R (thr R i) name) where
 tree:=b.tree.laid _ _
 way:=aV0 _ b.way
 ans:=λx j r hx hl=>by
  rw[vZ]at hx
  have back:∃r0,R[x]? =some r0/\r=(if x∈thr R i then {r0 with place:=name}else r0):=by
   by_cases hm:x∈thr R i
   ·rw[if_pos hm]at hx
    cases e:R[x]? with
    |none=>rw[e]at hx;cases hx
    |some r0=>rw[e]at hx;cases hx;exact⟨r0,rfl,by rw[if_pos hm]⟩
   ·rw[if_neg hm]at hx
    exact⟨r,hx,by rw[if_neg hm]⟩
  obtain⟨r0,h0,e0⟩:=back
  have hl0:r0.link=some j:=by rw[e0]at hl;split at hl<;> exact hl
  obtain⟨q0,hq0,f1,f2,f3,f4,f5,f6⟩:=b.ans x j r0 h0 hl0
  have hiff:=bZz (i:=i) b.tree h0 hl0 (wB hq0)
  refine⟨if j∈thr R i then {q0 with place:=name}else q0,by rw[vZ,hq0];split<;> rfl,?_⟩
  by_cases hm:x∈thr R i
  ·rw[if_pos (hiff.mp hm),e0,if_pos hm]
   exact⟨f1,f2,f3,f4,f5,rfl⟩
  ·rw[if_neg (λz=>hm (hiff.mpr z)),e0,if_neg hm]
   exact⟨f1,f2,f3,f4,f5,f6⟩
def qV.set{R:Rows}(b:qV R){k:Nat}{f:Row->Row}(t:uV (xN R k f))(hw:∀r,(f r).way=r.way)(h1:∀r j q,R[k]? =some r->(f r).link=some j->j≠k->R[j]? =some q->bWd (f r) q/\True)(h0:∀r j,R[k]? =some r->(f r).link=some j->j≠k/\j<R.length)
  (h2:∀r i q,R[k]? =some r->R[i]? =some q->i≠k->q.link=some k->bWd q (f r)):qV (xN R k f) where
 tree:=t
 way:=aZ2 b.way k f hw
 ans:=λi j r hi hl=>by
  rw[zH]at hi
  by_cases e:i=k
  ·subst e
   rw[if_pos rfl]at hi
   cases e0:R[i]? with
   |none=>rw[e0]at hi;cases hi
   |some r0=>
    rw[e0]at hi
    cases hi
    obtain⟨hjk,hjl⟩:=h0 r0 j e0 hl
    have hq:=bYG hjl
    exact⟨R[j],by rw[zH,if_neg hjk];exact hq,(h1 r0 j _ e0 hl hjk hq).1⟩
  ·rw[if_neg e]at hi
   obtain⟨q,hq,hf⟩:=b.ans i j r hi hl
   by_cases ej:j=k
   ·subst ej
    exact⟨f q,by rw[zH,if_pos rfl,hq];rfl,h2 q i r hq hi e hl⟩
   ·exact⟨q,by rw[zH,if_neg ej];exact hq,hf⟩
def aK3{R:Rows}(t:uV R){k j:Nat}{r:Row}(h:R[k]? =some r)(e:r.link=some j):j≠k:=λz=>by
 obtain⟨a,o⟩:=t;have:=(o.lt k j (wB h) (by rw[vS h];exact e)).2;rw[z]at this;omega
def xV.book{R R':Rows}{S S':List Int}{e:xS}{a:Ans}(b:qV R)(hw:∀E d w t,e= .enter E d w t->E="in"\/E="out")(h:xV R S e a R' S'):qV R':=by
 have B:=h.tree b.tree;have a1:∀ (r:Row)(j:Nat) {i:Nat} {x:Row},R[i]? =some x->x.link=some j->∃q,(R++ [r])[j]? =some q/\bWd x q:=λr j {i x} m hl=>by obtain⟨q,n,C⟩:=b.ans i j x m hl;exact⟨q,by rw[cQd (wB n)];exact n,C⟩
 have snoc:∀r:Row,(r.way="in"\/r.way="out")->(∀j,r.link=some j->∃q,R[j]? =some q/\bWd r q)->uV (R++ [r])->qV (R++ [r]):=λr u s t=>⟨t,λx g=>by
   rcases cQm.mp g with g|g
   ·exact b.way x g
   ·rw[bYY.mp g];exact u,λi j x m hl=>by
   by_cases X:i<R.length
   ·rw[cQd X]at m;exact a1 r j m hl
   ·have Q:i<(R++ [r]).length:=(bYS.mp m).1;rw[bY5,cQU]at Q;have:i=R.length:=by omega
    subst this;rw[bY2 (bYO _)]at m;simp at m;subst m;obtain⟨q,n,C⟩:=s j hl;exact⟨q,by rw[cQd (wB n)];exact n,C⟩⟩
 have plain:∀ (k:Nat)(f:Row->Row),(∀r,(f r).way=r.way/\(f r).date=r.date/\(f r).partner=r.partner/\(f r).link=r.link/\(f r).place=r.place/\(f r).void=r.void)->uV (xN R k f)->qV (xN R k f):=λk f C t=>by
  refine b.set t (λr=>(C r).1) (λr j q l hl a4 n=>?_) (λr j l hl=>?_) (λr i q l m a5 hl=>?_)
  ·obtain⟨U,W,g3,g4,g5,Z⟩:=C r;rw[g4]at hl;obtain⟨K,c,u,s,N,V,h5,Y⟩:=b.ans k j r l hl;rw[n]at c;cases c;exact⟨⟨by rw[Z];exact u,s,by rw[U];exact N,by rw[g3];exact V,by rw[W];exact h5,by rw[g5];exact Y⟩,trivial⟩
  ·rw[(C r).2.2.2.1]at hl;obtain⟨q,n,_⟩:=b.ans k j r l hl;exact⟨aK3 b.tree l hl,wB n⟩
  ·obtain⟨U,W,g3,g4,g5,Z⟩:=C r;obtain⟨K,c,u,s,N,V,h5,Y⟩:=b.ans i k q m hl;rw[l]at c;cases c;exact⟨u,by rw[Z];exact s,by rw[U];exact N,by rw[g3];exact V,by rw[W];exact h5,by rw[g5];exact Y⟩
 cases h with
 |enter h=>exact snoc _ (hw _ _ _ _ rfl) (λj A=>nomatch A) B
 |@reply k d t r l h ht hd=>have L:=b.way r (bY0 l);exact snoc _ (aVv L).2 (λj A=>by cases A;exact⟨r,l,rfl,h,(aVv L).1,rfl,hd,rfl⟩) B
 |@hang i j r q m H A T h ho u s N=>
  have bl:=b.laid i q.place;obtain⟨rk,o,hh⟩:=jJ b.tree (wB A);have M:Fm.tp (lk R) rk j≠i:=λz=>ho (by rw[hh,z]);have a3:j∉thr R i:=λz=>by obtain⟨a0,o',_,hm⟩:=W0 b.tree i;have z2:=((hm j).mp z).2;have z3:Fm.tp (lk R) a0 i=i:=Fm.zZ (by rw[vS m];exact h);rw[z3,Fm.qC o' o (wB A)]at z2;exact M z2
  have a2:=bZA b.tree (wB m);have gi:(laid R (thr R i) q.place)[i]? =some {r with place:=q.place}:=by rw[vZ,if_pos a2,m];rfl
  have gj:(laid R (thr R i) q.place)[j]? =some q:=by rw[vZ,if_neg a3];exact A
  refine bl.set B (λ_=>rfl) (λx y z g hl p P=>?_) (λx y g hl=>?_) (λx y z g p v hl=>?_)
  ·rw[gi]at g;cases g;cases hl;rw[gj]at P;cases P;exact⟨⟨H,T,u,s,N,rfl⟩,trivial⟩
  ·cases hl;exact⟨λz=>M (by rw[z,Fm.zZ (by rw[vS m];exact h)]),by rw[zT];exact wB A⟩
  ·obtain⟨K,c,I,F,J,D,O,G⟩:=bl.ans y i z p hl;rw[g]at c;cases c;exact⟨I,F,J,D,O,G⟩
 |@loose k r l H h=>refine b.set B (λ_=>rfl) (λx y z g hl=>nomatch hl) (λx y g hl=>nomatch hl) (λx y z g p v hl=>?_);obtain⟨K,c,I,F,J,D,O,G⟩:=b.ans y k z p hl;rw[g]at c;cases c;exact⟨I,F,J,D,O,G⟩
 |@date k r d l H u s=>
  refine b.set B (λ_=>rfl) (λx y z g hl v P=>?_) (λx y g hl=>?_) (λx y z g p v hl=>?_)
  ·rw[l]at g;cases g;obtain⟨K,c,I,F,J,D,O,G⟩:=b.ans k y r l hl;rw[P]at c;cases c;exact⟨⟨I,F,J,D,by rw[<- vE P];exact u y hl,G⟩,trivial⟩
  ·obtain⟨q,n,_⟩:=b.ans k y x g hl;exact⟨aK3 b.tree g hl,wB n⟩
  ·obtain⟨K,c,I,F,J,D,O,G⟩:=b.ans y k z p hl;rw[g]at c;cases c;exact⟨I,F,J,D,by rw[<- vE p];exact s y (bXj p hl),G⟩
 |term l H h=>exact plain _ _ (λr=>⟨rfl,rfl,rfl,rfl,rfl,rfl⟩) B
 |copy l H h s=>exact plain _ _ (λr=>⟨rfl,rfl,rfl,rfl,rfl,rfl⟩) B
 |file l H=>exact b.laid _ _
 |void l H h=>exact b.set B (λ_=>rfl) (λx y z g hl=>nomatch hl) (λx y g hl=>nomatch hl) (λx y z g p v hl=>absurd hl (bJS h p))
 |_=>exact b
end Bk
namespace Law
open PySem L2 PyProof.Rows
open Bk (Row Rows)
def aZl(x:Str):Stmt->Bool
 |.FunctionDef n _ _ _ _ _ _ _ _ _=>n==x
 |_=>false
def xC(x:Str):Stmt:=(PySem.Challenge.pw_letterdesk_k05_whole_numbers_and_trees.main.body.find? (aZl x)).getD (.Pass ⟨0,0,0,0⟩)
abbrev bVq:Stmt:=xC "_law_good"
abbrev bXX:Stmt:=xC "_law_kids_of"
def y9:cQq "len"=some (.builtin "len"):=dk
structure vD(mg:Str->Option bYH):Prop where
 b_len:mg "len"=none
 b_range:mg "range"=none
def wO:Option Nat->V
 |none=> .non
 |some j=> .int (j:Nat)
def bWi(H:Hp)(b:Nat)(r:Row):Prop:=∃a,H b=some (.lst [.str r.way,.int r.date,.str r.partner,.int r.term,wO r.link,.str r.place,.bl r.void,.ref a])/\H a=some (.lst (r.copies.map V.str))
structure y8(H:Hp)(ra:Nat)(rs:List Nat)(R:Rows):Prop where
 lst:H ra=some (.lst (rs.map V.ref))
 len:rs.length=R.length
 nd:rs.Nodup
 row:∀ (i:Nat)(b:Nat)(r:Row),rs[i]? =some b->R[i]? =some r->bWi H b r
def y8.get{H:Hp}{f:Nat}{a:List Nat}{R:Rows}(h:y8 H f a R){i:Nat}{r:Row}(d:R[i]? =some r):∃b,(a.map V.ref)[i]? =some (.ref b)/\a[i]? =some b/\bWi H b r:=by
 have e:i<a.length:=by rw[h.len];exact Bk.wB d
 have c:=bYG e;exact⟨a[i],by rw[bY1,c];rfl,c,h.row i _ r c d⟩
inductive Z9(vs:List V)(H:Hp)(Q:VK)(_:XK):Prop|mk (ra:Nat) (rs:List Nat) (R:Rows) (m:Int) (_:vs= [.ref ra,.int m]) (_:y8 H ra rs R) (_:Q (.bl (Bk.wN R m)) H)
section
variable {K:bYI}
def bVF:yO ["_law_rows","_law_number"] ["_law_rows","_law_number"] (yH bVq):=scM
def bJY(T:vD mg)(F:Fun K "_law_good" "_law_good" bVq f fd):xD P w K mg base CX0 1 f fd ["_law_rows","_law_number"] Z9:=by
 have i:=bVF;refine F.ok (k:=0) i (λl A outer s H t Q E r h=>?_);obtain⟨g,n,R,m,rfl,a,q⟩:=h;refine⟨_,(yF (yP (aVy (zG aYs yE (pv 1)) (aVy (zG vF (pv 1) (yT yN rfl T.b_len y9 (yA (pv 0) yD))) (aZE (bZ4 (yL yK (yL yK (pv 0) (pv 1)) yE))))))),?_⟩;refine⟨_,rfl,_,_,rfl,rfl,_,rfl,?_⟩;unfold Bk.wN at q;cases d:decide (0<=m)with
 |false=>rw[d,Bool.false_and]at q;exact onF rfl q
 |true=>
  rw[d,Bool.true_and]at q;have h0:0<=m:=of_decide_eq_true d;refine onT rfl ⟨_,rfl,_,rfl,g,_,rfl,.inl (SqL.of a.lst),_,_,rfl,rfl,_,rfl,?_⟩;have hl:(n.map V.ref).length=R.length:=by rw[bYL];exact a.len
  rw[hl];obtain⟨k,rfl⟩:∃k:Nat,m=(k:Int):=⟨m.toNat,by omega⟩;rw[cQc]at q;cases e:decide ((k:Int)<(R.length:Nat))with
  |false=>
   have c:R.length<=k:=by have:=of_decide_eq_false e;omega
   rw[cQi c]at q;exact onF rfl q
  |true=>
   have c:k<R.length:=by have:=of_decide_eq_true e;omega
   obtain⟨b,j,p,u,o,v⟩:=a.get (bYG c);rw[bYG c]at q;refine onT rfl ⟨_,rfl,_,rfl,g,_,_,_,rfl,rfl,SqL.of a.lst,yR j,b,_,6,_,rfl,rfl,SqL.of o,rfl,_,rfl,q⟩
def bVI:yO ["_law_rows","_law_number"] ["_law_rows","_law_number"] (yH bXX):=scM
def bJN:xJ ["_law_rows","_law_number"] (yH bXX) "_law_k" ["_law_number","_law_rows"] [1,0] (lsN [(".0",.local),("_law_k",.local),("_law_number",.free),("_law_rows",.free)]):=
 lcM
inductive aVQ(vs:List V)(H:Hp)(Q:VK)(_:XK):Prop|mk (ra:Nat) (rs:List Nat) (R:Rows) (m:Nat) (_:vs= [.ref ra,.int (m:Nat)]) (_:y8 H ra rs R) (_:R.length<=100) (_:∀r,H r=none->Q (.ref r) (upd H r (.lst ((Bk.zS R m).map λi=>V.int (i:Nat)))))
def aJi{o:Option Nat}{m:Nat}:decide (wO o=V.int (m:Nat))=decide (o=some m):=by
 cases o with
 |none=>rfl
 |some j=>show decide (V.int (j:Nat)=V.int (m:Nat))=decide (some j=some m);rw[Bool.eq_iff_iff];simp;omega
def bJ1(T:vD mg)(F:Fun K "_law_kids_of" "_law_kids_of" bXX f fd):xD P w K mg base CX0 1 f fd ["_law_rows","_law_number"] aVQ:=by
 have p:=bVI;refine F.ok (k:=0) p (λt A outer s H z Q E y h=>?_);obtain⟨e,n,R,m,rfl,c,hR,q⟩:=h;refine⟨_,(yF (yP (W6 bJN rfl (xX rfl T.b_range (yA (yT yN rfl T.b_len y9 (yA (pv 0) yD)) yD)) (λ_ _ _ _ _=>(wV (yM zB (yL ixK (yL ixK (pv 2) (pv 0)) yE) (pv 1)))) (λ_ _ _ _ _=>(pv 0))))),?_⟩;have hl:(n.map V.ref).length=R.length:=by rw[bYL];exact c.len
 refine⟨_,rfl,e,_,rfl,.inl (SqL.of c.lst),?_⟩;rw[hl];refine⟨_,rfl,by omega,by omega,λD d=>?_⟩;rw[cQc];refine J2 (λk=>decide (Bk.lk R k=some m)) (λk=>V.int (k:Nat)) d (by rw[cQg];omega) (λk i l u j a=>?_) (λk i _ l u j a=>⟨_,rfl,a⟩) (q D d);obtain⟨b,r,x,B,o,C⟩:=c.get (bYG i);have g:l e=some (.lst (n.map V.ref)):=by rw[j e (yJ c.lst d)];exact c.lst
 have v:l b=_:=(j b (yJ o d)).trans o;refine⟨_,rfl,_,rfl,e,_,_,_,rfl,rfl,SqL.of g,yR r,b,_,4,_,rfl,rfl,SqL.of v,rfl,_,rfl,?_,_,rfl,?_⟩
 ·cases R[k].link<;> rfl
 ·rw[aJi,<- Bk.vS (bYG i)];exact a
end
end Law
namespace L2
open PySem PySem.Spec PyProof.Rows
section
variable {X:Cx}
inductive aWa(K:bYI)(xs:List V)(H:Hp)(Q:VK):Prop|mk (p:Nat) (ns:List Int) (_:xs= [.ref p]) (_:SqL K H p (ns.map V.int)) (_:ns≠ []) (_:∀m,m∈ns->(∀x∈ns,m<=x)->Q (.int m) H)
def aKx(M:X.calm=true):jQ X (.builtin "min") (aWa X.K):=by
 intro B s σ H T Y Q I r h;obtain⟨p,c,rfl,R,w,q⟩:=h;obtain⟨u,rfl,G⟩:=aQV r;cases G;obtain⟨a,J,y,W⟩:=I.list R;have C:cZf a c:=aXb J;have f:a.length=c.length:=C.length;have m:0<a.length:=by rw[f];exact cQZ.mpr w
 obtain⟨o,S,_⟩:=id y.isList;have l:p<s.heap.objs.size:=bYV S;have d:∀ (i:Nat)(v:bYH),a.toArray[i]? =some v->∃t,v=Value.int (c.getD i 0) t:=λi v n=>cJM C i v (by simpa using n);refine call_min_walk (cJZ y.isList ?_);refine⟨s.heap.objs.size,[s.heap.objs.size,p],[s.heap.objs.size],a.toArray.size,_,_,_,rfl,Walks.list (A:=X.A.in1) (by simpa using I.ok.hd M) _ p (bY7 l) a.toArray,⟨⟨_,cQb _ rfl,rfl,rfl⟩,y.isList.push _⟩,λb g=>?_,by rw[bYZ];exact m,CmpOf.ints_lt (λi=>c.getD i 0) d,λv V tk n P=>?_⟩
 ·show b<(s.heap.push _).objs.size;rw[cXg];rcases bYQ.mp g with rfl|g
  ·exact cXz _
  ·rw[bYY.mp g];exact cQS l
 ·obtain⟨t,rfl⟩:=d _ _ n;obtain⟨U,L⟩:=argBest_lt (λi=>c.getD i 0) (a.toArray.size - 1);have N:a.toArray.size=c.length:=by rw[bYZ];exact f
  have g:argBest (λi j=>decide (c.getD i 0<c.getD j 0)) (a.toArray.size - 1)<c.length:=by omega
  refine⟨.int _,H,I.kept (t':=tk) λb E e=>P b E (λz=>by rw[bYY.mp z]at e;exact cQQ _ (bYV e)) (bYM _ e),⟨t,rfl⟩,q _ ?_ λx F=>?_⟩
  ·generalize argBest (λi j=>decide (c.getD i 0<c.getD j 0)) (a.toArray.size - 1)=k at g;simp[cQu,bYG g]
  ·obtain⟨j,D,e⟩:=cQy F;have:=L j (by omega);have O:c.getD j 0=x:=by simp[cQu,bYG D,e]
   rw[O]at this;exact this
end
end L2
namespace Law
open PySem L2 PyProof.Rows
open Bk (Row Rows)
abbrev aVG:Stmt:=xC "_law_waits_on"
def aKt:cQq "min"=some (.builtin "min"):=dk
def bWi.same{H a:Hp}{b:Nat}{r:Row}(h:bWi H b r)(k:xA H a):bWi a b r:=let ⟨cp,e1,e2⟩:=h;⟨cp,k _ _ e1,k _ _ e2⟩
def y8.same{H d:Hp}{a:Nat}{c:List Nat}{R:Rows}(h:y8 H a c R)(k:xA H d):y8 d a c R:=
 ⟨k _ _ h.lst,h.len,h.nd,λi b r f e=>(h.row i b r f e).same k⟩
inductive bQw(vs:List V)(H:Hp)(Q:VK)(_:XK):Prop|mk (ra:Nat) (rs:List Nat) (R:Rows) (k:Nat) (d:Int) (_:vs= [.ref ra,.int (k:Nat),.int d]) (_:y8 H ra rs R) (_:R.length<=100) (_:k<R.length) (_:∀H',xA H H'->Q (.bl (Bk.W8 R k d)) H')
section
variable {K:bYI}
def bZi:yO ["_law_rows","_law_number","_law_date","_law_one","_law_dates"] ["_law_rows","_law_number","_law_date"] (yH aVG):=scM
def bXe:xJ ["_law_rows","_law_number","_law_date","_law_one","_law_dates"] (yH aVG) "_law_k" ["_law_rows"] [0] (lsN [(".0",.local),("_law_k",.local),("_law_rows",.free)]):=
 lcM
def dtV(R:Rows):V->V
 |.int n=> .int (Bk.dt R n.toNat)
 |_=> .non
def bXH(T:vD mg)(z:mg "min"=none)(a:FnG P w K mg base 1 "_law_kids_of" ["_law_rows","_law_number"] aVQ)(F:Fun K "_law_waits_on" "_law_waits_on" aVG f fd):xD P w K mg base CX0 2 f fd ["_law_rows","_law_number","_law_date"] bQw:=by
 have sc:=bZi;refine F.ok (k:=1) sc (λa1 A outer s X vs Q E Y h=>?_);obtain⟨u,W,R,k,d,rfl,B,hR,hk,q⟩:=h;refine⟨_,(yC (yU (i:=3) (yL yK (pv 0) (pv 1))) (yC (y0 (PW.pt (vG (xQ (yL yK (pv 3) yE)) (vG (yM vF (yL yK (pv 3) yE) yE) (wM (yM aQo (yL yK (pv 3) yE) (pv 2)))))) (yF (yP wP)) yS) (yC (aZH (i:=4) bXe rfl sc.nd rfl rfl (xM (xK a Y rfl (yA (pv 0) (yA (pv 1) yD)))) (λ_ _ _ _ _=>zV) (λ_ _ _ _ _=>(yL ixK (yL ixK (pv 1) (pv 0)) yE))) (yF (yP (bWS (zG (aVt Y.units0) (pv 4) (y6 yD)) (aZE (zG aQo (yT (aKx rfl) rfl z aKt (yA (pv 4) yD)) (pv 2))))))))),?_⟩;have t:=bYG hk;obtain⟨b,g1,g2,cp,S,g4⟩:=B.get t;have qw:Bk.W8 R k d=(!R[k].void && decide (1<=R[k].term) && decide (R[k].date<=d) && (Bk.zS R k).all λj=>decide (d<Bk.dt R j)):=by unfold Bk.W8;rw[t]
 rw[qw]at q;refine⟨_,rfl,_,rfl,u,_,_,_,rfl,rfl,SqL.of B.lst,yR g1,?_⟩;dsimp only[yW];refine⟨_,rfl,b,_,6,_,rfl,rfl,SqL.of S,rfl,_,rfl,?_⟩;cases x:R[k].void with
 |true=>rw[x]at q;exact onT rfl (onT rfl (q _ (xA.refl _)))
 |false=>
  rw[x]at q;refine onF rfl ⟨_,rfl,b,_,3,_,rfl,rfl,SqL.of S,rfl,_,_,rfl,rfl,_,rfl,?_⟩;cases U:decide (R[k].term<1)with
  |true=>have:decide (1<=R[k].term)=false:=decide_eq_false (by have:=of_decide_eq_true U;omega);rw[this]at q;exact onT rfl (onT rfl (q _ (xA.refl _)))
  |false=>
   have:decide (1<=R[k].term)=true:=decide_eq_true (by have:=of_decide_eq_false U;omega);rw[this]at q;refine onF rfl ⟨_,rfl,b,_,1,_,rfl,rfl,SqL.of S,rfl,_,rfl,_,_,rfl,rfl,_,rfl,?_⟩;cases hd:decide (R[k].date > d)with
   |true=>have:decide (R[k].date<=d)=false:=decide_eq_false (by have:=of_decide_eq_true hd;omega);rw[this]at q;exact onT rfl (q _ (xA.refl _))
   |false=>
    have:decide (R[k].date<=d)=true:=decide_eq_true (by have:=of_decide_eq_false hd;omega);rw[this]at q;refine onF rfl ?_;refine⟨_,rfl,_,rfl,u,W,R,k,rfl,B,hR,λr H=>⟨r,rfl,⟨_,SqL.of yB⟩,λD C=>?_⟩⟩;have k1:=yG H (.lst ((Bk.zS R k).map λi=>V.int (i:Nat)));have n:=B.same k1;have a0:(Bk.zS R k).length<=R.length:=by have:=cQM (λj=>decide (Bk.lk R j=some k)) (bYU R.length);rw[cQt]at this;exact this
    refine aZu (λ_=>true) (dtV R) (SqL.of yB) C (zn (by rw[bYL];omega)) (λv x H' R' _ h=>h) (λv x _ H' R' hH y=>?_) ?_
    ·obtain⟨j,hj,rfl⟩:=cQH.mp x;have M:j<R.length:=cQf.mp (cQO.mp hj).1;have o:=bYG M;obtain⟨Z,j1,j2,cj,j3,j4⟩:=n.get o;have J:H' u=some (.lst (W.map V.ref)):=by rw[hH u (yJ n.lst C)];exact n.lst
     have N:=(hH Z (yJ j3 C)).trans j3;have e:dtV R (V.int (j:Nat))=V.int R[j].date:=by show V.int (Bk.dt R (j:Int).toNat)=_;rw[cQc,Bk.vE o]
     rw[e]at y;exact⟨_,rfl,_,rfl,u,_,_,_,rfl,rfl,SqL.of J,yR j1,Z,_,1,_,rfl,rfl,SqL.of N,rfl,y⟩
    ·have ff:((Bk.zS R k).map λi=>V.int (i:Nat)).filter (λ_=>true)=(Bk.zS R k).map λi=>V.int (i:Nat):=cZt.mpr λ_ _=>rfl;have em:((Bk.zS R k).map λi=>V.int (i:Nat)).map (dtV R)=((Bk.zS R k).map (Bk.dt R)).map V.int:=by
      rw[cX5,cX5];refine cJB λj _=>?_;show V.int (Bk.dt R (j:Int).toNat)=V.int (Bk.dt R j);rw[cQc]
     rw[ff,em];dsimp only[yW];have k2:=yG C (.lst (((Bk.zS R k).map (Bk.dt R)).map V.int));have c:upd (upd X r (.lst ((Bk.zS R k).map λi=>V.int (i:Nat)))) D (.lst (((Bk.zS R k).map (Bk.dt R)).map V.int)) D=some (.lst (((Bk.zS R k).map (Bk.dt R)).map V.int)):=yB;have kA:=k1.trans k2;generalize upd (upd X r (.lst ((Bk.zS R k).map λi=>V.int (i:Nat)))) D (.lst (((Bk.zS R k).map (Bk.dt R)).map V.int))=H2 at c kA ⊢;refine⟨_,rfl,z0,λpn I=>?_⟩;have O:=yG I (.lst []);refine⟨D,pn,_,rfl,rfl,SqL.of (O _ _ c),SqL.of yB,_,rfl,?_⟩;have p:=q _ (kA.trans O);cases g:Bk.zS R k with
     |nil=>rw[g]at p;exact onT rfl p
     |cons j l=>
      rw[g]at p;refine onF rfl ⟨_,rfl,D,(j::l).map (Bk.dt R),rfl,SqL.of (by rw[<- g];exact O _ _ c),by simp,λm hm G=>?_⟩;refine⟨_,rfl,_,_,rfl,rfl,?_⟩;have e:((!false && true && true && (j::l).all λj=>decide (d<Bk.dt R j)):Bool)=decide (m > d):=by
       rw[Bool.eq_iff_iff];simp only[Bool.not_false,Bool.true_and,cZR,decide_eq_true_eq];constructor
       ·intro h;obtain⟨i,L,rfl⟩:=cQH.mp hm;exact h i L
       ·intro h i L;have:=G _ (cQH.mpr ⟨i,L,rfl⟩);omega
      rw[e]at p;exact p
end
end Law
namespace Bk
def aZd:∀shut:List Int,∃C:List Int,C.Pairwise (·<·)/\∀d,d∈C↔d∈shut/\Dm.opn d=true
 |[]=>⟨[],.nil,λd=>by simp⟩
 |x::l=>by
  obtain⟨C,m,o⟩:=aZd l;have ins:∀C:List Int,C.Pairwise (·<·)->∃g:List Int,g.Pairwise (·<·)/\∀d,d∈g↔d=x\/d∈C:=by
   intro C;induction C with
   |nil=>intro _;exact⟨[x],cQ5 _ _,λd=>by simp⟩
   |cons y C p=>
    intro h;obtain⟨a,b⟩:=cQ6.mp h;by_cases e:x=y
    ·subst e;exact⟨x::C,h,λd=>by simp⟩
    ·by_cases k:x<y
     ·refine⟨x::y::C,cQ6.mpr ⟨λd f=>?_,h⟩,λd=>by simp⟩;rcases bYQ.mp f with rfl|f
      ·exact k
      ·have:=a d f;omega
     ·obtain⟨g,j,i⟩:=p b;refine⟨y::g,cQ6.mpr ⟨λd f=>?_,j⟩,λd=>?_⟩
      ·rcases(i d).mp f with rfl|f
       ·omega
       ·exact a d f
      ·rw[bYQ,i d,bYQ];constructor
       ·rintro(h|h|h)
        ·exact .inr (.inl h)
        ·exact .inl h
        ·exact .inr (.inr h)
       ·rintro(h|h|h)
        ·exact .inr (.inl h)
        ·exact .inl h
        ·exact .inr (.inr h)
  by_cases n:Dm.opn x=true
  ·obtain⟨g,j,i⟩:=ins C m;refine⟨g,j,λd=>?_⟩;rw[i d,o d,bYQ];constructor
   ·rintro(rfl|⟨h,c⟩)
    ·exact⟨.inl rfl,n⟩
    ·exact⟨.inr h,c⟩
   ·rintro⟨h|h,c⟩
    ·exact .inl h
    ·exact .inr ⟨h,c⟩
  ·refine⟨C,m,λd=>?_⟩;rw[o d,bYQ];constructor
   ·rintro⟨h,c⟩;exact⟨.inr h,c⟩
   ·rintro⟨h|h,c⟩
    ·rw[h]at c;exact absurd c n
    ·exact⟨h,c⟩
def bWt(shut:List Int)(d:Int){t:Int}(a:1<=t):Dm.Due shut d t (due shut d t):=by
 obtain⟨C,b,c⟩:=aZd shut;have h:=Dm.bZO (date:=d) a b c;rw[bZN h];exact h
end Bk
namespace Law
open PySem L2 PyProof.Rows
open Bk (Row Rows)
abbrev aYM:Stmt:=xC "_law_due_by"
abbrev aXM:Stmt:=xC "_law_list_on"
def w6:cQq "sorted"=some (.builtin "sorted"):=dk
inductive bQn(K:bYI)(vs:List V)(H:Hp)(Q:VK)(_:XK):Prop|mk (a:Nat) (ns:List Int) (d t D:Int) (_:vs= [.ref a,.int d,.int t]) (_:SqL K H a (ns.map V.int)) (_:Dm.Due ns d t D) (_:Q (.int D) H)
section
variable {K:bYI}
def uZ(d:Int):∀ns:List Int,inV (.int d) (ns.map V.int)=ns.contains d
 |[]=>rfl
 |n::r=>by have a:=uZ d r;unfold inV at a ⊢;rw[cQx,cXZ,a,cX4];congr 1;show(n==d)=(d==n);rw[Bool.eq_iff_iff,beq_iff_eq,beq_iff_eq];exact eq_comm
def uM:∀ns:List Int,(ns.map V.int).all W4=true
 |[]=>rfl
 |n::r=>by rw[cQx,cZV,uM r];rfl
def bX6:yO ["_law_shut","_law_date","_law_term","_law_many"] ["_law_shut","_law_date","_law_term"] (yH aYM):=scM
def bXv(T:vD mg)(F:Fun K "_law_due_by" "_law_due_by" aYM f fd):xD P w K mg base CX0 1 f fd ["_law_shut","_law_date","_law_term"] (bQn K):=by
 have I:=bX6;refine F.ok (k:=0) I (λJ A outer s L N Q E M h=>?_);obtain⟨a,g,d,t,D,rfl,G,r,q⟩:=h;refine⟨_,(yC (yU (i:=3) yE) (yC (jD cQv (yM vF (pv 3) (pv 2)) (yC (yU (i:=1) (yV x6 (pv 1) yE)) (yF (y0 (PW.pt (vM (yM vF (yV y3 (pv 1) yE) yE) (wQ (yM Z7 (pv 1) (pv 0))))) (yF (yU (i:=3) (yV x6 (pv 3) yE))) yS)))) (yF (yP (pv 1))))),?_⟩;refine⟨λm σ H=>∃n:Nat,σ= [some (.ref a),some (.int (d+n)),some (.int t),some (.int (Dm.cnt g (d+1) n))]/\H=L/\d+n<=D/\m=(D - (d+n)).toNat,⟨(D - d).toNat,0,?_,rfl,by have:=r.later;omega,by simp⟩,?_⟩
 ·rw[show d+((0:Nat):Int)=d by simp];rfl
 rintro m σ H ⟨n,rfl,rfl,p,rfl⟩;refine⟨_,rfl,_,rfl,_,_,rfl,rfl,_,rfl,?_⟩;refine qF (λc=>?_) (λc=>?_)
 ·have v:((Dm.cnt g (d+1) n:Nat):Int)<t:=of_decide_eq_true c;have C:d+n<D:=by
   by_cases e:d+n=D
   ·have:=r.cnt;rw[<- e,show(d+n - d).toNat=n by omega]at this;omega
   ·omega
  refine⟨λo B=>∃u,u<(D - (d+n)).toNat/\∃n:Nat,o= [some (.ref a),some (.int (d+n)),some (.int t),some (.int (Dm.cnt g (d+1) n))]/\B=H/\d+n<=D/\u=(D - (d+n)).toNat,λo B z=>z,?_⟩;refine⟨_,rfl,_,_,rfl,rfl,?_⟩;dsimp only[yW];have l:Dm.cnt g (d+1) (n+1)=Dm.cnt g (d+1) n+(if Dm.cts g (d+1+n)then 1 else 0):=rfl;have j:d+((n+1:Nat):Int)=d+n+1:=by omega
  refine⟨_,rfl,_,_,rfl,rfl,(show(0:Int)<7 by decide),_,_,rfl,rfl,_,rfl,?_⟩;have b:Dm.cts g (d+1+n)=(decide ((d+n+1) % 7<5) && !(g.contains (d+n+1))):=by rw[show d+1+(n:Int)=d+n+1 by omega];rfl
  cases y:decide ((d+(n:Int)+1) % 7<5)with
  |false=>rw[y,Bool.false_and]at b;rw[b]at l;refine onF rfl (onF rfl ⟨(D - (d+(n+1:Nat))).toNat,by omega,n+1,?_,rfl,by omega,rfl⟩);rw[l,j];rfl
  |true=>
   rw[y,Bool.true_and]at b;refine onT rfl ⟨_,rfl,_,rfl,a,_,rfl,.inl G,rfl,uM g,_,rfl,?_⟩;rw[if_pos rfl,uZ];cases x:g.contains (d+(n:Int)+1)with
   |true=>rw[x]at b;rw[b]at l;refine onF rfl ⟨(D - (d+(n+1:Nat))).toNat,by omega,n+1,?_,rfl,by omega,rfl⟩;rw[l,j];rfl
   |false=>rw[x]at b;rw[b]at l;refine onT rfl ⟨_,rfl,_,_,rfl,rfl,(D - (d+(n+1:Nat))).toNat,by omega,n+1,?_,rfl,by omega,rfl⟩;rw[l,j];simp
 ·have v:¬ ((Dm.cnt g (d+1) n:Nat):Int)<t:=of_decide_eq_false (Bool.eq_false_iff.mpr c);have e:d+n=D:=by
   refine Int.le_antisymm p (cZy.mp λz=>v (r.less z))
  refine⟨_,rfl,?_⟩;rw[e];exact q
noncomputable def jM (R:Rows) (shut:List Int) (k:Nat):Int:=Bk.due shut (Bk.dt R k) (((R[k]?).map (·.term)).getD 0)
noncomputable def qU (R:Rows) (shut:List Int) (d:Int) (a:Bool) (k:Nat):Bool:=Bk.W8 R k d && (!a || decide (jM R shut k<d))
inductive aVR(vs:List V)(H:Hp)(Q:VK)(_:XK):Prop|mk (ra sa:Nat) (rs:List Nat) (R:Rows) (shut:List Int) (d:Int) (late:Bool) (_:vs= [.ref ra,.ref sa,.int d,.bl late]) (_:y8 H ra rs R) (_:H sa=some (.lst (shut.map V.int))) (_:R.length<64) (_:∀ (r:Nat)(H':Hp)(l:List Nat),xA H H'->H r=none->H' r=some (.lst (l.map λi=>V.int (i:Nat)))->Bk.bQH R shut d late l->Q (.ref r) H')
def aKl(H:Hp)(g:Nat->Int)(k:Nat)(x:V):Prop:=∃p,x= .ref p/\H p=some (.tup [.int (g k),.int (k:Nat)])
def aKl.tk{H c:Hp}{g:Nat->Int}(t:∀a b,H a=some (.tup b)->c a=some (.tup b)){k:Nat}{x:V}(h:aKl H g k x):aKl c g k x:=let ⟨p,e,a⟩:=h;⟨p,e,t _ _ a⟩
def aXn{R:Rows}{k:Nat}{d:Int}(a:k<R.length)(h:Bk.W8 R k d=true):1<=R[k].term:=by
 unfold Bk.W8 at h;rw[bYG a]at h;simp only[Bool.and_eq_true,decide_eq_true_eq]at h;exact h.1.1.2
def aY9:yO ["_law_rows","_law_shut","_law_date","_law_late","_law_made","_law_k","_law_last"] ["_law_rows","_law_shut","_law_date","_law_late"] (yH aXM):=scM
def aKY:xJ ["_law_rows","_law_shut","_law_date","_law_late","_law_made","_law_k","_law_last"] (yH aXM) "_law_pair" [] [] (lsN [(".0",.local),("_law_pair",.local)]):=
 lcM
def bQG{α β:Type}{F:α->β->Prop}:∀ {l:List α} {m:List β} {i:Nat} {y:β},cQA F l m->m[i]? =some y->∃x,l[i]? =some x/\F x y
 |_,_,0,_,.cons r _,h=>by simp at h;subst h;exact⟨_,rfl,r⟩
 |_,_,i+1,_,.cons _ t,h=>by simpa using bQG (i:=i) t (by simpa using h)
 |_,_,i,_,.nil,h=>by simp at h
def aXf{α β:Type}{F:α->β->Prop}{x:α}{y:β}(r:F x y):∀ {l:List α} {m:List β},cQA F l m->cQA F (l++ [x]) (m++ [y])
 |_,_,.nil=> .cons r .nil
 |_,_,.cons a t=> .cons a (aXf r t)
def aQU{a H:Hp}{c:Nat}{o:HO}(k:xA a H)(h:a c=none):xA a (upd H c o):=λb u q=>by rw[yI (yJ q h)];exact k b u q
def bKx(H:Hp):V->V
 |.ref p=>match H p with
  |some (.tup [_,y])=>y
  |_=> .non
 |_=> .non
def aVI{H:Hp}{p:Nat}{x y:V}(h:H p=some (.tup [x,y])):bKx H (.ref p)=y:=by
 show(match H p with|some (.tup [_,y])=>y|_=>V.non)=y;rw[h]
def aYn(T:vD mg)(D:mg "sorted"=none)(n:FnG P w K mg base 2 "_law_waits_on" ["_law_rows","_law_number","_law_date"] bQw)(B:FnG P w K mg base 2 "_law_due_by" ["_law_shut","_law_date","_law_term"] (bQn K)) (F:Fun K "_law_list_on" "_law_list_on" aXM f fd):xD P w K mg base CX0 3 f fd ["_law_rows","_law_shut","_law_date","_law_late"] aVR:=by
 have sc:=aY9;refine F.ok (k:=2) sc (λc0 A outer s H0 vs Q E hr h=>?_);obtain⟨S,sa,rs,R,shut,d,c,rfl,hB,b6,hR,q⟩:=h;refine⟨_,(yC (yU (i:=4) (y6 yD)) (yC (zN cQv rfl (xX rfl T.b_range (yA (yT yN rfl T.b_len y9 (yA (pv 0) yD)) yD)) (xB (i:=5)) (yF (y0 (xQ (xK n hr rfl (yA (pv 0) (yA (pv 5) (yA (pv 2) yD))))) (yC (yU (i:=6) (xK B hr rfl (yA (pv 1) (yA (yL yK (yL yK (pv 0) (pv 5)) yE) (yA (yL yK (yL yK (pv 0) (pv 5)) yE) yD))))) (yF (y0 (PW.pt (vG (wA (xQ (pv 3))) (wM (yM vF (pv 6) (pv 2))))) (yF (yY (uF cQj cQo cQp xL (pv 4) (yA (xI (yA (pv 6) (yA (pv 5) yD))) yD)))) yS))) yS))) (yF (yP (W6 aKY rfl (xM (yT uA rfl D w6 (yA (pv 4) yD))) (λ_ _ _ _ _=>zV) (λ_ _ _ _ _=>(yL ixT (pv 0) yE))))))),?_⟩;refine⟨z0,λC a4=>?_⟩;dsimp only[yW];have k1:=yG a4 (.lst []);have hl:(rs.map V.ref).length=R.length:=by rw[bYL];exact hB.len
 refine⟨_,rfl,S,_,rfl,.inl (SqL.of (k1 _ _ hB.lst)),?_⟩;rw[hl];refine⟨_,rfl,by omega,by omega,?_⟩;rw[cQc];refine zM (λt σ H=>∃ (g:List V)(M N:Option V),σ= [some (.ref S),some (.ref sa),some (.int d),some (.bl c),some (.ref C),M,N]/\xA H0 H/\H C=some (.lst g)/\
  cQA (aKl H (jM R shut)) ((bYU t).filter (qU R shut d c)) g) ?_ ?_ ?_
 ·exact⟨[],none,none,rfl,k1,yB,.nil⟩
 ·rintro k σ H hk ⟨g,M,N,rfl,o,y,U⟩;rw[cXM];dsimp only[yW];have a8:=hB.same o;have Y:=bYG hk;rw[cXS,cQT];have stay:∀Z M N,xA H Z->qU R shut d c k=false->∃ (g:List V)(p5 p6:Option V),[some (V.ref S),some (V.ref sa),some (V.int d),some (V.bl c),some (V.ref C),M,N]= [some (.ref S),some (.ref sa),some (.int d),some (.bl c),some (.ref C),p5,p6]/\xA H0 Z/\Z C=some (.lst g)/\
    cQA (aKl Z (jM R shut)) ((bYU k).filter (qU R shut d c)++ [k].filter (qU R shut d c)) g:=λZ M N kk e=>by
   have e3: [k].filter (qU R shut d c)= []:=by simp[e]
   rw[e3,cQN]
   exact⟨g,M,N,rfl,o.trans kk,kk _ _ y,Paired.mapP U λ_ _ z=>z.tk λa xs e=>kk _ _ e⟩
  refine⟨_,rfl,_,rfl,_,rfl,S,rs,R,k,d,rfl,a8,by omega,hk,λH2 J=>⟨_,rfl,?_⟩⟩;cases hw:Bk.W8 R k d with
  |false=>exact onF rfl (stay H2 _ _ J (by unfold qU;rw[hw];rfl))
  |true=>
   have b5:=aXn hk hw;have a1:=a8.same J;obtain⟨b,g1,g2,cp,g3,g4⟩:=a1.get Y;have hD:=Bk.bWt shut (Bk.dt R k) b5;have eD:jM R shut k=Bk.due shut (Bk.dt R k) R[k].term:=by unfold jM;rw[Y];rfl
   rw[<- eD,Bk.vE Y]at hD;refine onT rfl ?_;refine⟨_,rfl,_,rfl,_,rfl,S,_,_,_,rfl,rfl,SqL.of a1.lst,yR g1,b,_,1,_,rfl,rfl,SqL.of g3,rfl,_,rfl,_,rfl,S,_,_,_,rfl,rfl,SqL.of a1.lst,yR g1,b,_,3,_,rfl,rfl,SqL.of g3,rfl,?_⟩;refine⟨sa,shut,_,_,jM R shut k,rfl,SqL.of (J _ _ (o _ _ b6)),hD,?_⟩;dsimp only[yW];have a5:qU R shut d c k=true->bQA (tBM K "list" aYC (bV1 4) (aKg (bYl (aKg (bV1 6) (aKg (bV1 5) bZu))) bZu)) {nx:=λσ H=>∃ (g:List V)(M N:Option V),σ= [some (.ref S),some (.ref sa),some (.int d),some (.bl c),some (.ref C),M,N]/\xA H0 H/\H C=some (.lst g)/\cQA (aKl H (jM R shut)) ((bYU k).filter (qU R shut d c)++ [k].filter (qU R shut d c)) g,rt:=Q} [some (.ref S),some (.ref sa),some (.int d),some (.bl c),some (.ref C),some (.int (k:Nat)),some (.int (jM R shut k))] H2:=λe=>by
    have a6:=J _ _ y;refine⟨_,rfl,.inl ⟨rfl,_,SqL.of a6⟩,_,rfl,_,rfl,z2,λq3 b7=>?_⟩;have k5:=yG b7 (.tup [V.int (jM R shut k),V.int (k:Nat)]);have a3:=k5 _ _ a6;have il:g.length<=k:=by rw[<- U.length];exact cQn (cQM _ _) (by simp)
    have t6:∀a xs,upd H2 q3 (.tup [V.int (jM R shut k),V.int (k:Nat)]) a=some (.tup xs)->upd (upd H2 q3 (.tup [V.int (jM R shut k),V.int (k:Nat)])) C (.lst (g++ [V.ref q3])) a=some (.tup xs):=λa xs e=>by rw[yI (aQ1 e a3 (by intro z;cases z))];exact e
    have e3: [k].filter (qU R shut d c)= [k]:=by simp[e]
    refine⟨C,g,.ref q3,rfl,rfl,a3,zlt (by omega),g++ [.ref q3],_,_,rfl,aQU (o.trans (J.trans k5)) a4,yB,?_⟩;rw[e3];exact aXf ⟨q3,rfl,t6 _ _ yB⟩ (Paired.mapP U λ_ _ z=>z.tk λa xs e=>t6 _ _ (k5 _ _ (J _ _ e)))
   refine⟨_,rfl,_,rfl,?_⟩;by_cases j:c=true
   ·refine onF (by rw[j];rfl) ⟨_,rfl,_,rfl,_,_,rfl,rfl,_,rfl,?_⟩;cases a2:decide (jM R shut k<d)with
    |true=>exact onT rfl (a5 (by unfold qU;rw[hw,j,a2];rfl))
    |false=>exact onF rfl (stay H2 _ _ J (by unfold qU;rw[hw,j,a2];rfl))
   ·have hf:c=false:=by simpa using j
    exact onT (by rw[hf];rfl) (onT rfl (a5 (by unfold qU;rw[hw,hf];rfl)))
 ·rintro σ H1 ⟨g,M,N,rfl,o,y,U⟩;generalize I:(bYU R.length).filter (qU R shut d c)=fam at U;have b0:fam.length=g.length:=U.length;have fn:fam.length<=R.length:=by rw[<- I];exact cQn (cQM _ _) (by simp)
  have b1:∀k,k∈fam↔k<R.length/\qU R shut d c k=true:=λk=>by rw[<- I,cQO,cQf]
  have b3:fam.Nodup:=by rw[<- I];exact cZS.sublist cXK
  refine⟨_,rfl,C,g,λm=>(jM R shut (fam.getD m 0),((fam.getD m 0:Nat):Int)),rfl,y,by omega,λa b ha hb e=>?_,λm x hx=>?_,λl out hl W b8=>?_⟩
  ·have L:fam.getD a 0=fam.getD b 0:=by have:=congrArg Prod.snd e;simp only at this;omega
   have b2:a<fam.length:=by omega
   have a9:b<fam.length:=by omega
   simp[cQu,bYG b2,bYG a9]at L;exact(cXx (h₀:=b2) (h₁:=a9) b3).mp L
  ·obtain⟨k,hk,p,X,L⟩:=bQG U hx;have:fam.getD m 0=k:=by simp[cQu,hk]
   show ∃a,x=V.ref a/\H1 a=some (.tup [V.int (jM R shut (fam.getD m 0)),V.int ((fam.getD m 0:Nat):Int)]);rw[this];exact⟨p,X,L⟩
  ·have hm:∀m∈out,m<g.length:=λm hm=>cQf.mp (W.mem_iff.mp hm);have J:=yG hl (.lst (out.map λi=>g.getD i .non));refine⟨l,rfl,⟨_,SqL.of yB⟩,λr O=>?_⟩;have b9:out.length=g.length:=by rw[W.length_eq,cQt]
   have a7:∀m∈out,∃p,g.getD m .non= .ref p/\H1 p=some (.tup [.int (jM R shut (fam.getD m 0)),.int ((fam.getD m 0:Nat):Int)]):=λm u=>by
    have G:=hm m u;have hg:g[m]? =some (g.getD m .non):=by simp[cQu,bYG G]
    obtain⟨k,hk,p,X,L⟩:=bQG U hg;have:fam.getD m 0=k:=by simp[cQu,hk]
    rw[this];exact⟨p,X,L⟩
   refine aZu (λ_=>true) (bKx H1) (SqL.of yB) O (zn (by rw[bYL];omega)) (λv hv Z R' _ h=>h) (λv hv _ Z R' hH a0=>?_) ?_
   ·obtain⟨m,u,rfl⟩:=cQH.mp hv;obtain⟨p,X,L⟩:=a7 m u;rw[X]at a0 ⊢;have e4:=J _ _ L;have e5:=(hH p (yJ e4 O)).trans e4;rw[aVI L]at a0;exact⟨_,rfl,p,_,1,_,rfl,rfl,SqT.of e5,rfl,a0⟩
   ·have ff:(out.map λi=>g.getD i .non).filter (λ_=>true)=out.map λi=>g.getD i .non:=cZt.mpr λ_ _=>rfl;have e6:((out.map λi=>g.getD i .non).map (bKx H1))=(out.map λm=>fam.getD m 0).map λi=>V.int (i:Nat):=by
     rw[cX5,cX5];refine cJB λm u=>?_;obtain⟨p,X,L⟩:=a7 m u;show bKx H1 (g.getD m .non)=V.int (fam.getD m 0:Nat);rw[X];exact aVI L
    rw[ff,e6];refine q r _ (out.map λm=>fam.getD m 0) (o.trans (J.trans (yG O _))) ((o.trans J).fresh O) yB ⟨λk=>?_,?_⟩
    ·have b4:k∈out.map (λm=>fam.getD m 0)↔k∈fam:=by
      constructor
      ·intro h;obtain⟨m,u,rfl⟩:=cQH.mp h;have G:m<fam.length:=by rw[b0];exact hm m u
       simp[cQu,bYG G]
      ·intro h;obtain⟨m,G,e⟩:=cQy h;refine cQH.mpr ⟨m,W.mem_iff.mpr (cQf.mpr (by omega)),?_⟩;simp[cQu,bYG G,e]
     rw[b4,b1 k];unfold qU;rw[Bool.and_eq_true,Bool.or_eq_true,decide_eq_true_eq];refine and_congr Iff.rfl (and_congr Iff.rfl ?_);cases c<;> simp[jM]
    ·rw[cJc];exact b8
end
end Law
namespace Law
open PySem L2 PyProof.Rows
open Bk (Row Rows)
open Stree (qG u9 z9)
abbrev aXL:Stmt:=xC "_law_family"
def vB{a H:Hp}{c:Nat}{o:HO}(k:xA a H)(h:a c=none):xA a (upd H c o):=λb u q=>by rw[yI (yJ q h)];exact k b u q
def qD{H:Hp}{p:Nat}{c:List V}{o:HO}(h:H p=some (.lst c)):∀a b,H a=some (.tup b)->upd H p o a=some (.tup b):=λa b e=>by rw[yI (aQ1 e h (by intro z;cases z))];exact e
structure bZJ(H:Hp)(ra:Nat)(rs:List Nat)(n:Nat)(L:Nat->Option Nat)(D:Nat->Int):Prop where
 lst:H ra=some (.lst (rs.map V.ref))
 len:rs.length=n
 row:∀i b,rs[i]? =some b->∃xs,H b=some (.lst xs)/\xs[1]? =some (.int (D i))/\xs[4]? =some (wO (L i))
inductive jG(vs:List V)(H:Hp)(Q:VK)(_:XK):Prop|mk (ra:Nat) (rs:List Nat) (n:Nat) (L:Nat->Option Nat) (rk:Nat->Nat) (D:Nat->Int) (i:Nat) (_:vs= [.ref ra,.int (i:Nat)]) (_:bZJ H ra rs n L D) (_:Fm.Ok n L rk) (_:n<=60) (_:i<n) (_:∀ (H':Hp)(r:Nat)(out:List Nat),xA H H'->H r=none->H' r=some (.lst (out.map λi=>V.int (i:Nat)))->(out.Pairwise λx y=>u9 (Fm.rd L D rk x) (Fm.rd L D rk y)=true)->(∀k,k∈out↔k<n/\Fm.tp L rk k=Fm.tp L rk i)->Q (.ref r) H')
def Tk(H c:Hp):Prop:=∀a b,H a=some (.tup b)->c a=some (.tup b)
def xA.tk{H b:Hp}(k:xA H b):Tk H b:=λa c e=>k a _ e
def Tk.trans{H g f:Hp}(a:Tk H g)(b:Tk g f):Tk H f:=λc d e=>b c d (a c d e)
def qZ.tk{H d:Hp}(k:Tk H d){b:Nat}{a:qG}(h:qZ H b a):qZ d b a:=let ⟨xs,e,z⟩:=h;⟨xs,k _ _ e,Paired.mapP z λ_ _ ⟨c,w1,w2⟩=>⟨c,w1,k _ _ w2⟩⟩
def bKs(H:Hp)(rd:Nat->qG)(k:Nat)(x:V):Prop:=∃p b,x= .ref p/\H p=some (.tup [.ref b,.int (k:Nat)])/\qZ H b (rd k)
def bKs.tk{H d:Hp}{rd:Nat->qG}(t:Tk H d){k:Nat}{x:V}(h:bKs H rd k x):bKs d rd k x:=let ⟨p,b,e,a,c⟩:=h;⟨p,b,e,t _ _ a,qZ.tk t c⟩
def qR{α β:Type}{F:α->β->Prop}:∀ {l:List α} {m:List β} {i:Nat} {y:β},cQA F l m->m[i]? =some y->∃x,l[i]? =some x/\F x y
 |_,_,0,_,.cons r _,h=>by simp at h;subst h;exact⟨_,rfl,r⟩
 |_,_,i+1,_,.cons _ t,h=>by simpa using qR (i:=i) t (by simpa using h)
 |_,_,i,_,.nil,h=>by simp at h
def aQs{α β:Type}{F:α->β->Prop}{x:α}{y:β}(r:F x y):∀ {l:List α} {m:List β},cQA F l m->cQA F (l++ [x]) (m++ [y])
 |_,_,.nil=> .cons r .nil
 |_,_,.cons a t=> .cons a (aQs r t)
section
variable {K:bYI}
def aY8:yO ["_law_rows","_law_number","_law_root","_law_keys","_law_k","_law_key","_law_top"] ["_law_rows","_law_number"] (yH aXL):=scM
def aKX:xJ ["_law_rows","_law_number","_law_root","_law_keys","_law_k","_law_key","_law_top"] (yH aXL) "_law_pair" [] [] (lsN [(".0",.local),("_law_pair",.local)]):=
 lcM
def bKa(H:Hp):V->V
 |.ref p=>match H p with
  |some (.tup [_,y])=>y
  |_=> .non
 |_=> .non
def aVJ{H:Hp}{p:Nat}{x y:V}(h:H p=some (.tup [x,y])):bKa H (.ref p)=y:=by
 show(match H p with|some (.tup [_,y])=>y|_=>V.non)=y;rw[h]
def aYm(T:vD mg)(Z:mg "sorted"=none)(F:Fun K "_law_family" "_law_family" aXL f fd):xD P w K mg base CX0 2 f fd ["_law_rows","_law_number"] jG:=by
 have sc:=aY8;refine F.ok (k:=1) sc (λf3 A outer s H0 vs Q E hr h=>?_);obtain⟨U,rs,n,L,g,D,i,rfl,hR,ho,hn,hi,q⟩:=h;refine⟨_,(yC (yU (i:=2) (pv 1)) (yC (jD cQv (yM wC (yL yK (yL yK (pv 0) (pv 2)) yE) x2) (yF (yU (i:=2) (yL yK (yL yK (pv 0) (pv 2)) yE)))) (yC (yU (i:=3) (y6 yD)) (yC (zN cQv rfl (xX rfl T.b_range (yA (yT yN rfl T.b_len y9 (yA (pv 0) yD)) yD)) (xB (i:=4)) (yC (yU (i:=5) (xI (yA (xI (yA (yL yK (yL yK (pv 0) (pv 4)) yE) (yA (pv 4) yD))) yD))) (yC (yU (i:=6) (pv 4)) (yC (jD cQv (yM wC (yL yK (yL yK (pv 0) (pv 6)) yE) x2) (yC (yU (i:=6) (yL yK (yL yK (pv 0) (pv 6)) yE)) (yF (yU (i:=5) (yV bVc (xI (yA (xI (yA (yL yK (yL yK (pv 0) (pv 6)) yE) (yA (pv 6) yD))) yD)) (pv 5)))))) (yF (y0 (yM zB (pv 6) (pv 2)) (yF (yY (uF cQj cQo cQp xL (pv 3) (yA (xI (yA (pv 5) (yA (pv 4) yD))) yD)))) yS)))))) (yF (yP (W6 aKX rfl (xM (yT (W3 hr) rfl Z w6 (yA (pv 3) yD))) (λ_ _ _ _ _=>zV) (λ_ _ _ _ _=>(yL ixT (pv 0) yE))))))))),?_⟩;have row:∀ {H:Hp} {t:Nat},xA H0 H->t<n->∃b G,(rs.map V.ref)[t]? =some (.ref b)/\H b=some (.lst G)/\G[1]? =some (.int (D t))/\G[4]? =some (wO (L t)):=λ{H t} k ht=>by
  have d7:t<rs.length:=by rw[hR.len];exact ht
  have hb:=bYG d7;obtain⟨G,h1,h2,h3⟩:=hR.row t _ hb;exact⟨rs[t],G,by rw[bY1,hb];rfl,k _ _ h1,h2,h3⟩
 refine⟨_,rfl,?_⟩;dsimp only[yW];refine⟨λm σ H=>∃t:Nat,σ= [some (.ref U),some (.int (i:Nat)),some (.int (t:Nat)),none,none,none,none]/\H=H0/\t<n/\Fm.tp L g t=Fm.tp L g i/\m=g t,⟨g i,i,rfl,rfl,hi,rfl,rfl⟩,?_⟩;rintro m σ H ⟨t,rfl,rfl,ht,c1,rfl⟩;obtain⟨b,G,g1,g2,g3,g4⟩:=row (xA.refl H) ht;refine⟨_,rfl,_,rfl,U,_,_,_,rfl,rfl,SqL.of hR.lst,yR g1,b,G,4,_,rfl,rfl,SqL.of g2,yR (j:=4) g4,rfl,_,rfl,?_⟩;cases hl:L t with
 |some j=>obtain⟨hj,b2⟩:=ho.lt t j ht hl;refine onT rfl ⟨λσ' H'=>∃m',m'<g t/\∃t:Nat,σ'= [some (.ref U),some (.int (i:Nat)),some (.int (t:Nat)),none,none,none,none]/\H'=H/\t<n/\Fm.tp L g t=Fm.tp L g i/\m'=g t,λσ' H' z=>z,?_⟩;refine⟨_,rfl,_,rfl,U,_,_,_,rfl,rfl,SqL.of hR.lst,yR g1,b,G,4,_,rfl,rfl,SqL.of g2,yR (j:=4) g4,?_⟩;rw[hl];exact⟨g j,b2,j,rfl,rfl,hj,by rw[<- c1,Fm.v9 ho ht hl],rfl⟩
 |none=>
  have c8:t=Fm.tp L g i:=by rw[<- c1,Fm.zZ hl]
  subst c8;refine onF rfl ?_;refine⟨z0,λka b8=>?_⟩;dsimp only[yW];have k1:=yG b8 (.lst []);have c2:(rs.map V.ref).length=n:=by rw[bYL];exact hR.len
  refine⟨_,rfl,U,_,rfl,.inl (SqL.of (k1 _ _ hR.lst)),?_⟩;rw[c2];refine⟨_,rfl,by omega,by omega,?_⟩;rw[cQc];refine zM (λt σ H'=>∃ (d:List V)(o4 o5 o6:Option V),σ= [some (.ref U),some (.int (i:Nat)),some (.int (Fm.tp L g i:Nat)),some (.ref ka),o4,o5,o6]/\xA H H'/\H' ka=some (.lst d)/\
   cQA (bKs H' (Fm.rd L D g)) ((bYU t).filter λk=>decide (Fm.tp L g k=Fm.tp L g i)) d) ?_ ?_ ?_
  ·exact⟨[],none,none,none,rfl,k1,yB,.nil⟩
  ·rintro k σ M hk ⟨d,o4,o5,o6,rfl,B,I,hP⟩;rw[cXM];dsimp only[yW];obtain⟨b,G,g1,g2,g3,g4⟩:=row B hk;have d8:=B _ _ hR.lst;refine⟨_,rfl,_,rfl,U,_,_,_,rfl,rfl,SqL.of d8,yR g1,b,G,1,_,rfl,rfl,SqL.of g2,yR (j:=1) g3,_,rfl,z2,λp1 X=>⟨z1,λp2 b6=>?_⟩⟩;dsimp only[yW];have d1:=yG X (.tup [V.int (D k),V.int (k:Nat)]);have c7:=yG b6 (.tup [V.ref p1]);have Y:qZ (upd (upd M p1 (.tup [V.int (D k),V.int (k:Nat)])) p2 (.tup [V.ref p1])) p2 [(D k,(k:Int))]:=⟨[.ref p1],yB,.cons ⟨p1,rfl,c7 _ _ yB⟩ .nil⟩;have b9:xA M (upd (upd M p1 (.tup [V.int (D k),V.int (k:Nat)])) p2 (.tup [V.ref p1])):=d1.trans c7;generalize upd (upd M p1 (.tup [V.int (D k),V.int (k:Nat)])) p2 (.tup [V.ref p1])=H2 at Y b9 ⊢;refine⟨_,rfl,?_⟩;dsimp only[yW];refine⟨λm σ O=>∃ (o:Nat)(S:qG)(kb:Nat),σ= [some (.ref U),some (.int (i:Nat)),some (.int (Fm.tp L g i:Nat)),some (.ref ka),some (.int (k:Nat)),some (.ref kb),some (.int (o:Nat))]/\xA M O/\o<n/\
     qZ O kb ((D o,(o:Int))::S)/\Fm.rd L D g k=Fm.rd L D g o++S/\Fm.tp L g o=Fm.tp L g k/\m=g o,⟨g k,k,[],p2,rfl,b9,hk,Y,by rw[cQN],rfl,rfl⟩,?_⟩
   rintro m σ O ⟨o,S,kb,rfl,u,a8,a4,b7,c5,rfl⟩;have C:=B.trans u;obtain⟨b,G,g1,g2,g3,g4⟩:=row C a8;refine⟨_,rfl,_,rfl,U,_,_,_,rfl,rfl,SqL.of (C _ _ hR.lst),yR g1,b,G,4,_,rfl,rfl,SqL.of g2,yR (j:=4) g4,rfl,_,rfl,?_⟩;cases N:L o with
   |some j=>
    obtain⟨hj,b2⟩:=ho.lt o j a8 N;refine onT rfl ⟨λσ O=>∃m',m'<g o/\∃ (o:Nat)(S:qG)(kb:Nat),σ= [some (.ref U),some (.int (i:Nat)),some (.int (Fm.tp L g i:Nat)),some (.ref ka),some (.int (k:Nat)),some (.ref kb),some (.int (o:Nat))]/\xA M O/\o<n/\
     qZ O kb ((D o,(o:Int))::S)/\Fm.rd L D g k=Fm.rd L D g o++S/\Fm.tp L g o=Fm.tp L g k/\m'=g o,λσ' H' z=>z,?_⟩
    refine⟨_,rfl,_,rfl,U,_,_,_,rfl,rfl,SqL.of (C _ _ hR.lst),yR g1,b,G,4,_,rfl,rfl,SqL.of g2,yR (j:=4) g4,?_⟩;rw[N];dsimp only[yW,wO];obtain⟨b',e0,e7,e8,e9,f2⟩:=row C hj;refine⟨_,rfl,_,rfl,U,_,_,_,rfl,rfl,SqL.of (C _ _ hR.lst),yR e7,b',e0,1,_,rfl,rfl,SqL.of e8,yR (j:=1) e9,_,rfl,z2,λJ d4=>⟨z1,λq2 d5=>?_⟩⟩;have d0:=yG d4 (.tup [V.int (D j),V.int (j:Nat)]);have c0:=yG d5 (.tup [V.ref J]);have b4:xA O (upd (upd O J (.tup [V.int (D j),V.int (j:Nat)])) q2 (.tup [V.ref J])):=d0.trans c0;have e1:upd (upd O J (.tup [V.int (D j),V.int (j:Nat)])) q2 (.tup [V.ref J]) J=some (.tup [V.int (D j),V.int (j:Nat)]):=c0 _ _ yB;have W:upd (upd O J (.tup [V.int (D j),V.int (j:Nat)])) q2 (.tup [V.ref J]) q2=some (.tup [V.ref J]):=yB;generalize upd (upd O J (.tup [V.int (D j),V.int (j:Nat)])) q2 (.tup [V.ref J])=H4 at b4 e1 W ⊢;obtain⟨ys,y1,y2⟩:=qZ.tk (xA.tk b4) a4;have a9:ys.length=S.length+1:=by have:=y2.length;simpa using this.symm
    have c3:(Fm.rd L D g k).length<=n:=Fm.bWZ ho hk;rw[b7,bY5]at c3;have c9:ys≠ []:=λz=>by rw[z]at a9;simp at a9
    refine⟨_,rfl,q2,kb,_,ys,rfl,rfl,SqT.of W,SqT.of y1,by simp,by rw[cQg];show 1+ys.length<=_;omega,λz=>absurd z c9,λ_ q3 b5=>?_⟩;have y:=yG b5 (.tup ([V.ref J]++ys));refine⟨g j,b2,j,(D o,(o:Int))::S,q3,rfl,u.trans (b4.trans y),hj,⟨_,yB,.cons ⟨J,rfl,y _ _ e1⟩ (Paired.mapP y2 λ_ _ ⟨c,w1,w2⟩=>⟨c,w1,y _ _ w2⟩)⟩,?_,?_,rfl⟩
    ·rw[b7,Fm.v1 ho a8 N,cXd];rfl
    ·rw[<- c5,Fm.v9 ho a8 N]
   |none=>
    have b3:o=Fm.tp L g k:=by rw[<- c5,Fm.zZ N]
    have d9:Fm.rd L D g k=(D o,(o:Int))::S:=by rw[b7,Fm.X1 N];rfl
    refine onF rfl ?_;refine⟨_,rfl,_,rfl,rfl,_,rfl,?_⟩;rw[cXS,cQT];by_cases ec:Fm.tp L g k=Fm.tp L g i
    ·have hd:decide ((V.int (o:Nat))=V.int (Fm.tp L g i:Nat))=true:=by rw[b3,ec];simp
     refine onT (by rw[b3,ec];simp) ?_;have b1:=u _ _ I;refine⟨_,rfl,.inl ⟨rfl,_,SqL.of b1⟩,_,rfl,_,rfl,z2,λq3 b5=>?_⟩;have y:=yG b5 (.tup [V.ref kb,V.int (k:Nat)]);have b0:=y _ _ b1;have il:d.length<=k:=by have:=hP.length;rw[<- this];exact cQn (cQM _ _) (by simp)
     have t6:Tk (upd O q3 (.tup [V.ref kb,V.int (k:Nat)])) (upd (upd O q3 (.tup [V.ref kb,V.int (k:Nat)])) ka (.lst (d++ [V.ref q3]))):=λa G e=>qD b0 a G e;refine⟨ka,d,.ref q3,rfl,rfl,b0,zlt (by omega),d++ [.ref q3],_,_,_,rfl,vB (B.trans (u.trans y)) b8,yB,?_⟩;have e3: [k].filter (λk=>decide (Fm.tp L g k=Fm.tp L g i))= [k]:=by simp[ec]
     rw[e3];refine aQs ⟨q3,kb,rfl,t6 _ _ yB,?_⟩ (Paired.mapP hP λ_ _ z=>z.tk ((xA.tk (u.trans y)).trans t6));rw[d9];exact qZ.tk ((xA.tk y).trans t6) a4
    ·refine onF ?_ ⟨d,_,_,_,rfl,B.trans u,u _ _ I,?_⟩
     ·rw[b3];simp;omega
     ·have e3: [k].filter (λk=>decide (Fm.tp L g k=Fm.tp L g i))= []:=by simp[ec]
      rw[e3,cQN];exact Paired.mapP hP λ_ _ z=>z.tk (xA.tk u)
  ·rintro σ M ⟨d,o4,o5,o6,rfl,B,I,hP⟩;generalize a2:(bYU n).filter (λk=>decide (Fm.tp L g k=Fm.tp L g i))=fam at hP;have f1:fam.length=d.length:=hP.length;have fn:fam.length<=n:=by rw[<- a2];exact cQn (cQM _ _) (by simp)
   have a3:∀k,k∈fam↔k<n/\Fm.tp L g k=Fm.tp L g i:=λk=>by rw[<- a2,cQO,cQf,decide_eq_true_eq]
   have d2:fam.Nodup:=by rw[<- a2];exact cZS.sublist cXK
   have a0:∀m,m<d.length->fam.getD m 0∈fam:=λm hm=>by
    have d6:m<fam.length:=by omega
    simp[cQu,bYG d6]
   refine⟨_,rfl,ka,d,λm=>Fm.rd L D g (fam.getD m 0),λm=>((fam.getD m 0:Nat):Int),rfl,I,by omega,λa b ha hb e=>?_,λm x hx=>?_,λl out hl X b6=>?_⟩
   ·have W:=Fm.aYD ho ((a3 _).mp (a0 a ha)).1 ((a3 _).mp (a0 b hb)).1 e;have c6:a<fam.length:=by omega
    have c4:b<fam.length:=by omega
    simp[cQu,bYG c6,bYG c4]at W;exact(cXx (h₀:=c6) (h₁:=c4) d2).mp W
   ·obtain⟨k,hk,p,b,e1,W,e3⟩:=qR hP hx;have:fam.getD m 0=k:=by simp[cQu,hk]
    show ∃a b,x=V.ref a/\M a=some (.tup [V.ref b,V.int ((fam.getD m 0:Nat):Int)])/\qZ M b (Fm.rd L D g (fam.getD m 0));rw[this];exact⟨p,b,e1,W,e3⟩
   ·have hm:∀m∈out,m<d.length:=λm hm=>cQf.mp (X.mem_iff.mp hm);have k2:=yG hl (.lst (out.map λi=>d.getD i .non));refine⟨l,rfl,⟨_,SqL.of yB⟩,λr a7=>?_⟩;have f0:out.length=d.length:=by rw[X.length_eq,cQt]
    refine aZu (λ_=>true) (bKa M) (SqL.of yB) a7 (zn (by rw[bYL];omega)) ?_ ?_ ?_
    ·intro v hv H' R hH a6;exact a6
    ·intro v hv _ H' R hH a6;obtain⟨m,a5,rfl⟩:=cQH.mp hv;have a1:=hm m a5;have hg:d[m]? =some (d.getD m .non):=by simp[cQu,bYG a1]
     obtain⟨k,hk,p,b,e1,W,e3⟩:=qR hP hg;rw[e1]at a6 ⊢;have e4:=k2 _ _ W;have d3:p≠r:=yJ e4 a7;have e5:H' p=some (.tup [.ref b,.int (k:Nat)]):=by rw[hH p d3];exact e4
     refine⟨_,rfl,p,_,1,.int (k:Nat),rfl,rfl,SqT.of e5,rfl,?_⟩;have:bKa M (.ref p)= .int (k:Nat):=aVJ W;rw[this]at a6;exact a6
    ·have ff:(out.map λi=>d.getD i .non).filter (λ_=>true)=out.map λi=>d.getD i .non:=cZt.mpr λ_ _=>rfl;rw[ff,cX5];have e6:(out.map (bKa M∘λi=>d.getD i .non))=(out.map λm=>fam.getD m 0).map λi=>V.int (i:Nat):=by
      rw[cX5];refine cJB λm a5=>?_;have a1:=hm m a5;have hg:d[m]? =some (d.getD m .non):=by simp[cQu,bYG a1]
      obtain⟨k,hk,p,b,e1,W,e3⟩:=qR hP hg;show bKa M (d.getD m .non)=V.int (fam.getD m 0:Nat);have:fam.getD m 0=k:=by simp[cQu,hk]
      rw[e1,this];exact aVJ W
     rw[e6];refine q _ r (out.map λm=>fam.getD m 0) (B.trans (k2.trans (yG a7 _))) ((B.trans k2).fresh a7) yB ?_ λk=>?_
     ·rw[cJc];exact b6
     ·rw[<- a3 k];constructor
      ·intro h;obtain⟨m,a5,rfl⟩:=cQH.mp h;exact a0 m (hm m a5)
      ·intro h;obtain⟨m,a1,e⟩:=cQy h;refine cQH.mpr ⟨m,X.mem_iff.mpr (cQf.mpr (by omega)),?_⟩;simp[cQu,bYG a1,e]
end
def y8.rows{H:Hp}{c:Nat}{d:List Nat}{R:Rows}(h:y8 H c d R):bZJ H c d R.length (Bk.lk R) (Bk.dt R):=
 ⟨h.lst,h.len,λi b e=>by
  have f:i<R.length:=by rw[<- h.len];exact(bYS.mp e).1
  have a:=bYG f;obtain⟨k,g,j⟩:=h.row i b _ e a;exact⟨_,g,by rw[Bk.vE a];rfl,by rw[Bk.vS a];rfl⟩⟩
end Law
namespace Law
open PySem L2 PyProof.Rows
open Bk (Row Rows)
def uC(r:Row)(a:Nat):List V:= [.str r.way,.int r.date,.str r.partner,.int r.term,wO r.link,.str r.place,.bl r.void,.ref a]
def jX{r:Row}{a:Nat}{l:List Str}:HO.lst (uC r a)≠HO.lst (l.map V.str):=λz=>by
 injection z with z
 match l,z with
 |[],z=>cases z
 |[_],z=>injection z with _ z;cases z
 |_::_::_,z=>injection z with _ z;injection z with z _;cases z
def aQw{r:Row}{a:Nat}{l:List Nat}:HO.lst (uC r a)≠HO.lst (l.map V.ref):=λz=>by
 injection z with z
 match l,z with
 |[],z=>cases z
 |_::_,z=>injection z with z _;cases z
def y8.upd{H:Hp}{m:Nat}{p:List Nat}{R:Rows}{k:Nat}{b:Nat}{r:Row}(h:y8 H m p R)(s:p[k]? =some b)(v:R[k]? =some r)(f:Row->Row){l:Nat}(a:H l=some (.lst ((f r).copies.map V.str))):y8 (upd H b (.lst (uC (f r) l))) m p (Bk.xN R k f):=by
 obtain⟨A,j,_⟩:=h.row k b r s v;have o:m≠b:=aQ1 h.lst j (cQr aQw);refine⟨by rw[yI o];exact h.lst,by rw[Bk.zC];exact h.len,h.nd,λi c q g d=>?_⟩;rw[Bk.zH]at d;by_cases e:i=k
 ·subst e;rw[s]at g;cases g;rw[if_pos rfl,v]at d;cases d;exact⟨l,yB,by rw[yI (aQ1 a j (cQr jX))];exact a⟩
 ·rw[if_neg e]at d;obtain⟨y,x,u⟩:=h.row i c q g d;have n:c≠b:=λz=>by
   have t:=bYS.mp g;have w:=bYS.mp s;exact e ((cXx (h₀:=t.1) (h₁:=w.1) h.nd).mp (by rw[t.2,w.2];exact z))
  exact⟨y,by rw[yI n];exact x,by rw[yI (aQ1 u j (cQr jX))];exact u⟩
def NoC(a:List Nat)(H:Hp)(s:Nat):Prop:=∀b∈a,∀l,H b=some (.lst l)->l[7]? ≠some (.ref s)
def But(a:List Nat)(H c:Hp):Prop:=(∀b o,b∉a->H b=some o->c b=some o)/\(∀b∈a,∃o,c b=some o)/\∀s u,H s=some u->NoC a H s->NoC a c s
def y8.dom{H:Hp}{f:Nat}{c:List Nat}{R:Rows}(h:y8 H f c R):∀b∈c,∃o,H b=some o:=λb j=>by
 obtain⟨i,a,e⟩:=cQy j;have d:=bYG (show i<R.length by rw[<- h.len];exact a);obtain⟨k,g,_⟩:=h.row i b _ (by rw[bYG a,e]) d;exact⟨_,g⟩
def But.of{f:List Nat}{H g:Hp}(c:∀b∈f,∃o,H b=some o)(k:xA H g):But f H g:=⟨λb o _ e=>k b o e,λb a=>let ⟨o,e⟩:=c b a;⟨o,k _ _ e⟩,λs u e n b a l h=>by
 obtain⟨o,d⟩:=c b a;have:=k _ _ d;rw[h]at this;cases this;exact n b a l d⟩
def But.trans{d:List Nat}{H h f:Hp}(a:But d H h)(b:But d h f):But d H f:=⟨λc o n e=>b.1 c o n (a.1 c o n e),b.2.1,λs u e n=>by
 by_cases g:s∈d
 ·obtain⟨o,i⟩:=a.2.1 s g;exact b.2.2 s o i (a.2.2 s u e n)
 ·exact b.2.2 s u (a.1 s u g e) (a.2.2 s u e n)⟩
def But.upd{d:List Nat}{H:Hp}{k:Nat}{b:Nat}{l l':List V}(g:∀b∈d,∃o,H b=some o)(h:d[k]? =some b)(hl:H b=some (.lst l))(f:l'[7]? =l[7]?):But d H (upd H b (.lst l')):=
 ⟨λc u n e=>by rw[yI (λz=>n (by rw[z];exact bY0 h))];exact e,λc a=>by
  by_cases z:c=b
  ·rw[z];exact⟨_,yB⟩
  ·rw[yI z];exact g c a,λs u e n c a x ex=>by
  by_cases z:c=b
  ·subst z;rw[yB]at ex;cases ex;rw[f];exact n c a l hl
  ·rw[yI z]at ex;exact n c a x ex⟩
abbrev bVu:Stmt:=xC "_law_lost"
inductive bJc(vs:List V)(H:Hp)(Q:VK)(_:XK):Prop|mk (ra:Nat) (rs:List Nat) (R:Rows) (k:Nat) (r:Row) (_:vs= [.ref ra,.int (k:Nat)]) (_:y8 H ra rs R) (_:R.length<=100) (_:R[k]? =some r) (_:∀ (H':Hp)(a:Str)(R':Rows),But rs H H'->y8 H' ra rs R'->((Bk.zS R k≠ []/\a="answered"/\R'=R)\/(Bk.zS R k= []/\a="void"/\R'=Bk.xN R k λr=>{r with link:=none,void:=true}))->Q (.str a) H')
section
variable {K:bYI}
def bVJ:yO ["_law_rows","_law_number","_law_one"] ["_law_rows","_law_number"] (yH bVu):=scM
def bJ2(a:FnG P w K mg base 1 "_law_kids_of" ["_law_rows","_law_number"] aVQ)(F:Fun K "_law_lost" "_law_lost" bVu f fd):xD P w K mg base CX0 2 f fd ["_law_rows","_law_number"] bJc:=by
 have z:=bVJ;refine F.ok (k:=1) z (λC A outer s H J Q E p h=>?_);obtain⟨v,G,R,k,r,rfl,d,hR,x,q⟩:=h;refine⟨_,(yC (yU (i:=2) (yL yK (pv 0) (pv 1))) (yC (y0 (yM (jC p.units0) (xK a p rfl (yA (pv 0) (yA (pv 1) yD))) (y6 yD)) (yF (yP yQ)) yS) (yC (uB x2 (qS (pv 2) yE zX)) (yC (uB wP (qS (pv 2) yE zX)) (yF (yP yQ)))))),?_⟩;obtain⟨b,B,o,L,I,D⟩:=d.get x;refine⟨_,rfl,_,rfl,v,_,_,_,rfl,rfl,SqL.of d.lst,yR B,?_⟩;dsimp only[yW];refine⟨_,rfl,_,rfl,v,G,R,k,rfl,d,hR,λt m=>⟨z0,λpn n=>?_⟩⟩;have y:=yG m (.lst ((Bk.zS R k).map λi=>V.int (i:Nat)));have u:=yG n (.lst []);refine⟨t,pn,_,rfl,rfl,SqL.of (u _ _ yB),SqL.of yB,_,rfl,?_⟩;have kA:=y.trans u;generalize upd (upd H t (.lst ((Bk.zS R k).map λi=>V.int (i:Nat)))) pn (.lst [])=H2 at kA ⊢;have c:=d.same kA;cases g:Bk.zS R k with
 |cons j l=>exact onT rfl (q H2 _ R (But.of d.dom kA) c (.inl ⟨by rw[g];simp,rfl,rfl⟩))
 |nil=>refine onF rfl ?_;have e:=kA _ _ I;refine⟨_,rfl,b,_,4,4,rfl,rfl,e,rfl,?_⟩;refine⟨_,rfl,b,_,6,6,rfl,rfl,yB,rfl,?_⟩;rw[uT];exact q _ _ _ ((But.of d.dom kA).trans (But.upd c.dom o e rfl)) (c.upd o x (λr=>{r with link:=none,void:=true}) (kA _ _ D)) (.inr ⟨g,rfl,rfl⟩)
end
end Law
namespace Law
open PySem L2 PyProof.Rows
open Bk (Row Rows)
abbrev aYJ:Stmt:=xC "_law_dated"
def aKo(R:Rows)(k:Nat)(r:Row)(d:Int):Prop:=(∃j,r.link=some j/\d<Bk.dt R j)\/∃c∈Bk.zS R k,Bk.dt R c<d
inductive bQl(vs:List V)(H:Hp)(Q:VK)(_:XK):Prop|mk (ra:Nat) (rs:List Nat) (R:Rows) (k:Nat) (r:Row) (d:Int) (_:vs= [.ref ra,.int (k:Nat),.int d]) (_:y8 H ra rs R) (_:R.length<=100) (_:R[k]? =some r) (_:(∀j,r.link=some j->j<R.length)) (_:∀ (H':Hp)(a:Str)(R':Rows),But rs H H'->y8 H' ra rs R'->((aKo R k r d/\a="too early"/\R'=R)\/(¬aKo R k r d/\a="dated"/\R'=Bk.xN R k λr=>{r with date:=d}))->Q (.str a) H')
section
variable {K:bYI}
def bX3:yO ["_law_rows","_law_number","_law_date","_law_one","_law_k"] ["_law_rows","_law_number","_law_date"] (yH aYJ):=scM
def bXs(g:FnG P w K mg base 1 "_law_kids_of" ["_law_rows","_law_number"] aVQ)(F:Fun K "_law_dated" "_law_dated" aYJ f fd):xD P w K mg base CX0 2 f fd ["_law_rows","_law_number","_law_date"] bQl:=by
 have sc:=bX3;refine F.ok (k:=1) sc (λa0 A outer s H vs Q E hr h=>?_);obtain⟨z,rs,R,k,r,d,rfl,n,hR,hk,U,q⟩:=h;refine⟨_,(yC (yU (i:=3) (yL yK (pv 0) (pv 1))) (yC (y0 (PW.pt (vM (yM wC (yL yK (pv 3) yE) x2) (wQ (yM vF (pv 2) (yL yK (yL yK (pv 0) (yL yK (pv 3) yE)) yE))))) (yF (yP yQ)) yS) (yC (zN cQv rfl (xM (xK g hr rfl (yA (pv 0) (yA (pv 1) yD)))) (xB (i:=4)) (yF (y0 (yM vF (yL yK (yL yK (pv 0) (pv 4)) yE) (pv 2)) (yF (yP yQ)) yS))) (yC (uB (pv 2) (qS (pv 3) yE zX)) (yF (yP yQ)))))),?_⟩;obtain⟨b,g1,g2,cp,Z,g4⟩:=n.get hk;refine⟨_,rfl,_,rfl,z,_,_,_,rfl,rfl,SqL.of n.lst,yR g1,?_⟩;dsimp only[yW];refine zE (λJ S=>J= [some (.ref z),some (.int (k:Nat)),some (.int d),some (.ref b),none]/\S=H/\∀j,r.link=some j->Bk.dt R j<=d) ?jW (λp=>?_);case jW=>
  rintro J S ⟨rfl,rfl,h1⟩;refine⟨_,rfl,_,rfl,z,rs,R,k,rfl,n,hR,λL X=>⟨L,rfl,⟨_,SqL.of yB⟩,?_⟩⟩;have kA:=yG X (.lst ((Bk.zS R k).map λi=>V.int (i:Nat)));have o:upd S L (.lst ((Bk.zS R k).map λi=>V.int (i:Nat))) L=some (.lst ((Bk.zS R k).map λi=>V.int (i:Nat))):=yB;generalize upd S L (.lst ((Bk.zS R k).map λi=>V.int (i:Nat)))=H2 at kA o ⊢;have m:=n.same kA;refine zO (xs:=(Bk.zS R k).map λi=>V.int (i:Nat)) (λt σ O=>∃N,σ= [some (.ref z),some (.int (k:Nat)),some (.int d),some (.ref b),N]/\O=H2/\∀u j,u<t->(Bk.zS R k)[u]? =some j->d<=Bk.dt R j) ?_ ?_ ?_ ?_
  ·exact⟨_,rfl,rfl,λu j G=>absurd G (cXu _)⟩
  ·rintro t σ O _ ⟨N,rfl,rfl,_⟩;exact SqL.of o
  ·rintro t x σ O D ⟨N,rfl,rfl,l⟩;rw[bY1]at D;cases M:(Bk.zS R k)[t]? with
   |none=>rw[M]at D;cases D
   |some j=>
    rw[M]at D;cases D;have C:=bY0 M;have v:j<R.length:=cQf.mp (cQO.mp C).1;have a:=bYG v;obtain⟨T,W,j2,cj,Y,j4⟩:=m.get a;dsimp only[yW];refine⟨_,rfl,_,rfl,z,_,_,_,rfl,rfl,SqL.of m.lst,yR W,T,_,1,_,rfl,rfl,SqL.of Y,rfl,_,rfl,_,_,rfl,rfl,_,rfl,?_⟩;cases I:decide (R[j].date<d)with
    |true=>exact onT rfl (q _ _ R (But.of n.dom kA) m (.inl ⟨.inr ⟨j,C,by rw[Bk.vE a];exact of_decide_eq_true I⟩,rfl,rfl⟩))
    |false=>
     refine onF rfl ⟨_,rfl,rfl,λu i G y=>?_⟩;by_cases e:u=t
     ·subst e;rw[M]at y;cases y;rw[Bk.vE a];have:=of_decide_eq_false I;omega
     ·exact l u i (by omega) y
  ·rintro σ O ⟨N,rfl,rfl,l⟩;rw[bYL]at l;have B:=kA _ _ Z;refine⟨_,rfl,_,rfl,b,_,1,1,rfl,rfl,B,rfl,?_⟩;refine q _ _ _ ((But.of n.dom kA).trans (But.upd m.dom g2 B rfl)) (m.upd g2 hk (λr=>{r with date:=d}) (kA _ _ g4)) (.inr ⟨?_,rfl,rfl⟩);rintro(⟨j,e1,e2⟩|⟨c,hc,e2⟩)
   ·have:=h1 j e1;omega
   ·obtain⟨u,G,e⟩:=cQy hc;have:=l u c G (by rw[bYG G,e]);omega
 refine⟨_,rfl,b,_,4,_,rfl,rfl,SqL.of Z,rfl,rfl,_,rfl,?_⟩;cases hl:r.link with
 |none=>exact onF rfl (onF rfl (p _ _ ⟨rfl,rfl,λj hj=>by rw[hl]at hj;cases hj⟩))
 |some j=>
  have v:=U j hl;have a:=bYG v;obtain⟨T,W,j2,cj,Y,j4⟩:=n.get a;refine onT rfl ⟨_,rfl,_,rfl,_,rfl,b,_,4,_,rfl,rfl,SqL.of Z,rfl,?_⟩;rw[hl];refine⟨z,_,_,_,rfl,rfl,SqL.of n.lst,yR W,T,_,1,_,rfl,rfl,SqL.of Y,rfl,_,_,rfl,rfl,_,rfl,?_⟩;cases I:decide (d<R[j].date)with
  |true=>exact onT rfl (q _ _ R (But.of n.dom (xA.refl _)) n (.inl ⟨.inl ⟨j,hl,by rw[Bk.vE a];exact of_decide_eq_true I⟩,rfl,rfl⟩))
  |false=>exact onF rfl (p _ _ ⟨rfl,rfl,λi y=>by rw[hl]at y;cases y;rw[Bk.vE a];have:=of_decide_eq_false I;omega⟩)
end
end Law
namespace Law
open PySem L2 PyProof.Rows
open Bk (Row Rows xV xS Ans)
abbrev bVs:Stmt:=xC "_law_hung"
inductive bJb(vs:List V)(H:Hp)(Q:VK)(_:XK):Prop|mk (ra:Nat) (rs:List Nat) (R:Rows) (m o:Int) (_:vs= [.ref ra,.int m,.int o]) (_:y8 H ra rs R) (_:R.length<=60) (_:Bk.uV R) (_:∀ (H':Hp)(a:Str)(R':Rows),But rs H H'->y8 H' ra rs R'->(∀S,xV R S (.hang m o) (.txt a) R' S)->Q (.str a) H')
def aQv{r:Row}{b:Nat}{l:List Nat}:HO.lst (uC r b)≠HO.lst (l.map λi=>V.int (i:Nat)):=λz=>by
 injection z with z
 cases l with
 |nil=>cases z
 |cons a l=>cases z
def aQh(R:Rows)(l:List Nat)(k:Nat)(name:Str):Bk.laid R (l++ [k]) name=Bk.xN (Bk.laid R l name) k λr=>{r with place:=name}:=by
 unfold Bk.laid;rw[cJT];rfl
def wW{a b:Str}:decide (V.str a=V.str b)=decide (a=b):=by rw[Bool.eq_iff_iff];simp
def aWf{a b:Nat}:decide (V.int (a:Nat)=V.int (b:Nat))=decide (a=b):=by rw[Bool.eq_iff_iff];simp;omega
section
variable {K:bYI}
def aVn{K:bYI}{H:Hp}{n l:Nat}{d:List Nat}{R:Rows}{a:List Nat}{name:Str}{t:Nat}{k:Nat}(g:y8 H n d (Bk.laid R (a.take t) name))(p:a[t]? =some k)(f:k<R.length)(hl:H l=some (.lst (a.map λi=>V.int (i:Nat)))): ∃ (b c:Nat)(r:Row),(d.map V.ref)[k]? =some (.ref b)/\H b=some (.lst (uC r c))/\y8 (upd H b (.lst (uC {r with place:=name} c))) n d (Bk.laid R (a.take (t+1)) name)/\But d H (upd H b (.lst (uC {r with place:=name} c)))/\upd H b (.lst (uC {r with place:=name} c)) l=some (.lst (a.map λi=>V.int (i:Nat)))/\b∈d:=by
 have h:k<(Bk.laid R (a.take t) name).length:=by rw[Bk.zT];exact f
 have m:=bYG h;obtain⟨b,o,e,c,j,q⟩:=g.get m;refine⟨b,c,_,o,j,?_,But.upd g.dom e j rfl,?_,bY0 e⟩
 ·rw[show a.take (t+1)=a.take t++ [k]from by rw[cQP,p];rfl,aQh];exact g.upd e m (λr=>{r with place:=name}) q
 ·rw[yI (aQ1 hl j (cQr aQv))];exact hl
def bVH:yO ["_law_rows","_law_number","_law_goal","_law_one","_law_other","_law_k","_law_row"] ["_law_rows","_law_number","_law_goal"] (yH bVs):=scM
def bJ0(y:FnG P w K mg base 2 "_law_good" ["_law_rows","_law_number"] Z9)(a:FnG P w K mg base 2 "_law_family" ["_law_rows","_law_number"] jG)(F:Fun K "_law_hung" "_law_hung" bVs f fd):xD P w K mg base CX0 3 f fd ["_law_rows","_law_number","_law_goal"] bJb:=by
 have sc:=bVH;refine F.ok (k:=2) sc (λb8 A outer s H vs Q E hr h=>?_);obtain⟨I,M,R,m,o,rfl,C,hR,hT,q⟩:=h;refine⟨_,(yC (y0 (PW.pt (vG (wA (xQ (xK y hr rfl (yA (pv 0) (yA (pv 1) yD))))) (wM (wA (xQ (xK y hr rfl (yA (pv 0) (yA (pv 2) yD)))))))) (yF (yP yQ)) yS) (yC (yU (i:=3) (yL yK (pv 0) (pv 1))) (yC (yU (i:=4) (yL yK (pv 0) (pv 2))) (yC (y0 (yM wC (yL yK (pv 3) yE) x2) (yF (yP yQ)) yS) (yC (y0 (yM zB (yL yK (xK a hr rfl (yA (pv 0) (yA (pv 2) yD))) yE) (pv 1)) (yF (yP yQ)) yS) (yC (y0 (yM zB (yL yK (pv 3) yE) (yL yK (pv 4) yE)) (yF (yP yQ)) yS) (yC (y0 (yM Y8 (yL yK (pv 3) yE) (yL yK (pv 4) yE)) (yF (yP yQ)) yS) (yC (y0 (yM vF (yL yK (pv 3) yE) (yL yK (pv 4) yE)) (yF (yP yQ)) yS) (yC (zN cQv rfl (xM (xK a hr rfl (yA (pv 0) (yA (pv 1) yD)))) (xB (i:=5)) (yC (yU (i:=6) (yL yK (pv 0) (pv 5))) (yF (uB (yL yK (pv 4) yE) (qS (pv 6) yE zX))))) (yC (uB (pv 2) (qS (pv 3) yE zX)) (yF (yP yQ)))))))))))),?_⟩;have v:But M H H:=But.of C.dom (xA.refl _);refine⟨_,rfl,_,rfl,I,M,R,m,rfl,C,_,rfl,?_⟩;cases h1:Bk.wN R m with
 |false=>exact onT rfl (onT rfl (q H _ R v C λS=> .hangN (.inl h1)))
 |true=>
 refine onF rfl ⟨_,rfl,_,rfl,I,M,R,o,rfl,C,_,rfl,?_⟩;cases h2:Bk.wN R o with
 |false=>exact onT rfl (q H _ R v C λS=> .hangN (.inr h2))
 |true=>
 obtain⟨i,r,rfl,J,L,hv⟩:=Bk.wF h1;obtain⟨j,p,rfl,D,N,hw⟩:=Bk.wF h2;obtain⟨b,g1,g2,cp,g3,g4⟩:=C.get L;obtain⟨Z,f1,f2,b5,f3,f4⟩:=C.get N;refine onF rfl ⟨_,rfl,_,rfl,I,_,_,_,rfl,rfl,SqL.of C.lst,yR g1,?_⟩;dsimp only[yW];refine⟨_,rfl,_,rfl,I,_,_,_,rfl,rfl,SqL.of C.lst,yR f1,?_⟩;dsimp only[yW];refine⟨_,rfl,b,_,4,_,rfl,rfl,SqL.of g3,rfl,rfl,_,rfl,?_⟩;cases g:r.link with
 |some x=>exact onT rfl (q H _ R v C λS=> .hangH L hv N hw (by rw[g];simp))
 |none=>
 obtain⟨rk,ok⟩:=hT;have hT:Bk.uV R:=⟨rk,ok⟩;refine onF rfl ⟨_,rfl,_,rfl,I,M,R.length,Bk.lk R,rk,Bk.dt R,j,rfl,C.rows,ok,hR,D,λH1 l out k1 nl hl hp hm=>?_⟩;have et:=Bk.aXl D ⟨rk,ok,hp,hm⟩;subst et;obtain⟨_,_,b0⟩:=Bk.jJ hT D;obtain⟨hd,O⟩:∃hd,(Bk.thr R j).head? =some hd:=⟨_,b0⟩;have e0:(((Bk.thr R j).map λi=>V.int (i:Nat)))[0]? =some (.int (hd:Nat)):=by rw[bY1,<- List.head?_eq_getElem?,O];rfl
 have n:=C.same k1;have W:=k1 _ _ g3;have U:=k1 _ _ f3;have u:But M H H1:=But.of C.dom k1;refine⟨l,_,0,_,rfl,rfl,SqL.of hl,yR e0,_,rfl,rfl,_,rfl,?_⟩;rw[aWf];refine qF (λc=>?_) (λc=>?_)
 ·have e:hd=i:=of_decide_eq_true c;exact q H1 _ R u n λS=> .hangO L hv N hw g (by rw[O,e])
 have B:(Bk.thr R j).head? ≠some i:=λz=>c (decide_eq_true (by rw[O]at z;exact bY3 z));refine⟨_,rfl,b,_,0,_,rfl,rfl,SqL.of W,rfl,_,rfl,Z,_,0,_,rfl,rfl,SqL.of U,rfl,rfl,_,rfl,?_⟩;rw[wW];refine qF (λc1=>?_) (λc1=>?_)
 ·exact q H1 _ R u n λS=> .hangW L hv N hw g B (of_decide_eq_true c1)
 have h3:=of_decide_eq_false (Bool.eq_false_iff.mpr c1);refine⟨_,rfl,b,_,2,_,rfl,rfl,SqL.of W,rfl,_,rfl,Z,_,2,_,rfl,rfl,SqL.of U,rfl,rfl,_,rfl,?_⟩;rw[wW];cases a2:decide (r.partner=p.partner)with
 |false=>exact onT rfl (q H1 _ R u n λS=> .hangP L hv N hw g B h3 (of_decide_eq_false a2))
 |true=>
 have h4:=of_decide_eq_true a2;refine onF rfl ⟨_,rfl,b,_,1,_,rfl,rfl,SqL.of W,rfl,_,rfl,Z,_,1,_,rfl,rfl,SqL.of U,rfl,_,_,rfl,rfl,_,rfl,?_⟩;refine qF (λc2=>?_) (λc2=>?_)
 ·exact q H1 _ R u n λS=> .hangE L hv N hw g B h3 h4 (of_decide_eq_true c2)
 have h5:p.date<=r.date:=by have:=of_decide_eq_false (Bool.eq_false_iff.mpr c2);omega
 refine⟨_,rfl,_,rfl,I,M,R.length,Bk.lk R,rk,Bk.dt R,i,rfl,n.rows,ok,hR,J,λH2 l2 b4 k2 b6 a1 a6 T=>⟨l2,rfl,⟨_,SqL.of a1⟩,?_⟩⟩;have b1:=Bk.aXl J ⟨rk,ok,a6,T⟩;subst b1;have b9:i≠j:=λz=>by subst z;have Y:=Bk.jJ hT J;obtain⟨a8,o2,X⟩:=Y;rw[Fm.zZ (by rw[Bk.vS L];exact g)]at X;exact B X
 have a5:j∉Bk.thr R i:=λz=>by have Y:=(T j).mp z;rw[Fm.zZ (i:=i) (by rw[Bk.vS L];exact g)]at Y;obtain⟨a8,o2,X⟩:=Bk.jJ hT D;rw[Fm.qC o2 ok D,Y.2]at X;exact B X
 refine zO (xs:=(Bk.thr R i).map λi=>V.int (i:Nat)) (λt σ H3=>∃o5 o6:Option V,σ= [some (.ref I),some (.int (i:Nat)),some (.int (j:Nat)),some (.ref b),some (.ref Z),o5,o6]/\y8 H3 I M (Bk.laid R ((Bk.thr R i).take t) p.place)/\But M H2 H3/\H3 l2=some (.lst ((Bk.thr R i).map λi=>V.int (i:Nat)))) ?_ ?_ ?_ ?_
 ·exact⟨none,none,rfl,n.same k2,But.of (n.same k2).dom (xA.refl _),a1⟩
 ·rintro t σ H3 ht ⟨o5,o6,rfl,d,k3,G⟩;exact SqL.of G
 ·rintro t x σ H3 hx ⟨o5,o6,rfl,d,k3,G⟩;rw[bY1]at hx;cases hc:(Bk.thr R i)[t]? with
  |none=>rw[hc]at hx;cases hx
  |some k=>
   rw[hc]at hx;cases hx;have a7:k<R.length:=((T k).mp (bY0 hc)).1;obtain⟨bk,ck,b7,Y,X,e3,e4,e5,e6⟩:=aVn (K:=K) d hc a7 G;have a3:(Bk.laid R ((Bk.thr R i).take t) p.place)[j]? =some p:=by rw[Bk.vZ,if_neg (λz=>a5 (List.mem_of_mem_take z))];exact N
   obtain⟨a4,d1,d2,b3,d3,d4⟩:=d.get a3;obtain rfl:Z=a4:=bY3 (f2.symm.trans d2);dsimp only[yW];refine⟨_,rfl,_,rfl,I,_,_,_,rfl,rfl,SqL.of d.lst,yR Y,?_⟩;dsimp only[yW];exact⟨_,rfl,Z,_,5,_,rfl,rfl,SqL.of d3,rfl,_,rfl,bk,_,5,5,rfl,rfl,X,rfl,_,_,rfl,e3,k3.trans e4,e5⟩
 ·rintro σ H3 ⟨o5,o6,rfl,d,k3,G⟩;rw[bYL,cQI]at d;have a9:i<(Bk.laid R (Bk.thr R i) p.place).length:=by rw[Bk.zT];exact J
  have a0:=bYG a9;obtain⟨b',d1,d2,b3,d3,d4⟩:=d.get a0;obtain rfl:b=b':=bY3 (g2.symm.trans d2);refine⟨_,rfl,_,rfl,b,_,4,4,rfl,rfl,d3,rfl,?_⟩;refine q _ _ _ ((u.trans ((But.of n.dom k2).trans k3)).trans (But.upd d.dom d2 d3 rfl)) (d.upd d2 a0 (λr=>{r with link:=some j}) d4) λS=> .hang L hv N hw g B h3 h4 h5
end
end Law
namespace L2
open PySem
def tbV:Option Nat->bYH
 |none=> .none
 |some T=> .ref T
structure qW(h:Heap)(e:Nat)(cls:bYH)(dx:Option Nat)(tb:Option Nat):Prop where
 obj:∃oe vs,h.get? e=some oe/\oe.cls=cls/\oe.dict=dx/\oe.data= .fields vs/\vs[1]? =some (tbV tb)
 ent:∀T,tb=some T->T≠e/\∃oT ts,h.get? T=some oT/\oT.data= .fields ts/\ts[3]? =some .none
def qW.keeps{h h':Heap}{e:Nat}{cls:bYH}{dx tb:Option Nat}(x:qW h e cls dx tb)(k:∀b o,(b=e\/tb=some b)->h.get? b=some o->h'.get? b=some o):qW h' e cls dx tb:=by
 obtain⟨c,j,g,n,p,f,m⟩:=x.obj;refine⟨⟨c,j,k e c (.inl rfl) g,n,p,f,m⟩,λT a=>?_⟩;obtain⟨ne,d,q,l,i,r⟩:=x.ent T a;exact⟨ne,d,q,k T d (.inr a) l,i,r⟩
structure bKE(fs:List Nat)(e:Nat)(tb:Option Nat)(h h':Heap):Prop where
 keep:∀b o,b≠e->tb≠some b->b∉fs->h.get? b=some o->h'.get? b=some o
 slot:∀b o,b≠e->tb≠some b->h.get? b=some o->∃sl,h'.get? b=some {o with slots:=sl}
 there:∀b o,h.get? b=some o->∃o',h'.get? b=some o'
def aQ0(f:Array bYH->Array bYH)(o:Obj):(o.mapFields f).dict=o.dict:=by
 obtain⟨c,d,dt,a⟩:=o;cases dt<;> rfl
section
variable {M:Model}{A:cQl}{E:bYH->bYK->Prop}{s:bYK}{base:Heap}{env:Env}{outer:List Env}{L e:Nat}{cls:bYH}{dx tb:Option Nat}
def aK9{b:Obj}{vs:Array bYH}(hl:s.heap.FunFrames base (env::outer))(d:s.heap.get? e=some b)(c:b.data= .fields vs):e∉(env::outer).filterMap (·.frame):=λg=>by
 obtain⟨_,o,a,f⟩:=hl.mem g;rw[d]at a;cases a;exact f vs c
def aZe{head:bYH}{t:Bool}{Q:Unit->bYK->Prop}{i:Obj}{vs:Array bYH}(m:A.frames=some (env::outer))(hl:s.heap.FunFrames base (env::outer))(J:env.frame=some L)
  (D:s.heap.get? e=some i) (u:i.data= .fields vs) (hz:1<vs.size)
  (h:∀v T,qW v e i.cls i.dict (some T)->s.heap.objs.size<=T->bKE ((env::outer).filterMap (·.frame)) e none s.heap v->Q () {s with heap:=v}):
  bYP M A (do let fr <- frameOf env;let place <- entryPlaceOf L t;let en <- EntryCells.newEntry head fr .none (cQY L) .none place;setField (.ref e) 1 en) (λ_ H=>bYP M A (cZQ (.ref e) none) Q E H) E s:=by
 have w:=aK9 hl D u
 refine bYJ (wpAny_frameOf_fun m hl J λa d=>?_)
 refine bYJ (wpAny_entryPlaceOf λplace I=>?_)
 unfold EntryCells.newEntry newFields
 refine bYJ (cXH ?_ (I.sizeOk5 _ _ _ _ _))
 have C:a.get? e=some i:=(d.2.1 e w).trans D
 generalize r:({cls:= .type "traceback",dict:=none,data:= .fields ([head,.ref L,.none,cQY L,.none]++(if place.isEmpty then cZg 6 Value.none else place)).toArray}:Obj)=ob
 have c:ob.data= .fields ([head,.ref L,.none,cQY L,.none]++(if place.isEmpty then cZg 6 Value.none else place)).toArray:=by rw[<- r]
 have k:ob.isFreed=false:=cQ4 c
 have F:(a.push ob).get? e=some i:=bYM ob C
 have l:a.objs.size≠e:=cZm (bYV C)
 refine cXO F u hz ?_
 have d3:=cQ7 u (·.setIfInBounds 1 (Value.ref a.objs.size))
 have y:=cQL (cQX (·.setIfInBounds 1 (Value.ref a.objs.size))) F (cQ4 d3)
 have z:=(cQh (a.push ob) (cQX (·.setIfInBounds 1 (Value.ref a.objs.size))) (cQr l)).trans (cQb a k)
 have j:3<([head,.ref L,.none,cQY L,.none]++(if place.isEmpty then cZg 6 Value.none else place)).toArray.size:=by simp
 unfold cZQ
 refine bYJ (wpAny_field y d3 (x:= .ref a.objs.size) (by simp[hz]) ?_)
 rw[if_pos (show(Value.ref a.objs.size !=Value.none)=true from by simp)]
 refine cXO z c j (h _ a.objs.size ?_ ?_ ?_)
 ·refine⟨⟨_,_,(cQh _ _ l).trans y,Obj.cls_mapFields _ _,aQ0 _ _,d3,by simp[tbV,hz]⟩,λT G=>?_⟩;cases G;refine⟨l,_,_,cQL _ z (cQ4 (cQ7 c _)),cQ7 c _,?_⟩;rw[Array.getElem?_setIfInBounds_self_of_lt j];rfl
 ·exact cZk d.1.symm
 ·have p:∀b o,b≠e->a.get? b=some o->(((a.push ob).update e (cQX (·.setIfInBounds 1 (Value.ref a.objs.size)))).update a.objs.size (cQX (·.setIfInBounds 3 ((none:Option Nat).elim Value.none λf=>cQY f)))).get? b=some o:=λb o g q=>by
   rw[cQh _ _ (cZm (bYV q)),cQh _ _ (cQr g)];exact bYM _ q
  refine⟨λb o g _ K q=>p b o g ((d.2.1 b K).trans q),λb o g _ q=>?_,λb o q=>?_⟩
  ·obtain⟨B,n⟩:=d.2.2 b o q;exact⟨B,p b _ g n⟩
  ·by_cases g:b=e
   ·subst g;exact⟨_,(cQh _ _ l).trans y⟩
   ·obtain⟨B,n⟩:=d.2.2 b o q;exact⟨_,p b _ g n⟩
def aVr{Q:Unit->bYK->Prop}(g:A.frames=some (env::outer))(hl:s.heap.FunFrames base (env::outer))(r:env.frame=some L)(x:qW s.heap e cls dx tb) (h:∀i T,qW i e cls dx (some T)->s.heap.objs.size<=T->bKE ((env::outer).filterMap (·.frame)) e tb s.heap i->Q () {s with heap:=i}): bYP M A (cJa (.ref e) env) (λ_ D=>bYP M A (cZQ (.ref e) none) Q E D) E s:=by
 obtain⟨K,v,n,H,I,m,w⟩:=x.obj;subst H I;have B:=(cX9.mp w).1;unfold cJa;simp only[r];refine bYJ (wpAny_field n m w ?_);cases tb with
 |none=>rw[if_neg (by decide)];exact aZe g hl r n m B h
 |some T=>
  obtain⟨ne,N,J,k,j,C⟩:=x.ent T rfl;rw[if_pos (show(tbV (some T) !=Value.none)=true from by simp[tbV])];refine bYJ (wpAny_field k j C ?_);rw[if_neg (show ¬ ((Value.none==cQY L)=true)from by simp[cQY])];refine bYJ (cXO k j (cX9.mp C).1 ?_);have f:∀b,b≠T->(s.heap.update T (cQX (·.setIfInBounds 3 Value.none))).get? b=s.heap.get? b:=λb l=>cQh _ _ (cQr l);have u:∀b o,s.heap.get? b=some o->(∀v,o.data≠ .fields v)->b≠T:=λb o q t z=>by rw[z,k]at q;cases q;exact t J j
  refine aZe (s:={s with heap:=s.heap.update T (cQX (·.setIfInBounds 3 Value.none)) }) g (hl.of_keeps λb o q t=>⟨o,(f b (u b o q t)).trans q,rfl⟩) r ((f e (cQr ne)).trans n) m B λi F y G p=>h i F y ?_ ⟨λb o a c d q=>?_,λb o a c q=>?_,λb o q=>?_⟩
  ·rw[<- Heap.size_after_update s.heap T (cQX (·.setIfInBounds 3 Value.none))];exact G
  ·exact p.keep b o a (by simp) d ((f b λz=>c (by rw[z])).trans q)
  ·exact p.slot b o a (by simp) ((f b λz=>c (by rw[z])).trans q)
  ·by_cases l:b=T
   ·subst l;exact p.there _ _ (cQL _ k (cQ4 (cQ7 j _)))
   ·exact p.there b o ((f b l).trans q)
def aK0{Q:Unit->bYK->Prop}(a:A.frames=some (env::outer))(hl:s.heap.FunFrames base (env::outer))(c:env.frame=some L)(x:qW s.heap e cls dx tb) (h:∀b T,qW b e cls dx (some T)->s.heap.objs.size<=T->bKE ((env::outer).filterMap (·.frame)) e tb s.heap b->Q () {s with heap:=b}):bYP M A (leaving env (.ref e)) Q E s:=by
 unfold leaving;exact bYJ (aVr a hl c x h)
def bQ7{T:Nat}{Q:Unit->bYK->Prop}(x:qW s.heap e cls dx (some T)) (h:∀d,qW d e cls dx (some T)->(∀b o,b≠T->s.heap.get? b=some o->d.get? b=some o)->(∀b o,s.heap.get? b=some o->∃p,d.get? b=some p)->Q () {s with heap:=d}):bYP M A (cZQ (.ref e) none) Q E s:=by
 obtain⟨t,r,i,u,v,g,k⟩:=x.obj;obtain⟨ne,z,B,j,f,w⟩:=x.ent T rfl;have l:=(cX9.mp w).1;have m:=cQL (cQX (·.setIfInBounds 3 Value.none)) j (cQ4 (cQ7 f _));have a:∀b,b≠T->(s.heap.update T (cQX (·.setIfInBounds 3 Value.none))).get? b=s.heap.get? b:=λb c=>cQh _ _ (cQr c);refine wpAny_setFlight_none i g k j f l (h _ ⟨⟨t,r,(a e (cQr ne)).trans i,u,v,g,k⟩,λy n=>?_⟩ (λb o c q=>(a b c).trans q) λb o q=>?_)
 ·cases n;exact⟨ne,_,_,m,cQ7 f _,by simp[l]⟩
 ·by_cases c:b=T
  ·subst c;exact⟨_,m⟩
  ·exact⟨o,(a b c).trans q⟩
end
end L2
namespace L2
open PySem PySem.W PySem.Calls PyProof.Rows Builtin Builtin.ObjectAttr
def jN:List bYH:= [.type "Exception",.type "BaseException",.type "object"]
def aJj:List bYH->Bool
 |.ref _::r=>aJj r
 |l=>l==jN
def aKi:∀l:List bYH,aJj l=true->∃a:List Nat,l=a.map Value.ref++jN:=by
 intro l;induction l with
 |nil=>intro e;cases e
 |cons v r b=>
  intro e;cases v with
  |ref c=>obtain⟨a,h⟩:=b e;exact⟨c::a,by rw[h];rfl⟩
  |_=>exact⟨[],beq_iff_eq.mp e⟩
def aQS(self:bYH):∀rs:List Nat,refuseLoop self "__setattr__" (rs.map Value.ref++jN)=pure ()
 |[]=>PySem.F.store_Exception.passes self
 |c::rs=>by rw[cQx,cJj,refuseLoop_ref];exact aQS self rs
def aVY{T:String}{b:Bool}(h:jN.contains (.type T)=b):∀rs:List Nat,(rs.map Value.ref++jN).contains (.type T)=b
 |[]=>h
 |c::rs=>by rw[cQx,cJj,cX4,aVY h rs];rfl
def bQV(K:Frag)(C:Nat):Bool:=match K.lookup C with
 |some ⟨_,_,.cls cd,sl⟩=> !cd.hasDel && cd.hasDict && (sl.toList[4]?).join==some (.builtin "Exception.__new__") && aJj cd.mro && cd.mro.contains (.ref C) &&
   specialIn K (.ref C) "__call__"==some (some (.builtin "type.__call__")) && instIn K (.ref C) (.type "type")==some true && typeIn K (.ref C)==some (.type "type") &&
   findIn K (.ref C) "__setattr__"==some (some (.builtin "object.__setattr__")) && findIn K (.ref C) "__getattribute__"==some (some (.builtin "BaseException.__getattribute__")) &&
   findIn K (.ref C) "__getattr__"==some none && findIn K (.ref C) "words"==some none
 |_=>false
structure vX(K:Frag)(C:Nat):Prop where
 cls:∃oc od cd sl,K.lookup C=some ⟨oc,od,.cls cd,sl⟩/\cd.hasDel=false/\cd.hasDict=true/\(sl.toList[4]?).join=some (.builtin "Exception.__new__")/\(∃rs:List Nat,cd.mro=rs.map Value.ref++jN)/\cd.mro.contains (.ref C)=true
 call:specialIn K (.ref C) "__call__"=some (some (.builtin "type.__call__"))
 typ:instIn K (.ref C) (.type "type")=some true
 ty:typeIn K (.ref C)=some (.type "type")
 sa:findIn K (.ref C) "__setattr__"=some (some (.builtin "object.__setattr__"))
 ga:findIn K (.ref C) "__getattribute__"=some (some (.builtin "BaseException.__getattribute__"))
 gh:findIn K (.ref C) "__getattr__"=some none
 wd:findIn K (.ref C) "words"=some none
def aKI{K:Frag}{C:Nat}(e:bQV K C=true):vX K C:=by
 unfold bQV at e;split at e
 ·rename_i h p n d r;simp only[Bool.and_eq_true,Bool.not_eq_true',beq_iff_eq]at e;obtain⟨⟨⟨⟨⟨⟨⟨⟨⟨⟨⟨g,j⟩,o⟩,q⟩,l⟩,i⟩,f⟩,k⟩,m⟩,b⟩,c⟩,a⟩:=e;exact⟨⟨h,p,n,d,r,g,j,o,aKi _ q,l⟩,i,f,k,m,b,c,a⟩
 ·cases e
abbrev wI(C t:Nat)(dx:Option Nat):Obj:={cls:= .ref C,dict:=dx,data:= .fields #[.ref t,.none,.none,.none,.bool false,.none] }
abbrev Z6:Obj:={cls:= .type "tuple",data:= .seq #[] }
section
variable {M:Model}{K:Frag}{C:Nat}{h:Heap}
def vX.sub(X:K.In h)(c:vX K C){T:String}{b:Bool}(f:jN.contains (.type T)=b):Looks M h (cZO (.ref C) (.type T)) b:=by
 obtain⟨l,p,e,k,a,i,j,n,⟨o,g⟩,m⟩:=c.cls;have d:clsIn K C=some e:=by unfold clsIn;rw[a]
 refine looks_mroIn X ?_;unfold mroIn;rw[d,Option.bind_some,g,if_neg (by simp[jN]),aVY f]
def vX.self(X:K.In h)(c:vX K C):Looks M h (cZO (.ref C) (.ref C)) true:=by
 obtain⟨k,n,e,j,a,g,i,l,⟨m,f⟩,d⟩:=c.cls;have b:clsIn K C=some e:=by unfold clsIn;rw[a]
 refine looks_mroIn X ?_;unfold mroIn;rw[b,Option.bind_some,if_neg (by rw[f];simp[jN]),d]
def vX.made(X:K.In h)(c:vX K C):Looks M h (Bind.madeBy (.ref C)) (some "Exception.__new__"):=by
 obtain⟨m,o,a,i,d,j,n,f,⟨r,p⟩,b⟩:=c.cls;have e:clsIn K C=some a:=by unfold clsIn;rw[d]
 have g:Looks M h (mroOf (.ref C)) a.mro:=(looks_clsIn X e).andThen .now;obtain⟨v,l,hl⟩:∃v l,a.mro=v::l:=by
  cases q:a.mro with
  |nil=>rw[q]at b;cases b
  |cons v l=>exact⟨v,l,rfl⟩
 intro A Q E s k q;unfold Bind.madeBy;refine bYJ (g A _ E s k ?_);rw[hl,cJq];refine bYJ (bYJ (bYJ (bYJ (wpAny_loadPart (k _ _ (X _ _ d)) (bYN ?_)))));dsimp only;rw[<- cXf,f];exact bYN (bYN (bYN q))
def vX.base(X:K.In h)(c:vX K C):Looks M h (Bind.staticBase (.ref C)) (.ref C):=by
 have made:=c.made (M:=M) X;obtain⟨j,o,a,g,e,i,m,n,⟨r,p⟩,b⟩:=c.cls;have d:clsIn K C=some a:=by unfold clsIn;rw[e]
 have f:Looks M h (mroOf (.ref C)) a.mro:=(looks_clsIn X d).andThen .now;obtain⟨v,l,hl⟩:∃v l,a.mro=v::l:=by
  cases q:a.mro with
  |nil=>rw[q]at b;cases b
  |cons v l=>exact⟨v,l,rfl⟩
 intro A Q E s k q;unfold Bind.staticBase;refine bYJ (f A _ E s k ?_);rw[hl,cJq];exact bYJ (bYJ (bYJ (made A _ E s k (bYN (bYN (bYN q))))))
def vX.here(X:K.In h)(c:vX K C):Looks M h (Bind.madeHere "BaseException.__new__" (.ref C)) ():=
 (c.base X).andThen ((c.made X).andThen (Looks.of_pure (by simp only[Option.map_some,cJ1.canon,bne_self_eq_false,Bool.false_eq_true,if_false])))
end
section
variable {prog:bY4}{w:cQa}{A:cQl}{R:Result->bYK->Prop}{K:Frag}{C f:Nat}{h:Heap}{g:Array GenState}{d:Drawn}{t:Nat}{os:OsState}
def bJA(X:K.In h)(c:vX K C)(n:R (.ok (.ret (.ref (h.objs.size+1)))) ⟨(h.push Z6).push (wI C h.objs.size none),g,d,t,os⟩): cXY (bYR prog w) A (.call (.builtin "Exception.__new__") ⟨[.ref C],[]⟩) R ⟨h,g,d,t,os⟩:=by
 have F:=cJ1;have made:=c.made (M:=bYR prog w) X;have k:=c.base (M:=bYR prog w) X;have here:=c.here (M:=bYR prog w) X;have r:Looks (bYR prog w) h (cZO (.ref C) (.type "Exception")) true:=c.sub X dk;have q:Looks (bYR prog w) h (cZO (.ref C) (.type "AttributeError")) false:=c.sub X dk;have s:Looks (bYR prog w) h (cZO (.ref C) (.type "NameError")) false:=c.sub X dk;obtain⟨j,m,l,e,o,f,u,x,⟨z,y⟩,v⟩:=c.cls;have i:h.get? C=some ⟨j,m,.cls l,e⟩:=X _ _ o;refine codeAny_call_builtin_code (cJK _ F.quiet) ?_;simp only[checkBuiltinCall,F.newKind,F.newSplit,F.newRow];have args:Bind.checkArgs "Exception.__new__" ⟨.any,"Exception","Exception",.cls,[⟨"args",.varPos,false⟩,⟨"kwargs",.varKw,false⟩]⟩ ⟨[.ref C],[]⟩=pure ():=by kernel_rfl
 rw[args];repeat (first|simp only[bne_self_eq_false,Bool.false_eq_true,if_false]|lk)
 have b:=F.ends;refine codeAny_builtinAt F.entry ?_;unfold cXv.«BaseException.__new__»;refine PySem.wpAt_bind ?_;show PySem.wpAt _ _ _ (stack >>=_) _ _ _;refine PySem.wpAt_bind (PySem.wpAt_stack λp a=>PySem.wpAt_of_wpAny ?_);wp_walk;refine PySem.wpAt_of_wpAny ?_;rw[F.owner];repeat (first|simp only[Bool.not_true,Bool.false_eq_true,if_false]|lk)
 refine nd_load (bYM _ (bYM _ i)) (bYN ?_);dsimp only;refine bYN ?_;rw[f];refine bYN (bYN ?_);show R _ _;rw[cXg];exact n
def bQW(X:K.In h)(c:vX K C)(n:findIn K (.ref C) "__init__"=some (some (.ref f)))(p:typeIn K (.ref f)=some (.type "function")) (B:cXY (bYR prog w) (A.under (.builtin "type.__call__" ⟨[.ref C],[]⟩)) (.call (.ref f) ⟨[.ref (h.objs.size+1)],[]⟩) (InitBack (h.objs.size+1) R) ⟨(h.push Z6).push (wI C h.objs.size none),g,d,t,os⟩): cXY (bYR prog w) A (.call (.ref C) ⟨[],[]⟩) R ⟨h,g,d,t,os⟩:=by
 obtain⟨q,x,j,m,D,F,I,L,⟨O,y⟩,J⟩:=c.cls;have l:h.get? C=some ⟨q,x,.cls j,m⟩:=X _ _ D;have call:=looks_specialIn (M:=bYR prog w) X c.call;have i:=looks_instIn (M:=bYR prog w) X c.typ;have made:=c.made (M:=bYR prog w) X;have u:j.mro.isEmpty=false:=by rw[y];simp[jN]
 refine codeAny_of_tree ?_;show bYP _ _ (callAny (.ref C) _) _ _ _;refine nd_load l ?_;show bYP _ _ (callAny.viaDunder (.ref C) _) _ _ _;unfold callAny.viaDunder;refine bYJ (call.at ?_);dsimp only;rw[tc_bind];refine bYJ (bYN (bYJ (bYN ?_)));refine bYN (a:=Fin.again (.call (.builtin "type.__call__") ⟨[.ref C],[]⟩)) (And.intro rfl ?_);refine codeAny_call_builtin_at (cJK _ dk) entry_typeCall (check_slot tc_kind tc_split i (tc_args _ _ _) ?_);unfold cXv.«type.__call__»;have P:Looks (bYR prog w) h (mroOf (.ref C)) j.mro:=((Looks.ld (part:=none) l).andThen .now).andThen .now;repeat (first|simp only[u,Bool.false_eq_true,if_false]|with_reducible refine cZU ?_|lk)
 refine bJA X c ?_;have k:∀b o,h.get? b=some o->((h.push Z6).push (wI C h.objs.size none)).get? b=some o:=λb o e=>bYM _ (bYM _ e);have s:((h.push Z6).push (wI C h.objs.size none)).get? (h.objs.size+1)=some (wI C h.objs.size none):=by heap_get
 have G:Looks (bYR prog w) ((h.push Z6).push (wI C h.objs.size none)) (typeOf (.ref (h.objs.size+1))) (.ref C):=(Looks.ld s).andThen .now;have E:=(c.self (M:=bYR prog w) X).keeps k;have N:=(looks_findIn (M:=bYR prog w) X n).keeps k;have b1:=(bind_fn (M:=bYR prog w) X (.ref (h.objs.size+1)) p).keeps k;unfold cJw callSpecial? specialOf;repeat (first|with_reducible refine cZU ?_|lk)
 refine cXB B λr H z=>?_;rcases r with e|(v|_|_|_)<;> first|exact z|exact z.elim|skip
 obtain⟨rfl,z⟩:=z;exact bYN (bYN z)
end
section
variable {prog:bY4}{w:cQa}{A:cQl}{E:bYH->bYK->Prop}{K:Frag}{C e tp:Nat}{s:bYK}{v:bYH}
def bJB{Q:Unit->bYK->Prop}(X:K.In s.heap)(c:vX K C)(k:s.heap.get? e=some (wI C tp none)) (J:∀d tk,d.get? e=some (wI C tp (some s.heap.objs.size))->d.Ns1 s.heap.objs.size (λy=>if y="words" then some v else none)->(∀b o,b≠e->s.heap.get? b=some o->d.get? b=some o)->Q () {s with heap:=d,toks:=tk}): bYP (bYR prog w) A (setAttr (.ref e) "words" v) Q E s:=by
 have I:InstAt s.heap e (wI C tp none) C none:=⟨k,rfl,rfl,cQ3⟩;refine set_plain X I c.sa ?_;have h:=PySem.F.store_object;obtain⟨S,W,x,P,M,R,G,V,⟨Y,H⟩,T⟩:=c.cls;have u:clsIn K C=some x:=by unfold clsIn;rw[M]
 have sub:Looks (bYR prog w) s.heap (cJw (.ref e) (.type "object")) true:=I.type.andThen (c.sub X dk);have O:Looks (bYR prog w) s.heap (mroOf (.ref C)) x.mro:=(looks_clsIn X u).andThen .now;refine cJv h.slot.plain h.entry (@check_slot (bYR prog w) _ _ {s with toks:=s.toks+1} "object.__setattr__" "object" "__setattr__" (.ref e) [.str "words" s.toks,v] [] _ h.kind h.split sub (h.args (.ref e) (.str "words" s.toks) v) ?_);rw[osa_eq,refuse_eq];have j:∀ (b:Nat)(o:Obj),s.heap.get? b=some o->s.heap.get? b=some o:=λ_ _ e=>e;refine bYJ (bYJ (I.type _ _ _ _ j (bYJ (O _ _ _ _ j ?_))));rw[H,aQS];refine bYN (bYJ (I.type _ _ _ _ j (bYJ ((looks_findIn X c.wd) _ _ _ _ j (bYJ (bYN ?_))))));have i:e≠s.heap.objs.size:=bY7 (bYV k);have f:(s.heap.push emptyDict).get? e=some (wI C tp none):=bYM _ k;refine bYJ (bYN (bYJ (bYJ (wpAny_loadPart k (bYJ ((looks_clsIn X u) _ _ _ _ j ?_))))));rw[G];refine bYJ (wpAny_alloc ?_);refine bYJ (wpAny_update f ?_);refine bYN (a:=some s.heap.objs.size) ?_;show bYP _ _ (storeInDict s.heap.objs.size (.str "words" s.toks) "words" v) _ _ _;have m:((s.heap.push emptyDict).update e λo=>{o with dict:=some s.heap.objs.size}).get? s.heap.objs.size=some emptyDict:=(cJA _ _ _ _ i.symm).trans (Heap.get?_push_at rfl rfl);have p:((s.heap.push emptyDict).update e λo=>{o with dict:=some s.heap.objs.size}).Ns s.heap.objs.size (λ_=>none):=⟨_, #[],_,m,rfl,λe D=>absurd D (by simp),λ_=>rfl⟩;have n:=cQL (λo=>{o with dict:=some s.heap.objs.size}) f rfl;unfold storeInDict newKeyGuard;refine bYJ (bYN (bYJ (wpAny_nsSet1 (Heap.Ns1.of_empty p) λd g z=>?_)));obtain⟨U,L,B,t,r,l⟩:=g.count (Within.cons "words" v Within.nil);refine bYJ (wpAny_lookBehind t (by rw[r];exact pastItsLine_dict (cQn l (by rw[cQF,cXQ,cQg];omega))) ?_);refine bYN ?_;refine J d _ ((z.2 e i).trans n) g λb o N q=>?_;exact(z.2 b (bY7 (bYV q))).trans ((cJA _ _ _ _ N).trans (bYM _ q))
def bga:Slot "Exception" "__getattribute__" "BaseException.__getattribute__":=
 .of (owner:="BaseException") (n:="__getattribute__") (by rw[typeLookup_type,cJn];kernel_rfl) dk dk dk (by first|exact .inl dk|exact .inr dk) (by rw[isSubtype_type];kernel_rfl)
def bJz{a:Bool}{Q:bYH->bYK->Prop}{b d:Obj}{dx:Nat}(X:K.In s.heap)(c:vX K C)(l:s.heap.get? e=some b)(o:b.cls= .ref C)(n:b.dict=some dx)(m:notCls b=true)(t:s.heap.get? dx=some d) (hl:lookIn "words" d=some (some v)) (j:handedIn v=true) (r:Q v {s with toks:=s.toks+1}):bYP (bYR prog w) A (getAttr (.ref e) "words" a) Q E s:=by
 have I:InstAt s.heap e b C (some d):=⟨l,o,m,by rw[n];exact t⟩;obtain⟨B,i,q,y,f,z,p,G,⟨J,H⟩,D⟩:=c.cls;have g:clsIn K C=some q:=by unfold clsIn;rw[f]
 have k:findObj K C (some d) "words"=some (.value v):=by unfold findObj;rw[g,Option.bind_some,c.wd];simp only[Option.bind_some];unfold W.ownOf;rw[p,if_pos rfl];dsimp only;rw[hl];rfl
 have h:=I.type (M:=bYR prog w);have u:=looks_find (M:=bYR prog w) X I k;have sub:Looks (bYR prog w) s.heap (cJw (.ref e) (.type "BaseException")) true:=I.type.andThen (c.sub X dk);refine bYJ (wpAny_mkText (cQ0 (bYJ (h _ _ _ _ (λ_ _ e=>e) (bYJ (looks_findIn X c.ga _ _ _ _ (λ_ _ e=>e) ?_))))));dsimp only;rw[show(onTheHeap (Value.ref C) && Value.builtin "BaseException.__getattribute__"==Value.builtin "object.__getattribute__")=false from by rw[show(Value.builtin "BaseException.__getattribute__"==Value.builtin "object.__getattribute__")=false from dk,Bool.and_false],if_neg (by decide)];have x:Looks (bYR prog w) s.heap (hookBefore (.ref C)) none:=looks_hook (mc:= .ref C) X (by rw[if_pos (show onTheHeap (Value.ref C)=true from rfl)];exact c.gh);refine bYJ (x _ _ _ _ (λ_ _ e=>e) (bYJ (cZZ (cQ0 ?_))));unfold callGetattribute;rw[show(a && onTheHeap (Value.builtin "BaseException.__getattribute__"))=false from Bool.and_false _,if_neg (by decide)];unfold boundAndCalled;rw[bga.bind];refine bYJ (bYN ?_);show bYP _ _ (call (.builtin "BaseException.__getattribute__") [.ref e,.str "words" s.toks]) _ _ _;refine cZU (cJv bga.plain F.entry_bexc_ga ?_);refine @check_slot (bYR prog w) _ _ {s with toks:=s.toks+1} "BaseException.__getattribute__" "BaseException" "__getattribute__" (.ref e) [.str "words" s.toks] [] _ dk dk sub (F.args_bexc_ga (.ref e) (.str "words" s.toks)) ?_;unfold cXv.«object.__getattribute__»;refine bYJ (bYN (bYJ (bYN ?_)));refine bYJ (h _ _ _ _ (λ_ _ e=>e) (bYJ (u _ _ _ _ (λ_ _ e=>e) (bYN ?_))));show bYP _ _ (handedOut v) _ _ _;rw[handedOut_of j];exact bYN r
def aKJ{M:Model}{Q:Bool->bYK->Prop}{h:Obj}{Rf:Nat}(X:K.In s.heap)(c:vX K C)(b:vX K Rf)(o:mroIn K C (.ref Rf)=some true)(f:s.heap.get? e=some h)(k:h.cls= .ref C)(n:Q true s): bYP M A (excMatches (.ref e) (.ref Rf)) Q E s:=by
 obtain⟨a,g,d,t,os⟩:=s;dsimp only at X f;have v:Looks M a (typeOf (.ref e)) (.ref C):=k ▸ (Looks.ld f).andThen .now;have G:Looks M a (cZO (.ref C) (.ref Rf)) true:=looks_mroIn X o;have q:Looks M a (cJw (.ref Rf) (.type "tuple")) false:=(looks_typeIn X b.ty).andThen (Looks.of_pure tc_notTuple);have w:Looks M a (cZO (.ref Rf) (.type "BaseException")) true:=b.sub X dk;have x:Looks M a (typeOf (.ref Rf)) (.type "type"):=looks_typeIn X b.ty;have F:Looks M a (cZO (.type "type") (.type "type")) true:=Looks.of_pure tc_sub;obtain⟨j,m,l,i,p,r,y,B,⟨H,D⟩,z⟩:=b.cls;have u:a.get? Rf=some ⟨j,m,.cls l,i⟩:=X _ _ p;unfold excMatches isExcClass;repeat (first|simp only[Bool.not_true,Bool.false_eq_true,if_false,if_true]|lk)
 exact n
def aKK{M:Model}{env:Env}{x:Sem bYH}{Q:Flow->bYK->Prop}(l:A.handled=none) (h:bYP M A x (λv a=>∃e tp f C,v= .ref e/\K.In a.heap/\vX K C/\a.heap.get? e=some (wI C tp f)/\E (.ref e) a) E s):bYP M A (raiseStmt env (some x) none) Q E s:=by
 unfold raiseStmt;refine bYJ (cQJ h (λv a j=>?_) λ_ _ x=>x);obtain⟨e,tp,f,C,rfl,X,c,i,k⟩:=j;obtain⟨b,g,d,tk,os⟩:=a;dsimp only at X i;have n:Looks M b (typeOf (.ref e)) (.ref C):=(Looks.ld i).andThen .now;have o:Looks M b (cZO (.ref C) (.type "BaseException")) true:=c.sub X dk;have m:Looks M b (typeOf (.ref C)) (.type "type"):=looks_typeIn X c.ty;unfold excFromValue isExcClass cJw;repeat (first|simp only[Bool.false_eq_true,if_false,if_true]|lk)
 show bYP M A handled _ _ _;refine wpAny_handled ?_;rw[l];exact wpAny_throw k
end
end L2
namespace L2
open PySem PySem.Spec PyProof.Rows
def CXR(P:bY4)(w:cQa):CXT:=λouter H s E d a=>∃ (e C c tb:Nat)(b:Hp),d= .ref e/\a.os=s.os/\AllBare a.gens/\Un (frs outer) [] H b s.heap a.heap/\HOk P w b a.heap/\
 qW a.heap e (.ref C) (some c) (some tb)/\b e=none/\b tb=none/\s.heap.objs.size<=e/\s.heap.objs.size<=tb/\E (.ref C) (some c) b
section
variable {P:bY4}{w:cQa}{K:bYI}{mg:Str->Option bYH}{base:Heap}{N:List Str}{qual:Str}{scope:cXV}{f:Nat}{cd:bYH}{A:cQl}{outer:List Env}{s₀:bYK}{H₀:Hp}{E:XK}
 {pins:List (Nat×Obj)} {σ:St} {H:Hp} {s:bYK}
def bKr{e C dx:Nat}{tb:Option Nat}(I:Inv (aXs (CXR P w) P w K mg base N qual scope f cd A outer s₀ H₀ E) pins σ H s)(x:qW s.heap e (.ref C) (some dx) tb)(m:H e=none)(B:s₀.heap.objs.size<=e) (l:∀T,tb=some T->H T=none/\s₀.heap.objs.size<=T) (q:E (.ref C) (some dx) H):(aXs (CXR P w) P w K mg base N qual scope f cd A outer s₀ H₀ E).xe (.ref e) s:=by
 have ne:∀b o,s₀.heap.get? b=some o->b≠e:=λb o a=>bY7 (bY9 (bYV a) B);have D:∀b o,s₀.heap.get? b=some o->tb≠some b:=λb o a z=>absurd (bY9 (bYV a) (l b z).2) (cQQ _);have J:∀b,b∈(cXF qual scope s₀.heap.objs.size f cd::outer).filterMap (·.frame)->b=s₀.heap.objs.size\/b∈frs outer:=λb d=>by rw[cZs,show(cXF qual scope s₀.heap.objs.size f cd).frame=some s₀.heap.objs.size from rfl]at d;exact bYQ.mp d
 have j:∀b o,s₀.heap.get? b=some o->b∉frs outer->b∉(cXF qual scope s₀.heap.objs.size f cd::outer).filterMap (·.frame):=λb o a d z=>
  (J b z).elim (bY7 (bYV a)) d
 show bYP (bYR P w) (A.deeper (cXF qual scope s₀.heap.objs.size f cd)) (leaving (cXF qual scope s₀.heap.objs.size f cd) (.ref e)) _ _ s;refine aK0 (base:=base) (outer:=outer) (L:=s₀.heap.objs.size) I.ok.frames I.stack rfl x λQ T y t p=>?_;refine⟨e,C,dx,T,H,rfl,I.os,I.bare,?_,?_,y,m,I.hok.fresh t,B,cQn I.sz t,q⟩
 ·refine⟨λb o a n d g=>?_,λb o a n d g=>?_,λb o a n g=>I.base.free b o a n g,λb o a g=>?_,I.base.tups,I.base.frzs,I.base.tbls⟩
  ·exact p.keep b o (ne b o a) (D b o a) (j b o a d) (I.base.keep b o a n d g)
  ·obtain⟨O,k⟩:=I.base.slot b o a n d g;obtain⟨i,F⟩:=p.slot b _ (ne b o a) (D b o a) k;exact⟨i,F⟩
  ·obtain⟨G,k⟩:=I.base.there b o a g;exact p.there b G k
 ·refine λb u a=>(I.hok b u a).stay (λc v M r=>?_) (λ_ r=>r) λ_ _ r=>r;have h:H c≠none:=by
   rcases M with z|z
   ·rw[z,a];simp
   ·rw[z];simp
  refine p.keep c v (λz=>h (by rw[z];exact m)) (λz=>h (l c z).1) (λz=>h (I.stkFree c z)) r
def zQ:vJ (CXR P w) (aXs (CXR P w) P w K mg base N qual scope f cd A outer s₀ H₀ E) E:=by
 intro a σ H s q l I h;obtain⟨e,C,p,tb,o,rfl,k,bare,un,c,x,m,i,g,d,j⟩:=h;have n:Inv (aXs (CXR P w) P w K mg base N qual scope f cd A outer s₀ H₀ E) a σ o l:=I.call' k un c bare λb z=>absurd z (by simp);exact bKr n x m (cQn I.sz g) (λT z=>by cases z;exact⟨i,cQn I.sz d⟩) j
def Fun.okX{x:Str}{st:Stmt}{e:cXG}{ps:List Str}{k:Nat}{sp:Sp}(F:Fun K x qual st f e)(S:yO N ps (yH st)) (b:∀ (a:bYH)(A:cQl)(outer:List Env)(s:bYK)(H:Hp)(vs:List V)(Q:VK)(E:XK),vP k (A.deeper (cXF qual (yH st) s.heap.objs.size f a))->sp vs H Q E-> ∃t,PSs (aXs (CXR P w) P w K mg base N qual (yH st) f a A outer s H E) (xO st) t/\t {nx:=λ_ l=>Q .non l,rt:=Q} (start N vs) H) (len:∀vs H Q E,sp vs H Q E->vs.length=ps.length:=by intro _ _ _ _ h;first|(cases h;subst_vars;exact rfl)|repeat (first|(obtain⟨rfl,_⟩:=h;exact rfl)|(obtain⟨_,h⟩:=h))):xD P w K mg base (CXR P w) (k+1) f e ps sp:=by
 obtain⟨m,p,kV,j,o,n,a,ct,g,rfl,lk,d⟩:=F.ex;exact bJD lk d S len λA outer s H vs Q E i c=>b a A outer s H vs Q E i c
end
structure FnX(P:bY4)(w:cQa)(K:bYI)(mg:Str->Option bYH)(base:Heap)(k:Nat)(x:Str)(ps:List Str)(sp:Sp):Prop where
 ex:∃f fd,xD P w K mg base (CXR P w) k f fd ps sp/\vW K fd ps []/\cQD K (.ref f)=true/\mg x=some (.ref f)
def FnX.mono{P:bY4}{w:cQa}{K:bYI}{mg:Str->Option bYH}{base:Heap}{j k:Nat}{x:Str}{ps:List Str}{sp:Sp}(G:FnX P w K mg base j x ps sp)(h:j<=k):FnX P w K mg base k x ps sp:=
 let ⟨f,fd,a,b⟩:=G.ex;⟨f,fd,a.mono h,b⟩
structure MG(P:bY4)(w:cQa)(K:bYI)(mg:Str->Option bYH)(base:Heap)(CX:CXT)(k:Nat)(C:Nat)(m:Str)(ps:List Str)(sp:Sp):Prop where
 ex:∃f fd,xD P w K mg base CX k f fd ps sp/\vW K fd ps []/\bV7 K C m f
 cl:Cls K C
def MG.mono{P:bY4}{w:cQa}{K:bYI}{mg:Str->Option bYH}{base:Heap}{CX:CXT}{j k:Nat}{C:Nat}{m:Str}{ps:List Str}{sp:Sp}(G:MG P w K mg base CX j C m ps sp)(h:j<=k):MG P w K mg base CX k C m ps sp:=
 let ⟨f,fd,a,b⟩:=G.ex;⟨⟨f,fd,a.mono h,b⟩,G.cl⟩
structure MkG(P:bY4)(w:cQa)(K:bYI)(mg:Str->Option bYH)(base:Heap)(k:Nat)(x:Str)(C:Nat)(ps:List Str)(sp:Sp):Prop where
 ex:∃f fd,xD P w K mg base CX0 k f fd ps sp/\vW K fd ps []/\Mk K C f/\mg x=some (.ref C)
def MkG.mono{P:bY4}{w:cQa}{K:bYI}{mg:Str->Option bYH}{base:Heap}{j k:Nat}{x:Str}{C:Nat}{ps:List Str}{sp:Sp}(G:MkG P w K mg base j x C ps sp)(h:j<=k):MkG P w K mg base k x C ps sp:=
 let ⟨f,fd,a,b⟩:=G.ex;⟨f,fd,a.mono h,b⟩
section
variable {X:Cx}{k:Nat}{x m:Str}{C:Nat}{ps:List Str}{sp:Sp}{e o:Expr}{es:List Expr}{ta:TE}{t:TA}{p pos apos:Pos}{E:XK}{CX:CXT}
def aQu{P:bY4}{w:cQa}{K:bYI}{mg:Str->Option bYH}{base:Heap}{N:List Str}{qual:Str}{scope:cXV}{f:Nat}{cd:bYH}{A:cQl}{outer:List Env}{s₀:bYK}{H₀:Hp}
  (G:FnX P w K mg base k x ps sp) (d:vP k (A.deeper (cXF qual scope s₀.heap.objs.size f cd))) (j:Gl (aXs (CXR P w) P w K mg base N qual scope f cd A outer s₀ H₀ E) x) (l:PA (aXs (CXR P w) P w K mg base N qual scope f cd A outer s₀ H₀ E) (e::es) t)
  (c:(x==("__debug__":Str))=false:=by decide) (i:cQk (e::es) (cXF qual scope s₀.heap.objs.size f cd)=(false,eval e (cXF qual scope s₀.heap.objs.size f cd))::cQk es (cXF qual scope s₀.heap.objs.size f cd):=by rfl)
  (a:(cXk pos (cQk es (cXF qual scope s₀.heap.objs.size f cd))).any (·.1)=false:=by rfl):
  PE (aXs (CXR P w) P w K mg base N qual scope f cd A outer s₀ H₀ E) (.Call (.Name x p) (e::es) [] pos) (bZq sp [] E t):=by
 obtain⟨g,n,F,b,h,m⟩:=G.ex
 exact aYw F d j m h b .nil zQ l c i a
def vU{pl:Sem Bool}(G:MG X.prog X.w X.K X.mg X.base CX k C m ps sp)(h:vP k X.A)(l:vJ CX X E)(i:PE X o ta)(j:PA X (e::es) t)
  (a:cQk (e::es) X.env=(false,eval e X.env)::cQk es X.env:=by rfl) (c:(cXk pos (cQk es X.env)).any (·.1)=false:=by rfl)
  (d:eval (.Call (.Attribute o m apos) (e::es) [] pos) X.env=(do
   let ov <- eval o X.env
   standAt apos.atName
   let (f,first) <- cZ1 [ov] (cZ9 ov m pl)
   callWith pos f first (cXk pos (cQk (e::es) X.env)) (cZT pos (cX3 [] X.env))):=by rfl):
  PE X (.Call (.Attribute o m apos) (e::es) [] pos) (bZt C m sp [] E ta t):=by
 obtain⟨g,p,F,b,n⟩:=G.ex
 exact bVg i G.cl n F h b .nil l j a c d
def bXM{pl:Sem Bool}(G:MG X.prog X.w X.K X.mg X.base CX k C m ps sp)(c:vP k X.A)(e:vJ CX X E)(d:PE X o ta)
  (a:eval (.Call (.Attribute o m apos) [] [] pos) X.env=(do
   let ov <- eval o X.env
   standAt apos.atName
   let (f,first) <- cZ1 [ov] (cZ9 ov m pl)
   callWith pos f first (cXk pos (cQk [] X.env)) (cZT pos (cX3 [] X.env))):=by rfl):
  PE X (.Call (.Attribute o m apos) [] [] pos) (bZt C m sp [] E ta bZu):=by
 obtain⟨g,i,F,b,h⟩:=G.ex
 exact bXO d G.cl h F c b .nil e a
def bKQ(G:MkG X.prog X.w X.K X.mg X.base k x C ps sp)(d:vP (k+1) X.A)(j:Gl X x)(f:PA X (e::es) t)(c:(x==("__debug__":Str))=false:=by decide)
  (i:cQk (e::es) X.env=(false,eval e X.env)::cQk es X.env:=by rfl) (a:(cXk pos (cQk es X.env)).any (·.1)=false:=by rfl):PE X (.Call (.Name x p) (e::es) [] pos) (bZs C sp [] E0 t):=by
 obtain⟨g,m,F,b,l,h⟩:=G.ex
 exact bVf l F d j h b .nil vT f c i a
def bZ3(G:MkG X.prog X.w X.K X.mg X.base k x C ps sp)(c:vP (k+1) X.A)(e:Gl X x)(a:(x==("__debug__":Str))=false:=by decide):PE X (.Call (.Name x p) [] [] pos) (bZs C sp [] E0 bZu):=by
 obtain⟨g,h,F,b,f,d⟩:=G.ex;exact bXN f F c e d b .nil vT a
end
end L2
namespace L2
open PySem PySem.Spec PyProof.Rows
def jR(e C tp:Nat)(dx:Option Nat):HO:= .ext λh=>h.get? e=some (wI C tp dx)
def aVk{P:bY4}{w:cQa}{H:Hp}{h:Heap}{e C tp:Nat}{dx:Option Nat}(b:h.get? e=some (wI C tp dx)):zD P w H h e (jR e C tp dx):=⟨b,⟨_,b⟩,λc d a k=>k _ a⟩
def aVj{P:bY4}{w:cQa}{H:Hp}{h:Heap}{e C tp:Nat}{dx:Option Nat}(ok:HOk P w H h)(a:H e=some (jR e C tp dx)):h.get? e=some (wI C tp dx):=(ok e _ a).1
section
variable {X:Cx}{pins:List (Nat×Obj)}{σ:St}{H:Hp}{s:bYK}
def Inv.forget{e:Nat}{φ:Heap->Prop}(I:Inv X pins σ H s)(k:H e=some (.ext φ)):Inv X pins σ (λb=>if b=e then none else H b) s:=by
 have ne:∀b u,H b=some u->(∀φ,u≠ .ext φ)->b≠e:=λb u q n z=>by rw[z,k]at q;cases q;exact n _ rfl
 refine⟨I.ok,I.os,I.bare,⟨I.base.keep,I.base.slot,λb o q n j=>?_,I.base.there,λb d q=>?_,λb o u q=>?_,λb ps q=>?_⟩,I.loc,I.cell,?_,λx c q=>?_,λp i=>?_,λb u q=>?_,I.len⟩
 ·show(if b=e then none else H b)=none;rw[I.base.free b o q n j];split<;> rfl
 ·have z:=I.base.tups b d q;show(if b=e then none else H b)=_;rw[if_neg (ne b _ z λ_ y=>by cases y),z]
 ·have z:=I.base.frzs b o u q;show(if b=e then none else H b)=_;rw[if_neg (ne b _ z λ_ y=>by cases y),z]
 ·obtain⟨m,z⟩:=I.base.tbls b ps q;refine⟨m,?_⟩;show(if b=e then none else H b)=_;rw[if_neg (ne b _ z λ_ y=>by cases y),z]
 ·show(if _=e then none else H _)=none;rw[I.free];split<;> rfl
 ·show(if c=e then none else H c)=none;rw[I.freeC x c q];split<;> rfl
 ·obtain⟨h,l,g⟩:=I.pin p i;refine⟨h,?_,g⟩;show(if p.1=e then none else H p.1)=none;rw[l];split<;> rfl
 ·have a:(if b=e then none else H b)=some u:=q;by_cases f:b=e
  ·rw[if_pos f]at a;cases a
  ·rw[if_neg f]at a;refine(I.hok b u a).stay (λc v _ r=>r) (λc r=>?_) λc d r=>?_
   ·show(if c=e then none else H c)=_;rw[if_neg (ne c _ r λ_ y=>by cases y),r]
   ·show(if c=e then none else H c)=_;rw[if_neg (ne c _ r λ_ y=>by cases y),r]
inductive bKX(K:bYI)(D:aZ4)(σ:St)(y:V)(x:V)(H2:Hp):Prop|mk (e C tp) (_:x= .ref e) (_:H2 e=some (jR e C tp none)) (_:vX K C) (_:∀dx,H2 dx=none->D.nx σ (upd (upd H2 dx (.xd [("words",y)])) e (jR e C tp (some dx))))
def bYx(K:bYI)(d c:TE):TS:=λD σ H=>c σ H λy b=>d σ b λx a=>bKX K D σ y x a
def bWU{o a:Expr}{A B:TE}{pos i:Pos}(Q:PE X o A)(N:PE X a B)(P:swapsWith a (some (.Attribute o "words" i)) pos.line X.env=pure false): PS X (.Assign [.Attribute o "words" i] a pos) (bYx X.K A B):=by
 intro pins s σ H D I h;refine cJo (thn (N pins s σ H _ I h) λu s1 ⟨y,H1,I1,ry,q⟩=>thn (Q pins s1 σ H1 _ I1 q) λov s2 ⟨x,H2,I2,rx,e,C,tp,ex,ea,c,q2⟩=>?_) P;subst ex;obtain rfl:ov=Value.ref e:=rx;have O:=aVj I2.hok ea;have g:H2 s2.heap.objs.size=none:=I2.hok.fresh (bYO _);have M:=q2 _ g;refine bJB I2.kIn c O λR tk E J k=>⟨σ,_,I2.un (t':=tk) ?_ ?_,M⟩
 ·have l:∀b,H2 b=none->b≠e:=λb n z=>by rw[z,ea]at n;cases n
  have L:∀b o,s2.heap.get? b=some o->b≠s2.heap.objs.size:=λb o r=>bY7 (bYV r);have t:∀b u,H2 b=some u->(∀φ,u≠ .ext φ)->upd (upd H2 s2.heap.objs.size (.xd [("words",y)])) e (jR e C tp (some s2.heap.objs.size)) b=some u:=λb u r n=>by rw[yI (λz=>by rw[z,ea]at r;cases r;exact n _ rfl),yI (yJ r g)];exact r
  refine⟨λb o r n _ _=>k b o (l b n) r,λb o r n _ _=>⟨o.slots,k b o (l b n) r⟩,λb o r n _=>?_,λb o r _=>?_,λb G r=>t b _ r (λ_ z=>by cases z),λb o u r=>t b _ r (λ_ z=>by cases z),λb ps r=>⟨#[],by rw[t b _ r (λ_ z=>by cases z)];simp⟩⟩
  ·rw[yI (l b n),yI (L b o r)];exact n
  ·by_cases j:b=e
   ·subst j;exact⟨_,E⟩
   ·exact⟨o,k b o j r⟩
 ·intro b v r;by_cases j:b=e
  ·subst j;rw[yB]at r;cases r;exact aVk E
  ·rw[yI j]at r;by_cases F:b=s2.heap.objs.size
   ·subst F;rw[yB]at r;cases r;refine⟨_,J,λf=>?_⟩;show aX3 (cX2 f [("words",y)]) (if f="words" then some u else none);by_cases m:f="words"
    ·subst m;exact ry
    ·rw[if_neg m];have:(f==("words":Str))=false:=by simpa using m
     simp[cX2,this,aX3]
   ·rw[yI F]at r;have ne:∀c w,H2 c=some w->(∀φ,w≠ .ext φ)->c≠e:=λc w d n z=>by rw[z,ea]at d;cases d;exact n _ rfl
    refine(I2.hok b v r).stay (λc o p d=>k c o ?_ d) (λc d=>?_) λc G d=>?_
    ·rcases p with rfl|p
     ·exact j
     ·exact ne c _ p λ_ z=>by cases z
    ·rw[yI (ne c _ d λ_ z=>by cases z),yI (yJ d g)];exact d
    ·rw[yI (ne c _ d λ_ z=>by cases z),yI (yJ d g)];exact d
end
inductive wS(K:bYI)(vs:List V)(H:Hp)(Q:VK)(_:XK):Prop|mk (e C tp:Nat) (y:V) (_:vs= [.ref e,y]) (_:H e=some (jR e C tp none)) (_:vX K C) (_:∀dx,H dx=none->Q .non (upd (upd H dx (.xd [("words",y)])) e (jR e C tp (some dx))))
inductive bZo(C:Nat)(t:Str)(vs:List V)(H:Hp)(Q:VK):Prop|mk (e tp:Nat) (_:vs= [.ref e]) (_:H e=some (jR e C tp none)) (_:∀dx,H dx=none->Q .non (upd (upd H dx (.xd [("words",.str t)])) e (jR e C tp (some dx))))
def wD(K:bYI)(C:Nat)(t:Str):Sp:=λa H Q _=>bZo C t a H Q
structure aV1(P:bY4)(w:cQa)(K:bYI)(mg:Str->Option bYH)(base:Heap)(k:Nat)(x m:Str)(ps:List Str)(sp:Sp):Prop where
 ex:∃ (R f:Nat)(fd:cXG),xD P w K mg base CX0 k f fd ps sp/\vW K fd ps []/\PySem.W.readsIn K R (.type "type")=true/\PySem.W.findCls K (.ref R) (.type "type") m=some (.val (.ref f))/\
  cJg K (.ref R) "__getattribute__"=some (some (.builtin "type.__getattribute__"))/\cQD K (.ref f)=true/\mg x=some (.ref R)
section
variable {X:Cx}{k:Nat}{x m:Str}{ps:List Str}{sp:Sp}{e:Expr}{es:List Expr}{t:TA}{p pos apos:Pos}
def uQ{pl:Sem Bool}(G:aV1 X.prog X.w X.K X.mg X.base k x m ps sp)(j:vP k X.A)(n:Gl X x)(v:PA X (e::es) t)(d:(x==("__debug__":Str))=false:=by decide)
  (c:cQk (e::es) X.env=(false,eval e X.env)::cQk es X.env:=by rfl) (a:(cXk pos (cQk es X.env)).any (·.1)=false:=by rfl)
  (i:eval (.Call (.Attribute (.Name x p) m apos) (e::es) [] pos) X.env=(do
   let ov <- eval (.Name x p) X.env
   standAt apos.atName
   let (f,first) <- cZ1 [ov] (cZ9 ov m pl)
   callWith pos f first (cXk pos (cQk (e::es) X.env)) (cZT pos (cX3 [] X.env))):=by rfl):
  PE X (.Call (.Attribute (.Name x p) m apos) (e::es) [] pos) (bZq sp [] E0 t):=by
 obtain⟨R,f,z,F,b,g,q,u,l,y⟩:=G.ex
 intro pins s σ H Q I h
 refine cZL (pl:=pl) (uO I n y ?_ d) i
 refine PySem.W.method_cls I.kIn u (PySem.W.cls_value I.kIn g q rfl ?_)
 have o:=I.tok (s.toks+1)
 refine cZz (first:= []) (h₀:=X.base) I.ok.mod.kin l (thn (v pos pins _ σ H _ o h) λus s2 ⟨vs,H2,I2,r,q2⟩=>⟨I2.kIn,?_⟩) c a
 exact aZK F j b .nil vT I2 r q2
end
structure ExG(P:bY4)(w:cQa)(K:bYI)(mg:Str->Option bYH)(base:Heap)(k:Nat)(x:Str)(Rf:Nat)(C:Nat)(t:Str):Prop where
 ex:∃f fd,xD P w K mg base CX0 k f fd ["self"] (wD K C t)/\vW K fd ["self"] []/\cQs K (.ref C) "__init__"=some (some (.ref f))/\cZn K (.ref f)=true/\cQD K (.ref C)=true/\mg x=some (.ref C)
 cl:vX K C
 sub:cZW K C (.ref Rf)=some true
def ExG.mono{P:bY4}{w:cQa}{K:bYI}{mg:Str->Option bYH}{base:Heap}{j k:Nat}{x:Str}{Rf C:Nat}{t:Str}(G:ExG P w K mg base j x Rf C t)(h:j<=k):ExG P w K mg base k x Rf C t:=
 let ⟨f,fd,a,b⟩:=G.ex;⟨⟨f,fd,a.mono h,b⟩,G.cl,G.sub⟩
def bZ7(C:Nat)(t:Str)(E:XK):TS:=λ_ _ H=>∀a,H a=none->E (.ref C) (some a) (upd H a (.xd [("words",.str t)]))
section
variable {P:bY4}{w:cQa}{K:bYI}{mg:Str->Option bYH}{base:Heap}{N:List Str}{qual:Str}{scope:cXV}{f:Nat}{cd:bYH}{A:cQl}{outer:List Env}{s₀:bYK}{H₀:Hp}{E:XK}{k:Nat}{x t:Str}{Rf C:Nat}{np cpos pos:Pos}
def zW(G:ExG P w K mg base k x Rf C t)(R:vP (k+1) (A.deeper (cXF qual scope s₀.heap.objs.size f cd)))(Z:Gl (aXs (CXR P w) P w K mg base N qual scope f cd A outer s₀ H₀ E) x)(J:(x==("__debug__":Str))=false:=by decide):
  PS (aXs (CXR P w) P w K mg base N qual scope f cd A outer s₀ H₀ E) (.Raise (some (.Call (.Name x np) [] [] cpos)) none pos) (bZ7 C t E):=by
 intro pins s σ H D I h
 obtain⟨fi,fd,F,b,S,U,X,hm⟩:=G.ex
 rw[arm_exec_Raise]
 refine bYJ (cJi ?_)
 show bYP _ _ (raiseStmt _ (some (do let v <- eval (.Call (.Name x np) [] [] cpos) (cXF qual scope s₀.heap.objs.size f cd);standAt pos;pure v)) none) _ _ _
 refine aKK (K:=K) (I.ok.hd rfl) (bYJ ?_)
 refine cXl (uO I Z hm ?_ J)
 refine cJD I.kIn X (cZU ?_)
 obtain⟨a,g,d,tk,L⟩:=s
 have I0:Inv (aXs (CXR P w) P w K mg base N qual scope f cd A outer s₀ H₀ E) pins σ H ⟨a.push Z6,g,d,tk,L⟩:=I.kept (t':=tk) λb u e=>bYM _ e
 have V:((a.push Z6).push (wI C a.objs.size none)).get? (a.objs.size+1)=some (wI C a.objs.size none):=by heap_get
 have q:Inv (aXs (CXR P w) P w K mg base N qual scope f cd A outer s₀ H₀ E) pins σ (upd H (a.objs.size+1) (jR (a.objs.size+1) C a.objs.size none)) ⟨(a.push Z6).push (wI C a.objs.size none),g,d,tk,L⟩:=
  I0.laid (t':=tk) (λb u e=>bYM _ e) (cZk (cXg _ _)) (aVk V)
 have m:H (a.objs.size+1)=none:=I.hok.fresh (cXP _)
 refine bQW I.kIn G.cl S (beq_iff_eq.mp U) (cXB (F.run _ (cXF qual scope s₀.heap.objs.size f cd::outer) _ _ ⟨[.ref (a.objs.size+1)],[]⟩ [.ref (a.objs.size+1)] [.ref (a.objs.size+1)] (λv O=>v= .non/\∃c,upd H (a.objs.size+1) (jR (a.objs.size+1) C a.objs.size none) c=none/\O=upd (upd (upd H (a.objs.size+1) (jR (a.objs.size+1) C a.objs.size none)) c (.xd [("words",.str t)])) (a.objs.size+1) (jR (a.objs.size+1) C a.objs.size (some c))) E0 (R.make C [] []) (q.env0.make C [] []) (b _ [.ref (a.objs.size+1)] q.kIn rfl) (.cons rfl .nil) ⟨a.objs.size+1,a.objs.size,rfl,yB,λc i=>⟨rfl,c,i,rfl⟩⟩) λr s' j=>?_)
 cases r with
 |error e=>exact cXc j
 |ok Q=>
  cases Q with
  |next=>exact cXc j
  |brk=>exact cXc j
  |cont=>exact cXc j
  |ret u=>
   obtain⟨v,O,B,Y,rfl,c,i,rfl⟩:=q.after j;have l:a.objs.size+1≠c:=yJ yB i;have p:H c=none:=by rw[yI (cQr l)]at i;exact i
   have n:=aVj B.hok yB;have M:=B.forget (e:=a.objs.size+1) yB;have eq:(λb=>if b=a.objs.size+1 then none else upd (upd (upd H (a.objs.size+1) (jR (a.objs.size+1) C a.objs.size none)) c (.xd [("words",.str t)])) (a.objs.size+1) (jR (a.objs.size+1) C a.objs.size (some c)) b)=upd H c (.xd [("words",.str t)]):=by
    funext b;by_cases o:b=a.objs.size+1
    ·rw[if_pos o,o,yI l,m]
    ·rw[if_neg o,yI o];by_cases y:b=c
     ·rw[y,yB,yB]
     ·rw[yI y,yI y,yI o]
   rw[eq]at M;refine⟨Y,bYJ (cJi (bYN ⟨a.objs.size+1,a.objs.size,some c,C,rfl,B.kIn,G.cl,n,?_⟩))⟩;refine bKr (tb:=none) M ⟨⟨_,_,n,rfl,rfl,rfl,rfl⟩,λT z=>by cases z⟩ (by rw[yI l];exact m) (cQn I.sz (cXP _)) (λT z=>by cases z) (h c p)
end
end L2
namespace L2
open PySem PySem.Spec PyProof.Rows
def bJ3{X:Cx}{A:cQl}{a:Bool}{pn:List (Nat×Obj)}{xe:bYH->bYK->Prop}(o:X.Ok)(b:A.frames=X.A.frames)(c:a=true->A.handled=none):Cx.Ok {X with A:=A,calm:=a,pn:=pn,xe:=xe}:=
 ⟨o.mod,o.kind,o.glob,o.blt,o.above,o.inj,o.has,o.cab,c,b.trans o.frames,o.stk,o.exf,o.bs,o.bsz,o.noex,o.exfs,o.funs,o.frf⟩
def Inv.mark{X:Cx}{A:cQl}{b:Bool}{pn pins a:List (Nat×Obj)}{xe:bYH->bYK->Prop}{σ:St}{H:Hp}{s:bYK}(I:Inv X pins σ H s)(c:A.frames=X.A.frames)(e:b=true->A.handled=none) (d:∀p∈pn++a,p∈X.pn++pins):Inv {X with A:=A,calm:=b,pn:=pn,xe:=xe} a σ H s:=
 ⟨bJ3 I.ok c e,I.os,I.bare,I.base,I.loc,I.cell,I.free,I.freeC,λp h=>I.pin p (d p h),I.hok,I.len⟩
def bJU{X:Cx}{pn:List (Nat×Obj)}{xe:bYH->bYK->Prop}(o:Cx.Ok {X with A:=X.A,calm:=X.calm,pn:=pn,xe:=xe}):X.Ok:=
 ⟨o.mod,o.kind,o.glob,o.blt,o.above,o.inj,o.has,o.cab,o.hd,o.frames,o.stk,o.exf,o.bs,o.bsz,o.noex,o.exfs,o.funs,o.frf⟩
def Inv.names{X:Cx}{pins:List (Nat×Obj)}{σ:St}{H:Hp}{s:bYK}{h':Heap}{j:Str->Option bYH}{t':Nat}(I:Inv X pins σ H s)(A:h'.Ns X.env.locals j)(d:cXL X.env.locals s.heap h'): Inv X pins (cZg X.N.length none) H {s with heap:=h',toks:=t'}:=by
 have a:∀b o,X.s₀.heap.get? b=some o->b≠X.env.locals:=λb o q=>bY7 (bY9 (bYV q) I.ok.above);refine⟨I.ok,I.os,I.bare,⟨λb o q n g e=>(d.2 b (a b o q)).trans (I.base.keep b o q n g e),λb o q n g e=>?_,I.base.free,λb o q e=>?_,I.base.tups,I.base.frzs,I.base.tbls⟩,⟨j,A,λi x v _ f _=>?_⟩,λx c q=>?_,I.free,I.freeC,λp y=>?_,λb u q=>?_,by simp⟩
 ·obtain⟨l,z⟩:=I.base.slot b o q n g e;exact⟨l,(d.2 b (a b o q)).trans z⟩
 ·obtain⟨m,z⟩:=I.base.there b o q e;exact⟨m,(d.2 b (a b o q)).trans z⟩
 ·rw[List.getElem?_replicate]at f;split at f<;> cases f
 ·obtain⟨v,z⟩:=I.cell x c q;exact⟨v,z.sameBut d (I.cne x c q)⟩
 ·obtain⟨w,C,h,k,t⟩:=I.pin p y;exact⟨(d.2 p.1 h).trans w,C,h,k,t⟩
 ·refine(I.hok b u q).stay (λc v B r=>(d.2 c ?_).trans r) (λ_ r=>r) λ_ _ r=>r;rintro rfl;rcases B with z|z
  ·rw[<- z,I.free]at q;cases q
  ·rw[I.free]at z;cases z
def bKD(K:bYI)(Rf:Nat)(Q:VK):XK:=λcls b a=>∃ (C d:Nat)(t:Str),cls= .ref C/\b=some d/\vX K C/\cZW K C (.ref Rf)=some true/\a d=some (.xd [("words",.str t)])/\Q (.str t) a
section
variable {X:Cx}{pins:List (Nat×Obj)}{σ:St}{H:Hp}{s:bYK}
def Inv.recs{h':Heap}{ch:List Nat}(I:Inv X pins σ H s)(i:∀b∈ch,s.heap.objs.size<=b\/(X.s₀.heap.objs.size<=b/\b≠X.env.locals/\(∀x c,X.env.cells.lookup x=some c->c≠b)/\∀p∈X.pn++pins,p.1≠b))(m:∀b∈ch,H b=none) (keep:∀b o,b∉frs X.stack->b∉ch->s.heap.get? b=some o->h'.get? b=some o) (a:∀b o,b∉ch->s.heap.get? b=some o->∃k,h'.get? b=some {o with slots:=k}):Inv X pins σ H {s with heap:=h'}:=by
 have h:HOk X.prog X.w H h':=λb u q=>(I.hok b u q).stay (λc v t r=>by
  have f:H c≠none:=by
   rcases t with z|z
   ·rw[z,q];simp
   ·rw[z];simp
  exact keep c v (λz=>f (I.stkFree c z)) (λz=>f (m c z)) r) (λ_ r=>r) λ_ _ r=>r
 refine I.call (g':=s.gens) (t':=s.toks) (d':=s.drawn) (ch:=ch) ⟨λb o q _ j d=>keep b o j d q,λb o q _ _ d=>a b o d q,λ_ _ _ n _=>n,λb o q d=>?_,λ_ _ q=>q,λ_ _ _ q=>q,λ_ y q=>⟨#[],by rw[q];simp⟩⟩ h I.bare λb j=>?_
 ·obtain⟨k,z⟩:=a b o d q;exact⟨_,z⟩
 ·rcases i b j with z|⟨z1,z2,z3,z4⟩
  ·refine⟨.inr (cQn I.sz z),λe=>?_,λx c q e=>?_,λp l e=>?_⟩
   ·rw[e]at z;exact absurd (bY9 I.lt z) (cQQ _)
   ·obtain⟨v,o,g,_⟩:=I.cell x c q;rw[e]at g;exact absurd (bY9 (bYV g) z) (cQQ _)
   ·have g:=(I.pin p l).1;rw[e]at g;exact absurd (bY9 (bYV g) z) (cQQ _)
  ·exact⟨.inr z1,z2,z3,z4⟩
def bWV{body:List Stmt}{tb:XK->TS}{U n:Str}{i:Nat}{Rf:Nat}{cp p1 p2 p3 G tp:Pos}(hN:X.N.Nodup)(hi:X.N[i]? =some n)(hl:X.env.scope.names.lookup n=some .local)(hg:Gl X U)(hm:X.mg U=some (.ref Rf))(cr:vX X.K Rf) (a1:X.stack=X.env::X.outer) (b2:X.env.frame=some X.env.locals) (d0:X.calm=true) (a6:(n==("__debug__":Str))=false) (b6:(U==("__debug__":Str))=false) (c9:(n==("__classdict__":Str))=false) (hA:∀e,(X.A.mark (some (.ref e))).frames=X.A.frames) (j:∀ (pn:List (Nat×Obj))(xe:bYH->bYK->Prop)(E:XK),vJ (CXR X.prog X.w) {X with A:=X.A,calm:=X.calm,pn:=pn,xe:=xe} E->PSs {X with A:=X.A,calm:=X.calm,pn:=pn,xe:=xe} body (tb E)): PS X (.Try body [.ExceptHandler (some (.Name U cp)) (some n) [.Return (some (.Attribute (.Name n p1) "words" p2)) p3] G] [] [] tp) (λD σ H=>tb (bKD X.K Rf D.rt) D σ H):=by
 intro pins s σ H D I h;refine wpAny_Try_except ?_;have m:X.calm=true->X.A.handled=none:=I.ok.hd;have go:∀ (a2:List (Nat×Obj))(B:St)(M:Hp)(Z:bYK)(g:bYH)(k:bYK),Inv X pins B M Z->CXR X.prog X.w X.stack M Z (bKD X.K Rf D.rt) g k->
   bYP (bYR X.prog X.w) X.A (cJa g X.env) (λ_ W=>bYP (bYR X.prog X.w) X.A (cZQ g none) (λ_ S=>bYP (bYR X.prog X.w) X.A (handleBy g X.env [.ExceptHandler (some (.Name U cp)) (some n) [.Return (some (.Attribute (.Name n p1) "words" p2)) p3] G]) (SP X pins D) X.xe S) X.xe W) X.xe k:=by
  intro _ B M Z g k J1 hx
  obtain⟨e,C',dx,c0,H',rfl,os,bare,un,c6,x,he,ht,a0,a3,hE⟩:=hx
  obtain⟨C,d,t,ec,ed,cC,hs,hd,hq⟩:=hE
  have eC:C'=C:=by cases ec;rfl
  subst eC
  have eD:dx=d:=by cases ed;rfl
  subst eD
  have Y:Inv X pins B H' k:=J1.call' os un c6 bare λb z=>absurd z (by simp)
  have big:∀b,Z.heap.objs.size<=b->X.s₀.heap.objs.size<=b/\b≠X.env.locals/\(∀x c,X.env.cells.lookup x=some c->c≠b)/\∀p∈X.pn++pins,p.1≠b:=λb z=>by
   refine⟨cQn J1.sz z,λe=>?_,λx c q e=>?_,λp G e=>?_⟩
   ·rw[e]at z;exact absurd (bY9 J1.lt z) (cQQ _)
   ·obtain⟨v,o,O,_⟩:=J1.cell x c q;rw[e]at O;exact absurd (bY9 (bYV O) z) (cQQ _)
   ·have O:=(J1.pin p G).1;rw[e]at O;exact absurd (bY9 (bYV O) z) (cQQ _)
  refine aVr (base:=X.base) (outer:=X.outer) (L:=X.env.locals) (a1 ▸ Y.ok.frames) (a1 ▸ Y.stack) b2 x λh3 T y nT p=>?_
  have a7:frs X.stack=(X.env::X.outer).filterMap (·.frame):=by rw[a1];rfl
  have J3:Inv X pins B H' {k with heap:=h3}:=Y.recs (ch:= [e,c0]) (λb j=>by
    rcases bYQ.mp j with rfl|j
    ·exact .inr (big _ a0)
    ·rw[bYY.mp j];exact .inr (big _ a3)) (λb j=>by
    rcases bYQ.mp j with rfl|j
    ·exact he
    ·rw[bYY.mp j];exact ht)
   (λb o j R q=>p.keep b o (λz=>R (by simp[z])) (λz=>R (by cases z;simp)) (a7 ▸ j) q)
   (λb o R q=>p.slot b o (λz=>R (by simp[z])) (λz=>R (by cases z;simp)) q)
  have b0:H' T=none:=Y.hok.fresh nT
  have Q:X.s₀.heap.objs.size<=T/\T≠X.env.locals/\(∀x c,X.env.cells.lookup x=some c->c≠T)/\∀p∈X.pn++pins,p.1≠T:=by
   refine⟨cQn Y.sz nT,λe=>?_,λx c q e=>?_,λp G e=>?_⟩
   ·rw[e]at nT;exact absurd (bY9 Y.lt nT) (cQQ _)
   ·obtain⟨v,o,O,_⟩:=Y.cell x c q;rw[e]at O;exact absurd (bY9 (bYV O) nT) (cQQ _)
   ·have O:=(Y.pin p G).1;rw[e]at O;exact absurd (bY9 (bYV O) nT) (cQQ _)
  have mk:∀ {σ:St} {H:Hp} {s:bYK},Inv X pins σ H s->Inv {X with A:=X.A.mark (some (.ref e)),calm:=false,pn:=X.pn,xe:=λ_ _=>True} pins σ H s:=λJ=>J.mark (hA e) (λz=>by cases z) λp G=>G
  have un:∀ {σ:St} {H:Hp} {s:bYK},Inv {X with A:=X.A.mark (some (.ref e)),calm:=false,pn:=X.pn,xe:=λ_ _=>True} pins σ H s->Inv X pins σ H s:=λ{σ H s} J=>Inv.mark (X:={X with A:=X.A.mark (some (.ref e)),calm:=false,pn:=X.pn,xe:=λ_ _=>True}) J (hA e).symm m λp G=>G
  refine wpAny_handleBy_cons (codeAny_handlers_test ?_) (by intro q;cases q)
  refine uO (X:={X with A:=X.A.mark (some (.ref e)),calm:=false,pn:=X.pn,xe:=λ_ _=>True}) (mk J3) hg hm ?_ b6
  obtain⟨oe,vs,g1,g2,g3,g4,g5⟩:=y.obj
  refine aKJ J3.kIn cC cr hs g1 g2 ?_
  refine codeAny_handlers_suite_as ?_
  refine bQ7 (s:={k with heap:=h3}) y λh4 y4 k4 t4=>?_
  have J4:Inv X pins B H' {k with heap:=h4}:=Inv.recs (s:={k with heap:=h3}) (h':=h4) (ch:= [T]) J3 (λb j=>by rw[bYY.mp j];exact .inr Q) (λb j=>by rw[bYY.mp j];exact b0)
   (λb o _ R q=>k4 b o (λz=>R (by simp[z])) q) (λb o R q=>⟨o.slots,k4 b o (λz=>R (by simp[z])) q⟩)
  refine aQR (X:={X with A:=X.A.mark (some (.ref e)),calm:=false,pn:=X.pn,xe:=λ_ _=>True}) (v:= .ref e) (u:= .ref e) (mk J4) hN hi (.inl hl) rfl (λs5 J5 ⟨a,sb,ha⟩=>?_) (.inr hl)
  have a5:e≠a/\T≠a:=by
   rcases ha with z|z
   ·rw[z];exact⟨(big _ a0).2.1,Q.2.1⟩
   ·exact⟨λq=>(big _ a0).2.2.1 n a z q.symm,λq=>Q.2.2.1 n a z q.symm⟩
  have y5:qW s5.heap e (.ref C') (some dx) (some T):=y4.keeps λb o j q=>(sb.2 b (by
   rcases j with rfl|j
   ·exact a5.1
   ·cases j;exact a5.2)).trans q
  obtain⟨b9,c8,f1,f2,f3,f4,f5⟩:=y5.obj
  obtain⟨mA,a8,a4⟩:=J5.hok dx _ hd
  obtain⟨od,b4,a9⟩:=aZy a8
  obtain⟨u,hu,ru⟩:=aX3.some_of (v:=V.str t) (o:=mA "words") (a4 "words")
  obtain⟨m5,b7,c7⟩:=J5.loc
  obtain⟨u5,r5,l5⟩:=c7 i n (.ref e) hi (cZD (by rw[J4.len];exact(bYS.mp hi).1)) (.inl hl)
  obtain rfl:u5=Value.ref e:=r5
  have b3:m5 n=some (.ref e):=by
   rcases l5 with⟨_,z⟩|⟨z,_⟩
   ·exact z
   ·rw[show X.env.kindOf n=some .local from hl]at z;rcases z with z|z<;> cases z
  refine wpAny_execs_cons (wpAny_Return_some (aKs rfl ?_))
  refine wpAny_Name (wpAny_loadName_local J5.ok.kind hl b7 b3 ?_) a6
  refine bJz J5.kIn cC f1 f2 f3 (by obtain⟨c1,c2,c3,c4⟩:=b9;cases f4;rfl) b4 (by rw[a9,hu]) (aZk ru) ?_
  have J6:=(un J5).tok (s5.toks+1)
  obtain⟨m6,b5,_⟩:=J6.loc
  refine wpAny_nameGoes hl b5 (by rw[J6.ok.kind];rfl) λh7 m7 c5 b8=>?_
  exact⟨.str t,_,H',J6.names (t':=s5.toks+1+1) c5 b8,ru,hq⟩
 have b1:vJ (CXR X.prog X.w) {X with A:=X.A,calm:=X.calm,pn:=X.pn++pins,xe:=λg k=>bYP (bYR X.prog X.w) X.A (cJa g X.env) (λ_ W=>bYP (bYR X.prog X.w) X.A (cZQ g none) (λ_ S=>bYP (bYR X.prog X.w) X.A (handleBy g X.env [.ExceptHandler (some (.Name U cp)) (some n) [.Return (some (.Attribute (.Name n p1) "words" p2)) p3] G]) (SP X pins D) X.xe S) X.xe W) X.xe k} (bKD X.K Rf D.rt):=
  λa2 B M Z g k J hx=>go [] B M Z g k (Inv.mark (X:={X with A:=X.A,calm:=X.calm,pn:=X.pn++pins,xe:=λg k=>bYP (bYR X.prog X.w) X.A (cJa g X.env) (λ_ W=>bYP (bYR X.prog X.w) X.A (cZQ g none) (λ_ S=>bYP (bYR X.prog X.w) X.A (handleBy g X.env [.ExceptHandler (some (.Name U cp)) (some n) [.Return (some (.Attribute (.Name n p1) "words" p2)) p3] G]) (SP X pins D) X.xe S) X.xe W) X.xe k}) J rfl m λp P=>cXR _ P) hx
 have I':Inv {X with A:=X.A,calm:=X.calm,pn:=X.pn++pins,xe:=λg k=>bYP (bYR X.prog X.w) X.A (cJa g X.env) (λ_ W=>bYP (bYR X.prog X.w) X.A (cZQ g none) (λ_ S=>bYP (bYR X.prog X.w) X.A (handleBy g X.env [.ExceptHandler (some (.Name U cp)) (some n) [.Return (some (.Attribute (.Name n p1) "words" p2)) p3] G]) (SP X pins D) X.xe S) X.xe W) X.xe k} [] σ H s:=
  I.mark rfl m λp P=>by simpa using P
 have F:∀ {σ:St} {H:Hp} {s:bYK},Inv {X with A:=X.A,calm:=X.calm,pn:=X.pn++pins,xe:=λg k=>bYP (bYR X.prog X.w) X.A (cJa g X.env) (λ_ W=>bYP (bYR X.prog X.w) X.A (cZQ g none) (λ_ S=>bYP (bYR X.prog X.w) X.A (handleBy g X.env [.ExceptHandler (some (.Name U cp)) (some n) [.Return (some (.Attribute (.Name n p1) "words" p2)) p3] G]) (SP X pins D) X.xe S) X.xe W) X.xe k} [] σ H s->Inv X pins σ H s:=
  λ{σ H s} J=>⟨bJU J.ok,J.os,J.bare,J.base,J.loc,J.cell,J.free,J.freeC,λp P=>J.pin p (by simpa using P),J.hok,J.len⟩
 refine cQJ (j _ _ _ b1 [] s σ H D I' h) (λf Z q=>?_) λ_ _ q=>q;cases f with
 |next=>obtain⟨l,M,J,q⟩:=q;exact yS pins Z l M D (F J) q
 |ret v=>obtain⟨u,l,M,J,r,q⟩:=q;exact⟨u,l,M,F J,r,q⟩
 |brk=>obtain⟨l,M,J,q⟩:=q;exact⟨l,M,F J,q⟩
 |cont=>obtain⟨l,M,J,q⟩:=q;exact⟨l,M,F J,q⟩
end
end L2
namespace L2
open PySem PySem.Spec PyProof.Rows
def aKV{P:bY4}{w:cQa}{K:bYI}{mg mb:Str->Option bYH}{CX:CXT}{k:Nat}{fa a c T:Nat}{fd:cXG}{x:Str}{sp:Sp}{f:bYK}{vs:List bYH}{S:List Int} (KX:K.In f.heap) (E:f.heap.Ns cQe mg) (p:f.heap.Ns builtinsNs mb) (a8:∀x:Str,x≠"__name__"->mb x=cQq x) (O:f.heap.NoLimit) (hg:f.gens= #[]) (L:f.heap.get? a=some {cls:= .type "list",data:= .seq vs.toArray}) (hi:cZf vs S) (hl:S.length<=bY8) (hr:vP k callerA) (hC:cXN f.heap c T) (M:f.heap.get? T=some (cZh #[])) (a3:K.lookup T=none) (a7:∃N C,mg "__builtins__"=some (.ref N)/\N≠builtinsNs/\f.heap.get? N=some C/\C.cls= .type "module"/\C.dict=some builtinsNs/\C.data= .plain) (F:∀base:Heap,K.In base->base.Ns cQe mg->cXN base c T->base.BuiltinsAt mg T->xD P w K mg base CX k fa fd [x] sp) (G:∀ (s:bYK)(u:bYH),BindsTo s fd ⟨[u],[]⟩ [(x,u)]) (a6:∀H:Hp,H T=some (.tbl #[])->SqL K H a (S.map V.int)->sp [.ref a] H (λv _=>v= .bl true) λ_ _ _=>False) (a5:∀H e j,CX [] H f (λ_ _ _=>False) e j->False): cXY (bYR P w) callerA (.call (.ref fa) ⟨[.ref a],[]⟩) (λr j=>r= .ok (.ret (.bool true))/\OldK f.heap j.heap/\j.os=f.os/\AllBare j.gens) f:=by
 have rv:=uU hi;have R:=hi.length;have Y:a≠T:=λz=>by rw[z,M]at L;cases L
 have B:∀H:Hp,H T=some (.tbl #[])->SqL K H a (S.map V.int)->HOk P w H f.heap->(∀b,H b≠none->b=T\/(b=a/\∃o xs,H b=some (.frz o (.lst xs))))->(H a≠none->K.lookup a=none)->
   cXY (bYR P w) callerA (.call (.ref fa) ⟨[.ref a],[]⟩) (λr j=>r= .ok (.ret (.bool true))/\OldK f.heap j.heap/\j.os=f.os/\AllBare j.gens) f:=by
  intro H hH hS a0 hA hK
  have i:∀ {b:Nat} {o:Obj},f.heap.get? b=some o->H b=none->(aKN f.heap H).get? b=some o:=λe n=>bQ0 e n
  have l:∀ {b:Nat} {o:Obj},f.heap.get? b=some o->(∀ps,o≠cZh ps)->(∀A,o≠ {cls:= .type "list",data:= .seq A})->H b=none:=λ{b o} e n1 n2=>by
   cases q:H b with
   |none=>rfl
   |some u=>
    rcases hA b (by rw[q];simp)with z|⟨z,_⟩
    ·rw[z,M]at e;cases e;exact absurd rfl (n1 _)
    ·rw[z,L]at e;cases e;exact absurd rfl (n2 _)
  have y:∀ {b:Nat} {m:Str->Option bYH},f.heap.Ns b m->(aKN f.heap H).Ns b m:=λ{b m} ⟨o,es,ep,e,d,r⟩=>⟨o,es,ep,i e (l e (λps z=>by rw[z]at d;cases d) (λA z=>by rw[z]at d;cases d)),d,r⟩
  have U:K.In (aKN f.heap H):=λb o e=>i (KX b o e) (by
   cases q:H b with
   |none=>rfl
   |some u=>
    rcases hA b (by rw[q];simp)with z|⟨z,_⟩
    ·rw[z,a3]at e;cases e
    ·subst z;rw[hK (by rw[q];simp)]at e;cases e)
  have hM:Mod K mg (aKN f.heap H):=⟨U,y E,⟨mb,y p,a8⟩,let ⟨mc,h1,h2⟩:=O;⟨mc,y h1,h2⟩⟩
  have e0:bJm P w K mg (aKN f.heap H) callerA [] f H:=⟨rfl,hM,λb o e=>bJT e,cZk (aKO _ _),trivial,λb p=>absurd (show b∈([]:List Nat)from p) (by simp),a0,.of_eq hg⟩
  have a4:cXN (aKN f.heap H) c T:=by
   obtain⟨o,vs,file,tf,I,tg,a1,text,tt,e,X,r⟩:=hC;exact⟨o,vs,file,tf,I,tg,a1,text,tt,i e (l e (λps z=>by rw[z]at X;cases X) (λA z=>by
    rw[z]at X;have c':Value.type "list"=Value.type "code":=X;injection c' with c''
    exact absurd c'' (by decide))),X,r⟩
  have a2:(aKN f.heap H).BuiltinsAt mg T:=by
   obtain⟨N,C,b1,b2,J,b4,b5,b6⟩:=a7;refine⟨N,C,b1,b2,λz=>?_,λz=>?_,i J (l J (λps z=>by rw[z]at b4;cases b4) (λA z=>by rw[z]at b6;cases b6)),b4,b5,b6⟩
   ·obtain⟨o,es,ep,e,d,_⟩:=E;rw[z,e]at J;cases J;rw[d]at b6;cases b6
   ·rw[z,M]at J;cases J;cases b4
  refine cXB ((F _ U (y E) a4 a2).run callerA [] f H ⟨[.ref a],[]⟩ [.ref a] [.ref a] _ _ hr e0 (G f (.ref a)) (.cons rfl .nil) (a6 H hH hS)) λr j h=>?_
  cases r with
  |error e=>exact(a5 H e j h).elim
  |ok fl=>
   cases fl with
   |next=>exact cXc h
   |brk=>exact cXc h
   |cont=>exact cXc h
   |ret u=>
    obtain⟨v,H',os,bare,un,D,r',q⟩:=h;have q':v= .bl true:=q;subst q';obtain rfl:u=Value.bool true:=r';obtain⟨more,hm⟩:=un.tbls T _ hH;have Q:j.heap.get? T=some (cZh (#[]++more)):=D T _ hm;have get:∀b o,b≠T->f.heap.get? b=some o->j.heap.get? b=some o:=λb o g e=>by
     cases q:H b with
     |none=>exact un.keep b o e q (by intro z;exact absurd (show b∈([]:List Nat)from z) (by simp)) (by simp)
     |some u=>
      rcases hA b (by rw[q];simp)with z|⟨_,C,xs,z⟩
      ·exact absurd z g
      ·have z2:=un.frzs b C _ z;obtain⟨e1,_⟩:=a0 b _ z;obtain⟨e2,_⟩:=D b _ z2;rw[e]at e1;cases e1;exact e2
    refine⟨rfl,⟨λb o e=>?_,λb o e=>?_⟩,os,bare⟩
    ·by_cases g:b=T
     ·subst g;rw[M]at e;cases e;exact .inr (.inl ⟨(hC.tab M).isCodeTable,rfl, #[],more,rfl,Q⟩)
     ·exact .inl (get b o g e)
    ·by_cases g:b=T
     ·exact⟨_,by rw[g];exact Q⟩
     ·exact⟨o,get b o g e⟩
 have Z:∀H:Hp,zD P w H f.heap T (.tbl #[]):=λH=>M;cases hk:K.lookup a with
 |some o=>
  have e:=KX a o hk;rw[L]at e;cases e;refine B (λb=>if b=T then some (.tbl #[])else none) (if_pos rfl) (.inr ⟨_,vs.toArray,_,hk,rfl,rfl,rfl,by rw[bYZ,R];exact hl,by simpa using rv⟩) (λb u z=>?_) (λb z=>?_) λz=>absurd (if_neg Y) z
  ·by_cases g:b=T
   ·have t:=(if_pos g).symm.trans z;cases t;subst g;exact Z _
   ·have t:=(if_neg g).symm.trans z;cases t
  ·by_cases g:b=T
   ·exact .inl g
   ·exact absurd (if_neg g) z
 |none=>
  refine B (λb=>if b=T then some (.tbl #[])else if b=a then some (.frz {cls:= .type "list",data:= .seq vs.toArray} (.lst (S.map V.int)))else none) (if_pos rfl)
   (.inl (.inr ⟨{cls:= .type "list",data:= .seq vs.toArray},by show(if a=T then _ else _)=_;rw[if_neg Y,if_pos rfl]⟩)) (λb u z=>?_) (λb z=>?_) λ_=>hk
  ·by_cases g:b=T
   ·have t:=(if_pos g).symm.trans z;cases t;subst g;exact Z _
   ·have z1:=(if_neg g).symm.trans z;by_cases p:b=a
    ·have t:=(if_pos p).symm.trans z1;cases t;subst p;exact⟨L,by rw[bYL];exact hl,vs,_,rv,L⟩
    ·have t:=(if_neg p).symm.trans z1;cases t
  ·by_cases g:b=T
   ·exact .inl g
   ·by_cases p:b=a
    ·exact .inr ⟨p,_,_,by show(if b=T then _ else _)=_;rw[if_neg g,if_pos p]⟩
    ·exact absurd (by show(if b=T then _ else _)=_;rw[if_neg g,if_neg p]) z
def bZH{l:PySem.W.OpenLaw}{n k:Nat}{q:bY4}{loose:List Str}{O:(Str->Option bYH)->Heap->Prop}{z:cQa->Heap->Prop}{d:DefRec}{K:Params->bYI}{CX:CXT}{sp:Nat->bYI->Sp}{x:Str}{T:Nat} (Z:l.most=some n) (E:n<=bY8) (B:d.params.defaults= []) (R:vP k callerA) (P:∀ (w:cQa)(h:Heap),z w h->(K w.params).In h) (J:∀ (w:cQa)(h:Heap),z w h->h.get? T=some (cZh #[])) (F:∀ (w:cQa)(mg:Str->Option bYH)(t:Nat)(h:Heap),(K w.params).In h->h.Ns cQe mg->mg d.name=some (.ref t)-> ∃ (A:cXG)(c:Nat),cJl (K w.params) c T=true/\(K w.params).lookup T=none/\(∀ (s:bYK)(u:bYH),BindsTo s A ⟨[u],[]⟩ [(x,u)])/\ ∀base:Heap,(K w.params).In base->base.Ns cQe mg->cXN base c T->base.BuiltinsAt mg T->xD l.prog w (K w.params) mg base CX k t A [x] (sp T (K w.params))) (C:∀ (K:bYI)(H:Hp)(a:Nat)(r:List Int),r.length<=n->H T=some (.tbl #[])->SqL K H a (r.map V.int)->sp T K [.ref a] H (λv _=>v= .bl true) λ_ _ _=>False) (D:∀ (H:Hp)(s:bYK)(e:bYH)(I:bYK),CX [] H s (λ_ _ _=>False) e I->False): PySem.W.WalkO q loose O z l.row.toRowW d [] (λf N=>PySem.call f N):=by
 refine Att.aZ9 Z B λw s₀ m mg mb t o pm cd a0 a N r G Y ho hd a1 y p j i X=>?_;have M:=P w _ Y;obtain⟨A,c,Q,L,hb,U⟩:=F w mg t _ M G.T.g y;exact aKV M G.T.g G.T.b G.T.builtins G.T.nolimit X p j (cQn i E) R (PySem.W.codeHd_of_K M Q) (J w _ Y) L G.T.bmain U hb (λH hO S=>C _ H a r i hO S) λH e I=>D H m e I
end L2
namespace Thr
open PySem L2 PyProof.Rows
open Stree (qG u9 z9)
def aZl(x:Str):Stmt->Bool
 |.FunctionDef n _ _ _ _ _ _ _ _ _=>n==x
 |_=>false
def xC(x:Str):Stmt:=(PySem.Challenge.pw_letterdesk_k05_whole_numbers_and_trees.main.body.find? (aZl x)).getD (.Pass ⟨0,0,0,0⟩)
abbrev aJV:Stmt:=xC "thread"
abbrev aYX:Stmt:=xC "top_of"
abbrev aJN:Stmt:=xC "answers_to_each"
def y9:cQq "len"=some (.builtin "len"):=dk
def w6:cQq "sorted"=some (.builtin "sorted"):=dk
def y7:cQq "isinstance"=some (.builtin "isinstance"):=dk
def uI:cQq "int"=some (.type "int"):=dk
def aQ9:cQq "str"=some (.type "str"):=dk
def wZ:cQq "list"=some (.type "list"):=dk
def uX:cQq "tuple"=some (.type "tuple"):=dk
structure vD(mg:Str->Option bYH):Prop where
 b_len:mg "len"=none
 b_sorted:mg "sorted"=none
 b_isinstance:mg "isinstance"=none
 b_int:mg "int"=none
 b_str:mg "str"=none
 b_bool:mg "bool"=none
 b_list:mg "list"=none
 b_tuple:mg "tuple"=none
 b_range:mg "range"=none
def vB{a H:Hp}{c:Nat}{o:HO}(k:xA a H)(h:a c=none):xA a (upd H c o):=λb u q=>by rw[yI (yJ q h)];exact k b u q
def aWq{K:bYI}{a:Nat}{xs:List V}{E:List Nat}{σ:L2.St}{D:Nat}{Q:VK}{H:Hp}(hl:SqL K H a xs)(u:H D=none)(hz:xs.length<=1000) (G:∀ (d:Hp)(c:List Nat),xA H d->d D=some (.lst (c.map V.ref))->c.length=xs.length->c.Nodup->(∀b∈c,d b=some (.lst [])/\H b=none/\b≠D)->Q (.ref D) d):bJo (Itl K a) E bYa (bYj bZu) σ D Q (upd H D (.lst [])):=by
 refine⟨λi m q d=>m=xs.length - i/\i<=xs.length/\∃c:List Nat,q=c.map V.ref/\c.length=i/\c.Nodup/\xA H d/\d D=some (.lst q)/\∀b∈c,d b=some (.lst [])/\H b=none/\b≠D,
  ⟨xs.length,by simp,cQE _,[],rfl,rfl,.nil,yG u _,yB,λb g=>nomatch g⟩,?_⟩
 rintro i m q d ⟨rfl,J,c,rfl,o,s,k,j,f⟩;refine⟨j,?_⟩;have t:=xA.seq k hl;by_cases n:i<xs.length
 ·refine .inr ⟨⟨xs,xs[i],t,bYG n⟩,λv I A=>?_⟩;obtain⟨rfl,y⟩:=A;refine⟨z0,λp h=>?_⟩;have e:p≠D:=cQr (yJ j h);have l:p∉c:=λz=>by rw[(f p z).1]at h;cases h
  refine⟨zlt (by rw[bYL];omega),by rw[yI (cQr e)];exact j,xs.length - (i+1),by omega,rfl,by omega,c++ [p],by simp,by simp[o],?_,?_,yB,λb g=>?_⟩
  ·rw[cZa];exact⟨s,by simp,λx C y B z=>by rw[bYY.mp B]at z;exact l (z ▸ C)⟩
  ·exact vB (k.trans (yG h _)) u
  ·rcases cQm.mp g with g|g
   ·obtain⟨r,F,w⟩:=f b g;exact⟨by rw[yI w,yI (yJ r h)];exact r,F,w⟩
   ·rw[bYY.mp g];exact⟨by rw[yI e];exact yB,k.fresh h,e⟩
 ·refine .inl ⟨⟨xs,t,by omega⟩,G d c k j (by omega) s f⟩
def wO:Option Nat->V
 |none=> .non
 |some j=> .int (j:Nat)
def vR(n:Nat)(L:Nat->Option Nat):List V:=(bYU n).map λi=>wO (L i)
def qL(n:Nat)(D:Nat->Int):List V:=(bYU n).map λi=> .int (D i)
def jA{n i:Nat}{L:Nat->Option Nat}(h:i<n):(vR n L)[i]? =some (wO (L i)):=by unfold vR;rw[bY1,cXr h];rfl
def aWe{n i:Nat}{D:Nat->Int}(h:i<n):(qL n D)[i]? =some (.int (D i)):=by unfold qL;rw[bY1,cXr h];rfl
inductive bKd(K:bYI)(vs:List V)(H:Hp)(Q:VK)(_:XK):Prop|mk (a:Nat) (n:Nat) (L:Nat->Option Nat) (rk:Nat->Nat) (i:Nat) (_:vs= [.ref a,.int (i:Nat)]) (_:SqL K H a (vR n L)) (_:Fm.Ok n L rk) (_:i<n) (_:Q (.int (Fm.tp L rk i:Nat)) H)
def z8(T:Nat):Hp->Prop:=Y0 ⟨116,48,116,71⟩ "answers_to_each.<locals>.<lambda>" T
structure bYc(n:Nat)(L:Nat->Option Nat)(D:Nat->Int)(kd:Nat->List Nat):Prop where
 mem:∀j i,i∈kd j↔i<n/\L i=some j
 ord:∀j,(kd j).Pairwise λx y=>z9 (D y,(y:Int)) (D x,(x:Int))=true
inductive bVV(T:Nat)(vs:List V)(H:Hp)(Q:VK)(_:XK):Prop|mk (la da:Nat) (n:Nat) (L:Nat->Option Nat) (rk:Nat->Nat) (D:Nat->Int) (_:vs= [.ref la,.ref da]) (_:H la=some (.lst (vR n L))) (_:H da=some (.lst (qL n D))) (_:Fm.Ok n L rk) (_:n<=63) (_:z8 T H) (_:∀ (H':Hp)(a:Nat)(rs:List Nat)(kd:Nat->List Nat),x4 H H'->z8 T H'->H' a=some (.lst (rs.map V.ref))->rs.length=n->(∀j b,rs[j]? =some b->H' b=some (.lst ((kd j).map λi=>V.int (i:Nat))))->bYc n L D kd->Q (.ref a) H')
inductive aVV(T:Nat)(vs:List V)(H:Hp)(Q:VK)(_:XK):Prop|mk (la da:Nat) (n:Nat) (L:Nat->Option Nat) (rk:Nat->Nat) (D:Nat->Int) (i:Nat) (_:vs= [.ref la,.ref da,.int (i:Nat)]) (_:H la=some (.lst (vR n L))) (_:H da=some (.lst (qL n D))) (_:Fm.Ok n L rk) (_:n<=63) (_:i<n) (_:z8 T H) (_:∀ (H':Hp)(r:Nat)(told:List Nat),(∀b u,(∀ps,u≠HO.tbl ps)->H b=some u->b≠r)->x4 H H'->z8 T H'->H' r=some (.lst (told.map λi=>V.int (i:Nat)))->(told.Pairwise λx y=>u9 (Fm.rd L D rk x) (Fm.rd L D rk y)=true)->(∀k,k∈told↔k<n/\Fm.tp L rk k=Fm.tp L rk i)->Q (.ref r) H')
section
variable {K:bYI}
def bZh:yO ["links","number","top"] ["links","number"] (yH aYX):=scM
def bXG(T:vD mg)(F:Fun K "top_of" "top_of" aYX f fd):xD P w K mg base CX0 1 f fd ["links","number"] (bKd K):=by
 have x:=bZh;refine F.ok (k:=0) x (λy A outer s B D Q E C h=>?_);obtain⟨a,n,L,b,i,rfl,o,p,v,q⟩:=h;refine⟨_,(yC (yU (i:=2) (pv 1)) (yC (jD cQv (yM wC (yL yK (pv 0) (pv 2)) x2) (yF (yU (i:=2) (yL yK (pv 0) (pv 2))))) (yF (yP (pv 2))))),?_⟩;refine⟨_,rfl,?_⟩;refine⟨λm σ H=>∃t:Nat,σ= [some (.ref a),some (.int (i:Nat)),some (.int (t:Nat))]/\H=B/\t<n/\Fm.tp L b t=Fm.tp L b i/\m=b t,⟨b i,i,rfl,rfl,v,rfl,rfl⟩,?_⟩;rintro m σ H ⟨t,rfl,rfl,e,c,rfl⟩;refine⟨_,rfl,_,rfl,a,_,_,_,rfl,rfl,o,yR (jA e),rfl,_,rfl,?_⟩;cases hl:L t with
 |none=>refine onF rfl ⟨_,rfl,?_⟩;rw[Fm.zZ hl]at c;rw[c];exact q
 |some j=>obtain⟨u,g⟩:=p.lt t j e hl;refine onT rfl ⟨λd r=>∃l,l<b t/\∃t:Nat,d= [some (.ref a),some (.int (i:Nat)),some (.int (t:Nat))]/\r=H/\t<n/\Fm.tp L b t=Fm.tp L b i/\l=b t,λd r z=>z,?_⟩;refine⟨_,rfl,_,rfl,a,_,_,_,rfl,rfl,o,yR (jA e),?_⟩;rw[hl];exact⟨b j,g,j,rfl,rfl,u,by rw[<- c,Fm.v9 p e hl],rfl⟩
def bW3:yO ["links","dates","answers","letter"] ["links","dates"] (yH aJN):=scM
def bWD:xJ ["links","dates","answers","letter"] (yH aJN) "link" [] [] (lsN [(".0",.local),("link",.local)]):=
 lcM
def bJM:xJ ["links","dates","answers","letter"] (yH aJN) "n" ["dates"] [1] (lsN [("n",.local),("dates",.free)]):=
 lcM
def bWK{oc:bYH}{od an:Option Nat}{b3:Array (Option bYH)}{kV a2 pm ct:bYH}(T:vD mg)(C:cXN base c Tb)(hB:base.BuiltinsAt mg Tb) (lk:K.lookup f=some ⟨oc,od,.func (cQK "answers_to_each" "answers_to_each" (xZ aJN) (xO aJN) (yH aJN) .none kV a2 pm an (.ref c) ct),b3⟩) (a8:cXp K (.ref c) "answers_to_each"=true): xD P w K mg base CX0 2 f (cQK "answers_to_each" "answers_to_each" (xZ aJN) (xO aJN) (yH aJN) .none kV a2 pm an (.ref c) ct) ["links","dates"] (bVV Tb):=by
 have sc:=bW3;refine bJD (k:=1) lk a8 sc (λvs H Q E h=>by obtain⟨M,da,n,L,rk,D,rfl,_⟩:=h;rfl) λA outer s H0 vs Q E hr h=>?_;suffices O:∃t,PSs (aXs CX0 P w K mg base ["links","dates","answers","letter"] "answers_to_each" (yH aJN) f (.ref c) A outer s H0 E).nox (xO aJN) t/\t {nx:=λ_ H'=>Q .non H',rt:=Q} (start ["links","dates","answers","letter"] vs) H0 by obtain⟨t,g,u⟩:=O;exact⟨t,g.nox,u⟩
 obtain⟨M,da,n,L,rk,D,rfl,r,b1,ho,hn,hT,q⟩:=h;refine⟨_,(yC (aZH (i:=2) bWD rfl sc.nd rfl rfl (xM (pv 0)) (λ_ _ _ _ _=>zV) (λ_ _ _ _ _=>(y6 yD))) (yC (zN cQv rfl (xM (aWR (qual:="answers_to_each.<locals>.<lambda>") rfl T.b_sorted rfl T.b_range (yT yN rfl T.b_len y9 (yA (pv 0) yD)) bJM rfl rfl rfl C hB hr rfl rfl (λ_ _ _ _ _=>rfl) (λ_ _ _ _ _ _ _=>xI (yA (yL ixK (pv 1) (pv 0)) (yA (pv 0) yD))))) (xB (i:=3)) (yF (y0 (yM wC (yL yK (pv 0) (pv 3)) x2) (yF (yY (uF cQj cQo cQp xL (yL yK (pv 2) (yL yK (pv 0) (pv 3))) (yA (pv 3) yD)))) yS))) (yF (yP (pv 2))))),?_⟩;have G:(vR n L).length=n:=by simp[vR]
 refine⟨_,rfl,M,rfl,⟨_,SqL.of r⟩,λa ha=>aWq (SqL.of r) ha (by omega) λH1 d U hD a3 nd y=>?_⟩;rw[G]at a3;dsimp only[yW];have Y:=U _ _ r;have Z:=U _ _ b1;have a9:z8 Tb H1:=by
  rcases hT with t|⟨c',t1,t2⟩
  ·exact .inl (U _ _ t)
  ·exact .inr ⟨c',U _ _ t1,U _ _ t2⟩
 refine⟨_,rfl,M,_,rfl,.inl (SqL.of Y),?_⟩;rw[G];refine⟨n,rfl,by omega,a9,λi=>(D i,(i:Int)),λi j _ _ z=>?_,λi H3 N k3 t3 R hR=>?_,λH5 l out k5 t5 nl I b2 h5=>⟨l,rfl,⟨_,SqL.of h5⟩,?_⟩⟩
 ·have:=congrArg Prod.snd z;simp only at this;omega
 ·refine⟨_,rfl,_,rfl,da,_,_,_,rfl,rfl,SqL.of (k3.lst Z),yR (aWe N),_,rfl,z2,λp hp=>hR p _ (yG hp _).t ?_ yB⟩;rcases t3 with t|⟨_,t,_⟩
  ·rw[yI (yJ t hp)]
  ·rw[yI (yJ t hp)]
 ·have hm:∀i∈out,i<n:=λi N=>cQf.mp (I.mem_iff.mp N);have kk:x4 H0 H5:=U.t.trans k5;have nr:∀b o,H0 b=some o->b∉d:=λb o e z=>by rw[(y b z).2.1]at e;cases e
  have r5:∀b∈d,H5 b=some (.lst []):=λb v=>k5.lst (y b v).1;have nT:Tb∉d:=λz=>by
   have e:=r5 _ z;rcases t5 with t|⟨_,t,_⟩
   ·rw[t]at e;cases e
   ·rw[t]at e;cases e
  have b0:l∉d:=λz=>by rw[(y l z).1]at nl;cases nl
  have a1:a∉d:=λz=>(y a z).2.2 rfl;have a6:H5 a=some (.lst (d.map V.ref)):=k5.lst hD;refine zO (xs:=out.map λi=>V.int (i:Nat)) (λt σ H=>∃lt,σ= [some (.ref M),some (.ref da),some (.ref a),lt]/\(∀b o,H5 b=some o->b∉d->H b=some o)/\
   ∀j b,d[j]? =some b->H b=some (.lst (((out.take t).filter λi=>decide (L i=some j)).map λi=>V.int (i:Nat)))) ?_ ?_ ?_ ?_
  ·exact⟨none,rfl,λb o e _=>e,λj b v=>r5 b (bY0 v)⟩
  ·rintro t σ H ht ⟨lt,rfl,g,u⟩;exact SqL.of (g _ _ h5 b0)
  ·rintro t x σ H O ⟨lt,rfl,g,u⟩;rw[bY1]at O;cases he:out[t]? with
   |none=>rw[he]at O;cases O
   |some i=>
    rw[he]at O;cases O;have N:=hm i (bY0 he);have a0:out.take (t+1)=out.take t++ [i]:=by rw[cQP,he];rfl
    have B:H M=some (.lst (vR n L)):=g _ _ (kk.lst r) (nr _ _ r);have b4:H a=some (.lst (d.map V.ref)):=g _ _ a6 a1;dsimp only[yW];refine⟨_,rfl,_,rfl,M,_,_,_,rfl,rfl,SqL.of B,yR (jA N),rfl,_,rfl,?_⟩;cases hl:L i with
    |none=>
     refine onF rfl ⟨_,rfl,g,λj b v=>?_⟩;rw[u j b v,a0,cQT];have: [i].filter (λi=>decide (L i=some j))= []:=by simp[hl]
     rw[this,cQN]
    |some j=>
     obtain⟨hj,_⟩:=ho.lt i j N hl;have S:j<d.length:=by omega
     have v:=bYG S;have a4:=u j _ v;refine onT rfl ?_;refine⟨_,rfl,_,rfl,_,rfl,M,_,_,_,rfl,rfl,SqL.of B,yR (jA N),?_⟩;rw[hl];refine⟨a,_,_,.ref d[j],rfl,rfl,SqL.of b4,yR (by rw[bY1,v];rfl),.inl ⟨rfl,_,SqL.of a4⟩,_,rfl,d[j],_,_,rfl,rfl,a4,zlt ?_,_,rfl,λb o e a5=>?_,λX b m=>?_⟩
     ·rw[bYL];have:=cQM (λi=>decide (L i=some j)) (out.take t);have h3:=List.length_take_le t out;have h4:out.length=n:=by rw[I.length_eq,cQt]
      have h5:(out.take t).length<=out.length:=by rw[cQV];omega
      omega
     ·rw[yI (λz=>a5 (by rw[z];exact cXo S))];exact g b o e a5
     ·rw[a0,cQT];by_cases J:X=j
      ·subst J;rw[v]at m;cases m;rw[yB];have: [i].filter (λi=>decide (L i=some X))= [i]:=by simp[hl]
       rw[this,cXt];rfl
      ·have a7:b≠d[j]:=λz=>by
        have h6:X<d.length:=(bYS.mp m).1;have h7:d[X]=b:=(bYS.mp m).2;exact J ((cXx (h₀:=h6) (h₁:=S) nd).mp (h7.trans z))
       rw[yI a7,u X b m];have: [i].filter (λi=>decide (L i=some X))= []:=by simp[hl,cQr J]
       rw[this,cQN]
  ·rintro σ H ⟨lt,rfl,g,u⟩;rw[bYL,cQI]at u;refine⟨_,rfl,q H a d (λj=>out.filter λi=>decide (L i=some j)) (λb o nt e=>g b o (kk b o nt e) (nr b o e)) ?_ (g _ _ a6 a1) a3 u ⟨λj i=>?_,λj=>?_⟩⟩
   ·rcases t5 with t|⟨c',t1,t2⟩
    ·exact .inl (g _ _ t nT)
    ·exact .inr ⟨c',g _ _ t1 nT,g _ _ t2 λz=>by rw[r5 _ z]at t2;cases t2⟩
   ·rw[cQO,I.mem_iff,cQf,decide_eq_true_eq]
   ·exact(b2.imp λh=>by simpa using h).sublist cXK
end
def aWn{n:Nat}{L:Nat->Option Nat}{D:Nat->Int}{a:Nat->List Nat}(h:bYc n L D a)(j:Nat):(a j).length<=n:=
 Fm.wK ((h.ord j).imp λ{x y} e z=>by rw[z,Stree.vK]at e;cases e) λx b=>((h.mem j x).mp b).1
def bV6{n:Nat}{L:Nat->Option Nat}{D:Nat->Int}{rk:Nat->Nat}{a:Nat}{b nx:List Nat}(W:Fm.aZ3 n L D rk a b nx):nx.length<=n:=
 Fm.wK (W.aa.imp λ{x y} e z=>by have:=e x (List.prefix_refl _);rw[z,Stree.vL]at this;cases this) λx c=>(W.al x c).1
section
variable {K:bYI}
def bQd:yO ["links","dates","number","answers","told","ahead","letter"] ["links","dates","number"] (yH aJV):=scM
def aYr(T:vD mg)(g:FnG P w K mg base 2 "answers_to_each" ["links","dates"] (bVV Tb))(p:FnG P w K mg base 2 "top_of" ["links","number"] (bKd K))(F:Fun K "thread" "thread" aJV f fd): xD P w K mg base CX0 3 f fd ["links","dates","number"] (aVV Tb):=by
 have sc:=bQd;refine F.ok (k:=2) sc (λa4 A outer s H0 vs Q E hr h=>?_);obtain⟨la,da,n,L,y,D,i,rfl,Z,a2,ho,hn,hi,hT,q⟩:=h;refine⟨_,(yC (yU (i:=3) (xK g hr rfl (yA (pv 0) (yA (pv 1) yD)))) (yC (yU (i:=4) (y6 yD)) (yC (yU (i:=5) (y6 (yA (xK p hr rfl (yA (pv 0) (yA (pv 2) yD))) yD))) (yC (jD cQv (yM aQo (yT yN rfl T.b_len y9 (yA (pv 5) yD)) yE) (yC (yU (i:=6) (bZ2 cQj PySem.F.slot_list_pop PySem.F.type_list_pop bZ0 (pv 5))) (yC (yY (uF cQj cQo cQp xL (pv 4) (yA (pv 6) yD))) (yF (yY (uF cQj PySem.F.slot_list_extend PySem.F.type_list_extend aK6 (pv 5) (yA (yL yK (pv 3) (pv 6)) yD))))))) (yF (yP (pv 4))))))),?_⟩;refine⟨_,rfl,_,rfl,la,da,n,L,y,D,rfl,Z,a2,ho,hn,hT,λO a rs kd k1 t1 ha a5 a3 hk=>?_⟩;dsimp only[yW];refine⟨z0,λr J=>?_⟩;dsimp only[yW];have k2:=yG J (.lst []);refine⟨_,rfl,_,rfl,la,n,L,y,i,rfl,SqL.of (k2 _ _ (k1.lst Z)),ho,hi,z1,λo N=>?_⟩;dsimp only[yW];have R:O o=none:=k2.fresh N;have B:r≠o:=yJ yB N;have k3:xA O (upd (upd O r (.lst [])) o (.lst [V.int (Fm.tp L y i:Nat)])):=k2.trans (yG N _);refine⟨λm σ H=>∃ (c M:List Nat)(lt:Option V),σ= [some (.ref la),some (.ref da),some (.int (i:Nat)),some (.ref a),some (.ref r),some (.ref o),lt]/\xA O H/\H r=some (.lst (c.map λi=>V.int (i:Nat)))/\
   H o=some (.lst (M.map λi=>V.int (i:Nat)))/\Fm.aZ3 n L D y (Fm.tp L y i) c M.reverse/\m=n - c.length,
  ⟨n,[],[Fm.tp L y i],none,rfl,k3,by rw[yI B];exact yB,yB,Fm.aZ3.start ho hi,by simp⟩,?_⟩
 rintro m σ H ⟨c,M,lt,rfl,x,Y,C,W,rfl⟩;refine⟨_,rfl,o,_,rfl,.inl (SqL.of C),_,_,rfl,rfl,_,rfl,?_⟩;rcases List.eq_nil_or_concat M with rfl|⟨d,v,rfl⟩
 ·refine onF rfl ⟨_,rfl,q H r c (λb u n e=>yJ (k1 b u n e) J) (k1.trans x.t) ?_ Y W.tt λk=>W.done k⟩;rcases t1 with t|⟨c',t1,t2⟩
  ·exact .inl (x _ _ t)
  ·exact .inr ⟨c',x _ _ t1,x _ _ t2⟩
 ·rw[List.concat_eq_append]at C W ⊢;have X:decide ((((d++ [v]).map λi=>V.int (i:Nat)).length:Int) > 0)=true:=by
   refine decide_eq_true ?_;rw[bYL,bY5,cQU];omega
  refine onT X ⟨λσ' H'=>∃m',m'<n - c.length/\∃ (c M:List Nat)(lt:Option V),σ'= [some (.ref la),some (.ref da),some (.int (i:Nat)),some (.ref a),some (.ref r),some (.ref o),lt]/\xA O H'/\H' r=some (.lst (c.map λi=>V.int (i:Nat)))/\
   H' o=some (.lst (M.map λi=>V.int (i:Nat)))/\Fm.aZ3 n L D y (Fm.tp L y i) c M.reverse/\m'=n - c.length,λσ' H' z=>z,?_⟩
  have G:((d++ [v]).map λi=>V.int (i:Nat))[((d++ [v]).map λi=>V.int (i:Nat)).length - 1]? =some (V.int (v:Nat)):=by simp
  have I:((d++ [v]).map λi=>V.int (i:Nat)).dropLast=d.map λi=>V.int (i:Nat):=by simp
  refine⟨_,rfl,.inl ⟨rfl,_,SqL.of C⟩,o,_,_,rfl,rfl,C,G,?_⟩;rw[I];dsimp only[yW];have W':Fm.aZ3 n L D y (Fm.tp L y i) c (v::d.reverse):=by
   have:(d++ [v]).reverse=v::d.reverse:=by simp
   rw[this]at W;exact W
  have hv:=(W'.al v bYW).1;have W2:=W'.step ho (zS:=(kd v).reverse) (λj=>by rw[List.mem_reverse];exact hk.mem v j) (by rw[List.pairwise_reverse];exact hk.ord v);have l1:=W'.len;have l2:=bV6 W';have l3:=aWn hk v;have l4:=W2.len;rw[cQF,List.length_reverse]at l2;rw[bY5,cQU]at l4;have S:upd H o (.lst (d.map λi=>V.int (i:Nat))) r=some (.lst (c.map λi=>V.int (i:Nat))):=by rw[yI B];exact Y
  show bQA _ _ _ _;refine⟨_,rfl,.inl ⟨rfl,_,SqL.of S⟩,_,rfl,r,_,_,rfl,rfl,S,zlt (by rw[bYL];omega),?_⟩;have U:upd (upd H o (.lst (d.map λi=>V.int (i:Nat)))) r (.lst ((c.map λi=>V.int (i:Nat))++ [V.int (v:Nat)])) o=some (.lst (d.map λi=>V.int (i:Nat))):=by rw[yI (cQr B)];exact yB
  have k6:xA O (upd (upd H o (.lst (d.map λi=>V.int (i:Nat)))) r (.lst ((c.map λi=>V.int (i:Nat))++ [V.int (v:Nat)]))):=vB (vB x R) J;have a0:v<rs.length:=by omega
  have hb:=bYG a0;have a1:=k6 _ _ (a3 v _ hb);refine⟨_,rfl,.inl ⟨rfl,_,SqL.of U⟩,_,rfl,_,rfl,a,_,_,.ref rs[v],rfl,rfl,SqL.of (k6 _ _ ha),yR (by rw[bY1,hb];rfl),o,rs[v],_,_,rfl,rfl,U,a1,zn (l:=(d.map λi=>V.int (i:Nat))++((kd v).map λi=>V.int (i:Nat))) (by rw[bY5,bYL,bYL];omega) |> λz=>by rw[bY5]at z;exact z,?_⟩;refine⟨n - (c.length+1),by omega,c++ [v],d++kd v,some (.int (v:Nat)),rfl,vB k6 R,?_,?_,?_,by rw[bY5,cQU]⟩
  ·rw[yI B,yB,cXt];rfl
  ·rw[yB,cXt]
  ·rw[List.reverse_append];exact W2
end
end Thr
namespace Desk
open PySem L2 PyProof.Rows
open Bk (Row Rows)
def aZl(x:Str):Stmt->Bool
 |.FunctionDef n _ _ _ _ _ _ _ _ _=>n==x
 |_=>false
def bKO(x:Str):Stmt->Bool
 |.ClassDef n _ _ _ _ _ _ _ _ _ _=>n==x
 |_=>false
def bJu:Stmt->List Stmt
 |.ClassDef _ _ _ b _ _ _ _ _ _ _=>b
 |_=> []
abbrev text:List Stmt:=PySem.Challenge.pw_letterdesk_k05_whole_numbers_and_trees.main.body
def xC(x:Str):Stmt:=(text.find? (aZl x)).getD (.Pass ⟨0,0,0,0⟩)
def xF(c m:Str):Stmt:=((bJu ((text.find? (bKO c)).getD (.Pass ⟨0,0,0,0⟩))).find? (aZl m)).getD (.Pass ⟨0,0,0,0⟩)
def y9:cQq "len"=some (.builtin "len"):=dk
def w6:cQq "sorted"=some (.builtin "sorted"):=dk
def wZ:cQq "list"=some (.type "list"):=dk
structure vD(mg:Str->Option bYH):Prop where
 b_len:mg "len"=none
 b_sorted:mg "sorted"=none
 b_list:mg "list"=none
structure Cl(K:bYI)(CB CL:Nat):Prop where
 b:Cls K CB
 l:Cls K CL
 letters:wH K CB "letters"
 shut:wH K CB "shut"
 number:wH K CL "number"
 way:wH K CL "way"
 day:wH K CL "day"
 partner:wH K CL "partner"
 term:wH K CL "term"
 link:wH K CL "link"
 file:wH K CL "file"
 copies:wH K CL "copies"
 void:wH K CL "void"
abbrev wO:Option Nat->V:=Thr.wO
def W7(r:Row):Int:=if r.void then 0 else r.term
def Y3(r:Row):V:=if r.void then .non else .str r.place
def aZv(i:Nat)(r:Row)(c:Nat):List (Str×V):=
 [("number",.int (i:Nat)),("way",.str r.way),("day",.int r.date),("partner",.str r.partner),("term",.int (W7 r)),("link",wO r.link),("file",Y3 r),("copies",.ref c),("void",.bl r.void)]
def aV2(CL:Nat)(H:Hp)(b:Nat)(i:Nat)(r:Row)(c:Nat):Prop:=∃a,H b=some (.ins CL a (aZv i r c))
def stV(r:Row):List V:= [.str r.way,.int r.date,.str r.partner,.int (W7 r),wO r.link,Y3 r]
inductive bQq(CL:Nat)(vs:List V)(H:Hp)(Q:VK)(_:XK):Prop|mk (x dx:Nat) (i:Nat) (way:Str) (d:Int) (who:Str) (t:Int) (_:vs= [.ref x,.int (i:Nat),.str way,.int d,.str who,.int t]) (_:H x=some (.ins CL dx [])) (_:∀ (c:Nat)(H':Hp),H c=none->H' x=some (.ins CL dx (aZv i ⟨way,d,who,t,none,"",false,[]⟩ c))->H' c=some (.lst [])->(∀b,b≠x->b≠c->H' b=H b)->Q .non H')
inductive aVc(CL:Nat)(vs:List V)(H:Hp)(Q:VK)(_:XK):Prop|mk (b:Nat) (i:Nat) (r:Row) (c:Nat) (_:vs= [.ref b]) (_:aV2 CL H b i r c) (_:∀t,H t=none->Q (.ref t) (upd H t (.tup (stV r))))
inductive bQi(CL:Nat)(vs:List V)(H:Hp)(Q:VK)(_:XK):Prop|mk (b b2:Nat) (i j:Nat) (r r2:Row) (c c2:Nat) (_:vs= [.ref b,.ref b2]) (_:aV2 CL H b i r c) (_:aV2 CL H b2 j r2 c2) (_:Q (.bl (decide (r2.link=some i))) H)
inductive bZ9(CL:Nat)(vs:List V)(H:Hp)(Q:VK)(_:XK):Prop|mk (b:Nat) (i:Nat) (r:Row) (c:Nat) (who:Str) (_:vs= [.ref b,.str who]) (_:aV2 CL H b i r c) (_:H c=some (.lst (r.copies.map V.str))) (_:Q (.bl (decide (who=r.partner) || r.copies.contains who)) H)
inductive bJh(CL:Nat)(vs:List V)(H:Hp)(Q:VK)(_:XK):Prop|mk (b dx:Nat) (i:Nat) (r:Row) (c:Nat) (_:vs= [.ref b]) (_:H b=some (.ins CL dx (aZv i r c))) (_:Q .non (upd H b (.ins CL dx (aZv i {r with link:=none,void:=true} c))))
inductive bQs(vs:List V)(H:Hp)(Q:VK)(_:XK):Prop|mk (way:Str) (_:vs= [.str way]) (_:Q (.str (Bk.uP way)) H)
section
variable {K:bYI}
abbrev aYP:Stmt:=xF "Letter" "__init__"
abbrev aYU:Stmt:=xF "Letter" "state"
abbrev aYG:Stmt:=xF "Letter" "is_answered_by"
abbrev bVp:Stmt:=xF "Letter" "has_gone_to"
abbrev bVA:Stmt:=xF "Letter" "make_void"
abbrev aYQ:Stmt:=xC "other_way"
def bX9:yO ["self","number","way","day","partner","term"] ["self","number","way","day","partner","term"] (yH aYP):=scM
def bXy(T:Cl K CB CL)(F:Fun K "__init__" "Letter.__init__" aYP f fd):xD P w K mg base CX0 (n+1) f fd ["self","number","way","day","partner","term"] (bQq CL):=by
 have o:=bX9;refine F.ok (k:=n) o (λu A outer s H B Q E z h=>?_);obtain⟨x,a,i,y,d,v,t,rfl,p,q⟩:=h;refine⟨_,(yC (zL (pv 0) (pv 1) rfl) (yC (zL (pv 0) (pv 2) rfl) (yC (zL (pv 0) (pv 3) rfl) (yC (zL (pv 0) (pv 4) rfl) (yC (zL (pv 0) (pv 5) rfl) (yC (zL (pv 0) x2 rfl) (yC (zL (pv 0) yQ rfl) (yC (zL (pv 0) (y6 yD) rfl) (yF (zL (pv 0) wP rfl)))))))))),?_⟩;refine⟨_,rfl,_,rfl,x,CL,a,_,rfl,p,T.l,T.number,(show 0<1000 by decide),?_⟩;refine⟨_,rfl,_,rfl,x,CL,a,_,rfl,yB,T.l,T.way,(show 1<1000 by decide),?_⟩;refine⟨_,rfl,_,rfl,x,CL,a,_,rfl,yB,T.l,T.day,(show 2<1000 by decide),?_⟩;refine⟨_,rfl,_,rfl,x,CL,a,_,rfl,yB,T.l,T.partner,(show 3<1000 by decide),?_⟩;refine⟨_,rfl,_,rfl,x,CL,a,_,rfl,yB,T.l,T.term,(show 4<1000 by decide),?_⟩;refine⟨_,rfl,x,CL,a,_,rfl,yB,T.l,T.link,(show 5<1000 by decide),?_⟩;refine⟨_,rfl,x,CL,a,_,rfl,yB,T.l,T.file,(show 6<1000 by decide),?_⟩;refine⟨z0,λc g=>?_⟩;have e:x≠c:=yJ yB g;refine⟨_,rfl,x,CL,a,_,rfl,(yI e).trans yB,T.l,T.copies,(show 7<1000 by decide),?_⟩;refine⟨_,rfl,x,CL,a,_,rfl,yB,T.l,T.void,(show 8<1000 by decide),?_⟩;have j:H c=none:=by simp only[yI (cQr e)]at g;exact g
 refine q c _ j yB (by rw[yI (cQr e),yI (cQr e),yB]) λb m r=>?_;simp only[yI m,yI r]
def bZe:yO ["self"] ["self"] (yH aYU):=scM
def bXD(T:Cl K CB CL)(F:Fun K "state" "Letter.state" aYU f fd):xD P w K mg base CX0 (n+1) f fd ["self"] (aVc CL):=by
 have g:=bZe;refine F.ok (k:=n) g (λj A outer s H o Q E m h=>?_);obtain⟨b,i,r,c,rfl,⟨a,d⟩,q⟩:=h;refine⟨_,(yF (yP (xI (yA (yZ (pv 0) rfl) (yA (yZ (pv 0) rfl) (yA (yZ (pv 0) rfl) (yA (yZ (pv 0) rfl) (yA (yZ (pv 0) rfl) (yA (yZ (pv 0) rfl) yD))))))))),?_⟩;refine⟨_,rfl,b,CL,a,_,_,rfl,d,T.l,T.way,rfl,?_⟩;refine⟨_,rfl,b,CL,a,_,_,rfl,d,T.l,T.day,rfl,?_⟩;refine⟨_,rfl,b,CL,a,_,_,rfl,d,T.l,T.partner,rfl,?_⟩;refine⟨_,rfl,b,CL,a,_,_,rfl,d,T.l,T.term,rfl,?_⟩;refine⟨_,rfl,b,CL,a,_,_,rfl,d,T.l,T.link,rfl,?_⟩;refine⟨_,rfl,b,CL,a,_,_,rfl,d,T.l,T.file,rfl,?_⟩;exact⟨by show 6<=bY8;decide,λt e=>q t e⟩
def aJi{o:Option Nat}{m:Nat}:decide (wO o=V.int (m:Nat))=decide (o=some m):=by
 cases o with
 |none=>rfl
 |some j=>show decide (V.int (j:Nat)=V.int (m:Nat))=decide (some j=some m);rw[Bool.eq_iff_iff];simp;omega
def bXZ:yO ["self","other"] ["self","other"] (yH aYG):=scM
def bXo(T:Cl K CB CL)(F:Fun K "is_answered_by" "Letter.is_answered_by" aYG f fd):xD P w K mg base CX0 (n+1) f fd ["self","other"] (bQi CL):=by
 have o:=bXZ;refine F.ok (k:=n) o (λp A outer s H v Q E u h=>?_);obtain⟨b,m,i,j,r,e,c,x,rfl,⟨g,t⟩,⟨d,a⟩,q⟩:=h;refine⟨_,(yF (yP (zG zB (yZ (pv 1) rfl) (yZ (pv 0) rfl)))),?_⟩;refine⟨_,rfl,m,CL,d,_,_,rfl,a,T.l,T.link,rfl,?_⟩;refine⟨_,rfl,b,CL,g,_,_,rfl,t,T.l,T.number,rfl,?_⟩;rw[<- aJi]at q;refine⟨?_,q⟩;cases e.link<;> rfl
def wT(x:Str):∀ns:List Str,inV (.str x) (ns.map V.str)=ns.contains x
 |[]=>rfl
 |n::r=>by have a:=wT x r;unfold inV at a ⊢;rw[cQx,cXZ,a,cX4];congr 1;show(n==x)=(x==n);rw[Bool.eq_iff_iff,beq_iff_eq,beq_iff_eq];exact eq_comm
def aZg:∀ns:List Str,(ns.map V.str).all W4=true
 |[]=>rfl
 |n::r=>by rw[cQx,cZV,aZg r];rfl
def bVE:yO ["self","person"] ["self","person"] (yH bVp):=scM
def bJX(T:Cl K CB CL)(F:Fun K "has_gone_to" "Letter.has_gone_to" bVp f fd):xD P w K mg base CX0 (n+1) f fd ["self","person"] (bZ9 CL):=by
 have m:=bVE;refine F.ok (k:=n) m (λp A outer s H u Q E t h=>?_);obtain⟨b,i,r,c,a,rfl,⟨e,g⟩,o,q⟩:=h;refine⟨_,(yF (yP (bWS (zG zB (pv 1) (yZ (pv 0) rfl)) (aZE (zG wL (pv 1) (yZ (pv 0) rfl)))))),?_⟩;refine⟨_,rfl,_,rfl,b,CL,e,_,_,rfl,g,T.l,T.partner,rfl,rfl,?_⟩;have j:decide (V.str a=V.str r.partner)=decide (a=r.partner):=by rw[Bool.eq_iff_iff];simp
 refine⟨_,rfl,?_⟩;rw[j];cases d:decide (a=r.partner)with
 |true=>rw[d,Bool.true_or]at q;exact onT rfl q
 |false=>rw[d,Bool.false_or]at q;refine onF rfl ⟨_,rfl,_,rfl,b,CL,e,_,_,rfl,g,T.l,T.copies,rfl,c,_,rfl,.inl (SqL.of o),rfl,aZg _,?_⟩;rw[if_neg (by decide),wT];exact q
def bVQ:yO ["self"] ["self"] (yH bVA):=scM
def bVa(T:Cl K CB CL)(F:Fun K "make_void" "Letter.make_void" bVA f fd):xD P w K mg base CX0 (n+1) f fd ["self"] (bJh CL):=by
 have d:=bVQ;refine F.ok (k:=n) d (λe A outer s H m Q E j h=>?_);obtain⟨b,a,i,r,c,rfl,g,q⟩:=h;refine⟨_,(yC (zL (pv 0) wP rfl) (yC (zL (pv 0) x2 rfl) (yC (zL (pv 0) x2 rfl) (yF (zL (pv 0) yE rfl))))),?_⟩;refine⟨_,rfl,b,CL,a,_,rfl,g,T.l,T.void,(show 9<1000 by decide),?_⟩;refine⟨_,rfl,b,CL,a,_,rfl,yB,T.l,T.link,(show 9<1000 by decide),?_⟩;refine⟨_,rfl,b,CL,a,_,rfl,yB,T.l,T.file,(show 9<1000 by decide),?_⟩;refine⟨_,rfl,b,CL,a,_,rfl,yB,T.l,T.term,(show 9<1000 by decide),?_⟩;rw[uT,uT,uT];exact q
def bZa:yO ["way"] ["way"] (yH aYQ):=scM
def bXz(F:Fun K "other_way" "other_way" aYQ f fd):xD P w K mg base CX0 (n+1) f fd ["way"] bQs:=by
 have d:=bZa;refine F.ok (k:=n) d (λc A outer s H g Q E e h=>?_);obtain⟨a,rfl,q⟩:=h;refine⟨_,(yF (yP (aVz (yM zB (pv 0) yQ) yQ yQ))),?_⟩;unfold Bk.uP at q;have b:decide (V.str a=V.str "in")=decide (a="in"):=by rw[Bool.eq_iff_iff];simp
 refine⟨_,rfl,rfl,_,rfl,?_⟩;rw[b];by_cases hw:a="in"
 ·rw[if_pos hw]at q;exact onT (decide_eq_true hw) q
 ·rw[if_neg hw]at q;exact onF (decide_eq_false hw) q
end
end Desk
namespace L2
open PySem PySem.Spec PyProof.Rows
section
variable {κ:Type} [DecidableEq κ]
def Q3(kvs:List (κ×V))(k:κ):Option V:=(kvs.find? λa=>decide (a.1=k)).map (·.2)
def aJK(kvs:List (κ×V))(k:κ)(v:V):List (κ×V):=
 if(kvs.any λa=>decide (a.1=k))=true then kvs.map (λa=>if a.1=k then(a.1,v)else a)else kvs++ [(k,v)]
def z7{p:κ×V}{r:List (κ×V)}{k:κ}(e:p.1=k):Q3 (p::r) k=some p.2:=by simp[Q3,cX7,e]
def z6{p:κ×V}{r:List (κ×V)}{k:κ}(e:¬p.1=k):Q3 (p::r) k=Q3 r k:=by simp[Q3,cX7,e]
def Q4(k:κ):∀kvs:List (κ×V),(kvs.any λa=>decide (a.1=k))=(Q3 kvs k).isSome
 |[]=>rfl
 |p::r=>by
  rw[cXZ];by_cases e:p.1=k
  ·simp only[z7 e,decide_eq_true e,Bool.true_or,Option.isSome_some]
  ·rw[z6 e,decide_eq_false e,Bool.false_or];exact Q4 k r
def aVZ(k j:κ)(y:V):∀kvs:List (κ×V),Q3 (kvs.map λa=>if a.1=k then(a.1,y)else a) j=(Q3 kvs j).map λx=>if j=k then y else x
 |[]=>rfl
 |p::r=>by
  have b:=aVZ k j y r;rw[cQx];by_cases h:p.1=k
  ·rw[if_pos h];by_cases e:p.1=j
   ·rw[z7 (p:=(p.1,y)) e,z7 e,Option.map_some,if_pos (e.symm.trans h)]
   ·rw[z6 (p:=(p.1,y)) e,z6 e,b]
  ·rw[if_neg h];by_cases e:p.1=j
   ·rw[z7 (p:=p) e,z7 e,Option.map_some,if_neg (λz=>h (e.trans z))]
   ·rw[z6 (p:=p) e,z6 e,b]
def aZ1(k j:κ)(y:V):∀kvs:List (κ×V),Q3 kvs k=none->Q3 (kvs++ [(k,y)]) j=if j=k then some y else Q3 kvs j
 |[],_=>by
  by_cases e:k=j
  ·rw[if_pos e.symm];exact z7 (p:=(k,y)) e
  ·rw[if_neg (λz=>e z.symm)];exact z6 (p:=(k,y)) e
 |p::r,hn=>by
  rw[cJj];have a:¬p.1=k:=λz=>by rw[z7 z]at hn;cases hn
  rw[z6 a]at hn;have b:=aZ1 k j y r hn;by_cases e:p.1=j
  ·rw[z7 e,z7 e,if_neg (λz=>a (e.trans z))]
  ·rw[z6 e,z6 e,b]
def bZE(kvs:List (κ×V))(k j:κ)(y:V):Q3 (aJK kvs k y) j=if j=k then some y else Q3 kvs j:=by
 unfold aJK;by_cases a:(kvs.any λb=>decide (b.1=k))=true
 ·rw[if_pos a,aVZ];rw[Q4]at a;by_cases e:j=k
  ·obtain⟨x,c⟩:=Option.isSome_iff_exists.mp a;rw[if_pos e,e,c,Option.map_some,if_pos rfl]
  ·rw[if_neg e];cases Q3 kvs j with
   |none=>rfl
   |some x=>rw[Option.map_some,if_neg e]
 ·rw[if_neg a];refine aZ1 k j y kvs ?_;rw[Q4]at a;cases q:Q3 kvs k with
  |none=>rfl
  |some x=>rw[q]at a;exact(a rfl).elim
def jU(kvs:List (κ×V))(k:κ)(v:V):(aJK kvs k v).length<=kvs.length+1:=by
 unfold aJK;split
 ·rw[bYL];omega
 ·rw[bY5,cQF,cXQ];omega
def aX3.isSome_eq{o:Option V}{u:Option bYH}(r:aX3 o u):o.isSome=u.isSome:=by
 cases o with
 |none=>cases u with
  |none=>rfl
  |some _=>exact(show False from r).elim
 |some _=>cases u with
  |none=>exact(show False from r).elim
  |some _=>rfl
def KV.val{kvs:List (κ×V)}{vs:List (κ×bYH)}(r:KV kvs vs)(k:κ):aX3 (Q3 kvs k) (cZ3 vs k):=by
 unfold KV at r;induction r with
 |nil=>exact cQ3
 |@cons p q i a h t g=>
  obtain⟨d,f⟩:=h;by_cases e:p.1=k
  ·have c:q.1=k:=d.symm.trans e;have b:cZ3 (q::a) k=some q.2:=by simp[cZ3,cX7,c]
   rw[z7 e,b];exact f
  ·have c:¬q.1=k:=λz=>e (d.trans z);have b:cZ3 (q::a) k=cZ3 a k:=by simp[cZ3,cX7,c]
   rw[z6 e,b];exact g
def KV.any{kvs:List (κ×V)}{vs:List (κ×bYH)}(r:KV kvs vs)(k:κ):(kvs.any λa=>decide (a.1=k))=vs.any λa=>decide (a.1=k):=by
 unfold KV at r;induction r with
 |nil=>rfl
 |cons h t b=>rw[cXZ,cXZ,b,h.1]
def KV.repl{kvs:List (κ×V)}{vs:List (κ×bYH)}(r:KV kvs vs)(k:κ){y:V}{u:bYH}(c:zJ y u): KV (kvs.map λa=>if a.1=k then(a.1,y)else a) (vs.map λa=>if a.1=k then(a.1,u)else a):=by
 unfold KV at r ⊢;induction r with
 |nil=>exact .nil
 |@cons p q i g h t f=>
  rw[cQx,cQx];refine .cons ?_ f;obtain⟨b,d⟩:=h;by_cases e:p.1=k
  ·rw[if_pos e,if_pos (b.symm.trans e)];exact⟨b,c⟩
  ·rw[if_neg e,if_neg (λz=>e (b.trans z))];exact⟨b,d⟩
def KV.put{kvs:List (κ×V)}{vs:List (κ×bYH)}(r:KV kvs vs)(k:κ){y:V}{u:bYH}(a:zJ y u):KV (aJK kvs k y) (stored vs k u):=by
 unfold aJK stored;rw[r.any k];by_cases e:(vs.any λb=>decide (b.1=k))=true
 ·rw[if_pos e,if_pos e];exact r.repl k a
 ·rw[if_neg e,if_neg e];exact Paired.snoc r ⟨rfl,a⟩
def KV.length{kvs:List (κ×V)}{vs:List (κ×bYH)}(r:KV kvs vs):kvs.length=vs.length:=cX0 r
end
def bQ4{P:bY4}{w:cQa}{k:Key}{u:bYH}(r:zJ (kV k) u):(zA P w).is k u=true:=by
 cases k with
 |inl i=>obtain⟨t,e⟩:=(show ∃t,u=Value.int i t from r);subst e;exact aJr P w i t
 |inr x=>obtain⟨t,e⟩:=(show ∃t,u=Value.str x t from r);subst e;exact jV P w x t
def aZm{P:bY4}{w:cQa}:∀ {a:List Key} {us:List bYH},xW (a.map kV) us->ItemsAre (zA P w) a us
 |[],_,r=>by rw[List.map_nil]at r;cases r;exact .nil
 |k::a,_,r=>by
  rw[cQx]at r;cases r with
  |cons h t=>exact .cons (bQ4 h) (aZm t)
abbrev KT(H:Hp):List (List Key×V)->List (List Key×Addr×bYH)->Prop:=cQA λp q=>p.1=q.1/\H q.2.1=some (.tup (p.1.map kV))/\zJ p.2 q.2.2
def KT.val{H:Hp}{kvs:List (List Key×V)}{xs:List (List Key×Addr×bYH)}(r:KT H kvs xs)(k:List Key):aX3 (Q3 kvs k) ((atKey xs k).map (·.2)):=by
 induction r with
 |nil=>exact cQ3
 |@cons p q i a h t g=>
  obtain⟨d,_,f⟩:=h;by_cases e:p.1=k
  ·have c:q.1=k:=d.symm.trans e;have b:atKey (q::a) k=some q.2:=by simp[atKey,cX7,c]
   rw[z7 e,b];exact f
  ·have c:¬q.1=k:=λz=>e (d.trans z);have b:atKey (q::a) k=atKey a k:=by simp[atKey,cX7,c]
   rw[z6 e,b];exact g
def KT.repl{H:Hp}{kvs:List (List Key×V)}{xs:List (List Key×Addr×bYH)}(r:KT H kvs xs)(k:List Key){y:V}{u:bYH}(d:zJ y u): KT H (kvs.map λb=>if b.1=k then(b.1,y)else b) (xs.map (putAt k u)):=by
 induction r with
 |nil=>exact .nil
 |@cons p q j i h t g=>
  rw[cQx,cQx];refine .cons ?_ g;obtain⟨a,c,f⟩:=h;unfold putAt;by_cases e:p.1=k
  ·rw[if_pos e,if_pos (a.symm.trans e)];exact⟨a,c,d⟩
  ·rw[if_neg e,if_neg (λz=>e (a.trans z))];exact⟨a,c,f⟩
def KT.put{H:Hp}{kvs:List (List Key×V)}{xs:List (List Key×Addr×bYH)}(r:KT H kvs xs)(k:List Key){b:Addr}{y:V}{u:bYH}(d:H b=some (.tup (k.map kV)))(a:zJ y u): KT H (aJK kvs k y) (storedH xs k b u):=by
 have e:(kvs.any λc=>decide (c.1=k))=(atKey xs k).isSome:=by rw[Q4,(r.val k).isSome_eq,Option.isSome_map]
 unfold aJK storedH;rw[e];by_cases q:(atKey xs k).isSome=true
 ·rw[if_pos q,if_pos q];exact r.repl k a
 ·rw[if_neg q,if_neg q];exact Paired.snoc r ⟨rfl,d,a⟩
def KT.keeps{H c:Hp}{kvs:List (List Key×V)}{xs:List (List Key×Addr×bYH)}(r:KT H kvs xs)(d:∀b a,H b=some (.tup a)->c b=some (.tup a)):KT c kvs xs:=
 Paired.mapP r λ_ _ z=>⟨z.1,d _ _ z.2.1,z.2.2⟩
section
variable {P:bY4}{w:cQa}{H:Hp}{h:Heap}{a:Addr}
def bW0{u:HO}(ok:HOk P w H h)(e:Rd H a u):zD P w H h a u:=e.ok ok
def bWr{kvs:List (Key×V)}(ok:HOk P w H h)(e:Rd H a (.dK kvs)):kvs.length<=bY8/\(a==cZB)=false/\∃b,KV kvs b/\h.DictOf (zA P w) a b:=
 show zD P w H h a (.dK kvs)from bW0 ok e
def bKK{kvs:List (Key×V)}(ok:HOk P w H h)(e:H a=some (.dK kvs)):kvs.length<=bY8/\(a==cZB)=false/\∃b,KV kvs b/\h.DictOf (zA P w) a b:=bWr ok (.inl e)
def aKU{c:List Key}(ok:HOk P w H h)(e:H a=some (.tup (c.map kV))):(tupleKind (zA P w)).is h c a:=by
 obtain⟨_,b,r,o,d,f,n,g⟩:=(show zD P w H h a (.tup (c.map kV))from ok a _ e);exact⟨o,b.toArray,n,d,f,g,by simpa using aZm r⟩
def bWs{kvs:List (List Key×V)}(ok:HOk P w H h)(e:Rd H a (.dT kvs)):kvs.length<=bY8/\(a==cZB)=false/\ ∃c,KT H kvs c/\h.DictOfH (tupleKind (zA P w)) a c:=by
 obtain⟨z,y,c,r,o,s,i,g,k,n,f,j⟩:=(show zD P w H h a (.dT kvs)from bW0 ok e);refine⟨z,y,c,r,o,s,i,g,k,n,f,λx b=>?_,j⟩;have all:∀ {l:List (List Key×V)} {m:List (List Key×Addr×bYH)},KT H l m->∀x∈m,(tupleKind (zA P w)).is h x.1 x.2.1:=by
  intro l m q;induction q with
  |nil=>intro x b;exact nomatch b
  |@cons p q A v d t u=>
   intro x b;rcases bYQ.mp b with e|b
   ·subst e;exact aKU ok (by rw[<- d.1];exact d.2.1)
   ·exact u x b
 exact all r x b
def vE{kvs:List (List Key×V)}(ok:HOk P w H h)(e:H a=some (.dT kvs)):kvs.length<=bY8/\(a==cZB)=false/\
  ∃b,KT H kvs b/\h.DictOfH (tupleKind (zA P w)) a b:=bWs ok (.inl e)
end
def bWb(H:Hp)(a:Addr)(y:V)(r:Option V):Prop:=
 (∃kvs k,Rd H a (.dK kvs)/\y=kV k/\r=Q3 kvs k)\/∃kvs k b,Rd H a (.dT kvs)/\y= .ref b/\H b=some (.tup (k.map kV))/\r=Q3 kvs k
def bWc(H:Hp)(a:Addr)(y v:V)(c:Hp):Prop:=
 (∃kvs k,H a=some (.dK kvs)/\y=kV k/\kvs.length<bY8/\c=upd H a (.dK (aJK kvs k v)))\/
 ∃kvs k b,H a=some (.dT kvs)/\y= .ref b/\H b=some (.tup (k.map kV))/\kvs.length<bY8/\c=upd H a (.dT (aJK kvs k v))
def bWb.k{H:Hp}{a:Addr}{kvs:List (Key×V)}{k:Key}(e:H a=some (.dK kvs)):bWb H a (kV k) (Q3 kvs k):= .inl ⟨kvs,k,.inl e,rfl,rfl⟩
def bWc.k{H:Hp}{a:Addr}{kvs:List (Key×V)}{k:Key}{v:V}(e:H a=some (.dK kvs))(hl:kvs.length<bY8):bWc H a (kV k) v (upd H a (.dK (aJK kvs k v))):= .inl ⟨kvs,k,e,rfl,hl,rfl⟩
section
variable {X:Cx}{pins:List (Addr×Obj)}{σ:St}{H:Hp}{s:bYK}{a:Addr}{y v:V}{u r:bYH}{o:Option V}{A:cQl}{E:bYH->bYK->Prop}
def Inv.big(I:Inv X pins σ H s):cZB<s.heap.objs.size:=by
 have h:cQe<s.heap.objs.size:=(I.mod.glob.keeps I.bk).lt;exact Nat.lt_trans (by decide) h
def bJw{Q:bYH->bYK->Prop}(p:A.units+1<cLine)(I:Inv X pins σ H s)(g:bWb H a y o)(j:zJ y u)(h:∀m,Inv X pins σ H m->Q (.bool (!o.isSome)) m): bYP (bYR X.prog X.w) A (cXb .NotIn u (.ref a)) Q E s:=by
 rcases g with⟨kvs,k,e,d,l⟩|⟨kvs,k,b,e,d,n,l⟩
 ·subst d;obtain⟨z,f,t,c,i⟩:=bWr I.hok e;refine wpAny_notIn_of (bQ4 j) f i.mapOf ?_;rw[<- (c.val k).isSome_eq,<- l];exact h _ (I.tok _)
 ·subst d;cases (show u=Value.ref b from j);obtain⟨z,f,r,c,i⟩:=bWs I.hok e;refine wpAny_notIn_heap (tupleKind_room_in1 p) (aKU I.hok n) f i ?_;have q:=(c.val k).isSome_eq;rw[Option.isSome_map]at q;rw[<- q,<- l];exact h _ (I.tok _)
def aKA{h':Heap}{t':Nat}{c:HO}(I:Inv X pins σ H s)(h:Mut (H a))(f:cXL a s.heap h')(g:∃q,h'.get? a=some q)(d:zD X.prog X.w (upd H a c) h' a c): Inv X pins σ (upd H a c) {s with heap:=h',toks:=t'}:=
 I.write (x:=a) (e:=a) h (.inl rfl) (λb q i z=>(f.2 b i).trans z) g d
def bWq{P:bY4}{w:cQa}{e:Hp}{h':Heap}{kvs:List (Key×V)}{vs:List (Key×bYH)}(z:kvs.length<=bY8)(c:(a==cZB)=false)(b:KV kvs vs)(d:h'.DictOf (zA P w) a vs):
  zD P w e h' a (.dK kvs):=⟨z,c,vs,b,d⟩
def aKz{J:Hp}{Q:Unit->bYK->Prop}(R:A.units+1<cLine)(I:Inv X pins σ H s)(g:bWc H a y v J)(B:zJ y u)(D:zJ v r)(h:∀C,Inv X pins σ J C->Q () C): bYP (bYR X.prog X.w) A (setItem (.ref a) u r) Q E s:=by
 rcases g with⟨kvs,k,e,j,l,o⟩|⟨kvs,k,b,e,j,x,l,o⟩
 ·subst j o;obtain⟨z,m,N,d,n⟩:=bKK I.hok e;have p:N.length<=bY8:=by rw[<- d.length];exact z
  have hl:(aJK kvs k v).length<=bY8:=by have:=jU kvs k v;omega
  refine wpAny_setItem_pairs (hsz:=p) (bQ4 B) n λF f t=>h _ ?_;have P:∃q,F.get? a=some q:=let ⟨q,_,_,i,_⟩:=f;⟨q,i⟩;exact aKA I (by rw[e];exact cQ3) t P (bWq hl m (d.put k D) f)
 ·subst j o;cases (show u=Value.ref b from B);obtain⟨z,m,L,d,n⟩:=vE I.hok e;have p:L.length<=bY8:=by rw[<- cX0 d];exact z
  have hl:(aJK kvs k v).length<=bY8:=by have:=jU kvs k v;omega
  refine wpAny_setItem_heap (hsz:=p) (tupleKind_room_in1 R) (aKU I.hok x) n λF f t=>h _ ?_;obtain⟨q,U,M,i,S,T,K,_,O⟩:=f;refine aKA I (by rw[e];exact cQ3) t ⟨q,i⟩ ⟨hl,m,_,(d.put k x D).keeps λc V G=>?_,q,U,M,i,S,T,K,O⟩;rw[yI (aQ1 G e (λz=>nomatch z))];exact G
end
section
variable {X:Cx}{pins:List (Addr×Obj)}{σ:St}{H:Hp}{s:bYK}{a:Addr}{kvs:List (Key×V)}{k:Key}{u:bYH}{A:cQl}{E:bYH->bYK->Prop}
end
def bYd(i:Expr):Prop:=∀b a,subscripted i false b a=operate [b,a] (getItem b a)
def bVX{prog:bY4}{w:cQa}{A:cQl}{E:bYH->bYK->Prop}{s:bYK}{env:Env}{value a:Expr}{pos:Pos}{T id:String}{Q:bYH->bYK->Prop} (hl:typeLookup (.type T) "__getitem__"=pure (some (.builtin id))) (k:bYd a) (h:bYP (bYR prog w) A (eval value env) (λo d=>bYP (bYR prog w) A (eval a env) (λi b=>b.TypeIs o T/\bYP (bYR prog w) A (getItem o i) Q E b) E d) E s): bYP (bYR prog w) A (eval (.Subscript value a pos) env) Q E s:=by
 refine Subscript_ (cQJ h (λo d g=>cQJ g (λi b c=>?_) λ_ _ x=>x) λ_ _ x=>x);obtain⟨j,c⟩:=c;unfold subscriptTail;refine bYJ ?_;rw[getitemInPython_of_ne j.not_modules];refine bYJ (wpAny_specialOf j hl ?_);have fin:bYP (bYR prog w) A (subscripted a false o i) (λr e=>bYP (bYR prog w) A (letTemporaryGo value o r >>=λ_=>pure r) Q E e) E b:=by rw[k o i];exact wpAny_operating (cQJ c (λr e f=>bYJ (wpAny_letTemporaryGo (bYN f))) λ_ _ x=>x)
 first
  |exact bYN (bYJ fin)
  |exact bYJ (bYN (bYJ fin))
  |exact bYJ fin
inductive bZr(Q:VK)(y:V)(x:V)(H2:Hp):Prop|mk (a o) (_:x= .ref a) (_:bWb H2 a y o) (_:Q (.bl (!o.isSome)) H2)
def bVZ(ty td:TE):TE:=λσ H Q=>ty σ H λy b=>td σ b λx a=>bZr Q y x a
inductive bW1(D:aZ4)(σ:St)(v:V)(x:V)(y:V)(H3:Hp):Prop|mk (a H4) (_:x= .ref a) (_:bWc H3 a y v H4) (_:D.nx σ H4)
def bKV(td ty tv:TE):TS:=λD σ H=>tv σ H λv b=>td σ b λx a=>ty σ a λy c=>bW1 D σ v x y c
section
variable {X:Cx}{o i e value:Expr}{pos pos' tpos:Pos}{td ty tv:TE}
def aYv(b:X.A.units+1<cLine)(c:PE X i ty)(d:PE X o td):PC X .NotIn i o (bVZ ty td):=by
 intro pins s σ H Q I h;refine thn (c pins s σ H _ I h) λiv s1 ⟨y,H1,I1,ry,q1⟩=>thn (d pins s1 σ H1 _ I1 q1) λu s2 ⟨x,H2,I2,rx,a,ov,ex,g,q2⟩=>?_;subst ex;obtain rfl:u=Value.ref a:=rx;exact bJw b I2 g ry λf e=>⟨.bl (!ov.isSome),H2,e,rfl,q2⟩
def bVh(d:X.A.units+1<cLine)(f:PE X o td)(e:PE X i ty)(b:PE X value tv)(c:swapsWith value (some (.Subscript o i pos')) pos.line X.env=pure false): PS X (.Assign [.Subscript o i pos'] value pos) (bKV td ty tv):=by
 intro pins s σ H D I h;refine wpAny_Assign_Subscript (thn (b pins s σ H _ I h) λr s1 ⟨v,H1,I1,rv,q1⟩=>thn (f pins s1 σ H1 _ I1 q1) λu s2 ⟨x,H2,I2,rx,q2⟩=>thn (e pins s2 σ H2 _ I2 q2) λiv s3 ⟨y,H3,I3,ry,a,H4,ex,g,q3⟩=>?_) c;subst ex;obtain rfl:u=Value.ref a:=rx;exact aKz d I3 g ry rv λk j=>⟨σ,H4,j,q3⟩
end
def bQR{P:bY4}{w:cQa}{H:Hp}(h:Heap)(a:cZB<h.objs.size):zD P w H (h.push {cls:= .type "dict",data:= .dict #[] }) h.objs.size (.dK []):=
 ⟨cQE _,beq_eq_false_iff_ne.mpr (cQr (bY7 a)),[],.nil,Heap.DictOf.new h⟩
def bKg:TE:=λ_ H Q=>∀p,H p=none->Q (.ref p) (upd H p (.dK []))
section
variable {X:Cx}{pos:Pos}
def bXL:PE X (.Dict [] [] pos) bKg:=λpins s σ H Q I h=>
 wpAny_Dict_empty ⟨.ref s.heap.objs.size,_,I.laid (a:=s.heap.objs.size) (o:= .dK []) (t':=s.toks) (λ_ _ q=>bYM _ q) (bYO _) (bQR s.heap I.big),rfl,h _ (I.hok.fresh (bYO _))⟩
end
structure M1(X:Cx)(o:Expr)(m:Str)(apos:Pos)(e:Expr)(cpos:Pos):Prop where
 base:cZw o m X.env (eval o X.env)=eval o X.env
 few:((cXk cpos (cQk [e] X.env)).all (λx=> !x.1) && (cZT cpos (cX3 [] X.env)).all (λx=>x.1.isSome)
  && decide (([e]:List Expr).length+([]:List Keyword).length+(if([]:List Keyword).isEmpty then 0 else 1)<30))=true
 line:(apos.endLine==cpos.line)=true
 trees:cXk cpos (cQk [e] X.env)= [(false,eval e X.env)]
structure M2(X:Cx)(o:Expr)(m:Str)(apos:Pos)(e f:Expr)(cpos:Pos):Prop where
 base:cZw o m X.env (eval o X.env)=eval o X.env
 few:((cXk cpos (cQk [e,f] X.env)).all (λx=> !x.1) && (cZT cpos (cX3 [] X.env)).all (λx=>x.1.isSome)
  && decide (([e,f]:List Expr).length+([]:List Keyword).length+(if([]:List Keyword).isEmpty then 0 else 1)<30))=true
 line:(apos.endLine==cpos.line)=true
 trees:cXk cpos (cQk [e,f] X.env)= [(false,eval e X.env),(false,eval f X.env)]
section
variable {X:Cx}{pins:List (Addr×Obj)}{σ:St}{H:Hp}{s:bYK}{a:Addr}{y d:V}{u r:bYH}{o:Option V}{A:cQl}{E:bYH->bYK->Prop}
end
section
variable {X:Cx}{o e f:Expr}{apos cpos:Pos}{td ty tx:TE}
end
section
variable {X:Cx}{pins:List (Addr×Obj)}{σ:St}{H:Hp}{s:bYK}{a:Addr}{kvs:List (Key×V)}{A:cQl}{E:bYH->bYK->Prop}
end
section
variable {X:Cx}{pins:List (Addr×Obj)}{σ:St}{H:Hp}{s:bYK}{a:Addr}{y:V}{u:bYH}{A:cQl}{E:bYH->bYK->Prop}
end
end L2
namespace L2
open PySem PySem.Spec PyProof.Rows
section
variable {κ:Type} [DecidableEq κ]
end
end L2
namespace Days
open PySem L2 PyProof.Rows
def aZl(x:Str):Stmt->Bool
 |.FunctionDef n _ _ _ _ _ _ _ _ _=>n==x
 |_=>false
def xC(x:Str):Stmt:=(PySem.Challenge.pw_letterdesk_k05_whole_numbers_and_trees.main.body.find? (aZl x)).getD (.Pass ⟨0,0,0,0⟩)
abbrev aJR:Stmt:=xC "counts"
abbrev bVw:Stmt:=xC "open_by_rest"
abbrev aXJ:Stmt:=xC "closed_days"
abbrev aYS:Stmt:=xC "place_of"
def aKt:cQq "min"=some (.builtin "min"):=dk
def w6:cQq "sorted"=some (.builtin "sorted"):=dk
def bWo:cQq "set"=some (.type "set"):=dk
structure vD(mg:Str->Option bYH):Prop where
 b_len:mg "len"=none
 b_min:mg "min"=none
 b_sum:mg "sum"=none
 b_sorted:mg "sorted"=none
 b_isinstance:mg "isinstance"=none
 b_int:mg "int"=none
 b_str:mg "str"=none
 b_bool:mg "bool"=none
 b_list:mg "list"=none
 b_tuple:mg "tuple"=none
 b_set:mg "set"=none
 b_range:mg "range"=none
 b_reversed:mg "reversed"=none
 week:∃t,mg "WEEK"=some (.int 7 t)
 opens:∃t,mg "OPEN_DAYS"=some (.int 5 t)
inductive bQr(vs:List V)(H:Hp)(Q:VK)(_:XK):Prop|mk (d) (_:vs= [.int d]) (_:Q (.bl (Dm.opn d)) H)
inductive bQt(vs:List V)(H:Hp)(Q:VK)(_:XK):Prop|mk (d) (_:vs= [.int d]) (_:Q (.int (Dm.place d)) H)
inductive aVM(K:bYI)(vs:List V)(H:Hp)(Q:VK)(_:XK):Prop|mk (a:Nat) (ns:List Int) (_:vs= [.ref a]) (_:SqL K H a (ns.map V.int)) (_:ns.length<64) (_:∀ (r:Nat)(H':Hp)(C:List Int),xA H H'->H r=none->C.Pairwise (·<·)->(∀d,d∈C↔d∈ns/\Dm.opn d=true)->C.length<=ns.length->H' r=some (.lst (C.map V.int))->Q (.ref r) H')
inductive aVO(K:bYI)(vs:List V)(H:Hp)(Q:VK)(_:XK):Prop|mk (a:Nat) (ns:List Int) (d:Int) (_:vs= [.ref a,.int d]) (_:SqL K H a (ns.map V.int)) (_:Q (.bl (Dm.cts ns d)) H)
abbrev bKW:Stmt:=xC "due_day"
abbrev aYK:Stmt:=xC "day_at"
inductive bQm(vs:List V)(H:Hp)(Q:VK)(_:XK):Prop|mk (d) (_:vs= [.int d]) (_:Q (.int (Dm.zK d)) H)
inductive bKc(K:bYI)(vs:List V)(H:Hp)(Q:VK)(_:XK):Prop|mk (a:Nat) (ns:List Int) (d t:Int) (_:vs= [.ref a,.int d,.int t]) (_:SqL K H a (ns.map V.int)) (_:ns.length<64) (_:1<=t) (_:∀ (H':Hp)(D:Int),xA H H'->Dm.Due ns d t D->Q (.int D) H')
section
variable {K:bYI}
def bVL:yO ["date"] ["date"] (yH bVw):=scM
def bJ5(T:vD mg)(F:Fun K "open_by_rest" "open_by_rest" bVw f fd):xD P w K mg base CX0 1 f fd ["date"] bQr:=by
 obtain⟨j,b⟩:=T.week;obtain⟨l,a⟩:=T.opens;have c:=bVL;refine F.ok (k:=0) c (λe A outer s H i Q E g h=>?_);obtain⟨d,rfl,q⟩:=h;refine⟨_,(yF (yP (zG vF (yV y3 (pv 0) (v0 (v:= .int 7) rfl b ⟨_,rfl⟩)) (v0 (v:= .int 5) rfl a ⟨_,rfl⟩)))),?_⟩;exact⟨_,rfl,_,_,rfl,rfl,(show(0:Int)<7 by decide),_,_,rfl,rfl,q⟩
def bZc:yO ["date"] ["date"] (yH aYS):=scM
def bXB(T:vD mg)(F:Fun K "place_of" "place_of" aYS f fd):xD P w K mg base CX0 1 f fd ["date"] bQt:=by
 obtain⟨l,b⟩:=T.week;obtain⟨m,a⟩:=T.opens;have c:=bZc;refine F.ok (k:=0) c (λg A outer s H j Q E i h=>?_);obtain⟨d,rfl,q⟩:=h;refine⟨_,(yF (yP (yV x6 (yV aVu (yV Y7 (pv 0) (v0 (v:= .int 7) rfl b ⟨_,rfl⟩)) (v0 (v:= .int 5) rfl a ⟨_,rfl⟩)) (yT (aKw rfl) rfl T.b_min aKt (yA (yV y3 (pv 0) (v0 (v:= .int 7) rfl b ⟨_,rfl⟩)) (yA (yV vA (v0 (v:= .int 5) rfl a ⟨_,rfl⟩) yE) yD)))))),?_⟩;refine⟨_,rfl,_,_,rfl,rfl,⟨by decide,by decide⟩,_,_,rfl,rfl,.inr ⟨by decide,by decide⟩,_,rfl,_,_,rfl,rfl,(show(0:Int)<7 by decide),_,_,rfl,rfl,_,_,rfl,_,_,rfl,rfl,?_⟩;have e:(if 5 - 1<d % 7 then 5 - 1 else d % 7:Int)=if 4<d % 7 then 4 else d % 7:=rfl;exact q
def aY6:yO ["shut","date"] ["shut","date"] (yH aJR):=scM
def uZ(d:Int):∀ns:List Int,inV (.int d) (ns.map V.int)=ns.contains d
 |[]=>rfl
 |n::r=>by have a:=uZ d r;unfold inV at a ⊢;rw[cQx,cXZ,a,cX4];congr 1;show(n==d)=(d==n);rw[Bool.eq_iff_iff,beq_iff_eq,beq_iff_eq];exact eq_comm
def uM:∀ns:List Int,(ns.map V.int).all W4=true
 |[]=>rfl
 |n::r=>by rw[cQx,cZV,uM r];rfl
def aYk(T:vD mg)(b:FnG P w K mg base 1 "open_by_rest" ["date"] bQr)(F:Fun K "counts" "counts" aJR f fd):xD P w K mg base CX0 2 f fd ["shut","date"] (aVO K):=by
 have i:=aY6;refine F.ok (k:=1) i (λj A outer s H m Q E e h=>?_);obtain⟨a,l,d,rfl,g,q⟩:=h;refine⟨_,(yF (yP (aVy (xK b e rfl (yA (pv 1) yD)) (aZE (zG Z7 (pv 1) (pv 0)))))),?_⟩;refine⟨_,rfl,d,rfl,_,rfl,?_⟩;unfold Dm.cts at q;cases c:Dm.opn d with
 |false=>rw[c]at q;exact q
 |true=>rw[c,Bool.true_and]at q;rw[if_pos rfl];refine⟨_,rfl,_,rfl,a,_,rfl,.inl g,rfl,uM l,?_⟩;rw[if_pos rfl,uZ];exact q
def aY5:yO ["shut"] ["shut"] (yH aXJ):=scM
def aKW:xJ ["shut"] (yH aXJ) "date" [] [] (lsN [(".0",.local),("date",.local),("open_by_rest",.globalImplicit)]):=
 lcM
def Q9(p:Int->Bool):∀ns:List Int,((ns.map V.int).filter λv=>match v with|.int d=>p d|_=>false)=(ns.filter p).map V.int
 |[]=>rfl
 |n::r=>by have a:=Q9 p r;rw[cQx,List.filter_cons,List.filter_cons,a];show(if p n=true then _ else _)=_;split<;> rfl
def aYj(T:vD mg)(c:FnG P w K mg base 1 "open_by_rest" ["date"] bQr)(F:Fun K "closed_days" "closed_days" aXJ f fd):xD P w K mg base CX0 2 f fd ["shut"] (aVM K):=by
 have G:=aY5;refine F.ok (k:=1) G (λL A outer s H Z Q E B h=>?_);obtain⟨a,M,rfl,C,I,q⟩:=h;refine⟨_,(yF (yP (W6 aKW rfl (xM (yT (aQY rfl) rfl T.b_sorted w6 (yA (x8 (bQK rfl) rfl T.b_set bWo (yA (pv 0) yD)) yD))) (λ_ _ _ _ _=>(wV (xQ (xK c B rfl (yA (pv 0) yD))))) (λ_ _ _ _ _=>(pv 0))))),?_⟩;refine⟨_,rfl,a,M,rfl,C,by omega,λl p hl z x e=>?_⟩;refine⟨l,p,rfl,yB,by omega,λr S j g O=>?_⟩;refine⟨r,rfl,⟨_,SqL.of yB⟩,λD m=>?_⟩;have i:S.Pairwise (·<·):=by
  have n:S.Nodup:=(g.nodup_iff).mpr z;have y:S.Pairwise (λa b=>a<=b/\a≠b):=O.and n;exact y.imp λ⟨Y,y⟩=>by omega
 have U:(S.map V.int).length<=bY8:=by rw[bYL,g.length_eq,cQg];omega
 refine aZu (λv=>match v with|.int d=>Dm.opn d|_=>false) id (SqL.of yB) m U ?_ ?_ ?_
 ·intro v t X R N hR;obtain⟨d,hd,rfl⟩:=cQH.mp t;exact⟨_,rfl,d,rfl,_,rfl,hR⟩
 ·intro v t J X R N hR;exact⟨_,rfl,hR⟩
 ·rw[Q9,List.map_id];have o:=yG hl (bW8 w l p);have u:=yG j (.lst (S.map V.int));have W:=yG m (.lst ((S.filter Dm.opn).map V.int));refine q D _ (S.filter Dm.opn) (o.trans (u.trans W)) ?_ (i.sublist cXK) ?_ ?_ yB
  ·exact(xA.trans o u).fresh m
  ·intro d;rw[cQO,g.mem_iff,e]
  ·have:=cQM Dm.opn S;rw[g.length_eq]at this;omega
def bX4:yO ["place"] ["place"] (yH aYK):=scM
def bXt(T:vD mg)(F:Fun K "day_at" "day_at" aYK f fd):xD P w K mg base CX0 1 f fd ["place"] bQm:=by
 obtain⟨j,b⟩:=T.week;obtain⟨l,a⟩:=T.opens;have c:=bX4;refine F.ok (k:=0) c (λe A outer s H i Q E g h=>?_);obtain⟨d,rfl,q⟩:=h;refine⟨_,(yF (yP (yV x6 (yV aVu (yV Y7 (pv 0) (v0 (v:= .int 5) rfl a ⟨_,rfl⟩)) (v0 (v:= .int 7) rfl b ⟨_,rfl⟩)) (yV y3 (pv 0) (v0 (v:= .int 5) rfl a ⟨_,rfl⟩))))),?_⟩;exact⟨_,rfl,_,_,rfl,rfl,⟨by decide,by decide⟩,_,_,rfl,rfl,.inr ⟨by decide,by decide⟩,_,rfl,_,_,rfl,rfl,(show(0:Int)<5 by decide),_,_,rfl,rfl,q⟩
def bW4:yO ["shut","date","term","place","closed"] ["shut","date","term"] (yH bKW):=scM
def bQS(d p:Int)(C:List Int)(i:Nat)(c:Int)(h:C[i]? =some c):Dm.aXt d p (C.take (i+1))=Dm.uK d (Dm.aXt d p (C.take i)) c:=by
 unfold Dm.aXt;rw[cQP,h];show(C.take i++ [c]).foldl _ p=_;rw[cJT];rfl
def bWL(T:vD mg)(b:FnG P w K mg base 2 "closed_days" ["shut"] (aVM K))(j:FnG P w K mg base 2 "place_of" ["date"] bQt)(g:FnG P w K mg base 2 "day_at" ["place"] bQm) (F:Fun K "due_day" "due_day" bKW f fd):xD P w K mg base CX0 3 f fd ["shut","date","term"] (bKc K):=by
 have M:=bW4;refine F.ok (k:=2) M (λN A outer s H X Q E p h=>?_);obtain⟨a,R,d,t,rfl,L,v,J,q⟩:=h;refine⟨_,(yC (yU (i:=3) (yV x6 (xK j p rfl (yA (pv 1) yD)) (pv 2))) (yC (zN cQv rfl (xM (xK b p rfl (yA (pv 0) yD))) (xB (i:=4)) (yF (y0 (bXP vF aYs (pv 1) (pv 4) (xK g p rfl (yA (pv 3) yD))) (yF (yU (i:=3) (yV x6 (pv 3) yE))) yS))) (yF (yP (xK g p rfl (yA (pv 3) yD)))))),?_⟩;refine⟨_,rfl,d,rfl,_,rfl,_,_,rfl,rfl,?_⟩;refine⟨_,rfl,a,R,rfl,L,v,λr S C G O I U hl n=>⟨r,rfl,⟨_,SqL.of n⟩,?_⟩⟩;refine zO (xs:=C.map V.int) (λi σ H=>∃cl,σ= [some (.ref a),some (.int d),some (.int t),some (.int (Dm.aXt d (Dm.place d+t) (C.take i))),cl]/\H=S) ?_ ?_ ?_ ?_
 ·exact⟨none,rfl,rfl⟩
 ·rintro i σ H W ⟨cl,rfl,rfl⟩;exact SqL.of n
 ·rintro i x σ H o ⟨cl,rfl,rfl⟩;rw[bY1]at o;cases y:C[i]? with
  |none=>rw[y]at o;cases o
  |some c=>
   rw[y]at o;cases o;have u:=bQS d (Dm.place d+t) C i c y;generalize Dm.aXt d (Dm.place d+t) (C.take i)=pl at u ⊢;dsimp only[yW];refine⟨_,rfl,_,rfl,_,_,rfl,rfl,_,rfl,?_⟩;refine qF (λB=>?_) (λB=>?_)
   ·have l:d<c:=of_decide_eq_true B;refine⟨_,rfl,pl,rfl,_,_,rfl,rfl,_,rfl,?_⟩;refine qF (λD=>?_) (λD=>?_)
    ·have m:c<=Dm.zK pl:=of_decide_eq_true D;refine⟨_,rfl,_,_,rfl,rfl,some (.int c),?_,rfl⟩;have e:Dm.uK d pl c=pl+1:=if_pos ⟨l,m⟩;rw[u,e];rfl
    ·have m:¬c<=Dm.zK pl:=of_decide_eq_false (Bool.eq_false_iff.mpr D);refine⟨some (.int c),?_,rfl⟩;have e:Dm.uK d pl c=pl:=if_neg λz=>m z.2;rw[u,e];rfl
   ·have l:¬d<c:=of_decide_eq_false (Bool.eq_false_iff.mpr B);refine⟨_,rfl,?_⟩;refine onF rfl ⟨some (.int c),?_,rfl⟩;have e:Dm.uK d pl c=pl:=if_neg λz=>l z.1;rw[u,e];rfl
 ·rintro σ H ⟨cl,rfl,rfl⟩;rw[bYL,cQI];exact⟨_,rfl,_,rfl,q _ _ G (Dm.bZO J I U)⟩
end
end Days
namespace Desk
open PySem L2 PyProof.Rows
open Bk (Row Rows)
structure PB(CB CL:Nat)(H:Hp)(ba la sa:Nat)(ls cs:List Nat)(R:Rows)(S:List Int):Prop where
 book:∃dx,H ba=some (.ins CB dx [("letters",.ref la),("shut",.ref sa)])
 lst:H la=some (.lst (ls.map V.ref))
 sht:H sa=some (.lst (S.map V.int))
 len:ls.length=R.length
 clen:cs.length=R.length
 nd:ls.Nodup
 cnd:cs.Nodup
 las:la≠sa
 lac:la∉cs
 sac:sa∉cs
 row:∀ (i:Nat)(b c:Nat)(r:Row),ls[i]? =some b->cs[i]? =some c->R[i]? =some r->aV2 CL H b i r c/\H c=some (.lst (r.copies.map V.str))
def PB.get{j CL:Nat}{H:Hp}{l la sa:Nat}{ls cs:List Nat}{R:Rows}{S:List Int}(h:PB j CL H l la sa ls cs R S){i:Nat}{r:Row}(d:R[i]? =some r): ∃b c,(ls.map V.ref)[i]? =some (.ref b)/\ls[i]? =some b/\cs[i]? =some c/\aV2 CL H b i r c/\H c=some (.lst (r.copies.map V.str)):=by
 have e:i<R.length:=Bk.wB d;have a:=bYG (show i<ls.length by rw[h.len];exact e);have f:=bYG (show i<cs.length by rw[h.clen];exact e);obtain⟨g,k⟩:=h.row i _ _ r a f d;exact⟨_,_,by rw[bY1,a];rfl,a,f,g,k⟩
def PB.sameT{a CL:Nat}{H f:Hp}{d la sa:Nat}{ls cs:List Nat}{R:Rows}{S:List Int}(h:PB a CL H d la sa ls cs R S)(k:x4 H f):PB a CL f d la sa ls cs R S:=
 ⟨let ⟨dx,e⟩:=h.book;⟨dx,k _ _ (λ_ z=>nomatch z) e⟩,k.lst h.lst,k.lst h.sht,h.len,h.clen,h.nd,h.cnd,h.las,h.lac,h.sac,λi b c r g j l=>
  let ⟨⟨dx,e1⟩,e2⟩:=h.row i b c r g j l;⟨⟨dx,k _ _ (λ_ z=>nomatch z) e1⟩,k.lst e2⟩⟩
def PB.same{a CL:Nat}{H c:Hp}{b la sa:Nat}{ls cs:List Nat}{R:Rows}{S:List Int}(h:PB a CL H b la sa ls cs R S)(k:xA H c):PB a CL c b la sa ls cs R S:=h.sameT k.t
def aKm(T:Nat)(H a:Hp):Prop:=x4 H a/\(Thr.z8 T H->Thr.z8 T a)
def aKm.of{T:Nat}{H a:Hp}(k:xA H a):aKm T H a:=⟨k.t,λt=>by
 rcases t with t|⟨d,b,c⟩
 ·exact .inl (k _ _ t)
 ·exact .inr ⟨d,k _ _ b,k _ _ c⟩⟩
def aKm.trans{T:Nat}{H d c:Hp}(a:aKm T H d)(b:aKm T d c):aKm T H c:=⟨a.1.trans b.1,λt=>b.2 (a.2 t)⟩
def xG(K:bYI)(Rf:Nat×Nat)(H:Hp)(E:XK)(t:Str):Prop:=∀ (C b:Nat)(a:Hp),vX K C->cZW K C (.ref Rf.1)=some true->aKm Rf.2 H a->a b=some (.xd [("words",.str t)])->E (.ref C) (some b) a
def xG.go{K:bYI}{Rf:Nat×Nat}{H:Hp}{E:XK}{t:Str}(h:xG K Rf H E t){b:Hp}(k:aKm Rf.2 H b):xG K Rf b E t:=λC f a c m d e=>h C f a c m (k.trans d) e
def xG.raise{P:bY4}{w:cQa}{K:bYI}{mg:Str->Option bYH}{base:Heap}{k:Nat}{x:Str}{Rf:Nat×Nat}{C:Nat}{H:Hp}{E:XK}{t:Str}(h:xG K Rf H E t)(G:ExG P w K mg base k x Rf.1 C t){D:aZ4}{σ:L2.St}:bZ7 C t E D σ H:=
 λb a=>h C b _ G.cl G.sub (aKm.of (yG a _)) yB
inductive bQj(K:bYI)(Rf:Nat×Nat)(CB CL:Nat)(vs:List V)(H:Hp)(Q:VK)(E:XK):Prop|mk (ba la sa:Nat) (ls cs:List Nat) (R:Rows) (S:List Int) (m:Int) (_:vs= [.ref ba,.int m]) (_:PB CB CL H ba la sa ls cs R S) (_:(∀ (k:Nat)(r:Row)(b:Nat),m=(k:Int)->R[k]? =some r->r.void=false->ls[k]? =some b->Q (.ref b) H)) (_:(Bk.wN R m=false->xG K Rf H E "no letter"))
inductive aJ9(CB CL:Nat)(vs:List V)(H:Hp)(Q:VK)(_:XK):Prop|mk (ba la sa:Nat) (ls cs:List Nat) (R:Rows) (S:List Int) (i:Nat) (b:Nat) (_:vs= [.ref ba,.ref b]) (_:PB CB CL H ba la sa ls cs R S) (_:ls[i]? =some b) (_:R.length<=100) (_:∀l,H l=none->Q (.ref l) (upd H l (.lst ((Bk.zS R i).map λk=>(ls.map V.ref).getD k .non))))
inductive aVN(K:bYI)(Rf:Nat×Nat)(CB CL:Nat)(vs:List V)(H:Hp)(Q:VK)(E:XK):Prop|mk (ba la sa:Nat) (ls cs:List Nat) (R:Rows) (S:List Int) (m:Int) (_:vs= [.ref ba,.int m]) (_:PB CB CL H ba la sa ls cs R S) (_:(∀ (k:Nat)(r:Row)(l:Nat),m=(k:Int)->R[k]? =some r->r.void=false->H l=none->Q (.ref l) (upd H l (.lst (r.copies.map V.str))))) (_:(Bk.wN R m=false->xG K Rf H E "no letter"))
inductive aZY(K:bYI)(Rf:Nat×Nat)(CB CL:Nat)(vs:List V)(H:Hp)(Q:VK)(E:XK):Prop|mk (ba la sa:Nat) (ls cs:List Nat) (R:Rows) (S:List Int) (m:Int) (_:vs= [.ref ba,.int m]) (_:PB CB CL H ba la sa ls cs R S) (_:(∀ (k:Nat)(r:Row)(l:Nat),m=(k:Int)->R[k]? =some r->r.void=false->H l=none->Q (.ref l) (upd H l (.tup (stV r))))) (_:(Bk.wN R m=false->xG K Rf H E "no letter"))
section
variable {K:bYI}
abbrev aQz:Stmt:=xF "Book" "letter_at"
abbrev aVE:Stmt:=xF "Book" "answers_to"
abbrev aQy:Stmt:=xF "Book" "copies_of"
abbrev aXP:Stmt:=xF "Book" "state_of"
def bK0:yO ["self","number"] ["self","number"] (yH aQz):=scM
def bQZ{R:Rows}{m:Int}(h:m<0):Bk.wN R m=false:=by
 unfold Bk.wN;rw[decide_eq_false (by omega),Bool.false_and]
def bQY{R:Rows}{m:Int}(h:(R.length:Int)<=m):Bk.wN R m=false:=by
 unfold Bk.wN;rw[cQi (by omega)];simp
def aZj{R:Rows}{k:Nat}{r:Row}(h:R[k]? =some r):Bk.wN R (k:Int)= !r.void:=by
 unfold Bk.wN;rw[cQc,h];simp
def bKP(T:vD mg)(cl:Cl K CB CL)(a:ExG P w K mg base n "NoLetter" Rf.1 C1 "no letter")(F:Fun K "letter_at" "Book.letter_at" aQz f fd):xD P w K mg base (CXR P w) (n+2) f fd ["self","number"] (bQj K Rf CB CL):=by
 have y:=bK0;refine F.okX (k:=n+1) y (λB A outer s H J Q E x h=>?_);obtain⟨p,g,L,z,M,R,S,m,rfl,e,q,j⟩:=h;refine⟨_,(yC (y0 (PW.pt (vG (yM vF (pv 1) yE) (vG (yM bWP (pv 1) (yT yN rfl T.b_len y9 (yA (yZ (pv 0) rfl) yD))) (wM (xQ (yZ (yL yK (yZ (pv 0) rfl) (pv 1)) rfl)))))) (yF (zW a x rfl)) yS) (yF (yP (yL yK (yZ (pv 0) rfl) (pv 1))))),?_⟩;obtain⟨i,r⟩:=e.book;have hl:(z.map V.ref).length=R.length:=by rw[bYL];exact e.len
 refine⟨_,rfl,_,_,rfl,rfl,_,rfl,?_⟩;refine qF (λc=>?_) (λc=>?_)
 ·exact onT rfl ((j (bQZ (of_decide_eq_true c))).raise a)
 ·have I:¬m<0:=of_decide_eq_false (Bool.eq_false_iff.mpr c);refine⟨_,rfl,_,rfl,p,CB,i,_,_,rfl,r,cl.b,cl.letters,rfl,g,_,rfl,.inl (SqL.of e.lst),_,_,rfl,rfl,_,rfl,?_⟩;rw[hl];refine qF (λc=>?_) (λc=>?_)
  ·exact onT rfl ((j (bQY (of_decide_eq_true c))).raise a)
  ·have N:¬m≥(R.length:Nat):=of_decide_eq_false (Bool.eq_false_iff.mpr c);obtain⟨k,rfl⟩:∃k:Nat,m=(k:Int):=⟨m.toNat,by omega⟩;have C:k<R.length:=by omega
   have d:=bYG C;obtain⟨b,G,u,v,U,⟨o,D⟩,O⟩:=e.get d;refine⟨_,rfl,p,CB,i,_,_,rfl,r,cl.b,cl.letters,rfl,_,rfl,g,_,_,_,rfl,rfl,SqL.of e.lst,yR u,b,CL,o,_,_,rfl,D,cl.l,cl.void,rfl,_,rfl,?_⟩;cases t:R[k].void with
   |true=>exact onT rfl ((j (by rw[aZj d,t];rfl)).raise a)
   |false=>exact onF rfl ⟨_,rfl,p,CB,i,_,_,rfl,r,cl.b,cl.letters,rfl,_,rfl,g,_,_,_,rfl,rfl,SqL.of e.lst,yR u,q k _ b rfl d t v⟩
def aWs{K:bYI}{a:Nat}{xs:List V}{r:List Nat}{j:TT}{q:TE}{σ:L2.St}{D:Nat}{Q:VK}{H:Hp}(p:Nat->Bool)(f:Nat->V)(hl:SqL K H a xs)(t:H D=none)(hz:xs.length<=bY8) (A:∀i v,xs[i]? =some v->∀ (c:Hp)(R:Bool->Hp->Prop),(∀b,b≠D->c b=H b)->R (p i) c->j (sub σ r (some v)) c R) (x:∀i v,xs[i]? =some v->p i=true->∀ (c:Hp)(R:VK),(∀b,b≠D->c b=H b)->R (f i) c->q (sub σ r (some v)) c R) (z:Q (.ref D) (upd H D (.lst (((bYU xs.length).filter p).map f)))):bJo (Itl K a) r j q σ D Q (upd H D (.lst [])):=by
 have d:∀g,SqL K (upd H D (.lst g)) a xs:=λg=>by
  rcases hl with(h|⟨o,h⟩)|h
  ·exact .inl (.inl (by rw[yI (yJ h t)];exact h))
  ·exact .inl (.inr ⟨o,by rw[yI (yJ h t)];exact h⟩)
  ·exact .inr h
 refine⟨λi m g c=>m=xs.length - i/\i<=xs.length/\g=((bYU i).filter p).map f/\c=upd H D (.lst g),⟨xs.length,by simp,cQE _,by simp,rfl⟩,?_⟩;rintro i m g c ⟨rfl,F,rfl,rfl⟩;refine⟨yB,?_⟩;by_cases e:i<xs.length
 ·refine .inr ⟨⟨xs,xs[i],d _,bYG e⟩,λv E w=>?_⟩;obtain⟨rfl,y⟩:=w;have s:xs[i]? =some v:=y xs (d _);have l:∀b,b≠D->upd H D (.lst (((bYU i).filter p).map f)) b=H b:=λb B=>yI B;have k:(((bYU i).filter p).map f).length<bY8:=by
   rw[bYL];have u:=cQM p (bYU i);rw[cQt]at u;omega
  refine A i v s _ _ l ?_;cases n:p i with
  |false=>show ∃C,_;refine⟨xs.length - (i+1),by omega,rfl,e,?_,rfl⟩;rw[cXS,cQT,cXm (by rw[n];decide)];simp
  |true=>show q _ _ _;refine x i v s n _ _ l ⟨k,yB,xs.length - (i+1),by omega,rfl,e,?_,by rw[uT]⟩;rw[cXS,cQT,cXn n];simp
 ·obtain rfl:i=xs.length:=by omega
  exact .inl ⟨⟨xs,d _,bYO _⟩,z⟩
def bX0:yO ["self","letter"] ["self","letter"] (yH aVE):=scM
def bQ9:xJ ["self","letter"] (yH aVE) "other" ["letter"] [1] (lsN [(".0",.local),("other",.local),("letter",.free)]):=
 lcM
def bXp(cl:Cl K CB CL)(a:MG P w K mg base CX0 n CL "is_answered_by" ["self","other"] (bQi CL))(F:Fun K "answers_to" "Book.answers_to" aVE f fd):xD P w K mg base CX0 (n+1) f fd ["self","letter"] (aJ9 CB CL):=by
 have N:=bX0;refine F.ok (k:=n) N (λO A outer s H vs Q E M h=>?_);obtain⟨T,B,sa,r,cs,R,S,i,b,rfl,d,y,hR,q⟩:=h;refine⟨_,(yF (yP (W6 bQ9 rfl (xM (yZ (pv 0) rfl)) (λ_ _ _ _ _=>(wV (xQ (vU a M vT (pv 1) (yA (pv 0) yD))))) (λ_ _ _ _ _=>(pv 0))))),?_⟩;obtain⟨J,W⟩:=d.book;have hl:(r.map V.ref).length=R.length:=by rw[bYL];exact d.len
 have t:i<R.length:=by rw[<- d.len];exact(bYS.mp y).1
 obtain⟨L,Z,g1,C,g3,⟨g,o⟩,g5⟩:=d.get (bYG t);obtain rfl:b=L:=bY3 (y.symm.trans C);refine⟨_,rfl,T,CB,J,_,_,rfl,W,cl.b,cl.letters,rfl,B,rfl,⟨_,SqL.of d.lst⟩,λD l=>?_⟩;refine aWs (λk=>decide (Bk.lk R k=some i)) (λk=>(r.map V.ref).getD k .non) (SqL.of d.lst) l (zn (by omega)) (λj v m X U p c=>?_) (λj v m _ X U p c=>?_) ?_
 ·have I:j<R.length:=by rw[<- hl];exact(bYS.mp m).1
  have e:=bYG I;obtain⟨x,c2,G,k2,k3,⟨u,z⟩,Y⟩:=d.get e;obtain rfl:v= .ref x:=bY3 (m.symm.trans G);rw[Bk.vS e]at c;exact⟨_,rfl,b,g,_,rfl,(p _ (yJ o l)).trans o,rfl,_,rfl,b,x,i,j,_,_,_,_,rfl,⟨g,(p _ (yJ o l)).trans o⟩,⟨u,(p _ (yJ z l)).trans z⟩,_,rfl,c⟩
 ·have:(r.map V.ref).getD j .non=v:=by simp only[cQu,m];rfl
  rw[this]at c;exact⟨_,rfl,c⟩
 ·rw[hl];exact q D l
def aJ0:yO ["self","number"] ["self","number"] (yH aQy):=scM
def aJx(T:vD mg)(cl:Cl K CB CL)(a:MG P w K mg base (CXR P w) n CB "letter_at" ["self","number"] (bQj K Rf CB CL))(F:Fun K "copies_of" "Book.copies_of" aQy f fd):xD P w K mg base (CXR P w) (n+1) f fd ["self","number"] (aVN K Rf CB CL):=by
 have z:=aJ0;refine F.okX (k:=n) z (λD A outer s H N Q E y h=>?_);obtain⟨i,j,B,C,G,R,S,m,rfl,c,q,v⟩:=h;refine⟨_,(yF (yP (x8 uJ rfl T.b_list wZ (yA (yZ (vU a y zQ (pv 0) (yA (pv 1) yD)) rfl) yD)))),?_⟩;obtain⟨t,M⟩:=c.book;refine⟨_,rfl,i,t,_,rfl,M,rfl,_,rfl,i,j,B,C,G,R,S,m,rfl,c,λk r b J g x e=>?_,v⟩;obtain⟨u,o,O,p,U,⟨d,I⟩,L⟩:=c.get g;obtain rfl:b=u:=bY3 (e.symm.trans p);refine⟨b,CL,d,_,_,rfl,I,cl.l,cl.copies,rfl,?_⟩;exact⟨o,_,rfl,.inl (SqL.of L),λl hl=>q k r l J g x hl⟩
def aKa:yO ["self","number"] ["self","number"] (yH aXP):=scM
def aWP(cl:Cl K CB CL)(a:MG P w K mg base (CXR P w) n CB "letter_at" ["self","number"] (bQj K Rf CB CL))(c:MG P w K mg base CX0 n CL "state" ["self"] (aVc CL))(F:Fun K "state_of" "Book.state_of" aXP f fd): xD P w K mg base (CXR P w) (n+1) f fd ["self","number"] (aZY K Rf CB CL):=by
 have D:=aKa;refine F.okX (k:=n) D (λJ A outer s H O Q E i h=>?_);obtain⟨o,p,G,I,L,R,S,m,rfl,e,q,z⟩:=h;refine⟨_,(yF (yP (bXM c i vT (vU a i zQ (pv 0) (yA (pv 1) yD))))),?_⟩;obtain⟨x,N⟩:=e.book;refine⟨_,rfl,o,x,_,rfl,N,rfl,_,rfl,o,p,G,I,L,R,S,m,rfl,e,λk r b M j B g=>?_,z⟩;obtain⟨y,u,T,v,V,⟨d,l⟩,U⟩:=e.get j;obtain rfl:b=y:=bY3 (g.symm.trans v);exact⟨b,d,_,rfl,l,rfl,b,k,r,u,rfl,⟨d,l⟩,λt C=>q k r t M j B C⟩
end
end Desk
namespace Desk
open PySem L2 PyProof.Rows
open Bk (Row Rows)
open Law (aKl jM qU bQG aXf aQU)
def Z0(R:Rows)(w:Str):List Nat:=(bYU R.length).filter λk=>match R[k]? with|some r=> !r.void && decide (r.place=w)|none=>false
inductive aQO(CB CL:Nat)(vs:List V)(H:Hp)(Q:VK)(_:XK):Prop|mk (ba la sa:Nat) (ls cs:List Nat) (R:Rows) (S:List Int) (w:Str) (_:vs= [.ref ba,.str w]) (_:PB CB CL H ba la sa ls cs R S) (_:R.length<64) (_:∀l,H l=none->Q (.ref l) (upd H l (.lst ((Z0 R w).map λi=>V.int (i:Nat)))))
def bJl(R:Rows)(n:Nat)(d:Int)(a:List (Key×V)):Prop:=∀j:Nat,(Q3 a (Sum.inl (j:Int))).isSome=true↔∃k,k<n/\Bk.lk R k=some j/\Bk.dt R k<=d
inductive aXi(CB CL:Nat)(vs:List V)(H:Hp)(Q:VK)(_:XK):Prop|mk (ba la sa:Nat) (ls cs:List Nat) (R:Rows) (S:List Int) (d:Int) (_:vs= [.ref ba,.int d]) (_:PB CB CL H ba la sa ls cs R S) (_:R.length<64) (_:∀ (a:Nat)(H':Hp)(kvs:List (Key×V)),xA H H'->H a=none->H' a=some (.dK kvs)->bJl R R.length d kvs->Q (.ref a) H')
inductive aVb(CB CL:Nat)(vs:List V)(H:Hp)(Q:VK)(_:XK):Prop|mk (ba la sa:Nat) (ls cs:List Nat) (R:Rows) (S:List Int) (d:Int) (_:vs= [.ref ba,.int d]) (_:PB CB CL H ba la sa ls cs R S) (_:R.length<64) (_:S.length<64) (_:∀ (l:Nat)(H':Hp)(ks:List Nat)(ps:List V),xA H H'->H l=none->H' l=some (.lst ps)->cQA (aKl H' (jM R S)) ks ps->Bk.bQH R S d false ks->Q (.ref l) H')
inductive bKy(CB CL:Nat)(late:Bool)(vs:List V)(H:Hp)(Q:VK)(_:XK):Prop|mk (ba la sa:Nat) (ls cs:List Nat) (R:Rows) (S:List Int) (d:Int) (_:vs= [.ref ba,.int d]) (_:PB CB CL H ba la sa ls cs R S) (_:R.length<64) (_:S.length<64) (_:∀ (l:Nat)(H':Hp)(ks:List Nat),xA H H'->H l=none->H' l=some (.lst (ks.map λi=>V.int (i:Nat)))->Bk.bQH R S d late ks->Q (.ref l) H')
def aQt{X:Cx}{K:bYI}{e:Expr}{f:Str}{pos:Pos}{a:TE}(d:PE X e a)(b:cZw e f X.env (eval e X.env)=eval e X.env)(c:X.K=K:=by rfl):PE X (.Attribute e f pos) (bYi K a f):=c ▸ yZ d b
section
variable {K:bYI}
abbrev jF:Stmt:=xF "Book" "letters_in"
abbrev aQx:Stmt:=xF "Book" "answered_by"
abbrev aYR:Stmt:=xF "Book" "waiting_pairs"
abbrev Q1:Stmt:=xF "Book" "waiting"
abbrev Q0:Stmt:=xF "Book" "overdue"
def aZP:yO ["self","name"] ["self","name"] (yH jF):=scM
def aZt:xJ ["self","name"] (yH jF) "letter" ["name"] [1] (lsN [(".0",.local),("letter",.local),("name",.free)]):=
 lcM
def bJy{r:Row}{w:Str}:decide (Y3 r=V.str w)=(!r.void && decide (r.place=w)):=by
 unfold Y3;cases r.void with
 |true=>rfl
 |false=>show decide (V.str r.place=V.str w)=(true && decide (r.place=w));rw[Bool.true_and,Bool.eq_iff_iff];simp
def aZC(cl:Cl K CB CL)(F:Fun K "letters_in" "Book.letters_in" jF f fd):xD P w K mg base CX0 (n+1) f fd ["self","name"] (aQO CB CL):=by
 have B:=aZP;refine F.ok (k:=n) B (λI A outer s H W Q E U h=>?_);obtain⟨M,x,X,G,Y,R,S,w,rfl,d,hR,q⟩:=h;refine⟨_,(yF (yP (W6 aZt rfl (xM (yZ (pv 0) rfl)) (λ_ _ _ _ _=>(wV (yM zB (aQt (K:=K) (pv 0) rfl) (pv 1)))) (λ_ _ _ _ _=>(aQt (K:=K) (pv 0) rfl))))),?_⟩;obtain⟨z,O⟩:=d.book;have hl:(G.map V.ref).length=R.length:=by rw[bYL];exact d.len
 refine⟨_,rfl,M,CB,z,_,_,rfl,O,cl.b,cl.letters,rfl,x,rfl,⟨_,SqL.of d.lst⟩,λD o=>?_⟩;refine aWs (λk=>match R[k]? with|some r=> !r.void && decide (r.place=w)|none=>false) (λk=>V.int (k:Nat)) (SqL.of d.lst) o (zn (by omega)) (λj v e T N u a=>?_) (λj v e _ T N u a=>?_) ?_
 ·have t:j<R.length:=by rw[<- hl];exact(bYS.mp e).1
  have i:=bYG t;obtain⟨g,L,p,C,J,⟨c,m⟩,y⟩:=d.get i;obtain rfl:v= .ref g:=bY3 (e.symm.trans p);rw[i]at a;dsimp only at a;rw[<- bJy]at a;refine⟨_,rfl,g,CL,c,_,_,rfl,(u _ (yJ m o)).trans m,cl.l,cl.file,rfl,_,rfl,?_,_,rfl,a⟩;unfold Y3;cases R[j].void<;> rfl
 ·have t:j<R.length:=by rw[<- hl];exact(bYS.mp e).1
  obtain⟨g,L,p,C,J,⟨c,m⟩,y⟩:=d.get (bYG t);obtain rfl:v= .ref g:=bY3 (e.symm.trans p);exact⟨_,rfl,g,CL,c,_,_,rfl,(u _ (yJ m o)).trans m,cl.l,cl.number,rfl,a⟩
 ·rw[hl];exact q D o
def aJZ:yO ["self","day","answered","letter"] ["self","day"] (yH aQx):=scM
def aX5{R:Rows}{t:Nat}{d:Int}{a:List (Key×V)}(h:bJl R t d a)(g:∀j,Bk.lk R t=some j->¬Bk.dt R t<=d):bJl R (t+1) d a:=λj=>by
 rw[h j];constructor
 ·rintro⟨k,f,b⟩;exact⟨k,by omega,b⟩
 ·rintro⟨k,f,b,c⟩;by_cases e:k=t
  ·subst e;exact absurd c (g j b)
  ·exact⟨k,by omega,b,c⟩
def bQJ{R:Rows}{t:Nat}{d:Int}{b:List (Key×V)}(h:bJl R t d b){i:Nat}(hl:Bk.lk R t=some i)(f:Bk.dt R t<=d){v:V}:bJl R (t+1) d (aJK b (Sum.inl (i:Int)) v):=λj=>by
 rw[bZE];by_cases e:j=i
 ·subst e;rw[if_pos rfl];exact⟨λ_=>⟨t,by omega,hl,f⟩,λ_=>rfl⟩
 ·rw[if_neg (λz=>e (by have:=Sum.inl.inj z;omega)),h j];constructor
  ·rintro⟨k,c,a⟩;exact⟨k,by omega,a⟩
  ·rintro⟨k,c,a,l⟩;by_cases g:k=t
   ·subst g;rw[hl]at a;exact absurd (bY3 a).symm e
   ·exact⟨k,by omega,a,l⟩
def aJw(cl:Cl K CB CL)(F:Fun K "answered_by" "Book.answered_by" aQx f fd):xD P w K mg base CX0 (n+1) f fd ["self","day"] (aXi CB CL):=by
 have sc:=aJZ;refine F.ok (k:=n) sc (λa0 A outer s H vs Q E Z h=>?_);obtain⟨W,X,sa,O,cs,R,S,d,rfl,B,hR,q⟩:=h;refine⟨_,(yC (yU (i:=2) bXL) (yC (zN cQv rfl (xM (yZ (pv 0) rfl)) (xB (i:=3)) (yF (y0 (PW.pt (vM (yM wC (yZ (pv 3) rfl) x2) (wQ (yM aYs (yZ (pv 3) rfl) (pv 1))))) (yF (bVh (bWv Z) (pv 2) (yZ (pv 3) rfl) wP rfl)) yS))) (yF (yP (pv 2))))),?_⟩;obtain⟨Y,hb⟩:=B.book;have hl:(O.map V.ref).length=R.length:=by rw[bYL];exact B.len
 intro a L;dsimp only[yW];have I:=yG L (.dK []);refine⟨_,rfl,W,CB,Y,_,_,rfl,I _ _ hb,cl.b,cl.letters,rfl,X,rfl,⟨_,SqL.of (I _ _ B.lst)⟩,?_⟩;refine zO (xs:=O.map V.ref) (λt σ u=>∃ (e:List (Key×V))(o:Option V),σ= [some (.ref W),some (.int d),some (.ref a),o]/\xA H u/\u a=some (.dK e)/\e.length<=t/\bJl R t d e) ?_ ?_ ?_ ?_
 ·exact⟨[],none,rfl,I,yB,cQE _,λj=>⟨λz=>(by cases z),λ⟨k,z,_⟩=>absurd z (cXu _)⟩⟩
 ·rintro t σ u M ⟨e,o,rfl,g,y,U,r⟩;exact SqL.of (g _ _ B.lst)
 ·rintro t x σ u N ⟨e,o,rfl,g,y,U,r⟩;have M:t<R.length:=by rw[<- hl];exact(bYS.mp N).1
  have m:=bYG M;obtain⟨b,c,g1,g2,g3,⟨v,J⟩,g5⟩:=(B.same g).get m;obtain rfl:x= .ref b:=bY3 (N.symm.trans g1);dsimp only[yW];refine⟨_,rfl,b,CL,v,_,_,rfl,J,cl.l,cl.link,rfl,rfl,_,rfl,?_⟩;have D:=Bk.vS m;have C:=Bk.vE m;cases p:R[t].link with
  |none=>exact onF rfl (onF rfl ⟨e,_,rfl,g,y,by omega,aX5 r λj G=>by rw[D,p]at G;cases G⟩)
  |some i=>
   refine onT rfl ⟨_,rfl,b,CL,v,_,_,rfl,J,cl.l,cl.day,rfl,_,rfl,_,_,rfl,rfl,_,rfl,?_⟩;cases T:decide (R[t].date<=d)with
   |false=>exact onF rfl ⟨e,_,rfl,g,y,by omega,aX5 r λj G=>by rw[C];exact of_decide_eq_false T⟩
   |true=>
    refine onT rfl ⟨_,rfl,_,rfl,b,CL,v,_,_,rfl,J,cl.l,cl.link,rfl,a,upd u a (.dK (aJK e (Sum.inl (i:Int)) (.bl true))),rfl,?_,?_⟩
    ·rw[p];exact bWc.k (k:=Sum.inl (i:Int)) y (by rw[cQg];omega)
    refine⟨_,_,rfl,?_,yB,cQn (jU _ _ _) (by omega),bQJ r (by rw[D,p]) (by rw[C];exact of_decide_eq_true T)⟩;exact aQU g L
 ·rintro σ u ⟨e,o,rfl,g,y,U,r⟩;rw[hl]at r;exact⟨_,rfl,q a u e g L y r⟩
def bZF{R:Rows}{i:Nat}{r:Row}{d:Int}{a:List (Key×V)}(g:R[i]? =some r)(j:bJl R R.length d a): Bk.W8 R i d=(decide (W7 r > 0) && (decide (r.date<=d) && !(Q3 a (Sum.inl (i:Int))).isSome)):=by
 have l:((Bk.zS R i).all λk=>decide (d<Bk.dt R k))= !(Q3 a (Sum.inl (i:Int))).isSome:=by
  rw[Bool.eq_iff_iff,cZR,Bool.not_eq_true',Bool.eq_false_iff,ne_eq,j i];constructor
  ·rintro h ⟨k,b,c,m⟩;have:=of_decide_eq_true (h k (cQO.mpr ⟨cQf.mpr b,decide_eq_true c⟩));omega
  ·intro h k f;obtain⟨b,c⟩:=cQO.mp f;refine decide_eq_true ?_;by_cases z:Bk.dt R k<=d
   ·exact absurd ⟨k,cQf.mp b,of_decide_eq_true c,z⟩ h
   ·omega
 unfold Bk.W8;rw[g];dsimp only;rw[l];unfold W7;cases r.void with
 |true=>rfl
 |false=>
  rw[if_neg (by decide)];have e:decide (1<=r.term)=decide (r.term > 0):=by rw[Bool.eq_iff_iff];simp;omega
  rw[e];simp[Bool.and_assoc]
def bZb:yO ["self","day","answered","pairs","letter"] ["self","day"] (yH aYR):=scM
def bXA(T:vD mg)(cl:Cl K CB CL)(j:MG P w K mg base CX0 n CB "answered_by" ["self","day"] (aXi CB CL))(r:FnG P w K mg base n "due_day" ["shut","date","term"] (Days.bKc K)) (F:Fun K "waiting_pairs" "Book.waiting_pairs" aYR f fd):xD P w K mg base CX0 (n+1) f fd ["self","day"] (aVb CB CL):=by
 have sc:=bZb;refine F.ok (k:=n) sc (λc2 A outer s H vs Q E hr h=>?_);obtain⟨W,la,sa,ls,cs,R,S,d,rfl,Y,hR,hS,q⟩:=h;refine⟨_,(yC (yU (i:=2) (vU j hr vT (pv 0) (yA (pv 1) yD))) (yC (yU (i:=3) (y6 yD)) (yC (zN cQv rfl (xM (yZ (pv 0) rfl)) (xB (i:=4)) (yF (y0 (PW.pt (vM (yM aQo (yZ (pv 4) rfl) yE) (vM (yM aYs (yZ (pv 4) rfl) (pv 1)) (wQ (bWW (aYv (bWv hr) (yZ (pv 4) rfl) (pv 2))))))) (yF (yY (uF cQj cQo cQp xL (pv 3) (yA (xI (yA (xK r hr rfl (yA (yZ (pv 0) rfl) (yA (yZ (pv 4) rfl) (yA (yZ (pv 4) rfl) yD)))) (yA (yZ (pv 4) rfl) yD))) yD)))) yS))) (yF (yP (yT uA rfl T.b_sorted w6 (yA (pv 3) yD))))))),?_⟩;obtain⟨dx,hb⟩:=Y.book;have hl:(ls.map V.ref).length=R.length:=by rw[bYL];exact Y.len
 refine⟨_,rfl,W,dx,_,rfl,hb,rfl,_,rfl,W,la,sa,ls,cs,R,S,d,rfl,Y,hR,λa H0 b9 Z c1 a2 hA=>?_⟩;dsimp only[yW];refine⟨z0,λy B=>?_⟩;dsimp only[yW];have k1:xA H (upd H0 y (.lst [])):=Z.trans (yG B _);have c0:H y=none:=Z.fresh B;refine⟨_,rfl,W,CB,dx,_,_,rfl,k1 _ _ hb,cl.b,cl.letters,rfl,la,rfl,⟨_,SqL.of (k1 _ _ Y.lst)⟩,?_⟩;have c3:a≠y:=yJ a2 B;refine zO (xs:=ls.map V.ref) (λt σ C=>∃ (g:List V)(o:Option V),σ= [some (.ref W),some (.int d),some (.ref a),some (.ref y),o]/\xA H0 C/\C y=some (.lst g)/\
  cQA (aKl C (jM R S)) ((bYU t).filter (qU R S d false)) g) ?_ ?_ ?_ ?_
 ·exact⟨[],none,rfl,yG B _,yB,.nil⟩
 ·rintro t σ C ht ⟨g,o,rfl,N,J,L⟩;exact SqL.of (N _ _ (Z _ _ Y.lst))
 ·rintro t x σ C hx ⟨g,o,rfl,N,J,L⟩;have ht:t<R.length:=by rw[<- hl];exact(bYS.mp hx).1
  have M:=bYG ht;have O:=(Y.same Z).same N;obtain⟨b4,b7⟩:=O.book;obtain⟨b,c,g1,g2,g3,⟨v,g4⟩,g5⟩:=O.get M;obtain rfl:x= .ref b:=bY3 (hx.symm.trans g1);rw[cXS,cQT];dsimp only[yW];have hw:=bZF M hA;have u:qU R S d false t=Bk.W8 R t d:=by unfold qU;simp
  have stay:∀o',qU R S d false t=false->∃ (g:List V)(p:Option V),[some (V.ref W),some (V.int d),some (V.ref a),some (V.ref y),o']= [some (.ref W),some (.int d),some (.ref a),some (.ref y),p]/\xA H0 C/\C y=some (.lst g)/\
    cQA (aKl C (jM R S)) ((bYU t).filter (qU R S d false)++ [t].filter (qU R S d false)) g:=λo' e=>by
   have e3: [t].filter (qU R S d false)= []:=by simp[e]
   rw[e3,cQN]
   exact⟨g,o',rfl,N,J,L⟩
  refine⟨_,rfl,b,CL,v,_,_,rfl,g4,cl.l,cl.term,rfl,_,_,rfl,rfl,_,rfl,?_⟩;cases h1:decide (W7 R[t] > 0)with
  |false=>exact onF rfl (onF rfl (stay _ (by rw[u,hw,h1];rfl)))
  |true=>
   refine onT rfl ⟨_,rfl,b,CL,v,_,_,rfl,g4,cl.l,cl.day,rfl,_,rfl,_,_,rfl,rfl,_,rfl,?_⟩;cases h2:decide (R[t].date<=d)with
   |false=>exact onF rfl (onF rfl (stay _ (by rw[u,hw,h1,h2];rfl)))
   |true=>
    refine onT rfl ⟨_,rfl,b,CL,v,_,_,rfl,g4,cl.l,cl.number,rfl,_,rfl,a,_,rfl,bWb.k (k:=Sum.inl (t:Int)) (N _ _ a2),_,rfl,?_⟩;cases h3:(Q3 b9 (Sum.inl (t:Int))).isSome with
    |true=>exact onF rfl (stay _ (by rw[u,hw,h1,h2,h3];rfl))
    |false=>
     have a9:Bk.W8 R t d=true:=by rw[hw,h1,h2,h3];rfl
     have b3:=Law.aXn ht a9;have hv:R[t].void=false:=by
      cases hv:R[t].void with
      |false=>rfl
      |true=>have:=of_decide_eq_true h1;unfold W7 at this;rw[hv]at this;simp at this
     have a3:W7 R[t]=R[t].term:=by unfold W7;rw[hv];rfl
     refine onT rfl ⟨_,rfl,.inl ⟨rfl,_,SqL.of J⟩,_,rfl,W,CB,b4,_,_,rfl,b7,cl.b,cl.shut,rfl,_,rfl,b,CL,v,_,_,rfl,g4,cl.l,cl.day,rfl,_,rfl,b,CL,v,_,_,rfl,g4,cl.l,cl.term,rfl,?_⟩;refine⟨sa,S,_,_,rfl,SqL.of O.sht,hS,by rw[a3];exact b3,λH2 D U hD=>?_⟩;have eD:D=jM R S t:=by unfold jM;rw[M,Bk.vE M];rw[a3]at hD;exact(Bk.bZN hD).symm
     subst eD;refine⟨_,rfl,b,CL,v,_,_,rfl,U _ _ g4,cl.l,cl.number,rfl,z2,λX b5=>?_⟩;have b2:=U _ _ J;have k5:=yG b5 (.tup [V.int (jM R S t),V.int (t:Nat)]);have a1:=k5 _ _ b2;have il:g.length<=t:=by rw[<- L.length];exact cQn (cQM _ _) (by simp)
     have t6:∀a xs,upd H2 X (.tup [V.int (jM R S t),V.int (t:Nat)]) a=some (.tup xs)->upd (upd H2 X (.tup [V.int (jM R S t),V.int (t:Nat)])) y (.lst (g++ [V.ref X])) a=some (.tup xs):=λa xs e=>by rw[yI (aQ1 e a1 (by intro z;cases z))];exact e
     have e3: [t].filter (qU R S d false)= [t]:=by simp[u,a9]
     refine⟨y,g,.ref X,rfl,rfl,a1,zlt (by omega),g++ [.ref X],_,rfl,aQU (N.trans (U.trans k5)) B,yB,?_⟩;rw[e3];exact aXf ⟨X,rfl,t6 _ _ yB⟩ (Paired.mapP L λ_ _ z=>z.tk λa xs e=>t6 _ _ (k5 _ _ (U _ _ e)))
 ·rintro σ C ⟨g,o,rfl,N,J,L⟩;rw[hl]at L;generalize I:(bYU R.length).filter (qU R S d false)=fam at L;have a6:fam.length=g.length:=L.length;have fn:fam.length<=R.length:=by rw[<- I];exact cQn (cQM _ _) (by simp)
  have a7:∀k,k∈fam↔k<R.length/\qU R S d false k=true:=λk=>by rw[<- I,cQO,cQf]
  have b0:fam.Nodup:=by rw[<- I];exact cZS.sublist cXK
  refine⟨_,rfl,y,g,λm=>(jM R S (fam.getD m 0),((fam.getD m 0:Nat):Int)),rfl,J,by omega,λa b ha hb e=>?_,λm x hx=>?_,λl out a4 a0 b6=>?_⟩
  ·have e2:fam.getD a 0=fam.getD b 0:=by have:=congrArg Prod.snd e;simp only at this;omega
   have a8:a<fam.length:=by omega
   have a5:b<fam.length:=by omega
   simp[cQu,bYG a8,bYG a5]at e2;exact(cXx (h₀:=a8) (h₁:=a5) b0).mp e2
  ·obtain⟨k,hk,p,J,e2⟩:=bQG L hx;have:fam.getD m 0=k:=by simp[cQu,hk]
   show ∃a,x=V.ref a/\C a=some (.tup [V.int (jM R S (fam.getD m 0)),V.int ((fam.getD m 0:Nat):Int)]);rw[this];exact⟨p,J,e2⟩
  ·have hm:∀m∈out,m<g.length:=λm hm=>cQf.mp (a0.mem_iff.mp hm);have U:=yG a4 (.lst (out.map λi=>g.getD i .non));refine q l _ (out.map λm=>fam.getD m 0) _ (Z.trans (N.trans U)) ((Z.trans N).fresh a4) yB ?_ ⟨λk=>?_,?_⟩
   ·have go:∀o:List Nat,(∀m∈o,m<g.length)->cQA (aKl (upd C l (.lst (out.map λi=>g.getD i .non))) (jM R S)) (o.map λm=>fam.getD m 0) (o.map λi=>g.getD i .non):=by
     intro o;induction o with
     |nil=>intro _;exact .nil
     |cons m o ih=>
      intro h;refine .cons ?_ (ih λx hx=>h x (bYT _ hx));have G:=h m bYW;have hg:g[m]? =some (g.getD m .non):=by simp[cQu,bYG G]
      obtain⟨k,hk,p,J,e2⟩:=bQG L hg;have:fam.getD m 0=k:=by simp[cQu,hk]
      show aKl _ _ (fam.getD m 0) (g.getD m .non);rw[this];exact⟨p,J,U _ _ e2⟩
    exact go out hm
   ·have b1:k∈out.map (λm=>fam.getD m 0)↔k∈fam:=by
     constructor
     ·intro h;obtain⟨m,b8,rfl⟩:=cQH.mp h;have G:m<fam.length:=by rw[a6];exact hm m b8
      simp[cQu,bYG G]
     ·intro h;obtain⟨m,G,e⟩:=cQy h;refine cQH.mpr ⟨m,a0.mem_iff.mpr (cQf.mpr (by omega)),?_⟩;simp[cQu,bYG G,e]
    rw[b1,a7 k];unfold qU;simp
   ·rw[cJc];exact b6
def bVe{α β:Type}{F:α->β->Prop}:∀ {l:List α} {m:List β} {i:Nat} {y:β},cQA F l m->m[i]? =some y->∃x,l[i]? =some x/\F x y:=λh e=>bQG h e
def aZn{α:Type}(a:List Nat)(g:Nat->Bool)(h:Nat->α):((bYU a.length).filter λm=>g (a.getD m 0)).map (λm=>h (a.getD m 0))=(a.filter g).map h:=by
 have e:(bYU a.length).map (λm=>a.getD m 0)=a:=by
  apply cXX;intro i;rw[bY1];by_cases b:i<a.length
  ·rw[cXr b];simp[bYG b]
  ·rw[cQi (by simpa using b),cQi (by omega)];rfl
 conv=>rhs;rw[<- e,List.filter_map,cX5]
 rfl
def aKb:yO ["self","day"] ["self","day"] (yH Q1):=scM
def aWu:xJ ["self","day"] (yH Q1) "pair" [] [] (lsN [(".0",.local),("pair",.local)]):=
 lcM
def aWQ(cl:Cl K CB CL)(a:MG P w K mg base CX0 n CB "waiting_pairs" ["self","day"] (aVb CB CL))(F:Fun K "waiting" "Book.waiting" Q1 f fd):xD P w K mg base CX0 (n+1) f fd ["self","day"] (bKy CB CL false):=by
 have X:=aKb;refine F.ok (k:=n) X (λa0 A outer s H vs Q E U h=>?_);obtain⟨L,M,Z,ls,cs,R,S,d,rfl,B,hR,W,q⟩:=h;refine⟨_,(yF (yP (W6 aWu rfl (xM (vU a U vT (pv 0) (yA (pv 1) yD))) (λ_ _ _ _ _=>zV) (λ_ _ _ _ _=>(yL ixT (pv 0) yE))))),?_⟩;obtain⟨O,hb⟩:=B.book;refine⟨_,rfl,L,O,_,rfl,hb,rfl,_,rfl,L,M,Z,ls,cs,R,S,d,rfl,B,hR,W,λl H1 g ps u N o C c=>?_⟩;have r:g.length=ps.length:=C.length;have a1:g.length<=R.length:=Fm.wK (c.ord.imp λ{x y} e z=>by rw[z,Stree.vK]at e;cases e) λx Y=>((c.mem x).mp Y).1;refine⟨l,rfl,⟨_,SqL.of o⟩,λD t=>?_⟩;refine aWs (λ_=>true) (λm=>V.int (g.getD m 0:Nat)) (SqL.of o) t (zn (by omega)) (λj v G H' R' J b=>b) (λj v G _ H' R' J b=>?_) ?_
 ·obtain⟨k,hk,p,T,I⟩:=bQG C G;subst T;have:g.getD j 0=k:=by simp[cQu,hk]
  rw[this]at b;exact⟨_,rfl,p,_,1,_,rfl,rfl,SqT.of ((J p (yJ I t)).trans I),rfl,b⟩
 ·have e:=aZn g (λ_=>true) λi=>V.int (i:Nat);rw[r]at e;rw[e,cZt.mpr λ_ _=>rfl];exact q D _ g (u.trans (yG t _)) (u.fresh t) yB c
def aW7:yO ["self","day"] ["self","day"] (yH Q0):=scM
def aWt:xJ ["self","day"] (yH Q0) "pair" ["day"] [1] (lsN [(".0",.local),("pair",.local),("day",.free)]):=
 lcM
def aWM(cl:Cl K CB CL)(g:MG P w K mg base CX0 n CB "waiting_pairs" ["self","day"] (aVb CB CL))(F:Fun K "overdue" "Book.overdue" Q0 f fd):xD P w K mg base CX0 (n+1) f fd ["self","day"] (bKy CB CL true):=by
 have sc:=aW7;refine F.ok (k:=n) sc (λa0 A outer s H vs Q E Z h=>?_);obtain⟨U,W,sa,ls,cs,R,S,d,rfl,T,hR,hS,q⟩:=h;refine⟨_,(yF (yP (W6 aWt rfl (xM (vU g Z vT (pv 0) (yA (pv 1) yD))) (λ_ _ _ _ _=>(wV (yM vF (yL ixT (pv 0) yE) (pv 1)))) (λ_ _ _ _ _=>(yL ixT (pv 0) yE))))),?_⟩;obtain⟨Y,hb⟩:=T.book;refine⟨_,rfl,U,Y,_,rfl,hb,rfl,_,rfl,U,W,sa,ls,cs,R,S,d,rfl,T,hR,hS,λl H1 t ps O X u J r=>?_⟩;have B:t.length=ps.length:=J.length;have a1:t.length<=R.length:=Fm.wK (r.ord.imp λ{x y} e z=>by rw[z,Stree.vK]at e;cases e) λx hx=>((r.mem x).mp hx).1;refine⟨l,rfl,⟨_,SqL.of u⟩,λD C=>?_⟩;refine aWs (λm=>decide (jM R S (t.getD m 0)<d)) (λm=>V.int (t.getD m 0:Nat)) (SqL.of u) C (zn (by omega)) (λj v L H' R' N o=>?_) (λj v L _ H' R' N o=>?_) ?_
 ·obtain⟨k,M,p,I,G⟩:=bQG J L;subst I;have:t.getD j 0=k:=by simp[cQu,M]
  rw[this]at o;exact⟨_,rfl,p,_,0,_,rfl,rfl,SqT.of ((N p (yJ G C)).trans G),rfl,_,rfl,_,_,rfl,rfl,_,rfl,o⟩
 ·obtain⟨k,M,p,I,G⟩:=bQG J L;subst I;have:t.getD j 0=k:=by simp[cQu,M]
  rw[this]at o;exact⟨_,rfl,p,_,1,_,rfl,rfl,SqT.of ((N p (yJ G C)).trans G),rfl,o⟩
 ·have e:=aZn t (λk=>decide (jM R S k<d)) λi=>V.int (i:Nat);rw[B]at e;rw[e];refine q D _ (t.filter λk=>decide (jM R S k<d)) (O.trans (yG C _)) (O.fresh C) yB ⟨λk=>?_,r.ord.sublist cXK⟩;rw[cQO,r.mem k,decide_eq_true_eq];unfold jM;constructor
  ·rintro⟨⟨a,b,_⟩,c⟩;exact⟨a,b,λ_=>c⟩
  ·rintro⟨a,b,c⟩;exact⟨⟨a,b,λz=>by cases z⟩,c rfl⟩
end
end Desk
namespace Desk
open PySem L2 PyProof.Rows
open Bk (Row Rows)
def own(la sa:Nat)(ls cs:List Nat):List Nat:=la::sa::(ls++cs)
def qX(o:List Nat)(H c:Hp):Prop:=∀b u,b∉o->(∀a,u≠ .tbl a)->H b=some u->c b=some u
def qX.of{o:List Nat}{H a:Hp}(k:x4 H a):qX o H a:=λb u _ n e=>k b u n e
def qX.trans{o:List Nat}{H f d:Hp}(a:qX o H f)(b:qX o f d):qX o H d:=λc u n t e=>b c u n t (a c u n t e)
def qX.upd{o:List Nat}{H:Hp}{b:Nat}(a:b∈o)(u:HO):qX o H (upd H b u):=λc v n _ e=>by
 rw[yI (λz=>n (by rw[z];exact a))];exact e
def aVw{la sa:Nat}{ls cs:List Nat}:la∈own la sa ls cs:=bYW
def aYt{la sa:Nat}{ls cs:List Nat}:sa∈own la sa ls cs:=bYT _ bYW
def aJF{la sa b:Nat}{ls cs:List Nat}(h:b∈ls):b∈own la sa ls cs:=bYT _ (bYT _ (cXR _ h))
def bVd{la sa b:Nat}{ls cs:List Nat}(h:b∈cs):b∈own la sa ls cs:=bYT _ (bYT _ (bY6 _ h))
section
variable {CB CL:Nat}{H:Hp}{ba la sa:Nat}{ls cs:List Nat}{R:Rows}{S:List Int}
def PB.l_ne(h:PB CB CL H ba la sa ls cs R S){b a:Nat}{xs:List V}(j:b∈ls)(f:H a=some (.lst xs)):a≠b:=λz=>by
 obtain⟨i,c,e⟩:=cQy j;obtain⟨m,p,l,d,o,⟨k,g⟩,n⟩:=h.get (bYG (show i<R.length by rw[<- h.len];exact c));rw[bYG c,e]at d;cases d;rw[z,g]at f;cases f
def PB.ba_ne(h:PB CB CL H ba la sa ls cs R S):ba∉ls:=λz=>by
 obtain⟨i,a,e⟩:=cQy z;obtain⟨k,n,j,b,m,⟨g,f⟩,l⟩:=h.get (bYG (show i<R.length by rw[<- h.len];exact a));rw[bYG a,e]at b;cases b;obtain⟨d,c⟩:=h.book;rw[f]at c;cases c
def PB.set(h:PB CB CL H ba la sa ls cs R S){k:Nat}{b c dx:Nat}{r:Row}(m:ls[k]? =some b)(u:cs[k]? =some c)(t:R[k]? =some r)(f:Row->Row)(x:(f r).copies=r.copies): PB CB CL (upd H b (.ins CL dx (aZv k (f r) c))) ba la sa ls cs (Bk.xN R k f) S:=by
 have a:=bY0 m;refine⟨?_,?_,?_,by rw[Bk.zC];exact h.len,by rw[Bk.zC];exact h.clen,h.nd,h.cnd,h.las,h.lac,h.sac,λi s A v l q j=>?_⟩
 ·obtain⟨d,e⟩:=h.book;exact⟨d,by rw[yI (λz=>h.ba_ne (by rw[z];exact a))];exact e⟩
 ·rw[yI (h.l_ne a h.lst)];exact h.lst
 ·rw[yI (h.l_ne a h.sht)];exact h.sht
 ·rw[Bk.zH]at j;by_cases e:i=k
  ·subst e;rw[if_pos rfl,t]at j;cases j;rw[m]at l;cases l;rw[u]at q;cases q;obtain⟨_,g⟩:=h.row i b c r m u t;refine⟨⟨dx,yB⟩,?_⟩;rw[yI (h.l_ne a g),x];exact g
  ·rw[if_neg e]at j;obtain⟨⟨d,y⟩,g⟩:=h.row i s A v l q j;have o:s≠b:=λz=>by
    subst z;obtain⟨B,n⟩:=bYS.mp l;obtain⟨w,p⟩:=bYS.mp m;exact e ((cXx h.nd).mp (n.trans p.symm))
   exact⟨⟨d,by rw[yI o];exact y⟩,by rw[yI (h.l_ne a g)];exact g⟩
def PB.copy(h:PB CB CL H ba la sa ls cs R S){k:Nat}{c:Nat}{r:Row}(g:cs[k]? =some c)(o:R[k]? =some r)(l:Str): PB CB CL (upd H c (.lst ((r.copies++ [l]).map V.str))) ba la sa ls cs (Bk.xN R k λr=>{r with copies:=r.copies++ [l] }) S:=by
 have d:=bY0 g;obtain⟨b0,I,G,J,y,⟨E,K⟩,F⟩:=h.get o;rw[g]at y;cases y;have n:∀ {a C dx fs},H a=some (.ins C dx fs)->a≠c:=λq z=>by rw[z,F]at q;cases q
 refine⟨?_,?_,?_,by rw[Bk.zC];exact h.len,by rw[Bk.zC];exact h.clen,h.nd,h.cnd,h.las,h.lac,h.sac,λi w x A u m j=>?_⟩
 ·obtain⟨b,e⟩:=h.book;exact⟨b,by rw[yI (n e)];exact e⟩
 ·rw[yI (λz=>h.lac (by rw[z];exact d))];exact h.lst
 ·rw[yI (λz=>h.sac (by rw[z];exact d))];exact h.sht
 ·rw[Bk.zH]at j;by_cases e:i=k
  ·subst e;rw[if_pos rfl,o]at j;cases j;rw[g]at m;cases m;obtain⟨⟨b,f⟩,v⟩:=h.row i w c r u g o;exact⟨⟨b,by rw[yI (n f)];exact f⟩,yB⟩
  ·rw[if_neg e]at j;obtain⟨⟨b,f⟩,v⟩:=h.row i w x A u m j;have p:x≠c:=λz=>by
    subst z;obtain⟨D,s⟩:=bYS.mp m;obtain⟨B,t⟩:=bYS.mp g;exact e ((cXx h.cnd).mp (s.trans t.symm))
   exact⟨⟨b,by rw[yI (n f)];exact f⟩,by rw[yI p];exact v⟩
def PB.shutD(h:PB CB CL H ba la sa ls cs R S)(d:Int):PB CB CL (upd H sa (.lst ((S++ [d]).map V.int))) ba la sa ls cs R (S++ [d]):=by
 have c:∀ {a C dx fs},H a=some (.ins C dx fs)->a≠sa:=λq z=>by rw[z,h.sht]at q;cases q
 refine⟨?_,?_,yB,h.len,h.clen,h.nd,h.cnd,h.las,h.lac,h.sac,λi o l j k f n=>?_⟩
 ·obtain⟨b,e⟩:=h.book;exact⟨b,by rw[yI (c e)];exact e⟩
 ·rw[yI h.las];exact h.lst
 ·obtain⟨⟨b,g⟩,m⟩:=h.row i o l j k f n;exact⟨⟨b,by rw[yI (c g)];exact g⟩,by rw[yI (λz=>h.sac (by rw[<- z];exact bY0 f))];exact m⟩
def PB.enter(h:PB CB CL H ba la sa ls cs R S){l c dx:Nat}{r:Row}{u:Hp}(hl:H l=none)(g:H c=none)(N:l≠c)(L:r.copies= [])(I:u l=some (.ins CL dx (aZv R.length r c)))(M:u c=some (.lst [])) (k:∀b o,H b=some o->u b=some o):PB CB CL (upd u la (.lst ((ls++ [l]).map V.ref))) ba la sa (ls++ [l]) (cs++ [c]) (R++ [r]) S:=by
 have x:l≠la:=λz=>by rw[z,h.lst]at hl;cases hl
 have m:c≠la:=λz=>by rw[z,h.lst]at g;cases g
 have E:∀ {a C dx fs},H a=some (.ins C dx fs)->a≠la:=λq z=>by rw[z,h.lst]at q;cases q
 have K:∀i b,ls[i]? =some b->i<R.length:=λi b q=>by rw[<- h.len];exact(bYS.mp q).1
 have nl:l∉ls:=λz=>by obtain⟨i,d,e⟩:=cQy z;obtain⟨w,y,t,j,B,⟨f,F⟩,G⟩:=h.get (bYG (show i<R.length by rw[<- h.len];exact d));rw[bYG d,e]at j;cases j;rw[F]at hl;cases hl
 have O:c∉cs:=λz=>by obtain⟨i,d,e⟩:=cQy z;obtain⟨w,y,t,j,B,F,G⟩:=h.get (bYG (show i<R.length by rw[<- h.clen];exact d));rw[bYG d,e]at B;cases B;rw[G]at g;cases g
 refine⟨?_,yB,?_,by simp[h.len],by simp[h.clen],?_,?_,h.las,?_,?_,λi w y J s n p=>?_⟩
 ·obtain⟨f,e⟩:=h.book;exact⟨f,by rw[yI (E e)];exact k _ _ e⟩
 ·rw[yI (cQr h.las)];exact k _ _ h.sht
 ·exact cZa.mpr ⟨h.nd,cQ5 _ _,λa A b D z=>nl (by rw[<- bYY.mp D,<- z];exact A)⟩
 ·exact cZa.mpr ⟨h.cnd,cQ5 _ _,λa A b D z=>O (by rw[<- bYY.mp D,<- z];exact A)⟩
 ·intro z;rcases cQm.mp z with z|z
  ·exact h.lac z
  ·exact m (bYY.mp z).symm
 ·intro z;rcases cQm.mp z with z|z
  ·exact h.sac z
  ·rw[<- bYY.mp z,h.sht]at g;cases g
 ·by_cases d:i<R.length
  ·rw[cQd (by rw[h.len];exact d)]at s;rw[cQd (by rw[h.clen];exact d)]at n;rw[cQd d]at p;obtain⟨⟨f,t⟩,j⟩:=h.row i w y J s n p;exact⟨⟨f,by rw[yI (E t)];exact k _ _ t⟩,by rw[yI (λz=>h.lac (by rw[<- z];exact bY0 n))];exact k _ _ j⟩
  ·have v:i=R.length:=by
    have:=(bYS.mp p).1;simp at this;omega
   subst v;rw[bY2 (by rw[h.len];exact bYO _),h.len,cQ1]at s;rw[bY2 (by rw[h.clen];exact bYO _),h.clen,cQ1]at n;rw[bY2 (bYO _),cQ1]at p;cases s;cases n;cases p;exact⟨⟨dx,by rw[yI x];exact I⟩,by rw[yI m,M,L];rfl⟩
end
inductive aVa(CB:Nat)(vs:List V)(H:Hp)(Q:VK)(_:XK):Prop|mk (x dx:Nat) (_:vs= [.ref x]) (_:H x=some (.ins CB dx [])) (_:∀ (la sa:Nat)(H':Hp),H la=none->H sa=none->la≠sa->H' x=some (.ins CB dx [("letters",.ref la),("shut",.ref sa)])->H' la=some (.lst [])->H' sa=some (.lst [])->(∀b,b≠x->b≠la->b≠sa->H' b=H b)->Q .non H')
inductive bVU(CB CL:Nat)(vs:List V)(H:Hp)(Q:VK)(_:XK):Prop|mk (ba la sa:Nat) (ls cs:List Nat) (R:Rows) (S:List Int) (way:Str) (d:Int) (who:Str) (t:Int) (_:vs= [.ref ba,.str way,.int d,.str who,.int t]) (_:PB CB CL H ba la sa ls cs R S) (_:R.length<=1000) (_:∀ (l c:Nat)(H':Hp),H l=none->H c=none->PB CB CL H' ba la sa (ls++ [l]) (cs++ [c]) (R++ [⟨way,d,who,t,none,"",false,[]⟩]) S->(∀b o,b≠la->H b=some o->H' b=some o)->Q (.ref l) H')
inductive aXY(K:bYI)(Rf:Nat×Nat)(vs:List V)(H:Hp)(Q:VK)(E:XK):Prop|mk (t:Int) (_:vs= [.int t]) (_:(0<=t->Q .non H)) (_:(t<0->xG K Rf H E "no term"))
inductive aXX(K:bYI)(Rf:Nat×Nat)(vs:List V)(H:Hp)(Q:VK)(E:XK):Prop|mk (a b:Int) (_:vs= [.int a,.int b]) (_:(a<=b->Q .non H)) (_:(b<a->xG K Rf H E "too early"))
section
variable {K:bYI}
abbrev aYH:Stmt:=xF "Book" "__init__"
abbrev bKU:Stmt:=xF "Book" "add_letter"
abbrev aYV:Stmt:=xC "check_term"
abbrev aYL:Stmt:=xC "check_days"
def bX1:yO ["self"] ["self"] (yH aYH):=scM
def bXq(cl:Cl K CB CL)(F:Fun K "__init__" "Book.__init__" aYH f fd):xD P w K mg base CX0 (n+1) f fd ["self"] (aVa CB):=by
 have o:=bX1;refine F.ok (k:=n) o (λr A outer s H v Q E u h=>?_);obtain⟨x,l,rfl,m,q⟩:=h;refine⟨_,(yC (zL (pv 0) (y6 yD) rfl) (yF (zL (pv 0) (y6 yD) rfl))),?_⟩;refine⟨z0,λla g=>?_⟩;have c:x≠la:=yJ m g;refine⟨_,rfl,x,CB,l,_,rfl,(yI c).trans m,cl.b,cl.letters,(show 0<1000 by decide),?_⟩;refine⟨z0,λsa a=>?_⟩;have e:x≠sa:=yJ yB a;have d:la≠sa:=λz=>by rw[<- z,yI (cQr c),yB]at a;cases a
 refine⟨_,rfl,x,CB,l,_,rfl,(yI e).trans yB,cl.b,cl.shut,(show 1<1000 by decide),?_⟩;have i:H sa=none:=by rw[yI (cQr e),yI (cQr d)]at a;exact a
 refine q la sa _ g i d yB ?_ ?_ λb j p t=>?_
 ·rw[yI (cQr c),yI d,yI (cQr c),yB]
 ·rw[yI (cQr e),yB]
 ·rw[yI j,yI t,yI j,yI p]
def bW2:yO ["self","way","day","partner","term","letter"] ["self","way","day","partner","term"] (yH bKU):=scM
def bWJ(T:vD mg)(cl:Cl K CB CL)(a:MkG P w K mg base n "Letter" CL ["self","number","way","day","partner","term"] (bQq CL))(F:Fun K "add_letter" "Book.add_letter" bKU f fd): xD P w K mg base CX0 (n+2) f fd ["self","way","day","partner","term"] (bVU CB CL):=by
 have O:=bW2;refine F.ok (k:=n+1) O (λW A outer s H vs Q E M h=>?_);obtain⟨ba,la,sa,ls,cs,R,S,C,d,B,t,rfl,j,hR,q⟩:=h;refine⟨_,(yC (yU (i:=5) (bKQ a M rfl (yA (yT yN rfl T.b_len y9 (yA (yZ (pv 0) rfl) yD)) (yA (pv 1) (yA (pv 2) (yA (pv 3) (yA (pv 4) yD))))))) (yC (yY (uF cQj cQo cQp xL (yZ (pv 0) rfl) (yA (pv 5) yD))) (yF (yP (pv 5))))),?_⟩;obtain⟨I,J⟩:=j.book;have hl:(ls.map V.ref).length=R.length:=by rw[bYL];exact j.len
 refine⟨_,rfl,ba,CB,I,_,_,rfl,J,cl.b,cl.letters,rfl,la,_,rfl,.inl (SqL.of j.lst),?_⟩;rw[hl];refine⟨_,rfl,_,rfl,_,rfl,_,rfl,λx xd v u y=>?_⟩;refine⟨x,xd,R.length,C,d,B,t,rfl,yB,λc Z l L U X=>⟨rfl,?_⟩⟩;dsimp only[yW];have p:c≠x:=λz=>by rw[z,yB]at l;cases l
 have D:c≠xd:=λz=>by rw[z,yI y,yB]at l;cases l
 have g:H c=none:=by rw[yI p,yI D]at l;exact l
 have m:∀b o,H b=some o->Z b=some o:=λb o e=>by have b1:=yJ e v;have N:=yJ e g;have Y:=yJ e u;rw[X b b1 N,yI b1,yI Y];exact e
 refine⟨_,rfl,ba,CB,I,_,_,rfl,m _ _ J,cl.b,cl.letters,rfl,.inl ⟨rfl,_,SqL.of (m _ _ j.lst)⟩,_,rfl,la,_,_,rfl,rfl,m _ _ j.lst,zlt (by omega),?_⟩;refine⟨_,rfl,?_⟩;have r:=j.enter v g (cQr p) rfl L U m;rw[cXt]at r;refine q x c _ v g r λb o G e=>?_;rw[yI G];exact m b o e
def bZg:yO ["term"] ["term"] (yH aYV):=scM
def bXF(a:ExG P w K mg base n "NoTerm" Rf.1 C1 "no term")(F:Fun K "check_term" "check_term" aYV f fd):xD P w K mg base (CXR P w) (n+2) f fd ["term"] (aXY K Rf):=by
 have g:=bZg;refine F.okX (k:=n+1) g (λe A outer s H i Q E d h=>?_);obtain⟨t,rfl,q,b⟩:=h;refine⟨_,(yF (y0 (yM vF (pv 0) yE) (yF (zW a d rfl)) yS)),?_⟩;refine⟨_,rfl,_,_,rfl,rfl,_,rfl,?_⟩;refine qF (λc=>?_) (λc=>?_)
 ·exact(b (of_decide_eq_true c)).raise a
 ·exact q (by have:=of_decide_eq_false (Bool.eq_false_iff.mpr c);omega)
def bX5:yO ["asked_day","reply_day"] ["asked_day","reply_day"] (yH aYL):=scM
def bXu(d:ExG P w K mg base n "TooEarly" Rf.1 C1 "too early")(F:Fun K "check_days" "check_days" aYL f fd):xD P w K mg base (CXR P w) (n+2) f fd ["asked_day","reply_day"] (aXX K Rf):=by
 have i:=bX5;refine F.okX (k:=n+1) i (λj A outer s H l Q E g h=>?_);obtain⟨a,b,rfl,q,e⟩:=h;refine⟨_,(yF (y0 (yM vF (pv 1) (pv 0)) (yF (zW d g rfl)) yS)),?_⟩;refine⟨_,rfl,_,rfl,_,_,rfl,rfl,_,rfl,?_⟩;refine qF (λc=>?_) (λc=>?_)
 ·exact(e (of_decide_eq_true c)).raise d
 ·exact q (by have:=of_decide_eq_false (Bool.eq_false_iff.mpr c);omega)
end
end Desk
namespace Desk
open PySem L2 PyProof.Rows
open Bk (Row Rows)
def vI(o:List Nat)(H a:Hp):Prop:=∀b u,b∉o->H b=some u->a b=some u
def vI.of{o:List Nat}{H a:Hp}(k:xA H a):vI o H a:=λb u _ e=>k b u e
def vI.trans{o:List Nat}{H f d:Hp}(a:vI o H f)(b:vI o f d):vI o H d:=λc u n e=>b c u n (a c u n e)
def vI.upd{o:List Nat}{H:Hp}{b:Nat}(a:b∈o)(u:HO):vI o H (upd H b u):=λc v n e=>by
 rw[yI (λz=>n (by rw[z];exact a))];exact e
def vI.t{o:List Nat}{H a:Hp}(k:vI o H a):qX o H a:=λb u n _ e=>k b u n e
def qE(H:Hp)(o a:List Nat):Prop:=∀b∈a,b∈o\/H b=none
def qE.refl{H:Hp}{o:List Nat}:qE H o o:=λb h=> .inl h
def qE.snoc{H:Hp}{la sa l c:Nat}{ls cs:List Nat}(hl:H l=none)(a:H c=none):qE H (own la sa ls cs) (own la sa (ls++ [l]) (cs++ [c])):=λb h=>by
 rcases bYQ.mp h with e|h
 ·exact .inl (by rw[e];exact aVw)
 rcases bYQ.mp h with e|h
 ·exact .inl (by rw[e];exact aYt)
 rcases cQm.mp h with h|h
 ·rcases cQm.mp h with h|h
  ·exact .inl (aJF h)
  ·exact .inr (by rw[bYY.mp h];exact hl)
 ·rcases cQm.mp h with h|h
  ·exact .inl (bVd h)
  ·exact .inr (by rw[bYY.mp h];exact a)
def aX1(f CL g la sa:Nat)(ls cs:List Nat)(H:Hp)(d:Rows)(e:List Int)(q:Hp->Prop):Prop:=∀ (c:Hp)(a b:List Nat),PB f CL c g la sa a b d e->vI (own la sa ls cs) H c->qE H (own la sa ls cs) (own la sa a b)->q c
def bWF(i:Nat)(r:Row)(c:Nat)(t:Int):List (Str×V):=
 [("number",.int (i:Nat)),("way",.str r.way),("day",.int r.date),("partner",.str r.partner),("term",.int t),("link",wO r.link),("file",Y3 r),("copies",.ref c),("void",.bl r.void)]
inductive bQo(K:bYI)(Rf:Nat×Nat)(CB CL:Nat)(vs:List V)(H:Hp)(Q:VK)(E:XK):Prop|mk (ba la sa:Nat) (ls cs:List Nat) (R:Rows) (S:List Int) (way:Str) (d:Int) (who:Str) (t:Int) (_:vs= [.ref ba,.str way,.int d,.str who,.int t]) (_:PB CB CL H ba la sa ls cs R S) (_:R.length<=1000) (_:(0<=t->aX1 CB CL ba la sa ls cs H (R++ [⟨way,d,who,t,none,"",false,[]⟩]) S (Q (.int (R.length:Nat))))) (_:(t<0->xG K Rf H E "no term"))
inductive bQu(K:bYI)(Rf:Nat×Nat)(CB CL:Nat)(vs:List V)(H:Hp)(Q:VK)(E:XK):Prop|mk (ba la sa:Nat) (ls cs:List Nat) (R:Rows) (S:List Int) (m d t:Int) (_:vs= [.ref ba,.int m,.int d,.int t]) (_:PB CB CL H ba la sa ls cs R S) (_:R.length<=1000) (_:(Bk.wN R m=false->xG K Rf H E "no letter")) (_:(Bk.wN R m=true->t<0->xG K Rf H E "no term")) (_:∀ (k:Nat)(r:Row),m=(k:Int)->R[k]? =some r->r.void=false->0<=t->(d<r.date->xG K Rf H E "too early")/\(r.date<=d->aX1 CB CL ba la sa ls cs H (R++ [⟨Bk.uP r.way,d,r.partner,t,some k,r.place,false,[]⟩]) S (Q (.int (R.length:Nat)))))
inductive aVS(K:bYI)(Rf:Nat×Nat)(CB CL:Nat)(vs:List V)(H:Hp)(Q:VK)(E:XK):Prop|mk (ba la sa:Nat) (ls cs:List Nat) (R:Rows) (S:List Int) (m:Int) (_:vs= [.ref ba,.int m]) (_:PB CB CL H ba la sa ls cs R S) (_:(Bk.wN R m=false->xG K Rf H E "no letter")) (_:∀ (k:Nat)(r:Row),m=(k:Int)->R[k]? =some r->r.void=false->(r.link=none->xG K Rf H E "has none")/\(r.link≠none->aX1 CB CL ba la sa ls cs H (Bk.xN R k λr=>{r with link:=none}) S (Q .non)))
inductive aZW(K:bYI)(Rf:Nat×Nat)(CB CL:Nat)(vs:List V)(H:Hp)(Q:VK)(E:XK):Prop|mk (ba la sa:Nat) (ls cs:List Nat) (R:Rows) (S:List Int) (m t:Int) (_:vs= [.ref ba,.int m,.int t]) (_:PB CB CL H ba la sa ls cs R S) (_:(Bk.wN R m=false->xG K Rf H E "no letter")) (_:∀ (k:Nat)(r:Row),m=(k:Int)->R[k]? =some r->r.void=false->(t<0->xG K Rf H E "no term")/\(0<=t->aX1 CB CL ba la sa ls cs H (Bk.xN R k λr=>{r with term:=t}) S (Q .non)))
inductive bJf(K:bYI)(Rf:Nat×Nat)(CB CL:Nat)(vs:List V)(H:Hp)(Q:VK)(E:XK):Prop|mk (ba la sa:Nat) (ls cs:List Nat) (R:Rows) (S:List Int) (m:Int) (who:Str) (_:vs= [.ref ba,.int m,.str who]) (_:PB CB CL H ba la sa ls cs R S) (_:(∀r∈R,r.copies.length<=1000)) (_:(Bk.wN R m=false->xG K Rf H E "no letter")) (_:∀ (k:Nat)(r:Row),m=(k:Int)->R[k]? =some r->r.void=false->(who=r.partner\/who∈r.copies->xG K Rf H E "copied")/\(who≠r.partner->who∉r.copies->aX1 CB CL ba la sa ls cs H (Bk.xN R k λr=>{r with copies:=r.copies++ [who] }) S (Q (.int ((r.copies.length:Nat)+1)))))
inductive aVL(K:bYI)(Rf:Nat×Nat)(CB CL:Nat)(vs:List V)(H:Hp)(Q:VK)(E:XK):Prop|mk (ba la sa:Nat) (ls cs:List Nat) (R:Rows) (S:List Int) (m:Int) (_:vs= [.ref ba,.int m]) (_:PB CB CL H ba la sa ls cs R S) (_:R.length<=100) (_:(Bk.wN R m=false->xG K Rf H E "no letter")) (_:∀ (k:Nat)(r:Row),m=(k:Int)->R[k]? =some r->r.void=false->(Bk.zS R k≠ []->xG K Rf H E "answered")/\(Bk.zS R k= []->aX1 CB CL ba la sa ls cs H (Bk.xN R k λr=>{r with link:=none,void:=true}) S (Q .non)))
inductive bJg(K:bYI)(Rf:Nat×Nat)(CB CL:Nat)(vs:List V)(H:Hp)(Q:VK)(E:XK):Prop|mk (ba la sa:Nat) (ls cs:List Nat) (R:Rows) (S:List Int) (d:Int) (_:vs= [.ref ba,.int d]) (_:PB CB CL H ba la sa ls cs R S) (_:S.length<=1000) (_:(Dm.cts S d=false->xG K Rf H E "counts not")) (_:(Dm.cts S d=true->aX1 CB CL ba la sa ls cs H R (S++ [d]) (Q .non)))
inductive aVT(K:bYI)(Rf:Nat×Nat)(CB CL:Nat)(vs:List V)(H:Hp)(Q:VK)(E:XK):Prop|mk (ba la sa:Nat) (ls cs:List Nat) (R:Rows) (S:List Int) (m d:Int) (_:vs= [.ref ba,.int m,.int d]) (_:PB CB CL H ba la sa ls cs R S) (_:R.length<=100) (_:Bk.qV R) (_:(Bk.wN R m=false->xG K Rf H E "no letter")) (_:∀ (k:Nat)(r:Row),m=(k:Int)->R[k]? =some r->r.void=false->(((∃j,r.link=some j/\d<Bk.dt R j)\/∃c∈Bk.zS R k,Bk.dt R c<d)->xG K Rf H E "too early")/\((∀j,r.link=some j->Bk.dt R j<=d)->(∀c∈Bk.zS R k,d<=Bk.dt R c)->aX1 CB CL ba la sa ls cs H (Bk.xN R k λr=>{r with date:=d}) S (Q .non)))
def aKc(R:Rows)(r:Row)(f:Row->Row):Bk.xN (R++ [r]) R.length f=R++ [f r]:=by
 apply cXX;intro i;rw[Bk.zH];by_cases e:i=R.length
 ·subst e;rw[if_pos rfl,bY2 (bYO _),bY2 (bYO _),cQ1];rfl
 ·rw[if_neg e];by_cases h:i<R.length
  ·rw[cQd h,cQd h]
  ·rw[cQi (by simp;omega),cQi (by simp;omega)]
section
variable {K:bYI}
abbrev aYN:Stmt:=xF "Book" "enter"
abbrev aYT:Stmt:=xF "Book" "reply"
abbrev aJT:Stmt:=xF "Book" "loosen"
abbrev aXN:Stmt:=xF "Book" "put_term"
abbrev bVy:Stmt:=xF "Book" "send_copy"
abbrev aJQ:Stmt:=xF "Book" "cancel"
abbrev bVz:Stmt:=xF "Book" "shut_day"
abbrev aJU:Stmt:=xF "Book" "put_day"
def bX7:yO ["self","way","day","partner","term"] ["self","way","day","partner","term"] (yH aYN):=scM
def bXw(cl:Cl K CB CL)(g:FnX P w K mg base n "check_term" ["term"] (aXY K Rf))(a:MG P w K mg base CX0 n CB "add_letter" ["self","way","day","partner","term"] (bVU CB CL)) (F:Fun K "enter" "Book.enter" aYN f fd):xD P w K mg base (CXR P w) (n+1) f fd ["self","way","day","partner","term"] (bQo K Rf CB CL):=by
 have L:=bX7;refine F.okX (k:=n) L (λU A outer s H Y Q E r h=>?_);obtain⟨y,C,N,v,x,R,S,p,d,o,t,rfl,j,hR,q,I⟩:=h;refine⟨_,(yC (yY (aQu g r rfl (yA (pv 4) yD))) (yF (yP (yZ (vU a r vT (pv 0) (yA (pv 1) (yA (pv 2) (yA (pv 3) (yA (pv 4) yD))))) rfl)))),?_⟩;obtain⟨G,W⟩:=j.book;refine⟨_,rfl,t,rfl,λJ=>?_,I⟩;refine⟨_,rfl,y,G,_,rfl,W,rfl,_,rfl,_,rfl,_,rfl,_,rfl,y,C,N,v,x,R,S,p,d,o,t,rfl,j,hR,λl c V hl T i D=>?_⟩;have B:(v++ [l])[R.length]? =some l:=by rw[<- j.len,bY2 (bYO _),cQ1];rfl
 have O:(x++ [c])[R.length]? =some c:=by rw[<- j.clen,bY2 (bYO _),cQ1];rfl
 obtain⟨⟨m,M⟩,X⟩:=i.row R.length l c _ B O (by rw[bY2 (bYO _),cQ1];rfl);exact⟨l,CL,m,_,_,rfl,M,cl.l,cl.number,rfl,q J V _ _ i (λb u n e=>D b u (λz=>n (by rw[z];exact aVw)) e) (qE.snoc hl T)⟩
def bZd:yO ["self","number","day","term","asked","letter"] ["self","number","day","term"] (yH aYT):=scM
def qM{R:Rows}{k:Nat}{r:Row}(b:R[k]? =some r)(a:r.void=false):Bk.wN R (k:Int)=true:=by rw[aZj b,a];rfl
def aXv{r:Row}(a:r.void=false):Y3 r= .str r.place:=by unfold Y3;rw[a];rfl
def bZx{r:Row}(a:r.void=false):W7 r=r.term:=by unfold W7;rw[a];rfl
def bXC(cl:Cl K CB CL)(p:MG P w K mg base (CXR P w) n CB "letter_at" ["self","number"] (bQj K Rf CB CL))(g:FnX P w K mg base n "check_term" ["term"] (aXY K Rf)) (j:FnX P w K mg base n "check_days" ["asked_day","reply_day"] (aXX K Rf)) (o:FnG P w K mg base n "other_way" ["way"] bQs) (a:MG P w K mg base CX0 n CB "add_letter" ["self","way","day","partner","term"] (bVU CB CL)) (F:Fun K "reply" "Book.reply" aYT f fd):xD P w K mg base (CXR P w) (n+1) f fd ["self","number","day","term"] (bQu K Rf CB CL):=by
 have sc:=bZd;refine F.okX (k:=n) sc (λa0 A outer s H vs Q E C h=>?_);obtain⟨L,V,sa,J,I,R,S,m,d,t,rfl,y,hR,q1,q2,q3⟩:=h;refine⟨_,(yC (yU (i:=4) (vU p C zQ (pv 0) (yA (pv 1) yD))) (yC (yY (aQu g C rfl (yA (pv 3) yD))) (yC (yY (aQu j C rfl (yA (yZ (pv 4) rfl) (yA (pv 2) yD)))) (yC (yU (i:=5) (vU a C vT (pv 0) (yA (xK o C rfl (yA (yZ (pv 4) rfl) yD)) (yA (pv 2) (yA (yZ (pv 4) rfl) (yA (pv 3) yD)))))) (yC (zL (pv 5) (pv 1) rfl) (yC (zL (pv 5) (yZ (pv 4) rfl) rfl) (yF (yP (yZ (pv 5) rfl))))))))),?_⟩;obtain⟨W,hb⟩:=y.book;refine⟨_,rfl,L,W,_,rfl,hb,rfl,_,rfl,L,V,sa,J,I,R,S,m,rfl,y,λk r b em Z Y X=>?_,q1⟩;subst em;obtain⟨M,cc,g1,g2,g3,⟨q,B⟩,g5⟩:=y.get Z;obtain rfl:b=M:=bY3 (X.symm.trans g2);dsimp only[yW];refine⟨_,rfl,t,rfl,λN=>?_,λN=>q2 (qM Z Y) N⟩;obtain⟨q4,q5⟩:=q3 k r rfl Z Y N;refine⟨_,rfl,b,CL,q,_,_,rfl,B,cl.l,cl.day,rfl,_,rfl,r.date,d,rfl,λhd=>?_,q4⟩;refine⟨_,rfl,L,W,_,rfl,hb,rfl,_,rfl,b,CL,q,_,_,rfl,B,cl.l,cl.way,rfl,r.way,rfl,_,rfl,_,rfl,b,CL,q,_,_,rfl,B,cl.l,cl.partner,rfl,_,rfl,L,V,sa,J,I,R,S,Bk.uP r.way,d,r.partner,t,rfl,y,hR,λl c H1 hl hc D k1=>?_⟩;dsimp only[yW];have h1:(J++ [l])[R.length]? =some l:=by rw[<- y.len,bY2 (bYO _),cQ1];rfl
 have h2:(I++ [c])[R.length]? =some c:=by rw[<- y.clen,bY2 (bYO _),cQ1];rfl
 have h3:(R++ [(⟨Bk.uP r.way,d,r.partner,t,none,"",false,[]⟩:Row)])[R.length]? =some ⟨Bk.uP r.way,d,r.partner,t,none,"",false,[]⟩:=by rw[bY2 (bYO _),cQ1];rfl
 obtain⟨⟨v,f1⟩,f2⟩:=D.row R.length l c _ h1 h2 h3;refine⟨_,rfl,_,rfl,l,CL,v,_,rfl,f1,cl.l,cl.link,(show 9<1000 by decide),?_⟩;have O:b≠l:=yJ B hl;have T:b≠V:=λz=>by rw[z,y.lst]at B;cases B
 have U:upd H1 l (.ins CL v (aQ5 "link" (.int (k:Nat)) (aZv R.length ⟨Bk.uP r.way,d,r.partner,t,none,"",false,[]⟩ c))) b=some (.ins CL q (aZv k r cc)):=(yI O).trans (k1 _ _ T B);refine⟨_,rfl,b,CL,q,_,_,rfl,U,cl.l,cl.file,rfl,_,rfl,l,CL,v,_,rfl,yB,cl.l,cl.file,(show 9<1000 by decide),?_⟩;rw[uT];refine⟨_,rfl,l,CL,v,_,_,rfl,yB,cl.l,cl.number,rfl,?_⟩;have G:=D.set (dx:=v) h1 h2 h3 (λx=>{x with link:=some k,place:=r.place}) rfl;rw[aKc]at G;have e9:aQ5 "file" (Y3 r) (aQ5 "link" (.int (k:Nat)) (aZv R.length ⟨Bk.uP r.way,d,r.partner,t,none,"",false,[]⟩ c))=aZv R.length ⟨Bk.uP r.way,d,r.partner,t,some k,r.place,false,[]⟩ c:=by rw[aXv Y];rfl
 refine q5 hd _ (J++ [l]) (I++ [c]) ?_ (λM u nb e=>?_) (qE.snoc hl hc)
 ·rw[e9];exact G
 ·rw[yI (λz=>by rw[z]at e;rw[hl]at e;cases e)];exact k1 M u (λz=>nb (by rw[z];exact aVw)) e
def bQa:yO ["self","number","letter"] ["self","number"] (yH aJT):=scM
def aYo(cl:Cl K CB CL)(c:MG P w K mg base (CXR P w) (n+1) CB "letter_at" ["self","number"] (bQj K Rf CB CL))(a:ExG P w K mg base n "HasNone" Rf.1 C1 "has none") (F:Fun K "loosen" "Book.loosen" aJT f fd):xD P w K mg base (CXR P w) (n+2) f fd ["self","number"] (aVS K Rf CB CL):=by
 have I:=bQa;refine F.okX (k:=n+1) I (λM A outer s H X Q E t h=>?_);obtain⟨v,x,J,L,N,R,S,m,rfl,g,C,O⟩:=h;refine⟨_,(yC (yU (i:=2) (vU c t zQ (pv 0) (yA (pv 1) yD))) (yC (y0 (yM aQp (yZ (pv 2) rfl) x2) (yF (zW a t rfl)) yS) (yF (zL (pv 2) x2 rfl)))),?_⟩;obtain⟨z,V⟩:=g.book;refine⟨_,rfl,v,z,_,rfl,V,rfl,_,rfl,v,x,J,L,N,R,S,m,rfl,g,λk r b T p G q=>?_,C⟩;obtain⟨D,W,Y,o,U,⟨d,u⟩,Z⟩:=g.get p;obtain rfl:b=D:=bY3 (q.symm.trans o);obtain⟨y,B⟩:=O k r T p G;dsimp only[yW];refine⟨_,rfl,b,CL,d,_,_,rfl,u,cl.l,cl.link,rfl,rfl,_,rfl,?_⟩;cases e:r.link with
 |none=>exact onT rfl ((y e).raise a)
 |some j=>refine onF rfl ⟨_,rfl,b,CL,d,_,rfl,u,cl.l,cl.link,(show 9<1000 by decide),?_⟩;exact B (by rw[e];simp) _ _ _ (g.set o U p (λr=>{r with link:=none}) rfl) (vI.upd (aJF (bY0 o)) _) qE.refl
def aW8:yO ["self","number","term","letter"] ["self","number","term"] (yH aXN):=scM
def aWN(cl:Cl K CB CL)(c:MG P w K mg base (CXR P w) n CB "letter_at" ["self","number"] (bQj K Rf CB CL))(a:FnX P w K mg base n "check_term" ["term"] (aXY K Rf)) (F:Fun K "put_term" "Book.put_term" aXN f fd):xD P w K mg base (CXR P w) (n+1) f fd ["self","number","term"] (aZW K Rf CB CL):=by
 have I:=aW8;refine F.okX (k:=n) I (λM A outer s H Y Q E u h=>?_);obtain⟨v,x,J,L,N,R,S,m,t,rfl,d,C,O⟩:=h;refine⟨_,(yC (yU (i:=3) (vU c u zQ (pv 0) (yA (pv 1) yD))) (yC (yY (aQu a u rfl (yA (pv 2) yD))) (yF (zL (pv 3) (pv 2) rfl)))),?_⟩;obtain⟨z,X⟩:=d.book;refine⟨_,rfl,v,z,_,rfl,X,rfl,_,rfl,v,x,J,L,N,R,S,m,rfl,d,λk r b V o q p=>?_,C⟩;obtain⟨D,e,Z,g,W,⟨j,T⟩,g5⟩:=d.get o;obtain rfl:b=D:=bY3 (p.symm.trans g);obtain⟨y,B⟩:=O k r V o q;dsimp only[yW];refine⟨_,rfl,t,rfl,λG=>?_,y⟩;refine⟨_,rfl,_,rfl,b,CL,j,_,rfl,T,cl.l,cl.term,(show 9<1000 by decide),?_⟩;have U:aQ5 "term" (.int t) (aZv k r e)=aZv k {r with term:=t} e:=by show bWF k {r with term:=t} e t=_;unfold bWF aZv;rw[bZx (r:={r with term:=t}) q]
 rw[U];exact B G _ _ _ (d.set g W o (λr=>{r with term:=t}) rfl) (vI.upd (aJF (bY0 g)) _) qE.refl
def bVN:yO ["self","number","person","letter"] ["self","number","person"] (yH bVy):=scM
def bJ7(T:vD mg)(cl:Cl K CB CL)(e:MG P w K mg base (CXR P w) (n+1) CB "letter_at" ["self","number"] (bQj K Rf CB CL))(a:MG P w K mg base CX0 (n+1) CL "has_gone_to" ["self","person"] (bZ9 CL))(d:ExG P w K mg base n "Copied" Rf.1 C1 "copied") (F:Fun K "send_copy" "Book.send_copy" bVy f fd):xD P w K mg base (CXR P w) (n+2) f fd ["self","number","person"] (bJf K Rf CB CL):=by
 have Y:=bVN;refine F.okX (k:=n+1) Y (λa0 A outer s H vs Q E x h=>?_);obtain⟨D,I,Z,ls,cs,R,S,m,g,rfl,q,v,O,q2⟩:=h;refine⟨_,(yC (yU (i:=3) (vU e x zQ (pv 0) (yA (pv 1) yD))) (yC (y0 (xQ (vU a x vT (pv 3) (yA (pv 2) yD))) (yF (zW d x rfl)) yS) (yC (yY (uF cQj cQo cQp xL (yZ (pv 3) rfl) (yA (pv 2) yD))) (yF (yP (yT yN rfl T.b_len y9 (yA (yZ (pv 3) rfl) yD))))))),?_⟩;obtain⟨L,hb⟩:=q.book;refine⟨_,rfl,D,L,_,rfl,hb,rfl,_,rfl,D,I,Z,ls,cs,R,S,m,rfl,q,λk r b em t W y=>?_,O⟩;obtain⟨U,p,g1,J,G,⟨j,o⟩,u⟩:=q.get t;obtain rfl:b=U:=bY3 (y.symm.trans J);obtain⟨M,N⟩:=q2 k r em t W;have C:=v r (bY0 t);dsimp only[yW];refine⟨_,rfl,b,j,_,rfl,o,rfl,_,rfl,b,k,r,p,g,rfl,⟨j,o⟩,u,_,rfl,?_⟩;refine qF (λc=>?_) (λc=>?_)
 ·refine(M ?_).raise d;rw[Bool.or_eq_true,decide_eq_true_eq,cXh]at c;exact c
 ·rw[Bool.or_eq_true,decide_eq_true_eq,cXh,not_or]at c;have B:b≠p:=λz=>by rw[z,u]at o;cases o
  refine⟨_,rfl,b,CL,j,_,_,rfl,o,cl.l,cl.copies,rfl,.inl ⟨rfl,_,SqL.of u⟩,_,rfl,p,_,_,rfl,rfl,u,zlt (by rw[bYL];omega),?_⟩;refine⟨_,rfl,b,CL,j,_,_,rfl,(yI B).trans o,cl.l,cl.copies,rfl,p,_,rfl,.inl (SqL.of yB),?_⟩;have e9:r.copies.map V.str++ [V.str g]=(r.copies++ [g]).map V.str:=by simp
  rw[e9];have X:((r.copies++ [g]).map V.str).length=r.copies.length+1:=by simp
  rw[X];exact N c.1 c.2 _ _ _ (q.copy G t g) (vI.upd (bVd (bY0 G)) _) qE.refl
def aY4:yO ["self","number","letter"] ["self","number"] (yH aJQ):=scM
def aYi(T:vD mg)(cl:Cl K CB CL)(g:MG P w K mg base (CXR P w) (n+1) CB "letter_at" ["self","number"] (bQj K Rf CB CL))(d:MG P w K mg base CX0 (n+1) CB "answers_to" ["self","letter"] (aJ9 CB CL))(e:MG P w K mg base CX0 (n+1) CL "make_void" ["self"] (bJh CL))(a:ExG P w K mg base n "Answered" Rf.1 C1 "answered") (F:Fun K "cancel" "Book.cancel" aJQ f fd):xD P w K mg base (CXR P w) (n+2) f fd ["self","number"] (aVL K Rf CB CL):=by
 have Y:=aY4;refine F.okX (k:=n+1) Y (λZ A outer s H vs Q E t h=>?_);obtain⟨u,C,G,x,I,R,S,m,rfl,o,hR,U,q2⟩:=h;refine⟨_,(yC (yU (i:=2) (vU g t zQ (pv 0) (yA (pv 1) yD))) (yC (y0 (yM aQo (yT yN rfl T.b_len y9 (yA (vU d t vT (pv 0) (yA (pv 2) yD)) yD)) yE) (yF (zW a t rfl)) yS) (yF (yY (bXM e t vT (pv 2)))))),?_⟩;obtain⟨D,L⟩:=o.book;refine⟨_,rfl,u,D,_,rfl,L,rfl,_,rfl,u,C,G,x,I,R,S,m,rfl,o,λk r b em y X B=>?_,U⟩;obtain⟨W,M,g1,q,g3,⟨p,J⟩,g5⟩:=o.get y;obtain rfl:b=W:=bY3 (B.symm.trans q);obtain⟨N,O⟩:=q2 k r em y X;dsimp only[yW];refine⟨_,rfl,u,D,_,rfl,L,rfl,_,rfl,u,C,G,x,I,R,S,k,b,rfl,o,q,hR,λl hl=>?_⟩;refine⟨l,_,rfl,.inl (SqL.of yB),_,_,rfl,rfl,_,rfl,?_⟩;have j:=yG hl (.lst ((Bk.zS R k).map λk=>(x.map V.ref).getD k .non));rw[bYL];refine qF (λc=>?_) (λc=>?_)
 ·refine((N λz=>?_).go (aKm.of j)).raise a;have:=of_decide_eq_true c;rw[z]at this;simp at this
 ·have v:Bk.zS R k= []:=by
   have:=of_decide_eq_false (Bool.eq_false_iff.mpr c);exact cXw (by omega)
  refine⟨_,rfl,b,p,_,rfl,j _ _ J,rfl,b,p,k,r,M,rfl,j _ _ J,?_⟩;exact O v _ _ _ ((o.same j).set q g3 y (λr=>{r with link:=none,void:=true}) rfl) ((vI.of j).trans (vI.upd (aJF (bY0 q)) _)) qE.refl
def bVO:yO ["self","day"] ["self","day"] (yH bVz):=scM
def bJ8(cl:Cl K CB CL)(c:FnG P w K mg base (n+1) "counts" ["shut","date"] (Days.aVO K))(a:ExG P w K mg base n "CountsNot" Rf.1 C1 "counts not") (F:Fun K "shut_day" "Book.shut_day" bVz f fd):xD P w K mg base (CXR P w) (n+2) f fd ["self","day"] (bJg K Rf CB CL):=by
 have q:=bVO;refine F.okX (k:=n+1) q (λr A outer s H y Q E i h=>?_);obtain⟨m,v,j,z,B,R,S,d,rfl,e,x,p,u⟩:=h;refine⟨_,(yC (y0 (wA (xQ (xK c i rfl (yA (yZ (pv 0) rfl) (yA (pv 1) yD))))) (yF (zW a i rfl)) yS) (yF (yY (uF cQj cQo cQp xL (yZ (pv 0) rfl) (yA (pv 1) yD))))),?_⟩;obtain⟨g,o⟩:=e.book;refine⟨_,rfl,m,CB,g,_,_,rfl,o,cl.b,cl.shut,rfl,_,rfl,j,S,d,rfl,SqL.of e.sht,_,rfl,?_⟩;cases l:Dm.cts S d with
 |false=>exact onT rfl ((p l).raise a)
 |true=>
  refine onF rfl ⟨_,rfl,m,CB,g,_,_,rfl,o,cl.b,cl.shut,rfl,.inl ⟨rfl,_,SqL.of e.sht⟩,_,rfl,j,_,_,rfl,rfl,e.sht,zlt (by rw[bYL];omega),?_⟩;have t:S.map V.int++ [V.int d]=(S++ [d]).map V.int:=by simp
  rw[t];exact u l _ _ _ (e.shutD d) (vI.upd aYt _) qE.refl
def bQb:yO ["self","number","day","letter","reply"] ["self","number","day"] (yH aJU):=scM
def aYp(cl:Cl K CB CL)(g:MG P w K mg base (CXR P w) n CB "letter_at" ["self","number"] (bQj K Rf CB CL))(p:MG P w K mg base CX0 n CB "answers_to" ["self","letter"] (aJ9 CB CL))(a:FnX P w K mg base n "check_days" ["asked_day","reply_day"] (aXX K Rf)) (F:Fun K "put_day" "Book.put_day" aJU f fd):xD P w K mg base (CXR P w) (n+1) f fd ["self","number","day"] (aVT K Rf CB CL):=by
 have sc:=bQb;refine F.okX (k:=n) sc (λa7 A outer s H vs Q E M h=>?_);obtain⟨B,la,sa,G,cs,R,S,m,d,rfl,y,hR,a2,q1,q2⟩:=h;refine⟨_,(yC (yU (i:=3) (vU g M zQ (pv 0) (yA (pv 1) yD))) (yC (y0 (yM wC (yZ (pv 3) rfl) x2) (yF (yY (aQu a M rfl (yA (yZ (vU g M zQ (pv 0) (yA (yZ (pv 3) rfl) yD)) rfl) (yA (pv 2) yD))))) yS) (yC (zN PassesOwn.leaving rfl (xM (vU p M vT (pv 0) (yA (pv 3) yD))) (xB (i:=4)) (yF (yY (aQu a M rfl (yA (pv 2) (yA (yZ (pv 4) rfl) yD)))))) (yF (zL (pv 3) (pv 2) rfl))))),?_⟩;obtain⟨dx,hb⟩:=y.book;refine⟨_,rfl,B,dx,_,rfl,hb,rfl,_,rfl,B,la,sa,G,cs,R,S,m,rfl,y,λk r b em hk hv a5=>?_,q1⟩;obtain⟨b',cc,g1,Z,g3,⟨D,g4⟩,g5⟩:=y.get hk;obtain rfl:b=b':=bY3 (a5.symm.trans Z);obtain⟨q3,q4⟩:=q2 k r em hk hv;dsimp only[yW];refine zE (λY H'=>Y= [some (.ref B),some (.int m),some (.int d),some (.ref b),none]/\H'=H/\∀j,r.link=some j->Bk.dt R j<=d) ?_ λjn=>?_
 ·rintro Y H' ⟨rfl,rfl,hj⟩;refine⟨_,rfl,B,dx,_,rfl,hb,rfl,_,rfl,B,la,sa,G,cs,R,S,k,b,rfl,y,Z,hR,λl hl=>?_⟩;have X:=yG hl (.lst ((Bk.zS R k).map λk=>(G.map V.ref).getD k .non));refine⟨l,rfl,⟨_,SqL.of yB⟩,?_⟩;refine zO (xs:=(Bk.zS R k).map λk=>(G.map V.ref).getD k .non) (λt σ H1=>∃o:Option V,σ= [some (.ref B),some (.int m),some (.int d),some (.ref b),o]/\H1=upd H' l (.lst ((Bk.zS R k).map λk=>(G.map V.ref).getD k .non))/\∀i c,i<t->(Bk.zS R k)[i]? =some c->d<=Bk.dt R c) ?_ ?_ ?_ ?_
  ·exact⟨none,rfl,rfl,λi c z=>absurd z (cXu _)⟩
  ·rintro t σ H1 ht ⟨o,rfl,rfl,hd⟩;exact SqL.of yB
  ·rintro t x σ H1 W ⟨o,rfl,rfl,hd⟩;rw[bY1]at W;cases J:(Bk.zS R k)[t]? with
   |none=>rw[J]at W;cases W
   |some c=>
    rw[J]at W;have L:=bY0 J;have a4:c<R.length:=cQf.mp (cQO.mp L).1;have I:=bYG a4;obtain⟨bc,c2,f1,f2,f3,⟨a3,f4⟩,f5⟩:=(y.same X).get I;have ex:(G.map V.ref).getD c .non= .ref bc:=by simp only[cQu,f1];rfl
    obtain rfl:x= .ref bc:=by have z:=bY3 W;rw[<- z];exact ex
    dsimp only[yW];refine⟨_,rfl,_,rfl,bc,CL,a3,_,_,rfl,f4,cl.l,cl.day,rfl,d,R[c].date,rfl,λq=>?_,λq=>?_⟩
    ·refine⟨_,rfl,rfl,λi c' hi C=>?_⟩;by_cases e:i=t
     ·subst e;rw[J]at C;cases C;rw[Bk.vE I];exact q
     ·exact hd i c' (by omega) C
    ·exact(q3 (.inr ⟨c,L,by rw[Bk.vE I];exact q⟩)).go (aKm.of X)
  ·rintro σ H1 ⟨o,rfl,rfl,hd⟩;have T:∀c∈Bk.zS R k,d<=Bk.dt R c:=λc J=>by
    obtain⟨i,hi,e⟩:=cQy J;exact hd i c (by rw[bYL];exact hi) (by rw[bYG hi,e])
   refine⟨_,rfl,_,rfl,b,CL,D,_,rfl,X _ _ g4,cl.l,cl.day,(show 9<1000 by decide),?_⟩;exact q4 hj T _ _ _ ((y.same X).set Z g3 hk (λr=>{r with date:=d}) rfl) ((vI.of X).trans (vI.upd (aJF (bY0 Z)) _)) qE.refl
 ·refine⟨_,rfl,b,CL,D,_,_,rfl,g4,cl.l,cl.link,rfl,rfl,_,rfl,?_⟩;cases u:r.link with
  |none=>exact onF rfl (jn _ _ ⟨rfl,rfl,λj hj=>by rw[u]at hj;cases hj⟩)
  |some j=>
   obtain⟨qj,v,a1⟩:=a2.ans k j r hk u;obtain⟨bj,cj,f1,f2,f3,⟨a0,f4⟩,f5⟩:=y.get v;refine onT rfl ⟨_,rfl,B,dx,_,rfl,hb,rfl,_,rfl,b,CL,D,_,_,rfl,g4,cl.l,cl.link,rfl,?_⟩;rw[u];refine⟨B,la,sa,G,cs,R,S,(j:Nat),rfl,y,λk2 r2 b2 e2 N a6 O=>?_,λhg=>?_⟩
   ·obtain rfl:j=k2:=by omega
    rw[v]at N;cases N;rw[f2]at O;cases O;refine⟨bj,CL,a0,_,_,rfl,f4,cl.l,cl.day,rfl,_,rfl,qj.date,d,rfl,λq=>?_,λq=>?_⟩
    ·refine jn _ _ ⟨rfl,rfl,λj' U=>?_⟩;rw[u]at U;cases U;rw[Bk.vE v];exact q
    ·exact q3 (.inl ⟨j,u,by rw[Bk.vE v];exact q⟩)
   ·rw[qM v a1.2.1]at hg;cases hg
end
end Desk
namespace Desk
open PySem L2 PyProof.Rows
open Bk (Row Rows)
open Thr (z8 vR qL)
def bQF{R:Rows}(b:Bk.qV R){rk:Nat->Nat}(o:Fm.Ok R.length (Bk.lk R) rk){i:Nat}(e:i<R.length):∀r q,R[i]? =some r->R[Fm.tp (Bk.lk R) rk i]? =some q->r.void=q.void:=
 Fm.aXm o (P:=λi=>∀r q,R[i]? =some r->R[Fm.tp (Bk.lk R) rk i]? =some q->r.void=q.void)
  (λi _ h r q c d=>by rw[Fm.zZ h,c]at d;cases d;rfl)
  (λi j e h k r q c d=>by
   rw[Bk.vS c]at h;obtain⟨g,f,a⟩:=b.ans i j r c h;rw[Fm.v9 o e (by rw[Bk.vS c];exact h)]at d;rw[a.1,<- k g q f d,a.2.1]) (rk i) i (bYO _) e
def bZy{R:Rows}(b:Bk.qV R){k j:Nat}{r:Row}(f:R[k]? =some r)(g:r.void=false)(h:j∈Bk.thr R k):∃q,R[j]? =some q/\q.void=false:=by
 obtain⟨l,o,_,i⟩:=Bk.W0 b.tree k;obtain⟨a,d⟩:=(i j).mp h;have c:=Bk.wB f;have e:=(Fm.bQD o c).1;refine⟨_,bYG a,?_⟩;rw[bQF b o a _ _ (bYG a) (by rw[d];exact bYG e),<- bQF b o c _ _ f (bYG e)];exact g
def bV4{R:Rows}(t:Bk.uV R){i j:Nat}{r:Row}(e:R[i]? =some r)(hl:r.link=none)(a:j<R.length):j∈Bk.thr R i↔(Bk.thr R j).head? =some i:=by
 obtain⟨h,o,c⟩:=Bk.jJ t a;obtain⟨b,f,_,g⟩:=Bk.W0 t i;rw[g j,c];have d:Fm.tp (Bk.lk R) b i=i:=Fm.zZ (by rw[Bk.vS e];exact hl);rw[d,Fm.qC f o a];exact⟨λz=>by rw[z.2],λz=>⟨a,bY3 z⟩⟩
inductive jH(K:bYI)(Rf:Nat×Nat)(CB CL:Nat)(vs:List V)(H:Hp)(Q:VK)(E:XK):Prop|mk (ba la sa:Nat) (ls cs:List Nat) (R:Rows) (S:List Int) (m:Int) (_:vs= [.ref ba,.int m]) (_:PB CB CL H ba la sa ls cs R S) (_:R.length<64) (_:Bk.uV R) (_:z8 Rf.2 H) (_:(Bk.wN R m=false->xG K Rf H E "no letter")) (_:∀ (k:Nat)(r:Row),m=(k:Int)->R[k]? =some r->r.void=false->∀ (H':Hp)(l:Nat),(∀b u,(∀ps,u≠HO.tbl ps)->H b=some u->b≠l)->x4 H H'->z8 Rf.2 H'->H' l=some (.lst ((Bk.thr R k).map λi=>V.int (i:Nat)))->Q (.ref l) H')
def bV9(T f CL g la sa:Nat)(ls cs:List Nat)(H:Hp)(d:Rows)(e:List Int)(q:Hp->Prop):Prop:=∀ (c:Hp)(a b:List Nat),PB f CL c g la sa a b d e->qX (own la sa ls cs) H c->qE H (own la sa ls cs) (own la sa a b)->z8 T c->q c
inductive bVW(K:bYI)(Rf:Nat×Nat)(CB CL:Nat)(vs:List V)(H:Hp)(Q:VK)(E:XK):Prop|mk (ba la sa:Nat) (ls cs:List Nat) (R:Rows) (S:List Int) (m:Int) (name:Str) (_:vs= [.ref ba,.int m,.str name]) (_:PB CB CL H ba la sa ls cs R S) (_:R.length<64) (_:Bk.qV R) (_:z8 Rf.2 H) (_:(Bk.wN R m=false->xG K Rf H E "no letter")) (_:∀ (k:Nat)(r:Row),m=(k:Int)->R[k]? =some r->r.void=false->∀ (H':Hp),PB CB CL H' ba la sa ls cs (Bk.laid R (Bk.thr R k) name) S->qX (own la sa ls cs) H H'->z8 Rf.2 H'->Q (.int ((Bk.thr R k).length:Nat)) H')
section
variable {K:bYI}
abbrev qT:Stmt:=xF "Book" "thread_of"
abbrev bKZ:Stmt:=xF "Book" "lay_thread"
def aJ5:yO ["self","number","links","dates"] ["self","number"] (yH qT):=scM
def aQi:xJ ["self","number","links","dates"] (yH qT) "letter" [] [] (lsN [(".0",.local),("letter",.local)]):=
 lcM
def aJC(cl:Cl K CB CL)(a:MG P w K mg base (CXR P w) n CB "letter_at" ["self","number"] (bQj K Rf CB CL))(d:FnG P w K mg base n "thread" ["links","dates","number"] (Thr.aVV Rf.2)) (F:Fun K "thread_of" "Book.thread_of" qT f fd):xD P w K mg base (CXR P w) (n+1) f fd ["self","number"] (jH K Rf CB CL):=by
 have W:=aJ5;refine F.okX (k:=n) W (λa1 A outer s H vs Q E hr h=>?_);obtain⟨N,Y,sa,ls,cs,R,S,m,rfl,y,hR,hT,tb,q1,q2⟩:=h;refine⟨_,(yC (yY (vU a hr zQ (pv 0) (yA (pv 1) yD))) (yC (aZH (i:=2) aQi rfl W.nd rfl rfl (xM (yZ (pv 0) rfl)) (λ_ _ _ _ _=>zV) (λ_ _ _ _ _=>(aQt (K:=K) (pv 0) rfl))) (yC (aZH (i:=3) aQi rfl W.nd rfl rfl (xM (yZ (pv 0) rfl)) (λ_ _ _ _ _=>zV) (λ_ _ _ _ _=>(aQt (K:=K) (pv 0) rfl))) (yF (yP (xK d hr rfl (yA (pv 2) (yA (pv 3) (yA (pv 1) yD))))))))),?_⟩;obtain⟨Z,hb⟩:=y.book;have hl:(ls.map V.ref).length=R.length:=by rw[bYL];exact y.len
 refine⟨_,rfl,N,Z,_,rfl,hb,rfl,_,rfl,N,Y,sa,ls,cs,R,S,m,rfl,y,λk r b em hk q a2=>?_,q1⟩;subst em;have J:=Bk.wB hk;have x:(bYU R.length).filter (λ_=>true)=bYU R.length:=cZt.mpr λ_ _=>rfl;refine⟨_,rfl,N,CB,Z,_,_,rfl,hb,cl.b,cl.letters,rfl,Y,rfl,⟨_,SqL.of y.lst⟩,λD hD=>?_⟩;refine aWs (λ_=>true) (λi=>Thr.wO (Bk.lk R i)) (SqL.of y.lst) hD (zn (by omega)) (λj v q X R' L c=>c) (λj v q _ X R' L c=>?_) ?_
 ·have T:j<R.length:=by rw[<- hl];exact(bYS.mp q).1
  have g:=bYG T;obtain⟨I,c2,p,G,k3,⟨z,M⟩,k5⟩:=y.get g;obtain rfl:v= .ref I:=bY3 (q.symm.trans p);rw[Bk.vS g]at c;exact⟨_,rfl,I,CL,z,_,_,rfl,(L _ (yJ M hD)).trans M,cl.l,cl.link,rfl,c⟩
 rw[hl,x];dsimp only[yW];have p:=yG hD (.lst ((bYU R.length).map λi=>Thr.wO (Bk.lk R i)));have B:=y.same p;refine⟨_,rfl,N,CB,Z,_,_,rfl,p _ _ hb,cl.b,cl.letters,rfl,Y,rfl,⟨_,SqL.of B.lst⟩,λD2 C=>?_⟩;refine aWs (λ_=>true) (λi=>V.int (Bk.dt R i)) (SqL.of B.lst) C (zn (by omega)) (λj v q X R' L c=>c) (λj v q _ X R' L c=>?_) ?_
 ·have T:j<R.length:=by rw[<- hl];exact(bYS.mp q).1
  have g:=bYG T;obtain⟨I,c2,p,G,k3,⟨z,M⟩,k5⟩:=B.get g;obtain rfl:v= .ref I:=bY3 (q.symm.trans p);rw[Bk.vE g]at c;exact⟨_,rfl,I,CL,z,_,_,rfl,(L _ (yJ M C)).trans M,cl.l,cl.day,rfl,c⟩
 rw[hl,x];dsimp only[yW];have G:=yG C (.lst ((bYU R.length).map λi=>V.int (Bk.dt R i)));obtain⟨rk,o⟩:=hT;have U:z8 Rf.2 (upd (upd H D (.lst ((bYU R.length).map λi=>Thr.wO (Bk.lk R i)))) D2 (.lst ((bYU R.length).map λi=>V.int (Bk.dt R i)))):=by
  have O:=p.trans G;rcases tb with t|⟨c',t1,t2⟩
  ·exact .inl (O _ _ t)
  ·exact .inr ⟨c',O _ _ t1,O _ _ t2⟩
 refine⟨_,rfl,_,rfl,_,rfl,D,D2,R.length,Bk.lk R,rk,Bk.dt R,k,rfl,G _ _ yB,yB,o,by omega,J,U,λH3 r3 a0 n3 k3 t3 h3 hp hm=>?_⟩;have e:=Bk.aXl J ⟨rk,o,hp,hm⟩;refine q2 k r rfl hk q H3 r3 (λb u nt e=>n3 b u nt ((p.trans G) _ _ e)) ((p.trans G).t.trans k3) t3 ?_;rw[e];exact h3
end
end Desk
namespace Desk
open PySem L2 PyProof.Rows
open Bk (Row Rows)
open Thr (z8 vR qL)
def xU{T:Nat}{o:List Nat}{H g:Hp}(t:z8 T H)(k:vI o H g)(i:∀b∈o,∀u,H b=some u->(∃a,u= .lst a)\/∃C c fs,u= .ins C c fs):z8 T g:=by
 have no:∀b u,H b=some u->(∀a,u≠ .lst a)->(∀C c fs,u≠ .ins C c fs)->b∉o:=λb u e h l z=>by
  rcases i b z u e with⟨a,q⟩|⟨C,c,fs,q⟩
  ·exact h _ q
  ·exact l _ _ _ q
 rcases t with t|⟨j,d,f⟩
 ·exact .inl (k _ _ (no _ _ t (by intro _ z;cases z) (by intro _ _ _ z;cases z)) t)
 ·exact .inr ⟨j,k _ _ (no _ _ d (by intro _ z;cases z) (by intro _ _ _ z;cases z)) d,k _ _ (no _ _ f (by intro _ z;cases z) (by intro _ _ _ z;cases z)) f⟩
def PB.kinds{n CL:Nat}{H:Hp}{r la sa:Nat}{ls cs:List Nat}{R:Rows}{S:List Int}(h:PB n CL H r la sa ls cs R S):∀b∈own la sa ls cs,∀u,H b=some u->(∃l,u= .lst l)\/∃C g fs,u= .ins C g fs:=λb a u e=>by
 rcases bYQ.mp a with rfl|a
 ·rw[h.lst]at e;cases e;exact .inl ⟨_,rfl⟩
 rcases bYQ.mp a with rfl|a
 ·rw[h.sht]at e;cases e;exact .inl ⟨_,rfl⟩
 rcases cQm.mp a with a|a
 ·obtain⟨i,c,q⟩:=cQy a;obtain⟨m,p,o,d,f,⟨g,j⟩,k⟩:=h.get (bYG (show i<R.length by rw[<- h.len];exact c));rw[bYG c,q]at d;cases d;rw[j]at e;cases e;exact .inr ⟨_,_,_,rfl⟩
 ·obtain⟨i,c,q⟩:=cQy a;obtain⟨m,p,o,d,f,j,k⟩:=h.get (bYG (show i<R.length by rw[<- h.clen];exact c));rw[bYG c,q]at f;cases f;rw[k]at e;cases e;exact .inl ⟨_,rfl⟩
def PB.notown{m CL:Nat}{H:Hp}{s la sa:Nat}{ls cs:List Nat}{R:Rows}{S:List Int}(h:PB m CL H s la sa ls cs R S){l:Nat}(n:∀b u,(∀r,u≠HO.tbl r)->H b=some u->b≠l):l∉own la sa ls cs:=λa=>by
 rcases bYQ.mp a with e|a
 ·exact n la _ (by intro _ z;cases z) h.lst e.symm
 rcases bYQ.mp a with e|a
 ·exact n sa _ (by intro _ z;cases z) h.sht e.symm
 rcases cQm.mp a with a|a
 ·obtain⟨i,c,q⟩:=cQy a;obtain⟨k,p,o,d,f,⟨t,g⟩,j⟩:=h.get (bYG (show i<R.length by rw[<- h.len];exact c));rw[bYG c,q]at d;cases d;exact n l _ (by intro _ z;cases z) g rfl
 ·obtain⟨i,c,q⟩:=cQy a;obtain⟨k,p,o,d,f,g,j⟩:=h.get (bYG (show i<R.length by rw[<- h.clen];exact c));rw[bYG c,q]at f;cases f;exact n l _ (by intro _ z;cases z) j rfl
def PB.notnone{a CL:Nat}{H:Hp}{c la sa:Nat}{ls cs:List Nat}{R:Rows}{S:List Int}(h:PB a CL H c la sa ls cs R S){l:Nat}(n:H l=none):l∉own la sa ls cs:=h.notown λb u _ e=>yJ e n
def bXQ{j:Nat}{q:Row}{c:Nat}{name:Str}(a:q.void=false):aQ5 "file" (.str name) (aZv j q c)=aZv j {q with place:=name} c:=by
 have b:Y3 {q with place:=name}= .str name:=aXv (r:={q with place:=name}) a;unfold aZv;rw[b];rfl
def aQh(R:Rows)(l:List Nat)(k:Nat)(name:Str):Bk.laid R (l++ [k]) name=Bk.xN (Bk.laid R l name) k λr=>{r with place:=name}:=by
 unfold Bk.laid;rw[cJT];rfl
def aZs{R:Rows}{l:List Nat}{name:Str}{j:Nat}{q:Row}(h:R[j]? =some q):∃a,(Bk.laid R l name)[j]? =some a/\a.void=q.void:=by
 rw[Bk.vZ,h];by_cases e:j∈l
 ·rw[if_pos e];exact⟨_,rfl,rfl⟩
 ·rw[if_neg e];exact⟨q,rfl,rfl⟩
inductive bQk(K:bYI)(Rf:Nat×Nat)(CB CL:Nat)(vs:List V)(H:Hp)(Q:VK)(E:XK):Prop|mk (ba la sa:Nat) (ls cs:List Nat) (R:Rows) (S:List Int) (i j:Nat) (b b2:Nat) (r q:Row) (_:vs= [.ref ba,.ref b,.ref b2]) (_:PB CB CL H ba la sa ls cs R S) (_:R.length<64) (_:Bk.uV R) (_:z8 Rf.2 H) (_:R[i]? =some r) (_:r.void=false) (_:R[j]? =some q) (_:q.void=false) (_:ls[i]? =some b) (_:ls[j]? =some b2) (_:(r.link≠none->xG K Rf H E "has one")) (_:(r.link=none->(Bk.thr R j).head? =some i->xG K Rf H E "own thread")) (_:(r.link=none->(Bk.thr R j).head? ≠some i->(r.way=q.way->xG K Rf H E "same way")/\(r.way≠q.way->(r.partner≠q.partner->xG K Rf H E "other partner")/\(r.partner=q.partner->(r.date<q.date->xG K Rf H E "too early")/\(q.date<=r.date->∀H',x4 H H'->z8 Rf.2 H'->Q .non H')))))
section
variable {K:bYI}
def bW6:yO ["self","number","name","numbers","member","letter"] ["self","number","name"] (yH bKZ):=scM
def bWN(T:vD mg)(cl:Cl K CB CL)(a:MG P w K mg base (CXR P w) n CB "thread_of" ["self","number"] (jH K Rf CB CL))(F:Fun K "lay_thread" "Book.lay_thread" bKZ f fd):xD P w K mg base (CXR P w) (n+1) f fd ["self","number","name"] (bVW K Rf CB CL):=by
 have sc:=bW6;refine F.okX (k:=n) sc (λa2 A outer s H vs Q E hr h=>?_);obtain⟨G,L,N,ls,U,R,S,m,d,rfl,O,hR,q,tb,q1,q2⟩:=h;refine⟨_,(yC (yU (i:=3) (vU a hr zQ (pv 0) (yA (pv 1) yD))) (yC (zN PassesOwn.leaving rfl (xM (pv 3)) (xB (i:=4)) (yC (yU (i:=5) (yL yK (yZ (pv 0) rfl) (pv 4))) (yF (zL (pv 5) (pv 2) rfl)))) (yF (yP (yT yN rfl T.b_len y9 (yA (pv 3) yD)))))),?_⟩;obtain⟨dx,hb⟩:=O.book;refine⟨_,rfl,G,dx,_,rfl,hb,rfl,_,rfl,G,L,N,ls,U,R,S,m,rfl,O,hR,q.tree,tb,q1,λk r em hk hv H1 l _ k1 t1 hl=>?_⟩;dsimp only[yW];have C:=O.sameT k1;have a1:=Bk.wB hk;refine⟨_,rfl,l,rfl,⟨_,SqL.of hl⟩,?_⟩;refine zO (xs:=(Bk.thr R k).map λi=>V.int (i:Nat)) (λt σ p=>∃M I:Option V,σ= [some (.ref G),some (.int m),some (.str d),some (.ref l),M,I]/\PB CB CL p G L N ls U (Bk.laid R ((Bk.thr R k).take t) d) S/\vI (own L N ls U) H1 p/\p l=some (.lst ((Bk.thr R k).map λi=>V.int (i:Nat)))) ?_ ?_ ?_ ?_
 ·exact⟨none,none,rfl,C,λb u _ e=>e,hl⟩
 ·rintro t σ p ht ⟨M,I,rfl,g,D,o⟩;exact SqL.of o
 ·rintro t x σ p B ⟨M,I,rfl,g,D,o⟩;rw[bY1]at B;cases J:(Bk.thr R k)[t]? with
  |none=>rw[J]at B;cases B
  |some j=>
   rw[J]at B;cases B;obtain⟨qj,W,Z⟩:=bZy q hk hv (bY0 J);obtain⟨q',v,y⟩:=aZs (l:=(Bk.thr R k).take t) (name:=d) W;rw[Z]at y;obtain⟨b,c,g1,g2,g3,⟨a0,g4⟩,g5⟩:=g.get v;obtain⟨X,Y⟩:=g.book;dsimp only[yW];refine⟨_,rfl,G,CB,X,_,_,rfl,Y,cl.b,cl.letters,rfl,_,rfl,L,_,_,_,rfl,rfl,SqL.of g.lst,yR g1,?_⟩;dsimp only[yW];refine⟨_,rfl,_,rfl,b,CL,a0,_,rfl,g4,cl.l,cl.file,(show 9<1000 by decide),_,_,rfl,?_,D.trans (vI.upd (aJF (bY0 g2)) _),?_⟩
   ·rw[bXQ y,show(Bk.thr R k).take (t+1)=(Bk.thr R k).take t++ [j]from by rw[cQP,J];rfl,aQh];exact g.set g2 g3 v (λr=>{r with place:=d}) rfl
   ·rw[yI (λz=>by rw[z,g4]at o;cases o)];exact o
 ·rintro σ p ⟨M,I,rfl,g,D,o⟩;rw[bYL,cQI]at g;refine⟨_,rfl,l,_,rfl,.inl (SqL.of o),?_⟩;rw[bYL];exact q2 k r em hk hv p g ((qX.of k1).trans D.t) (xU t1 D C.kinds)
abbrev aYI:Stmt:=xF "Book" "check_hanging"
abbrev bVr:Stmt:=xF "Book" "hang"
def bX2:yO ["self","letter","asked"] ["self","letter","asked"] (yH aYI):=scM
def aVl(d:Nat):∀ns:List Nat,inV (.int (d:Nat)) (ns.map λi=>V.int (i:Nat))=ns.contains d
 |[]=>rfl
 |n::r=>by have a:=aVl d r;unfold inV at a ⊢;rw[cQx,cXZ,a,cX4];congr 1;show((n:Int)==(d:Int))=(d==n);rw[Bool.eq_iff_iff,beq_iff_eq,beq_iff_eq];omega
def aZf:∀ns:List Nat,(ns.map λi=>V.int (i:Nat)).all W4=true
 |[]=>rfl
 |n::r=>by rw[cQx,cZV,aZf r];rfl
def bXr(cl:Cl K CB CL)(o:MG P w K mg base (CXR P w) (n+1) CB "thread_of" ["self","number"] (jH K Rf CB CL))(g:FnX P w K mg base (n+1) "check_days" ["asked_day","reply_day"] (aXX K Rf)) (m:ExG P w K mg base n "HasOne" Rf.1 C1 "has one") (d:ExG P w K mg base n "OwnThread" Rf.1 C2 "own thread") (e:ExG P w K mg base n "SameWay" Rf.1 C3 "same way") (a:ExG P w K mg base n "OtherPartner" Rf.1 C4 "other partner") (F:Fun K "check_hanging" "Book.check_hanging" aYI f fd):xD P w K mg base (CXR P w) (n+2) f fd ["self","letter","asked"] (bQk K Rf CB CL):=by
 have sc:=bX2;refine F.okX (k:=n+1) sc (λa1 A outer s H vs Q E C h=>?_);obtain⟨ba,la,sa,ls,cs,R,S,i,j,b,G,r,q,rfl,I,hR,hT,tb,O,hv,hj,hw,W,X,q1,q2,q3⟩:=h;refine⟨_,(yC (y0 (yM wC (yZ (pv 1) rfl) x2) (yF (zW m C rfl)) yS) (yC (y0 (yM wL (yZ (pv 2) rfl) (vU o C zQ (pv 0) (yA (yZ (pv 1) rfl) yD))) (yF (zW d C rfl)) yS) (yC (y0 (yM zB (yZ (pv 1) rfl) (yZ (pv 2) rfl)) (yF (zW e C rfl)) yS) (yC (y0 (yM Y8 (yZ (pv 1) rfl) (yZ (pv 2) rfl)) (yF (zW a C rfl)) yS) (yF (yY (aQu g C rfl (yA (yZ (pv 2) rfl) (yA (yZ (pv 1) rfl) yD))))))))),?_⟩;obtain⟨dx,hb⟩:=I.book;obtain⟨b',c1,g1,g2,g3,⟨p,T⟩,g5⟩:=I.get O;obtain rfl:b=b':=bY3 (W.symm.trans g2);obtain⟨L,c2,f1,f2,f3,⟨u,Z⟩,f5⟩:=I.get hj;obtain rfl:G=L:=bY3 (X.symm.trans f2);refine⟨_,rfl,b,CL,p,_,_,rfl,T,cl.l,cl.link,rfl,rfl,_,rfl,?_⟩;cases t:r.link with
 |some x=>exact onT rfl ((q1 (by rw[t];simp)).raise m)
 |none=>
  have Y:=q2 t;have U:=q3 t;refine onF rfl ⟨_,rfl,G,CL,u,_,_,rfl,Z,cl.l,cl.number,rfl,_,rfl,ba,dx,_,rfl,hb,rfl,_,rfl,b,CL,p,_,_,rfl,T,cl.l,cl.number,rfl,?_⟩;refine⟨ba,la,sa,ls,cs,R,S,(i:Nat),rfl,I,hR,hT,tb,(λhg=>by rw[qM O hv]at hg;cases hg),λk r' em hk a0 H1 l _ B D hl=>?_⟩;obtain rfl:i=k:=by omega
  refine⟨l,_,rfl,.inl (SqL.of hl),rfl,aZf _,_,rfl,?_⟩;rw[if_neg (show ¬ (false=true) by decide),aVl];have J:=Bk.wB hj;have own:=bV4 hT O t J;have v:=B _ _ (λ_ z=>by cases z) T;have y:=B _ _ (λ_ z=>by cases z) Z;refine qF (λc=>?_) (λc=>?_)
  ·exact((Y (own.mp (cXh.mp c))).go ⟨B,λ_=>D⟩).raise d
  ·have M:(Bk.thr R j).head? ≠some i:=λz=>c (cXh.mpr (own.mpr z));obtain⟨q4,q5⟩:=U M;refine⟨_,rfl,b,CL,p,_,_,rfl,v,cl.l,cl.way,rfl,_,rfl,G,CL,u,_,_,rfl,y,cl.l,cl.way,rfl,rfl,_,rfl,?_⟩;have e1:decide (V.str r.way=V.str q.way)=decide (r.way=q.way):=by rw[Bool.eq_iff_iff];simp
   rw[e1];refine qF (λc=>?_) (λc=>?_)
   ·exact((q4 (of_decide_eq_true c)).go ⟨B,λ_=>D⟩).raise e
   ·obtain⟨q6,q7⟩:=q5 (of_decide_eq_false (Bool.eq_false_iff.mpr c));refine⟨_,rfl,b,CL,p,_,_,rfl,v,cl.l,cl.partner,rfl,_,rfl,G,CL,u,_,_,rfl,y,cl.l,cl.partner,rfl,rfl,_,rfl,?_⟩;have e2:decide (V.str r.partner=V.str q.partner)=decide (r.partner=q.partner):=by rw[Bool.eq_iff_iff];simp
    rw[e2];cases hp:decide (r.partner=q.partner)with
    |false=>exact onT rfl (((q6 (of_decide_eq_false hp)).go ⟨B,λ_=>D⟩).raise a)
    |true=>obtain⟨q8,q9⟩:=q7 (of_decide_eq_true hp);refine onF rfl ⟨_,rfl,G,CL,u,_,_,rfl,y,cl.l,cl.day,rfl,_,rfl,b,CL,p,_,_,rfl,v,cl.l,cl.day,rfl,q.date,r.date,rfl,λN=>q9 N H1 B D,λN=>(q8 N).go ⟨B,λ_=>D⟩⟩
inductive bJa(K:bYI)(Rf:Nat×Nat)(CB CL:Nat)(vs:List V)(H:Hp)(Q:VK)(E:XK):Prop|mk (ba la sa:Nat) (ls cs:List Nat) (R:Rows) (S:List Int) (m o:Int) (_:vs= [.ref ba,.int m,.int o]) (_:PB CB CL H ba la sa ls cs R S) (_:R.length<64) (_:Bk.qV R) (_:z8 Rf.2 H) (_:(Bk.wN R m=false\/Bk.wN R o=false->xG K Rf H E "no letter")) (_:∀ (i j:Nat)(r q:Row),m=(i:Int)->o=(j:Int)->R[i]? =some r->r.void=false->R[j]? =some q->q.void=false->(r.link≠none->xG K Rf H E "has one")/\(r.link=none->(Bk.thr R j).head? =some i->xG K Rf H E "own thread")/\(r.link=none->(Bk.thr R j).head? ≠some i->(r.way=q.way->xG K Rf H E "same way")/\(r.way≠q.way->(r.partner≠q.partner->xG K Rf H E "other partner")/\(r.partner=q.partner->(r.date<q.date->xG K Rf H E "too early")/\(q.date<=r.date->bV9 Rf.2 CB CL ba la sa ls cs H (Bk.xN (Bk.laid R (Bk.thr R i) q.place) i λr=>{r with link:=some j}) S (Q .non))))))
def bVG:yO ["self","number","other","letter","asked"] ["self","number","other"] (yH bVr):=scM
def bJZ(cl:Cl K CB CL)(a:MG P w K mg base (CXR P w) n CB "letter_at" ["self","number"] (bQj K Rf CB CL))(c:MG P w K mg base (CXR P w) n CB "check_hanging" ["self","letter","asked"] (bQk K Rf CB CL))(d:MG P w K mg base (CXR P w) n CB "lay_thread" ["self","number","name"] (bVW K Rf CB CL)) (F:Fun K "hang" "Book.hang" bVr f fd):xD P w K mg base (CXR P w) (n+1) f fd ["self","number","other"] (bJa K Rf CB CL):=by
 have sc:=bVG;refine F.okX (k:=n) sc (λa4 A outer s H vs Q E L h=>?_);obtain⟨e,y,u,M,x,R,S,m,o,rfl,B,hR,z,tb,q1,q2⟩:=h;refine⟨_,(yC (yU (i:=3) (vU a L zQ (pv 0) (yA (pv 1) yD))) (yC (yU (i:=4) (vU a L zQ (pv 0) (yA (pv 2) yD))) (yC (yY (vU c L zQ (pv 0) (yA (pv 3) (yA (pv 4) yD)))) (yC (yY (vU d L zQ (pv 0) (yA (pv 1) (yA (yZ (pv 4) rfl) yD)))) (yF (zL (pv 3) (pv 2) rfl)))))),?_⟩;obtain⟨X,hb⟩:=B.book;refine⟨_,rfl,e,X,_,rfl,hb,rfl,_,rfl,e,y,u,M,x,R,S,m,rfl,B,λi r b em D hv I=>?_,λv=>q1 (.inl v)⟩;dsimp only[yW];refine⟨_,rfl,e,X,_,rfl,hb,rfl,_,rfl,e,y,u,M,x,R,S,o,rfl,B,λj q V eo U hw J=>?_,λv=>q1 (.inr v)⟩;dsimp only[yW];obtain⟨q3,q4,q5⟩:=q2 i j r q em eo D hv U hw;refine⟨_,rfl,e,X,_,rfl,hb,rfl,_,rfl,_,rfl,e,y,u,M,x,R,S,i,j,b,V,r,q,rfl,B,hR,z.tree,tb,D,hv,U,hw,I,J,q3,q4,λh1 h2=>?_⟩;obtain⟨q6,q7⟩:=q5 h1 h2;refine⟨q6,λh3=>?_⟩;obtain⟨q8,q9⟩:=q7 h3;refine⟨q8,λh4=>?_⟩;obtain⟨O,Y⟩:=q9 h4;refine⟨O,λh5 H1 k1 t1=>?_⟩;have g:=B.sameT k1;obtain⟨Z,a0⟩:=g.book;obtain⟨N,c2,f1,f2,f3,⟨W,f4⟩,f5⟩:=g.get U;obtain rfl:V=N:=bY3 (J.symm.trans f2);refine⟨_,rfl,e,Z,_,rfl,a0,rfl,_,rfl,_,rfl,V,CL,W,_,_,rfl,f4,cl.l,cl.file,rfl,?_⟩;rw[aXv hw];refine⟨e,y,u,M,x,R,S,m,q.place,rfl,g,hR,z,t1,(λv=>by rw[em,qM D hv]at v;cases v),λk r' a3 hk a2 H2 p k2 t2=>?_⟩;obtain rfl:i=k:=by omega
 rw[D]at hk;cases hk;obtain⟨r2,C,a1⟩:=aZs (l:=Bk.thr R i) (name:=q.place) D;obtain⟨b',c1,g1,T,g3,⟨G,g4⟩,g5⟩:=p.get C;obtain rfl:b=b':=bY3 (I.symm.trans T);subst eo;refine⟨_,rfl,_,rfl,b,CL,G,_,rfl,g4,cl.l,cl.link,(show 9<1000 by decide),?_⟩;have kk:=vI.upd (H:=H2) (aJF (la:=y) (sa:=u) (cs:=x) (bY0 T)) (.ins CL G (aZv i {r2 with link:=some j} c1));exact Y h5 _ _ _ (p.set T g3 C (λr=>{r with link:=some j}) rfl) (((qX.of k1).trans k2).trans kk.t) qE.refl (xU t2 kk p.kinds)
end
end Desk
namespace Desk
open PySem L2 PyProof.Rows
open Bk (Row Rows xS Ans xV)
open Thr (z8 vR qL)
def xE:xS->List V
 |.enter e d b t=> [.str e,.int d,.str b,.int t]
 |.reply m d t=> [.str "reply",.int m,.int d,.int t]
 |.hang m o=> [.str "hang",.int m,.int o]
 |.loose m=> [.str "loose",.int m]
 |.date m d=> [.str "date",.int m,.int d]
 |.term m t=> [.str "term",.int m,.int t]
 |.copy m b=> [.str "copy",.int m,.str b]
 |.file m a=> [.str "file",.int m,.str a]
 |.void m=> [.str "void",.int m]
 |.shut d=> [.str "shut",.int d]
 |.state m=> [.str "state",.int m]
 |.thread m=> [.str "thread",.int m]
 |.copies m=> [.str "copies",.int m]
 |.letters a=> [.str "letters",.str a]
 |.on c d=> [.str (if c then "overdue" else "waiting"),.int d]
def wY(o:List Nat)(H:Hp):Ans->V->Prop
 |.num n,v=>v= .int n
 |.txt x,v=>v= .str x
 |.nums l,v=>∃p,v= .ref p/\p∉o/\H p=some (.lst (l.map λi=>V.int (i:Nat)))
 |.txts l,v=>∃p,v= .ref p/\p∉o/\H p=some (.lst (l.map V.str))
 |.row r,v=>∃p,v= .ref p/\p∉o/\H p=some (.tup (stV r))
def uH(H:Hp)(v:V):Prop:=∀p,v= .ref p->∀u,(∀a,u≠HO.tbl a)->H p≠some u
def uH.none{H:Hp}{l:Nat}(h:H l=none):uH H (.ref l):=λp z u _ e=>by cases z;rw[h]at e;cases e
def uH.nl{H:Hp}{l:Nat}(h:∀b u,(∀a,u≠HO.tbl a)->H b=some u->b≠l):uH H (.ref l):=λp z u c e=>by cases z;exact h _ u c e rfl
structure Sz(R:Rows)(S:List Int):Prop where
 r:R.length<64
 s:S.length<64
 c:∀r∈R,r.copies.length<=1000
inductive aZU(K:bYI)(Rf:Nat×Nat)(CB CL:Nat)(p:xS->Prop)(vs:List V)(H:Hp)(Q:VK)(E:XK):Prop|mk (ba da la sa:Nat) (ls cs:List Nat) (R:Rows) (S:List Int) (e:xS) (_:vs= [.ref ba,.ref da]) (_:p e) (_:H da=some (.tup (xE e))) (_:PB CB CL H ba la sa ls cs R S) (_:Sz R S) (_:Bk.qV R) (_:z8 Rf.2 H) (_:(∀ (a:Ans)(R':Rows)(S':List Int)(v:V)(H':Hp)(ls' cs':List Nat),xV R S e a R' S'->PB CB CL H' ba la sa ls' cs' R' S'->qX (own la sa ls cs) H H'->qE H (own la sa ls cs) (own la sa ls' cs')->z8 Rf.2 H'->wY (own la sa ls' cs') H' a v->uH H v->Q v H')) (_:(∀t,xV R S e (.txt t) R S->xG K Rf H E t))
section
variable {K:bYI}
abbrev X5:Stmt:=xC "do_enter"
def aJ1:yO ["book","deed"] ["book","deed"] (yH X5):=scM
def aJy(a:MG P w K mg base (CXR P w) n CB "enter" ["self","way","day","partner","term"] (bQo K Rf CB CL))(F:Fun K "do_enter" "do_enter" X5 f fd):xD P w K mg base (CXR P w) (n+1) f fd ["book","deed"] (aZU K Rf CB CL λe=>∃ (c:Str)(d:Int)(b:Str)(t:Int),e= .enter c d b t):=by
 have L:=aJ1;refine F.okX (k:=n) L (λM A outer s H U Q E I h=>?_);obtain⟨C,i,v,x,y,B,R,S,e,rfl,⟨c,d,b,t,rfl⟩,g,l,N,J,tb,q,G⟩:=h;refine⟨_,(yF (yP (vU a I zQ (pv 0) (yA (yL yX (pv 1) yE) (yA (yL yX (pv 1) yE) (yA (yL yX (pv 1) yE) (yA (yL yX (pv 1) yE) yD))))))),?_⟩;obtain⟨D,T⟩:=l.book;have tk:∀ {j},vI (own v x y B) H j->z8 Rf.2 j:=λk=>xU tb k l.kinds;have g:H i=some (.tup _):=g;refine⟨_,rfl,C,D,_,rfl,T,rfl,_,rfl,i,_,0,_,rfl,rfl,SqT.of g,rfl,_,rfl,i,_,1,_,rfl,rfl,SqT.of g,rfl,_,rfl,i,_,2,_,rfl,rfl,SqT.of g,rfl,_,rfl,i,_,3,_,rfl,rfl,SqT.of g,rfl,?_⟩;refine⟨C,v,x,y,B,R,S,c,d,b,t,rfl,l,by have:=N.r;omega,λm j u p o k O=>?_,λm=>G _ (.enterT m)⟩;exact q (.num R.length) _ _ _ j u p (.enter m) o k.t O (tk k) rfl (λ_ z=>nomatch z)
abbrev X7:Stmt:=xC "do_reply"
def aJ3:yO ["book","deed"] ["book","deed"] (yH X7):=scM
def aJA(a:MG P w K mg base (CXR P w) n CB "reply" ["self","number","day","term"] (bQu K Rf CB CL))(F:Fun K "do_reply" "do_reply" X7 f fd):xD P w K mg base (CXR P w) (n+1) f fd ["book","deed"] (aZU K Rf CB CL λe=>∃ (m:Int)(d:Int)(t:Int),e= .reply m d t):=by
 have M:=aJ3;refine F.okX (k:=n) M (λN A outer s H W Q E J h=>?_);obtain⟨G,c,v,y,B,D,R,S,e,rfl,⟨m,d,t,rfl⟩,b,j,O,L,tb,q,l⟩:=h;refine⟨_,(yF (yP (vU a J zQ (pv 0) (yA (yL yX (pv 1) yE) (yA (yL yX (pv 1) yE) (yA (yL yX (pv 1) yE) yD)))))),?_⟩;obtain⟨I,V⟩:=j.book;have tk:∀ {i},vI (own v y B D) H i->z8 Rf.2 i:=λk=>xU tb k j.kinds;have b:H c=some (.tup _):=b;refine⟨_,rfl,G,I,_,rfl,V,rfl,_,rfl,c,_,1,_,rfl,rfl,SqT.of b,rfl,_,rfl,c,_,2,_,rfl,rfl,SqT.of b,rfl,_,rfl,c,_,3,_,rfl,rfl,SqT.of b,rfl,?_⟩;refine⟨G,v,y,B,D,R,S,m,d,t,rfl,j,by have:=O.r;omega,λh=>l _ (.replyN h),λh g=>l _ (.replyT h g),λk r U C x g=>?_⟩;subst U;exact⟨λb=>l _ (.replyE C x g b),λb i u p o k T=>q (.num R.length) _ _ _ i u p (.reply C x g b) o k.t T (tk k) rfl (λ_ z=>nomatch z)⟩
abbrev aQI:Stmt:=xC "do_hang"
def aW1:yO ["book","deed"] ["book","deed"] (yH aQI):=scM
def aWG(a:MG P w K mg base (CXR P w) n CB "hang" ["self","number","other"] (bJa K Rf CB CL))(F:Fun K "do_hang" "do_hang" aQI f fd):xD P w K mg base (CXR P w) (n+1) f fd ["book","deed"] (aZU K Rf CB CL λe=>∃ (m:Int)(o:Int),e= .hang m o):=by
 have W:=aW1;refine F.okX (k:=n) W (λX A outer s H vs Q E V h=>?_);obtain⟨T,C,L,M,N,O,R,S,e,rfl,⟨m,o,rfl⟩,u,B,Y,D,tb,q,d⟩:=h;refine⟨_,(yC (yY (vU a V zQ (pv 0) (yA (yL yX (pv 1) yE) (yA (yL yX (pv 1) yE) yD)))) (yF (yP yQ))),?_⟩;obtain⟨U,hb⟩:=B.book;have tk:∀ {x},vI (own L M N O) H x->z8 Rf.2 x:=λk=>xU tb k B.kinds;have u:H C=some (.tup _):=u;refine⟨_,rfl,T,U,_,rfl,hb,rfl,_,rfl,C,_,1,_,rfl,rfl,SqT.of u,rfl,_,rfl,C,_,2,_,rfl,rfl,SqT.of u,rfl,?_⟩;refine⟨T,L,M,N,O,R,S,m,o,rfl,B,Y.r,D,tb,λh=>d _ (.hangN h),λi j r q' em eo l g c hw=>?_⟩;subst em;subst eo;refine⟨λh=>d _ (.hangH l g c hw h),λh b=>d _ (.hangO l g c hw h b),λh b=>⟨λp=>d _ (.hangW l g c hw h b p),λp=>⟨λv=>d _ (.hangP l g c hw h b p v),λv=>⟨λy=>d _ (.hangE l g c hw h b p v y),λy x J I G k Z t=>?_⟩⟩⟩⟩;exact q (.txt "hung") _ _ _ x J I (.hang l g c hw h b p v y) G k Z t rfl (λ_ z=>nomatch z)
abbrev X6:Stmt:=xC "do_loose"
def aJ2:yO ["book","deed"] ["book","deed"] (yH X6):=scM
def aJz(a:MG P w K mg base (CXR P w) n CB "loosen" ["self","number"] (aVS K Rf CB CL))(F:Fun K "do_loose" "do_loose" X6 f fd):xD P w K mg base (CXR P w) (n+1) f fd ["book","deed"] (aZU K Rf CB CL λe=>∃ (m:Int),e= .loose m):=by
 have J:=aJ2;refine F.okX (k:=n) J (λL A outer s H T Q E G h=>?_);obtain⟨C,o,l,v,x,B,R,S,e,rfl,⟨m,rfl⟩,g,c,U,I,tb,q,p⟩:=h;refine⟨_,(yC (yY (vU a G zQ (pv 0) (yA (yL yX (pv 1) yE) yD))) (yF (yP yQ))),?_⟩;obtain⟨D,O⟩:=c.book;have tk:∀ {b},vI (own l v x B) H b->z8 Rf.2 b:=λk=>xU tb k c.kinds;have g:H o=some (.tup _):=g;refine⟨_,rfl,C,D,_,rfl,O,rfl,_,rfl,o,_,1,_,rfl,rfl,SqT.of g,rfl,?_⟩;refine⟨C,l,v,x,B,R,S,m,rfl,c,λh=>p _ (.oneN h (.inl rfl)),λk r N y u=>?_⟩;subst N;exact⟨λh=>p _ (.looseN y u h),λh b j i d k M=>q (.txt "loose") _ _ _ b j i (.loose y u h) d k.t M (tk k) rfl (λ_ z=>nomatch z)⟩
abbrev aQG:Stmt:=xC "do_date"
def aWZ:yO ["book","deed"] ["book","deed"] (yH aQG):=scM
def aWE(a:MG P w K mg base (CXR P w) n CB "put_day" ["self","number","day"] (aVT K Rf CB CL))(F:Fun K "do_date" "do_date" aQG f fd):xD P w K mg base (CXR P w) (n+1) f fd ["book","deed"] (aZU K Rf CB CL λe=>∃ (m:Int)(d:Int),e= .date m d):=by
 have M:=aWZ;refine F.okX (k:=n) M (λO A outer s H X Q E L h=>?_);obtain⟨G,i,u,y,B,D,R,S,e,rfl,⟨m,d,rfl⟩,b,g,T,j,tb,q,v⟩:=h;refine⟨_,(yC (yY (vU a L zQ (pv 0) (yA (yL yX (pv 1) yE) (yA (yL yX (pv 1) yE) yD)))) (yF (yP yQ))),?_⟩;obtain⟨J,W⟩:=g.book;have tk:∀ {c},vI (own u y B D) H c->z8 Rf.2 c:=λk=>xU tb k g.kinds;have b:H i=some (.tup _):=b;refine⟨_,rfl,G,J,_,rfl,W,rfl,_,rfl,i,_,1,_,rfl,rfl,SqT.of b,rfl,_,rfl,i,_,2,_,rfl,rfl,SqT.of b,rfl,?_⟩;refine⟨G,u,y,B,D,R,S,m,d,rfl,g,by have:=T.r;omega,j,λh=>v _ (.oneN h (.inr (.inl ⟨d,rfl⟩))),λk r V C x=>?_⟩;subst V;exact⟨λh=>v _ (.dateE C x h),λI N c p o l k U=>q (.txt "dated") _ _ _ c p o (.date C x I N) l k.t U (tk k) rfl (λ_ z=>nomatch z)⟩
abbrev aQK:Stmt:=xC "do_term"
def aW3:yO ["book","deed"] ["book","deed"] (yH aQK):=scM
def aWI(a:MG P w K mg base (CXR P w) n CB "put_term" ["self","number","term"] (aZW K Rf CB CL))(F:Fun K "do_term" "do_term" aQK f fd):xD P w K mg base (CXR P w) (n+1) f fd ["book","deed"] (aZU K Rf CB CL λe=>∃ (m:Int)(t:Int),e= .term m t):=by
 have J:=aW3;refine F.okX (k:=n) J (λL A outer s H T Q E G h=>?_);obtain⟨C,g,o,v,x,B,R,S,e,rfl,⟨m,t,rfl⟩,b,d,U,I,tb,q,p⟩:=h;refine⟨_,(yC (yY (vU a G zQ (pv 0) (yA (yL yX (pv 1) yE) (yA (yL yX (pv 1) yE) yD)))) (yF (yP yQ))),?_⟩;obtain⟨D,O⟩:=d.book;have tk:∀ {c},vI (own o v x B) H c->z8 Rf.2 c:=λk=>xU tb k d.kinds;have b:H g=some (.tup _):=b;refine⟨_,rfl,C,D,_,rfl,O,rfl,_,rfl,g,_,1,_,rfl,rfl,SqT.of b,rfl,_,rfl,g,_,2,_,rfl,rfl,SqT.of b,rfl,?_⟩;refine⟨C,o,v,x,B,R,S,m,t,rfl,d,λh=>p _ (.oneN h (.inr (.inr (.inl ⟨t,rfl⟩)))),λk r N y u=>?_⟩;subst N;exact⟨λh=>p _ (.termN y u h),λh c l j i k M=>q (.txt "set") _ _ _ c l j (.term y u h) i k.t M (tk k) rfl (λ_ z=>nomatch z)⟩
abbrev aQF:Stmt:=xC "do_copy"
def aWY:yO ["book","deed"] ["book","deed"] (yH aQF):=scM
def aWD(a:MG P w K mg base (CXR P w) n CB "send_copy" ["self","number","person"] (bJf K Rf CB CL))(F:Fun K "do_copy" "do_copy" aQF f fd):xD P w K mg base (CXR P w) (n+1) f fd ["book","deed"] (aZU K Rf CB CL λe=>∃ (m:Int)(b:Str),e= .copy m b):=by
 have N:=aWY;refine F.okX (k:=n) N (λT A outer s H Y Q E L h=>?_);obtain⟨G,j,u,y,B,D,R,S,e,rfl,⟨m,b,rfl⟩,d,i,U,M,tb,q,v⟩:=h;refine⟨_,(yF (yP (vU a L zQ (pv 0) (yA (yL yX (pv 1) yE) (yA (yL yX (pv 1) yE) yD))))),?_⟩;obtain⟨J,X⟩:=i.book;have tk:∀ {g},vI (own u y B D) H g->z8 Rf.2 g:=λk=>xU tb k i.kinds;have d:H j=some (.tup _):=d;refine⟨_,rfl,G,J,_,rfl,X,rfl,_,rfl,j,_,1,_,rfl,rfl,SqT.of d,rfl,_,rfl,j,_,2,_,rfl,rfl,SqT.of d,rfl,?_⟩;refine⟨G,u,y,B,D,R,S,m,b,rfl,i,U.c,λh=>v _ (.oneN h (.inr (.inr (.inr (.inl ⟨b,rfl⟩))))),λk r W C x=>?_⟩;subst W;exact⟨λh=>v _ (.copyC C x h),λI O g p o l k V=>q (.num (r.copies.length+1)) _ _ _ g p o (.copy C x I O) l k.t V (tk k) rfl (λ_ z=>nomatch z)⟩
abbrev aQH:Stmt:=xC "do_file"
def aW0:yO ["book","deed"] ["book","deed"] (yH aQH):=scM
def aWF(a:MG P w K mg base (CXR P w) n CB "lay_thread" ["self","number","name"] (bVW K Rf CB CL))(F:Fun K "do_file" "do_file" aQH f fd):xD P w K mg base (CXR P w) (n+1) f fd ["book","deed"] (aZU K Rf CB CL λe=>∃ (m:Int)(name:Str),e= .file m name):=by
 have G:=aW0;refine F.okX (k:=n) G (λI A outer s H O Q E C h=>?_);obtain⟨u,g,p,t,j,o,R,S,e,rfl,⟨m,name,rfl⟩,b,d,L,i,tb,q,y⟩:=h;refine⟨_,(yF (yP (vU a C zQ (pv 0) (yA (yL yX (pv 1) yE) (yA (yL yX (pv 1) yE) yD))))),?_⟩;obtain⟨x,N⟩:=d.book;have tk:∀ {c},vI (own p t j o) H c->z8 Rf.2 c:=λk=>xU tb k d.kinds;have b:H g=some (.tup _):=b;refine⟨_,rfl,u,x,_,rfl,N,rfl,_,rfl,g,_,1,_,rfl,rfl,SqT.of b,rfl,_,rfl,g,_,2,_,rfl,rfl,SqT.of b,rfl,?_⟩;refine⟨u,p,t,j,o,R,S,m,name,rfl,d,L.r,i,tb,λh=>y _ (.oneN h (.inr (.inr (.inr (.inr (.inl ⟨name,rfl⟩)))))),λk r M J B c l v D=>?_⟩;subst M;exact q (.num (Bk.thr R k).length) _ _ _ c j o (.file J B) l v qE.refl D rfl (λ_ z=>nomatch z)
abbrev aQL:Stmt:=xC "do_void"
def aW4:yO ["book","deed"] ["book","deed"] (yH aQL):=scM
def aWJ(a:MG P w K mg base (CXR P w) n CB "cancel" ["self","number"] (aVL K Rf CB CL))(F:Fun K "do_void" "do_void" aQL f fd):xD P w K mg base (CXR P w) (n+1) f fd ["book","deed"] (aZU K Rf CB CL λe=>∃ (m:Int),e= .void m):=by
 have J:=aW4;refine F.okX (k:=n) J (λL A outer s H U Q E G h=>?_);obtain⟨C,o,l,v,x,B,R,S,e,rfl,⟨m,rfl⟩,g,c,M,I,tb,q,p⟩:=h;refine⟨_,(yC (yY (vU a G zQ (pv 0) (yA (yL yX (pv 1) yE) yD))) (yF (yP yQ))),?_⟩;obtain⟨D,T⟩:=c.book;have tk:∀ {b},vI (own l v x B) H b->z8 Rf.2 b:=λk=>xU tb k c.kinds;have g:H o=some (.tup _):=g;refine⟨_,rfl,C,D,_,rfl,T,rfl,_,rfl,o,_,1,_,rfl,rfl,SqT.of g,rfl,?_⟩;refine⟨C,l,v,x,B,R,S,m,rfl,c,by have:=M.r;omega,λh=>p _ (.oneN h (.inr (.inr (.inr (.inr (.inr (.inl rfl))))))),λk r O y u=>?_⟩;subst O;exact⟨λh=>p _ (.voidA y u h),λh b j i d k N=>q (.txt "void") _ _ _ b j i (.void y u h) d k.t N (tk k) rfl (λ_ z=>nomatch z)⟩
abbrev aQJ:Stmt:=xC "do_shut"
def aW2:yO ["book","deed"] ["book","deed"] (yH aQJ):=scM
def aWH(a:MG P w K mg base (CXR P w) n CB "shut_day" ["self","day"] (bJg K Rf CB CL))(F:Fun K "do_shut" "do_shut" aQJ f fd):xD P w K mg base (CXR P w) (n+1) f fd ["book","deed"] (aZU K Rf CB CL λe=>∃ (d:Int),e= .shut d):=by
 have D:=aW2;refine F.okX (k:=n) D (λG A outer s H M Q E B h=>?_);obtain⟨v,o,m,p,r,u,R,S,e,rfl,⟨d,rfl⟩,i,c,I,C,tb,q,y⟩:=h;refine⟨_,(yC (yY (vU a B zQ (pv 0) (yA (yL yX (pv 1) yE) yD))) (yF (yP yQ))),?_⟩;obtain⟨x,L⟩:=c.book;have tk:∀ {b},vI (own m p r u) H b->z8 Rf.2 b:=λk=>xU tb k c.kinds;have i:H o=some (.tup _):=i;refine⟨_,rfl,v,x,_,rfl,L,rfl,_,rfl,o,_,1,_,rfl,rfl,SqT.of i,rfl,?_⟩;refine⟨v,m,p,r,u,R,S,d,rfl,c,by have:=I.s;omega,λh=>y _ (.shutN h),λh b l j g k J=>?_⟩;exact q (.txt "shut") _ _ _ b l j (.shut h) g k.t J (tk k) rfl (λ_ z=>nomatch z)
abbrev qA:Stmt:=xC "ask_state"
def aZO:yO ["book","deed"] ["book","deed"] (yH qA):=scM
def aZB(a:MG P w K mg base (CXR P w) n CB "state_of" ["self","number"] (aZY K Rf CB CL))(F:Fun K "ask_state" "ask_state" qA f fd):xD P w K mg base (CXR P w) (n+1) f fd ["book","deed"] (aZU K Rf CB CL λe=>∃ (m:Int),e= .state m):=by
 have C:=aZO;refine F.okX (k:=n) C (λD A outer s H L Q E z h=>?_);obtain⟨u,o,j,p,d,i,R,S,e,rfl,⟨m,rfl⟩,g,b,M,B,tb,q,x⟩:=h;refine⟨_,(yF (yP (vU a z zQ (pv 0) (yA (yL yX (pv 1) yE) yD)))),?_⟩;obtain⟨v,J⟩:=b.book;have tk:∀ {H'},vI (own j p d i) H H'->z8 Rf.2 H':=λk=>xU tb k b.kinds;have g:H o=some (.tup _):=g;refine⟨_,rfl,u,v,_,rfl,J,rfl,_,rfl,o,_,1,_,rfl,rfl,SqT.of g,rfl,?_⟩;refine⟨u,j,p,d,i,R,S,m,rfl,b,λk r l I G y hl=>?_,λh=>x _ (.oneN h (.inr (.inr (.inr (.inr (.inr (.inr (.inl rfl))))))))⟩;subst I;have c:=yG hl (.tup (stV r));exact q (.row r) _ _ _ _ d i (.state G y) (b.same c) (qX.of c.t) qE.refl (tk (vI.of c)) ⟨l,rfl,b.notnone hl,yB⟩ (uH.none hl)
abbrev uS:Stmt:=xC "ask_thread"
def aXV:yO ["book","deed"] ["book","deed"] (yH uS):=scM
def aXD(a:MG P w K mg base (CXR P w) n CB "thread_of" ["self","number"] (jH K Rf CB CL))(F:Fun K "ask_thread" "ask_thread" uS f fd):xD P w K mg base (CXR P w) (n+1) f fd ["book","deed"] (aZU K Rf CB CL λe=>∃ (m:Int),e= .thread m):=by
 have D:=aXV;refine F.okX (k:=n) D (λG A outer s H N Q E B h=>?_);obtain⟨v,t,o,u,g,j,R,S,e,rfl,⟨m,rfl⟩,i,b,J,d,tb,q,y⟩:=h;refine⟨_,(yF (yP (vU a B zQ (pv 0) (yA (yL yX (pv 1) yE) yD)))),?_⟩;obtain⟨x,M⟩:=b.book;have tk:∀ {c},vI (own o u g j) H c->z8 Rf.2 c:=λk=>xU tb k b.kinds;have i:H t=some (.tup _):=i;refine⟨_,rfl,v,x,_,rfl,M,rfl,_,rfl,t,_,1,_,rfl,rfl,SqT.of i,rfl,?_⟩;refine⟨v,o,u,g,j,R,S,m,rfl,b,J.r,d.tree,tb,λh=>y _ (.oneN h (.inr (.inr (.inr (.inr (.inr (.inr (.inr (.inl rfl))))))))),λk r L I z c l nl p C hl=>?_⟩;subst L;exact q (.nums (Bk.thr R k)) _ _ _ c g j (.thread I z) (b.sameT p) (qX.of p) qE.refl C ⟨l,rfl,b.notown nl,hl⟩ (uH.nl nl)
abbrev uR:Stmt:=xC "ask_copies"
def aXU:yO ["book","deed"] ["book","deed"] (yH uR):=scM
def aXC(a:MG P w K mg base (CXR P w) n CB "copies_of" ["self","number"] (aVN K Rf CB CL))(F:Fun K "ask_copies" "ask_copies" uR f fd):xD P w K mg base (CXR P w) (n+1) f fd ["book","deed"] (aZU K Rf CB CL λe=>∃ (m:Int),e= .copies m):=by
 have C:=aXU;refine F.okX (k:=n) C (λD A outer s H L Q E z h=>?_);obtain⟨u,o,j,p,d,i,R,S,e,rfl,⟨m,rfl⟩,g,b,M,B,tb,q,x⟩:=h;refine⟨_,(yF (yP (vU a z zQ (pv 0) (yA (yL yX (pv 1) yE) yD)))),?_⟩;obtain⟨v,J⟩:=b.book;have tk:∀ {H'},vI (own j p d i) H H'->z8 Rf.2 H':=λk=>xU tb k b.kinds;have g:H o=some (.tup _):=g;refine⟨_,rfl,u,v,_,rfl,J,rfl,_,rfl,o,_,1,_,rfl,rfl,SqT.of g,rfl,?_⟩;refine⟨u,j,p,d,i,R,S,m,rfl,b,λk r l I G y hl=>?_,λh=>x _ (.oneN h (.inr (.inr (.inr (.inr (.inr (.inr (.inr (.inr rfl)))))))))⟩;subst I;have c:=yG hl (.lst (r.copies.map V.str));exact q (.txts r.copies) _ _ _ _ d i (.copies G y) (b.same c) (qX.of c.t) qE.refl (tk (vI.of c)) ⟨l,rfl,b.notnone hl,yB⟩ (uH.none hl)
abbrev v5:Stmt:=xC "ask_letters"
def aQ6:yO ["book","deed"] ["book","deed"] (yH v5):=scM
def aQ2(a:MG P w K mg base CX0 n CB "letters_in" ["self","name"] (aQO CB CL))(F:Fun K "ask_letters" "ask_letters" v5 f fd):xD P w K mg base (CXR P w) (n+1) f fd ["book","deed"] (aZU K Rf CB CL λe=>∃ (name:Str),e= .letters name):=by
 have z:=aQ6;refine F.okX (k:=n) z (λB A outer s H I Q E x h=>?_);obtain⟨u,o,m,p,d,j,R,S,e,rfl,⟨name,rfl⟩,g,b,C,y,tb,q,G⟩:=h;refine⟨_,(yF (yP (vU a x vT (pv 0) (yA (yL yX (pv 1) yE) yD)))),?_⟩;obtain⟨v,D⟩:=b.book;have tk:∀ {H'},vI (own m p d j) H H'->z8 Rf.2 H':=λk=>xU tb k b.kinds;have g:H o=some (.tup _):=g;refine⟨_,rfl,u,v,_,rfl,D,rfl,_,rfl,o,_,1,_,rfl,rfl,SqT.of g,rfl,?_⟩;refine⟨u,m,p,d,j,R,S,name,rfl,b,C.r,λl hl=>?_⟩;have c:=yG hl (.lst ((Z0 R name).map λi=>V.int (i:Nat)));exact q (.nums (Z0 R name)) _ _ _ _ d j .letters (b.same c) (qX.of c.t) qE.refl (tk (vI.of c)) ⟨l,rfl,b.notnone hl,yB⟩ (uH.none hl)
abbrev v7:Stmt:=xC "ask_waiting"
def aQ8:yO ["book","deed"] ["book","deed"] (yH v7):=scM
def aQ4(a:MG P w K mg base CX0 n CB "waiting" ["self","day"] (bKy CB CL false))(F:Fun K "ask_waiting" "ask_waiting" v7 f fd):xD P w K mg base (CXR P w) (n+1) f fd ["book","deed"] (aZU K Rf CB CL λe=>∃ (d:Int),e= .on false d):=by
 have I:=aQ8;refine F.okX (k:=n) I (λJ A outer s H N Q E D h=>?_);obtain⟨z,v,u,x,i,o,R,S,e,rfl,⟨d,rfl⟩,m,b,y,G,tb,q,M⟩:=h;refine⟨_,(yF (yP (vU a D vT (pv 0) (yA (yL yX (pv 1) yE) yD)))),?_⟩;obtain⟨B,L⟩:=b.book;have tk:∀ {c},vI (own u x i o) H c->z8 Rf.2 c:=λk=>xU tb k b.kinds;have m:H v=some (.tup _):=m;refine⟨_,rfl,z,B,_,rfl,L,rfl,_,rfl,v,_,1,_,rfl,rfl,SqT.of m,rfl,?_⟩;refine⟨z,u,x,i,o,R,S,d,rfl,b,y.r,y.s,λl c C g hl p j=>?_⟩;exact q (.nums C) _ _ _ c i o (.on j) (b.same g) (qX.of g.t) qE.refl (tk (vI.of g)) ⟨l,rfl,b.notnone hl,p⟩ (uH.none hl)
abbrev v6:Stmt:=xC "ask_overdue"
def aQ7:yO ["book","deed"] ["book","deed"] (yH v6):=scM
def aQ3(a:MG P w K mg base CX0 n CB "overdue" ["self","day"] (bKy CB CL true))(F:Fun K "ask_overdue" "ask_overdue" v6 f fd):xD P w K mg base (CXR P w) (n+1) f fd ["book","deed"] (aZU K Rf CB CL λe=>∃ (d:Int),e= .on true d):=by
 have I:=aQ7;refine F.okX (k:=n) I (λJ A outer s H N Q E D h=>?_);obtain⟨z,v,u,x,i,o,R,S,e,rfl,⟨d,rfl⟩,m,b,y,G,tb,q,M⟩:=h;refine⟨_,(yF (yP (vU a D vT (pv 0) (yA (yL yX (pv 1) yE) yD)))),?_⟩;obtain⟨B,L⟩:=b.book;have tk:∀ {c},vI (own u x i o) H c->z8 Rf.2 c:=λk=>xU tb k b.kinds;have m:H v=some (.tup _):=m;refine⟨_,rfl,z,B,_,rfl,L,rfl,_,rfl,v,_,1,_,rfl,rfl,SqT.of m,rfl,?_⟩;refine⟨z,u,x,i,o,R,S,d,rfl,b,y.r,y.s,λl c C g hl p j=>?_⟩;exact q (.nums C) _ _ _ c i o (.on j) (b.same g) (qX.of g.t) qE.refl (tk (vI.of g)) ⟨l,rfl,b.notnone hl,p⟩ (uH.none hl)
end
end Desk
namespace Desk
open PySem L2 PyProof.Rows
open Bk (Row Rows xS Ans xV)
open Thr (z8 vR qL)
structure bKH(P:bY4)(w:cQa)(K:bYI)(D:Nat)(kvs:List (Key×bYH)):Prop where
 at_:∃o es ep,K.lookup D=some o/\o.ExactDict/\o.data= .dict es ep/\KeysOf (zA P w) es/\Pairs (zA P w) es.toList kvs/\(kvs.map (·.1)).Nodup
inductive bK8(kvs:List (Key×bYH))(Q:VK)(y:V)(H1:Hp):Prop|mk (x:Str) (f:Nat) (_:y= .str x) (_:cZ3 kvs (Sum.inr x)=some (.ref f)) (_:Q (.ref f) H1)
def bYF(a:List (Key×bYH))(c:TE):TE:=λσ H Q=>c σ H λy b=>bK8 a Q y b
def bWT{X:Cx}{x:Str}{D:Nat}{a:List (Key×bYH)}{i:Expr}{e:TE}{p pos:Pos}(q:Gl X x)(A:X.mg x=some (.ref D))(T:bKH X.prog X.w X.K D a)(m:PE X i e)(z:bYd i)(c:(x==("__debug__":Str))=false:=by decide):
  PE X (.Subscript (.Name x p) i pos) (bYF a e):=by
 intro b s σ H Q I h
 refine bVX PySem.F.slot_dict_getitem.lookup z (uO I q A (thn (m b s σ H _ I h) λiv s2 ⟨y,H2,I2,ry,x',f,ex,hv,q2⟩=>?_) c)
 subst ex
 obtain⟨o,v,l,j,t,u,g,n,r⟩:=T.at_
 have d:s2.heap.DictOf (zA X.prog X.w) D a:=⟨o,v,l,I2.kIn _ _ j,t,u,g,n,r⟩
 exact⟨d.typeIs,wpAny_getItem_of (bQ4 (k:=Sum.inr x') ry) d.mapOf hv ⟨.ref f,H2,I2.tok _,rfl,q2⟩⟩
inductive bJi(P:bY4)(w:cQa)(K:bYI)(mg:Str->Option bYH)(base:Heap)(k i:Nat)(E:XK)(t:TA)(σ:L2.St)(H:Hp)(Q:VK):Prop|mk (f) (_:σ[i]? =some (some (.ref f))) (_:cQD K (.ref f)=true) (_:t σ H λvs H1=>∃fd ps sp,xD P w K mg base (CXR P w) k f fd ps sp/\vW K fd ps []/\sp vs H1 Q E)
def bXK{X:Cx}{k i:Nat}{x:Str}{e:Expr}{c:List Expr}{t:TA}{E:XK}{p pos:Pos}(o:vP k X.A)(G:X.N[i]? =some x)(n:Vis X.env.scope x)(z:vJ (CXR X.prog X.w) X E)(L:PA X (e::c) t)
  (l:(x==("__debug__":Str))=false:=by decide) (j:(x==("__classdict__":Str))=false:=by decide) (C:cQk (e::c) X.env=(false,eval e X.env)::cQk c X.env:=by rfl) (d:(cXk pos (cQk c X.env)).any (·.1)=false:=by rfl):
  PE X (.Call (.Name x p) (e::c) [] pos) (bJi X.prog X.w X.K X.mg X.base k i E t):=by
 intro a s σ H Q I h
 obtain⟨f,y,B,q⟩:=h
 refine cXl (thn (bZ5 (pos:=p) G n l j a s σ H (λv g=>v= .ref f/\g=H) I ⟨_,y,rfl,rfl⟩) ?_)
 rintro u m ⟨v,g,J,D,rfl,rfl⟩
 obtain rfl:u=Value.ref f:=D
 refine cZz (h₀:=X.base) I.ok.mod.kin B (thn (L pos a m σ g _ J q) λus s2 ⟨vs,H2,I2,r,fd,ps,sp,F,b,q2⟩=>⟨I2.kIn,?_⟩) C d
 exact aZK F o b .nil z I2 r (by rw[cQN];exact q2)
def aWl:xS->Str
 |.enter b _ _ _=>b
 |.reply _ _ _=>"reply"
 |.hang _ _=>"hang"
 |.loose _=>"loose"
 |.date _ _=>"date"
 |.term _ _=>"term"
 |.copy _ _=>"copy"
 |.file _ _=>"file"
 |.void _=>"void"
 |.shut _=>"shut"
 |.state _=>"state"
 |.thread _=>"thread"
 |.copies _=>"copies"
 |.letters _=>"letters"
 |.on a _=>if a then "overdue" else "waiting"
def Wf:xS->Prop
 |.enter a _ _ _=>a="in"\/a="out"
 |_=>True
def bQQ(e:xS):atI (xE e) 0=some (.str (aWl e)):=by cases e<;> rfl
def bWa(P:bY4)(w:cQa)(K:bYI)(mg:Str->Option bYH)(base:Heap)(n:Nat)(Rf:Nat×Nat)(c CL:Nat)(a:List (Key×bYH)):Prop:=∀e:xS,Wf e->∃ (f:Nat)(b:cXG)(p:xS->Prop),cZ3 a (Sum.inr (aWl e))=some (.ref f)/\
 xD P w K mg base (CXR P w) n f b ["book","deed"] (aZU K Rf c CL p)/\p e/\vW K b ["book","deed"] []/\cQD K (.ref f)=true
inductive Q2(Rf:Nat×Nat)(CB CL:Nat)(vs:List V)(H:Hp)(Q:VK)(_:XK):Prop|mk (ba da la sa:Nat) (ls cs:List Nat) (R:Rows) (S:List Int) (e:xS) (_:vs= [.ref ba,.ref da]) (_:Wf e) (_:H da=some (.tup (xE e))) (_:PB CB CL H ba la sa ls cs R S) (_:Sz R S) (_:Bk.qV R) (_:z8 Rf.2 H) (_:∀ (a:Ans)(R':Rows)(S':List Int)(v:V)(H':Hp)(ls' cs':List Nat),xV R S e a R' S'->PB CB CL H' ba la sa ls' cs' R' S'->qX (own la sa ls cs) H H'->qE H (own la sa ls cs) (own la sa ls' cs')->z8 Rf.2 H'->wY (own la sa ls' cs') H' a v->uH H v->Q v H')
section
variable {K:bYI}
abbrev aJO:Stmt:=xC "answer"
def aY2:yO ["book","deed","do","refusal"] ["book","deed"] (yH aJO):=scM
def aYg(T:mg "DEEDS"=some (.ref D))(B:bKH P w K D kvs)(hR:mg "Refused"=some (.ref Rf.1))(W:vX K Rf.1)(all:bWa P w K mg base n Rf CB CL kvs)(F:Fun K "answer" "answer" aJO f fd): xD P w K mg base CX0 (n+1) f fd ["book","deed"] (Q2 Rf CB CL):=by
 have p:=aY2;refine F.ok (k:=n) p (λU A outer s H vs Q E J h=>?_);obtain⟨Y,o,y,N,u,x,R,S,e,rfl,a,v,m,X,c,tb,q⟩:=h;refine⟨_,(yC (yU (i:=2) (bWT rfl T B (yL yX (pv 1) yE) (λ_ _=>rfl))) (yF (bWV (i:=3) p.nd rfl rfl rfl hR W rfl rfl rfl (by decide) (by decide) (by decide) (λ_=>rfl) (tb:=λE=>bYk (bJi P w K mg base n 2 E (aKg (bV1 0) (aKg (bV1 1) bZu)))) (λpn xe E L=>yF (yP (bXK J rfl (Or.inl rfl) L (yA (pv 0) (yA (pv 1) yD)))))))),?_⟩;obtain⟨r,l,pe,I,O,j,b,g⟩:=all e a;refine⟨_,rfl,o,_,0,_,rfl,rfl,SqT.of v,bQQ e,aWl e,r,rfl,I,?_⟩;dsimp only[yW];refine⟨r,rfl,g,_,rfl,_,rfl,l,_,_,O,b,Y,o,y,N,u,x,R,S,e,rfl,j,v,m,X,c,tb,q,λt d=>?_⟩;intro C G Z V hm k M;exact⟨C,G,t,rfl,rfl,V,hm,M,q (.txt t) R S _ Z u x d (m.sameT k.1) (qX.of k.1) qE.refl (k.2 tb) rfl (λ_ z=>nomatch z)⟩
inductive Run:Rows->List Int->List xS->List Ans->Rows->List Int->Prop
 |nil {R:Rows} {S:List Int}:Run R S [] [] R S
 |snoc {R R' R'':Rows} {S S' S'':List Int} {es:List xS} {as:List Ans} {e:xS} {a:Ans} (h:Run R S es as R' S') (d:xV R' S' e a R'' S''):Run R S (es++ [e]) (as++ [a]) R'' S''
def Run.len{R e:Rows}{S c:List Int}{b:List xS}{a:List Ans}(h:Run R S b a e c):b.length=a.length:=by
 induction h with
 |nil=>rfl
 |snoc h d f=>simp[f]
structure Up(t:Nat)(R:Rows)(S:List Int):Prop where
 r:R.length<=t
 s:S.length<=t
 c:∀r∈R,r.copies.length<=t
def Up.set{t:Nat}{R:Rows}{S:List Int}(u:Up t R S)(k:Nat)(f:Row->Row)(b:∀r,(f r).copies.length<=r.copies.length+1):Up (t+1) (Bk.xN R k f) S:=
 ⟨by rw[Bk.zC];exact cXe u.r,cXe u.s,λr a=>by
  rcases Bk.aQm a with h|⟨q,h,rfl⟩
  ·exact cXe (u.c r h)
  ·exact cQn (b q) (Nat.succ_le_succ (u.c q h))⟩
def aQf{name:Str}:∀ (l:List Nat)(R:Rows)(t:Nat),(∀r∈R,r.copies.length<=t)->∀r∈Bk.laid R l name,r.copies.length<=t
 |[],R,t,h,r,hr=>h r hr
 |k::l,R,t,h,r,hr=>aQf l (Bk.xN R k λr=>{r with place:=name}) t (λq a=>by
   rcases Bk.aQm a with z|⟨b,z,rfl⟩
   ·exact h q z
   ·exact h b z) r hr
def Up.laid{t:Nat}{R:Rows}{S:List Int}(u:Up t R S)(l:List Nat)(name:Str):Up t (Bk.laid R l name) S:=⟨by rw[Bk.zT];exact u.r,u.s,aQf l R t u.c⟩
def Up.le{t:Nat}{R:Rows}{S:List Int}(u:Up t R S):Up (t+1) R S:=⟨cXe u.r,cXe u.s,λr h=>cXe (u.c r h)⟩
def Up.snoc{t:Nat}{R:Rows}{S:List Int}(u:Up t R S)(r:Row)(h:r.copies= []):Up (t+1) (R++ [r]) S:=⟨by simpa using u.r,cXe u.s,λq a=>by
 rcases cQm.mp a with z|z
 ·exact cXe (u.c q z)
 ·rw[bYY.mp z,h];exact cQE _⟩
def Up.done{t:Nat}{R d:Rows}{S b:List Int}{e:xS}{a:Ans}(u:Up t R S)(h:xV R S e a d b):Up (t+1) d b:=by
 cases h with
 |enter _=>exact u.snoc _ rfl
 |reply _ _ _ _=>exact u.snoc _ rfl
 |hang _ _ _ _ _ _ _ _ _=>exact(u.laid _ _).set _ _ λ_=>cXP _
 |loose _ _ _=>exact u.set _ _ λ_=>cXP _
 |date _ _ _ _=>exact u.set _ _ λ_=>cXP _
 |term _ _ _=>exact u.set _ _ λ_=>cXP _
 |copy _ _ _ _=>exact u.set _ _ λr=>by simp
 |file _ _=>exact(u.laid _ _).le
 |void _ _ _=>exact u.set _ _ λ_=>cXP _
 |shut _=>exact⟨cXe u.r,by simpa using u.s,λr h=>cXe (u.c r h)⟩
 |_=>exact u.le
def Up.sz{t:Nat}{R:Rows}{S:List Int}(u:Up t R S)(h:t<64):Sz R S:=⟨by have:=u.r;omega,by have:=u.s;omega,λr a=>by have:=u.c r a;omega⟩
end
end Desk
namespace Law
open PySem L2 PyProof.Rows
open Bk (Row Rows xV xS Ans)
open Desk (xE wY uH Wf)
abbrev aXK:Stmt:=xC "_law_entered"
def aQW(e:Nat)(c a:List Nat)(H d:Hp):Prop:=(∀x o,x∉e::c->H x=some o->d x=some o)/\(∀b∈a,b∈c\/H b=none)/\∀s u,H s=some u->NoC c H s->NoC a d s
def But.step{d:Nat}{a:List Nat}{H c:Hp}(k:But a H c):aQW d a a H c:=⟨λx o n e=>k.1 x o (λz=>n (bYT _ z)) e,λb h=> .inl h,k.2.2⟩
def aQW.pre{f:Nat}{c a:List Nat}{H d g:Hp}(i:∀b∈c,∃o,H b=some o)(k:xA H d)(s:aQW f c a d g):aQW f c a H g:=
 ⟨λx o n e=>s.1 x o n (k _ _ e),λb h=>(s.2.1 b h).imp id λz=>k.fresh z,λx u e n=>s.2.2 x u (k _ _ e) ((But.of i k).2.2 x u e n)⟩
inductive aQN(vs:List V)(H:Hp)(Q:VK)(_:XK):Prop|mk (ra da:Nat) (rs:List Nat) (R:Rows) (e:xS) (_:vs= [.ref ra,.ref da]) (_:H da=some (.tup (xE e))) (_:Wf e) (_:((∃way d who t,e= .enter way d who t)\/∃m d t,e= .reply m d t)) (_:y8 H ra rs R) (_:R.length<=60) (_:∀ (H':Hp)(a:Ans)(v:V)(R':Rows)(rs':List Nat),aQW ra rs rs' H H'->y8 H' ra rs' R'->(∀S,xV R S e a R' S)->wY [] H' a v->uH H v->Q v H')
def aV6{H:Hp}{g:Nat}{p:List Nat}{R:Rows}(h:y8 H g p R){r:Row}(Q:r.copies= []){f b:Nat}(v:H f=none)(G:upd H f (.lst []) b=none): y8 (upd (upd (upd H f (.lst [])) b (.lst (uC r f))) g (.lst ((p++ [b]).map V.ref))) g (p++ [b]) (R++ [r])/\aQW g p (p++ [b]) H (upd (upd (upd H f (.lst [])) b (.lst (uC r f))) g (.lst ((p++ [b]).map V.ref))):=by
 have M:=yG v (.lst []);have T:=yG G (.lst (uC r f));have F:=M.trans T;have m:H b=none:=M.fresh G;have w:b≠g:=λz=>by rw[z,h.lst]at m;cases m
 have I:f≠g:=λz=>by rw[z,h.lst]at v;cases v
 have K:f≠b:=λz=>by rw[<- z,yB]at G;cases G
 have O:b∉p:=λz=>by obtain⟨o,e⟩:=h.dom b z;rw[m]at e;cases e
 have rne:∀ {a r' d},H a=some (.lst (uC r' d))->a≠g:=λq z=>by rw[z,h.lst]at q;exact aQw (bY3 q).symm
 refine⟨⟨yB,by simp[h.len],?_,λi c q j k=>?_⟩,λx o n e=>?_,λc t=>?_,λs u e n c t l E=>?_⟩
 ·exact cZa.mpr ⟨h.nd,cQ5 _ _,λa U c v z=>O (by rw[<- bYY.mp v,<- z];exact U)⟩
 ·by_cases A:i<R.length
  ·rw[cQd (by rw[h.len];exact A)]at j;rw[cQd A]at k;obtain⟨d,D,C⟩:=h.row i c q j k;have L:d≠g:=λz=>by
    rw[z,h.lst]at C;have hl:=congrArg cZe (HO.lst.inj (bY3 C));have:=bY0 j;cases p with
    |nil=>cases this
    |cons x W=>
     cases B:q.copies with
     |nil=>rw[B]at hl;simp at hl
     |cons y X=>rw[B]at C;have:=HO.lst.inj (bY3 C);simp at this
   exact⟨d,by rw[yI (rne D)];exact F _ _ D,by rw[yI L];exact F _ _ C⟩
  ·have J:i=R.length:=by
    have:=(bYS.mp k).1;simp at this;omega
   subst J;rw[bY2 (by rw[h.len];exact bYO _),h.len,cQ1]at j;rw[bY2 (bYO _),cQ1]at k;cases j;cases k;exact⟨f,by rw[yI w,yB];rfl,by rw[yI I,yI K,yB,Q];rfl⟩
 ·have P:x≠g:=λz=>n (by rw[z];exact bYW);rw[yI P];exact F _ _ e
 ·rcases cQm.mp t with z|z
  ·exact .inl z
  ·exact .inr (by rw[bYY.mp z];exact m)
 ·rcases cQm.mp t with z|z
  ·have z2:c≠g:=λy=>by
    obtain⟨i,A,S⟩:=cQy z;obtain⟨d,D,_⟩:=h.row i c _ (by rw[bYG A,S]) (bYG (show i<R.length by rw[<- h.len];exact A));exact rne D y
   obtain⟨o,N⟩:=h.dom c z;rw[yI z2,F _ _ N]at E;exact n c z l (by rw[N];exact E)
  ·rw[bYY.mp z,yI w,yB]at E;cases E;intro y;have:f=s:=by injection y with y;injection y
   rw[<- this,v]at e;cases e
section
variable {K:bYI}
def uI:cQq "int"=some (.type "int"):=dk
def aW5:yO ["_law_rows","_law_deed","_law_way","_law_date","_law_partner","_law_link","_law_place","_law_one"] ["_law_rows","_law_deed"] (yH aXK):=scM
def aWK(T:vD mg)(a8:mg "int"=none)(D:FnG P w K mg base 2 "_law_good" ["_law_rows","_law_number"] Z9)(F:Fun K "_law_entered" "_law_entered" aXK f fd):xD P w K mg base CX0 3 f fd ["_law_rows","_law_deed"] aQN:=by
 have sc:=aW5;refine F.ok (k:=2) sc (λb7 A outer s H vs Q E hr h=>?_);obtain⟨O,o,W,R,e,rfl,y,b1,p,G,hR,q⟩:=h;refine⟨_,(yC (uB (xI (yA (yL yX (pv 1) yE) (yA (yL yX (pv 1) yE) (yA (yL yX (pv 1) yE) (yA x2 (yA yQ yD)))))) (aYy rfl (zU (xB (i:=2)) (zU (xB (i:=3)) (zU (xB (i:=4)) (zU (xB (i:=5)) (zU (xB (i:=6)) aJG))))))) (yC (y0 (yM zB (pv 2) yQ) (yC (y0 (wA (xQ (xK D hr rfl (yA (pv 0) (yA (yL yX (pv 1) yE) yD))))) (yF (yP yQ)) yS) (yC (yU (i:=7) (yL yK (pv 0) (yL yX (pv 1) yE))) (yC (yU (i:=2) (yL yK (y6 (yA yQ (yA yQ yD))) (x8 w8 rfl a8 uI (yA (zG zB (yL yK (pv 7) yE) yQ) yD)))) (yF (uB (xI (yA (yL yX (pv 1) yE) (yA (yL yK (pv 7) yE) (yA (yL yX (pv 1) yE) (yA (yL yK (pv 7) yE) yD))))) (aYy rfl (zU (xB (i:=3)) (zU (xB (i:=4)) (zU (xB (i:=5)) (zU (xB (i:=6)) aJG)))))))))) yS) (yC (y0 (yM vF (yL yX (pv 1) yE) yE) (yF (yP yQ)) yS) (yC (y0 (PW.pt (vM (yM wC (pv 5) x2) (wQ (yM vF (pv 3) (yL yK (yL yK (pv 0) (pv 5)) yE))))) (yF (yP yQ)) yS) (yC (yY (uF cQj cQo cQp xL (pv 0) (yA (y6 (yA (pv 2) (yA (pv 3) (yA (pv 4) (yA (yL yX (pv 1) yE) (yA (pv 5) (yA (pv 6) (yA wP (yA (y6 yD) yD))))))))) yD))) (yF (yP (yV vA (yT yN rfl T.b_len y9 (yA (pv 0) yD)) yE)))))))),?_⟩;have h0:∃a b c,(xE e)[0]? =some (.str a)/\(xE e)[1]? =some (.int b)/\(xE e)[2]? =some c/\a=Desk.aWl e:=by
  rcases p with⟨g,d,l,t,rfl⟩|⟨m,d,t,rfl⟩
  ·exact⟨_,_,_,rfl,rfl,rfl,rfl⟩
  ·exact⟨_,_,_,rfl,rfl,rfl,rfl⟩
 obtain⟨N,b0,J,d0,d1,d2,ea⟩:=h0;refine⟨_,rfl,o,_,0,_,rfl,rfl,SqT.of y,yR (j:=0) d0,_,rfl,o,_,1,_,rfl,rfl,SqT.of y,yR (j:=1) d1,_,rfl,o,_,2,_,rfl,rfl,SqT.of y,yR (j:=2) d2,z5,λtp b5=>?_⟩;have X:=yG b5 (.tup [.str N,.int b0,J,.non,.str ""]);refine⟨tp,[.str N,.int b0,J,.non,.str ""],rfl,SqT.of yB,rfl,.str N,[.int b0,J,.non,.str ""],rfl,.int b0,[J,.non,.str ""],rfl,J,[.non,.str ""],rfl,.non,[.str ""],rfl,.str "",[],rfl,rfl,?_⟩;generalize upd H tp (.tup [.str N,.int b0,J,.non,.str ""])=H1 at X ⊢;dsimp only[yW];refine zE (λv H'=>∃ (g l place:Str)(d t:Int)(lk:Option Nat)(o7:Option V),v= [some (.ref O),some (.ref o),some (.str g),some (.int d),some (.str l),some (wO lk),some (.str place),o7]/\xA H H'/\(xE e)[3]? =some (.int t)/\(∀k,lk=some k->k<R.length)/\
  (t<0->∀S,xV R S e (.txt "no term") R S)/\(0<=t->(∃k,lk=some k/\d<Bk.dt R k)->∀S,xV R S e (.txt "too early") R S)/\(0<=t->(∀k,lk=some k->Bk.dt R k<=d)->∀S,xV R S e (.num R.length) (R++ [⟨g,d,l,t,lk,place,false,[]⟩]) S)) ?jW (λn=>?_)
 case jW=>
  rintro v H2 ⟨g,l,place,d,t,lk,o7,rfl,B,d3,a9,t1,t2,t3⟩;have u:=G.same B;have a1:=B _ _ y;have stay:∀ {H3:Hp} {x:Str},xA H H3->(∀S,xV R S e (.txt x) R S)->Q (.str x) H3:=λ{H3 x} k dn=>q H3 (.txt x) _ R W (But.of G.dom k).step (G.same k) dn rfl (λ_ z=>nomatch z);refine⟨_,rfl,o,_,3,_,rfl,rfl,SqT.of a1,yR (j:=3) d3,_,_,rfl,rfl,_,rfl,?_⟩;refine qF (λc=>?_) (λc=>?_)
  ·exact stay B (t1 (of_decide_eq_true c))
  have ht:0<=t:=by have:=of_decide_eq_false (Bool.eq_false_iff.mpr c);omega
  dsimp only[aKh];refine zE (λv H'=>v= [some (.ref O),some (.ref o),some (.str g),some (.int d),some (.str l),some (wO lk),some (.str place),o7]/\H'=H2/\∀k,lk=some k->Bk.dt R k<=d) ?rest2 (λn=>?_);case rest2=>
   rintro v H' ⟨rfl,rfl,Y⟩;refine⟨_,rfl,.inl ⟨rfl,_,SqL.of u.lst⟩,_,rfl,_,rfl,_,rfl,_,rfl,o,_,3,_,rfl,rfl,SqT.of a1,yR (j:=3) d3,_,rfl,_,rfl,z0,λcp a4=>⟨zn (by show 8<=100000;omega),λb hb=>?_⟩⟩;have hE:=aV6 u (r:=⟨g,d,l,t,lk,place,false,[]⟩) rfl a4 hb;have k3:=(yG a4 (.lst [])).trans (yG hb (.lst (uC ⟨g,d,l,t,lk,place,false,[]⟩ cp)));refine⟨O,_,_,rfl,rfl,k3 _ _ u.lst,zlt (by rw[bYL,G.len];omega),?_⟩;have el:W.map V.ref++ [V.ref b]=(W++ [b]).map V.ref:=by simp
   rw[el];refine⟨_,rfl,O,_,rfl,.inl (SqL.of yB),?_⟩;refine⟨_,_,rfl,rfl,?_⟩;have en:(((((W++ [b]).map V.ref).length:Nat):Int) - 1)=(R.length:Int):=by rw[bYL,bY5,G.len];simp
   show Q (V.int _) _;rw[en];exact q _ (.num R.length) _ _ _ (hE.2.pre G.dom B) hE.1 (t3 ht Y) rfl (λ_ z=>nomatch z)
  cases lk with
  |none=>exact⟨_,rfl,rfl,_,rfl,onF rfl (onF rfl (n _ _ ⟨rfl,rfl,λk z=>nomatch z⟩))⟩
  |some j=>
   have b4:=a9 j rfl;have L:=bYG b4;obtain⟨bj,j1,j2,cj,j3,j4⟩:=u.get L;refine⟨_,rfl,rfl,_,rfl,onT rfl ⟨_,rfl,_,rfl,_,rfl,O,_,_,_,rfl,rfl,SqL.of u.lst,yR j1,bj,_,1,_,rfl,rfl,SqL.of j3,rfl,_,_,rfl,rfl,_,rfl,?_⟩⟩;cases a7:decide (d<R[j].date)with
   |true=>exact onT rfl (stay B (t2 ht ⟨j,rfl,by rw[Bk.vE L];exact of_decide_eq_true a7⟩))
   |false=>exact onF rfl (n _ _ ⟨rfl,rfl,λi U=>by cases U;rw[Bk.vE L];have:=of_decide_eq_false a7;omega⟩)
 refine⟨_,rfl,rfl,_,rfl,?_⟩;rcases p with⟨g,d,l,t,rfl⟩|⟨m,d,t,rfl⟩
 ·have Z:g="in"\/g="out":=b1;obtain rfl:N=g:=by cases d0;rfl
  obtain rfl:b0=d:=by cases d1;rfl
  obtain rfl:J= .str l:=by cases d2;rfl
  refine onF (by rcases Z with rfl|rfl<;> decide) ?_;exact n _ _ ⟨N,l,"",b0,t,none,none,rfl,X,rfl,(λk z=>nomatch z),(λh S=> .enterT h),(λh ⟨k,z,_⟩=>nomatch z),λh _ S=> .enter h⟩
 ·obtain rfl:N="reply":=by cases d0;rfl
  obtain rfl:b0=m:=by cases d1;rfl
  obtain rfl:J= .int d:=by cases d2;rfl
  refine onT rfl ?_;have M:H1 o=some (.tup [.str "reply",.int b0,.int d,.int t]):=X _ _ y;have C:=G.same X;refine⟨_,rfl,_,rfl,o,_,1,_,rfl,rfl,SqT.of M,rfl,O,W,R,b0,rfl,C,_,rfl,?_⟩;cases Y:Bk.wN R b0 with
  |false=>exact onT rfl (q H1 (.txt "no letter") _ R W (But.of G.dom X).step C (λS=> .replyN Y) rfl (λ_ z=>nomatch z))
  |true=>
  obtain⟨i,r,rfl,b2,U,hv⟩:=Bk.wF Y;obtain⟨b,g1,g2,cp,g3,g4⟩:=C.get U;refine onF rfl ⟨_,rfl,_,rfl,o,_,1,_,rfl,rfl,SqT.of M,rfl,O,_,_,_,rfl,rfl,SqL.of C.lst,yR g1,?_⟩;dsimp only[yW];refine⟨z2,λl2 a2=>⟨_,rfl,b,_,0,_,rfl,rfl,SqL.of (yG a2 (.lst [.str "in",.str "out"]) _ _ g3),rfl,rfl,.inr ⟨_,rfl,?_⟩⟩⟩;have B:=yG a2 (.lst [.str "in",.str "out"]);have a3:=X.trans B;have I:upd H1 l2 (.lst [.str "in",.str "out"]) l2=some (.lst [.str "in",.str "out"]):=yB;generalize upd H1 l2 (.lst [.str "in",.str "out"])=H3 at B a3 I ⊢;have b6:atI [V.str "in",V.str "out"] (if decide (V.str r.way=V.str "in")=true then 1 else 0)=some (.str (Bk.uP r.way)):=by
   rw[wW];unfold Bk.uP;by_cases z:r.way="in"
   ·rw[if_pos z,decide_eq_true z];rfl
   ·rw[if_neg z,decide_eq_false z];rfl
  have a6:=B _ _ M;have a5:=B _ _ g3;refine⟨l2,_,_,_,rfl,rfl,SqL.of I,b6,?_⟩;dsimp only[yW];refine⟨_,rfl,o,_,2,_,rfl,rfl,SqT.of a6,rfl,_,rfl,b,_,2,_,rfl,rfl,SqL.of a5,rfl,_,rfl,o,_,1,_,rfl,rfl,SqT.of a6,rfl,_,rfl,b,_,5,_,rfl,rfl,SqL.of a5,rfl,z4,λt4 b3=>?_⟩;have k4:=yG b3 (.tup [.int d,.str r.partner,.int (i:Nat),.str r.place]);refine⟨t4,[.int d,.str r.partner,.int (i:Nat),.str r.place],rfl,SqT.of yB,rfl,.int d,[.str r.partner,.int (i:Nat),.str r.place],rfl,.str r.partner,[.int (i:Nat),.str r.place],rfl,.int (i:Nat),[.str r.place],rfl,.str r.place,[],rfl,rfl,?_⟩;refine n _ _ ⟨Bk.uP r.way,r.partner,r.place,d,t,some i,_,rfl,a3.trans k4,rfl,(λk z=>by cases z;exact b2),(λh S=> .replyT Y h),(λh ⟨k,z,y⟩ S=>?_),(λh y S=>?_)⟩
  ·cases z;rw[Bk.vE U]at y;exact .replyE U hv h y
  ·have:=y i rfl;rw[Bk.vE U]at this;exact .reply U hv h this
end
end Law
namespace Law
open PySem L2 PyProof.Rows
open Bk (Row Rows xV xS Ans)
open Desk (xE wY uH Wf wT)
abbrev bVB:Stmt:=xC "_law_with_one"
def y8.tupNo{H:Hp}{d:Nat}{c:List Nat}{R:Rows}(h:y8 H d c R){x:Nat}{ys:List V}(e:H x=some (.tup ys)):x∉c:=λz=>by
 obtain⟨i,a,f⟩:=cQy z;obtain⟨g,b,_⟩:=h.row i x _ (by rw[bYG a,f]) (bYG (show i<R.length by rw[<- h.len];exact a));rw[e]at b;cases b
def aJa{H:Hp}{m:Nat}{g:List Nat}{R:Rows}{k:Nat}{b:Nat}{r:Row}(h:y8 H m g R)(p:g[k]? =some b)(A:R[k]? =some r){v a:Nat}(B:H b=some (.lst (uC r v)))(w:List Str)(d:H a=none): y8 (upd (upd H a (.lst (w.map V.str))) b (.lst (uC r a))) m g (Bk.xN R k λr=>{r with copies:=w})/\aQW m g g H (upd (upd H a (.lst (w.map V.str))) b (.lst (uC r a))):=by
 have j:=yG d (.lst (w.map V.str));have t:=h.same j;refine⟨t.upd p A (λr=>{r with copies:=w}) yB,λx o n e=>?_,λc i=> .inl i,λs u e n c i l f=>?_⟩
 ·rw[yI (λz=>n (bYT _ (by rw[z];exact bY0 p)))];exact j _ _ e
 ·by_cases z:c=b
  ·subst z;rw[yB]at f;cases f;intro y;have:a=s:=by injection y with y;injection y
   rw[<- this,d]at e;cases e
  ·rw[yI z]at f;obtain⟨o,q⟩:=h.dom c i;rw[j _ _ q]at f;exact n c i l (by rw[q];exact f)
def qY(e:xS)(m:Int):Prop:=e= .loose m\/(∃d,e= .date m d)\/(∃t,e= .term m t)\/(∃w,e= .copy m w)\/(∃w,e= .file m w)\/e= .void m
inductive bQy(vs:List V)(H:Hp)(Q:VK)(_:XK):Prop|mk (ra da:Nat) (rs:List Nat) (R:Rows) (e:xS) (m:Int) (_:vs= [.ref ra,.ref da]) (_:H da=some (.tup (xE e))) (_:qY e m) (_:y8 H ra rs R) (_:R.length<=60) (_:Bk.qV R) (_:(∀r∈R,r.copies.length<=1000)) (_:∀ (H':Hp)(a:Ans)(v:V)(R':Rows),aQW ra rs rs H H'->y8 H' ra rs R'->(∀S,xV R S e a R' S)->wY [] H' a v->uH H v->Q v H')
def qY.at1{e:xS}{m:Int}(h:qY e m):(xE e)[1]? =some (.int m):=by
 rcases h with rfl|⟨d,rfl⟩|⟨d,rfl⟩|⟨d,rfl⟩|⟨d,rfl⟩|rfl<;> rfl
def qY.no{e:xS}{m:Int}{R:Rows}(h:qY e m)(g:Bk.wN R m=false)(S:List Int):xV R S e (.txt "no letter") R S:=by
 refine .oneN g ?_;rcases h with rfl|⟨d,rfl⟩|⟨d,rfl⟩|⟨d,rfl⟩|⟨d,rfl⟩|rfl<;> simp
section
variable {K:bYI}
def bVR:yO ["_law_rows","_law_deed","_law_one","_law_numbers","_law_k","_law_row"] ["_law_rows","_law_deed"] (yH bVB):=scM
def bVb(T:vD mg)(W:FnG P w K mg base 2 "_law_good" ["_law_rows","_law_number"] Z9)(J:FnG P w K mg base 2 "_law_dated" ["_law_rows","_law_number","_law_date"] bQl)(X:FnG P w K mg base 2 "_law_lost" ["_law_rows","_law_number"] bJc) (G:FnG P w K mg base 2 "_law_family" ["_law_rows","_law_number"] jG) (F:Fun K "_law_with_one" "_law_with_one" bVB f fd):xD P w K mg base CX0 3 f fd ["_law_rows","_law_deed"] bQy:=by
 have sc:=bVR;refine F.ok (k:=2) sc (λc5 A outer s H vs Q E hr h=>?_);obtain⟨U,l,Y,R,e,m,rfl,n,B,y,hR,a2,a4,q⟩:=h;refine⟨_,(yC (y0 (wA (xQ (xK W hr rfl (yA (pv 0) (yA (yL yX (pv 1) yE) yD))))) (yF (yP yQ)) yS) (yC (yU (i:=2) (yL yK (pv 0) (yL yX (pv 1) yE))) (yC (y0 (yM zB (yL yX (pv 1) yE) yQ) (yF (yP (xK J hr rfl (yA (pv 0) (yA (yL yX (pv 1) yE) (yA (yL yX (pv 1) yE) yD)))))) yS) (yC (y0 (yM zB (yL yX (pv 1) yE) yQ) (yF (yP (xK X hr rfl (yA (pv 0) (yA (yL yX (pv 1) yE) yD))))) yS) (yC (y0 (yM zB (yL yX (pv 1) yE) yQ) (yC (y0 (yM aQp (yL yK (pv 2) yE) x2) (yF (yP yQ)) yS) (yC (uB x2 (qS (pv 2) yE zX)) (yF (yP yQ)))) yS) (yC (y0 (yM zB (yL yX (pv 1) yE) yQ) (yC (y0 (yM vF (yL yX (pv 1) yE) yE) (yF (yP yQ)) yS) (yC (uB (yL yX (pv 1) yE) (qS (pv 2) yE zX)) (yF (yP yQ)))) yS) (yC (y0 (yM zB (yL yX (pv 1) yE) yQ) (yC (y0 (PW.pt (vG (yM zB (yL yX (pv 1) yE) (yL yK (pv 2) yE)) (wM (yM wL (yL yX (pv 1) yE) (yL yK (pv 2) yE))))) (yF (yP yQ)) yS) (yC (uB (yV aVs (yL yK (pv 2) yE) (y6 (yA (yL yX (pv 1) yE) yD))) (qS (pv 2) yE zX)) (yF (yP (yT yN rfl T.b_len y9 (yA (yL yK (pv 2) yE) yD)))))) yS) (yC (yU (i:=3) (xK G hr rfl (yA (pv 0) (yA (yL yX (pv 1) yE) yD)))) (yC (zN cQv rfl (xM (pv 3)) (xB (i:=4)) (yC (yU (i:=5) (yL yK (pv 0) (pv 4))) (yF (uB (yL yX (pv 1) yE) (qS (pv 5) yE zX))))) (yF (yP (yT yN rfl T.b_len y9 (yA (pv 3) yD))))))))))))),?_⟩;have b3:aQW U Y Y H H:=(But.of y.dom (xA.refl _)).step;have txt:∀ {x:Str},(∀S,xV R S e (.txt x) R S)->Q (.str x) H:=λ{x} dn=>q H (.txt x) _ R b3 y dn rfl (λ_ z=>nomatch z);refine⟨_,rfl,_,rfl,l,_,1,_,rfl,rfl,SqT.of n,yR (j:=1) B.at1,U,Y,R,m,rfl,y,_,rfl,?_⟩;cases h1:Bk.wN R m with
 |false=>exact onT rfl (txt λS=>B.no h1 S)
 |true=>
 obtain⟨i,r,rfl,a7,u,D⟩:=Bk.wF h1;obtain⟨b,g1,g2,cp,O,g4⟩:=y.get u;refine onF rfl ⟨_,rfl,_,rfl,l,_,1,_,rfl,rfl,SqT.of n,yR (j:=1) B.at1,U,_,_,_,rfl,rfl,SqL.of y.lst,yR g1,?_⟩;dsimp only[yW];have b0:∀j,r.link=some j->j<R.length:=λj hj=>by obtain⟨p,hp,_⟩:=a2.ans i j r u hj;exact(bYS.mp hp).1
 have up:∀ {x:Str} (g:Row->Row),(∀r,(g r).copies=r.copies)->(∀S,xV R S e (.txt x) (Bk.xN R i g) S)->Q (.str x) (upd H b (.lst (uC (g r) cp))):=λ{x} g hg dn=>
  q _ (.txt x) _ _ (But.upd (l':=uC (g r) cp) y.dom g2 O rfl).step (y.upd g2 u g (by rw[hg];exact g4)) dn rfl (λ_ z=>nomatch z)
 rcases B with rfl|⟨d,rfl⟩|⟨t,rfl⟩|⟨o,rfl⟩|⟨Z,rfl⟩|rfl
 ·refine⟨_,rfl,l,_,0,_,rfl,rfl,SqT.of n,rfl,rfl,_,rfl,onF (by decide) ⟨_,rfl,l,_,0,_,rfl,rfl,SqT.of n,rfl,rfl,_,rfl,onF (by decide) ⟨_,rfl,l,_,0,_,rfl,rfl,SqT.of n,rfl,rfl,_,rfl,onT (by decide) ⟨_,rfl,b,_,4,_,rfl,rfl,SqL.of O,rfl,rfl,_,rfl,?_⟩⟩⟩⟩;cases a3:r.link with
  |none=>exact onT rfl (txt λS=> .looseN u D a3)
  |some j=>refine onF rfl ⟨_,rfl,b,_,4,4,rfl,rfl,O,rfl,?_⟩;exact up (λr=>{r with link:=none}) (λ_=>rfl) λS=> .loose u D (by rw[a3];simp)
 ·refine⟨_,rfl,l,_,0,_,rfl,rfl,SqT.of n,rfl,rfl,_,rfl,onT (by decide) ⟨_,rfl,_,rfl,l,_,1,_,rfl,rfl,SqT.of n,rfl,_,rfl,l,_,2,_,rfl,rfl,SqT.of n,rfl,U,Y,R,i,r,d,rfl,y,by omega,u,b0,λH' a R' M a0 N=>?_⟩⟩;refine q H' (.txt a) _ R' M.step a0 (λS=>?_) rfl (λ_ z=>nomatch z);rcases N with⟨he,rfl,rfl⟩|⟨he,rfl,rfl⟩
  ·exact .dateE u D he
  ·refine .date u D (λj hj=>?_) (λc N=>?_)
   ·exact cZy.mp λz=>he (.inl ⟨j,hj,z⟩)
   ·exact cZy.mp λz=>he (.inr ⟨c,N,z⟩)
 ·refine⟨_,rfl,l,_,0,_,rfl,rfl,SqT.of n,rfl,rfl,_,rfl,onF (by decide) ⟨_,rfl,l,_,0,_,rfl,rfl,SqT.of n,rfl,rfl,_,rfl,onF (by decide) ⟨_,rfl,l,_,0,_,rfl,rfl,SqT.of n,rfl,rfl,_,rfl,onF (by decide) ⟨_,rfl,l,_,0,_,rfl,rfl,SqT.of n,rfl,rfl,_,rfl,onT (by decide) ⟨_,rfl,l,_,2,_,rfl,rfl,SqT.of n,rfl,_,_,rfl,rfl,_,rfl,?_⟩⟩⟩⟩⟩;refine qF (λc=>?_) (λc=>?_)
  ·exact txt λS=> .termN u D (of_decide_eq_true c)
  ·refine⟨_,rfl,l,_,2,_,rfl,rfl,SqT.of n,rfl,_,rfl,b,_,3,3,rfl,rfl,O,rfl,?_⟩;exact up (λr=>{r with term:=t}) (λ_=>rfl) λS=> .term u D (by have:=of_decide_eq_false (Bool.eq_false_iff.mpr c);omega)
 ·refine⟨_,rfl,l,_,0,_,rfl,rfl,SqT.of n,rfl,rfl,_,rfl,onF (by decide) ⟨_,rfl,l,_,0,_,rfl,rfl,SqT.of n,rfl,rfl,_,rfl,onF (by decide) ⟨_,rfl,l,_,0,_,rfl,rfl,SqT.of n,rfl,rfl,_,rfl,onF (by decide) ⟨_,rfl,l,_,0,_,rfl,rfl,SqT.of n,rfl,rfl,_,rfl,onF (by decide) ⟨_,rfl,l,_,0,_,rfl,rfl,SqT.of n,rfl,rfl,_,rfl,onT (by decide) ⟨_,rfl,l,_,2,_,rfl,rfl,SqT.of n,rfl,_,rfl,b,_,2,_,rfl,rfl,SqL.of O,rfl,rfl,_,rfl,?_⟩⟩⟩⟩⟩⟩;rw[wW];cases a8:decide (o=r.partner)with
  |true=>exact onT rfl (onT rfl (txt λS=> .copyC u D (.inl (of_decide_eq_true a8))))
  |false=>
  refine onF rfl ⟨_,rfl,l,_,2,_,rfl,rfl,SqT.of n,rfl,_,rfl,b,_,7,_,rfl,rfl,SqL.of O,rfl,cp,_,rfl,.inl (SqL.of g4),rfl,cZR.mpr (λv D=>by obtain⟨x,_,rfl⟩:=cQH.mp D;rfl),?_⟩;rw[if_neg (by decide),wT];refine⟨_,rfl,?_⟩;cases a6:r.copies.contains o with
  |true=>exact onT rfl (txt λS=> .copyC u D (.inr (by simpa using a6)))
  |false=>
  have c1:r.copies.length<=1000:=a4 r (bY0 u);refine onF rfl ⟨_,rfl,b,_,7,_,rfl,rfl,SqL.of O,rfl,_,rfl,l,_,2,_,rfl,rfl,SqT.of n,rfl,z1,λl1 b7=>?_⟩;have k1:=yG b7 (.lst [.str o]);refine⟨cp,l1,_,_,rfl,rfl,k1 _ _ g4,yB,by rw[bYL,cQg];simp;omega,λc2 C=>?_⟩;have a1:=aJa (y.same k1) g2 u (k1 _ _ O) (r.copies++ [o]) C;have e5:r.copies.map V.str++ [V.str o]=(r.copies++ [o]).map V.str:=by simp
  rw[e5];have k2:=yG C (.lst ((r.copies++ [o]).map V.str));have b2:c2≠b:=λz=>by rw[z,k1 _ _ O]at C;cases C
  refine⟨_,rfl,b,_,7,7,rfl,rfl,k2 _ _ (k1 _ _ O),rfl,?_⟩;refine⟨_,rfl,b,_,7,_,rfl,rfl,SqL.of yB,rfl,c2,(r.copies++ [o]).map V.str,rfl,.inl (SqL.of (by rw[yI b2];exact yB)),?_⟩;have en:(((((r.copies++ [o]).map V.str).length:Nat)):Int)=(r.copies.length+1:Nat):=by simp
  rw[en];have hE:Bk.xN R i (λq=>{q with copies:=r.copies++ [o] })=Bk.xN R i (λq=>{q with copies:=q.copies++ [o] }):=by unfold Bk.xN;rw[u]
  rw[hE]at a1;exact q _ (.num _) _ _ (a1.2.pre y.dom k1) a1.1 (λS=> .copy u D (of_decide_eq_false a8) (by simpa using a6)) rfl (λ_ z=>nomatch z)
 ·obtain⟨rk,ok⟩:=a2.tree;refine⟨_,rfl,l,_,0,_,rfl,rfl,SqT.of n,rfl,rfl,_,rfl,onF (by decide) ⟨_,rfl,l,_,0,_,rfl,rfl,SqT.of n,rfl,rfl,_,rfl,onF (by decide) ⟨_,rfl,l,_,0,_,rfl,rfl,SqT.of n,rfl,rfl,_,rfl,onF (by decide) ⟨_,rfl,l,_,0,_,rfl,rfl,SqT.of n,rfl,rfl,_,rfl,onF (by decide) ⟨_,rfl,l,_,0,_,rfl,rfl,SqT.of n,rfl,rfl,_,rfl,onF (by decide) ⟨_,rfl,_,rfl,l,_,1,_,rfl,rfl,SqT.of n,rfl,U,Y,R.length,Bk.lk R,rk,Bk.dt R,i,rfl,y.rows,ok,hR,a7,λH2 l2 c0 k2 c3 a9 b4 a5=>?_⟩⟩⟩⟩⟩⟩;have b9:=Bk.aXl a7 ⟨rk,ok,b4,a5⟩;subst b9;dsimp only[yW];have b1:=y.same k2;have b6:H2 l=some (.tup [.str "file",.int (i:Nat),.str Z]):=k2 _ _ n;have b8:=y.tupNo n;refine⟨_,rfl,l2,rfl,⟨_,SqL.of a9⟩,?_⟩;refine zO (xs:=(Bk.thr R i).map λi=>V.int (i:Nat)) (λt σ H3=>∃o5 o6:Option V,σ= [some (.ref U),some (.ref l),some (.ref b),some (.ref l2),o5,o6]/\y8 H3 U Y (Bk.laid R ((Bk.thr R i).take t) Z)/\But Y H2 H3/\H3 l2=some (.lst ((Bk.thr R i).map λi=>V.int (i:Nat)))) ?_ ?_ ?_ ?_
  ·exact⟨none,none,rfl,b1,But.of b1.dom (xA.refl _),a9⟩
  ·rintro t σ H3 ht ⟨o5,o6,rfl,I,k3,L⟩;exact SqL.of L
  ·rintro t x σ H3 hx ⟨o5,o6,rfl,I,k3,L⟩;rw[bY1]at hx;cases N:(Bk.thr R i)[t]? with
   |none=>rw[N]at hx;cases hx
   |some k=>rw[N]at hx;cases hx;have b5:k<R.length:=((a5 k).mp (bY0 N)).1;obtain⟨bk,ck,c4,e1,e2,e3,e4,e5,e6⟩:=aVn (K:=K) I N b5 L;dsimp only[yW];refine⟨_,rfl,_,rfl,U,_,_,_,rfl,rfl,SqL.of I.lst,yR e1,?_⟩;dsimp only[yW];exact⟨_,rfl,l,_,2,_,rfl,rfl,SqT.of (k3.1 _ _ b8 b6),rfl,_,rfl,bk,_,5,5,rfl,rfl,e2,rfl,_,_,rfl,e3,k3.trans e4,e5⟩
  ·rintro σ H3 ⟨o5,o6,rfl,I,k3,L⟩;rw[bYL,cQI]at I;refine⟨_,rfl,l2,_,rfl,.inl (SqL.of L),?_⟩;rw[bYL];exact q _ (.num _) _ _ (((But.of y.dom k2).trans k3).step) I (λS=> .file u D) rfl (λ_ z=>nomatch z)
 ·refine⟨_,rfl,l,_,0,_,rfl,rfl,SqT.of n,rfl,rfl,_,rfl,onF (by decide) ⟨_,rfl,l,_,0,_,rfl,rfl,SqT.of n,rfl,rfl,_,rfl,onT (by decide) ⟨_,rfl,_,rfl,l,_,1,_,rfl,rfl,SqT.of n,rfl,U,Y,R,i,r,rfl,y,by omega,u,λH' a R' M a0 N=>?_⟩⟩⟩;refine q H' (.txt a) _ R' M.step a0 (λS=>?_) rfl (λ_ z=>nomatch z);rcases N with⟨he,rfl,rfl⟩|⟨he,rfl,rfl⟩
  ·exact .voidA u D he
  ·exact .void u D he
end
end Law
namespace Law
open PySem L2 PyProof.Rows
open Bk (Row Rows xV xS Ans)
open Desk (xE wY uH Wf wT stV)
abbrev aYW:Stmt:=xC "_law_told_of"
def aKn(e:xS):Prop:=(∃m,e= .state m)\/(∃m,e= .thread m)\/(∃m,e= .copies m)\/(∃w,e= .letters w)\/∃a d,e= .on a d
inductive bQv(vs:List V)(H:Hp)(Q:VK)(_:XK):Prop|mk (ra sa da:Nat) (rs:List Nat) (R:Rows) (S:List Int) (e:xS) (_:vs= [.ref ra,.ref sa,.ref da]) (_:H da=some (.tup (xE e))) (_:aKn e) (_:y8 H ra rs R) (_:H sa=some (.lst (S.map V.int))) (_:R.length<=60) (_:Bk.qV R) (_:∀ (H':Hp)(a:Ans)(v:V),xA H H'->xV R S e a R S->wY [] H' a v->uH H v->Q v H')
def wZ:cQq "list"=some (.type "list"):=dk
def uX:cQq "tuple"=some (.type "tuple"):=dk
section
variable {K:bYI}
def bVP:yO ["_law_rows","_law_shut","_law_deed","_law_here"] ["_law_rows","_law_shut","_law_deed"] (yH aYW):=scM
def bXc:xJ ["_law_rows","_law_shut","_law_deed","_law_here"] (yH aYW) "_law_k" ["_law_rows"] [0] (lsN [(".0",.local),("_law_k",.local),("_law_rows",.free)]):=
 lcM
def bXd:xJ ["_law_rows","_law_shut","_law_deed","_law_here"] (yH aYW) "_law_k" ["_law_deed","_law_rows"] [2,0] (lsN [(".0",.local),("_law_k",.local),("_law_deed",.free),("_law_rows",.free)]):=
 lcM
def Z0(R:Rows)(w:Str):V->Bool
 |.int n=>match R[n.toNat]? with|some r=>decide (r.place=w)|none=>false
 |_=>false
def bJ9(T:vD mg)(a1:mg "list"=none)(a5:mg "tuple"=none)(O:FnG P w K mg base 2 "_law_good" ["_law_rows","_law_number"] Z9)(u:FnG P w K mg base 3 "_law_list_on" ["_law_rows","_law_shut","_law_date","_law_late"] aVR) (G:FnG P w K mg base 2 "_law_family" ["_law_rows","_law_number"] jG) (F:Fun K "_law_told_of" "_law_told_of" aYW f fd):xD P w K mg base CX0 4 f fd ["_law_rows","_law_shut","_law_deed"] bQv:=by
 have sc:=bVP;refine F.ok (k:=3) sc (λc0 A outer s H vs Q E hr h=>?_);obtain⟨B,sa,g,Y,R,S,e,rfl,y,a6,L,b6,hR,a7,q⟩:=h;have a4:vP 2 _:=hr.mono (by omega);refine⟨_,(yC (y0 (yM zB (yL yX (pv 2) yE) yQ) (yC (aZH (i:=3) bXc rfl sc.nd rfl rfl (xX rfl T.b_range (yA (yT yN rfl T.b_len y9 (yA (pv 0) yD)) yD)) (λ_ _ _ _ _=>(wV (wA (xQ (yL ixK (yL ixK (pv 1) (pv 0)) yE))))) (λ_ _ _ _ _=>(pv 0))) (yF (yP (W6 bXd rfl (xM (pv 3)) (λ_ _ _ _ _=>(wV (yM zB (yL ixK (yL ixK (pv 2) (pv 0)) yE) (yL ixT (pv 1) yE)))) (λ_ _ _ _ _=>(pv 0)))))) yS) (yC (y0 (yM wL (yL yX (pv 2) yE) (y6 (yA yQ (yA yQ yD)))) (yF (yP (xK u hr rfl (yA (pv 0) (yA (pv 1) (yA (yL yX (pv 2) yE) (yA (zG zB (yL yX (pv 2) yE) yQ) yD))))))) yS) (yC (y0 (wA (xQ (xK O a4 rfl (yA (pv 0) (yA (yL yX (pv 2) yE) yD))))) (yF (yP yQ)) yS) (yC (y0 (yM zB (yL yX (pv 2) yE) yQ) (yF (yP (xK G a4 rfl (yA (pv 0) (yA (yL yX (pv 2) yE) yD))))) yS) (yC (y0 (yM zB (yL yX (pv 2) yE) yQ) (yF (yP (x8 uJ rfl a1 wZ (yA (yL yK (yL yK (pv 0) (yL yX (pv 2) yE)) yE) yD)))) yS) (yF (yP (x8 qJ rfl a5 uX (yA (aXE aJ7 (yL yK (pv 0) (yL yX (pv 2) yE)) aJI (aJJ yE)) yD))))))))),?_⟩;have txt:∀ {C:Hp} {x:Str},xA H C->xV R S e (.txt x) R S->Q (.str x) C:=λ{C x} k dn=>q C (.txt x) _ k dn rfl (λ_ z=>nomatch z);have one:∀ {m:Int} {x:Str},xE e= [.str x,.int m]->True:=λ_=>trivial;rcases a6 with⟨m,rfl⟩|⟨m,rfl⟩|⟨m,rfl⟩|⟨j,rfl⟩|⟨o,d,rfl⟩
 ·refine⟨_,rfl,g,_,0,_,rfl,rfl,SqT.of y,rfl,rfl,_,rfl,onF (by decide) ?_⟩;refine⟨_,rfl,g,_,0,_,rfl,rfl,SqT.of y,rfl,z2,λJ t=>⟨J,_,rfl,.inl (SqL.of yB),rfl,rfl,_,rfl,onF (by decide) ?_⟩⟩;have n:=yG t (.lst [.str "waiting",.str "overdue"]);generalize upd H J (.lst [.str "waiting",.str "overdue"])=H1 at n ⊢;have a:H1 g=some (.tup [.str "state",.int m]):=n _ _ y;have c:=L.same n;refine⟨_,rfl,_,rfl,g,_,1,_,rfl,rfl,SqT.of a,rfl,B,Y,R,m,rfl,c,_,rfl,?_⟩;cases X:Bk.wN R m with
  |false=>exact onT rfl (txt n (.oneN X (by simp)))
  |true=>
  obtain⟨i,r,rfl,M,hi,U⟩:=Bk.wF X;obtain⟨b,g1,g2,cp,W,g4⟩:=c.get hi;refine onF rfl ⟨_,rfl,g,_,0,_,rfl,rfl,SqT.of a,rfl,rfl,_,rfl,onF (by decide) ⟨_,rfl,g,_,0,_,rfl,rfl,SqT.of a,rfl,rfl,_,rfl,onF (by decide) ?_⟩⟩;refine⟨_,rfl,_,rfl,g,_,1,_,rfl,rfl,SqT.of a,rfl,B,_,_,_,rfl,rfl,SqL.of c.lst,yR g1,_,rfl,b,_,rfl,SqL.of W,λp2 N=>⟨p2,_,rfl,.inl ⟨SqL.of yB,λp3 a3=>?_⟩⟩⟩;have a9:aXr (uC r cp) none (some 6)=stV r:=by unfold stV Desk.W7 Desk.Y3;rw[U];cases a8:r.link<;> (unfold uC;rw[a8];rfl)
  have k2:=yG N (.lst (aXr (uC r cp) none (some 6)));have k3:=yG a3 (.tup (aXr (uC r cp) none (some 6)));exact q _ (.row r) _ ((n.trans k2).trans k3) (.state hi U) ⟨p3,rfl,by simp,by rw[<- a9];exact yB⟩ (.none ((n.trans k2).fresh a3))
 ·refine⟨_,rfl,g,_,0,_,rfl,rfl,SqT.of y,rfl,rfl,_,rfl,onF (by decide) ?_⟩;refine⟨_,rfl,g,_,0,_,rfl,rfl,SqT.of y,rfl,z2,λJ t=>⟨J,_,rfl,.inl (SqL.of yB),rfl,rfl,_,rfl,onF (by decide) ?_⟩⟩;have n:=yG t (.lst [.str "waiting",.str "overdue"]);generalize upd H J (.lst [.str "waiting",.str "overdue"])=H1 at n ⊢;have a:H1 g=some (.tup [.str "thread",.int m]):=n _ _ y;have c:=L.same n;refine⟨_,rfl,_,rfl,g,_,1,_,rfl,rfl,SqT.of a,rfl,B,Y,R,m,rfl,c,_,rfl,?_⟩;cases X:Bk.wN R m with
  |false=>exact onT rfl (txt n (.oneN X (by simp)))
  |true=>
  obtain⟨i,r,rfl,M,hi,U⟩:=Bk.wF X;obtain⟨rk,ok⟩:=a7.tree;refine onF rfl ⟨_,rfl,g,_,0,_,rfl,rfl,SqT.of a,rfl,rfl,_,rfl,onT (by decide) ?_⟩;refine⟨_,rfl,_,rfl,g,_,1,_,rfl,rfl,SqT.of a,rfl,B,Y,R.length,Bk.lk R,rk,Bk.dt R,i,rfl,c.rows,ok,hR,M,λH2 l2 b9 k2 b2 b5 b1 b0=>?_⟩;have b8:=Bk.aXl M ⟨rk,ok,b1,b0⟩;subst b8;exact q _ (.nums (Bk.thr R i)) _ (n.trans k2) (.thread hi U) ⟨l2,rfl,by simp,b5⟩ (.none (n.fresh b2))
 ·refine⟨_,rfl,g,_,0,_,rfl,rfl,SqT.of y,rfl,rfl,_,rfl,onF (by decide) ?_⟩;refine⟨_,rfl,g,_,0,_,rfl,rfl,SqT.of y,rfl,z2,λJ t=>⟨J,_,rfl,.inl (SqL.of yB),rfl,rfl,_,rfl,onF (by decide) ?_⟩⟩;have n:=yG t (.lst [.str "waiting",.str "overdue"]);generalize upd H J (.lst [.str "waiting",.str "overdue"])=H1 at n ⊢;have a:H1 g=some (.tup [.str "copies",.int m]):=n _ _ y;have c:=L.same n;refine⟨_,rfl,_,rfl,g,_,1,_,rfl,rfl,SqT.of a,rfl,B,Y,R,m,rfl,c,_,rfl,?_⟩;cases X:Bk.wN R m with
  |false=>exact onT rfl (txt n (.oneN X (by simp)))
  |true=>
  obtain⟨i,r,rfl,M,hi,U⟩:=Bk.wF X;obtain⟨b,g1,g2,cp,W,g4⟩:=c.get hi;refine onF rfl ⟨_,rfl,g,_,0,_,rfl,rfl,SqT.of a,rfl,rfl,_,rfl,onF (by decide) ⟨_,rfl,g,_,0,_,rfl,rfl,SqT.of a,rfl,rfl,_,rfl,onT (by decide) ?_⟩⟩;refine⟨_,rfl,_,rfl,g,_,1,_,rfl,rfl,SqT.of a,rfl,B,_,_,_,rfl,rfl,SqL.of c.lst,yR g1,b,_,7,_,rfl,rfl,SqL.of W,rfl,cp,_,rfl,.inl (SqL.of g4),λp2 N=>?_⟩;have k2:=yG N (.lst (r.copies.map V.str));exact q _ (.txts r.copies) _ (n.trans k2) (.copies hi U) ⟨p2,rfl,by simp,yB⟩ (.none (n.fresh N))
 ·have b7:H g=some (.tup [.str "letters",.str j]):=y;refine⟨_,rfl,g,_,0,_,rfl,rfl,SqT.of y,rfl,rfl,_,rfl,onT (by decide) ?_⟩;have hl:(Y.map V.ref).length=R.length:=by rw[bYL];exact L.len
  refine⟨_,rfl,B,_,rfl,.inl (SqL.of L.lst),?_⟩;rw[hl];refine⟨_,rfl,by omega,by omega,λD hD=>?_⟩;rw[cQc];refine J2 (λk=>match R[k]? with|some r=> !r.void|none=>false) (λk=>V.int (k:Nat)) hD (by rw[cQg];omega) (λk I C R' Z p=>?_) (λk I _ C R' Z p=>⟨_,rfl,p⟩) ?_
  ·obtain⟨b,g1,g2,cp,W,g4⟩:=L.get (bYG I);have a2:C B=some (.lst (Y.map V.ref)):=by rw[Z B (yJ L.lst hD)];exact L.lst
   have hb:C b=_:=(Z b (yJ W hD)).trans W;rw[bYG I]at p;exact⟨_,rfl,_,rfl,B,_,_,_,rfl,rfl,SqL.of a2,yR g1,b,_,6,_,rfl,rfl,SqL.of hb,rfl,_,rfl,p⟩
  have k1:=yG hD (.lst (((bYU R.length).filter λk=>match R[k]? with|some r=> !r.void|none=>false).map λk=>V.int (k:Nat)));have a0:upd H D (.lst (((bYU R.length).filter λk=>match R[k]? with|some r=> !r.void|none=>false).map λk=>V.int (k:Nat))) D=some (.lst (((bYU R.length).filter λk=>match R[k]? with|some r=> !r.void|none=>false).map λk=>V.int (k:Nat))):=yB;generalize upd H D (.lst (((bYU R.length).filter λk=>match R[k]? with|some r=> !r.void|none=>false).map λk=>V.int (k:Nat)))=H1 at k1 a0 ⊢;have c:=L.same k1;have a:=k1 _ _ b7;dsimp only[yW];refine⟨_,rfl,D,rfl,⟨_,SqL.of a0⟩,λE hE=>?_⟩;refine aZu (Z0 R j) id (SqL.of a0) hE ?_ (λv U C R' Z p=>?_) (λv U _ C R' Z p=>⟨_,rfl,p⟩) ?_
  ·rw[bYL,cQg];have:=cQM (λk=>match R[k]? with|some r=> !r.void|none=>false) (bYU R.length);rw[cQt]at this;omega
  ·obtain⟨k,I,rfl⟩:=cQH.mp U;have I:k<R.length:=cQf.mp (cQO.mp I).1;obtain⟨b,g1,g2,cp,W,g4⟩:=c.get (bYG I);have a2:C B=some (.lst (Y.map V.ref)):=by rw[Z B (yJ c.lst hE)];exact c.lst
   have hb:C b=_:=(Z b (yJ W hE)).trans W;have b4:C g=_:=(Z g (yJ a hE)).trans a;have e1:Z0 R j (V.int (k:Nat))=decide (R[k].place=j):=by show(match R[((k:Nat):Int).toNat]? with|some r=>decide (r.place=j)|none=>false)=_;rw[cQc,bYG I]
   rw[e1]at p;refine⟨_,rfl,_,rfl,B,_,_,_,rfl,rfl,SqL.of a2,yR g1,b,_,5,_,rfl,rfl,SqL.of hb,rfl,_,rfl,g,_,1,_,rfl,rfl,SqT.of b4,rfl,rfl,_,rfl,?_⟩;rw[wW];exact p
  ·have ef:(((((bYU R.length).filter λk=>match R[k]? with|some r=> !r.void|none=>false).map λk=>V.int (k:Nat)).filter (Z0 R j)).map id)=((bYU R.length).filter λk=>match R[k]? with|some r=> !r.void && decide (r.place=j)|none=>false).map λk=>V.int (k:Nat):=by
    rw[List.map_id,List.filter_map,List.filter_filter];congr 1;refine cJS λk I=>?_;have I:k<R.length:=cQf.mp I;show(Z0 R j (V.int (k:Nat)) && _)=_;show((match R[((k:Nat):Int).toNat]? with|some r=>decide (r.place=j)|none=>false) && _)=_;rw[cQc,bYG I];exact Bool.and_comm _ _
   rw[ef];exact q _ (.nums _) _ (k1.trans (yG hE _)) .letters ⟨E,rfl,by simp,yB⟩ (.none (k1.fresh hE))
 ·refine⟨_,rfl,g,_,0,_,rfl,rfl,SqT.of y,rfl,rfl,_,rfl,onF (by cases o<;> decide) ?_⟩;refine⟨_,rfl,g,_,0,_,rfl,rfl,SqT.of y,rfl,z2,λJ t=>⟨J,_,rfl,.inl (SqL.of yB),rfl,rfl,_,rfl,onT (by cases o<;> decide) ?_⟩⟩;have n:=yG t (.lst [.str "waiting",.str "overdue"]);generalize upd H J (.lst [.str "waiting",.str "overdue"])=H1 at n ⊢;have a:H1 g=some (.tup [.str (if o then "overdue" else "waiting"),.int d]):=n _ _ y;have c:=L.same n;have e1:decide (V.str (if o then "overdue" else "waiting")=V.str "overdue")=o:=by cases o<;> decide
  refine⟨_,rfl,_,rfl,_,rfl,g,_,1,_,rfl,rfl,SqT.of a,rfl,_,rfl,g,_,0,_,rfl,rfl,SqT.of a,rfl,rfl,?_⟩;rw[e1];refine⟨B,sa,Y,R,S,d,o,rfl,c,n _ _ b6,by omega,λr C l k nl hl b3=>?_⟩;exact q _ (.nums l) _ (n.trans k) (.on b3) ⟨r,rfl,by simp,hl⟩ (.none (n.fresh nl))
end
end Law
namespace Law
open PySem L2 PyProof.Rows
open Bk (Row Rows xV xS Ans)
open Desk (xE wY uH Wf wT stV)
abbrev bVn:Stmt:=xC "_law_done_by"
structure LBk(H:Hp)(ra sa:Nat)(rs:List Nat)(R:Rows)(S:List Int):Prop where
 book:y8 H ra rs R
 shut:H sa=some (.lst (S.map V.int))
 ne:sa≠ra
 no:sa∉rs
 noC:NoC rs H sa
def aX2(e sa:Nat)(c a:List Nat)(H d:Hp):Prop:=(∀x o,x≠sa->x≠e->x∉c->H x=some o->d x=some o)/\(∀b∈a,b∈c\/H b=none)/\∀s u,H s=some u->NoC c H s->NoC a d s
def LBk.same{H c:Hp}{a sa:Nat}{b:List Nat}{R:Rows}{S:List Int}(h:LBk H a sa b R S)(k:xA H c):LBk c a sa b R S:=
 ⟨h.book.same k,k _ _ h.shut,h.ne,h.no,(But.of h.book.dom k).2.2 sa _ h.shut h.noC⟩
def LBk.step{H c:Hp}{b sa:Nat}{d a:List Nat}{R f:Rows}{S:List Int}(h:LBk H b sa d R S)(k:aQW b d a H c)(g:y8 c b a f):LBk c b sa a f S/\aX2 b sa d a H c:=
 ⟨⟨g,k.1 sa _ (λz=>(bYQ.mp z).elim h.ne h.no) h.shut,h.ne,λz=>(k.2.1 sa z).elim h.no (λy=>by have:=h.shut;rw[y]at this;cases this),k.2.2 sa _ h.shut h.noC⟩,λx o _ i j e=>k.1 x o (λz=>(bYQ.mp z).elim i j) e,k.2.1,k.2.2⟩
def LBk.put{H:Hp}{g sa:Nat}{f:List Nat}{R:Rows}{S:List Int}(h:LBk H g sa f R S)(d:Int):LBk (upd H sa (.lst ((S++ [d]).map V.int))) g sa f R (S++ [d])/\aX2 g sa f f H (upd H sa (.lst ((S++ [d]).map V.int))):=by
 refine⟨⟨⟨by rw[yI (cQr h.ne)];exact h.book.lst,h.book.len,h.book.nd,λi b r a p=>?_⟩,yB,h.ne,h.no,λb a l c=>?_⟩,λx o n _ _ e=>by rw[yI n];exact e,λb a=> .inl a,λs u e n b a l c=>n b a l (by rw[yI (λz=>h.no (by rw[<- z];exact a))]at c;exact c)⟩
 ·obtain⟨k,j,t⟩:=h.book.row i b r a p;have m:b≠sa:=λz=>h.no (by rw[<- z];exact bY0 a);have q:k≠sa:=λz=>h.noC b (bY0 a) _ j (by rw[<- z];rfl);exact⟨k,by rw[yI m];exact j,by rw[yI q];exact t⟩
 ·rw[yI (λz=>h.no (by rw[<- z];exact a))]at c;exact h.noC b a l c
inductive aXj(vs:List V)(H:Hp)(Q:VK)(_:XK):Prop|mk (ra sa da:Nat) (rs:List Nat) (R:Rows) (S:List Int) (e:xS) (_:vs= [.ref ra,.ref sa,.ref da]) (_:H da=some (.tup (xE e))) (_:Wf e) (_:LBk H ra sa rs R S) (_:R.length<=60) (_:S.length<=60) (_:Bk.qV R) (_:(∀r∈R,r.copies.length<=1000)) (_:∀ (H':Hp)(a:Ans)(v:V)(R':Rows)(S':List Int)(rs':List Nat),aX2 ra sa rs rs' H H'->LBk H' ra sa rs' R' S'->xV R S e a R' S'->wY [] H' a v->uH H v->Q v H')
def uH.pre{H a:Hp}(k:xA H a){v:V}(h:uH a v):uH H v:=λp e u b z=>h p e u b (k _ _ z)
def aX2.pre{d sa:Nat}{c a:List Nat}{H f g:Hp}(m:∀b∈c,∃o,H b=some o)(k:xA H f)(s:aX2 d sa c a f g):aX2 d sa c a H g:=
 ⟨λx o i l j e=>s.1 x o i l j (k _ _ e),λb h=>(s.2.1 b h).imp id λz=>k.fresh z,λx u e n=>s.2.2 x u (k _ _ e) ((But.of m k).2.2 x u e n)⟩
section
variable {K:bYI}
def bVC:yO ["_law_rows","_law_shut","_law_deed"] ["_law_rows","_law_shut","_law_deed"] (yH bVn):=scM
def bJV(u:FnG P w K mg base 4 "_law_entered" ["_law_rows","_law_deed"] aQN)(I:FnG P w K mg base 4 "_law_hung" ["_law_rows","_law_number","_law_goal"] bJb) (y:FnG P w K mg base 4 "_law_told_of" ["_law_rows","_law_shut","_law_deed"] bQv) (r:FnG P w K mg base 4 "_law_with_one" ["_law_rows","_law_deed"] bQy) (F:Fun K "_law_done_by" "_law_done_by" bVn f fd):xD P w K mg base CX0 5 f fd ["_law_rows","_law_shut","_law_deed"] aXj:=by
 have sc:=bVC;refine F.ok (k:=4) sc (λa6 A outer s H vs Q E hr h=>?_);obtain⟨U,sa,g,M,R,S,e,rfl,hd,a1,L,hR,hS,T,a0,q⟩:=h;refine⟨_,(yC (y0 (yM wL (yL yX (pv 2) yE) (y6 (yA yQ (yA yQ (yA yQ yD))))) (yF (yP (xK u hr rfl (yA (pv 0) (yA (pv 2) yD))))) yS) (yC (y0 (yM zB (yL yX (pv 2) yE) yQ) (yF (yP (xK I hr rfl (yA (pv 0) (yA (yL yX (pv 2) yE) (yA (yL yX (pv 2) yE) yD)))))) yS) (yC (y0 (yM zB (yL yX (pv 2) yE) yQ) (yC (y0 (PW.pt (vG (yM aQo (yV y3 (yL yX (pv 2) yE) yE) yE) (wM (yM wL (yL yX (pv 2) yE) (pv 1))))) (yF (yP yQ)) yS) (yC (yY (uF cQj cQo cQp xL (pv 1) (yA (yL yX (pv 2) yE) yD))) (yF (yP yQ)))) yS) (yC (y0 (yM wL (yL yX (pv 2) yE) (y6 (yA yQ (yA yQ (yA yQ (yA yQ (yA yQ (yA yQ yD)))))))) (yF (yP (xK y hr rfl (yA (pv 0) (yA (pv 1) (yA (pv 2) yD)))))) yS) (yF (yP (xK r hr rfl (yA (pv 0) (yA (pv 2) yD))))))))),?_⟩;have h0:(xE e)[0]? =some (.str (Desk.aWl e)):=by cases e<;> rfl
 refine⟨_,rfl,g,_,0,_,rfl,rfl,SqT.of hd,yR (j:=0) h0,z3,λl0 a4=>⟨l0,_,rfl,.inl (SqL.of yB),rfl,rfl,_,rfl,?_⟩⟩;have n:=yG a4 (.lst [.str "in",.str "out",.str "reply"]);generalize upd H l0 (.lst [.str "in",.str "out",.str "reply"])=H1 at n ⊢;have c:=n _ _ hd;have p:=L.same n;have a3:((∃J d W t,e= .enter J d W t)\/∃m d t,e= .reply m d t)->aQN [.ref U,.ref g] H1 Q E0:=λhf=>by refine⟨U,g,M,R,e,rfl,c,a1,hf,p.book,hR,λX a v R' a5 Z G N av nv=>?_⟩;have:=p.step Z G;exact q X a v R' S a5 (this.2.pre L.book.dom n) this.1 (N S) av (uH.pre n nv)
 have one:∀ {O:Hp} {m:Int},xA H O->qY e m->bQy [.ref U,.ref g] O Q E0:=λ{O m} k hf=>by have C:=L.same k;refine⟨U,g,M,R,e,m,rfl,k _ _ hd,hf,C.book,hR,T,a0,λX a v R' Z G N av nv=>?_⟩;have:=C.step Z G;exact q X a v R' S M (this.2.pre L.book.dom k) this.1 (N S) av (uH.pre k nv)
 have D:∀ {O:Hp},xA H O->aKn e->bQv [.ref U,.ref sa,.ref g] O Q E0:=λ{O} k hf=>by have C:=L.same k;refine⟨U,sa,g,M,R,S,e,rfl,k _ _ hd,hf,C.book,C.shut,hR,T,λX a v k2 N av nv=>?_⟩;exact q X a v R S M ⟨λx o _ _ _ e=>k2 _ _ (k _ _ e),λb hb=> .inl hb,(But.of L.book.dom (k.trans k2)).2.2⟩ (C.same k2) N av (uH.pre k nv)
 cases e with
 |enter J d W t=>have Y:J="in"\/J="out":=a1;refine onT (by rcases Y with rfl|rfl<;> rfl) ⟨_,rfl,_,rfl,a3 (.inl ⟨_,_,_,_,rfl⟩)⟩
 |reply m d t=>exact onT rfl ⟨_,rfl,_,rfl,a3 (.inr ⟨_,_,_,rfl⟩)⟩
 |hang m o=>refine onF rfl ⟨_,rfl,g,_,0,_,rfl,rfl,SqT.of c,rfl,rfl,_,rfl,onT rfl ⟨_,rfl,_,rfl,g,_,1,_,rfl,rfl,SqT.of c,rfl,_,rfl,g,_,2,_,rfl,rfl,SqT.of c,rfl,?_⟩⟩;refine⟨U,M,R,m,o,rfl,p.book,hR,T.tree,λX a R' Z G N=>?_⟩;have:=p.step Z.step G;exact q X (.txt a) _ R' S M (this.2.pre L.book.dom n) this.1 (N S) rfl (λ_ z=>nomatch z)
 |shut d=>
  refine onF rfl ⟨_,rfl,g,_,0,_,rfl,rfl,SqT.of c,rfl,rfl,_,rfl,onF rfl ⟨_,rfl,g,_,0,_,rfl,rfl,SqT.of c,rfl,rfl,_,rfl,onT rfl ?_⟩⟩;refine⟨_,rfl,g,_,1,_,rfl,rfl,SqT.of c,rfl,_,_,rfl,rfl,(show(0:Int)<7 by decide),_,_,rfl,rfl,_,rfl,?_⟩;have no:Dm.cts S d=false->Q (.str "counts not") H1:=λh=>q H1 (.txt "counts not") _ R S M ⟨λx o _ _ _ e=>n _ _ e,λb hb=> .inl hb,(But.of L.book.dom n).2.2⟩ p (.shutN h) rfl (λ_ z=>nomatch z);cases h1:decide (d % 7 > 4)with
  |true=>exact onT rfl (onT rfl (no (by unfold Dm.cts Dm.opn;rw[decide_eq_false (by have:=of_decide_eq_true h1;omega)];rfl)))
  |false=>
  refine onF rfl ⟨_,rfl,g,_,1,_,rfl,rfl,SqT.of c,rfl,_,rfl,sa,_,rfl,.inl (SqL.of p.shut),rfl,cZR.mpr (λv hv=>by obtain⟨x,_,rfl⟩:=cQH.mp hv;rfl),?_⟩;rw[if_neg (by decide),uZ];refine⟨_,rfl,?_⟩;cases h2:S.contains d with
  |true=>exact onT rfl (no (by unfold Dm.cts;rw[h2];simp))
  |false=>
  refine onF rfl ⟨_,rfl,.inl ⟨rfl,_,SqL.of p.shut⟩,_,rfl,g,_,1,_,rfl,rfl,SqT.of c,rfl,sa,_,_,rfl,rfl,p.shut,zlt (by rw[bYL];omega),?_⟩;have e5:S.map V.int++ [V.int d]=(S++ [d]).map V.int:=by simp
  rw[e5];have:=p.put d;exact q _ (.txt "shut") _ R (S++ [d]) M (this.2.pre L.book.dom n) this.1 (.shut (by unfold Dm.cts Dm.opn;rw[h2,decide_eq_true (by have:=of_decide_eq_false h1;omega)];rfl)) rfl (λ_ z=>nomatch z)
 |loose m=>exact onF rfl ⟨_,rfl,g,_,0,_,rfl,rfl,SqT.of c,rfl,rfl,_,rfl,onF rfl ⟨_,rfl,g,_,0,_,rfl,rfl,SqT.of c,rfl,rfl,_,rfl,onF rfl ⟨_,rfl,g,_,0,_,rfl,rfl,SqT.of c,rfl,zn (by show 6<=100000;omega),λl i=>⟨l,_,rfl,.inl (SqL.of yB),rfl,rfl,_,rfl,onF rfl ⟨_,rfl,_,rfl,one (n.trans (yG i _)) (.inl rfl)⟩⟩⟩⟩⟩
 |date m d=>exact onF rfl ⟨_,rfl,g,_,0,_,rfl,rfl,SqT.of c,rfl,rfl,_,rfl,onF rfl ⟨_,rfl,g,_,0,_,rfl,rfl,SqT.of c,rfl,rfl,_,rfl,onF rfl ⟨_,rfl,g,_,0,_,rfl,rfl,SqT.of c,rfl,zn (by show 6<=100000;omega),λl i=>⟨l,_,rfl,.inl (SqL.of yB),rfl,rfl,_,rfl,onF rfl ⟨_,rfl,_,rfl,one (n.trans (yG i _)) (.inr (.inl ⟨_,rfl⟩))⟩⟩⟩⟩⟩
 |term m t=>exact onF rfl ⟨_,rfl,g,_,0,_,rfl,rfl,SqT.of c,rfl,rfl,_,rfl,onF rfl ⟨_,rfl,g,_,0,_,rfl,rfl,SqT.of c,rfl,rfl,_,rfl,onF rfl ⟨_,rfl,g,_,0,_,rfl,rfl,SqT.of c,rfl,zn (by show 6<=100000;omega),λl i=>⟨l,_,rfl,.inl (SqL.of yB),rfl,rfl,_,rfl,onF rfl ⟨_,rfl,_,rfl,one (n.trans (yG i _)) (.inr (.inr (.inl ⟨_,rfl⟩)))⟩⟩⟩⟩⟩
 |copy m W=>exact onF rfl ⟨_,rfl,g,_,0,_,rfl,rfl,SqT.of c,rfl,rfl,_,rfl,onF rfl ⟨_,rfl,g,_,0,_,rfl,rfl,SqT.of c,rfl,rfl,_,rfl,onF rfl ⟨_,rfl,g,_,0,_,rfl,rfl,SqT.of c,rfl,zn (by show 6<=100000;omega),λl i=>⟨l,_,rfl,.inl (SqL.of yB),rfl,rfl,_,rfl,onF rfl ⟨_,rfl,_,rfl,one (n.trans (yG i _)) (.inr (.inr (.inr (.inl ⟨_,rfl⟩))))⟩⟩⟩⟩⟩
 |file m a2=>exact onF rfl ⟨_,rfl,g,_,0,_,rfl,rfl,SqT.of c,rfl,rfl,_,rfl,onF rfl ⟨_,rfl,g,_,0,_,rfl,rfl,SqT.of c,rfl,rfl,_,rfl,onF rfl ⟨_,rfl,g,_,0,_,rfl,rfl,SqT.of c,rfl,zn (by show 6<=100000;omega),λl i=>⟨l,_,rfl,.inl (SqL.of yB),rfl,rfl,_,rfl,onF rfl ⟨_,rfl,_,rfl,one (n.trans (yG i _)) (.inr (.inr (.inr (.inr (.inl ⟨_,rfl⟩)))))⟩⟩⟩⟩⟩
 |void m=>exact onF rfl ⟨_,rfl,g,_,0,_,rfl,rfl,SqT.of c,rfl,rfl,_,rfl,onF rfl ⟨_,rfl,g,_,0,_,rfl,rfl,SqT.of c,rfl,rfl,_,rfl,onF rfl ⟨_,rfl,g,_,0,_,rfl,rfl,SqT.of c,rfl,zn (by show 6<=100000;omega),λl i=>⟨l,_,rfl,.inl (SqL.of yB),rfl,rfl,_,rfl,onF rfl ⟨_,rfl,_,rfl,one (n.trans (yG i _)) (.inr (.inr (.inr (.inr (.inr rfl)))))⟩⟩⟩⟩⟩
 |state m=>exact onF rfl ⟨_,rfl,g,_,0,_,rfl,rfl,SqT.of c,rfl,rfl,_,rfl,onF rfl ⟨_,rfl,g,_,0,_,rfl,rfl,SqT.of c,rfl,rfl,_,rfl,onF rfl ⟨_,rfl,g,_,0,_,rfl,rfl,SqT.of c,rfl,zn (by show 6<=100000;omega),λl i=>⟨l,_,rfl,.inl (SqL.of yB),rfl,rfl,_,rfl,onT rfl ⟨_,rfl,_,rfl,_,rfl,D (n.trans (yG i _)) (.inl ⟨_,rfl⟩)⟩⟩⟩⟩⟩
 |thread m=>exact onF rfl ⟨_,rfl,g,_,0,_,rfl,rfl,SqT.of c,rfl,rfl,_,rfl,onF rfl ⟨_,rfl,g,_,0,_,rfl,rfl,SqT.of c,rfl,rfl,_,rfl,onF rfl ⟨_,rfl,g,_,0,_,rfl,rfl,SqT.of c,rfl,zn (by show 6<=100000;omega),λl i=>⟨l,_,rfl,.inl (SqL.of yB),rfl,rfl,_,rfl,onT rfl ⟨_,rfl,_,rfl,_,rfl,D (n.trans (yG i _)) (.inr (.inl ⟨_,rfl⟩))⟩⟩⟩⟩⟩
 |copies m=>exact onF rfl ⟨_,rfl,g,_,0,_,rfl,rfl,SqT.of c,rfl,rfl,_,rfl,onF rfl ⟨_,rfl,g,_,0,_,rfl,rfl,SqT.of c,rfl,rfl,_,rfl,onF rfl ⟨_,rfl,g,_,0,_,rfl,rfl,SqT.of c,rfl,zn (by show 6<=100000;omega),λl i=>⟨l,_,rfl,.inl (SqL.of yB),rfl,rfl,_,rfl,onT rfl ⟨_,rfl,_,rfl,_,rfl,D (n.trans (yG i _)) (.inr (.inr (.inl ⟨_,rfl⟩)))⟩⟩⟩⟩⟩
 |letters a2=>exact onF rfl ⟨_,rfl,g,_,0,_,rfl,rfl,SqT.of c,rfl,rfl,_,rfl,onF rfl ⟨_,rfl,g,_,0,_,rfl,rfl,SqT.of c,rfl,rfl,_,rfl,onF rfl ⟨_,rfl,g,_,0,_,rfl,rfl,SqT.of c,rfl,zn (by show 6<=100000;omega),λl i=>⟨l,_,rfl,.inl (SqL.of yB),rfl,rfl,_,rfl,onT rfl ⟨_,rfl,_,rfl,_,rfl,D (n.trans (yG i _)) (.inr (.inr (.inr (.inl ⟨_,rfl⟩))))⟩⟩⟩⟩⟩
 |on B d=>exact onF (by cases B<;> rfl) ⟨_,rfl,g,_,0,_,rfl,rfl,SqT.of c,rfl,rfl,_,rfl,onF (by cases B<;> rfl) ⟨_,rfl,g,_,0,_,rfl,rfl,SqT.of c,rfl,rfl,_,rfl,onF (by cases B<;> rfl) ⟨_,rfl,g,_,0,_,rfl,rfl,SqT.of c,rfl,zn (by show 6<=100000;omega),λl i=>⟨l,_,rfl,.inl (SqL.of yB),rfl,rfl,_,rfl,onT (by cases B<;> rfl) ⟨_,rfl,_,rfl,_,rfl,D (n.trans (yG i _)) (.inr (.inr (.inr (.inr ⟨_,_,rfl⟩))))⟩⟩⟩⟩⟩
end
end Law
namespace Desk
open PySem L2 PyProof.Rows
open Bk (Row Rows xS Ans xV)
open Thr (z8 vR qL)
def x3(H:Hp)(c:Nat)(a:List Nat)(b:List xS):Prop:=H c=some (.lst (a.map V.ref))/\a.length=b.length/\∀ (i:Nat)(d:Nat)(e:xS),a[i]? =some d->b[i]? =some e->H d=some (.tup (xE e))
def x3.same{H c:Hp}{b:Nat}{a:List Nat}{f:List xS}(h:x3 H b a f)(k:x4 H c):x3 c b a f:=⟨k.lst h.1,h.2.1,λi d e g j=>k.tup (h.2.2 i d e g j)⟩
def wY.kept{o b:List Nat}{H d:Hp}{a:Ans}{v:V}(h:wY o H a v)(k:qX o H d)(g:qE H o b):wY b d a v:=by
 have c:∀p u,p∉o->H p=some u->p∉b:=λp u n e z=>by
  rcases g p z with q|q
  ·exact n q
  ·rw[q]at e;cases e
 cases a with
 |num n=>exact h
 |txt x=>exact h
 |nums l=>obtain⟨p,e,n,q⟩:=h;exact⟨p,e,c p _ n q,k _ _ n (by intro _ z;cases z) q⟩
 |txts l=>obtain⟨p,e,n,q⟩:=h;exact⟨p,e,c p _ n q,k _ _ n (by intro _ z;cases z) q⟩
 |row r=>obtain⟨p,e,n,q⟩:=h;exact⟨p,e,c p _ n q,k _ _ n (by intro _ z;cases z) q⟩
def wY.bare{o:List Nat}{H:Hp}{a:Ans}{v:V}(h:wY o H a v):wY [] H a v:=by
 cases a with
 |num n=>exact h
 |txt x=>exact h
 |nums l=>obtain⟨p,e,n,q⟩:=h;exact⟨p,e,by simp,q⟩
 |txts l=>obtain⟨p,e,n,q⟩:=h;exact⟨p,e,by simp,q⟩
 |row r=>obtain⟨p,e,n,q⟩:=h;exact⟨p,e,by simp,q⟩
def wY.more{o:List Nat}{D:Nat}{H:Hp}{a:Ans}{v:V}(h:wY o H a v)(n:∀p,v= .ref p->p≠D):wY (D::o) H a v:=by
 have b:∀p,v= .ref p->p∉o->p∉D::o:=λp e q z=>(bYQ.mp z).elim (n p e) q;cases a with
 |num n=>exact h
 |txt x=>exact h
 |nums l=>obtain⟨p,e,q⟩:=h;exact⟨p,e,b p e q.1,q.2⟩
 |txts l=>obtain⟨p,e,q⟩:=h;exact⟨p,e,b p e q.1,q.2⟩
 |row r=>obtain⟨p,e,q⟩:=h;exact⟨p,e,b p e q.1,q.2⟩
def xR(H:Hp)(r:Row)(v:V):Prop:=if r.void then v= .str "void" else ∃p,v= .ref p/\H p=some (.tup (stV r))
def xR.same{H a:Hp}{r:Row}{v:V}(h:xR H r v)(k:x4 H a):xR a r v:=by
 unfold xR at h ⊢;split
 ·rename_i e;rw[if_pos e]at h;exact h
 ·rename_i e;rw[if_neg e]at h;obtain⟨p,e,q⟩:=h;exact⟨p,e,k.tup q⟩
structure W1(H0:Hp)(CB CL T:Nat)(ba:Nat)(es:List xS)(as:List Ans)(H:Hp)(o:List Nat):Prop where
 ex:∃ (la sa:Nat)(ls cs:List Nat)(R:Rows)(S:List Int),o=own la sa ls cs/\PB CB CL H ba la sa ls cs R S/\Up es.length R S/\Bk.qV R/\Run [] [] es as R S
 tab:z8 T H
 keep:x4 H0 H
 new:∀b∈o,∀u,(∀ps,u≠HO.tbl ps)->H0 b≠some u
inductive vV(Rf:Nat×Nat)(vs:List V)(H:Hp)(Q:VK)(_:XK):Prop|mk (ds:Nat) (das:List Nat) (es:List xS) (_:vs= [.ref ds]) (_:x3 H ds das es) (_:es.length<60) (_:(∀e∈es,Wf e)) (_:z8 Rf.2 H) (_:∀ (l:Nat)(H':Hp)(vs:List V)(as:List Ans)(R':Rows)(S':List Int),x4 H H'->z8 Rf.2 H'->Run [] [] es as R' S'->Bk.qV R'->H' l=some (.lst vs)->cQA (λv a=>wY [] H' a v) vs as->Q (.ref l) H')
inductive aVU(CB CL:Nat)(vs:List V)(H:Hp)(Q:VK)(_:XK):Prop|mk (ba la sa:Nat) (ls cs:List Nat) (R:Rows) (S:List Int) (_:vs= [.ref ba]) (_:PB CB CL H ba la sa ls cs R S) (_:R.length<64) (_:∀ (l:Nat)(H':Hp)(vs:List V),xA H H'->H' l=some (.lst vs)->cQA (λv r=>xR H' r v) vs R->Q (.ref l) H')
inductive wX(Rf:Nat×Nat)(vs:List V)(H:Hp)(Q:VK)(_:XK):Prop|mk (ds:Nat) (das:List Nat) (es:List xS) (_:vs= [.ref ds]) (_:x3 H ds das es) (_:es.length<60) (_:(∀e∈es,Wf e)) (_:z8 Rf.2 H) (_:∀ (l:Nat)(H':Hp)(vs:List V)(as:List Ans)(R':Rows)(S':List Int),x4 H H'->z8 Rf.2 H'->Run [] [] es as R' S'->Bk.qV R'->H' l=some (.lst vs)->cQA (λv r=>xR H' r v) vs R'->Q (.ref l) H')
def jI{T:Nat}{H a:Hp}(t:z8 T H)(k:xA H a):z8 T a:=(aKm.of k).2 t
def W1.start{H:Hp}{n CL T x dx la sa:Nat}{j a:Hp}(tb:z8 T H)(v:H x=none)(d:H dx=none)(D:dx≠x)(q:j=upd (upd H dx (.own x)) x (.ins n dx []))(f:j la=none)(g:j sa=none)(p:la≠sa) (A:a x=some (.ins n dx [("letters",.ref la),("shut",.ref sa)])) (C:a la=some (.lst [])) (E:a sa=some (.lst [])) (w:∀b,b≠x->b≠la->b≠sa->a b=j b):W1 H n CL T x [] [] a (own la sa [] [])/\xA H a:=by
 have m:∀b,j b=none->H b=none:=λb e=>by
  subst q;by_cases z:b=x
  ·rw[z];exact v
  ·rw[yI z]at e;by_cases z2:b=dx
   ·rw[z2];exact d
   ·rw[yI z2]at e;exact e
 have k:xA H a:=λb o e=>by have b1:=yJ e v;have B:=yJ e d;rw[w b b1 (yJ e (m _ f)) (yJ e (m _ g)),q,yI b1,yI B];exact e
 refine⟨⟨⟨la,sa,[],[],[],[],rfl,⟨⟨dx,A⟩,C,E,rfl,rfl,.nil,.nil,p,by simp,by simp,λi b c r e=>by simp at e⟩,⟨bYO _,bYO _,λr h=>by simp at h⟩,Bk.aVg,.nil⟩,jI tb k,k.t,λb l u _ z=>?_⟩,k⟩;have s:H b=none->False:=λy=>by rw[y]at z;cases z
 rcases bYQ.mp l with e|l
 ·exact s (by rw[e];exact m _ f)
 rcases bYQ.mp l with e|l
 ·exact s (by rw[e];exact m _ g)
 ·simp at l
def W1.step{F:Hp}{p CL T l:Nat}{y:List xS}{D:List Ans}{H:Hp}{o:List Nat}{e:xS}(g:W1 F p CL T l y D H o)(hw:Wf e)(hz:y.length<60){n:Nat}(N:H n=some (.tup (xE e))){Q:VK}{Rf:Nat×Nat}(G:Rf.2=T) (q:∀ (a:Ans)(v:V)(h:Hp)(m:List Nat),W1 F p CL T l (y++ [e]) (D++ [a]) h m->wY m h a v->uH H v->qX o H h->qE H o m->Q v h):Q2 Rf p CL [.ref l,.ref n] H Q E0:=by
 subst G;obtain⟨A,B,M,U,R,S,rfl,J,C,i,j⟩:=g.ex;refine⟨l,n,A,B,M,U,R,S,e,rfl,hw,N,J,C.sz (by omega),i,g.tab,λa X K v h x s c r k E L O P=>?_⟩;refine q a v h _ ⟨⟨A,B,x,s,X,K,rfl,r,?_,Bk.xV.book i ?_ c,.snoc j c⟩,L,λb u f e=>k b u (λz=>g.new b z u f e) f (g.keep b u f e),λb Y u f z0=>?_⟩ O P k E
 ·rw[bY5,cQU];exact C.done c
 ·intro W d w t I;subst I;exact hw
 ·rcases E b Y with z|z
  ·exact g.new b z u f z0
  ·rw[g.keep b u f z0]at z;cases z
def W1.write{l:Hp}{p CL T A:Nat}{w:List xS}{x:List Ans}{H:Hp}{o:List Nat}(g:W1 l p CL T A w x H o){D:Nat}{xs ys:List V}(J:H D=some (.lst xs))(nD:D∉o)(h0:l D=none):W1 l p CL T A w x (upd H D (.lst ys)) o:=by
 have f:∀ {a u},H a=some u->(∀xs,u≠ .lst xs)->a≠D:=λq n z=>by rw[z,J]at q;cases q;exact n _ rfl
 obtain⟨C,F,I,M,R,S,rfl,d,K,k,h⟩:=g.ex;refine⟨⟨C,F,I,M,R,S,rfl,⟨?_,?_,?_,d.len,d.clen,d.nd,d.cnd,d.las,d.lac,d.sac,λi b c r B v L=>?_⟩,K,k,h⟩,?_,λb u N e=>?_,g.new⟩
 ·obtain⟨j,e⟩:=d.book;exact⟨j,by rw[yI (f e (by intro _ z;cases z))];exact e⟩
 ·rw[yI (λz=>nD (by rw[<- z];exact aVw))];exact d.lst
 ·rw[yI (λz=>nD (by rw[<- z];exact aYt))];exact d.sht
 ·obtain⟨⟨j,s⟩,E⟩:=d.row i b c r B v L;exact⟨⟨j,by rw[yI (f s (by intro _ z;cases z))];exact s⟩,by rw[yI (λz=>nD (by rw[<- z];exact bVd (bY0 v)))];exact E⟩
 ·rcases g.tab with t|⟨G,m,y⟩
  ·exact .inl (by rw[yI (f t (by intro _ z;cases z))];exact t)
  ·exact .inr ⟨G,by rw[yI (f m (by intro _ z;cases z))];exact m,by rw[yI (f y (by intro _ z;cases z))];exact y⟩
 ·rw[yI (yJ e h0)];exact g.keep b u N e
section
variable {K:bYI}
abbrev J8:Stmt:=xC "answers"
abbrev aQA:Stmt:=xC "standing"
abbrev aXQ:Stmt:=xF "Book" "standing_states"
def aWX:yO ["deeds","book"] ["deeds"] (yH J8):=scM
def aWp:xJ ["deeds","book"] (yH J8) "deed" ["book"] [1] (lsN [(".0",.local),("deed",.local),("answer",.globalImplicit),("book",.free)]):=
 lcM
def qQ{α β:Type}{F G:α->β->Prop}(h:∀a b,F a b->G a b):∀ {l:List α} {m:List β},cQA F l m->cQA G l m
 |_,_,.nil=> .nil
 |_,_,.cons r t=> .cons (h _ _ r) (qQ h t)
def aWC(B:MkG P w K mg base n "Book" CB ["self"] (aVa CB))(c:FnG P w K mg base (n+1) "answer" ["book","deed"] (Q2 Rf CB CL))(F:Fun K "answers" "answers" J8 f fd): xD P w K mg base CX0 (n+2) f fd ["deeds"] (vV Rf):=by
 have sc:=aWX;refine F.ok (k:=n+1) sc (λb6 A outer s H vs Q E hr h=>?_);obtain⟨ds,d,r,rfl,hD,b4,a5,tb,q⟩:=h;refine⟨_,(yC (yU (i:=1) (bZ3 B hr rfl)) (yF (yP (W6 aWp rfl (xM (pv 0)) (λ_ _ _ _ _=>zV) (λ_ _ _ _ _=>(xK c hr rfl (yA (pv 1) (yA (pv 0) yD)))))))),?_⟩;intro x dx hx a2 a3;refine⟨x,dx,rfl,yB,λla sa H1 b2 b1 a4 h1 h2 h3 h4=>⟨rfl,?_⟩⟩;dsimp only[yW];obtain⟨g0,k0⟩:=W1.start (CL:=CL) tb hx a2 a3 rfl b2 b1 a4 h1 h2 h3 h4;have a6:=hD.same k0.t;refine⟨_,rfl,ds,rfl,⟨_,SqL.of a6.1⟩,λD j=>?_⟩;have b0:(d.map V.ref).length=r.length:=by rw[bYL];exact hD.2.1
 have b3:H D=none:=k0.fresh j;refine⟨λi m I H'=>m=r.length - i/\i<=r.length/\H' D=some (.lst I)/\∃ (X:List Ans)(o:List Nat),W1 H CB CL Rf.2 x (r.take i) X H' o/\D∉o/\cQA (λv a=>wY (D::o) H' a v) I X,⟨r.length,by simp,cQE _,yB,[],own la sa [] [],?_,?_,.nil⟩,?_⟩
 ·have kD:=yG j (.lst []);obtain⟨M,N,O,J,R,S,e1,e2,e3,e4,U⟩:=g0.ex;exact⟨⟨M,N,O,J,R,S,e1,e2.same kD,e3,e4,U⟩,jI g0.tab kD,λb u nt e=>kD _ _ (g0.keep b u nt e),g0.new⟩
 ·intro z;rcases bYQ.mp z with e|z
  ·rw[e,h2]at j;cases j
  rcases bYQ.mp z with e|z
  ·rw[e,h3]at j;cases j
  ·simp at z
 ·rintro i m I H' ⟨rfl,hi,l,X,o,g,nD,hP⟩;have G:=hD.same g.keep;refine⟨l,?_⟩;by_cases C:i<r.length
  ·have a7:i<d.length:=by rw[hD.2.1];exact C
   have L:=bYG a7;have Y:=bYG C;refine .inr ⟨⟨d.map V.ref,.ref d[i],SqL.of G.1,by rw[bY1,L];rfl⟩,λv H2 yl=>?_⟩;obtain⟨rfl,y⟩:=yl;have hv:(d.map V.ref)[i]? =some v:=y _ (SqL.of G.1);rw[bY1,L]at hv;cases hv;refine⟨_,rfl,_,rfl,?_⟩;refine g.step (a5 _ (cXo C)) (by rw[cQV];omega) (G.2.2 i _ _ L Y) rfl λa v W T g3 av nv k3 gr=>?_;have a8:r.take (i+1)=r.take i++ [r[i]]:=by rw[cQP,Y];rfl
   have b5:I.length<=i:=by obtain⟨M,N,O,J,R,S,e1,e2,e3,e4,U⟩:=g.ex;have:=U.len;rw[hP.length,<- this,cQV];omega
   have Z:W D=some (.lst I):=k3 _ _ nD (by intro _ z;cases z) l;have a0:D∉T:=λz=>by
    rcases gr D z with y|y
    ·exact nD y
    ·rw[l]at y;cases y
   refine⟨by rw[cQg];omega,Z,r.length - (i+1),by omega,rfl,C,yB,X++ [a],T,?_,a0,?_⟩
   ·rw[a8];exact g3.write Z a0 b3
   ·have k4:qX (D::T) W (upd W D (.lst (I++ [v]))):=qX.upd bYW _;have k5:qX (D::o) H2 W:=λb u nb nt e=>k3 b u (λz=>nb (bYT _ z)) nt e;have a1:qE H2 (D::o) (D::T):=λb hb=>by
     rcases bYQ.mp hb with e|hb
     ·exact .inl (by rw[e];exact bYW)
     ·exact(gr b hb).imp (bYT _) id
    have a9:wY (D::T) W a v:=av.more λp e z=>by rw[z]at e;exact nv D e _ (by intro _ z;cases z) l
    exact Law.aXf (F:=λv' a'=>wY (D::T) (upd W D (.lst (I++ [v]))) a' v') (a9.kept k4 qE.refl) (qQ (λv a (h:wY (D::o) H2 a v)=>(h.kept k5 a1).kept k4 qE.refl) hP)
  ·obtain rfl:i=r.length:=by omega
   obtain⟨M,N,O,J,R,S,e1,e2,e3,e4,U⟩:=g.ex;rw[cQI]at U;exact .inl ⟨⟨d.map V.ref,SqL.of G.1,by rw[b0];exact bYO _⟩,q D H' I X R S g.keep g.tab U e4 l (qQ (λv a h=>h.bare) hP)⟩
def bQc:yO ["self"] ["self"] (yH aXQ):=scM
def aKZ:xJ ["self"] (yH aXQ) "letter" [] [] (lsN [(".0",.local),("letter",.local)]):=
 lcM
def aYq(cl:Cl K CB CL)(d:MG P w K mg base CX0 n CL "state" ["self"] (aVc CL))(F:Fun K "standing_states" "Book.standing_states" aXQ f fd):xD P w K mg base CX0 (n+1) f fd ["self"] (aVU CB CL):=by
 have sc:=bQc;refine F.ok (k:=n) sc (λa0 A outer s H vs Q E hr h=>?_);obtain⟨ba,la,sa,N,cs,R,S,rfl,L,hR,q⟩:=h;refine⟨_,(yF (yP (W6 aKZ rfl (xM (yZ (pv 0) rfl)) (λ_ _ _ _ _=>zV) (λ_ _ _ _ _=>(aVz (xQ (aQt (K:=K) (pv 0) rfl)) yQ (bXM d hr vT (pv 0))))))),?_⟩;obtain⟨dx,hb⟩:=L.book;have hl:(N.map V.ref).length=R.length:=by rw[bYL];exact L.len
 refine⟨_,rfl,ba,CB,dx,_,_,rfl,hb,cl.b,cl.letters,rfl,la,rfl,⟨_,SqL.of L.lst⟩,λD hD=>?_⟩;refine⟨λi m a J=>m=R.length - i/\i<=R.length/\xA H J/\J D=some (.lst a)/\cQA (λv r=>xR J r v) a (R.take i),⟨R.length,by simp,cQE _,yG hD _,yB,.nil⟩,?_⟩;rintro i m a J ⟨rfl,hi,O,u,M⟩;have o:=L.same O;refine⟨u,?_⟩;by_cases C:i<R.length
 ·have I:=bYG C;obtain⟨b,c,Z,g2,g3,⟨x,T⟩,g5⟩:=o.get I;refine .inr ⟨⟨N.map V.ref,.ref b,SqL.of o.lst,Z⟩,λv Y yl=>?_⟩;obtain⟨rfl,y⟩:=yl;have G:(N.map V.ref)[i]? =some v:=y _ (SqL.of o.lst);rw[Z]at G;cases G;have W:R.take (i+1)=R.take i++ [R[i]]:=by rw[cQP,I];rfl
  have a1:a.length<=i:=by rw[M.length,cQV];omega
  refine⟨_,rfl,b,CL,x,_,_,rfl,T,cl.l,cl.void,rfl,_,rfl,?_⟩;have fin:∀ (v:V)(j:Hp),xA Y j->xR j R[i] v->a.length<bY8/\j D=some (.lst a)/\∃X,X<R.length - i/\(X=R.length - (i+1)/\i+1<=R.length/\xA H (upd j D (.lst (a++ [v])))/\upd j D (.lst (a++ [v])) D=some (.lst (a++ [v]))/\cQA (λg r=>xR (upd j D (.lst (a++ [v]))) r g) (a++ [v]) (R.take (i+1))):=λv j U sv=>by
   have B:=U _ _ u;have tu:∀ (g:V)(r:Row),xR j r g->xR (upd j D (.lst (a++ [v]))) r g:=λg r h=>by
    unfold xR at h ⊢;split
    ·rename_i e;rw[if_pos e]at h;exact h
    ·rename_i e;rw[if_neg e]at h;obtain⟨p,e,q⟩:=h;exact⟨p,e,by rw[yI (aQ1 q B (by intro z;cases z))];exact q⟩
   refine⟨by rw[cQg];omega,B,R.length - (i+1),by omega,rfl,C,Law.aQU (O.trans U) hD,yB,?_⟩;rw[W];exact Law.aXf (F:=λg r=>xR (upd j D (.lst (a++ [v]))) r g) (tu _ _ sv) (qQ (λg r (h:xR Y r g)=>tu g r (h.same U.t)) M)
  cases G:R[i].void with
  |true=>exact onT rfl (fin _ _ (xA.refl _) (by unfold xR;rw[G];rfl))
  |false=>refine onF rfl ⟨_,rfl,b,x,_,rfl,T,rfl,b,i,_,c,rfl,⟨x,T⟩,λt ht=>?_⟩;exact fin _ _ (yG ht _) (by unfold xR;rw[G];exact⟨t,rfl,yB⟩)
 ·obtain rfl:i=R.length:=by omega
  rw[cQI]at M;exact .inl ⟨⟨N.map V.ref,SqL.of o.lst,by rw[hl];exact bYO _⟩,q D J a O u M⟩
def aJ4:yO ["deeds","book","deed"] ["deeds"] (yH aQA):=scM
def aJB(d:MkG P w K mg base n "Book" CB ["self"] (aVa CB))(c:FnG P w K mg base (n+1) "answer" ["book","deed"] (Q2 Rf CB CL))(b:MG P w K mg base CX0 (n+1) CB "standing_states" ["self"] (aVU CB CL)) (F:Fun K "standing" "standing" aQA f fd):xD P w K mg base CX0 (n+2) f fd ["deeds"] (wX Rf):=by
 have sc:=aJ4;refine F.ok (k:=n+1) sc (λa5 A outer s H vs Q E O h=>?_);obtain⟨ds,j,m,rfl,B,a4,M,tb,q⟩:=h;refine⟨_,(yC (yU (i:=1) (bZ3 d O rfl)) (yC (zN cQv rfl (xM (pv 0)) (xB (i:=2)) (yF (yY (xK c O rfl (yA (pv 1) (yA (pv 2) yD)))))) (yF (yP (bXM b O vT (pv 1)))))),?_⟩;intro x dx hx G I;refine⟨x,dx,rfl,yB,λla sa H1 a1 X J h1 h2 h3 h4=>⟨rfl,?_⟩⟩;dsimp only[yW];obtain⟨g0,k0⟩:=W1.start (CL:=CL) tb hx G I rfl a1 X J h1 h2 h3 h4;have T:=B.same k0.t;have z:(j.map V.ref).length=m.length:=by rw[bYL];exact B.2.1
 refine⟨_,rfl,ds,rfl,⟨_,SqL.of T.1⟩,?_⟩;refine zO (xs:=j.map V.ref) (λi σ D=>∃ (C:Option V)(u:List Ans)(o:List Nat),σ= [some (.ref ds),some (.ref x),C]/\W1 H CB CL Rf.2 x (m.take i) u D o) ?_ ?_ ?_ ?_
 ·exact⟨none,[],_,rfl,g0⟩
 ·rintro i σ D hi ⟨C,u,o,rfl,g⟩;exact SqL.of (B.same g.keep).1
 ·rintro i v σ D Z ⟨C,u,o,rfl,g⟩;have e:i<m.length:=by rw[<- z];exact(bYS.mp Z).1
  have p:=bYG (show i<j.length by rw[B.2.1];exact e);have y:=bYG e;rw[bY1,p]at Z;cases Z;have N:=B.same g.keep;have W:m.take (i+1)=m.take i++ [m[i]]:=by rw[cQP,y];rfl
  dsimp only[yW];refine⟨_,rfl,_,rfl,?_⟩;refine g.step (M _ (cXo e)) (by rw[cQV];omega) (N.2.2 i _ _ p y) rfl λa v H3 o' g3 av nv k3 gr=>?_;rw[<- W]at g3;exact⟨_,_,o',rfl,g3⟩
 ·rintro σ D ⟨C,u,o,rfl,g⟩;rw[z,cQI]at g;obtain⟨U,Y,a2,L,R,S,e1,e2,e3,e4,e5⟩:=g.ex;obtain⟨a3,hb⟩:=e2.book;refine⟨_,rfl,x,a3,_,rfl,hb,rfl,x,U,Y,a2,L,R,S,rfl,e2,by have:=e3.r;omega,λl H5 vs k5 a0 hP=>?_⟩;exact q l H5 vs u R S (g.keep.trans k5.t) (jI g.tab k5) e5 e4 a0 hP
end
end Desk
namespace Law
open PySem L2 PyProof.Rows
open Bk (Row Rows xV xS Ans)
open Desk (xE wY uH Wf Up Run x3 qQ)
structure LGo(H0:Hp)(ra sa:Nat)(es:List xS)(as:List Ans)(H:Hp)(rs:List Nat):Prop where
 ex:∃ (R:Rows)(S:List Int),LBk H ra sa rs R S/\Up es.length R S/\Bk.qV R/\Run [] [] es as R S
 keep:xA H0 H
 newR:H0 ra=none
 newS:H0 sa=none
 newB:∀b∈rs,H0 b=none
def LGo.same{i H h:Hp}{e sa:Nat}{c:List xS}{d:List Ans}{f:List Nat}(g:LGo i e sa c d H f)(k:xA H h):LGo i e sa c d h f:=
 ⟨let ⟨R,S,a,b⟩:=g.ex;⟨R,S,a.same k,b⟩,g.keep.trans k,g.newR,g.newS,g.newB⟩
def LGo.start{H:Hp}{a sa:Nat}(e:H a=none)(c:upd H a (.lst []) sa=none):LGo H a sa [] [] (upd (upd H a (.lst [])) sa (.lst [])) []:=by
 have f:=yG e (.lst []);have g:=yG c (.lst []);have ne:sa≠a:=λz=>by rw[z,yB]at c;cases c
 exact⟨⟨[],[],⟨⟨g _ _ yB,rfl,.nil,λi b r h=>by simp at h⟩,yB,ne,by simp,λb d=>by simp at d⟩,⟨bYO _,bYO _,λr h=>by simp at h⟩,Bk.aVg,.nil⟩,f.trans g,e,f.fresh c,λb d=>by simp at d⟩
def bWl{H j:Hp}{g sa:Nat}{c:List Nat}{t:Rows}{w:List Int}{a:Ans}{v:V}(s:LBk j g sa c t w)(k:∃b,H g=some (.lst b))(m:∃b,H sa=some (.lst b))(f:wY [] j a v)(q:uH H v):wY (sa::g::c) j a v:=by
 have no:∀p,v= .ref p->(∀r d,j p≠some (.lst (uC r d)))->p∉sa::g::c:=λp e n z=>by
  rcases bYQ.mp z with z|z
  ·obtain⟨b,h⟩:=m;exact q p e (.lst b) (by intro _ y;cases y) (by rw[z];exact h)
  rcases bYQ.mp z with z|z
  ·obtain⟨b,h⟩:=k;exact q p e (.lst b) (by intro _ y;cases y) (by rw[z];exact h)
  ·obtain⟨i,o,A⟩:=cQy z;obtain⟨d,u,_⟩:=s.book.row i p _ (by rw[bYG o,A]) (bYG (show i<t.length by rw[<- s.book.len];exact o));exact n _ d u
 cases a with
 |num n=>exact f
 |txt x=>exact f
 |nums l=>obtain⟨p,e,_,h⟩:=f;exact⟨p,e,no p e λr d z=>by rw[h]at z;exact aQv (bY3 z).symm,h⟩
 |txts l=>obtain⟨p,e,_,h⟩:=f;exact⟨p,e,no p e λr d z=>by rw[h]at z;exact jX (bY3 z).symm,h⟩
 |row r=>obtain⟨p,e,_,h⟩:=f;exact⟨p,e,no p e λr d z=>(by rw[h]at z;cases z),h⟩
def LGo.step{F H:Hp}{i sa:Nat}{A:List xS}{E:List Ans}{C:List Nat}{e:xS}(g:LGo F i sa A E H C)(hw:Wf e)(hz:A.length<60){u:Nat}(K:H u=some (.tup (xE e))){Q:VK} (q:∀ (a:Ans)(v:V)(j:Hp)(f:List Nat),LGo F i sa (A++ [e]) (E++ [a]) j f->aX2 i sa C f H j->wY (sa::i::f) j a v->uH H v->Q v j):aXj [.ref i,.ref sa,.ref u] H Q E0:=by
 obtain⟨R,S,B,n,k,m⟩:=g.ex;refine⟨i,sa,u,C,R,S,e,rfl,K,hw,B,by have:=n.r;omega,by have:=n.s;omega,k,λr J=>by have:=n.c r J;omega,λj a v N I f p l y L D=>?_⟩;refine q a v j f ⟨⟨N,I,l,?_,Bk.xV.book k ?_ y,.snoc m y⟩,λx o h=>?_,g.newR,g.newS,λb O=>?_⟩ p (bWl l ⟨_,B.book.lst⟩ ⟨_,B.shut⟩ L D) D
 ·rw[bY5,cQU];exact n.done y
 ·intro M d w t G;subst G;exact hw
 ·exact p.1 x o (yJ h g.newS) (yJ h g.newR) (λz=>by rw[g.newB x z]at h;cases h) (g.keep _ _ h)
 ·rcases p.2.1 b O with z|z
  ·exact g.newB b z
  ·exact g.keep.fresh z
structure aV3(H0:Hp)(ra sa:Nat)(H:Hp)(rs:List Nat)(D:Nat)(xs:List V):Prop where
 at_:H D=some (.lst xs)
 new:H0 D=none
 nr:D≠ra
 ns:D≠sa
 nb:D∉rs
 nc:NoC rs H D
def aV3.step{e H d:Hp}{b sa D:Nat}{c a:List Nat}{xs:List V}(h:aV3 e b sa H c D xs)(st:aX2 b sa c a H d):aV3 e b sa d a D xs:=
 ⟨st.1 D _ h.ns h.nr h.nb h.at_,h.new,h.nr,h.ns,λz=>(st.2.1 D z).elim h.nb (λy=>by have:=h.at_;rw[y]at this;cases this),st.2.2 D _ h.at_ h.nc⟩
def aV3.same{e H d:Hp}{c sa D:Nat}{a:List Nat}{xs:List V}(h:aV3 e c sa H a D xs)(f:∀b∈a,∃o,H b=some o)(k:xA H d):aV3 e c sa d a D xs:=
 ⟨k _ _ h.at_,h.new,h.nr,h.ns,h.nb,(But.of f k).2.2 D _ h.at_ h.nc⟩
def LGo.dom{e H:Hp}{d sa:Nat}{f:List xS}{c:List Ans}{a:List Nat}(g:LGo e d sa f c H a):∀b∈a,∃o,H b=some o:=let ⟨R,S,h,_⟩:=g.ex;h.book.dom
def LGo.write{n H:Hp}{m sa D:Nat}{t:List xS}{u:List Ans}{k:List Nat}{xs:List V}(g:LGo n m sa t u H k)(h:aV3 n m sa H k D xs)(ys:List V):LGo n m sa t u (upd H D (.lst ys)) k/\aV3 n m sa (upd H D (.lst ys)) k D ys:=by
 obtain⟨R,S,c,y,q,f⟩:=g.ex;have p:∀b∈k,b≠D:=λb a z=>h.nb (by rw[<- z];exact a);refine⟨⟨⟨R,S,⟨⟨by rw[yI (cQr h.nr)];exact c.book.lst,c.book.len,c.book.nd,λi b r a v=>?_⟩,by rw[yI (cQr h.ns)];exact c.shut,c.ne,c.no,λb a l d=>c.noC b a l (by rw[yI (p b a)]at d;exact d)⟩,y,q,f⟩,λx o e=>?_,g.newR,g.newS,g.newB⟩,yB,h.new,h.nr,h.ns,h.nb,λb a l d=>h.nc b a l (by rw[yI (p b a)]at d;exact d)⟩
 ·obtain⟨w,s,A⟩:=c.book.row i b r a v;have j:=bY0 a;exact⟨w,by rw[yI (p b j)];exact s,by rw[yI (λz=>h.nc b j _ s (by rw[<- z];rfl))];exact A⟩
 ·rw[yI (yJ e h.new)];exact g.keep _ _ e
def aV3.write{f H:Hp}{d sa D E:Nat}{a:List Nat}{xs:List V}(h:aV3 f d sa H a D xs)(ne:D≠E)(g:E∉a)(u:HO):aV3 f d sa (upd H E u) a D xs:=
 ⟨by rw[yI ne];exact h.at_,h.new,h.nr,h.ns,h.nb,λb e l c=>h.nc b e l (by rw[yI (λz=>g (by rw[<- z];exact e))]at c;exact c)⟩
end Law
namespace Bk
open PySem (Str)
def bJG{R:Rows}{k:Nat}{r:Row}(b:R[k]? =some r)(a:r.void=false):wN R (k:Int)=true:=by
 unfold wN;rw[cQc,b];simp[a]
def one(R:Rows)(S:List Int)(m:Int)(f:Nat->Row->Ans×Rows×List Int):Ans×Rows×List Int:=if wN R m=false then(.txt "no letter",R,S)else match R[m.toNat]? with
 |some r=>f m.toNat r
 |none=>(.txt "no letter",R,S)
def bWO{R:Rows}{S:List Int}{m:Int}{f:Nat->Row->Ans×Rows×List Int}(h:wN R m=false):one R S m f=(.txt "no letter",R,S):=if_pos h
def zP{R:Rows}{k:Nat}{r:Row}(b:R[k]? =some r)(a:r.void=false):¬wN R (k:Int)=false:=by rw[bJG b a];exact Bool.noConfusion
def x0{R:Rows}{S:List Int}{k:Nat}{r:Row}{f:Nat->Row->Ans×Rows×List Int}(a:R[k]? =some r)(b:r.void=false):one R S (k:Int) f=f k r:=(if_neg (zP a b)).trans (by rw[cQc,a])
open Classical in
noncomputable def out (R:Rows) (S:List Int):xS->Ans×Rows×List Int
 |.enter e d b t=>if t<0 then(.txt "no term",R,S)else(.num R.length,R++ [⟨e,d,b,t,none,"",false,[]⟩],S)
 |.reply m d t=>if wN R m=false then(.txt "no letter",R,S)else if t<0 then(.txt "no term",R,S)else one R S m λk r=>if d<r.date then(.txt "too early",R,S)else(.num R.length,R++ [⟨uP r.way,d,r.partner,t,some k,r.place,false,[]⟩],S)
 |.hang m o=>if wN R m=false\/wN R o=false then(.txt "no letter",R,S)else one R S m λi r=>one R S o λj q=>if r.link≠none then(.txt "has one",R,S)else if(thr R j).head? =some i then(.txt "own thread",R,S)else
   if r.way=q.way then(.txt "same way",R,S)else if r.partner≠q.partner then(.txt "other partner",R,S)else if r.date<q.date then(.txt "too early",R,S)else(.txt "hung",xN (laid R (thr R i) q.place) i λr=>{r with link:=some j},S)
 |.loose m=>one R S m λk r=>if r.link=none then(.txt "has none",R,S)else(.txt "loose",xN R k λr=>{r with link:=none},S)
 |.date m d=>one R S m λk r=>if(∃j,r.link=some j/\d<dt R j)\/∃c∈zS R k,dt R c<d then(.txt "too early",R,S)else(.txt "dated",xN R k λr=>{r with date:=d},S)
 |.term m t=>one R S m λk r=>if t<0 then(.txt "no term",R,S)else(.txt "set",xN R k λr=>{r with term:=t},S)
 |.copy m w=>one R S m λk r=>if w=r.partner\/w∈r.copies then(.txt "copied",R,S)else(.num (r.copies.length+1),xN R k λr=>{r with copies:=r.copies++ [w] },S)
 |.file m w=>one R S m λk _=>(.num (thr R k).length,laid R (thr R k) w,S)
 |.void m=>one R S m λk r=>if zS R k= []then(.txt "void",xN R k λr=>{r with link:=none,void:=true},S)else(.txt "answered",R,S)
 |.shut d=>if Dm.cts S d=true then(.txt "shut",R,S++ [d])else(.txt "counts not",R,S)
 |.state m=>one R S m λ_ r=>(.row r,R,S)
 |.thread m=>one R S m λk _=>(.nums (thr R k),R,S)
 |.copies m=>one R S m λ_ r=>(.txts r.copies,R,S)
 |.letters w=>(.nums ((bYU R.length).filter λk=>match R[k]? with|some r=> !r.void && decide (r.place=w)|none=>false),R,S)
 |.on a d=>if h:∃l,bQH R S d a l then(.nums (choose h),R,S)else(.nums [],R,S)
def xV.out{R s:Rows}{S r:List Int}{e:xS}{a:Ans}(h:xV R S e a s r):out R S e=(a,s,r):=by
 cases h with
 |enter h=>exact if_neg (cZy.mpr h)
 |enterT h=>exact if_pos h
 |replyN h=>exact if_pos h
 |replyT h o=>exact(if_neg (by rw[h];exact Bool.noConfusion)).trans (if_pos o)
 |replyE f h o p=>exact(if_neg (zP f h)).trans ((if_neg (cZy.mpr o)).trans ((x0 f h).trans (if_pos p)))
 |reply f h o p=>exact(if_neg (zP f h)).trans ((if_neg (cZy.mpr o)).trans ((x0 f h).trans (if_neg (cZy.mpr p))))
 |hangN h=>exact if_pos h
 |hangH i d g hw h=>exact(if_neg (not_or.mpr ⟨zP i d,zP g hw⟩)).trans ((x0 i d).trans ((x0 g hw).trans (if_pos h)))
 |hangO i d g hw h n=>exact(if_neg (not_or.mpr ⟨zP i d,zP g hw⟩)).trans ((x0 i d).trans ((x0 g hw).trans ((if_neg (not_not_intro h)).trans (if_pos n))))
 |hangW i d g hw h n k=>exact(if_neg (not_or.mpr ⟨zP i d,zP g hw⟩)).trans ((x0 i d).trans ((x0 g hw).trans ((if_neg (not_not_intro h)).trans ((if_neg n).trans (if_pos k)))))
 |hangP i d g hw h n k m=>exact(if_neg (not_or.mpr ⟨zP i d,zP g hw⟩)).trans ((x0 i d).trans ((x0 g hw).trans ((if_neg (not_not_intro h)).trans ((if_neg n).trans ((if_neg k).trans (if_pos m))))))
 |hangE i d g hw h n k m q=>exact(if_neg (not_or.mpr ⟨zP i d,zP g hw⟩)).trans ((x0 i d).trans ((x0 g hw).trans ((if_neg (not_not_intro h)).trans ((if_neg n).trans ((if_neg k).trans ((if_neg (not_not_intro m)).trans (if_pos q)))))))
 |hang i d g hw h n k m q=>exact(if_neg (not_or.mpr ⟨zP i d,zP g hw⟩)).trans ((x0 i d).trans ((x0 g hw).trans ((if_neg (not_not_intro h)).trans ((if_neg n).trans ((if_neg k).trans ((if_neg (not_not_intro m)).trans (if_neg (cZy.mpr q))))))))
 |oneN h t=>rcases t with rfl|⟨_,rfl⟩|⟨_,rfl⟩|⟨_,rfl⟩|⟨_,rfl⟩|rfl|rfl|rfl|rfl<;> (unfold Bk.out;exact bWO h)
 |looseN f d h=>unfold Bk.out;exact(x0 f d).trans (if_pos h)
 |loose f d h=>unfold Bk.out;exact(x0 f d).trans (if_neg h)
 |dateE f d h=>unfold Bk.out;exact(x0 f d).trans (if_pos h)
 |date f d k m=>unfold Bk.out;exact(x0 f d).trans (if_neg (not_or.mpr ⟨λ⟨j,a,b⟩=>absurd (k j a) (Int.not_le.mpr b),λ⟨c,a,b⟩=>absurd (m c a) (Int.not_le.mpr b)⟩))
 |termN f d h=>unfold Bk.out;exact(x0 f d).trans (if_pos h)
 |term f d h=>unfold Bk.out;exact(x0 f d).trans (if_neg (cZy.mpr h))
 |copyC f d h=>unfold Bk.out;exact(x0 f d).trans (if_pos h)
 |copy f d h m=>unfold Bk.out;exact(x0 f d).trans (if_neg (not_or.mpr ⟨h,m⟩))
 |file f d=>unfold Bk.out;exact x0 f d
 |voidA f d h=>unfold Bk.out;exact(x0 f d).trans (if_neg h)
 |void f d h=>unfold Bk.out;exact(x0 f d).trans (if_pos h)
 |shutN h=>exact if_neg (by rw[h];exact Bool.noConfusion)
 |shut h=>exact if_pos h
 |state f d=>unfold Bk.out;exact x0 f d
 |thread f d=>unfold Bk.out;exact x0 f d
 |copies f d=>unfold Bk.out;exact x0 f d
 |letters=>rfl
 |on h=>exact(dif_pos ⟨_,h⟩).trans (by rw[(cJm (⟨_,h⟩:∃l,bQH R S _ _ l)).uniq h])
def xV.det{R g R2:Rows}{S b d:List Int}{e f:xS}{a c:Ans}(j:f=e)(h:xV R S e a g b)(i:xV R S f c R2 d):a=c/\g=R2/\b=d:=by
 subst j;have q:=h.out.symm.trans i.out;exact⟨congrArg (·.1) q,congrArg (·.2.1) q,congrArg (·.2.2) q⟩
end Bk
namespace Desk
open Bk (Row Rows xV xS Ans)
def Run.inv{R c:Rows}{S b:List Int}{l:List xS}{bs:List Ans}(h:Run R S l bs c b):(l= []/\bs= []/\c=R/\b=S)\/∃g e i a j f,l=g++ [e]/\bs=i++ [a]/\Run R S g i j f/\xV j f e a c b:=by
 cases h with
 |nil=>exact .inl ⟨rfl,rfl,rfl,rfl⟩
 |snoc h d=>exact .inr ⟨_,_,_,_,_,_,rfl,rfl,h,d⟩
def Run.det{R:Rows}{S:List Int}:∀ (n:Nat) {b:List xS} {j bs:List Ans} {c R2:Rows} {f i:List Int},b.length=n->Run R S b j c f->Run R S b bs R2 i->j=bs/\c=R2/\f=i
 |0,b,j,bs,c,R2,f,i,hn,h,h2=>by
  rcases h.inv with⟨rfl,rfl,rfl,rfl⟩|⟨_,_,_,_,_,_,rfl,_⟩
  ·rcases h2.inv with⟨_,rfl,rfl,rfl⟩|⟨m,u,_,_,_,_,z,_⟩
   ·exact⟨rfl,rfl,rfl⟩
   ·exact absurd (congrArg cZe z) (by simp)
  ·simp at hn
 |n+1,b,j,bs,c,R2,f,i,hn,h,h2=>by
  rcases h.inv with⟨rfl,_⟩|⟨o,e,p,a,x,v,rfl,rfl,g,d⟩
  ·simp at hn
  ·rcases h2.inv with⟨z,_⟩|⟨s,u,t,w,r,l,z,rfl,k,q⟩
   ·exact absurd (congrArg cZe z) (by simp)
   ·obtain⟨rfl,z2⟩:=cX1 z rfl;cases z2;obtain⟨rfl,rfl,rfl⟩:=Run.det n (by simpa using hn) g k;obtain⟨rfl,rfl,rfl⟩:=Bk.xV.det rfl d q;exact⟨rfl,rfl,rfl⟩
end Desk
namespace Law
open PySem L2 PyProof.Rows
open Bk (Row Rows xV xS Ans)
open Desk (xE wY uH Wf Up Run x3 qQ)
def qH{o b:List Nat}{H c:Hp}{a:Ans}{v:V}(h:wY o H a v)(k:∀p u,p∉o->H p=some u->p∉b/\c p=some u):wY b c a v:=by
 cases a with
 |num n=>exact h
 |txt x=>exact h
 |nums l=>obtain⟨p,e,n,q⟩:=h;exact⟨p,e,k p _ n q⟩
 |txts l=>obtain⟨p,e,n,q⟩:=h;exact⟨p,e,k p _ n q⟩
 |row r=>obtain⟨p,e,n,q⟩:=h;exact⟨p,e,k p _ n q⟩
structure Mid(H0:Hp)(ra sa ds us:Nat)(es:List xS)(das:List Nat)(i:Nat)(H:Hp):Prop where
 ne:ds≠us
 wf:∀e∈es,Wf e
 len:das.length=es.length
 at_:∀ (j:Nat)(d:Nat)(e:xS),das[j]? =some d->es[j]? =some e->H d=some (.tup (xE e))
 ex:∃ (rs:List Nat)(as:List Ans)(vs:List V),LGo H0 ra sa (es.take i) as H rs/\aV3 H0 ra sa H rs ds (das.map V.ref)/\aV3 H0 ra sa H rs us vs/\cQA (λv a=>wY (us::ds::sa::ra::rs) H a v) vs as
def Mid.same{o H l:Hp}{c sa h us:Nat}{f:List xS}{b:List Nat}{i:Nat}(m:Mid o c sa h us f b i H)(k:xA H l):Mid o c sa h us f b i l:=by
 obtain⟨y,x,t,g,s,r,p⟩:=m.ex;exact⟨m.ne,m.wf,m.len,λj d e q w=>k _ _ (m.at_ j d e q w),y,x,t,g.same k,s.same g.dom k,r.same g.dom k,qQ (λv a z=>qH z λp u n e=>⟨n,k _ _ e⟩) p⟩
def Mid.keep{b H:Hp}{e sa d us:Nat}{c:List xS}{a:List Nat}{i:Nat}(m:Mid b e sa d us c a i H):xA b H:=let ⟨rs,as,vs,g,_⟩:=m.ex;g.keep
def Mid.push{B H:Hp}{A sa o us:Nat}{k:List xS}{b:List Nat}{i:Nat}(m:Mid B A sa o us k b i H)(t:i=k.length){d:Nat}{e:xS}(E:H d=some (.tup (xE e)))(hw:Wf e):Mid B A sa o us (k++ [e]) (b++ [d]) i (upd H o (.lst ((b++ [d]).map V.ref))):=by
 obtain⟨G,F,D,g,r,C,p⟩:=m.ex;have w:=g.write r ((b++ [d]).map V.ref);have tk:∀ {x ys},H x=some (.tup ys)->upd H o (.lst ((b++ [d]).map V.ref)) x=some (.tup ys):=λ{x ys} h=>by rw[yI (λz=>by rw[z,r.at_]at h;cases h)];exact h
 refine⟨m.ne,λx c=>?_,by simp[m.len],λj x y l f=>?_,G,F,D,?_,w.2,C.write (cQr m.ne) r.nb _,qQ (λv a z=>qH z λp u n h=>⟨n,?_⟩) p⟩
 ·rcases cQm.mp c with c|c
  ·exact m.wf x c
  ·rw[bYY.mp c];exact hw
 ·by_cases s:j<k.length
  ·rw[cQd (by rw[m.len];exact s)]at l;rw[cQd s]at f;exact tk (m.at_ j x y l f)
  ·have q:j=k.length:=by
    have:=(bYS.mp f).1;simp at this;omega
   subst q;rw[bY2 (by rw[m.len];exact bYO _),m.len,cQ1]at l;rw[bY2 (bYO _),cQ1]at f;cases l;cases f;exact tk E
 ·rw[t,List.take_left' rfl];have:=w.1;rw[t,cQI]at this;exact this
 ·rw[yI (λz=>n (by rw[z];exact bYT _ bYW))];exact h
def Mid.next{Y H:Hp}{f sa s us:Nat}{o:List xS}{k:List Nat}{i:Nat}(m:Mid Y f sa s us o k i H)(hz:i<60){d:Nat}{e:xS}(hd:k[i]? =some d)(F:o[i]? =some e){Q:VK} (q:∀ (v:V)(b:Hp)(vs:List V),H us=some (.lst vs)->b us=some (.lst vs)->vs.length=i->Mid Y f sa s us o k (i+1) (upd b us (.lst (vs++ [v])))->Q v b):aXj [.ref f,.ref sa,.ref d] H Q E0:=by
 obtain⟨X,as,vs,g,O,I,p⟩:=m.ex;have a0:i<o.length:=(bYS.mp F).1;have D:(o.take i).length=i:=by rw[cQV];omega
 have K:vs.length=i:=by obtain⟨R,S,_,_,_,hr⟩:=g.ex;rw[cX0 p,<- hr.len,D]
 have hw:Wf e:=m.wf e (bY0 F);refine g.step hw (by rw[D];exact hz) (m.at_ i d e hd F) λa v b c g2 t C U=>?_;have t1:=O.step t;have G:=I.step t;refine q v b vs I.at_ G.at_ K ?_;have w:=g2.write G (vs++ [v]);obtain⟨R,S,N,_⟩:=g.ex;have tk:∀ {x ys},H x=some (.tup ys)->upd b us (.lst (vs++ [v])) x=some (.tup ys):=λ{x ys} h=>by
  have E:x≠sa:=λz=>by rw[z,N.shut]at h;cases h
  have L:x≠f:=λz=>by rw[z,N.book.lst]at h;cases h
  have B:=t.1 x _ E L (N.book.tupNo h) h;rw[yI (λz=>by rw[z,G.at_]at B;cases B)];exact B
 have o2:∀p u,p∉us::s::sa::f::X->H p=some u->p∉us::s::sa::f::c/\upd b us (.lst (vs++ [v])) p=some u:=λp u n h=>by
  have E:p≠us:=λz=>n (by rw[z];exact bYW);have L:p≠s:=λz=>n (by rw[z];simp);have P:p≠sa:=λz=>n (by rw[z];simp);have W:p≠f:=λz=>n (by rw[z];simp);have T:p∉X:=λz=>n (by simp[z]);refine⟨λz=>?_,by rw[yI E];exact t.1 p u P W T h⟩;simp only[bYQ,E,L,P,W,false_or]at z;rcases t.2.1 p z with y|y
  ·exact T y
  ·rw[h]at y;cases y
 have et:o.take (i+1)=o.take i++ [e]:=by rw[cQP,F];rfl
 refine⟨m.ne,m.wf,m.len,λj x y Z B=>tk (m.at_ j x y Z B),c,as++ [a],vs++ [v],by rw[et];exact w.1,t1.write m.ne G.nb _,w.2,?_⟩;refine Paired.snoc (qQ (λv a z=>qH z o2) p) ?_;have A:∀x,v= .ref x->x≠us:=λx ex z=>U x ex (.lst vs) (by intro _ y;cases y) (by rw[z];exact I.at_);have J:∀x,v= .ref x->x≠s:=λx ex z=>U x ex (.lst (k.map V.ref)) (by intro _ y;cases y) (by rw[z];exact O.at_);have M:∀x u,v= .ref x->x∉sa::f::c->b x=some u->x∉us::s::sa::f::c/\upd b us (.lst (vs++ [v])) x=some u:=λx u ex n h=>
  ⟨λz=>(bYQ.mp z).elim (A x ex) λz=>(bYQ.mp z).elim (J x ex) n,by rw[yI (A x ex)];exact h⟩
 cases a with
 |num n=>exact C
 |txt x=>exact C
 |nums l=>obtain⟨x,ex,n,h⟩:=C;exact⟨x,ex,M x _ ex n h⟩
 |txts l=>obtain⟨x,ex,n,h⟩:=C;exact⟨x,ex,M x _ ex n h⟩
 |row r=>obtain⟨x,ex,n,h⟩:=C;exact⟨x,ex,M x _ ex n h⟩
end Law
namespace Law
open PySem L2 PyProof.Rows
open Bk (Row Rows xV xS Ans)
open Desk (xE wY uH Wf wT stV)
def aZi(a:Array Nat):∀ (m:Nat)(b:Array Nat),((cZg m a).foldl (·++·) b).size=b.size+m*a.size
 |0,b=>by simp
 |m+1,b=>by rw[List.replicate_succ,List.foldl_cons,aZi a m,Array.size_append,Nat.succ_mul];omega
def bJR{x:Str}{n:Int}(b:x.length<=1)(f:n<=100):(Txt.mul x n).length<=100:=by
 unfold Txt.mul;split
 ·decide
 ·split
  ·omega
  ·rename_i d _;show((cZg n.toNat x.cps).foldl (·++·) #[]).size<=100;rw[aZi];have a:x.cps.size<=1:=b;have e:n.toNat*x.cps.size<=n.toNat*1:=Nat.mul_le_mul_left _ a;have c:(#[]:Array Nat).size=0:=rfl;omega
inductive bXJ(x:V)(y:V)(H:Hp)(Q:VK):Prop|mk (i n) (_:x= .str i) (_:y= .int n) (_:i.length<=1) (_:0<=n) (_:n<=100) (_:∀z:Str,z.length<=100->Q (.str z) H)
def aQq{X:Cx}:OpR X (cZp .Mult) bXJ:=by
 intro a s σ H x y v u Q I f e h;obtain⟨i,n,rfl,rfl,b,j,g,q⟩:=h;obtain⟨t,rfl⟩:=f;obtain⟨d,rfl⟩:=e;refine SB.mul ⟨?_,λc _=>?_,λc _=>?_⟩ λd k=>⟨.str (Txt.mul i n),H,I.tok _,⟨_,rfl⟩,q _ (bJR b g)⟩
 ·rw[decide_eq_false (by omega),decide_eq_false (by omega)];rfl
 ·have:(1:Int)<=(2 ^ 63 - 1) / n:=Int.le_ediv_of_mul_le (by omega) (by omega);omega
 ·have:i.length*n.toNat<=1*n.toNat:=Nat.mul_le_mul_right _ b;unfold Builtin.Str.tooLong;simp only[decide_eq_false_iff_not,cQg];omega
def bZK{l:List V}(h:0<l.length)(x:Int):∃v∈l,atI l (x % (l.length:Nat))=some v:=by
 have c:=Int.emod_nonneg x (show((l.length:Nat):Int)≠0 by omega);have d:=Int.emod_lt_of_pos x (show(0:Int)<((l.length:Nat):Int) by omega);obtain⟨k,b⟩:∃k:Nat,x % (l.length:Nat)=(k:Int):=⟨(x % (l.length:Nat)).toNat,by omega⟩;have a:k<l.length:=by omega
 refine⟨l[k],cXo a,?_⟩;rw[b];exact yR (bYG a)
def Y1{a:List Int}(h:a≠ [])(x:Int):∃n,atI (a.map V.int) (x % ((a.map V.int).length:Nat))=some (.int n):=by
 obtain⟨v,b,e⟩:=bZK (l:=a.map V.int) (by rw[bYL];exact cQZ.mpr h) x;obtain⟨n,_,rfl⟩:=cQH.mp b;exact⟨n,e⟩
def aZ8{l:List Nat}(h:l≠ [])(x:Int):∃n,atI (l.map λi=>V.int (i:Nat)) (x % ((l.map λi=>V.int (i:Nat)).length:Nat))=some (.int n):=by
 obtain⟨v,a,e⟩:=bZK (l:=l.map λi=>V.int (i:Nat)) (by rw[bYL];exact cQZ.mpr h) x;obtain⟨n,_,rfl⟩:=cQH.mp a;exact⟨n,e⟩
def vH(H:Hp)(v:V):Prop:=∃p e,v= .ref p/\H p=some (.tup (xE e))/\Wf e
def vH.same{H d:Hp}{v:V}(h:vH H v)(k:xA H d):vH d v:=let ⟨p,e,a,b,c⟩:=h;⟨p,e,a,k _ _ b,c⟩
abbrev J9:Stmt:=xC "_law_hanging"
inductive aZV(vs:List V)(H:Hp)(Q:VK)(_:XK):Prop|mk (ra ca:Nat) (rs:List Nat) (R:Rows) (ns:List Int) (k:Nat) (m:Int) (_:vs= [.ref ra,.ref ca,.int (k:Nat),.int m]) (_:y8 H ra rs R) (_:R.length<=60) (_:H ca=some (.lst (ns.map V.int))) (_:ns≠ []) (_:∀ (H':Hp)(v:V),xA H H'->vH H' v->Q v H')
section
variable {K:bYI}
def aW6:yO ["_law_rows","_law_cells","_law_k","_law_number","_law_near","_law_far","_law_free","_law_goal","_law_fits","_law_j","_law_one"] ["_law_rows","_law_cells","_law_k","_law_number"] (yH J9):=scM
def aWr:xJ ["_law_rows","_law_cells","_law_k","_law_number","_law_near","_law_far","_law_free","_law_goal","_law_fits","_law_j","_law_one"] (yH J9) "_law_j" ["_law_rows"] [0] (lsN [(".0",.local),("_law_j",.local),("_law_rows",.free)]):=
 lcM
def aWL(T:vD mg)(a6:mg "int"=none)(N:FnG P w K mg base 1 "_law_good" ["_law_rows","_law_number"] Z9)(F:Fun K "_law_hanging" "_law_hanging" J9 f fd):xD P w K mg base CX0 2 f fd ["_law_rows","_law_cells","_law_k","_law_number"] aZV:=by
 have sc:=aW6;refine F.ok (k:=1) sc (λb2 A outer s H vs Q E hr h=>?_);obtain⟨v,ca,rs,R,ns,k,m,rfl,Z,hR,hc,Y,q⟩:=h;refine⟨_,(yC (yU (i:=4) (yL yK (pv 1) (yV y3 (yV x6 (pv 2) yE) (yT yN rfl T.b_len y9 (yA (pv 1) yD))))) (yC (yU (i:=5) (yL yK (pv 1) (yV y3 (yV x6 (pv 2) yE) (yT yN rfl T.b_len y9 (yA (pv 1) yD))))) (yC (aZH (i:=6) aWr rfl sc.nd rfl rfl (xX rfl T.b_range (yA (yT yN rfl T.b_len y9 (yA (pv 0) yD)) yD)) (λ_ _ _ _ _=>(wV (yM aQp (yL ixK (yL ixK (pv 1) (pv 0)) yE) x2))) (λ_ _ _ _ _=>(pv 0))) (yC (y0 (PW.pt (vM (yM (jC hr.units0) (pv 6) (y6 yD)) (wQ (yM aQo (yV y3 (pv 4) yE) yE)))) (yF (yU (i:=3) (yL yK (pv 6) (yV y3 (pv 5) (yT yN rfl T.b_len y9 (yA (pv 6) yD)))))) yS) (yC (yU (i:=7) (yV vA (yV y3 (yV x6 (pv 4) (pv 2)) (yV x6 (yT yN rfl T.b_len y9 (yA (pv 0) yD)) yE)) (x8 w8 rfl a6 uI (yA (zG zB (yV y3 (pv 4) yE) yE) yD)))) (yC (yU (i:=8) (y6 yD)) (yC (zN cQv rfl (xX rfl T.b_range (yA (yT yN rfl T.b_len y9 (yA (pv 0) yD)) yD)) (xB (i:=9)) (yF (y0 (PW.pt (vM (xQ (xK N hr rfl (yA (pv 0) (yA (pv 3) yD)))) (wQ (yM Y8 (yL yK (yL yK (pv 0) (pv 9)) yE) (yL yK (yL yK (pv 0) (pv 3)) yE))))) (yC (yU (i:=10) (yL yK (pv 0) (pv 9))) (yF (y0 (PW.pt (vM (yM zB (yL yK (pv 10) yE) (yL yK (yL yK (pv 0) (pv 3)) yE)) (wQ (yM aYs (yL yK (pv 10) yE) (yL yK (yL yK (pv 0) (pv 3)) yE))))) (yF (yY (uF cQj cQo cQp xL (pv 8) (yA (pv 9) yD)))) yS))) yS))) (yC (y0 (PW.pt (vM (yM (jC hr.units0) (pv 8) (y6 yD)) (wQ (yM aQo (yV y3 (pv 4) yE) yE)))) (yF (yU (i:=7) (yL yK (pv 8) (yV y3 (yV x6 (yV Y7 (pv 4) yE) (pv 2)) (yT yN rfl T.b_len y9 (yA (pv 8) yD)))))) yS) (yF (yP (xI (yA yQ (yA (pv 3) (yA (pv 7) yD)))))))))))))),?_⟩;have hl:(rs.map V.ref).length=R.length:=by rw[bYL];exact Z.len
 have S:(0:Int)<((ns.map V.int).length:Nat):=by rw[bYL];have:=cQZ.mpr Y;omega
 obtain⟨g,a2⟩:=Y1 Y ((k:Nat)+1);obtain⟨M,a7⟩:=Y1 Y ((k:Nat)+2);refine⟨_,rfl,_,rfl,_,_,rfl,rfl,_,rfl,ca,_,rfl,.inl (SqL.of hc),_,_,rfl,rfl,S,ca,_,_,_,rfl,rfl,SqL.of hc,a2,?_⟩;dsimp only[yW];refine⟨_,rfl,_,rfl,_,_,rfl,rfl,_,rfl,ca,_,rfl,.inl (SqL.of hc),_,_,rfl,rfl,S,ca,_,_,_,rfl,rfl,SqL.of hc,a7,?_⟩;dsimp only[yW];refine⟨_,rfl,v,_,rfl,.inl (SqL.of Z.lst),?_⟩;rw[hl];refine⟨_,rfl,by omega,by omega,λD hD=>?_⟩;rw[cQc];refine J2 (λj=>decide (wO (Bk.lk R j)=V.non)) (λk=>V.int (k:Nat)) hD (by rw[cQg];omega) (λj hj H' R' hH O=>?_) (λk hk _ H' R' hH O=>⟨_,rfl,O⟩) ?_
 ·have L:=bYG hj;obtain⟨b,g1,g2,cp,g3,g4⟩:=Z.get L;have a9:H' v=some (.lst (rs.map V.ref)):=by rw[hH v (yJ Z.lst hD)];exact Z.lst
  have hb:H' b=_:=(hH b (yJ g3 hD)).trans g3;rw[Bk.vS L]at O;exact⟨_,rfl,_,rfl,v,_,_,_,rfl,rfl,SqL.of a9,yR g1,b,_,4,_,rfl,rfl,SqL.of hb,rfl,rfl,_,rfl,O⟩
 generalize b0:(bYU R.length).filter (λj=>decide (wO (Bk.lk R j)=V.non))=free;have k1:=yG hD (.lst (free.map λi=>V.int (i:Nat)));have a0:upd H D (.lst (free.map λi=>V.int (i:Nat))) D=some (.lst (free.map λi=>V.int (i:Nat))):=yB;generalize upd H D (.lst (free.map λi=>V.int (i:Nat)))=H1 at k1 a0 ⊢;dsimp only[yW];refine zE (λG H'=>∃W:Int,G= [some (.ref v),some (.ref ca),some (.int (k:Nat)),some (.int W),some (.int g),some (.int M),some (.ref D),none,none,none,none]/\xA H H') ?jW (λd=>?_);case jW=>
  rintro G H2 ⟨W,rfl,k2⟩;have a8:=Z.same k2;refine⟨_,rfl,_,rfl,_,_,rfl,rfl,_,rfl,v,_,rfl,.inl (SqL.of a8.lst),_,_,rfl,rfl,_,_,rfl,rfl,(show(0:Int)<(((rs.map V.ref).length:Nat):Int)+1 by omega),_,rfl,_,_,rfl,rfl,(show(0:Int)<11 by decide),rfl,.inr ⟨_,rfl,_,_,rfl,rfl,?_⟩⟩;dsimp only[yW];refine⟨z0,λU a1=>?_⟩;dsimp only[yW];refine⟨_,rfl,v,_,rfl,.inl (SqL.of ((yG a1 (.lst [])) _ _ a8.lst)),?_⟩;rw[hl];refine⟨_,rfl,by omega,by omega,?_⟩;rw[cQc];have a5:H U=none:=k2.fresh a1;generalize ((g+(k:Nat)) % ((R.length:Nat)+1) - if decide (V.int (g % 11)=V.int 5)=true then 1 else 0)=goal;refine zM (λt σ H3=>∃ (a:List Nat)(o9 J:Option V),σ= [some (.ref v),some (.ref ca),some (.int (k:Nat)),some (.int W),some (.int g),some (.int M),some (.ref D),some (.int goal),some (.ref U),o9,J]/\xA H H3/\H3 U=some (.lst (a.map λi=>V.int (i:Nat)))/\a.length<=t) ?_ ?_ ?_
  ·exact⟨[],none,none,rfl,k2.trans (yG a1 _),yB,bYO _⟩
  ·rintro j σ H3 hj ⟨a,o9,J,rfl,I,n,a4⟩;rw[cXM];dsimp only[yW];have u:=Z.same I;have L:=bYG hj;obtain⟨bj,j1,j2,cj,j3,j4⟩:=u.get L;refine⟨_,rfl,_,rfl,v,rs,R,W,rfl,u,_,rfl,?_⟩;cases h1:Bk.wN R W with
   |false=>exact onF rfl (onF rfl ⟨a,_,_,rfl,I,n,by omega⟩)
   |true=>
   obtain⟨i,r,rfl,b1,hi,hv⟩:=Bk.wF h1;obtain⟨b,g1,g2,cp,g3,g4⟩:=u.get hi;refine onT rfl ⟨_,rfl,_,rfl,v,_,_,_,rfl,rfl,SqL.of u.lst,yR j1,bj,_,0,_,rfl,rfl,SqL.of j3,rfl,_,rfl,_,rfl,v,_,_,_,rfl,rfl,SqL.of u.lst,yR g1,b,_,0,_,rfl,rfl,SqL.of g3,rfl,rfl,_,rfl,?_⟩;refine qF (λc1=>?_) (λc1=>?_)
   ·refine⟨_,rfl,_,rfl,v,_,_,_,rfl,rfl,SqL.of u.lst,yR j1,?_⟩;dsimp only[yW];refine⟨_,rfl,bj,_,2,_,rfl,rfl,SqL.of j3,rfl,_,rfl,_,rfl,v,_,_,_,rfl,rfl,SqL.of u.lst,yR g1,b,_,2,_,rfl,rfl,SqL.of g3,rfl,rfl,_,rfl,?_⟩;rw[wW];cases h2:decide (R[j].partner=r.partner)with
    |false=>exact onF rfl (onF rfl ⟨a,_,_,rfl,I,n,by omega⟩)
    |true=>
    refine onT rfl ⟨_,rfl,bj,_,1,_,rfl,rfl,SqL.of j3,rfl,_,rfl,_,rfl,v,_,_,_,rfl,rfl,SqL.of u.lst,yR g1,b,_,1,_,rfl,rfl,SqL.of g3,rfl,_,_,rfl,rfl,_,rfl,?_⟩;refine qF (λc2=>?_) (λc2=>?_)
    ·refine⟨_,rfl,.inl ⟨rfl,_,SqL.of n⟩,_,rfl,U,_,_,rfl,rfl,n,zlt (by rw[bYL];omega),?_⟩;have e5:(a.map λi=>V.int (i:Nat))++ [V.int (j:Nat)]=(a++ [j]).map λi=>V.int (i:Nat):=by simp
     rw[e5];refine⟨a++ [j],_,_,rfl,λx o e=>?_,yB,by rw[bY5];simp;omega⟩;rw[yI (λz=>by rw[z,a5]at e;cases e)];exact I _ _ e
    ·exact⟨a,_,_,rfl,I,n,by omega⟩
   ·exact⟨a,_,_,rfl,I,n,by omega⟩
  ·rintro σ H3 ⟨a,o9,J,rfl,I,n,a4⟩;dsimp only[aKh];refine zE (λG H'=>∃g':Int,G= [some (.ref v),some (.ref ca),some (.int (k:Nat)),some (.int W),some (.int g),some (.int M),some (.ref D),some (.int g'),some (.ref U),o9,J]/\xA H H') ?rest2 (λd=>?_);case rest2=>
    rintro G H4 ⟨g',rfl,k4⟩;refine⟨_,rfl,_,rfl,z3,λp hp=>?_⟩;exact q _ _ (k4.trans (yG hp _)) ⟨p,.hang W g',rfl,yB,trivial⟩
   refine⟨_,rfl,z0,λpn y=>⟨U,pn,_,rfl,rfl,SqL.of ((yG y (.lst [])) _ _ n),SqL.of yB,_,rfl,?_⟩⟩;have B:=yG y (.lst []);generalize upd H3 pn (.lst [])=H4 at B ⊢;by_cases l:a= []
   ·subst l;exact onF rfl (onF rfl (d _ _ ⟨goal,rfl,I.trans B⟩))
   refine onT (by cases a with|nil=>exact absurd rfl l|cons=>rfl) ⟨_,rfl,_,_,rfl,rfl,(show(0:Int)<7 by decide),_,_,rfl,rfl,_,rfl,?_⟩;refine qF (λc=>?_) (λc=>d _ _ ⟨goal,rfl,I.trans B⟩);obtain⟨g',X⟩:=aZ8 l (g / 7+(k:Nat));have C:=B _ _ n;have a3:(0:Int)<((a.map λi=>V.int (i:Nat)).length:Nat):=by rw[bYL];have:=cQZ.mpr l;omega
   refine⟨_,rfl,_,rfl,_,_,rfl,rfl,⟨by decide,by decide⟩,_,rfl,_,_,rfl,rfl,_,rfl,U,_,rfl,.inl (SqL.of C),_,_,rfl,rfl,a3,U,_,_,_,rfl,rfl,SqL.of C,X,?_⟩;dsimp only[yW];exact d _ _ ⟨g',rfl,I.trans B⟩
 refine⟨_,rfl,z0,λpn y=>⟨D,pn,_,rfl,rfl,SqL.of ((yG y (.lst [])) _ _ a0),SqL.of yB,_,rfl,?_⟩⟩;have B:=yG y (.lst []);generalize upd H1 pn (.lst [])=H4 at B ⊢;by_cases l:free= []
 ·subst l;exact onF rfl (onF rfl (d _ _ ⟨m,rfl,k1.trans B⟩))
 refine onT (by cases free with|nil=>exact absurd rfl l|cons=>rfl) ⟨_,rfl,_,_,rfl,rfl,(show(0:Int)<5 by decide),_,_,rfl,rfl,_,rfl,?_⟩;refine qF (λc=>?_) (λc=>d _ _ ⟨m,rfl,k1.trans B⟩);obtain⟨g',X⟩:=aZ8 l M;have C:=B _ _ a0;have a3:(0:Int)<((free.map λi=>V.int (i:Nat)).length:Nat):=by rw[bYL];have:=cQZ.mpr l;omega
 refine⟨_,rfl,_,rfl,_,rfl,D,_,rfl,.inl (SqL.of C),_,_,rfl,rfl,a3,D,_,_,_,rfl,rfl,SqL.of C,X,?_⟩;dsimp only[yW];exact d _ _ ⟨g',rfl,k1.trans B⟩
end
end Law
namespace Law
open PySem L2 PyProof.Rows
open Bk (Row Rows xV xS Ans)
open Desk (xE wY uH Wf wT stV)
def bQ3{K:bYI}{x i:V}{H:Hp}{Q:VK}{a:Nat}{xs:List V}{j:Int}(e:x= .ref a)(d:i= .int j)(c:SqL K H a xs)(h0:0<=j)(f:j<(xs.length:Nat))(q:∀v∈xs,Q v H):bV8 K x i H Q:=by
 obtain⟨k,rfl⟩:∃k:Nat,j=(k:Int):=⟨j.toNat,by omega⟩;have b:k<xs.length:=by omega
 exact⟨a,xs,_,_,e,d,c,yR (bYG b),q _ (cXo b)⟩
def jO{K:bYI}{x i:V}{H:Hp}{Q:VK}{a:Nat}{xs:List V}{j:Int}(e:x= .ref a)(d:i= .int j)(f:SqL K H a xs)(h0:0<=j)(b:j<(xs.length:Nat))(c:∀v∈xs,∃n,v= .int n)(q:∀n,V.int n∈xs->Q (.int n) H):bV8 K x i H Q:=
 bQ3 e d f h0 b λv m=>by obtain⟨n,rfl⟩:=c v m;exact q n m
def aQc{K:bYI}{x i:V}{H:Hp}{Q:VK}{a:Nat}{xs:List V}{j:Int}(e:x= .ref a)(d:i= .int j)(f:SqL K H a xs)(h0:0<=j)(b:j<(xs.length:Nat))(c:∀v∈xs,∃n,v= .str n)(q:∀n,V.str n∈xs->Q (.str n) H):bV8 K x i H Q:=
 bQ3 e d f h0 b λv m=>by obtain⟨n,rfl⟩:=c v m;exact q n m
def b0{b:Bool}:(0:Int)<=(if b=true then 1 else 0):=by split<;> decide
def b1{b:Bool}:(if b=true then(1:Int)else 0)<2:=by split<;> decide
def md0{x n:Int}(h:0<n):0<=x % n:=Int.emod_nonneg x (by omega)
def md1{x n:Int}(h:0<n):x % n<n:=Int.emod_lt_of_pos x h
structure jL(H0 H:Hp)(ma:Nat)(n:Nat):Prop where
 k:xA H0 H
 new:H0 ma=none
 ex:∃vs,H ma=some (.lst vs)/\vs.length=n/\∀v∈vs,vH H v
def jL.same{f H e:Hp}{d:Nat}{n:Nat}(m:jL f H d n)(k:xA H e):jL f e d n:=
 ⟨m.k.trans k,m.new,let ⟨vs,a,b,c⟩:=m.ex;⟨vs,k _ _ a,b,λv g=>(c v g).same k⟩⟩
def jL.push{j H:Hp}{d:Nat}{n:Nat}(m:jL j H d n){vs:List V}(e:H d=some (.lst vs)){v:V}(l:vH H v):jL j (upd H d (.lst (vs++ [v]))) d (n+1):=by
 obtain⟨k,i,q,a,b,c⟩:=m;rw[e]at a;cases a;have r:∀v,vH H v->vH (upd H d (.lst (vs++ [v]))) v:=λv ⟨p,e',h1,h2,h3⟩=>⟨p,e',h1,by rw[yI (λz=>by rw[z,e]at h2;cases h2)];exact h2,h3⟩;have f:∀v x,vH H v->vH (upd H d x) v:=λv x ⟨p,e',h1,h2,h3⟩=>⟨p,e',h1,by rw[yI (λz=>by rw[z,e]at h2;cases h2)];exact h2,h3⟩;refine⟨λx o h=>by rw[yI (λz=>by rw[z,i]at h;cases h)];exact k _ _ h,i,_,yB,by simp[b],λu g=>?_⟩;rcases cQm.mp g with g|g
 ·exact f _ _ (c u g)
 ·rw[bYY.mp g];exact f _ _ l
def bZk{v:V}{i:Nat}{u:TS}{D:aZ4}{σ:L2.St}{H:Hp}(h:u D (σ.set i (some v)) H):bKB (bKz (tC v) (yW i)) u D σ H:=h
abbrev aVD:Stmt:=xC "_law_about"
inductive bQh(vs:List V)(H:Hp)(Q:VK)(_:XK):Prop|mk (ra ca:Nat) (rs:List Nat) (R:Rows) (ns:List Int) (k:Nat) (m turn:Int) (_:vs= [.ref ra,.ref ca,.int (k:Nat),.int m,.int turn]) (_:y8 H ra rs R) (_:R.length<=60) (_:H ca=some (.lst (ns.map V.int))) (_:k<ns.length) (_:15<=turn) (_:turn<24) (_:∀ (H':Hp)(v:V),xA H H'->vH H' v->Q v H')
section
variable {K:bYI}
def bXY:yO ["_law_rows","_law_cells","_law_k","_law_number","_law_turn","_law_near","_law_far","_law_base","_law_tied","_law_name","_law_way","_law_further","_law_menu","_law_stop","_law_asks"] ["_law_rows","_law_cells","_law_k","_law_number","_law_turn"] (yH aVD):=scM
def bQ8:xJ ["_law_rows","_law_cells","_law_k","_law_number","_law_turn","_law_near","_law_far","_law_base","_law_tied","_law_name","_law_way","_law_further","_law_menu","_law_stop","_law_asks"] (yH aVD) "_law_j" ["_law_rows"] [0] (lsN [(".0",.local),("_law_j",.local),("_law_rows",.free)]):=
 lcM
seal PE PA PS PSs PT in
def bXn(T:vD mg)(a0:mg "int"=none)(O:FnG P w K mg base 1 "_law_good" ["_law_rows","_law_number"] Z9)(F:Fun K "_law_about" "_law_about" aVD f fd):xD P w K mg base CX0 2 f fd ["_law_rows","_law_cells","_law_k","_law_number","_law_turn"] bQh:=by
 have sc:=bXY;refine F.ok (k:=1) sc (λj5 A outer s H vs Q E hr h=>?_);obtain⟨ra,ca,rs,R,ns,k,m,turn,rfl,Y,hR,hc,b2,j3,j0,q⟩:=h;refine⟨_,(yC (yU (i:=5) (yL yK (pv 1) (yV y3 (yV x6 (pv 2) yE) (yT yN rfl T.b_len y9 (yA (pv 1) yD))))) (yC (yU (i:=6) (yL yK (pv 1) (yV y3 (yV x6 (pv 2) yE) (yT yN rfl T.b_len y9 (yA (pv 1) yD))))) (yC (yU (i:=7) yE) (yC (y0 (xQ (xK O hr rfl (yA (pv 0) (yA (pv 3) yD)))) (yF (yU (i:=7) (yL yK (yL yK (pv 0) (pv 3)) yE))) yS) (yC (aZH (i:=8) bQ8 rfl sc.nd rfl rfl (xX rfl T.b_range (yA (yT yN rfl T.b_len y9 (yA (pv 0) yD)) yD)) (λ_ _ _ _ _=>(wV (yM wC (yL ixK (yL ixK (pv 1) (pv 0)) yE) x2))) (λ_ _ _ _ _=>(pv 0))) (yC (y0 (PW.pt (vM (yM zB (pv 4) yE) (vM (yM (jC hr.units0) (pv 8) (y6 yD)) (wQ (yM aQo (yV y3 (pv 5) yE) yE))))) (yF (yU (i:=3) (yL yK (pv 8) (yV y3 (pv 6) (yT yN rfl T.b_len y9 (yA (pv 8) yD)))))) yS) (yC (yU (i:=9) (yL yK (y6 (yA yQ (yA yQ (yA yQ (yA yQ (yA yQ (yA (yV aQq yQ yE) yD))))))) (yV y3 (pv 5) (yL yK (y6 (yA yE (yA yE yD))) (yV y3 (yL yK (pv 1) (pv 2)) yE))))) (yC (yU (i:=10) (x8 w8 rfl a0 uI (yA (zG zB (yV y3 (yL yK (pv 1) (pv 2)) yE) yE) yD))) (yC (yU (i:=11) (yV vA (yV x6 (pv 7) (yV y3 (pv 5) (yL yK (y6 (yA yE (yA yE yD))) (pv 10)))) (yL yK (y6 (yA yE (yA yE yD))) (pv 10)))) (yC (yU (i:=12) (y6 (yA (xI (yA yQ (yA (pv 3) yD))) (yA (xI (yA yQ (yA (pv 3) (yA (pv 11) yD)))) yD)))) (yC (yY (uF cQj cQo cQp xL (pv 12) (yA (xI (yA yQ (yA (pv 3) (yA (yL yK (y6 (yA yE (yA yE (yA yE (yA yE (yA (aYx aZ0 yE) yD)))))) (yV y3 (pv 5) yE)) yD)))) yD))) (yC (yY (uF cQj cQo cQp xL (pv 12) (yA (xI (yA yQ (yA (pv 3) (yA (yL yK (y6 (yA yQ (yA yQ (yA yQ (yA yQ (yA yQ (yA (yV aQq yQ yE) yD))))))) (yV y3 (pv 5) yE)) yD)))) yD))) (yC (yU (i:=13) (yL yK (y6 (yA (yV vA (yV y3 (pv 5) yE) yE) (yA (yV x6 (pv 7) (yV y3 (pv 5) yE)) yD))) (x8 w8 rfl a0 uI (yA (zG zB (yV y3 (pv 6) yE) yE) yD)))) (yC (yU (i:=12) (yV aVs (pv 12) (y6 (yA (xI (yA yQ (yA (pv 3) (yA (pv 9) yD)))) (yA (xI (yA yQ (yA (pv 3) yD))) (yA (xI (yA yQ (yA (pv 13) yD))) yD)))))) (yC (yU (i:=14) (y6 (yA (xI (yA yQ (yA (pv 3) yD))) (yA (xI (yA yQ (yA (pv 3) yD))) (yA (xI (yA yQ (yA (yV vA (yV y3 (pv 6) yE) yE) yD))) yD))))) (yC (yU (i:=14) (yV aVs (pv 14) (y6 (yA (xI (yA yQ (yA (pv 9) yD))) (yA (xI (yA yQ (yA (yV vA (yV y3 (pv 6) yE) yE) yD))) (yA (xI (yA yQ (yA (pv 3) yD))) yD)))))) (yC (y0 (yM vF (pv 4) yE) (yF (yP (yL yK (pv 12) (yV vA (pv 4) yE)))) yS) (yF (yP (yL yK (pv 14) (yV y3 (yV x6 (yV Y7 (pv 5) yE) (pv 4)) yE))))))))))))))))))))),?_⟩;have a4:ns≠ []:=λz=>by rw[z]at b2;simp at b2
 have hl:(rs.map V.ref).length=R.length:=by rw[bYL];exact Y.len
 have Z:(0:Int)<((ns.map V.int).length:Nat):=by rw[bYL];have:=cQZ.mpr a4;omega
 have e1:(ns.map V.int)[k]? =some (.int ns[k]):=by rw[bY1,bYG b2];rfl
 obtain⟨d,b4⟩:=Y1 a4 ((k:Nat)+1);obtain⟨g,e2⟩:=Y1 a4 ((k:Nat)+2);refine⟨_,rfl,_,rfl,_,_,rfl,rfl,_,rfl,ca,_,rfl,.inl (SqL.of hc),_,_,rfl,rfl,Z,ca,_,_,_,rfl,rfl,SqL.of hc,b4,?_⟩;dsimp only[yW];refine⟨_,rfl,_,rfl,_,_,rfl,rfl,_,rfl,ca,_,rfl,.inl (SqL.of hc),_,_,rfl,rfl,Z,ca,_,_,_,rfl,rfl,SqL.of hc,e2,?_⟩;dsimp only[yW];refine bZk ?_;refine zE (λo t=>∃bs:Int,o= [some (.ref ra),some (.ref ca),some (.int (k:Nat)),some (.int m),some (.int turn),some (.int d),some (.int g),some (.int bs),none,none,none,none,none,none,none]/\t=H) ?jW (λl=>?_);case jW=>
  rintro o t ⟨bs,rfl,rfl⟩;refine⟨_,rfl,ra,_,rfl,.inl (SqL.of Y.lst),?_⟩;rw[hl];refine⟨_,rfl,by omega,by omega,λD hD=>?_⟩;rw[cQc];refine J2 (λj=> !decide (wO (Bk.lk R j)=V.non)) (λk=>V.int (k:Nat)) hD (by rw[cQg];omega) (λj hj H1 R' hH S=>?_) (λk hk _ t R' hH S=>⟨_,rfl,S⟩) ?_
  ·have c0:=bYG hj;obtain⟨b,U,g2,cp,p,L⟩:=Y.get c0;have h4:H1 ra=some (.lst (rs.map V.ref)):=by rw[hH ra (yJ Y.lst hD)];exact Y.lst
   have hb:H1 b=_:=(hH b (yJ p hD)).trans p;rw[Bk.vS c0]at S;exact⟨_,rfl,_,rfl,ra,_,_,_,rfl,rfl,SqL.of h4,yR U,b,_,4,_,rfl,rfl,SqL.of hb,rfl,rfl,_,rfl,S⟩
  generalize i9:(bYU R.length).filter (λj=> !decide (wO (Bk.lk R j)=V.non))=free;have k1:=yG hD (.lst (free.map λi=>V.int (i:Nat)));have a8:upd t D (.lst (free.map λi=>V.int (i:Nat))) D=some (.lst (free.map λi=>V.int (i:Nat))):=yB;generalize upd t D (.lst (free.map λi=>V.int (i:Nat)))=H1 at k1 a8 ⊢;dsimp only[yW];refine zE (λo H2=>∃m:Int,o= [some (.ref ra),some (.ref ca),some (.int (k:Nat)),some (.int m),some (.int turn),some (.int d),some (.int g),some (.int bs),some (.ref D),none,none,none,none,none,none]/\xA t H2) ?rest2 (λl=>?_);case rest2=>
   rintro o H2 ⟨m,rfl,k2⟩;refine⟨_,_,rfl,rfl,by decide,by decide,by decide,λy i5=>⟨zn (by show 6<=100000;omega),λl6 e5=>?_⟩⟩;have e6:=yG e5 (.lst [.str "old",.str "",.str "new",.str "old files",.str "Old, ~",.str y]);have h6:upd H2 l6 (.lst [.str "old",.str "",.str "new",.str "old files",.str "Old, ~",.str y]) l6=some (.lst [.str "old",.str "",.str "new",.str "old files",.str "Old, ~",.str y]):=yB;generalize upd H2 l6 (.lst [.str "old",.str "",.str "new",.str "old files",.str "Old, ~",.str y])=H3 at e6 h6 ⊢;refine⟨_,rfl,z2,λl2 h5=>?_⟩;have e7:=yG h5 (.lst [.int 3,.int 6]);have h7:upd H3 l2 (.lst [.int 3,.int 6]) l2=some (.lst [.int 3,.int 6]):=yB;have d0:=e7 _ _ h6;have k4:=(k2.trans e6).trans e7;generalize upd H3 l2 (.lst [.int 3,.int 6])=H4 at e7 h7 d0 k4 ⊢;have b9:=k4 _ _ hc;refine⟨_,rfl,_,rfl,ca,_,_,_,rfl,rfl,SqL.of b9,yR e1,_,_,rfl,rfl,(show(0:Int)<2 by decide),?_⟩;refine jO rfl rfl (SqL.of h7) (md0 (by decide)) (md1 (by decide)) (by simp) λj hj=>?_;have i7:j=3\/j=6:=by simpa using hj
   refine⟨_,_,rfl,rfl,(show(0:Int)<j by omega),?_⟩;refine aQc rfl rfl (SqL.of d0) (md0 (by omega)) (Int.lt_of_lt_of_le (md1 (by omega)) (show j<=6 by omega)) (by simp) λe _=>?_;dsimp only[yW];refine⟨_,rfl,_,rfl,ca,_,_,_,rfl,rfl,SqL.of b9,yR e1,_,_,rfl,rfl,(show(0:Int)<11 by decide),rfl,.inr ⟨_,rfl,?_⟩⟩;generalize i6:decide (V.int (ns[k] % 11)=V.int 4)=wb;dsimp only[yW];refine⟨_,rfl,_,rfl,z2,λl9 g9=>⟨_,rfl,?_⟩⟩;have e9:=yG g9 (.lst [.int 9,.int 3001]);refine jO rfl rfl (SqL.of yB) b0 b1 (by simp) λj hj=>?_;have j1:j=9\/j=3001:=by simpa using hj
   refine⟨_,_,rfl,rfl,(show(0:Int)<j by omega),_,_,rfl,rfl,z2,λl4 f9=>⟨_,rfl,?_⟩⟩;have I:=(k4.trans e9).trans (yG f9 (.lst [.int 4,.int 1500]));refine jO rfl rfl (SqL.of yB) b0 b1 (by simp) λj4 _=>?_;refine⟨_,_,rfl,rfl,?_⟩;generalize upd (upd H4 l9 (.lst [.int 9,.int 3001])) l4 (.lst [.int 4,.int 1500])=H5 at I ⊢;dsimp only[yW];refine⟨_,rfl,z2,λp1 e3=>⟨_,rfl,_,rfl,z3,λp2 b6=>⟨z2,λW c6=>?_⟩⟩⟩;have M1:jL t (upd (upd (upd H5 p1 (.tup [.str "loose",.int m])) p2 (.tup [.str "date",.int m,.int (bs+d % j - j4)])) W (.lst [.ref p1,.ref p2])) W 2:=by
    have a1:=yG e3 (.tup [.str "loose",.int m]);have a2:=yG b6 (.tup [.str "date",.int m,.int (bs+d % j - j4)]);have a3:=yG c6 (.lst [.ref p1,.ref p2]);refine⟨((I.trans a1).trans a2).trans a3,((I.trans a1).trans a2).fresh c6,_,yB,rfl,λv a=>?_⟩;rcases bYQ.mp a with rfl|a
    ·exact⟨p1,.loose m,rfl,a3 _ _ (a2 _ _ yB),trivial⟩
    ·rw[bYY.mp a];exact⟨p2,.date m (bs+d % j - j4),rfl,a3 _ _ yB,trivial⟩
   generalize upd (upd (upd H5 p1 (.tup [.str "loose",.int m])) p2 (.tup [.str "date",.int m,.int (bs+d % j - j4)])) W (.lst [.ref p1,.ref p2])=H6 at M1 ⊢;dsimp only[yW];obtain⟨g0,d3, -, -⟩:=M1.ex;refine⟨_,rfl,.inl ⟨rfl,_,SqL.of d3⟩,_,rfl,_,rfl,zn (by show 5<=100000;omega),λl5 i3=>⟨_,rfl,_,_,rfl,rfl,(show(0:Int)<5 by decide),?_⟩⟩;refine jO rfl rfl (SqL.of yB) (md0 (by decide)) (md1 (by decide)) (by simp) λtm _=>⟨z3,λp3 f8=>?_⟩;have a5:=(yG i3 (.lst [.int 0,.int 2,.int 6,.int 1,.int (-1)])).trans (yG f8 (.tup [.str "term",.int m,.int tm]));have d5:vH (upd (upd H6 l5 (.lst [.int 0,.int 2,.int 6,.int 1,.int (-1)])) p3 (.tup [.str "term",.int m,.int tm])) (.ref p3):=⟨p3,.term m tm,rfl,yB,trivial⟩;generalize upd (upd H6 l5 (.lst [.int 0,.int 2,.int 6,.int 1,.int (-1)])) p3 (.tup [.str "term",.int m,.int tm])=H7 at a5 d5 ⊢;have M2:=M1.same a5;have a6:=a5 _ _ d3;refine⟨W,_,_,rfl,rfl,a6,?_,?_⟩
   ·obtain⟨ws,w1,w2,_⟩:=M2.ex;rw[a6]at w1;cases w1;exact zlt (by omega)
   have M3:=M2.push a6 d5;generalize upd H7 W (.lst (g0++ [.ref p3]))=H8 at M3 ⊢;obtain⟨f6,d4, -, -⟩:=M3.ex;refine⟨_,rfl,.inl ⟨rfl,_,SqL.of d4⟩,_,rfl,_,_,rfl,rfl,by decide,by decide,by decide,λz4 j6=>⟨zn (by show 6<=100000;omega),λl7 g6=>⟨_,rfl,_,_,rfl,rfl,(show(0:Int)<6 by decide),?_⟩⟩⟩;refine aQc rfl rfl (SqL.of yB) (md0 (by decide)) (md1 (by decide)) (by simp) λM _=>⟨z3,λp4 f5=>?_⟩;have a7:=(yG g6 (.lst [.str "ann",.str "cy",.str "bo",.str "",.str "ann lee",.str z4])).trans (yG f5 (.tup [.str "copy",.int m,.str M]));have d7:vH (upd (upd H8 l7 (.lst [.str "ann",.str "cy",.str "bo",.str "",.str "ann lee",.str z4])) p4 (.tup [.str "copy",.int m,.str M])) (.ref p4):=⟨p4,.copy m M,rfl,yB,trivial⟩;generalize upd (upd H8 l7 (.lst [.str "ann",.str "cy",.str "bo",.str "",.str "ann lee",.str z4])) p4 (.tup [.str "copy",.int m,.str M])=H9 at a7 d7 ⊢;have M4:=M3.same a7;have b5:=a7 _ _ d4;refine⟨W,_,_,rfl,rfl,b5,?_,?_⟩
   ·obtain⟨ws,w1,w2,_⟩:=M4.ex;rw[b5]at w1;cases w1;exact zlt (by omega)
   have M5:=M4.push b5 d7;generalize upd H9 W (.lst (f6++ [.ref p4]))=H10 at M5 ⊢;refine⟨_,rfl,_,_,rfl,rfl,(show(0:Int)<24 by decide),_,_,rfl,rfl,_,rfl,_,rfl,_,_,rfl,rfl,(show(0:Int)<12 by decide),_,_,rfl,rfl,z2,λl8 g7=>⟨_,rfl,_,_,rfl,rfl,(show(0:Int)<3 by decide),rfl,.inr ⟨_,rfl,?_⟩⟩⟩;refine jO rfl rfl (SqL.of yB) b0 b1 (by simp) λn _=>?_;have M6:=M5.same (yG g7 (.lst [.int (d % 24 - 2),.int (bs+d % 12)]));generalize upd H10 l8 (.lst [.int (d % 24 - 2),.int (bs+d % 12)])=H11 at M6 ⊢;dsimp only[yW];obtain⟨a9,i0,c8,e4⟩:=M6.ex;refine⟨_,rfl,_,rfl,_,rfl,z3,λN h8=>⟨_,rfl,z2,λB i1=>⟨_,rfl,z2,λJ h2=>⟨z3,λb3 d6=>?_⟩⟩⟩⟩;have c1:=yG h8 (.tup [.str "file",.int m,.str e]);have c2:=yG i1 (.tup [.str "void",.int m]);have c3:=yG h2 (.tup [.str "shut",.int n]);have c4:=yG d6 (.lst [.ref N,.ref B,.ref J]);refine⟨W,b3,_,_,rfl,rfl,c4 _ _ (c3 _ _ (c2 _ _ (c1 _ _ i0))),yB,by rw[c8,cQg];show 7<=16777216;omega,λmb c7=>?_⟩;have c5:=yG c7 (.lst (a9++ [.ref N,.ref B,.ref J]));have M7:jL t (upd (upd (upd (upd (upd H11 N (.tup [.str "file",.int m,.str e])) B (.tup [.str "void",.int m])) J (.tup [.str "shut",.int n])) b3 (.lst [.ref N,.ref B,.ref J])) mb (.lst (a9++ [.ref N,.ref B,.ref J]))) mb 7:=by
    have X:=(((M6.k.trans c1).trans c2).trans c3).trans c4;refine⟨X.trans c5,X.fresh c7,_,yB,by rw[bY5,c8];rfl,λv a=>?_⟩;rcases cQm.mp a with a|a
    ·exact(e4 v a).same ((((c1.trans c2).trans c3).trans c4).trans c5)
    ·rcases bYQ.mp a with rfl|a
     ·exact⟨N,.file m e,rfl,c5 _ _ (c4 _ _ (c3 _ _ (c2 _ _ yB))),trivial⟩
     ·rcases bYQ.mp a with rfl|a
      ·exact⟨B,.void m,rfl,c5 _ _ (c4 _ _ (c3 _ _ yB)),trivial⟩
      ·rw[bYY.mp a];exact⟨J,.shut n,rfl,c5 _ _ (c4 _ _ yB),trivial⟩
   generalize upd (upd (upd (upd (upd H11 N (.tup [.str "file",.int m,.str e])) B (.tup [.str "void",.int m])) J (.tup [.str "shut",.int n])) b3 (.lst [.ref N,.ref B,.ref J])) mb (.lst (a9++ [.ref N,.ref B,.ref J]))=H12 at M7 ⊢;dsimp only[yW];refine⟨_,rfl,z2,λr1 i2=>⟨_,rfl,z2,λr2 g8=>⟨_,rfl,_,_,rfl,rfl,(show(0:Int)<26 by decide),_,_,rfl,rfl,z2,λr3 h3=>⟨z3,λna d1=>?_⟩⟩⟩⟩;have f1:=yG i2 (.tup [.str "state",.int m]);have f2:=yG g8 (.tup [.str "thread",.int m]);have f3:=yG h3 (.tup [.str "overdue",.int (g % 26 - 1)]);have f4:=yG d1 (.lst [.ref r1,.ref r2,.ref r3]);have M8:=(((M7.same f1).same f2).same f3).same f4;have N1:jL t (upd (upd (upd (upd H12 r1 (.tup [.str "state",.int m])) r2 (.tup [.str "thread",.int m])) r3 (.tup [.str "overdue",.int (g % 26 - 1)])) na (.lst [.ref r1,.ref r2,.ref r3])) na 3:=by
    have X:=((M7.k.trans f1).trans f2).trans f3;refine⟨X.trans f4,X.fresh d1,_,yB,rfl,λv a=>?_⟩;rcases bYQ.mp a with rfl|a
    ·exact⟨r1,.state m,rfl,f4 _ _ (f3 _ _ (f2 _ _ yB)),trivial⟩
    ·rcases bYQ.mp a with rfl|a
     ·exact⟨r2,.thread m,rfl,f4 _ _ (f3 _ _ yB),trivial⟩
     ·rw[bYY.mp a];exact⟨r3,.on true (g % 26 - 1),rfl,f4 _ _ yB,trivial⟩
   generalize upd (upd (upd (upd H12 r1 (.tup [.str "state",.int m])) r2 (.tup [.str "thread",.int m])) r3 (.tup [.str "overdue",.int (g % 26 - 1)])) na (.lst [.ref r1,.ref r2,.ref r3])=H13 at M8 N1 ⊢;dsimp only[yW];obtain⟨b8,i4,e0,e8⟩:=N1.ex;refine⟨_,rfl,_,rfl,z2,λC f7=>⟨_,rfl,_,_,rfl,rfl,(show(0:Int)<26 by decide),_,_,rfl,rfl,z2,λx h9=>⟨_,rfl,z2,λG h0=>⟨z3,λb7 c9=>?_⟩⟩⟩⟩;have U:=yG f7 (.tup [.str "letters",.str e]);have g2:=yG h9 (.tup [.str "waiting",.int (g % 26 - 1)]);have p:=yG h0 (.tup [.str "copies",.int m]);have L:=yG c9 (.lst [.ref C,.ref x,.ref G]);refine⟨na,b7,_,_,rfl,rfl,L _ _ (p _ _ (g2 _ _ (U _ _ i4))),yB,by rw[e0,cQg];show 6<=16777216;omega,λnb d8=>?_⟩;have g5:=yG d8 (.lst (b8++ [.ref C,.ref x,.ref G]));have M9:=((((M8.same U).same g2).same p).same L).same g5;have N2:jL t (upd (upd (upd (upd (upd H13 C (.tup [.str "letters",.str e])) x (.tup [.str "waiting",.int (g % 26 - 1)])) G (.tup [.str "copies",.int m])) b7 (.lst [.ref C,.ref x,.ref G])) nb (.lst (b8++ [.ref C,.ref x,.ref G]))) nb 6:=by
    have X:=(((M8.k.trans U).trans g2).trans p).trans L;refine⟨X.trans g5,X.fresh d8,_,yB,by rw[bY5,e0];rfl,λv a=>?_⟩;rcases cQm.mp a with a|a
    ·exact(e8 v a).same ((((U.trans g2).trans p).trans L).trans g5)
    ·rcases bYQ.mp a with rfl|a
     ·exact⟨C,.letters e,rfl,g5 _ _ (L _ _ (p _ _ (g2 _ _ yB))),trivial⟩
     ·rcases bYQ.mp a with rfl|a
      ·exact⟨x,.on false (g % 26 - 1),rfl,g5 _ _ (L _ _ (p _ _ yB)),trivial⟩
      ·rw[bYY.mp a];exact⟨G,.copies m,rfl,g5 _ _ (L _ _ yB),trivial⟩
   generalize upd (upd (upd (upd (upd H13 C (.tup [.str "letters",.str e])) x (.tup [.str "waiting",.int (g % 26 - 1)])) G (.tup [.str "copies",.int m])) b7 (.lst [.ref C,.ref x,.ref G])) nb (.lst (b8++ [.ref C,.ref x,.ref G]))=H14 at M9 N2 ⊢;dsimp only[yW];refine⟨_,rfl,_,_,rfl,rfl,_,rfl,?_⟩;refine qF (λc=>?_) (λc=>?_)
   ·have c:turn<22:=of_decide_eq_true c;obtain⟨us,u1,u2,u3⟩:=M9.ex;refine⟨_,rfl,_,rfl,_,_,rfl,rfl,?_⟩;exact bQ3 rfl rfl (SqL.of u1) (by omega) (by rw[u2];show turn - 15<7;omega) λv a=>q _ _ M9.k (u3 v a)
   ·obtain⟨us,u1,u2,u3⟩:=N2.ex;refine⟨_,rfl,_,rfl,_,_,rfl,rfl,⟨by decide,by decide⟩,_,rfl,_,_,rfl,rfl,_,_,rfl,rfl,(show(0:Int)<6 by decide),?_⟩;exact bQ3 rfl rfl (SqL.of u1) (md0 (by decide)) (by rw[u2];exact md1 (by decide)) λv a=>q _ _ N2.k (u3 v a)
  refine⟨_,rfl,rfl,_,rfl,?_⟩;cases i8:decide (V.int turn=V.int 15)with
  |false=>exact onF rfl (onF rfl (l _ _ ⟨m,rfl,k1⟩))
  |true=>
  refine onT rfl ⟨_,rfl,z0,λpn d2=>⟨D,pn,_,rfl,rfl,SqL.of ((yG d2 (.lst [])) _ _ a8),SqL.of yB,_,rfl,?_⟩⟩;have I:=yG d2 (.lst []);generalize upd H1 pn (.lst [])=H4 at I ⊢;by_cases u:free= []
  ·subst u;exact onF rfl (onF rfl (l _ _ ⟨m,rfl,k1.trans I⟩))
  refine onT (by cases free with|nil=>exact absurd rfl u|cons=>rfl) ⟨_,rfl,_,_,rfl,rfl,(show(0:Int)<4 by decide),_,_,rfl,rfl,_,rfl,?_⟩;refine qF (λc=>?_) (λc=>l _ _ ⟨m,rfl,k1.trans I⟩);obtain⟨g',f0⟩:=aZ8 u g;have d9:=I _ _ a8;have b6:(0:Int)<((free.map λi=>V.int (i:Nat)).length:Nat):=by rw[bYL];have:=cQZ.mpr u;omega
  refine⟨_,rfl,_,rfl,_,rfl,D,_,rfl,.inl (SqL.of d9),_,_,rfl,rfl,b6,D,_,_,_,rfl,rfl,SqL.of d9,f0,?_⟩;dsimp only[yW];exact l _ _ ⟨g',rfl,k1.trans I⟩
 refine⟨_,rfl,_,rfl,ra,rs,R,m,rfl,Y,_,rfl,?_⟩;cases h1:Bk.wN R m with
 |false=>exact onF rfl (l _ _ ⟨0,rfl,rfl⟩)
 |true=>
 obtain⟨i,r,rfl,j2,hi,a⟩:=Bk.wF h1;obtain⟨b,U,g2,cp,p,L⟩:=Y.get hi;refine onT rfl ⟨_,rfl,_,rfl,ra,_,_,_,rfl,rfl,SqL.of Y.lst,yR U,b,_,1,_,rfl,rfl,SqL.of p,rfl,?_⟩;dsimp only[yW];exact l _ _ ⟨r.date,rfl,rfl⟩
end
end Law
namespace Law
open PySem L2 PyProof.Rows
open Bk (Row Rows xV xS Ans)
open Desk (xE wY uH Wf wT stV)
def bWn:cQq "max"=some (.builtin "max"):=dk
def bJJ{c:TT}{t u:TS}{D:aZ4}{σ:L2.St}{H:Hp}(I:Bool->Hp->Prop)(h:∀Kk:Bool->Hp->Prop,(∀b a,I b a->Kk b a)->c σ H Kk)(d:∀a,I true a->t D σ a)(e:∀a,I false a->u D σ a):bKA c t u D σ H:=
 h _ λb a i=>by
  cases b with
  |true=>exact onT rfl (d a i)
  |false=>exact onF rfl (e a i)
def bW7{c:TT}{t u r:TS}{D:aZ4}{σ:L2.St}{H:Hp}(h:bKA c t u {D with nx:=r D} σ H):bKB (bKA c t u) r D σ H:=h
def p60:(0:Int)<10 ^ (60:Int).toNat:=dk
def c60:bYb 10 60:=⟨by decide,by decide,by decide⟩
abbrev aJS:Stmt:=xC "_law_deed_at"
inductive aVP(vs:List V)(H:Hp)(Q:VK)(_:XK):Prop|mk (ra ca:Nat) (rs:List Nat) (R:Rows) (ns:List Int) (k:Nat) (_:vs= [.ref ra,.ref ca,.int (k:Nat)]) (_:y8 H ra rs R) (_:R.length<=60) (_:H ca=some (.lst (ns.map V.int))) (_:k<ns.length) (_:∀ (H':Hp)(v:V),xA H H'->vH H' v->Q v H')
section
variable {K:bYI}
def aY7:yO ["_law_rows","_law_cells","_law_k","_law_near","_law_far","_law_turn","_law_number","_law_term","_law_date","_law_who","_law_twin","_law_base"] ["_law_rows","_law_cells","_law_k"] (yH aJS):=scM
seal PE PA PS PSs PT in
def aYl(T:vD mg)(Z:mg "int"=none)(a6:mg "max"=none)(W:FnG P w K mg base 2 "_law_good" ["_law_rows","_law_number"] Z9)(o:FnG P w K mg base 2 "_law_hanging" ["_law_rows","_law_cells","_law_k","_law_number"] aZV) (N:FnG P w K mg base 2 "_law_about" ["_law_rows","_law_cells","_law_k","_law_number","_law_turn"] bQh) (F:Fun K "_law_deed_at" "_law_deed_at" aJS f fd):xD P w K mg base CX0 3 f fd ["_law_rows","_law_cells","_law_k"] aVP:=by
 have sc:=aY7;refine F.ok (k:=2) sc (λd0 A outer s H vs Q E hr h=>?_);obtain⟨D,g,rs,R,C,k,rfl,hB,hR,J,U,q⟩:=h;refine⟨_,(yC (yU (i:=3) (yL yK (pv 1) (yV y3 (yV x6 (pv 2) yE) (yT yN rfl T.b_len y9 (yA (pv 1) yD))))) (yC (yU (i:=4) (yL yK (pv 1) (yV y3 (yV x6 (pv 2) yE) (yT yN rfl T.b_len y9 (yA (pv 1) yD))))) (yC (yU (i:=5) (yV y3 (yV x6 (yL yK (pv 1) (pv 2)) (yV aVu yE (pv 2))) yE)) (yC (yU (i:=6) (yV y3 (yV x6 (pv 4) (pv 2)) (yT (aKv rfl) rfl a6 bWn (yA yE (yA (yT yN rfl T.b_len y9 (yA (pv 0) yD)) yD))))) (yC (y0 (yM zB (yV y3 (yL yK (pv 1) (pv 2)) yE) yE) (yF (yU (i:=6) (yL yK (y6 (yA (aYx aZ0 yE) (yA (yT yN rfl T.b_len y9 (yA (pv 0) yD)) (yA (yV aQr yE yE) (yA (yV vA (aYx aZ0 yE) (yV y3 (pv 3) (yV aQr yE yE))) (yA (yV x6 (yT yN rfl T.b_len y9 (yA (pv 0) yD)) (yV y3 (pv 3) (yV aQr yE yE))) yD)))))) (yV y3 (pv 3) yE)))) yS) (yC (yU (i:=7) (yL yK (y6 (yA yE (yA yE (yA yE (yA yE (yA yE (yA yE yD))))))) (yV y3 (yV Y7 (pv 3) yE) yE))) (yC (y0 (yM zB (yV y3 (yL yK (pv 1) (pv 2)) yE) yE) (yF (yU (i:=7) (yL yK (y6 (yA (aYx aZ0 yE) (yA yE (yA (yV vA (aYx aZ0 yE) (yV y3 (pv 4) (yV aQr yE yE))) (yA (yV y3 (pv 4) yE) yD))))) (yV y3 (pv 4) yE)))) yS) (yC (y0 (PW.pt (vG (yM vF (pv 5) yE) (wM (yM (aVt hr.units0) (pv 0) (y6 yD))))) (yC (yU (i:=8) (yV x6 (yV vA (yV y3 (pv 3) yE) yE) (yV aVu (yV aQr yE yE) (x8 w8 rfl Z uI (yA (zG zB (yV y3 (yL yK (pv 1) (pv 2)) yE) yE) yD))))) (yC (y0 (yM zB (yV y3 (yL yK (pv 1) (pv 2)) yE) yE) (yF (yU (i:=8) (yL yK (y6 (yA (yV vA (yV y3 (pv 3) yE) yE) (yA (yV y3 (pv 3) (yV aQr yE yE)) (yA (yV vA yE (yV y3 (pv 3) (yV aQr yE yE))) yD)))) (yV y3 (pv 4) yE)))) yS) (yC (yU (i:=9) (yL yK (y6 (yA yQ (yA yQ (yA yQ (yA yQ yD))))) (yV y3 (pv 4) yE))) (yC (y0 (yM zB (yV y3 (yL yK (pv 1) (pv 2)) yE) yE) (yC (yU (i:=10) (yV aXe (yV aXe (yV aQq yQ (yV y3 (yL yK (pv 1) yE) yE)) yQ) (yV aQq yQ (yV vA yE (yV y3 (yL yK (pv 1) yE) yE))))) (yF (yU (i:=9) (yL yK (y6 (yA yQ (yA (pv 10) (yA (yV aQq yQ yE) yD)))) (yV y3 (pv 4) yE))))) yS) (yF (yP (xI (yA (yL yK (y6 (yA yQ (yA yQ yD))) (yV y3 (yV Y7 (pv 4) yE) yE)) (yA (pv 8) (yA (pv 9) (yA (pv 7) yD))))))))))) yS) (yC (y0 (yM vF (pv 5) yE) (yC (yU (i:=11) (yV y3 (pv 3) yE)) (yC (y0 (xQ (xK W hr rfl (yA (pv 0) (yA (pv 6) yD)))) (yF (yU (i:=11) (yV vA (yV x6 (yL yK (yL yK (pv 0) (pv 6)) yE) (yV y3 (pv 3) (yL yK (y6 (yA yE (yA yE yD))) (x8 w8 rfl Z uI (yA (zG zB (yV y3 (yL yK (pv 1) (pv 2)) yE) yE) yD))))) yE))) yS) (yF (yP (xI (yA yQ (yA (pv 6) (yA (pv 11) (yA (pv 7) yD))))))))) yS) (yC (y0 (yM vF (pv 5) yE) (yF (yP (xK o hr rfl (yA (pv 0) (yA (pv 1) (yA (pv 2) (yA (pv 6) yD))))))) yS) (yF (yP (xK N hr rfl (yA (pv 0) (yA (pv 1) (yA (pv 2) (yA (pv 6) (yA (pv 5) yD)))))))))))))))))),?_⟩;have S:C≠ []:=λz=>by rw[z]at U;simp at U
 have Y:(0:Int)<((C.map V.int).length:Nat):=by rw[bYL];have:=cQZ.mpr S;omega
 have u:(C.map V.int)[k]? =some (.int C[k]):=by rw[bY1,bYG U];rfl
 have b4:(C.map V.int)[0]? =some (.int (C[0]'(by omega))):=by rw[bY1,bYG (by omega:0<C.length)];rfl
 obtain⟨l,a2⟩:=Y1 S ((k:Nat)+1);obtain⟨I,b5⟩:=Y1 S ((k:Nat)+2);refine⟨_,rfl,_,rfl,_,_,rfl,rfl,_,rfl,g,_,rfl,.inl (SqL.of J),_,_,rfl,rfl,Y,g,_,_,_,rfl,rfl,SqL.of J,a2,?_⟩;dsimp only[yW];refine⟨_,rfl,_,rfl,_,_,rfl,rfl,_,rfl,g,_,rfl,.inl (SqL.of J),_,_,rfl,rfl,Y,g,_,_,_,rfl,rfl,SqL.of J,b5,?_⟩;dsimp only[yW];refine⟨_,rfl,_,rfl,g,_,_,_,rfl,rfl,SqL.of J,yR u,_,rfl,_,_,rfl,rfl,.inl ⟨by decide,by decide⟩,_,_,rfl,rfl,_,_,rfl,rfl,(show(0:Int)<24 by decide),?_⟩;dsimp only[yW];obtain⟨turn,y⟩:∃turn:Int,turn=(C[k]+5*(k:Nat)) % 24:=⟨_,rfl⟩;have c5:0<=turn:=by rw[y];exact md0 (by decide)
 have a7:turn<24:=by rw[y];exact md1 (by decide)
 rw[<- y];refine⟨_,rfl,_,rfl,_,_,rfl,rfl,_,rfl,D,_,rfl,.inl (SqL.of hB.lst),_,_,rfl,_,_,rfl,rfl,?_,?_⟩
 ·show(0:Int)<(if _ then _ else _);split<;> omega
 dsimp only[yW];refine zE (λe G=>∃m:Int,e= [some (.ref D),some (.ref g),some (.int (k:Nat)),some (.int l),some (.int I),some (.int turn),some (.int m),none,none,none,none,none]/\xA H G) ?jW (λa=>?_);case jW=>
  rintro e H1 ⟨m,rfl,k1⟩;refine⟨zn (by show 6<=100000;omega),λl6 b6=>⟨_,rfl,_,_,rfl,rfl,⟨by decide,by decide⟩,_,_,rfl,rfl,(show(0:Int)<6 by decide),?_⟩⟩;refine jO rfl rfl (SqL.of yB) (md0 (by decide)) (md1 (by decide)) (by simp) λt0 _=>?_;have k2:=k1.trans (yG b6 (.lst [.int 0,.int 2,.int 1,.int 5,.int 3,.int 7]));generalize upd H1 l6 (.lst [.int 0,.int 2,.int 1,.int 5,.int 3,.int 7])=H2 at k2 ⊢;have b8:=k2 _ _ J;dsimp only[yW];refine zE (λe G=>∃t:Int,e= [some (.ref D),some (.ref g),some (.int (k:Nat)),some (.int l),some (.int I),some (.int turn),some (.int m),some (.int t),none,none,none,none]/\xA H G) ?rest2 (λa=>?_);case rest2=>
   rintro e H3 ⟨t,rfl,k3⟩;have d2:=k3 _ _ J;have b9:=hB.same k3;refine bW7 (bJJ (λb G=>xA H G) ?_ ?_ ?_)
   ·intro Kk hK;refine⟨_,rfl,_,_,rfl,rfl,_,rfl,?_⟩;refine qF (λc=>hK _ _ k3) (λc=>?_);exact⟨_,rfl,z0,λpn b2=>⟨D,pn,_,rfl,rfl,SqL.of ((yG b2 (.lst [])) _ _ b9.lst),SqL.of yB,_,rfl,hK _ _ (k3.trans (yG b2 _))⟩⟩
   ·intro H4 O;have B:=O _ _ J;refine⟨_,rfl,_,_,rfl,rfl,(show(0:Int)<20 by decide),_,_,rfl,rfl,_,_,rfl,rfl,⟨by decide,by decide,by decide⟩,_,rfl,_,rfl,g,_,_,_,rfl,rfl,SqL.of B,yR u,_,_,rfl,rfl,(show(0:Int)<37 by decide),rfl,.inr ⟨_,rfl,_,_,rfl,rfl,.inl ⟨dk,dk⟩,_,_,rfl,rfl,?_⟩⟩;dsimp only[yW];refine zE (λe G=>∃d:Int,e= [some (.ref D),some (.ref g),some (.int (k:Nat)),some (.int l),some (.int I),some (.int turn),some (.int m),some (.int t),some (.int d),none,none,none]/\xA H G) ?rest3 (λa=>?_);case rest3=>
     rintro e H5 ⟨d,rfl,k5⟩;refine⟨zn (by show 4<=100000;omega),λl4 b7=>⟨_,rfl,_,_,rfl,rfl,(show(0:Int)<4 by decide),?_⟩⟩;refine aQc rfl rfl (SqL.of yB) (md0 (by decide)) (md1 (by decide)) (by simp) λa8 _=>?_;have k6:=k5.trans (yG b7 (.lst [.str "ann",.str "bo",.str "ann",.str ""]));generalize upd H5 l4 (.lst [.str "ann",.str "bo",.str "ann",.str ""])=H6 at k6 ⊢;have a1:=k6 _ _ J;dsimp only[yW];refine zE (λe G=>∃ (a4:Str)(a5:Option V),e= [some (.ref D),some (.ref g),some (.int (k:Nat)),some (.int l),some (.int I),some (.int turn),some (.int m),some (.int t),some (.int d),some (.str a4),a5,none]/\xA H G) ?rest4 (λa=>?_);case rest4=>
      rintro e H7 ⟨a4,a5,rfl,k7⟩;refine⟨z2,λl2 a3=>⟨_,rfl,_,_,rfl,rfl,⟨by decide,by decide⟩,_,_,rfl,rfl,(show(0:Int)<2 by decide),?_⟩⟩;refine aQc rfl rfl (SqL.of yB) (md0 (by decide)) (md1 (by decide)) (by simp) λa0 b3=>?_;have hw:a0="in"\/a0="out":=by simpa using b3
      refine⟨_,rfl,_,rfl,_,rfl,z4,λp hp=>?_⟩;exact q _ _ ((k7.trans (yG a3 _)).trans (yG hp _)) ⟨p,.enter a0 d a4 t,rfl,yB,hw⟩
     refine⟨_,rfl,_,rfl,g,_,_,_,rfl,rfl,SqL.of a1,yR u,_,_,rfl,rfl,(show(0:Int)<13 by decide),rfl,_,rfl,?_⟩;refine qF (λc=>?_) (λc=>a _ _ ⟨a8,none,rfl,k6⟩);have X:∀x:Int,0<=x % 40/\x % 40<=39:=λx=>⟨md0 (by decide),by have:=md1 (x:=x) (n:=40) (by decide);omega⟩;refine⟨_,rfl,g,_,_,_,rfl,rfl,SqL.of a1,yR (j:=0) b4,_,_,rfl,rfl,(show(0:Int)<40 by decide),_,_,rfl,rfl,by decide,(X _).1,by have:=(X (C[0]'(by omega))).2;omega,λza c0=>?_⟩;refine⟨_,_,rfl,rfl,by rw[cQg];show za.length+1<=_;omega,?_⟩;refine⟨_,rfl,g,_,_,_,rfl,rfl,SqL.of a1,yR (j:=0) b4,_,_,rfl,rfl,(show(0:Int)<40 by decide),_,_,rfl,rfl,_,_,rfl,rfl,by decide,by have:=(X (C[0]'(by omega))).2;omega,by have:=(X (C[0]'(by omega))).1;omega,λzb c4=>?_⟩;have c8:(za++("y":Str)).length<=101:=by
      show(za.cps++_).size<=101;rw[Array.size_append];have:za.cps.size<=100:=c0;have:("y":Str).cps.size=1:=by decide
      omega
     refine⟨_,_,rfl,rfl,by rw[cQg];omega,?_⟩;dsimp only[yW];refine⟨_,rfl,_,_,rfl,rfl,by decide,by decide,by decide,λzc c7=>⟨z3,λl3 M=>⟨_,rfl,_,_,rfl,rfl,(show(0:Int)<3 by decide),?_⟩⟩⟩;refine aQc rfl rfl (SqL.of yB) (md0 (by decide)) (md1 (by decide)) (by simp) λa9 _=>?_;dsimp only[yW];exact a _ _ ⟨a9,_,rfl,k6.trans (yG M _)⟩
    refine⟨_,rfl,_,rfl,g,_,_,_,rfl,rfl,SqL.of B,yR u,_,_,rfl,rfl,(show(0:Int)<37 by decide),rfl,_,rfl,?_⟩;refine qF (λc=>?_) (λc=>a _ _ ⟨_,rfl,O⟩);refine⟨_,rfl,_,_,rfl,rfl,(show(0:Int)<2001 by decide),_,_,rfl,rfl,_,rfl,_,_,rfl,rfl,c60,_,_,rfl,rfl,p60,_,rfl,_,_,rfl,rfl,c60,_,_,rfl,rfl,p60,_,_,rfl,rfl,z3,λl3 M=>⟨_,rfl,_,_,rfl,rfl,(show(0:Int)<3 by decide),?_⟩⟩;refine jO rfl rfl (SqL.of yB) (md0 (by decide)) (md1 (by decide)) (by simp) λd1 _=>?_;dsimp only[yW];exact a _ _ ⟨d1,rfl,O.trans (yG M _)⟩
   ·intro H4 O;have B:=O _ _ J;have L:=hB.same O;dsimp only[aKh];refine⟨_,rfl,_,_,rfl,rfl,_,rfl,?_⟩;refine qF (λc=>?_) (λc=>?_)
    ·refine⟨_,rfl,_,_,rfl,rfl,(show(0:Int)<20 by decide),?_⟩;dsimp only[yW];refine zE (λe G=>∃bs:Int,e= [some (.ref D),some (.ref g),some (.int (k:Nat)),some (.int l),some (.int I),some (.int turn),some (.int m),some (.int t),none,none,none,some (.int bs)]/\xA H G) ?rest5 (λa=>?_);case rest5=>
      rintro e H5 ⟨bs,rfl,k5⟩;refine⟨_,rfl,_,rfl,_,rfl,z4,λp hp=>?_⟩;exact q _ _ (k5.trans (yG hp _)) ⟨p,.reply m bs t,rfl,yB,trivial⟩
     refine⟨_,rfl,_,rfl,D,rs,R,m,rfl,L,_,rfl,?_⟩;cases h1:Bk.wN R m with
     |false=>exact onF rfl (a _ _ ⟨_,rfl,O⟩)
     |true=>
     obtain⟨i,r,rfl,c9,hi,hv⟩:=Bk.wF h1;obtain⟨b,g1,g2,cp,g3,g4⟩:=L.get hi;refine onT rfl ⟨_,rfl,_,rfl,D,_,_,_,rfl,rfl,SqL.of L.lst,yR g1,b,_,1,_,rfl,rfl,SqL.of g3,rfl,_,rfl,z2,λl2 a3=>?_⟩;have e2:=yG a3 (.lst [.int 7,.int 3000]);have c1:=e2 _ _ B;refine⟨_,rfl,_,rfl,g,_,_,_,rfl,rfl,SqL.of c1,yR u,_,_,rfl,rfl,(show(0:Int)<11 by decide),rfl,.inr ⟨_,rfl,?_⟩⟩;refine jO rfl rfl (SqL.of yB) b0 b1 (by simp) λj hj=>?_;have c6:j=7\/j=3000:=by simpa using hj
     refine⟨_,_,rfl,rfl,(show(0:Int)<j by omega),_,_,rfl,rfl,_,_,rfl,rfl,?_⟩;dsimp only[yW];exact a _ _ ⟨_,rfl,O.trans e2⟩
    ·have c:¬turn<12:=of_decide_eq_false (Bool.eq_false_iff.mpr c);refine⟨_,rfl,_,_,rfl,rfl,_,rfl,?_⟩;refine qF (λc2=>?_) (λc2=>?_)
     ·exact⟨_,rfl,_,rfl,_,rfl,_,rfl,D,g,rs,R,C,k,m,rfl,L,hR,B,S,λG v k5 hd=>q _ _ (O.trans k5) hd⟩
     ·have c2:¬turn<15:=of_decide_eq_false (Bool.eq_false_iff.mpr c2);exact⟨_,rfl,_,rfl,_,rfl,_,rfl,_,rfl,D,g,rs,R,C,k,m,turn,rfl,L,hR,B,U,by omega,a7,λG v k5 hd=>q _ _ (O.trans k5) hd⟩
  refine⟨_,rfl,_,rfl,g,_,_,_,rfl,rfl,SqL.of b8,yR u,_,_,rfl,rfl,(show(0:Int)<29 by decide),rfl,_,rfl,?_⟩;refine qF (λc=>?_) (λc=>a _ _ ⟨t0,rfl,k2⟩);refine⟨_,rfl,_,rfl,_,rfl,_,_,rfl,rfl,c60,_,_,rfl,rfl,p60,_,_,rfl,rfl,_,rfl,_,_,rfl,rfl,(show(0:Int)<990 by decide),z4,λl3 M=>⟨_,rfl,_,_,rfl,rfl,(show(0:Int)<4 by decide),?_⟩⟩;refine jO rfl rfl (SqL.of yB) (md0 (by decide)) (md1 (by decide)) (by simp) λt1 _=>?_;dsimp only[yW];exact a _ _ ⟨t1,rfl,k2.trans (yG M _)⟩
 refine⟨_,rfl,_,rfl,g,_,_,_,rfl,rfl,SqL.of J,yR u,_,_,rfl,rfl,(show(0:Int)<23 by decide),rfl,_,rfl,?_⟩;refine qF (λc=>?_) (λc=>a _ _ ⟨_,rfl,xA.refl _⟩);refine⟨_,rfl,_,rfl,D,_,rfl,.inl (SqL.of hB.lst),_,_,rfl,rfl,⟨by decide,by decide,by decide⟩,_,rfl,_,rfl,_,_,rfl,rfl,c60,_,_,rfl,rfl,p60,_,_,rfl,rfl,_,rfl,D,_,rfl,.inl (SqL.of hB.lst),_,rfl,_,_,rfl,rfl,c60,_,_,rfl,rfl,p60,_,_,rfl,rfl,zn (by show 5<=100000;omega),λl5 c3=>⟨_,rfl,_,_,rfl,rfl,(show(0:Int)<5 by decide),?_⟩⟩;refine jO rfl rfl (SqL.of yB) (md0 (by decide)) (md1 (by decide)) (by simp) λm1 _=>?_;dsimp only[yW];exact a _ _ ⟨m1,rfl,yG c3 _⟩
end
end Law
namespace Law
open PySem L2 PyProof.Rows
open Bk (Row Rows xV xS Ans)
open Desk (xE wY uH Wf Up Run x3 qQ)
abbrev aVF:Stmt:=xC "_law_story"
inductive aQP(vs:List V)(H:Hp)(Q:VK)(_:XK):Prop|mk (ca:Nat) (ns:List Int) (_:vs= [.ref ca]) (_:H ca=some (.lst (ns.map V.int))) (_:ns.length<=40) (_:∀ (H':Hp)(t ds us:Nat)(das:List Nat)(es:List xS)(vs:List V)(as:List Ans)(R:Rows)(S:List Int),xA H H'->H' t=some (.tup [.ref ds,.ref us])->x3 H' ds das es->H' us=some (.lst vs)->cQA (λv a=>wY [] H' a v) vs as->Run [] [] es as R S->(∀e∈es,Wf e)->es.length<=ns.length+3->Q (.ref t) H')
def Mid.start{H i c n:Hp}{p sa m us:Nat}(g:LGo H p sa [] [] i [])(k:List xS)(a:List Nat)(l:xA i c)(o:i m=none)(t:c m=some (.lst (a.map V.ref)))(r:xA c n)(f:c us=none)(A:n us=some (.lst []))(w:∀e∈k,Wf e)(len:a.length=k.length) (q:∀ (j:Nat)(d:Nat)(e:xS),a[j]? =some d->k[j]? =some e->c d=some (.tup (xE e))):Mid H p sa m us k a 0 n:=by
 have ne:m≠us:=λz=>by rw[<- z,t]at f;cases f
 obtain⟨R,S,u,_⟩:=g.ex;have d1:∀ {x},i x=none->x≠p/\x≠sa:=λ{x} h=>⟨λz=>(by rw[z,u.book.lst]at h;cases h),λz=>(by rw[z,u.shut]at h;cases h)⟩;refine⟨ne,w,len,λj d e v y=>r _ _ (q j d e v y),[],[],[],(g.same l).same r,⟨r _ _ t,g.keep.fresh o,(d1 o).1,(d1 o).2,by simp,λb s=>by simp at s⟩,⟨A,g.keep.fresh (l.fresh f),(d1 (l.fresh f)).1,(d1 (l.fresh f)).2,by simp,λb s=>by simp at s⟩,.nil⟩
section
variable {K:bYI}
def bZf:yO ["_law_cells","_law_rows","_law_shut","_law_deeds","_law_dues","_law_k","_law_deed"] ["_law_cells"] (yH aVF):=scM
def bXb:xJ ["_law_cells","_law_rows","_law_shut","_law_deeds","_law_dues","_law_k","_law_deed"] (yH aVF) "_law_deed" ["_law_rows","_law_shut"] [1,2] (lsN [(".0",.local),("_law_deed",.local),("_law_done_by",.globalImplicit),("_law_rows",.free),("_law_shut",.free)]):=
 lcM
seal PE PA PS PSs PT in
def bXE(T:vD mg)(l:FnG P w K mg base 5 "_law_done_by" ["_law_rows","_law_shut","_law_deed"] aXj)(C:FnG P w K mg base 5 "_law_deed_at" ["_law_rows","_law_cells","_law_k"] aVP)(F:Fun K "_law_story" "_law_story" aVF f fd):xD P w K mg base CX0 6 f fd ["_law_cells"] aQP:=by
 have sc:=bZf;refine F.ok (k:=5) sc (λd0 A outer s H vs Q E hr h=>?_);obtain⟨ca,ns,rfl,hc,hn,q⟩:=h;refine⟨_,(yC (yU (i:=1) (y6 yD)) (yC (yU (i:=2) (y6 yD)) (yC (yU (i:=3) (y6 yD)) (yC (yU (i:=4) (y6 yD)) (yC (y0 (PW.pt (vM (yM (jC hr.units0) (pv 0) (y6 yD)) (wQ (yM zB (yV y3 (yL yK (pv 0) yE) yE) yE)))) (yC (yU (i:=3) (y6 (yA (xI (yA yQ (yA yE (yA yQ (yA yE yD))))) (yA (xI (yA yQ (yA yE (yA yE (yA yE yD))))) (yA (xI (yA yQ (yA yE (yA yE yD)))) yD))))) (yF (aZH (i:=4) bXb rfl sc.nd rfl rfl (xM (pv 3)) (λ_ _ _ _ _=>zV) (λ_ _ _ _ _=>(xK l hr rfl (yA (pv 1) (yA (pv 2) (yA (pv 0) yD)))))))) yS) (yC (zN cQv rfl (xX rfl T.b_range (yA (yT yN rfl T.b_len y9 (yA (pv 0) yD)) yD)) (xB (i:=5)) (yC (yU (i:=6) (xK C hr rfl (yA (pv 1) (yA (pv 0) (yA (pv 5) yD))))) (yC (yY (uF cQj cQo cQp xL (pv 3) (yA (pv 6) yD))) (yF (yY (uF cQj cQo cQp xL (pv 4) (yA (xK l hr rfl (yA (pv 1) (yA (pv 2) (yA (pv 6) yD)))) yD))))))) (yF (yP (xI (yA (pv 3) (yA (pv 4) yD))))))))))),?_⟩;refine⟨z0,λU c1=>?_⟩;dsimp only[yW];refine⟨z0,λX c2=>?_⟩;dsimp only[yW];have g0:=LGo.start c1 c2;generalize upd (upd H U (.lst [])) X (.lst [])=H2 at g0 ⊢;refine⟨z0,λB b0=>?_⟩;dsimp only[yW];refine⟨z0,λI b4=>?_⟩;dsimp only[yW];have k3:=yG b0 (.lst []);have k4:=yG b4 (.lst []);have M0:Mid H U X B I [] [] 0 (upd (upd H2 B (.lst [])) I (.lst [])):=Mid.start g0 [] [] k3 b0 yB k4 b4 yB (λe h=>by simp at h) rfl (λj d e h=>by simp at h);have gk:=g0.same (k3.trans k4);generalize upd (upd H2 B (.lst [])) I (.lst [])=H4 at M0 gk k4 ⊢;have a9:=M0.keep _ _ hc;refine zE (λσ' H'=>∃ (B I:Nat)(x:List xS)(b:List Nat),σ'= [some (.ref ca),some (.ref U),some (.ref X),some (.ref B),some (.ref I),none,none]/\Mid H U X B I x b x.length H'/\x.length<=3) ?jW (λa0=>?_);case jW=>
  rintro σ' H5 ⟨B,I,x,b,rfl,M5,h3⟩;refine⟨_,rfl,ca,_,rfl,.inl (SqL.of (M5.keep _ _ hc)),?_⟩;rw[bYL];refine⟨_,rfl,by omega,by omega,?_⟩;rw[cQc];refine zM (λt σ H6=>∃ (x:List xS)(b:List Nat)(o5 o6:Option V),σ= [some (.ref ca),some (.ref U),some (.ref X),some (.ref B),some (.ref I),o5,o6]/\Mid H U X B I x b x.length H6/\x.length<=3+t) ?_ ?_ ?_
  ·exact⟨x,b,none,none,rfl,M5,by omega⟩
  ·rintro k σ H6 hk ⟨x,b,o5,o6,rfl,M6,b7⟩;rw[cXM];dsimp only[yW];obtain⟨rs,as,vs,g6,s6,u6,p6⟩:=M6.ex;obtain⟨R,S,hL,hu,b6,O⟩:=g6.ex;have c4:=hu.r;rw[cQI]at c4;refine⟨_,rfl,_,rfl,_,rfl,U,ca,rs,R,ns,k,rfl,hL.book,by omega,M6.keep _ _ hc,hk,λH7 v k7 c7=>?_⟩;obtain⟨p,e,rfl,hp,hw⟩:=c7;dsimp only[yW];have M7:=M6.same k7;have b1:=k7 _ _ s6.at_;refine⟨_,rfl,.inl ⟨rfl,_,SqL.of b1⟩,_,rfl,B,_,_,rfl,rfl,b1,zlt (by rw[bYL,M6.len];omega),?_⟩;have el:b.map V.ref++ [V.ref p]=(b++ [p]).map V.ref:=by simp
   rw[el];have M8:=M7.push rfl hp hw;generalize upd H7 B (.lst ((b++ [p]).map V.ref))=H8 at M8 ⊢;obtain⟨d2,c9,d1,g8,s8,u8,p8⟩:=M8.ex;have W:(b++ [p])[x.length]? =some p:=by rw[<- M6.len,bY2 (bYO _),cQ1];rfl
   have Z:(x++ [e])[x.length]? =some e:=by rw[bY2 (bYO _),cQ1];rfl
   refine⟨_,rfl,.inl ⟨rfl,_,SqL.of u8.at_⟩,_,rfl,_,rfl,_,rfl,M8.next (by omega) W Z λv H9 ws _ a8 c8 M9=>⟨I,_,_,rfl,rfl,a8,zlt (by omega),x++ [e],b++ [p],_,_,rfl,?_,by rw[bY5];simp;omega⟩⟩;rw[bY5];exact M9
  ·rintro σ H6 ⟨x,b,o5,o6,rfl,M6,b7⟩;refine⟨_,rfl,_,rfl,z2,λt ht=>?_⟩;have k6:=yG ht (.tup [.ref B,.ref I]);have M7:=M6.same k6;obtain⟨rs,as,vs,g7,s7,u7,p7⟩:=M7.ex;obtain⟨R,S,hL,hu,b6,O⟩:=g7.ex;rw[cQI]at O;exact q _ t B I b x vs as R S M7.keep yB ⟨s7.at_,M7.len,M7.at_⟩ u7.at_ (qQ (λv a z=>qH z λp u n e=>⟨by simp,e⟩) p7) O M7.wf (by omega)
 refine⟨_,rfl,z0,λpn b3=>⟨ca,pn,_,rfl,rfl,SqL.of ((yG b3 (.lst [])) _ _ a9),SqL.of yB,_,rfl,?_⟩⟩;have k5:=yG b3 (.lst []);generalize upd H4 pn (.lst [])=H5 at k5 ⊢;have a5:∀H',xA H4 H'->_:=λH' k=>a0 [some (.ref ca),some (.ref U),some (.ref X),some (.ref B),some (.ref I),none,none] H' ⟨B,I,[],[],rfl,M0.same k,by simp⟩;by_cases Y:ns= []
 ·subst Y;exact onF rfl (onF rfl (a5 _ k5))
 have c6:(ns.map V.int)[0]? =some (.int (ns[0]'(cQZ.mpr Y))):=by rw[bY1,bYG (cQZ.mpr Y)];rfl
 refine onT (by cases ns with|nil=>exact absurd rfl Y|cons=>rfl) ⟨_,rfl,ca,_,_,_,rfl,rfl,SqL.of (k5 _ _ a9),yR (j:=0) c6,_,_,rfl,rfl,(show(0:Int)<5 by decide),rfl,_,rfl,?_⟩;refine qF (λc=>?_) (λc=>a5 _ k5);refine⟨z4,λG b5=>⟨z4,λJ c5=>⟨z3,λL b8=>⟨z3,λdl b2=>?_⟩⟩⟩⟩;have a1:=yG b5 (.tup (xE (.enter "in" 4 "ann" 2)));have a2:=yG c5 (.tup (xE (.reply 0 4 1)));have a3:=yG b8 (.tup (xE (.hang 0 1)));have a4:=yG b2 (.lst ([G,J,L].map V.ref));have g5:=((gk.same k5).same a1).same (a2.trans a3);have e1:=a4 _ _ (a3 _ _ (a2 _ _ (yB (H:=H5) (a:=G) (o:= .tup (xE (.enter "in" 4 "ann" 2))))));have e2:=a4 _ _ (a3 _ _ (yB (H:=upd H5 G (.tup (xE (.enter "in" 4 "ann" 2)))) (a:=J) (o:= .tup (xE (.reply 0 4 1)))));have e3:=a4 _ _ (yB (H:=upd (upd H5 G (.tup (xE (.enter "in" 4 "ann" 2)))) J (.tup (xE (.reply 0 4 1)))) (a:=L) (o:= .tup (xE (.hang 0 1))));have e4:=yB (H:=upd (upd (upd H5 G (.tup (xE (.enter "in" 4 "ann" 2)))) J (.tup (xE (.reply 0 4 1)))) L (.tup (xE (.hang 0 1)))) (a:=dl) (o:= .lst ([G,J,L].map V.ref));have c3:∀D,upd (upd (upd (upd H5 G (.tup (xE (.enter "in" 4 "ann" 2)))) J (.tup (xE (.reply 0 4 1)))) L (.tup (xE (.hang 0 1)))) dl (.lst ([G,J,L].map V.ref)) D=none->Mid H U X dl D [.enter "in" 4 "ann" 2,.reply 0 4 1,.hang 0 1] [G,J,L] 0 (upd (upd (upd (upd (upd H5 G (.tup (xE (.enter "in" 4 "ann" 2)))) J (.tup (xE (.reply 0 4 1)))) L (.tup (xE (.hang 0 1)))) dl (.lst ([G,J,L].map V.ref))) D (.lst [])):=λD hD=>by
  refine Mid.start g5 _ _ a4 b2 e4 (yG hD (.lst [])) hD yB (λe he=>?_) rfl (λj d e W Z=>?_)
  ·simp only[bYQ,List.mem_nil_iff,or_false]at he;rcases he with rfl|rfl|rfl
   ·exact .inl rfl
   ·trivial
   ·trivial
  ·match j,W,Z with
   |0,W,Z=>cases W;cases Z;exact e1
   |1,W,Z=>cases W;cases Z;exact e2
   |2,W,Z=>cases W;cases Z;exact e3
 dsimp only[yW];refine⟨_,rfl,dl,rfl,⟨_,SqL.of e4⟩,λD hD=>?_⟩;have M6:=c3 D hD;refine⟨λi m ys H'=>m=3 - i/\i<=3/\H' D=some (.lst ys)/\Mid H U X dl D [.enter "in" 4 "ann" 2,.reply 0 4 1,.hang 0 1] [G,J,L] i H',⟨3,rfl,by omega,yB,M6⟩,?_⟩;rintro i m ys H' ⟨rfl,hi,a7,M⟩;refine⟨a7,?_⟩;obtain⟨rs,as,vs,g,s1,s2,p⟩:=M.ex;by_cases N:i<3
 ·have a6:([G,J,L]:List Nat)[i]? =some ([G,J,L][i]'(by simpa using N)):=bYG (by simpa using N);have b9:([.enter "in" 4 "ann" 2,.reply 0 4 1,.hang 0 1]:List xS)[i]? =some (([.enter "in" 4 "ann" 2,.reply 0 4 1,.hang 0 1]:List xS)[i]'(by simpa using N)):=bYG (by simpa using N);refine .inr ⟨⟨_,_,SqL.of s1.at_,by rw[bY1,a6];rfl⟩,λv H7 yl=>?_⟩;obtain⟨rfl,y⟩:=yl;have hv:=y _ (SqL.of s1.at_);rw[bY1,a6]at hv;cases hv;refine⟨_,rfl,_,rfl,_,rfl,?_⟩;refine M.next (by omega) a6 b9 λv H8 ws c0 a8 c8 M8=>?_;have ey:ys=ws:=by rw[c0]at a7;cases a7;rfl
  subst ey;exact⟨by rw[cQg];omega,a8,3 - (i+1),by omega,rfl,N,yB,M8⟩
 ·have:i=3:=by omega
  subst this;refine .inl ⟨⟨_,SqL.of s1.at_,by simp⟩,?_⟩;exact a0 _ _ ⟨dl,D,_,_,rfl,M,by simp⟩
end
end Law
namespace Alike
open PySem L2 PyProof.Rows
open Law (xC)
abbrev bVx:Stmt:=xC "_law_room"
abbrev aYY:Stmt:=xC "_law_whole"
def y9:cQq "len"=some (.builtin "len"):=dk
def y7:cQq "isinstance"=some (.builtin "isinstance"):=dk
def uI:cQq "int"=some (.type "int"):=dk
def aQ9:cQq "str"=some (.type "str"):=dk
def aJb:cQq "bool"=some (.type "bool"):=dk
def wZ:cQq "list"=some (.type "list"):=dk
def uX:cQq "tuple"=some (.type "tuple"):=dk
structure vD(mg:Str->Option bYH):Prop where
 b_len:mg "len"=none
 b_sorted:mg "sorted"=none
 b_isinstance:mg "isinstance"=none
 b_int:mg "int"=none
 b_str:mg "str"=none
 b_bool:mg "bool"=none
 b_list:mg "list"=none
 b_tuple:mg "tuple"=none
 b_range:mg "range"=none
inductive bQx(vs:List V)(H:Hp)(Q:VK)(_:XK):Prop|mk (n) (_:vs= [.int n]) (_:Q (.bl true) H)
inductive bJe(K:bYI)(vs:List V)(H:Hp)(Q:VK)(_:XK):Prop|mk (a:Nat) (ns:List Int) (x y:Int) (_:vs= [.ref a,.int x,.int y]) (_:SqL K H a (ns.map V.int)) (_:ns.length<=63) (_:Q (.int x) H)
section
variable {K:bYI}
def bZj:yO ["_law_found"] ["_law_found"] (yH aYY):=scM
def bXI(T:vD mg)(F:Fun K "_law_whole" "_law_whole" aYY f fd):xD P w K mg base CX0 1 f fd ["_law_found"] bQx:=by
 have a:=bZj;refine F.ok (k:=0) a (λb A outer s H d Q E c h=>?_);obtain⟨n,rfl,q⟩:=h;refine⟨_,(yF (yP (aVy (yT zR rfl T.b_isinstance y7 (yA (pv 0) (yA (zF (v:= .ty "int") rfl T.b_int uI rfl) yD))) (aZE (bZ4 (yT zR rfl T.b_isinstance y7 (yA (pv 0) (yA (zF (v:= .ty "bool") rfl T.b_bool aJb rfl) yD)))))))),?_⟩;refine⟨_,rfl,_,"int",_,_,rfl,.int n,aXc _,_,rfl,onT rfl ?_⟩;exact⟨_,rfl,_,"bool",_,_,rfl,.int n,jT _,_,rfl,q⟩
def bVM:yO ["_law_script","_law_most","_law_bound"] ["_law_script","_law_most","_law_bound"] (yH bVx):=scM
def bJ6(T:vD mg)(F:Fun K "_law_room" "_law_room" bVx f fd):xD P w K mg base CX0 1 f fd ["_law_script","_law_most","_law_bound"] (bJe K):=by
 have c:=bVM;refine F.ok (k:=0) c (λe A outer s H i Q E g h=>?_);obtain⟨a,j,x,y,rfl,b,d,q⟩:=h;refine⟨_,(yC (y0 (yM aQo (yT yN rfl T.b_len y9 (yA (pv 0) yD)) yE) (yF (yP (pv 2))) yS) (yF (yP (pv 1)))),?_⟩;refine⟨_,rfl,a,_,rfl,.inl b,_,_,rfl,rfl,_,rfl,onF ?_ ⟨_,rfl,q⟩⟩;rw[bYL];exact decide_eq_false (by omega)
end
def Sq(K:bYI)(H:Hp)(a:Nat)(xs:List V):Prop:=H a=some (.lst xs)\/H a=some (.tup xs)
def Sq.same{K:bYI}{H b:Hp}{a:Nat}{xs:List V}(k:xA H b)(h:Sq K H a xs):Sq K b a xs:=h.imp (k _ _) (k _ _)
def Sq.ix{K:bYI}{H:Hp}{a:Nat}{xs:List V}{i:Nat}{v:V}{Q:VK}(h:Sq K H a xs)(e:xs[i]? =some v)(q:Q v H):rIx K (.ref a) (.int (i:Int)) H Q:=by
 rcases h with h|h
 ·exact .inl ⟨a,xs,_,v,rfl,rfl,SqL.of h,yR e,q⟩
 ·exact .inr (.inl ⟨a,xs,_,v,rfl,rfl,SqT.of h,yR e,q⟩)
def zY:List (Nat×Dt)->Nat
 |[]=>0
 |q::r=>q.2.size+zY r
def xY:∀a b:List (Nat×Dt),zY (a++b)=zY a+zY b
 |[],b=>by simp[zY]
 |q::r,b=>by rw[cJj];show q.2.size+zY (r++b)=q.2.size+zY r+zY b;rw[xY r b];omega
def qB:∀ {b:List (Nat×Dt)} {a:List Dt},b.map (·.2)=a->zY b=wR a
 |[],[],_=>by simp[zY,wR]
 |q::r,d::a,h=>by rw[cQx]at h;cases h;show q.2.size+zY r=q.2.size+wR (r.map (·.2));rw[qB rfl]
 |[],_::_,h=>by cases h
 |_::_,[],h=>by cases h
def aQT:∀qs:List (Nat×Dt),qs.length<=zY qs
 |[]=>bYO _
 |q::r=>by
  have:=aQT r;have a:1<=q.2.size:=by cases q.2<;> simp[Dt.size]
  show r.length+1<=q.2.size+zY r;omega
def aQj:∀ds:List Dt,ds.length<=wR ds
 |[]=>bYO _
 |d::r=>by
  have:=aQj r;have a:1<=d.size:=by cases d<;> simp[Dt.size]
  show r.length+1<=d.size+wR r;omega
def aJ8{α:Type}:∀ {l:List α},l≠ []->∃b a,l=b++ [a]
 |[],h=>absurd rfl h
 |[x],_=>⟨[],x,rfl⟩
 |x::y::r,_=>by obtain⟨i,l,e⟩:=aJ8 (l:=y::r) (by simp);exact⟨x::i,l,by rw[e];rfl⟩
def vB{a H:Hp}{c:Nat}{o:HO}(k:xA a H)(h:a c=none):xA a (upd H c o):=λb u q=>by rw[yI (yJ q h)];exact k b u q
def aX0{H:Hp}{p:Nat}{o:HO}(h:H p=none):∀a b,H a=some (.tup b)->upd H p o a=some (.tup b):=λa b e=>by rw[yI (yJ e h)];exact e
def qD{H:Hp}{p:Nat}{c:List V}{o:HO}(h:H p=some (.lst c)):∀a b,H a=some (.tup b)->upd H p o a=some (.tup b):=λa b e=>by rw[yI (aQ1 e h (by intro z;cases z))];exact e
section
variable {K:bYI}
end
end Alike
namespace Alike
open PySem L2 PyProof.Rows
open Bk (Row Rows xV xS Ans)
open Desk (xE wY stV xR)
def vDt:V->Dt
 |.int n=> .int n
 |.str x=> .str x
 |_=> .non
def aKp(v:V):Prop:=v= .non\/(∃n,v= .int n)\/∃x,v= .str x
def aKp.is{H:Hp}{v:V}(h:aKp v):Is H v (vDt v):=by
 rcases h with rfl|⟨n,rfl⟩|⟨x,rfl⟩
 ·show Is H .non .non;unfold Is;rfl
 ·show Is H (.int n) (.int n);unfold Is;rfl
 ·show Is H (.str x) (.str x);unfold Is;rfl
def vY{H:Hp}:∀ {xs:List V},(∀v∈xs,aKp v)->wG H xs (xs.map vDt)
 |[],_=>by show wG H [] [];unfold wG;trivial
 |x::xs,h=>by show wG H (x::xs) (vDt x::xs.map vDt);unfold wG;exact⟨(h x bYW).is,vY λv a=>h v (bYT _ a)⟩
def uN{H:Hp}{α:Type}{F:V->α->Prop}{g:α->Dt}(b:∀v a,F v a->Is H v (g a)):∀ {vs:List V} {c:List α},cQA F vs c->wG H vs (c.map g)
 |_,_,.nil=>by show wG H [] [];unfold wG;trivial
 |_,_,.cons r t=>by rw[cQx];unfold wG;exact⟨b _ _ r,uN b t⟩
def aVW(r:Row):∀v∈stV r,aKp v:=by
 intro v a;unfold stV at a;simp only[bYQ,List.mem_nil_iff,or_false]at a;rcases a with rfl|rfl|rfl|rfl|rfl|rfl
 ·exact .inr (.inr ⟨_,rfl⟩)
 ·exact .inr (.inl ⟨_,rfl⟩)
 ·exact .inr (.inr ⟨_,rfl⟩)
 ·exact .inr (.inl ⟨_,rfl⟩)
 ·cases r.link with
  |none=>exact .inl rfl
  |some j=>exact .inr (.inl ⟨_,rfl⟩)
 ·unfold Desk.Y3;split
  ·exact .inl rfl
  ·exact .inr (.inr ⟨_,rfl⟩)
def aKr:Ans->Dt
 |.num n=> .int n
 |.txt x=> .str x
 |.nums l=> .lst (l.map λi=> .int (i:Nat))
 |.txts l=> .lst (l.map .str)
 |.row r=> .tup ((stV r).map vDt)
def aQQ(r:Row):Dt:=if r.void then .str "void" else .tup ((stV r).map vDt)
def bZU{H:Hp}{p:Nat}{xs:List V}(h:H p=some (.tup xs))(k:∀v∈xs,aKp v):Is H (.ref p) (.tup (xs.map vDt)):=by
 unfold Is;exact⟨p,xs,rfl,h,vY k⟩
def bZS{o:List Nat}{H:Hp}{a:Ans}{v:V}(h:wY o H a v):Is H v (aKr a):=by
 cases a with
 |num n=>show Is H v (.int n);unfold Is;exact h
 |txt x=>show Is H v (.str x);unfold Is;exact h
 |nums l=>
  obtain⟨p,e,_,q⟩:=h;show Is H v (.lst (l.map λi=> .int (i:Nat)));unfold Is;refine⟨p,_,e,q,?_⟩;have:=vY (H:=H) (xs:=l.map λi=>V.int (i:Nat)) λv b=>by obtain⟨i,_,rfl⟩:=cQH.mp b;exact .inr (.inl ⟨_,rfl⟩)
  rw[cX5]at this;exact this
 |txts l=>
  obtain⟨p,e,_,q⟩:=h;show Is H v (.lst (l.map .str));unfold Is;refine⟨p,_,e,q,?_⟩;have:=vY (H:=H) (xs:=l.map V.str) λv b=>by obtain⟨i,_,rfl⟩:=cQH.mp b;exact .inr (.inr ⟨_,rfl⟩)
  rw[cX5]at this;exact this
 |row r=>obtain⟨p,e,_,q⟩:=h;subst e;exact bZU q (aVW r)
def aVm{H:Hp}{r:Row}{v:V}(h:xR H r v):Is H v (aQQ r):=by
 unfold xR at h;unfold aQQ;split
 ·rename_i e;rw[if_pos e]at h;unfold Is;exact h
 ·rename_i e;rw[if_neg e]at h;obtain⟨p,e,q⟩:=h;subst e;exact bZU q (aVW r)
end Alike
namespace Alike
open PySem L2 PyProof.Rows
open Bk (Row Rows xV xS Ans)
open Desk (xE wY stV xR Up Run)
def J7:∀ (n:Nat)(l:List Nat),l.Nodup->(∀k∈l,k<n)->l.length<=n
 |0,l,_,h=>by
  cases l with
  |nil=>exact bYO _
  |cons a r=>exact absurd (h a bYW) (cXu _)
 |n+1,l,nd,h=>by
  by_cases d:n∈l
  ·have:=J7 n (l.erase n) (nd.erase n) λk b=>by
    have c:=(cJ4 nd).mp b;have e:=h k c.2;have f:=c.1;omega
   rw[cJ5 d]at this;omega
  ·have:=J7 n l nd λk b=>by
    have e:=h k b;have f:k≠n:=λz=>d (by rw[<- z];exact b);omega
   omega
def X8{α:Type}{g:α->Dt}(h:∀a,(g a).size=1):∀l:List α,wR (l.map g)=l.length
 |[]=>by simp[wR]
 |a::l=>by rw[cQx];show(g a).size+wR (l.map g)=l.length+1;rw[h a,X8 h l];omega
def aVH{α:Type}{g:α->Dt}{c:Nat}:∀ (l:List α),(∀a∈l,(g a).size<=c)->wR (l.map g)<=l.length*c
 |[],_=>by simp[wR]
 |a::l,h=>by rw[cQx,cQF,Nat.succ_mul];show(g a).size+wR (l.map g)<=_;have e:=h a bYW;have f:=aVH l λb d=>h b (bYT _ d);omega
def bKp(v:V):(vDt v).size=1:=by cases v<;> simp[vDt,Dt.size]
def aKf(r:Row):(aQQ r).size<=7:=by
 unfold aQQ;split
 ·simp[Dt.size]
 ·have h:Dt.size (.tup ((stV r).map vDt))=1+wR ((stV r).map vDt):=by simp[Dt.size]
  rw[h,X8 bKp];simp[stV]
def bV3{R:Rows}(t:Bk.uV R){k:Nat}:(Bk.thr R k).length<=R.length:=by
 obtain⟨d,o,a,c⟩:=Bk.W0 t k;refine J7 _ _ (a.imp λ{x y} h z=>?_) λj b=>((c j).mp b).1;rw[z,Stree.vL]at h;cases h
def aYa(l:List Nat):(aKr (.nums l)).size=1+l.length:=by
 have h:(aKr (.nums l)).size=1+wR (l.map λi=>Dt.int (i:Nat)):=by unfold aKr;simp[Dt.size]
 rw[h,X8 (λi=>by simp[Dt.size])]
end Alike
namespace Alike
open PySem L2 PyProof.Rows
open Law (xC)
abbrev aQB:Stmt:=xC "_law_unturned"
section
variable {K:bYI}
end
def aZ5(a H:Hp)(q:Nat×Dt):Prop:=∃x y,H q.1=some (.tup [x,y])/\Is a x q.2/\Is a y q.2
def aZ5.keep{d H c:Hp}{q:Nat×Dt}(p:aZ5 d H q)(k:∀a b,H a=some (.tup b)->c a=some (.tup b)):aZ5 d c q:=let ⟨x,y,h,r⟩:=p;⟨x,y,k _ _ h,r⟩
def WUU(c:Hp)(v u:V)(b:Nat)(m:Nat)(σ:L2.St)(H:Hp):Prop:=∃a l r k,σ= [some v,some u,some (.ref b),l,r,k]/\xA c H/\H b=some (.lst (a.map λq=> .ref q.1))/\(∀q∈a,aZ5 c H q)/\m=zY a/\zY a<=1000
inductive aXk(vs:List V)(H:Hp)(Q:VK)(_:XK):Prop|mk (v u d) (_:vs= [v,u]) (_:Is H v d) (_:Is H u d) (_:d.size<=1000) (_:∀H',xA H H'->Q (.bl true) H')
section
variable {K:bYI}
def aJ6:yO ["_law_found","_law_due","_law_todo","_law_left","_law_right","_law_k"] ["_law_found","_law_due"] (yH aQB):=scM
seal PE PA PS PSs PT in
def aJD(T:vD mg)(F:Fun K "_law_unturned" "_law_unturned" aQB f fd):xD P w K mg base CX0 1 f fd ["_law_found","_law_due"] aXk:=by
 have sc:=aJ6;refine F.ok (k:=0) sc (λc8 A outer s H0 vs Q E hr h=>?_);obtain⟨v,u,d,rfl,hv,hu,hd,q⟩:=h;refine⟨_,(yC (yU (i:=2) (y6 (yA (xI (yA (pv 0) (yA (pv 1) yD))) yD))) (yC (jD cQv (yM (jC hr.units0) (pv 2) (y6 yD)) (yC (uB (bZ2 cQj PySem.F.slot_list_pop PySem.F.type_list_pop bZ0 (pv 2)) (aYy rfl (zU (xB (i:=3)) (zU (xB (i:=4)) aJG)))) (yF (y0 (xQ (yT Q6 rfl T.b_isinstance y7 (yA (pv 4) (yA (xI (yA (zF (v:= .ty "list") rfl T.b_list wZ rfl) (yA (zF (v:= .ty "tuple") rfl T.b_tuple uX rfl) yD))) yD)))) (yC (y0 (yM Y8 (yT zR rfl T.b_isinstance y7 (yA (pv 3) (yA (zF (v:= .ty "list") rfl T.b_list wZ rfl) yD))) (yT zR rfl T.b_isinstance y7 (yA (pv 4) (yA (zF (v:= .ty "list") rfl T.b_list wZ rfl) yD)))) (yF (yP wP)) yS) (yC (y0 (PW.pt (vG (wA (xQ (yT Q6 rfl T.b_isinstance y7 (yA (pv 3) (yA (xI (yA (zF (v:= .ty "list") rfl T.b_list wZ rfl) (yA (zF (v:= .ty "tuple") rfl T.b_tuple uX rfl) yD))) yD))))) (wM (yM Y8 (yT yN rfl T.b_len y9 (yA (pv 3) yD)) (yT yN rfl T.b_len y9 (yA (pv 4) yD)))))) (yF (yP wP)) yS) (yF (zN cQv rfl (xX rfl T.b_range (yA (yT yN rfl T.b_len y9 (yA (pv 4) yD)) yD)) (xB (i:=5)) (yF (yY (uF cQj cQo cQp xL (pv 2) (yA (xI (yA (yL bZV (pv 3) (pv 5)) (yA (yL bZV (pv 4) (pv 5)) yD))) yD)))))))) (yF (y0 (PW.pt (vG (yM aQp (pv 3) x2) (wM (yM aQp (pv 4) x2)))) (yF (y0 (PW.pt (vG (yM wC (pv 3) x2) (wM (yM wC (pv 4) x2)))) (yF (yP wP)) yS)) (yF (y0 (yM Y8 (yT zR rfl T.b_isinstance y7 (yA (pv 3) (yA (zF (v:= .ty "bool") rfl T.b_bool aJb rfl) yD))) (yT zR rfl T.b_isinstance y7 (yA (pv 4) (yA (zF (v:= .ty "bool") rfl T.b_bool aJb rfl) yD)))) (yF (yP wP)) (yF (y0 (yM Y8 (yT zR rfl T.b_isinstance y7 (yA (pv 3) (yA (zF (v:= .ty "str") rfl T.b_str aQ9 rfl) yD))) (yT zR rfl T.b_isinstance y7 (yA (pv 4) (yA (zF (v:= .ty "str") rfl T.b_str aQ9 rfl) yD)))) (yF (yP wP)) (yF (y0 (PW.pt (vG (wA (xQ (yT Q6 rfl T.b_isinstance y7 (yA (pv 3) (yA (xI (yA (zF (v:= .ty "str") rfl T.b_str aQ9 rfl) (yA (zF (v:= .ty "int") rfl T.b_int uI rfl) yD))) yD))))) (wM (yM Y8 (pv 3) (pv 4))))) (yF (yP wP)) yS)))))))))))) (yF (yP wP)))),?_⟩;refine⟨_,rfl,_,rfl,z2,λp0 b5=>⟨z1,λt b4=>?_⟩⟩;have a3:H0 t=none:=(yG b5 _).fresh b4;refine⟨WUU H0 v u t,⟨d.size,[(p0,d)],none,none,none,rfl,vB (yG b5 _) a3,yB,?_,by simp[zY],by simpa[zY]using hd⟩,?_⟩
 ·intro q j;rw[bYY.mp j];exact⟨v,u,aX0 b4 _ _ yB,hv,hu⟩
 rintro m σ H ⟨qs,l,r,k,rfl,hk,hT,hP,rfl,a8⟩;refine⟨_,rfl,z0,λpn a6=>?_⟩;have c4:pn≠t:=cQr (yJ hT a6);have a4:upd H pn (.lst []) t=some (.lst (qs.map λq=> .ref q.1)):=by rw[yI (cQr c4)];exact hT
 refine⟨t,pn,_,rfl,rfl,SqL.of a4,SqL.of yB,_,rfl,?_⟩;by_cases b3:qs= []
 ·subst b3;rw[if_neg (by decide)];exact q _ (hk.trans (yG a6 _))
 obtain⟨c,⟨lp,d⟩,rfl⟩:=aJ8 b3;rw[if_pos (by simp)];refine⟨λC D=>∃m',m'<zY (c++ [(lp,d)])/\WUU H0 v u t m' C D,λC D z=>z,?_⟩;obtain⟨x,y,c3,R,N⟩:=hP (lp,d) (by simp);have b0:((c++ [(lp,d)]).map λq=>V.ref q.1)[((c++ [(lp,d)]).map λq=>V.ref q.1).length - 1]? =some (.ref lp):=by simp
 have b1:((c++ [(lp,d)]).map λq=>V.ref q.1).dropLast=c.map λq=>V.ref q.1:=by simp
 have b6:∀a O,H a=some (.tup O)->upd (upd H pn (.lst [])) t (.lst (c.map λq=>V.ref q.1)) a=some (.tup O):=λa O e=>qD a4 _ _ (aX0 a6 _ _ e);refine⟨_,rfl,.inl ⟨rfl,_,SqL.of a4⟩,t,_,.ref lp,rfl,rfl,a4,b0,?_⟩;rw[b1];have I:xA H0 (upd (upd H pn (.lst [])) t (.lst (c.map λq=>V.ref q.1))):=vB (hk.trans (yG a6 _)) a3;have a5:upd (upd H pn (.lst [])) t (.lst (c.map λq=>V.ref q.1)) t=some (.lst (c.map λq=> .ref q.1)):=yB;have a7:∀q∈c,aZ5 H0 (upd (upd H pn (.lst [])) t (.lst (c.map λq=>V.ref q.1))) q:=λq j=>(hP q (by simp[j])).keep b6;have a9:=b6 _ _ c3;generalize c7:upd (upd H pn (.lst [])) t (.lst (c.map λq=>V.ref q.1))=H2 at I a5 a7 a9 ⊢;refine⟨lp,[x,y],rfl,SqT.of a9,rfl,x,[y],rfl,y,[],rfl,rfl,?_⟩;have c6:1<=d.size:=by cases d<;> simp[Dt.size]
 have c5:zY c+d.size<=1000:=by rw[xY]at a8;simpa[zY]using a8
 have hm:zY c<zY (c++ [(lp,d)]):=by rw[xY];simp[zY];omega
 have fin:∀H3,(∀b o,H2 b=some o->H3 b=some o)->∃m',m'<zY (c++ [(lp,d)])/\WUU H0 v u t m' [some v,some u,some (.ref t),some x,some y,k] H3:=λH3 k3=>
  ⟨zY c,hm,c,some x,some y,k,rfl,I.trans k3,k3 _ _ a5,λq j=>(a7 q j).keep λa O e=>k3 _ _ e,rfl,by omega⟩
 refine⟨_,rfl,z2,λp1 b8=>?_⟩;have S:xA H2 (upd H2 p1 (.tup [.ty "list",.ty "tuple"])):=yG b8 _;cases d with
 |non=>
  have ex:x= .non:=by unfold Is at R;exact R
  have X:y= .non:=by unfold Is at N;exact N
  subst ex;subst X;refine⟨_,p1,"list","tuple",_,_,_,rfl,SqT.of yB,.non,W5 _,Y5 _,_,rfl,onF rfl ?_⟩;refine⟨_,rfl,rfl,_,rfl,onT rfl (onT rfl ?_)⟩;refine⟨_,rfl,rfl,_,rfl,onF rfl ?_⟩;refine⟨_,rfl,rfl,_,rfl,onF rfl ?_⟩;exact fin _ S
 |bl b=>
  have ex:x= .bl b:=by unfold Is at R;exact R
  have X:y= .bl b:=by unfold Is at N;exact N
  subst ex;subst X;refine⟨_,p1,"list","tuple",_,_,_,rfl,SqT.of yB,.bl b,aZp _,aXy _,_,rfl,onF rfl ?_⟩;refine⟨_,rfl,rfl,_,rfl,onF rfl ?_⟩;refine⟨_,rfl,rfl,_,rfl,onF rfl ?_⟩;refine⟨_,rfl,_,"bool",_,_,rfl,.bl b,Z3 _,_,rfl,_,"bool",_,_,rfl,.bl b,Z3 _,rfl,_,rfl,onF rfl ?_⟩;refine⟨_,rfl,_,"str",_,_,rfl,.bl b,jS _,_,rfl,_,"str",_,_,rfl,.bl b,jS _,rfl,_,rfl,onF rfl ?_⟩;refine⟨_,rfl,z2,λp2 G=>?_⟩;refine⟨_,p2,"str","int",_,_,_,rfl,SqT.of yB,.bl b,jS _,aJm _,_,rfl,onF rfl ?_⟩;refine⟨_,rfl,_,rfl,rfl,_,rfl,onF (by simp) ?_⟩;exact fin _ (S.trans (yG G _))
 |int n=>
  have ex:x= .int n:=by unfold Is at R;exact R
  have X:y= .int n:=by unfold Is at N;exact N
  subst ex;subst X;refine⟨_,p1,"list","tuple",_,_,_,rfl,SqT.of yB,.int n,aJn _,aZq _,_,rfl,onF rfl ?_⟩;refine⟨_,rfl,rfl,_,rfl,onF rfl ?_⟩;refine⟨_,rfl,rfl,_,rfl,onF rfl ?_⟩;refine⟨_,rfl,_,"bool",_,_,rfl,.int n,jT _,_,rfl,_,"bool",_,_,rfl,.int n,jT _,rfl,_,rfl,onF rfl ?_⟩;refine⟨_,rfl,_,"str",_,_,rfl,.int n,u4 _,_,rfl,_,"str",_,_,rfl,.int n,u4 _,rfl,_,rfl,onF rfl ?_⟩;refine⟨_,rfl,z2,λp2 G=>?_⟩;refine⟨_,p2,"str","int",_,_,_,rfl,SqT.of yB,.int n,u4 _,aXc _,_,rfl,onF rfl ?_⟩;refine⟨_,rfl,_,rfl,rfl,_,rfl,onF (by simp) ?_⟩;exact fin _ (S.trans (yG G _))
 |str z=>
  have ex:x= .str z:=by unfold Is at R;exact R
  have X:y= .str z:=by unfold Is at N;exact N
  subst ex;subst X;refine⟨_,p1,"list","tuple",_,_,_,rfl,SqT.of yB,.str z,aJo _,aZr _,_,rfl,onF rfl ?_⟩;refine⟨_,rfl,rfl,_,rfl,onF rfl ?_⟩;refine⟨_,rfl,rfl,_,rfl,onF rfl ?_⟩;refine⟨_,rfl,_,"bool",_,_,rfl,.str z,aQe _,_,rfl,_,"bool",_,_,rfl,.str z,aQe _,rfl,_,rfl,onF rfl ?_⟩;refine⟨_,rfl,_,"str",_,_,rfl,.str z,vQ _,_,rfl,_,"str",_,_,rfl,.str z,vQ _,rfl,_,rfl,onF rfl ?_⟩;refine⟨_,rfl,z2,λp2 G=>?_⟩;refine⟨_,p2,"str","int",_,_,_,rfl,SqT.of yB,.str z,vQ _,aWm _,_,rfl,onF rfl ?_⟩;refine⟨_,rfl,_,rfl,rfl,_,rfl,onF (by simp) ?_⟩;exact fin _ (S.trans (yG G _))
 |lst g=>
  unfold Is at R N;obtain⟨a,O,rfl,ha,a0⟩:=R;obtain⟨b,ys,rfl,hb,Y⟩:=N;have lx:=a0.length;have ly:=Y.length;have a2:=I _ _ ha;have b2:=I _ _ hb;have b7:wR g+1<=1000:=by
   have:Dt.size (.lst g)=1+wR g:=by simp[Dt.size]
   omega
  have b9:g.length<=wR g:=aQj g;refine⟨_,p1,"list","tuple",_,_,_,rfl,SqT.of yB,.lst (S _ _ b2),wJ _,qN _,_,rfl,onT rfl ?_⟩;refine⟨_,rfl,_,"list",_,_,rfl,.lst (S _ _ a2),wJ _,_,rfl,_,"list",_,_,rfl,.lst (S _ _ b2),wJ _,rfl,_,rfl,onF rfl ?_⟩;refine⟨_,rfl,z2,λp2 G=>?_⟩;have J:=S.trans (yG G (.tup [.ty "list",.ty "tuple"]));refine⟨_,p2,"list","tuple",_,_,_,rfl,SqT.of yB,.lst (J _ _ a2),wJ _,qN _,_,rfl,onF rfl ?_⟩;refine⟨_,rfl,a,_,rfl,.inl (SqL.of (J _ _ a2)),_,rfl,b,_,rfl,.inl (SqL.of (J _ _ b2)),rfl,_,rfl,onF (by simp[lx,ly]) ?_⟩;refine⟨_,rfl,b,_,rfl,.inl (SqL.of (J _ _ b2)),_,rfl,by omega,by omega,?_⟩;have a1:Dt.size (.lst g)=1+wR g:=by simp[Dt.size]
  generalize c0:upd (upd H2 p1 (.tup [.ty "list",.ty "tuple"])) p2 (.tup [.ty "list",.ty "tuple"])=H3 at J ⊢;refine zM (λi C D=>∃ (B:List (Nat×Dt))(kk:Option V),C= [some v,some u,some (.ref t),some (.ref a),some (.ref b),kk]/\xA H0 D/\D t=some (.lst ((c++B).map λq=> .ref q.1))/\(∀q∈c++B,aZ5 H0 D q)/\B.map (·.2)=g.take i) ?_ ?_ ?_
  ·exact⟨[],k,rfl,I.trans J,by rw[cQN];exact J _ _ a5,λq j=>(a7 q (by simpa using j)).keep λa O e=>J _ _ e,rfl⟩
  ·rintro i C D hi ⟨B,kk,rfl,U,Z,h3,W⟩;have M:i<g.length:=by rw[<- ly];omega
   obtain⟨xi,ex,ix⟩:=a0.get (bYG M);obtain⟨yi,X,iy⟩:=Y.get (bYG M);show bQA _ _ _ _;have sa:Sq K D a O:=Sq.same U (.inl ha);have sb:Sq K D b ys:=Sq.same U (.inl hb);refine⟨_,rfl,.inl ⟨rfl,_,SqL.of Z⟩,_,rfl,_,rfl,?_⟩;rw[cXM];refine sa.ix ex ⟨_,rfl,_,rfl,?_⟩;refine sb.ix X ⟨z2,λp hp=>?_⟩;have c2:B.length=i:=by have:=congrArg cZe W;simp at this;omega
   have c1:=aQT c;have L:upd D p (.tup [xi,yi]) t=some (.lst ((c++B).map λq=> .ref q.1)):=by rw[yI (yJ Z hp)];exact Z
   refine⟨t,_,.ref p,rfl,rfl,L,zlt (by simp;omega),B++ [(p,g[i])],_,rfl,vB (U.trans (yG hp _)) a3,?_,?_,?_⟩
   ·rw[yB];simp
   ·intro q j;rw[<- cXd,cQm]at j;rcases j with j|j
    ·exact(h3 q j).keep λa O e=>qD L _ _ (aX0 hp _ _ e)
    ·rw[bYY.mp j];exact⟨xi,yi,qD L _ _ yB,ix,iy⟩
   ·rw[cXt,W,cQP,bYG M];rfl
  ·rintro C D ⟨B,kk,rfl,U,Z,h3,W⟩;have e1:g.take ((ys.length:Nat):Int).toNat=g:=by rw[cQc,ly,cQI]
   rw[e1]at W;have e2:=qB W;refine⟨zY (c++B),?_,c++B,some (.ref a),some (.ref b),kk,rfl,U,Z,h3,rfl,?_⟩
   ·rw[xY,xY,e2];simp[zY,a1]
   ·rw[xY,e2];omega
 |tup g=>
  unfold Is at R N;obtain⟨a,O,rfl,ha,a0⟩:=R;obtain⟨b,ys,rfl,hb,Y⟩:=N;have lx:=a0.length;have ly:=Y.length;have a2:=I _ _ ha;have b2:=I _ _ hb;have b7:wR g+1<=1000:=by
   have:Dt.size (.tup g)=1+wR g:=by simp[Dt.size]
   omega
  have b9:g.length<=wR g:=aQj g;refine⟨_,p1,"list","tuple",_,_,_,rfl,SqT.of yB,.tup (S _ _ b2),wU _,jP _,_,rfl,onT rfl ?_⟩;refine⟨_,rfl,_,"list",_,_,rfl,.tup (S _ _ a2),wU _,_,rfl,_,"list",_,_,rfl,.tup (S _ _ b2),wU _,rfl,_,rfl,onF rfl ?_⟩;refine⟨_,rfl,z2,λp2 G=>?_⟩;have J:=S.trans (yG G (.tup [.ty "list",.ty "tuple"]));refine⟨_,p2,"list","tuple",_,_,_,rfl,SqT.of yB,.tup (J _ _ a2),wU _,jP _,_,rfl,onF rfl ?_⟩;refine⟨_,rfl,a,_,rfl,.inr (SqT.of (J _ _ a2)),_,rfl,b,_,rfl,.inr (SqT.of (J _ _ b2)),rfl,_,rfl,onF (by simp[lx,ly]) ?_⟩;refine⟨_,rfl,b,_,rfl,.inr (SqT.of (J _ _ b2)),_,rfl,by omega,by omega,?_⟩;have a1:Dt.size (.tup g)=1+wR g:=by simp[Dt.size]
  generalize c0:upd (upd H2 p1 (.tup [.ty "list",.ty "tuple"])) p2 (.tup [.ty "list",.ty "tuple"])=H3 at J ⊢;refine zM (λi C D=>∃ (B:List (Nat×Dt))(kk:Option V),C= [some v,some u,some (.ref t),some (.ref a),some (.ref b),kk]/\xA H0 D/\D t=some (.lst ((c++B).map λq=> .ref q.1))/\(∀q∈c++B,aZ5 H0 D q)/\B.map (·.2)=g.take i) ?_ ?_ ?_
  ·exact⟨[],k,rfl,I.trans J,by rw[cQN];exact J _ _ a5,λq j=>(a7 q (by simpa using j)).keep λa O e=>J _ _ e,rfl⟩
  ·rintro i C D hi ⟨B,kk,rfl,U,Z,h3,W⟩;have M:i<g.length:=by rw[<- ly];omega
   obtain⟨xi,ex,ix⟩:=a0.get (bYG M);obtain⟨yi,X,iy⟩:=Y.get (bYG M);show bQA _ _ _ _;have sa:Sq K D a O:=Sq.same U (.inr ha);have sb:Sq K D b ys:=Sq.same U (.inr hb);refine⟨_,rfl,.inl ⟨rfl,_,SqL.of Z⟩,_,rfl,_,rfl,?_⟩;rw[cXM];refine sa.ix ex ⟨_,rfl,_,rfl,?_⟩;refine sb.ix X ⟨z2,λp hp=>?_⟩;have c2:B.length=i:=by have:=congrArg cZe W;simp at this;omega
   have c1:=aQT c;have L:upd D p (.tup [xi,yi]) t=some (.lst ((c++B).map λq=> .ref q.1)):=by rw[yI (yJ Z hp)];exact Z
   refine⟨t,_,.ref p,rfl,rfl,L,zlt (by simp;omega),B++ [(p,g[i])],_,rfl,vB (U.trans (yG hp _)) a3,?_,?_,?_⟩
   ·rw[yB];simp
   ·intro q j;rw[<- cXd,cQm]at j;rcases j with j|j
    ·exact(h3 q j).keep λa O e=>qD L _ _ (aX0 hp _ _ e)
    ·rw[bYY.mp j];exact⟨xi,yi,qD L _ _ yB,ix,iy⟩
   ·rw[cXt,W,cQP,bYG M];rfl
  ·rintro C D ⟨B,kk,rfl,U,Z,h3,W⟩;have e1:g.take ((ys.length:Nat):Int).toNat=g:=by rw[cQc,ly,cQI]
   rw[e1]at W;have e2:=qB W;refine⟨zY (c++B),?_,c++B,some (.ref a),some (.ref b),kk,rfl,U,Z,h3,rfl,?_⟩
   ·rw[xY,xY,e2];simp[zY,a1]
   ·rw[xY,e2];omega
end
end Alike
namespace Alike
open PySem L2 PyProof.Rows
open Bk (Row Rows xV xS Ans)
open Desk (xE wY stV xR Up Run x3 Wf vV wX)
open Law (xC LGo LBk y8 aXj uC)
open Thr (z8)
def bZT{H:Hp}{p:Nat}{vs:List V}{a:List Dt}(h:H p=some (.lst vs))(k:wG H vs a):Is H (.ref p) (.lst a):=by
 unfold Is;exact⟨p,vs,rfl,h,k⟩
def bZl{α:Type}{g:α->Dt}{c n:Nat}{l:List α}(h:∀a∈l,(g a).size<=c)(hl:l.length<=n):Dt.size (.lst (l.map g))<=1+n*c:=by
 have b:Dt.size (.lst (l.map g))=1+wR (l.map g):=by simp[Dt.size]
 have d:=aVH l h;have e:l.length*c<=n*c:=Nat.mul_le_mul_right _ hl;omega
def Run.cut:∀ (n:Nat) {R c:Rows} {S b:List Int} {d fs:List xS} {cs:List Ans},fs.length=n->Run R S (d++fs) cs c b->∃f bs i j,cs=f++bs/\Run R S d f i j/\Run i j fs bs c b
 |0,R,c,S,b,d,fs,cs,hn,h=>by have e:fs= []:=cXw hn;subst e;rw[cQN]at h;exact⟨cs,[],c,b,by rw[cQN],h,.nil⟩
 |n+1,R,c,S,b,d,fs,cs,hn,h=>by
  obtain⟨x,g,rfl⟩:=aJ8 (l:=fs) (by intro z;rw[z]at hn;cases hn);rcases Desk.Run.inv h with⟨z,_⟩|⟨l,e,q,a,i,j,k,s,o,r⟩
  ·rw[<- cXd]at z;simp at z
  ·rw[<- cXd]at k;obtain⟨p,v⟩:=cX1 k rfl;cases v;subst p;obtain⟨f,bs,R2,w,u,t,m⟩:=Run.cut n (by simpa using hn) o;exact⟨f,bs++ [a],R2,w,by rw[s,u,cXd],t,.snoc m r⟩
abbrev aJP:Stmt:=xC "_law_book_of"
abbrev aXO:Stmt:=xC "_law_standing_of"
inductive aVK(vs:List V)(H:Hp)(Q:VK)(_:XK):Prop|mk (ds:Nat) (das:List Nat) (es:List xS) (_:vs= [.ref ds]) (_:x3 H ds das es) (_:es.length<=60) (_:(∀e∈es,Wf e)) (_:∀ (t ra sa:Nat)(H':Hp)(rs:List Nat)(as:List Ans),LGo H ra sa es as H' rs->H' t=some (.tup [.ref ra,.ref sa])->Q (.ref t) H')
inductive aZX(vs:List V)(H:Hp)(Q:VK)(_:XK):Prop|mk (ra:Nat) (rs:List Nat) (R:Rows) (_:vs= [.ref ra]) (_:y8 H ra rs R) (_:R.length<=60) (_:∀ (d:Nat)(H':Hp)(ws:List V),xA H H'->H d=none->H' d=some (.lst ws)->cQA (λv r=>xR H' r v) ws R->Q (.ref d) H')
section
variable {K:bYI}
def aY3:yO ["_law_deeds","_law_rows","_law_shut","_law_deed"] ["_law_deeds"] (yH aJP):=scM
seal PE PA PS PSs PT in
def aYh(a:FnG P w K mg base n "_law_done_by" ["_law_rows","_law_shut","_law_deed"] aXj)(F:Fun K "_law_book_of" "_law_book_of" aJP f fd):xD P w K mg base CX0 (n+1) f fd ["_law_deeds"] aVK:=by
 have T:=aY3;refine F.ok (k:=n) T (λU A outer s N Y Q E S h=>?_);obtain⟨M,l,m,rfl,j,hl,C,q⟩:=h;refine⟨_,(yC (yU (i:=1) (y6 yD)) (yC (yU (i:=2) (y6 yD)) (yC (zN cQv rfl (xM (pv 0)) (xB (i:=3)) (yF (yY (xK a S rfl (yA (pv 1) (yA (pv 2) (yA (pv 3) yD))))))) (yF (yP (xI (yA (pv 1) (yA (pv 2) yD)))))))),?_⟩;refine⟨z0,λB D=>?_⟩;dsimp only[yW];refine⟨z0,λu H=>?_⟩;dsimp only[yW];have I:=LGo.start D H;generalize upd (upd N B (.lst [])) u (.lst [])=H6 at I ⊢;refine⟨_,rfl,M,rfl,⟨_,SqL.of (I.keep _ _ j.1)⟩,?_⟩;refine zO (xs:=l.map V.ref) (λt σ r=>∃ (p:List Nat)(c:List Ans)(y:Option V),σ= [some (.ref M),some (.ref B),some (.ref u),y]/\LGo N B u (m.take t) c r p) ?_ ?_ ?_ ?_
 ·exact⟨[],[],none,rfl,I⟩
 ·rintro t σ r J ⟨p,c,y,rfl,g⟩;exact SqL.of (g.keep _ _ j.1)
 ·rintro t x σ r e ⟨p,c,y,rfl,g⟩;rw[bY1]at e;cases z:l[t]? with
  |none=>rw[z]at e;cases e
  |some d=>
   rw[z]at e;cases e;have o:t<m.length:=by rw[<- j.2.1];exact(bYS.mp z).1
   have L:=bYG o;dsimp only[yW];refine⟨_,rfl,_,rfl,_,rfl,g.step (C _ (cXo o)) (by rw[cQV];omega) (g.keep _ _ (j.2.2 t d _ z L)) λb v X G O W Z nv=>?_⟩;have R:m.take (t+1)=m.take t++ [m[t]]:=by rw[cQP,L];rfl
   exact⟨G,c++ [b],_,rfl,by rw[R];exact O⟩
 rintro σ r ⟨p,c,y,rfl,g⟩;rw[bYL,j.2.1,cQI]at g;dsimp only[aKh];refine⟨_,rfl,_,rfl,z2,λt J=>?_⟩;exact q t B u _ p c (g.same (yG J _)) yB
def aW9:yO ["_law_rows","_law_made","_law_row"] ["_law_rows"] (yH aXO):=scM
seal PE PA PS PSs PT in
def aWO(T:vD mg)(F:Fun K "_law_standing_of" "_law_standing_of" aXO f fd):xD P w K mg base CX0 1 f fd ["_law_rows"] aZX:=by
 have sc:=aW9;refine F.ok (k:=0) sc (λa9 A outer s U vs Q E hr h=>?_);obtain⟨ra,rs,R,rfl,C,a8,q⟩:=h;refine⟨_,(yC (yU (i:=1) (y6 yD)) (yC (zN cQv rfl (xM (pv 0)) (xB (i:=2)) (yF (yY (uF cQj cQo cQp xL (pv 1) (yA (yL yK (y6 (yA (x8 qJ rfl T.b_tuple uX (yA (aXE aJ7 (pv 2) aJI (aJJ yE)) yD)) (yA yQ yD))) (x8 w8 rfl T.b_int uI (yA (yL yK (pv 2) yE) yD))) yD))))) (yF (yP (pv 1))))),?_⟩;refine⟨z0,λu n=>?_⟩;dsimp only[yW];have k8:=yG n (.lst []);refine⟨_,rfl,ra,rfl,⟨_,SqL.of (k8 _ _ C.lst)⟩,?_⟩;refine zO (xs:=rs.map V.ref) (λt σ g=>∃ (m:List V)(N:Option V),σ= [some (.ref ra),some (.ref u),N]/\xA U g/\g u=some (.lst m)/\cQA (λv r=>xR g r v) m (R.take t)) ?_ ?_ ?_ ?_
 ·exact⟨[],none,rfl,k8,yB,.nil⟩
 ·rintro t σ g ht ⟨m,N,rfl,y,c,d⟩;exact SqL.of (y _ _ C.lst)
 ·rintro t x σ g I ⟨m,N,rfl,y,c,d⟩;rw[bY1]at I;cases S:rs[t]? with
  |none=>rw[S]at I;cases I
  |some b=>
   rw[S]at I;cases I;have a6:t<R.length:=by rw[<- C.len];exact(bYS.mp S).1
   have L:=bYG a6;obtain⟨l,e1,e2⟩:=C.row t b _ S L;have b9:g b=some (.lst (uC R[t] l)):=y _ _ e1;have b0:m.length=t:=by rw[cX0 d,cQV];omega
   dsimp only[yW];refine⟨_,rfl,.inl ⟨rfl,_,SqL.of c⟩,_,rfl,_,rfl,b,_,rfl,SqL.of b9,λO a7=>⟨O,_,rfl,.inl ⟨SqL.of yB,λj a1=>⟨z2,λM Y=>?_⟩⟩⟩⟩;have a2:=yG a7 (.lst (aXr (uC R[t] l) none (some 6)));have a3:=yG a1 (.tup (aXr (uC R[t] l) none (some 6)));have a4:=yG Y (.lst [.ref j,.str "void"]);have B:=(a2.trans a3).trans a4;have J:=a4 _ _ (yB (H:=upd g O (.lst (aXr (uC R[t] l) none (some 6)))) (a:=j) (o:= .tup (aXr (uC R[t] l) none (some 6))));have e4:upd (upd (upd g O (.lst (aXr (uC R[t] l) none (some 6)))) j (.tup (aXr (uC R[t] l) none (some 6)))) M (.lst [.ref j,.str "void"]) M=some (.lst [.ref j,.str "void"]):=yB;generalize upd (upd (upd g O (.lst (aXr (uC R[t] l) none (some 6)))) j (.tup (aXr (uC R[t] l) none (some 6)))) M (.lst [.ref j,.str "void"])=H10 at B J e4 ⊢;have a0:=B _ _ b9;have W:atI [V.ref j,V.str "void"] (if R[t].void=true then 1 else 0)=some (if R[t].void=true then .str "void" else .ref j):=by cases R[t].void<;> rfl
   refine⟨_,rfl,b,_,6,_,rfl,rfl,SqL.of a0,rfl,.inr ⟨_,rfl,M,_,_,_,rfl,rfl,SqL.of e4,W,u,_,_,rfl,rfl,B _ _ c,zlt (by omega),?_⟩⟩;have D:U u=none:=n;have a5:∀G,xA U (upd H10 u (.lst G)):=λG x o e=>by rw[yI (yJ e D)];exact B _ _ (y _ _ e)
   have tk:∀ {x zs G},g x=some (.tup zs)->upd H10 u (.lst G) x=some (.tup zs):=λ{x zs G} e=>by rw[yI (λz=>by rw[z,c]at e;cases e)];exact B _ _ e
   refine⟨m++ [if R[t].void=true then .str "void" else .ref j],_,rfl,a5 _,yB,?_⟩;have et:R.take (t+1)=R.take t++ [R[t]]:=by rw[cQP,L];rfl
   rw[et];refine Paired.snoc (Desk.qQ (λv r z=>?_) d) ?_
   ·unfold xR at z ⊢;split
    ·rename_i e;rw[if_pos e]at z;exact z
    ·rename_i e;rw[if_neg e]at z;obtain⟨p,e,q⟩:=z;exact⟨p,e,tk q⟩
   ·unfold xR;cases hv:R[t].void with
    |true=>exact rfl
    |false=>
     have X:aXr (uC R[t] l) none (some 6)=stV R[t]:=by unfold stV Desk.W7 Desk.Y3;rw[hv];cases Z:R[t].link<;> (unfold uC;rw[Z];rfl)
     rw[X]at J;refine⟨j,rfl,?_⟩;rw[yI (λz=>by rw[z,B _ _ c]at J;cases J)];exact J
 rintro σ g ⟨m,N,rfl,y,c,d⟩;rw[bYL,C.len,cQI]at d;exact⟨_,rfl,q u g m y n c d⟩
end
end Alike
namespace Alike
open PySem L2 PyProof.Rows
open Bk (Row Rows xV xS Ans)
open Desk (xE wY stV xR Up Run x3 Wf vV wX)
open Law (xC LGo LBk y8 aQP uC)
open Thr (z8)
def bVe{α β:Type}{F:α->β->Prop}{xs:List α}{ys:List β}(h:cQA F xs ys):∀ {i:Nat} {y:β},ys[i]? =some y->∃x,xs[i]? =some x/\F x y:=by
 induction h with
 |nil=>intro i y e;simp at e
 |@cons a b d c g l k=>
  intro i y e;cases i with
  |zero=>cases e;exact⟨a,rfl,g⟩
  |succ i=>obtain⟨u,j,f⟩:=k (i:=i) (by simpa using e);exact⟨u,by simpa using j,f⟩
def aKE{H:Hp}{das a:List Nat}{es b:List xS}(g:das.length=es.length)(m:∀ (i:Nat)(d:Nat)(e:xS),das[i]? =some d->es[i]? =some e->H d=some (.tup (xE e))) (h:a.length=b.length) (j:∀ (i:Nat)(d:Nat)(e:xS),a[i]? =some d->b[i]? =some e->H d=some (.tup (xE e))) {p:Nat} (k:H p=some (.lst (das.map V.ref++a.map V.ref))):x3 H p (das++a) (es++b):=by
 refine⟨by rw[cXt];exact k,by rw[bY5,bY5,g,h],λi d e c f=>?_⟩;by_cases l:i<das.length
 ·rw[cQd l]at c;rw[cQd (by omega)]at f;exact m i d e c f
 ·rw[bY2 (by omega)]at c f;rw[g]at c;exact j _ d e c f
structure Has(K:bYI)(Tb a ds ra sa:Nat)(ns:List Int)(das:List Nat)(es:List xS)(rs:List Nat)(R:Rows)(S:List Int)(H:Hp):Prop where
 s:SqL K H a (ns.map V.int)
 d:x3 H ds das es
 b:y8 H ra rs R
 sh:H sa=some (.lst (S.map V.int))
 t:z8 Tb H
def bWm{H H':Hp}{ra:Nat}{rs:List Nat}{R:Rows}(h:y8 H ra rs R)(k:x4 H H'):y8 H' ra rs R:=
 ⟨k.lst h.lst,h.len,h.nd,λi b r a c=>let ⟨cp,e1,e2⟩:=h.row i b r a c;⟨cp,k.lst e1,k.lst e2⟩⟩
section
variable {K:bYI}{Tb a ds ra sa:Nat}{ns:List Int}{das:List Nat}{es:List xS}{rs:List Nat}{R:Rows}{S:List Int}{H H':Hp}
def Has.sameT(h:Has K Tb a ds ra sa ns das es rs R S H)(k:x4 H H')(t:z8 Tb H'):Has K Tb a ds ra sa ns das es rs R S H':=
 ⟨k.seq h.s,h.d.same k,bWm h.b k,k.lst h.sh,t⟩
def Has.same(h:Has K Tb a ds ra sa ns das es rs R S H)(k:xA H H'):Has K Tb a ds ra sa ns das es rs R S H':=h.sameT k.t (Desk.jI h.t k)
end
end Alike
namespace Alike
open PySem L2 PyProof.Rows
open Bk (Row Rows xV xS Ans)
open Desk (xE wY stV xR Up Run x3 Wf vV wX)
open Law (xC LGo LBk y8 aQP uC wO)
open Thr (z8)
abbrev aYO:Stmt:=xC "_law_hangs_right"
abbrev bVo:Stmt:=xC "_law_ends"
abbrev bVv:Stmt:=xC "_law_numbered"
def bWy:xS->Bool
 |.enter _ _ _ _=>true
 |.reply _ _ _=>true
 |_=>false
def bJx{R b:Rows}{S c:List Int}{e:xS}{a:Ans}(h:xV R S e a b c):(bWy e=true/\((∃x,a= .txt x)/\b.length=R.length\/a= .num R.length/\b.length=R.length+1))\/(bWy e=false/\b.length=R.length):=by
 cases h;case oneN he=>
  refine .inr ⟨?_,rfl⟩;rcases he with rfl|⟨_,rfl⟩|⟨_,rfl⟩|⟨_,rfl⟩|⟨_,rfl⟩|rfl|rfl|rfl|rfl<;> rfl
 all_goals first
  |exact .inl ⟨rfl,.inl ⟨⟨_,rfl⟩,rfl⟩⟩
  |exact .inl ⟨rfl,.inr ⟨rfl,by simp⟩⟩
  |exact .inr ⟨rfl,rfl⟩
  |exact .inr ⟨rfl,by rw[Bk.zC,Bk.zT]⟩
  |exact .inr ⟨rfl,Bk.zC _ _ _⟩
  |exact .inr ⟨rfl,by rw[Bk.zT]⟩
def bXV{R S es as}(t:Nat){l:Rows}{f:List Int}(h:Run R S es as l f):∃c b,Run R S (es.take t) (as.take t) c b:=by
 have e:=h;rw[<- List.take_append_drop t es]at e;obtain⟨a,bs,c,b,rfl,d,g⟩:=Run.cut _ rfl e;refine⟨c,b,?_⟩;have j:=d.len;have i:=g.len;rw[cQV]at j;rw[List.length_drop]at i;have k:(a++bs).take t=a:=by
  by_cases m:t<=es.length
  ·rw[List.take_append_of_le_length (by omega),cZE (by omega)]
  ·have:bs= []:=cXw (by omega);rw[this,cQN,cZE (by omega)]
 rw[k];exact d
def bXU{R S es as e a}{f:Rows}{d:List Int}(h:Run R S (es++ [e]) (as++ [a]) f d):∃b c,Run R S es as b c/\xV b c e a f d:=by
 rcases Desk.Run.inv h with⟨z,_⟩|⟨n,r,p,s,b,c,m,o,g,l⟩
 ·simp at z
 ·obtain⟨k,q⟩:=cX1 m rfl;obtain⟨i,j⟩:=cX1 o rfl;cases q;cases j;subst k;subst i;exact⟨b,c,g,l⟩
def bYo(a:List xS)(b:List Ans)(t m:Nat):Prop:=∃R S,Run [] [] (a.take t) (b.take t) R S/\R.length=m
inductive bQp(vs:List V)(H:Hp)(Q:VK)(_:XK):Prop|mk (ra:Nat) (rs:List Nat) (R:Rows) (k:Nat) (_:vs= [.ref ra,.int (k:Nat)]) (_:y8 H ra rs R) (_:Bk.qV R) (_:k<R.length) (_:Q (.bl true) H)
inductive bZ8(vs:List V)(H:Hp)(Q:VK)(_:XK):Prop|mk (ra:Nat) (rs:List Nat) (R:Rows) (k:Nat) (_:vs= [.ref ra,.int (k:Nat)]) (_:y8 H ra rs R) (_:Bk.qV R) (_:R.length<=60) (_:k<R.length) (_:Q (.bl true) H)
inductive bJd(vs:List V)(H:Hp)(Q:VK)(_:XK):Prop|mk (ds l:Nat) (das:List Nat) (es:List xS) (ws:List V) (as:List Ans) (R:Rows) (S:List Int) (_:vs= [.ref ds,.ref l]) (_:x3 H ds das es) (_:es.length<=60) (_:(∀e∈es,Wf e)) (_:H l=some (.lst ws)) (_:(∀ (i:Nat)(a:Ans),as[i]? =some a->∃v,ws[i]? =some v/\wY [] H a v)) (_:Run [] [] es as R S) (_:∀H',xA H H'->Q (.int (R.length:Nat)) H')
section
variable {K:bYI}
def bX8:yO ["_law_rows","_law_k","_law_one","_law_link","_law_other"] ["_law_rows","_law_k"] (yH aYO):=scM
seal PE PA PS PSs PT in
def bXx(T:vD mg)(F:Fun K "_law_hangs_right" "_law_hangs_right" aYO f fd):xD P w K mg base CX0 1 f fd ["_law_rows","_law_k"] bQp:=by
 have u:=bX8;refine F.ok (k:=0) u (λB A outer s H N Q E L h=>?_);obtain⟨l,X,R,k,rfl,a,v,C,q⟩:=h;refine⟨_,(yC (yU (i:=2) (yL yK (pv 0) (pv 1))) (yC (yU (i:=3) (yL yK (pv 2) yE)) (yC (y0 (yM aQp (pv 3) x2) (yF (yP wP)) yS) (yC (y0 (PW.pt (vG (yM vF (pv 3) yE) (vG (yM bWP (pv 3) (yT yN rfl T.b_len y9 (yA (pv 0) yD))) (vG (xQ (yL yK (yL yK (pv 0) (pv 3)) yE)) (wM (xQ (yL yK (pv 2) yE))))))) (yF (yP wP)) yS) (yC (yU (i:=4) (yL yK (pv 0) (pv 3))) (yC (y0 (PW.pt (vG (yM zB (yL yK (pv 4) yE) (yL yK (pv 2) yE)) (vG (yM Y8 (yL yK (pv 4) yE) (yL yK (pv 2) yE)) (wM (yM aQo (yL yK (pv 4) yE) (yL yK (pv 2) yE)))))) (yF (yP wP)) yS) (yF (yP (zG zB (yL yK (pv 4) yE) (yL yK (pv 2) yE)))))))))),?_⟩;have e:=bYG C;obtain⟨b,x,G,O,d,U⟩:=a.get e;refine⟨_,rfl,_,rfl,l,_,_,_,rfl,rfl,SqL.of a.lst,yR x,?_⟩;dsimp only[yW];refine⟨_,rfl,b,_,4,_,rfl,rfl,SqL.of d,rfl,?_⟩;dsimp only[yW];cases hl:R[k].link with
 |none=>exact⟨_,rfl,rfl,_,rfl,onT rfl q⟩
 |some j=>obtain⟨o,n,y,r,D,t,M,p⟩:=v.ans k j _ e hl;have I:j<R.length:=Bk.wB n;obtain⟨c,m,W,S,g,J⟩:=a.get n;refine⟨_,rfl,rfl,_,rfl,onF rfl ?_⟩;refine⟨_,rfl,_,_,rfl,rfl,_,rfl,onF (decide_eq_false (by omega)) ?_⟩;refine⟨_,rfl,_,rfl,l,_,rfl,.inl (SqL.of a.lst),_,_,rfl,rfl,_,rfl,onF (decide_eq_false (by rw[bYL,a.len];omega)) ?_⟩;refine⟨_,rfl,_,rfl,l,_,_,_,rfl,rfl,SqL.of a.lst,yR m,c,_,6,_,rfl,rfl,SqL.of g,rfl,_,rfl,onF r ?_⟩;refine⟨_,rfl,b,_,6,_,rfl,rfl,SqL.of d,rfl,_,rfl,onF y ?_⟩;refine⟨_,rfl,_,rfl,l,_,_,_,rfl,rfl,SqL.of a.lst,yR m,?_⟩;dsimp only[yW];refine⟨_,rfl,c,_,0,_,rfl,rfl,SqL.of g,rfl,_,rfl,b,_,0,_,rfl,rfl,SqL.of d,rfl,rfl,_,rfl,onF (decide_eq_false (λz=>D (V.str.inj z).symm)) ?_⟩;refine⟨_,rfl,c,_,2,_,rfl,rfl,SqL.of g,rfl,_,rfl,b,_,2,_,rfl,rfl,SqL.of d,rfl,rfl,_,rfl,onF (by rw[t];simp) ?_⟩;refine⟨_,rfl,c,_,1,_,rfl,rfl,SqL.of g,rfl,_,rfl,b,_,1,_,rfl,rfl,SqL.of d,rfl,_,_,rfl,rfl,_,rfl,onF (decide_eq_false (by omega)) ?_⟩;refine⟨_,rfl,c,_,5,_,rfl,rfl,SqL.of g,rfl,_,rfl,b,_,5,_,rfl,rfl,SqL.of d,rfl,rfl,?_⟩;rw[p];simpa using q
def bVD:yO ["_law_rows","_law_k","_law_step"] ["_law_rows","_law_k"] (yH bVo):=scM
seal PE PA PS PSs PT in
def bJW(T:vD mg)(F:Fun K "_law_ends" "_law_ends" bVo f fd):xD P w K mg base CX0 1 f fd ["_law_rows","_law_k"] bZ8:=by
 have L:=bVD;refine F.ok (k:=0) L (λO A outer s H vs Q E Y h=>?_);obtain⟨x,U,R,k,rfl,c,M,J,S,q⟩:=h;refine⟨_,(yC (zN cQv rfl (xX rfl T.b_range (yA (yV x6 (yT yN rfl T.b_len y9 (yA (pv 0) yD)) yE) yD)) (xB (i:=2)) (yC (y0 (yM aQp (yL yK (yL yK (pv 0) (pv 1)) yE) x2) (yF (yP wP)) yS) (yF (yU (i:=1) (yL yK (yL yK (pv 0) (pv 1)) yE))))) (yF (yP wP))),?_⟩;obtain⟨G,o⟩:=M.tree;have hl:(U.map V.ref).length=R.length:=by rw[bYL];exact c.len
 refine⟨_,rfl,x,_,rfl,.inl (SqL.of c.lst),_,_,rfl,rfl,?_⟩;rw[hl];refine⟨_,rfl,by omega,by omega,?_⟩;have N:((R.length:Nat):Int)+1=((R.length+1:Nat):Int):=by omega
 rw[N];refine zM (n:=R.length+1) (λt σ C=>∃ (j:Nat)(a:List Nat)(B:Option V),σ= [some (.ref x),some (.int (j:Nat)),B]/\C=H/\j<R.length/\a.Nodup/\a.length=t/\∀v∈a,v<R.length/\G j<G v) ?_ ?_ ?_
 ·exact⟨k,[],none,rfl,rfl,S,.nil,rfl,λv h=>nomatch h⟩
 ·rintro i σ C Z ⟨j,a,B,rfl,rfl,u,y,g,d⟩;have e:=bYG u;obtain⟨b,D,X,cp,I,g4⟩:=c.get e;dsimp only[yW];refine⟨_,rfl,_,rfl,x,_,_,_,rfl,rfl,SqL.of c.lst,yR D,b,_,4,_,rfl,rfl,SqL.of I,rfl,?_⟩;cases l:R[j].link with
  |none=>exact⟨rfl,_,rfl,onT rfl q⟩
  |some m=>
   have p:Bk.lk R j=some m:=by rw[Bk.vS e];exact l
   obtain⟨W,r⟩:=o.lt j m u p;refine⟨rfl,_,rfl,onF rfl ?_⟩;refine⟨_,rfl,_,rfl,x,_,_,_,rfl,rfl,SqL.of c.lst,yR D,b,_,4,_,rfl,rfl,SqL.of I,rfl,?_⟩;refine⟨m,j::a,_,by rw[l];rfl,rfl,W,cXJ.mpr ⟨λz=>cQQ _ (d j z).2,y⟩,by rw[cQF,g],λv h=>?_⟩;rcases bYQ.mp h with rfl|h
   ·exact⟨u,r⟩
   ·exact⟨(d v h).1,Nat.lt_trans r (d v h).2⟩
 ·rintro σ C ⟨j,a,B,rfl,rfl,u,y,g,d⟩;have:=J7 R.length a y λv h=>(d v h).1;omega
def bVK:yO ["_law_deeds","_law_told","_law_many","_law_k"] ["_law_deeds","_law_told"] (yH bVv):=scM
seal PE PA PS PSs PT in
def bJ4(T:vD mg)(c:FnG P w K mg base n "_law_whole" ["_law_found"] bQx)(F:Fun K "_law_numbered" "_law_numbered" bVv f fd):xD P w K mg base CX0 (n+1) f fd ["_law_deeds","_law_told"] bJd:=by
 have sc:=bVK;refine F.ok (k:=n) sc (λa2 A outer s H0 vs Q E hr h=>?_);obtain⟨ds,l,r,b,ws,J,R,S,rfl,D,a3,B,hl,hA,a,q⟩:=h;refine⟨_,(yC (yU (i:=2) yE) (yC (zN cQv rfl (xX rfl T.b_range (yA (yT yN rfl T.b_len y9 (yA (pv 0) yD)) yD)) (xB (i:=3)) (yF (y0 (PW.pt (vM (yM wL (yL yX (yL yK (pv 0) (pv 3)) yE) (y6 (yA yQ (yA yQ (yA yQ yD))))) (wQ (wA (xQ (yT zR rfl T.b_isinstance y7 (yA (yL yK (pv 1) (pv 3)) (yA (zF (v:= .ty "str") rfl T.b_str aQ9 rfl) yD)))))))) (yC (y0 (PW.pt (vG (wA (xQ (xK c hr rfl (yA (yL yK (pv 1) (pv 3)) yD)))) (wM (yM Y8 (yL yK (pv 1) (pv 3)) (pv 2))))) (yF (yP x2)) yS) (yF (yU (i:=2) (yV x6 (pv 2) yE)))) yS))) (yF (yP (pv 2))))),?_⟩;dsimp only[yW];refine⟨_,rfl,ds,_,rfl,.inl (SqL.of D.1),?_⟩;rw[bYL,D.2.1];refine⟨_,rfl,by omega,by omega,?_⟩;refine zM (n:=b.length) (λt σ H=>∃ (m:Nat)(X:Option V),σ= [some (.ref ds),some (.ref l),some (.int (m:Nat)),X]/\xA H0 H/\bYo b J t m) ?_ ?_ ?_
 ·exact⟨0,none,rfl,xA.refl _,[],[],.nil,rfl⟩
 ·rintro i σ H N ⟨m,X,rfl,y,C,S1,M,rfl⟩;rw[cXM];dsimp only[yW];have a1:=a.len;have he:=bYG N;have ha:=bYG (show i<J.length by omega);obtain⟨R2,S2,L⟩:=bXV (i+1) a;have et:b.take (i+1)=b.take i++ [b[i]]:=by rw[cQP,he];rfl
  have a0:J.take (i+1)=J.take i++ [J[i]]:=by rw[cQP,ha];rfl
  have z:=L;rw[et,a0]at z;obtain⟨R3,S3,r3,dn⟩:=bXU z;obtain⟨-,rfl,rfl⟩:=Run.det _ rfl M r3;have Y:i<r.length:=by rw[D.2.1];exact N
  have hd:=bYG Y;have Z:=D.2.2 i _ _ hd he;obtain⟨v,p,g⟩:=hA i _ ha;have h0:(xE b[i])[0]? =some (.str (Desk.aWl b[i])):=by cases b[i]<;> rfl
  have O:(r.map V.ref)[i]? =some (.ref r[i]):=by rw[bY1,hd];rfl
  refine⟨_,rfl,_,rfl,ds,_,_,_,rfl,rfl,SqL.of (y _ _ D.1),yR O,r[i],_,0,_,rfl,rfl,SqT.of (y _ _ Z),yR (j:=0) h0,z3,λl0 U=>⟨l0,_,rfl,.inl (SqL.of yB),rfl,rfl,_,rfl,?_⟩⟩;have G:=yG U (.lst [.str "in",.str "out",.str "reply"]);generalize upd H l0 (.lst [.str "in",.str "out",.str "reply"])=H1 at G ⊢;have o:=G _ _ (y _ _ hl);rcases bJx dn with⟨e,⟨⟨x,W⟩,I⟩|⟨W,I⟩⟩|⟨e,I⟩
  ·have ev:v= .str x:=by rw[W]at g;exact g
   subst ev;refine onT (by have hw:=B b[i] (cXo N);cases u:b[i]with|enter way d who t=>(rw[u]at hw;rcases(show way="in"\/way="out" from hw)with rfl|rfl<;> rfl)|reply=>rfl|_=>(rw[u]at e;cases e)) ?_;refine⟨_,rfl,_,rfl,l,_,_,_,rfl,rfl,SqL.of o,yR p,_,"str",_,_,rfl,.str _,vQ _,_,rfl,onF rfl ?_⟩;exact⟨C.length,_,rfl,y.trans G,R2,S2,L,I⟩
  ·have ev:v= .int (C.length:Nat):=by rw[W]at g;exact g
   subst ev;refine onT (by have hw:=B b[i] (cXo N);cases u:b[i]with|enter way d who t=>(rw[u]at hw;rcases(show way="in"\/way="out" from hw)with rfl|rfl<;> rfl)|reply=>rfl|_=>(rw[u]at e;cases e)) ?_;refine⟨_,rfl,_,rfl,l,_,_,_,rfl,rfl,SqL.of o,yR p,_,"str",_,_,rfl,.int _,u4 _,_,rfl,onT rfl ?_⟩;refine⟨_,rfl,_,rfl,l,_,_,_,rfl,rfl,SqL.of o,yR p,_,rfl,_,rfl,onF rfl ?_⟩;refine⟨_,rfl,_,rfl,l,_,_,_,rfl,rfl,SqL.of o,yR p,_,rfl,rfl,_,rfl,onF (by simp) ?_⟩;refine⟨_,rfl,_,_,rfl,rfl,?_⟩;exact⟨C.length+1,_,rfl,y.trans G,R2,S2,L,I⟩
  ·refine onF (by cases u:b[i]with|enter=>(rw[u]at e;cases e)|reply=>(rw[u]at e;cases e)|on late d=>(cases late<;> rfl)|_=>rfl) ?_;exact⟨C.length,_,rfl,y.trans G,R2,S2,L,I⟩
 ·rintro σ H ⟨m,X,rfl,y,C,S1,M,rfl⟩;rw[cQI,a.len,cQI]at M;obtain⟨-,rfl,rfl⟩:=Run.det _ rfl a M;exact⟨_,rfl,q _ y⟩
end
end Alike
namespace Alike
open PySem L2 PyProof.Rows
open Bk (Row Rows xV xS Ans)
open Desk (xE wY stV xR Up Run x3 Wf vV wX)
open Law (xC LGo LBk y8 aQP uC jG)
open Thr (z8)
def bWG{α:Type}{l:List α}{i:Nat}{x:α}(h:l[i]? =some x):i<l.length:=(bYS.mp h).1
def bWR{α β:Type}{F:α->β->Prop}{xs:List α}{ys:List β}(h:cQA F xs ys):∀ {i:Nat} {x:α},xs[i]? =some x->∃y,ys[i]? =some y/\F x y:=by
 induction h with
 |nil=>intro i y e;simp at e
 |@cons a b d c g l k=>
  intro i y e;cases i with
  |zero=>cases e;exact⟨b,rfl,g⟩
  |succ i=>obtain⟨u,j,f⟩:=k (i:=i) (by simpa using e);exact⟨u,by simpa using j,f⟩
def aZL{R g:Rows}{S d:List Int}:∀ (n:Nat) {fs:List xS} {bs:List Ans},fs.length=n->(∀e∈fs,∀a c b,xV R S e a c b->c=R/\b=S)->Run R S fs bs g d->g=R/\d=S/\cQA (λe a=>xV R S e a R S) fs bs
 |0,fs,bs,hn,hf,h=>by
  rcases Desk.Run.inv h with⟨rfl,rfl,rfl,rfl⟩|⟨_,_,_,_,_,_,rfl,_⟩
  ·exact⟨rfl,rfl,.nil⟩
  ·simp at hn
 |n+1,fs,bs,hn,hf,h=>by
  rcases Desk.Run.inv h with⟨rfl,rfl,rfl,rfl⟩|⟨l,e,k,a,c,b,rfl,rfl,i,f⟩
  ·simp at hn
  ·obtain⟨rfl,rfl,j⟩:=aZL n (by simpa using hn) (λe m=>hf e (by simp[m])) i;obtain⟨rfl,rfl⟩:=hf e (by simp) _ _ _ f;exact⟨rfl,rfl,Paired.snoc j f⟩
def Q8{R i:Rows}{S e:List Int}{k:Nat}{r:Row}{a:Ans}(f:R[k]? =some r)(h:xV R S (.thread (k:Int)) a i e):a=(if r.void then .txt "no letter" else .nums (Bk.thr R k))/\i=R/\e=S:=by
 cases d:r.void with
 |true=>
  have g:Bk.wN R (k:Int)=false:=by unfold Bk.wN;rw[cQc,f];simp[d]
  have:=Bk.xV.det rfl h (.oneN g (.inr (.inr (.inr (.inr (.inr (.inr (.inr (.inl rfl)))))))));exact this
 |false=>obtain⟨a,b,c⟩:=Bk.xV.det rfl h (.thread f d);exact⟨a,b,c⟩
def bXa{n:Nat}{E:List Nat}{w:TE}{σ:L2.St}{D:Nat}{Q:VK}{H:Hp}(g:Nat->xS)(C:H D=none)(hz:n<=1000) (K:∀i,i<n->∀ (b:Hp)(R:VK),(∀t,b t=none->R (.ref t) (upd b t (.tup (xE (g i)))))->w (sub σ E (some (.int (i:Nat)))) b R) (L:∀ (b:Hp)(a:List Nat),xA H b->x3 b D a ((bYU n).map g)->Q (.ref D) b):bJo (Itr 0 n) E bYa w σ D Q (upd H D (.lst [])):=by
 refine⟨λi m A b=>m=n - i/\i<=n/\∃a:List Nat,A=a.map V.ref/\xA H b/\x3 b D a ((bYU i).map g),⟨n,by simp,cQE _,[],rfl,yG C _,yB,rfl,λi d e h=>by simp at h⟩,?_⟩;rintro i m A b ⟨rfl,N,a,rfl,F,l⟩;refine⟨l.1,?_⟩;by_cases k:i<n
 ·refine .inr ⟨k,λv B G=>?_⟩;obtain⟨J,y⟩:=G;subst J;subst y;rw[cXM];have u:a.length=i:=by rw[l.2.1,bYL,cQt]
  show w _ _ _;refine K i k _ _ λt f=>?_;have r:=yG f (.tup (xE (g i)));have M:t≠D:=λz=>by rw[z,l.1]at f;cases f
  refine⟨zlt (by rw[bYL];omega),r _ _ l.1,n - (i+1),by omega,rfl,k,a++ [t],by simp,λx o e=>?_,yB.trans (by simp),by simp[u],λj d e c p=>?_⟩
  ·rw[yI (yJ e C)];exact r _ _ (F _ _ e)
  ·rw[cXS,cXt]at p;have q:∀ {x:Nat} {s:List V},upd B t (.tup (xE (g i))) x=some (.tup s)->upd (upd B t (.tup (xE (g i)))) D (.lst (a.map V.ref++ [.ref t])) x=some (.tup s):=λ{x s} e=>by
    rw[yI (λz=>by rw[z,r _ _ l.1]at e;cases e)];exact e
   by_cases I:j<a.length
   ·rw[cQd I]at c;rw[cQd (by simp;omega)]at p;exact q (r _ _ (l.2.2 j d e c p))
   ·rw[bY2 (by omega)]at c;rw[bY2 (by simp;omega)]at p;have:j - a.length=0:=by
     have:=(bYS.mp c).1;simp at this;omega
    rw[this]at c;simp at c;subst c;have y:j - ((bYU i).map g).length=0:=by simp;omega
    rw[y]at p;simp at p;subst p;exact q yB
 ·obtain rfl:i=n:=by omega
  exact .inl ⟨bYO _,L _ _ F l⟩
def bWp(a:List Int)(b:Nat):aXr (a.map V.int) none (some (b:Int))=(a.take b).map V.int:=by
 unfold aXr;rw[HT.bXW,bVt,List.drop_zero,Nat.sub_zero,List.map_take];by_cases c:b<=(a.map V.int).length
 ·rw[Nat.min_eq_left c]
 ·rw[Nat.min_eq_right (by omega),cZE (bYO _),cZE (by omega)]
abbrev bKw:Stmt:=xC "law"
def bZp(c:Nat)(K:bYI):Sp:=λd H Q _=>∃ (a:Nat)(b:List Int),d= [.ref a]/\SqL K H a (b.map V.int)/\b.length<=63/\z8 c H/\∀e,Q (.bl true) e
section
variable {K:bYI}
def bW5:yO ["_law_script","_law_deeds","_law_rows","_law_due","_law_found","_law_told","_law_k","_law_one"] ["_law_script"] (yH bKw):=scM
def bWE:xJ ["_law_script","_law_deeds","_law_rows","_law_due","_law_found","_law_told","_law_k","_law_one"] (yH bKw) "_law_k" [] [] (lsN [(".0",.local),("_law_k",.local)]):=
 lcM
seal PE PA PS PSs PT in
def bWM(T:vD mg)(a0:FnG P w K mg base n "_law_story" ["_law_cells"] aQP)(a2:FnG P w K mg base n "_law_room" ["_law_script","_law_most","_law_bound"] (bJe K))(N:FnG P w K mg base n "_law_book_of" ["_law_deeds"] aVK) (C:FnG P w K mg base n "_law_standing_of" ["_law_rows"] aZX) (B:FnG P w K mg base n "_law_unturned" ["_law_found","_law_due"] aXk) (J:FnG P w K mg base n "_law_numbered" ["_law_deeds","_law_told"] bJd) (G:FnG P w K mg base n "_law_hangs_right" ["_law_rows","_law_k"] bQp) (a1:FnG P w K mg base n "_law_ends" ["_law_rows","_law_k"] bZ8) (U:FnG P w K mg base n "_law_family" ["_law_rows","_law_number"] jG) (M:FnG P w K mg base n "answers" ["deeds"] (vV Rf)) (I:FnG P w K mg base n "standing" ["deeds"] (wX Rf)) (F:Fun K "law" "law" bKw f fd):xD P w K mg base CX0 (n+1) f fd ["_law_script"] (bZp Rf.2 K):=by
 have sc:=bW5;refine F.ok (k:=n) sc (λh6 A outer s H0 vs Q E Y h=>?_);obtain⟨a,ns,rfl,hS,f6,hT,q⟩:=h;refine⟨_,(yC (yU (i:=1) (yL yX (xK a0 Y rfl (yA (aXE aJ7 (pv 0) aJI (aJJ (xK a2 Y rfl (yA (pv 0) (yA yE (yA yE yD)))))) yD)) yE)) (yC (yU (i:=2) (yL yX (xK N Y rfl (yA (pv 1) yD)) yE)) (yC (yU (i:=3) (xK C Y rfl (yA (pv 2) yD))) (yC (yU (i:=4) (xK I Y rfl (yA (x8 uJ rfl T.b_list wZ (yA (pv 1) yD)) yD))) (yC (y0 (wA (xQ (xK B Y rfl (yA (pv 4) (yA (pv 3) yD))))) (yF (yP wP)) yS) (yC (yU (i:=4) (pv 3)) (yC (yU (i:=5) (xK M Y rfl (yA (yV aVs (pv 1) (W6 bWE rfl (xX rfl T.b_range (yA (yT yN rfl T.b_len y9 (yA (pv 4) yD)) yD)) (λ_ _ _ _ _=>zV) (λ_ _ _ _ _=>(xI (yA yQ (yA (pv 0) yD)))))) yD))) (yC (y0 (PW.pt (vG (wA (xQ (yT zR rfl T.b_isinstance y7 (yA (pv 5) (yA (zF (v:= .ty "list") rfl T.b_list wZ rfl) yD))))) (wM (yM Y8 (yT yN rfl T.b_len y9 (yA (pv 5) yD)) (yV x6 (yT yN rfl T.b_len y9 (yA (pv 1) yD)) (yT yN rfl T.b_len y9 (yA (pv 4) yD))))))) (yF (yP wP)) yS) (yC (y0 (yM Y8 (xK J Y rfl (yA (pv 1) (yA (pv 5) yD))) (yT yN rfl T.b_len y9 (yA (pv 4) yD))) (yF (yP wP)) yS) (yC (zN cQv rfl (xX rfl T.b_range (yA (yT yN rfl T.b_len y9 (yA (pv 2) yD)) yD)) (xB (i:=6)) (yF (y0 (wA (xQ (xK G Y rfl (yA (pv 2) (yA (pv 6) yD))))) (yF (yP wP)) yS))) (yC (zN cQv rfl (xX rfl T.b_range (yA (yT yN rfl T.b_len y9 (yA (pv 2) yD)) yD)) (xB (i:=6)) (yC (yU (i:=7) (yL yK (pv 5) (yV x6 (yT yN rfl T.b_len y9 (yA (pv 1) yD)) (pv 6)))) (yF (y0 (xQ (yL yK (yL yK (pv 2) (pv 6)) yE)) (yF (y0 (PW.pt (vG (wA (xQ (yT zR rfl T.b_isinstance y7 (yA (pv 7) (yA (zF (v:= .ty "str") rfl T.b_str aQ9 rfl) yD))))) (wM (yM Y8 (pv 7) yQ)))) (yF (yP wP)) yS)) (yF (y0 (PW.pt (vG (wA (xQ (xK a1 Y rfl (yA (pv 2) (yA (pv 6) yD))))) (wM (wA (xQ (xK B Y rfl (yA (pv 7) (yA (xK U Y rfl (yA (pv 2) (yA (pv 6) yD))) yD)))))))) (yF (yP wP)) yS)))))) (yF (yP wP))))))))))))),?_⟩;refine⟨_,rfl,_,rfl,a,ns,24,60,rfl,hS,f6,_,rfl,a,_,rfl,hS,λp hp=>?_⟩;have k0:=yG hp (.lst (aXr (ns.map V.int) none (some 24)));refine⟨p,ns.take 24,rfl,yB.trans (by rw[show(24:Int)=((24:Nat):Int)from rfl,bWp]),by rw[cQV];omega,λH1 t ds us j Z vs as R S k1 ht hD f7 hP L a3 c9=>?_⟩;have d0:Z.length<=27:=by rw[cQV]at c9;omega
 have c2:=(k0.trans k1).t.seq hS;have T1:=Desk.jI hT (k0.trans k1);refine⟨t,_,0,_,rfl,rfl,SqT.of ht,rfl,?_⟩;dsimp only[yW];refine⟨_,rfl,ds,j,Z,rfl,hD,by omega,a3,λt2 ra sa H2 rs cs g c3=>?_⟩;obtain⟨R2,S2,hL,e5,a4,d3⟩:=g.ex;obtain⟨rfl,rfl,rfl⟩:=Run.det Z.length rfl L d3;have e3:R.length<=27:=cQn e5.r d0;have A2:Has K Rf.2 a ds ra sa ns j Z rs R S H2:=⟨g.keep.t.seq c2,hD.same g.keep.t,hL.book,hL.shut,Desk.jI T1 g.keep⟩;clear hD f7 hP ht c2 T1 g hL k1;refine⟨t2,_,0,_,rfl,rfl,SqT.of c3,rfl,?_⟩;dsimp only[yW];refine⟨_,rfl,ra,rs,R,rfl,A2.b,by omega,λd1 H3 g0 k3 g6 d6 a8=>?_⟩;have A3:=A2.same k3;dsimp only[yW];refine⟨_,rfl,ds,_,rfl,.inl (SqL.of A3.d.1),λhl b8=>?_⟩;have k4:=yG b8 (.lst (j.map V.ref));have A4:=A3.same k4;have D4:x3 (upd H3 hl (.lst (j.map V.ref))) hl j Z:=⟨yB,A3.d.2.1,λi d e h1 h2=>k4 _ _ (A3.d.2.2 i d e h1 h2)⟩;have b6:=k4 _ _ d6;have a7:=Desk.qQ (λv r (z:xR H3 r v)=>z.same k4.t) a8;generalize upd H3 hl (.lst (j.map V.ref))=H4 at A4 D4 b6 a7 ⊢;refine⟨hl,j,Z,rfl,D4,by omega,a3,A4.t,λl H5 ws bs R2 S2 k5 T5 c4 h3 d5 d2=>?_⟩;obtain⟨-,rfl, -⟩:=Run.det Z.length rfl L c4;have A5:=A4.sameT k5 T5;have a9:=k5.lst b6;have a6:=Desk.qQ (λv r (z:xR H4 r v)=>z.same k5) a7;dsimp only[yW];refine⟨_,rfl,_,rfl,.ref l,.ref d1,.lst (R.map aQQ),rfl,bZT d5 (uN (F:=λv r=>xR H5 r v) (λv r z=>aVm z) d2),bZT a9 (uN (F:=λv r=>xR H5 r v) (λv r z=>aVm z) a6),cQn (bZl (n:=27) (c:=7) (λr _=>aKf r) e3) (by decide),λH6 k6=>⟨_,rfl,onF rfl ?_⟩⟩;have A6:=A5.same k6;have b9:=k6 _ _ a9;have b3:g0.length=R.length:=a8.length;clear A2 A3 A4 A5 D4 a7 d2 a6 d5 b6 a9 k4 k5 k3 k6 b8 c3 d6 a8;refine⟨_,rfl,?_⟩;dsimp only[yW];refine⟨_,rfl,_,rfl,d1,_,rfl,.inl (SqL.of b9),?_⟩;rw[b3];refine⟨_,rfl,by omega,by omega,λD hD=>?_⟩;rw[cQc];refine bXa (λk=> .thread (k:Nat)) hD (by omega) (λi hi H' R' f9=>⟨_,rfl,z2,λt ht=>f9 t ht⟩) λH7 a5 k7 hq=>?_;have A7:=A6.same k7;have f8:=k7 _ _ b9;have h4:a5.length=R.length:=by rw[hq.2.1,bYL,cQt]
 have h0:j.length<=27:=by rw[A7.d.2.1];exact d0
 refine⟨ds,D,_,_,rfl,rfl,A7.d.1,hq.1,by rw[bYL,bYL,cQg];omega,λp1 e1=>?_⟩;have b1:=yG e1 (.lst (j.map V.ref++a5.map V.ref));have D8:=aKE A7.d.2.1 (λi d e h1 h2=>b1 _ _ (A7.d.2.2 i d e h1 h2)) hq.2.1 (λi d e h1 h2=>b1 _ _ (hq.2.2 i d e h1 h2)) (yB (H:=H7) (a:=p1) (o:= .lst (j.map V.ref++a5.map V.ref)));have e6:∀e∈Z++(bYU R.length).map (λk=>xS.thread (k:Nat)),Wf e:=λe he=>by
  rcases cQm.mp he with z|z
  ·exact a3 e z
  ·obtain⟨k,_,rfl⟩:=cQH.mp z;exact cQ3
 have g5:(Z++(bYU R.length).map (λk=>xS.thread (k:Nat))).length<=54:=by rw[bY5,bYL,cQt];omega
 refine⟨p1,j++a5,_,rfl,D8,by omega,e6,(A7.same b1).t,λm H8 b2 g7 R' S' k8 T8 c8 h5 hm b4=>?_⟩;obtain⟨h7,f0,R1,S1,rfl,c7,b5⟩:=Run.cut _ rfl c8;obtain⟨rfl,rfl,rfl⟩:=Run.det Z.length rfl L c7;obtain⟨q1,q2,c6⟩:=aZL _ rfl (λe he a R1 S1 h=>by
  obtain⟨k,hk,rfl⟩:=cQH.mp he;exact(Q8 (bYG (cQf.mp hk)) h).2) b5
 have q1:=q1.symm;have q2:=q2.symm;subst q1;subst q2;have A8:=(A7.same b1).sameT k8 T8;have d9:=k8.lst (b1 _ _ f8);have e9:f0.length=R.length:=by rw[<- cX0 c6,bYL,cQt]
 have c5:as.length=Z.length:=L.len.symm;have f5:b2.length=j.length+R.length:=by rw[b4.length,bY5,e9,c5,A8.d.2.1]
 dsimp only[yW];refine⟨_,rfl,_,"list",_,_,rfl,.lst hm,wJ _,_,rfl,onF rfl ?_⟩;refine⟨_,rfl,m,_,rfl,.inl (SqL.of hm),_,rfl,ds,_,rfl,.inl (SqL.of A8.d.1),_,rfl,d1,_,rfl,.inl (SqL.of d9),_,_,rfl,rfl,rfl,_,rfl,onF ?_ ?_⟩
 ·rw[f5,bYL,b3];simp
 refine⟨_,rfl,_,rfl,ds,m,j,Z,b2,as,R,S,rfl,A8.d,by omega,a3,hm,λi x hx=>?_,L,λH9 k9=>?_⟩
 ·exact bVe b4 (by rw[cQd (bWG hx)];exact hx)
 have A9:=A8.same k9;have b0:=k9 _ _ hm;refine⟨_,rfl,d1,_,rfl,.inl (SqL.of (k9 _ _ d9)),rfl,_,rfl,onF (by rw[b3];simp) ?_⟩;have d4:(rs.map V.ref).length=R.length:=by rw[bYL];exact A9.b.len
 refine⟨_,rfl,ra,_,rfl,.inl (SqL.of A9.b.lst),?_⟩;rw[d4];refine⟨_,rfl,by omega,by omega,?_⟩;rw[cQc];refine zM (λt σ H=>∃ (o6:Option V),σ= [some (.ref a),some (.ref ds),some (.ref ra),some (.ref d1),some (.ref d1),some (.ref m),o6,none]/\xA H9 H) ?_ ?_ ?_
 ·exact⟨none,rfl,xA.refl _⟩
 ·rintro i σ H hi ⟨o6,rfl,kH⟩;rw[cXM];dsimp only[yW];exact⟨_,rfl,_,rfl,ra,rs,R,i,rfl,(A9.same kH).b,a4,hi,_,rfl,onF rfl ⟨_,rfl,kH⟩⟩
 rintro σ H ⟨o6,rfl,kH⟩;have A9:=A9.same kH;have b0:=kH _ _ b0;have k9:=k9.trans kH;dsimp only[aKh];refine⟨_,rfl,ra,_,rfl,.inl (SqL.of A9.b.lst),?_⟩;rw[d4];refine⟨_,rfl,by omega,by omega,?_⟩;rw[cQc];refine zM (λt σ H'=>∃ (o6 o7:Option V),σ= [some (.ref a),some (.ref ds),some (.ref ra),some (.ref d1),some (.ref d1),some (.ref m),o6,o7]/\xA H H') ?_ ?_ ?_
 ·exact⟨_,_,rfl,xA.refl _⟩
 ·rintro i σ H' hi ⟨o6,o7,rfl,X⟩;rw[cXM];dsimp only[yW];have W:=A9.same X;have d8:=X _ _ b0;have c1:=bYG hi;obtain⟨e,f4,f3⟩:=bWR c6 (i:=i) (x:= .thread (i:Nat)) (by rw[bY1,cXr hi];rfl);have O:=(Q8 c1 f3).1;obtain⟨v,e4,c0⟩:=bVe b4 (i:=as.length+i) (y:=e) (by rw[bY2 (by omega),Nat.add_sub_cancel_left];exact f4);have f1:atI b2 ((((j.map V.ref).length:Nat):Int)+(i:Nat))=some v:=by
   rw[bYL,W.d.2.1,<- c5,<- Int.natCast_add];exact yR e4
  obtain⟨b,g1,g2,cp,g3,g4⟩:=W.b.get c1;refine⟨_,rfl,_,rfl,ds,_,rfl,.inl (SqL.of W.d.1),_,rfl,_,_,rfl,rfl,m,_,_,_,rfl,rfl,SqL.of d8,f1,?_⟩;dsimp only[yW];refine⟨_,rfl,_,rfl,ra,_,_,_,rfl,rfl,SqL.of W.b.lst,yR g1,b,_,6,_,rfl,rfl,SqL.of g3,rfl,_,rfl,?_⟩;cases hv:R[i].void with
  |true=>rw[hv,if_pos rfl]at O;subst O;have ev:v= .str "no letter":=c0;subst ev;exact onT rfl ⟨_,rfl,_,"str",_,_,rfl,.str _,vQ _,_,rfl,onF rfl ⟨_,rfl,rfl,_,rfl,onF (by simp) ⟨_,_,rfl,X⟩⟩⟩
  |false=>rw[hv,if_neg (by decide)]at O;subst O;refine onF rfl ⟨_,rfl,_,rfl,ra,rs,R,i,rfl,W.b,a4,by omega,hi,_,rfl,onF rfl ?_⟩;obtain⟨rk,o⟩:=a4.tree;refine⟨_,rfl,_,rfl,_,rfl,ra,rs,R.length,Bk.lk R,rk,Bk.dt R,i,rfl,W.b.rows,o,by omega,hi,λf2 r out e0 g8 d7 e7 b7=>?_⟩;have eo:Bk.thr R i=out:=Bk.aXl hi ⟨rk,o,e7,b7⟩;have e8:wY [] f2 (.nums (Bk.thr R i)) v:=Law.qH c0 λp u n e=>⟨n,(k9.trans (X.trans e0)) _ _ e⟩;refine⟨v,.ref r,aKr (.nums (Bk.thr R i)),rfl,bZS e8,bZS (o:= []) ⟨r,rfl,(λz=>nomatch z),by rw[eo];exact d7⟩,?_,λg9 e2=>⟨_,rfl,onF rfl ⟨_,_,rfl,X.trans (e0.trans e2)⟩⟩⟩;rw[aYa];have:=bV3 a4.tree (k:=i);omega
 ·rintro σ H' ⟨o6,o7,rfl,X⟩;exact q _
end
end Alike
namespace Desk
open PySem L2 PyProof.Rows
section
variable {K:bYI}
abbrev aQD:Stmt:=xF "Refused" "__init__"
def aWV:yO ["self","words"] ["self","words"] (yH aQD):=scM
def aWA(F:Fun K "__init__" "Refused.__init__" aQD f fd):xD P w K mg base CX0 (n+1) f fd ["self","words"] (wS K):=by
 have d:=aWV;refine F.ok (k:=n) d (λi A outer s H l Q E j h=>?_);obtain⟨e,C,tp,y,rfl,g,c,q⟩:=h;refine⟨_,(yF (bWU (pv 0) (pv 1) rfl)),?_⟩;exact⟨_,rfl,_,rfl,e,C,tp,rfl,g,c,λb a=>q b a⟩
abbrev X3:Stmt:=xF "NoLetter" "__init__"
def aJX:yO ["self"] ["self"] (yH X3):=scM
def aJu(a:aV1 P w K mg base n "Refused" "__init__" ["self","words"] (wS K))(d:vX K C)(F:Fun K "__init__" "NoLetter.__init__" X3 f fd):xD P w K mg base CX0 (n+1) f fd ["self"] (wD K C "no letter"):=by
 have i:=aJX;refine F.ok (k:=n) i (λl A outer s H m Q E g h=>?_);obtain⟨e,tp,rfl,j,q⟩:=h;refine⟨_,(yF (yY (uQ a g rfl (yA (pv 0) (yA yQ yD))))),?_⟩;exact⟨_,rfl,e,C,tp,_,rfl,j,d,λc b=>q c b⟩
abbrev aXT:Stmt:=xF "NoTerm" "__init__"
def aY1:yO ["self"] ["self"] (yH aXT):=scM
def aYf(a:aV1 P w K mg base n "Refused" "__init__" ["self","words"] (wS K))(d:vX K C)(F:Fun K "__init__" "NoTerm.__init__" aXT f fd):xD P w K mg base CX0 (n+1) f fd ["self"] (wD K C "no term"):=by
 have i:=aY1;refine F.ok (k:=n) i (λl A outer s H m Q E g h=>?_);obtain⟨e,tp,rfl,j,q⟩:=h;refine⟨_,(yF (yY (uQ a g rfl (yA (pv 0) (yA yQ yD))))),?_⟩;exact⟨_,rfl,e,C,tp,_,rfl,j,d,λc b=>q c b⟩
abbrev aXS:Stmt:=xF "HasOne" "__init__"
def aY0:yO ["self"] ["self"] (yH aXS):=scM
def aYe(a:aV1 P w K mg base n "Refused" "__init__" ["self","words"] (wS K))(d:vX K C)(F:Fun K "__init__" "HasOne.__init__" aXS f fd):xD P w K mg base CX0 (n+1) f fd ["self"] (wD K C "has one"):=by
 have i:=aY0;refine F.ok (k:=n) i (λl A outer s H m Q E g h=>?_);obtain⟨e,tp,rfl,j,q⟩:=h;refine⟨_,(yF (yY (uQ a g rfl (yA (pv 0) (yA yQ yD))))),?_⟩;exact⟨_,rfl,e,C,tp,_,rfl,j,d,λc b=>q c b⟩
abbrev aQC:Stmt:=xF "HasNone" "__init__"
def aWU:yO ["self"] ["self"] (yH aQC):=scM
def aWz(a:aV1 P w K mg base n "Refused" "__init__" ["self","words"] (wS K))(d:vX K C)(F:Fun K "__init__" "HasNone.__init__" aQC f fd):xD P w K mg base CX0 (n+1) f fd ["self"] (wD K C "has none"):=by
 have i:=aWU;refine F.ok (k:=n) i (λl A outer s H m Q E g h=>?_);obtain⟨e,tp,rfl,j,q⟩:=h;refine⟨_,(yF (yY (uQ a g rfl (yA (pv 0) (yA yQ yD))))),?_⟩;exact⟨_,rfl,e,C,tp,_,rfl,j,d,λc b=>q c b⟩
abbrev jZ:Stmt:=xF "OwnThread" "__init__"
def aZN:yO ["self"] ["self"] (yH jZ):=scM
def aZA(a:aV1 P w K mg base n "Refused" "__init__" ["self","words"] (wS K))(d:vX K C)(F:Fun K "__init__" "OwnThread.__init__" jZ f fd):xD P w K mg base CX0 (n+1) f fd ["self"] (wD K C "own thread"):=by
 have i:=aZN;refine F.ok (k:=n) i (λl A outer s H m Q E g h=>?_);obtain⟨e,tp,rfl,j,q⟩:=h;refine⟨_,(yF (yY (uQ a g rfl (yA (pv 0) (yA yQ yD))))),?_⟩;exact⟨_,rfl,e,C,tp,_,rfl,j,d,λc b=>q c b⟩
abbrev aQE:Stmt:=xF "SameWay" "__init__"
def aWW:yO ["self"] ["self"] (yH aQE):=scM
def aWB(a:aV1 P w K mg base n "Refused" "__init__" ["self","words"] (wS K))(d:vX K C)(F:Fun K "__init__" "SameWay.__init__" aQE f fd):xD P w K mg base CX0 (n+1) f fd ["self"] (wD K C "same way"):=by
 have i:=aWW;refine F.ok (k:=n) i (λl A outer s H m Q E g h=>?_);obtain⟨e,tp,rfl,j,q⟩:=h;refine⟨_,(yF (yY (uQ a g rfl (yA (pv 0) (yA yQ yD))))),?_⟩;exact⟨_,rfl,e,C,tp,_,rfl,j,d,λc b=>q c b⟩
abbrev vN:Stmt:=xF "OtherPartner" "__init__"
def aQM:yO ["self"] ["self"] (yH vN):=scM
def aQn(a:aV1 P w K mg base n "Refused" "__init__" ["self","words"] (wS K))(d:vX K C)(F:Fun K "__init__" "OtherPartner.__init__" vN f fd):xD P w K mg base CX0 (n+1) f fd ["self"] (wD K C "other partner"):=by
 have i:=aQM;refine F.ok (k:=n) i (λl A outer s H m Q E g h=>?_);obtain⟨e,tp,rfl,j,q⟩:=h;refine⟨_,(yF (yY (uQ a g rfl (yA (pv 0) (yA yQ yD))))),?_⟩;exact⟨_,rfl,e,C,tp,_,rfl,j,d,λc b=>q c b⟩
abbrev X4:Stmt:=xF "TooEarly" "__init__"
def aJY:yO ["self"] ["self"] (yH X4):=scM
def aJv(a:aV1 P w K mg base n "Refused" "__init__" ["self","words"] (wS K))(d:vX K C)(F:Fun K "__init__" "TooEarly.__init__" X4 f fd):xD P w K mg base CX0 (n+1) f fd ["self"] (wD K C "too early"):=by
 have i:=aJY;refine F.ok (k:=n) i (λl A outer s H m Q E g h=>?_);obtain⟨e,tp,rfl,j,q⟩:=h;refine⟨_,(yF (yY (uQ a g rfl (yA (pv 0) (yA yQ yD))))),?_⟩;exact⟨_,rfl,e,C,tp,_,rfl,j,d,λc b=>q c b⟩
abbrev aXR:Stmt:=xF "Copied" "__init__"
def aYZ:yO ["self"] ["self"] (yH aXR):=scM
def aYd(a:aV1 P w K mg base n "Refused" "__init__" ["self","words"] (wS K))(d:vX K C)(F:Fun K "__init__" "Copied.__init__" aXR f fd):xD P w K mg base CX0 (n+1) f fd ["self"] (wD K C "copied"):=by
 have i:=aYZ;refine F.ok (k:=n) i (λl A outer s H m Q E g h=>?_);obtain⟨e,tp,rfl,j,q⟩:=h;refine⟨_,(yF (yY (uQ a g rfl (yA (pv 0) (yA yQ yD))))),?_⟩;exact⟨_,rfl,e,C,tp,_,rfl,j,d,λc b=>q c b⟩
abbrev X2:Stmt:=xF "Answered" "__init__"
def aJW:yO ["self"] ["self"] (yH X2):=scM
def aJt(a:aV1 P w K mg base n "Refused" "__init__" ["self","words"] (wS K))(d:vX K C)(F:Fun K "__init__" "Answered.__init__" X2 f fd):xD P w K mg base CX0 (n+1) f fd ["self"] (wD K C "answered"):=by
 have i:=aJW;refine F.ok (k:=n) i (λl A outer s H m Q E g h=>?_);obtain⟨e,tp,rfl,j,q⟩:=h;refine⟨_,(yF (yY (uQ a g rfl (yA (pv 0) (yA yQ yD))))),?_⟩;exact⟨_,rfl,e,C,tp,_,rfl,j,d,λc b=>q c b⟩
abbrev jY:Stmt:=xF "CountsNot" "__init__"
def aZM:yO ["self"] ["self"] (yH jY):=scM
def aZz(a:aV1 P w K mg base n "Refused" "__init__" ["self","words"] (wS K))(d:vX K C)(F:Fun K "__init__" "CountsNot.__init__" jY f fd):xD P w K mg base CX0 (n+1) f fd ["self"] (wD K C "counts not"):=by
 have i:=aZM;refine F.ok (k:=n) i (λl A outer s H m Q E g h=>?_);obtain⟨e,tp,rfl,j,q⟩:=h;refine⟨_,(yF (yY (uQ a g rfl (yA (pv 0) (yA yQ yD))))),?_⟩;exact⟨_,rfl,e,C,tp,_,rfl,j,d,λc b=>q c b⟩
end
end Desk
namespace End4
open PySem L2 PyProof.Rows
section
variable {K:bYI}{x m qual t:Str}{st:Stmt}{f C R CB CL:Nat}{oc:bYH}{od an:Option Nat}{osl:Array (Option bYH)}{kV doc pm cdv ct:bYH}
structure vO(K:bYI)(x:Str)(st:Stmt)(f:Nat):Prop where
 ns:cQC K cQe x=some (some (.ref f))
 ex:∃fd,Fun K x x st f fd
def Def(K:bYI)(x:Str)(st:Stmt):Prop:=∃f,vO K x st f
def xT(a:cQC K cQe x=some (some (.ref f)))(l:K.lookup f=some ⟨oc,od,.func (cQK x x (xZ st) (xO st) (yH st) .none kV doc pm an cdv ct),osl⟩)
  (c:cXp K cdv x=true) (k:cQD K (.ref f)=true):vO K x st f:=⟨a,_,aXa l c k⟩
def xH(a:cQC K cQe x=some (some (.ref f)))(l:K.lookup f=some ⟨oc,od,.func (cQK x x (xZ st) (xO st) (yH st) .none kV doc pm an cdv ct),osl⟩)
  (c:cXp K cdv x=true) (k:cQD K (.ref f)=true):Def K x st:=⟨f,xT a l c k⟩
structure Mtd(K:bYI)(C:Nat)(m qual:Str)(st:Stmt):Prop where
 ex:∃f fd,bV7 K C m f/\Fun K m qual st f fd
def x5(a:cQs K (.ref C) m=some (some (.ref f)))(i:cZn K (.ref f)=true)(l:K.lookup f=some ⟨oc,od,.func (cQK m qual (xZ st) (xO st) (yH st) .none kV doc pm an cdv ct),osl⟩)
  (c:cXp K cdv qual=true) (k:cQD K (.ref f)=true):Mtd K C m qual st:=⟨f,_,⟨a,i,k⟩,aXa l c k⟩
structure MkD(K:bYI)(x:Str)(C:Nat)(qual:Str)(st:Stmt):Prop where
 ns:cQC K cQe x=some (some (.ref C))
 ex:∃f fd,Mk K C f/\Fun K "__init__" qual st f fd
def bZZ(a:cQC K cQe x=some (some (.ref C)))(mk:PySem.W.makesIn K C=true)(d:cQD K (.ref C)=true)(b:cQs K (.ref C) "__init__"=some (some (.ref f)))(i:cZn K (.ref f)=true) (l:K.lookup f=some ⟨oc,od,.func (cQK "__init__" qual (xZ st) (xO st) (yH st) .none kV doc pm an cdv ct),osl⟩) (c:cXp K cdv qual=true) (k:cQD K (.ref f)=true):MkD K x C qual st:=
 ⟨a,f,_,⟨mk,b,i,d⟩,aXa l c k⟩
structure Exc(K:bYI)(R:Nat)(x qual:Str)(st:Stmt):Prop where
 ex:∃C f fd,cQC K cQe x=some (some (.ref C))/\vX K C/\cZW K C (.ref R)=some true/\cQs K (.ref C) "__init__"=some (some (.ref f))/\cZn K (.ref f)=true/\cQD K (.ref C)=true/\Fun K "__init__" qual st f fd
def uL(a:cQC K cQe x=some (some (.ref C)))(e:bQV K C=true)(g:cZW K C (.ref R)=some true)(d:cQD K (.ref C)=true)(b:cQs K (.ref C) "__init__"=some (some (.ref f)))(i:cZn K (.ref f)=true) (l:K.lookup f=some ⟨oc,od,.func (cQK "__init__" qual (xZ st) (xO st) (yH st) .none kV doc pm an cdv ct),osl⟩) (c:cXp K cdv qual=true) (k:cQD K (.ref f)=true):Exc K R x qual st:=
 ⟨C,f,_,a,aKI e,g,b,i,d,aXa l c k⟩
structure bKF(K:bYI)(x:Str)(R:Nat)(qual:Str)(st:Stmt):Prop where
 ns:cQC K cQe x=some (some (.ref R))
 cl:vX K R
 ex:∃f fd,PySem.W.readsIn K R (.type "type")=true/\PySem.W.findCls K (.ref R) (.type "type") "__init__"=some (.val (.ref f))/\cJg K (.ref R) "__getattribute__"=some (some (.builtin "type.__getattribute__"))/\Fun K "__init__" qual st f fd
def bVl(a:cQC K cQe x=some (some (.ref R)))(e:bQV K R=true)(rd:PySem.W.readsIn K R (.type "type")=true)(b:PySem.W.findCls K (.ref R) (.type "type") "__init__"=some (.val (.ref f))) (sp:cJg K (.ref R) "__getattribute__"=some (some (.builtin "type.__getattribute__"))) (l:K.lookup f=some ⟨oc,od,.func (cQK "__init__" qual (xZ st) (xO st) (yH st) .none kV doc pm an cdv ct),osl⟩) (c:cXp K cdv qual=true) (k:cQD K (.ref f)=true):bKF K x R qual st:=
 ⟨a,aKI e,f,_,rd,b,sp,aXa l c k⟩
def bKJ(b1:cZo K CB Str.empty=true)(g:cZH K CB=true)(p:cJf K CB=true)(e:cQs K (.ref CB) "__setattr__"=some (some (.builtin "object.__setattr__")))
  (o:cZo K CL Str.empty=true) (f:cZH K CL=true) (n:cJf K CL=true) (j:cQs K (.ref CL) "__setattr__"=some (some (.builtin "object.__setattr__")))
  (d:cQs K (.ref CB) "letters"=some none) (m:cQs K (.ref CB) "shut"=some none)
  (h:cQs K (.ref CL) "number"=some none) (r:cQs K (.ref CL) "way"=some none) (k:cQs K (.ref CL) "day"=some none) (q:cQs K (.ref CL) "partner"=some none)
  (i:cQs K (.ref CL) "term"=some none) (l:cQs K (.ref CL) "link"=some none) (c:cQs K (.ref CL) "file"=some none) (b:cQs K (.ref CL) "copies"=some none) (a:cQs K (.ref CL) "void"=some none):
  Desk.Cl K CB CL:=⟨⟨b1,g,p,e⟩,⟨o,f,n,j⟩,d,m,h,r,k,q,i,l,c,b,a⟩
end
section
variable {P:bY4}{w:cQa}{K:bYI}{h:Heap}{mg:Str->Option bYH}{base:Heap}{x m qual t:Str}{st:Stmt}{f C R:Nat}{k:Nat}{ps:List Str}{sp:Sp}{CX:CXT}
def uG(x qual:Str)(st:Stmt)(ps:List Str):Prop:=∀ (kV doc pm:bYH)(an:Option Nat)(cdv ct:bYH)(a:List bYH),a.length=ps.length->cZq (cQK x qual (xZ st) (xO st) (yH st) .none kV doc pm an cdv ct) ⟨a,[]⟩=pure (ps.zip a)
def W9{a:cXG}(F:Fun K x qual st f a):cQD K (.ref f)=true:=F.2
def gOf(P:bY4)(w:cQa)(base:Heap)(k:Nat)(X:K.In h)(G:h.Ns cQe mg)(D:Def K x st)(b:uG x x st ps)(ok:∀f c,Fun K x x st f c->xD P w K mg base CX0 k f c ps sp):FnG P w K mg base k x ps sp:=by
 obtain⟨f,a,c,F⟩:=D;exact⟨f,c,ok f c F,F.binds b,W9 F,cXD X G a⟩
def xOf(P:bY4)(w:cQa)(base:Heap)(k:Nat)(X:K.In h)(G:h.Ns cQe mg)(D:Def K x st)(b:uG x x st ps)(ok:∀f c,Fun K x x st f c->xD P w K mg base (CXR P w) k f c ps sp):FnX P w K mg base k x ps sp:=by
 obtain⟨f,a,c,F⟩:=D;exact⟨f,c,ok f c F,F.binds b,W9 F,cXD X G a⟩
structure DoG(P:bY4)(w:cQa)(K:bYI)(mg:Str->Option bYH)(base:Heap)(k:Nat)(f:Nat)(ps:List Str)(sp:Sp):Prop where
 ex:∃fd,xD P w K mg base (CXR P w) k f fd ps sp/\vW K fd ps []/\cQD K (.ref f)=true
def dOf(mg:Str->Option bYH)(P:bY4)(w:cQa)(base:Heap)(k:Nat)(D:vO K x st f)(b:uG x x st ps)(ok:∀f c,Fun K x x st f c->xD P w K mg base (CXR P w) k f c ps sp):DoG P w K mg base k f ps sp:=by
 obtain⟨a,c,F⟩:=D;exact⟨c,ok f c F,F.binds b,W9 F⟩
def mOf(mg:Str->Option bYH)(P:bY4)(w:cQa)(base:Heap)(k:Nat)(c:Cls K C)(D:Mtd K C m qual st)(b:uG m qual st ps)(ok:∀f a,Fun K m qual st f a->xD P w K mg base CX0 k f a ps sp):MG P w K mg base CX0 k C m ps sp:=by
 obtain⟨f,a,M,F⟩:=D.ex;exact⟨⟨f,a,ok f a F,F.binds b,M⟩,c⟩
def aJs(mg:Str->Option bYH)(P:bY4)(w:cQa)(base:Heap)(k:Nat)(c:Cls K C)(D:Mtd K C m qual st)(b:uG m qual st ps)(ok:∀f a,Fun K m qual st f a->xD P w K mg base (CXR P w) k f a ps sp):MG P w K mg base (CXR P w) k C m ps sp:=by
 obtain⟨f,a,M,F⟩:=D.ex;exact⟨⟨f,a,ok f a F,F.binds b,M⟩,c⟩
def kOf(P:bY4)(w:cQa)(base:Heap)(k:Nat)(X:K.In h)(G:h.Ns cQe mg)(D:MkD K x C qual st)(b:uG "__init__" qual st ps)(ok:∀f a,Fun K "__init__" qual st f a->xD P w K mg base CX0 k f a ps sp):MkG P w K mg base k x C ps sp:=by
 obtain⟨f,a,M,F⟩:=D.ex;exact⟨⟨f,a,ok f a F,F.binds b,M,cXD X G D.ns⟩⟩
def eOf(P:bY4)(w:cQa)(base:Heap)(k:Nat)(t:Str)(X:K.In h)(G:h.Ns cQe mg)(D:Exc K R x qual st)(b:uG "__init__" qual st ["self"])(ok:∀C f c,vX K C->Fun K "__init__" qual st f c->xD P w K mg base CX0 k f c ["self"] (wD K C t)):∃C,ExG P w K mg base k x R C t:=by
 obtain⟨C,f,c,a,e,j,d,i,g,F⟩:=D.ex;exact⟨C,⟨f,c,ok C f c e F,F.binds b,d,i,g,cXD X G a⟩,e,j⟩
def rOf(P:bY4)(w:cQa)(base:Heap)(k:Nat)(X:K.In h)(G:h.Ns cQe mg)(D:bKF K x R qual st)(b:uG "__init__" qual st ps)(ok:∀f a,Fun K "__init__" qual st f a->xD P w K mg base CX0 k f a ps sp):aV1 P w K mg base k x "__init__" ps sp:=by
 obtain⟨f,a,rd,c,s,F⟩:=D.ex;exact⟨⟨R,f,a,ok f a F,F.binds b,rd,c,s,W9 F,cXD X G D.ns⟩⟩
end
def Pr(w:cQa):List DictEntry->List (Str×Nat)->Prop
 |[],[]=>True
 |e::es,(x,f)::r=>(∃t,e.key= .str x t)/\e.hash=hashStr w x/\e.val= .ref f/\Pr w es r
 |_,_=>False
abbrev bZW(r:List (Str×Nat)):List (Key×bYH):=r.map λp=>(Sum.inr p.1,.ref p.2)
def aVA{P:bY4}{w:cQa}:∀ {a:List DictEntry} {r:List (Str×Nat)},Pr w a r->Pairs (zA P w) a (bZW r)
 |[],[],_=> .nil
 |e::a,(x,f)::r,⟨⟨t,h1⟩,h2,h3,h4⟩=> .cons (by rw[h1];exact jV P w x t) h3 (aVA h4)
 |[],_::_,h=>nomatch h
 |_::_,[],h=>nomatch h
def aYA{P:bY4}{w:cQa}:∀ {a:List DictEntry} {r:List (Str×Nat)},Pr w a r->∀e∈a,∃k,(zA P w).is k e.key=true/\e.hash=(zA P w).hash k
 |[],_,_,e,he=>nomatch he
 |e::a,(x,f)::r,⟨⟨t,h1⟩,h2,h3,h4⟩,e',he=>by
  rcases bYQ.mp he with rfl|z
  ·exact⟨Sum.inr x,by rw[h1];exact jV P w x t,h2⟩
  ·exact aYA h4 e' z
 |_::_,[],h,_,_=>nomatch h
def bV2{P:bY4}{w:cQa}{K:bYI}{D:Nat}{c:Array DictEntry}{f:Nat}{r:List (Str×Nat)}(l:K.lookup D=some ⟨.type "dict",none,.dict c f, #[]⟩)(p:Pr w c.toList r)(g:(r.map (·.1)).Nodup):Desk.bKH P w K D (bZW r):=by
 refine⟨⟨_,c,f,l,⟨rfl,rfl,rfl⟩,rfl,λe h=>aYA p e (Array.mem_toList_iff.mpr h),aVA p,?_⟩⟩;have e:(bZW r).map (·.1)=(r.map (·.1)).map Sum.inr:=by simp[bZW,Function.comp_def]
 rw[e];exact List.Pairwise.map _ (λa b d z=>d (Sum.inr.inj z)) g
def uD:∀ {r:List (Str×Nat)} {x:Str} {f:Nat},(r.map (·.1)).Nodup->∀i:Nat,r[i]? =some (x,f)->cZ3 (bZW r) (Sum.inr x:Key)=some (.ref f)
 |[],_,_,_,_,h=>by simp at h
 |(y,g)::r,x,f,nd,0,h=>by cases h;simp[cZ3,bZW]
 |(y,g)::r,x,f,nd,i+1,h=>by
  have c:r[i]? =some (x,f):=by simpa using h
  have a:=cXJ.mp nd;have d:¬ ((Sum.inr y:Key)=Sum.inr x):=λz=>a.1 (by
   rw[Sum.inr.inj z];exact cQH.mpr ⟨(x,f),bY0 c,rfl⟩)
  have b:=uD a.2 i c;unfold cZ3 at b ⊢;simp only[bZW,cQx,cX7,decide_eq_false d]at b ⊢;exact b
end End4
namespace L2
open PySem
section
variable {P:bY4}{w:cQa}{K:bYI}{mg:Str->Option bYH}{base:Heap}{j k:Nat}{x t:Str}{ps:List Str}{sp:Sp}{C Rf:Nat}{CX:CXT}
def FnG.up(G:FnG P w K mg base j x ps sp)(h:j<=k:=by decide):FnG P w K mg base k x ps sp:=G.mono h
def FnX.up(G:FnX P w K mg base j x ps sp)(h:j<=k:=by decide):FnX P w K mg base k x ps sp:=G.mono h
def MG.up(G:MG P w K mg base CX j C x ps sp)(h:j<=k:=by decide):MG P w K mg base CX k C x ps sp:=G.mono h
def MkG.up(G:MkG P w K mg base j x C ps sp)(h:j<=k:=by decide):MkG P w K mg base k x C ps sp:=G.mono h
def ExG.up(G:ExG P w K mg base j x Rf C t)(h:j<=k:=by decide):ExG P w K mg base k x Rf C t:=G.mono h
end
end L2
namespace End4
open PySem L2 PyProof.Rows
def bd1{x qual:Str}{st:Stmt}{a:Str}(h:∀ (kV doc pm:bYH)(an:Option Nat)(cdv ct b:bYH),cZq (cQK x qual (xZ st) (xO st) (yH st) .none kV doc pm an cdv ct) ⟨[b],[]⟩=pure (cZ6 [a] [b])):uG x qual st [a]:=by
 intro kV doc pm an cdv ct c l;rcases c with _|⟨_,_|⟨_,_⟩⟩<;> first|(cases l;done)|exact h _ _ _ _ _ _ _
def bd2{x qual:Str}{st:Stmt}{c a:Str}(h:∀ (kV doc pm:bYH)(an:Option Nat)(cdv ct d b:bYH),cZq (cQK x qual (xZ st) (xO st) (yH st) .none kV doc pm an cdv ct) ⟨[d,b],[]⟩=pure (cZ6 [c,a] [d,b])):uG x qual st [c,a]:=by
 intro kV doc pm an cdv ct e l;rcases e with _|⟨_,_|⟨_,_|⟨_,_⟩⟩⟩<;> first|(cases l;done)|exact h _ _ _ _ _ _ _ _
def bd3{x qual:Str}{st:Stmt}{b a f:Str}(h:∀ (kV doc pm:bYH)(an:Option Nat)(cdv ct d e c:bYH),cZq (cQK x qual (xZ st) (xO st) (yH st) .none kV doc pm an cdv ct) ⟨[d,e,c],[]⟩=pure (cZ6 [b,a,f] [d,e,c])):uG x qual st [b,a,f]:=by
 intro kV doc pm an cdv ct g l;rcases g with _|⟨_,_|⟨_,_|⟨_,_|⟨_,_⟩⟩⟩⟩<;> first|(cases l;done)|exact h _ _ _ _ _ _ _ _ _
def bd4{x qual:Str}{st:Stmt}{c b i a:Str}(h:∀ (kV doc pm:bYH)(an:Option Nat)(cdv ct e f d g:bYH),cZq (cQK x qual (xZ st) (xO st) (yH st) .none kV doc pm an cdv ct) ⟨[e,f,d,g],[]⟩=pure (cZ6 [c,b,i,a] [e,f,d,g])):uG x qual st [c,b,i,a]:=by
 intro kV doc pm an cdv ct j l;rcases j with _|⟨_,_|⟨_,_|⟨_,_|⟨_,_|⟨_,_⟩⟩⟩⟩⟩<;> first|(cases l;done)|exact h _ _ _ _ _ _ _ _ _ _
def bd5{x qual:Str}{st:Stmt}{d c k b a:Str}(h:∀ (kV doc pm:bYH)(an:Option Nat)(cdv ct f g e j i:bYH),cZq (cQK x qual (xZ st) (xO st) (yH st) .none kV doc pm an cdv ct) ⟨[f,g,e,j,i],[]⟩=pure (cZ6 [d,c,k,b,a] [f,g,e,j,i])):uG x qual st [d,c,k,b,a]:=by
 intro kV doc pm an cdv ct m l;rcases m with _|⟨_,_|⟨_,_|⟨_,_|⟨_,_|⟨_,_|⟨_,_⟩⟩⟩⟩⟩⟩<;> first|(cases l;done)|exact h _ _ _ _ _ _ _ _ _ _ _
def bd6{x qual:Str}{st:Stmt}{e d n b a c:Str}(h:∀ (kV doc pm:bYH)(an:Option Nat)(cdv ct g i f k j m:bYH),cZq (cQK x qual (xZ st) (xO st) (yH st) .none kV doc pm an cdv ct) ⟨[g,i,f,k,j,m],[]⟩=pure (cZ6 [e,d,n,b,a,c] [g,i,f,k,j,m])):uG x qual st [e,d,n,b,a,c]:=by
 intro kV doc pm an cdv ct o l;rcases o with _|⟨_,_|⟨_,_|⟨_,_|⟨_,_|⟨_,_|⟨_,_|⟨_,_⟩⟩⟩⟩⟩⟩⟩<;> first|(cases l;done)|exact h _ _ _ _ _ _ _ _ _ _ _ _
def bd7{x qual:Str}{st:Stmt}{f d p b a c g:Str}(h:∀ (kV doc pm:bYH)(an:Option Nat)(cdv ct j k i n m o e:bYH),cZq (cQK x qual (xZ st) (xO st) (yH st) .none kV doc pm an cdv ct) ⟨[j,k,i,n,m,o,e],[]⟩=pure (cZ6 [f,d,p,b,a,c,g] [j,k,i,n,m,o,e])):uG x qual st [f,d,p,b,a,c,g]:=by
 intro kV doc pm an cdv ct q l;rcases q with _|⟨_,_|⟨_,_|⟨_,_|⟨_,_|⟨_,_|⟨_,_|⟨_,_|⟨_,_⟩⟩⟩⟩⟩⟩⟩⟩<;> first|(cases l;done)|exact h _ _ _ _ _ _ _ _ _ _ _ _ _
def bdA{x qual:Str}{st:Stmt}{ps:List Str}(h:uG x qual st ps:=by
  first|refine bd1 λa b c d e f g=>?_|refine bd2 λa b c d e f g i=>?_|refine bd3 λa b c d e f g i j=>?_|refine bd4 λa b c d e f g i j k=>?_|refine bd5 λa b c d e f g i j k l=>?_|refine bd6 λa b c d e f g i j k l m=>?_|refine bd7 λa b c d e f g i j k l m n=>?_
  kernel_rfl):uG x qual st ps:=h
end End4
namespace End4
open PySem L2 PyProof.Rows
set_option maxHeartbeats 0 in
def all_mk{l:PySem.W.OpenLaw}{w:cQa}{K:bYI}{h:Heap}{mg:Str->Option bYH}{fa R L CL cA J fA fL DD i y D x B A E I z H u q r k p j:Nat}{i8 i5:Option Nat}{c0:Array (Option bYH)}{l2 e3 j8 e0 e2:bYH}{a3:Array DictEntry}{j7:Nat}{tW tO:Tok} (X:K.In h) (G:h.Ns cQe mg) (k5:mg "law"=some (.ref fa)) (d60:bKF K "Refused" R "Refused.__init__" Desk.aQD) (d61:Exc K R "NoLetter" "NoLetter.__init__" Desk.X3) (d62:Exc K R "NoTerm" "NoTerm.__init__" Desk.aXT) (d63:Exc K R "HasOne" "HasOne.__init__" Desk.aXS) (d64:Exc K R "HasNone" "HasNone.__init__" Desk.aQC) (d65:Exc K R "OwnThread" "OwnThread.__init__" Desk.jZ) (d66:Exc K R "SameWay" "SameWay.__init__" Desk.aQE) (d67:Exc K R "OtherPartner" "OtherPartner.__init__" Desk.vN) (d68:Exc K R "TooEarly" "TooEarly.__init__" Desk.X4) (d69:Exc K R "Copied" "Copied.__init__" Desk.aXR) (d70:Exc K R "Answered" "Answered.__init__" Desk.X2) (d71:Exc K R "CountsNot" "CountsNot.__init__" Desk.jY) (d9:MkD K "Letter" CL "Letter.__init__" Desk.aYP) (d24:MkD K "Book" L "Book.__init__" Desk.aYH) (cl:Desk.Cl K L CL) (d10:Mtd K CL "state" "Letter.state" Desk.aYU) (d11:Mtd K CL "is_answered_by" "Letter.is_answered_by" Desk.aYG) (d12:Mtd K CL "has_gone_to" "Letter.has_gone_to" Desk.bVp) (d13:Mtd K CL "make_void" "Letter.make_void" Desk.bVA) (d15:Mtd K L "letter_at" "Book.letter_at" Desk.aQz) (d16:Mtd K L "answers_to" "Book.answers_to" Desk.aVE) (d17:Mtd K L "copies_of" "Book.copies_of" Desk.aQy) (d18:Mtd K L "state_of" "Book.state_of" Desk.aXP) (d19:Mtd K L "letters_in" "Book.letters_in" Desk.jF) (d20:Mtd K L "answered_by" "Book.answered_by" Desk.aQx) (d21:Mtd K L "waiting_pairs" "Book.waiting_pairs" Desk.aYR) (d22:Mtd K L "waiting" "Book.waiting" Desk.Q1) (d23:Mtd K L "overdue" "Book.overdue" Desk.Q0) (d25:Mtd K L "add_letter" "Book.add_letter" Desk.bKU) (d28:Mtd K L "enter" "Book.enter" Desk.aYN) (d29:Mtd K L "reply" "Book.reply" Desk.aYT) (d30:Mtd K L "loosen" "Book.loosen" Desk.aJT) (d31:Mtd K L "put_term" "Book.put_term" Desk.aXN) (d32:Mtd K L "send_copy" "Book.send_copy" Desk.bVy) (d33:Mtd K L "cancel" "Book.cancel" Desk.aJQ) (d34:Mtd K L "shut_day" "Book.shut_day" Desk.bVz) (d35:Mtd K L "put_day" "Book.put_day" Desk.aJU) (d36:Mtd K L "thread_of" "Book.thread_of" Desk.qT) (d37:Mtd K L "lay_thread" "Book.lay_thread" Desk.bKZ) (d38:Mtd K L "check_hanging" "Book.check_hanging" Desk.aYI) (d39:Mtd K L "hang" "Book.hang" Desk.bVr) (d58:Mtd K L "standing_states" "Book.standing_states" Desk.aXQ) (d1:Def K "open_by_rest" Days.bVw) (d2:Def K "place_of" Days.aYS) (d3:Def K "counts" Days.aJR) (d4:Def K "closed_days" Days.aXJ) (d5:Def K "day_at" Days.aYK) (d6:Def K "due_day" Days.bKW) (d7:Def K "top_of" Thr.aYX) (d8:Def K "thread" Thr.aJV) (d14:Def K "other_way" Desk.aYQ) (d26:Def K "check_term" Desk.aYV) (d27:Def K "check_days" Desk.aYL) (d56:Def K "answer" Desk.aJO) (d57:Def K "answers" Desk.J8) (d59:Def K "standing" Desk.aQA) (d72:Def K "_law_good" Law.bVq) (d73:Def K "_law_kids_of" Law.bXX) (d74:Def K "_law_waits_on" Law.aVG) (d75:Def K "_law_due_by" Law.aYM) (d76:Def K "_law_list_on" Law.aXM) (d77:Def K "_law_family" Law.aXL) (d78:Def K "_law_lost" Law.bVu) (d79:Def K "_law_dated" Law.aYJ) (d80:Def K "_law_hung" Law.bVs) (d81:Def K "_law_entered" Law.aXK) (d82:Def K "_law_with_one" Law.bVB) (d83:Def K "_law_told_of" Law.aYW) (d84:Def K "_law_done_by" Law.bVn) (d85:Def K "_law_hanging" Law.J9) (d86:Def K "_law_about" Law.aVD) (d87:Def K "_law_deed_at" Law.aJS) (d88:Def K "_law_story" Law.aVF) (d89:Def K "_law_whole" Alike.aYY) (d90:Def K "_law_room" Alike.bVx) (d91:Def K "_law_unturned" Alike.aQB) (d92:Def K "_law_book_of" Alike.aJP) (d93:Def K "_law_standing_of" Alike.aXO) (d94:Def K "_law_hangs_right" Alike.aYO) (d95:Def K "_law_ends" Alike.bVo) (d96:Def K "_law_numbered" Alike.bVv) (d40:vO K "do_enter" Desk.X5 i) (d41:vO K "do_reply" Desk.X7 y) (d42:vO K "do_hang" Desk.aQI D) (d43:vO K "do_loose" Desk.X6 x) (d44:vO K "do_date" Desk.aQG B) (d45:vO K "do_term" Desk.aQK A) (d46:vO K "do_copy" Desk.aQF E) (d47:vO K "do_file" Desk.aQH I) (d48:vO K "do_void" Desk.aQL z) (d49:vO K "do_shut" Desk.aQJ H) (d50:vO K "ask_state" Desk.qA u) (d51:vO K "ask_thread" Desk.uS q) (d52:vO K "ask_copies" Desk.uR r) (d53:vO K "ask_letters" Desk.v5 k) (d54:vO K "ask_waiting" Desk.v7 p) (d55:vO K "ask_overdue" Desk.v6 j) (dL:vO K "law" Alike.bKw fL) (aA:cQC K cQe "answers_to_each"=some (some (.ref fA))) (lA:K.lookup fA=some ⟨l2,i8,.func (cQK "answers_to_each" "answers_to_each" (xZ Thr.aJN) (xO Thr.aJN) (yH Thr.aJN) .none e3 j8 e0 i5 (.ref cA) e2),c0⟩) (cA1:cXp K (.ref cA) "answers_to_each"=true) (kA:cQD K (.ref fA)=true) (nD:cQC K cQe "DEEDS"=some (some (.ref DD))) (lD:K.lookup DD=some ⟨.type "dict",none,.dict a3 j7, #[]⟩) (pD:Pr w a3.toList [("in",i),("out",i),("reply",y),("hang",D),("loose",x),("date",B),("term",A),("copy",E),("file",I),("void",z),("shut",H),("state",u),("thread",q),("copies",r),("letters",k),("waiting",p),("overdue",j)]) (z_len:cQC K cQe "len"=some none) (z_min:cQC K cQe "min"=some none) (z_sum:cQC K cQe "sum"=some none) (z_sorted:cQC K cQe "sorted"=some none) (z_isinstance:cQC K cQe "isinstance"=some none) (z_int:cQC K cQe "int"=some none) (z_str:cQC K cQe "str"=some none) (z_bool:cQC K cQe "bool"=some none) (z_list:cQC K cQe "list"=some none) (z_tuple:cQC K cQe "tuple"=some none) (z_set:cQC K cQe "set"=some none) (z_range:cQC K cQe "range"=some none) (z_reversed:cQC K cQe "reversed"=some none) (z_max:cQC K cQe "max"=some none) (y_week:cQC K cQe "WEEK"=some (some (.int 7 tW))) (y_open:cQC K cQe "OPEN_DAYS"=some (some (.int 5 tO))) (tb:cJl K cA J=true) (tn:K.lookup J=none) :∃ (g:cXG)(c:Nat),cJl K c J=true/\K.lookup J=none/\(∀ (s:bYK)(v:bYH),BindsTo s g ⟨[v],[]⟩ [("_law_script",v)])/\∀base:Heap,K.In base->base.Ns cQe mg->cXN base c J->base.BuiltinsAt mg J->xD l.prog w K mg base CX0 11 fa g ["_law_script"] (Alike.bZp J K):=by
 obtain⟨aL,a5,Q⟩:=dL;have e:=k5.symm.trans (cXD X G aL);cases e;have TD:Days.vD mg:=⟨bYX X G z_len,bYX X G z_min,bYX X G z_sum,bYX X G z_sorted,bYX X G z_isinstance,bYX X G z_int,bYX X G z_str,bYX X G z_bool,bYX X G z_list,bYX X G z_tuple,bYX X G z_set,bYX X G z_range,bYX X G z_reversed,⟨_,cXD X G y_week⟩,⟨_,cXD X G y_open⟩⟩;have TT:Thr.vD mg:=⟨bYX X G z_len,bYX X G z_sorted,bYX X G z_isinstance,bYX X G z_int,bYX X G z_str,bYX X G z_bool,bYX X G z_list,bYX X G z_tuple,bYX X G z_range⟩;have TB:Desk.vD mg:=⟨bYX X G z_len,bYX X G z_sorted,bYX X G z_list⟩;have T:Law.vD mg:=⟨bYX X G z_len,bYX X G z_range⟩;have TA:Alike.vD mg:=⟨bYX X G z_len,bYX X G z_sorted,bYX X G z_isinstance,bYX X G z_int,bYX X G z_str,bYX X G z_bool,bYX X G z_list,bYX X G z_tuple,bYX X G z_range⟩;have bL:∀ (s:bYK)(v:bYH),BindsTo s a5 ⟨[v],[]⟩ [("_law_script",v)]:=by obtain⟨oc,od,kV,l6,pm,an,l5,ct,l7,rfl,lk,l8⟩:=Q.ex;exact λs v=> .of_eq rfl
 refine⟨a5,cA,tb,tn,bL,λbase _ _ M hB=>?_⟩;have g0:FnG l.prog w K mg base 2 "answers_to_each" ["links","dates"] (Thr.bVV J):=⟨fA,_,Thr.bWK TT M hB lA cA1,(aXa (st:=Thr.aJN) lA cA1 kA).binds bdA,kA,cXD X G aA⟩;have g1:=gOf l.prog w base 1 X G d1 bdA λf g F=>Days.bJ5 TD F;have g2:=gOf l.prog w base 1 X G d2 bdA λf g F=>Days.bXB TD F;have g3:=gOf l.prog w base 2 X G d3 bdA λf g F=>Days.aYk TD g1.up F;have g4:=gOf l.prog w base 2 X G d4 bdA λf g F=>Days.aYj TD g1.up F;have g5:=gOf l.prog w base 1 X G d5 bdA λf g F=>Days.bXt TD F;have g6:=gOf l.prog w base 3 X G d6 bdA λf g F=>Days.bWL TD g4.up g2.up g5.up F;have g7:=gOf l.prog w base 1 X G d7 bdA λf g F=>Thr.bXG TT F;have g8:=gOf l.prog w base 3 X G d8 bdA λf g F=>Thr.aYr TT g0.up g7.up F;have g9:=kOf l.prog w base 1 X G d9 bdA λf g F=>Desk.bXy (n:=0) cl F;have a7:=mOf mg l.prog w base 1 cl.l d10 bdA λf g F=>Desk.bXD (n:=0) cl F;have c6:=mOf mg l.prog w base 1 cl.l d11 bdA λf g F=>Desk.bXo (n:=0) cl F;have j1:=mOf mg l.prog w base 1 cl.l d12 bdA λf g F=>Desk.bJX (n:=0) cl F;have f5:=mOf mg l.prog w base 1 cl.l d13 bdA λf g F=>Desk.bVa (n:=0) cl F;have e1:=gOf l.prog w base 1 X G d14 bdA λf g F=>Desk.bXz (n:=0) F;have b2:=mOf mg l.prog w base 2 cl.b d16 bdA λf g F=>Desk.bXp (n:=1) cl c6.up F;have i2:=mOf mg l.prog w base 1 cl.b d19 bdA λf g F=>Desk.aZC (n:=0) cl F;have h0:=mOf mg l.prog w base 1 cl.b d20 bdA λf g F=>Desk.aJw (n:=0) cl F;have a8:=mOf mg l.prog w base 4 cl.b d21 bdA λf g F=>Desk.bXA (n:=3) TB cl h0.up g6.up F;have k9:=mOf mg l.prog w base 5 cl.b d22 bdA λf g F=>Desk.aWQ (n:=4) cl a8.up F;have i0:=mOf mg l.prog w base 5 cl.b d23 bdA λf g F=>Desk.aWM (n:=4) cl a8.up F;have a6:=kOf l.prog w base 1 X G d24 bdA λf g F=>Desk.bXq (n:=0) cl F;have b0:=mOf mg l.prog w base 3 cl.b d25 bdA λf g F=>Desk.bWJ (n:=1) TB cl g9.up F;have b6:=dOf mg l.prog w base 2 d53 bdA λf g F=>Desk.aQ2 (n:=1) (Rf:=(R,J)) i2.up F;have f7:=dOf mg l.prog w base 6 d54 bdA λf g F=>Desk.aQ4 (n:=5) (Rf:=(R,J)) k9.up F;have h2:=dOf mg l.prog w base 6 d55 bdA λf g F=>Desk.aQ3 (n:=5) (Rf:=(R,J)) i0.up F;have i9:=mOf mg l.prog w base 2 cl.b d58 bdA λf g F=>Desk.aYq (n:=1) cl a7.up F;have N:=rOf l.prog w base 1 X G d60 bdA λf g F=>Desk.aWA (n:=0) F;obtain⟨_,h4⟩:=eOf l.prog w base 2 "no letter" X G d61 bdA λC f g M F=>Desk.aJu (n:=1) N M F;obtain⟨_,d0⟩:=eOf l.prog w base 2 "no term" X G d62 bdA λC f g M F=>Desk.aYf (n:=1) N M F;obtain⟨_,k7⟩:=eOf l.prog w base 2 "has one" X G d63 bdA λC f g M F=>Desk.aYe (n:=1) N M F;obtain⟨_,j6⟩:=eOf l.prog w base 2 "has none" X G d64 bdA λC f g M F=>Desk.aWz (n:=1) N M F;obtain⟨_,l1⟩:=eOf l.prog w base 2 "own thread" X G d65 bdA λC f g M F=>Desk.aZA (n:=1) N M F;obtain⟨_,f6⟩:=eOf l.prog w base 2 "same way" X G d66 bdA λC f g M F=>Desk.aWB (n:=1) N M F;obtain⟨_,e7⟩:=eOf l.prog w base 2 "other partner" X G d67 bdA λC f g M F=>Desk.aQn (n:=1) N M F;obtain⟨_,k4⟩:=eOf l.prog w base 2 "too early" X G d68 bdA λC f g M F=>Desk.aJv (n:=1) N M F;obtain⟨_,c4⟩:=eOf l.prog w base 2 "copied" X G d69 bdA λC f g M F=>Desk.aYd (n:=1) N M F;obtain⟨_,j3⟩:=eOf l.prog w base 2 "answered" X G d70 bdA λC f g M F=>Desk.aJt (n:=1) N M F;obtain⟨_,e8⟩:=eOf l.prog w base 2 "counts not" X G d71 bdA λC f g M F=>Desk.aZz (n:=1) N M F;have S:=gOf l.prog w base 1 X G d72 bdA λf g F=>Law.bJY T F;have a2:=gOf l.prog w base 1 X G d73 bdA λf g F=>Law.bJ1 T F;have h5:=gOf l.prog w base 2 X G d74 bdA λf g F=>Law.bXH T (bYX X G z_min) a2.up F;have e6:=gOf l.prog w base 1 X G d75 bdA λf g F=>Law.bXv T F;have b9:=gOf l.prog w base 3 X G d76 bdA λf g F=>Law.aYn T (bYX X G z_sorted) h5.up e6.up F;have V:=gOf l.prog w base 2 X G d77 bdA λf g F=>Law.aYm T (bYX X G z_sorted) F;have i7:=gOf l.prog w base 2 X G d78 bdA λf g F=>Law.bJ2 a2.up F;have f4:=gOf l.prog w base 2 X G d79 bdA λf g F=>Law.bXs a2.up F;have b4:=gOf l.prog w base 3 X G d80 bdA λf g F=>Law.bJ0 S.up V.up F;have f2:=gOf l.prog w base 3 X G d81 bdA λf g F=>Law.aWK T (bYX X G z_int) S.up F;have e9:=gOf l.prog w base 3 X G d82 bdA λf g F=>Law.bVb T S.up f4.up i7.up V.up F;have h9:=gOf l.prog w base 4 X G d83 bdA λf g F=>Law.bJ9 T (bYX X G z_list) (bYX X G z_tuple) S.up b9.up V.up F;have b3:=gOf l.prog w base 5 X G d84 bdA λf g F=>Law.bJV f2.up b4.up h9.up e9.up F;have j0:=gOf l.prog w base 2 X G d85 bdA λf g F=>Law.aWL T (bYX X G z_int) S.up F;have h1:=gOf l.prog w base 2 X G d86 bdA λf g F=>Law.bXn T (bYX X G z_int) S.up F;have c3:=gOf l.prog w base 3 X G d87 bdA λf g F=>Law.aYl T (bYX X G z_int) (bYX X G z_max) S.up j0.up h1.up F;have k2:=gOf l.prog w base 6 X G d88 bdA λf g F=>Law.bXE T b3.up c3.up F;have f0:=gOf l.prog w base 1 X G d89 bdA λf g F=>Alike.bXI TA F;have j2:=gOf l.prog w base 1 X G d90 bdA λf g F=>Alike.bJ6 TA F;have h3:=gOf l.prog w base 1 X G d91 bdA λf g F=>Alike.aJD TA F;have e4:=gOf l.prog w base 6 X G d92 bdA λf g F=>Alike.aYh (n:=5) b3.up F;have k6:=gOf l.prog w base 1 X G d93 bdA λf g F=>Alike.aWO TA F;have i4:=gOf l.prog w base 1 X G d94 bdA λf g F=>Alike.bXx TA F;have b5:=gOf l.prog w base 1 X G d95 bdA λf g F=>Alike.bJW TA F;have c8:=gOf l.prog w base 2 X G d96 bdA λf g F=>Alike.bJ4 (n:=1) TA f0.up F;have O:=aJs mg l.prog w base 4 cl.b d15 bdA λf g F=>Desk.bKP (n:=2) (Rf:=(R,J)) TB cl h4.up F;have j4:=aJs mg l.prog w base 5 cl.b d17 bdA λf g F=>Desk.aJx (n:=4) (Rf:=(R,J)) TB cl O.up F;have f8:=aJs mg l.prog w base 5 cl.b d18 bdA λf g F=>Desk.aWP (n:=4) (Rf:=(R,J)) cl O.up a7.up F;have Z:=xOf l.prog w base 4 X G d26 bdA λf g F=>Desk.bXF (n:=2) (Rf:=(R,J)) d0.up F;have a1:=xOf l.prog w base 4 X G d27 bdA λf g F=>Desk.bXu (n:=2) (Rf:=(R,J)) k4.up F;have j9:=aJs mg l.prog w base 5 cl.b d28 bdA λf g F=>Desk.bXw (n:=4) (Rf:=(R,J)) cl Z.up b0.up F;have f1:=aJs mg l.prog w base 5 cl.b d29 bdA λf g F=>Desk.bXC (n:=4) (Rf:=(R,J)) cl O.up Z.up a1.up e1.up b0.up F
 have k0:=aJs mg l.prog w base 5 cl.b d30 bdA λf g F=>Desk.aYo (n:=3) (Rf:=(R,J)) cl O.up j6.up F;have c5:=aJs mg l.prog w base 5 cl.b d31 bdA λf g F=>Desk.aWN (n:=4) (Rf:=(R,J)) cl O.up Z.up F;have f9:=aJs mg l.prog w base 5 cl.b d32 bdA λf g F=>Desk.bJ7 (n:=3) (Rf:=(R,J)) TB cl O.up j1.up c4.up F;have b7:=aJs mg l.prog w base 5 cl.b d33 bdA λf g F=>Desk.aYi (n:=3) (Rf:=(R,J)) TB cl O.up b2.up f5.up j3.up F;have c2:=aJs mg l.prog w base 4 cl.b d34 bdA λf g F=>Desk.bJ8 (n:=2) (Rf:=(R,J)) cl g3.up e8.up F;have l0:=aJs mg l.prog w base 5 cl.b d35 bdA λf g F=>Desk.aYp (n:=4) (Rf:=(R,J)) cl O.up b2.up a1.up F;have a0:=aJs mg l.prog w base 5 cl.b d36 bdA λf g F=>Desk.aJC (n:=4) (Rf:=(R,J)) cl O.up g8.up F;have a9:=aJs mg l.prog w base 6 cl.b d37 bdA λf g F=>Desk.bWN (n:=5) (Rf:=(R,J)) TB cl a0.up F;have k3:=aJs mg l.prog w base 6 cl.b d38 bdA λf g F=>Desk.bXr (n:=4) (Rf:=(R,J)) cl a0.up a1.up k7.up l1.up f6.up e7.up F;have i6:=aJs mg l.prog w base 7 cl.b d39 bdA λf g F=>Desk.bJZ (n:=6) (Rf:=(R,J)) cl O.up k3.up a9.up F;have c7:=dOf mg l.prog w base 6 d40 bdA λf g F=>Desk.aJy (n:=5) (Rf:=(R,J)) j9.up F;have e5:=dOf mg l.prog w base 6 d41 bdA λf g F=>Desk.aJA (n:=5) (Rf:=(R,J)) f1.up F;have f3:=dOf mg l.prog w base 8 d42 bdA λf g F=>Desk.aWG (n:=7) (Rf:=(R,J)) i6.up F;have h8:=dOf mg l.prog w base 6 d43 bdA λf g F=>Desk.aJz (n:=5) (Rf:=(R,J)) k0.up F;have k8:=dOf mg l.prog w base 6 d44 bdA λf g F=>Desk.aWE (n:=5) (Rf:=(R,J)) l0.up F;have k1:=dOf mg l.prog w base 6 d45 bdA λf g F=>Desk.aWI (n:=5) (Rf:=(R,J)) c5.up F;have l4:=dOf mg l.prog w base 6 d46 bdA λf g F=>Desk.aWD (n:=5) (Rf:=(R,J)) f9.up F;have b8:=dOf mg l.prog w base 7 d47 bdA λf g F=>Desk.aWF (n:=6) (Rf:=(R,J)) a9.up F;have i1:=dOf mg l.prog w base 6 d48 bdA λf g F=>Desk.aWJ (n:=5) (Rf:=(R,J)) b7.up F;have h6:=dOf mg l.prog w base 5 d49 bdA λf g F=>Desk.aWH (n:=4) (Rf:=(R,J)) c2.up F;have l3:=dOf mg l.prog w base 6 d50 bdA λf g F=>Desk.aZB (n:=5) (Rf:=(R,J)) f8.up F;have j5:=dOf mg l.prog w base 6 d51 bdA λf g F=>Desk.aXD (n:=5) (Rf:=(R,J)) a0.up F;have c1:=dOf mg l.prog w base 6 d52 bdA λf g F=>Desk.aXC (n:=5) (Rf:=(R,J)) j4.up F;have P:(([("in",i),("out",i),("reply",y),("hang",D),("loose",x),("date",B),("term",A),("copy",E),("file",I),("void",z),("shut",H),("state",u),("thread",q),("copies",r),("letters",k),("waiting",p),("overdue",j)]:List (Str×Nat)).map (·.1)).Nodup:=show(["in","out","reply","hang","loose","date","term","copy","file","void","shut","state","thread","copies","letters","waiting","overdue"]:List Str).Nodup from dk;have all:Desk.bWa l.prog w K mg base 8 (R,J) L CL (bZW [("in",i),("out",i),("reply",y),("hang",D),("loose",x),("date",B),("term",A),("copy",E),("file",I),("void",z),("shut",H),("state",u),("thread",q),("copies",r),("letters",k),("waiting",p),("overdue",j)]):=by
  intro e h7;cases e with
  |enter l9 d Y t=>
   obtain⟨g,a,b,c⟩:=c7.ex;rcases h7 with rfl|rfl
   ·exact⟨i,g,_,uD P 0 rfl,a.mono (by decide),⟨_,d,Y,t,rfl⟩,b,c⟩
   ·exact⟨i,g,_,uD P 1 rfl,a.mono (by decide),⟨_,d,Y,t,rfl⟩,b,c⟩
  |reply m d t=>obtain⟨g,a,b,c⟩:=e5.ex;exact⟨y,g,_,uD P 2 rfl,a.mono (by decide),⟨m,d,t,rfl⟩,b,c⟩
  |hang m o=>obtain⟨g,a,b,c⟩:=f3.ex;exact⟨D,g,_,uD P 3 rfl,a.mono (by decide),⟨m,o,rfl⟩,b,c⟩
  |loose m=>obtain⟨g,a,b,c⟩:=h8.ex;exact⟨x,g,_,uD P 4 rfl,a.mono (by decide),⟨m,rfl⟩,b,c⟩
  |date m d=>obtain⟨g,a,b,c⟩:=k8.ex;exact⟨B,g,_,uD P 5 rfl,a.mono (by decide),⟨m,d,rfl⟩,b,c⟩
  |term m t=>obtain⟨g,a,b,c⟩:=k1.ex;exact⟨A,g,_,uD P 6 rfl,a.mono (by decide),⟨m,t,rfl⟩,b,c⟩
  |copy m Y=>obtain⟨g,a,b,c⟩:=l4.ex;exact⟨E,g,_,uD P 7 rfl,a.mono (by decide),⟨m,Y,rfl⟩,b,c⟩
  |file m U=>obtain⟨g,a,b,c⟩:=b8.ex;exact⟨I,g,_,uD P 8 rfl,a.mono (by decide),⟨m,U,rfl⟩,b,c⟩
  |void m=>obtain⟨g,a,b,c⟩:=i1.ex;exact⟨z,g,_,uD P 9 rfl,a.mono (by decide),⟨m,rfl⟩,b,c⟩
  |shut d=>obtain⟨g,a,b,c⟩:=h6.ex;exact⟨H,g,_,uD P 10 rfl,a.mono (by decide),⟨d,rfl⟩,b,c⟩
  |state m=>obtain⟨g,a,b,c⟩:=l3.ex;exact⟨u,g,_,uD P 11 rfl,a.mono (by decide),⟨m,rfl⟩,b,c⟩
  |thread m=>obtain⟨g,a,b,c⟩:=j5.ex;exact⟨q,g,_,uD P 12 rfl,a.mono (by decide),⟨m,rfl⟩,b,c⟩
  |copies m=>obtain⟨g,a,b,c⟩:=c1.ex;exact⟨r,g,_,uD P 13 rfl,a.mono (by decide),⟨m,rfl⟩,b,c⟩
  |letters U=>obtain⟨g,a,b,c⟩:=b6.ex;exact⟨k,g,_,uD P 14 rfl,a.mono (by decide),⟨U,rfl⟩,b,c⟩
  |on b1 d=>
   cases b1
   ·obtain⟨g,a,b,c⟩:=f7.ex;exact⟨p,g,_,uD P 15 rfl,a.mono (by decide),⟨d,rfl⟩,b,c⟩
   ·obtain⟨g,a,b,c⟩:=h2.ex;exact⟨j,g,_,uD P 16 rfl,a.mono (by decide),⟨d,rfl⟩,b,c⟩
 have a4:=gOf l.prog w base 9 X G d56 bdA λf g F=>Desk.aYg (n:=8) (Rf:=(R,J)) (cXD X G nD) (bV2 lD pD P) (cXD X G d60.ns) d60.cl all F;have i3:=gOf l.prog w base 10 X G d57 bdA λf g F=>Desk.aWC (n:=8) (Rf:=(R,J)) a6.up a4.up F;have c9:=gOf l.prog w base 10 X G d59 bdA λf g F=>Desk.aJB (n:=8) (Rf:=(R,J)) a6.up a4.up i9.up F;exact Alike.bWM (n:=10) (Rf:=(R,J)) TA k2.up j2.up e4.up k6.up h3.up c8.up i4.up b5.up V.up i3.up c9.up Q
end End4
namespace End4
open PySem L2 PyProof.Rows
def walk{l:PySem.W.OpenLaw}{q:bY4}{loose:List Str}{o:(Str->Option bYH)->Heap->Prop}{b:cQa->Heap->Prop}{d:DefRec}{K:Params->bYI}{T:Nat}(v:l.most=some 63)(e:d.params.defaults= []) (p:∀ (w:cQa)(h:Heap),b w h->(K w.params).In h) (g:∀ (w:cQa)(h:Heap),b w h->h.get? T=some (cZh #[])) (F:∀ (w:cQa)(mg:Str->Option bYH)(j:Nat)(h:Heap),(K w.params).In h->h.Ns cQe mg->mg d.name=some (.ref j)-> ∃ (i:cXG)(c:Nat),cJl (K w.params) c T=true/\(K w.params).lookup T=none/\(∀ (s:bYK)(u:bYH),BindsTo s i ⟨[u],[]⟩ [("_law_script",u)])/\∀base:Heap,(K w.params).In base->base.Ns cQe mg->cXN base c T->base.BuiltinsAt mg T->xD l.prog w (K w.params) mg base CX0 11 j i ["_law_script"] (Alike.bZp T (K w.params))): PySem.W.WalkO q loose o b l.row.toRowW d [] (λf r=>PySem.call f r):=
 L2.bZH (n:=63) (k:=11) (x:="_law_script") (CX:=CX0) (sp:=Alike.bZp) v (by decide) e ⟨rfl,by decide,by decide⟩ p g F (λ_ _ a y hl m t=>⟨a,y,rfl,t,hl,.inl m,λ_=>rfl⟩) λ_ _ _ _ z=>z
end End4
open PySem PySem.W PyProof.Rows
namespace PySem.W.Fast
def tw998160106304406525:=0
def tw15736986966516584783:=0
def tw501438817592864496:=0
def tw9941345534919719743:=0
def tw11263122715603054435:=0
def tw7775053766119955148:=0
def tw13648569253377977828:=0
def tw5268724137976234579:=0
def tw8057431222184581525:=0
def tw14122487068181594336:=0
def tw7869946263437346302:=0
def tw15676773143422376783:=0
def tw16505061347816311475:=0
def tw13662245721555080012:=0
def tw14413822375602048975:=0
def tw225958906551601524:=0
def tw18225986661150542603:=0
def tw2892026433297064361:=0
def tw18010946529147685955:=0
def tw1949677476773967500:=0
def tw4137928843249708670:=0
def tw4458158902898933936:=0
def tw6892744233623237314:=0
def tw11239220475076941123:=0
def tw9163968607720872313:=0
def tw5663613584733440653:=0
def tw14892908241332620623:=0
def tw18047443958205468022:=0
def tw7374675397444055000:=0
def tw17181602551632212114:=0
def tw6278365891200890463:=0
def tw2712226614251754065:=0
def tw13916205144184618407:=0
def tw8471135213786553384:=0
def tw1671900807521002925:=0
def tw16257546979971073203:=0
def tw11087591291601929972:=0
def tw17197820549835913858:=0
def tw1059808299046468265:=0
def tw18254818271138490243:=0
def tw16068563813333975305:=0
def tw6099509222480286447:=0
def tw16503581500067303632:=0
def tw9102216970697916915:=0
def tw7828676344343675414:=0
def tw658873728767117533:=0
def tw4954879358613803066:=0
def tw9930362953270442901:=0
def tw5404693475847794094:=0
def tw2431362147388079312:=0
def tw3392824792571645166:=0
def tw3525071435583796798:=0
def tw1042072730944357293:=0
def tw4404995322123756279:=0
def tw6702977847031011516:=0
def tw3292569803762302425:=0
def tw1683774893997479022:=0
def tw4123401733854877147:=0
def tw40315238171276215:=0
def tw5083941587490166048:=0
def tw1212133673842667675:=0
def tw7913657952485192450:=0
def tw3960519796598146740:=0
def tw647749818077141765:=0
def tw11168714953360628734:=0
def tw6377951359474439554:=0
def tw12441149722902354508:=0
def tw1183012605774645578:=0
def tw1712764573667511083:=0
def tw10307575002958353402:=0
def tw12309006765122965004:=0
def tw6249283834619268565:=0
def tw7731383542366429317:=0
def tw12741998633121459451:=0
def tw10401652868452543923:=0
def tw18158809293788315748:=0
def tw3441066784173902501:=0
def tw9485186869167148537:=0
def tw9961723713616309124:=0
def tw13298319299673184654:=0
def tw15627729378784334080:=0
def tw10583711281106717842:=0
def tw11090963363490203512:=0
def tw1677312786803629150:=0
def tw12013951838707624673:=0
def tw13965236663528102558:=0
def tw17190795542403082754:=0
def tw4480877487065354725:=0
def tw12839788192037136861:=0
def tw4256205870320379618:=0
def tw13900360004374996005:=0
def tw11778584869895000774:=0
def tw14616428371091366232:=0
def tw9806149553070957396:=0
def tw18437657664049597395:=0
def tw6007576489943842492:=0
def tw2256243865624970894:=0
def tw3718971140212247427:=0
def tw1191124371275937509:=0
def tw14625893639216577578:=0
def tw4407206525027405309:=0
def tw12902250446118571380:=0
def tw5897587240921700705:=0
def tw9410179726686133767:=0
def tw9223383561141501984:=0
def tw11806239256925586431:=0
def tw17916300567920572425:=0
def tw14546395876980692894:=0
def tw6557709093409930016:=0
def tw7480702506491157330:=0
def tw5496323555423157786:=0
def tw7781209360077216766:=0
def tw3170826231998223819:=0
def tw7262724939219732027:=0
def tw1253461240062035352:=0
def tw10847742147359043860:=0
def tw17500727318982912883:=0
def tw10103261152057579976:=0
def tw2402421679967998320:=0
def tw11547620316781419411:=0
def tw10076745749760381744:=0
def tw8737351278358397282:=0
def tw8787141838507622169:=0
def tw11860648524738459654:=0
def tw13592130091938358978:=0
def tw10906631972521852330:=0
def tw1018313056774363054:=0
def tw15468372037353064834:=0
def tw6924070206931755200:=0
def tw15768143934692934160:=0
def tw962227026426583961:=0
def tw3513677631480351679:=0
def tw794590155127618555:=0
def tw890972198923626895:=0
def tw9819523345857715637:=0
def tw9024663276996165815:=0
def tw17970453102330466936:=0
def tw5454564925994264905:=0
def tw18008681973522523117:=0
def tw12658289694880849817:=0
def tw16689158080768703817:=0
def tw10432774522489736944:=0
def tw2149921678924062033:=0
def tw12387396266200688536:=0
def tw8276094925422067581:=0
def tw2783416295781896975:=0
def tw12699905461198163334:=0
def tw7683269382861529737:=0
def tw7840572498403108523:=0
def tw13301681450549643789:=0
def tw12136675992790274413:=0
def tw1720414620904952121:=0
def tw2495989602550912947:=0
def tw16362984534124728349:=0
def tw18412763133848833037:=0
def tw98889791466849592:=0
def tw14577337108041320743:=0
def tw15111639646889461754:=0
def tw15140886339237258518:=0
def tw6231983421828791653:=0
def tw3832188150202851793:=0
def tw244096788857706691:=0
def tw21653562694562173:=0
def tw14854643432989968779:=0
def tw12532668470488261923:=0
def tw14800330931668531593:=0
def tw14928050271696252978:=0
def tw1858325318128223673:=0
def tw17560674216192693059:=0
def tw7269450643428585060:=0
def tw17287743922363836097:=0
def tw10391852997725197817:=0
def tw6043619905676565188:=0
def tw7623279144711354132:=0
def tw15800822878332576839:=0
def tw1876879871434692807:=0
def tw15766923993559248225:=0
def tw1030839450135845108:=0
def tw1153318714277567432:=0
def tw5326480010674263249:=0
def tw6888345403992046910:=0
def tw7942070888010352277:=0
def tw4276812613448251173:=0
def tw8856572734581470323:=0
def tw14564590366105632340:=0
def tw1293350774818474932:=0
def tw9351485417407404788:=0
def tw8769090044803342936:=0
def tw15741284778571066018:=0
def tw8716280806793108016:=0
def tw8142718404260536195:=0
def tw6819644223897588058:=0
def tw17119661012581612744:=0
def tw10700656781749843374:=0
def tw9094904386297982087:=0
def tw2569651466201030154:=0
def tw16726376101419940759:=0
def tw4629755016994076867:=0
def tw10222463751099848817:=0
def tw2602377618069815583:=0
def tw1938628117822900645:=0
def tw8141868714313012070:=0
def tw10417520214955656658:=0
def tw14122539021162469731:=0
def tw16525763502369701640:=0
def tw11693707884513890356:=0
def tw8051011240994425685:=0
def tw5902556676553689917:=0
def tw1226736839854694711:=0
def tw7208911200894079901:=0
def tw4007433611471659671:=0
def tw12495245027551006316:=0
def tw13767296326494331932:=0
def tw13873011059534108788:=0
def tw7546369502909269088:=0
def tw14393980916756279133:=0
def tw2877861082409243245:=0
def tw14694793620129966372:=0
def tw6803078516111935950:=0
def tw15417556123992583503:=0
def tw11352250188831023375:=0
def tw5034317261764395347:=0
def tw17507426520136210143:=0
def tw3272535601432208777:=0
def tw4593141594381135749:=0
def tw16417922880659291904:=0
def tw14435802359494630263:=0
def tw12542087758474879357:=0
def tw11748897766155010885:=0
def tw14257173665357698684:=0
def tw4389605814033742799:=0
def tw6810051557235485139:=0
def tw861133985059874658:=0
def tw9734320399596390087:=0
def tw18248049532168695353:=0
def tw2167284351704046346:=0
def tw16767368277651334694:=0
def tw14737241971350681734:=0
def tw16117280623716984581:=0
def tw1048372684296997814:=0
def tw11353303381126662165:=0
def tw2364974544627540551:=0
def tw1867065335584936920:=0
def tw4740131073130317573:=0
def tw2886875254344506661:=0
def tw5667105720081514742:=0
def tw17960201956816946073:=0
def tw5056324147140604820:=0
def tw2309146692773165154:=0
def tw7336744420834235414:=0
def tw15406160392160179118:=0
def tw14307273955015402832:=0
def tw3409181967951453146:=0
def tw3739557278868204380:=0
def tw16643196097271623519:=0
def tw2729614758478325372:=0
def tw16167143824726751718:=0
def tw16632534582207439672:=0
def tw4952489542167621317:=0
def tw6016095234608879792:=0
def tw5694910561799581138:=0
def tw3345187676507370492:=0
def tw17780087112423401438:=0
def tw16016126553423943983:=0
def tw14797056919120549076:=0
def tw14510918603120658832:=0
def tw861564621779395708:=0
def tw2749201937699874160:=0
def tw16155775107767180976:=0
def tw14483674422386905898:=0
def tw4652861605776942244:=0
def tw13270821565022095873:=0
def tw1077446296371548557:=0
def tw13253142037935539424:=0
def tw17578503200266103630:=0
def tw15235013699292249868:=0
def tw885050823581969415:=0
def tw4283710927252229734:=0
def tw15916567289068542730:=0
def tw2385033516016901180:=0
def tw5672106891166672902:=0
def tw12867048681910706608:=0
def tw7747708063824441307:=0
def tw8607900680693006580:=0
def tw10853679393572346347:=0
def tw6145684098934690658:=0
def tw2495239133873244211:=0
def tw15938181647682610926:=0
def tw5360692523902251018:=0
def tw6726077486325790897:=0
def tw7578684891765163384:=0
def tw2108021834747642733:=0
def tw16956681423077115735:=0
def tw17501113118185946358:=0
def tw10748579370997734215:=0
def tw1351510113567206087:=0
def tw5504696909670051488:=0
def tw237583870994084098:=0
def tw15952927799198684105:=0
def tw16849572185055832411:=0
def tw14176850959199831520:=0
def tw16740032643028452854:=0
def tw6542825109390193440:=0
def tw15093786119936483585:=0
def tw236881181901845749:=0
def tw8283030192622865447:=0
def tw13150814377163000243:=0
def tw13403571150076810734:=0
def tw1899596662471078463:=0
def tw7200963393364882905:=0
def tw9200788306996452101:=0
def tw17162884721941982634:=0
def tw4183370075189412121:=0
def tw13261017076048574998:=0
def tw8599453472906857943:=0
def tw17143642073040422277:=0
def tw8668468109898869632:=0
def tw5343509148165758178:=0
def tw12421729045944882976:=0
def tw4098280066247661489:=0
def tw9184933858110088259:=0
def tw12859069163410973289:=0
def tw3480511066990936871:=0
def tw15278360806224684185:=0
def tw17324416676740721156:=0
def tw9774666352272517937:=0
def tw16816213027175960327:=0
def tw13349699871653437403:=0
def tw3324114167236663577:=0
def tw4006190444316313170:=0
def tw16332986140685126436:=0
def tw18071844023365577436:=0
def tw4897543175872374661:=0
def tw14033908000730452263:=0
def tw14999330102005379159:=0
def tw3342240398682373554:=0
def tw17391045803628459438:=0
def tw1181877887979242359:=0
def tw1239622347613248690:=0
def tw11643519102830283045:=0
def tw7922393288495623444:=0
def tw14349704401661240932:=0
def tw7342014526228306397:=0
def tw17056705696330897174:=0
def tw4982066020348635962:=0
def tw18248518759860307788:=0
def tw463039621866184399:=0
def tw8829488118807720328:=0
def tw13470990887688473065:=0
def tw17470996918566353728:=0
def tw13856415706909538466:=0
def tw6708844255779729454:=0
def tw1573928449645774416:=0
def tw5664013796045597706:=0
def tw4644408770040177792:=0
def tw11463610299021073813:=0
def tw16903212496136022521:=0
def tw5955806135541453278:=0
def tw7412860080563057008:=0
def tw1516593174599091012:=0
def tw85248662884833665:=0
def tw12481180610271795547:=0
def tw11774963876226244391:=0
def tw18316366449617997948:=0
def tw2989130801421949423:=0
def tw15865997215278834612:=0
def tw2641438618409999314:=0
def tw4907532531967565205:=0
def tw7235255847469185125:=0
def tw12320033503050237057:=0
def tw13396533492301751056:=0
def tw8518527548565941419:=0
def tw10961216830552626714:=0
def tw6991164753629545677:=0
def tw4007028849961859304:=0
def tw10133058913430822608:=0
def tw16095599047339155360:=0
def tw4889183271830210875:=0
def tw13204469965599286520:=0
def tw4877313653352082972:=0
def tw5721588241187319206:=0
def tw3988071876927450408:=0
def tw15786288979586243152:=0
def tw5208935181689616068:=0
def tw1633986415165293349:=0
def tw4962047525978170872:=0
def tw16058951181572344025:=0
def tw17013164283952543039:=0
def tw7380433520891119558:=0
def tw5489277000038474074:=0
def tw11296909811236917108:=0
def tw6848265223902890727:=0
def tw15094258433093140983:=0
def tw13482850005477748472:=0
def tw12324664188987355748:=0
def tw10302738216359166288:=0
def tw15239103934346540889:=0
def tw4519631903234031602:=0
def tw5096115985333253938:=0
def tw1013494313503090966:=0
def tw8186215985129305749:=0
def tw16867161139418795957:=0
def tw226450206506209628:=0
def tw15857694049316277330:=0
def tw15806468110083103075:=0
def tw5503878941075132519:=0
def tw17544590174048950269:=0
def tw18068985475698145552:=0
def tw2417225232398420941:=0
def tw10784194721010465100:=0
def tw10128587432157626279:=0
def tw6473681061143309983:=0
def tw16324336726171061542:=0
def tw10883601116629873550:=0
def tw10100073974552971065:=0
def tw6928970299696826305:=0
def tw6380140914260081783:=0
def tw1759467511768299583:=0
def tw3664858347891164971:=0
def tw1482555664234856390:=0
def tw1313108779539788508:=0
def tw4389069895449430666:=0
def tw1341155413857721884:=0
def tw8802134065906636015:=0
def tw2538248242179715456:=0
def tw2832474598850116132:=0
def tw5269301225646737528:=0
def tw8890838180695272623:=0
def tw13754296257352491070:=0
def tw15004447380070767126:=0
def tw6559339913644534805:=0
def tw8616235852157726871:=0
def tw9321561363280090693:=0
def tw8663599759243579890:=0
def tw15185117699813934219:=0
def tw15265742046557170991:=0
def tw4180792725171521191:=0
def tw13247259656857910628:=0
def tw11792904671637797634:=0
def tw8327107269474107056:=0
def tw7928038127142828545:=0
def tw1743069650504141510:=0
def tw13063894221692145693:=0
def tw2858895573093676239:=0
def tw15657910149652074757:=0
def tw18203613809474288579:=0
def tw9109875515025363857:=0
def tw4618986087506272685:=0
def tw11096645968506566375:=0
def tw3547431859846428231:=0
def tw10628749795230246274:=0
def tw13372175089603072739:=0
def tw6410693156387600624:=0
def tw9399719832319791674:=0
def tw17090027032901503409:=0
def tw1293469610320548370:=0
def tw2708405914600702660:=0
def tw8720603968837815576:=0
def tw5827213681781091775:=0
def tw6079192300389915122:=0
def tw8260417084009060451:=0
def tw16300272256593706641:=0
def tw11744456402030080807:=0
def tw11463328988628126213:=0
def tw11426273160420351795:=0
def tw6477997902933815803:=0
def tw8593472379662855874:=0
def tw16316694661609366061:=0
def tw14956681987356615557:=0
def tw5442769765838021875:=0
def tw6210229336200235258:=0
def tw862208110514287701:=0
def tw11558371846991455094:=0
def tw8768773001485777722:=0
def tw14865909777270782744:=0
def tw10812141321667387826:=0
def tw4138986363070064308:=0
def tw14163988554412107357:=0
def tw17574444103012236881:=0
def tw7827565268369794215:=0
def tw12085899520727826819:=0
def tw6530425173549479314:=0
def tw15946447807770141502:=0
def tw10048380825346692367:=0
def tw5819805260675504757:=0
def tw7381985670251890942:=0
def tw2493366263208664813:=0
def tw13314839723351479237:=0
def tw894512370714128729:=0
def tw884408387211428156:=0
def tw869563318155343108:=0
def tw16139908837470114161:=0
def tw12907781168860091055:=0
def tw9289458069757240559:=0
def tw15561420592738618188:=0
def tw11514666506537814875:=0
def tw16806037037089478881:=0
def tw18143236627063837898:=0
def tw9364779124345816963:=0
def tw7763267816663778500:=0
def tw16290901677328044351:=0
def tw1934352003199898883:=0
def tw14167431843883723136:=0
def tw7680835316098673293:=0
def tw12922437806126059086:=0
def tw18170218570416328620:=0
def tw14369126665389094563:=0
def tw9059684325715949808:=0
def tw10926458692174855327:=0
def tw3186490462554262456:=0
def tw14705724148183511846:=0
def tw15441209742587864677:=0
def tw7507242782821876971:=0
def tw3332129167345319580:=0
def tw9675813156875016556:=0
def tw9044435673851520430:=0
def tw12596903529986241070:=0
def tw18079347648844417492:=0
def tw14789632534775127027:=0
def tw6358377299054631876:=0
def tw9279852256636016261:=0
def tw8593353014224957188:=0
def tw4497803129939889508:=0
def tw529253035560065273:=0
def tw11330292994833323316:=0
def tw17570414198617403156:=0
def tw7234255448741835039:=0
def tw472368041268448466:=0
def tw14322350047385333657:=0
def tw10748628499310295668:=0
def tw2592392349547376453:=0
def tw2491307106026767982:=0
def tw14226384353982767603:=0
def tw5601295490912270643:=0
def tw15303450626973227456:=0
def tw18124330641929907885:=0
def tw10723296993167743801:=0
def tw7131207856131802844:=0
def tw5929597949901148125:=0
def tw10157238407904222720:=0
def tw10988415603131035001:=0
def tw17093968263073362343:=0
def tw1080840958626822084:=0
def tw16416617991162271789:=0
def tw14540546154379525956:=0
def tw16661362081546937982:=0
def tw7512308229675339393:=0
def tw14715166356789489680:=0
def tw5419565050873151332:=0
def tw18064162684951608010:=0
def tw7211850002567404517:=0
def tw3311850670472419408:=0
def tw6957055954309586270:=0
def tw13777952111788625637:=0
def tw6476797861355441635:=0
def tw15933631485490743715:=0
def tw5673237314938183838:=0
def tw5922640529654687688:=0
def tw5191790777908451179:=0
def tw12538784892318212413:=0
def tw9654763969895560484:=0
def tw14490899143558453262:=0
def tw4090103530701343405:=0
def tw7414619529457993283:=0
def tw5362051618797365051:=0
def tw5004478287457264261:=0
def tw17079488795637231940:=0
def tw13328913821011122007:=0
def tw12589341123040567033:=0
def tw13861731810798658381:=0
def tw3260253636100901719:=0
def tw16690308080153505110:=0
def tw11426908893652309789:=0
def tw1666361334227861401:=0
def tw17029673120211020615:=0
def tw4965173448723220762:=0
def tw1760306412636772613:=0
def tw11426603106339814856:=0
def tw745906404720497478:=0
def tw9207291637182349981:=0
def tw1899094182943464635:=0
def tw10862690340062525050:=0
def tw12669864135927074082:=0
def tw3868630591632108733:=0
def tw4927507118494145005:=0
def tw12865937968392815124:=0
def tw211365906856745259:=0
def tw15152369473201297211:=0
def tw17478342773433233364:=0
def tw7672588402823534235:=0
def tw11558599917108871279:=0
def tw11229776526899660325:=0
def tw9045327763366195106:=0
def tw2831635360941851199:=0
def tw4500872259214866803:=0
def tw6927026844711835675:=0
def tw10470494833083839670:=0
def tw7485783619488570441:=0
def tw16958349599647555854:=0
def tw11208220059007022790:=0
def tw18291975369143435879:=0
def tw16655846176620549662:=0
def tw14275072749887494927:=0
def tw4082470473303761733:=0
def tw10423697952960967895:=0
def tw11221571191104006428:=0
def tw8276583080338617930:=0
def tw3978297376582942096:=0
def tw12779020518405751635:=0
def tw6233160078171799340:=0
def tw9363672466072805758:=0
def tw14536696115384949121:=0
def tw17388283107950478857:=0
def tw3302975915120429154:=0
def tw5935022909179088573:=0
def tw10189363997316644523:=0
def tw16765073206286109098:=0
def tw9956473622950683070:=0
def tw15115493992712710323:=0
def tw17284186157767397085:=0
def tw5652542603943572657:=0
def tw1904220837594610922:=0
def tw7956683125579813581:=0
def tw2168357864485528695:=0
def tw11963639230470180379:=0
def tw13271570015675907753:=0
def tw6144315944102173329:=0
def tw15283186407506494026:=0
def tw17050967525604592531:=0
def tw4634992977476445829:=0
def tw8928473141547936891:=0
def tw1620988490975024689:=0
def tw3721758358323439675:=0
def tw10613596413235178476:=0
def tw487218989881217458:=0
def tw5808980941632441854:=0
def tw8992371222225476203:=0
def tw7222116798525395121:=0
def tw4646368903064494913:=0
def tw7885750641963632035:=0
def tw4101557290174218022:=0
def tw2387062768064413115:=0
def tw16469456134425915050:=0
def tw2792401758178917866:=0
def tw2892591735628315769:=0
def tw6085659503719140740:=0
def tw17708558110513277028:=0
def tw10428111319340771570:=0
def tw15052917003754077907:=0
def tw14272364520664302486:=0
def tw12170015923145121920:=0
def tw6642632931155158400:=0
def tw1228611252637107510:=0
def tw8480997544371482578:=0
def tw5839582648970934466:=0
def tw6901479410830459559:=0
def tw12463555943989561098:=0
def tw10134419061338479669:=0
def tw14440480452973186507:=0
def tw17865168029680700945:=0
def tw6932897387248587718:=0
def tw17815071325645694584:=0
def tw11019002047425245922:=0
def tw1790812106860701820:=0
def tw6979835510486138790:=0
def tw10328131760887508682:=0
def tw5653156855844918556:=0
def tw4907683381522827866:=0
def tw2081059868938403034:=0
def tw7716646173991953905:=0
def tw11617037199206937579:=0
def tw5780268810339513856:=0
def tw857330226469547840:=0
def tw6338064071026166480:=0
def tw17873064461664235009:=0
def tw5448407847010397804:=0
def tw832186171056454464:=0
def tw14764002478561258378:=0
def tw3902224815911322945:=0
def tw15960873695010075142:=0
def tw10479780859557584255:=0
def tw7007171743354893198:=0
def tw10040530270910791368:=0
def tw13253719980104249521:=0
def tw16391248509731201110:=0
def tw15812300657433790243:=0
def tw4267697509370941661:=0
def tw17087174967094027262:=0
def tw2876186488263388880:=0
def tw7540660009845667847:=0
def tw2551241732150971132:=0
def tw4004662983310234732:=0
def tw13226290437546977807:=0
def tw13648172729710802573:=0
def tw14468405623015232883:=0
def tw1988194528695509236:=0
def tw8500508843229860184:=0
def tw12119839155182412688:=0
def tw4369393448099884234:=0
def tw9282593715665438639:=0
def tw10311422644901841359:=0
def tw17209415148130887261:=0
def tw4329625023218810008:=0
def tw17495135081555674466:=0
def tw5664679090472136269:=0
def tw9609608020845209008:=0
def tw2851686190463816545:=0
def tw17746010293401575536:=0
def tw14069284227698995672:=0
def tw757166250723888848:=0
def tw14709267178201620848:=0
def tw12825321303806251379:=0
def tw6273633067215236360:=0
def tw10491803942478019832:=0
def tw18256297168918279567:=0
def tw14955258211514319348:=0
def tw2247536871312814550:=0
def tw9440666985366558862:=0
def tw1560701414961355078:=0
def tw3365987545173229574:=0
def tw5459957731017511301:=0
def tw1964415602713719914:=0
def tw2054618425360012785:=0
def tw1696524658010801989:=0
def tw1381366018827298137:=0
def tw16630197978157076488:=0
def tw501676089480813827:=0
def tw9950520836192798522:=0
def tw7143461206389414890:=0
def tw16148566260316450891:=0
def tw17357234071492815893:=0
def tw3862832820549043170:=0
def tw496723899842200053:=0
def tw13158573925607500787:=0
def tw6308456254712322413:=0
def tw1193597794953067824:=0
def tw3700776080739898858:=0
def tw4520472412603192459:=0
def tw8655466854522956503:=0
def tw4583637428118160565:=0
def tw5079609115199923394:=0
def tw13266669075935781342:=0
def tw4636047402861280427:=0
def tw7352228331140275628:=0
def tw8360389179496537615:=0
def tw1419817250528871230:=0
def tw10541153651283037054:=0
def tw8456695866741515825:=0
def tw12327948336911891395:=0
def tw10229897365047664180:=0
def tw12578184582525395021:=0
def tw224198199716039283:=0
def tw1526813223268274971:=0
def tw11095131125097109841:=0
def tw3551769319999296062:=0
def tw6136758715825973615:=0
def tw3581129637521522851:=0
def tw15422162509206970323:=0
def tw12251597644207157676:=0
def tw8030125071242096562:=0
def tw17482938566657581639:=0
def tw4220035854867326332:=0
def tw4282424930885250432:=0
def tw16276614702284279122:=0
def tw6692150675208205626:=0
def tw15161705862421750703:=0
def tw4978189734014121218:=0
def tw3622618730262117609:=0
def tw15361204821246751843:=0
def tw3155249327032746444:=0
def tw1879283523022744608:=0
def tw2071935728716651558:=0
def tw7414395039816488064:=0
def tw5293648748058989156:=0
def tw14226938061673323253:=0
def tw13161774338295969231:=0
def tw18097907669799808005:=0
def tw4319443800816381178:=0
def tw3147290106417231427:=0
def tw11375694504032752110:=0
def tw1400723986748992520:=0
def tw4825913485482409698:=0
def tw7107626981515922782:=0
def tw9597488228810458137:=0
def tw9253946494949496201:=0
def tw1338710454842902366:=0
def tw7012175808512824012:=0
def tw7156935757794732409:=0
def tw239692395683748239:=0
def tw8607648632714613157:=0
def tw3234026712074074911:=0
def tw9321978957626689399:=0
def tw7924120567642976705:=0
def tw18030730837856129392:=0
def tw18308411925733591824:=0
def tw15326481883414904368:=0
def tw12061920030095009155:=0
def tw16815253619838356403:=0
def tw13603697666531399643:=0
def tw3565105119949042631:=0
def tw3367073090869286391:=0
def tw1762512951628108460:=0
def tw16505696410182982859:=0
def tw6535969833821835000:=0
def tw14463245694987904491:=0
def tw3045632139956569314:=0
def tw10758449558284735803:=0
def tw5813271158856422409:=0
def tw7634463947396379019:=0
def tw8083624585378360328:=0
def tw600181508327854969:=0
def tw8808142375359166345:=0
def tw1110548023777028783:=0
def tw7192238174968760014:=0
def tw15468372218532656554:=0
def tw10326576373464359730:=0
def tw8887177985236131026:=0
def tw4212998966916174222:=0
def tw626046782245631269:=0
def tw15948216632102884857:=0
def tw9541384967396403424:=0
def tw16467155694007499516:=0
def tw2934489251692840422:=0
def tw14019691492737941163:=0
def tw16211540702694760147:=0
def tw6126377661446535898:=0
def tw655521263135687564:=0
def tw12242499173904946834:=0
def tw8636293895759842075:=0
def tw7683208249269307275:=0
def tw14046471803913861620:=0
def tw4830955078538796640:=0
def tw5602775002845259693:=0
def tw17722291070229269054:=0
def tw8228988802261966053:=0
def tw9304511592930360097:=0
def tw2151133954559553708:=0
def tw13193148611628427599:=0
def tw6996075478253833106:=0
def tw6273684747771928152:=0
def tw8167110709560365045:=0
def tw4919156297407376539:=0
def tw14905335016946809954:=0
def tw14575995946883281235:=0
def tw756493460536290895:=0
def tw10858252827686512386:=0
def tw528946140202924175:=0
def tw2284950618973253244:=0
def tw14063404054043308163:=0
def tw15360818042643772245:=0
def tw15270068587719056038:=0
def tw18193483305521210359:=0
def tw1293351663501268710:=0
def tw17365057827511169021:=0
def tw10085979441683524926:=0
def tw5840833719327605090:=0
def tw7311699480500566620:=0
def tw6440127055903413226:=0
def tw10672218268529394122:=0
def tw1349165387306453605:=0
def tw9644488833775151192:=0
def tw3522037956003351152:=0
def tw7634630240613500161:=0
def tw7051862883683618032:=0
def tw16347275616977411365:=0
def tw12881384787448011998:=0
end PySem.W.Fast
set_option maxRecDepth 100000 in
set_option maxHeartbeats 0 in
theorem PySem.Challenge.cw_letterdesk_k05_whole_numbers_and_trees_holds : PySem.Challenge.rw_letterdesk_k05_whole_numbers_and_trees.Holds := by
 w_on;o_law;k_head;(case hw=>w_witness2);k_fill;refine End4.walk (l:=PySem.Challenge.rw_letterdesk_k05_whole_numbers_and_trees) rfl rfl (λw h Y=>PySem.W.km_in_of Y) (λw h Y=>PySem.W.km_tabs_of Y _ (bYW ..)) ?F;case F=>
  intro w d c h b G a;refine' End4.all_mk b G a ?d60 ?d61 ?d62 ?d63 ?d64 ?d65 ?d66 ?d67 ?d68 ?d69 ?d70 ?d71 ?d9 ?d24 ?cl ?d10 ?d11 ?d12 ?d13 ?d15 ?d16 ?d17 ?d18 ?d19 ?d20 ?d21 ?d22 ?d23 ?d25 ?d28 ?d29 ?d30 ?d31 ?d32 ?d33 ?d34 ?d35 ?d36 ?d37 ?d38 ?d39 ?d58 ?d1 ?d2 ?d3 ?d4 ?d5 ?d6 ?d7 ?d8 ?d14 ?d26 ?d27 ?d56 ?d57 ?d59 ?d72 ?d73 ?d74 ?d75 ?d76 ?d77 ?d78 ?d79 ?d80 ?d81 ?d82 ?d83 ?d84 ?d85 ?d86 ?d87 ?d88 ?d89 ?d90 ?d91 ?d92 ?d93 ?d94 ?d95 ?d96 ?d40 ?d41 ?d42 ?d43 ?d44 ?d45 ?d46 ?d47 ?d48 ?d49 ?d50 ?d51 ?d52 ?d53 ?d54 ?d55 ?dL ?aA ?lA ?cA1 ?kA ?nD ?lD ?pD ?z_len ?z_min ?z_sum ?z_sorted ?z_isinstance ?z_int ?z_str ?z_bool ?z_list ?z_tuple ?z_set ?z_range ?z_reversed ?z_max ?y_week ?y_open ?tb ?tn;(case d60=>apply End4.bVl<;> first|k_is|kernel_rfl);(case d61=>apply End4.uL<;> first|k_is|kernel_rfl);(case d62=>apply End4.uL<;> first|k_is|kernel_rfl);(case d63=>apply End4.uL<;> first|k_is|kernel_rfl);(case d64=>apply End4.uL<;> first|k_is|kernel_rfl);(case d65=>apply End4.uL<;> first|k_is|kernel_rfl);(case d66=>apply End4.uL<;> first|k_is|kernel_rfl);(case d67=>apply End4.uL<;> first|k_is|kernel_rfl);(case d68=>apply End4.uL<;> first|k_is|kernel_rfl);(case d69=>apply End4.uL<;> first|k_is|kernel_rfl);(case d70=>apply End4.uL<;> first|k_is|kernel_rfl);(case d71=>apply End4.uL<;> first|k_is|kernel_rfl);(case d9=>apply End4.bZZ<;> k_is);(case d24=>apply End4.bZZ<;> k_is);(case cl=>apply End4.bKJ<;> k_is);(case d10=>apply End4.x5<;> k_is);(case d11=>apply End4.x5<;> k_is);(case d12=>apply End4.x5<;> k_is);(case d13=>apply End4.x5<;> k_is);(case d15=>apply End4.x5<;> k_is);(case d16=>apply End4.x5<;> k_is);(case d17=>apply End4.x5<;> k_is);(case d18=>apply End4.x5<;> k_is);(case d19=>apply End4.x5<;> k_is);(case d20=>apply End4.x5<;> k_is);(case d21=>apply End4.x5<;> k_is);(case d22=>apply End4.x5<;> k_is);(case d23=>apply End4.x5<;> k_is);(case d25=>apply End4.x5<;> k_is);(case d28=>apply End4.x5<;> k_is);(case d29=>apply End4.x5<;> k_is);(case d30=>apply End4.x5<;> k_is);(case d31=>apply End4.x5<;> k_is);(case d32=>apply End4.x5<;> k_is);(case d33=>apply End4.x5<;> k_is);(case d34=>apply End4.x5<;> k_is);(case d35=>apply End4.x5<;> k_is);(case d36=>apply End4.x5<;> k_is);(case d37=>apply End4.x5<;> k_is);(case d38=>apply End4.x5<;> k_is);(case d39=>apply End4.x5<;> k_is);(case d58=>apply End4.x5<;> k_is);(case d1=>apply End4.xH<;> k_is);(case d2=>apply End4.xH<;> k_is);(case d3=>apply End4.xH<;> k_is);(case d4=>apply End4.xH<;> k_is);(case d5=>apply End4.xH<;> k_is);(case d6=>apply End4.xH<;> k_is);(case d7=>apply End4.xH<;> k_is);(case d8=>apply End4.xH<;> k_is);(case d14=>apply End4.xH<;> k_is);(case d26=>apply End4.xH<;> k_is);(case d27=>apply End4.xH<;> k_is);(case d56=>apply End4.xH<;> k_is);(case d57=>apply End4.xH<;> k_is);(case d59=>apply End4.xH<;> k_is);(case d72=>apply End4.xH<;> k_is);(case d73=>apply End4.xH<;> k_is);(case d74=>apply End4.xH<;> k_is);(case d75=>apply End4.xH<;> k_is);(case d76=>apply End4.xH<;> k_is);(case d77=>apply End4.xH<;> k_is);(case d78=>apply End4.xH<;> k_is);(case d79=>apply End4.xH<;> k_is);(case d80=>apply End4.xH<;> k_is);(case d81=>apply End4.xH<;> k_is);(case d82=>apply End4.xH<;> k_is);(case d83=>apply End4.xH<;> k_is);(case d84=>apply End4.xH<;> k_is);(case d85=>apply End4.xH<;> k_is);(case d86=>apply End4.xH<;> k_is);(case d87=>apply End4.xH<;> k_is);(case d88=>apply End4.xH<;> k_is);(case d89=>apply End4.xH<;> k_is);(case d90=>apply End4.xH<;> k_is);(case d91=>apply End4.xH<;> k_is);(case d92=>apply End4.xH<;> k_is);(case d93=>apply End4.xH<;> k_is);(case d94=>apply End4.xH<;> k_is);(case d95=>apply End4.xH<;> k_is);(case d96=>apply End4.xH<;> k_is);(case d40=>apply End4.xT<;> k_is);(case d41=>apply End4.xT<;> k_is);(case d42=>apply End4.xT<;> k_is);(case d43=>apply End4.xT<;> k_is);(case d44=>apply End4.xT<;> k_is);(case d45=>apply End4.xT<;> k_is);(case d46=>apply End4.xT<;> k_is);(case d47=>apply End4.xT<;> k_is);(case d48=>apply End4.xT<;> k_is);(case d49=>apply End4.xT<;> k_is);(case d50=>apply End4.xT<;> k_is);(case d51=>apply End4.xT<;> k_is);(case d52=>apply End4.xT<;> k_is);(case d53=>apply End4.xT<;> k_is);(case d54=>apply End4.xT<;> k_is);(case d55=>apply End4.xT<;> k_is);(case dL=>apply End4.xT<;> k_is);(case aA=>k_is);(case lA=>k_is);(case cA1=>k_is);(case kA=>k_is);(case nD=>k_is);(case lD=>k_is);(case pD=>exact⟨⟨_,rfl⟩,rfl,rfl,⟨_,rfl⟩,rfl,rfl,⟨_,rfl⟩,rfl,rfl,⟨_,rfl⟩,rfl,rfl,⟨_,rfl⟩,rfl,rfl,⟨_,rfl⟩,rfl,rfl,⟨_,rfl⟩,rfl,rfl,⟨_,rfl⟩,rfl,rfl,⟨_,rfl⟩,rfl,rfl,⟨_,rfl⟩,rfl,rfl,⟨_,rfl⟩,rfl,rfl,⟨_,rfl⟩,rfl,rfl,⟨_,rfl⟩,rfl,rfl,⟨_,rfl⟩,rfl,rfl,⟨_,rfl⟩,rfl,rfl,⟨_,rfl⟩,rfl,rfl,⟨_,rfl⟩,rfl,rfl,cQ3⟩);(case z_len=>k_is);(case z_min=>k_is);(case z_sum=>k_is);(case z_sorted=>k_is);(case z_isinstance=>k_is);(case z_int=>k_is);(case z_str=>k_is);(case z_bool=>k_is);(case z_list=>k_is);(case z_tuple=>k_is);(case z_set=>k_is);(case z_range=>k_is);(case z_reversed=>k_is);(case z_max=>k_is);(case y_week=>k_is);(case y_open=>k_is);(case tb=>kernel_rfl);(case tn=>kernel_rfl)
