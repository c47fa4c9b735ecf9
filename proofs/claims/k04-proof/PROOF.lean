import PyProof.Rows.All
import Wide.All
import OpenK.AllK
import Wide.FinOn
import KE.KLam
import KE.KNestM
import KE.KSortTup
import Lean
import OpenK.KCls
import PyProof.CollectWalk
import PyProof.CompMap
import PyProof.DictStraight
import PyProof.EqAt
import PyProof.EqKinds
import PyProof.ExcArgs
import PyProof.ExcBaseAll.Exception
import PyProof.FactsAll.set
import PyProof.FactsBase
import PyProof.InstStoreFacts
import PyProof.ListRange
import PyProof.LongRange
import PyProof.MakeMany
import PyProof.MinMaxWalk
import PyProof.NeKinds
import PyProof.Rows.SetFrom
import PyProof.Rows.SortWalk
import PyProof.SeqI3
import PyProof.SetKind
import PyProof.SetNew
import PyProof.SetScanFacts
import PyProof.StationsW
import PyProof.TupleCall
import PyProof.WalkInts
import PyProof.Walks
import PySem.Challenge.RW_letterdesk_k04_answers
set_option Elab.async false
set_option linter.all false
set_option maxRecDepth 100000
set_option maxHeartbeats 4000000
open Array renaming length_toList → bY8, getElem?_eq_getElem → cQe, getElem?_toList → cQk, getElem?_eq_some_iff → cXb, getD → cXf, getElem?_eq_none → cXD, getElem?_extract_of_lt → cZH, getElem?_append_left → cZR, perm_iff_toList_perm → cZS
open False renaming elim → cQi
open ForInStep renaming yield → cZq
open Int renaming toNat_natCast → bYq, zero_add → cXK, natCast_inj → cZr
open List renaming getElem?_eq_getElem → bKM, length_map → bKT, mem_cons → bKW, mem_cons_of_mem → bKY, getElem?_eq_some_iff → bKZ, range → bK0, mem_cons_self → bK2, mem_singleton → bK4, mem_of_getElem? → bK5, size_toArray → bK6, getElem?_map → bK7, mem_append_right → bYa, getElem?_append_right → bYc, length_append → bYh, mem_range → bYj, getElem?_eq_none → bYl, mem_append → bYs, map_cons → bYx, getD → bYz, getElem?_append_left → bYA, getElem_of_mem → bYC, length_range → bYD, length_filter_le → bYK, length_cons → bYM, mem_filter → bYP, mem_map → bYQ, take_length → bYR, toArray → bYT, filter_append → bYV, length_singleton → bYX, append_nil → bYY, take_add_one → bY0, length_pos_iff → bY3, length_take → bY4, pairwise_singleton → cQa, pairwise_cons → cQb, contains_iff_mem → cQm, filter_cons_of_neg → cQr, filter_cons_of_pos → cQs, getElem_inj → cQy, lookup_cons → cQz, mem_append_left → cQG, filter_sublist → cQL, getElem?_range → cQM, getElem_mem → cQO, length_nil → cQS, map_append → cQT, nodup_cons → cQU, append_assoc → cQZ, ext_getElem? → cQ0, any_cons → cQ2, lookup → cQ3, contains_cons → cQ5, map_map → cQ6, find?_cons → cQ8, range_succ → cQ9, nodup_append → cXd, pairwise_iff_getElem → cXg, length → cXh, replicate → cXj, not_mem_nil → cXm, filterMap_cons → cXu, filter_eq_self → cXv, getElem?_set_self → cXE, eq_nil_of_length_eq_zero → cXF, all_eq_true → cXS, nodup_range → cXT, all_cons → cXX, pairwise_map → cZd, append_inj' → cZk, cons_append → cZl, countP_cons → cZm, forIn_cons → cZs, getElem?_set_ne → cZt, pairwise_append → cZu, map_congr_left → cZD, toList_toArray → cZE, Perm → cZN, filter_congr → cZU, foldl_append → cZV, getElem?_eq_none_iff → cZ2, length_erase_of_mem → cZ7
open List.Nodup renaming mem_erase_iff → cZ6
open Nat renaming le_refl → bKU, ne_of_lt → bYb, lt_of_lt_of_le → bYe, le_trans → bYo, zero_le → bYJ, lt_succ_of_lt → bYU, lt_irrefl → bYW, sub_self → bY6, le_succ_of_le → cQj, not_lt_zero → cQw, lt_succ_self → cQA, le_succ → cQR, le_of_eq → cXn, le_of_lt → cXo, ne_of_gt → cXp, lt_or_ge → cXL
open Ne renaming symm → bYv
open Option.some renaming inj → bK8, injEq → cZW
open PyProof.Rows renaming seqObj → bYB, envOfC → cQH, IntsAre → cXi, get?_update_seq → cXB, IsTup → cXG, callWith_type1 → cXO, listUpdate_at → cXZ, entry_list_sort → cZI, args_list_sort → cZP, slot_list_sort → cZQ
open PyProof.Rows.F renaming plain_set_update_loop → cQ7, entry_set_update_loop → cX8
open PyProof.Rows.IntsAre renaming int_at → cZO
open PySem renaming Value → bKN, wpAny_bind → bKO, Shared → bKQ, wpAny_pure → bKS, wpAny → bKV, model → bKX, Program → bK9, sizeLine → bYd, World → bYf, mainGlobals → bYi, sizeLine_eq → bYm, starEach → bYp, Around → bYr, bootBuiltins → bYy, Paired → bYH, wpAny_mono → bYN, rawInt → bY2, wpAny_holding → bY5, mem_of_lookup → cQg, compareOp → cQh, backTo → cQp, wpAny_Call_Name_kw → cQq, SetTable → cQv, Builtin → cQx, codeAny_mono → cQC, wpAny_call_entry → cQD, FuncData → cQI, wpAny_newObj_type → cQJ, wpAny_truthy_bool → cQK, wpAny_setField → cQQ, Scope → cQX, codeAny_builtin → cQY, codeAny → cQ1, keywordEach → cQ4, wpAny_passesOwn → cXa, wpAny_setState_of → cXe, binaryOp → cXs, wpAny_askSetting → cXt, wpAny_setEntries_of → cXw, wpAny_callSpecial?_slot → cXx, attributeBase → cXy, behindInMarks → cXz, sysModules → cXC, isSubtype → cXP, pickOrder → cXQ, setFlight → cXR, NameKind → cXU, backToKw → cXV, wpAny_call → cXW, plainId_quiet → cX0, wpAny_attempt → cX1, wpAny_newList → cX2, holding → cX3, sliceBounds → cX4, valueAt → cX5, getMethod → cZa, noteFrame → cZb, scanBound → cZc, wpAny_standAt → cZj, builtinLookup_eq_fast → cZo, plainObj_wpAny_Assign_Attribute → cZp, assignEach → cZw, codeAny_call_builtin → cZx, isInstance → cZy, letOwnedTupleGo → cZz, wpAny_execs_nil → cZA, wpAny_ite_split → cZB, wpAny_fieldsOf → cZK, fits_of_scanBound → cZZ, foldedSetIterable → cZ0, wpAny_pyIter_list → cZ1, wpAny_comprehension_free → cZ9
open PySem.Around renaming under_plainId → cQF
open PySem.Builtin.List renaming listExtendWith → cXN, listTooLong → cX7, listLengthHint → cZL, listSameRef → cZ5
open PySem.Calls renaming call_function_entry → cX6, Name_function_global → cZT
open PySem.Code renaming quiet_builtin → cZM
open PySem.F renaming plainAttrs_list → bYn, slot_list_append → bYt, type_list_append → bYu, called_set → cQB, excBase_Exception → cZ3, plain_extend_loop → cZ4, args_tuple_add_2 → cZ8
open PySem.Heap renaming get?_push_of_some → bKR, lt_size → bK1, get?_push_size → bYg, get?_update_other → bYk, get?_update_self → bYO, size_push → cQl, SameBut → cQN, ExtBut → cZi, get?_update_ne → cZC
open PySem.Heap.SameBut renaming update → cQf
open PySem.Obj renaming mapSeq → bYE, mapFields → bY1, isFreed_of_fields → bY9, data_mapFields → cQc
open PySem.Paired renaming length → cXc
open PySem.PassesOwn renaming never → bYI
open PySem.SeqAt renaming EqAt → cJb
open PySem.SetTable renaming below → bYL, grown → cXl, insertAt → cXJ
open PySem.SetTable.below renaming go → cXI
open PySem.SetTable.probe renaming go → cZY
open PySem.Str renaming ofString → cX9
open PySem.W renaming Frag → bKP, mg_none_of → bK3, findIn → bYw, nsIn → bYF, keepIn → bYG, kitOne → bYS, katRev → bYZ, fnOf → bY7, kia_one → cQn, kia_tup → cQo, codeIn → cQt, emptyDict → cQu, mg_of → cQE, CodeHd → cQP, instObj → cQV, kla_obj → cQW, tabObj → cXk, isFn → cXq, plainGet → cXr, callWith_K → cXA, hasDictIn → cXH, methodCall_KW → cXM, mroIn → cXY, kitx_dict → cZe, kitx_list → cZf, plainOver → cZg, specialIn → cZh, codeHdIn → cZn, callWith_K0 → cZF, plainGet_of → cZG, lookIn → cZJ, methodObj → cZX, KatTups → cJa
open PySem.W.KatTups renaming cons → cZv
open True renaming intro → cQd
theorem dk {p:Prop}[Decidable p](h:decide p=true:=by decide +kernel):p:=of_decide_eq_true h
namespace L2
open PySem PySem.Spec PyProof.Rows
abbrev Key:=Sum Int Str
def aV2:Key->bKN->Bool
 |.inl k,v=>Value.isInt k v
 |.inr x,v=>Value.isStrOf x v
def bKA(w:bYf):Key->Int
 |.inl k=>hashInt k
 |.inr x=>hashStr w x
theorem xX:∀ {k:Key} {v:bKN},aV2 k v=true->(∃i t,k=Sum.inl i/\v=Value.int i t)\/(∃x t,k=Sum.inr x/\v=Value.str x t)
 |.inl i,v,h=>by obtain⟨t,e⟩:=Value.isInt_shape (k:=i) (v:=v) h;exact .inl ⟨i,t,rfl,e⟩
 |.inr x,v,h=>by obtain⟨t,e⟩:=Value.isStrOf_shape (x:=x) (v:=v) h;exact .inr ⟨x,t,rfl,e⟩
theorem aKy(i:Int)(t:Tok):aV2 (.inl i) (.int i t)=true:=by simp[aV2,Value.isInt]
theorem aKz(x:Str)(t:Tok):aV2 (.inr x) (.str x t)=true:=by simp[aV2,Value.isStrOf]
theorem bVY(a b:Int):decide ((Sum.inl a:Key)=Sum.inl b)=(a==b):=by
 by_cases e:a=b
 ·subst e;simp
 ·have h:¬ (Sum.inl a:Key)=Sum.inl b:=λq=>e (Sum.inl.inj q);rw[decide_eq_false h];exact(beq_eq_false_iff_ne.mpr e).symm
theorem bV1(a b:Str):decide ((Sum.inr a:Key)=Sum.inr b)=decide (a=b):=by
 by_cases e:a=b
 ·subst e;simp
 ·have h:¬ (Sum.inr a:Key)=Sum.inr b:=λq=>e (Sum.inr.inj q);rw[decide_eq_false h,decide_eq_false e]
theorem bVZ(a:Int)(b:Str):decide ((Sum.inl a:Key)=Sum.inr b)=false:=decide_eq_false (λq=>nomatch q)
theorem bV0(a:Str)(b:Int):decide ((Sum.inr a:Key)=Sum.inl b)=false:=decide_eq_false (λq=>nomatch q)
def xY(prog:bK9)(w:bYf):PySem.KeyKind prog w Key where
 is:=aV2
 hash:=bKA w
 inj:=λv a b ha hb=>by
  rcases xX ha with⟨i,t,rfl,rfl⟩|⟨x,t,rfl,rfl⟩
  ·rcases xX hb with⟨j,u,rfl,e⟩|⟨y,u,rfl,e⟩
   ·injection e with e1 _;rw[e1]
   ·exact nomatch e
  ·rcases xX hb with⟨j,u,rfl,e⟩|⟨y,u,rfl,e⟩
   ·exact nomatch e
   ·injection e with e1 _;rw[e1]
 byValue:=λk v h=>by
  rcases xX h with⟨i,t,rfl,rfl⟩|⟨x,t,rfl,rfl⟩<;> rfl
 pyHash:=λhv h=>by
  rcases xX hv with⟨i,t,rfl,rfl⟩|⟨x,t,rfl,rfl⟩
  ·exact wpAny_pyHash_int h
  ·exact wpAny_pyHash_str h
 eqBool:=λhu hv h=>by
  rcases xX hu with⟨i,t,rfl,rfl⟩|⟨x,t,rfl,rfl⟩
  ·rcases xX hv with⟨j,u,rfl,rfl⟩|⟨y,u,rfl,rfl⟩
   ·rw[bVY]at h;exact wpAny_eqBool_int h
   ·rw[bVZ]at h;exact SeqAt.EqAt.int_str i t y u _ _ _ _ h
  ·rcases xX hv with⟨j,u,rfl,rfl⟩|⟨y,u,rfl,rfl⟩
   ·rw[bV0]at h;exact SeqAt.EqAt.str_int x t j u _ _ _ _ h
   ·rw[bV1]at h;exact wpAny_eqBool_str h
 «strs»:=λk x t v h=>by
  rcases xX h with⟨i,u,rfl,e⟩|⟨y,u,rfl,e⟩
  ·exact nomatch e
  ·injection e with e1 _
   subst e1
   cases v<;> rfl
theorem aJf(prog:bK9)(w:bYf)(i:Int)(t:Tok):(xY prog w).is (.inl i) (.int i t)=true:=aKy i t
theorem jP(prog:bK9)(w:bYf)(x:Str)(t:Tok):(xY prog w).is (.inr x) (.str x t)=true:=aKz x t
end L2
namespace L2
open PySem PySem.Spec PyProof.Rows
inductive V where
 |non|bl (b:Bool)|int (i:Int)|str (x:Str)|byt (b:Array UInt8)|flt (b:UInt64)|ref (a:Addr)|ty (n:String)
 deriving DecidableEq
def zC:V->bKN->Prop
 |.non,u=>u=Value.none
 |.bl b,u=>u=Value.bool b
 |.int i,u=>∃t,u=Value.int i t
 |.str x,u=>∃t,u=Value.str x t
 |.byt b,u=>∃t,u=Value.bytes b t
 |.flt b,u=>∃t,u=Value.float b t
 |.ref a,u=>u=Value.ref a
 |.ty n,u=>u=Value.type n
abbrev xS:List V->List bKN->Prop:=bYH zC
theorem xS.length{xs:List V}{us:List bKN}(r:xS xs us):xs.length=us.length:=cXc r
theorem xS.get:∀ {xs:List V} {us:List bKN} {i:Nat} {x:V},xS xs us->xs[i]? =some x->∃u,us[i]? =some u/\zC x u
 |_,_,_,_,.nil,e=>by simp at e
 |_,_,0,_,.cons r _,e=>by simp at e;subst e;exact⟨_,rfl,r⟩
 |_,_,i+1,x,.cons _ t,e=>by obtain⟨u,h1,h2⟩:=xS.get (i:=i) (x:=x) t (by simpa using e);exact⟨u,by simpa using h1,h2⟩
theorem xS.set{x:V}{u:bKN}(r:zC x u):∀ {xs:List V} {us:List bKN} (i:Nat),xS xs us->xS (xs.set i x) (us.set i u)
 |_,_,_,.nil=> .nil
 |_,_,0,.cons _ t=> .cons r t
 |_,_,i+1,.cons q t=> .cons q (xS.set r i t)
theorem xS.append:∀ {xs ys:List V} {us a:List bKN},xS xs us->xS ys a->xS (xs++ys) (us++a)
 |_,_,_,_,.nil,s=>s
 |_,_,_,_,.cons r t,s=> .cons r (xS.append t s)
theorem xS.take:∀ {xs:List V} {us:List bKN} (n:Nat),xS xs us->xS (xs.take n) (us.take n)
 |_,_,0,_=> .nil
 |_,_,_+1,.nil=> .nil
 |_,_,n+1,.cons r t=> .cons r (xS.take n t)
theorem xS.drop:∀ {xs:List V} {us:List bKN} (n:Nat),xS xs us->xS (xs.drop n) (us.drop n)
 |_,_,0,r=>r
 |_,_,_+1,.nil=> .nil
 |_,_,n+1,.cons _ t=>xS.drop n t
def aXS:Option V->Option bKN->Prop
 |some v,some u=>zC v u
 |none,none=>True
 |_,_=>False
def KV{κ:Type}:List (κ×V)->List (κ×bKN)->Prop:=bYH λ(p:κ×V)(q:κ×bKN)=>p.1=q.1/\zC p.2 q.2
def kV:Key->V
 |.inl i=> .int i
 |.inr x=> .str x
inductive HO where
 |lst (xs:List V)
 |tup (xs:List V)
 |dK (kvs:List (Key×V))|dT (kvs:List (List Key×V))
 |set (S:Int->Bool) (n:Nat)
 |ins (C dx:Addr) (fs:List (Str×V))
 |own (x:Addr)
 |xd (fs:List (Str×V))
 |met (f x:Addr)
 |rng (lo hi:Int)
 |frz (o:Obj) (u:HO)
 |tbl (ps:Array bKN)
 |ext (φ:Heap->Prop)
abbrev Hp:=Addr->Option HO
def upd(H:Hp)(a:Addr)(o:HO):Hp:=λb=>if b=a then some o else H b
theorem yB{H:Hp}{a:Addr}{o:HO}:upd H a o a=some o:=by unfold upd;rw[if_pos rfl]
theorem yI{H:Hp}{a b:Addr}{o:HO}(h:b≠a):upd H a o b=H b:=by unfold upd;rw[if_neg h]
theorem uR{H:Hp}{a:Addr}{o u:HO}:upd (upd H a o) a u=upd H a u:=by
 funext b;unfold upd;split<;> rfl
theorem aQR{H:Hp}{a b:Addr}{o u:HO}(h:H a=some o)(h':H b=some u)(d:o≠u):a≠b:=by
 intro e;subst e;rw[h]at h';exact d (bK8 h')
theorem yJ{H:Hp}{a b:Addr}{o:HO}(h:H a=some o)(h':H b=none):a≠b:=by
 intro e;subst e;rw[h]at h';cases h'
section
variable (P:bK9)(w:bYf)
def x0(H:Hp)(h:Heap)(a:Addr):HO->Prop
 |.lst xs=>xs.length<=bYd/\∃ (c:List bKN)(n:Nat),xS xs c/\h.get? a=some {cls:= .type "list",data:= .seq c.toArray n}
 |.tup xs=>xs.length<=bYd/\∃c:List bKN,xS xs c/\cXG h a c.toArray
 |.dK b=>b.length<=bYd/\(a==cXC)=false/\∃d,KV b d/\h.DictOf (xY P w) a d
 |.dT b=>b.length<=bYd/\(a==cXC)=false/\∃xs:List (List Key×Addr×bKN),
   bYH (λ(p:List Key×V)(q:List Key×Addr×bKN)=>p.1=q.1/\H q.2.1=some (.tup (p.1.map kV))/\zC p.2 q.2.2) b xs/\
   ∃o es e,h.get? a=some o/\o.ExactDict/\o.data= .dict es e/\es.toList=xs.map (entryOfKey (tupleKind (xY P w)))/\(xs.map (·.1)).Nodup
 |.set S n=>h.SetOf (intKind P w) a S n
 |.ins C dx fs=>H dx=some (.own a)/\fs.length<=1000/\dx≠a/\h.get? a=some (cQV C dx)/\
   ∃mA,h.Ns1 dx mA/\(∀f,aXS (fs.lookup f) (mA f))/\PySem.Within mA (fs.map (·.1))
 |.own _=>∃o,h.get? a=some o
 |.xd fs=>∃mA,h.Ns1 a mA/\∀f,aXS (fs.lookup f) (mA f)
 |.rng lo hi=>∃t u v,h.get? a=some {cls:= .type "range",data:= .fields #[.int lo t,.int hi u,.int 1 v] }
 |.frz o u=>h.get? a=some o/\x0 H h a u
 |.tbl ps=>h.get? a=some {cls:= .none,data:= .fields ps}
 |.met f x=>h.get? a=some (cZX (.ref f) (.ref x))
 |.ext φ=>φ h/\(∃o,h.get? a=some o)/\∀h1 h2:Heap,φ h1->(∀o,h1.get? a=some o->h2.get? a=some o)->φ h2
def HOk(H:Hp)(h:Heap):Prop:=∀a o,H a=some o->x0 P w H h a o
end
section
variable {P:bK9}{w:bYf}{H H':Hp}{h h':Heap}{a:Addr}{o:HO}
theorem x0.lt(x:x0 P w H h a o):a<h.objs.size:=by
 cases o with
 |lst xs=>obtain⟨_,_,_,_,e⟩:=x;exact bK1 e
 |tup xs=>obtain⟨_,_,_,p⟩:=x;exact p.lt
 |dK b=>obtain⟨_,_,_,_,o,_,_,e,_⟩:=x;exact bK1 e
 |dT b=>obtain⟨_,_,_,_,o,_,_,e,_⟩:=x;exact bK1 e
 |set S n=>obtain⟨o,_,_,_,e,_⟩:=x;exact bK1 e
 |ins C dx fs=>obtain⟨_,_,_,e,_⟩:=x;exact bK1 e
 |own y=>obtain⟨_,e⟩:=x;exact bK1 e
 |xd fs=>obtain⟨_,⟨_,_,_,e,_⟩,_⟩:=x;exact bK1 e
 |rng lo hi=>obtain⟨_,_,_,e⟩:=x;exact bK1 e
 |frz c u=>obtain⟨e,_⟩:=x;exact bK1 e
 |tbl ps=>exact bK1 (show h.get? a=some _ from x)
 |met f y=>exact bK1 (show h.get? a=some _ from x)
 |ext φ=>obtain⟨_,⟨_,e⟩,_⟩:=x;exact bK1 e
theorem Paired.mapP{α β:Type}{F G:α->β->Prop}:∀ {c:List α} {d:List β},bYH F c d->(∀a b,F a b->G a b)->bYH G c d
 |_,_,.nil,_=> .nil
 |_,_,.cons r t,f=> .cons (f _ _ r) (Paired.mapP t f)
theorem x0.stay(x:x0 P w H h a o)(k:∀b u,(b=a\/H b=some (.own a))->h.get? b=some u->h'.get? b=some u) (D:∀b,H b=some (.own a)->H' b=some (.own a)) (B:∀b xs,H b=some (.tup xs)->H' b=some (.tup xs)):x0 P w H' h' a o:=by
 induction o with
 |lst xs=>obtain⟨z,j,n,r,e⟩:=x;exact⟨z,j,n,r,k _ _ (.inl rfl) e⟩
 |tup xs=>obtain⟨z,j,r,g,e,c⟩:=x;exact⟨z,j,r,g,k _ _ (.inl rfl) e,c⟩
 |dK m=>obtain⟨z,y,E,r,g,es,i,e,c⟩:=x;exact⟨z,y,E,r,g,es,i,k _ _ (.inl rfl) e,c⟩
 |dT m=>obtain⟨z,y,xs,r,g,es,i,e,c⟩:=x;exact⟨z,y,xs,Paired.mapP r λp q z=>⟨z.1,B _ _ z.2.1,z.2.2⟩,g,es,i,k _ _ (.inl rfl) e,c⟩
 |set S n=>obtain⟨g,es,i,t,e,c⟩:=x;exact⟨g,es,i,t,k _ _ (.inl rfl) e,c⟩
 |ins C dx fs=>obtain⟨d,z,ne,e,mA,⟨l,es,i,s,c⟩,r⟩:=x;exact⟨D _ d,z,ne,k _ _ (.inl rfl) e,mA,⟨l,es,i,k _ _ (.inr d) s,c⟩,r⟩
 |own y=>obtain⟨g,e⟩:=x;exact⟨g,k _ _ (.inl rfl) e⟩
 |xd fs=>obtain⟨mA,⟨l,es,i,e,c⟩,r⟩:=x;exact⟨mA,⟨l,es,i,k _ _ (.inl rfl) e,c⟩,r⟩
 |rng lo hi=>obtain⟨t,u,v,e⟩:=x;exact⟨t,u,v,k _ _ (.inl rfl) e⟩
 |frz g u A=>obtain⟨e,q⟩:=x;exact⟨k _ _ (.inl rfl) e,A q⟩
 |tbl ps=>have e:h.get? a=some {cls:= .none,data:= .fields ps}:=x;show h'.get? a=some {cls:= .none,data:= .fields ps};exact k a _ (.inl rfl) e
 |met f y=>have e:h.get? a=some (cZX (.ref f) (.ref y)):=x;show h'.get? a=some (cZX (.ref f) (.ref y));exact k a _ (.inl rfl) e
 |ext φ=>obtain⟨p,⟨o,e⟩,st⟩:=x;exact⟨st _ _ p λo q=>k _ _ (.inl rfl) q,⟨o,k _ _ (.inl rfl) e⟩,st⟩
theorem HOk.lt(x:HOk P w H h)(e:H a=some o):a<h.objs.size:=(x a o e).lt
theorem HOk.fresh(x:HOk P w H h)(e:h.objs.size<=a):H a=none:=by
 cases q:H a with
 |none=>rfl
 |some u=>exact absurd (bYe (x.lt q) e) (bYW _)
theorem HOk.kept(x:HOk P w H h)(k:∀b u,h.get? b=some u->h'.get? b=some u):HOk P w H h':=λa o e=>
 (x a o e).stay (λb u _ q=>k b u q) (λ_ q=>q) λ_ _ q=>q
theorem HOk.laid(x:HOk P w H h)(k:∀b u,h.get? b=some u->h'.get? b=some u)(i:h.objs.size<=a)(d:x0 P w (upd H a o) h' a o):HOk P w (upd H a o) h':=λb u e=>by
 have g:=x.fresh i;by_cases f:b=a
 ·subst f;rw[yB]at e;cases e;exact d
 ·rw[yI f]at e;exact(x b u e).stay (λc v _ q=>k c v q) (λc q=>by rw[yI (yJ q g)];exact q) λc xs q=>by rw[yI (yJ q g)];exact q
end
def Rd(H:Hp)(a:Addr)(u:HO):Prop:=H a=some u\/∃o,H a=some (.frz o u)
theorem Rd.ok{P:bK9}{w:bYf}{H:Hp}{h:Heap}{a:Addr}{u:HO}(r:Rd H a u)(x:HOk P w H h):x0 P w H h a u:=by
 rcases r with r|⟨o,r⟩
 ·exact x a u r
 ·obtain⟨_,q⟩:=x a _ r;exact q
def Mut:Option HO->Prop
 |some (.lst _)=>True
 |some (.dK _)=>True
 |some (.dT _)=>True
 |some (.set _ _)=>True
 |some (.ins _ _ _)=>True
 |some (.ext _)=>True
 |_=>False
section
variable {P:bK9}{w:bYf}{H:Hp}{h h':Heap}{x e:Addr}{o':HO}
theorem HOk.write(ok:HOk P w H h)(g:Mut (H x))(o:e=x\/H e=some (.own x))(k:∀b u,b≠e->h.get? b=some u->h'.get? b=some u)(m:∃u,h'.get? e=some u)
  (l:x0 P w (upd H x o') h' x o'):HOk P w (upd H x o') h':=λb u q=>by
 have d:∀c y,H c=some (.own y)->c≠x:=λc y r z=>by subst z;rw[r]at g;exact g
 have f:∀c xs,H c=some (.tup xs)->c≠x:=λc xs r z=>by subst z;rw[r]at g;exact g
 by_cases i:b=x
 ·subst i;rw[yB]at q;cases q;exact l
 ·rw[yI i]at q;by_cases a:b=e
  ·have n:H b=some (.own x):=by
    rcases o with z|z
    ·exact absurd (a.trans z) i
    ·rw[a];exact z
   rw[q]at n;cases n;obtain⟨v,p⟩:=m;exact⟨v,by rw[a];exact p⟩
  ·refine(ok b u q).stay (λc v j r=>k c v ?_ r) (λc r=>by rw[yI (d c b r)];exact r) λc xs r=>by rw[yI (f c xs r)];exact r
   rcases j with rfl|j
   ·exact a
   ·rintro rfl;rcases o with z|z
    ·exact d c b j z
    ·rw[j]at z;cases z;exact i rfl
end
structure Un(fs ex:List Addr)(H H':Hp)(h h':Heap):Prop where
 keep:∀b o,h.get? b=some o->H b=none->b∉fs->b∉ex->h'.get? b=some o
 slot:∀b o,h.get? b=some o->H b=none->b∈fs->b∉ex->∃sl,h'.get? b=some {o with slots:=sl}
 free:∀b o,h.get? b=some o->H b=none->b∉ex->H' b=none
 there:∀b o,h.get? b=some o->b∉ex->∃o',h'.get? b=some o'
 tups:∀b xs,H b=some (.tup xs)->H' b=some (.tup xs)
 frzs:∀b o u,H b=some (.frz o u)->H' b=some (.frz o u)
 tbls:∀b ps,H b=some (.tbl ps)->∃more,H' b=some (.tbl (ps++more))
section
variable {fs fs' ex ex':List Addr}{H H1 H2:Hp}{h h1 h2 h':Heap}{a x e:Addr}{o:HO}
theorem Un.any(u:Un fs ex H H1 h h1){b:Addr}{a:Obj}(q:h.get? b=some a)(n:H b=none)(d:b∉ex):∃e,h1.get? b=some {a with slots:=e}:=by
 by_cases c:b∈fs
 ·exact u.slot b a q n c d
 ·exact⟨a.slots,u.keep b a q n c d⟩
theorem Un.kept(k:∀b u,h.get? b=some u->h'.get? b=some u):Un fs ex H H h h':=
 ⟨λb a q _ _ _=>k b a q,λb a q _ _ _=>⟨a.slots,k b a q⟩,λ_ _ _ n _=>n,λb a q _=>⟨a,k b a q⟩,λ_ _ q=>q,λ_ _ _ q=>q,λ_ ps q=>⟨#[],by rw[q];simp⟩⟩
theorem Un.refl:Un fs ex H H h h:=Un.kept λ_ _ q=>q
theorem Un.laid(k:∀b u,h.get? b=some u->h'.get? b=some u)(hp:h.objs.size<=a)(hn:H a=none):Un fs ex H (upd H a o) h h' where
 keep:=λb u q _ _ _=>k b u q
 slot:=λb u q _ _ _=>⟨u.slots,k b u q⟩
 free:=λb u q n _=>by rw[yI (bYb (bYe (bK1 q) hp))];exact n
 there:=λb u q _=>⟨u,k b u q⟩
 tups:=λb xs q=>by rw[yI (yJ q hn)];exact q
 frzs:=λb u xs q=>by rw[yI (yJ q hn)];exact q
 tbls:=λb ps q=>⟨#[],by rw[yI (yJ q hn),q];simp⟩
theorem Un.write(c:Mut (H x))(j:e=x\/H e=some (.own x))(k:∀b u,b≠e->h.get? b=some u->h'.get? b=some u)(f:∃u,h'.get? e=some u):Un fs ex H (upd H x o) h h':=by
 have i:∀b,H b=none->b≠x:=λb n z=>by subst z;rw[n]at c;exact c
 have g:∀b,H b=none->b≠e:=λb n z=>by
  subst z;rcases j with r|r
  ·exact i b n r
  ·rw[n]at r;cases r
 have d:∀b u,H b=some u->¬Mut (some u)->b≠x:=λb u q nm z=>by subst z;rw[q]at c;exact nm c
 refine⟨λb u q n _ _=>k b u (g b n) q,λb u q n _ _=>⟨u.slots,k b u (g b n) q⟩,λb u q n _=>by rw[yI (i b n)];exact n,λb u q _=>?_,
  λb xs q=>by rw[yI (d b _ q λz=>z)];exact q,λb u xs q=>by rw[yI (d b _ q λz=>z)];exact q,λb ps q=>⟨#[],by rw[yI (d b _ q λz=>z),q];simp⟩⟩
 by_cases a:b=e
 ·subst a;exact f
 ·exact⟨u,k b u a q⟩
end
def trk(h:Heap)(H:Hp):List Addr:=(bK0 h.objs.size).filter λa=>(H a).isSome
def aKs(h:Heap)(H:Hp):Heap:=PySem.W.hideAll h (trk h H)
theorem aKt(h:Heap)(H:Hp):(aKs h H).objs.size=h.objs.size:=PySem.W.hideAll_size _ _
theorem bQG{h:Heap}{H:Hp}{b:Addr}{o:Obj}(e:h.get? b=some o)(n:H b=none):(aKs h H).get? b=some o:=
 PySem.W.hideAll_get _ e λa=>by have q:(H b).isSome=true:=(bYP.mp a).2;rw[n]at q;simp at q
theorem bJu{h:Heap}{H:Hp}{b:Addr}{o:Obj}(e:(aKs h H).get? b=some o):h.get? b=some o/\H b=none:=by
 have a:h.get? b=some o:=PySem.W.of_hideAll (trk h H) e;refine⟨a,?_⟩;cases q:H b with
 |none=>rfl
 |some x=>have c:b∈trk h H:=bYP.mpr ⟨bYj.mpr (bK1 a),by simp[q]⟩;have z:(aKs h H).get? b=none:=PySem.W.hideAll_none (trk h H) c;rw[z]at e;cases e
def bZ2(g h:Heap)(L:Addr):List (Addr×Obj):=(bK0 h.objs.size).filterMap λa=>if a=L\/(g.get? a).isSome=true then none else(h.get? a).map λo=>(a,o)
def jR(g h:Heap)(L d:Addr):List (Addr×Obj):=(bZ2 g h L).filter λp=>decide (p.1≠d)
end L2
namespace L2
open PySem PySem.Spec PyProof.Rows
structure Mod(K:bKP)(mg:Str->Option bKN)(base:Heap):Prop where
 kin:K.In base
 glob:base.Ns bYi mg
 blt:∃mb,base.Ns builtinsNs mb/\∀x:Str,x≠"__name__"->mb x=bYy x
 nolimit:base.NoLimit
structure Cx where
 prog:bK9
 w:bYf
 K:bKP
 mg:Str->Option bKN
 base:Heap
 A:bYr
 N:List Str
 s₀:bKQ
 H₀:Hp
 env:Env
 outer:List Env
 stack:List Env
 ex:List Addr
 fn:Str->Bool
 calm:Bool
 pn:List (Addr×Obj)
 xe:bKN->bKQ->Prop
def frs(l:List Env):List Addr:=l.filterMap (·.frame)
abbrev Cx.fs(X:Cx):List Addr:=frs X.outer
def Vis(a:cQX)(x:Str):Prop:=a.names.lookup x=some .local\/a.names.lookup x=some .cell\/a.names.lookup x=some .free
def Loc(a:cQX)(x:Str):Prop:=a.names.lookup x=some .local\/a.names.lookup x=some .cell
def bKv(env:Env)(h:Heap)(m:Str->Option bKN)(x:Str)(u:bKN):Prop:=
 (env.kindOf x=some .local/\m x=some u)\/((env.kindOf x=some .cell\/env.kindOf x=some .free)/\∃c,env.cells.lookup x=some c/\h.IsCell c (some u))
structure Cx.Ok(X:Cx):Prop where
 mod:Mod X.K X.mg X.base
 kind:X.env.scope.kind= .function
 glob:X.env.globals=bYi
 blt:X.env.builtins=builtinsNs
 above:X.s₀.heap.objs.size<=X.env.locals
 inj:∀x y c,X.env.cells.lookup x=some c->X.env.cells.lookup y=some c->x=y
 has:∀x,(X.env.kindOf x=some .cell\/X.env.kindOf x=some .free)->∃c,X.env.cells.lookup x=some c
 cab:∀x c,X.fn x=true->X.env.cells.lookup x=some c->X.s₀.heap.objs.size<=c
 hd:X.calm=true->X.A.handled=none
 frames:X.A.frames=some X.stack
 stk:X.stack=X.outer\/(X.stack=X.env::X.outer/\X.env.frame=some X.env.locals)
 exf:∀b∈X.ex,b≠X.env.locals/\∀x c,X.env.cells.lookup x=some c->c≠b
 bs:∀b o,X.base.get? b=some o->X.s₀.heap.get? b=some o/\X.H₀ b=none
 bsz:X.base.objs.size<=X.s₀.heap.objs.size
 noex:∀b o,X.base.get? b=some o->b∉X.ex
 exfs:∀b∈X.ex,b∉X.fs
 funs:X.s₀.heap.FunFrames X.base X.outer
 frf:∀b∈X.fs,X.H₀ b=none
structure Inv(X:Cx)(pins:List (Addr×Obj))(σ:List (Option V))(H:Hp)(s:bKQ):Prop where
 ok:X.Ok
 os:s.os=X.s₀.os
 bare:AllBare s.gens
 base:Un X.fs X.ex X.H₀ H X.s₀.heap s.heap
 loc:∃m,s.heap.Ns X.env.locals m/\∀ (i:Nat)(x:Str)(v:V),X.N[i]? =some x->σ[i]? =some (some v)->Vis X.env.scope x->∃u,zC v u/\bKv X.env s.heap m x u
 cell:∀x c,X.env.cells.lookup x=some c->∃v,s.heap.IsCell c v
 free:H X.env.locals=none
 freeC:∀x c,X.env.cells.lookup x=some c->H c=none
 pin:∀p∈X.pn++pins,s.heap.get? p.1=some p.2/\H p.1=none/\p.1≠X.env.locals/\p.1∉X.fs/\∀v,p.2.data≠ .cell v
 hok:HOk X.prog X.w H s.heap
 len:σ.length=X.N.length
section
variable {X:Cx}{pins:List (Addr×Obj)}{σ:List (Option V)}{H H':Hp}{s:bKQ}{h':Heap}
theorem Cx.Ok.nofr(ok:X.Ok){b:Addr}{o:Obj}(e:X.base.get? b=some o):b∉X.fs:=λa=>by
 have:=(ok.funs.mem a).1;rw[e]at this;cases this
theorem Inv.bs(I:Inv X pins σ H s):∀b o,X.base.get? b=some o->s.heap.get? b=some o/\H b=none:=λb o e=>
 ⟨I.base.keep b o (I.ok.bs b o e).1 (I.ok.bs b o e).2 (I.ok.nofr e) (I.ok.noex b o e),I.base.free b o (I.ok.bs b o e).1 (I.ok.bs b o e).2 (I.ok.noex b o e)⟩
theorem Inv.bk(I:Inv X pins σ H s):∀b o,X.base.get? b=some o->s.heap.get? b=some o:=λb o e=>(I.bs b o e).1
theorem Inv.mod(I:Inv X pins σ H s):Mod X.K X.mg X.base:=I.ok.mod
theorem Inv.kIn(I:Inv X pins σ H s):X.K.In s.heap:=I.ok.mod.kin.keeps I.bk
theorem Inv.nolimit(I:Inv X pins σ H s):s.heap.NoLimit:=I.ok.mod.nolimit.keeps I.bk
theorem Inv.lt(I:Inv X pins σ H s):X.env.locals<s.heap.objs.size:=let ⟨_,hn,_⟩:=I.loc;hn.lt
theorem Inv.sz(I:Inv X pins σ H s):X.s₀.heap.objs.size<=s.heap.objs.size:=bYo I.ok.above (cXo I.lt)
theorem Inv.nofs(I:Inv X pins σ H s){a:Addr}(h:s.heap.objs.size<=a):a∉X.fs:=λc=>by
 obtain⟨_,o,b,_⟩:=I.ok.funs.mem c;exact absurd (bYe (bK1 b) (bYo I.sz h)) (bYW _)
theorem Inv.cne(I:Inv X pins σ H s):∀x c,X.env.cells.lookup x=some c->c≠X.env.locals:=λx c e z=>by
 obtain⟨v,o,d,f⟩:=I.cell x c e;obtain⟨m,⟨o',es,g,b,a,_⟩,_⟩:=I.loc;rw[z,b]at d;cases d;rw[a]at f;cases f
theorem Inv.funs(I:Inv X pins σ H s):s.heap.FunFrames X.base X.outer:=by
 have all:∀ (l:List Env),(∀b∈frs l,b∈X.fs)->X.s₀.heap.FunFrames X.base l->s.heap.FunFrames X.base l:=by
  intro l;induction l with
  |nil=>intro _ _;trivial
  |cons env r h=>intro f hl;obtain⟨k,⟨L,o,a,m,j,i⟩,g⟩:=hl;have d:L∈X.fs:=f L (by unfold frs;rw[cXu,a];exact bK2);obtain⟨n,e⟩:=I.base.slot L o j (I.ok.frf L d) d λz=>I.ok.exfs L z d;exact⟨k,⟨L,_,a,m,e,i⟩,h (λb c=>f b (by unfold frs;rw[cXu,a];exact bKY _ c)) g⟩
 exact all X.outer (λ_ c=>c) I.ok.funs
theorem Inv.stack(I:Inv X pins σ H s):s.heap.FunFrames X.base X.stack:=by
 rcases I.ok.stk with e|⟨e,b⟩
 ·rw[e];exact I.funs
 ·rw[e];obtain⟨m,a,_⟩:=I.loc;refine .cons (by rw[I.ok.kind];decide) b a ?_ I.funs;exact Heap.get?_none_of_le (bYo I.ok.bsz I.ok.above)
theorem Inv.stkSub(I:Inv X pins σ H s):∀b∈frs X.stack,b∈X.env.locals::X.fs:=λb a=>by
 rcases I.ok.stk with e|⟨e,c⟩
 ·rw[e]at a;exact bKY _ a
 ·rw[e]at a;unfold frs at a;rw[cXu,c]at a;exact a
theorem Inv.stkFree(I:Inv X pins σ H s):∀b∈frs X.stack,H b=none:=λb a=>by
 rcases bKW.mp (I.stkSub b a)with e|a
 ·rw[e];exact I.free
 ·obtain⟨_,o,c,_⟩:=I.ok.funs.mem a;exact I.base.free b o c (I.ok.frf b a) λz=>I.ok.exfs b z a
theorem Inv.step{g':Array GenState}{t':Nat}{d':Drawn}{ch:List Addr}(I:Inv X pins σ H s) (g:∀b∈ch,(b∈X.ex\/X.s₀.heap.objs.size<=b)/\b≠X.env.locals/\(∀x c,X.env.cells.lookup x=some c->c≠b)/\∀p∈X.pn++pins,p.1≠b) (keep:∀b o,b≠X.env.locals->b∉X.fs->b∉ch->s.heap.get? b=some o->H b=none->h'.get? b=some o) (A:∀b o,b≠X.env.locals->b∈X.fs->b∉ch->s.heap.get? b=some o->H b=none->∃K,h'.get? b=some {o with slots:=K}) (f:∀b o,b∉ch->s.heap.get? b=some o->H b=none->H' b=none) (there:∀b o,b∉ch->s.heap.get? b=some o->∃o',h'.get? b=some o') (J:∀b xs,H b=some (.tup xs)->H' b=some (.tup xs)) (E:∀b o u,H b=some (.frz o u)->H' b=some (.frz o u)) (F:∀b ps,H b=some (.tbl ps)->∃more,H' b=some (.tbl (ps++more))) (R:∀m,s.heap.Ns X.env.locals m->h'.Ns X.env.locals m) (N:HOk X.prog X.w H' h') (U:AllBare g'): Inv X pins σ H' {s with heap:=h',gens:=g',drawn:=d',toks:=t'}:=by
 have G:∀b o,X.s₀.heap.get? b=some o->b≠X.env.locals:=λb o e=>bYb (bYe (bK1 e) I.ok.above);have t:∀b o,X.s₀.heap.get? b=some o->b∉X.ex->b∉ch:=λb o e a B=>by
  rcases(g b B).1 with z|z
  ·exact a z
  ·exact absurd (bYe (bK1 e) z) (bYW _)
 have j:∀x c,X.env.cells.lookup x=some c->∀v,s.heap.IsCell c v->h'.IsCell c v:=λx c e v ⟨o,C,L⟩=>by
  have h:c∉ch:=λz=>(g c z).2.2.1 x c e rfl;by_cases Q:c∈X.fs
  ·obtain⟨K,q⟩:=A c o (I.cne x c e) Q h C (I.freeC x c e);exact⟨_,q,L⟩
  ·exact⟨o,keep c o (I.cne x c e) Q h C (I.freeC x c e),L⟩
 refine⟨I.ok,I.os,U,⟨λb o e n B a=>?_,λb o e n B a=>?_,λb o e n a=>?_,λb o e a=>?_,λb xs e=>J b xs (I.base.tups b xs e),λb o xs e=>E b o xs (I.base.frzs b o xs e),λb ps e=>?_⟩,?_,λx c e=>?_,?_,λx c e=>?_,λp P=>?_,N,I.len⟩
 ·exact keep b o (G b o e) B (t b o e a) (I.base.keep b o e n B a) (I.base.free b o e n a)
 ·obtain⟨K,y⟩:=I.base.slot b o e n B a;obtain⟨M,D⟩:=A b _ (G b o e) B (t b o e a) y (I.base.free b o e n a);exact⟨M,D⟩
 ·obtain⟨o',y⟩:=I.base.there b o e a;exact f b o' (t b o e a) y (I.base.free b o e n a)
 ·obtain⟨o',y⟩:=I.base.there b o e a;exact there b o' (t b o e a) y
 ·obtain⟨V,y⟩:=I.base.tbls b ps e;obtain⟨T,D⟩:=F b _ y;exact⟨V++T,by rw[D,Array.append_assoc]⟩
 ·obtain⟨m,W,hl⟩:=I.loc;refine⟨m,R m W,λi x v y D S=>?_⟩;obtain⟨u,r,l⟩:=hl i x v y D S;refine⟨u,r,?_⟩;rcases l with l|⟨k,c,e,z⟩
  ·exact .inl l
  ·exact .inr ⟨k,c,e,j x c e _ z⟩
 ·obtain⟨v,z⟩:=I.cell x c e;exact⟨v,j x c e v z⟩
 ·obtain⟨m,⟨o,_,_,C,_⟩,_⟩:=I.loc;exact f _ o (λz=>(g _ z).2.1 rfl) C I.free
 ·obtain⟨v,o,C,L⟩:=I.cell x c e;exact f c o (λz=>(g c z).2.2.1 x c e rfl) C (I.freeC x c e)
 ·obtain⟨e,n,ne,O,d⟩:=I.pin p P;have h:p.1∉ch:=λz=>(g p.1 z).2.2.2 p P rfl;exact⟨keep p.1 p.2 ne O h e n,f p.1 p.2 h e n,ne,O,d⟩
theorem Inv.un{t':Nat}(I:Inv X pins σ H s)(u:Un X.fs [] H H' s.heap h')(c:HOk X.prog X.w H' h'):Inv X pins σ H' {s with heap:=h',toks:=t'}:=by
 obtain⟨m,⟨o,es,q,h,r⟩,_⟩:=id I.loc;obtain⟨l,j⟩:=u.any h I.free (by simp);exact I.step (g':=s.gens) (d':=s.drawn) (ch:= []) (λ_ z=>nomatch z) (λb o _ f _ e n=>u.keep b o e n f (by simp)) (λb o _ f _ e n=>u.slot b o e n f (by simp)) (λb o _ e n=>u.free b o e n (by simp)) (λb o _ e=>u.there b o e (by simp)) u.tups u.frzs u.tbls (λp i=>by
  obtain⟨o',d,g,a,k⟩:=i;rw[h]at a;cases a;exact⟨_,d,g,j,k⟩) c I.bare
theorem Inv.call{g':Array GenState}{t':Nat}{d':Drawn}{ch:List Addr}(I:Inv X pins σ H s)(u:Un (frs X.stack) ch H H' s.heap h')(g:HOk X.prog X.w H' h')(q:AllBare g') (d:∀b∈ch,(b∈X.ex\/X.s₀.heap.objs.size<=b)/\b≠X.env.locals/\(∀x c,X.env.cells.lookup x=some c->c≠b)/\∀p∈X.pn++pins,p.1≠b): Inv X pins σ H' {s with heap:=h',gens:=g',drawn:=d',toks:=t'}:=by
 obtain⟨m,⟨o,es,B,k,r⟩,_⟩:=id I.loc;obtain⟨y,i⟩:=u.any k I.free λz=>(d _ z).2.1 rfl;exact I.step (ch:=ch) d (λb o i t a e n=>u.keep b o e n (λz=>(bKW.mp (I.stkSub b z)).elim i t) a) (λb o _ _ a e n=>u.any e n a) (λb o a e n=>u.free b o e n a) (λb o a e=>u.there b o e a) u.tups u.frzs u.tbls (λA l=>by
  obtain⟨o',h,j,f,v⟩:=l;rw[k]at f;cases f;exact⟨_,h,j,i,v⟩) g q
theorem Inv.turned{t':Nat}{it:Addr}(I:Inv X pins σ H s)(k:∀b o,b≠it->s.heap.get? b=some o->h'.get? b=some o)(t:H it=none)(f:it≠X.env.locals) (h1:it∈X.ex\/X.s₀.heap.objs.size<=it) (h2:∀x c,X.env.cells.lookup x=some c->c≠it) (i:∀p∈X.pn++pins,p.1≠it):Inv X pins σ H {s with heap:=h',toks:=t'}:=by
 have d:∀b u,H b=some u->b≠it:=λb u e z=>by rw[z,t]at e;cases e
 refine I.step (g':=s.gens) (d':=s.drawn) (ch:= [it]) (λb j=>?_) (λb o _ _ a e _=>k b o (λz=>a (by simp[z])) e) (λb o _ _ a e _=>⟨o.slots,k b o (λz=>a (by simp[z])) e⟩) (λ_ _ _ _ n=>n)
  (λb o a e=>⟨o,k b o (λz=>a (by simp[z])) e⟩) (λ_ _ e=>e) (λ_ _ _ e=>e) (λb ps e=>⟨#[],by rw[e];simp⟩) (λm g=>?_) (λb u e=>?_) I.bare
 ·have e:b=it:=by simpa using j
  subst e;exact⟨h1,f,h2,i⟩
 ·obtain⟨o,es,l,h,r⟩:=g;exact⟨o,es,l,k _ o (bYv f) h,r⟩
 ·refine(I.hok b u e).stay (λc v a q=>k c v ?_ q) (λ_ q=>q) λ_ _ q=>q;rcases a with z|z
  ·rw[z];exact d b u e
  ·exact d c _ z
theorem Inv.tok(I:Inv X pins σ H s)(t:Nat):Inv X pins σ H {s with toks:=t}:=I.un (h':=s.heap) (t':=t) Un.refl I.hok
theorem Inv.kept{t':Nat}(I:Inv X pins σ H s)(k:∀b u,s.heap.get? b=some u->h'.get? b=some u):Inv X pins σ H {s with heap:=h',toks:=t'}:=I.un (Un.kept k) (I.hok.kept k)
theorem Inv.laid{a:Addr}{o:HO}{t':Nat}(I:Inv X pins σ H s)(k:∀b u,s.heap.get? b=some u->h'.get? b=some u)(d:s.heap.objs.size<=a)(c:x0 X.prog X.w (upd H a o) h' a o):
  Inv X pins σ (upd H a o) {s with heap:=h',toks:=t'}:=I.un (Un.laid k d (I.hok.fresh d)) (I.hok.laid k d c)
theorem Inv.write{x e:Addr}{o:HO}{t':Nat}(I:Inv X pins σ H s)(d:Mut (H x))(f:e=x\/H e=some (.own x))(k:∀b u,b≠e->s.heap.get? b=some u->h'.get? b=some u)(a:∃u,h'.get? e=some u)
  (c:x0 X.prog X.w (upd H x o) h' x o):Inv X pins σ (upd H x o) {s with heap:=h',toks:=t'}:=I.un (Un.write d f k a) (I.hok.write d f k a c)
theorem Inv.pins_of{a:List (Addr×Obj)}(I:Inv X pins σ H s)(h:∀p∈a,s.heap.get? p.1=some p.2/\H p.1=none/\p.1≠X.env.locals/\p.1∉X.fs/\∀v,p.2.data≠ .cell v):Inv X a σ H s:=
 ⟨I.ok,I.os,I.bare,I.base,I.loc,I.cell,I.free,I.freeC,λp b=>(bYs.mp b).elim (λz=>I.pin p (cQG _ z)) (h p),I.hok,I.len⟩
theorem aVb{N:List Str}(c:N.Nodup){i j:Nat}{x:Str}(a:N[i]? =some x)(b:N[j]? =some x):i=j:=by
 obtain⟨h1,d⟩:=bKZ.mp a;obtain⟨h2,e⟩:=bKZ.mp b;exact(cQy c).mp (d.trans e.symm)
theorem aQH{M:Model}{A:bYr}{E:bKN->bKQ->Prop}{i:Nat}{x:Str}{v:V}{u:bKN}{Q:Unit->bKQ->Prop}(I:Inv X pins σ H s)(hN:X.N.Nodup)(hi:X.N[i]? =some x)(B:Loc X.env.scope x)(r:zC v u) (h:∀s',Inv X pins (σ.set i (some v)) H s'->(∃a,cQN a s.heap s'.heap/\(a=X.env.locals\/X.env.cells.lookup x=some a))->Q () s') (hf:X.fn x=true\/X.env.scope.names.lookup x=some .local:=by first|exact .inl rfl|exact .inr rfl|assumption):bKV M A (storeName X.env x u) Q E s:=by
 obtain⟨m,hn,hl⟩:=id I.loc;have O:(X.env.scope.kind== .class || (X.env.scope.kind== .module && X.env.locals !=X.env.globals))=false:=by rw[I.ok.kind];rfl
 have hiσ:i<σ.length:=by rw[I.len];exact(bKZ.mp hi).1
 have cne:=I.cne;have g:∀ {a:Addr} {h':Heap},(∃o,s.heap.get? a=some o/\H a=none)->cQN a s.heap h'->HOk X.prog X.w H h':=λ{a h'} ha f b ob e=>by
  obtain⟨_,_,C⟩:=ha;refine(I.hok b ob e).stay (λc U t q=>(f.2 c ?_).trans q) (λ_ q=>q) λ_ _ q=>q;rintro rfl;rcases t with rfl|t
  ·rw[C]at e;cases e
  ·rw[C]at t;cases t
 rcases B with F|F
 ·refine wpAny_storeName_local F hn (λh' a1 f=>?_) O;obtain⟨oL,_,_,a0,_⟩:=id hn;refine h _ ⟨I.ok,I.os,I.bare,⟨λb o e n K B=>?_,λb o e n K B=>?_,I.base.free,λb o e B=>?_,I.base.tups,I.base.frzs,I.base.tbls⟩,⟨_,a1,λj y v' l D Z=>?_⟩,λy c e=>?_,I.free,I.freeC,λp hp=>?_,g ⟨oL,a0,I.free⟩ f,by simpa using I.len⟩ ⟨_,f,.inl rfl⟩
  ·exact(f.2 b (bYb (bYe (bK1 e) I.ok.above))).trans (I.base.keep b o e n K B)
  ·obtain⟨W,l⟩:=I.base.slot b o e n K B;exact⟨W,(f.2 b (bYb (bYe (bK1 e) I.ok.above))).trans l⟩
  ·obtain⟨o',l⟩:=I.base.there b o e B;exact⟨o',(f.2 b (bYb (bYe (bK1 e) I.ok.above))).trans l⟩
  ·by_cases G:j=i
   ·subst G;rw[hi]at l;cases l;rw[cXE hiσ]at D;cases D;exact⟨u,r,.inl ⟨F,by simp⟩⟩
   ·rw[cZt (bYv G)]at D;obtain⟨u',r',q⟩:=hl j y v' l D Z;refine⟨u',r',?_⟩;rcases q with⟨k,e⟩|⟨k,c,e,z⟩
    ·refine .inl ⟨k,?_⟩;have:y≠x:=λe=>G (aVb hN l (e ▸ hi));simp[this,e]
    ·exact .inr ⟨k,c,e,z.sameBut f (cne y c e)⟩
  ·obtain⟨U,z⟩:=I.cell y c e;exact⟨U,z.sameBut f (cne y c e)⟩
  ·obtain⟨e,n,ne,Y,d⟩:=I.pin p hp;exact⟨(f.2 p.1 ne).trans e,n,ne,Y,d⟩
 ·have J:X.fn x=true:=by
   rcases hf with z|z
   ·exact z
   ·rw[z]at F;cases F
  obtain⟨c,t⟩:=I.ok.has x (.inl F);obtain⟨U,z⟩:=I.cell x c t;refine wpAny_storeName_cell I.ok.kind F t z (λh' P f=>?_);obtain⟨oc,R,S⟩:=id z;refine h {s with heap:=h'} ⟨I.ok,I.os,I.bare,⟨λb o e n K B=>?_,λb o e n K B=>?_,I.base.free,λb o e B=>?_,I.base.tups,I.base.frzs,I.base.tbls⟩,⟨m,hn.sameBut f (bYv (cne x c t)),λj y v' l D Z=>?_⟩,λy T e=>?_,I.free,I.freeC,λp hp=>?_,g ⟨oc,R,I.freeC x c t⟩ f,by simpa using I.len⟩ ⟨c,f,.inr t⟩
  ·exact(f.2 b (bYb (bYe (bK1 e) (I.ok.cab x c J t)))).trans (I.base.keep b o e n K B)
  ·obtain⟨W,l⟩:=I.base.slot b o e n K B;exact⟨W,(f.2 b (bYb (bYe (bK1 e) (I.ok.cab x c J t)))).trans l⟩
  ·obtain⟨o',l⟩:=I.base.there b o e B;exact⟨o',(f.2 b (bYb (bYe (bK1 e) (I.ok.cab x c J t)))).trans l⟩
  ·by_cases G:j=i
   ·subst G;rw[hi]at l;cases l;rw[cXE hiσ]at D;cases D;exact⟨u,r,.inr ⟨.inl F,c,t,P⟩⟩
   ·rw[cZt (bYv G)]at D;obtain⟨u',r',q⟩:=hl j y v' l D Z;refine⟨u',r',?_⟩;rcases q with q|⟨k,T,e,z'⟩
    ·exact .inl q
    ·refine .inr ⟨k,T,e,z'.sameBut f ?_⟩;rintro rfl;exact G (aVb hN l (I.ok.inj _ _ _ e t ▸ hi))
  ·by_cases L:T=c
   ·subst L;exact⟨_,P⟩
   ·obtain⟨w2,z2⟩:=I.cell y T e;exact⟨w2,z2.sameBut f L⟩
  ·obtain⟨e,n,ne,Y,d⟩:=I.pin p hp;refine⟨(f.2 p.1 ?_).trans e,n,ne,Y,d⟩;intro q;rw[q,R]at e;have q':oc=p.2:=bK8 e;exact d U (by rw[<- q'];exact S)
theorem aVI{M:Model}{A:bYr}{E:bKN->bKQ->Prop}{i:Nat}{x:Str}{v:V}{u:bKN}{Q:Unit->bKQ->Prop}(I:Inv X pins σ H s)(a:X.N.Nodup)(hi:X.N[i]? =some x)(c:Loc X.env.scope x)(r:zC v u) (h:∀s',Inv X pins (σ.set i (some v)) H s'->Q () s') (d:X.fn x=true\/X.env.scope.names.lookup x=some .local:=by first|exact .inl rfl|exact .inr rfl|assumption):bKV M A (storeName X.env x u) Q E s:=
 aQH I a hi c r (λs' b _=>h s' b) d
theorem Inv.call'{s':bKQ}{ch:List Addr}(I:Inv X pins σ H s)(i:s'.os=s.os)(u:Un (frs X.stack) ch H H' s.heap s'.heap)(a:HOk X.prog X.w H' s'.heap)(j:AllBare s'.gens) (d:∀b∈ch,(b∈X.ex\/X.s₀.heap.objs.size<=b)/\b≠X.env.locals/\(∀x c,X.env.cells.lookup x=some c->c≠b)/\∀p∈X.pn++pins,p.1≠b):Inv X pins σ H' s':=by
 obtain⟨h',f,g,h,o'⟩:=s';have e:o'=s.os:=i;subst e;exact I.call (g':=f) (t':=h) (d':=g) u a j d
end
abbrev XK:=bKN->Option Addr->Hp->Prop
abbrev St:=List (Option V)
abbrev VK:=V->Hp->Prop
abbrev TE:=St->Hp->VK->Prop
abbrev TT:=St->Hp->(Bool->Hp->Prop)->Prop
abbrev TA:=St->Hp->(List V->Hp->Prop)->Prop
structure aW1 where
 nx:St->Hp->Prop
 rt:VK
 bk:St->Hp->Prop:=λ_ _=>False
 ct:St->Hp->Prop:=λ_ _=>False
abbrev TS:=aW1->St->Hp->Prop
def EP(X:Cx)(pins:List (Addr×Obj))(σ:St)(Q:VK)(u:bKN)(s':bKQ):Prop:=∃v H',Inv X pins σ H' s'/\zC v u/\Q v H'
def TP(X:Cx)(pins:List (Addr×Obj))(σ:St)(Q:Bool->Hp->Prop)(b:Bool)(s':bKQ):Prop:=∃H',Inv X pins σ H' s'/\Q b H'
def AP(X:Cx)(pins:List (Addr×Obj))(σ:St)(Q:List V->Hp->Prop)(us:List bKN)(s':bKQ):Prop:=∃a H',Inv X pins σ H' s'/\xS a us/\Q a H'
def SP(X:Cx)(pins:List (Addr×Obj))(D:aW1)(f:Flow)(s':bKQ):Prop:=
 match f with
 |.next=>∃a H',Inv X pins a H' s'/\D.nx a H'
 |.brk=>∃a H',Inv X pins a H' s'/\D.bk a H'
 |.cont=>∃a H',Inv X pins a H' s'/\D.ct a H'
 |.ret u=>∃v a H',Inv X pins a H' s'/\zC v u/\D.rt v H'
def PE(X:Cx)(e:Expr)(t:TE):Prop:=
 ∀ (pins:List (Addr×Obj))(s:bKQ)(σ:St)(H:Hp)(Q:VK),Inv X pins σ H s->t σ H Q->bKV (bKX X.prog X.w) X.A (eval e X.env) (EP X pins σ Q) X.xe s
def PT(X:Cx)(e:Expr)(t:TT):Prop:=
 ∀ (pins:List (Addr×Obj))(s:bKQ)(σ:St)(H:Hp)(Q:Bool->Hp->Prop),Inv X pins σ H s->t σ H Q->bKV (bKX X.prog X.w) X.A (isTrue e X.env (eval e X.env)) (TP X pins σ Q) X.xe s
def PW(X:Cx)(e:Expr)(t:TT):Prop:=
 ∀ (a:Sem bKN)(pins:List (Addr×Obj))(s:bKQ)(σ:St)(H:Hp)(Q:Bool->Hp->Prop),Inv X pins σ H s->t σ H Q->bKV (bKX X.prog X.w) X.A (isTrue e X.env a) (TP X pins σ Q) X.xe s
theorem PW.pt{X:Cx}{e:Expr}{t:TT}(h:PW X e t):PT X e t:=h _
def PA(X:Cx)(es:List Expr)(t:TA):Prop:=
 ∀ (pos:Pos)(pins:List (Addr×Obj))(s:bKQ)(σ:St)(H:Hp)(Q:List V->Hp->Prop),Inv X pins σ H s->t σ H Q->bKV (bKX X.prog X.w) X.A (spliced (cQp pos (bYp es X.env))) (AP X pins σ Q) X.xe s
def PS(X:Cx)(st:Stmt)(t:TS):Prop:=
 ∀ (pins:List (Addr×Obj))(s:bKQ)(σ:St)(H:Hp)(D:aW1),Inv X pins σ H s->t D σ H->bKV (bKX X.prog X.w) X.A (exec st X.env) (SP X pins D) X.xe s
def PSs(X:Cx)(st:List Stmt)(t:TS):Prop:=
 ∀ (pins:List (Addr×Obj))(s:bKQ)(σ:St)(H:Hp)(D:aW1),Inv X pins σ H s->t D σ H->bKV (bKX X.prog X.w) X.A (execs st X.env) (SP X pins D) X.xe s
theorem thn{α:Type}{t:Sem α}{Q b:α->bKQ->Prop}{M:Model}{A:bYr}{E:bKN->bKQ->Prop}{s:bKQ}(h:bKV M A t Q E s)(c:∀a s,Q a s->b a s):bKV M A t b E s:=bYN h c λ_ _ x=>x
end L2
namespace L2
open PySem PySem.Spec PyProof.Rows
section
variable {X:Cx}
theorem bin{a b:Expr}{ta tb:TE}(g:PE X a ta)(i:PE X b tb){pins:List (Addr×Obj)}{s:bKQ}{σ:St}{H:Hp}{R:V->V->Hp->Prop}(I:Inv X pins σ H s)(h:ta σ H λx H1=>tb σ H1 λy H2=>R x y H2) {α:Type} {Q:α->bKQ->Prop} {f:bKN->bKN->Sem α} (j:∀v u e x y H2,Inv X pins σ H2 e->zC x v->zC y u->R x y H2->bKV (bKX X.prog X.w) X.A (f v u) Q X.xe e): bKV (bKX X.prog X.w) X.A (eval a X.env) (λv d=>bKV (bKX X.prog X.w) X.A (eval b X.env) (λu c=>bKV (bKX X.prog X.w) X.A (f v u) Q X.xe c) X.xe d) X.xe s:=by
 refine thn (g pins s σ H _ I h) λv s1 ⟨x,H1,I1,r1,q1⟩=>?_;refine thn (i pins s1 σ H1 _ I1 q1) λu e ⟨y,H2,I2,r2,q2⟩=>?_;exact j v u e x y H2 I2 r1 r2 q2
def bVu(i:Nat):TE:=λσ H Q=>∃v,σ[i]? =some (some v)/\Q v H
def tC(v:V):TE:=λ_ H Q=>Q v H
theorem bZG{i:Nat}{x:Str}{pos:Pos}(j:X.N[i]? =some x)(n:Vis X.env.scope x)(f:(x==("__debug__":Str))=false:=by decide)(d:(x==("__classdict__":Str))=false:=by decide):PE X (.Name x pos) (bVu i):=by
 intro pins s σ H Q I h;obtain⟨v,e,h⟩:=h;obtain⟨m,o,hl⟩:=I.loc;obtain⟨u,r,l⟩:=hl i x v j e n;have fin:EP X pins σ Q u s:=⟨v,H,I,r,h⟩;rcases l with⟨b,k⟩|⟨b,c,g,a⟩
 ·exact wpAny_Name (wpAny_loadName_local I.ok.kind b o k fin) f
 ·rcases b with b|b
  ·exact wpAny_Name (wpAny_loadName_cell I.ok.kind b g a fin) f
  ·exact wpAny_Name (wpAny_loadName_free I.ok.kind b g a fin d) f
theorem yE{i j pos}:PE X (.Constant (.int i) j pos) (tC (.int i)):=λ_ _ _ H _ I h=>wpAny_Constant_int ⟨.int i,H,I.tok _,⟨_,rfl⟩,h⟩
theorem qL{b j pos}:PE X (.Constant (.bool b) j pos) (tC (.bl b)):=λ_ _ _ H _ I h=>Constant_bool ⟨.bl b,H,I,rfl,h⟩
theorem x9{j pos}:PE X (.Constant .none j pos) (tC .non):=λ_ _ _ H _ I h=>Constant_none ⟨.non,H,I,rfl,h⟩
theorem yO{x j pos}:PE X (.Constant (.str x) j pos) (tC (.str x)):=λ_ _ _ H _ I h=>Calls.Constant_str ⟨.str x,H,I.tok _,⟨_,rfl⟩,h⟩
def Gl(X:Cx)(x:Str):Prop:=X.env.kindOf x=some .globalImplicit
theorem uL{E:bKN->bKQ->Prop}{pins:List (Addr×Obj)}{s:bKQ}{σ:St}{H:Hp}{x:Str}{u:bKN}{pos:Pos}{Q:bKN->bKQ->Prop}(I:Inv X pins σ H s)(b:Gl X x)(c:X.mg x=some u)(h:Q u s) (a:(x==("__debug__":Str))=false:=by decide):bKV (bKX X.prog X.w) X.A (eval (.Name x pos) X.env) Q E s:=
 cZT I.ok.kind b (Calls.loadGlobal_global (by rw[I.ok.glob];exact I.mod.glob.keeps I.bk) c h) a
theorem aQ3{E:bKN->bKQ->Prop}{pins:List (Addr×Obj)}{s:bKQ}{σ:St}{H:Hp}{x:Str}{u:bKN}{pos:Pos}{Q:bKN->bKQ->Prop}(I:Inv X pins σ H s)(c:Gl X x)(a:X.mg x=none)(d:bYy x=some u)(h:Q u s) (e:x≠"__name__":=by decide) (b:(x==("__debug__":Str))=false:=by decide):bKV (bKX X.prog X.w) X.A (eval (.Name x pos) X.env) Q E s:=by
 obtain⟨f,h1,h2⟩:=I.mod.blt;exact cZT I.ok.kind c (Calls.loadGlobal_builtin (by rw[I.ok.glob];exact I.mod.glob.keeps I.bk) a (by rw[I.ok.blt];exact h1.keeps I.bk) ((h2 x e).trans d) h) b
theorem vZ{x:Str}{v:V}{u:bKN}{pos:Pos}(c:Gl X x)(b:X.mg x=some u)(r:zC v u)(a:(x==("__debug__":Str))=false:=by decide):PE X (.Name x pos) (tC v):=
 λ_ _ _ H _ I h=>uL I c b ⟨v,H,I,r,h⟩ a
theorem vF{x:Str}{v:V}{u:bKN}{pos:Pos}(c:Gl X x)(b:X.mg x=none)(d:bYy x=some u)(r:zC v u)(e:x≠"__name__":=by decide)(a:(x==("__debug__":Str))=false:=by decide):PE X (.Name x pos) (tC v):=
 λ_ _ _ H _ I h=>aQ3 I c b d ⟨v,H,I,r,h⟩ e a
variable {a b:Expr}{ta tb:TE}{pos:Pos}
def PC(X:Cx)(op:CmpOp)(a b:Expr)(t:TE):Prop:=
 ∀ (pins:List (Addr×Obj))(s:bKQ)(σ:St)(H:Hp)(Q:VK),Inv X pins σ H s->t σ H Q->
  bKV (bKX X.prog X.w) X.A (eval a X.env) (λv d=>bKV (bKX X.prog X.w) X.A (eval b X.env) (λu c=>bKV (bKX X.prog X.w) X.A (cQh op v u) (EP X pins σ Q) X.xe c) X.xe d) X.xe s
theorem bQ1(b:Expr){op:CmpOp}(h:op≠ .In)(h2:op≠ .NotIn):cXz op b=false:=by
 have a:(op==CmpOp.In)=false:=by cases op<;> first|rfl|exact absurd rfl h
 have c:(op==CmpOp.NotIn)=false:=by cases op<;> first|rfl|exact absurd rfl h2
 cases b<;> simp[cXz,a,c]
def tB(t:TE):TT:=λσ H Q=>t σ H λx H1=>∃c,x= .bl c/\Q c H1
theorem bWi{op:CmpOp}{t:TE}(h:PC X op a b t)(h1:cXz op b=false:=by first|exact bQ1 _ (by decide) (by decide)|rfl):PT X (.Compare a [op] [b] pos) (tB t):=by
 intro pins s σ H Q I hw;refine wpAny_isTrue_Compare1 (thn (h pins s σ H _ I hw) λv e h1=>thn h1 λu f h2=>thn h2 λc s3 ⟨x,H1,I1,r1,q1⟩=>?_) h1;obtain⟨d,rfl,q⟩:=q1;cases r1;exact cQK ⟨H1,I1,q⟩
theorem x3{e:Expr}{t:TE}(h:PE X e t)(b:∀a,isTrue e X.env a=(do let v <- a;standAt e.pos;cX3 [v] (truthy v)):=by intro _;rfl):PT X e (tB t):=by
 intro pins s σ H Q I hw;refine isTrue_plain (thn (h pins s σ H _ I hw) λv s1 ⟨x,H1,I1,r1,q1⟩=>?_) (b _);obtain⟨d,rfl,q⟩:=q1;cases r1;exact cQK ⟨H1,I1,q⟩
variable {tA tB':TT}{jR:List Expr}
def bKG(t u:TT):TT:=λσ H Q=>t σ H λc H1=>if c=true then u σ H1 Q else Q false H1
def tOr(t u:TT):TT:=λσ H Q=>t σ H λc H1=>if c=true then Q true H1 else u σ H1 Q
def bKJ(t:TT):TT:=λσ H Q=>t σ H λc H1=>Q (!c) H1
theorem wU(b:PT X a tA):PW X (.BoolOp .And [a] pos) tA:=by
 intro f pins s σ H Q I h;refine isTrue_and (thn (b pins s σ H Q I h) λc d e=>?_);cases c with
 |true=>exact isTrue_and_nil e
 |false=>exact e
theorem jL(b:PT X a tA):PW X (.BoolOp .Or [a] pos) tA:=by
 intro f pins s σ H Q I h;refine isTrue_or (thn (b pins s σ H Q I h) λc d e=>?_);cases c with
 |false=>exact isTrue_or_nil e
 |true=>exact e
theorem vP(f:PT X a tA)(e:PW X (.BoolOp .And (b::jR) pos) tB'):PW X (.BoolOp .And (a::b::jR) pos) (bKG tA tB'):=by
 intro d pins s σ H Q I h;refine isTrue_and (thn (f pins s σ H _ I h) λc s1 ⟨H1,I1,q1⟩=>?_);cases c with
 |true=>exact e d pins s1 σ H1 Q I1 q1
 |false=>exact⟨H1,I1,q1⟩
theorem Z9(f:PT X a tA)(e:PW X (.BoolOp .Or (b::jR) pos) tB'):PW X (.BoolOp .Or (a::b::jR) pos) (tOr tA tB'):=by
 intro d pins s σ H Q I h;refine isTrue_or (thn (f pins s σ H _ I h) λc s1 ⟨H1,I1,q1⟩=>?_);cases c with
 |true=>exact⟨H1,I1,q1⟩
 |false=>exact e d pins s1 σ H1 Q I1 q1
theorem uB(b:PT X a tA):PT X (.UnaryOp .Not a pos) (bKJ tA):=by
 intro pins s σ H Q I h;exact isTrue_not (b pins s σ H (λc H1=>Q (!c) H1) I h)
def bKf(ta tb:TE):TE:=λσ H Q=>ta σ H λx H1=>∃c,x= .bl c/\if c=true then tb σ H1 Q else Q (.bl false) H1
def bKK(ta tb:TE):TE:=λσ H Q=>ta σ H λx H1=>∃c,x= .bl c/\if c=true then Q (.bl true) H1 else tb σ H1 Q
def bKg(ta:TE):TE:=λσ H Q=>ta σ H λx H1=>∃c,x= .bl c/\Q (.bl (!c)) H1
theorem aZu{op}{t:TE}(h:PE X a t):PE X (.BoolOp op [a] pos) t:=λpins s σ H Q I hw=>BoolOp_one (h pins s σ H Q I hw)
theorem aVj(f:PE X a ta)(e:PE X (.BoolOp .And (b::jR) pos) tb):PE X (.BoolOp .And (a::b::jR) pos) (bKf ta tb):=by
 intro pins s σ H Q I h;refine BoolOp_and (thn (f pins s σ H _ I h) λv s1 ⟨x,H1,I1,r1,d⟩=>?_);obtain⟨c,rfl,d⟩:=d;cases r1;refine cQK ?_;cases c with
 |true=>exact e pins s1 σ H1 Q I1 d
 |false=>exact⟨.bl false,H1,I1,rfl,d⟩
theorem bWe(f:PE X a ta)(e:PE X (.BoolOp .Or (b::jR) pos) tb):PE X (.BoolOp .Or (a::b::jR) pos) (bKK ta tb):=by
 intro pins s σ H Q I h;refine BoolOp_or (thn (f pins s σ H _ I h) λv s1 ⟨x,H1,I1,r1,d⟩=>?_);obtain⟨c,rfl,d⟩:=d;cases r1;refine cQK ?_;cases c with
 |false=>exact e pins s1 σ H1 Q I1 d
 |true=>exact⟨.bl true,H1,I1,rfl,d⟩
theorem bZF(d:PE X a ta):PE X (.UnaryOp .Not a pos) (bKg ta):=by
 intro pins s σ H Q I h;refine UnaryOp_ (thn (d pins s σ H _ I h) λv s1 ⟨x,H1,I1,r1,b⟩=>?_);obtain⟨c,rfl,b⟩:=b;cases r1;exact not_of (cQK ⟨.bl (!c),H1,I1,rfl,b⟩)
def tIf(t:TT)(ta tb:TE):TE:=λσ H Q=>t σ H λc H1=>if c=true then ta σ H1 Q else tb σ H1 Q
theorem aVk{c:Expr}(f:PT X c tA)(g:PE X a ta)(e:PE X b tb):PE X (.IfExp c a b pos) (tIf tA ta tb):=by
 intro pins s σ H Q I h;refine wpAny_IfExp (thn (f pins s σ H _ I h) λd s1 ⟨H1,I1,q1⟩=>?_);cases d with
 |true=>exact g pins s1 σ H1 Q I1 q1
 |false=>exact e pins s1 σ H1 Q I1 q1
end
end L2
namespace L2
open PySem PySem.Spec PyProof.Rows
def SqL(K:bKP)(H:Hp)(a:Addr)(xs:List V):Prop:=
 Rd H a (.lst xs)\/
  ∃ (o:Obj)(b:Array bKN)(n:Nat),K.lookup a=some o/\o.cls= .type "list"/\o.dict=none/\o.data= .seq b n/\b.size<=bYd/\xS xs b.toList
def SqT(K:bKP)(H:Hp)(a:Addr)(xs:List V):Prop:=
 Rd H a (.tup xs)\/
  ∃ (o:Obj)(b:Array bKN)(n:Nat),K.lookup a=some o/\o.cls= .type "tuple"/\o.data= .seq b n/\b.size<=bYd/\xS xs b.toList
def bKw:bKN->Option V
 |.none=>some .non
 |.bool b=>some (.bl b)
 |.int i _=>some (.int i)
 |.str x _=>some (.str x)
 |.bytes b _=>some (.byt b)
 |.float b _=>some (.flt b)
 |.ref a=>some (.ref a)
 |.type n=>some (.ty n)
 |_=>none
theorem zC.abs{x:V}{u:bKN}(r:zC x u):bKw u=some x:=by
 cases x with
 |non=>cases r;rfl
 |bl _=>cases r;rfl
 |int _=>obtain⟨t,rfl⟩:=r;rfl
 |str _=>obtain⟨t,rfl⟩:=r;rfl
 |byt _=>obtain⟨t,rfl⟩:=r;rfl
 |flt _=>obtain⟨t,rfl⟩:=r;rfl
 |ref _=>cases r;rfl
 |ty _=>cases r;rfl
theorem zC.inj{x y:V}{u:bKN}(r:zC x u)(q:zC y u):x=y:=bK8 (r.abs.symm.trans q.abs)
theorem xS.inj:∀ {xs ys:List V} {us:List bKN},xS xs us->xS ys us->xs=ys
 |_,_,_,.nil,.nil=>rfl
 |_,_,_,.cons r t,.cons r' t'=>by rw[r.inj r',xS.inj t t']
section
variable {X:Cx}{pins:List (Addr×Obj)}{σ:St}{H:Hp}{s:bKQ}{a:Addr}{xs ys:List V}
theorem SqL.of{K:bKP}(h:H a=some (.lst xs)):SqL K H a xs:= .inl (.inl h)
theorem SqT.of{K:bKP}(h:H a=some (.tup xs)):SqT K H a xs:= .inl (.inl h)
theorem Inv.list(I:Inv X pins σ H s)(h:SqL X.K H a xs):∃b:List bKN,xS xs b/\PlainL s.heap a b.toArray/\xs.length<=bYd:=by
 rcases h with h|⟨o,b,n,g,f,d,c,i,r⟩
 ·obtain⟨z,b,n,r,e⟩:=h.ok I.hok;exact⟨b,r,⟨_,n,e,rfl,rfl,rfl⟩,z⟩
 ·refine⟨b.toList,r,⟨o,n,I.kIn a o g,f,d,by simpa using c⟩,?_⟩;have e:=r.length;simp only[bY8]at e;omega
theorem Inv.tuple(I:Inv X pins σ H s)(h:SqT X.K H a xs):∃b:List bKN,xS xs b/\cXG s.heap a b.toArray/\xs.length<=bYd:=by
 rcases h with h|⟨o,b,n,f,d,c,g,r⟩
 ·obtain⟨z,b,r,p⟩:=h.ok I.hok;exact⟨b,r,p,z⟩
 ·refine⟨b.toList,r,⟨o,I.kIn a o f,d,n,by simpa using c⟩,?_⟩;have e:=r.length;simp only[bY8]at e;omega
theorem Inv.list_inj(I:Inv X pins σ H s)(h:SqL X.K H a xs)(h':SqL X.K H a ys):xs=ys:=by
 obtain⟨c,r,⟨o,n,e,_,_,d⟩,_⟩:=I.list h;obtain⟨b,i,⟨o',j,g,_,_,f⟩,_⟩:=I.list h';rw[e]at g;cases g;rw[d]at f;injection f with d1 _;have:c=b:=by simpa using congrArg Array.toList d1
 subst this;exact r.inj i
end
abbrev Cx.wish(X:Cx)(E:bKN->bKQ->Prop):Cx:={X with xe:=E}
abbrev Cx.nox(X:Cx):Cx:=X.wish λ_ _=>False
theorem Cx.Ok.wish{X:Cx}(ok:X.Ok)(E:bKN->bKQ->Prop):(X.wish E).Ok:=
 ⟨ok.mod,ok.kind,ok.glob,ok.blt,ok.above,ok.inj,ok.has,ok.cab,ok.hd,ok.frames,ok.stk,ok.exf,ok.bs,ok.bsz,ok.noex,ok.exfs,ok.funs,ok.frf⟩
theorem Cx.Ok.unwish{X:Cx}{E:bKN->bKQ->Prop}(ok:(X.wish E).Ok):X.Ok:=
 ⟨ok.mod,ok.kind,ok.glob,ok.blt,ok.above,ok.inj,ok.has,ok.cab,ok.hd,ok.frames,ok.stk,ok.exf,ok.bs,ok.bsz,ok.noex,ok.exfs,ok.funs,ok.frf⟩
section
variable {X:Cx}{pins:List (Addr×Obj)}{σ:St}{H:Hp}{s:bKQ}{E:bKN->bKQ->Prop}
theorem Inv.wish(I:Inv X pins σ H s)(E:bKN->bKQ->Prop):Inv (X.wish E) pins σ H s:=⟨I.ok.wish E,I.os,I.bare,I.base,I.loc,I.cell,I.free,I.freeC,I.pin,I.hok,I.len⟩
theorem Inv.unwish(I:Inv (X.wish E) pins σ H s):Inv X pins σ H s:=⟨I.ok.unwish,I.os,I.bare,I.base,I.loc,I.cell,I.free,I.freeC,I.pin,I.hok,I.len⟩
theorem SP.unwish{D:aW1}{f:Flow}{s':bKQ}(h:SP (X.wish E) pins D f s'):SP X pins D f s':=by
 cases f with
 |next=>obtain⟨a,H',I,q⟩:=h;exact⟨a,H',I.unwish,q⟩
 |brk=>obtain⟨a,H',I,q⟩:=h;exact⟨a,H',I.unwish,q⟩
 |cont=>obtain⟨a,H',I,q⟩:=h;exact⟨a,H',I.unwish,q⟩
 |ret u=>obtain⟨v,a,H',I,r,q⟩:=h;exact⟨v,a,H',I.unwish,r,q⟩
theorem PSs.nox{st:List Stmt}{t:TS}(h:PSs X.nox st t):PSs X st t:=λpins s σ H D I hw=>
 bYN (h pins s σ H D (I.wish _) hw) (λ_ _ q=>q.unwish) λ_ _ z=>cQi z
end
section
variable {X:Cx}{st:Stmt}{jR:List Stmt}{t u:TS}{e:Expr}{te:TE}{pos:Pos}
def aWX:TS:=λD σ H=>D.nx σ H
def bWP(t u:TS):TS:=λD σ H=>t {D with nx:=u D} σ H
theorem yR:PSs X [] aWX:=λ_ _ σ H _ I h=>cZA ⟨σ,H,I,h⟩
theorem yC(h1:PS X st t)(h2:PSs X jR u):PSs X (st::jR) (bWP t u):=by
 intro pins s σ H D I h;refine wpAny_execs_cons (thn (h1 pins s σ H {D with nx:=u D} I h) λf b q=>?_);cases f with
 |next=>obtain⟨a,H',c,q⟩:=q;exact h2 pins b a H' D c q
 |ret v=>exact q
 |brk=>exact q
 |cont=>exact q
theorem yF(h1:PS X st t):PSs X [st] t:=by
 intro pins s σ H D I h;refine wpAny_execs_cons (thn (h1 pins s σ H D I h) λf a q=>?_);cases f with
 |next=>exact cZA q
 |ret v=>exact q
 |brk=>exact q
 |cont=>exact q
theorem Inv.quiet{pins:List (Addr×Obj)}{σ:St}{H:Hp}{s:bKQ}(I:Inv X pins σ H s):interactive X.env=false:=by simp[interactive,I.ok.kind]
def bQg(te:TE):TS:=λD σ H=>te σ H λ_ H1=>D.nx σ H1
theorem yY(a:PE X e te)(b:swapsWith e none pos.line X.env=pure false:=by rfl):PS X (.Expr e pos) (bQg te):=by
 intro pins s σ H D I h;exact wpAny_Expr_any (thn (a pins s σ H _ I h) λv s1 ⟨x,H1,I1,r1,q1⟩=>⟨σ,H1,I1,q1⟩) I.quiet b
def bKr(te:TE):TS:=λD σ H=>te σ H D.rt
theorem yP(a:PE X e te):PS X (.Return (some e) pos) (bKr te):=by
 intro pins s σ H D I h;exact wpAny_Return_some (thn (a pins s σ H _ I h) λv s1 ⟨x,H1,I1,r1,q1⟩=>⟨x,σ,H1,I1,r1,q1⟩)
def bWO(c:TT)(t u:TS):TS:=λD σ H=>c σ H λb H1=>if b=true then t D σ H1 else u D σ H1
theorem y6{c:Expr}{a b:List Stmt}{tc:TT}(f:PT X c tc)(g:PSs X a t)(e:PSs X b u):PS X (.If c a b pos) (bWO tc t u):=by
 intro pins s σ H D I h;refine wpAny_If (thn (f pins s σ H _ I h) λd s1 ⟨H1,I1,q1⟩=>?_);cases d with
 |true=>exact g pins s1 σ H1 D I1 q1
 |false=>exact e pins s1 σ H1 D I1 q1
end
abbrev TG:=V->St->Hp->(St->Hp->Prop)->Prop
abbrev TGs:=List V->St->Hp->(St->Hp->Prop)->Prop
def PG(X:Cx)(a:Expr)(t:TG):Prop:=
 ∀ (pins:List (Addr×Obj))(s:bKQ)(σ:St)(H:Hp)(v:V)(u:bKN)(Q:St->Hp->Prop),Inv X pins σ H s->zC v u->t v σ H Q->
  bKV (bKX X.prog X.w) X.A (assign a X.env u) (λ_ s'=>∃b H',Inv X pins b H' s'/\Q b H') X.xe s
def PGs(X:Cx)(d:List Expr)(t:TGs):Prop:=
 ∀ (pins:List (Addr×Obj))(s:bKQ)(σ:St)(H:Hp)(b:List V)(c:List bKN)(Q:St->Hp->Prop),Inv X pins σ H s->xS b c->t b σ H Q->
  bKV (bKX X.prog X.w) X.A (assignInOrder ((cZw d X.env).map (·.2)) c) (λ_ s'=>∃a H',Inv X pins a H' s'/\Q a H') X.xe s
abbrev bWU:=V->V->V->Hp->(Hp->Prop)->Prop
def bKl(X:Cx)(t:bWU):Prop:=
 ∀ (pins:List (Addr×Obj))(s:bKQ)(σ:St)(H:Hp)(o i v:V)(b a u:bKN)(Q:Hp->Prop),Inv X pins σ H s->zC o b->zC i a->zC v u->t o i v H Q->
  bKV (bKX X.prog X.w) X.A (setItem b a u) (λ_ s'=>∃H',Inv X pins σ H' s'/\Q H') X.xe s
section
variable {X:Cx}{pos:Pos}
def yX(i:Nat):TG:=λv σ H Q=>Q (σ.set i (some v)) H
theorem y9{i:Nat}{x:Str}(a:X.N.Nodup:=by exact ‹yM _ _ _›.nd)(hi:X.N[i]? =some x:=by rfl)(d:Loc X.env.scope x:=by first|exact Or.inl rfl|exact Or.inr rfl)(c:X.fn x=true\/X.env.scope.names.lookup x=some .local:=by first|exact .inl rfl|exact .inr rfl|assumption):PG X (.Name x pos) (yX i):=by
 intro pins s σ H v u Q I r h;exact wpAny_assign_Name (aVI I a hi d r (λs' b=>⟨_,H,b,h⟩) c)
def bKx:TGs:=λa σ H Q=>a= []/\Q σ H
def bWZ(t:TG)(u:TGs):TGs:=λb σ H Q=>∃v r,b=v::r/\t v σ H λa H'=>u r a H' Q
theorem aXr:PGs X [] bKx:=by
 intro pins s σ H a b Q I r h;obtain⟨e,h⟩:=h;subst e;cases r;exact assignInOrder_nil ⟨σ,H,I,h⟩
theorem zE{e:Expr}{es:List Expr}{t:TG}{u:TGs}(h1:PG X e t)(h2:PGs X es u) (a:(cZw (e::es) X.env).map (·.2)=assign e X.env::(cZw es X.env).map (·.2):=by rfl):PGs X (e::es) (bWZ t u):=by
 intro pins s σ H d g Q I r h;obtain⟨v,f,b,h⟩:=h;subst b;cases r with
 |cons r c=>rw[a];refine assignInOrder_cons (thn (h1 pins s σ H _ _ _ I r h) λ_ s1 ⟨σ1,H1,I1,q1⟩=>?_);exact h2 pins s1 σ1 H1 _ _ Q I1 c q1
def bKz(K:bKP)(n:Nat)(t:TGs):TG:=λv σ H Q=>∃a xs,v= .ref a/\SqT K H a xs/\xs.length=n/\t xs σ H Q
theorem aVl{es:List Expr}{k:Nat}{t:TGs}{n:Nat}(m:X.calm=true)(h:PGs X es t) (q:(cZw es X.env).length=n:=by rfl) (c:(cZw es X.env).findIdx? (·.1)=none:=by rfl):PG X (.Tuple es k pos) (bKz X.K n t):=by
 intro pins s σ H v u Q I r hw;obtain⟨a,xs,l,f,hl,hw⟩:=hw;subst l;cases r;obtain⟨j,d,g,w⟩:=I.tuple f;refine assign_Tuple_tuple (I.ok.hd m) g (by simp[q,<- hl,d.length]) c λh' p=>?_;have i:Inv X pins σ H {s with heap:=h'}:=I.kept (t':=s.toks) λb o e=>p b o (bYb (bK1 e)) e;exact h pins _ σ H xs _ Q i (by simpa using d) hw
def bKy(to b:TE)(t:bWU):TG:=λv σ H Q=>to σ H λo H1=>b σ H1 λi H2=>t o i v H2 λa=>Q σ a
theorem qM{o i:Expr}{to a:TE}{t:bWU}(c:PE X o to)(hi:PE X i a)(b:bKl X t)
  (d:∀v,assign (.Subscript o i pos) X.env v=(do
   let ov <- cX3 [v] (eval o X.env)
   let iv <- cX3 [v,ov] (eval i X.env)
   standAt pos
   cX3 [v,ov,iv] (setItem ov iv v)
   release [v,ov,iv] []):=by intro _;rfl):PG X (.Subscript o i pos) (bKy to a t):=by
 intro pins s σ H v u Q I r h
 rw[d]
 refine bKO (bY5 (thn (c pins s σ H _ I h) λov s1 ⟨x,H1,I1,r1,q1⟩=>?_))
 refine bKO (bY5 (thn (hi pins s1 σ H1 _ I1 q1) λiv s2 ⟨y,H2,I2,r2,q2⟩=>?_))
 refine bKO (cZj (bKO (bY5 (thn (b pins s2 σ H2 x y v ov iv u _ I2 r1 r2 r q2) λ_ s3 ⟨H3,I3,q3⟩=>?_))))
 exact wpAny_release ⟨σ,H3,I3,q3⟩
def bWN(te:TE)(g:TG):TS:=λD σ H=>te σ H λx H1=>g x σ H1 D.nx
theorem vO{tg e:Expr}{te:TE}{g:TG}(a:PE X e te)(c:PG X tg g)(b:swapsWithSole [tg] e pos.line X.env=pure false:=by rfl)(hw:swappedStores [tg] e X.env=pure none:=by rfl)
  (h1:(cZw [tg] X.env).map (·.2)= [assign tg X.env]:=by rfl):PS X (.Assign [tg] e pos) (bWN te g):=by
 intro pins s σ H D I h
 refine wpAny_Assign_stores (thn (a pins s σ H _ I h) λv s1 ⟨x,H1,I1,r1,q1⟩=>?_) b hw
 rw[h1]
 exact thn (c pins s1 σ H1 x v _ I1 r1 q1) λ_ d q=>q
theorem yT{i:Nat}{x:Str}{e:Expr}{te:TE}{pos':Pos}(c:PE X e te)(a:X.N.Nodup:=by exact ‹yM _ _ _›.nd)(hi:X.N[i]? =some x:=by rfl)(f:Loc X.env.scope x:=by first|exact Or.inl rfl|exact Or.inr rfl)(d:swapsWith e (some (.Name x pos')) pos.line X.env=pure false:=by rfl)(g:X.fn x=true\/X.env.scope.names.lookup x=some .local:=by first|exact .inl rfl|exact .inr rfl|assumption):
  PS X (.Assign [.Name x pos'] e pos) (bWN te (yX i)):=by
 intro pins s σ H D I h
 refine wpAny_Assign_Name (thn (c pins s σ H _ I h) λv s1 ⟨y,H1,I1,r1,q1⟩=>?_) d
 exact aVI I1 a hi f r1 (λj b=>⟨_,H1,b,q1⟩) g
end
section
variable {X:Cx}{pos:Pos}
def bWC(c:TT)(tb:TS):TS:=λD σ H=>∃W:Nat->St->Hp->Prop,(∃m,W m σ H)/\∀m σ H,W m σ H->
 c σ H λb H1=>if b=true then ∃N:St->Hp->Prop,(∀a H',N a H'->∃d,d<m/\W d a H')/\tb {D with nx:=N,ct:=N,bk:=D.nx} σ H1 else D.nx σ H1
theorem u9{c:Expr}{body:List Stmt}{tc:TT}{tb:TS}(r:PassesOwn (bKX X.prog X.w) X.A X.env X.xe)(C:PT X c tc)(B:PSs X body tb):PS X (.While c body [] pos) (bWC tc tb):=by
 intro pins s σ H D I h;obtain⟨W,⟨x,y⟩,turn⟩:=h;refine wpAny_While (codeAny_whileLoop (λn s'=>∃g H',Inv X pins g H' s'/\W n g H') ?_ x ⟨σ,H,I,y⟩);rintro n t ⟨d,H1,u,z⟩;refine cXa r (thn (C pins t d H1 _ u (turn n d H1 z)) λb s2 ⟨H2,I2,i⟩=>?_);cases b with
 |true=>
  obtain⟨N,q,i⟩:=i;rw[if_pos rfl];refine cXa r (thn (B pins s2 d H2 _ I2 i) λf E j=>?_);cases f with
  |next=>obtain⟨a,e,p,o⟩:=j;obtain⟨k,l,m⟩:=q a e o;exact⟨k,l,a,e,p,m⟩
  |cont=>obtain⟨a,e,p,o⟩:=j;obtain⟨k,l,m⟩:=q a e o;exact⟨k,l,a,e,p,m⟩
  |brk=>exact j
  |ret v=>exact j
 |false=>rw[if_neg Bool.false_ne_true];exact cZA ⟨d,H2,I2,i⟩
end
structure It where
 go:Nat->Hp->Prop
 yld:Nat->Hp->V->Hp->Prop
 stop:Nat->Hp->Prop
def bZj(X:Cx)(pins:List (Addr×Obj))(H:Hp)(b:Addr):Prop:=
 H b=none/\b≠X.env.locals/\b∉X.fs/\(b∈X.ex\/X.s₀.heap.objs.size<=b)/\(∀x c,X.env.cells.lookup x=some c->c≠b)/\∀p∈X.pn++pins,p.1≠b
theorem Inv.fpOk{X:Cx}{pins:List (Addr×Obj)}{σ:St}{H H':Hp}{s:bKQ}{b:Addr}(I:Inv X pins σ H s)(a:s.heap.objs.size<=b)(f:H' b=none):bZj X pins H' b:=by
 refine⟨f,cXp (bYe I.lt a),I.nofs a,.inr (bYo I.sz a),λx c e z=>?_,λp d z=>?_⟩
 ·obtain⟨v,q⟩:=I.cell x c e;exact absurd (bYe q.lt (by rw[z];exact a)) (bYW _)
 ·exact absurd (bYe (bK1 (I.pin p d).1) (by rw[z];exact a)) (bYW _)
structure bWI(P:bK9)(w:bYf)(K:bKP)(tg:Expr)(J:It)(fp:List Addr)(it:Addr)(tn:Nat->Heap->Prop):Prop where
 mem:it∈fp
 obj:∀i h,tn i h->∀b∈fp,∃o,h.get? b=some o/\∀v,o.data≠ .cell v
 keep:∀i h h',tn i h->(∀b∈fp,∀o,h.get? b=some o->h'.get? b=some o)->tn i h'
 item:∀ (X:Cx),X.prog=P->X.w=w->X.K=K->X.calm=true->∀ (i:Nat)(pins:List (Addr×Obj))(s:bKQ)(σ:St)(H:Hp)(E:bKN->bKQ->Prop),Inv X pins σ H s->(∀b∈fp,bZj X pins H b)->tn i s.heap->J.go i H->
  bKV (bKX P w) X.A (pyNext (.ref it)) (λr s1=>∃u,r=some u/\
   bKV (bKX P w) X.A (cZz tg (.ref it) u) (λ_ s2=>∃x H',Inv X pins σ H' s2/\zC x u/\J.yld i H x H'/\tn (i+1) s2.heap/\∀b∈fp,H' b=none) E s1) E s
 done:∀ (X:Cx),X.prog=P->X.w=w->X.K=K->X.calm=true->∀ (i:Nat)(pins:List (Addr×Obj))(s:bKQ)(σ:St)(H:Hp)(E:bKN->bKQ->Prop),Inv X pins σ H s->(∀b∈fp,bZj X pins H b)->tn i s.heap->J.stop i H->
  bKV (bKX P w) X.A (pyNext (.ref it)) (λr s1=>r=none/\Inv X pins σ H s1) E s
 self:∀ (A:bYr)(i:Nat)(s:bKQ)(Q:bKN->bKQ->Prop)(E:bKN->bKQ->Prop),tn i s.heap->Q (.ref it) s->bKV (bKX P w) A (pyIter (.ref it)) Q E s
abbrev TI:=St->Hp->(It->Hp->Prop)->Prop
def PIE(X:Cx)(pins:List (Addr×Obj))(σ:St)(tg:Expr)(R:It->Hp->Prop)(a:bKN)(d:bKQ):Prop:=
 ∃ (e:Addr)(c:List Addr)(tn:Nat->Heap->Prop)(J:It)(H':Hp),a= .ref e/\Inv X pins σ H' d/\bWI X.prog X.w X.K tg J c e tn/\tn 0 d.heap/\(∀b∈c,bZj X pins H' b)/\R J H'
def PI(X:Cx)(tg a:Expr)(c:TI):Prop:=
 ∀ (pins:List (Addr×Obj))(s:bKQ)(σ:St)(H:Hp)(R:It->Hp->Prop),Inv X pins σ H s->c σ H R->
  bKV (bKX X.prog X.w) X.A (eval a X.env) (λv b=>bKV (bKX X.prog X.w) X.A (pyIter v) (PIE X pins σ tg R) X.xe b) X.xe s
theorem bVW{M:Model}{A:bYr}{E:bKN->bKQ->Prop}{s:bKQ}{tg:Expr}{it:Addr}{u:bKN}{o:Obj}{n:String}{vs:Array bKN}{Q:Unit->bKQ->Prop}(b:s.heap.get? it=some o)(d:o.cls= .type n)(c:o.data= .fields vs) (e: ["enumerate","zip","dict_itemiterator","dict_reverseitemiterator","odict_iterator","itertools.zip_longest","itertools.pairwise"].contains n=false) (a:Q () s):bKV M A (cZz tg (.ref it) u) Q E s:=by
 unfold cZz;cases tg<;> first
  |exact bKS a
  |(cases u<;> first
    |exact bKS a
    |(refine bKO (wpAny_load b ?_)
      rw[d,c]
      show bKV M A (if(["enumerate","zip","dict_itemiterator","dict_reverseitemiterator","odict_iterator","itertools.zip_longest","itertools.pairwise"].contains n && vs[0]? ==some (bY2 _))=true then _ else _) Q E s
      rw[if_neg (by intro h;rw[e,Bool.false_and]at h;cases h)]
      exact bKS a))
def Itl(K:bKP)(a:Addr):It:=
 ⟨λi H=>∃xs x,SqL K H a xs/\xs[i]? =some x,λi H x H'=>H'=H/\∀xs,SqL K H a xs->xs[i]? =some x,λi H=>∃xs,SqL K H a xs/\xs.length<=i⟩
def Itr(lo:Int)(n:Nat):It:=⟨λi _=>i<n,λi H x H'=>H'=H/\x= .int (lo+i),λi _=>n<=i⟩
theorem bQk{P:bK9}{w:bYf}{K:bKP}{tg:Expr}(a it:Addr):bWI P w K tg (Itl K a) [it] it (λi h=>h.IsListIter it a i) where
 mem:=by simp
 obj:=λi h st b hb=>by
  have e:b=it:=by simpa using hb
  subst e
  obtain⟨o,e,c,d⟩:=st
  exact⟨o,e,λv z=>by rw[d]at z;cases z⟩
 keep:=λi h h' st k=>st.at λo e=>k it (by simp) o e
 item:=by
  intro X hP hw hK hc i pins s σ H E I hf st hg
  subst hP hw hK
  obtain⟨xs,x,hq,hx⟩:=hg
  obtain⟨its,rv,p,hz⟩:=I.list hq
  obtain⟨u,hu,ru⟩:=rv.get hx
  obtain⟨f0,f1,f2,f3,f4,f5⟩:=hf it (by simp)
  refine wpAny_pyNext_list_item st p.isList (x:=u) (by simpa using hu) λh' st' sb=>?_
  have I1:Inv X pins σ H {s with heap:=h'}:=I.turned (t':=s.toks) (λb o hb e=>(sb.2 b hb).trans e) f0 f1 f3 f4 f5
  obtain⟨o,e,c,d⟩:=id st'
  exact⟨u,rfl,bVW (s:={s with heap:=h'}) e c d (by decide) ⟨x,H,I1,ru,⟨rfl,λys hy=>by rw[I.list_inj hy hq];exact hx⟩,st',λb hb=>(hf b hb).1⟩⟩
 done:=by
  intro X hP hw hK hc i pins s σ H E I hf st hg
  subst hP hw hK
  obtain⟨xs,hq,hx⟩:=hg
  obtain⟨its,rv,p,hz⟩:=I.list hq
  obtain⟨f0,f1,f2,f3,f4,f5⟩:=hf it (by simp)
  have hl:=rv.length
  exact wpAny_pyNext_list_end (I.ok.hd hc) st p.isList (by simp;omega) λh' eb=>⟨rfl,I.turned (t':=s.toks) (λb o hb e=>eb b o hb e) f0 f1 f3 f4 f5⟩
 self:=λ_ _ _ _ _ st h=>wpAny_pyIter_listiter st h
theorem aWZ{P:bK9}{w:bYf}{K:bKP}{tg:Expr}(it:Addr)(lo:Int)(n:Nat):bWI P w K tg (Itr lo n) [it] it (λi h=>IsRangeIter h it (lo+(i:Nat)*1) ((n:Int) - (i:Nat)) 1) where
 mem:=by simp
 obj:=λi h st b hb=>by
  have e:b=it:=by simpa using hb
  subst e
  exact⟨_,st,λv z=>by
   have z':Data.fields _=Data.cell v:=z
   cases z'⟩
 keep:=λi h h' st k=>k it (by simp) _ st
 item:=by
  intro X hP hw hK hc i pins s σ H E I hf st hg
  subst hP hw hK
  obtain⟨f0,f1,f2,f3,f4,f5⟩:=hf it (by simp)
  have W:=Walks.range (prog:=X.prog) (w:=X.w) (I.ok.hd hc) it lo 1 n
  refine W.item i s _ _ hg st λv h' tk hv st' kk=>?_
  obtain⟨t,rfl⟩:=hv
  have I1:Inv X pins σ H {s with heap:=h',toks:=tk}:=I.turned (λb o hb e=>kk b o (by simpa using hb) e) f0 f1 f3 f4 f5
  refine⟨_,rfl,bVW (s:={s with heap:=h',toks:=tk}) (n:="range_iterator") st' rfl rfl (by decide) ⟨.int (lo+i),H,I1,⟨t,?_⟩,⟨rfl,rfl⟩,st',λb hb=>(hf b hb).1⟩⟩
  rw[Int.mul_one]
 done:=by
  intro X hP hw hK hc i pins s σ H E I hf st hg
  subst hP hw hK
  obtain⟨f0,f1,f2,f3,f4,f5⟩:=hf it (by simp)
  exact wpAny_pyNext_range_end (I.ok.hd hc) st (by have:n<=i:=hg;omega) λh' eb=>⟨rfl,I.turned (t':=s.toks) (λb o hb e=>eb b o hb e) f0 f1 f3 f4 f5⟩
 self:=λ_ _ _ _ _ st h=>wpAny_pyIter_rangeiter st h
end L2
namespace L2
open PySem PySem.Spec PyProof.Rows
section
variable {X:Cx}{tg:Expr}
def bW0(K:bKP)(tl:TE):TI:=λσ H R=>tl σ H λx H1=>∃a,x= .ref a/\(∃xs,SqL K H1 a xs)/\R (Itl K a) H1
theorem xI{l:Expr}{tl:TE}(hl:PE X l tl):PI X tg l (bW0 X.K tl):=by
 intro pins s σ H R I h;refine thn (hl pins s σ H _ I h) λv s1 ⟨x,H1,I1,r1,q1⟩=>?_;obtain⟨a,e,⟨xs,c⟩,q⟩:=q1;subst e;cases r1;obtain⟨d,g,p,i⟩:=I1.list c;refine cZ1 p.isList ?_;refine⟨s1.heap.objs.size,[s1.heap.objs.size],_,_,H1,rfl,I1.kept (t':=s1.toks) λb o e=>bKR _ e,bQk a _,⟨_,bYg _ rfl,rfl,rfl⟩,λb f=>?_,q⟩;have e:b=s1.heap.objs.size:=by simpa using f
 subst e;exact I1.fpOk (bKU _) (I1.hok.fresh (bKU _))
theorem bXx{pins:List (Addr×Obj)}{σ:St}{H:Hp}{s:bKQ}{R:It->Hp->Prop}{E:bKN->bKQ->Prop}{lo hi:Int}{t u v:Tok}{tk:Nat}(I:Inv X pins σ H s)(h1: -(2 ^ 62)<=lo)(h2:lo<2 ^ 62)(d: -(2 ^ 62)<=hi)(f:hi<2 ^ 62) (q:R (Itr lo (hi - lo).toNat) H):bKV (bKX X.prog X.w) X.A (pyIter (.ref s.heap.objs.size)) (PIE X pins σ tg R) E {s with heap:=s.heap.push {cls:= .type "range",data:= .fields #[.int lo t,.int hi u,.int 1 v] },toks:=tk}:=by
 refine wpAny_pyIter_range (IsRange.new ..) (small_one h1 h2 d f) ?_;have a:Inv X pins σ H {s with heap:=s.heap.push {cls:= .type "range",data:= .fields #[.int lo t,.int hi u,.int 1 v] },toks:=tk}:=I.kept λb o e=>bKR _ e;refine⟨(s.heap.push {cls:= .type "range",data:= .fields #[.int lo t,.int hi u,.int 1 v] }).objs.size,[(s.heap.push {cls:= .type "range",data:= .fields #[.int lo t,.int hi u,.int 1 v] }).objs.size],_,_,H,rfl,a.kept (t':=tk) λb o e=>bKR _ e,aWZ _ lo (hi - lo).toNat,?_,λb h=>?_,q⟩
 ·have g:lo+((0:Nat):Int)*1=lo:=by simp
  have c:(((hi - lo).toNat:Nat):Int) - ((0:Nat):Int)=Builtin.Range.rangeSize lo hi 1:=by rw[rangeSize_one];split<;> omega
  show IsRangeIter _ _ (lo+((0:Nat):Int)*1) ((((hi - lo).toNat:Nat):Int) - ((0:Nat):Int)) 1;rw[g,c];exact bYg _ rfl
 ·have e:b=(s.heap.push {cls:= .type "range",data:= .fields #[.int lo t,.int hi u,.int 1 v] }).objs.size:=by simpa using h
  subst e;exact a.fpOk (bKU _) (a.hok.fresh (bKU _))
def bW1(ta:TA):TI:=λσ H R=>ta σ H λa H1=>∃j:Int,a= [.int j]/\ -(2 ^ 62)<=j/\j<2 ^ 62/\R (Itr 0 j.toNat) H1
theorem zN{a:Expr}{ta:TA}{p pos:Pos}(i:Gl X "range")(d:X.mg "range"=none)(g:PA X [a] ta)(f:bYp [a] X.env= [(false,eval a X.env)]:=by rfl):PI X tg (.Call (.Name "range" p) [a] [] pos) (bW1 ta):=by
 intro pins s σ H R I h;refine Call_ (aQ3 I i d boot_range (cXO (thn (g pos pins s σ H _ I h) λus s1 ⟨vs,H1,I1,r1,b⟩=>?_) f rfl));obtain⟨j,e,b,c,q⟩:=b;subst e;cases r1 with
 |cons r k=>cases k;obtain⟨t,rfl⟩:=r;exact call_range_1 (bXx I1 (by omega) (by omega) b c (by simpa using q))
def bKI(d:TI)(g:TG)(tb:TS):TS:=λD σ H=>d σ H λJ H1=>∃W:Nat->Nat->St->Hp->Prop,(∃m,W 0 m σ H1)/\∀i m σ H,W i m σ H->
 (J.stop i H/\D.nx σ H)\/(J.go i H/\∃N:St->Hp->Prop,(∀a H',N a H'->∃c,c<m/\W (i+1) c a H')/\∀x H',J.yld i H x H'->g x σ H' λb H2=>tb {D with nx:=N,ct:=N,bk:=D.nx} b H2)
def aZw(a:List Addr)(h:Heap):List (Addr×Obj):=a.filterMap λb=>(h.get? b).map λo=>(b,o)
theorem uZ{a:List Addr}{h:Heap}{b:Addr}{o:Obj}(c:b∈a)(e:h.get? b=some o):(b,o)∈aZw a h:=List.mem_filterMap.mpr ⟨b,c,by rw[e];rfl⟩
theorem aKT{a:List Addr}{h:Heap}{p:Addr×Obj}(d:p∈aZw a h):p.1∈a/\h.get? p.1=some p.2:=by
 obtain⟨b,c,e⟩:=List.mem_filterMap.mp d;cases q:h.get? b with
 |none=>rw[q]at e;cases e
 |some o=>rw[q]at e;have f:(b,o)=p:=bK8 e;subst f;exact⟨c,q⟩
theorem Inv.pinned{pins:List (Addr×Obj)}{σ:St}{H:Hp}{s:bKQ}{a:List Addr}(I:Inv X pins σ H s)(l:∀b∈a,bZj X pins H b)(h:∀b∈a,∃o,s.heap.get? b=some o/\∀v,o.data≠ .cell v):Inv X (pins++aZw a s.heap) σ H s:=
 I.pins_of λp g=>(bYs.mp g).elim (λz=>I.pin p (bYa _ z)) λz=>by obtain⟨c,e⟩:=aKT z;obtain⟨j,k,i,_⟩:=l p.1 c;obtain⟨o,f,d⟩:=h p.1 c;rw[e]at f;cases f;exact⟨e,j,k,i,d⟩
theorem Inv.unpinned{pins pl:List (Addr×Obj)}{σ:St}{H:Hp}{s:bKQ}(I:Inv X (pins++pl) σ H s):Inv X pins σ H s:=I.pins_of λp a=>I.pin p (bYa _ (cQG _ a))
theorem wE{j:Expr}{body:List Stmt}{U:TI}{g:TG}{tb:TS}{pos:Pos}(K:PassesOwn (bKX X.prog X.w) X.A X.env X.xe)(S:X.calm=true)(hi:PI X tg j U)(hg:PG X tg g)(q:PSs X body tb) (hs:∀x,cZ0 j X.env x=pure x:=by intro _;rfl):PS X (.For tg j body [] pos) (bKI U g tb):=by
 intro pins s σ H D I h;refine wpAny_For (thn (hi pins s σ H _ I h) λv s1 h1=>thn h1 λa0 s2 h2=>?_) hs;obtain⟨it,G,tn,J,H2,e,Z,T,P,R,W,⟨m0,w0⟩,turn⟩:=h2;subst e;have l:∀ {H':Hp},(∀b∈G,H' b=none)->∀b∈G,bZj X pins H' b:=λhn b q=>⟨hn b q,(R b q).2⟩;refine codeAny_forLoop_any (λn s'=>∃i k H',Inv X pins k H' s'/\tn i s'.heap/\(∀b∈G,H' b=none)/\W i n k H') ?_ m0 ⟨0,σ,H2,Z,P,λb q=>(R b q).1,w0⟩;rintro n Q ⟨i,y,L,V,F,C,w3⟩;rcases turn i n y L w3 with⟨E,qn⟩|⟨go,N,Y,step⟩
 ·refine cXa K (thn (T.done X rfl rfl rfl S i pins Q y L X.xe V (l C) F E) λr s4 ⟨hr,I4⟩=>?_);subst hr;exact cZA ⟨y,L,I4,qn⟩
 ·refine cXa K (thn (T.item X rfl rfl rfl S i pins Q y L X.xe V (l C) F go) λr s4 ⟨u,hr,h4⟩=>?_);subst hr;refine cXa K (thn h4 λ_ s5 ⟨x,H5,I5,r5,y5,st5,fr5⟩=>?_);have O:=I5.pinned (l fr5) (T.obj _ _ st5);refine cXa K (thn (hg _ s5 y H5 x u _ O r5 (step x H5 y5)) λ_ s6 ⟨σ6,H6,I6,q6⟩=>?_);refine cXa K (thn (q _ s6 σ6 H6 _ I6 q6) λf M z=>?_);have c:∀ {a:St} {t:Hp},Inv X (pins++aZw G s5.heap) a t M->N a t->∃m,m<n/\∃i k H',Inv X pins k H' M/\tn i M.heap/\(∀b∈G,H' b=none)/\W i m k H':=λ{a t} p B=>by
   obtain⟨m',hm,w7⟩:=Y a t B;refine⟨m',hm,i+1,a,t,p.unpinned,T.keep _ _ _ st5 λb q o e=>(p.pin (b,o) (bYa _ (bYa _ (uZ q e)))).1,λb q=>?_,w7⟩;obtain⟨o,e,d⟩:=T.obj _ _ st5 b q;exact(p.pin (b,o) (bYa _ (bYa _ (uZ q e)))).2.1
  cases f with
  |next=>obtain⟨a,t,p,B⟩:=z;exact c p B
  |cont=>obtain⟨a,t,p,B⟩:=z;exact c p B
  |brk=>obtain⟨a,t,p,z⟩:=z;exact⟨a,t,p.unpinned,z⟩
  |ret v=>obtain⟨x7,a,t,p,r7,z⟩:=z;exact⟨x7,a,t,p.unpinned,r7,z⟩
end
theorem zI{K:bKP}{a:Addr}{xs:List V}{g:TG}{tb:TS}{D:aW1}{σ:St}{H:Hp}(b:Nat->St->Hp->Prop)(h0:b 0 σ H)(hl:∀i σ H,i<=xs.length->b i σ H->SqL K H a xs) (l:∀i x σ H,xs[i]? =some x->b i σ H->g x σ H λc H2=>tb {D with nx:=b (i+1),ct:=b (i+1),bk:=D.nx} c H2) (k:∀σ H,b xs.length σ H->D.nx σ H): ∃W:Nat->Nat->St->Hp->Prop,(∃m,W 0 m σ H)/\∀i m σ H,W i m σ H-> ((Itl K a).stop i H/\D.nx σ H)\/((Itl K a).go i H/\∃N:St->Hp->Prop,(∀d H',N d H'->∃h,h<m/\W (i+1) h d H')/\∀x H',(Itl K a).yld i H x H'->g x σ H' λc H2=>tb {D with nx:=N,ct:=N,bk:=D.nx} c H2):=by
 refine⟨λi m σ H=>m=xs.length - i/\i<=xs.length/\b i σ H,⟨xs.length,by simp,bYJ _,h0⟩,?_⟩;rintro i m σ H ⟨rfl,hi,p⟩;have q:=hl i σ H hi p;by_cases f:i<xs.length
 ·refine .inr ⟨⟨xs,xs[i],q,by simp[f]⟩,b (i+1),λd H' j=>⟨xs.length - (i+1),by omega,rfl,f,j⟩,λx H' y=>?_⟩;obtain⟨e,y⟩:=y;subst e;exact l i x σ _ (y xs q) p
 ·have e:i=xs.length:=by omega
  subst e;exact .inl ⟨⟨xs,q,bKU _⟩,k σ H p⟩
theorem vK{lo:Int}{n:Nat}{g:TG}{tb:TS}{D:aW1}{σ:St}{H:Hp}(d:Nat->St->Hp->Prop)(h0:d 0 σ H) (k:∀i σ H,i<n->d i σ H->g (.int (lo+i)) σ H λb H2=>tb {D with nx:=d (i+1),ct:=d (i+1),bk:=D.nx} b H2) (j:∀σ H,d n σ H->D.nx σ H): ∃W:Nat->Nat->St->Hp->Prop,(∃m,W 0 m σ H)/\∀i m σ H,W i m σ H-> ((Itr lo n).stop i H/\D.nx σ H)\/((Itr lo n).go i H/\∃N:St->Hp->Prop,(∀c H',N c H'->∃f,f<m/\W (i+1) f c H')/\∀x H',(Itr lo n).yld i H x H'->g x σ H' λb H2=>tb {D with nx:=N,ct:=N,bk:=D.nx} b H2):=by
 refine⟨λi m σ H=>m=n - i/\i<=n/\d i σ H,⟨n,by simp,bYJ _,h0⟩,?_⟩;rintro i m σ H ⟨rfl,hi,p⟩;by_cases a:i<n
 ·refine .inr ⟨a,d (i+1),λc H' h=>⟨n - (i+1),by omega,rfl,a,h⟩,λx H' y=>?_⟩;obtain⟨e,y⟩:=y;subst e y;exact k i σ _ a p
 ·have e:i=n:=by omega
  subst e;exact .inl ⟨bKU _,j σ H p⟩
end L2
namespace L2
open PySem PySem.Spec PyProof.Rows
abbrev R2:=V->V->Hp->VK->Prop
def OpR(X:Cx)(f:bKN->bKN->Sem bKN)(r:R2):Prop:=
 ∀ (pins:List (Addr×Obj))(s:bKQ)(σ:St)(H:Hp)(x y:V)(v u:bKN)(Q:VK),Inv X pins σ H s->zC x v->zC y u->r x y H Q->
  bKV (bKX X.prog X.w) X.A (f v u) (EP X pins σ Q) X.xe s
def UnR(X:Cx)(f:bKN->Sem bKN)(r:V->Hp->VK->Prop):Prop:=
 ∀ (pins:List (Addr×Obj))(s:bKQ)(σ:St)(H:Hp)(x:V)(v:bKN)(Q:VK),Inv X pins σ H s->zC x v->r x H Q->
  bKV (bKX X.prog X.w) X.A (f v) (EP X pins σ Q) X.xe s
def jM(X:Cx)(f:bKN)(r:List V->Hp->VK->Prop):Prop:=
 ∀ (pins:List (Addr×Obj))(s:bKQ)(σ:St)(H:Hp)(xs:List V)(a:List bKN)(Q:VK),Inv X pins σ H s->xS xs a->r xs H Q->
  bKV (bKX X.prog X.w) X.A (call f a) (EP X pins σ Q) X.xe s
def tOp(r:R2)(ta tb:TE):TE:=λσ H Q=>ta σ H λx H1=>tb σ H1 λy H2=>r x y H2 Q
def tUn(r:V->Hp->VK->Prop)(ta:TE):TE:=λσ H Q=>ta σ H λx H1=>r x H1 Q
def rI(C:Int->Int->Prop)(g:Int->Int->V):R2:=λx y H Q=>∃i j,x= .int i/\y= .int j/\C i j/\Q (g i j) H
def rI0(g:Int->Int->V):R2:=λx y H Q=>∃i j,x= .int i/\y= .int j/\Q (g i j) H
def rU(g:Int->V):V->Hp->VK->Prop:=λx H Q=>∃i,x= .int i/\Q (g i) H
section
variable {X:Cx}{a b c:Expr}{ta tb tc:TE}{pos:Pos}
theorem bWW(g:PE X a ta)(i:PE X b tb){pins:List (Addr×Obj)}{s:bKQ}{σ:St}{H:Hp}{R:V->V->Hp->Prop}(I:Inv X pins σ H s) (h:ta σ H λx H1=>tb σ H1 λy H2=>R x y H2) {Q:bKN->bKQ->Prop} {f:bKN->bKN->Sem bKN} (j:∀v u e x y H2,Inv X pins σ H2 e->zC x v->zC y u->R x y H2->bKV (bKX X.prog X.w) X.A (f v u) Q X.xe e): bKV (bKX X.prog X.w) X.A (eval a X.env) (λv d=>bKV (bKX X.prog X.w) X.A (eval b X.env) (λu c=>bKV (bKX X.prog X.w) X.A (f v u) Q X.xe c) X.xe d) X.xe s:=by
 refine thn (g pins s σ H _ I h) λv s1 ⟨x,H1,I1,r1,q1⟩=>?_;refine thn (i pins s1 σ H1 _ I1 q1) λu e ⟨y,H2,I2,r2,q2⟩=>?_;exact j v u e x y H2 I2 r1 r2 q2
theorem yV{op:Operator}{r:R2}(e:OpR X (cXs op) r)(f:PE X a ta)(j:PE X b tb):PE X (.BinOp a op b pos) (tOp r ta tb):=by
 intro pins s σ H Q I h;exact wpAny_BinOp (bWW f j I h λv u g x y H2 d c i q=>e pins g σ H2 x y v u Q d c i q)
theorem aYe{op:UnaryOp}{r:V->Hp->VK->Prop}(b:UnR X (unaryOp op) r)(c:PE X a ta):PE X (.UnaryOp op a pos) (tUn r ta):=by
 intro pins s σ H Q I h;exact UnaryOp_ (thn (c pins s σ H _ I h) λv s1 ⟨x,H1,I1,r1,q1⟩=>b pins s1 σ H1 x v Q I1 r1 q1)
theorem opI{f:bKN->bKN->Sem bKN}{C:Int->Int->Prop}{g:Int->Int->Int} (a:∀ (i j:Int)(t u:Tok)(s:bKQ)(Q:bKN->bKQ->Prop)(E:bKN->bKQ->Prop),C i j->Q (.int (g i j) s.toks) {s with toks:=s.toks+1}->bKV (bKX X.prog X.w) X.A (f (.int i t) (.int j u)) Q E s): OpR X f (rI C λi j=> .int (g i j)):=by
 intro pins s σ H x y v u Q I b d h;obtain⟨i,j,rfl,rfl,e,q⟩:=h;obtain⟨t,rfl⟩:=b;obtain⟨c,rfl⟩:=d;exact a i j t c s _ _ e ⟨.int (g i j),H,I.tok _,⟨_,rfl⟩,q⟩
theorem bKm{f:bKN->bKN->Sem bKN}{g:Int->Int->Int} (a:∀ (i j:Int)(t u:Tok)(s:bKQ)(Q:bKN->bKQ->Prop)(E:bKN->bKQ->Prop),Q (.int (g i j) s.toks) {s with toks:=s.toks+1}->bKV (bKX X.prog X.w) X.A (f (.int i t) (.int j u)) Q E s): OpR X f (rI0 λi j=> .int (g i j)):=by
 intro pins s σ H x y v u Q I b d h;obtain⟨i,j,rfl,rfl,q⟩:=h;obtain⟨t,rfl⟩:=b;obtain⟨c,rfl⟩:=d;exact a i j t c s _ _ ⟨.int (g i j),H,I.tok _,⟨_,rfl⟩,q⟩
theorem bWK{f:bKN->bKN->Sem bKN}{g:Int->Int->Bool} (a:∀ (i j:Int)(t u:Tok)(s:bKQ)(Q:bKN->bKQ->Prop)(E:bKN->bKQ->Prop),Q (.bool (g i j)) s->bKV (bKX X.prog X.w) X.A (f (.int i t) (.int j u)) Q E s): OpR X f (rI0 λi j=> .bl (g i j)):=by
 intro pins s σ H x y v u Q I b d h;obtain⟨i,j,rfl,rfl,q⟩:=h;obtain⟨t,rfl⟩:=b;obtain⟨c,rfl⟩:=d;exact a i j t c s _ _ ⟨.bl (g i j),H,I,rfl,q⟩
def bKu(i j:Int):Prop:=0<j/\j<1073741824
def bKi(i j:Int):Prop:=0<=j/\j<=1000000/\i.natAbs<2 ^ 64
def bWQ(i j:Int):Prop:=(-(2 ^ 64)<i/\i<2 ^ 64)\/(-(2 ^ 64)<j/\j<2 ^ 64)
theorem bWQ.ok{i j:Int}(h:bWQ i j):IntMulOk i j:=by
 rcases h with⟨h1,h2⟩|⟨h1,h2⟩
 ·exact .of_left (intBits_le_64 h1 h2)
 ·exact .of_right (intBits_le_64 h1 h2)
theorem x8:OpR X (cXs .Add) (rI0 λi j=> .int (i+j)):=bKm λ_ _ _ _ _ _ _ q=>add_int q
theorem wT:OpR X (cXs .Sub) (rI0 λi j=> .int (i - j)):=bKm λ_ _ _ _ _ _ _ q=>sub_int q
theorem aVf:OpR X (cXs .Mult) (rI bWQ λi j=> .int (i*j)):=opI λ_ _ _ _ _ _ _ a q=>mul_int q a.ok
theorem Y2:OpR X (cXs .FloorDiv) (rI bKu λi j=> .int (i / j)):=opI λi j _ _ _ _ _ a q=>by
 have h1:(0:Int)<j:=a.1;have h2:j<1073741824:=a.2;exact floordiv_int (by omega) (by rw[Int.fdiv_eq_ediv_of_nonneg i (by omega)];exact q) (.inl (PyProof.noPylong_small (by omega)))
theorem y0:OpR X (cXs .Mod) (rI (λ_ j=>0<j) λi j=> .int (i % j)):=opI λi j _ _ _ _ _ a q=>by
 have h1:(0:Int)<j:=a;exact mod_int' (by omega) (by rw[Int.fmod_eq_emod_of_nonneg i (by omega)];exact q)
theorem aQi:OpR X (cXs .Pow) (rI bKi λi j=> .int (i ^ j.toNat)):=opI λ_ _ _ _ _ _ _ a q=>pow_int_small a.1 a.2.1 a.2.2 q
theorem unI{f:bKN->Sem bKN}{g:Int->Int} (a:∀ (i:Int)(t:Tok)(s:bKQ)(Q:bKN->bKQ->Prop)(E:bKN->bKQ->Prop),Q (.int (g i) s.toks) {s with toks:=s.toks+1}->bKV (bKX X.prog X.w) X.A (f (.int i t)) Q E s): UnR X f (rU λi=> .int (g i)):=by
 intro pins s σ H x v Q I b h;obtain⟨i,rfl,q⟩:=h;obtain⟨t,rfl⟩:=b;exact a i t s _ _ ⟨.int (g i),H,I.tok _,⟨_,rfl⟩,q⟩
theorem aZQ:UnR X (unaryOp .USub) (rU λi=> .int (-i)):=unI λ_ _ _ _ _ q=>neg_int q
end
def bKo:V->V->Bool
 |.non,.non=>true|.non,.int _=>true|.int _,.non=>true|.non,.bl _=>true|.bl _,.non=>true|.non,.str _=>true|.str _,.non=>true
 |.int _,.int _=>true|.bl _,.bl _=>true|.str _,.str _=>true|.byt _,.byt _=>true
 |.int _,.str _=>true|.str _,.int _=>true|.bl _,.str _=>true|.str _,.bl _=>true
 |_,_=>false
def rEq:R2:=λx y H Q=>bKo x y=true/\Q (.bl (decide (x=y))) H
def rNe:R2:=λx y H Q=>bKo x y=true/\Q (.bl (!decide (x=y))) H
theorem aKh{i j:Int}:decide (V.int i=V.int j)=(i==j):=by
 rw[Bool.eq_iff_iff];simp
theorem bZp{i j:Bool}:decide (V.bl i=V.bl j)=(i==j):=by
 rw[Bool.eq_iff_iff];simp
theorem aKi{i j:Str}:decide (V.str i=V.str j)=(i==j):=by
 rw[Bool.eq_iff_iff];simp
theorem aKg{i j:Array UInt8}:decide (V.byt i=V.byt j)=(i.toList==j.toList):=by
 rw[Bool.eq_iff_iff];cases i;cases j;simp
section
variable {X:Cx}{a b c:Expr}{ta tb tc:TE}{pos:Pos}
theorem xO{pins:List (Addr×Obj)}{σ:St}{H:Hp}{s:bKQ}{Q:VK}{k a:Bool}(I:Inv X pins σ H s)(q:Q (.bl k) H)(e:k=a):EP X pins σ Q (.bool a) s:=by
 subst e;exact⟨.bl k,H,I,rfl,q⟩
theorem x5:OpR X (cQh .Eq) rEq:=by
 intro pins s σ H x y v u Q I d a h;obtain⟨c,q⟩:=h;cases x with
 |non=>
  cases d;cases y with
  |non=>cases a;exact PySem.EqNone.eq_none_none (xO I q (by simp))
  |bl j=>cases a;exact PySem.EqNone.eq_none_bool (xO I q (by simp))
  |int j=>obtain⟨b,rfl⟩:=a;exact PySem.EqNone.eq_none_int (xO I q (by simp))
  |str j=>obtain⟨b,rfl⟩:=a;exact PySem.EqNone.eq_none_str (xO I q (by simp))
  |_=>exact absurd (show false=true from c) Bool.false_ne_true
 |bl i=>
  cases d;cases y with
  |non=>cases a;exact PySem.EqNone.eq_bool_none (xO I q (by simp))
  |bl j=>cases a;exact eq_bool (xO I q bZp)
  |str j=>obtain⟨b,rfl⟩:=a;exact PySem.EqMixed.eq_bool_str (xO I q (by simp))
  |_=>exact absurd (show false=true from c) Bool.false_ne_true
 |int i=>
  obtain⟨t,rfl⟩:=d;cases y with
  |non=>cases a;exact PySem.EqNone.eq_int_none (xO I q (by simp))
  |int j=>obtain⟨b,rfl⟩:=a;exact eq_int (xO I q aKh)
  |str j=>obtain⟨b,rfl⟩:=a;exact PySem.EqMixed.eq_int_str (xO I q (by simp))
  |_=>exact absurd (show false=true from c) Bool.false_ne_true
 |str i=>
  obtain⟨t,rfl⟩:=d;cases y with
  |non=>cases a;exact PySem.EqNone.eq_str_none (xO I q (by simp))
  |bl j=>cases a;exact PySem.EqMixed.eq_str_bool (xO I q (by simp))
  |int j=>obtain⟨b,rfl⟩:=a;exact PySem.EqMixed.eq_str_int (xO I q (by simp))
  |str j=>obtain⟨b,rfl⟩:=a;exact eq_str (xO I q aKi)
  |_=>exact absurd (show false=true from c) Bool.false_ne_true
 |byt i=>
  obtain⟨t,rfl⟩:=d;cases y with
  |byt j=>obtain⟨b,rfl⟩:=a;exact PySem.W.eq_bytes (xO I q aKg)
  |_=>exact absurd (show false=true from c) Bool.false_ne_true
 |_=>cases y<;> exact absurd (show false=true from c) Bool.false_ne_true
theorem aZs:OpR X (cQh .NotEq) rNe:=by
 intro pins s σ H x y v u Q I d a h;obtain⟨c,q⟩:=h;cases x with
 |non=>
  cases d;cases y with
  |non=>cases a;exact PySem.EqNone.ne_none_none (xO I q (by simp))
  |bl j=>cases a;exact PySem.EqNone.ne_none_bool (xO I q (by simp))
  |int j=>obtain⟨b,rfl⟩:=a;exact PySem.EqNone.ne_none_int (xO I q (by simp))
  |str j=>obtain⟨b,rfl⟩:=a;exact PySem.EqNone.ne_none_str (xO I q (by simp))
  |_=>exact absurd (show false=true from c) Bool.false_ne_true
 |bl i=>
  cases d;cases y with
  |non=>cases a;exact PySem.EqNone.ne_bool_none (xO I q (by simp))
  |bl j=>cases a;exact ne_bool (xO I q (congrArg not bZp))
  |str j=>obtain⟨b,rfl⟩:=a;exact PySem.EqMixed.ne_bool_str (xO I q (by simp))
  |_=>exact absurd (show false=true from c) Bool.false_ne_true
 |int i=>
  obtain⟨t,rfl⟩:=d;cases y with
  |non=>cases a;exact PySem.EqNone.ne_int_none (xO I q (by simp))
  |int j=>obtain⟨b,rfl⟩:=a;exact ne_int (xO I q (congrArg not aKh))
  |str j=>obtain⟨b,rfl⟩:=a;exact PySem.EqMixed.ne_int_str (xO I q (by simp))
  |_=>exact absurd (show false=true from c) Bool.false_ne_true
 |str i=>
  obtain⟨t,rfl⟩:=d;cases y with
  |non=>cases a;exact PySem.EqNone.ne_str_none (xO I q (by simp))
  |bl j=>cases a;exact PySem.EqMixed.ne_str_bool (xO I q (by simp))
  |int j=>obtain⟨b,rfl⟩:=a;exact PySem.EqMixed.ne_str_int (xO I q (by simp))
  |str j=>obtain⟨b,rfl⟩:=a;exact ne_str (xO I q (congrArg not aKi))
  |_=>exact absurd (show false=true from c) Bool.false_ne_true
 |byt i=>
  obtain⟨t,rfl⟩:=d;cases y with
  |byt j=>obtain⟨b,rfl⟩:=a;exact PySem.W.ne_bytes (xO I q (congrArg not aKg))
  |_=>exact absurd (show false=true from c) Bool.false_ne_true
 |_=>cases y<;> exact absurd (show false=true from c) Bool.false_ne_true
theorem vE:OpR X (cQh .Lt) (rI0 λi j=> .bl (decide (i<j))):=bWK λ_ _ _ _ _ _ _ q=>lt_int q
theorem aK9:OpR X (cQh .LtE) (rI0 λi j=> .bl (decide (i<=j))):=bWK λ_ _ _ _ _ _ _ q=>le_int q
theorem aQV:OpR X (cQh .Gt) (rI0 λi j=> .bl (decide (j<i))):=bWK λ_ _ _ _ _ _ _ q=>gt_int q
theorem bW5:OpR X (cQh .GtE) (rI0 λi j=> .bl (decide (j<=i))):=bWK λ_ _ _ _ _ _ _ q=>ge_int q
theorem aVe:OpR X (cQh .Is) (λx y H Q=>y= .non/\Q (.bl (decide (x= .non))) H):=by
 intro pins s σ H x y v u Q I a b h;obtain⟨rfl,q⟩:=h;cases b;refine is_none_gen (xO I q ?_);cases x<;> first
  |(cases a;rfl)
  |(obtain⟨t,rfl⟩:=a;rfl)
theorem wG:OpR X (cQh .IsNot) (λx y H Q=>y= .non/\Q (.bl (!decide (x= .non))) H):=by
 intro pins s σ H x y v u Q I a b h;obtain⟨rfl,q⟩:=h;cases b;refine isnot_none_gen (xO I q ?_);cases x<;> first
  |(cases a;rfl)
  |(obtain⟨t,rfl⟩:=a;rfl)
theorem bZC(b:Expr){op:CmpOp}(h:op≠ .In:=by decide)(h2:op≠ .NotIn:=by decide):cXz op b=false:=by
 have a:(op==CmpOp.In)=false:=by cases op<;> first|rfl|exact absurd rfl h
 have c:(op==CmpOp.NotIn)=false:=by cases op<;> first|rfl|exact absurd rfl h2
 cases b<;> simp[cXz,a,c]
theorem zG{op:CmpOp}{r:R2}(f:OpR X (cQh op) r)(g:PE X a ta)(k:PE X b tb)(e:cXz op b=false:=by first|exact bZC _|with_unfolding_all rfl):PE X (.Compare a [op] [b] pos) (tOp r ta tb):=by
 intro pins s σ H Q I h;exact wpAny_Compare1 (bWW g k I h λv u i x y H2 d c j q=>f pins i σ H2 x y v u Q d c j q) e
def bWB(t:TE):TT:=λσ H Q=>t σ H λx H'=>∃k,x= .bl k/\Q k H'
theorem yN{op:CmpOp}{r:R2}(d:OpR X (cQh op) r)(g:PE X a ta)(f:PE X b tb)(i:cXz op b=false:=by first|exact bZC _|with_unfolding_all rfl):PT X (.Compare a [op] [b] pos) (bWB (tOp r ta tb)):=by
 intro pins s σ H Q I h;refine wpAny_isTrue_Compare1 (thn (g pins s σ H _ I h) λv s1 ⟨x,H1,I1,r1,q1⟩=>thn (f pins s1 σ H1 _ I1 q1) λu s2 ⟨y,H2,I2,r2,q2⟩=>
  thn (d pins s2 σ H2 x y v u _ I2 r1 r2 q2) λc s3 ⟨z,H3,I3,r3,k,e,q3⟩=>?_) i
 subst e;cases r3;exact cQK ⟨H3,I3,q3⟩
def bWz(r d:R2)(ta tb tc:TE):TE:=λσ H Q=>ta σ H λx H1=>tb σ H1 λy H2=>r x y H2 λz a=>∃k,z= .bl k/\
 (if k=true then tc σ a λc b=>d y c b Q else Q (.bl false) a)
theorem bXv{op f:CmpOp}{r i:R2}(m:OpR X (cQh op) r)(g:OpR X (cQh f) i)(n:PE X a ta)(o:PE X b tb)(p:PE X c tc) (l:lastMarks [op,f] [b,c]=false:=by with_unfolding_all rfl):PT X (.Compare a [op,f] [b,c] pos) (bWB (bWz r i ta tb tc)):=by
 intro pins s σ H Q I h;refine isTrue_chain (thn (n pins s σ H _ I h) λv s1 ⟨x,H1,I1,r1,q1⟩=>test_link (thn (o pins s1 σ H1 _ I1 q1) λu s2 ⟨y,H2,I2,r2,q2⟩=>
  thn (m pins s2 σ H2 x y v u _ I2 r1 r2 q2) λd s3 ⟨z,H3,I3,r3,k,e,q3⟩=>?_)) l
 subst e;cases r3;refine cQK ?_;cases k with
 |false=>obtain⟨t,q,j⟩:=q3;cases q;exact ite_ff ⟨H3,I3,j⟩
 |true=>refine ite_tt (test_last (thn (p pins s3 σ H3 _ I3 q3) λw' s4 ⟨z',H4,I4,r4,q4⟩=>thn (g pins s4 σ H4 y z' u w' _ I4 r2 r4 q4) λd' s5 ⟨z2,H5,I5,r5,k2,e2,q5⟩=>?_));subst e2;cases r5;exact cQK ⟨H5,I5,q5⟩
theorem aZm:(bYd:Nat)<2 ^ 63:=by rw[bYm];decide
theorem aQ4:OpR X (cXs .Add) (λx y H Q=>∃i j,x= .str i/\y= .str j/\i.length+j.length<=bYd/\Q (.str (i++j)) H):=by
 intro pins s σ H x y v u Q I a d h;obtain⟨i,j,rfl,rfl,b,q⟩:=h;obtain⟨t,rfl⟩:=a;obtain⟨c,rfl⟩:=d;exact add_str (λc tk=>⟨.str (i++j),H,I.tok _,⟨_,rfl⟩,q⟩) b
theorem aQL{x:V}{us:List bKN}(r:xS [x] us):∃u,us= [u]/\zC x u:=by
 cases r with
 |cons b a=>cases a;exact⟨_,rfl,b⟩
theorem bWF{x y:V}{us:List bKN}(r:xS [x,y] us):∃u a,us= [u,a]/\zC x u/\zC y a:=by
 cases r with
 |cons c b=>
  cases b with
  |cons e d=>cases d;exact⟨_,_,rfl,c,e⟩
theorem aKa(b:X.calm=true):jM X (.builtin "max") (λxs H Q=>∃i j,xs= [.int i,.int j]/\Q (.int (if j > i then j else i)) H):=by
 intro pins s σ H xs e Q I r h;obtain⟨i,j,rfl,q⟩:=h;obtain⟨u,c,rfl,⟨t,rfl⟩,⟨d,rfl⟩⟩:=bWF r;refine max_two_ints (I.ok.hd b) λh' tk k=>⟨_,H,I.kept k,?_,q⟩;by_cases a:j > i
 ·rw[if_pos a,if_pos a];exact⟨_,rfl⟩
 ·rw[if_neg a,if_neg a];exact⟨_,rfl⟩
theorem aKb(b:X.calm=true):jM X (.builtin "min") (λxs H Q=>∃i j,xs= [.int i,.int j]/\Q (.int (if j<i then j else i)) H):=by
 intro pins s σ H xs e Q I r h;obtain⟨i,j,rfl,q⟩:=h;obtain⟨u,c,rfl,⟨t,rfl⟩,⟨d,rfl⟩⟩:=bWF r;refine min_two_ints (I.ok.hd b) λh' tk k=>⟨_,H,I.kept k,?_,q⟩;by_cases a:j<i
 ·rw[if_pos a,if_pos a];exact⟨_,rfl⟩
 ·rw[if_neg a,if_neg a];exact⟨_,rfl⟩
theorem wQ:jM X (.type "int") (λxs H Q=>(∃i,xs= [.int i]/\Q (.int i) H)\/∃k,xs= [.bl k]/\Q (.int (if k then 1 else 0)) H):=by
 intro pins s σ H xs b Q I r h;rcases h with⟨i,rfl,q⟩|⟨k,rfl,q⟩
 ·obtain⟨u,rfl,t,rfl⟩:=aQL r;exact call_int_int ⟨.int i,H,I,⟨_,rfl⟩,q⟩
 ·obtain⟨u,rfl,a⟩:=aQL r;cases a;exact call_int_bool ⟨.int (if k then 1 else 0),H,I.tok _,⟨_,rfl⟩,q⟩
end
end L2
namespace L2
open PySem PySem.Spec PyProof.Rows
structure bZY(h:Heap)(x dx C:Addr)(mA:Str->Option bKN):Prop where
 obj:h.get? x=some (cQV C dx)
 ns:h.Ns1 dx mA
 ne:dx≠x
theorem aZn{h:Heap}{dx:Addr}{mA:Str->Option bKN}(n:h.Ns1 dx mA):∃c,h.get? dx=some c/\∀name,cZJ name c=some (mA name):=by
 obtain⟨o,es,l,j,g,k,_,f⟩:=n;refine⟨o,j,λname=>?_⟩;have e:=f name;unfold nsFind findBy at e;rw[<- Array.find?_toList]at e;unfold cZJ;rw[g];dsimp only;split
 ·rename_i y q;rw[q]at e;exact congrArg some e
 ·rename_i q;rw[q]at e;have a:es.toList.any (·.refKey)=false:=by
   rw[List.any_eq_false];intro y i;obtain⟨z,t,b⟩:=k y (Array.mem_toList_iff.mp i);simp[DictEntry.refKey,b]
  have d:¬es.toList.any (·.refKey)=true:=by rw[a];exact Bool.false_ne_true
  rw[if_neg d];exact congrArg some e
theorem bZY.look{h:Heap}{x dx C:Addr}{mA:Str->Option bKN}(I:bZY h x dx C mA):∃a,PySem.W.InstAt h x (cQV C dx) C (some a)/\∀name,cZJ name a=some (mA name):=
 let ⟨a,ho,hl⟩:=aZn I.ns
 ⟨a,⟨I.obj,rfl,rfl,ho⟩,hl⟩
section
variable {prog:bK9}{w:bYf}{A:bYr}{E:bKN->bKQ->Prop}{s:bKQ}{K:bKP}{x dx C f:Addr}{mA:Str->Option bKN}{name:Str}{v:bKN}
theorem bJf{a:Bool}{Q:bKN->bKQ->Prop}(X:K.In s.heap)(I:bZY s.heap x dx C mA)(f:cXr K C name=true)(c:cXH K C=true) (d:bYw K (.ref C) name=some none) (e:mA name=some v) (b:PySem.W.handedIn v=true) (h:Q v {s with toks:=s.toks+1}): bKV (bKX prog w) A (getAttr (.ref x) name a) Q E s:=by
 obtain⟨g,J,hl⟩:=I.look;exact PySem.W.get_value X J (cZG f).1 (PySem.W.findObj_own c d rfl (by rw[hl,e])) b h
theorem bQD{pl:Sem Bool}{Q:bKN×List bKN->bKQ->Prop}(X:K.In s.heap)(I:bZY s.heap x dx C mA)(a:cXr K C name=true) (e:bYw K (.ref C) name=some (some (.ref f))) (c:cXq K (.ref f)=true) (d:mA name=none) (h:Q (.ref f,[.ref x]) s): bKV (bKX prog w) A (cZa (.ref x) name pl) Q E s:=by
 obtain⟨b,J,hl⟩:=I.look;exact PySem.W.method_fn X J (cZG a).1 (cZG a).2 e (beq_iff_eq.mp c) (by show(cZJ name b).map (·.isSome)=some false;rw[hl,d];rfl) h
theorem bVm{j:List Str}{Q:Unit->bKQ->Prop}(X:K.In s.heap)(I:bZY s.heap x dx C mA) (n:bYw K (.ref C) "__setattr__"=some (some (.builtin "object.__setattr__"))) (k:cZg K C=true) (l:PySem.W.takerIn K C name=some none) (m:cXH K C=true) (hw:PySem.Within mA j) (hsz:j.length<=bYd) (h:∀h',bZY h' x dx C (λy=>if y=name then some v else mA y)->cQN dx s.heap h'->Q () {s with heap:=h',toks:=s.toks+2}): bKV (bKX prog w) A (setAttr (.ref x) name v) Q E s:=by
 obtain⟨z,J,hl⟩:=I.look;refine PySem.W.set_plain X J n (PySem.W.osa_open (s:={s with toks:=s.toks+1}) (r:=none) X J k l λb=>?_);obtain⟨u,p,f⟩:=PySem.W.any_some m;have q:s.heap.get? x=some ⟨.ref C,some dx,.plain, #[]⟩:=I.obj;refine bKO (bKS (bKO (bKO (wpAny_loadPart q (bKO (PySem.W.Looks.here (s:={s with toks:=s.toks+1}) (PySem.W.looks_clsIn X p) ?_))))));rw[f];refine bKS (a:=some dx) (bKO (bKS (bKO ?_)));refine wpAny_nsSet1 (s:={s with toks:=s.toks+1}) I.ns λh' d c=>?_;obtain⟨B,t,o,e,g,i⟩:=d.count (PySem.Within.cons name v hw);refine bKO (wpAny_lookBehind e (by rw[g];exact pastItsLine_dict (bYo i (by rw[bYM];omega))) ?_);exact bKS (h _ ⟨(c.2 _ (bYv I.ne)).trans I.obj,d,I.ne⟩ c)
theorem bQX{R:Result->bKQ->Prop}{vs:List bKN}{a:List (Str×bKN)}(X:K.In s.heap)(b:PySem.W.makesIn K C=true) (hi:bYw K (.ref C) "__init__"=some (some (.ref f))) (c:PySem.W.typeIn K (.ref f)=some (.type "function")) (h:cQ1 (bKX prog w) (A.under (.builtin "type.__call__" ⟨.ref C::vs,a⟩)) (.call (.ref f) ⟨.ref (s.heap.objs.size+1)::vs,a⟩) (PySem.W.InitBack (s.heap.objs.size+1) R) {s with heap:=(s.heap.push cQu).push (cQV C s.heap.objs.size) }): cQ1 (bKX prog w) A (.call (.ref C) ⟨vs,a⟩) R s:=by
 obtain⟨e,g,d,t,i⟩:=s;exact PySem.W.make_core (PySem.W.makes_of X b) (PySem.W.looks_findIn X hi) (λself=>PySem.W.bind_fn X self c) (.inl rfl) h
end
def aQW(f:Str)(v:V):List (Str×V)->List (Str×V)
 |[]=> [(f,v)]
 |(g,x)::r=>if g=f then(g,v)::r else(g,x)::aQW f v r
theorem aQd(f g:Str)(v:V):∀fs:List (Str×V),(aQW f v fs).lookup g=if g=f then some v else fs.lookup g
 |[]=>by
  show cQ3 g [(f,v)]=_;by_cases h:g=f
  ·have a:(g==f)=true:=beq_iff_eq.mpr h;simp only[cQ3,a,if_pos h]
  ·have a:(g==f)=false:=beq_eq_false_iff_ne.mpr h;simp only[cQ3,a,if_neg h]
 |(k,x)::r=>by
  have c:=aQd f g v r;rw[show aQW f v ((k,x)::r)=(if k=f then(k,v)::r else(k,x)::aQW f v r)from rfl];by_cases b:k=f
  ·rw[if_pos b];by_cases h:g=k
   ·have a:(g==k)=true:=beq_iff_eq.mpr h;simp only[cQ3,a,if_pos (h.trans b)]
   ·have a:(g==k)=false:=beq_eq_false_iff_ne.mpr h;simp only[cQ3,a,if_neg (λe:g=f=>h (e.trans b.symm))]
  ·rw[if_neg b];by_cases h:g=k
   ·have a:(g==k)=true:=beq_iff_eq.mpr h;simp only[cQ3,a,if_neg (λe:g=f=>b (h.symm.trans e))]
   ·have a:(g==k)=false:=beq_eq_false_iff_ne.mpr h;simp only[cQ3,a];exact c
theorem Q6(f:Str)(v:V):∀fs:List (Str×V),f∈(aQW f v fs).map (·.1)/\∀g,g∈fs.map (·.1)->g∈(aQW f v fs).map (·.1)
 |[]=>⟨by simp[aQW],λg h=>by simp at h⟩
 |(k,x)::r=>by
  obtain⟨c,b⟩:=Q6 f v r;rw[show aQW f v ((k,x)::r)=(if k=f then(k,v)::r else(k,x)::aQW f v r)from rfl];by_cases a:k=f
  ·rw[if_pos a];subst a;exact⟨by simp,λg h=>by simpa using h⟩
  ·rw[if_neg a];refine⟨?_,λg h=>?_⟩
   ·rw[bYx];exact bKY _ c
   ·rw[bYx]at h ⊢;rcases bKW.mp h with e|e
    ·exact bKW.mpr (.inl e)
    ·exact bKY _ (b g e)
theorem aQc(f:Str)(v:V):∀fs:List (Str×V),(aQW f v fs).length<=fs.length+1
 |[]=>by simp[aQW]
 |(k,x)::r=>by
  have b:=aQc f v r;rw[show aQW f v ((k,x)::r)=(if k=f then(k,v)::r else(k,x)::aQW f v r)from rfl];by_cases a:k=f
  ·rw[if_pos a,bYM,bYM];omega
  ·rw[if_neg a,bYM,bYM];omega
theorem aXS.some_of{v:V}{o:Option bKN}(r:aXS (some v) o):∃u,o=some u/\zC v u:=by
 cases o with
 |none=>exact(show False from r).elim
 |some u=>exact⟨u,rfl,r⟩
theorem aXS.none_of{o:Option bKN}(r:aXS none o):o=none:=by
 cases o with
 |none=>rfl
 |some u=>exact(show False from r).elim
theorem aX9{v:V}{u:bKN}(r:zC v u):PySem.W.handedIn u=true:=by
 cases v with
 |non=>cases (show u=Value.none from r);rfl
 |bl b=>cases (show u=Value.bool b from r);rfl
 |int i=>obtain⟨t,e⟩:=(show ∃t,u=Value.int i t from r);cases e;rfl
 |str x=>obtain⟨t,e⟩:=(show ∃t,u=Value.str x t from r);cases e;rfl
 |byt b=>obtain⟨t,e⟩:=(show ∃t,u=Value.bytes b t from r);cases e;rfl
 |flt b=>obtain⟨t,e⟩:=(show ∃t,u=Value.float b t from r);cases e;rfl
 |ref a=>cases (show u=Value.ref a from r);rfl
 |ty n=>cases (show u=Value.type n from r);rfl
section
variable {P:bK9}{w:bYf}{H H':Hp}{h h':Heap}{a C dx:Addr}{fs fs':List (Str×V)}
theorem Q3(b:HOk P w H h)(e:H a=some (.ins C dx fs)):∃mA,bZY h a dx C mA/\(∀f,aXS (fs.lookup f) (mA f))/\PySem.Within mA (fs.map (·.1))/\fs.length<=1000/\H dx=some (.own a):=by
 obtain⟨d,z,ne,c,mA,n,r,q⟩:=(show x0 P w H h a (.ins C dx fs)from b a _ e);exact⟨mA,⟨c,n,ne⟩,r,q,z,d⟩
end
structure Cls(K:bKP)(C:Addr):Prop where
 pg:cXr K C Str.empty=true
 hd:cXH K C=true
 po:cZg K C=true
 sa:bYw K (.ref C) "__setattr__"=some (some (.builtin "object.__setattr__"))
theorem Cls.get{K:bKP}{C:Addr}(c:Cls K C)(f:Str):cXr K C f=true:=c.pg
def z8(K:bKP)(C:Addr)(f:Str):Prop:=bYw K (.ref C) f=some none
theorem z8.taker{K:bKP}{C:Addr}{f:Str}(n:z8 K C f):PySem.W.takerIn K C f=some none:=by
 unfold PySem.W.takerIn;rw[show bYw K (.ref C) f=some none from n];rfl
structure bVB(K:bKP)(C:Addr)(m:Str)(f:Addr):Prop where
 at_:bYw K (.ref C) m=some (some (.ref f))
 fn:cXq K (.ref f)=true
 kp:bYG K (.ref f)=true
section
variable {X:Cx}{pins:List (Addr×Obj)}{σ:St}{H:Hp}{s:bKQ}{a C dx:Addr}{fs:List (Str×V)}{f:Str}{v:V}{A:bYr}{E:bKN->bKQ->Prop}
theorem aV0{b:Bool}{Q:bKN->bKQ->Prop}(I:Inv X pins σ H s)(e:H a=some (.ins C dx fs))(c:Cls X.K C)(n:z8 X.K C f)(l:fs.lookup f=some v) (h:∀u s',Inv X pins σ H s'->zC v u->Q u s'):bKV (bKX X.prog X.w) A (getAttr (.ref a) f b) Q E s:=by
 obtain⟨mA,O,r,_,_,_⟩:=Q3 I.hok e;obtain⟨u,g,d⟩:=aXS.some_of (v:=v) (o:=mA f) (by rw[<- l];exact r f);exact bJf I.kIn O (c.get f) c.hd n g (aX9 d) (h u _ (I.tok _) d)
theorem qY{m:Str}{g:Addr}{pl:Sem Bool}{Q:bKN×List bKN->bKQ->Prop}(I:Inv X pins σ H s)(e:H a=some (.ins C dx fs))(c:Cls X.K C)(k:bVB X.K C m g)(l:fs.lookup m=none) (h:Q (.ref g,[.ref a]) s):bKV (bKX X.prog X.w) A (cZa (.ref a) m pl) Q E s:=by
 obtain⟨mA,O,r,_,_,_⟩:=Q3 I.hok e;have b:mA m=none:=aXS.none_of (by rw[<- l];exact r m);exact bQD I.kIn O (c.get m) k.at_ k.fn b h
theorem aWT{y:V}{u:bKN}{Q:Unit->bKQ->Prop}(I:Inv X pins σ H s)(e:H a=some (.ins C dx fs))(c:Cls X.K C)(n:z8 X.K C f)(hl:fs.length<1000)(v:zC y u) (h:∀s',Inv X pins σ (upd H a (.ins C dx (aQW f y fs))) s'->Q () s'):bKV (bKX X.prog X.w) A (setAttr (.ref a) f u) Q E s:=by
 obtain⟨mA,O,r,i,_,j⟩:=Q3 I.hok e;have m:(fs.map (·.1)).length<=bYd:=by rw[bKT,bYm];omega
 refine bVm I.kIn O c.sa c.po n.taker c.hd i m λh' d l=>h _ ?_;have k:∃o,h'.get? dx=some o:=let ⟨o,_,_,e',_⟩:=d.ns;⟨o,e'⟩;refine I.write (x:=a) (e:=dx) (by rw[e];exact cQd) (.inr j) (λb q t z=>(l.2 b t).trans z) k ?_;refine⟨by rw[yI O.ne];exact j,?_,O.ne,d.obj,_,d.ns,λg=>?_,λg p=>?_⟩
 ·have:=aQc f y fs;omega
 ·show aXS ((aQW f y fs).lookup g) (if g=f then some u else mA g);rw[aQd];by_cases q:g=f
  ·rw[if_pos q,if_pos q];exact v
  ·rw[if_neg q,if_neg q];exact r g
 ·by_cases q:g=f
  ·rw[q];exact(Q6 f y fs).1
  ·refine(Q6 f y fs).2 g (i g λz=>p ?_);show(if g=f then some u else mA g)=none;rw[if_neg q];exact z
theorem Inv.made(I:Inv X pins σ H s):Inv X pins σ (upd (upd H s.heap.objs.size (.own (s.heap.objs.size+1))) (s.heap.objs.size+1) (.ins C s.heap.objs.size [])) {s with heap:=(s.heap.push cQu).push (cQV C s.heap.objs.size) }:=by
 have c:(s.heap.push cQu).get? s.heap.objs.size=some cQu:=bYg s.heap rfl;have i:((s.heap.push cQu).push (cQV C s.heap.objs.size)).get? (s.heap.objs.size+1)=some (cQV C s.heap.objs.size):=by have:=bYg (s.heap.push cQu) (o:=cQV C s.heap.objs.size) rfl;rwa [cQl]at this
 have g:(s.heap.push cQu).Ns s.heap.objs.size (λ_=>none):=⟨cQu, #[],_,c,rfl,(λe d=>absurd d (by simp)),λ_=>rfl⟩;have h:=I.laid (a:=s.heap.objs.size) (o:= .own (s.heap.objs.size+1)) (h':=s.heap.push cQu) (t':=s.toks) (λb u q=>bKR _ q) (bKU _) ⟨_,c⟩;refine h.laid (a:=s.heap.objs.size+1) (o:= .ins C s.heap.objs.size []) (t':=s.toks) (λb u q=>bKR _ q) (cXn (cQl _ _)) ?_;have ne:s.heap.objs.size≠s.heap.objs.size+1:=bYb (cQA _);refine⟨by rw[yI ne,yB],bYJ _,ne,i,λ_=>none,(Heap.Ns1.of_empty g).at λo q=>bKR _ q,λ_=>cQd,λy f=>absurd rfl f⟩
theorem aW7{prog:bK9}{w:bYf}{env:Env}{e:Expr}{f:Str}{pos:Pos}{s:bKQ}{Q:bKN->bKQ->Prop}(b:cXy e f env (eval e env)=eval e env) (h:bKV (bKX prog w) A (eval e env) (λo a=>bKV (bKX prog w) A (getAttr o f true) Q E a) E s):bKV (bKX prog w) A (eval (.Attribute e f pos) env) Q E s:=
 Attribute_any_ h (by rw[arm_eval_Attribute,b])
end
def bKp(K:bKP)(ta:TE)(f:Str):TE:=λσ H Q=>ta σ H λx H1=>∃a C dx fs v,x= .ref a/\H1 a=some (.ins C dx fs)/\Cls K C/\z8 K C f/\fs.lookup f=some v/\Q v H1
def bKF(K:bKP)(ta tv:TE)(f:Str):TS:=λD σ H=>tv σ H λy H1=>ta σ H1 λx H2=>∃a C dx fs,x= .ref a/\H2 a=some (.ins C dx fs)/\Cls K C/\z8 K C f/\fs.length<1000/\
 D.nx σ (upd H2 a (.ins C dx (aQW f y fs)))
section
variable {X:Cx}{o e value:Expr}{f:Str}{pos pos' tpos:Pos}{ta tv:TE}
theorem yZ(b:PE X e ta)(d:cXy e f X.env (eval e X.env)=eval e X.env):PE X (.Attribute e f pos) (bKp X.K ta f):=by
 intro pins s σ H Q I h;refine aW7 d (thn (b pins s σ H _ I h) λu s1 ⟨x,H1,I1,rx,a,C,dx,fs,v,ex,ea,c,n,l,q⟩=>?_);subst ex;obtain rfl:u=Value.ref a:=rx;exact aV0 I1 ea c n l λj k g i=>⟨v,H1,g,i,q⟩
theorem zF(e:PE X o ta)(g:PE X value tv)(b:swapsWith value (some (.Attribute o f pos')) pos.line X.env=pure false):PS X (.Assign [.Attribute o f pos'] value pos) (bKF X.K ta tv f):=by
 intro pins s σ H D I h;refine cZp (thn (g pins s σ H _ I h) λu s1 ⟨y,H1,I1,ry,q⟩=>thn (e pins s1 σ H1 _ I1 q) λov s2 ⟨x,H2,I2,rx,a,C,dx,fs,ex,ea,c,n,l,q2⟩=>?_) b;subst ex;obtain rfl:ov=Value.ref a:=rx;exact aWT I2 ea c n l ry λi d=>⟨σ,_,d,q2⟩
theorem bJq{pl:Sem Bool}{m:Str}{apos:Pos}{args:List Expr}{pins:List (Addr×Obj)}{s:bKQ}{σ:St}{H:Hp}{Q:bKN->bKQ->Prop}{te:TE}(d:PE X e te)(I:Inv X pins σ H s)
  (h:te σ H λx H1=>∃a C dx fs g,x= .ref a/\H1 a=some (.ins C dx fs)/\Cls X.K C/\bVB X.K C m g/\fs.lookup m=none/\
   ∀b,Inv X pins σ H1 b->bKV (bKX X.prog X.w) X.A (callWith pos (.ref g) [.ref a] (cQp pos (bYp args X.env)) (cXV pos (cQ4 [] X.env))) Q X.xe b)
  (i:eval (.Call (.Attribute e m apos) args [] pos) X.env=(do
   let ov <- eval e X.env
   standAt apos.atName
   let (f,first) <- cX3 [ov] (cZa ov m pl)
   callWith pos f first (cQp pos (bYp args X.env)) (cXV pos (cQ4 [] X.env)))):
  bKV (bKX X.prog X.w) X.A (eval (.Call (.Attribute e m apos) args [] pos) X.env) Q X.xe s:=by
 refine cXM (pl:=pl) (thn (d pins s σ H _ I h) λu b ⟨x,H1,I1,rx,a,C,dx,fs,g,ex,ea,c,k,l,q⟩=>?_) i
 subst ex
 obtain rfl:u=Value.ref a:=rx
 exact qY I1 ea c k l (q b I1)
end
section
variable {X:Cx}{pins:List (Addr×Obj)}{σ:St}{H:Hp}{s:bKQ}{A:bYr}{E:bKN->bKQ->Prop}{Q:bKN->bKQ->Prop}{c:bKN}{b:Bool}
inductive aZV(K:bKP)(H:Hp):V->bKN->Prop where
 |non:aZV K H .non (.type "NoneType")
 |bl (x:Bool):aZV K H (.bl x) (.type "bool")
 |int (i:Int):aZV K H (.int i) (.type "int")
 |str (x:Str):aZV K H (.str x) (.type "str")
 |flt (x:UInt64):aZV K H (.flt x) (.type "float")
 |lst {a:Addr} {xs:List V} (e:H a=some (.lst xs)):aZV K H (.ref a) (.type "list")
 |frz {a:Addr} {o:Obj} {xs:List V} (e:H a=some (.frz o (.lst xs))):aZV K H (.ref a) (.type "list")
 |tup {a:Addr} {xs:List V} (e:H a=some (.tup xs)):aZV K H (.ref a) (.type "tuple")
 |dK {a:Addr} {kvs:List (Key×V)} (e:H a=some (.dK kvs)):aZV K H (.ref a) (.type "dict")
 |dT {a:Addr} {kvs:List (List Key×V)} (e:H a=some (.dT kvs)):aZV K H (.ref a) (.type "dict")
 |ins {a C dx:Addr} {fs:List (Str×V)} (e:H a=some (.ins C dx fs)) (cl:Cls K C) (ha:bYw K (.ref C) "__class__"=some (some (.builtin "object.__class__")))
   (hn:cZh K (.builtin "object.__class__") "__get__"=some (some (.builtin "getset_descriptor.__get__"))) (htk:PySem.W.takesIn K (.builtin "object.__class__")=some true)
   (hm:cXY K C (.type "object")=some true):aZV K H (.ref a) (.ref C)
theorem aKw{x:V}{u t:bKN}(I:Inv X pins σ H s)(d:zC x u)(ty:aZV X.K H x t)(e:bYS X.K t c=some b)(h:∀tk,Q (.bool b) {s with toks:=tk}): bKV (bKX X.prog X.w) A (call (.builtin "isinstance") [u,c]) Q E s:=by
 cases ty with
 |non=>cases (show u=Value.none from d);exact cQn PySem.W.kitx_none I.kIn cQd e (λz=>nomatch z) h
 |bl y=>cases (show u=Value.bool y from d);exact cQn PySem.W.kitx_bool I.kIn cQd e (λz=>nomatch z) h
 |int i=>obtain⟨t,q⟩:=(show ∃t,u=Value.int i t from d);cases q;exact cQn PySem.W.kitx_int I.kIn cQd e (λz=>nomatch z) h
 |str y=>obtain⟨t,q⟩:=(show ∃t,u=Value.str y t from d);cases q;exact cQn PySem.W.kitx_str I.kIn cQd e (λz=>nomatch z) h
 |flt y=>obtain⟨t,q⟩:=(show ∃t,u=Value.float y t from d);cases q;exact cQn PySem.W.kitx_float I.kIn cQd e (λz=>nomatch z) h
 |@lst a xs f=>cases (show u=Value.ref a from d);obtain⟨_,_,n,_,h1⟩:=(show x0 X.prog X.w H s.heap a (.lst xs)from I.hok a _ f);exact cQn cZf I.kIn ⟨_,h1,rfl⟩ e (λz=>nomatch z) h
 |@frz a k xs f=>cases (show u=Value.ref a from d);obtain⟨_,_,_,n,_,h1⟩:=(show x0 X.prog X.w H s.heap a (.frz k (.lst xs))from I.hok a _ f);exact cQn cZf I.kIn ⟨_,h1,rfl⟩ e (λz=>nomatch z) h
 |@tup a xs f=>cases (show u=Value.ref a from d);obtain⟨_,_,_,p⟩:=(show x0 X.prog X.w H s.heap a (.tup xs)from I.hok a _ f);obtain⟨o,h1,h2,_⟩:=p;exact cQn PySem.W.kitx_tuple I.kIn ⟨o,h1,h2⟩ e (λz=>nomatch z) h
 |@dK a g f=>cases (show u=Value.ref a from d);obtain⟨_,_,D,_,p⟩:=(show x0 X.prog X.w H s.heap a (.dK g)from I.hok a _ f);obtain⟨o,es,v,h1,h2,_⟩:=p;exact cQn cZe I.kIn ⟨o,h1,h2.1⟩ e (λz=>nomatch z) h
 |@dT a g f=>cases (show u=Value.ref a from d);obtain⟨_,_,xs,_,o,es,v,h1,h2,_⟩:=(show x0 X.prog X.w H s.heap a (.dT g)from I.hok a _ f);exact cQn cZe I.kIn ⟨o,h1,h2.1⟩ e (λz=>nomatch z) h
 |@ins a C dx fs f cl r m j l=>cases (show u=Value.ref a from d);obtain⟨mA,O,_⟩:=Q3 I.hok f;obtain⟨B,J,_⟩:=O.look;exact cQn (PySem.W.kitx_own (cl.get _) cl.hd r m j l) I.kIn J e (λz=>nomatch z) h
end
end L2
namespace L2
open PySem PySem.Spec PyProof.Rows
structure vJ(k:Nat)(A:bYr):Prop where
 hd:A.handled=none
 dp:A.depth+3*k+5<recursionLimit
 un:A.units+16*k+200<cLine
theorem vJ.mono{j k:Nat}{A:bYr}(r:vJ k A)(h:j<=k):vJ j A:=⟨r.hd,by have:=r.dp;omega,by have:=r.un;omega⟩
theorem vJ.deeper{k:Nat}{A:bYr}(r:vJ (k+1) A)(env:Env):vJ k (A.deeper env):=
 ⟨r.hd,by have:=r.dp;show A.depth+1+3*k+5<_;omega,by have:=r.un;show A.units+3+16*k+200<_;omega⟩
theorem aWd{A:bYr}{C:Addr}{us:List bKN}{a:List (Str×bKN)}:(A.under (.builtin "type.__call__" ⟨.ref C::us,a⟩)).depth=A.depth+1:=by
 first|rfl|simp[Around.under,Code.weight,Code.isCreation,Code.isGuard,Code.isCaller,Code.frames,Code.isFrame,guardIds]
theorem aWe{A:bYr}{C:Addr}{us:List bKN}{a:List (Str×bKN)}:(A.under (.builtin "type.__call__" ⟨.ref C::us,a⟩)).units=A.units+1:=by
 first|rfl|simp[Around.under,Code.cUnits,Code.frames,Code.isFrame]
theorem vJ.make{k:Nat}{A:bYr}(r:vJ (k+1) A)(C:Addr)(us:List bKN)(a:List (Str×bKN)):vJ k (A.under (.builtin "type.__call__" ⟨.ref C::us,a⟩)):=
 ⟨r.hd,by have:=r.dp;rw[aWd];omega,by have:=r.un;rw[aWe];omega⟩
theorem vJ.depth{k:Nat}{A:bYr}(r:vJ k A):A.depth<recursionLimit:=by have:=r.dp;omega
theorem vJ.units{k:Nat}{A:bYr}(r:vJ k A):A.units+64<cLine:=by have:=r.un;omega
theorem vJ.units0{k:Nat}{A:bYr}(r:vJ k A):A.units<cLine:=by have:=r.un;omega
def bX5:TA:=λ_ H Q=>Q [] H
def aWW(ta:TE)(a:TA):TA:=λσ H Q=>ta σ H λx H1=>a σ H1 λxs H2=>Q (x::xs) H2
section
variable {X:Cx}{e:Expr}{es:List Expr}{te:TE}{t:TA}{pos:Pos}
theorem yD:PA X [] bX5:=λ_ _ _ _ H Q I h=>Calls.spliced_nil ⟨[],H,I,.nil,h⟩
theorem yA(c:PE X e te)(b:PA X es t)(a:bYp (e::es) X.env=(false,eval e X.env)::bYp es X.env:=by rfl):PA X (e::es) (aWW te t):=by
 intro pos pins s σ H Q I h;rw[a];show bKV _ _ (spliced ((false,eval e X.env)::cQp pos (bYp es X.env))) _ _ s;refine Calls.spliced_cons (thn (c pins s σ H _ I h) λu s1 ⟨x,H1,I1,r1,q1⟩=>?_);exact thn (b pos pins s1 σ H1 _ I1 q1) λus s2 ⟨xs,H2,I2,r2,q2⟩=>⟨x::xs,H2,I2,.cons r1 r2,q2⟩
def bKs(t:TA):TE:=λσ H Q=>t σ H λxs H1=>xs.length<=bYd/\∀p,H1 p=none->Q (.ref p) (upd H1 p (.tup xs))
def bKq(t:TA):TE:=λσ H Q=>t σ H λxs H1=>xs.length<=bYd/\∀p,H1 p=none->Q (.ref p) (upd H1 p (.lst xs))
theorem xL{x1}(h:PA X es t):PE X (.Tuple es x1 pos) (bKs t):=by
 intro pins s σ H Q I a;refine wpAny_Tuple_spliced (thn (h pos pins s σ H _ I a) λus s1 ⟨xs,H1,I1,r,z,q⟩=>⟨by rw[<- r.length];exact z,?_⟩);have c:H1 s1.heap.objs.size=none:=I1.hok.fresh (bKU _);refine⟨.ref s1.heap.objs.size,upd H1 s1.heap.objs.size (.tup xs),I1.laid (t':=s1.toks) (λb u e=>bKR _ e) (bKU _) ?_,rfl,q _ c⟩;exact⟨z,us,r,⟨_,bYg _ rfl,rfl,_,rfl⟩⟩
theorem y3(h:PA X es t):PE X (.List es pos) (bKq t):=by
 intro pins s σ H Q I a;refine wpAny_List_spliced (thn (h pos pins s σ H _ I a) λus s1 ⟨xs,H1,I1,r,z,q⟩=>⟨by rw[<- r.length];exact z,?_⟩);have c:H1 s1.heap.objs.size=none:=I1.hok.fresh (bKU _);refine⟨.ref s1.heap.objs.size,upd H1 s1.heap.objs.size (.lst xs),I1.laid (t':=s1.toks) (λb u e=>bKR _ e) (bKU _) ?_,rfl,q _ c⟩;exact⟨z,us,0,r,bYg _ rfl⟩
end
abbrev Sp:=List V->Hp->VK->XK->Prop
abbrev CXT:=List Env->Hp->bKQ->XK->bKN->bKQ->Prop
structure bZW(P:bK9)(w:bYf)(K:bKP)(mg:Str->Option bKN)(base:Heap)(A:bYr)(outer:List Env)(s:bKQ)(H:Hp):Prop where
 frames:A.frames=some outer
 mod:Mod K mg base
 bs:∀b o,base.get? b=some o->s.heap.get? b=some o/\H b=none
 bsz:base.objs.size<=s.heap.objs.size
 funs:s.heap.FunFrames base outer
 frf:∀b∈frs outer,H b=none
 hok:HOk P w H s.heap
 bare:AllBare s.gens
def CE(outer:List Env)(P:bK9)(w:bYf)(H:Hp)(s:bKQ)(Q:VK)(u:bKN)(s':bKQ):Prop:=
 ∃v H',s'.os=s.os/\AllBare s'.gens/\Un (frs outer) [] H H' s.heap s'.heap/\HOk P w H' s'.heap/\zC v u/\Q v H'
def CR(CX:CXT)(outer:List Env)(P:bK9)(w:bYf)(H:Hp)(s:bKQ)(Q:VK)(E:XK)(r:Result)(s':bKQ):Prop:=
 match r with
 |.ok (.ret u)=>CE outer P w H s Q u s'
 |.ok _=>False
 |.error e=>CX outer H s E e s'
structure y8(P:bK9)(w:bYf)(K:bKP)(mg:Str->Option bKN)(base:Heap)(CX:CXT)(k:Nat)(f:Addr)(fd:cQI)(ps:List Str)(sp:Sp):Prop where
 len:∀vs H Q E,sp vs H Q E->vs.length=ps.length
 run:∀ (A:bYr)(outer:List Env)(s:bKQ)(H:Hp)(args:Args)(us:List bKN)(vs:List V)(Q:VK)(E:XK),vJ k A->bZW P w K mg base A outer s H->BindsTo s fd args (ps.zip us)->xS vs us->sp vs H Q E->
  cQ1 (bKX P w) A (.call (.ref f) args) (CR CX outer P w H s Q E) s
theorem y8.mono{P:bK9}{w:bYf}{K:bKP}{mg:Str->Option bKN}{base:Heap}{CX:CXT}{j k:Nat}{f:Addr}{fd:cQI}{ps:List Str}{sp:Sp}(F:y8 P w K mg base CX j f fd ps sp)(h:j<=k):
  y8 P w K mg base CX k f fd ps sp:=⟨F.len,λA outer s H args c b Q E a=>F.run A outer s H args c b Q E (a.mono h)⟩
theorem bZW.make{P:bK9}{w:bYf}{K:bKP}{mg:Str->Option bKN}{base:Heap}{A:bYr}{outer:List Env}{s:bKQ}{H:Hp}(e:bZW P w K mg base A outer s H)(C:Addr)(us:List bKN)(a:List (Str×bKN)):
  bZW P w K mg base (A.under (.builtin "type.__call__" ⟨.ref C::us,a⟩)) outer s H:=⟨by first|exact e.frames|(simpa[Around.under,Code.envs,Code.isFrame,pushEnvs]using e.frames),e.mod,e.bs,e.bsz,e.funs,e.frf,e.hok,e.bare⟩
section
variable {X:Cx}{pins:List (Addr×Obj)}{σ:St}{H:Hp}{s s':bKQ}
theorem Inv.env0(I:Inv X pins σ H s):bZW X.prog X.w X.K X.mg X.base X.A X.stack s H:=
 ⟨I.ok.frames,I.ok.mod,I.bs,bYo I.ok.bsz I.sz,I.stack,I.stkFree,I.hok,I.bare⟩
theorem Inv.after{Q:VK}{u:bKN}(I:Inv X pins σ H s)(h:CE X.stack X.prog X.w H s Q u s'):EP X pins σ Q u s':=by
 obtain⟨v,H',f,bare,un,a,r,q⟩:=h;obtain⟨e,g,d,t,c⟩:=s';obtain rfl:c=s.os:=f;exact⟨v,H',I.call (h':=e) (g':=g) (d':=d) (t':=t) (ch:= []) un a bare (λb z=>absurd z (by simp)),r,q⟩
end
def bX2(sp:Sp)(dvs:List V)(E:XK)(t:TA):TE:=λσ H Q=>t σ H λa H1=>sp (a++dvs) H1 Q E
def bX4(C:Addr)(m:Str)(sp:Sp)(dvs:List V)(E:XK)(ta:TE)(t:TA):TE:=λσ H Q=>ta σ H λx H1=>∃a dx fs,x= .ref a/\H1 a=some (.ins C dx fs)/\fs.lookup m=none/\
 t σ H1 λb H2=>sp (x::(b++dvs)) H2 Q E
def bX3(C:Addr)(sp:Sp)(dvs:List V)(E:XK)(t:TA):TE:=λσ H Q=>t σ H λa H1=>∀x dx,H1 x=none->H1 dx=none->dx≠x->
 sp (.ref x::(a++dvs)) (upd (upd H1 dx (.own x)) x (.ins C dx [])) (λv H2=>v= .non/\Q (.ref x) H2) E
def vQ(K:bKP)(fd:cQI)(ps:List Str)(ds:List bKN):Prop:=
 ∀ (s:bKQ)(a:List bKN),K.In s.heap->(a++ds).length=ps.length->BindsTo s fd ⟨a,[]⟩ (ps.zip (a++ds))
theorem vQ.all{K:bKP}{fd:cQI}{ps:List Str}(h:∀a:List bKN,a.length=ps.length->bindArgs fd ⟨a,[]⟩=pure (ps.zip a)):vQ K fd ps []:=λs a _ hl=>by
 rw[bYY]at hl ⊢;exact .of_eq (h a hl)
def w8(CX:CXT)(X:Cx)(E:XK):Prop:=∀ (pins:List (Addr×Obj))(σ:St)(H:Hp)(s:bKQ)(e:bKN)(s':bKQ),Inv X pins σ H s->CX X.stack H s E e s'->X.xe e s'
section
variable {X:Cx}{CX:CXT}{k:Nat}{f C:Addr}{fd:cQI}{ps:List Str}{sp:Sp}{dvs:List V}{ds:List bKN}{E:XK}{x m:Str}{p pos apos:Pos}{e o:Expr}{es:List Expr}{ta:TE}{t:TA}
theorem aZA{pins:List (Addr×Obj)}{σ:St}{H:Hp}{s:bKQ}{Q:VK}{us:List bKN}{vs:List V}(F:y8 X.prog X.w X.K X.mg X.base CX k f fd ps sp)(c:vJ k X.A)(g:vQ X.K fd ps ds)(d:xS dvs ds)(j:w8 CX X E) (I:Inv X pins σ H s) (r:xS vs us) (h:sp (vs++dvs) H Q E):bKV (bKX X.prog X.w) X.A (call (.ref f) us) (EP X pins σ Q) X.xe s:=by
 have b:xS (vs++dvs) (us++ds):=r.append d;have hl:(us++ds).length=ps.length:=by rw[<- b.length];exact F.len _ _ _ _ h
 refine cXW (cQC (F.run X.A X.stack s H ⟨us,[]⟩ (us++ds) (vs++dvs) Q E c I.env0 (g s us I.kIn hl) b h) λr s' a=>?_);cases r with
 |error e=>exact j pins σ H s e s' I a
 |ok i=>
  cases i with
  |ret u=>exact I.after a
  |next=>exact cQi a
  |brk=>exact cQi a
  |cont=>exact cQi a
theorem aYd(F:y8 X.prog X.w X.K X.mg X.base CX k f fd ps sp)(c:vJ k X.A)(m:Gl X x)(g:X.mg x=some (.ref f))(l:bYG X.K (.ref f)=true)(n:vQ X.K fd ps ds)(i:xS dvs ds)(o:w8 CX X E)
  (j:PA X (e::es) t) (b:(x==("__debug__":Str))=false:=by decide) (d:bYp (e::es) X.env=(false,eval e X.env)::bYp es X.env:=by rfl) (a:(cQp pos (bYp es X.env)).any (·.1)=false:=by rfl):
  PE X (.Call (.Name x p) (e::es) [] pos) (bX2 sp dvs E t):=by
 intro pins s σ H Q I h
 refine cQq (uL I m g ?_ b)
 refine cXA (h₀:=X.base) I.ok.mod.kin l (thn (j pos pins s σ H _ I h) λus s1 ⟨vs,H1,I1,r,q⟩=>⟨I1.kIn,?_⟩) d a
 exact aZA F c n i o I1 r q
theorem bJO{pl:Sem Bool}(j:PE X o ta)(c:Cls X.K C)(g:bVB X.K C m f)(F:y8 X.prog X.w X.K X.mg X.base CX k f fd ps sp)(i:vJ k X.A)(y:vQ X.K fd ps ds)(p:xS dvs ds)(z:w8 CX X E)(v:PA X (e::es) t)
  (d:bYp (e::es) X.env=(false,eval e X.env)::bYp es X.env:=by rfl) (b:(cQp pos (bYp es X.env)).any (·.1)=false:=by rfl)
  (n:eval (.Call (.Attribute o m apos) (e::es) [] pos) X.env=(do
   let ov <- eval o X.env
   standAt apos.atName
   let (f,first) <- cX3 [ov] (cZa ov m pl)
   callWith pos f first (cQp pos (bYp (e::es) X.env)) (cXV pos (cQ4 [] X.env))):=by rfl):
  PE X (.Call (.Attribute o m apos) (e::es) [] pos) (bX4 C m sp dvs E ta t):=by
 intro pins s σ H Q I h
 refine cXM (pl:=pl) (thn (j pins s σ H _ I h) λu s1 ⟨x,H1,I1,rx,a,dx,fs,ex,ea,l,q⟩=>?_) n
 subst ex
 obtain rfl:u=Value.ref a:=rx
 refine qY I1 ea c g l ?_
 refine cXA (first:= [.ref a]) (h₀:=X.base) I.ok.mod.kin g.kp (thn (v pos pins s1 σ H1 _ I1 q) λus s2 ⟨vs,H2,I2,r,q2⟩=>⟨I2.kIn,?_⟩) d b
 exact aZA (us:= .ref a::us) (vs:= .ref a::vs) F i y p z I2 (.cons rfl r) q2
theorem bXu{pl:Sem Bool}(d:PE X o ta)(c:Cls X.K C)(b:bVB X.K C m f)(F:y8 X.prog X.w X.K X.mg X.base CX k f fd ps sp)(e:vJ k X.A)(g:vQ X.K fd ps ds)(i:xS dvs ds)(j:w8 CX X E)
  (n:eval (.Call (.Attribute o m apos) [] [] pos) X.env=(do
   let ov <- eval o X.env
   standAt apos.atName
   let (f,first) <- cX3 [ov] (cZa ov m pl)
   callWith pos f first (cQp pos (bYp [] X.env)) (cXV pos (cQ4 [] X.env))):=by rfl):
  PE X (.Call (.Attribute o m apos) [] [] pos) (bX4 C m sp dvs E ta bX5):=by
 intro pins s σ H Q I h
 refine cXM (pl:=pl) (thn (d pins s σ H _ I h) λu s1 ⟨x,H1,I1,rx,a,dx,fs,ex,ea,l,q⟩=>?_) n
 subst ex
 obtain rfl:u=Value.ref a:=rx
 refine qY I1 ea c b l ?_
 exact cZF (first:= [.ref a]) I1.kIn b.kp (aZA (us:= [.ref a]) (vs:= [.ref a]) F e g i j I1 (.cons rfl .nil) q)
structure Mk(K:bKP)(C f:Addr):Prop where
 makes:PySem.W.makesIn K C=true
 init:bYw K (.ref C) "__init__"=some (some (.ref f))
 fn:cXq K (.ref f)=true
 kp:bYG K (.ref C)=true
theorem aVo{pins:List (Addr×Obj)}{σ:St}{H:Hp}{s:bKQ}{Q:VK}{us:List bKN}{vs:List V}(M:Mk X.K C f)(F:y8 X.prog X.w X.K X.mg X.base CX k f fd ps sp)(j:vJ (k+1) X.A)(o:vQ X.K fd ps ds)(m:xS dvs ds) (q:w8 CX X E) (I:Inv X pins σ H s) (r:xS vs us) (h:∀x dx,H x=none->H dx=none->dx≠x->sp (.ref x::(vs++dvs)) (upd (upd H dx (.own x)) x (.ins C dx [])) (λv H2=>v= .non/\Q (.ref x) H2) E): bKV (bKX X.prog X.w) X.A (call (.ref C) us) (EP X pins σ Q) X.xe s:=by
 have d:=h (s.heap.objs.size+1) s.heap.objs.size (I.hok.fresh (cQR _)) (I.hok.fresh (bKU _)) (bYb (cQA _));have b:=Inv.made (C:=C) I;have c:xS (V.ref (s.heap.objs.size+1)::(vs++dvs)) (Value.ref (s.heap.objs.size+1)::(us++ds)):= .cons rfl (r.append m);have hl:(Value.ref (s.heap.objs.size+1)::us++ds).length=ps.length:=by have e:=c.length;rw[F.len _ _ _ _ d]at e;exact e.symm
 refine cXW (bQX (f:=f) I.kIn M.makes M.init (beq_iff_eq.mp M.fn) (cQC (F.run _ X.stack _ _ ⟨Value.ref (s.heap.objs.size+1)::us,[]⟩ (Value.ref (s.heap.objs.size+1)::(us++ds)) _ _ E (j.make C us []) (b.env0.make C us []) (o _ (Value.ref (s.heap.objs.size+1)::us) b.kIn hl) c d) λr s' a=>?_));cases r with
 |error e=>exact q pins σ _ _ e s' b a
 |ok p=>
  cases p with
  |ret u=>obtain⟨v,H',n,i,g,l⟩:=b.after a;subst g;exact⟨i,⟨V.ref (s.heap.objs.size+1),H',n,rfl,l⟩⟩
  |next=>exact cQi a
  |brk=>exact cQi a
  |cont=>exact cQi a
theorem bJN(M:Mk X.K C f)(F:y8 X.prog X.w X.K X.mg X.base CX k f fd ps sp)(c:vJ (k+1) X.A)(l:Gl X x)(g:X.mg x=some (.ref C))(m:vQ X.K fd ps ds)(i:xS dvs ds)(n:w8 CX X E)
  (j:PA X (e::es) t) (b:(x==("__debug__":Str))=false:=by decide) (d:bYp (e::es) X.env=(false,eval e X.env)::bYp es X.env:=by rfl) (a:(cQp pos (bYp es X.env)).any (·.1)=false:=by rfl):
  PE X (.Call (.Name x p) (e::es) [] pos) (bX3 C sp dvs E t):=by
 intro pins s σ H Q I h
 refine cQq (uL I l g ?_ b)
 refine cXA (h₀:=X.base) I.ok.mod.kin M.kp (thn (j pos pins s σ H _ I h) λus s1 ⟨vs,H1,I1,r,q⟩=>⟨I1.kIn,?_⟩) d a
 exact aVo M F c m i n I1 r q
theorem bXt(M:Mk X.K C f)(F:y8 X.prog X.w X.K X.mg X.base CX k f fd ps sp)(b:vJ (k+1) X.A)(g:Gl X x)(e:X.mg x=some (.ref C))(c:vQ X.K fd ps ds)(d:xS dvs ds)(i:w8 CX X E) (a:(x==("__debug__":Str))=false:=by decide):PE X (.Call (.Name x p) [] [] pos) (bX3 C sp dvs E bX5):=by
 intro pins s σ H Q I h;refine cQq (uL I g e ?_ a);exact cZF I.kIn M.kp (aVo (us:= []) M F b c d i I .nil h)
end
section
variable {X:Cx}{CX:CXT}{k:Nat}{f C:Addr}{fd:cQI}{ps ks:List Str}{sp:Sp}{E:XK}{x m:Str}{p pos apos kpos:Pos}{e o:Expr}{es:List Expr}{kws:List Keyword}{te ta:TE}{t tk:TA}{nm:Option Str}
variable {g:List bKN->List bKN->List bKN}{gV:List V->List V->List V}
end
structure yM(N P:List Str)(sc:cQX):Prop where
 kind:sc.kind= .function
 co:sc.isCoroutine=false
 gen:sc.isGenerator=false
 nd:N.Nodup
 pre:N.take P.length=P
 par:∀x∈P,sc.names.lookup x=some .local\/sc.names.lookup x=some .cell
 nofree:∀y∈sc.names,y.2≠ .free
theorem aX0{a:Str->Option cXU}{x:Str}:∀ {binds:List (Str×bKN)} {m:Str->Option bKN},(∀v,(x,v)∉binds)->bindL a binds m x=m x
 |[],_,_=>rfl
 |(n,v)::r,m,h=>by
  unfold bindL;rw[aX0 λw hw=>h w (bKY _ hw)];split
  ·have:x≠n:=by rintro rfl;exact h v bK2
   simp[this]
  ·rfl
theorem aXY{a:Str->Option cXU}{x:Str}:∀ {binds:List (Str×bKN)} {m:Str->Option bKN},(∀v,(x,v)∉binds)->bindC a binds m x=m x
 |[],_,_=>rfl
 |(n,v)::r,m,h=>by
  unfold bindC;rw[aXY λw hw=>h w (bKY _ hw)];split
  ·rfl
  ·have:x≠n:=by rintro rfl;exact h v bK2
   simp[this]
theorem aXZ{a:Str->Option cXU}{x:Str}{v:bKN}:∀ {P:List Str} {vs:List bKN} {i:Nat} {m:Str->Option bKN},P.Nodup->P[i]? =some x->vs[i]? =some v->a x=some .local->
  bindL a (P.zip vs) m x=some v
 |[],_,_,_,_,h,_,_=>by simp at h
 |_::_,[],_,_,_,_,h,_=>by simp at h
 |p::P,w::vs,0,m,nd,h1,h2,hk=>by simp at h1 h2;subst h1;subst h2;show bindL a ((p,w)::P.zip vs) m p=_;unfold bindL;rw[aX0 λv b=>(cQU.mp nd).1 (List.of_mem_zip b).1,if_pos hk];simp
 |p::P,w::vs,i+1,m,nd,h1,h2,hk=>by show bindL a ((p,w)::P.zip vs) m x=_;unfold bindL;exact aXZ (i:=i) (cQU.mp nd).2 (by simpa using h1) (by simpa using h2) hk
theorem aXX{a:Str->Option cXU}{x:Str}{v:bKN}:∀ {P:List Str} {vs:List bKN} {i:Nat} {m:Str->Option bKN},P.Nodup->P[i]? =some x->vs[i]? =some v->a x≠some .local->
  bindC a (P.zip vs) m x=some v
 |[],_,_,_,_,h,_,_=>by simp at h
 |_::_,[],_,_,_,_,h,_=>by simp at h
 |p::P,w::vs,0,m,nd,h1,h2,hk=>by simp at h1 h2;subst h1;subst h2;show bindC a ((p,w)::P.zip vs) m p=_;unfold bindC;rw[aXY λv b=>(cQU.mp nd).1 (List.of_mem_zip b).1,if_neg hk];simp
 |p::P,w::vs,i+1,m,nd,h1,h2,hk=>by show bindC a ((p,w)::P.zip vs) m x=_;unfold bindC;exact aXX (i:=i) (cQU.mp nd).2 (by simpa using h1) (by simpa using h2) hk
def start(N:List Str)(vs:List V):St:=vs.map some++cXj (N.length - vs.length) none
def aXf(CX:CXT)(P:bK9)(w:bYf)(K:bKP)(mg:Str->Option bKN)(base:Heap)(N:List Str)(qual:Str)(scope:cQX)(f:Addr)(cd:bKN)(A:bYr)(outer:List Env)(s:bKQ)(H:Hp)(E:XK):Cx where
 prog:=P
 w:=w
 K:=K
 mg:=mg
 base:=base
 A:=A.deeper (cQH qual scope s.heap.objs.size f cd)
 N:=N
 s₀:=s
 H₀:=H
 env:=cQH qual scope s.heap.objs.size f cd
 outer:=outer
 stack:=cQH qual scope s.heap.objs.size f cd::outer
 ex:= []
 calm:=true
 fn:=λ_=>true
 pn:= []
 xe:=λe s'=>bKV (bKX P w) (A.deeper (cQH qual scope s.heap.objs.size f cd)) (leaving (cQH qual scope s.heap.objs.size f cd) e) (λ_ s''=>CX outer H s E e s'') (λe' s''=>CX outer H s E e' s'') s'
theorem aJ0{a:cQX}{n:Nat}{x:Str}(h:a.names.lookup x=some .cell):∃c,(cellsFrom n a.names []).lookup x=some c:=by
 have q:=PySem.W.cellsFrom_some a.names n [] (.inl h);exact Option.isSome_iff_exists.mp q
theorem aKu{CX:CXT}{P:bK9}{w:bYf}{K:bKP}{mg:Str->Option bKN}{base:Heap}{N ps:List Str}{qual:Str}{scope:cQX}{f:Addr}{o:bKN}{A:bYr}{outer:List Env}{s t:bKQ}{H:Hp}{E:XK}{us:List bKN}{vs:List V} (S:yM N ps scope) (G:A.handled=none) (d:bZW P w K mg base A outer s H) (hl:vs.length=ps.length) (r:xS vs us) (x:InCallC s s.heap.objs.size (bindL (cQH qual scope s.heap.objs.size f o).kindOf (ps.zip us) λ_=>none) (cellsFrom (s.heap.objs.size+1) scope.names []) (bindC (cQH qual scope s.heap.objs.size f o).kindOf (ps.zip us) λ_=>none) t): Inv (aXf CX P w K mg base N qual scope f o A outer s H E) [] (start N vs) H t:=by
 have F:ps.length<=N.length:=by have:=congrArg cXh S.pre;rw[bY4]at this;omega
 obtain⟨h1,tk,rfl,C⟩:=x.done;have j:∀b:Addr,b∉(aXf CX P w K mg base N qual scope f o A outer s H E).ex:=λb z=>absurd (show b∈([]:List Addr)from z) (by simp);refine⟨⟨d.mod,S.kind,rfl,rfl,bKU _,λy z c h1 h2=>?_,λy g=>?_,λy c _ h=>?_,λ_=>G,Around.frames_deeper d.frames,.inr ⟨rfl,rfl⟩,λb z=>absurd z (j b),d.bs,d.bsz,λb _ _=>j b,λb z=>absurd z (j b),d.funs,d.frf⟩,rfl,d.bare,Un.kept C,⟨_,x.toInCall.ns,λi y v h1 h2 J=>?_⟩,λy c h=>⟨_,x.cell y c h⟩,d.hok.fresh (bKU _),λy c h=>?_,λp l=>absurd (show p∈([]:List (Addr×Obj))from l) (by simp),d.hok.kept C,?_⟩
 ·exact name_of_addr x.apart (cQg h1) (cQg h2)
 ·have g:scope.names.lookup y=some .cell\/scope.names.lookup y=some .free:=g;rcases g with g|g
  ·exact aJ0 g
  ·exact absurd rfl (S.nofree _ (cQg g))
 ·exact cXo (x.above y c (cQg h))
 ·have hi:i<vs.length:=by
   unfold start at h2;by_cases hi:i<vs.length
   ·exact hi
   ·rw[bYc (by simpa using hi)]at h2;rw[List.getElem?_replicate]at h2;split at h2<;> cases h2
  have I:vs[i]? =some v:=by
   unfold start at h2;rw[bYA (by simpa using hi),bK7]at h2;cases e:vs[i]? with
   |none=>rw[e]at h2;cases h2
   |some a=>rw[e]at h2;cases h2;rfl
  obtain⟨u,B,D⟩:=r.get I;have l:ps[i]? =some y:=by rw[<- S.pre,List.getElem?_take_of_lt (by omega)];exact h1
  have m:ps.Nodup:=by rw[<- S.pre];exact S.nd.sublist (List.take_sublist _ _)
  refine⟨u,D,?_⟩;rcases S.par y (bK5 l)with k|k
  ·exact .inl ⟨k,aXZ m l B k⟩
  ·obtain⟨c,e⟩:=aJ0 (n:=s.heap.objs.size+1) k;refine .inr ⟨.inl k,c,e,?_⟩;have q:=x.cell y c e;rw[aXX m l B (by show scope.names.lookup y≠_;rw[k];decide)]at q;exact q
 ·exact d.hok.fresh (cXo (x.above y c (cQg h)))
 ·unfold start;show _=N.length;rw[bYh,bKT,List.length_replicate];omega
theorem bJd{CX:CXT}{P:bK9}{w:bYf}{K:bKP}{mg:Str->Option bKN}{base:Heap}{k:Nat}{f:Addr}{name qual:Str}{c:Arguments}{body:List Stmt}{scope:cQX}{M kV m L a ct R:bKN}{O Y:Option Addr} {C:Array (Option bKN)} {N ps:List Str} {sp:Sp} (lk:K.lookup f=some ⟨R,Y,.func (bY7 name qual c body scope M kV m L O a ct),C⟩) (D:cQt K a qual=true) (S:yM N ps scope) (len:∀vs H Q E,sp vs H Q E->vs.length=ps.length) (g:∀ (A:bYr)(outer:List Env)(s:bKQ)(H:Hp)(vs:List V)(Q:VK)(E:XK),vJ k (A.deeper (cQH qual scope s.heap.objs.size f a))->sp vs H Q E-> ∃t,PSs (aXf CX P w K mg base N qual scope f a A outer s H E) body t/\t {nx:=λ_ H'=>Q .non H',rt:=Q} (start N vs) H): y8 P w K mg base CX (k+1) f (bY7 name qual c body scope M kV m L O a ct) ps sp:=by
 refine⟨len,λA outer s H args Z vs Q E z j hb r l=>?_⟩;have hl:=len _ _ _ _ l;have G:K.In s.heap:=j.mod.kin.keeps λb o e=>(j.bs b o e).1;have B:s.heap.NoLimit:=j.mod.nolimit.keeps λb o e=>(j.bs b o e).1;have h:∀y∈ps.zip Z,scope.names.lookup y.1=some .local\/(scope.names.lookup y.1=some .cell/\((cellsFrom (s.heap.objs.size+1) scope.names []).lookup y.1).isSome=true):=λ⟨n,v⟩ hy=>by
  rcases S.par n (List.of_mem_zip hy).1 with q|q
  ·exact .inl q
  ·exact .inr ⟨q,PySem.W.cellsFrom_some _ _ _ (.inl q)⟩
 refine codeAny_call_function z.depth (G _ _ lk) rfl S.co S.gen rfl (PySem.W.codeRec_of G D) (hb _ _ _ _ ?_);refine wpAny_newFunctionEnv_cells S.kind h λenv T F x=>?_;subst T;refine⟨B.keeps x.toInCall.keep,codeAny_func ?_⟩;obtain⟨t,X,U⟩:=g A outer s H vs Q E (z.deeper _) l;have I:Inv (aXf CX P w K mg base N qual scope f a A outer s H E) [] (start N vs) H F:=aKu S z.hd j hl r x;refine bYN (X [] F (start N vs) H _ I U) (λfl s' i=>?_) λe s' i=>i;have fin:∀ {d:St} {H':Hp} {v:V} {u:bKN},Inv (aXf CX P w K mg base N qual scope f a A outer s H E) [] d H' s'->zC v u->Q v H'->CE outer P w H s Q u s':=
  λ{d H' v u} J p q=>⟨v,H',J.os,J.bare,J.base,J.hok,p,q⟩
 cases fl with
 |ret u=>obtain⟨v,d,H',J,p,q⟩:=i;exact fin J p q
 |next=>obtain⟨d,H',J,q⟩:=i;exact fin (v:=V.non) (u:=Value.none) J rfl q
 |brk=>obtain⟨_,_,_,q⟩:=i;exact cQi q
 |cont=>obtain⟨_,_,_,q⟩:=i;exact cQi q
end L2
namespace L2
open PySem PySem.Spec PyProof.Rows
section
variable {X:Cx}{x:Str}{p pos:Pos}{e:Expr}{es:List Expr}{t:TA}{id T:String}{r:List V->Hp->VK->Prop}
def tCB(r:List V->Hp->VK->Prop)(t:TA):TE:=λσ H Q=>t σ H λa H1=>r a H1 Q
theorem yU(d:jM X (.builtin id) r)(g:Gl X x)(f:X.mg x=none)(i:bYy x=some (.builtin id))(j:PA X (e::es) t)(k:x≠"__name__":=by decide)(a:(x==("__debug__":Str))=false:=by decide)
  (c:bYp (e::es) X.env=(false,eval e X.env)::bYp es X.env:=by rfl) (b:(cQp pos (bYp es X.env)).any (·.1)=false:=by rfl):PE X (.Call (.Name x p) (e::es) [] pos) (tCB r t):=by
 intro pins s σ H Q I h
 refine cQq (aQ3 I g f i ?_ k a)
 exact PyProof.Rows.callWith_builtin1 (thn (j pos pins s σ H _ I h) λus s1 ⟨vs,H1,I1,r1,q1⟩=>d pins s1 σ H1 vs us Q I1 r1 q1) c b
theorem xT(d:jM X (.type T) r)(g:Gl X x)(f:X.mg x=none)(i:bYy x=some (.type T))(j:PA X (e::es) t)(k:x≠"__name__":=by decide)(a:(x==("__debug__":Str))=false:=by decide)
  (c:bYp (e::es) X.env=(false,eval e X.env)::bYp es X.env:=by rfl) (b:(cQp pos (bYp es X.env)).any (·.1)=false:=by rfl):PE X (.Call (.Name x p) (e::es) [] pos) (tCB r t):=by
 intro pins s σ H Q I h
 refine cQq (aQ3 I g f i ?_ k a)
 exact cXO (thn (j pos pins s σ H _ I h) λus s1 ⟨vs,H1,I1,r1,q1⟩=>d pins s1 σ H1 vs us Q I1 r1 q1) c b
end
end L2
namespace HT
open PySem PyProof.Rows
theorem bXy(A:bYr)(s:bKQ)(a:Int)(t:Tok)(c:Int)(u:Tok)(prog:bK9)(w:bYf)(E:bKN->bKQ->Prop)(Q:bKN->bKQ->Prop)(h:Q (.bool (decide (a<c))) s): bKV (bKX prog w) A (richCompare .Lt (.int a t) (.int c u)) Q E s:=
 (PyProof.Rows.lt_int h:bKV (bKX prog w) A (cQh .Lt (.int a t) (.int c u)) Q E s)
section
open PySem.SeqAt
open PySem.AutoSeq1 (wpAny_loadPart')
open PySem.MeetsSeq PySem.MeetsSeq2 PySem.MeetsSeq3
end
section
variable {prog:bK9}{w:bYf}{A:bYr}{E:bKN->bKQ->Prop}{s:bKQ}
theorem bZ4{t b:Addr}{vs a:List bKN}{Q:bKN->bKQ->Prop}(v:cXG s.heap t vs.toArray)(x:cXG s.heap b a.toArray)(u:vs≠ []) (h1:a= []->Q (.ref t) s) (h2:a≠ []->Q (.ref s.heap.objs.size) {s with heap:=s.heap.push {cls:= .type "tuple",data:= .seq (vs++a).toArray} }) (k:vs.length+a.length<=bYd):bKV (bKX prog w) A (cXs .Add (.ref t) (.ref b)) Q E s:=by
 obtain⟨⟨cls,p,data,l⟩,i,r,n,o⟩:=id v;obtain⟨⟨q,g,j,h⟩,c,d,m,f⟩:=id x;simp only at r o d f;subst r o d f;have e:vs.toArray++a.toArray=(vs++a).toArray:=by simp
 by_cases hw:a= []
 ·exact concat_meets ⟨_,i,rfl⟩ ⟨_,c,rfl⟩ noFill_tuple_add seq_tuple_add PySem.F.slot_tuple_add PySem.F.entry_tuple_add (cZ8 _ _)
   (tuple_addW1 t b vs.toArray a.toArray n m p g l h (by simpa using u) (by simp[hw])) ⟨i,c,h1 hw⟩
 ·refine concat_meets ⟨_,i,rfl⟩ ⟨_,c,rfl⟩ noFill_tuple_add seq_tuple_add PySem.F.slot_tuple_add PySem.F.entry_tuple_add (cZ8 _ _)
   (tuple_addW2 t b vs.toArray a.toArray n m p g l h (by simpa using u) (by simpa using hw) (by rw[bK6,bK6];exact k)) ⟨i,c,?_⟩
  rw[e];exact h2 hw
def sIx(n d:Nat):Option Int->Nat
 |none=>d
 |some v=>if v<0 then(v+(n:Int)).toNat else min v.toNat n
theorem bXA(n d:Nat):sIx n d none=d:=rfl
end
end HT
namespace L2
open PySem PySem.Spec PyProof.Rows
abbrev TO:=St->Hp->(Option Int->Hp->Prop)->Prop
def PO(X:Cx)(e:Option Expr)(t:TO):Prop:=
 ∀ (pins:List (Addr×Obj))(s:bKQ)(σ:St)(H:Hp)(Q:Option Int->Hp->Prop),Inv X pins σ H s->t σ H Q->
  bKV (bKX X.prog X.w) X.A (evalPart e X.env) (λu s'=>∃o H',Inv X pins σ H' s'/\IsPart u o/\Q o H') X.xe s
def bVt:TO:=λ_ H Q=>Q none H
def bKh(t:TE):TO:=λσ H Q=>t σ H λx H1=>∃i,x= .int i/\Q (some i) H1
theorem aQ1{a:List Int}:∀ {us:List bKN},xS (a.map V.int) us->cXi us a:=by
 induction a with
 |nil=>intro us r;rw[List.map_nil]at r;cases r;exact .nil
 |cons n a c=>
  intro us r;rw[bYx]at r;cases r with
  |cons d b=>obtain⟨t,e⟩:=d;subst e;exact .cons n t (c b)
section
variable {X:Cx}{e:Expr}{te:TE}{lo hi:Option Expr}{tl th:TO}{pos p2:Pos}
theorem aJu:PO X none bVt:=by
 intro pins s σ H Q I h;rw[evalPart_none];exact bKS ⟨none,H,I,.none,h⟩
theorem aJv(h:PE X e te):PO X (some e) (bKh te):=by
 intro pins s σ H Q I hw;rw[evalPart_some];refine thn (h pins s σ H _ I hw) λu s1 ⟨x,H1,I1,r1,q1⟩=>?_;obtain⟨i,rfl,q⟩:=q1;obtain⟨t,rfl⟩:=r1;exact⟨some i,H1,I1,.int i t,q⟩
def SlR(X:Cx)(r:V->Option Int->Option Int->Hp->VK->Prop):Prop:=
 ∀ (pins:List (Addr×Obj))(s:bKQ)(σ:St)(H:Hp)(x:V)(v b c:bKN)(lo hi:Option Int)(a:Addr)(Q:VK),Inv X pins σ H s->zC x v->s.heap.IsSliceOf a b c .none->IsPart b lo->IsPart c hi->r x lo hi H Q->
  ∃T id,typeLookup (.type T) "__getitem__"=pure (some (.builtin id))/\s.TypeIs v T/\bKV (bKX X.prog X.w) X.A (getItem v (.ref a)) (EP X pins σ Q) X.xe s
def tSl(r:V->Option Int->Option Int->Hp->VK->Prop)(te:TE)(tl th:TO):TE:=λσ H Q=>te σ H λx H1=>tl σ H1 λl H2=>th σ H2 λu a=>r x l u a Q
theorem aXq{r:V->Option Int->Option Int->Hp->VK->Prop}(a:SlR X r)(f:PE X e te)(hl:PO X lo tl)(d:PO X hi th):PE X (.Subscript e (.Slice lo hi none p2) pos) (tSl r te tl th):=by
 intro pins s σ H Q I h;refine Subscript_ (thn (f pins s σ H _ I h) λv s1 ⟨x,H1,I1,r1,q1⟩=>?_);refine wpAny_Slice (thn (hl pins s1 σ H1 _ I1 q1) λvl s2 ⟨l,H2,I2,pl,q2⟩=>thn (d pins s2 σ H2 _ I2 q2) λvu s3 ⟨u,H3,I3,pu,q3⟩=>?_);rw[evalPart_none];refine bKS ?_;have i:Inv X pins σ H3 {s3 with heap:=s3.heap.push {cls:= .type "slice",data:= .fields #[vl,vu,.none] } }:=I3.kept (t':=s3.toks) λb k q=>bKR _ q;obtain⟨T,id,c,g,j⟩:=a pins {s3 with heap:=s3.heap.push {cls:= .type "slice",data:= .fields #[vl,vu,.none] } } σ H3 x v vl vu l u s3.heap.objs.size Q i r1 (Heap.IsSliceOf.new ..) pl pu q3;show bKV (bKX X.prog X.w) X.A (subscriptTail e (.Slice lo hi none p2) v (.ref s3.heap.objs.size)) (EP X pins σ Q) X.xe {s3 with heap:=s3.heap.push {cls:= .type "slice",data:= .fields #[vl,vu,.none] } };exact tail_any (ops:= [.ref s3.heap.objs.size,v]) g c j (by with_unfolding_all rfl)
def aXe(xs:List V)(lo hi:Option Int):List V:=(xs.drop (HT.sIx xs.length 0 lo)).take (HT.sIx xs.length xs.length hi - HT.sIx xs.length 0 lo)
theorem aZ3(xs:List V)(lo hi:Option Int):(aXe xs lo hi).length<=xs.length:=by
 unfold aXe;rw[bY4,List.length_drop];omega
def bW7(K:bKP):R2:=λx y H Q=>∃a b xs ys,x= .ref a/\y= .ref b/\SqT K H a xs/\SqT K H b ys/\xs≠ []/\xs.length+ys.length<=bYd/\
 (ys= []->Q (.ref a) H)/\(ys≠ []->∀p,H p=none->Q (.ref p) (upd H p (.tup (xs++ys))))
theorem xS.nil_iff{xs:List V}{us:List bKN}(r:xS xs us):us= []↔xs= []:=by
 cases r with
 |nil=>simp
 |cons _ _=>simp
theorem bJL:OpR X (cXs .Add) (bW7 X.K):=by
 intro pins s σ H x y v u Q I i m h;obtain⟨a,b,xs,ys,rfl,rfl,k,n,r,e,j,g⟩:=h;cases i;cases m;obtain⟨l,d,p,_⟩:=I.tuple k;obtain⟨f,c,p2,_⟩:=I.tuple n;refine HT.bZ4 p p2 (λz=>r (d.nil_iff.mp z)) (λz=>⟨.ref a,H,I,rfl,j (c.nil_iff.mp z)⟩) (λz=>?_) (by rw[<- d.length,<- c.length];exact e);refine⟨.ref s.heap.objs.size,_,I.laid (t':=s.toks) (o:= .tup (xs++ys)) (λb t q=>bKR _ q) (bKU _) ?_,rfl,g (λw=>z (c.nil_iff.mpr w)) _ (I.hok.fresh (bKU _))⟩;exact⟨by rw[bYh];exact e,_,d.append c,IsTup.new _ _⟩
end
end L2
namespace L2
open PySem PySem.Spec PyProof.Rows
def ixN(n:Nat)(i:Int):Option Nat:=if 0<=i then(if i<n then some i.toNat else none)else if -(n:Int)<=i then some (i+n).toNat else none
def atI{α:Type}(xs:List α)(i:Int):Option α:=(ixN xs.length i).bind λj=>xs[j]?
theorem aKx{n:Nat}{i:Int}{j:Nat}(h:ixN n i=some j):seqIndex? i n=some j/\j<n/\ -(n:Int)<=i/\i<n:=by
 unfold ixN at h;by_cases h0:0<=i
 ·rw[if_pos h0]at h;by_cases h1:i<n
  ·rw[if_pos h1]at h;have e:i.toNat=j:=bK8 h;exact⟨by rw[seqIndex_of h0 h1,e],by omega,by omega,h1⟩
  ·rw[if_neg h1]at h;cases h
 ·rw[if_neg h0]at h;by_cases h1: -(n:Int)<=i
  ·rw[if_pos h1]at h;have e:(i+n).toNat=j:=bK8 h;exact⟨by rw[seqIndex_neg (by omega) h1,e],by omega,h1,by omega⟩
  ·rw[if_neg h1]at h;cases h
theorem aZW{α:Type}{xs:List α}{i:Int}{v:α}(h:atI xs i=some v):∃j,seqIndex? i xs.length=some j/\xs[j]? =some v/\j<xs.length/\ -(xs.length:Int)<=i/\i<xs.length:=by
 unfold atI at h;cases e:ixN xs.length i with
 |none=>rw[e]at h;cases h
 |some j=>rw[e]at h;obtain⟨h1,h2,a,b⟩:=aKx e;exact⟨j,h1,h,h2,a,b⟩
theorem yS{α:Type}{xs:List α}{j:Nat}{v:α}(h:xs[j]? =some v):atI xs (j:Int)=some v:=by
 have a:j<xs.length:=(bKZ.mp h).1;have e:ixN xs.length (j:Int)=some j:=by unfold ixN;rw[if_pos (by omega),if_pos (by omega)];simp
 unfold atI;rw[e];exact h
def bZ1(b:Expr):Prop:=∀o i,subscripted b false o i=operate [o,i] (getItem o i)
def IxR(X:Cx)(r:R2):Prop:=
 ∀ (value a:Expr)(pins:List (Addr×Obj))(s:bKQ)(σ:St)(H:Hp)(x y:V)(v u:bKN)(Q:VK),Inv X pins σ H s->zC x v->zC y u->r x y H Q->
  subscripted a false v u=operate [v,u] (getItem v u)->bKV (bKX X.prog X.w) X.A (subscriptTail value a v u) (EP X pins σ Q) X.xe s
def MtR(X:Cx)(id:String)(r:V->List V->Hp->VK->Prop):Prop:=
 ∀ (pins:List (Addr×Obj))(s:bKQ)(σ:St)(H:Hp)(x:V)(xs:List V)(v:bKN)(a:List bKN)(Q:VK),Inv X pins σ H s->zC x v->xS xs a->r x xs H Q->
  bKV (bKX X.prog X.w) X.A (call (.builtin id) (v::a)) (EP X pins σ Q) X.xe s
section
variable {X:Cx}{a b:Expr}{ta tb:TE}{pos:Pos}
theorem IxR.or{r e:R2}(h:IxR X r)(h':IxR X e):IxR X (λx y H Q=>r x y H Q\/e x y H Q):=by
 intro value a pins s σ H x y v u Q I b d q c;rcases q with q|q
 ·exact h value a pins s σ H x y v u Q I b d q c
 ·exact h' value a pins s σ H x y v u Q I b d q c
theorem yL{r:R2}(c:IxR X r)(g:PE X a ta)(k:PE X b tb)(f:bZ1 b:=by exact λ_ _=>rfl):PE X (.Subscript a b pos) (tOp r ta tb):=by
 intro pins s σ H Q I h;exact Subscript_ (bWW g k I h λv u i x y H2 e d j q=>c a b pins i σ H2 x y v u Q e d j q (f _ _))
def aXO(K:bKP):R2:=λx y H Q=>∃p xs i v,x= .ref p/\y= .int i/\SqL K H p xs/\atI xs i=some v/\Q v H
def bZH(K:bKP):R2:=λx y H Q=>∃p xs i v,x= .ref p/\y= .int i/\SqT K H p xs/\atI xs i=some v/\Q v H
def bKn:R2:=λx y H Q=>∃z i c,x= .str z/\y= .int i/\z.length<=bYd/\atI z.cps.toList i=some c/\Q (.str ⟨#[c]⟩) H
theorem yK:IxR X (aXO X.K):=by
 intro value c pins s σ H x y v u Q I k A h g;obtain⟨p,xs,i,z,rfl,rfl,m,l,q⟩:=h;cases k;obtain⟨t,rfl⟩:=A;obtain⟨d,r,e,C⟩:=I.list m;obtain⟨j,h1,h2,B,o,n⟩:=aZW l;obtain⟨w,f,a⟩:=r.get h2;have hl:=r.length;have D:=aZm;have fin:EP X pins σ Q w s:=⟨z,H,I,a,q⟩;by_cases h0:0<=i
 ·have b:i.toNat=j:=by
   rw[seqIndex_of h0 n]at h1;exact bK8 h1
  exact item_listR e.isList h0 (by omega) (by rw[b];simpa using f) fin g
 ·have b:(i+(d.toArray.size:Int)).toNat=j:=by
   rw[seqIndex_neg (by omega) o]at h1;rw[bK6,<- hl];exact bK8 h1
  exact subscriptTail_builtinR (x:=w) e.isList.typeIs slot_list_getitem.lookup
   (wpAny_getItem_list_neg (Q:=λr s'=>r=w/\EP X pins σ Q r s') e.isList (by omega) (by rw[bK6]<;> omega) (by omega) (by rw[b];simpa using f) ⟨rfl,fin⟩) g
theorem yW:IxR X (bZH X.K):=by
 intro value b pins s σ H x y v u Q I e m h k;obtain⟨p,xs,i,z,rfl,rfl,g,f,q⟩:=h;cases e;obtain⟨t,rfl⟩:=m;obtain⟨l,r,c,B⟩:=I.tuple g;obtain⟨j,h1,h2,o,A,n⟩:=aZW f;obtain⟨w,d,a⟩:=r.get h2;have hl:=r.length;have C:=aZm;have fin:EP X pins σ Q w s:=⟨z,H,I,a,q⟩;exact subscriptTail_builtinR (x:=w) c.typeIs slot_tuple_getitem.lookup
  (getItem_tuple (j:=j) (Q:=λr s'=>r=w/\EP X pins σ Q r s') c (by omega) (by omega) (by rw[bK6,<- hl];exact h1) (by simpa using d) ⟨rfl,fin⟩) k
theorem Q5:IxR X bKn:=by
 intro value a pins s σ H x y v u Q I b m h f;obtain⟨z,i,c,rfl,rfl,o,e,q⟩:=h;obtain⟨t,rfl⟩:=b;obtain⟨p,rfl⟩:=m;obtain⟨j,h1,h2,n,k,g⟩:=aZW e;have hl:z.cps.toList.length=z.length:=by simp[Str.length]
 rw[hl]at h1 k g;have r:=aZm;exact tail_any (typeIs_str s z t) slot_str_getitem.lookup (getItem_str (c:=c) (by
  have l:decide (i< -(2 ^ 63:Int))=false:=decide_eq_false (by omega);have d:decide (i≥2 ^ 63)=false:=decide_eq_false (by omega);rw[l,d,Bool.or_false]) (by rw[h1];simpa using h2) ⟨.str ⟨#[c]⟩,H,I.tok _,⟨_,rfl⟩,q⟩) f
def rIx(K:bKP):R2:=λx y H Q=>aXO K x y H Q\/bZH K x y H Q\/bKn x y H Q
theorem bZw:IxR X (rIx X.K):=yK.or (yW.or Q5)
theorem aWf(its:List bKN)(n j:Nat)(u:bKN):bYE (·.setIfInBounds j u) {cls:= .type "list",data:= .seq its.toArray n}= {cls:= .type "list",data:= .seq (its.set j u).toArray n}:=by
 simp[bYE]
theorem Inv.lst{pins:List (Addr×Obj)}{σ:St}{H:Hp}{s:bKQ}{p:Addr}{xs:List V}(I:Inv X pins σ H s)(h:H p=some (.lst xs)): ∃ (its:List bKN)(n:Nat),xS xs its/\s.heap.get? p=some {cls:= .type "list",data:= .seq its.toArray n}/\xs.length<=bYd:=by
 obtain⟨z,its,n,r,e⟩:=I.hok p _ h;exact⟨its,n,r,e,z⟩
theorem Inv.lstUpd{pins:List (Addr×Obj)}{σ:St}{H:Hp}{s:bKQ}{p:Addr}{xs ys:List V}{its its':List bKN}{n a:Nat}{f:Obj->Obj}(I:Inv X pins σ H s)(h:H p=some (.lst xs)) (d:s.heap.get? p=some {cls:= .type "list",data:= .seq its.toArray n}) (c:f {cls:= .type "list",data:= .seq its.toArray n}= {cls:= .type "list",data:= .seq its'.toArray a}) (r:xS ys its') (g:ys.length<=bYd) (t:Nat): Inv X pins σ (upd H p (.lst ys)) {s with heap:=s.heap.update p f,toks:=t}:=by
 have e:(s.heap.update p f).get? p=some {cls:= .type "list",data:= .seq its'.toArray a}:=by rw[bYO f d (by rw[c]<;> rfl),c]
 refine I.write (x:=p) (e:=p) (by rw[h];trivial) (.inl rfl) (λb u i q=>(bYk _ _ (bYv i)).trans q) ⟨_,e⟩ ?_;exact⟨g,its',a,r,e⟩
def bW8:V->V->V->Hp->(Hp->Prop)->Prop:=λo i v H Q=>∃p xs k j,o= .ref p/\i= .int k/\H p=some (.lst xs)/\ixN xs.length k=some j/\Q (upd H p (.lst (xs.set j v)))
theorem zP:bKl X bW8:=by
 intro pins s σ H o i v A z u Q I y w l h;obtain⟨p,xs,k,j,rfl,rfl,e,m,q⟩:=h;cases y;obtain⟨t,rfl⟩:=w;obtain⟨a,n,r,b,x⟩:=I.lst e;obtain⟨h1,h2,f,g⟩:=aKx m;have hl:=r.length;have B:=aZm;have d:Inv X pins σ (upd H p (.lst (xs.set j v))) {s with heap:=s.heap.update p (bYE (·.setIfInBounds j u)) }:=
  I.lstUpd e b (aWf a n j u) (r.set l j) (by rw[List.length_set];exact x) s.toks
 by_cases h0:0<=k
 ·have c:k.toNat=j:=by
   rw[seqIndex_of h0 g]at h1;exact bK8 h1
  exact PySem.W.ki_setAt b h0 (by omega) (by rw[bK6,<- hl];exact g) (by rw[c];exact⟨_,d,q⟩)
 ·have c:(k+(a.toArray.size:Int)).toNat=j:=by
   rw[seqIndex_neg (by omega) f]at h1;rw[bK6,<- hl];exact bK8 h1
  exact PySem.W.ki_setBack b (by omega) (by rw[bK6,<- hl];exact f) (by omega) (by rw[c];exact⟨_,d,q⟩)
theorem aZG(lo hi:Option Int)(n:Nat):(cX4 lo hi none n).1=((HT.sIx n 0 lo:Nat):Int)/\(cX4 lo hi none n).2.1=((HT.sIx n n hi:Nat):Int)/\(cX4 lo hi none n).2.2=1:=by
 refine⟨?_,?_,rfl⟩
 ·cases lo with
  |none=>simp[cX4,HT.sIx]
  |some i=>
   simp only[cX4,HT.sIx,Option.getD_none,show(1:Int) > 0 by decide,if_true];by_cases h:i<0
   ·simp only[h,if_true]<;> omega
   ·simp only[h,if_false]<;> omega
 ·cases hi with
  |none=>simp[cX4,HT.sIx]
  |some i=>
   simp only[cX4,HT.sIx,Option.getD_none,show(1:Int) > 0 by decide,if_true];by_cases h:i<0
   ·simp only[h,if_true]<;> omega
   ·simp only[h,if_false]<;> omega
theorem aXJ(its:List bKN)(lo hi:Option Int):slicePick its.toArray lo hi none=((its.drop (HT.sIx its.length 0 lo)).take (HT.sIx its.length its.length hi - HT.sIx its.length 0 lo)).toArray:=by
 obtain⟨h1,h2,a⟩:=aZG lo hi its.toArray.size;unfold slicePick;rw[h1,h2,a];simp only[sliceRange_one,pick_run,bK6]<;> rfl
def bKD(K:bKP):V->Option Int->Option Int->Hp->VK->Prop:=λx lo hi H Q=>∃a xs,x= .ref a/\SqL K H a xs/\∀p,H p=none->Q (.ref p) (upd H p (.lst (aXe xs lo hi)))
theorem aJR:SlR X (bKD X.K):=by
 intro pins s σ H x v p t lo hi m Q I f g k e h;obtain⟨a,xs,rfl,l,q⟩:=h;cases f;obtain⟨j,r,d,i⟩:=I.list l;have c:=r.length;refine⟨"list",_,slot_list_getitem.lookup,d.isList.typeIs,?_⟩;refine wpAny_getItem_list_slice d.isList g k e .none (by simp) ?_ (by rw[bK6]<;> omega);rw[aXJ,<- c];refine⟨.ref s.heap.objs.size,_,I.laid (t':=s.toks) (o:= .lst (aXe xs lo hi)) (λb n q=>bKR _ q) (bKU _) ?_,rfl,q _ (I.hok.fresh (bKU _))⟩;exact⟨bYo (aZ3 xs lo hi) i,_,0,(r.drop (HT.sIx xs.length 0 lo)).take (HT.sIx xs.length xs.length hi - HT.sIx xs.length 0 lo),bYg _ rfl⟩
def Z7:V->Bool
 |.non=>true
 |.bl _=>true
 |.int _=>true
 |.str _=>true
 |_=>false
def eqV:V->V->Bool
 |.non,.non=>true
 |.bl a,.bl b=>a==b
 |.bl a,.int b=>(if a then 1 else 0)==b
 |.int a,.bl b=>a==(if b then 1 else 0)
 |.int a,.int b=>a==b
 |.str a,.str b=>a==b
 |_,_=>false
theorem bZs{A:bYr}{s:bKQ}{y x:V}{u v:bKN}(e:zC y u)(c:zC x v)(g:Z7 y=true)(f:Z7 x=true):cJb A s u v (eqV y x):=by
 cases y with
 |non=>
  cases e;cases x with
  |non=>cases c;exact SeqAt.EqAt.same _
  |bl b=>cases c;exact SeqAt.EqAt.none_bool b
  |int b=>obtain⟨t,rfl⟩:=c;exact SeqAt.EqAt.none_int b t
  |str b=>obtain⟨t,rfl⟩:=c;exact SeqAt.EqAt.none_str b t
  |_=>exact absurd (show false=true from f) Bool.false_ne_true
 |bl a=>
  cases e;cases x with
  |non=>cases c;exact SeqAt.EqAt.bool_none a
  |bl b=>cases c;exact SeqAt.EqAt.bool_bool a b
  |int b=>obtain⟨t,rfl⟩:=c;exact SeqAt.EqAt.bool_int a b t
  |str b=>obtain⟨t,rfl⟩:=c;exact SeqAt.EqAt.bool_str a b t
  |_=>exact absurd (show false=true from f) Bool.false_ne_true
 |int a=>
  obtain⟨d,rfl⟩:=e;cases x with
  |non=>cases c;exact SeqAt.EqAt.int_none a d
  |bl b=>cases c;exact SeqAt.EqAt.int_bool a d b
  |int b=>obtain⟨t,rfl⟩:=c;exact SeqAt.EqAt.int_int a d b t
  |str b=>obtain⟨t,rfl⟩:=c;exact SeqAt.EqAt.int_str a d b t
  |_=>exact absurd (show false=true from f) Bool.false_ne_true
 |str a=>
  obtain⟨d,rfl⟩:=e;cases x with
  |non=>cases c;exact SeqAt.EqAt.str_none a d
  |bl b=>cases c;exact SeqAt.EqAt.str_bool a d b
  |int b=>obtain⟨t,rfl⟩:=c;exact SeqAt.EqAt.str_int a d b t
  |str b=>obtain⟨t,rfl⟩:=c;exact SeqAt.EqAt.str_str a d b t
  |_=>exact absurd (show false=true from f) Bool.false_ne_true
 |_=>exact absurd (show false=true from g) Bool.false_ne_true
def eqU(x:V)(u:bKN):Bool:=match u with
 |.none=>eqV .non x
 |.bool b=>eqV (.bl b) x
 |.int i _=>eqV (.int i) x
 |.str z _=>eqV (.str z) x
 |_=>false
theorem bZt{x y:V}{u:bKN}(r:zC y u)(f:Z7 y=true):eqU x u=eqV y x:=by
 cases y with
 |non=>cases r;rfl
 |bl b=>cases r;rfl
 |int i=>obtain⟨t,rfl⟩:=r;rfl
 |str z=>obtain⟨t,rfl⟩:=r;rfl
 |_=>exact absurd (show false=true from f) Bool.false_ne_true
theorem Q0{x:V}:∀ {xs:List V} {us:List bKN},xS xs us->xs.all Z7=true->us.any (eqU x)=xs.any λy=>eqV y x
 |_,_,.nil,_=>rfl
 |y::xs,u::us,.cons r t,f=>by rw[cXX,Bool.and_eq_true]at f;rw[cQ2,cQ2,bZt r f.1,Q0 t f.2]
theorem qJ{A:bYr}{s:bKQ}{x:V}{v:bKN}(c:zC x v)(b:Z7 x=true):∀ {xs:List V} {us:List bKN},xS xs us->xs.all Z7=true->∀u∈us,cJb A s u v (eqU x u)
 |_,_,.nil,_=>λu a=>by cases a
 |y::xs,u::us,.cons r t,f=>λd a=>by
  rw[cXX,Bool.and_eq_true]at f;rcases bKW.mp a with rfl|a
  ·rw[bZt r f.1];exact bZs r c f.1 b
  ·exact qJ c b t f.2 d a
def inV(x:V)(xs:List V):Bool:=xs.any λy=>eqV y x
def rIn(K:bKP)(a:Bool):R2:=λx y H Q=>∃p xs,y= .ref p/\(SqL K H p xs\/SqT K H p xs)/\Z7 x=true/\xs.all Z7=true/\Q (.bl (if a then !inV x xs else inV x xs)) H
theorem wS:OpR X (cQh .In) (rIn X.K false):=by
 intro pins s σ H x y v u Q I d g h;obtain⟨p,xs,rfl,b,e,fs,q⟩:=h;cases g;rcases b with b|b
 ·obtain⟨a,r,c,f⟩:=I.list b;refine SeqAt.in_listAt (eqU x) c.isList (λw hw=>qJ d e r fs w (by simpa using hw)) ⟨.bl _,H,I,rfl,?_⟩;rw[show a.toArray.any (eqU x)=a.any (eqU x) by simp,Q0 r fs];exact q
 ·obtain⟨a,r,c,f⟩:=I.tuple b;refine SeqAt.in_tupleAt (eqU x) c (λw hw=>qJ d e r fs w (by simpa using hw)) ⟨.bl _,H,I,rfl,?_⟩;rw[show a.toArray.any (eqU x)=a.any (eqU x) by simp,Q0 r fs];exact q
theorem Z1:OpR X (cQh .NotIn) (rIn X.K true):=by
 intro pins s σ H x y v u Q I d g h;obtain⟨p,xs,rfl,b,e,fs,q⟩:=h;cases g;rcases b with b|b
 ·obtain⟨a,r,c,f⟩:=I.list b;refine SeqAt.notIn_listAt (eqU x) c.isList (λw hw=>qJ d e r fs w (by simpa using hw)) ⟨.bl _,H,I,rfl,?_⟩;rw[show a.toArray.any (eqU x)=a.any (eqU x) by simp,Q0 r fs];exact q
 ·obtain⟨a,r,c,f⟩:=I.tuple b;refine SeqAt.notIn_tupleAt (eqU x) c (λw hw=>qJ d e r fs w (by simpa using hw)) ⟨.bl _,H,I,rfl,?_⟩;rw[show a.toArray.any (eqU x)=a.any (eqU x) by simp,Q0 r fs];exact q
theorem yQ:jM X (.builtin "len") (λxs H Q=>∃p ys,xs= [.ref p]/\(SqL X.K H p ys\/SqT X.K H p ys)/\Q (.int ys.length) H):=by
 intro pins s σ H xs i Q I r h;obtain⟨p,ys,rfl,b,q⟩:=h;obtain⟨u,rfl,f⟩:=aQL r;cases f;have j:=aZm;rcases b with b|b
 ·obtain⟨c,e,d,g⟩:=I.list b;have a:=e.length;exact Calls.call_len_list d.isList (by simp only[bK6]<;> omega) ⟨.int ys.length,H,I.tok _,⟨s.toks+1,by rw[bK6,a]⟩,q⟩
 ·obtain⟨c,e,d,g⟩:=I.tuple b;have a:=e.length;exact len_tuple d (by simp only[bK6]<;> omega) ⟨.int ys.length,H,I.tok _,⟨s.toks+1,by rw[bK6,a]⟩,q⟩
theorem vA:jM X (.type "list") (λxs H Q=>∃p ys,xs= [.ref p]/\(SqL X.K H p ys\/SqT X.K H p ys)/\∀l,H l=none->Q (.ref l) (upd H l (.lst ys))):=by
 intro pins s σ H xs y Q I r h;obtain⟨p,ys,rfl,f,q⟩:=h;obtain⟨u,rfl,x⟩:=aQL r;cases x;have fin:∀ (a:List bKN),xS ys a->ys.length<=bYd->∀ (h':Heap)(c:Nat),(∀b o',s.heap.get? b=some o'->h'.get? b=some o')->
   h'.get? s.heap.objs.size=some {cls:= .type "list",dict:=none,data:= .seq a.toArray c,slots:= #[] }->EP X pins σ Q (.ref s.heap.objs.size) {s with heap:=h'}:=λa d j h' c g e=>
  ⟨.ref s.heap.objs.size,_,I.laid (t':=s.toks) g (bKU _) (show x0 X.prog X.w _ h' _ (.lst ys)from⟨j,a,c,d,e⟩),rfl,q _ (I.hok.fresh (bKU _))⟩
 rcases f with f|f
 ·obtain⟨a,d,t,j⟩:=I.list f;have i:=d.length;obtain⟨o,m,v,n,k⟩:=t.isList;exact call_list_seq p (.inl rfl) m v k (λh' c g e=>fin a d j h' c g e) (by simp only[bK6]<;> omega)
 ·obtain⟨a,d,t,j⟩:=I.tuple f;have i:=d.length;obtain⟨o,m,v,n,k⟩:=t;exact call_list_seq p (.inr rfl) m v k (λh' c g e=>fin a d j h' c g e) (by simp only[bK6]<;> omega)
theorem qE:jM X (.type "tuple") (λxs H Q=>∃p ys,xs= [.ref p]/\((SqL X.K H p ys/\∀l,H l=none->Q (.ref l) (upd H l (.tup ys)))\/(SqT X.K H p ys/\Q (.ref p) H))):=by
 intro pins s σ H xs t Q I r h;obtain⟨p,ys,rfl,h⟩:=h;obtain⟨u,rfl,k⟩:=aQL r;cases k;rcases h with⟨c,q⟩|⟨c,q⟩
 ·obtain⟨a,f,d,j⟩:=I.list c;have i:=f.length;refine call_tuple_list d.isList (λh' n=>?_) (by simp only[bK6]<;> omega);have g:Inv X pins σ H {s with heap:=h'}:=I.kept (t':=s.toks) n;have m:Inv X pins σ (upd H h'.objs.size (.tup ys)) {s with heap:=h'.push {cls:= .type "tuple",data:= .seq a.toArray} }:=
   g.laid (t':=s.toks) (λb o e=>bKR _ e) (bKU _) (show x0 X.prog X.w _ _ _ (.tup ys)from⟨j,a,f,IsTup.new _ _⟩)
  exact⟨.ref h'.objs.size,_,m,rfl,q _ (g.hok.fresh (bKU _))⟩
 ·obtain⟨a,f,d,j⟩:=I.tuple c;exact call_tuple_same d ⟨.ref p,H,I,rfl,q⟩
def tyV(K:bKP)(T:String)(x:V)(H:Hp):Prop:=match x with
 |.str _=>T="str"
 |.int _=>T="int"
 |.ref p=>(T="list"/\∃xs,SqL K H p xs)\/(T="tuple"/\∃o,K.lookup p=some o/\o.cls= .type "tuple"/\o.dict=none)\/
   (T="dict"/\((∃a,H p=some (.dK a))\/∃a,H p=some (.dT a)))\/(T="set"/\∃S n,H p=some (.set S n))
 |_=>False
theorem bZT{pins:List (Addr×Obj)}{σ:St}{H:Hp}{s:bKQ}{T:String}{x:V}{v:bKN}(I:Inv X pins σ H s)(r:zC x v)(ty:tyV X.K T x H): s.TypeIs v T/\∀a,v= .ref a->∃h,s.heap.get? a=some h/\h.dict=none:=by
 cases x with
 |str z=>obtain⟨t,rfl⟩:=r;cases (show T="str" from ty);exact⟨typeIs_str s z t,λ_ e=>nomatch e⟩
 |int i=>obtain⟨t,rfl⟩:=r;cases (show T="int" from ty);exact⟨typeIs_int s i t,λ_ e=>nomatch e⟩
 |ref p=>
  cases r;rcases ty with⟨rfl,xs,k⟩|⟨rfl,o,b,m,f⟩|⟨rfl,b⟩|⟨rfl,S,n,b⟩
  ·obtain⟨l,_,j,_⟩:=I.list k;refine⟨j.isList.typeIs,λa e=>?_⟩;cases e;obtain⟨o,n,e,c,f,_⟩:=j;exact⟨o,e,f⟩
  ·refine⟨⟨o,I.kIn p o b,m⟩,λa e=>?_⟩;cases e;exact⟨o,I.kIn _ o b,f⟩
  ·have z:∃o,s.heap.get? p=some o/\o.ExactDict:=by
    rcases b with⟨g,b⟩|⟨g,b⟩
    ·obtain⟨_,_,_,_,o,_,_,e,ex,_⟩:=I.hok p _ b;exact⟨o,e,ex⟩
    ·obtain⟨_,_,_,_,o,_,_,e,ex,_⟩:=I.hok p _ b;exact⟨o,e,ex⟩
   obtain⟨o,e,ex⟩:=z;refine⟨⟨o,e,ex.1⟩,λa d=>?_⟩;cases d;exact⟨o,e,ex.2.1⟩
  ·obtain⟨o,_,_,_,e,ex,_⟩:=I.hok p _ b;refine⟨⟨o,e,ex.1⟩,λa d=>?_⟩;cases d;exact⟨o,e,ex.2.1⟩
 |_=>exact cQi ty
def bKH(K:bKP)(T:String)(r:V->List V->Hp->VK->Prop)(to:TE):TE:=λσ H Q=>to σ H λx H1=>tyV K T x H1/\r x [] H1 Q
def tBM(K:bKP)(T:String)(r:V->List V->Hp->VK->Prop)(to:TE)(t:TA):TE:=λσ H Q=>to σ H λx H1=>tyV K T x H1/\t σ H1 λxs H2=>r x xs H2 Q
variable {o e:Expr}{es:List Expr}{to:TE}{t:TA}{name:Str}{apos cpos:Pos}{T id:String}{r:V->List V->Hp->VK->Prop}
theorem bZD(f:PlainAttrs T)(c:Slot T name id)(d:typeOf (.builtin id)=pure (.type "method_descriptor"))(g:MtR X id r)(e:PE X o to) (a:cXy o name X.env (eval o X.env)=eval o X.env:=by rfl) (b:(apos.endLine==cpos.line)=true:=by rfl):PE X (.Call (.Attribute o name apos) [] [] cpos) (bKH X.K T r to):=by
 intro pins s σ H Q I h;refine wpAny_Call_method0_late a b (thn (e pins s σ H _ I h) λv s1 ⟨x,H1,I1,r1,ty,q1⟩=>?_);obtain⟨h1,h2⟩:=bZT I1 r1 ty;exact⟨T,id,f,c,d,h1,h2,Calls.callWith_builtin rfl (PySem.evalArgs_none (g pins s1 σ H1 x [] v [] Q I1 r1 .nil q1))⟩
theorem uF(n:PlainAttrs T)(d:Slot T name id)(g:typeOf (.builtin id)=pure (.type "method_descriptor"))(j:MtR X id r)(l:PE X o to)(m:PA X (e::es) t)
  (b:cXy o name X.env (eval o X.env)=eval o X.env:=by rfl)
  (f:((cQp cpos (bYp (e::es) X.env)).all (λx=> !x.1) && (cXV cpos (cQ4 [] X.env)).all (λx=>x.1.isSome) && decide ((e::es).length+([]:List Keyword).length+(if([]:List Keyword).isEmpty then 0 else 1)<30))=true:=by rfl)
  (c:(apos.endLine==cpos.line)=true:=by rfl) (k:bYp (e::es) X.env=(false,eval e X.env)::bYp es X.env:=by rfl) (a:(cQp cpos (bYp es X.env)).any (·.1)=false:=by rfl):
  PE X (.Call (.Attribute o name apos) (e::es) [] cpos) (tBM X.K T r to t):=by
 intro pins s σ H Q I h
 refine wpAny_Call_method_late b f c rfl (thn (l pins s σ H _ I h) λv s1 ⟨x,H1,I1,r1,ty,q1⟩=>?_)
 obtain⟨h1,h2⟩:=bZT I1 r1 ty
 refine⟨T,id,n,d,g,h1,h2,?_⟩
 have i:=m cpos pins s1 σ H1 _ I1 q1
 rw[k]at i ⊢
 refine Calls.callWith_builtin (by show(false || (cQp cpos (bYp es X.env)).any (·.1))=false;rw[a]<;> rfl) (Calls.evalArgs_plain ?_)
 exact thn i λus s2 ⟨vs,H2,I2,r2,q2⟩=>j pins s2 σ H2 x vs v us Q I2 r1 r2 q2
end
end L2
namespace L2
open PySem PySem.Spec PyProof.Rows
def MtM(X:Cx)(id:String)(r:V->List V->Hp->VK->Prop):Prop:=
 ∀ (pins:List (Addr×Obj))(s:bKQ)(σ:St)(H:Hp)(x:V)(xs:List V)(v:bKN)(a:List bKN)(Q:VK),Inv X pins σ H s->zC x v->xS xs a->r x xs H Q->
  bKV (bKX X.prog X.w) X.A (call (.builtin id) (v::a)) (EP X pins σ Q) X.xe s
theorem xS.one:∀ {x:V} {us:List bKN},xS [x] us->∃u,us= [u]/\zC x u
 |_,_,.cons r .nil=>⟨_,rfl,r⟩
theorem xS.two:∀ {x y:V} {us:List bKN},xS [x,y] us->∃u v,us= [u,v]/\zC x u/\zC y v
 |_,_,_,.cons r (.cons q .nil)=>⟨_,_,rfl,r,q⟩
theorem xS.zero:∀ {us:List bKN},xS [] us->us= []
 |_,.nil=>rfl
theorem xS.dropLast{xs:List V}{us:List bKN}(h:xS xs us):xS xs.dropLast us.dropLast:=by
 induction h with
 |nil=>exact .nil
 |cons r t a=>
  cases t with
  |nil=>exact .nil
  |cons q b=>exact .cons r a
theorem xS.reverse{xs:List V}{us:List bKN}(h:xS xs us):xS xs.reverse us.reverse:=by
 induction h with
 |nil=>exact .nil
 |cons r t a=>rw[List.reverse_cons,List.reverse_cons];exact xS.append a (.cons r .nil)
theorem aVZ{α:Type}(l:List α):l.eraseIdx (l.length - 1)=l.dropLast:=by
 induction l with
 |nil=>rfl
 |cons a r c=>
  cases r with
  |nil=>rfl
  |cons b r=>
   have e:(a::b::r).length - 1=((b::r).length - 1)+1:=by have h1:(a::b::r).length=r.length+2:=rfl;have h2:(b::r).length=r.length+1:=rfl;omega
   rw[e,List.eraseIdx_cons_succ,c];all_goals rfl
section
variable {X:Cx}{pins:List (Addr×Obj)}{σ:St}{H:Hp}{s:bKQ}{l b:Addr}{xs ys zs:List V}
theorem Inv.lset{its its':List bKN}{n:Nat}{f:Array bKN->Array bKN}{t':Nat}(I:Inv X pins σ H s)(h:H l=some (.lst xs)) (e:s.heap.get? l=some {cls:= .type "list",data:= .seq its.toArray n}) (a:f its.toArray=its'.toArray) (c:xS ys its') (d:ys.length<=bYd): Inv X pins σ (upd H l (.lst ys)) {s with heap:=s.heap.update l (bYE f),toks:=t'}:=by
 have q:=PySem.IsL.update e f;rw[a]at q;refine I.write (x:=l) (e:=l) (by rw[h];exact trivial) (.inl rfl) (λi u b g=>(bYk s.heap (bYE f) (bYv b)).trans g) ⟨_,q⟩ ?_;exact⟨d,its',_,c,q⟩
theorem Inv.lnew{its:List bKN}{t':Nat}(I:Inv X pins σ H s)(a:xS ys its)(hz:ys.length<=bYd): Inv X pins σ (upd H s.heap.objs.size (.lst ys)) {s with heap:=s.heap.push {cls:= .type "list",data:= .seq its.toArray},toks:=t'}:=
 I.laid (λ_ _ q=>bKR _ q) (bKU _) ⟨hz,its,0,a,bYg _ rfl⟩
theorem Inv.fresh(I:Inv X pins σ H s):H s.heap.objs.size=none:=I.hok.fresh (bKU _)
theorem Inv.lstM(I:Inv X pins σ H s)(a:H l=some (.lst xs)):xs.length<=bYd/\∃ (its:List bKN)(n:Nat),xS xs its/\xs.length=its.length/\s.heap.get? l=some {cls:= .type "list",data:= .seq its.toArray n}:=by
 obtain⟨z,its,n,r,e⟩:=I.hok l _ a;exact⟨z,its,n,r,r.length,e⟩
theorem bQ2{n:Nat}(h:n<=bYd):cX7 n=false:=by
 unfold cX7;exact decide_eq_false (by omega)
end
section
variable {X:Cx}
def aYi:V->List V->Hp->VK->Prop:=λx a H Q=>∃l xs y,x= .ref l/\a= [y]/\H l=some (.lst xs)/\xs.length<bYd/\Q .non (upd H l (.lst (xs++ [y])))
theorem xG:MtM X "list.append" aYi:=by
 intro pins s σ H x i v j Q I d c h;obtain⟨l,xs,y,rfl,rfl,b,g,q⟩:=h;cases d;obtain⟨u,rfl,f⟩:=c.one;obtain⟨z,a,n,r,hl,e⟩:=I.lstM b;refine call_meets F.slot_list_append ⟨_,e,rfl⟩ F.entry_list_append (F.args_list_append_2 _ _) (PySem.list_append l a.toArray n u (by rw[bK6];omega)) ⟨e,?_⟩;refine⟨.non,_,I.lset (its':=a++ [u]) b e (by simp) (r.append (.cons f .nil)) ?_,rfl,q⟩;rw[bYh,bYX];omega
def bJQ:V->List V->Hp->VK->Prop:=λx a H Q=>∃l b xs zs,x= .ref l/\a= [.ref b]/\H l=some (.lst xs)/\H b=some (.lst zs)/\xs.length+zs.length<=bYd/\Q .non (upd H l (.lst (xs++zs)))
theorem aKN:MtM X "list.extend" bJQ:=by
 intro pins s σ H x A v B Q I k j h;obtain⟨l,b,xs,zs,rfl,rfl,g,p,y,q⟩:=h;cases k;obtain⟨u,rfl,w⟩:=j.one;cases w;obtain⟨z,c,n,r,hl,e⟩:=I.lstM g;obtain⟨z2,a,t,i,o,m⟩:=I.lstM p;have f:c.toArray.size+a.toArray.size<=bYd:=by rw[bK6,bK6];omega
 have d:¬ (!c.toArray.isEmpty && cX7 (c.toArray.size+a.toArray.size))=true:=by rw[bQ2 f,Bool.and_false];exact Bool.false_ne_true
 refine call_meets F.slot_list_extend ⟨_,e,rfl⟩ F.entry_list_extend (F.args_list_extend_2 _ _)
  (AutoSeq1.list_extend_list_list_0 l c.toArray n b a.toArray t d (by rw[bK6];omega) (by omega)) ⟨e,m,?_⟩
 refine⟨.non,_,I.lset (its':=c++a) g e (by simp) (r.append i) ?_,rfl,q⟩;rw[bYh];omega
def bKC:V->List V->Hp->VK->Prop:=λx a H Q=>∃l xs y,x= .ref l/\a= []/\H l=some (.lst xs)/\xs[xs.length - 1]? =some y/\Q y (upd H l (.lst xs.dropLast))
theorem bZB:MtM X "list.pop" bKC:=by
 intro pins s σ H x m v o Q I g f h;obtain⟨l,xs,y,rfl,rfl,d,j,q⟩:=h;cases g;have c:=f.zero;subst c;obtain⟨z,a,n,r,hl,e⟩:=I.lstM d;obtain⟨u,i,k⟩:=r.get j;have b:a.toArray[a.toArray.size - 1]? =some u:=by show a.toArray[a.length - 1]? =some u;rw[<- cQk,<- hl];exact i
 refine call_meets F.slot_list_pop ⟨_,e,rfl⟩ F.entry_list_pop (F.args_list_pop_1 _) (MeetsSeq.list_pop_last l a.toArray n u b (by rw[bK6];omega)) ⟨e,?_⟩;refine⟨y,_,I.lset (its':=a.dropLast) d e ?_ r.dropLast ?_,k,q⟩
 ·show a.toArray.eraseIdxIfInBounds (a.toArray.size - 1)=a.dropLast.toArray;rw[bK6,List.eraseIdxIfInBounds_toArray,aVZ]
 ·rw[List.length_dropLast];omega
def bKB:R2:=λx y H Q=>∃l b xs zs,x= .ref l/\y= .ref b/\H l=some (.lst xs)/\H b=some (.lst zs)/\xs.length+zs.length<=bYd/\∀p,H p=none->Q (.ref p) (upd H p (.lst (xs++zs)))
theorem aK8:OpR X (cXs .Add) bKB:=by
 intro pins s σ H x y v u Q I f m h;obtain⟨l,b,xs,zs,rfl,rfl,o,j,t,q⟩:=h;cases f;cases m;obtain⟨z,c,n,r,hl,e⟩:=I.lstM o;obtain⟨z2,a,p,d,i,g⟩:=I.lstM j;refine PySem.P.add_list e g ?_ (by rw[bK6,bK6];omega);have k:c.toArray++a.toArray=(c++a).toArray:=by simp
 rw[k];exact⟨.ref _,_,I.lnew (t':=s.toks) (r.append d) (by rw[bYh];omega),rfl,q _ I.fresh⟩
end
section
variable {prog:bK9}{w:bYf}{A:bYr}{E:bKN->bKQ->Prop}{s:bKQ}
end
section
variable {X:Cx}
end
end L2
namespace Att
open PySem PySem.W PySem.Calls PyProof.Rows
theorem Q4{P:Params}{h:Heap}:∀ (c:List Int)(vs:List bKN),WellAll P h vs (c.map WData.int)->cXi vs c:=by
 intro c;induction c with
 |nil=>intro vs w;rw[List.map_nil]at w;cases w;exact .nil
 |cons n c d=>
  intro vs w;rw[bYx]at w;cases w with
  |cons a b=>cases a;exact .cons _ _ (d _ b)
theorem aYT{l:OpenLaw}{n:Nat}(w:l.most=some n){P:Params}{h:Heap}{args:List WData}{vals:List bKN} (c:l.row.toRowW.claim.pre args=true) (j:WellAll P h vals args): ∃a m b,vals= [Value.ref a]/\args= [WData.list (b.map WData.int)]/\h.get? a=some {cls:= .type "list",data:= .seq m.toArray}/\cXi m b/\b.length<=n:=by
 have k:WShape.hasAll [] args [.list .int]=true:=(pre_splitW c).1;have o:l.pre.holds [] {args:=args}=true:=(pre_splitW c).2;obtain⟨d,r,rfl,h1,h2⟩:=hasAllW_cons k;obtain rfl:=hasAllW_nil h2;obtain⟨xs,rfl,v⟩:=hasW_list h1;obtain⟨b,rfl⟩:=items_int v;have e:b.length<=n:=by
  unfold OpenLaw.pre at o;have i:(WTm.not (.lt (.lit (.int (n:Int))) (.len (.arg 0)))).holds [] {args:= [.list (b.map .int)] }=true:=by have i:=(holds_andW o).1;rw[w]at i;exact i
  have g:=condW_of i (w_not (w_lt w_lit (w_len_list (w_arg rfl))));rw[bKT]at g;refine Nat.le_of_not_lt λq=>?_;have p:(n:Int)<((b.length:Nat):Int):=by omega
  first
   |(rw[decide_eq_true p]at g;exact absurd g (by decide))
   |(simp at g;omega)
 cases j with
 |cons u s=>
  cases s;cases u with
  |list t f=>exact⟨_,_,b,rfl,rfl,t,Q4 b _ f,e⟩
theorem aYf(l:OpenLaw)(args:List WData):l.row.toRowW.claim.post args (.bool true) args=true:=
 postW_of (r:=l.row.toRowW) (X:=(true==true))
  (show WShape.has [] (.bool true) .bool=true by first|rfl|decide|simp[WShape.has,WShape.arms,WShape.armsAll])
  (show(WTm.eq .res (.lit (.bool true))).value [] {args:=args,res:=some (.bool true),after:=args}=some (.bool (true==true))from w_eq_bool (w_res rfl) w_lit) rfl
theorem aZY{l:OpenLaw}{n:Nat}{q:bK9}{loose:List Str}{y:(Str->Option bKN)->Heap->Prop}{z:bYf->Heap->Prop}{d:DefRec} (M:l.most=some n) (x:d.params.defaults= []) (call:∀ (w:bYf)(s₀ b:bKQ)(mg v:Str->Option bKN)(i:Addr)(o:Obj)(p m e:bKN)(a:Addr)(vs:List bKN)(k:List Int), Ground q loose [] y w s₀ mg v b.heap->z w b.heap-> b.heap.get? i=some o->o.data= .func (docDef d.name d.params d.body d.scope p m e)->b.heap.CodeRec m d.name->mg d.name=some (.ref i)-> b.heap.get? a=some {cls:= .type "list",data:= .seq vs.toArray}->cXi vs k->k.length<=n->b.gens= #[]-> cQ1 (bKX l.prog w) callerA (.call (.ref i) ⟨[.ref a],[]⟩) (λr s'=>r= .ok (.ret (.bool true))/\OldK b.heap s'.heap/\s'.os=b.os/\AllBare s'.gens) b): WalkO q loose y z l.row.toRowW d [] (λf vs=>PySem.call f vs):=by
 intro w s₀ b mg v G Y i o p m e L kV F E s B t J args vals O g A K u N;obtain rfl:L= .none:=Dflts.none B x;obtain rfl:kV= .none:=Dflts.noKw B;obtain⟨a,vs,k,rfl,rfl,j,c,h⟩:=aYT M g u;refine enter_call (cQC (call w s₀ b mg v i o p m e a vs k G Y F (fd_plain E) s t j c h J) λr s' C=>?_);obtain⟨rfl,h2,H,I⟩:=C;exact⟨.inl ⟨.bool true,.bool true,[],rfl,λ_=>rfl,.bool true,aYf l _,λ_=>⟨List.Pairwise.nil,λ_ D=>(nomatch D)⟩⟩,h2,H,I⟩
section
variable {prog:bK9}{w:bYf}{A:bYr}{E:bKN->bKQ->Prop}{s:bKQ}{K:Frag}
end
end Att
namespace L2
open PySem PySem.Spec PyProof.Rows
theorem uS:∀ {vs:List bKN} {a:List Int},cXi vs a->xS (a.map V.int) vs
 |_,_,.nil=> .nil
 |_,_,.cons n t h=> .cons ⟨t,rfl⟩ (uS h)
end L2
namespace L2
open PySem PySem.Spec PyProof.Rows
end L2
namespace L2
open PySem PySem.Spec PyProof.Rows
def zM(s:Stmt):Arguments:=match s with
 |.FunctionDef _ a _ _ _ _ _ _ _ _=>a
 |_=>{posonlyargs:= [],args:= [],vararg:=none,kwonlyargs:= [],kw_defaults:= [],kwarg:=none,defaults:= [] }
def x6(s:Stmt):List Stmt:=match s with
 |.FunctionDef _ _ b _ _ _ _ _ _ _=>b
 |_=> []
def yH(s:Stmt):cQX:=match s with
 |.FunctionDef _ _ _ _ _ _ a _ _ _=>a
 |_=>{kind:= .function,names:= [],isGenerator:=false,isCoroutine:=false}
abbrev CX0:CXT:=λ_ _ _ _ _ _=>False
abbrev E0:XK:=λ_ _ _=>False
theorem vM{X:Cx}:w8 CX0 X E0:=λ_ _ _ _ _ _ _ h=>h.elim
structure Fun(K:bKP)(x qual:Str)(st:Stmt)(f:Addr)(fd:cQI):Prop where
 ex:∃ (oc:bKN)(od:Option Addr)(kV doc pm:bKN)(an:Option Addr)(cdv ct:bKN)(osl:Array (Option bKN)),
  fd=bY7 x qual (zM st) (x6 st) (yH st) .none kV doc pm an cdv ct/\K.lookup f=some ⟨oc,od,.func fd,osl⟩/\cQt K cdv qual=true
 kp:bYG K (.ref f)=true
section
variable {P:bK9}{w:bYf}{K:bKP}{mg:Str->Option bKN}{base:Heap}
theorem Fun.ok{x qual:Str}{st:Stmt}{f:Addr}{fd:cQI}{N ps:List Str}{k:Nat}{sp:Sp}(F:Fun K x qual st f fd)(S:yM N ps (yH st)) (b:∀ (a:bKN)(A:bYr)(outer:List Env)(s:bKQ)(H:Hp)(vs:List V)(Q:VK)(E:XK),vJ k (A.deeper (cQH qual (yH st) s.heap.objs.size f a))->sp vs H Q E-> ∃t,PSs (aXf CX0 P w K mg base N qual (yH st) f a A outer s H E).nox (x6 st) t/\t {nx:=λ_ H'=>Q .non H',rt:=Q} (start N vs) H) (len:∀vs H Q E,sp vs H Q E->vs.length=ps.length:=by intro _ _ _ _ h;repeat (first|(obtain⟨rfl,_⟩:=h;exact rfl)|(obtain⟨_,h⟩:=h))):y8 P w K mg base CX0 (k+1) f fd ps sp:=by
 obtain⟨j,m,kV,i,l,n,a,ct,g,rfl,lk,d⟩:=F.ex;refine bJd lk d S len λA outer s H vs Q E e c=>?_;obtain⟨t,h,q⟩:=b a A outer s H vs Q E e c;exact⟨t,h.nox,q⟩
theorem Fun.binds{x qual:Str}{st:Stmt}{f:Addr}{fd:cQI}{ps:List Str}(F:Fun K x qual st f fd) (h:∀ (kV a c:bKN)(d:Option Addr)(b ct:bKN)(us:List bKN),us.length=ps.length->bindArgs (bY7 x qual (zM st) (x6 st) (yH st) .none kV a c d b ct) ⟨us,[]⟩=pure (ps.zip us)):vQ K fd ps []:=by
 obtain⟨i,j,kV,a,c,d,b,ct,e,rfl,lk,g⟩:=F.ex;exact .all (h kV a c d b ct)
theorem aQ0{x qual:Str}{st:Stmt}{f:Addr}{h:bKN}{i g:Option Addr}{d:Array (Option bKN)}{kV b e a ct:bKN}(l:K.lookup f=some ⟨h,i,.func (bY7 x qual (zM st) (x6 st) (yH st) .none kV b e g a ct),d⟩)
  (c:cQt K a qual=true) (k:bYG K (.ref f)=true):Fun K x qual st f (bY7 x qual (zM st) (x6 st) (yH st) .none kV b e g a ct):=⟨⟨h,i,kV,b,e,g,a,ct,d,rfl,l,c⟩,k⟩
end
theorem bVX{A:bYr}{k:Nat}(a:vJ k A):A.units+1<cLine:=Nat.lt_of_le_of_lt (Nat.add_le_add_left (by decide:1<=64) _) a.units
section
variable {X:Cx}
theorem pv(i:Nat){x:Str}{pos:Pos}(b:X.N[i]? =some x:=by rfl)(c:Vis X.env.scope x:=by first|exact Or.inl rfl|exact Or.inr (Or.inl rfl)|exact Or.inr (Or.inr rfl))(d:(x==("__debug__":Str))=false:=by decide)
  (a:(x==("__classdict__":Str))=false:=by decide):PE X (.Name x pos) (bVu i):=bZG b c d a
end
theorem qB{c A B:Prop} [Decidable c] (h1:c->A)(h2:¬c->B):if c then A else B:=by
 by_cases h:c
 ·rw[if_pos h];exact h1 h
 ·rw[if_neg h];exact h2 h
def xA(H H':Hp):Prop:=∀b o,H b=some o->H' b=some o
theorem xA.refl(H:Hp):xA H H:=λ_ _ h=>h
theorem xA.trans{H H1 H2:Hp}(a:xA H H1)(b:xA H1 H2):xA H H2:=λc o h=>b c o (a c o h)
theorem xA.seq{K:bKP}{H H':Hp}{a:Addr}{xs:List V}(e:xA H H')(h:SqL K H a xs):SqL K H' a xs:=by
 rcases h with(h|⟨o,h⟩)|h
 ·exact .inl (.inl (e _ _ h))
 ·exact .inl (.inr ⟨o,e _ _ h⟩)
 ·exact .inr h
end L2
namespace L2
open PySem
theorem scM{N P:List Str}{sc:Scope}(h:decide (sc.kind=.function/\sc.isCoroutine=false/\sc.isGenerator=false/\N.Nodup/\N.take P.length=P/\(∀x∈P,sc.names.lookup x=some .local\/sc.names.lookup x=some .cell)/\∀y∈sc.names,y.2≠.free)=true:=by decide +kernel):yM N P sc:=
 have z:=of_decide_eq_true h;⟨z.1,z.2.1,z.2.2.1,z.2.2.2.1,z.2.2.2.2.1,z.2.2.2.2.2.1,z.2.2.2.2.2.2⟩
end L2
namespace L2
open PySem PySem.Spec PyProof.Rows
def qF(env:Env)(l:List (Str×cXU))(cs:List (Str×Nat)):Sem (List (Str×Nat)):=do
 let mut cs:=cs
 for (name,kind)in l do
  if kind== .free then cs:=(name,<- cellOf env name)::cs
 return cs
theorem aVS(env:Env)(cs:List (Str×Nat)):qF env [] cs=pure cs:=by simp[qF]
theorem aZ1{env:Env}{n:Str}{c:Nat}{r:List (Str×cXU)}{cs:List (Str×Nat)}(h:env.cells.lookup n=some c):qF env ((n,.free)::r) cs=qF env r ((n,c)::cs):=by
 have e:cellOf env n=pure c:=by unfold cellOf;rw[h]
 simp[qF,e]
theorem aX1{env:Env}{n:Str}{k:cXU}{r:List (Str×cXU)}{cs:List (Str×Nat)}(h:k≠ .free):qF env ((n,k)::r) cs=qF env r cs:=by
 simp[qF,h]
theorem aZ2{env:Env}:∀ (l:List (Str×cXU))(cs:List (Str×Nat)),(∀y∈l,y.2= .free->∃c,env.cells.lookup y.1=some c)->(∀y c,cs.lookup y=some c->env.cells.lookup y=some c)->
  ∃cl,qF env l cs=pure cl/\(∀y c,cl.lookup y=some c->env.cells.lookup y=some c)/\(∀y,(∃c,cs.lookup y=some c)->∃c,cl.lookup y=some c)/\(∀y,(y,NameKind.free)∈l->∃c,cl.lookup y=some c)
 |[],cs,_,h=>⟨cs,aVS env cs,h,λ_ z=>z,λ_ z=>by cases z⟩
 |(n,k)::r,cs,hl,h=>by
  by_cases m:k= .free
  ·subst m;obtain⟨c,o⟩:=hl (n,.free) bK2 rfl;obtain⟨cl,f,g,d,j⟩:=aZ2 r ((n,c)::cs) (λy a=>hl y (bKY _ a)) (λy b e=>by
    rw[cQz]at e;split at e
    ·rename_i z;cases e;rw[beq_iff_eq.mp z];exact o
    ·exact h y b e)
   have i:∀y,(∃c,cs.lookup y=some c)->∃b,((n,c)::cs).lookup y=some b:=λy ⟨b,e⟩=>by
    rw[cQz];split
    ·exact⟨_,rfl⟩
    ·exact⟨b,e⟩
   refine⟨cl,by rw[aZ1 o];exact f,g,λy z=>d y (i y z),λy a=>?_⟩;rcases bKW.mp a with e|a
   ·cases e;exact d _ ⟨c,by rw[cQz,beq_self_eq_true]⟩
   ·exact j y a
  ·obtain⟨cl,f,g,d,j⟩:=aZ2 r cs (λy a=>hl y (bKY _ a)) h;refine⟨cl,by rw[aX1 m];exact f,g,d,λy a=>?_⟩;rcases bKW.mp a with e|a
   ·cases e;exact absurd rfl m
   ·exact j y a
abbrev blk(X:Cx)(N:List Str)(sc:cQX)(cl:List (Str×Nat))(C:Nat)(s:bKQ)(H:Hp)(ex:List Nat):Cx:=
 {X with N:=N,s₀:=s,H₀:=H,env:=compEnvC sc cl C X.env,outer:=X.stack,ex:=ex,fn:=λ_=>false,pn:= [],xe:=λ_ _=>False}
def sub(σ:St)(fr:List Nat)(o:Option V):St:=o::fr.map λi=>(σ[i]?).join
structure xH(N:List Str)(osc:cQX)(x:Str)(names:List Str)(fr:List Nat)(sc:cQX):Prop where
 kind:sc.kind= .function
 nocell:∀y∈sc.names,y.2≠ .cell
 loc:∀y∈sc.names,y.2= .local->sc.names.lookup y.1=some .local
 var:sc.names.lookup x=some .local
 free:∀y∈sc.names,y.2= .free->osc.names.lookup y.1=some .cell\/osc.names.lookup y.1=some .free
 flk:∀y∈sc.names,y.2= .free->sc.names.lookup y.1=some .free
 nd:(x::names).Nodup
 len:fr.length=names.length
 taken:∀p∈names.zip fr,N[p.2]? =some p.1/\(p.1,NameKind.free)∈sc.names
theorem xH.from_{N:List Str}{b sc:cQX}{x:Str}{names:List Str}{fr:List Nat}(S:xH N b x names fr sc)(j:Nat)(y:Str)(h:names[j]? =some y):∃i,fr[j]? =some i/\N[i]? =some y/\(y,NameKind.free)∈sc.names:=by
 have e:j<names.length:=(bKZ.mp h).1;have a:j<fr.length:=by rw[S.len];exact e
 have z:(names.zip fr)[j]? =some (y,fr[j]):=by rw[List.getElem?_zip_eq_some];exact⟨h,bKM a⟩
 obtain⟨c,d⟩:=S.taken _ (bK5 z);exact⟨fr[j],bKM a,c,d⟩
def bVI(X:Cx)(ifs:List Expr)(t:TT):Prop:=
 ∀ (pins:List (Nat×Obj))(s:bKQ)(σ:St)(H:Hp)(Q:Bool->Hp->Prop),Inv X pins σ H s->t σ H Q->
  bKV (bKX X.prog X.w) X.A (forIn ifs true λc r=>if r=true then do let ok <- isTrue c X.env (eval c X.env);pure (cZq ok)else pure (cZq r)) (TP X pins σ Q) X.xe s
def bKt:TT:=λ_ H Q=>Q true H
theorem z7{X:Cx}:bVI X [] bKt:=λpins s σ H Q I h=>by
 simp only[List.forIn_nil];exact bKS ⟨H,I,h⟩
theorem wM{X:Cx}{c:Expr}{a:TT}(d:PT X c a):bVI X [c] a:=λpins s σ H Q I h=>by
 simp only[cZs,List.forIn_nil,if_true,bind_assoc,pure_bind];refine bKO (thn (d pins s σ H Q I h) λb e z=>?_);exact bKS z
def bVA(J:It)(fr:List Nat)(tif:TT)(te:TE)(σ:St)(D:Nat)(Q:VK)(g:Hp):Prop:=
 ∃W:Nat->Nat->List V->Hp->Prop,(∃m,W 0 m [] g)/\∀i m a H,W i m a H->H D=some (.lst a)/\
  ((J.stop i H/\Q (.ref D) H)\/(J.go i H/\∀v f,J.yld i H v f->tif (sub σ fr (some v)) f λb e=>
   if b=true then te (sub σ fr (some v)) e λy d=>a.length<bYd/\d D=some (.lst a)/\∃c,c<m/\W (i+1) c (a++ [y]) (upd d D (.lst (a++ [y])))
   else ∃c,c<m/\W (i+1) c a e))
def tLc(wi:TI)(fr:List Nat)(tif:TT)(te:TE):TE:=λσ H Q=>wi σ H λJ a=>∀D,a D=none->bVA J fr tif te σ D Q (upd a D (.lst []))
theorem aQ7{env:Env}:∀ {names:List (Str×cXU)} {y:Str},names.lookup y=some .free->
  (names.map λ(n,k)=>if(k==NameKind.free && env.scope.kind== .function && env.kindOf n==some .cell)then(n,NameKind.cell)else(n,k)).lookup y=some .cell\/
  (names.map λ(n,k)=>if(k==NameKind.free && env.scope.kind== .function && env.kindOf n==some .cell)then(n,NameKind.cell)else(n,k)).lookup y=some .free
 |[],_,h=>by simp at h
 |(n,k)::r,y,h=>by
  have b:= @aQ7 env r y;rw[bYx];dsimp only;cases a:y==n with
  |true=>
   rw[cQz,a]at h;cases h;split
   ·left;rw[cQz,a]
   ·right;rw[cQz,a]
  |false=>
   rw[cQz,a]at h;split
   ·rw[cQz,a];exact b h
   ·rw[cQz,a];exact b h
theorem aZy{env:Env}{sc:cQX}{y:Str}(h:sc.names.lookup y=some .free):(relabel sc env).names.lookup y=some .cell\/(relabel sc env).names.lookup y=some .free:=aQ7 h
section
variable {X:Cx}{pins:List (Nat×Obj)}{σ:St}{H:Hp}{s:bKQ}
theorem bQV{prog:bK9}{w:bYf}{A:bYr}{R:Result->bKQ->Prop}{s:bKQ}{elt a iter:Expr}{ifs:List Expr}{scope:cQX}{pos:Pos}{it l:bKN}{env:Env}(I:Nat->bKQ->Prop)
  (turn:∀n s,I n s->bKV (bKX prog w) A (pyNext it) (λr e=>match r with
   |none=>R (.ok .next) e
   |some v=>bKV (bKX prog w) A (cZz a it v) (λ_ b=>bKV (bKX prog w) A (assign a env v) (λ_ j=>
     bKV (bKX prog w) A (forIn ifs true λc r=>if r=true then do let ok <- isTrue c env (eval c env);pure (cZq ok)else pure (cZq r)) (λok d=>
      if ok=true then bKV (bKX prog w) A (eval elt env) (λx i=>
       bKV (bKX prog w) A (call (.builtin "list.append") [l,x]) (λ_ g=>∃m,m<n/\I m g) (λ_ _=>False) i) (λ_ _=>False) d
      else ∃m,m<n/\I m d) (λ_ _=>False) j) (λ_ _=>False) b) (λ_ _=>False) e) (λ_ _=>False) s)
  (n:Nat) (h:I n s):cQ1 (bKX prog w) A (.compLoop (.ListComp elt [⟨a,iter,ifs,0⟩] scope pos) 0 it l env) R s:=by
 refine codeAny_loop rfl I (λn s u=>?_) n h
 show bKV _ A ((compTurn (.ListComp elt [⟨a,iter,ifs,0⟩] scope pos) 0 it l env).onRaise (λx=>do cZb x env;theTreesLotGoes x)) _ _ s
 refine wpAny_noted ?_
 rw[compTurn_list]
 refine bKO (cZj (bKO (bYN (turn n s u) (λr e f=>?_) λ_ _ z=>z.elim)))
 cases r with
 |none=>exact bKS f
 |some v=>
  refine bKO (bYN f (λ_ b o=>?_) λ_ _ z=>z.elim);refine bKO (bYN o (λ_ j p=>bKO (bYN p (λok d k=>?_) λ_ _ z=>z.elim)) λ_ _ z=>z.elim);cases ok with
  |false=>exact bKS ⟨rfl,k⟩
  |true=>refine bKO (bKO (bYN k (λx i q=>bKO (bYN q (λ_ g t=>?_) λ_ _ z=>z.elim)) λ_ _ z=>z.elim));exact bKS (bKS ⟨rfl,t⟩)
theorem bZy{elt iter:Expr}{x:Str}{px:Pos}{ifs:List Expr}{sc:cQX}{pos:Pos}{names:List Str}{fr:List Nat}{tif:TT}{te:TE}{cl:List (Str×Nat)}{E:bKN->bKQ->Prop}(S:xH X.N X.env.scope x names fr sc)(hc:X.calm=true)
  (d:∀y c,cl.lookup y=some c->X.env.cells.lookup y=some c) (Y:∀y,(y,NameKind.free)∈sc.names->∃c,cl.lookup y=some c)
  (c1:∀cl C s H ex,bVI (blk X (x::names) sc cl C s H ex) ifs tif) (he:∀cl C s H ex,PE (blk X (x::names) sc cl C s H ex) elt te)
  {J:It} {it:Nat} {f:List Nat} {tn:Nat->Heap->Prop} {Q:VK} (I:Inv X pins σ H s) (T:bWI X.prog X.w X.K (.Name x px) J f it tn) (st:tn 0 s.heap) (hf:∀b∈f,bZj X pins H b)
  (q:∀D,H D=none->bVA J fr tif te σ D Q (upd H D (.lst []))) {RR:bKN->Nat->Result->bKQ->Prop}
  (b6:∀D C F g,Inv X pins σ g F->g C=none->C≠X.env.locals->X.s₀.heap.objs.size<=C->(∀y c,X.env.cells.lookup y=some c->c≠C)->(∀p∈X.pn++pins,p.1≠C)->(∃m,F.heap.Ns C m)->Q (.ref D) g->RR (.ref D) C (.ok .next) F):
  bKV (bKX X.prog X.w) X.A (newList []) (λa7 s₃=>bKV (bKX X.prog X.w) X.A (newFunctionEnv sc X.env.globals cl [] X.env.qual none .none (some X.env)) (λZ s₄=>
   cQ1 (bKX X.prog X.w) X.A (.compStart (.ListComp elt [⟨.Name x px,iter,ifs,0⟩] sc pos) 0 (.ref it) a7 {Z with scope:=relabel sc X.env}) (RR a7 Z.locals) s₄) E s₃) E s:=by
 refine cQJ (wpAny_newFunctionEnv S.nocell (by intro y hy;simp at hy) (λt a2 a1=>?_) S.kind)
 dsimp only at a2 a1 ⊢
 have l:Inv X pins σ (upd H s.heap.objs.size (.lst [])) {s with heap:=s.heap.push {cls:= .type "list",dict:=none,data:= .seq ([]:List bKN).toArray} }:=I.lnew (t':=s.toks) (ys:= []) (its:= []) .nil (bYJ _)
 have a6:=I.fresh
 obtain⟨W,⟨m0,w0⟩,turn⟩:=q s.heap.objs.size a6
 have a0:∀b∈f,∃o,s.heap.get? b=some o/\∀v,o.data≠ .cell v:=T.obj 0 _ st
 have hG:(s.heap.push {cls:= .type "list",dict:=none,data:= .seq ([]:List bKN).toArray}).objs.size=s.heap.objs.size+1:=cQl ..
 have kG:∀b o,s.heap.get? b=some o->(s.heap.push {cls:= .type "list",dict:=none,data:= .seq ([]:List bKN).toArray}).get? b=some o:=λb o e=>bKR _ e
 generalize c9:s.heap.push {cls:= .type "list",dict:=none,data:= .seq ([]:List bKN).toArray}=G at a2 a1 l hG kG ⊢
 generalize b9:s.heap.objs.size=D at a6 turn w0 hG l ⊢
 have keep:∀b o,G.get? b=some o->t.get? b=some o:=λb o e=>a1.extBut b o (bYb (bK1 e)) (bKR _ e)
 have b1:∀b∈f,b≠G.objs.size:=λb a=>by obtain⟨o,e,_⟩:=a0 b a;exact bYb (bK1 (kG b o e))
 have a4:∀y c,X.env.cells.lookup y=some c->c≠G.objs.size:=λy c e=>by obtain⟨v,z⟩:=l.cell y c e;exact bYb z.lt
 have c8:(blk X (x::names) sc cl G.objs.size {s with heap:=G} (upd H D (.lst [])) f).Ok:=by
  refine⟨I.ok.mod,?_,I.ok.glob,I.ok.blt,bKU _,?_,?_,?_,I.ok.hd,I.ok.frames,.inl rfl,?_,l.bs,bYo I.ok.bsz l.sz,?_,?_,l.stack,l.stkFree⟩
  ·show(relabel sc X.env).kind= .function;exact S.kind
  ·exact λy z c h1 h2=>I.ok.inj y z c (d y c h1) (d z c h2)
  ·intro y hy;have c2:(relabel sc X.env).names.lookup y=some .cell\/(relabel sc X.env).names.lookup y=some .free:=hy;have R:(y,NameKind.cell)∈(relabel sc X.env).names\/(y,NameKind.free)∈(relabel sc X.env).names:=c2.imp cQg cQg;have b5:(y,NameKind.free)∈sc.names:=by
    rcases R with R|R
    ·obtain⟨⟨n,k⟩,hn,e⟩:=bYQ.mp (show(y,NameKind.cell)∈sc.names.map _ from R);dsimp only at e;split at e
     ·rename_i M;cases e;have:k= .free:=by
       simp only[Bool.and_eq_true,beq_iff_eq]at M;exact M.1.1
      rw[this]at hn;exact hn
     ·cases e;exact absurd rfl (S.nocell _ hn)
    ·obtain⟨⟨n,k⟩,hn,e⟩:=bYQ.mp (show(y,NameKind.free)∈sc.names.map _ from R);dsimp only at e;split at e
     ·cases e
     ·cases e;exact hn
   exact Y y b5
  ·exact λy c h _=>by cases h
  ·intro b a;exact⟨b1 b a,λy c e=>(hf b a).2.2.2.2.1 y c (d y c e)⟩
  ·intro b o e a;obtain⟨f0,f1,f2,f3,f4,f5⟩:=hf b a;rcases f3 with z|z
   ·exact I.ok.noex b o e z
   ·exact absurd (bYe (bK1 e) (bYo I.ok.bsz z)) (bYW _)
  ·intro b a z;obtain⟨f0,f1,f2,f3,f4,f5⟩:=hf b a;rcases bKW.mp (I.stkSub b z)with z|z
   ·exact f1 z
   ·exact f2 z
 have IY:Inv (blk X (x::names) sc cl G.objs.size {s with heap:=G} (upd H D (.lst [])) f) [] (sub σ fr none) (upd H D (.lst [])) {s with heap:=t,toks:=s.toks+([]:List (Str×bKN)).length}:=by
  refine⟨c8,rfl,I.bare,Un.kept keep,⟨_,a2,?_⟩,?_,l.hok.fresh (bKU _),λy c e=>l.freeC y c (d y c e),λp hp=>absurd (show p∈([]:List (Nat×Obj))from hp) (by simp),l.hok.kept keep,?_⟩
  ·intro i y v h1 h2 h3;cases i with
   |zero=>cases h2
   |succ j=>
    have c0:names[j]? =some y:=h1;obtain⟨i',e1,e2,e3⟩:=S.from_ j y c0;have c5:σ[i']? =some (some v):=by
     have z:(fr.map λi=>(σ[i]?).join)[j]? =some (some v):=h2;rw[bK7,e1]at z;have P:(σ[i']?).join=some v:=bK8 z;cases q:σ[i']? with
     |none=>rw[q]at P;cases P
     |some o=>rw[q]at P;rw[show o=some v from P]
    obtain⟨m,hn,hl⟩:=l.loc;have b2:Vis X.env.scope y:= .inr (S.free _ e3 rfl);obtain⟨u,ru,lk⟩:=hl i' y v e2 c5 b2;refine⟨u,ru,.inr ⟨?_,?_⟩⟩
    ·exact aZy (S.flk _ e3 rfl)
    ·rcases lk with⟨k,_⟩|⟨k,c,e,z⟩
     ·rcases S.free _ e3 rfl with z|z
      ·have P:X.env.kindOf y=some .cell:=z;rw[k]at P;cases P
      ·have P:X.env.kindOf y=some .free:=z;rw[k]at P;cases P
     ·obtain⟨c',e'⟩:=Y y e3;have:=d y c' e';rw[e]at this;cases this;exact⟨c,e',z.keeps keep⟩
  ·intro y c e;obtain⟨v,z⟩:=l.cell y c (d y c e);exact⟨v,z.keeps keep⟩
  ·show(sub σ fr none).length=(x::names).length;simp[sub,S.len]
 have b3:∀ {o:Option V} {g:Hp} {F:bKQ} {pl:List (Nat×Obj)},Inv (blk X (x::names) sc cl G.objs.size {s with heap:=G} (upd H D (.lst [])) f) pl (sub σ fr o) g F->Inv X pins σ g F:=λ{o g F pl} I'=>
  l.call' (ch:=f) I'.os I'.base I'.hok I'.bare λb a=>by obtain⟨f0,f1,f2,f3,f4,f5⟩:=hf b a;exact⟨f3,f1,f4,f5⟩
 have L:∀ {g:Hp},(∀b∈f,g b=none)->∀b∈f,bZj (blk X (x::names) sc cl G.objs.size {s with heap:=G} (upd H D (.lst [])) f) [] g b:=λ{g} hn b a=>by
  obtain⟨f0,f1,f2,f3,f4,f5⟩:=hf b a;refine⟨hn b a,b1 b a,λz=>?_,.inl a,λy c e=>f4 y c (d y c e),λp hp=>absurd (show p∈([]:List (Nat×Obj))from hp) (by simp)⟩;rcases bKW.mp (I.stkSub b z)with z|z
  ·exact f1 z
  ·exact f2 z
 have c4:∀b∈f,upd H D (.lst []) b=none:=λb a=>by
  obtain⟨o,e,_⟩:=a0 b a;have c6:b≠D:=by rw[<- b9];exact bYb (bK1 e)
  rw[yI c6];exact(hf b a).1
 have a8:tn 0 t:=T.keep 0 _ _ st λb a o e=>keep b o (kG b o e)
 have a9:cQ1 (bKX X.prog X.w) X.A (.compLoop (.ListComp elt [⟨.Name x px,iter,ifs,0⟩] sc pos) 0 (.ref it) (.ref D) (compEnvC sc cl G.objs.size X.env)) (RR (.ref D) G.objs.size) {s with heap:=t,toks:=s.toks+([]:List (Str×bKN)).length}:=by
  refine bQV (λn F=>∃i B o g,Inv (blk X (x::names) sc cl G.objs.size {s with heap:=G} (upd H D (.lst [])) f) [] (sub σ fr o) g F/\tn i F.heap/\(∀b∈f,g b=none)/\W i n B g) ?_ m0
   ⟨0,[],none,_,IY,a8,c4,w0⟩
  rintro n F ⟨i,B,o,g,I',b0,b4,w'⟩;obtain⟨hD,c7⟩:=turn i n B g w';rcases c7 with⟨a5,qn⟩|⟨go,step⟩
  ·refine thn (T.done (blk X (x::names) sc cl G.objs.size {s with heap:=G} (upd H D (.lst [])) f) rfl rfl rfl hc i [] F _ g (λ_ _=>False) I' (L b4) b0 a5) λr s1 ⟨hr,I1⟩=>?_;subst hr;obtain⟨mC,b7,_⟩:=I1.loc;exact b6 D G.objs.size s1 g (b3 I1) I1.free (cXp l.lt) l.sz a4 (λp hp=>bYb (bK1 (l.pin p hp).1)) ⟨mC,b7⟩ qn
  ·refine thn (T.item (blk X (x::names) sc cl G.objs.size {s with heap:=G} (upd H D (.lst [])) f) rfl rfl rfl hc i [] F _ g (λ_ _=>False) I' (L b4) b0 go) λr s1 ⟨u,hr,h1⟩=>?_;subst hr;refine thn h1 λ_ s2 ⟨v,H2,I2,rv,yl,st2,fr2⟩=>?_;have b8:=I2.pinned (L fr2) (T.obj _ _ st2);have pg:PG (blk X (x::names) sc cl G.objs.size {s with heap:=G} (upd H D (.lst [])) f) (.Name x px) (yX 0):=y9 S.nd rfl (.inl (lookup_relabel_local S.var)) (.inr (lookup_relabel_local S.var));have O:∀ {o:Option V} {H3:Hp} {s3:bKQ},Inv (blk X (x::names) sc cl G.objs.size {s with heap:=G} (upd H D (.lst [])) f) ([]++aZw f s2.heap) (sub σ fr o) H3 s3->tn (i+1) s3.heap/\∀b∈f,H3 b=none:=λ{o H3 s3} J3=>by
    refine⟨T.keep _ _ _ st2 λb a ob e=>(J3.pin (b,ob) (bYa _ (bYa _ (uZ a e)))).1,λb a=>?_⟩;obtain⟨ob,e,_⟩:=T.obj _ _ st2 b a;exact(J3.pin (b,ob) (bYa _ (bYa _ (uZ a e)))).2.1
   refine thn (pg _ s2 _ H2 v u (λσ' c3=>σ'=sub σ fr (some v)/\c3=H2) b8 rv ⟨rfl,rfl⟩) λ_ s3 ⟨σ3,H3,I3',e3,e3'⟩=>?_;subst e3;subst e3';refine thn (c1 cl G.objs.size {s with heap:=G} (upd H D (.lst [])) f _ s3 _ _ _ I3' (step v _ yl)) λb s4 ⟨H4,I4,q4⟩=>?_;cases b with
   |false=>have a3:∃U,U<n/\W (i+1) U B H4:=q4;obtain⟨U,R,w4⟩:=a3;obtain⟨z1,z2⟩:=O I4;show ∃m,m<n/\_;exact⟨U,R,i+1,B,some v,H4,I4.unpinned,z1,z2,w4⟩
   |true=>have a3:te (sub σ fr (some v)) H4 λy H5=>B.length<bYd/\H5 D=some (.lst B)/\∃U,U<n/\W (i+1) U (B++ [y]) (upd H5 D (.lst (B++ [y]))):=q4;show bKV _ _ _ _ _ _;refine thn (he cl G.objs.size {s with heap:=G} (upd H D (.lst [])) f _ s4 _ _ _ I4 a3) λue s5 ⟨y,H5,I5,r5,hl,hD5,U,R,w5⟩=>?_;refine thn (xG _ s5 _ H5 (.ref D) [y] (.ref D) [ue] (λ_ H6=>H6=upd H5 D (.lst (B++ [y]))) I5 rfl (.cons r5 .nil) ⟨D,B,y,rfl,rfl,hD5,hl,rfl⟩) λ_ s6 ⟨_,H6,I6,_,e6⟩=>?_;subst e6;obtain⟨z1,z2⟩:=O I6;exact⟨U,R,i+1,B++ [y],some v,_,I6.unpinned,z1,z2,w5⟩
 exact codeAny_compStart_list a9 (T.self _ 0 _ _ _ a8 a9)
theorem aJd{sc:cQX}{x:Str}{names:List Str}{fr:List Nat}(S:xH X.N X.env.scope x names fr sc)(I:Inv X pins σ H s): ∃cl,closureFor sc X.env=pure cl/\(∀y c,cl.lookup y=some c->X.env.cells.lookup y=some c)/\(∀y,(y,NameKind.free)∈sc.names->∃c,cl.lookup y=some c):=by
 obtain⟨cl,g,d,_,b⟩:=aZ2 (env:=X.env) sc.names [] (λy a f=>I.ok.has y.1 (S.free y a f)) (λy c e=>by simp at e);exact⟨cl,g,d,b⟩
end
section
variable {X:Cx}{elt iter:Expr}{x:Str}{px:Pos}{ifs:List Expr}{sc:cQX}{pos:Pos}{names:List Str}{fr:List Nat}{wi:TI}{tif:TT}{te:TE}
theorem aQm(S:xH X.N X.env.scope x names fr sc)(O:X.calm=true)(j:PI X (.Name x px) iter wi)(c:∀cl C s H ex,bVI (blk X (x::names) sc cl C s H ex) ifs tif) (l:∀cl C s H ex,PE (blk X (x::names) sc cl C s H ex) elt te) (B:∀v,cZ0 iter X.env v=pure v:=by intro _;rfl):PE X (.ListComp elt [⟨.Name x px,iter,ifs,0⟩] sc pos) (tLc wi fr tif te):=by
 intro pins s σ H Q I h;obtain⟨cl,k,t,F⟩:=aJd S I;rw[eval_ListComp];refine cZ9 (use:=none) rfl B k S.kind S.loc (thn (j pins s σ H _ I h) λv R a=>thn a λr W g=>?_);obtain⟨Y,U,tn,J,Z,rfl,u,T,i,P,q⟩:=g;refine bZy (RR:=λd C=>compPost (bKX X.prog X.w) X.A X.xe none (EP X pins σ Q) d C) S O t F c l u T i P q ?_;intro D C y L n a g G K E f p;obtain⟨m,f⟩:=f;exact⟨m,f,λV z=>⟨.ref D,L,n.turned (t':=y.toks) (λb o M e=>(z.2 b M).trans e) a (bYv (bYv g)) (.inr G) K E,rfl,p⟩⟩
theorem aZx{i:Nat}{y:Str}{f c:Pos}(S:xH X.N X.env.scope x names fr sc)(hc:X.calm=true)(E:X.N.Nodup)(W:X.N[i]? =some y)(hl:X.env.scope.names.lookup y=some .local)(G:PI X (.Name x px) iter wi)
  (k:∀cl C s H ex,bVI (blk X (x::names) sc cl C s H ex) ifs tif) (M:∀cl C s H ex,PE (blk X (x::names) sc cl C s H ex) elt te)
  (l:swapsWith (.ListComp elt [⟨.Name x px,iter,ifs,0⟩] sc pos) (some (.Name y f)) c.line X.env=pure true:=by rfl) (V:∀v,cZ0 iter X.env v=pure v:=by intro _;rfl):
  PS X (.Assign [.Name y f] (.ListComp elt [⟨.Name x px,iter,ifs,0⟩] sc pos) c) (bWN (tLc wi fr tif te) (yX i)):=by
 intro pins s σ H D I h
 obtain⟨cl,K,R,Z⟩:=aJd S I
 rw[exec_Assign_Name_used _ _ _ _ l]
 refine bKO (cZj (bKO ?_))
 show bKV _ X.A (do let _ <- comprehension (.ListComp elt [⟨.Name x px,iter,ifs,0⟩] sc pos) sc X.env _ (newList []) false (eval iter X.env) (some (assign (.Name y f) X.env))) _ _ s
 refine bKO (bYN (cZ9 (use:=some (assign (.Name y f) X.env)) (Q:=λ_ d=>SP X pins D .next d) rfl V K S.kind S.loc (thn (G pins s σ H _ I h) λv s1 j=>thn j λP s2 g=>?_)) (λ_ d n=>bKS (bKS n)) λ_ _ e=>e)
 obtain⟨it,fp,tn,J,H1,rfl,U,T,F,hf,q⟩:=g
 refine bZy (RR:=λp C=>compPost (bKX X.prog X.w) X.A X.xe (some (assign (.Name y f) X.env)) (λ_ d=>SP X pins D .next d) p C) S hc R Z k M U T F hf q ?_
 intro L C d H' O j g h3 B Y t n
 obtain⟨m,t⟩:=t
 show bKV _ X.A (assign (.Name y f) X.env (.ref L)) _ _ d
 refine wpAny_assign_Name (aQH O E W (.inl hl) (v:= .ref L) rfl (λs'' I'' ⟨a,sb,z⟩=>?_) (.inr hl))
 have u:C≠a:=by
  rcases z with rfl|z
  ·exact g
  ·exact bYv (B y a z)
 exact⟨m,t.sameBut sb u,λh' r=>⟨_,H',I''.turned (t':=s''.toks) (λb o hb e=>(r.2 b hb).trans e) j g (.inr h3) B Y,n⟩⟩
end
theorem aZj{K:bKP}{a:Nat}{xs:List V}{fr:List Nat}{tif:TT}{te:TE}{σ:St}{D:Nat}{Q:VK}{H:Hp}(p:V->Bool)(f:V->V)(hl:SqL K H a xs)(s:H D=none)(hz:xs.length<=bYd) (x:∀v∈xs,∀ (c:Hp)(R:Bool->Hp->Prop),(∀b,b≠D->c b=H b)->R (p v) c->tif (sub σ fr (some v)) c R) (w:∀v∈xs,p v=true->∀ (c:Hp)(R:VK),(∀b,b≠D->c b=H b)->R (f v) c->te (sub σ fr (some v)) c R) (u:Q (.ref D) (upd H D (.lst ((xs.filter p).map f)))):bVA (Itl K a) fr tif te σ D Q (upd H D (.lst [])):=by
 have d:∀g,SqL K (upd H D (.lst g)) a xs:=λg=>by
  rcases hl with(h|⟨o,h⟩)|h
  ·exact .inl (.inl (by rw[yI (yJ h s)];exact h))
  ·exact .inl (.inr ⟨o,by rw[yI (yJ h s)];exact h⟩)
  ·exact .inr h
 refine⟨λi m g c=>m=xs.length - i/\i<=xs.length/\g=((xs.take i).filter p).map f/\c=upd H D (.lst g),⟨xs.length,by simp,bYJ _,by simp,rfl⟩,?_⟩;rintro i m g c ⟨rfl,B,rfl,rfl⟩;refine⟨yB,?_⟩;by_cases e:i<xs.length
 ·refine .inr ⟨⟨xs,xs[i],d _,bKM e⟩,λv E z=>?_⟩;obtain⟨rfl,y⟩:=z;have r:xs[i]? =some v:=y xs (d _);have k:v∈xs:=bK5 r;have n:xs.take (i+1)=xs.take i++ [v]:=by rw[bY0,r];rfl
  have j:∀b,b≠D->upd H D (.lst (((xs.take i).filter p).map f)) b=H b:=λb A=>yI A;have l:(((xs.take i).filter p).map f).length<bYd:=by rw[bKT];have t:=bYK p (xs.take i);rw[bY4]at t;omega
  refine x v k _ _ j ?_;cases q:p v with
  |false=>show ∃C,_;refine⟨xs.length - (i+1),by omega,rfl,e,?_,rfl⟩;rw[n,bYV,cQr (by rw[q];decide)];simp
  |true=>show te _ _ _;refine w v k q _ _ j ⟨l,yB,xs.length - (i+1),by omega,rfl,e,?_,by rw[uR]⟩;rw[n,bYV,cQs q];simp
 ·obtain rfl:i=xs.length:=by omega
  refine .inl ⟨⟨xs,d _,bKU _⟩,?_⟩;rw[bYR];exact u
end L2
namespace L2
open PySem
theorem lcM{N:List Str}{osc:Scope}{x:Str}{names:List Str}{fr:List Nat}{sc:Scope}(h:decide (sc.kind=.function/\(∀y∈sc.names,y.2≠.cell)/\(∀y∈sc.names,y.2=.local->sc.names.lookup y.1=some .local)/\sc.names.lookup x=some .local/\(∀y∈sc.names,y.2=.free->osc.names.lookup y.1=some .cell\/osc.names.lookup y.1=some .free)/\(∀y∈sc.names,y.2=.free->sc.names.lookup y.1=some .free)/\(x::names).Nodup/\fr.length=names.length/\∀p∈names.zip fr,N[p.2]?=some p.1/\(p.1,NameKind.free)∈sc.names)=true:=by decide +kernel):xH N osc x names fr sc:=
 have z:=of_decide_eq_true h;⟨z.1,z.2.1,z.2.2.1,z.2.2.2.1,z.2.2.2.2.1,z.2.2.2.2.2.1,z.2.2.2.2.2.2.1,z.2.2.2.2.2.2.2.1,z.2.2.2.2.2.2.2.2⟩
end L2
namespace Stb
open PySem
def bQn(xs:Array Nat):Prop:=∀i j:Nat,i<j->j<xs.size->xs.getD i 0<xs.getD j 0
theorem bJe{xs:Array Nat}{i:Nat}(h:i<xs.size)(d e:Nat):xs.getD i d=xs.getD i e:=by
 simp[cXf,h]
theorem aZ9{xs:Array Nat}{j:Nat}(f:bQn xs):∀ (a c b:Nat),b<=xs.size->c<=b->b - c<=a->
  (∀k,k<c->xs.getD k 0<j)->(∀k,b<=k->k<xs.size->j<=xs.getD k 0)->
  (∀k,k<cXI xs j a c b->xs.getD k 0<j)/\(∀k,cXI xs j a c b<=k->k<xs.size->j<=xs.getD k 0)/\cXI xs j a c b<=xs.size
 |0,c,b,h1,h2,h3,h4,h5=>by
  have e:c=b:=by omega
  subst e;unfold cXI;exact⟨h4,h5,h1⟩
 |a+1,c,b,h1,h2,h3,h4,h5=>by
  unfold cXI;by_cases hl:c<b
  ·rw[if_pos hl];dsimp only;have i:(c+b) / 2<xs.size:=by omega
   have e:=bJe i j 0;by_cases h:xs.getD ((c+b) / 2) j<j
   ·rw[if_pos h];refine aZ9 f a _ _ h1 (by omega) (by omega) (λk l=>?_) h5;by_cases d:k=(c+b) / 2
    ·subst d;omega
    ·have:=f k ((c+b) / 2) (by omega) i;omega
   ·rw[if_neg h];refine aZ9 f a _ _ (by omega) (by omega) (by omega) h4 (λk l d=>?_);by_cases g:k=(c+b) / 2
    ·subst g;omega
    ·have:=f ((c+b) / 2) k (by omega) d;omega
  ·rw[if_neg hl];have e:c=b:=by omega
   subst e;exact⟨h4,h5,h1⟩
theorem uU{xs:Array Nat}(a:bQn xs)(j:Nat): (∀k,k<bYL xs j->xs.getD k 0<j)/\(∀k,bYL xs j<=k->k<xs.size->j<=xs.getD k 0)/\bYL xs j<=xs.size:=by
 unfold bYL;exact aZ9 a xs.size 0 xs.size (bKU _) (bYJ _) (by omega) (λk b=>absurd b (cQw _)) (λk c d=>by omega)
theorem aVP{xs:Array Nat}(c:bQn xs){i:Nat}(f:i<xs.size):bYL xs (xs.getD i 0+1)=i+1:=by
 obtain⟨d,e,g⟩:=uU c (xs.getD i 0+1);have a:i<bYL xs (xs.getD i 0+1):=by apply Nat.lt_of_not_le;intro h;have:=e i h f;omega
 have b:¬i+1<bYL xs (xs.getD i 0+1):=λh=>by have q:=d (i+1) h;have:=c i (i+1) (by omega) (by omega);omega
 omega
theorem aVQ{xs:Array Nat}(b:bQn xs):bYL xs 0=0:=by
 obtain⟨a,c,d⟩:=uU b 0;apply Nat.le_antisymm _ (bYJ _);apply Nat.le_of_not_lt;intro h;have:=a 0 h;omega
theorem aXk{α:Type}(xs:Array α)(p:Nat)(x:α)(h:p<=xs.size):(cXJ xs p x).size=xs.size+1:=by
 unfold cXJ;simp;omega
theorem X6{xs:Array Nat}{p x k:Nat}(h:p<=xs.size):(cXJ xs p x).getD k 0=if k<p then xs.getD k 0 else if k=p then x else xs.getD (k - 1) 0:=by
 unfold cXJ;have f:(xs.extract 0 p).size=p:=by simp;omega
 have d:((xs.extract 0 p).push x).size=p+1:=by rw[Array.size_push,f]
 simp only[Array.getD_eq_getD_getElem?];by_cases b:k<p
 ·rw[if_pos b,cZR (by omega),Array.getElem?_push,if_neg (by omega),cZH (by omega)];have a:k<xs.size:=by omega
  simp[a]
 ·rw[if_neg b];by_cases c:k=p
  ·subst c;rw[if_pos rfl,cZR (by omega),Array.getElem?_push,if_pos (by omega)];rfl
  ·rw[if_neg c,Array.getElem?_append_right (by omega),d];by_cases g:k - (p+1)<xs.size - p
   ·rw[cZH (by omega)];have a:k - 1<xs.size:=by omega
    have e:p+(k - (p+1))=k - 1:=by omega
    simp[a,e]
   ·rw[cXD (by simp;omega),cXD (by omega)]
theorem aJy{xs:Array Nat}(c:bQn xs){j:Nat}(l:∀k,k<xs.size->xs.getD k 0≠j):bQn (cXJ xs (bYL xs j) j):=by
 obtain⟨b1,f,e⟩:=uU c j;intro i k d h;rw[aXk _ _ _ e]at h;rw[X6 e,X6 e];by_cases b:i<bYL xs j
 ·rw[if_pos b];have v:=b1 i b;by_cases g:k<bYL xs j
  ·rw[if_pos g];exact c i k d (by omega)
  ·rw[if_neg g];by_cases a:k=bYL xs j
   ·rw[if_pos a];exact v
   ·rw[if_neg a];have:=f (k - 1) (by omega) (by omega);omega
 ·rw[if_neg b,if_neg (show ¬k<bYL xs j by omega),if_neg (show ¬k=bYL xs j by omega)];by_cases a:i=bYL xs j
  ·rw[if_pos a];have:=f (k - 1) (by omega) (by omega);have:=l (k - 1) (by omega);omega
  ·rw[if_neg a];exact c (i - 1) (k - 1) (by omega) (by omega)
theorem aWA(n:Nat):bQn (Array.range n):=by
 intro i j b a;rw[Array.size_range]at a;simp[cXf,a,Nat.lt_trans b a,b]
theorem aYl{l:List Nat}(h:l.Pairwise (·<·)):bQn l.toArray:=by
 intro i j b d;have a:j<l.length:=by simpa using d
 have c:i<l.length:=Nat.lt_trans b a;have:=cXg.mp h i j c a b;simp[cXf,a,c,this]
structure Tab(b:Bool)(t:cQv):Prop where
 rise:bQn t.place
 dum:t.dummies= #[]
 led:b=true\/t.led=true
theorem aKr(j:Nat):SetTable.has #[] j=false:=by
 unfold SetTable.has;simp
theorem bX0{b:Bool}{t:cQv}(T:Tab b t){j:Nat}(h:t.slot j= .empty):∀k,k<t.place.size->t.place.getD k 0≠j:=by
 intro k a e;obtain⟨b1,c,l⟩:=uU T.rise j;have d:bYL t.place j=k:=by
  have i:¬k<bYL t.place j:=λh=>by have:=b1 k h;omega
  have g:¬bYL t.place j<k:=λh=>by have:=c _ (bKU _) (by omega);have:=T.rise _ k h a;omega
  omega
 unfold SetTable.slot at h;dsimp only at h;rw[d]at h;have f:t.place[k]? =some j:=by
  rw[cQe a];have:t.place.getD k 0=t.place[k]:=by simp[cXf,a]
  rw[<- this,e]
 rw[f]at h;simp at h
theorem bXZ{b:Bool}{t:cQv}(T:Tab b t)(j:Nat):t.slot j≠ .dummy:=by
 unfold SetTable.slot;dsimp only;rw[T.dum,aKr];split<;> simp
theorem aQ6{b:Bool}{t:cQv}(T:Tab b t)(f:Nat->Int)(h:Int):∀ (a:Nat)(p:SetTable.Probe),p.dummy=none->∀j d,cZY t f h a p=some (.empty j d)->t.slot j= .empty/\d=none
 |0,p,_,j,d,e=>by unfold cZY at e;cases e
 |a+1,p,hp,j,d,e=>by
  have c:(t.advance p).dummy=none:=by
   unfold SetTable.advance;split
   ·exact hp
   ·exact hp
  unfold cZY at e;cases q:t.slot p.j with
  |empty=>rw[q]at e;simp only[cZW,SetTable.Met.empty.injEq]at e;obtain⟨rfl,rfl⟩:=e;exact⟨q,hp⟩
  |dummy=>exact absurd q (bXZ T _)
  |live i=>
   rw[q]at e;dsimp only at e;split at e
   ·cases e
   ·exact aQ6 T f h a _ c j d e
theorem v8{b:Bool}{t:cQv}(T:Tab b t)(n:Nat):Tab b (t.standIn n):=⟨aWA n,rfl,T.led⟩
theorem aV6{b:Bool}{t:cQv}(T:Tab b t)(k:Array (Int×bKN))(h:Int)(x:bKN):Tab b (layNew t k h x).2.1:=by
 unfold layNew;cases q:t.freeSlot h with
 |none=>exact v8 T _
 |some f=>
  obtain⟨a,m⟩:=f;dsimp only;have g:t.slot a= .empty:=by
   unfold SetTable.freeSlot at q;split at q
   ·rename_i j d e;simp only[cZW,Prod.mk.injEq]at q;obtain⟨i,l⟩:=aQ6 T _ h _ _ rfl j d e;rw[<- q.1,l];exact i
   ·cases q
  have c:Tab b (t.put a).1:=by unfold SetTable.put;dsimp only;refine⟨aJy T.rise (bX0 T g),?_,T.led⟩;rw[T.dum,aKr];rfl
  unfold SetTable.orStandIn;split
  ·exact c
  ·exact v8 c _
theorem aZz{b:Bool}{t:cQv}(T:Tab b t)(h:Array (Int×bKN))(c:Nat):Tab b (relayAll t h c).2.1:=by
 unfold relayAll;cases q:t.relaid (h.map (·.1)) c with
 |none=>exact v8 T _
 |some r=>
  obtain⟨n,g⟩:=r;dsimp only;have m:Tab b n:=by
   unfold SetTable.relaid SetTable.laid at q;simp only[Option.bind_eq_bind,Option.bind_eq_some_iff]at q;obtain⟨d,_,e⟩:=q;simp only[Option.pure_def,cZW,Prod.mk.injEq]at e;obtain⟨rfl,_⟩:=e;refine⟨aYl ?_,rfl,T.led⟩;rw[List.map_filterMap];have sub:∀ (f:Nat->Option Nat),(∀j k,f j=some k->k=j)->∀l:List Nat,List.Sublist (l.filterMap f) l:=by
    intro f o l;induction l with
    |nil=>exact List.Sublist.slnil
    |cons a r i=>
     rw[cXu];cases e:f a with
     |none=>exact i.cons a
     |some k=>rw[o a k e];exact i.cons_cons a
   refine List.Pairwise.sublist (sub _ ?_ _) List.pairwise_lt_range;intro j k e;cases q:d.getD j none with
   |none=>rw[q]at e;cases e
   |some z=>rw[q]at e;simpa using e.symm
  split
  ·exact m
  ·exact v8 T _
theorem bQh{b a:Bool}(h:b=true\/a=true):Tab b (.fresh 0 0 a):=⟨λi j d c=>absurd c (cQw _),rfl,h⟩
end Stb
namespace Stb
open PySem
def Ent(a:List Int)(b:List (Int×bKN)):Prop:=bYH (λ(k:Int)(e:Int×bKN)=>e.1=hashInt k/\∃t,e.2=Value.int k t) a b
theorem Ent.mem_l:∀ {b:List Int} {c:List (Int×bKN)},Ent b c->∀k∈b,∃e∈c,∃t,e.2=Value.int k t
 |_,_,.nil,k,a=>by cases a
 |_,_,.cons r t,k,a=>by
  rcases bKW.mp a with rfl|a
  ·exact⟨_,bK2 ..,r.2⟩
  ·obtain⟨e,d,z⟩:=Ent.mem_l t k a;exact⟨e,bKY _ d,z⟩
theorem Ent.mem_r:∀ {b:List Int} {c:List (Int×bKN)},Ent b c->∀e∈c,∃k∈b,e.1=hashInt k/\∃t,e.2=Value.int k t
 |_,_,.nil,e,a=>by cases a
 |_,_,.cons r t,e,a=>by
  rcases bKW.mp a with rfl|a
  ·exact⟨_,bK2 ..,r⟩
  ·obtain⟨k,d,z⟩:=Ent.mem_r t e a;exact⟨k,bKY _ d,z⟩
theorem Ent.elems{prog:bK9}{w:bYf}{f:List Int}{b:List (Int×bKN)}(h:Ent f b):ElemsOf (intKind prog w) b:=λe c=>by
 obtain⟨k,_,d,t,a⟩:=h.mem_r e c;refine⟨⟨k,?_,d⟩,?_⟩
 ·rw[a];exact intKind_is prog w k t
 ·rw[a];rfl
theorem Ent.length{a:List Int}{b:List (Int×bKN)}(h:Ent a b):a.length=b.length:=cXc h
theorem Ent.append:∀ {a ls:List Int} {b fs:List (Int×bKN)},Ent a b->Ent ls fs->Ent (a++ls) (b++fs)
 |_,_,_,_,.nil,s=>s
 |_,_,_,_,.cons r t,s=> .cons r (Ent.append t s)
theorem Ent.perm{g fs:List (Int×bKN)}(p:cZN g fs):∀ {a:List Int},Ent a g->∃b,Ent b fs/\b.Perm a:=by
 induction p with
 |nil=>exact λ{a} h=>⟨a,h,.rfl⟩
 |cons x p i=>
  intro a h;cases h with
  |cons r t=>obtain⟨b,c,f⟩:=i t;exact⟨_::b,.cons r c,f.cons _⟩
 |swap x y l=>
  intro a h;cases h with
  |cons r t=>
   cases t with
   |cons o n=>exact⟨_::_::_,.cons o (.cons r n),.swap ..⟩
 |trans p q e d=>intro a h;obtain⟨b,c,f⟩:=e h;obtain⟨j,k,m⟩:=d c;exact⟨j,k,m.trans f⟩
abbrev aZ0(w:bYf):Bool:=w.params.followText "set-order"
def aQO(w:bYf)(h:Heap)(a:Nat)(d:List Int):Prop:=
 ∃o b e t c,h.get? a=some o/\o.ExactSet/\o.data= .set b e t/\Ent c b.toList/\c.Perm d/\d.Nodup/\b.size<cZc/\t.fits b.size=true/\Tab (aZ0 w) t
theorem aQO.at{w:bYf}{h h':Heap}{a:Nat}{b:List Int}(x:aQO w h a b)(k:∀o,h.get? a=some o->h'.get? a=some o):aQO w h' a b:=
 let ⟨o,es,ep,t,ls,ho,r⟩:=x;⟨o,es,ep,t,ls,k o ho,r⟩
theorem aQO.there{w:bYf}{h:Heap}{a:Nat}{b:List Int}(x:aQO w h a b):∃o,h.get? a=some o:=
 let ⟨o,es,ep,t,ls,ho,r⟩:=x;⟨o,ho⟩
theorem aQO.type{w:bYf}{s:bKQ}{a:Nat}{b:List Int}(x:aQO w s.heap a b):s.TypeIs (.ref a) "set":=
 let ⟨o,es,ep,t,ls,ho,he,r⟩:=x;⟨o,ho,he.1⟩
theorem aYh{h:Heap}{a:Nat}{o:Obj}{f:Array (Int×bKN)}{d:Nat}{t:cQv}(e:h.get? a=some o)(c:o.data= .set f d t)(b:Array (Int×bKN))(t':cQv): (h.update a (Obj.putSet b t')).get? a=some {o with data:= .set b (d+1) t'}:=by
 have q:=bYO (Obj.putSet b t') e (by rw[putSet_of b t' c];rfl);rw[putSet_of b t' c]at q;exact q
section
variable {prog:bK9}{w:bYf}{A:bYr}{E:bKN->bKQ->Prop}{s:bKQ}
theorem aKq{b:Bool}{Q:Unit->bKQ->Prop}(h:Q () s):bKV (bKX prog w) A (match b with|true=>rule "set.scan.the-table-gave-way"|false=>pure ()) Q E s:=by
 cases b
 ·exact bKS h
 ·exact wpAny_rule h
theorem bVM{a:Nat}{p:List Int}{k:Int}{tk:Tok}{Q:Bool->bKQ->Prop}(hS:aQO w s.heap a p)(a5:p.length+1<cZc) (h:∀m b,cQN a s.heap m->aQO w m a (if k∈p then p else p++ [k])->Q b {s with heap:=m}): bKV (bKX prog w) A (setAddHashed a (.int k tk) (hashInt k)) Q E s:=by
 obtain⟨o,F,ep,t,ls,P,N,O,n,X,a0,hb,hf,hT⟩:=hS;have V:=n.elems (prog:=prog) (w:=w);have a9:F.size=p.length:=by rw[<- bY8,<- n.length,X.length_eq]
 unfold setAddHashed setAddHashedIn;refine bY5 (bKO (cXe P O hf ?_));dsimp only;rw[byScan_of (knd:=intKind prog w) rfl hb V];simp only[↓reduceIte];unfold setAddByScan;refine bKO ?_;refine bKO (wpAny_rule ?_);refine bKO (wpAny_setScan_of (knd:=intKind prog w) (k:=k) (intKind_is prog w k tk) P O hf V ?_);cases hr:List.findIdx? (λe=>(intKind prog w).is k e.2) F.toList with
 |some j=>
  dsimp only;obtain⟨hj,S,_⟩:=List.findIdx?_eq_some_iff_getElem.mp hr;have v:k∈p:=by
   obtain⟨k',a8,_,t',e'⟩:=n.mem_r _ (cQO hj);rw[e']at S;have:k=k':=by have z:(k'==k)=true:=S;exact(beq_iff_eq.mp z).symm
   rw[this];exact X.mem_iff.mp a8
  refine bKS (bKS ?_);have q:=h s.heap false (Heap.SameBut.refl a s.heap) (by rw[if_pos v];exact⟨o,F,ep,t,ls,P,N,O,n,X,a0,hb,hf,hT⟩);exact q
 |none=>
  dsimp only;have v:k∉p:=λz=>by obtain⟨e,he,t',e'⟩:=n.mem_l k (X.mem_iff.mpr z);have q:=List.findIdx?_eq_none_iff.mp hr e he;rw[e',intKind_is]at q;cases q
  rw[if_neg v]at h;have R:(p++ [k]).Nodup:=by rw[cXd];exact⟨a0,cQa ..,λx hx y hy=>by rw[bK4.mp hy];rintro rfl;exact v hx⟩
  have d:=layNew_perm t F (hashInt k) (.int k tk);have f:=layNew_fits t F (hashInt k) (.int k tk);have g:=aV6 hT F (hashInt k) (.int k tk);generalize hL:layNew t F (hashInt k) (.int k tk)=L at d f g ⊢;obtain⟨c,Z,l,b0⟩:=L;dsimp only at d f g ⊢;rw[Array.toList_push]at d;obtain⟨W,D,a4⟩:=(n.append (ls:= [k]) (fs:= [(hashInt k,.int k tk)]) (.cons ⟨rfl,tk,rfl⟩ .nil)).perm d.symm;have H:W.Perm (p++ [k]):=a4.trans (X.append_right [k]);have u:c.size<cZc:=by rw[<- bY8,d.length_eq,bYh,bY8];simpa using (by omega:F.size+1<cZc)
  have C:∀i:cQv,i.fits c.size=true->Tab (aZ0 w) i->
    bKV (bKX prog w) A (do
     storeSet a c i
     if(!l && i.tooFull)=true then do
       (match(relayAll i c (cXl c.size)).2.2 with|true=>rule "set.scan.the-table-gave-way"|false=>pure ())
       storeSet a (relayAll i c (cXl c.size)).1 (relayAll i c (cXl c.size)).2.1
       pure (some true)
      else pure (some true)) (λr U=>∃m,r=some true/\U= {s with heap:=m}/\cQN a s.heap m/\aQO w m a (p++ [k])) E s:=by
   intro i a3 a1
   refine bKO (wpAny_storeSet_of P O ?_ (cZZ u))
   have G:=cQf s.heap a (Obj.putSet c i)
   have J:=aYh P O c i
   split
   ·have B:=relayAll_perm i c (cXl c.size);have M:=relayAll_fits i c (cXl c.size);have I:=aZz a1 c (cXl c.size);generalize b1:relayAll i c (cXl c.size)=Rl at B M I ⊢;obtain⟨K,t3,a6⟩:=Rl;dsimp only at B M I ⊢;obtain⟨a7,Y,a2⟩:=D.perm B.symm;have T:K.size=c.size:=by rw[<- bY8,B.length_eq,bY8]
    refine bKO (aKq ?_);refine bKO (wpAny_storeSet_of J rfl ?_ (cZZ (by rw[T];exact u)));refine bKS ⟨_,rfl,rfl,G.trans (cQf _ a _),_,K,_,t3,a7,aYh J rfl K t3,N,rfl,Y,a2.trans H,R,by rw[T];exact u,M,I⟩
   ·exact bKS ⟨_,rfl,rfl,G,_,c,_,i,W,J,N,rfl,D,H,R,u,a3,a1⟩
  have done:∀ (r:Option Bool)(U:bKQ),(∃m,r=some true/\U= {s with heap:=m}/\cQN a s.heap m/\aQO w m a (p++ [k]))->
    bKV (bKX prog w) A (match r with|some added=>pure added|none=>setAddHashedIn a (.int k tk) (hashInt k) 99999) Q E U:=by
   rintro r U ⟨m,rfl,rfl,h1,h2⟩
   exact bKS (h m true h1 h2)
  refine bKO (aKq ?_);split
  ·refine bKO ?_;rw[hashByValue_scannable 8 (show(Value.int k tk).scannable=true from rfl)];refine bKS ?_;have e:(if plainKind (Value.int k tk)=true then Z else {Z with plain:=false})=Z:=rfl;rw[e];exact bYN (C Z f g) done λ_ _ z=>z
  ·refine bKO (bKS ?_);simp only[↓reduceIte];exact bYN (C Z f g) done λ_ _ z=>z
end
end Stb
namespace Stb
open PySem
theorem zB:Slot "set_iterator" "__next__" "set_iterator.__next__":=
 .of (owner:="set_iterator") (n:="__next__") (by rw[typeLookup_type,cZo];kernel_rfl) dk dk dk
  (by first|exact .inl dk|exact .inr dk) (by rw[isSubtype_type];kernel_rfl)
theorem uV:entryFor table "set_iterator.__next__"=some cQx.«set_iterator.__next__»:=entryFor_of_tree (by kernel_rfl)
theorem aVi:Manifest.owners.lookup (String.ofList ['r', 'o', 't', 'a', 'r', 'e', 't', 'i', '_', 't', 'e', 's'].reverse)=some Manifest.sig_set_iterator:=by kernel_rfl
theorem qD(a:bKN):argsOk "set_iterator.__next__" ⟨[a],[]⟩:=by
 unfold argsOk;rw[signature?_of (id:="set_iterator.__next__") (n:= ['_', '_', 't', 'x', 'e', 'n', '_', '_']) (o:= ['r', 'o', 't', 'a', 'r', 'e', 't', 'i', '_', 't', 'e', 's']) (by kernel_rfl) aVi];kernel_rfl
theorem aVY:entryFor table "set.__iter__"=some cQx.«frozenset.__iter__»:=
 entryFor_alias (id':="frozenset.__iter__") (by kernel_rfl) rfl dk (by kernel_rfl)
theorem Z2:Slot "set_iterator" "__iter__" "set_iterator.__iter__":=
 .of (owner:="set_iterator") (n:="__iter__") (by rw[typeLookup_type,cZo];kernel_rfl) dk dk dk
  (by first|exact .inl dk|exact .inr dk) (by rw[isSubtype_type];kernel_rfl)
def uE(first:bKN)(i:Nat)(a:Nat)(n b:Nat):Obj:={cls:= .type "set_iterator",data:= .fields #[first,.int i 0,.ref a,.int n 0,.int b 0] }
section
variable {prog:bK9}{w:bYf}{A:bYr}{E:bKN->bKQ->Prop}{s:bKQ}
theorem bQf{I:Nat}{Q:Option bKN->bKQ->Prop}{h₁:Heap}(g:A.handled=none)(i:cZi I s.heap h₁)(h:∀d,cZi I s.heap d->Q none {s with heap:=d}):
  bKV (bKX prog w) A.in1 (do raiseNew (<- newExc (.type "StopIteration") []):Sem PySem.Fin) (λf c=>∃r,f= .done (.ret r)/\bKV (bKX prog w) A (pure (some r)) Q E c)
   (λe c=>bKV (bKX prog w) A (do if <- cZy e (.type "StopIteration")then pure none else throw e) Q E c) {s with heap:=h₁}:=by
 refine bKO ?_
 simp only[newExc,newTuple]
 refine bKO (cQJ ?_ (by size_fits))
 refine bKO (m:=firstArgMember _ _) (wpAny_of_eq (a:=Value.none) (by first|rfl|(simp only[firstArgMember];rfl)) ?_)
 refine cQJ ?_ (by size_fits)
 simp only[raiseNew]
 refine bKO (wpAny_handled ?_)
 rw[show A.in1.handled=none from g]
 refine bKO (bKS (wpAny_throw ?_))
 refine bKO (wpAny_isInstance (T:="StopIteration") (b:=true) ⟨_,bYg _ rfl,rfl⟩ isSubtype_stop ?_)
 exact bKS (h _ ((i.push _).push _))
theorem aKP{I a:Nat}{o:Obj}{e:Array (Int×bKN)}{d:Nat}{t:cQv}{b i nx:Nat}{x:bKN}{Q:Option bKN->bKQ->Prop} (q:s.heap.get? a=some o) (p:o.data= .set e d t) (u:t.fits e.size=true) (f:s.heap.get? I=some (uE (.int b 0) i a e.size d)) (r:∀ (k:Option (bKN×Nat)->bKQ->Prop)(n:bKN->bKQ->Prop)(m:bYr),k (some (x,nx)) s->bKV (bKX prog w) m (setNext a b i d) k n s) (l:∀g,g.get? I=some (uE (.int nx 0) (i+1) a e.size d)->cQN I s.heap g->Q (some x) {s with heap:=g}):bKV (bKX prog w) A (pyNext (.ref I)) Q E s:=by
 have j:s.TypeIs (.ref I) "set_iterator":=⟨_,f,rfl⟩;unfold pyNext;refine bKO (cX1 (cXx (name:=cX9 "__next__") j zB (cQD zB j uV ?_ (qD _))));unfold cQx.«set_iterator.__next__»;refine bKO (bKS ?_);refine bKO (cZK f rfl ?_);show bKV _ _ (setEntries a >>=_) _ _ s;refine bKO (cXw q p u ?_);rw[if_neg (by simp)];show bKV _ _ (setNext a ((b:Int)).toNat ((i:Int)).toNat ((d:Int)).toNat >>=_) _ _ s;rw[bYq,bYq,bYq];refine bKO (r _ _ _ ?_);show bKV _ _ (setField (.ref I) 0 (bY2 nx) >>=_) _ _ s;refine bKO (cQQ f rfl (by simp) ?_);have c:=bYO (bY1 (·.setIfInBounds 0 (bY2 (nx:Int)))) f (bY9 (cQc rfl _));refine bKO (cQQ c rfl (by simp) (bKS ⟨x,rfl,bKS (l _ ?_ ((cQf ..).trans (cQf ..)))⟩));have h:=bYO (bY1 (·.setIfInBounds 1 (bY2 ((i:Int)+1)))) c (bY9 (cQc rfl _));exact h
end
end Stb
namespace Stb
open PySem
section
variable {prog:bK9}{w:bYf}{A:bYr}{E:bKN->bKQ->Prop}{s:bKQ}
theorem bQz{I a:Nat}{o:Obj}{d:Array (Int×bKN)}{c:Nat}{t:cQv}{b i:Nat}{Q:Option bKN->bKQ->Prop}(n:A.handled=none) (p:s.heap.get? a=some o) (m:o.data= .set d c t) (r:t.fits d.size=true) (e:s.heap.get? I=some (uE (.int b 0) i a d.size c)) (q:∀ (h:Option (bKN×Nat)->bKQ->Prop)(l:bKN->bKQ->Prop)(k:bYr),h none s->bKV (bKX prog w) k (setNext a b i c) h l s) (j:∀f,cZi I s.heap f->Q none {s with heap:=f}):bKV (bKX prog w) A (pyNext (.ref I)) Q E s:=by
 have g:s.TypeIs (.ref I) "set_iterator":=⟨_,e,rfl⟩;unfold pyNext;refine bKO (cX1 (cXx (name:=cX9 "__next__") g zB (cQD zB g uV ?_ (qD _))));unfold cQx.«set_iterator.__next__»;refine bKO (bKS ?_);refine bKO (cZK e rfl ?_);show bKV _ _ (setEntries a >>=_) _ _ s;refine bKO (cXw p m r ?_);rw[if_neg (by simp)];show bKV _ _ (setNext a ((b:Int)).toNat ((i:Int)).toNat ((c:Int)).toNat >>=_) _ _ s;rw[bYq,bYq,bYq];refine bKO (q _ _ _ ?_);show bKV _ _ (setField (.ref I) 2 .none >>=_) _ _ s;refine bKO (cQQ e rfl (by simp) ?_);exact bQf n (cQf ..).extBut j
theorem bQI{h:Heap}{I:Nat}{f:bKN}{i:Nat}{a:Nat}{n b:Nat}(c:h.get? I=some (uE f i a n b)): (h.update I (bY1 (·.setIfInBounds 1 (bY2 ((i:Int)+1))))).get? I=some (uE f (i+1) a n b):=by
 have q:=bYO (bY1 (·.setIfInBounds 1 (bY2 ((i:Int)+1)))) c (bY9 (cQc (o:=uE f i a n b) rfl _));rw[q];rfl
theorem bQH{h:Heap}{I:Nat}{f:bKN}{i:Nat}{a:Nat}{n b:Nat}(c:h.get? I=some (uE f i a n b)): (h.update I (bY1 (·.setIfInBounds 0 (bY2 (0:Int))))).get? I=some (uE (.int 0 0) i a n b):=by
 have q:=bYO (bY1 (·.setIfInBounds 0 (bY2 (0:Int)))) c (bY9 (cQc (o:=uE f i a n b) rfl _));rw[q];rfl
theorem aWg{I a p:Nat}{o:Obj}{b:Array (Int×bKN)}{k:Nat}{t:cQv}{i j:Nat}{pl:Array bKN}{op:Obj}{c:Nat}{e:Int×bKN}{Q:Option bKN->bKQ->Prop} (n:s.heap.get? a=some o) (m:o.data= .set b k t) (q:t.fits b.size=true) (d:s.heap.get? I=some (uE (.ref p) i a b.size k)) (v:s.heap.get? p=some op) (g:op.data= .seq pl c) (x:pl[i]? =some (.int j 0)) (u:b[j]? =some e) (r:∀f,f.get? I=some (uE (.ref p) (i+1) a b.size k)->cQN I s.heap f->Q (some e.2) {s with heap:=f}):bKV (bKX prog w) A (pyNext (.ref I)) Q E s:=by
 have l:s.TypeIs (.ref I) "set_iterator":=⟨_,d,rfl⟩;unfold pyNext;refine bKO (cX1 (cXx (name:=cX9 "__next__") l zB (cQD zB l uV ?_ (qD _))));unfold cQx.«set_iterator.__next__»;refine bKO (bKS ?_);refine bKO (cZK d rfl ?_);show bKV _ _ (setEntries a >>=_) _ _ s;refine bKO (cXw n m q ?_);rw[if_neg (by simp)];show bKV _ _ (seqItems? (.ref p) >>=_) _ _ s;refine bKO (wpAny_seqItems v g ?_);dsimp only;simp only[bYq,x];refine bKO ?_;unfold setNextDrawn;refine bKO (cXe n m q ?_);dsimp only;rw[if_neg (by simp)];obtain⟨y,ex⟩:=e;rw[u];refine bKS ?_;have h:=bQI d;refine bKO (cQQ d rfl (by simp) ?_);refine bKS ⟨ex,rfl,?_⟩;refine bKS ?_;exact r _ h (cQf s.heap I _)
theorem aKm{I a p:Nat}{o:Obj}{d:Array (Int×bKN)}{j:Nat}{t:cQv}{i:Nat}{pl:Array bKN}{op:Obj}{c:Nat}{Q:Option bKN->bKQ->Prop}(q:A.handled=none) (u:s.heap.get? a=some o) (n:o.data= .set d j t) (v:t.fits d.size=true) (b:s.heap.get? I=some (uE (.ref p) i a d.size j)) (l:s.heap.get? p=some op) (e:op.data= .seq pl c) (m:pl[i]? =none) (k:∀g,cZi I s.heap g->Q none {s with heap:=g}):bKV (bKX prog w) A (pyNext (.ref I)) Q E s:=by
 have h:s.TypeIs (.ref I) "set_iterator":=⟨_,b,rfl⟩;unfold pyNext;refine bKO (cX1 (cXx (name:=cX9 "__next__") h zB (cQD zB h uV ?_ (qD _))));unfold cQx.«set_iterator.__next__»;refine bKO (bKS ?_);refine bKO (cZK b rfl ?_);show bKV _ _ (setEntries a >>=_) _ _ s;refine bKO (cXw u n v ?_);rw[if_neg (by simp)];show bKV _ _ (seqItems? (.ref p) >>=_) _ _ s;refine bKO (wpAny_seqItems l e ?_);dsimp only;simp only[bYq,m];refine bKO (cQQ b rfl (by simp) ?_);have f:=bQH b;refine bKO (cQQ f rfl (by simp) ?_);have r:=(cQf s.heap I (bY1 (·.setIfInBounds 0 (bY2 (0:Int))))).trans (cQf _ I (bY1 (·.setIfInBounds 2 Value.none)));exact bQf (s:=s) q r.extBut k
theorem qW{α:Type}:∀ {l:List α} {i:Nat} (h:i<l.length),cZN (l[i]::l.eraseIdx i) l
 |x::r,0,_=> .rfl
 |x::r,i+1,h=>by have a:=qW (l:=r) (i:=i) (by simpa using h);exact(List.Perm.swap ..).trans (a.cons x)
theorem aZv{α:Type}(f:Nat->Nat):∀ (a k:Nat)(left:List α)(out:Array α),left.length=a->cZN (cXQ.go f a k left out).toList (out.toList++left)
 |0,k,left,out,h=>by have e:left= []:=List.length_eq_zero_iff.mp h;subst e;unfold cXQ.go;rw[bYY]
 |a+1,k,left,out,h=>by unfold cXQ.go;have b:f k % left.length<left.length:=Nat.mod_lt _ (by omega);rw[bKM b];dsimp only;refine(aZv f a (k+1) _ _ (by rw[List.length_eraseIdx,if_pos b];omega)).trans ?_;rw[Array.toList_push,cQZ,List.singleton_append];exact(qW b).append_left _
theorem bZh{a:Nat}{o:Obj}{b:Array (Int×bKN)}{c:Nat}{t:cQv}{Q:Array (Int×bKN)->bKQ->Prop}(d:s.heap.get? a=some o)(f:o.data= .set b c t)(g:t.fits b.size=true) (e:aZ0 w=true) (h:Q (cXQ (w.params.setOrder a c) b) s):bKV (bKX prog w) A (setWalk a) Q E s:=by
 unfold setWalk setsByText;refine bKO (cXe d f g ?_);dsimp only;refine bKO (bKO (cXt (bKS ?_)));show bKV (bKX prog w) A (if aZ0 w=true then _ else _) Q E s;rw[if_pos e];exact bKO (cXt (bKS h))
theorem aKQ{a:Nat}{o:Obj}{c:Array (Int×bKN)}{d:Nat}{t:cQv}{b i:Nat}{Q:Option (bKN×Nat)->bKQ->Prop}(f:s.heap.get? a=some o)(j:o.data= .set c d t) (k:t.fits c.size=true) (g:aZ0 w=true) (h:Q (((cXQ (w.params.setOrder a d) c)[i]?).map λe=>(e.2,b)) s):bKV (bKX prog w) A (setNext a b i d) Q E s:=by
 unfold setNext setsByText;refine bKO (cXe f j k ?_);dsimp only;refine bKO (bKO (cXt (bKS ?_)));show bKV (bKX prog w) A (if aZ0 w=true then _ else _) Q E s;rw[if_pos g];rw[if_neg (by simp)];exact bKO (bZh f j k g (bKS h))
theorem bQ0{a:Nat}{o:Obj}{c:Array (Int×bKN)}{e:Nat}{t:cQv}{b i:Nat}{Q:Option (bKN×Nat)->bKQ->Prop}(f:s.heap.get? a=some o)(k:o.data= .set c e t)
  (l:t.fits c.size=true) (g:aZ0 w=false) (d:(!t.plain && decide (c.size > 1))=false) (hl:t.led=true)
  (h:Q (match c[bYL t.place b]?,t.place[bYL t.place b]? with|some (_,x),some j=>some (x,j+1)|_,_=>none) s):bKV (bKX prog w) A (setNext a b i e) Q E s:=by
 unfold setNext setsByText
 refine bKO (cXe f k l ?_)
 dsimp only
 refine bKO (bKO (cXt (bKS ?_)))
 show bKV (bKX prog w) A (if aZ0 w=true then _ else _) Q E s
 rw[g,if_neg (by decide)]
 show bKV (bKX prog w) A (if(!t.plain && decide (c.size > 1))=true then _ else _) Q E s
 rw[d,if_neg (by decide)]
 refine bKO ?_
 show bKV (bKX prog w) A (if(!t.led && !c.isEmpty)=true then _ else _) _ E s
 rw[hl]
 simp only[Bool.not_true,Bool.false_and,Bool.false_eq_true,↓reduceIte]
 exact bKS (bKS h)
end
end Stb
namespace Stb
open PySem
def aXT(a:List Int)(vs:List bKN):Prop:=bYH (λ(k:Int)(v:bKN)=>∃t,v=Value.int k t) a vs
theorem Ent.vals:∀ {a:List Int} {b:List (Int×bKN)},Ent a b->aXT a (b.map (·.2))
 |_,_,.nil=> .nil
 |_,_,.cons r t=> .cons r.2 (Ent.vals t)
theorem bQU{α:Type}{xs ys:List α}(hl:xs.length=ys.length)(h:∀ (j:Nat)(x:α),xs[j]? =some x->ys[j]? =some x):xs=ys:=by
 apply cQ0;intro i;cases e:xs[i]? with
 |some x=>exact(h i x e).symm
 |none=>have:=cZ2.mp e;exact(cZ2.mpr (by omega)).symm
theorem X4{α β:Type}{f:α->Option β}:∀ {l:List α} (h:∀x∈l,(f x).isSome=true) (i:Nat),(l.filterMap f)[i]? =l[i]?.bind f
 |[],_,i=>by simp
 |x::r,h,i=>by
  obtain⟨y,e⟩:=Option.isSome_iff_exists.mp (h x (bK2 ..));rw[List.filterMap_cons_some e];cases i with
  |zero=>simp[e]
  |succ i=>simpa using X4 (λz a=>h z (bKY _ a)) i
theorem aXh:entryFor table "set_iterator.__iter__"=some cQx.«dict_keyiterator.__iter__»:=
 entryFor_alias (id':="dict_keyiterator.__iter__") (by kernel_rfl) rfl dk (by kernel_rfl)
theorem aXV(a:bKN):argsOk "set_iterator.__iter__" ⟨[a],[]⟩:=by
 unfold argsOk;rw[signature?_of (id:="set_iterator.__iter__") (n:= ['_', '_', 'r', 'e', 't', 'i', '_', '_']) (o:= ['r', 'o', 't', 'a', 'r', 'e', 't', 'i', '_', 't', 'e', 's']) (by kernel_rfl) aVi];kernel_rfl
section
variable {prog:bK9}{w:bYf}{A:bYr}{E:bKN->bKQ->Prop}{s:bKQ}
theorem aKl{α:Type}:∀ (n:Nat)(xs:List α)(s:bKQ)(Q:List α->bKQ->Prop),xs.length=n->(∀c d,cZN c xs->Q c {s with drawn:=d})->bKV (bKX prog w) A (drawOrder n xs) Q E s
 |0,xs,s,Q,hl,h=>by have e:xs= []:=List.length_eq_zero_iff.mp hl;subst e;unfold drawOrder;exact bKS (h [] s.drawn .rfl)
 |n+1,[],s,Q,hl,h=>by cases hl
 |n+1,x::r,s,Q,hl,h=>by
  unfold drawOrder;have a:w.draws .order (s.drawn.get .order) % (x::r).length<(x::r).length:=Nat.mod_lt _ (Nat.succ_pos _);refine bKO (m:=choose .order (x::r).length) ?_;have j:∀ (b:Nat->bKQ->Prop),b (w.draws .order (s.drawn.get .order) % (x::r).length) {s with drawn:=s.drawn.bump .order}->bKV (bKX prog w) A (choose .order (x::r).length) b E s:=by intro b f Γ p hΓ;show Sem.wp _ _ (.choose .order (x::r).length .pure) _ _ _ _;rw[Sem.wp_choose];exact⟨Nat.succ_ne_zero _,f⟩
  refine j _ ?_;generalize k:w.draws .order (s.drawn.get .order) % (x::r).length=i at a ⊢;rw[bKM a];dsimp only;refine bKO (aKl n _ _ _ (by rw[List.length_eraseIdx,if_pos a];simpa using hl) λc d g=>?_);exact bKS (h _ _ ((g.cons _).trans (qW a)))
theorem aYU{I a:Nat}{f:bKN}{i n d:Nat}{Q:bKN->bKQ->Prop}(c:s.heap.get? I=some (uE f i a n d))(h:Q (.ref I) s):bKV (bKX prog w) A (pyIter (.ref I)) Q E s:=by
 have b:s.TypeIs (.ref I) "set_iterator":=⟨_,c,rfl⟩;refine wpAny_pyIter_slot b Z2 (cQD Z2 b aXh ?_ (aXV _));show bKV _ _ (ret (.ref I)) _ _ s;exact bKS ⟨_,rfl,"set_iterator",_,b,zB.lookup,h⟩
theorem aW0{I a:Nat}{o:Obj}{es:Array (Int×bKN)}{ep:Nat}{t:cQv}{vs:List bKN}{g:Nat->Nat}(hd:o.data= .set es ep t)(hf:t.fits es.size=true)(hv:vs.length=es.size)(hne:a≠I)
  (hx:∀ (s:bKQ)(i:Nat)(A':bYr)(E':bKN->bKQ->Prop)(Q':Option (bKN×Nat)->bKQ->Prop),s.heap.get? a=some o->i<=es.size->Q' ((vs[i]?).map λx=>(x,g (i+1))) s->bKV (bKX prog w) A' (setNext a (g i) i ep) Q' E' s)
  (hh:A.handled=none):Walks prog w A I [I,a] [I] es.size (λi v=>vs[i]? =some v) (λi h=>i<=es.size/\h.get? a=some o/\h.get? I=some (uE (.int (g i) 0) i a es.size ep)) where
 sub:=λb hb=>by simp at hb;simp[hb]
 frame:=λi h h' st k=>⟨st.1,k a (by simp) o st.2.1,k I (by simp) _ st.2.2⟩
 item:=λi s Q E hi st hQ=>by
  obtain⟨h1,h2,h3⟩:=st
  have hlt:i<vs.length:=by omega
  refine aKP (nx:=g (i+1)) (x:=vs[i]) h2 hd hf h3 (λQ' E' A' hq=>hx s i A' E' Q' h2 h1 (by rw[bKM hlt];exact hq)) λh' hI' sb=>?_
  exact hQ _ h' s.toks (bKM hlt) ⟨by omega,sb.extBut a o hne h2,hI'⟩ λb ob hb e=>sb.extBut b ob (λz=>hb (by simp[z])) e
 done:=λs Q E st hQ=>by
  obtain⟨h1,h2,h3⟩:=st
  refine bQz hh h2 hd hf h3 (λQ' E' A' hq=>hx s es.size A' E' Q' h2 h1 (by rw[bYl (by omega)];exact hq)) λh' sb=>?_
  exact hQ h' s.toks λb ob hb e=>sb b ob (λz=>hb (by simp[z])) e
 self:=λi s Q E st hQ=>aYU st.2.2 hQ
theorem aJZ{I a p:Nat}{o op:Obj}{es:Array (Int×bKN)}{ep c:Nat}{t:cQv}{vs:List bKN}{ys:List Nat}(hd:o.data= .set es ep t)(hf:t.fits es.size=true)(hv:ys.length=es.size)
  (hpd:op.data= .seq (ys.map λ(j:Nat)=>Value.int j 0).toArray c) (hne:a≠I) (hnp:p≠I) (hx:∀ (i j:Nat),ys[i]? =some j->∃e,es[j]? =some e/\vs[i]? =some e.2)
  (hh:A.handled=none):Walks prog w A I [I,a,p] [I] es.size (λi v=>vs[i]? =some v) (λi h=>i<=es.size/\h.get? a=some o/\h.get? p=some op/\h.get? I=some (uE (.ref p) i a es.size ep)) where
 sub:=λb hb=>by simp at hb;simp[hb]
 frame:=λi h h' st k=>⟨st.1,k a (by simp) o st.2.1,k p (by simp) op st.2.2.1,k I (by simp) _ st.2.2.2⟩
 item:=λi s Q E hi st hQ=>by
  obtain⟨h1,h2,h3,h4⟩:=st
  have hlt:i<ys.length:=by omega
  obtain⟨e,he,hve⟩:=hx i ys[i] (bKM hlt)
  refine aWg (j:=ys[i]) (e:=e) h2 hd hf h4 h3 hpd (by simp[hlt]) he λh' hI' sb=>?_
  exact hQ _ h' s.toks hve ⟨by omega,sb.extBut a o hne h2,sb.extBut p op hnp h3,hI'⟩ λb ob hb e=>sb.extBut b ob (λz=>hb (by simp[z])) e
 done:=λs Q E st hQ=>by
  obtain⟨h1,h2,h3,h4⟩:=st
  refine aKm hh h2 hd hf h4 h3 hpd (by simp[hv]) λh' sb=>?_
  exact hQ h' s.toks λb ob hb e=>sb b ob (λz=>hb (by simp[z])) e
 self:=λi s Q E st hQ=>aYU st.2.2.2 hQ
theorem bJk{a:Nat}{U:List Int}{Q:bKN->bKQ->Prop}(hS:aQO w s.heap a U) (h:∀ (I:Nat)(h':Heap)(d:Drawn)(fp:List Nat)(St:Nat->Heap->Prop)(vs:List bKN)(ls:List Int),s.heap.objs.size<=I->(∀b∈fp,b=a\/s.heap.objs.size<=b)->(∀b∈fp,b<h'.objs.size)->aXT ls vs->ls.Perm U-> (∀ (A:bYr),A.handled=none->Walks prog w A I fp [I] U.length (λi v=>vs[i]? =some v) St)->St 0 h'->(∀b o,s.heap.get? b=some o->h'.get? b=some o)-> Q (.ref I) {s with heap:=h',drawn:=d}):bKV (bKX prog w) A (pyIter (.ref a)) Q E s:=by
 have hT:=hS.type;obtain⟨o,f,u,t,ls,N,a9,H,G,Z,a8,l,y,M⟩:=hS;have J:f.size=U.length:=by rw[<- bY8,<- G.length,Z.length_eq]
 have C:a<s.heap.objs.size:=bK1 N;refine wpAny_pyIter_slot hT F.slot_set_iter (cQD F.slot_set_iter hT aVY ?_ (F.args_set_iter_1 _));unfold cQx.«frozenset.__iter__» Builtin.Frozenset.slot0 slotArgs;simp only[List.isEmpty_nil,Bool.not_true,Bool.false_eq_true,↓reduceIte,bind_assoc,cQS,bne_self_eq_false];unfold Builtin.Frozenset.addrOf Builtin.Frozenset.sizeOf;refine bKO (bKS ?_);try dsimp only
 refine bKO (bKS ?_);refine bKO (bKO (cXw N H y (bKS ?_)));refine bKO ?_;unfold setDrawn setsByText;refine bKO (cXe N H y ?_);dsimp only;refine bKO (bKO (cXt (bKS ?_)));refine bKS ?_;refine cZB (λc=>?_) (λc=>?_)
 ·refine bKO (aKl f.size (bK0 f.size) s _ bYD λq d O=>?_);have T:q.length=f.size:=by rw[O.length_eq,bYD]
  have V:∀j∈q,j<f.size:=λj W=>bYj.mp (O.mem_iff.mp W);refine bKO (wpAny_newTuple ?_ (by rw[bKT,T];exact cZZ l));have a3:=bKR {cls:= .type "tuple",data:= .seq (q.map λ(i:Nat)=>bY2 (i:Int)).toArray} N;refine bKO (wpAny_setEpoch_of a3 H y ?_);refine bKO (cQJ (bKS ⟨_,rfl,"set_iterator",_,⟨_,bYg _ rfl,rfl⟩,zB.lookup,?_⟩));have P:cZN (q.filterMap λj=>f[j]?) f.toList:=(O.filterMap _).trans (by rw[filterMap_getElem?_range]);obtain⟨k,m,n⟩:=G.perm P.symm;have a0:∀ (i j:Nat),q[i]? =some j->∃e,f[j]? =some e/\((q.filterMap λj=>f[j]?).map (·.2))[i]? =some e.2:=λi j e=>by have W:j<f.size:=V j (bK5 e);refine⟨f[j],cQe W,?_⟩;rw[bK7,X4 (λx hx=>by rw[cQe (V x hx)];rfl),e,Option.bind_some,cQe W];rfl
  have fin:∀ (B:Heap)(Y:Obj),Y.data= .seq (q.map λ(i:Nat)=>Value.int i 0).toArray 0->B.objs.size=s.heap.objs.size+1->B.get? s.heap.objs.size=some Y->(∀b o,s.heap.get? b=some o->B.get? b=some o)->
    Q (.ref B.objs.size) {s with heap:=B.push (uE (.ref s.heap.objs.size) 0 a f.size u),drawn:=d}:=by
   intro B Y a1 r a5 hk
   refine h B.objs.size _ d [B.objs.size,a,s.heap.objs.size] (λi h=>i<=f.size/\h.get? a=some o/\h.get? s.heap.objs.size=some Y/\h.get? B.objs.size=some (uE (.ref s.heap.objs.size) i a f.size u)) _ k ?_ ?_ ?_ m.vals (n.trans Z)
    (λA hh=>by rw[<- J];exact aJZ (o:=o) (ys:=q) (c:=0) H y T a1 (bYb (by rw[r];exact bYU C)) (bYb (by rw[r];exact cQA _)) a0 hh) ⟨bYJ _,bKR _ (hk _ _ N),bKR _ a5,bYg _ rfl⟩ λb ob e=>bKR _ (hk _ _ e)
   ·omega
   ·intro b l;simp only[bKW,cXm,or_false]at l;rcases l with rfl|rfl|rfl
    ·right;omega
    ·left;rfl
    ·right;exact bKU _
   ·intro b l;rw[cQl];simp only[bKW,cXm,or_false]at l;rcases l with rfl|rfl|rfl
    ·exact cQA _
    ·rw[r];exact bYU (bYU C)
    ·rw[r];exact bYU (cQA _)
  exact fin _ _ rfl (cQl ..) (bYg _ rfl) λb ob e=>bKR _ e
 ·refine bKO (bKS ?_);refine bKO (wpAny_setEpoch_of N H y ?_);refine bKO (cQJ (bKS ⟨_,rfl,"set_iterator",_,⟨_,bYg _ rfl,rfl⟩,zB.lookup,?_⟩));have fin:∀ (vs:List bKN)(g:Nat->Nat)(k:List Int),g 0=0->vs.length=f.size->aXT k vs->k.Perm U->
    (∀ (s:bKQ)(i:Nat)(A':bYr)(E':bKN->bKQ->Prop)(X:Option (bKN×Nat)->bKQ->Prop),s.heap.get? a=some o->i<=f.size->X ((vs[i]?).map λx=>(x,g (i+1))) s->bKV (bKX prog w) A' (setNext a (g i) i u) X E' s)->
    Q (.ref s.heap.objs.size) {s with heap:=s.heap.push {cls:= .type "set_iterator",dict:=none,data:= .fields [bY2 0,bY2 0,Value.ref a,bY2 (f.size:Int),bY2 (u:Int)].toArray} }:=by
   intro vs g k g0 a2 hv n hx
   refine h s.heap.objs.size _ s.drawn [s.heap.objs.size,a] (λi h=>i<=f.size/\h.get? a=some o/\h.get? s.heap.objs.size=some (uE (.int (g i) 0) i a f.size u)) vs k (bKU _) ?_ ?_ hv n
    (λA hh=>by rw[<- J];exact aW0 (o:=o) (g:=g) H y a2 (bYb C) hx hh) ⟨bYJ _,bKR _ N,?_⟩ λb ob e=>bKR _ e
   ·intro b l;simp only[bKW,cXm,or_false]at l;rcases l with rfl|rfl
    ·right;exact bKU _
    ·left;rfl
   ·intro b l;rw[cQl];simp only[bKW,cXm,or_false]at l;rcases l with rfl|rfl
    ·exact cQA _
    ·exact bYU C
   ·rw[g0];exact bYg _ rfl
  cases D:aZ0 w with
  |true=>
   have pp:cZN (cXQ (w.params.setOrder a u) f).toList f.toList:=by have:=aZv (w.params.setOrder a u) f.size 0 f.toList #[] (by simp);simpa[cXQ]using this
   obtain⟨k,m,n⟩:=G.perm pp.symm;refine fin ((cXQ (w.params.setOrder a u) f).toList.map (·.2)) (λ_=>0) k rfl (by rw[bKT,pp.length_eq];simp) m.vals (n.trans Z) λs i A' E' X R hi p=>?_;refine aKQ R H y D ?_;rw[bK7,cQk]at p;cases e:(cXQ (w.params.setOrder a u) f)[i]? with
   |none=>rw[e]at p;exact p
   |some z=>rw[e]at p;exact p
  |false=>
   have a6:(!t.plain && decide (f.size > 1))=false:=by have c':¬ ((!aZ0 w && (!t.plain && decide (f.size > 1)))=true):=c;rw[D]at c';simpa using c'
   have S:t.led=true:=M.led.resolve_left (by rw[D];decide);have a7:t.place.size=f.size:=by have:=y;simp only[SetTable.fits,Bool.and_eq_true,beq_iff_eq]at this;exact this.1
   refine fin (f.toList.map (·.2)) (λi=>if i=0 then 0 else t.place.getD (i - 1) 0+1) ls (by simp) (by simp) G.vals Z λs i A' E' X R hi p=>?_;refine bQ0 R H y D a6 S ?_;have a4:bYL t.place (if i=0 then 0 else t.place.getD (i - 1) 0+1)=i:=by
    by_cases h0:i=0
    ·rw[if_pos h0,aVQ M.rise,h0]
    ·rw[if_neg h0,aVP M.rise (by omega)];omega
   rw[a4];by_cases K:i<f.size
   ·have L:i<t.place.size:=by omega
    rw[cQe K,cQe L];rw[bK7,cQk,cQe K]at p;have e1:t.place.getD i 0=t.place[i]:=by simp[cXf,L]
    simpa[e1]using p
   ·rw[cXD (by omega)];rw[bK7,cQk,cXD (by omega)]at p;exact p
end
end Stb
namespace Stb
open PySem PyProof.Rows
section
variable {prog:bK9}{w:bYf}{A:bYr}{E:bKN->bKQ->Prop}{s:bKQ}
theorem bJh{r:Nat}{Q:Bool->bKQ->Prop}(c:s.TypeIs (.ref r) "set")(h:Q false s):bKV (bKX prog w) A (cZL (.ref r)) Q E s:=by
 unfold cZL;refine bKO (wpAny_specialOf c PySem.F.slot_set_len.lookup ?_);generalize a:("set.__len__":String)=q;wp_delta;rw[show splitId q=some ("set","__len__")from by subst a;decide+kernel];subst a;refine bKO (wpAny_isInstance (T:="set") (b:=true) c sub_set_self ?_);refine cZB (λz=>absurd z (by decide)) (λ_=>?_);refine cZB (λ_=>?_) (λz=>absurd dk z);exact bKO (wpAny_typeOf c (bKS h))
theorem aVT{a:Nat}{n:List Int}{R:List bKN->bKQ->Prop}(hh:A.handled=none)(U:aQO w s.heap a n)(hn:n.length<=bYd) (h:∀ (h':Heap)(tk:Nat)(d:Drawn)(vs:List bKN)(ls:List Int),s.heap.objs.size<h'.objs.size->(∀b o,s.heap.get? b=some o->h'.get? b=some o)->aXT ls vs->ls.Perm n->R vs {s with heap:=h',toks:=tk,drawn:=d}): bKV (bKX prog w) A (collect (.ref a)) R E s:=by
 have hT:=U.type;obtain⟨oa,V⟩:=U.there;have P:a<s.heap.objs.size:=bK1 V;unfold collect;refine bKO (wpAny_runValue (cQY entry_proto_collect' ?_));rw[cQF PySem.F.plain_proto_collect _];show bKV _ A.in1 (newList [] >>=λl=>again (.builtin "list.__iadd__" ⟨[l,.ref a],[]⟩)) _ _ s;refine bKO (cQJ ?_);refine bKS ⟨cX0 PySem.F.plain_list_iadd _,cQY entry_list_iadd' ?_⟩;rw[cQF PySem.F.plain_list_iadd _];have hL:(s.heap.push {cls:= .type "list",data:= .seq ([]:List bKN).toArray}).get? s.heap.objs.size=some {cls:= .type "list",data:= .seq #[] }:=bYg _ rfl;have t:aQO w (s.heap.push {cls:= .type "list",data:= .seq ([]:List bKN).toArray}) a n:=U.at λo e=>bKR _ e;have k:(s.heap.push {cls:= .type "list",data:= .seq ([]:List bKN).toArray}).objs.size=s.heap.objs.size+1:=cQl ..;generalize a4:s.heap.push {cls:= .type "list",data:= .seq ([]:List bKN).toArray}=H1 at hL t k ⊢;have a8:∀b o,s.heap.get? b=some o->H1.get? b=some o:=λb o e=>by rw[<- a4];exact bKR _ e
 show bKV _ A.in1 (cXN (.ref s.heap.objs.size) (.ref a) (.ref s.heap.objs.size)) _ _ {s with heap:=H1};have D:Shared.TypeIs {s with heap:=H1} (.ref a) "set":=t.type (s:={s with heap:=H1});unfold cXN;refine bKO (wpAny_typeOf (T:="set") D ?_);have q1:cZ5 (.ref s.heap.objs.size) (.ref a)=false:=by simp[cZ5,cXp P]
 have q2:(Value.type "set"==Value.type "list")=false:=by decide
 have q3:(Value.type "set"==Value.type "tuple")=false:=by decide
 simp only[q1,q2,q3,Bool.or_false,Bool.false_eq_true,if_false];refine bKO (bJk (s:={s with heap:=H1}) t ?_);intro I h2 d fp St vs ls hI a3 b0 hv hp W K u;have C:s.heap.objs.size∉fp:=λz=>by
  rcases a3 _ z with e|e
  ·exact cXp P e
  ·have e':H1.objs.size<=s.heap.objs.size:=e;rw[k]at e';exact absurd e' (Nat.not_succ_le_self _)
 have y:=u _ _ hL;have H:∀ (L:Heap)(c:Nat),St 0 L->(∀b o,b≠s.heap.objs.size->h2.get? b=some o->L.get? b=some o)->L.get? s.heap.objs.size=some {cls:= .type "list",data:= .seq #[] c}->
   cQ1 (bKX prog w) A (.builtin "list.extend.loop" ⟨[.ref s.heap.objs.size,.ref I,.ref s.heap.objs.size],[]⟩)
    (λq g=>∃ (h':Heap)(tk:Nat)(f:Array bKN)(B:Nat),q= .ok (.ret (.ref s.heap.objs.size))/\g= {s with heap:=h',toks:=tk,drawn:=d}/\
     (∀b o,s.heap.get? b=some o->h'.get? b=some o)/\h'.get? s.heap.objs.size=some {cls:= .type "list",dict:=none,data:= .seq f B,slots:= #[] }/\ItemsOf (λi v=>vs[i]? =some v) f n.length) {s with heap:=L,drawn:=d}:=by
  intro L c M Z m
  refine codeAny_extend_loopS (W A.in1 hh).toS hn s.heap.objs.size C (.ref s.heap.objs.size) n.length 0 _ #[] c rfl (bYJ _) M m (ItemsOf.nil _) λg O B S X N=>?_
  obtain⟨a7,g',d',a0,a2⟩:=g
  have eg:g'=s.gens:=S.gens
  have ed:d'=d:=S.drawn
  have eo:a2=s.os:=S.os
  subst eg ed eo
  refine⟨a7,a0,O,B,rfl,rfl,λb o e=>?_,X,N⟩
  have p:b<s.heap.objs.size:=bK1 e
  refine S.heap b o (λz=>?_) (Z b o (bYb p) (u b o (a8 b o e)))
  rcases bKW.mp z with z|z
  ·exact bYb p z
  ·have z':b=I:=bK4.mp z;have J:H1.objs.size<=I:=hI;rw[k,<- z']at J;exact absurd (bYe p (Nat.le_of_succ_le J)) (bYW _)
 have r:∀ (q:Result)(g:bKQ),(∃ (h':Heap)(tk:Nat)(f:Array bKN)(B:Nat),q= .ok (.ret (.ref s.heap.objs.size))/\g= {s with heap:=h',toks:=tk,drawn:=d}/\ (∀b o,s.heap.get? b=some o->h'.get? b=some o)/\h'.get? s.heap.objs.size=some {cls:= .type "list",dict:=none,data:= .seq f B,slots:= #[] }/\ItemsOf (λi v=>vs[i]? =some v) f n.length)->
   ∃tk h',q= .ok (.ret (.ref s.heap.objs.size))/\g= {s with heap:=h',toks:=tk,drawn:=d}/\bKV (bKX prog w) A (do
    let o <- load s.heap.objs.size
    match o.data with
    |.seq xs _=>pure xs.toList
    |_=>unsupported "internal:collect") R E {s with heap:=h',toks:=tk,drawn:=d}:=by
  rintro q g ⟨h',tk,f,B,rfl,rfl,hk,hg,G⟩
  refine⟨tk,h',rfl,rfl,bKO (wpAny_load hg (bKS ?_))⟩
  have Y:vs.length=n.length:=by rw[<- cXc hv,hp.length_eq]
  have e:f.toList=vs:=bQU (by rw[bY8,G.1,Y]) λj x hx=>G.2 j x (by rw[<- cQk];exact hx)
  show R f.toList _
  rw[e]
  exact h h' tk d vs ls (bK1 hg) hk hv hp
 have a9:Shared.TypeIs {s with heap:=h2,drawn:=d} (.ref a) "set":=by obtain⟨o',a6,a5⟩:=D;exact⟨o',u _ _ a6,a5⟩
 refine bKO (bY5 (bJh a9 ?_));refine cZB (λ_=>?_) (λ_=>?_)
 ·refine bKO (wpAny_rule ?_);refine bKO ?_;show bKV _ _ (updateSeq s.heap.objs.size (·.push .none) >>=λ_=>updateSeq s.heap.objs.size (·.pop)) _ _ _;refine bKO (wpAny_updateSeq y rfl ?_);have m:=bYO (bYE (·.push Value.none)) y rfl;refine wpAny_updateSeq (hz:=by seq_fits) m rfl ?_;have a1:=bYO (bYE (·.pop)) m rfl;refine bKS ⟨cX0 cZ4 _,cQC (H _ _ ?_ (λb o p e=>?_) a1) λq g z=>?_⟩
  ·refine(W A.in1 hh).frame 0 _ _ K λb p o e=>?_;have Q:b≠s.heap.objs.size:=λz=>C (z ▸ p);exact(bYk _ _ (bYv Q)).trans ((bYk _ _ (bYv Q)).trans e)
  ·exact(bYk _ _ (bYv p)).trans ((bYk _ _ (bYv p)).trans e)
  ·obtain⟨tk,h',rfl,rfl,zz⟩:=r q g z;exact zz
 ·refine bKS ⟨cX0 cZ4 _,cQC (H _ _ K (λb o _ e=>e) y) λq g z=>?_⟩;obtain⟨tk,h',rfl,rfl,zz⟩:=r q g z;exact zz
theorem X7:∀ {a:List Int} {vs:List bKN},aXT a vs->cXi vs a
 |_,_,.nil=> .nil
 |_,_,.cons ⟨t,e⟩ r=>by subst e;exact .cons _ t (X7 r)
theorem aWU{a:Nat}{f:List Int}{Q:bKN->bKQ->Prop}(z:A.handled=none)(x:aQO w s.heap a f)(F:f.length<64) (h:∀ (l:Nat)(h':Heap)(tk:Nat)(d:Drawn)(out:List bKN)(i:List Int)(n:Nat),s.heap.objs.size<=l->(∀b o,s.heap.get? b=some o->h'.get? b=some o)->h'.get? l=some {cls:= .type "list",data:= .seq out.toArray n}-> cXi out i->i.Perm f->i.Pairwise (·<=·)->Q (.ref l) {s with heap:=h',toks:=tk,drawn:=d}):bKV (bKX prog w) A (call (.builtin "sorted") [.ref a]) Q E s:=by
 refine cX6 kind_sorted plain_sorted entry_sorted (args_sorted1 _) ?_;unfold cQx.«sorted»;refine bKO (m:=checkCount "sorted" 1 1 _) (bKS ?_);refine bKO (aVT (A:=A.in1) z x (by rw[bYm];omega) λg tk d p G j D u t=>?_);have C:=X7 u;have k:p.length=f.length:=by rw[<- cXc u,t.length_eq]
 refine bKO (cX2 ?_ (by rw[k,bYm];omega));have c:(g.push {cls:= .type "list",data:= .seq p.toArray}).get? g.objs.size=some (bYB "list" p.toArray 0):=bYg _ rfl;refine bKO (bY5 (cQD slot_list_sort ⟨_,c,rfl⟩ entry_list_sort (list_sort_tree c C (by omega) λout q y v B=>⟨_,rfl,?_⟩) (args_list_sort _)));obtain⟨n,e⟩:=sortedHeap_at (out:=out) c;refine bKS ⟨_,rfl,h g.objs.size _ tk d out.toList q n (cXo j) (λb o e=>?_) (by simpa using e) y (v.trans t) B⟩;have r:=D b o e;rw[sortedHeap_old (bYb (bK1 r)) (by rw[cQl];exact bYU (bK1 r))];exact bKR _ r
end
end Stb
namespace Stb
open PySem PyProof.Rows
def met(val:Nat->Int):Nat->List Int
 |0=> []
 |i+1=>if val i∈met val i then met val i else met val i++ [val i]
theorem aJe(val:Nat->Int):∀i,(met val i).length<=i
 |0=>bKU _
 |i+1=>by
  have a:=aJe val i;unfold met;split
  ·omega
  ·rw[bYh,bYX];omega
theorem aKM(val:Nat->Int)(d:Int):∀i,d∈met val i↔∃j,j<i/\val j=d
 |0=>by simp[met]
 |i+1=>by
  have b:=aKM val d i;have step:d∈met val (i+1)↔d∈met val i\/d=val i:=by
   show d∈(if val i∈met val i then met val i else met val i++ [val i])↔_;split
   ·rename_i a;constructor
    ·exact .inl
    ·rintro(z|rfl)
     ·exact z
     ·exact a
   ·simp
  rw[step,b];constructor
  ·rintro(⟨j,c,e⟩|rfl)
   ·exact⟨j,by omega,e⟩
   ·exact⟨i,by omega,rfl⟩
  ·rintro⟨j,c,e⟩;by_cases h:j=i
   ·subst h;exact .inr e.symm
   ·exact .inl ⟨j,by omega,e⟩
section
variable {prog:bK9}{w:bYf}{A:bYr}
theorem bJc{R:Result->bKQ->Prop}{I:Nat}{J H:List Nat}{n:Nat}{P:Nat->bKN->Prop}{St:Nat->Heap->Prop}(W:Walks prog w A.in1 I J H n P St)(S:Nat)(l:S∉J) (val:Nat->Int) (p:∀i v,P i v->∃t,v= .int (val i) t) (a:n+1<cZc): ∀ (k i:Nat)(s:bKQ),n - i=k->i<=n->St i s.heap->aQO w s.heap S (met val i)-> (∀f tk,(∀b o,b∉S::H->s.heap.get? b=some o->f.get? b=some o)->aQO w f S (met val n)->R (.ok (.ret .none)) {s with heap:=f,toks:=tk})-> cQ1 (bKX prog w) A (.builtin "set.update.loop" ⟨[.ref S,.ref I],[]⟩) R s:=by
 have q:S∉H:=λh=>l (W.sub _ h);intro k;induction k with
 |zero=>
  intro i s Q M d C hR;obtain rfl:i=n:=by omega
  refine cQY cX8 ?_;rw[cQF cQ7 _];refine bKO (m:=pyNext (.ref I)) (W.done s _ _ d λf tk x=>?_);exact bKS (hR f tk (λb o a e=>x b o (λz=>a (bKY _ z)) e) (C.at λo e=>x S o q e))
 |succ k N=>
  intro i s Q M d C hR;have j:i<n:=by omega
  refine cQY cX8 ?_;rw[cQF cQ7 _];refine bKO (m:=pyNext (.ref I)) (W.item i s _ _ j d λv y g L r u=>?_);obtain⟨t,rfl⟩:=p i v L;show bKV _ A.in1 (cX3 [Value.int (val i) t] (setAdd S (.int (val i) t)) >>=_) _ _ {s with heap:=y,toks:=g};refine bKO (bY5 ?_);unfold setAdd;refine bY5 ?_;refine bKO ((intKind prog w).pyHash (k:=val i) (intKind_is _ _ _ _) ?_);have c:(met val i).length+1<cZc:=by have:=aJe val i;omega
  refine bVM (s:={s with heap:=y,toks:=g+1}) (C.at λo e=>u S o q e) c λT b K E=>?_;refine bKS ⟨cX0 cQ7 _,N (i+1) _ (by omega) j (W.frame _ y _ r λb a o e=>?_) E λO D G B=>?_⟩
  ·exact K.extBut b o (λz=>l (z ▸ a)) e
  ·refine hR O D (λb o a e=>G b o a (K.extBut b o (λz=>a (by rw[z];exact bK2)) (u b o (λz=>a (bKY _ z)) e))) B
variable {E:bKN->bKQ->Prop}{s:bKQ}
theorem bV5(a:bKN){Q₁:bKN->bKQ->Prop} (h:Q₁ (.ref s.heap.objs.size) {s with heap:=s.heap.push {cls:= .type "set",dict:=none,data:= .set #[] 0 (.fresh 0 0 (!aZ0 w)) } }): cQ1 (bKX prog w) A (.call (.builtin "set.__new__") ⟨[.type "set",a],[]⟩) (wants Q₁ E) s:=by
 refine codeAny_of_tree ?_;show bKV _ A.in1 (do checkBuiltinCall "set.__new__" ⟨[.type "set",a],[]⟩;again (.builtin "set.__new__" ⟨[.type "set",a],[]⟩)) _ _ s;refine bKO (wpAny_of_eq (PySem.F.newCall_set_1 a) (bKS ⟨cX0 PySem.F.plain_set_new _,cQY PySem.F.entry_set_new ?_⟩));rw[cQF PySem.F.plain_set_new _];unfold cQx.«set.__new__» Builtin.Frozenset.newClass;have b:=sub_set_self;obtain⟨e,g,d,tk,c⟩:=s;dsimp only;wp_walk;refine cXt (bKS ?_);dsimp only;simp only[newObj];refine bKO (wpAny_alloc (bKS ?_));exact bKS h
set_option maxHeartbeats 3200000 in
theorem zP{l:Nat}{items:Array bKN}{q:List Int}{Q:bKN->bKQ->Prop}(hh:A.handled=none)(hl:s.heap.IsList l items)(hi:cXi items.toList q)(N:items.size+1<cZc) (h:∀ (h':Heap)(tk:Nat),aQO w h' s.heap.objs.size (met (λi=>q.getD i 0) items.size)->(∀b o,s.heap.get? b=some o->h'.get? b=some o)->Q (.ref s.heap.objs.size) {s with heap:=h',toks:=tk}): bKV (bKX prog w) A (call (.type "set") [.ref l]) Q E s:=by
 obtain⟨c,tl,a3⟩:=cQB.mro;have Z:=cQB.made;have a4:=cQB.sub;refine cXW (codeAny_of_tree ?_);show bKV _ _ (callAny (.type "set") _) _ _ _;refine bKS ⟨cZM _ dk,cQY PySem.F.entry_type_call ?_⟩;rw[Around.under_plain (weight_type_call_type "set" [.ref l] []) rfl];have h1:=cQB.notType;have h2:=cQB.canCreate;have a5:=PySem.F.typeCall_set_1 (.ref l);repeat (any_goals (first|assumption|wp_step))
 refine cQC (bV5 (.ref l) (E:=E) (Q₁:=λJ j=>J= .ref s.heap.objs.size/\j= {s with heap:=s.heap.push {cls:= .type "set",dict:=none,data:= .set #[] 0 (.fresh 0 0 (!aZ0 w)) } }) ⟨rfl,rfl⟩) λr j S=>?_;cases r with
 |error e=>exact S
 |ok fl=>
  cases fl with
  |ret J=>
   obtain⟨rfl,rfl⟩:=S;generalize G:({cls:= .type "set",dict:=none,data:= .set #[] 0 (.fresh 0 0 (!aZ0 w)) }:Obj)=O;have T:(s.heap.push O).get? s.heap.objs.size=some O:=bYg _ (by rw[<- G];rfl);have hT:Shared.TypeIs {s with heap:=s.heap.push O} (.ref s.heap.objs.size) "set":=⟨_,T,by rw[<- G]⟩;have P:aQO w (s.heap.push O) s.heap.objs.size []:=by
    refine⟨O, #[],0,.fresh 0 0 (!aZ0 w),[],T,?_,?_,.nil,.rfl,List.nodup_nil,by decide,rfl,bQh ?_⟩
    ·rw[<- G];exact⟨rfl,rfl,rfl⟩
    ·rw[<- G]
    ·cases aZ0 w<;> simp
   have d:(s.heap.push O).objs.size=s.heap.objs.size+1:=cQl ..;have k:∀b o,s.heap.get? b=some o->(s.heap.push O).get? b=some o:=λb o e=>bKR _ e;generalize hH:s.heap.push O=H at T hT P d k ⊢;have a7:=cQB.init.lookup;have a8:=cQB.init.bind (.ref s.heap.objs.size);repeat (any_goals (first|assumption|wp_step))
   refine cQC (cZx (R:=wants (λr g=>r= .none/\∃h' tk,g= {s with heap:=h',toks:=tk}/\aQO w h' s.heap.objs.size (met (λi=>q.getD i 0) items.size)/\
     (∀b o,s.heap.get? b=some o->h'.get? b=some o)) E) cQB.init.plain PySem.F.entry_set_init (check_set_init_1 hT ?_)) λI g a=>?_
   ·obtain⟨ol,x,M,nl,K⟩:=hl;obtain⟨a2,n,Y,f⟩:=ol;simp only at M K;subst M;subst K;have L:H.get? l=some {cls:= .type "list",dict:=n,data:= .seq items nl,slots:=f}:=k _ _ x;have a0:=PySem.F.sub_list_set;have a1:=PySem.F.sub_list_frozenset;have a6:(Value.type "list"==Value.type "dict")=false:=by decide
    have C:H.IsList l items:=⟨_,L,rfl,nl,rfl⟩;subst G;unfold cQx.«set.__init__» noKeywords Builtin.Frozenset.updateFrom;generalize U:pyIter=PI;wp_walk;subst U;refine cZ1 (l:=l) (items:=items) ?hl ?_;case hl=>exact C
    refine bKO (wpAny_runValue ?_);have y:l<s.heap.objs.size:=bK1 x;have X:A.in1.in1.in1.handled=none:=by simp[hh]
    have u:l≠H.objs.size:=by rw[d];exact bYb (bYU y)
    have V:s.heap.objs.size∉ [H.objs.size,l]:=by rw[d];simp only[bKW,cXm,or_false,not_or];exact⟨bYb (cQA _),cXp y⟩
    have D:∀ (i:Nat)(v:bKN),items[i]? =some v->∃t,v= .int ((λi=>q.getD i 0) i) t:=λi v hv=>
     cZO hi i v (by rw[cQk];exact hv)
    refine bJc (Walks.list X _ l u items) s.heap.objs.size V (λi=>q.getD i 0) D N (items.size - 0) 0 _ (by omega) (bYJ _) ⟨⟨_,bYg _ rfl,rfl,rfl⟩,C.push _⟩ ?hS0 ?hR;case hS0=>exact P.at λo e=>bKR _ e
    case hR=>
     intro h' tk hk m;show bKV _ _ _ _ _ _;refine bKS ?_;show bKV _ _ (ret Value.none) _ _ _;refine bKS ⟨rfl,h',tk,rfl,m,λb o e=>?_⟩;have N:=bK1 e;refine hk b o (λz=>?_) (bKR _ (k _ _ e));simp only[bKW,cXm,or_false]at z;rcases z with z|z
     ·exact bYb N z
     ·rw[z]at N;have B:H.objs.size<s.heap.objs.size:=N;rw[d]at B;exact absurd B (Nat.not_lt.mpr (cQR _))
   ·cases I with
    |error e=>exact a
    |ok p=>
     cases p with
     |ret r=>
      obtain⟨rfl,h',tk,rfl,m,W⟩:=a;repeat (any_goals (first|assumption|wp_step))
      exact h _ _ m W
     |_=>exact a.elim
  |_=>exact S.elim
end
end Stb
namespace L2
open PySem PySem.Spec PyProof.Rows
section
variable {X:Cx}{tg:Expr}
end
section
variable {X:Cx}
theorem w9:jM X (.builtin "isinstance") (λa H Q=>∃x c t b,a= [x,.ty c]/\aZV X.K H x t/\bYS X.K t (.type c)=some b/\Q (.bl b) H):=by
 intro d s σ H a i Q I r h;obtain⟨x,c,t,b,rfl,ty,e,q⟩:=h;obtain⟨u,v,rfl,g,f⟩:=xS.two r;cases f;exact aKw I g ty e λtk=>⟨.bl b,H,I.tok tk,rfl,q⟩
def bWt(w:bYf)(a:Nat)(b:List Int):HO:= .ext λh=>Stb.aQO w h a b
theorem bQq(J:X.calm=true):jM X (.type "set") (λv H Q=>∃ (p:Nat)(a:List Int),v= [.ref p]/\SqL X.K H p (a.map V.int)/\a.length<4000/\∀ (l:Nat)(f:List Int),H l=none->f.Nodup->f.length<=a.length->(∀d,d∈f↔d∈a)->Q (.ref l) (upd H l (bWt X.w l f))):=by
 intro A s σ H v S Q I r h;obtain⟨p,a,rfl,C,U,q⟩:=h;obtain⟨u,rfl,F⟩:=aQL r;cases F;obtain⟨b,B,G,P⟩:=I.list C;have n:cXi b a:=aQ1 B;have y:b.length=a.length:=n.length;refine Stb.zP (I.ok.hd J) G.isList (by simpa using n) (by rw[bK6];unfold cZc;omega) λN tk c E=>?_;rw[bK6]at c;have g:(Stb.met (λi=>a.getD i 0) b.length).Nodup:=by obtain⟨o,O,T,t,M,_,_,_,_,_,g,_⟩:=c;exact g
 have hl:=Stb.aJe (λi=>a.getD i 0) b.length;refine⟨.ref s.heap.objs.size,_,I.laid (t':=tk) (o:=bWt X.w s.heap.objs.size (Stb.met (λi=>a.getD i 0) b.length)) E (bKU _) ⟨c,c.there,λL R z k=>z.at k⟩,rfl,q _ _ I.fresh g (by omega) λd=>?_⟩;rw[Stb.aKM];constructor
 ·rintro⟨j,x,rfl⟩;have m:j<a.length:=by omega
  simp[bYz,bKM m]
 ·intro D;obtain⟨j,x,e⟩:=bYC D;exact⟨j,by omega,by simp[bYz,bKM x,e]⟩
theorem aQP(C:X.calm=true):jM X (.builtin "sorted") (λo H Q=>∃ (p:Nat)(f:List Int),o= [.ref p]/\H p=some (bWt X.w p f)/\f.length<64/\∀ (l:Nat)(b:List Int),H l=none->b.Perm f->b.Pairwise (·<=·)->Q (.ref l) (upd H l (.lst (b.map V.int)))):=by
 intro c s σ H o E Q I r h;obtain⟨p,f,rfl,y,j,q⟩:=h;obtain⟨u,rfl,B⟩:=aQL r;cases B;obtain⟨v,_,_⟩:=(show x0 X.prog X.w H s.heap p (bWt X.w p f)from I.hok p _ y);refine Stb.aWU (I.ok.hd C) v j λl m tk d g b n hl z A t e i=>?_;have D:H l=none:=I.hok.fresh hl;have k:b.length<=bYd:=by rw[e.length_eq,bYm];omega
 have a:Inv X c σ (upd H l (.lst (b.map V.int))) {s with heap:=m,toks:=tk}:=I.laid z hl ⟨by rw[bKT];exact k,g,n,uS t,A⟩;have x:Inv X c σ (upd H l (.lst (b.map V.int))) {s with heap:=m,toks:=tk,drawn:=d}:=by refine⟨a.ok,a.os,a.bare,a.base,a.loc,a.cell,a.free,a.freeC,a.pin,a.hok,a.len⟩
 exact⟨.ref l,_,x,rfl,q l b D e i⟩
theorem bJ0(n d:Nat)(a:Nat):HT.sIx n d (some (a:Int))=min a n:=by
 unfold HT.sIx;simp only;split<;> omega
end
end L2
namespace L2
open PySem PySem.Spec PyProof.Rows
theorem Z8(K:bKP):bYS K (.type "NoneType") (.type "list")=some false:=by kernel_rfl
theorem Y0(K:bKP):bYS K (.type "NoneType") (.type "tuple")=some false:=by kernel_rfl
theorem aJa(K:bKP):bYS K (.type "int") (.type "bool")=some false:=by kernel_rfl
theorem aV3(K:bKP):bYS K (.type "int") (.type "int")=some true:=by kernel_rfl
theorem aV4(K:bKP):bYS K (.type "int") (.type "str")=some false:=by kernel_rfl
theorem aJb(K:bKP):bYS K (.type "int") (.type "list")=some false:=by kernel_rfl
theorem aZf(K:bKP):bYS K (.type "int") (.type "tuple")=some false:=by kernel_rfl
theorem aQ2(K:bKP):bYS K (.type "str") (.type "str")=some true:=by kernel_rfl
theorem aJc(K:bKP):bYS K (.type "str") (.type "list")=some false:=by kernel_rfl
theorem aZg(K:bKP):bYS K (.type "str") (.type "tuple")=some false:=by kernel_rfl
theorem uK(K:bKP):bYS K (.type "list") (.type "list")=some true:=by kernel_rfl
theorem vV(K:bKP):bYS K (.type "list") (.type "tuple")=some false:=by kernel_rfl
theorem vW(K:bKP):bYS K (.type "tuple") (.type "list")=some false:=by kernel_rfl
theorem vD(K:bKP):bYS K (.type "tuple") (.type "tuple")=some true:=by kernel_rfl
section
variable {X:Cx}{pins:List (Nat×Obj)}{σ:St}{H:Hp}{s:bKQ}
theorem aV1{A:bYr}{E:bKN->bKQ->Prop}{Q:bKN->bKQ->Prop}{x:V}{u t:bKN}{tp:Nat}{cs:List bKN}{b:Bool}(I:Inv X pins σ H s)(c:zC x u)(ty:aZV X.K H x t) (m:cXG s.heap tp cs.toArray) (e:PySem.W.kitAny X.K t cs=some b) (h:∀tk,Q (.bool b) {s with toks:=tk}):bKV (bKX X.prog X.w) A (call (.builtin "isinstance") [u,.ref tp]) Q E s:=by
 obtain⟨⟨cls,T,data,P⟩,f,B,n,v⟩:=m;simp only at B v;subst B v;cases ty with
 |non=>cases (show u=Value.none from c);exact cQo PySem.W.kitx_none I.kIn cQd f e (λz=>nomatch z) h
 |bl y=>cases (show u=Value.bool y from c);exact cQo PySem.W.kitx_bool I.kIn cQd f e (λz=>nomatch z) h
 |int i=>obtain⟨t,q⟩:=(show ∃t,u=Value.int i t from c);cases q;exact cQo PySem.W.kitx_int I.kIn cQd f e (λz=>nomatch z) h
 |str y=>obtain⟨t,q⟩:=(show ∃t,u=Value.str y t from c);cases q;exact cQo PySem.W.kitx_str I.kIn cQd f e (λz=>nomatch z) h
 |flt y=>obtain⟨t,q⟩:=(show ∃t,u=Value.float y t from c);cases q;exact cQo PySem.W.kitx_float I.kIn cQd f e (λz=>nomatch z) h
 |@lst a k d=>cases (show u=Value.ref a from c);obtain⟨_,_,n,_,g⟩:=(show x0 X.prog X.w H s.heap a (.lst k)from I.hok a _ d);exact cQo cZf I.kIn ⟨_,g,rfl⟩ f e (λz=>nomatch z) h
 |@frz a F k d=>cases (show u=Value.ref a from c);obtain⟨_,_,_,n,_,g⟩:=(show x0 X.prog X.w H s.heap a (.frz F (.lst k))from I.hok a _ d);exact cQo cZf I.kIn ⟨_,g,rfl⟩ f e (λz=>nomatch z) h
 |@tup a k d=>cases (show u=Value.ref a from c);obtain⟨_,_,_,p⟩:=(show x0 X.prog X.w H s.heap a (.tup k)from I.hok a _ d);obtain⟨o,g,l,_⟩:=p;exact cQo PySem.W.kitx_tuple I.kIn ⟨o,g,l⟩ f e (λz=>nomatch z) h
 |@dK a j d=>cases (show u=Value.ref a from c);obtain⟨_,_,U,_,p⟩:=(show x0 X.prog X.w H s.heap a (.dK j)from I.hok a _ d);obtain⟨o,D,N,g,l,_⟩:=p;exact cQo cZe I.kIn ⟨o,g,l.1⟩ f e (λz=>nomatch z) h
 |@dT a j d=>cases (show u=Value.ref a from c);obtain⟨_,_,k,_,o,D,N,g,l,_⟩:=(show x0 X.prog X.w H s.heap a (.dT j)from I.hok a _ d);exact cQo cZe I.kIn ⟨o,g,l.1⟩ f e (λz=>nomatch z) h
 |@ins a C Y fs d cl M L r G=>cases (show u=Value.ref a from c);obtain⟨R,O,_⟩:=Q3 I.hok d;obtain⟨S,J,_⟩:=O.look;exact cQo (PySem.W.kitx_own (cl.get _) cl.hd M L r G) I.kIn J f e (λz=>nomatch z) h
end
section
variable {X:Cx}
theorem aW9:jM X (.builtin "isinstance") (λe H Q=>∃x p c d t b a,e= [x,.ref p]/\SqT X.K H p [.ty c,.ty d]/\aZV X.K H x t/\bYS X.K t (.type c)=some b/\bYS X.K t (.type d)=some a/\Q (.bl (b || a)) H):=by
 intro pins s σ H e A Q I r h;obtain⟨x,p,c,d,t,b,a,rfl,k,ty,o,j,q⟩:=h;obtain⟨u,v,rfl,m,g⟩:=xS.two r;cases g;obtain⟨n,f,w,_⟩:=I.tuple k;obtain⟨y,z,rfl,l,i⟩:=xS.two f;cases l;cases i;refine aV1 I m ty w (b:=b || a) ?_ λtk=>⟨.bl (b || a),H,I.tok tk,rfl,q⟩;unfold PySem.W.kitAny;rw[o];cases b
 ·simp only[Bool.false_or];unfold PySem.W.kitAny;rw[j];cases a<;> rfl
 ·rfl
def bWj(K:bKP):R2:=λx y H Q=>∃a b c,x= .ref a/\y= .ref b/\SqL K H a c/\SqL K H b []/\Q (.bl c.isEmpty) H
def bWk(K:bKP):R2:=λx y H Q=>∃a b c,x= .ref a/\y= .ref b/\SqL K H a c/\SqL K H b []/\Q (.bl (!c.isEmpty)) H
theorem aVd(c:X.A.units<cLine):OpR X (cQh .Eq) (bWj X.K):=by
 intro pins s σ H x y v u Q I k n h;obtain⟨a,b,p,rfl,rfl,m,o,q⟩:=h;cases k;cases n;obtain⟨r,l,f,_⟩:=I.list m;obtain⟨t,g,d,_⟩:=I.list o;cases g;cases l with
 |nil=>exact SeqAt.eq_listAt (e:=λ_=>true) f.isList d.isList rfl c (λj i w=>absurd i (cQw _)) ⟨.bl true,H,I,rfl,q⟩
 |cons _ _=>exact SeqAt.eq_list_lengthsAt f.isList d.isList (by simp) c ⟨.bl false,H,I,rfl,q⟩
theorem u4(c:X.A.units<cLine):OpR X (cQh .NotEq) (bWk X.K):=by
 intro pins s σ H x y v u Q I k n h;obtain⟨a,b,p,rfl,rfl,m,o,q⟩:=h;cases k;cases n;obtain⟨r,l,f,_⟩:=I.list m;obtain⟨t,g,d,_⟩:=I.list o;cases g;cases l with
 |nil=>have z:=SeqAt.RcNeAt.lists (A:=X.A) (s:=s) (e:=λ_=>true) f.isList d.isList rfl c (λj i B=>absurd i (cQw _));exact z X.prog X.w X.xe _ ⟨.bl false,H,I,rfl,q⟩
 |cons _ _=>exact(SeqAt.RcNeAt.lists_lengths f.isList d.isList (by simp) c) X.prog X.w X.xe _ ⟨.bl true,H,I,rfl,q⟩
structure FnG(P:bK9)(w:bYf)(K:bKP)(mg:Str->Option bKN)(base:Heap)(k:Nat)(x:Str)(ps:List Str)(sp:Sp):Prop where
 ex:∃f fd,y8 P w K mg base CX0 k f fd ps sp/\vQ K fd ps []/\bYG K (.ref f)=true/\mg x=some (.ref f)
theorem FnG.mono{P:bK9}{w:bYf}{K:bKP}{mg:Str->Option bKN}{base:Heap}{j k:Nat}{x:Str}{c:List Str}{sp:Sp}(G:FnG P w K mg base j x c sp)(h:j<=k):FnG P w K mg base k x c sp:=
 let ⟨f,fd,a,b⟩:=G.ex;⟨f,fd,a.mono h,b⟩
theorem xJ{k:Nat}{x:Str}{j:List Str}{sp:Sp}{e:Expr}{a:List Expr}{t:TA}{p pos:Pos}(G:FnG X.prog X.w X.K X.mg X.base k x j sp)(g:vJ k X.A)(n:Gl X x)(l:PA X (e::a) t)
  (d:(x==("__debug__":Str))=false:=by decide) (h:bYp (e::a) X.env=(false,eval e X.env)::bYp a X.env:=by rfl) (c:(cQp pos (bYp a X.env)).any (·.1)=false:=by rfl):
  PE X (.Call (.Name x p) (e::a) [] pos) (bX2 sp [] E0 t):=by
 obtain⟨f,o,F,b,i,m⟩:=G.ex
 exact aYd F g n m i b .nil vM l d h c
end
inductive Dt where
 |non|bl (b:Bool)|int (n:Int)|str (x:Str)|lst (ds:List Dt)|tup (ds:List Dt)
mutual
def Is(H:Hp):V->Dt->Prop
 |v,.non=>v= .non
 |v,.bl b=>v= .bl b
 |v,.int n=>v= .int n
 |v,.str x=>v= .str x
 |v,.lst ds=>∃a c,v= .ref a/\H a=some (.lst c)/\zK H c ds
 |v,.tup ds=>∃a c,v= .ref a/\H a=some (.tup c)/\zK H c ds
def zK(H:Hp):List V->List Dt->Prop
 |[],[]=>True
 |x::xs,d::ds=>Is H x d/\zK H xs ds
 |_,_=>False
end
mutual
def Dt.size:Dt->Nat
 |.lst a=>1+zW a
 |.tup a=>1+zW a
 |_=>1
def zW:List Dt->Nat
 |[]=>0
 |d::ds=>d.size+zW ds
end
theorem zK.length{H:Hp}:∀ {xs:List V} {ds:List Dt},zK H xs ds->xs.length=ds.length
 |[],[],_=>rfl
 |_::xs,_::ds,h=>by unfold zK at h;simp[zK.length h.2]
 |[],_::_,h=>by unfold zK at h;exact h.elim
 |_::_,[],h=>by unfold zK at h;exact h.elim
theorem zK.get{H:Hp}:∀ {xs:List V} {ds:List Dt} {i:Nat} {d:Dt},zK H xs ds->ds[i]? =some d->∃x,xs[i]? =some x/\Is H x d
 |x::xs,d::ds,0,_,h,e=>by unfold zK at h;simp at e;subst e;exact⟨x,rfl,h.1⟩
 |_::xs,_::ds,i+1,d,h,e=>by unfold zK at h;simpa using zK.get (i:=i) (d:=d) h.2 (by simpa using e)
 |[],[],_,_,_,e=>by simp at e
 |[],_::_,_,_,h,_=>by unfold zK at h;exact h.elim
 |_::_,[],_,_,h,_=>by unfold zK at h;exact h.elim
theorem x4{t u:TS}{D:aW1}{σ:L2.St}{H:Hp}(R:L2.St->Hp->Prop)(d:∀a b,R a b->u D a b)(c:(∀a b,R a b->u D a b)->t {D with nx:=u D} σ H):bWP t u D σ H:=c d
theorem onT{c:Bool}{A B:Prop}(e:c=true)(h:A):if c=true then A else B:=by rw[e];exact h
theorem onF{c:Bool}{A B:Prop}(e:c=false)(h:B):if c=true then A else B:=by rw[e];exact h
theorem z0:([]:List V).length<=bYd:=by decide
theorem z1{a:V}: [a].length<=bYd:=by show 1<=bYd;decide
theorem z2{a b:V}: [a,b].length<=bYd:=by show 2<=bYd;decide
theorem z3{a b c:V}: [a,b,c].length<=bYd:=by show 3<=bYd;decide
theorem z4{a b c d:V}: [a,b,c,d].length<=bYd:=by show 4<=bYd;decide
theorem z5{a b c d e:V}: [a,b,c,d,e].length<=bYd:=by show 5<=bYd;decide
theorem zn{l:List V}(h:l.length<=100000):l.length<=bYd:=by rw[bYm];omega
theorem zlt{l:List V}(h:l.length<=100000):l.length<bYd:=by rw[bYm];omega
theorem xA.fresh{H a:Hp}(k:xA H a){p:Nat}(h:a p=none):H p=none:=by
 cases e:H p with
 |none=>rfl
 |some o=>rw[k _ _ e]at h;cases h
theorem yG{H:Hp}{p:Nat}(h:H p=none)(o:HO):xA H (upd H p o):=λb u q=>by rw[yI (yJ q h)];exact q
end L2
namespace Rvl
open PySem PyProof.Rows
section
variable {prog:bK9}{w:bYf}{A:bYr}{E:bKN->bKQ->Prop}{s:bKQ}
end
end Rvl
namespace L2
open PySem PySem.Spec PyProof.Rows
section
variable {X:Cx}
end
end L2
namespace L2
open PySem PySem.Spec PyProof.Rows
theorem W4{n:Nat}{h:List Nat}{d:TT}{l:TE}{σ:St}{D:Nat}{Q:VK}{H:Hp}(p:Nat->Bool)(f:Nat->V)(B:H D=none)(hz:n<=bYd) (t:∀i,i<n->∀ (c:Hp)(R:Bool->Hp->Prop),(∀b,b≠D->c b=H b)->R (p i) c->d (sub σ h (some (.int (i:Nat)))) c R) (s:∀i,i<n->p i=true->∀ (c:Hp)(R:VK),(∀b,b≠D->c b=H b)->R (f i) c->l (sub σ h (some (.int (i:Nat)))) c R) (r:Q (.ref D) (upd H D (.lst (((bK0 n).filter p).map f)))):bVA (Itr 0 n) h d l σ D Q (upd H D (.lst [])):=by
 refine⟨λi m j c=>m=n - i/\i<=n/\j=((bK0 i).filter p).map f/\c=upd H D (.lst j),⟨n,by simp,bYJ _,by simp,rfl⟩,?_⟩;rintro i m j c ⟨rfl,y,rfl,rfl⟩;refine⟨yB,?_⟩;by_cases a:i<n
 ·refine .inr ⟨a,λv A u=>?_⟩;obtain⟨w,q⟩:=u;subst w;subst q;rw[cXK];have e:∀b,b≠D->upd H D (.lst (((bK0 i).filter p).map f)) b=H b:=λb x=>yI x;have g:(((bK0 i).filter p).map f).length<bYd:=by
   rw[bKT];have o:=bYK p (bK0 i);rw[bYD]at o;omega
  refine t i a _ _ e ?_;cases k:p i with
  |false=>show ∃z,_;refine⟨n - (i+1),by omega,rfl,a,?_,rfl⟩;rw[cQ9,bYV,cQr (by rw[k];decide)];simp
  |true=>show l _ _ _;refine s i a k _ _ e ⟨g,yB,n - (i+1),by omega,rfl,a,?_,by rw[uR]⟩;rw[cQ9,bYV,cQs k];simp
 ·obtain rfl:i=n:=by omega
  exact .inl ⟨bKU _,r⟩
end L2
namespace Stree
open PySem PySem.W PyProof.Rows
def Asks{α:Type}(n:Nat)(lt:Nat->Nat->Bool):KasT α->(α->Prop)->Prop
 |.ret a,Q=>Q a
 |.ask i j k,Q=>i<n/\j<n/\Asks n lt (k (lt i j)) Q
theorem Asks.bind{α β:Type}{n:Nat}{lt:Nat->Nat->Bool}{f:α->KasT β}{Q:β->Prop}:∀ {t:KasT α} {R:α->Prop},Asks n lt t R->(∀a,R a->Asks n lt (f a) Q)->Asks n lt (t.bind f) Q
 |.ret a,R,h,hf=>hf a h
 |.ask i j k,R,h,hf=>⟨h.1,h.2.1,Asks.bind (t:=k (lt i j)) h.2.2 hf⟩
theorem Asks.wp{α:Type}{n:Nat}{lt:Nat->Nat->Bool}{b:Nat->Nat->(Bool->bKQ->Prop)->bKQ->Prop}{s:bKQ}{G:α->bKQ->Prop}(c:∀i j C,i<n->j<n->C (lt i j) s->b i j C s):
  ∀ {t:KasT α} {R:α->Prop},Asks n lt t R->(∀a,R a->G a s)->t.kasWp b G s
 |.ret a,R,h,hf=>hf a h
 |.ask i j k,R,h,hf=>c i j _ h.1 h.2.1 (Asks.wp c (t:=k (lt i j)) h.2.2 hf)
section
variable {n:Nat}{r:Nat->Int}{p:Array Nat}
abbrev X9(r:Nat->Int):Nat->Nat->Bool:=λi j=>decide (r i<r j)
abbrev R(r:Nat->Int)(p:Array Nat)(k:Nat):Int:=r (p.getD k 0)
structure Ok(n:Nat)(p:Array Nat):Prop where
 perm:p.toList.Perm (bK0 n)
theorem Ok.size(h:Ok n p):p.size=n:=by have:=h.perm.length_eq;simpa using this
theorem Ok.lt(h:Ok n p)(h0:0<n)(k:Nat):p.getD k 0<n:=by
 by_cases a:k<p.size
 ·have:p.toList[k]'(by simpa using a)∈p.toList:=cQO _;have:=bYj.mp (h.perm.mem_iff.mp this);simpa[cXf,a]using this
 ·simpa[cXf,a]using h0
theorem Ok.ne(h:Ok n p){i j:Nat}(g:i<n)(k:j<n)(c:i≠j):p.getD i 0≠p.getD j 0:=by
 have f:=h.size;have d:p.toList.Nodup:=h.perm.nodup_iff.mpr cXT;intro e;have b:i<p.size:=by omega
 have a:j<p.size:=by omega
 simp[cXf,b,a]at e;have:=(cQy (xs:=p.toList) (h₀:=by simpa using b) (h₁:=by simpa using a) d).mp (by simpa using e);exact c this
def Inj(n:Nat)(r:Nat->Int):Prop:=∀i j,i<n->j<n->r i=r j->i=j
theorem Ok.rne(h:Ok n p)(b:Inj n r){i j:Nat}(c:i<n)(d:j<n)(a:i≠j):R r p i≠R r p j:=λe=>
 h.ne c d a (b _ _ (h.lt (by omega) i) (h.lt (by omega) j) e)
def Srt(r:Nat->Int)(p:Array Nat)(k:Nat):Prop:=∀i j,i<j->j<k->R r p i<R r p j
def Dsc(r:Nat->Int)(p:Array Nat)(k:Nat):Prop:=∀i j,i<j->j<k->R r p j<R r p i
theorem Srt.one:Srt r p 1:=λi j a b=>by omega
theorem aXj(p:Array Nat)(k:Nat):p.getD k 0=(p[k]?).getD 0:=by simp[cXf,cXb];split<;> simp_all
theorem aXW(h:Ok n p)(hr:Inj n r):∀ (f m:Nat),1<=m->m+f<=n->Srt r p m->Asks n (X9 r) (kas_asc p f m) (λm'=>m<=m'/\m'<=m+f/\Srt r p m'/\(m'<m+f->R r p m'<R r p (m' - 1)))
 |0,m,h1,h2,hs=>⟨bKU _,bKU _,hs,λz=>absurd z (by omega)⟩
 |f+1,m,h1,h2,hs=>by
  refine⟨h.lt (by omega) _,h.lt (by omega) _,?_⟩
  by_cases c:r (p.getD m 0)<r (p.getD (m - 1) 0)
  ·have e:X9 r (p.getD m 0) (p.getD (m - 1) 0)=true:=decide_eq_true c
   rw[e];show Asks n (X9 r) (ite _ _ _) _;rw[if_pos rfl]
   exact⟨bKU _,by omega,hs,λ_=>c⟩
  ·have e:X9 r (p.getD m 0) (p.getD (m - 1) 0)=false:=decide_eq_false c
   rw[e];show Asks n (X9 r) (ite _ _ _) _;rw[if_neg (by decide)]
   have hne:=h.rne hr (i:=m) (j:=m - 1) (by omega) (by omega) (by omega)
   have hlt:R r p (m - 1)<R r p m:=by
    have:¬R r p m<R r p (m - 1):=c
    omega
   have hs':Srt r p (m+1):=λi j hij hj=>by
    by_cases hjm:j<m
    ·exact hs i j hij hjm
    ·have:j=m:=by omega
     subst this
     by_cases hi:i=j - 1
     ·rw[hi];exact hlt
     ·have:=hs i (j - 1) (by omega) (by omega);omega
   have z:=aXW h hr f (m+1) (by omega) (by omega) hs'
   have e2:m+1+f=m+(f+1):=by omega
   rw[e2]at z
   exact Asks.mono z λm' ⟨a,b,c,d⟩=>⟨by omega,b,c,d⟩
where
 Asks.mono {α:Type} {n:Nat} {lt:Nat->Nat->Bool} {Q Q':α->Prop}:∀ {t:KasT α},Asks n lt t Q->(∀a,Q a->Q' a)->Asks n lt t Q'
  |.ret a,h,hf=>hf a h
  |.ask i j k,h,hf=>⟨h.1,h.2.1,Asks.mono (t:=k (lt i j)) h.2.2 hf⟩
theorem aKk(h:Ok n p)(q:Inj n r):∀ (f m:Nat),1<=m->m+f<=n->Dsc r p m->Asks n (X9 r) (kas_desc f p m 0) (λz=>z.1=p/\z.2.2=0/\m<=z.2.1/\z.2.1<=m+f/\Dsc r p z.2.1)
 |0,m,h1,h2,hs=>⟨rfl,rfl,bKU _,bKU _,hs⟩
 |f+1,m,h1,h2,hs=>by
  refine⟨h.lt (by omega) _,h.lt (by omega) _,?_⟩;by_cases c:r (p.getD m 0)<r (p.getD (m - 1) 0)
  ·have e:X9 r (p.getD m 0) (p.getD (m - 1) 0)=true:=decide_eq_true c;rw[e];show Asks n (X9 r) (ite _ _ _) _;rw[if_pos rfl,if_neg (by omega)];have k:Dsc r p (m+1):=λi j l w=>by
    by_cases o:j<m
    ·exact hs i j l o
    ·have:j=m:=by omega
     subst this;have t:R r p j<R r p (j - 1):=c;by_cases u:i=j - 1
     ·rw[u];exact t
     ·have:=hs i (j - 1) (by omega) (by omega);omega
   have z:=aKk h q f (m+1) (by omega) (by omega) k;have v:m+1+f=m+(f+1):=by omega
   rw[v]at z;exact aXW.Asks.mono z λz ⟨a,b,c,d,e⟩=>⟨a,b,by omega,d,e⟩
  ·have e:X9 r (p.getD m 0) (p.getD (m - 1) 0)=false:=decide_eq_false c;rw[e];show Asks n (X9 r) (ite _ _ _) _;rw[if_neg (by decide)];refine⟨h.lt (by omega) _,h.lt (by omega) _,?_⟩;have s:=h.rne q (i:=m) (j:=m - 1) (by omega) (by omega) (by omega);have g:R r p (m - 1)<R r p m:=by
    have:¬R r p m<R r p (m - 1):=c;omega
   have e:X9 r (p.getD (m - 1) 0) (p.getD m 0)=true:=decide_eq_true g;rw[e];show Asks n (X9 r) (ite _ _ _) _;rw[if_pos rfl];exact⟨rfl,rfl,bKU _,Nat.le_add_right _ _,hs⟩
theorem bVK{m:Nat}(a:m<=p.size)(k:Nat)(b:k<m):R r (kas_rev p 0 m) k=R r p (m - 1 - k):=by
 unfold R kas_rev;rw[aXj,aXj,getElem?_mirror_all a,if_pos ⟨bYJ _,b⟩,Nat.zero_add]
theorem bZI(h:Ok n p)(m:Nat):Ok n (kas_rev p 0 m):=⟨(cZS.mp (mirror_perm p 0 m _)).trans h.perm⟩
theorem bX7(h:Ok n p)(k:Inj n r){m:Nat}(f:1<=m)(e:m<=n)(g:Dsc r p m):Asks n (X9 r) (kas_tail3 m n p) (λz=>1<=z.1/\z.1<=n/\Ok n z.2/\Srt r z.2 z.1):=by
 have d:Srt r (kas_rev p 0 m) m:=λi j l o=>by rw[bVK (by rw[h.size];exact e) i (by omega),bVK (by rw[h.size];exact e) j o];exact g _ _ (by omega) (by omega)
 refine Asks.bind (aXW (bZI h m) k (n - m) m f (by omega) d) λm' ⟨a,b,c,_⟩=>?_;exact⟨by omega,by omega,bZI h m,c⟩
theorem bQt(h:Ok n p)(f:Inj n r)(y:1<=n):Asks n (X9 r) (kas_count n p) (λz=>1<=z.1/\z.1<=n/\Ok n z.2/\Srt r z.2 z.1):=by
 refine Asks.bind (aXW h f (n - 1) 1 (bKU _) (by omega) Srt.one) λm ⟨a,b,c,d⟩=>?_;by_cases e:m=n
 ·rw[if_pos (by simpa using e)];exact⟨a,by omega,h,c⟩
 ·rw[if_neg (by simpa using e)];by_cases l:m > 1
  ·rw[if_pos l];refine⟨h.lt (by omega) _,h.lt (by omega) _,?_⟩;have g:R r p 0<R r p (m - 1):=c 0 (m - 1) (by omega) (by omega);have w:X9 r (p.getD 0 0) (p.getD (m - 1) 0)=true:=decide_eq_true g;rw[w];show Asks n (X9 r) (ite _ _ _) _;rw[if_pos rfl];exact⟨a,by omega,h,c⟩
  ·rw[if_neg l];have u:m=1:=by omega
   subst u;have s:=d (by omega);refine Asks.bind (aKk h f (n - 2) 2 (by omega) (by omega) ?_) λz ⟨z1,z2,z3,z4,z5⟩=>?_
   ·intro i j v o;have x:i=0:=by omega
    have o:j=1:=by omega
    subst x;subst o;exact s
   ·obtain⟨q,k,t⟩:=z;simp only at z1 z2 z3 z4 z5;subst z1;subst z2;rw[if_neg (by simp)];exact bX7 h f (by show 1<=k;omega) (by show k<=n;omega) z5
theorem aXs(h:Ok n p)(g:Inj n r){k:Nat}(t:k<n)(b:Srt r p k):∀ (f l u:Nat),l<=u->u<=k->u - l<=f->(∀i,i<l->R r p i<R r p k)->(∀i,u<=i->i<k->R r p k<R r p i)->
  Asks n (X9 r) (kas_place p k f l u) (λq=>q<=k/\(∀i,i<q->R r p i<R r p k)/\∀i,q<=i->i<k->R r p k<R r p i)
 |0,l,u,h1,h2,h3,h4,h5=>⟨by omega,h4,λi m a=>h5 i (by omega) a⟩
 |f+1,l,u,h1,h2,h3,h4,h5=>by
  unfold kas_place;by_cases c:l≥u
  ·rw[if_pos c];exact⟨by omega,h4,λi m a=>h5 i (by omega) a⟩
  ·rw[if_neg c];refine⟨h.lt (by omega) _,h.lt (by omega) _,?_⟩;have w:(l+u) / 2<u:=by omega
   have hl:l<=(l+u) / 2:=by omega
   by_cases d:r (p.getD k 0)<r (p.getD ((l+u) / 2) 0)
   ·have e:X9 r (p.getD k 0) (p.getD ((l+u) / 2) 0)=true:=decide_eq_true d;rw[e];show Asks n (X9 r) (ite _ _ _) _;rw[if_pos rfl];refine aXs h g t b f l _ hl (by omega) (by omega) h4 λi m a=>?_;have s:R r p k<R r p ((l+u) / 2):=d;by_cases o:i=(l+u) / 2
    ·rw[o];exact s
    ·have:=b ((l+u) / 2) i (by omega) a;omega
   ·have e:X9 r (p.getD k 0) (p.getD ((l+u) / 2) 0)=false:=decide_eq_false d;rw[e];show Asks n (X9 r) (ite _ _ _) _;rw[if_neg (by decide)];have s:¬R r p k<R r p ((l+u) / 2):=d;have v:=h.rne g (i:=k) (j:=(l+u) / 2) (by omega) (by omega) (by omega);refine aXs h g t b f _ u (by omega) h2 (by omega) (λi m=>?_) h5;by_cases o:i=(l+u) / 2
    ·rw[o];omega
    ·have:=b i ((l+u) / 2) (by omega) (by omega);omega
theorem bVJ{k l:Nat}(h:k<p.size)(hl:l<=k)(i:Nat):R r (bubble p k (k - l)) i=if i=l then R r p k else if l<i/\i<=k then R r p (i - 1)else R r p i:=by
 have e:=getElem?_bubble h (k - l) (by omega) i;rw[show k - (k - l)=l by omega]at e;have d:∀q:Array Nat,∀a b:Nat,∀c:Array Nat,q[a]? =c[b]? ->R r q a=R r c b:=λq a b c z=>by unfold R;rw[aXj,aXj,z]
 by_cases f:i=l
 ·rw[if_pos f]at e ⊢;exact d _ _ _ _ e
 ·rw[if_neg f]at e ⊢;by_cases g:l<i/\i<=k
  ·rw[if_pos g]at e ⊢;exact d _ _ _ _ e
  ·rw[if_neg g]at e ⊢;exact d _ _ _ _ e
theorem bZn(d:Inj n r):∀ (f k:Nat)(p:Array Nat),Ok n p->k+f=n->Srt r p k->Asks n (X9 r) (kas_bin f p k) (λm=>Ok n m/\Srt r m n)
 |0,k,p,h,e,hs=>⟨h,by rw[<- e];exact hs⟩
 |f+1,k,p,h,e,hs=>by
  refine Asks.bind (aXs h d (k:=k) (by omega) hs k 0 k (by omega) (bKU _) (by omega) (λi o=>absurd o (by omega)) (λi o b=>absurd b (by omega))) λl ⟨h1,h2,h3⟩=>?_;refine bZn d f (k+1) _ ⟨(cZS.mp (bubble_perm p k _)).trans h.perm⟩ (by omega) λi j t u=>?_;have q:k<p.size:=by rw[h.size];omega
  rw[bVJ q h1,bVJ q h1];by_cases c:i=l
  ·rw[if_pos c];by_cases a:j=l
   ·omega
   ·rw[if_neg a,if_pos ⟨by omega,by omega⟩];exact h3 _ (by omega) (by omega)
  ·rw[if_neg c];by_cases a:j=l
   ·rw[if_pos a,if_neg (by omega)];exact h2 i (by omega)
   ·rw[if_neg a];by_cases g:l<i/\i<=k
    ·rw[if_pos g,if_pos ⟨by omega,by omega⟩];exact hs _ _ (by omega) (by omega)
    ·rw[if_neg g];by_cases s:l<j/\j<=k
     ·rw[if_pos s];by_cases cl:i=j - 1
      ·omega
      ·exact hs _ _ (by omega) (by omega)
     ·rw[if_neg s];exact hs _ _ (by omega) (by omega)
theorem bVn(a:Inj n r)(b:1<=n):Asks n (X9 r) (kas_sort n) (λp=>Ok n p/\Srt r p n):=by
 have h0:Ok n (bYT (bK0 n)):=⟨by simp⟩;refine Asks.bind (bQt h0 a b) λz ⟨h1,h2,h3,h4⟩=>?_;by_cases c:z.1<n
 ·rw[if_pos c,Nat.max_eq_left h1];exact bZn a _ _ _ h3 (by omega) h4
 ·rw[if_neg c];exact⟨h3,by rw[show n=z.1 by omega];exact h4⟩
theorem aZI(d:Inj n r)(g:1<=n):Asks n (X9 r) (kas_sort n) (λp=>p.toList.Perm (bK0 n)/\p.toList.Pairwise (λi j=>r i<r j)):=by
 refine aXW.Asks.mono (bVn d g) λp ⟨h1,h2⟩=>⟨h1.perm,?_⟩;rw[cXg];intro i j e f b;have c:i<p.size:=by simpa using e
 have a:j<p.size:=by simpa using f
 have z:=h2 i j b (by rw[<- h1.size];exact a);simpa[R,cXf,c,a]using z
end
end Stree
namespace Stree
open PySem PySem.W PySem.Calls PyProof.Rows
section
variable {prog:bK9}{w:bYf}{A:bYr}{E:bKN->bKQ->Prop}
theorem aX6{f:bKN}{vs:List bKN}{kS:Nat}{J:List bKN->bKQ->Prop}{body:bKN->PUnit->Sem (ForInStep PUnit)}
  (e:∀a s v,J a s->vs[a.length]? =some v->bKV (bKX prog w) A (body v ⟨⟩) (λr b=>r= .yield ⟨⟩/\∃k,J (a++ [k]) b) E s):
  ∀ (r a:List bKN)(s:bKQ),vs.drop a.length=r->a.length<=vs.length->J a s->bKV (bKX prog w) A (forIn r PUnit.unit body) (λ_ b=>∃a,a.length=vs.length/\J a b) E s
 |[],a,s,hr,hle,hJ=>by rw[List.forIn_nil];refine bKS ⟨a,?_,hJ⟩;have:=congrArg cXh hr;rw[List.length_drop]at this;simp at this;omega
 |v::r,a,s,hr,hle,hJ=>by
  rw[cZs];have d:vs[a.length]? =some v:=by have:=congrArg (λl=>l[0]?) hr;simpa using this
  have g:a.length<vs.length:=by
   rcases cXL a.length vs.length with h|h
   ·exact h
   ·rw[bYl h]at d;cases d
  refine bKO (bYN (e a s v hJ d) (λq b i=>?_) λ_ _ x=>x);obtain⟨rfl,k,c⟩:=i;show bKV (bKX prog w) A (forIn r PUnit.unit body) _ E b;refine aX6 (kS:=kS) (f:=f) e r (a++ [k]) b ?_ (by rw[bYh,bYX];omega) c;rw[bYh,bYX,List.drop_add_one_eq_tail_drop,hr];rfl
theorem bWw{s:bKQ}{a:Nat}{vs:List bKN}{f:bKN}{b:Bool}{P:PySem.Fin->bKQ->Prop}{n0:Nat}(W:s.heap.get? a=some (bYB "list" vs.toArray n0))(a8:vs.length<64)(J:Nat->List bKN->bKQ->Prop) (h0:∀n q,(∀c o,c≠a->s.heap.get? c=some o->q.get? c=some o)->q.get? a=some (bYB "list" #[] n)->q.get? (s.heap.objs.size+1)=some (bYB "list" #[] 0)->J n [] {s with heap:=q}) (hget:∀n g l,J n g l->(∃e,l.heap.get? (s.heap.objs.size+1)=some (bYB "list" g.toArray e))/\l.heap.get? a=some (bYB "list" #[] n)) (hcall:∀n g l v,J n g l->vs[g.length]? =some v->bKV (bKX prog w) A (call f [v]) (λk m=>(∃e,m.heap.get? (s.heap.objs.size+1)=some (bYB "list" g.toArray e))/\ ∀q c,cQN (s.heap.objs.size+1) m.heap q->q.get? (s.heap.objs.size+1)=some (bYB "list" (g++ [k]).toArray c)->J n (g++ [k]) {m with heap:=q}) (λ_ _=>False) l) (hend:∀n g l,J n g l->g.length=vs.length->∃r:Nat->Int,Inj vs.length r/\ (2<=vs.length->∃κ,(∀Q:SortKind->bKQ->Prop,Q κ l->bKV (bKX prog w) A (keyKind' g.toArray) Q (λ_ _=>False) l)/\∀i j C,i<vs.length->j<vs.length->C (decide (r i<r j)) l->kas_ask prog w A κ (katRev b g) i j C l)/\ ∀ (p:List Nat) q c B,p.Perm (bK0 vs.length)->p.Pairwise (λi j=>r i<r j)->(∀d,d≠a->d≠s.heap.objs.size+1->q.get? d=l.heap.get? d)->q.get? (s.heap.objs.size+1)=some (bYB "list" #[] c)-> q.get? a=some (bYB "list" (katRev b (p.map λi=>(katRev b vs).getD i Value.none)).toArray B)->P (.done (.ret .none)) {l with heap:=q}): bKV (bKX prog w) A (ksk_tree a f b) P E s:=by
 have ha:a<s.heap.objs.size:=bK1 W;have U:a≠s.heap.objs.size+1:=bYb (bYU ha);obtain⟨n,N⟩:∃n,(s.heap.update a (bYE λ_=>(#[]:Array bKN))).get? a=some (bYB "list" #[] n):=⟨_,cXB W λ_=> #[]⟩;have S:((s.heap.update a (bYE λ_=>(#[]:Array bKN))).push (bYB "tuple" vs.toArray 0)).objs.size=s.heap.objs.size+1:=by rw[size_push',Heap.size_update]
 unfold ksk_tree;refine bKO (listItems_at W rfl ?_);refine bKO (cXZ W rfl ?_ (by rw[bK6,bYm];omega) (bYJ _));refine bKO (seqEpoch_at N rfl ?_);refine bKO (wpAny_newTuple ?_ (by show vs.length<=_;rw[bYm];omega));refine bKO (cX2 ?_ (bYJ _));refine bY5 ?_;have J0:=h0 n (((s.heap.update a (bYE λ_=>(#[]:Array bKN))).push (bYB "tuple" vs.toArray 0)).push (bYB "list" #[] 0))
  (λc o hc e=>bKR _ (bKR _ ((bYk _ _ (bYv hc)).trans e)))
  (bKR _ (bKR _ N)) (by rw[<- S];exact bYg _ rfl)
 show bKV _ _ (ksk_rest a f b vs.toArray n (.ref ((s.heap.update a (bYE λ_=>(#[]:Array bKN))).push (bYB "tuple" vs.toArray 0)).objs.size)) _ _ _;rw[S];unfold ksk_rest;refine bKO (wpAny_rule ?_);first
  |rw[List.forIn_toArray]
  |(rw[<- Array.forIn_toList];simp only[cZE])
  |rw[<- Array.forIn_toList]
 refine bKO (bYN (aX6 (f:=f) (kS:=s.heap.objs.size+1) (J:=J n) (vs:=vs) (λg l v X hv=>?_) vs [] _ (by simp) (bYJ _) J0) (λ_ l hd=>?_) λ_ _ x=>x)
 ·have b2:g.length<vs.length:=by
   rcases cXL g.length vs.length with h|h
   ·exact h
   ·rw[bYl h]at hv;cases hv
  refine bKO (cX1 (bYN (hcall n g l v X hv) (λk m hk=>?_) λ_ _ hF=>hF.elim));obtain⟨⟨e,nk⟩,c⟩:=hk;have s1:=cQf m.heap (s.heap.objs.size+1) (bYE (·.push k));have ea:(bYT g).push k=bYT (g++ [k]):=by simp
  obtain⟨B,F⟩:∃B,(m.heap.update (s.heap.objs.size+1) (bYE (·.push k))).get? (s.heap.objs.size+1)=some (bYB "list" (bYT (g++ [k])) B):=⟨_,by rw[<- ea];exact cXB nk (·.push k)⟩;try dsimp only
  refine bKO (cXZ nk rfl ?_ (by rw[bK6,bYm];omega) (bYo (cXn (Array.size_push ..)) (by rw[bK6,bYm];omega)));exact bKS ⟨rfl,k,c _ B s1 F⟩
 ·obtain⟨g,hl,X⟩:=hd;obtain⟨⟨e,K⟩,a0⟩:=hget n g l X;try dsimp only
  refine bKO (listItems_at K rfl ?_);obtain⟨r,hr,T,O⟩:=hend n g l X hl;have step:∀t:Sem PySem.Fin,bKV (bKX prog w) A t P E l->bKV (bKX prog w) A (if b=true then(do let _ <- rule "list.sort.reverse";t)else t) P E l:=by
   intro t ht;split
   ·exact bKO (wpAny_rule ht)
   ·exact ht
  have H:(katRev b g).length=(katRev b vs).length:=by rw[kat_len,kat_len,hl]
  have D:∀ (Y:SortSt)(p:List Nat),p.Perm (bK0 vs.length)->p.Pairwise (λi j=>r i<r j)->(arrOf Y).map (·.2)=bYT (p.map λi=>(katRev b vs).getD i Value.none)->failedOf Y=none->
    bKV (bKX prog w) A (ksk_tail a b n (.ref (s.heap.objs.size+1)) Y) P E l:=by
   intro Y p u I V hf
   have b0:p.length=vs.length:=by rw[u.length_eq,bYD]
   obtain⟨ck,a9⟩:∃ck,(l.heap.update (s.heap.objs.size+1) (bYE λ_=>(#[]:Array bKN))).get? (s.heap.objs.size+1)=some (bYB "list" #[] ck):=⟨_,cXB K λ_=> #[]⟩
   have na:(l.heap.update (s.heap.objs.size+1) (bYE λ_=>(#[]:Array bKN))).get? a=some (bYB "list" #[] n):=(bYk _ _ (bYv U)).trans a0
   obtain⟨B,F⟩:∃B,((l.heap.update (s.heap.objs.size+1) (bYE λ_=>(#[]:Array bKN))).update a (bYE λ_=>bYT (katRev b (p.map λi=>(katRev b vs).getD i Value.none)))).get? a=some (bYB "list" (bYT (katRev b (p.map λi=>(katRev b vs).getD i Value.none))) B):=
    ⟨_,cXB na λ_=>bYT (katRev b (p.map λi=>(katRev b vs).getD i Value.none))⟩
   have a7:(bYT (katRev b (p.map λi=>(katRev b vs).getD i Value.none))).size=vs.length:=by rw[bK6,kat_len,bKT,b0]
   unfold ksk_tail
   try dsimp only
   rw[V,kat_outs]
   refine bKO (cXZ K rfl ?_ (by rw[bK6,bYm];omega) (bYJ _))
   refine bKO (wpAny_letGo ?_)
   refine bKO (seqEpoch_at na rfl ?_)
   refine bKO (cXZ na rfl ?_ (bYJ _) (bYo (cXn a7) (by rw[bYm];omega)))
   rw[hf]
   simp only[bne_self_eq_false,Bool.false_eq_true,if_false]
   refine bKS (O p _ ck B u I (λd h1 z=>?_) ?_ F)
   ·exact(bYk _ _ (bYv h1)).trans (bYk _ _ (bYv z))
   ·exact(bYk _ _ U).trans a9
  unfold ksk_end;try dsimp only
  refine step _ ?_;rw[kat_pairs b hl];by_cases z:vs.toArray.size<2
  ·rw[if_pos z,if_pos z];refine bKO (bKS ?_);refine bKO (bKS ?_);have G:vs.length<2:=by rw[bK6]at z;exact z
   refine D _ (bK0 vs.length) (List.Perm.refl _) ?_ ?_ rfl
   ·rw[cXg];intro i j Z hj b1;rw[bYD]at Z hj;omega
   ·show((bYT (katRev b g)).zip (bYT (katRev b vs))).map (·.2)=_;apply Array.toList_inj.mp;rw[Array.toList_map,Array.toList_zip];simp only[cZE];have n:(List.zip (katRev b g) (katRev b vs)).map (·.2)=katRev b vs:=List.map_snd_zip (cXn H.symm);rw[n];apply cQ0;intro i;rw[bK7];by_cases Z:i<vs.length
    ·have L:i<(katRev b vs).length:=by rw[kat_len];exact Z
     rw[cQM Z];simp[bYz,bKM L]
    ·have L:(katRev b vs).length<=i:=by rw[kat_len];omega
     rw[bYl L,bYl (by rw[bYD];omega)];rfl
  ·have G:2<=vs.length:=by rw[bK6]at z;omega
   rw[if_neg z,if_neg z];obtain⟨κ,hκ,R⟩:=T G;refine bKO (bYN (hκ (λk m=>k=κ/\m=l) ⟨rfl,rfl⟩) (λk m hq=>?_) λ_ _ x=>x.elim);obtain⟨rfl,rfl⟩:=hq;have a5:(kas_sort (katRev b vs).length).kasWp (kas_ask prog w A k (katRev b g)) (λp M=>M=m/\p.toList.Perm (bK0 vs.length)/\p.toList.Pairwise (λi j=>r i<r j)) m:=by rw[kat_len];exact Asks.wp (lt:=X9 r) R (aZI hr (by omega)) λp hp=>⟨rfl,hp⟩
   refine bKO (bYN (kat_run (Q:=λy M=>∃p:Array Nat,arrOf y=p.map (kas_item ((bYT (katRev b g)).zip (bYT (katRev b vs))))/\failedOf y=none/\
     M=m/\p.toList.Perm (bK0 vs.length)/\p.toList.Pairwise (λi j=>r i<r j))
    H (by rw[kat_len];exact G) (by rw[kat_len];exact a8) (λp' y M a1 a2 a3 a4=>⟨p',a2,a3,a4⟩) a5) ?_ λ_ _ x=>x)
   rintro⟨⟨⟩,y⟩ M ⟨p,a6,hf,rfl,u,I⟩;try dsimp only
   exact D _ p.toList u I (kat_snds H a6) hf
end
end Stree
namespace L2
open PySem PySem.Spec PyProof.Rows
abbrev bWJ(X:Cx)(A:bYr)(N:List Str)(qual:Str)(sc:cQX)(L q:Nat)(cd:bKN)(cl:List (Str×Nat))(s:bKQ)(H:Hp):Cx:=
 {X with A:=A.deeper (PySem.W.envX qual sc L q cd cl),N:=N,s₀:=s,H₀:=H,env:=PySem.W.envX qual sc L q cd cl,outer:=X.stack,stack:=PySem.W.envX qual sc L q cd cl::X.stack,ex:= [],fn:=λ_=>false,calm:=true,pn:= [],xe:=λ_ _=>False}
section
variable {X:Cx}{pins:List (Nat×Obj)}{σ:St}{H:Hp}{s:bKQ}
theorem bQL{A:bYr}{x:Str}{names:List Str}{M:List Nat}{f:cQX}{cl:List (Str×Nat)}{name qual:Str}{d:Arguments}{body:Expr}{pm P:bKN}{q t:Nat}{te:TE}{v:V}{u:bKN}{Q:VK} (I:Inv X pins σ H s) (hA:A.frames=some X.stack) (hd:A.handled=none) (F:A.depth<recursionLimit) (S:xH X.N X.env.scope x names M f) (a4:f.isCoroutine=false) (O:f.isGenerator=false) (a:∀y c,cl.lookup y=some c->X.env.cells.lookup y=some c) (B:∀y,(y,NameKind.free)∈f.names->∃c,cl.lookup y=some c) (ho:s.heap.get? q=some (cQW name qual d body f cl pm t P)) (a1:s.heap.CodeRec (.ref t) qual) (E:∀u:bKN,bindArgs (PySem.W.kla_fn name qual d body f cl pm (.ref t) P) ⟨[u],[]⟩=pure [(x,u)]) (he:∀A L cd s H,PE (bWJ X A (x::names) qual f L q cd cl s H) body te) (r:zC v u) (h:te (sub σ M (some v)) H Q): bKV (bKX X.prog X.w) A (call (.ref q) [u]) (EP X pins σ Q) (λ_ _=>False) s:=by
 have a3:cQ1 (bKX X.prog X.w) A (.call (.ref q) ⟨[u],[]⟩) (λr s'=>match r with|.ok (.ret u)=>EP X pins σ Q u s'|_=>False) s:=by
  refine PySem.W.kla_callFunE F ho rfl a4 O rfl a1 ?_;rw[E u];refine bKS (wpAny_newFunctionEnv S.nocell (λy hy=>by rw[bK4.mp hy];exact S.var) (λC a2 a0=>?_) S.kind);have keep:∀b o,s.heap.get? b=some o->C.get? b=some o:=λb o e=>a0.extBut b o (bYb (bK1 e)) (bKR _ e);refine⟨I.nolimit.keeps keep,?_⟩;show cQ1 _ _ (.expr body (PySem.W.envX qual f s.heap.objs.size q (.ref t) cl)) _ _;have a5:(bWJ X A (x::names) qual f s.heap.objs.size q (.ref t) cl s H).Ok:=by
   refine⟨I.ok.mod,S.kind,rfl,rfl,bKU _,?_,?_,?_,λ_=>hd,Around.frames_deeper hA,.inr ⟨rfl,rfl⟩,?_,I.bs,bYo I.ok.bsz I.sz,?_,?_,I.stack,I.stkFree⟩
   ·exact λy z c Y U=>I.ok.inj y z c (a y c Y) (a z c U)
   ·intro y hy;have g:f.names.lookup y=some .cell\/f.names.lookup y=some .free:=hy;rcases g with g|g
    ·exact absurd rfl (S.nocell _ (cQg g))
    ·exact B y (cQg g)
   ·exact λy c h _=>by cases h
   ·exact λb E=>absurd (show b∈([]:List Nat)from E) (by simp)
   ·exact λb o _ E=>absurd (show b∈([]:List Nat)from E) (by simp)
   ·exact λb E=>absurd (show b∈([]:List Nat)from E) (by simp)
  have IY:Inv (bWJ X A (x::names) qual f s.heap.objs.size q (.ref t) cl s H) [] (sub σ M (some v)) H {s with heap:=C,toks:=s.toks+ [(x,u)].length}:=by
   refine⟨a5,rfl,I.bare,Un.kept keep,⟨_,a2,?_⟩,?_,I.hok.fresh (bKU _),λy c e=>I.freeC y c (a y c e),λp hp=>absurd (show p∈([]:List (Nat×Obj))from hp) (by simp),I.hok.kept keep,?_⟩
   ·intro i y n Y U h3;cases i with
    |zero=>
     have D:x=y:=by simpa using Y
     have G:v=n:=by have z:(some (some v):Option (Option V))=some (some n):=U;cases z;rfl
     subst D;subst G;exact⟨u,r,.inl ⟨S.var,by simp[cQ3]⟩⟩
    |succ j=>
     have D:names[j]? =some y:=Y;obtain⟨Z,e1,e2,T⟩:=S.from_ j y D;have G:σ[Z]? =some (some n):=by
      have z:(M.map λi=>(σ[i]?).join)[j]? =some (some n):=U;rw[bK7,e1]at z;have l:(σ[Z]?).join=some n:=bK8 z;cases q:σ[Z]? with
      |none=>rw[q]at l;cases l
      |some o=>rw[q]at l;rw[show o=some n from l]
     obtain⟨m,hn,hl⟩:=I.loc;have R:Vis X.env.scope y:= .inr (S.free _ T rfl);obtain⟨u',ru,lk⟩:=hl Z y n e2 G R;refine⟨u',ru,.inr ⟨?_,?_⟩⟩
     ·exact .inr (S.flk _ T rfl)
     ·rcases lk with⟨k,_⟩|⟨k,c,e,z⟩
      ·rcases S.free _ T rfl with z|z
       ·have l:X.env.kindOf y=some .cell:=z;rw[k]at l;cases l
       ·have l:X.env.kindOf y=some .free:=z;rw[k]at l;cases l
      ·obtain⟨t,e'⟩:=B y T;have:=a y t e';rw[e]at this;cases this;exact⟨c,e',z.keeps keep⟩
   ·intro y c e;obtain⟨v,z⟩:=I.cell y c (a y c e);exact⟨v,z.keeps keep⟩
   ·show(sub σ M (some v)).length=(x::names).length;simp[sub,S.len]
  refine PySem.W.kla_codeExpr (bYN (he A s.heap.objs.size (.ref t) s H [] _ (sub σ M (some v)) H Q IY h) (λw s' K=>?_) (λ_ _ z=>z.elim));obtain⟨n,H',J,rv,q⟩:=K;exact I.after ⟨n,H',J.os,J.bare,J.base,J.hok,rv,q⟩
 refine cXW (cQC a3 λr s' K=>?_);cases r with
 |error e=>exact K
 |ok fl=>
  cases fl with
  |ret u=>exact K
  |next=>exact K
  |brk=>exact K
  |cont=>exact K
end
end L2
namespace L2
open PySem PySem.Spec PyProof.Rows
def aKd(c:Nat)(qual:Str):HO:= .ext λh=>h.CodeRec (.ref c) qual
def bV6(q:Nat)(o:Obj):HO:= .ext λh=>h.get? q=some o
theorem bQs{P:bK9}{w:bYf}{H:Hp}{h:Heap}{c:Nat}{qual:Str}(r:h.CodeRec (.ref c) qual):x0 P w H h c (aKd c qual):=by
 obtain⟨p,o,s,t,e,b,l,q⟩:=id r;cases e;refine⟨r,⟨o,b⟩,λb l z k=>?_⟩;obtain⟨n,f,a,j,m,g,d,i⟩:=z;cases m;exact⟨_,f,a,j,rfl,k _ g,d,i⟩
theorem aKS{P:bK9}{w:bYf}{H:Hp}{h:Heap}{q:Nat}{o:Obj}(r:h.get? q=some o):x0 P w H h q (bV6 q o):=⟨r,⟨o,r⟩,λa b z k=>k _ z⟩
def qU(pos:Pos)(qual:Str)(P:Nat)(H:Hp):Prop:=
 H P=some (.tbl #[])\/∃a,H P=some (.tbl (#[]++ #[bY2 pos.line,bY2 pos.col,.ref a]))/\H a=some (aKd a qual)
def x2(H c:Hp):Prop:=∀b o,(∀a,o≠ .tbl a)->H b=some o->c b=some o
theorem xA.t{H a:Hp}(k:xA H a):x2 H a:=λb o _ e=>k b o e
theorem x2.refl(H:Hp):x2 H H:=λ_ _ _ e=>e
theorem x2.trans{H f d:Hp}(a:x2 H f)(b:x2 f d):x2 H d:=λc o n e=>b c o n (a c o n e)
theorem x2.lst{H b:Hp}(k:x2 H b){a:Nat}{xs:List V}(h:H a=some (.lst xs)):b a=some (.lst xs):=k a _ (λ_ z=>nomatch z) h
theorem x2.tup{H b:Hp}(k:x2 H b){a:Nat}{xs:List V}(h:H a=some (.tup xs)):b a=some (.tup xs):=k a _ (λ_ z=>nomatch z) h
theorem x2.ext{H b:Hp}(k:x2 H b){a:Nat}{φ:Heap->Prop}(h:H a=some (.ext φ)):b a=some (.ext φ):=k a _ (λ_ z=>nomatch z) h
theorem aJX:PySem.TriplesOk (#[]:Array bKN).toList:=trivial
theorem aJY{a b:Int}{v:bKN}:PySem.TriplesOk ((#[]++ #[bY2 a,bY2 b,v]:Array bKN)).toList:=trivial
theorem aW6{pos:Pos}{v:bKN}:codeAmong pos ((#[]++ #[bY2 pos.line,bY2 pos.col,v]:Array bKN)).toList=some v:=by
 show(if((pos.line:Int)==pos.line && (pos.col:Int)==pos.col)=true then some v else _)=some v;simp
section
variable {X:Cx}{pins:List (Nat×Obj)}{σ:St}{H:Hp}{s:bKQ}
theorem Inv.tab{P:Nat}{d more:Array bKN}{h':Heap}{t':Nat}(I:Inv X pins σ H s)(g:H P=some (.tbl d))(f:cZi P s.heap h')(j:h'.get? P=some {cls:= .none,data:= .fields (d++more) }): Inv X pins σ (upd H P (.tbl (d++more))) {s with heap:=h',toks:=t'}:=by
 have h:∀b,H b=none->b≠P:=λb n z=>by rw[z,g]at n;cases n
 have ne:∀b o,H b=some o->(∀d,o≠ .tbl d)->b≠P:=λb o e n z=>by subst z;rw[g]at e;cases e;exact n _ rfl
 refine I.un (t':=t') ⟨λb o e n _ _=>f b o (h b n) e,λb o e n _ _=>⟨o.slots,f b o (h b n) e⟩,λb o e n _=>by rw[yI (h b n)];exact n,λb o e _=>?_,λb k e=>?_,λb o u e=>?_,λb l e=>?_⟩ λb u e=>?_
 ·by_cases a:b=P
  ·exact⟨_,by rw[a];exact j⟩
  ·exact⟨o,f b o a e⟩
 ·rw[yI (ne b _ e λ_ z=>nomatch z)];exact e
 ·rw[yI (ne b _ e λ_ z=>nomatch z)];exact e
 ·by_cases a:b=P
  ·subst a;rw[g]at e;cases e;exact⟨more,yB⟩
  ·exact⟨#[],by rw[yI a,e];simp⟩
 ·by_cases a:b=P
  ·subst a;rw[yB]at e;cases e;exact j
  ·rw[yI a]at e;refine(I.hok b u e).stay (λc v i q=>f c v ?_ q) (λc q=>?_) λc k q=>?_
   ·rcases i with rfl|i
    ·exact a
    ·exact ne c _ i λ_ z=>nomatch z
   ·rw[yI (ne c _ q λ_ z=>nomatch z)];exact q
   ·rw[yI (ne c _ q λ_ z=>nomatch z)];exact q
theorem bQM{name qual:Str}{d:Arguments}{body:Expr}{r:cQX}{c P:Nat}{pos:Pos}{fl:Nat}{cl:List (Str×Nat)}{E:bKN->bKQ->Prop}{Q:bKN->bKQ->Prop}(I:Inv X pins σ H s)(B:closureFor r X.env=pure cl)(j:X.env.code= .ref c) (C:cQP X.base c P) (hB:X.base.BuiltinsAt X.mg P) (hT:qU pos qual P H) (hq:∀ (q f:Nat)(g:bKN)(O:Hp)(s':bKQ),Inv X pins σ O s'->H q=none->O q=some (bV6 q (cQW name qual d body r cl ((X.mg "__name__").getD .none) f g))->O f=some (aKd f qual)->qU pos qual P O->x2 H O->Q (.ref q) s'): bKV (bKX X.prog X.w) X.A (makeFunction name qual d (.expr body) r X.env [] [] [] pos fl) Q E s:=by
 have V:s.heap.Ns bYi X.mg:=I.ok.mod.glob.keeps I.bk;have hC:=C.keeps I.bk;obtain⟨bm,ob,b1,b2,b3,b4,b5,b6⟩:=hB;have K:s.heap.BuiltinsAt X.mg P:=⟨bm,ob,b1,b2,b3,b4,I.bk _ _ b5,b6⟩;rcases hT with p|⟨f,p,N⟩
 ·have l:s.heap.get? P=some (cXk #[]):=I.hok P _ p;have Z:bYi≠P:=λz=>by
   obtain⟨o,es,ep,e,hd,_⟩:=V;rw[z,l]at e;cases e;cases hd
  refine PySem.W.kla_makeFunction (mg:=X.mg) B I.ok.glob V j hC l aJX rfl Z K λf g h tk R i M D y=>?_;have T:=I.tab (t':=tk) p R y;have x:P≠f:=bYb (bYe (bK1 l) i);have U:H f=none:=I.hok.fresh i;have J:upd H P (.tbl (#[]++ #[bY2 pos.line,bY2 pos.col,.ref f])) f=none:=by rw[yI (bYv x)];exact U
  have I2:Inv X pins σ (upd (upd H P (.tbl (#[]++ #[bY2 pos.line,bY2 pos.col,.ref f]))) f (aKd f qual)) {s with heap:=h,toks:=tk}:=by
   have a1:cZi P s.heap h:=R;have nP:∀b,H b=none->b≠P:=λb n z=>by rw[z,p]at n;cases n
   have ne:∀b o,H b=some o->(∀ps,o≠ .tbl ps)->b≠P:=λb o e n z=>by subst z;rw[p]at e;cases e;exact n _ rfl
   have Y:∀b o,s.heap.get? b=some o->b≠f:=λb o e=>bYb (bYe (bK1 e) i);have S:∀b,b≠P->b≠f->upd (upd H P (.tbl (#[]++ #[bY2 pos.line,bY2 pos.col,.ref f]))) f (aKd f qual) b=H b:=λb h1 h2=>by rw[yI h2,yI h1]
   have hl:∀b u,H b=some u->b≠f:=λb u e=>yJ e U;refine I.un (t':=tk) ⟨λb o e n _ _=>R b o (nP b n) e,λb o e n _ _=>⟨o.slots,R b o (nP b n) e⟩,λb o e n _=>by rw[S b (nP b n) (Y b o e)];exact n,λb o e _=>?_,λb xs e=>?_,λb o u e=>?_,λb qs e=>?_⟩ λb u e=>?_
   ·by_cases G:b=P
    ·exact⟨_,by rw[G];exact y⟩
    ·exact⟨o,R b o G e⟩
   ·rw[S b (ne b _ e λ_ z=>nomatch z) (hl b _ e)];exact e
   ·rw[S b (ne b _ e λ_ z=>nomatch z) (hl b _ e)];exact e
   ·by_cases G:b=P
    ·subst G;rw[p]at e;cases e;exact⟨_,by rw[yI x];exact yB⟩
    ·exact⟨#[],by rw[S b G (hl b _ e),e];simp⟩
   ·by_cases L:b=f
    ·subst L;rw[yB]at e;cases e;exact bQs D
    ·rw[yI L]at e;refine(T.hok b u e).stay (λc v _ q=>q) (λc q=>?_) λc xs q=>?_
     ·rw[yI (yJ q J)];exact q
     ·rw[yI (yJ q J)];exact q
  have m:H h.objs.size=none:=I.hok.fresh (bYo i (cXo M));have I3:=I2.laid (a:=h.objs.size) (o:=bV6 h.objs.size (cQW name qual d body r cl ((X.mg "__name__").getD .none) f g)) (t':=tk) (h':=h.push (cQW name qual d body r cl ((X.mg "__name__").getD .none) f g))
   (λb o e=>bKR _ e) (bKU _) (aKS (bYg _ rfl))
  have F:f≠h.objs.size:=bYb M;have a0:P≠h.objs.size:=bYb (bK1 y);refine hq h.objs.size f g _ _ I3 m yB (by rw[yI F];exact yB) (.inr ⟨f,by rw[yI a0,yI x];exact yB,by rw[yI F];exact yB⟩) λb o n e=>?_;have h1:b≠P:=λz=>by subst z;rw[p]at e;cases e;exact n _ rfl
  rw[yI (yJ e m),yI (yJ e U),yI h1];exact e
 ·have l:s.heap.get? P=some (cXk (#[]++ #[bY2 pos.line,bY2 pos.col,.ref f])):=I.hok P _ p;refine PySem.W.kla_makeFunctionHit (mg:=X.mg) B I.ok.glob V j hC l aJY aW6 K λg h tk hk i=>?_;have T:Inv X pins σ H {s with heap:=h,toks:=tk}:=I.kept hk;have m:H h.objs.size=none:=T.hok.fresh (bKU _);have I3:=T.laid (a:=h.objs.size) (o:=bV6 h.objs.size (cQW name qual d body r cl ((X.mg "__name__").getD .none) f g)) (t':=tk) (h':=h.push (cQW name qual d body r cl ((X.mg "__name__").getD .none) f g))
   (λb o e=>bKR _ e) (bKU _) (aKS (bYg _ rfl))
  have k:=yG m (bV6 h.objs.size (cQW name qual d body r cl ((X.mg "__name__").getD .none) f g));exact hq h.objs.size f g _ _ I3 m yB (k _ _ N) (.inr ⟨f,k _ _ p,k _ _ N⟩) k.t
end
end L2
namespace Stree
open PySem PySem.W PySem.Calls PyProof.Rows
theorem Q1{α:Type}(p q:α->Bool):∀ (l:List α),(∀a∈l,p a=true->q a=true)->(∃a∈l,p a=false/\q a=true)->l.countP p<l.countP q
 |[],_,h=>by obtain⟨a,b,_⟩:=h;cases b
 |x::r,hs,h=>by
  have f:r.countP p<=r.countP q:=List.countP_mono_left λa b=>hs a (bKY _ b);obtain⟨a,b,c,d⟩:=h;rcases bKW.mp b with rfl|b
  ·rw[cZm,cZm,c,d];simp;omega
  ·have g:=Q1 p q r (λa b=>hs a (bKY _ b)) ⟨a,b,c,d⟩;rw[cZm,cZm];have:=hs x bK2;cases e:p x with
   |false=>cases q x<;> simp<;> omega
   |true=>rw[this e];simp;omega
theorem aJx{n:Nat}(lt:Nat->Nat->Bool)(g:∀i,i<n->lt i i=false)(p:∀i j k,i<n->j<n->k<n->lt i j=true->lt j k=true->lt i k=true)(f:∀i j,i<n->j<n->i≠j->lt i j=true\/lt j i=true): ∃r:Nat->Int,Inj n r/\∀i j,i<n->j<n->decide (r i<r j)=lt i j:=by
 refine⟨λi=>((bK0 n).countP λm=>lt m i:Nat),?_,?_⟩
 ·have up:∀i j,i<n->j<n->lt i j=true->((bK0 n).countP λm=>lt m i)<((bK0 n).countP λm=>lt m j):=λi j a c h=>
   Q1 _ _ _ (λm o d=>p m i j (bYj.mp o) a c d h) ⟨i,bYj.mpr a,g i a,h⟩
  intro i j a c e;by_cases b:i=j
  ·exact b
  ·exfalso;have q:(((bK0 n).countP λm=>lt m i:Nat):Int)=((bK0 n).countP λm=>lt m j:Nat):=e;rcases f i j a c b with h|h
   ·have:=up i j a c h;omega
   ·have:=up j i c a h;omega
 ·intro i j a c;have up:∀i j,i<n->j<n->lt i j=true->((bK0 n).countP λm=>lt m i)<((bK0 n).countP λm=>lt m j):=λi j a c h=>
   Q1 _ _ _ (λm o d=>p m i j (bYj.mp o) a c d h) ⟨i,bYj.mpr a,g i a,h⟩
  cases h:lt i j with
  |true=>have:=up i j a c h;exact decide_eq_true (by show(((bK0 n).countP λm=>lt m i:Nat):Int)<((bK0 n).countP λm=>lt m j:Nat);omega)
  |false=>
   refine decide_eq_false ?_;show ¬ (((bK0 n).countP λm=>lt m i:Nat):Int)<((bK0 n).countP λm=>lt m j:Nat);by_cases b:i=j
   ·subst b;omega
   ·rcases f i j a c b with l|l
    ·rw[h]at l;cases l
    ·have:=up j i c a l;omega
section
variable {prog:bK9}{w:bYf}{A:bYr}{E:bKN->bKQ->Prop}{s:bKQ}
theorem aXd{r:Nat}{n:Nat}{t u v:Tok}{Q:List bKN->bKQ->Prop}(N:A.handled=none)(J:IsRange s.heap r 0 n 1 t u v)(V:n<64) (I:∀j tk H,(∀b o,s.heap.get? b=some o->j.get? b=some o)->s.heap.objs.size<j.objs.size->cXi H ((bK0 n).map Int.ofNat)->Q H {s with heap:=j,toks:=tk}):bKV (bKX prog w) A (collect (.ref r)) Q E s:=by
 have P:Builtin.Range.rangeSize 0 n 1=(n:Int):=by rw[rangeSize_one];split<;> omega
 have C:Builtin.Range.small 0 n 1=true:=small_one (by decide) (by decide) (by omega) (by omega);unfold collect;refine bKO (wpAny_runValue (cQY F.entry_proto_collect ?_));rw[cQF F.plain_proto_collect _];show bKV _ A.in1 (newList [] >>=λl=>again (.builtin "list.__iadd__" ⟨[l,.ref r],[]⟩)) _ _ s;refine bKO (cQJ ?_);refine bKS ⟨cX0 F.plain_list_iadd _,cQY F.entry_list_iadd ?_⟩;rw[cQF F.plain_list_iadd _];have d:(s.heap.push {cls:= .type "list",data:= .seq ([]:List bKN).toArray}).get? s.heap.objs.size=some {cls:= .type "list",data:= .seq ([]:List bKN).toArray}:=bYg _ rfl;show bKV _ A.in1 (cXN (.ref s.heap.objs.size) (.ref r) (.ref s.heap.objs.size)) _ _ _;refine bYN (wpAny_extend_range (A:=A) (R:=λq y=>q= .ok (.ret (.ref s.heap.objs.size))/\∃a g,y.heap.get? s.heap.objs.size=some {cls:= .type "list",dict:=none,data:= .seq a g,slots:= #[] }/\Q a.toList y) (s:={s with heap:=s.heap.push {cls:= .type "list",data:= .seq ([]:List bKN).toArray} }) N (bKR _ J) C P (by omega) s.heap.objs.size (.ref s.heap.objs.size) 0 d λj tk a g O m c=>⟨rfl,a,g,m,?_⟩) (λfin y B=>?_) λe y K=>by obtain⟨z,_⟩:=K;cases z
 rotate_left
 ·cases fin with
  |done f=>
   obtain⟨e,a,g,h,p⟩:=B;have U:f= .ret (.ref s.heap.objs.size):=by cases e;rfl
   subst U;exact bKO (wpAny_load h (bKS p))
  |again g=>
   exact⟨B.1,cQC B.2 λq T L=>by
    obtain⟨rfl,a,g,h,p⟩:=L;exact bKO (wpAny_load h (bKS p))⟩
 refine I j tk a.toList (λb o e=>O b o (bYb (bK1 e)) (bKR _ e)) (bK1 m) ?_;have len:a.toList.length=n:=by rw[bY8];exact c.1
 have all:∀ (k:Nat)(l:List bKN),l.length<=n->k+l.length=n->(∀i v,l[i]? =some v->∃t,v=Value.int ((k+i:Nat):Int) t)->cXi l ((List.range' k l.length).map Int.ofNat):=by
  intro k l;induction l generalizing k with
  |nil=>intro _ _ _;exact .nil
  |cons x l M=>
   intro h p G;obtain⟨t,rfl⟩:=G 0 x rfl;rw[bYM,List.range'_succ,bYx];exact .cons _ _ (M (k+1) (by rw[bYM]at h;omega) (by rw[bYM]at p;omega) λi v D=>by
    obtain⟨S,e⟩:=G (i+1) v D;exact⟨S,by rw[e,show k+(i+1)=k+1+i by omega]⟩)
 have z:=all 0 a.toList (by omega) (by omega) λi v D=>by obtain⟨t,e⟩:=c.2 i v (by rw[<- cQk];exact D);exact⟨t,by rw[e,show(0:Int)+(i:Int)*1=((0+i:Nat):Int) by omega]⟩
 rw[len]at z;rw[List.range_eq_range'];exact z
theorem aZJ{r:Nat}{n:Nat}{t u v:Tok}{b:Bool}{f:bKN}{g:List (Str×bKN)}{Q:bKN->bKQ->Prop}(D:A.handled=none)(B:IsRange s.heap r 0 n 1 t u v)(H:n<64) (q:argsOk "sorted" ⟨[.ref r],g⟩) (p:∀x,argsOk "list.sort" ⟨[.ref x],g⟩) (C:∀x,cQx.«list.sort» ⟨[.ref x],g⟩=ksk_tree x f b) (h:∀a c tk d,(∀b o,s.heap.get? b=some o->c.get? b=some o)->s.heap.objs.size<=a->c.get? a=some (bYB "list" d.toArray 0)->cXi d ((bK0 n).map Int.ofNat)-> bKV (bKX prog w) A.in1.in1 (ksk_tree a f b) (λfin y=>fin= .done (.ret .none)/\Q (.ref a) y) (λ_ _=>False) {s with heap:=c,toks:=tk}): bKV (bKX prog w) A (call (.builtin "sorted") [.ref r] g) Q E s:=by
 refine call_function_entry_kw kind_sorted plain_sorted entry_sorted q ?_;unfold cQx.«sorted»;refine bKO (m:=checkCount "sorted" 1 1 _) (bKS ?_);refine bKO (aXd (A:=A.in1) (by simpa using D) B H λc tk d F j z=>?_);have G:d.length=n:=by rw[z.length];simp
 refine bKO (cX2 ?_ (by rw[bYm];omega));have i:(c.push (bYB "list" d.toArray 0)).get? c.objs.size=some (bYB "list" d.toArray 0):=bYg _ rfl;have k:s.heap.objs.size<=c.objs.size:=cXo j;refine bKO (bY5 (wpAny_call_entry_kw slot_list_sort ⟨_,i,rfl⟩ entry_list_sort ?body (p _)));case body=>
  show bKV (bKX prog w) A.in1.in1 (cQx.«list.sort» ⟨[.ref c.objs.size],g⟩) _ _ _;rw[C c.objs.size];refine bYN (h c.objs.size (c.push (bYB "list" d.toArray 0)) tk d (λb o e=>bKR _ (F b o e)) k i z) (λfin y l=>?_) λ_ _ x=>x.elim;obtain⟨rfl,l⟩:=l;exact⟨_,rfl,bKS ⟨_,rfl,l⟩⟩
end
end Stree
namespace Stree
open PySem PySem.W PySem.Calls PyProof.Rows
def zV(a b:Int×Int):Bool:=decide (a.1<b.1) || (decide (a.1=b.1) && decide (a.2<b.2))
theorem wK(a:Int×Int):zV a a=false:=by simp[zV]
theorem aXm{a b c:Int×Int}(d:zV a b=true)(e:zV b c=true):zV a c=true:=by
 simp only[zV,Bool.or_eq_true,Bool.and_eq_true,decide_eq_true_eq]at d e ⊢;omega
theorem aXl{a b:Int×Int}(h:a≠b):zV a b=true\/zV b a=true:=by
 have c:¬ (a.1=b.1/\a.2=b.2):=λ⟨x,y⟩=>h (Prod.ext x y);simp only[zV,Bool.or_eq_true,Bool.and_eq_true,decide_eq_true_eq];omega
section
variable {prog:bK9}{w:bYf}{A:bYr}{E:bKN->bKQ->Prop}{s:bKQ}
theorem aZ5{a c:Int}{t t':Tok}{Q:Bool->bKQ->Prop}(h:Q (a==c) s):bKV (bKX prog w) A (eqBool (.int a t) (.int c t')) Q E s:=
 (L2.bZs (A:=A) (s:=s) (y:= .int a) (x:= .int c) ⟨t,rfl⟩ ⟨t',rfl⟩ rfl rfl) prog w E Q h
theorem aKL{x y:Nat}{i g:Obj}{n k:Nat}{a b c d:Int}{r m q p:Tok}{Q:Bool->bKQ->Prop}(t:s.heap.get? x=some i)(dx:i.data= .seq #[.int a r,.int b m] n)(o:s.heap.get? y=some g)(j:g.data= .seq #[.int c q,.int d p] k) (h:Q (zV (a,b) (c,d)) s):bKV (bKX prog w) A (keyLt' (tuples' true) (.ref x) (.ref y)) Q E s:=by
 refine kat_lt t dx o j ?_;refine kat_cons (aZ5 ?_);unfold zV at h;by_cases e:a=c
 ·subst e;simp only[Int.lt_irrefl,decide_false,Bool.false_or,decide_true,Bool.true_and]at h;rw[beq_self_eq_true];refine kat_yes (kat_cons (aZ5 ?_));by_cases f:b=d
  ·subst f;rw[beq_self_eq_true];refine kat_yes (kat_nil ?_);simpa using h
  ·rw[beq_eq_false_iff_ne.mpr f];refine kat_no (kat_one _ _ ?_);exact lt_int h
 ·rw[beq_eq_false_iff_ne.mpr e];have l:Q (decide (a<c)) s:=by
   have:decide (a=c)=false:=decide_eq_false e;simpa[this]using h
  refine kat_no ?_;exact oneLt_int l
end
end Stree
namespace L2
open PySem PySem.Spec PyProof.Rows
def ixb(b:Bool)(n i:Nat):Nat:=if b=true then n - 1 - i else i
theorem aZe{b:Bool}{n i:Nat}(h:i<n):ixb b n i<n:=by unfold ixb;split<;> omega
theorem bJl{b:Bool}{n i j:Nat}(a:i<n)(c:j<n)(h:ixb b n i=ixb b n j):i=j:=by unfold ixb at h;split at h<;> omega
theorem aXv{α:Type}{b:Bool}{l:List α}{n i:Nat}{d:α}(a:l.length=n)(c:i<n):(bYZ b l).getD i d=l.getD (ixb b n i) d:=by
 unfold bYZ ixb;split
 ·simp only[bYz];rw[List.getElem?_reverse (by omega),a]
 ·rfl
theorem bWd{n:Nat}{b:Bool}{a:Nat->Int×Int}{r:Nat->Int}{p:List Nat}(l:p.Perm (bK0 n))(g:p.Pairwise λi j=>r i<r j)(k:∀i j,i<n->j<n->decide (r i<r j)=Stree.zV (a (ixb b n i)) (a (ixb b n j))): (bYZ b (p.map (ixb b n))).Perm (bK0 n)/\(bYZ b (p.map (ixb b n))).Pairwise λi j=>Stree.zV (if b=true then a j else a i) (if b=true then a i else a j)=true:=by
 have f:(p.map (ixb b n)).Pairwise λi j=>Stree.zV (a i) (a j)=true:=by rw[cZd];have m:∀i∈p,i<n:=λi c=>bYj.mp (l.mem_iff.mp c);refine g.imp_of_mem λ{i j} c hj h=>?_;rw[<- k i j (m i c) (m j hj)];exact decide_eq_true h
 have d:=l.map (ixb b n);cases b with
 |false=>
  have e:ixb false n=id:=by funext i;rfl
  rw[e]at d f ⊢;rw[List.map_id,List.map_id]at d;rw[List.map_id]at f ⊢;exact⟨d,f⟩
 |true=>
  have e:(bK0 n).map (ixb true n)=(bK0 n).reverse:=by
   apply cQ0;intro i;by_cases c:i<n
   ·rw[bK7,cQM c,List.getElem?_reverse (by simpa using c),bYD,cQM (by omega)];rfl
   ·rw[bYl (by simp;omega),bYl (by simp;omega)]
  rw[e]at d;refine⟨(List.reverse_perm _).trans (d.trans (List.reverse_perm _)),?_⟩;show((p.map (ixb true n)).reverse).Pairwise _;rw[List.pairwise_reverse];exact f
def bZX(H:Hp)(b:Nat->Int×Int)(c:List bKN):Prop:=∀i v,c[i]? =some v->∃a,v= .ref a/\H a=some (.tup [.int (b i).1,.int (b i).2])
def bX6(te:TE)(fr:List Nat)(tb:TE)(P:Nat)(lpos:Pos)(qual:Str)(b:Bool):TE:=λσ H Q=>te σ H λv f=>∃n:Nat,v= .int n/\n<64/\qU lpos qual P f/\∃kz:Nat->Int×Int,
 (∀i j,i<n->j<n->kz i=kz j->i=j)/\
 (∀i d,i<n->x2 f d->qU lpos qual P d->∀R:VK,(∀a e,x2 d e->e P=d P->e a=some (.tup [.int (kz i).1,.int (kz i).2])->R (.ref a) e)->tb (sub σ fr (some (.int i))) d R)/\
 ∀H5 l (c:List Nat),x2 f H5->qU lpos qual P H5->f l=none->c.Perm (bK0 n)->(c.Pairwise λi j=>Stree.zV (if b=true then kz j else kz i) (if b=true then kz i else kz j)=true)->H5 l=some (.lst (c.map λi=> .int (i:Nat)))->Q (.ref l) H5
theorem qU.keep{lpos:Pos}{qual:Str}{P:Nat}{H a:Hp}(t:qU lpos qual P H)(k:x2 H a)(e:a P=H P):qU lpos qual P a:=by
 rcases t with t|⟨c,d,b⟩
 ·exact .inl (e.trans t)
 ·exact .inr ⟨c,e.trans d,k.ext b⟩
section
variable {X:Cx}{e body:Expr}{te tb:TE}{x:Str}{names:List Str}{fr:List Nat}{sc:cQX}{params:Arguments}{qual:Str}{p p2 p3 pos lpos kp kp2 bp:Pos}{j:Nat}{b:Bool}{c P:Nat}{k:Nat}
theorem aWy(g6:Gl X "sorted")(f7:X.mg "sorted"=none)(f4:Gl X "range")(g4:X.mg "range"=none)(he:PE X e te)(S:xH X.N X.env.scope x names fr sc)(f9:sc.isCoroutine=false)(b8:sc.isGenerator=false)
  (a9:X.env.code= .ref c) (C:cQP X.base c P) (hB:X.base.BuiltinsAt X.mg P) (hr:vJ (k+1) X.A) (b9:defaultsOf params X.env=([],[])) (hq:X.env.qual++"<lambda>"=qual)
  (hb:∀ (cl:List (Str×Nat))(pm d7 a7 u:bKN),bindArgs (PySem.W.kla_fn "<lambda>" qual params body sc cl pm d7 a7) ⟨[u],[]⟩=pure [(x,u)])
  (a8:∀A L q cd cl s H,PE (bWJ X A (x::names) qual sc L q cd cl s H) body tb) (b1:bYy "sorted"=some (.builtin "sorted"):=dk)
  (s2:bYp [e] X.env= [(false,eval e X.env)]:=by rfl):
  PE X (.Call (.Name "sorted" p) [.Call (.Name "range" p2) [e] [] p3] [⟨some "key",.Lambda params body sc lpos,kp⟩,⟨some "reverse",.Constant (.bool b) j bp,kp2⟩] pos) (bX6 te fr tb P lpos qual b):=by
 intro g s σ H Q I h
 refine cQq (aQ3 I g6 f7 b1 ?_)
 refine callWith_kw ?_
 show bKV _ _ (spliced ((false,eval (.Call (.Name "range" p2) [e] [] p3) X.env):: [])) _ _ s
 refine Calls.spliced_cons ?_
 refine cQq (aQ3 I f4 g4 boot_range ?_)
 refine cXO ?_ s2 rfl
 refine thn (yA he yD s2 p3 g s σ H (λvs H1=>match vs with|[v]=>(∃n:Nat,v= .int n/\n<64/\qU lpos qual P H1/\∃kz:Nat->Int×Int,
   (∀i j,i<n->j<n->kz i=kz j->i=j)/\
   (∀i D,i<n->x2 H1 D->qU lpos qual P D->∀R:VK,(∀a Y,x2 D Y->Y P=D P->Y a=some (.tup [.int (kz i).1,.int (kz i).2])->R (.ref a) Y)->tb (sub σ fr (some (.int i))) D R)/\
   ∀H5 l (b2:List Nat),x2 H1 H5->qU lpos qual P H5->H1 l=none->b2.Perm (bK0 n)->(b2.Pairwise λi j=>Stree.zV (if b=true then kz j else kz i) (if b=true then kz i else kz j)=true)->H5 l=some (.lst (b2.map λi=> .int (i:Nat)))->Q (.ref l) H5)|_=>False) I h) λus s1 ⟨vs,H1,I1,r1,z⟩=>?_
 match vs,z with
 |[v],⟨n,e2,hn,hT,kz,hinj,hkey,hfin⟩=>
  subst e2;obtain⟨u,rfl,ru⟩:=aQL r1;obtain⟨t,rfl⟩:=ru;refine call_range_1 (Calls.spliced_nil ?_);have fR:=I1.fpOk (b:=s1.heap.objs.size) (bKU _) I1.fresh;have I2:Inv X ((s1.heap.objs.size,{cls:= .type "range",data:= .fields #[.int 0 s1.toks,.int (n:Int) t,.int 1 (s1.toks+1)] })::g) σ H1 {s1 with heap:=s1.heap.push {cls:= .type "range",data:= .fields #[.int 0 s1.toks,.int (n:Int) t,.int 1 (s1.toks+1)] },toks:=s1.toks+1+1}:=by
   have I0:Inv X g σ H1 {s1 with heap:=s1.heap.push {cls:= .type "range",data:= .fields #[.int 0 s1.toks,.int (n:Int) t,.int 1 (s1.toks+1)] },toks:=s1.toks+1+1}:=I1.kept λb o e=>bKR _ e;refine I0.pins_of λq hq=>?_;rcases bKW.mp hq with rfl|hq
   ·exact⟨bYg _ rfl,fR.1,fR.2.1,fR.2.2.1,λv z=>by cases z⟩
   ·exact I0.pin q (bYa _ hq)
  obtain⟨cl,c1,c2,c4⟩:=aJd S I2;refine kws_cons (PySem.W.kla_eval b9 ?_);rw[hq];refine bQM I2 c1 a9 C hB hT λq c' a7 H' s' I3 g9 f8 b3 d6 b5=>?_;refine kws_cons (Constant_bool (kws_nil ?_));show bKV _ _ (call (.builtin "sorted") [.ref s1.heap.objs.size] [(cX9 "key",.ref q),(cX9 "reverse",.bool b)]) _ _ s';have a3:IsRange s'.heap s1.heap.objs.size 0 n 1 s1.toks t (s1.toks+1):=(I3.pin _ (bYa _ (bK2 ..))).1;have I4:Inv X g σ H' s':=I3.pins_of λp G=>I3.pin p (bYa _ (bKY _ G));refine Stree.aZJ hr.hd a3 hn (ksk_s2 _ _ _) (λx=>ksk_l2 _ _ _) (λx=>ksk_t2 q x b) λa O tk vs hk a1 ha hI=>?_;have a0:vs.length=n:=by rw[hI.length];simp
  have I5:Inv X g σ H' {s' with heap:=O,toks:=tk}:=I4.kept hk;have Z:=I4.fpOk (b:=a) a1 (I4.hok.fresh a1);have c7:a<O.objs.size:=bK1 ha;have b4:s'.heap.objs.size<=O.objs.size+1:=bYo a1 (cXo (bYU c7));have U:=I4.fpOk (b:=O.objs.size+1) b4 (I4.hok.fresh b4);refine Stree.bWw (s:={s' with heap:=O,toks:=tk}) ha (by rw[a0];exact hn) (λe1 w M=>∃ (D:Hp)(e:Nat),Inv X ((a,bYB "list" #[] e1)::(O.objs.size+1,bYB "list" w.toArray e)::g) σ D M/\x2 H' D/\qU lpos qual P D/\bZX D kz w) ?h0 ?hget ?hcall ?hend;case h0=>
   intro e1 h2 k2 a2 q2;have I6:Inv X g σ H' {s' with heap:=h2,toks:=tk}:=I5.turned (t':=tk) (h':=h2) (λb o hb e=>k2 b o hb e) Z.1 Z.2.1 Z.2.2.2.1 Z.2.2.2.2.1 Z.2.2.2.2.2;refine⟨H',0,I6.pins_of λp G=>?_,x2.refl _,d6,λi v B=>by simp at B⟩;rcases bKW.mp G with rfl|G
   ·exact⟨a2,Z.1,Z.2.1,Z.2.2.1,λv z=>by cases z⟩
   ·rcases bKW.mp G with rfl|G
    ·exact⟨q2,U.1,U.2.1,U.2.2.1,λv z=>by cases z⟩
    ·exact I6.pin p (bYa _ G)
  case hget=>
   rintro e1 w M ⟨D,e,J,_,_,_⟩;exact⟨⟨e,(J.pin _ (bYa _ (bKY _ (bK2 ..)))).1⟩,(J.pin _ (bYa _ (bK2 ..))).1⟩
  case hcall=>
   rintro e1 w M v ⟨D,e,J,k3,t3,z3⟩ B;have F:w.length<n:=by
    rcases cXL w.length vs.length with h|h
    ·omega
    ·rw[bYl h]at B;cases B
   obtain⟨t',rfl⟩:∃t',v=Value.int (w.length:Nat) t':=by
    have r:=uS hI;have e3:((((bK0 n).map Int.ofNat)).map V.int)[w.length]? =some (V.int (w.length:Nat)):=by simp[F]
    obtain⟨u,hu,ru⟩:=r.get e3;rw[B]at hu;cases hu;exact ru
   have d4:M.heap.get? q=some (cQW "<lambda>" qual params body sc cl ((X.mg "__name__").getD .none) c' a7):=(J.hok q _ (k3.ext f8)).1;have c9:M.heap.CodeRec (.ref c') qual:=(J.hok c' _ (k3.ext b3)).1;refine bYN (bQL (A:=X.A.in1.in1) J I.ok.frames hr.hd (by have:=hr.dp;show X.A.depth<_;omega) S f9 b8 c2 c4 d4 c9 (λu=>hb cl _ _ _ u) (λA L cd s H=>a8 A L q cd cl s H) (v:= .int (w.length:Nat)) ⟨t',rfl⟩ (Q:=λv Y=>∃a4,v= .ref a4/\x2 D Y/\Y P=D P/\Y a4=some (.tup [.int (kz w.length).1,.int (kz w.length).2])) (hkey w.length D F (b5.trans k3) t3 _ λa4 Y k4 p4 e4=>⟨a4,rfl,k4,p4,e4⟩)) (λkv s4 e9=>?_) λ_ _ x=>x;obtain⟨v4,Y,J4,d5,a4,rfl,k4,p4,e4⟩:=e9;cases d5;refine⟨⟨e,(J4.pin _ (bYa _ (bKY _ (bK2 ..)))).1⟩,λh5 c5 sb f0=>?_⟩;have e8:Inv X g σ Y s4:=J4.pins_of λp G=>J4.pin p (bYa _ (bKY _ (bKY _ G)));have pa:=J4.pin _ (bYa _ (bK2 ..));have pk:=J4.pin _ (bYa _ (bKY _ (bK2 ..)));have J5:Inv X g σ Y {s4 with heap:=h5,toks:=s4.toks}:=e8.turned (t':=s4.toks) (h':=h5) (it:=O.objs.size+1) (λb o hb e=>(sb.2 b hb).trans e) pk.2.1 U.2.1 U.2.2.2.1 U.2.2.2.2.1 U.2.2.2.2.2;refine⟨Y,c5,J5.pins_of λp G=>?_,k3.trans k4,t3.keep k4 p4,λi v B=>?_⟩
   ·rcases bKW.mp G with rfl|G
    ·exact⟨(sb.2 _ (bYb (bYU c7))).trans pa.1,pa.2⟩
    ·rcases bKW.mp G with rfl|G
     ·exact⟨f0,pk.2.1,U.2.1,U.2.2.1,λv z=>by cases z⟩
     ·exact J5.pin p (bYa _ G)
   ·by_cases d9:i<w.length
    ·rw[bYA d9]at B;obtain⟨a6,e6,h6⟩:=z3 i v B;exact⟨a6,e6,k4.tup h6⟩
    ·rw[bYc (by omega)]at B;have:i - w.length=0:=by
      rcases cXL (i - w.length) 1 with h|h
      ·omega
      ·rw[bYl (by simpa using h)]at B;cases B
     have ei:i=w.length:=by omega
     subst ei;simp at B;exact⟨a4,B.symm,e4⟩
  case hend=>
   rintro e1 w M ⟨D,e,J,k3,t3,z3⟩ hl;have J':Inv X g σ D M:=J.pins_of λp G=>J.pin p (bYa _ (bKY _ (bKY _ G)));have c8:w.length=n:=by omega
   obtain⟨r,d8,b6⟩:=Stree.aJx (n:=n) (λi j=>Stree.zV (kz (ixb b n i)) (kz (ixb b n j))) (λi _=>Stree.wK _) (λi j k _ _ _ O h2=>Stree.aXm O h2)
    (λi j F hj e5=>Stree.aXl λz=>e5 (bJl F hj (hinj _ _ (aZe F) (aZe hj) z)))
   have ob:∀i,i<n->∃a o t1 t2 m,w.getD i Value.none= .ref a/\M.heap.get? a=some o/\o.cls= .type "tuple"/\o.data= .seq #[.int (kz i).1 t1,.int (kz i).2 t2] m:=λi F=>by obtain⟨a6,e6,h6⟩:=z3 i (w.getD i Value.none) (by simp[bYz,bKM (show i<w.length by omega)]);obtain⟨g8,rv,pl,_⟩:=J'.tuple (SqT.of h6);obtain⟨u1,u2,rfl,r1,r2⟩:=xS.two rv;obtain⟨t1,rfl⟩:=r1;obtain⟨t2,rfl⟩:=r2;obtain⟨o,g1,g2,m,g3⟩:=pl;exact⟨a6,o,t1,t2,m,e6,g1,g2,g3⟩
   refine⟨r,by rw[a0];exact d8,λ_=>⟨tuples' true,λQ' f5=>?_,λi j C' F hj hC=>?_⟩,λp h5 c5 c6 a5 g7 k5 g5 o5=>?_⟩
   ·have b7:∀ (l:List bKN)(k:Nat),(∀ (i:Nat)(v:bKN),l[i]? =some v->∃a o t1 t2 m x y,v=Value.ref a/\M.heap.get? a=some o/\o.cls= .type "tuple"/\o.data= .seq #[.int x t1,.int y t2] m)->
      ∃fs,cJa M.heap l fs/\fs.length=l.length/\∀f∈fs,∃x t,f=Value.int x t:=by
     intro l
     induction l with
     |nil=>intro _ _;exact⟨[],trivial,rfl,λf hf=>by cases hf⟩
     |cons v l ih=>
      intro k B;obtain⟨a,o,t1,t2,m,x,y,rfl,g1,g2,g3⟩:=B 0 v rfl;obtain⟨fs,f1,f2,f3⟩:=ih (k+1) λi v h=>B (i+1) v h;refine⟨.int x t1::fs,cZv g1 g2 g3 rfl f1,by simp[f2],λf hf=>?_⟩;rcases bKW.mp hf with rfl|hf
      ·exact⟨x,t1,rfl⟩
      ·exact f3 f hf
    obtain⟨fs,f1,f2,f3⟩:=b7 w 0 λi v B=>by
     have F:i<n:=by
      rcases cXL i w.length with h|h
      ·omega
      ·rw[bYl h]at B;cases B
     obtain⟨a,o,t1,t2,m,g0,g1,g2,g3⟩:=ob i F;have:w.getD i Value.none=v:=by simp[bYz,B]
     rw[this]at g0;exact⟨a,o,t1,t2,m,_,_,g0,g1,g2,g3⟩
    refine PySem.W.kat_kind (T:= .type "int") f1 (by omega) (λv B=>?_) rfl f5;obtain⟨x,t,rfl⟩:=f3 v B;exact .now
   ·rw[a0]at F hj;obtain⟨ai,oi,t1,t2,m1,g0,g1,g2,g3⟩:=ob _ (aZe (b:=b) F);obtain⟨aj,oj,t3,t4,m2,d0,d1,d2,d3⟩:=ob _ (aZe (b:=b) hj);show bKV _ _ (keyLt' _ ((bYZ b w).getD i Value.none) ((bYZ b w).getD j Value.none)) _ _ _;rw[aXv c8 F,aXv c8 hj,g0,d0];refine Stree.aKL g1 g3 d1 d3 ?_;have:=b6 i j F hj;rw[this]at hC;exact hC
   ·rw[a0]at a5;obtain⟨q1,q2⟩:=bWd a5 g7 b6;have hm:∀i∈p,i<n:=λi F=>bYj.mp (a5.mem_iff.mp F);have vv:∀l:List Nat,(∀i∈l,i<n)->xS ((l.map (ixb b n)).map λi=>V.int (i:Nat)) (l.map λi=>(bYZ b vs).getD i Value.none):=by
     intro l;induction l with
     |nil=>intro _;exact .nil
     |cons i l ih=>
      intro h;refine .cons ?_ (ih λj hj=>h j (bKY _ hj));have F:=h i bK2;show zC (V.int (ixb b n i:Nat)) ((bYZ b vs).getD i Value.none);rw[aXv a0 F];have hx:=aZe (b:=b) F;have e3:((((bK0 n).map Int.ofNat)).map V.int)[ixb b n i]? =some (V.int (ixb b n i:Nat)):=by simp[hx]
      obtain⟨u,hu,ru⟩:=(uS hI).get e3;have:vs.getD (ixb b n i) Value.none=u:=by simp[bYz,hu]
      rw[this];exact ru
    have v2:=vv p hm;have v3:xS ((bYZ b (p.map (ixb b n))).map λi=>V.int (i:Nat)) (bYZ b (p.map λi=>(bYZ b vs).getD i Value.none)):=by
     unfold bYZ at v2 ⊢;split
     ·rw[List.map_reverse];rename_i b0;simp only[b0]at v2 ⊢;exact v2.reverse
     ·rename_i b0;simp only[b0]at v2 ⊢;exact v2
    have na:D a=none:=(J.pin _ (bYa _ (bK2 ..))).2.1;have nk:D (O.objs.size+1)=none:=(J.pin _ (bYa _ (bKY _ (bK2 ..)))).2.1;have c3:(bYZ b (p.map (ixb b n))).length=n:=by rw[q1.length_eq,bYD]
    have e7:Inv X g σ (upd D a (.lst ((bYZ b (p.map (ixb b n))).map λi=>V.int (i:Nat)))) {M with heap:=h5,gens:=M.gens,drawn:=M.drawn,toks:=M.toks}:=by
     have K:∀d,d∉ [a,O.objs.size+1]->d≠a/\d≠O.objs.size+1:=λd E=>⟨λz=>E (by simp[z]),λz=>E (by simp[z])⟩;refine J'.step (ch:= [a,O.objs.size+1]) (λd E=>?_) (λd o _ _ E e _=>?_) (λd o _ _ E e _=>?_) (λd o E e n=>?_) (λd o E e=>?_) (λd xs e=>?_) (λd o u e=>?_) (λd qs e=>?_) (λm f6=>?_) (λd u e=>?_) J'.bare
     ·rcases bKW.mp E with rfl|E
      ·exact⟨Z.2.2.2.1,Z.2.1,Z.2.2.2.2.1,Z.2.2.2.2.2⟩
      ·rw[bK4.mp E];exact⟨U.2.2.2.1,U.2.1,U.2.2.2.2.1,U.2.2.2.2.2⟩
     ·exact(k5 d (K d E).1 (K d E).2).trans e
     ·exact⟨o.slots,(k5 d (K d E).1 (K d E).2).trans e⟩
     ·rw[yI (K d E).1];exact n
     ·exact⟨o,(k5 d (K d E).1 (K d E).2).trans e⟩
     ·rw[yI (yJ e na)];exact e
     ·rw[yI (yJ e na)];exact e
     ·exact⟨#[],by rw[yI (yJ e na),e];simp⟩
     ·obtain⟨o,es,ep,ho,r⟩:=f6;exact⟨o,es,ep,(k5 _ (bYv Z.2.1) (bYv U.2.1)).trans ho,r⟩
     ·by_cases E:d=a
      ·subst E;rw[yB]at e;cases e;exact⟨by rw[bKT,c3,bYm];omega,_,c6,v3,o5⟩
      ·rw[yI E]at e;refine(J'.hok d u e).stay (λc v hc q=>?_) (λc q=>by rw[yI (yJ q na)];exact q) λc xs q=>by rw[yI (yJ q na)];exact q
       have b3:c≠a:=by
        rcases hc with rfl|hc
        ·exact E
        ·exact yJ hc na
       have e0:c≠O.objs.size+1:=by
        rcases hc with rfl|hc
        ·exact yJ e nk
        ·exact yJ hc nk
       exact(k5 c b3 e0).trans q
    have c0:=yG na (.lst ((bYZ b (p.map (ixb b n))).map λi=>V.int (i:Nat)));have hP:upd D a (.lst ((bYZ b (p.map (ixb b n))).map λi=>V.int (i:Nat))) P=D P:=by
     rcases t3 with t|⟨_,t,_⟩
     ·rw[yI (yJ t na)]
     ·rw[yI (yJ t na)]
    have nl:H1 a=none:=by
     cases hz:H1 a with
     |none=>rfl
     |some o=>exact absurd (I1.hok.lt hz) (Nat.not_lt.mpr (bYo (cXo (bK1 a3)) a1))
    exact⟨rfl,.ref a,_,e7,rfl,hfin _ a _ (b5.trans (k3.trans c0.t)) (t3.keep c0.t hP) nl q1 q2 yB⟩
end
end L2
namespace Stree
open PySem PySem.W PySem.Calls PyProof.Rows
open PySem.SeqAt
open PySem.AutoSeq1 (wpAny_loadPart')
open PySem.MeetsSeq PySem.MeetsSeq2 PySem.MeetsSeq3
def X8{α:Type} [DecidableEq α] (lt:α->α->Bool):List α->List α->Bool
 |[],[]=>false
 |[],_::_=>true
 |_::_,[]=>false
 |x::xs,y::ys=>if x=y then X8 lt xs ys else lt x y
theorem aKJ{α:Type} [DecidableEq α] {lt:α->α->Bool}(x y:α)(xs ys:List α):X8 lt (x::xs) (y::ys)=if x=y then X8 lt xs ys else lt x y:=rfl
theorem aZP{α:Type} [DecidableEq α] {lt:α->α->Bool}{rep:α->bKN->Prop}(l b:Nat)(items items2:Array bKN)(n T:Nat)(V F:Option Nat)(P J:Array (Option bKN))(xs ys:List α)(K:bYH rep xs items.toList)(M:bYH rep ys items2.toList): Meets (cQx.«tuple.__lt__» ⟨[.ref l,.ref b],[]⟩) (λA R s=>s.heap.get? l=some {cls:= .type "tuple",dict:=V,data:= .seq items n,slots:=P}/\s.heap.get? b=some {cls:= .type "tuple",dict:=F,data:= .seq items2 T,slots:=J}/\ (∀x y u v,rep x u->rep y v->EqAt A.in1 s u v (decide (x=y)))/\(∀x y u v,x≠y->rep x u->rep y v->∀ (prog:bK9)(w:bYf)(E:bKN->bKQ->Prop)(Q:bKN->bKQ->Prop),Q (.bool (lt x y)) s->bKV (bKX prog w) A.in1 (richCompare .Lt u v) Q E s)/\ R (.ok (.ret (.bool (X8 lt xs ys)))) s):=
 .of_wp λprog w A R s h=>by
  obtain⟨L,g,d,tk,N⟩:=s;obtain⟨hl,Y,I,C,h⟩:=h;have f2:=AutoSeq1.sub_tuple_tuple;have z1:items.size=xs.length:=by have:=K.length;simpa using this.symm
  have z2:items2.size=ys.length:=by have:=M.length;simpa using this.symm
  wp_walk using wpAny_loadPart' hl,wpAny_loadPart' Y,wpAny_forIn_list _ (λjR b H=>b.1=none/\H=⟨L,g,d,tk,N⟩/\∃ (B t:List bKN)(j i:List α),jR=B.zip t/\
   bYH rep j B/\bYH rep i t/\j.length+items2.size=i.length+items.size/\R (.ok (.ret (.bool (X8 lt j i)))) ⟨L,g,d,tk,N⟩) _
  case turn=>
   rintro⟨y,x⟩ jR b H ⟨p,rfl,B,t,j,i,m,o,k,f,hR⟩;cases o with
   |nil=>rw[List.zip_nil_left]at m;cases m
   |@cons a Z W U D r=>
    cases k with
    |nil=>rw[List.zip_nil_right]at m;cases m
    |@cons c x' S X z q=>
     rw[List.zip_cons_cons]at m;injection m with hyx hrest
     injection hyx with hy hx
     subst hy hx;rw[aKJ]at hR;simp only[bYM]at f;refine bKO (I a c _ _ D z prog w _ _ ?_);by_cases e:a=c
     ·rw[if_pos e]at hR;rw[decide_eq_true e];wp_walk;exact⟨rfl,rfl,_,_,_,_,hrest,r,q,by omega,hR⟩
     ·rw[if_neg e]at hR;rw[decide_eq_false e];have G:=C a c _ _ e D z prog w;wp_walk using G;exact⟨_,rfl,by simpa using hR⟩
  case fin=>
   rintro⟨b1,b2⟩ H ⟨p,rfl,B,t,j,i,m,o,k,f,hR⟩;simp only at p;subst p;have O:X8 lt j i=decide (items.size<items2.size):=by
    cases o with
    |nil=>
     cases k with
     |nil=>simp only[cQS]at f;exact(decide_eq_false (by omega)).symm
     |cons z hw=>simp only[cQS,bYM]at f;exact(decide_eq_true (by omega)).symm
    |cons D O=>
     cases k with
     |nil=>simp only[cQS,bYM]at f;exact(decide_eq_false (by omega)).symm
     |cons z hw=>rw[List.zip_cons_cons]at m;cases m
   rw[O]at hR;wp_walk;exact⟨_,rfl,by simpa[Builtin.Tuple.tupleCompareSizes]using hR⟩
  case h=>
   exact⟨rfl,rfl,items.toList,items2.toList,xs,ys,rfl,K,M,by omega,h⟩
section
variable {A:bYr}{s:bKQ}{α:Type} [DecidableEq α] {lt:α->α->Bool}{rep:α->bKN->Prop}{l b:Nat}{items items2:List bKN}{xs ys:List α}
def bVH(A:bYr)(s:bKQ)(u v:bKN)(c:Bool):Prop:=∀ (prog:bK9)(w:bYf)(E:bKN->bKQ->Prop)(Q:bKN->bKQ->Prop),Q (.bool c) s->bKV (bKX prog w) A (richCompare .Lt u v) Q E s
theorem bZz(hl:cXG s.heap l items.toArray)(D:cXG s.heap b items2.toArray)(r:bYH rep xs items)(B:bYH rep ys items2)(t:A.units<cLine)
  (i:∀x y u v,rep x u->rep y v->EqAt A.in1 s u v (decide (x=y))) (e:∀x y u v,x≠y->rep x u->rep y v->bVH A.in1 s u v (lt x y)):bVH A s (.ref l) (.ref b) (X8 lt xs ys):=λprog w E Q h=>by
 obtain⟨⟨cls,C,data,q⟩,m,p,n,k⟩:=id hl
 obtain⟨⟨o,g,f,j⟩,d,a,z,c⟩:=id D
 simp only at p k a c
 subst p k a c
 exact richCompare_meets_room (op:= .Lt) ⟨_,m,rfl⟩ ⟨_,d,rfl⟩ PySem.F.slot_tuple_lt PySem.F.entry_tuple_lt (PySem.F.args_tuple_lt_2 _ _) (aZP (lt:=lt) l b items.toArray items2.toArray n z C g q j xs ys r B)
  ⟨m,d,i,e,show Value.bool (X8 lt xs ys)≠Value.notImplemented/\Q (.bool (X8 lt xs ys)) s from⟨(λx=>nomatch x),h⟩⟩ t
theorem bVN:∀ {xs ys:List α},((bK0 (min xs.length ys.length)).all (λj=>decide (xs[j]? =ys[j]?)) && xs.length==ys.length)=decide (xs=ys):=by
 intro xs ys;rw[Bool.eq_iff_iff];simp only[Bool.and_eq_true,cXS,bYj,decide_eq_true_eq,beq_iff_eq];constructor
 ·rintro⟨a,b⟩;apply cQ0;intro i;by_cases c:i<xs.length
  ·exact a i (by omega)
  ·rw[bYl (by omega),bYl (by omega)]
 ·rintro rfl;exact⟨λ_ _=>rfl,rfl⟩
theorem Y4{rep:α->bKN->Prop}:∀ {xs:List α} {us:List bKN} {i:Nat} {u:bKN},bYH rep xs us->us[i]? =some u->∃x,xs[i]? =some x/\rep x u
 |_,_,0,_,.cons r _,h=>by simp at h;subst h;exact⟨_,rfl,r⟩
 |_,_,i+1,_,.cons _ t,h=>by simpa using Y4 (i:=i) t (by simpa using h)
 |_,_,i,_,.nil,h=>by simp at h
theorem Y3{rep:α->bKN->Prop}(a:∀x y u,rep x u->rep y u->x=y):∀ {xs ys:List α} {us:List bKN},bYH rep xs us->bYH rep ys us->xs=ys
 |_,_,_,.nil,.nil=>rfl
 |_,_,_,.cons r t,.cons r' t'=>by rw[a _ _ _ r r',Y3 a t t']
theorem bZu(hl:cXG s.heap l items.toArray)(m:cXG s.heap b items2.toArray)(c:bYH rep xs items)(f:bYH rep ys items2)(t:A.units<cLine)(F:∀x y u,rep x u->rep y u->x=y) (g:∀x y u v,rep x u->rep y v->EqAt A.in1 s u v (decide (x=y))):EqAt A s (.ref l) (.ref b) (decide (xs=ys)):=by
 by_cases e:l=b
 ·subst e;obtain⟨o,a,_,n,h⟩:=hl;obtain⟨G,i,_,H,k⟩:=m;rw[a]at i;cases i;rw[h]at k;have d:items=items2:=by
   have:items.toArray=items2.toArray:=by injection k
   simpa using congrArg Array.toList this
  subst d;rw[decide_eq_true (Y3 F c f)];exact EqAt.same _
 ·refine EqAt.of_refs e ?_;have z:=RcAt.tuples (A:=A) (s:=s) (e:=λj=>decide (xs[j]? =ys[j]?)) (show s.heap.IsTuple l items.toArray from hl) (show s.heap.IsTuple b items2.toArray from m) t λj a h=>?_
  ·have C:items.toArray.size=xs.length:=by rw[bK6];exact c.length.symm
   have d:items2.toArray.size=ys.length:=by rw[bK6];exact f.length.symm
   rw[C,d,bVN]at z;exact z
  ·have r:items[j]? =some items[j]:=bKM (by simpa using a);have B:items2[j]? =some items2[j]:=bKM (by simpa using h);obtain⟨x,E,p⟩:=Y4 c r;obtain⟨y,w,D⟩:=Y4 f B;have q:=g x y _ _ p D;show EqAt A.in1 s items[j] items2[j] (decide (xs[j]? =ys[j]?));rw[E,w];have:decide (some x=some y)=decide (x=y):=by simp
   rw[this];exact q
end
def bJU(i:Int)(u:bKN):Prop:=∃t,u= .int i t
def rep2(h:Heap)(p:Int×Int)(u:bKN):Prop:=∃a b,u= .ref a/\cXG h a b.toArray/\bYH bJU [p.1,p.2] b
def rep3(h:Heap)(c:List (Int×Int))(u:bKN):Prop:=∃a b,u= .ref a/\cXG h a b.toArray/\bYH (rep2 h) c b
theorem aVn(x y:Int)(u:bKN)(a:bJU x u)(b:bJU y u):x=y:=by
 obtain⟨t,rfl⟩:=a;obtain⟨c,e⟩:=b;cases e;rfl
theorem bZd{h:Heap}{a:Nat}{i j:List bKN}(d:cXG h a i.toArray)(f:cXG h a j.toArray):i=j:=by
 obtain⟨o,g,_,n,e⟩:=d;obtain⟨l,c,_,k,b⟩:=f;rw[g]at c;cases c;rw[e]at b;have:i.toArray=j.toArray:=by injection b
 simpa using congrArg Array.toList this
theorem bXz{h:Heap}(x y:Int×Int)(u:bKN)(d:rep2 h x u)(f:rep2 h y u):x=y:=by
 obtain⟨a,i,rfl,g,b⟩:=d;obtain⟨l,j,e,k,c⟩:=f;cases e;rw[bZd g k]at b;have:=Y3 aVn b c;injection this with e1 e2;injection e2 with e2 _;exact Prod.ext e1 e2
section
variable {A:bYr}{s:bKQ}
theorem eq1(x y:Int)(u v:bKN)(b:bJU x u)(c:bJU y v):EqAt A s u v (decide (x=y)):=by
 obtain⟨t,rfl⟩:=b;obtain⟨a,rfl⟩:=c;have:decide (x=y)=(x==y):=by rw[Bool.eq_iff_iff];simp
 rw[this];exact EqAt.int_int x t y a
theorem lt1(x y:Int)(u v:bKN)(b:x≠y)(c:bJU x u)(d:bJU y v):bVH A s u v (decide (x<y)):=by
 obtain⟨t,rfl⟩:=c;obtain⟨a,rfl⟩:=d;exact λprog w E Q h=>HT.bXy A s x t y a prog w E Q h
theorem eq2(l:A.units<cLine)(x y:Int×Int)(u v:bKN)(d:rep2 s.heap x u)(f:rep2 s.heap y v):EqAt A s u v (decide (x=y)):=by
 obtain⟨a,i,rfl,h,g⟩:=d;obtain⟨b,j,rfl,k,c⟩:=f;have z:=bZu h k g c l aVn λx y u v=>eq1 x y u v;have:decide ([x.1,x.2]= [y.1,y.2])=decide (x=y):=by
  rw[Bool.eq_iff_iff,decide_eq_true_eq,decide_eq_true_eq];constructor
  ·intro e;injection e with e1 e2;injection e2 with e2 _;exact Prod.ext e1 e2
  ·rintro rfl;rfl
 rw[this]at z;exact z
theorem aKI(x y:Int×Int):X8 (λa b:Int=>decide (a<b)) [x.1,x.2] [y.1,y.2]=zV x y:=by
 unfold zV X8 X8 X8;by_cases c:x.1=y.1
 ·by_cases d:x.2=y.2<;> simp[c,d]
 ·simp[c]
theorem lt2(l:A.units<cLine)(x y:Int×Int)(u v:bKN)(d:x≠y)(e:rep2 s.heap x u)(f:rep2 s.heap y v):bVH A s u v (zV x y):=by
 obtain⟨a,i,rfl,h,g⟩:=e;obtain⟨b,j,rfl,k,c⟩:=f;have z:=bZz (lt:=λa b:Int=>decide (a<b)) h k g c l (λx y u v=>eq1 x y u v) (λx y u v=>lt1 x y u v);rw[aKI]at z;exact z
theorem eq3(k:A.units+1<cLine)(x y:List (Int×Int))(u v:bKN)(d:rep3 s.heap x u)(e:rep3 s.heap y v):EqAt A s u v (decide (x=y)):=by
 obtain⟨a,i,rfl,g,f⟩:=d;obtain⟨b,j,rfl,h,c⟩:=e;exact bZu g h f c (by omega) bXz λx y u v=>eq2 (A:=A.in1) k x y u v
theorem lt3(c:A.units+1<cLine)(x y:List (Int×Int))(u v:bKN)(e:x≠y)(f:rep3 s.heap x u)(g:rep3 s.heap y v):bVH A s u v (X8 zV x y):=by
 obtain⟨a,i,rfl,k,h⟩:=f;obtain⟨b,j,rfl,l,d⟩:=g;exact bZz k l h d (by omega) (λx y u v=>eq2 (A:=A.in1) c x y u v) (λx y u v=>lt2 (A:=A.in1) c x y u v)
end
section
variable {prog:bK9}{w:bYf}{A:bYr}{E:bKN->bKQ->Prop}{s:bKQ}
theorem bJp{x y:Nat}{m g:Obj}{n k:Nat}{u v:bKN}{a c:List (Int×Int)}{i j:Int}{t q:Tok}{Q:Bool->bKQ->Prop}(f:A.units+1<cLine)(z:s.heap.get? x=some m)(dx:m.data= .seq #[u,.int i t] n)(r:s.heap.get? y=some g)(o:g.data= .seq #[v,.int j q] k) (d:rep3 s.heap a u) (l:rep3 s.heap c v) (b:a=c->i=j) (h:Q (decide (a≠c) && X8 zV a c) s):bKV (bKX prog w) A (keyLt' (tuples' false) (.ref x) (.ref y)) Q E s:=by
 refine kat_lt z dx r o ?_;refine kat_cons (eq3 f a c u v d l prog w _ _ ?_);by_cases e:a=c
 ·rw[decide_eq_true e];refine kat_yes (kat_cons (aZ5 ?_));rw[beq_iff_eq.mpr (b e)];refine kat_yes (kat_nil ?_);simpa[e]using h
 ·rw[decide_eq_false e];have p:Q (X8 zV a c) s:=by simpa[e]using h
  exact kat_no (kat_one _ _ (lt3 f a c u v e d l prog w _ _ p))
theorem aZH{a:Nat}{vs:List bKN}{P:PySem.Fin->bKQ->Prop}{n0:Nat}(J:s.heap.get? a=some (bYB "list" vs.toArray n0))(S:vs.length<64)(r:Nat->Int)(W:Inj vs.length r) (z:2<=vs.length->∃κ,∀f,(∀c o,c≠a->s.heap.get? c=some o->f.get? c=some o)->(∀Q:SortKind->bKQ->Prop,Q κ {s with heap:=f}->bKV (bKX prog w) A (keyKind' vs.toArray) Q (λ_ _=>False) {s with heap:=f})/\ ∀i j C,i<vs.length->j<vs.length->C (decide (r i<r j)) {s with heap:=f}->kas_ask prog w A κ vs i j C {s with heap:=f}) (B:∀ (p:List Nat) f c,p.Perm (bK0 vs.length)->p.Pairwise (λi j=>r i<r j)->(∀d o,d≠a->s.heap.get? d=some o->f.get? d=some o)->f.get? a=some (bYB "list" (p.map λi=>vs.getD i Value.none).toArray c)->P (.done (.ret .none)) {s with heap:=f}): bKV (bKX prog w) A (cQx.«list.sort» ⟨[.ref a],[]⟩) P E s:=by
 have ha:a<s.heap.objs.size:=bK1 J;obtain⟨t,y⟩:∃t,(s.heap.update a (bYE λ_=>(#[]:Array bKN))).get? a=some (bYB "list" #[] t):=⟨_,cXB J λ_=> #[]⟩;rw[list_sort_plain];refine bKO (listItems_at J rfl ?_);refine bKO (cXZ J rfl ?_ (by rw[bK6,bYm];omega) (bYJ _));refine bKO (seqEpoch_at y rfl ?_);refine bKO (wpAny_newTuple ?_ (by show vs.length<=_;rw[bYm];omega));refine bKO (cX2 ?_ (bYJ _));refine bY5 ?_;have O:∀c o,c≠a->s.heap.get? c=some o->(((s.heap.update a (bYE λ_=>(#[]:Array bKN))).push (bYB "tuple" vs.toArray 0)).push (bYB "list" #[] 0)).get? c=some o:=λc o hc e=>
  bKR _ (bKR _ ((bYk _ _ (bYv hc)).trans e))
 have H:(((s.heap.update a (bYE λ_=>(#[]:Array bKN))).push (bYB "tuple" vs.toArray 0)).push (bYB "list" #[] 0)).get? a=some (bYB "list" #[] t):=bKR _ (bKR _ y);show bKV (bKX prog w) A _ P E {s with heap:=((s.heap.update a (bYE λ_=>(#[]:Array bKN))).push (bYB "tuple" vs.toArray 0)).push (bYB "list" #[] 0) };generalize ((s.heap.update a (bYE λ_=>(#[]:Array bKN))).push (bYB "tuple" vs.toArray 0)).push (bYB "list" #[] 0)=h1 at O H ⊢;dsimp only;have l:∀ (u:SortSt)(p:List Nat),p.Perm (bK0 vs.length)->p.Pairwise (λi j=>r i<r j)->(arrOf u).map (·.2)=bYT (p.map λi=>vs.getD i Value.none)->failedOf u=none->
   bKV (bKX prog w) A (do
    let b:=(<- seqEpoch a) !=t
    Builtin.List.listUpdate (.ref a) λ_=>(arrOf u).map (·.2)
    if let some e:=failedOf u then rule "list.sort.comparison-raised";throw e
    if b then rule "list.sort.modified";raiseError "ValueError" "list modified during sort"
    ret .none) P E {s with heap:=h1}:=by
  intro u p g n G U
  have R:p.length=vs.length:=by rw[g.length_eq,bYD]
  rw[G]
  obtain⟨N,L⟩:∃N,(h1.update a (bYE λ_=>bYT (p.map λi=>vs.getD i Value.none))).get? a=some (bYB "list" (bYT (p.map λi=>vs.getD i Value.none)) N):=⟨_,cXB H λ_=>bYT (p.map λi=>vs.getD i Value.none)⟩
  have M:(bYT (p.map λi=>vs.getD i Value.none)).size=vs.length:=by rw[bK6,bKT,R]
  refine bKO (seqEpoch_at H rfl ?_)
  refine bKO (cXZ H rfl ?_ (bYJ _) (bYo (cXn M) (by rw[bYm];omega)))
  rw[U]
  simp only[bne_self_eq_false,Bool.false_eq_true,if_false]
  exact bKS (B p _ N g n (λd o V e=>(bYk _ _ (bYv V)).trans (O d o V e)) L)
 by_cases q:vs.toArray.size<2
 ·rw[if_pos q,if_pos q];refine bKO (bKS ?_);refine bKO (bKS ?_);have m:vs.length<2:=by rw[bK6]at q;exact q
  refine l (SortSt.mk' general' (vs.toArray.zip vs.toArray) #[] 7 none) (bK0 vs.length) (List.Perm.refl _) ?_ ?_ rfl
  ·rw[cXg];intro i j I hj a0;rw[bYD]at I hj;omega
  ·show((bYT vs).zip (bYT vs)).map (·.2)=_;apply Array.toList_inj.mp;rw[Array.toList_map,Array.toList_zip];simp only[cZE];have t:(List.zip vs vs).map (·.2)=vs:=List.map_snd_zip (bKU _);rw[t];apply cQ0;intro i;rw[bK7];by_cases I:i<vs.length
   ·rw[cQM I];simp[bYz,bKM I]
   ·rw[bYl (by omega),bYl (by rw[bYD];omega)];rfl
 ·have m:2<=vs.length:=by rw[bK6]at q;omega
  rw[if_neg q,if_neg q];obtain⟨κ,hκ⟩:=z m;obtain⟨hκ,F⟩:=hκ h1 O;refine bKO (bYN (hκ (λk D=>k=κ/\D= {s with heap:=h1}) ⟨rfl,rfl⟩) (λk D Y=>?_) λ_ _ x=>x.elim);obtain⟨rfl,rfl⟩:=Y;have T:(kas_sort vs.length).kasWp (kas_ask prog w A k vs) (λp v=>v= {s with heap:=h1}/\p.toList.Perm (bK0 vs.length)/\p.toList.Pairwise (λi j=>r i<r j)) {s with heap:=h1}:=
   Asks.wp (lt:=X9 r) F (aZI W (by omega)) λp hp=>⟨rfl,hp⟩
  refine bKO (bYN (kat_run (Q:=λh v=>∃p:Array Nat,arrOf h=p.map (kas_item (vs.toArray.zip vs.toArray))/\failedOf h=none/\
    v= {s with heap:=h1}/\p.toList.Perm (bK0 vs.length)/\p.toList.Pairwise (λi j=>r i<r j))
   rfl m S (λp' h v a1 X a3 Z=>⟨p',X,a3,Z⟩) T) ?_ λ_ _ x=>x)
  rintro⟨⟨⟩,h⟩ v ⟨p,K,U,rfl,g,n⟩;dsimp only;exact l _ p.toList g n (kat_snds rfl K) U
end
end Stree
namespace Stree
open PySem PySem.W PySem.Calls PyProof.Rows
abbrev qC:=List (Int×Int)
abbrev uX:qC->qC->Bool:=X8 zV
theorem vB:∀a:qC,uX a a=false
 |[]=>rfl
 |x::r=>by show(if x=x then X8 zV r r else zV x x)=false;rw[if_pos rfl];exact vB r
theorem Y1:∀ {a b c:qC},uX a b=true->uX b c=true->uX a c=true
 |[],[],_,h,_=>by cases h
 |[],_::_,[],_,h=>by cases h
 |[],_::_,_::_,_,_=>rfl
 |_::_,[],_,h,_=>by cases h
 |_::_,_::_,[],_,h=>by cases h
 |x::a,y::b,z::c,h1,h2=>by
  have f:(if x=y then X8 zV a b else zV x y)=true:=h1;have d:(if y=z then X8 zV b c else zV y z)=true:=h2;show(if x=z then X8 zV a c else zV x z)=true;by_cases i:x=y
  ·rw[if_pos i]at f;subst i;by_cases g:x=z
   ·rw[if_pos g]at d ⊢;exact Y1 f d
   ·rw[if_neg g]at d ⊢;exact d
  ·rw[if_neg i]at f;by_cases g:y=z
   ·rw[if_pos g]at d;subst g;rw[if_neg i];exact f
   ·rw[if_neg g]at d;have j:=aXm f d;have:x≠z:=λe=>by rw[e,wK]at j;cases j
    rw[if_neg this];exact j
theorem aXn:∀ {a b:qC},a≠b->uX a b=true\/uX b a=true
 |[],[],h=>absurd rfl h
 |[],_::_,_=> .inl rfl
 |_::_,[],_=> .inr rfl
 |x::a,y::b,h=>by
  show(if x=y then X8 zV a b else zV x y)=true\/(if y=x then X8 zV b a else zV y x)=true;by_cases e:x=y
  ·subst e;rw[if_pos rfl,if_pos rfl];exact aXn λz=>h (by rw[z])
  ·rw[if_neg e,if_neg (bYv e)];exact aXl e
theorem aJ9:∀ (a:qC) {b:qC},b≠ []->uX a (a++b)=true
 |[],[],h=>absurd rfl h
 |[],_::_,_=>rfl
 |x::a,b,h=>by show(if x=x then X8 zV a (a++b)else _)=true;rw[if_pos rfl];exact aJ9 a h
theorem aZl:∀ (a:qC) {x y:Int×Int} {b c:qC},zV x y=true->uX (a++x::b) (a++y::c)=true
 |[],x,y,b,c,h=>by
  show(if x=y then X8 zV b c else zV x y)=true;have:x≠y:=λe=>by rw[e,wK]at h;cases h
  rw[if_neg this];exact h
 |z::a,x,y,b,c,h=>by show(if z=z then X8 zV (a++x::b) (a++y::c)else _)=true;rw[if_pos rfl];exact aZl a h
theorem uniq{α:Type}{lt:α->α->Prop}(d:∀a,¬lt a a)(i:∀a b c,lt a b->lt b c->lt a c):∀ {l m:List α},l.Pairwise lt->m.Pairwise lt->(∀a,a∈l↔a∈m)->l=m
 |[],[],_,_,_=>rfl
 |[],y::m,_,_,h=>by have:=(h y).mpr bK2;cases this
 |x::l,[],_,_,h=>by have:=(h x).mp bK2;cases this
 |x::l,y::m,h1,h2,h=>by
  obtain⟨j,n⟩:=cQb.mp h1;obtain⟨b1,k⟩:=cQb.mp h2;have e:x=y:=by
   rcases bKW.mp ((h x).mp bK2)with e|e
   ·exact e
   ·rcases bKW.mp ((h y).mpr bK2)with g|g
    ·exact g.symm
    ·exact absurd (i _ _ _ (j y g) (b1 x e)) (d x)
  subst e;rw[uniq d i n k λa=>?_];constructor
  ·intro f;rcases bKW.mp ((h a).mp (bKY _ f))with e|e
   ·subst e;exact absurd (j a f) (d a)
   ·exact e
  ·intro f;rcases bKW.mp ((h a).mpr (bKY _ f))with e|e
   ·subst e;exact absurd (b1 a f) (d a)
   ·exact e
theorem IsTup.keep{h h':Heap}{a x:Nat}{vs its:Array bKN}{n:Nat}(f:h.get? a=some (bYB "list" vs n))(k:∀c o,c≠a->h.get? c=some o->h'.get? c=some o)(t:cXG h x its):cXG h' x its:=by
 obtain⟨o,e,c,m,d⟩:=t;refine⟨o,k x o (λz=>?_) e,c,m,d⟩;rw[z,f]at e;cases e;have b:Value.type "list"=Value.type "tuple":=c;injection b with c'';exact absurd c'' (by decide)
theorem rep2.keep{h h':Heap}{a:Nat}{vs:Array bKN}{n:Nat}(b:h.get? a=some (bYB "list" vs n))(k:∀c o,c≠a->h.get? c=some o->h'.get? c=some o){p:Int×Int}{u:bKN}(t:rep2 h p u):rep2 h' p u:=
 let ⟨x,its,e,t1,t2⟩:=t;⟨x,its,e,IsTup.keep b k t1,t2⟩
theorem rep3.keep{h h':Heap}{a:Nat}{vs:Array bKN}{n:Nat}(b:h.get? a=some (bYB "list" vs n))(k:∀c o,c≠a->h.get? c=some o->h'.get? c=some o){p:qC}{u:bKN}(t:rep3 h p u):rep3 h' p u:=
 let ⟨x,its,e,t1,t2⟩:=t;⟨x,its,e,IsTup.keep b k t1,L2.Paired.mapP t2 λ_ _ z=>rep2.keep b k z⟩
end Stree
namespace L2
open PySem PySem.Spec PyProof.Rows
open Stree (qC uX)
def bZ0(H:Hp)(p:Int×Int)(x:V):Prop:=∃c,x= .ref c/\H c=some (.tup [.int p.1,.int p.2])
def qT(H:Hp)(b:Nat)(c:qC):Prop:=∃a,H b=some (.tup a)/\bYH (bZ0 H) c a
section
variable {X:Cx}{pins:List (Nat×Obj)}{σ:St}{H:Hp}{s:bKQ}{k:Nat}
theorem aYb{α β γ:Type}{F:α->β->Prop}{G:β->γ->Prop}{K:α->γ->Prop}(h:∀a b c,F a b->G b c->K a c):∀ {l:List α} {m:List β} {n:List γ},bYH F l m->bYH G m n->bYH K l n
 |_,_,_,.nil,.nil=> .nil
 |_,_,_,.cons a r,.cons b t=> .cons (h _ _ _ a b) (aYb h r t)
theorem Inv.rep2(I:Inv X pins σ H s){p:Int×Int}{x:V}{u:bKN}(h:bZ0 H p x)(r:zC x u):Stree.rep2 s.heap p u:=by
 obtain⟨c,rfl,e⟩:=h;cases r;obtain⟨g,b,f,_⟩:=I.tuple (SqT.of e);obtain⟨i,j,rfl,d,a⟩:=xS.two b;exact⟨c,_,rfl,f,.cons d (.cons a .nil)⟩
theorem Inv.rep3(I:Inv X pins σ H s){b:Nat}{f:qC}(h:qT H b f):Stree.rep3 s.heap f (.ref b):=by
 obtain⟨j,e,z⟩:=h;obtain⟨d,g,i,_⟩:=I.tuple (SqT.of e);exact⟨b,d,rfl,i,aYb (F:=bZ0 H) (G:=zC) (K:=Stree.rep2 s.heap) (λ_ _ _ a c=>I.rep2 a c) z g⟩
theorem Z6(hr:vJ k X.A):jM X (.builtin "sorted") (λxs H Q=>∃ (p:Nat)(its:List V)(d:Nat->qC)(kn:Nat->Int),xs= [.ref p]/\H p=some (.lst its)/\its.length<64/\ (∀i j,i<its.length->j<its.length->d i=d j->i=j)/\(∀i x,its[i]? =some x->∃a b,x= .ref a/\H a=some (.tup [.ref b,.int (kn i)])/\qT H b (d i))/\ ∀l (out:List Nat),H l=none->out.Perm (bK0 its.length)->(out.Pairwise λi j=>uX (d i) (d j)=true)->Q (.ref l) (upd H l (.lst (out.map λi=>its.getD i .non)))):=by
 intro pins s σ H xs us Q I r h;obtain⟨p,its,d,kn,rfl,hp,a9,K,a3,q⟩:=h;obtain⟨u,rfl,ru⟩:=aQL r;cases ru;obtain⟨g,rv,pl,hz⟩:=I.list (SqL.of hp);have Y:g.length=its.length:=rv.length.symm;refine cX6 kind_sorted plain_sorted entry_sorted (args_sorted1 _) ?_;unfold cQx.«sorted»;refine bKO (m:=checkCount "sorted" 1 1 _) (bKS ?_);refine bKO (collect_list pl.isList ?_ (by rw[bYm];omega));refine bKO (cX2 ?_ (by rw[bYm];omega));have P:((s.heap.push (bYB "list" #[] 0)).update s.heap.objs.size (bYE (·++g.toArray))).objs.size=s.heap.objs.size+1:=by rw[Heap.size_update,size_push']
 have y:(((s.heap.push (bYB "list" #[] 0)).update s.heap.objs.size (bYE (·++g.toArray))).push (bYB "list" g.toArray 0)).get? (s.heap.objs.size+1)=some (bYB "list" g.toArray 0):=by rw[<- P];exact bYg _ rfl
 have keep:∀b o,s.heap.get? b=some o->(((s.heap.push (bYB "list" #[] 0)).update s.heap.objs.size (bYE (·++g.toArray))).push (bYB "list" g.toArray 0)).get? b=some o:=λb o q=>by have J:b<s.heap.objs.size:=bK1 q;rw[Heap.get?_push_ne _ _ _ (by rw[P];exact bYb (bYU J)),cZC _ _ _ _ (bYb J),Heap.get?_push_ne _ _ _ (bYb J)];exact q
 show bKV _ _ _ _ _ {s with heap:=((s.heap.push (bYB "list" #[] 0)).update s.heap.objs.size (bYE (·++g.toArray))).push (bYB "list" g.toArray 0) };rw[P];generalize b0:((s.heap.push (bYB "list" #[] 0)).update s.heap.objs.size (bYE (·++g.toArray))).push (bYB "list" g.toArray 0)=M at y keep ⊢;refine bKO (bY5 (cQD cZQ ⟨_,y,rfl⟩ cZI ?body (cZP _)));case body=>
  have I1:Inv X pins σ H {s with heap:=M}:=I.kept (t':=s.toks) keep;have U:s.heap.objs.size<=s.heap.objs.size+1:=cQR _;have fa:=I.fpOk (b:=s.heap.objs.size+1) U (I.hok.fresh U);obtain⟨r,a4,Z⟩:=Stree.aJx (n:=g.length) (λi j=>uX (d i) (d j)) (λi _=>Stree.vB _) (λi j k _ _ _ M E=>Stree.Y1 M E)
   (λi j B N a5=>Stree.aXn λz=>a5 (K i j (by omega) (by omega) z))
  have ob:∀i,i<g.length->∃a o u t m,g.getD i Value.none= .ref a/\M.get? a=some o/\o.cls= .type "tuple"/\o.data= .seq #[u,.int (kn i) t] m/\Stree.rep3 M (d i) u:=λi B=>by
   have C:i<its.length:=by omega
   obtain⟨a,b,e1,e2,e3⟩:=a3 i its[i] (bKM C);obtain⟨u0,S,G⟩:=rv.get (bKM C);rw[e1]at G;cases G;obtain⟨a8,rj,pj,_⟩:=I1.tuple (SqT.of e2);obtain⟨u1,u2,rfl,q1,q2⟩:=xS.two rj;cases q1;obtain⟨t,rfl⟩:=q2;obtain⟨o,F,D,m,R⟩:=pj;exact⟨a,o,_,t,m,by simp[bYz,S],F,D,R,I1.rep3 e3⟩
  refine Stree.aZH (s:={s with heap:=M}) y (by omega) r a4 (λE=>⟨tuples' false,λE k2=>⟨λQ' a6=>?_,λi j C' B N hC=>?_⟩⟩) λp h5 c5 O a7 k5 o5=>?_
  ·have kt:∀ {x:Nat} {o:Obj},M.get? x=some o->o.cls= .type "tuple"->E.get? x=some o:=λ{x o} e c=>k2 x o (λz=>by rw[z,y]at e;cases e;have c':Value.type "list"=Value.type "tuple":=c;injection c' with c'';exact absurd c'' (by decide)) e;have a0:∀ (l:List bKN),(∀ (i:Nat)(v:bKN),l[i]? =some v->∃a o u w m,v=Value.ref a/\E.get? a=some o/\o.cls= .type "tuple"/\o.data= .seq #[u,w] m/\∃c its,u= .ref c/\cXG E c its)->
     ∃fs,cJa E l fs/\fs.length=l.length/\∀f∈fs,∃c its,f=Value.ref c/\cXG E c its:=by
    intro l
    induction l with
    |nil=>intro _;exact⟨[],trivial,rfl,λf hf=>by cases hf⟩
    |cons v l ih=>
     intro L;obtain⟨a,o,u,w,m,rfl,F,D,R,c,its,rfl,g4⟩:=L 0 v rfl;obtain⟨fs,f1,f2,f3⟩:=ih λi v h=>L (i+1) v h;refine⟨.ref c::fs,cZv F D R rfl f1,by simp[f2],λf hf=>?_⟩;rcases bKW.mp hf with rfl|hf
     ·exact⟨c,its,rfl,g4⟩
     ·exact f3 f hf
   obtain⟨fs,f1,f2,f3⟩:=a0 g λi v L=>by
    have B:i<g.length:=by
     rcases cXL i g.length with h|h
     ·exact h
     ·rw[bYl h]at L;cases L
    obtain⟨a,o,u,t,m,g0,F,D,R,g4⟩:=ob i B;have:g.getD i Value.none=v:=by simp[bYz,L]
    rw[this]at g0;obtain⟨c,its,e,g5,_⟩:=g4;exact⟨a,o,u,_,m,g0,kt F D,D,R,c,_,e,Stree.IsTup.keep y k2 g5⟩
   refine PySem.W.kat_kind (T:= .type "tuple") f1 (by omega) (λv L=>?_) rfl a6;obtain⟨c,its,rfl,o,F,D,_⟩:=f3 v L;have z:PySem.W.Looks (bKX X.prog X.w) E (typeOf (.ref c)) o.cls:=(PySem.W.Looks.ld F).andThen .now;rw[D]at z;exact z
  ·obtain⟨ai,oi,ui,t1,m1,g0,F,D,R,g4⟩:=ob i B;obtain⟨aj,oj,uj,t3,m2,d0,d1,d2,d3,d4⟩:=ob j N;have kt:∀ {x:Nat} {o:Obj},M.get? x=some o->o.cls= .type "tuple"->E.get? x=some o:=λ{x o} e c=>k2 x o (λz=>by rw[z,y]at e;cases e;have c':Value.type "list"=Value.type "tuple":=c;injection c' with c'';exact absurd c'' (by decide)) e;show bKV _ _ (keyLt' _ (g.getD i Value.none) (g.getD j Value.none)) _ _ _;rw[g0,d0];refine Stree.bJp (by have:=hr.un;show X.A.units+1+1+1<cLine;omega) (kt F D) R (kt d1 d2) d3 (Stree.rep3.keep y k2 g4) (Stree.rep3.keep y k2 d4) (λz=>by rw[K i j (by omega) (by omega) z]) ?_;have e1:=Z i j B N;rw[e1]at hC;by_cases z:d i=d j
   ·have:uX (d i) (d j)=false:=by rw[z];exact Stree.vB _
    rw[this]at hC;simpa[z]using hC
   ·have:decide (d i≠d j)=true:=decide_eq_true z;rw[this,Bool.true_and];exact hC
  ·have hm:∀i∈p,i<g.length:=λi B=>bYj.mp (O.mem_iff.mp B);have vv:∀l:List Nat,(∀i∈l,i<g.length)->xS (l.map λi=>its.getD i .non) (l.map λi=>g.getD i Value.none):=by
    intro l;induction l with
    |nil=>intro _;exact .nil
    |cons i l ih=>
     intro h;refine .cons ?_ (ih λj N=>h j (bKY _ N));have B:=h i bK2;have C:i<its.length:=by omega
     obtain⟨u0,S,G⟩:=rv.get (bKM C);show zC (its.getD i .non) (g.getD i Value.none);have e1:g.getD i Value.none=u0:=by simp[bYz,S]
     have e2:its.getD i .non=its[i]:=by simp[bYz,bKM C]
     rw[e1,e2];exact G
   have v2:=vv p hm;have a1:p.Perm (bK0 its.length):=by rw[<- Y];exact O
   have J:p.length=g.length:=by rw[O.length_eq,bYD]
   have a2:p.Pairwise λi j=>uX (d i) (d j)=true:=a7.imp_of_mem λ{i j} B N h=>by have:=Z i j (hm i B) (hm j N);rw[<- this];exact decide_eq_true h
   have I5:Inv X pins σ (upd H (s.heap.objs.size+1) (.lst (p.map λi=>its.getD i .non))) {s with heap:=h5}:=
    I.laid (t':=s.toks) (λb o e=>k5 b o (bYb (bYU (bK1 e))) (keep b o e)) U ⟨by rw[bKT,bYm];omega,_,c5,v2,o5⟩
   exact⟨_,rfl,bKS ⟨_,rfl,⟨.ref _,_,I5,rfl,q _ p fa.1 a1 a2⟩⟩⟩
end
end L2
namespace L2
open PySem PySem.Spec PyProof.Rows
section
variable {X:Cx}
theorem uA:jM X (.builtin "sorted") (λxs H Q=>∃ (p:Nat)(its:List V)(g:Nat->Int×Int),xs= [.ref p]/\H p=some (.lst its)/\its.length<64/\ (∀i j,i<its.length->j<its.length->g i=g j->i=j)/\(∀i x,its[i]? =some x->∃a,x= .ref a/\H a=some (.tup [.int (g i).1,.int (g i).2]))/\ ∀l (out:List Nat),H l=none->out.Perm (bK0 its.length)->(out.Pairwise λi j=>Stree.zV (g i) (g j)=true)->Q (.ref l) (upd H l (.lst (out.map λi=>its.getD i .non)))):=by
 intro J s σ H xs us Q I r h;obtain⟨p,its,g,rfl,hp,b1,U,a5,q⟩:=h;obtain⟨u,rfl,ru⟩:=aQL r;cases ru;obtain⟨d,rv,pl,hz⟩:=I.list (SqL.of hp);have Y:d.length=its.length:=rv.length.symm;refine cX6 kind_sorted plain_sorted entry_sorted (args_sorted1 _) ?_;unfold cQx.«sorted»;refine bKO (m:=checkCount "sorted" 1 1 _) (bKS ?_);refine bKO (collect_list pl.isList ?_ (by rw[bYm];omega));refine bKO (cX2 ?_ (by rw[bYm];omega));have a1:((s.heap.push (bYB "list" #[] 0)).update s.heap.objs.size (bYE (·++d.toArray))).objs.size=s.heap.objs.size+1:=by rw[Heap.size_update,size_push']
 have w:(((s.heap.push (bYB "list" #[] 0)).update s.heap.objs.size (bYE (·++d.toArray))).push (bYB "list" d.toArray 0)).get? (s.heap.objs.size+1)=some (bYB "list" d.toArray 0):=by rw[<- a1];exact bYg _ rfl
 have keep:∀b o,s.heap.get? b=some o->(((s.heap.push (bYB "list" #[] 0)).update s.heap.objs.size (bYE (·++d.toArray))).push (bYB "list" d.toArray 0)).get? b=some o:=λb o q=>by have a2:b<s.heap.objs.size:=bK1 q;refine bKR _ ?_;exact(bYk _ _ (cXp a2)).trans (bKR _ q)
 show bKV _ _ _ _ _ {s with heap:=((s.heap.push (bYB "list" #[] 0)).update s.heap.objs.size (bYE (·++d.toArray))).push (bYB "list" d.toArray 0) };rw[a1];generalize b2:((s.heap.push (bYB "list" #[] 0)).update s.heap.objs.size (bYE (·++d.toArray))).push (bYB "list" d.toArray 0)=P at w keep ⊢;refine bKO (bY5 (cQD cZQ ⟨_,w,rfl⟩ cZI ?body (cZP _)));case body=>
  have I1:Inv X J σ H {s with heap:=P}:=I.kept (t':=s.toks) keep;have S:s.heap.objs.size<=s.heap.objs.size+1:=cQR _;have fa:=I.fpOk (b:=s.heap.objs.size+1) S (I.hok.fresh S);obtain⟨r,a6,Z⟩:=Stree.aJx (n:=d.length) (λi j=>Stree.zV (g i) (g j)) (λi _=>Stree.wK _) (λi j k _ _ _ P O=>Stree.aXm P O)
   (λi j A K a7=>Stree.aXl λz=>a7 (U i j (by omega) (by omega) z))
  have ob:∀i,i<d.length->∃a o B E m,d.getD i Value.none= .ref a/\P.get? a=some o/\o.cls= .type "tuple"/\o.data= .seq #[.int (g i).1 B,.int (g i).2 E] m:=λi A=>by
   have C:i<its.length:=by omega
   obtain⟨a,e1,e2⟩:=a5 i its[i] (bKM C);obtain⟨u0,R,D⟩:=rv.get (bKM C);rw[e1]at D;cases D;obtain⟨b0,rj,pj,_⟩:=I1.tuple (SqT.of e2);obtain⟨u1,u2,rfl,q1,q2⟩:=xS.two rj;obtain⟨B,rfl⟩:=q1;obtain⟨E,rfl⟩:=q2;obtain⟨o,N,G,m,M⟩:=pj;exact⟨a,o,B,E,m,by simp[bYz,R],N,G,M⟩
  refine Stree.aZH (s:={s with heap:=P}) w (by omega) r a6 (λO=>⟨tuples' true,λO k2=>⟨λQ' a8=>?_,λi j C' A K hC=>?_⟩⟩) λp h5 c5 L a9 k5 o5=>?_
  ·have kt:∀ {x:Nat} {o:Obj},P.get? x=some o->o.cls= .type "tuple"->O.get? x=some o:=λ{x o} e c=>k2 x o (λz=>by rw[z,w]at e;cases e;have c':Value.type "list"=Value.type "tuple":=c;injection c' with c'';exact absurd c'' (by decide)) e;have a0:∀ (l:List bKN),(∀ (i:Nat)(v:bKN),l[i]? =some v->∃a o B E m x y,v=Value.ref a/\O.get? a=some o/\o.cls= .type "tuple"/\o.data= .seq #[.int x B,.int y E] m)->
     ∃fs,cJa O l fs/\fs.length=l.length/\∀f∈fs,∃x t,f=Value.int x t:=by
    intro l
    induction l with
    |nil=>intro _;exact⟨[],trivial,rfl,λf hf=>by cases hf⟩
    |cons v l ih=>
     intro F;obtain⟨a,o,B,E,m,x,y,rfl,N,G,M⟩:=F 0 v rfl;obtain⟨fs,f1,f2,f3⟩:=ih λi v h=>F (i+1) v h;refine⟨.int x B::fs,cZv N G M rfl f1,by simp[f2],λf hf=>?_⟩;rcases bKW.mp hf with rfl|hf
     ·exact⟨x,B,rfl⟩
     ·exact f3 f hf
   obtain⟨fs,f1,f2,f3⟩:=a0 d λi v F=>by
    have A:i<d.length:=by
     rcases cXL i d.length with h|h
     ·exact h
     ·rw[bYl h]at F;cases F
    obtain⟨a,o,B,E,m,g0,N,G,M⟩:=ob i A;have:d.getD i Value.none=v:=by simp[bYz,F]
    rw[this]at g0;exact⟨a,o,B,E,m,_,_,g0,kt N G,G,M⟩
   refine PySem.W.kat_kind (T:= .type "int") f1 (by omega) (λv F=>?_) rfl a8;obtain⟨x,t,rfl⟩:=f3 v F;exact .now
  ·obtain⟨ai,oi,B,E,m1,g0,N,G,M⟩:=ob i A;obtain⟨aj,oj,t3,t4,m2,d0,d1,d2,d3⟩:=ob j K;have kt:∀ {x:Nat} {o:Obj},P.get? x=some o->o.cls= .type "tuple"->O.get? x=some o:=λ{x o} e c=>k2 x o (λz=>by rw[z,w]at e;cases e;have c':Value.type "list"=Value.type "tuple":=c;injection c' with c'';exact absurd c'' (by decide)) e;show bKV _ _ (keyLt' _ (d.getD i Value.none) (d.getD j Value.none)) _ _ _;rw[g0,d0];refine Stree.aKL (kt N G) M (kt d1 d2) d3 ?_;have e1:=Z i j A K;rw[e1]at hC;exact hC
  ·have hm:∀i∈p,i<d.length:=λi A=>bYj.mp (L.mem_iff.mp A);have vv:∀l:List Nat,(∀i∈l,i<d.length)->xS (l.map λi=>its.getD i .non) (l.map λi=>d.getD i Value.none):=by
    intro l;induction l with
    |nil=>intro _;exact .nil
    |cons i l ih=>
     intro h;refine .cons ?_ (ih λj K=>h j (bKY _ K));have A:=h i bK2;have C:i<its.length:=by omega
     obtain⟨u0,R,D⟩:=rv.get (bKM C);show zC (its.getD i .non) (d.getD i Value.none);have e1:d.getD i Value.none=u0:=by simp[bYz,R]
     have e2:its.getD i .non=its[i]:=by simp[bYz,bKM C]
     rw[e1,e2];exact D
   have v2:=vv p hm;have a3:p.Perm (bK0 its.length):=by rw[<- Y];exact L
   have a2:p.length=d.length:=by rw[L.length_eq,bYD]
   have a4:p.Pairwise λi j=>Stree.zV (g i) (g j)=true:=a9.imp_of_mem λ{i j} A K h=>by have:=Z i j (hm i A) (hm j K);rw[<- this];exact decide_eq_true h
   have I5:Inv X J σ (upd H (s.heap.objs.size+1) (.lst (p.map λi=>its.getD i .non))) {s with heap:=h5}:=
    I.laid (t':=s.toks) (λb o e=>k5 b o (bYb (bYU (bK1 e))) (keep b o e)) S ⟨by rw[bKT,bYm];omega,_,c5,v2,o5⟩
   exact⟨_,rfl,bKS ⟨_,rfl,⟨.ref _,_,I5,rfl,q _ p fa.1 a3 a4⟩⟩⟩
end
end L2
namespace Fm
open Stree (qC uX zV)
structure Ok(n:Nat)(L:Nat->Option Nat)(rk:Nat->Nat):Prop where
 lt:∀i j,i<n->L i=some j->j<n/\rk j<rk i
def rdF(L:Nat->Option Nat)(D:Nat->Int):Nat->Nat->qC
 |0,i=> [(D i,(i:Int))]
 |f+1,i=>match L i with
  |none=> [(D i,(i:Int))]
  |some j=>rdF L D f j++ [(D i,(i:Int))]
def tpF(L:Nat->Option Nat):Nat->Nat->Nat
 |0,i=>i
 |f+1,i=>match L i with
  |none=>i
  |some j=>tpF L f j
section
variable {n:Nat}{L:Nat->Option Nat}{D:Nat->Int}{rk:Nat->Nat}
theorem aXt{i:Nat}(h:L i=none):∀f,rdF L D f i= [(D i,(i:Int))]
 |0=>rfl
 |f+1=>by unfold rdF;rw[h]
theorem aXM{i:Nat}(h:L i=none):∀f,tpF L f i=i
 |0=>rfl
 |f+1=>by unfold tpF;rw[h]
theorem jA(o:Ok n L rk):∀ (f g i:Nat),i<n->rk i<=f->rk i<=g->rdF L D f i=rdF L D g i
 |f,g,i,hi,hf,hg=>by
  cases h:L i with
  |none=>rw[aXt h,aXt h]
  |some j=>
   obtain⟨a,b⟩:=o.lt i j hi h;cases f with
   |zero=>omega
   |succ f=>
    cases g with
    |zero=>omega
    |succ g=>show(match L i with|none=>_|some j=>rdF L D f j++ [(D i,(i:Int))])=(match L i with|none=>_|some j=>rdF L D g j++ [(D i,(i:Int))]);rw[h];show rdF L D f j++_=rdF L D g j++_;rw[jA o f g j a (by omega) (by omega)]
theorem jE(o:Ok n L rk):∀ (f g i:Nat),i<n->rk i<=f->rk i<=g->tpF L f i=tpF L g i
 |f,g,i,hi,hf,hg=>by
  cases h:L i with
  |none=>rw[aXM h,aXM h]
  |some j=>
   obtain⟨a,b⟩:=o.lt i j hi h;cases f with
   |zero=>omega
   |succ f=>
    cases g with
    |zero=>omega
    |succ g=>show(match L i with|none=>_|some j=>tpF L f j)=(match L i with|none=>_|some j=>tpF L g j);rw[h];exact jE o f g j a (by omega) (by omega)
def rd(L:Nat->Option Nat)(D:Nat->Int)(rk:Nat->Nat)(i:Nat):qC:=rdF L D (rk i) i
def tp(L:Nat->Option Nat)(rk:Nat->Nat)(i:Nat):Nat:=tpF L (rk i) i
theorem Y5{i:Nat}(h:L i=none):rd L D rk i= [(D i,(i:Int))]:=aXt h _
theorem zR{i:Nat}(h:L i=none):tp L rk i=i:=aXM h _
theorem v0(o:Ok n L rk){i j:Nat}(a:i<n)(h:L i=some j):rd L D rk i=rd L D rk j++ [(D i,(i:Int))]:=by
 obtain⟨b,c⟩:=o.lt i j a h;unfold rd;cases d:rk i with
 |zero=>omega
 |succ m=>show(match L i with|none=>_|some j=>rdF L D m j++ [(D i,(i:Int))])=_;rw[h];show rdF L D m j++_=_;rw[jA o m (rk j) j b (by omega) (bKU _)]
theorem v9(o:Ok n L rk){i j:Nat}(a:i<n)(h:L i=some j):tp L rk i=tp L rk j:=by
 obtain⟨b,c⟩:=o.lt i j a h;unfold tp;cases d:rk i with
 |zero=>omega
 |succ m=>show(match L i with|none=>_|some j=>tpF L m j)=_;rw[h];exact jE o m (rk j) j b (by omega) (bKU _)
theorem aXa(o:Ok n L rk){P:Nat->Prop}(h0:∀i,i<n->L i=none->P i)(a:∀i j,i<n->L i=some j->P j->P i):∀ (m i:Nat),rk i<=m->i<n->P i
 |m,i,hm,hi=>by
  cases h:L i with
  |none=>exact h0 i hi h
  |some j=>
   obtain⟨b,c⟩:=o.lt i j hi h;cases m with
   |zero=>omega
   |succ m=>exact a i j hi h (aXa o h0 a m j (by omega) b)
theorem bQj(o:Ok n L rk){i:Nat}(a:i<n):tp L rk i<n/\L (tp L rk i)=none:=
 aXa o (P:=λi=>tp L rk i<n/\L (tp L rk i)=none) (λi a h=>by rw[zR h];exact⟨a,h⟩) (λi j a h b=>by rw[v9 o a h];exact b) (rk i) i (bKU _) a
theorem aXu(o:Ok n L rk){i:Nat}(a:i<n):∃r,rd L D rk i=r++ [(D i,(i:Int))]:=by
 cases h:L i with
 |none=>exact⟨[],Y5 h⟩
 |some j=>exact⟨_,v0 o a h⟩
theorem aYj(o:Ok n L rk){i j:Nat}(b:i<n)(c:j<n)(h:rd L D rk i=rd L D rk j):i=j:=by
 obtain⟨r,e⟩:=aXu (D:=D) o b;obtain⟨d,a⟩:=aXu (D:=D) o c;rw[e,a]at h;have:=(cZk h rfl).2;injection this with z _;have:=congrArg Prod.snd z;simp only at this;omega
theorem bJR(o:Ok n L rk){i:Nat}(a:i<n):∃r,rd L D rk i=(D (tp L rk i),((tp L rk i:Nat):Int))::r:=
 aXa o (P:=λi=>∃r,rd L D rk i=(D (tp L rk i),((tp L rk i:Nat):Int))::r) (λi a h=>⟨[],by rw[Y5 h,zR h]⟩)
  (λi j a h ⟨r,e⟩=>⟨r++ [(D i,(i:Int))],by rw[v0 o a h,v9 o a h,e];rfl⟩) (rk i) i (bKU _) a
def Un(L:Nat->Option Nat)(D:Nat->Int)(rk:Nat->Nat)(v z:Nat):Prop:=rd L D rk v<+:rd L D rk z
theorem bWE(o:Ok n L rk){i:Nat}(a:i<n):Un L D rk (tp L rk i) i:=by
 obtain⟨r,e⟩:=bJR (D:=D) o a;have h:=(bQj o a).2;unfold Un;rw[Y5 h,e];exact⟨r,rfl⟩
theorem bZe(o:Ok n L rk){v:Nat}(q:v<n):∀ {k:Nat},k<n->Un L D rk v k->k≠v->∃c,c<n/\L c=some v/\Un L D rk c k:=λ{k} b f a=>by
 refine aXa o (P:=λk=>Un L D rk v k->k≠v->∃c,c<n/\L c=some v/\Un L D rk c k) (λk b h f a=>?_) (λk p b h t f a=>?_) (rk k) k (bKU _) b f a
 ·obtain⟨r,e⟩:=f;obtain⟨j,m⟩:=aXu (D:=D) o q;rw[Y5 h,m]at e;have hl:=congrArg cXh e;simp only[bYh,bYM,cQS]at hl;have s:j= []:=cXF (by omega);have u:r= []:=cXF (by omega);rw[s,u]at e;injection e with z _;have:=congrArg Prod.snd z;simp only at this;omega
 ·obtain⟨y,_⟩:=o.lt k p b h;have d:=f;unfold Un at d;rw[v0 o b h]at d;by_cases g:p=v
  ·subst g;exact⟨k,b,h,List.prefix_refl _⟩
  ·have i:Un L D rk v p:=by
    obtain⟨r,e⟩:=d;rcases List.eq_nil_or_concat r with rfl|⟨j,x,rfl⟩
    ·rw[bYY]at e;obtain⟨j,m⟩:=aXu (D:=D) o q;rw[m]at e;have:=(cZk e rfl).2;injection this with z _;have:=congrArg Prod.snd z;simp only at this;omega
    ·rw[List.concat_eq_append,<- cQZ]at e;exact⟨j,(cZk e rfl).1⟩
   obtain⟨c,w,hl,l⟩:=t i g;refine⟨c,w,hl,?_⟩;unfold Un;rw[v0 o b h];exact List.IsPrefix.trans l (List.prefix_append _ _)
theorem bWD(o:Ok n L rk){v z:Nat}(c:v<n)(hz:z<n)(h:Un L D rk v z)(a:z≠v):uX (rd L D rk v) (rd L D rk z)=true:=by
 obtain⟨r,e⟩:=h;rw[<- e];refine Stree.aJ9 _ λb=>a ?_;rw[b,bYY]at e;exact(aYj o c hz e).symm
theorem bWu(o:Ok n L rk){v c d z:Nat}(g:c<n)(i:d<n)(b:L c=some v)(f:L d=some v)(a:zV (D c,(c:Int)) (D d,(d:Int))=true)(h:Un L D rk c z):uX (rd L D rk z) (rd L D rk d)=true:=by
 obtain⟨r,e⟩:=h;rw[<- e,v0 o g b,v0 o i f,cQZ];exact Stree.aZl _ a
structure aZT(n:Nat)(L:Nat->Option Nat)(D:Nat->Int)(rk:Nat->Nat)(root:Nat)(told nx:List Nat):Prop where
 tl:∀x∈told,x<n/\tp L rk x=root
 al:∀x∈nx,x<n/\tp L rk x=root
 tt:told.Pairwise λx y=>uX (rd L D rk x) (rd L D rk y)=true
 ta:∀x∈told,∀y∈nx,uX (rd L D rk x) (rd L D rk y)=true
 aa:nx.Pairwise λx y=>∀z,Un L D rk x z->uX (rd L D rk z) (rd L D rk y)=true
 all:∀k,k<n->tp L rk k=root->k∈told\/∃a∈nx,Un L D rk a k
theorem aZT.start(o:Ok n L rk){i:Nat}(b:i<n):aZT n L D rk (tp L rk i) [] [tp L rk i]:=by
 have h:=bQj o b;refine⟨λx a=>(nomatch a),λx a=>?_,.nil,λx a=>(nomatch a),cQa _ _,λk c e=> .inr ⟨_,bK4.mpr rfl,?_⟩⟩
 ·rw[bK4.mp a];exact⟨h.1,by rw[zR h.2]⟩
 ·have z:=bWE (D:=D) o c;rw[e]at z;exact z
theorem aZT.step(o:Ok n L rk){j v:Nat}{l jR zU:List Nat}(W:aZT n L D rk j l (v::jR))(G:∀i,i∈zU↔i<n/\L i=some v)(I:zU.Pairwise λx y=>zV (D x,(x:Int)) (D y,(y:Int))=true):aZT n L D rk j (l++ [v]) (zU++jR):=by
 obtain⟨C,r⟩:=W.al v bK2;obtain⟨E,H⟩:=cQb.mp W.aa;have b:∀c∈zU,c<n/\L c=some v/\tp L rk c=j/\Un L D rk v c/\c≠v:=λc m=>by
  obtain⟨s,t⟩:=(G c).mp m;refine⟨s,t,by rw[v9 o s t];exact r,?_,λz=>?_⟩
  ·unfold Un;rw[v0 o s t];exact List.prefix_append _ _
  ·have:=(o.lt c v s t).2;rw[z]at this;omega
 have self:∀x,Un L D rk x x:=λx=>List.prefix_refl _;refine⟨λx f=>?_,λx f=>?_,?_,λx f y g=>?_,?_,λk q u=>?_⟩
 ·rcases bYs.mp f with f|f
  ·exact W.tl x f
  ·rw[bK4.mp f];exact⟨C,r⟩
 ·rcases bYs.mp f with f|f
  ·exact⟨(b x f).1,(b x f).2.2.1⟩
  ·exact W.al x (bKY _ f)
 ·refine cZu.mpr ⟨W.tt,cQa _ _,λx f y g=>?_⟩;rw[bK4.mp g];exact W.ta x f v bK2
 ·have p:∀y∈zU++jR,uX (rd L D rk v) (rd L D rk y)=true:=λy g=>by
   rcases bYs.mp g with g|g
   ·exact bWD o C (b y g).1 (b y g).2.2.2.1 (b y g).2.2.2.2
   ·exact E y g v (self v)
  rcases bYs.mp f with f|f
  ·exact Stree.Y1 (W.ta x f v bK2) (p y g)
  ·rw[bK4.mp f];exact p y g
 ·refine cZu.mpr ⟨I.imp_of_mem λ{c d} m hd h z B=>bWu o (b c m).1 (b d hd).1 (b c m).2.1 (b d hd).2.1 h B,H,λc m y g z B=>?_⟩;exact E y g z (List.IsPrefix.trans (b c m).2.2.2.1 B)
 ·rcases W.all k q u with h|⟨a,A,F⟩
  ·exact .inl (cQG _ h)
  ·rcases bKW.mp A with rfl|A
   ·by_cases e:k=a
    ·exact .inl (bYa _ (bK4.mpr e))
    ·obtain⟨c,m,hl,w⟩:=bZe o C q F e;exact .inr ⟨c,cQG _ ((G c).mpr ⟨m,hl⟩),w⟩
   ·exact .inr ⟨a,bYa _ A,F⟩
theorem aZT.nodup{b:Nat}{a nx:List Nat}(W:aZT n L D rk b a nx):a.Nodup:=
 W.tt.imp λ{x y} h z=>by rw[z,Stree.vB]at h;cases h
theorem wD:∀ {n:Nat} {l:List Nat},l.Nodup->(∀x∈l,x<n)->l.length<=n
 |0,[],_,_=>bKU _
 |0,x::_,_,h=>absurd (h x bK2) (cQw _)
 |n+1,l,nd,h=>by
  by_cases c:n∈l
  ·have b:=wD (n:=n) (l:=l.erase n) (nd.erase n) λx a=>by
    have:=(cZ6 nd).mp a;have:=h x this.2;omega
   rw[cZ7 c]at b;omega
  ·have b:=wD (n:=n) (l:=l) nd λx a=>by
    have:=h x a;have:x≠n:=λz=>c (z ▸ a);omega
   omega
theorem aZT.len{b:Nat}{a nx:List Nat}(W:aZT n L D rk b a nx):a.length<=n:=wD W.nodup λx c=>(W.tl x c).1
theorem aZT.done{b:Nat}{c:List Nat}(W:aZT n L D rk b c [])(k:Nat):k∈c↔k<n/\tp L rk k=b:=
 ⟨λh=>W.tl k h,λ⟨d,e⟩=>(W.all k d e).elim id λ⟨a,f,_⟩=>nomatch f⟩
end
end Fm
namespace Fm
open Stree (qC uX zV)
section
variable {n:Nat}{L:Nat->Option Nat}{D:Nat->Int}{rk rk':Nat->Nat}
theorem aYk(o:Ok n L rk)(b:Ok n L rk'){i:Nat}(a:i<n):rd L D rk i=rd L D rk' i:=by
 unfold rd;rw[jA o (rk i) (max (rk i) (rk' i)) i a (bKU _) (Nat.le_max_left _ _),jA b (rk' i) (max (rk i) (rk' i)) i a (bKU _) (Nat.le_max_right _ _)]
theorem jY(o:Ok n L rk)(b:Ok n L rk'){i:Nat}(a:i<n):tp L rk i=tp L rk' i:=by
 unfold tp;rw[jE o (rk i) (max (rk i) (rk' i)) i a (bKU _) (Nat.le_max_left _ _),jE b (rk' i) (max (rk i) (rk' i)) i a (bKU _) (Nat.le_max_right _ _)]
theorem bJS(o:Ok n L rk){i:Nat}(c:i<n):∃l:List Nat,(rd L D rk i).map (·.2)=l.map (λk:Nat=>(k:Int))/\l.Nodup/\(∀k∈l,k<n/\rk k<=rk i):=
 aXa o (P:=λi=>∃l:List Nat,(rd L D rk i).map (·.2)=l.map (λk:Nat=>(k:Int))/\l.Nodup/\(∀k∈l,k<n/\rk k<=rk i)) (λi c h=>⟨[i],by rw[Y5 h];rfl,by simp,λk d=>by rw[bK4.mp d];exact⟨c,bKU _⟩⟩)
  (λi j c h ⟨l,e,nd,hl⟩=>by
   obtain⟨p,m⟩:=o.lt i j c h;refine⟨l++ [i],by rw[v0 o c h,cQT,cQT,e];rfl,?_,λk d=>?_⟩
   ·rw[cXd];refine⟨nd,by simp,λa g b f z=>?_⟩;rw[bK4.mp f]at z;have:=(hl a g).2;rw[z]at this;omega
   ·rcases bYs.mp d with d|d
    ·have:=hl k d;exact⟨this.1,by omega⟩
    ·rw[bK4.mp d];exact⟨c,bKU _⟩) (rk i) i (bKU _) c
theorem bWl(o:Ok n L rk){i:Nat}(b:i<n):(rd L D rk i).length<=n:=by
 obtain⟨l,e,a,hl⟩:=bJS (D:=D) o b;have h:=congrArg cXh e;rw[bKT,bKT]at h;rw[h];exact wD a λk c=>(hl k c).1
theorem bJg(o:Ok n L rk){a b:Nat}(ha:a<n)(hb:b<n)(h0:L a=none)(hne:tp L rk b≠a):Ok n (λi=>if i=a then some b else L i) (λi=>if tp L rk i=a then rk i+rk b+1 else rk i) where
 lt:=λi j hi h=>by
  by_cases e:i=a
  ·subst e
   rw[if_pos rfl]at h
   cases h
   rw[if_neg hne,if_pos (zR h0)]
   exact⟨hb,by omega⟩
  ·rw[if_neg e]at h
   obtain⟨hj,hr⟩:=o.lt i j hi h
   have et:=v9 o hi h
   refine⟨hj,?_⟩
   rw[et]
   split<;> omega
theorem bQW(o:Ok n L rk)(a:Nat):Ok n (λi=>if i=a then none else L i) rk where
 lt:=λi j hi h=>by
  by_cases e:i=a
  ·rw[if_pos e]at h;cases h
  ·rw[if_neg e]at h;exact o.lt i j hi h
def bZU(rk:Nat->Nat):Option Nat->Nat
 |none=>0
 |some j=>rk j+1
theorem bQA(o:Ok n L rk)(l:Option Nat)(hl:∀j,l=some j->j<n):Ok (n+1) (λi=>if i=n then l else L i) (λi=>if i=n then bZU rk l else rk i) where
 lt:=λi j hi h=>by
  by_cases e:i=n
  ·rw[if_pos e]at h
   have hj:=hl j h
   rw[if_pos e,if_neg (by omega),h]
   exact⟨by omega,cQA _⟩
  ·rw[if_neg e]at h
   obtain⟨hj,hr⟩:=o.lt i j (by omega) h
   rw[if_neg e,if_neg (by omega)]
   exact⟨by omega,hr⟩
theorem bVy(o:Ok n L rk){i:Nat}(a:i<n):tp L rk (tp L rk i)=tp L rk i:=zR (bQj o a).2
theorem Ok.congr{a:Nat->Option Nat}(o:Ok n L rk)(h:∀i,i<n->L i=a i):Ok n a rk:=⟨λi j b e=>o.lt i j b ((h i b).trans e)⟩
end
end Fm
namespace Dm
def opn(d:Int):Bool:=decide (d % 7<5)
def cts(a:List Int)(d:Int):Bool:=opn d && !(a.contains d)
def cnt(b:List Int)(a:Int):Nat->Nat
 |0=>0
 |n+1=>cnt b a n+(if cts b (a+n)then 1 else 0)
def place(d:Int):Int:=d / 7*5+(if 4<d % 7 then 4 else d % 7)
def zD(p:Int):Int:=p / 5*7+p % 5
theorem aWz(d:Int):place d=place (d - 1)+(if opn d then 1 else 0):=by
 unfold place opn;simp only[decide_eq_true_eq];split<;> split<;> split<;> omega
theorem bZ6(b:List Int)(a:Int)(n m:Nat):cnt b a (n+m)=cnt b a n+cnt b (a+n) m:=by
 induction m with
 |zero=>rfl
 |succ m c=>have e:cnt b a (n+(m+1))=cnt b a (n+m)+(if cts b (a+((n+m:Nat):Int))then 1 else 0):=rfl;have d:cnt b (a+n) (m+1)=cnt b (a+n) m+(if cts b (a+n+(m:Int))then 1 else 0):=rfl;rw[e,d,c,show a+((n+m:Nat):Int)=a+n+(m:Int) by omega];omega
def wR(a b:Int)(d:Int):Bool:=decide (a<=d) && decide (d<=b)
theorem aZ8{S:List Int}(i:S.Nodup)(a b:Int)(g:a<=b+1): (S.filter (wR a (b+1))).length=(S.filter (wR a b)).length+(if S.contains (b+1)then 1 else 0):=by
 induction S with
 |nil=>rfl
 |cons x r d=>
  have c:=cQU.mp i;have d:=d c.2;by_cases k:x=b+1
  ·subst k;have j:r.contains (b+1)=false:=by
    rw[<- Bool.not_eq_true,cQm];exact c.1
   rw[j]at d;have e:wR a (b+1) (b+1)=true:=by simp[wR,g]
   have h:wR a b (b+1)=false:=by simp[wR];omega
   rw[cQs e,cQr (by rw[h];decide)];simp at d ⊢;omega
  ·have e:wR a (b+1) x=wR a b x:=by
    unfold wR;have:decide (x<=b+1)=decide (x<=b):=by rw[decide_eq_decide];omega
    rw[this]
   have h:(x::r).contains (b+1)=r.contains (b+1):=by
    rw[cQ5];have:(b+1==x)=false:=by simp;omega
    rw[this,Bool.false_or]
   rw[h];by_cases f:wR a b x=true
   ·rw[cQs (by rw[e];exact f),cQs f];simp only[bYM];omega
   ·rw[cQr (by rw[e];exact f),cQr f];exact d
theorem aVU{b S:List Int}(e:S.Nodup)(i:∀d,d∈S↔d∈b/\opn d=true)(a:Int)(n:Nat): (cnt b a n:Int)=place (a+n - 1) - place (a - 1) - ((S.filter (wR a (a+n - 1))).length:Nat):=by
 induction n with
 |zero=>
  have:S.filter (wR a (a+(0:Nat) - 1))= []:=by rw[List.filter_eq_nil_iff];intro x _;simp[wR];omega
  rw[this];simp[cnt]
 |succ n j=>
  have f:=aZ8 e a (a+n - 1) (by omega);rw[show a+(n:Int) - 1+1=a+n by omega]at f;have p:=aWz (a+n);rw[show a+((n+1:Nat):Int) - 1=a+n by omega];show((cnt b a n+(if cts b (a+n)then 1 else 0):Nat):Int)=_;have c:(if cts b (a+n)then 1 else 0:Nat)+(if S.contains (a+n)then 1 else 0:Nat)=(if opn (a+n)then 1 else 0:Nat):=by
   have g:S.contains (a+n)=(b.contains (a+n) && opn (a+n)):=by rw[Bool.eq_iff_iff,cQm,Bool.and_eq_true,cQm];exact i _
   rw[g];unfold cts;cases opn (a+↑n)<;> cases b.contains (a+↑n)<;> rfl
  have h:place (a+n)=place (a+n - 1)+((if opn (a+n)then 1 else 0:Nat):Int):=by rw[p];cases opn (a+↑n)<;> rfl
  rw[h,f];push_cast;omega
theorem aJt(p:Int):place (zD p)=p:=by
 unfold place zD;split<;> omega
theorem aZt(p:Int):opn (zD p)=true:=by
 unfold opn zD;rw[decide_eq_true_eq];omega
theorem bQv{p q:Int}(h:p<q):zD p<zD q:=by
 unfold zD;omega
theorem bQu{p q:Int}(h:p<=q):zD p<=zD q:=by
 unfold zD;omega
theorem aZ4(d:Int):d<zD (place d+1):=by
 unfold place zD;split<;> omega
def uH(date:Int)(p c:Int):Int:=if date<c/\c<=zD p then p+1 else p
def aXg(date:Int)(p:Int)(C:List Int):Int:=C.foldl (uH date) p
def wW(date e:Int)(c:Int):Bool:=decide (date<c) && decide (c<=e)
theorem aJ1{date:Int}(g:Int):∀ (d b:List Int)(p:Int),(b++d).Pairwise (·<·)->
  p=g+((b.filter (wW date (zD p))).length:Nat)->(∀c∈b,date<c->c≠zD p)->g<=p->
  ∃q,aXg date p d=q/\q=g+(((b++d).filter (wW date (zD q))).length:Nat)/\(∀c∈b++d,date<c->c≠zD q)/\g<=q
 |[],b,p,_,h1,h2,h3=>⟨p,rfl,by rw[bYY];exact h1,by rw[bYY];exact h2,h3⟩
 |c::d,b,p,hs,h1,h2,h3=>by
  have f:((b++ [c])++d).Pairwise (·<·):=by rw[cQZ];exact hs
  have lt:∀x∈b,x<c:=λx a=>(cZu.mp hs).2.2 x a c (bK2 ..);have fin:=aJ1 (date:=date) g d (b++ [c]);have step:aXg date p (c::d)=aXg date (uH date p c) d:=rfl;rw[step,show b++c::d=(b++ [c])++d by simp];by_cases i:date<c/\c<=zD p
  ·have e:uH date p c=p+1:=if_pos i;rw[e];have up:=bQv (show p<p+1 by omega);refine fin (p+1) f ?_ ?_ (by omega)
   ·have k:b.filter (wW date (zD (p+1)))=b.filter (wW date (zD p)):=by
     refine cZU λx a=>?_;have:=lt x a;unfold wW;have q:decide (x<=zD (p+1))=decide (x<=zD p):=by rw[decide_eq_decide];omega
     rw[q]
    have h:wW date (zD (p+1)) c=true:=by simp[wW];omega
    rw[bYV,k,cQs h,bYh];simp only[List.filter_nil,bYM,cQS];omega
   ·intro x a j;rcases bYs.mp a with a|a
    ·have:=lt x a;omega
    ·have:x=c:=by simpa using a
     omega
  ·have e:uH date p c=p:=if_neg i;rw[e];refine fin p f ?_ ?_ h3
   ·have h:wW date (zD p) c=false:=by simp[wW];omega
    rw[bYV,cQr (by rw[h];decide)];simpa using h1
   ·intro x a j;rcases bYs.mp a with a|a
    ·exact h2 x a j
    ·have:x=c:=by simpa using a
     omega
structure Due(sh:List Int)(date term D:Int):Prop where
 later:date<D
 cts:cts sh D=true
 cnt:(cnt sh (date+1) (D - date).toNat:Int)=term
theorem bZr{c C:List Int}{date term:Int}(o:1<=term)(g:C.Pairwise (·<·))(b:∀d,d∈C↔d∈c/\opn d=true): Due c date term (zD (aXg date (place date+term) C)):=by
 obtain⟨q,e,l,f,p⟩:=aJ1 (date:=date) (place date+term) C [] (place date+term) (by simpa using g) (by simp) (by simp) (Int.le_refl _);rw[e];rw[List.nil_append]at l f;have a:date<zD q:=Int.lt_of_lt_of_le (aZ4 date) (bQu (by omega));refine⟨a,?_,?_⟩
 ·unfold Dm.cts;rw[aZt,Bool.true_and,Bool.not_eq_true'];rw[<- Bool.not_eq_true,cQm];exact λz=>f _ ((b _).mpr ⟨z,aZt q⟩) a rfl
 ·have m:C.Nodup:=g.imp λh=>by omega
  have k:=aVU m b (date+1) (zD q - date).toNat;have n:date+1+((zD q - date).toNat:Int) - 1=zD q:=by omega
  have j:date+1 - 1=date:=by omega
  rw[n,j,aJt]at k;have i:C.filter (wR (date+1) (zD q))=C.filter (wW date (zD q)):=by
   refine cZU λx _=>?_;unfold wR wW;have:decide (date+1<=x)=decide (date<x):=by rw[decide_eq_decide];omega
   rw[this]
  rw[i]at k;omega
theorem bQr(b:List Int)(a:Int){n m:Nat}(h:n<=m):cnt b a n<=cnt b a m:=by
 obtain⟨k,rfl⟩:=Nat.le.dest h;rw[bZ6];omega
theorem Due.less{a:List Int}{date term D:Int}(u:Due a date term D){n:Nat}(h:date+n<D):(Dm.cnt a (date+1) n:Int)<term:=by
 have e:(D - date).toNat=((D - date).toNat - 1)+1:=by have:=u.later;omega
 have k:=u.cnt;rw[e]at k;have b:Dm.cnt a (date+1) (((D - date).toNat - 1)+1)=Dm.cnt a (date+1) ((D - date).toNat - 1)+(if Dm.cts a (date+1+(((D - date).toNat - 1:Nat):Int))then 1 else 0):=rfl;have c:date+1+(((D - date).toNat - 1:Nat):Int)=D:=by have:=u.later;omega
 rw[c,u.cts]at b;have m:=bQr a (date+1) (show n<=(D - date).toNat - 1 by omega);simp only[if_true]at b;omega
theorem Due.uniq{d:List Int}{date term D c:Int}(u:Due d date term D)(v:Due d date term c):D=c:=by
 have a:=u.later;have b:=v.later;have e:¬D<c:=λh=>by have:=v.less (n:=(D - date).toNat) (by omega);have:=u.cnt;omega
 have f:¬c<D:=λh=>by have:=u.less (n:=(c - date).toNat) (by omega);have:=v.cnt;omega
 omega
end Dm
namespace Bk
open PySem (Str)
open Stree (qC uX zV)
structure Row where
 way:Str
 date:Int
 partner:Str
 term:Int
 link:Option Nat
 place:Str
 void:Bool
 copies:List Str
abbrev Rows:=List Row
def lk(R:Rows)(i:Nat):Option Nat:=(R[i]?).bind (·.link)
def dt(R:Rows)(i:Nat):Int:=((R[i]?).map (·.date)).getD 0
def zZ(R:Rows)(m:Int):Bool:=decide (0<=m) && (match R[m.toNat]? with|some r=> !r.void|none=>false)
theorem z6{R:Rows}{m:Int}(h:zZ R m=true):∃ (k:Nat)(r:Row),m=(k:Int)/\k<R.length/\R[k]? =some r/\r.void=false:=by
 unfold zZ at h;rw[Bool.and_eq_true,decide_eq_true_eq]at h;obtain⟨c,a⟩:=h;cases e:R[m.toNat]? with
 |none=>rw[e]at a;cases a
 |some r=>rw[e]at a;refine⟨m.toNat,r,by omega,(bKZ.mp e).1,e,?_⟩;have b:(!r.void)=true:=a;simpa using b
def uT(R:Rows):Prop:=∃a,Fm.Ok R.length (lk R) a
def zY(R:Rows)(i:Nat)(l:List Nat):Prop:=∃a,Fm.Ok R.length (lk R) a/\(l.Pairwise λx y=>uX (Fm.rd (lk R) (dt R) a x) (Fm.rd (lk R) (dt R) a y)=true)/\∀k,k∈l↔k<R.length/\Fm.tp (lk R) a k=Fm.tp (lk R) a i
theorem zY.uniq{R:Rows}{i:Nat}{l m:List Nat}(n:i<R.length)(f:zY R i l)(g:zY R i m):l=m:=by
 obtain⟨q,o,p,e⟩:=f;obtain⟨r,d,s,j⟩:=g;refine Stree.uniq (lt:=λx y=>uX (Fm.rd (lk R) (dt R) q x) (Fm.rd (lk R) (dt R) q y)=true) (λa h=>by rw[Stree.vB]at h;cases h) (λa b c f g=>Stree.Y1 f g) p ?_ λk=>?_
 ·refine s.imp_of_mem λ{x y} hx hy h=>?_;rw[Fm.aYk o d ((j x).mp hx).1,Fm.aYk o d ((j y).mp hy).1];exact h
 ·rw[e k,j k];constructor
  ·rintro⟨a,b⟩;exact⟨a,by rw[<- Fm.jY o d a,<- Fm.jY o d n];exact b⟩
  ·rintro⟨a,b⟩;exact⟨a,by rw[Fm.jY o d a,Fm.jY o d n];exact b⟩
def zU(R:Rows)(i:Nat):List Nat:=(bK0 R.length).filter λk=>decide (lk R k=some i)
def W1(R:Rows)(i:Nat)(d:Int):Bool:=match R[i]? with
 |none=>false
 |some r=> !r.void && decide (1<=r.term) && decide (r.date<=d) && (zU R i).all λk=>decide (d<dt R k)
def xP(R:Rows)(i:Nat)(f:Row->Row):Rows:=match R[i]? with
 |some r=>R.set i (f r)
 |none=>R
theorem zH(R:Rows)(i:Nat)(f:Row->Row):(xP R i f).length=R.length:=by unfold xP;split<;> simp
theorem zA(R:Rows)(i j:Nat)(f:Row->Row):(xP R i f)[j]? =if j=i then(R[j]?).map f else R[j]? :=by
 unfold xP;by_cases e:j=i
 ·subst e;rw[if_pos rfl];cases h:R[j]? with
  |none=>simp[h]
  |some r=>have a:j<R.length:=(bKZ.mp h).1;simp[cXE a]
 ·rw[if_neg e];cases h:R[i]? with
  |none=>rfl
  |some r=>simp[cZt (bYv e)]
def laid(R:Rows)(l:List Nat)(name:Str):Rows:=l.foldl (λR k=>xP R k λr=>{r with place:=name}) R
theorem qI(R:Rows)(i:Nat)(f:Row->Row)(h:∀r,(f r).link=r.link):lk (xP R i f)=lk R:=by
 funext j;unfold lk;rw[zA];by_cases e:j=i
 ·rw[if_pos e];cases R[j]? with
  |none=>rfl
  |some r=>exact h r
 ·rw[if_neg e]
theorem wJ(name:Str):∀ (l:List Nat)(R:Rows),(laid R l name).length=R.length
 |[],R=>rfl
 |k::l,R=>by show(laid (xP R k _) l name).length=_;rw[wJ name l,zH]
theorem Q8(name:Str):∀ (l:List Nat)(R:Rows),lk (laid R l name)=lk R
 |[],R=>rfl
 |k::l,R=>by show lk (laid (xP R k _) l name)=_;rw[Q8 name l,qI R k (λr=>{r with place:=name}) λ_=>rfl]
theorem vX(name:Str):∀ (l:List Nat)(R:Rows)(j:Nat),(laid R l name)[j]? =if j∈l then(R[j]?).map (λr=>{r with place:=name})else R[j]?
 |[],R,j=>by simp[laid]
 |k::l,R,j=>by
  show(laid (xP R k _) l name)[j]? =_;rw[vX name l,zA];by_cases e:j=k
  ·subst e;rw[if_pos rfl,if_pos bK2];split
   ·cases R[j]? <;> rfl
   ·rfl
  ·rw[if_neg e];by_cases hl:j∈l
   ·rw[if_pos hl,if_pos (bKY _ hl)]
   ·rw[if_neg hl,if_neg (by simp[e,hl])]
theorem uT.laid{R:Rows}(t:uT R)(l:List Nat)(name:Str):uT (laid R l name):=by
 obtain⟨a,o⟩:=t;refine⟨a,?_⟩;rw[wJ,Q8];exact o
theorem uT.same{R:Rows}(t:uT R)(i:Nat)(f:Row->Row)(h:∀r,(f r).link=r.link):uT (xP R i f):=by
 obtain⟨a,o⟩:=t;refine⟨a,?_⟩;rw[zH,qI R i f h];exact o
theorem aVa(R:Rows){i:Nat}(a:i<R.length)(f:Row->Row)(l:Option Nat)(h:∀r,(f r).link=l):lk (xP R i f)=λj=>if j=i then l else lk R j:=by
 funext j;unfold lk;rw[zA];by_cases e:j=i
 ·subst e;rw[if_pos rfl,if_pos rfl,bKM a];exact h _
 ·rw[if_neg e,if_neg e]
theorem uT.loose{R:Rows}(t:uT R){i:Nat}(a:i<R.length)(f:Row->Row)(h:∀r,(f r).link=none):uT (xP R i f):=by
 obtain⟨b,o⟩:=t;refine⟨b,?_⟩;rw[zH,aVa R a f none h];exact Fm.bQW o i
theorem uT.hang{R:Rows}{rk:Nat->Nat}(o:Fm.Ok R.length (lk R) rk){i j:Nat}(b:i<R.length)(c:j<R.length)(h0:lk R i=none)(a:Fm.tp (lk R) rk j≠i)(f:Row->Row)(h:∀r,(f r).link=some j):uT (xP R i f):=by
 refine⟨λk=>if Fm.tp (lk R) rk k=i then rk k+rk j+1 else rk k,?_⟩;rw[zH,aVa R b f (some j) h];exact Fm.bJg o b c h0 a
theorem bJo(R:Rows)(r:Row):∀i,i<R.length+1->lk (R++ [r]) i=if i=R.length then r.link else lk R i:=λi a=>by
 unfold lk;by_cases e:i=R.length
 ·subst e;rw[if_pos rfl,bYc (bKU _)];simp
 ·rw[if_neg e,bYA (by omega)]
theorem uT.enter{R:Rows}(t:uT R)(r:Row)(h:∀j,r.link=some j->j<R.length):uT (R++ [r]):=by
 obtain⟨a,o⟩:=t;have z:=Fm.bQA o r.link h;refine⟨λi=>if i=R.length then Fm.bZU a r.link else a i,?_⟩;rw[bYh,bYX];exact z.congr λi b=>(bJo R r i b).symm
end Bk
namespace Bk
open PySem (Str)
open Stree (qC uX zV)
theorem aYW{n:Nat}{L:Nat->Option Nat}{D:Nat->Int}{rk:Nat->Nat}(o:Fm.Ok n L rk):∀l:List Nat,l.Nodup->(∀k∈l,k<n)->∃m:List Nat,m.Perm l/\m.Pairwise λx y=>uX (Fm.rd L D rk x) (Fm.rd L D rk y)=true
 |[],_,_=>⟨[],.refl _,.nil⟩
 |x::l,nd,h=>by
  obtain⟨m,f,s⟩:=aYW (D:=D) o l (cQU.mp nd).2 λk c=>h k (bKY _ c);have t:x<n:=h x bK2;have i:∀k∈m,k<n/\k≠x:=λk c=>⟨h k (bKY _ (f.mem_iff.mp c)),λz=>(cQU.mp nd).1 (by rw[<- z];exact f.mem_iff.mp c)⟩;have ins:∀m:List Nat,(∀k∈m,k<n/\k≠x)->(m.Pairwise λx y=>uX (Fm.rd L D rk x) (Fm.rd L D rk y)=true)->∃d:List Nat,d.Perm (x::m)/\d.Pairwise λx y=>uX (Fm.rd L D rk x) (Fm.rd L D rk y)=true:=by
   intro m;induction m with
   |nil=>intro _ _;exact⟨[x],.refl _,cQa _ _⟩
   |cons y m r=>
    intro j q;obtain⟨a,b⟩:=cQb.mp q;have p:=j y bK2;rcases Stree.aXn (λz=>p.2 (Fm.aYj o p.1 t z):Fm.rd L D rk y≠Fm.rd L D rk x)with z|z
    ·obtain⟨d,e,g⟩:=r (λk c=>j k (bKY _ c)) b;refine⟨y::d,(List.Perm.cons _ e).trans (List.Perm.swap _ _ _),cQb.mpr ⟨λk c=>?_,g⟩⟩;rcases bKW.mp (e.mem_iff.mp c)with rfl|c
     ·exact z
     ·exact a k c
    ·refine⟨x::y::m,.refl _,cQb.mpr ⟨λk c=>?_,q⟩⟩;rcases bKW.mp c with rfl|c
     ·exact z
     ·exact Stree.Y1 z (a k c)
  obtain⟨d,e,g⟩:=ins m i s;exact⟨d,e.trans (List.Perm.cons _ f),g⟩
theorem bQi{R:Rows}(t:uT R)(i:Nat):∃l,zY R i l:=by
 obtain⟨a,o⟩:=t;obtain⟨m,b,c⟩:=aYW (D:=dt R) o ((bK0 R.length).filter λk=>decide (Fm.tp (lk R) a k=Fm.tp (lk R) a i)) (cXT.sublist cQL) λk d=>bYj.mp (bYP.mp d).1;refine⟨m,a,o,c,λk=>?_⟩;rw[b.mem_iff,bYP,bYj,decide_eq_true_eq]
open Classical in
noncomputable def thr (R:Rows) (i:Nat):List Nat:=if h:∃l,zY R i l then choose h else []
theorem Z4{R:Rows}(t:uT R)(i:Nat):zY R i (thr R i):=by
 have h:=bQi t i;unfold thr;rw[dif_pos h];exact Classical.choose_spec h
theorem aZO{R:Rows}{i:Nat}(a:i<R.length){l:List Nat}(h:zY R i l):thr R i=l:=
 zY.uniq a (by obtain⟨b,o,_⟩:=h;exact Z4 ⟨b,o⟩ i) h
open Classical in
noncomputable def due (shut:List Int) (d t:Int):Int:=if h:∃D,Dm.Due shut d t D then choose h else d
theorem bZq{shut:List Int}{d t D:Int}(h:Dm.Due shut d t D):due shut d t=D:=by
 have a:∃D,Dm.Due shut d t D:=⟨D,h⟩;unfold due;rw[dif_pos a];exact(Classical.choose_spec a).uniq h
structure bZk(R:Rows)(shut:List Int)(d:Int)(late:Bool)(l:List Nat):Prop where
 mem:∀k,k∈l↔k<R.length/\W1 R k d=true/\(late=true->due shut (dt R k) (((R[k]?).map (·.term)).getD 0)<d)
 ord:l.Pairwise λx y=>zV (due shut (dt R x) (((R[x]?).map (·.term)).getD 0),(x:Int)) (due shut (dt R y) (((R[y]?).map (·.term)).getD 0),(y:Int))=true
theorem bZk.uniq{R:Rows}{shut:List Int}{d:Int}{e:Bool}{l m:List Nat}(f:bZk R shut d e l)(g:bZk R shut d e m):l=m:=
 Stree.uniq (lt:=λx y=>zV (due shut (dt R x) (((R[x]?).map (·.term)).getD 0),(x:Int)) (due shut (dt R y) (((R[y]?).map (·.term)).getD 0),(y:Int))=true) (λa h=>by rw[Stree.wK]at h;cases h) (λa b c f g=>Stree.aXm f g) f.ord g.ord λk=>by rw[f.mem k,g.mem k]
inductive Ans where
 |num (n:Int)|txt (x:Str)|nums (l:List Nat)|txts (l:List Str)|row (r:Row)
inductive xM where
 |enter (way:Str) (day:Int) (who:Str) (term:Int)|reply (m:Int) (day term:Int)|hang (m o:Int)|loose (m:Int)|date (m d:Int)|term (m t:Int)
 |copy (m:Int) (who:Str)|file (m:Int) (name:Str)|void (m:Int)|shut (d:Int)|state (m:Int)|thread (m:Int)|copies (m:Int)|letters (name:Str)|on (late:Bool) (d:Int)
def jF(a:Str):Str:=if a="in" then "out" else "in"
inductive xV(R:Rows)(S:List Int):xM->Ans->Rows->List Int->Prop
 |enter {way who:Str} {d t:Int} (h:0<=t):xV R S (.enter way d who t) (.num R.length) (R++ [⟨way,d,who,t,none,"",false,[]⟩]) S
 |enterT {way who:Str} {d t:Int} (h:t<0):xV R S (.enter way d who t) (.txt "no term") R S
 |replyN {m d t:Int} (h:zZ R m=false):xV R S (.reply m d t) (.txt "no letter") R S
 |replyT {m d t:Int} (h:zZ R m=true) (ht:t<0):xV R S (.reply m d t) (.txt "no term") R S
 |replyE {k:Nat} {d t:Int} {r:Row} (hk:R[k]? =some r) (h:r.void=false) (ht:0<=t) (hd:d<r.date):xV R S (.reply k d t) (.txt "too early") R S
 |reply {k:Nat} {d t:Int} {r:Row} (hk:R[k]? =some r) (h:r.void=false) (ht:0<=t) (hd:r.date<=d):xV R S (.reply k d t) (.num R.length) (R++ [⟨jF r.way,d,r.partner,t,some k,r.place,false,[]⟩]) S
 |hangN {m o:Int} (h:zZ R m=false\/zZ R o=false):xV R S (.hang m o) (.txt "no letter") R S
 |hangH {i j:Nat} {r q:Row} (hi:R[i]? =some r) (hv:r.void=false) (hj:R[j]? =some q) (hw:q.void=false) (h:r.link≠none):xV R S (.hang i j) (.txt "has one") R S
 |hangO {i j:Nat} {r q:Row} (hi:R[i]? =some r) (hv:r.void=false) (hj:R[j]? =some q) (hw:q.void=false) (h:r.link=none) (ho:(thr R j).head? =some i):xV R S (.hang i j) (.txt "own thread") R S
 |hangW {i j:Nat} {r q:Row} (hi:R[i]? =some r) (hv:r.void=false) (hj:R[j]? =some q) (hw:q.void=false) (h:r.link=none) (ho:(thr R j).head? ≠some i) (h1:r.way=q.way):xV R S (.hang i j) (.txt "same way") R S
 |hangP {i j:Nat} {r q:Row} (hi:R[i]? =some r) (hv:r.void=false) (hj:R[j]? =some q) (hw:q.void=false) (h:r.link=none) (ho:(thr R j).head? ≠some i) (h1:r.way≠q.way) (h2:r.partner≠q.partner):xV R S (.hang i j) (.txt "other partner") R S
 |hangE {i j:Nat} {r q:Row} (hi:R[i]? =some r) (hv:r.void=false) (hj:R[j]? =some q) (hw:q.void=false) (h:r.link=none) (ho:(thr R j).head? ≠some i) (h1:r.way≠q.way) (h2:r.partner=q.partner) (h3:r.date<q.date):xV R S (.hang i j) (.txt "too early") R S
 |hang {i j:Nat} {r q:Row} (hi:R[i]? =some r) (hv:r.void=false) (hj:R[j]? =some q) (hw:q.void=false) (h:r.link=none) (ho:(thr R j).head? ≠some i) (h1:r.way≠q.way) (h2:r.partner=q.partner) (h3:q.date<=r.date):
   xV R S (.hang i j) (.txt "hung") (xP (laid R (thr R i) q.place) i λr=>{r with link:=some j}) S
 |oneN {m:Int} {e:xM} (h:zZ R m=false) (he:e= .loose m\/(∃d,e= .date m d)\/(∃t,e= .term m t)\/(∃w,e= .copy m w)\/(∃w,e= .file m w)\/e= .void m\/e= .state m\/e= .thread m\/e= .copies m):xV R S e (.txt "no letter") R S
 |looseN {k:Nat} {r:Row} (hk:R[k]? =some r) (hv:r.void=false) (h:r.link=none):xV R S (.loose k) (.txt "has none") R S
 |loose {k:Nat} {r:Row} (hk:R[k]? =some r) (hv:r.void=false) (h:r.link≠none):xV R S (.loose k) (.txt "loose") (xP R k λr=>{r with link:=none}) S
 |dateE {k:Nat} {r:Row} {d:Int} (hk:R[k]? =some r) (hv:r.void=false) (h:(∃j,r.link=some j/\d<dt R j)\/∃c∈zU R k,dt R c<d):xV R S (.date k d) (.txt "too early") R S
 |date {k:Nat} {r:Row} {d:Int} (hk:R[k]? =some r) (hv:r.void=false) (h1:∀j,r.link=some j->dt R j<=d) (h2:∀c∈zU R k,d<=dt R c):xV R S (.date k d) (.txt "dated") (xP R k λr=>{r with date:=d}) S
 |termN {k:Nat} {r:Row} {t:Int} (hk:R[k]? =some r) (hv:r.void=false) (h:t<0):xV R S (.term k t) (.txt "no term") R S
 |term {k:Nat} {r:Row} {t:Int} (hk:R[k]? =some r) (hv:r.void=false) (h:0<=t):xV R S (.term k t) (.txt "set") (xP R k λr=>{r with term:=t}) S
 |copyC {k:Nat} {r:Row} {w:Str} (hk:R[k]? =some r) (hv:r.void=false) (h:w=r.partner\/w∈r.copies):xV R S (.copy k w) (.txt "copied") R S
 |copy {k:Nat} {r:Row} {w:Str} (hk:R[k]? =some r) (hv:r.void=false) (h:w≠r.partner) (h2:w∉r.copies):xV R S (.copy k w) (.num (r.copies.length+1)) (xP R k λr=>{r with copies:=r.copies++ [w] }) S
 |file {k:Nat} {r:Row} {w:Str} (hk:R[k]? =some r) (hv:r.void=false):xV R S (.file k w) (.num (thr R k).length) (laid R (thr R k) w) S
 |voidA {k:Nat} {r:Row} (hk:R[k]? =some r) (hv:r.void=false) (h:zU R k≠ []):xV R S (.void k) (.txt "answered") R S
 |void {k:Nat} {r:Row} (hk:R[k]? =some r) (hv:r.void=false) (h:zU R k= []):xV R S (.void k) (.txt "void") (xP R k λr=>{r with link:=none,void:=true}) S
 |shutN {d:Int} (h:Dm.cts S d=false):xV R S (.shut d) (.txt "counts not") R S
 |shut {d:Int} (h:Dm.cts S d=true):xV R S (.shut d) (.txt "shut") R (S++ [d])
 |state {k:Nat} {r:Row} (hk:R[k]? =some r) (hv:r.void=false):xV R S (.state k) (.row r) R S
 |thread {k:Nat} {r:Row} (hk:R[k]? =some r) (hv:r.void=false):xV R S (.thread k) (.nums (thr R k)) R S
 |copies {k:Nat} {r:Row} (hk:R[k]? =some r) (hv:r.void=false):xV R S (.copies k) (.txts r.copies) R S
 |letters {w:Str}:xV R S (.letters w) (.nums ((bK0 R.length).filter λk=>match R[k]? with|some r=> !r.void && decide (r.place=w)|none=>false)) R S
 |on {late:Bool} {d:Int} {l:List Nat} (h:bZk R S d late l):xV R S (.on late d) (.nums l) R S
end Bk
namespace Bk
open PySem (Str)
open Stree (qC uX zV)
theorem zY.head{R:Rows}{j:Nat}(i:j<R.length){l:List Nat}(h:zY R j l):∃c,Fm.Ok R.length (lk R) c/\l.head? =some (Fm.tp (lk R) c j):=by
 obtain⟨c,o,p,e⟩:=h;refine⟨c,o,?_⟩;have f:=Fm.bQj o i;have g:Fm.tp (lk R) c j∈l:=(e _).mpr ⟨f.1,Fm.bVy o i⟩;cases l with
 |nil=>cases g
 |cons x r=>
  by_cases z:x=Fm.tp (lk R) c j
  ·rw[z];rfl
  ·exfalso;obtain⟨a,b⟩:=cQb.mp p;have d:=(e x).mp bK2;have m:Fm.tp (lk R) c j∈r:=by
    rcases bKW.mp g with w|w
    ·exact absurd w.symm z
    ·exact w
   have s:=a _ m;have n:Fm.Un (lk R) (dt R) c (Fm.tp (lk R) c j) x:=by have:=Fm.bWE (D:=dt R) o d.1;rw[d.2]at this;exact this
   have q:=Fm.bWD o f.1 d.1 n z;have k:=Stree.Y1 s q;rw[Stree.vB]at k;cases k
theorem jD{R:Rows}(t:uT R){j:Nat}(b:j<R.length):∃a,Fm.Ok R.length (lk R) a/\(thr R j).head? =some (Fm.tp (lk R) a j):=(Z4 t j).head b
theorem wC{R:Rows}{k:Nat}{r:Row}(h:R[k]? =some r):k<R.length:=(bKZ.mp h).1
theorem vY{R:Rows}{k:Nat}{r:Row}(h:R[k]? =some r):lk R k=r.link:=by unfold lk;rw[h];rfl
theorem wY{R:Rows}{k:Nat}{r:Row}(h:R[k]? =some r):dt R k=r.date:=by unfold dt;rw[h];rfl
theorem xV.tree{R l:Rows}{S u:List Int}{e:xM}{a:Ans}(t:uT R)(h:xV R S e a l u):uT l:=by
 cases h with
 |enter h=>exact t.enter _ λj c=>nomatch c
 |reply b h v w=>exact t.enter _ λj c=>by cases c;exact wC b
 |@hang i j r q k d c hw h s n m x=>
  obtain⟨f,o,p⟩:=jD t (wC c);have g:Fm.tp (lk R) f j≠i:=λz=>s (by rw[p,z]);refine uT.hang (R:=laid R (thr R i) q.place) (rk:=f) (i:=i) (j:=j) ?_ ?_ ?_ ?_ ?_ _ λ_=>rfl
  ·rw[wJ,Q8];exact o
  ·rw[wJ];exact wC k
  ·rw[wJ];exact wC c
  ·rw[Q8,vY k];exact h
  ·rw[Q8];exact g
 |loose b d h=>exact t.loose (wC b) _ λ_=>rfl
 |date b d n m=>exact t.same _ _ λ_=>rfl
 |term b d h=>exact t.same _ _ λ_=>rfl
 |copy b d h m=>exact t.same _ _ λ_=>rfl
 |file b d=>exact t.laid _ _
 |void b d h=>exact t.loose (wC b) _ λ_=>rfl
 |_=>exact t
theorem bZc:uT []:=⟨λ_=>0,⟨λi j a=>absurd a (cQw _)⟩⟩
end Bk
namespace Bk
open PySem (Str)
open Stree (qC uX zV)
def bVG(r q:Row):Prop:=r.void=false/\q.void=false/\r.way≠q.way/\r.partner=q.partner/\q.date<=r.date/\r.place=q.place
structure qP(R:Rows):Prop where
 tree:uT R
 way:∀r∈R,r.way="in"\/r.way="out"
 ans:∀ (i j:Nat)(r:Row),R[i]? =some r->r.link=some j->∃q,R[j]? =some q/\bVG r q
theorem aXc:qP [] where
 tree:=bZc
 way:=λr h=>absurd h (by simp)
 ans:=λi j r h=>by simp at h
theorem aVg{w:Str}(h:w="in"\/w="out"):jF w≠w/\(jF w="in"\/jF w="out"):=by
 rcases h with rfl|rfl
 ·exact⟨by decide,.inr rfl⟩
 ·exact⟨by decide,.inl rfl⟩
theorem aQe{R:Rows}{i:Nat}{f:Row->Row}{r:Row}(h:r∈xP R i f):r∈R\/∃q∈R,r=f q:=by
 unfold xP at h;split at h
 ·rename_i q a;rcases List.mem_or_eq_of_mem_set h with h|h
  ·exact .inl h
  ·exact .inr ⟨q,bK5 a,h⟩
 ·exact .inl h
theorem aZS{R:Rows}(h:∀r∈R,r.way="in"\/r.way="out")(i:Nat)(f:Row->Row)(c:∀r,(f r).way=r.way):∀r∈xP R i f,r.way="in"\/r.way="out":=λr a=>by
 rcases aQe a with a|⟨q,b,rfl⟩
 ·exact h r a
 ·rw[c];exact h q b
theorem aVL{name:Str}:∀ (l:List Nat) {R:Rows},(∀r∈R,r.way="in"\/r.way="out")->∀r∈laid R l name,r.way="in"\/r.way="out"
 |[],R,h=>h
 |k::l,R,h=>aVL l (aZS h k (λr=>{r with place:=name}) λ_=>rfl)
theorem bJt{R:Rows}{k i:Nat}{r:Row}(h:zU R k= [])(a:R[i]? =some r):r.link≠some k:=λe=>by
 have:i∈zU R k:=bYP.mpr ⟨bYj.mpr (wC a),decide_eq_true (by rw[vY a];exact e)⟩;rw[h]at this;cases this
theorem bQY{R:Rows}{k i:Nat}{r:Row}(a:R[i]? =some r)(e:r.link=some k):i∈zU R k:=
 bYP.mpr ⟨bYj.mpr (wC a),decide_eq_true (by rw[vY a];exact e)⟩
theorem bZa{R:Rows}(t:uT R){i a b:Nat}{r:Row}(c:R[a]? =some r)(e:r.link=some b)(d:b<R.length):a∈thr R i↔b∈thr R i:=by
 obtain⟨f,o,_,h⟩:=Z4 t i;rw[h a,h b,Fm.v9 o (wC c) (by rw[vY c];exact e)];exact⟨λz=>⟨d,z.2⟩,λz=>⟨wC c,z.2⟩⟩
theorem bZb{R:Rows}(t:uT R){i:Nat}(a:i<R.length):i∈thr R i:=by
 obtain⟨b,o,_,h⟩:=Z4 t i;exact(h i).mpr ⟨a,rfl⟩
theorem qP.laid{R:Rows}(b:qP R)(i:Nat)(name:Str):qP (laid R (thr R i) name) where
 tree:=b.tree.laid _ _
 way:=aVL _ b.way
 ans:=λx j r hx hl=>by
  rw[vX]at hx
  have back:∃r0,R[x]? =some r0/\r=(if x∈thr R i then {r0 with place:=name}else r0):=by
   by_cases hm:x∈thr R i
   ·rw[if_pos hm]at hx
    cases e:R[x]? with
    |none=>rw[e]at hx;cases hx
    |some r0=>rw[e]at hx;cases hx;exact⟨r0,rfl,by rw[if_pos hm]⟩
   ·rw[if_neg hm]at hx
    exact⟨r,hx,by rw[if_neg hm]⟩
  obtain⟨r0,h0,e0⟩:=back
  have hl0:r0.link=some j:=by rw[e0]at hl;split at hl<;> exact hl
  obtain⟨q0,hq0,f1,f2,f3,f4,f5,f6⟩:=b.ans x j r0 h0 hl0
  have hiff:=bZa (i:=i) b.tree h0 hl0 (wC hq0)
  refine⟨if j∈thr R i then {q0 with place:=name}else q0,by rw[vX,hq0];split<;> rfl,?_⟩
  by_cases hm:x∈thr R i
  ·rw[if_pos (hiff.mp hm),e0,if_pos hm]
   exact⟨f1,f2,f3,f4,f5,rfl⟩
  ·rw[if_neg (λz=>hm (hiff.mpr z)),e0,if_neg hm]
   exact⟨f1,f2,f3,f4,f5,f6⟩
theorem qP.set{R:Rows}(b:qP R){k:Nat}{f:Row->Row}(t:uT (xP R k f))(hw:∀r,(f r).way=r.way)(h1:∀r j q,R[k]? =some r->(f r).link=some j->j≠k->R[j]? =some q->bVG (f r) q/\True)(h0:∀r j,R[k]? =some r->(f r).link=some j->j≠k/\j<R.length)
  (h2:∀r i q,R[k]? =some r->R[i]? =some q->i≠k->q.link=some k->bVG q (f r)):qP (xP R k f) where
 tree:=t
 way:=aZS b.way k f hw
 ans:=λi j r hi hl=>by
  rw[zA]at hi
  by_cases e:i=k
  ·subst e
   rw[if_pos rfl]at hi
   cases e0:R[i]? with
   |none=>rw[e0]at hi;cases hi
   |some r0=>
    rw[e0]at hi
    cases hi
    obtain⟨hjk,hjl⟩:=h0 r0 j e0 hl
    have hq:=bKM hjl
    exact⟨R[j],by rw[zA,if_neg hjk];exact hq,(h1 r0 j _ e0 hl hjk hq).1⟩
  ·rw[if_neg e]at hi
   obtain⟨q,hq,hf⟩:=b.ans i j r hi hl
   by_cases ej:j=k
   ·subst ej
    exact⟨f q,by rw[zA,if_pos rfl,hq];rfl,h2 q i r hq hi e hl⟩
   ·exact⟨q,by rw[zA,if_neg ej];exact hq,hf⟩
theorem aKK{R:Rows}(t:uT R){k j:Nat}{r:Row}(h:R[k]? =some r)(e:r.link=some j):j≠k:=λz=>by
 obtain⟨a,o⟩:=t;have:=(o.lt k j (wC h) (by rw[vY h];exact e)).2;rw[z]at this;omega
theorem xV.book{R R':Rows}{S S':List Int}{e:xM}{a:Ans}(b:qP R)(hw:∀F d w t,e= .enter F d w t->F="in"\/F="out")(h:xV R S e a R' S'):qP R':=by
 have C:=h.tree b.tree;have U:∀ (r:Row)(j:Nat) {i:Nat} {x:Row},R[i]? =some x->x.link=some j->∃q,(R++ [r])[j]? =some q/\bVG x q:=λr j {i x} m hl=>by obtain⟨q,n,B⟩:=b.ans i j x m hl;exact⟨q,by rw[bYA (wC n)];exact n,B⟩
 have snoc:∀r:Row,(r.way="in"\/r.way="out")->(∀j,r.link=some j->∃q,R[j]? =some q/\bVG r q)->uT (R++ [r])->qP (R++ [r]):=λr v p t=>⟨t,λx g=>by
   rcases bYs.mp g with g|g
   ·exact b.way x g
   ·rw[bK4.mp g];exact v,λi j x m hl=>by
   by_cases Y:i<R.length
   ·rw[bYA Y]at m;exact U r j m hl
   ·have X:i<(R++ [r]).length:=(bKZ.mp m).1;rw[bYh,bYX]at X;have:i=R.length:=by omega
    subst this;rw[bYc (bKU _)]at m;simp at m;subst m;obtain⟨q,n,B⟩:=p j hl;exact⟨q,by rw[bYA (wC n)];exact n,B⟩⟩
 have plain:∀ (k:Nat)(f:Row->Row),(∀r,(f r).way=r.way/\(f r).date=r.date/\(f r).partner=r.partner/\(f r).link=r.link/\(f r).place=r.place/\(f r).void=r.void)->uT (xP R k f)->qP (xP R k f):=λk f B t=>by
  refine b.set t (λr=>(B r).1) (λr j q l hl a3 n=>?_) (λr j l hl=>?_) (λr i q l m a2 hl=>?_)
  ·obtain⟨g1,g2,g3,g4,g5,Q⟩:=B r;rw[g4]at hl;obtain⟨M,c,v,p,L,h4,Z,W⟩:=b.ans k j r l hl;rw[n]at c;cases c;exact⟨⟨by rw[Q];exact v,p,by rw[g1];exact L,by rw[g3];exact h4,by rw[g2];exact Z,by rw[g5];exact W⟩,trivial⟩
  ·rw[(B r).2.2.2.1]at hl;obtain⟨q,n,_⟩:=b.ans k j r l hl;exact⟨aKK b.tree l hl,wC n⟩
  ·obtain⟨g1,g2,g3,g4,g5,Q⟩:=B r;obtain⟨M,c,v,p,L,h4,Z,W⟩:=b.ans i k q m hl;rw[l]at c;cases c;exact⟨v,by rw[Q];exact p,by rw[g1];exact L,by rw[g3];exact h4,by rw[g2];exact Z,by rw[g5];exact W⟩
 cases h with
 |enter h=>exact snoc _ (hw _ _ _ _ rfl) (λj A=>nomatch A) C
 |@reply k d t r l h ht hd=>have N:=b.way r (bK5 l);exact snoc _ (aVg N).2 (λj A=>by cases A;exact⟨r,l,rfl,h,(aVg N).1,rfl,hd,rfl⟩) C
 |@hang i j r q m E A a1 h ho v p L=>
  have bl:=b.laid i q.place;obtain⟨rk,o,hh⟩:=jD b.tree (wC A);have O:Fm.tp (lk R) rk j≠i:=λz=>ho (by rw[hh,z]);have V:j∉thr R i:=λz=>by obtain⟨a0,o',_,hm⟩:=Z4 b.tree i;have z2:=((hm j).mp z).2;have z3:Fm.tp (lk R) a0 i=i:=Fm.zR (by rw[vY m];exact h);rw[z3,Fm.jY o' o (wC A)]at z2;exact O z2
  have T:=bZb b.tree (wC m);have gi:(laid R (thr R i) q.place)[i]? =some {r with place:=q.place}:=by rw[vX,if_pos T,m];rfl
  have gj:(laid R (thr R i) q.place)[j]? =some q:=by rw[vX,if_neg V];exact A
  refine bl.set C (λ_=>rfl) (λx y z g hl s P=>?_) (λx y g hl=>?_) (λx y z g s u hl=>?_)
  ·rw[gi]at g;cases g;cases hl;rw[gj]at P;cases P;exact⟨⟨E,a1,v,p,L,rfl⟩,trivial⟩
  ·cases hl;exact⟨λz=>O (by rw[z,Fm.zR (by rw[vY m];exact h)]),by rw[wJ];exact wC A⟩
  ·obtain⟨M,c,J,G,I,H,K,D⟩:=bl.ans y i z s hl;rw[g]at c;cases c;exact⟨J,G,I,H,K,D⟩
 |@loose k r l E h=>refine b.set C (λ_=>rfl) (λx y z g hl=>nomatch hl) (λx y g hl=>nomatch hl) (λx y z g s u hl=>?_);obtain⟨M,c,J,G,I,H,K,D⟩:=b.ans y k z s hl;rw[g]at c;cases c;exact⟨J,G,I,H,K,D⟩
 |@date k r d l E v p=>
  refine b.set C (λ_=>rfl) (λx y z g hl u P=>?_) (λx y g hl=>?_) (λx y z g s u hl=>?_)
  ·rw[l]at g;cases g;obtain⟨M,c,J,G,I,H,K,D⟩:=b.ans k y r l hl;rw[P]at c;cases c;exact⟨⟨J,G,I,H,by rw[<- wY P];exact v y hl,D⟩,trivial⟩
  ·obtain⟨q,n,_⟩:=b.ans k y x g hl;exact⟨aKK b.tree g hl,wC n⟩
  ·obtain⟨M,c,J,G,I,H,K,D⟩:=b.ans y k z s hl;rw[g]at c;cases c;exact⟨J,G,I,H,by rw[<- wY s];exact p y (bQY s hl),D⟩
 |term l E h=>exact plain _ _ (λr=>⟨rfl,rfl,rfl,rfl,rfl,rfl⟩) C
 |copy l E h p=>exact plain _ _ (λr=>⟨rfl,rfl,rfl,rfl,rfl,rfl⟩) C
 |file l E=>exact b.laid _ _
 |void l E h=>exact b.set C (λ_=>rfl) (λx y z g hl=>nomatch hl) (λx y g hl=>nomatch hl) (λx y z g s u hl=>absurd hl (bJt h s))
 |_=>exact b
end Bk
namespace Law
open PySem L2 PyProof.Rows
open Bk (Row Rows)
def aZa(x:Str):Stmt->Bool
 |.FunctionDef n _ _ _ _ _ _ _ _ _=>n==x
 |_=>false
def xF(x:Str):Stmt:=(PySem.Challenge.pw_letterdesk_k04_answers.main.body.find? (aZa x)).getD (.Pass ⟨0,0,0,0⟩)
abbrev bJX:Stmt:=xF "_law_good"
abbrev bXB:Stmt:=xF "_law_kids_of"
theorem xD:bYy "len"=some (.builtin "len"):=dk
structure vH(mg:Str->Option bKN):Prop where
 b_len:mg "len"=none
 b_range:mg "range"=none
def wL:Option Nat->V
 |none=> .non
 |some j=> .int (j:Nat)
def bVL(H:Hp)(b:Nat)(r:Row):Prop:=∃a,H b=some (.lst [.str r.way,.int r.date,.str r.partner,.int r.term,wL r.link,.str r.place,.bl r.void,.ref a])/\H a=some (.lst (r.copies.map V.str))
structure y7(H:Hp)(ra:Nat)(rs:List Nat)(R:Rows):Prop where
 lst:H ra=some (.lst (rs.map V.ref))
 len:rs.length=R.length
 nd:rs.Nodup
 row:∀ (i:Nat)(b:Nat)(r:Row),rs[i]? =some b->R[i]? =some r->bVL H b r
theorem y7.get{H:Hp}{e:Nat}{a:List Nat}{R:Rows}(h:y7 H e a R){i:Nat}{r:Row}(d:R[i]? =some r):∃b,(a.map V.ref)[i]? =some (.ref b)/\a[i]? =some b/\bVL H b r:=by
 have f:i<a.length:=by rw[h.len];exact Bk.wC d
 have c:=bKM f;exact⟨a[i],by rw[bK7,c];rfl,c,h.row i _ r c d⟩
def Z3:Sp:=λb H Q _=>∃ (a:Nat)(c:List Nat)(R:Rows)(m:Int),b= [.ref a,.int m]/\y7 H a c R/\Q (.bl (Bk.zZ R m)) H
section
variable {K:bKP}
theorem bVa:yM ["_law_rows","_law_number"] ["_law_rows","_law_number"] (yH bJX):=scM
theorem bJy(T:vH mg)(F:Fun K "_law_good" "_law_good" bJX f fd):y8 P w K mg base CX0 1 f fd ["_law_rows","_law_number"] Z3:=by
 have n:=bVa;refine F.ok (k:=0) n (λo A outer s H u Q E p h=>?_);obtain⟨e,j,R,m,rfl,a,q⟩:=h;refine⟨_,(yF (yP (aVj (zG aK9 yE (pv 1)) (aVj (zG vE (pv 1) (yU yQ rfl T.b_len xD (yA (pv 0) yD))) (aZu (bZF (yL yK (yL yK (pv 0) (pv 1)) yE))))))),?_⟩;refine⟨_,rfl,_,_,rfl,rfl,_,rfl,?_⟩;unfold Bk.zZ at q;cases d:decide (0<=m)with
 |false=>rw[d,Bool.false_and]at q;exact onF rfl q
 |true=>
  rw[d,Bool.true_and]at q;have h0:0<=m:=of_decide_eq_true d;refine onT rfl ⟨_,rfl,_,rfl,e,_,rfl,.inl (SqL.of a.lst),_,_,rfl,rfl,_,rfl,?_⟩;have hl:(j.map V.ref).length=R.length:=by rw[bKT];exact a.len
  rw[hl];obtain⟨k,rfl⟩:∃k:Nat,m=(k:Int):=⟨m.toNat,by omega⟩;rw[bYq]at q;cases g:decide ((k:Int)<(R.length:Nat))with
  |false=>
   have c:R.length<=k:=by have:=of_decide_eq_false g;omega
   rw[bYl c]at q;exact onF rfl q
  |true=>
   have c:k<R.length:=by have:=of_decide_eq_true g;omega
   obtain⟨b,i,r,t,l,v⟩:=a.get (bKM c);rw[bKM c]at q;refine onT rfl ⟨_,rfl,_,rfl,e,_,_,_,rfl,rfl,SqL.of a.lst,yS i,b,_,6,_,rfl,rfl,SqL.of l,rfl,_,rfl,q⟩
theorem bVd:yM ["_law_rows","_law_number"] ["_law_rows","_law_number"] (yH bXB):=scM
theorem bJn:xH ["_law_rows","_law_number"] (yH bXB) "_law_k" ["_law_number","_law_rows"] [1,0] {kind:= .function,names:= [(".0",.local),("_law_k",.local),("_law_number",.free),("_law_rows",.free)],isGenerator:=false,isCoroutine:=false,more:= [] }:=
 lcM
def aVB:Sp:=λb H Q _=>∃ (a:Nat)(c:List Nat)(R:Rows)(m:Nat),b= [.ref a,.int (m:Nat)]/\y7 H a c R/\R.length<=100/\∀r,H r=none->Q (.ref r) (upd H r (.lst ((Bk.zU R m).map λi=>V.int (i:Nat))))
theorem aZ6{o:Option Nat}{m:Nat}:decide (wL o=V.int (m:Nat))=decide (o=some m):=by
 cases o with
 |none=>rfl
 |some j=>show decide (V.int (j:Nat)=V.int (m:Nat))=decide (some j=some m);rw[Bool.eq_iff_iff];simp;omega
theorem bJB(T:vH mg)(F:Fun K "_law_kids_of" "_law_kids_of" bXB f fd):y8 P w K mg base CX0 1 f fd ["_law_rows","_law_number"] aVB:=by
 have u:=bVd;refine F.ok (k:=0) u (λv A outer s H B Q E x h=>?_);obtain⟨d,o,R,m,rfl,c,hR,q⟩:=h;refine⟨_,(yF (yP (aQm bJn rfl (zN rfl T.b_range (yA (yU yQ rfl T.b_len xD (yA (pv 0) yD)) yD)) (λ_ _ _ _ _=>(wM (yN x5 (yL (show IxR _ (aXO K)from yK) (yL (show IxR _ (aXO K)from yK) (pv 2) (pv 0)) yE) (pv 1)))) (λ_ _ _ _ _=>(pv 0))))),?_⟩;have hl:(o.map V.ref).length=R.length:=by rw[bKT];exact c.len
 refine⟨_,rfl,d,_,rfl,.inl (SqL.of c.lst),?_⟩;rw[hl];refine⟨_,rfl,by omega,by omega,λD e=>?_⟩;rw[bYq];refine W4 (λk=>decide (Bk.lk R k=some m)) (λk=>V.int (k:Nat)) e (by rw[bYm];omega) (λk i j r l a=>?_) (λk i _ j r l a=>⟨_,rfl,a⟩) (q D e);obtain⟨b,p,y,z,n,C⟩:=c.get (bKM i);have g:j d=some (.lst (o.map V.ref)):=by rw[l d (yJ c.lst e)];exact c.lst
 have t:j b=_:=(l b (yJ n e)).trans n;refine⟨_,rfl,_,rfl,d,_,_,_,rfl,rfl,SqL.of g,yS p,b,_,4,_,rfl,rfl,SqL.of t,rfl,_,rfl,?_,_,rfl,?_⟩
 ·cases R[k].link<;> rfl
 ·rw[aZ6,<- Bk.vY (bKM i)];exact a
end
end Law
namespace L2
open PySem PySem.Spec PyProof.Rows
section
variable {X:Cx}
theorem aKc(T:X.calm=true):jM X (.builtin "min") (λD H Q=>∃ (p:Nat)(c:List Int),D= [.ref p]/\SqL X.K H p (c.map V.int)/\c≠ []/\∀m,m∈c->(∀x∈c,m<=x)->Q (.int m) H):=by
 intro E s σ H D us Q I r h;obtain⟨p,c,rfl,L,w,q⟩:=h;obtain⟨u,rfl,R⟩:=aQL r;cases R;obtain⟨a,F,y,Z⟩:=I.list L;have C:cXi a c:=aQ1 F;have f:a.length=c.length:=C.length;have l:0<a.length:=by rw[f];exact bY3.mpr w
 obtain⟨o,O,_⟩:=id y.isList;have n:p<s.heap.objs.size:=bK1 O;have d:∀ (i:Nat)(v:bKN),a.toArray[i]? =some v->∃t,v=Value.int (c.getD i 0) t:=λi v B=>cZO C i v (by simpa using B);refine call_min_walk (cZ1 y.isList ?_);refine⟨s.heap.objs.size,[s.heap.objs.size,p],[s.heap.objs.size],a.toArray.size,_,_,_,rfl,Walks.list (A:=X.A.in1) (by simpa using I.ok.hd T) _ p (bYb n) a.toArray,⟨⟨_,bYg _ rfl,rfl,rfl⟩,y.isList.push _⟩,λb g=>?_,by rw[bK6];exact l,CmpOf.ints_lt (λi=>c.getD i 0) d,λv Y tk B P=>?_⟩
 ·show b<(s.heap.push _).objs.size;rw[cQl];rcases bKW.mp g with rfl|g
  ·exact cQA _
  ·rw[bK4.mp g];exact bYU n
 ·obtain⟨t,rfl⟩:=d _ _ B;obtain⟨W,S⟩:=argBest_lt (λi=>c.getD i 0) (a.toArray.size - 1);have M:a.toArray.size=c.length:=by rw[bK6];exact f
  have g:argBest (λi j=>decide (c.getD i 0<c.getD j 0)) (a.toArray.size - 1)<c.length:=by omega
  refine⟨.int _,H,I.kept (t':=tk) λb G e=>P b G (λz=>by rw[bK4.mp z]at e;exact bYW _ (bK1 e)) (bKR _ e),⟨t,rfl⟩,q _ ?_ λx U=>?_⟩
  ·generalize argBest (λi j=>decide (c.getD i 0<c.getD j 0)) (a.toArray.size - 1)=k at g;simp[bYz,bKM g]
  ·obtain⟨j,N,e⟩:=bYC U;have:=S j (by omega);have J:c.getD j 0=x:=by simp[bYz,bKM N,e]
   rw[J]at this;exact this
end
end L2
namespace Law
open PySem L2 PyProof.Rows
open Bk (Row Rows)
abbrev aVs:Stmt:=xF "_law_waits_on"
theorem aW8:bYy "min"=some (.builtin "min"):=dk
theorem bVL.same{H a:Hp}{b:Nat}{r:Row}(h:bVL H b r)(k:xA H a):bVL a b r:=let ⟨cp,e1,e2⟩:=h;⟨cp,k _ _ e1,k _ _ e2⟩
theorem y7.same{H d:Hp}{a:Nat}{c:List Nat}{R:Rows}(h:y7 H a c R)(k:xA H d):y7 d a c R:=
 ⟨k _ _ h.lst,h.len,h.nd,λi b r e f=>(h.row i b r e f).same k⟩
def bQc:Sp:=λc H Q _=>∃ (a:Nat)(e:List Nat)(R:Rows)(k:Nat)(d:Int),c= [.ref a,.int (k:Nat),.int d]/\y7 H a e R/\R.length<=100/\k<R.length/\∀b,xA H b->Q (.bl (Bk.W1 R k d)) b
section
variable {K:bKP}
theorem bXW:yM ["_law_rows","_law_number","_law_date","_law_one","_law_dates"] ["_law_rows","_law_number","_law_date"] (yH aVs):=scM
theorem bQT:xH ["_law_rows","_law_number","_law_date","_law_one","_law_dates"] (yH aVs) "_law_k" ["_law_rows"] [0] {kind:= .function,names:= [(".0",.local),("_law_k",.local),("_law_rows",.free)],isGenerator:=false,isCoroutine:=false,more:= [] }:=
 lcM
def dtV(R:Rows):V->V
 |.int n=> .int (Bk.dt R n.toNat)
 |_=> .non
theorem bXn(T:vH mg)(u:mg "min"=none)(a:FnG P w K mg base 1 "_law_kids_of" ["_law_rows","_law_number"] aVB)(F:Fun K "_law_waits_on" "_law_waits_on" aVs f fd):y8 P w K mg base CX0 2 f fd ["_law_rows","_law_number","_law_date"] bQc:=by
 have Z:=bXW;refine F.ok (k:=1) Z (λa1 A outer s Y vs Q E U h=>?_);obtain⟨x,rs,R,k,d,rfl,B,hR,hk,q⟩:=h;refine⟨_,(yC (yT (i:=3) (yL yK (pv 0) (pv 1))) (yC (y6 (PW.pt (Z9 (x3 (yL yK (pv 3) yE)) (Z9 (yN vE (yL yK (pv 3) yE) yE) (jL (yN aQV (yL yK (pv 3) yE) (pv 2)))))) (yF (yP qL)) yR) (yC (aZx (i:=4) bQT rfl Z.nd rfl rfl (xI (xJ a U rfl (yA (pv 0) (yA (pv 1) yD)))) (λ_ _ _ _ _=>z7) (λ_ _ _ _ _=>(yL (show IxR _ (aXO K)from yK) (yL (show IxR _ (aXO K)from yK) (pv 1) (pv 0)) yE))) (yF (yP (bWe (zG (aVd U.units0) (pv 4) (y3 yD)) (aZu (zG aQV (yU (aKc rfl) rfl u aW8 (yA (pv 4) yD)) (pv 2))))))))),?_⟩;have p:=bKM hk;obtain⟨b,g1,g2,cp,H,g4⟩:=B.get p;have qw:Bk.W1 R k d=(!R[k].void && decide (1<=R[k].term) && decide (R[k].date<=d) && (Bk.zU R k).all λj=>decide (d<Bk.dt R j)):=by unfold Bk.W1;rw[p]
 rw[qw]at q;refine⟨_,rfl,_,rfl,x,_,_,_,rfl,rfl,SqL.of B.lst,yS g1,?_⟩;dsimp only[yX];refine⟨_,rfl,b,_,6,_,rfl,rfl,SqL.of H,rfl,_,rfl,?_⟩;cases o:R[k].void with
 |true=>rw[o]at q;exact onT rfl (onT rfl (q _ (xA.refl _)))
 |false=>
  rw[o]at q;refine onF rfl ⟨_,rfl,b,_,3,_,rfl,rfl,SqL.of H,rfl,_,_,rfl,rfl,_,rfl,?_⟩;cases ht:decide (R[k].term<1)with
  |true=>have:decide (1<=R[k].term)=false:=decide_eq_false (by have:=of_decide_eq_true ht;omega);rw[this]at q;exact onT rfl (onT rfl (q _ (xA.refl _)))
  |false=>
   have:decide (1<=R[k].term)=true:=decide_eq_true (by have:=of_decide_eq_false ht;omega);rw[this]at q;refine onF rfl ⟨_,rfl,b,_,1,_,rfl,rfl,SqL.of H,rfl,_,rfl,_,_,rfl,rfl,_,rfl,?_⟩;cases W:decide (R[k].date > d)with
   |true=>have:decide (R[k].date<=d)=false:=decide_eq_false (by have:=of_decide_eq_true W;omega);rw[this]at q;exact onT rfl (q _ (xA.refl _))
   |false=>
    have:decide (R[k].date<=d)=true:=decide_eq_true (by have:=of_decide_eq_false W;omega);rw[this]at q;refine onF rfl ?_;refine⟨_,rfl,_,rfl,x,rs,R,k,rfl,B,hR,λr M=>⟨r,rfl,⟨_,SqL.of yB⟩,λD C=>?_⟩⟩;have k1:=yG M (.lst ((Bk.zU R k).map λi=>V.int (i:Nat)));have n:=B.same k1;have a0:(Bk.zU R k).length<=R.length:=by have:=bYK (λj=>decide (Bk.lk R j=some k)) (bK0 R.length);rw[bYD]at this;exact this
    refine aZj (λ_=>true) (dtV R) (SqL.of yB) C (zn (by rw[bKT];omega)) (λv o H' R' _ h=>h) (λv o _ H' R' X y=>?_) ?_
    ·obtain⟨j,hj,rfl⟩:=bYQ.mp o;have N:j<R.length:=bYj.mp (bYP.mp hj).1;have t:=bKM N;obtain⟨bj,j1,j2,cj,j3,j4⟩:=n.get t;have I:H' x=some (.lst (rs.map V.ref)):=by rw[X x (yJ n.lst C)];exact n.lst
     have G:=(X bj (yJ j3 C)).trans j3;have e:dtV R (V.int (j:Nat))=V.int R[j].date:=by show V.int (Bk.dt R (j:Int).toNat)=_;rw[bYq,Bk.wY t]
     rw[e]at y;exact⟨_,rfl,_,rfl,x,_,_,_,rfl,rfl,SqL.of I,yS j1,bj,_,1,_,rfl,rfl,SqL.of G,rfl,y⟩
    ·have ff:((Bk.zU R k).map λi=>V.int (i:Nat)).filter (λ_=>true)=(Bk.zU R k).map λi=>V.int (i:Nat):=cXv.mpr λ_ _=>rfl;have em:((Bk.zU R k).map λi=>V.int (i:Nat)).map (dtV R)=((Bk.zU R k).map (Bk.dt R)).map V.int:=by
      rw[cQ6,cQ6];refine cZD λj _=>?_;show V.int (Bk.dt R (j:Int).toNat)=V.int (Bk.dt R j);rw[bYq]
     rw[ff,em];dsimp only[yX];have k2:=yG C (.lst (((Bk.zU R k).map (Bk.dt R)).map V.int));have g:upd (upd Y r (.lst ((Bk.zU R k).map λi=>V.int (i:Nat)))) D (.lst (((Bk.zU R k).map (Bk.dt R)).map V.int)) D=some (.lst (((Bk.zU R k).map (Bk.dt R)).map V.int)):=yB;have kA:=k1.trans k2;generalize upd (upd Y r (.lst ((Bk.zU R k).map λi=>V.int (i:Nat)))) D (.lst (((Bk.zU R k).map (Bk.dt R)).map V.int))=H2 at g kA ⊢;refine⟨_,rfl,z0,λpn S=>?_⟩;have L:=yG S (.lst []);refine⟨D,pn,_,rfl,rfl,SqL.of (L _ _ g),SqL.of yB,_,rfl,?_⟩;have z:=q _ (kA.trans L);cases c:Bk.zU R k with
     |nil=>rw[c]at z;exact onT rfl z
     |cons j l=>
      rw[c]at z;refine onF rfl ⟨_,rfl,D,(j::l).map (Bk.dt R),rfl,SqL.of (by rw[<- c];exact L _ _ g),by simp,λm hm O=>?_⟩;refine⟨_,rfl,_,_,rfl,rfl,?_⟩;have e:((!false && true && true && (j::l).all λj=>decide (d<Bk.dt R j)):Bool)=decide (m > d):=by
       rw[Bool.eq_iff_iff];simp only[Bool.not_false,Bool.true_and,cXS,decide_eq_true_eq];constructor
       ·intro h;obtain⟨i,J,rfl⟩:=bYQ.mp hm;exact h i J
       ·intro h i J;have:=O _ (bYQ.mpr ⟨i,J,rfl⟩);omega
      rw[e]at z;exact z
end
end Law
namespace Bk
theorem aX2:∀shut:List Int,∃C:List Int,C.Pairwise (·<·)/\∀d,d∈C↔d∈shut/\Dm.opn d=true
 |[]=>⟨[],.nil,λd=>by simp⟩
 |x::l=>by
  obtain⟨C,m,n⟩:=aX2 l;have ins:∀C:List Int,C.Pairwise (·<·)->∃g:List Int,g.Pairwise (·<·)/\∀d,d∈g↔d=x\/d∈C:=by
   intro C;induction C with
   |nil=>intro _;exact⟨[x],cQa _ _,λd=>by simp⟩
   |cons y C p=>
    intro h;obtain⟨a,b⟩:=cQb.mp h;by_cases e:x=y
    ·subst e;exact⟨x::C,h,λd=>by simp⟩
    ·by_cases k:x<y
     ·refine⟨x::y::C,cQb.mpr ⟨λd f=>?_,h⟩,λd=>by simp⟩;rcases bKW.mp f with rfl|f
      ·exact k
      ·have:=a d f;omega
     ·obtain⟨g,j,i⟩:=p b;refine⟨y::g,cQb.mpr ⟨λd f=>?_,j⟩,λd=>?_⟩
      ·rcases(i d).mp f with rfl|f
       ·omega
       ·exact a d f
      ·rw[bKW,i d,bKW];constructor
       ·rintro(h|h|h)
        ·exact .inr (.inl h)
        ·exact .inl h
        ·exact .inr (.inr h)
       ·rintro(h|h|h)
        ·exact .inr (.inl h)
        ·exact .inl h
        ·exact .inr (.inr h)
  by_cases o:Dm.opn x=true
  ·obtain⟨g,j,i⟩:=ins C m;refine⟨g,j,λd=>?_⟩;rw[i d,n d,bKW];constructor
   ·rintro(rfl|⟨h,c⟩)
    ·exact⟨.inl rfl,o⟩
    ·exact⟨.inr h,c⟩
   ·rintro⟨h|h,c⟩
    ·exact .inl h
    ·exact .inr ⟨h,c⟩
  ·refine⟨C,m,λd=>?_⟩;rw[n d,bKW];constructor
   ·rintro⟨h,c⟩;exact⟨.inr h,c⟩
   ·rintro⟨h|h,c⟩
    ·rw[h]at c;exact absurd c o
    ·exact⟨h,c⟩
theorem bVV(shut:List Int)(d:Int){t:Int}(c:1<=t):Dm.Due shut d t (due shut d t):=by
 obtain⟨C,a,b⟩:=aX2 shut;have h:=Dm.bZr (date:=d) c a b;rw[bZq h];exact h
end Bk
namespace Law
open PySem L2 PyProof.Rows
open Bk (Row Rows)
abbrev aYt:Stmt:=xF "_law_due_by"
abbrev aXz:Stmt:=xF "_law_list_on"
theorem wP:bYy "sorted"=some (.builtin "sorted"):=dk
def aY4(K:bKP):Sp:=λc H Q _=>∃ (a:Nat)(b:List Int)(d t D:Int),c= [.ref a,.int d,.int t]/\SqL K H a (b.map V.int)/\Dm.Due b d t D/\Q (.int D) H
section
variable {K:bKP}
theorem uW(d:Int):∀ns:List Int,inV (.int d) (ns.map V.int)=ns.contains d
 |[]=>rfl
 |n::r=>by have a:=uW d r;unfold inV at a ⊢;rw[bYx,cQ2,a,cQ5];congr 1;show(n==d)=(d==n);rw[Bool.eq_iff_iff,beq_iff_eq,beq_iff_eq];exact eq_comm
theorem uJ:∀ns:List Int,(ns.map V.int).all Z7=true
 |[]=>rfl
 |n::r=>by rw[bYx,cXX,uJ r];rfl
theorem bXL:yM ["_law_shut","_law_date","_law_term","_law_many"] ["_law_shut","_law_date","_law_term"] (yH aYt):=scM
theorem bXc(T:vH mg)(F:Fun K "_law_due_by" "_law_due_by" aYt f fd):y8 P w K mg base CX0 1 f fd ["_law_shut","_law_date","_law_term"] (aY4 K):=by
 have J:=bXL;refine F.ok (k:=0) J (λL A outer s I N Q E M h=>?_);obtain⟨a,g,d,t,D,rfl,C,r,q⟩:=h;refine⟨_,(yC (yT (i:=3) yE) (yC (u9 bYI (yN vE (pv 3) (pv 2)) (yC (yT (i:=1) (yV x8 (pv 1) yE)) (yF (y6 (PW.pt (vP (yN vE (yV y0 (pv 1) yE) yE) (wU (yN Z1 (pv 1) (pv 0))))) (yF (yT (i:=3) (yV x8 (pv 3) yE))) yR)))) (yF (yP (pv 1))))),?_⟩;refine⟨λm σ H=>∃n:Nat,σ= [some (.ref a),some (.int (d+n)),some (.int t),some (.int (Dm.cnt g (d+1) n))]/\H=I/\d+n<=D/\m=(D - (d+n)).toNat,⟨(D - d).toNat,0,?_,rfl,by have:=r.later;omega,by simp⟩,?_⟩
 ·rw[show d+((0:Nat):Int)=d by simp];rfl
 rintro m σ H ⟨n,rfl,rfl,p,rfl⟩;refine⟨_,rfl,_,rfl,_,_,rfl,rfl,_,rfl,?_⟩;refine qB (λc=>?_) (λc=>?_)
 ·have v:((Dm.cnt g (d+1) n:Nat):Int)<t:=of_decide_eq_true c;have G:d+n<D:=by
   by_cases e:d+n=D
   ·have:=r.cnt;rw[<- e,show(d+n - d).toNat=n by omega]at this;omega
   ·omega
  refine⟨λo y=>∃u,u<(D - (d+n)).toNat/\∃n:Nat,o= [some (.ref a),some (.int (d+n)),some (.int t),some (.int (Dm.cnt g (d+1) n))]/\y=H/\d+n<=D/\u=(D - (d+n)).toNat,λo y z=>z,?_⟩;refine⟨_,rfl,_,_,rfl,rfl,?_⟩;dsimp only[yX];have l:Dm.cnt g (d+1) (n+1)=Dm.cnt g (d+1) n+(if Dm.cts g (d+1+n)then 1 else 0):=rfl;have j:d+((n+1:Nat):Int)=d+n+1:=by omega
  refine⟨_,rfl,_,_,rfl,rfl,(show(0:Int)<7 by decide),_,_,rfl,rfl,_,rfl,?_⟩;have b:Dm.cts g (d+1+n)=(decide ((d+n+1) % 7<5) && !(g.contains (d+n+1))):=by rw[show d+1+(n:Int)=d+n+1 by omega];rfl
  cases x:decide ((d+(n:Int)+1) % 7<5)with
  |false=>rw[x,Bool.false_and]at b;rw[b]at l;refine onF rfl (onF rfl ⟨(D - (d+(n+1:Nat))).toNat,by omega,n+1,?_,rfl,by omega,rfl⟩);rw[l,j];rfl
  |true=>
   rw[x,Bool.true_and]at b;refine onT rfl ⟨_,rfl,_,rfl,a,_,rfl,.inl C,rfl,uJ g,_,rfl,?_⟩;rw[if_pos rfl,uW];cases B:g.contains (d+(n:Int)+1)with
   |true=>rw[B]at b;rw[b]at l;refine onF rfl ⟨(D - (d+(n+1:Nat))).toNat,by omega,n+1,?_,rfl,by omega,rfl⟩;rw[l,j];rfl
   |false=>rw[B]at b;rw[b]at l;refine onT rfl ⟨_,rfl,_,_,rfl,rfl,(D - (d+(n+1:Nat))).toNat,by omega,n+1,?_,rfl,by omega,rfl⟩;rw[l,j];simp
 ·have v:¬ ((Dm.cnt g (d+1) n:Nat):Int)<t:=of_decide_eq_false (Bool.eq_false_iff.mpr c);have e:d+n=D:=by
   refine Int.le_antisymm p (Int.not_lt.mp λz=>v (r.less z))
  refine⟨_,rfl,?_⟩;rw[e];exact q
noncomputable def jI (R:Rows) (shut:List Int) (k:Nat):Int:=Bk.due shut (Bk.dt R k) (((R[k]?).map (·.term)).getD 0)
noncomputable def qO (R:Rows) (shut:List Int) (d:Int) (a:Bool) (k:Nat):Bool:=Bk.W1 R k d && (!a || decide (jI R shut k<d))
def aVC:Sp:=λf H Q _=>∃ (c e:Nat)(g:List Nat)(R:Rows)(shut:List Int)(d:Int)(a:Bool),f= [.ref c,.ref e,.int d,.bl a]/\y7 H c g R/\H e=some (.lst (shut.map V.int))/\R.length<64/\
 ∀ (r:Nat)(b:Hp)(l:List Nat),xA H b->H r=none->b r=some (.lst (l.map λi=>V.int (i:Nat)))->Bk.bZk R shut d a l->Q (.ref r) b
def aW2(H:Hp)(g:Nat->Int)(k:Nat)(x:V):Prop:=∃p,x= .ref p/\H p=some (.tup [.int (g k),.int (k:Nat)])
theorem aW2.tk{H c:Hp}{g:Nat->Int}(t:∀a b,H a=some (.tup b)->c a=some (.tup b)){k:Nat}{x:V}(h:aW2 H g k x):aW2 c g k x:=let ⟨p,e,a⟩:=h;⟨p,e,t _ _ a⟩
theorem aXb{R:Rows}{k:Nat}{d:Int}(a:k<R.length)(h:Bk.W1 R k d=true):1<=R[k].term:=by
 unfold Bk.W1 at h;rw[bKM a]at h;simp only[Bool.and_eq_true,decide_eq_true_eq]at h;exact h.1.1.2
theorem aYO:yM ["_law_rows","_law_shut","_law_date","_law_late","_law_made","_law_k","_law_last"] ["_law_rows","_law_shut","_law_date","_law_late"] (yH aXz):=scM
theorem aKF:xH ["_law_rows","_law_shut","_law_date","_law_late","_law_made","_law_k","_law_last"] (yH aXz) "_law_pair" [] [] {kind:= .function,names:= [(".0",.local),("_law_pair",.local)],isGenerator:=false,isCoroutine:=false,more:= [] }:=
 lcM
theorem bXp{α β:Type}{F:α->β->Prop}:∀ {l:List α} {m:List β} {i:Nat} {y:β},bYH F l m->m[i]? =some y->∃x,l[i]? =some x/\F x y
 |_,_,0,_,.cons r _,h=>by simp at h;subst h;exact⟨_,rfl,r⟩
 |_,_,i+1,_,.cons _ t,h=>by simpa using bXp (i:=i) t (by simpa using h)
 |_,_,i,_,.nil,h=>by simp at h
theorem aQ5{α β:Type}{F:α->β->Prop}{x:α}{y:β}(r:F x y):∀ {l:List α} {m:List β},bYH F l m->bYH F (l++ [x]) (m++ [y])
 |_,_,.nil=> .cons r .nil
 |_,_,.cons a t=> .cons a (aQ5 r t)
theorem aQK{a H:Hp}{c:Nat}{o:HO}(k:xA a H)(h:a c=none):xA a (upd H c o):=λb u q=>by rw[yI (yJ q h)];exact k b u q
def bWL(H:Hp):V->V
 |.ref p=>match H p with
  |some (.tup [_,y])=>y
  |_=> .non
 |_=> .non
theorem aVu{H:Hp}{p:Nat}{x y:V}(h:H p=some (.tup [x,y])):bWL H (.ref p)=y:=by
 show(match H p with|some (.tup [_,y])=>y|_=>V.non)=y;rw[h]
theorem aK3(T:vH mg)(G:mg "sorted"=none)(o:FnG P w K mg base 2 "_law_waits_on" ["_law_rows","_law_number","_law_date"] bQc)(C:FnG P w K mg base 2 "_law_due_by" ["_law_shut","_law_date","_law_term"] (aY4 K)) (F:Fun K "_law_list_on" "_law_list_on" aXz f fd):y8 P w K mg base CX0 3 f fd ["_law_rows","_law_shut","_law_date","_law_late"] aVC:=by
 have sc:=aYO;refine F.ok (k:=2) sc (λc0 A outer s H0 vs Q E hr h=>?_);obtain⟨U,sa,rs,R,shut,d,c,rfl,hB,b6,hR,q⟩:=h;refine⟨_,(yC (yT (i:=4) (y3 yD)) (yC (wE bYI rfl (zN rfl T.b_range (yA (yU yQ rfl T.b_len xD (yA (pv 0) yD)) yD)) (y9 (i:=5)) (yF (y6 (x3 (xJ o hr rfl (yA (pv 0) (yA (pv 5) (yA (pv 2) yD))))) (yC (yT (i:=6) (xJ C hr rfl (yA (pv 1) (yA (yL yK (yL yK (pv 0) (pv 5)) yE) (yA (yL yK (yL yK (pv 0) (pv 5)) yE) yD))))) (yF (y6 (PW.pt (Z9 (uB (x3 (pv 3))) (jL (yN vE (pv 6) (pv 2))))) (yF (yY (uF bYn bYt bYu xG (pv 4) (yA (xL (yA (pv 6) (yA (pv 5) yD))) yD)))) yR))) yR))) (yF (yP (aQm aKF rfl (xI (yU uA rfl G wP (yA (pv 4) yD))) (λ_ _ _ _ _=>z7) (λ_ _ _ _ _=>(yL (show IxR _ (bZH K)from yW) (pv 0) yE))))))),?_⟩;refine⟨z0,λL a9=>?_⟩;dsimp only[yX];have k1:=yG a9 (.lst []);have hl:(rs.map V.ref).length=R.length:=by rw[bKT];exact hB.len
 refine⟨_,rfl,U,_,rfl,.inl (SqL.of (k1 _ _ hB.lst)),?_⟩;rw[hl];refine⟨_,rfl,by omega,by omega,?_⟩;rw[bYq];refine vK (λt σ H=>∃ (g:List V)(N O:Option V),σ= [some (.ref U),some (.ref sa),some (.int d),some (.bl c),some (.ref L),N,O]/\xA H0 H/\H L=some (.lst g)/\
  bYH (aW2 H (jI R shut)) ((bK0 t).filter (qO R shut d c)) g) ?_ ?_ ?_
 ·exact⟨[],none,none,rfl,k1,yB,.nil⟩
 ·rintro k σ H Z ⟨g,N,O,rfl,y,B,W⟩;rw[cXK];dsimp only[yX];have a8:=hB.same y;have Y:=bKM Z;rw[cQ9,bYV];have stay:∀H' N O,xA H H'->qO R shut d c k=false->∃ (g:List V)(p5 p6:Option V),[some (V.ref U),some (V.ref sa),some (V.int d),some (V.bl c),some (V.ref L),N,O]= [some (.ref U),some (.ref sa),some (.int d),some (.bl c),some (.ref L),p5,p6]/\xA H0 H'/\H' L=some (.lst g)/\
    bYH (aW2 H' (jI R shut)) ((bK0 k).filter (qO R shut d c)++ [k].filter (qO R shut d c)) g:=λH' N O kk e=>by
   have e3: [k].filter (qO R shut d c)= []:=by simp[e]
   rw[e3,bYY]
   exact⟨g,N,O,rfl,y.trans kk,kk _ _ B,Paired.mapP W λ_ _ z=>z.tk λa xs e=>kk _ _ e⟩
  refine⟨_,rfl,_,rfl,_,rfl,U,rs,R,k,d,rfl,a8,by omega,Z,λH2 M=>⟨_,rfl,?_⟩⟩;cases hw:Bk.W1 R k d with
  |false=>exact onF rfl (stay H2 _ _ M (by unfold qO;rw[hw];rfl))
  |true=>
   have b5:=aXb Z hw;have a0:=a8.same M;obtain⟨b,g1,g2,cp,g3,g4⟩:=a0.get Y;have hD:=Bk.bVV shut (Bk.dt R k) b5;have eD:jI R shut k=Bk.due shut (Bk.dt R k) R[k].term:=by unfold jI;rw[Y];rfl
   rw[<- eD,Bk.wY Y]at hD;refine onT rfl ?_;refine⟨_,rfl,_,rfl,_,rfl,U,_,_,_,rfl,rfl,SqL.of a0.lst,yS g1,b,_,1,_,rfl,rfl,SqL.of g3,rfl,_,rfl,_,rfl,U,_,_,_,rfl,rfl,SqL.of a0.lst,yS g1,b,_,3,_,rfl,rfl,SqL.of g3,rfl,?_⟩;refine⟨sa,shut,_,_,jI R shut k,rfl,SqL.of (M _ _ (y _ _ b6)),hD,?_⟩;dsimp only[yX];have a3:qO R shut d c k=true->bQg (tBM K "list" aYi (bVu 4) (aWW (bKs (aWW (bVu 6) (aWW (bVu 5) bX5))) bX5)) {nx:=λσ H=>∃ (g:List V)(N O:Option V),σ= [some (.ref U),some (.ref sa),some (.int d),some (.bl c),some (.ref L),N,O]/\xA H0 H/\H L=some (.lst g)/\bYH (aW2 H (jI R shut)) ((bK0 k).filter (qO R shut d c)++ [k].filter (qO R shut d c)) g,rt:=Q} [some (.ref U),some (.ref sa),some (.int d),some (.bl c),some (.ref L),some (.int (k:Nat)),some (.int (jI R shut k))] H2:=λe=>by
    have b1:=M _ _ B;refine⟨_,rfl,.inl ⟨rfl,_,SqL.of b1⟩,_,rfl,_,rfl,z2,λq3 b3=>?_⟩;have k5:=yG b3 (.tup [V.int (jI R shut k),V.int (k:Nat)]);have a7:=k5 _ _ b1;have il:g.length<=k:=by rw[<- W.length];exact bYo (bYK _ _) (by simp)
    have t6:∀a xs,upd H2 q3 (.tup [V.int (jI R shut k),V.int (k:Nat)]) a=some (.tup xs)->upd (upd H2 q3 (.tup [V.int (jI R shut k),V.int (k:Nat)])) L (.lst (g++ [V.ref q3])) a=some (.tup xs):=λa xs e=>by rw[yI (aQR e a7 (by intro z;cases z))];exact e
    have e3: [k].filter (qO R shut d c)= [k]:=by simp[e]
    refine⟨L,g,.ref q3,rfl,rfl,a7,zlt (by omega),g++ [.ref q3],_,_,rfl,aQK (y.trans (M.trans k5)) a9,yB,?_⟩;rw[e3];exact aQ5 ⟨q3,rfl,t6 _ _ yB⟩ (Paired.mapP W λ_ _ z=>z.tk λa xs e=>t6 _ _ (k5 _ _ (M _ _ e)))
   refine⟨_,rfl,_,rfl,?_⟩;by_cases n:c=true
   ·refine onF (by rw[n];rfl) ⟨_,rfl,_,rfl,_,_,rfl,rfl,_,rfl,?_⟩;cases b2:decide (jI R shut k<d)with
    |true=>exact onT rfl (a3 (by unfold qO;rw[hw,n,b2];rfl))
    |false=>exact onF rfl (stay H2 _ _ M (by unfold qO;rw[hw,n,b2];rfl))
   ·have hf:c=false:=by simpa using n
    exact onT (by rw[hf];rfl) (onT rfl (a3 (by unfold qO;rw[hw,hf];rfl)))
 ·rintro σ H1 ⟨g,N,O,rfl,y,B,W⟩;generalize I:(bK0 R.length).filter (qO R shut d c)=fam at W;have b0:fam.length=g.length:=W.length;have fn:fam.length<=R.length:=by rw[<- I];exact bYo (bYK _ _) (by simp)
  have a6:∀k,k∈fam↔k<R.length/\qO R shut d c k=true:=λk=>by rw[<- I,bYP,bYj]
  have b7:fam.Nodup:=by rw[<- I];exact cXT.sublist cQL
  refine⟨_,rfl,L,g,λm=>(jI R shut (fam.getD m 0),((fam.getD m 0:Nat):Int)),rfl,B,by omega,λa b ha hb e=>?_,λm x hx=>?_,λl j hl X b8=>?_⟩
  ·have D:fam.getD a 0=fam.getD b 0:=by have:=congrArg Prod.snd e;simp only at this;omega
   have a4:a<fam.length:=by omega
   have a5:b<fam.length:=by omega
   simp[bYz,bKM a4,bKM a5]at D;exact(cQy (h₀:=a4) (h₁:=a5) b7).mp D
  ·obtain⟨k,Z,p,e1,D⟩:=bXp W hx;have:fam.getD m 0=k:=by simp[bYz,Z]
   show ∃a,x=V.ref a/\H1 a=some (.tup [V.int (jI R shut (fam.getD m 0)),V.int ((fam.getD m 0:Nat):Int)]);rw[this];exact⟨p,e1,D⟩
  ·have hm:∀m∈j,m<g.length:=λm hm=>bYj.mp (X.mem_iff.mp hm);have M:=yG hl (.lst (j.map λi=>g.getD i .non));refine⟨l,rfl,⟨_,SqL.of yB⟩,λr S=>?_⟩;have b9:j.length=g.length:=by rw[X.length_eq,bYD]
   have a2:∀m∈j,∃p,g.getD m .non= .ref p/\H1 p=some (.tup [.int (jI R shut (fam.getD m 0)),.int ((fam.getD m 0:Nat):Int)]):=λm u=>by
    have J:=hm m u;have hg:g[m]? =some (g.getD m .non):=by simp[bYz,bKM J]
    obtain⟨k,Z,p,e1,D⟩:=bXp W hg;have:fam.getD m 0=k:=by simp[bYz,Z]
    rw[this];exact⟨p,e1,D⟩
   refine aZj (λ_=>true) (bWL H1) (SqL.of yB) S (zn (by rw[bKT];omega)) (λv hv H' R' _ h=>h) (λv hv _ H' R' hH a1=>?_) ?_
   ·obtain⟨m,u,rfl⟩:=bYQ.mp hv;obtain⟨p,e1,D⟩:=a2 m u;rw[e1]at a1 ⊢;have e4:=M _ _ D;have e5:=(hH p (yJ e4 S)).trans e4;rw[aVu D]at a1;exact⟨_,rfl,p,_,1,_,rfl,rfl,SqT.of e5,rfl,a1⟩
   ·have ff:(j.map λi=>g.getD i .non).filter (λ_=>true)=j.map λi=>g.getD i .non:=cXv.mpr λ_ _=>rfl;have e6:((j.map λi=>g.getD i .non).map (bWL H1))=(j.map λm=>fam.getD m 0).map λi=>V.int (i:Nat):=by
     rw[cQ6,cQ6];refine cZD λm u=>?_;obtain⟨p,e1,D⟩:=a2 m u;show bWL H1 (g.getD m .non)=V.int (fam.getD m 0:Nat);rw[e1];exact aVu D
    rw[ff,e6];refine q r _ (j.map λm=>fam.getD m 0) (y.trans (M.trans (yG S _))) ((y.trans M).fresh S) yB ⟨λk=>?_,?_⟩
    ·have b4:k∈j.map (λm=>fam.getD m 0)↔k∈fam:=by
      constructor
      ·intro h;obtain⟨m,u,rfl⟩:=bYQ.mp h;have J:m<fam.length:=by rw[b0];exact hm m u
       simp[bYz,bKM J]
      ·intro h;obtain⟨m,J,e⟩:=bYC h;refine bYQ.mpr ⟨m,X.mem_iff.mpr (bYj.mpr (by omega)),?_⟩;simp[bYz,bKM J,e]
     rw[b4,a6 k];unfold qO;rw[Bool.and_eq_true,Bool.or_eq_true,decide_eq_true_eq];refine and_congr Iff.rfl (and_congr Iff.rfl ?_);cases c<;> simp[jI]
    ·rw[cZd];exact b8
end
end Law
namespace Law
open PySem L2 PyProof.Rows
open Bk (Row Rows)
open Stree (qC uX zV)
abbrev aXy:Stmt:=xF "_law_family"
theorem wV{a H:Hp}{c:Nat}{o:HO}(k:xA a H)(h:a c=none):xA a (upd H c o):=λb u q=>by rw[yI (yJ q h)];exact k b u q
theorem jZ{H:Hp}{p:Nat}{c:List V}{o:HO}(h:H p=some (.lst c)):∀a b,H a=some (.tup b)->upd H p o a=some (.tup b):=λa b e=>by rw[yI (aQR e h (by intro z;cases z))];exact e
structure bZl(H:Hp)(ra:Nat)(rs:List Nat)(n:Nat)(L:Nat->Option Nat)(D:Nat->Int):Prop where
 lst:H ra=some (.lst (rs.map V.ref))
 len:rs.length=n
 row:∀i b,rs[i]? =some b->∃xs,H b=some (.lst xs)/\xs[1]? =some (.int (D i))/\xs[4]? =some (wL (L i))
def J7:Sp:=λe H Q _=>∃ (d:Nat)(f:List Nat)(n:Nat)(L:Nat->Option Nat)(b:Nat->Nat)(D:Nat->Int)(i:Nat),e= [.ref d,.int (i:Nat)]/\bZl H d f n L D/\Fm.Ok n L b/\n<=60/\i<n/\
 ∀ (c:Hp)(r:Nat)(a:List Nat),xA H c->H r=none->c r=some (.lst (a.map λi=>V.int (i:Nat)))->(a.Pairwise λx y=>uX (Fm.rd L D b x) (Fm.rd L D b y)=true)->(∀k,k∈a↔k<n/\Fm.tp L b k=Fm.tp L b i)->Q (.ref r) c
def Tk(H c:Hp):Prop:=∀a b,H a=some (.tup b)->c a=some (.tup b)
theorem xA.tk{H b:Hp}(k:xA H b):Tk H b:=λa c e=>k a _ e
theorem Tk.trans{H g d:Hp}(a:Tk H g)(b:Tk g d):Tk H d:=λc f e=>b c f (a c f e)
theorem qT.tk{H d:Hp}(k:Tk H d){b:Nat}{a:qC}(h:qT H b a):qT d b a:=let ⟨xs,e,z⟩:=h;⟨xs,k _ _ e,Paired.mapP z λ_ _ ⟨c,w1,w2⟩=>⟨c,w1,k _ _ w2⟩⟩
def bWH(H:Hp)(rd:Nat->qC)(k:Nat)(x:V):Prop:=∃p b,x= .ref p/\H p=some (.tup [.ref b,.int (k:Nat)])/\qT H b (rd k)
theorem bWH.tk{H d:Hp}{rd:Nat->qC}(t:Tk H d){k:Nat}{x:V}(h:bWH H rd k x):bWH d rd k x:=let ⟨p,b,e,a,c⟩:=h;⟨p,b,e,t _ _ a,qT.tk t c⟩
theorem qK{α β:Type}{F:α->β->Prop}:∀ {l:List α} {m:List β} {i:Nat} {y:β},bYH F l m->m[i]? =some y->∃x,l[i]? =some x/\F x y
 |_,_,0,_,.cons r _,h=>by simp at h;subst h;exact⟨_,rfl,r⟩
 |_,_,i+1,_,.cons _ t,h=>by simpa using qK (i:=i) t (by simpa using h)
 |_,_,i,_,.nil,h=>by simp at h
theorem aQj{α β:Type}{F:α->β->Prop}{x:α}{y:β}(r:F x y):∀ {l:List α} {m:List β},bYH F l m->bYH F (l++ [x]) (m++ [y])
 |_,_,.nil=> .cons r .nil
 |_,_,.cons a t=> .cons a (aQj r t)
section
variable {K:bKP}
theorem aYN:yM ["_law_rows","_law_number","_law_root","_law_keys","_law_k","_law_key","_law_top"] ["_law_rows","_law_number"] (yH aXy):=scM
theorem aKE:xH ["_law_rows","_law_number","_law_root","_law_keys","_law_k","_law_key","_law_top"] (yH aXy) "_law_pair" [] [] {kind:= .function,names:= [(".0",.local),("_law_pair",.local)],isGenerator:=false,isCoroutine:=false,more:= [] }:=
 lcM
def bWv(H:Hp):V->V
 |.ref p=>match H p with
  |some (.tup [_,y])=>y
  |_=> .non
 |_=> .non
theorem aVv{H:Hp}{p:Nat}{x y:V}(h:H p=some (.tup [x,y])):bWv H (.ref p)=y:=by
 show(match H p with|some (.tup [_,y])=>y|_=>V.non)=y;rw[h]
theorem aK2(T:vH mg)(a0:mg "sorted"=none)(F:Fun K "_law_family" "_law_family" aXy f fd):y8 P w K mg base CX0 2 f fd ["_law_rows","_law_number"] J7:=by
 have sc:=aYN;refine F.ok (k:=1) sc (λf4 A outer s H0 vs Q E hr h=>?_);obtain⟨X,rs,n,L,g,D,i,rfl,hR,ho,hn,hi,q⟩:=h;refine⟨_,(yC (yT (i:=2) (pv 1)) (yC (u9 bYI (yN wG (yL yK (yL yK (pv 0) (pv 2)) yE) x9) (yF (yT (i:=2) (yL yK (yL yK (pv 0) (pv 2)) yE)))) (yC (yT (i:=3) (y3 yD)) (yC (wE bYI rfl (zN rfl T.b_range (yA (yU yQ rfl T.b_len xD (yA (pv 0) yD)) yD)) (y9 (i:=4)) (yC (yT (i:=5) (xL (yA (xL (yA (yL yK (yL yK (pv 0) (pv 4)) yE) (yA (pv 4) yD))) yD))) (yC (yT (i:=6) (pv 4)) (yC (u9 bYI (yN wG (yL yK (yL yK (pv 0) (pv 6)) yE) x9) (yC (yT (i:=6) (yL yK (yL yK (pv 0) (pv 6)) yE)) (yF (yT (i:=5) (yV bJL (xL (yA (xL (yA (yL yK (yL yK (pv 0) (pv 6)) yE) (yA (pv 6) yD))) yD)) (pv 5)))))) (yF (y6 (yN x5 (pv 6) (pv 2)) (yF (yY (uF bYn bYt bYu xG (pv 3) (yA (xL (yA (pv 5) (yA (pv 4) yD))) yD)))) yR)))))) (yF (yP (aQm aKE rfl (xI (yU (Z6 hr) rfl a0 wP (yA (pv 3) yD))) (λ_ _ _ _ _=>z7) (λ_ _ _ _ _=>(yL (show IxR _ (bZH K)from yW) (pv 0) yE))))))))),?_⟩;have row:∀ {H:Hp} {t:Nat},xA H0 H->t<n->∃b I,(rs.map V.ref)[t]? =some (.ref b)/\H b=some (.lst I)/\I[1]? =some (.int (D t))/\I[4]? =some (wL (L t)):=λ{H t} k ht=>by
  have d9:t<rs.length:=by rw[hR.len];exact ht
  have hb:=bKM d9;obtain⟨I,h1,h2,h3⟩:=hR.row t _ hb;exact⟨rs[t],I,by rw[bK7,hb];rfl,k _ _ h1,h2,h3⟩
 refine⟨_,rfl,?_⟩;dsimp only[yX];refine⟨λm σ H=>∃t:Nat,σ= [some (.ref X),some (.int (i:Nat)),some (.int (t:Nat)),none,none,none,none]/\H=H0/\t<n/\Fm.tp L g t=Fm.tp L g i/\m=g t,⟨g i,i,rfl,rfl,hi,rfl,rfl⟩,?_⟩;rintro m σ H ⟨t,rfl,rfl,ht,c4,rfl⟩;obtain⟨b,I,g1,g2,g3,g4⟩:=row (xA.refl H) ht;refine⟨_,rfl,_,rfl,X,_,_,_,rfl,rfl,SqL.of hR.lst,yS g1,b,I,4,_,rfl,rfl,SqL.of g2,yS (j:=4) g4,rfl,_,rfl,?_⟩;cases hl:L t with
 |some j=>obtain⟨hj,b8⟩:=ho.lt t j ht hl;refine onT rfl ⟨λσ' H'=>∃m',m'<g t/\∃t:Nat,σ'= [some (.ref X),some (.int (i:Nat)),some (.int (t:Nat)),none,none,none,none]/\H'=H/\t<n/\Fm.tp L g t=Fm.tp L g i/\m'=g t,λσ' H' z=>z,?_⟩;refine⟨_,rfl,_,rfl,X,_,_,_,rfl,rfl,SqL.of hR.lst,yS g1,b,I,4,_,rfl,rfl,SqL.of g2,yS (j:=4) g4,?_⟩;rw[hl];exact⟨g j,b8,j,rfl,rfl,hj,by rw[<- c4,Fm.v9 ho ht hl],rfl⟩
 |none=>
  have c8:t=Fm.tp L g i:=by rw[<- c4,Fm.zR hl]
  subst c8;refine onF rfl ?_;refine⟨z0,λka d0=>?_⟩;dsimp only[yX];have k1:=yG d0 (.lst []);have c1:(rs.map V.ref).length=n:=by rw[bKT];exact hR.len
  refine⟨_,rfl,X,_,rfl,.inl (SqL.of (k1 _ _ hR.lst)),?_⟩;rw[c1];refine⟨_,rfl,by omega,by omega,?_⟩;rw[bYq];refine vK (λt σ H'=>∃ (d:List V)(o4 o5 o6:Option V),σ= [some (.ref X),some (.int (i:Nat)),some (.int (Fm.tp L g i:Nat)),some (.ref ka),o4,o5,o6]/\xA H H'/\H' ka=some (.lst d)/\
   bYH (bWH H' (Fm.rd L D g)) ((bK0 t).filter λk=>decide (Fm.tp L g k=Fm.tp L g i)) d) ?_ ?_ ?_
  ·exact⟨[],none,none,none,rfl,k1,yB,.nil⟩
  ·rintro k σ M hk ⟨d,o4,o5,o6,rfl,C,J,hP⟩;rw[cXK];dsimp only[yX];obtain⟨b,I,g1,g2,g3,g4⟩:=row C hk;have d8:=C _ _ hR.lst;refine⟨_,rfl,_,rfl,X,_,_,_,rfl,rfl,SqL.of d8,yS g1,b,I,1,_,rfl,rfl,SqL.of g2,yS (j:=1) g3,_,rfl,z2,λp1 a1=>⟨z1,λp2 b9=>?_⟩⟩;dsimp only[yX];have d4:=yG a1 (.tup [V.int (D k),V.int (k:Nat)]);have c9:=yG b9 (.tup [V.ref p1]);have a8:qT (upd (upd M p1 (.tup [V.int (D k),V.int (k:Nat)])) p2 (.tup [V.ref p1])) p2 [(D k,(k:Int))]:=⟨[.ref p1],yB,.cons ⟨p1,rfl,c9 _ _ yB⟩ .nil⟩;have c2:xA M (upd (upd M p1 (.tup [V.int (D k),V.int (k:Nat)])) p2 (.tup [V.ref p1])):=d4.trans c9;generalize upd (upd M p1 (.tup [V.int (D k),V.int (k:Nat)])) p2 (.tup [V.ref p1])=H2 at a8 c2 ⊢;refine⟨_,rfl,?_⟩;dsimp only[yX];refine⟨λm σ O=>∃ (o:Nat)(S:qC)(Y:Nat),σ= [some (.ref X),some (.int (i:Nat)),some (.int (Fm.tp L g i:Nat)),some (.ref ka),some (.int (k:Nat)),some (.ref Y),some (.int (o:Nat))]/\xA M O/\o<n/\
     qT O Y ((D o,(o:Int))::S)/\Fm.rd L D g k=Fm.rd L D g o++S/\Fm.tp L g o=Fm.tp L g k/\m=g o,⟨g k,k,[],p2,rfl,c2,hk,a8,by rw[bYY],rfl,rfl⟩,?_⟩
   rintro m σ O ⟨o,S,Y,rfl,u,b0,a4,b7,c6,rfl⟩;have G:=C.trans u;obtain⟨b,I,g1,g2,g3,g4⟩:=row G b0;refine⟨_,rfl,_,rfl,X,_,_,_,rfl,rfl,SqL.of (G _ _ hR.lst),yS g1,b,I,4,_,rfl,rfl,SqL.of g2,yS (j:=4) g4,rfl,_,rfl,?_⟩;cases N:L o with
   |some j=>
    obtain⟨hj,b8⟩:=ho.lt o j b0 N;refine onT rfl ⟨λσ O=>∃m',m'<g o/\∃ (o:Nat)(S:qC)(Y:Nat),σ= [some (.ref X),some (.int (i:Nat)),some (.int (Fm.tp L g i:Nat)),some (.ref ka),some (.int (k:Nat)),some (.ref Y),some (.int (o:Nat))]/\xA M O/\o<n/\
     qT O Y ((D o,(o:Int))::S)/\Fm.rd L D g k=Fm.rd L D g o++S/\Fm.tp L g o=Fm.tp L g k/\m'=g o,λσ' H' z=>z,?_⟩
    refine⟨_,rfl,_,rfl,X,_,_,_,rfl,rfl,SqL.of (G _ _ hR.lst),yS g1,b,I,4,_,rfl,rfl,SqL.of g2,yS (j:=4) g4,?_⟩;rw[N];dsimp only[yX,wL];obtain⟨b',d5,d3,d2,d1,f5⟩:=row G hj;refine⟨_,rfl,_,rfl,X,_,_,_,rfl,rfl,SqL.of (G _ _ hR.lst),yS d3,b',d5,1,_,rfl,rfl,SqL.of d2,yS (j:=1) d1,_,rfl,z2,λU e8=>⟨z1,λq2 d6=>?_⟩⟩;have e0:=yG e8 (.tup [V.int (D j),V.int (j:Nat)]);have c7:=yG d6 (.tup [V.ref U]);have b4:xA O (upd (upd O U (.tup [V.int (D j),V.int (j:Nat)])) q2 (.tup [V.ref U])):=e0.trans c7;have e1:upd (upd O U (.tup [V.int (D j),V.int (j:Nat)])) q2 (.tup [V.ref U]) U=some (.tup [V.int (D j),V.int (j:Nat)]):=c7 _ _ yB;have W:upd (upd O U (.tup [V.int (D j),V.int (j:Nat)])) q2 (.tup [V.ref U]) q2=some (.tup [V.ref U]):=yB;generalize upd (upd O U (.tup [V.int (D j),V.int (j:Nat)])) q2 (.tup [V.ref U])=H4 at b4 e1 W ⊢;obtain⟨ys,y1,y2⟩:=qT.tk (xA.tk b4) a4;have b3:ys.length=S.length+1:=by have:=y2.length;simpa using this.symm
    have c0:(Fm.rd L D g k).length<=n:=Fm.bWl ho hk;rw[b7,bYh]at c0;have f1:ys≠ []:=λz=>by rw[z]at b3;simp at b3
    refine⟨_,rfl,q2,Y,_,ys,rfl,rfl,SqT.of W,SqT.of y1,by simp,by rw[bYm];show 1+ys.length<=_;omega,λz=>absurd z f1,λ_ q3 b5=>?_⟩;have y:=yG b5 (.tup ([V.ref U]++ys));refine⟨g j,b8,j,(D o,(o:Int))::S,q3,rfl,u.trans (b4.trans y),hj,⟨_,yB,.cons ⟨U,rfl,y _ _ e1⟩ (Paired.mapP y2 λ_ _ ⟨c,w1,w2⟩=>⟨c,w1,y _ _ w2⟩)⟩,?_,?_,rfl⟩
    ·rw[b7,Fm.v0 ho b0 N,cQZ];rfl
    ·rw[<- c6,Fm.v9 ho b0 N]
   |none=>
    have b6:o=Fm.tp L g k:=by rw[<- c6,Fm.zR N]
    have d7:Fm.rd L D g k=(D o,(o:Int))::S:=by rw[b7,Fm.Y5 N];rfl
    refine onF rfl ?_;refine⟨_,rfl,_,rfl,rfl,_,rfl,?_⟩;rw[cQ9,bYV];by_cases ec:Fm.tp L g k=Fm.tp L g i
    ·have hd:decide ((V.int (o:Nat))=V.int (Fm.tp L g i:Nat))=true:=by rw[b6,ec];simp
     refine onT (by rw[b6,ec];simp) ?_;have b1:=u _ _ J;refine⟨_,rfl,.inl ⟨rfl,_,SqL.of b1⟩,_,rfl,_,rfl,z2,λq3 b5=>?_⟩;have y:=yG b5 (.tup [V.ref Y,V.int (k:Nat)]);have b2:=y _ _ b1;have il:d.length<=k:=by have:=hP.length;rw[<- this];exact bYo (bYK _ _) (by simp)
     have t6:Tk (upd O q3 (.tup [V.ref Y,V.int (k:Nat)])) (upd (upd O q3 (.tup [V.ref Y,V.int (k:Nat)])) ka (.lst (d++ [V.ref q3]))):=λa I e=>jZ b2 a I e;refine⟨ka,d,.ref q3,rfl,rfl,b2,zlt (by omega),d++ [.ref q3],_,_,_,rfl,wV (C.trans (u.trans y)) d0,yB,?_⟩;have e3: [k].filter (λk=>decide (Fm.tp L g k=Fm.tp L g i))= [k]:=by simp[ec]
     rw[e3];refine aQj ⟨q3,Y,rfl,t6 _ _ yB,?_⟩ (Paired.mapP hP λ_ _ z=>z.tk ((xA.tk (u.trans y)).trans t6));rw[d7];exact qT.tk ((xA.tk y).trans t6) a4
    ·refine onF ?_ ⟨d,_,_,_,rfl,C.trans u,u _ _ J,?_⟩
     ·rw[b6];simp;omega
     ·have e3: [k].filter (λk=>decide (Fm.tp L g k=Fm.tp L g i))= []:=by simp[ec]
      rw[e3,bYY];exact Paired.mapP hP λ_ _ z=>z.tk (xA.tk u)
  ·rintro σ M ⟨d,o4,o5,o6,rfl,C,J,hP⟩;generalize a2:(bK0 n).filter (λk=>decide (Fm.tp L g k=Fm.tp L g i))=fam at hP;have f3:fam.length=d.length:=hP.length;have fn:fam.length<=n:=by rw[<- a2];exact bYo (bYK _ _) (by simp)
   have a5:∀k,k∈fam↔k<n/\Fm.tp L g k=Fm.tp L g i:=λk=>by rw[<- a2,bYP,bYj,decide_eq_true_eq]
   have f0:fam.Nodup:=by rw[<- a2];exact cXT.sublist cQL
   have a3:∀m,m<d.length->fam.getD m 0∈fam:=λm hm=>by
    have e7:m<fam.length:=by omega
    simp[bYz,bKM e7]
   refine⟨_,rfl,ka,d,λm=>Fm.rd L D g (fam.getD m 0),λm=>((fam.getD m 0:Nat):Int),rfl,J,by omega,λa b ha hb e=>?_,λm x hx=>?_,λl B hl a1 b9=>?_⟩
   ·have W:=Fm.aYj ho ((a5 _).mp (a3 a ha)).1 ((a5 _).mp (a3 b hb)).1 e;have c3:a<fam.length:=by omega
    have c5:b<fam.length:=by omega
    simp[bYz,bKM c3,bKM c5]at W;exact(cQy (h₀:=c3) (h₁:=c5) f0).mp W
   ·obtain⟨k,hk,p,b,e1,W,e3⟩:=qK hP hx;have:fam.getD m 0=k:=by simp[bYz,hk]
    show ∃a b,x=V.ref a/\M a=some (.tup [V.ref b,V.int ((fam.getD m 0:Nat):Int)])/\qT M b (Fm.rd L D g (fam.getD m 0));rw[this];exact⟨p,b,e1,W,e3⟩
   ·have hm:∀m∈B,m<d.length:=λm hm=>bYj.mp (a1.mem_iff.mp hm);have k2:=yG hl (.lst (B.map λi=>d.getD i .non));refine⟨l,rfl,⟨_,SqL.of yB⟩,λr a9=>?_⟩;have f2:B.length=d.length:=by rw[a1.length_eq,bYD]
    refine aZj (λ_=>true) (bWv M) (SqL.of yB) a9 (zn (by rw[bKT];omega)) ?_ ?_ ?_
    ·intro v hv H' R hH a7;exact a7
    ·intro v hv _ H' R hH a7;obtain⟨m,Z,rfl⟩:=bYQ.mp hv;have a6:=hm m Z;have hg:d[m]? =some (d.getD m .non):=by simp[bYz,bKM a6]
     obtain⟨k,hk,p,b,e1,W,e3⟩:=qK hP hg;rw[e1]at a7 ⊢;have e4:=k2 _ _ W;have e9:p≠r:=yJ e4 a9;have e5:H' p=some (.tup [.ref b,.int (k:Nat)]):=by rw[hH p e9];exact e4
     refine⟨_,rfl,p,_,1,.int (k:Nat),rfl,rfl,SqT.of e5,rfl,?_⟩;have:bWv M (.ref p)= .int (k:Nat):=aVv W;rw[this]at a7;exact a7
    ·have ff:(B.map λi=>d.getD i .non).filter (λ_=>true)=B.map λi=>d.getD i .non:=cXv.mpr λ_ _=>rfl;rw[ff,cQ6];have e6:(B.map (bWv M∘λi=>d.getD i .non))=(B.map λm=>fam.getD m 0).map λi=>V.int (i:Nat):=by
      rw[cQ6];refine cZD λm Z=>?_;have a6:=hm m Z;have hg:d[m]? =some (d.getD m .non):=by simp[bYz,bKM a6]
      obtain⟨k,hk,p,b,e1,W,e3⟩:=qK hP hg;show bWv M (d.getD m .non)=V.int (fam.getD m 0:Nat);have:fam.getD m 0=k:=by simp[bYz,hk]
      rw[e1,this];exact aVv W
     rw[e6];refine q _ r (B.map λm=>fam.getD m 0) (C.trans (k2.trans (yG a9 _))) ((C.trans k2).fresh a9) yB ?_ λk=>?_
     ·rw[cZd];exact b9
     ·rw[<- a5 k];constructor
      ·intro h;obtain⟨m,Z,rfl⟩:=bYQ.mp h;exact a3 m (hm m Z)
      ·intro h;obtain⟨m,a6,e⟩:=bYC h;refine bYQ.mpr ⟨m,a1.mem_iff.mpr (bYj.mpr (by omega)),?_⟩;simp[bYz,bKM a6,e]
end
theorem y7.rows{H:Hp}{c:Nat}{e:List Nat}{R:Rows}(h:y7 H c e R):bZl H c e R.length (Bk.lk R) (Bk.dt R):=
 ⟨h.lst,h.len,λi b d=>by
  have g:i<R.length:=by rw[<- h.len];exact(bKZ.mp d).1
  have a:=bKM g;obtain⟨j,f,k⟩:=h.row i b _ d a;exact⟨_,f,by rw[Bk.wY a];rfl,by rw[Bk.vY a];rfl⟩⟩
end Law
namespace Law
open PySem L2 PyProof.Rows
open Bk (Row Rows)
def uO(r:Row)(a:Nat):List V:= [.str r.way,.int r.date,.str r.partner,.int r.term,wL r.link,.str r.place,.bl r.void,.ref a]
theorem jS{r:Row}{a:Nat}{l:List Str}:HO.lst (uO r a)≠HO.lst (l.map V.str):=λz=>by
 injection z with z
 match l,z with
 |[],z=>cases z
 |[_],z=>injection z with _ z;cases z
 |_::_::_,z=>injection z with _ z;injection z with z _;cases z
theorem aQo{r:Row}{a:Nat}{l:List Nat}:HO.lst (uO r a)≠HO.lst (l.map V.ref):=λz=>by
 injection z with z
 match l,z with
 |[],z=>cases z
 |_::_,z=>injection z with z _;cases z
theorem y7.upd{H:Hp}{n:Nat}{o:List Nat}{R:Rows}{k:Nat}{b:Nat}{r:Row}(h:y7 H n o R)(s:o[k]? =some b)(u:R[k]? =some r)(f:Row->Row){p:Nat}(d:H p=some (.lst ((f r).copies.map V.str))):y7 (upd H b (.lst (uO (f r) p))) n o (Bk.xP R k f):=by
 obtain⟨A,l,_⟩:=h.row k b r s u;have j:n≠b:=aQR h.lst l (bYv aQo);refine⟨by rw[yI j];exact h.lst,by rw[Bk.zH];exact h.len,h.nd,λi c q g a=>?_⟩;rw[Bk.zA]at a;by_cases e:i=k
 ·subst e;rw[s]at g;cases g;rw[if_pos rfl,u]at a;cases a;exact⟨p,yB,by rw[yI (aQR d l (bYv jS))];exact d⟩
 ·rw[if_neg e]at a;obtain⟨y,x,v⟩:=h.row i c q g a;have m:c≠b:=λz=>by
   have t:=bKZ.mp g;have w:=bKZ.mp s;exact e ((cQy (h₀:=t.1) (h₁:=w.1) h.nd).mp (by rw[t.2,w.2];exact z))
  exact⟨y,by rw[yI m];exact x,by rw[yI (aQR v l (bYv jS))];exact v⟩
def NoC(a:List Nat)(H:Hp)(s:Nat):Prop:=∀b∈a,∀l,H b=some (.lst l)->l[7]? ≠some (.ref s)
def But(a:List Nat)(H c:Hp):Prop:=(∀b o,b∉a->H b=some o->c b=some o)/\(∀b∈a,∃o,c b=some o)/\∀s u,H s=some u->NoC a H s->NoC a c s
theorem y7.dom{H:Hp}{d:Nat}{c:List Nat}{R:Rows}(h:y7 H d c R):∀b∈c,∃o,H b=some o:=λb j=>by
 obtain⟨i,a,e⟩:=bYC j;have f:=bKM (show i<R.length by rw[<- h.len];exact a);obtain⟨k,g,_⟩:=h.row i b _ (by rw[bKM a,e]) f;exact⟨_,g⟩
theorem But.of{c:List Nat}{H g:Hp}(d:∀b∈c,∃o,H b=some o)(k:xA H g):But c H g:=⟨λb o _ e=>k b o e,λb a=>let ⟨o,e⟩:=d b a;⟨o,k _ _ e⟩,λs u e n b a l h=>by
 obtain⟨o,f⟩:=d b a;have:=k _ _ f;rw[h]at this;cases this;exact n b a l f⟩
theorem But.trans{d:List Nat}{H h g:Hp}(a:But d H h)(b:But d h g):But d H g:=⟨λc o n e=>b.1 c o n (a.1 c o n e),b.2.1,λs u e n=>by
 by_cases f:s∈d
 ·obtain⟨o,i⟩:=a.2.1 s f;exact b.2.2 s o i (a.2.2 s u e n)
 ·exact b.2.2 s u (a.1 s u f e) (a.2.2 s u e n)⟩
theorem But.upd{d:List Nat}{H:Hp}{k:Nat}{b:Nat}{l l':List V}(g:∀b∈d,∃o,H b=some o)(h:d[k]? =some b)(hl:H b=some (.lst l))(f:l'[7]? =l[7]?):But d H (upd H b (.lst l')):=
 ⟨λc u n e=>by rw[yI (λz=>n (by rw[z];exact bK5 h))];exact e,λc a=>by
  by_cases z:c=b
  ·rw[z];exact⟨_,yB⟩
  ·rw[yI z];exact g c a,λs u e n c a x ex=>by
  by_cases z:c=b
  ·subst z;rw[yB]at ex;cases ex;rw[f];exact n c a l hl
  ·rw[yI z]at ex;exact n c a x ex⟩
abbrev bJ1:Stmt:=xF "_law_lost"
def bZN:Sp:=λf H Q _=>∃ (b:Nat)(d:List Nat)(R:Rows)(k:Nat)(r:Row),f= [.ref b,.int (k:Nat)]/\y7 H b d R/\R.length<=100/\R[k]? =some r/\
 ∀ (e:Hp)(a:Str)(c:Rows),But d H e->y7 e b d c->((Bk.zU R k≠ []/\a="answered"/\c=R)\/(Bk.zU R k= []/\a="void"/\c=Bk.xP R k λr=>{r with link:=none,void:=true}))->Q (.str a) e
section
variable {K:bKP}
theorem bVe:yM ["_law_rows","_law_number","_law_one"] ["_law_rows","_law_number"] (yH bJ1):=scM
theorem bJC(a:FnG P w K mg base 1 "_law_kids_of" ["_law_rows","_law_number"] aVB)(F:Fun K "_law_lost" "_law_lost" bJ1 f fd):y8 P w K mg base CX0 2 f fd ["_law_rows","_law_number"] bZN:=by
 have C:=bVe;refine F.ok (k:=1) C (λI A outer s H L Q E o h=>?_);obtain⟨p,G,R,k,r,rfl,d,hR,v,q⟩:=h;refine⟨_,(yC (yT (i:=2) (yL yK (pv 0) (pv 1))) (yC (y6 (yN (u4 o.units0) (xJ a o rfl (yA (pv 0) (yA (pv 1) yD))) (y3 yD)) (yF (yP yO)) yR) (yC (vO x9 (qM (pv 2) yE zP)) (yC (vO qL (qM (pv 2) yE zP)) (yF (yP yO)))))),?_⟩;obtain⟨b,y,u,J,z,B⟩:=d.get v;refine⟨_,rfl,_,rfl,p,_,_,_,rfl,rfl,SqL.of d.lst,yS y,?_⟩;dsimp only[yX];refine⟨_,rfl,_,rfl,p,G,R,k,rfl,d,hR,λt m=>⟨z0,λpn n=>?_⟩⟩;have D:=yG m (.lst ((Bk.zU R k).map λi=>V.int (i:Nat)));have x:=yG n (.lst []);refine⟨t,pn,_,rfl,rfl,SqL.of (x _ _ yB),SqL.of yB,_,rfl,?_⟩;have kA:=D.trans x;generalize upd (upd H t (.lst ((Bk.zU R k).map λi=>V.int (i:Nat)))) pn (.lst [])=H2 at kA ⊢;have c:=d.same kA;cases e:Bk.zU R k with
 |cons j l=>exact onT rfl (q H2 _ R (But.of d.dom kA) c (.inl ⟨by rw[e];simp,rfl,rfl⟩))
 |nil=>refine onF rfl ?_;have g:=kA _ _ z;refine⟨_,rfl,b,_,4,4,rfl,rfl,g,rfl,?_⟩;refine⟨_,rfl,b,_,6,6,rfl,rfl,yB,rfl,?_⟩;rw[uR];exact q _ _ _ ((But.of d.dom kA).trans (But.upd c.dom u g rfl)) (c.upd u v (λr=>{r with link:=none,void:=true}) (kA _ _ B)) (.inr ⟨e,rfl,rfl⟩)
end
end Law
namespace Law
open PySem L2 PyProof.Rows
open Bk (Row Rows)
abbrev aYq:Stmt:=xF "_law_dated"
def aW5(R:Rows)(k:Nat)(r:Row)(d:Int):Prop:=(∃j,r.link=some j/\d<Bk.dt R j)\/∃c∈Bk.zU R k,Bk.dt R c<d
def aY2:Sp:=λg H Q _=>∃ (b:Nat)(e:List Nat)(R:Rows)(k:Nat)(r:Row)(d:Int),g= [.ref b,.int (k:Nat),.int d]/\y7 H b e R/\R.length<=100/\R[k]? =some r/\(∀j,r.link=some j->j<R.length)/\
 ∀ (f:Hp)(a:Str)(c:Rows),But e H f->y7 f b e c->((aW5 R k r d/\a="too early"/\c=R)\/(¬aW5 R k r d/\a="dated"/\c=Bk.xP R k λr=>{r with date:=d}))->Q (.str a) f
section
variable {K:bKP}
theorem bXI:yM ["_law_rows","_law_number","_law_date","_law_one","_law_k"] ["_law_rows","_law_number","_law_date"] (yH aYq):=scM
theorem bQ9(g:FnG P w K mg base 1 "_law_kids_of" ["_law_rows","_law_number"] aVB)(F:Fun K "_law_dated" "_law_dated" aYq f fd):y8 P w K mg base CX0 2 f fd ["_law_rows","_law_number","_law_date"] aY2:=by
 have sc:=bXI;refine F.ok (k:=1) sc (λa0 A outer s H vs Q E hr h=>?_);obtain⟨z,rs,R,k,r,d,rfl,n,hR,hk,Z,q⟩:=h;refine⟨_,(yC (yT (i:=3) (yL yK (pv 0) (pv 1))) (yC (y6 (PW.pt (vP (yN wG (yL yK (pv 3) yE) x9) (wU (yN vE (pv 2) (yL yK (yL yK (pv 0) (yL yK (pv 3) yE)) yE))))) (yF (yP yO)) yR) (yC (wE bYI rfl (xI (xJ g hr rfl (yA (pv 0) (yA (pv 1) yD)))) (y9 (i:=4)) (yF (y6 (yN vE (yL yK (yL yK (pv 0) (pv 4)) yE) (pv 2)) (yF (yP yO)) yR))) (yC (vO (pv 2) (qM (pv 3) yE zP)) (yF (yP yO)))))),?_⟩;obtain⟨b,g1,g2,cp,Y,g4⟩:=n.get hk;refine⟨_,rfl,_,rfl,z,_,_,_,rfl,rfl,SqL.of n.lst,yS g1,?_⟩;dsimp only[yX];refine x4 (λI O=>I= [some (.ref z),some (.int (k:Nat)),some (.int d),some (.ref b),none]/\O=H/\∀j,r.link=some j->Bk.dt R j<=d) ?jR (λp=>?_);case jR=>
  rintro I O ⟨rfl,rfl,h1⟩;refine⟨_,rfl,_,rfl,z,rs,R,k,rfl,n,hR,λN U=>⟨N,rfl,⟨_,SqL.of yB⟩,?_⟩⟩;have kA:=yG U (.lst ((Bk.zU R k).map λi=>V.int (i:Nat)));have o:upd O N (.lst ((Bk.zU R k).map λi=>V.int (i:Nat))) N=some (.lst ((Bk.zU R k).map λi=>V.int (i:Nat))):=yB;generalize upd O N (.lst ((Bk.zU R k).map λi=>V.int (i:Nat)))=H2 at kA o ⊢;have m:=n.same kA;refine zI (xs:=(Bk.zU R k).map λi=>V.int (i:Nat)) (λt σ L=>∃S,σ= [some (.ref z),some (.int (k:Nat)),some (.int d),some (.ref b),S]/\L=H2/\∀u j,u<t->(Bk.zU R k)[u]? =some j->d<=Bk.dt R j) ?_ ?_ ?_ ?_
  ·exact⟨_,rfl,rfl,λu j B=>absurd B (cQw _)⟩
  ·rintro t σ L _ ⟨S,rfl,rfl,_⟩;exact SqL.of o
  ·rintro t x σ L J ⟨S,rfl,rfl,l⟩;rw[bK7]at J;cases M:(Bk.zU R k)[t]? with
   |none=>rw[M]at J;cases J
   |some j=>
    rw[M]at J;cases J;have G:=bK5 M;have v:j<R.length:=bYj.mp (bYP.mp G).1;have a:=bKM v;obtain⟨X,W,j2,cj,T,j4⟩:=m.get a;dsimp only[yX];refine⟨_,rfl,_,rfl,z,_,_,_,rfl,rfl,SqL.of m.lst,yS W,X,_,1,_,rfl,rfl,SqL.of T,rfl,_,rfl,_,_,rfl,rfl,_,rfl,?_⟩;cases D:decide (R[j].date<d)with
    |true=>exact onT rfl (q _ _ R (But.of n.dom kA) m (.inl ⟨.inr ⟨j,G,by rw[Bk.wY a];exact of_decide_eq_true D⟩,rfl,rfl⟩))
    |false=>
     refine onF rfl ⟨_,rfl,rfl,λu i B y=>?_⟩;by_cases e:u=t
     ·subst e;rw[M]at y;cases y;rw[Bk.wY a];have:=of_decide_eq_false D;omega
     ·exact l u i (by omega) y
  ·rintro σ L ⟨S,rfl,rfl,l⟩;rw[bKT]at l;have C:=kA _ _ Y;refine⟨_,rfl,_,rfl,b,_,1,1,rfl,rfl,C,rfl,?_⟩;refine q _ _ _ ((But.of n.dom kA).trans (But.upd m.dom g2 C rfl)) (m.upd g2 hk (λr=>{r with date:=d}) (kA _ _ g4)) (.inr ⟨?_,rfl,rfl⟩);rintro(⟨j,e1,e2⟩|⟨c,hc,e2⟩)
   ·have:=h1 j e1;omega
   ·obtain⟨u,B,e⟩:=bYC hc;have:=l u c B (by rw[bKM B,e]);omega
 refine⟨_,rfl,b,_,4,_,rfl,rfl,SqL.of Y,rfl,rfl,_,rfl,?_⟩;cases hl:r.link with
 |none=>exact onF rfl (onF rfl (p _ _ ⟨rfl,rfl,λj hj=>by rw[hl]at hj;cases hj⟩))
 |some j=>
  have v:=Z j hl;have a:=bKM v;obtain⟨X,W,j2,cj,T,j4⟩:=n.get a;refine onT rfl ⟨_,rfl,_,rfl,_,rfl,b,_,4,_,rfl,rfl,SqL.of Y,rfl,?_⟩;rw[hl];refine⟨z,_,_,_,rfl,rfl,SqL.of n.lst,yS W,X,_,1,_,rfl,rfl,SqL.of T,rfl,_,_,rfl,rfl,_,rfl,?_⟩;cases D:decide (d<R[j].date)with
  |true=>exact onT rfl (q _ _ R (But.of n.dom (xA.refl _)) n (.inl ⟨.inl ⟨j,hl,by rw[Bk.wY a];exact of_decide_eq_true D⟩,rfl,rfl⟩))
  |false=>exact onF rfl (p _ _ ⟨rfl,rfl,λi y=>by rw[hl]at y;cases y;rw[Bk.wY a];have:=of_decide_eq_false D;omega⟩)
end
end Law
namespace Law
open PySem L2 PyProof.Rows
open Bk (Row Rows xV xM Ans)
abbrev bJZ:Stmt:=xF "_law_hung"
def bZM:Sp:=λf H Q _=>∃ (b:Nat)(c:List Nat)(R:Rows)(m o:Int),f= [.ref b,.int m,.int o]/\y7 H b c R/\R.length<=60/\Bk.uT R/\
 ∀ (d:Hp)(a:Str)(e:Rows),But c H d->y7 d b c e->(∀S,xV R S (.hang m o) (.txt a) e S)->Q (.str a) d
theorem aQn{r:Row}{b:Nat}{l:List Nat}:HO.lst (uO r b)≠HO.lst (l.map λi=>V.int (i:Nat)):=λz=>by
 injection z with z
 cases l with
 |nil=>cases z
 |cons a l=>cases z
theorem Q9(R:Rows)(l:List Nat)(k:Nat)(name:Str):Bk.laid R (l++ [k]) name=Bk.xP (Bk.laid R l name) k λr=>{r with place:=name}:=by
 unfold Bk.laid;rw[cZV];rfl
theorem wN{a b:Str}:decide (V.str a=V.str b)=decide (a=b):=by rw[Bool.eq_iff_iff];simp
theorem aVW{a b:Nat}:decide (V.int (a:Nat)=V.int (b:Nat))=decide (a=b):=by rw[Bool.eq_iff_iff];simp;omega
section
variable {K:bKP}
theorem aJ8{K:bKP}{H:Hp}{n l:Nat}{d:List Nat}{R:Rows}{a:List Nat}{name:Str}{t:Nat}{k:Nat}(g:y7 H n d (Bk.laid R (a.take t) name))(p:a[t]? =some k)(f:k<R.length)(hl:H l=some (.lst (a.map λi=>V.int (i:Nat)))): ∃ (b c:Nat)(r:Row),(d.map V.ref)[k]? =some (.ref b)/\H b=some (.lst (uO r c))/\y7 (upd H b (.lst (uO {r with place:=name} c))) n d (Bk.laid R (a.take (t+1)) name)/\But d H (upd H b (.lst (uO {r with place:=name} c)))/\upd H b (.lst (uO {r with place:=name} c)) l=some (.lst (a.map λi=>V.int (i:Nat)))/\b∈d:=by
 have e:k<(Bk.laid R (a.take t) name).length:=by rw[Bk.wJ];exact f
 have m:=bKM e;obtain⟨b,o,h,c,j,q⟩:=g.get m;refine⟨b,c,_,o,j,?_,But.upd g.dom h j rfl,?_,bK5 h⟩
 ·rw[show a.take (t+1)=a.take t++ [k]from by rw[bY0,p];rfl,Q9];exact g.upd h m (λr=>{r with place:=name}) q
 ·rw[yI (aQR hl j (bYv aQn))];exact hl
theorem bVc:yM ["_law_rows","_law_number","_law_goal","_law_one","_law_other","_law_k","_law_row"] ["_law_rows","_law_number","_law_goal"] (yH bJZ):=scM
theorem bJA(y:FnG P w K mg base 2 "_law_good" ["_law_rows","_law_number"] Z3)(a:FnG P w K mg base 2 "_law_family" ["_law_rows","_law_number"] J7)(F:Fun K "_law_hung" "_law_hung" bJZ f fd):y8 P w K mg base CX0 3 f fd ["_law_rows","_law_number","_law_goal"] bZM:=by
 have sc:=bVc;refine F.ok (k:=2) sc (λb7 A outer s H vs Q E hr h=>?_);obtain⟨L,N,R,m,o,rfl,C,hR,hT,q⟩:=h;refine⟨_,(yC (y6 (PW.pt (Z9 (uB (x3 (xJ y hr rfl (yA (pv 0) (yA (pv 1) yD))))) (jL (uB (x3 (xJ y hr rfl (yA (pv 0) (yA (pv 2) yD)))))))) (yF (yP yO)) yR) (yC (yT (i:=3) (yL yK (pv 0) (pv 1))) (yC (yT (i:=4) (yL yK (pv 0) (pv 2))) (yC (y6 (yN wG (yL yK (pv 3) yE) x9) (yF (yP yO)) yR) (yC (y6 (yN x5 (yL yK (xJ a hr rfl (yA (pv 0) (yA (pv 2) yD))) yE) (pv 1)) (yF (yP yO)) yR) (yC (y6 (yN x5 (yL yK (pv 3) yE) (yL yK (pv 4) yE)) (yF (yP yO)) yR) (yC (y6 (yN aZs (yL yK (pv 3) yE) (yL yK (pv 4) yE)) (yF (yP yO)) yR) (yC (y6 (yN vE (yL yK (pv 3) yE) (yL yK (pv 4) yE)) (yF (yP yO)) yR) (yC (wE bYI rfl (xI (xJ a hr rfl (yA (pv 0) (yA (pv 1) yD)))) (y9 (i:=5)) (yC (yT (i:=6) (yL yK (pv 0) (pv 5))) (yF (vO (yL yK (pv 4) yE) (qM (pv 6) yE zP))))) (yC (vO (pv 2) (qM (pv 3) yE zP)) (yF (yP yO)))))))))))),?_⟩;have v:But N H H:=But.of C.dom (xA.refl _);refine⟨_,rfl,_,rfl,L,N,R,m,rfl,C,_,rfl,?_⟩;cases h1:Bk.zZ R m with
 |false=>exact onT rfl (onT rfl (q H _ R v C λS=> .hangN (.inl h1)))
 |true=>
 refine onF rfl ⟨_,rfl,_,rfl,L,N,R,o,rfl,C,_,rfl,?_⟩;cases h2:Bk.zZ R o with
 |false=>exact onT rfl (q H _ R v C λS=> .hangN (.inr h2))
 |true=>
 obtain⟨i,r,rfl,G,I,Y⟩:=Bk.z6 h1;obtain⟨j,p,rfl,D,M,hw⟩:=Bk.z6 h2;obtain⟨b,g1,g2,cp,g3,g4⟩:=C.get I;obtain⟨Z,f1,f2,b8,f3,f4⟩:=C.get M;refine onF rfl ⟨_,rfl,_,rfl,L,_,_,_,rfl,rfl,SqL.of C.lst,yS g1,?_⟩;dsimp only[yX];refine⟨_,rfl,_,rfl,L,_,_,_,rfl,rfl,SqL.of C.lst,yS f1,?_⟩;dsimp only[yX];refine⟨_,rfl,b,_,4,_,rfl,rfl,SqL.of g3,rfl,rfl,_,rfl,?_⟩;cases n:r.link with
 |some x=>exact onT rfl (q H _ R v C λS=> .hangH I Y M hw (by rw[n];simp))
 |none=>
 obtain⟨rk,ok⟩:=hT;have hT:Bk.uT R:=⟨rk,ok⟩;refine onF rfl ⟨_,rfl,_,rfl,L,N,R.length,Bk.lk R,rk,Bk.dt R,j,rfl,C.rows,ok,hR,D,λH1 l b9 k1 nl hl hp hm=>?_⟩;have et:=Bk.aZO D ⟨rk,ok,hp,hm⟩;subst et;obtain⟨_,_,a7⟩:=Bk.jD hT D;obtain⟨hd,X⟩:∃hd,(Bk.thr R j).head? =some hd:=⟨_,a7⟩;have e0:(((Bk.thr R j).map λi=>V.int (i:Nat)))[0]? =some (.int (hd:Nat)):=by rw[bK7,<- List.head?_eq_getElem?,X];rfl
 have u:=C.same k1;have T:=k1 _ _ g3;have U:=k1 _ _ f3;have g:But N H H1:=But.of C.dom k1;refine⟨l,_,0,_,rfl,rfl,SqL.of hl,yS e0,_,rfl,rfl,_,rfl,?_⟩;rw[aVW];refine qB (λc=>?_) (λc=>?_)
 ·have e:hd=i:=of_decide_eq_true c;exact q H1 _ R g u λS=> .hangO I Y M hw n (by rw[X,e])
 have B:(Bk.thr R j).head? ≠some i:=λz=>c (decide_eq_true (by rw[X]at z;exact bK8 z));refine⟨_,rfl,b,_,0,_,rfl,rfl,SqL.of T,rfl,_,rfl,Z,_,0,_,rfl,rfl,SqL.of U,rfl,rfl,_,rfl,?_⟩;rw[wN];refine qB (λc1=>?_) (λc1=>?_)
 ·exact q H1 _ R g u λS=> .hangW I Y M hw n B (of_decide_eq_true c1)
 have h3:=of_decide_eq_false (Bool.eq_false_iff.mpr c1);refine⟨_,rfl,b,_,2,_,rfl,rfl,SqL.of T,rfl,_,rfl,Z,_,2,_,rfl,rfl,SqL.of U,rfl,rfl,_,rfl,?_⟩;rw[wN];cases a2:decide (r.partner=p.partner)with
 |false=>exact onT rfl (q H1 _ R g u λS=> .hangP I Y M hw n B h3 (of_decide_eq_false a2))
 |true=>
 have h4:=of_decide_eq_true a2;refine onF rfl ⟨_,rfl,b,_,1,_,rfl,rfl,SqL.of T,rfl,_,rfl,Z,_,1,_,rfl,rfl,SqL.of U,rfl,_,_,rfl,rfl,_,rfl,?_⟩;refine qB (λc2=>?_) (λc2=>?_)
 ·exact q H1 _ R g u λS=> .hangE I Y M hw n B h3 h4 (of_decide_eq_true c2)
 have h5:p.date<=r.date:=by have:=of_decide_eq_false (Bool.eq_false_iff.mpr c2);omega
 refine⟨_,rfl,_,rfl,L,N,R.length,Bk.lk R,rk,Bk.dt R,i,rfl,u.rows,ok,hR,G,λH2 l2 b4 k2 b6 a1 b3 W=>⟨l2,rfl,⟨_,SqL.of a1⟩,?_⟩⟩;have b0:=Bk.aZO G ⟨rk,ok,b3,W⟩;subst b0;have b5:i≠j:=λz=>by subst z;have e1:=Bk.jD hT G;obtain⟨a6,o2,O⟩:=e1;rw[Fm.zR (by rw[Bk.vY I];exact n)]at O;exact B O
 have a9:j∉Bk.thr R i:=λz=>by have e1:=(W j).mp z;rw[Fm.zR (i:=i) (by rw[Bk.vY I];exact n)]at e1;obtain⟨a6,o2,O⟩:=Bk.jD hT D;rw[Fm.jY o2 ok D,e1.2]at O;exact B O
 refine zI (xs:=(Bk.thr R i).map λi=>V.int (i:Nat)) (λt σ H3=>∃o5 o6:Option V,σ= [some (.ref L),some (.int (i:Nat)),some (.int (j:Nat)),some (.ref b),some (.ref Z),o5,o6]/\y7 H3 L N (Bk.laid R ((Bk.thr R i).take t) p.place)/\But N H2 H3/\H3 l2=some (.lst ((Bk.thr R i).map λi=>V.int (i:Nat)))) ?_ ?_ ?_ ?_
 ·exact⟨none,none,rfl,u.same k2,But.of (u.same k2).dom (xA.refl _),a1⟩
 ·rintro t σ H3 ht ⟨o5,o6,rfl,d,k3,J⟩;exact SqL.of J
 ·rintro t x σ H3 hx ⟨o5,o6,rfl,d,k3,J⟩;rw[bK7]at hx;cases hc:(Bk.thr R i)[t]? with
  |none=>rw[hc]at hx;cases hx
  |some k=>
   rw[hc]at hx;cases hx;have a5:k<R.length:=((W k).mp (bK5 hc)).1;obtain⟨bk,ck,c0,e1,O,e3,e4,e5,e6⟩:=aJ8 (K:=K) d hc a5 J;have b1:(Bk.laid R ((Bk.thr R i).take t) p.place)[j]? =some p:=by rw[Bk.vX,if_neg (λz=>a9 (List.mem_of_mem_take z))];exact M
   obtain⟨a3,d1,d2,a4,d3,d4⟩:=d.get b1;obtain rfl:Z=a3:=bK8 (f2.symm.trans d2);dsimp only[yX];refine⟨_,rfl,_,rfl,L,_,_,_,rfl,rfl,SqL.of d.lst,yS e1,?_⟩;dsimp only[yX];exact⟨_,rfl,Z,_,5,_,rfl,rfl,SqL.of d3,rfl,_,rfl,bk,_,5,5,rfl,rfl,O,rfl,_,_,rfl,e3,k3.trans e4,e5⟩
 ·rintro σ H3 ⟨o5,o6,rfl,d,k3,J⟩;rw[bKT,bYR]at d;have a8:i<(Bk.laid R (Bk.thr R i) p.place).length:=by rw[Bk.wJ];exact G
  have a0:=bKM a8;obtain⟨b',d1,d2,a4,d3,d4⟩:=d.get a0;obtain rfl:b=b':=bK8 (g2.symm.trans d2);refine⟨_,rfl,_,rfl,b,_,4,4,rfl,rfl,d3,rfl,?_⟩;refine q _ _ _ ((g.trans ((But.of u.dom k2).trans k3)).trans (But.upd d.dom d2 d3 rfl)) (d.upd d2 a0 (λr=>{r with link:=some j}) d4) λS=> .hang I Y M hw n B h3 h4 h5
end
end Law
namespace L2
open PySem
def tbV:Option Nat->bKN
 |none=> .none
 |some T=> .ref T
structure qQ(h:Heap)(e:Nat)(cls:bKN)(dx:Option Nat)(tb:Option Nat):Prop where
 obj:∃oe vs,h.get? e=some oe/\oe.cls=cls/\oe.dict=dx/\oe.data= .fields vs/\vs[1]? =some (tbV tb)
 ent:∀T,tb=some T->T≠e/\∃oT ts,h.get? T=some oT/\oT.data= .fields ts/\ts[3]? =some .none
theorem qQ.keeps{h h':Heap}{e:Nat}{cls:bKN}{dx tb:Option Nat}(x:qQ h e cls dx tb)(k:∀b o,(b=e\/tb=some b)->h.get? b=some o->h'.get? b=some o):qQ h' e cls dx tb:=by
 obtain⟨c,q,f,r,m,n,l⟩:=x.obj;refine⟨⟨c,q,k e c (.inl rfl) f,r,m,n,l⟩,λT d=>?_⟩;obtain⟨ne,a,j,g,i,p⟩:=x.ent T d;exact⟨ne,a,j,k T a (.inr d) g,i,p⟩
structure bWS(fs:List Nat)(e:Nat)(tb:Option Nat)(h h':Heap):Prop where
 keep:∀b o,b≠e->tb≠some b->b∉fs->h.get? b=some o->h'.get? b=some o
 slot:∀b o,b≠e->tb≠some b->h.get? b=some o->∃sl,h'.get? b=some {o with slots:=sl}
 there:∀b o,h.get? b=some o->∃o',h'.get? b=some o'
theorem aQQ(f:Array bKN->Array bKN)(o:Obj):(o.mapFields f).dict=o.dict:=by
 obtain⟨c,d,dt,a⟩:=o;cases dt<;> rfl
section
variable {M:Model}{A:bYr}{E:bKN->bKQ->Prop}{s:bKQ}{base:Heap}{env:Env}{outer:List Env}{L e:Nat}{cls:bKN}{dx tb:Option Nat}
theorem aKR{b:Obj}{vs:Array bKN}(hl:s.heap.FunFrames base (env::outer))(c:s.heap.get? e=some b)(d:b.data= .fields vs):e∉(env::outer).filterMap (·.frame):=λf=>by
 obtain⟨_,o,a,g⟩:=hl.mem f;rw[c]at a;cases a;exact g vs d
theorem aX3{head:bKN}{y:Bool}{Q:Unit->bKQ->Prop}{i:Obj}{vs:Array bKN}(m:A.frames=some (env::outer))(hl:s.heap.FunFrames base (env::outer))(K:env.frame=some L)
  (C:s.heap.get? e=some i) (v:i.data= .fields vs) (hz:1<vs.size)
  (h:∀n T,qQ n e i.cls i.dict (some T)->s.heap.objs.size<=T->bWS ((env::outer).filterMap (·.frame)) e none s.heap n->Q () {s with heap:=n}):
  bKV M A (do let fr <- frameOf env;let place <- entryPlaceOf L y;let en <- EntryCells.newEntry head fr .none (bY2 L) .none place;setField (.ref e) 1 en) (λ_ G=>bKV M A (cXR (.ref e) none) Q E G) E s:=by
 have r:=aKR hl C v
 refine bKO (wpAny_frameOf_fun m hl K λa d=>?_)
 refine bKO (wpAny_entryPlaceOf λplace I=>?_)
 unfold EntryCells.newEntry newFields
 refine bKO (cQJ ?_ (I.sizeOk5 _ _ _ _ _))
 have F:a.get? e=some i:=(d.2.1 e r).trans C
 generalize w:({cls:= .type "traceback",dict:=none,data:= .fields ([head,.ref L,.none,bY2 L,.none]++(if place.isEmpty then cXj 6 Value.none else place)).toArray}:Obj)=ob
 have c:ob.data= .fields ([head,.ref L,.none,bY2 L,.none]++(if place.isEmpty then cXj 6 Value.none else place)).toArray:=by rw[<- w]
 have j:ob.isFreed=false:=bY9 c
 have B:(a.push ob).get? e=some i:=bKR ob F
 have l:a.objs.size≠e:=cXp (bK1 F)
 refine cQQ B v hz ?_
 have d3:=cQc v (·.setIfInBounds 1 (Value.ref a.objs.size))
 have p:=bYO (bY1 (·.setIfInBounds 1 (Value.ref a.objs.size))) B (bY9 d3)
 have D:=(bYk (a.push ob) (bY1 (·.setIfInBounds 1 (Value.ref a.objs.size))) (bYv l)).trans (bYg a j)
 have k:3<([head,.ref L,.none,bY2 L,.none]++(if place.isEmpty then cXj 6 Value.none else place)).toArray.size:=by simp
 unfold cXR
 refine bKO (wpAny_field p d3 (x:= .ref a.objs.size) (by simp[hz]) ?_)
 rw[if_pos (show(Value.ref a.objs.size !=Value.none)=true from by simp)]
 refine cQQ D c k (h _ a.objs.size ?_ ?_ ?_)
 ·refine⟨⟨_,_,(bYk _ _ l).trans p,Obj.cls_mapFields _ _,aQQ _ _,d3,by simp[tbV,hz]⟩,λT H=>?_⟩;cases H;refine⟨l,_,_,bYO _ D (bY9 (cQc c _)),cQc c _,?_⟩;rw[Array.getElem?_setIfInBounds_self_of_lt k];rfl
 ·exact cXn d.1.symm
 ·have t:∀b o,b≠e->a.get? b=some o->(((a.push ob).update e (bY1 (·.setIfInBounds 1 (Value.ref a.objs.size)))).update a.objs.size (bY1 (·.setIfInBounds 3 ((none:Option Nat).elim Value.none λf=>bY2 f)))).get? b=some o:=λb o g q=>by
   rw[bYk _ _ (cXp (bK1 q)),bYk _ _ (bYv g)];exact bKR _ q
  refine⟨λb o g _ J q=>t b o g ((d.2.1 b J).trans q),λb o g _ q=>?_,λb o q=>?_⟩
  ·obtain⟨z,u⟩:=d.2.2 b o q;exact⟨z,t b _ g u⟩
  ·by_cases g:b=e
   ·subst g;exact⟨_,(bYk _ _ l).trans p⟩
   ·obtain⟨z,u⟩:=d.2.2 b o q;exact⟨_,t b _ g u⟩
theorem aVc{Q:Unit->bKQ->Prop}(g:A.frames=some (env::outer))(hl:s.heap.FunFrames base (env::outer))(n:env.frame=some L)(x:qQ s.heap e cls dx tb) (h:∀i T,qQ i e cls dx (some T)->s.heap.objs.size<=T->bWS ((env::outer).filterMap (·.frame)) e tb s.heap i->Q () {s with heap:=i}): bKV M A (cZb (.ref e) env) (λ_ D=>bKV M A (cXR (.ref e) none) Q E D) E s:=by
 obtain⟨N,C,m,J,G,t,v⟩:=x.obj;subst J G;have B:=(cXb.mp v).1;unfold cZb;simp only[n];refine bKO (wpAny_field m t v ?_);cases tb with
 |none=>rw[if_neg (by decide)];exact aX3 g hl n m t B h
 |some T=>
  obtain⟨ne,K,F,j,k,w⟩:=x.ent T rfl;rw[if_pos (show(tbV (some T) !=Value.none)=true from by simp[tbV])];refine bKO (wpAny_field j k w ?_);rw[if_neg (show ¬ ((Value.none==bY2 L)=true)from by simp[bY2])];refine bKO (cQQ j k (cXb.mp w).1 ?_);have f:∀b,b≠T->(s.heap.update T (bY1 (·.setIfInBounds 3 Value.none))).get? b=s.heap.get? b:=λb l=>bYk _ _ (bYv l);have r:∀b o,s.heap.get? b=some o->(∀C,o.data≠ .fields C)->b≠T:=λb o q u z=>by rw[z,j]at q;cases q;exact u F k
  refine aX3 (s:={s with heap:=s.heap.update T (bY1 (·.setIfInBounds 3 Value.none)) }) g (hl.of_keeps λb o q u=>⟨o,(f b (r b o q u)).trans q,rfl⟩) n ((f e (bYv ne)).trans m) t B λi I y H p=>h i I y ?_ ⟨λb o a c d q=>?_,λb o a c q=>?_,λb o q=>?_⟩
  ·rw[<- Heap.size_after_update s.heap T (bY1 (·.setIfInBounds 3 Value.none))];exact H
  ·exact p.keep b o a (by simp) d ((f b λz=>c (by rw[z])).trans q)
  ·exact p.slot b o a (by simp) ((f b λz=>c (by rw[z])).trans q)
  ·by_cases l:b=T
   ·subst l;exact p.there _ _ (bYO _ j (bY9 (cQc k _)))
   ·exact p.there b o ((f b l).trans q)
theorem aKH{Q:Unit->bKQ->Prop}(a:A.frames=some (env::outer))(hl:s.heap.FunFrames base (env::outer))(c:env.frame=some L)(x:qQ s.heap e cls dx tb) (h:∀b T,qQ b e cls dx (some T)->s.heap.objs.size<=T->bWS ((env::outer).filterMap (·.frame)) e tb s.heap b->Q () {s with heap:=b}):bKV M A (leaving env (.ref e)) Q E s:=by
 unfold leaving;exact bKO (aVc a hl c x h)
theorem bQN{T:Nat}{Q:Unit->bKQ->Prop}(x:qQ s.heap e cls dx (some T)) (h:∀d,qQ d e cls dx (some T)->(∀b o,b≠T->s.heap.get? b=some o->d.get? b=some o)->(∀b o,s.heap.get? b=some o->∃n,d.get? b=some n)->Q () {s with heap:=d}):bKV M A (cXR (.ref e) none) Q E s:=by
 obtain⟨p,v,g,w,t,l,k⟩:=x.obj;obtain⟨ne,y,z,j,f,u⟩:=x.ent T rfl;have m:=(cXb.mp u).1;have i:=bYO (bY1 (·.setIfInBounds 3 Value.none)) j (bY9 (cQc f _));have a:∀b,b≠T->(s.heap.update T (bY1 (·.setIfInBounds 3 Value.none))).get? b=s.heap.get? b:=λb c=>bYk _ _ (bYv c);refine wpAny_setFlight_none g l k j f m (h _ ⟨⟨p,v,(a e (bYv ne)).trans g,w,t,l,k⟩,λB r=>?_⟩ (λb o c q=>(a b c).trans q) λb o q=>?_)
 ·cases r;exact⟨ne,_,_,i,cQc f _,by simp[m]⟩
 ·by_cases c:b=T
  ·subst c;exact⟨_,i⟩
  ·exact⟨o,(a b c).trans q⟩
end
end L2
namespace L2
open PySem PySem.W PySem.Calls PyProof.Rows Builtin Builtin.ObjectAttr
def jJ:List bKN:= [.type "Exception",.type "BaseException",.type "object"]
def aZ7:List bKN->Bool
 |.ref _::r=>aZ7 r
 |l=>l==jJ
theorem aWY:∀l:List bKN,aZ7 l=true->∃a:List Nat,l=a.map Value.ref++jJ:=by
 intro l;induction l with
 |nil=>intro e;cases e
 |cons v r b=>
  intro e;cases v with
  |ref c=>obtain⟨a,h⟩:=b e;exact⟨c::a,by rw[h];rfl⟩
  |_=>exact⟨[],beq_iff_eq.mp e⟩
theorem aQI(self:bKN):∀rs:List Nat,refuseLoop self "__setattr__" (rs.map Value.ref++jJ)=pure ()
 |[]=>PySem.F.store_Exception.passes self
 |c::rs=>by rw[bYx,cZl,refuseLoop_ref];exact aQI self rs
theorem aVJ{T:String}{b:Bool}(h:jJ.contains (.type T)=b):∀rs:List Nat,(rs.map Value.ref++jJ).contains (.type T)=b
 |[]=>h
 |c::rs=>by rw[bYx,cZl,cQ5,aVJ h rs];rfl
def bQB(K:Frag)(C:Nat):Bool:=match K.lookup C with
 |some ⟨_,_,.cls cd,sl⟩=> !cd.hasDel && cd.hasDict && (sl.toList[4]?).join==some (.builtin "Exception.__new__") && aZ7 cd.mro && cd.mro.contains (.ref C) &&
   specialIn K (.ref C) "__call__"==some (some (.builtin "type.__call__")) && instIn K (.ref C) (.type "type")==some true && typeIn K (.ref C)==some (.type "type") &&
   findIn K (.ref C) "__setattr__"==some (some (.builtin "object.__setattr__")) && findIn K (.ref C) "__getattribute__"==some (some (.builtin "BaseException.__getattribute__")) &&
   findIn K (.ref C) "__getattr__"==some none && findIn K (.ref C) "words"==some none
 |_=>false
structure vR(K:Frag)(C:Nat):Prop where
 cls:∃oc od cd sl,K.lookup C=some ⟨oc,od,.cls cd,sl⟩/\cd.hasDel=false/\cd.hasDict=true/\(sl.toList[4]?).join=some (.builtin "Exception.__new__")/\(∃rs:List Nat,cd.mro=rs.map Value.ref++jJ)/\cd.mro.contains (.ref C)=true
 call:specialIn K (.ref C) "__call__"=some (some (.builtin "type.__call__"))
 typ:instIn K (.ref C) (.type "type")=some true
 ty:typeIn K (.ref C)=some (.type "type")
 sa:findIn K (.ref C) "__setattr__"=some (some (.builtin "object.__setattr__"))
 ga:findIn K (.ref C) "__getattribute__"=some (some (.builtin "BaseException.__getattribute__"))
 gh:findIn K (.ref C) "__getattr__"=some none
 wd:findIn K (.ref C) "words"=some none
theorem aKn{K:Frag}{C:Nat}(e:bQB K C=true):vR K C:=by
 unfold bQB at e;split at e
 ·rename_i g n h d p;simp only[Bool.and_eq_true,Bool.not_eq_true',beq_iff_eq]at e;obtain⟨⟨⟨⟨⟨⟨⟨⟨⟨⟨⟨q,j⟩,i⟩,o⟩,l⟩,f⟩,r⟩,m⟩,k⟩,b⟩,a⟩,c⟩:=e;exact⟨⟨g,n,h,d,p,q,j,i,aWY _ o,l⟩,f,r,m,k,b,a,c⟩
 ·cases e
abbrev wA(C t:Nat)(dx:Option Nat):Obj:={cls:= .ref C,dict:=dx,data:= .fields #[.ref t,.none,.none,.none,.bool false,.none] }
abbrev Z0:Obj:={cls:= .type "tuple",data:= .seq #[] }
section
variable {M:Model}{K:Frag}{C:Nat}{h:Heap}
theorem vR.sub(X:K.In h)(c:vR K C){T:String}{b:Bool}(e:jJ.contains (.type T)=b):Looks M h (cXP (.ref C) (.type T)) b:=by
 obtain⟨l,m,g,i,d,j,p,n,⟨o,a⟩,k⟩:=c.cls;have f:clsIn K C=some g:=by unfold clsIn;rw[d]
 refine looks_mroIn X ?_;unfold mroIn;rw[f,Option.bind_some,a,if_neg (by simp[jJ]),aVJ e]
theorem vR.self(X:K.In h)(c:vR K C):Looks M h (cXP (.ref C) (.ref C)) true:=by
 obtain⟨j,k,f,g,b,i,n,l,⟨m,a⟩,d⟩:=c.cls;have e:clsIn K C=some f:=by unfold clsIn;rw[b]
 refine looks_mroIn X ?_;unfold mroIn;rw[e,Option.bind_some,if_neg (by rw[a];simp[jJ]),d]
theorem vR.made(X:K.In h)(c:vR K C):Looks M h (Bind.madeBy (.ref C)) (some "Exception.__new__"):=by
 obtain⟨j,o,a,i,d,r,m,e,⟨n,p⟩,b⟩:=c.cls;have g:clsIn K C=some a:=by unfold clsIn;rw[d]
 have f:Looks M h (mroOf (.ref C)) a.mro:=(looks_clsIn X g).andThen .now;obtain⟨v,l,hl⟩:∃v l,a.mro=v::l:=by
  cases q:a.mro with
  |nil=>rw[q]at b;cases b
  |cons v l=>exact⟨v,l,rfl⟩
 intro A Q E s k q;unfold Bind.madeBy;refine bKO (f A _ E s k ?_);rw[hl,cZs];refine bKO (bKO (bKO (bKO (wpAny_loadPart (k _ _ (X _ _ d)) (bKS ?_)))));dsimp only;rw[<- cQk,e];exact bKS (bKS (bKS q))
theorem vR.base(X:K.In h)(c:vR K C):Looks M h (Bind.staticBase (.ref C)) (.ref C):=by
 have made:=c.made (M:=M) X;obtain⟨i,o,a,g,e,r,m,j,⟨n,p⟩,b⟩:=c.cls;have f:clsIn K C=some a:=by unfold clsIn;rw[e]
 have d:Looks M h (mroOf (.ref C)) a.mro:=(looks_clsIn X f).andThen .now;obtain⟨v,l,hl⟩:∃v l,a.mro=v::l:=by
  cases q:a.mro with
  |nil=>rw[q]at b;cases b
  |cons v l=>exact⟨v,l,rfl⟩
 intro A Q E s k q;unfold Bind.staticBase;refine bKO (d A _ E s k ?_);rw[hl,cZs];exact bKO (bKO (bKO (made A _ E s k (bKS (bKS (bKS q))))))
theorem vR.here(X:K.In h)(c:vR K C):Looks M h (Bind.madeHere "BaseException.__new__" (.ref C)) ():=
 (c.base X).andThen ((c.made X).andThen (Looks.of_pure (by simp only[Option.map_some,cZ3.canon,bne_self_eq_false,Bool.false_eq_true,if_false])))
end
section
variable {prog:bK9}{w:bYf}{A:bYr}{R:Result->bKQ->Prop}{K:Frag}{C f:Nat}{h:Heap}{g:Array GenState}{d:Drawn}{t:Nat}{os:OsState}
theorem bJa(X:K.In h)(c:vR K C)(k:R (.ok (.ret (.ref (h.objs.size+1)))) ⟨(h.push Z0).push (wA C h.objs.size none),g,d,t,os⟩): cQ1 (bKX prog w) A (.call (.builtin "Exception.__new__") ⟨[.ref C],[]⟩) R ⟨h,g,d,t,os⟩:=by
 have F:=cZ3;have made:=c.made (M:=bKX prog w) X;have n:=c.base (M:=bKX prog w) X;have here:=c.here (M:=bKX prog w) X;have x:Looks (bKX prog w) h (cXP (.ref C) (.type "Exception")) true:=c.sub X dk;have q:Looks (bKX prog w) h (cXP (.ref C) (.type "AttributeError")) false:=c.sub X dk;have u:Looks (bKX prog w) h (cXP (.ref C) (.type "NameError")) false:=c.sub X dk;obtain⟨f,l,j,e,m,o,s,r,⟨z,y⟩,v⟩:=c.cls;have i:h.get? C=some ⟨f,l,.cls j,e⟩:=X _ _ m;refine codeAny_call_builtin_code (cZM _ F.quiet) ?_;simp only[checkBuiltinCall,F.newKind,F.newSplit,F.newRow];have args:Bind.checkArgs "Exception.__new__" ⟨.any,"Exception","Exception",.cls,[⟨"args",.varPos,false⟩,⟨"kwargs",.varKw,false⟩]⟩ ⟨[.ref C],[]⟩=pure ():=by kernel_rfl
 rw[args];repeat (first|simp only[bne_self_eq_false,Bool.false_eq_true,if_false]|lk)
 have a:=F.ends;refine codeAny_builtinAt F.entry ?_;unfold cQx.«BaseException.__new__»;refine PySem.wpAt_bind ?_;show PySem.wpAt _ _ _ (stack >>=_) _ _ _;refine PySem.wpAt_bind (PySem.wpAt_stack λp b=>PySem.wpAt_of_wpAny ?_);wp_walk;refine PySem.wpAt_of_wpAny ?_;rw[F.owner];repeat (first|simp only[Bool.not_true,Bool.false_eq_true,if_false]|lk)
 refine nd_load (bKR _ (bKR _ i)) (bKS ?_);dsimp only;refine bKS ?_;rw[o];refine bKS (bKS ?_);show R _ _;rw[cQl];exact k
theorem bQC(X:K.In h)(c:vR K C)(q:findIn K (.ref C) "__init__"=some (some (.ref f)))(n:typeIn K (.ref f)=some (.type "function")) (s:cQ1 (bKX prog w) (A.under (.builtin "type.__call__" ⟨[.ref C],[]⟩)) (.call (.ref f) ⟨[.ref (h.objs.size+1)],[]⟩) (InitBack (h.objs.size+1) R) ⟨(h.push Z0).push (wA C h.objs.size none),g,d,t,os⟩): cQ1 (bKX prog w) A (.call (.ref C) ⟨[],[]⟩) R ⟨h,g,d,t,os⟩:=by
 obtain⟨p,u,i,m,B,N,H,F,⟨P,y⟩,I⟩:=c.cls;have l:h.get? C=some ⟨p,u,.cls i,m⟩:=X _ _ B;have call:=looks_specialIn (M:=bKX prog w) X c.call;have j:=looks_instIn (M:=bKX prog w) X c.typ;have made:=c.made (M:=bKX prog w) X;have x:i.mro.isEmpty=false:=by rw[y];simp[jJ]
 refine codeAny_of_tree ?_;show bKV _ _ (callAny (.ref C) _) _ _ _;refine nd_load l ?_;show bKV _ _ (callAny.viaDunder (.ref C) _) _ _ _;unfold callAny.viaDunder;refine bKO (call.at ?_);dsimp only;rw[tc_bind];refine bKO (bKS (bKO (bKS ?_)));refine bKS (a:=Fin.again (.call (.builtin "type.__call__") ⟨[.ref C],[]⟩)) (And.intro rfl ?_);refine codeAny_call_builtin_at (cZM _ dk) entry_typeCall (check_slot tc_kind tc_split j (tc_args _ _ _) ?_);unfold cQx.«type.__call__»;have J:Looks (bKX prog w) h (mroOf (.ref C)) i.mro:=((Looks.ld (part:=none) l).andThen .now).andThen .now;repeat (first|simp only[x,Bool.false_eq_true,if_false]|with_reducible refine cXW ?_|lk)
 refine bJa X c ?_;have k:∀b o,h.get? b=some o->((h.push Z0).push (wA C h.objs.size none)).get? b=some o:=λb o e=>bKR _ (bKR _ e);have D:((h.push Z0).push (wA C h.objs.size none)).get? (h.objs.size+1)=some (wA C h.objs.size none):=by heap_get
 have O:Looks (bKX prog w) ((h.push Z0).push (wA C h.objs.size none)) (typeOf (.ref (h.objs.size+1))) (.ref C):=(Looks.ld D).andThen .now;have E:=(c.self (M:=bKX prog w) X).keeps k;have G:=(looks_findIn (M:=bKX prog w) X q).keeps k;have b1:=(bind_fn (M:=bKX prog w) X (.ref (h.objs.size+1)) n).keeps k;unfold cZy callSpecial? specialOf;repeat (first|with_reducible refine cXW ?_|lk)
 refine cQC s λr L z=>?_;rcases r with e|(v|_|_|_)<;> first|exact z|exact z.elim|skip
 obtain⟨rfl,z⟩:=z;exact bKS (bKS z)
end
section
variable {prog:bK9}{w:bYf}{A:bYr}{E:bKN->bKQ->Prop}{K:Frag}{C e tp:Nat}{s:bKQ}{v:bKN}
theorem bJb{Q:Unit->bKQ->Prop}(X:K.In s.heap)(c:vR K C)(k:s.heap.get? e=some (wA C tp none)) (G:∀d tk,d.get? e=some (wA C tp (some s.heap.objs.size))->d.Ns1 s.heap.objs.size (λy=>if y="words" then some v else none)->(∀b o,b≠e->s.heap.get? b=some o->d.get? b=some o)->Q () {s with heap:=d,toks:=tk}): bKV (bKX prog w) A (setAttr (.ref e) "words" v) Q E s:=by
 have I:InstAt s.heap e (wA C tp none) C none:=⟨k,rfl,rfl,cQd⟩;refine set_plain X I c.sa ?_;have f:=PySem.F.store_object;obtain⟨R,U,u,P,L,V,B,S,⟨W,J⟩,T⟩:=c.cls;have z:clsIn K C=some u:=by unfold clsIn;rw[L]
 have sub:Looks (bKX prog w) s.heap (cZy (.ref e) (.type "object")) true:=I.type.andThen (c.sub X dk);have H:Looks (bKX prog w) s.heap (mroOf (.ref C)) u.mro:=(looks_clsIn X z).andThen .now;refine cZx f.slot.plain f.entry (@check_slot (bKX prog w) _ _ {s with toks:=s.toks+1} "object.__setattr__" "object" "__setattr__" (.ref e) [.str "words" s.toks,v] [] _ f.kind f.split sub (f.args (.ref e) (.str "words" s.toks) v) ?_);rw[osa_eq,refuse_eq];have i:∀ (b:Nat)(o:Obj),s.heap.get? b=some o->s.heap.get? b=some o:=λ_ _ e=>e;refine bKO (bKO (I.type _ _ _ _ i (bKO (H _ _ _ _ i ?_))));rw[J,aQI];refine bKS (bKO (I.type _ _ _ _ i (bKO ((looks_findIn X c.wd) _ _ _ _ i (bKO (bKS ?_))))));have g:e≠s.heap.objs.size:=bYb (bK1 k);have j:(s.heap.push emptyDict).get? e=some (wA C tp none):=bKR _ k;refine bKO (bKS (bKO (bKO (wpAny_loadPart k (bKO ((looks_clsIn X z) _ _ _ _ i ?_))))));rw[B];refine bKO (wpAny_alloc ?_);refine bKO (wpAny_update j ?_);refine bKS (a:=some s.heap.objs.size) ?_;show bKV _ _ (storeInDict s.heap.objs.size (.str "words" s.toks) "words" v) _ _ _;have m:((s.heap.push emptyDict).update e λo=>{o with dict:=some s.heap.objs.size}).get? s.heap.objs.size=some emptyDict:=(cZC _ _ _ _ g.symm).trans (Heap.get?_push_at rfl rfl);have n:((s.heap.push emptyDict).update e λo=>{o with dict:=some s.heap.objs.size}).Ns s.heap.objs.size (λ_=>none):=⟨_, #[],_,m,rfl,λe D=>absurd D (by simp),λ_=>rfl⟩;have t:=bYO (λo=>{o with dict:=some s.heap.objs.size}) j rfl;unfold storeInDict newKeyGuard;refine bKO (bKS (bKO (wpAny_nsSet1 (Heap.Ns1.of_empty n) λd h x=>?_)));obtain⟨Y,O,M,l,p,r⟩:=h.count (Within.cons "words" v Within.nil);refine bKO (wpAny_lookBehind l (by rw[p];exact pastItsLine_dict (bYo r (by rw[bYM,cQS,bYm];omega))) ?_);refine bKS ?_;refine G d _ ((x.2 e g).trans t) h λb o N q=>?_;exact(x.2 b (bYb (bK1 q))).trans ((cZC _ _ _ _ N).trans (bKR _ q))
theorem bga:Slot "Exception" "__getattribute__" "BaseException.__getattribute__":=
 .of (owner:="BaseException") (n:="__getattribute__") (by rw[typeLookup_type,cZo];kernel_rfl) dk dk dk (by first|exact .inl dk|exact .inr dk) (by rw[isSubtype_type];kernel_rfl)
theorem bZ9{a:Bool}{Q:bKN->bKQ->Prop}{b d:Obj}{dx:Nat}(X:K.In s.heap)(c:vR K C)(r:s.heap.get? e=some b)(q:b.cls= .ref C)(n:b.dict=some dx)(u:notCls b=true)(o:s.heap.get? dx=some d) (hl:lookIn "words" d=some (some v)) (t:handedIn v=true) (l:Q v {s with toks:=s.toks+1}):bKV (bKX prog w) A (getAttr (.ref e) "words" a) Q E s:=by
 have I:InstAt s.heap e b C (some d):=⟨r,q,u,by rw[n];exact o⟩;obtain⟨z,j,i,y,g,H,k,B,⟨J,G⟩,D⟩:=c.cls;have f:clsIn K C=some i:=by unfold clsIn;rw[g]
 have x:findObj K C (some d) "words"=some (.value v):=by unfold findObj;rw[f,Option.bind_some,c.wd];simp only[Option.bind_some];unfold W.ownOf;rw[k,if_pos rfl];dsimp only;rw[hl];rfl
 have h:=I.type (M:=bKX prog w);have m:=looks_find (M:=bKX prog w) X I x;have sub:Looks (bKX prog w) s.heap (cZy (.ref e) (.type "BaseException")) true:=I.type.andThen (c.sub X dk);refine bKO (wpAny_mkText (bY5 (bKO (h _ _ _ _ (λ_ _ e=>e) (bKO (looks_findIn X c.ga _ _ _ _ (λ_ _ e=>e) ?_))))));dsimp only;rw[show(onTheHeap (Value.ref C) && Value.builtin "BaseException.__getattribute__"==Value.builtin "object.__getattribute__")=false from by rw[show(Value.builtin "BaseException.__getattribute__"==Value.builtin "object.__getattribute__")=false from dk,Bool.and_false],if_neg (by decide)];have p:Looks (bKX prog w) s.heap (hookBefore (.ref C)) none:=looks_hook (mc:= .ref C) X (by rw[if_pos (show onTheHeap (Value.ref C)=true from rfl)];exact c.gh);refine bKO (p _ _ _ _ (λ_ _ e=>e) (bKO (cX1 (bY5 ?_))));unfold callGetattribute;rw[show(a && onTheHeap (Value.builtin "BaseException.__getattribute__"))=false from Bool.and_false _,if_neg (by decide)];unfold boundAndCalled;rw[bga.bind];refine bKO (bKS ?_);show bKV _ _ (call (.builtin "BaseException.__getattribute__") [.ref e,.str "words" s.toks]) _ _ _;refine cXW (cZx bga.plain F.entry_bexc_ga ?_);refine @check_slot (bKX prog w) _ _ {s with toks:=s.toks+1} "BaseException.__getattribute__" "BaseException" "__getattribute__" (.ref e) [.str "words" s.toks] [] _ dk dk sub (F.args_bexc_ga (.ref e) (.str "words" s.toks)) ?_;unfold cQx.«object.__getattribute__»;refine bKO (bKS (bKO (bKS ?_)));refine bKO (h _ _ _ _ (λ_ _ e=>e) (bKO (m _ _ _ _ (λ_ _ e=>e) (bKS ?_))));show bKV _ _ (handedOut v) _ _ _;rw[handedOut_of t];exact bKS l
theorem aKo{M:Model}{Q:Bool->bKQ->Prop}{f:Obj}{Rf:Nat}(X:K.In s.heap)(c:vR K C)(b:vR K Rf)(n:mroIn K C (.ref Rf)=some true)(h:s.heap.get? e=some f)(p:f.cls= .ref C)(l:Q true s): bKV M A (excMatches (.ref e) (.ref Rf)) Q E s:=by
 obtain⟨a,g,d,t,os⟩:=s;dsimp only at X h;have G:Looks M a (typeOf (.ref e)) (.ref C):=p ▸ (Looks.ld h).andThen .now;have q:Looks M a (cXP (.ref C) (.ref Rf)) true:=looks_mroIn X n;have D:Looks M a (cZy (.ref Rf) (.type "tuple")) false:=(looks_typeIn X b.ty).andThen (Looks.of_pure tc_notTuple);have B:Looks M a (cXP (.ref Rf) (.type "BaseException")) true:=b.sub X dk;have v:Looks M a (typeOf (.ref Rf)) (.type "type"):=looks_typeIn X b.ty;have x:Looks M a (cXP (.type "type") (.type "type")) true:=Looks.of_pure tc_sub;obtain⟨j,m,k,i,o,F,w,u,⟨H,z⟩,y⟩:=b.cls;have r:a.get? Rf=some ⟨j,m,.cls k,i⟩:=X _ _ o;unfold excMatches isExcClass;repeat (first|simp only[Bool.not_true,Bool.false_eq_true,if_false,if_true]|lk)
 exact l
theorem aKp{M:Model}{env:Env}{x:Sem bKN}{Q:Flow->bKQ->Prop}(l:A.handled=none) (h:bKV M A x (λv a=>∃e tp i C,v= .ref e/\K.In a.heap/\vR K C/\a.heap.get? e=some (wA C tp i)/\E (.ref e) a) E s):bKV M A (raiseStmt env (some x) none) Q E s:=by
 unfold raiseStmt;refine bKO (bYN h (λv a j=>?_) λ_ _ x=>x);obtain⟨e,tp,i,C,rfl,X,c,f,k⟩:=j;obtain⟨b,g,d,tk,os⟩:=a;dsimp only at X f;have o:Looks M b (typeOf (.ref e)) (.ref C):=(Looks.ld f).andThen .now;have m:Looks M b (cXP (.ref C) (.type "BaseException")) true:=c.sub X dk;have n:Looks M b (typeOf (.ref C)) (.type "type"):=looks_typeIn X c.ty;unfold excFromValue isExcClass cZy;repeat (first|simp only[Bool.false_eq_true,if_false,if_true]|lk)
 show bKV M A handled _ _ _;refine wpAny_handled ?_;rw[l];exact wpAny_throw k
end
end L2
namespace L2
open PySem PySem.Spec PyProof.Rows
def CXR(P:bK9)(w:bYf):CXT:=λouter H s E d b=>∃ (e C c tb:Nat)(a:Hp),d= .ref e/\b.os=s.os/\AllBare b.gens/\Un (frs outer) [] H a s.heap b.heap/\HOk P w a b.heap/\
 qQ b.heap e (.ref C) (some c) (some tb)/\a e=none/\a tb=none/\s.heap.objs.size<=e/\s.heap.objs.size<=tb/\E (.ref C) (some c) a
section
variable {P:bK9}{w:bYf}{K:bKP}{mg:Str->Option bKN}{base:Heap}{N:List Str}{qual:Str}{scope:cQX}{f:Nat}{cd:bKN}{A:bYr}{outer:List Env}{s₀:bKQ}{H₀:Hp}{E:XK}
 {pins:List (Nat×Obj)} {σ:St} {H:Hp} {s:bKQ}
theorem bWG{e C dx:Nat}{tb:Option Nat}(I:Inv (aXf (CXR P w) P w K mg base N qual scope f cd A outer s₀ H₀ E) pins σ H s)(x:qQ s.heap e (.ref C) (some dx) tb)(l:H e=none)(t:s₀.heap.objs.size<=e) (m:∀T,tb=some T->H T=none/\s₀.heap.objs.size<=T) (q:E (.ref C) (some dx) H):(aXf (CXR P w) P w K mg base N qual scope f cd A outer s₀ H₀ E).xe (.ref e) s:=by
 have ne:∀b o,s₀.heap.get? b=some o->b≠e:=λb o a=>bYb (bYe (bK1 a) t);have D:∀b o,s₀.heap.get? b=some o->tb≠some b:=λb o a z=>absurd (bYe (bK1 a) (m b z).2) (bYW _);have G:∀b,b∈(cQH qual scope s₀.heap.objs.size f cd::outer).filterMap (·.frame)->b=s₀.heap.objs.size\/b∈frs outer:=λb d=>by rw[cXu,show(cQH qual scope s₀.heap.objs.size f cd).frame=some s₀.heap.objs.size from rfl]at d;exact bKW.mp d
 have j:∀b o,s₀.heap.get? b=some o->b∉frs outer->b∉(cQH qual scope s₀.heap.objs.size f cd::outer).filterMap (·.frame):=λb o a d z=>
  (G b z).elim (bYb (bK1 a)) d
 show bKV (bKX P w) (A.deeper (cQH qual scope s₀.heap.objs.size f cd)) (leaving (cQH qual scope s₀.heap.objs.size f cd) (.ref e)) _ _ s;refine aKH (base:=base) (outer:=outer) (L:=s₀.heap.objs.size) I.ok.frames I.stack rfl x λQ T y B p=>?_;refine⟨e,C,dx,T,H,rfl,I.os,I.bare,?_,?_,y,l,I.hok.fresh B,t,bYo I.sz B,q⟩
 ·refine⟨λb o a n d h=>?_,λb o a n d h=>?_,λb o a n h=>I.base.free b o a n h,λb o a h=>?_,I.base.tups,I.base.frzs,I.base.tbls⟩
  ·exact p.keep b o (ne b o a) (D b o a) (j b o a d) (I.base.keep b o a n d h)
  ·obtain⟨O,i⟩:=I.base.slot b o a n d h;obtain⟨k,J⟩:=p.slot b _ (ne b o a) (D b o a) i;exact⟨k,J⟩
  ·obtain⟨F,i⟩:=I.base.there b o a h;exact p.there b F i
 ·refine λb u a=>(I.hok b u a).stay (λc v M r=>?_) (λ_ r=>r) λ_ _ r=>r;have g:H c≠none:=by
   rcases M with z|z
   ·rw[z,a];simp
   ·rw[z];simp
  refine p.keep c v (λz=>g (by rw[z];exact l)) (λz=>g (m c z).1) (λz=>g (I.stkFree c z)) r
theorem zL:w8 (CXR P w) (aXf (CXR P w) P w K mg base N qual scope f cd A outer s₀ H₀ E) E:=by
 intro a σ H s p m I h;obtain⟨e,C,q,tb,o,rfl,n,bare,un,g,x,i,l,c,d,j⟩:=h;have k:Inv (aXf (CXR P w) P w K mg base N qual scope f cd A outer s₀ H₀ E) a σ o m:=I.call' n un g bare λb z=>absurd z (by simp);exact bWG k x i (bYo I.sz c) (λT z=>by cases z;exact⟨l,bYo I.sz d⟩) j
theorem Fun.okX{x:Str}{st:Stmt}{e:cQI}{ps:List Str}{k:Nat}{sp:Sp}(F:Fun K x qual st f e)(S:yM N ps (yH st)) (b:∀ (a:bKN)(A:bYr)(outer:List Env)(s:bKQ)(H:Hp)(vs:List V)(Q:VK)(E:XK),vJ k (A.deeper (cQH qual (yH st) s.heap.objs.size f a))->sp vs H Q E-> ∃t,PSs (aXf (CXR P w) P w K mg base N qual (yH st) f a A outer s H E) (x6 st) t/\t {nx:=λ_ l=>Q .non l,rt:=Q} (start N vs) H) (len:∀vs H Q E,sp vs H Q E->vs.length=ps.length:=by intro _ _ _ _ h;repeat (first|(obtain⟨rfl,_⟩:=h;exact rfl)|(obtain⟨_,h⟩:=h))):y8 P w K mg base (CXR P w) (k+1) f e ps sp:=by
 obtain⟨m,o,kV,j,n,p,a,ct,i,rfl,lk,d⟩:=F.ex;exact bJd lk d S len λA outer s H vs Q E g c=>b a A outer s H vs Q E g c
end
structure FnX(P:bK9)(w:bYf)(K:bKP)(mg:Str->Option bKN)(base:Heap)(k:Nat)(x:Str)(ps:List Str)(sp:Sp):Prop where
 ex:∃f fd,y8 P w K mg base (CXR P w) k f fd ps sp/\vQ K fd ps []/\bYG K (.ref f)=true/\mg x=some (.ref f)
theorem FnX.mono{P:bK9}{w:bYf}{K:bKP}{mg:Str->Option bKN}{base:Heap}{j k:Nat}{x:Str}{ps:List Str}{sp:Sp}(G:FnX P w K mg base j x ps sp)(h:j<=k):FnX P w K mg base k x ps sp:=
 let ⟨f,fd,a,b⟩:=G.ex;⟨f,fd,a.mono h,b⟩
structure MG(P:bK9)(w:bYf)(K:bKP)(mg:Str->Option bKN)(base:Heap)(CX:CXT)(k:Nat)(C:Nat)(m:Str)(ps:List Str)(sp:Sp):Prop where
 ex:∃f fd,y8 P w K mg base CX k f fd ps sp/\vQ K fd ps []/\bVB K C m f
 cl:Cls K C
theorem MG.mono{P:bK9}{w:bYf}{K:bKP}{mg:Str->Option bKN}{base:Heap}{CX:CXT}{j k:Nat}{C:Nat}{m:Str}{ps:List Str}{sp:Sp}(G:MG P w K mg base CX j C m ps sp)(h:j<=k):MG P w K mg base CX k C m ps sp:=
 let ⟨f,fd,a,b⟩:=G.ex;⟨⟨f,fd,a.mono h,b⟩,G.cl⟩
structure MkG(P:bK9)(w:bYf)(K:bKP)(mg:Str->Option bKN)(base:Heap)(k:Nat)(x:Str)(C:Nat)(ps:List Str)(sp:Sp):Prop where
 ex:∃f fd,y8 P w K mg base CX0 k f fd ps sp/\vQ K fd ps []/\Mk K C f/\mg x=some (.ref C)
theorem MkG.mono{P:bK9}{w:bYf}{K:bKP}{mg:Str->Option bKN}{base:Heap}{j k:Nat}{x:Str}{C:Nat}{ps:List Str}{sp:Sp}(G:MkG P w K mg base j x C ps sp)(h:j<=k):MkG P w K mg base k x C ps sp:=
 let ⟨f,fd,a,b⟩:=G.ex;⟨f,fd,a.mono h,b⟩
section
variable {X:Cx}{k:Nat}{x m:Str}{C:Nat}{ps:List Str}{sp:Sp}{e o:Expr}{es:List Expr}{ta:TE}{t:TA}{p pos apos:Pos}{E:XK}{CX:CXT}
theorem aQl{P:bK9}{w:bYf}{K:bKP}{mg:Str->Option bKN}{base:Heap}{N:List Str}{qual:Str}{scope:cQX}{f:Nat}{cd:bKN}{A:bYr}{outer:List Env}{s₀:bKQ}{H₀:Hp}
  (G:FnX P w K mg base k x ps sp) (d:vJ k (A.deeper (cQH qual scope s₀.heap.objs.size f cd))) (m:Gl (aXf (CXR P w) P w K mg base N qual scope f cd A outer s₀ H₀ E) x) (l:PA (aXf (CXR P w) P w K mg base N qual scope f cd A outer s₀ H₀ E) (e::es) t)
  (c:(x==("__debug__":Str))=false:=by decide) (h:bYp (e::es) (cQH qual scope s₀.heap.objs.size f cd)=(false,eval e (cQH qual scope s₀.heap.objs.size f cd))::bYp es (cQH qual scope s₀.heap.objs.size f cd):=by rfl)
  (a:(cQp pos (bYp es (cQH qual scope s₀.heap.objs.size f cd))).any (·.1)=false:=by rfl):
  PE (aXf (CXR P w) P w K mg base N qual scope f cd A outer s₀ H₀ E) (.Call (.Name x p) (e::es) [] pos) (bX2 sp [] E t):=by
 obtain⟨g,n,F,b,i,j⟩:=G.ex
 exact aYd F d m j i b .nil zL l c h a
theorem vN{pl:Sem Bool}(G:MG X.prog X.w X.K X.mg X.base CX k C m ps sp)(h:vJ k X.A)(l:w8 CX X E)(d:PE X o ta)(i:PA X (e::es) t)
  (a:bYp (e::es) X.env=(false,eval e X.env)::bYp es X.env:=by rfl) (c:(cQp pos (bYp es X.env)).any (·.1)=false:=by rfl)
  (n:eval (.Call (.Attribute o m apos) (e::es) [] pos) X.env=(do
   let ov <- eval o X.env
   standAt apos.atName
   let (f,first) <- cX3 [ov] (cZa ov m pl)
   callWith pos f first (cQp pos (bYp (e::es) X.env)) (cXV pos (cQ4 [] X.env))):=by rfl):
  PE X (.Call (.Attribute o m apos) (e::es) [] pos) (bX4 C m sp [] E ta t):=by
 obtain⟨g,p,F,b,j⟩:=G.ex
 exact bJO d G.cl j F h b .nil l i a c n
theorem bXs{pl:Sem Bool}(G:MG X.prog X.w X.K X.mg X.base CX k C m ps sp)(c:vJ k X.A)(h:w8 CX X E)(a:PE X o ta)
  (d:eval (.Call (.Attribute o m apos) [] [] pos) X.env=(do
   let ov <- eval o X.env
   standAt apos.atName
   let (f,first) <- cX3 [ov] (cZa ov m pl)
   callWith pos f first (cQp pos (bYp [] X.env)) (cXV pos (cQ4 [] X.env))):=by rfl):
  PE X (.Call (.Attribute o m apos) [] [] pos) (bX4 C m sp [] E ta bX5):=by
 obtain⟨g,i,F,b,e⟩:=G.ex
 exact bXu a G.cl e F c b .nil h d
theorem bW6(G:MkG X.prog X.w X.K X.mg X.base k x C ps sp)(f:vJ (k+1) X.A)(l:Gl X x)(h:PA X (e::es) t)(a:(x==("__debug__":Str))=false:=by decide)
  (d:bYp (e::es) X.env=(false,eval e X.env)::bYp es X.env:=by rfl) (c:(cQp pos (bYp es X.env)).any (·.1)=false:=by rfl):PE X (.Call (.Name x p) (e::es) [] pos) (bX3 C sp [] E0 t):=by
 obtain⟨g,m,F,b,i,j⟩:=G.ex
 exact bJN i F f l j b .nil vM h a d c
theorem bZE(G:MkG X.prog X.w X.K X.mg X.base k x C ps sp)(c:vJ (k+1) X.A)(f:Gl X x)(a:(x==("__debug__":Str))=false:=by decide):PE X (.Call (.Name x p) [] [] pos) (bX3 C sp [] E0 bX5):=by
 obtain⟨g,h,F,b,d,e⟩:=G.ex;exact bXt d F c f e b .nil vM a
end
end L2
namespace L2
open PySem PySem.Spec PyProof.Rows
def jN(e C tp:Nat)(dx:Option Nat):HO:= .ext λh=>h.get? e=some (wA C tp dx)
theorem aJ3{P:bK9}{w:bYf}{H:Hp}{h:Heap}{e C tp:Nat}{dx:Option Nat}(b:h.get? e=some (wA C tp dx)):x0 P w H h e (jN e C tp dx):=⟨b,⟨_,b⟩,λc d a k=>k _ a⟩
theorem aJ2{P:bK9}{w:bYf}{H:Hp}{h:Heap}{e C tp:Nat}{dx:Option Nat}(ok:HOk P w H h)(a:H e=some (jN e C tp dx)):h.get? e=some (wA C tp dx):=(ok e _ a).1
section
variable {X:Cx}{pins:List (Nat×Obj)}{σ:St}{H:Hp}{s:bKQ}
theorem Inv.forget{e:Nat}{φ:Heap->Prop}(I:Inv X pins σ H s)(h:H e=some (.ext φ)):Inv X pins σ (λb=>if b=e then none else H b) s:=by
 have ne:∀b u,H b=some u->(∀φ,u≠ .ext φ)->b≠e:=λb u q n z=>by rw[z,h]at q;cases q;exact n _ rfl
 refine⟨I.ok,I.os,I.bare,⟨I.base.keep,I.base.slot,λb o q n l=>?_,I.base.there,λb d q=>?_,λb o u q=>?_,λb ps q=>?_⟩,I.loc,I.cell,?_,λx c q=>?_,λp i=>?_,λb u q=>?_,I.len⟩
 ·show(if b=e then none else H b)=none;rw[I.base.free b o q n l];split<;> rfl
 ·have z:=I.base.tups b d q;show(if b=e then none else H b)=_;rw[if_neg (ne b _ z λ_ y=>by cases y),z]
 ·have z:=I.base.frzs b o u q;show(if b=e then none else H b)=_;rw[if_neg (ne b _ z λ_ y=>by cases y),z]
 ·obtain⟨m,z⟩:=I.base.tbls b ps q;refine⟨m,?_⟩;show(if b=e then none else H b)=_;rw[if_neg (ne b _ z λ_ y=>by cases y),z]
 ·show(if _=e then none else H _)=none;rw[I.free];split<;> rfl
 ·show(if c=e then none else H c)=none;rw[I.freeC x c q];split<;> rfl
 ·obtain⟨k,j,g⟩:=I.pin p i;refine⟨k,?_,g⟩;show(if p.1=e then none else H p.1)=none;rw[j];split<;> rfl
 ·have a:(if b=e then none else H b)=some u:=q;by_cases f:b=e
  ·rw[if_pos f]at a;cases a
  ·rw[if_neg f]at a;refine(I.hok b u a).stay (λc v _ r=>r) (λc r=>?_) λc d r=>?_
   ·show(if c=e then none else H c)=_;rw[if_neg (ne c _ r λ_ y=>by cases y),r]
   ·show(if c=e then none else H c)=_;rw[if_neg (ne c _ r λ_ y=>by cases y),r]
def bKE(K:bKP)(d c:TE):TS:=λD σ H=>c σ H λy f=>d σ f λx a=>∃e C tp,x= .ref e/\a e=some (jN e C tp none)/\vR K C/\∀b,a b=none->D.nx σ (upd (upd a b (.xd [("words",y)])) e (jN e C tp (some b)))
theorem bWg{o a:Expr}{E w:TE}{pos i:Pos}(N:PE X o E)(P:PE X a w)(J:swapsWith a (some (.Attribute o "words" i)) pos.line X.env=pure false): PS X (.Assign [.Attribute o "words" i] a pos) (bKE X.K E w):=by
 intro pins s σ H D I h;refine cZp (thn (P pins s σ H _ I h) λu s1 ⟨y,H1,I1,ry,q⟩=>thn (N pins s1 σ H1 _ I1 q) λov s2 ⟨x,H2,I2,rx,e,C,tp,ex,ea,c,q2⟩=>?_) J;subst ex;obtain rfl:ov=Value.ref e:=rx;have O:=aJ2 I2.hok ea;have g:H2 s2.heap.objs.size=none:=I2.hok.fresh (bKU _);have G:=q2 _ g;refine bJb I2.kIn c O λQ tk A M k=>⟨σ,_,I2.un (t':=tk) ?_ ?_,G⟩
 ·have nb:∀b,H2 b=none->b≠e:=λb n z=>by rw[z,ea]at n;cases n
  have L:∀b o,s2.heap.get? b=some o->b≠s2.heap.objs.size:=λb o r=>bYb (bK1 r);have p:∀b u,H2 b=some u->(∀φ,u≠ .ext φ)->upd (upd H2 s2.heap.objs.size (.xd [("words",y)])) e (jN e C tp (some s2.heap.objs.size)) b=some u:=λb u r n=>by rw[yI (λz=>by rw[z,ea]at r;cases r;exact n _ rfl),yI (yJ r g)];exact r
  refine⟨λb o r n _ _=>k b o (nb b n) r,λb o r n _ _=>⟨o.slots,k b o (nb b n) r⟩,λb o r n _=>?_,λb o r _=>?_,λb F r=>p b _ r (λ_ z=>by cases z),λb o u r=>p b _ r (λ_ z=>by cases z),λb ps r=>⟨#[],by rw[p b _ r (λ_ z=>by cases z)];simp⟩⟩
  ·rw[yI (nb b n),yI (L b o r)];exact n
  ·by_cases j:b=e
   ·subst j;exact⟨_,A⟩
   ·exact⟨o,k b o j r⟩
 ·intro b v r;by_cases j:b=e
  ·subst j;rw[yB]at r;cases r;exact aJ3 A
  ·rw[yI j]at r;by_cases B:b=s2.heap.objs.size
   ·subst B;rw[yB]at r;cases r;refine⟨_,M,λf=>?_⟩;show aXS (cQ3 f [("words",y)]) (if f="words" then some u else none);by_cases l:f="words"
    ·subst l;exact ry
    ·rw[if_neg l];have:(f==("words":Str))=false:=by simpa using l
     simp[cQ3,this,aXS]
   ·rw[yI B]at r;have ne:∀c m,H2 c=some m->(∀φ,m≠ .ext φ)->c≠e:=λc m d n z=>by rw[z,ea]at d;cases d;exact n _ rfl
    refine(I2.hok b v r).stay (λc o t d=>k c o ?_ d) (λc d=>?_) λc F d=>?_
    ·rcases t with rfl|t
     ·exact j
     ·exact ne c _ t λ_ z=>by cases z
    ·rw[yI (ne c _ d λ_ z=>by cases z),yI (yJ d g)];exact d
    ·rw[yI (ne c _ d λ_ z=>by cases z),yI (yJ d g)];exact d
end
def wH(K:bKP):Sp:=λb H Q _=>∃ (e C tp:Nat)(y:V),b= [.ref e,y]/\H e=some (jN e C tp none)/\vR K C/\∀a,H a=none->Q .non (upd (upd H a (.xd [("words",y)])) e (jN e C tp (some a)))
def zX(K:bKP)(C:Nat)(t:Str):Sp:=λb H Q _=>∃e tp:Nat,b= [.ref e]/\H e=some (jN e C tp none)/\∀a,H a=none->Q .non (upd (upd H a (.xd [("words",.str t)])) e (jN e C tp (some a)))
structure aVM(P:bK9)(w:bYf)(K:bKP)(mg:Str->Option bKN)(base:Heap)(k:Nat)(x m:Str)(ps:List Str)(sp:Sp):Prop where
 ex:∃ (R f:Nat)(fd:cQI),y8 P w K mg base CX0 k f fd ps sp/\vQ K fd ps []/\PySem.W.readsIn K R (.type "type")=true/\PySem.W.findCls K (.ref R) (.type "type") m=some (.val (.ref f))/\
  cZh K (.ref R) "__getattribute__"=some (some (.builtin "type.__getattribute__"))/\bYG K (.ref f)=true/\mg x=some (.ref R)
section
variable {X:Cx}{k:Nat}{x m:Str}{ps:List Str}{sp:Sp}{e:Expr}{es:List Expr}{t:TA}{p pos apos:Pos}
theorem uN{pl:Sem Bool}(G:aVM X.prog X.w X.K X.mg X.base k x m ps sp)(i:vJ k X.A)(v:Gl X x)(u:PA X (e::es) t)(d:(x==("__debug__":Str))=false:=by decide)
  (c:bYp (e::es) X.env=(false,eval e X.env)::bYp es X.env:=by rfl) (a:(cQp pos (bYp es X.env)).any (·.1)=false:=by rfl)
  (n:eval (.Call (.Attribute (.Name x p) m apos) (e::es) [] pos) X.env=(do
   let ov <- eval (.Name x p) X.env
   standAt apos.atName
   let (f,first) <- cX3 [ov] (cZa ov m pl)
   callWith pos f first (cQp pos (bYp (e::es) X.env)) (cXV pos (cQ4 [] X.env))):=by rfl):
  PE X (.Call (.Attribute (.Name x p) m apos) (e::es) [] pos) (bX2 sp [] E0 t):=by
 obtain⟨R,f,z,F,b,g,y,q,l,o⟩:=G.ex
 intro pins s σ H Q I h
 refine cXM (pl:=pl) (uL I v o ?_ d) n
 refine PySem.W.method_cls I.kIn q (PySem.W.cls_value I.kIn g y rfl ?_)
 have j:=I.tok (s.toks+1)
 refine cXA (first:= []) (h₀:=X.base) I.ok.mod.kin l (thn (u pos pins _ σ H _ j h) λus s2 ⟨vs,H2,I2,r,q2⟩=>⟨I2.kIn,?_⟩) c a
 exact aZA F i b .nil vM I2 r q2
end
structure ExG(P:bK9)(w:bYf)(K:bKP)(mg:Str->Option bKN)(base:Heap)(k:Nat)(x:Str)(Rf:Nat)(C:Nat)(t:Str):Prop where
 ex:∃f fd,y8 P w K mg base CX0 k f fd ["self"] (zX K C t)/\vQ K fd ["self"] []/\bYw K (.ref C) "__init__"=some (some (.ref f))/\cXq K (.ref f)=true/\bYG K (.ref C)=true/\mg x=some (.ref C)
 cl:vR K C
 sub:cXY K C (.ref Rf)=some true
theorem ExG.mono{P:bK9}{w:bYf}{K:bKP}{mg:Str->Option bKN}{base:Heap}{j k:Nat}{x:Str}{Rf C:Nat}{t:Str}(G:ExG P w K mg base j x Rf C t)(h:j<=k):ExG P w K mg base k x Rf C t:=
 let ⟨f,fd,a,b⟩:=G.ex;⟨⟨f,fd,a.mono h,b⟩,G.cl,G.sub⟩
def bZJ(C:Nat)(t:Str)(E:XK):TS:=λ_ _ H=>∀a,H a=none->E (.ref C) (some a) (upd H a (.xd [("words",.str t)]))
section
variable {P:bK9}{w:bYf}{K:bKP}{mg:Str->Option bKN}{base:Heap}{N:List Str}{qual:Str}{scope:cQX}{f:Nat}{cd:bKN}{A:bYr}{outer:List Env}{s₀:bKQ}{H₀:Hp}{E:XK}{k:Nat}{x t:Str}{Rf C:Nat}{np cpos pos:Pos}
theorem zO(G:ExG P w K mg base k x Rf C t)(R:vJ (k+1) (A.deeper (cQH qual scope s₀.heap.objs.size f cd)))(Z:Gl (aXf (CXR P w) P w K mg base N qual scope f cd A outer s₀ H₀ E) x)(B:(x==("__debug__":Str))=false:=by decide):
  PS (aXf (CXR P w) P w K mg base N qual scope f cd A outer s₀ H₀ E) (.Raise (some (.Call (.Name x np) [] [] cpos)) none pos) (bZJ C t E):=by
 intro pins s σ H D I h
 obtain⟨fi,fd,F,b,S,hf,V,X⟩:=G.ex
 rw[arm_exec_Raise]
 refine bKO (cZj ?_)
 show bKV _ _ (raiseStmt _ (some (do let v <- eval (.Call (.Name x np) [] [] cpos) (cQH qual scope s₀.heap.objs.size f cd);standAt pos;pure v)) none) _ _ _
 refine aKp (K:=K) (I.ok.hd rfl) (bKO ?_)
 refine cQq (uL I Z X ?_ B)
 refine cZF I.kIn V (cXW ?_)
 obtain⟨a,g,d,tk,L⟩:=s
 have U:Inv (aXf (CXR P w) P w K mg base N qual scope f cd A outer s₀ H₀ E) pins σ H ⟨a.push Z0,g,d,tk,L⟩:=I.kept (t':=tk) λb u e=>bKR _ e
 have hx:((a.push Z0).push (wA C a.objs.size none)).get? (a.objs.size+1)=some (wA C a.objs.size none):=by heap_get
 have q:Inv (aXf (CXR P w) P w K mg base N qual scope f cd A outer s₀ H₀ E) pins σ (upd H (a.objs.size+1) (jN (a.objs.size+1) C a.objs.size none)) ⟨(a.push Z0).push (wA C a.objs.size none),g,d,tk,L⟩:=
  U.laid (t':=tk) (λb u e=>bKR _ e) (cXn (cQl _ _)) (aJ3 hx)
 have o:H (a.objs.size+1)=none:=I.hok.fresh (cQR _)
 refine bQC I.kIn G.cl S (beq_iff_eq.mp hf) (cQC (F.run _ (cQH qual scope s₀.heap.objs.size f cd::outer) _ _ ⟨[.ref (a.objs.size+1)],[]⟩ [.ref (a.objs.size+1)] [.ref (a.objs.size+1)] (λv O=>v= .non/\∃c,upd H (a.objs.size+1) (jN (a.objs.size+1) C a.objs.size none) c=none/\O=upd (upd (upd H (a.objs.size+1) (jN (a.objs.size+1) C a.objs.size none)) c (.xd [("words",.str t)])) (a.objs.size+1) (jN (a.objs.size+1) C a.objs.size (some c))) E0 (R.make C [] []) (q.env0.make C [] []) (b _ [.ref (a.objs.size+1)] q.kIn rfl) (.cons rfl .nil) ⟨a.objs.size+1,a.objs.size,rfl,yB,λc j=>⟨rfl,c,j,rfl⟩⟩) λr s' i=>?_)
 cases r with
 |error e=>exact cQi i
 |ok fl=>
  cases fl with
  |next=>exact cQi i
  |brk=>exact cQi i
  |cont=>exact cQi i
  |ret u=>
   obtain⟨v,O,J,Q,rfl,c,j,rfl⟩:=q.after i;have l:a.objs.size+1≠c:=yJ yB j;have p:H c=none:=by rw[yI (bYv l)]at j;exact j
   have m:=aJ2 J.hok yB;have M:=J.forget (e:=a.objs.size+1) yB;have Y:(λb=>if b=a.objs.size+1 then none else upd (upd (upd H (a.objs.size+1) (jN (a.objs.size+1) C a.objs.size none)) c (.xd [("words",.str t)])) (a.objs.size+1) (jN (a.objs.size+1) C a.objs.size (some c)) b)=upd H c (.xd [("words",.str t)]):=by
    funext b;by_cases n:b=a.objs.size+1
    ·rw[if_pos n,n,yI l,o]
    ·rw[if_neg n,yI n];by_cases y:b=c
     ·rw[y,yB,yB]
     ·rw[yI y,yI y,yI n]
   rw[Y]at M;refine⟨Q,bKO (cZj (bKS ⟨a.objs.size+1,a.objs.size,some c,C,rfl,J.kIn,G.cl,m,?_⟩))⟩;refine bWG (tb:=none) M ⟨⟨_,_,m,rfl,rfl,rfl,rfl⟩,λT z=>by cases z⟩ (by rw[yI l];exact o) (bYo I.sz (cQR _)) (λT z=>by cases z) (h c p)
end
end L2
namespace L2
open PySem PySem.Spec PyProof.Rows
theorem bJD{X:Cx}{A:bYr}{a:Bool}{pn:List (Nat×Obj)}{xe:bKN->bKQ->Prop}(o:X.Ok)(b:A.frames=X.A.frames)(c:a=true->A.handled=none):Cx.Ok {X with A:=A,calm:=a,pn:=pn,xe:=xe}:=
 ⟨o.mod,o.kind,o.glob,o.blt,o.above,o.inj,o.has,o.cab,c,b.trans o.frames,o.stk,o.exf,o.bs,o.bsz,o.noex,o.exfs,o.funs,o.frf⟩
theorem Inv.mark{X:Cx}{A:bYr}{b:Bool}{pn pins a:List (Nat×Obj)}{xe:bKN->bKQ->Prop}{σ:St}{H:Hp}{s:bKQ}(I:Inv X pins σ H s)(d:A.frames=X.A.frames)(c:b=true->A.handled=none) (e:∀p∈pn++a,p∈X.pn++pins):Inv {X with A:=A,calm:=b,pn:=pn,xe:=xe} a σ H s:=
 ⟨bJD I.ok d c,I.os,I.bare,I.base,I.loc,I.cell,I.free,I.freeC,λp h=>I.pin p (e p h),I.hok,I.len⟩
theorem bJv{X:Cx}{pn:List (Nat×Obj)}{xe:bKN->bKQ->Prop}(o:Cx.Ok {X with A:=X.A,calm:=X.calm,pn:=pn,xe:=xe}):X.Ok:=
 ⟨o.mod,o.kind,o.glob,o.blt,o.above,o.inj,o.has,o.cab,o.hd,o.frames,o.stk,o.exf,o.bs,o.bsz,o.noex,o.exfs,o.funs,o.frf⟩
theorem Inv.names{X:Cx}{pins:List (Nat×Obj)}{σ:St}{H:Hp}{s:bKQ}{h':Heap}{h:Str->Option bKN}{t':Nat}(I:Inv X pins σ H s)(C:h'.Ns X.env.locals h)(d:cQN X.env.locals s.heap h'): Inv X pins (cXj X.N.length none) H {s with heap:=h',toks:=t'}:=by
 have a:∀b o,X.s₀.heap.get? b=some o->b≠X.env.locals:=λb o q=>bYb (bYe (bK1 q) I.ok.above);refine⟨I.ok,I.os,I.bare,⟨λb o q n g e=>(d.2 b (a b o q)).trans (I.base.keep b o q n g e),λb o q n g e=>?_,I.base.free,λb o q e=>?_,I.base.tups,I.base.frzs,I.base.tbls⟩,⟨h,C,λi x v _ f _=>?_⟩,λx c q=>?_,I.free,I.freeC,λp t=>?_,λb u q=>?_,by simp⟩
 ·obtain⟨k,z⟩:=I.base.slot b o q n g e;exact⟨k,(d.2 b (a b o q)).trans z⟩
 ·obtain⟨l,z⟩:=I.base.there b o q e;exact⟨l,(d.2 b (a b o q)).trans z⟩
 ·rw[List.getElem?_replicate]at f;split at f<;> cases f
 ·obtain⟨v,z⟩:=I.cell x c q;exact⟨v,z.sameBut d (I.cne x c q)⟩
 ·obtain⟨A,w,j,y,m⟩:=I.pin p t;exact⟨(d.2 p.1 j).trans A,w,j,y,m⟩
 ·refine(I.hok b u q).stay (λc v B r=>(d.2 c ?_).trans r) (λ_ r=>r) λ_ _ r=>r;rintro rfl;rcases B with z|z
  ·rw[<- z,I.free]at q;cases q
  ·rw[I.free]at z;cases z
def bWR(K:bKP)(Rf:Nat)(Q:VK):XK:=λcls b a=>∃ (C d:Nat)(t:Str),cls= .ref C/\b=some d/\vR K C/\cXY K C (.ref Rf)=some true/\a d=some (.xd [("words",.str t)])/\Q (.str t) a
section
variable {X:Cx}{pins:List (Nat×Obj)}{σ:St}{H:Hp}{s:bKQ}
theorem Inv.recs{h':Heap}{ch:List Nat}(I:Inv X pins σ H s)(h:∀b∈ch,s.heap.objs.size<=b\/(X.s₀.heap.objs.size<=b/\b≠X.env.locals/\(∀x c,X.env.cells.lookup x=some c->c≠b)/\∀p∈X.pn++pins,p.1≠b))(m:∀b∈ch,H b=none) (keep:∀b o,b∉frs X.stack->b∉ch->s.heap.get? b=some o->h'.get? b=some o) (a:∀b o,b∉ch->s.heap.get? b=some o->∃k,h'.get? b=some {o with slots:=k}):Inv X pins σ H {s with heap:=h'}:=by
 have i:HOk X.prog X.w H h':=λb u q=>(I.hok b u q).stay (λc v t r=>by
  have d:H c≠none:=by
   rcases t with z|z
   ·rw[z,q];simp
   ·rw[z];simp
  exact keep c v (λz=>d (I.stkFree c z)) (λz=>d (m c z)) r) (λ_ r=>r) λ_ _ r=>r
 refine I.call (g':=s.gens) (t':=s.toks) (d':=s.drawn) (ch:=ch) ⟨λb o q _ j g=>keep b o j g q,λb o q _ _ g=>a b o g q,λ_ _ _ n _=>n,λb o q g=>?_,λ_ _ q=>q,λ_ _ _ q=>q,λ_ y q=>⟨#[],by rw[q];simp⟩⟩ i I.bare λb j=>?_
 ·obtain⟨k,z⟩:=a b o g q;exact⟨_,z⟩
 ·rcases h b j with z|⟨z1,z2,z3,z4⟩
  ·refine⟨.inr (bYo I.sz z),λe=>?_,λx c q e=>?_,λp l e=>?_⟩
   ·rw[e]at z;exact absurd (bYe I.lt z) (bYW _)
   ·obtain⟨v,o,f,_⟩:=I.cell x c q;rw[e]at f;exact absurd (bYe (bK1 f) z) (bYW _)
   ·have f:=(I.pin p l).1;rw[e]at f;exact absurd (bYe (bK1 f) z) (bYW _)
  ·exact⟨.inr z1,z2,z3,z4⟩
theorem bWh{body:List Stmt}{tb:XK->TS}{S n:Str}{i:Nat}{Rf:Nat}{cp p1 p2 p3 F tp:Pos}(hN:X.N.Nodup)(hi:X.N[i]? =some n)(hl:X.env.scope.names.lookup n=some .local)(hg:Gl X S)(hm:X.mg S=some (.ref Rf))(cr:vR X.K Rf) (a0:X.stack=X.env::X.outer) (a6:X.env.frame=some X.env.locals) (c9:X.calm=true) (a7:(n==("__debug__":Str))=false) (a8:(S==("__debug__":Str))=false) (c8:(n==("__classdict__":Str))=false) (hA:∀e,(X.A.mark (some (.ref e))).frames=X.A.frames) (j:∀ (pn:List (Nat×Obj))(xe:bKN->bKQ->Prop)(E:XK),w8 (CXR X.prog X.w) {X with A:=X.A,calm:=X.calm,pn:=pn,xe:=xe} E->PSs {X with A:=X.A,calm:=X.calm,pn:=pn,xe:=xe} body (tb E)): PS X (.Try body [.ExceptHandler (some (.Name S cp)) (some n) [.Return (some (.Attribute (.Name n p1) "words" p2)) p3] F] [] [] tp) (λD σ H=>tb (bWR X.K Rf D.rt) D σ H):=by
 intro pins s σ H D I h;refine wpAny_Try_except ?_;have m:X.calm=true->X.A.handled=none:=I.ok.hd;have go:∀ (a1:List (Nat×Obj))(l:St)(M:Hp)(Y:bKQ)(g:bKN)(k:bKQ),Inv X pins l M Y->CXR X.prog X.w X.stack M Y (bWR X.K Rf D.rt) g k->
   bKV (bKX X.prog X.w) X.A (cZb g X.env) (λ_ R=>bKV (bKX X.prog X.w) X.A (cXR g none) (λ_ U=>bKV (bKX X.prog X.w) X.A (handleBy g X.env [.ExceptHandler (some (.Name S cp)) (some n) [.Return (some (.Attribute (.Name n p1) "words" p2)) p3] F]) (SP X pins D) X.xe U) X.xe R) X.xe k:=by
  intro _ l M Y g k J1 hx
  obtain⟨e,C',dx,b2,H',rfl,os,bare,un,b0,x,he,ht,a2,a5,hE⟩:=hx
  obtain⟨C,d,t,ec,ed,cC,hs,hd,hq⟩:=hE
  have eC:C'=C:=by cases ec;rfl
  subst eC
  have eD:dx=d:=by cases ed;rfl
  subst eD
  have Z:Inv X pins l H' k:=J1.call' os un b0 bare λb z=>absurd z (by simp)
  have big:∀b,Y.heap.objs.size<=b->X.s₀.heap.objs.size<=b/\b≠X.env.locals/\(∀x c,X.env.cells.lookup x=some c->c≠b)/\∀p∈X.pn++pins,p.1≠b:=λb z=>by
   refine⟨bYo J1.sz z,λe=>?_,λx c q e=>?_,λp F e=>?_⟩
   ·rw[e]at z;exact absurd (bYe J1.lt z) (bYW _)
   ·obtain⟨v,o,O,_⟩:=J1.cell x c q;rw[e]at O;exact absurd (bYe (bK1 O) z) (bYW _)
   ·have O:=(J1.pin p F).1;rw[e]at O;exact absurd (bYe (bK1 O) z) (bYW _)
  refine aVc (base:=X.base) (outer:=X.outer) (L:=X.env.locals) (a0 ▸ Z.ok.frames) (a0 ▸ Z.stack) a6 x λh3 T y nT p=>?_
  have b4:frs X.stack=(X.env::X.outer).filterMap (·.frame):=by rw[a0];rfl
  have J3:Inv X pins l H' {k with heap:=h3}:=Z.recs (ch:= [e,b2]) (λb j=>by
    rcases bKW.mp j with rfl|j
    ·exact .inr (big _ a2)
    ·rw[bK4.mp j];exact .inr (big _ a5)) (λb j=>by
    rcases bKW.mp j with rfl|j
    ·exact he
    ·rw[bK4.mp j];exact ht)
   (λb o j W q=>p.keep b o (λz=>W (by simp[z])) (λz=>W (by cases z;simp)) (b4 ▸ j) q)
   (λb o W q=>p.slot b o (λz=>W (by simp[z])) (λz=>W (by cases z;simp)) q)
  have c7:H' T=none:=Z.hok.fresh nT
  have P:X.s₀.heap.objs.size<=T/\T≠X.env.locals/\(∀x c,X.env.cells.lookup x=some c->c≠T)/\∀p∈X.pn++pins,p.1≠T:=by
   refine⟨bYo Z.sz nT,λe=>?_,λx c q e=>?_,λp F e=>?_⟩
   ·rw[e]at nT;exact absurd (bYe Z.lt nT) (bYW _)
   ·obtain⟨v,o,O,_⟩:=Z.cell x c q;rw[e]at O;exact absurd (bYe (bK1 O) nT) (bYW _)
   ·have O:=(Z.pin p F).1;rw[e]at O;exact absurd (bYe (bK1 O) nT) (bYW _)
  have mk:∀ {σ:St} {H:Hp} {s:bKQ},Inv X pins σ H s->Inv {X with A:=X.A.mark (some (.ref e)),calm:=false,pn:=X.pn,xe:=λ_ _=>True} pins σ H s:=λJ=>J.mark (hA e) (λz=>by cases z) λp F=>F
  have un:∀ {σ:St} {H:Hp} {s:bKQ},Inv {X with A:=X.A.mark (some (.ref e)),calm:=false,pn:=X.pn,xe:=λ_ _=>True} pins σ H s->Inv X pins σ H s:=λ{σ H s} J=>Inv.mark (X:={X with A:=X.A.mark (some (.ref e)),calm:=false,pn:=X.pn,xe:=λ_ _=>True}) J (hA e).symm m λp F=>F
  refine wpAny_handleBy_cons (codeAny_handlers_test ?_) (by intro q;cases q)
  refine uL (X:={X with A:=X.A.mark (some (.ref e)),calm:=false,pn:=X.pn,xe:=λ_ _=>True}) (mk J3) hg hm ?_ a8
  obtain⟨oe,vs,g1,g2,g3,g4,g5⟩:=y.obj
  refine aKo J3.kIn cC cr hs g1 g2 ?_
  refine codeAny_handlers_suite_as ?_
  refine bQN (s:={k with heap:=h3}) y λh4 y4 k4 t4=>?_
  have J4:Inv X pins l H' {k with heap:=h4}:=Inv.recs (s:={k with heap:=h3}) (h':=h4) (ch:= [T]) J3 (λb j=>by rw[bK4.mp j];exact .inr P) (λb j=>by rw[bK4.mp j];exact c7)
   (λb o _ W q=>k4 b o (λz=>W (by simp[z])) q) (λb o W q=>⟨o.slots,k4 b o (λz=>W (by simp[z])) q⟩)
  refine aQH (X:={X with A:=X.A.mark (some (.ref e)),calm:=false,pn:=X.pn,xe:=λ_ _=>True}) (v:= .ref e) (u:= .ref e) (mk J4) hN hi (.inl hl) rfl (λs5 J5 ⟨a,sb,ha⟩=>?_) (.inr hl)
  have a4:e≠a/\T≠a:=by
   rcases ha with z|z
   ·rw[z];exact⟨(big _ a2).2.1,P.2.1⟩
   ·exact⟨λq=>(big _ a2).2.2.1 n a z q.symm,λq=>P.2.2.1 n a z q.symm⟩
  have y5:qQ s5.heap e (.ref C') (some dx) (some T):=y4.keeps λb o j q=>(sb.2 b (by
   rcases j with rfl|j
   ·exact a4.1
   ·cases j;exact a4.2)).trans q
  obtain⟨b1,d0,f1,f2,f3,f4,f5⟩:=y5.obj
  obtain⟨mA,a9,a3⟩:=J5.hok dx _ hd
  obtain⟨od,b5,b6⟩:=aZn a9
  obtain⟨u,hu,ru⟩:=aXS.some_of (v:=V.str t) (o:=mA "words") (a3 "words")
  obtain⟨m5,c0,b3⟩:=J5.loc
  obtain⟨u5,r5,l5⟩:=b3 i n (.ref e) hi (cXE (by rw[J4.len];exact(bKZ.mp hi).1)) (.inl hl)
  obtain rfl:u5=Value.ref e:=r5
  have b7:m5 n=some (.ref e):=by
   rcases l5 with⟨_,z⟩|⟨z,_⟩
   ·exact z
   ·rw[show X.env.kindOf n=some .local from hl]at z;rcases z with z|z<;> cases z
  refine wpAny_execs_cons (wpAny_Return_some (aW7 rfl ?_))
  refine wpAny_Name (wpAny_loadName_local J5.ok.kind hl c0 b7 ?_) a7
  refine bZ9 J5.kIn cC f1 f2 f3 (by obtain⟨c1,c2,c3,c4⟩:=b1;cases f4;rfl) b5 (by rw[b6,hu]) (aX9 ru) ?_
  have J6:=(un J5).tok (s5.toks+1)
  obtain⟨m6,b8,_⟩:=J6.loc
  refine wpAny_nameGoes hl b8 (by rw[J6.ok.kind];rfl) λh7 m7 c6 c5=>?_
  exact⟨.str t,_,H',J6.names (t':=s5.toks+1+1) c6 c5,ru,hq⟩
 have b9:w8 (CXR X.prog X.w) {X with A:=X.A,calm:=X.calm,pn:=X.pn++pins,xe:=λg k=>bKV (bKX X.prog X.w) X.A (cZb g X.env) (λ_ R=>bKV (bKX X.prog X.w) X.A (cXR g none) (λ_ U=>bKV (bKX X.prog X.w) X.A (handleBy g X.env [.ExceptHandler (some (.Name S cp)) (some n) [.Return (some (.Attribute (.Name n p1) "words" p2)) p3] F]) (SP X pins D) X.xe U) X.xe R) X.xe k} (bWR X.K Rf D.rt):=
  λa1 l M Y g k J hx=>go [] l M Y g k (Inv.mark (X:={X with A:=X.A,calm:=X.calm,pn:=X.pn++pins,xe:=λg k=>bKV (bKX X.prog X.w) X.A (cZb g X.env) (λ_ R=>bKV (bKX X.prog X.w) X.A (cXR g none) (λ_ U=>bKV (bKX X.prog X.w) X.A (handleBy g X.env [.ExceptHandler (some (.Name S cp)) (some n) [.Return (some (.Attribute (.Name n p1) "words" p2)) p3] F]) (SP X pins D) X.xe U) X.xe R) X.xe k}) J rfl m λp Q=>cQG _ Q) hx
 have I':Inv {X with A:=X.A,calm:=X.calm,pn:=X.pn++pins,xe:=λg k=>bKV (bKX X.prog X.w) X.A (cZb g X.env) (λ_ R=>bKV (bKX X.prog X.w) X.A (cXR g none) (λ_ U=>bKV (bKX X.prog X.w) X.A (handleBy g X.env [.ExceptHandler (some (.Name S cp)) (some n) [.Return (some (.Attribute (.Name n p1) "words" p2)) p3] F]) (SP X pins D) X.xe U) X.xe R) X.xe k} [] σ H s:=
  I.mark rfl m λp Q=>by simpa using Q
 have G:∀ {σ:St} {H:Hp} {s:bKQ},Inv {X with A:=X.A,calm:=X.calm,pn:=X.pn++pins,xe:=λg k=>bKV (bKX X.prog X.w) X.A (cZb g X.env) (λ_ R=>bKV (bKX X.prog X.w) X.A (cXR g none) (λ_ U=>bKV (bKX X.prog X.w) X.A (handleBy g X.env [.ExceptHandler (some (.Name S cp)) (some n) [.Return (some (.Attribute (.Name n p1) "words" p2)) p3] F]) (SP X pins D) X.xe U) X.xe R) X.xe k} [] σ H s->Inv X pins σ H s:=
  λ{σ H s} J=>⟨bJv J.ok,J.os,J.bare,J.base,J.loc,J.cell,J.free,J.freeC,λp Q=>J.pin p (by simpa using Q),J.hok,J.len⟩
 refine bYN (j _ _ _ b9 [] s σ H D I' h) (λf Y q=>?_) λ_ _ q=>q;cases f with
 |next=>obtain⟨B,M,J,q⟩:=q;exact yR pins Y B M D (G J) q
 |ret v=>obtain⟨u,B,M,J,r,q⟩:=q;exact⟨u,B,M,G J,r,q⟩
 |brk=>obtain⟨B,M,J,q⟩:=q;exact⟨B,M,G J,q⟩
 |cont=>obtain⟨B,M,J,q⟩:=q;exact⟨B,M,G J,q⟩
end
end L2
namespace L2
open PySem PySem.Spec PyProof.Rows
theorem aKC{P:bK9}{w:bYf}{K:bKP}{mg mb:Str->Option bKN}{CX:CXT}{k:Nat}{fa a c T:Nat}{fd:cQI}{x:Str}{sp:Sp}{f:bKQ}{vs:List bKN}{Q:List Int} (KX:K.In f.heap) (E:f.heap.Ns bYi mg) (p:f.heap.Ns builtinsNs mb) (a6:∀x:Str,x≠"__name__"->mb x=bYy x) (N:f.heap.NoLimit) (hg:f.gens= #[]) (M:f.heap.get? a=some {cls:= .type "list",data:= .seq vs.toArray}) (hi:cXi vs Q) (hl:Q.length<=bYd) (hr:vJ k callerA) (hC:cQP f.heap c T) (J:f.heap.get? T=some (cXk #[])) (a7:K.lookup T=none) (a8:∃U B,mg "__builtins__"=some (.ref U)/\U≠builtinsNs/\f.heap.get? U=some B/\B.cls= .type "module"/\B.dict=some builtinsNs/\B.data= .plain) (F:∀base:Heap,K.In base->base.Ns bYi mg->cQP base c T->base.BuiltinsAt mg T->y8 P w K mg base CX k fa fd [x] sp) (I:∀ (s:bKQ)(u:bKN),BindsTo s fd ⟨[u],[]⟩ [(x,u)]) (a1:∀H:Hp,H T=some (.tbl #[])->SqL K H a (Q.map V.int)->sp [.ref a] H (λv _=>v= .bl true) λ_ _ _=>False) (a4:∀H e j,CX [] H f (λ_ _ _=>False) e j->False): cQ1 (bKX P w) callerA (.call (.ref fa) ⟨[.ref a],[]⟩) (λr j=>r= .ok (.ret (.bool true))/\OldK f.heap j.heap/\j.os=f.os/\AllBare j.gens) f:=by
 have rv:=uS hi;have R:=hi.length;have S:a≠T:=λz=>by rw[z,J]at M;cases M
 have C:∀H:Hp,H T=some (.tbl #[])->SqL K H a (Q.map V.int)->HOk P w H f.heap->(∀b,H b≠none->b=T\/(b=a/\∃o xs,H b=some (.frz o (.lst xs))))->(H a≠none->K.lookup a=none)->
   cQ1 (bKX P w) callerA (.call (.ref fa) ⟨[.ref a],[]⟩) (λr j=>r= .ok (.ret (.bool true))/\OldK f.heap j.heap/\j.os=f.os/\AllBare j.gens) f:=by
  intro H hH hS O hA hK
  have i:∀ {b:Nat} {o:Obj},f.heap.get? b=some o->H b=none->(aKs f.heap H).get? b=some o:=λe n=>bQG e n
  have l:∀ {b:Nat} {o:Obj},f.heap.get? b=some o->(∀ps,o≠cXk ps)->(∀t,o≠ {cls:= .type "list",data:= .seq t})->H b=none:=λ{b o} e n1 n2=>by
   cases q:H b with
   |none=>rfl
   |some u=>
    rcases hA b (by rw[q];simp)with z|⟨z,_⟩
    ·rw[z,J]at e;cases e;exact absurd rfl (n1 _)
    ·rw[z,M]at e;cases e;exact absurd rfl (n2 _)
  have y:∀ {b:Nat} {m:Str->Option bKN},f.heap.Ns b m->(aKs f.heap H).Ns b m:=λ{b m} ⟨o,es,ep,e,d,r⟩=>⟨o,es,ep,i e (l e (λps z=>by rw[z]at d;cases d) (λt z=>by rw[z]at d;cases d)),d,r⟩
  have Y:K.In (aKs f.heap H):=λb o e=>i (KX b o e) (by
   cases q:H b with
   |none=>rfl
   |some u=>
    rcases hA b (by rw[q];simp)with z|⟨z,_⟩
    ·rw[z,a7]at e;cases e
    ·subst z;rw[hK (by rw[q];simp)]at e;cases e)
  have hM:Mod K mg (aKs f.heap H):=⟨Y,y E,⟨mb,y p,a6⟩,let ⟨mc,h1,h2⟩:=N;⟨mc,y h1,h2⟩⟩
  have e0:bZW P w K mg (aKs f.heap H) callerA [] f H:=⟨rfl,hM,λb o e=>bJu e,cXn (aKt _ _),trivial,λb p=>absurd (show b∈([]:List Nat)from p) (by simp),O,.of_eq hg⟩
  have a5:cQP (aKs f.heap H) c T:=by
   obtain⟨o,vs,file,tf,G,tg,a3,text,tt,e,Z,r⟩:=hC;exact⟨o,vs,file,tf,G,tg,a3,text,tt,i e (l e (λps z=>by rw[z]at Z;cases Z) (λt z=>by
    rw[z]at Z;have c':Value.type "list"=Value.type "code":=Z;injection c' with c''
    exact absurd c'' (by decide))),Z,r⟩
  have a2:(aKs f.heap H).BuiltinsAt mg T:=by
   obtain⟨U,B,b1,b2,L,b4,b5,b6⟩:=a8;refine⟨U,B,b1,b2,λz=>?_,λz=>?_,i L (l L (λps z=>by rw[z]at b4;cases b4) (λt z=>by rw[z]at b6;cases b6)),b4,b5,b6⟩
   ·obtain⟨o,es,ep,e,d,_⟩:=E;rw[z,e]at L;cases L;rw[d]at b6;cases b6
   ·rw[z,J]at L;cases L;cases b4
  refine cQC ((F _ Y (y E) a5 a2).run callerA [] f H ⟨[.ref a],[]⟩ [.ref a] [.ref a] _ _ hr e0 (I f (.ref a)) (.cons rfl .nil) (a1 H hH hS)) λr j h=>?_
  cases r with
  |error e=>exact(a4 H e j h).elim
  |ok fl=>
   cases fl with
   |next=>exact cQi h
   |brk=>exact cQi h
   |cont=>exact cQi h
   |ret u=>
    obtain⟨v,H',os,bare,un,D,r',q⟩:=h;have q':v= .bl true:=q;subst q';obtain rfl:u=Value.bool true:=r';obtain⟨more,hm⟩:=un.tbls T _ hH;have a0:j.heap.get? T=some (cXk (#[]++more)):=D T _ hm;have get:∀b o,b≠T->f.heap.get? b=some o->j.heap.get? b=some o:=λb o g e=>by
     cases q:H b with
     |none=>exact un.keep b o e q (by intro z;exact absurd (show b∈([]:List Nat)from z) (by simp)) (by simp)
     |some u=>
      rcases hA b (by rw[q];simp)with z|⟨_,B,xs,z⟩
      ·exact absurd z g
      ·have z2:=un.frzs b B _ z;obtain⟨e1,_⟩:=O b _ z;obtain⟨e2,_⟩:=D b _ z2;rw[e]at e1;cases e1;exact e2
    refine⟨rfl,⟨λb o e=>?_,λb o e=>?_⟩,os,bare⟩
    ·by_cases g:b=T
     ·subst g;rw[J]at e;cases e;exact .inr (.inl ⟨(hC.tab J).isCodeTable,rfl, #[],more,rfl,a0⟩)
     ·exact .inl (get b o g e)
    ·by_cases g:b=T
     ·exact⟨_,by rw[g];exact a0⟩
     ·exact⟨o,get b o g e⟩
 have X:∀H:Hp,x0 P w H f.heap T (.tbl #[]):=λH=>J;cases hk:K.lookup a with
 |some o=>
  have e:=KX a o hk;rw[M]at e;cases e;refine C (λb=>if b=T then some (.tbl #[])else none) (if_pos rfl) (.inr ⟨_,vs.toArray,_,hk,rfl,rfl,rfl,by rw[bK6,R];exact hl,by simpa using rv⟩) (λb u z=>?_) (λb z=>?_) λz=>absurd (if_neg S) z
  ·by_cases g:b=T
   ·have A:=(if_pos g).symm.trans z;cases A;subst g;exact X _
   ·have A:=(if_neg g).symm.trans z;cases A
  ·by_cases g:b=T
   ·exact .inl g
   ·exact absurd (if_neg g) z
 |none=>
  refine C (λb=>if b=T then some (.tbl #[])else if b=a then some (.frz {cls:= .type "list",data:= .seq vs.toArray} (.lst (Q.map V.int)))else none) (if_pos rfl)
   (.inl (.inr ⟨{cls:= .type "list",data:= .seq vs.toArray},by show(if a=T then _ else _)=_;rw[if_neg S,if_pos rfl]⟩)) (λb u z=>?_) (λb z=>?_) λ_=>hk
  ·by_cases g:b=T
   ·have A:=(if_pos g).symm.trans z;cases A;subst g;exact X _
   ·have z1:=(if_neg g).symm.trans z;by_cases p:b=a
    ·have A:=(if_pos p).symm.trans z1;cases A;subst p;exact⟨M,by rw[bKT];exact hl,vs,_,rv,M⟩
    ·have A:=(if_neg p).symm.trans z1;cases A
  ·by_cases g:b=T
   ·exact .inl g
   ·by_cases p:b=a
    ·exact .inr ⟨p,_,_,by show(if b=T then _ else _)=_;rw[if_neg g,if_pos p]⟩
    ·exact absurd (by show(if b=T then _ else _)=_;rw[if_neg g,if_neg p]) z
theorem bZi{l:PySem.W.OpenLaw}{n k:Nat}{q:bK9}{loose:List Str}{S:(Str->Option bKN)->Heap->Prop}{I:bYf->Heap->Prop}{d:DefRec}{K:Params->bKP}{CX:CXT}{sp:Nat->bKP->Sp}{x:Str}{T:Nat} (hn:l.most=some n) (z:n<=bYd) (L:d.params.defaults= []) (O:vJ k callerA) (hY:∀ (w:bYf)(h:Heap),I w h->(K w.params).In h) (B:∀ (w:bYf)(h:Heap),I w h->h.get? T=some (cXk #[])) (F:∀ (w:bYf)(mg:Str->Option bKN)(t:Nat)(h:Heap),(K w.params).In h->h.Ns bYi mg->mg d.name=some (.ref t)-> ∃ (M:cQI)(c:Nat),cZn (K w.params) c T=true/\(K w.params).lookup T=none/\(∀ (s:bKQ)(u:bKN),BindsTo s M ⟨[u],[]⟩ [(x,u)])/\ ∀base:Heap,(K w.params).In base->base.Ns bYi mg->cQP base c T->base.BuiltinsAt mg T->y8 l.prog w (K w.params) mg base CX k t M [x] (sp T (K w.params))) (A:∀ (K:bKP)(H:Hp)(a:Nat)(r:List Int),r.length<=n->H T=some (.tbl #[])->SqL K H a (r.map V.int)->sp T K [.ref a] H (λv _=>v= .bl true) λ_ _ _=>False) (J:∀ (H:Hp)(s:bKQ)(e:bKN)(C:bKQ),CX [] H s (λ_ _ _=>False) e C->False): PySem.W.WalkO q loose S I l.row.toRowW d [] (λf N=>PySem.call f N):=by
 refine Att.aZY hn L λw s₀ m mg mb t o pm cd Z a N r G Y ho hd Q D p j i hg=>?_;have y:=hY w _ Y;obtain⟨M,c,R,E,hb,X⟩:=F w mg t _ y G.T.g D;exact aKC y G.T.g G.T.b G.T.builtins G.T.nolimit hg p j (bYo i z) O (PySem.W.codeHd_of_K y R) (B w _ Y) E G.T.bmain X hb (λH U P=>A _ H a r i U P) λH e C=>J H m e C
end L2
namespace Thr
open PySem L2 PyProof.Rows
open Stree (qC uX zV)
def aZa(x:Str):Stmt->Bool
 |.FunctionDef n _ _ _ _ _ _ _ _ _=>n==x
 |_=>false
def xF(x:Str):Stmt:=(PySem.Challenge.pw_letterdesk_k04_answers.main.body.find? (aZa x)).getD (.Pass ⟨0,0,0,0⟩)
abbrev aJG:Stmt:=xF "thread"
abbrev aYD:Stmt:=xF "top_of"
abbrev aJz:Stmt:=xF "answers_to_each"
theorem xD:bYy "len"=some (.builtin "len"):=dk
theorem wP:bYy "sorted"=some (.builtin "sorted"):=dk
theorem jH:bYy "int"=some (.type "int"):=dk
theorem vC:bYy "list"=some (.type "list"):=dk
theorem vT:bYy "tuple"=some (.type "tuple"):=dk
structure vH(mg:Str->Option bKN):Prop where
 b_len:mg "len"=none
 b_sorted:mg "sorted"=none
 b_isinstance:mg "isinstance"=none
 b_int:mg "int"=none
 b_str:mg "str"=none
 b_bool:mg "bool"=none
 b_list:mg "list"=none
 b_tuple:mg "tuple"=none
 b_range:mg "range"=none
theorem wV{a H:Hp}{c:Nat}{o:HO}(k:xA a H)(h:a c=none):xA a (upd H c o):=λb u q=>by rw[yI (yJ q h)];exact k b u q
theorem aV8{K:bKP}{a:Nat}{xs:List V}{A:List Nat}{σ:L2.St}{D:Nat}{Q:VK}{H:Hp}(hl:SqL K H a xs)(w:H D=none)(hz:xs.length<=1000) (B:∀ (d:Hp)(c:List Nat),xA H d->d D=some (.lst (c.map V.ref))->c.length=xs.length->c.Nodup->(∀b∈c,d b=some (.lst [])/\H b=none/\b≠D)->Q (.ref D) d):bVA (Itl K a) A bKt (bKq bX5) σ D Q (upd H D (.lst [])):=by
 refine⟨λi m n d=>m=xs.length - i/\i<=xs.length/\∃c:List Nat,n=c.map V.ref/\c.length=i/\c.Nodup/\xA H d/\d D=some (.lst n)/\∀b∈c,d b=some (.lst [])/\H b=none/\b≠D,
  ⟨xs.length,by simp,bYJ _,[],rfl,rfl,.nil,yG w _,yB,λb g=>nomatch g⟩,?_⟩
 rintro i m n d ⟨rfl,I,c,rfl,q,t,j,k,f⟩;refine⟨k,?_⟩;have s:=xA.seq j hl;by_cases l:i<xs.length
 ·refine .inr ⟨⟨xs,xs[i],s,bKM l⟩,λv J E=>?_⟩;obtain⟨rfl,y⟩:=E;refine⟨z0,λp h=>?_⟩;have e:p≠D:=bYv (yJ k h);have o:p∉c:=λz=>by rw[(f p z).1]at h;cases h
  refine⟨zlt (by rw[bKT];omega),by rw[yI (bYv e)];exact k,xs.length - (i+1),by omega,rfl,by omega,c++ [p],by simp,by simp[q],?_,?_,yB,λb g=>?_⟩
  ·rw[cXd];exact⟨t,by simp,λx G y C z=>by rw[bK4.mp C]at z;exact o (z ▸ G)⟩
  ·exact wV (j.trans (yG h _)) w
  ·rcases bYs.mp g with g|g
   ·obtain⟨r,F,u⟩:=f b g;exact⟨by rw[yI u,yI (yJ r h)];exact r,F,u⟩
   ·rw[bK4.mp g];exact⟨by rw[yI e];exact yB,j.fresh h,e⟩
 ·refine .inl ⟨⟨xs,s,by omega⟩,B d c j k (by omega) t f⟩
def wL:Option Nat->V
 |none=> .non
 |some j=> .int (j:Nat)
def vL(n:Nat)(L:Nat->Option Nat):List V:=(bK0 n).map λi=>wL (L i)
def qG(n:Nat)(D:Nat->Int):List V:=(bK0 n).map λi=> .int (D i)
theorem uY{n i:Nat}{L:Nat->Option Nat}(h:i<n):(vL n L)[i]? =some (wL (L i)):=by unfold vL;rw[bK7,cQM h];rfl
theorem aVV{n i:Nat}{D:Nat->Int}(h:i<n):(qG n D)[i]? =some (.int (D i)):=by unfold qG;rw[bK7,cQM h];rfl
def bWy(K:bKP):Sp:=λc H Q _=>∃ (a:Nat)(n:Nat)(L:Nat->Option Nat)(b:Nat->Nat)(i:Nat),c= [.ref a,.int (i:Nat)]/\SqL K H a (vL n L)/\Fm.Ok n L b/\i<n/\Q (.int (Fm.tp L b i:Nat)) H
def z9(T:Nat):Hp->Prop:=qU ⟨116,48,116,71⟩ "answers_to_each.<locals>.<lambda>" T
structure bKj(n:Nat)(L:Nat->Option Nat)(D:Nat->Int)(kd:Nat->List Nat):Prop where
 mem:∀j i,i∈kd j↔i<n/\L i=some j
 ord:∀j,(kd j).Pairwise λx y=>zV (D y,(y:Int)) (D x,(x:Int))=true
def bVp(T:Nat):Sp:=λh H Q _=>∃ (g e:Nat)(n:Nat)(L:Nat->Option Nat)(k:Nat->Nat)(D:Nat->Int),h= [.ref g,.ref e]/\H g=some (.lst (vL n L))/\H e=some (.lst (qG n D))/\Fm.Ok n L k/\n<=63/\z9 T H/\
 ∀ (c:Hp)(a:Nat)(d:List Nat)(f:Nat->List Nat),x2 H c->z9 T c->c a=some (.lst (d.map V.ref))->d.length=n->(∀j b,d[j]? =some b->c b=some (.lst ((f j).map λi=>V.int (i:Nat))))->bKj n L D f->Q (.ref a) c
def aVG(T:Nat):Sp:=λh H Q _=>∃ (f e:Nat)(n:Nat)(L:Nat->Option Nat)(c:Nat->Nat)(D:Nat->Int)(i:Nat),h= [.ref f,.ref e,.int (i:Nat)]/\H f=some (.lst (vL n L))/\H e=some (.lst (qG n D))/\Fm.Ok n L c/\n<=63/\i<n/\z9 T H/\
 ∀ (d:Hp)(r:Nat)(a:List Nat),(∀b u,(∀g,u≠HO.tbl g)->H b=some u->b≠r)->x2 H d->z9 T d->d r=some (.lst (a.map λi=>V.int (i:Nat)))->(a.Pairwise λx y=>uX (Fm.rd L D c x) (Fm.rd L D c y)=true)->(∀k,k∈a↔k<n/\Fm.tp L c k=Fm.tp L c i)->Q (.ref r) d
section
variable {K:bKP}
theorem bXV:yM ["links","number","top"] ["links","number"] (yH aYD):=scM
theorem bXm(T:vH mg)(F:Fun K "top_of" "top_of" aYD f fd):y8 P w K mg base CX0 1 f fd ["links","number"] (bWy K):=by
 have y:=bXV;refine F.ok (k:=0) y (λB A outer s x D Q E C h=>?_);obtain⟨a,n,L,b,i,rfl,o,p,u,q⟩:=h;refine⟨_,(yC (yT (i:=2) (pv 1)) (yC (u9 bYI (yN wG (yL yK (pv 0) (pv 2)) x9) (yF (yT (i:=2) (yL yK (pv 0) (pv 2))))) (yF (yP (pv 2))))),?_⟩;refine⟨_,rfl,?_⟩;refine⟨λm σ H=>∃t:Nat,σ= [some (.ref a),some (.int (i:Nat)),some (.int (t:Nat))]/\H=x/\t<n/\Fm.tp L b t=Fm.tp L b i/\m=b t,⟨b i,i,rfl,rfl,u,rfl,rfl⟩,?_⟩;rintro m σ H ⟨t,rfl,rfl,e,c,rfl⟩;refine⟨_,rfl,_,rfl,a,_,_,_,rfl,rfl,o,yS (uY e),rfl,_,rfl,?_⟩;cases hl:L t with
 |none=>refine onF rfl ⟨_,rfl,?_⟩;rw[Fm.zR hl]at c;rw[c];exact q
 |some j=>obtain⟨v,g⟩:=p.lt t j e hl;refine onT rfl ⟨λd r=>∃l,l<b t/\∃t:Nat,d= [some (.ref a),some (.int (i:Nat)),some (.int (t:Nat))]/\r=H/\t<n/\Fm.tp L b t=Fm.tp L b i/\l=b t,λd r z=>z,?_⟩;refine⟨_,rfl,_,rfl,a,_,_,_,rfl,rfl,o,yS (uY e),?_⟩;rw[hl];exact⟨b j,g,j,rfl,rfl,v,by rw[<- c,Fm.v9 p e hl],rfl⟩
theorem bWo:yM ["links","dates","answers","letter"] ["links","dates"] (yH aJz):=scM
theorem bV2:xH ["links","dates","answers","letter"] (yH aJz) "link" [] [] {kind:= .function,names:= [(".0",.local),("link",.local)],isGenerator:=false,isCoroutine:=false,more:= [] }:=
 lcM
theorem bJm:xH ["links","dates","answers","letter"] (yH aJz) "n" ["dates"] [1] {kind:= .function,names:= [("n",.local),("dates",.free)],isGenerator:=false,isCoroutine:=false,more:= [] }:=
 lcM
theorem bV8{oc:bKN}{od an:Option Nat}{b1:Array (Option bKN)}{kV Z pm ct:bKN}(T:vH mg)(C:cQP base c Tb)(hB:base.BuiltinsAt mg Tb) (lk:K.lookup f=some ⟨oc,od,.func (bY7 "answers_to_each" "answers_to_each" (zM aJz) (x6 aJz) (yH aJz) .none kV Z pm an (.ref c) ct),b1⟩) (a8:cQt K (.ref c) "answers_to_each"=true): y8 P w K mg base CX0 2 f (bY7 "answers_to_each" "answers_to_each" (zM aJz) (x6 aJz) (yH aJz) .none kV Z pm an (.ref c) ct) ["links","dates"] (bVp Tb):=by
 have sc:=bWo;refine bJd (k:=1) lk a8 sc (λvs H Q E h=>by obtain⟨M,da,n,L,rk,D,rfl,_⟩:=h;rfl) λA outer s H0 vs Q E hr h=>?_;suffices U:∃t,PSs (aXf CX0 P w K mg base ["links","dates","answers","letter"] "answers_to_each" (yH aJz) f (.ref c) A outer s H0 E).nox (x6 aJz) t/\t {nx:=λ_ H'=>Q .non H',rt:=Q} (start ["links","dates","answers","letter"] vs) H0 by obtain⟨t,m,y⟩:=U;exact⟨t,m.nox,y⟩
 obtain⟨M,da,n,L,rk,D,rfl,u,b2,ho,hn,hT,q⟩:=h;refine⟨_,(yC (aZx (i:=2) bV2 rfl sc.nd rfl rfl (xI (pv 0)) (λ_ _ _ _ _=>z7) (λ_ _ _ _ _=>(y3 yD))) (yC (wE bYI rfl (xI (aWy (qual:="answers_to_each.<locals>.<lambda>") rfl T.b_sorted rfl T.b_range (yU yQ rfl T.b_len xD (yA (pv 0) yD)) bJm rfl rfl rfl C hB hr rfl rfl (λ_ _ _ _ _=>rfl) (λ_ _ _ _ _ _ _=>xL (yA (yL (show IxR _ (aXO K)from yK) (pv 1) (pv 0)) (yA (pv 0) yD))))) (y9 (i:=3)) (yF (y6 (yN wG (yL yK (pv 0) (pv 3)) x9) (yF (yY (uF bYn bYt bYu xG (yL yK (pv 2) (yL yK (pv 0) (pv 3))) (yA (pv 3) yD)))) yR))) (yF (yP (pv 2))))),?_⟩;have G:(vL n L).length=n:=by simp[vL]
 refine⟨_,rfl,M,rfl,⟨_,SqL.of u⟩,λa ha=>aV8 (SqL.of u) ha (by omega) λH1 g X hD a7 nd B=>?_⟩;rw[G]at a7;dsimp only[yX];have a5:=X _ _ u;have a6:=X _ _ b2;have b0:z9 Tb H1:=by
  rcases hT with t|⟨c',t1,t2⟩
  ·exact .inl (X _ _ t)
  ·exact .inr ⟨c',X _ _ t1,X _ _ t2⟩
 refine⟨_,rfl,M,_,rfl,.inl (SqL.of a5),?_⟩;rw[G];refine⟨n,rfl,by omega,b0,λi=>(D i,(i:Int)),λi j _ _ z=>?_,λi H3 O k3 t3 R hR=>?_,λH5 l d k5 t5 nl J b4 h5=>⟨l,rfl,⟨_,SqL.of h5⟩,?_⟩⟩
 ·have:=congrArg Prod.snd z;simp only at this;omega
 ·refine⟨_,rfl,_,rfl,da,_,_,_,rfl,rfl,SqL.of (k3.lst a6),yS (aVV O),_,rfl,z2,λp hp=>hR p _ (yG hp _).t ?_ yB⟩;rcases t3 with t|⟨_,t,_⟩
  ·rw[yI (yJ t hp)]
  ·rw[yI (yJ t hp)]
 ·have hm:∀i∈d,i<n:=λi O=>bYj.mp (J.mem_iff.mp O);have kk:x2 H0 H5:=X.t.trans k5;have nr:∀b o,H0 b=some o->b∉g:=λb o e z=>by rw[(B b z).2.1]at e;cases e
  have r5:∀b∈g,H5 b=some (.lst []):=λb v=>k5.lst (B b v).1;have nT:Tb∉g:=λz=>by
   have e:=r5 _ z;rcases t5 with t|⟨_,t,_⟩
   ·rw[t]at e;cases e
   ·rw[t]at e;cases e
  have b5:l∉g:=λz=>by rw[(B l z).1]at nl;cases nl
  have a4:a∉g:=λz=>(B a z).2.2 rfl;have a3:H5 a=some (.lst (g.map V.ref)):=k5.lst hD;refine zI (xs:=d.map λi=>V.int (i:Nat)) (λt σ H=>∃lt,σ= [some (.ref M),some (.ref da),some (.ref a),lt]/\(∀b o,H5 b=some o->b∉g->H b=some o)/\
   ∀j b,g[j]? =some b->H b=some (.lst (((d.take t).filter λi=>decide (L i=some j)).map λi=>V.int (i:Nat)))) ?_ ?_ ?_ ?_
  ·exact⟨none,rfl,λb o e _=>e,λj b v=>r5 b (bK5 v)⟩
  ·rintro t σ H ht ⟨lt,rfl,m,y⟩;exact SqL.of (m _ _ h5 b5)
  ·rintro t x σ H U ⟨lt,rfl,m,y⟩;rw[bK7]at U;cases he:d[t]? with
   |none=>rw[he]at U;cases U
   |some i=>
    rw[he]at U;cases U;have O:=hm i (bK5 he);have a1:d.take (t+1)=d.take t++ [i]:=by rw[bY0,he];rfl
    have I:H M=some (.lst (vL n L)):=m _ _ (kk.lst u) (nr _ _ u);have a9:H a=some (.lst (g.map V.ref)):=m _ _ a3 a4;dsimp only[yX];refine⟨_,rfl,_,rfl,M,_,_,_,rfl,rfl,SqL.of I,yS (uY O),rfl,_,rfl,?_⟩;cases hl:L i with
    |none=>
     refine onF rfl ⟨_,rfl,m,λj b v=>?_⟩;rw[y j b v,a1,bYV];have: [i].filter (λi=>decide (L i=some j))= []:=by simp[hl]
     rw[this,bYY]
    |some j=>
     obtain⟨hj,_⟩:=ho.lt i j O hl;have S:j<g.length:=by omega
     have v:=bKM S;have a0:=y j _ v;refine onT rfl ?_;refine⟨_,rfl,_,rfl,_,rfl,M,_,_,_,rfl,rfl,SqL.of I,yS (uY O),?_⟩;rw[hl];refine⟨a,_,_,.ref g[j],rfl,rfl,SqL.of a9,yS (by rw[bK7,v];rfl),.inl ⟨rfl,_,SqL.of a0⟩,_,rfl,g[j],_,_,rfl,rfl,a0,zlt ?_,_,rfl,λb o e a2=>?_,λY b r=>?_⟩
     ·rw[bKT];have:=bYK (λi=>decide (L i=some j)) (d.take t);have h3:=List.length_take_le t d;have h4:d.length=n:=by rw[J.length_eq,bYD]
      have h5:(d.take t).length<=d.length:=by rw[bY4];omega
      omega
     ·rw[yI (λz=>a2 (by rw[z];exact cQO S))];exact m b o e a2
     ·rw[a1,bYV];by_cases N:Y=j
      ·subst N;rw[v]at r;cases r;rw[yB];have: [i].filter (λi=>decide (L i=some Y))= [i]:=by simp[hl]
       rw[this,cQT];rfl
      ·have b3:b≠g[j]:=λz=>by
        have h6:Y<g.length:=(bKZ.mp r).1;have h7:g[Y]=b:=(bKZ.mp r).2;exact N ((cQy (h₀:=h6) (h₁:=S) nd).mp (h7.trans z))
       rw[yI b3,y Y b r];have: [i].filter (λi=>decide (L i=some Y))= []:=by simp[hl,bYv N]
       rw[this,bYY]
  ·rintro σ H ⟨lt,rfl,m,y⟩;rw[bKT,bYR]at y;refine⟨_,rfl,q H a g (λj=>d.filter λi=>decide (L i=some j)) (λb o nt e=>m b o (kk b o nt e) (nr b o e)) ?_ (m _ _ a3 a4) a7 y ⟨λj i=>?_,λj=>?_⟩⟩
   ·rcases t5 with t|⟨c',t1,t2⟩
    ·exact .inl (m _ _ t nT)
    ·exact .inr ⟨c',m _ _ t1 nT,m _ _ t2 λz=>by rw[r5 _ z]at t2;cases t2⟩
   ·rw[bYP,J.mem_iff,bYj,decide_eq_true_eq]
   ·exact(b4.imp λh=>by simpa using h).sublist cQL
end
theorem aV5{n:Nat}{L:Nat->Option Nat}{D:Nat->Int}{a:Nat->List Nat}(h:bKj n L D a)(j:Nat):(a j).length<=n:=
 Fm.wD ((h.ord j).imp λ{x y} e z=>by rw[z,Stree.wK]at e;cases e) λx b=>((h.mem j x).mp b).1
theorem bVz{n:Nat}{L:Nat->Option Nat}{D:Nat->Int}{rk:Nat->Nat}{a:Nat}{b nx:List Nat}(W:Fm.aZT n L D rk a b nx):nx.length<=n:=
 Fm.wD (W.aa.imp λ{x y} e z=>by have:=e x (List.prefix_refl _);rw[z,Stree.vB]at this;cases this) λx c=>(W.al x c).1
section
variable {K:bKP}
theorem aYS:yM ["links","dates","number","answers","told","ahead","letter"] ["links","dates","number"] (yH aJG):=scM
theorem aK7(T:vH mg)(g:FnG P w K mg base 2 "answers_to_each" ["links","dates"] (bVp Tb))(p:FnG P w K mg base 2 "top_of" ["links","number"] (bWy K))(F:Fun K "thread" "thread" aJG f fd): y8 P w K mg base CX0 3 f fd ["links","dates","number"] (aVG Tb):=by
 have sc:=aYS;refine F.ok (k:=2) sc (λa5 A outer s H0 vs Q E hr h=>?_);obtain⟨la,da,n,L,y,D,i,rfl,U,a2,ho,hn,hi,hT,q⟩:=h;refine⟨_,(yC (yT (i:=3) (xJ g hr rfl (yA (pv 0) (yA (pv 1) yD)))) (yC (yT (i:=4) (y3 yD)) (yC (yT (i:=5) (y3 (yA (xJ p hr rfl (yA (pv 0) (yA (pv 2) yD))) yD))) (yC (u9 bYI (yN aQV (yU yQ rfl T.b_len xD (yA (pv 5) yD)) yE) (yC (yT (i:=6) (bZD bYn PySem.F.slot_list_pop PySem.F.type_list_pop bZB (pv 5))) (yC (yY (uF bYn bYt bYu xG (pv 4) (yA (pv 6) yD))) (yF (yY (uF bYn PySem.F.slot_list_extend PySem.F.type_list_extend aKN (pv 5) (yA (yL yK (pv 3) (pv 6)) yD))))))) (yF (yP (pv 4))))))),?_⟩;refine⟨_,rfl,_,rfl,la,da,n,L,y,D,rfl,U,a2,ho,hn,hT,λO a rs kd k1 t1 ha a6 a4 hk=>?_⟩;dsimp only[yX];refine⟨z0,λx M=>?_⟩;dsimp only[yX];have k2:=yG M (.lst []);refine⟨_,rfl,_,rfl,la,n,L,y,i,rfl,SqL.of (k2 _ _ (k1.lst U)),ho,hi,z1,λo N=>?_⟩;dsimp only[yX];have X:O o=none:=k2.fresh N;have C:x≠o:=yJ yB N;have k3:xA O (upd (upd O x (.lst [])) o (.lst [V.int (Fm.tp L y i:Nat)])):=k2.trans (yG N _);refine⟨λm σ H=>∃ (c J:List Nat)(lt:Option V),σ= [some (.ref la),some (.ref da),some (.int (i:Nat)),some (.ref a),some (.ref x),some (.ref o),lt]/\xA O H/\H x=some (.lst (c.map λi=>V.int (i:Nat)))/\
   H o=some (.lst (J.map λi=>V.int (i:Nat)))/\Fm.aZT n L D y (Fm.tp L y i) c J.reverse/\m=n - c.length,
  ⟨n,[],[Fm.tp L y i],none,rfl,k3,by rw[yI C];exact yB,yB,Fm.aZT.start ho hi,by simp⟩,?_⟩
 rintro m σ H ⟨c,J,lt,rfl,r,S,B,W,rfl⟩;refine⟨_,rfl,o,_,rfl,.inl (SqL.of B),_,_,rfl,rfl,_,rfl,?_⟩;rcases List.eq_nil_or_concat J with rfl|⟨d,v,rfl⟩
 ·refine onF rfl ⟨_,rfl,q H x c (λb u n e=>yJ (k1 b u n e) M) (k1.trans r.t) ?_ S W.tt λk=>W.done k⟩;rcases t1 with t|⟨c',t1,t2⟩
  ·exact .inl (r _ _ t)
  ·exact .inr ⟨c',r _ _ t1,r _ _ t2⟩
 ·rw[List.concat_eq_append]at B W ⊢;have Z:decide ((((d++ [v]).map λi=>V.int (i:Nat)).length:Int) > 0)=true:=by
   refine decide_eq_true ?_;rw[bKT,bYh,bYX];omega
  refine onT Z ⟨λR H'=>∃m',m'<n - c.length/\∃ (c J:List Nat)(lt:Option V),R= [some (.ref la),some (.ref da),some (.int (i:Nat)),some (.ref a),some (.ref x),some (.ref o),lt]/\xA O H'/\H' x=some (.lst (c.map λi=>V.int (i:Nat)))/\
   H' o=some (.lst (J.map λi=>V.int (i:Nat)))/\Fm.aZT n L D y (Fm.tp L y i) c J.reverse/\m'=n - c.length,λR H' z=>z,?_⟩
  have I:((d++ [v]).map λi=>V.int (i:Nat))[((d++ [v]).map λi=>V.int (i:Nat)).length - 1]? =some (V.int (v:Nat)):=by simp
  have G:((d++ [v]).map λi=>V.int (i:Nat)).dropLast=d.map λi=>V.int (i:Nat):=by simp
  refine⟨_,rfl,.inl ⟨rfl,_,SqL.of B⟩,o,_,_,rfl,rfl,B,I,?_⟩;rw[G];dsimp only[yX];have W':Fm.aZT n L D y (Fm.tp L y i) c (v::d.reverse):=by
   have:(d++ [v]).reverse=v::d.reverse:=by simp
   rw[this]at W;exact W
  have hv:=(W'.al v bK2).1;have W2:=W'.step ho (zU:=(kd v).reverse) (λj=>by rw[List.mem_reverse];exact hk.mem v j) (by rw[List.pairwise_reverse];exact hk.ord v);have l1:=W'.len;have l2:=bVz W';have l3:=aV5 hk v;have l4:=W2.len;rw[bYM,List.length_reverse]at l2;rw[bYh,bYX]at l4;have Y:upd H o (.lst (d.map λi=>V.int (i:Nat))) x=some (.lst (c.map λi=>V.int (i:Nat))):=by rw[yI C];exact S
  show bQg _ _ _ _;refine⟨_,rfl,.inl ⟨rfl,_,SqL.of Y⟩,_,rfl,x,_,_,rfl,rfl,Y,zlt (by rw[bKT];omega),?_⟩;have a0:upd (upd H o (.lst (d.map λi=>V.int (i:Nat)))) x (.lst ((c.map λi=>V.int (i:Nat))++ [V.int (v:Nat)])) o=some (.lst (d.map λi=>V.int (i:Nat))):=by rw[yI (bYv C)];exact yB
  have k6:xA O (upd (upd H o (.lst (d.map λi=>V.int (i:Nat)))) x (.lst ((c.map λi=>V.int (i:Nat))++ [V.int (v:Nat)]))):=wV (wV r X) M;have a3:v<rs.length:=by omega
  have hb:=bKM a3;have a1:=k6 _ _ (a4 v _ hb);refine⟨_,rfl,.inl ⟨rfl,_,SqL.of a0⟩,_,rfl,_,rfl,a,_,_,.ref rs[v],rfl,rfl,SqL.of (k6 _ _ ha),yS (by rw[bK7,hb];rfl),o,rs[v],_,_,rfl,rfl,a0,a1,zn (l:=(d.map λi=>V.int (i:Nat))++((kd v).map λi=>V.int (i:Nat))) (by rw[bYh,bKT,bKT];omega) |> λz=>by rw[bYh]at z;exact z,?_⟩;refine⟨n - (c.length+1),by omega,c++ [v],d++kd v,some (.int (v:Nat)),rfl,wV k6 X,?_,?_,?_,by rw[bYh,bYX]⟩
  ·rw[yI C,yB,cQT];rfl
  ·rw[yB,cQT]
  ·rw[List.reverse_append];exact W2
end
end Thr
namespace Desk
open PySem L2 PyProof.Rows
open Bk (Row Rows)
def aZa(x:Str):Stmt->Bool
 |.FunctionDef n _ _ _ _ _ _ _ _ _=>n==x
 |_=>false
def bW2(x:Str):Stmt->Bool
 |.ClassDef n _ _ _ _ _ _ _ _ _ _=>n==x
 |_=>false
def bZ5:Stmt->List Stmt
 |.ClassDef _ _ _ b _ _ _ _ _ _ _=>b
 |_=> []
abbrev text:List Stmt:=PySem.Challenge.pw_letterdesk_k04_answers.main.body
def xF(x:Str):Stmt:=(text.find? (aZa x)).getD (.Pass ⟨0,0,0,0⟩)
def xB(c m:Str):Stmt:=((bZ5 ((text.find? (bW2 c)).getD (.Pass ⟨0,0,0,0⟩))).find? (aZa m)).getD (.Pass ⟨0,0,0,0⟩)
theorem xD:bYy "len"=some (.builtin "len"):=dk
theorem wP:bYy "sorted"=some (.builtin "sorted"):=dk
theorem vC:bYy "list"=some (.type "list"):=dk
structure vH(mg:Str->Option bKN):Prop where
 b_len:mg "len"=none
 b_sorted:mg "sorted"=none
 b_list:mg "list"=none
structure Cl(K:bKP)(CB CL:Nat):Prop where
 b:Cls K CB
 l:Cls K CL
 letters:z8 K CB "letters"
 shut:z8 K CB "shut"
 number:z8 K CL "number"
 way:z8 K CL "way"
 day:z8 K CL "day"
 partner:z8 K CL "partner"
 term:z8 K CL "term"
 link:z8 K CL "link"
 file:z8 K CL "file"
 copies:z8 K CL "copies"
 void:z8 K CL "void"
abbrev wL:Option Nat->V:=Thr.wL
def W0(r:Row):Int:=if r.void then 0 else r.term
def qX(r:Row):V:=if r.void then .non else .str r.place
def aZk(i:Nat)(r:Row)(c:Nat):List (Str×V):=
 [("number",.int (i:Nat)),("way",.str r.way),("day",.int r.date),("partner",.str r.partner),("term",.int (W0 r)),("link",wL r.link),("file",qX r),("copies",.ref c),("void",.bl r.void)]
def aVN(CL:Nat)(H:Hp)(b:Nat)(i:Nat)(r:Row)(c:Nat):Prop:=∃a,H b=some (.ins CL a (aZk i r c))
def stV(r:Row):List V:= [.str r.way,.int r.date,.str r.partner,.int (W0 r),wL r.link,qX r]
def aY6(CL:Nat):Sp:=λh H Q _=>∃ (x g:Nat)(i:Nat)(e:Str)(d:Int)(a:Str)(t:Int),h= [.ref x,.int (i:Nat),.str e,.int d,.str a,.int t]/\H x=some (.ins CL g [])/\
 ∀ (c:Nat)(f:Hp),H c=none->f x=some (.ins CL g (aZk i ⟨e,d,a,t,none,"",false,[]⟩ c))->f c=some (.lst [])->(∀b,b≠x->b≠c->f b=H b)->Q .non f
def aJV(CL:Nat):Sp:=λa H Q _=>∃ (b:Nat)(i:Nat)(r:Row)(c:Nat),a= [.ref b]/\aVN CL H b i r c/\∀t,H t=none->Q (.ref t) (upd H t (.tup (stV r)))
def aYZ(CL:Nat):Sp:=λe H Q _=>∃ (b a:Nat)(i j:Nat)(r d:Row)(c f:Nat),e= [.ref b,.ref a]/\aVN CL H b i r c/\aVN CL H a j d f/\Q (.bl (decide (d.link=some i))) H
def bZK(CL:Nat):Sp:=λd H Q _=>∃ (b:Nat)(i:Nat)(r:Row)(c:Nat)(a:Str),d= [.ref b,.str a]/\aVN CL H b i r c/\H c=some (.lst (r.copies.map V.str))/\Q (.bl (decide (a=r.partner) || r.copies.contains a)) H
def bZR(CL:Nat):Sp:=λd H Q _=>∃ (b a:Nat)(i:Nat)(r:Row)(c:Nat),d= [.ref b]/\H b=some (.ins CL a (aZk i r c))/\Q .non (upd H b (.ins CL a (aZk i {r with link:=none,void:=true} c)))
def aY8:Sp:=λa H Q _=>∃way:Str,a= [.str way]/\Q (.str (Bk.jF way)) H
section
variable {K:bKP}
abbrev aYv:Stmt:=xB "Letter" "__init__"
abbrev aYA:Stmt:=xB "Letter" "state"
abbrev aYn:Stmt:=xB "Letter" "is_answered_by"
abbrev bJW:Stmt:=xB "Letter" "has_gone_to"
abbrev bJ6:Stmt:=xB "Letter" "make_void"
abbrev aYw:Stmt:=xF "other_way"
theorem bXN:yM ["self","number","way","day","partner","term"] ["self","number","way","day","partner","term"] (yH aYv):=scM
theorem bXe(T:Cl K CB CL)(F:Fun K "__init__" "Letter.__init__" aYv f fd):y8 P w K mg base CX0 (n+1) f fd ["self","number","way","day","partner","term"] (aY6 CL):=by
 have u:=bXN;refine F.ok (k:=n) u (λy A outer s H B Q E z h=>?_);obtain⟨x,e,i,p,d,o,t,rfl,v,q⟩:=h;refine⟨_,(yC (zF (pv 0) (pv 1) rfl) (yC (zF (pv 0) (pv 2) rfl) (yC (zF (pv 0) (pv 3) rfl) (yC (zF (pv 0) (pv 4) rfl) (yC (zF (pv 0) (pv 5) rfl) (yC (zF (pv 0) x9 rfl) (yC (zF (pv 0) yO rfl) (yC (zF (pv 0) (y3 yD) rfl) (yF (zF (pv 0) qL rfl)))))))))),?_⟩;refine⟨_,rfl,_,rfl,x,CL,e,_,rfl,v,T.l,T.number,(show 0<1000 by decide),?_⟩;refine⟨_,rfl,_,rfl,x,CL,e,_,rfl,yB,T.l,T.way,(show 1<1000 by decide),?_⟩;refine⟨_,rfl,_,rfl,x,CL,e,_,rfl,yB,T.l,T.day,(show 2<1000 by decide),?_⟩;refine⟨_,rfl,_,rfl,x,CL,e,_,rfl,yB,T.l,T.partner,(show 3<1000 by decide),?_⟩;refine⟨_,rfl,_,rfl,x,CL,e,_,rfl,yB,T.l,T.term,(show 4<1000 by decide),?_⟩;refine⟨_,rfl,x,CL,e,_,rfl,yB,T.l,T.link,(show 5<1000 by decide),?_⟩;refine⟨_,rfl,x,CL,e,_,rfl,yB,T.l,T.file,(show 6<1000 by decide),?_⟩;refine⟨z0,λc j=>?_⟩;have a:x≠c:=yJ yB j;refine⟨_,rfl,x,CL,e,_,rfl,(yI a).trans yB,T.l,T.copies,(show 7<1000 by decide),?_⟩;refine⟨_,rfl,x,CL,e,_,rfl,yB,T.l,T.void,(show 8<1000 by decide),?_⟩;have g:H c=none:=by simp only[yI (bYv a)]at j;exact j
 refine q c _ g yB (by rw[yI (bYv a),yI (bYv a),yB]) λb m r=>?_;simp only[yI m,yI r]
theorem bXS:yM ["self"] ["self"] (yH aYA):=scM
theorem bXj(T:Cl K CB CL)(F:Fun K "state" "Letter.state" aYA f fd):y8 P w K mg base CX0 (n+1) f fd ["self"] (aJV CL):=by
 have g:=bXS;refine F.ok (k:=n) g (λj A outer s H o Q E m h=>?_);obtain⟨b,i,r,c,rfl,⟨d,a⟩,q⟩:=h;refine⟨_,(yF (yP (xL (yA (yZ (pv 0) rfl) (yA (yZ (pv 0) rfl) (yA (yZ (pv 0) rfl) (yA (yZ (pv 0) rfl) (yA (yZ (pv 0) rfl) (yA (yZ (pv 0) rfl) yD))))))))),?_⟩;refine⟨_,rfl,b,CL,d,_,_,rfl,a,T.l,T.way,rfl,?_⟩;refine⟨_,rfl,b,CL,d,_,_,rfl,a,T.l,T.day,rfl,?_⟩;refine⟨_,rfl,b,CL,d,_,_,rfl,a,T.l,T.partner,rfl,?_⟩;refine⟨_,rfl,b,CL,d,_,_,rfl,a,T.l,T.term,rfl,?_⟩;refine⟨_,rfl,b,CL,d,_,_,rfl,a,T.l,T.link,rfl,?_⟩;refine⟨_,rfl,b,CL,d,_,_,rfl,a,T.l,T.file,rfl,?_⟩;exact⟨by show 6<=bYd;decide,λt e=>q t e⟩
theorem aZ6{o:Option Nat}{m:Nat}:decide (wL o=V.int (m:Nat))=decide (o=some m):=by
 cases o with
 |none=>rfl
 |some j=>show decide (V.int (j:Nat)=V.int (m:Nat))=decide (some j=some m);rw[Bool.eq_iff_iff];simp;omega
theorem bXE:yM ["self","other"] ["self","other"] (yH aYn):=scM
theorem bQ5(T:Cl K CB CL)(F:Fun K "is_answered_by" "Letter.is_answered_by" aYn f fd):y8 P w K mg base CX0 (n+1) f fd ["self","other"] (aYZ CL):=by
 have o:=bXE;refine F.ok (k:=n) o (λt A outer s H x Q E u h=>?_);obtain⟨b,g,i,j,r,e,c,v,rfl,⟨p,m⟩,⟨a,d⟩,q⟩:=h;refine⟨_,(yF (yP (zG x5 (yZ (pv 1) rfl) (yZ (pv 0) rfl)))),?_⟩;refine⟨_,rfl,g,CL,a,_,_,rfl,d,T.l,T.link,rfl,?_⟩;refine⟨_,rfl,b,CL,p,_,_,rfl,m,T.l,T.number,rfl,?_⟩;rw[<- aZ6]at q;refine⟨?_,q⟩;cases e.link<;> rfl
theorem wI(x:Str):∀ns:List Str,inV (.str x) (ns.map V.str)=ns.contains x
 |[]=>rfl
 |n::r=>by have a:=wI x r;unfold inV at a ⊢;rw[bYx,cQ2,a,cQ5];congr 1;show(n==x)=(x==n);rw[Bool.eq_iff_iff,beq_iff_eq,beq_iff_eq];exact eq_comm
theorem aX5:∀ns:List Str,(ns.map V.str).all Z7=true
 |[]=>rfl
 |n::r=>by rw[bYx,cXX,aX5 r];rfl
theorem bJ9:yM ["self","person"] ["self","person"] (yH bJW):=scM
theorem bJx(T:Cl K CB CL)(F:Fun K "has_gone_to" "Letter.has_gone_to" bJW f fd):y8 P w K mg base CX0 (n+1) f fd ["self","person"] (bZK CL):=by
 have m:=bJ9;refine F.ok (k:=n) m (λp A outer s H u Q E t h=>?_);obtain⟨b,i,r,c,a,rfl,⟨g,e⟩,o,q⟩:=h;refine⟨_,(yF (yP (bWe (zG x5 (pv 1) (yZ (pv 0) rfl)) (aZu (zG wS (pv 1) (yZ (pv 0) rfl)))))),?_⟩;refine⟨_,rfl,_,rfl,b,CL,g,_,_,rfl,e,T.l,T.partner,rfl,rfl,?_⟩;have j:decide (V.str a=V.str r.partner)=decide (a=r.partner):=by rw[Bool.eq_iff_iff];simp
 refine⟨_,rfl,?_⟩;rw[j];cases d:decide (a=r.partner)with
 |true=>rw[d,Bool.true_or]at q;exact onT rfl q
 |false=>rw[d,Bool.false_or]at q;refine onF rfl ⟨_,rfl,_,rfl,b,CL,g,_,_,rfl,e,T.l,T.copies,rfl,c,_,rfl,.inl (SqL.of o),rfl,aX5 _,?_⟩;rw[if_neg (by decide),wI];exact q
theorem bVk:yM ["self"] ["self"] (yH bJ6):=scM
theorem bJJ(T:Cl K CB CL)(F:Fun K "make_void" "Letter.make_void" bJ6 f fd):y8 P w K mg base CX0 (n+1) f fd ["self"] (bZR CL):=by
 have e:=bVk;refine F.ok (k:=n) e (λg A outer s H m Q E j h=>?_);obtain⟨b,a,i,r,c,rfl,d,q⟩:=h;refine⟨_,(yC (zF (pv 0) qL rfl) (yC (zF (pv 0) x9 rfl) (yC (zF (pv 0) x9 rfl) (yF (zF (pv 0) yE rfl))))),?_⟩;refine⟨_,rfl,b,CL,a,_,rfl,d,T.l,T.void,(show 9<1000 by decide),?_⟩;refine⟨_,rfl,b,CL,a,_,rfl,yB,T.l,T.link,(show 9<1000 by decide),?_⟩;refine⟨_,rfl,b,CL,a,_,rfl,yB,T.l,T.file,(show 9<1000 by decide),?_⟩;refine⟨_,rfl,b,CL,a,_,rfl,yB,T.l,T.term,(show 9<1000 by decide),?_⟩;rw[uR,uR,uR];exact q
theorem bXO:yM ["way"] ["way"] (yH aYw):=scM
theorem bXf(F:Fun K "other_way" "other_way" aYw f fd):y8 P w K mg base CX0 (n+1) f fd ["way"] aY8:=by
 have c:=bXO;refine F.ok (k:=n) c (λd A outer s H e Q E g h=>?_);obtain⟨a,rfl,q⟩:=h;refine⟨_,(yF (yP (aVk (yN x5 (pv 0) yO) yO yO))),?_⟩;unfold Bk.jF at q;have b:decide (V.str a=V.str "in")=decide (a="in"):=by rw[Bool.eq_iff_iff];simp
 refine⟨_,rfl,rfl,_,rfl,?_⟩;rw[b];by_cases hw:a="in"
 ·rw[if_pos hw]at q;exact onT (decide_eq_true hw) q
 ·rw[if_neg hw]at q;exact onF (decide_eq_false hw) q
end
end Desk
namespace L2
open PySem PySem.Spec PyProof.Rows
section
variable {κ:Type} [DecidableEq κ]
def J8(kvs:List (κ×V))(k:κ):Option V:=(kvs.find? λa=>decide (a.1=k)).map (·.2)
def aJw(kvs:List (κ×V))(k:κ)(v:V):List (κ×V):=
 if(kvs.any λa=>decide (a.1=k))=true then kvs.map (λa=>if a.1=k then(a.1,v)else a)else kvs++ [(k,v)]
theorem zT{p:κ×V}{r:List (κ×V)}{k:κ}(e:p.1=k):J8 (p::r) k=some p.2:=by simp[J8,cQ8,e]
theorem zS{p:κ×V}{r:List (κ×V)}{k:κ}(e:¬p.1=k):J8 (p::r) k=J8 r k:=by simp[J8,cQ8,e]
theorem J9(k:κ):∀kvs:List (κ×V),(kvs.any λa=>decide (a.1=k))=(J8 kvs k).isSome
 |[]=>rfl
 |p::r=>by
  rw[cQ2];by_cases e:p.1=k
  ·simp only[zT e,decide_eq_true e,Bool.true_or,Option.isSome_some]
  ·rw[zS e,decide_eq_false e,Bool.false_or];exact J9 k r
theorem aVK(k j:κ)(y:V):∀kvs:List (κ×V),J8 (kvs.map λa=>if a.1=k then(a.1,y)else a) j=(J8 kvs j).map λx=>if j=k then y else x
 |[]=>rfl
 |p::r=>by
  have b:=aVK k j y r;rw[bYx];by_cases h:p.1=k
  ·rw[if_pos h];by_cases e:p.1=j
   ·rw[zT (p:=(p.1,y)) e,zT e,Option.map_some,if_pos (e.symm.trans h)]
   ·rw[zS (p:=(p.1,y)) e,zS e,b]
  ·rw[if_neg h];by_cases e:p.1=j
   ·rw[zT (p:=p) e,zT e,Option.map_some,if_neg (λz=>h (e.trans z))]
   ·rw[zS (p:=p) e,zS e,b]
theorem aZR(k j:κ)(y:V):∀kvs:List (κ×V),J8 kvs k=none->J8 (kvs++ [(k,y)]) j=if j=k then some y else J8 kvs j
 |[],_=>by
  by_cases e:k=j
  ·rw[if_pos e.symm];exact zT (p:=(k,y)) e
  ·rw[if_neg (λz=>e z.symm)];exact zS (p:=(k,y)) e
 |p::r,hn=>by
  rw[cZl];have a:¬p.1=k:=λz=>by rw[zT z]at hn;cases hn
  rw[zS a]at hn;have b:=aZR k j y r hn;by_cases e:p.1=j
  ·rw[zT e,zT e,if_neg (λz=>a (e.trans z))]
  ·rw[zS e,zS e,b]
theorem bZf(kvs:List (κ×V))(k j:κ)(y:V):J8 (aJw kvs k y) j=if j=k then some y else J8 kvs j:=by
 unfold aJw;by_cases a:(kvs.any λc=>decide (c.1=k))=true
 ·rw[if_pos a,aVK];rw[J9]at a;by_cases e:j=k
  ·obtain⟨x,b⟩:=Option.isSome_iff_exists.mp a;rw[if_pos e,e,b,Option.map_some,if_pos rfl]
  ·rw[if_neg e];cases J8 kvs j with
   |none=>rfl
   |some x=>rw[Option.map_some,if_neg e]
 ·rw[if_neg a];refine aZR k j y kvs ?_;rw[J9]at a;cases q:J8 kvs k with
  |none=>rfl
  |some x=>rw[q]at a;exact(a rfl).elim
theorem jO(kvs:List (κ×V))(k:κ)(v:V):(aJw kvs k v).length<=kvs.length+1:=by
 unfold aJw;split
 ·rw[bKT];omega
 ·rw[bYh,bYM,cQS];omega
theorem aXS.isSome_eq{o:Option V}{u:Option bKN}(r:aXS o u):o.isSome=u.isSome:=by
 cases o with
 |none=>cases u with
  |none=>rfl
  |some _=>exact(show False from r).elim
 |some _=>cases u with
  |none=>exact(show False from r).elim
  |some _=>rfl
theorem KV.val{kvs:List (κ×V)}{vs:List (κ×bKN)}(r:KV kvs vs)(k:κ):aXS (J8 kvs k) (cX5 vs k):=by
 unfold KV at r;induction r with
 |nil=>exact cQd
 |@cons p q i c h t g=>
  obtain⟨d,f⟩:=h;by_cases e:p.1=k
  ·have a:q.1=k:=d.symm.trans e;have b:cX5 (q::c) k=some q.2:=by simp[cX5,cQ8,a]
   rw[zT e,b];exact f
  ·have a:¬q.1=k:=λz=>e (d.trans z);have b:cX5 (q::c) k=cX5 c k:=by simp[cX5,cQ8,a]
   rw[zS e,b];exact g
theorem KV.any{kvs:List (κ×V)}{vs:List (κ×bKN)}(r:KV kvs vs)(k:κ):(kvs.any λa=>decide (a.1=k))=vs.any λa=>decide (a.1=k):=by
 unfold KV at r;induction r with
 |nil=>rfl
 |cons h t b=>rw[cQ2,cQ2,b,h.1]
theorem KV.repl{kvs:List (κ×V)}{vs:List (κ×bKN)}(r:KV kvs vs)(k:κ){y:V}{u:bKN}(f:zC y u): KV (kvs.map λa=>if a.1=k then(a.1,y)else a) (vs.map λa=>if a.1=k then(a.1,u)else a):=by
 unfold KV at r ⊢;induction r with
 |nil=>exact .nil
 |@cons p q g i h t c=>
  rw[bYx,bYx];refine .cons ?_ c;obtain⟨b,d⟩:=h;by_cases e:p.1=k
  ·rw[if_pos e,if_pos (b.symm.trans e)];exact⟨b,f⟩
  ·rw[if_neg e,if_neg (λz=>e (b.trans z))];exact⟨b,d⟩
theorem KV.put{kvs:List (κ×V)}{vs:List (κ×bKN)}(r:KV kvs vs)(k:κ){y:V}{u:bKN}(a:zC y u):KV (aJw kvs k y) (stored vs k u):=by
 unfold aJw stored;rw[r.any k];by_cases e:(vs.any λb=>decide (b.1=k))=true
 ·rw[if_pos e,if_pos e];exact r.repl k a
 ·rw[if_neg e,if_neg e];exact Paired.snoc r ⟨rfl,a⟩
theorem KV.length{kvs:List (κ×V)}{vs:List (κ×bKN)}(r:KV kvs vs):kvs.length=vs.length:=cXc r
end
theorem bQK{P:bK9}{w:bYf}{k:Key}{u:bKN}(r:zC (kV k) u):(xY P w).is k u=true:=by
 cases k with
 |inl i=>obtain⟨t,e⟩:=(show ∃t,u=Value.int i t from r);subst e;exact aJf P w i t
 |inr x=>obtain⟨t,e⟩:=(show ∃t,u=Value.str x t from r);subst e;exact jP P w x t
theorem aZc{P:bK9}{w:bYf}:∀ {a:List Key} {us:List bKN},xS (a.map kV) us->ItemsAre (xY P w) a us
 |[],_,r=>by rw[List.map_nil]at r;cases r;exact .nil
 |k::a,_,r=>by
  rw[bYx]at r;cases r with
  |cons h t=>exact .cons (bQK h) (aZc t)
abbrev KT(H:Hp):List (List Key×V)->List (List Key×Addr×bKN)->Prop:=bYH λp q=>p.1=q.1/\H q.2.1=some (.tup (p.1.map kV))/\zC p.2 q.2.2
theorem KT.val{H:Hp}{kvs:List (List Key×V)}{xs:List (List Key×Addr×bKN)}(r:KT H kvs xs)(k:List Key):aXS (J8 kvs k) ((atKey xs k).map (·.2)):=by
 induction r with
 |nil=>exact cQd
 |@cons p q i a h t f=>
  obtain⟨d,_,g⟩:=h;by_cases e:p.1=k
  ·have c:q.1=k:=d.symm.trans e;have b:atKey (q::a) k=some q.2:=by simp[atKey,cQ8,c]
   rw[zT e,b];exact g
  ·have c:¬q.1=k:=λz=>e (d.trans z);have b:atKey (q::a) k=atKey a k:=by simp[atKey,cQ8,c]
   rw[zS e,b];exact f
theorem KT.repl{H:Hp}{kvs:List (List Key×V)}{xs:List (List Key×Addr×bKN)}(r:KT H kvs xs)(k:List Key){y:V}{u:bKN}(g:zC y u): KT H (kvs.map λb=>if b.1=k then(b.1,y)else b) (xs.map (putAt k u)):=by
 induction r with
 |nil=>exact .nil
 |@cons p q i j h t d=>
  rw[bYx,bYx];refine .cons ?_ d;obtain⟨a,c,f⟩:=h;unfold putAt;by_cases e:p.1=k
  ·rw[if_pos e,if_pos (a.symm.trans e)];exact⟨a,c,g⟩
  ·rw[if_neg e,if_neg (λz=>e (a.trans z))];exact⟨a,c,f⟩
theorem KT.put{H:Hp}{kvs:List (List Key×V)}{xs:List (List Key×Addr×bKN)}(r:KT H kvs xs)(k:List Key){b:Addr}{y:V}{u:bKN}(c:H b=some (.tup (k.map kV)))(a:zC y u): KT H (aJw kvs k y) (storedH xs k b u):=by
 have e:(kvs.any λd=>decide (d.1=k))=(atKey xs k).isSome:=by rw[J9,(r.val k).isSome_eq,Option.isSome_map]
 unfold aJw storedH;rw[e];by_cases q:(atKey xs k).isSome=true
 ·rw[if_pos q,if_pos q];exact r.repl k a
 ·rw[if_neg q,if_neg q];exact Paired.snoc r ⟨rfl,c,a⟩
theorem KT.keeps{H c:Hp}{kvs:List (List Key×V)}{xs:List (List Key×Addr×bKN)}(r:KT H kvs xs)(d:∀b a,H b=some (.tup a)->c b=some (.tup a)):KT c kvs xs:=
 Paired.mapP r λ_ _ z=>⟨z.1,d _ _ z.2.1,z.2.2⟩
section
variable {P:bK9}{w:bYf}{H:Hp}{h:Heap}{a:Addr}
theorem bWm{u:HO}(ok:HOk P w H h)(e:Rd H a u):x0 P w H h a u:=e.ok ok
theorem bVT{kvs:List (Key×V)}(ok:HOk P w H h)(e:Rd H a (.dK kvs)):kvs.length<=bYd/\(a==cXC)=false/\∃b,KV kvs b/\h.DictOf (xY P w) a b:=
 show x0 P w H h a (.dK kvs)from bWm ok e
theorem bWY{kvs:List (Key×V)}(ok:HOk P w H h)(e:H a=some (.dK kvs)):kvs.length<=bYd/\(a==cXC)=false/\∃b,KV kvs b/\h.DictOf (xY P w) a b:=bVT ok (.inl e)
theorem aKB{b:List Key}(ok:HOk P w H h)(e:H a=some (.tup (b.map kV))):(tupleKind (xY P w)).is h b a:=by
 obtain⟨_,c,r,o,d,f,n,g⟩:=(show x0 P w H h a (.tup (b.map kV))from ok a _ e);exact⟨o,c.toArray,n,d,f,g,by simpa using aZc r⟩
theorem bVU{kvs:List (List Key×V)}(ok:HOk P w H h)(e:Rd H a (.dT kvs)):kvs.length<=bYd/\(a==cXC)=false/\ ∃c,KT H kvs c/\h.DictOfH (tupleKind (xY P w)) a c:=by
 obtain⟨z,y,c,r,o,g,u,f,s,k,n,j⟩:=(show x0 P w H h a (.dT kvs)from bWm ok e);refine⟨z,y,c,r,o,g,u,f,s,k,n,λx b=>?_,j⟩;have all:∀ {l:List (List Key×V)} {m:List (List Key×Addr×bKN)},KT H l m->∀x∈m,(tupleKind (xY P w)).is h x.1 x.2.1:=by
  intro l m q;induction q with
  |nil=>intro x b;exact nomatch b
  |@cons p q v A d t i=>
   intro x b;rcases bKW.mp b with e|b
   ·subst e;exact aKB ok (by rw[<- d.1];exact d.2.1)
   ·exact i x b
 exact all r x b
theorem wY{kvs:List (List Key×V)}(ok:HOk P w H h)(e:H a=some (.dT kvs)):kvs.length<=bYd/\(a==cXC)=false/\
  ∃b,KT H kvs b/\h.DictOfH (tupleKind (xY P w)) a b:=bVU ok (.inl e)
end
def bVE(H:Hp)(a:Addr)(y:V)(r:Option V):Prop:=
 (∃kvs k,Rd H a (.dK kvs)/\y=kV k/\r=J8 kvs k)\/∃kvs k b,Rd H a (.dT kvs)/\y= .ref b/\H b=some (.tup (k.map kV))/\r=J8 kvs k
def bVF(H:Hp)(a:Addr)(y v:V)(c:Hp):Prop:=
 (∃kvs k,H a=some (.dK kvs)/\y=kV k/\kvs.length<bYd/\c=upd H a (.dK (aJw kvs k v)))\/
 ∃kvs k b,H a=some (.dT kvs)/\y= .ref b/\H b=some (.tup (k.map kV))/\kvs.length<bYd/\c=upd H a (.dT (aJw kvs k v))
theorem bVE.k{H:Hp}{a:Addr}{kvs:List (Key×V)}{k:Key}(e:H a=some (.dK kvs)):bVE H a (kV k) (J8 kvs k):= .inl ⟨kvs,k,.inl e,rfl,rfl⟩
theorem bVF.k{H:Hp}{a:Addr}{kvs:List (Key×V)}{k:Key}{v:V}(e:H a=some (.dK kvs))(hl:kvs.length<bYd):bVF H a (kV k) v (upd H a (.dK (aJw kvs k v))):= .inl ⟨kvs,k,e,rfl,hl,rfl⟩
section
variable {X:Cx}{pins:List (Addr×Obj)}{σ:St}{H:Hp}{s:bKQ}{a:Addr}{y v:V}{u r:bKN}{o:Option V}{A:bYr}{E:bKN->bKQ->Prop}
theorem Inv.big(I:Inv X pins σ H s):cXC<s.heap.objs.size:=by
 have h:bYi<s.heap.objs.size:=(I.mod.glob.keeps I.bk).lt;exact Nat.lt_trans (by decide) h
theorem bZ7{Q:bKN->bKQ->Prop}(n:A.units+1<cLine)(I:Inv X pins σ H s)(g:bVE H a y o)(m:zC y u)(h:∀j,Inv X pins σ H j->Q (.bool (!o.isSome)) j): bKV (bKX X.prog X.w) A (cQh .NotIn u (.ref a)) Q E s:=by
 rcases g with⟨kvs,k,e,i,l⟩|⟨kvs,k,b,e,i,p,l⟩
 ·subst i;obtain⟨z,d,t,c,f⟩:=bVT I.hok e;refine wpAny_notIn_of (bQK m) d f.mapOf ?_;rw[<- (c.val k).isSome_eq,<- l];exact h _ (I.tok _)
 ·subst i;cases (show u=Value.ref b from m);obtain⟨z,d,r,c,f⟩:=bVU I.hok e;refine wpAny_notIn_heap (tupleKind_room_in1 n) (aKB I.hok p) d f ?_;have q:=(c.val k).isSome_eq;rw[Option.isSome_map]at q;rw[<- q,<- l];exact h _ (I.tok _)
theorem aKf{h':Heap}{t':Nat}{d:HO}(I:Inv X pins σ H s)(f:Mut (H a))(h:cQN a s.heap h')(g:∃q,h'.get? a=some q)(c:x0 X.prog X.w (upd H a d) h' a d): Inv X pins σ (upd H a d) {s with heap:=h',toks:=t'}:=
 I.write (x:=a) (e:=a) f (.inl rfl) (λb q i z=>(h.2 b i).trans z) g c
theorem bVS{P:bK9}{w:bYf}{d:Hp}{h':Heap}{kvs:List (Key×V)}{vs:List (Key×bKN)}(z:kvs.length<=bYd)(e:(a==cXC)=false)(b:KV kvs vs)(c:h'.DictOf (xY P w) a vs):
  x0 P w d h' a (.dK kvs):=⟨z,e,vs,b,c⟩
theorem aKe{G:Hp}{Q:Unit->bKQ->Prop}(M:A.units+1<cLine)(I:Inv X pins σ H s)(g:bVF H a y v G)(J:zC y u)(x:zC v r)(h:∀F,Inv X pins σ G F->Q () F): bKV (bKX X.prog X.w) A (setItem (.ref a) u r) Q E s:=by
 rcases g with⟨kvs,k,e,p,l,t⟩|⟨kvs,k,b,e,p,C,l,t⟩
 ·subst p t;obtain⟨z,j,S,d,m⟩:=bWY I.hok e;have o:S.length<=bYd:=by rw[<- d.length];exact z
  have hl:(aJw kvs k v).length<=bYd:=by have:=jO kvs k v;omega
  refine wpAny_setItem_pairs (hsz:=o) (bQK J) m λB f n=>h _ ?_;have N:∃q,B.get? a=some q:=let ⟨q,_,_,i,_⟩:=f;⟨q,i⟩;exact aKf I (by rw[e];exact cQd) n N (bVS hl j (d.put k x) f)
 ·subst p t;cases (show u=Value.ref b from J);obtain⟨z,j,L,d,m⟩:=wY I.hok e;have o:L.length<=bYd:=by rw[<- cXc d];exact z
  have hl:(aJw kvs k v).length<=bYd:=by have:=jO kvs k v;omega
  refine wpAny_setItem_heap (hsz:=o) (tupleKind_room_in1 M) (aKB I.hok C) m λB f n=>h _ ?_;obtain⟨q,K,U,i,T,P,R,_,O⟩:=f;refine aKf I (by rw[e];exact cQd) n ⟨q,i⟩ ⟨hl,j,_,(d.put k C x).keeps λc V D=>?_,q,K,U,i,T,P,R,O⟩;rw[yI (aQR D e (λz=>nomatch z))];exact D
end
section
variable {X:Cx}{pins:List (Addr×Obj)}{σ:St}{H:Hp}{s:bKQ}{a:Addr}{kvs:List (Key×V)}{k:Key}{u:bKN}{A:bYr}{E:bKN->bKQ->Prop}
end
def bKk(i:Expr):Prop:=∀a b,subscripted i false a b=operate [a,b] (getItem a b)
theorem bVr{prog:bK9}{w:bYf}{A:bYr}{E:bKN->bKQ->Prop}{s:bKQ}{env:Env}{value a:Expr}{pos:Pos}{T id:String}{Q:bKN->bKQ->Prop} (hl:typeLookup (.type T) "__getitem__"=pure (some (.builtin id))) (k:bKk a) (h:bKV (bKX prog w) A (eval value env) (λo e=>bKV (bKX prog w) A (eval a env) (λi b=>b.TypeIs o T/\bKV (bKX prog w) A (getItem o i) Q E b) E e) E s): bKV (bKX prog w) A (eval (.Subscript value a pos) env) Q E s:=by
 refine Subscript_ (bYN h (λo e f=>bYN f (λi b c=>?_) λ_ _ x=>x) λ_ _ x=>x);obtain⟨j,c⟩:=c;unfold subscriptTail;refine bKO ?_;rw[getitemInPython_of_ne j.not_modules];refine bKO (wpAny_specialOf j hl ?_);have fin:bKV (bKX prog w) A (subscripted a false o i) (λr d=>bKV (bKX prog w) A (letTemporaryGo value o r >>=λ_=>pure r) Q E d) E b:=by rw[k o i];exact wpAny_operating (bYN c (λr d g=>bKO (wpAny_letTemporaryGo (bKS g))) λ_ _ x=>x)
 first
  |exact bKS (bKO fin)
  |exact bKO (bKS (bKO fin))
  |exact bKO fin
def bVs(ty td:TE):TE:=λσ H Q=>ty σ H λy c=>td σ c λx b=>∃a o,x= .ref a/\bVE b a y o/\Q (.bl (!o.isSome)) b
def bKa(td ty tv:TE):TS:=λD σ H=>tv σ H λv e=>td σ e λx d=>ty σ d λy c=>∃a b,x= .ref a/\bVF c a y v b/\D.nx σ b
section
variable {X:Cx}{o i e value:Expr}{pos pos' tpos:Pos}{td ty tv:TE}
theorem aYc(d:X.A.units+1<cLine)(e:PE X i ty)(b:PE X o td):PC X .NotIn i o (bVs ty td):=by
 intro pins s σ H Q I h;refine thn (e pins s σ H _ I h) λiv s1 ⟨y,H1,I1,ry,q1⟩=>thn (b pins s1 σ H1 _ I1 q1) λu s2 ⟨x,H2,I2,rx,a,ov,ex,g,q2⟩=>?_;subst ex;obtain rfl:u=Value.ref a:=rx;exact bZ7 d I2 g ry λf c=>⟨.bl (!ov.isSome),H2,c,rfl,q2⟩
theorem bJP(e:X.A.units+1<cLine)(c:PE X o td)(f:PE X i ty)(j:PE X value tv)(b:swapsWith value (some (.Subscript o i pos')) pos.line X.env=pure false): PS X (.Assign [.Subscript o i pos'] value pos) (bKa td ty tv):=by
 intro pins s σ H D I h;refine wpAny_Assign_Subscript (thn (j pins s σ H _ I h) λr s1 ⟨v,H1,I1,rv,q1⟩=>thn (c pins s1 σ H1 _ I1 q1) λu s2 ⟨x,H2,I2,rx,q2⟩=>thn (f pins s2 σ H2 _ I2 q2) λiv s3 ⟨y,H3,I3,ry,a,H4,ex,g,q3⟩=>?_) b;subst ex;obtain rfl:u=Value.ref a:=rx;exact aKe e I3 g ry rv λk d=>⟨σ,H4,d,q3⟩
end
theorem bQx{P:bK9}{w:bYf}{H:Hp}(h:Heap)(a:cXC<h.objs.size):x0 P w H (h.push {cls:= .type "dict",data:= .dict #[] }) h.objs.size (.dK []):=
 ⟨bYJ _,beq_eq_false_iff_ne.mpr (bYv (bYb a)),[],.nil,Heap.DictOf.new h⟩
def bWA:TE:=λ_ H Q=>∀p,H p=none->Q (.ref p) (upd H p (.dK []))
section
variable {X:Cx}{pos:Pos}
theorem bXr:PE X (.Dict [] [] pos) bWA:=λpins s σ H Q I h=>
 wpAny_Dict_empty ⟨.ref s.heap.objs.size,_,I.laid (a:=s.heap.objs.size) (o:= .dK []) (t':=s.toks) (λ_ _ q=>bKR _ q) (bKU _) (bQx s.heap I.big),rfl,h _ (I.hok.fresh (bKU _))⟩
end
structure M1(X:Cx)(o:Expr)(m:Str)(apos:Pos)(e:Expr)(cpos:Pos):Prop where
 base:cXy o m X.env (eval o X.env)=eval o X.env
 few:((cQp cpos (bYp [e] X.env)).all (λx=> !x.1) && (cXV cpos (cQ4 [] X.env)).all (λx=>x.1.isSome)
  && decide (([e]:List Expr).length+([]:List Keyword).length+(if([]:List Keyword).isEmpty then 0 else 1)<30))=true
 line:(apos.endLine==cpos.line)=true
 trees:cQp cpos (bYp [e] X.env)= [(false,eval e X.env)]
structure M2(X:Cx)(o:Expr)(m:Str)(apos:Pos)(e f:Expr)(cpos:Pos):Prop where
 base:cXy o m X.env (eval o X.env)=eval o X.env
 few:((cQp cpos (bYp [e,f] X.env)).all (λx=> !x.1) && (cXV cpos (cQ4 [] X.env)).all (λx=>x.1.isSome)
  && decide (([e,f]:List Expr).length+([]:List Keyword).length+(if([]:List Keyword).isEmpty then 0 else 1)<30))=true
 line:(apos.endLine==cpos.line)=true
 trees:cQp cpos (bYp [e,f] X.env)= [(false,eval e X.env),(false,eval f X.env)]
section
variable {X:Cx}{pins:List (Addr×Obj)}{σ:St}{H:Hp}{s:bKQ}{a:Addr}{y d:V}{u r:bKN}{o:Option V}{A:bYr}{E:bKN->bKQ->Prop}
end
section
variable {X:Cx}{o e f:Expr}{apos cpos:Pos}{td ty tx:TE}
end
section
variable {X:Cx}{pins:List (Addr×Obj)}{σ:St}{H:Hp}{s:bKQ}{a:Addr}{kvs:List (Key×V)}{A:bYr}{E:bKN->bKQ->Prop}
end
section
variable {X:Cx}{pins:List (Addr×Obj)}{σ:St}{H:Hp}{s:bKQ}{a:Addr}{y:V}{u:bKN}{A:bYr}{E:bKN->bKQ->Prop}
end
end L2
namespace L2
open PySem PySem.Spec PyProof.Rows
section
variable {κ:Type} [DecidableEq κ]
end
end L2
namespace Days
open PySem L2 PyProof.Rows
def aZa(x:Str):Stmt->Bool
 |.FunctionDef n _ _ _ _ _ _ _ _ _=>n==x
 |_=>false
def xF(x:Str):Stmt:=(PySem.Challenge.pw_letterdesk_k04_answers.main.body.find? (aZa x)).getD (.Pass ⟨0,0,0,0⟩)
abbrev aJC:Stmt:=xF "counts"
abbrev bJ2:Stmt:=xF "open_by_rest"
abbrev aXw:Stmt:=xF "closed_days"
abbrev aYy:Stmt:=xF "place_of"
theorem aW8:bYy "min"=some (.builtin "min"):=dk
theorem wP:bYy "sorted"=some (.builtin "sorted"):=dk
theorem bVQ:bYy "set"=some (.type "set"):=dk
structure vH(mg:Str->Option bKN):Prop where
 b_len:mg "len"=none
 b_min:mg "min"=none
 b_sum:mg "sum"=none
 b_sorted:mg "sorted"=none
 b_isinstance:mg "isinstance"=none
 b_int:mg "int"=none
 b_str:mg "str"=none
 b_bool:mg "bool"=none
 b_list:mg "list"=none
 b_tuple:mg "tuple"=none
 b_set:mg "set"=none
 b_range:mg "range"=none
 b_reversed:mg "reversed"=none
 week:∃t,mg "WEEK"=some (.int 7 t)
 opens:∃t,mg "OPEN_DAYS"=some (.int 5 t)
def aY7:Sp:=λa H Q _=>∃d,a= [.int d]/\Q (.bl (Dm.opn d)) H
def aY9:Sp:=λa H Q _=>∃d,a= [.int d]/\Q (.int (Dm.place d)) H
def aVx(K:bKP):Sp:=λe H Q _=>∃ (a:Nat)(b:List Int),e= [.ref a]/\SqL K H a (b.map V.int)/\b.length<64/\
 ∀ (r:Nat)(c:Hp)(C:List Int),xA H c->H r=none->C.Pairwise (·<·)->(∀d,d∈C↔d∈b/\Dm.opn d=true)->C.length<=b.length->c r=some (.lst (C.map V.int))->Q (.ref r) c
def aVz(K:bKP):Sp:=λc H Q _=>∃ (a:Nat)(b:List Int)(d:Int),c= [.ref a,.int d]/\SqL K H a (b.map V.int)/\Q (.bl (Dm.cts b d)) H
abbrev bKb:Stmt:=xF "due_day"
abbrev aYr:Stmt:=xF "day_at"
def aY3:Sp:=λa H Q _=>∃d,a= [.int d]/\Q (.int (Dm.zD d)) H
def bWx(K:bKP):Sp:=λe H Q _=>∃ (a:Nat)(b:List Int)(d t:Int),e= [.ref a,.int d,.int t]/\SqL K H a (b.map V.int)/\b.length<64/\1<=t/\∀ (c:Hp)(D:Int),xA H c->Dm.Due b d t D->Q (.int D) c
section
variable {K:bKP}
theorem bVf:yM ["date"] ["date"] (yH bJ2):=scM
theorem bJE(T:vH mg)(F:Fun K "open_by_rest" "open_by_rest" bJ2 f fd):y8 P w K mg base CX0 1 f fd ["date"] aY7:=by
 obtain⟨i,b⟩:=T.week;obtain⟨j,a⟩:=T.opens;have c:=bVf;refine F.ok (k:=0) c (λe A outer s H l Q E g h=>?_);obtain⟨d,rfl,q⟩:=h;refine⟨_,(yF (yP (zG vE (yV y0 (pv 0) (vZ (v:= .int 7) rfl b ⟨_,rfl⟩)) (vZ (v:= .int 5) rfl a ⟨_,rfl⟩)))),?_⟩;exact⟨_,rfl,_,_,rfl,rfl,(show(0:Int)<7 by decide),_,_,rfl,rfl,q⟩
theorem bXQ:yM ["date"] ["date"] (yH aYy):=scM
theorem bXh(T:vH mg)(F:Fun K "place_of" "place_of" aYy f fd):y8 P w K mg base CX0 1 f fd ["date"] aY9:=by
 obtain⟨j,b⟩:=T.week;obtain⟨l,a⟩:=T.opens;have c:=bXQ;refine F.ok (k:=0) c (λg A outer s H m Q E i h=>?_);obtain⟨d,rfl,q⟩:=h;refine⟨_,(yF (yP (yV x8 (yV aVf (yV Y2 (pv 0) (vZ (v:= .int 7) rfl b ⟨_,rfl⟩)) (vZ (v:= .int 5) rfl a ⟨_,rfl⟩)) (yU (aKb rfl) rfl T.b_min aW8 (yA (yV y0 (pv 0) (vZ (v:= .int 7) rfl b ⟨_,rfl⟩)) (yA (yV wT (vZ (v:= .int 5) rfl a ⟨_,rfl⟩) yE) yD)))))),?_⟩;refine⟨_,rfl,_,_,rfl,rfl,⟨by decide,by decide⟩,_,_,rfl,rfl,.inr ⟨by decide,by decide⟩,_,rfl,_,_,rfl,rfl,(show(0:Int)<7 by decide),_,_,rfl,rfl,_,_,rfl,_,_,rfl,rfl,?_⟩;have e:(if 5 - 1<d % 7 then 5 - 1 else d % 7:Int)=if 4<d % 7 then 4 else d % 7:=rfl;exact q
theorem aYL:yM ["shut","date"] ["shut","date"] (yH aJC):=scM
theorem uW(d:Int):∀ns:List Int,inV (.int d) (ns.map V.int)=ns.contains d
 |[]=>rfl
 |n::r=>by have a:=uW d r;unfold inV at a ⊢;rw[bYx,cQ2,a,cQ5];congr 1;show(n==d)=(d==n);rw[Bool.eq_iff_iff,beq_iff_eq,beq_iff_eq];exact eq_comm
theorem uJ:∀ns:List Int,(ns.map V.int).all Z7=true
 |[]=>rfl
 |n::r=>by rw[bYx,cXX,uJ r];rfl
theorem aK0(T:vH mg)(b:FnG P w K mg base 1 "open_by_rest" ["date"] aY7)(F:Fun K "counts" "counts" aJC f fd):y8 P w K mg base CX0 2 f fd ["shut","date"] (aVz K):=by
 have j:=aYL;refine F.ok (k:=1) j (λl A outer s H m Q E g h=>?_);obtain⟨a,e,d,rfl,i,q⟩:=h;refine⟨_,(yF (yP (aVj (xJ b g rfl (yA (pv 1) yD)) (aZu (zG Z1 (pv 1) (pv 0)))))),?_⟩;refine⟨_,rfl,d,rfl,_,rfl,?_⟩;unfold Dm.cts at q;cases c:Dm.opn d with
 |false=>rw[c]at q;exact q
 |true=>rw[c,Bool.true_and]at q;rw[if_pos rfl];refine⟨_,rfl,_,rfl,a,_,rfl,.inl i,rfl,uJ e,?_⟩;rw[if_pos rfl,uW];exact q
theorem aYK:yM ["shut"] ["shut"] (yH aXw):=scM
theorem aKD:xH ["shut"] (yH aXw) "date" [] [] {kind:= .function,names:= [(".0",.local),("date",.local),("open_by_rest",.globalImplicit)],isGenerator:=false,isCoroutine:=false,more:= [] }:=
 lcM
theorem Q2(p:Int->Bool):∀ns:List Int,((ns.map V.int).filter λv=>match v with|.int d=>p d|_=>false)=(ns.filter p).map V.int
 |[]=>rfl
 |n::r=>by have a:=Q2 p r;rw[bYx,List.filter_cons,List.filter_cons,a];show(if p n=true then _ else _)=_;split<;> rfl
theorem aKZ(T:vH mg)(c:FnG P w K mg base 1 "open_by_rest" ["date"] aY7)(F:Fun K "closed_days" "closed_days" aXw f fd):y8 P w K mg base CX0 2 f fd ["shut"] (aVx K):=by
 have U:=aYK;refine F.ok (k:=1) U (λW A outer s H vs Q E B h=>?_);obtain⟨a,z,rfl,C,M,q⟩:=h;refine⟨_,(yF (yP (aQm aKD rfl (xI (yU (aQP rfl) rfl T.b_sorted wP (yA (xT (bQq rfl) rfl T.b_set bVQ (yA (pv 0) yD)) yD))) (λ_ _ _ _ _=>(wM (x3 (xJ c B rfl (yA (pv 0) yD))))) (λ_ _ _ _ _=>(pv 0))))),?_⟩;refine⟨_,rfl,a,z,rfl,C,by omega,λl p hl I o e=>?_⟩;refine⟨l,p,rfl,yB,by omega,λr S j g J=>?_⟩;refine⟨r,rfl,⟨_,SqL.of yB⟩,λD n=>?_⟩;have m:S.Pairwise (·<·):=by
  have i:S.Nodup:=(g.nodup_iff).mpr I;have t:S.Pairwise (λa b=>a<=b/\a≠b):=J.and i;exact t.imp λ⟨Y,t⟩=>by omega
 have N:(S.map V.int).length<=bYd:=by rw[bKT,g.length_eq,bYm];omega
 refine aZj (λv=>match v with|.int d=>Dm.opn d|_=>false) id (SqL.of yB) n N ?_ ?_ ?_
 ·intro v x O R X hR;obtain⟨d,Z,rfl⟩:=bYQ.mp x;exact⟨_,rfl,d,rfl,_,rfl,hR⟩
 ·intro v x L O R X hR;exact⟨_,rfl,hR⟩
 ·rw[Q2,List.map_id];have u:=yG hl (bWt w l p);have y:=yG j (.lst (S.map V.int));have G:=yG n (.lst ((S.filter Dm.opn).map V.int));refine q D _ (S.filter Dm.opn) (u.trans (y.trans G)) ?_ (m.sublist cQL) ?_ ?_ yB
  ·exact(xA.trans u y).fresh n
  ·intro d;rw[bYP,g.mem_iff,e]
  ·have:=bYK Dm.opn S;rw[g.length_eq]at this;omega
theorem bXJ:yM ["place"] ["place"] (yH aYr):=scM
theorem bXa(T:vH mg)(F:Fun K "day_at" "day_at" aYr f fd):y8 P w K mg base CX0 1 f fd ["place"] aY3:=by
 obtain⟨i,b⟩:=T.week;obtain⟨j,a⟩:=T.opens;have c:=bXJ;refine F.ok (k:=0) c (λe A outer s H l Q E g h=>?_);obtain⟨d,rfl,q⟩:=h;refine⟨_,(yF (yP (yV x8 (yV aVf (yV Y2 (pv 0) (vZ (v:= .int 5) rfl a ⟨_,rfl⟩)) (vZ (v:= .int 7) rfl b ⟨_,rfl⟩)) (yV y0 (pv 0) (vZ (v:= .int 5) rfl a ⟨_,rfl⟩))))),?_⟩;exact⟨_,rfl,_,_,rfl,rfl,⟨by decide,by decide⟩,_,_,rfl,rfl,.inr ⟨by decide,by decide⟩,_,rfl,_,_,rfl,rfl,(show(0:Int)<5 by decide),_,_,rfl,rfl,q⟩
theorem bWp:yM ["shut","date","term","place","closed"] ["shut","date","term"] (yH bKb):=scM
theorem bQy(d p:Int)(C:List Int)(i:Nat)(c:Int)(h:C[i]? =some c):Dm.aXg d p (C.take (i+1))=Dm.uH d (Dm.aXg d p (C.take i)) c:=by
 unfold Dm.aXg;rw[bY0,h];show(C.take i++ [c]).foldl _ p=_;rw[cZV];rfl
theorem bV9(T:vH mg)(b:FnG P w K mg base 2 "closed_days" ["shut"] (aVx K))(j:FnG P w K mg base 2 "place_of" ["date"] aY9)(g:FnG P w K mg base 2 "day_at" ["place"] aY3) (F:Fun K "due_day" "due_day" bKb f fd):y8 P w K mg base CX0 3 f fd ["shut","date","term"] (bWx K):=by
 have R:=bWp;refine F.ok (k:=2) R (λU A outer s H X Q E p h=>?_);obtain⟨a,G,d,t,rfl,J,D,L,q⟩:=h;refine⟨_,(yC (yT (i:=3) (yV x8 (xJ j p rfl (yA (pv 1) yD)) (pv 2))) (yC (wE bYI rfl (xI (xJ b p rfl (yA (pv 0) yD))) (y9 (i:=4)) (yF (y6 (bXv vE aK9 (pv 1) (pv 4) (xJ g p rfl (yA (pv 3) yD))) (yF (yT (i:=3) (yV x8 (pv 3) yE))) yR))) (yF (yP (xJ g p rfl (yA (pv 3) yD)))))),?_⟩;refine⟨_,rfl,d,rfl,_,rfl,_,_,rfl,rfl,?_⟩;refine⟨_,rfl,a,G,rfl,J,D,λr N C S O I M hl n=>⟨r,rfl,⟨_,SqL.of n⟩,?_⟩⟩;refine zI (xs:=C.map V.int) (λi σ H=>∃cl,σ= [some (.ref a),some (.int d),some (.int t),some (.int (Dm.aXg d (Dm.place d+t) (C.take i))),cl]/\H=N) ?_ ?_ ?_ ?_
 ·exact⟨none,rfl,rfl⟩
 ·rintro i σ H W ⟨cl,rfl,rfl⟩;exact SqL.of n
 ·rintro i x σ H o ⟨cl,rfl,rfl⟩;rw[bK7]at o;cases y:C[i]? with
  |none=>rw[y]at o;cases o
  |some c=>
   rw[y]at o;cases o;have u:=bQy d (Dm.place d+t) C i c y;generalize Dm.aXg d (Dm.place d+t) (C.take i)=pl at u ⊢;dsimp only[yX];refine⟨_,rfl,_,rfl,_,_,rfl,rfl,_,rfl,?_⟩;refine qB (λv=>?_) (λv=>?_)
   ·have l:d<c:=of_decide_eq_true v;refine⟨_,rfl,pl,rfl,_,_,rfl,rfl,_,rfl,?_⟩;refine qB (λB=>?_) (λB=>?_)
    ·have m:c<=Dm.zD pl:=of_decide_eq_true B;refine⟨_,rfl,_,_,rfl,rfl,some (.int c),?_,rfl⟩;have e:Dm.uH d pl c=pl+1:=if_pos ⟨l,m⟩;rw[u,e];rfl
    ·have m:¬c<=Dm.zD pl:=of_decide_eq_false (Bool.eq_false_iff.mpr B);refine⟨some (.int c),?_,rfl⟩;have e:Dm.uH d pl c=pl:=if_neg λz=>m z.2;rw[u,e];rfl
   ·have l:¬d<c:=of_decide_eq_false (Bool.eq_false_iff.mpr v);refine⟨_,rfl,?_⟩;refine onF rfl ⟨some (.int c),?_,rfl⟩;have e:Dm.uH d pl c=pl:=if_neg λz=>l z.1;rw[u,e];rfl
 ·rintro σ H ⟨cl,rfl,rfl⟩;rw[bKT,bYR];exact⟨_,rfl,_,rfl,q _ _ S (Dm.bZr L I M)⟩
end
end Days
namespace Desk
open PySem L2 PyProof.Rows
open Bk (Row Rows)
structure PB(CB CL:Nat)(H:Hp)(ba la sa:Nat)(ls cs:List Nat)(R:Rows)(S:List Int):Prop where
 book:∃dx,H ba=some (.ins CB dx [("letters",.ref la),("shut",.ref sa)])
 lst:H la=some (.lst (ls.map V.ref))
 sht:H sa=some (.lst (S.map V.int))
 len:ls.length=R.length
 clen:cs.length=R.length
 nd:ls.Nodup
 cnd:cs.Nodup
 las:la≠sa
 lac:la∉cs
 sac:sa∉cs
 row:∀ (i:Nat)(b c:Nat)(r:Row),ls[i]? =some b->cs[i]? =some c->R[i]? =some r->aVN CL H b i r c/\H c=some (.lst (r.copies.map V.str))
theorem PB.get{j CL:Nat}{H:Hp}{k la sa:Nat}{ls cs:List Nat}{R:Rows}{S:List Int}(h:PB j CL H k la sa ls cs R S){i:Nat}{r:Row}(d:R[i]? =some r): ∃b c,(ls.map V.ref)[i]? =some (.ref b)/\ls[i]? =some b/\cs[i]? =some c/\aVN CL H b i r c/\H c=some (.lst (r.copies.map V.str)):=by
 have e:i<R.length:=Bk.wC d;have a:=bKM (show i<ls.length by rw[h.len];exact e);have f:=bKM (show i<cs.length by rw[h.clen];exact e);obtain⟨g,l⟩:=h.row i _ _ r a f d;exact⟨_,_,by rw[bK7,a];rfl,a,f,g,l⟩
theorem PB.sameT{a CL:Nat}{H f:Hp}{d la sa:Nat}{ls cs:List Nat}{R:Rows}{S:List Int}(h:PB a CL H d la sa ls cs R S)(k:x2 H f):PB a CL f d la sa ls cs R S:=
 ⟨let ⟨dx,e⟩:=h.book;⟨dx,k _ _ (λ_ z=>nomatch z) e⟩,k.lst h.lst,k.lst h.sht,h.len,h.clen,h.nd,h.cnd,h.las,h.lac,h.sac,λi b c r g l j=>
  let ⟨⟨dx,e1⟩,e2⟩:=h.row i b c r g l j;⟨⟨dx,k _ _ (λ_ z=>nomatch z) e1⟩,k.lst e2⟩⟩
theorem PB.same{a CL:Nat}{H c:Hp}{b la sa:Nat}{ls cs:List Nat}{R:Rows}{S:List Int}(h:PB a CL H b la sa ls cs R S)(k:xA H c):PB a CL c b la sa ls cs R S:=h.sameT k.t
def aW3(T:Nat)(H a:Hp):Prop:=x2 H a/\(Thr.z9 T H->Thr.z9 T a)
theorem aW3.of{T:Nat}{H a:Hp}(k:xA H a):aW3 T H a:=⟨k.t,λt=>by
 rcases t with t|⟨b,d,c⟩
 ·exact .inl (k _ _ t)
 ·exact .inr ⟨b,k _ _ d,k _ _ c⟩⟩
theorem aW3.trans{T:Nat}{H d c:Hp}(a:aW3 T H d)(b:aW3 T d c):aW3 T H c:=⟨a.1.trans b.1,λt=>b.2 (a.2 t)⟩
def xC(K:bKP)(Rf:Nat×Nat)(H:Hp)(E:XK)(t:Str):Prop:=∀ (C b:Nat)(a:Hp),vR K C->cXY K C (.ref Rf.1)=some true->aW3 Rf.2 H a->a b=some (.xd [("words",.str t)])->E (.ref C) (some b) a
theorem xC.go{K:bKP}{Rf:Nat×Nat}{H:Hp}{E:XK}{t:Str}(h:xC K Rf H E t){b:Hp}(k:aW3 Rf.2 H b):xC K Rf b E t:=λC f a c m d e=>h C f a c m (k.trans d) e
theorem xC.raise{P:bK9}{w:bYf}{K:bKP}{mg:Str->Option bKN}{base:Heap}{k:Nat}{x:Str}{Rf:Nat×Nat}{C:Nat}{H:Hp}{E:XK}{t:Str}(h:xC K Rf H E t)(G:ExG P w K mg base k x Rf.1 C t){D:aW1}{σ:L2.St}:bZJ C t E D σ H:=
 λa b=>h C a _ G.cl G.sub (aW3.of (yG b _)) yB
def aY0(K:bKP)(Rf:Nat×Nat)(d CL:Nat):Sp:=λg H Q E=>∃ (c h e:Nat)(a f:List Nat)(R:Rows)(S:List Int)(m:Int),g= [.ref c,.int m]/\PB d CL H c h e a f R S/\
 (∀ (k:Nat)(r:Row)(b:Nat),m=(k:Int)->R[k]? =some r->r.void=false->a[k]? =some b->Q (.ref b) H)/\(Bk.zZ R m=false->xC K Rf H E "no letter")
def aJS(f CL:Nat):Sp:=λd H Q _=>∃ (c h e:Nat)(a g:List Nat)(R:Rows)(S:List Int)(i:Nat)(b:Nat),d= [.ref c,.ref b]/\PB f CL H c h e a g R S/\a[i]? =some b/\R.length<=100/\
 ∀l,H l=none->Q (.ref l) (upd H l (.lst ((Bk.zU R i).map λk=>(a.map V.ref).getD k .non)))
def aVy(K:bKP)(Rf:Nat×Nat)(b CL:Nat):Sp:=λf H Q E=>∃ (a g d:Nat)(c e:List Nat)(R:Rows)(S:List Int)(m:Int),f= [.ref a,.int m]/\PB b CL H a g d c e R S/\
 (∀ (k:Nat)(r:Row)(l:Nat),m=(k:Int)->R[k]? =some r->r.void=false->H l=none->Q (.ref l) (upd H l (.lst (r.copies.map V.str))))/\(Bk.zZ R m=false->xC K Rf H E "no letter")
def aZN(K:bKP)(Rf:Nat×Nat)(b CL:Nat):Sp:=λf H Q E=>∃ (a g d:Nat)(c e:List Nat)(R:Rows)(S:List Int)(m:Int),f= [.ref a,.int m]/\PB b CL H a g d c e R S/\
 (∀ (k:Nat)(r:Row)(l:Nat),m=(k:Int)->R[k]? =some r->r.void=false->H l=none->Q (.ref l) (upd H l (.tup (stV r))))/\(Bk.zZ R m=false->xC K Rf H E "no letter")
section
variable {K:bKP}
abbrev aQr:Stmt:=xB "Book" "letter_at"
abbrev aVq:Stmt:=xB "Book" "answers_to"
abbrev aQq:Stmt:=xB "Book" "copies_of"
abbrev aXB:Stmt:=xB "Book" "state_of"
theorem bKe:yM ["self","number"] ["self","number"] (yH aQr):=scM
theorem bQF{R:Rows}{m:Int}(h:m<0):Bk.zZ R m=false:=by
 unfold Bk.zZ;rw[decide_eq_false (by omega),Bool.false_and]
theorem bQE{R:Rows}{m:Int}(h:(R.length:Int)<=m):Bk.zZ R m=false:=by
 unfold Bk.zZ;rw[bYl (by omega)];simp
theorem aX8{R:Rows}{k:Nat}{r:Row}(h:R[k]? =some r):Bk.zZ R (k:Int)= !r.void:=by
 unfold Bk.zZ;rw[bYq,h];simp
theorem bW4(T:vH mg)(cl:Cl K CB CL)(a:ExG P w K mg base n "NoLetter" Rf.1 C1 "no letter")(F:Fun K "letter_at" "Book.letter_at" aQr f fd):y8 P w K mg base (CXR P w) (n+2) f fd ["self","number"] (aY0 K Rf CB CL):=by
 have C:=bKe;refine F.okX (k:=n+1) C (λD A outer s H U Q E v h=>?_);obtain⟨j,p,I,x,J,R,S,m,rfl,e,q,i⟩:=h;refine⟨_,(yC (y6 (PW.pt (Z9 (yN vE (pv 1) yE) (Z9 (yN bW5 (pv 1) (yU yQ rfl T.b_len xD (yA (yZ (pv 0) rfl) yD))) (jL (x3 (yZ (yL yK (yZ (pv 0) rfl) (pv 1)) rfl)))))) (yF (zO a v rfl)) yR) (yF (yP (yL yK (yZ (pv 0) rfl) (pv 1))))),?_⟩;obtain⟨r,o⟩:=e.book;have hl:(x.map V.ref).length=R.length:=by rw[bKT];exact e.len
 refine⟨_,rfl,_,_,rfl,rfl,_,rfl,?_⟩;refine qB (λc=>?_) (λc=>?_)
 ·exact onT rfl ((i (bQF (of_decide_eq_true c))).raise a)
 ·have L:¬m<0:=of_decide_eq_false (Bool.eq_false_iff.mpr c);refine⟨_,rfl,_,rfl,j,CB,r,_,_,rfl,o,cl.b,cl.letters,rfl,p,_,rfl,.inl (SqL.of e.lst),_,_,rfl,rfl,_,rfl,?_⟩;rw[hl];refine qB (λc=>?_) (λc=>?_)
  ·exact onT rfl ((i (bQE (of_decide_eq_true c))).raise a)
  ·have G:¬m≥(R.length:Nat):=of_decide_eq_false (Bool.eq_false_iff.mpr c);obtain⟨k,rfl⟩:∃k:Nat,m=(k:Int):=⟨m.toNat,by omega⟩;have z:k<R.length:=by omega
   have d:=bKM z;obtain⟨b,N,t,y,O,⟨g,B⟩,M⟩:=e.get d;refine⟨_,rfl,j,CB,r,_,_,rfl,o,cl.b,cl.letters,rfl,_,rfl,p,_,_,_,rfl,rfl,SqL.of e.lst,yS t,b,CL,g,_,_,rfl,B,cl.l,cl.void,rfl,_,rfl,?_⟩;cases u:R[k].void with
   |true=>exact onT rfl ((i (by rw[aX8 d,u];rfl)).raise a)
   |false=>exact onF rfl ⟨_,rfl,j,CB,r,_,_,rfl,o,cl.b,cl.letters,rfl,_,rfl,p,_,_,_,rfl,rfl,SqL.of e.lst,yS t,q k _ b rfl d u y⟩
theorem aWa{K:bKP}{a:Nat}{xs:List V}{n:List Nat}{j:TT}{r:TE}{σ:L2.St}{D:Nat}{Q:VK}{H:Hp}(p:Nat->Bool)(f:Nat->V)(hl:SqL K H a xs)(t:H D=none)(hz:xs.length<=bYd) (z:∀i v,xs[i]? =some v->∀ (c:Hp)(R:Bool->Hp->Prop),(∀b,b≠D->c b=H b)->R (p i) c->j (sub σ n (some v)) c R) (x:∀i v,xs[i]? =some v->p i=true->∀ (c:Hp)(R:VK),(∀b,b≠D->c b=H b)->R (f i) c->r (sub σ n (some v)) c R) (w:Q (.ref D) (upd H D (.lst (((bK0 xs.length).filter p).map f)))):bVA (Itl K a) n j r σ D Q (upd H D (.lst [])):=by
 have d:∀g,SqL K (upd H D (.lst g)) a xs:=λg=>by
  rcases hl with(h|⟨o,h⟩)|h
  ·exact .inl (.inl (by rw[yI (yJ h t)];exact h))
  ·exact .inl (.inr ⟨o,by rw[yI (yJ h t)];exact h⟩)
  ·exact .inr h
 refine⟨λi m g c=>m=xs.length - i/\i<=xs.length/\g=((bK0 i).filter p).map f/\c=upd H D (.lst g),⟨xs.length,by simp,bYJ _,by simp,rfl⟩,?_⟩;rintro i m g c ⟨rfl,C,rfl,rfl⟩;refine⟨yB,?_⟩;by_cases e:i<xs.length
 ·refine .inr ⟨⟨xs,xs[i],d _,bKM e⟩,λv F A=>?_⟩;obtain⟨rfl,y⟩:=A;have s:xs[i]? =some v:=y xs (d _);have k:∀b,b≠D->upd H D (.lst (((bK0 i).filter p).map f)) b=H b:=λb B=>yI B;have l:(((bK0 i).filter p).map f).length<bYd:=by
   rw[bKT];have u:=bYK p (bK0 i);rw[bYD]at u;omega
  refine z i v s _ _ k ?_;cases q:p i with
  |false=>show ∃E,_;refine⟨xs.length - (i+1),by omega,rfl,e,?_,rfl⟩;rw[cQ9,bYV,cQr (by rw[q];decide)];simp
  |true=>show r _ _ _;refine x i v s q _ _ k ⟨l,yB,xs.length - (i+1),by omega,rfl,e,?_,by rw[uR]⟩;rw[cQ9,bYV,cQs q];simp
 ·obtain rfl:i=xs.length:=by omega
  exact .inl ⟨⟨xs,d _,bKU _⟩,w⟩
theorem bXF:yM ["self","letter"] ["self","letter"] (yH aVq):=scM
theorem bQP:xH ["self","letter"] (yH aVq) "other" ["letter"] [1] {kind:= .function,names:= [(".0",.local),("other",.local),("letter",.free)],isGenerator:=false,isCoroutine:=false,more:= [] }:=
 lcM
theorem bQ6(cl:Cl K CB CL)(a:MG P w K mg base CX0 n CL "is_answered_by" ["self","other"] (aYZ CL))(F:Fun K "answers_to" "Book.answers_to" aVq f fd):y8 P w K mg base CX0 (n+1) f fd ["self","letter"] (aJS CB CL):=by
 have O:=bXF;refine F.ok (k:=n) O (λX A outer s H vs Q E C h=>?_);obtain⟨L,T,Z,t,cs,R,S,i,b,rfl,d,x,hR,q⟩:=h;refine⟨_,(yF (yP (aQm bQP rfl (xI (yZ (pv 0) rfl)) (λ_ _ _ _ _=>(wM (x3 (vN a C vM (pv 1) (yA (pv 0) yD))))) (λ_ _ _ _ _=>(pv 0))))),?_⟩;obtain⟨W,N⟩:=d.book;have hl:(t.map V.ref).length=R.length:=by rw[bKT];exact d.len
 have r:i<R.length:=by rw[<- d.len];exact(bKZ.mp x).1
 obtain⟨B,cc,Y,J,g3,⟨e,m⟩,g5⟩:=d.get (bKM r);obtain rfl:b=B:=bK8 (x.symm.trans J);refine⟨_,rfl,L,CB,W,_,_,rfl,N,cl.b,cl.letters,rfl,T,rfl,⟨_,SqL.of d.lst⟩,λD l=>?_⟩;refine aWa (λk=>decide (Bk.lk R k=some i)) (λk=>(t.map V.ref).getD k .non) (SqL.of d.lst) l (zn (by omega)) (λj v o M I p c=>?_) (λj v o _ M I p c=>?_) ?_
 ·have G:j<R.length:=by rw[<- hl];exact(bKZ.mp o).1
  have g:=bKM G;obtain⟨z,c2,U,k2,k3,⟨u,y⟩,k5⟩:=d.get g;obtain rfl:v= .ref z:=bK8 (o.symm.trans U);rw[Bk.vY g]at c;exact⟨_,rfl,b,e,_,rfl,(p _ (yJ m l)).trans m,rfl,_,rfl,b,z,i,j,_,_,_,_,rfl,⟨e,(p _ (yJ m l)).trans m⟩,⟨u,(p _ (yJ y l)).trans y⟩,_,rfl,c⟩
 ·have:(t.map V.ref).getD j .non=v:=by simp only[bYz,o];rfl
  rw[this]at c;exact⟨_,rfl,c⟩
 ·rw[hl];exact q D l
theorem aJL:yM ["self","number"] ["self","number"] (yH aQq):=scM
theorem aJm(T:vH mg)(cl:Cl K CB CL)(a:MG P w K mg base (CXR P w) n CB "letter_at" ["self","number"] (aY0 K Rf CB CL))(F:Fun K "copies_of" "Book.copies_of" aQq f fd):y8 P w K mg base (CXR P w) (n+1) f fd ["self","number"] (aVy K Rf CB CL):=by
 have G:=aJL;refine F.okX (k:=n) G (λM A outer s H U Q E o h=>?_);obtain⟨g,I,t,p,u,R,S,m,rfl,d,q,y⟩:=h;refine⟨_,(yF (yP (xT vA rfl T.b_list vC (yA (yZ (vN a o zL (pv 0) (yA (pv 1) yD)) rfl) yD)))),?_⟩;obtain⟨L,D⟩:=d.book;refine⟨_,rfl,g,L,_,rfl,D,rfl,_,rfl,g,I,t,p,u,R,S,m,rfl,d,λk r b v i J e=>?_,y⟩;obtain⟨j,z,N,B,O,⟨c,C⟩,x⟩:=d.get i;obtain rfl:b=j:=bK8 (e.symm.trans B);refine⟨b,CL,c,_,_,rfl,C,cl.l,cl.copies,rfl,?_⟩;exact⟨z,_,rfl,.inl (SqL.of x),λl hl=>q k r l v i J hl⟩
theorem aWQ:yM ["self","number"] ["self","number"] (yH aXB):=scM
theorem aWw(cl:Cl K CB CL)(a:MG P w K mg base (CXR P w) n CB "letter_at" ["self","number"] (aY0 K Rf CB CL))(c:MG P w K mg base CX0 n CL "state" ["self"] (aJV CL))(F:Fun K "state_of" "Book.state_of" aXB f fd): y8 P w K mg base (CXR P w) (n+1) f fd ["self","number"] (aZN K Rf CB CL):=by
 have I:=aWQ;refine F.okX (k:=n) I (λN A outer s H V Q E i h=>?_);obtain⟨j,J,v,u,x,R,S,m,rfl,e,q,B⟩:=h;refine⟨_,(yF (yP (bXs c i vM (vN a i zL (pv 0) (yA (pv 1) yD))))),?_⟩;obtain⟨M,G⟩:=e.book;refine⟨_,rfl,j,M,_,rfl,G,rfl,_,rfl,j,J,v,u,x,R,S,m,rfl,e,λk r b z l L g=>?_,B⟩;obtain⟨p,C,O,D,U,⟨d,o⟩,T⟩:=e.get l;obtain rfl:b=p:=bK8 (g.symm.trans D);exact⟨b,d,_,rfl,o,rfl,b,k,r,C,rfl,⟨d,o⟩,λt y=>q k r t z l L y⟩
end
end Desk
namespace Desk
open PySem L2 PyProof.Rows
open Bk (Row Rows)
open Law (aW2 jI qO bXp aQ5 aQK)
def X5(R:Rows)(w:Str):List Nat:=(bK0 R.length).filter λk=>match R[k]? with|some r=> !r.void && decide (r.place=w)|none=>false
def aQG(d CL:Nat):Sp:=λb H Q _=>∃ (a g c:Nat)(e f:List Nat)(R:Rows)(S:List Int)(w:Str),b= [.ref a,.str w]/\PB d CL H a g c e f R S/\R.length<64/\
 ∀l,H l=none->Q (.ref l) (upd H l (.lst ((X5 R w).map λi=>V.int (i:Nat))))
def bZV(R:Rows)(n:Nat)(d:Int)(a:List (Key×V)):Prop:=∀j:Nat,(J8 a (Sum.inl (j:Int))).isSome=true↔∃k,k<n/\Bk.lk R k=some j/\Bk.dt R k<=d
def aQ8(h CL:Nat):Sp:=λf H Q _=>∃ (e k g:Nat)(i j:List Nat)(R:Rows)(S:List Int)(d:Int),f= [.ref e,.int d]/\PB h CL H e k g i j R S/\R.length<64/\
 ∀ (a:Nat)(c:Hp)(b:List (Key×V)),xA H c->H a=none->c a=some (.dK b)->bZV R R.length d b->Q (.ref a) c
def aJU(h CL:Nat):Sp:=λf H Q _=>∃ (e k g:Nat)(i j:List Nat)(R:Rows)(S:List Int)(d:Int),f= [.ref e,.int d]/\PB h CL H e k g i j R S/\R.length<64/\S.length<64/\
 ∀ (l:Nat)(a:Hp)(c:List Nat)(b:List V),xA H a->H l=none->a l=some (.lst b)->bYH (aW2 a (jI R S)) c b->Bk.bZk R S d false c->Q (.ref l) a
def bWM(f CL:Nat)(a:Bool):Sp:=λk H Q _=>∃ (e m h:Nat)(g j:List Nat)(R:Rows)(S:List Int)(d:Int),k= [.ref e,.int d]/\PB f CL H e m h g j R S/\R.length<64/\S.length<64/\
 ∀ (l:Nat)(b:Hp)(c:List Nat),xA H b->H l=none->b l=some (.lst (c.map λi=>V.int (i:Nat)))->Bk.bZk R S d a c->Q (.ref l) b
theorem aQk{X:Cx}{K:bKP}{e:Expr}{f:Str}{pos:Pos}{a:TE}(b:PE X e a)(d:cXy e f X.env (eval e X.env)=eval e X.env)(c:X.K=K:=by rfl):PE X (.Attribute e f pos) (bKp K a f):=c ▸ yZ b d
section
variable {K:bKP}
abbrev jB:Stmt:=xB "Book" "letters_in"
abbrev aQp:Stmt:=xB "Book" "answered_by"
abbrev aYx:Stmt:=xB "Book" "waiting_pairs"
abbrev W9:Stmt:=xB "Book" "waiting"
abbrev W8:Stmt:=xB "Book" "overdue"
theorem aZF:yM ["self","name"] ["self","name"] (yH jB):=scM
theorem aZi:xH ["self","name"] (yH jB) "letter" ["name"] [1] {kind:= .function,names:= [(".0",.local),("letter",.local),("name",.free)],isGenerator:=false,isCoroutine:=false,more:= [] }:=
 lcM
theorem bZ8{r:Row}{w:Str}:decide (qX r=V.str w)=(!r.void && decide (r.place=w)):=by
 unfold qX;cases r.void with
 |true=>rfl
 |false=>show decide (V.str r.place=V.str w)=(true && decide (r.place=w));rw[Bool.true_and,Bool.eq_iff_iff];simp
theorem aZr(cl:Cl K CB CL)(F:Fun K "letters_in" "Book.letters_in" jB f fd):y8 P w K mg base CX0 (n+1) f fd ["self","name"] (aQG CB CL):=by
 have L:=aZF;refine F.ok (k:=n) L (λT A outer s H Y Q E U h=>?_);obtain⟨C,M,W,x,X,R,S,w,rfl,d,hR,q⟩:=h;refine⟨_,(yF (yP (aQm aZi rfl (xI (yZ (pv 0) rfl)) (λ_ _ _ _ _=>(wM (yN x5 (aQk (K:=K) (pv 0) rfl) (pv 1)))) (λ_ _ _ _ _=>(aQk (K:=K) (pv 0) rfl))))),?_⟩;obtain⟨N,J⟩:=d.book;have hl:(x.map V.ref).length=R.length:=by rw[bKT];exact d.len
 refine⟨_,rfl,C,CB,N,_,_,rfl,J,cl.b,cl.letters,rfl,M,rfl,⟨_,SqL.of d.lst⟩,λD o=>?_⟩;refine aWa (λk=>match R[k]? with|some r=> !r.void && decide (r.place=w)|none=>false) (λk=>V.int (k:Nat)) (SqL.of d.lst) o (zn (by omega)) (λj v m G B u a=>?_) (λj v m _ G B u a=>?_) ?_
 ·have p:j<R.length:=by rw[<- hl];exact(bKZ.mp m).1
  have g:=bKM p;obtain⟨i,y,t,O,z,⟨c,e⟩,I⟩:=d.get g;obtain rfl:v= .ref i:=bK8 (m.symm.trans t);rw[g]at a;dsimp only at a;rw[<- bZ8]at a;refine⟨_,rfl,i,CL,c,_,_,rfl,(u _ (yJ e o)).trans e,cl.l,cl.file,rfl,_,rfl,?_,_,rfl,a⟩;unfold qX;cases R[j].void<;> rfl
 ·have p:j<R.length:=by rw[<- hl];exact(bKZ.mp m).1
  obtain⟨i,y,t,O,z,⟨c,e⟩,I⟩:=d.get (bKM p);obtain rfl:v= .ref i:=bK8 (m.symm.trans t);exact⟨_,rfl,i,CL,c,_,_,rfl,(u _ (yJ e o)).trans e,cl.l,cl.number,rfl,a⟩
 ·rw[hl];exact q D o
theorem aJK:yM ["self","day","answered","letter"] ["self","day"] (yH aQp):=scM
theorem aXU{R:Rows}{t:Nat}{d:Int}{a:List (Key×V)}(h:bZV R t d a)(g:∀j,Bk.lk R t=some j->¬Bk.dt R t<=d):bZV R (t+1) d a:=λj=>by
 rw[h j];constructor
 ·rintro⟨k,f,b⟩;exact⟨k,by omega,b⟩
 ·rintro⟨k,f,b,c⟩;by_cases e:k=t
  ·subst e;exact absurd c (g j b)
  ·exact⟨k,by omega,b,c⟩
theorem bQo{R:Rows}{t:Nat}{d:Int}{b:List (Key×V)}(h:bZV R t d b){i:Nat}(hl:Bk.lk R t=some i)(f:Bk.dt R t<=d){v:V}:bZV R (t+1) d (aJw b (Sum.inl (i:Int)) v):=λj=>by
 rw[bZf];by_cases e:j=i
 ·subst e;rw[if_pos rfl];exact⟨λ_=>⟨t,by omega,hl,f⟩,λ_=>rfl⟩
 ·rw[if_neg (λz=>e (by have:=Sum.inl.inj z;omega)),h j];constructor
  ·rintro⟨k,c,a⟩;exact⟨k,by omega,a⟩
  ·rintro⟨k,c,a,g⟩;by_cases l:k=t
   ·subst l;rw[hl]at a;exact absurd (bK8 a).symm e
   ·exact⟨k,by omega,a,g⟩
theorem aJl(cl:Cl K CB CL)(F:Fun K "answered_by" "Book.answered_by" aQp f fd):y8 P w K mg base CX0 (n+1) f fd ["self","day"] (aQ8 CB CL):=by
 have sc:=aJK;refine F.ok (k:=n) sc (λa0 A outer s H vs Q E X h=>?_);obtain⟨U,la,sa,M,cs,R,S,d,rfl,B,hR,q⟩:=h;refine⟨_,(yC (yT (i:=2) bXr) (yC (wE bYI rfl (xI (yZ (pv 0) rfl)) (y9 (i:=3)) (yF (y6 (PW.pt (vP (yN wG (yZ (pv 3) rfl) x9) (wU (yN aK9 (yZ (pv 3) rfl) (pv 1))))) (yF (bJP (bVX X) (pv 2) (yZ (pv 3) rfl) qL rfl)) yR))) (yF (yP (pv 2))))),?_⟩;obtain⟨dx,Z⟩:=B.book;have hl:(M.map V.ref).length=R.length:=by rw[bKT];exact B.len
 intro a I;dsimp only[yX];have L:=yG I (.dK []);refine⟨_,rfl,U,CB,dx,_,_,rfl,L _ _ Z,cl.b,cl.letters,rfl,la,rfl,⟨_,SqL.of (L _ _ B.lst)⟩,?_⟩;refine zI (xs:=M.map V.ref) (λt σ v=>∃ (e:List (Key×V))(o:Option V),σ= [some (.ref U),some (.int d),some (.ref a),o]/\xA H v/\v a=some (.dK e)/\e.length<=t/\bZV R t d e) ?_ ?_ ?_ ?_
 ·exact⟨[],none,rfl,L,yB,bYJ _,λj=>⟨λz=>(by cases z),λ⟨k,z,_⟩=>absurd z (cQw _)⟩⟩
 ·rintro t σ v O ⟨e,o,rfl,g,y,N,m⟩;exact SqL.of (g _ _ B.lst)
 ·rintro t x σ v W ⟨e,o,rfl,g,y,N,m⟩;have O:t<R.length:=by rw[<- hl];exact(bKZ.mp W).1
  have r:=bKM O;obtain⟨b,c,Y,g2,g3,⟨p,J⟩,g5⟩:=(B.same g).get r;obtain rfl:x= .ref b:=bK8 (W.symm.trans Y);dsimp only[yX];refine⟨_,rfl,b,CL,p,_,_,rfl,J,cl.l,cl.link,rfl,rfl,_,rfl,?_⟩;have C:=Bk.vY r;have D:=Bk.wY r;cases u:R[t].link with
  |none=>exact onF rfl (onF rfl ⟨e,_,rfl,g,y,by omega,aXU m λj G=>by rw[C,u]at G;cases G⟩)
  |some i=>
   refine onT rfl ⟨_,rfl,b,CL,p,_,_,rfl,J,cl.l,cl.day,rfl,_,rfl,_,_,rfl,rfl,_,rfl,?_⟩;cases T:decide (R[t].date<=d)with
   |false=>exact onF rfl ⟨e,_,rfl,g,y,by omega,aXU m λj G=>by rw[D];exact of_decide_eq_false T⟩
   |true=>refine onT rfl ⟨_,rfl,_,rfl,b,CL,p,_,_,rfl,J,cl.l,cl.link,rfl,a,upd v a (.dK (aJw e (Sum.inl (i:Int)) (.bl true))),rfl,?_⟩;rw[u];refine⟨bVF.k (k:=Sum.inl (i:Int)) y (by rw[bYm];omega),_,_,rfl,?_,yB,bYo (jO _ _ _) (by omega),bQo m (by rw[C,u]) (by rw[D];exact of_decide_eq_true T)⟩;exact aQK g I
 ·rintro σ v ⟨e,o,rfl,g,y,N,m⟩;rw[hl]at m;exact⟨_,rfl,q a v e g I y m⟩
theorem bZg{R:Rows}{i:Nat}{r:Row}{d:Int}{a:List (Key×V)}(g:R[i]? =some r)(j:bZV R R.length d a): Bk.W1 R i d=(decide (W0 r > 0) && (decide (r.date<=d) && !(J8 a (Sum.inl (i:Int))).isSome)):=by
 have l:((Bk.zU R i).all λk=>decide (d<Bk.dt R k))= !(J8 a (Sum.inl (i:Int))).isSome:=by
  rw[Bool.eq_iff_iff,cXS,Bool.not_eq_true',Bool.eq_false_iff,ne_eq,j i];constructor
  ·rintro h ⟨k,b,c,m⟩;have:=of_decide_eq_true (h k (bYP.mpr ⟨bYj.mpr b,decide_eq_true c⟩));omega
  ·intro h k f;obtain⟨b,c⟩:=bYP.mp f;refine decide_eq_true ?_;by_cases z:Bk.dt R k<=d
   ·exact absurd ⟨k,bYj.mp b,of_decide_eq_true c,z⟩ h
   ·omega
 unfold Bk.W1;rw[g];dsimp only;rw[l];unfold W0;cases r.void with
 |true=>rfl
 |false=>
  rw[if_neg (by decide)];have e:decide (1<=r.term)=decide (r.term > 0):=by rw[Bool.eq_iff_iff];simp;omega
  rw[e];simp[Bool.and_assoc]
theorem bXP:yM ["self","day","answered","pairs","letter"] ["self","day"] (yH aYx):=scM
theorem bXg(T:vH mg)(cl:Cl K CB CL)(j:MG P w K mg base CX0 n CB "answered_by" ["self","day"] (aQ8 CB CL))(r:FnG P w K mg base n "due_day" ["shut","date","term"] (Days.bWx K)) (F:Fun K "waiting_pairs" "Book.waiting_pairs" aYx f fd):y8 P w K mg base CX0 (n+1) f fd ["self","day"] (aJU CB CL):=by
 have sc:=bXP;refine F.ok (k:=n) sc (λc2 A outer s H vs Q E hr h=>?_);obtain⟨W,la,sa,ls,cs,R,S,d,rfl,hB,hR,hS,q⟩:=h;refine⟨_,(yC (yT (i:=2) (vN j hr vM (pv 0) (yA (pv 1) yD))) (yC (yT (i:=3) (y3 yD)) (yC (wE bYI rfl (xI (yZ (pv 0) rfl)) (y9 (i:=4)) (yF (y6 (PW.pt (vP (yN aQV (yZ (pv 4) rfl) yE) (vP (yN aK9 (yZ (pv 4) rfl) (pv 1)) (wU (bWi (aYc (bVX hr) (yZ (pv 4) rfl) (pv 2))))))) (yF (yY (uF bYn bYt bYu xG (pv 3) (yA (xL (yA (xJ r hr rfl (yA (yZ (pv 0) rfl) (yA (yZ (pv 4) rfl) (yA (yZ (pv 4) rfl) yD)))) (yA (yZ (pv 4) rfl) yD))) yD)))) yR))) (yF (yP (yU uA rfl T.b_sorted wP (yA (pv 3) yD))))))),?_⟩;obtain⟨dx,hb⟩:=hB.book;have hl:(ls.map V.ref).length=R.length:=by rw[bKT];exact hB.len
 refine⟨_,rfl,W,dx,_,rfl,hb,rfl,_,rfl,W,la,sa,ls,cs,R,S,d,rfl,hB,hR,λa H0 b8 k0 c3 a8 hA=>?_⟩;dsimp only[yX];refine⟨z0,λJ I=>?_⟩;dsimp only[yX];have k1:xA H (upd H0 J (.lst [])):=k0.trans (yG I _);have c0:H J=none:=k0.fresh I;refine⟨_,rfl,W,CB,dx,_,_,rfl,k1 _ _ hb,cl.b,cl.letters,rfl,la,rfl,⟨_,SqL.of (k1 _ _ hB.lst)⟩,?_⟩;have c1:a≠J:=yJ a8 I;refine zI (xs:=ls.map V.ref) (λt σ B=>∃ (g:List V)(o:Option V),σ= [some (.ref W),some (.int d),some (.ref a),some (.ref J),o]/\xA H0 B/\B J=some (.lst g)/\
  bYH (aW2 B (jI R S)) ((bK0 t).filter (qO R S d false)) g) ?_ ?_ ?_ ?_
 ·exact⟨[],none,rfl,yG I _,yB,.nil⟩
 ·rintro t σ B ht ⟨g,o,rfl,O,M,L⟩;exact SqL.of (O _ _ (k0 _ _ hB.lst))
 ·rintro t x σ B hx ⟨g,o,rfl,O,M,L⟩;have ht:t<R.length:=by rw[<- hl];exact(bKZ.mp hx).1
  have N:=bKM ht;have X:=(hB.same k0).same O;obtain⟨b3,b4⟩:=X.book;obtain⟨b,c,g1,g2,g3,⟨v,g4⟩,g5⟩:=X.get N;obtain rfl:x= .ref b:=bK8 (hx.symm.trans g1);rw[cQ9,bYV];dsimp only[yX];have hw:=bZg N hA;have u:qO R S d false t=Bk.W1 R t d:=by unfold qO;simp
  have stay:∀o',qO R S d false t=false->∃ (g:List V)(p:Option V),[some (V.ref W),some (V.int d),some (V.ref a),some (V.ref J),o']= [some (.ref W),some (.int d),some (.ref a),some (.ref J),p]/\xA H0 B/\B J=some (.lst g)/\
    bYH (aW2 B (jI R S)) ((bK0 t).filter (qO R S d false)++ [t].filter (qO R S d false)) g:=λo' e=>by
   have e3: [t].filter (qO R S d false)= []:=by simp[e]
   rw[e3,bYY]
   exact⟨g,o',rfl,O,M,L⟩
  refine⟨_,rfl,b,CL,v,_,_,rfl,g4,cl.l,cl.term,rfl,_,_,rfl,rfl,_,rfl,?_⟩;cases h1:decide (W0 R[t] > 0)with
  |false=>exact onF rfl (onF rfl (stay _ (by rw[u,hw,h1];rfl)))
  |true=>
   refine onT rfl ⟨_,rfl,b,CL,v,_,_,rfl,g4,cl.l,cl.day,rfl,_,rfl,_,_,rfl,rfl,_,rfl,?_⟩;cases h2:decide (R[t].date<=d)with
   |false=>exact onF rfl (onF rfl (stay _ (by rw[u,hw,h1,h2];rfl)))
   |true=>
    refine onT rfl ⟨_,rfl,b,CL,v,_,_,rfl,g4,cl.l,cl.number,rfl,_,rfl,a,_,rfl,bVE.k (k:=Sum.inl (t:Int)) (O _ _ a8),_,rfl,?_⟩;cases h3:(J8 b8 (Sum.inl (t:Int))).isSome with
    |true=>exact onF rfl (stay _ (by rw[u,hw,h1,h2,h3];rfl))
    |false=>
     have a6:Bk.W1 R t d=true:=by rw[hw,h1,h2,h3];rfl
     have b6:=Law.aXb ht a6;have hv:R[t].void=false:=by
      cases hv:R[t].void with
      |false=>rfl
      |true=>have:=of_decide_eq_true h1;unfold W0 at this;rw[hv]at this;simp at this
     have a0:W0 R[t]=R[t].term:=by unfold W0;rw[hv];rfl
     refine onT rfl ⟨_,rfl,.inl ⟨rfl,_,SqL.of M⟩,_,rfl,W,CB,b3,_,_,rfl,b4,cl.b,cl.shut,rfl,_,rfl,b,CL,v,_,_,rfl,g4,cl.l,cl.day,rfl,_,rfl,b,CL,v,_,_,rfl,g4,cl.l,cl.term,rfl,?_⟩;refine⟨sa,S,_,_,rfl,SqL.of X.sht,hS,by rw[a0];exact b6,λH2 D U hD=>?_⟩;have eD:D=jI R S t:=by unfold jI;rw[N,Bk.wY N];rw[a0]at hD;exact(Bk.bZq hD).symm
     subst eD;refine⟨_,rfl,b,CL,v,_,_,rfl,U _ _ g4,cl.l,cl.number,rfl,z2,λZ b1=>?_⟩;have b5:=U _ _ M;have k5:=yG b1 (.tup [V.int (jI R S t),V.int (t:Nat)]);have a5:=k5 _ _ b5;have il:g.length<=t:=by rw[<- L.length];exact bYo (bYK _ _) (by simp)
     have t6:∀a xs,upd H2 Z (.tup [V.int (jI R S t),V.int (t:Nat)]) a=some (.tup xs)->upd (upd H2 Z (.tup [V.int (jI R S t),V.int (t:Nat)])) J (.lst (g++ [V.ref Z])) a=some (.tup xs):=λa xs e=>by rw[yI (aQR e a5 (by intro z;cases z))];exact e
     have e3: [t].filter (qO R S d false)= [t]:=by simp[u,a6]
     refine⟨J,g,.ref Z,rfl,rfl,a5,zlt (by omega),g++ [.ref Z],_,rfl,aQK (O.trans (U.trans k5)) I,yB,?_⟩;rw[e3];exact aQ5 ⟨Z,rfl,t6 _ _ yB⟩ (Paired.mapP L λ_ _ z=>z.tk λa xs e=>t6 _ _ (k5 _ _ (U _ _ e)))
 ·rintro σ B ⟨g,o,rfl,O,M,L⟩;rw[hl]at L;generalize C:(bK0 R.length).filter (qO R S d false)=fam at L;have a7:fam.length=g.length:=L.length;have fn:fam.length<=R.length:=by rw[<- C];exact bYo (bYK _ _) (by simp)
  have a4:∀k,k∈fam↔k<R.length/\qO R S d false k=true:=λk=>by rw[<- C,bYP,bYj]
  have b7:fam.Nodup:=by rw[<- C];exact cXT.sublist cQL
  refine⟨_,rfl,J,g,λm=>(jI R S (fam.getD m 0),((fam.getD m 0:Nat):Int)),rfl,M,by omega,λa b ha hb e=>?_,λm x hx=>?_,λl y a9 a1 b9=>?_⟩
  ·have Y:fam.getD a 0=fam.getD b 0:=by have:=congrArg Prod.snd e;simp only at this;omega
   have a2:a<fam.length:=by omega
   have a3:b<fam.length:=by omega
   simp[bYz,bKM a2,bKM a3]at Y;exact(cQy (h₀:=a2) (h₁:=a3) b7).mp Y
  ·obtain⟨k,hk,p,M,Y⟩:=bXp L hx;have:fam.getD m 0=k:=by simp[bYz,hk]
   show ∃a,x=V.ref a/\B a=some (.tup [V.int (jI R S (fam.getD m 0)),V.int ((fam.getD m 0:Nat):Int)]);rw[this];exact⟨p,M,Y⟩
  ·have hm:∀m∈y,m<g.length:=λm hm=>bYj.mp (a1.mem_iff.mp hm);have U:=yG a9 (.lst (y.map λi=>g.getD i .non));refine q l _ (y.map λm=>fam.getD m 0) _ (k0.trans (O.trans U)) ((k0.trans O).fresh a9) yB ?_ ⟨λk=>?_,?_⟩
   ·have go:∀o:List Nat,(∀m∈o,m<g.length)->bYH (aW2 (upd B l (.lst (y.map λi=>g.getD i .non))) (jI R S)) (o.map λm=>fam.getD m 0) (o.map λi=>g.getD i .non):=by
     intro o;induction o with
     |nil=>intro _;exact .nil
     |cons m o ih=>
      intro h;refine .cons ?_ (ih λx hx=>h x (bKY _ hx));have G:=h m bK2;have hg:g[m]? =some (g.getD m .non):=by simp[bYz,bKM G]
      obtain⟨k,hk,p,M,Y⟩:=bXp L hg;have:fam.getD m 0=k:=by simp[bYz,hk]
      show aW2 _ _ (fam.getD m 0) (g.getD m .non);rw[this];exact⟨p,M,U _ _ Y⟩
    exact go y hm
   ·have b2:k∈y.map (λm=>fam.getD m 0)↔k∈fam:=by
     constructor
     ·intro h;obtain⟨m,b0,rfl⟩:=bYQ.mp h;have G:m<fam.length:=by rw[a7];exact hm m b0
      simp[bYz,bKM G]
     ·intro h;obtain⟨m,G,e⟩:=bYC h;refine bYQ.mpr ⟨m,a1.mem_iff.mpr (bYj.mpr (by omega)),?_⟩;simp[bYz,bKM G,e]
    rw[b2,a4 k];unfold qO;simp
   ·rw[cZd];exact b9
theorem aZd{α:Type}(a:List Nat)(g:Nat->Bool)(h:Nat->α):((bK0 a.length).filter λm=>g (a.getD m 0)).map (λm=>h (a.getD m 0))=(a.filter g).map h:=by
 have e:(bK0 a.length).map (λm=>a.getD m 0)=a:=by
  apply cQ0;intro i;rw[bK7];by_cases b:i<a.length
  ·rw[cQM b];simp[bKM b]
  ·rw[bYl (by simpa using b),bYl (by omega)];rfl
 conv=>rhs;rw[<- e,List.filter_map,cQ6]
 rfl
theorem aWR:yM ["self","day"] ["self","day"] (yH W9):=scM
theorem aWc:xH ["self","day"] (yH W9) "pair" [] [] {kind:= .function,names:= [(".0",.local),("pair",.local)],isGenerator:=false,isCoroutine:=false,more:= [] }:=
 lcM
theorem aWx(cl:Cl K CB CL)(a:MG P w K mg base CX0 n CB "waiting_pairs" ["self","day"] (aJU CB CL))(F:Fun K "waiting" "Book.waiting" W9 f fd):y8 P w K mg base CX0 (n+1) f fd ["self","day"] (bWM CB CL false):=by
 have sc:=aWR;refine F.ok (k:=n) sc (λa1 A outer s H vs Q E M h=>?_);obtain⟨G,la,U,N,W,R,S,d,rfl,C,hR,T,q⟩:=h;refine⟨_,(yF (yP (aQm aWc rfl (xI (vN a M vM (pv 0) (yA (pv 1) yD))) (λ_ _ _ _ _=>z7) (λ_ _ _ _ _=>(yL (show IxR _ (bZH K)from yW) (pv 0) yE))))),?_⟩;obtain⟨dx,hb⟩:=C.book;refine⟨_,rfl,G,dx,_,rfl,hb,rfl,_,rfl,G,la,U,N,W,R,S,d,rfl,C,hR,T,λl H1 g X I a0 o u c=>?_⟩;have r:g.length=X.length:=u.length;have O:g.length<=R.length:=Fm.wD (c.ord.imp λ{x y} e z=>by rw[z,Stree.wK]at e;cases e) λx hx=>((c.mem x).mp hx).1;refine⟨l,rfl,⟨_,SqL.of o⟩,λD t=>?_⟩;refine aWa (λ_=>true) (λm=>V.int (g.getD m 0:Nat)) (SqL.of o) t (zn (by omega)) (λj v J H' Y L b=>b) (λj v J _ H' Y L b=>?_) ?_
 ·obtain⟨k,Z,p,e1,B⟩:=bXp u J;subst e1;have:g.getD j 0=k:=by simp[bYz,Z]
  rw[this]at b;exact⟨_,rfl,p,_,1,_,rfl,rfl,SqT.of ((L p (yJ B t)).trans B),rfl,b⟩
 ·have e:=aZd g (λ_=>true) λi=>V.int (i:Nat);rw[r]at e;rw[e,cXv.mpr λ_ _=>rfl];exact q D _ g (I.trans (yG t _)) (I.fresh t) yB c
theorem aWO:yM ["self","day"] ["self","day"] (yH W8):=scM
theorem aWb:xH ["self","day"] (yH W8) "pair" ["day"] [1] {kind:= .function,names:= [(".0",.local),("pair",.local),("day",.free)],isGenerator:=false,isCoroutine:=false,more:= [] }:=
 lcM
theorem aWu(cl:Cl K CB CL)(g:MG P w K mg base CX0 n CB "waiting_pairs" ["self","day"] (aJU CB CL))(F:Fun K "overdue" "Book.overdue" W8 f fd):y8 P w K mg base CX0 (n+1) f fd ["self","day"] (bWM CB CL true):=by
 have sc:=aWO;refine F.ok (k:=n) sc (λa1 A outer s H vs Q E W h=>?_);obtain⟨T,la,sa,X,cs,R,S,d,rfl,O,hR,Z,q⟩:=h;refine⟨_,(yF (yP (aQm aWb rfl (xI (vN g W vM (pv 0) (yA (pv 1) yD))) (λ_ _ _ _ _=>(wM (yN vE (yL (show IxR _ (bZH K)from yW) (pv 0) yE) (pv 1)))) (λ_ _ _ _ _=>(yL (show IxR _ (bZH K)from yW) (pv 0) yE))))),?_⟩;obtain⟨dx,hb⟩:=O.book;refine⟨_,rfl,T,dx,_,rfl,hb,rfl,_,rfl,T,la,sa,X,cs,R,S,d,rfl,O,hR,Z,λl H1 t ps U a0 B I r=>?_⟩;have C:t.length=ps.length:=I.length;have Y:t.length<=R.length:=Fm.wD (r.ord.imp λ{x y} e z=>by rw[z,Stree.wK]at e;cases e) λx hx=>((r.mem x).mp hx).1;refine⟨l,rfl,⟨_,SqL.of B⟩,λD G=>?_⟩;refine aWa (λm=>decide (jI R S (t.getD m 0)<d)) (λm=>V.int (t.getD m 0:Nat)) (SqL.of B) G (zn (by omega)) (λj v M H' R' N o=>?_) (λj v M _ H' R' N o=>?_) ?_
 ·obtain⟨k,J,p,L,u⟩:=bXp I M;subst L;have:t.getD j 0=k:=by simp[bYz,J]
  rw[this]at o;exact⟨_,rfl,p,_,0,_,rfl,rfl,SqT.of ((N p (yJ u G)).trans u),rfl,_,rfl,_,_,rfl,rfl,_,rfl,o⟩
 ·obtain⟨k,J,p,L,u⟩:=bXp I M;subst L;have:t.getD j 0=k:=by simp[bYz,J]
  rw[this]at o;exact⟨_,rfl,p,_,1,_,rfl,rfl,SqT.of ((N p (yJ u G)).trans u),rfl,o⟩
 ·have e:=aZd t (λk=>decide (jI R S k<d)) λi=>V.int (i:Nat);rw[C]at e;rw[e];refine q D _ (t.filter λk=>decide (jI R S k<d)) (U.trans (yG G _)) (U.fresh G) yB ⟨λk=>?_,r.ord.sublist cQL⟩;rw[bYP,r.mem k,decide_eq_true_eq];unfold jI;constructor
  ·rintro⟨⟨a,b,_⟩,c⟩;exact⟨a,b,λ_=>c⟩
  ·rintro⟨a,b,c⟩;exact⟨⟨a,b,λz=>by cases z⟩,c rfl⟩
end
end Desk
namespace Desk
open PySem L2 PyProof.Rows
open Bk (Row Rows)
def own(la sa:Nat)(ls cs:List Nat):List Nat:=la::sa::(ls++cs)
def qR(o:List Nat)(H c:Hp):Prop:=∀b u,b∉o->(∀a,u≠ .tbl a)->H b=some u->c b=some u
theorem qR.of{o:List Nat}{H a:Hp}(k:x2 H a):qR o H a:=λb u _ n e=>k b u n e
theorem qR.trans{o:List Nat}{H f d:Hp}(a:qR o H f)(b:qR o f d):qR o H d:=λc u n t e=>b c u n t (a c u n t e)
theorem qR.upd{o:List Nat}{H:Hp}{b:Nat}(a:b∈o)(u:HO):qR o H (upd H b u):=λc v n _ e=>by
 rw[yI (λz=>n (by rw[z];exact a))];exact e
theorem aVh{la sa:Nat}{ls cs:List Nat}:la∈own la sa ls cs:=bK2
theorem aYa{la sa:Nat}{ls cs:List Nat}:sa∈own la sa ls cs:=bKY _ bK2
theorem aJs{la sa b:Nat}{ls cs:List Nat}(h:b∈ls):b∈own la sa ls cs:=bKY _ (bKY _ (cQG _ h))
theorem bJM{la sa b:Nat}{ls cs:List Nat}(h:b∈cs):b∈own la sa ls cs:=bKY _ (bKY _ (bYa _ h))
section
variable {CB CL:Nat}{H:Hp}{ba la sa:Nat}{ls cs:List Nat}{R:Rows}{S:List Int}
theorem PB.l_ne(h:PB CB CL H ba la sa ls cs R S){b a:Nat}{xs:List V}(j:b∈ls)(f:H a=some (.lst xs)):a≠b:=λz=>by
 obtain⟨i,d,e⟩:=bYC j;obtain⟨k,l,p,c,m,⟨o,g⟩,n⟩:=h.get (bKM (show i<R.length by rw[<- h.len];exact d));rw[bKM d,e]at c;cases c;rw[z,g]at f;cases f
theorem PB.ba_ne(h:PB CB CL H ba la sa ls cs R S):ba∉ls:=λz=>by
 obtain⟨i,c,e⟩:=bYC z;obtain⟨g,j,n,a,k,⟨m,d⟩,l⟩:=h.get (bKM (show i<R.length by rw[<- h.len];exact c));rw[bKM c,e]at a;cases a;obtain⟨f,b⟩:=h.book;rw[d]at b;cases b
theorem PB.set(h:PB CB CL H ba la sa ls cs R S){k:Nat}{b c dx:Nat}{r:Row}(m:ls[k]? =some b)(u:cs[k]? =some c)(t:R[k]? =some r)(f:Row->Row)(v:(f r).copies=r.copies): PB CB CL (upd H b (.ins CL dx (aZk k (f r) c))) ba la sa ls cs (Bk.xP R k f) S:=by
 have a:=bK5 m;refine⟨?_,?_,?_,by rw[Bk.zH];exact h.len,by rw[Bk.zH];exact h.clen,h.nd,h.cnd,h.las,h.lac,h.sac,λi s y B l q j=>?_⟩
 ·obtain⟨d,e⟩:=h.book;exact⟨d,by rw[yI (λz=>h.ba_ne (by rw[z];exact a))];exact e⟩
 ·rw[yI (h.l_ne a h.lst)];exact h.lst
 ·rw[yI (h.l_ne a h.sht)];exact h.sht
 ·rw[Bk.zA]at j;by_cases e:i=k
  ·subst e;rw[if_pos rfl,t]at j;cases j;rw[m]at l;cases l;rw[u]at q;cases q;obtain⟨_,g⟩:=h.row i b c r m u t;refine⟨⟨dx,yB⟩,?_⟩;rw[yI (h.l_ne a g),v];exact g
  ·rw[if_neg e]at j;obtain⟨⟨d,x⟩,g⟩:=h.row i s y B l q j;have o:s≠b:=λz=>by
    subst z;obtain⟨w,n⟩:=bKZ.mp l;obtain⟨A,p⟩:=bKZ.mp m;exact e ((cQy h.nd).mp (n.trans p.symm))
   exact⟨⟨d,by rw[yI o];exact x⟩,by rw[yI (h.l_ne a g)];exact g⟩
theorem PB.copy(h:PB CB CL H ba la sa ls cs R S){k:Nat}{c:Nat}{r:Row}(l:cs[k]? =some c)(n:R[k]? =some r)(g:Str): PB CB CL (upd H c (.lst ((r.copies++ [g]).map V.str))) ba la sa ls cs (Bk.xP R k λr=>{r with copies:=r.copies++ [g] }) S:=by
 have f:=bK5 l;obtain⟨b0,I,K,G,w,⟨B,J⟩,D⟩:=h.get n;rw[l]at w;cases w;have s:∀ {a C dx fs},H a=some (.ins C dx fs)->a≠c:=λq z=>by rw[z,D]at q;cases q
 refine⟨?_,?_,?_,by rw[Bk.zH];exact h.len,by rw[Bk.zH];exact h.clen,h.nd,h.cnd,h.las,h.lac,h.sac,λi u x F v m j=>?_⟩
 ·obtain⟨b,e⟩:=h.book;exact⟨b,by rw[yI (s e)];exact e⟩
 ·rw[yI (λz=>h.lac (by rw[z];exact f))];exact h.lst
 ·rw[yI (λz=>h.sac (by rw[z];exact f))];exact h.sht
 ·rw[Bk.zA]at j;by_cases e:i=k
  ·subst e;rw[if_pos rfl,n]at j;cases j;rw[l]at m;cases m;obtain⟨⟨b,d⟩,y⟩:=h.row i u c r v l n;exact⟨⟨b,by rw[yI (s d)];exact d⟩,yB⟩
  ·rw[if_neg e]at j;obtain⟨⟨b,d⟩,y⟩:=h.row i u x F v m j;have o:x≠c:=λz=>by
    subst z;obtain⟨A,p⟩:=bKZ.mp m;obtain⟨E,t⟩:=bKZ.mp l;exact e ((cQy h.cnd).mp (p.trans t.symm))
   exact⟨⟨b,by rw[yI (s d)];exact d⟩,by rw[yI o];exact y⟩
theorem PB.shutD(h:PB CB CL H ba la sa ls cs R S)(d:Int):PB CB CL (upd H sa (.lst ((S++ [d]).map V.int))) ba la sa ls cs R (S++ [d]):=by
 have g:∀ {a C dx fs},H a=some (.ins C dx fs)->a≠sa:=λq z=>by rw[z,h.sht]at q;cases q
 refine⟨?_,?_,yB,h.len,h.clen,h.nd,h.cnd,h.las,h.lac,h.sac,λi j m o k c n=>?_⟩
 ·obtain⟨b,e⟩:=h.book;exact⟨b,by rw[yI (g e)];exact e⟩
 ·rw[yI h.las];exact h.lst
 ·obtain⟨⟨b,f⟩,l⟩:=h.row i j m o k c n;exact⟨⟨b,by rw[yI (g f)];exact f⟩,by rw[yI (λz=>h.sac (by rw[<- z];exact bK5 c))];exact l⟩
theorem PB.enter(h:PB CB CL H ba la sa ls cs R S){l c dx:Nat}{r:Row}{u:Hp}(hl:H l=none)(g:H c=none)(L:l≠c)(I:r.copies= [])(N:u l=some (.ins CL dx (aZk R.length r c)))(J:u c=some (.lst [])) (k:∀b o,H b=some o->u b=some o):PB CB CL (upd u la (.lst ((ls++ [l]).map V.ref))) ba la sa (ls++ [l]) (cs++ [c]) (R++ [r]) S:=by
 have x:l≠la:=λz=>by rw[z,h.lst]at hl;cases hl
 have j:c≠la:=λz=>by rw[z,h.lst]at g;cases g
 have F:∀ {a C dx fs},H a=some (.ins C dx fs)->a≠la:=λq z=>by rw[z,h.lst]at q;cases q
 have K:∀i b,ls[i]? =some b->i<R.length:=λi b q=>by rw[<- h.len];exact(bKZ.mp q).1
 have nl:l∉ls:=λz=>by obtain⟨i,d,e⟩:=bYC z;obtain⟨v,w,t,m,A,⟨f,G⟩,E⟩:=h.get (bKM (show i<R.length by rw[<- h.len];exact d));rw[bKM d,e]at m;cases m;rw[G]at hl;cases hl
 have M:c∉cs:=λz=>by obtain⟨i,d,e⟩:=bYC z;obtain⟨v,w,t,m,A,G,E⟩:=h.get (bKM (show i<R.length by rw[<- h.clen];exact d));rw[bKM d,e]at A;cases A;rw[E]at g;cases g
 refine⟨?_,yB,?_,by simp[h.len],by simp[h.clen],?_,?_,h.las,?_,?_,λi v w O s p n=>?_⟩
 ·obtain⟨f,e⟩:=h.book;exact⟨f,by rw[yI (F e)];exact k _ _ e⟩
 ·rw[yI (bYv h.las)];exact k _ _ h.sht
 ·exact cXd.mpr ⟨h.nd,cQa _ _,λa B b D z=>nl (by rw[<- bK4.mp D,<- z];exact B)⟩
 ·exact cXd.mpr ⟨h.cnd,cQa _ _,λa B b D z=>M (by rw[<- bK4.mp D,<- z];exact B)⟩
 ·intro z;rcases bYs.mp z with z|z
  ·exact h.lac z
  ·exact j (bK4.mp z).symm
 ·intro z;rcases bYs.mp z with z|z
  ·exact h.sac z
  ·rw[<- bK4.mp z,h.sht]at g;cases g
 ·by_cases d:i<R.length
  ·rw[bYA (by rw[h.len];exact d)]at s;rw[bYA (by rw[h.clen];exact d)]at p;rw[bYA d]at n;obtain⟨⟨f,t⟩,m⟩:=h.row i v w O s p n;exact⟨⟨f,by rw[yI (F t)];exact k _ _ t⟩,by rw[yI (λz=>h.lac (by rw[<- z];exact bK5 p))];exact k _ _ m⟩
  ·have y:i=R.length:=by
    have:=(bKZ.mp n).1;simp at this;omega
   subst y;rw[bYc (by rw[h.len];exact bKU _),h.len,bY6]at s;rw[bYc (by rw[h.clen];exact bKU _),h.clen,bY6]at p;rw[bYc (bKU _),bY6]at n;cases s;cases p;cases n;exact⟨⟨dx,by rw[yI x];exact N⟩,by rw[yI j,J,I];rfl⟩
end
def aJT(CB:Nat):Sp:=λd H Q _=>∃ (x c:Nat),d= [.ref x]/\H x=some (.ins CB c [])/\
 ∀ (la sa:Nat)(a:Hp),H la=none->H sa=none->la≠sa->a x=some (.ins CB c [("letters",.ref la),("shut",.ref sa)])->a la=some (.lst [])->a sa=some (.lst [])->(∀b,b≠x->b≠la->b≠sa->a b=H b)->Q .non a
def bVo(CB CL:Nat):Sp:=λg H Q _=>∃ (ba la sa:Nat)(ls cs:List Nat)(R:Rows)(S:List Int)(e:Str)(d:Int)(a:Str)(t:Int),g= [.ref ba,.str e,.int d,.str a,.int t]/\PB CB CL H ba la sa ls cs R S/\R.length<=1000/\
 ∀ (l c:Nat)(f:Hp),H l=none->H c=none->PB CB CL f ba la sa (ls++ [l]) (cs++ [c]) (R++ [⟨e,d,a,t,none,"",false,[]⟩]) S->(∀b o,b≠la->H b=some o->f b=some o)->Q (.ref l) f
def aXL(K:bKP)(Rf:Nat×Nat):Sp:=λa H Q E=>∃t:Int,a= [.int t]/\(0<=t->Q .non H)/\(t<0->xC K Rf H E "no term")
def aXK(K:bKP)(Rf:Nat×Nat):Sp:=λc H Q E=>∃a b:Int,c= [.int a,.int b]/\(a<=b->Q .non H)/\(b<a->xC K Rf H E "too early")
section
variable {K:bKP}
abbrev aYo:Stmt:=xB "Book" "__init__"
abbrev bW9:Stmt:=xB "Book" "add_letter"
abbrev aYB:Stmt:=xF "check_term"
abbrev aYs:Stmt:=xF "check_days"
theorem bXG:yM ["self"] ["self"] (yH aYo):=scM
theorem bQ7(cl:Cl K CB CL)(F:Fun K "__init__" "Book.__init__" aYo f fd):y8 P w K mg base CX0 (n+1) f fd ["self"] (aJT CB):=by
 have r:=bXG;refine F.ok (k:=n) r (λt A outer s H v Q E u h=>?_);obtain⟨x,m,rfl,l,q⟩:=h;refine⟨_,(yC (zF (pv 0) (y3 yD) rfl) (yF (zF (pv 0) (y3 yD) rfl))),?_⟩;refine⟨z0,λla g=>?_⟩;have c:x≠la:=yJ l g;refine⟨_,rfl,x,CB,m,_,rfl,(yI c).trans l,cl.b,cl.letters,(show 0<1000 by decide),?_⟩;refine⟨z0,λsa a=>?_⟩;have e:x≠sa:=yJ yB a;have d:la≠sa:=λz=>by rw[<- z,yI (bYv c),yB]at a;cases a
 refine⟨_,rfl,x,CB,m,_,rfl,(yI e).trans yB,cl.b,cl.shut,(show 1<1000 by decide),?_⟩;have i:H sa=none:=by rw[yI (bYv e),yI (bYv d)]at a;exact a
 refine q la sa _ g i d yB ?_ ?_ λb j p o=>?_
 ·rw[yI (bYv c),yI d,yI (bYv c),yB]
 ·rw[yI (bYv e),yB]
 ·rw[yI j,yI o,yI j,yI p]
theorem bWn:yM ["self","way","day","partner","term","letter"] ["self","way","day","partner","term"] (yH bW9):=scM
theorem bV7(T:vH mg)(cl:Cl K CB CL)(a:MkG P w K mg base n "Letter" CL ["self","number","way","day","partner","term"] (aY6 CL))(F:Fun K "add_letter" "Book.add_letter" bW9 f fd): y8 P w K mg base CX0 (n+2) f fd ["self","way","day","partner","term"] (bVo CB CL):=by
 have Y:=bWn;refine F.ok (k:=n+1) Y (λZ A outer s H vs Q E M h=>?_);obtain⟨ba,la,sa,ls,cs,R,S,C,d,B,t,rfl,j,hR,q⟩:=h;refine⟨_,(yC (yT (i:=5) (bW6 a M rfl (yA (yU yQ rfl T.b_len xD (yA (yZ (pv 0) rfl) yD)) (yA (pv 1) (yA (pv 2) (yA (pv 3) (yA (pv 4) yD))))))) (yC (yY (uF bYn bYt bYu xG (yZ (pv 0) rfl) (yA (pv 5) yD))) (yF (yP (pv 5))))),?_⟩;obtain⟨J,I⟩:=j.book;have hl:(ls.map V.ref).length=R.length:=by rw[bKT];exact j.len
 refine⟨_,rfl,ba,CB,J,_,_,rfl,I,cl.b,cl.letters,rfl,la,_,rfl,.inl (SqL.of j.lst),?_⟩;rw[hl];refine⟨_,rfl,_,rfl,_,rfl,_,rfl,λx xd G D u=>?_⟩;refine⟨x,xd,R.length,C,d,B,t,rfl,yB,λc U l L X O=>⟨rfl,?_⟩⟩;dsimp only[yX];have r:c≠x:=λz=>by rw[z,yB]at l;cases l
 have y:c≠xd:=λz=>by rw[z,yI u,yB]at l;cases l
 have g:H c=none:=by rw[yI r,yI y]at l;exact l
 have p:∀b o,H b=some o->U b=some o:=λb o e=>by have b1:=yJ e G;have W:=yJ e g;have N:=yJ e D;rw[O b b1 W,yI b1,yI N];exact e
 refine⟨_,rfl,ba,CB,J,_,_,rfl,p _ _ I,cl.b,cl.letters,rfl,.inl ⟨rfl,_,SqL.of (p _ _ j.lst)⟩,_,rfl,la,_,_,rfl,rfl,p _ _ j.lst,zlt (by omega),?_⟩;refine⟨_,rfl,?_⟩;have m:=j.enter G g (bYv r) rfl L X p;rw[cQT]at m;refine q x c _ G g m λb o v e=>?_;rw[yI v];exact p b o e
theorem bXU:yM ["term"] ["term"] (yH aYB):=scM
theorem bXl(a:ExG P w K mg base n "NoTerm" Rf.1 C1 "no term")(F:Fun K "check_term" "check_term" aYB f fd):y8 P w K mg base (CXR P w) (n+2) f fd ["term"] (aXL K Rf):=by
 have e:=bXU;refine F.okX (k:=n+1) e (λg A outer s H i Q E d h=>?_);obtain⟨t,rfl,q,b⟩:=h;refine⟨_,(yF (y6 (yN vE (pv 0) yE) (yF (zO a d rfl)) yR)),?_⟩;refine⟨_,rfl,_,_,rfl,rfl,_,rfl,?_⟩;refine qB (λc=>?_) (λc=>?_)
 ·exact(b (of_decide_eq_true c)).raise a
 ·exact q (by have:=of_decide_eq_false (Bool.eq_false_iff.mpr c);omega)
theorem bXK:yM ["asked_day","reply_day"] ["asked_day","reply_day"] (yH aYs):=scM
theorem bXb(d:ExG P w K mg base n "TooEarly" Rf.1 C1 "too early")(F:Fun K "check_days" "check_days" aYs f fd):y8 P w K mg base (CXR P w) (n+2) f fd ["asked_day","reply_day"] (aXK K Rf):=by
 have i:=bXK;refine F.okX (k:=n+1) i (λj A outer s H l Q E e h=>?_);obtain⟨a,b,rfl,q,g⟩:=h;refine⟨_,(yF (y6 (yN vE (pv 1) (pv 0)) (yF (zO d e rfl)) yR)),?_⟩;refine⟨_,rfl,_,rfl,_,_,rfl,rfl,_,rfl,?_⟩;refine qB (λc=>?_) (λc=>?_)
 ·exact(g (of_decide_eq_true c)).raise d
 ·exact q (by have:=of_decide_eq_false (Bool.eq_false_iff.mpr c);omega)
end
end Desk
namespace Desk
open PySem L2 PyProof.Rows
open Bk (Row Rows)
def w6(o:List Nat)(H a:Hp):Prop:=∀b u,b∉o->H b=some u->a b=some u
theorem w6.of{o:List Nat}{H a:Hp}(k:xA H a):w6 o H a:=λb u _ e=>k b u e
theorem w6.trans{o:List Nat}{H f d:Hp}(a:w6 o H f)(b:w6 o f d):w6 o H d:=λc u n e=>b c u n (a c u n e)
theorem w6.upd{o:List Nat}{H:Hp}{b:Nat}(a:b∈o)(u:HO):w6 o H (upd H b u):=λc v n e=>by
 rw[yI (λz=>n (by rw[z];exact a))];exact e
theorem w6.t{o:List Nat}{H a:Hp}(k:w6 o H a):qR o H a:=λb u n _ e=>k b u n e
def qA(H:Hp)(o a:List Nat):Prop:=∀b∈a,b∈o\/H b=none
theorem qA.refl{H:Hp}{o:List Nat}:qA H o o:=λb h=> .inl h
theorem qA.snoc{H:Hp}{la sa l c:Nat}{ls cs:List Nat}(hl:H l=none)(a:H c=none):qA H (own la sa ls cs) (own la sa (ls++ [l]) (cs++ [c])):=λb h=>by
 rcases bKW.mp h with e|h
 ·exact .inl (by rw[e];exact aVh)
 rcases bKW.mp h with e|h
 ·exact .inl (by rw[e];exact aYa)
 rcases bYs.mp h with h|h
 ·rcases bYs.mp h with h|h
  ·exact .inl (aJs h)
  ·exact .inr (by rw[bK4.mp h];exact hl)
 ·rcases bYs.mp h with h|h
  ·exact .inl (bJM h)
  ·exact .inr (by rw[bK4.mp h];exact a)
def aXQ(d CL e la sa:Nat)(ls cs:List Nat)(H:Hp)(f:Rows)(g:List Int)(q:Hp->Prop):Prop:=∀ (c:Hp)(b a:List Nat),PB d CL c e la sa b a f g->w6 (own la sa ls cs) H c->qA H (own la sa ls cs) (own la sa b a)->q c
def bV3(i:Nat)(r:Row)(c:Nat)(t:Int):List (Str×V):=
 [("number",.int (i:Nat)),("way",.str r.way),("day",.int r.date),("partner",.str r.partner),("term",.int t),("link",wL r.link),("file",qX r),("copies",.ref c),("void",.bl r.void)]
def aY5(K:bKP)(Rf:Nat×Nat)(e CL:Nat):Sp:=λj H Q E=>∃ (c i g:Nat)(f h:List Nat)(R:Rows)(S:List Int)(b:Str)(d:Int)(a:Str)(t:Int),j= [.ref c,.str b,.int d,.str a,.int t]/\PB e CL H c i g f h R S/\R.length<=1000/\
 (0<=t->aXQ e CL c i g f h H (R++ [⟨b,d,a,t,none,"",false,[]⟩]) S (Q (.int (R.length:Nat))))/\(t<0->xC K Rf H E "no term")
def bQa(K:bKP)(Rf:Nat×Nat)(b CL:Nat):Sp:=λh H Q E=>∃ (a g e:Nat)(c f:List Nat)(R:Rows)(S:List Int)(m d t:Int),h= [.ref a,.int m,.int d,.int t]/\PB b CL H a g e c f R S/\R.length<=1000/\
 (Bk.zZ R m=false->xC K Rf H E "no letter")/\(Bk.zZ R m=true->t<0->xC K Rf H E "no term")/\
 ∀ (k:Nat)(r:Row),m=(k:Int)->R[k]? =some r->r.void=false->0<=t->(d<r.date->xC K Rf H E "too early")/\(r.date<=d->aXQ b CL a g e c f H (R++ [⟨Bk.jF r.way,d,r.partner,t,some k,r.place,false,[]⟩]) S (Q (.int (R.length:Nat))))
def aVD(K:bKP)(Rf:Nat×Nat)(c CL:Nat):Sp:=λg H Q E=>∃ (a f b:Nat)(d e:List Nat)(R:Rows)(S:List Int)(m:Int),g= [.ref a,.int m]/\PB c CL H a f b d e R S/\
 (Bk.zZ R m=false->xC K Rf H E "no letter")/\∀ (k:Nat)(r:Row),m=(k:Int)->R[k]? =some r->r.void=false->(r.link=none->xC K Rf H E "has none")/\(r.link≠none->aXQ c CL a f b d e H (Bk.xP R k λr=>{r with link:=none}) S (Q .non))
def aZM(K:bKP)(Rf:Nat×Nat)(b CL:Nat):Sp:=λg H Q E=>∃ (a f d:Nat)(c e:List Nat)(R:Rows)(S:List Int)(m t:Int),g= [.ref a,.int m,.int t]/\PB b CL H a f d c e R S/\
 (Bk.zZ R m=false->xC K Rf H E "no letter")/\∀ (k:Nat)(r:Row),m=(k:Int)->R[k]? =some r->r.void=false->(t<0->xC K Rf H E "no term")/\(0<=t->aXQ b CL a f d c e H (Bk.xP R k λr=>{r with term:=t}) S (Q .non))
def bZP(K:bKP)(Rf:Nat×Nat)(c CL:Nat):Sp:=λh H Q E=>∃ (b g e:Nat)(d f:List Nat)(R:Rows)(S:List Int)(m:Int)(a:Str),h= [.ref b,.int m,.str a]/\PB c CL H b g e d f R S/\(∀r∈R,r.copies.length<=1000)/\
 (Bk.zZ R m=false->xC K Rf H E "no letter")/\∀ (k:Nat)(r:Row),m=(k:Int)->R[k]? =some r->r.void=false->(a=r.partner\/a∈r.copies->xC K Rf H E "copied")/\
  (a≠r.partner->a∉r.copies->aXQ c CL b g e d f H (Bk.xP R k λr=>{r with copies:=r.copies++ [a] }) S (Q (.int ((r.copies.length:Nat)+1))))
def aVw(K:bKP)(Rf:Nat×Nat)(c CL:Nat):Sp:=λg H Q E=>∃ (a f b:Nat)(d e:List Nat)(R:Rows)(S:List Int)(m:Int),g= [.ref a,.int m]/\PB c CL H a f b d e R S/\R.length<=100/\
 (Bk.zZ R m=false->xC K Rf H E "no letter")/\∀ (k:Nat)(r:Row),m=(k:Int)->R[k]? =some r->r.void=false->(Bk.zU R k≠ []->xC K Rf H E "answered")/\(Bk.zU R k= []->aXQ c CL a f b d e H (Bk.xP R k λr=>{r with link:=none,void:=true}) S (Q .non))
def bZQ(K:bKP)(Rf:Nat×Nat)(c CL:Nat):Sp:=λh H Q E=>∃ (a g b:Nat)(e f:List Nat)(R:Rows)(S:List Int)(d:Int),h= [.ref a,.int d]/\PB c CL H a g b e f R S/\S.length<=1000/\
 (Dm.cts S d=false->xC K Rf H E "counts not")/\(Dm.cts S d=true->aXQ c CL a g b e f H R (S++ [d]) (Q .non))
def aVE(K:bKP)(Rf:Nat×Nat)(b CL:Nat):Sp:=λi H Q E=>∃ (a h f:Nat)(e g:List Nat)(R:Rows)(S:List Int)(m d:Int),i= [.ref a,.int m,.int d]/\PB b CL H a h f e g R S/\R.length<=100/\Bk.qP R/\
 (Bk.zZ R m=false->xC K Rf H E "no letter")/\∀ (k:Nat)(r:Row),m=(k:Int)->R[k]? =some r->r.void=false->(((∃j,r.link=some j/\d<Bk.dt R j)\/∃c∈Bk.zU R k,Bk.dt R c<d)->xC K Rf H E "too early")/\
  ((∀j,r.link=some j->Bk.dt R j<=d)->(∀c∈Bk.zU R k,d<=Bk.dt R c)->aXQ b CL a h f e g H (Bk.xP R k λr=>{r with date:=d}) S (Q .non))
theorem aWS(R:Rows)(r:Row)(f:Row->Row):Bk.xP (R++ [r]) R.length f=R++ [f r]:=by
 apply cQ0;intro i;rw[Bk.zA];by_cases e:i=R.length
 ·subst e;rw[if_pos rfl,bYc (bKU _),bYc (bKU _),bY6];rfl
 ·rw[if_neg e];by_cases h:i<R.length
  ·rw[bYA h,bYA h]
  ·rw[bYl (by simp;omega),bYl (by simp;omega)]
section
variable {K:bKP}
abbrev aYu:Stmt:=xB "Book" "enter"
abbrev aYz:Stmt:=xB "Book" "reply"
abbrev aJE:Stmt:=xB "Book" "loosen"
abbrev aXA:Stmt:=xB "Book" "put_term"
abbrev bJ4:Stmt:=xB "Book" "send_copy"
abbrev aJB:Stmt:=xB "Book" "cancel"
abbrev bJ5:Stmt:=xB "Book" "shut_day"
abbrev aJF:Stmt:=xB "Book" "put_day"
theorem bXM:yM ["self","way","day","partner","term"] ["self","way","day","partner","term"] (yH aYu):=scM
theorem bXd(cl:Cl K CB CL)(a:FnX P w K mg base n "check_term" ["term"] (aXL K Rf))(g:MG P w K mg base CX0 n CB "add_letter" ["self","way","day","partner","term"] (bVo CB CL)) (F:Fun K "enter" "Book.enter" aYu f fd):y8 P w K mg base (CXR P w) (n+1) f fd ["self","way","day","partner","term"] (aY5 K Rf CB CL):=by
 have N:=bXM;refine F.okX (k:=n) N (λW A outer s H Y Q E r h=>?_);obtain⟨y,O,D,v,x,R,S,p,d,o,t,rfl,j,hR,q,I⟩:=h;refine⟨_,(yC (yY (aQl a r rfl (yA (pv 4) yD))) (yF (yP (yZ (vN g r vM (pv 0) (yA (pv 1) (yA (pv 2) (yA (pv 3) (yA (pv 4) yD))))) rfl)))),?_⟩;obtain⟨V,M⟩:=j.book;refine⟨_,rfl,t,rfl,λG=>?_,I⟩;refine⟨_,rfl,y,V,_,rfl,M,rfl,_,rfl,_,rfl,_,rfl,_,rfl,y,O,D,v,x,R,S,p,d,o,t,rfl,j,hR,λl c J hl U i T=>?_⟩;have B:(v++ [l])[R.length]? =some l:=by rw[<- j.len,bYc (bKU _),bY6];rfl
 have L:(x++ [c])[R.length]? =some c:=by rw[<- j.clen,bYc (bKU _),bY6];rfl
 obtain⟨⟨m,C⟩,X⟩:=i.row R.length l c _ B L (by rw[bYc (bKU _),bY6];rfl);exact⟨l,CL,m,_,_,rfl,C,cl.l,cl.number,rfl,q G J _ _ i (λb u n e=>T b u (λz=>n (by rw[z];exact aVh)) e) (qA.snoc hl U)⟩
theorem bXR:yM ["self","number","day","term","asked","letter"] ["self","number","day","term"] (yH aYz):=scM
theorem qH{R:Rows}{k:Nat}{r:Row}(a:R[k]? =some r)(b:r.void=false):Bk.zZ R (k:Int)=true:=by rw[aX8 a,b];rfl
theorem aXi{r:Row}(a:r.void=false):qX r= .str r.place:=by unfold qX;rw[a];rfl
theorem bX8{r:Row}(a:r.void=false):W0 r=r.term:=by unfold W0;rw[a];rfl
theorem bXi(cl:Cl K CB CL)(o:MG P w K mg base (CXR P w) n CB "letter_at" ["self","number"] (aY0 K Rf CB CL))(a:FnX P w K mg base n "check_term" ["term"] (aXL K Rf)) (j:FnX P w K mg base n "check_days" ["asked_day","reply_day"] (aXK K Rf)) (p:FnG P w K mg base n "other_way" ["way"] aY8) (g:MG P w K mg base CX0 n CB "add_letter" ["self","way","day","partner","term"] (bVo CB CL)) (F:Fun K "reply" "Book.reply" aYz f fd):y8 P w K mg base (CXR P w) (n+1) f fd ["self","number","day","term"] (bQa K Rf CB CL):=by
 have sc:=bXR;refine F.okX (k:=n) sc (λa0 A outer s H vs Q E C h=>?_);obtain⟨L,M,sa,J,I,R,S,m,d,t,rfl,y,hR,q1,q2,q3⟩:=h;refine⟨_,(yC (yT (i:=4) (vN o C zL (pv 0) (yA (pv 1) yD))) (yC (yY (aQl a C rfl (yA (pv 3) yD))) (yC (yY (aQl j C rfl (yA (yZ (pv 4) rfl) (yA (pv 2) yD)))) (yC (yT (i:=5) (vN g C vM (pv 0) (yA (xJ p C rfl (yA (yZ (pv 4) rfl) yD)) (yA (pv 2) (yA (yZ (pv 4) rfl) (yA (pv 3) yD)))))) (yC (zF (pv 5) (pv 1) rfl) (yC (zF (pv 5) (yZ (pv 4) rfl) rfl) (yF (yP (yZ (pv 5) rfl))))))))),?_⟩;obtain⟨O,hb⟩:=y.book;refine⟨_,rfl,L,O,_,rfl,hb,rfl,_,rfl,L,M,sa,J,I,R,S,m,rfl,y,λk r b em U N T=>?_,q1⟩;subst em;obtain⟨V,cc,g1,g2,g3,⟨q,B⟩,g5⟩:=y.get U;obtain rfl:b=V:=bK8 (T.symm.trans g2);dsimp only[yX];refine⟨_,rfl,t,rfl,λX=>?_,λX=>q2 (qH U N) X⟩;obtain⟨q4,q5⟩:=q3 k r rfl U N X;refine⟨_,rfl,b,CL,q,_,_,rfl,B,cl.l,cl.day,rfl,_,rfl,r.date,d,rfl,λhd=>?_,q4⟩;refine⟨_,rfl,L,O,_,rfl,hb,rfl,_,rfl,b,CL,q,_,_,rfl,B,cl.l,cl.way,rfl,r.way,rfl,_,rfl,_,rfl,b,CL,q,_,_,rfl,B,cl.l,cl.partner,rfl,_,rfl,L,M,sa,J,I,R,S,Bk.jF r.way,d,r.partner,t,rfl,y,hR,λl c H1 hl hc G k1=>?_⟩;dsimp only[yX];have h1:(J++ [l])[R.length]? =some l:=by rw[<- y.len,bYc (bKU _),bY6];rfl
 have h2:(I++ [c])[R.length]? =some c:=by rw[<- y.clen,bYc (bKU _),bY6];rfl
 have h3:(R++ [(⟨Bk.jF r.way,d,r.partner,t,none,"",false,[]⟩:Row)])[R.length]? =some ⟨Bk.jF r.way,d,r.partner,t,none,"",false,[]⟩:=by rw[bYc (bKU _),bY6];rfl
 obtain⟨⟨v,f1⟩,f2⟩:=G.row R.length l c _ h1 h2 h3;refine⟨_,rfl,_,rfl,l,CL,v,_,rfl,f1,cl.l,cl.link,(show 9<1000 by decide),?_⟩;have W:b≠l:=yJ B hl;have Y:b≠M:=λz=>by rw[z,y.lst]at B;cases B
 have Z:upd H1 l (.ins CL v (aQW "link" (.int (k:Nat)) (aZk R.length ⟨Bk.jF r.way,d,r.partner,t,none,"",false,[]⟩ c))) b=some (.ins CL q (aZk k r cc)):=(yI W).trans (k1 _ _ Y B);refine⟨_,rfl,b,CL,q,_,_,rfl,Z,cl.l,cl.file,rfl,_,rfl,l,CL,v,_,rfl,yB,cl.l,cl.file,(show 9<1000 by decide),?_⟩;rw[uR];refine⟨_,rfl,l,CL,v,_,_,rfl,yB,cl.l,cl.number,rfl,?_⟩;have D:=G.set (dx:=v) h1 h2 h3 (λx=>{x with link:=some k,place:=r.place}) rfl;rw[aWS]at D;have e9:aQW "file" (qX r) (aQW "link" (.int (k:Nat)) (aZk R.length ⟨Bk.jF r.way,d,r.partner,t,none,"",false,[]⟩ c))=aZk R.length ⟨Bk.jF r.way,d,r.partner,t,some k,r.place,false,[]⟩ c:=by rw[aXi N];rfl
 refine q5 hd _ (J++ [l]) (I++ [c]) ?_ (λV u nb e=>?_) (qA.snoc hl hc)
 ·rw[e9];exact D
 ·rw[yI (λz=>by rw[z]at e;rw[hl]at e;cases e)];exact k1 V u (λz=>nb (by rw[z];exact aVh)) e
theorem aYP:yM ["self","number","letter"] ["self","number"] (yH aJE):=scM
theorem aK4(cl:Cl K CB CL)(c:MG P w K mg base (CXR P w) (n+1) CB "letter_at" ["self","number"] (aY0 K Rf CB CL))(a:ExG P w K mg base n "HasNone" Rf.1 C1 "has none") (F:Fun K "loosen" "Book.loosen" aJE f fd):y8 P w K mg base (CXR P w) (n+2) f fd ["self","number"] (aVD K Rf CB CL):=by
 have N:=aYP;refine F.okX (k:=n+1) N (λV A outer s H Z Q E t h=>?_);obtain⟨u,O,C,z,D,R,S,m,rfl,g,J,y⟩:=h;refine⟨_,(yC (yT (i:=2) (vN c t zL (pv 0) (yA (pv 1) yD))) (yC (y6 (yN aVe (yZ (pv 2) rfl) x9) (yF (zO a t rfl)) yR) (yF (zF (pv 2) x9 rfl)))),?_⟩;obtain⟨U,M⟩:=g.book;refine⟨_,rfl,u,U,_,rfl,M,rfl,_,rfl,u,O,C,z,D,R,S,m,rfl,g,λk r b I q T p=>?_,J⟩;obtain⟨x,Y,W,o,L,⟨d,v⟩,X⟩:=g.get q;obtain rfl:b=x:=bK8 (p.symm.trans o);obtain⟨G,B⟩:=y k r I q T;dsimp only[yX];refine⟨_,rfl,b,CL,d,_,_,rfl,v,cl.l,cl.link,rfl,rfl,_,rfl,?_⟩;cases e:r.link with
 |none=>exact onT rfl ((G e).raise a)
 |some j=>refine onF rfl ⟨_,rfl,b,CL,d,_,rfl,v,cl.l,cl.link,(show 9<1000 by decide),?_⟩;exact B (by rw[e];simp) _ _ _ (g.set o L q (λr=>{r with link:=none}) rfl) (w6.upd (aJs (bK5 o)) _) qA.refl
theorem aWP:yM ["self","number","term","letter"] ["self","number","term"] (yH aXA):=scM
theorem aWv(cl:Cl K CB CL)(c:MG P w K mg base (CXR P w) n CB "letter_at" ["self","number"] (aY0 K Rf CB CL))(a:FnX P w K mg base n "check_term" ["term"] (aXL K Rf)) (F:Fun K "put_term" "Book.put_term" aXA f fd):y8 P w K mg base (CXR P w) (n+1) f fd ["self","number","term"] (aZM K Rf CB CL):=by
 have U:=aWP;refine F.okX (k:=n) U (λX A outer s H vs Q E q h=>?_);obtain⟨u,V,D,z,G,R,S,m,t,rfl,d,M,y⟩:=h;refine⟨_,(yC (yT (i:=3) (vN c q zL (pv 0) (yA (pv 1) yD))) (yC (yY (aQl a q rfl (yA (pv 2) yD))) (yF (zF (pv 3) (pv 2) rfl)))),?_⟩;obtain⟨W,T⟩:=d.book;refine⟨_,rfl,u,W,_,rfl,T,rfl,_,rfl,u,V,D,z,G,R,S,m,rfl,d,λk r b L p v o=>?_,M⟩;obtain⟨x,g,Y,j,N,⟨e,O⟩,Z⟩:=d.get p;obtain rfl:b=x:=bK8 (o.symm.trans j);obtain⟨I,B⟩:=y k r L p v;dsimp only[yX];refine⟨_,rfl,t,rfl,λJ=>?_,I⟩;refine⟨_,rfl,_,rfl,b,CL,e,_,rfl,O,cl.l,cl.term,(show 9<1000 by decide),?_⟩;have C:aQW "term" (.int t) (aZk k r g)=aZk k {r with term:=t} g:=by show bV3 k {r with term:=t} g t=_;unfold bV3 aZk;rw[bX8 (r:={r with term:=t}) v]
 rw[C];exact B J _ _ _ (d.set j N p (λr=>{r with term:=t}) rfl) (w6.upd (aJs (bK5 j)) _) qA.refl
theorem bVh:yM ["self","number","person","letter"] ["self","number","person"] (yH bJ4):=scM
theorem bJG(T:vH mg)(cl:Cl K CB CL)(e:MG P w K mg base (CXR P w) (n+1) CB "letter_at" ["self","number"] (aY0 K Rf CB CL))(a:MG P w K mg base CX0 (n+1) CL "has_gone_to" ["self","person"] (bZK CL))(d:ExG P w K mg base n "Copied" Rf.1 C1 "copied") (F:Fun K "send_copy" "Book.send_copy" bJ4 f fd):y8 P w K mg base (CXR P w) (n+2) f fd ["self","number","person"] (bZP K Rf CB CL):=by
 have sc:=bVh;refine F.okX (k:=n+1) sc (λa0 A outer s H vs Q E v h=>?_);obtain⟨G,la,O,L,U,R,S,m,g,rfl,p,B,Z,J⟩:=h;refine⟨_,(yC (yT (i:=3) (vN e v zL (pv 0) (yA (pv 1) yD))) (yC (y6 (x3 (vN a v vM (pv 3) (yA (pv 2) yD))) (yF (zO d v rfl)) yR) (yC (yY (uF bYn bYt bYu xG (yZ (pv 3) rfl) (yA (pv 2) yD))) (yF (yP (yU yQ rfl T.b_len xD (yA (yZ (pv 3) rfl) yD))))))),?_⟩;obtain⟨dx,hb⟩:=p.book;refine⟨_,rfl,G,dx,_,rfl,hb,rfl,_,rfl,G,la,O,L,U,R,S,m,rfl,p,λk r b Y u hv y=>?_,Z⟩;obtain⟨I,t,g1,g2,D,⟨j,o⟩,q⟩:=p.get u;obtain rfl:b=I:=bK8 (y.symm.trans g2);obtain⟨W,M⟩:=J k r Y u hv;have C:=B r (bK5 u);dsimp only[yX];refine⟨_,rfl,b,j,_,rfl,o,rfl,_,rfl,b,k,r,t,g,rfl,⟨j,o⟩,q,_,rfl,?_⟩;refine qB (λc=>?_) (λc=>?_)
 ·refine(W ?_).raise d;rw[Bool.or_eq_true,decide_eq_true_eq,cQm]at c;exact c
 ·rw[Bool.or_eq_true,decide_eq_true_eq,cQm,not_or]at c;have x:b≠t:=λz=>by rw[z,q]at o;cases o
  refine⟨_,rfl,b,CL,j,_,_,rfl,o,cl.l,cl.copies,rfl,.inl ⟨rfl,_,SqL.of q⟩,_,rfl,t,_,_,rfl,rfl,q,zlt (by rw[bKT];omega),?_⟩;refine⟨_,rfl,b,CL,j,_,_,rfl,(yI x).trans o,cl.l,cl.copies,rfl,t,_,rfl,.inl (SqL.of yB),?_⟩;have N:r.copies.map V.str++ [V.str g]=(r.copies++ [g]).map V.str:=by simp
  rw[N];have X:((r.copies++ [g]).map V.str).length=r.copies.length+1:=by simp
  rw[X];exact M c.1 c.2 _ _ _ (p.copy D u g) (w6.upd (bJM (bK5 D)) _) qA.refl
theorem aYJ:yM ["self","number","letter"] ["self","number"] (yH aJB):=scM
theorem aKY(T:vH mg)(cl:Cl K CB CL)(e:MG P w K mg base (CXR P w) (n+1) CB "letter_at" ["self","number"] (aY0 K Rf CB CL))(d:MG P w K mg base CX0 (n+1) CB "answers_to" ["self","letter"] (aJS CB CL))(g:MG P w K mg base CX0 (n+1) CL "make_void" ["self"] (bZR CL))(a:ExG P w K mg base n "Answered" Rf.1 C1 "answered") (F:Fun K "cancel" "Book.cancel" aJB f fd):y8 P w K mg base (CXR P w) (n+2) f fd ["self","number"] (aVw K Rf CB CL):=by
 have sc:=aYJ;refine F.okX (k:=n+1) sc (λa0 A outer s H vs Q E q h=>?_);obtain⟨u,J,C,v,D,R,S,m,rfl,o,hR,X,N⟩:=h;refine⟨_,(yC (yT (i:=2) (vN e q zL (pv 0) (yA (pv 1) yD))) (yC (y6 (yN aQV (yU yQ rfl T.b_len xD (yA (vN d q vM (pv 0) (yA (pv 2) yD)) yD)) yE) (yF (zO a q rfl)) yR) (yF (yY (bXs g q vM (pv 2)))))),?_⟩;obtain⟨L,I⟩:=o.book;refine⟨_,rfl,u,L,_,rfl,I,rfl,_,rfl,u,J,C,v,D,R,S,m,rfl,o,λk r b W B hv y=>?_,X⟩;obtain⟨M,Y,g1,t,Z,⟨j,G⟩,g5⟩:=o.get B;obtain rfl:b=M:=bK8 (y.symm.trans t);obtain⟨U,O⟩:=N k r W B hv;dsimp only[yX];refine⟨_,rfl,u,L,_,rfl,I,rfl,_,rfl,u,J,C,v,D,R,S,k,b,rfl,o,t,hR,λl hl=>?_⟩;refine⟨l,_,rfl,.inl (SqL.of yB),_,_,rfl,rfl,_,rfl,?_⟩;have p:=yG hl (.lst ((Bk.zU R k).map λk=>(v.map V.ref).getD k .non));rw[bKT];refine qB (λc=>?_) (λc=>?_)
 ·refine((U λz=>?_).go (aW3.of p)).raise a;have:=of_decide_eq_true c;rw[z]at this;simp at this
 ·have x:Bk.zU R k= []:=by
   have:=of_decide_eq_false (Bool.eq_false_iff.mpr c);exact cXF (by omega)
  refine⟨_,rfl,b,j,_,rfl,p _ _ G,rfl,b,j,k,r,Y,rfl,p _ _ G,?_⟩;exact O x _ _ _ ((o.same p).set t Z B (λr=>{r with link:=none,void:=true}) rfl) ((w6.of p).trans (w6.upd (aJs (bK5 t)) _)) qA.refl
theorem bVi:yM ["self","day"] ["self","day"] (yH bJ5):=scM
theorem bJH(cl:Cl K CB CL)(c:FnG P w K mg base (n+1) "counts" ["shut","date"] (Days.aVz K))(a:ExG P w K mg base n "CountsNot" Rf.1 C1 "counts not") (F:Fun K "shut_day" "Book.shut_day" bJ5 f fd):y8 P w K mg base (CXR P w) (n+2) f fd ["self","day"] (bZQ K Rf CB CL):=by
 have t:=bVi;refine F.okX (k:=n+1) t (λu A outer s H z Q E g h=>?_);obtain⟨j,B,i,v,y,R,S,d,rfl,e,x,r,p⟩:=h;refine⟨_,(yC (y6 (uB (x3 (xJ c g rfl (yA (yZ (pv 0) rfl) (yA (pv 1) yD))))) (yF (zO a g rfl)) yR) (yF (yY (uF bYn bYt bYu xG (yZ (pv 0) rfl) (yA (pv 1) yD))))),?_⟩;obtain⟨o,l⟩:=e.book;refine⟨_,rfl,j,CB,o,_,_,rfl,l,cl.b,cl.shut,rfl,_,rfl,i,S,d,rfl,SqL.of e.sht,_,rfl,?_⟩;cases m:Dm.cts S d with
 |false=>exact onT rfl ((r m).raise a)
 |true=>
  refine onF rfl ⟨_,rfl,j,CB,o,_,_,rfl,l,cl.b,cl.shut,rfl,.inl ⟨rfl,_,SqL.of e.sht⟩,_,rfl,i,_,_,rfl,rfl,e.sht,zlt (by rw[bKT];omega),?_⟩;have q:S.map V.int++ [V.int d]=(S++ [d]).map V.int:=by simp
  rw[q];exact p m _ _ _ (e.shutD d) (w6.upd aYa _) qA.refl
theorem aYQ:yM ["self","number","day","letter","reply"] ["self","number","day"] (yH aJF):=scM
theorem aK5(cl:Cl K CB CL)(g:MG P w K mg base (CXR P w) n CB "letter_at" ["self","number"] (aY0 K Rf CB CL))(p:MG P w K mg base CX0 n CB "answers_to" ["self","letter"] (aJS CB CL))(a:FnX P w K mg base n "check_days" ["asked_day","reply_day"] (aXK K Rf)) (F:Fun K "put_day" "Book.put_day" aJF f fd):y8 P w K mg base (CXR P w) (n+1) f fd ["self","number","day"] (aVE K Rf CB CL):=by
 have sc:=aYQ;refine F.okX (k:=n) sc (λa6 A outer s H vs Q E L h=>?_);obtain⟨B,la,sa,D,cs,R,S,m,d,rfl,y,hR,a4,q1,q2⟩:=h;refine⟨_,(yC (yT (i:=3) (vN g L zL (pv 0) (yA (pv 1) yD))) (yC (y6 (yN wG (yZ (pv 3) rfl) x9) (yF (yY (aQl a L rfl (yA (yZ (vN g L zL (pv 0) (yA (yZ (pv 3) rfl) yD)) rfl) (yA (pv 2) yD))))) yR) (yC (wE PassesOwn.leaving rfl (xI (vN p L vM (pv 0) (yA (pv 3) yD))) (y9 (i:=4)) (yF (yY (aQl a L rfl (yA (pv 2) (yA (yZ (pv 4) rfl) yD)))))) (yF (zF (pv 3) (pv 2) rfl))))),?_⟩;obtain⟨dx,hb⟩:=y.book;refine⟨_,rfl,B,dx,_,rfl,hb,rfl,_,rfl,B,la,sa,D,cs,R,S,m,rfl,y,λk r b em hk hv a3=>?_,q1⟩;obtain⟨b',cc,g1,g2,g3,⟨C,g4⟩,g5⟩:=y.get hk;obtain rfl:b=b':=bK8 (a3.symm.trans g2);obtain⟨q3,q4⟩:=q2 k r em hk hv;dsimp only[yX];refine x4 (λN H'=>N= [some (.ref B),some (.int m),some (.int d),some (.ref b),none]/\H'=H/\∀j,r.link=some j->Bk.dt R j<=d) ?_ λjn=>?_
 ·rintro N H' ⟨rfl,rfl,Z⟩;refine⟨_,rfl,B,dx,_,rfl,hb,rfl,_,rfl,B,la,sa,D,cs,R,S,k,b,rfl,y,g2,hR,λl hl=>?_⟩;have X:=yG hl (.lst ((Bk.zU R k).map λk=>(D.map V.ref).getD k .non));refine⟨l,rfl,⟨_,SqL.of yB⟩,?_⟩;refine zI (xs:=(Bk.zU R k).map λk=>(D.map V.ref).getD k .non) (λt σ H1=>∃o:Option V,σ= [some (.ref B),some (.int m),some (.int d),some (.ref b),o]/\H1=upd H' l (.lst ((Bk.zU R k).map λk=>(D.map V.ref).getD k .non))/\∀i c,i<t->(Bk.zU R k)[i]? =some c->d<=Bk.dt R c) ?_ ?_ ?_ ?_
  ·exact⟨none,rfl,rfl,λi c z=>absurd z (cQw _)⟩
  ·rintro t σ H1 ht ⟨o,rfl,rfl,hd⟩;exact SqL.of yB
  ·rintro t x σ H1 Y ⟨o,rfl,rfl,hd⟩;rw[bK7]at Y;cases J:(Bk.zU R k)[t]? with
   |none=>rw[J]at Y;cases Y
   |some c=>
    rw[J]at Y;have T:=bK5 J;have a0:c<R.length:=bYj.mp (bYP.mp T).1;have G:=bKM a0;obtain⟨bc,c2,f1,f2,f3,⟨a1,f4⟩,f5⟩:=(y.same X).get G;have ex:(D.map V.ref).getD c .non= .ref bc:=by simp only[bYz,f1];rfl
    obtain rfl:x= .ref bc:=by have z:=bK8 Y;rw[<- z];exact ex
    dsimp only[yX];refine⟨_,rfl,_,rfl,bc,CL,a1,_,_,rfl,f4,cl.l,cl.day,rfl,d,R[c].date,rfl,λq=>?_,λq=>?_⟩
    ·refine⟨_,rfl,rfl,λi c' hi I=>?_⟩;by_cases e:i=t
     ·subst e;rw[J]at I;cases I;rw[Bk.wY G];exact q
     ·exact hd i c' (by omega) I
    ·exact(q3 (.inr ⟨c,T,by rw[Bk.wY G];exact q⟩)).go (aW3.of X)
  ·rintro σ H1 ⟨o,rfl,rfl,hd⟩;have W:∀c∈Bk.zU R k,d<=Bk.dt R c:=λc J=>by
    obtain⟨i,hi,e⟩:=bYC J;exact hd i c (by rw[bKT];exact hi) (by rw[bKM hi,e])
   refine⟨_,rfl,_,rfl,b,CL,C,_,rfl,X _ _ g4,cl.l,cl.day,(show 9<1000 by decide),?_⟩;exact q4 Z W _ _ _ ((y.same X).set g2 g3 hk (λr=>{r with date:=d}) rfl) ((w6.of X).trans (w6.upd (aJs (bK5 g2)) _)) qA.refl
 ·refine⟨_,rfl,b,CL,C,_,_,rfl,g4,cl.l,cl.link,rfl,rfl,_,rfl,?_⟩;cases v:r.link with
  |none=>exact onF rfl (jn _ _ ⟨rfl,rfl,λj Z=>by rw[v]at Z;cases Z⟩)
  |some j=>
   obtain⟨qj,u,a5⟩:=a4.ans k j r hk v;obtain⟨bj,cj,f1,f2,f3,⟨a2,f4⟩,f5⟩:=y.get u;refine onT rfl ⟨_,rfl,B,dx,_,rfl,hb,rfl,_,rfl,b,CL,C,_,_,rfl,g4,cl.l,cl.link,rfl,?_⟩;rw[v];refine⟨B,la,sa,D,cs,R,S,(j:Nat),rfl,y,λk2 r2 b2 e2 O a7 M=>?_,λhg=>?_⟩
   ·obtain rfl:j=k2:=by omega
    rw[u]at O;cases O;rw[f2]at M;cases M;refine⟨bj,CL,a2,_,_,rfl,f4,cl.l,cl.day,rfl,_,rfl,qj.date,d,rfl,λq=>?_,λq=>?_⟩
    ·refine jn _ _ ⟨rfl,rfl,λj' U=>?_⟩;rw[v]at U;cases U;rw[Bk.wY u];exact q
    ·exact q3 (.inl ⟨j,v,by rw[Bk.wY u];exact q⟩)
   ·rw[qH u a5.2.1]at hg;cases hg
end
end Desk
namespace Desk
open PySem L2 PyProof.Rows
open Bk (Row Rows)
open Thr (z9 vL qG)
theorem bQm{R:Rows}(b:Bk.qP R){rk:Nat->Nat}(o:Fm.Ok R.length (Bk.lk R) rk){i:Nat}(f:i<R.length):∀r q,R[i]? =some r->R[Fm.tp (Bk.lk R) rk i]? =some q->r.void=q.void:=
 Fm.aXa o (P:=λi=>∀r q,R[i]? =some r->R[Fm.tp (Bk.lk R) rk i]? =some q->r.void=q.void)
  (λi _ h r q c d=>by rw[Fm.zR h,c]at d;cases d;rfl)
  (λi j f h g r q c d=>by
   rw[Bk.vY c]at h;obtain⟨k,e,a⟩:=b.ans i j r c h;rw[Fm.v9 o f (by rw[Bk.vY c];exact h)]at d;rw[a.1,<- g k q e d,a.2.1]) (rk i) i (bKU _) f
theorem bX9{R:Rows}(b:Bk.qP R){k j:Nat}{r:Row}(f:R[k]? =some r)(i:r.void=false)(g:j∈Bk.thr R k):∃q,R[j]? =some q/\q.void=false:=by
 obtain⟨l,o,_,h⟩:=Bk.Z4 b.tree k;obtain⟨a,d⟩:=(h j).mp g;have c:=Bk.wC f;have e:=(Fm.bQj o c).1;refine⟨_,bKM a,?_⟩;rw[bQm b o a _ _ (bKM a) (by rw[d];exact bKM e),<- bQm b o c _ _ f (bKM e)];exact i
theorem bVx{R:Rows}(t:Bk.uT R){i j:Nat}{r:Row}(f:R[i]? =some r)(hl:r.link=none)(a:j<R.length):j∈Bk.thr R i↔(Bk.thr R j).head? =some i:=by
 obtain⟨h,o,c⟩:=Bk.jD t a;obtain⟨b,e,_,g⟩:=Bk.Z4 t i;rw[g j,c];have d:Fm.tp (Bk.lk R) b i=i:=Fm.zR (by rw[Bk.vY f];exact hl);rw[d,Fm.jY e o a];exact⟨λz=>by rw[z.2],λz=>⟨a,bK8 z⟩⟩
def jC(K:bKP)(Rf:Nat×Nat)(d CL:Nat):Sp:=λj H Q E=>∃ (c n f:Nat)(e g:List Nat)(R:Rows)(S:List Int)(m:Int),j= [.ref c,.int m]/\PB d CL H c n f e g R S/\R.length<64/\Bk.uT R/\z9 Rf.2 H/\
 (Bk.zZ R m=false->xC K Rf H E "no letter")/\∀ (k:Nat)(r:Row),m=(k:Int)->R[k]? =some r->r.void=false->∀ (a:Hp)(l:Nat),(∀b u,(∀h,u≠HO.tbl h)->H b=some u->b≠l)->x2 H a->z9 Rf.2 a->a l=some (.lst ((Bk.thr R k).map λi=>V.int (i:Nat)))->Q (.ref l) a
def bVC(T d CL e la sa:Nat)(ls cs:List Nat)(H:Hp)(f:Rows)(g:List Int)(q:Hp->Prop):Prop:=∀ (c:Hp)(b a:List Nat),PB d CL c e la sa b a f g->qR (own la sa ls cs) H c->qA H (own la sa ls cs) (own la sa b a)->z9 T c->q c
def bVq(K:bKP)(Rf:Nat×Nat)(h CL:Nat):Sp:=λi H Q E=>∃ (f g d:Nat)(c e:List Nat)(R:Rows)(S:List Int)(m:Int)(a:Str),i= [.ref f,.int m,.str a]/\PB h CL H f g d c e R S/\R.length<64/\Bk.qP R/\z9 Rf.2 H/\
 (Bk.zZ R m=false->xC K Rf H E "no letter")/\∀ (k:Nat)(r:Row),m=(k:Int)->R[k]? =some r->r.void=false->∀ (b:Hp),PB h CL b f g d c e (Bk.laid R (Bk.thr R k) a) S->qR (own g d c e) H b->z9 Rf.2 b->Q (.int ((Bk.thr R k).length:Nat)) b
section
variable {K:bKP}
abbrev qN:Stmt:=xB "Book" "thread_of"
abbrev bKd:Stmt:=xB "Book" "lay_thread"
theorem aJQ:yM ["self","number","links","dates"] ["self","number"] (yH qN):=scM
theorem aQa:xH ["self","number","links","dates"] (yH qN) "letter" [] [] {kind:= .function,names:= [(".0",.local),("letter",.local)],isGenerator:=false,isCoroutine:=false,more:= [] }:=
 lcM
theorem aJr(cl:Cl K CB CL)(a:MG P w K mg base (CXR P w) n CB "letter_at" ["self","number"] (aY0 K Rf CB CL))(d:FnG P w K mg base n "thread" ["links","dates","number"] (Thr.aVG Rf.2)) (F:Fun K "thread_of" "Book.thread_of" qN f fd):y8 P w K mg base (CXR P w) (n+1) f fd ["self","number"] (jC K Rf CB CL):=by
 have Z:=aJQ;refine F.okX (k:=n) Z (λa2 A outer s H vs Q E hr h=>?_);obtain⟨N,W,sa,ls,cs,R,S,m,rfl,y,hR,hT,tb,q1,q2⟩:=h;refine⟨_,(yC (yY (vN a hr zL (pv 0) (yA (pv 1) yD))) (yC (aZx (i:=2) aQa rfl Z.nd rfl rfl (xI (yZ (pv 0) rfl)) (λ_ _ _ _ _=>z7) (λ_ _ _ _ _=>(aQk (K:=K) (pv 0) rfl))) (yC (aZx (i:=3) aQa rfl Z.nd rfl rfl (xI (yZ (pv 0) rfl)) (λ_ _ _ _ _=>z7) (λ_ _ _ _ _=>(aQk (K:=K) (pv 0) rfl))) (yF (yP (xJ d hr rfl (yA (pv 2) (yA (pv 3) (yA (pv 1) yD))))))))),?_⟩;obtain⟨X,Y⟩:=y.book;have hl:(ls.map V.ref).length=R.length:=by rw[bKT];exact y.len
 refine⟨_,rfl,N,X,_,rfl,Y,rfl,_,rfl,N,W,sa,ls,cs,R,S,m,rfl,y,λk r b em hk p a3=>?_,q1⟩;subst em;have L:=Bk.wC hk;have x:(bK0 R.length).filter (λ_=>true)=bK0 R.length:=cXv.mpr λ_ _=>rfl;refine⟨_,rfl,N,CB,X,_,_,rfl,Y,cl.b,cl.letters,rfl,W,rfl,⟨_,SqL.of y.lst⟩,λD hD=>?_⟩;refine aWa (λ_=>true) (λi=>Thr.wL (Bk.lk R i)) (SqL.of y.lst) hD (zn (by omega)) (λj v p H' T I c=>c) (λj v p _ H' T I c=>?_) ?_
 ·have O:j<R.length:=by rw[<- hl];exact(bKZ.mp p).1
  have g:=bKM O;obtain⟨J,c2,q,G,k3,⟨C,M⟩,k5⟩:=y.get g;obtain rfl:v= .ref J:=bK8 (p.symm.trans q);rw[Bk.vY g]at c;exact⟨_,rfl,J,CL,C,_,_,rfl,(I _ (yJ M hD)).trans M,cl.l,cl.link,rfl,c⟩
 rw[hl,x];dsimp only[yX];have q:=yG hD (.lst ((bK0 R.length).map λi=>Thr.wL (Bk.lk R i)));have B:=y.same q;refine⟨_,rfl,N,CB,X,_,_,rfl,q _ _ Y,cl.b,cl.letters,rfl,W,rfl,⟨_,SqL.of B.lst⟩,λD2 z=>?_⟩;refine aWa (λ_=>true) (λi=>V.int (Bk.dt R i)) (SqL.of B.lst) z (zn (by omega)) (λj v p H' T I c=>c) (λj v p _ H' T I c=>?_) ?_
 ·have O:j<R.length:=by rw[<- hl];exact(bKZ.mp p).1
  have g:=bKM O;obtain⟨J,c2,q,G,k3,⟨C,M⟩,k5⟩:=B.get g;obtain rfl:v= .ref J:=bK8 (p.symm.trans q);rw[Bk.wY g]at c;exact⟨_,rfl,J,CL,C,_,_,rfl,(I _ (yJ M z)).trans M,cl.l,cl.day,rfl,c⟩
 rw[hl,x];dsimp only[yX];have G:=yG z (.lst ((bK0 R.length).map λi=>V.int (Bk.dt R i)));obtain⟨rk,o⟩:=hT;have a0:z9 Rf.2 (upd (upd H D (.lst ((bK0 R.length).map λi=>Thr.wL (Bk.lk R i)))) D2 (.lst ((bK0 R.length).map λi=>V.int (Bk.dt R i)))):=by
  have U:=q.trans G;rcases tb with t|⟨c',t1,t2⟩
  ·exact .inl (U _ _ t)
  ·exact .inr ⟨c',U _ _ t1,U _ _ t2⟩
 refine⟨_,rfl,_,rfl,_,rfl,D,D2,R.length,Bk.lk R,rk,Bk.dt R,k,rfl,G _ _ yB,yB,o,by omega,L,a0,λH3 r3 a1 n3 k3 t3 h3 hp hm=>?_⟩;have e:=Bk.aZO L ⟨rk,o,hp,hm⟩;refine q2 k r rfl hk p H3 r3 (λb u nt e=>n3 b u nt ((q.trans G) _ _ e)) ((q.trans G).t.trans k3) t3 ?_;rw[e];exact h3
end
end Desk
namespace Desk
open PySem L2 PyProof.Rows
open Bk (Row Rows)
open Thr (z9 vL qG)
theorem xR{T:Nat}{o:List Nat}{H f:Hp}(t:z9 T H)(k:w6 o H f)(j:∀b∈o,∀u,H b=some u->(∃a,u= .lst a)\/∃C c fs,u= .ins C c fs):z9 T f:=by
 have no:∀b u,H b=some u->(∀a,u≠ .lst a)->(∀C c fs,u≠ .ins C c fs)->b∉o:=λb u e l i z=>by
  rcases j b z u e with⟨a,q⟩|⟨C,c,fs,q⟩
  ·exact l _ q
  ·exact i _ _ _ q
 rcases t with t|⟨h,g,d⟩
 ·exact .inl (k _ _ (no _ _ t (by intro _ z;cases z) (by intro _ _ _ z;cases z)) t)
 ·exact .inr ⟨h,k _ _ (no _ _ g (by intro _ z;cases z) (by intro _ _ _ z;cases z)) g,k _ _ (no _ _ d (by intro _ z;cases z) (by intro _ _ _ z;cases z)) d⟩
theorem PB.kinds{m CL:Nat}{H:Hp}{r la sa:Nat}{ls cs:List Nat}{R:Rows}{S:List Int}(h:PB m CL H r la sa ls cs R S):∀b∈own la sa ls cs,∀u,H b=some u->(∃n,u= .lst n)\/∃C k fs,u= .ins C k fs:=λb a u e=>by
 rcases bKW.mp a with rfl|a
 ·rw[h.lst]at e;cases e;exact .inl ⟨_,rfl⟩
 rcases bKW.mp a with rfl|a
 ·rw[h.sht]at e;cases e;exact .inl ⟨_,rfl⟩
 rcases bYs.mp a with a|a
 ·obtain⟨i,c,q⟩:=bYC a;obtain⟨l,p,o,d,f,⟨k,j⟩,g⟩:=h.get (bKM (show i<R.length by rw[<- h.len];exact c));rw[bKM c,q]at d;cases d;rw[j]at e;cases e;exact .inr ⟨_,_,_,rfl⟩
 ·obtain⟨i,c,q⟩:=bYC a;obtain⟨l,p,o,d,f,j,g⟩:=h.get (bKM (show i<R.length by rw[<- h.clen];exact c));rw[bKM c,q]at f;cases f;rw[g]at e;cases e;exact .inl ⟨_,rfl⟩
theorem PB.notown{m CL:Nat}{H:Hp}{s la sa:Nat}{ls cs:List Nat}{R:Rows}{S:List Int}(h:PB m CL H s la sa ls cs R S){l:Nat}(n:∀b u,(∀r,u≠HO.tbl r)->H b=some u->b≠l):l∉own la sa ls cs:=λa=>by
 rcases bKW.mp a with e|a
 ·exact n la _ (by intro _ z;cases z) h.lst e.symm
 rcases bKW.mp a with e|a
 ·exact n sa _ (by intro _ z;cases z) h.sht e.symm
 rcases bYs.mp a with a|a
 ·obtain⟨i,c,q⟩:=bYC a;obtain⟨k,p,o,d,f,⟨t,j⟩,g⟩:=h.get (bKM (show i<R.length by rw[<- h.len];exact c));rw[bKM c,q]at d;cases d;exact n l _ (by intro _ z;cases z) j rfl
 ·obtain⟨i,c,q⟩:=bYC a;obtain⟨k,p,o,d,f,j,g⟩:=h.get (bKM (show i<R.length by rw[<- h.clen];exact c));rw[bKM c,q]at f;cases f;exact n l _ (by intro _ z;cases z) g rfl
theorem PB.notnone{a CL:Nat}{H:Hp}{c la sa:Nat}{ls cs:List Nat}{R:Rows}{S:List Int}(h:PB a CL H c la sa ls cs R S){l:Nat}(n:H l=none):l∉own la sa ls cs:=h.notown λb u _ e=>yJ e n
theorem bXw{j:Nat}{q:Row}{c:Nat}{name:Str}(b:q.void=false):aQW "file" (.str name) (aZk j q c)=aZk j {q with place:=name} c:=by
 have a:qX {q with place:=name}= .str name:=aXi (r:={q with place:=name}) b;unfold aZk;rw[a];rfl
theorem Q9(R:Rows)(l:List Nat)(k:Nat)(name:Str):Bk.laid R (l++ [k]) name=Bk.xP (Bk.laid R l name) k λr=>{r with place:=name}:=by
 unfold Bk.laid;rw[cZV];rfl
theorem aZh{R:Rows}{l:List Nat}{name:Str}{j:Nat}{q:Row}(h:R[j]? =some q):∃a,(Bk.laid R l name)[j]? =some a/\a.void=q.void:=by
 rw[Bk.vX,h];by_cases e:j∈l
 ·rw[if_pos e];exact⟨_,rfl,rfl⟩
 ·rw[if_neg e];exact⟨q,rfl,rfl⟩
def aY1(K:bKP)(Rf:Nat×Nat)(f CL:Nat):Sp:=λk H Q E=>∃ (d l g:Nat)(a h:List Nat)(R:Rows)(S:List Int)(i j:Nat)(b e:Nat)(r q:Row),k= [.ref d,.ref b,.ref e]/\PB f CL H d l g a h R S/\R.length<64/\Bk.uT R/\z9 Rf.2 H/\
 R[i]? =some r/\r.void=false/\R[j]? =some q/\q.void=false/\a[i]? =some b/\a[j]? =some e/\(r.link≠none->xC K Rf H E "has one")/\(r.link=none->(Bk.thr R j).head? =some i->xC K Rf H E "own thread")/\
 (r.link=none->(Bk.thr R j).head? ≠some i->(r.way=q.way->xC K Rf H E "same way")/\(r.way≠q.way->(r.partner≠q.partner->xC K Rf H E "other partner")/\(r.partner=q.partner->(r.date<q.date->xC K Rf H E "too early")/\(q.date<=r.date->∀c,x2 H c->z9 Rf.2 c->Q .non c))))
section
variable {K:bKP}
theorem bWr:yM ["self","number","name","numbers","member","letter"] ["self","number","name"] (yH bKd):=scM
theorem bWb(T:vH mg)(cl:Cl K CB CL)(a:MG P w K mg base (CXR P w) n CB "thread_of" ["self","number"] (jC K Rf CB CL))(F:Fun K "lay_thread" "Book.lay_thread" bKd f fd):y8 P w K mg base (CXR P w) (n+1) f fd ["self","number","name"] (bVq K Rf CB CL):=by
 have sc:=bWr;refine F.okX (k:=n) sc (λa2 A outer s H vs Q E hr h=>?_);obtain⟨y,J,W,ls,N,R,S,m,d,rfl,X,hR,v,tb,q1,q2⟩:=h;refine⟨_,(yC (yT (i:=3) (vN a hr zL (pv 0) (yA (pv 1) yD))) (yC (wE PassesOwn.leaving rfl (xI (pv 3)) (y9 (i:=4)) (yC (yT (i:=5) (yL yK (yZ (pv 0) rfl) (pv 4))) (yF (zF (pv 5) (pv 2) rfl)))) (yF (yP (yU yQ rfl T.b_len xD (yA (pv 3) yD)))))),?_⟩;obtain⟨dx,hb⟩:=X.book;refine⟨_,rfl,y,dx,_,rfl,hb,rfl,_,rfl,y,J,W,ls,N,R,S,m,rfl,X,hR,v.tree,tb,q1,λk r em Y hv H1 l _ k1 t1 hl=>?_⟩;dsimp only[yX];have B:=X.sameT k1;have a3:=Bk.wC Y;refine⟨_,rfl,l,rfl,⟨_,SqL.of hl⟩,?_⟩;refine zI (xs:=(Bk.thr R k).map λi=>V.int (i:Nat)) (λt σ p=>∃M I:Option V,σ= [some (.ref y),some (.int m),some (.str d),some (.ref l),M,I]/\PB CB CL p y J W ls N (Bk.laid R ((Bk.thr R k).take t) d) S/\w6 (own J W ls N) H1 p/\p l=some (.lst ((Bk.thr R k).map λi=>V.int (i:Nat)))) ?_ ?_ ?_ ?_
 ·exact⟨none,none,rfl,B,λb u _ e=>e,hl⟩
 ·rintro t σ p ht ⟨M,I,rfl,g,C,o⟩;exact SqL.of o
 ·rintro t x σ p G ⟨M,I,rfl,g,C,o⟩;rw[bK7]at G;cases L:(Bk.thr R k)[t]? with
  |none=>rw[L]at G;cases G
  |some j=>
   rw[L]at G;cases G;obtain⟨qj,a0,Z⟩:=bX9 v Y hv (bK5 L);obtain⟨q',q,D⟩:=aZh (l:=(Bk.thr R k).take t) (name:=d) a0;rw[Z]at D;obtain⟨b,c,g1,g2,g3,⟨U,g4⟩,g5⟩:=g.get q;obtain⟨a1,O⟩:=g.book;dsimp only[yX];refine⟨_,rfl,y,CB,a1,_,_,rfl,O,cl.b,cl.letters,rfl,_,rfl,J,_,_,_,rfl,rfl,SqL.of g.lst,yS g1,?_⟩;dsimp only[yX];refine⟨_,rfl,_,rfl,b,CL,U,_,rfl,g4,cl.l,cl.file,(show 9<1000 by decide),_,_,rfl,?_,C.trans (w6.upd (aJs (bK5 g2)) _),?_⟩
   ·rw[bXw D,show(Bk.thr R k).take (t+1)=(Bk.thr R k).take t++ [j]from by rw[bY0,L];rfl,Q9];exact g.set g2 g3 q (λr=>{r with place:=d}) rfl
   ·rw[yI (λz=>by rw[z,g4]at o;cases o)];exact o
 ·rintro σ p ⟨M,I,rfl,g,C,o⟩;rw[bKT,bYR]at g;refine⟨_,rfl,l,_,rfl,.inl (SqL.of o),?_⟩;rw[bKT];exact q2 k r em Y hv p g ((qR.of k1).trans C.t) (xR t1 C B.kinds)
abbrev aYp:Stmt:=xB "Book" "check_hanging"
abbrev bJY:Stmt:=xB "Book" "hang"
theorem bXH:yM ["self","letter","asked"] ["self","letter","asked"] (yH aYp):=scM
theorem aJ4(d:Nat):∀ns:List Nat,inV (.int (d:Nat)) (ns.map λi=>V.int (i:Nat))=ns.contains d
 |[]=>rfl
 |n::r=>by have a:=aJ4 d r;unfold inV at a ⊢;rw[bYx,cQ2,a,cQ5];congr 1;show((n:Int)==(d:Int))=(d==n);rw[Bool.eq_iff_iff,beq_iff_eq,beq_iff_eq];omega
theorem aX4:∀ns:List Nat,(ns.map λi=>V.int (i:Nat)).all Z7=true
 |[]=>rfl
 |n::r=>by rw[bYx,cXX,aX4 r];rfl
theorem bQ8(cl:Cl K CB CL)(o:MG P w K mg base (CXR P w) (n+1) CB "thread_of" ["self","number"] (jC K Rf CB CL))(g:FnX P w K mg base (n+1) "check_days" ["asked_day","reply_day"] (aXK K Rf)) (m:ExG P w K mg base n "HasOne" Rf.1 C1 "has one") (d:ExG P w K mg base n "OwnThread" Rf.1 C2 "own thread") (e:ExG P w K mg base n "SameWay" Rf.1 C3 "same way") (a:ExG P w K mg base n "OtherPartner" Rf.1 C4 "other partner") (F:Fun K "check_hanging" "Book.check_hanging" aYp f fd):y8 P w K mg base (CXR P w) (n+2) f fd ["self","letter","asked"] (aY1 K Rf CB CL):=by
 have sc:=bXH;refine F.okX (k:=n+1) sc (λa1 A outer s H vs Q E C h=>?_);obtain⟨ba,la,sa,ls,cs,R,S,i,j,b,D,r,q,rfl,I,hR,Z,tb,U,hv,hj,hw,W,M,q1,q2,q3⟩:=h;refine⟨_,(yC (y6 (yN wG (yZ (pv 1) rfl) x9) (yF (zO m C rfl)) yR) (yC (y6 (yN wS (yZ (pv 2) rfl) (vN o C zL (pv 0) (yA (yZ (pv 1) rfl) yD))) (yF (zO d C rfl)) yR) (yC (y6 (yN x5 (yZ (pv 1) rfl) (yZ (pv 2) rfl)) (yF (zO e C rfl)) yR) (yC (y6 (yN aZs (yZ (pv 1) rfl) (yZ (pv 2) rfl)) (yF (zO a C rfl)) yR) (yF (yY (aQl g C rfl (yA (yZ (pv 2) rfl) (yA (yZ (pv 1) rfl) yD))))))))),?_⟩;obtain⟨dx,hb⟩:=I.book;obtain⟨b',c1,g1,g2,g3,⟨p,X⟩,g5⟩:=I.get U;obtain rfl:b=b':=bK8 (W.symm.trans g2);obtain⟨O,c2,f1,f2,f3,⟨u,f4⟩,f5⟩:=I.get hj;obtain rfl:D=O:=bK8 (M.symm.trans f2);refine⟨_,rfl,b,CL,p,_,_,rfl,X,cl.l,cl.link,rfl,rfl,_,rfl,?_⟩;cases t:r.link with
 |some x=>exact onT rfl ((q1 (by rw[t];simp)).raise m)
 |none=>
  have Y:=q2 t;have T:=q3 t;refine onF rfl ⟨_,rfl,D,CL,u,_,_,rfl,f4,cl.l,cl.number,rfl,_,rfl,ba,dx,_,rfl,hb,rfl,_,rfl,b,CL,p,_,_,rfl,X,cl.l,cl.number,rfl,?_⟩;refine⟨ba,la,sa,ls,cs,R,S,(i:Nat),rfl,I,hR,Z,tb,(λhg=>by rw[qH U hv]at hg;cases hg),λk r' em hk a0 H1 l _ B G hl=>?_⟩;obtain rfl:i=k:=by omega
  refine⟨l,_,rfl,.inl (SqL.of hl),rfl,aX4 _,_,rfl,?_⟩;rw[if_neg (by decide),aJ4];have N:=Bk.wC hj;have own:=bVx Z U t N;have y:=B _ _ (λ_ z=>by cases z) X;have v:=B _ _ (λ_ z=>by cases z) f4;refine qB (λc=>?_) (λc=>?_)
  ·exact((Y (own.mp (cQm.mp c))).go ⟨B,λ_=>G⟩).raise d
  ·have J:(Bk.thr R j).head? ≠some i:=λz=>c (cQm.mpr (own.mpr z));obtain⟨q4,q5⟩:=T J;refine⟨_,rfl,b,CL,p,_,_,rfl,y,cl.l,cl.way,rfl,_,rfl,D,CL,u,_,_,rfl,v,cl.l,cl.way,rfl,rfl,_,rfl,?_⟩;have e1:decide (V.str r.way=V.str q.way)=decide (r.way=q.way):=by rw[Bool.eq_iff_iff];simp
   rw[e1];refine qB (λc=>?_) (λc=>?_)
   ·exact((q4 (of_decide_eq_true c)).go ⟨B,λ_=>G⟩).raise e
   ·obtain⟨q6,q7⟩:=q5 (of_decide_eq_false (Bool.eq_false_iff.mpr c));refine⟨_,rfl,b,CL,p,_,_,rfl,y,cl.l,cl.partner,rfl,_,rfl,D,CL,u,_,_,rfl,v,cl.l,cl.partner,rfl,rfl,_,rfl,?_⟩;have e2:decide (V.str r.partner=V.str q.partner)=decide (r.partner=q.partner):=by rw[Bool.eq_iff_iff];simp
    rw[e2];cases hp:decide (r.partner=q.partner)with
    |false=>exact onT rfl (((q6 (of_decide_eq_false hp)).go ⟨B,λ_=>G⟩).raise a)
    |true=>obtain⟨q8,q9⟩:=q7 (of_decide_eq_true hp);refine onF rfl ⟨_,rfl,D,CL,u,_,_,rfl,v,cl.l,cl.day,rfl,_,rfl,b,CL,p,_,_,rfl,y,cl.l,cl.day,rfl,q.date,r.date,rfl,λL=>q9 L H1 B G,λL=>(q8 L).go ⟨B,λ_=>G⟩⟩
def bZL(K:bKP)(Rf:Nat×Nat)(b CL:Nat):Sp:=λg H Q E=>∃ (a f d:Nat)(c e:List Nat)(R:Rows)(S:List Int)(m o:Int),g= [.ref a,.int m,.int o]/\PB b CL H a f d c e R S/\R.length<64/\Bk.qP R/\z9 Rf.2 H/\
 (Bk.zZ R m=false\/Bk.zZ R o=false->xC K Rf H E "no letter")/\∀ (i j:Nat)(r q:Row),m=(i:Int)->o=(j:Int)->R[i]? =some r->r.void=false->R[j]? =some q->q.void=false->
 (r.link≠none->xC K Rf H E "has one")/\(r.link=none->(Bk.thr R j).head? =some i->xC K Rf H E "own thread")/\
 (r.link=none->(Bk.thr R j).head? ≠some i->(r.way=q.way->xC K Rf H E "same way")/\(r.way≠q.way->(r.partner≠q.partner->xC K Rf H E "other partner")/\(r.partner=q.partner->(r.date<q.date->xC K Rf H E "too early")/\ (q.date<=r.date->bVC Rf.2 b CL a f d c e H (Bk.xP (Bk.laid R (Bk.thr R i) q.place) i λr=>{r with link:=some j}) S (Q .non)))))
theorem bVb:yM ["self","number","other","letter","asked"] ["self","number","other"] (yH bJY):=scM
theorem bJz(cl:Cl K CB CL)(a:MG P w K mg base (CXR P w) n CB "letter_at" ["self","number"] (aY0 K Rf CB CL))(c:MG P w K mg base (CXR P w) n CB "check_hanging" ["self","letter","asked"] (aY1 K Rf CB CL))(d:MG P w K mg base (CXR P w) n CB "lay_thread" ["self","number","name"] (bVq K Rf CB CL)) (F:Fun K "hang" "Book.hang" bJY f fd):y8 P w K mg base (CXR P w) (n+1) f fd ["self","number","other"] (bZL K Rf CB CL):=by
 have sc:=bVb;refine F.okX (k:=n) sc (λa4 A outer s H vs Q E L h=>?_);obtain⟨e,x,y,M,u,R,S,m,o,rfl,C,hR,D,tb,q1,q2⟩:=h;refine⟨_,(yC (yT (i:=3) (vN a L zL (pv 0) (yA (pv 1) yD))) (yC (yT (i:=4) (vN a L zL (pv 0) (yA (pv 2) yD))) (yC (yY (vN c L zL (pv 0) (yA (pv 3) (yA (pv 4) yD)))) (yC (yY (vN d L zL (pv 0) (yA (pv 1) (yA (yZ (pv 4) rfl) yD)))) (yF (zF (pv 3) (pv 2) rfl)))))),?_⟩;obtain⟨T,Y⟩:=C.book;refine⟨_,rfl,e,T,_,rfl,Y,rfl,_,rfl,e,x,y,M,u,R,S,m,rfl,C,λi r b em G O J=>?_,λv=>q1 (.inl v)⟩;dsimp only[yX];refine⟨_,rfl,e,T,_,rfl,Y,rfl,_,rfl,e,x,y,M,u,R,S,o,rfl,C,λj q X eo N hw B=>?_,λv=>q1 (.inr v)⟩;dsimp only[yX];obtain⟨q3,q4,q5⟩:=q2 i j r q em eo G O N hw;refine⟨_,rfl,e,T,_,rfl,Y,rfl,_,rfl,_,rfl,e,x,y,M,u,R,S,i,j,b,X,r,q,rfl,C,hR,D.tree,tb,G,O,N,hw,J,B,q3,q4,λh1 h2=>?_⟩;obtain⟨q6,q7⟩:=q5 h1 h2;refine⟨q6,λh3=>?_⟩;obtain⟨q8,q9⟩:=q7 h3;refine⟨q8,λh4=>?_⟩;obtain⟨a2,a0⟩:=q9 h4;refine⟨a2,λh5 H1 k1 t1=>?_⟩;have p:=C.sameT k1;obtain⟨W,V⟩:=p.book;obtain⟨U,c2,f1,f2,f3,⟨a1,f4⟩,f5⟩:=p.get N;obtain rfl:X=U:=bK8 (B.symm.trans f2);refine⟨_,rfl,e,W,_,rfl,V,rfl,_,rfl,_,rfl,X,CL,a1,_,_,rfl,f4,cl.l,cl.file,rfl,?_⟩;rw[aXi hw];refine⟨e,x,y,M,u,R,S,m,q.place,rfl,p,hR,D,t1,(λv=>by rw[em,qH G O]at v;cases v),λk r' a5 hk a3 H2 g k2 t2=>?_⟩;obtain rfl:i=k:=by omega
 rw[G]at hk;cases hk;obtain⟨r2,z,a6⟩:=aZh (l:=Bk.thr R i) (name:=q.place) G;obtain⟨b',c1,g1,Z,g3,⟨I,g4⟩,g5⟩:=g.get z;obtain rfl:b=b':=bK8 (J.symm.trans Z);subst eo;refine⟨_,rfl,_,rfl,b,CL,I,_,rfl,g4,cl.l,cl.link,(show 9<1000 by decide),?_⟩;have kk:=w6.upd (H:=H2) (aJs (la:=x) (sa:=y) (cs:=u) (bK5 Z)) (.ins CL I (aZk i {r2 with link:=some j} c1));exact a0 h5 _ _ _ (g.set Z g3 z (λr=>{r with link:=some j}) rfl) (((qR.of k1).trans k2).trans kk.t) qA.refl (xR t2 kk g.kinds)
end
end Desk
namespace Desk
open PySem L2 PyProof.Rows
open Bk (Row Rows xM Ans xV)
open Thr (z9 vL qG)
def xE:xM->List V
 |.enter e d b t=> [.str e,.int d,.str b,.int t]
 |.reply m d t=> [.str "reply",.int m,.int d,.int t]
 |.hang m o=> [.str "hang",.int m,.int o]
 |.loose m=> [.str "loose",.int m]
 |.date m d=> [.str "date",.int m,.int d]
 |.term m t=> [.str "term",.int m,.int t]
 |.copy m b=> [.str "copy",.int m,.str b]
 |.file m a=> [.str "file",.int m,.str a]
 |.void m=> [.str "void",.int m]
 |.shut d=> [.str "shut",.int d]
 |.state m=> [.str "state",.int m]
 |.thread m=> [.str "thread",.int m]
 |.copies m=> [.str "copies",.int m]
 |.letters a=> [.str "letters",.str a]
 |.on c d=> [.str (if c then "overdue" else "waiting"),.int d]
def wX(o:List Nat)(H:Hp):Ans->V->Prop
 |.num n,v=>v= .int n
 |.txt x,v=>v= .str x
 |.nums l,v=>∃p,v= .ref p/\p∉o/\H p=some (.lst (l.map λi=>V.int (i:Nat)))
 |.txts l,v=>∃p,v= .ref p/\p∉o/\H p=some (.lst (l.map V.str))
 |.row r,v=>∃p,v= .ref p/\p∉o/\H p=some (.tup (stV r))
def uG(H:Hp)(v:V):Prop:=∀p,v= .ref p->∀u,(∀a,u≠HO.tbl a)->H p≠some u
theorem uG.none{H:Hp}{l:Nat}(h:H l=none):uG H (.ref l):=λp z u _ e=>by cases z;rw[h]at e;cases e
theorem uG.nl{H:Hp}{l:Nat}(h:∀b u,(∀c,u≠HO.tbl c)->H b=some u->b≠l):uG H (.ref l):=λp z u a e=>by cases z;exact h _ u a e rfl
structure Sz(R:Rows)(S:List Int):Prop where
 r:R.length<64
 s:S.length<64
 c:∀r∈R,r.copies.length<=1000
def aZK(K:bKP)(Rf:Nat×Nat)(k CL:Nat)(p:xM->Prop):Sp:=λo H Q E=>∃ (j l f d:Nat)(h i:List Nat)(R:Rows)(S:List Int)(e:xM),o= [.ref j,.ref l]/\p e/\H l=some (.tup (xE e))/\PB k CL H j f d h i R S/\Sz R S/\Bk.qP R/\z9 Rf.2 H/\
 (∀ (a:Ans)(m:Rows)(n:List Int)(v:V)(g:Hp)(c b:List Nat),xV R S e a m n->PB k CL g j f d c b m n->qR (own f d h i) H g->qA H (own f d h i) (own f d c b)->z9 Rf.2 g->wX (own f d c b) g a v->uG H v->Q v g)/\(∀t,xV R S e (.txt t) R S->xC K Rf H E t)
section
variable {K:bKP}
abbrev Y9:Stmt:=xF "do_enter"
theorem aJM:yM ["book","deed"] ["book","deed"] (yH Y9):=scM
theorem aJn(a:MG P w K mg base (CXR P w) n CB "enter" ["self","way","day","partner","term"] (aY5 K Rf CB CL))(F:Fun K "do_enter" "do_enter" Y9 f fd):y8 P w K mg base (CXR P w) (n+1) f fd ["book","deed"] (aZK K Rf CB CL λe=>∃ (c:Str)(d:Int)(b:Str)(t:Int),e= .enter c d b t):=by
 have N:=aJM;refine F.okX (k:=n) N (λT A outer s H U Q E D h=>?_);obtain⟨B,i,C,x,v,y,R,S,e,rfl,⟨c,d,b,t,rfl⟩,g,o,J,L,tb,q,I⟩:=h;refine⟨_,(yF (yP (vN a D zL (pv 0) (yA (yL yW (pv 1) yE) (yA (yL yW (pv 1) yE) (yA (yL yW (pv 1) yE) (yA (yL yW (pv 1) yE) yD))))))),?_⟩;obtain⟨O,M⟩:=o.book;have tk:∀ {j},w6 (own C x v y) H j->z9 Rf.2 j:=λk=>xR tb k o.kinds;have g:H i=some (.tup _):=g;refine⟨_,rfl,B,O,_,rfl,M,rfl,_,rfl,i,_,0,_,rfl,rfl,SqT.of g,rfl,_,rfl,i,_,1,_,rfl,rfl,SqT.of g,rfl,_,rfl,i,_,2,_,rfl,rfl,SqT.of g,rfl,_,rfl,i,_,3,_,rfl,rfl,SqT.of g,rfl,?_⟩;refine⟨B,C,x,v,y,R,S,c,d,b,t,rfl,o,by have:=J.r;omega,λp j u m l k G=>?_,λp=>I _ (.enterT p)⟩;exact q (.num R.length) _ _ _ j u m (.enter p) l k.t G (tk k) rfl (λ_ z=>nomatch z)
abbrev X1:Stmt:=xF "do_reply"
theorem aJO:yM ["book","deed"] ["book","deed"] (yH X1):=scM
theorem aJp(a:MG P w K mg base (CXR P w) n CB "reply" ["self","number","day","term"] (bQa K Rf CB CL))(F:Fun K "do_reply" "do_reply" X1 f fd):y8 P w K mg base (CXR P w) (n+1) f fd ["book","deed"] (aZK K Rf CB CL λe=>∃ (m:Int)(d:Int)(t:Int),e= .reply m d t):=by
 have T:=aJO;refine F.okX (k:=n) T (λV A outer s H W Q E I h=>?_);obtain⟨B,c,D,x,v,y,R,S,e,rfl,⟨m,d,t,rfl⟩,b,o,M,N,tb,q,p⟩:=h;refine⟨_,(yF (yP (vN a I zL (pv 0) (yA (yL yW (pv 1) yE) (yA (yL yW (pv 1) yE) (yA (yL yW (pv 1) yE) yD)))))),?_⟩;obtain⟨U,O⟩:=o.book;have tk:∀ {i},w6 (own D x v y) H i->z9 Rf.2 i:=λk=>xR tb k o.kinds;have b:H c=some (.tup _):=b;refine⟨_,rfl,B,U,_,rfl,O,rfl,_,rfl,c,_,1,_,rfl,rfl,SqT.of b,rfl,_,rfl,c,_,2,_,rfl,rfl,SqT.of b,rfl,_,rfl,c,_,3,_,rfl,rfl,SqT.of b,rfl,?_⟩;refine⟨B,D,x,v,y,R,S,m,d,t,rfl,o,by have:=M.r;omega,λh=>p _ (.replyN h),λh g=>p _ (.replyT h g),λk r L C G g=>?_⟩;subst L;exact⟨λb=>p _ (.replyE C G g b),λb i u l j k J=>q (.num R.length) _ _ _ i u l (.reply C G g b) j k.t J (tk k) rfl (λ_ z=>nomatch z)⟩
abbrev aQz:Stmt:=xF "do_hang"
theorem aWI:yM ["book","deed"] ["book","deed"] (yH aQz):=scM
theorem aWo(a:MG P w K mg base (CXR P w) n CB "hang" ["self","number","other"] (bZL K Rf CB CL))(F:Fun K "do_hang" "do_hang" aQz f fd):y8 P w K mg base (CXR P w) (n+1) f fd ["book","deed"] (aZK K Rf CB CL λe=>∃ (m:Int)(o:Int),e= .hang m o):=by
 have sc:=aWI;refine F.okX (k:=n) sc (λa0 A outer s H vs Q E U h=>?_);obtain⟨O,B,T,M,L,N,R,S,e,rfl,⟨m,o,rfl⟩,u,D,X,J,tb,q,g⟩:=h;refine⟨_,(yC (yY (vN a U zL (pv 0) (yA (yL yW (pv 1) yE) (yA (yL yW (pv 1) yE) yD)))) (yF (yP yO))),?_⟩;obtain⟨dx,Z⟩:=D.book;have tk:∀ {x},w6 (own T M L N) H x->z9 Rf.2 x:=λk=>xR tb k D.kinds;have u:H B=some (.tup _):=u;refine⟨_,rfl,O,dx,_,rfl,Z,rfl,_,rfl,B,_,1,_,rfl,rfl,SqT.of u,rfl,_,rfl,B,_,2,_,rfl,rfl,SqT.of u,rfl,?_⟩;refine⟨O,T,M,L,N,R,S,m,o,rfl,D,X.r,J,tb,λh=>g _ (.hangN h),λi j r q' W Y c l d hw=>?_⟩;subst W;subst Y;refine⟨λh=>g _ (.hangH c l d hw h),λh b=>g _ (.hangO c l d hw h b),λh b=>⟨λp=>g _ (.hangW c l d hw h b p),λp=>⟨λv=>g _ (.hangP c l d hw h b p v),λv=>⟨λI=>g _ (.hangE c l d hw h b p v I),λI x G C y k V t=>?_⟩⟩⟩⟩;exact q (.txt "hung") _ _ _ x G C (.hang c l d hw h b p v I) y k V t rfl (λ_ z=>nomatch z)
abbrev X0:Stmt:=xF "do_loose"
theorem aJN:yM ["book","deed"] ["book","deed"] (yH X0):=scM
theorem aJo(a:MG P w K mg base (CXR P w) n CB "loosen" ["self","number"] (aVD K Rf CB CL))(F:Fun K "do_loose" "do_loose" X0 f fd):y8 P w K mg base (CXR P w) (n+1) f fd ["book","deed"] (aZK K Rf CB CL λe=>∃ (m:Int),e= .loose m):=by
 have M:=aJN;refine F.okX (k:=n) M (λO A outer s H U Q E D h=>?_);obtain⟨x,o,B,p,l,u,R,S,e,rfl,⟨m,rfl⟩,i,g,T,J,tb,q,v⟩:=h;refine⟨_,(yC (yY (vN a D zL (pv 0) (yA (yL yW (pv 1) yE) yD))) (yF (yP yO))),?_⟩;obtain⟨N,L⟩:=g.book;have tk:∀ {b},w6 (own B p l u) H b->z9 Rf.2 b:=λk=>xR tb k g.kinds;have i:H o=some (.tup _):=i;refine⟨_,rfl,x,N,_,rfl,L,rfl,_,rfl,o,_,1,_,rfl,rfl,SqT.of i,rfl,?_⟩;refine⟨x,B,p,l,u,R,S,m,rfl,g,λh=>v _ (.oneN h (.inl rfl)),λk r I y C=>?_⟩;subst I;exact⟨λh=>v _ (.looseN y C h),λh b j d c k G=>q (.txt "loose") _ _ _ b j d (.loose y C h) c k.t G (tk k) rfl (λ_ z=>nomatch z)⟩
abbrev aQx:Stmt:=xF "do_date"
theorem aWG:yM ["book","deed"] ["book","deed"] (yH aQx):=scM
theorem aWm(a:MG P w K mg base (CXR P w) n CB "put_day" ["self","number","day"] (aVE K Rf CB CL))(F:Fun K "do_date" "do_date" aQx f fd):y8 P w K mg base (CXR P w) (n+1) f fd ["book","deed"] (aZK K Rf CB CL λe=>∃ (m:Int)(d:Int),e= .date m d):=by
 have U:=aWG;refine F.okX (k:=n) U (λW A outer s H X Q E J h=>?_);obtain⟨B,i,D,v,u,x,R,S,e,rfl,⟨m,d,rfl⟩,b,l,N,p,tb,q,y⟩:=h;refine⟨_,(yC (yY (vN a J zL (pv 0) (yA (yL yW (pv 1) yE) (yA (yL yW (pv 1) yE) yD)))) (yF (yP yO))),?_⟩;obtain⟨V,T⟩:=l.book;have tk:∀ {c},w6 (own D v u x) H c->z9 Rf.2 c:=λk=>xR tb k l.kinds;have b:H i=some (.tup _):=b;refine⟨_,rfl,B,V,_,rfl,T,rfl,_,rfl,i,_,1,_,rfl,rfl,SqT.of b,rfl,_,rfl,i,_,2,_,rfl,rfl,SqT.of b,rfl,?_⟩;refine⟨B,D,v,u,x,R,S,m,d,rfl,l,by have:=N.r;omega,p,λh=>y _ (.oneN h (.inr (.inl ⟨d,rfl⟩))),λk r M C G=>?_⟩;subst M;exact⟨λh=>y _ (.dateE C G h),λI O c o j g k L=>q (.txt "dated") _ _ _ c o j (.date C G I O) g k.t L (tk k) rfl (λ_ z=>nomatch z)⟩
abbrev aQB:Stmt:=xF "do_term"
theorem aWK:yM ["book","deed"] ["book","deed"] (yH aQB):=scM
theorem aWq(a:MG P w K mg base (CXR P w) n CB "put_term" ["self","number","term"] (aZM K Rf CB CL))(F:Fun K "do_term" "do_term" aQB f fd):y8 P w K mg base (CXR P w) (n+1) f fd ["book","deed"] (aZK K Rf CB CL λe=>∃ (m:Int)(t:Int),e= .term m t):=by
 have M:=aWK;refine F.okX (k:=n) M (λO A outer s H U Q E D h=>?_);obtain⟨x,g,B,p,o,u,R,S,e,rfl,⟨m,t,rfl⟩,b,j,T,J,tb,q,v⟩:=h;refine⟨_,(yC (yY (vN a D zL (pv 0) (yA (yL yW (pv 1) yE) (yA (yL yW (pv 1) yE) yD)))) (yF (yP yO))),?_⟩;obtain⟨N,L⟩:=j.book;have tk:∀ {c},w6 (own B p o u) H c->z9 Rf.2 c:=λk=>xR tb k j.kinds;have b:H g=some (.tup _):=b;refine⟨_,rfl,x,N,_,rfl,L,rfl,_,rfl,g,_,1,_,rfl,rfl,SqT.of b,rfl,_,rfl,g,_,2,_,rfl,rfl,SqT.of b,rfl,?_⟩;refine⟨x,B,p,o,u,R,S,m,t,rfl,j,λh=>v _ (.oneN h (.inr (.inr (.inl ⟨t,rfl⟩)))),λk r I y C=>?_⟩;subst I;exact⟨λh=>v _ (.termN y C h),λh c l i d k G=>q (.txt "set") _ _ _ c l i (.term y C h) d k.t G (tk k) rfl (λ_ z=>nomatch z)⟩
abbrev aQw:Stmt:=xF "do_copy"
theorem aWF:yM ["book","deed"] ["book","deed"] (yH aQw):=scM
theorem aWl(a:MG P w K mg base (CXR P w) n CB "send_copy" ["self","number","person"] (bZP K Rf CB CL))(F:Fun K "do_copy" "do_copy" aQw f fd):y8 P w K mg base (CXR P w) (n+1) f fd ["book","deed"] (aZK K Rf CB CL λe=>∃ (m:Int)(b:Str),e= .copy m b):=by
 have V:=aWF;refine F.okX (k:=n) V (λX A outer s H Y Q E J h=>?_);obtain⟨B,j,D,v,u,x,R,S,e,rfl,⟨m,b,rfl⟩,d,o,N,O,tb,q,y⟩:=h;refine⟨_,(yF (yP (vN a J zL (pv 0) (yA (yL yW (pv 1) yE) (yA (yL yW (pv 1) yE) yD))))),?_⟩;obtain⟨W,U⟩:=o.book;have tk:∀ {g},w6 (own D v u x) H g->z9 Rf.2 g:=λk=>xR tb k o.kinds;have d:H j=some (.tup _):=d;refine⟨_,rfl,B,W,_,rfl,U,rfl,_,rfl,j,_,1,_,rfl,rfl,SqT.of d,rfl,_,rfl,j,_,2,_,rfl,rfl,SqT.of d,rfl,?_⟩;refine⟨B,D,v,u,x,R,S,m,b,rfl,o,N.c,λh=>y _ (.oneN h (.inr (.inr (.inr (.inl ⟨b,rfl⟩))))),λk r M C G=>?_⟩;subst M;exact⟨λh=>y _ (.copyC C G h),λI T g p l i k L=>q (.num (r.copies.length+1)) _ _ _ g p l (.copy C G I T) i k.t L (tk k) rfl (λ_ z=>nomatch z)⟩
abbrev aQy:Stmt:=xF "do_file"
theorem aWH:yM ["book","deed"] ["book","deed"] (yH aQy):=scM
theorem aWn(a:MG P w K mg base (CXR P w) n CB "lay_thread" ["self","number","name"] (bVq K Rf CB CL))(F:Fun K "do_file" "do_file" aQy f fd):y8 P w K mg base (CXR P w) (n+1) f fd ["book","deed"] (aZK K Rf CB CL λe=>∃ (m:Int)(name:Str),e= .file m name):=by
 have G:=aWH;refine F.okX (k:=n) G (λN A outer s H O Q E v h=>?_);obtain⟨t,i,u,p,d,j,R,S,e,rfl,⟨m,name,rfl⟩,b,l,C,o,tb,q,y⟩:=h;refine⟨_,(yF (yP (vN a v zL (pv 0) (yA (yL yW (pv 1) yE) (yA (yL yW (pv 1) yE) yD))))),?_⟩;obtain⟨M,D⟩:=l.book;have tk:∀ {c},w6 (own u p d j) H c->z9 Rf.2 c:=λk=>xR tb k l.kinds;have b:H i=some (.tup _):=b;refine⟨_,rfl,t,M,_,rfl,D,rfl,_,rfl,i,_,1,_,rfl,rfl,SqT.of b,rfl,_,rfl,i,_,2,_,rfl,rfl,SqT.of b,rfl,?_⟩;refine⟨t,u,p,d,j,R,S,m,name,rfl,l,C.r,o,tb,λh=>y _ (.oneN h (.inr (.inr (.inr (.inr (.inl ⟨name,rfl⟩)))))),λk r x B L c g J I=>?_⟩;subst x;exact q (.num (Bk.thr R k).length) _ _ _ c d j (.file B L) g J qA.refl I rfl (λ_ z=>nomatch z)
abbrev aQC:Stmt:=xF "do_void"
theorem aWL:yM ["book","deed"] ["book","deed"] (yH aQC):=scM
theorem aWr(a:MG P w K mg base (CXR P w) n CB "cancel" ["self","number"] (aVw K Rf CB CL))(F:Fun K "do_void" "do_void" aQC f fd):y8 P w K mg base (CXR P w) (n+1) f fd ["book","deed"] (aZK K Rf CB CL λe=>∃ (m:Int),e= .void m):=by
 have N:=aWL;refine F.okX (k:=n) N (λT A outer s H U Q E D h=>?_);obtain⟨x,o,B,p,l,u,R,S,e,rfl,⟨m,rfl⟩,i,g,J,L,tb,q,v⟩:=h;refine⟨_,(yC (yY (vN a D zL (pv 0) (yA (yL yW (pv 1) yE) yD))) (yF (yP yO))),?_⟩;obtain⟨O,M⟩:=g.book;have tk:∀ {b},w6 (own B p l u) H b->z9 Rf.2 b:=λk=>xR tb k g.kinds;have i:H o=some (.tup _):=i;refine⟨_,rfl,x,O,_,rfl,M,rfl,_,rfl,o,_,1,_,rfl,rfl,SqT.of i,rfl,?_⟩;refine⟨x,B,p,l,u,R,S,m,rfl,g,by have:=J.r;omega,λh=>v _ (.oneN h (.inr (.inr (.inr (.inr (.inr (.inl rfl))))))),λk r I y C=>?_⟩;subst I;exact⟨λh=>v _ (.voidA y C h),λh b j d c k G=>q (.txt "void") _ _ _ b j d (.void y C h) c k.t G (tk k) rfl (λ_ z=>nomatch z)⟩
abbrev aQA:Stmt:=xF "do_shut"
theorem aWJ:yM ["book","deed"] ["book","deed"] (yH aQA):=scM
theorem aWp(a:MG P w K mg base (CXR P w) n CB "shut_day" ["self","day"] (bZQ K Rf CB CL))(F:Fun K "do_shut" "do_shut" aQA f fd):y8 P w K mg base (CXR P w) (n+1) f fd ["book","deed"] (aZK K Rf CB CL λe=>∃ (d:Int),e= .shut d):=by
 have I:=aWJ;refine F.okX (k:=n) I (λL A outer s H M Q E x h=>?_);obtain⟨u,o,v,p,m,r,R,S,e,rfl,⟨d,rfl⟩,j,i,C,D,tb,q,B⟩:=h;refine⟨_,(yC (yY (vN a x zL (pv 0) (yA (yL yW (pv 1) yE) yD))) (yF (yP yO))),?_⟩;obtain⟨J,G⟩:=i.book;have tk:∀ {b},w6 (own v p m r) H b->z9 Rf.2 b:=λk=>xR tb k i.kinds;have j:H o=some (.tup _):=j;refine⟨_,rfl,u,J,_,rfl,G,rfl,_,rfl,o,_,1,_,rfl,rfl,SqT.of j,rfl,?_⟩;refine⟨u,v,p,m,r,R,S,d,rfl,i,by have:=C.s;omega,λh=>B _ (.shutN h),λh b l g c k y=>?_⟩;exact q (.txt "shut") _ _ _ b l g (.shut h) c k.t y (tk k) rfl (λ_ z=>nomatch z)
abbrev jV:Stmt:=xF "ask_state"
theorem aZE:yM ["book","deed"] ["book","deed"] (yH jV):=scM
theorem aZq(a:MG P w K mg base (CXR P w) n CB "state_of" ["self","number"] (aZN K Rf CB CL))(F:Fun K "ask_state" "ask_state" jV f fd):y8 P w K mg base (CXR P w) (n+1) f fd ["book","deed"] (aZK K Rf CB CL λe=>∃ (m:Int),e= .state m):=by
 have D:=aZE;refine F.okX (k:=n) D (λJ A outer s H M Q E v h=>?_);obtain⟨p,j,u,o,c,d,R,S,e,rfl,⟨m,rfl⟩,g,b,L,B,tb,q,y⟩:=h;refine⟨_,(yF (yP (vN a v zL (pv 0) (yA (yL yW (pv 1) yE) yD)))),?_⟩;obtain⟨I,C⟩:=b.book;have tk:∀ {H'},w6 (own u o c d) H H'->z9 Rf.2 H':=λk=>xR tb k b.kinds;have g:H j=some (.tup _):=g;refine⟨_,rfl,p,I,_,rfl,C,rfl,_,rfl,j,_,1,_,rfl,rfl,SqT.of g,rfl,?_⟩;refine⟨p,u,o,c,d,R,S,m,rfl,b,λk r l x z G hl=>?_,λh=>y _ (.oneN h (.inr (.inr (.inr (.inr (.inr (.inr (.inl rfl))))))))⟩;subst x;have i:=yG hl (.tup (stV r));exact q (.row r) _ _ _ _ c d (.state z G) (b.same i) (qR.of i.t) qA.refl (tk (w6.of i)) ⟨l,rfl,b.notnone hl,yB⟩ (uG.none hl)
abbrev uQ:Stmt:=xF "ask_thread"
theorem aXH:yM ["book","deed"] ["book","deed"] (yH uQ):=scM
theorem aXp(a:MG P w K mg base (CXR P w) n CB "thread_of" ["self","number"] (jC K Rf CB CL))(F:Fun K "ask_thread" "ask_thread" uQ f fd):y8 P w K mg base (CXR P w) (n+1) f fd ["book","deed"] (aZK K Rf CB CL λe=>∃ (m:Int),e= .thread m):=by
 have G:=aXH;refine F.okX (k:=n) G (λM A outer s H N Q E x h=>?_);obtain⟨t,o,u,p,d,g,R,S,e,rfl,⟨m,rfl⟩,i,b,C,j,tb,q,z⟩:=h;refine⟨_,(yF (yP (vN a x zL (pv 0) (yA (yL yW (pv 1) yE) yD)))),?_⟩;obtain⟨L,D⟩:=b.book;have tk:∀ {c},w6 (own u p d g) H c->z9 Rf.2 c:=λk=>xR tb k b.kinds;have i:H o=some (.tup _):=i;refine⟨_,rfl,t,L,_,rfl,D,rfl,_,rfl,o,_,1,_,rfl,rfl,SqT.of i,rfl,?_⟩;refine⟨t,u,p,d,g,R,S,m,rfl,b,C.r,j.tree,tb,λh=>z _ (.oneN h (.inr (.inr (.inr (.inr (.inr (.inr (.inr (.inl rfl))))))))),λk r y B J c l nl v I hl=>?_⟩;subst y;exact q (.nums (Bk.thr R k)) _ _ _ c d g (.thread B J) (b.sameT v) (qR.of v) qA.refl I ⟨l,rfl,b.notown nl,hl⟩ (uG.nl nl)
abbrev uP:Stmt:=xF "ask_copies"
theorem aXG:yM ["book","deed"] ["book","deed"] (yH uP):=scM
theorem aXo(a:MG P w K mg base (CXR P w) n CB "copies_of" ["self","number"] (aVy K Rf CB CL))(F:Fun K "ask_copies" "ask_copies" uP f fd):y8 P w K mg base (CXR P w) (n+1) f fd ["book","deed"] (aZK K Rf CB CL λe=>∃ (m:Int),e= .copies m):=by
 have D:=aXG;refine F.okX (k:=n) D (λJ A outer s H M Q E v h=>?_);obtain⟨p,j,u,o,c,d,R,S,e,rfl,⟨m,rfl⟩,g,b,L,B,tb,q,y⟩:=h;refine⟨_,(yF (yP (vN a v zL (pv 0) (yA (yL yW (pv 1) yE) yD)))),?_⟩;obtain⟨I,C⟩:=b.book;have tk:∀ {H'},w6 (own u o c d) H H'->z9 Rf.2 H':=λk=>xR tb k b.kinds;have g:H j=some (.tup _):=g;refine⟨_,rfl,p,I,_,rfl,C,rfl,_,rfl,j,_,1,_,rfl,rfl,SqT.of g,rfl,?_⟩;refine⟨p,u,o,c,d,R,S,m,rfl,b,λk r l x z G hl=>?_,λh=>y _ (.oneN h (.inr (.inr (.inr (.inr (.inr (.inr (.inr (.inr rfl)))))))))⟩;subst x;have i:=yG hl (.lst (r.copies.map V.str));exact q (.txts r.copies) _ _ _ _ c d (.copies z G) (b.same i) (qR.of i.t) qA.refl (tk (w6.of i)) ⟨l,rfl,b.notnone hl,yB⟩ (uG.none hl)
abbrev v1:Stmt:=xF "ask_letters"
theorem aQX:yM ["book","deed"] ["book","deed"] (yH v1):=scM
theorem aQS(a:MG P w K mg base CX0 n CB "letters_in" ["self","name"] (aQG CB CL))(F:Fun K "ask_letters" "ask_letters" v1 f fd):y8 P w K mg base (CXR P w) (n+1) f fd ["book","deed"] (aZK K Rf CB CL λe=>∃ (name:Str),e= .letters name):=by
 have B:=aQX;refine F.okX (k:=n) B (λD A outer s H I Q E v h=>?_);obtain⟨p,m,u,o,c,d,R,S,e,rfl,⟨name,rfl⟩,g,b,x,y,tb,q,G⟩:=h;refine⟨_,(yF (yP (vN a v vM (pv 0) (yA (yL yW (pv 1) yE) yD)))),?_⟩;obtain⟨C,z⟩:=b.book;have tk:∀ {H'},w6 (own u o c d) H H'->z9 Rf.2 H':=λk=>xR tb k b.kinds;have g:H m=some (.tup _):=g;refine⟨_,rfl,p,C,_,rfl,z,rfl,_,rfl,m,_,1,_,rfl,rfl,SqT.of g,rfl,?_⟩;refine⟨p,u,o,c,d,R,S,name,rfl,b,x.r,λl hl=>?_⟩;have j:=yG hl (.lst ((X5 R name).map λi=>V.int (i:Nat)));exact q (.nums (X5 R name)) _ _ _ _ c d .letters (b.same j) (qR.of j.t) qA.refl (tk (w6.of j)) ⟨l,rfl,b.notnone hl,yB⟩ (uG.none hl)
abbrev v6:Stmt:=xF "ask_waiting"
theorem aQZ:yM ["book","deed"] ["book","deed"] (yH v6):=scM
theorem aQU(a:MG P w K mg base CX0 n CB "waiting" ["self","day"] (bWM CB CL false))(F:Fun K "ask_waiting" "ask_waiting" v6 f fd):y8 P w K mg base (CXR P w) (n+1) f fd ["book","deed"] (aZK K Rf CB CL λe=>∃ (d:Int),e= .on false d):=by
 have I:=aQZ;refine F.okX (k:=n) I (λL A outer s H N Q E B h=>?_);obtain⟨x,u,z,v,g,i,R,S,e,rfl,⟨d,rfl⟩,j,b,y,D,tb,q,M⟩:=h;refine⟨_,(yF (yP (vN a B vM (pv 0) (yA (yL yW (pv 1) yE) yD)))),?_⟩;obtain⟨J,G⟩:=b.book;have tk:∀ {c},w6 (own z v g i) H c->z9 Rf.2 c:=λk=>xR tb k b.kinds;have j:H u=some (.tup _):=j;refine⟨_,rfl,x,J,_,rfl,G,rfl,_,rfl,u,_,1,_,rfl,rfl,SqT.of j,rfl,?_⟩;refine⟨x,z,v,g,i,R,S,d,rfl,b,y.r,y.s,λl c C p hl o m=>?_⟩;exact q (.nums C) _ _ _ c g i (.on m) (b.same p) (qR.of p.t) qA.refl (tk (w6.of p)) ⟨l,rfl,b.notnone hl,o⟩ (uG.none hl)
abbrev v5:Stmt:=xF "ask_overdue"
theorem aQY:yM ["book","deed"] ["book","deed"] (yH v5):=scM
theorem aQT(a:MG P w K mg base CX0 n CB "overdue" ["self","day"] (bWM CB CL true))(F:Fun K "ask_overdue" "ask_overdue" v5 f fd):y8 P w K mg base (CXR P w) (n+1) f fd ["book","deed"] (aZK K Rf CB CL λe=>∃ (d:Int),e= .on true d):=by
 have I:=aQY;refine F.okX (k:=n) I (λL A outer s H N Q E B h=>?_);obtain⟨x,u,z,v,g,i,R,S,e,rfl,⟨d,rfl⟩,j,b,y,D,tb,q,M⟩:=h;refine⟨_,(yF (yP (vN a B vM (pv 0) (yA (yL yW (pv 1) yE) yD)))),?_⟩;obtain⟨J,G⟩:=b.book;have tk:∀ {c},w6 (own z v g i) H c->z9 Rf.2 c:=λk=>xR tb k b.kinds;have j:H u=some (.tup _):=j;refine⟨_,rfl,x,J,_,rfl,G,rfl,_,rfl,u,_,1,_,rfl,rfl,SqT.of j,rfl,?_⟩;refine⟨x,z,v,g,i,R,S,d,rfl,b,y.r,y.s,λl c C p hl o m=>?_⟩;exact q (.nums C) _ _ _ c g i (.on m) (b.same p) (qR.of p.t) qA.refl (tk (w6.of p)) ⟨l,rfl,b.notnone hl,o⟩ (uG.none hl)
end
end Desk
namespace Desk
open PySem L2 PyProof.Rows
open Bk (Row Rows xM Ans xV)
open Thr (z9 vL qG)
structure bWV(P:bK9)(w:bYf)(K:bKP)(D:Nat)(kvs:List (Key×bKN)):Prop where
 at_:∃o es ep,K.lookup D=some o/\o.ExactDict/\o.data= .dict es ep/\KeysOf (xY P w) es/\Pairs (xY P w) es.toList kvs/\(kvs.map (·.1)).Nodup
def bKL(a:List (Key×bKN))(b:TE):TE:=λσ H Q=>b σ H λy c=>∃ (x:Str)(f:Nat),y= .str x/\cX5 a (Sum.inr x)=some (.ref f)/\Q (.ref f) c
theorem bWf{X:Cx}{x:Str}{D:Nat}{a:List (Key×bKN)}{i:Expr}{e:TE}{p pos:Pos}(u:Gl X x)(m:X.mg x=some (.ref D))(T:bWV X.prog X.w X.K D a)(l:PE X i e)(n:bKk i)(c:(x==("__debug__":Str))=false:=by decide):
  PE X (.Subscript (.Name x p) i pos) (bKL a e):=by
 intro b s σ H Q I h
 refine bVr PySem.F.slot_dict_getitem.lookup n (uL I u m (thn (l b s σ H _ I h) λiv s2 ⟨y,H2,I2,ry,x',f,ex,hv,q2⟩=>?_) c)
 subst ex
 obtain⟨o,j,z,g,v,r,t,q,A⟩:=T.at_
 have d:s2.heap.DictOf (xY X.prog X.w) D a:=⟨o,j,z,I2.kIn _ _ g,v,r,t,q,A⟩
 exact⟨d.typeIs,wpAny_getItem_of (bQK (k:=Sum.inr x') ry) d.mapOf hv ⟨.ref f,H2,I2.tok _,rfl,q2⟩⟩
def bZS(P:bK9)(w:bYf)(K:bKP)(mg:Str->Option bKN)(base:Heap)(k i:Nat)(E:XK)(t:TA):TE:=λσ H Q=>∃f,σ[i]? =some (some (.ref f))/\bYG K (.ref f)=true/\
 t σ H λd e=>∃a b c,y8 P w K mg base (CXR P w) k f a b c/\vQ K a b []/\c d e Q E
theorem bXq{X:Cx}{k i:Nat}{x:Str}{e:Expr}{c:List Expr}{t:TA}{E:XK}{p pos:Pos}(y:vJ k X.A)(n:X.N[i]? =some x)(G:Vis X.env.scope x)(J:w8 (CXR X.prog X.w) X E)(D:PA X (e::c) t)
  (l:(x==("__debug__":Str))=false:=by decide) (d:(x==("__classdict__":Str))=false:=by decide) (z:bYp (e::c) X.env=(false,eval e X.env)::bYp c X.env:=by rfl) (g:(cQp pos (bYp c X.env)).any (·.1)=false:=by rfl):
  PE X (.Call (.Name x p) (e::c) [] pos) (bZS X.prog X.w X.K X.mg X.base k i E t):=by
 intro a s σ H Q I h
 obtain⟨f,L,B,q⟩:=h
 refine cQq (thn (bZG (pos:=p) n G l d a s σ H (λv j=>v= .ref f/\j=H) I ⟨_,L,rfl,rfl⟩) ?_)
 rintro u m ⟨v,j,C,o,rfl,rfl⟩
 obtain rfl:u=Value.ref f:=o
 refine cXA (h₀:=X.base) I.ok.mod.kin B (thn (D pos a m σ j _ C q) λus s2 ⟨vs,H2,I2,r,fd,ps,sp,F,b,q2⟩=>⟨I2.kIn,?_⟩) z g
 exact aZA F y b .nil J I2 r (by rw[bYY];exact q2)
def aKA:xM->Str
 |.enter b _ _ _=>b
 |.reply _ _ _=>"reply"
 |.hang _ _=>"hang"
 |.loose _=>"loose"
 |.date _ _=>"date"
 |.term _ _=>"term"
 |.copy _ _=>"copy"
 |.file _ _=>"file"
 |.void _=>"void"
 |.shut _=>"shut"
 |.state _=>"state"
 |.thread _=>"thread"
 |.copies _=>"copies"
 |.letters _=>"letters"
 |.on a _=>if a then "overdue" else "waiting"
def Wf:xM->Prop
 |.enter a _ _ _=>a="in"\/a="out"
 |_=>True
theorem bQw(e:xM):atI (xE e) 0=some (.str (aKA e)):=by cases e<;> rfl
def bVD(P:bK9)(w:bYf)(K:bKP)(mg:Str->Option bKN)(base:Heap)(n:Nat)(Rf:Nat×Nat)(c CL:Nat)(a:List (Key×bKN)):Prop:=∀e:xM,Wf e->∃ (f:Nat)(b:cQI)(p:xM->Prop),cX5 a (Sum.inr (aKA e))=some (.ref f)/\
 y8 P w K mg base (CXR P w) n f b ["book","deed"] (aZK K Rf c CL p)/\p e/\vQ K b ["book","deed"] []/\bYG K (.ref f)=true
def J2(Rf:Nat×Nat)(k CL:Nat):Sp:=λo H Q _=>∃ (j l f d:Nat)(h i:List Nat)(R:Rows)(S:List Int)(e:xM),o= [.ref j,.ref l]/\Wf e/\H l=some (.tup (xE e))/\PB k CL H j f d h i R S/\Sz R S/\Bk.qP R/\z9 Rf.2 H/\
 ∀ (a:Ans)(m:Rows)(n:List Int)(v:V)(g:Hp)(c b:List Nat),xV R S e a m n->PB k CL g j f d c b m n->qR (own f d h i) H g->qA H (own f d h i) (own f d c b)->z9 Rf.2 g->wX (own f d c b) g a v->uG H v->Q v g
section
variable {K:bKP}
abbrev aJA:Stmt:=xF "answer"
theorem aYI:yM ["book","deed","do","refusal"] ["book","deed"] (yH aJA):=scM
theorem aKX(X:mg "DEEDS"=some (.ref D))(TD:bWV P w K D kvs)(hR:mg "Refused"=some (.ref Rf.1))(B:vR K Rf.1)(all:bVD P w K mg base n Rf CB CL kvs)(F:Fun K "answer" "answer" aJA f fd): y8 P w K mg base CX0 (n+1) f fd ["book","deed"] (J2 Rf CB CL):=by
 have x:=aYI;refine F.ok (k:=n) x (λZ A outer s H vs Q E y h=>?_);obtain⟨M,p,U,G,o,r,R,S,e,rfl,j,v,u,N,g,tb,q⟩:=h;refine⟨_,(yC (yT (i:=2) (bWf rfl X TD (yL yW (pv 1) yE) (λ_ _=>rfl))) (yF (bWh (i:=3) x.nd rfl rfl rfl hR B rfl rfl rfl (by decide) (by decide) (by decide) (λ_=>rfl) (tb:=λE=>bKr (bZS P w K mg base n 2 E (aWW (bVu 0) (aWW (bVu 1) bX5)))) (λpn xe E I=>yF (yP (bXq y rfl (Or.inl rfl) I (yA (pv 0) (yA (pv 1) yD)))))))),?_⟩;obtain⟨m,d,pe,W,L,l,c,a⟩:=all e j;refine⟨_,rfl,p,_,0,_,rfl,rfl,SqT.of v,bQw e,aKA e,m,rfl,W,?_⟩;dsimp only[yX];refine⟨m,rfl,a,_,rfl,_,rfl,d,_,_,L,c,M,p,U,G,o,r,R,S,e,rfl,l,v,u,N,g,tb,q,λt b=>?_⟩;intro C Y O T J k V;exact⟨C,Y,t,rfl,rfl,T,J,V,q (.txt t) R S _ O o r b (u.sameT k.1) (qR.of k.1) qA.refl (k.2 tb) rfl (λ_ z=>nomatch z)⟩
inductive Run:Rows->List Int->List xM->List Ans->Rows->List Int->Prop
 |nil {R:Rows} {S:List Int}:Run R S [] [] R S
 |snoc {R R' R'':Rows} {S S' S'':List Int} {es:List xM} {as:List Ans} {e:xM} {a:Ans} (h:Run R S es as R' S') (d:xV R' S' e a R'' S''):Run R S (es++ [e]) (as++ [a]) R'' S''
theorem Run.len{R e:Rows}{S f:List Int}{b:List xM}{a:List Ans}(h:Run R S b a e f):b.length=a.length:=by
 induction h with
 |nil=>rfl
 |snoc h d c=>simp[c]
structure Up(t:Nat)(R:Rows)(S:List Int):Prop where
 r:R.length<=t
 s:S.length<=t
 c:∀r∈R,r.copies.length<=t
theorem Up.set{t:Nat}{R:Rows}{S:List Int}(u:Up t R S)(k:Nat)(f:Row->Row)(b:∀r,(f r).copies.length<=r.copies.length+1):Up (t+1) (Bk.xP R k f) S:=
 ⟨by rw[Bk.zH];exact cQj u.r,cQj u.s,λr a=>by
  rcases Bk.aQe a with h|⟨q,h,rfl⟩
  ·exact cQj (u.c r h)
  ·exact bYo (b q) (Nat.succ_le_succ (u.c q h))⟩
theorem Q7{name:Str}:∀ (l:List Nat)(R:Rows)(t:Nat),(∀r∈R,r.copies.length<=t)->∀r∈Bk.laid R l name,r.copies.length<=t
 |[],R,t,h,r,hr=>h r hr
 |k::l,R,t,h,r,hr=>Q7 l (Bk.xP R k λr=>{r with place:=name}) t (λq a=>by
   rcases Bk.aQe a with z|⟨b,z,rfl⟩
   ·exact h q z
   ·exact h b z) r hr
theorem Up.laid{t:Nat}{R:Rows}{S:List Int}(u:Up t R S)(l:List Nat)(name:Str):Up t (Bk.laid R l name) S:=⟨by rw[Bk.wJ];exact u.r,u.s,Q7 l R t u.c⟩
theorem Up.le{t:Nat}{R:Rows}{S:List Int}(u:Up t R S):Up (t+1) R S:=⟨cQj u.r,cQj u.s,λr h=>cQj (u.c r h)⟩
theorem Up.snoc{t:Nat}{R:Rows}{S:List Int}(u:Up t R S)(r:Row)(h:r.copies= []):Up (t+1) (R++ [r]) S:=⟨by simpa using u.r,cQj u.s,λq a=>by
 rcases bYs.mp a with z|z
 ·exact cQj (u.c q z)
 ·rw[bK4.mp z,h];exact bYJ _⟩
theorem Up.done{t:Nat}{R b:Rows}{S d:List Int}{e:xM}{a:Ans}(u:Up t R S)(h:xV R S e a b d):Up (t+1) b d:=by
 cases h with
 |enter _=>exact u.snoc _ rfl
 |reply _ _ _ _=>exact u.snoc _ rfl
 |hang _ _ _ _ _ _ _ _ _=>exact(u.laid _ _).set _ _ λ_=>cQR _
 |loose _ _ _=>exact u.set _ _ λ_=>cQR _
 |date _ _ _ _=>exact u.set _ _ λ_=>cQR _
 |term _ _ _=>exact u.set _ _ λ_=>cQR _
 |copy _ _ _ _=>exact u.set _ _ λr=>by simp
 |file _ _=>exact(u.laid _ _).le
 |void _ _ _=>exact u.set _ _ λ_=>cQR _
 |shut _=>exact⟨cQj u.r,by simpa using u.s,λr h=>cQj (u.c r h)⟩
 |_=>exact u.le
theorem Up.sz{t:Nat}{R:Rows}{S:List Int}(u:Up t R S)(h:t<64):Sz R S:=⟨by have:=u.r;omega,by have:=u.s;omega,λr a=>by have:=u.c r a;omega⟩
end
end Desk
namespace Law
open PySem L2 PyProof.Rows
open Bk (Row Rows xV xM Ans)
open Desk (xE wX uG Wf)
abbrev aXx:Stmt:=xF "_law_entered"
def aQN(e:Nat)(c a:List Nat)(H d:Hp):Prop:=(∀x o,x∉e::c->H x=some o->d x=some o)/\(∀b∈a,b∈c\/H b=none)/\∀s u,H s=some u->NoC c H s->NoC a d s
theorem But.step{d:Nat}{a:List Nat}{H c:Hp}(k:But a H c):aQN d a a H c:=⟨λx o n e=>k.1 x o (λz=>n (bKY _ z)) e,λb h=> .inl h,k.2.2⟩
theorem aQN.pre{d:Nat}{c a:List Nat}{H g f:Hp}(i:∀b∈c,∃o,H b=some o)(k:xA H g)(s:aQN d c a g f):aQN d c a H f:=
 ⟨λx o n e=>s.1 x o n (k _ _ e),λb h=>(s.2.1 b h).imp id λz=>k.fresh z,λx u e n=>s.2.2 x u (k _ _ e) ((But.of i k).2.2 x u e n)⟩
def aQF:Sp:=λl H Q _=>∃ (c i:Nat)(k:List Nat)(R:Rows)(e:xM),l= [.ref c,.ref i]/\H i=some (.tup (xE e))/\Wf e/\((∃h d g t,e= .enter h d g t)\/∃m d t,e= .reply m d t)/\y7 H c k R/\R.length<=60/\
 ∀ (f:Hp)(a:Ans)(v:V)(j:Rows)(b:List Nat),aQN c k b H f->y7 f c b j->(∀S,xV R S e a j S)->wX [] f a v->uG H v->Q v f
theorem aVR{H:Hp}{d:Nat}{p:List Nat}{R:Rows}(h:y7 H d p R){r:Row}(O:r.copies= []){k b:Nat}(v:H k=none)(G:upd H k (.lst []) b=none): y7 (upd (upd (upd H k (.lst [])) b (.lst (uO r k))) d (.lst ((p++ [b]).map V.ref))) d (p++ [b]) (R++ [r])/\aQN d p (p++ [b]) H (upd (upd (upd H k (.lst [])) b (.lst (uO r k))) d (.lst ((p++ [b]).map V.ref))):=by
 have N:=yG v (.lst []);have T:=yG G (.lst (uO r k));have E:=N.trans T;have m:H b=none:=N.fresh G;have C:b≠d:=λz=>by rw[z,h.lst]at m;cases m
 have J:k≠d:=λz=>by rw[z,h.lst]at v;cases v
 have K:k≠b:=λz=>by rw[<- z,yB]at G;cases G
 have nb:b∉p:=λz=>by obtain⟨o,e⟩:=h.dom b z;rw[m]at e;cases e
 have rne:∀ {a r' j},H a=some (.lst (uO r' j))->a≠d:=λq z=>by rw[z,h.lst]at q;exact aQo (bK8 q).symm
 refine⟨⟨yB,by simp[h.len],?_,λi c q g f=>?_⟩,λx o n e=>?_,λc t=>?_,λs u e n c t l D=>?_⟩
 ·exact cXd.mpr ⟨h.nd,cQa _ _,λa Q c v z=>nb (by rw[<- bK4.mp v,<- z];exact Q)⟩
 ·by_cases w:i<R.length
  ·rw[bYA (by rw[h.len];exact w)]at g;rw[bYA w]at f;obtain⟨j,F,A⟩:=h.row i c q g f;have I:j≠d:=λz=>by
    rw[z,h.lst]at A;have hl:=congrArg cXh (HO.lst.inj (bK8 A));have:=bK5 g;cases p with
    |nil=>cases this
    |cons x U=>
     cases B:q.copies with
     |nil=>rw[B]at hl;simp at hl
     |cons y W=>rw[B]at A;have:=HO.lst.inj (bK8 A);simp at this
   exact⟨j,by rw[yI (rne F)];exact E _ _ F,by rw[yI I];exact E _ _ A⟩
  ·have L:i=R.length:=by
    have:=(bKZ.mp f).1;simp at this;omega
   subst L;rw[bYc (by rw[h.len];exact bKU _),h.len,bY6]at g;rw[bYc (bKU _),bY6]at f;cases g;cases f;exact⟨k,by rw[yI C,yB];rfl,by rw[yI J,yI K,yB,O];rfl⟩
 ·have S:x≠d:=λz=>n (by rw[z];exact bK2);rw[yI S];exact E _ _ e
 ·rcases bYs.mp t with z|z
  ·exact .inl z
  ·exact .inr (by rw[bK4.mp z];exact m)
 ·rcases bYs.mp t with z|z
  ·have z2:c≠d:=λy=>by
    obtain⟨i,w,P⟩:=bYC z;obtain⟨j,F,_⟩:=h.row i c _ (by rw[bKM w,P]) (bKM (show i<R.length by rw[<- h.len];exact w));exact rne F y
   obtain⟨o,M⟩:=h.dom c z;rw[yI z2,E _ _ M]at D;exact n c z l (by rw[M];exact D)
  ·rw[bK4.mp z,yI C,yB]at D;cases D;intro y;have:k=s:=by injection y with y;injection y
   rw[<- this,v]at e;cases e
section
variable {K:bKP}
theorem jH:bYy "int"=some (.type "int"):=dk
theorem aWM:yM ["_law_rows","_law_deed","_law_way","_law_date","_law_partner","_law_link","_law_place","_law_one"] ["_law_rows","_law_deed"] (yH aXx):=scM
theorem aWs(T:vH mg)(a6:mg "int"=none)(D:FnG P w K mg base 2 "_law_good" ["_law_rows","_law_number"] Z3)(F:Fun K "_law_entered" "_law_entered" aXx f fd):y8 P w K mg base CX0 3 f fd ["_law_rows","_law_deed"] aQF:=by
 have sc:=aWM;refine F.ok (k:=2) sc (λb6 A outer s H vs Q E hr h=>?_);obtain⟨U,o,X,R,e,rfl,y,b5,v,I,hR,q⟩:=h;refine⟨_,(yC (vO (xL (yA (yL yW (pv 1) yE) (yA (yL yW (pv 1) yE) (yA (yL yW (pv 1) yE) (yA x9 (yA yO yD)))))) (aVl rfl (zE (y9 (i:=2)) (zE (y9 (i:=3)) (zE (y9 (i:=4)) (zE (y9 (i:=5)) (zE (y9 (i:=6)) aXr))))))) (yC (y6 (yN x5 (pv 2) yO) (yC (y6 (uB (x3 (xJ D hr rfl (yA (pv 0) (yA (yL yW (pv 1) yE) yD))))) (yF (yP yO)) yR) (yC (yT (i:=7) (yL yK (pv 0) (yL yW (pv 1) yE))) (yC (yT (i:=2) (yL yK (y3 (yA yO (yA yO yD))) (xT wQ rfl a6 jH (yA (zG x5 (yL yK (pv 7) yE) yO) yD)))) (yF (vO (xL (yA (yL yW (pv 1) yE) (yA (yL yK (pv 7) yE) (yA (yL yW (pv 1) yE) (yA (yL yK (pv 7) yE) yD))))) (aVl rfl (zE (y9 (i:=3)) (zE (y9 (i:=4)) (zE (y9 (i:=5)) (zE (y9 (i:=6)) aXr)))))))))) yR) (yC (y6 (yN vE (yL yW (pv 1) yE) yE) (yF (yP yO)) yR) (yC (y6 (PW.pt (vP (yN wG (pv 5) x9) (wU (yN vE (pv 3) (yL yK (yL yK (pv 0) (pv 5)) yE))))) (yF (yP yO)) yR) (yC (yY (uF bYn bYt bYu xG (pv 0) (yA (y3 (yA (pv 2) (yA (pv 3) (yA (pv 4) (yA (yL yW (pv 1) yE) (yA (pv 5) (yA (pv 6) (yA qL (yA (y3 yD) yD))))))))) yD))) (yF (yP (yV wT (yU yQ rfl T.b_len xD (yA (pv 0) yD)) yE)))))))),?_⟩;have h0:∃a b c,(xE e)[0]? =some (.str a)/\(xE e)[1]? =some (.int b)/\(xE e)[2]? =some c/\a=Desk.aKA e:=by
  rcases v with⟨g,d,l,t,rfl⟩|⟨m,d,t,rfl⟩
  ·exact⟨_,_,_,rfl,rfl,rfl,rfl⟩
  ·exact⟨_,_,_,rfl,rfl,rfl,rfl⟩
 obtain⟨N,b0,J,d0,d1,d2,ea⟩:=h0;refine⟨_,rfl,o,_,0,_,rfl,rfl,SqT.of y,yS (j:=0) d0,_,rfl,o,_,1,_,rfl,rfl,SqT.of y,yS (j:=1) d1,_,rfl,o,_,2,_,rfl,rfl,SqT.of y,yS (j:=2) d2,z5,λtp b2=>?_⟩;have W:=yG b2 (.tup [.str N,.int b0,J,.non,.str ""]);refine⟨tp,[.str N,.int b0,J,.non,.str ""],rfl,SqT.of yB,rfl,.str N,[.int b0,J,.non,.str ""],rfl,.int b0,[J,.non,.str ""],rfl,J,[.non,.str ""],rfl,.non,[.str ""],rfl,.str "",[],rfl,rfl,?_⟩;generalize upd H tp (.tup [.str N,.int b0,J,.non,.str ""])=H1 at W ⊢;dsimp only[yX];refine x4 (λp H'=>∃ (g l place:Str)(d t:Int)(lk:Option Nat)(o7:Option V),p= [some (.ref U),some (.ref o),some (.str g),some (.int d),some (.str l),some (wL lk),some (.str place),o7]/\xA H H'/\(xE e)[3]? =some (.int t)/\(∀k,lk=some k->k<R.length)/\
  (t<0->∀S,xV R S e (.txt "no term") R S)/\(0<=t->(∃k,lk=some k/\d<Bk.dt R k)->∀S,xV R S e (.txt "too early") R S)/\(0<=t->(∀k,lk=some k->Bk.dt R k<=d)->∀S,xV R S e (.num R.length) (R++ [⟨g,d,l,t,lk,place,false,[]⟩]) S)) ?jR (λn=>?_)
 case jR=>
  rintro p H2 ⟨g,l,place,d,t,lk,o7,rfl,B,d3,b3,t1,t2,t3⟩;have u:=I.same B;have Z:=B _ _ y;have stay:∀ {H3:Hp} {x:Str},xA H H3->(∀S,xV R S e (.txt x) R S)->Q (.str x) H3:=λ{H3 x} k dn=>q H3 (.txt x) _ R X (But.of I.dom k).step (I.same k) dn rfl (λ_ z=>nomatch z);refine⟨_,rfl,o,_,3,_,rfl,rfl,SqT.of Z,yS (j:=3) d3,_,_,rfl,rfl,_,rfl,?_⟩;refine qB (λc=>?_) (λc=>?_)
  ·exact stay B (t1 (of_decide_eq_true c))
  have ht:0<=t:=by have:=of_decide_eq_false (Bool.eq_false_iff.mpr c);omega
  dsimp only[aWX];refine x4 (λp H'=>p= [some (.ref U),some (.ref o),some (.str g),some (.int d),some (.str l),some (wL lk),some (.str place),o7]/\H'=H2/\∀k,lk=some k->Bk.dt R k<=d) ?rest2 (λn=>?_);case rest2=>
   rintro p H' ⟨rfl,rfl,h1⟩;refine⟨_,rfl,.inl ⟨rfl,_,SqL.of u.lst⟩,_,rfl,_,rfl,_,rfl,_,rfl,o,_,3,_,rfl,rfl,SqT.of Z,yS (j:=3) d3,_,rfl,_,rfl,z0,λcp a7=>⟨zn (by show 8<=100000;omega),λb hb=>?_⟩⟩;have hE:=aVR u (r:=⟨g,d,l,t,lk,place,false,[]⟩) rfl a7 hb;have k3:=(yG a7 (.lst [])).trans (yG hb (.lst (uO ⟨g,d,l,t,lk,place,false,[]⟩ cp)));refine⟨U,_,_,rfl,rfl,k3 _ _ u.lst,zlt (by rw[bKT,I.len];omega),?_⟩;have el:X.map V.ref++ [V.ref b]=(X++ [b]).map V.ref:=by simp
   rw[el];refine⟨_,rfl,U,_,rfl,.inl (SqL.of yB),?_⟩;refine⟨_,_,rfl,rfl,?_⟩;have en:(((((X++ [b]).map V.ref).length:Nat):Int) - 1)=(R.length:Int):=by rw[bKT,bYh,I.len];simp
   show Q (V.int _) _;rw[en];exact q _ (.num R.length) _ _ _ (hE.2.pre I.dom B) hE.1 (t3 ht h1) rfl (λ_ z=>nomatch z)
  cases lk with
  |none=>exact⟨_,rfl,rfl,_,rfl,onF rfl (onF rfl (n _ _ ⟨rfl,rfl,λk z=>nomatch z⟩))⟩
  |some j=>
   have b4:=b3 j rfl;have L:=bKM b4;obtain⟨bj,j1,j2,cj,j3,j4⟩:=u.get L;refine⟨_,rfl,rfl,_,rfl,onT rfl ⟨_,rfl,_,rfl,_,rfl,U,_,_,_,rfl,rfl,SqL.of u.lst,yS j1,bj,_,1,_,rfl,rfl,SqL.of j3,rfl,_,_,rfl,rfl,_,rfl,?_⟩⟩;cases a2:decide (d<R[j].date)with
   |true=>exact onT rfl (stay B (t2 ht ⟨j,rfl,by rw[Bk.wY L];exact of_decide_eq_true a2⟩))
   |false=>exact onF rfl (n _ _ ⟨rfl,rfl,λi O=>by cases O;rw[Bk.wY L];have:=of_decide_eq_false a2;omega⟩)
 refine⟨_,rfl,rfl,_,rfl,?_⟩;rcases v with⟨g,d,l,t,rfl⟩|⟨m,d,t,rfl⟩
 ·have a4:g="in"\/g="out":=b5;obtain rfl:N=g:=by cases d0;rfl
  obtain rfl:b0=d:=by cases d1;rfl
  obtain rfl:J= .str l:=by cases d2;rfl
  refine onF (by rcases a4 with rfl|rfl<;> decide) ?_;exact n _ _ ⟨N,l,"",b0,t,none,none,rfl,W,rfl,(λk z=>nomatch z),(λh S=> .enterT h),(λh ⟨k,z,_⟩=>nomatch z),λh _ S=> .enter h⟩
 ·obtain rfl:N="reply":=by cases d0;rfl
  obtain rfl:b0=m:=by cases d1;rfl
  obtain rfl:J= .int d:=by cases d2;rfl
  refine onT rfl ?_;have M:H1 o=some (.tup [.str "reply",.int b0,.int d,.int t]):=W _ _ y;have C:=I.same W;refine⟨_,rfl,_,rfl,o,_,1,_,rfl,rfl,SqT.of M,rfl,U,X,R,b0,rfl,C,_,rfl,?_⟩;cases h1:Bk.zZ R b0 with
  |false=>exact onT rfl (q H1 (.txt "no letter") _ R X (But.of I.dom W).step C (λS=> .replyN h1) rfl (λ_ z=>nomatch z))
  |true=>
  obtain⟨i,r,rfl,a9,O,hv⟩:=Bk.z6 h1;obtain⟨b,g1,g2,cp,g3,g4⟩:=C.get O;refine onF rfl ⟨_,rfl,_,rfl,o,_,1,_,rfl,rfl,SqT.of M,rfl,U,_,_,_,rfl,rfl,SqL.of C.lst,yS g1,?_⟩;dsimp only[yX];refine⟨z2,λl2 a5=>⟨_,rfl,b,_,0,_,rfl,rfl,SqL.of (yG a5 (.lst [.str "in",.str "out"]) _ _ g3),rfl,rfl,.inr ⟨_,rfl,?_⟩⟩⟩;have B:=yG a5 (.lst [.str "in",.str "out"]);have a3:=W.trans B;have G:upd H1 l2 (.lst [.str "in",.str "out"]) l2=some (.lst [.str "in",.str "out"]):=yB;generalize upd H1 l2 (.lst [.str "in",.str "out"])=H3 at B a3 G ⊢;have b1:atI [V.str "in",V.str "out"] (if decide (V.str r.way=V.str "in")=true then 1 else 0)=some (.str (Bk.jF r.way)):=by
   rw[wN];unfold Bk.jF;by_cases z:r.way="in"
   ·rw[if_pos z,decide_eq_true z];rfl
   ·rw[if_neg z,decide_eq_false z];rfl
  have a1:=B _ _ M;have Y:=B _ _ g3;refine⟨l2,_,_,_,rfl,rfl,SqL.of G,b1,?_⟩;dsimp only[yX];refine⟨_,rfl,o,_,2,_,rfl,rfl,SqT.of a1,rfl,_,rfl,b,_,2,_,rfl,rfl,SqL.of Y,rfl,_,rfl,o,_,1,_,rfl,rfl,SqT.of a1,rfl,_,rfl,b,_,5,_,rfl,rfl,SqL.of Y,rfl,z4,λt4 a8=>?_⟩;have k4:=yG a8 (.tup [.int d,.str r.partner,.int (i:Nat),.str r.place]);refine⟨t4,[.int d,.str r.partner,.int (i:Nat),.str r.place],rfl,SqT.of yB,rfl,.int d,[.str r.partner,.int (i:Nat),.str r.place],rfl,.str r.partner,[.int (i:Nat),.str r.place],rfl,.int (i:Nat),[.str r.place],rfl,.str r.place,[],rfl,rfl,?_⟩;refine n _ _ ⟨Bk.jF r.way,r.partner,r.place,d,t,some i,_,rfl,a3.trans k4,rfl,(λk z=>by cases z;exact a9),(λh S=> .replyT h1 h),(λh ⟨k,z,y⟩ S=>?_),(λh y S=>?_)⟩
  ·cases z;rw[Bk.wY O]at y;exact .replyE O hv h y
  ·have:=y i rfl;rw[Bk.wY O]at this;exact .reply O hv h this
end
end Law
namespace Law
open PySem L2 PyProof.Rows
open Bk (Row Rows xV xM Ans)
open Desk (xE wX uG Wf wI)
abbrev bJ7:Stmt:=xF "_law_with_one"
theorem y7.tupNo{H:Hp}{f:Nat}{c:List Nat}{R:Rows}(h:y7 H f c R){x:Nat}{ys:List V}(e:H x=some (.tup ys)):x∉c:=λz=>by
 obtain⟨i,b,d⟩:=bYC z;obtain⟨g,a,_⟩:=h.row i x _ (by rw[bKM b,d]) (bKM (show i<R.length by rw[<- h.len];exact b));rw[e]at a;cases a
theorem aZZ{H:Hp}{j:Nat}{g:List Nat}{R:Rows}{k:Nat}{b:Nat}{r:Row}(h:y7 H j g R)(q:g[k]? =some b)(v:R[k]? =some r){A a:Nat}(B:H b=some (.lst (uO r A)))(w:List Str)(f:H a=none): y7 (upd (upd H a (.lst (w.map V.str))) b (.lst (uO r a))) j g (Bk.xP R k λr=>{r with copies:=w})/\aQN j g g H (upd (upd H a (.lst (w.map V.str))) b (.lst (uO r a))):=by
 have m:=yG f (.lst (w.map V.str));have t:=h.same m;refine⟨t.upd q v (λr=>{r with copies:=w}) yB,λx o n e=>?_,λc i=> .inl i,λs u e n c i l d=>?_⟩
 ·rw[yI (λz=>n (bKY _ (by rw[z];exact bK5 q)))];exact m _ _ e
 ·by_cases z:c=b
  ·subst z;rw[yB]at d;cases d;intro y;have:a=s:=by injection y with y;injection y
   rw[<- this,f]at e;cases e
  ·rw[yI z]at d;obtain⟨o,p⟩:=h.dom c i;rw[m _ _ p]at d;exact n c i l (by rw[p];exact d)
def qS(e:xM)(m:Int):Prop:=e= .loose m\/(∃d,e= .date m d)\/(∃t,e= .term m t)\/(∃w,e= .copy m w)\/(∃w,e= .file m w)\/e= .void m
def bQe:Sp:=λh H Q _=>∃ (b f:Nat)(c:List Nat)(R:Rows)(e:xM)(m:Int),h= [.ref b,.ref f]/\H f=some (.tup (xE e))/\qS e m/\y7 H b c R/\R.length<=60/\Bk.qP R/\(∀r∈R,r.copies.length<=1000)/\
 ∀ (d:Hp)(a:Ans)(v:V)(g:Rows),aQN b c c H d->y7 d b c g->(∀S,xV R S e a g S)->wX [] d a v->uG H v->Q v d
theorem qS.at1{e:xM}{m:Int}(h:qS e m):(xE e)[1]? =some (.int m):=by
 rcases h with rfl|⟨d,rfl⟩|⟨d,rfl⟩|⟨d,rfl⟩|⟨d,rfl⟩|rfl<;> rfl
theorem qS.no{e:xM}{m:Int}{R:Rows}(h:qS e m)(g:Bk.zZ R m=false)(S:List Int):xV R S e (.txt "no letter") R S:=by
 refine .oneN g ?_;rcases h with rfl|⟨d,rfl⟩|⟨d,rfl⟩|⟨d,rfl⟩|⟨d,rfl⟩|rfl<;> simp
section
variable {K:bKP}
theorem bVl:yM ["_law_rows","_law_deed","_law_one","_law_numbers","_law_k","_law_row"] ["_law_rows","_law_deed"] (yH bJ7):=scM
theorem bJK(T:vH mg)(X:FnG P w K mg base 2 "_law_good" ["_law_rows","_law_number"] Z3)(M:FnG P w K mg base 2 "_law_dated" ["_law_rows","_law_number","_law_date"] aY2)(U:FnG P w K mg base 2 "_law_lost" ["_law_rows","_law_number"] bZN) (I:FnG P w K mg base 2 "_law_family" ["_law_rows","_law_number"] J7) (F:Fun K "_law_with_one" "_law_with_one" bJ7 f fd):y8 P w K mg base CX0 3 f fd ["_law_rows","_law_deed"] bQe:=by
 have sc:=bVl;refine F.ok (k:=2) sc (λc4 A outer s H vs Q E hr h=>?_);obtain⟨W,l,rs,R,e,m,rfl,n,D,y,hR,a5,b1,q⟩:=h;refine⟨_,(yC (y6 (uB (x3 (xJ X hr rfl (yA (pv 0) (yA (yL yW (pv 1) yE) yD))))) (yF (yP yO)) yR) (yC (yT (i:=2) (yL yK (pv 0) (yL yW (pv 1) yE))) (yC (y6 (yN x5 (yL yW (pv 1) yE) yO) (yF (yP (xJ M hr rfl (yA (pv 0) (yA (yL yW (pv 1) yE) (yA (yL yW (pv 1) yE) yD)))))) yR) (yC (y6 (yN x5 (yL yW (pv 1) yE) yO) (yF (yP (xJ U hr rfl (yA (pv 0) (yA (yL yW (pv 1) yE) yD))))) yR) (yC (y6 (yN x5 (yL yW (pv 1) yE) yO) (yC (y6 (yN aVe (yL yK (pv 2) yE) x9) (yF (yP yO)) yR) (yC (vO x9 (qM (pv 2) yE zP)) (yF (yP yO)))) yR) (yC (y6 (yN x5 (yL yW (pv 1) yE) yO) (yC (y6 (yN vE (yL yW (pv 1) yE) yE) (yF (yP yO)) yR) (yC (vO (yL yW (pv 1) yE) (qM (pv 2) yE zP)) (yF (yP yO)))) yR) (yC (y6 (yN x5 (yL yW (pv 1) yE) yO) (yC (y6 (PW.pt (Z9 (yN x5 (yL yW (pv 1) yE) (yL yK (pv 2) yE)) (jL (yN wS (yL yW (pv 1) yE) (yL yK (pv 2) yE))))) (yF (yP yO)) yR) (yC (vO (yV aK8 (yL yK (pv 2) yE) (y3 (yA (yL yW (pv 1) yE) yD))) (qM (pv 2) yE zP)) (yF (yP (yU yQ rfl T.b_len xD (yA (yL yK (pv 2) yE) yD)))))) yR) (yC (yT (i:=3) (xJ I hr rfl (yA (pv 0) (yA (yL yW (pv 1) yE) yD)))) (yC (wE bYI rfl (xI (pv 3)) (y9 (i:=4)) (yC (yT (i:=5) (yL yK (pv 0) (pv 4))) (yF (vO (yL yW (pv 1) yE) (qM (pv 5) yE zP))))) (yF (yP (yU yQ rfl T.b_len xD (yA (pv 3) yD))))))))))))),?_⟩;have b6:aQN W rs rs H H:=(But.of y.dom (xA.refl _)).step;have txt:∀ {x:Str},(∀S,xV R S e (.txt x) R S)->Q (.str x) H:=λ{x} dn=>q H (.txt x) _ R b6 y dn rfl (λ_ z=>nomatch z);refine⟨_,rfl,_,rfl,l,_,1,_,rfl,rfl,SqT.of n,yS (j:=1) D.at1,W,rs,R,m,rfl,y,_,rfl,?_⟩;cases h1:Bk.zZ R m with
 |false=>exact onT rfl (txt λS=>D.no h1 S)
 |true=>
 obtain⟨i,r,rfl,a3,u,B⟩:=Bk.z6 h1;obtain⟨b,g1,g2,cp,N,g4⟩:=y.get u;refine onF rfl ⟨_,rfl,_,rfl,l,_,1,_,rfl,rfl,SqT.of n,yS (j:=1) D.at1,W,_,_,_,rfl,rfl,SqL.of y.lst,yS g1,?_⟩;dsimp only[yX];have a2:∀j,r.link=some j->j<R.length:=λj hj=>by obtain⟨p,hp,_⟩:=a5.ans i j r u hj;exact(bKZ.mp hp).1
 have up:∀ {x:Str} (g:Row->Row),(∀r,(g r).copies=r.copies)->(∀S,xV R S e (.txt x) (Bk.xP R i g) S)->Q (.str x) (upd H b (.lst (uO (g r) cp))):=λ{x} g hg dn=>
  q _ (.txt x) _ _ (But.upd (l':=uO (g r) cp) y.dom g2 N rfl).step (y.upd g2 u g (by rw[hg];exact g4)) dn rfl (λ_ z=>nomatch z)
 rcases D with rfl|⟨d,rfl⟩|⟨t,rfl⟩|⟨o,rfl⟩|⟨Y,rfl⟩|rfl
 ·refine⟨_,rfl,l,_,0,_,rfl,rfl,SqT.of n,rfl,rfl,_,rfl,onF (by decide) ⟨_,rfl,l,_,0,_,rfl,rfl,SqT.of n,rfl,rfl,_,rfl,onF (by decide) ⟨_,rfl,l,_,0,_,rfl,rfl,SqT.of n,rfl,rfl,_,rfl,onT (by decide) ⟨_,rfl,b,_,4,_,rfl,rfl,SqL.of N,rfl,rfl,_,rfl,?_⟩⟩⟩⟩;cases a8:r.link with
  |none=>exact onT rfl (txt λS=> .looseN u B a8)
  |some j=>refine onF rfl ⟨_,rfl,b,_,4,4,rfl,rfl,N,rfl,?_⟩;exact up (λr=>{r with link:=none}) (λ_=>rfl) λS=> .loose u B (by rw[a8];simp)
 ·refine⟨_,rfl,l,_,0,_,rfl,rfl,SqT.of n,rfl,rfl,_,rfl,onT (by decide) ⟨_,rfl,_,rfl,l,_,1,_,rfl,rfl,SqT.of n,rfl,_,rfl,l,_,2,_,rfl,rfl,SqT.of n,rfl,W,rs,R,i,r,d,rfl,y,by omega,u,a2,λH' a R' L a0 O=>?_⟩⟩;refine q H' (.txt a) _ R' L.step a0 (λS=>?_) rfl (λ_ z=>nomatch z);rcases O with⟨Z,rfl,rfl⟩|⟨Z,rfl,rfl⟩
  ·exact .dateE u B Z
  ·refine .date u B (λj hj=>?_) (λc O=>?_)
   ·exact Int.not_lt.mp λz=>Z (.inl ⟨j,hj,z⟩)
   ·exact Int.not_lt.mp λz=>Z (.inr ⟨c,O,z⟩)
 ·refine⟨_,rfl,l,_,0,_,rfl,rfl,SqT.of n,rfl,rfl,_,rfl,onF (by decide) ⟨_,rfl,l,_,0,_,rfl,rfl,SqT.of n,rfl,rfl,_,rfl,onF (by decide) ⟨_,rfl,l,_,0,_,rfl,rfl,SqT.of n,rfl,rfl,_,rfl,onF (by decide) ⟨_,rfl,l,_,0,_,rfl,rfl,SqT.of n,rfl,rfl,_,rfl,onT (by decide) ⟨_,rfl,l,_,2,_,rfl,rfl,SqT.of n,rfl,_,_,rfl,rfl,_,rfl,?_⟩⟩⟩⟩⟩;refine qB (λc=>?_) (λc=>?_)
  ·exact txt λS=> .termN u B (of_decide_eq_true c)
  ·refine⟨_,rfl,l,_,2,_,rfl,rfl,SqT.of n,rfl,_,rfl,b,_,3,3,rfl,rfl,N,rfl,?_⟩;exact up (λr=>{r with term:=t}) (λ_=>rfl) λS=> .term u B (by have:=of_decide_eq_false (Bool.eq_false_iff.mpr c);omega)
 ·refine⟨_,rfl,l,_,0,_,rfl,rfl,SqT.of n,rfl,rfl,_,rfl,onF (by decide) ⟨_,rfl,l,_,0,_,rfl,rfl,SqT.of n,rfl,rfl,_,rfl,onF (by decide) ⟨_,rfl,l,_,0,_,rfl,rfl,SqT.of n,rfl,rfl,_,rfl,onF (by decide) ⟨_,rfl,l,_,0,_,rfl,rfl,SqT.of n,rfl,rfl,_,rfl,onF (by decide) ⟨_,rfl,l,_,0,_,rfl,rfl,SqT.of n,rfl,rfl,_,rfl,onT (by decide) ⟨_,rfl,l,_,2,_,rfl,rfl,SqT.of n,rfl,_,rfl,b,_,2,_,rfl,rfl,SqL.of N,rfl,rfl,_,rfl,?_⟩⟩⟩⟩⟩⟩;rw[wN];cases a7:decide (o=r.partner)with
  |true=>exact onT rfl (onT rfl (txt λS=> .copyC u B (.inl (of_decide_eq_true a7))))
  |false=>
  refine onF rfl ⟨_,rfl,l,_,2,_,rfl,rfl,SqT.of n,rfl,_,rfl,b,_,7,_,rfl,rfl,SqL.of N,rfl,cp,_,rfl,.inl (SqL.of g4),rfl,cXS.mpr (λv B=>by obtain⟨x,_,rfl⟩:=bYQ.mp B;rfl),?_⟩;rw[if_neg (by decide),wI];refine⟨_,rfl,?_⟩;cases a4:r.copies.contains o with
  |true=>exact onT rfl (txt λS=> .copyC u B (.inr (by simpa using a4)))
  |false=>
  have c0:r.copies.length<=1000:=b1 r (bK5 u);refine onF rfl ⟨_,rfl,b,_,7,_,rfl,rfl,SqL.of N,rfl,_,rfl,l,_,2,_,rfl,rfl,SqT.of n,rfl,z1,λl1 b5=>?_⟩;have k1:=yG b5 (.lst [.str o]);refine⟨cp,l1,_,_,rfl,rfl,k1 _ _ g4,yB,by rw[bKT,bYm];simp;omega,λc2 C=>?_⟩;have a1:=aZZ (y.same k1) g2 u (k1 _ _ N) (r.copies++ [o]) C;have e5:r.copies.map V.str++ [V.str o]=(r.copies++ [o]).map V.str:=by simp
  rw[e5];have k2:=yG C (.lst ((r.copies++ [o]).map V.str));have b8:c2≠b:=λz=>by rw[z,k1 _ _ N]at C;cases C
  refine⟨_,rfl,b,_,7,7,rfl,rfl,k2 _ _ (k1 _ _ N),rfl,?_⟩;refine⟨_,rfl,b,_,7,_,rfl,rfl,SqL.of yB,rfl,c2,(r.copies++ [o]).map V.str,rfl,.inl (SqL.of (by rw[yI b8];exact yB)),?_⟩;have en:(((((r.copies++ [o]).map V.str).length:Nat)):Int)=(r.copies.length+1:Nat):=by simp
  rw[en];have hE:Bk.xP R i (λq=>{q with copies:=r.copies++ [o] })=Bk.xP R i (λq=>{q with copies:=q.copies++ [o] }):=by unfold Bk.xP;rw[u]
  rw[hE]at a1;exact q _ (.num _) _ _ (a1.2.pre y.dom k1) a1.1 (λS=> .copy u B (of_decide_eq_false a7) (by simpa using a4)) rfl (λ_ z=>nomatch z)
 ·obtain⟨rk,ok⟩:=a5.tree;refine⟨_,rfl,l,_,0,_,rfl,rfl,SqT.of n,rfl,rfl,_,rfl,onF (by decide) ⟨_,rfl,l,_,0,_,rfl,rfl,SqT.of n,rfl,rfl,_,rfl,onF (by decide) ⟨_,rfl,l,_,0,_,rfl,rfl,SqT.of n,rfl,rfl,_,rfl,onF (by decide) ⟨_,rfl,l,_,0,_,rfl,rfl,SqT.of n,rfl,rfl,_,rfl,onF (by decide) ⟨_,rfl,l,_,0,_,rfl,rfl,SqT.of n,rfl,rfl,_,rfl,onF (by decide) ⟨_,rfl,_,rfl,l,_,1,_,rfl,rfl,SqT.of n,rfl,W,rs,R.length,Bk.lk R,rk,Bk.dt R,i,rfl,y.rows,ok,hR,a3,λH2 l2 c1 k2 c3 b0 b9 a9=>?_⟩⟩⟩⟩⟩⟩;have b7:=Bk.aZO a3 ⟨rk,ok,b9,a9⟩;subst b7;dsimp only[yX];have a6:=y.same k2;have b2:H2 l=some (.tup [.str "file",.int (i:Nat),.str Y]):=k2 _ _ n;have b3:=y.tupNo n;refine⟨_,rfl,l2,rfl,⟨_,SqL.of b0⟩,?_⟩;refine zI (xs:=(Bk.thr R i).map λi=>V.int (i:Nat)) (λt σ H3=>∃o5 o6:Option V,σ= [some (.ref W),some (.ref l),some (.ref b),some (.ref l2),o5,o6]/\y7 H3 W rs (Bk.laid R ((Bk.thr R i).take t) Y)/\But rs H2 H3/\H3 l2=some (.lst ((Bk.thr R i).map λi=>V.int (i:Nat)))) ?_ ?_ ?_ ?_
  ·exact⟨none,none,rfl,a6,But.of a6.dom (xA.refl _),b0⟩
  ·rintro t σ H3 ht ⟨o5,o6,rfl,G,k3,J⟩;exact SqL.of J
  ·rintro t x σ H3 hx ⟨o5,o6,rfl,G,k3,J⟩;rw[bK7]at hx;cases O:(Bk.thr R i)[t]? with
   |none=>rw[O]at hx;cases hx
   |some k=>rw[O]at hx;cases hx;have b4:k<R.length:=((a9 k).mp (bK5 O)).1;obtain⟨bk,ck,c5,e1,e2,e3,e4,e5,e6⟩:=aJ8 (K:=K) G O b4 J;dsimp only[yX];refine⟨_,rfl,_,rfl,W,_,_,_,rfl,rfl,SqL.of G.lst,yS e1,?_⟩;dsimp only[yX];exact⟨_,rfl,l,_,2,_,rfl,rfl,SqT.of (k3.1 _ _ b3 b2),rfl,_,rfl,bk,_,5,5,rfl,rfl,e2,rfl,_,_,rfl,e3,k3.trans e4,e5⟩
  ·rintro σ H3 ⟨o5,o6,rfl,G,k3,J⟩;rw[bKT,bYR]at G;refine⟨_,rfl,l2,_,rfl,.inl (SqL.of J),?_⟩;rw[bKT];exact q _ (.num _) _ _ (((But.of y.dom k2).trans k3).step) G (λS=> .file u B) rfl (λ_ z=>nomatch z)
 ·refine⟨_,rfl,l,_,0,_,rfl,rfl,SqT.of n,rfl,rfl,_,rfl,onF (by decide) ⟨_,rfl,l,_,0,_,rfl,rfl,SqT.of n,rfl,rfl,_,rfl,onT (by decide) ⟨_,rfl,_,rfl,l,_,1,_,rfl,rfl,SqT.of n,rfl,W,rs,R,i,r,rfl,y,by omega,u,λH' a R' L a0 O=>?_⟩⟩⟩;refine q H' (.txt a) _ R' L.step a0 (λS=>?_) rfl (λ_ z=>nomatch z);rcases O with⟨Z,rfl,rfl⟩|⟨Z,rfl,rfl⟩
  ·exact .voidA u B Z
  ·exact .void u B Z
end
end Law
namespace Law
open PySem L2 PyProof.Rows
open Bk (Row Rows xV xM Ans)
open Desk (xE wX uG Wf wI stV)
abbrev aYC:Stmt:=xF "_law_told_of"
def aW4(e:xM):Prop:=(∃m,e= .state m)\/(∃m,e= .thread m)\/(∃m,e= .copies m)\/(∃w,e= .letters w)\/∃a d,e= .on a d
def bQb:Sp:=λg H Q _=>∃ (d f c:Nat)(h:List Nat)(R:Rows)(S:List Int)(e:xM),g= [.ref d,.ref f,.ref c]/\H c=some (.tup (xE e))/\aW4 e/\y7 H d h R/\H f=some (.lst (S.map V.int))/\R.length<=60/\Bk.qP R/\
 ∀ (b:Hp)(a:Ans)(v:V),xA H b->xV R S e a R S->wX [] b a v->uG H v->Q v b
theorem vC:bYy "list"=some (.type "list"):=dk
theorem vT:bYy "tuple"=some (.type "tuple"):=dk
section
variable {K:bKP}
theorem bVj:yM ["_law_rows","_law_shut","_law_deed","_law_here"] ["_law_rows","_law_shut","_law_deed"] (yH aYC):=scM
theorem bQR:xH ["_law_rows","_law_shut","_law_deed","_law_here"] (yH aYC) "_law_k" ["_law_rows"] [0] {kind:= .function,names:= [(".0",.local),("_law_k",.local),("_law_rows",.free)],isGenerator:=false,isCoroutine:=false,more:= [] }:=
 lcM
theorem bQS:xH ["_law_rows","_law_shut","_law_deed","_law_here"] (yH aYC) "_law_k" ["_law_deed","_law_rows"] [2,0] {kind:= .function,names:= [(".0",.local),("_law_k",.local),("_law_deed",.free),("_law_rows",.free)],isGenerator:=false,isCoroutine:=false,more:= [] }:=
 lcM
def X5(R:Rows)(w:Str):V->Bool
 |.int n=>match R[n.toNat]? with|some r=>decide (r.place=w)|none=>false
 |_=>false
theorem bJI(T:vH mg)(a0:mg "list"=none)(a6:mg "tuple"=none)(W:FnG P w K mg base 2 "_law_good" ["_law_rows","_law_number"] Z3)(t:FnG P w K mg base 3 "_law_list_on" ["_law_rows","_law_shut","_law_date","_law_late"] aVC) (G:FnG P w K mg base 2 "_law_family" ["_law_rows","_law_number"] J7) (F:Fun K "_law_told_of" "_law_told_of" aYC f fd):y8 P w K mg base CX0 4 f fd ["_law_rows","_law_shut","_law_deed"] bQb:=by
 have sc:=bVj;refine F.ok (k:=3) sc (λc0 A outer s H vs Q E hr h=>?_);obtain⟨B,sa,g,Y,R,S,e,rfl,y,a5,L,b7,hR,a9,q⟩:=h;have a3:vJ 2 _:=hr.mono (by omega);refine⟨_,(yC (y6 (yN x5 (yL yW (pv 2) yE) yO) (yC (aZx (i:=3) bQR rfl sc.nd rfl rfl (zN rfl T.b_range (yA (yU yQ rfl T.b_len xD (yA (pv 0) yD)) yD)) (λ_ _ _ _ _=>(wM (uB (x3 (yL (show IxR _ (aXO K)from yK) (yL (show IxR _ (aXO K)from yK) (pv 1) (pv 0)) yE))))) (λ_ _ _ _ _=>(pv 0))) (yF (yP (aQm bQS rfl (xI (pv 3)) (λ_ _ _ _ _=>(wM (yN x5 (yL (show IxR _ (aXO K)from yK) (yL (show IxR _ (aXO K)from yK) (pv 2) (pv 0)) yE) (yL (show IxR _ (bZH K)from yW) (pv 1) yE)))) (λ_ _ _ _ _=>(pv 0)))))) yR) (yC (y6 (yN wS (yL yW (pv 2) yE) (y3 (yA yO (yA yO yD)))) (yF (yP (xJ t hr rfl (yA (pv 0) (yA (pv 1) (yA (yL yW (pv 2) yE) (yA (zG x5 (yL yW (pv 2) yE) yO) yD))))))) yR) (yC (y6 (uB (x3 (xJ W a3 rfl (yA (pv 0) (yA (yL yW (pv 2) yE) yD))))) (yF (yP yO)) yR) (yC (y6 (yN x5 (yL yW (pv 2) yE) yO) (yF (yP (xJ G a3 rfl (yA (pv 0) (yA (yL yW (pv 2) yE) yD))))) yR) (yC (y6 (yN x5 (yL yW (pv 2) yE) yO) (yF (yP (xT vA rfl a0 vC (yA (yL yK (yL yK (pv 0) (yL yW (pv 2) yE)) yE) yD)))) yR) (yF (yP (xT qE rfl a6 vT (yA (aXq aJR (yL yK (pv 0) (yL yW (pv 2) yE)) aJu (aJv yE)) yD))))))))),?_⟩;have txt:∀ {C:Hp} {x:Str},xA H C->xV R S e (.txt x) R S->Q (.str x) C:=λ{C x} k dn=>q C (.txt x) _ k dn rfl (λ_ z=>nomatch z);have one:∀ {m:Int} {x:Str},xE e= [.str x,.int m]->True:=λ_=>trivial;rcases a5 with⟨m,rfl⟩|⟨m,rfl⟩|⟨m,rfl⟩|⟨j,rfl⟩|⟨o,d,rfl⟩
 ·refine⟨_,rfl,g,_,0,_,rfl,rfl,SqT.of y,rfl,rfl,_,rfl,onF (by decide) ?_⟩;refine⟨_,rfl,g,_,0,_,rfl,rfl,SqT.of y,rfl,z2,λJ u=>⟨J,_,rfl,.inl (SqL.of yB),rfl,rfl,_,rfl,onF (by decide) ?_⟩⟩;have n:=yG u (.lst [.str "waiting",.str "overdue"]);generalize upd H J (.lst [.str "waiting",.str "overdue"])=H1 at n ⊢;have a:H1 g=some (.tup [.str "state",.int m]):=n _ _ y;have c:=L.same n;refine⟨_,rfl,_,rfl,g,_,1,_,rfl,rfl,SqT.of a,rfl,B,Y,R,m,rfl,c,_,rfl,?_⟩;cases Z:Bk.zZ R m with
  |false=>exact onT rfl (txt n (.oneN Z (by simp)))
  |true=>
  obtain⟨i,r,rfl,N,hi,M⟩:=Bk.z6 Z;obtain⟨b,g1,g2,cp,O,g4⟩:=c.get hi;refine onF rfl ⟨_,rfl,g,_,0,_,rfl,rfl,SqT.of a,rfl,rfl,_,rfl,onF (by decide) ⟨_,rfl,g,_,0,_,rfl,rfl,SqT.of a,rfl,rfl,_,rfl,onF (by decide) ?_⟩⟩;refine⟨_,rfl,_,rfl,g,_,1,_,rfl,rfl,SqT.of a,rfl,B,_,_,_,rfl,rfl,SqL.of c.lst,yS g1,_,rfl,b,_,rfl,SqL.of O,λp2 U=>⟨p2,_,rfl,.inl ⟨SqL.of yB,λp3 a4=>?_⟩⟩⟩;have a8:aXe (uO r cp) none (some 6)=stV r:=by unfold stV Desk.W0 Desk.qX;rw[M];cases b3:r.link<;> (unfold uO;rw[b3];rfl)
  have k2:=yG U (.lst (aXe (uO r cp) none (some 6)));have k3:=yG a4 (.tup (aXe (uO r cp) none (some 6)));exact q _ (.row r) _ ((n.trans k2).trans k3) (.state hi M) ⟨p3,rfl,by simp,by rw[<- a8];exact yB⟩ (.none ((n.trans k2).fresh a4))
 ·refine⟨_,rfl,g,_,0,_,rfl,rfl,SqT.of y,rfl,rfl,_,rfl,onF (by decide) ?_⟩;refine⟨_,rfl,g,_,0,_,rfl,rfl,SqT.of y,rfl,z2,λJ u=>⟨J,_,rfl,.inl (SqL.of yB),rfl,rfl,_,rfl,onF (by decide) ?_⟩⟩;have n:=yG u (.lst [.str "waiting",.str "overdue"]);generalize upd H J (.lst [.str "waiting",.str "overdue"])=H1 at n ⊢;have a:H1 g=some (.tup [.str "thread",.int m]):=n _ _ y;have c:=L.same n;refine⟨_,rfl,_,rfl,g,_,1,_,rfl,rfl,SqT.of a,rfl,B,Y,R,m,rfl,c,_,rfl,?_⟩;cases Z:Bk.zZ R m with
  |false=>exact onT rfl (txt n (.oneN Z (by simp)))
  |true=>
  obtain⟨i,r,rfl,N,hi,M⟩:=Bk.z6 Z;obtain⟨rk,ok⟩:=a9.tree;refine onF rfl ⟨_,rfl,g,_,0,_,rfl,rfl,SqT.of a,rfl,rfl,_,rfl,onT (by decide) ?_⟩;refine⟨_,rfl,_,rfl,g,_,1,_,rfl,rfl,SqT.of a,rfl,B,Y,R.length,Bk.lk R,rk,Bk.dt R,i,rfl,c.rows,ok,hR,N,λH2 l2 b9 k2 a7 b6 b8 b5=>?_⟩;have b4:=Bk.aZO N ⟨rk,ok,b8,b5⟩;subst b4;exact q _ (.nums (Bk.thr R i)) _ (n.trans k2) (.thread hi M) ⟨l2,rfl,by simp,b6⟩ (.none (n.fresh a7))
 ·refine⟨_,rfl,g,_,0,_,rfl,rfl,SqT.of y,rfl,rfl,_,rfl,onF (by decide) ?_⟩;refine⟨_,rfl,g,_,0,_,rfl,rfl,SqT.of y,rfl,z2,λJ u=>⟨J,_,rfl,.inl (SqL.of yB),rfl,rfl,_,rfl,onF (by decide) ?_⟩⟩;have n:=yG u (.lst [.str "waiting",.str "overdue"]);generalize upd H J (.lst [.str "waiting",.str "overdue"])=H1 at n ⊢;have a:H1 g=some (.tup [.str "copies",.int m]):=n _ _ y;have c:=L.same n;refine⟨_,rfl,_,rfl,g,_,1,_,rfl,rfl,SqT.of a,rfl,B,Y,R,m,rfl,c,_,rfl,?_⟩;cases Z:Bk.zZ R m with
  |false=>exact onT rfl (txt n (.oneN Z (by simp)))
  |true=>
  obtain⟨i,r,rfl,N,hi,M⟩:=Bk.z6 Z;obtain⟨b,g1,g2,cp,O,g4⟩:=c.get hi;refine onF rfl ⟨_,rfl,g,_,0,_,rfl,rfl,SqT.of a,rfl,rfl,_,rfl,onF (by decide) ⟨_,rfl,g,_,0,_,rfl,rfl,SqT.of a,rfl,rfl,_,rfl,onT (by decide) ?_⟩⟩;refine⟨_,rfl,_,rfl,g,_,1,_,rfl,rfl,SqT.of a,rfl,B,_,_,_,rfl,rfl,SqL.of c.lst,yS g1,b,_,7,_,rfl,rfl,SqL.of O,rfl,cp,_,rfl,.inl (SqL.of g4),λp2 U=>?_⟩;have k2:=yG U (.lst (r.copies.map V.str));exact q _ (.txts r.copies) _ (n.trans k2) (.copies hi M) ⟨p2,rfl,by simp,yB⟩ (.none (n.fresh U))
 ·have b2:H g=some (.tup [.str "letters",.str j]):=y;refine⟨_,rfl,g,_,0,_,rfl,rfl,SqT.of y,rfl,rfl,_,rfl,onT (by decide) ?_⟩;have hl:(Y.map V.ref).length=R.length:=by rw[bKT];exact L.len
  refine⟨_,rfl,B,_,rfl,.inl (SqL.of L.lst),?_⟩;rw[hl];refine⟨_,rfl,by omega,by omega,λD hD=>?_⟩;rw[bYq];refine W4 (λk=>match R[k]? with|some r=> !r.void|none=>false) (λk=>V.int (k:Nat)) hD (by rw[bYm];omega) (λk I C R' X p=>?_) (λk I _ C R' X p=>⟨_,rfl,p⟩) ?_
  ·obtain⟨b,g1,g2,cp,O,g4⟩:=L.get (bKM I);have a2:C B=some (.lst (Y.map V.ref)):=by rw[X B (yJ L.lst hD)];exact L.lst
   have hb:C b=_:=(X b (yJ O hD)).trans O;rw[bKM I]at p;exact⟨_,rfl,_,rfl,B,_,_,_,rfl,rfl,SqL.of a2,yS g1,b,_,6,_,rfl,rfl,SqL.of hb,rfl,_,rfl,p⟩
  have k1:=yG hD (.lst (((bK0 R.length).filter λk=>match R[k]? with|some r=> !r.void|none=>false).map λk=>V.int (k:Nat)));have a1:upd H D (.lst (((bK0 R.length).filter λk=>match R[k]? with|some r=> !r.void|none=>false).map λk=>V.int (k:Nat))) D=some (.lst (((bK0 R.length).filter λk=>match R[k]? with|some r=> !r.void|none=>false).map λk=>V.int (k:Nat))):=yB;generalize upd H D (.lst (((bK0 R.length).filter λk=>match R[k]? with|some r=> !r.void|none=>false).map λk=>V.int (k:Nat)))=H1 at k1 a1 ⊢;have c:=L.same k1;have a:=k1 _ _ b2;dsimp only[yX];refine⟨_,rfl,D,rfl,⟨_,SqL.of a1⟩,λE hE=>?_⟩;refine aZj (X5 R j) id (SqL.of a1) hE ?_ (λv M C R' X p=>?_) (λv M _ C R' X p=>⟨_,rfl,p⟩) ?_
  ·rw[bKT,bYm];have:=bYK (λk=>match R[k]? with|some r=> !r.void|none=>false) (bK0 R.length);rw[bYD]at this;omega
  ·obtain⟨k,I,rfl⟩:=bYQ.mp M;have I:k<R.length:=bYj.mp (bYP.mp I).1;obtain⟨b,g1,g2,cp,O,g4⟩:=c.get (bKM I);have a2:C B=some (.lst (Y.map V.ref)):=by rw[X B (yJ c.lst hE)];exact c.lst
   have hb:C b=_:=(X b (yJ O hE)).trans O;have b1:C g=_:=(X g (yJ a hE)).trans a;have e1:X5 R j (V.int (k:Nat))=decide (R[k].place=j):=by show(match R[((k:Nat):Int).toNat]? with|some r=>decide (r.place=j)|none=>false)=_;rw[bYq,bKM I]
   rw[e1]at p;refine⟨_,rfl,_,rfl,B,_,_,_,rfl,rfl,SqL.of a2,yS g1,b,_,5,_,rfl,rfl,SqL.of hb,rfl,_,rfl,g,_,1,_,rfl,rfl,SqT.of b1,rfl,rfl,_,rfl,?_⟩;rw[wN];exact p
  ·have ef:(((((bK0 R.length).filter λk=>match R[k]? with|some r=> !r.void|none=>false).map λk=>V.int (k:Nat)).filter (X5 R j)).map id)=((bK0 R.length).filter λk=>match R[k]? with|some r=> !r.void && decide (r.place=j)|none=>false).map λk=>V.int (k:Nat):=by
    rw[List.map_id,List.filter_map,List.filter_filter];congr 1;refine cZU λk I=>?_;have I:k<R.length:=bYj.mp I;show(X5 R j (V.int (k:Nat)) && _)=_;show((match R[((k:Nat):Int).toNat]? with|some r=>decide (r.place=j)|none=>false) && _)=_;rw[bYq,bKM I];exact Bool.and_comm _ _
   rw[ef];exact q _ (.nums _) _ (k1.trans (yG hE _)) .letters ⟨E,rfl,by simp,yB⟩ (.none (k1.fresh hE))
 ·refine⟨_,rfl,g,_,0,_,rfl,rfl,SqT.of y,rfl,rfl,_,rfl,onF (by cases o<;> decide) ?_⟩;refine⟨_,rfl,g,_,0,_,rfl,rfl,SqT.of y,rfl,z2,λJ u=>⟨J,_,rfl,.inl (SqL.of yB),rfl,rfl,_,rfl,onT (by cases o<;> decide) ?_⟩⟩;have n:=yG u (.lst [.str "waiting",.str "overdue"]);generalize upd H J (.lst [.str "waiting",.str "overdue"])=H1 at n ⊢;have a:H1 g=some (.tup [.str (if o then "overdue" else "waiting"),.int d]):=n _ _ y;have c:=L.same n;have e1:decide (V.str (if o then "overdue" else "waiting")=V.str "overdue")=o:=by cases o<;> decide
  refine⟨_,rfl,_,rfl,_,rfl,g,_,1,_,rfl,rfl,SqT.of a,rfl,_,rfl,g,_,0,_,rfl,rfl,SqT.of a,rfl,rfl,?_⟩;rw[e1];refine⟨B,sa,Y,R,S,d,o,rfl,c,n _ _ b7,by omega,λr C l k nl hl b0=>?_⟩;exact q _ (.nums l) _ (n.trans k) (.on b0) ⟨r,rfl,by simp,hl⟩ (.none (n.fresh nl))
end
end Law
namespace Law
open PySem L2 PyProof.Rows
open Bk (Row Rows xV xM Ans)
open Desk (xE wX uG Wf wI stV)
abbrev bJV:Stmt:=xF "_law_done_by"
structure LBk(H:Hp)(ra sa:Nat)(rs:List Nat)(R:Rows)(S:List Int):Prop where
 book:y7 H ra rs R
 shut:H sa=some (.lst (S.map V.int))
 ne:sa≠ra
 no:sa∉rs
 noC:NoC rs H sa
def aXR(e sa:Nat)(c a:List Nat)(H d:Hp):Prop:=(∀x o,x≠sa->x≠e->x∉c->H x=some o->d x=some o)/\(∀b∈a,b∈c\/H b=none)/\∀s u,H s=some u->NoC c H s->NoC a d s
theorem LBk.same{H c:Hp}{a sa:Nat}{b:List Nat}{R:Rows}{S:List Int}(h:LBk H a sa b R S)(k:xA H c):LBk c a sa b R S:=
 ⟨h.book.same k,k _ _ h.shut,h.ne,h.no,(But.of h.book.dom k).2.2 sa _ h.shut h.noC⟩
theorem LBk.step{H c:Hp}{b sa:Nat}{d a:List Nat}{R f:Rows}{S:List Int}(h:LBk H b sa d R S)(k:aQN b d a H c)(g:y7 c b a f):LBk c b sa a f S/\aXR b sa d a H c:=
 ⟨⟨g,k.1 sa _ (λz=>(bKW.mp z).elim h.ne h.no) h.shut,h.ne,λz=>(k.2.1 sa z).elim h.no (λy=>by have:=h.shut;rw[y]at this;cases this),k.2.2 sa _ h.shut h.noC⟩,λx o _ j i e=>k.1 x o (λz=>(bKW.mp z).elim j i) e,k.2.1,k.2.2⟩
theorem LBk.put{H:Hp}{g sa:Nat}{f:List Nat}{R:Rows}{S:List Int}(h:LBk H g sa f R S)(d:Int):LBk (upd H sa (.lst ((S++ [d]).map V.int))) g sa f R (S++ [d])/\aXR g sa f f H (upd H sa (.lst ((S++ [d]).map V.int))):=by
 refine⟨⟨⟨by rw[yI (bYv h.ne)];exact h.book.lst,h.book.len,h.book.nd,λi b r a m=>?_⟩,yB,h.ne,h.no,λb a l c=>?_⟩,λx o n _ _ e=>by rw[yI n];exact e,λb a=> .inl a,λs u e n b a l c=>n b a l (by rw[yI (λz=>h.no (by rw[<- z];exact a))]at c;exact c)⟩
 ·obtain⟨j,k,p⟩:=h.book.row i b r a m;have t:b≠sa:=λz=>h.no (by rw[<- z];exact bK5 a);have q:j≠sa:=λz=>h.noC b (bK5 a) _ k (by rw[<- z];rfl);exact⟨j,by rw[yI t];exact k,by rw[yI q];exact p⟩
 ·rw[yI (λz=>h.no (by rw[<- z];exact a))]at c;exact h.noC b a l c
def aQ9:Sp:=λk H Q _=>∃ (c d g:Nat)(i:List Nat)(R:Rows)(S:List Int)(e:xM),k= [.ref c,.ref d,.ref g]/\H g=some (.tup (xE e))/\Wf e/\LBk H c d i R S/\R.length<=60/\S.length<=60/\Bk.qP R/\(∀r∈R,r.copies.length<=1000)/\
 ∀ (f:Hp)(a:Ans)(v:V)(h:Rows)(j:List Int)(b:List Nat),aXR c d i b H f->LBk f c d b h j->xV R S e a h j->wX [] f a v->uG H v->Q v f
theorem uG.pre{H a:Hp}(k:xA H a){v:V}(h:uG a v):uG H v:=λp e u b z=>h p e u b (k _ _ z)
theorem aXR.pre{d sa:Nat}{c a:List Nat}{H g f:Hp}(j:∀b∈c,∃o,H b=some o)(k:xA H g)(s:aXR d sa c a g f):aXR d sa c a H f:=
 ⟨λx o l i m e=>s.1 x o l i m (k _ _ e),λb h=>(s.2.1 b h).imp id λz=>k.fresh z,λx u e n=>s.2.2 x u (k _ _ e) ((But.of j k).2.2 x u e n)⟩
section
variable {K:bKP}
theorem bJ8:yM ["_law_rows","_law_shut","_law_deed"] ["_law_rows","_law_shut","_law_deed"] (yH bJV):=scM
theorem bJw(y:FnG P w K mg base 4 "_law_entered" ["_law_rows","_law_deed"] aQF)(J:FnG P w K mg base 4 "_law_hung" ["_law_rows","_law_number","_law_goal"] bZM) (u:FnG P w K mg base 4 "_law_told_of" ["_law_rows","_law_shut","_law_deed"] bQb) (r:FnG P w K mg base 4 "_law_with_one" ["_law_rows","_law_deed"] bQe) (F:Fun K "_law_done_by" "_law_done_by" bJV f fd):y8 P w K mg base CX0 5 f fd ["_law_rows","_law_shut","_law_deed"] aQ9:=by
 have sc:=bJ8;refine F.ok (k:=4) sc (λa7 A outer s H vs Q E hr h=>?_);obtain⟨N,sa,g,M,R,S,e,rfl,hd,a3,L,hR,hS,X,a1,q⟩:=h;refine⟨_,(yC (y6 (yN wS (yL yW (pv 2) yE) (y3 (yA yO (yA yO (yA yO yD))))) (yF (yP (xJ y hr rfl (yA (pv 0) (yA (pv 2) yD))))) yR) (yC (y6 (yN x5 (yL yW (pv 2) yE) yO) (yF (yP (xJ J hr rfl (yA (pv 0) (yA (yL yW (pv 2) yE) (yA (yL yW (pv 2) yE) yD)))))) yR) (yC (y6 (yN x5 (yL yW (pv 2) yE) yO) (yC (y6 (PW.pt (Z9 (yN aQV (yV y0 (yL yW (pv 2) yE) yE) yE) (jL (yN wS (yL yW (pv 2) yE) (pv 1))))) (yF (yP yO)) yR) (yC (yY (uF bYn bYt bYu xG (pv 1) (yA (yL yW (pv 2) yE) yD))) (yF (yP yO)))) yR) (yC (y6 (yN wS (yL yW (pv 2) yE) (y3 (yA yO (yA yO (yA yO (yA yO (yA yO (yA yO yD)))))))) (yF (yP (xJ u hr rfl (yA (pv 0) (yA (pv 1) (yA (pv 2) yD)))))) yR) (yF (yP (xJ r hr rfl (yA (pv 0) (yA (pv 2) yD))))))))),?_⟩;have h0:(xE e)[0]? =some (.str (Desk.aKA e)):=by cases e<;> rfl
 refine⟨_,rfl,g,_,0,_,rfl,rfl,SqT.of hd,yS (j:=0) h0,z3,λl0 a6=>⟨l0,_,rfl,.inl (SqL.of yB),rfl,rfl,_,rfl,?_⟩⟩;have n:=yG a6 (.lst [.str "in",.str "out",.str "reply"]);generalize upd H l0 (.lst [.str "in",.str "out",.str "reply"])=H1 at n ⊢;have c:=n _ _ hd;have p:=L.same n;have a0:((∃I d U t,e= .enter I d U t)\/∃m d t,e= .reply m d t)->aQF [.ref N,.ref g] H1 Q E0:=λhf=>by refine⟨N,g,M,R,e,rfl,c,a3,hf,p.book,hR,λW a v R' a5 Y D O av Z=>?_⟩;have:=p.step Y D;exact q W a v R' S a5 (this.2.pre L.book.dom n) this.1 (O S) av (uG.pre n Z)
 have one:∀ {T:Hp} {m:Int},xA H T->qS e m->bQe [.ref N,.ref g] T Q E0:=λ{T m} k hf=>by have C:=L.same k;refine⟨N,g,M,R,e,m,rfl,k _ _ hd,hf,C.book,hR,X,a1,λW a v R' Y D O av Z=>?_⟩;have:=C.step Y D;exact q W a v R' S M (this.2.pre L.book.dom k) this.1 (O S) av (uG.pre k Z)
 have G:∀ {T:Hp},xA H T->aW4 e->bQb [.ref N,.ref sa,.ref g] T Q E0:=λ{T} k hf=>by have C:=L.same k;refine⟨N,sa,g,M,R,S,e,rfl,k _ _ hd,hf,C.book,C.shut,hR,X,λW a v k2 O av Z=>?_⟩;exact q W a v R S M ⟨λx o _ _ _ e=>k2 _ _ (k _ _ e),λb hb=> .inl hb,(But.of L.book.dom (k.trans k2)).2.2⟩ (C.same k2) O av (uG.pre k Z)
 cases e with
 |enter I d U t=>have a2:I="in"\/I="out":=a3;refine onT (by rcases a2 with rfl|rfl<;> rfl) ⟨_,rfl,_,rfl,a0 (.inl ⟨_,_,_,_,rfl⟩)⟩
 |reply m d t=>exact onT rfl ⟨_,rfl,_,rfl,a0 (.inr ⟨_,_,_,rfl⟩)⟩
 |hang m o=>refine onF rfl ⟨_,rfl,g,_,0,_,rfl,rfl,SqT.of c,rfl,rfl,_,rfl,onT rfl ⟨_,rfl,_,rfl,g,_,1,_,rfl,rfl,SqT.of c,rfl,_,rfl,g,_,2,_,rfl,rfl,SqT.of c,rfl,?_⟩⟩;refine⟨N,M,R,m,o,rfl,p.book,hR,X.tree,λW a R' Y D O=>?_⟩;have:=p.step Y.step D;exact q W (.txt a) _ R' S M (this.2.pre L.book.dom n) this.1 (O S) rfl (λ_ z=>nomatch z)
 |shut d=>
  refine onF rfl ⟨_,rfl,g,_,0,_,rfl,rfl,SqT.of c,rfl,rfl,_,rfl,onF rfl ⟨_,rfl,g,_,0,_,rfl,rfl,SqT.of c,rfl,rfl,_,rfl,onT rfl ?_⟩⟩;refine⟨_,rfl,g,_,1,_,rfl,rfl,SqT.of c,rfl,_,_,rfl,rfl,(show(0:Int)<7 by decide),_,_,rfl,rfl,_,rfl,?_⟩;have no:Dm.cts S d=false->Q (.str "counts not") H1:=λh=>q H1 (.txt "counts not") _ R S M ⟨λx o _ _ _ e=>n _ _ e,λb hb=> .inl hb,(But.of L.book.dom n).2.2⟩ p (.shutN h) rfl (λ_ z=>nomatch z);cases h1:decide (d % 7 > 4)with
  |true=>exact onT rfl (onT rfl (no (by unfold Dm.cts Dm.opn;rw[decide_eq_false (by have:=of_decide_eq_true h1;omega)];rfl)))
  |false=>
  refine onF rfl ⟨_,rfl,g,_,1,_,rfl,rfl,SqT.of c,rfl,_,rfl,sa,_,rfl,.inl (SqL.of p.shut),rfl,cXS.mpr (λv hv=>by obtain⟨x,_,rfl⟩:=bYQ.mp hv;rfl),?_⟩;rw[if_neg (by decide),uW];refine⟨_,rfl,?_⟩;cases h2:S.contains d with
  |true=>exact onT rfl (no (by unfold Dm.cts;rw[h2];simp))
  |false=>
  refine onF rfl ⟨_,rfl,.inl ⟨rfl,_,SqL.of p.shut⟩,_,rfl,g,_,1,_,rfl,rfl,SqT.of c,rfl,sa,_,_,rfl,rfl,p.shut,zlt (by rw[bKT];omega),?_⟩;have e5:S.map V.int++ [V.int d]=(S++ [d]).map V.int:=by simp
  rw[e5];have:=p.put d;exact q _ (.txt "shut") _ R (S++ [d]) M (this.2.pre L.book.dom n) this.1 (.shut (by unfold Dm.cts Dm.opn;rw[h2,decide_eq_true (by have:=of_decide_eq_false h1;omega)];rfl)) rfl (λ_ z=>nomatch z)
 |loose m=>exact onF rfl ⟨_,rfl,g,_,0,_,rfl,rfl,SqT.of c,rfl,rfl,_,rfl,onF rfl ⟨_,rfl,g,_,0,_,rfl,rfl,SqT.of c,rfl,rfl,_,rfl,onF rfl ⟨_,rfl,g,_,0,_,rfl,rfl,SqT.of c,rfl,zn (by show 6<=100000;omega),λl i=>⟨l,_,rfl,.inl (SqL.of yB),rfl,rfl,_,rfl,onF rfl ⟨_,rfl,_,rfl,one (n.trans (yG i _)) (.inl rfl)⟩⟩⟩⟩⟩
 |date m d=>exact onF rfl ⟨_,rfl,g,_,0,_,rfl,rfl,SqT.of c,rfl,rfl,_,rfl,onF rfl ⟨_,rfl,g,_,0,_,rfl,rfl,SqT.of c,rfl,rfl,_,rfl,onF rfl ⟨_,rfl,g,_,0,_,rfl,rfl,SqT.of c,rfl,zn (by show 6<=100000;omega),λl i=>⟨l,_,rfl,.inl (SqL.of yB),rfl,rfl,_,rfl,onF rfl ⟨_,rfl,_,rfl,one (n.trans (yG i _)) (.inr (.inl ⟨_,rfl⟩))⟩⟩⟩⟩⟩
 |term m t=>exact onF rfl ⟨_,rfl,g,_,0,_,rfl,rfl,SqT.of c,rfl,rfl,_,rfl,onF rfl ⟨_,rfl,g,_,0,_,rfl,rfl,SqT.of c,rfl,rfl,_,rfl,onF rfl ⟨_,rfl,g,_,0,_,rfl,rfl,SqT.of c,rfl,zn (by show 6<=100000;omega),λl i=>⟨l,_,rfl,.inl (SqL.of yB),rfl,rfl,_,rfl,onF rfl ⟨_,rfl,_,rfl,one (n.trans (yG i _)) (.inr (.inr (.inl ⟨_,rfl⟩)))⟩⟩⟩⟩⟩
 |copy m U=>exact onF rfl ⟨_,rfl,g,_,0,_,rfl,rfl,SqT.of c,rfl,rfl,_,rfl,onF rfl ⟨_,rfl,g,_,0,_,rfl,rfl,SqT.of c,rfl,rfl,_,rfl,onF rfl ⟨_,rfl,g,_,0,_,rfl,rfl,SqT.of c,rfl,zn (by show 6<=100000;omega),λl i=>⟨l,_,rfl,.inl (SqL.of yB),rfl,rfl,_,rfl,onF rfl ⟨_,rfl,_,rfl,one (n.trans (yG i _)) (.inr (.inr (.inr (.inl ⟨_,rfl⟩))))⟩⟩⟩⟩⟩
 |file m a4=>exact onF rfl ⟨_,rfl,g,_,0,_,rfl,rfl,SqT.of c,rfl,rfl,_,rfl,onF rfl ⟨_,rfl,g,_,0,_,rfl,rfl,SqT.of c,rfl,rfl,_,rfl,onF rfl ⟨_,rfl,g,_,0,_,rfl,rfl,SqT.of c,rfl,zn (by show 6<=100000;omega),λl i=>⟨l,_,rfl,.inl (SqL.of yB),rfl,rfl,_,rfl,onF rfl ⟨_,rfl,_,rfl,one (n.trans (yG i _)) (.inr (.inr (.inr (.inr (.inl ⟨_,rfl⟩)))))⟩⟩⟩⟩⟩
 |void m=>exact onF rfl ⟨_,rfl,g,_,0,_,rfl,rfl,SqT.of c,rfl,rfl,_,rfl,onF rfl ⟨_,rfl,g,_,0,_,rfl,rfl,SqT.of c,rfl,rfl,_,rfl,onF rfl ⟨_,rfl,g,_,0,_,rfl,rfl,SqT.of c,rfl,zn (by show 6<=100000;omega),λl i=>⟨l,_,rfl,.inl (SqL.of yB),rfl,rfl,_,rfl,onF rfl ⟨_,rfl,_,rfl,one (n.trans (yG i _)) (.inr (.inr (.inr (.inr (.inr rfl)))))⟩⟩⟩⟩⟩
 |state m=>exact onF rfl ⟨_,rfl,g,_,0,_,rfl,rfl,SqT.of c,rfl,rfl,_,rfl,onF rfl ⟨_,rfl,g,_,0,_,rfl,rfl,SqT.of c,rfl,rfl,_,rfl,onF rfl ⟨_,rfl,g,_,0,_,rfl,rfl,SqT.of c,rfl,zn (by show 6<=100000;omega),λl i=>⟨l,_,rfl,.inl (SqL.of yB),rfl,rfl,_,rfl,onT rfl ⟨_,rfl,_,rfl,_,rfl,G (n.trans (yG i _)) (.inl ⟨_,rfl⟩)⟩⟩⟩⟩⟩
 |thread m=>exact onF rfl ⟨_,rfl,g,_,0,_,rfl,rfl,SqT.of c,rfl,rfl,_,rfl,onF rfl ⟨_,rfl,g,_,0,_,rfl,rfl,SqT.of c,rfl,rfl,_,rfl,onF rfl ⟨_,rfl,g,_,0,_,rfl,rfl,SqT.of c,rfl,zn (by show 6<=100000;omega),λl i=>⟨l,_,rfl,.inl (SqL.of yB),rfl,rfl,_,rfl,onT rfl ⟨_,rfl,_,rfl,_,rfl,G (n.trans (yG i _)) (.inr (.inl ⟨_,rfl⟩))⟩⟩⟩⟩⟩
 |copies m=>exact onF rfl ⟨_,rfl,g,_,0,_,rfl,rfl,SqT.of c,rfl,rfl,_,rfl,onF rfl ⟨_,rfl,g,_,0,_,rfl,rfl,SqT.of c,rfl,rfl,_,rfl,onF rfl ⟨_,rfl,g,_,0,_,rfl,rfl,SqT.of c,rfl,zn (by show 6<=100000;omega),λl i=>⟨l,_,rfl,.inl (SqL.of yB),rfl,rfl,_,rfl,onT rfl ⟨_,rfl,_,rfl,_,rfl,G (n.trans (yG i _)) (.inr (.inr (.inl ⟨_,rfl⟩)))⟩⟩⟩⟩⟩
 |letters a4=>exact onF rfl ⟨_,rfl,g,_,0,_,rfl,rfl,SqT.of c,rfl,rfl,_,rfl,onF rfl ⟨_,rfl,g,_,0,_,rfl,rfl,SqT.of c,rfl,rfl,_,rfl,onF rfl ⟨_,rfl,g,_,0,_,rfl,rfl,SqT.of c,rfl,zn (by show 6<=100000;omega),λl i=>⟨l,_,rfl,.inl (SqL.of yB),rfl,rfl,_,rfl,onT rfl ⟨_,rfl,_,rfl,_,rfl,G (n.trans (yG i _)) (.inr (.inr (.inr (.inl ⟨_,rfl⟩))))⟩⟩⟩⟩⟩
 |on B d=>exact onF (by cases B<;> rfl) ⟨_,rfl,g,_,0,_,rfl,rfl,SqT.of c,rfl,rfl,_,rfl,onF (by cases B<;> rfl) ⟨_,rfl,g,_,0,_,rfl,rfl,SqT.of c,rfl,rfl,_,rfl,onF (by cases B<;> rfl) ⟨_,rfl,g,_,0,_,rfl,rfl,SqT.of c,rfl,zn (by show 6<=100000;omega),λl i=>⟨l,_,rfl,.inl (SqL.of yB),rfl,rfl,_,rfl,onT (by cases B<;> rfl) ⟨_,rfl,_,rfl,_,rfl,G (n.trans (yG i _)) (.inr (.inr (.inr (.inr ⟨_,_,rfl⟩))))⟩⟩⟩⟩⟩
end
end Law
namespace Desk
open PySem L2 PyProof.Rows
open Bk (Row Rows xM Ans xV)
open Thr (z9 vL qG)
def wF(H:Hp)(ds:Nat)(a:List Nat)(b:List xM):Prop:=H ds=some (.lst (a.map V.ref))/\a.length=b.length/\∀ (i:Nat)(d:Nat)(e:xM),a[i]? =some d->b[i]? =some e->H d=some (.tup (xE e))
theorem wF.same{H c:Hp}{ds:Nat}{a:List Nat}{b:List xM}(h:wF H ds a b)(k:x2 H c):wF c ds a b:=⟨k.lst h.1,h.2.1,λi d e f g=>k.tup (h.2.2 i d e f g)⟩
theorem wX.kept{o b:List Nat}{H d:Hp}{a:Ans}{v:V}(h:wX o H a v)(k:qR o H d)(g:qA H o b):wX b d a v:=by
 have c:∀p u,p∉o->H p=some u->p∉b:=λp u n e z=>by
  rcases g p z with q|q
  ·exact n q
  ·rw[q]at e;cases e
 cases a with
 |num n=>exact h
 |txt x=>exact h
 |nums l=>obtain⟨p,e,n,q⟩:=h;exact⟨p,e,c p _ n q,k _ _ n (by intro _ z;cases z) q⟩
 |txts l=>obtain⟨p,e,n,q⟩:=h;exact⟨p,e,c p _ n q,k _ _ n (by intro _ z;cases z) q⟩
 |row r=>obtain⟨p,e,n,q⟩:=h;exact⟨p,e,c p _ n q,k _ _ n (by intro _ z;cases z) q⟩
theorem wX.bare{o:List Nat}{H:Hp}{a:Ans}{v:V}(h:wX o H a v):wX [] H a v:=by
 cases a with
 |num n=>exact h
 |txt x=>exact h
 |nums l=>obtain⟨p,e,n,q⟩:=h;exact⟨p,e,by simp,q⟩
 |txts l=>obtain⟨p,e,n,q⟩:=h;exact⟨p,e,by simp,q⟩
 |row r=>obtain⟨p,e,n,q⟩:=h;exact⟨p,e,by simp,q⟩
theorem wX.more{o:List Nat}{D:Nat}{H:Hp}{a:Ans}{v:V}(h:wX o H a v)(n:∀p,v= .ref p->p≠D):wX (D::o) H a v:=by
 have b:∀p,v= .ref p->p∉o->p∉D::o:=λp e q z=>(bKW.mp z).elim (n p e) q;cases a with
 |num n=>exact h
 |txt x=>exact h
 |nums l=>obtain⟨p,e,q⟩:=h;exact⟨p,e,b p e q.1,q.2⟩
 |txts l=>obtain⟨p,e,q⟩:=h;exact⟨p,e,b p e q.1,q.2⟩
 |row r=>obtain⟨p,e,q⟩:=h;exact⟨p,e,b p e q.1,q.2⟩
def xZ(H:Hp)(r:Row)(v:V):Prop:=if r.void then v= .str "void" else ∃p,v= .ref p/\H p=some (.tup (stV r))
theorem xZ.same{H a:Hp}{r:Row}{v:V}(h:xZ H r v)(k:x2 H a):xZ a r v:=by
 unfold xZ at h ⊢;split
 ·rename_i e;rw[if_pos e]at h;exact h
 ·rename_i e;rw[if_neg e]at h;obtain⟨p,e,q⟩:=h;exact⟨p,e,k.tup q⟩
structure Z5(H0:Hp)(CB CL T:Nat)(ba:Nat)(es:List xM)(as:List Ans)(H:Hp)(o:List Nat):Prop where
 ex:∃ (la sa:Nat)(ls cs:List Nat)(R:Rows)(S:List Int),o=own la sa ls cs/\PB CB CL H ba la sa ls cs R S/\Up es.length R S/\Bk.qP R/\Run [] [] es as R S
 tab:z9 T H
 keep:x2 H0 H
 new:∀b∈o,∀u,(∀ps,u≠HO.tbl ps)->H0 b≠some u
def aQE(Rf:Nat×Nat):Sp:=λc H Q _=>∃ (g:Nat)(f:List Nat)(d:List xM),c= [.ref g]/\wF H g f d/\d.length<60/\(∀e∈d,Wf e)/\z9 Rf.2 H/\
 ∀ (l:Nat)(b:Hp)(c:List V)(h:List Ans)(i:Rows)(j:List Int),x2 H b->z9 Rf.2 b->Run [] [] d h i j->Bk.qP i->b l=some (.lst c)->bYH (λv a=>wX [] b a v) c h->Q (.ref l) b
def aVF(e CL:Nat):Sp:=λa H Q _=>∃ (c h d:Nat)(f g:List Nat)(R:Rows)(S:List Int),a= [.ref c]/\PB e CL H c h d f g R S/\R.length<64/\
 ∀ (l:Nat)(b:Hp)(a:List V),xA H b->b l=some (.lst a)->bYH (λv r=>xZ b r v) a R->Q (.ref l) b
def X2(Rf:Nat×Nat):Sp:=λb H Q _=>∃ (g:Nat)(f:List Nat)(c:List xM),b= [.ref g]/\wF H g f c/\c.length<60/\(∀e∈c,Wf e)/\z9 Rf.2 H/\
 ∀ (l:Nat)(a:Hp)(b:List V)(h:List Ans)(d:Rows)(i:List Int),x2 H a->z9 Rf.2 a->Run [] [] c h d i->Bk.qP d->a l=some (.lst b)->bYH (λv r=>xZ a r v) b d->Q (.ref l) a
theorem v7{T:Nat}{H a:Hp}(t:z9 T H)(k:xA H a):z9 T a:=(aW3.of k).2 t
theorem Z5.start{H:Hp}{n CL T x dx la sa:Nat}{g a:Hp}(tb:z9 T H)(s:H x=none)(f:H dx=none)(A:dx≠x)(q:g=upd (upd H dx (.own x)) x (.ins n dx []))(l:g la=none)(d:g sa=none)(p:la≠sa) (w:a x=some (.ins n dx [("letters",.ref la),("shut",.ref sa)])) (E:a la=some (.lst [])) (B:a sa=some (.lst [])) (C:∀b,b≠x->b≠la->b≠sa->a b=g b):Z5 H n CL T x [] [] a (own la sa [] [])/\xA H a:=by
 have m:∀b,g b=none->H b=none:=λb e=>by
  subst q;by_cases z:b=x
  ·rw[z];exact s
  ·rw[yI z]at e;by_cases z2:b=dx
   ·rw[z2];exact f
   ·rw[yI z2]at e;exact e
 have k:xA H a:=λb o e=>by have b1:=yJ e s;have D:=yJ e f;rw[C b b1 (yJ e (m _ l)) (yJ e (m _ d)),q,yI b1,yI D];exact e
 refine⟨⟨⟨la,sa,[],[],[],[],rfl,⟨⟨dx,w⟩,E,B,rfl,rfl,.nil,.nil,p,by simp,by simp,λi b c r e=>by simp at e⟩,⟨bKU _,bKU _,λr h=>by simp at h⟩,Bk.aXc,.nil⟩,v7 tb k,k.t,λb j u _ z=>?_⟩,k⟩;have v:H b=none->False:=λy=>by rw[y]at z;cases z
 rcases bKW.mp j with e|j
 ·exact v (by rw[e];exact m _ l)
 rcases bKW.mp j with e|j
 ·exact v (by rw[e];exact m _ d)
 ·simp at j
theorem Z5.step{D:Hp}{m CL T l:Nat}{p:List xM}{E:List Ans}{H:Hp}{o:List Nat}{e:xM}(g:Z5 D m CL T l p E H o)(hw:Wf e)(hz:p.length<60){s:Nat}(N:H s=some (.tup (xE e))){Q:VK}{Rf:Nat×Nat}(J:Rf.2=T) (q:∀ (a:Ans)(v:V)(f:Hp)(n:List Nat),Z5 D m CL T l (p++ [e]) (E++ [a]) f n->wX n f a v->uG H v->qR o H f->qA H o n->Q v f):J2 Rf m CL [.ref l,.ref s] H Q E0:=by
 subst J;obtain⟨F,B,I,L,R,S,rfl,M,A,i,j⟩:=g.ex;refine⟨l,s,F,B,I,L,R,S,e,rfl,hw,N,M,A.sz (by omega),i,g.tab,λa O W v f y x c r k C X P K=>?_⟩;refine q a v f _ ⟨⟨F,B,y,x,O,W,rfl,r,?_,Bk.xV.book i ?_ c,.snoc j c⟩,X,λb u h e=>k b u (λz=>g.new b z u h e) h (g.keep b u h e),λb Y u h z0=>?_⟩ P K k C
 ·rw[bYh,bYX];exact A.done c
 ·intro U d w t G;subst G;exact hw
 ·rcases C b Y with z|z
  ·exact g.new b z u h z0
  ·rw[g.keep b u h z0]at z;cases z
theorem Z5.write{j:Hp}{m CL T w:Nat}{s:List xM}{x:List Ans}{H:Hp}{o:List Nat}(g:Z5 j m CL T w s x H o){D:Nat}{xs ys:List V}(N:H D=some (.lst xs))(nD:D∉o)(h0:j D=none):Z5 j m CL T w s x (upd H D (.lst ys)) o:=by
 have f:∀ {a u},H a=some u->(∀xs,u≠ .lst xs)->a≠D:=λq n z=>by rw[z,N]at q;cases q;exact n _ rfl
 obtain⟨M,F,C,G,R,S,rfl,d,E,k,h⟩:=g.ex;refine⟨⟨M,F,C,G,R,S,rfl,⟨?_,?_,?_,d.len,d.clen,d.nd,d.cnd,d.las,d.lac,d.sac,λi b c r B y K=>?_⟩,E,k,h⟩,?_,λb u L e=>?_,g.new⟩
 ·obtain⟨l,e⟩:=d.book;exact⟨l,by rw[yI (f e (by intro _ z;cases z))];exact e⟩
 ·rw[yI (λz=>nD (by rw[<- z];exact aVh))];exact d.lst
 ·rw[yI (λz=>nD (by rw[<- z];exact aYa))];exact d.sht
 ·obtain⟨⟨l,v⟩,J⟩:=d.row i b c r B y K;exact⟨⟨l,by rw[yI (f v (by intro _ z;cases z))];exact v⟩,by rw[yI (λz=>nD (by rw[<- z];exact bJM (bK5 y)))];exact J⟩
 ·rcases g.tab with t|⟨I,A,p⟩
  ·exact .inl (by rw[yI (f t (by intro _ z;cases z))];exact t)
  ·exact .inr ⟨I,by rw[yI (f A (by intro _ z;cases z))];exact A,by rw[yI (f p (by intro _ z;cases z))];exact p⟩
 ·rw[yI (yJ e h0)];exact g.keep b u L e
section
variable {K:bKP}
abbrev W6:Stmt:=xF "answers"
abbrev aQs:Stmt:=xF "standing"
abbrev aXC:Stmt:=xB "Book" "standing_states"
theorem aWE:yM ["deeds","book"] ["deeds"] (yH W6):=scM
theorem aV7:xH ["deeds","book"] (yH W6) "deed" ["book"] [1] {kind:= .function,names:= [(".0",.local),("deed",.local),("answer",.globalImplicit),("book",.free)],isGenerator:=false,isCoroutine:=false,more:= [] }:=
 lcM
theorem uM{α β:Type}{F G:α->β->Prop}(h:∀a b,F a b->G a b):∀ {l:List α} {m:List β},bYH F l m->bYH G l m
 |_,_,.nil=> .nil
 |_,_,.cons r t=> .cons (h _ _ r) (uM h t)
theorem aWk(G:MkG P w K mg base n "Book" CB ["self"] (aJT CB))(j:FnG P w K mg base (n+1) "answer" ["book","deed"] (J2 Rf CB CL))(F:Fun K "answers" "answers" W6 f fd): y8 P w K mg base CX0 (n+2) f fd ["deeds"] (aQE Rf):=by
 have sc:=aWE;refine F.ok (k:=n+1) sc (λb5 A outer s H vs Q E hr h=>?_);obtain⟨ds,c,l,rfl,hD,b3,b2,tb,q⟩:=h;refine⟨_,(yC (yT (i:=1) (bZE G hr rfl)) (yF (yP (aQm aV7 rfl (xI (pv 0)) (λ_ _ _ _ _=>z7) (λ_ _ _ _ _=>(xJ j hr rfl (yA (pv 1) (yA (pv 0) yD)))))))),?_⟩;intro x dx hx a5 b0;refine⟨x,dx,rfl,yB,λla sa H1 a7 b1 a3 h1 h2 h3 h4=>⟨rfl,?_⟩⟩;dsimp only[yX];obtain⟨g0,k0⟩:=Z5.start (CL:=CL) tb hx a5 b0 rfl a7 b1 a3 h1 h2 h3 h4;have a2:=hD.same k0.t;refine⟨_,rfl,ds,rfl,⟨_,SqL.of a2.1⟩,λD d=>?_⟩;have a8:(c.map V.ref).length=l.length:=by rw[bKT];exact hD.2.1
 have a9:H D=none:=k0.fresh d;refine⟨λi m I H'=>m=l.length - i/\i<=l.length/\H' D=some (.lst I)/\∃ (as:List Ans)(o:List Nat),Z5 H CB CL Rf.2 x (l.take i) as H' o/\D∉o/\bYH (λv a=>wX (D::o) H' a v) I as,⟨l.length,by simp,bYJ _,yB,[],own la sa [] [],?_,?_,.nil⟩,?_⟩
 ·have kD:=yG d (.lst []);obtain⟨O,J,L,M,R,S,e1,e2,e3,e4,U⟩:=g0.ex;exact⟨⟨O,J,L,M,R,S,e1,e2.same kD,e3,e4,U⟩,v7 g0.tab kD,λb u nt e=>kD _ _ (g0.keep b u nt e),g0.new⟩
 ·intro z;rcases bKW.mp z with e|z
  ·rw[e,h2]at d;cases d
  rcases bKW.mp z with e|z
  ·rw[e,h3]at d;cases d
  ·simp at z
 ·rintro i m I H' ⟨rfl,hi,r,as,o,g,nD,hP⟩;have B:=hD.same g.keep;refine⟨r,?_⟩;by_cases C:i<l.length
  ·have a6:i<c.length:=by rw[hD.2.1];exact C
   have N:=bKM a6;have Y:=bKM C;refine .inr ⟨⟨c.map V.ref,.ref c[i],SqL.of B.1,by rw[bK7,N];rfl⟩,λv H2 yl=>?_⟩;obtain⟨rfl,y⟩:=yl;have hv:(c.map V.ref)[i]? =some v:=y _ (SqL.of B.1);rw[bK7,N]at hv;cases hv;refine⟨_,rfl,_,rfl,?_⟩;refine g.step (b2 _ (cQO C)) (by rw[bY4];omega) (B.2.2 i _ _ N Y) rfl λa v W T g3 av nv k3 gr=>?_;have a0:l.take (i+1)=l.take i++ [l[i]]:=by rw[bY0,Y];rfl
   have b4:I.length<=i:=by obtain⟨O,J,L,M,R,S,e1,e2,e3,e4,U⟩:=g.ex;have:=U.len;rw[hP.length,<- this,bY4];omega
   have Z:W D=some (.lst I):=k3 _ _ nD (by intro _ z;cases z) r;have X:D∉T:=λz=>by
    rcases gr D z with y|y
    ·exact nD y
    ·rw[r]at y;cases y
   refine⟨by rw[bYm];omega,Z,l.length - (i+1),by omega,rfl,C,yB,as++ [a],T,?_,X,?_⟩
   ·rw[a0];exact g3.write Z X a9
   ·have k4:qR (D::T) W (upd W D (.lst (I++ [v]))):=qR.upd bK2 _;have k5:qR (D::o) H2 W:=λb u nb nt e=>k3 b u (λz=>nb (bKY _ z)) nt e;have a4:qA H2 (D::o) (D::T):=λb hb=>by
     rcases bKW.mp hb with e|hb
     ·exact .inl (by rw[e];exact bK2)
     ·exact(gr b hb).imp (bKY _) id
    have a1:wX (D::T) W a v:=av.more λp e z=>by rw[z]at e;exact nv D e _ (by intro _ z;cases z) r
    exact Law.aQ5 (F:=λv' a'=>wX (D::T) (upd W D (.lst (I++ [v]))) a' v') (a1.kept k4 qA.refl) (uM (λv a (h:wX (D::o) H2 a v)=>(h.kept k5 a4).kept k4 qA.refl) hP)
  ·obtain rfl:i=l.length:=by omega
   obtain⟨O,J,L,M,R,S,e1,e2,e3,e4,U⟩:=g.ex;rw[bYR]at U;exact .inl ⟨⟨c.map V.ref,SqL.of B.1,by rw[a8];exact bKU _⟩,q D H' I as R S g.keep g.tab U e4 r (uM (λv a h=>h.bare) hP)⟩
theorem aYR:yM ["self"] ["self"] (yH aXC):=scM
theorem aKG:xH ["self"] (yH aXC) "letter" [] [] {kind:= .function,names:= [(".0",.local),("letter",.local)],isGenerator:=false,isCoroutine:=false,more:= [] }:=
 lcM
theorem aK6(cl:Cl K CB CL)(d:MG P w K mg base CX0 n CL "state" ["self"] (aJV CL))(F:Fun K "standing_states" "Book.standing_states" aXC f fd):y8 P w K mg base CX0 (n+1) f fd ["self"] (aVF CB CL):=by
 have sc:=aYR;refine F.ok (k:=n) sc (λa1 A outer s H vs Q E hr h=>?_);obtain⟨ba,la,sa,L,cs,R,S,rfl,N,hR,q⟩:=h;refine⟨_,(yF (yP (aQm aKG rfl (xI (yZ (pv 0) rfl)) (λ_ _ _ _ _=>z7) (λ_ _ _ _ _=>(aVk (x3 (aQk (K:=K) (pv 0) rfl)) yO (bXs d hr vM (pv 0))))))),?_⟩;obtain⟨dx,hb⟩:=N.book;have hl:(L.map V.ref).length=R.length:=by rw[bKT];exact N.len
 refine⟨_,rfl,ba,CB,dx,_,_,rfl,hb,cl.b,cl.letters,rfl,la,rfl,⟨_,SqL.of N.lst⟩,λD hD=>?_⟩;refine⟨λi m a I=>m=R.length - i/\i<=R.length/\xA H I/\I D=some (.lst a)/\bYH (λv r=>xZ I r v) a (R.take i),⟨R.length,by simp,bYJ _,yG hD _,yB,.nil⟩,?_⟩;rintro i m a I ⟨rfl,hi,W,x,M⟩;have o:=N.same W;refine⟨x,?_⟩;by_cases C:i<R.length
 ·have G:=bKM C;obtain⟨b,c,Y,g2,g3,⟨u,U⟩,g5⟩:=o.get G;refine .inr ⟨⟨L.map V.ref,.ref b,SqL.of o.lst,Y⟩,λv Z yl=>?_⟩;obtain⟨rfl,y⟩:=yl;have J:(L.map V.ref)[i]? =some v:=y _ (SqL.of o.lst);rw[Y]at J;cases J;have T:R.take (i+1)=R.take i++ [R[i]]:=by rw[bY0,G];rfl
  have a0:a.length<=i:=by rw[M.length,bY4];omega
  refine⟨_,rfl,b,CL,u,_,_,rfl,U,cl.l,cl.void,rfl,_,rfl,?_⟩;have fin:∀ (v:V)(j:Hp),xA Z j->xZ j R[i] v->a.length<bYd/\j D=some (.lst a)/\∃X,X<R.length - i/\(X=R.length - (i+1)/\i+1<=R.length/\xA H (upd j D (.lst (a++ [v])))/\upd j D (.lst (a++ [v])) D=some (.lst (a++ [v]))/\bYH (λg r=>xZ (upd j D (.lst (a++ [v]))) r g) (a++ [v]) (R.take (i+1))):=λv j O sv=>by
   have B:=O _ _ x;have tu:∀ (g:V)(r:Row),xZ j r g->xZ (upd j D (.lst (a++ [v]))) r g:=λg r h=>by
    unfold xZ at h ⊢;split
    ·rename_i e;rw[if_pos e]at h;exact h
    ·rename_i e;rw[if_neg e]at h;obtain⟨p,e,q⟩:=h;exact⟨p,e,by rw[yI (aQR q B (by intro z;cases z))];exact q⟩
   refine⟨by rw[bYm];omega,B,R.length - (i+1),by omega,rfl,C,Law.aQK (W.trans O) hD,yB,?_⟩;rw[T];exact Law.aQ5 (F:=λg r=>xZ (upd j D (.lst (a++ [v]))) r g) (tu _ _ sv) (uM (λg r (h:xZ Z r g)=>tu g r (h.same O.t)) M)
  cases J:R[i].void with
  |true=>exact onT rfl (fin _ _ (xA.refl _) (by unfold xZ;rw[J];rfl))
  |false=>refine onF rfl ⟨_,rfl,b,u,_,rfl,U,rfl,b,i,_,c,rfl,⟨u,U⟩,λt ht=>?_⟩;exact fin _ _ (yG ht _) (by unfold xZ;rw[J];exact⟨t,rfl,yB⟩)
 ·obtain rfl:i=R.length:=by omega
  rw[bYR]at M;exact .inl ⟨⟨L.map V.ref,SqL.of o.lst,by rw[hl];exact bKU _⟩,q D I a W x M⟩
theorem aJP:yM ["deeds","book","deed"] ["deeds"] (yH aQs):=scM
theorem aJq(d:MkG P w K mg base n "Book" CB ["self"] (aJT CB))(c:FnG P w K mg base (n+1) "answer" ["book","deed"] (J2 Rf CB CL))(b:MG P w K mg base CX0 (n+1) CB "standing_states" ["self"] (aVF CB CL)) (F:Fun K "standing" "standing" aQs f fd):y8 P w K mg base CX0 (n+2) f fd ["deeds"] (X2 Rf):=by
 have sc:=aJP;refine F.ok (k:=n+1) sc (λa5 A outer s H vs Q E G h=>?_);obtain⟨ds,e,m,rfl,B,a4,a3,tb,q⟩:=h;refine⟨_,(yC (yT (i:=1) (bZE d G rfl)) (yC (wE bYI rfl (xI (pv 0)) (y9 (i:=2)) (yF (yY (xJ c G rfl (yA (pv 1) (yA (pv 2) yD)))))) (yF (yP (bXs b G vM (pv 1)))))),?_⟩;intro x dx hx W a1;refine⟨x,dx,rfl,yB,λla sa H1 Z a2 O h1 h2 h3 h4=>⟨rfl,?_⟩⟩;dsimp only[yX];obtain⟨g0,k0⟩:=Z5.start (CL:=CL) tb hx W a1 rfl Z a2 O h1 h2 h3 h4;have N:=B.same k0.t;have y:(e.map V.ref).length=m.length:=by rw[bKT];exact B.2.1
 refine⟨_,rfl,ds,rfl,⟨_,SqL.of N.1⟩,?_⟩;refine zI (xs:=e.map V.ref) (λi σ D=>∃ (C:Option V)(z:List Ans)(o:List Nat),σ= [some (.ref ds),some (.ref x),C]/\Z5 H CB CL Rf.2 x (m.take i) z D o) ?_ ?_ ?_ ?_
 ·exact⟨none,[],_,rfl,g0⟩
 ·rintro i σ D hi ⟨C,z,o,rfl,g⟩;exact SqL.of (B.same g.keep).1
 ·rintro i v σ D M ⟨C,z,o,rfl,g⟩;have j:i<m.length:=by rw[<- y];exact(bKZ.mp M).1
  have p:=bKM (show i<e.length by rw[B.2.1];exact j);have u:=bKM j;rw[bK7,p]at M;cases M;have a0:=B.same g.keep;have L:m.take (i+1)=m.take i++ [m[i]]:=by rw[bY0,u];rfl
  dsimp only[yX];refine⟨_,rfl,_,rfl,?_⟩;refine g.step (a3 _ (cQO j)) (by rw[bY4];omega) (a0.2.2 i _ _ p u) rfl λa v H3 o' g3 av nv k3 gr=>?_;rw[<- L]at g3;exact⟨_,_,o',rfl,g3⟩
 ·rintro σ D ⟨C,z,o,rfl,g⟩;rw[y,bYR]at g;obtain⟨Y,I,J,U,R,S,e1,e2,e3,e4,e5⟩:=g.ex;obtain⟨T,hb⟩:=e2.book;refine⟨_,rfl,x,T,_,rfl,hb,rfl,x,Y,I,J,U,R,S,rfl,e2,by have:=e3.r;omega,λl H5 vs k5 X hP=>?_⟩;exact q l H5 vs z R S (g.keep.trans k5.t) (v7 g.tab k5) e5 e4 X hP
end
end Desk
namespace Law
open PySem L2 PyProof.Rows
open Bk (Row Rows xV xM Ans)
open Desk (xE wX uG Wf Up Run wF uM)
structure LGo(H0:Hp)(ra sa:Nat)(es:List xM)(as:List Ans)(H:Hp)(rs:List Nat):Prop where
 ex:∃ (R:Rows)(S:List Int),LBk H ra sa rs R S/\Up es.length R S/\Bk.qP R/\Run [] [] es as R S
 keep:xA H0 H
 newR:H0 ra=none
 newS:H0 sa=none
 newB:∀b∈rs,H0 b=none
theorem LGo.same{e H i:Hp}{c sa:Nat}{f:List xM}{d:List Ans}{h:List Nat}(g:LGo e c sa f d H h)(k:xA H i):LGo e c sa f d i h:=
 ⟨let ⟨R,S,a,b⟩:=g.ex;⟨R,S,a.same k,b⟩,g.keep.trans k,g.newR,g.newS,g.newB⟩
theorem LGo.start{H:Hp}{a sa:Nat}(e:H a=none)(c:upd H a (.lst []) sa=none):LGo H a sa [] [] (upd (upd H a (.lst [])) sa (.lst [])) []:=by
 have f:=yG e (.lst []);have g:=yG c (.lst []);have ne:sa≠a:=λz=>by rw[z,yB]at c;cases c
 exact⟨⟨[],[],⟨⟨g _ _ yB,rfl,.nil,λi b r h=>by simp at h⟩,yB,ne,by simp,λb d=>by simp at d⟩,⟨bKU _,bKU _,λr h=>by simp at h⟩,Bk.aXc,.nil⟩,f.trans g,e,f.fresh c,λb d=>by simp at d⟩
theorem bVO{H j:Hp}{g sa:Nat}{b:List Nat}{s:Rows}{w:List Int}{a:Ans}{v:V}(t:LBk j g sa b s w)(k:∃c,H g=some (.lst c))(m:∃c,H sa=some (.lst c))(f:wX [] j a v)(q:uG H v):wX (sa::g::b) j a v:=by
 have no:∀p,v= .ref p->(∀r d,j p≠some (.lst (uO r d)))->p∉sa::g::b:=λp e n z=>by
  rcases bKW.mp z with z|z
  ·obtain⟨c,h⟩:=m;exact q p e (.lst c) (by intro _ y;cases y) (by rw[z];exact h)
  rcases bKW.mp z with z|z
  ·obtain⟨c,h⟩:=k;exact q p e (.lst c) (by intro _ y;cases y) (by rw[z];exact h)
  ·obtain⟨i,o,u⟩:=bYC z;obtain⟨d,A,_⟩:=t.book.row i p _ (by rw[bKM o,u]) (bKM (show i<s.length by rw[<- t.book.len];exact o));exact n _ d A
 cases a with
 |num n=>exact f
 |txt x=>exact f
 |nums l=>obtain⟨p,e,_,h⟩:=f;exact⟨p,e,no p e λr d z=>by rw[h]at z;exact aQn (bK8 z).symm,h⟩
 |txts l=>obtain⟨p,e,_,h⟩:=f;exact⟨p,e,no p e λr d z=>by rw[h]at z;exact jS (bK8 z).symm,h⟩
 |row r=>obtain⟨p,e,_,h⟩:=f;exact⟨p,e,no p e λr d z=>(by rw[h]at z;cases z),h⟩
theorem LGo.step{E H:Hp}{i sa:Nat}{u:List xM}{F:List Ans}{C:List Nat}{e:xM}(g:LGo E i sa u F H C)(hw:Wf e)(hz:u.length<60){y:Nat}(K:H y=some (.tup (xE e))){Q:VK} (q:∀ (a:Ans)(v:V)(j:Hp)(f:List Nat),LGo E i sa (u++ [e]) (F++ [a]) j f->aXR i sa C f H j->wX (sa::i::f) j a v->uG H v->Q v j):aQ9 [.ref i,.ref sa,.ref y] H Q E0:=by
 obtain⟨R,S,B,n,l,m⟩:=g.ex;refine⟨i,sa,y,C,R,S,e,rfl,K,hw,B,by have:=n.r;omega,by have:=n.s;omega,l,λr I=>by have:=n.c r I;omega,λj a v J N f p k A L D=>?_⟩;refine q a v j f ⟨⟨J,N,k,?_,Bk.xV.book l ?_ A,.snoc m A⟩,λx o h=>?_,g.newR,g.newS,λb O=>?_⟩ p (bVO k ⟨_,B.book.lst⟩ ⟨_,B.shut⟩ L D) D
 ·rw[bYh,bYX];exact n.done A
 ·intro M d w t G;subst G;exact hw
 ·exact p.1 x o (yJ h g.newS) (yJ h g.newR) (λz=>by rw[g.newB x z]at h;cases h) (g.keep _ _ h)
 ·rcases p.2.1 b O with z|z
  ·exact g.newB b z
  ·exact g.keep.fresh z
structure aVO(H0:Hp)(ra sa:Nat)(H:Hp)(rs:List Nat)(D:Nat)(xs:List V):Prop where
 at_:H D=some (.lst xs)
 new:H0 D=none
 nr:D≠ra
 ns:D≠sa
 nb:D∉rs
 nc:NoC rs H D
theorem aVO.step{c H e:Hp}{b sa D:Nat}{d a:List Nat}{xs:List V}(h:aVO c b sa H d D xs)(st:aXR b sa d a H e):aVO c b sa e a D xs:=
 ⟨st.1 D _ h.ns h.nr h.nb h.at_,h.new,h.nr,h.ns,λz=>(st.2.1 D z).elim h.nb (λy=>by have:=h.at_;rw[y]at this;cases this),st.2.2 D _ h.at_ h.nc⟩
theorem aVO.same{d H e:Hp}{c sa D:Nat}{a:List Nat}{xs:List V}(h:aVO d c sa H a D xs)(f:∀b∈a,∃o,H b=some o)(k:xA H e):aVO d c sa e a D xs:=
 ⟨k _ _ h.at_,h.new,h.nr,h.ns,h.nb,(But.of f k).2.2 D _ h.at_ h.nc⟩
theorem LGo.dom{f H:Hp}{c sa:Nat}{e:List xM}{d:List Ans}{a:List Nat}(g:LGo f c sa e d H a):∀b∈a,∃o,H b=some o:=let ⟨R,S,h,_⟩:=g.ex;h.book.dom
theorem LGo.write{n H:Hp}{m sa D:Nat}{q:List xM}{s:List Ans}{k:List Nat}{xs:List V}(g:LGo n m sa q s H k)(h:aVO n m sa H k D xs)(ys:List V):LGo n m sa q s (upd H D (.lst ys)) k/\aVO n m sa (upd H D (.lst ys)) k D ys:=by
 obtain⟨R,S,c,w,p,j⟩:=g.ex;have nb:∀b∈k,b≠D:=λb a z=>h.nb (by rw[<- z];exact a);refine⟨⟨⟨R,S,⟨⟨by rw[yI (bYv h.nr)];exact c.book.lst,c.book.len,c.book.nd,λi b r a u=>?_⟩,by rw[yI (bYv h.ns)];exact c.shut,c.ne,c.no,λb a l f=>c.noC b a l (by rw[yI (nb b a)]at f;exact f)⟩,w,p,j⟩,λx o e=>?_,g.newR,g.newS,g.newB⟩,yB,h.new,h.nr,h.ns,h.nb,λb a l f=>h.nc b a l (by rw[yI (nb b a)]at f;exact f)⟩
 ·obtain⟨y,t,v⟩:=c.book.row i b r a u;have d:=bK5 a;exact⟨y,by rw[yI (nb b d)];exact t,by rw[yI (λz=>h.nc b d _ t (by rw[<- z];rfl))];exact v⟩
 ·rw[yI (yJ e h.new)];exact g.keep _ _ e
theorem aVO.write{f H:Hp}{c sa D E:Nat}{a:List Nat}{xs:List V}(h:aVO f c sa H a D xs)(ne:D≠E)(g:E∉a)(u:HO):aVO f c sa (upd H E u) a D xs:=
 ⟨by rw[yI ne];exact h.at_,h.new,h.nr,h.ns,h.nb,λb e l d=>h.nc b e l (by rw[yI (λz=>g (by rw[<- z];exact e))]at d;exact d)⟩
end Law
namespace Bk
open PySem (Str)
theorem zJ{R:Rows}{k:Nat}{r:Row}(a:R[k]? =some r)(b:r.void=false):zZ R (k:Int)=true:=by
 unfold zZ;rw[bYq,a];simp[b]
theorem xV.noOne{R R2:Rows}{S f:List Int}{m:Int}{e:xM}{g:Ans}(h:zZ R m=false)(a:e= .loose m\/(∃d,e= .date m d)\/(∃t,e= .term m t)\/(∃w,e= .copy m w)\/(∃w,e= .file m w)\/e= .void m\/e= .state m\/e= .thread m\/e= .copies m) (i:xV R S e g R2 f):g= .txt "no letter"/\R2=R/\f=S:=by
 cases i with
 |oneN k j=>exact⟨rfl,rfl,rfl⟩
 |enter _=>simp at a
 |enterT _=>simp at a
 |replyN _=>simp at a
 |replyT _ _=>simp at a
 |replyE _ _ _ _=>simp at a
 |reply _ _ _ _=>simp at a
 |hangN _=>simp at a
 |hangH _ _ _ _ _=>simp at a
 |hangO _ _ _ _ _ _=>simp at a
 |hangW _ _ _ _ _ _ _=>simp at a
 |hangP _ _ _ _ _ _ _ _=>simp at a
 |hangE _ _ _ _ _ _ _ _ _=>simp at a
 |hang _ _ _ _ _ _ _ _ _=>simp at a
 |shutN _=>simp at a
 |shut _=>simp at a
 |letters=>simp at a
 |on _=>simp at a
 |looseN b c _=>simp at a;rw[<- a,zJ b c]at h;cases h
 |loose b c _=>simp at a;rw[<- a,zJ b c]at h;cases h
 |dateE b c _=>simp at a;rw[<- a,zJ b c]at h;cases h
 |date b c _ _=>simp at a;rw[<- a,zJ b c]at h;cases h
 |termN b c _=>simp at a;rw[<- a,zJ b c]at h;cases h
 |term b c _=>simp at a;rw[<- a,zJ b c]at h;cases h
 |copyC b c _=>simp at a;rw[<- a,zJ b c]at h;cases h
 |copy b c _ _=>simp at a;rw[<- a,zJ b c]at h;cases h
 |file b c=>simp at a;rw[<- a,zJ b c]at h;cases h
 |voidA b c _=>simp at a;rw[<- a,zJ b c]at h;cases h
 |void b c _=>simp at a;rw[<- a,zJ b c]at h;cases h
 |state b c=>simp at a;rw[<- a,zJ b c]at h;cases h
 |thread b c=>simp at a;rw[<- a,zJ b c]at h;cases h
 |copies b c=>simp at a;rw[<- a,zJ b c]at h;cases h
def aXP(R:Rows)(e:xM):Prop:=∃m,zZ R m=false/\(e= .loose m\/(∃d,e= .date m d)\/(∃t,e= .term m t)\/(∃w,e= .copy m w)\/(∃w,e= .file m w)\/e= .void m\/e= .state m\/e= .thread m\/e= .copies m)
theorem qZ{R:Rows}{m:Int}{k:Nat}{r:Row}(h:zZ R m=false)(e:m=(k:Int))(a:R[k]? =some r)(b:r.void=false):False:=by
 rw[e,zJ a b]at h;cases h
theorem xV.det{R B R2:Rows}{S E C:List Int}{e n:xM}{a w:Ans}(b:n=e)(h:xV R S e a B E)(i:xV R S n w R2 C):a=w/\B=R2/\E=C:=by
 by_cases o:aXP R e
 ·obtain⟨m,D,x⟩:=o;obtain⟨rfl,rfl,rfl⟩:=xV.noOne D x h;subst b;obtain⟨rfl,rfl,rfl⟩:=xV.noOne D x i;exact⟨rfl,rfl,rfl⟩
 have G:¬aXP R n:=by rw[b];exact o
 cases e<;> cases n<;> try (cases b;done)
 all_goals simp only[xM.loose.injEq,xM.date.injEq,xM.term.injEq,xM.copy.injEq,xM.file.injEq,xM.void.injEq,xM.state.injEq,xM.thread.injEq,xM.copies.injEq,xM.letters.injEq,xM.shut.injEq,xM.enter.injEq,xM.reply.injEq,xM.hang.injEq,xM.on.injEq]at b
 all_goals cases h<;> cases i<;> first
  |(exfalso;exact o ⟨_,‹zZ R _=false›,‹_›⟩)
  |(exfalso;exact G ⟨_,‹zZ R _=false›,‹_›⟩)
  |(simp_all [cZr];done)
  |(simp_all [cZr];omega)
  |skip
 all_goals first
  |exact(qZ ‹zZ R _=false› b.1.symm ‹R[_]? =some _› ‹_›).elim
  |exact(qZ ‹zZ R _=false› b.1 ‹R[_]? =some _› ‹_›).elim
  |(rcases ‹zZ R _=false\/zZ R _=false› with z|z
    ·exact(qZ z b.1.symm ‹R[_]? =some _› ‹_›).elim
    ·exact(qZ z b.2.symm ‹R[_]? =some _› ‹_›).elim)
  |(rcases ‹zZ R _=false\/zZ R _=false› with z|z
    ·exact(qZ z b.1 ‹R[_]? =some _› ‹_›).elim
    ·exact(qZ z b.2 ‹R[_]? =some _› ‹_›).elim)
  |skip
 case date.date.dateE.date=>
  rename_i d A k r t I h H J f u p i;exfalso;obtain⟨v,rfl⟩:=b;cases cZr.mp v;rw[t]at f;cases f;rcases h with⟨j,g,s⟩|⟨c,g,s⟩
  ·have:=p j g;omega
  ·have:=i c g;omega
 case date.date.date.dateE=>
  rename_i d A k r t I p i H J f u h;exfalso;obtain⟨v,rfl⟩:=b;cases cZr.mp v;rw[t]at f;cases f;rcases h with⟨j,g,s⟩|⟨c,g,s⟩
  ·have:=p j g;omega
  ·have:=i c g;omega
 case on.on.on.on=>
  rename_i y d q A l h K F;obtain⟨rfl,rfl⟩:=b;cases h.uniq F;exact⟨rfl,rfl,rfl⟩
end Bk
namespace Desk
open Bk (Row Rows xV xM Ans)
theorem Run.inv{R c:Rows}{S b:List Int}{l:List xM}{bs:List Ans}(h:Run R S l bs c b):(l= []/\bs= []/\c=R/\b=S)\/∃g e f a i j,l=g++ [e]/\bs=f++ [a]/\Run R S g f i j/\xV i j e a c b:=by
 cases h with
 |nil=>exact .inl ⟨rfl,rfl,rfl,rfl⟩
 |snoc h d=>exact .inr ⟨_,_,_,_,_,_,rfl,rfl,h,d⟩
theorem Run.det{R:Rows}{S:List Int}:∀ (n:Nat) {b:List xM} {j bs:List Ans} {f R2:Rows} {c i:List Int},b.length=n->Run R S b j f c->Run R S b bs R2 i->j=bs/\f=R2/\c=i
 |0,b,j,bs,f,R2,c,i,hn,h,h2=>by
  rcases h.inv with⟨rfl,rfl,rfl,rfl⟩|⟨_,_,_,_,_,_,rfl,_⟩
  ·rcases h2.inv with⟨_,rfl,rfl,rfl⟩|⟨q,t,_,_,_,_,z,_⟩
   ·exact⟨rfl,rfl,rfl⟩
   ·exact absurd (congrArg cXh z) (by simp)
  ·simp at hn
 |n+1,b,j,bs,f,R2,c,i,hn,h,h2=>by
  rcases h.inv with⟨rfl,_⟩|⟨p,e,k,a,w,x,rfl,rfl,g,d⟩
  ·simp at hn
  ·rcases h2.inv with⟨z,_⟩|⟨m,t,u,v,l,s,z,rfl,r,o⟩
   ·exact absurd (congrArg cXh z) (by simp)
   ·obtain⟨rfl,z2⟩:=cZk z rfl;cases z2;obtain⟨rfl,rfl,rfl⟩:=Run.det n (by simpa using hn) g r;obtain⟨rfl,rfl,rfl⟩:=Bk.xV.det rfl d o;exact⟨rfl,rfl,rfl⟩
end Desk
namespace Law
open PySem L2 PyProof.Rows
open Bk (Row Rows xV xM Ans)
open Desk (xE wX uG Wf Up Run wF uM)
theorem vS{o b:List Nat}{H c:Hp}{a:Ans}{v:V}(h:wX o H a v)(k:∀p u,p∉o->H p=some u->p∉b/\c p=some u):wX b c a v:=by
 cases a with
 |num n=>exact h
 |txt x=>exact h
 |nums l=>obtain⟨p,e,n,q⟩:=h;exact⟨p,e,k p _ n q⟩
 |txts l=>obtain⟨p,e,n,q⟩:=h;exact⟨p,e,k p _ n q⟩
 |row r=>obtain⟨p,e,n,q⟩:=h;exact⟨p,e,k p _ n q⟩
structure Mid(H0:Hp)(ra sa ds us:Nat)(es:List xM)(das:List Nat)(i:Nat)(H:Hp):Prop where
 ne:ds≠us
 wf:∀e∈es,Wf e
 len:das.length=es.length
 at_:∀ (j:Nat)(d:Nat)(e:xM),das[j]? =some d->es[j]? =some e->H d=some (.tup (xE e))
 ex:∃ (rs:List Nat)(as:List Ans)(vs:List V),LGo H0 ra sa (es.take i) as H rs/\aVO H0 ra sa H rs ds (das.map V.ref)/\aVO H0 ra sa H rs us vs/\bYH (λv a=>wX (us::ds::sa::ra::rs) H a v) vs as
theorem Mid.same{h H l:Hp}{f sa ds us:Nat}{c:List xM}{b:List Nat}{i:Nat}(m:Mid h f sa ds us c b i H)(k:xA H l):Mid h f sa ds us c b i l:=by
 obtain⟨r,w,t,g,o,s,p⟩:=m.ex;exact⟨m.ne,m.wf,m.len,λj d e q x=>k _ _ (m.at_ j d e q x),r,w,t,g.same k,o.same g.dom k,s.same g.dom k,uM (λv a z=>vS z λp u n e=>⟨n,k _ _ e⟩) p⟩
theorem Mid.keep{b H:Hp}{c sa ds us:Nat}{d:List xM}{a:List Nat}{i:Nat}(m:Mid b c sa ds us d a i H):xA b H:=let ⟨rs,as,vs,g,_⟩:=m.ex;g.keep
theorem Mid.push{A H:Hp}{s sa ds us:Nat}{c:List xM}{b:List Nat}{i:Nat}(m:Mid A s sa ds us c b i H)(r:i=c.length){d:Nat}{e:xM}(C:H d=some (.tup (xE e)))(hw:Wf e):Mid A s sa ds us (c++ [e]) (b++ [d]) i (upd H ds (.lst ((b++ [d]).map V.ref))):=by
 obtain⟨B,F,E,g,o,D,p⟩:=m.ex;have w:=g.write o ((b++ [d]).map V.ref);have tk:∀ {x ys},H x=some (.tup ys)->upd H ds (.lst ((b++ [d]).map V.ref)) x=some (.tup ys):=λ{x ys} h=>by rw[yI (λz=>by rw[z,o.at_]at h;cases h)];exact h
 refine⟨m.ne,λx k=>?_,by simp[m.len],λj x y l f=>?_,B,F,E,?_,w.2,D.write (bYv m.ne) o.nb _,uM (λv a z=>vS z λp u n h=>⟨n,?_⟩) p⟩
 ·rcases bYs.mp k with k|k
  ·exact m.wf x k
  ·rw[bK4.mp k];exact hw
 ·by_cases t:j<c.length
  ·rw[bYA (by rw[m.len];exact t)]at l;rw[bYA t]at f;exact tk (m.at_ j x y l f)
  ·have q:j=c.length:=by
    have:=(bKZ.mp f).1;simp at this;omega
   subst q;rw[bYc (by rw[m.len];exact bKU _),m.len,bY6]at l;rw[bYc (bKU _),bY6]at f;cases l;cases f;exact tk C
 ·rw[r,List.take_left' rfl];have:=w.1;rw[r,bYR]at this;exact this
 ·rw[yI (λz=>n (by rw[z];exact bKY _ bK2))];exact h
theorem Mid.next{T H:Hp}{c sa ds us:Nat}{o:List xM}{k:List Nat}{i:Nat}(m:Mid T c sa ds us o k i H)(hz:i<60){d:Nat}{e:xM}(hd:k[i]? =some d)(E:o[i]? =some e){Q:VK} (q:∀ (v:V)(f:Hp)(vs:List V),H us=some (.lst vs)->f us=some (.lst vs)->vs.length=i->Mid T c sa ds us o k (i+1) (upd f us (.lst (vs++ [v])))->Q v f):aQ9 [.ref c,.ref sa,.ref d] H Q E0:=by
 obtain⟨P,as,vs,g,N,J,p⟩:=m.ex;have a0:i<o.length:=(bKZ.mp E).1;have t:(o.take i).length=i:=by rw[bY4];omega
 have K:vs.length=i:=by obtain⟨R,S,_,_,_,hr⟩:=g.ex;rw[cXc p,<- hr.len,t]
 have hw:Wf e:=m.wf e (bK5 E);refine g.step hw (by rw[t];exact hz) (m.at_ i d e hd E) λa v f b g2 s A O=>?_;have t1:=N.step s;have D:=J.step s;refine q v f vs J.at_ D.at_ K ?_;have w:=g2.write D (vs++ [v]);obtain⟨R,S,M,_⟩:=g.ex;have tk:∀ {x ys},H x=some (.tup ys)->upd f us (.lst (vs++ [v])) x=some (.tup ys):=λ{x ys} h=>by
  have F:x≠sa:=λz=>by rw[z,M.shut]at h;cases h
  have I:x≠c:=λz=>by rw[z,M.book.lst]at h;cases h
  have C:=s.1 x _ F I (M.book.tupNo h) h;rw[yI (λz=>by rw[z,D.at_]at C;cases C)];exact C
 have o2:∀p u,p∉us::ds::sa::c::P->H p=some u->p∉us::ds::sa::c::b/\upd f us (.lst (vs++ [v])) p=some u:=λp u n h=>by
  have F:p≠us:=λz=>n (by rw[z];exact bK2);have I:p≠ds:=λz=>n (by rw[z];simp);have W:p≠sa:=λz=>n (by rw[z];simp);have X:p≠c:=λz=>n (by rw[z];simp);have U:p∉P:=λz=>n (by simp[z]);refine⟨λz=>?_,by rw[yI F];exact s.1 p u W X U h⟩;simp only[bKW,F,I,W,X,false_or]at z;rcases s.2.1 p z with y|y
  ·exact U y
  ·rw[h]at y;cases y
 have Y:o.take (i+1)=o.take i++ [e]:=by rw[bY0,E];rfl
 refine⟨m.ne,m.wf,m.len,λj x y Z C=>tk (m.at_ j x y Z C),b,as++ [a],vs++ [v],by rw[Y];exact w.1,t1.write m.ne D.nb _,w.2,?_⟩;refine Paired.snoc (uM (λv a z=>vS z o2) p) ?_;have B:∀x,v= .ref x->x≠us:=λx ex z=>O x ex (.lst vs) (by intro _ y;cases y) (by rw[z];exact J.at_);have G:∀x,v= .ref x->x≠ds:=λx ex z=>O x ex (.lst (k.map V.ref)) (by intro _ y;cases y) (by rw[z];exact N.at_);have L:∀x u,v= .ref x->x∉sa::c::b->f x=some u->x∉us::ds::sa::c::b/\upd f us (.lst (vs++ [v])) x=some u:=λx u ex n h=>
  ⟨λz=>(bKW.mp z).elim (B x ex) λz=>(bKW.mp z).elim (G x ex) n,by rw[yI (B x ex)];exact h⟩
 cases a with
 |num n=>exact A
 |txt x=>exact A
 |nums l=>obtain⟨x,ex,n,h⟩:=A;exact⟨x,ex,L x _ ex n h⟩
 |txts l=>obtain⟨x,ex,n,h⟩:=A;exact⟨x,ex,L x _ ex n h⟩
 |row r=>obtain⟨x,ex,n,h⟩:=A;exact⟨x,ex,L x _ ex n h⟩
end Law
namespace Law
open PySem L2 PyProof.Rows
open Bk (Row Rows xV xM Ans)
open Desk (xE wX uG Wf wI stV)
theorem aX7(a:Array Nat):∀ (m:Nat)(b:Array Nat),((cXj m a).foldl (·++·) b).size=b.size+m*a.size
 |0,b=>by simp
 |m+1,b=>by rw[List.replicate_succ,List.foldl_cons,aX7 a m,Array.size_append,Nat.succ_mul];omega
theorem bJr{x:Str}{n:Int}(b:x.length<=1)(f:n<=100):(Txt.mul x n).length<=100:=by
 unfold Txt.mul;split
 ·decide
 ·split
  ·omega
  ·rename_i c _;show((cXj n.toNat x.cps).foldl (·++·) #[]).size<=100;rw[aX7];have a:x.cps.size<=1:=b;have d:n.toNat*x.cps.size<=n.toNat*1:=Nat.mul_le_mul_left _ a;have e:(#[]:Array Nat).size=0:=rfl;omega
theorem aQh{X:Cx}:OpR X (cXs .Mult) (λx y H Q=>∃i n,x= .str i/\y= .int n/\i.length<=1/\0<=n/\n<=100/\∀z:Str,z.length<=100->Q (.str z) H):=by
 intro b s σ H x y v u Q I c g h;obtain⟨i,n,rfl,rfl,a,j,d,q⟩:=h;obtain⟨t,rfl⟩:=c;obtain⟨f,rfl⟩:=g;refine SB.mul ⟨?_,λe _=>?_,λe _=>?_⟩ λf k=>⟨.str (Txt.mul i n),H,I.tok _,⟨_,rfl⟩,q _ (bJr a d)⟩
 ·rw[decide_eq_false (by omega),decide_eq_false (by omega)];rfl
 ·have:(1:Int)<=(2 ^ 63 - 1) / n:=Int.le_ediv_of_mul_le (by omega) (by omega);omega
 ·have:i.length*n.toNat<=1*n.toNat:=Nat.mul_le_mul_right _ a;unfold Builtin.Str.tooLong;simp only[decide_eq_false_iff_not,bYm];omega
theorem bZm{l:List V}(h:0<l.length)(x:Int):∃v∈l,atI l (x % (l.length:Nat))=some v:=by
 have c:=Int.emod_nonneg x (show((l.length:Nat):Int)≠0 by omega);have d:=Int.emod_lt_of_pos x (show(0:Int)<((l.length:Nat):Int) by omega);obtain⟨k,b⟩:∃k:Nat,x % (l.length:Nat)=(k:Int):=⟨(x % (l.length:Nat)).toNat,by omega⟩;have a:k<l.length:=by omega
 refine⟨l[k],cQO a,?_⟩;rw[b];exact yS (bKM a)
theorem qV{a:List Int}(h:a≠ [])(x:Int):∃n,atI (a.map V.int) (x % ((a.map V.int).length:Nat))=some (.int n):=by
 obtain⟨v,b,e⟩:=bZm (l:=a.map V.int) (by rw[bKT];exact bY3.mpr h) x;obtain⟨n,_,rfl⟩:=bYQ.mp b;exact⟨n,e⟩
theorem aZX{l:List Nat}(h:l≠ [])(x:Int):∃n,atI (l.map λi=>V.int (i:Nat)) (x % ((l.map λi=>V.int (i:Nat)).length:Nat))=some (.int n):=by
 obtain⟨v,a,e⟩:=bZm (l:=l.map λi=>V.int (i:Nat)) (by rw[bKT];exact bY3.mpr h) x;obtain⟨n,_,rfl⟩:=bYQ.mp a;exact⟨n,e⟩
def wZ(H:Hp)(v:V):Prop:=∃p e,v= .ref p/\H p=some (.tup (xE e))/\Wf e
theorem wZ.same{H d:Hp}{v:V}(h:wZ H v)(k:xA H d):wZ d v:=let ⟨p,e,a,b,c⟩:=h;⟨p,e,a,k _ _ b,c⟩
abbrev W7:Stmt:=xF "_law_hanging"
def aZL:Sp:=λe H Q _=>∃ (b d:Nat)(f:List Nat)(R:Rows)(c:List Int)(k:Nat)(m:Int),e= [.ref b,.ref d,.int (k:Nat),.int m]/\y7 H b f R/\R.length<=60/\H d=some (.lst (c.map V.int))/\c≠ []/\
 ∀ (a:Hp)(v:V),xA H a->wZ a v->Q v a
section
variable {K:bKP}
theorem aWN:yM ["_law_rows","_law_cells","_law_k","_law_number","_law_near","_law_far","_law_free","_law_goal","_law_fits","_law_j","_law_one"] ["_law_rows","_law_cells","_law_k","_law_number"] (yH W7):=scM
theorem aV9:xH ["_law_rows","_law_cells","_law_k","_law_number","_law_near","_law_far","_law_free","_law_goal","_law_fits","_law_j","_law_one"] (yH W7) "_law_j" ["_law_rows"] [0] {kind:= .function,names:= [(".0",.local),("_law_j",.local),("_law_rows",.free)],isGenerator:=false,isCoroutine:=false,more:= [] }:=
 lcM
theorem aWt(T:vH mg)(a8:mg "int"=none)(O:FnG P w K mg base 1 "_law_good" ["_law_rows","_law_number"] Z3)(F:Fun K "_law_hanging" "_law_hanging" W7 f fd):y8 P w K mg base CX0 2 f fd ["_law_rows","_law_cells","_law_k","_law_number"] aZL:=by
 have sc:=aWN;refine F.ok (k:=1) sc (λb1 A outer s H vs Q E hr h=>?_);obtain⟨v,X,rs,R,ns,k,m,rfl,Z,hR,hc,a0,q⟩:=h;refine⟨_,(yC (yT (i:=4) (yL yK (pv 1) (yV y0 (yV x8 (pv 2) yE) (yU yQ rfl T.b_len xD (yA (pv 1) yD))))) (yC (yT (i:=5) (yL yK (pv 1) (yV y0 (yV x8 (pv 2) yE) (yU yQ rfl T.b_len xD (yA (pv 1) yD))))) (yC (aZx (i:=6) aV9 rfl sc.nd rfl rfl (zN rfl T.b_range (yA (yU yQ rfl T.b_len xD (yA (pv 0) yD)) yD)) (λ_ _ _ _ _=>(wM (yN aVe (yL (show IxR _ (aXO K)from yK) (yL (show IxR _ (aXO K)from yK) (pv 1) (pv 0)) yE) x9))) (λ_ _ _ _ _=>(pv 0))) (yC (y6 (PW.pt (vP (yN (u4 hr.units0) (pv 6) (y3 yD)) (wU (yN aQV (yV y0 (pv 4) yE) yE)))) (yF (yT (i:=3) (yL yK (pv 6) (yV y0 (pv 5) (yU yQ rfl T.b_len xD (yA (pv 6) yD)))))) yR) (yC (yT (i:=7) (yV wT (yV y0 (yV x8 (pv 4) (pv 2)) (yV x8 (yU yQ rfl T.b_len xD (yA (pv 0) yD)) yE)) (xT wQ rfl a8 jH (yA (zG x5 (yV y0 (pv 4) yE) yE) yD)))) (yC (yT (i:=8) (y3 yD)) (yC (wE bYI rfl (zN rfl T.b_range (yA (yU yQ rfl T.b_len xD (yA (pv 0) yD)) yD)) (y9 (i:=9)) (yF (y6 (PW.pt (vP (x3 (xJ O hr rfl (yA (pv 0) (yA (pv 3) yD)))) (wU (yN aZs (yL yK (yL yK (pv 0) (pv 9)) yE) (yL yK (yL yK (pv 0) (pv 3)) yE))))) (yC (yT (i:=10) (yL yK (pv 0) (pv 9))) (yF (y6 (PW.pt (vP (yN x5 (yL yK (pv 10) yE) (yL yK (yL yK (pv 0) (pv 3)) yE)) (wU (yN aK9 (yL yK (pv 10) yE) (yL yK (yL yK (pv 0) (pv 3)) yE))))) (yF (yY (uF bYn bYt bYu xG (pv 8) (yA (pv 9) yD)))) yR))) yR))) (yC (y6 (PW.pt (vP (yN (u4 hr.units0) (pv 8) (y3 yD)) (wU (yN aQV (yV y0 (pv 4) yE) yE)))) (yF (yT (i:=7) (yL yK (pv 8) (yV y0 (yV x8 (yV Y2 (pv 4) yE) (pv 2)) (yU yQ rfl T.b_len xD (yA (pv 8) yD)))))) yR) (yF (yP (xL (yA yO (yA (pv 3) (yA (pv 7) yD)))))))))))))),?_⟩;have hl:(rs.map V.ref).length=R.length:=by rw[bKT];exact Z.len
 have U:(0:Int)<((ns.map V.int).length:Nat):=by rw[bKT];have:=bY3.mpr a0;omega
 obtain⟨g,a1⟩:=qV a0 ((k:Nat)+1);obtain⟨L,a6⟩:=qV a0 ((k:Nat)+2);refine⟨_,rfl,_,rfl,_,_,rfl,rfl,_,rfl,X,_,rfl,.inl (SqL.of hc),_,_,rfl,rfl,U,X,_,_,_,rfl,rfl,SqL.of hc,a1,?_⟩;dsimp only[yX];refine⟨_,rfl,_,rfl,_,_,rfl,rfl,_,rfl,X,_,rfl,.inl (SqL.of hc),_,_,rfl,rfl,U,X,_,_,_,rfl,rfl,SqL.of hc,a6,?_⟩;dsimp only[yX];refine⟨_,rfl,v,_,rfl,.inl (SqL.of Z.lst),?_⟩;rw[hl];refine⟨_,rfl,by omega,by omega,λD hD=>?_⟩;rw[bYq];refine W4 (λj=>decide (wL (Bk.lk R j)=V.non)) (λk=>V.int (k:Nat)) hD (by rw[bYm];omega) (λj hj H' R' hH N=>?_) (λk hk _ H' R' hH N=>⟨_,rfl,N⟩) ?_
 ·have J:=bKM hj;obtain⟨b,g1,g2,cp,g3,g4⟩:=Z.get J;have a9:H' v=some (.lst (rs.map V.ref)):=by rw[hH v (yJ Z.lst hD)];exact Z.lst
  have hb:H' b=_:=(hH b (yJ g3 hD)).trans g3;rw[Bk.vY J]at N;exact⟨_,rfl,_,rfl,v,_,_,_,rfl,rfl,SqL.of a9,yS g1,b,_,4,_,rfl,rfl,SqL.of hb,rfl,rfl,_,rfl,N⟩
 generalize b0:(bK0 R.length).filter (λj=>decide (wL (Bk.lk R j)=V.non))=free;have k1:=yG hD (.lst (free.map λi=>V.int (i:Nat)));have Y:upd H D (.lst (free.map λi=>V.int (i:Nat))) D=some (.lst (free.map λi=>V.int (i:Nat))):=yB;generalize upd H D (.lst (free.map λi=>V.int (i:Nat)))=H1 at k1 Y ⊢;dsimp only[yX];refine x4 (λB H'=>∃m':Int,B= [some (.ref v),some (.ref X),some (.int (k:Nat)),some (.int m'),some (.int g),some (.int L),some (.ref D),none,none,none,none]/\xA H H') ?jR (λd=>?_);case jR=>
  rintro B H2 ⟨m',rfl,k2⟩;have a7:=Z.same k2;refine⟨_,rfl,_,rfl,_,_,rfl,rfl,_,rfl,v,_,rfl,.inl (SqL.of a7.lst),_,_,rfl,rfl,_,_,rfl,rfl,(show(0:Int)<(((rs.map V.ref).length:Nat):Int)+1 by omega),_,rfl,_,_,rfl,rfl,(show(0:Int)<11 by decide),rfl,.inr ⟨_,rfl,_,_,rfl,rfl,?_⟩⟩;dsimp only[yX];refine⟨z0,λS W=>?_⟩;dsimp only[yX];refine⟨_,rfl,v,_,rfl,.inl (SqL.of ((yG W (.lst [])) _ _ a7.lst)),?_⟩;rw[hl];refine⟨_,rfl,by omega,by omega,?_⟩;rw[bYq];have a5:H S=none:=k2.fresh W;generalize ((g+(k:Nat)) % ((R.length:Nat)+1) - if decide (V.int (g % 11)=V.int 5)=true then 1 else 0)=goal;refine vK (λt σ H3=>∃ (a:List Nat)(o9 M:Option V),σ= [some (.ref v),some (.ref X),some (.int (k:Nat)),some (.int m'),some (.int g),some (.int L),some (.ref D),some (.int goal),some (.ref S),o9,M]/\xA H H3/\H3 S=some (.lst (a.map λi=>V.int (i:Nat)))/\a.length<=t) ?_ ?_ ?_
  ·exact⟨[],none,none,rfl,k2.trans (yG W _),yB,bKU _⟩
  ·rintro j σ H3 hj ⟨a,o9,M,rfl,I,n,a4⟩;rw[cXK];dsimp only[yX];have u:=Z.same I;have J:=bKM hj;obtain⟨bj,j1,j2,cj,j3,j4⟩:=u.get J;refine⟨_,rfl,_,rfl,v,rs,R,m',rfl,u,_,rfl,?_⟩;cases h1:Bk.zZ R m' with
   |false=>exact onF rfl (onF rfl ⟨a,_,_,rfl,I,n,by omega⟩)
   |true=>
   obtain⟨i,r,rfl,b2,hi,hv⟩:=Bk.z6 h1;obtain⟨b,g1,g2,cp,g3,g4⟩:=u.get hi;refine onT rfl ⟨_,rfl,_,rfl,v,_,_,_,rfl,rfl,SqL.of u.lst,yS j1,bj,_,0,_,rfl,rfl,SqL.of j3,rfl,_,rfl,_,rfl,v,_,_,_,rfl,rfl,SqL.of u.lst,yS g1,b,_,0,_,rfl,rfl,SqL.of g3,rfl,rfl,_,rfl,?_⟩;refine qB (λc1=>?_) (λc1=>?_)
   ·refine⟨_,rfl,_,rfl,v,_,_,_,rfl,rfl,SqL.of u.lst,yS j1,?_⟩;dsimp only[yX];refine⟨_,rfl,bj,_,2,_,rfl,rfl,SqL.of j3,rfl,_,rfl,_,rfl,v,_,_,_,rfl,rfl,SqL.of u.lst,yS g1,b,_,2,_,rfl,rfl,SqL.of g3,rfl,rfl,_,rfl,?_⟩;rw[wN];cases h2:decide (R[j].partner=r.partner)with
    |false=>exact onF rfl (onF rfl ⟨a,_,_,rfl,I,n,by omega⟩)
    |true=>
    refine onT rfl ⟨_,rfl,bj,_,1,_,rfl,rfl,SqL.of j3,rfl,_,rfl,_,rfl,v,_,_,_,rfl,rfl,SqL.of u.lst,yS g1,b,_,1,_,rfl,rfl,SqL.of g3,rfl,_,_,rfl,rfl,_,rfl,?_⟩;refine qB (λc2=>?_) (λc2=>?_)
    ·refine⟨_,rfl,.inl ⟨rfl,_,SqL.of n⟩,_,rfl,S,_,_,rfl,rfl,n,zlt (by rw[bKT];omega),?_⟩;have e5:(a.map λi=>V.int (i:Nat))++ [V.int (j:Nat)]=(a++ [j]).map λi=>V.int (i:Nat):=by simp
     rw[e5];refine⟨a++ [j],_,_,rfl,λx o e=>?_,yB,by rw[bYh];simp;omega⟩;rw[yI (λz=>by rw[z,a5]at e;cases e)];exact I _ _ e
    ·exact⟨a,_,_,rfl,I,n,by omega⟩
   ·exact⟨a,_,_,rfl,I,n,by omega⟩
  ·rintro σ H3 ⟨a,o9,M,rfl,I,n,a4⟩;dsimp only[aWX];refine x4 (λB H'=>∃g':Int,B= [some (.ref v),some (.ref X),some (.int (k:Nat)),some (.int m'),some (.int g),some (.int L),some (.ref D),some (.int g'),some (.ref S),o9,M]/\xA H H') ?rest2 (λd=>?_);case rest2=>
    rintro B H4 ⟨g',rfl,k4⟩;refine⟨_,rfl,_,rfl,z3,λp hp=>?_⟩;exact q _ _ (k4.trans (yG hp _)) ⟨p,.hang m' g',rfl,yB,trivial⟩
   refine⟨_,rfl,z0,λpn G=>⟨S,pn,_,rfl,rfl,SqL.of ((yG G (.lst [])) _ _ n),SqL.of yB,_,rfl,?_⟩⟩;have y:=yG G (.lst []);generalize upd H3 pn (.lst [])=H4 at y ⊢;by_cases l:a= []
   ·subst l;exact onF rfl (onF rfl (d _ _ ⟨goal,rfl,I.trans y⟩))
   refine onT (by cases a with|nil=>exact absurd rfl l|cons=>rfl) ⟨_,rfl,_,_,rfl,rfl,(show(0:Int)<7 by decide),_,_,rfl,rfl,_,rfl,?_⟩;refine qB (λc=>?_) (λc=>d _ _ ⟨goal,rfl,I.trans y⟩);obtain⟨g',a2⟩:=aZX l (g / 7+(k:Nat));have C:=y _ _ n;have a3:(0:Int)<((a.map λi=>V.int (i:Nat)).length:Nat):=by rw[bKT];have:=bY3.mpr l;omega
   refine⟨_,rfl,_,rfl,_,_,rfl,rfl,⟨by decide,by decide⟩,_,rfl,_,_,rfl,rfl,_,rfl,S,_,rfl,.inl (SqL.of C),_,_,rfl,rfl,a3,S,_,_,_,rfl,rfl,SqL.of C,a2,?_⟩;dsimp only[yX];exact d _ _ ⟨g',rfl,I.trans y⟩
 refine⟨_,rfl,z0,λpn G=>⟨D,pn,_,rfl,rfl,SqL.of ((yG G (.lst [])) _ _ Y),SqL.of yB,_,rfl,?_⟩⟩;have y:=yG G (.lst []);generalize upd H1 pn (.lst [])=H4 at y ⊢;by_cases l:free= []
 ·subst l;exact onF rfl (onF rfl (d _ _ ⟨m,rfl,k1.trans y⟩))
 refine onT (by cases free with|nil=>exact absurd rfl l|cons=>rfl) ⟨_,rfl,_,_,rfl,rfl,(show(0:Int)<5 by decide),_,_,rfl,rfl,_,rfl,?_⟩;refine qB (λc=>?_) (λc=>d _ _ ⟨m,rfl,k1.trans y⟩);obtain⟨g',a2⟩:=aZX l L;have C:=y _ _ Y;have a3:(0:Int)<((free.map λi=>V.int (i:Nat)).length:Nat):=by rw[bKT];have:=bY3.mpr l;omega
 refine⟨_,rfl,_,rfl,_,rfl,D,_,rfl,.inl (SqL.of C),_,_,rfl,rfl,a3,D,_,_,_,rfl,rfl,SqL.of C,a2,?_⟩;dsimp only[yX];exact d _ _ ⟨g',rfl,k1.trans y⟩
end
end Law
namespace Law
open PySem L2 PyProof.Rows
open Bk (Row Rows xV xM Ans)
open Desk (xE wX uG Wf wI stV)
theorem bQJ{K:bKP}{x i:V}{H:Hp}{Q:VK}{a:Nat}{xs:List V}{j:Int}(d:x= .ref a)(e:i= .int j)(c:SqL K H a xs)(h0:0<=j)(f:j<(xs.length:Nat))(q:∀v∈xs,Q v H):aXO K x i H Q:=by
 obtain⟨k,rfl⟩:∃k:Nat,j=(k:Int):=⟨j.toNat,by omega⟩;have b:k<xs.length:=by omega
 exact⟨a,xs,_,_,d,e,c,yS (bKM b),q _ (cQO b)⟩
theorem jK{K:bKP}{x i:V}{H:Hp}{Q:VK}{a:Nat}{xs:List V}{j:Int}(e:x= .ref a)(c:i= .int j)(d:SqL K H a xs)(h0:0<=j)(b:j<(xs.length:Nat))(f:∀v∈xs,∃n,v= .int n)(q:∀n,V.int n∈xs->Q (.int n) H):aXO K x i H Q:=
 bQJ e c d h0 b λv m=>by obtain⟨n,rfl⟩:=f v m;exact q n m
theorem Q5{K:bKP}{x i:V}{H:Hp}{Q:VK}{a:Nat}{xs:List V}{j:Int}(e:x= .ref a)(c:i= .int j)(d:SqL K H a xs)(h0:0<=j)(b:j<(xs.length:Nat))(f:∀v∈xs,∃n,v= .str n)(q:∀n,V.str n∈xs->Q (.str n) H):aXO K x i H Q:=
 bQJ e c d h0 b λv m=>by obtain⟨n,rfl⟩:=f v m;exact q n m
theorem b0{b:Bool}:(0:Int)<=(if b=true then 1 else 0):=by split<;> decide
theorem b1{b:Bool}:(if b=true then(1:Int)else 0)<2:=by split<;> decide
theorem md0{x n:Int}(h:0<n):0<=x % n:=Int.emod_nonneg x (by omega)
theorem md1{x n:Int}(h:0<n):x % n<n:=Int.emod_lt_of_pos x h
structure jG(H0 H:Hp)(ma:Nat)(n:Nat):Prop where
 k:xA H0 H
 new:H0 ma=none
 ex:∃vs,H ma=some (.lst vs)/\vs.length=n/\∀v∈vs,wZ H v
theorem jG.same{d H f:Hp}{e:Nat}{n:Nat}(m:jG d H e n)(k:xA H f):jG d f e n:=
 ⟨m.k.trans k,m.new,let ⟨vs,a,b,c⟩:=m.ex;⟨vs,k _ _ a,b,λv g=>(c v g).same k⟩⟩
theorem jG.push{j H:Hp}{d:Nat}{n:Nat}(m:jG j H d n){vs:List V}(e:H d=some (.lst vs)){v:V}(l:wZ H v):jG j (upd H d (.lst (vs++ [v]))) d (n+1):=by
 obtain⟨k,i,q,a,b,c⟩:=m;rw[e]at a;cases a;have r:∀v,wZ H v->wZ (upd H d (.lst (vs++ [v]))) v:=λv ⟨p,e',h1,h2,h3⟩=>⟨p,e',h1,by rw[yI (λz=>by rw[z,e]at h2;cases h2)];exact h2,h3⟩;have g:∀v x,wZ H v->wZ (upd H d x) v:=λv x ⟨p,e',h1,h2,h3⟩=>⟨p,e',h1,by rw[yI (λz=>by rw[z,e]at h2;cases h2)];exact h2,h3⟩;refine⟨λx o h=>by rw[yI (λz=>by rw[z,i]at h;cases h)];exact k _ _ h,i,_,yB,by simp[b],λu f=>?_⟩;rcases bYs.mp f with f|f
 ·exact g _ _ (c u f)
 ·rw[bK4.mp f];exact g _ _ l
theorem bXY{v:V}{i:Nat}{u:TS}{D:aW1}{σ:L2.St}{H:Hp}(h:u D (σ.set i (some v)) H):bWP (bWN (tC v) (yX i)) u D σ H:=h
abbrev aVp:Stmt:=xF "_law_about"
def aYX:Sp:=λe H Q _=>∃ (b d:Nat)(f:List Nat)(R:Rows)(c:List Int)(k:Nat)(m turn:Int),e= [.ref b,.ref d,.int (k:Nat),.int m,.int turn]/\y7 H b f R/\R.length<=60/\H d=some (.lst (c.map V.int))/\k<c.length/\15<=turn/\turn<24/\
 ∀ (a:Hp)(v:V),xA H a->wZ a v->Q v a
section
variable {K:bKP}
theorem bXC:yM ["_law_rows","_law_cells","_law_k","_law_number","_law_turn","_law_near","_law_far","_law_base","_law_tied","_law_name","_law_way","_law_further","_law_menu","_law_stop","_law_asks"] ["_law_rows","_law_cells","_law_k","_law_number","_law_turn"] (yH aVp):=scM
theorem bQO:xH ["_law_rows","_law_cells","_law_k","_law_number","_law_turn","_law_near","_law_far","_law_base","_law_tied","_law_name","_law_way","_law_further","_law_menu","_law_stop","_law_asks"] (yH aVp) "_law_j" ["_law_rows"] [0] {kind:= .function,names:= [(".0",.local),("_law_j",.local),("_law_rows",.free)],isGenerator:=false,isCoroutine:=false,more:= [] }:=
 lcM
seal PE PA PS PSs PT in
theorem bQ3(T:vH mg)(a4:mg "int"=none)(S:FnG P w K mg base 1 "_law_good" ["_law_rows","_law_number"] Z3)(F:Fun K "_law_about" "_law_about" aVp f fd):y8 P w K mg base CX0 2 f fd ["_law_rows","_law_cells","_law_k","_law_number","_law_turn"] aYX:=by
 have sc:=bXC;refine F.ok (k:=1) sc (λj2 A outer s H vs Q E hr h=>?_);obtain⟨ra,U,rs,R,ns,k,m,turn,rfl,X,hR,hc,b2,j6,j1,q⟩:=h;refine⟨_,(yC (yT (i:=5) (yL yK (pv 1) (yV y0 (yV x8 (pv 2) yE) (yU yQ rfl T.b_len xD (yA (pv 1) yD))))) (yC (yT (i:=6) (yL yK (pv 1) (yV y0 (yV x8 (pv 2) yE) (yU yQ rfl T.b_len xD (yA (pv 1) yD))))) (yC (yT (i:=7) yE) (yC (y6 (x3 (xJ S hr rfl (yA (pv 0) (yA (pv 3) yD)))) (yF (yT (i:=7) (yL yK (yL yK (pv 0) (pv 3)) yE))) yR) (yC (aZx (i:=8) bQO rfl sc.nd rfl rfl (zN rfl T.b_range (yA (yU yQ rfl T.b_len xD (yA (pv 0) yD)) yD)) (λ_ _ _ _ _=>(wM (yN wG (yL (show IxR _ (aXO K)from yK) (yL (show IxR _ (aXO K)from yK) (pv 1) (pv 0)) yE) x9))) (λ_ _ _ _ _=>(pv 0))) (yC (y6 (PW.pt (vP (yN x5 (pv 4) yE) (vP (yN (u4 hr.units0) (pv 8) (y3 yD)) (wU (yN aQV (yV y0 (pv 5) yE) yE))))) (yF (yT (i:=3) (yL yK (pv 8) (yV y0 (pv 6) (yU yQ rfl T.b_len xD (yA (pv 8) yD)))))) yR) (yC (yT (i:=9) (yL yK (y3 (yA yO (yA yO (yA yO (yA yO (yA yO (yA (yV aQh yO yE) yD))))))) (yV y0 (pv 5) (yL yK (y3 (yA yE (yA yE yD))) (yV y0 (yL yK (pv 1) (pv 2)) yE))))) (yC (yT (i:=10) (xT wQ rfl a4 jH (yA (zG x5 (yV y0 (yL yK (pv 1) (pv 2)) yE) yE) yD))) (yC (yT (i:=11) (yV wT (yV x8 (pv 7) (yV y0 (pv 5) (yL yK (y3 (yA yE (yA yE yD))) (pv 10)))) (yL yK (y3 (yA yE (yA yE yD))) (pv 10)))) (yC (yT (i:=12) (y3 (yA (xL (yA yO (yA (pv 3) yD))) (yA (xL (yA yO (yA (pv 3) (yA (pv 11) yD)))) yD)))) (yC (yY (uF bYn bYt bYu xG (pv 12) (yA (xL (yA yO (yA (pv 3) (yA (yL yK (y3 (yA yE (yA yE (yA yE (yA yE (yA (aYe aZQ yE) yD)))))) (yV y0 (pv 5) yE)) yD)))) yD))) (yC (yY (uF bYn bYt bYu xG (pv 12) (yA (xL (yA yO (yA (pv 3) (yA (yL yK (y3 (yA yO (yA yO (yA yO (yA yO (yA yO (yA (yV aQh yO yE) yD))))))) (yV y0 (pv 5) yE)) yD)))) yD))) (yC (yT (i:=13) (yL yK (y3 (yA (yV wT (yV y0 (pv 5) yE) yE) (yA (yV x8 (pv 7) (yV y0 (pv 5) yE)) yD))) (xT wQ rfl a4 jH (yA (zG x5 (yV y0 (pv 6) yE) yE) yD)))) (yC (yT (i:=12) (yV aK8 (pv 12) (y3 (yA (xL (yA yO (yA (pv 3) (yA (pv 9) yD)))) (yA (xL (yA yO (yA (pv 3) yD))) (yA (xL (yA yO (yA (pv 13) yD))) yD)))))) (yC (yT (i:=14) (y3 (yA (xL (yA yO (yA (pv 3) yD))) (yA (xL (yA yO (yA (pv 3) yD))) (yA (xL (yA yO (yA (yV wT (yV y0 (pv 6) yE) yE) yD))) yD))))) (yC (yT (i:=14) (yV aK8 (pv 14) (y3 (yA (xL (yA yO (yA (pv 9) yD))) (yA (xL (yA yO (yA (yV wT (yV y0 (pv 6) yE) yE) yD))) (yA (xL (yA yO (yA (pv 3) yD))) yD)))))) (yC (y6 (yN vE (pv 4) yE) (yF (yP (yL yK (pv 12) (yV wT (pv 4) yE)))) yR) (yF (yP (yL yK (pv 14) (yV y0 (yV x8 (yV Y2 (pv 5) yE) (pv 4)) yE))))))))))))))))))))),?_⟩;have b7:ns≠ []:=λz=>by rw[z]at b2;simp at b2
 have hl:(rs.map V.ref).length=R.length:=by rw[bKT];exact X.len
 have a0:(0:Int)<((ns.map V.int).length:Nat):=by rw[bKT];have:=bY3.mpr b7;omega
 have d0:(ns.map V.int)[k]? =some (.int ns[k]):=by rw[bK7,bKM b2];rfl
 obtain⟨d,b8⟩:=qV b7 ((k:Nat)+1);obtain⟨g,d2⟩:=qV b7 ((k:Nat)+2);refine⟨_,rfl,_,rfl,_,_,rfl,rfl,_,rfl,U,_,rfl,.inl (SqL.of hc),_,_,rfl,rfl,a0,U,_,_,_,rfl,rfl,SqL.of hc,b8,?_⟩;dsimp only[yX];refine⟨_,rfl,_,rfl,_,_,rfl,rfl,_,rfl,U,_,rfl,.inl (SqL.of hc),_,_,rfl,rfl,a0,U,_,_,_,rfl,rfl,SqL.of hc,d2,?_⟩;dsimp only[yX];refine bXY ?_;refine x4 (λo t=>∃bs:Int,o= [some (.ref ra),some (.ref U),some (.int (k:Nat)),some (.int m),some (.int turn),some (.int d),some (.int g),some (.int bs),none,none,none,none,none,none,none]/\t=H) ?jR (λl=>?_);case jR=>
  rintro o t ⟨bs,rfl,rfl⟩;refine⟨_,rfl,ra,_,rfl,.inl (SqL.of X.lst),?_⟩;rw[hl];refine⟨_,rfl,by omega,by omega,λD hD=>?_⟩;rw[bYq];refine W4 (λj=> !decide (wL (Bk.lk R j)=V.non)) (λk=>V.int (k:Nat)) hD (by rw[bYm];omega) (λj hj H1 R' hH N=>?_) (λk hk _ t R' hH N=>⟨_,rfl,N⟩) ?_
  ·have c9:=bKM hj;obtain⟨b,Y,g2,cp,p,O⟩:=X.get c9;have h0:H1 ra=some (.lst (rs.map V.ref)):=by rw[hH ra (yJ X.lst hD)];exact X.lst
   have hb:H1 b=_:=(hH b (yJ p hD)).trans p;rw[Bk.vY c9]at N;exact⟨_,rfl,_,rfl,ra,_,_,_,rfl,rfl,SqL.of h0,yS Y,b,_,4,_,rfl,rfl,SqL.of hb,rfl,rfl,_,rfl,N⟩
  generalize i9:(bK0 R.length).filter (λj=> !decide (wL (Bk.lk R j)=V.non))=free;have k1:=yG hD (.lst (free.map λi=>V.int (i:Nat)));have a9:upd t D (.lst (free.map λi=>V.int (i:Nat))) D=some (.lst (free.map λi=>V.int (i:Nat))):=yB;generalize upd t D (.lst (free.map λi=>V.int (i:Nat)))=H1 at k1 a9 ⊢;dsimp only[yX];refine x4 (λo H2=>∃m:Int,o= [some (.ref ra),some (.ref U),some (.int (k:Nat)),some (.int m),some (.int turn),some (.int d),some (.int g),some (.int bs),some (.ref D),none,none,none,none,none,none]/\xA t H2) ?rest2 (λl=>?_);case rest2=>
   rintro o H2 ⟨m,rfl,k2⟩;refine⟨_,_,rfl,rfl,by decide,by decide,by decide,λL i6=>⟨zn (by show 6<=100000;omega),λl6 i3=>?_⟩⟩;have e6:=yG i3 (.lst [.str "old",.str "",.str "new",.str "old files",.str "Old, ~",.str L]);have h6:upd H2 l6 (.lst [.str "old",.str "",.str "new",.str "old files",.str "Old, ~",.str L]) l6=some (.lst [.str "old",.str "",.str "new",.str "old files",.str "Old, ~",.str L]):=yB;generalize upd H2 l6 (.lst [.str "old",.str "",.str "new",.str "old files",.str "Old, ~",.str L])=H3 at e6 h6 ⊢;refine⟨_,rfl,z2,λl2 i0=>?_⟩;have e7:=yG i0 (.lst [.int 3,.int 6]);have h7:upd H3 l2 (.lst [.int 3,.int 6]) l2=some (.lst [.int 3,.int 6]):=yB;have c7:=e7 _ _ h6;have k4:=(k2.trans e6).trans e7;generalize upd H3 l2 (.lst [.int 3,.int 6])=H4 at e7 h7 c7 k4 ⊢;have d1:=k4 _ _ hc;refine⟨_,rfl,_,rfl,U,_,_,_,rfl,rfl,SqL.of d1,yS d0,_,_,rfl,rfl,(show(0:Int)<2 by decide),?_⟩;refine jK rfl rfl (SqL.of h7) (md0 (by decide)) (md1 (by decide)) (by simp) λj hj=>?_;have i7:j=3\/j=6:=by simpa using hj
   refine⟨_,_,rfl,rfl,(show(0:Int)<j by omega),?_⟩;refine Q5 rfl rfl (SqL.of c7) (md0 (by omega)) (Int.lt_of_lt_of_le (md1 (by omega)) (show j<=6 by omega)) (by simp) λe _=>?_;dsimp only[yX];refine⟨_,rfl,_,rfl,U,_,_,_,rfl,rfl,SqL.of d1,yS d0,_,_,rfl,rfl,(show(0:Int)<11 by decide),rfl,.inr ⟨_,rfl,?_⟩⟩;generalize i8:decide (V.int (ns[k] % 11)=V.int 4)=wb;dsimp only[yX];refine⟨_,rfl,_,rfl,z2,λl9 f8=>⟨_,rfl,?_⟩⟩;have e9:=yG f8 (.lst [.int 9,.int 3001]);refine jK rfl rfl (SqL.of yB) b0 b1 (by simp) λj hj=>?_;have j7:j=9\/j=3001:=by simpa using hj
   refine⟨_,_,rfl,rfl,(show(0:Int)<j by omega),_,_,rfl,rfl,z2,λl4 g8=>⟨_,rfl,?_⟩⟩;have B:=(k4.trans e9).trans (yG g8 (.lst [.int 4,.int 1500]));refine jK rfl rfl (SqL.of yB) b0 b1 (by simp) λj4 _=>?_;refine⟨_,_,rfl,rfl,?_⟩;generalize upd (upd H4 l9 (.lst [.int 9,.int 3001])) l4 (.lst [.int 4,.int 1500])=H5 at B ⊢;dsimp only[yX];refine⟨_,rfl,z2,λp1 f6=>⟨_,rfl,_,rfl,z3,λp2 b9=>⟨z2,λZ e0=>?_⟩⟩⟩;have M1:jG t (upd (upd (upd H5 p1 (.tup [.str "loose",.int m])) p2 (.tup [.str "date",.int m,.int (bs+d % j - j4)])) Z (.lst [.ref p1,.ref p2])) Z 2:=by
    have a1:=yG f6 (.tup [.str "loose",.int m]);have a2:=yG b9 (.tup [.str "date",.int m,.int (bs+d % j - j4)]);have a3:=yG e0 (.lst [.ref p1,.ref p2]);refine⟨((B.trans a1).trans a2).trans a3,((B.trans a1).trans a2).fresh e0,_,yB,rfl,λv a=>?_⟩;rcases bKW.mp a with rfl|a
    ·exact⟨p1,.loose m,rfl,a3 _ _ (a2 _ _ yB),trivial⟩
    ·rw[bK4.mp a];exact⟨p2,.date m (bs+d % j - j4),rfl,a3 _ _ yB,trivial⟩
   generalize upd (upd (upd H5 p1 (.tup [.str "loose",.int m])) p2 (.tup [.str "date",.int m,.int (bs+d % j - j4)])) Z (.lst [.ref p1,.ref p2])=H6 at M1 ⊢;dsimp only[yX];obtain⟨f9,e1, -, -⟩:=M1.ex;refine⟨_,rfl,.inl ⟨rfl,_,SqL.of e1⟩,_,rfl,_,rfl,zn (by show 5<=100000;omega),λl5 g0=>⟨_,rfl,_,_,rfl,rfl,(show(0:Int)<5 by decide),?_⟩⟩;refine jK rfl rfl (SqL.of yB) (md0 (by decide)) (md1 (by decide)) (by simp) λtm _=>⟨z3,λp3 e8=>?_⟩;have a5:=(yG g0 (.lst [.int 0,.int 2,.int 6,.int 1,.int (-1)])).trans (yG e8 (.tup [.str "term",.int m,.int tm]));have d5:wZ (upd (upd H6 l5 (.lst [.int 0,.int 2,.int 6,.int 1,.int (-1)])) p3 (.tup [.str "term",.int m,.int tm])) (.ref p3):=⟨p3,.term m tm,rfl,yB,trivial⟩;generalize upd (upd H6 l5 (.lst [.int 0,.int 2,.int 6,.int 1,.int (-1)])) p3 (.tup [.str "term",.int m,.int tm])=H7 at a5 d5 ⊢;have M2:=M1.same a5;have b6:=a5 _ _ e1;refine⟨Z,_,_,rfl,rfl,b6,?_,?_⟩
   ·obtain⟨ws,w1,w2,_⟩:=M2.ex;rw[b6]at w1;cases w1;exact zlt (by omega)
   have M3:=M2.push b6 d5;generalize upd H7 Z (.lst (f9++ [.ref p3]))=H8 at M3 ⊢;obtain⟨h4,d8, -, -⟩:=M3.ex;refine⟨_,rfl,.inl ⟨rfl,_,SqL.of d8⟩,_,rfl,_,_,rfl,rfl,by decide,by decide,by decide,λz4 j0=>⟨zn (by show 6<=100000;omega),λl7 h8=>⟨_,rfl,_,_,rfl,rfl,(show(0:Int)<6 by decide),?_⟩⟩⟩;refine Q5 rfl rfl (SqL.of yB) (md0 (by decide)) (md1 (by decide)) (by simp) λy _=>⟨z3,λp4 g6=>?_⟩;have a7:=(yG h8 (.lst [.str "ann",.str "cy",.str "bo",.str "",.str "ann lee",.str z4])).trans (yG g6 (.tup [.str "copy",.int m,.str y]));have d7:wZ (upd (upd H8 l7 (.lst [.str "ann",.str "cy",.str "bo",.str "",.str "ann lee",.str z4])) p4 (.tup [.str "copy",.int m,.str y])) (.ref p4):=⟨p4,.copy m y,rfl,yB,trivial⟩;generalize upd (upd H8 l7 (.lst [.str "ann",.str "cy",.str "bo",.str "",.str "ann lee",.str z4])) p4 (.tup [.str "copy",.int m,.str y])=H9 at a7 d7 ⊢;have M4:=M3.same a7;have b4:=a7 _ _ d8;refine⟨Z,_,_,rfl,rfl,b4,?_,?_⟩
   ·obtain⟨ws,w1,w2,_⟩:=M4.ex;rw[b4]at w1;cases w1;exact zlt (by omega)
   have M5:=M4.push b4 d7;generalize upd H9 Z (.lst (h4++ [.ref p4]))=H10 at M5 ⊢;refine⟨_,rfl,_,_,rfl,rfl,(show(0:Int)<24 by decide),_,_,rfl,rfl,_,rfl,_,rfl,_,_,rfl,rfl,(show(0:Int)<12 by decide),_,_,rfl,rfl,z2,λl8 i5=>⟨_,rfl,_,_,rfl,rfl,(show(0:Int)<3 by decide),rfl,.inr ⟨_,rfl,?_⟩⟩⟩;refine jK rfl rfl (SqL.of yB) b0 b1 (by simp) λn _=>?_;have M6:=M5.same (yG i5 (.lst [.int (d % 24 - 2),.int (bs+d % 12)]));generalize upd H10 l8 (.lst [.int (d % 24 - 2),.int (bs+d % 12)])=H11 at M6 ⊢;dsimp only[yX];obtain⟨a6,i2,e2,f0⟩:=M6.ex;refine⟨_,rfl,_,rfl,_,rfl,z3,λM e4=>⟨_,rfl,z2,λI h9=>⟨_,rfl,z2,λx g9=>⟨z3,λa8 d3=>?_⟩⟩⟩⟩;have c1:=yG e4 (.tup [.str "file",.int m,.str e]);have c2:=yG h9 (.tup [.str "void",.int m]);have c3:=yG g9 (.tup [.str "shut",.int n]);have c4:=yG d3 (.lst [.ref M,.ref I,.ref x]);refine⟨Z,a8,_,_,rfl,rfl,c4 _ _ (c3 _ _ (c2 _ _ (c1 _ _ i2))),yB,by rw[e2,bYm];show 7<=16777216;omega,λmb c8=>?_⟩;have c5:=yG c8 (.lst (a6++ [.ref M,.ref I,.ref x]));have M7:jG t (upd (upd (upd (upd (upd H11 M (.tup [.str "file",.int m,.str e])) I (.tup [.str "void",.int m])) x (.tup [.str "shut",.int n])) a8 (.lst [.ref M,.ref I,.ref x])) mb (.lst (a6++ [.ref M,.ref I,.ref x]))) mb 7:=by
    have W:=(((M6.k.trans c1).trans c2).trans c3).trans c4;refine⟨W.trans c5,W.fresh c8,_,yB,by rw[bYh,e2];rfl,λv a=>?_⟩;rcases bYs.mp a with a|a
    ·exact(f0 v a).same ((((c1.trans c2).trans c3).trans c4).trans c5)
    ·rcases bKW.mp a with rfl|a
     ·exact⟨M,.file m e,rfl,c5 _ _ (c4 _ _ (c3 _ _ (c2 _ _ yB))),trivial⟩
     ·rcases bKW.mp a with rfl|a
      ·exact⟨I,.void m,rfl,c5 _ _ (c4 _ _ (c3 _ _ yB)),trivial⟩
      ·rw[bK4.mp a];exact⟨x,.shut n,rfl,c5 _ _ (c4 _ _ yB),trivial⟩
   generalize upd (upd (upd (upd (upd H11 M (.tup [.str "file",.int m,.str e])) I (.tup [.str "void",.int m])) x (.tup [.str "shut",.int n])) a8 (.lst [.ref M,.ref I,.ref x])) mb (.lst (a6++ [.ref M,.ref I,.ref x]))=H12 at M7 ⊢;dsimp only[yX];refine⟨_,rfl,z2,λr1 f7=>⟨_,rfl,z2,λr2 e5=>⟨_,rfl,_,_,rfl,rfl,(show(0:Int)<26 by decide),_,_,rfl,rfl,z2,λr3 f5=>⟨z3,λna c6=>?_⟩⟩⟩⟩;have f1:=yG f7 (.tup [.str "state",.int m]);have f2:=yG e5 (.tup [.str "thread",.int m]);have f3:=yG f5 (.tup [.str "overdue",.int (g % 26 - 1)]);have f4:=yG c6 (.lst [.ref r1,.ref r2,.ref r3]);have M8:=(((M7.same f1).same f2).same f3).same f4;have N1:jG t (upd (upd (upd (upd H12 r1 (.tup [.str "state",.int m])) r2 (.tup [.str "thread",.int m])) r3 (.tup [.str "overdue",.int (g % 26 - 1)])) na (.lst [.ref r1,.ref r2,.ref r3])) na 3:=by
    have W:=((M7.k.trans f1).trans f2).trans f3;refine⟨W.trans f4,W.fresh c6,_,yB,rfl,λv a=>?_⟩;rcases bKW.mp a with rfl|a
    ·exact⟨r1,.state m,rfl,f4 _ _ (f3 _ _ (f2 _ _ yB)),trivial⟩
    ·rcases bKW.mp a with rfl|a
     ·exact⟨r2,.thread m,rfl,f4 _ _ (f3 _ _ yB),trivial⟩
     ·rw[bK4.mp a];exact⟨r3,.on true (g % 26 - 1),rfl,f4 _ _ yB,trivial⟩
   generalize upd (upd (upd (upd H12 r1 (.tup [.str "state",.int m])) r2 (.tup [.str "thread",.int m])) r3 (.tup [.str "overdue",.int (g % 26 - 1)])) na (.lst [.ref r1,.ref r2,.ref r3])=H13 at M8 N1 ⊢;dsimp only[yX];obtain⟨b5,i4,d4,g7⟩:=N1.ex;refine⟨_,rfl,_,rfl,z2,λJ h5=>⟨_,rfl,_,_,rfl,rfl,(show(0:Int)<26 by decide),_,_,rfl,rfl,z2,λC h2=>⟨_,rfl,z2,λG h3=>⟨z3,λb3 c0=>?_⟩⟩⟩⟩;have Y:=yG h5 (.tup [.str "letters",.str e]);have g2:=yG h2 (.tup [.str "waiting",.int (g % 26 - 1)]);have p:=yG h3 (.tup [.str "copies",.int m]);have O:=yG c0 (.lst [.ref J,.ref C,.ref G]);refine⟨na,b3,_,_,rfl,rfl,O _ _ (p _ _ (g2 _ _ (Y _ _ i4))),yB,by rw[d4,bYm];show 6<=16777216;omega,λnb d9=>?_⟩;have g5:=yG d9 (.lst (b5++ [.ref J,.ref C,.ref G]));have M9:=((((M8.same Y).same g2).same p).same O).same g5;have N2:jG t (upd (upd (upd (upd (upd H13 J (.tup [.str "letters",.str e])) C (.tup [.str "waiting",.int (g % 26 - 1)])) G (.tup [.str "copies",.int m])) b3 (.lst [.ref J,.ref C,.ref G])) nb (.lst (b5++ [.ref J,.ref C,.ref G]))) nb 6:=by
    have W:=(((M8.k.trans Y).trans g2).trans p).trans O;refine⟨W.trans g5,W.fresh d9,_,yB,by rw[bYh,d4];rfl,λv a=>?_⟩;rcases bYs.mp a with a|a
    ·exact(g7 v a).same ((((Y.trans g2).trans p).trans O).trans g5)
    ·rcases bKW.mp a with rfl|a
     ·exact⟨J,.letters e,rfl,g5 _ _ (O _ _ (p _ _ (g2 _ _ yB))),trivial⟩
     ·rcases bKW.mp a with rfl|a
      ·exact⟨C,.on false (g % 26 - 1),rfl,g5 _ _ (O _ _ (p _ _ yB)),trivial⟩
      ·rw[bK4.mp a];exact⟨G,.copies m,rfl,g5 _ _ (O _ _ yB),trivial⟩
   generalize upd (upd (upd (upd (upd H13 J (.tup [.str "letters",.str e])) C (.tup [.str "waiting",.int (g % 26 - 1)])) G (.tup [.str "copies",.int m])) b3 (.lst [.ref J,.ref C,.ref G])) nb (.lst (b5++ [.ref J,.ref C,.ref G]))=H14 at M9 N2 ⊢;dsimp only[yX];refine⟨_,rfl,_,_,rfl,rfl,_,rfl,?_⟩;refine qB (λc=>?_) (λc=>?_)
   ·have c:turn<22:=of_decide_eq_true c;obtain⟨us,u1,u2,u3⟩:=M9.ex;refine⟨_,rfl,_,rfl,_,_,rfl,rfl,?_⟩;exact bQJ rfl rfl (SqL.of u1) (by omega) (by rw[u2];show turn - 15<7;omega) λv a=>q _ _ M9.k (u3 v a)
   ·obtain⟨us,u1,u2,u3⟩:=N2.ex;refine⟨_,rfl,_,rfl,_,_,rfl,rfl,⟨by decide,by decide⟩,_,rfl,_,_,rfl,rfl,_,_,rfl,rfl,(show(0:Int)<6 by decide),?_⟩;exact bQJ rfl rfl (SqL.of u1) (md0 (by decide)) (by rw[u2];exact md1 (by decide)) λv a=>q _ _ N2.k (u3 v a)
  refine⟨_,rfl,rfl,_,rfl,?_⟩;cases j5:decide (V.int turn=V.int 15)with
  |false=>exact onF rfl (onF rfl (l _ _ ⟨m,rfl,k1⟩))
  |true=>
  refine onT rfl ⟨_,rfl,z0,λpn e3=>⟨D,pn,_,rfl,rfl,SqL.of ((yG e3 (.lst [])) _ _ a9),SqL.of yB,_,rfl,?_⟩⟩;have B:=yG e3 (.lst []);generalize upd H1 pn (.lst [])=H4 at B ⊢;by_cases u:free= []
  ·subst u;exact onF rfl (onF rfl (l _ _ ⟨m,rfl,k1.trans B⟩))
  refine onT (by cases free with|nil=>exact absurd rfl u|cons=>rfl) ⟨_,rfl,_,_,rfl,rfl,(show(0:Int)<4 by decide),_,_,rfl,rfl,_,rfl,?_⟩;refine qB (λc=>?_) (λc=>l _ _ ⟨m,rfl,k1.trans B⟩);obtain⟨g',i1⟩:=aZX u g;have d6:=B _ _ a9;have b9:(0:Int)<((free.map λi=>V.int (i:Nat)).length:Nat):=by rw[bKT];have:=bY3.mpr u;omega
  refine⟨_,rfl,_,rfl,_,rfl,D,_,rfl,.inl (SqL.of d6),_,_,rfl,rfl,b9,D,_,_,_,rfl,rfl,SqL.of d6,i1,?_⟩;dsimp only[yX];exact l _ _ ⟨g',rfl,k1.trans B⟩
 refine⟨_,rfl,_,rfl,ra,rs,R,m,rfl,X,_,rfl,?_⟩;cases h1:Bk.zZ R m with
 |false=>exact onF rfl (l _ _ ⟨0,rfl,rfl⟩)
 |true=>
 obtain⟨i,r,rfl,j3,hi,a⟩:=Bk.z6 h1;obtain⟨b,Y,g2,cp,p,O⟩:=X.get hi;refine onT rfl ⟨_,rfl,_,rfl,ra,_,_,_,rfl,rfl,SqL.of X.lst,yS Y,b,_,1,_,rfl,rfl,SqL.of p,rfl,?_⟩;dsimp only[yX];exact l _ _ ⟨r.date,rfl,rfl⟩
end
end Law
namespace Law
open PySem L2 PyProof.Rows
open Bk (Row Rows xV xM Ans)
open Desk (xE wX uG Wf wI stV)
theorem bVP:bYy "max"=some (.builtin "max"):=dk
theorem bJi{c:TT}{t u:TS}{D:aW1}{σ:L2.St}{H:Hp}(I:Bool->Hp->Prop)(h:∀Kk:Bool->Hp->Prop,(∀b a,I b a->Kk b a)->c σ H Kk)(d:∀a,I true a->t D σ a)(e:∀a,I false a->u D σ a):bWO c t u D σ H:=
 h _ λb a i=>by
  cases b with
  |true=>exact onT rfl (d a i)
  |false=>exact onF rfl (e a i)
theorem bWs{c:TT}{t u r:TS}{D:aW1}{σ:L2.St}{H:Hp}(h:bWO c t u {D with nx:=r D} σ H):bWP (bWO c t u) r D σ H:=h
theorem p60:(0:Int)<10 ^ (60:Int).toNat:=dk
theorem c60:bKi 10 60:=⟨by decide,by decide,by decide⟩
abbrev aJD:Stmt:=xF "_law_deed_at"
def aVA:Sp:=λe H Q _=>∃ (b d:Nat)(f:List Nat)(R:Rows)(c:List Int)(k:Nat),e= [.ref b,.ref d,.int (k:Nat)]/\y7 H b f R/\R.length<=60/\H d=some (.lst (c.map V.int))/\k<c.length/\
 ∀ (a:Hp)(v:V),xA H a->wZ a v->Q v a
section
variable {K:bKP}
theorem aYM:yM ["_law_rows","_law_cells","_law_k","_law_near","_law_far","_law_turn","_law_number","_law_term","_law_date","_law_who","_law_twin","_law_base"] ["_law_rows","_law_cells","_law_k"] (yH aJD):=scM
seal PE PA PS PSs PT in
theorem aK1(T:vH mg)(Z:mg "int"=none)(a7:mg "max"=none)(X:FnG P w K mg base 2 "_law_good" ["_law_rows","_law_number"] Z3)(u:FnG P w K mg base 2 "_law_hanging" ["_law_rows","_law_cells","_law_k","_law_number"] aZL) (I:FnG P w K mg base 2 "_law_about" ["_law_rows","_law_cells","_law_k","_law_number","_law_turn"] aYX) (F:Fun K "_law_deed_at" "_law_deed_at" aJD f fd):y8 P w K mg base CX0 3 f fd ["_law_rows","_law_cells","_law_k"] aVA:=by
 have sc:=aYM;refine F.ok (k:=2) sc (λc4 A outer s H vs Q E hr h=>?_);obtain⟨D,g,rs,R,C,k,rfl,hB,hR,L,U,q⟩:=h;refine⟨_,(yC (yT (i:=3) (yL yK (pv 1) (yV y0 (yV x8 (pv 2) yE) (yU yQ rfl T.b_len xD (yA (pv 1) yD))))) (yC (yT (i:=4) (yL yK (pv 1) (yV y0 (yV x8 (pv 2) yE) (yU yQ rfl T.b_len xD (yA (pv 1) yD))))) (yC (yT (i:=5) (yV y0 (yV x8 (yL yK (pv 1) (pv 2)) (yV aVf yE (pv 2))) yE)) (yC (yT (i:=6) (yV y0 (yV x8 (pv 4) (pv 2)) (yU (aKa rfl) rfl a7 bVP (yA yE (yA (yU yQ rfl T.b_len xD (yA (pv 0) yD)) yD))))) (yC (y6 (yN x5 (yV y0 (yL yK (pv 1) (pv 2)) yE) yE) (yF (yT (i:=6) (yL yK (y3 (yA (aYe aZQ yE) (yA (yU yQ rfl T.b_len xD (yA (pv 0) yD)) (yA (yV aQi yE yE) (yA (yV wT (aYe aZQ yE) (yV y0 (pv 3) (yV aQi yE yE))) (yA (yV x8 (yU yQ rfl T.b_len xD (yA (pv 0) yD)) (yV y0 (pv 3) (yV aQi yE yE))) yD)))))) (yV y0 (pv 3) yE)))) yR) (yC (yT (i:=7) (yL yK (y3 (yA yE (yA yE (yA yE (yA yE (yA yE (yA yE yD))))))) (yV y0 (yV Y2 (pv 3) yE) yE))) (yC (y6 (yN x5 (yV y0 (yL yK (pv 1) (pv 2)) yE) yE) (yF (yT (i:=7) (yL yK (y3 (yA (aYe aZQ yE) (yA yE (yA (yV wT (aYe aZQ yE) (yV y0 (pv 4) (yV aQi yE yE))) (yA (yV y0 (pv 4) yE) yD))))) (yV y0 (pv 4) yE)))) yR) (yC (y6 (PW.pt (Z9 (yN vE (pv 5) yE) (jL (yN (aVd hr.units0) (pv 0) (y3 yD))))) (yC (yT (i:=8) (yV x8 (yV wT (yV y0 (pv 3) yE) yE) (yV aVf (yV aQi yE yE) (xT wQ rfl Z jH (yA (zG x5 (yV y0 (yL yK (pv 1) (pv 2)) yE) yE) yD))))) (yC (y6 (yN x5 (yV y0 (yL yK (pv 1) (pv 2)) yE) yE) (yF (yT (i:=8) (yL yK (y3 (yA (yV wT (yV y0 (pv 3) yE) yE) (yA (yV y0 (pv 3) (yV aQi yE yE)) (yA (yV wT yE (yV y0 (pv 3) (yV aQi yE yE))) yD)))) (yV y0 (pv 4) yE)))) yR) (yC (yT (i:=9) (yL yK (y3 (yA yO (yA yO (yA yO (yA yO yD))))) (yV y0 (pv 4) yE))) (yC (y6 (yN x5 (yV y0 (yL yK (pv 1) (pv 2)) yE) yE) (yC (yT (i:=10) (yV aQ4 (yV aQ4 (yV aQh yO (yV y0 (yL yK (pv 1) yE) yE)) yO) (yV aQh yO (yV wT yE (yV y0 (yL yK (pv 1) yE) yE))))) (yF (yT (i:=9) (yL yK (y3 (yA yO (yA (pv 10) (yA (yV aQh yO yE) yD)))) (yV y0 (pv 4) yE))))) yR) (yF (yP (xL (yA (yL yK (y3 (yA yO (yA yO yD))) (yV y0 (yV Y2 (pv 4) yE) yE)) (yA (pv 8) (yA (pv 9) (yA (pv 7) yD))))))))))) yR) (yC (y6 (yN vE (pv 5) yE) (yC (yT (i:=11) (yV y0 (pv 3) yE)) (yC (y6 (x3 (xJ X hr rfl (yA (pv 0) (yA (pv 6) yD)))) (yF (yT (i:=11) (yV wT (yV x8 (yL yK (yL yK (pv 0) (pv 6)) yE) (yV y0 (pv 3) (yL yK (y3 (yA yE (yA yE yD))) (xT wQ rfl Z jH (yA (zG x5 (yV y0 (yL yK (pv 1) (pv 2)) yE) yE) yD))))) yE))) yR) (yF (yP (xL (yA yO (yA (pv 6) (yA (pv 11) (yA (pv 7) yD))))))))) yR) (yC (y6 (yN vE (pv 5) yE) (yF (yP (xJ u hr rfl (yA (pv 0) (yA (pv 1) (yA (pv 2) (yA (pv 6) yD))))))) yR) (yF (yP (xJ I hr rfl (yA (pv 0) (yA (pv 1) (yA (pv 2) (yA (pv 6) (yA (pv 5) yD)))))))))))))))))),?_⟩;have W:C≠ []:=λz=>by rw[z]at U;simp at U
 have Y:(0:Int)<((C.map V.int).length:Nat):=by rw[bKT];have:=bY3.mpr W;omega
 have y:(C.map V.int)[k]? =some (.int C[k]):=by rw[bK7,bKM U];rfl
 have b5:(C.map V.int)[0]? =some (.int (C[0]'(by omega))):=by rw[bK7,bKM (by omega:0<C.length)];rfl
 obtain⟨l,a4⟩:=qV W ((k:Nat)+1);obtain⟨J,a8⟩:=qV W ((k:Nat)+2);refine⟨_,rfl,_,rfl,_,_,rfl,rfl,_,rfl,g,_,rfl,.inl (SqL.of L),_,_,rfl,rfl,Y,g,_,_,_,rfl,rfl,SqL.of L,a4,?_⟩;dsimp only[yX];refine⟨_,rfl,_,rfl,_,_,rfl,rfl,_,rfl,g,_,rfl,.inl (SqL.of L),_,_,rfl,rfl,Y,g,_,_,_,rfl,rfl,SqL.of L,a8,?_⟩;dsimp only[yX];refine⟨_,rfl,_,rfl,g,_,_,_,rfl,rfl,SqL.of L,yS y,_,rfl,_,_,rfl,rfl,.inl ⟨by decide,by decide⟩,_,_,rfl,rfl,_,_,rfl,rfl,(show(0:Int)<24 by decide),?_⟩;dsimp only[yX];obtain⟨turn,o⟩:∃turn:Int,turn=(C[k]+5*(k:Nat)) % 24:=⟨_,rfl⟩;have c6:0<=turn:=by rw[o];exact md0 (by decide)
 have b3:turn<24:=by rw[o];exact md1 (by decide)
 rw[<- o];refine⟨_,rfl,_,rfl,_,_,rfl,rfl,_,rfl,D,_,rfl,.inl (SqL.of hB.lst),_,_,rfl,_,_,rfl,rfl,?_,?_⟩
 ·show(0:Int)<(if _ then _ else _);split<;> omega
 dsimp only[yX];refine x4 (λe G=>∃m:Int,e= [some (.ref D),some (.ref g),some (.int (k:Nat)),some (.int l),some (.int J),some (.int turn),some (.int m),none,none,none,none,none]/\xA H G) ?jR (λa=>?_);case jR=>
  rintro e H1 ⟨m,rfl,k1⟩;refine⟨zn (by show 6<=100000;omega),λl6 c3=>⟨_,rfl,_,_,rfl,rfl,⟨by decide,by decide⟩,_,_,rfl,rfl,(show(0:Int)<6 by decide),?_⟩⟩;refine jK rfl rfl (SqL.of yB) (md0 (by decide)) (md1 (by decide)) (by simp) λt0 _=>?_;have k2:=k1.trans (yG c3 (.lst [.int 0,.int 2,.int 1,.int 5,.int 3,.int 7]));generalize upd H1 l6 (.lst [.int 0,.int 2,.int 1,.int 5,.int 3,.int 7])=H2 at k2 ⊢;have b7:=k2 _ _ L;dsimp only[yX];refine x4 (λe G=>∃t:Int,e= [some (.ref D),some (.ref g),some (.int (k:Nat)),some (.int l),some (.int J),some (.int turn),some (.int m),some (.int t),none,none,none,none]/\xA H G) ?rest2 (λa=>?_);case rest2=>
   rintro e H3 ⟨t,rfl,k3⟩;have c7:=k3 _ _ L;have b8:=hB.same k3;refine bWs (bJi (λb G=>xA H G) ?_ ?_ ?_)
   ·intro Kk hK;refine⟨_,rfl,_,_,rfl,rfl,_,rfl,?_⟩;refine qB (λc=>hK _ _ k3) (λc=>?_);exact⟨_,rfl,z0,λpn b4=>⟨D,pn,_,rfl,rfl,SqL.of ((yG b4 (.lst [])) _ _ b8.lst),SqL.of yB,_,rfl,hK _ _ (k3.trans (yG b4 _))⟩⟩
   ·intro H4 O;have B:=O _ _ L;refine⟨_,rfl,_,_,rfl,rfl,(show(0:Int)<20 by decide),_,_,rfl,rfl,_,_,rfl,rfl,⟨by decide,by decide,by decide⟩,_,rfl,_,rfl,g,_,_,_,rfl,rfl,SqL.of B,yS y,_,_,rfl,rfl,(show(0:Int)<37 by decide),rfl,.inr ⟨_,rfl,_,_,rfl,rfl,.inl ⟨dk,dk⟩,_,_,rfl,rfl,?_⟩⟩;dsimp only[yX];refine x4 (λe G=>∃d:Int,e= [some (.ref D),some (.ref g),some (.int (k:Nat)),some (.int l),some (.int J),some (.int turn),some (.int m),some (.int t),some (.int d),none,none,none]/\xA H G) ?rest3 (λa=>?_);case rest3=>
     rintro e H5 ⟨d,rfl,k5⟩;refine⟨zn (by show 4<=100000;omega),λl4 c1=>⟨_,rfl,_,_,rfl,rfl,(show(0:Int)<4 by decide),?_⟩⟩;refine Q5 rfl rfl (SqL.of yB) (md0 (by decide)) (md1 (by decide)) (by simp) λa6 _=>?_;have k6:=k5.trans (yG c1 (.lst [.str "ann",.str "bo",.str "ann",.str ""]));generalize upd H5 l4 (.lst [.str "ann",.str "bo",.str "ann",.str ""])=H6 at k6 ⊢;have a2:=k6 _ _ L;dsimp only[yX];refine x4 (λe G=>∃ (a0:Str)(b2:Option V),e= [some (.ref D),some (.ref g),some (.int (k:Nat)),some (.int l),some (.int J),some (.int turn),some (.int m),some (.int t),some (.int d),some (.str a0),b2,none]/\xA H G) ?rest4 (λa=>?_);case rest4=>
      rintro e H7 ⟨a0,b2,rfl,k7⟩;refine⟨z2,λl2 a3=>⟨_,rfl,_,_,rfl,rfl,⟨by decide,by decide⟩,_,_,rfl,rfl,(show(0:Int)<2 by decide),?_⟩⟩;refine Q5 rfl rfl (SqL.of yB) (md0 (by decide)) (md1 (by decide)) (by simp) λa1 a9=>?_;have hw:a1="in"\/a1="out":=by simpa using a9
      refine⟨_,rfl,_,rfl,_,rfl,z4,λp hp=>?_⟩;exact q _ _ ((k7.trans (yG a3 _)).trans (yG hp _)) ⟨p,.enter a1 d a0 t,rfl,yB,hw⟩
     refine⟨_,rfl,_,rfl,g,_,_,_,rfl,rfl,SqL.of a2,yS y,_,_,rfl,rfl,(show(0:Int)<13 by decide),rfl,_,rfl,?_⟩;refine qB (λc=>?_) (λc=>a _ _ ⟨a6,none,rfl,k6⟩);have S:∀x:Int,0<=x % 40/\x % 40<=39:=λx=>⟨md0 (by decide),by have:=md1 (x:=x) (n:=40) (by decide);omega⟩;refine⟨_,rfl,g,_,_,_,rfl,rfl,SqL.of a2,yS (j:=0) b5,_,_,rfl,rfl,(show(0:Int)<40 by decide),_,_,rfl,rfl,by decide,(S _).1,by have:=(S (C[0]'(by omega))).2;omega,λza c0=>?_⟩;refine⟨_,_,rfl,rfl,by rw[bYm];show za.length+1<=_;omega,?_⟩;refine⟨_,rfl,g,_,_,_,rfl,rfl,SqL.of a2,yS (j:=0) b5,_,_,rfl,rfl,(show(0:Int)<40 by decide),_,_,rfl,rfl,_,_,rfl,rfl,by decide,by have:=(S (C[0]'(by omega))).2;omega,by have:=(S (C[0]'(by omega))).1;omega,λzb d2=>?_⟩;have c9:(za++("y":Str)).length<=101:=by
      show(za.cps++_).size<=101;rw[Array.size_append];have:za.cps.size<=100:=c0;have:("y":Str).cps.size=1:=by decide
      omega
     refine⟨_,_,rfl,rfl,by rw[bYm];omega,?_⟩;dsimp only[yX];refine⟨_,rfl,_,_,rfl,rfl,by decide,by decide,by decide,λzc c8=>⟨z3,λl3 M=>⟨_,rfl,_,_,rfl,rfl,(show(0:Int)<3 by decide),?_⟩⟩⟩;refine Q5 rfl rfl (SqL.of yB) (md0 (by decide)) (md1 (by decide)) (by simp) λa5 _=>?_;dsimp only[yX];exact a _ _ ⟨a5,_,rfl,k6.trans (yG M _)⟩
    refine⟨_,rfl,_,rfl,g,_,_,_,rfl,rfl,SqL.of B,yS y,_,_,rfl,rfl,(show(0:Int)<37 by decide),rfl,_,rfl,?_⟩;refine qB (λc=>?_) (λc=>a _ _ ⟨_,rfl,O⟩);refine⟨_,rfl,_,_,rfl,rfl,(show(0:Int)<2001 by decide),_,_,rfl,rfl,_,rfl,_,_,rfl,rfl,c60,_,_,rfl,rfl,p60,_,rfl,_,_,rfl,rfl,c60,_,_,rfl,rfl,p60,_,_,rfl,rfl,z3,λl3 M=>⟨_,rfl,_,_,rfl,rfl,(show(0:Int)<3 by decide),?_⟩⟩;refine jK rfl rfl (SqL.of yB) (md0 (by decide)) (md1 (by decide)) (by simp) λd1 _=>?_;dsimp only[yX];exact a _ _ ⟨d1,rfl,O.trans (yG M _)⟩
   ·intro H4 O;have B:=O _ _ L;have N:=hB.same O;dsimp only[aWX];refine⟨_,rfl,_,_,rfl,rfl,_,rfl,?_⟩;refine qB (λc=>?_) (λc=>?_)
    ·refine⟨_,rfl,_,_,rfl,rfl,(show(0:Int)<20 by decide),?_⟩;dsimp only[yX];refine x4 (λe G=>∃bs:Int,e= [some (.ref D),some (.ref g),some (.int (k:Nat)),some (.int l),some (.int J),some (.int turn),some (.int m),some (.int t),none,none,none,some (.int bs)]/\xA H G) ?rest5 (λa=>?_);case rest5=>
      rintro e H5 ⟨bs,rfl,k5⟩;refine⟨_,rfl,_,rfl,_,rfl,z4,λp hp=>?_⟩;exact q _ _ (k5.trans (yG hp _)) ⟨p,.reply m bs t,rfl,yB,trivial⟩
     refine⟨_,rfl,_,rfl,D,rs,R,m,rfl,N,_,rfl,?_⟩;cases h1:Bk.zZ R m with
     |false=>exact onF rfl (a _ _ ⟨_,rfl,O⟩)
     |true=>
     obtain⟨i,r,rfl,c5,hi,hv⟩:=Bk.z6 h1;obtain⟨b,g1,g2,cp,g3,g4⟩:=N.get hi;refine onT rfl ⟨_,rfl,_,rfl,D,_,_,_,rfl,rfl,SqL.of N.lst,yS g1,b,_,1,_,rfl,rfl,SqL.of g3,rfl,_,rfl,z2,λl2 a3=>?_⟩;have e2:=yG a3 (.lst [.int 7,.int 3000]);have b6:=e2 _ _ B;refine⟨_,rfl,_,rfl,g,_,_,_,rfl,rfl,SqL.of b6,yS y,_,_,rfl,rfl,(show(0:Int)<11 by decide),rfl,.inr ⟨_,rfl,?_⟩⟩;refine jK rfl rfl (SqL.of yB) b0 b1 (by simp) λj hj=>?_;have d0:j=7\/j=3000:=by simpa using hj
     refine⟨_,_,rfl,rfl,(show(0:Int)<j by omega),_,_,rfl,rfl,_,_,rfl,rfl,?_⟩;dsimp only[yX];exact a _ _ ⟨_,rfl,O.trans e2⟩
    ·have c:¬turn<12:=of_decide_eq_false (Bool.eq_false_iff.mpr c);refine⟨_,rfl,_,_,rfl,rfl,_,rfl,?_⟩;refine qB (λc2=>?_) (λc2=>?_)
     ·exact⟨_,rfl,_,rfl,_,rfl,_,rfl,D,g,rs,R,C,k,m,rfl,N,hR,B,W,λG v k5 hd=>q _ _ (O.trans k5) hd⟩
     ·have c2:¬turn<15:=of_decide_eq_false (Bool.eq_false_iff.mpr c2);exact⟨_,rfl,_,rfl,_,rfl,_,rfl,_,rfl,D,g,rs,R,C,k,m,turn,rfl,N,hR,B,U,by omega,b3,λG v k5 hd=>q _ _ (O.trans k5) hd⟩
  refine⟨_,rfl,_,rfl,g,_,_,_,rfl,rfl,SqL.of b7,yS y,_,_,rfl,rfl,(show(0:Int)<29 by decide),rfl,_,rfl,?_⟩;refine qB (λc=>?_) (λc=>a _ _ ⟨t0,rfl,k2⟩);refine⟨_,rfl,_,rfl,_,rfl,_,_,rfl,rfl,c60,_,_,rfl,rfl,p60,_,_,rfl,rfl,_,rfl,_,_,rfl,rfl,(show(0:Int)<990 by decide),z4,λl3 M=>⟨_,rfl,_,_,rfl,rfl,(show(0:Int)<4 by decide),?_⟩⟩;refine jK rfl rfl (SqL.of yB) (md0 (by decide)) (md1 (by decide)) (by simp) λt1 _=>?_;dsimp only[yX];exact a _ _ ⟨t1,rfl,k2.trans (yG M _)⟩
 refine⟨_,rfl,_,rfl,g,_,_,_,rfl,rfl,SqL.of L,yS y,_,_,rfl,rfl,(show(0:Int)<23 by decide),rfl,_,rfl,?_⟩;refine qB (λc=>?_) (λc=>a _ _ ⟨_,rfl,xA.refl _⟩);refine⟨_,rfl,_,rfl,D,_,rfl,.inl (SqL.of hB.lst),_,_,rfl,rfl,⟨by decide,by decide,by decide⟩,_,rfl,_,rfl,_,_,rfl,rfl,c60,_,_,rfl,rfl,p60,_,_,rfl,rfl,_,rfl,D,_,rfl,.inl (SqL.of hB.lst),_,rfl,_,_,rfl,rfl,c60,_,_,rfl,rfl,p60,_,_,rfl,rfl,zn (by show 5<=100000;omega),λl5 b9=>⟨_,rfl,_,_,rfl,rfl,(show(0:Int)<5 by decide),?_⟩⟩;refine jK rfl rfl (SqL.of yB) (md0 (by decide)) (md1 (by decide)) (by simp) λm1 _=>?_;dsimp only[yX];exact a _ _ ⟨m1,rfl,yG b9 _⟩
end
end Law
namespace Law
open PySem L2 PyProof.Rows
open Bk (Row Rows xV xM Ans)
open Desk (xE wX uG Wf Up Run wF uM)
abbrev aVr:Stmt:=xF "_law_story"
def aJW:Sp:=λc H Q _=>∃ (k:Nat)(f:List Int),c= [.ref k]/\H k=some (.lst (f.map V.int))/\f.length<=40/\
 ∀ (b:Hp)(t h j:Nat)(g:List Nat)(d:List xM)(c:List V)(i:List Ans)(R:Rows)(S:List Int),xA H b->b t=some (.tup [.ref h,.ref j])->wF b h g d->b j=some (.lst c)->bYH (λv a=>wX [] b a v) c i->Run [] [] d i R S->(∀e∈d,Wf e)->d.length<=f.length+3->Q (.ref t) b
theorem Mid.start{H k f o:Hp}{n sa ds us:Nat}(g:LGo H n sa [] [] k [])(i:List xM)(a:List Nat)(l:xA k f)(p:k ds=none)(s:f ds=some (.lst (a.map V.ref)))(m:xA f o)(c:f us=none)(y:o us=some (.lst []))(v:∀e∈i,Wf e)(len:a.length=i.length) (q:∀ (j:Nat)(d:Nat)(e:xM),a[j]? =some d->i[j]? =some e->f d=some (.tup (xE e))):Mid H n sa ds us i a 0 o:=by
 have ne:ds≠us:=λz=>by rw[<- z,s]at c;cases c
 obtain⟨R,S,t,_⟩:=g.ex;have d1:∀ {x},k x=none->x≠n/\x≠sa:=λ{x} h=>⟨λz=>(by rw[z,t.book.lst]at h;cases h),λz=>(by rw[z,t.shut]at h;cases h)⟩;refine⟨ne,v,len,λj d e u w=>m _ _ (q j d e u w),[],[],[],(g.same l).same m,⟨m _ _ s,g.keep.fresh p,(d1 p).1,(d1 p).2,by simp,λb r=>by simp at r⟩,⟨y,g.keep.fresh (l.fresh c),(d1 (l.fresh c)).1,(d1 (l.fresh c)).2,by simp,λb r=>by simp at r⟩,.nil⟩
section
variable {K:bKP}
theorem bXT:yM ["_law_cells","_law_rows","_law_shut","_law_deeds","_law_dues","_law_k","_law_deed"] ["_law_cells"] (yH aVr):=scM
theorem bQQ:xH ["_law_cells","_law_rows","_law_shut","_law_deeds","_law_dues","_law_k","_law_deed"] (yH aVr) "_law_deed" ["_law_rows","_law_shut"] [1,2] {kind:= .function,names:= [(".0",.local),("_law_deed",.local),("_law_done_by",.globalImplicit),("_law_rows",.free),("_law_shut",.free)],isGenerator:=false,isCoroutine:=false,more:= [] }:=
 lcM
seal PE PA PS PSs PT in
theorem bXk(T:vH mg)(l:FnG P w K mg base 5 "_law_done_by" ["_law_rows","_law_shut","_law_deed"] aQ9)(B:FnG P w K mg base 5 "_law_deed_at" ["_law_rows","_law_cells","_law_k"] aVA)(F:Fun K "_law_story" "_law_story" aVr f fd):y8 P w K mg base CX0 6 f fd ["_law_cells"] aJW:=by
 have sc:=bXT;refine F.ok (k:=5) sc (λd1 A outer s H vs Q E hr h=>?_);obtain⟨ca,ns,rfl,hc,hn,q⟩:=h;refine⟨_,(yC (yT (i:=1) (y3 yD)) (yC (yT (i:=2) (y3 yD)) (yC (yT (i:=3) (y3 yD)) (yC (yT (i:=4) (y3 yD)) (yC (y6 (PW.pt (vP (yN (u4 hr.units0) (pv 0) (y3 yD)) (wU (yN x5 (yV y0 (yL yK (pv 0) yE) yE) yE)))) (yC (yT (i:=3) (y3 (yA (xL (yA yO (yA yE (yA yO (yA yE yD))))) (yA (xL (yA yO (yA yE (yA yE (yA yE yD))))) (yA (xL (yA yO (yA yE (yA yE yD)))) yD))))) (yF (aZx (i:=4) bQQ rfl sc.nd rfl rfl (xI (pv 3)) (λ_ _ _ _ _=>z7) (λ_ _ _ _ _=>(xJ l hr rfl (yA (pv 1) (yA (pv 2) (yA (pv 0) yD)))))))) yR) (yC (wE bYI rfl (zN rfl T.b_range (yA (yU yQ rfl T.b_len xD (yA (pv 0) yD)) yD)) (y9 (i:=5)) (yC (yT (i:=6) (xJ B hr rfl (yA (pv 1) (yA (pv 0) (yA (pv 5) yD))))) (yC (yY (uF bYn bYt bYu xG (pv 3) (yA (pv 6) yD))) (yF (yY (uF bYn bYt bYu xG (pv 4) (yA (xJ l hr rfl (yA (pv 1) (yA (pv 2) (yA (pv 6) yD)))) yD))))))) (yF (yP (xL (yA (pv 3) (yA (pv 4) yD))))))))))),?_⟩;refine⟨z0,λU c2=>?_⟩;dsimp only[yX];refine⟨z0,λW c6=>?_⟩;dsimp only[yX];have g0:=LGo.start c2 c6;generalize upd (upd H U (.lst [])) W (.lst [])=H2 at g0 ⊢;refine⟨z0,λC b4=>?_⟩;dsimp only[yX];refine⟨z0,λG b1=>?_⟩;dsimp only[yX];have k3:=yG b4 (.lst []);have k4:=yG b1 (.lst []);have M0:Mid H U W C G [] [] 0 (upd (upd H2 C (.lst [])) G (.lst [])):=Mid.start g0 [] [] k3 b4 yB k4 b1 yB (λe h=>by simp at h) rfl (λj d e h=>by simp at h);have gk:=g0.same (k3.trans k4);generalize upd (upd H2 C (.lst [])) G (.lst [])=H4 at M0 gk k4 ⊢;have b3:=M0.keep _ _ hc;refine x4 (λσ' H'=>∃ (C G:Nat)(x:List xM)(b:List Nat),σ'= [some (.ref ca),some (.ref U),some (.ref W),some (.ref C),some (.ref G),none,none]/\Mid H U W C G x b x.length H'/\x.length<=3) ?jR (λa5=>?_);case jR=>
  rintro σ' H5 ⟨C,G,x,b,rfl,M5,h3⟩;refine⟨_,rfl,ca,_,rfl,.inl (SqL.of (M5.keep _ _ hc)),?_⟩;rw[bKT];refine⟨_,rfl,by omega,by omega,?_⟩;rw[bYq];refine vK (λt σ H6=>∃ (x:List xM)(b:List Nat)(o5 o6:Option V),σ= [some (.ref ca),some (.ref U),some (.ref W),some (.ref C),some (.ref G),o5,o6]/\Mid H U W C G x b x.length H6/\x.length<=3+t) ?_ ?_ ?_
  ·exact⟨x,b,none,none,rfl,M5,by omega⟩
  ·rintro k σ H6 hk ⟨x,b,o5,o6,rfl,X,c7⟩;rw[cXK];dsimp only[yX];obtain⟨rs,as,vs,g6,s6,u6,p6⟩:=X.ex;obtain⟨R,S,hL,hu,c0,N⟩:=g6.ex;have b9:=hu.r;rw[bYR]at b9;refine⟨_,rfl,_,rfl,_,rfl,U,ca,rs,R,ns,k,rfl,hL.book,by omega,X.keep _ _ hc,hk,λH7 v k7 b8=>?_⟩;obtain⟨p,e,rfl,hp,hw⟩:=b8;dsimp only[yX];have M7:=X.same k7;have b0:=k7 _ _ s6.at_;refine⟨_,rfl,.inl ⟨rfl,_,SqL.of b0⟩,_,rfl,C,_,_,rfl,rfl,b0,zlt (by rw[bKT,X.len];omega),?_⟩;have el:b.map V.ref++ [V.ref p]=(b++ [p]).map V.ref:=by simp
   rw[el];have M8:=M7.push rfl hp hw;generalize upd H7 C (.lst ((b++ [p]).map V.ref))=H8 at M8 ⊢;obtain⟨d3,d0,d2,g8,s8,u8,p8⟩:=M8.ex;have Z:(b++ [p])[x.length]? =some p:=by rw[<- X.len,bYc (bKU _),bY6];rfl
   have Y:(x++ [e])[x.length]? =some e:=by rw[bYc (bKU _),bY6];rfl
   refine⟨_,rfl,.inl ⟨rfl,_,SqL.of u8.at_⟩,_,rfl,_,rfl,_,rfl,M8.next (by omega) Z Y λv H9 ws _ a8 c1 M9=>⟨G,_,_,rfl,rfl,a8,zlt (by omega),x++ [e],b++ [p],_,_,rfl,?_,by rw[bYh];simp;omega⟩⟩;rw[bYh];exact M9
  ·rintro σ H6 ⟨x,b,o5,o6,rfl,X,c7⟩;refine⟨_,rfl,_,rfl,z2,λt ht=>?_⟩;have k6:=yG ht (.tup [.ref C,.ref G]);have M7:=X.same k6;obtain⟨rs,as,vs,g7,s7,u7,p7⟩:=M7.ex;obtain⟨R,S,hL,hu,c0,N⟩:=g7.ex;rw[bYR]at N;exact q _ t C G b x vs as R S M7.keep yB ⟨s7.at_,M7.len,M7.at_⟩ u7.at_ (uM (λv a z=>vS z λp u n e=>⟨by simp,e⟩) p7) N M7.wf (by omega)
 refine⟨_,rfl,z0,λpn b5=>⟨ca,pn,_,rfl,rfl,SqL.of ((yG b5 (.lst [])) _ _ b3),SqL.of yB,_,rfl,?_⟩⟩;have k5:=yG b5 (.lst []);generalize upd H4 pn (.lst [])=H5 at k5 ⊢;have a6:∀H',xA H4 H'->_:=λH' k=>a5 [some (.ref ca),some (.ref U),some (.ref W),some (.ref C),some (.ref G),none,none] H' ⟨C,G,[],[],rfl,M0.same k,by simp⟩;by_cases a0:ns= []
 ·subst a0;exact onF rfl (onF rfl (a6 _ k5))
 have c9:(ns.map V.int)[0]? =some (.int (ns[0]'(bY3.mpr a0))):=by rw[bK7,bKM (bY3.mpr a0)];rfl
 refine onT (by cases ns with|nil=>exact absurd rfl a0|cons=>rfl) ⟨_,rfl,ca,_,_,_,rfl,rfl,SqL.of (k5 _ _ b3),yS (j:=0) c9,_,_,rfl,rfl,(show(0:Int)<5 by decide),rfl,_,rfl,?_⟩;refine qB (λc=>?_) (λc=>a6 _ k5);refine⟨z4,λI b7=>⟨z4,λJ c8=>⟨z3,λL b6=>⟨z3,λdl b2=>?_⟩⟩⟩⟩;have a1:=yG b7 (.tup (xE (.enter "in" 4 "ann" 2)));have a2:=yG c8 (.tup (xE (.reply 0 4 1)));have a3:=yG b6 (.tup (xE (.hang 0 1)));have a4:=yG b2 (.lst ([I,J,L].map V.ref));have g5:=((gk.same k5).same a1).same (a2.trans a3);have e1:=a4 _ _ (a3 _ _ (a2 _ _ (yB (H:=H5) (a:=I) (o:= .tup (xE (.enter "in" 4 "ann" 2))))));have e2:=a4 _ _ (a3 _ _ (yB (H:=upd H5 I (.tup (xE (.enter "in" 4 "ann" 2)))) (a:=J) (o:= .tup (xE (.reply 0 4 1)))));have e3:=a4 _ _ (yB (H:=upd (upd H5 I (.tup (xE (.enter "in" 4 "ann" 2)))) J (.tup (xE (.reply 0 4 1)))) (a:=L) (o:= .tup (xE (.hang 0 1))));have e4:=yB (H:=upd (upd (upd H5 I (.tup (xE (.enter "in" 4 "ann" 2)))) J (.tup (xE (.reply 0 4 1)))) L (.tup (xE (.hang 0 1)))) (a:=dl) (o:= .lst ([I,J,L].map V.ref));have c4:∀D,upd (upd (upd (upd H5 I (.tup (xE (.enter "in" 4 "ann" 2)))) J (.tup (xE (.reply 0 4 1)))) L (.tup (xE (.hang 0 1)))) dl (.lst ([I,J,L].map V.ref)) D=none->Mid H U W dl D [.enter "in" 4 "ann" 2,.reply 0 4 1,.hang 0 1] [I,J,L] 0 (upd (upd (upd (upd (upd H5 I (.tup (xE (.enter "in" 4 "ann" 2)))) J (.tup (xE (.reply 0 4 1)))) L (.tup (xE (.hang 0 1)))) dl (.lst ([I,J,L].map V.ref))) D (.lst [])):=λD hD=>by
  refine Mid.start g5 _ _ a4 b2 e4 (yG hD (.lst [])) hD yB (λe he=>?_) rfl (λj d e Z Y=>?_)
  ·simp only[bKW,List.mem_nil_iff,or_false]at he;rcases he with rfl|rfl|rfl
   ·exact .inl rfl
   ·trivial
   ·trivial
  ·match j,Z,Y with
   |0,Z,Y=>cases Z;cases Y;exact e1
   |1,Z,Y=>cases Z;cases Y;exact e2
   |2,Z,Y=>cases Z;cases Y;exact e3
 dsimp only[yX];refine⟨_,rfl,dl,rfl,⟨_,SqL.of e4⟩,λD hD=>?_⟩;have X:=c4 D hD;refine⟨λi m ys H'=>m=3 - i/\i<=3/\H' D=some (.lst ys)/\Mid H U W dl D [.enter "in" 4 "ann" 2,.reply 0 4 1,.hang 0 1] [I,J,L] i H',⟨3,rfl,by omega,yB,X⟩,?_⟩;rintro i m ys H' ⟨rfl,hi,a9,M⟩;refine⟨a9,?_⟩;obtain⟨rs,as,vs,g,s1,s2,p⟩:=M.ex;by_cases O:i<3
 ·have a7:([I,J,L]:List Nat)[i]? =some ([I,J,L][i]'(by simpa using O)):=bKM (by simpa using O);have c3:([.enter "in" 4 "ann" 2,.reply 0 4 1,.hang 0 1]:List xM)[i]? =some (([.enter "in" 4 "ann" 2,.reply 0 4 1,.hang 0 1]:List xM)[i]'(by simpa using O)):=bKM (by simpa using O);refine .inr ⟨⟨_,_,SqL.of s1.at_,by rw[bK7,a7];rfl⟩,λv H7 yl=>?_⟩;obtain⟨rfl,y⟩:=yl;have hv:=y _ (SqL.of s1.at_);rw[bK7,a7]at hv;cases hv;refine⟨_,rfl,_,rfl,_,rfl,?_⟩;refine M.next (by omega) a7 c3 λv H8 ws c5 a8 c1 M8=>?_;have ey:ys=ws:=by rw[c5]at a9;cases a9;rfl
  subst ey;exact⟨by rw[bYm];omega,a8,3 - (i+1),by omega,rfl,O,yB,M8⟩
 ·have:i=3:=by omega
  subst this;refine .inl ⟨⟨_,SqL.of s1.at_,by simp⟩,?_⟩;exact a5 _ _ ⟨dl,D,_,_,rfl,M,by simp⟩
end
end Law
namespace Alike
open PySem L2 PyProof.Rows
open Law (xF)
abbrev aYm:Stmt:=xF "_law_alike"
abbrev bJ3:Stmt:=xF "_law_room"
abbrev aYE:Stmt:=xF "_law_whole"
theorem xD:bYy "len"=some (.builtin "len"):=dk
theorem xN:bYy "isinstance"=some (.builtin "isinstance"):=dk
theorem jH:bYy "int"=some (.type "int"):=dk
theorem bZo:bYy "str"=some (.type "str"):=dk
theorem bZ3:bYy "bool"=some (.type "bool"):=dk
theorem vC:bYy "list"=some (.type "list"):=dk
theorem vT:bYy "tuple"=some (.type "tuple"):=dk
structure vH(mg:Str->Option bKN):Prop where
 b_len:mg "len"=none
 b_sorted:mg "sorted"=none
 b_isinstance:mg "isinstance"=none
 b_int:mg "int"=none
 b_str:mg "str"=none
 b_bool:mg "bool"=none
 b_list:mg "list"=none
 b_tuple:mg "tuple"=none
 b_range:mg "range"=none
def bQd:Sp:=λa H Q _=>∃n,a= [.int n]/\Q (.bl true) H
def bZO(K:bKP):Sp:=λc H Q _=>∃ (a:Nat)(b:List Int)(x y:Int),c= [.ref a,.int x,.int y]/\SqL K H a (b.map V.int)/\b.length<=63/\Q (.int x) H
section
variable {K:bKP}
theorem bXX:yM ["_law_found"] ["_law_found"] (yH aYE):=scM
theorem bXo(T:vH mg)(F:Fun K "_law_whole" "_law_whole" aYE f fd):y8 P w K mg base CX0 1 f fd ["_law_found"] bQd:=by
 have a:=bXX;refine F.ok (k:=0) a (λb A outer s H c Q E d h=>?_);obtain⟨n,rfl,q⟩:=h;refine⟨_,(yF (yP (aVj (yU w9 rfl T.b_isinstance xN (yA (pv 0) (yA (vF (v:= .ty "int") rfl T.b_int jH rfl) yD))) (aZu (bZF (yU w9 rfl T.b_isinstance xN (yA (pv 0) (yA (vF (v:= .ty "bool") rfl T.b_bool bZ3 rfl) yD)))))))),?_⟩;refine⟨_,rfl,_,"int",_,_,rfl,.int n,aV3 _,_,rfl,onT rfl ?_⟩;exact⟨_,rfl,_,"bool",_,_,rfl,.int n,aJa _,_,rfl,q⟩
theorem bVg:yM ["_law_script","_law_most","_law_bound"] ["_law_script","_law_most","_law_bound"] (yH bJ3):=scM
theorem bJF(T:vH mg)(F:Fun K "_law_room" "_law_room" bJ3 f fd):y8 P w K mg base CX0 1 f fd ["_law_script","_law_most","_law_bound"] (bZO K):=by
 have d:=bVg;refine F.ok (k:=0) d (λe A outer s H j Q E i h=>?_);obtain⟨a,g,x,y,rfl,b,c,q⟩:=h;refine⟨_,(yC (y6 (yN aQV (yU yQ rfl T.b_len xD (yA (pv 0) yD)) yE) (yF (yP (pv 2))) yR) (yF (yP (pv 1)))),?_⟩;refine⟨_,rfl,a,_,rfl,.inl b,_,_,rfl,rfl,_,rfl,onF ?_ ⟨_,rfl,q⟩⟩;rw[bKT];exact decide_eq_false (by omega)
end
def Sq(K:bKP)(H:Hp)(a:Nat)(xs:List V):Prop:=H a=some (.lst xs)\/H a=some (.tup xs)
theorem Sq.same{K:bKP}{H b:Hp}{a:Nat}{xs:List V}(k:xA H b)(h:Sq K H a xs):Sq K b a xs:=h.imp (k _ _) (k _ _)
theorem Sq.ix{K:bKP}{H:Hp}{a:Nat}{xs:List V}{i:Nat}{v:V}{Q:VK}(h:Sq K H a xs)(e:xs[i]? =some v)(q:Q v H):rIx K (.ref a) (.int (i:Int)) H Q:=by
 rcases h with h|h
 ·exact .inl ⟨a,xs,_,v,rfl,rfl,SqL.of h,yS e,q⟩
 ·exact .inr (.inl ⟨a,xs,_,v,rfl,rfl,SqT.of h,yS e,q⟩)
def zQ:List (Nat×Dt)->Nat
 |[]=>0
 |q::r=>q.2.size+zQ r
theorem xU:∀a b:List (Nat×Dt),zQ (a++b)=zQ a+zQ b
 |[],b=>by simp[zQ]
 |q::r,b=>by rw[cZl];show q.2.size+zQ (r++b)=q.2.size+zQ r+zQ b;rw[xU r b];omega
theorem jX:∀ {a:List (Nat×Dt)} {ds:List Dt},a.map (·.2)=ds->zQ a=zW ds
 |[],[],_=>by simp[zQ,zW]
 |q::r,d::ds,h=>by rw[bYx]at h;cases h;show q.2.size+zQ r=q.2.size+zW (r.map (·.2));rw[jX rfl]
 |[],_::_,h=>by cases h
 |_::_,[],h=>by cases h
theorem aQJ:∀qs:List (Nat×Dt),qs.length<=zQ qs
 |[]=>bKU _
 |q::r=>by
  have:=aQJ r;have a:1<=q.2.size:=by cases q.2<;> simp[Dt.size]
  show r.length+1<=q.2.size+zQ r;omega
theorem aQb:∀ds:List Dt,ds.length<=zW ds
 |[]=>bKU _
 |d::r=>by
  have:=aQb r;have a:1<=d.size:=by cases d<;> simp[Dt.size]
  show r.length+1<=d.size+zW r;omega
theorem aYV{α:Type}:∀ {l:List α},l≠ []->∃a b,l=a++ [b]
 |[],h=>absurd rfl h
 |[x],_=>⟨[],x,rfl⟩
 |x::y::r,_=>by obtain⟨i,l,e⟩:=aYV (l:=y::r) (by simp);exact⟨x::i,l,by rw[e];rfl⟩
theorem wV{a H:Hp}{c:Nat}{o:HO}(k:xA a H)(h:a c=none):xA a (upd H c o):=λb u q=>by rw[yI (yJ q h)];exact k b u q
mutual
def nb:Dt->Bool
 |.bl _=>false
 |.lst a=>nbs a
 |.tup a=>nbs a
 |.non=>true
 |.int _=>true
 |.str _=>true
def nbs:List Dt->Bool
 |[]=>true
 |d::r=>nb d && nbs r
end
theorem aJh:∀ {ds:List Dt} {i:Nat} (h:i<ds.length),nbs ds=true->nb ds[i]=true
 |d::r,0,h,e=>by unfold nbs at e;rw[Bool.and_eq_true]at e;exact e.1
 |d::r,i+1,h,e=>by unfold nbs at e;rw[Bool.and_eq_true]at e;exact aJh (ds:=r) (by simpa using h) e.2
def bZZ(a H:Hp)(q:Nat×Dt):Prop:=∃x y,H q.1=some (.tup [x,y])/\Is a x q.2/\Is a y q.2/\nb q.2=true
theorem bZZ.keep{b H d:Hp}{q:Nat×Dt}(p:bZZ b H q)(k:∀a c,H a=some (.tup c)->d a=some (.tup c)):bZZ b d q:=let ⟨x,y,h,r⟩:=p;⟨x,y,k _ _ h,r⟩
theorem aXN{H:Hp}{p:Nat}{o:HO}(h:H p=none):∀a b,H a=some (.tup b)->upd H p o a=some (.tup b):=λa b e=>by rw[yI (yJ e h)];exact e
theorem jZ{H:Hp}{p:Nat}{c:List V}{o:HO}(h:H p=some (.lst c)):∀a b,H a=some (.tup b)->upd H p o a=some (.tup b):=λa b e=>by rw[yI (aQR e h (by intro z;cases z))];exact e
def WU(c:Hp)(v u:V)(b:Nat)(m:Nat)(σ:L2.St)(H:Hp):Prop:=∃a l r k,σ= [some v,some u,some (.ref b),l,r,k]/\xA c H/\H b=some (.lst (a.map λq=> .ref q.1))/\(∀q∈a,bZZ c H q)/\m=zQ a/\zQ a<=50000
def aYY:Sp:=λb H Q _=>∃v u d,b= [v,u]/\Is H v d/\Is H u d/\nb d=true/\d.size<=50000/\∀a,xA H a->Q (.bl true) a
section
variable {K:bKP}
theorem bXD:yM ["_law_found","_law_due","_law_todo","_law_one","_law_other","_law_k"] ["_law_found","_law_due"] (yH aYm):=scM
seal PE PA PS PSs PT in
theorem bQ4(T:vH mg)(O:FnG P w K mg base 1 "_law_whole" ["_law_found"] bQd)(F:Fun K "_law_alike" "_law_alike" aYm f fd):y8 P w K mg base CX0 2 f fd ["_law_found","_law_due"] aYY:=by
 have sc:=bXD;refine F.ok (k:=1) sc (λc4 A outer s H0 vs Q E hr h=>?_);obtain⟨v,u,d,rfl,hv,hu,c0,hd,q⟩:=h;refine⟨_,(yC (yT (i:=2) (y3 (yA (xL (yA (pv 0) (yA (pv 1) yD))) yD))) (yC (u9 bYI (yN (u4 hr.units0) (pv 2) (y3 yD)) (yC (vO (bZD bYn PySem.F.slot_list_pop PySem.F.type_list_pop bZB (pv 2)) (aVl rfl (zE (y9 (i:=3)) (zE (y9 (i:=4)) aXr)))) (yF (y6 (x3 (yU aW9 rfl T.b_isinstance xN (yA (pv 4) (yA (xL (yA (vF (v:= .ty "list") rfl T.b_list vC rfl) (yA (vF (v:= .ty "tuple") rfl T.b_tuple vT rfl) yD))) yD)))) (yC (y6 (yN aZs (yU w9 rfl T.b_isinstance xN (yA (pv 3) (yA (vF (v:= .ty "list") rfl T.b_list vC rfl) yD))) (yU w9 rfl T.b_isinstance xN (yA (pv 4) (yA (vF (v:= .ty "list") rfl T.b_list vC rfl) yD)))) (yF (yP qL)) yR) (yC (y6 (yN aZs (yU w9 rfl T.b_isinstance xN (yA (pv 3) (yA (vF (v:= .ty "tuple") rfl T.b_tuple vT rfl) yD))) (yU w9 rfl T.b_isinstance xN (yA (pv 4) (yA (vF (v:= .ty "tuple") rfl T.b_tuple vT rfl) yD)))) (yF (yP qL)) yR) (yC (y6 (yN aZs (yU yQ rfl T.b_len xD (yA (pv 3) yD)) (yU yQ rfl T.b_len xD (yA (pv 4) yD))) (yF (yP qL)) yR) (yF (wE bYI rfl (zN rfl T.b_range (yA (yU yQ rfl T.b_len xD (yA (pv 4) yD)) yD)) (y9 (i:=5)) (yF (yY (uF bYn bYt bYu xG (pv 2) (yA (xL (yA (yL bZw (pv 3) (pv 5)) (yA (yL bZw (pv 4) (pv 5)) yD))) yD))))))))) (yF (y6 (yN aVe (pv 4) x9) (yF (y6 (yN wG (pv 3) x9) (yF (yP qL)) yR)) (yF (y6 (x3 (yU w9 rfl T.b_isinstance xN (yA (pv 4) (yA (vF (v:= .ty "str") rfl T.b_str bZo rfl) yD)))) (yF (y6 (PW.pt (Z9 (uB (x3 (yU w9 rfl T.b_isinstance xN (yA (pv 3) (yA (vF (v:= .ty "str") rfl T.b_str bZo rfl) yD))))) (jL (yN aZs (pv 3) (pv 4))))) (yF (yP qL)) yR)) (yF (y6 (PW.pt (Z9 (uB (x3 (xJ O hr rfl (yA (pv 3) yD)))) (jL (yN aZs (pv 3) (pv 4))))) (yF (yP qL)) yR)))))))))) (yF (yP qL)))),?_⟩;refine⟨_,rfl,_,rfl,z2,λp0 b3=>⟨z1,λt b1=>?_⟩⟩;have a1:H0 t=none:=(yG b3 _).fresh b1;refine⟨WU H0 v u t,⟨d.size,[(p0,d)],none,none,none,rfl,wV (yG b3 _) a1,yB,?_,by simp[zQ],by simpa[zQ]using hd⟩,?_⟩
 ·intro q B;rw[bK4.mp B];exact⟨v,u,aXN b1 _ _ yB,hv,hu,c0⟩
 rintro m σ H ⟨qs,l,r,k,rfl,hk,hT,hP,rfl,a7⟩;refine⟨_,rfl,z0,λpn a5=>?_⟩;have c3:pn≠t:=bYv (yJ hT a5);have a0:upd H pn (.lst []) t=some (.lst (qs.map λq=> .ref q.1)):=by rw[yI (bYv c3)];exact hT
 refine⟨t,pn,_,rfl,rfl,SqL.of a0,SqL.of yB,_,rfl,?_⟩;by_cases b4:qs= []
 ·subst b4;rw[if_neg (by decide)];exact q _ (hk.trans (yG a5 _))
 obtain⟨c,⟨lp,d⟩,rfl⟩:=aYV b4;rw[if_pos (by simp)];refine⟨λD I=>∃m',m'<zQ (c++ [(lp,d)])/\WU H0 v u t m' D I,λD I z=>z,?_⟩;obtain⟨x,y,b5,hx,hy,G⟩:=hP (lp,d) (by simp);have a9:((c++ [(lp,d)]).map λq=>V.ref q.1)[((c++ [(lp,d)]).map λq=>V.ref q.1).length - 1]? =some (.ref lp):=by simp
 have a8:((c++ [(lp,d)]).map λq=>V.ref q.1).dropLast=c.map λq=>V.ref q.1:=by simp
 have b0:∀a N,H a=some (.tup N)->upd (upd H pn (.lst [])) t (.lst (c.map λq=>V.ref q.1)) a=some (.tup N):=λa N e=>jZ a0 _ _ (aXN a5 _ _ e);refine⟨_,rfl,.inl ⟨rfl,_,SqL.of a0⟩,t,_,.ref lp,rfl,rfl,a0,a9,?_⟩;rw[a8];have L:xA H0 (upd (upd H pn (.lst [])) t (.lst (c.map λq=>V.ref q.1))):=wV (hk.trans (yG a5 _)) a1;have a4:upd (upd H pn (.lst [])) t (.lst (c.map λq=>V.ref q.1)) t=some (.lst (c.map λq=> .ref q.1)):=yB;have a3:∀q∈c,bZZ H0 (upd (upd H pn (.lst [])) t (.lst (c.map λq=>V.ref q.1))) q:=λq B=>(hP q (by simp[B])).keep b0;have a6:=b0 _ _ b5;generalize c6:upd (upd H pn (.lst [])) t (.lst (c.map λq=>V.ref q.1))=H2 at L a4 a3 a6 ⊢;refine⟨lp,[x,y],rfl,SqT.of a6,rfl,x,[y],rfl,y,[],rfl,rfl,?_⟩;have c5:1<=d.size:=by cases d<;> simp[Dt.size]
 have c7:zQ c+d.size<=50000:=by rw[xU]at a7;simpa[zQ]using a7
 have hm:zQ c<zQ (c++ [(lp,d)]):=by rw[xU];simp[zQ];omega
 have fin:∀H3,(∀b o,H2 b=some o->H3 b=some o)->∃m',m'<zQ (c++ [(lp,d)])/\WU H0 v u t m' [some v,some u,some (.ref t),some x,some y,k] H3:=λH3 k3=>
  ⟨zQ c,hm,c,some x,some y,k,rfl,L.trans k3,k3 _ _ a4,λq B=>(a3 q B).keep λa N e=>k3 _ _ e,rfl,by omega⟩
 refine⟨_,rfl,z2,λp1 b6=>?_⟩;have j:xA H2 (upd H2 p1 (.tup [.ty "list",.ty "tuple"])):=yG b6 _;cases d with
 |non=>
  have ex:x= .non:=by unfold Is at hx;exact hx
  have ey:y= .non:=by unfold Is at hy;exact hy
  subst ex;subst ey;refine⟨_,p1,"list","tuple",_,_,_,rfl,SqT.of yB,.non,Z8 _,Y0 _,_,rfl,onF rfl ?_⟩;refine⟨_,rfl,rfl,_,rfl,onT rfl ?_⟩;refine⟨_,rfl,rfl,_,rfl,onF rfl ?_⟩;exact fin _ j
 |bl b=>unfold nb at G;cases G
 |int n=>
  have ex:x= .int n:=by unfold Is at hx;exact hx
  have ey:y= .int n:=by unfold Is at hy;exact hy
  subst ex;subst ey;refine⟨_,p1,"list","tuple",_,_,_,rfl,SqT.of yB,.int n,aJb _,aZf _,_,rfl,onF rfl ?_⟩;refine⟨_,rfl,rfl,_,rfl,onF rfl ?_⟩;refine⟨_,rfl,_,"str",_,_,rfl,.int n,aV4 _,_,rfl,onF rfl ?_⟩;refine⟨_,rfl,n,rfl,_,rfl,onF rfl ⟨_,rfl,_,rfl,rfl,_,rfl,onF (by simp) ?_⟩⟩;exact fin _ j
 |str z=>
  have ex:x= .str z:=by unfold Is at hx;exact hx
  have ey:y= .str z:=by unfold Is at hy;exact hy
  subst ex;subst ey;refine⟨_,p1,"list","tuple",_,_,_,rfl,SqT.of yB,.str z,aJc _,aZg _,_,rfl,onF rfl ?_⟩;refine⟨_,rfl,rfl,_,rfl,onF rfl ?_⟩;refine⟨_,rfl,_,"str",_,_,rfl,.str z,aQ2 _,_,rfl,onT rfl ?_⟩;refine⟨_,rfl,_,"str",_,_,rfl,.str z,aQ2 _,_,rfl,onF rfl ⟨_,rfl,_,rfl,rfl,_,rfl,onF (by simp) ?_⟩⟩;exact fin _ j
 |lst g=>
  unfold Is at hx hy;obtain⟨a,N,rfl,ha,S⟩:=hx;obtain⟨b,ys,rfl,hb,Z⟩:=hy;have lx:=S.length;have ly:=Z.length;have a2:=L _ _ ha;have R:=L _ _ hb;have c2:zW g+1<=50000:=by
   have:Dt.size (.lst g)=1+zW g:=by simp[Dt.size]
   omega
  have b8:g.length<=zW g:=aQb g;have G:nbs g=true:=by unfold nb at G;exact G
  refine⟨_,p1,"list","tuple",_,_,_,rfl,SqT.of yB,.lst (j _ _ R),uK _,vV _,_,rfl,onT rfl ?_⟩;refine⟨_,rfl,_,"list",_,_,rfl,.lst (j _ _ a2),uK _,_,rfl,_,"list",_,_,rfl,.lst (j _ _ R),uK _,rfl,_,rfl,onF rfl ?_⟩;refine⟨_,rfl,_,"tuple",_,_,rfl,.lst (j _ _ a2),vV _,_,rfl,_,"tuple",_,_,rfl,.lst (j _ _ R),vV _,rfl,_,rfl,onF rfl ?_⟩;refine⟨_,rfl,a,_,rfl,.inl (SqL.of (j _ _ a2)),_,rfl,b,_,rfl,.inl (SqL.of (j _ _ R)),rfl,_,rfl,onF (by simp[lx,ly]) ?_⟩;refine⟨_,rfl,b,_,rfl,.inl (SqL.of (j _ _ R)),_,rfl,by omega,by omega,?_⟩;have X:Dt.size (.lst g)=1+zW g:=by simp[Dt.size]
  generalize b7:upd H2 p1 (.tup [.ty "list",.ty "tuple"])=H3 at j ⊢;refine vK (λi D I=>∃ (C:List (Nat×Dt))(kk:Option V),D= [some v,some u,some (.ref t),some (.ref a),some (.ref b),kk]/\xA H0 I/\I t=some (.lst ((c++C).map λq=> .ref q.1))/\(∀q∈c++C,bZZ H0 I q)/\C.map (·.2)=g.take i) ?_ ?_ ?_
  ·exact⟨[],k,rfl,L.trans j,by rw[bYY];exact j _ _ a4,λq B=>(a3 q (by simpa using B)).keep λa N e=>j _ _ e,rfl⟩
  ·rintro i D I hi ⟨C,kk,rfl,Y,W,h3,U⟩;have J:i<g.length:=by rw[<- ly];omega
   obtain⟨xi,ex,ix⟩:=S.get (bKM J);obtain⟨yi,ey,iy⟩:=Z.get (bKM J);show bQg _ _ _ _;have sa:Sq K I a N:=Sq.same Y (.inl ha);have sb:Sq K I b ys:=Sq.same Y (.inl hb);refine⟨_,rfl,.inl ⟨rfl,_,SqL.of W⟩,_,rfl,_,rfl,?_⟩;rw[cXK];refine sa.ix ex ⟨_,rfl,_,rfl,?_⟩;refine sb.ix ey ⟨z2,λp hp=>?_⟩;have c1:C.length=i:=by have:=congrArg cXh U;simp at this;omega
   have b9:=aQJ c;have M:upd I p (.tup [xi,yi]) t=some (.lst ((c++C).map λq=> .ref q.1)):=by rw[yI (yJ W hp)];exact W
   refine⟨t,_,.ref p,rfl,rfl,M,zlt (by simp;omega),C++ [(p,g[i])],_,rfl,wV (Y.trans (yG hp _)) a1,?_,?_,?_⟩
   ·rw[yB];simp
   ·intro q B;rw[<- cQZ,bYs]at B;rcases B with B|B
    ·exact(h3 q B).keep λa N e=>jZ M _ _ (aXN hp _ _ e)
    ·rw[bK4.mp B];exact⟨xi,yi,jZ M _ _ yB,ix,iy,aJh J G⟩
   ·rw[cQT,U,bY0,bKM J];rfl
  ·rintro D I ⟨C,kk,rfl,Y,W,h3,U⟩;have e1:g.take ((ys.length:Nat):Int).toNat=g:=by rw[bYq,ly,bYR]
   rw[e1]at U;have e2:=jX U;refine⟨zQ (c++C),?_,c++C,some (.ref a),some (.ref b),kk,rfl,Y,W,h3,rfl,?_⟩
   ·rw[xU,xU,e2];simp[zQ,X]
   ·rw[xU,e2];omega
 |tup g=>
  unfold Is at hx hy;obtain⟨a,N,rfl,ha,S⟩:=hx;obtain⟨b,ys,rfl,hb,Z⟩:=hy;have lx:=S.length;have ly:=Z.length;have a2:=L _ _ ha;have R:=L _ _ hb;have c2:zW g+1<=50000:=by
   have:Dt.size (.tup g)=1+zW g:=by simp[Dt.size]
   omega
  have b8:g.length<=zW g:=aQb g;have G:nbs g=true:=by unfold nb at G;exact G
  refine⟨_,p1,"list","tuple",_,_,_,rfl,SqT.of yB,.tup (j _ _ R),vW _,vD _,_,rfl,onT rfl ?_⟩;refine⟨_,rfl,_,"list",_,_,rfl,.tup (j _ _ a2),vW _,_,rfl,_,"list",_,_,rfl,.tup (j _ _ R),vW _,rfl,_,rfl,onF rfl ?_⟩;refine⟨_,rfl,_,"tuple",_,_,rfl,.tup (j _ _ a2),vD _,_,rfl,_,"tuple",_,_,rfl,.tup (j _ _ R),vD _,rfl,_,rfl,onF rfl ?_⟩;refine⟨_,rfl,a,_,rfl,.inr (SqT.of (j _ _ a2)),_,rfl,b,_,rfl,.inr (SqT.of (j _ _ R)),rfl,_,rfl,onF (by simp[lx,ly]) ?_⟩;refine⟨_,rfl,b,_,rfl,.inr (SqT.of (j _ _ R)),_,rfl,by omega,by omega,?_⟩;have X:Dt.size (.tup g)=1+zW g:=by simp[Dt.size]
  generalize b7:upd H2 p1 (.tup [.ty "list",.ty "tuple"])=H3 at j ⊢;refine vK (λi D I=>∃ (C:List (Nat×Dt))(kk:Option V),D= [some v,some u,some (.ref t),some (.ref a),some (.ref b),kk]/\xA H0 I/\I t=some (.lst ((c++C).map λq=> .ref q.1))/\(∀q∈c++C,bZZ H0 I q)/\C.map (·.2)=g.take i) ?_ ?_ ?_
  ·exact⟨[],k,rfl,L.trans j,by rw[bYY];exact j _ _ a4,λq B=>(a3 q (by simpa using B)).keep λa N e=>j _ _ e,rfl⟩
  ·rintro i D I hi ⟨C,kk,rfl,Y,W,h3,U⟩;have J:i<g.length:=by rw[<- ly];omega
   obtain⟨xi,ex,ix⟩:=S.get (bKM J);obtain⟨yi,ey,iy⟩:=Z.get (bKM J);show bQg _ _ _ _;have sa:Sq K I a N:=Sq.same Y (.inr ha);have sb:Sq K I b ys:=Sq.same Y (.inr hb);refine⟨_,rfl,.inl ⟨rfl,_,SqL.of W⟩,_,rfl,_,rfl,?_⟩;rw[cXK];refine sa.ix ex ⟨_,rfl,_,rfl,?_⟩;refine sb.ix ey ⟨z2,λp hp=>?_⟩;have c1:C.length=i:=by have:=congrArg cXh U;simp at this;omega
   have b9:=aQJ c;have M:upd I p (.tup [xi,yi]) t=some (.lst ((c++C).map λq=> .ref q.1)):=by rw[yI (yJ W hp)];exact W
   refine⟨t,_,.ref p,rfl,rfl,M,zlt (by simp;omega),C++ [(p,g[i])],_,rfl,wV (Y.trans (yG hp _)) a1,?_,?_,?_⟩
   ·rw[yB];simp
   ·intro q B;rw[<- cQZ,bYs]at B;rcases B with B|B
    ·exact(h3 q B).keep λa N e=>jZ M _ _ (aXN hp _ _ e)
    ·rw[bK4.mp B];exact⟨xi,yi,jZ M _ _ yB,ix,iy,aJh J G⟩
   ·rw[cQT,U,bY0,bKM J];rfl
  ·rintro D I ⟨C,kk,rfl,Y,W,h3,U⟩;have e1:g.take ((ys.length:Nat):Int).toNat=g:=by rw[bYq,ly,bYR]
   rw[e1]at U;have e2:=jX U;refine⟨zQ (c++C),?_,c++C,some (.ref a),some (.ref b),kk,rfl,Y,W,h3,rfl,?_⟩
   ·rw[xU,xU,e2];simp[zQ,X]
   ·rw[xU,e2];omega
end
end Alike
namespace Alike
open PySem L2 PyProof.Rows
open Bk (Row Rows xV xM Ans)
open Desk (xE wX stV xZ)
def vDt:V->Dt
 |.int n=> .int n
 |.str x=> .str x
 |_=> .non
def aZU(v:V):Prop:=v= .non\/(∃n,v= .int n)\/∃x,v= .str x
theorem aZU.is{H:Hp}{v:V}(h:aZU v):Is H v (vDt v):=by
 rcases h with rfl|⟨n,rfl⟩|⟨x,rfl⟩
 ·show Is H .non .non;unfold Is;rfl
 ·show Is H (.int n) (.int n);unfold Is;rfl
 ·show Is H (.str x) (.str x);unfold Is;rfl
theorem vU{H:Hp}:∀ {xs:List V},(∀v∈xs,aZU v)->zK H xs (xs.map vDt)
 |[],_=>by show zK H [] [];unfold zK;trivial
 |x::xs,h=>by show zK H (x::xs) (vDt x::xs.map vDt);unfold zK;exact⟨(h x bK2).is,vU λv a=>h v (bKY _ a)⟩
theorem wB{H:Hp}{α:Type}{F:V->α->Prop}{g:α->Dt}(c:∀v a,F v a->Is H v (g a)):∀ {vs:List V} {b:List α},bYH F vs b->zK H vs (b.map g)
 |_,_,.nil=>by show zK H [] [];unfold zK;trivial
 |_,_,.cons r t=>by rw[bYx];unfold zK;exact⟨c _ _ r,wB c t⟩
theorem bW3(v:V):nb (vDt v)=true:=by cases v<;> (unfold vDt;unfold nb;rfl)
theorem jQ{α:Type}{g:α->Dt}(h:∀a,nb (g a)=true):∀l:List α,nbs (l.map g)=true
 |[]=>by show nbs []=true;unfold nbs;rfl
 |a::l=>by rw[bYx];unfold nbs;rw[h a,jQ h l];rfl
theorem aVX(e:xM):∀v∈xE e,aZU v:=by cases e<;> simp[xE,aZU]
theorem aVH(r:Row):∀v∈stV r,aZU v:=by
 intro v a;unfold stV at a;simp only[bKW,List.mem_nil_iff,or_false]at a;rcases a with rfl|rfl|rfl|rfl|rfl|rfl
 ·exact .inr (.inr ⟨_,rfl⟩)
 ·exact .inr (.inl ⟨_,rfl⟩)
 ·exact .inr (.inr ⟨_,rfl⟩)
 ·exact .inr (.inl ⟨_,rfl⟩)
 ·cases r.link with
  |none=>exact .inl rfl
  |some j=>exact .inr (.inl ⟨_,rfl⟩)
 ·unfold Desk.qX;split
  ·exact .inl rfl
  ·exact .inr (.inr ⟨_,rfl⟩)
def X3(e:xM):Dt:= .tup ((xE e).map vDt)
def uC:Ans->Dt
 |.num n=> .int n
 |.txt x=> .str x
 |.nums l=> .lst (l.map λi=> .int (i:Nat))
 |.txts l=> .lst (l.map .str)
 |.row r=> .tup ((stV r).map vDt)
def jW(r:Row):Dt:=if r.void then .str "void" else .tup ((stV r).map vDt)
theorem aKv{H:Hp}{p:Nat}{xs:List V}(h:H p=some (.tup xs))(k:∀v∈xs,aZU v):Is H (.ref p) (.tup (xs.map vDt)):=by
 unfold Is;exact⟨p,xs,rfl,h,vU k⟩
theorem bJj{H:Hp}{p:Nat}{e:xM}(h:H p=some (.tup (xE e))):Is H (.ref p) (X3 e):=aKv h (aVX e)
theorem bZv{o:List Nat}{H:Hp}{a:Ans}{v:V}(h:wX o H a v):Is H v (uC a):=by
 cases a with
 |num n=>show Is H v (.int n);unfold Is;exact h
 |txt x=>show Is H v (.str x);unfold Is;exact h
 |nums l=>
  obtain⟨p,e,_,q⟩:=h;show Is H v (.lst (l.map λi=> .int (i:Nat)));unfold Is;refine⟨p,_,e,q,?_⟩;have:=vU (H:=H) (xs:=l.map λi=>V.int (i:Nat)) λv b=>by obtain⟨i,_,rfl⟩:=bYQ.mp b;exact .inr (.inl ⟨_,rfl⟩)
  rw[cQ6]at this;exact this
 |txts l=>
  obtain⟨p,e,_,q⟩:=h;show Is H v (.lst (l.map .str));unfold Is;refine⟨p,_,e,q,?_⟩;have:=vU (H:=H) (xs:=l.map V.str) λv b=>by obtain⟨i,_,rfl⟩:=bYQ.mp b;exact .inr (.inr ⟨_,rfl⟩)
  rw[cQ6]at this;exact this
 |row r=>obtain⟨p,e,_,q⟩:=h;subst e;exact aKv q (aVH r)
theorem aJ7{H:Hp}{r:Row}{v:V}(h:xZ H r v):Is H v (jW r):=by
 unfold xZ at h;unfold jW;split
 ·rename_i e;rw[if_pos e]at h;unfold Is;exact h
 ·rename_i e;rw[if_neg e]at h;obtain⟨p,e,q⟩:=h;subst e;exact aKv q (aVH r)
theorem bJs(e:xM):nb (X3 e)=true:=by unfold X3 nb;exact jQ bW3 _
theorem bV4(a:Ans):nb (uC a)=true:=by
 cases a with
 |num n=>show nb (.int n)=true;unfold nb;rfl
 |txt x=>show nb (.str x)=true;unfold nb;rfl
 |nums l=>show nb (.lst (l.map λi=> .int (i:Nat)))=true;unfold nb;exact jQ (λi=>by unfold nb;rfl) l
 |txts l=>show nb (.lst (l.map .str))=true;unfold nb;exact jQ (λi=>by unfold nb;rfl) l
 |row r=>show nb (.tup ((stV r).map vDt))=true;unfold nb;exact jQ bW3 _
theorem bQZ(r:Row):nb (jW r)=true:=by
 unfold jW;split
 ·unfold nb;rfl
 ·unfold nb;exact jQ bW3 _
end Alike
namespace Alike
open PySem L2 PyProof.Rows
open Bk (Row Rows xV xM Ans)
open Desk (xE wX stV xZ Up Run)
theorem W5:∀ (n:Nat)(l:List Nat),l.Nodup->(∀k∈l,k<n)->l.length<=n
 |0,l,_,h=>by
  cases l with
  |nil=>exact bKU _
  |cons a r=>exact absurd (h a bK2) (cQw _)
 |n+1,l,nd,h=>by
  by_cases d:n∈l
  ·have:=W5 n (l.erase n) (nd.erase n) λk b=>by
    have c:=(cZ6 nd).mp b;have e:=h k c.2;have f:=c.1;omega
   rw[cZ7 d]at this;omega
  ·have:=W5 n l nd λk b=>by
    have e:=h k b;have f:k≠n:=λz=>d (by rw[<- z];exact b);omega
   omega
theorem wO{α:Type}{g:α->Dt}(h:∀a,(g a).size=1):∀l:List α,zW (l.map g)=l.length
 |[]=>by simp[zW]
 |a::l=>by rw[bYx];show(g a).size+zW (l.map g)=l.length+1;rw[h a,wO h l];omega
theorem aVt{α:Type}{g:α->Dt}{c:Nat}:∀ (l:List α),(∀a∈l,(g a).size<=c)->zW (l.map g)<=l.length*c
 |[],_=>by simp[zW]
 |a::l,h=>by rw[bYx,bYM,Nat.succ_mul];show(g a).size+zW (l.map g)<=_;have e:=h a bK2;have f:=aVt l λb d=>h b (bKY _ d);omega
theorem bQl(v:V):(vDt v).size=1:=by cases v<;> simp[vDt,Dt.size]
theorem aKj(e:xM):(X3 e).size<=5:=by
 have h:(X3 e).size=1+zW ((xE e).map vDt):=by unfold X3;simp[Dt.size]
 rw[h,wO bQl];cases e<;> simp[xE]
theorem aWV(r:Row):(jW r).size<=7:=by
 unfold jW;split
 ·simp[Dt.size]
 ·have h:Dt.size (.tup ((stV r).map vDt))=1+zW ((stV r).map vDt):=by simp[Dt.size]
  rw[h,wO bQl];simp[stV]
theorem bVw{R:Rows}(t:Bk.uT R){k:Nat}:(Bk.thr R k).length<=R.length:=by
 obtain⟨d,o,a,b⟩:=Bk.Z4 t k;refine W5 _ _ (a.imp λ{x y} h z=>?_) λj c=>((b j).mp c).1;rw[z,Stree.vB]at h;cases h
theorem bWc{R:Rows}{S:List Int}{d:Int}{a:Bool}{l:List Nat}(h:Bk.bZk R S d a l):l.length<=R.length:=by
 refine W5 _ _ (h.ord.imp λ{x y} h z=>?_) λj b=>((h.mem j).mp b).1;rw[z,Stree.wK]at h;cases h
theorem aQf(l:List Nat):(uC (.nums l)).size=1+l.length:=by
 have h:(uC (.nums l)).size=1+zW (l.map λi=>Dt.int (i:Nat)):=by unfold uC;simp[Dt.size]
 rw[h,wO (λi=>by simp[Dt.size])]
theorem bQp{t:Nat}{R j:Rows}{S l:List Int}{e:xM}{a:Ans}(h:xV R S e a j l)(g:Bk.qP R)(f:Up t R S):(uC a).size<=t+7:=by
 have d:∀x:Str,(uC (.txt x)).size=1:=λx=>by unfold uC;simp[Dt.size]
 have b:∀n:Int,(uC (.num n)).size=1:=λn=>by unfold uC;simp[Dt.size]
 have m:=f.r;cases h<;> (try rw[d])<;> (try rw[b])<;> try omega
 case state hk hv=>
  rename_i k r;have h:(uC (.row r)).size=1+zW ((stV r).map vDt):=by unfold uC;simp[Dt.size]
  rw[h,wO bQl];simp[stV]
 case thread hk hv=>
  rename_i k r;rw[aQf];have:=bVw g.tree (k:=k);omega
 case copies hk hv=>
  rename_i k r;have h:(uC (.txts r.copies)).size=1+zW (r.copies.map Dt.str):=by unfold uC;simp[Dt.size]
  rw[h,wO (λi=>by simp[Dt.size])];have:=f.c r (bK5 hk);omega
 case letters=>
  rw[aQf];refine bYo (Nat.add_le_add_left (bYK _ _) 1) ?_;rw[bYD];omega
 case on h=>
  rw[aQf];have:=bWc h;omega
theorem aZB:∀ (n:Nat) {b:List xM} {j:List Ans} {c:Rows} {i:List Int},b.length=n->(∀e∈b,Desk.Wf e)->Run [] [] b j c i->Up n c i/\Bk.qP c/\∀a∈j,(uC a).size<=n+7
 |0,b,j,c,i,hn,hw,h=>by
  rcases h.inv with⟨_,rfl,rfl,rfl⟩|⟨_,_,_,_,_,_,rfl,_⟩
  ·exact⟨⟨bKU _,bKU _,λr h=>by simp at h⟩,Bk.aXc,λa h=>by simp at h⟩
  ·simp at hn
 |n+1,b,j,c,i,hn,hw,h=>by
  rcases h.inv with⟨rfl,_⟩|⟨s,e,p,a,z,y,rfl,rfl,g,d⟩
  ·simp at hn
  ·obtain⟨l,m,u⟩:=aZB n (by simpa using hn) (λe q=>hw e (cQG _ q)) g;have k:=hw e (by simp);refine⟨l.done d,Bk.xV.book m (λv d w t o=>by subst o;exact k) d,λx f=>?_⟩;rcases bYs.mp f with f|f
   ·have:=u x f;omega
   ·rw[bK4.mp f];have:=bQp d m l;omega
end Alike
namespace Alike
open PySem L2 PyProof.Rows
open Bk (Row Rows xV xM Ans)
open Desk (xE wX stV xZ Up Run wF Wf aQE X2)
open Law (xF LGo LBk aJW aQ9 uO)
open Thr (z9)
theorem aJ5{H:Hp}{α:Type}{g:α->Dt}:∀ {vs:List V} {b:List α},vs.length=b.length->(∀ (i:Nat) v a,vs[i]? =some v->b[i]? =some a->Is H v (g a))->zK H vs (b.map g)
 |[],[],_,_=>by show zK H [] [];unfold zK;trivial
 |v::vs,a::b,hl,h=>by rw[bYx];unfold zK;exact⟨h 0 v a rfl rfl,aJ5 (by simpa using hl) λi v a c d=>h (i+1) v a c d⟩
 |[],_::_,hl,_=>by simp at hl
 |_::_,[],hl,_=>by simp at hl
theorem aZb{H:Hp}{p:Nat}{vs:List V}{ds:List Dt}(h:H p=some (.lst vs))(k:zK H vs ds):Is H (.ref p) (.lst ds):=by
 unfold Is;exact⟨p,vs,rfl,h,k⟩
theorem aJ6{H:Hp}{ds:Nat}{b:List Nat}{f:List xM}(h:wF H ds b f):Is H (.ref ds) (.lst (f.map X3)):=
 aZb h.1 (aJ5 (by rw[bKT];exact h.2.1) λi v e a g=>by
  rw[bK7]at a;cases c:b[i]? with
  |none=>rw[c]at a;cases a
  |some d=>
   rw[c]at a;cases a;exact bJj (h.2.2 i d e c g))
theorem aKO{α:Type}{g:α->Dt}(h:∀a,nb (g a)=true)(l:List α):nb (.lst (l.map g))=true:=by unfold nb;exact jQ h l
theorem aXI{α:Type}{g:α->Dt}{c n:Nat}{l:List α}(h:∀a∈l,(g a).size<=c)(hl:l.length<=n):Dt.size (.lst (l.map g))<=1+n*c:=by
 have b:Dt.size (.lst (l.map g))=1+zW (l.map g):=by simp[Dt.size]
 have d:=aVt l h;have e:l.length*c<=n*c:=Nat.mul_le_mul_right _ hl;omega
theorem bVR(a:List Int)(b:Nat):aXe (a.map V.int) none (some (b:Int))=(a.take b).map V.int:=by
 unfold aXe;rw[HT.bXA,bJ0,List.drop_zero,Nat.sub_zero,List.map_take];by_cases c:b<=(a.map V.int).length
 ·rw[Nat.min_eq_left c]
 ·rw[Nat.min_eq_right (by omega),List.take_of_length_le (bKU _),List.take_of_length_le (by omega)]
abbrev bKc:Stmt:=xF "law"
def bX1(e:Nat)(K:bKP):Sp:=λc H Q _=>∃ (a:Nat)(b:List Int),c= [.ref a]/\SqL K H a (b.map V.int)/\b.length<=63/\z9 e H/\∀d,Q (.bl true) d
section
variable {K:bKP}
theorem bWq:yM ["_law_script","_law_deeds","_law_dues","_law_handed","_law_found","_law_rows","_law_shut","_law_deed","_law_due","_law_row"] ["_law_script"] (yH bKc):=scM
seal PE PA PS PSs PT in
theorem bWa(T:vH mg)(N:FnG P w K mg base n "_law_story" ["_law_cells"] aJW)(Y:FnG P w K mg base n "_law_room" ["_law_script","_law_most","_law_bound"] (bZO K))(j:FnG P w K mg base n "_law_alike" ["_law_found","_law_due"] aYY) (I:FnG P w K mg base n "_law_done_by" ["_law_rows","_law_shut","_law_deed"] aQ9) (G:FnG P w K mg base n "answers" ["deeds"] (aQE Rf)) (C:FnG P w K mg base n "standing" ["deeds"] (X2 Rf)) (F:Fun K "law" "law" bKc f fd):y8 P w K mg base CX0 (n+1) f fd ["_law_script"] (bX1 Rf.2 K):=by
 have sc:=bWq;refine F.ok (k:=n) sc (λe0 A outer s H0 vs Q E hr h=>?_);obtain⟨a,ns,rfl,hS,c0,hT,q⟩:=h;refine⟨_,(yC (vO (xJ N hr rfl (yA (aXq aJR (pv 0) aJu (aJv (xJ Y hr rfl (yA (pv 0) (yA yE (yA yE yD)))))) yD)) (aVl rfl (zE (y9 (i:=1)) (zE (y9 (i:=2)) aXr)))) (yC (yT (i:=3) (xT vA rfl T.b_list vC (yA (pv 1) yD))) (yC (yT (i:=4) (xJ G hr rfl (yA (pv 3) yD))) (yC (y6 (PW.pt (Z9 (uB (x3 (xJ j hr rfl (yA (pv 3) (yA (pv 1) yD))))) (jL (uB (x3 (xJ j hr rfl (yA (pv 4) (yA (pv 2) yD)))))))) (yF (yP qL)) yR) (yC (yT (i:=5) (y3 yD)) (yC (yT (i:=6) (y3 yD)) (yC (wE bYI rfl (xI (pv 1)) (y9 (i:=7)) (yF (yY (xJ I hr rfl (yA (pv 5) (yA (pv 6) (yA (pv 7) yD))))))) (yC (yT (i:=8) (y3 yD)) (yC (wE bYI rfl (xI (pv 5)) (y9 (i:=9)) (yF (yY (uF bYn bYt bYu xG (pv 8) (yA (yL yK (y3 (yA (xT qE rfl T.b_tuple vT (yA (aXq aJR (pv 9) aJu (aJv yE)) yD)) (yA yO yD))) (xT wQ rfl T.b_int jH (yA (yL yK (pv 9) yE) yD))) yD))))) (yF (yP (xJ j hr rfl (yA (xJ C hr rfl (yA (xT vA rfl T.b_list vC (yA (pv 1) yD)) yD)) (yA (pv 8) yD)))))))))))))),?_⟩;refine⟨_,rfl,_,rfl,a,ns,30,80,rfl,hS,c0,_,rfl,a,_,rfl,hS,λp hp=>?_⟩;have k0:=yG hp (.lst (aXe (ns.map V.int) none (some 30)));refine⟨p,ns.take 30,rfl,yB.trans (by rw[show(30:Int)=((30:Nat):Int)from rfl,bVR]),by rw[bY4];omega,λH1 t ds us y J vs as R S k1 ht hD c6 hP B Z a8=>?_⟩;have a1:J.length<=33:=by rw[bY4]at a8;omega
 have T1:=Desk.v7 hT (k0.trans k1);refine⟨t,[.ref ds,.ref us],rfl,SqT.of ht,rfl,.ref ds,[.ref us],rfl,.ref us,[],rfl,rfl,?_⟩;dsimp only[yX];refine⟨_,rfl,ds,_,rfl,.inl (SqL.of hD.1),λhl d1=>?_⟩;have k2:=yG d1 (.lst (y.map V.ref));have D2:wF (upd H1 hl (.lst (y.map V.ref))) hl y J:=⟨yB,hD.2.1,λi d e h1 h2=>k2 _ _ (hD.2.2 i d e h1 h2)⟩;have a9:=hD.same k2.t;have u2:=k2 _ _ c6;have P2:bYH (λv a=>wX [] (upd H1 hl (.lst (y.map V.ref))) a v) vs as:=Desk.uM (λv a z=>Law.vS z λp u n e=>⟨n,k2 _ _ e⟩) hP;have T2:=Desk.v7 T1 k2;generalize upd H1 hl (.lst (y.map V.ref))=H2 at k2 D2 a9 u2 P2 T2 ⊢;dsimp only[yX];refine⟨_,rfl,hl,y,J,rfl,D2,by omega,Z,T2,λl H3 ws bs R2 S2 k3 T3 a7 e8 d0 a0=>?_⟩;obtain⟨rfl,rfl,rfl⟩:=Run.det J.length rfl B a7;obtain⟨c1,_,c4⟩:=aZB J.length rfl Z B;dsimp only[yX];have D3:=D2.same k3;have b3:=a9.same k3;have P3:bYH (λv a=>wX [] H3 a v) vs as:=Desk.uM (λv a z=>by
  cases a with
  |num n=>exact z
  |txt x=>exact z
  |nums l=>obtain⟨p,e,n,q⟩:=z;exact⟨p,e,n,k3.lst q⟩
  |txts l=>obtain⟨p,e,n,q⟩:=z;exact⟨p,e,n,k3.lst q⟩
  |row r=>obtain⟨p,e,n,q⟩:=z;exact⟨p,e,n,k3.tup q⟩) P2
 have u3:=k3.lst u2;have d3:as.length<=33:=by rw[<- B.len];exact a1
 refine⟨_,rfl,_,rfl,.ref hl,.ref ds,.lst (J.map X3),rfl,aJ6 D3,aJ6 b3,aKO bJs _,bYo (aXI (n:=33) (c:=5) (λe _=>aKj e) a1) (by decide),λH4 k4=>⟨_,rfl,onF rfl ?_⟩⟩;have i1:Is H4 (.ref l) (.lst (as.map uC)):=aZb (k4 _ _ d0) (wB (F:=λv a=>wX [] H4 a v) (λv a z=>bZv z) (Desk.uM (λv a z=>Law.vS z λp u n e=>⟨n,k4 _ _ e⟩) a0));have i2:Is H4 (.ref us) (.lst (as.map uC)):=aZb (k4 _ _ u3) (wB (F:=λv a=>wX [] H4 a v) (λv a z=>bZv z) (Desk.uM (λv a z=>Law.vS z λp u n e=>⟨n,k4 _ _ e⟩) P3));refine⟨_,rfl,_,rfl,.ref l,.ref us,.lst (as.map uC),rfl,i1,i2,aKO bV4 _,bYo (aXI (n:=33) (c:=40) (λa ha=>by have:=c4 a ha;omega) d3) (by decide),λH5 k5=>⟨_,rfl,onF rfl ?_⟩⟩;have D5:=b3.same (k4.trans k5).t;have T5:=Desk.v7 T3 (k4.trans k5);refine⟨z0,λra c8=>?_⟩;dsimp only[yX];refine⟨z0,λsa d6=>?_⟩;dsimp only[yX];have g0:=LGo.start c8 d6;generalize upd (upd H5 ra (.lst [])) sa (.lst [])=H6 at g0 ⊢;refine⟨_,rfl,ds,rfl,⟨_,SqL.of (g0.keep _ _ D5.1)⟩,?_⟩;refine zI (xs:=y.map V.ref) (λt σ H7=>∃ (rs:List Nat)(cs:List Ans)(o7:Option V),σ= [some (.ref a),some (.ref ds),some (.ref us),some (.ref hl),some (.ref l),some (.ref ra),some (.ref sa),o7,none,none]/\LGo H5 ra sa (J.take t) cs H7 rs) ?_ ?_ ?_ ?_
 ·exact⟨[],[],none,rfl,g0⟩
 ·rintro t σ H7 ht ⟨rs,cs,o7,rfl,g⟩;exact SqL.of (g.keep _ _ D5.1)
 ·rintro t x σ H7 U ⟨rs,cs,o7,rfl,g⟩;rw[bK7]at U;cases hd:y[t]? with
  |none=>rw[hd]at U;cases U
  |some d=>
   rw[hd]at U;cases U;have X:t<J.length:=by rw[<- hD.2.1];exact(bKZ.mp hd).1
   have he:=bKM X;dsimp only[yX];refine⟨_,rfl,_,rfl,_,rfl,g.step (Z _ (cQO X)) (by rw[bY4];omega) (g.keep _ _ (D5.2.2 t d _ hd he)) λb v H8 d4 g8 st av nv=>?_⟩;have et:J.take (t+1)=J.take t++ [J[t]]:=by rw[bY0,he];rfl
   exact⟨d4,cs++ [b],_,rfl,by rw[et];exact g8⟩
 rintro σ H7 ⟨rs,cs,o7,rfl,g⟩;rw[bKT,hD.2.1,bYR]at g;obtain⟨R7,S7,hL,e9,f1,b4⟩:=g.ex;obtain⟨rfl,rfl,rfl⟩:=Run.det J.length rfl B b4;dsimp only[aWX];refine⟨z0,λdl b0=>?_⟩;dsimp only[yX];have k8:=yG b0 (.lst []);have c7:=hL.same k8;have b8:R.length<=33:=bYo c1.r a1;refine⟨_,rfl,ra,rfl,⟨_,SqL.of c7.book.lst⟩,?_⟩;refine zI (xs:=rs.map V.ref) (λt σ M=>∃ (ws:List V)(o9:Option V),σ= [some (.ref a),some (.ref ds),some (.ref us),some (.ref hl),some (.ref l),some (.ref ra),some (.ref sa),o7,some (.ref dl),o9]/\xA H7 M/\M dl=some (.lst ws)/\bYH (λv r=>xZ M r v) ws (R.take t)) ?_ ?_ ?_ ?_
 ·exact⟨[],none,rfl,k8,yB,.nil⟩
 ·rintro t σ M ht ⟨ws,o9,rfl,k9,D,L⟩;exact SqL.of (k9 _ _ hL.book.lst)
 ·rintro t x σ M U ⟨ws,o9,rfl,k9,D,L⟩;rw[bK7]at U;cases hb:rs[t]? with
  |none=>rw[hb]at U;cases U
  |some b=>
   rw[hb]at U;cases U;have X:t<R.length:=by rw[<- hL.book.len];exact(bKZ.mp hb).1
   have b5:=bKM X;obtain⟨W,e1,e2⟩:=hL.book.row t b _ hb b5;have b9:M b=some (.lst (uO R[t] W)):=k9 _ _ e1;have e7:ws.length=t:=by rw[cXc L,bY4];omega
   dsimp only[yX];refine⟨_,rfl,.inl ⟨rfl,_,SqL.of D⟩,_,rfl,_,rfl,b,_,rfl,SqL.of b9,λp2 d7=>⟨p2,_,rfl,.inl ⟨SqL.of yB,λO a0=>⟨z2,λl2 d5=>?_⟩⟩⟩⟩;have a2:=yG d7 (.lst (aXe (uO R[t] W) none (some 6)));have a3:=yG a0 (.tup (aXe (uO R[t] W) none (some 6)));have a4:=yG d5 (.lst [.ref O,.str "void"]);have aa:=(a2.trans a3).trans a4;have e3:=a4 _ _ (yB (H:=upd M p2 (.lst (aXe (uO R[t] W) none (some 6)))) (a:=O) (o:= .tup (aXe (uO R[t] W) none (some 6))));have e4:upd (upd (upd M p2 (.lst (aXe (uO R[t] W) none (some 6)))) O (.tup (aXe (uO R[t] W) none (some 6)))) l2 (.lst [.ref O,.str "void"]) l2=some (.lst [.ref O,.str "void"]):=yB;generalize upd (upd (upd M p2 (.lst (aXe (uO R[t] W) none (some 6)))) O (.tup (aXe (uO R[t] W) none (some 6)))) l2 (.lst [.ref O,.str "void"])=H10 at aa e3 e4 ⊢;have b7:=aa _ _ b9;have c3:atI [V.ref O,V.str "void"] (if R[t].void=true then 1 else 0)=some (if R[t].void=true then .str "void" else .ref O):=by cases R[t].void<;> rfl
   refine⟨_,rfl,b,_,6,_,rfl,rfl,SqL.of b7,rfl,.inr ⟨_,rfl,l2,_,_,_,rfl,rfl,SqL.of e4,c3,dl,_,_,rfl,rfl,aa _ _ D,zlt (by omega),?_⟩⟩;have a6:H7 dl=none:=b0;have c2:∀ys,xA H7 (upd H10 dl (.lst ys)):=λys x o e=>by rw[yI (yJ e a6)];exact aa _ _ (k9 _ _ e)
   have tk:∀ {x zs ys},M x=some (.tup zs)->upd H10 dl (.lst ys) x=some (.tup zs):=λ{x zs ys} e=>by rw[yI (λz=>by rw[z,D]at e;cases e)];exact aa _ _ e
   refine⟨ws++ [if R[t].void=true then .str "void" else .ref O],_,rfl,c2 _,yB,?_⟩;have et:R.take (t+1)=R.take t++ [R[t]]:=by rw[bY0,b5];rfl
   rw[et];refine Paired.snoc (Desk.uM (λv r z=>?_) L) ?_
   ·unfold xZ at z ⊢;split
    ·rename_i e;rw[if_pos e]at z;exact z
    ·rename_i e;rw[if_neg e]at z;obtain⟨p,e,q⟩:=z;exact⟨p,e,tk q⟩
   ·unfold xZ;cases hv:R[t].void with
    |true=>exact rfl
    |false=>
     have c5:aXe (uO R[t] W) none (some 6)=stV R[t]:=by unfold stV Desk.W0 Desk.qX;rw[hv];cases d2:R[t].link<;> (unfold uO;rw[d2];rfl)
     rw[c5]at e3;refine⟨O,rfl,?_⟩;rw[yI (λz=>by rw[z,aa _ _ D]at e3;cases e3)];exact e3
 rintro σ M ⟨ws,o9,rfl,k9,D,L⟩;rw[bKT,hL.book.len,bYR]at L;dsimp only[aWX];have D9:=D5.same (g.keep.trans k9).t;refine⟨_,rfl,ds,_,rfl,.inl (SqL.of D9.1),λp hp=>?_⟩;have kp:=yG hp (.lst (y.map V.ref));refine⟨p,y,J,rfl,⟨yB,hD.2.1,λi d e h1 h2=>kp _ _ (D9.2.2 i d e h1 h2)⟩,by omega,Z,Desk.v7 T5 ((g.keep.trans k9).trans kp),λm d8 e6 d9 R2 S2 b6 e5 b2 f0 a5 b1=>?_⟩;obtain⟨-,rfl, -⟩:=Run.det J.length rfl B b2;refine⟨_,rfl,.ref m,.ref dl,.lst (R.map jW),rfl,aZb a5 (wB (λv r z=>aJ7 z) b1),aZb (b6.lst (kp _ _ D)) (wB (F:=λv r=>xZ d8 r v) (λv r z=>aJ7 z) (Desk.uM (λv r z=>(z.same kp.t).same b6) L)),aKO bQZ _,bYo (aXI (n:=33) (c:=7) (λr _=>aWV r) b8) (by decide),λc9 _=>q c9⟩
end
end Alike
namespace Desk
open PySem L2 PyProof.Rows
section
variable {K:bKP}
abbrev aQu:Stmt:=xB "Refused" "__init__"
theorem aWC:yM ["self","words"] ["self","words"] (yH aQu):=scM
theorem aWi(F:Fun K "__init__" "Refused.__init__" aQu f fd):y8 P w K mg base CX0 (n+1) f fd ["self","words"] (wH K):=by
 have d:=aWC;refine F.ok (k:=n) d (λi A outer s H l Q E j h=>?_);obtain⟨e,C,tp,y,rfl,c,b,q⟩:=h;refine⟨_,(yF (bWg (pv 0) (pv 1) rfl)),?_⟩;exact⟨_,rfl,_,rfl,e,C,tp,rfl,c,b,λg a=>q g a⟩
abbrev Y7:Stmt:=xB "NoLetter" "__init__"
theorem aJI:yM ["self"] ["self"] (yH Y7):=scM
theorem aJj(a:aVM P w K mg base n "Refused" "__init__" ["self","words"] (wH K))(d:vR K C)(F:Fun K "__init__" "NoLetter.__init__" Y7 f fd):y8 P w K mg base CX0 (n+1) f fd ["self"] (zX K C "no letter"):=by
 have i:=aJI;refine F.ok (k:=n) i (λl A outer s H m Q E c h=>?_);obtain⟨e,tp,rfl,g,q⟩:=h;refine⟨_,(yF (yY (uN a c rfl (yA (pv 0) (yA yO yD))))),?_⟩;exact⟨_,rfl,e,C,tp,_,rfl,g,d,λj b=>q j b⟩
abbrev aXF:Stmt:=xB "NoTerm" "__init__"
theorem aYH:yM ["self"] ["self"] (yH aXF):=scM
theorem aKW(a:aVM P w K mg base n "Refused" "__init__" ["self","words"] (wH K))(d:vR K C)(F:Fun K "__init__" "NoTerm.__init__" aXF f fd):y8 P w K mg base CX0 (n+1) f fd ["self"] (zX K C "no term"):=by
 have i:=aYH;refine F.ok (k:=n) i (λl A outer s H m Q E c h=>?_);obtain⟨e,tp,rfl,g,q⟩:=h;refine⟨_,(yF (yY (uN a c rfl (yA (pv 0) (yA yO yD))))),?_⟩;exact⟨_,rfl,e,C,tp,_,rfl,g,d,λj b=>q j b⟩
abbrev aXE:Stmt:=xB "HasOne" "__init__"
theorem aYG:yM ["self"] ["self"] (yH aXE):=scM
theorem aKV(a:aVM P w K mg base n "Refused" "__init__" ["self","words"] (wH K))(d:vR K C)(F:Fun K "__init__" "HasOne.__init__" aXE f fd):y8 P w K mg base CX0 (n+1) f fd ["self"] (zX K C "has one"):=by
 have i:=aYG;refine F.ok (k:=n) i (λl A outer s H m Q E c h=>?_);obtain⟨e,tp,rfl,g,q⟩:=h;refine⟨_,(yF (yY (uN a c rfl (yA (pv 0) (yA yO yD))))),?_⟩;exact⟨_,rfl,e,C,tp,_,rfl,g,d,λj b=>q j b⟩
abbrev aQt:Stmt:=xB "HasNone" "__init__"
theorem aWB:yM ["self"] ["self"] (yH aQt):=scM
theorem aWh(a:aVM P w K mg base n "Refused" "__init__" ["self","words"] (wH K))(d:vR K C)(F:Fun K "__init__" "HasNone.__init__" aQt f fd):y8 P w K mg base CX0 (n+1) f fd ["self"] (zX K C "has none"):=by
 have i:=aWB;refine F.ok (k:=n) i (λl A outer s H m Q E c h=>?_);obtain⟨e,tp,rfl,g,q⟩:=h;refine⟨_,(yF (yY (uN a c rfl (yA (pv 0) (yA yO yD))))),?_⟩;exact⟨_,rfl,e,C,tp,_,rfl,g,d,λj b=>q j b⟩
abbrev jU:Stmt:=xB "OwnThread" "__init__"
theorem aZD:yM ["self"] ["self"] (yH jU):=scM
theorem aZp(a:aVM P w K mg base n "Refused" "__init__" ["self","words"] (wH K))(d:vR K C)(F:Fun K "__init__" "OwnThread.__init__" jU f fd):y8 P w K mg base CX0 (n+1) f fd ["self"] (zX K C "own thread"):=by
 have i:=aZD;refine F.ok (k:=n) i (λl A outer s H m Q E c h=>?_);obtain⟨e,tp,rfl,g,q⟩:=h;refine⟨_,(yF (yY (uN a c rfl (yA (pv 0) (yA yO yD))))),?_⟩;exact⟨_,rfl,e,C,tp,_,rfl,g,d,λj b=>q j b⟩
abbrev aQv:Stmt:=xB "SameWay" "__init__"
theorem aWD:yM ["self"] ["self"] (yH aQv):=scM
theorem aWj(a:aVM P w K mg base n "Refused" "__init__" ["self","words"] (wH K))(d:vR K C)(F:Fun K "__init__" "SameWay.__init__" aQv f fd):y8 P w K mg base CX0 (n+1) f fd ["self"] (zX K C "same way"):=by
 have i:=aWD;refine F.ok (k:=n) i (λl A outer s H m Q E c h=>?_);obtain⟨e,tp,rfl,g,q⟩:=h;refine⟨_,(yF (yY (uN a c rfl (yA (pv 0) (yA yO yD))))),?_⟩;exact⟨_,rfl,e,C,tp,_,rfl,g,d,λj b=>q j b⟩
abbrev vG:Stmt:=xB "OtherPartner" "__init__"
theorem aQD:yM ["self"] ["self"] (yH vG):=scM
theorem aQg(a:aVM P w K mg base n "Refused" "__init__" ["self","words"] (wH K))(d:vR K C)(F:Fun K "__init__" "OtherPartner.__init__" vG f fd):y8 P w K mg base CX0 (n+1) f fd ["self"] (zX K C "other partner"):=by
 have i:=aQD;refine F.ok (k:=n) i (λl A outer s H m Q E c h=>?_);obtain⟨e,tp,rfl,g,q⟩:=h;refine⟨_,(yF (yY (uN a c rfl (yA (pv 0) (yA yO yD))))),?_⟩;exact⟨_,rfl,e,C,tp,_,rfl,g,d,λj b=>q j b⟩
abbrev Y8:Stmt:=xB "TooEarly" "__init__"
theorem aJJ:yM ["self"] ["self"] (yH Y8):=scM
theorem aJk(a:aVM P w K mg base n "Refused" "__init__" ["self","words"] (wH K))(d:vR K C)(F:Fun K "__init__" "TooEarly.__init__" Y8 f fd):y8 P w K mg base CX0 (n+1) f fd ["self"] (zX K C "too early"):=by
 have i:=aJJ;refine F.ok (k:=n) i (λl A outer s H m Q E c h=>?_);obtain⟨e,tp,rfl,g,q⟩:=h;refine⟨_,(yF (yY (uN a c rfl (yA (pv 0) (yA yO yD))))),?_⟩;exact⟨_,rfl,e,C,tp,_,rfl,g,d,λj b=>q j b⟩
abbrev aXD:Stmt:=xB "Copied" "__init__"
theorem aYF:yM ["self"] ["self"] (yH aXD):=scM
theorem aKU(a:aVM P w K mg base n "Refused" "__init__" ["self","words"] (wH K))(d:vR K C)(F:Fun K "__init__" "Copied.__init__" aXD f fd):y8 P w K mg base CX0 (n+1) f fd ["self"] (zX K C "copied"):=by
 have i:=aYF;refine F.ok (k:=n) i (λl A outer s H m Q E c h=>?_);obtain⟨e,tp,rfl,g,q⟩:=h;refine⟨_,(yF (yY (uN a c rfl (yA (pv 0) (yA yO yD))))),?_⟩;exact⟨_,rfl,e,C,tp,_,rfl,g,d,λj b=>q j b⟩
abbrev Y6:Stmt:=xB "Answered" "__init__"
theorem aJH:yM ["self"] ["self"] (yH Y6):=scM
theorem aJi(a:aVM P w K mg base n "Refused" "__init__" ["self","words"] (wH K))(d:vR K C)(F:Fun K "__init__" "Answered.__init__" Y6 f fd):y8 P w K mg base CX0 (n+1) f fd ["self"] (zX K C "answered"):=by
 have i:=aJH;refine F.ok (k:=n) i (λl A outer s H m Q E c h=>?_);obtain⟨e,tp,rfl,g,q⟩:=h;refine⟨_,(yF (yY (uN a c rfl (yA (pv 0) (yA yO yD))))),?_⟩;exact⟨_,rfl,e,C,tp,_,rfl,g,d,λj b=>q j b⟩
abbrev jT:Stmt:=xB "CountsNot" "__init__"
theorem aZC:yM ["self"] ["self"] (yH jT):=scM
theorem aZo(a:aVM P w K mg base n "Refused" "__init__" ["self","words"] (wH K))(d:vR K C)(F:Fun K "__init__" "CountsNot.__init__" jT f fd):y8 P w K mg base CX0 (n+1) f fd ["self"] (zX K C "counts not"):=by
 have i:=aZC;refine F.ok (k:=n) i (λl A outer s H m Q E c h=>?_);obtain⟨e,tp,rfl,g,q⟩:=h;refine⟨_,(yF (yY (uN a c rfl (yA (pv 0) (yA yO yD))))),?_⟩;exact⟨_,rfl,e,C,tp,_,rfl,g,d,λj b=>q j b⟩
end
end Desk
namespace End4
open PySem L2 PyProof.Rows
section
variable {K:bKP}{x m qual t:Str}{st:Stmt}{f C R CB CL:Nat}{oc:bKN}{od an:Option Nat}{osl:Array (Option bKN)}{kV doc pm cdv ct:bKN}
structure vI(K:bKP)(x:Str)(st:Stmt)(f:Nat):Prop where
 ns:bYF K bYi x=some (some (.ref f))
 ex:∃fd,Fun K x x st f fd
def Def(K:bKP)(x:Str)(st:Stmt):Prop:=∃f,vI K x st f
theorem xQ(a:bYF K bYi x=some (some (.ref f)))(l:K.lookup f=some ⟨oc,od,.func (bY7 x x (zM st) (x6 st) (yH st) .none kV doc pm an cdv ct),osl⟩)
  (c:cQt K cdv x=true) (k:bYG K (.ref f)=true):vI K x st f:=⟨a,_,aQ0 l c k⟩
theorem xK(a:bYF K bYi x=some (some (.ref f)))(l:K.lookup f=some ⟨oc,od,.func (bY7 x x (zM st) (x6 st) (yH st) .none kV doc pm an cdv ct),osl⟩)
  (c:cQt K cdv x=true) (k:bYG K (.ref f)=true):Def K x st:=⟨f,xQ a l c k⟩
structure Mtd(K:bKP)(C:Nat)(m qual:Str)(st:Stmt):Prop where
 ex:∃f fd,bVB K C m f/\Fun K m qual st f fd
theorem xW(a:bYw K (.ref C) m=some (some (.ref f)))(i:cXq K (.ref f)=true)(l:K.lookup f=some ⟨oc,od,.func (bY7 m qual (zM st) (x6 st) (yH st) .none kV doc pm an cdv ct),osl⟩)
  (c:cQt K cdv qual=true) (k:bYG K (.ref f)=true):Mtd K C m qual st:=⟨f,_,⟨a,i,k⟩,aQ0 l c k⟩
structure MkD(K:bKP)(x:Str)(C:Nat)(qual:Str)(st:Stmt):Prop where
 ns:bYF K bYi x=some (some (.ref C))
 ex:∃f fd,Mk K C f/\Fun K "__init__" qual st f fd
theorem bZA(a:bYF K bYi x=some (some (.ref C)))(mk:PySem.W.makesIn K C=true)(d:bYG K (.ref C)=true)(b:bYw K (.ref C) "__init__"=some (some (.ref f)))(i:cXq K (.ref f)=true) (l:K.lookup f=some ⟨oc,od,.func (bY7 "__init__" qual (zM st) (x6 st) (yH st) .none kV doc pm an cdv ct),osl⟩) (c:cQt K cdv qual=true) (k:bYG K (.ref f)=true):MkD K x C qual st:=
 ⟨a,f,_,⟨mk,b,i,d⟩,aQ0 l c k⟩
structure Exc(K:bKP)(R:Nat)(x qual:Str)(st:Stmt):Prop where
 ex:∃C f fd,bYF K bYi x=some (some (.ref C))/\vR K C/\cXY K C (.ref R)=some true/\bYw K (.ref C) "__init__"=some (some (.ref f))/\cXq K (.ref f)=true/\bYG K (.ref C)=true/\Fun K "__init__" qual st f fd
theorem uI(a:bYF K bYi x=some (some (.ref C)))(e:bQB K C=true)(g:cXY K C (.ref R)=some true)(d:bYG K (.ref C)=true)(b:bYw K (.ref C) "__init__"=some (some (.ref f)))(i:cXq K (.ref f)=true) (l:K.lookup f=some ⟨oc,od,.func (bY7 "__init__" qual (zM st) (x6 st) (yH st) .none kV doc pm an cdv ct),osl⟩) (c:cQt K cdv qual=true) (k:bYG K (.ref f)=true):Exc K R x qual st:=
 ⟨C,f,_,a,aKn e,g,b,i,d,aQ0 l c k⟩
structure bWT(K:bKP)(x:Str)(R:Nat)(qual:Str)(st:Stmt):Prop where
 ns:bYF K bYi x=some (some (.ref R))
 cl:vR K R
 ex:∃f fd,PySem.W.readsIn K R (.type "type")=true/\PySem.W.findCls K (.ref R) (.type "type") "__init__"=some (.val (.ref f))/\cZh K (.ref R) "__getattribute__"=some (some (.builtin "type.__getattribute__"))/\Fun K "__init__" qual st f fd
theorem bJT(a:bYF K bYi x=some (some (.ref R)))(e:bQB K R=true)(rd:PySem.W.readsIn K R (.type "type")=true)(b:PySem.W.findCls K (.ref R) (.type "type") "__init__"=some (.val (.ref f))) (sp:cZh K (.ref R) "__getattribute__"=some (some (.builtin "type.__getattribute__"))) (l:K.lookup f=some ⟨oc,od,.func (bY7 "__init__" qual (zM st) (x6 st) (yH st) .none kV doc pm an cdv ct),osl⟩) (c:cQt K cdv qual=true) (k:bYG K (.ref f)=true):bWT K x R qual st:=
 ⟨a,aKn e,f,_,rd,b,sp,aQ0 l c k⟩
theorem bWX(b1:cXr K CB Str.empty=true)(m:cXH K CB=true)(f:cZg K CB=true)(q:bYw K (.ref CB) "__setattr__"=some (some (.builtin "object.__setattr__")))
  (j:cXr K CL Str.empty=true) (k:cXH K CL=true) (h:cZg K CL=true) (l:bYw K (.ref CL) "__setattr__"=some (some (.builtin "object.__setattr__")))
  (n:bYw K (.ref CB) "letters"=some none) (e:bYw K (.ref CB) "shut"=some none)
  (o:bYw K (.ref CL) "number"=some none) (p:bYw K (.ref CL) "way"=some none) (g:bYw K (.ref CL) "day"=some none) (r:bYw K (.ref CL) "partner"=some none)
  (c:bYw K (.ref CL) "term"=some none) (i:bYw K (.ref CL) "link"=some none) (d:bYw K (.ref CL) "file"=some none) (a:bYw K (.ref CL) "copies"=some none) (b:bYw K (.ref CL) "void"=some none):
  Desk.Cl K CB CL:=⟨⟨b1,m,f,q⟩,⟨j,k,h,l⟩,n,e,o,p,g,r,c,i,d,a,b⟩
end
section
variable {P:bK9}{w:bYf}{K:bKP}{h:Heap}{mg:Str->Option bKN}{base:Heap}{x m qual t:Str}{st:Stmt}{f C R:Nat}{k:Nat}{ps:List Str}{sp:Sp}{CX:CXT}
def aQM(x qual:Str)(st:Stmt)(ps:List Str):Prop:=∀ (kV doc pm:bKN)(an:Option Nat)(cdv ct:bKN)(a:List bKN),a.length=ps.length->bindArgs (bY7 x qual (zM st) (x6 st) (yH st) .none kV doc pm an cdv ct) ⟨a,[]⟩=pure (ps.zip a)
theorem W3{a:cQI}(F:Fun K x qual st f a):bYG K (.ref f)=true:=F.2
theorem gOf(P:bK9)(w:bYf)(base:Heap)(k:Nat)(X:K.In h)(G:h.Ns bYi mg)(D:Def K x st)(b:aQM x x st ps)(ok:∀f c,Fun K x x st f c->y8 P w K mg base CX0 k f c ps sp):FnG P w K mg base k x ps sp:=by
 obtain⟨f,a,c,F⟩:=D;exact⟨f,c,ok f c F,F.binds b,W3 F,cQE X G a⟩
theorem xOf(P:bK9)(w:bYf)(base:Heap)(k:Nat)(X:K.In h)(G:h.Ns bYi mg)(D:Def K x st)(b:aQM x x st ps)(ok:∀f c,Fun K x x st f c->y8 P w K mg base (CXR P w) k f c ps sp):FnX P w K mg base k x ps sp:=by
 obtain⟨f,a,c,F⟩:=D;exact⟨f,c,ok f c F,F.binds b,W3 F,cQE X G a⟩
structure DoG(P:bK9)(w:bYf)(K:bKP)(mg:Str->Option bKN)(base:Heap)(k:Nat)(f:Nat)(ps:List Str)(sp:Sp):Prop where
 ex:∃fd,y8 P w K mg base (CXR P w) k f fd ps sp/\vQ K fd ps []/\bYG K (.ref f)=true
theorem dOf(mg:Str->Option bKN)(P:bK9)(w:bYf)(base:Heap)(k:Nat)(D:vI K x st f)(b:aQM x x st ps)(ok:∀f c,Fun K x x st f c->y8 P w K mg base (CXR P w) k f c ps sp):DoG P w K mg base k f ps sp:=by
 obtain⟨a,c,F⟩:=D;exact⟨c,ok f c F,F.binds b,W3 F⟩
theorem mOf(mg:Str->Option bKN)(P:bK9)(w:bYf)(base:Heap)(k:Nat)(c:Cls K C)(D:Mtd K C m qual st)(b:aQM m qual st ps)(ok:∀f a,Fun K m qual st f a->y8 P w K mg base CX0 k f a ps sp):MG P w K mg base CX0 k C m ps sp:=by
 obtain⟨f,a,M,F⟩:=D.ex;exact⟨⟨f,a,ok f a F,F.binds b,M⟩,c⟩
theorem aJg(mg:Str->Option bKN)(P:bK9)(w:bYf)(base:Heap)(k:Nat)(c:Cls K C)(D:Mtd K C m qual st)(b:aQM m qual st ps)(ok:∀f a,Fun K m qual st f a->y8 P w K mg base (CXR P w) k f a ps sp):MG P w K mg base (CXR P w) k C m ps sp:=by
 obtain⟨f,a,M,F⟩:=D.ex;exact⟨⟨f,a,ok f a F,F.binds b,M⟩,c⟩
theorem kOf(P:bK9)(w:bYf)(base:Heap)(k:Nat)(X:K.In h)(G:h.Ns bYi mg)(D:MkD K x C qual st)(b:aQM "__init__" qual st ps)(ok:∀f a,Fun K "__init__" qual st f a->y8 P w K mg base CX0 k f a ps sp):MkG P w K mg base k x C ps sp:=by
 obtain⟨f,a,M,F⟩:=D.ex;exact⟨⟨f,a,ok f a F,F.binds b,M,cQE X G D.ns⟩⟩
theorem eOf(P:bK9)(w:bYf)(base:Heap)(k:Nat)(t:Str)(X:K.In h)(G:h.Ns bYi mg)(D:Exc K R x qual st)(b:aQM "__init__" qual st ["self"])(ok:∀C f c,vR K C->Fun K "__init__" qual st f c->y8 P w K mg base CX0 k f c ["self"] (zX K C t)):∃C,ExG P w K mg base k x R C t:=by
 obtain⟨C,f,c,a,e,d,g,i,j,F⟩:=D.ex;exact⟨C,⟨f,c,ok C f c e F,F.binds b,g,i,j,cQE X G a⟩,e,d⟩
theorem rOf(P:bK9)(w:bYf)(base:Heap)(k:Nat)(X:K.In h)(G:h.Ns bYi mg)(D:bWT K x R qual st)(b:aQM "__init__" qual st ps)(ok:∀f a,Fun K "__init__" qual st f a->y8 P w K mg base CX0 k f a ps sp):aVM P w K mg base k x "__init__" ps sp:=by
 obtain⟨f,a,rd,c,s,F⟩:=D.ex;exact⟨⟨R,f,a,ok f a F,F.binds b,rd,c,s,W3 F,cQE X G D.ns⟩⟩
end
def Pr(w:bYf):List DictEntry->List (Str×Nat)->Prop
 |[],[]=>True
 |e::es,(x,f)::r=>(∃t,e.key= .str x t)/\e.hash=hashStr w x/\e.val= .ref f/\Pr w es r
 |_,_=>False
abbrev bZx(r:List (Str×Nat)):List (Key×bKN):=r.map λp=>(Sum.inr p.1,.ref p.2)
theorem aVm{P:bK9}{w:bYf}:∀ {a:List DictEntry} {r:List (Str×Nat)},Pr w a r->Pairs (xY P w) a (bZx r)
 |[],[],_=> .nil
 |e::a,(x,f)::r,⟨⟨t,h1⟩,h2,h3,h4⟩=> .cons (by rw[h1];exact jP P w x t) h3 (aVm h4)
 |[],_::_,h=>nomatch h
 |_::_,[],h=>nomatch h
theorem aYg{P:bK9}{w:bYf}:∀ {a:List DictEntry} {r:List (Str×Nat)},Pr w a r->∀e∈a,∃k,(xY P w).is k e.key=true/\e.hash=(xY P w).hash k
 |[],_,_,e,he=>nomatch he
 |e::a,(x,f)::r,⟨⟨t,h1⟩,h2,h3,h4⟩,e',he=>by
  rcases bKW.mp he with rfl|z
  ·exact⟨Sum.inr x,by rw[h1];exact jP P w x t,h2⟩
  ·exact aYg h4 e' z
 |_::_,[],h,_,_=>nomatch h
theorem bVv{P:bK9}{w:bYf}{K:bKP}{D:Nat}{d:Array DictEntry}{f:Nat}{r:List (Str×Nat)}(l:K.lookup D=some ⟨.type "dict",none,.dict d f, #[]⟩)(p:Pr w d.toList r)(h:(r.map (·.1)).Nodup):Desk.bWV P w K D (bZx r):=by
 refine⟨⟨_,d,f,l,⟨rfl,rfl,rfl⟩,rfl,λe g=>aYg p e (Array.mem_toList_iff.mpr g),aVm p,?_⟩⟩;have e:(bZx r).map (·.1)=(r.map (·.1)).map Sum.inr:=by simp[bZx,Function.comp_def]
 rw[e];exact List.Pairwise.map _ (λa b c z=>c (Sum.inr.inj z)) h
theorem uD:∀ {r:List (Str×Nat)} {x:Str} {f:Nat},(r.map (·.1)).Nodup->∀i:Nat,r[i]? =some (x,f)->cX5 (bZx r) (Sum.inr x:Key)=some (.ref f)
 |[],_,_,_,_,h=>by simp at h
 |(y,g)::r,x,f,nd,0,h=>by cases h;simp[cX5,bZx]
 |(y,g)::r,x,f,nd,i+1,h=>by
  have c:r[i]? =some (x,f):=by simpa using h
  have a:=cQU.mp nd;have d:¬ ((Sum.inr y:Key)=Sum.inr x):=λz=>a.1 (by
   rw[Sum.inr.inj z];exact bYQ.mpr ⟨(x,f),bK5 c,rfl⟩)
  have b:=uD a.2 i c;unfold cX5 at b ⊢;simp only[bZx,bYx,cQ8,decide_eq_false d]at b ⊢;exact b
end End4
namespace L2
open PySem
section
variable {P:bK9}{w:bYf}{K:bKP}{mg:Str->Option bKN}{base:Heap}{j k:Nat}{x t:Str}{ps:List Str}{sp:Sp}{C Rf:Nat}{CX:CXT}
theorem FnG.up(G:FnG P w K mg base j x ps sp)(h:j<=k:=by decide):FnG P w K mg base k x ps sp:=G.mono h
theorem FnX.up(G:FnX P w K mg base j x ps sp)(h:j<=k:=by decide):FnX P w K mg base k x ps sp:=G.mono h
theorem MG.up(G:MG P w K mg base CX j C x ps sp)(h:j<=k:=by decide):MG P w K mg base CX k C x ps sp:=G.mono h
theorem MkG.up(G:MkG P w K mg base j x C ps sp)(h:j<=k:=by decide):MkG P w K mg base k x C ps sp:=G.mono h
theorem ExG.up(G:ExG P w K mg base j x Rf C t)(h:j<=k:=by decide):ExG P w K mg base k x Rf C t:=G.mono h
end
end L2
namespace End4
open PySem L2 PyProof.Rows
theorem bdA{x qual:Str}{st:Stmt}{ps:List Str}(h:aQM x qual st ps:=by
  intro a b c d e f u h;rcases u with _|⟨_,_|⟨_,_|⟨_,_|⟨_,_|⟨_,_|⟨_,_|⟨_,_⟩⟩⟩⟩⟩⟩⟩<;> first|(cases h;done)|kernel_rfl):aQM x qual st ps:=h
end End4
namespace End4
open PySem L2 PyProof.Rows
set_option maxHeartbeats 0 in
theorem all_mk{l:PySem.W.OpenLaw}{w:bYf}{K:bKP}{h:Heap}{mg:Str->Option bKN}{fa R L CL cA J fA fL DD i x H y z I B D E A u r q p j k:Nat}{h5 e8:Option Nat}{b5:Array (Option bKN)}{e3 k4 i1 b8 i4:bKN}{a7:Array DictEntry}{c8:Nat}{tW tO:Tok} (X:K.In h) (G:h.Ns bYi mg) (b7:mg "law"=some (.ref fa)) (d60:bWT K "Refused" R "Refused.__init__" Desk.aQu) (d61:Exc K R "NoLetter" "NoLetter.__init__" Desk.Y7) (d62:Exc K R "NoTerm" "NoTerm.__init__" Desk.aXF) (d63:Exc K R "HasOne" "HasOne.__init__" Desk.aXE) (d64:Exc K R "HasNone" "HasNone.__init__" Desk.aQt) (d65:Exc K R "OwnThread" "OwnThread.__init__" Desk.jU) (d66:Exc K R "SameWay" "SameWay.__init__" Desk.aQv) (d67:Exc K R "OtherPartner" "OtherPartner.__init__" Desk.vG) (d68:Exc K R "TooEarly" "TooEarly.__init__" Desk.Y8) (d69:Exc K R "Copied" "Copied.__init__" Desk.aXD) (d70:Exc K R "Answered" "Answered.__init__" Desk.Y6) (d71:Exc K R "CountsNot" "CountsNot.__init__" Desk.jT) (d9:MkD K "Letter" CL "Letter.__init__" Desk.aYv) (d24:MkD K "Book" L "Book.__init__" Desk.aYo) (cl:Desk.Cl K L CL) (d10:Mtd K CL "state" "Letter.state" Desk.aYA) (d11:Mtd K CL "is_answered_by" "Letter.is_answered_by" Desk.aYn) (d12:Mtd K CL "has_gone_to" "Letter.has_gone_to" Desk.bJW) (d13:Mtd K CL "make_void" "Letter.make_void" Desk.bJ6) (d15:Mtd K L "letter_at" "Book.letter_at" Desk.aQr) (d16:Mtd K L "answers_to" "Book.answers_to" Desk.aVq) (d17:Mtd K L "copies_of" "Book.copies_of" Desk.aQq) (d18:Mtd K L "state_of" "Book.state_of" Desk.aXB) (d19:Mtd K L "letters_in" "Book.letters_in" Desk.jB) (d20:Mtd K L "answered_by" "Book.answered_by" Desk.aQp) (d21:Mtd K L "waiting_pairs" "Book.waiting_pairs" Desk.aYx) (d22:Mtd K L "waiting" "Book.waiting" Desk.W9) (d23:Mtd K L "overdue" "Book.overdue" Desk.W8) (d25:Mtd K L "add_letter" "Book.add_letter" Desk.bW9) (d28:Mtd K L "enter" "Book.enter" Desk.aYu) (d29:Mtd K L "reply" "Book.reply" Desk.aYz) (d30:Mtd K L "loosen" "Book.loosen" Desk.aJE) (d31:Mtd K L "put_term" "Book.put_term" Desk.aXA) (d32:Mtd K L "send_copy" "Book.send_copy" Desk.bJ4) (d33:Mtd K L "cancel" "Book.cancel" Desk.aJB) (d34:Mtd K L "shut_day" "Book.shut_day" Desk.bJ5) (d35:Mtd K L "put_day" "Book.put_day" Desk.aJF) (d36:Mtd K L "thread_of" "Book.thread_of" Desk.qN) (d37:Mtd K L "lay_thread" "Book.lay_thread" Desk.bKd) (d38:Mtd K L "check_hanging" "Book.check_hanging" Desk.aYp) (d39:Mtd K L "hang" "Book.hang" Desk.bJY) (d58:Mtd K L "standing_states" "Book.standing_states" Desk.aXC) (d1:Def K "open_by_rest" Days.bJ2) (d2:Def K "place_of" Days.aYy) (d3:Def K "counts" Days.aJC) (d4:Def K "closed_days" Days.aXw) (d5:Def K "day_at" Days.aYr) (d6:Def K "due_day" Days.bKb) (d7:Def K "top_of" Thr.aYD) (d8:Def K "thread" Thr.aJG) (d14:Def K "other_way" Desk.aYw) (d26:Def K "check_term" Desk.aYB) (d27:Def K "check_days" Desk.aYs) (d56:Def K "answer" Desk.aJA) (d57:Def K "answers" Desk.W6) (d59:Def K "standing" Desk.aQs) (d72:Def K "_law_good" Law.bJX) (d73:Def K "_law_kids_of" Law.bXB) (d74:Def K "_law_waits_on" Law.aVs) (d75:Def K "_law_due_by" Law.aYt) (d76:Def K "_law_list_on" Law.aXz) (d77:Def K "_law_family" Law.aXy) (d78:Def K "_law_lost" Law.bJ1) (d79:Def K "_law_dated" Law.aYq) (d80:Def K "_law_hung" Law.bJZ) (d81:Def K "_law_entered" Law.aXx) (d82:Def K "_law_with_one" Law.bJ7) (d83:Def K "_law_told_of" Law.aYC) (d84:Def K "_law_done_by" Law.bJV) (d85:Def K "_law_hanging" Law.W7) (d86:Def K "_law_about" Law.aVp) (d87:Def K "_law_deed_at" Law.aJD) (d88:Def K "_law_story" Law.aVr) (d89:Def K "_law_whole" Alike.aYE) (d90:Def K "_law_room" Alike.bJ3) (d91:Def K "_law_alike" Alike.aYm) (d40:vI K "do_enter" Desk.Y9 i) (d41:vI K "do_reply" Desk.X1 x) (d42:vI K "do_hang" Desk.aQz H) (d43:vI K "do_loose" Desk.X0 y) (d44:vI K "do_date" Desk.aQx z) (d45:vI K "do_term" Desk.aQB I) (d46:vI K "do_copy" Desk.aQw B) (d47:vI K "do_file" Desk.aQy D) (d48:vI K "do_void" Desk.aQC E) (d49:vI K "do_shut" Desk.aQA A) (d50:vI K "ask_state" Desk.jV u) (d51:vI K "ask_thread" Desk.uQ r) (d52:vI K "ask_copies" Desk.uP q) (d53:vI K "ask_letters" Desk.v1 p) (d54:vI K "ask_waiting" Desk.v6 j) (d55:vI K "ask_overdue" Desk.v5 k) (dL:vI K "law" Alike.bKc fL) (aA:bYF K bYi "answers_to_each"=some (some (.ref fA))) (lA:K.lookup fA=some ⟨e3,h5,.func (bY7 "answers_to_each" "answers_to_each" (zM Thr.aJz) (x6 Thr.aJz) (yH Thr.aJz) .none k4 i1 b8 e8 (.ref cA) i4),b5⟩) (cA1:cQt K (.ref cA) "answers_to_each"=true) (kA:bYG K (.ref fA)=true) (nD:bYF K bYi "DEEDS"=some (some (.ref DD))) (lD:K.lookup DD=some ⟨.type "dict",none,.dict a7 c8, #[]⟩) (pD:Pr w a7.toList [("in",i),("out",i),("reply",x),("hang",H),("loose",y),("date",z),("term",I),("copy",B),("file",D),("void",E),("shut",A),("state",u),("thread",r),("copies",q),("letters",p),("waiting",j),("overdue",k)]) (z_len:bYF K bYi "len"=some none) (z_min:bYF K bYi "min"=some none) (z_sum:bYF K bYi "sum"=some none) (z_sorted:bYF K bYi "sorted"=some none) (z_isinstance:bYF K bYi "isinstance"=some none) (z_int:bYF K bYi "int"=some none) (z_str:bYF K bYi "str"=some none) (z_bool:bYF K bYi "bool"=some none) (z_list:bYF K bYi "list"=some none) (z_tuple:bYF K bYi "tuple"=some none) (z_set:bYF K bYi "set"=some none) (z_range:bYF K bYi "range"=some none) (z_reversed:bYF K bYi "reversed"=some none) (z_max:bYF K bYi "max"=some none) (y_week:bYF K bYi "WEEK"=some (some (.int 7 tW))) (y_open:bYF K bYi "OPEN_DAYS"=some (some (.int 5 tO))) (tb:cZn K cA J=true) (tn:K.lookup J=none) :∃ (g:cQI)(c:Nat),cZn K c J=true/\K.lookup J=none/\(∀ (s:bKQ)(v:bKN),BindsTo s g ⟨[v],[]⟩ [("_law_script",v)])/\∀base:Heap,K.In base->base.Ns bYi mg->cQP base c J->base.BuiltinsAt mg J->y8 l.prog w K mg base CX0 11 fa g ["_law_script"] (Alike.bX1 J K):=by
 obtain⟨aL,a5,Q⟩:=dL;have e:=b7.symm.trans (cQE X G aL);cases e;have TD:Days.vH mg:=⟨bK3 X G z_len,bK3 X G z_min,bK3 X G z_sum,bK3 X G z_sorted,bK3 X G z_isinstance,bK3 X G z_int,bK3 X G z_str,bK3 X G z_bool,bK3 X G z_list,bK3 X G z_tuple,bK3 X G z_set,bK3 X G z_range,bK3 X G z_reversed,⟨_,cQE X G y_week⟩,⟨_,cQE X G y_open⟩⟩;have TT:Thr.vH mg:=⟨bK3 X G z_len,bK3 X G z_sorted,bK3 X G z_isinstance,bK3 X G z_int,bK3 X G z_str,bK3 X G z_bool,bK3 X G z_list,bK3 X G z_tuple,bK3 X G z_range⟩;have TB:Desk.vH mg:=⟨bK3 X G z_len,bK3 X G z_sorted,bK3 X G z_list⟩;have T:Law.vH mg:=⟨bK3 X G z_len,bK3 X G z_range⟩;have TA:Alike.vH mg:=⟨bK3 X G z_len,bK3 X G z_sorted,bK3 X G z_isinstance,bK3 X G z_int,bK3 X G z_str,bK3 X G z_bool,bK3 X G z_list,bK3 X G z_tuple,bK3 X G z_range⟩;have bL:∀ (s:bKQ)(v:bKN),BindsTo s a5 ⟨[v],[]⟩ [("_law_script",v)]:=by obtain⟨oc,od,kV,l1,pm,an,l2,ct,l3,rfl,lk,l0⟩:=Q.ex;exact λs v=> .of_eq rfl
 refine⟨a5,cA,tb,tn,bL,λbase _ _ M hB=>?_⟩;have g0:FnG l.prog w K mg base 2 "answers_to_each" ["links","dates"] (Thr.bVp J):=⟨fA,_,Thr.bV8 TT M hB lA cA1,(aQ0 (st:=Thr.aJz) lA cA1 kA).binds bdA,kA,cQE X G aA⟩;have g1:=gOf l.prog w base 1 X G d1 bdA λf g F=>Days.bJE TD F;have g2:=gOf l.prog w base 1 X G d2 bdA λf g F=>Days.bXh TD F;have g3:=gOf l.prog w base 2 X G d3 bdA λf g F=>Days.aK0 TD g1.up F;have g4:=gOf l.prog w base 2 X G d4 bdA λf g F=>Days.aKZ TD g1.up F;have g5:=gOf l.prog w base 1 X G d5 bdA λf g F=>Days.bXa TD F;have g6:=gOf l.prog w base 3 X G d6 bdA λf g F=>Days.bV9 TD g4.up g2.up g5.up F;have g7:=gOf l.prog w base 1 X G d7 bdA λf g F=>Thr.bXm TT F;have g8:=gOf l.prog w base 3 X G d8 bdA λf g F=>Thr.aK7 TT g0.up g7.up F;have g9:=kOf l.prog w base 1 X G d9 bdA λf g F=>Desk.bXe (n:=0) cl F;have b3:=mOf mg l.prog w base 1 cl.l d10 bdA λf g F=>Desk.bXj (n:=0) cl F;have e1:=mOf mg l.prog w base 1 cl.l d11 bdA λf g F=>Desk.bQ5 (n:=0) cl F;have c2:=mOf mg l.prog w base 1 cl.l d12 bdA λf g F=>Desk.bJx (n:=0) cl F;have h3:=mOf mg l.prog w base 1 cl.l d13 bdA λf g F=>Desk.bJJ (n:=0) cl F;have b9:=gOf l.prog w base 1 X G d14 bdA λf g F=>Desk.bXf (n:=0) F;have b0:=mOf mg l.prog w base 2 cl.b d16 bdA λf g F=>Desk.bQ6 (n:=1) cl e1.up F;have k7:=mOf mg l.prog w base 1 cl.b d19 bdA λf g F=>Desk.aZr (n:=0) cl F;have h7:=mOf mg l.prog w base 1 cl.b d20 bdA λf g F=>Desk.aJl (n:=0) cl F;have a6:=mOf mg l.prog w base 4 cl.b d21 bdA λf g F=>Desk.bXg (n:=3) TB cl h7.up g6.up F;have j5:=mOf mg l.prog w base 5 cl.b d22 bdA λf g F=>Desk.aWx (n:=4) cl a6.up F;have f9:=mOf mg l.prog w base 5 cl.b d23 bdA λf g F=>Desk.aWu (n:=4) cl a6.up F;have a4:=kOf l.prog w base 1 X G d24 bdA λf g F=>Desk.bQ7 (n:=0) cl F;have a3:=mOf mg l.prog w base 3 cl.b d25 bdA λf g F=>Desk.bV7 (n:=1) TB cl g9.up F;have b4:=dOf mg l.prog w base 2 d53 bdA λf g F=>Desk.aQS (n:=1) (Rf:=(R,J)) k7.up F;have j0:=dOf mg l.prog w base 6 d54 bdA λf g F=>Desk.aQU (n:=5) (Rf:=(R,J)) j5.up F;have b6:=dOf mg l.prog w base 6 d55 bdA λf g F=>Desk.aQT (n:=5) (Rf:=(R,J)) f9.up F;have c6:=mOf mg l.prog w base 2 cl.b d58 bdA λf g F=>Desk.aK6 (n:=1) cl b3.up F;have N:=rOf l.prog w base 1 X G d60 bdA λf g F=>Desk.aWi (n:=0) F;obtain⟨_,c0⟩:=eOf l.prog w base 2 "no letter" X G d61 bdA λC f g M F=>Desk.aJj (n:=1) N M F;obtain⟨_,i8⟩:=eOf l.prog w base 2 "no term" X G d62 bdA λC f g M F=>Desk.aKW (n:=1) N M F;obtain⟨_,e0⟩:=eOf l.prog w base 2 "has one" X G d63 bdA λC f g M F=>Desk.aKV (n:=1) N M F;obtain⟨_,j1⟩:=eOf l.prog w base 2 "has none" X G d64 bdA λC f g M F=>Desk.aWh (n:=1) N M F;obtain⟨_,c1⟩:=eOf l.prog w base 2 "own thread" X G d65 bdA λC f g M F=>Desk.aZp (n:=1) N M F;obtain⟨_,i9⟩:=eOf l.prog w base 2 "same way" X G d66 bdA λC f g M F=>Desk.aWj (n:=1) N M F;obtain⟨_,f6⟩:=eOf l.prog w base 2 "other partner" X G d67 bdA λC f g M F=>Desk.aQg (n:=1) N M F;obtain⟨_,c7⟩:=eOf l.prog w base 2 "too early" X G d68 bdA λC f g M F=>Desk.aJk (n:=1) N M F;obtain⟨_,k6⟩:=eOf l.prog w base 2 "copied" X G d69 bdA λC f g M F=>Desk.aKU (n:=1) N M F;obtain⟨_,h4⟩:=eOf l.prog w base 2 "answered" X G d70 bdA λC f g M F=>Desk.aJi (n:=1) N M F;obtain⟨_,d0⟩:=eOf l.prog w base 2 "counts not" X G d71 bdA λC f g M F=>Desk.aZo (n:=1) N M F;have S:=gOf l.prog w base 1 X G d72 bdA λf g F=>Law.bJy T F;have Y:=gOf l.prog w base 1 X G d73 bdA λf g F=>Law.bJB T F;have k0:=gOf l.prog w base 2 X G d74 bdA λf g F=>Law.bXn T (bK3 X G z_min) Y.up F;have h6:=gOf l.prog w base 1 X G d75 bdA λf g F=>Law.bXc T F;have i0:=gOf l.prog w base 3 X G d76 bdA λf g F=>Law.aK3 T (bK3 X G z_sorted) k0.up h6.up F;have a0:=gOf l.prog w base 2 X G d77 bdA λf g F=>Law.aK2 T (bK3 X G z_sorted) F;have k9:=gOf l.prog w base 2 X G d78 bdA λf g F=>Law.bJC Y.up F;have c9:=gOf l.prog w base 2 X G d79 bdA λf g F=>Law.bQ9 Y.up F;have i6:=gOf l.prog w base 3 X G d80 bdA λf g F=>Law.bJA S.up a0.up F;have e2:=gOf l.prog w base 3 X G d81 bdA λf g F=>Law.aWs T (bK3 X G z_int) S.up F;have j2:=gOf l.prog w base 3 X G d82 bdA λf g F=>Law.bJK T S.up c9.up k9.up a0.up F;have f8:=gOf l.prog w base 4 X G d83 bdA λf g F=>Law.bJI T (bK3 X G z_list) (bK3 X G z_tuple) S.up i0.up a0.up F;have b1:=gOf l.prog w base 5 X G d84 bdA λf g F=>Law.bJw e2.up i6.up f8.up j2.up F;have k8:=gOf l.prog w base 2 X G d85 bdA λf g F=>Law.aWt T (bK3 X G z_int) S.up F;have j6:=gOf l.prog w base 2 X G d86 bdA λf g F=>Law.bQ3 T (bK3 X G z_int) S.up F;have j4:=gOf l.prog w base 3 X G d87 bdA λf g F=>Law.aK1 T (bK3 X G z_int) (bK3 X G z_max) S.up k8.up j6.up F;have k1:=gOf l.prog w base 6 X G d88 bdA λf g F=>Law.bXk T b1.up j4.up F;have e7:=gOf l.prog w base 1 X G d89 bdA λf g F=>Alike.bXo TA F;have c3:=gOf l.prog w base 1 X G d90 bdA λf g F=>Alike.bJF TA F;have e6:=gOf l.prog w base 2 X G d91 bdA λf g F=>Alike.bQ4 TA e7.up F;have O:=aJg mg l.prog w base 4 cl.b d15 bdA λf g F=>Desk.bW4 (n:=2) (Rf:=(R,J)) TB cl c0.up F;have f3:=aJg mg l.prog w base 5 cl.b d17 bdA λf g F=>Desk.aJm (n:=4) (Rf:=(R,J)) TB cl O.up F;have i5:=aJg mg l.prog w base 5 cl.b d18 bdA λf g F=>Desk.aWw (n:=4) (Rf:=(R,J)) cl O.up b3.up F;have a1:=xOf l.prog w base 4 X G d26 bdA λf g F=>Desk.bXl (n:=2) (Rf:=(R,J)) i8.up F;have a2:=xOf l.prog w base 4 X G d27 bdA λf g F=>Desk.bXb (n:=2) (Rf:=(R,J)) c7.up F;have k3:=aJg mg l.prog w base 5 cl.b d28 bdA λf g F=>Desk.bXd (n:=4) (Rf:=(R,J)) cl a1.up a3.up F;have i3:=aJg mg l.prog w base 5 cl.b d29 bdA λf g F=>Desk.bXi (n:=4) (Rf:=(R,J)) cl O.up a1.up a2.up b9.up a3.up F;have f1:=aJg mg l.prog w base 5 cl.b d30 bdA λf g F=>Desk.aK4 (n:=3) (Rf:=(R,J)) cl O.up j1.up F;have h8:=aJg mg l.prog w base 5 cl.b d31 bdA λf g F=>Desk.aWv (n:=4) (Rf:=(R,J)) cl O.up a1.up F;have e9:=aJg mg l.prog w base 5 cl.b d32 bdA λf g F=>Desk.bJG (n:=3) (Rf:=(R,J)) TB cl O.up c2.up k6.up F
 have e5:=aJg mg l.prog w base 5 cl.b d33 bdA λf g F=>Desk.aKY (n:=3) (Rf:=(R,J)) TB cl O.up b0.up h3.up h4.up F;have j8:=aJg mg l.prog w base 4 cl.b d34 bdA λf g F=>Desk.bJH (n:=2) (Rf:=(R,J)) cl g3.up d0.up F;have f4:=aJg mg l.prog w base 5 cl.b d35 bdA λf g F=>Desk.aK5 (n:=4) (Rf:=(R,J)) cl O.up b0.up a2.up F;have Z:=aJg mg l.prog w base 5 cl.b d36 bdA λf g F=>Desk.aJr (n:=4) (Rf:=(R,J)) cl O.up g8.up F;have a9:=aJg mg l.prog w base 6 cl.b d37 bdA λf g F=>Desk.bWb (n:=5) (Rf:=(R,J)) TB cl Z.up F;have f7:=aJg mg l.prog w base 6 cl.b d38 bdA λf g F=>Desk.bQ8 (n:=4) (Rf:=(R,J)) cl Z.up a2.up e0.up c1.up i9.up f6.up F;have c4:=aJg mg l.prog w base 7 cl.b d39 bdA λf g F=>Desk.bJz (n:=6) (Rf:=(R,J)) cl O.up f7.up a9.up F;have f5:=dOf mg l.prog w base 6 d40 bdA λf g F=>Desk.aJn (n:=5) (Rf:=(R,J)) k3.up F;have e4:=dOf mg l.prog w base 6 d41 bdA λf g F=>Desk.aJp (n:=5) (Rf:=(R,J)) i3.up F;have h9:=dOf mg l.prog w base 8 d42 bdA λf g F=>Desk.aWo (n:=7) (Rf:=(R,J)) c4.up F;have f0:=dOf mg l.prog w base 6 d43 bdA λf g F=>Desk.aJo (n:=5) (Rf:=(R,J)) f1.up F;have h0:=dOf mg l.prog w base 6 d44 bdA λf g F=>Desk.aWm (n:=5) (Rf:=(R,J)) f4.up F;have h2:=dOf mg l.prog w base 6 d45 bdA λf g F=>Desk.aWq (n:=5) (Rf:=(R,J)) h8.up F;have c5:=dOf mg l.prog w base 6 d46 bdA λf g F=>Desk.aWl (n:=5) (Rf:=(R,J)) e9.up F;have k2:=dOf mg l.prog w base 7 d47 bdA λf g F=>Desk.aWn (n:=6) (Rf:=(R,J)) a9.up F;have f2:=dOf mg l.prog w base 6 d48 bdA λf g F=>Desk.aWr (n:=5) (Rf:=(R,J)) e5.up F;have j9:=dOf mg l.prog w base 5 d49 bdA λf g F=>Desk.aWp (n:=4) (Rf:=(R,J)) j8.up F;have h1:=dOf mg l.prog w base 6 d50 bdA λf g F=>Desk.aZq (n:=5) (Rf:=(R,J)) i5.up F;have j7:=dOf mg l.prog w base 6 d51 bdA λf g F=>Desk.aXp (n:=5) (Rf:=(R,J)) Z.up F;have i2:=dOf mg l.prog w base 6 d52 bdA λf g F=>Desk.aXo (n:=5) (Rf:=(R,J)) f3.up F;have P:(([("in",i),("out",i),("reply",x),("hang",H),("loose",y),("date",z),("term",I),("copy",B),("file",D),("void",E),("shut",A),("state",u),("thread",r),("copies",q),("letters",p),("waiting",j),("overdue",k)]:List (Str×Nat)).map (·.1)).Nodup:=show(["in","out","reply","hang","loose","date","term","copy","file","void","shut","state","thread","copies","letters","waiting","overdue"]:List Str).Nodup from dk;have all:Desk.bVD l.prog w K mg base 8 (R,J) L CL (bZx [("in",i),("out",i),("reply",x),("hang",H),("loose",y),("date",z),("term",I),("copy",B),("file",D),("void",E),("shut",A),("state",u),("thread",r),("copies",q),("letters",p),("waiting",j),("overdue",k)]):=by
  intro e k5;cases e with
  |enter l4 d V t=>
   obtain⟨g,a,b,c⟩:=f5.ex;rcases k5 with rfl|rfl
   ·exact⟨i,g,_,uD P 0 rfl,a.mono (by decide),⟨_,d,V,t,rfl⟩,b,c⟩
   ·exact⟨i,g,_,uD P 1 rfl,a.mono (by decide),⟨_,d,V,t,rfl⟩,b,c⟩
  |reply m d t=>obtain⟨g,a,b,c⟩:=e4.ex;exact⟨x,g,_,uD P 2 rfl,a.mono (by decide),⟨m,d,t,rfl⟩,b,c⟩
  |hang m o=>obtain⟨g,a,b,c⟩:=h9.ex;exact⟨H,g,_,uD P 3 rfl,a.mono (by decide),⟨m,o,rfl⟩,b,c⟩
  |loose m=>obtain⟨g,a,b,c⟩:=f0.ex;exact⟨y,g,_,uD P 4 rfl,a.mono (by decide),⟨m,rfl⟩,b,c⟩
  |date m d=>obtain⟨g,a,b,c⟩:=h0.ex;exact⟨z,g,_,uD P 5 rfl,a.mono (by decide),⟨m,d,rfl⟩,b,c⟩
  |term m t=>obtain⟨g,a,b,c⟩:=h2.ex;exact⟨I,g,_,uD P 6 rfl,a.mono (by decide),⟨m,t,rfl⟩,b,c⟩
  |copy m V=>obtain⟨g,a,b,c⟩:=c5.ex;exact⟨B,g,_,uD P 7 rfl,a.mono (by decide),⟨m,V,rfl⟩,b,c⟩
  |file m U=>obtain⟨g,a,b,c⟩:=k2.ex;exact⟨D,g,_,uD P 8 rfl,a.mono (by decide),⟨m,U,rfl⟩,b,c⟩
  |void m=>obtain⟨g,a,b,c⟩:=f2.ex;exact⟨E,g,_,uD P 9 rfl,a.mono (by decide),⟨m,rfl⟩,b,c⟩
  |shut d=>obtain⟨g,a,b,c⟩:=j9.ex;exact⟨A,g,_,uD P 10 rfl,a.mono (by decide),⟨d,rfl⟩,b,c⟩
  |state m=>obtain⟨g,a,b,c⟩:=h1.ex;exact⟨u,g,_,uD P 11 rfl,a.mono (by decide),⟨m,rfl⟩,b,c⟩
  |thread m=>obtain⟨g,a,b,c⟩:=j7.ex;exact⟨r,g,_,uD P 12 rfl,a.mono (by decide),⟨m,rfl⟩,b,c⟩
  |copies m=>obtain⟨g,a,b,c⟩:=i2.ex;exact⟨q,g,_,uD P 13 rfl,a.mono (by decide),⟨m,rfl⟩,b,c⟩
  |letters U=>obtain⟨g,a,b,c⟩:=b4.ex;exact⟨p,g,_,uD P 14 rfl,a.mono (by decide),⟨U,rfl⟩,b,c⟩
  |on a8 d=>
   cases a8
   ·obtain⟨g,a,b,c⟩:=j0.ex;exact⟨j,g,_,uD P 15 rfl,a.mono (by decide),⟨d,rfl⟩,b,c⟩
   ·obtain⟨g,a,b,c⟩:=b6.ex;exact⟨k,g,_,uD P 16 rfl,a.mono (by decide),⟨d,rfl⟩,b,c⟩
 have b2:=gOf l.prog w base 9 X G d56 bdA λf g F=>Desk.aKX (n:=8) (Rf:=(R,J)) (cQE X G nD) (bVv lD pD P) (cQE X G d60.ns) d60.cl all F;have i7:=gOf l.prog w base 10 X G d57 bdA λf g F=>Desk.aWk (n:=8) (Rf:=(R,J)) a4.up b2.up F;have j3:=gOf l.prog w base 10 X G d59 bdA λf g F=>Desk.aJq (n:=8) (Rf:=(R,J)) a4.up b2.up c6.up F;exact Alike.bWa (n:=10) (Rf:=(R,J)) TA k1.up c3.up e6.up b1.up i7.up j3.up Q
end End4
namespace End4
open PySem L2 PyProof.Rows
theorem walk{l:PySem.W.OpenLaw}{q:bK9}{loose:List Str}{r:(Str->Option bKN)->Heap->Prop}{e:bYf->Heap->Prop}{d:DefRec}{K:Params->bKP}{T:Nat}(y:l.most=some 63)(g:d.params.defaults= []) (t:∀ (w:bYf)(h:Heap),e w h->(K w.params).In h) (b:∀ (w:bYf)(h:Heap),e w h->h.get? T=some (cXk #[])) (F:∀ (w:bYf)(mg:Str->Option bKN)(i:Nat)(h:Heap),(K w.params).In h->h.Ns bYi mg->mg d.name=some (.ref i)-> ∃ (j:cQI)(c:Nat),cZn (K w.params) c T=true/\(K w.params).lookup T=none/\(∀ (s:bKQ)(u:bKN),BindsTo s j ⟨[u],[]⟩ [("_law_script",u)])/\∀base:Heap,(K w.params).In base->base.Ns bYi mg->cQP base c T->base.BuiltinsAt mg T->y8 l.prog w (K w.params) mg base CX0 11 i j ["_law_script"] (Alike.bX1 T (K w.params))): PySem.W.WalkO q loose r e l.row.toRowW d [] (λf v=>PySem.call f v):=
 L2.bZi (n:=63) (k:=11) (x:="_law_script") (CX:=CX0) (sp:=Alike.bX1) y (by decide) g ⟨rfl,by decide,by decide⟩ t b F (λ_ _ a m hl p o=>⟨a,m,rfl,o,hl,.inl p,λ_=>rfl⟩) λ_ _ _ _ z=>z
end End4
open PySem PySem.W PyProof.Rows
set_option maxRecDepth 100000 in
set_option maxHeartbeats 0 in
theorem PySem.Challenge.cw_letterdesk_k04_answers_holds : PySem.Challenge.rw_letterdesk_k04_answers.Holds := by
 w_on;o_law;k_head;(case hw=>w_witness2);k_fill;refine End4.walk (l:=PySem.Challenge.rw_letterdesk_k04_answers) rfl rfl (λw h Y=>PySem.W.km_in_of Y) (λw h Y=>PySem.W.km_tabs_of Y _ (bK2 ..)) ?F;case F=>
  intro w c d h b G a;refine' End4.all_mk b G a ?d60 ?d61 ?d62 ?d63 ?d64 ?d65 ?d66 ?d67 ?d68 ?d69 ?d70 ?d71 ?d9 ?d24 ?cl ?d10 ?d11 ?d12 ?d13 ?d15 ?d16 ?d17 ?d18 ?d19 ?d20 ?d21 ?d22 ?d23 ?d25 ?d28 ?d29 ?d30 ?d31 ?d32 ?d33 ?d34 ?d35 ?d36 ?d37 ?d38 ?d39 ?d58 ?d1 ?d2 ?d3 ?d4 ?d5 ?d6 ?d7 ?d8 ?d14 ?d26 ?d27 ?d56 ?d57 ?d59 ?d72 ?d73 ?d74 ?d75 ?d76 ?d77 ?d78 ?d79 ?d80 ?d81 ?d82 ?d83 ?d84 ?d85 ?d86 ?d87 ?d88 ?d89 ?d90 ?d91 ?d40 ?d41 ?d42 ?d43 ?d44 ?d45 ?d46 ?d47 ?d48 ?d49 ?d50 ?d51 ?d52 ?d53 ?d54 ?d55 ?dL ?aA ?lA ?cA1 ?kA ?nD ?lD ?pD ?z_len ?z_min ?z_sum ?z_sorted ?z_isinstance ?z_int ?z_str ?z_bool ?z_list ?z_tuple ?z_set ?z_range ?z_reversed ?z_max ?y_week ?y_open ?tb ?tn;(case d60=>apply End4.bJT<;> first|k_is|kernel_rfl);(case d61=>apply End4.uI<;> first|k_is|kernel_rfl);(case d62=>apply End4.uI<;> first|k_is|kernel_rfl);(case d63=>apply End4.uI<;> first|k_is|kernel_rfl);(case d64=>apply End4.uI<;> first|k_is|kernel_rfl);(case d65=>apply End4.uI<;> first|k_is|kernel_rfl);(case d66=>apply End4.uI<;> first|k_is|kernel_rfl);(case d67=>apply End4.uI<;> first|k_is|kernel_rfl);(case d68=>apply End4.uI<;> first|k_is|kernel_rfl);(case d69=>apply End4.uI<;> first|k_is|kernel_rfl);(case d70=>apply End4.uI<;> first|k_is|kernel_rfl);(case d71=>apply End4.uI<;> first|k_is|kernel_rfl);(case d9=>apply End4.bZA<;> k_is);(case d24=>apply End4.bZA<;> k_is);(case cl=>apply End4.bWX<;> k_is);(case d10=>apply End4.xW<;> k_is);(case d11=>apply End4.xW<;> k_is);(case d12=>apply End4.xW<;> k_is);(case d13=>apply End4.xW<;> k_is);(case d15=>apply End4.xW<;> k_is);(case d16=>apply End4.xW<;> k_is);(case d17=>apply End4.xW<;> k_is);(case d18=>apply End4.xW<;> k_is);(case d19=>apply End4.xW<;> k_is);(case d20=>apply End4.xW<;> k_is);(case d21=>apply End4.xW<;> k_is);(case d22=>apply End4.xW<;> k_is);(case d23=>apply End4.xW<;> k_is);(case d25=>apply End4.xW<;> k_is);(case d28=>apply End4.xW<;> k_is);(case d29=>apply End4.xW<;> k_is);(case d30=>apply End4.xW<;> k_is);(case d31=>apply End4.xW<;> k_is);(case d32=>apply End4.xW<;> k_is);(case d33=>apply End4.xW<;> k_is);(case d34=>apply End4.xW<;> k_is);(case d35=>apply End4.xW<;> k_is);(case d36=>apply End4.xW<;> k_is);(case d37=>apply End4.xW<;> k_is);(case d38=>apply End4.xW<;> k_is);(case d39=>apply End4.xW<;> k_is);(case d58=>apply End4.xW<;> k_is);(case d1=>apply End4.xK<;> k_is);(case d2=>apply End4.xK<;> k_is);(case d3=>apply End4.xK<;> k_is);(case d4=>apply End4.xK<;> k_is);(case d5=>apply End4.xK<;> k_is);(case d6=>apply End4.xK<;> k_is);(case d7=>apply End4.xK<;> k_is);(case d8=>apply End4.xK<;> k_is);(case d14=>apply End4.xK<;> k_is);(case d26=>apply End4.xK<;> k_is);(case d27=>apply End4.xK<;> k_is);(case d56=>apply End4.xK<;> k_is);(case d57=>apply End4.xK<;> k_is);(case d59=>apply End4.xK<;> k_is);(case d72=>apply End4.xK<;> k_is);(case d73=>apply End4.xK<;> k_is);(case d74=>apply End4.xK<;> k_is);(case d75=>apply End4.xK<;> k_is);(case d76=>apply End4.xK<;> k_is);(case d77=>apply End4.xK<;> k_is);(case d78=>apply End4.xK<;> k_is);(case d79=>apply End4.xK<;> k_is);(case d80=>apply End4.xK<;> k_is);(case d81=>apply End4.xK<;> k_is);(case d82=>apply End4.xK<;> k_is);(case d83=>apply End4.xK<;> k_is);(case d84=>apply End4.xK<;> k_is);(case d85=>apply End4.xK<;> k_is);(case d86=>apply End4.xK<;> k_is);(case d87=>apply End4.xK<;> k_is);(case d88=>apply End4.xK<;> k_is);(case d89=>apply End4.xK<;> k_is);(case d90=>apply End4.xK<;> k_is);(case d91=>apply End4.xK<;> k_is);(case d40=>apply End4.xQ<;> k_is);(case d41=>apply End4.xQ<;> k_is);(case d42=>apply End4.xQ<;> k_is);(case d43=>apply End4.xQ<;> k_is);(case d44=>apply End4.xQ<;> k_is);(case d45=>apply End4.xQ<;> k_is);(case d46=>apply End4.xQ<;> k_is);(case d47=>apply End4.xQ<;> k_is);(case d48=>apply End4.xQ<;> k_is);(case d49=>apply End4.xQ<;> k_is);(case d50=>apply End4.xQ<;> k_is);(case d51=>apply End4.xQ<;> k_is);(case d52=>apply End4.xQ<;> k_is);(case d53=>apply End4.xQ<;> k_is);(case d54=>apply End4.xQ<;> k_is);(case d55=>apply End4.xQ<;> k_is);(case dL=>apply End4.xQ<;> k_is);(case aA=>k_is);(case lA=>k_is);(case cA1=>k_is);(case kA=>k_is);(case nD=>k_is);(case lD=>k_is);(case pD=>exact⟨⟨_,rfl⟩,rfl,rfl,⟨_,rfl⟩,rfl,rfl,⟨_,rfl⟩,rfl,rfl,⟨_,rfl⟩,rfl,rfl,⟨_,rfl⟩,rfl,rfl,⟨_,rfl⟩,rfl,rfl,⟨_,rfl⟩,rfl,rfl,⟨_,rfl⟩,rfl,rfl,⟨_,rfl⟩,rfl,rfl,⟨_,rfl⟩,rfl,rfl,⟨_,rfl⟩,rfl,rfl,⟨_,rfl⟩,rfl,rfl,⟨_,rfl⟩,rfl,rfl,⟨_,rfl⟩,rfl,rfl,⟨_,rfl⟩,rfl,rfl,⟨_,rfl⟩,rfl,rfl,⟨_,rfl⟩,rfl,rfl,cQd⟩);(case z_len=>k_is);(case z_min=>k_is);(case z_sum=>k_is);(case z_sorted=>k_is);(case z_isinstance=>k_is);(case z_int=>k_is);(case z_str=>k_is);(case z_bool=>k_is);(case z_list=>k_is);(case z_tuple=>k_is);(case z_set=>k_is);(case z_range=>k_is);(case z_reversed=>k_is);(case z_max=>k_is);(case y_week=>k_is);(case y_open=>k_is);(case tb=>kernel_rfl);(case tn=>kernel_rfl)
