import PyProof.Rows.All
import Wide.All
import OpenK.AllK
import Wide.FinOn
import KE.KLam
import KE.KNestM
import KE.KSortTup
import Lean
import OpenK.KCls
import PyProof.CollectWalk
import PyProof.CompMap
import PyProof.DictStraight
import PyProof.EqAt
import PyProof.EqKinds
import PyProof.ExcArgs
import PyProof.ExcBaseAll.Exception
import PyProof.FactsAll.set
import PyProof.FactsBase
import PyProof.InstStoreFacts
import PyProof.ListRange
import PyProof.LongRange
import PyProof.MakeMany
import PyProof.MinMaxWalk
import PyProof.NeKinds
import PyProof.Rows.SetFrom
import PyProof.Rows.SortWalk
import PyProof.SeqI3
import PyProof.SetKind
import PyProof.SetNew
import PyProof.SetScanFacts
import PyProof.StationsW
import PyProof.TupleCall
import PyProof.WalkInts
import PyProof.Walks
import PySem.Challenge.RW_letterdesk_k04_answers
set_option Elab.async false
set_option linter.all false
set_option maxRecDepth 100000
set_option maxHeartbeats 4000000
open Array renaming length_toList → cQD, getElem?_eq_getElem → cQJ, getElem?_toList → cQP, getElem?_eq_some_iff → cXG, getD → cXK, getElem?_eq_none → cZa, getElem?_extract_of_lt → cJf, getElem?_append_left → cJp, perm_iff_toList_perm → cJq
open Classical renaming choose_spec → cZW
open False renaming elim → cQN
open ForInStep renaming yield → cZZ
open Int renaming toNat_natCast → bYU, not_lt → cX6, zero_add → cZi
open List renaming getElem?_eq_getElem → bYh, length_map → bYo, mem_cons → bYr, mem_cons_of_mem → bYt, getElem?_eq_some_iff → bYu, range → bYv, mem_cons_self → bYx, mem_singleton → bYz, mem_of_getElem? → bYA, size_toArray → bYB, getElem?_map → bYC, mem_append_right → bYF, getElem?_append_right → bYH, length_append → bYM, mem_range → bYO, getElem?_eq_none → bYQ, mem_append → bYX, map_cons → bY2, getD → bY4, getElem?_append_left → bY5, getElem_of_mem → bY7, length_range → bY8, length_filter_le → cQf, length_cons → cQh, mem_filter → cQl, mem_map → cQm, take_length → cQn, toArray → cQp, filter_append → cQr, length_singleton → cQt, append_nil → cQu, take_add_one → cQw, length_pos_iff → cQz, length_take → cQA, pairwise_singleton → cQF, pairwise_cons → cQG, contains_iff_mem → cQR, filter_cons_of_neg → cQW, filter_cons_of_pos → cQX, getElem_inj → cQ3, lookup_cons → cQ4, mem_append_left → cXb, filter_sublist → cXg, getElem?_range → cXh, getElem_mem → cXj, length_nil → cXn, map_append → cXo, nodup_cons → cXp, append_assoc → cXu, ext_getElem? → cXv, any_cons → cXx, lookup → cXy, contains_cons → cXA, map_map → cXB, find?_cons → cXD, range_succ → cXE, nodup_append → cXI, pairwise_iff_getElem → cXL, length → cXM, replicate → cXO, not_mem_nil → cXR, filterMap_cons → cX0, filter_eq_self → cX1, getElem?_set_self → cZb, eq_nil_of_length_eq_zero → cZd, all_eq_true → cZq, nodup_range → cZr, all_cons → cZu, zip → cZF, pairwise_map → cZL, append_inj' → cZS, cons_append → cZT, countP_cons → cZU, forIn_cons → cZ0, getElem?_set_ne → cZ1, pairwise_append → cZ2, map_congr_left → cJb, toList_toArray → cJc, Perm → cJl, filter_congr → cJs, foldl_append → cJt, getElem?_eq_none_iff → cJA, length_erase_of_mem → cJF
open List.Nodup renaming mem_erase_iff → cJE
open Nat renaming le_refl → bYp, ne_of_lt → bYG, lt_of_lt_of_le → bYJ, le_trans → bYT, zero_le → cQe, lt_succ_of_lt → cQq, lt_irrefl → cQs, sub_self → cQC, le_succ_of_le → cQO, not_lt_zero → cQ1, lt_succ_self → cQ5, le_succ → cXm, le_of_eq → cXS, le_of_lt → cXT, ne_of_gt → cXU, lt_or_ge → cZj
open Ne renaming symm → bY0
open Option.some renaming inj → bYD, injEq → cJu
open PyProof.Rows renaming seqObj → bY6, envOfC → cXc, IntsAre → cXN, get?_update_seq → cX8, IsTup → cZe, callWith_type1 → cZm, listUpdate_at → cZw, entry_list_sort → cJg, args_list_sort → cJn, slot_list_sort → cJo
open PyProof.Rows.F renaming plain_set_update_loop → cXC, entry_set_update_loop → cZG
open PyProof.Rows.IntsAre renaming int_at → cJm
open PySem renaming Value → bYi, wpAny_bind → bYj, Shared → bYl, wpAny_pure → bYn, wpAny → bYq, model → bYs, Program → bYE, sizeLine → bYI, World → bYK, mainGlobals → bYN, sizeLine_eq → bYR, starEach → bYV, Around → bYW, bootBuiltins → bY3, Paired → cQc, wpAny_mono → cQi, rawInt → cQy, wpAny_holding → cQB, mem_of_lookup → cQL, compareOp → cQM, backTo → cQU, wpAny_Call_Name_kw → cQV, SetTable → cQ0, Builtin → cQ2, codeAny_mono → cQ7, wpAny_call_entry → cQ8, FuncData → cXd, wpAny_newObj_type → cXe, wpAny_truthy_bool → cXf, wpAny_setField → cXl, Scope → cXs, codeAny_builtin → cXt, codeAny → cXw, keywordEach → cXz, wpAny_passesOwn → cXF, wpAny_setState_of → cXJ, binaryOp → cXX, bindArgs → cXY, wpAny_askSetting → cXZ, wpAny_setEntries_of → cX2, wpAny_callSpecial?_slot → cX3, attributeBase → cX4, behindInMarks → cX5, sysModules → cX9, NameKind → cZc, isSubtype → cZn, pickOrder → cZo, setFlight → cZp, backToKw → cZs, wpAny_call → cZt, plainId_quiet → cZx, wpAny_attempt → cZy, wpAny_newList → cZz, holding → cZA, sliceBounds → cZB, valueAt → cZC, getMethod → cZI, noteFrame → cZJ, scanBound → cZK, wpAny_standAt → cZR, builtinLookup_eq_fast → cZX, plainObj_wpAny_Assign_Attribute → cZY, assignEach → cZ4, codeAny_call_builtin → cZ5, isInstance → cZ6, letOwnedTupleGo → cZ7, wpAny_execs_nil → cZ8, wpAny_ite_split → cZ9, wpAny_fieldsOf → cJi, fits_of_scanBound → cJx, foldedSetIterable → cJy, wpAny_pyIter_list → cJz, wpAny_comprehension_free → cJH
open PySem.Around renaming under_plainId → cXa
open PySem.Builtin.List renaming listExtendWith → cZl, listTooLong → cZE, listLengthHint → cJj, listSameRef → cJD
open PySem.Calls renaming call_function_entry → cZD, Name_function_global → cJr
open PySem.Code renaming quiet_builtin → cJk
open PySem.F renaming plainAttrs_list → bYS, slot_list_append → bYY, type_list_append → bYZ, called_set → cQ6, excBase_Exception → cJB, plain_extend_loop → cJC, args_tuple_add_2 → cJG
open PySem.Heap renaming get?_push_of_some → bYm, lt_size → bYw, get?_push_size → bYL, get?_update_other → bYP, get?_update_self → cQk, size_push → cQQ, SameBut → cXi, ExtBut → cZQ, get?_update_ne → cJa
open PySem.Heap.SameBut renaming update → cQK
open PySem.Obj renaming mapSeq → bY9, mapFields → cQx, isFreed_of_fields → cQE, data_mapFields → cQH
open PySem.Paired renaming length → cXH
open PySem.PassesOwn renaming never → cQd
open PySem.SeqAt renaming EqAt → cJJ
open PySem.SetTable renaming below → cQg, grown → cXQ, insertAt → cZh
open PySem.SetTable.below renaming go → cZg
open PySem.SetTable.probe renaming go → cJw
open PySem.Str renaming ofString → cZH
open PySem.W renaming Frag → bYk, mg_none_of → bYy, findIn → bY1, nsIn → cQa, keepIn → cQb, fnOf → cQj, kitOne → cQo, katRev → cQv, kia_one → cQS, kia_tup → cQT, codeIn → cQY, emptyDict → cQZ, mg_of → cQ9, CodeHd → cXk, instObj → cXq, kla_obj → cXr, tabObj → cXP, isFn → cXV, plainGet → cXW, callWith_K → cX7, hasDictIn → cZf, methodCall_KW → cZk, mroIn → cZv, kitx_dict → cZM, kitx_list → cZN, plainOver → cZO, specialIn → cZP, codeHdIn → cZV, callWith_K0 → cJd, plainGet_of → cJe, lookIn → cJh, methodObj → cJv, KatTups → cJI
open PySem.W.KatTups renaming cons → cZ3
open True renaming intro → cQI
theorem dk {p:Prop}[Decidable p](h:decide p=true:=by decide +kernel):p:=of_decide_eq_true h
namespace L2
open PySem PySem.Spec PyProof.Rows
abbrev Key:=Sum Int Str
def aV9:Key->bYi->Bool
 |.inl k,v=>Value.isInt k v
 |.inr x,v=>Value.isStrOf x v
def bK4(w:bYK):Key->Int
 |.inl k=>hashInt k
 |.inr x=>hashStr w x
theorem x0:∀ {k:Key} {v:bYi},aV9 k v=true->(∃i t,k=Sum.inl i/\v=Value.int i t)\/(∃x t,k=Sum.inr x/\v=Value.str x t)
 |.inl i,v,h=>by obtain⟨t,e⟩:=Value.isInt_shape (k:=i) (v:=v) h;exact .inl ⟨i,t,rfl,e⟩
 |.inr x,v,h=>by obtain⟨t,e⟩:=Value.isStrOf_shape (x:=x) (v:=v) h;exact .inr ⟨x,t,rfl,e⟩
theorem aKF(i:Int)(t:Tok):aV9 (.inl i) (.int i t)=true:=by simp[aV9,Value.isInt]
theorem aKG(x:Str)(t:Tok):aV9 (.inr x) (.str x t)=true:=by simp[aV9,Value.isStrOf]
theorem bWc(a b:Int):decide ((Sum.inl a:Key)=Sum.inl b)=(a==b):=by
 by_cases e:a=b
 ·subst e;simp
 ·have h:¬ (Sum.inl a:Key)=Sum.inl b:=λq=>e (Sum.inl.inj q);rw[decide_eq_false h];exact(beq_eq_false_iff_ne.mpr e).symm
theorem bWf(a b:Str):decide ((Sum.inr a:Key)=Sum.inr b)=decide (a=b):=by
 by_cases e:a=b
 ·subst e;simp
 ·have h:¬ (Sum.inr a:Key)=Sum.inr b:=λq=>e (Sum.inr.inj q);rw[decide_eq_false h,decide_eq_false e]
theorem bWd(a:Int)(b:Str):decide ((Sum.inl a:Key)=Sum.inr b)=false:=decide_eq_false (λq=>nomatch q)
theorem bWe(a:Str)(b:Int):decide ((Sum.inr a:Key)=Sum.inl b)=false:=decide_eq_false (λq=>nomatch q)
def x2(prog:bYE)(w:bYK):PySem.KeyKind prog w Key where
 is:=aV9
 hash:=bK4 w
 inj:=λv a b ha hb=>by
  rcases x0 ha with⟨i,t,rfl,rfl⟩|⟨x,t,rfl,rfl⟩
  ·rcases x0 hb with⟨j,u,rfl,e⟩|⟨y,u,rfl,e⟩
   ·injection e with e1 _;rw[e1]
   ·exact nomatch e
  ·rcases x0 hb with⟨j,u,rfl,e⟩|⟨y,u,rfl,e⟩
   ·exact nomatch e
   ·injection e with e1 _;rw[e1]
 byValue:=λk v h=>by
  rcases x0 h with⟨i,t,rfl,rfl⟩|⟨x,t,rfl,rfl⟩<;> rfl
 pyHash:=λhv h=>by
  rcases x0 hv with⟨i,t,rfl,rfl⟩|⟨x,t,rfl,rfl⟩
  ·exact wpAny_pyHash_int h
  ·exact wpAny_pyHash_str h
 eqBool:=λhu hv h=>by
  rcases x0 hu with⟨i,t,rfl,rfl⟩|⟨x,t,rfl,rfl⟩
  ·rcases x0 hv with⟨j,u,rfl,rfl⟩|⟨y,u,rfl,rfl⟩
   ·rw[bWc]at h;exact wpAny_eqBool_int h
   ·rw[bWd]at h;exact SeqAt.EqAt.int_str i t y u _ _ _ _ h
  ·rcases x0 hv with⟨j,u,rfl,rfl⟩|⟨y,u,rfl,rfl⟩
   ·rw[bWe]at h;exact SeqAt.EqAt.str_int x t j u _ _ _ _ h
   ·rw[bWf]at h;exact wpAny_eqBool_str h
 «strs»:=λk x t v h=>by
  rcases x0 h with⟨i,u,rfl,e⟩|⟨y,u,rfl,e⟩
  ·exact nomatch e
  ·injection e with e1 _
   subst e1
   cases v<;> rfl
theorem aJh(prog:bYE)(w:bYK)(i:Int)(t:Tok):(x2 prog w).is (.inl i) (.int i t)=true:=aKF i t
theorem jR(prog:bYE)(w:bYK)(x:Str)(t:Tok):(x2 prog w).is (.inr x) (.str x t)=true:=aKG x t
end L2
namespace L2
open PySem PySem.Spec PyProof.Rows
inductive V where
 |non|bl (b:Bool)|int (i:Int)|str (x:Str)|byt (b:Array UInt8)|flt (b:UInt64)|ref (a:Addr)|ty (n:String)
 deriving DecidableEq
def zE:V->bYi->Prop
 |.non,u=>u=Value.none
 |.bl b,u=>u=Value.bool b
 |.int i,u=>∃t,u=Value.int i t
 |.str x,u=>∃t,u=Value.str x t
 |.byt b,u=>∃t,u=Value.bytes b t
 |.flt b,u=>∃t,u=Value.float b t
 |.ref a,u=>u=Value.ref a
 |.ty n,u=>u=Value.type n
abbrev xS:List V->List bYi->Prop:=cQc zE
theorem xS.length{xs:List V}{us:List bYi}(r:xS xs us):xs.length=us.length:=cXH r
theorem xS.get:∀ {xs:List V} {us:List bYi} {i:Nat} {x:V},xS xs us->xs[i]? =some x->∃u,us[i]? =some u/\zE x u
 |_,_,_,_,.nil,e=>by simp at e
 |_,_,0,_,.cons r _,e=>by simp at e;subst e;exact⟨_,rfl,r⟩
 |_,_,i+1,x,.cons _ t,e=>by obtain⟨u,h1,h2⟩:=xS.get (i:=i) (x:=x) t (by simpa using e);exact⟨u,by simpa using h1,h2⟩
theorem xS.set{x:V}{u:bYi}(r:zE x u):∀ {xs:List V} {us:List bYi} (i:Nat),xS xs us->xS (xs.set i x) (us.set i u)
 |_,_,_,.nil=> .nil
 |_,_,0,.cons _ t=> .cons r t
 |_,_,i+1,.cons q t=> .cons q (xS.set r i t)
theorem xS.append:∀ {xs ys:List V} {us a:List bYi},xS xs us->xS ys a->xS (xs++ys) (us++a)
 |_,_,_,_,.nil,s=>s
 |_,_,_,_,.cons r t,s=> .cons r (xS.append t s)
theorem xS.take:∀ {xs:List V} {us:List bYi} (n:Nat),xS xs us->xS (xs.take n) (us.take n)
 |_,_,0,_=> .nil
 |_,_,_+1,.nil=> .nil
 |_,_,n+1,.cons r t=> .cons r (xS.take n t)
theorem xS.drop:∀ {xs:List V} {us:List bYi} (n:Nat),xS xs us->xS (xs.drop n) (us.drop n)
 |_,_,0,r=>r
 |_,_,_+1,.nil=> .nil
 |_,_,n+1,.cons _ t=>xS.drop n t
def aXT:Option V->Option bYi->Prop
 |some v,some u=>zE v u
 |none,none=>True
 |_,_=>False
def KV{κ:Type}:List (κ×V)->List (κ×bYi)->Prop:=cQc λ(p:κ×V)(q:κ×bYi)=>p.1=q.1/\zE p.2 q.2
def kV:Key->V
 |.inl i=> .int i
 |.inr x=> .str x
inductive HO where
 |lst (xs:List V)
 |tup (xs:List V)
 |dK (kvs:List (Key×V))|dT (kvs:List (List Key×V))
 |set (S:Int->Bool) (n:Nat)
 |ins (C dx:Addr) (fs:List (Str×V))
 |own (x:Addr)
 |xd (fs:List (Str×V))
 |met (f x:Addr)
 |rng (lo hi:Int)
 |frz (o:Obj) (u:HO)
 |tbl (ps:Array bYi)
 |ext (φ:Heap->Prop)
abbrev Hp:=Addr->Option HO
def upd(H:Hp)(a:Addr)(o:HO):Hp:=λb=>if b=a then some o else H b
theorem yB{H:Hp}{a:Addr}{o:HO}:upd H a o a=some o:=by unfold upd;rw[if_pos rfl]
theorem yI{H:Hp}{a b:Addr}{o:HO}(h:b≠a):upd H a o b=H b:=by unfold upd;rw[if_neg h]
theorem uU{H:Hp}{a:Addr}{o u:HO}:upd (upd H a o) a u=upd H a u:=by
 funext b;unfold upd;split<;> rfl
theorem aQS{H:Hp}{a b:Addr}{o u:HO}(h:H a=some o)(h':H b=some u)(d:o≠u):a≠b:=by
 intro e;subst e;rw[h]at h';exact d (bYD h')
theorem yJ{H:Hp}{a b:Addr}{o:HO}(h:H a=some o)(h':H b=none):a≠b:=by
 intro e;subst e;rw[h]at h';cases h'
section
variable (P:bYE)(w:bYK)
def x4(H:Hp)(h:Heap)(a:Addr):HO->Prop
 |.lst xs=>xs.length<=bYI/\∃ (c:List bYi)(n:Nat),xS xs c/\h.get? a=some {cls:= .type "list",data:= .seq c.toArray n}
 |.tup xs=>xs.length<=bYI/\∃c:List bYi,xS xs c/\cZe h a c.toArray
 |.dK b=>b.length<=bYI/\(a==cX9)=false/\∃d,KV b d/\h.DictOf (x2 P w) a d
 |.dT b=>b.length<=bYI/\(a==cX9)=false/\∃xs:List (List Key×Addr×bYi),
   cQc (λ(p:List Key×V)(q:List Key×Addr×bYi)=>p.1=q.1/\H q.2.1=some (.tup (p.1.map kV))/\zE p.2 q.2.2) b xs/\
   ∃o es e,h.get? a=some o/\o.ExactDict/\o.data= .dict es e/\es.toList=xs.map (entryOfKey (tupleKind (x2 P w)))/\(xs.map (·.1)).Nodup
 |.set S n=>h.SetOf (intKind P w) a S n
 |.ins C dx fs=>H dx=some (.own a)/\fs.length<=1000/\dx≠a/\h.get? a=some (cXq C dx)/\
   ∃mA,h.Ns1 dx mA/\(∀f,aXT (fs.lookup f) (mA f))/\PySem.Within mA (fs.map (·.1))
 |.own _=>∃o,h.get? a=some o
 |.xd fs=>∃mA,h.Ns1 a mA/\∀f,aXT (fs.lookup f) (mA f)
 |.rng lo hi=>∃t u v,h.get? a=some {cls:= .type "range",data:= .fields #[.int lo t,.int hi u,.int 1 v] }
 |.frz o u=>h.get? a=some o/\x4 H h a u
 |.tbl ps=>h.get? a=some {cls:= .none,data:= .fields ps}
 |.met f x=>h.get? a=some (cJv (.ref f) (.ref x))
 |.ext φ=>φ h/\(∃o,h.get? a=some o)/\∀h1 h2:Heap,φ h1->(∀o,h1.get? a=some o->h2.get? a=some o)->φ h2
def HOk(H:Hp)(h:Heap):Prop:=∀a o,H a=some o->x4 P w H h a o
end
section
variable {P:bYE}{w:bYK}{H H':Hp}{h h':Heap}{a:Addr}{o:HO}
theorem x4.lt(x:x4 P w H h a o):a<h.objs.size:=by
 cases o with
 |lst xs=>obtain⟨_,_,_,_,e⟩:=x;exact bYw e
 |tup xs=>obtain⟨_,_,_,p⟩:=x;exact p.lt
 |dK b=>obtain⟨_,_,_,_,o,_,_,e,_⟩:=x;exact bYw e
 |dT b=>obtain⟨_,_,_,_,o,_,_,e,_⟩:=x;exact bYw e
 |set S n=>obtain⟨o,_,_,_,e,_⟩:=x;exact bYw e
 |ins C dx fs=>obtain⟨_,_,_,e,_⟩:=x;exact bYw e
 |own y=>obtain⟨_,e⟩:=x;exact bYw e
 |xd fs=>obtain⟨_,⟨_,_,_,e,_⟩,_⟩:=x;exact bYw e
 |rng lo hi=>obtain⟨_,_,_,e⟩:=x;exact bYw e
 |frz c u=>obtain⟨e,_⟩:=x;exact bYw e
 |tbl ps=>exact bYw (show h.get? a=some _ from x)
 |met f y=>exact bYw (show h.get? a=some _ from x)
 |ext φ=>obtain⟨_,⟨_,e⟩,_⟩:=x;exact bYw e
theorem Paired.mapP{α β:Type}{F G:α->β->Prop}:∀ {c:List α} {d:List β},cQc F c d->(∀a b,F a b->G a b)->cQc G c d
 |_,_,.nil,_=> .nil
 |_,_,.cons r t,f=> .cons (f _ _ r) (Paired.mapP t f)
theorem x4.stay(x:x4 P w H h a o)(k:∀b u,(b=a\/H b=some (.own a))->h.get? b=some u->h'.get? b=some u) (E:∀b,H b=some (.own a)->H' b=some (.own a)) (A:∀b xs,H b=some (.tup xs)->H' b=some (.tup xs)):x4 P w H' h' a o:=by
 induction o with
 |lst xs=>obtain⟨z,j,n,r,e⟩:=x;exact⟨z,j,n,r,k _ _ (.inl rfl) e⟩
 |tup xs=>obtain⟨z,j,r,g,e,c⟩:=x;exact⟨z,j,r,g,k _ _ (.inl rfl) e,c⟩
 |dK l=>obtain⟨z,y,B,r,g,es,i,e,c⟩:=x;exact⟨z,y,B,r,g,es,i,k _ _ (.inl rfl) e,c⟩
 |dT l=>obtain⟨z,y,xs,r,g,es,i,e,c⟩:=x;exact⟨z,y,xs,Paired.mapP r λp q z=>⟨z.1,A _ _ z.2.1,z.2.2⟩,g,es,i,k _ _ (.inl rfl) e,c⟩
 |set S n=>obtain⟨g,es,i,t,e,c⟩:=x;exact⟨g,es,i,t,k _ _ (.inl rfl) e,c⟩
 |ins C dx fs=>obtain⟨d,z,ne,e,mA,⟨m,es,i,D,c⟩,r⟩:=x;exact⟨E _ d,z,ne,k _ _ (.inl rfl) e,mA,⟨m,es,i,k _ _ (.inr d) D,c⟩,r⟩
 |own y=>obtain⟨g,e⟩:=x;exact⟨g,k _ _ (.inl rfl) e⟩
 |xd fs=>obtain⟨mA,⟨m,es,i,e,c⟩,r⟩:=x;exact⟨mA,⟨m,es,i,k _ _ (.inl rfl) e,c⟩,r⟩
 |rng lo hi=>obtain⟨t,u,v,e⟩:=x;exact⟨t,u,v,k _ _ (.inl rfl) e⟩
 |frz g u s=>obtain⟨e,q⟩:=x;exact⟨k _ _ (.inl rfl) e,s q⟩
 |tbl ps=>have e:h.get? a=some {cls:= .none,data:= .fields ps}:=x;show h'.get? a=some {cls:= .none,data:= .fields ps};exact k a _ (.inl rfl) e
 |met f y=>have e:h.get? a=some (cJv (.ref f) (.ref y)):=x;show h'.get? a=some (cJv (.ref f) (.ref y));exact k a _ (.inl rfl) e
 |ext φ=>obtain⟨p,⟨o,e⟩,st⟩:=x;exact⟨st _ _ p λo q=>k _ _ (.inl rfl) q,⟨o,k _ _ (.inl rfl) e⟩,st⟩
theorem HOk.lt(x:HOk P w H h)(e:H a=some o):a<h.objs.size:=(x a o e).lt
theorem HOk.fresh(x:HOk P w H h)(e:h.objs.size<=a):H a=none:=by
 cases q:H a with
 |none=>rfl
 |some u=>exact absurd (bYJ (x.lt q) e) (cQs _)
theorem HOk.kept(x:HOk P w H h)(k:∀b u,h.get? b=some u->h'.get? b=some u):HOk P w H h':=λa o e=>
 (x a o e).stay (λb u _ q=>k b u q) (λ_ q=>q) λ_ _ q=>q
theorem HOk.laid(x:HOk P w H h)(k:∀b u,h.get? b=some u->h'.get? b=some u)(i:h.objs.size<=a)(d:x4 P w (upd H a o) h' a o):HOk P w (upd H a o) h':=λb u e=>by
 have f:=x.fresh i;by_cases g:b=a
 ·subst g;rw[yB]at e;cases e;exact d
 ·rw[yI g]at e;exact(x b u e).stay (λc v _ q=>k c v q) (λc q=>by rw[yI (yJ q f)];exact q) λc xs q=>by rw[yI (yJ q f)];exact q
end
def Rd(H:Hp)(a:Addr)(u:HO):Prop:=H a=some u\/∃o,H a=some (.frz o u)
theorem Rd.ok{P:bYE}{w:bYK}{H:Hp}{h:Heap}{a:Addr}{u:HO}(r:Rd H a u)(x:HOk P w H h):x4 P w H h a u:=by
 rcases r with r|⟨o,r⟩
 ·exact x a u r
 ·obtain⟨_,q⟩:=x a _ r;exact q
def Mut:Option HO->Prop
 |some (.lst _)=>True
 |some (.dK _)=>True
 |some (.dT _)=>True
 |some (.set _ _)=>True
 |some (.ins _ _ _)=>True
 |some (.ext _)=>True
 |_=>False
section
variable {P:bYE}{w:bYK}{H:Hp}{h h':Heap}{x e:Addr}{o':HO}
theorem HOk.write(ok:HOk P w H h)(i:Mut (H x))(n:e=x\/H e=some (.own x))(k:∀b u,b≠e->h.get? b=some u->h'.get? b=some u)(m:∃u,h'.get? e=some u)
  (l:x4 P w (upd H x o') h' x o'):HOk P w (upd H x o') h':=λb u q=>by
 have d:∀c y,H c=some (.own y)->c≠x:=λc y r z=>by subst z;rw[r]at i;exact i
 have f:∀c xs,H c=some (.tup xs)->c≠x:=λc xs r z=>by subst z;rw[r]at i;exact i
 by_cases j:b=x
 ·subst j;rw[yB]at q;cases q;exact l
 ·rw[yI j]at q;by_cases a:b=e
  ·have o:H b=some (.own x):=by
    rcases n with z|z
    ·exact absurd (a.trans z) j
    ·rw[a];exact z
   rw[q]at o;cases o;obtain⟨v,p⟩:=m;exact⟨v,by rw[a];exact p⟩
  ·refine(ok b u q).stay (λc v g r=>k c v ?_ r) (λc r=>by rw[yI (d c b r)];exact r) λc xs r=>by rw[yI (f c xs r)];exact r
   rcases g with rfl|g
   ·exact a
   ·rintro rfl;rcases n with z|z
    ·exact d c b g z
    ·rw[g]at z;cases z;exact j rfl
end
structure Un(fs ex:List Addr)(H H':Hp)(h h':Heap):Prop where
 keep:∀b o,h.get? b=some o->H b=none->b∉fs->b∉ex->h'.get? b=some o
 slot:∀b o,h.get? b=some o->H b=none->b∈fs->b∉ex->∃sl,h'.get? b=some {o with slots:=sl}
 free:∀b o,h.get? b=some o->H b=none->b∉ex->H' b=none
 there:∀b o,h.get? b=some o->b∉ex->∃o',h'.get? b=some o'
 tups:∀b xs,H b=some (.tup xs)->H' b=some (.tup xs)
 frzs:∀b o u,H b=some (.frz o u)->H' b=some (.frz o u)
 tbls:∀b ps,H b=some (.tbl ps)->∃more,H' b=some (.tbl (ps++more))
section
variable {fs fs' ex ex':List Addr}{H H1 H2:Hp}{h h1 h2 h':Heap}{a x e:Addr}{o:HO}
theorem Un.any(u:Un fs ex H H1 h h1){b:Addr}{a:Obj}(q:h.get? b=some a)(n:H b=none)(c:b∉ex):∃e,h1.get? b=some {a with slots:=e}:=by
 by_cases d:b∈fs
 ·exact u.slot b a q n d c
 ·exact⟨a.slots,u.keep b a q n d c⟩
theorem Un.kept(k:∀b u,h.get? b=some u->h'.get? b=some u):Un fs ex H H h h':=
 ⟨λb a q _ _ _=>k b a q,λb a q _ _ _=>⟨a.slots,k b a q⟩,λ_ _ _ n _=>n,λb a q _=>⟨a,k b a q⟩,λ_ _ q=>q,λ_ _ _ q=>q,λ_ ps q=>⟨#[],by rw[q];simp⟩⟩
theorem Un.refl:Un fs ex H H h h:=Un.kept λ_ _ q=>q
theorem Un.laid(k:∀b u,h.get? b=some u->h'.get? b=some u)(hp:h.objs.size<=a)(hn:H a=none):Un fs ex H (upd H a o) h h' where
 keep:=λb u q _ _ _=>k b u q
 slot:=λb u q _ _ _=>⟨u.slots,k b u q⟩
 free:=λb u q n _=>by rw[yI (bYG (bYJ (bYw q) hp))];exact n
 there:=λb u q _=>⟨u,k b u q⟩
 tups:=λb xs q=>by rw[yI (yJ q hn)];exact q
 frzs:=λb u xs q=>by rw[yI (yJ q hn)];exact q
 tbls:=λb ps q=>⟨#[],by rw[yI (yJ q hn),q];simp⟩
theorem Un.write(c:Mut (H x))(j:e=x\/H e=some (.own x))(k:∀b u,b≠e->h.get? b=some u->h'.get? b=some u)(f:∃u,h'.get? e=some u):Un fs ex H (upd H x o) h h':=by
 have g:∀b,H b=none->b≠x:=λb n z=>by subst z;rw[n]at c;exact c
 have i:∀b,H b=none->b≠e:=λb n z=>by
  subst z;rcases j with r|r
  ·exact g b n r
  ·rw[n]at r;cases r
 have d:∀b u,H b=some u->¬Mut (some u)->b≠x:=λb u q nm z=>by subst z;rw[q]at c;exact nm c
 refine⟨λb u q n _ _=>k b u (i b n) q,λb u q n _ _=>⟨u.slots,k b u (i b n) q⟩,λb u q n _=>by rw[yI (g b n)];exact n,λb u q _=>?_,
  λb xs q=>by rw[yI (d b _ q λz=>z)];exact q,λb u xs q=>by rw[yI (d b _ q λz=>z)];exact q,λb ps q=>⟨#[],by rw[yI (d b _ q λz=>z),q];simp⟩⟩
 by_cases a:b=e
 ·subst a;exact f
 ·exact⟨u,k b u a q⟩
end
def trk(h:Heap)(H:Hp):List Addr:=(bYv h.objs.size).filter λa=>(H a).isSome
def aKz(h:Heap)(H:Hp):Heap:=PySem.W.hideAll h (trk h H)
theorem aKA(h:Heap)(H:Hp):(aKz h H).objs.size=h.objs.size:=PySem.W.hideAll_size _ _
theorem bQO{h:Heap}{H:Hp}{b:Addr}{o:Obj}(e:h.get? b=some o)(n:H b=none):(aKz h H).get? b=some o:=
 PySem.W.hideAll_get _ e λa=>by have q:(H b).isSome=true:=(cQl.mp a).2;rw[n]at q;simp at q
theorem bJE{h:Heap}{H:Hp}{b:Addr}{o:Obj}(e:(aKz h H).get? b=some o):h.get? b=some o/\H b=none:=by
 have a:h.get? b=some o:=PySem.W.of_hideAll (trk h H) e;refine⟨a,?_⟩;cases q:H b with
 |none=>rfl
 |some x=>have c:b∈trk h H:=cQl.mpr ⟨bYO.mpr (bYw a),by simp[q]⟩;have z:(aKz h H).get? b=none:=PySem.W.hideAll_none (trk h H) c;rw[z]at e;cases e
def bJb(g h:Heap)(L:Addr):List (Addr×Obj):=(bYv h.objs.size).filterMap λa=>if a=L\/(g.get? a).isSome=true then none else(h.get? a).map λo=>(a,o)
def jT(g h:Heap)(L d:Addr):List (Addr×Obj):=(bJb g h L).filter λp=>decide (p.1≠d)
end L2
namespace L2
open PySem PySem.Spec PyProof.Rows
structure Mod(K:bYk)(mg:Str->Option bYi)(base:Heap):Prop where
 kin:K.In base
 glob:base.Ns bYN mg
 blt:∃mb,base.Ns builtinsNs mb/\∀x:Str,x≠"__name__"->mb x=bY3 x
 nolimit:base.NoLimit
structure Cx where
 prog:bYE
 w:bYK
 K:bYk
 mg:Str->Option bYi
 base:Heap
 A:bYW
 N:List Str
 s₀:bYl
 H₀:Hp
 env:Env
 outer:List Env
 stack:List Env
 ex:List Addr
 fn:Str->Bool
 calm:Bool
 pn:List (Addr×Obj)
 xe:bYi->bYl->Prop
def frs(l:List Env):List Addr:=l.filterMap (·.frame)
abbrev Cx.fs(X:Cx):List Addr:=frs X.outer
def Vis(a:cXs)(x:Str):Prop:=a.names.lookup x=some .local\/a.names.lookup x=some .cell\/a.names.lookup x=some .free
def Loc(a:cXs)(x:Str):Prop:=a.names.lookup x=some .local\/a.names.lookup x=some .cell
def bKZ(env:Env)(h:Heap)(m:Str->Option bYi)(x:Str)(u:bYi):Prop:=
 (env.kindOf x=some .local/\m x=some u)\/((env.kindOf x=some .cell\/env.kindOf x=some .free)/\∃c,env.cells.lookup x=some c/\h.IsCell c (some u))
structure Cx.Ok(X:Cx):Prop where
 mod:Mod X.K X.mg X.base
 kind:X.env.scope.kind= .function
 glob:X.env.globals=bYN
 blt:X.env.builtins=builtinsNs
 above:X.s₀.heap.objs.size<=X.env.locals
 inj:∀x y c,X.env.cells.lookup x=some c->X.env.cells.lookup y=some c->x=y
 has:∀x,(X.env.kindOf x=some .cell\/X.env.kindOf x=some .free)->∃c,X.env.cells.lookup x=some c
 cab:∀x c,X.fn x=true->X.env.cells.lookup x=some c->X.s₀.heap.objs.size<=c
 hd:X.calm=true->X.A.handled=none
 frames:X.A.frames=some X.stack
 stk:X.stack=X.outer\/(X.stack=X.env::X.outer/\X.env.frame=some X.env.locals)
 exf:∀b∈X.ex,b≠X.env.locals/\∀x c,X.env.cells.lookup x=some c->c≠b
 bs:∀b o,X.base.get? b=some o->X.s₀.heap.get? b=some o/\X.H₀ b=none
 bsz:X.base.objs.size<=X.s₀.heap.objs.size
 noex:∀b o,X.base.get? b=some o->b∉X.ex
 exfs:∀b∈X.ex,b∉X.fs
 funs:X.s₀.heap.FunFrames X.base X.outer
 frf:∀b∈X.fs,X.H₀ b=none
structure Inv(X:Cx)(pins:List (Addr×Obj))(σ:List (Option V))(H:Hp)(s:bYl):Prop where
 ok:X.Ok
 os:s.os=X.s₀.os
 bare:AllBare s.gens
 base:Un X.fs X.ex X.H₀ H X.s₀.heap s.heap
 loc:∃m,s.heap.Ns X.env.locals m/\∀ (i:Nat)(x:Str)(v:V),X.N[i]? =some x->σ[i]? =some (some v)->Vis X.env.scope x->∃u,zE v u/\bKZ X.env s.heap m x u
 cell:∀x c,X.env.cells.lookup x=some c->∃v,s.heap.IsCell c v
 free:H X.env.locals=none
 freeC:∀x c,X.env.cells.lookup x=some c->H c=none
 pin:∀p∈X.pn++pins,s.heap.get? p.1=some p.2/\H p.1=none/\p.1≠X.env.locals/\p.1∉X.fs/\∀v,p.2.data≠ .cell v
 hok:HOk X.prog X.w H s.heap
 len:σ.length=X.N.length
section
variable {X:Cx}{pins:List (Addr×Obj)}{σ:List (Option V)}{H H':Hp}{s:bYl}{h':Heap}
theorem Cx.Ok.nofr(ok:X.Ok){b:Addr}{o:Obj}(e:X.base.get? b=some o):b∉X.fs:=λa=>by
 have:=(ok.funs.mem a).1;rw[e]at this;cases this
theorem Inv.bs(I:Inv X pins σ H s):∀b o,X.base.get? b=some o->s.heap.get? b=some o/\H b=none:=λb o e=>
 ⟨I.base.keep b o (I.ok.bs b o e).1 (I.ok.bs b o e).2 (I.ok.nofr e) (I.ok.noex b o e),I.base.free b o (I.ok.bs b o e).1 (I.ok.bs b o e).2 (I.ok.noex b o e)⟩
theorem Inv.bk(I:Inv X pins σ H s):∀b o,X.base.get? b=some o->s.heap.get? b=some o:=λb o e=>(I.bs b o e).1
theorem Inv.mod(I:Inv X pins σ H s):Mod X.K X.mg X.base:=I.ok.mod
theorem Inv.kIn(I:Inv X pins σ H s):X.K.In s.heap:=I.ok.mod.kin.keeps I.bk
theorem Inv.nolimit(I:Inv X pins σ H s):s.heap.NoLimit:=I.ok.mod.nolimit.keeps I.bk
theorem Inv.lt(I:Inv X pins σ H s):X.env.locals<s.heap.objs.size:=let ⟨_,hn,_⟩:=I.loc;hn.lt
theorem Inv.sz(I:Inv X pins σ H s):X.s₀.heap.objs.size<=s.heap.objs.size:=bYT I.ok.above (cXT I.lt)
theorem Inv.nofs(I:Inv X pins σ H s){a:Addr}(h:s.heap.objs.size<=a):a∉X.fs:=λc=>by
 obtain⟨_,o,b,_⟩:=I.ok.funs.mem c;exact absurd (bYJ (bYw b) (bYT I.sz h)) (cQs _)
theorem Inv.cne(I:Inv X pins σ H s):∀x c,X.env.cells.lookup x=some c->c≠X.env.locals:=λx c e z=>by
 obtain⟨v,o,f,d⟩:=I.cell x c e;obtain⟨m,⟨o',es,g,a,b,_⟩,_⟩:=I.loc;rw[z,a]at f;cases f;rw[b]at d;cases d
theorem Inv.funs(I:Inv X pins σ H s):s.heap.FunFrames X.base X.outer:=by
 have all:∀ (l:List Env),(∀b∈frs l,b∈X.fs)->X.s₀.heap.FunFrames X.base l->s.heap.FunFrames X.base l:=by
  intro l;induction l with
  |nil=>intro _ _;trivial
  |cons env r h=>intro f hl;obtain⟨j,⟨L,o,c,i,m,g⟩,k⟩:=hl;have a:L∈X.fs:=f L (by unfold frs;rw[cX0,c];exact bYx);obtain⟨n,e⟩:=I.base.slot L o m (I.ok.frf L a) a λz=>I.ok.exfs L z a;exact⟨j,⟨L,_,c,i,e,g⟩,h (λb d=>f b (by unfold frs;rw[cX0,c];exact bYt _ d)) k⟩
 exact all X.outer (λ_ d=>d) I.ok.funs
theorem Inv.stack(I:Inv X pins σ H s):s.heap.FunFrames X.base X.stack:=by
 rcases I.ok.stk with e|⟨e,b⟩
 ·rw[e];exact I.funs
 ·rw[e];obtain⟨m,a,_⟩:=I.loc;refine .cons (by rw[I.ok.kind];decide) b a ?_ I.funs;exact Heap.get?_none_of_le (bYT I.ok.bsz I.ok.above)
theorem Inv.stkSub(I:Inv X pins σ H s):∀b∈frs X.stack,b∈X.env.locals::X.fs:=λb a=>by
 rcases I.ok.stk with e|⟨e,c⟩
 ·rw[e]at a;exact bYt _ a
 ·rw[e]at a;unfold frs at a;rw[cX0,c]at a;exact a
theorem Inv.stkFree(I:Inv X pins σ H s):∀b∈frs X.stack,H b=none:=λb a=>by
 rcases bYr.mp (I.stkSub b a)with e|a
 ·rw[e];exact I.free
 ·obtain⟨_,o,c,_⟩:=I.ok.funs.mem a;exact I.base.free b o c (I.ok.frf b a) λz=>I.ok.exfs b z a
theorem Inv.step{g':Array GenState}{t':Nat}{d':Drawn}{ch:List Addr}(I:Inv X pins σ H s) (j:∀b∈ch,(b∈X.ex\/X.s₀.heap.objs.size<=b)/\b≠X.env.locals/\(∀x c,X.env.cells.lookup x=some c->c≠b)/\∀p∈X.pn++pins,p.1≠b) (keep:∀b o,b≠X.env.locals->b∉X.fs->b∉ch->s.heap.get? b=some o->H b=none->h'.get? b=some o) (A:∀b o,b≠X.env.locals->b∈X.fs->b∉ch->s.heap.get? b=some o->H b=none->∃N,h'.get? b=some {o with slots:=N}) (f:∀b o,b∉ch->s.heap.get? b=some o->H b=none->H' b=none) (there:∀b o,b∉ch->s.heap.get? b=some o->∃o',h'.get? b=some o') (D:∀b xs,H b=some (.tup xs)->H' b=some (.tup xs)) (E:∀b o u,H b=some (.frz o u)->H' b=some (.frz o u)) (J:∀b ps,H b=some (.tbl ps)->∃more,H' b=some (.tbl (ps++more))) (S:∀m,s.heap.Ns X.env.locals m->h'.Ns X.env.locals m) (L:HOk X.prog X.w H' h') (V:AllBare g'): Inv X pins σ H' {s with heap:=h',gens:=g',drawn:=d',toks:=t'}:=by
 have F:∀b o,X.s₀.heap.get? b=some o->b≠X.env.locals:=λb o e=>bYG (bYJ (bYw e) I.ok.above);have y:∀b o,X.s₀.heap.get? b=some o->b∉X.ex->b∉ch:=λb o e a B=>by
  rcases(j b B).1 with z|z
  ·exact a z
  ·exact absurd (bYJ (bYw e) z) (cQs _)
 have h:∀x c,X.env.cells.lookup x=some c->∀v,s.heap.IsCell c v->h'.IsCell c v:=λx c e v ⟨o,C,K⟩=>by
  have g:c∉ch:=λz=>(j c z).2.2.1 x c e rfl;by_cases O:c∈X.fs
  ·obtain⟨N,q⟩:=A c o (I.cne x c e) O g C (I.freeC x c e);exact⟨_,q,K⟩
  ·exact⟨o,keep c o (I.cne x c e) O g C (I.freeC x c e),K⟩
 refine⟨I.ok,I.os,V,⟨λb o e n B a=>?_,λb o e n B a=>?_,λb o e n a=>?_,λb o e a=>?_,λb xs e=>D b xs (I.base.tups b xs e),λb o xs e=>E b o xs (I.base.frzs b o xs e),λb ps e=>?_⟩,?_,λx c e=>?_,?_,λx c e=>?_,λp P=>?_,L,I.len⟩
 ·exact keep b o (F b o e) B (y b o e a) (I.base.keep b o e n B a) (I.base.free b o e n a)
 ·obtain⟨N,t⟩:=I.base.slot b o e n B a;obtain⟨M,G⟩:=A b _ (F b o e) B (y b o e a) t (I.base.free b o e n a);exact⟨M,G⟩
 ·obtain⟨o',t⟩:=I.base.there b o e a;exact f b o' (y b o e a) t (I.base.free b o e n a)
 ·obtain⟨o',t⟩:=I.base.there b o e a;exact there b o' (y b o e a) t
 ·obtain⟨U,t⟩:=I.base.tbls b ps e;obtain⟨T,G⟩:=J b _ t;exact⟨U++T,by rw[G,Array.append_assoc]⟩
 ·obtain⟨m,R,hl⟩:=I.loc;refine⟨m,S m R,λi x v t G W=>?_⟩;obtain⟨u,r,l⟩:=hl i x v t G W;refine⟨u,r,?_⟩;rcases l with l|⟨k,c,e,z⟩
  ·exact .inl l
  ·exact .inr ⟨k,c,e,h x c e _ z⟩
 ·obtain⟨v,z⟩:=I.cell x c e;exact⟨v,h x c e v z⟩
 ·obtain⟨m,⟨o,_,_,C,_⟩,_⟩:=I.loc;exact f _ o (λz=>(j _ z).2.1 rfl) C I.free
 ·obtain⟨v,o,C,K⟩:=I.cell x c e;exact f c o (λz=>(j c z).2.2.1 x c e rfl) C (I.freeC x c e)
 ·obtain⟨e,n,ne,Q,d⟩:=I.pin p P;have g:p.1∉ch:=λz=>(j p.1 z).2.2.2 p P rfl;exact⟨keep p.1 p.2 ne Q g e n,f p.1 p.2 g e n,ne,Q,d⟩
theorem Inv.un{t':Nat}(I:Inv X pins σ H s)(u:Un X.fs [] H H' s.heap h')(c:HOk X.prog X.w H' h'):Inv X pins σ H' {s with heap:=h',toks:=t'}:=by
 obtain⟨m,⟨o,es,l,h,r⟩,_⟩:=id I.loc;obtain⟨p,j⟩:=u.any h I.free (by simp);exact I.step (g':=s.gens) (d':=s.drawn) (ch:= []) (λ_ z=>nomatch z) (λb o _ g _ e n=>u.keep b o e n g (by simp)) (λb o _ g _ e n=>u.slot b o e n g (by simp)) (λb o _ e n=>u.free b o e n (by simp)) (λb o _ e=>u.there b o e (by simp)) u.tups u.frzs u.tbls (λq i=>by
  obtain⟨o',d,f,a,k⟩:=i;rw[h]at a;cases a;exact⟨_,d,f,j,k⟩) c I.bare
theorem Inv.call{g':Array GenState}{t':Nat}{d':Drawn}{ch:List Addr}(I:Inv X pins σ H s)(u:Un (frs X.stack) ch H H' s.heap h')(g:HOk X.prog X.w H' h')(t:AllBare g') (f:∀b∈ch,(b∈X.ex\/X.s₀.heap.objs.size<=b)/\b≠X.env.locals/\(∀x c,X.env.cells.lookup x=some c->c≠b)/\∀p∈X.pn++pins,p.1≠b): Inv X pins σ H' {s with heap:=h',gens:=g',drawn:=d',toks:=t'}:=by
 obtain⟨m,⟨o,es,y,k,r⟩,_⟩:=id I.loc;obtain⟨A,h⟩:=u.any k I.free λz=>(f _ z).2.1 rfl;exact I.step (ch:=ch) f (λb o h v a e n=>u.keep b o e n (λz=>(bYr.mp (I.stkSub b z)).elim h v) a) (λb o _ _ a e n=>u.any e n a) (λb o a e n=>u.free b o e n a) (λb o a e=>u.there b o e a) u.tups u.frzs u.tbls (λB l=>by
  obtain⟨o',i,j,d,q⟩:=l;rw[k]at d;cases d;exact⟨_,i,j,h,q⟩) g t
theorem Inv.turned{t':Nat}{it:Addr}(I:Inv X pins σ H s)(k:∀b o,b≠it->s.heap.get? b=some o->h'.get? b=some o)(i:H it=none)(f:it≠X.env.locals) (h1:it∈X.ex\/X.s₀.heap.objs.size<=it) (h2:∀x c,X.env.cells.lookup x=some c->c≠it) (h:∀p∈X.pn++pins,p.1≠it):Inv X pins σ H {s with heap:=h',toks:=t'}:=by
 have d:∀b u,H b=some u->b≠it:=λb u e z=>by rw[z,i]at e;cases e
 refine I.step (g':=s.gens) (d':=s.drawn) (ch:= [it]) (λb l=>?_) (λb o _ _ a e _=>k b o (λz=>a (by simp[z])) e) (λb o _ _ a e _=>⟨o.slots,k b o (λz=>a (by simp[z])) e⟩) (λ_ _ _ _ n=>n)
  (λb o a e=>⟨o,k b o (λz=>a (by simp[z])) e⟩) (λ_ _ e=>e) (λ_ _ _ e=>e) (λb ps e=>⟨#[],by rw[e];simp⟩) (λm g=>?_) (λb u e=>?_) I.bare
 ·have e:b=it:=by simpa using l
  subst e;exact⟨h1,f,h2,h⟩
 ·obtain⟨o,es,j,t,r⟩:=g;exact⟨o,es,j,k _ o (bY0 f) t,r⟩
 ·refine(I.hok b u e).stay (λc v a q=>k c v ?_ q) (λ_ q=>q) λ_ _ q=>q;rcases a with z|z
  ·rw[z];exact d b u e
  ·exact d c _ z
theorem Inv.tok(I:Inv X pins σ H s)(t:Nat):Inv X pins σ H {s with toks:=t}:=I.un (h':=s.heap) (t':=t) Un.refl I.hok
theorem Inv.kept{t':Nat}(I:Inv X pins σ H s)(k:∀b u,s.heap.get? b=some u->h'.get? b=some u):Inv X pins σ H {s with heap:=h',toks:=t'}:=I.un (Un.kept k) (I.hok.kept k)
theorem Inv.laid{a:Addr}{o:HO}{t':Nat}(I:Inv X pins σ H s)(k:∀b u,s.heap.get? b=some u->h'.get? b=some u)(d:s.heap.objs.size<=a)(c:x4 X.prog X.w (upd H a o) h' a o):
  Inv X pins σ (upd H a o) {s with heap:=h',toks:=t'}:=I.un (Un.laid k d (I.hok.fresh d)) (I.hok.laid k d c)
theorem Inv.write{x e:Addr}{o:HO}{t':Nat}(I:Inv X pins σ H s)(f:Mut (H x))(d:e=x\/H e=some (.own x))(k:∀b u,b≠e->s.heap.get? b=some u->h'.get? b=some u)(a:∃u,h'.get? e=some u)
  (c:x4 X.prog X.w (upd H x o) h' x o):Inv X pins σ (upd H x o) {s with heap:=h',toks:=t'}:=I.un (Un.write f d k a) (I.hok.write f d k a c)
theorem Inv.pins_of{a:List (Addr×Obj)}(I:Inv X pins σ H s)(h:∀p∈a,s.heap.get? p.1=some p.2/\H p.1=none/\p.1≠X.env.locals/\p.1∉X.fs/\∀v,p.2.data≠ .cell v):Inv X a σ H s:=
 ⟨I.ok,I.os,I.bare,I.base,I.loc,I.cell,I.free,I.freeC,λp b=>(bYX.mp b).elim (λz=>I.pin p (cXb _ z)) (h p),I.hok,I.len⟩
theorem aVe{N:List Str}(e:N.Nodup){i j:Nat}{x:Str}(a:N[i]? =some x)(b:N[j]? =some x):i=j:=by
 obtain⟨h1,c⟩:=bYu.mp a;obtain⟨h2,d⟩:=bYu.mp b;exact(cQ3 e).mp (c.trans d.symm)
theorem aQI{M:Model}{A:bYW}{E:bYi->bYl->Prop}{i:Nat}{x:Str}{v:V}{u:bYi}{Q:Unit->bYl->Prop}(I:Inv X pins σ H s)(hN:X.N.Nodup)(hi:X.N[i]? =some x)(B:Loc X.env.scope x)(r:zE v u) (h:∀s',Inv X pins (σ.set i (some v)) H s'->(∃a,cXi a s.heap s'.heap/\(a=X.env.locals\/X.env.cells.lookup x=some a))->Q () s') (hf:X.fn x=true\/X.env.scope.names.lookup x=some .local:=by first|exact .inl rfl|exact .inr rfl|assumption):bYq M A (storeName X.env x u) Q E s:=by
 obtain⟨m,Z,hl⟩:=id I.loc;have P:(X.env.scope.kind== .class || (X.env.scope.kind== .module && X.env.locals !=X.env.globals))=false:=by rw[I.ok.kind];rfl
 have hiσ:i<σ.length:=by rw[I.len];exact(bYu.mp hi).1
 have cne:=I.cne;have l:∀ {a:Addr} {h':Heap},(∃o,s.heap.get? a=some o/\H a=none)->cXi a s.heap h'->HOk X.prog X.w H h':=λ{a h'} ha f b ob e=>by
  obtain⟨_,_,C⟩:=ha;refine(I.hok b ob e).stay (λc U t q=>(f.2 c ?_).trans q) (λ_ q=>q) λ_ _ q=>q;rintro rfl;rcases t with rfl|t
  ·rw[C]at e;cases e
  ·rw[C]at t;cases t
 rcases B with F|F
 ·refine wpAny_storeName_local F Z (λh' W f=>?_) P;obtain⟨oL,_,_,Y,_⟩:=id Z;refine h _ ⟨I.ok,I.os,I.bare,⟨λb o e n J B=>?_,λb o e n J B=>?_,I.base.free,λb o e B=>?_,I.base.tups,I.base.frzs,I.base.tbls⟩,⟨_,W,λj y v' g D e3=>?_⟩,λy c e=>?_,I.free,I.freeC,λp hp=>?_,l ⟨oL,Y,I.free⟩ f,by simpa using I.len⟩ ⟨_,f,.inl rfl⟩
  ·exact(f.2 b (bYG (bYJ (bYw e) I.ok.above))).trans (I.base.keep b o e n J B)
  ·obtain⟨sl,g⟩:=I.base.slot b o e n J B;exact⟨sl,(f.2 b (bYG (bYJ (bYw e) I.ok.above))).trans g⟩
  ·obtain⟨o',g⟩:=I.base.there b o e B;exact⟨o',(f.2 b (bYG (bYJ (bYw e) I.ok.above))).trans g⟩
  ·by_cases K:j=i
   ·subst K;rw[hi]at g;cases g;rw[cZb hiσ]at D;cases D;exact⟨u,r,.inl ⟨F,by simp⟩⟩
   ·rw[cZ1 (bY0 K)]at D;obtain⟨u',r',q⟩:=hl j y v' g D e3;refine⟨u',r',?_⟩;rcases q with⟨k,e⟩|⟨k,c,e,z⟩
    ·refine .inl ⟨k,?_⟩;have:y≠x:=λe=>K (aVe hN g (e ▸ hi));simp[this,e]
    ·exact .inr ⟨k,c,e,z.sameBut f (cne y c e)⟩
  ·obtain⟨U,z⟩:=I.cell y c e;exact⟨U,z.sameBut f (cne y c e)⟩
  ·obtain⟨e,n,ne,nf,d⟩:=I.pin p hp;exact⟨(f.2 p.1 ne).trans e,n,ne,nf,d⟩
 ·have G:X.fn x=true:=by
   rcases hf with z|z
   ·exact z
   ·rw[z]at F;cases F
  obtain⟨c,t⟩:=I.ok.has x (.inl F);obtain⟨U,z⟩:=I.cell x c t;refine wpAny_storeName_cell I.ok.kind F t z (λh' L f=>?_);obtain⟨oc,O,R⟩:=id z;refine h {s with heap:=h'} ⟨I.ok,I.os,I.bare,⟨λb o e n J B=>?_,λb o e n J B=>?_,I.base.free,λb o e B=>?_,I.base.tups,I.base.frzs,I.base.tbls⟩,⟨m,Z.sameBut f (bY0 (cne x c t)),λj y v' g D e3=>?_⟩,λy T e=>?_,I.free,I.freeC,λp hp=>?_,l ⟨oc,O,I.freeC x c t⟩ f,by simpa using I.len⟩ ⟨c,f,.inr t⟩
  ·exact(f.2 b (bYG (bYJ (bYw e) (I.ok.cab x c G t)))).trans (I.base.keep b o e n J B)
  ·obtain⟨sl,g⟩:=I.base.slot b o e n J B;exact⟨sl,(f.2 b (bYG (bYJ (bYw e) (I.ok.cab x c G t)))).trans g⟩
  ·obtain⟨o',g⟩:=I.base.there b o e B;exact⟨o',(f.2 b (bYG (bYJ (bYw e) (I.ok.cab x c G t)))).trans g⟩
  ·by_cases K:j=i
   ·subst K;rw[hi]at g;cases g;rw[cZb hiσ]at D;cases D;exact⟨u,r,.inr ⟨.inl F,c,t,L⟩⟩
   ·rw[cZ1 (bY0 K)]at D;obtain⟨u',r',q⟩:=hl j y v' g D e3;refine⟨u',r',?_⟩;rcases q with q|⟨k,T,e,z'⟩
    ·exact .inl q
    ·refine .inr ⟨k,T,e,z'.sameBut f ?_⟩;rintro rfl;exact K (aVe hN g (I.ok.inj _ _ _ e t ▸ hi))
  ·by_cases S:T=c
   ·subst S;exact⟨_,L⟩
   ·obtain⟨w2,z2⟩:=I.cell y T e;exact⟨w2,z2.sameBut f S⟩
  ·obtain⟨e,n,ne,nf,d⟩:=I.pin p hp;refine⟨(f.2 p.1 ?_).trans e,n,ne,nf,d⟩;intro q;rw[q,O]at e;have q':oc=p.2:=bYD e;exact d U (by rw[<- q'];exact R)
theorem aVL{M:Model}{A:bYW}{E:bYi->bYl->Prop}{i:Nat}{x:Str}{v:V}{u:bYi}{Q:Unit->bYl->Prop}(I:Inv X pins σ H s)(d:X.N.Nodup)(hi:X.N[i]? =some x)(b:Loc X.env.scope x)(r:zE v u) (h:∀s',Inv X pins (σ.set i (some v)) H s'->Q () s') (c:X.fn x=true\/X.env.scope.names.lookup x=some .local:=by first|exact .inl rfl|exact .inr rfl|assumption):bYq M A (storeName X.env x u) Q E s:=
 aQI I d hi b r (λs' a _=>h s' a) c
theorem Inv.call'{s':bYl}{ch:List Addr}(I:Inv X pins σ H s)(i:s'.os=s.os)(u:Un (frs X.stack) ch H H' s.heap s'.heap)(a:HOk X.prog X.w H' s'.heap)(j:AllBare s'.gens) (d:∀b∈ch,(b∈X.ex\/X.s₀.heap.objs.size<=b)/\b≠X.env.locals/\(∀x c,X.env.cells.lookup x=some c->c≠b)/\∀p∈X.pn++pins,p.1≠b):Inv X pins σ H' s':=by
 obtain⟨h',g,h,f,o'⟩:=s';have e:o'=s.os:=i;subst e;exact I.call (g':=g) (t':=f) (d':=h) u a j d
end
abbrev XK:=bYi->Option Addr->Hp->Prop
abbrev St:=List (Option V)
abbrev VK:=V->Hp->Prop
abbrev TE:=St->Hp->VK->Prop
abbrev TT:=St->Hp->(Bool->Hp->Prop)->Prop
abbrev TA:=St->Hp->(List V->Hp->Prop)->Prop
structure aZV where
 nx:St->Hp->Prop
 rt:VK
 bk:St->Hp->Prop:=λ_ _=>False
 ct:St->Hp->Prop:=λ_ _=>False
abbrev TS:=aZV->St->Hp->Prop
def EP(X:Cx)(pins:List (Addr×Obj))(σ:St)(Q:VK)(u:bYi)(s':bYl):Prop:=∃v H',Inv X pins σ H' s'/\zE v u/\Q v H'
def TP(X:Cx)(pins:List (Addr×Obj))(σ:St)(Q:Bool->Hp->Prop)(b:Bool)(s':bYl):Prop:=∃H',Inv X pins σ H' s'/\Q b H'
def AP(X:Cx)(pins:List (Addr×Obj))(σ:St)(Q:List V->Hp->Prop)(us:List bYi)(s':bYl):Prop:=∃a H',Inv X pins σ H' s'/\xS a us/\Q a H'
def SP(X:Cx)(pins:List (Addr×Obj))(D:aZV)(f:Flow)(s':bYl):Prop:=
 match f with
 |.next=>∃a H',Inv X pins a H' s'/\D.nx a H'
 |.brk=>∃a H',Inv X pins a H' s'/\D.bk a H'
 |.cont=>∃a H',Inv X pins a H' s'/\D.ct a H'
 |.ret u=>∃v a H',Inv X pins a H' s'/\zE v u/\D.rt v H'
def PE(X:Cx)(e:Expr)(t:TE):Prop:=
 ∀ (pins:List (Addr×Obj))(s:bYl)(σ:St)(H:Hp)(Q:VK),Inv X pins σ H s->t σ H Q->bYq (bYs X.prog X.w) X.A (eval e X.env) (EP X pins σ Q) X.xe s
def PT(X:Cx)(e:Expr)(t:TT):Prop:=
 ∀ (pins:List (Addr×Obj))(s:bYl)(σ:St)(H:Hp)(Q:Bool->Hp->Prop),Inv X pins σ H s->t σ H Q->bYq (bYs X.prog X.w) X.A (isTrue e X.env (eval e X.env)) (TP X pins σ Q) X.xe s
def PW(X:Cx)(e:Expr)(t:TT):Prop:=
 ∀ (a:Sem bYi)(pins:List (Addr×Obj))(s:bYl)(σ:St)(H:Hp)(Q:Bool->Hp->Prop),Inv X pins σ H s->t σ H Q->bYq (bYs X.prog X.w) X.A (isTrue e X.env a) (TP X pins σ Q) X.xe s
theorem PW.pt{X:Cx}{e:Expr}{t:TT}(h:PW X e t):PT X e t:=h _
def PA(X:Cx)(es:List Expr)(t:TA):Prop:=
 ∀ (pos:Pos)(pins:List (Addr×Obj))(s:bYl)(σ:St)(H:Hp)(Q:List V->Hp->Prop),Inv X pins σ H s->t σ H Q->bYq (bYs X.prog X.w) X.A (spliced (cQU pos (bYV es X.env))) (AP X pins σ Q) X.xe s
def PS(X:Cx)(st:Stmt)(t:TS):Prop:=
 ∀ (pins:List (Addr×Obj))(s:bYl)(σ:St)(H:Hp)(D:aZV),Inv X pins σ H s->t D σ H->bYq (bYs X.prog X.w) X.A (exec st X.env) (SP X pins D) X.xe s
def PSs(X:Cx)(st:List Stmt)(t:TS):Prop:=
 ∀ (pins:List (Addr×Obj))(s:bYl)(σ:St)(H:Hp)(D:aZV),Inv X pins σ H s->t D σ H->bYq (bYs X.prog X.w) X.A (execs st X.env) (SP X pins D) X.xe s
theorem thn{α:Type}{t:Sem α}{Q b:α->bYl->Prop}{M:Model}{A:bYW}{E:bYi->bYl->Prop}{s:bYl}(h:bYq M A t Q E s)(c:∀a s,Q a s->b a s):bYq M A t b E s:=cQi h c λ_ _ x=>x
end L2
namespace L2
open PySem PySem.Spec PyProof.Rows
section
variable {X:Cx}
theorem bin{a b:Expr}{ta tb:TE}(j:PE X a ta)(i:PE X b tb){pins:List (Addr×Obj)}{s:bYl}{σ:St}{H:Hp}{R:V->V->Hp->Prop}(I:Inv X pins σ H s)(h:ta σ H λx H1=>tb σ H1 λy H2=>R x y H2) {α:Type} {Q:α->bYl->Prop} {f:bYi->bYi->Sem α} (g:∀v u e x y H2,Inv X pins σ H2 e->zE x v->zE y u->R x y H2->bYq (bYs X.prog X.w) X.A (f v u) Q X.xe e): bYq (bYs X.prog X.w) X.A (eval a X.env) (λv d=>bYq (bYs X.prog X.w) X.A (eval b X.env) (λu c=>bYq (bYs X.prog X.w) X.A (f v u) Q X.xe c) X.xe d) X.xe s:=by
 refine thn (j pins s σ H _ I h) λv s1 ⟨x,H1,I1,r1,q1⟩=>?_;refine thn (i pins s1 σ H1 _ I1 q1) λu e ⟨y,H2,I2,r2,q2⟩=>?_;exact g v u e x y H2 I2 r1 r2 q2
inductive bVF(i:Nat)(σ:St)(H:Hp)(Q:VK):Prop|mk (v) (_:σ[i]? =some (some v)) (_:Q v H)
def tC(v:V):TE:=λ_ H Q=>Q v H
theorem bZQ{i:Nat}{x:Str}{pos:Pos}(o:X.N[i]? =some x)(n:Vis X.env.scope x)(f:(x==("__debug__":Str))=false:=by decide)(d:(x==("__classdict__":Str))=false:=by decide):PE X (.Name x pos) (bVF i):=by
 intro pins s σ H Q I h;obtain⟨v,e,h⟩:=h;obtain⟨m,k,hl⟩:=I.loc;obtain⟨u,r,l⟩:=hl i x v o e n;have fin:EP X pins σ Q u s:=⟨v,H,I,r,h⟩;rcases l with⟨b,j⟩|⟨b,c,g,a⟩
 ·exact wpAny_Name (wpAny_loadName_local I.ok.kind b k j fin) f
 ·rcases b with b|b
  ·exact wpAny_Name (wpAny_loadName_cell I.ok.kind b g a fin) f
  ·exact wpAny_Name (wpAny_loadName_free I.ok.kind b g a fin d) f
theorem yE{i j pos}:PE X (.Constant (.int i) j pos) (tC (.int i)):=λ_ _ _ H _ I h=>wpAny_Constant_int ⟨.int i,H,I.tok _,⟨_,rfl⟩,h⟩
theorem qN{b j pos}:PE X (.Constant (.bool b) j pos) (tC (.bl b)):=λ_ _ _ H _ I h=>Constant_bool ⟨.bl b,H,I,rfl,h⟩
theorem zB{j pos}:PE X (.Constant .none j pos) (tC .non):=λ_ _ _ H _ I h=>Constant_none ⟨.non,H,I,rfl,h⟩
theorem yO{x j pos}:PE X (.Constant (.str x) j pos) (tC (.str x)):=λ_ _ _ H _ I h=>Calls.Constant_str ⟨.str x,H,I.tok _,⟨_,rfl⟩,h⟩
def Gl(X:Cx)(x:Str):Prop:=X.env.kindOf x=some .globalImplicit
theorem uN{E:bYi->bYl->Prop}{pins:List (Addr×Obj)}{s:bYl}{σ:St}{H:Hp}{x:Str}{u:bYi}{pos:Pos}{Q:bYi->bYl->Prop}(I:Inv X pins σ H s)(c:Gl X x)(a:X.mg x=some u)(h:Q u s) (b:(x==("__debug__":Str))=false:=by decide):bYq (bYs X.prog X.w) X.A (eval (.Name x pos) X.env) Q E s:=
 cJr I.ok.kind c (Calls.loadGlobal_global (by rw[I.ok.glob];exact I.mod.glob.keeps I.bk) a h) b
theorem aQ4{E:bYi->bYl->Prop}{pins:List (Addr×Obj)}{s:bYl}{σ:St}{H:Hp}{x:Str}{u:bYi}{pos:Pos}{Q:bYi->bYl->Prop}(I:Inv X pins σ H s)(e:Gl X x)(b:X.mg x=none)(d:bY3 x=some u)(h:Q u s) (c:x≠"__name__":=by decide) (a:(x==("__debug__":Str))=false:=by decide):bYq (bYs X.prog X.w) X.A (eval (.Name x pos) X.env) Q E s:=by
 obtain⟨f,h1,h2⟩:=I.mod.blt;exact cJr I.ok.kind e (Calls.loadGlobal_builtin (by rw[I.ok.glob];exact I.mod.glob.keeps I.bk) b (by rw[I.ok.blt];exact h1.keeps I.bk) ((h2 x c).trans d) h) a
theorem v0{x:Str}{v:V}{u:bYi}{pos:Pos}(c:Gl X x)(b:X.mg x=some u)(r:zE v u)(a:(x==("__debug__":Str))=false:=by decide):PE X (.Name x pos) (tC v):=
 λ_ _ _ H _ I h=>uN I c b ⟨v,H,I,r,h⟩ a
theorem vG{x:Str}{v:V}{u:bYi}{pos:Pos}(e:Gl X x)(b:X.mg x=none)(c:bY3 x=some u)(r:zE v u)(d:x≠"__name__":=by decide)(a:(x==("__debug__":Str))=false:=by decide):PE X (.Name x pos) (tC v):=
 λ_ _ _ H _ I h=>aQ4 I e b c ⟨v,H,I,r,h⟩ d a
variable {a b:Expr}{ta tb:TE}{pos:Pos}
def PC(X:Cx)(op:CmpOp)(a b:Expr)(t:TE):Prop:=
 ∀ (pins:List (Addr×Obj))(s:bYl)(σ:St)(H:Hp)(Q:VK),Inv X pins σ H s->t σ H Q->
  bYq (bYs X.prog X.w) X.A (eval a X.env) (λv d=>bYq (bYs X.prog X.w) X.A (eval b X.env) (λu c=>bYq (bYs X.prog X.w) X.A (cQM op v u) (EP X pins σ Q) X.xe c) X.xe d) X.xe s
theorem bQ9(b:Expr){op:CmpOp}(h:op≠ .In)(h2:op≠ .NotIn):cX5 op b=false:=by
 have a:(op==CmpOp.In)=false:=by cases op<;> first|rfl|exact absurd rfl h
 have c:(op==CmpOp.NotIn)=false:=by cases op<;> first|rfl|exact absurd rfl h2
 cases b<;> simp[cX5,a,c]
inductive tBQ(Q:Bool->Hp->Prop)(x:V)(H1:Hp):Prop|mk (c) (_:x= .bl c) (_:Q c H1)
def tB(t:TE):TT:=λσ H Q=>t σ H λx H1=>tBQ Q x H1
theorem bWx{op:CmpOp}{t:TE}(h:PC X op a b t)(h1:cX5 op b=false:=by first|exact bQ9 _ (by decide) (by decide)|rfl):PT X (.Compare a [op] [b] pos) (tB t):=by
 intro pins s σ H Q I hw;refine wpAny_isTrue_Compare1 (thn (h pins s σ H _ I hw) λv f h1=>thn h1 λu e h2=>thn h2 λc s3 ⟨x,H1,I1,r1,q1⟩=>?_) h1;obtain⟨d,rfl,q⟩:=q1;cases r1;exact cXf ⟨H1,I1,q⟩
theorem x6{e:Expr}{t:TE}(h:PE X e t)(b:∀a,isTrue e X.env a=(do let v <- a;standAt e.pos;cZA [v] (truthy v)):=by intro _;rfl):PT X e (tB t):=by
 intro pins s σ H Q I hw;refine isTrue_plain (thn (h pins s σ H _ I hw) λv s1 ⟨x,H1,I1,r1,q1⟩=>?_) (b _);obtain⟨d,rfl,q⟩:=q1;cases r1;exact cXf ⟨H1,I1,q⟩
variable {tA tB':TT}{jT:List Expr}
def bYa(t u:TT):TT:=λσ H Q=>t σ H λc H1=>if c=true then u σ H1 Q else Q false H1
def tOr(t u:TT):TT:=λσ H Q=>t σ H λc H1=>if c=true then Q true H1 else u σ H1 Q
def bYe(t:TT):TT:=λσ H Q=>t σ H λc H1=>Q (!c) H1
theorem wV(b:PT X a tA):PW X (.BoolOp .And [a] pos) tA:=by
 intro f pins s σ H Q I h;refine isTrue_and (thn (b pins s σ H Q I h) λc d e=>?_);cases c with
 |true=>exact isTrue_and_nil e
 |false=>exact e
theorem jN(b:PT X a tA):PW X (.BoolOp .Or [a] pos) tA:=by
 intro f pins s σ H Q I h;refine isTrue_or (thn (b pins s σ H Q I h) λc d e=>?_);cases c with
 |false=>exact isTrue_or_nil e
 |true=>exact e
theorem vQ(d:PT X a tA)(e:PW X (.BoolOp .And (b::jT) pos) tB'):PW X (.BoolOp .And (a::b::jT) pos) (bYa tA tB'):=by
 intro f pins s σ H Q I h;refine isTrue_and (thn (d pins s σ H _ I h) λc s1 ⟨H1,I1,q1⟩=>?_);cases c with
 |true=>exact e f pins s1 σ H1 Q I1 q1
 |false=>exact⟨H1,I1,q1⟩
theorem W0(d:PT X a tA)(e:PW X (.BoolOp .Or (b::jT) pos) tB'):PW X (.BoolOp .Or (a::b::jT) pos) (tOr tA tB'):=by
 intro f pins s σ H Q I h;refine isTrue_or (thn (d pins s σ H _ I h) λc s1 ⟨H1,I1,q1⟩=>?_);cases c with
 |true=>exact⟨H1,I1,q1⟩
 |false=>exact e f pins s1 σ H1 Q I1 q1
theorem uC(b:PT X a tA):PT X (.UnaryOp .Not a pos) (bYe tA):=by
 intro pins s σ H Q I h;exact isTrue_not (b pins s σ H (λc H1=>Q (!c) H1) I h)
inductive bWP(tb:TE)(σ:St)(Q:VK)(x:V)(H1:Hp):Prop|mk (c) (_:x= .bl c) (_:if c=true then tb σ H1 Q else Q (.bl false) H1)
def bKD(ta tb:TE):TE:=λσ H Q=>ta σ H λx H1=>bWP tb σ Q x H1
inductive bKI(tb:TE)(σ:St)(Q:VK)(x:V)(H1:Hp):Prop|mk (c) (_:x= .bl c) (_:if c=true then Q (.bl true) H1 else tb σ H1 Q)
def bYf(ta tb:TE):TE:=λσ H Q=>ta σ H λx H1=>bKI tb σ Q x H1
inductive bWT(Q:VK)(x:V)(H1:Hp):Prop|mk (c) (_:x= .bl c) (_:Q (.bl (!c)) H1)
def bKH(ta:TE):TE:=λσ H Q=>ta σ H λx H1=>bWT Q x H1
theorem aZv{op}{t:TE}(h:PE X a t):PE X (.BoolOp op [a] pos) t:=λpins s σ H Q I hw=>BoolOp_one (h pins s σ H Q I hw)
theorem aVm(e:PE X a ta)(f:PE X (.BoolOp .And (b::jT) pos) tb):PE X (.BoolOp .And (a::b::jT) pos) (bKD ta tb):=by
 intro pins s σ H Q I h;refine BoolOp_and (thn (e pins s σ H _ I h) λv s1 ⟨x,H1,I1,r1,d⟩=>?_);obtain⟨c,rfl,d⟩:=d;cases r1;refine cXf ?_;cases c with
 |true=>exact f pins s1 σ H1 Q I1 d
 |false=>exact⟨.bl false,H1,I1,rfl,d⟩
theorem bWt(e:PE X a ta)(f:PE X (.BoolOp .Or (b::jT) pos) tb):PE X (.BoolOp .Or (a::b::jT) pos) (bYf ta tb):=by
 intro pins s σ H Q I h;refine BoolOp_or (thn (e pins s σ H _ I h) λv s1 ⟨x,H1,I1,r1,d⟩=>?_);obtain⟨c,rfl,d⟩:=d;cases r1;refine cXf ?_;cases c with
 |false=>exact f pins s1 σ H1 Q I1 d
 |true=>exact⟨.bl true,H1,I1,rfl,d⟩
theorem bZP(d:PE X a ta):PE X (.UnaryOp .Not a pos) (bKH ta):=by
 intro pins s σ H Q I h;refine UnaryOp_ (thn (d pins s σ H _ I h) λv s1 ⟨x,H1,I1,r1,b⟩=>?_);obtain⟨c,rfl,b⟩:=b;cases r1;exact not_of (cXf ⟨.bl (!c),H1,I1,rfl,b⟩)
def tIf(t:TT)(ta tb:TE):TE:=λσ H Q=>t σ H λc H1=>if c=true then ta σ H1 Q else tb σ H1 Q
theorem aVn{c:Expr}(f:PT X c tA)(e:PE X a ta)(g:PE X b tb):PE X (.IfExp c a b pos) (tIf tA ta tb):=by
 intro pins s σ H Q I h;refine wpAny_IfExp (thn (f pins s σ H _ I h) λd s1 ⟨H1,I1,q1⟩=>?_);cases d with
 |true=>exact e pins s1 σ H1 Q I1 q1
 |false=>exact g pins s1 σ H1 Q I1 q1
end
end L2
namespace L2
open PySem PySem.Spec PyProof.Rows
def SqL(K:bYk)(H:Hp)(a:Addr)(xs:List V):Prop:=
 Rd H a (.lst xs)\/
  ∃ (o:Obj)(b:Array bYi)(n:Nat),K.lookup a=some o/\o.cls= .type "list"/\o.dict=none/\o.data= .seq b n/\b.size<=bYI/\xS xs b.toList
def SqT(K:bYk)(H:Hp)(a:Addr)(xs:List V):Prop:=
 Rd H a (.tup xs)\/
  ∃ (o:Obj)(b:Array bYi)(n:Nat),K.lookup a=some o/\o.cls= .type "tuple"/\o.data= .seq b n/\b.size<=bYI/\xS xs b.toList
def bK0:bYi->Option V
 |.none=>some .non
 |.bool b=>some (.bl b)
 |.int i _=>some (.int i)
 |.str x _=>some (.str x)
 |.bytes b _=>some (.byt b)
 |.float b _=>some (.flt b)
 |.ref a=>some (.ref a)
 |.type n=>some (.ty n)
 |_=>none
theorem zE.abs{x:V}{u:bYi}(r:zE x u):bK0 u=some x:=by
 cases x with
 |non=>cases r;rfl
 |bl _=>cases r;rfl
 |int _=>obtain⟨t,rfl⟩:=r;rfl
 |str _=>obtain⟨t,rfl⟩:=r;rfl
 |byt _=>obtain⟨t,rfl⟩:=r;rfl
 |flt _=>obtain⟨t,rfl⟩:=r;rfl
 |ref _=>cases r;rfl
 |ty _=>cases r;rfl
theorem zE.inj{x y:V}{u:bYi}(r:zE x u)(q:zE y u):x=y:=bYD (r.abs.symm.trans q.abs)
theorem xS.inj:∀ {xs ys:List V} {us:List bYi},xS xs us->xS ys us->xs=ys
 |_,_,_,.nil,.nil=>rfl
 |_,_,_,.cons r t,.cons r' t'=>by rw[r.inj r',xS.inj t t']
section
variable {X:Cx}{pins:List (Addr×Obj)}{σ:St}{H:Hp}{s:bYl}{a:Addr}{xs ys:List V}
theorem SqL.of{K:bYk}(h:H a=some (.lst xs)):SqL K H a xs:= .inl (.inl h)
theorem SqT.of{K:bYk}(h:H a=some (.tup xs)):SqT K H a xs:= .inl (.inl h)
theorem Inv.list(I:Inv X pins σ H s)(h:SqL X.K H a xs):∃b:List bYi,xS xs b/\PlainL s.heap a b.toArray/\xs.length<=bYI:=by
 rcases h with h|⟨o,b,n,g,f,c,d,i,r⟩
 ·obtain⟨z,b,n,r,e⟩:=h.ok I.hok;exact⟨b,r,⟨_,n,e,rfl,rfl,rfl⟩,z⟩
 ·refine⟨b.toList,r,⟨o,n,I.kIn a o g,f,c,by simpa using d⟩,?_⟩;have e:=r.length;simp only[cQD]at e;omega
theorem Inv.tuple(I:Inv X pins σ H s)(h:SqT X.K H a xs):∃b:List bYi,xS xs b/\cZe s.heap a b.toArray/\xs.length<=bYI:=by
 rcases h with h|⟨o,b,n,f,d,c,g,r⟩
 ·obtain⟨z,b,r,p⟩:=h.ok I.hok;exact⟨b,r,p,z⟩
 ·refine⟨b.toList,r,⟨o,I.kIn a o f,d,n,by simpa using c⟩,?_⟩;have e:=r.length;simp only[cQD]at e;omega
theorem Inv.list_inj(I:Inv X pins σ H s)(h:SqL X.K H a xs)(h':SqL X.K H a ys):xs=ys:=by
 obtain⟨c,r,⟨o,n,e,_,_,d⟩,_⟩:=I.list h;obtain⟨b,i,⟨o',j,f,_,_,g⟩,_⟩:=I.list h';rw[e]at f;cases f;rw[d]at g;injection g with d1 _;have:c=b:=by simpa using congrArg Array.toList d1
 subst this;exact r.inj i
end
abbrev Cx.wish(X:Cx)(E:bYi->bYl->Prop):Cx:={X with xe:=E}
abbrev Cx.nox(X:Cx):Cx:=X.wish λ_ _=>False
theorem Cx.Ok.wish{X:Cx}(ok:X.Ok)(E:bYi->bYl->Prop):(X.wish E).Ok:=
 ⟨ok.mod,ok.kind,ok.glob,ok.blt,ok.above,ok.inj,ok.has,ok.cab,ok.hd,ok.frames,ok.stk,ok.exf,ok.bs,ok.bsz,ok.noex,ok.exfs,ok.funs,ok.frf⟩
theorem Cx.Ok.unwish{X:Cx}{E:bYi->bYl->Prop}(ok:(X.wish E).Ok):X.Ok:=
 ⟨ok.mod,ok.kind,ok.glob,ok.blt,ok.above,ok.inj,ok.has,ok.cab,ok.hd,ok.frames,ok.stk,ok.exf,ok.bs,ok.bsz,ok.noex,ok.exfs,ok.funs,ok.frf⟩
section
variable {X:Cx}{pins:List (Addr×Obj)}{σ:St}{H:Hp}{s:bYl}{E:bYi->bYl->Prop}
theorem Inv.wish(I:Inv X pins σ H s)(E:bYi->bYl->Prop):Inv (X.wish E) pins σ H s:=⟨I.ok.wish E,I.os,I.bare,I.base,I.loc,I.cell,I.free,I.freeC,I.pin,I.hok,I.len⟩
theorem Inv.unwish(I:Inv (X.wish E) pins σ H s):Inv X pins σ H s:=⟨I.ok.unwish,I.os,I.bare,I.base,I.loc,I.cell,I.free,I.freeC,I.pin,I.hok,I.len⟩
theorem SP.unwish{D:aZV}{f:Flow}{s':bYl}(h:SP (X.wish E) pins D f s'):SP X pins D f s':=by
 cases f with
 |next=>obtain⟨a,H',I,q⟩:=h;exact⟨a,H',I.unwish,q⟩
 |brk=>obtain⟨a,H',I,q⟩:=h;exact⟨a,H',I.unwish,q⟩
 |cont=>obtain⟨a,H',I,q⟩:=h;exact⟨a,H',I.unwish,q⟩
 |ret u=>obtain⟨v,a,H',I,r,q⟩:=h;exact⟨v,a,H',I.unwish,r,q⟩
theorem PSs.nox{st:List Stmt}{t:TS}(h:PSs X.nox st t):PSs X st t:=λpins s σ H D I hw=>
 cQi (h pins s σ H D (I.wish _) hw) (λ_ _ q=>q.unwish) λ_ _ z=>cQN z
end
section
variable {X:Cx}{st:Stmt}{jT:List Stmt}{t u:TS}{e:Expr}{te:TE}{pos:Pos}
def aW4:TS:=λD σ H=>D.nx σ H
def bKa(t u:TS):TS:=λD σ H=>t {D with nx:=u D} σ H
theorem yR:PSs X [] aW4:=λ_ _ σ H _ I h=>cZ8 ⟨σ,H,I,h⟩
theorem yC(h1:PS X st t)(h2:PSs X jT u):PSs X (st::jT) (bKa t u):=by
 intro pins s σ H D I h;refine wpAny_execs_cons (thn (h1 pins s σ H {D with nx:=u D} I h) λf c q=>?_);cases f with
 |next=>obtain⟨a,H',b,q⟩:=q;exact h2 pins c a H' D b q
 |ret v=>exact q
 |brk=>exact q
 |cont=>exact q
theorem yF(h1:PS X st t):PSs X [st] t:=by
 intro pins s σ H D I h;refine wpAny_execs_cons (thn (h1 pins s σ H D I h) λf a q=>?_);cases f with
 |next=>exact cZ8 q
 |ret v=>exact q
 |brk=>exact q
 |cont=>exact q
theorem Inv.quiet{pins:List (Addr×Obj)}{σ:St}{H:Hp}{s:bYl}(I:Inv X pins σ H s):interactive X.env=false:=by simp[interactive,I.ok.kind]
def bQn(te:TE):TS:=λD σ H=>te σ H λ_ H1=>D.nx σ H1
theorem yY(a:PE X e te)(b:swapsWith e none pos.line X.env=pure false:=by rfl):PS X (.Expr e pos) (bQn te):=by
 intro pins s σ H D I h;exact wpAny_Expr_any (thn (a pins s σ H _ I h) λv s1 ⟨x,H1,I1,r1,q1⟩=>⟨σ,H1,I1,q1⟩) I.quiet b
def bKV(te:TE):TS:=λD σ H=>te σ H D.rt
theorem yP(a:PE X e te):PS X (.Return (some e) pos) (bKV te):=by
 intro pins s σ H D I h;exact wpAny_Return_some (thn (a pins s σ H _ I h) λv s1 ⟨x,H1,I1,r1,q1⟩=>⟨x,σ,H1,I1,r1,q1⟩)
def bW9(c:TT)(t u:TS):TS:=λD σ H=>c σ H λb H1=>if b=true then t D σ H1 else u D σ H1
theorem y6{c:Expr}{a b:List Stmt}{tc:TT}(f:PT X c tc)(e:PSs X a t)(g:PSs X b u):PS X (.If c a b pos) (bW9 tc t u):=by
 intro pins s σ H D I h;refine wpAny_If (thn (f pins s σ H _ I h) λd s1 ⟨H1,I1,q1⟩=>?_);cases d with
 |true=>exact e pins s1 σ H1 D I1 q1
 |false=>exact g pins s1 σ H1 D I1 q1
end
abbrev TG:=V->St->Hp->(St->Hp->Prop)->Prop
abbrev TGs:=List V->St->Hp->(St->Hp->Prop)->Prop
def PG(X:Cx)(a:Expr)(t:TG):Prop:=
 ∀ (pins:List (Addr×Obj))(s:bYl)(σ:St)(H:Hp)(v:V)(u:bYi)(Q:St->Hp->Prop),Inv X pins σ H s->zE v u->t v σ H Q->
  bYq (bYs X.prog X.w) X.A (assign a X.env u) (λ_ s'=>∃b H',Inv X pins b H' s'/\Q b H') X.xe s
def PGs(X:Cx)(d:List Expr)(t:TGs):Prop:=
 ∀ (pins:List (Addr×Obj))(s:bYl)(σ:St)(H:Hp)(b:List V)(c:List bYi)(Q:St->Hp->Prop),Inv X pins σ H s->xS b c->t b σ H Q->
  bYq (bYs X.prog X.w) X.A (assignInOrder ((cZ4 d X.env).map (·.2)) c) (λ_ s'=>∃a H',Inv X pins a H' s'/\Q a H') X.xe s
abbrev bKf:=V->V->V->Hp->(Hp->Prop)->Prop
def bKP(X:Cx)(t:bKf):Prop:=
 ∀ (pins:List (Addr×Obj))(s:bYl)(σ:St)(H:Hp)(o i v:V)(b a u:bYi)(Q:Hp->Prop),Inv X pins σ H s->zE o b->zE i a->zE v u->t o i v H Q->
  bYq (bYs X.prog X.w) X.A (setItem b a u) (λ_ s'=>∃H',Inv X pins σ H' s'/\Q H') X.xe s
section
variable {X:Cx}{pos:Pos}
def yW(i:Nat):TG:=λv σ H Q=>Q (σ.set i (some v)) H
theorem y9{i:Nat}{x:Str}(d:X.N.Nodup:=by exact ‹yM _ _ _›.nd)(hi:X.N[i]? =some x:=by rfl)(c:Loc X.env.scope x:=by first|exact Or.inl rfl|exact Or.inr rfl)(a:X.fn x=true\/X.env.scope.names.lookup x=some .local:=by first|exact .inl rfl|exact .inr rfl|assumption):PG X (.Name x pos) (yW i):=by
 intro pins s σ H v u Q I r h;exact wpAny_assign_Name (aVL I d hi c r (λs' b=>⟨_,H,b,h⟩) a)
inductive bK1(vs:List V)(σ:St)(H:Hp)(Q:St->Hp->Prop):Prop|mk (_:vs= []) (_:Q σ H)
inductive bKk(t:TG)(u:TGs)(vs:List V)(σ:St)(H:Hp)(Q:St->Hp->Prop):Prop|mk (v r) (_:vs=v::r) (_:t v σ H λσ' H'=>u r σ' H' Q)
theorem aXu:PGs X [] bK1:=by
 intro pins s σ H a b Q I r h;obtain⟨e,h⟩:=h;subst e;cases r;exact assignInOrder_nil ⟨σ,H,I,h⟩
theorem zG{e:Expr}{es:List Expr}{t:TG}{u:TGs}(h1:PG X e t)(h2:PGs X es u) (b:(cZ4 (e::es) X.env).map (·.2)=assign e X.env::(cZ4 es X.env).map (·.2):=by rfl):PGs X (e::es) (bKk t u):=by
 intro pins s σ H g d Q I r h;obtain⟨v,f,a,h⟩:=h;subst a;cases r with
 |cons r c=>rw[b];refine assignInOrder_cons (thn (h1 pins s σ H _ _ _ I r h) λ_ s1 ⟨σ1,H1,I1,q1⟩=>?_);exact h2 pins s1 σ1 H1 _ _ Q I1 c q1
inductive bK3(K:bYk)(n:Nat)(t:TGs)(v:V)(σ:St)(H:Hp)(Q:St->Hp->Prop):Prop|mk (a xs) (_:v= .ref a) (_:SqT K H a xs) (_:xs.length=n) (_:t xs σ H Q)
theorem aVo{es:List Expr}{k:Nat}{t:TGs}{n:Nat}(f:X.calm=true)(h:PGs X es t) (i:(cZ4 es X.env).length=n:=by rfl) (c:(cZ4 es X.env).findIdx? (·.1)=none:=by rfl):PG X (.Tuple es k pos) (bK3 X.K n t):=by
 intro pins s σ H v u Q I r hw;obtain⟨a,xs,j,q,hl,hw⟩:=hw;subst j;cases r;obtain⟨p,d,g,w⟩:=I.tuple q;refine assign_Tuple_tuple (I.ok.hd f) g (by simp[i,<- hl,d.length]) c λh' m=>?_;have l:Inv X pins σ H {s with heap:=h'}:=I.kept (t':=s.toks) λb o e=>m b o (bYG (bYw e)) e;exact h pins _ σ H xs _ Q l (by simpa using d) hw
def bK2(to b:TE)(t:bKf):TG:=λv σ H Q=>to σ H λo H1=>b σ H1 λi H2=>t o i v H2 λa=>Q σ a
theorem qO{o i:Expr}{to a:TE}{t:bKf}(d:PE X o to)(hi:PE X i a)(b:bKP X t)
  (c:∀v,assign (.Subscript o i pos) X.env v=(do
   let ov <- cZA [v] (eval o X.env)
   let iv <- cZA [v,ov] (eval i X.env)
   standAt pos
   cZA [v,ov,iv] (setItem ov iv v)
   release [v,ov,iv] []):=by intro _;rfl):PG X (.Subscript o i pos) (bK2 to a t):=by
 intro pins s σ H v u Q I r h
 rw[c]
 refine bYj (cQB (thn (d pins s σ H _ I h) λov s1 ⟨x,H1,I1,r1,q1⟩=>?_))
 refine bYj (cQB (thn (hi pins s1 σ H1 _ I1 q1) λiv s2 ⟨y,H2,I2,r2,q2⟩=>?_))
 refine bYj (cZR (bYj (cQB (thn (b pins s2 σ H2 x y v ov iv u _ I2 r1 r2 r q2) λ_ s3 ⟨H3,I3,q3⟩=>?_))))
 exact wpAny_release ⟨σ,H3,I3,q3⟩
def bW8(te:TE)(g:TG):TS:=λD σ H=>te σ H λx H1=>g x σ H1 D.nx
theorem vP{tg e:Expr}{te:TE}{g:TG}(b:PE X e te)(c:PG X tg g)(a:swapsWithSole [tg] e pos.line X.env=pure false:=by rfl)(hw:swappedStores [tg] e X.env=pure none:=by rfl)
  (h1:(cZ4 [tg] X.env).map (·.2)= [assign tg X.env]:=by rfl):PS X (.Assign [tg] e pos) (bW8 te g):=by
 intro pins s σ H D I h
 refine wpAny_Assign_stores (thn (b pins s σ H _ I h) λv s1 ⟨x,H1,I1,r1,q1⟩=>?_) a hw
 rw[h1]
 exact thn (c pins s1 σ H1 x v _ I1 r1 q1) λ_ d q=>q
theorem yT{i:Nat}{x:Str}{e:Expr}{te:TE}{pos':Pos}(c:PE X e te)(g:X.N.Nodup:=by exact ‹yM _ _ _›.nd)(hi:X.N[i]? =some x:=by rfl)(f:Loc X.env.scope x:=by first|exact Or.inl rfl|exact Or.inr rfl)(b:swapsWith e (some (.Name x pos')) pos.line X.env=pure false:=by rfl)(d:X.fn x=true\/X.env.scope.names.lookup x=some .local:=by first|exact .inl rfl|exact .inr rfl|assumption):
  PS X (.Assign [.Name x pos'] e pos) (bW8 te (yW i)):=by
 intro pins s σ H D I h
 refine wpAny_Assign_Name (thn (c pins s σ H _ I h) λv s1 ⟨y,H1,I1,r1,q1⟩=>?_) b
 exact aVL I1 g hi f r1 (λj a=>⟨_,H1,a,q1⟩) d
end
section
variable {X:Cx}{pos:Pos}
def bWX(c:TT)(tb:TS):TS:=λD σ H=>∃W:Nat->St->Hp->Prop,(∃m,W m σ H)/\∀m σ H,W m σ H->
 c σ H λb H1=>if b=true then ∃N:St->Hp->Prop,(∀a H',N a H'->∃d,d<m/\W d a H')/\tb {D with nx:=N,ct:=N,bk:=D.nx} σ H1 else D.nx σ H1
theorem jC{c:Expr}{body:List Stmt}{tc:TT}{tb:TS}(q:PassesOwn (bYs X.prog X.w) X.A X.env X.xe)(t:PT X c tc)(z:PSs X body tb):PS X (.While c body [] pos) (bWX tc tb):=by
 intro pins s σ H D I h;obtain⟨W,⟨y,B⟩,turn⟩:=h;refine wpAny_While (codeAny_whileLoop (λn s'=>∃g H',Inv X pins g H' s'/\W n g H') ?_ y ⟨σ,H,I,B⟩);rintro n C ⟨d,H1,x,u⟩;refine cXF q (thn (t pins C d H1 _ x (turn n d H1 u)) λb s2 ⟨H2,I2,i⟩=>?_);cases b with
 |true=>
  obtain⟨N,r,i⟩:=i;rw[if_pos rfl];refine cXF q (thn (z pins s2 d H2 _ I2 i) λf E j=>?_);cases f with
  |next=>obtain⟨a,e,m,l⟩:=j;obtain⟨p,k,o⟩:=r a e l;exact⟨p,k,a,e,m,o⟩
  |cont=>obtain⟨a,e,m,l⟩:=j;obtain⟨p,k,o⟩:=r a e l;exact⟨p,k,a,e,m,o⟩
  |brk=>exact j
  |ret v=>exact j
 |false=>rw[if_neg Bool.false_ne_true];exact cZ8 ⟨d,H2,I2,i⟩
end
structure It where
 go:Nat->Hp->Prop
 yld:Nat->Hp->V->Hp->Prop
 stop:Nat->Hp->Prop
def bZu(X:Cx)(pins:List (Addr×Obj))(H:Hp)(b:Addr):Prop:=
 H b=none/\b≠X.env.locals/\b∉X.fs/\(b∈X.ex\/X.s₀.heap.objs.size<=b)/\(∀x c,X.env.cells.lookup x=some c->c≠b)/\∀p∈X.pn++pins,p.1≠b
theorem Inv.fpOk{X:Cx}{pins:List (Addr×Obj)}{σ:St}{H H':Hp}{s:bYl}{b:Addr}(I:Inv X pins σ H s)(a:s.heap.objs.size<=b)(f:H' b=none):bZu X pins H' b:=by
 refine⟨f,cXU (bYJ I.lt a),I.nofs a,.inr (bYT I.sz a),λx c e z=>?_,λp d z=>?_⟩
 ·obtain⟨v,q⟩:=I.cell x c e;exact absurd (bYJ q.lt (by rw[z];exact a)) (cQs _)
 ·exact absurd (bYJ (bYw (I.pin p d).1) (by rw[z];exact a)) (cQs _)
structure bW3(P:bYE)(w:bYK)(K:bYk)(tg:Expr)(J:It)(fp:List Addr)(it:Addr)(tn:Nat->Heap->Prop):Prop where
 mem:it∈fp
 obj:∀i h,tn i h->∀b∈fp,∃o,h.get? b=some o/\∀v,o.data≠ .cell v
 keep:∀i h h',tn i h->(∀b∈fp,∀o,h.get? b=some o->h'.get? b=some o)->tn i h'
 item:∀ (X:Cx),X.prog=P->X.w=w->X.K=K->X.calm=true->∀ (i:Nat)(pins:List (Addr×Obj))(s:bYl)(σ:St)(H:Hp)(E:bYi->bYl->Prop),Inv X pins σ H s->(∀b∈fp,bZu X pins H b)->tn i s.heap->J.go i H->
  bYq (bYs P w) X.A (pyNext (.ref it)) (λr s1=>∃u,r=some u/\
   bYq (bYs P w) X.A (cZ7 tg (.ref it) u) (λ_ s2=>∃x H',Inv X pins σ H' s2/\zE x u/\J.yld i H x H'/\tn (i+1) s2.heap/\∀b∈fp,H' b=none) E s1) E s
 done:∀ (X:Cx),X.prog=P->X.w=w->X.K=K->X.calm=true->∀ (i:Nat)(pins:List (Addr×Obj))(s:bYl)(σ:St)(H:Hp)(E:bYi->bYl->Prop),Inv X pins σ H s->(∀b∈fp,bZu X pins H b)->tn i s.heap->J.stop i H->
  bYq (bYs P w) X.A (pyNext (.ref it)) (λr s1=>r=none/\Inv X pins σ H s1) E s
 self:∀ (A:bYW)(i:Nat)(s:bYl)(Q:bYi->bYl->Prop)(E:bYi->bYl->Prop),tn i s.heap->Q (.ref it) s->bYq (bYs P w) A (pyIter (.ref it)) Q E s
abbrev TI:=St->Hp->(It->Hp->Prop)->Prop
def PIE(X:Cx)(pins:List (Addr×Obj))(σ:St)(tg:Expr)(R:It->Hp->Prop)(a:bYi)(d:bYl):Prop:=
 ∃ (c:Addr)(e:List Addr)(tn:Nat->Heap->Prop)(J:It)(H':Hp),a= .ref c/\Inv X pins σ H' d/\bW3 X.prog X.w X.K tg J e c tn/\tn 0 d.heap/\(∀b∈e,bZu X pins H' b)/\R J H'
def PI(X:Cx)(tg a:Expr)(b:TI):Prop:=
 ∀ (pins:List (Addr×Obj))(s:bYl)(σ:St)(H:Hp)(R:It->Hp->Prop),Inv X pins σ H s->b σ H R->
  bYq (bYs X.prog X.w) X.A (eval a X.env) (λv c=>bYq (bYs X.prog X.w) X.A (pyIter v) (PIE X pins σ tg R) X.xe c) X.xe s
theorem bV8{M:Model}{A:bYW}{E:bYi->bYl->Prop}{s:bYl}{tg:Expr}{it:Addr}{u:bYi}{o:Obj}{n:String}{vs:Array bYi}{Q:Unit->bYl->Prop}(c:s.heap.get? it=some o)(d:o.cls= .type n)(b:o.data= .fields vs) (e: ["enumerate","zip","dict_itemiterator","dict_reverseitemiterator","odict_iterator","itertools.zip_longest","itertools.pairwise"].contains n=false) (a:Q () s):bYq M A (cZ7 tg (.ref it) u) Q E s:=by
 unfold cZ7;cases tg<;> first
  |exact bYn a
  |(cases u<;> first
    |exact bYn a
    |(refine bYj (wpAny_load c ?_)
      rw[d,b]
      show bYq M A (if(["enumerate","zip","dict_itemiterator","dict_reverseitemiterator","odict_iterator","itertools.zip_longest","itertools.pairwise"].contains n && vs[0]? ==some (cQy _))=true then _ else _) Q E s
      rw[if_neg (by intro h;rw[e,Bool.false_and]at h;cases h)]
      exact bYn a))
def Itl(K:bYk)(a:Addr):It:=
 ⟨λi H=>∃xs x,SqL K H a xs/\xs[i]? =some x,λi H x H'=>H'=H/\∀xs,SqL K H a xs->xs[i]? =some x,λi H=>∃xs,SqL K H a xs/\xs.length<=i⟩
def Itr(lo:Int)(n:Nat):It:=⟨λi _=>i<n,λi H x H'=>H'=H/\x= .int (lo+i),λi _=>n<=i⟩
theorem bQr{P:bYE}{w:bYK}{K:bYk}{tg:Expr}(a it:Addr):bW3 P w K tg (Itl K a) [it] it (λi h=>h.IsListIter it a i) where
 mem:=by simp
 obj:=λi h st b hb=>by
  have e:b=it:=by simpa using hb
  subst e
  obtain⟨o,e,c,d⟩:=st
  exact⟨o,e,λv z=>by rw[d]at z;cases z⟩
 keep:=λi h h' st k=>st.at λo e=>k it (by simp) o e
 item:=by
  intro X hP hw hK hc i pins s σ H E I hf st hg
  subst hP hw hK
  obtain⟨xs,x,hq,hx⟩:=hg
  obtain⟨its,rv,p,hz⟩:=I.list hq
  obtain⟨u,hu,ru⟩:=rv.get hx
  obtain⟨f0,f1,f2,f3,f4,f5⟩:=hf it (by simp)
  refine wpAny_pyNext_list_item st p.isList (x:=u) (by simpa using hu) λh' st' sb=>?_
  have I1:Inv X pins σ H {s with heap:=h'}:=I.turned (t':=s.toks) (λb o hb e=>(sb.2 b hb).trans e) f0 f1 f3 f4 f5
  obtain⟨o,e,c,d⟩:=id st'
  exact⟨u,rfl,bV8 (s:={s with heap:=h'}) e c d (by decide) ⟨x,H,I1,ru,⟨rfl,λys hy=>by rw[I.list_inj hy hq];exact hx⟩,st',λb hb=>(hf b hb).1⟩⟩
 done:=by
  intro X hP hw hK hc i pins s σ H E I hf st hg
  subst hP hw hK
  obtain⟨xs,hq,hx⟩:=hg
  obtain⟨its,rv,p,hz⟩:=I.list hq
  obtain⟨f0,f1,f2,f3,f4,f5⟩:=hf it (by simp)
  have hl:=rv.length
  exact wpAny_pyNext_list_end (I.ok.hd hc) st p.isList (by simp;omega) λh' eb=>⟨rfl,I.turned (t':=s.toks) (λb o hb e=>eb b o hb e) f0 f1 f3 f4 f5⟩
 self:=λ_ _ _ _ _ st h=>wpAny_pyIter_listiter st h
theorem aW6{P:bYE}{w:bYK}{K:bYk}{tg:Expr}(it:Addr)(lo:Int)(n:Nat):bW3 P w K tg (Itr lo n) [it] it (λi h=>IsRangeIter h it (lo+(i:Nat)*1) ((n:Int) - (i:Nat)) 1) where
 mem:=by simp
 obj:=λi h st b hb=>by
  have e:b=it:=by simpa using hb
  subst e
  exact⟨_,st,λv z=>by
   have z':Data.fields _=Data.cell v:=z
   cases z'⟩
 keep:=λi h h' st k=>k it (by simp) _ st
 item:=by
  intro X hP hw hK hc i pins s σ H E I hf st hg
  subst hP hw hK
  obtain⟨f0,f1,f2,f3,f4,f5⟩:=hf it (by simp)
  have W:=Walks.range (prog:=X.prog) (w:=X.w) (I.ok.hd hc) it lo 1 n
  refine W.item i s _ _ hg st λv h' tk hv st' kk=>?_
  obtain⟨t,rfl⟩:=hv
  have I1:Inv X pins σ H {s with heap:=h',toks:=tk}:=I.turned (λb o hb e=>kk b o (by simpa using hb) e) f0 f1 f3 f4 f5
  refine⟨_,rfl,bV8 (s:={s with heap:=h',toks:=tk}) (n:="range_iterator") st' rfl rfl (by decide) ⟨.int (lo+i),H,I1,⟨t,?_⟩,⟨rfl,rfl⟩,st',λb hb=>(hf b hb).1⟩⟩
  rw[Int.mul_one]
 done:=by
  intro X hP hw hK hc i pins s σ H E I hf st hg
  subst hP hw hK
  obtain⟨f0,f1,f2,f3,f4,f5⟩:=hf it (by simp)
  exact wpAny_pyNext_range_end (I.ok.hd hc) st (by have:n<=i:=hg;omega) λh' eb=>⟨rfl,I.turned (t':=s.toks) (λb o hb e=>eb b o hb e) f0 f1 f3 f4 f5⟩
 self:=λ_ _ _ _ _ st h=>wpAny_pyIter_rangeiter st h
end L2
namespace L2
open PySem PySem.Spec PyProof.Rows
section
variable {X:Cx}{tg:Expr}
inductive bWa(K:bYk)(R:It->Hp->Prop)(x:V)(H1:Hp):Prop|mk (a) (_:x= .ref a) (_:(∃xs,SqL K H1 a xs)) (_:R (Itl K a) H1)
def bKl(K:bYk)(tl:TE):TI:=λσ H R=>tl σ H λx H1=>bWa K R x H1
theorem xI{l:Expr}{tl:TE}(hl:PE X l tl):PI X tg l (bKl X.K tl):=by
 intro pins s σ H R I h;refine thn (hl pins s σ H _ I h) λv s1 ⟨x,H1,I1,r1,q1⟩=>?_;obtain⟨a,e,⟨xs,f⟩,q⟩:=q1;subst e;cases r1;obtain⟨d,g,p,i⟩:=I1.list f;refine cJz p.isList ?_;refine⟨s1.heap.objs.size,[s1.heap.objs.size],_,_,H1,rfl,I1.kept (t':=s1.toks) λb o e=>bYm _ e,bQr a _,⟨_,bYL _ rfl,rfl,rfl⟩,λb c=>?_,q⟩;have e:b=s1.heap.objs.size:=by simpa using c
 subst e;exact I1.fpOk (bYp _) (I1.hok.fresh (bYp _))
theorem bXG{pins:List (Addr×Obj)}{σ:St}{H:Hp}{s:bYl}{R:It->Hp->Prop}{E:bYi->bYl->Prop}{lo hi:Int}{t u v:Tok}{tk:Nat}(I:Inv X pins σ H s)(h1: -(2 ^ 62)<=lo)(h2:lo<2 ^ 62)(c: -(2 ^ 62)<=hi)(f:hi<2 ^ 62) (q:R (Itr lo (hi - lo).toNat) H):bYq (bYs X.prog X.w) X.A (pyIter (.ref s.heap.objs.size)) (PIE X pins σ tg R) E {s with heap:=s.heap.push {cls:= .type "range",data:= .fields #[.int lo t,.int hi u,.int 1 v] },toks:=tk}:=by
 refine wpAny_pyIter_range (IsRange.new ..) (small_one h1 h2 c f) ?_;have a:Inv X pins σ H {s with heap:=s.heap.push {cls:= .type "range",data:= .fields #[.int lo t,.int hi u,.int 1 v] },toks:=tk}:=I.kept λb o e=>bYm _ e;refine⟨(s.heap.push {cls:= .type "range",data:= .fields #[.int lo t,.int hi u,.int 1 v] }).objs.size,[(s.heap.push {cls:= .type "range",data:= .fields #[.int lo t,.int hi u,.int 1 v] }).objs.size],_,_,H,rfl,a.kept (t':=tk) λb o e=>bYm _ e,aW6 _ lo (hi - lo).toNat,?_,λb g=>?_,q⟩
 ·have d:lo+((0:Nat):Int)*1=lo:=by simp
  have h:(((hi - lo).toNat:Nat):Int) - ((0:Nat):Int)=Builtin.Range.rangeSize lo hi 1:=by rw[rangeSize_one];split<;> omega
  show IsRangeIter _ _ (lo+((0:Nat):Int)*1) ((((hi - lo).toNat:Nat):Int) - ((0:Nat):Int)) 1;rw[d,h];exact bYL _ rfl
 ·have e:b=(s.heap.push {cls:= .type "range",data:= .fields #[.int lo t,.int hi u,.int 1 v] }).objs.size:=by simpa using g
  subst e;exact a.fpOk (bYp _) (a.hok.fresh (bYp _))
inductive bWb(R:It->Hp->Prop)(vs:List V)(H1:Hp):Prop|mk (j:Int) (_:vs= [.int j]) (_: -(2 ^ 62)<=j) (_:j<2 ^ 62) (_:R (Itr 0 j.toNat) H1)
def bKm(ta:TA):TI:=λσ H R=>ta σ H λa H1=>bWb R a H1
theorem zP{a:Expr}{ta:TA}{p pos:Pos}(g:Gl X "range")(c:X.mg "range"=none)(k:PA X [a] ta)(d:bYV [a] X.env= [(false,eval a X.env)]:=by rfl):PI X tg (.Call (.Name "range" p) [a] [] pos) (bKm ta):=by
 intro pins s σ H R I h;refine Call_ (aQ4 I g c boot_range (cZm (thn (k pos pins s σ H _ I h) λus s1 ⟨vs,H1,I1,r1,b⟩=>?_) d rfl));obtain⟨j,e,b,i,q⟩:=b;subst e;cases r1 with
 |cons r f=>cases f;obtain⟨t,rfl⟩:=r;exact call_range_1 (bXG I1 (by omega) (by omega) b i (by simpa using q))
def bYd(d:TI)(g:TG)(tb:TS):TS:=λD σ H=>d σ H λJ H1=>∃W:Nat->Nat->St->Hp->Prop,(∃m,W 0 m σ H1)/\∀i m σ H,W i m σ H->
 (J.stop i H/\D.nx σ H)\/(J.go i H/\∃N:St->Hp->Prop,(∀a H',N a H'->∃c,c<m/\W (i+1) c a H')/\∀x H',J.yld i H x H'->g x σ H' λb H2=>tb {D with nx:=N,ct:=N,bk:=D.nx} b H2)
def aZx(a:List Addr)(h:Heap):List (Addr×Obj):=a.filterMap λb=>(h.get? b).map λo=>(b,o)
theorem jA{a:List Addr}{h:Heap}{b:Addr}{o:Obj}(c:b∈a)(e:h.get? b=some o):(b,o)∈aZx a h:=List.mem_filterMap.mpr ⟨b,c,by rw[e];rfl⟩
theorem aK0{a:List Addr}{h:Heap}{p:Addr×Obj}(d:p∈aZx a h):p.1∈a/\h.get? p.1=some p.2:=by
 obtain⟨b,f,e⟩:=List.mem_filterMap.mp d;cases q:h.get? b with
 |none=>rw[q]at e;cases e
 |some o=>rw[q]at e;have c:(b,o)=p:=bYD e;subst c;exact⟨f,q⟩
theorem Inv.pinned{pins:List (Addr×Obj)}{σ:St}{H:Hp}{s:bYl}{a:List Addr}(I:Inv X pins σ H s)(j:∀b∈a,bZu X pins H b)(k:∀b∈a,∃o,s.heap.get? b=some o/\∀v,o.data≠ .cell v):Inv X (pins++aZx a s.heap) σ H s:=
 I.pins_of λp i=>(bYX.mp i).elim (λz=>I.pin p (bYF _ z)) λz=>by obtain⟨f,e⟩:=aK0 z;obtain⟨g,l,h,_⟩:=j p.1 f;obtain⟨o,c,d⟩:=k p.1 f;rw[e]at c;cases c;exact⟨e,g,l,h,d⟩
theorem Inv.unpinned{pins pl:List (Addr×Obj)}{σ:St}{H:Hp}{s:bYl}(I:Inv X (pins++pl) σ H s):Inv X pins σ H s:=I.pins_of λp a=>I.pin p (bYF _ (cXb _ a))
theorem wE{k:Expr}{body:List Stmt}{S:TI}{g:TG}{tb:TS}{pos:Pos}(C:PassesOwn (bYs X.prog X.w) X.A X.env X.xe)(Q:X.calm=true)(hi:PI X tg k S)(hg:PG X tg g)(p:PSs X body tb) (Z:∀x,cJy k X.env x=pure x:=by intro _;rfl):PS X (.For tg k body [] pos) (bYd S g tb):=by
 intro pins s σ H D I h;refine wpAny_For (thn (hi pins s σ H _ I h) λv s1 h1=>thn h1 λa0 s2 h2=>?_) Z;obtain⟨it,F,tn,J,H2,e,I2,T,O,V,W,⟨m0,w0⟩,turn⟩:=h2;subst e;have t:∀ {H':Hp},(∀b∈F,H' b=none)->∀b∈F,bZu X pins H' b:=λhn b p=>⟨hn b p,(V b p).2⟩;refine codeAny_forLoop_any (λn s'=>∃i j H',Inv X pins j H' s'/\tn i s'.heap/\(∀b∈F,H' b=none)/\W i n j H') ?_ m0 ⟨0,σ,H2,I2,O,λb p=>(V b p).1,w0⟩;rintro n R ⟨i,c,L,U,E,K,w3⟩;rcases turn i n c L w3 with⟨B,qn⟩|⟨go,N,hN,step⟩
 ·refine cXF C (thn (T.done X rfl rfl rfl Q i pins R c L X.xe U (t K) E B) λr s4 ⟨hr,I4⟩=>?_);subst hr;exact cZ8 ⟨c,L,I4,qn⟩
 ·refine cXF C (thn (T.item X rfl rfl rfl Q i pins R c L X.xe U (t K) E go) λr s4 ⟨u,hr,h4⟩=>?_);subst hr;refine cXF C (thn h4 λ_ s5 ⟨x,H5,I5,r5,y5,st5,fr5⟩=>?_);have P:=I5.pinned (t fr5) (T.obj _ _ st5);refine cXF C (thn (hg _ s5 c H5 x u _ P r5 (step x H5 y5)) λ_ s6 ⟨σ6,H6,I6,q6⟩=>?_);refine cXF C (thn (p _ s6 σ6 H6 _ I6 q6) λf M z=>?_);have y:∀ {a:St} {q:Hp},Inv X (pins++aZx F s5.heap) a q M->N a q->∃m,m<n/\∃i j H',Inv X pins j H' M/\tn i M.heap/\(∀b∈F,H' b=none)/\W i m j H':=λ{a q} l G=>by
   obtain⟨m',Y,w7⟩:=hN a q G;refine⟨m',Y,i+1,a,q,l.unpinned,T.keep _ _ _ st5 λb p o e=>(l.pin (b,o) (bYF _ (bYF _ (jA p e)))).1,λb p=>?_,w7⟩;obtain⟨o,e,d⟩:=T.obj _ _ st5 b p;exact(l.pin (b,o) (bYF _ (bYF _ (jA p e)))).2.1
  cases f with
  |next=>obtain⟨a,q,l,G⟩:=z;exact y l G
  |cont=>obtain⟨a,q,l,G⟩:=z;exact y l G
  |brk=>obtain⟨a,q,l,z⟩:=z;exact⟨a,q,l.unpinned,z⟩
  |ret v=>obtain⟨x7,a,q,l,r7,z⟩:=z;exact⟨x7,a,q,l.unpinned,r7,z⟩
end
theorem zK{K:bYk}{a:Addr}{xs:List V}{g:TG}{tb:TS}{D:aZV}{σ:St}{H:Hp}(b:Nat->St->Hp->Prop)(h0:b 0 σ H)(hl:∀i σ H,i<=xs.length->b i σ H->SqL K H a xs) (k:∀i x σ H,xs[i]? =some x->b i σ H->g x σ H λc H2=>tb {D with nx:=b (i+1),ct:=b (i+1),bk:=D.nx} c H2) (j:∀σ H,b xs.length σ H->D.nx σ H): ∃W:Nat->Nat->St->Hp->Prop,(∃m,W 0 m σ H)/\∀i m σ H,W i m σ H-> ((Itl K a).stop i H/\D.nx σ H)\/((Itl K a).go i H/\∃N:St->Hp->Prop,(∀d H',N d H'->∃h,h<m/\W (i+1) h d H')/\∀x H',(Itl K a).yld i H x H'->g x σ H' λc H2=>tb {D with nx:=N,ct:=N,bk:=D.nx} c H2):=by
 refine⟨λi m σ H=>m=xs.length - i/\i<=xs.length/\b i σ H,⟨xs.length,by simp,cQe _,h0⟩,?_⟩;rintro i m σ H ⟨rfl,hi,p⟩;have q:=hl i σ H hi p;by_cases f:i<xs.length
 ·refine .inr ⟨⟨xs,xs[i],q,by simp[f]⟩,b (i+1),λd H' l=>⟨xs.length - (i+1),by omega,rfl,f,l⟩,λx H' y=>?_⟩;obtain⟨e,y⟩:=y;subst e;exact k i x σ _ (y xs q) p
 ·have e:i=xs.length:=by omega
  subst e;exact .inl ⟨⟨xs,q,bYp _⟩,j σ H p⟩
theorem vL{lo:Int}{n:Nat}{g:TG}{tb:TS}{D:aZV}{σ:St}{H:Hp}(c:Nat->St->Hp->Prop)(h0:c 0 σ H) (j:∀i σ H,i<n->c i σ H->g (.int (lo+i)) σ H λa H2=>tb {D with nx:=c (i+1),ct:=c (i+1),bk:=D.nx} a H2) (h:∀σ H,c n σ H->D.nx σ H): ∃W:Nat->Nat->St->Hp->Prop,(∃m,W 0 m σ H)/\∀i m σ H,W i m σ H-> ((Itr lo n).stop i H/\D.nx σ H)\/((Itr lo n).go i H/\∃N:St->Hp->Prop,(∀d H',N d H'->∃f,f<m/\W (i+1) f d H')/\∀x H',(Itr lo n).yld i H x H'->g x σ H' λa H2=>tb {D with nx:=N,ct:=N,bk:=D.nx} a H2):=by
 refine⟨λi m σ H=>m=n - i/\i<=n/\c i σ H,⟨n,by simp,cQe _,h0⟩,?_⟩;rintro i m σ H ⟨rfl,hi,p⟩;by_cases b:i<n
 ·refine .inr ⟨b,c (i+1),λd H' k=>⟨n - (i+1),by omega,rfl,b,k⟩,λx H' y=>?_⟩;obtain⟨e,y⟩:=y;subst e y;exact j i σ _ b p
 ·have e:i=n:=by omega
  subst e;exact .inl ⟨bYp _,h σ H p⟩
end L2
namespace L2
open PySem PySem.Spec PyProof.Rows
abbrev R2:=V->V->Hp->VK->Prop
def OpR(X:Cx)(f:bYi->bYi->Sem bYi)(r:R2):Prop:=
 ∀ (pins:List (Addr×Obj))(s:bYl)(σ:St)(H:Hp)(x y:V)(v u:bYi)(Q:VK),Inv X pins σ H s->zE x v->zE y u->r x y H Q->
  bYq (bYs X.prog X.w) X.A (f v u) (EP X pins σ Q) X.xe s
def UnR(X:Cx)(f:bYi->Sem bYi)(r:V->Hp->VK->Prop):Prop:=
 ∀ (pins:List (Addr×Obj))(s:bYl)(σ:St)(H:Hp)(x:V)(v:bYi)(Q:VK),Inv X pins σ H s->zE x v->r x H Q->
  bYq (bYs X.prog X.w) X.A (f v) (EP X pins σ Q) X.xe s
def jO(X:Cx)(f:bYi)(r:List V->Hp->VK->Prop):Prop:=
 ∀ (pins:List (Addr×Obj))(s:bYl)(σ:St)(H:Hp)(xs:List V)(a:List bYi)(Q:VK),Inv X pins σ H s->xS xs a->r xs H Q->
  bYq (bYs X.prog X.w) X.A (call f a) (EP X pins σ Q) X.xe s
def tOp(r:R2)(ta tb:TE):TE:=λσ H Q=>ta σ H λx H1=>tb σ H1 λy H2=>r x y H2 Q
def tUn(r:V->Hp->VK->Prop)(ta:TE):TE:=λσ H Q=>ta σ H λx H1=>r x H1 Q
inductive rI(C:Int->Int->Prop)(g:Int->Int->V)(x:V)(y:V)(H:Hp)(Q:VK):Prop|mk (i j) (_:x= .int i) (_:y= .int j) (_:C i j) (_:Q (g i j) H)
inductive rI0(g:Int->Int->V)(x:V)(y:V)(H:Hp)(Q:VK):Prop|mk (i j) (_:x= .int i) (_:y= .int j) (_:Q (g i j) H)
inductive rU(g:Int->V)(x:V)(H:Hp)(Q:VK):Prop|mk (i) (_:x= .int i) (_:Q (g i) H)
section
variable {X:Cx}{a b c:Expr}{ta tb tc:TE}{pos:Pos}
theorem bKh(j:PE X a ta)(i:PE X b tb){pins:List (Addr×Obj)}{s:bYl}{σ:St}{H:Hp}{R:V->V->Hp->Prop}(I:Inv X pins σ H s) (h:ta σ H λx H1=>tb σ H1 λy H2=>R x y H2) {Q:bYi->bYl->Prop} {f:bYi->bYi->Sem bYi} (g:∀v u e x y H2,Inv X pins σ H2 e->zE x v->zE y u->R x y H2->bYq (bYs X.prog X.w) X.A (f v u) Q X.xe e): bYq (bYs X.prog X.w) X.A (eval a X.env) (λv d=>bYq (bYs X.prog X.w) X.A (eval b X.env) (λu c=>bYq (bYs X.prog X.w) X.A (f v u) Q X.xe c) X.xe d) X.xe s:=by
 refine thn (j pins s σ H _ I h) λv s1 ⟨x,H1,I1,r1,q1⟩=>?_;refine thn (i pins s1 σ H1 _ I1 q1) λu e ⟨y,H2,I2,r2,q2⟩=>?_;exact g v u e x y H2 I2 r1 r2 q2
theorem yV{op:Operator}{r:R2}(j:OpR X (cXX op) r)(g:PE X a ta)(f:PE X b tb):PE X (.BinOp a op b pos) (tOp r ta tb):=by
 intro pins s σ H Q I h;exact wpAny_BinOp (bKh g f I h λv u d x y H2 c e i q=>j pins d σ H2 x y v u Q c e i q)
theorem aYl{op:UnaryOp}{r:V->Hp->VK->Prop}(c:UnR X (unaryOp op) r)(b:PE X a ta):PE X (.UnaryOp op a pos) (tUn r ta):=by
 intro pins s σ H Q I h;exact UnaryOp_ (thn (b pins s σ H _ I h) λv s1 ⟨x,H1,I1,r1,q1⟩=>c pins s1 σ H1 x v Q I1 r1 q1)
theorem opI{f:bYi->bYi->Sem bYi}{C:Int->Int->Prop}{g:Int->Int->Int} (a:∀ (i j:Int)(t u:Tok)(s:bYl)(Q:bYi->bYl->Prop)(E:bYi->bYl->Prop),C i j->Q (.int (g i j) s.toks) {s with toks:=s.toks+1}->bYq (bYs X.prog X.w) X.A (f (.int i t) (.int j u)) Q E s): OpR X f (rI C λi j=> .int (g i j)):=by
 intro pins s σ H x y v u Q I c d h;obtain⟨i,j,rfl,rfl,b,q⟩:=h;obtain⟨t,rfl⟩:=c;obtain⟨e,rfl⟩:=d;exact a i j t e s _ _ b ⟨.int (g i j),H,I.tok _,⟨_,rfl⟩,q⟩
theorem bKQ{f:bYi->bYi->Sem bYi}{g:Int->Int->Int} (a:∀ (i j:Int)(t u:Tok)(s:bYl)(Q:bYi->bYl->Prop)(E:bYi->bYl->Prop),Q (.int (g i j) s.toks) {s with toks:=s.toks+1}->bYq (bYs X.prog X.w) X.A (f (.int i t) (.int j u)) Q E s): OpR X f (rI0 λi j=> .int (g i j)):=by
 intro pins s σ H x y v u Q I b c h;obtain⟨i,j,rfl,rfl,q⟩:=h;obtain⟨t,rfl⟩:=b;obtain⟨d,rfl⟩:=c;exact a i j t d s _ _ ⟨.int (g i j),H,I.tok _,⟨_,rfl⟩,q⟩
theorem bW5{f:bYi->bYi->Sem bYi}{g:Int->Int->Bool} (a:∀ (i j:Int)(t u:Tok)(s:bYl)(Q:bYi->bYl->Prop)(E:bYi->bYl->Prop),Q (.bool (g i j)) s->bYq (bYs X.prog X.w) X.A (f (.int i t) (.int j u)) Q E s): OpR X f (rI0 λi j=> .bl (g i j)):=by
 intro pins s σ H x y v u Q I b c h;obtain⟨i,j,rfl,rfl,q⟩:=h;obtain⟨t,rfl⟩:=b;obtain⟨d,rfl⟩:=c;exact a i j t d s _ _ ⟨.bl (g i j),H,I,rfl,q⟩
def bKY(i j:Int):Prop:=0<j/\j<1073741824
def bKM(i j:Int):Prop:=0<=j/\j<=1000000/\i.natAbs<2 ^ 64
def bKb(i j:Int):Prop:=(-(2 ^ 64)<i/\i<2 ^ 64)\/(-(2 ^ 64)<j/\j<2 ^ 64)
theorem bKb.ok{i j:Int}(h:bKb i j):IntMulOk i j:=by
 rcases h with⟨h1,h2⟩|⟨h1,h2⟩
 ·exact .of_left (intBits_le_64 h1 h2)
 ·exact .of_right (intBits_le_64 h1 h2)
theorem zA:OpR X (cXX .Add) (rI0 λi j=> .int (i+j)):=bKQ λ_ _ _ _ _ _ _ q=>add_int q
theorem wU:OpR X (cXX .Sub) (rI0 λi j=> .int (i - j)):=bKQ λ_ _ _ _ _ _ _ q=>sub_int q
theorem aVi:OpR X (cXX .Mult) (rI bKb λi j=> .int (i*j)):=opI λ_ _ _ _ _ _ _ a q=>mul_int q a.ok
theorem Y3:OpR X (cXX .FloorDiv) (rI bKY λi j=> .int (i / j)):=opI λi j _ _ _ _ _ a q=>by
 have h1:(0:Int)<j:=a.1;have h2:j<1073741824:=a.2;exact floordiv_int (by omega) (by rw[Int.fdiv_eq_ediv_of_nonneg i (by omega)];exact q) (.inl (PyProof.noPylong_small (by omega)))
theorem y0:OpR X (cXX .Mod) (rI (λ_ j=>0<j) λi j=> .int (i % j)):=opI λi j _ _ _ _ _ a q=>by
 have h1:(0:Int)<j:=a;exact mod_int' (by omega) (by rw[Int.fmod_eq_emod_of_nonneg i (by omega)];exact q)
theorem aQj:OpR X (cXX .Pow) (rI bKM λi j=> .int (i ^ j.toNat)):=opI λ_ _ _ _ _ _ _ a q=>pow_int_small a.1 a.2.1 a.2.2 q
theorem unI{f:bYi->Sem bYi}{g:Int->Int} (a:∀ (i:Int)(t:Tok)(s:bYl)(Q:bYi->bYl->Prop)(E:bYi->bYl->Prop),Q (.int (g i) s.toks) {s with toks:=s.toks+1}->bYq (bYs X.prog X.w) X.A (f (.int i t)) Q E s): UnR X f (rU λi=> .int (g i)):=by
 intro pins s σ H x v Q I b h;obtain⟨i,rfl,q⟩:=h;obtain⟨t,rfl⟩:=b;exact a i t s _ _ ⟨.int (g i),H,I.tok _,⟨_,rfl⟩,q⟩
theorem aZR:UnR X (unaryOp .USub) (rU λi=> .int (-i)):=unI λ_ _ _ _ _ q=>neg_int q
end
def bKS:V->V->Bool
 |.non,.non=>true|.non,.int _=>true|.int _,.non=>true|.non,.bl _=>true|.bl _,.non=>true|.non,.str _=>true|.str _,.non=>true
 |.int _,.int _=>true|.bl _,.bl _=>true|.str _,.str _=>true|.byt _,.byt _=>true
 |.int _,.str _=>true|.str _,.int _=>true|.bl _,.str _=>true|.str _,.bl _=>true
 |_,_=>false
inductive rEq(x:V)(y:V)(H:Hp)(Q:VK):Prop|mk (_:bKS x y=true) (_:Q (.bl (decide (x=y))) H)
inductive rNe(x:V)(y:V)(H:Hp)(Q:VK):Prop|mk (_:bKS x y=true) (_:Q (.bl (!decide (x=y))) H)
theorem aKo{i j:Int}:decide (V.int i=V.int j)=(i==j):=by
 rw[Bool.eq_iff_iff];simp
theorem bZz{i j:Bool}:decide (V.bl i=V.bl j)=(i==j):=by
 rw[Bool.eq_iff_iff];simp
theorem aKp{i j:Str}:decide (V.str i=V.str j)=(i==j):=by
 rw[Bool.eq_iff_iff];simp
theorem aKn{i j:Array UInt8}:decide (V.byt i=V.byt j)=(i.toList==j.toList):=by
 rw[Bool.eq_iff_iff];cases i;cases j;simp
section
variable {X:Cx}{a b c:Expr}{ta tb tc:TE}{pos:Pos}
theorem xP{pins:List (Addr×Obj)}{σ:St}{H:Hp}{s:bYl}{Q:VK}{k a:Bool}(I:Inv X pins σ H s)(q:Q (.bl k) H)(e:k=a):EP X pins σ Q (.bool a) s:=by
 subst e;exact⟨.bl k,H,I,rfl,q⟩
theorem x9:OpR X (cQM .Eq) rEq:=by
 intro pins s σ H x y v u Q I d a h;obtain⟨c,q⟩:=h;cases x with
 |non=>
  cases d;cases y with
  |non=>cases a;exact PySem.EqNone.eq_none_none (xP I q (by simp))
  |bl j=>cases a;exact PySem.EqNone.eq_none_bool (xP I q (by simp))
  |int j=>obtain⟨b,rfl⟩:=a;exact PySem.EqNone.eq_none_int (xP I q (by simp))
  |str j=>obtain⟨b,rfl⟩:=a;exact PySem.EqNone.eq_none_str (xP I q (by simp))
  |_=>exact absurd (show false=true from c) Bool.false_ne_true
 |bl i=>
  cases d;cases y with
  |non=>cases a;exact PySem.EqNone.eq_bool_none (xP I q (by simp))
  |bl j=>cases a;exact eq_bool (xP I q bZz)
  |str j=>obtain⟨b,rfl⟩:=a;exact PySem.EqMixed.eq_bool_str (xP I q (by simp))
  |_=>exact absurd (show false=true from c) Bool.false_ne_true
 |int i=>
  obtain⟨t,rfl⟩:=d;cases y with
  |non=>cases a;exact PySem.EqNone.eq_int_none (xP I q (by simp))
  |int j=>obtain⟨b,rfl⟩:=a;exact eq_int (xP I q aKo)
  |str j=>obtain⟨b,rfl⟩:=a;exact PySem.EqMixed.eq_int_str (xP I q (by simp))
  |_=>exact absurd (show false=true from c) Bool.false_ne_true
 |str i=>
  obtain⟨t,rfl⟩:=d;cases y with
  |non=>cases a;exact PySem.EqNone.eq_str_none (xP I q (by simp))
  |bl j=>cases a;exact PySem.EqMixed.eq_str_bool (xP I q (by simp))
  |int j=>obtain⟨b,rfl⟩:=a;exact PySem.EqMixed.eq_str_int (xP I q (by simp))
  |str j=>obtain⟨b,rfl⟩:=a;exact eq_str (xP I q aKp)
  |_=>exact absurd (show false=true from c) Bool.false_ne_true
 |byt i=>
  obtain⟨t,rfl⟩:=d;cases y with
  |byt j=>obtain⟨b,rfl⟩:=a;exact PySem.W.eq_bytes (xP I q aKn)
  |_=>exact absurd (show false=true from c) Bool.false_ne_true
 |_=>cases y<;> exact absurd (show false=true from c) Bool.false_ne_true
theorem aZt:OpR X (cQM .NotEq) rNe:=by
 intro pins s σ H x y v u Q I d a h;obtain⟨c,q⟩:=h;cases x with
 |non=>
  cases d;cases y with
  |non=>cases a;exact PySem.EqNone.ne_none_none (xP I q (by simp))
  |bl j=>cases a;exact PySem.EqNone.ne_none_bool (xP I q (by simp))
  |int j=>obtain⟨b,rfl⟩:=a;exact PySem.EqNone.ne_none_int (xP I q (by simp))
  |str j=>obtain⟨b,rfl⟩:=a;exact PySem.EqNone.ne_none_str (xP I q (by simp))
  |_=>exact absurd (show false=true from c) Bool.false_ne_true
 |bl i=>
  cases d;cases y with
  |non=>cases a;exact PySem.EqNone.ne_bool_none (xP I q (by simp))
  |bl j=>cases a;exact ne_bool (xP I q (congrArg not bZz))
  |str j=>obtain⟨b,rfl⟩:=a;exact PySem.EqMixed.ne_bool_str (xP I q (by simp))
  |_=>exact absurd (show false=true from c) Bool.false_ne_true
 |int i=>
  obtain⟨t,rfl⟩:=d;cases y with
  |non=>cases a;exact PySem.EqNone.ne_int_none (xP I q (by simp))
  |int j=>obtain⟨b,rfl⟩:=a;exact ne_int (xP I q (congrArg not aKo))
  |str j=>obtain⟨b,rfl⟩:=a;exact PySem.EqMixed.ne_int_str (xP I q (by simp))
  |_=>exact absurd (show false=true from c) Bool.false_ne_true
 |str i=>
  obtain⟨t,rfl⟩:=d;cases y with
  |non=>cases a;exact PySem.EqNone.ne_str_none (xP I q (by simp))
  |bl j=>cases a;exact PySem.EqMixed.ne_str_bool (xP I q (by simp))
  |int j=>obtain⟨b,rfl⟩:=a;exact PySem.EqMixed.ne_str_int (xP I q (by simp))
  |str j=>obtain⟨b,rfl⟩:=a;exact ne_str (xP I q (congrArg not aKp))
  |_=>exact absurd (show false=true from c) Bool.false_ne_true
 |byt i=>
  obtain⟨t,rfl⟩:=d;cases y with
  |byt j=>obtain⟨b,rfl⟩:=a;exact PySem.W.ne_bytes (xP I q (congrArg not aKn))
  |_=>exact absurd (show false=true from c) Bool.false_ne_true
 |_=>cases y<;> exact absurd (show false=true from c) Bool.false_ne_true
theorem vF:OpR X (cQM .Lt) (rI0 λi j=> .bl (decide (i<j))):=bW5 λ_ _ _ _ _ _ _ q=>lt_int q
theorem aYg:OpR X (cQM .LtE) (rI0 λi j=> .bl (decide (i<=j))):=bW5 λ_ _ _ _ _ _ _ q=>le_int q
theorem aQW:OpR X (cQM .Gt) (rI0 λi j=> .bl (decide (j<i))):=bW5 λ_ _ _ _ _ _ _ q=>gt_int q
theorem bKq:OpR X (cQM .GtE) (rI0 λi j=> .bl (decide (j<=i))):=bW5 λ_ _ _ _ _ _ _ q=>ge_int q
theorem aVh:OpR X (cQM .Is) (λx y H Q=>y= .non/\Q (.bl (decide (x= .non))) H):=by
 intro pins s σ H x y v u Q I a b h;obtain⟨rfl,q⟩:=h;cases b;refine is_none_gen (xP I q ?_);cases x<;> first
  |(cases a;rfl)
  |(obtain⟨t,rfl⟩:=a;rfl)
theorem wG:OpR X (cQM .IsNot) (λx y H Q=>y= .non/\Q (.bl (!decide (x= .non))) H):=by
 intro pins s σ H x y v u Q I a b h;obtain⟨rfl,q⟩:=h;cases b;refine isnot_none_gen (xP I q ?_);cases x<;> first
  |(cases a;rfl)
  |(obtain⟨t,rfl⟩:=a;rfl)
theorem bZM(b:Expr){op:CmpOp}(h:op≠ .In:=by decide)(h2:op≠ .NotIn:=by decide):cX5 op b=false:=by
 have a:(op==CmpOp.In)=false:=by cases op<;> first|rfl|exact absurd rfl h
 have c:(op==CmpOp.NotIn)=false:=by cases op<;> first|rfl|exact absurd rfl h2
 cases b<;> simp[cX5,a,c]
theorem zI{op:CmpOp}{r:R2}(k:OpR X (cQM op) r)(i:PE X a ta)(g:PE X b tb)(c:cX5 op b=false:=by first|exact bZM _|with_unfolding_all rfl):PE X (.Compare a [op] [b] pos) (tOp r ta tb):=by
 intro pins s σ H Q I h;exact wpAny_Compare1 (bKh i g I h λv u e x y H2 d f j q=>k pins e σ H2 x y v u Q d f j q) c
inductive bWW(Q:Bool->Hp->Prop)(x:V)(H':Hp):Prop|mk (k) (_:x= .bl k) (_:Q k H')
def bWV(t:TE):TT:=λσ H Q=>t σ H λx H'=>bWW Q x H'
theorem yN{op:CmpOp}{r:R2}(g:OpR X (cQM op) r)(d:PE X a ta)(i:PE X b tb)(f:cX5 op b=false:=by first|exact bZM _|with_unfolding_all rfl):PT X (.Compare a [op] [b] pos) (bWV (tOp r ta tb)):=by
 intro pins s σ H Q I h;refine wpAny_isTrue_Compare1 (thn (d pins s σ H _ I h) λv s1 ⟨x,H1,I1,r1,q1⟩=>thn (i pins s1 σ H1 _ I1 q1) λu s2 ⟨y,H2,I2,r2,q2⟩=>
  thn (g pins s2 σ H2 x y v u _ I2 r1 r2 q2) λc s3 ⟨z,H3,I3,r3,k,e,q3⟩=>?_) f
 subst e;cases r3;exact cXf ⟨H3,I3,q3⟩
inductive bVC(r':R2)(tc:TE)(σ:St)(Q:VK)(y:V)(z:V)(H3:Hp):Prop|mk (k) (_:z= .bl k) (_:(if k=true then tc σ H3 λw' H4=>r' y w' H4 Q else Q (.bl false) H3))
def bWQ(r b:R2)(ta tb tc:TE):TE:=λσ H Q=>ta σ H λx H1=>tb σ H1 λy H2=>r x y H2 λz a=>bVC b tc σ Q y z a
theorem bXE{op f:CmpOp}{r i:R2}(q:OpR X (cQM op) r)(g:OpR X (cQM f) i)(p:PE X a ta)(o:PE X b tb)(m:PE X c tc) (l:lastMarks [op,f] [b,c]=false:=by with_unfolding_all rfl):PT X (.Compare a [op,f] [b,c] pos) (bWV (bWQ r i ta tb tc)):=by
 intro pins s σ H Q I h;refine isTrue_chain (thn (p pins s σ H _ I h) λv s1 ⟨x,H1,I1,r1,q1⟩=>test_link (thn (o pins s1 σ H1 _ I1 q1) λu s2 ⟨y,H2,I2,r2,q2⟩=>
  thn (q pins s2 σ H2 x y v u _ I2 r1 r2 q2) λd s3 ⟨z,H3,I3,r3,k,e,q3⟩=>?_)) l
 subst e;cases r3;refine cXf ?_;cases k with
 |false=>obtain⟨t,j,n⟩:=q3;cases j;exact ite_ff ⟨H3,I3,n⟩
 |true=>refine ite_tt (test_last (thn (m pins s3 σ H3 _ I3 q3) λw' s4 ⟨z',H4,I4,r4,q4⟩=>thn (g pins s4 σ H4 y z' u w' _ I4 r2 r4 q4) λd' s5 ⟨z2,H5,I5,r5,k2,e2,q5⟩=>?_));subst e2;cases r5;exact cXf ⟨H5,I5,q5⟩
theorem aZn:(bYI:Nat)<2 ^ 63:=by rw[bYR];decide
inductive aJu(x:V)(y:V)(H:Hp)(Q:VK):Prop|mk (i j) (_:x= .str i) (_:y= .str j) (_:i.length+j.length<=bYI) (_:Q (.str (i++j)) H)
theorem aQ5:OpR X (cXX .Add) aJu:=by
 intro pins s σ H x y v u Q I a b h;obtain⟨i,j,rfl,rfl,c,q⟩:=h;obtain⟨t,rfl⟩:=a;obtain⟨d,rfl⟩:=b;exact add_str (λd tk=>⟨.str (i++j),H,I.tok _,⟨_,rfl⟩,q⟩) c
theorem aQM{x:V}{us:List bYi}(r:xS [x] us):∃u,us= [u]/\zE x u:=by
 cases r with
 |cons b a=>cases a;exact⟨_,rfl,b⟩
theorem bW0{x y:V}{us:List bYi}(r:xS [x,y] us):∃u a,us= [u,a]/\zE x u/\zE y a:=by
 cases r with
 |cons e c=>
  cases c with
  |cons d b=>cases b;exact⟨_,_,rfl,e,d⟩
inductive aVW(xs:List V)(H:Hp)(Q:VK):Prop|mk (i j) (_:xs= [.int i,.int j]) (_:Q (.int (if j > i then j else i)) H)
theorem aKh(b:X.calm=true):jO X (.builtin "max") aVW:=by
 intro pins s σ H xs c Q I r h;obtain⟨i,j,rfl,q⟩:=h;obtain⟨u,d,rfl,⟨t,rfl⟩,⟨e,rfl⟩⟩:=bW0 r;refine max_two_ints (I.ok.hd b) λh' tk k=>⟨_,H,I.kept k,?_,q⟩;by_cases a:j > i
 ·rw[if_pos a,if_pos a];exact⟨_,rfl⟩
 ·rw[if_neg a,if_neg a];exact⟨_,rfl⟩
inductive aVX(xs:List V)(H:Hp)(Q:VK):Prop|mk (i j) (_:xs= [.int i,.int j]) (_:Q (.int (if j<i then j else i)) H)
theorem aKi(b:X.calm=true):jO X (.builtin "min") aVX:=by
 intro pins s σ H xs c Q I r h;obtain⟨i,j,rfl,q⟩:=h;obtain⟨u,d,rfl,⟨t,rfl⟩,⟨e,rfl⟩⟩:=bW0 r;refine min_two_ints (I.ok.hd b) λh' tk k=>⟨_,H,I.kept k,?_,q⟩;by_cases a:j<i
 ·rw[if_pos a,if_pos a];exact⟨_,rfl⟩
 ·rw[if_neg a,if_neg a];exact⟨_,rfl⟩
theorem wR:jO X (.type "int") (λxs H Q=>(∃i,xs= [.int i]/\Q (.int i) H)\/∃k,xs= [.bl k]/\Q (.int (if k then 1 else 0)) H):=by
 intro pins s σ H xs b Q I r h;rcases h with⟨i,rfl,q⟩|⟨k,rfl,q⟩
 ·obtain⟨u,rfl,t,rfl⟩:=aQM r;exact call_int_int ⟨.int i,H,I,⟨_,rfl⟩,q⟩
 ·obtain⟨u,rfl,a⟩:=aQM r;cases a;exact call_int_bool ⟨.int (if k then 1 else 0),H,I.tok _,⟨_,rfl⟩,q⟩
end
end L2
namespace L2
open PySem PySem.Spec PyProof.Rows
structure bZ7(h:Heap)(x dx C:Addr)(mA:Str->Option bYi):Prop where
 obj:h.get? x=some (cXq C dx)
 ns:h.Ns1 dx mA
 ne:dx≠x
theorem aZo{h:Heap}{dx:Addr}{mA:Str->Option bYi}(n:h.Ns1 dx mA):∃c,h.get? dx=some c/\∀name,cJh name c=some (mA name):=by
 obtain⟨o,es,l,k,d,i,_,f⟩:=n;refine⟨o,k,λname=>?_⟩;have e:=f name;unfold nsFind findBy at e;rw[<- Array.find?_toList]at e;unfold cJh;rw[d];dsimp only;split
 ·rename_i y q;rw[q]at e;exact congrArg some e
 ·rename_i q;rw[q]at e;have a:es.toList.any (·.refKey)=false:=by
   rw[List.any_eq_false];intro y g;obtain⟨z,t,b⟩:=i y (Array.mem_toList_iff.mp g);simp[DictEntry.refKey,b]
  have j:¬es.toList.any (·.refKey)=true:=by rw[a];exact Bool.false_ne_true
  rw[if_neg j];exact congrArg some e
theorem bZ7.look{h:Heap}{x dx C:Addr}{mA:Str->Option bYi}(I:bZ7 h x dx C mA):∃a,PySem.W.InstAt h x (cXq C dx) C (some a)/\∀name,cJh name a=some (mA name):=
 let ⟨a,ho,hl⟩:=aZo I.ns
 ⟨a,⟨I.obj,rfl,rfl,ho⟩,hl⟩
section
variable {prog:bYE}{w:bYK}{A:bYW}{E:bYi->bYl->Prop}{s:bYl}{K:bYk}{x dx C f:Addr}{mA:Str->Option bYi}{name:Str}{v:bYi}
theorem bJo{a:Bool}{Q:bYi->bYl->Prop}(X:K.In s.heap)(I:bZ7 s.heap x dx C mA)(f:cXW K C name=true)(e:cZf K C=true) (c:bY1 K (.ref C) name=some none) (d:mA name=some v) (b:PySem.W.handedIn v=true) (h:Q v {s with toks:=s.toks+1}): bYq (bYs prog w) A (getAttr (.ref x) name a) Q E s:=by
 obtain⟨g,J,hl⟩:=I.look;exact PySem.W.get_value X J (cJe f).1 (PySem.W.findObj_own e c rfl (by rw[hl,d])) b h
theorem bQL{pl:Sem Bool}{Q:bYi×List bYi->bYl->Prop}(X:K.In s.heap)(I:bZ7 s.heap x dx C mA)(a:cXW K C name=true) (d:bY1 K (.ref C) name=some (some (.ref f))) (e:cXV K (.ref f)=true) (c:mA name=none) (h:Q (.ref f,[.ref x]) s): bYq (bYs prog w) A (cZI (.ref x) name pl) Q E s:=by
 obtain⟨b,J,hl⟩:=I.look;exact PySem.W.method_fn X J (cJe a).1 (cJe a).2 d (beq_iff_eq.mp e) (by show(cJh name b).map (·.isSome)=some false;rw[hl,c];rfl) h
theorem bVw{j:List Str}{Q:Unit->bYl->Prop}(X:K.In s.heap)(I:bZ7 s.heap x dx C mA) (n:bY1 K (.ref C) "__setattr__"=some (some (.builtin "object.__setattr__"))) (o:cZO K C=true) (m:PySem.W.takerIn K C name=some none) (q:cZf K C=true) (hw:PySem.Within mA j) (hsz:j.length<=bYI) (h:∀h',bZ7 h' x dx C (λy=>if y=name then some v else mA y)->cXi dx s.heap h'->Q () {s with heap:=h',toks:=s.toks+2}): bYq (bYs prog w) A (setAttr (.ref x) name v) Q E s:=by
 obtain⟨B,J,hl⟩:=I.look;refine PySem.W.set_plain X J n (PySem.W.osa_open (s:={s with toks:=s.toks+1}) (r:=none) X J o m λb=>?_);obtain⟨u,l,e⟩:=PySem.W.any_some q;have t:s.heap.get? x=some ⟨.ref C,some dx,.plain, #[]⟩:=I.obj;refine bYj (bYn (bYj (bYj (wpAny_loadPart t (bYj (PySem.W.Looks.here (s:={s with toks:=s.toks+1}) (PySem.W.looks_clsIn X l) ?_))))));rw[e];refine bYn (a:=some dx) (bYj (bYn (bYj ?_)));refine wpAny_nsSet1 (s:={s with toks:=s.toks+1}) I.ns λh' c d=>?_;obtain⟨z,p,k,i,f,g⟩:=c.count (PySem.Within.cons name v hw);refine bYj (wpAny_lookBehind i (by rw[f];exact pastItsLine_dict (bYT g (by rw[cQh];omega))) ?_);exact bYn (h _ ⟨(d.2 _ (bY0 I.ne)).trans I.obj,c,I.ne⟩ d)
theorem bQ5{R:Result->bYl->Prop}{vs:List bYi}{a:List (Str×bYi)}(X:K.In s.heap)(b:PySem.W.makesIn K C=true) (hi:bY1 K (.ref C) "__init__"=some (some (.ref f))) (c:PySem.W.typeIn K (.ref f)=some (.type "function")) (h:cXw (bYs prog w) (A.under (.builtin "type.__call__" ⟨.ref C::vs,a⟩)) (.call (.ref f) ⟨.ref (s.heap.objs.size+1)::vs,a⟩) (PySem.W.InitBack (s.heap.objs.size+1) R) {s with heap:=(s.heap.push cQZ).push (cXq C s.heap.objs.size) }): cXw (bYs prog w) A (.call (.ref C) ⟨vs,a⟩) R s:=by
 obtain⟨i,g,d,t,e⟩:=s;exact PySem.W.make_core (PySem.W.makes_of X b) (PySem.W.looks_findIn X hi) (λself=>PySem.W.bind_fn X self c) (.inl rfl) h
end
def aQX(f:Str)(v:V):List (Str×V)->List (Str×V)
 |[]=> [(f,v)]
 |(g,x)::r=>if g=f then(g,v)::r else(g,x)::aQX f v r
theorem aQe(f g:Str)(v:V):∀fs:List (Str×V),(aQX f v fs).lookup g=if g=f then some v else fs.lookup g
 |[]=>by
  show cXy g [(f,v)]=_;by_cases h:g=f
  ·have a:(g==f)=true:=beq_iff_eq.mpr h;simp only[cXy,a,if_pos h]
  ·have a:(g==f)=false:=beq_eq_false_iff_ne.mpr h;simp only[cXy,a,if_neg h]
 |(k,x)::r=>by
  have c:=aQe f g v r;rw[show aQX f v ((k,x)::r)=(if k=f then(k,v)::r else(k,x)::aQX f v r)from rfl];by_cases b:k=f
  ·rw[if_pos b];by_cases h:g=k
   ·have a:(g==k)=true:=beq_iff_eq.mpr h;simp only[cXy,a,if_pos (h.trans b)]
   ·have a:(g==k)=false:=beq_eq_false_iff_ne.mpr h;simp only[cXy,a,if_neg (λe:g=f=>h (e.trans b.symm))]
  ·rw[if_neg b];by_cases h:g=k
   ·have a:(g==k)=true:=beq_iff_eq.mpr h;simp only[cXy,a,if_neg (λe:g=f=>b (h.symm.trans e))]
   ·have a:(g==k)=false:=beq_eq_false_iff_ne.mpr h;simp only[cXy,a];exact c
theorem Q7(f:Str)(v:V):∀fs:List (Str×V),f∈(aQX f v fs).map (·.1)/\∀g,g∈fs.map (·.1)->g∈(aQX f v fs).map (·.1)
 |[]=>⟨by simp[aQX],λg h=>by simp at h⟩
 |(k,x)::r=>by
  obtain⟨c,b⟩:=Q7 f v r;rw[show aQX f v ((k,x)::r)=(if k=f then(k,v)::r else(k,x)::aQX f v r)from rfl];by_cases a:k=f
  ·rw[if_pos a];subst a;exact⟨by simp,λg h=>by simpa using h⟩
  ·rw[if_neg a];refine⟨?_,λg h=>?_⟩
   ·rw[bY2];exact bYt _ c
   ·rw[bY2]at h ⊢;rcases bYr.mp h with e|e
    ·exact bYr.mpr (.inl e)
    ·exact bYt _ (b g e)
theorem aQd(f:Str)(v:V):∀fs:List (Str×V),(aQX f v fs).length<=fs.length+1
 |[]=>by simp[aQX]
 |(k,x)::r=>by
  have b:=aQd f v r;rw[show aQX f v ((k,x)::r)=(if k=f then(k,v)::r else(k,x)::aQX f v r)from rfl];by_cases a:k=f
  ·rw[if_pos a,cQh,cQh];omega
  ·rw[if_neg a,cQh,cQh];omega
theorem aXT.some_of{v:V}{o:Option bYi}(r:aXT (some v) o):∃u,o=some u/\zE v u:=by
 cases o with
 |none=>exact(show False from r).elim
 |some u=>exact⟨u,rfl,r⟩
theorem aXT.none_of{o:Option bYi}(r:aXT none o):o=none:=by
 cases o with
 |none=>rfl
 |some u=>exact(show False from r).elim
theorem aZa{v:V}{u:bYi}(r:zE v u):PySem.W.handedIn u=true:=by
 cases v with
 |non=>cases (show u=Value.none from r);rfl
 |bl b=>cases (show u=Value.bool b from r);rfl
 |int i=>obtain⟨t,e⟩:=(show ∃t,u=Value.int i t from r);cases e;rfl
 |str x=>obtain⟨t,e⟩:=(show ∃t,u=Value.str x t from r);cases e;rfl
 |byt b=>obtain⟨t,e⟩:=(show ∃t,u=Value.bytes b t from r);cases e;rfl
 |flt b=>obtain⟨t,e⟩:=(show ∃t,u=Value.float b t from r);cases e;rfl
 |ref a=>cases (show u=Value.ref a from r);rfl
 |ty n=>cases (show u=Value.type n from r);rfl
section
variable {P:bYE}{w:bYK}{H H':Hp}{h h':Heap}{a C dx:Addr}{fs fs':List (Str×V)}
theorem Q4(b:HOk P w H h)(e:H a=some (.ins C dx fs)):∃mA,bZ7 h a dx C mA/\(∀f,aXT (fs.lookup f) (mA f))/\PySem.Within mA (fs.map (·.1))/\fs.length<=1000/\H dx=some (.own a):=by
 obtain⟨d,z,ne,c,mA,n,r,q⟩:=(show x4 P w H h a (.ins C dx fs)from b a _ e);exact⟨mA,⟨c,n,ne⟩,r,q,z,d⟩
end
structure Cls(K:bYk)(C:Addr):Prop where
 pg:cXW K C Str.empty=true
 hd:cZf K C=true
 po:cZO K C=true
 sa:bY1 K (.ref C) "__setattr__"=some (some (.builtin "object.__setattr__"))
theorem Cls.get{K:bYk}{C:Addr}(c:Cls K C)(f:Str):cXW K C f=true:=c.pg
def z8(K:bYk)(C:Addr)(f:Str):Prop:=bY1 K (.ref C) f=some none
theorem z8.taker{K:bYk}{C:Addr}{f:Str}(n:z8 K C f):PySem.W.takerIn K C f=some none:=by
 unfold PySem.W.takerIn;rw[show bY1 K (.ref C) f=some none from n];rfl
structure bVM(K:bYk)(C:Addr)(m:Str)(f:Addr):Prop where
 at_:bY1 K (.ref C) m=some (some (.ref f))
 fn:cXV K (.ref f)=true
 kp:cQb K (.ref f)=true
section
variable {X:Cx}{pins:List (Addr×Obj)}{σ:St}{H:Hp}{s:bYl}{a C dx:Addr}{fs:List (Str×V)}{f:Str}{v:V}{A:bYW}{E:bYi->bYl->Prop}
theorem aV7{b:Bool}{Q:bYi->bYl->Prop}(I:Inv X pins σ H s)(e:H a=some (.ins C dx fs))(c:Cls X.K C)(n:z8 X.K C f)(l:fs.lookup f=some v) (h:∀u s',Inv X pins σ H s'->zE v u->Q u s'):bYq (bYs X.prog X.w) A (getAttr (.ref a) f b) Q E s:=by
 obtain⟨mA,O,r,_,_,_⟩:=Q4 I.hok e;obtain⟨u,g,d⟩:=aXT.some_of (v:=v) (o:=mA f) (by rw[<- l];exact r f);exact bJo I.kIn O (c.get f) c.hd n g (aZa d) (h u _ (I.tok _) d)
theorem Y0{m:Str}{g:Addr}{pl:Sem Bool}{Q:bYi×List bYi->bYl->Prop}(I:Inv X pins σ H s)(e:H a=some (.ins C dx fs))(c:Cls X.K C)(k:bVM X.K C m g)(l:fs.lookup m=none) (h:Q (.ref g,[.ref a]) s):bYq (bYs X.prog X.w) A (cZI (.ref a) m pl) Q E s:=by
 obtain⟨mA,O,r,_,_,_⟩:=Q4 I.hok e;have b:mA m=none:=aXT.none_of (by rw[<- l];exact r m);exact bQL I.kIn O (c.get m) k.at_ k.fn b h
theorem aW0{y:V}{u:bYi}{Q:Unit->bYl->Prop}(I:Inv X pins σ H s)(e:H a=some (.ins C dx fs))(c:Cls X.K C)(n:z8 X.K C f)(hl:fs.length<1000)(t:zE y u) (h:∀s',Inv X pins σ (upd H a (.ins C dx (aQX f y fs))) s'->Q () s'):bYq (bYs X.prog X.w) A (setAttr (.ref a) f u) Q E s:=by
 obtain⟨mA,O,r,i,_,j⟩:=Q4 I.hok e;have v:(fs.map (·.1)).length<=bYI:=by rw[bYo,bYR];omega
 refine bVw I.kIn O c.sa c.po n.taker c.hd i v λh' d l=>h _ ?_;have k:∃o,h'.get? dx=some o:=let ⟨o,_,_,e',_⟩:=d.ns;⟨o,e'⟩;refine I.write (x:=a) (e:=dx) (by rw[e];exact cQI) (.inr j) (λb q p z=>(l.2 b p).trans z) k ?_;refine⟨by rw[yI O.ne];exact j,?_,O.ne,d.obj,_,d.ns,λg=>?_,λg m=>?_⟩
 ·have:=aQd f y fs;omega
 ·show aXT ((aQX f y fs).lookup g) (if g=f then some u else mA g);rw[aQe];by_cases q:g=f
  ·rw[if_pos q,if_pos q];exact t
  ·rw[if_neg q,if_neg q];exact r g
 ·by_cases q:g=f
  ·rw[q];exact(Q7 f y fs).1
  ·refine(Q7 f y fs).2 g (i g λz=>m ?_);show(if g=f then some u else mA g)=none;rw[if_neg q];exact z
theorem Inv.made(I:Inv X pins σ H s):Inv X pins σ (upd (upd H s.heap.objs.size (.own (s.heap.objs.size+1))) (s.heap.objs.size+1) (.ins C s.heap.objs.size [])) {s with heap:=(s.heap.push cQZ).push (cXq C s.heap.objs.size) }:=by
 have c:(s.heap.push cQZ).get? s.heap.objs.size=some cQZ:=bYL s.heap rfl;have f:((s.heap.push cQZ).push (cXq C s.heap.objs.size)).get? (s.heap.objs.size+1)=some (cXq C s.heap.objs.size):=by have:=bYL (s.heap.push cQZ) (o:=cXq C s.heap.objs.size) rfl;rwa [cQQ]at this
 have i:(s.heap.push cQZ).Ns s.heap.objs.size (λ_=>none):=⟨cQZ, #[],_,c,rfl,(λe h=>absurd h (by simp)),λ_=>rfl⟩;have d:=I.laid (a:=s.heap.objs.size) (o:= .own (s.heap.objs.size+1)) (h':=s.heap.push cQZ) (t':=s.toks) (λb u q=>bYm _ q) (bYp _) ⟨_,c⟩;refine d.laid (a:=s.heap.objs.size+1) (o:= .ins C s.heap.objs.size []) (t':=s.toks) (λb u q=>bYm _ q) (cXS (cQQ _ _)) ?_;have ne:s.heap.objs.size≠s.heap.objs.size+1:=bYG (cQ5 _);refine⟨by rw[yI ne,yB],cQe _,ne,f,λ_=>none,(Heap.Ns1.of_empty i).at λo q=>bYm _ q,λ_=>cQI,λy g=>absurd rfl g⟩
theorem aKd{prog:bYE}{w:bYK}{env:Env}{e:Expr}{f:Str}{pos:Pos}{s:bYl}{Q:bYi->bYl->Prop}(b:cX4 e f env (eval e env)=eval e env) (h:bYq (bYs prog w) A (eval e env) (λo a=>bYq (bYs prog w) A (getAttr o f true) Q E a) E s):bYq (bYs prog w) A (eval (.Attribute e f pos) env) Q E s:=
 Attribute_any_ h (by rw[arm_eval_Attribute,b])
end
inductive bKF(K:bYk)(f:Str)(Q:VK)(x:V)(H1:Hp):Prop|mk (a C dx fs v) (_:x= .ref a) (_:H1 a=some (.ins C dx fs)) (_:Cls K C) (_:z8 K C f) (_:fs.lookup f=some v) (_:Q v H1)
def bKT(K:bYk)(ta:TE)(f:Str):TE:=λσ H Q=>ta σ H λx H1=>bKF K f Q x H1
inductive bKz(K:bYk)(f:Str)(D:aZV)(σ:St)(y:V)(x:V)(H2:Hp):Prop|mk (a C dx fs) (_:x= .ref a) (_:H2 a=some (.ins C dx fs)) (_:Cls K C) (_:z8 K C f) (_:fs.length<1000) (_:D.nx σ (upd H2 a (.ins C dx (aQX f y fs))))
def bK9(K:bYk)(ta tv:TE)(f:Str):TS:=λD σ H=>tv σ H λy H1=>ta σ H1 λx H2=>bKz K f D σ y x H2
section
variable {X:Cx}{o e value:Expr}{f:Str}{pos pos' tpos:Pos}{ta tv:TE}
theorem yZ(b:PE X e ta)(i:cX4 e f X.env (eval e X.env)=eval e X.env):PE X (.Attribute e f pos) (bKT X.K ta f):=by
 intro pins s σ H Q I h;refine aKd i (thn (b pins s σ H _ I h) λu s1 ⟨x,H1,I1,rx,a,C,dx,fs,v,ex,ea,c,n,l,q⟩=>?_);subst ex;obtain rfl:u=Value.ref a:=rx;exact aV7 I1 ea c n l λk j g d=>⟨v,H1,g,d,q⟩
theorem zH(b:PE X o ta)(d:PE X value tv)(e:swapsWith value (some (.Attribute o f pos')) pos.line X.env=pure false):PS X (.Assign [.Attribute o f pos'] value pos) (bK9 X.K ta tv f):=by
 intro pins s σ H D I h;refine cZY (thn (d pins s σ H _ I h) λu s1 ⟨y,H1,I1,ry,q⟩=>thn (b pins s1 σ H1 _ I1 q) λov s2 ⟨x,H2,I2,rx,a,C,dx,fs,ex,ea,c,n,l,q2⟩=>?_) e;subst ex;obtain rfl:ov=Value.ref a:=rx;exact aW0 I2 ea c n l ry λi g=>⟨σ,_,g,q2⟩
theorem bJA{pl:Sem Bool}{m:Str}{apos:Pos}{args:List Expr}{pins:List (Addr×Obj)}{s:bYl}{σ:St}{H:Hp}{Q:bYi->bYl->Prop}{te:TE}(i:PE X e te)(I:Inv X pins σ H s)
  (h:te σ H λx H1=>∃a C dx fs g,x= .ref a/\H1 a=some (.ins C dx fs)/\Cls X.K C/\bVM X.K C m g/\fs.lookup m=none/\
   ∀b,Inv X pins σ H1 b->bYq (bYs X.prog X.w) X.A (callWith pos (.ref g) [.ref a] (cQU pos (bYV args X.env)) (cZs pos (cXz [] X.env))) Q X.xe b)
  (d:eval (.Call (.Attribute e m apos) args [] pos) X.env=(do
   let ov <- eval e X.env
   standAt apos.atName
   let (f,first) <- cZA [ov] (cZI ov m pl)
   callWith pos f first (cQU pos (bYV args X.env)) (cZs pos (cXz [] X.env)))):
  bYq (bYs X.prog X.w) X.A (eval (.Call (.Attribute e m apos) args [] pos) X.env) Q X.xe s:=by
 refine cZk (pl:=pl) (thn (i pins s σ H _ I h) λu b ⟨x,H1,I1,rx,a,C,dx,fs,g,ex,ea,c,k,l,q⟩=>?_) d
 subst ex
 obtain rfl:u=Value.ref a:=rx
 exact Y0 I1 ea c k l (q b I1)
end
section
variable {X:Cx}{pins:List (Addr×Obj)}{σ:St}{H:Hp}{s:bYl}{A:bYW}{E:bYi->bYl->Prop}{Q:bYi->bYl->Prop}{c:bYi}{b:Bool}
inductive aZX(K:bYk)(H:Hp):V->bYi->Prop where
 |non:aZX K H .non (.type "NoneType")
 |bl (x:Bool):aZX K H (.bl x) (.type "bool")
 |int (i:Int):aZX K H (.int i) (.type "int")
 |str (x:Str):aZX K H (.str x) (.type "str")
 |flt (x:UInt64):aZX K H (.flt x) (.type "float")
 |lst {a:Addr} {xs:List V} (e:H a=some (.lst xs)):aZX K H (.ref a) (.type "list")
 |frz {a:Addr} {o:Obj} {xs:List V} (e:H a=some (.frz o (.lst xs))):aZX K H (.ref a) (.type "list")
 |tup {a:Addr} {xs:List V} (e:H a=some (.tup xs)):aZX K H (.ref a) (.type "tuple")
 |dK {a:Addr} {kvs:List (Key×V)} (e:H a=some (.dK kvs)):aZX K H (.ref a) (.type "dict")
 |dT {a:Addr} {kvs:List (List Key×V)} (e:H a=some (.dT kvs)):aZX K H (.ref a) (.type "dict")
 |ins {a C dx:Addr} {fs:List (Str×V)} (e:H a=some (.ins C dx fs)) (cl:Cls K C) (ha:bY1 K (.ref C) "__class__"=some (some (.builtin "object.__class__")))
   (hn:cZP K (.builtin "object.__class__") "__get__"=some (some (.builtin "getset_descriptor.__get__"))) (htk:PySem.W.takesIn K (.builtin "object.__class__")=some true)
   (hm:cZv K C (.type "object")=some true):aZX K H (.ref a) (.ref C)
theorem aKD{x:V}{u t:bYi}(I:Inv X pins σ H s)(f:zE x u)(ty:aZX X.K H x t)(e:cQo X.K t c=some b)(h:∀tk,Q (.bool b) {s with toks:=tk}): bYq (bYs X.prog X.w) A (call (.builtin "isinstance") [u,c]) Q E s:=by
 cases ty with
 |non=>cases (show u=Value.none from f);exact cQS PySem.W.kitx_none I.kIn cQI e (λz=>nomatch z) h
 |bl y=>cases (show u=Value.bool y from f);exact cQS PySem.W.kitx_bool I.kIn cQI e (λz=>nomatch z) h
 |int i=>obtain⟨t,q⟩:=(show ∃t,u=Value.int i t from f);cases q;exact cQS PySem.W.kitx_int I.kIn cQI e (λz=>nomatch z) h
 |str y=>obtain⟨t,q⟩:=(show ∃t,u=Value.str y t from f);cases q;exact cQS PySem.W.kitx_str I.kIn cQI e (λz=>nomatch z) h
 |flt y=>obtain⟨t,q⟩:=(show ∃t,u=Value.float y t from f);cases q;exact cQS PySem.W.kitx_float I.kIn cQI e (λz=>nomatch z) h
 |@lst a xs d=>cases (show u=Value.ref a from f);obtain⟨_,_,n,_,h1⟩:=(show x4 X.prog X.w H s.heap a (.lst xs)from I.hok a _ d);exact cQS cZN I.kIn ⟨_,h1,rfl⟩ e (λz=>nomatch z) h
 |@frz a l xs d=>cases (show u=Value.ref a from f);obtain⟨_,_,_,n,_,h1⟩:=(show x4 X.prog X.w H s.heap a (.frz l (.lst xs))from I.hok a _ d);exact cQS cZN I.kIn ⟨_,h1,rfl⟩ e (λz=>nomatch z) h
 |@tup a xs d=>cases (show u=Value.ref a from f);obtain⟨_,_,_,p⟩:=(show x4 X.prog X.w H s.heap a (.tup xs)from I.hok a _ d);obtain⟨o,h1,h2,_⟩:=p;exact cQS PySem.W.kitx_tuple I.kIn ⟨o,h1,h2⟩ e (λz=>nomatch z) h
 |@dK a g d=>cases (show u=Value.ref a from f);obtain⟨_,_,D,_,p⟩:=(show x4 X.prog X.w H s.heap a (.dK g)from I.hok a _ d);obtain⟨o,es,r,h1,h2,_⟩:=p;exact cQS cZM I.kIn ⟨o,h1,h2.1⟩ e (λz=>nomatch z) h
 |@dT a g d=>cases (show u=Value.ref a from f);obtain⟨_,_,xs,_,o,es,r,h1,h2,_⟩:=(show x4 X.prog X.w H s.heap a (.dT g)from I.hok a _ d);exact cQS cZM I.kIn ⟨o,h1,h2.1⟩ e (λz=>nomatch z) h
 |@ins a C dx fs d cl v m j k=>cases (show u=Value.ref a from f);obtain⟨mA,O,_⟩:=Q4 I.hok d;obtain⟨B,J,_⟩:=O.look;exact cQS (PySem.W.kitx_own (cl.get _) cl.hd v m j k) I.kIn J e (λz=>nomatch z) h
end
end L2
namespace L2
open PySem PySem.Spec PyProof.Rows
structure vK(k:Nat)(A:bYW):Prop where
 hd:A.handled=none
 dp:A.depth+3*k+5<recursionLimit
 un:A.units+16*k+200<cLine
theorem vK.mono{j k:Nat}{A:bYW}(r:vK k A)(h:j<=k):vK j A:=⟨r.hd,by have:=r.dp;omega,by have:=r.un;omega⟩
theorem vK.deeper{k:Nat}{A:bYW}(r:vK (k+1) A)(env:Env):vK k (A.deeper env):=
 ⟨r.hd,by have:=r.dp;show A.depth+1+3*k+5<_;omega,by have:=r.un;show A.units+3+16*k+200<_;omega⟩
theorem aWk{A:bYW}{C:Addr}{us:List bYi}{a:List (Str×bYi)}:(A.under (.builtin "type.__call__" ⟨.ref C::us,a⟩)).depth=A.depth+1:=by
 first|rfl|simp[Around.under,Code.weight,Code.isCreation,Code.isGuard,Code.isCaller,Code.frames,Code.isFrame,guardIds]
theorem aWl{A:bYW}{C:Addr}{us:List bYi}{a:List (Str×bYi)}:(A.under (.builtin "type.__call__" ⟨.ref C::us,a⟩)).units=A.units+1:=by
 first|rfl|simp[Around.under,Code.cUnits,Code.frames,Code.isFrame]
theorem vK.make{k:Nat}{A:bYW}(r:vK (k+1) A)(C:Addr)(us:List bYi)(a:List (Str×bYi)):vK k (A.under (.builtin "type.__call__" ⟨.ref C::us,a⟩)):=
 ⟨r.hd,by have:=r.dp;rw[aWk];omega,by have:=r.un;rw[aWl];omega⟩
theorem vK.depth{k:Nat}{A:bYW}(r:vK k A):A.depth<recursionLimit:=by have:=r.dp;omega
theorem vK.units{k:Nat}{A:bYW}(r:vK k A):A.units+64<cLine:=by have:=r.un;omega
theorem vK.units0{k:Nat}{A:bYW}(r:vK k A):A.units<cLine:=by have:=r.un;omega
def bZg:TA:=λ_ H Q=>Q [] H
def aW3(ta:TE)(a:TA):TA:=λσ H Q=>ta σ H λx H1=>a σ H1 λxs H2=>Q (x::xs) H2
section
variable {X:Cx}{e:Expr}{es:List Expr}{te:TE}{t:TA}{pos:Pos}
theorem yD:PA X [] bZg:=λ_ _ _ _ H Q I h=>Calls.spliced_nil ⟨[],H,I,.nil,h⟩
theorem yA(a:PE X e te)(c:PA X es t)(b:bYV (e::es) X.env=(false,eval e X.env)::bYV es X.env:=by rfl):PA X (e::es) (aW3 te t):=by
 intro pos pins s σ H Q I h;rw[b];show bYq _ _ (spliced ((false,eval e X.env)::cQU pos (bYV es X.env))) _ _ s;refine Calls.spliced_cons (thn (a pins s σ H _ I h) λu s1 ⟨x,H1,I1,r1,q1⟩=>?_);exact thn (c pos pins s1 σ H1 _ I1 q1) λus s2 ⟨xs,H2,I2,r2,q2⟩=>⟨x::xs,H2,I2,.cons r1 r2,q2⟩
inductive bKL(Q:VK)(xs:List V)(H1:Hp):Prop|mk (_:xs.length<=bYI) (_:∀p,H1 p=none->Q (.ref p) (upd H1 p (.tup xs)))
def bKW(t:TA):TE:=λσ H Q=>t σ H λxs H1=>bKL Q xs H1
inductive bKG(Q:VK)(xs:List V)(H1:Hp):Prop|mk (_:xs.length<=bYI) (_:∀p,H1 p=none->Q (.ref p) (upd H1 p (.lst xs)))
def bKU(t:TA):TE:=λσ H Q=>t σ H λxs H1=>bKG Q xs H1
theorem xM{x1}(h:PA X es t):PE X (.Tuple es x1 pos) (bKW t):=by
 intro pins s σ H Q I c;refine wpAny_Tuple_spliced (thn (h pos pins s σ H _ I c) λus s1 ⟨xs,H1,I1,r,z,q⟩=>⟨by rw[<- r.length];exact z,?_⟩);have a:H1 s1.heap.objs.size=none:=I1.hok.fresh (bYp _);refine⟨.ref s1.heap.objs.size,upd H1 s1.heap.objs.size (.tup xs),I1.laid (t':=s1.toks) (λb u e=>bYm _ e) (bYp _) ?_,rfl,q _ a⟩;exact⟨z,us,r,⟨_,bYL _ rfl,rfl,_,rfl⟩⟩
theorem y3(h:PA X es t):PE X (.List es pos) (bKU t):=by
 intro pins s σ H Q I c;refine wpAny_List_spliced (thn (h pos pins s σ H _ I c) λus s1 ⟨xs,H1,I1,r,z,q⟩=>⟨by rw[<- r.length];exact z,?_⟩);have a:H1 s1.heap.objs.size=none:=I1.hok.fresh (bYp _);refine⟨.ref s1.heap.objs.size,upd H1 s1.heap.objs.size (.lst xs),I1.laid (t':=s1.toks) (λb u e=>bYm _ e) (bYp _) ?_,rfl,q _ a⟩;exact⟨z,us,0,r,bYL _ rfl⟩
end
abbrev Sp:=List V->Hp->VK->XK->Prop
abbrev CXT:=List Env->Hp->bYl->XK->bYi->bYl->Prop
structure bZ5(P:bYE)(w:bYK)(K:bYk)(mg:Str->Option bYi)(base:Heap)(A:bYW)(outer:List Env)(s:bYl)(H:Hp):Prop where
 frames:A.frames=some outer
 mod:Mod K mg base
 bs:∀b o,base.get? b=some o->s.heap.get? b=some o/\H b=none
 bsz:base.objs.size<=s.heap.objs.size
 funs:s.heap.FunFrames base outer
 frf:∀b∈frs outer,H b=none
 hok:HOk P w H s.heap
 bare:AllBare s.gens
def CE(outer:List Env)(P:bYE)(w:bYK)(H:Hp)(s:bYl)(Q:VK)(u:bYi)(s':bYl):Prop:=
 ∃v H',s'.os=s.os/\AllBare s'.gens/\Un (frs outer) [] H H' s.heap s'.heap/\HOk P w H' s'.heap/\zE v u/\Q v H'
def CR(CX:CXT)(outer:List Env)(P:bYE)(w:bYK)(H:Hp)(s:bYl)(Q:VK)(E:XK)(r:Result)(s':bYl):Prop:=
 match r with
 |.ok (.ret u)=>CE outer P w H s Q u s'
 |.ok _=>False
 |.error e=>CX outer H s E e s'
structure y8(P:bYE)(w:bYK)(K:bYk)(mg:Str->Option bYi)(base:Heap)(CX:CXT)(k:Nat)(f:Addr)(fd:cXd)(ps:List Str)(sp:Sp):Prop where
 len:∀vs H Q E,sp vs H Q E->vs.length=ps.length
 run:∀ (A:bYW)(outer:List Env)(s:bYl)(H:Hp)(args:Args)(us:List bYi)(vs:List V)(Q:VK)(E:XK),vK k A->bZ5 P w K mg base A outer s H->BindsTo s fd args (ps.zip us)->xS vs us->sp vs H Q E->
  cXw (bYs P w) A (.call (.ref f) args) (CR CX outer P w H s Q E) s
theorem y8.mono{P:bYE}{w:bYK}{K:bYk}{mg:Str->Option bYi}{base:Heap}{CX:CXT}{j k:Nat}{f:Addr}{fd:cXd}{ps:List Str}{sp:Sp}(F:y8 P w K mg base CX j f fd ps sp)(h:j<=k):
  y8 P w K mg base CX k f fd ps sp:=⟨F.len,λA outer s H args a c Q E b=>F.run A outer s H args a c Q E (b.mono h)⟩
theorem bZ5.make{P:bYE}{w:bYK}{K:bYk}{mg:Str->Option bYi}{base:Heap}{A:bYW}{outer:List Env}{s:bYl}{H:Hp}(e:bZ5 P w K mg base A outer s H)(C:Addr)(us:List bYi)(a:List (Str×bYi)):
  bZ5 P w K mg base (A.under (.builtin "type.__call__" ⟨.ref C::us,a⟩)) outer s H:=⟨by first|exact e.frames|(simpa[Around.under,Code.envs,Code.isFrame,pushEnvs]using e.frames),e.mod,e.bs,e.bsz,e.funs,e.frf,e.hok,e.bare⟩
section
variable {X:Cx}{pins:List (Addr×Obj)}{σ:St}{H:Hp}{s s':bYl}
theorem Inv.env0(I:Inv X pins σ H s):bZ5 X.prog X.w X.K X.mg X.base X.A X.stack s H:=
 ⟨I.ok.frames,I.ok.mod,I.bs,bYT I.ok.bsz I.sz,I.stack,I.stkFree,I.hok,I.bare⟩
theorem Inv.after{Q:VK}{u:bYi}(I:Inv X pins σ H s)(h:CE X.stack X.prog X.w H s Q u s'):EP X pins σ Q u s':=by
 obtain⟨v,H',f,bare,un,a,r,q⟩:=h;obtain⟨e,g,d,t,c⟩:=s';obtain rfl:c=s.os:=f;exact⟨v,H',I.call (h':=e) (g':=g) (d':=d) (t':=t) (ch:= []) un a bare (λb z=>absurd z (by simp)),r,q⟩
end
def bZc(sp:Sp)(dvs:List V)(E:XK)(t:TA):TE:=λσ H Q=>t σ H λa H1=>sp (a++dvs) H1 Q E
inductive bWS(C:Addr)(m:Str)(sp:Sp)(dvs:List V)(E:XK)(t:TA)(σ:St)(Q:VK)(x:V)(H1:Hp):Prop|mk (a dx fs) (_:x= .ref a) (_:H1 a=some (.ins C dx fs)) (_:fs.lookup m=none) (_:t σ H1 λvs H2=>sp (x::(vs++dvs)) H2 Q E)
def bZf(C:Addr)(m:Str)(sp:Sp)(dvs:List V)(E:XK)(ta:TE)(t:TA):TE:=λσ H Q=>ta σ H λx H1=>bWS C m sp dvs E t σ Q x H1
def bZe(C:Addr)(sp:Sp)(dvs:List V)(E:XK)(t:TA):TE:=λσ H Q=>t σ H λa H1=>∀x dx,H1 x=none->H1 dx=none->dx≠x->
 sp (.ref x::(a++dvs)) (upd (upd H1 dx (.own x)) x (.ins C dx [])) (λv H2=>v= .non/\Q (.ref x) H2) E
def vR(K:bYk)(fd:cXd)(ps:List Str)(ds:List bYi):Prop:=
 ∀ (s:bYl)(a:List bYi),K.In s.heap->(a++ds).length=ps.length->BindsTo s fd ⟨a,[]⟩ (ps.zip (a++ds))
theorem vR.all{K:bYk}{fd:cXd}{ps:List Str}(h:∀a:List bYi,a.length=ps.length->cXY fd ⟨a,[]⟩=pure (ps.zip a)):vR K fd ps []:=λs a _ hl=>by
 rw[cQu]at hl ⊢;exact .of_eq (h a hl)
def w9(CX:CXT)(X:Cx)(E:XK):Prop:=∀ (pins:List (Addr×Obj))(σ:St)(H:Hp)(s:bYl)(e:bYi)(s':bYl),Inv X pins σ H s->CX X.stack H s E e s'->X.xe e s'
section
variable {X:Cx}{CX:CXT}{k:Nat}{f C:Addr}{fd:cXd}{ps:List Str}{sp:Sp}{dvs:List V}{ds:List bYi}{E:XK}{x m:Str}{p pos apos:Pos}{e o:Expr}{es:List Expr}{ta:TE}{t:TA}
theorem aZB{pins:List (Addr×Obj)}{σ:St}{H:Hp}{s:bYl}{Q:VK}{us:List bYi}{vs:List V}(F:y8 X.prog X.w X.K X.mg X.base CX k f fd ps sp)(d:vK k X.A)(i:vR X.K fd ps ds)(c:xS dvs ds)(j:w9 CX X E) (I:Inv X pins σ H s) (r:xS vs us) (h:sp (vs++dvs) H Q E):bYq (bYs X.prog X.w) X.A (call (.ref f) us) (EP X pins σ Q) X.xe s:=by
 have b:xS (vs++dvs) (us++ds):=r.append c;have hl:(us++ds).length=ps.length:=by rw[<- b.length];exact F.len _ _ _ _ h
 refine cZt (cQ7 (F.run X.A X.stack s H ⟨us,[]⟩ (us++ds) (vs++dvs) Q E d I.env0 (i s us I.kIn hl) b h) λr s' a=>?_);cases r with
 |error e=>exact j pins σ H s e s' I a
 |ok g=>
  cases g with
  |ret u=>exact I.after a
  |next=>exact cQN a
  |brk=>exact cQN a
  |cont=>exact cQN a
theorem aYk(F:y8 X.prog X.w X.K X.mg X.base CX k f fd ps sp)(j:vK k X.A)(l:Gl X x)(d:X.mg x=some (.ref f))(i:cQb X.K (.ref f)=true)(m:vR X.K fd ps ds)(c:xS dvs ds)(o:w9 CX X E)
  (n:PA X (e::es) t) (b:(x==("__debug__":Str))=false:=by decide) (g:bYV (e::es) X.env=(false,eval e X.env)::bYV es X.env:=by rfl) (a:(cQU pos (bYV es X.env)).any (·.1)=false:=by rfl):
  PE X (.Call (.Name x p) (e::es) [] pos) (bZc sp dvs E t):=by
 intro pins s σ H Q I h
 refine cQV (uN I l d ?_ b)
 refine cX7 (h₀:=X.base) I.ok.mod.kin i (thn (n pos pins s σ H _ I h) λus s1 ⟨vs,H1,I1,r,q⟩=>⟨I1.kIn,?_⟩) g a
 exact aZB F j m c o I1 r q
theorem bJY{pl:Sem Bool}(n:PE X o ta)(c:Cls X.K C)(g:bVM X.K C m f)(F:y8 X.prog X.w X.K X.mg X.base CX k f fd ps sp)(p:vK k X.A)(v:vR X.K fd ps ds)(i:xS dvs ds)(z:w9 CX X E)(y:PA X (e::es) t)
  (d:bYV (e::es) X.env=(false,eval e X.env)::bYV es X.env:=by rfl) (b:(cQU pos (bYV es X.env)).any (·.1)=false:=by rfl)
  (j:eval (.Call (.Attribute o m apos) (e::es) [] pos) X.env=(do
   let ov <- eval o X.env
   standAt apos.atName
   let (f,first) <- cZA [ov] (cZI ov m pl)
   callWith pos f first (cQU pos (bYV (e::es) X.env)) (cZs pos (cXz [] X.env))):=by rfl):
  PE X (.Call (.Attribute o m apos) (e::es) [] pos) (bZf C m sp dvs E ta t):=by
 intro pins s σ H Q I h
 refine cZk (pl:=pl) (thn (n pins s σ H _ I h) λu s1 ⟨x,H1,I1,rx,a,dx,fs,ex,ea,l,q⟩=>?_) j
 subst ex
 obtain rfl:u=Value.ref a:=rx
 refine Y0 I1 ea c g l ?_
 refine cX7 (first:= [.ref a]) (h₀:=X.base) I.ok.mod.kin g.kp (thn (y pos pins s1 σ H1 _ I1 q) λus s2 ⟨vs,H2,I2,r,q2⟩=>⟨I2.kIn,?_⟩) d b
 exact aZB (us:= .ref a::us) (vs:= .ref a::vs) F p v i z I2 (.cons rfl r) q2
theorem bXD{pl:Sem Bool}(d:PE X o ta)(c:Cls X.K C)(b:bVM X.K C m f)(F:y8 X.prog X.w X.K X.mg X.base CX k f fd ps sp)(i:vK k X.A)(j:vR X.K fd ps ds)(e:xS dvs ds)(g:w9 CX X E)
  (n:eval (.Call (.Attribute o m apos) [] [] pos) X.env=(do
   let ov <- eval o X.env
   standAt apos.atName
   let (f,first) <- cZA [ov] (cZI ov m pl)
   callWith pos f first (cQU pos (bYV [] X.env)) (cZs pos (cXz [] X.env))):=by rfl):
  PE X (.Call (.Attribute o m apos) [] [] pos) (bZf C m sp dvs E ta bZg):=by
 intro pins s σ H Q I h
 refine cZk (pl:=pl) (thn (d pins s σ H _ I h) λu s1 ⟨x,H1,I1,rx,a,dx,fs,ex,ea,l,q⟩=>?_) n
 subst ex
 obtain rfl:u=Value.ref a:=rx
 refine Y0 I1 ea c b l ?_
 exact cJd (first:= [.ref a]) I1.kIn b.kp (aZB (us:= [.ref a]) (vs:= [.ref a]) F i j e g I1 (.cons rfl .nil) q)
structure Mk(K:bYk)(C f:Addr):Prop where
 makes:PySem.W.makesIn K C=true
 init:bY1 K (.ref C) "__init__"=some (some (.ref f))
 fn:cXV K (.ref f)=true
 kp:cQb K (.ref C)=true
theorem aVr{pins:List (Addr×Obj)}{σ:St}{H:Hp}{s:bYl}{Q:VK}{us:List bYi}{vs:List V}(M:Mk X.K C f)(F:y8 X.prog X.w X.K X.mg X.base CX k f fd ps sp)(j:vK (k+1) X.A)(m:vR X.K fd ps ds)(g:xS dvs ds) (p:w9 CX X E) (I:Inv X pins σ H s) (r:xS vs us) (h:∀x dx,H x=none->H dx=none->dx≠x->sp (.ref x::(vs++dvs)) (upd (upd H dx (.own x)) x (.ins C dx [])) (λv H2=>v= .non/\Q (.ref x) H2) E): bYq (bYs X.prog X.w) X.A (call (.ref C) us) (EP X pins σ Q) X.xe s:=by
 have d:=h (s.heap.objs.size+1) s.heap.objs.size (I.hok.fresh (cXm _)) (I.hok.fresh (bYp _)) (bYG (cQ5 _));have b:=Inv.made (C:=C) I;have c:xS (V.ref (s.heap.objs.size+1)::(vs++dvs)) (Value.ref (s.heap.objs.size+1)::(us++ds)):= .cons rfl (r.append g);have hl:(Value.ref (s.heap.objs.size+1)::us++ds).length=ps.length:=by have e:=c.length;rw[F.len _ _ _ _ d]at e;exact e.symm
 refine cZt (bQ5 (f:=f) I.kIn M.makes M.init (beq_iff_eq.mp M.fn) (cQ7 (F.run _ X.stack _ _ ⟨Value.ref (s.heap.objs.size+1)::us,[]⟩ (Value.ref (s.heap.objs.size+1)::(us++ds)) _ _ E (j.make C us []) (b.env0.make C us []) (m _ (Value.ref (s.heap.objs.size+1)::us) b.kIn hl) c d) λr s' a=>?_));cases r with
 |error e=>exact p pins σ _ _ e s' b a
 |ok l=>
  cases l with
  |ret u=>obtain⟨v,H',i,o,q,n⟩:=b.after a;subst q;exact⟨o,⟨V.ref (s.heap.objs.size+1),H',i,rfl,n⟩⟩
  |next=>exact cQN a
  |brk=>exact cQN a
  |cont=>exact cQN a
theorem bJX(M:Mk X.K C f)(F:y8 X.prog X.w X.K X.mg X.base CX k f fd ps sp)(i:vK (k+1) X.A)(j:Gl X x)(d:X.mg x=some (.ref C))(l:vR X.K fd ps ds)(c:xS dvs ds)(n:w9 CX X E)
  (m:PA X (e::es) t) (b:(x==("__debug__":Str))=false:=by decide) (g:bYV (e::es) X.env=(false,eval e X.env)::bYV es X.env:=by rfl) (a:(cQU pos (bYV es X.env)).any (·.1)=false:=by rfl):
  PE X (.Call (.Name x p) (e::es) [] pos) (bZe C sp dvs E t):=by
 intro pins s σ H Q I h
 refine cQV (uN I j d ?_ b)
 refine cX7 (h₀:=X.base) I.ok.mod.kin M.kp (thn (m pos pins s σ H _ I h) λus s1 ⟨vs,H1,I1,r,q⟩=>⟨I1.kIn,?_⟩) g a
 exact aVr M F i l c n I1 r q
theorem bXC(M:Mk X.K C f)(F:y8 X.prog X.w X.K X.mg X.base CX k f fd ps sp)(g:vK (k+1) X.A)(e:Gl X x)(b:X.mg x=some (.ref C))(i:vR X.K fd ps ds)(c:xS dvs ds)(d:w9 CX X E) (a:(x==("__debug__":Str))=false:=by decide):PE X (.Call (.Name x p) [] [] pos) (bZe C sp dvs E bZg):=by
 intro pins s σ H Q I h;refine cQV (uN I e b ?_ a);exact cJd I.kIn M.kp (aVr (us:= []) M F g i c d I .nil h)
end
section
variable {X:Cx}{CX:CXT}{k:Nat}{f C:Addr}{fd:cXd}{ps ks:List Str}{sp:Sp}{E:XK}{x m:Str}{p pos apos kpos:Pos}{e o:Expr}{es:List Expr}{kws:List Keyword}{te ta:TE}{t tk:TA}{nm:Option Str}
variable {g:List bYi->List bYi->List bYi}{gV:List V->List V->List V}
end
structure yM(N P:List Str)(sc:cXs):Prop where
 kind:sc.kind= .function
 co:sc.isCoroutine=false
 gen:sc.isGenerator=false
 nd:N.Nodup
 pre:N.take P.length=P
 par:∀x∈P,sc.names.lookup x=some .local\/sc.names.lookup x=some .cell
 nofree:∀y∈sc.names,y.2≠ .free
theorem aX1{a:Str->Option cZc}{x:Str}:∀ {binds:List (Str×bYi)} {m:Str->Option bYi},(∀v,(x,v)∉binds)->bindL a binds m x=m x
 |[],_,_=>rfl
 |(n,v)::r,m,h=>by
  unfold bindL;rw[aX1 λw hw=>h w (bYt _ hw)];split
  ·have:x≠n:=by rintro rfl;exact h v bYx
   simp[this]
  ·rfl
theorem aXZ{a:Str->Option cZc}{x:Str}:∀ {binds:List (Str×bYi)} {m:Str->Option bYi},(∀v,(x,v)∉binds)->bindC a binds m x=m x
 |[],_,_=>rfl
 |(n,v)::r,m,h=>by
  unfold bindC;rw[aXZ λw hw=>h w (bYt _ hw)];split
  ·rfl
  ·have:x≠n:=by rintro rfl;exact h v bYx
   simp[this]
theorem aX0{a:Str->Option cZc}{x:Str}{v:bYi}:∀ {P:List Str} {vs:List bYi} {i:Nat} {m:Str->Option bYi},P.Nodup->P[i]? =some x->vs[i]? =some v->a x=some .local->
  bindL a (P.zip vs) m x=some v
 |[],_,_,_,_,h,_,_=>by simp at h
 |_::_,[],_,_,_,_,h,_=>by simp at h
 |p::P,w::vs,0,m,nd,h1,h2,hk=>by simp at h1 h2;subst h1;subst h2;show bindL a ((p,w)::P.zip vs) m p=_;unfold bindL;rw[aX1 λv b=>(cXp.mp nd).1 (List.of_mem_zip b).1,if_pos hk];simp
 |p::P,w::vs,i+1,m,nd,h1,h2,hk=>by show bindL a ((p,w)::P.zip vs) m x=_;unfold bindL;exact aX0 (i:=i) (cXp.mp nd).2 (by simpa using h1) (by simpa using h2) hk
theorem aXY{a:Str->Option cZc}{x:Str}{v:bYi}:∀ {P:List Str} {vs:List bYi} {i:Nat} {m:Str->Option bYi},P.Nodup->P[i]? =some x->vs[i]? =some v->a x≠some .local->
  bindC a (P.zip vs) m x=some v
 |[],_,_,_,_,h,_,_=>by simp at h
 |_::_,[],_,_,_,_,h,_=>by simp at h
 |p::P,w::vs,0,m,nd,h1,h2,hk=>by simp at h1 h2;subst h1;subst h2;show bindC a ((p,w)::P.zip vs) m p=_;unfold bindC;rw[aXZ λv b=>(cXp.mp nd).1 (List.of_mem_zip b).1,if_neg hk];simp
 |p::P,w::vs,i+1,m,nd,h1,h2,hk=>by show bindC a ((p,w)::P.zip vs) m x=_;unfold bindC;exact aXY (i:=i) (cXp.mp nd).2 (by simpa using h1) (by simpa using h2) hk
def start(N:List Str)(vs:List V):St:=vs.map some++cXO (N.length - vs.length) none
def aXi(CX:CXT)(P:bYE)(w:bYK)(K:bYk)(mg:Str->Option bYi)(base:Heap)(N:List Str)(qual:Str)(scope:cXs)(f:Addr)(cd:bYi)(A:bYW)(outer:List Env)(s:bYl)(H:Hp)(E:XK):Cx where
 prog:=P
 w:=w
 K:=K
 mg:=mg
 base:=base
 A:=A.deeper (cXc qual scope s.heap.objs.size f cd)
 N:=N
 s₀:=s
 H₀:=H
 env:=cXc qual scope s.heap.objs.size f cd
 outer:=outer
 stack:=cXc qual scope s.heap.objs.size f cd::outer
 ex:= []
 calm:=true
 fn:=λ_=>true
 pn:= []
 xe:=λe s'=>bYq (bYs P w) (A.deeper (cXc qual scope s.heap.objs.size f cd)) (leaving (cXc qual scope s.heap.objs.size f cd) e) (λ_ s''=>CX outer H s E e s'') (λe' s''=>CX outer H s E e' s'') s'
theorem aJ3{a:cXs}{n:Nat}{x:Str}(h:a.names.lookup x=some .cell):∃c,(cellsFrom n a.names []).lookup x=some c:=by
 have q:=PySem.W.cellsFrom_some a.names n [] (.inl h);exact Option.isSome_iff_exists.mp q
theorem aKB{CX:CXT}{P:bYE}{w:bYK}{K:bYk}{mg:Str->Option bYi}{base:Heap}{N ps:List Str}{qual:Str}{scope:cXs}{f:Addr}{o:bYi}{A:bYW}{outer:List Env}{s C:bYl}{H:Hp}{E:XK}{us:List bYi}{vs:List V} (S:yM N ps scope) (D:A.handled=none) (d:bZ5 P w K mg base A outer s H) (hl:vs.length=ps.length) (r:xS vs us) (x:InCallC s s.heap.objs.size (bindL (cXc qual scope s.heap.objs.size f o).kindOf (ps.zip us) λ_=>none) (cellsFrom (s.heap.objs.size+1) scope.names []) (bindC (cXc qual scope s.heap.objs.size f o).kindOf (ps.zip us) λ_=>none) C): Inv (aXi CX P w K mg base N qual scope f o A outer s H E) [] (start N vs) H C:=by
 have F:ps.length<=N.length:=by have:=congrArg cXM S.pre;rw[cQA]at this;omega
 obtain⟨h1,tk,rfl,B⟩:=x.done;have g:∀b:Addr,b∉(aXi CX P w K mg base N qual scope f o A outer s H E).ex:=λb z=>absurd (show b∈([]:List Addr)from z) (by simp);refine⟨⟨d.mod,S.kind,rfl,rfl,bYp _,λy z c h1 h2=>?_,λy j=>?_,λy c _ h=>?_,λ_=>D,Around.frames_deeper d.frames,.inr ⟨rfl,rfl⟩,λb z=>absurd z (g b),d.bs,d.bsz,λb _ _=>g b,λb z=>absurd z (g b),d.funs,d.frf⟩,rfl,d.bare,Un.kept B,⟨_,x.toInCall.ns,λi y v h1 h2 J=>?_⟩,λy c h=>⟨_,x.cell y c h⟩,d.hok.fresh (bYp _),λy c h=>?_,λp l=>absurd (show p∈([]:List (Addr×Obj))from l) (by simp),d.hok.kept B,?_⟩
 ·exact name_of_addr x.apart (cQL h1) (cQL h2)
 ·have j:scope.names.lookup y=some .cell\/scope.names.lookup y=some .free:=j;rcases j with j|j
  ·exact aJ3 j
  ·exact absurd rfl (S.nofree _ (cQL j))
 ·exact cXT (x.above y c (cQL h))
 ·have hi:i<vs.length:=by
   unfold start at h2;by_cases hi:i<vs.length
   ·exact hi
   ·rw[bYH (by simpa using hi)]at h2;rw[List.getElem?_replicate]at h2;split at h2<;> cases h2
  have G:vs[i]? =some v:=by
   unfold start at h2;rw[bY5 (by simpa using hi),bYC]at h2;cases e:vs[i]? with
   |none=>rw[e]at h2;cases h2
   |some a=>rw[e]at h2;cases h2;rfl
  obtain⟨u,t,I⟩:=r.get G;have l:ps[i]? =some y:=by rw[<- S.pre,List.getElem?_take_of_lt (by omega)];exact h1
  have m:ps.Nodup:=by rw[<- S.pre];exact S.nd.sublist (List.take_sublist _ _)
  refine⟨u,I,?_⟩;rcases S.par y (bYA l)with k|k
  ·exact .inl ⟨k,aX0 m l t k⟩
  ·obtain⟨c,e⟩:=aJ3 (n:=s.heap.objs.size+1) k;refine .inr ⟨.inl k,c,e,?_⟩;have q:=x.cell y c e;rw[aXY m l t (by show scope.names.lookup y≠_;rw[k];decide)]at q;exact q
 ·exact d.hok.fresh (cXT (x.above y c (cQL h)))
 ·unfold start;show _=N.length;rw[bYM,bYo,List.length_replicate];omega
theorem bJm{CX:CXT}{P:bYE}{w:bYK}{K:bYk}{mg:Str->Option bYi}{base:Heap}{k:Nat}{f:Addr}{name qual:Str}{c:Arguments}{body:List Stmt}{scope:cXs}{F kV l M a ct T:bYi}{G Z:Option Addr} {C:Array (Option bYi)} {N ps:List Str} {sp:Sp} (lk:K.lookup f=some ⟨T,Z,.func (cQj name qual c body scope F kV l M G a ct),C⟩) (p:cQY K a qual=true) (S:yM N ps scope) (len:∀vs H Q E,sp vs H Q E->vs.length=ps.length) (g:∀ (A:bYW)(outer:List Env)(s:bYl)(H:Hp)(vs:List V)(Q:VK)(E:XK),vK k (A.deeper (cXc qual scope s.heap.objs.size f a))->sp vs H Q E-> ∃t,PSs (aXi CX P w K mg base N qual scope f a A outer s H E) body t/\t {nx:=λ_ H'=>Q .non H',rt:=Q} (start N vs) H): y8 P w K mg base CX (k+1) f (cQj name qual c body scope F kV l M G a ct) ps sp:=by
 refine⟨len,λA outer s H args U vs Q E z j hb r m=>?_⟩;have hl:=len _ _ _ _ m;have L:K.In s.heap:=j.mod.kin.keeps λb o e=>(j.bs b o e).1;have B:s.heap.NoLimit:=j.mod.nolimit.keeps λb o e=>(j.bs b o e).1;have h:∀y∈ps.zip U,scope.names.lookup y.1=some .local\/(scope.names.lookup y.1=some .cell/\((cellsFrom (s.heap.objs.size+1) scope.names []).lookup y.1).isSome=true):=λ⟨n,v⟩ hy=>by
  rcases S.par n (List.of_mem_zip hy).1 with q|q
  ·exact .inl q
  ·exact .inr ⟨q,PySem.W.cellsFrom_some _ _ _ (.inl q)⟩
 refine codeAny_call_function z.depth (L _ _ lk) rfl S.co S.gen rfl (PySem.W.codeRec_of L p) (hb _ _ _ _ ?_);refine wpAny_newFunctionEnv_cells S.kind h λenv X O x=>?_;subst X;refine⟨B.keeps x.toInCall.keep,codeAny_func ?_⟩;obtain⟨t,R,hq⟩:=g A outer s H vs Q E (z.deeper _) m;have I:Inv (aXi CX P w K mg base N qual scope f a A outer s H E) [] (start N vs) H O:=aKB S z.hd j hl r x;refine cQi (R [] O (start N vs) H _ I hq) (λY s' i=>?_) λe s' i=>i;have fin:∀ {d:St} {H':Hp} {v:V} {u:bYi},Inv (aXi CX P w K mg base N qual scope f a A outer s H E) [] d H' s'->zE v u->Q v H'->CE outer P w H s Q u s':=
  λ{d H' v u} J D q=>⟨v,H',J.os,J.bare,J.base,J.hok,D,q⟩
 cases Y with
 |ret u=>obtain⟨v,d,H',J,D,q⟩:=i;exact fin J D q
 |next=>obtain⟨d,H',J,q⟩:=i;exact fin (v:=V.non) (u:=Value.none) J rfl q
 |brk=>obtain⟨_,_,_,q⟩:=i;exact cQN q
 |cont=>obtain⟨_,_,_,q⟩:=i;exact cQN q
end L2
namespace L2
open PySem PySem.Spec PyProof.Rows
section
variable {X:Cx}{x:Str}{p pos:Pos}{e:Expr}{es:List Expr}{t:TA}{id T:String}{r:List V->Hp->VK->Prop}
def tCB(r:List V->Hp->VK->Prop)(t:TA):TE:=λσ H Q=>t σ H λa H1=>r a H1 Q
theorem yU(i:jO X (.builtin id) r)(k:Gl X x)(c:X.mg x=none)(f:bY3 x=some (.builtin id))(d:PA X (e::es) t)(j:x≠"__name__":=by decide)(a:(x==("__debug__":Str))=false:=by decide)
  (g:bYV (e::es) X.env=(false,eval e X.env)::bYV es X.env:=by rfl) (b:(cQU pos (bYV es X.env)).any (·.1)=false:=by rfl):PE X (.Call (.Name x p) (e::es) [] pos) (tCB r t):=by
 intro pins s σ H Q I h
 refine cQV (aQ4 I k c f ?_ j a)
 exact PyProof.Rows.callWith_builtin1 (thn (d pos pins s σ H _ I h) λus s1 ⟨vs,H1,I1,r1,q1⟩=>i pins s1 σ H1 vs us Q I1 r1 q1) g b
theorem xT(i:jO X (.type T) r)(k:Gl X x)(c:X.mg x=none)(f:bY3 x=some (.type T))(d:PA X (e::es) t)(j:x≠"__name__":=by decide)(a:(x==("__debug__":Str))=false:=by decide)
  (g:bYV (e::es) X.env=(false,eval e X.env)::bYV es X.env:=by rfl) (b:(cQU pos (bYV es X.env)).any (·.1)=false:=by rfl):PE X (.Call (.Name x p) (e::es) [] pos) (tCB r t):=by
 intro pins s σ H Q I h
 refine cQV (aQ4 I k c f ?_ j a)
 exact cZm (thn (d pos pins s σ H _ I h) λus s1 ⟨vs,H1,I1,r1,q1⟩=>i pins s1 σ H1 vs us Q I1 r1 q1) g b
end
end L2
namespace HT
open PySem PyProof.Rows
theorem bXH(A:bYW)(s:bYl)(a:Int)(t:Tok)(c:Int)(u:Tok)(prog:bYE)(w:bYK)(E:bYi->bYl->Prop)(Q:bYi->bYl->Prop)(h:Q (.bool (decide (a<c))) s): bYq (bYs prog w) A (richCompare .Lt (.int a t) (.int c u)) Q E s:=
 (PyProof.Rows.lt_int h:bYq (bYs prog w) A (cQM .Lt (.int a t) (.int c u)) Q E s)
section
open PySem.SeqAt
open PySem.AutoSeq1 (wpAny_loadPart')
open PySem.MeetsSeq PySem.MeetsSeq2 PySem.MeetsSeq3
end
section
variable {prog:bYE}{w:bYK}{A:bYW}{E:bYi->bYl->Prop}{s:bYl}
theorem bJd{t b:Addr}{vs a:List bYi}{Q:bYi->bYl->Prop}(v:cZe s.heap t vs.toArray)(x:cZe s.heap b a.toArray)(p:vs≠ []) (h1:a= []->Q (.ref t) s) (h2:a≠ []->Q (.ref s.heap.objs.size) {s with heap:=s.heap.push {cls:= .type "tuple",data:= .seq (vs++a).toArray} }) (j:vs.length+a.length<=bYI):bYq (bYs prog w) A (cXX .Add (.ref t) (.ref b)) Q E s:=by
 obtain⟨⟨cls,q,data,u⟩,i,o,n,l⟩:=id v;obtain⟨⟨r,h,k,f⟩,c,d,m,g⟩:=id x;simp only at o l d g;subst o l d g;have e:vs.toArray++a.toArray=(vs++a).toArray:=by simp
 by_cases hw:a= []
 ·exact concat_meets ⟨_,i,rfl⟩ ⟨_,c,rfl⟩ noFill_tuple_add seq_tuple_add PySem.F.slot_tuple_add PySem.F.entry_tuple_add (cJG _ _)
   (tuple_addW1 t b vs.toArray a.toArray n m q h u f (by simpa using p) (by simp[hw])) ⟨i,c,h1 hw⟩
 ·refine concat_meets ⟨_,i,rfl⟩ ⟨_,c,rfl⟩ noFill_tuple_add seq_tuple_add PySem.F.slot_tuple_add PySem.F.entry_tuple_add (cJG _ _)
   (tuple_addW2 t b vs.toArray a.toArray n m q h u f (by simpa using p) (by simpa using hw) (by rw[bYB,bYB];exact j)) ⟨i,c,?_⟩
  rw[e];exact h2 hw
def sIx(n d:Nat):Option Int->Nat
 |none=>d
 |some v=>if v<0 then(v+(n:Int)).toNat else min v.toNat n
theorem bXJ(n d:Nat):sIx n d none=d:=rfl
end
end HT
namespace L2
open PySem PySem.Spec PyProof.Rows
abbrev TO:=St->Hp->(Option Int->Hp->Prop)->Prop
def PO(X:Cx)(e:Option Expr)(t:TO):Prop:=
 ∀ (pins:List (Addr×Obj))(s:bYl)(σ:St)(H:Hp)(Q:Option Int->Hp->Prop),Inv X pins σ H s->t σ H Q->
  bYq (bYs X.prog X.w) X.A (evalPart e X.env) (λu s'=>∃o H',Inv X pins σ H' s'/\IsPart u o/\Q o H') X.xe s
def bVE:TO:=λ_ H Q=>Q none H
inductive bWU(Q:Option Int->Hp->Prop)(x:V)(H1:Hp):Prop|mk (i) (_:x= .int i) (_:Q (some i) H1)
def bKJ(t:TE):TO:=λσ H Q=>t σ H λx H1=>bWU Q x H1
theorem aQ2{a:List Int}:∀ {us:List bYi},xS (a.map V.int) us->cXN us a:=by
 induction a with
 |nil=>intro us r;rw[List.map_nil]at r;cases r;exact .nil
 |cons n a b=>
  intro us r;rw[bY2]at r;cases r with
  |cons d c=>obtain⟨t,e⟩:=d;subst e;exact .cons n t (b c)
section
variable {X:Cx}{e:Expr}{te:TE}{lo hi:Option Expr}{tl th:TO}{pos p2:Pos}
theorem aJx:PO X none bVE:=by
 intro pins s σ H Q I h;rw[evalPart_none];exact bYn ⟨none,H,I,.none,h⟩
theorem aJy(h:PE X e te):PO X (some e) (bKJ te):=by
 intro pins s σ H Q I hw;rw[evalPart_some];refine thn (h pins s σ H _ I hw) λu s1 ⟨x,H1,I1,r1,q1⟩=>?_;obtain⟨i,rfl,q⟩:=q1;obtain⟨t,rfl⟩:=r1;exact⟨some i,H1,I1,.int i t,q⟩
def SlR(X:Cx)(r:V->Option Int->Option Int->Hp->VK->Prop):Prop:=
 ∀ (pins:List (Addr×Obj))(s:bYl)(σ:St)(H:Hp)(x:V)(v a b:bYi)(lo hi:Option Int)(c:Addr)(Q:VK),Inv X pins σ H s->zE x v->s.heap.IsSliceOf c a b .none->IsPart a lo->IsPart b hi->r x lo hi H Q->
  ∃T id,typeLookup (.type T) "__getitem__"=pure (some (.builtin id))/\s.TypeIs v T/\bYq (bYs X.prog X.w) X.A (getItem v (.ref c)) (EP X pins σ Q) X.xe s
def tSl(r:V->Option Int->Option Int->Hp->VK->Prop)(te:TE)(tl th:TO):TE:=λσ H Q=>te σ H λx H1=>tl σ H1 λl H2=>th σ H2 λu a=>r x l u a Q
theorem aXt{r:V->Option Int->Option Int->Hp->VK->Prop}(f:SlR X r)(d:PE X e te)(hl:PO X lo tl)(a:PO X hi th):PE X (.Subscript e (.Slice lo hi none p2) pos) (tSl r te tl th):=by
 intro pins s σ H Q I h;refine Subscript_ (thn (d pins s σ H _ I h) λv s1 ⟨x,H1,I1,r1,q1⟩=>?_);refine wpAny_Slice (thn (hl pins s1 σ H1 _ I1 q1) λvl s2 ⟨l,H2,I2,pl,q2⟩=>thn (a pins s2 σ H2 _ I2 q2) λvu s3 ⟨u,H3,I3,pu,q3⟩=>?_);rw[evalPart_none];refine bYn ?_;have j:Inv X pins σ H3 {s3 with heap:=s3.heap.push {cls:= .type "slice",data:= .fields #[vl,vu,.none] } }:=I3.kept (t':=s3.toks) λb k q=>bYm _ q;obtain⟨T,id,i,c,g⟩:=f pins {s3 with heap:=s3.heap.push {cls:= .type "slice",data:= .fields #[vl,vu,.none] } } σ H3 x v vl vu l u s3.heap.objs.size Q j r1 (Heap.IsSliceOf.new ..) pl pu q3;show bYq (bYs X.prog X.w) X.A (subscriptTail e (.Slice lo hi none p2) v (.ref s3.heap.objs.size)) (EP X pins σ Q) X.xe {s3 with heap:=s3.heap.push {cls:= .type "slice",data:= .fields #[vl,vu,.none] } };exact tail_any (ops:= [.ref s3.heap.objs.size,v]) c i g (by with_unfolding_all rfl)
def aXh(xs:List V)(lo hi:Option Int):List V:=(xs.drop (HT.sIx xs.length 0 lo)).take (HT.sIx xs.length xs.length hi - HT.sIx xs.length 0 lo)
theorem aZ5(xs:List V)(lo hi:Option Int):(aXh xs lo hi).length<=xs.length:=by
 unfold aXh;rw[cQA,List.length_drop];omega
inductive bKs(K:bYk)(x:V)(y:V)(H:Hp)(Q:VK):Prop|mk (a b xs ys) (_:x= .ref a) (_:y= .ref b) (_:SqT K H a xs) (_:SqT K H b ys) (_:xs≠ []) (_:xs.length+ys.length<=bYI) (_:(ys= []->Q (.ref a) H)) (_:(ys≠ []->∀p,H p=none->Q (.ref p) (upd H p (.tup (xs++ys)))))
theorem xS.nil_iff{xs:List V}{us:List bYi}(r:xS xs us):us= []↔xs= []:=by
 cases r with
 |nil=>simp
 |cons _ _=>simp
theorem bJV:OpR X (cXX .Add) (bKs X.K):=by
 intro pins s σ H x y v u Q I j n h;obtain⟨a,b,xs,ys,rfl,rfl,l,k,p,f,i,m⟩:=h;cases j;cases n;obtain⟨r,d,g,_⟩:=I.tuple l;obtain⟨e,c,p2,_⟩:=I.tuple k;refine HT.bJd g p2 (λz=>p (d.nil_iff.mp z)) (λz=>⟨.ref a,H,I,rfl,i (c.nil_iff.mp z)⟩) (λz=>?_) (by rw[<- d.length,<- c.length];exact f);refine⟨.ref s.heap.objs.size,_,I.laid (t':=s.toks) (o:= .tup (xs++ys)) (λb t q=>bYm _ q) (bYp _) ?_,rfl,m (λw=>z (c.nil_iff.mpr w)) _ (I.hok.fresh (bYp _))⟩;exact⟨by rw[bYM];exact f,_,d.append c,IsTup.new _ _⟩
end
end L2
namespace L2
open PySem PySem.Spec PyProof.Rows
def ixN(n:Nat)(i:Int):Option Nat:=if 0<=i then(if i<n then some i.toNat else none)else if -(n:Int)<=i then some (i+n).toNat else none
def atI{α:Type}(xs:List α)(i:Int):Option α:=(ixN xs.length i).bind λj=>xs[j]?
theorem aKE{n:Nat}{i:Int}{j:Nat}(h:ixN n i=some j):seqIndex? i n=some j/\j<n/\ -(n:Int)<=i/\i<n:=by
 unfold ixN at h;by_cases h0:0<=i
 ·rw[if_pos h0]at h;by_cases h1:i<n
  ·rw[if_pos h1]at h;have e:i.toNat=j:=bYD h;exact⟨by rw[seqIndex_of h0 h1,e],by omega,by omega,h1⟩
  ·rw[if_neg h1]at h;cases h
 ·rw[if_neg h0]at h;by_cases h1: -(n:Int)<=i
  ·rw[if_pos h1]at h;have e:(i+n).toNat=j:=bYD h;exact⟨by rw[seqIndex_neg (by omega) h1,e],by omega,h1,by omega⟩
  ·rw[if_neg h1]at h;cases h
theorem aZY{α:Type}{xs:List α}{i:Int}{v:α}(h:atI xs i=some v):∃j,seqIndex? i xs.length=some j/\xs[j]? =some v/\j<xs.length/\ -(xs.length:Int)<=i/\i<xs.length:=by
 unfold atI at h;cases e:ixN xs.length i with
 |none=>rw[e]at h;cases h
 |some j=>rw[e]at h;obtain⟨h1,h2,b,a⟩:=aKE e;exact⟨j,h1,h,h2,b,a⟩
theorem yS{α:Type}{xs:List α}{j:Nat}{v:α}(h:xs[j]? =some v):atI xs (j:Int)=some v:=by
 have a:j<xs.length:=(bYu.mp h).1;have e:ixN xs.length (j:Int)=some j:=by unfold ixN;rw[if_pos (by omega),if_pos (by omega)];simp
 unfold atI;rw[e];exact h
def bJa(b:Expr):Prop:=∀o i,subscripted b false o i=operate [o,i] (getItem o i)
def IxR(X:Cx)(r:R2):Prop:=
 ∀ (value a:Expr)(pins:List (Addr×Obj))(s:bYl)(σ:St)(H:Hp)(x y:V)(v u:bYi)(Q:VK),Inv X pins σ H s->zE x v->zE y u->r x y H Q->
  subscripted a false v u=operate [v,u] (getItem v u)->bYq (bYs X.prog X.w) X.A (subscriptTail value a v u) (EP X pins σ Q) X.xe s
def MtR(X:Cx)(id:String)(r:V->List V->Hp->VK->Prop):Prop:=
 ∀ (pins:List (Addr×Obj))(s:bYl)(σ:St)(H:Hp)(x:V)(xs:List V)(v:bYi)(a:List bYi)(Q:VK),Inv X pins σ H s->zE x v->xS xs a->r x xs H Q->
  bYq (bYs X.prog X.w) X.A (call (.builtin id) (v::a)) (EP X pins σ Q) X.xe s
section
variable {X:Cx}{a b:Expr}{ta tb:TE}{pos:Pos}
theorem IxR.or{r c:R2}(h:IxR X r)(h':IxR X c):IxR X (λx y H Q=>r x y H Q\/c x y H Q):=by
 intro value a pins s σ H x y v u Q I d e q b;rcases q with q|q
 ·exact h value a pins s σ H x y v u Q I d e q b
 ·exact h' value a pins s σ H x y v u Q I d e q b
theorem yL{r:R2}(e:IxR X r)(j:PE X a ta)(i:PE X b tb)(d:bJa b:=by exact λ_ _=>rfl):PE X (.Subscript a b pos) (tOp r ta tb):=by
 intro pins s σ H Q I h;exact Subscript_ (bKh j i I h λv u f x y H2 c g k q=>e a b pins f σ H2 x y v u Q c g k q (d _ _))
inductive bVN(K:bYk)(x:V)(y:V)(H:Hp)(Q:VK):Prop|mk (p xs i v) (_:x= .ref p) (_:y= .int i) (_:SqL K H p xs) (_:atI xs i=some v) (_:Q v H)
inductive bKt(K:bYk)(x:V)(y:V)(H:Hp)(Q:VK):Prop|mk (p xs i v) (_:x= .ref p) (_:y= .int i) (_:SqT K H p xs) (_:atI xs i=some v) (_:Q v H)
inductive bKR(x:V)(y:V)(H:Hp)(Q:VK):Prop|mk (z i c) (_:x= .str z) (_:y= .int i) (_:z.length<=bYI) (_:atI z.cps.toList i=some c) (_:Q (.str ⟨#[c]⟩) H)
theorem yK:IxR X (bVN X.K):=by
 intro value a pins s σ H x y v u Q I m n h f;obtain⟨p,xs,i,z,rfl,rfl,A,l,q⟩:=h;cases m;obtain⟨t,rfl⟩:=n;obtain⟨d,r,e,D⟩:=I.list A;obtain⟨j,h1,h2,B,k,o⟩:=aZY l;obtain⟨w,g,b⟩:=r.get h2;have hl:=r.length;have C:=aZn;have fin:EP X pins σ Q w s:=⟨z,H,I,b,q⟩;by_cases h0:0<=i
 ·have c:i.toNat=j:=by
   rw[seqIndex_of h0 o]at h1;exact bYD h1
  exact item_listR e.isList h0 (by omega) (by rw[c];simpa using g) fin f
 ·have c:(i+(d.toArray.size:Int)).toNat=j:=by
   rw[seqIndex_neg (by omega) k]at h1;rw[bYB,<- hl];exact bYD h1
  exact subscriptTail_builtinR (x:=w) e.isList.typeIs slot_list_getitem.lookup
   (wpAny_getItem_list_neg (Q:=λr s'=>r=w/\EP X pins σ Q r s') e.isList (by omega) (by rw[bYB]<;> omega) (by omega) (by rw[c];simpa using g) ⟨rfl,fin⟩) f
theorem yX:IxR X (bKt X.K):=by
 intro value a pins s σ H x y v u Q I f k h d;obtain⟨p,xs,i,z,rfl,rfl,m,e,q⟩:=h;cases f;obtain⟨t,rfl⟩:=k;obtain⟨l,r,c,C⟩:=I.tuple m;obtain⟨j,h1,h2,n,A,B⟩:=aZY e;obtain⟨w,g,b⟩:=r.get h2;have hl:=r.length;have o:=aZn;have fin:EP X pins σ Q w s:=⟨z,H,I,b,q⟩;exact subscriptTail_builtinR (x:=w) c.typeIs slot_tuple_getitem.lookup
  (getItem_tuple (j:=j) (Q:=λr s'=>r=w/\EP X pins σ Q r s') c (by omega) (by omega) (by rw[bYB,<- hl];exact h1) (by simpa using g) ⟨rfl,fin⟩) d
theorem Q6:IxR X bKR:=by
 intro value a pins s σ H x y v u Q I g k h e;obtain⟨z,i,c,rfl,rfl,p,f,q⟩:=h;obtain⟨t,rfl⟩:=g;obtain⟨r,rfl⟩:=k;obtain⟨j,h1,h2,n,d,m⟩:=aZY f;have hl:z.cps.toList.length=z.length:=by simp[Str.length]
 rw[hl]at h1 d m;have o:=aZn;exact tail_any (typeIs_str s z t) slot_str_getitem.lookup (getItem_str (c:=c) (by
  have b:decide (i< -(2 ^ 63:Int))=false:=decide_eq_false (by omega);have l:decide (i≥2 ^ 63)=false:=decide_eq_false (by omega);rw[b,l,Bool.or_false]) (by rw[h1];simpa using h2) ⟨.str ⟨#[c]⟩,H,I.tok _,⟨_,rfl⟩,q⟩) e
def rIx(K:bYk):R2:=λx y H Q=>bVN K x y H Q\/bKt K x y H Q\/bKR x y H Q
theorem bZG:IxR X (rIx X.K):=yK.or (yX.or Q6)
theorem aWm(its:List bYi)(n j:Nat)(u:bYi):bY9 (·.setIfInBounds j u) {cls:= .type "list",data:= .seq its.toArray n}= {cls:= .type "list",data:= .seq (its.set j u).toArray n}:=by
 simp[bY9]
theorem Inv.lst{pins:List (Addr×Obj)}{σ:St}{H:Hp}{s:bYl}{p:Addr}{xs:List V}(I:Inv X pins σ H s)(h:H p=some (.lst xs)): ∃ (its:List bYi)(n:Nat),xS xs its/\s.heap.get? p=some {cls:= .type "list",data:= .seq its.toArray n}/\xs.length<=bYI:=by
 obtain⟨z,its,n,r,e⟩:=I.hok p _ h;exact⟨its,n,r,e,z⟩
theorem Inv.lstUpd{pins:List (Addr×Obj)}{σ:St}{H:Hp}{s:bYl}{p:Addr}{xs ys:List V}{its its':List bYi}{n a:Nat}{f:Obj->Obj}(I:Inv X pins σ H s)(h:H p=some (.lst xs)) (g:s.heap.get? p=some {cls:= .type "list",data:= .seq its.toArray n}) (c:f {cls:= .type "list",data:= .seq its.toArray n}= {cls:= .type "list",data:= .seq its'.toArray a}) (r:xS ys its') (i:ys.length<=bYI) (t:Nat): Inv X pins σ (upd H p (.lst ys)) {s with heap:=s.heap.update p f,toks:=t}:=by
 have e:(s.heap.update p f).get? p=some {cls:= .type "list",data:= .seq its'.toArray a}:=by rw[cQk f g (by rw[c]<;> rfl),c]
 refine I.write (x:=p) (e:=p) (by rw[h];trivial) (.inl rfl) (λb u d q=>(bYP _ _ (bY0 d)).trans q) ⟨_,e⟩ ?_;exact⟨i,its',a,r,e⟩
inductive bKu(o:V)(i:V)(v:V)(H:Hp)(Q:(Hp->Prop)):Prop|mk (p xs k j) (_:o= .ref p) (_:i= .int k) (_:H p=some (.lst xs)) (_:ixN xs.length k=some j) (_:Q (upd H p (.lst (xs.set j v))))
theorem zR:bKP X bKu:=by
 intro pins s σ H o i v B z u Q I m l w h;obtain⟨p,xs,k,j,rfl,rfl,g,x,q⟩:=h;cases m;obtain⟨t,rfl⟩:=l;obtain⟨a,n,r,c,y⟩:=I.lst g;obtain⟨h1,h2,d,e⟩:=aKE x;have hl:=r.length;have A:=aZn;have f:Inv X pins σ (upd H p (.lst (xs.set j v))) {s with heap:=s.heap.update p (bY9 (·.setIfInBounds j u)) }:=
  I.lstUpd g c (aWm a n j u) (r.set w j) (by rw[List.length_set];exact y) s.toks
 by_cases h0:0<=k
 ·have b:k.toNat=j:=by
   rw[seqIndex_of h0 e]at h1;exact bYD h1
  exact PySem.W.ki_setAt c h0 (by omega) (by rw[bYB,<- hl];exact e) (by rw[b];exact⟨_,f,q⟩)
 ·have b:(k+(a.toArray.size:Int)).toNat=j:=by
   rw[seqIndex_neg (by omega) d]at h1;rw[bYB,<- hl];exact bYD h1
  exact PySem.W.ki_setBack c (by omega) (by rw[bYB,<- hl];exact d) (by omega) (by rw[b];exact⟨_,f,q⟩)
theorem aZH(lo hi:Option Int)(n:Nat):(cZB lo hi none n).1=((HT.sIx n 0 lo:Nat):Int)/\(cZB lo hi none n).2.1=((HT.sIx n n hi:Nat):Int)/\(cZB lo hi none n).2.2=1:=by
 refine⟨?_,?_,rfl⟩
 ·cases lo with
  |none=>simp[cZB,HT.sIx]
  |some i=>
   simp only[cZB,HT.sIx,Option.getD_none,show(1:Int) > 0 by decide,if_true];by_cases h:i<0
   ·simp only[h,if_true]<;> omega
   ·simp only[h,if_false]<;> omega
 ·cases hi with
  |none=>simp[cZB,HT.sIx]
  |some i=>
   simp only[cZB,HT.sIx,Option.getD_none,show(1:Int) > 0 by decide,if_true];by_cases h:i<0
   ·simp only[h,if_true]<;> omega
   ·simp only[h,if_false]<;> omega
theorem aXM(its:List bYi)(lo hi:Option Int):slicePick its.toArray lo hi none=((its.drop (HT.sIx its.length 0 lo)).take (HT.sIx its.length its.length hi - HT.sIx its.length 0 lo)).toArray:=by
 obtain⟨h1,h2,a⟩:=aZH lo hi its.toArray.size;unfold slicePick;rw[h1,h2,a];simp only[sliceRange_one,pick_run,bYB]<;> rfl
inductive bK7(K:bYk)(x:V)(lo:Option Int)(hi:Option Int)(H:Hp)(Q:VK):Prop|mk (a xs) (_:x= .ref a) (_:SqL K H a xs) (_:∀p,H p=none->Q (.ref p) (upd H p (.lst (aXh xs lo hi))))
theorem aJU:SlR X (bK7 X.K):=by
 intro pins s σ H x v p m lo hi t Q I f e l g h;obtain⟨a,xs,rfl,i,q⟩:=h;cases f;obtain⟨k,r,d,j⟩:=I.list i;have c:=r.length;refine⟨"list",_,slot_list_getitem.lookup,d.isList.typeIs,?_⟩;refine wpAny_getItem_list_slice d.isList e l g .none (by simp) ?_ (by rw[bYB]<;> omega);rw[aXM,<- c];refine⟨.ref s.heap.objs.size,_,I.laid (t':=s.toks) (o:= .lst (aXh xs lo hi)) (λb n q=>bYm _ q) (bYp _) ?_,rfl,q _ (I.hok.fresh (bYp _))⟩;exact⟨bYT (aZ5 xs lo hi) j,_,0,(r.drop (HT.sIx xs.length 0 lo)).take (HT.sIx xs.length xs.length hi - HT.sIx xs.length 0 lo),bYL _ rfl⟩
def Z8:V->Bool
 |.non=>true
 |.bl _=>true
 |.int _=>true
 |.str _=>true
 |_=>false
def eqV:V->V->Bool
 |.non,.non=>true
 |.bl a,.bl b=>a==b
 |.bl a,.int b=>(if a then 1 else 0)==b
 |.int a,.bl b=>a==(if b then 1 else 0)
 |.int a,.int b=>a==b
 |.str a,.str b=>a==b
 |_,_=>false
theorem bZC{A:bYW}{s:bYl}{y x:V}{u v:bYi}(e:zE y u)(c:zE x v)(g:Z8 y=true)(f:Z8 x=true):cJJ A s u v (eqV y x):=by
 cases y with
 |non=>
  cases e;cases x with
  |non=>cases c;exact SeqAt.EqAt.same _
  |bl b=>cases c;exact SeqAt.EqAt.none_bool b
  |int b=>obtain⟨t,rfl⟩:=c;exact SeqAt.EqAt.none_int b t
  |str b=>obtain⟨t,rfl⟩:=c;exact SeqAt.EqAt.none_str b t
  |_=>exact absurd (show false=true from f) Bool.false_ne_true
 |bl a=>
  cases e;cases x with
  |non=>cases c;exact SeqAt.EqAt.bool_none a
  |bl b=>cases c;exact SeqAt.EqAt.bool_bool a b
  |int b=>obtain⟨t,rfl⟩:=c;exact SeqAt.EqAt.bool_int a b t
  |str b=>obtain⟨t,rfl⟩:=c;exact SeqAt.EqAt.bool_str a b t
  |_=>exact absurd (show false=true from f) Bool.false_ne_true
 |int a=>
  obtain⟨d,rfl⟩:=e;cases x with
  |non=>cases c;exact SeqAt.EqAt.int_none a d
  |bl b=>cases c;exact SeqAt.EqAt.int_bool a d b
  |int b=>obtain⟨t,rfl⟩:=c;exact SeqAt.EqAt.int_int a d b t
  |str b=>obtain⟨t,rfl⟩:=c;exact SeqAt.EqAt.int_str a d b t
  |_=>exact absurd (show false=true from f) Bool.false_ne_true
 |str a=>
  obtain⟨d,rfl⟩:=e;cases x with
  |non=>cases c;exact SeqAt.EqAt.str_none a d
  |bl b=>cases c;exact SeqAt.EqAt.str_bool a d b
  |int b=>obtain⟨t,rfl⟩:=c;exact SeqAt.EqAt.str_int a d b t
  |str b=>obtain⟨t,rfl⟩:=c;exact SeqAt.EqAt.str_str a d b t
  |_=>exact absurd (show false=true from f) Bool.false_ne_true
 |_=>exact absurd (show false=true from g) Bool.false_ne_true
def eqU(x:V)(u:bYi):Bool:=match u with
 |.none=>eqV .non x
 |.bool b=>eqV (.bl b) x
 |.int i _=>eqV (.int i) x
 |.str z _=>eqV (.str z) x
 |_=>false
theorem bZD{x y:V}{u:bYi}(r:zE y u)(f:Z8 y=true):eqU x u=eqV y x:=by
 cases y with
 |non=>cases r;rfl
 |bl b=>cases r;rfl
 |int i=>obtain⟨t,rfl⟩:=r;rfl
 |str z=>obtain⟨t,rfl⟩:=r;rfl
 |_=>exact absurd (show false=true from f) Bool.false_ne_true
theorem Q1{x:V}:∀ {xs:List V} {us:List bYi},xS xs us->xs.all Z8=true->us.any (eqU x)=xs.any λy=>eqV y x
 |_,_,.nil,_=>rfl
 |y::xs,u::us,.cons r t,f=>by rw[cZu,Bool.and_eq_true]at f;rw[cXx,cXx,bZD r f.1,Q1 t f.2]
theorem qL{A:bYW}{s:bYl}{x:V}{v:bYi}(b:zE x v)(c:Z8 x=true):∀ {xs:List V} {us:List bYi},xS xs us->xs.all Z8=true->∀u∈us,cJJ A s u v (eqU x u)
 |_,_,.nil,_=>λu a=>by cases a
 |y::xs,u::us,.cons r t,f=>λd a=>by
  rw[cZu,Bool.and_eq_true]at f;rcases bYr.mp a with rfl|a
  ·rw[bZD r f.1];exact bZC r b f.1 c
  ·exact qL b c t f.2 d a
def inV(x:V)(xs:List V):Bool:=xs.any λy=>eqV y x
inductive rIn(K:bYk)(neg:Bool)(x:V)(y:V)(H:Hp)(Q:VK):Prop|mk (p xs) (_:y= .ref p) (_:(SqL K H p xs\/SqT K H p xs)) (_:Z8 x=true) (_:xs.all Z8=true) (_:Q (.bl (if neg then !inV x xs else inV x xs)) H)
theorem wT:OpR X (cQM .In) (rIn X.K false):=by
 intro pins s σ H x y v u Q I d f h;obtain⟨p,xs,rfl,b,e,fs,q⟩:=h;cases f;rcases b with b|b
 ·obtain⟨a,r,c,g⟩:=I.list b;refine SeqAt.in_listAt (eqU x) c.isList (λw hw=>qL d e r fs w (by simpa using hw)) ⟨.bl _,H,I,rfl,?_⟩;rw[show a.toArray.any (eqU x)=a.any (eqU x) by simp,Q1 r fs];exact q
 ·obtain⟨a,r,c,g⟩:=I.tuple b;refine SeqAt.in_tupleAt (eqU x) c (λw hw=>qL d e r fs w (by simpa using hw)) ⟨.bl _,H,I,rfl,?_⟩;rw[show a.toArray.any (eqU x)=a.any (eqU x) by simp,Q1 r fs];exact q
theorem Z2:OpR X (cQM .NotIn) (rIn X.K true):=by
 intro pins s σ H x y v u Q I d f h;obtain⟨p,xs,rfl,b,e,fs,q⟩:=h;cases f;rcases b with b|b
 ·obtain⟨a,r,c,g⟩:=I.list b;refine SeqAt.notIn_listAt (eqU x) c.isList (λw hw=>qL d e r fs w (by simpa using hw)) ⟨.bl _,H,I,rfl,?_⟩;rw[show a.toArray.any (eqU x)=a.any (eqU x) by simp,Q1 r fs];exact q
 ·obtain⟨a,r,c,g⟩:=I.tuple b;refine SeqAt.notIn_tupleAt (eqU x) c (λw hw=>qL d e r fs w (by simpa using hw)) ⟨.bl _,H,I,rfl,?_⟩;rw[show a.toArray.any (eqU x)=a.any (eqU x) by simp,Q1 r fs];exact q
inductive aXe(K:bYk)(xs:List V)(H:Hp)(Q:VK):Prop|mk (p ys) (_:xs= [.ref p]) (_:(SqL K H p ys\/SqT K H p ys)) (_:Q (.int ys.length) H)
theorem yQ:jO X (.builtin "len") (aXe X.K):=by
 intro pins s σ H xs j Q I r h;obtain⟨p,ys,rfl,b,q⟩:=h;obtain⟨u,rfl,f⟩:=aQM r;cases f;have i:=aZn;rcases b with b|b
 ·obtain⟨d,c,e,g⟩:=I.list b;have a:=c.length;exact Calls.call_len_list e.isList (by simp only[bYB]<;> omega) ⟨.int ys.length,H,I.tok _,⟨s.toks+1,by rw[bYB,a]⟩,q⟩
 ·obtain⟨d,c,e,g⟩:=I.tuple b;have a:=c.length;exact len_tuple e (by simp only[bYB]<;> omega) ⟨.int ys.length,H,I.tok _,⟨s.toks+1,by rw[bYB,a]⟩,q⟩
inductive aXf(K:bYk)(xs:List V)(H:Hp)(Q:VK):Prop|mk (p ys) (_:xs= [.ref p]) (_:(SqL K H p ys\/SqT K H p ys)) (_:∀l,H l=none->Q (.ref l) (upd H l (.lst ys)))
theorem vB:jO X (.type "list") (aXf X.K):=by
 intro pins s σ H xs x Q I r h;obtain⟨p,ys,rfl,j,q⟩:=h;obtain⟨u,rfl,v⟩:=aQM r;cases v;have fin:∀ (a:List bYi),xS ys a->ys.length<=bYI->∀ (h':Heap)(c:Nat),(∀b o',s.heap.get? b=some o'->h'.get? b=some o')->
   h'.get? s.heap.objs.size=some {cls:= .type "list",dict:=none,data:= .seq a.toArray c,slots:= #[] }->EP X pins σ Q (.ref s.heap.objs.size) {s with heap:=h'}:=λa d g h' c f e=>
  ⟨.ref s.heap.objs.size,_,I.laid (t':=s.toks) f (bYp _) (show x4 X.prog X.w _ h' _ (.lst ys)from⟨g,a,c,d,e⟩),rfl,q _ (I.hok.fresh (bYp _))⟩
 rcases j with j|j
 ·obtain⟨a,d,t,g⟩:=I.list j;have i:=d.length;obtain⟨o,m,l,n,k⟩:=t.isList;exact call_list_seq p (.inl rfl) m l k (λh' c f e=>fin a d g h' c f e) (by simp only[bYB]<;> omega)
 ·obtain⟨a,d,t,g⟩:=I.tuple j;have i:=d.length;obtain⟨o,m,l,n,k⟩:=t;exact call_list_seq p (.inr rfl) m l k (λh' c f e=>fin a d g h' c f e) (by simp only[bYB]<;> omega)
inductive aQQ(K:bYk)(xs:List V)(H:Hp)(Q:VK):Prop|mk (p ys) (_:xs= [.ref p]) (_:((SqL K H p ys/\∀l,H l=none->Q (.ref l) (upd H l (.tup ys)))\/(SqT K H p ys/\Q (.ref p) H)))
theorem qG:jO X (.type "tuple") (aQQ X.K):=by
 intro pins s σ H xs n Q I r h;obtain⟨p,ys,rfl,h⟩:=h;obtain⟨u,rfl,m⟩:=aQM r;cases m;rcases h with⟨f,q⟩|⟨f,q⟩
 ·obtain⟨a,c,d,i⟩:=I.list f;have j:=c.length;refine call_tuple_list d.isList (λh' l=>?_) (by simp only[bYB]<;> omega);have g:Inv X pins σ H {s with heap:=h'}:=I.kept (t':=s.toks) l;have k:Inv X pins σ (upd H h'.objs.size (.tup ys)) {s with heap:=h'.push {cls:= .type "tuple",data:= .seq a.toArray} }:=
   g.laid (t':=s.toks) (λb o e=>bYm _ e) (bYp _) (show x4 X.prog X.w _ _ _ (.tup ys)from⟨i,a,c,IsTup.new _ _⟩)
  exact⟨.ref h'.objs.size,_,k,rfl,q _ (g.hok.fresh (bYp _))⟩
 ·obtain⟨a,c,d,i⟩:=I.tuple f;exact call_tuple_same d ⟨.ref p,H,I,rfl,q⟩
def tyV(K:bYk)(T:String)(x:V)(H:Hp):Prop:=match x with
 |.str _=>T="str"
 |.int _=>T="int"
 |.ref p=>(T="list"/\∃xs,SqL K H p xs)\/(T="tuple"/\∃o,K.lookup p=some o/\o.cls= .type "tuple"/\o.dict=none)\/
   (T="dict"/\((∃a,H p=some (.dK a))\/∃a,H p=some (.dT a)))\/(T="set"/\∃S n,H p=some (.set S n))
 |_=>False
theorem bZ2{pins:List (Addr×Obj)}{σ:St}{H:Hp}{s:bYl}{T:String}{x:V}{v:bYi}(I:Inv X pins σ H s)(r:zE x v)(ty:tyV X.K T x H): s.TypeIs v T/\∀a,v= .ref a->∃h,s.heap.get? a=some h/\h.dict=none:=by
 cases x with
 |str z=>obtain⟨t,rfl⟩:=r;cases (show T="str" from ty);exact⟨typeIs_str s z t,λ_ e=>nomatch e⟩
 |int i=>obtain⟨t,rfl⟩:=r;cases (show T="int" from ty);exact⟨typeIs_int s i t,λ_ e=>nomatch e⟩
 |ref p=>
  cases r;rcases ty with⟨rfl,xs,m⟩|⟨rfl,o,b,k,d⟩|⟨rfl,b⟩|⟨rfl,S,n,b⟩
  ·obtain⟨l,_,j,_⟩:=I.list m;refine⟨j.isList.typeIs,λa e=>?_⟩;cases e;obtain⟨o,n,e,c,d,_⟩:=j;exact⟨o,e,d⟩
  ·refine⟨⟨o,I.kIn p o b,k⟩,λa e=>?_⟩;cases e;exact⟨o,I.kIn _ o b,d⟩
  ·have z:∃o,s.heap.get? p=some o/\o.ExactDict:=by
    rcases b with⟨f,b⟩|⟨f,b⟩
    ·obtain⟨_,_,_,_,o,_,_,e,ex,_⟩:=I.hok p _ b;exact⟨o,e,ex⟩
    ·obtain⟨_,_,_,_,o,_,_,e,ex,_⟩:=I.hok p _ b;exact⟨o,e,ex⟩
   obtain⟨o,e,ex⟩:=z;refine⟨⟨o,e,ex.1⟩,λa g=>?_⟩;cases g;exact⟨o,e,ex.2.1⟩
  ·obtain⟨o,_,_,_,e,ex,_⟩:=I.hok p _ b;refine⟨⟨o,e,ex.1⟩,λa g=>?_⟩;cases g;exact⟨o,e,ex.2.1⟩
 |_=>exact cQN ty
inductive bKE(K:bYk)(T:String)(r:V->List V->Hp->VK->Prop)(Q:VK)(x:V)(H1:Hp):Prop|mk (_:tyV K T x H1) (_:r x [] H1 Q)
def bYb(K:bYk)(T:String)(r:V->List V->Hp->VK->Prop)(to:TE):TE:=λσ H Q=>to σ H λx H1=>bKE K T r Q x H1
inductive bYc(K:bYk)(T:String)(r:V->List V->Hp->VK->Prop)(t:TA)(σ:St)(Q:VK)(x:V)(H1:Hp):Prop|mk (_:tyV K T x H1) (_:t σ H1 λxs H2=>r x xs H2 Q)
def tBM(K:bYk)(T:String)(r:V->List V->Hp->VK->Prop)(to:TE)(t:TA):TE:=λσ H Q=>to σ H λx H1=>bYc K T r t σ Q x H1
variable {o e:Expr}{es:List Expr}{to:TE}{t:TA}{name:Str}{apos cpos:Pos}{T id:String}{r:V->List V->Hp->VK->Prop}
theorem bZN(g:PlainAttrs T)(c:Slot T name id)(d:typeOf (.builtin id)=pure (.type "method_descriptor"))(e:MtR X id r)(f:PE X o to) (a:cX4 o name X.env (eval o X.env)=eval o X.env:=by rfl) (b:(apos.endLine==cpos.line)=true:=by rfl):PE X (.Call (.Attribute o name apos) [] [] cpos) (bYb X.K T r to):=by
 intro pins s σ H Q I h;refine wpAny_Call_method0_late a b (thn (f pins s σ H _ I h) λv s1 ⟨x,H1,I1,r1,ty,q1⟩=>?_);obtain⟨h1,h2⟩:=bZ2 I1 r1 ty;exact⟨T,id,g,c,d,h1,h2,Calls.callWith_builtin rfl (PySem.evalArgs_none (e pins s1 σ H1 x [] v [] Q I1 r1 .nil q1))⟩
theorem uG(l:PlainAttrs T)(f:Slot T name id)(g:typeOf (.builtin id)=pure (.type "method_descriptor"))(j:MtR X id r)(n:PE X o to)(m:PA X (e::es) t)
  (b:cX4 o name X.env (eval o X.env)=eval o X.env:=by rfl)
  (d:((cQU cpos (bYV (e::es) X.env)).all (λx=> !x.1) && (cZs cpos (cXz [] X.env)).all (λx=>x.1.isSome) && decide ((e::es).length+([]:List Keyword).length+(if([]:List Keyword).isEmpty then 0 else 1)<30))=true:=by rfl)
  (c:(apos.endLine==cpos.line)=true:=by rfl) (k:bYV (e::es) X.env=(false,eval e X.env)::bYV es X.env:=by rfl) (a:(cQU cpos (bYV es X.env)).any (·.1)=false:=by rfl):
  PE X (.Call (.Attribute o name apos) (e::es) [] cpos) (tBM X.K T r to t):=by
 intro pins s σ H Q I h
 refine wpAny_Call_method_late b d c rfl (thn (n pins s σ H _ I h) λv s1 ⟨x,H1,I1,r1,ty,q1⟩=>?_)
 obtain⟨h1,h2⟩:=bZ2 I1 r1 ty
 refine⟨T,id,l,f,g,h1,h2,?_⟩
 have i:=m cpos pins s1 σ H1 _ I1 q1
 rw[k]at i ⊢
 refine Calls.callWith_builtin (by show(false || (cQU cpos (bYV es X.env)).any (·.1))=false;rw[a]<;> rfl) (Calls.evalArgs_plain ?_)
 exact thn i λus s2 ⟨vs,H2,I2,r2,q2⟩=>j pins s2 σ H2 x vs v us Q I2 r1 r2 q2
end
end L2
namespace L2
open PySem PySem.Spec PyProof.Rows
def MtM(X:Cx)(id:String)(r:V->List V->Hp->VK->Prop):Prop:=
 ∀ (pins:List (Addr×Obj))(s:bYl)(σ:St)(H:Hp)(x:V)(xs:List V)(v:bYi)(a:List bYi)(Q:VK),Inv X pins σ H s->zE x v->xS xs a->r x xs H Q->
  bYq (bYs X.prog X.w) X.A (call (.builtin id) (v::a)) (EP X pins σ Q) X.xe s
theorem xS.one:∀ {x:V} {us:List bYi},xS [x] us->∃u,us= [u]/\zE x u
 |_,_,.cons r .nil=>⟨_,rfl,r⟩
theorem xS.two:∀ {x y:V} {us:List bYi},xS [x,y] us->∃u v,us= [u,v]/\zE x u/\zE y v
 |_,_,_,.cons r (.cons q .nil)=>⟨_,_,rfl,r,q⟩
theorem xS.zero:∀ {us:List bYi},xS [] us->us= []
 |_,.nil=>rfl
theorem xS.dropLast{xs:List V}{us:List bYi}(h:xS xs us):xS xs.dropLast us.dropLast:=by
 induction h with
 |nil=>exact .nil
 |cons r t a=>
  cases t with
  |nil=>exact .nil
  |cons q b=>exact .cons r a
theorem xS.reverse{xs:List V}{us:List bYi}(h:xS xs us):xS xs.reverse us.reverse:=by
 induction h with
 |nil=>exact .nil
 |cons r t a=>rw[List.reverse_cons,List.reverse_cons];exact xS.append a (.cons r .nil)
theorem aV6{α:Type}(l:List α):l.eraseIdx (l.length - 1)=l.dropLast:=by
 induction l with
 |nil=>rfl
 |cons a r c=>
  cases r with
  |nil=>rfl
  |cons b r=>
   have e:(a::b::r).length - 1=((b::r).length - 1)+1:=by have h1:(a::b::r).length=r.length+2:=rfl;have h2:(b::r).length=r.length+1:=rfl;omega
   rw[e,List.eraseIdx_cons_succ,c];all_goals rfl
section
variable {X:Cx}{pins:List (Addr×Obj)}{σ:St}{H:Hp}{s:bYl}{l b:Addr}{xs ys zs:List V}
theorem Inv.lset{its its':List bYi}{n:Nat}{f:Array bYi->Array bYi}{t':Nat}(I:Inv X pins σ H s)(g:H l=some (.lst xs)) (e:s.heap.get? l=some {cls:= .type "list",data:= .seq its.toArray n}) (d:f its.toArray=its'.toArray) (a:xS ys its') (c:ys.length<=bYI): Inv X pins σ (upd H l (.lst ys)) {s with heap:=s.heap.update l (bY9 f),toks:=t'}:=by
 have q:=PySem.IsL.update e f;rw[d]at q;refine I.write (x:=l) (e:=l) (by rw[g];exact trivial) (.inl rfl) (λi u h b=>(bYP s.heap (bY9 f) (bY0 h)).trans b) ⟨_,q⟩ ?_;exact⟨c,its',_,a,q⟩
theorem Inv.lnew{its:List bYi}{t':Nat}(I:Inv X pins σ H s)(a:xS ys its)(hz:ys.length<=bYI): Inv X pins σ (upd H s.heap.objs.size (.lst ys)) {s with heap:=s.heap.push {cls:= .type "list",data:= .seq its.toArray},toks:=t'}:=
 I.laid (λ_ _ q=>bYm _ q) (bYp _) ⟨hz,its,0,a,bYL _ rfl⟩
theorem Inv.fresh(I:Inv X pins σ H s):H s.heap.objs.size=none:=I.hok.fresh (bYp _)
theorem Inv.lstM(I:Inv X pins σ H s)(a:H l=some (.lst xs)):xs.length<=bYI/\∃ (its:List bYi)(n:Nat),xS xs its/\xs.length=its.length/\s.heap.get? l=some {cls:= .type "list",data:= .seq its.toArray n}:=by
 obtain⟨z,its,n,r,e⟩:=I.hok l _ a;exact⟨z,its,n,r,r.length,e⟩
theorem bXa{n:Nat}(h:n<=bYI):cZE n=false:=by
 unfold cZE;exact decide_eq_false (by omega)
end
section
variable {X:Cx}
inductive aYp(x:V)(vs:List V)(H:Hp)(Q:VK):Prop|mk (l xs y) (_:x= .ref l) (_:vs= [y]) (_:H l=some (.lst xs)) (_:xs.length<bYI) (_:Q .non (upd H l (.lst (xs++ [y]))))
theorem xG:MtM X "list.append" aYp:=by
 intro pins s σ H x i v g Q I d f h;obtain⟨l,xs,y,rfl,rfl,b,j,q⟩:=h;cases d;obtain⟨u,rfl,c⟩:=f.one;obtain⟨z,a,n,r,hl,e⟩:=I.lstM b;refine call_meets F.slot_list_append ⟨_,e,rfl⟩ F.entry_list_append (F.args_list_append_2 _ _) (PySem.list_append l a.toArray n u (by rw[bYB];omega)) ⟨e,?_⟩;refine⟨.non,_,I.lset (its':=a++ [u]) b e (by simp) (r.append (.cons c .nil)) ?_,rfl,q⟩;rw[bYM,cQt];omega
inductive bJ0(x:V)(vs:List V)(H:Hp)(Q:VK):Prop|mk (l b xs zs) (_:x= .ref l) (_:vs= [.ref b]) (_:H l=some (.lst xs)) (_:H b=some (.lst zs)) (_:xs.length+zs.length<=bYI) (_:Q .non (upd H l (.lst (xs++zs))))
theorem aKU:MtM X "list.extend" bJ0:=by
 intro pins s σ H x A v y Q I m w h;obtain⟨l,b,xs,zs,rfl,rfl,g,o,B,q⟩:=h;cases m;obtain⟨u,rfl,k⟩:=w.one;cases k;obtain⟨z,c,n,r,hl,e⟩:=I.lstM g;obtain⟨z2,a,i,t,j,p⟩:=I.lstM o;have f:c.toArray.size+a.toArray.size<=bYI:=by rw[bYB,bYB];omega
 have d:¬ (!c.toArray.isEmpty && cZE (c.toArray.size+a.toArray.size))=true:=by rw[bXa f,Bool.and_false];exact Bool.false_ne_true
 refine call_meets F.slot_list_extend ⟨_,e,rfl⟩ F.entry_list_extend (F.args_list_extend_2 _ _)
  (AutoSeq1.list_extend_list_list_0 l c.toArray n b a.toArray i d (by rw[bYB];omega) (by omega)) ⟨e,p,?_⟩
 refine⟨.non,_,I.lset (its':=c++a) g e (by simp) (r.append t) ?_,rfl,q⟩;rw[bYM];omega
inductive bK6(x:V)(vs:List V)(H:Hp)(Q:VK):Prop|mk (l xs y) (_:x= .ref l) (_:vs= []) (_:H l=some (.lst xs)) (_:xs[xs.length - 1]? =some y) (_:Q y (upd H l (.lst xs.dropLast)))
theorem bZL:MtM X "list.pop" bK6:=by
 intro pins s σ H x o v m Q I j k h;obtain⟨l,xs,y,rfl,rfl,d,i,q⟩:=h;cases j;have c:=k.zero;subst c;obtain⟨z,a,n,r,hl,e⟩:=I.lstM d;obtain⟨u,f,g⟩:=r.get i;have b:a.toArray[a.toArray.size - 1]? =some u:=by show a.toArray[a.length - 1]? =some u;rw[<- cQP,<- hl];exact f
 refine call_meets F.slot_list_pop ⟨_,e,rfl⟩ F.entry_list_pop (F.args_list_pop_1 _) (MeetsSeq.list_pop_last l a.toArray n u b (by rw[bYB];omega)) ⟨e,?_⟩;refine⟨y,_,I.lset (its':=a.dropLast) d e ?_ r.dropLast ?_,g,q⟩
 ·show a.toArray.eraseIdxIfInBounds (a.toArray.size - 1)=a.dropLast.toArray;rw[bYB,List.eraseIdxIfInBounds_toArray,aV6]
 ·rw[List.length_dropLast];omega
inductive bK5(x:V)(y:V)(H:Hp)(Q:VK):Prop|mk (l b xs zs) (_:x= .ref l) (_:y= .ref b) (_:H l=some (.lst xs)) (_:H b=some (.lst zs)) (_:xs.length+zs.length<=bYI) (_:∀p,H p=none->Q (.ref p) (upd H p (.lst (xs++zs))))
theorem aYf:OpR X (cXX .Add) bK5:=by
 intro pins s σ H x y v u Q I i k h;obtain⟨l,b,xs,zs,rfl,rfl,g,j,t,q⟩:=h;cases i;cases k;obtain⟨z,c,n,r,hl,e⟩:=I.lstM g;obtain⟨z2,a,p,o,d,m⟩:=I.lstM j;refine PySem.P.add_list e m ?_ (by rw[bYB,bYB];omega);have f:c.toArray++a.toArray=(c++a).toArray:=by simp
 rw[f];exact⟨.ref _,_,I.lnew (t':=s.toks) (r.append o) (by rw[bYM];omega),rfl,q _ I.fresh⟩
end
section
variable {prog:bYE}{w:bYK}{A:bYW}{E:bYi->bYl->Prop}{s:bYl}
end
section
variable {X:Cx}
end
end L2
namespace Att
open PySem PySem.W PySem.Calls PyProof.Rows
theorem Q5{P:Params}{h:Heap}:∀ (c:List Int)(vs:List bYi),WellAll P h vs (c.map WData.int)->cXN vs c:=by
 intro c;induction c with
 |nil=>intro vs w;rw[List.map_nil]at w;cases w;exact .nil
 |cons n c d=>
  intro vs w;rw[bY2]at w;cases w with
  |cons a b=>cases a;exact .cons _ _ (d _ b)
theorem aY0{l:OpenLaw}{n:Nat}(s:l.most=some n){P:Params}{h:Heap}{args:List WData}{vals:List bYi} (c:l.row.toRowW.claim.pre args=true) (j:WellAll P h vals args): ∃a o b,vals= [Value.ref a]/\args= [WData.list (b.map WData.int)]/\h.get? a=some {cls:= .type "list",data:= .seq o.toArray}/\cXN o b/\b.length<=n:=by
 have k:WShape.hasAll [] args [.list .int]=true:=(pre_splitW c).1;have m:l.pre.holds [] {args:=args}=true:=(pre_splitW c).2;obtain⟨d,r,rfl,h1,h2⟩:=hasAllW_cons k;obtain rfl:=hasAllW_nil h2;obtain⟨xs,rfl,p⟩:=hasW_list h1;obtain⟨b,rfl⟩:=items_int p;have f:b.length<=n:=by
  unfold OpenLaw.pre at m;have g:(WTm.not (.lt (.lit (.int (n:Int))) (.len (.arg 0)))).holds [] {args:= [.list (b.map .int)] }=true:=by have g:=(holds_andW m).1;rw[s]at g;exact g
  have i:=condW_of g (w_not (w_lt w_lit (w_len_list (w_arg rfl))));rw[bYo]at i;refine Nat.le_of_not_lt λq=>?_;have v:(n:Int)<((b.length:Nat):Int):=by omega
  first
   |(rw[decide_eq_true v]at i;exact absurd i (by decide))
   |(simp at i;omega)
 cases j with
 |cons t u=>
  cases u;cases t with
  |list w e=>exact⟨_,_,b,rfl,rfl,w,Q5 b _ e,f⟩
theorem aYm(l:OpenLaw)(args:List WData):l.row.toRowW.claim.post args (.bool true) args=true:=
 postW_of (r:=l.row.toRowW) (X:=(true==true))
  (show WShape.has [] (.bool true) .bool=true by first|rfl|decide|simp[WShape.has,WShape.arms,WShape.armsAll])
  (show(WTm.eq .res (.lit (.bool true))).value [] {args:=args,res:=some (.bool true),after:=args}=some (.bool (true==true))from w_eq_bool (w_res rfl) w_lit) rfl
theorem aZ0{l:OpenLaw}{n:Nat}{q:bYE}{loose:List Str}{y:(Str->Option bYi)->Heap->Prop}{B:bYK->Heap->Prop}{d:DefRec} (H:l.most=some n) (v:d.params.defaults= []) (call:∀ (w:bYK)(s₀ b:bYl)(mg u:Str->Option bYi)(i:Addr)(o:Obj)(x k c:bYi)(a:Addr)(vs:List bYi)(m:List Int), Ground q loose [] y w s₀ mg u b.heap->B w b.heap-> b.heap.get? i=some o->o.data= .func (docDef d.name d.params d.body d.scope x k c)->b.heap.CodeRec k d.name->mg d.name=some (.ref i)-> b.heap.get? a=some {cls:= .type "list",data:= .seq vs.toArray}->cXN vs m->m.length<=n->b.gens= #[]-> cXw (bYs l.prog w) callerA (.call (.ref i) ⟨[.ref a],[]⟩) (λr s'=>r= .ok (.ret (.bool true))/\OldK b.heap s'.heap/\s'.os=b.os/\AllBare s'.gens) b): WalkO q loose y B l.row.toRowW d [] (λf vs=>PySem.call f vs):=by
 intro w s₀ b mg u G Y i o x k c E kV M C p z t L args vals O j A K s I;obtain rfl:E= .none:=Dflts.none z v;obtain rfl:kV= .none:=Dflts.noKw z;obtain⟨a,vs,m,rfl,rfl,g,e,h⟩:=aY0 H j s;refine enter_call (cQ7 (call w s₀ b mg u i o x k c a vs m G Y M (fd_plain C) p t g e h L) λr s' N=>?_);obtain⟨rfl,h2,F,J⟩:=N;exact⟨.inl ⟨.bool true,.bool true,[],rfl,λ_=>rfl,.bool true,aYm l _,λ_=>⟨List.Pairwise.nil,λ_ D=>(nomatch D)⟩⟩,h2,F,J⟩
section
variable {prog:bYE}{w:bYK}{A:bYW}{E:bYi->bYl->Prop}{s:bYl}{K:Frag}
end
end Att
namespace L2
open PySem PySem.Spec PyProof.Rows
theorem uV:∀ {vs:List bYi} {a:List Int},cXN vs a->xS (a.map V.int) vs
 |_,_,.nil=> .nil
 |_,_,.cons n t h=> .cons ⟨t,rfl⟩ (uV h)
end L2
namespace L2
open PySem PySem.Spec PyProof.Rows
end L2
namespace L2
open PySem PySem.Spec PyProof.Rows
def xW(s:Stmt):Arguments:=match s with
 |.FunctionDef _ a _ _ _ _ _ _ _ _=>a
 |_=>{posonlyargs:= [],args:= [],vararg:=none,kwonlyargs:= [],kw_defaults:= [],kwarg:=none,defaults:= [] }
def xO(s:Stmt):List Stmt:=match s with
 |.FunctionDef _ _ b _ _ _ _ _ _ _=>b
 |_=> []
def yH(s:Stmt):cXs:=match s with
 |.FunctionDef _ _ _ _ _ _ a _ _ _=>a
 |_=>{kind:= .function,names:= [],isGenerator:=false,isCoroutine:=false}
abbrev CX0:CXT:=λ_ _ _ _ _ _=>False
abbrev E0:XK:=λ_ _ _=>False
theorem vN{X:Cx}:w9 CX0 X E0:=λ_ _ _ _ _ _ _ h=>h.elim
structure Fun(K:bYk)(x qual:Str)(st:Stmt)(f:Addr)(fd:cXd):Prop where
 ex:∃ (oc:bYi)(od:Option Addr)(kV doc pm:bYi)(an:Option Addr)(cdv ct:bYi)(osl:Array (Option bYi)),
  fd=cQj x qual (xW st) (xO st) (yH st) .none kV doc pm an cdv ct/\K.lookup f=some ⟨oc,od,.func fd,osl⟩/\cQY K cdv qual=true
 kp:cQb K (.ref f)=true
section
variable {P:bYE}{w:bYK}{K:bYk}{mg:Str->Option bYi}{base:Heap}
theorem Fun.ok{x qual:Str}{st:Stmt}{f:Addr}{fd:cXd}{N ps:List Str}{k:Nat}{sp:Sp}(F:Fun K x qual st f fd)(S:yM N ps (yH st)) (b:∀ (a:bYi)(A:bYW)(outer:List Env)(s:bYl)(H:Hp)(vs:List V)(Q:VK)(E:XK),vK k (A.deeper (cXc qual (yH st) s.heap.objs.size f a))->sp vs H Q E-> ∃t,PSs (aXi CX0 P w K mg base N qual (yH st) f a A outer s H E).nox (xO st) t/\t {nx:=λ_ H'=>Q .non H',rt:=Q} (start N vs) H) (len:∀vs H Q E,sp vs H Q E->vs.length=ps.length:=by intro _ _ _ _ h;first|(cases h;subst_vars;exact rfl)|repeat (first|(obtain⟨rfl,_⟩:=h;exact rfl)|(obtain⟨_,h⟩:=h))):y8 P w K mg base CX0 (k+1) f fd ps sp:=by
 obtain⟨l,m,kV,e,n,j,a,ct,i,rfl,lk,c⟩:=F.ex;refine bJm lk c S len λA outer s H vs Q E g d=>?_;obtain⟨t,h,q⟩:=b a A outer s H vs Q E g d;exact⟨t,h.nox,q⟩
theorem Fun.binds{x qual:Str}{st:Stmt}{f:Addr}{fd:cXd}{ps:List Str}(F:Fun K x qual st f fd) (h:∀ (kV a d:bYi)(c:Option Addr)(b ct:bYi)(us:List bYi),us.length=ps.length->cXY (cQj x qual (xW st) (xO st) (yH st) .none kV a d c b ct) ⟨us,[]⟩=pure (ps.zip us)):vR K fd ps []:=by
 obtain⟨i,j,kV,a,d,c,b,ct,g,rfl,lk,e⟩:=F.ex;exact .all (h kV a d c b ct)
theorem aQ1{x qual:Str}{st:Stmt}{f:Addr}{i:bYi}{h e:Option Addr}{d:Array (Option bYi)}{kV b g a ct:bYi}(l:K.lookup f=some ⟨i,h,.func (cQj x qual (xW st) (xO st) (yH st) .none kV b g e a ct),d⟩)
  (c:cQY K a qual=true) (k:cQb K (.ref f)=true):Fun K x qual st f (cQj x qual (xW st) (xO st) (yH st) .none kV b g e a ct):=⟨⟨i,h,kV,b,g,e,a,ct,d,rfl,l,c⟩,k⟩
end
theorem bV9{A:bYW}{k:Nat}(a:vK k A):A.units+1<cLine:=Nat.lt_of_le_of_lt (Nat.add_le_add_left (by decide:1<=64) _) a.units
section
variable {X:Cx}
theorem pv(i:Nat){x:Str}{pos:Pos}(d:X.N[i]? =some x:=by rfl)(c:Vis X.env.scope x:=by first|exact Or.inl rfl|exact Or.inr (Or.inl rfl)|exact Or.inr (Or.inr rfl))(b:(x==("__debug__":Str))=false:=by decide)
  (a:(x==("__classdict__":Str))=false:=by decide):PE X (.Name x pos) (bVF i):=bZQ d c b a
end
theorem qD{c A B:Prop} [Decidable c] (h1:c->A)(h2:¬c->B):if c then A else B:=by
 by_cases h:c
 ·rw[if_pos h];exact h1 h
 ·rw[if_neg h];exact h2 h
def xA(H H':Hp):Prop:=∀b o,H b=some o->H' b=some o
theorem xA.refl(H:Hp):xA H H:=λ_ _ h=>h
theorem xA.trans{H H1 H2:Hp}(a:xA H H1)(b:xA H1 H2):xA H H2:=λc o h=>b c o (a c o h)
theorem xA.seq{K:bYk}{H H':Hp}{a:Addr}{xs:List V}(e:xA H H')(h:SqL K H a xs):SqL K H' a xs:=by
 rcases h with(h|⟨o,h⟩)|h
 ·exact .inl (.inl (e _ _ h))
 ·exact .inl (.inr ⟨o,e _ _ h⟩)
 ·exact .inr h
end L2
namespace L2
open PySem
theorem scM{N P:List Str}{sc:Scope}(h:decide (sc.kind=.function/\sc.isCoroutine=false/\sc.isGenerator=false/\N.Nodup/\N.take P.length=P/\(∀x∈P,sc.names.lookup x=some .local\/sc.names.lookup x=some .cell)/\∀y∈sc.names,y.2≠.free)=true:=by decide +kernel):yM N P sc:=
 have z:=of_decide_eq_true h;⟨z.1,z.2.1,z.2.2.1,z.2.2.2.1,z.2.2.2.2.1,z.2.2.2.2.2.1,z.2.2.2.2.2.2⟩
end L2
namespace L2
open PySem PySem.Spec PyProof.Rows
def qH(env:Env)(l:List (Str×cZc))(cs:List (Str×Nat)):Sem (List (Str×Nat)):=do
 let mut cs:=cs
 for (name,kind)in l do
  if kind== .free then cs:=(name,<- cellOf env name)::cs
 return cs
theorem aVZ(env:Env)(cs:List (Str×Nat)):qH env [] cs=pure cs:=by simp[qH]
theorem aZ3{env:Env}{n:Str}{c:Nat}{r:List (Str×cZc)}{cs:List (Str×Nat)}(h:env.cells.lookup n=some c):qH env ((n,.free)::r) cs=qH env r ((n,c)::cs):=by
 have e:cellOf env n=pure c:=by unfold cellOf;rw[h]
 simp[qH,e]
theorem aX2{env:Env}{n:Str}{k:cZc}{r:List (Str×cZc)}{cs:List (Str×Nat)}(h:k≠ .free):qH env ((n,k)::r) cs=qH env r cs:=by
 simp[qH,h]
theorem aZ4{env:Env}:∀ (l:List (Str×cZc))(cs:List (Str×Nat)),(∀y∈l,y.2= .free->∃c,env.cells.lookup y.1=some c)->(∀y c,cs.lookup y=some c->env.cells.lookup y=some c)->
  ∃cl,qH env l cs=pure cl/\(∀y c,cl.lookup y=some c->env.cells.lookup y=some c)/\(∀y,(∃c,cs.lookup y=some c)->∃c,cl.lookup y=some c)/\(∀y,(y,NameKind.free)∈l->∃c,cl.lookup y=some c)
 |[],cs,_,h=>⟨cs,aVZ env cs,h,λ_ z=>z,λ_ z=>by cases z⟩
 |(n,k)::r,cs,hl,h=>by
  by_cases j:k= .free
  ·subst j;obtain⟨c,o⟩:=hl (n,.free) bYx rfl;obtain⟨cl,i,g,d,f⟩:=aZ4 r ((n,c)::cs) (λy a=>hl y (bYt _ a)) (λy b e=>by
    rw[cQ4]at e;split at e
    ·rename_i z;cases e;rw[beq_iff_eq.mp z];exact o
    ·exact h y b e)
   have m:∀y,(∃c,cs.lookup y=some c)->∃b,((n,c)::cs).lookup y=some b:=λy ⟨b,e⟩=>by
    rw[cQ4];split
    ·exact⟨_,rfl⟩
    ·exact⟨b,e⟩
   refine⟨cl,by rw[aZ3 o];exact i,g,λy z=>d y (m y z),λy a=>?_⟩;rcases bYr.mp a with e|a
   ·cases e;exact d _ ⟨c,by rw[cQ4,beq_self_eq_true]⟩
   ·exact f y a
  ·obtain⟨cl,i,g,d,f⟩:=aZ4 r cs (λy a=>hl y (bYt _ a)) h;refine⟨cl,by rw[aX2 j];exact i,g,d,λy a=>?_⟩;rcases bYr.mp a with e|a
   ·cases e;exact absurd rfl j
   ·exact f y a
abbrev blk(X:Cx)(N:List Str)(sc:cXs)(cl:List (Str×Nat))(C:Nat)(s:bYl)(H:Hp)(ex:List Nat):Cx:=
 {X with N:=N,s₀:=s,H₀:=H,env:=compEnvC sc cl C X.env,outer:=X.stack,ex:=ex,fn:=λ_=>false,pn:= [],xe:=λ_ _=>False}
def sub(σ:St)(fr:List Nat)(o:Option V):St:=o::fr.map λi=>(σ[i]?).join
abbrev lsN(l:List (Str×cZc)):PySem.Scope:={kind:= .function,names:=l,isGenerator:=false,isCoroutine:=false,more:= [] }
theorem ixK{X:Cx}{K:bYk}(h:X.K=K:=by rfl):IxR X (bVN K):=by subst h;exact yK
theorem ixT{X:Cx}{K:bYk}(h:X.K=K:=by rfl):IxR X (bKt K):=by subst h;exact yX
structure xH(N:List Str)(osc:cXs)(x:Str)(names:List Str)(fr:List Nat)(sc:cXs):Prop where
 kind:sc.kind= .function
 nocell:∀y∈sc.names,y.2≠ .cell
 loc:∀y∈sc.names,y.2= .local->sc.names.lookup y.1=some .local
 var:sc.names.lookup x=some .local
 free:∀y∈sc.names,y.2= .free->osc.names.lookup y.1=some .cell\/osc.names.lookup y.1=some .free
 flk:∀y∈sc.names,y.2= .free->sc.names.lookup y.1=some .free
 nd:(x::names).Nodup
 len:fr.length=names.length
 taken:∀p∈names.zip fr,N[p.2]? =some p.1/\(p.1,NameKind.free)∈sc.names
theorem xH.from_{N:List Str}{b sc:cXs}{x:Str}{names:List Str}{fr:List Nat}(S:xH N b x names fr sc)(j:Nat)(y:Str)(h:names[j]? =some y):∃i,fr[j]? =some i/\N[i]? =some y/\(y,NameKind.free)∈sc.names:=by
 have d:j<names.length:=(bYu.mp h).1;have a:j<fr.length:=by rw[S.len];exact d
 have z:(names.zip fr)[j]? =some (y,fr[j]):=by rw[List.getElem?_zip_eq_some];exact⟨h,bYh a⟩
 obtain⟨e,c⟩:=S.taken _ (bYA z);exact⟨fr[j],bYh a,e,c⟩
def bVU(X:Cx)(ifs:List Expr)(t:TT):Prop:=
 ∀ (pins:List (Nat×Obj))(s:bYl)(σ:St)(H:Hp)(Q:Bool->Hp->Prop),Inv X pins σ H s->t σ H Q->
  bYq (bYs X.prog X.w) X.A (forIn ifs true λc r=>if r=true then do let ok <- isTrue c X.env (eval c X.env);pure (cZZ ok)else pure (cZZ r)) (TP X pins σ Q) X.xe s
def bKX:TT:=λ_ H Q=>Q true H
theorem z7{X:Cx}:bVU X [] bKX:=λpins s σ H Q I h=>by
 simp only[List.forIn_nil];exact bYn ⟨H,I,h⟩
theorem wN{X:Cx}{c:Expr}{a:TT}(d:PT X c a):bVU X [c] a:=λpins s σ H Q I h=>by
 simp only[cZ0,List.forIn_nil,if_true,bind_assoc,pure_bind];refine bYj (thn (d pins s σ H Q I h) λb e z=>?_);exact bYn z
def bVL(J:It)(fr:List Nat)(tif:TT)(te:TE)(σ:St)(D:Nat)(Q:VK)(g:Hp):Prop:=
 ∃W:Nat->Nat->List V->Hp->Prop,(∃m,W 0 m [] g)/\∀i m a H,W i m a H->H D=some (.lst a)/\
  ((J.stop i H/\Q (.ref D) H)\/(J.go i H/\∀v e,J.yld i H v e->tif (sub σ fr (some v)) e λb d=>
   if b=true then te (sub σ fr (some v)) d λy f=>a.length<bYI/\f D=some (.lst a)/\∃c,c<m/\W (i+1) c (a++ [y]) (upd f D (.lst (a++ [y])))
   else ∃c,c<m/\W (i+1) c a d))
def tLc(wi:TI)(fr:List Nat)(tif:TT)(te:TE):TE:=λσ H Q=>wi σ H λJ a=>∀D,a D=none->bVL J fr tif te σ D Q (upd a D (.lst []))
theorem aQ8{env:Env}:∀ {names:List (Str×cZc)} {y:Str},names.lookup y=some .free->
  (names.map λ(n,k)=>if(k==NameKind.free && env.scope.kind== .function && env.kindOf n==some .cell)then(n,NameKind.cell)else(n,k)).lookup y=some .cell\/
  (names.map λ(n,k)=>if(k==NameKind.free && env.scope.kind== .function && env.kindOf n==some .cell)then(n,NameKind.cell)else(n,k)).lookup y=some .free
 |[],_,h=>by simp at h
 |(n,k)::r,y,h=>by
  have b:= @aQ8 env r y;rw[bY2];dsimp only;cases a:y==n with
  |true=>
   rw[cQ4,a]at h;cases h;split
   ·left;rw[cQ4,a]
   ·right;rw[cQ4,a]
  |false=>
   rw[cQ4,a]at h;split
   ·rw[cQ4,a];exact b h
   ·rw[cQ4,a];exact b h
theorem aZz{env:Env}{sc:cXs}{y:Str}(h:sc.names.lookup y=some .free):(relabel sc env).names.lookup y=some .cell\/(relabel sc env).names.lookup y=some .free:=aQ8 h
section
variable {X:Cx}{pins:List (Nat×Obj)}{σ:St}{H:Hp}{s:bYl}
theorem bQ3{prog:bYE}{w:bYK}{A:bYW}{R:Result->bYl->Prop}{s:bYl}{elt a iter:Expr}{ifs:List Expr}{scope:cXs}{pos:Pos}{it o:bYi}{env:Env}(I:Nat->bYl->Prop)
  (turn:∀n s,I n s->bYq (bYs prog w) A (pyNext it) (λr b=>match r with
   |none=>R (.ok .next) b
   |some v=>bYq (bYs prog w) A (cZ7 a it v) (λ_ e=>bYq (bYs prog w) A (assign a env v) (λ_ g=>
     bYq (bYs prog w) A (forIn ifs true λc r=>if r=true then do let ok <- isTrue c env (eval c env);pure (cZZ ok)else pure (cZZ r)) (λok d=>
      if ok=true then bYq (bYs prog w) A (eval elt env) (λx i=>
       bYq (bYs prog w) A (call (.builtin "list.append") [o,x]) (λ_ f=>∃m,m<n/\I m f) (λ_ _=>False) i) (λ_ _=>False) d
      else ∃m,m<n/\I m d) (λ_ _=>False) g) (λ_ _=>False) e) (λ_ _=>False) b) (λ_ _=>False) s)
  (n:Nat) (h:I n s):cXw (bYs prog w) A (.compLoop (.ListComp elt [⟨a,iter,ifs,0⟩] scope pos) 0 it o env) R s:=by
 refine codeAny_loop rfl I (λn s u=>?_) n h
 show bYq _ A ((compTurn (.ListComp elt [⟨a,iter,ifs,0⟩] scope pos) 0 it o env).onRaise (λx=>do cZJ x env;theTreesLotGoes x)) _ _ s
 refine wpAny_noted ?_
 rw[compTurn_list]
 refine bYj (cZR (bYj (cQi (turn n s u) (λr b j=>?_) λ_ _ z=>z.elim)))
 cases r with
 |none=>exact bYn j
 |some v=>
  refine bYj (cQi j (λ_ e l=>?_) λ_ _ z=>z.elim);refine bYj (cQi l (λ_ g p=>bYj (cQi p (λok d k=>?_) λ_ _ z=>z.elim)) λ_ _ z=>z.elim);cases ok with
  |false=>exact bYn ⟨rfl,k⟩
  |true=>refine bYj (bYj (cQi k (λx i t=>bYj (cQi t (λ_ f q=>?_) λ_ _ z=>z.elim)) λ_ _ z=>z.elim));exact bYn (bYn ⟨rfl,q⟩)
theorem bZI{elt iter:Expr}{x:Str}{px:Pos}{ifs:List Expr}{sc:cXs}{pos:Pos}{names:List Str}{fr:List Nat}{tif:TT}{te:TE}{cl:List (Str×Nat)}{E:bYi->bYl->Prop}(S:xH X.N X.env.scope x names fr sc)(hc:X.calm=true)
  (d:∀y c,cl.lookup y=some c->X.env.cells.lookup y=some c) (Z:∀y,(y,NameKind.free)∈sc.names->∃c,cl.lookup y=some c)
  (c7:∀cl C s H ex,bVU (blk X (x::names) sc cl C s H ex) ifs tif) (he:∀cl C s H ex,PE (blk X (x::names) sc cl C s H ex) elt te)
  {J:It} {it:Nat} {f:List Nat} {tn:Nat->Heap->Prop} {Q:VK} (I:Inv X pins σ H s) (T:bW3 X.prog X.w X.K (.Name x px) J f it tn) (st:tn 0 s.heap) (hf:∀b∈f,bZu X pins H b)
  (q:∀D,H D=none->bVL J fr tif te σ D Q (upd H D (.lst []))) {RR:bYi->Nat->Result->bYl->Prop}
  (c3:∀D C F g,Inv X pins σ g F->g C=none->C≠X.env.locals->X.s₀.heap.objs.size<=C->(∀y c,X.env.cells.lookup y=some c->c≠C)->(∀p∈X.pn++pins,p.1≠C)->(∃m,F.heap.Ns C m)->Q (.ref D) g->RR (.ref D) C (.ok .next) F):
  bYq (bYs X.prog X.w) X.A (newList []) (λa6 s₃=>bYq (bYs X.prog X.w) X.A (newFunctionEnv sc X.env.globals cl [] X.env.qual none .none (some X.env)) (λY s₄=>
   cXw (bYs X.prog X.w) X.A (.compStart (.ListComp elt [⟨.Name x px,iter,ifs,0⟩] sc pos) 0 (.ref it) a6 {Y with scope:=relabel sc X.env}) (RR a6 Y.locals) s₄) E s₃) E s:=by
 refine cXe (wpAny_newFunctionEnv S.nocell (by intro y hy;simp at hy) (λt a3 a2=>?_) S.kind)
 dsimp only at a3 a2 ⊢
 have l:Inv X pins σ (upd H s.heap.objs.size (.lst [])) {s with heap:=s.heap.push {cls:= .type "list",dict:=none,data:= .seq ([]:List bYi).toArray} }:=I.lnew (t':=s.toks) (ys:= []) (its:= []) .nil (cQe _)
 have b3:=I.fresh
 obtain⟨W,⟨m0,w0⟩,turn⟩:=q s.heap.objs.size b3
 have a0:∀b∈f,∃o,s.heap.get? b=some o/\∀v,o.data≠ .cell v:=T.obj 0 _ st
 have hG:(s.heap.push {cls:= .type "list",dict:=none,data:= .seq ([]:List bYi).toArray}).objs.size=s.heap.objs.size+1:=cQQ ..
 have kG:∀b o,s.heap.get? b=some o->(s.heap.push {cls:= .type "list",dict:=none,data:= .seq ([]:List bYi).toArray}).get? b=some o:=λb o e=>bYm _ e
 generalize c9:s.heap.push {cls:= .type "list",dict:=none,data:= .seq ([]:List bYi).toArray}=G at a3 a2 l hG kG ⊢
 generalize c1:s.heap.objs.size=D at b3 turn w0 hG l ⊢
 have keep:∀b o,G.get? b=some o->t.get? b=some o:=λb o e=>a2.extBut b o (bYG (bYw e)) (bYm _ e)
 have a9:∀b∈f,b≠G.objs.size:=λb a=>by obtain⟨o,e,_⟩:=a0 b a;exact bYG (bYw (kG b o e))
 have a1:∀y c,X.env.cells.lookup y=some c->c≠G.objs.size:=λy c e=>by obtain⟨v,z⟩:=l.cell y c e;exact bYG z.lt
 have c5:(blk X (x::names) sc cl G.objs.size {s with heap:=G} (upd H D (.lst [])) f).Ok:=by
  refine⟨I.ok.mod,?_,I.ok.glob,I.ok.blt,bYp _,?_,?_,?_,I.ok.hd,I.ok.frames,.inl rfl,?_,l.bs,bYT I.ok.bsz l.sz,?_,?_,l.stack,l.stkFree⟩
  ·show(relabel sc X.env).kind= .function;exact S.kind
  ·exact λy z c h1 h2=>I.ok.inj y z c (d y c h1) (d z c h2)
  ·intro y hy;have b9:(relabel sc X.env).names.lookup y=some .cell\/(relabel sc X.env).names.lookup y=some .free:=hy;have R:(y,NameKind.cell)∈(relabel sc X.env).names\/(y,NameKind.free)∈(relabel sc X.env).names:=b9.imp cQL cQL;have c6:(y,NameKind.free)∈sc.names:=by
    rcases R with R|R
    ·obtain⟨⟨n,k⟩,hn,e⟩:=cQm.mp (show(y,NameKind.cell)∈sc.names.map _ from R);dsimp only at e;split at e
     ·rename_i M;cases e;have:k= .free:=by
       simp only[Bool.and_eq_true,beq_iff_eq]at M;exact M.1.1
      rw[this]at hn;exact hn
     ·cases e;exact absurd rfl (S.nocell _ hn)
    ·obtain⟨⟨n,k⟩,hn,e⟩:=cQm.mp (show(y,NameKind.free)∈sc.names.map _ from R);dsimp only at e;split at e
     ·cases e
     ·cases e;exact hn
   exact Z y c6
  ·exact λy c h _=>by cases h
  ·intro b a;exact⟨a9 b a,λy c e=>(hf b a).2.2.2.2.1 y c (d y c e)⟩
  ·intro b o e a;obtain⟨f0,f1,f2,f3,f4,f5⟩:=hf b a;rcases f3 with z|z
   ·exact I.ok.noex b o e z
   ·exact absurd (bYJ (bYw e) (bYT I.ok.bsz z)) (cQs _)
  ·intro b a z;obtain⟨f0,f1,f2,f3,f4,f5⟩:=hf b a;rcases bYr.mp (I.stkSub b z)with z|z
   ·exact f1 z
   ·exact f2 z
 have IY:Inv (blk X (x::names) sc cl G.objs.size {s with heap:=G} (upd H D (.lst [])) f) [] (sub σ fr none) (upd H D (.lst [])) {s with heap:=t,toks:=s.toks+([]:List (Str×bYi)).length}:=by
  refine⟨c5,rfl,I.bare,Un.kept keep,⟨_,a3,?_⟩,?_,l.hok.fresh (bYp _),λy c e=>l.freeC y c (d y c e),λp hp=>absurd (show p∈([]:List (Nat×Obj))from hp) (by simp),l.hok.kept keep,?_⟩
  ·intro i y v h1 h2 h3;cases i with
   |zero=>cases h2
   |succ j=>
    have c4:names[j]? =some y:=h1;obtain⟨i',e1,e2,e3⟩:=S.from_ j y c4;have c8:σ[i']? =some (some v):=by
     have z:(fr.map λi=>(σ[i]?).join)[j]? =some (some v):=h2;rw[bYC,e1]at z;have P:(σ[i']?).join=some v:=bYD z;cases q:σ[i']? with
     |none=>rw[q]at P;cases P
     |some o=>rw[q]at P;rw[show o=some v from P]
    obtain⟨m,hn,hl⟩:=l.loc;have b1:Vis X.env.scope y:= .inr (S.free _ e3 rfl);obtain⟨u,ru,lk⟩:=hl i' y v e2 c8 b1;refine⟨u,ru,.inr ⟨?_,?_⟩⟩
    ·exact aZz (S.flk _ e3 rfl)
    ·rcases lk with⟨k,_⟩|⟨k,c,e,z⟩
     ·rcases S.free _ e3 rfl with z|z
      ·have P:X.env.kindOf y=some .cell:=z;rw[k]at P;cases P
      ·have P:X.env.kindOf y=some .free:=z;rw[k]at P;cases P
     ·obtain⟨c',e'⟩:=Z y e3;have:=d y c' e';rw[e]at this;cases this;exact⟨c,e',z.keeps keep⟩
  ·intro y c e;obtain⟨v,z⟩:=l.cell y c (d y c e);exact⟨v,z.keeps keep⟩
  ·show(sub σ fr none).length=(x::names).length;simp[sub,S.len]
 have a7:∀ {o:Option V} {g:Hp} {F:bYl} {pl:List (Nat×Obj)},Inv (blk X (x::names) sc cl G.objs.size {s with heap:=G} (upd H D (.lst [])) f) pl (sub σ fr o) g F->Inv X pins σ g F:=λ{o g F pl} I'=>
  l.call' (ch:=f) I'.os I'.base I'.hok I'.bare λb a=>by obtain⟨f0,f1,f2,f3,f4,f5⟩:=hf b a;exact⟨f3,f1,f4,f5⟩
 have O:∀ {g:Hp},(∀b∈f,g b=none)->∀b∈f,bZu (blk X (x::names) sc cl G.objs.size {s with heap:=G} (upd H D (.lst [])) f) [] g b:=λ{g} hn b a=>by
  obtain⟨f0,f1,f2,f3,f4,f5⟩:=hf b a;refine⟨hn b a,a9 b a,λz=>?_,.inl a,λy c e=>f4 y c (d y c e),λp hp=>absurd (show p∈([]:List (Nat×Obj))from hp) (by simp)⟩;rcases bYr.mp (I.stkSub b z)with z|z
  ·exact f1 z
  ·exact f2 z
 have b8:∀b∈f,upd H D (.lst []) b=none:=λb a=>by
  obtain⟨o,e,_⟩:=a0 b a;have c2:b≠D:=by rw[<- c1];exact bYG (bYw e)
  rw[yI c2];exact(hf b a).1
 have b0:tn 0 t:=T.keep 0 _ _ st λb a o e=>keep b o (kG b o e)
 have b2:cXw (bYs X.prog X.w) X.A (.compLoop (.ListComp elt [⟨.Name x px,iter,ifs,0⟩] sc pos) 0 (.ref it) (.ref D) (compEnvC sc cl G.objs.size X.env)) (RR (.ref D) G.objs.size) {s with heap:=t,toks:=s.toks+([]:List (Str×bYi)).length}:=by
  refine bQ3 (λn F=>∃i B o g,Inv (blk X (x::names) sc cl G.objs.size {s with heap:=G} (upd H D (.lst [])) f) [] (sub σ fr o) g F/\tn i F.heap/\(∀b∈f,g b=none)/\W i n B g) ?_ m0
   ⟨0,[],none,_,IY,b0,b8,w0⟩
  rintro n F ⟨i,B,o,g,I',b4,a8,w'⟩;obtain⟨hD,b5⟩:=turn i n B g w';rcases b5 with⟨a5,qn⟩|⟨go,step⟩
  ·refine thn (T.done (blk X (x::names) sc cl G.objs.size {s with heap:=G} (upd H D (.lst [])) f) rfl rfl rfl hc i [] F _ g (λ_ _=>False) I' (O a8) b4 a5) λr s1 ⟨hr,I1⟩=>?_;subst hr;obtain⟨mC,c0,_⟩:=I1.loc;exact c3 D G.objs.size s1 g (a7 I1) I1.free (cXU l.lt) l.sz a1 (λp hp=>bYG (bYw (l.pin p hp).1)) ⟨mC,c0⟩ qn
  ·refine thn (T.item (blk X (x::names) sc cl G.objs.size {s with heap:=G} (upd H D (.lst [])) f) rfl rfl rfl hc i [] F _ g (λ_ _=>False) I' (O a8) b4 go) λr s1 ⟨u,hr,h1⟩=>?_;subst hr;refine thn h1 λ_ s2 ⟨v,H2,I2,rv,yl,st2,fr2⟩=>?_;have b7:=I2.pinned (O fr2) (T.obj _ _ st2);have pg:PG (blk X (x::names) sc cl G.objs.size {s with heap:=G} (upd H D (.lst [])) f) (.Name x px) (yW 0):=y9 S.nd rfl (.inl (lookup_relabel_local S.var)) (.inr (lookup_relabel_local S.var));have L:∀ {o:Option V} {H3:Hp} {s3:bYl},Inv (blk X (x::names) sc cl G.objs.size {s with heap:=G} (upd H D (.lst [])) f) ([]++aZx f s2.heap) (sub σ fr o) H3 s3->tn (i+1) s3.heap/\∀b∈f,H3 b=none:=λ{o H3 s3} J3=>by
    refine⟨T.keep _ _ _ st2 λb a ob e=>(J3.pin (b,ob) (bYF _ (bYF _ (jA a e)))).1,λb a=>?_⟩;obtain⟨ob,e,_⟩:=T.obj _ _ st2 b a;exact(J3.pin (b,ob) (bYF _ (bYF _ (jA a e)))).2.1
   refine thn (pg _ s2 _ H2 v u (λσ' b6=>σ'=sub σ fr (some v)/\b6=H2) b7 rv ⟨rfl,rfl⟩) λ_ s3 ⟨σ3,H3,I3',e3,e3'⟩=>?_;subst e3;subst e3';refine thn (c7 cl G.objs.size {s with heap:=G} (upd H D (.lst [])) f _ s3 _ _ _ I3' (step v _ yl)) λb s4 ⟨H4,I4,q4⟩=>?_;cases b with
   |false=>have a4:∃U,U<n/\W (i+1) U B H4:=q4;obtain⟨U,R,w4⟩:=a4;obtain⟨z1,z2⟩:=L I4;show ∃m,m<n/\_;exact⟨U,R,i+1,B,some v,H4,I4.unpinned,z1,z2,w4⟩
   |true=>have a4:te (sub σ fr (some v)) H4 λy H5=>B.length<bYI/\H5 D=some (.lst B)/\∃U,U<n/\W (i+1) U (B++ [y]) (upd H5 D (.lst (B++ [y]))):=q4;show bYq _ _ _ _ _ _;refine thn (he cl G.objs.size {s with heap:=G} (upd H D (.lst [])) f _ s4 _ _ _ I4 a4) λue s5 ⟨y,H5,I5,r5,hl,hD5,U,R,w5⟩=>?_;refine thn (xG _ s5 _ H5 (.ref D) [y] (.ref D) [ue] (λ_ H6=>H6=upd H5 D (.lst (B++ [y]))) I5 rfl (.cons r5 .nil) ⟨D,B,y,rfl,rfl,hD5,hl,rfl⟩) λ_ s6 ⟨_,H6,I6,_,e6⟩=>?_;subst e6;obtain⟨z1,z2⟩:=L I6;exact⟨U,R,i+1,B++ [y],some v,_,I6.unpinned,z1,z2,w5⟩
 exact codeAny_compStart_list b2 (T.self _ 0 _ _ _ b0 b2)
theorem aJf{sc:cXs}{x:Str}{names:List Str}{fr:List Nat}(S:xH X.N X.env.scope x names fr sc)(I:Inv X pins σ H s): ∃cl,closureFor sc X.env=pure cl/\(∀y c,cl.lookup y=some c->X.env.cells.lookup y=some c)/\(∀y,(y,NameKind.free)∈sc.names->∃c,cl.lookup y=some c):=by
 obtain⟨cl,f,g,_,b⟩:=aZ4 (env:=X.env) sc.names [] (λy a d=>I.ok.has y.1 (S.free y a d)) (λy c e=>by simp at e);exact⟨cl,f,g,b⟩
end
section
variable {X:Cx}{elt iter:Expr}{x:Str}{px:Pos}{ifs:List Expr}{sc:cXs}{pos:Pos}{names:List Str}{fr:List Nat}{wi:TI}{tif:TT}{te:TE}
theorem aQn(S:xH X.N X.env.scope x names fr sc)(j:X.calm=true)(G:PI X (.Name x px) iter wi)(f:∀cl C s H ex,bVU (blk X (x::names) sc cl C s H ex) ifs tif) (B:∀cl C s H ex,PE (blk X (x::names) sc cl C s H ex) elt te) (u:∀v,cJy iter X.env v=pure v:=by intro _;rfl):PE X (.ListComp elt [⟨.Name x px,iter,ifs,0⟩] sc pos) (tLc wi fr tif te):=by
 intro pins s σ H Q I h;obtain⟨cl,O,E,k⟩:=aJf S I;rw[eval_ListComp];refine cJH (use:=none) rfl u O S.kind S.loc (thn (G pins s σ H _ I h) λv V g=>thn g λi U c=>?_);obtain⟨W,R,tn,J,Y,rfl,n,T,M,z,q⟩:=c;refine bZI (RR:=λd C=>compPost (bYs X.prog X.w) X.A X.xe none (EP X pins σ Q) d C) S j E k f B n T M z q ?_;intro D C K y t g c l p L a P;obtain⟨m,a⟩:=a;exact⟨m,a,λZ r=>⟨.ref D,y,t.turned (t':=K.toks) (λb o F e=>(r.2 b F).trans e) g (bY0 (bY0 c)) (.inr l) p L,rfl,P⟩⟩
theorem aZy{i:Nat}{y:Str}{d c:Pos}(S:xH X.N X.env.scope x names fr sc)(F:X.calm=true)(hN:X.N.Nodup)(R:X.N[i]? =some y)(hl:X.env.scope.names.lookup y=some .local)(hi:PI X (.Name x px) iter wi)
  (p:∀cl C s H ex,bVU (blk X (x::names) sc cl C s H ex) ifs tif) (W:∀cl C s H ex,PE (blk X (x::names) sc cl C s H ex) elt te)
  (n:swapsWith (.ListComp elt [⟨.Name x px,iter,ifs,0⟩] sc pos) (some (.Name y d)) c.line X.env=pure true:=by rfl) (O:∀v,cJy iter X.env v=pure v:=by intro _;rfl):
  PS X (.Assign [.Name y d] (.ListComp elt [⟨.Name x px,iter,ifs,0⟩] sc pos) c) (bW8 (tLc wi fr tif te) (yW i)):=by
 intro pins s σ H D I h
 obtain⟨cl,c1,Y,G⟩:=aJf S I
 rw[exec_Assign_Name_used _ _ _ _ n]
 refine bYj (cZR (bYj ?_))
 show bYq _ X.A (do let _ <- comprehension (.ListComp elt [⟨.Name x px,iter,ifs,0⟩] sc pos) sc X.env _ (newList []) false (eval iter X.env) (some (assign (.Name y d) X.env))) _ _ s
 refine bYj (cQi (cJH (use:=some (assign (.Name y d) X.env)) (Q:=λ_ f=>SP X pins D .next f) rfl O c1 S.kind S.loc (thn (hi pins s σ H _ I h) λv s1 u=>thn u λE s2 g=>?_)) (λ_ f z=>bYn (bYn z)) λ_ _ e=>e)
 obtain⟨it,fp,tn,J,H1,rfl,M,T,st,V,q⟩:=g
 refine bZI (RR:=λl C=>compPost (bYs X.prog X.w) X.A X.xe (some (assign (.Name y d) X.env)) (λ_ f=>SP X pins D .next f) l C) S F Y G p W M T st V q ?_
 intro L C f U P u g K B h5 j z
 obtain⟨m,j⟩:=j
 show bYq _ X.A (assign (.Name y d) X.env (.ref L)) _ _ f
 refine wpAny_assign_Name (aQI P hN R (.inl hl) (v:= .ref L) rfl (λs'' I'' ⟨a,sb,r⟩=>?_) (.inr hl))
 have t:C≠a:=by
  rcases r with rfl|r
  ·exact g
  ·exact bY0 (B y a r)
 exact⟨m,j.sameBut sb t,λh' k=>⟨_,U,I''.turned (t':=s''.toks) (λb o Z e=>(k.2 b Z).trans e) u g (.inr K) B h5,z⟩⟩
end
theorem aZk{K:bYk}{a:Nat}{xs:List V}{fr:List Nat}{tif:TT}{te:TE}{σ:St}{D:Nat}{Q:VK}{H:Hp}(p:V->Bool)(f:V->V)(hl:SqL K H a xs)(r:H D=none)(hz:xs.length<=bYI) (u:∀v∈xs,∀ (c:Hp)(R:Bool->Hp->Prop),(∀b,b≠D->c b=H b)->R (p v) c->tif (sub σ fr (some v)) c R) (t:∀v∈xs,p v=true->∀ (c:Hp)(R:VK),(∀b,b≠D->c b=H b)->R (f v) c->te (sub σ fr (some v)) c R) (A:Q (.ref D) (upd H D (.lst ((xs.filter p).map f)))):bVL (Itl K a) fr tif te σ D Q (upd H D (.lst [])):=by
 have e:∀g,SqL K (upd H D (.lst g)) a xs:=λg=>by
  rcases hl with(h|⟨o,h⟩)|h
  ·exact .inl (.inl (by rw[yI (yJ h r)];exact h))
  ·exact .inl (.inr ⟨o,by rw[yI (yJ h r)];exact h⟩)
  ·exact .inr h
 refine⟨λi m g c=>m=xs.length - i/\i<=xs.length/\g=((xs.take i).filter p).map f/\c=upd H D (.lst g),⟨xs.length,by simp,cQe _,by simp,rfl⟩,?_⟩;rintro i m g c ⟨rfl,B,rfl,rfl⟩;refine⟨yB,?_⟩;by_cases d:i<xs.length
 ·refine .inr ⟨⟨xs,xs[i],e _,bYh d⟩,λv C w=>?_⟩;obtain⟨rfl,y⟩:=w;have s:xs[i]? =some v:=y xs (e _);have l:v∈xs:=bYA s;have j:xs.take (i+1)=xs.take i++ [v]:=by rw[cQw,s];rfl
  have k:∀b,b≠D->upd H D (.lst (((xs.take i).filter p).map f)) b=H b:=λb x=>yI x;have n:(((xs.take i).filter p).map f).length<bYI:=by rw[bYo];have z:=cQf p (xs.take i);rw[cQA]at z;omega
  refine u v l _ _ k ?_;cases q:p v with
  |false=>show ∃E,_;refine⟨xs.length - (i+1),by omega,rfl,d,?_,rfl⟩;rw[j,cQr,cQW (by rw[q];decide)];simp
  |true=>show te _ _ _;refine t v l q _ _ k ⟨n,yB,xs.length - (i+1),by omega,rfl,d,?_,by rw[uU]⟩;rw[j,cQr,cQX q];simp
 ·obtain rfl:i=xs.length:=by omega
  refine .inl ⟨⟨xs,e _,bYp _⟩,?_⟩;rw[cQn];exact A
end L2
namespace L2
open PySem
theorem lcM{N:List Str}{osc:Scope}{x:Str}{names:List Str}{fr:List Nat}{sc:Scope}(h:decide (sc.kind=.function/\(∀y∈sc.names,y.2≠.cell)/\(∀y∈sc.names,y.2=.local->sc.names.lookup y.1=some .local)/\sc.names.lookup x=some .local/\(∀y∈sc.names,y.2=.free->osc.names.lookup y.1=some .cell\/osc.names.lookup y.1=some .free)/\(∀y∈sc.names,y.2=.free->sc.names.lookup y.1=some .free)/\(x::names).Nodup/\fr.length=names.length/\∀p∈names.zip fr,N[p.2]?=some p.1/\(p.1,NameKind.free)∈sc.names)=true:=by decide +kernel):xH N osc x names fr sc:=
 have z:=of_decide_eq_true h;⟨z.1,z.2.1,z.2.2.1,z.2.2.2.1,z.2.2.2.2.1,z.2.2.2.2.2.1,z.2.2.2.2.2.2.1,z.2.2.2.2.2.2.2.1,z.2.2.2.2.2.2.2.2⟩
end L2
namespace Stb
open PySem
def bQv(xs:Array Nat):Prop:=∀i j:Nat,i<j->j<xs.size->xs.getD i 0<xs.getD j 0
theorem bJn{xs:Array Nat}{i:Nat}(h:i<xs.size)(d e:Nat):xs.getD i d=xs.getD i e:=by
 simp[cXK,h]
theorem aJb{xs:Array Nat}{j:Nat}(f:bQv xs):∀ (a c b:Nat),b<=xs.size->c<=b->b - c<=a->
  (∀k,k<c->xs.getD k 0<j)->(∀k,b<=k->k<xs.size->j<=xs.getD k 0)->
  (∀k,k<cZg xs j a c b->xs.getD k 0<j)/\(∀k,cZg xs j a c b<=k->k<xs.size->j<=xs.getD k 0)/\cZg xs j a c b<=xs.size
 |0,c,b,h1,h2,h3,h4,h5=>by
  have e:c=b:=by omega
  subst e;unfold cZg;exact⟨h4,h5,h1⟩
 |a+1,c,b,h1,h2,h3,h4,h5=>by
  unfold cZg;by_cases hl:c<b
  ·rw[if_pos hl];dsimp only;have h:(c+b) / 2<xs.size:=by omega
   have e:=bJn h j 0;by_cases i:xs.getD ((c+b) / 2) j<j
   ·rw[if_pos i];refine aJb f a _ _ h1 (by omega) (by omega) (λk l=>?_) h5;by_cases d:k=(c+b) / 2
    ·subst d;omega
    ·have:=f k ((c+b) / 2) (by omega) h;omega
   ·rw[if_neg i];refine aJb f a _ _ (by omega) (by omega) (by omega) h4 (λk l d=>?_);by_cases g:k=(c+b) / 2
    ·subst g;omega
    ·have:=f ((c+b) / 2) k (by omega) d;omega
  ·rw[if_neg hl];have e:c=b:=by omega
   subst e;exact⟨h4,h5,h1⟩
theorem uX{xs:Array Nat}(b:bQv xs)(j:Nat): (∀k,k<cQg xs j->xs.getD k 0<j)/\(∀k,cQg xs j<=k->k<xs.size->j<=xs.getD k 0)/\cQg xs j<=xs.size:=by
 unfold cQg;exact aJb b xs.size 0 xs.size (bYp _) (cQe _) (by omega) (λk a=>absurd a (cQ1 _)) (λk d c=>by omega)
theorem aVS{xs:Array Nat}(c:bQv xs){i:Nat}(d:i<xs.size):cQg xs (xs.getD i 0+1)=i+1:=by
 obtain⟨f,e,g⟩:=uX c (xs.getD i 0+1);have a:i<cQg xs (xs.getD i 0+1):=by apply Nat.lt_of_not_le;intro h;have:=e i h d;omega
 have b:¬i+1<cQg xs (xs.getD i 0+1):=λh=>by have q:=f (i+1) h;have:=c i (i+1) (by omega) (by omega);omega
 omega
theorem aVT{xs:Array Nat}(b:bQv xs):cQg xs 0=0:=by
 obtain⟨a,c,d⟩:=uX b 0;apply Nat.le_antisymm _ (cQe _);apply Nat.le_of_not_lt;intro h;have:=a 0 h;omega
theorem aXn{α:Type}(xs:Array α)(p:Nat)(x:α)(h:p<=xs.size):(cZh xs p x).size=xs.size+1:=by
 unfold cZh;simp;omega
theorem X7{xs:Array Nat}{p x k:Nat}(h:p<=xs.size):(cZh xs p x).getD k 0=if k<p then xs.getD k 0 else if k=p then x else xs.getD (k - 1) 0:=by
 unfold cZh;have d:(xs.extract 0 p).size=p:=by simp;omega
 have f:((xs.extract 0 p).push x).size=p+1:=by rw[Array.size_push,d]
 simp only[Array.getD_eq_getD_getElem?];by_cases c:k<p
 ·rw[if_pos c,cJp (by omega),Array.getElem?_push,if_neg (by omega),cJf (by omega)];have a:k<xs.size:=by omega
  simp[a]
 ·rw[if_neg c];by_cases b:k=p
  ·subst b;rw[if_pos rfl,cJp (by omega),Array.getElem?_push,if_pos (by omega)];rfl
  ·rw[if_neg b,Array.getElem?_append_right (by omega),f];by_cases g:k - (p+1)<xs.size - p
   ·rw[cJf (by omega)];have a:k - 1<xs.size:=by omega
    have e:p+(k - (p+1))=k - 1:=by omega
    simp[a,e]
   ·rw[cZa (by simp;omega),cZa (by omega)]
theorem aJB{xs:Array Nat}(e:bQv xs){j:Nat}(l:∀k,k<xs.size->xs.getD k 0≠j):bQv (cZh xs (cQg xs j) j):=by
 obtain⟨b1,f,c⟩:=uX e j;intro i k b h;rw[aXn _ _ _ c]at h;rw[X7 c,X7 c];by_cases d:i<cQg xs j
 ·rw[if_pos d];have v:=b1 i d;by_cases g:k<cQg xs j
  ·rw[if_pos g];exact e i k b (by omega)
  ·rw[if_neg g];by_cases a:k=cQg xs j
   ·rw[if_pos a];exact v
   ·rw[if_neg a];have:=f (k - 1) (by omega) (by omega);omega
 ·rw[if_neg d,if_neg (show ¬k<cQg xs j by omega),if_neg (show ¬k=cQg xs j by omega)];by_cases a:i=cQg xs j
  ·rw[if_pos a];have:=f (k - 1) (by omega) (by omega);have:=l (k - 1) (by omega);omega
  ·rw[if_neg a];exact e (i - 1) (k - 1) (by omega) (by omega)
theorem aWH(n:Nat):bQv (Array.range n):=by
 intro i j b a;rw[Array.size_range]at a;simp[cXK,a,Nat.lt_trans b a,b]
theorem aYs{l:List Nat}(h:l.Pairwise (·<·)):bQv l.toArray:=by
 intro i j c d;have a:j<l.length:=by simpa using d
 have b:i<l.length:=Nat.lt_trans c a;have:=cXL.mp h i j b a c;simp[cXK,a,b,this]
structure Tab(b:Bool)(t:cQ0):Prop where
 rise:bQv t.place
 dum:t.dummies= #[]
 led:b=true\/t.led=true
theorem aKy(j:Nat):SetTable.has #[] j=false:=by
 unfold SetTable.has;simp
theorem bX9{b:Bool}{t:cQ0}(T:Tab b t){j:Nat}(h:t.slot j= .empty):∀k,k<t.place.size->t.place.getD k 0≠j:=by
 intro k a e;obtain⟨b1,c,g⟩:=uX T.rise j;have f:cQg t.place j=k:=by
  have l:¬k<cQg t.place j:=λh=>by have:=b1 k h;omega
  have i:¬cQg t.place j<k:=λh=>by have:=c _ (bYp _) (by omega);have:=T.rise _ k h a;omega
  omega
 unfold SetTable.slot at h;dsimp only at h;rw[f]at h;have d:t.place[k]? =some j:=by
  rw[cQJ a];have:t.place.getD k 0=t.place[k]:=by simp[cXK,a]
  rw[<- this,e]
 rw[d]at h;simp at h
theorem bX8{b:Bool}{t:cQ0}(T:Tab b t)(j:Nat):t.slot j≠ .dummy:=by
 unfold SetTable.slot;dsimp only;rw[T.dum,aKy];split<;> simp
theorem aQ7{b:Bool}{t:cQ0}(T:Tab b t)(f:Nat->Int)(h:Int):∀ (a:Nat)(p:SetTable.Probe),p.dummy=none->∀j d,cJw t f h a p=some (.empty j d)->t.slot j= .empty/\d=none
 |0,p,_,j,d,e=>by unfold cJw at e;cases e
 |a+1,p,hp,j,d,e=>by
  have c:(t.advance p).dummy=none:=by
   unfold SetTable.advance;split
   ·exact hp
   ·exact hp
  unfold cJw at e;cases q:t.slot p.j with
  |empty=>rw[q]at e;simp only[cJu,SetTable.Met.empty.injEq]at e;obtain⟨rfl,rfl⟩:=e;exact⟨q,hp⟩
  |dummy=>exact absurd q (bX8 T _)
  |live i=>
   rw[q]at e;dsimp only at e;split at e
   ·cases e
   ·exact aQ7 T f h a _ c j d e
theorem v9{b:Bool}{t:cQ0}(T:Tab b t)(n:Nat):Tab b (t.standIn n):=⟨aWH n,rfl,T.led⟩
theorem aWd{b:Bool}{t:cQ0}(T:Tab b t)(l:Array (Int×bYi))(h:Int)(x:bYi):Tab b (layNew t l h x).2.1:=by
 unfold layNew;cases q:t.freeSlot h with
 |none=>exact v9 T _
 |some k=>
  obtain⟨a,m⟩:=k;dsimp only;have i:t.slot a= .empty:=by
   unfold SetTable.freeSlot at q;split at q
   ·rename_i j d e;simp only[cJu,Prod.mk.injEq]at q;obtain⟨f,g⟩:=aQ7 T _ h _ _ rfl j d e;rw[<- q.1,g];exact f
   ·cases q
  have c:Tab b (t.put a).1:=by unfold SetTable.put;dsimp only;refine⟨aJB T.rise (bX9 T i),?_,T.led⟩;rw[T.dum,aKy];rfl
  unfold SetTable.orStandIn;split
  ·exact c
  ·exact v9 c _
theorem aZA{b:Bool}{t:cQ0}(T:Tab b t)(i:Array (Int×bYi))(c:Nat):Tab b (relayAll t i c).2.1:=by
 unfold relayAll;cases q:t.relaid (i.map (·.1)) c with
 |none=>exact v9 T _
 |some r=>
  obtain⟨o,g⟩:=r;dsimp only;have n:Tab b o:=by
   unfold SetTable.relaid SetTable.laid at q;simp only[Option.bind_eq_bind,Option.bind_eq_some_iff]at q;obtain⟨d,_,e⟩:=q;simp only[Option.pure_def,cJu,Prod.mk.injEq]at e;obtain⟨rfl,_⟩:=e;refine⟨aYs ?_,rfl,T.led⟩;rw[List.map_filterMap];have sub:∀ (f:Nat->Option Nat),(∀j k,f j=some k->k=j)->∀l:List Nat,List.Sublist (l.filterMap f) l:=by
    intro f m l;induction l with
    |nil=>exact List.Sublist.slnil
    |cons a r h=>
     rw[cX0];cases e:f a with
     |none=>exact h.cons a
     |some k=>rw[m a k e];exact h.cons_cons a
   refine List.Pairwise.sublist (sub _ ?_ _) List.pairwise_lt_range;intro j k e;cases q:d.getD j none with
   |none=>rw[q]at e;cases e
   |some z=>rw[q]at e;simpa using e.symm
  split
  ·exact n
  ·exact v9 T _
theorem bQo{b a:Bool}(h:b=true\/a=true):Tab b (.fresh 0 0 a):=⟨λi j d c=>absurd c (cQ1 _),rfl,h⟩
end Stb
namespace Stb
open PySem
def Ent(a:List Int)(b:List (Int×bYi)):Prop:=cQc (λ(k:Int)(e:Int×bYi)=>e.1=hashInt k/\∃t,e.2=Value.int k t) a b
theorem Ent.mem_l:∀ {b:List Int} {c:List (Int×bYi)},Ent b c->∀k∈b,∃e∈c,∃t,e.2=Value.int k t
 |_,_,.nil,k,a=>by cases a
 |_,_,.cons r t,k,a=>by
  rcases bYr.mp a with rfl|a
  ·exact⟨_,bYx ..,r.2⟩
  ·obtain⟨e,d,z⟩:=Ent.mem_l t k a;exact⟨e,bYt _ d,z⟩
theorem Ent.mem_r:∀ {b:List Int} {c:List (Int×bYi)},Ent b c->∀e∈c,∃k∈b,e.1=hashInt k/\∃t,e.2=Value.int k t
 |_,_,.nil,e,a=>by cases a
 |_,_,.cons r t,e,a=>by
  rcases bYr.mp a with rfl|a
  ·exact⟨_,bYx ..,r⟩
  ·obtain⟨k,d,z⟩:=Ent.mem_r t e a;exact⟨k,bYt _ d,z⟩
theorem Ent.elems{prog:bYE}{w:bYK}{d:List Int}{b:List (Int×bYi)}(h:Ent d b):ElemsOf (intKind prog w) b:=λe c=>by
 obtain⟨k,_,f,t,a⟩:=h.mem_r e c;refine⟨⟨k,?_,f⟩,?_⟩
 ·rw[a];exact intKind_is prog w k t
 ·rw[a];rfl
theorem Ent.length{a:List Int}{b:List (Int×bYi)}(h:Ent a b):a.length=b.length:=cXH h
theorem Ent.append:∀ {a ls:List Int} {b fs:List (Int×bYi)},Ent a b->Ent ls fs->Ent (a++ls) (b++fs)
 |_,_,_,_,.nil,s=>s
 |_,_,_,_,.cons r t,s=> .cons r (Ent.append t s)
theorem Ent.perm{g fs:List (Int×bYi)}(p:cJl g fs):∀ {a:List Int},Ent a g->∃b,Ent b fs/\b.Perm a:=by
 induction p with
 |nil=>exact λ{a} h=>⟨a,h,.rfl⟩
 |cons x p i=>
  intro a h;cases h with
  |cons r t=>obtain⟨b,f,d⟩:=i t;exact⟨_::b,.cons r f,d.cons _⟩
 |swap x y l=>
  intro a h;cases h with
  |cons r t=>
   cases t with
   |cons m o=>exact⟨_::_::_,.cons m (.cons r o),.swap ..⟩
 |trans p q e c=>intro a h;obtain⟨b,f,d⟩:=e h;obtain⟨n,j,k⟩:=c f;exact⟨n,j,k.trans d⟩
abbrev aZ2(w:bYK):Bool:=w.params.followText "set-order"
def aQO(w:bYK)(h:Heap)(a:Nat)(d:List Int):Prop:=
 ∃o b e t c,h.get? a=some o/\o.ExactSet/\o.data= .set b e t/\Ent c b.toList/\c.Perm d/\d.Nodup/\b.size<cZK/\t.fits b.size=true/\Tab (aZ2 w) t
theorem aQO.at{w:bYK}{h h':Heap}{a:Nat}{b:List Int}(x:aQO w h a b)(k:∀o,h.get? a=some o->h'.get? a=some o):aQO w h' a b:=
 let ⟨o,es,ep,t,ls,ho,r⟩:=x;⟨o,es,ep,t,ls,k o ho,r⟩
theorem aQO.there{w:bYK}{h:Heap}{a:Nat}{b:List Int}(x:aQO w h a b):∃o,h.get? a=some o:=
 let ⟨o,es,ep,t,ls,ho,r⟩:=x;⟨o,ho⟩
theorem aQO.type{w:bYK}{s:bYl}{a:Nat}{b:List Int}(x:aQO w s.heap a b):s.TypeIs (.ref a) "set":=
 let ⟨o,es,ep,t,ls,ho,he,r⟩:=x;⟨o,ho,he.1⟩
theorem aYo{h:Heap}{a:Nat}{o:Obj}{f:Array (Int×bYi)}{c:Nat}{t:cQ0}(e:h.get? a=some o)(d:o.data= .set f c t)(b:Array (Int×bYi))(t':cQ0): (h.update a (Obj.putSet b t')).get? a=some {o with data:= .set b (c+1) t'}:=by
 have q:=cQk (Obj.putSet b t') e (by rw[putSet_of b t' d];rfl);rw[putSet_of b t' d]at q;exact q
section
variable {prog:bYE}{w:bYK}{A:bYW}{E:bYi->bYl->Prop}{s:bYl}
theorem aKx{b:Bool}{Q:Unit->bYl->Prop}(h:Q () s):bYq (bYs prog w) A (match b with|true=>rule "set.scan.the-table-gave-way"|false=>pure ()) Q E s:=by
 cases b
 ·exact bYn h
 ·exact wpAny_rule h
theorem bVY{a:Nat}{p:List Int}{k:Int}{tk:Tok}{Q:Bool->bYl->Prop}(hS:aQO w s.heap a p)(a7:p.length+1<cZK) (h:∀n b,cXi a s.heap n->aQO w n a (if k∈p then p else p++ [k])->Q b {s with heap:=n}): bYq (bYs prog w) A (setAddHashed a (.int k tk) (hashInt k)) Q E s:=by
 obtain⟨o,D,ep,t,ls,O,K,U,l,R,Z,hb,hf,hT⟩:=hS;have Y:=l.elems (prog:=prog) (w:=w);have a8:D.size=p.length:=by rw[<- cQD,<- l.length,R.length_eq]
 unfold setAddHashed setAddHashedIn;refine cQB (bYj (cXJ O U hf ?_));dsimp only;rw[byScan_of (knd:=intKind prog w) rfl hb Y];simp only[↓reduceIte];unfold setAddByScan;refine bYj ?_;refine bYj (wpAny_rule ?_);refine bYj (wpAny_setScan_of (knd:=intKind prog w) (k:=k) (intKind_is prog w k tk) O U hf Y ?_);cases hr:List.findIdx? (λe=>(intKind prog w).is k e.2) D.toList with
 |some j=>
  dsimp only;obtain⟨hj,W,_⟩:=List.findIdx?_eq_some_iff_getElem.mp hr;have v:k∈p:=by
   obtain⟨k',a5,_,t',e'⟩:=l.mem_r _ (cXj hj);rw[e']at W;have:k=k':=by have z:(k'==k)=true:=W;exact(beq_iff_eq.mp z).symm
   rw[this];exact R.mem_iff.mp a5
  refine bYn (bYn ?_);have q:=h s.heap false (Heap.SameBut.refl a s.heap) (by rw[if_pos v];exact⟨o,D,ep,t,ls,O,K,U,l,R,Z,hb,hf,hT⟩);exact q
 |none=>
  dsimp only;have v:k∉p:=λz=>by obtain⟨e,he,t',e'⟩:=l.mem_l k (R.mem_iff.mpr z);have q:=List.findIdx?_eq_none_iff.mp hr e he;rw[e',intKind_is]at q;cases q
  rw[if_neg v]at h;have a0:(p++ [k]).Nodup:=by rw[cXI];exact⟨Z,cQF ..,λx hx y hy=>by rw[bYz.mp hy];rintro rfl;exact v hx⟩
  have d:=layNew_perm t D (hashInt k) (.int k tk);have f:=layNew_fits t D (hashInt k) (.int k tk);have i:=aWd hT D (hashInt k) (.int k tk);generalize hL:layNew t D (hashInt k) (.int k tk)=L at d f i ⊢;obtain⟨c,X,m,a9⟩:=L;dsimp only at d f i ⊢;rw[Array.toList_push]at d;obtain⟨P,C,a4⟩:=(l.append (ls:= [k]) (fs:= [(hashInt k,.int k tk)]) (.cons ⟨rfl,tk,rfl⟩ .nil)).perm d.symm;have H:P.Perm (p++ [k]):=a4.trans (R.append_right [k]);have B:c.size<cZK:=by rw[<- cQD,d.length_eq,bYM,cQD];simpa using (by omega:D.size+1<cZK)
  have F:∀g:cQ0,g.fits c.size=true->Tab (aZ2 w) g->
    bYq (bYs prog w) A (do
     storeSet a c g
     if(!m && g.tooFull)=true then do
       (match(relayAll g c (cXQ c.size)).2.2 with|true=>rule "set.scan.the-table-gave-way"|false=>pure ())
       storeSet a (relayAll g c (cXQ c.size)).1 (relayAll g c (cXQ c.size)).2.1
       pure (some true)
      else pure (some true)) (λr s'=>∃n,r=some true/\s'= {s with heap:=n}/\cXi a s.heap n/\aQO w n a (p++ [k])) E s:=by
   intro g a6 V
   refine bYj (wpAny_storeSet_of O U ?_ (cJx B))
   have G:=cQK s.heap a (Obj.putSet c g)
   have I:=aYo O U c g
   split
   ·have u:=relayAll_perm g c (cXQ c.size);have N:=relayAll_fits g c (cXQ c.size);have M:=aZA V c (cXQ c.size);generalize b0:relayAll g c (cXQ c.size)=Rl at u N M ⊢;obtain⟨J,t3,a2⟩:=Rl;dsimp only at u N M ⊢;obtain⟨a1,S,a3⟩:=C.perm u.symm;have T:J.size=c.size:=by rw[<- cQD,u.length_eq,cQD]
    refine bYj (aKx ?_);refine bYj (wpAny_storeSet_of I rfl ?_ (cJx (by rw[T];exact B)));refine bYn ⟨_,rfl,rfl,G.trans (cQK _ a _),_,J,_,t3,a1,aYo I rfl J t3,K,rfl,S,a3.trans H,a0,by rw[T];exact B,N,M⟩
   ·exact bYn ⟨_,rfl,rfl,G,_,c,_,g,P,I,K,rfl,C,H,a0,B,a6,V⟩
  have done:∀ (r:Option Bool)(s':bYl),(∃n,r=some true/\s'= {s with heap:=n}/\cXi a s.heap n/\aQO w n a (p++ [k]))->
    bYq (bYs prog w) A (match r with|some added=>pure added|none=>setAddHashedIn a (.int k tk) (hashInt k) 99999) Q E s':=by
   rintro r s' ⟨n,rfl,rfl,h1,h2⟩
   exact bYn (h n true h1 h2)
  refine bYj (aKx ?_);split
  ·refine bYj ?_;rw[hashByValue_scannable 8 (show(Value.int k tk).scannable=true from rfl)];refine bYn ?_;have e:(if plainKind (Value.int k tk)=true then X else {X with plain:=false})=X:=rfl;rw[e];exact cQi (F X f i) done λ_ _ z=>z
  ·refine bYj (bYn ?_);simp only[↓reduceIte];exact cQi (F X f i) done λ_ _ z=>z
end
end Stb
namespace Stb
open PySem
theorem zD:Slot "set_iterator" "__next__" "set_iterator.__next__":=
 .of (owner:="set_iterator") (n:="__next__") (by rw[typeLookup_type,cZX];kernel_rfl) dk dk dk
  (by first|exact .inl dk|exact .inr dk) (by rw[isSubtype_type];kernel_rfl)
theorem uY:entryFor table "set_iterator.__next__"=some cQ2.«set_iterator.__next__»:=entryFor_of_tree (by kernel_rfl)
theorem aVl:Manifest.owners.lookup (String.ofList ['r', 'o', 't', 'a', 'r', 'e', 't', 'i', '_', 't', 'e', 's'].reverse)=some Manifest.sig_set_iterator:=by kernel_rfl
theorem qF(a:bYi):argsOk "set_iterator.__next__" ⟨[a],[]⟩:=by
 unfold argsOk;rw[signature?_of (id:="set_iterator.__next__") (n:= ['_', '_', 't', 'x', 'e', 'n', '_', '_']) (o:= ['r', 'o', 't', 'a', 'r', 'e', 't', 'i', '_', 't', 'e', 's']) (by kernel_rfl) aVl];kernel_rfl
theorem aV5:entryFor table "set.__iter__"=some cQ2.«frozenset.__iter__»:=
 entryFor_alias (id':="frozenset.__iter__") (by kernel_rfl) rfl dk (by kernel_rfl)
theorem Z3:Slot "set_iterator" "__iter__" "set_iterator.__iter__":=
 .of (owner:="set_iterator") (n:="__iter__") (by rw[typeLookup_type,cZX];kernel_rfl) dk dk dk
  (by first|exact .inl dk|exact .inr dk) (by rw[isSubtype_type];kernel_rfl)
def uF(first:bYi)(i:Nat)(a:Nat)(n b:Nat):Obj:={cls:= .type "set_iterator",data:= .fields #[first,.int i 0,.ref a,.int n 0,.int b 0] }
section
variable {prog:bYE}{w:bYK}{A:bYW}{E:bYi->bYl->Prop}{s:bYl}
theorem bQm{I:Nat}{Q:Option bYi->bYl->Prop}{h₁:Heap}(h:A.handled=none)(g:cZQ I s.heap h₁)(i:∀d,cZQ I s.heap d->Q none {s with heap:=d}):
  bYq (bYs prog w) A.in1 (do raiseNew (<- newExc (.type "StopIteration") []):Sem PySem.Fin) (λf c=>∃r,f= .done (.ret r)/\bYq (bYs prog w) A (pure (some r)) Q E c)
   (λe c=>bYq (bYs prog w) A (do if <- cZ6 e (.type "StopIteration")then pure none else throw e) Q E c) {s with heap:=h₁}:=by
 refine bYj ?_
 simp only[newExc,newTuple]
 refine bYj (cXe ?_ (by size_fits))
 refine bYj (m:=firstArgMember _ _) (wpAny_of_eq (a:=Value.none) (by first|rfl|(simp only[firstArgMember];rfl)) ?_)
 refine cXe ?_ (by size_fits)
 simp only[raiseNew]
 refine bYj (wpAny_handled ?_)
 rw[show A.in1.handled=none from h]
 refine bYj (bYn (wpAny_throw ?_))
 refine bYj (wpAny_isInstance (T:="StopIteration") (b:=true) ⟨_,bYL _ rfl,rfl⟩ isSubtype_stop ?_)
 exact bYn (i _ ((g.push _).push _))
theorem aKW{I a:Nat}{o:Obj}{f:Array (Int×bYi)}{d:Nat}{t:cQ0}{b i nx:Nat}{x:bYi}{Q:Option bYi->bYl->Prop} (r:s.heap.get? a=some o) (l:o.data= .set f d t) (n:t.fits f.size=true) (e:s.heap.get? I=some (uF (.int b 0) i a f.size d)) (u:∀ (k:Option (bYi×Nat)->bYl->Prop)(m:bYi->bYl->Prop)(q:bYW),k (some (x,nx)) s->bYq (bYs prog w) q (setNext a b i d) k m s) (p:∀g,g.get? I=some (uF (.int nx 0) (i+1) a f.size d)->cXi I s.heap g->Q (some x) {s with heap:=g}):bYq (bYs prog w) A (pyNext (.ref I)) Q E s:=by
 have j:s.TypeIs (.ref I) "set_iterator":=⟨_,e,rfl⟩;unfold pyNext;refine bYj (cZy (cX3 (name:=cZH "__next__") j zD (cQ8 zD j uY ?_ (qF _))));unfold cQ2.«set_iterator.__next__»;refine bYj (bYn ?_);refine bYj (cJi e rfl ?_);show bYq _ _ (setEntries a >>=_) _ _ s;refine bYj (cX2 r l n ?_);rw[if_neg (by simp)];show bYq _ _ (setNext a ((b:Int)).toNat ((i:Int)).toNat ((d:Int)).toNat >>=_) _ _ s;rw[bYU,bYU,bYU];refine bYj (u _ _ _ ?_);show bYq _ _ (setField (.ref I) 0 (cQy nx) >>=_) _ _ s;refine bYj (cXl e rfl (by simp) ?_);have c:=cQk (cQx (·.setIfInBounds 0 (cQy (nx:Int)))) e (cQE (cQH rfl _));refine bYj (cXl c rfl (by simp) (bYn ⟨x,rfl,bYn (p _ ?_ ((cQK ..).trans (cQK ..)))⟩));have h:=cQk (cQx (·.setIfInBounds 1 (cQy ((i:Int)+1)))) c (cQE (cQH rfl _));exact h
end
end Stb
namespace Stb
open PySem
section
variable {prog:bYE}{w:bYK}{A:bYW}{E:bYi->bYl->Prop}{s:bYl}
theorem bQH{I a:Nat}{o:Obj}{e:Array (Int×bYi)}{c:Nat}{t:cQ0}{b i:Nat}{Q:Option bYi->bYl->Prop}(p:A.handled=none) (q:s.heap.get? a=some o) (j:o.data= .set e c t) (l:t.fits e.size=true) (d:s.heap.get? I=some (uF (.int b 0) i a e.size c)) (r:∀ (h:Option (bYi×Nat)->bYl->Prop)(k:bYi->bYl->Prop)(n:bYW),h none s->bYq (bYs prog w) n (setNext a b i c) h k s) (m:∀g,cZQ I s.heap g->Q none {s with heap:=g}):bYq (bYs prog w) A (pyNext (.ref I)) Q E s:=by
 have f:s.TypeIs (.ref I) "set_iterator":=⟨_,d,rfl⟩;unfold pyNext;refine bYj (cZy (cX3 (name:=cZH "__next__") f zD (cQ8 zD f uY ?_ (qF _))));unfold cQ2.«set_iterator.__next__»;refine bYj (bYn ?_);refine bYj (cJi d rfl ?_);show bYq _ _ (setEntries a >>=_) _ _ s;refine bYj (cX2 q j l ?_);rw[if_neg (by simp)];show bYq _ _ (setNext a ((b:Int)).toNat ((i:Int)).toNat ((c:Int)).toNat >>=_) _ _ s;rw[bYU,bYU,bYU];refine bYj (r _ _ _ ?_);show bYq _ _ (setField (.ref I) 2 .none >>=_) _ _ s;refine bYj (cXl d rfl (by simp) ?_);exact bQm p (cQK ..).extBut m
theorem bQQ{h:Heap}{I:Nat}{f:bYi}{i:Nat}{a:Nat}{n b:Nat}(c:h.get? I=some (uF f i a n b)): (h.update I (cQx (·.setIfInBounds 1 (cQy ((i:Int)+1))))).get? I=some (uF f (i+1) a n b):=by
 have q:=cQk (cQx (·.setIfInBounds 1 (cQy ((i:Int)+1)))) c (cQE (cQH (o:=uF f i a n b) rfl _));rw[q];rfl
theorem bQP{h:Heap}{I:Nat}{f:bYi}{i:Nat}{a:Nat}{n b:Nat}(c:h.get? I=some (uF f i a n b)): (h.update I (cQx (·.setIfInBounds 0 (cQy (0:Int))))).get? I=some (uF (.int 0 0) i a n b):=by
 have q:=cQk (cQx (·.setIfInBounds 0 (cQy (0:Int)))) c (cQE (cQH (o:=uF f i a n b) rfl _));rw[q];rfl
theorem aWn{I a p:Nat}{o:Obj}{b:Array (Int×bYi)}{g:Nat}{t:cQ0}{i j:Nat}{pl:Array bYi}{op:Obj}{c:Nat}{e:Int×bYi}{Q:Option bYi->bYl->Prop} (q:s.heap.get? a=some o) (l:o.data= .set b g t) (m:t.fits b.size=true) (d:s.heap.get? I=some (uF (.ref p) i a b.size g)) (r:s.heap.get? p=some op) (k:op.data= .seq pl c) (x:pl[i]? =some (.int j 0)) (u:b[j]? =some e) (v:∀h,h.get? I=some (uF (.ref p) (i+1) a b.size g)->cXi I s.heap h->Q (some e.2) {s with heap:=h}):bYq (bYs prog w) A (pyNext (.ref I)) Q E s:=by
 have n:s.TypeIs (.ref I) "set_iterator":=⟨_,d,rfl⟩;unfold pyNext;refine bYj (cZy (cX3 (name:=cZH "__next__") n zD (cQ8 zD n uY ?_ (qF _))));unfold cQ2.«set_iterator.__next__»;refine bYj (bYn ?_);refine bYj (cJi d rfl ?_);show bYq _ _ (setEntries a >>=_) _ _ s;refine bYj (cX2 q l m ?_);rw[if_neg (by simp)];show bYq _ _ (seqItems? (.ref p) >>=_) _ _ s;refine bYj (wpAny_seqItems r k ?_);dsimp only;simp only[bYU,x];refine bYj ?_;unfold setNextDrawn;refine bYj (cXJ q l m ?_);dsimp only;rw[if_neg (by simp)];obtain⟨y,ex⟩:=e;rw[u];refine bYn ?_;have f:=bQQ d;refine bYj (cXl d rfl (by simp) ?_);refine bYn ⟨ex,rfl,?_⟩;refine bYn ?_;exact v _ f (cQK s.heap I _)
theorem aKt{I a p:Nat}{o:Obj}{e:Array (Int×bYi)}{g:Nat}{t:cQ0}{i:Nat}{pl:Array bYi}{op:Obj}{c:Nat}{Q:Option bYi->bYl->Prop}(r:A.handled=none) (u:s.heap.get? a=some o) (k:o.data= .set e g t) (n:t.fits e.size=true) (b:s.heap.get? I=some (uF (.ref p) i a e.size g)) (m:s.heap.get? p=some op) (f:op.data= .seq pl c) (v:pl[i]? =none) (q:∀j,cZQ I s.heap j->Q none {s with heap:=j}):bYq (bYs prog w) A (pyNext (.ref I)) Q E s:=by
 have h:s.TypeIs (.ref I) "set_iterator":=⟨_,b,rfl⟩;unfold pyNext;refine bYj (cZy (cX3 (name:=cZH "__next__") h zD (cQ8 zD h uY ?_ (qF _))));unfold cQ2.«set_iterator.__next__»;refine bYj (bYn ?_);refine bYj (cJi b rfl ?_);show bYq _ _ (setEntries a >>=_) _ _ s;refine bYj (cX2 u k n ?_);rw[if_neg (by simp)];show bYq _ _ (seqItems? (.ref p) >>=_) _ _ s;refine bYj (wpAny_seqItems m f ?_);dsimp only;simp only[bYU,v];refine bYj (cXl b rfl (by simp) ?_);have d:=bQP b;refine bYj (cXl d rfl (by simp) ?_);have l:=(cQK s.heap I (cQx (·.setIfInBounds 0 (cQy (0:Int))))).trans (cQK _ I (cQx (·.setIfInBounds 2 Value.none)));exact bQm (s:=s) r l.extBut q
theorem qY{α:Type}:∀ {l:List α} {i:Nat} (h:i<l.length),cJl (l[i]::l.eraseIdx i) l
 |x::r,0,_=> .rfl
 |x::r,i+1,h=>by have a:=qY (l:=r) (i:=i) (by simpa using h);exact(List.Perm.swap ..).trans (a.cons x)
theorem aZw{α:Type}(f:Nat->Nat):∀ (a k:Nat)(left:List α)(out:Array α),left.length=a->cJl (cZo.go f a k left out).toList (out.toList++left)
 |0,k,left,out,h=>by have e:left= []:=List.length_eq_zero_iff.mp h;subst e;unfold cZo.go;rw[cQu]
 |a+1,k,left,out,h=>by unfold cZo.go;have b:f k % left.length<left.length:=Nat.mod_lt _ (by omega);rw[bYh b];dsimp only;refine(aZw f a (k+1) _ _ (by rw[List.length_eraseIdx,if_pos b];omega)).trans ?_;rw[Array.toList_push,cXu,List.singleton_append];exact(qY b).append_left _
theorem bZs{a:Nat}{o:Obj}{b:Array (Int×bYi)}{c:Nat}{t:cQ0}{Q:Array (Int×bYi)->bYl->Prop}(e:s.heap.get? a=some o)(d:o.data= .set b c t)(f:t.fits b.size=true) (g:aZ2 w=true) (h:Q (cZo (w.params.setOrder a c) b) s):bYq (bYs prog w) A (setWalk a) Q E s:=by
 unfold setWalk setsByText;refine bYj (cXJ e d f ?_);dsimp only;refine bYj (bYj (cXZ (bYn ?_)));show bYq (bYs prog w) A (if aZ2 w=true then _ else _) Q E s;rw[if_pos g];exact bYj (cXZ (bYn h))
theorem aKX{a:Nat}{o:Obj}{d:Array (Int×bYi)}{c:Nat}{t:cQ0}{b i:Nat}{Q:Option (bYi×Nat)->bYl->Prop}(g:s.heap.get? a=some o)(f:o.data= .set d c t) (j:t.fits d.size=true) (k:aZ2 w=true) (h:Q (((cZo (w.params.setOrder a c) d)[i]?).map λe=>(e.2,b)) s):bYq (bYs prog w) A (setNext a b i c) Q E s:=by
 unfold setNext setsByText;refine bYj (cXJ g f j ?_);dsimp only;refine bYj (bYj (cXZ (bYn ?_)));show bYq (bYs prog w) A (if aZ2 w=true then _ else _) Q E s;rw[if_pos k];rw[if_neg (by simp)];exact bYj (bZs g f j k (bYn h))
theorem bQ8{a:Nat}{o:Obj}{c:Array (Int×bYi)}{e:Nat}{t:cQ0}{b i:Nat}{Q:Option (bYi×Nat)->bYl->Prop}(g:s.heap.get? a=some o)(f:o.data= .set c e t)
  (k:t.fits c.size=true) (l:aZ2 w=false) (d:(!t.plain && decide (c.size > 1))=false) (hl:t.led=true)
  (h:Q (match c[cQg t.place b]?,t.place[cQg t.place b]? with|some (_,x),some j=>some (x,j+1)|_,_=>none) s):bYq (bYs prog w) A (setNext a b i e) Q E s:=by
 unfold setNext setsByText
 refine bYj (cXJ g f k ?_)
 dsimp only
 refine bYj (bYj (cXZ (bYn ?_)))
 show bYq (bYs prog w) A (if aZ2 w=true then _ else _) Q E s
 rw[l,if_neg (by decide)]
 show bYq (bYs prog w) A (if(!t.plain && decide (c.size > 1))=true then _ else _) Q E s
 rw[d,if_neg (by decide)]
 refine bYj ?_
 show bYq (bYs prog w) A (if(!t.led && !c.isEmpty)=true then _ else _) _ E s
 rw[hl]
 simp only[Bool.not_true,Bool.false_and,Bool.false_eq_true,↓reduceIte]
 exact bYn (bYn h)
end
end Stb
namespace Stb
open PySem
def aXU(a:List Int)(vs:List bYi):Prop:=cQc (λ(k:Int)(v:bYi)=>∃t,v=Value.int k t) a vs
theorem Ent.vals:∀ {a:List Int} {b:List (Int×bYi)},Ent a b->aXU a (b.map (·.2))
 |_,_,.nil=> .nil
 |_,_,.cons r t=> .cons r.2 (Ent.vals t)
theorem bQ2{α:Type}{xs ys:List α}(hl:xs.length=ys.length)(h:∀ (j:Nat)(x:α),xs[j]? =some x->ys[j]? =some x):xs=ys:=by
 apply cXv;intro i;cases e:xs[i]? with
 |some x=>exact(h i x e).symm
 |none=>have:=cJA.mp e;exact(cJA.mpr (by omega)).symm
theorem X5{α β:Type}{f:α->Option β}:∀ {l:List α} (h:∀x∈l,(f x).isSome=true) (i:Nat),(l.filterMap f)[i]? =l[i]?.bind f
 |[],_,i=>by simp
 |x::r,h,i=>by
  obtain⟨y,e⟩:=Option.isSome_iff_exists.mp (h x (bYx ..));rw[List.filterMap_cons_some e];cases i with
  |zero=>simp[e]
  |succ i=>simpa using X5 (λz a=>h z (bYt _ a)) i
theorem aXk:entryFor table "set_iterator.__iter__"=some cQ2.«dict_keyiterator.__iter__»:=
 entryFor_alias (id':="dict_keyiterator.__iter__") (by kernel_rfl) rfl dk (by kernel_rfl)
theorem aXW(a:bYi):argsOk "set_iterator.__iter__" ⟨[a],[]⟩:=by
 unfold argsOk;rw[signature?_of (id:="set_iterator.__iter__") (n:= ['_', '_', 'r', 'e', 't', 'i', '_', '_']) (o:= ['r', 'o', 't', 'a', 'r', 'e', 't', 'i', '_', 't', 'e', 's']) (by kernel_rfl) aVl];kernel_rfl
section
variable {prog:bYE}{w:bYK}{A:bYW}{E:bYi->bYl->Prop}{s:bYl}
theorem aKs{α:Type}:∀ (n:Nat)(xs:List α)(s:bYl)(Q:List α->bYl->Prop),xs.length=n->(∀c d,cJl c xs->Q c {s with drawn:=d})->bYq (bYs prog w) A (drawOrder n xs) Q E s
 |0,xs,s,Q,hl,h=>by have e:xs= []:=List.length_eq_zero_iff.mp hl;subst e;unfold drawOrder;exact bYn (h [] s.drawn .rfl)
 |n+1,[],s,Q,hl,h=>by cases hl
 |n+1,x::r,s,Q,hl,h=>by
  unfold drawOrder;have a:w.draws .order (s.drawn.get .order) % (x::r).length<(x::r).length:=Nat.mod_lt _ (Nat.succ_pos _);refine bYj (m:=choose .order (x::r).length) ?_;have f:∀ (b:Nat->bYl->Prop),b (w.draws .order (s.drawn.get .order) % (x::r).length) {s with drawn:=s.drawn.bump .order}->bYq (bYs prog w) A (choose .order (x::r).length) b E s:=by intro b j Γ p hΓ;show Sem.wp _ _ (.choose .order (x::r).length .pure) _ _ _ _;rw[Sem.wp_choose];exact⟨Nat.succ_ne_zero _,j⟩
  refine f _ ?_;generalize k:w.draws .order (s.drawn.get .order) % (x::r).length=i at a ⊢;rw[bYh a];dsimp only;refine bYj (aKs n _ _ _ (by rw[List.length_eraseIdx,if_pos a];simpa using hl) λc d g=>?_);exact bYn (h _ _ ((g.cons _).trans (qY a)))
theorem aY1{I a:Nat}{f:bYi}{i n c:Nat}{Q:bYi->bYl->Prop}(d:s.heap.get? I=some (uF f i a n c))(h:Q (.ref I) s):bYq (bYs prog w) A (pyIter (.ref I)) Q E s:=by
 have b:s.TypeIs (.ref I) "set_iterator":=⟨_,d,rfl⟩;refine wpAny_pyIter_slot b Z3 (cQ8 Z3 b aXk ?_ (aXW _));show bYq _ _ (ret (.ref I)) _ _ s;exact bYn ⟨_,rfl,"set_iterator",_,b,zD.lookup,h⟩
theorem aW7{I a:Nat}{o:Obj}{es:Array (Int×bYi)}{ep:Nat}{t:cQ0}{vs:List bYi}{g:Nat->Nat}(hd:o.data= .set es ep t)(hf:t.fits es.size=true)(hv:vs.length=es.size)(hne:a≠I)
  (hx:∀ (s:bYl)(i:Nat)(A':bYW)(E':bYi->bYl->Prop)(Q':Option (bYi×Nat)->bYl->Prop),s.heap.get? a=some o->i<=es.size->Q' ((vs[i]?).map λx=>(x,g (i+1))) s->bYq (bYs prog w) A' (setNext a (g i) i ep) Q' E' s)
  (hh:A.handled=none):Walks prog w A I [I,a] [I] es.size (λi v=>vs[i]? =some v) (λi h=>i<=es.size/\h.get? a=some o/\h.get? I=some (uF (.int (g i) 0) i a es.size ep)) where
 sub:=λb hb=>by simp at hb;simp[hb]
 frame:=λi h h' st k=>⟨st.1,k a (by simp) o st.2.1,k I (by simp) _ st.2.2⟩
 item:=λi s Q E hi st hQ=>by
  obtain⟨h1,h2,h3⟩:=st
  have hlt:i<vs.length:=by omega
  refine aKW (nx:=g (i+1)) (x:=vs[i]) h2 hd hf h3 (λQ' E' A' hq=>hx s i A' E' Q' h2 h1 (by rw[bYh hlt];exact hq)) λh' hI' sb=>?_
  exact hQ _ h' s.toks (bYh hlt) ⟨by omega,sb.extBut a o hne h2,hI'⟩ λb ob hb e=>sb.extBut b ob (λz=>hb (by simp[z])) e
 done:=λs Q E st hQ=>by
  obtain⟨h1,h2,h3⟩:=st
  refine bQH hh h2 hd hf h3 (λQ' E' A' hq=>hx s es.size A' E' Q' h2 h1 (by rw[bYQ (by omega)];exact hq)) λh' sb=>?_
  exact hQ h' s.toks λb ob hb e=>sb b ob (λz=>hb (by simp[z])) e
 self:=λi s Q E st hQ=>aY1 st.2.2 hQ
theorem aJ2{I a p:Nat}{o op:Obj}{es:Array (Int×bYi)}{ep c:Nat}{t:cQ0}{vs:List bYi}{ys:List Nat}(hd:o.data= .set es ep t)(hf:t.fits es.size=true)(hv:ys.length=es.size)
  (hpd:op.data= .seq (ys.map λ(j:Nat)=>Value.int j 0).toArray c) (hne:a≠I) (hnp:p≠I) (hx:∀ (i j:Nat),ys[i]? =some j->∃e,es[j]? =some e/\vs[i]? =some e.2)
  (hh:A.handled=none):Walks prog w A I [I,a,p] [I] es.size (λi v=>vs[i]? =some v) (λi h=>i<=es.size/\h.get? a=some o/\h.get? p=some op/\h.get? I=some (uF (.ref p) i a es.size ep)) where
 sub:=λb hb=>by simp at hb;simp[hb]
 frame:=λi h h' st k=>⟨st.1,k a (by simp) o st.2.1,k p (by simp) op st.2.2.1,k I (by simp) _ st.2.2.2⟩
 item:=λi s Q E hi st hQ=>by
  obtain⟨h1,h2,h3,h4⟩:=st
  have hlt:i<ys.length:=by omega
  obtain⟨e,he,hve⟩:=hx i ys[i] (bYh hlt)
  refine aWn (j:=ys[i]) (e:=e) h2 hd hf h4 h3 hpd (by simp[hlt]) he λh' hI' sb=>?_
  exact hQ _ h' s.toks hve ⟨by omega,sb.extBut a o hne h2,sb.extBut p op hnp h3,hI'⟩ λb ob hb e=>sb.extBut b ob (λz=>hb (by simp[z])) e
 done:=λs Q E st hQ=>by
  obtain⟨h1,h2,h3,h4⟩:=st
  refine aKt hh h2 hd hf h4 h3 hpd (by simp[hv]) λh' sb=>?_
  exact hQ h' s.toks λb ob hb e=>sb b ob (λz=>hb (by simp[z])) e
 self:=λi s Q E st hQ=>aY1 st.2.2.2 hQ
theorem bJu{a:Nat}{T:List Int}{Q:bYi->bYl->Prop}(hS:aQO w s.heap a T) (h:∀ (I:Nat)(h':Heap)(d:Drawn)(fp:List Nat)(St:Nat->Heap->Prop)(vs:List bYi)(ls:List Int),s.heap.objs.size<=I->(∀b∈fp,b=a\/s.heap.objs.size<=b)->(∀b∈fp,b<h'.objs.size)->aXU ls vs->ls.Perm T-> (∀ (A:bYW),A.handled=none->Walks prog w A I fp [I] T.length (λi v=>vs[i]? =some v) St)->St 0 h'->(∀b o,s.heap.get? b=some o->h'.get? b=some o)-> Q (.ref I) {s with heap:=h',drawn:=d}):bYq (bYs prog w) A (pyIter (.ref a)) Q E s:=by
 have hT:=hS.type;obtain⟨o,f,C,t,ls,N,a7,J,y,X,a9,l,D,P⟩:=hS;have H:f.size=T.length:=by rw[<- cQD,<- y.length,X.length_eq]
 have u:a<s.heap.objs.size:=bYw N;refine wpAny_pyIter_slot hT F.slot_set_iter (cQ8 F.slot_set_iter hT aV5 ?_ (F.args_set_iter_1 _));unfold cQ2.«frozenset.__iter__» Builtin.Frozenset.slot0 slotArgs;simp only[List.isEmpty_nil,Bool.not_true,Bool.false_eq_true,↓reduceIte,bind_assoc,cXn,bne_self_eq_false];unfold Builtin.Frozenset.addrOf Builtin.Frozenset.sizeOf;refine bYj (bYn ?_);try dsimp only
 refine bYj (bYn ?_);refine bYj (bYj (cX2 N J D (bYn ?_)));refine bYj ?_;unfold setDrawn setsByText;refine bYj (cXJ N J D ?_);dsimp only;refine bYj (bYj (cXZ (bYn ?_)));refine bYn ?_;refine cZ9 (λc=>?_) (λc=>?_)
 ·refine bYj (aKs f.size (bYv f.size) s _ bY8 λq d O=>?_);have U:q.length=f.size:=by rw[O.length_eq,bY8]
  have S:∀j∈q,j<f.size:=λj Z=>bYO.mp (O.mem_iff.mp Z);refine bYj (wpAny_newTuple ?_ (by rw[bYo,U];exact cJx l));have a5:=bYm {cls:= .type "tuple",data:= .seq (q.map λ(i:Nat)=>cQy (i:Int)).toArray} N;refine bYj (wpAny_setEpoch_of a5 J D ?_);refine bYj (cXe (bYn ⟨_,rfl,"set_iterator",_,⟨_,bYL _ rfl,rfl⟩,zD.lookup,?_⟩));have R:cJl (q.filterMap λj=>f[j]?) f.toList:=(O.filterMap _).trans (by rw[filterMap_getElem?_range]);obtain⟨k,n,m⟩:=y.perm R.symm;have a1:∀ (i j:Nat),q[i]? =some j->∃e,f[j]? =some e/\((q.filterMap λj=>f[j]?).map (·.2))[i]? =some e.2:=λi j e=>by have Z:j<f.size:=S j (bYA e);refine⟨f[j],cQJ Z,?_⟩;rw[bYC,X5 (λx hx=>by rw[cQJ (S x hx)];rfl),e,Option.bind_some,cQJ Z];rfl
  have fin:∀ (r:Heap)(Y:Obj),Y.data= .seq (q.map λ(i:Nat)=>Value.int i 0).toArray 0->r.objs.size=s.heap.objs.size+1->r.get? s.heap.objs.size=some Y->(∀b o,s.heap.get? b=some o->r.get? b=some o)->
    Q (.ref r.objs.size) {s with heap:=r.push (uF (.ref s.heap.objs.size) 0 a f.size C),drawn:=d}:=by
   intro r Y a0 B a6 hk
   refine h r.objs.size _ d [r.objs.size,a,s.heap.objs.size] (λi h=>i<=f.size/\h.get? a=some o/\h.get? s.heap.objs.size=some Y/\h.get? r.objs.size=some (uF (.ref s.heap.objs.size) i a f.size C)) _ k ?_ ?_ ?_ n.vals (m.trans X)
    (λA hh=>by rw[<- H];exact aJ2 (o:=o) (ys:=q) (c:=0) J D U a0 (bYG (by rw[B];exact cQq u)) (bYG (by rw[B];exact cQ5 _)) a1 hh) ⟨cQe _,bYm _ (hk _ _ N),bYm _ a6,bYL _ rfl⟩ λb ob e=>bYm _ (hk _ _ e)
   ·omega
   ·intro b l;simp only[bYr,cXR,or_false]at l;rcases l with rfl|rfl|rfl
    ·right;omega
    ·left;rfl
    ·right;exact bYp _
   ·intro b l;rw[cQQ];simp only[bYr,cXR,or_false]at l;rcases l with rfl|rfl|rfl
    ·exact cQ5 _
    ·rw[B];exact cQq (cQq u)
    ·rw[B];exact cQq (cQ5 _)
  exact fin _ _ rfl (cQQ ..) (bYL _ rfl) λb ob e=>bYm _ e
 ·refine bYj (bYn ?_);refine bYj (wpAny_setEpoch_of N J D ?_);refine bYj (cXe (bYn ⟨_,rfl,"set_iterator",_,⟨_,bYL _ rfl,rfl⟩,zD.lookup,?_⟩));have fin:∀ (vs:List bYi)(g:Nat->Nat)(k:List Int),g 0=0->vs.length=f.size->aXU k vs->k.Perm T->
    (∀ (s:bYl)(i:Nat)(A':bYW)(E':bYi->bYl->Prop)(W:Option (bYi×Nat)->bYl->Prop),s.heap.get? a=some o->i<=f.size->W ((vs[i]?).map λx=>(x,g (i+1))) s->bYq (bYs prog w) A' (setNext a (g i) i C) W E' s)->
    Q (.ref s.heap.objs.size) {s with heap:=s.heap.push {cls:= .type "set_iterator",dict:=none,data:= .fields [cQy 0,cQy 0,Value.ref a,cQy (f.size:Int),cQy (C:Int)].toArray} }:=by
   intro vs g k g0 a2 hv m hx
   refine h s.heap.objs.size _ s.drawn [s.heap.objs.size,a] (λi h=>i<=f.size/\h.get? a=some o/\h.get? s.heap.objs.size=some (uF (.int (g i) 0) i a f.size C)) vs k (bYp _) ?_ ?_ hv m
    (λA hh=>by rw[<- H];exact aW7 (o:=o) (g:=g) J D a2 (bYG u) hx hh) ⟨cQe _,bYm _ N,?_⟩ λb ob e=>bYm _ e
   ·intro b l;simp only[bYr,cXR,or_false]at l;rcases l with rfl|rfl
    ·right;exact bYp _
    ·left;rfl
   ·intro b l;rw[cQQ];simp only[bYr,cXR,or_false]at l;rcases l with rfl|rfl
    ·exact cQ5 _
    ·exact cQq u
   ·rw[g0];exact bYL _ rfl
  cases G:aZ2 w with
  |true=>
   have pp:cJl (cZo (w.params.setOrder a C) f).toList f.toList:=by have:=aZw (w.params.setOrder a C) f.size 0 f.toList #[] (by simp);simpa[cZo]using this
   obtain⟨k,n,m⟩:=y.perm pp.symm;refine fin ((cZo (w.params.setOrder a C) f).toList.map (·.2)) (λ_=>0) k rfl (by rw[bYo,pp.length_eq];simp) n.vals (m.trans X) λs i A' E' W M hi p=>?_;refine aKX M J D G ?_;rw[bYC,cQP]at p;cases e:(cZo (w.params.setOrder a C) f)[i]? with
   |none=>rw[e]at p;exact p
   |some z=>rw[e]at p;exact p
  |false=>
   have a4:(!t.plain && decide (f.size > 1))=false:=by have c':¬ ((!aZ2 w && (!t.plain && decide (f.size > 1)))=true):=c;rw[G]at c';simpa using c'
   have V:t.led=true:=P.led.resolve_left (by rw[G];decide);have a8:t.place.size=f.size:=by have:=D;simp only[SetTable.fits,Bool.and_eq_true,beq_iff_eq]at this;exact this.1
   refine fin (f.toList.map (·.2)) (λi=>if i=0 then 0 else t.place.getD (i - 1) 0+1) ls (by simp) (by simp) y.vals X λs i A' E' W M hi p=>?_;refine bQ8 M J D G a4 V ?_;have a3:cQg t.place (if i=0 then 0 else t.place.getD (i - 1) 0+1)=i:=by
    by_cases h0:i=0
    ·rw[if_pos h0,aVT P.rise,h0]
    ·rw[if_neg h0,aVS P.rise (by omega)];omega
   rw[a3];by_cases L:i<f.size
   ·have K:i<t.place.size:=by omega
    rw[cQJ L,cQJ K];rw[bYC,cQP,cQJ L]at p;have e1:t.place.getD i 0=t.place[i]:=by simp[cXK,K]
    simpa[e1]using p
   ·rw[cZa (by omega)];rw[bYC,cQP,cZa (by omega)]at p;exact p
end
end Stb
namespace Stb
open PySem PyProof.Rows
section
variable {prog:bYE}{w:bYK}{A:bYW}{E:bYi->bYl->Prop}{s:bYl}
theorem bJr{r:Nat}{Q:Bool->bYl->Prop}(c:s.TypeIs (.ref r) "set")(h:Q false s):bYq (bYs prog w) A (cJj (.ref r)) Q E s:=by
 unfold cJj;refine bYj (wpAny_specialOf c PySem.F.slot_set_len.lookup ?_);generalize a:("set.__len__":String)=q;wp_delta;rw[show splitId q=some ("set","__len__")from by subst a;decide+kernel];subst a;refine bYj (wpAny_isInstance (T:="set") (b:=true) c sub_set_self ?_);refine cZ9 (λz=>absurd z (by decide)) (λ_=>?_);refine cZ9 (λ_=>?_) (λz=>absurd dk z);exact bYj (wpAny_typeOf c (bYn h))
theorem aV0{a:Nat}{n:List Int}{R:List bYi->bYl->Prop}(hh:A.handled=none)(hS:aQO w s.heap a n)(hn:n.length<=bYI) (h:∀ (h':Heap)(tk:Nat)(d:Drawn)(vs:List bYi)(ls:List Int),s.heap.objs.size<h'.objs.size->(∀b o,s.heap.get? b=some o->h'.get? b=some o)->aXU ls vs->ls.Perm n->R vs {s with heap:=h',toks:=tk,drawn:=d}): bYq (bYs prog w) A (collect (.ref a)) R E s:=by
 have hT:=hS.type;obtain⟨oa,a0⟩:=hS.there;have D:a<s.heap.objs.size:=bYw a0;unfold collect;refine bYj (wpAny_runValue (cXt entry_proto_collect' ?_));rw[cXa PySem.F.plain_proto_collect _];show bYq _ A.in1 (newList [] >>=λl=>again (.builtin "list.__iadd__" ⟨[l,.ref a],[]⟩)) _ _ s;refine bYj (cXe ?_);refine bYn ⟨cZx PySem.F.plain_list_iadd _,cXt entry_list_iadd' ?_⟩;rw[cXa PySem.F.plain_list_iadd _];have hL:(s.heap.push {cls:= .type "list",data:= .seq ([]:List bYi).toArray}).get? s.heap.objs.size=some {cls:= .type "list",data:= .seq #[] }:=bYL _ rfl;have t:aQO w (s.heap.push {cls:= .type "list",data:= .seq ([]:List bYi).toArray}) a n:=hS.at λo e=>bYm _ e;have g:(s.heap.push {cls:= .type "list",data:= .seq ([]:List bYi).toArray}).objs.size=s.heap.objs.size+1:=cQQ ..;generalize a5:s.heap.push {cls:= .type "list",data:= .seq ([]:List bYi).toArray}=H1 at hL t g ⊢;have a7:∀b o,s.heap.get? b=some o->H1.get? b=some o:=λb o e=>by rw[<- a5];exact bYm _ e
 show bYq _ A.in1 (cZl (.ref s.heap.objs.size) (.ref a) (.ref s.heap.objs.size)) _ _ {s with heap:=H1};have N:Shared.TypeIs {s with heap:=H1} (.ref a) "set":=t.type (s:={s with heap:=H1});unfold cZl;refine bYj (wpAny_typeOf (T:="set") N ?_);have q1:cJD (.ref s.heap.objs.size) (.ref a)=false:=by simp[cJD,cXU D]
 have q2:(Value.type "set"==Value.type "list")=false:=by decide
 have q3:(Value.type "set"==Value.type "tuple")=false:=by decide
 simp only[q1,q2,q3,Bool.or_false,Bool.false_eq_true,if_false];refine bYj (bJu (s:={s with heap:=H1}) t ?_);intro I h2 d fp St vs ls hI V b0 hv hp W L y;have G:s.heap.objs.size∉fp:=λz=>by
  rcases V _ z with e|e
  ·exact cXU D e
  ·have e':H1.objs.size<=s.heap.objs.size:=e;rw[g]at e';exact absurd e' (Nat.not_succ_le_self _)
 have u:=y _ _ hL;have P:∀ (K:Heap)(c:Nat),St 0 K->(∀b o,b≠s.heap.objs.size->h2.get? b=some o->K.get? b=some o)->K.get? s.heap.objs.size=some {cls:= .type "list",data:= .seq #[] c}->
   cXw (bYs prog w) A (.builtin "list.extend.loop" ⟨[.ref s.heap.objs.size,.ref I,.ref s.heap.objs.size],[]⟩)
    (λq k=>∃ (h':Heap)(tk:Nat)(f:Array bYi)(B:Nat),q= .ok (.ret (.ref s.heap.objs.size))/\k= {s with heap:=h',toks:=tk,drawn:=d}/\
     (∀b o,s.heap.get? b=some o->h'.get? b=some o)/\h'.get? s.heap.objs.size=some {cls:= .type "list",dict:=none,data:= .seq f B,slots:= #[] }/\ItemsOf (λi v=>vs[i]? =some v) f n.length) {s with heap:=K,drawn:=d}:=by
  intro K c M a8 m
  refine codeAny_extend_loopS (W A.in1 hh).toS hn s.heap.objs.size G (.ref s.heap.objs.size) n.length 0 _ #[] c rfl (cQe _) M m (ItemsOf.nil _) λk Q B S a3 J=>?_
  obtain⟨a9,g',d',X,a6⟩:=k
  have eg:g'=s.gens:=S.gens
  have ed:d'=d:=S.drawn
  have eo:a6=s.os:=S.os
  subst eg ed eo
  refine⟨a9,X,Q,B,rfl,rfl,λb o e=>?_,a3,J⟩
  have p:b<s.heap.objs.size:=bYw e
  refine S.heap b o (λz=>?_) (a8 b o (bYG p) (y b o (a7 b o e)))
  rcases bYr.mp z with z|z
  ·exact bYG p z
  ·have z':b=I:=bYz.mp z;have O:H1.objs.size<=I:=hI;rw[g,<- z']at O;exact absurd (bYJ p (Nat.le_of_succ_le O)) (cQs _)
 have r:∀ (q:Result)(k:bYl),(∃ (h':Heap)(tk:Nat)(f:Array bYi)(B:Nat),q= .ok (.ret (.ref s.heap.objs.size))/\k= {s with heap:=h',toks:=tk,drawn:=d}/\ (∀b o,s.heap.get? b=some o->h'.get? b=some o)/\h'.get? s.heap.objs.size=some {cls:= .type "list",dict:=none,data:= .seq f B,slots:= #[] }/\ItemsOf (λi v=>vs[i]? =some v) f n.length)->
   ∃tk h',q= .ok (.ret (.ref s.heap.objs.size))/\k= {s with heap:=h',toks:=tk,drawn:=d}/\bYq (bYs prog w) A (do
    let o <- load s.heap.objs.size
    match o.data with
    |.seq xs _=>pure xs.toList
    |_=>unsupported "internal:collect") R E {s with heap:=h',toks:=tk,drawn:=d}:=by
  rintro q k ⟨h',tk,f,B,rfl,rfl,hk,hg,H⟩
  refine⟨tk,h',rfl,rfl,bYj (wpAny_load hg (bYn ?_))⟩
  have Y:vs.length=n.length:=by rw[<- cXH hv,hp.length_eq]
  have e:f.toList=vs:=bQ2 (by rw[cQD,H.1,Y]) λj x hx=>H.2 j x (by rw[<- cQP];exact hx)
  show R f.toList _
  rw[e]
  exact h h' tk d vs ls (bYw hg) hk hv hp
 have a2:Shared.TypeIs {s with heap:=h2,drawn:=d} (.ref a) "set":=by obtain⟨o',U,a4⟩:=N;exact⟨o',y _ _ U,a4⟩
 refine bYj (cQB (bJr a2 ?_));refine cZ9 (λ_=>?_) (λ_=>?_)
 ·refine bYj (wpAny_rule ?_);refine bYj ?_;show bYq _ _ (updateSeq s.heap.objs.size (·.push .none) >>=λ_=>updateSeq s.heap.objs.size (·.pop)) _ _ _;refine bYj (wpAny_updateSeq u rfl ?_);have m:=cQk (bY9 (·.push Value.none)) u rfl;refine wpAny_updateSeq (hz:=by seq_fits) m rfl ?_;have a1:=cQk (bY9 (·.pop)) m rfl;refine bYn ⟨cZx cJC _,cQ7 (P _ _ ?_ (λb o p e=>?_) a1) λq k z=>?_⟩
  ·refine(W A.in1 hh).frame 0 _ _ L λb p o e=>?_;have C:b≠s.heap.objs.size:=λz=>G (z ▸ p);exact(bYP _ _ (bY0 C)).trans ((bYP _ _ (bY0 C)).trans e)
  ·exact(bYP _ _ (bY0 p)).trans ((bYP _ _ (bY0 p)).trans e)
  ·obtain⟨tk,h',rfl,rfl,Z⟩:=r q k z;exact Z
 ·refine bYn ⟨cZx cJC _,cQ7 (P _ _ L (λb o _ e=>e) u) λq k z=>?_⟩;obtain⟨tk,h',rfl,rfl,Z⟩:=r q k z;exact Z
theorem X8:∀ {a:List Int} {vs:List bYi},aXU a vs->cXN vs a
 |_,_,.nil=> .nil
 |_,_,.cons ⟨t,e⟩ r=>by subst e;exact .cons _ t (X8 r)
theorem aW1{a:Nat}{f:List Int}{Q:bYi->bYl->Prop}(D:A.handled=none)(B:aQO w s.heap a f)(z:f.length<64) (h:∀ (l:Nat)(h':Heap)(tk:Nat)(d:Drawn)(out:List bYi)(j:List Int)(n:Nat),s.heap.objs.size<=l->(∀b o,s.heap.get? b=some o->h'.get? b=some o)->h'.get? l=some {cls:= .type "list",data:= .seq out.toArray n}-> cXN out j->j.Perm f->j.Pairwise (·<=·)->Q (.ref l) {s with heap:=h',toks:=tk,drawn:=d}):bYq (bYs prog w) A (call (.builtin "sorted") [.ref a]) Q E s:=by
 refine cZD kind_sorted plain_sorted entry_sorted (args_sorted1 _) ?_;unfold cQ2.«sorted»;refine bYj (m:=checkCount "sorted" 1 1 _) (bYn ?_);refine bYj (aV0 (A:=A.in1) D B (by rw[bYR];omega) λr tk d q G i y u t=>?_);have x:=X8 u;have g:q.length=f.length:=by rw[<- cXH u,t.length_eq]
 refine bYj (cZz ?_ (by rw[g,bYR];omega));have c:(r.push {cls:= .type "list",data:= .seq q.toArray}).get? r.objs.size=some (bY6 "list" q.toArray 0):=bYL _ rfl;refine bYj (cQB (cQ8 slot_list_sort ⟨_,c,rfl⟩ entry_list_sort (list_sort_tree c x (by omega) λout k F v C=>⟨_,rfl,?_⟩) (args_list_sort _)));obtain⟨n,e⟩:=sortedHeap_at (out:=out) c;refine bYn ⟨_,rfl,h r.objs.size _ tk d out.toList k n (cXT i) (λb o e=>?_) (by simpa using e) F (v.trans t) C⟩;have p:=y b o e;rw[sortedHeap_old (bYG (bYw p)) (by rw[cQQ];exact cQq (bYw p))];exact bYm _ p
end
end Stb
namespace Stb
open PySem PyProof.Rows
def met(val:Nat->Int):Nat->List Int
 |0=> []
 |i+1=>if val i∈met val i then met val i else met val i++ [val i]
theorem aJg(val:Nat->Int):∀i,(met val i).length<=i
 |0=>bYp _
 |i+1=>by
  have a:=aJg val i;unfold met;split
  ·omega
  ·rw[bYM,cQt];omega
theorem aKT(val:Nat->Int)(d:Int):∀i,d∈met val i↔∃j,j<i/\val j=d
 |0=>by simp[met]
 |i+1=>by
  have b:=aKT val d i;have step:d∈met val (i+1)↔d∈met val i\/d=val i:=by
   show d∈(if val i∈met val i then met val i else met val i++ [val i])↔_;split
   ·rename_i a;constructor
    ·exact .inl
    ·rintro(z|rfl)
     ·exact z
     ·exact a
   ·simp
  rw[step,b];constructor
  ·rintro(⟨j,c,e⟩|rfl)
   ·exact⟨j,by omega,e⟩
   ·exact⟨i,by omega,rfl⟩
  ·rintro⟨j,c,e⟩;by_cases h:j=i
   ·subst h;exact .inr e.symm
   ·exact .inl ⟨j,by omega,e⟩
section
variable {prog:bYE}{w:bYK}{A:bYW}
theorem bJl{R:Result->bYl->Prop}{I:Nat}{J E:List Nat}{n:Nat}{P:Nat->bYi->Prop}{St:Nat->Heap->Prop}(W:Walks prog w A.in1 I J E n P St)(S:Nat)(q:S∉J) (val:Nat->Int) (j:∀i v,P i v->∃t,v= .int (val i) t) (a:n+1<cZK): ∀ (k i:Nat)(s:bYl),n - i=k->i<=n->St i s.heap->aQO w s.heap S (met val i)-> (∀r tk,(∀b o,b∉S::E->s.heap.get? b=some o->r.get? b=some o)->aQO w r S (met val n)->R (.ok (.ret .none)) {s with heap:=r,toks:=tk})-> cXw (bYs prog w) A (.builtin "set.update.loop" ⟨[.ref S,.ref I],[]⟩) R s:=by
 have x:S∉E:=λh=>q (W.sub _ h);intro k;induction k with
 |zero=>
  intro i s N Q c H hR;obtain rfl:i=n:=by omega
  refine cXt cZG ?_;rw[cXa cXC _];refine bYj (m:=pyNext (.ref I)) (W.done s _ _ c λr tk f=>?_);exact bYn (hR r tk (λb o a e=>f b o (λz=>a (bYt _ z)) e) (H.at λo e=>f S o x e))
 |succ k L=>
  intro i s N Q c H hR;have g:i<n:=by omega
  refine cXt cZG ?_;rw[cXa cXC _];refine bYj (m:=pyNext (.ref I)) (W.item i s _ _ g c λv C p O u l=>?_);obtain⟨t,rfl⟩:=j i v O;show bYq _ A.in1 (cZA [Value.int (val i) t] (setAdd S (.int (val i) t)) >>=_) _ _ {s with heap:=C,toks:=p};refine bYj (cQB ?_);unfold setAdd;refine cQB ?_;refine bYj ((intKind prog w).pyHash (k:=val i) (intKind_is _ _ _ _) ?_);have d:(met val i).length+1<cZK:=by have:=aJg val i;omega
  refine bVY (s:={s with heap:=C,toks:=p+1}) (H.at λo e=>l S o x e) d λT b K y=>?_;refine bYn ⟨cZx cXC _,L (i+1) _ (by omega) g (W.frame _ C _ u λb a o e=>?_) y λM B G D=>?_⟩
  ·exact K.extBut b o (λz=>q (z ▸ a)) e
  ·refine hR M B (λb o a e=>G b o a (K.extBut b o (λz=>a (by rw[z];exact bYx)) (l b o (λz=>a (bYt _ z)) e))) D
variable {E:bYi->bYl->Prop}{s:bYl}
theorem bWj(a:bYi){Q₁:bYi->bYl->Prop} (h:Q₁ (.ref s.heap.objs.size) {s with heap:=s.heap.push {cls:= .type "set",dict:=none,data:= .set #[] 0 (.fresh 0 0 (!aZ2 w)) } }): cXw (bYs prog w) A (.call (.builtin "set.__new__") ⟨[.type "set",a],[]⟩) (wants Q₁ E) s:=by
 refine codeAny_of_tree ?_;show bYq _ A.in1 (do checkBuiltinCall "set.__new__" ⟨[.type "set",a],[]⟩;again (.builtin "set.__new__" ⟨[.type "set",a],[]⟩)) _ _ s;refine bYj (wpAny_of_eq (PySem.F.newCall_set_1 a) (bYn ⟨cZx PySem.F.plain_set_new _,cXt PySem.F.entry_set_new ?_⟩));rw[cXa PySem.F.plain_set_new _];unfold cQ2.«set.__new__» Builtin.Frozenset.newClass;have b:=sub_set_self;obtain⟨c,g,d,tk,e⟩:=s;dsimp only;wp_walk;refine cXZ (bYn ?_);dsimp only;simp only[newObj];refine bYj (wpAny_alloc (bYn ?_));exact bYn h
set_option maxHeartbeats 3200000 in
theorem zR{l:Nat}{items:Array bYi}{D:List Int}{Q:bYi->bYl->Prop}(hh:A.handled=none)(hl:s.heap.IsList l items)(hi:cXN items.toList D)(I:items.size+1<cZK) (h:∀ (h':Heap)(tk:Nat),aQO w h' s.heap.objs.size (met (λi=>D.getD i 0) items.size)->(∀b o,s.heap.get? b=some o->h'.get? b=some o)->Q (.ref s.heap.objs.size) {s with heap:=h',toks:=tk}): bYq (bYs prog w) A (call (.type "set") [.ref l]) Q E s:=by
 obtain⟨c,tl,a2⟩:=cQ6.mro;have S:=cQ6.made;have a0:=cQ6.sub;refine cZt (codeAny_of_tree ?_);show bYq _ _ (callAny (.type "set") _) _ _ _;refine bYn ⟨cJk _ dk,cXt PySem.F.entry_type_call ?_⟩;rw[Around.under_plain (weight_type_call_type "set" [.ref l] []) rfl];have h1:=cQ6.notType;have h2:=cQ6.canCreate;have a8:=PySem.F.typeCall_set_1 (.ref l);repeat (any_goals (first|assumption|wp_step))
 refine cQ7 (bWj (.ref l) (E:=E) (Q₁:=λJ j=>J= .ref s.heap.objs.size/\j= {s with heap:=s.heap.push {cls:= .type "set",dict:=none,data:= .set #[] 0 (.fresh 0 0 (!aZ2 w)) } }) ⟨rfl,rfl⟩) λr j W=>?_;cases r with
 |error e=>exact W
 |ok fl=>
  cases fl with
  |ret J=>
   obtain⟨rfl,rfl⟩:=W;generalize B:({cls:= .type "set",dict:=none,data:= .set #[] 0 (.fresh 0 0 (!aZ2 w)) }:Obj)=O;have Y:(s.heap.push O).get? s.heap.objs.size=some O:=bYL _ (by rw[<- B];rfl);have hT:Shared.TypeIs {s with heap:=s.heap.push O} (.ref s.heap.objs.size) "set":=⟨_,Y,by rw[<- B]⟩;have K:aQO w (s.heap.push O) s.heap.objs.size []:=by
    refine⟨O, #[],0,.fresh 0 0 (!aZ2 w),[],Y,?_,?_,.nil,.rfl,List.nodup_nil,by decide,rfl,bQo ?_⟩
    ·rw[<- B];exact⟨rfl,rfl,rfl⟩
    ·rw[<- B]
    ·cases aZ2 w<;> simp
   have f:(s.heap.push O).objs.size=s.heap.objs.size+1:=cQQ ..;have m:∀b o,s.heap.get? b=some o->(s.heap.push O).get? b=some o:=λb o e=>bYm _ e;generalize hH:s.heap.push O=H at Y hT K f m ⊢;have a6:=cQ6.init.lookup;have a7:=cQ6.init.bind (.ref s.heap.objs.size);repeat (any_goals (first|assumption|wp_step))
   refine cQ7 (cZ5 (R:=wants (λr g=>r= .none/\∃h' tk,g= {s with heap:=h',toks:=tk}/\aQO w h' s.heap.objs.size (met (λi=>D.getD i 0) items.size)/\
     (∀b o,s.heap.get? b=some o->h'.get? b=some o)) E) cQ6.init.plain PySem.F.entry_set_init (check_set_init_1 hT ?_)) λq g a=>?_
   ·obtain⟨ol,G,x,nl,P⟩:=hl;obtain⟨a4,p,V,d⟩:=ol;simp only at x P;subst x;subst P;have M:H.get? l=some {cls:= .type "list",dict:=p,data:= .seq items nl,slots:=d}:=m _ _ G;have a3:=PySem.F.sub_list_set;have a1:=PySem.F.sub_list_frozenset;have a5:(Value.type "list"==Value.type "dict")=false:=by decide
    have y:H.IsList l items:=⟨_,M,rfl,nl,rfl⟩;subst B;unfold cQ2.«set.__init__» noKeywords Builtin.Frozenset.updateFrom;generalize T:pyIter=PI;wp_walk;subst T;refine cJz (l:=l) (items:=items) ?hl ?_;case hl=>exact y
    refine bYj (wpAny_runValue ?_);have N:l<s.heap.objs.size:=bYw G;have X:A.in1.in1.in1.handled=none:=by simp[hh]
    have C:l≠H.objs.size:=by rw[f];exact bYG (cQq N)
    have Z:s.heap.objs.size∉ [H.objs.size,l]:=by rw[f];simp only[bYr,cXR,or_false,not_or];exact⟨bYG (cQ5 _),cXU N⟩
    have u:∀ (i:Nat)(v:bYi),items[i]? =some v->∃t,v= .int ((λi=>D.getD i 0) i) t:=λi v hv=>
     cJm hi i v (by rw[cQP];exact hv)
    refine bJl (Walks.list X _ l C items) s.heap.objs.size Z (λi=>D.getD i 0) u I (items.size - 0) 0 _ (by omega) (cQe _) ⟨⟨_,bYL _ rfl,rfl,rfl⟩,y.push _⟩ ?hS0 ?hR;case hS0=>exact K.at λo e=>bYm _ e
    case hR=>
     intro h' tk hk n;show bYq _ _ _ _ _ _;refine bYn ?_;show bYq _ _ (ret Value.none) _ _ _;refine bYn ⟨rfl,h',tk,rfl,n,λb o e=>?_⟩;have I:=bYw e;refine hk b o (λz=>?_) (bYm _ (m _ _ e));simp only[bYr,cXR,or_false]at z;rcases z with z|z
     ·exact bYG I z
     ·rw[z]at I;have L:H.objs.size<s.heap.objs.size:=I;rw[f]at L;exact absurd L (Nat.not_lt.mpr (cXm _))
   ·cases q with
    |error e=>exact a
    |ok k=>
     cases k with
     |ret r=>
      obtain⟨rfl,h',tk,rfl,n,U⟩:=a;repeat (any_goals (first|assumption|wp_step))
      exact h _ _ n U
     |_=>exact a.elim
  |_=>exact W.elim
end
end Stb
namespace L2
open PySem PySem.Spec PyProof.Rows
section
variable {X:Cx}{tg:Expr}
end
section
variable {X:Cx}
inductive aKg(K:bYk)(xs:List V)(H:Hp)(Q:VK):Prop|mk (x c t b) (_:xs= [x,.ty c]) (_:aZX K H x t) (_:cQo K t (.type c)=some b) (_:Q (.bl b) H)
theorem vA:jO X (.builtin "isinstance") (aKg X.K):=by
 intro a s σ H i g Q I r h;obtain⟨x,c,t,b,rfl,ty,e,q⟩:=h;obtain⟨u,v,rfl,d,f⟩:=xS.two r;cases f;exact aKD I d ty e λtk=>⟨.bl b,H,I.tok tk,rfl,q⟩
def bWJ(w:bYK)(a:Nat)(b:List Int):HO:= .ext λh=>Stb.aQO w h a b
theorem bQy(C:X.calm=true):jO X (.type "set") (λy H Q=>∃ (p:Nat)(a:List Int),y= [.ref p]/\SqL X.K H p (a.map V.int)/\a.length<4000/\∀ (l:Nat)(c:List Int),H l=none->c.Nodup->c.length<=a.length->(∀d,d∈c↔d∈a)->Q (.ref l) (upd H l (bWJ X.w l c))):=by
 intro n s σ H y P Q I r h;obtain⟨p,a,rfl,J,L,q⟩:=h;obtain⟨u,rfl,D⟩:=aQM r;cases D;obtain⟨b,F,G,U⟩:=I.list J;have v:cXN b a:=aQ2 F;have A:b.length=a.length:=v.length;refine Stb.zR (I.ok.hd C) G.isList (by simpa using v) (by rw[bYB];unfold cZK;omega) λT tk f E=>?_;rw[bYB]at f;have g:(Stb.met (λi=>a.getD i 0) b.length).Nodup:=by obtain⟨o,R,M,t,S,_,_,_,_,_,g,_⟩:=f;exact g
 have hl:=Stb.aJg (λi=>a.getD i 0) b.length;refine⟨.ref s.heap.objs.size,_,I.laid (t':=tk) (o:=bWJ X.w s.heap.objs.size (Stb.met (λi=>a.getD i 0) b.length)) E (bYp _) ⟨f,f.there,λN O z k=>z.at k⟩,rfl,q _ _ I.fresh g (by omega) λd=>?_⟩;rw[Stb.aKT];constructor
 ·rintro⟨j,x,rfl⟩;have m:j<a.length:=by omega
  simp[bY4,bYh m]
 ·intro B;obtain⟨j,x,e⟩:=bY7 B;exact⟨j,by omega,by simp[bY4,bYh x,e]⟩
theorem aQP(o:X.calm=true):jO X (.builtin "sorted") (λm H Q=>∃ (p:Nat)(e:List Int),m= [.ref p]/\H p=some (bWJ X.w p e)/\e.length<64/\∀ (l:Nat)(b:List Int),H l=none->b.Perm e->b.Pairwise (·<=·)->Q (.ref l) (upd H l (.lst (b.map V.int)))):=by
 intro c s σ H m D Q I r h;obtain⟨p,e,rfl,x,j,q⟩:=h;obtain⟨u,rfl,t⟩:=aQM r;cases t;obtain⟨C,_,_⟩:=(show x4 X.prog X.w H s.heap p (bWJ X.w p e)from I.hok p _ x);refine Stb.aW1 (I.ok.hd o) C j λl k tk d out b n hl y A B f i=>?_;have z:H l=none:=I.hok.fresh hl;have g:b.length<=bYI:=by rw[f.length_eq,bYR];omega
 have a:Inv X c σ (upd H l (.lst (b.map V.int))) {s with heap:=k,toks:=tk}:=I.laid y hl ⟨by rw[bYo];exact g,out,n,uV B,A⟩;have v:Inv X c σ (upd H l (.lst (b.map V.int))) {s with heap:=k,toks:=tk,drawn:=d}:=by refine⟨a.ok,a.os,a.bare,a.base,a.loc,a.cell,a.free,a.freeC,a.pin,a.hok,a.len⟩
 exact⟨.ref l,_,v,rfl,q l b z f i⟩
theorem bVa(n d:Nat)(a:Nat):HT.sIx n d (some (a:Int))=min a n:=by
 unfold HT.sIx;simp only;split<;> omega
end
end L2
namespace L2
open PySem PySem.Spec PyProof.Rows
theorem Z9(K:bYk):cQo K (.type "NoneType") (.type "list")=some false:=by kernel_rfl
theorem Y1(K:bYk):cQo K (.type "NoneType") (.type "tuple")=some false:=by kernel_rfl
theorem aJc(K:bYk):cQo K (.type "int") (.type "bool")=some false:=by kernel_rfl
theorem aWa(K:bYk):cQo K (.type "int") (.type "int")=some true:=by kernel_rfl
theorem aWb(K:bYk):cQo K (.type "int") (.type "str")=some false:=by kernel_rfl
theorem aJd(K:bYk):cQo K (.type "int") (.type "list")=some false:=by kernel_rfl
theorem aZg(K:bYk):cQo K (.type "int") (.type "tuple")=some false:=by kernel_rfl
theorem aQ3(K:bYk):cQo K (.type "str") (.type "str")=some true:=by kernel_rfl
theorem aJe(K:bYk):cQo K (.type "str") (.type "list")=some false:=by kernel_rfl
theorem aZh(K:bYk):cQo K (.type "str") (.type "tuple")=some false:=by kernel_rfl
theorem uM(K:bYk):cQo K (.type "list") (.type "list")=some true:=by kernel_rfl
theorem vW(K:bYk):cQo K (.type "list") (.type "tuple")=some false:=by kernel_rfl
theorem vX(K:bYk):cQo K (.type "tuple") (.type "list")=some false:=by kernel_rfl
theorem vE(K:bYk):cQo K (.type "tuple") (.type "tuple")=some true:=by kernel_rfl
section
variable {X:Cx}{pins:List (Nat×Obj)}{σ:St}{H:Hp}{s:bYl}
theorem aV8{A:bYW}{E:bYi->bYl->Prop}{Q:bYi->bYl->Prop}{x:V}{u t:bYi}{tp:Nat}{cs:List bYi}{b:Bool}(I:Inv X pins σ H s)(d:zE x u)(ty:aZX X.K H x t) (r:cZe s.heap tp cs.toArray) (e:PySem.W.kitAny X.K t cs=some b) (h:∀tk,Q (.bool b) {s with toks:=tk}):bYq (bYs X.prog X.w) A (call (.builtin "isinstance") [u,.ref tp]) Q E s:=by
 obtain⟨⟨cls,T,data,Y⟩,f,B,n,v⟩:=r;simp only at B v;subst B v;cases ty with
 |non=>cases (show u=Value.none from d);exact cQT PySem.W.kitx_none I.kIn cQI f e (λz=>nomatch z) h
 |bl y=>cases (show u=Value.bool y from d);exact cQT PySem.W.kitx_bool I.kIn cQI f e (λz=>nomatch z) h
 |int i=>obtain⟨t,q⟩:=(show ∃t,u=Value.int i t from d);cases q;exact cQT PySem.W.kitx_int I.kIn cQI f e (λz=>nomatch z) h
 |str y=>obtain⟨t,q⟩:=(show ∃t,u=Value.str y t from d);cases q;exact cQT PySem.W.kitx_str I.kIn cQI f e (λz=>nomatch z) h
 |flt y=>obtain⟨t,q⟩:=(show ∃t,u=Value.float y t from d);cases q;exact cQT PySem.W.kitx_float I.kIn cQI f e (λz=>nomatch z) h
 |@lst a k c=>cases (show u=Value.ref a from d);obtain⟨_,_,n,_,g⟩:=(show x4 X.prog X.w H s.heap a (.lst k)from I.hok a _ c);exact cQT cZN I.kIn ⟨_,g,rfl⟩ f e (λz=>nomatch z) h
 |@frz a F k c=>cases (show u=Value.ref a from d);obtain⟨_,_,_,n,_,g⟩:=(show x4 X.prog X.w H s.heap a (.frz F (.lst k))from I.hok a _ c);exact cQT cZN I.kIn ⟨_,g,rfl⟩ f e (λz=>nomatch z) h
 |@tup a k c=>cases (show u=Value.ref a from d);obtain⟨_,_,_,p⟩:=(show x4 X.prog X.w H s.heap a (.tup k)from I.hok a _ c);obtain⟨o,g,l,_⟩:=p;exact cQT PySem.W.kitx_tuple I.kIn ⟨o,g,l⟩ f e (λz=>nomatch z) h
 |@dK a j c=>cases (show u=Value.ref a from d);obtain⟨_,_,U,_,p⟩:=(show x4 X.prog X.w H s.heap a (.dK j)from I.hok a _ c);obtain⟨o,M,L,g,l,_⟩:=p;exact cQT cZM I.kIn ⟨o,g,l.1⟩ f e (λz=>nomatch z) h
 |@dT a j c=>cases (show u=Value.ref a from d);obtain⟨_,_,k,_,o,M,L,g,l,_⟩:=(show x4 X.prog X.w H s.heap a (.dT j)from I.hok a _ c);exact cQT cZM I.kIn ⟨o,g,l.1⟩ f e (λz=>nomatch z) h
 |@ins a C R fs c cl N G m D=>cases (show u=Value.ref a from d);obtain⟨P,O,_⟩:=Q4 I.hok c;obtain⟨S,J,_⟩:=O.look;exact cQT (PySem.W.kitx_own (cl.get _) cl.hd N G m D) I.kIn J f e (λz=>nomatch z) h
end
section
variable {X:Cx}
inductive aVV(K:bYk)(xs:List V)(H:Hp)(Q:VK):Prop|mk (x p c d t b b') (_:xs= [x,.ref p]) (_:SqT K H p [.ty c,.ty d]) (_:aZX K H x t) (_:cQo K t (.type c)=some b) (_:cQo K t (.type d)=some b') (_:Q (.bl (b || b')) H)
theorem aKf:jO X (.builtin "isinstance") (aVV X.K):=by
 intro pins s σ H A y Q I r h;obtain⟨x,p,c,d,t,b,a,rfl,g,ty,e,k,q⟩:=h;obtain⟨u,v,rfl,f,m⟩:=xS.two r;cases m;obtain⟨n,l,o,_⟩:=I.tuple g;obtain⟨z,w,rfl,i,j⟩:=xS.two l;cases i;cases j;refine aV8 I f ty o (b:=b || a) ?_ λtk=>⟨.bl (b || a),H,I.tok tk,rfl,q⟩;unfold PySem.W.kitAny;rw[e];cases b
 ·simp only[Bool.false_or];unfold PySem.W.kitAny;rw[k];cases a<;> rfl
 ·rfl
inductive bWy(K:bYk)(x:V)(y:V)(H:Hp)(Q:VK):Prop|mk (a b xs) (_:x= .ref a) (_:y= .ref b) (_:SqL K H a xs) (_:SqL K H b []) (_:Q (.bl xs.isEmpty) H)
inductive bWz(K:bYk)(x:V)(y:V)(H:Hp)(Q:VK):Prop|mk (a b xs) (_:x= .ref a) (_:y= .ref b) (_:SqL K H a xs) (_:SqL K H b []) (_:Q (.bl (!xs.isEmpty)) H)
theorem aVg(d:X.A.units<cLine):OpR X (cQM .Eq) (bWy X.K):=by
 intro pins s σ H x y v u Q I i m h;obtain⟨a,b,w,rfl,rfl,l,k,q⟩:=h;cases i;cases m;obtain⟨t,g,c,_⟩:=I.list l;obtain⟨p,n,f,_⟩:=I.list k;cases n;cases g with
 |nil=>exact SeqAt.eq_listAt (e:=λ_=>true) c.isList f.isList rfl d (λj o r=>absurd o (cQ1 _)) ⟨.bl true,H,I,rfl,q⟩
 |cons _ _=>exact SeqAt.eq_list_lengthsAt c.isList f.isList (by simp) d ⟨.bl false,H,I,rfl,q⟩
theorem jB(d:X.A.units<cLine):OpR X (cQM .NotEq) (bWz X.K):=by
 intro pins s σ H x y v u Q I i m h;obtain⟨a,b,B,rfl,rfl,l,k,q⟩:=h;cases i;cases m;obtain⟨t,g,c,_⟩:=I.list l;obtain⟨p,n,f,_⟩:=I.list k;cases n;cases g with
 |nil=>have z:=SeqAt.RcNeAt.lists (A:=X.A) (s:=s) (e:=λ_=>true) c.isList f.isList rfl d (λj o r=>absurd o (cQ1 _));exact z X.prog X.w X.xe _ ⟨.bl false,H,I,rfl,q⟩
 |cons _ _=>exact(SeqAt.RcNeAt.lists_lengths c.isList f.isList (by simp) d) X.prog X.w X.xe _ ⟨.bl true,H,I,rfl,q⟩
structure FnG(P:bYE)(w:bYK)(K:bYk)(mg:Str->Option bYi)(base:Heap)(k:Nat)(x:Str)(ps:List Str)(sp:Sp):Prop where
 ex:∃f fd,y8 P w K mg base CX0 k f fd ps sp/\vR K fd ps []/\cQb K (.ref f)=true/\mg x=some (.ref f)
theorem FnG.mono{P:bYE}{w:bYK}{K:bYk}{mg:Str->Option bYi}{base:Heap}{j k:Nat}{x:Str}{c:List Str}{sp:Sp}(G:FnG P w K mg base j x c sp)(h:j<=k):FnG P w K mg base k x c sp:=
 let ⟨f,fd,a,b⟩:=G.ex;⟨f,fd,a.mono h,b⟩
theorem xK{k:Nat}{x:Str}{g:List Str}{sp:Sp}{e:Expr}{a:List Expr}{t:TA}{p pos:Pos}(G:FnG X.prog X.w X.K X.mg X.base k x g sp)(j:vK k X.A)(l:Gl X x)(n:PA X (e::a) t)
  (d:(x==("__debug__":Str))=false:=by decide) (i:bYV (e::a) X.env=(false,eval e X.env)::bYV a X.env:=by rfl) (c:(cQU pos (bYV a X.env)).any (·.1)=false:=by rfl):
  PE X (.Call (.Name x p) (e::a) [] pos) (bZc sp [] E0 t):=by
 obtain⟨f,o,F,b,h,m⟩:=G.ex
 exact aYk F j l m h b .nil vN n d i c
end
inductive Dt where
 |non|bl (b:Bool)|int (n:Int)|str (x:Str)|lst (ds:List Dt)|tup (ds:List Dt)
mutual
def Is(H:Hp):V->Dt->Prop
 |v,.non=>v= .non
 |v,.bl b=>v= .bl b
 |v,.int n=>v= .int n
 |v,.str x=>v= .str x
 |v,.lst ds=>∃a c,v= .ref a/\H a=some (.lst c)/\zM H c ds
 |v,.tup ds=>∃a c,v= .ref a/\H a=some (.tup c)/\zM H c ds
def zM(H:Hp):List V->List Dt->Prop
 |[],[]=>True
 |x::xs,d::ds=>Is H x d/\zM H xs ds
 |_,_=>False
end
mutual
def Dt.size:Dt->Nat
 |.lst a=>1+zX a
 |.tup a=>1+zX a
 |_=>1
def zX:List Dt->Nat
 |[]=>0
 |d::ds=>d.size+zX ds
end
theorem zM.length{H:Hp}:∀ {xs:List V} {ds:List Dt},zM H xs ds->xs.length=ds.length
 |[],[],_=>rfl
 |_::xs,_::ds,h=>by unfold zM at h;simp[zM.length h.2]
 |[],_::_,h=>by unfold zM at h;exact h.elim
 |_::_,[],h=>by unfold zM at h;exact h.elim
theorem zM.get{H:Hp}:∀ {xs:List V} {ds:List Dt} {i:Nat} {d:Dt},zM H xs ds->ds[i]? =some d->∃x,xs[i]? =some x/\Is H x d
 |x::xs,d::ds,0,_,h,e=>by unfold zM at h;simp at e;subst e;exact⟨x,rfl,h.1⟩
 |_::xs,_::ds,i+1,d,h,e=>by unfold zM at h;simpa using zM.get (i:=i) (d:=d) h.2 (by simpa using e)
 |[],[],_,_,_,e=>by simp at e
 |[],_::_,_,_,h,_=>by unfold zM at h;exact h.elim
 |_::_,[],_,_,h,_=>by unfold zM at h;exact h.elim
theorem x8{t u:TS}{D:aZV}{σ:L2.St}{H:Hp}(R:L2.St->Hp->Prop)(c:∀a b,R a b->u D a b)(d:(∀a b,R a b->u D a b)->t {D with nx:=u D} σ H):bKa t u D σ H:=d c
theorem onT{c:Bool}{A B:Prop}(e:c=true)(h:A):if c=true then A else B:=by rw[e];exact h
theorem onF{c:Bool}{A B:Prop}(e:c=false)(h:B):if c=true then A else B:=by rw[e];exact h
theorem z0:([]:List V).length<=bYI:=by decide
theorem z1{a:V}: [a].length<=bYI:=by show 1<=bYI;decide
theorem z2{a b:V}: [a,b].length<=bYI:=by show 2<=bYI;decide
theorem z3{a b c:V}: [a,b,c].length<=bYI:=by show 3<=bYI;decide
theorem z4{a b c d:V}: [a,b,c,d].length<=bYI:=by show 4<=bYI;decide
theorem z5{a b c d e:V}: [a,b,c,d,e].length<=bYI:=by show 5<=bYI;decide
theorem zn{l:List V}(h:l.length<=100000):l.length<=bYI:=by rw[bYR];omega
theorem zlt{l:List V}(h:l.length<=100000):l.length<bYI:=by rw[bYR];omega
theorem xA.fresh{H a:Hp}(k:xA H a){p:Nat}(h:a p=none):H p=none:=by
 cases e:H p with
 |none=>rfl
 |some o=>rw[k _ _ e]at h;cases h
theorem yG{H:Hp}{p:Nat}(h:H p=none)(o:HO):xA H (upd H p o):=λb u q=>by rw[yI (yJ q h)];exact q
end L2
namespace Rvl
open PySem PyProof.Rows
section
variable {prog:bYE}{w:bYK}{A:bYW}{E:bYi->bYl->Prop}{s:bYl}
end
end Rvl
namespace L2
open PySem PySem.Spec PyProof.Rows
section
variable {X:Cx}
end
end L2
namespace L2
open PySem PySem.Spec PyProof.Rows
theorem W5{n:Nat}{k:List Nat}{d:TT}{l:TE}{σ:St}{D:Nat}{Q:VK}{H:Hp}(p:Nat->Bool)(f:Nat->V)(y:H D=none)(hz:n<=bYI) (r:∀i,i<n->∀ (c:Hp)(R:Bool->Hp->Prop),(∀b,b≠D->c b=H b)->R (p i) c->d (sub σ k (some (.int (i:Nat)))) c R) (o:∀i,i<n->p i=true->∀ (c:Hp)(R:VK),(∀b,b≠D->c b=H b)->R (f i) c->l (sub σ k (some (.int (i:Nat)))) c R) (x:Q (.ref D) (upd H D (.lst (((bYv n).filter p).map f)))):bVL (Itr 0 n) k d l σ D Q (upd H D (.lst [])):=by
 refine⟨λi m j c=>m=n - i/\i<=n/\j=((bYv i).filter p).map f/\c=upd H D (.lst j),⟨n,by simp,cQe _,by simp,rfl⟩,?_⟩;rintro i m j c ⟨rfl,z,rfl,rfl⟩;refine⟨yB,?_⟩;by_cases a:i<n
 ·refine .inr ⟨a,λv A s=>?_⟩;obtain⟨q,u⟩:=s;subst q;subst u;rw[cZi];have e:∀b,b≠D->upd H D (.lst (((bYv i).filter p).map f)) b=H b:=λb t=>yI t;have g:(((bYv i).filter p).map f).length<bYI:=by
   rw[bYo];have w:=cQf p (bYv i);rw[bY8]at w;omega
  refine r i a _ _ e ?_;cases h:p i with
  |false=>show ∃B,_;refine⟨n - (i+1),by omega,rfl,a,?_,rfl⟩;rw[cXE,cQr,cQW (by rw[h];decide)];simp
  |true=>show l _ _ _;refine o i a h _ _ e ⟨g,yB,n - (i+1),by omega,rfl,a,?_,by rw[uU]⟩;rw[cXE,cQr,cQX h];simp
 ·obtain rfl:i=n:=by omega
  exact .inl ⟨bYp _,x⟩
end L2
namespace Stree
open PySem PySem.W PyProof.Rows
def Asks{α:Type}(n:Nat)(lt:Nat->Nat->Bool):KasT α->(α->Prop)->Prop
 |.ret a,Q=>Q a
 |.ask i j k,Q=>i<n/\j<n/\Asks n lt (k (lt i j)) Q
theorem Asks.bind{α β:Type}{n:Nat}{lt:Nat->Nat->Bool}{f:α->KasT β}{Q:β->Prop}:∀ {t:KasT α} {R:α->Prop},Asks n lt t R->(∀a,R a->Asks n lt (f a) Q)->Asks n lt (t.bind f) Q
 |.ret a,R,h,hf=>hf a h
 |.ask i j k,R,h,hf=>⟨h.1,h.2.1,Asks.bind (t:=k (lt i j)) h.2.2 hf⟩
theorem Asks.wp{α:Type}{n:Nat}{lt:Nat->Nat->Bool}{b:Nat->Nat->(Bool->bYl->Prop)->bYl->Prop}{s:bYl}{G:α->bYl->Prop}(c:∀i j C,i<n->j<n->C (lt i j) s->b i j C s):
  ∀ {t:KasT α} {R:α->Prop},Asks n lt t R->(∀a,R a->G a s)->t.kasWp b G s
 |.ret a,R,h,hf=>hf a h
 |.ask i j k,R,h,hf=>c i j _ h.1 h.2.1 (Asks.wp c (t:=k (lt i j)) h.2.2 hf)
section
variable {n:Nat}{r:Nat->Int}{p:Array Nat}
abbrev Z0(r:Nat->Int):Nat->Nat->Bool:=λi j=>decide (r i<r j)
abbrev R(r:Nat->Int)(p:Array Nat)(k:Nat):Int:=r (p.getD k 0)
structure Ok(n:Nat)(p:Array Nat):Prop where
 perm:p.toList.Perm (bYv n)
theorem Ok.size(h:Ok n p):p.size=n:=by have:=h.perm.length_eq;simpa using this
theorem Ok.lt(h:Ok n p)(h0:0<n)(k:Nat):p.getD k 0<n:=by
 by_cases a:k<p.size
 ·have:p.toList[k]'(by simpa using a)∈p.toList:=cXj _;have:=bYO.mp (h.perm.mem_iff.mp this);simpa[cXK,a]using this
 ·simpa[cXK,a]using h0
theorem Ok.ne(h:Ok n p){i j:Nat}(g:i<n)(k:j<n)(c:i≠j):p.getD i 0≠p.getD j 0:=by
 have f:=h.size;have d:p.toList.Nodup:=h.perm.nodup_iff.mpr cZr;intro e;have a:i<p.size:=by omega
 have b:j<p.size:=by omega
 simp[cXK,a,b]at e;have:=(cQ3 (xs:=p.toList) (h₀:=by simpa using a) (h₁:=by simpa using b) d).mp (by simpa using e);exact c this
def Inj(n:Nat)(r:Nat->Int):Prop:=∀i j,i<n->j<n->r i=r j->i=j
theorem Ok.rne(h:Ok n p)(d:Inj n r){i j:Nat}(b:i<n)(c:j<n)(a:i≠j):R r p i≠R r p j:=λe=>
 h.ne b c a (d _ _ (h.lt (by omega) i) (h.lt (by omega) j) e)
def Srt(r:Nat->Int)(p:Array Nat)(k:Nat):Prop:=∀i j,i<j->j<k->R r p i<R r p j
def Dsc(r:Nat->Int)(p:Array Nat)(k:Nat):Prop:=∀i j,i<j->j<k->R r p j<R r p i
theorem Srt.one:Srt r p 1:=λi j a b=>by omega
theorem aXm(p:Array Nat)(k:Nat):p.getD k 0=(p[k]?).getD 0:=by simp[cXK,cXG];split<;> simp_all
theorem aXX(h:Ok n p)(hr:Inj n r):∀ (f m:Nat),1<=m->m+f<=n->Srt r p m->Asks n (Z0 r) (kas_asc p f m) (λm'=>m<=m'/\m'<=m+f/\Srt r p m'/\(m'<m+f->R r p m'<R r p (m' - 1)))
 |0,m,h1,h2,hs=>⟨bYp _,bYp _,hs,λz=>absurd z (by omega)⟩
 |f+1,m,h1,h2,hs=>by
  refine⟨h.lt (by omega) _,h.lt (by omega) _,?_⟩
  by_cases c:r (p.getD m 0)<r (p.getD (m - 1) 0)
  ·have e:Z0 r (p.getD m 0) (p.getD (m - 1) 0)=true:=decide_eq_true c
   rw[e];show Asks n (Z0 r) (ite _ _ _) _;rw[if_pos rfl]
   exact⟨bYp _,by omega,hs,λ_=>c⟩
  ·have e:Z0 r (p.getD m 0) (p.getD (m - 1) 0)=false:=decide_eq_false c
   rw[e];show Asks n (Z0 r) (ite _ _ _) _;rw[if_neg (by decide)]
   have hne:=h.rne hr (i:=m) (j:=m - 1) (by omega) (by omega) (by omega)
   have hlt:R r p (m - 1)<R r p m:=by
    have:¬R r p m<R r p (m - 1):=c
    omega
   have hs':Srt r p (m+1):=λi j hij hj=>by
    by_cases hjm:j<m
    ·exact hs i j hij hjm
    ·have:j=m:=by omega
     subst this
     by_cases hi:i=j - 1
     ·rw[hi];exact hlt
     ·have:=hs i (j - 1) (by omega) (by omega);omega
   have z:=aXX h hr f (m+1) (by omega) (by omega) hs'
   have e2:m+1+f=m+(f+1):=by omega
   rw[e2]at z
   exact Asks.mono z λm' ⟨a,b,c,d⟩=>⟨by omega,b,c,d⟩
where
 Asks.mono {α:Type} {n:Nat} {lt:Nat->Nat->Bool} {Q Q':α->Prop}:∀ {t:KasT α},Asks n lt t Q->(∀a,Q a->Q' a)->Asks n lt t Q'
  |.ret a,h,hf=>hf a h
  |.ask i j k,h,hf=>⟨h.1,h.2.1,Asks.mono (t:=k (lt i j)) h.2.2 hf⟩
theorem aKr(h:Ok n p)(q:Inj n r):∀ (f m:Nat),1<=m->m+f<=n->Dsc r p m->Asks n (Z0 r) (kas_desc f p m 0) (λz=>z.1=p/\z.2.2=0/\m<=z.2.1/\z.2.1<=m+f/\Dsc r p z.2.1)
 |0,m,h1,h2,hs=>⟨rfl,rfl,bYp _,bYp _,hs⟩
 |f+1,m,h1,h2,hs=>by
  refine⟨h.lt (by omega) _,h.lt (by omega) _,?_⟩;by_cases c:r (p.getD m 0)<r (p.getD (m - 1) 0)
  ·have e:Z0 r (p.getD m 0) (p.getD (m - 1) 0)=true:=decide_eq_true c;rw[e];show Asks n (Z0 r) (ite _ _ _) _;rw[if_pos rfl,if_neg (by omega)];have g:Dsc r p (m+1):=λi j o w=>by
    by_cases l:j<m
    ·exact hs i j o l
    ·have:j=m:=by omega
     subst this;have s:R r p j<R r p (j - 1):=c;by_cases u:i=j - 1
     ·rw[u];exact s
     ·have:=hs i (j - 1) (by omega) (by omega);omega
   have z:=aKr h q f (m+1) (by omega) (by omega) g;have t:m+1+f=m+(f+1):=by omega
   rw[t]at z;exact aXX.Asks.mono z λz ⟨a,b,c,d,e⟩=>⟨a,b,by omega,d,e⟩
  ·have e:Z0 r (p.getD m 0) (p.getD (m - 1) 0)=false:=decide_eq_false c;rw[e];show Asks n (Z0 r) (ite _ _ _) _;rw[if_neg (by decide)];refine⟨h.lt (by omega) _,h.lt (by omega) _,?_⟩;have v:=h.rne q (i:=m) (j:=m - 1) (by omega) (by omega) (by omega);have k:R r p (m - 1)<R r p m:=by
    have:¬R r p m<R r p (m - 1):=c;omega
   have e:Z0 r (p.getD (m - 1) 0) (p.getD m 0)=true:=decide_eq_true k;rw[e];show Asks n (Z0 r) (ite _ _ _) _;rw[if_pos rfl];exact⟨rfl,rfl,bYp _,Nat.le_add_right _ _,hs⟩
theorem bVW{m:Nat}(b:m<=p.size)(k:Nat)(a:k<m):R r (kas_rev p 0 m) k=R r p (m - 1 - k):=by
 unfold R kas_rev;rw[aXm,aXm,getElem?_mirror_all b,if_pos ⟨cQe _,a⟩,Nat.zero_add]
theorem bZR(h:Ok n p)(m:Nat):Ok n (kas_rev p 0 m):=⟨(cJq.mp (mirror_perm p 0 m _)).trans h.perm⟩
theorem bZi(h:Ok n p)(l:Inj n r){m:Nat}(k:1<=m)(e:m<=n)(f:Dsc r p m):Asks n (Z0 r) (kas_tail3 m n p) (λz=>1<=z.1/\z.1<=n/\Ok n z.2/\Srt r z.2 z.1):=by
 have d:Srt r (kas_rev p 0 m) m:=λi j o g=>by rw[bVW (by rw[h.size];exact e) i (by omega),bVW (by rw[h.size];exact e) j g];exact f _ _ (by omega) (by omega)
 refine Asks.bind (aXX (bZR h m) l (n - m) m k (by omega) d) λm' ⟨a,b,c,_⟩=>?_;exact⟨by omega,by omega,bZR h m,c⟩
theorem bQB(h:Ok n p)(g:Inj n r)(y:1<=n):Asks n (Z0 r) (kas_count n p) (λz=>1<=z.1/\z.1<=n/\Ok n z.2/\Srt r z.2 z.1):=by
 refine Asks.bind (aXX h g (n - 1) 1 (bYp _) (by omega) Srt.one) λm ⟨a,b,c,d⟩=>?_;by_cases e:m=n
 ·rw[if_pos (by simpa using e)];exact⟨a,by omega,h,c⟩
 ·rw[if_neg (by simpa using e)];by_cases k:m > 1
  ·rw[if_pos k];refine⟨h.lt (by omega) _,h.lt (by omega) _,?_⟩;have f:R r p 0<R r p (m - 1):=c 0 (m - 1) (by omega) (by omega);have u:Z0 r (p.getD 0 0) (p.getD (m - 1) 0)=true:=decide_eq_true f;rw[u];show Asks n (Z0 r) (ite _ _ _) _;rw[if_pos rfl];exact⟨a,by omega,h,c⟩
  ·rw[if_neg k];have s:m=1:=by omega
   subst s;have w:=d (by omega);refine Asks.bind (aKr h g (n - 2) 2 (by omega) (by omega) ?_) λz ⟨z1,z2,z3,z4,z5⟩=>?_
   ·intro i j x l;have v:i=0:=by omega
    have l:j=1:=by omega
    subst v;subst l;exact w
   ·obtain⟨q,o,t⟩:=z;simp only at z1 z2 z3 z4 z5;subst z1;subst z2;rw[if_neg (by simp)];exact bZi h g (by show 1<=o;omega) (by show o<=n;omega) z5
theorem aXv(h:Ok n p)(m:Inj n r){k:Nat}(t:k<n)(b:Srt r p k):∀ (f l u:Nat),l<=u->u<=k->u - l<=f->(∀i,i<l->R r p i<R r p k)->(∀i,u<=i->i<k->R r p k<R r p i)->
  Asks n (Z0 r) (kas_place p k f l u) (λo=>o<=k/\(∀i,i<o->R r p i<R r p k)/\∀i,o<=i->i<k->R r p k<R r p i)
 |0,l,u,h1,h2,h3,h4,h5=>⟨by omega,h4,λi q a=>h5 i (by omega) a⟩
 |f+1,l,u,h1,h2,h3,h4,h5=>by
  unfold kas_place;by_cases c:l≥u
  ·rw[if_pos c];exact⟨by omega,h4,λi q a=>h5 i (by omega) a⟩
  ·rw[if_neg c];refine⟨h.lt (by omega) _,h.lt (by omega) _,?_⟩;have w:(l+u) / 2<u:=by omega
   have hl:l<=(l+u) / 2:=by omega
   by_cases d:r (p.getD k 0)<r (p.getD ((l+u) / 2) 0)
   ·have e:Z0 r (p.getD k 0) (p.getD ((l+u) / 2) 0)=true:=decide_eq_true d;rw[e];show Asks n (Z0 r) (ite _ _ _) _;rw[if_pos rfl];refine aXv h m t b f l _ hl (by omega) (by omega) h4 λi q a=>?_;have s:R r p k<R r p ((l+u) / 2):=d;by_cases g:i=(l+u) / 2
    ·rw[g];exact s
    ·have:=b ((l+u) / 2) i (by omega) a;omega
   ·have e:Z0 r (p.getD k 0) (p.getD ((l+u) / 2) 0)=false:=decide_eq_false d;rw[e];show Asks n (Z0 r) (ite _ _ _) _;rw[if_neg (by decide)];have s:¬R r p k<R r p ((l+u) / 2):=d;have v:=h.rne m (i:=k) (j:=(l+u) / 2) (by omega) (by omega) (by omega);refine aXv h m t b f _ u (by omega) h2 (by omega) (λi q=>?_) h5;by_cases g:i=(l+u) / 2
    ·rw[g];omega
    ·have:=b i ((l+u) / 2) (by omega) (by omega);omega
theorem bVV{k l:Nat}(h:k<p.size)(hl:l<=k)(i:Nat):R r (bubble p k (k - l)) i=if i=l then R r p k else if l<i/\i<=k then R r p (i - 1)else R r p i:=by
 have e:=getElem?_bubble h (k - l) (by omega) i;rw[show k - (k - l)=l by omega]at e;have d:∀q:Array Nat,∀a b:Nat,∀c:Array Nat,q[a]? =c[b]? ->R r q a=R r c b:=λq a b c z=>by unfold R;rw[aXm,aXm,z]
 by_cases g:i=l
 ·rw[if_pos g]at e ⊢;exact d _ _ _ _ e
 ·rw[if_neg g]at e ⊢;by_cases f:l<i/\i<=k
  ·rw[if_pos f]at e ⊢;exact d _ _ _ _ e
  ·rw[if_neg f]at e ⊢;exact d _ _ _ _ e
theorem bZx(q:Inj n r):∀ (f k:Nat)(p:Array Nat),Ok n p->k+f=n->Srt r p k->Asks n (Z0 r) (kas_bin f p k) (λm=>Ok n m/\Srt r m n)
 |0,k,p,h,e,hs=>⟨h,by rw[<- e];exact hs⟩
 |f+1,k,p,h,e,hs=>by
  refine Asks.bind (aXv h q (k:=k) (by omega) hs k 0 k (by omega) (bYp _) (by omega) (λi d=>absurd d (by omega)) (λi d b=>absurd b (by omega))) λl ⟨h1,h2,h3⟩=>?_;refine bZx q f (k+1) _ ⟨(cJq.mp (bubble_perm p k _)).trans h.perm⟩ (by omega) λi j t u=>?_;have o:k<p.size:=by rw[h.size];omega
  rw[bVV o h1,bVV o h1];by_cases g:i=l
  ·rw[if_pos g];by_cases a:j=l
   ·omega
   ·rw[if_neg a,if_pos ⟨by omega,by omega⟩];exact h3 _ (by omega) (by omega)
  ·rw[if_neg g];by_cases a:j=l
   ·rw[if_pos a,if_neg (by omega)];exact h2 i (by omega)
   ·rw[if_neg a];by_cases c:l<i/\i<=k
    ·rw[if_pos c,if_pos ⟨by omega,by omega⟩];exact hs _ _ (by omega) (by omega)
    ·rw[if_neg c];by_cases s:l<j/\j<=k
     ·rw[if_pos s];by_cases cl:i=j - 1
      ·omega
      ·exact hs _ _ (by omega) (by omega)
     ·rw[if_neg s];exact hs _ _ (by omega) (by omega)
theorem bVx(a:Inj n r)(b:1<=n):Asks n (Z0 r) (kas_sort n) (λp=>Ok n p/\Srt r p n):=by
 have h0:Ok n (cQp (bYv n)):=⟨by simp⟩;refine Asks.bind (bQB h0 a b) λz ⟨h1,h2,h3,h4⟩=>?_;by_cases c:z.1<n
 ·rw[if_pos c,Nat.max_eq_left h1];exact bZx a _ _ _ h3 (by omega) h4
 ·rw[if_neg c];exact⟨h3,by rw[show n=z.1 by omega];exact h4⟩
theorem aZJ(f:Inj n r)(g:1<=n):Asks n (Z0 r) (kas_sort n) (λp=>p.toList.Perm (bYv n)/\p.toList.Pairwise (λi j=>r i<r j)):=by
 refine aXX.Asks.mono (bVx f g) λp ⟨h1,h2⟩=>⟨h1.perm,?_⟩;rw[cXL];intro i j d e c;have b:i<p.size:=by simpa using d
 have a:j<p.size:=by simpa using e
 have z:=h2 i j c (by rw[<- h1.size];exact a);simpa[R,cXK,b,a]using z
end
end Stree
namespace Stree
open PySem PySem.W PySem.Calls PyProof.Rows
section
variable {prog:bYE}{w:bYK}{A:bYW}{E:bYi->bYl->Prop}
theorem aX7{f:bYi}{vs:List bYi}{kS:Nat}{J:List bYi->bYl->Prop}{body:bYi->PUnit->Sem (ForInStep PUnit)}
  (e:∀a s v,J a s->vs[a.length]? =some v->bYq (bYs prog w) A (body v ⟨⟩) (λr b=>r= .yield ⟨⟩/\∃k,J (a++ [k]) b) E s):
  ∀ (r a:List bYi)(s:bYl),vs.drop a.length=r->a.length<=vs.length->J a s->bYq (bYs prog w) A (forIn r PUnit.unit body) (λ_ b=>∃a,a.length=vs.length/\J a b) E s
 |[],a,s,hr,hle,hJ=>by rw[List.forIn_nil];refine bYn ⟨a,?_,hJ⟩;have:=congrArg cXM hr;rw[List.length_drop]at this;simp at this;omega
 |v::r,a,s,hr,hle,hJ=>by
  rw[cZ0];have d:vs[a.length]? =some v:=by have:=congrArg (λl=>l[0]?) hr;simpa using this
  have g:a.length<vs.length:=by
   rcases cZj a.length vs.length with h|h
   ·exact h
   ·rw[bYQ h]at d;cases d
  refine bYj (cQi (e a s v hJ d) (λq b i=>?_) λ_ _ x=>x);obtain⟨rfl,k,c⟩:=i;show bYq (bYs prog w) A (forIn r PUnit.unit body) _ E b;refine aX7 (kS:=kS) (f:=f) e r (a++ [k]) b ?_ (by rw[bYM,cQt];omega) c;rw[bYM,cQt,List.drop_add_one_eq_tail_drop,hr];rfl
theorem bWM{s:bYl}{a:Nat}{vs:List bYi}{f:bYi}{b:Bool}{P:PySem.Fin->bYl->Prop}{n0:Nat}(W:s.heap.get? a=some (bY6 "list" vs.toArray n0))(a7:vs.length<64)(J:Nat->List bYi->bYl->Prop) (h0:∀n q,(∀c o,c≠a->s.heap.get? c=some o->q.get? c=some o)->q.get? a=some (bY6 "list" #[] n)->q.get? (s.heap.objs.size+1)=some (bY6 "list" #[] 0)->J n [] {s with heap:=q}) (hget:∀n g l,J n g l->(∃e,l.heap.get? (s.heap.objs.size+1)=some (bY6 "list" g.toArray e))/\l.heap.get? a=some (bY6 "list" #[] n)) (hcall:∀n g l v,J n g l->vs[g.length]? =some v->bYq (bYs prog w) A (call f [v]) (λk m=>(∃e,m.heap.get? (s.heap.objs.size+1)=some (bY6 "list" g.toArray e))/\ ∀q c,cXi (s.heap.objs.size+1) m.heap q->q.get? (s.heap.objs.size+1)=some (bY6 "list" (g++ [k]).toArray c)->J n (g++ [k]) {m with heap:=q}) (λ_ _=>False) l) (hend:∀n g l,J n g l->g.length=vs.length->∃r:Nat->Int,Inj vs.length r/\ (2<=vs.length->∃κ,(∀Q:SortKind->bYl->Prop,Q κ l->bYq (bYs prog w) A (keyKind' g.toArray) Q (λ_ _=>False) l)/\∀i j C,i<vs.length->j<vs.length->C (decide (r i<r j)) l->kas_ask prog w A κ (katRev b g) i j C l)/\ ∀ (p:List Nat) q c u,p.Perm (bYv vs.length)->p.Pairwise (λi j=>r i<r j)->(∀d,d≠a->d≠s.heap.objs.size+1->q.get? d=l.heap.get? d)->q.get? (s.heap.objs.size+1)=some (bY6 "list" #[] c)-> q.get? a=some (bY6 "list" (katRev b (p.map λi=>(katRev b vs).getD i Value.none)).toArray u)->P (.done (.ret .none)) {l with heap:=q}): bYq (bYs prog w) A (ksk_tree a f b) P E s:=by
 have ha:a<s.heap.objs.size:=bYw W;have R:a≠s.heap.objs.size+1:=bYG (cQq ha);obtain⟨n,T⟩:∃n,(s.heap.update a (bY9 λ_=>(#[]:Array bYi))).get? a=some (bY6 "list" #[] n):=⟨_,cX8 W λ_=> #[]⟩;have M:((s.heap.update a (bY9 λ_=>(#[]:Array bYi))).push (bY6 "tuple" vs.toArray 0)).objs.size=s.heap.objs.size+1:=by rw[size_push',Heap.size_update]
 unfold ksk_tree;refine bYj (listItems_at W rfl ?_);refine bYj (cZw W rfl ?_ (by rw[bYB,bYR];omega) (cQe _));refine bYj (seqEpoch_at T rfl ?_);refine bYj (wpAny_newTuple ?_ (by show vs.length<=_;rw[bYR];omega));refine bYj (cZz ?_ (cQe _));refine cQB ?_;have J0:=h0 n (((s.heap.update a (bY9 λ_=>(#[]:Array bYi))).push (bY6 "tuple" vs.toArray 0)).push (bY6 "list" #[] 0))
  (λc o hc e=>bYm _ (bYm _ ((bYP _ _ (bY0 hc)).trans e)))
  (bYm _ (bYm _ T)) (by rw[<- M];exact bYL _ rfl)
 show bYq _ _ (ksk_rest a f b vs.toArray n (.ref ((s.heap.update a (bY9 λ_=>(#[]:Array bYi))).push (bY6 "tuple" vs.toArray 0)).objs.size)) _ _ _;rw[M];unfold ksk_rest;refine bYj (wpAny_rule ?_);first
  |rw[List.forIn_toArray]
  |(rw[<- Array.forIn_toList];simp only[cJc])
  |rw[<- Array.forIn_toList]
 refine bYj (cQi (aX7 (f:=f) (kS:=s.heap.objs.size+1) (J:=J n) (vs:=vs) (λg l v X hv=>?_) vs [] _ (by simp) (cQe _) J0) (λ_ l hd=>?_) λ_ _ x=>x)
 ·have b1:g.length<vs.length:=by
   rcases cZj g.length vs.length with h|h
   ·exact h
   ·rw[bYQ h]at hv;cases hv
  refine bYj (cZy (cQi (hcall n g l v X hv) (λk m hk=>?_) λ_ _ hF=>hF.elim));obtain⟨⟨e,nk⟩,c⟩:=hk;have s1:=cQK m.heap (s.heap.objs.size+1) (bY9 (·.push k));have ea:(cQp g).push k=cQp (g++ [k]):=by simp
  obtain⟨u,H⟩:∃u,(m.heap.update (s.heap.objs.size+1) (bY9 (·.push k))).get? (s.heap.objs.size+1)=some (bY6 "list" (cQp (g++ [k])) u):=⟨_,by rw[<- ea];exact cX8 nk (·.push k)⟩;try dsimp only
  refine bYj (cZw nk rfl ?_ (by rw[bYB,bYR];omega) (bYT (cXS (Array.size_push ..)) (by rw[bYB,bYR];omega)));exact bYn ⟨rfl,k,c _ u s1 H⟩
 ·obtain⟨g,hl,X⟩:=hd;obtain⟨⟨e,I⟩,a9⟩:=hget n g l X;try dsimp only
  refine bYj (listItems_at I rfl ?_);obtain⟨r,hr,S,V⟩:=hend n g l X hl;have step:∀t:Sem PySem.Fin,bYq (bYs prog w) A t P E l->bYq (bYs prog w) A (if b=true then(do let _ <- rule "list.sort.reverse";t)else t) P E l:=by
   intro t ht;split
   ·exact bYj (wpAny_rule ht)
   ·exact ht
  have K:(katRev b g).length=(katRev b vs).length:=by rw[kat_len,kat_len,hl]
  have D:∀ (Y:SortSt)(p:List Nat),p.Perm (bYv vs.length)->p.Pairwise (λi j=>r i<r j)->(arrOf Y).map (·.2)=cQp (p.map λi=>(katRev b vs).getD i Value.none)->failedOf Y=none->
    bYq (bYs prog w) A (ksk_tail a b n (.ref (s.heap.objs.size+1)) Y) P E l:=by
   intro Y p y G U hf
   have a5:p.length=vs.length:=by rw[y.length_eq,bY8]
   obtain⟨ck,a6⟩:∃ck,(l.heap.update (s.heap.objs.size+1) (bY9 λ_=>(#[]:Array bYi))).get? (s.heap.objs.size+1)=some (bY6 "list" #[] ck):=⟨_,cX8 I λ_=> #[]⟩
   have na:(l.heap.update (s.heap.objs.size+1) (bY9 λ_=>(#[]:Array bYi))).get? a=some (bY6 "list" #[] n):=(bYP _ _ (bY0 R)).trans a9
   obtain⟨u,H⟩:∃u,((l.heap.update (s.heap.objs.size+1) (bY9 λ_=>(#[]:Array bYi))).update a (bY9 λ_=>cQp (katRev b (p.map λi=>(katRev b vs).getD i Value.none)))).get? a=some (bY6 "list" (cQp (katRev b (p.map λi=>(katRev b vs).getD i Value.none))) u):=
    ⟨_,cX8 na λ_=>cQp (katRev b (p.map λi=>(katRev b vs).getD i Value.none))⟩
   have a8:(cQp (katRev b (p.map λi=>(katRev b vs).getD i Value.none))).size=vs.length:=by rw[bYB,kat_len,bYo,a5]
   unfold ksk_tail
   try dsimp only
   rw[U,kat_outs]
   refine bYj (cZw I rfl ?_ (by rw[bYB,bYR];omega) (cQe _))
   refine bYj (wpAny_letGo ?_)
   refine bYj (seqEpoch_at na rfl ?_)
   refine bYj (cZw na rfl ?_ (cQe _) (bYT (cXS a8) (by rw[bYR];omega)))
   rw[hf]
   simp only[bne_self_eq_false,Bool.false_eq_true,if_false]
   refine bYn (V p _ ck u y G (λd h1 B=>?_) ?_ H)
   ·exact(bYP _ _ (bY0 h1)).trans (bYP _ _ (bY0 B))
   ·exact(bYP _ _ R).trans a6
  unfold ksk_end;try dsimp only
  refine step _ ?_;rw[kat_pairs b hl];by_cases B:vs.toArray.size<2
  ·rw[if_pos B,if_pos B];refine bYj (bYn ?_);refine bYj (bYn ?_);have L:vs.length<2:=by rw[bYB]at B;exact B
   refine D _ (bYv vs.length) (List.Perm.refl _) ?_ ?_ rfl
   ·rw[cXL];intro i j Z hj b2;rw[bY8]at Z hj;omega
   ·show((cQp (katRev b g)).zip (cQp (katRev b vs))).map (·.2)=_;apply Array.toList_inj.mp;rw[Array.toList_map,Array.toList_zip];simp only[cJc];have n:(cZF (katRev b g) (katRev b vs)).map (·.2)=katRev b vs:=List.map_snd_zip (cXS K.symm);rw[n];apply cXv;intro i;rw[bYC];by_cases Z:i<vs.length
    ·have F:i<(katRev b vs).length:=by rw[kat_len];exact Z
     rw[cXh Z];simp[bY4,bYh F]
    ·have F:(katRev b vs).length<=i:=by rw[kat_len];omega
     rw[bYQ F,bYQ (by rw[bY8];omega)];rfl
  ·have L:2<=vs.length:=by rw[bYB]at B;omega
   rw[if_neg B,if_neg B];obtain⟨κ,hκ,O⟩:=S L;refine bYj (cQi (hκ (λk m=>k=κ/\m=l) ⟨rfl,rfl⟩) (λk m hq=>?_) λ_ _ x=>x.elim);obtain⟨rfl,rfl⟩:=hq;have b0:(kas_sort (katRev b vs).length).kasWp (kas_ask prog w A k (katRev b g)) (λp N=>N=m/\p.toList.Perm (bYv vs.length)/\p.toList.Pairwise (λi j=>r i<r j)) m:=by rw[kat_len];exact Asks.wp (lt:=Z0 r) O (aZJ hr (by omega)) λp hp=>⟨rfl,hp⟩
   refine bYj (cQi (kat_run (Q:=λz N=>∃p:Array Nat,arrOf z=p.map (kas_item ((cQp (katRev b g)).zip (cQp (katRev b vs))))/\failedOf z=none/\
     N=m/\p.toList.Perm (bYv vs.length)/\p.toList.Pairwise (λi j=>r i<r j))
    K (by rw[kat_len];exact L) (by rw[kat_len];exact a7) (λp' z N a1 a2 a3 a4=>⟨p',a2,a3,a4⟩) b0) ?_ λ_ _ x=>x)
   rintro⟨⟨⟩,z⟩ N ⟨p,a0,hf,rfl,y,G⟩;try dsimp only
   exact D _ p.toList y G (kat_snds K a0) hf
end
end Stree
namespace L2
open PySem PySem.Spec PyProof.Rows
abbrev bW4(X:Cx)(A:bYW)(N:List Str)(qual:Str)(sc:cXs)(L q:Nat)(cd:bYi)(cl:List (Str×Nat))(s:bYl)(H:Hp):Cx:=
 {X with A:=A.deeper (PySem.W.envX qual sc L q cd cl),N:=N,s₀:=s,H₀:=H,env:=PySem.W.envX qual sc L q cd cl,outer:=X.stack,stack:=PySem.W.envX qual sc L q cd cl::X.stack,ex:= [],fn:=λ_=>false,calm:=true,pn:= [],xe:=λ_ _=>False}
section
variable {X:Cx}{pins:List (Nat×Obj)}{σ:St}{H:Hp}{s:bYl}
theorem bQT{A:bYW}{x:Str}{names:List Str}{M:List Nat}{f:cXs}{cl:List (Str×Nat)}{name qual:Str}{d:Arguments}{body:Expr}{pm P:bYi}{q n:Nat}{te:TE}{v:V}{u:bYi}{Q:VK} (I:Inv X pins σ H s) (hA:A.frames=some X.stack) (hd:A.handled=none) (F:A.depth<recursionLimit) (S:xH X.N X.env.scope x names M f) (a0:f.isCoroutine=false) (R:f.isGenerator=false) (a:∀y c,cl.lookup y=some c->X.env.cells.lookup y=some c) (B:∀y,(y,NameKind.free)∈f.names->∃c,cl.lookup y=some c) (ho:s.heap.get? q=some (cXr name qual d body f cl pm n P)) (a4:s.heap.CodeRec (.ref n) qual) (E:∀u:bYi,cXY (PySem.W.kla_fn name qual d body f cl pm (.ref n) P) ⟨[u],[]⟩=pure [(x,u)]) (he:∀A L cd s H,PE (bW4 X A (x::names) qual f L q cd cl s H) body te) (r:zE v u) (h:te (sub σ M (some v)) H Q): bYq (bYs X.prog X.w) A (call (.ref q) [u]) (EP X pins σ Q) (λ_ _=>False) s:=by
 have a2:cXw (bYs X.prog X.w) A (.call (.ref q) ⟨[u],[]⟩) (λr s'=>match r with|.ok (.ret u)=>EP X pins σ Q u s'|_=>False) s:=by
  refine PySem.W.kla_callFunE F ho rfl a0 R rfl a4 ?_;rw[E u];refine bYn (wpAny_newFunctionEnv S.nocell (λy hy=>by rw[bYz.mp hy];exact S.var) (λC a5 a1=>?_) S.kind);have keep:∀b o,s.heap.get? b=some o->C.get? b=some o:=λb o e=>a1.extBut b o (bYG (bYw e)) (bYm _ e);refine⟨I.nolimit.keeps keep,?_⟩;show cXw _ _ (.expr body (PySem.W.envX qual f s.heap.objs.size q (.ref n) cl)) _ _;have a3:(bW4 X A (x::names) qual f s.heap.objs.size q (.ref n) cl s H).Ok:=by
   refine⟨I.ok.mod,S.kind,rfl,rfl,bYp _,?_,?_,?_,λ_=>hd,Around.frames_deeper hA,.inr ⟨rfl,rfl⟩,?_,I.bs,bYT I.ok.bsz I.sz,?_,?_,I.stack,I.stkFree⟩
   ·exact λy z c T Z=>I.ok.inj y z c (a y c T) (a z c Z)
   ·intro y hy;have g:f.names.lookup y=some .cell\/f.names.lookup y=some .free:=hy;rcases g with g|g
    ·exact absurd rfl (S.nocell _ (cQL g))
    ·exact B y (cQL g)
   ·exact λy c h _=>by cases h
   ·exact λb E=>absurd (show b∈([]:List Nat)from E) (by simp)
   ·exact λb o _ E=>absurd (show b∈([]:List Nat)from E) (by simp)
   ·exact λb E=>absurd (show b∈([]:List Nat)from E) (by simp)
  have IY:Inv (bW4 X A (x::names) qual f s.heap.objs.size q (.ref n) cl s H) [] (sub σ M (some v)) H {s with heap:=C,toks:=s.toks+ [(x,u)].length}:=by
   refine⟨a3,rfl,I.bare,Un.kept keep,⟨_,a5,?_⟩,?_,I.hok.fresh (bYp _),λy c e=>I.freeC y c (a y c e),λp hp=>absurd (show p∈([]:List (Nat×Obj))from hp) (by simp),I.hok.kept keep,?_⟩
   ·intro i y t T Z h3;cases i with
    |zero=>
     have D:x=y:=by simpa using T
     have G:v=t:=by have z:(some (some v):Option (Option V))=some (some t):=Z;cases z;rfl
     subst D;subst G;exact⟨u,r,.inl ⟨S.var,by simp[cXy]⟩⟩
    |succ j=>
     have D:names[j]? =some y:=T;obtain⟨U,e1,e2,Y⟩:=S.from_ j y D;have G:σ[U]? =some (some t):=by
      have z:(M.map λi=>(σ[i]?).join)[j]? =some (some t):=Z;rw[bYC,e1]at z;have l:(σ[U]?).join=some t:=bYD z;cases q:σ[U]? with
      |none=>rw[q]at l;cases l
      |some o=>rw[q]at l;rw[show o=some t from l]
     obtain⟨m,hn,hl⟩:=I.loc;have O:Vis X.env.scope y:= .inr (S.free _ Y rfl);obtain⟨u',ru,lk⟩:=hl U y t e2 G O;refine⟨u',ru,.inr ⟨?_,?_⟩⟩
     ·exact .inr (S.flk _ Y rfl)
     ·rcases lk with⟨k,_⟩|⟨k,c,e,z⟩
      ·rcases S.free _ Y rfl with z|z
       ·have l:X.env.kindOf y=some .cell:=z;rw[k]at l;cases l
       ·have l:X.env.kindOf y=some .free:=z;rw[k]at l;cases l
      ·obtain⟨n,e'⟩:=B y Y;have:=a y n e';rw[e]at this;cases this;exact⟨c,e',z.keeps keep⟩
   ·intro y c e;obtain⟨v,z⟩:=I.cell y c (a y c e);exact⟨v,z.keeps keep⟩
   ·show(sub σ M (some v)).length=(x::names).length;simp[sub,S.len]
  refine PySem.W.kla_codeExpr (cQi (he A s.heap.objs.size (.ref n) s H [] _ (sub σ M (some v)) H Q IY h) (λw s' K=>?_) (λ_ _ z=>z.elim));obtain⟨t,H',J,rv,q⟩:=K;exact I.after ⟨t,H',J.os,J.bare,J.base,J.hok,rv,q⟩
 refine cZt (cQ7 a2 λr s' K=>?_);cases r with
 |error e=>exact K
 |ok fl=>
  cases fl with
  |ret u=>exact K
  |next=>exact K
  |brk=>exact K
  |cont=>exact K
end
end L2
namespace L2
open PySem PySem.Spec PyProof.Rows
def aKk(c:Nat)(qual:Str):HO:= .ext λh=>h.CodeRec (.ref c) qual
def bWk(q:Nat)(o:Obj):HO:= .ext λh=>h.get? q=some o
theorem bQA{P:bYE}{w:bYK}{H:Hp}{h:Heap}{c:Nat}{qual:Str}(r:h.CodeRec (.ref c) qual):x4 P w H h c (aKk c qual):=by
 obtain⟨q,o,s,t,e,b,g,n⟩:=id r;cases e;refine⟨r,⟨o,b⟩,λb g z k=>?_⟩;obtain⟨p,m,a,l,f,j,d,i⟩:=z;cases f;exact⟨_,m,a,l,rfl,k _ j,d,i⟩
theorem aKZ{P:bYE}{w:bYK}{H:Hp}{h:Heap}{q:Nat}{o:Obj}(r:h.get? q=some o):x4 P w H h q (bWk q o):=⟨r,⟨o,r⟩,λb a z k=>k _ z⟩
def qW(pos:Pos)(qual:Str)(P:Nat)(H:Hp):Prop:=
 H P=some (.tbl #[])\/∃a,H P=some (.tbl (#[]++ #[cQy pos.line,cQy pos.col,.ref a]))/\H a=some (aKk a qual)
def x5(H a:Hp):Prop:=∀b o,(∀c,o≠ .tbl c)->H b=some o->a b=some o
theorem xA.t{H a:Hp}(k:xA H a):x5 H a:=λb o _ e=>k b o e
theorem x5.refl(H:Hp):x5 H H:=λ_ _ _ e=>e
theorem x5.trans{H d f:Hp}(a:x5 H d)(b:x5 d f):x5 H f:=λc o n e=>b c o n (a c o n e)
theorem x5.lst{H b:Hp}(k:x5 H b){a:Nat}{xs:List V}(h:H a=some (.lst xs)):b a=some (.lst xs):=k a _ (λ_ z=>nomatch z) h
theorem x5.tup{H b:Hp}(k:x5 H b){a:Nat}{xs:List V}(h:H a=some (.tup xs)):b a=some (.tup xs):=k a _ (λ_ z=>nomatch z) h
theorem x5.ext{H b:Hp}(k:x5 H b){a:Nat}{φ:Heap->Prop}(h:H a=some (.ext φ)):b a=some (.ext φ):=k a _ (λ_ z=>nomatch z) h
theorem aJ0:PySem.TriplesOk (#[]:Array bYi).toList:=trivial
theorem aJ1{a b:Int}{v:bYi}:PySem.TriplesOk ((#[]++ #[cQy a,cQy b,v]:Array bYi)).toList:=trivial
theorem aKc{pos:Pos}{v:bYi}:codeAmong pos ((#[]++ #[cQy pos.line,cQy pos.col,v]:Array bYi)).toList=some v:=by
 show(if((pos.line:Int)==pos.line && (pos.col:Int)==pos.col)=true then some v else _)=some v;simp
section
variable {X:Cx}{pins:List (Nat×Obj)}{σ:St}{H:Hp}{s:bYl}
theorem Inv.tab{P:Nat}{d more:Array bYi}{h':Heap}{t':Nat}(I:Inv X pins σ H s)(h:H P=some (.tbl d))(f:cZQ P s.heap h')(j:h'.get? P=some {cls:= .none,data:= .fields (d++more) }): Inv X pins σ (upd H P (.tbl (d++more))) {s with heap:=h',toks:=t'}:=by
 have i:∀b,H b=none->b≠P:=λb n z=>by rw[z,h]at n;cases n
 have ne:∀b o,H b=some o->(∀d,o≠ .tbl d)->b≠P:=λb o e n z=>by subst z;rw[h]at e;cases e;exact n _ rfl
 refine I.un (t':=t') ⟨λb o e n _ _=>f b o (i b n) e,λb o e n _ _=>⟨o.slots,f b o (i b n) e⟩,λb o e n _=>by rw[yI (i b n)];exact n,λb o e _=>?_,λb k e=>?_,λb o u e=>?_,λb l e=>?_⟩ λb u e=>?_
 ·by_cases a:b=P
  ·exact⟨_,by rw[a];exact j⟩
  ·exact⟨o,f b o a e⟩
 ·rw[yI (ne b _ e λ_ z=>nomatch z)];exact e
 ·rw[yI (ne b _ e λ_ z=>nomatch z)];exact e
 ·by_cases a:b=P
  ·subst a;rw[h]at e;cases e;exact⟨more,yB⟩
  ·exact⟨#[],by rw[yI a,e];simp⟩
 ·by_cases a:b=P
  ·subst a;rw[yB]at e;cases e;exact j
  ·rw[yI a]at e;refine(I.hok b u e).stay (λc v g q=>f c v ?_ q) (λc q=>?_) λc k q=>?_
   ·rcases g with rfl|g
    ·exact a
    ·exact ne c _ g λ_ z=>nomatch z
   ·rw[yI (ne c _ q λ_ z=>nomatch z)];exact q
   ·rw[yI (ne c _ q λ_ z=>nomatch z)];exact q
theorem bQU{name qual:Str}{d:Arguments}{body:Expr}{r:cXs}{c P:Nat}{pos:Pos}{fl:Nat}{cl:List (Str×Nat)}{E:bYi->bYl->Prop}{Q:bYi->bYl->Prop}(I:Inv X pins σ H s)(G:closureFor r X.env=pure cl)(m:X.env.code= .ref c) (C:cXk X.base c P) (hB:X.base.BuiltinsAt X.mg P) (hT:qW pos qual P H) (hq:∀ (q f:Nat)(g:bYi)(D:Hp)(s':bYl),Inv X pins σ D s'->H q=none->D q=some (bWk q (cXr name qual d body r cl ((X.mg "__name__").getD .none) f g))->D f=some (aKk f qual)->qW pos qual P D->x5 H D->Q (.ref q) s'): bYq (bYs X.prog X.w) X.A (makeFunction name qual d (.expr body) r X.env [] [] [] pos fl) Q E s:=by
 have Z:s.heap.Ns bYN X.mg:=I.ok.mod.glob.keeps I.bk;have hC:=C.keeps I.bk;obtain⟨bm,ob,b1,b2,b3,b4,b5,b6⟩:=hB;have O:s.heap.BuiltinsAt X.mg P:=⟨bm,ob,b1,b2,b3,b4,I.bk _ _ b5,b6⟩;rcases hT with p|⟨f,p,L⟩
 ·have l:s.heap.get? P=some (cXP #[]):=I.hok P _ p;have a1:bYN≠P:=λz=>by
   obtain⟨o,es,ep,e,hd,_⟩:=Z;rw[z,l]at e;cases e;cases hd
  refine PySem.W.kla_makeFunction (mg:=X.mg) G I.ok.glob Z m hC l aJ0 rfl a1 O λf g h tk R i F N x=>?_;have T:=I.tab (t':=tk) p R x;have y:P≠f:=bYG (bYJ (bYw l) i);have Y:H f=none:=I.hok.fresh i;have B:upd H P (.tbl (#[]++ #[cQy pos.line,cQy pos.col,.ref f])) f=none:=by rw[yI (bY0 y)];exact Y
  have I2:Inv X pins σ (upd (upd H P (.tbl (#[]++ #[cQy pos.line,cQy pos.col,.ref f]))) f (aKk f qual)) {s with heap:=h,toks:=tk}:=by
   have a2:cZQ P s.heap h:=R;have nP:∀b,H b=none->b≠P:=λb n z=>by rw[z,p]at n;cases n
   have ne:∀b o,H b=some o->(∀ps,o≠ .tbl ps)->b≠P:=λb o e n z=>by subst z;rw[p]at e;cases e;exact n _ rfl
   have a0:∀b o,s.heap.get? b=some o->b≠f:=λb o e=>bYG (bYJ (bYw e) i);have S:∀b,b≠P->b≠f->upd (upd H P (.tbl (#[]++ #[cQy pos.line,cQy pos.col,.ref f]))) f (aKk f qual) b=H b:=λb U h2=>by rw[yI h2,yI U]
   have hl:∀b u,H b=some u->b≠f:=λb u e=>yJ e Y;refine I.un (t':=tk) ⟨λb o e n _ _=>R b o (nP b n) e,λb o e n _ _=>⟨o.slots,R b o (nP b n) e⟩,λb o e n _=>by rw[S b (nP b n) (a0 b o e)];exact n,λb o e _=>?_,λb xs e=>?_,λb o u e=>?_,λb qs e=>?_⟩ λb u e=>?_
   ·by_cases K:b=P
    ·exact⟨_,by rw[K];exact x⟩
    ·exact⟨o,R b o K e⟩
   ·rw[S b (ne b _ e λ_ z=>nomatch z) (hl b _ e)];exact e
   ·rw[S b (ne b _ e λ_ z=>nomatch z) (hl b _ e)];exact e
   ·by_cases K:b=P
    ·subst K;rw[p]at e;cases e;exact⟨_,by rw[yI y];exact yB⟩
    ·exact⟨#[],by rw[S b K (hl b _ e),e];simp⟩
   ·by_cases M:b=f
    ·subst M;rw[yB]at e;cases e;exact bQA N
    ·rw[yI M]at e;refine(T.hok b u e).stay (λc v _ q=>q) (λc q=>?_) λc xs q=>?_
     ·rw[yI (yJ q B)];exact q
     ·rw[yI (yJ q B)];exact q
  have j:H h.objs.size=none:=I.hok.fresh (bYT i (cXT F));have I3:=I2.laid (a:=h.objs.size) (o:=bWk h.objs.size (cXr name qual d body r cl ((X.mg "__name__").getD .none) f g)) (t':=tk) (h':=h.push (cXr name qual d body r cl ((X.mg "__name__").getD .none) f g))
   (λb o e=>bYm _ e) (bYp _) (aKZ (bYL _ rfl))
  have J:f≠h.objs.size:=bYG F;have V:P≠h.objs.size:=bYG (bYw x);refine hq h.objs.size f g _ _ I3 j yB (by rw[yI J];exact yB) (.inr ⟨f,by rw[yI V,yI y];exact yB,by rw[yI J];exact yB⟩) λb o n e=>?_;have U:b≠P:=λz=>by subst z;rw[p]at e;cases e;exact n _ rfl
  rw[yI (yJ e j),yI (yJ e Y),yI U];exact e
 ·have l:s.heap.get? P=some (cXP (#[]++ #[cQy pos.line,cQy pos.col,.ref f])):=I.hok P _ p;refine PySem.W.kla_makeFunctionHit (mg:=X.mg) G I.ok.glob Z m hC l aJ1 aKc O λg h tk hk i=>?_;have T:Inv X pins σ H {s with heap:=h,toks:=tk}:=I.kept hk;have j:H h.objs.size=none:=T.hok.fresh (bYp _);have I3:=T.laid (a:=h.objs.size) (o:=bWk h.objs.size (cXr name qual d body r cl ((X.mg "__name__").getD .none) f g)) (t':=tk) (h':=h.push (cXr name qual d body r cl ((X.mg "__name__").getD .none) f g))
   (λb o e=>bYm _ e) (bYp _) (aKZ (bYL _ rfl))
  have k:=yG j (bWk h.objs.size (cXr name qual d body r cl ((X.mg "__name__").getD .none) f g));exact hq h.objs.size f g _ _ I3 j yB (k _ _ L) (.inr ⟨f,k _ _ p,k _ _ L⟩) k.t
end
end L2
namespace Stree
open PySem PySem.W PySem.Calls PyProof.Rows
theorem Q2{α:Type}(p q:α->Bool):∀ (l:List α),(∀a∈l,p a=true->q a=true)->(∃a∈l,p a=false/\q a=true)->l.countP p<l.countP q
 |[],_,h=>by obtain⟨a,b,_⟩:=h;cases b
 |x::r,hs,h=>by
  have e:r.countP p<=r.countP q:=List.countP_mono_left λa b=>hs a (bYt _ b);obtain⟨a,b,d,c⟩:=h;rcases bYr.mp b with rfl|b
  ·rw[cZU,cZU,d,c];simp;omega
  ·have g:=Q2 p q r (λa b=>hs a (bYt _ b)) ⟨a,b,d,c⟩;rw[cZU,cZU];have:=hs x bYx;cases f:p x with
   |false=>cases q x<;> simp<;> omega
   |true=>rw[this f];simp;omega
theorem aJA{n:Nat}(lt:Nat->Nat->Bool)(g:∀i,i<n->lt i i=false)(p:∀i j k,i<n->j<n->k<n->lt i j=true->lt j k=true->lt i k=true)(f:∀i j,i<n->j<n->i≠j->lt i j=true\/lt j i=true): ∃r:Nat->Int,Inj n r/\∀i j,i<n->j<n->decide (r i<r j)=lt i j:=by
 refine⟨λi=>((bYv n).countP λm=>lt m i:Nat),?_,?_⟩
 ·have up:∀i j,i<n->j<n->lt i j=true->((bYv n).countP λm=>lt m i)<((bYv n).countP λm=>lt m j):=λi j a c h=>
   Q2 _ _ _ (λm o d=>p m i j (bYO.mp o) a c d h) ⟨i,bYO.mpr a,g i a,h⟩
  intro i j a c e;by_cases b:i=j
  ·exact b
  ·exfalso;have q:(((bYv n).countP λm=>lt m i:Nat):Int)=((bYv n).countP λm=>lt m j:Nat):=e;rcases f i j a c b with h|h
   ·have:=up i j a c h;omega
   ·have:=up j i c a h;omega
 ·intro i j a c;have up:∀i j,i<n->j<n->lt i j=true->((bYv n).countP λm=>lt m i)<((bYv n).countP λm=>lt m j):=λi j a c h=>
   Q2 _ _ _ (λm o d=>p m i j (bYO.mp o) a c d h) ⟨i,bYO.mpr a,g i a,h⟩
  cases h:lt i j with
  |true=>have:=up i j a c h;exact decide_eq_true (by show(((bYv n).countP λm=>lt m i:Nat):Int)<((bYv n).countP λm=>lt m j:Nat);omega)
  |false=>
   refine decide_eq_false ?_;show ¬ (((bYv n).countP λm=>lt m i:Nat):Int)<((bYv n).countP λm=>lt m j:Nat);by_cases b:i=j
   ·subst b;omega
   ·rcases f i j a c b with l|l
    ·rw[h]at l;cases l
    ·have:=up j i c a l;omega
section
variable {prog:bYE}{w:bYK}{A:bYW}{E:bYi->bYl->Prop}{s:bYl}
theorem aXg{r:Nat}{n:Nat}{t u v:Tok}{Q:List bYi->bYl->Prop}(P:A.handled=none)(M:IsRange s.heap r 0 n 1 t u v)(V:n<64) (O:∀m tk H,(∀b o,s.heap.get? b=some o->m.get? b=some o)->s.heap.objs.size<m.objs.size->cXN H ((bYv n).map Int.ofNat)->Q H {s with heap:=m,toks:=tk}):bYq (bYs prog w) A (collect (.ref r)) Q E s:=by
 have T:Builtin.Range.rangeSize 0 n 1=(n:Int):=by rw[rangeSize_one];split<;> omega
 have C:Builtin.Range.small 0 n 1=true:=small_one (by decide) (by decide) (by omega) (by omega);unfold collect;refine bYj (wpAny_runValue (cXt F.entry_proto_collect ?_));rw[cXa F.plain_proto_collect _];show bYq _ A.in1 (newList [] >>=λl=>again (.builtin "list.__iadd__" ⟨[l,.ref r],[]⟩)) _ _ s;refine bYj (cXe ?_);refine bYn ⟨cZx F.plain_list_iadd _,cXt F.entry_list_iadd ?_⟩;rw[cXa F.plain_list_iadd _];have d:(s.heap.push {cls:= .type "list",data:= .seq ([]:List bYi).toArray}).get? s.heap.objs.size=some {cls:= .type "list",data:= .seq ([]:List bYi).toArray}:=bYL _ rfl;show bYq _ A.in1 (cZl (.ref s.heap.objs.size) (.ref r) (.ref s.heap.objs.size)) _ _ _;refine cQi (wpAny_extend_range (A:=A) (R:=λq y=>q= .ok (.ret (.ref s.heap.objs.size))/\∃a g,y.heap.get? s.heap.objs.size=some {cls:= .type "list",dict:=none,data:= .seq a g,slots:= #[] }/\Q a.toList y) (s:={s with heap:=s.heap.push {cls:= .type "list",data:= .seq ([]:List bYi).toArray} }) P (bYm _ M) C T (by omega) s.heap.objs.size (.ref s.heap.objs.size) 0 d λm tk a g K j c=>⟨rfl,a,g,j,?_⟩) (λfin y B=>?_) λe y L=>by obtain⟨z,_⟩:=L;cases z
 rotate_left
 ·cases fin with
  |done f=>
   obtain⟨e,a,g,p,h⟩:=B;have I:f= .ret (.ref s.heap.objs.size):=by cases e;rfl
   subst I;exact bYj (wpAny_load p (bYn h))
  |again g=>
   exact⟨B.1,cQ7 B.2 λq N U=>by
    obtain⟨rfl,a,g,p,h⟩:=U;exact bYj (wpAny_load p (bYn h))⟩
 refine O m tk a.toList (λb o e=>K b o (bYG (bYw e)) (bYm _ e)) (bYw j) ?_;have len:a.toList.length=n:=by rw[cQD];exact c.1
 have all:∀ (k:Nat)(l:List bYi),l.length<=n->k+l.length=n->(∀i v,l[i]? =some v->∃t,v=Value.int ((k+i:Nat):Int) t)->cXN l ((List.range' k l.length).map Int.ofNat):=by
  intro k l;induction l generalizing k with
  |nil=>intro _ _ _;exact .nil
  |cons x l J=>
   intro p h G;obtain⟨t,rfl⟩:=G 0 x rfl;rw[cQh,List.range'_succ,bY2];exact .cons _ _ (J (k+1) (by rw[cQh]at p;omega) (by rw[cQh]at h;omega) λi v D=>by
    obtain⟨S,e⟩:=G (i+1) v D;exact⟨S,by rw[e,show k+(i+1)=k+1+i by omega]⟩)
 have z:=all 0 a.toList (by omega) (by omega) λi v D=>by obtain⟨t,e⟩:=c.2 i v (by rw[<- cQP];exact D);exact⟨t,by rw[e,show(0:Int)+(i:Int)*1=((0+i:Nat):Int) by omega]⟩
 rw[len]at z;rw[List.range_eq_range'];exact z
theorem aZK{r:Nat}{n:Nat}{t u v:Tok}{b:Bool}{f:bYi}{i:List (Str×bYi)}{Q:bYi->bYl->Prop}(H:A.handled=none)(G:IsRange s.heap r 0 n 1 t u v)(D:n<64) (p:argsOk "sorted" ⟨[.ref r],i⟩) (l:∀x,argsOk "list.sort" ⟨[.ref x],i⟩) (C:∀x,cQ2.«list.sort» ⟨[.ref x],i⟩=ksk_tree x f b) (h:∀a c tk d,(∀b o,s.heap.get? b=some o->c.get? b=some o)->s.heap.objs.size<=a->c.get? a=some (bY6 "list" d.toArray 0)->cXN d ((bYv n).map Int.ofNat)-> bYq (bYs prog w) A.in1.in1 (ksk_tree a f b) (λfin z=>fin= .done (.ret .none)/\Q (.ref a) z) (λ_ _=>False) {s with heap:=c,toks:=tk}): bYq (bYs prog w) A (call (.builtin "sorted") [.ref r] i) Q E s:=by
 refine call_function_entry_kw kind_sorted plain_sorted entry_sorted p ?_;unfold cQ2.«sorted»;refine bYj (m:=checkCount "sorted" 1 1 _) (bYn ?_);refine bYj (aXg (A:=A.in1) (by simpa using H) G D λc tk d F j y=>?_);have B:d.length=n:=by rw[y.length];simp
 refine bYj (cZz ?_ (by rw[bYR];omega));have g:(c.push (bY6 "list" d.toArray 0)).get? c.objs.size=some (bY6 "list" d.toArray 0):=bYL _ rfl;have k:s.heap.objs.size<=c.objs.size:=cXT j;refine bYj (cQB (wpAny_call_entry_kw slot_list_sort ⟨_,g,rfl⟩ entry_list_sort ?body (l _)));case body=>
  show bYq (bYs prog w) A.in1.in1 (cQ2.«list.sort» ⟨[.ref c.objs.size],i⟩) _ _ _;rw[C c.objs.size];refine cQi (h c.objs.size (c.push (bY6 "list" d.toArray 0)) tk d (λb o e=>bYm _ (F b o e)) k g y) (λfin z q=>?_) λ_ _ x=>x.elim;obtain⟨rfl,q⟩:=q;exact⟨_,rfl,bYn ⟨_,rfl,q⟩⟩
end
end Stree
namespace Stree
open PySem PySem.W PySem.Calls PyProof.Rows
def zW(a b:Int×Int):Bool:=decide (a.1<b.1) || (decide (a.1=b.1) && decide (a.2<b.2))
theorem wL(a:Int×Int):zW a a=false:=by simp[zW]
theorem aXp{a b c:Int×Int}(e:zW a b=true)(d:zW b c=true):zW a c=true:=by
 simp only[zW,Bool.or_eq_true,Bool.and_eq_true,decide_eq_true_eq]at e d ⊢;omega
theorem aXo{a b:Int×Int}(h:a≠b):zW a b=true\/zW b a=true:=by
 have c:¬ (a.1=b.1/\a.2=b.2):=λ⟨x,y⟩=>h (Prod.ext x y);simp only[zW,Bool.or_eq_true,Bool.and_eq_true,decide_eq_true_eq];omega
section
variable {prog:bYE}{w:bYK}{A:bYW}{E:bYi->bYl->Prop}{s:bYl}
theorem aZ7{a c:Int}{t t':Tok}{Q:Bool->bYl->Prop}(h:Q (a==c) s):bYq (bYs prog w) A (eqBool (.int a t) (.int c t')) Q E s:=
 (L2.bZC (A:=A) (s:=s) (y:= .int a) (x:= .int c) ⟨t,rfl⟩ ⟨t',rfl⟩ rfl rfl) prog w E Q h
theorem aKS{x y:Nat}{g f:Obj}{n k:Nat}{a b c d:Int}{j l t o:Tok}{Q:Bool->bYl->Prop}(r:s.heap.get? x=some g)(dx:g.data= .seq #[.int a j,.int b l] n)(m:s.heap.get? y=some f)(p:f.data= .seq #[.int c t,.int d o] k) (h:Q (zW (a,b) (c,d)) s):bYq (bYs prog w) A (keyLt' (tuples' true) (.ref x) (.ref y)) Q E s:=by
 refine kat_lt r dx m p ?_;refine kat_cons (aZ7 ?_);unfold zW at h;by_cases e:a=c
 ·subst e;simp only[Int.lt_irrefl,decide_false,Bool.false_or,decide_true,Bool.true_and]at h;rw[beq_self_eq_true];refine kat_yes (kat_cons (aZ7 ?_));by_cases i:b=d
  ·subst i;rw[beq_self_eq_true];refine kat_yes (kat_nil ?_);simpa using h
  ·rw[beq_eq_false_iff_ne.mpr i];refine kat_no (kat_one _ _ ?_);exact lt_int h
 ·rw[beq_eq_false_iff_ne.mpr e];have q:Q (decide (a<c)) s:=by
   have:decide (a=c)=false:=decide_eq_false e;simpa[this]using h
  refine kat_no ?_;exact oneLt_int q
end
end Stree
namespace L2
open PySem PySem.Spec PyProof.Rows
def ixb(b:Bool)(n i:Nat):Nat:=if b=true then n - 1 - i else i
theorem aZf{b:Bool}{n i:Nat}(h:i<n):ixb b n i<n:=by unfold ixb;split<;> omega
theorem bJv{b:Bool}{n i j:Nat}(a:i<n)(c:j<n)(h:ixb b n i=ixb b n j):i=j:=by unfold ixb at h;split at h<;> omega
theorem aXy{α:Type}{b:Bool}{l:List α}{n i:Nat}{d:α}(a:l.length=n)(c:i<n):(cQv b l).getD i d=l.getD (ixb b n i) d:=by
 unfold cQv ixb;split
 ·simp only[bY4];rw[List.getElem?_reverse (by omega),a]
 ·rfl
theorem bWs{n:Nat}{b:Bool}{a:Nat->Int×Int}{r:Nat->Int}{p:List Nat}(m:p.Perm (bYv n))(g:p.Pairwise λi j=>r i<r j)(k:∀i j,i<n->j<n->decide (r i<r j)=Stree.zW (a (ixb b n i)) (a (ixb b n j))): (cQv b (p.map (ixb b n))).Perm (bYv n)/\(cQv b (p.map (ixb b n))).Pairwise λi j=>Stree.zW (if b=true then a j else a i) (if b=true then a i else a j)=true:=by
 have f:(p.map (ixb b n)).Pairwise λi j=>Stree.zW (a i) (a j)=true:=by rw[cZL];have l:∀i∈p,i<n:=λi c=>bYO.mp (m.mem_iff.mp c);refine g.imp_of_mem λ{i j} c hj h=>?_;rw[<- k i j (l i c) (l j hj)];exact decide_eq_true h
 have d:=m.map (ixb b n);cases b with
 |false=>
  have e:ixb false n=id:=by funext i;rfl
  rw[e]at d f ⊢;rw[List.map_id,List.map_id]at d;rw[List.map_id]at f ⊢;exact⟨d,f⟩
 |true=>
  have e:(bYv n).map (ixb true n)=(bYv n).reverse:=by
   apply cXv;intro i;by_cases c:i<n
   ·rw[bYC,cXh c,List.getElem?_reverse (by simpa using c),bY8,cXh (by omega)];rfl
   ·rw[bYQ (by simp;omega),bYQ (by simp;omega)]
  rw[e]at d;refine⟨(List.reverse_perm _).trans (d.trans (List.reverse_perm _)),?_⟩;show((p.map (ixb true n)).reverse).Pairwise _;rw[List.pairwise_reverse];exact f
def bZ6(H:Hp)(b:Nat->Int×Int)(c:List bYi):Prop:=∀i v,c[i]? =some v->∃a,v= .ref a/\H a=some (.tup [.int (b i).1,.int (b i).2])
def bZh(te:TE)(fr:List Nat)(tb:TE)(P:Nat)(lpos:Pos)(qual:Str)(b:Bool):TE:=λσ H Q=>te σ H λv d=>∃n:Nat,v= .int n/\n<64/\qW lpos qual P d/\∃kz:Nat->Int×Int,
 (∀i j,i<n->j<n->kz i=kz j->i=j)/\
 (∀i c,i<n->x5 d c->qW lpos qual P c->∀R:VK,(∀a e,x5 c e->e P=c P->e a=some (.tup [.int (kz i).1,.int (kz i).2])->R (.ref a) e)->tb (sub σ fr (some (.int i))) c R)/\
 ∀H5 l (out:List Nat),x5 d H5->qW lpos qual P H5->d l=none->out.Perm (bYv n)->(out.Pairwise λi j=>Stree.zW (if b=true then kz j else kz i) (if b=true then kz i else kz j)=true)->H5 l=some (.lst (out.map λi=> .int (i:Nat)))->Q (.ref l) H5
theorem qW.keep{lpos:Pos}{qual:Str}{P:Nat}{H a:Hp}(t:qW lpos qual P H)(k:x5 H a)(e:a P=H P):qW lpos qual P a:=by
 rcases t with t|⟨c,b,d⟩
 ·exact .inl (e.trans t)
 ·exact .inr ⟨c,e.trans b,k.ext d⟩
section
variable {X:Cx}{e body:Expr}{te tb:TE}{x:Str}{names:List Str}{fr:List Nat}{sc:cXs}{params:Arguments}{qual:Str}{p p2 p3 pos lpos kp kp2 bp:Pos}{j:Nat}{b:Bool}{c P:Nat}{k:Nat}
theorem aWF(g4:Gl X "sorted")(f5:X.mg "sorted"=none)(g6:Gl X "range")(f9:X.mg "range"=none)(he:PE X e te)(S:xH X.N X.env.scope x names fr sc)(d7:sc.isCoroutine=false)(c8:sc.isGenerator=false)
  (a9:X.env.code= .ref c) (C:cXk X.base c P) (hB:X.base.BuiltinsAt X.mg P) (hr:vK (k+1) X.A) (c7:defaultsOf params X.env=([],[])) (hq:X.env.qual++"<lambda>"=qual)
  (hb:∀ (cl:List (Str×Nat))(pm f7 b0 u:bYi),cXY (PySem.W.kla_fn "<lambda>" qual params body sc cl pm f7 b0) ⟨[u],[]⟩=pure [(x,u)])
  (a8:∀A L q cd cl s H,PE (bW4 X A (x::names) qual sc L q cd cl s H) body tb) (b1:bY3 "sorted"=some (.builtin "sorted"):=dk)
  (s2:bYV [e] X.env= [(false,eval e X.env)]:=by rfl):
  PE X (.Call (.Name "sorted" p) [.Call (.Name "range" p2) [e] [] p3] [⟨some "key",.Lambda params body sc lpos,kp⟩,⟨some "reverse",.Constant (.bool b) j bp,kp2⟩] pos) (bZh te fr tb P lpos qual b):=by
 intro g s σ H Q I h
 refine cQV (aQ4 I g4 f5 b1 ?_)
 refine callWith_kw ?_
 show bYq _ _ (spliced ((false,eval (.Call (.Name "range" p2) [e] [] p3) X.env):: [])) _ _ s
 refine Calls.spliced_cons ?_
 refine cQV (aQ4 I g6 f9 boot_range ?_)
 refine cZm ?_ s2 rfl
 refine thn (yA he yD s2 p3 g s σ H (λvs H1=>match vs with|[v]=>(∃n:Nat,v= .int n/\n<64/\qW lpos qual P H1/\∃kz:Nat->Int×Int,
   (∀i j,i<n->j<n->kz i=kz j->i=j)/\
   (∀i B,i<n->x5 H1 B->qW lpos qual P B->∀R:VK,(∀a Z,x5 B Z->Z P=B P->Z a=some (.tup [.int (kz i).1,.int (kz i).2])->R (.ref a) Z)->tb (sub σ fr (some (.int i))) B R)/\
   ∀H5 l (out:List Nat),x5 H1 H5->qW lpos qual P H5->H1 l=none->out.Perm (bYv n)->(out.Pairwise λi j=>Stree.zW (if b=true then kz j else kz i) (if b=true then kz i else kz j)=true)->H5 l=some (.lst (out.map λi=> .int (i:Nat)))->Q (.ref l) H5)|_=>False) I h) λus s1 ⟨vs,H1,I1,r1,z⟩=>?_
 match vs,z with
 |[v],⟨n,e2,hn,hT,kz,hinj,hkey,hfin⟩=>
  subst e2;obtain⟨u,rfl,ru⟩:=aQM r1;obtain⟨t,rfl⟩:=ru;refine call_range_1 (Calls.spliced_nil ?_);have fR:=I1.fpOk (b:=s1.heap.objs.size) (bYp _) I1.fresh;have I2:Inv X ((s1.heap.objs.size,{cls:= .type "range",data:= .fields #[.int 0 s1.toks,.int (n:Int) t,.int 1 (s1.toks+1)] })::g) σ H1 {s1 with heap:=s1.heap.push {cls:= .type "range",data:= .fields #[.int 0 s1.toks,.int (n:Int) t,.int 1 (s1.toks+1)] },toks:=s1.toks+1+1}:=by
   have I0:Inv X g σ H1 {s1 with heap:=s1.heap.push {cls:= .type "range",data:= .fields #[.int 0 s1.toks,.int (n:Int) t,.int 1 (s1.toks+1)] },toks:=s1.toks+1+1}:=I1.kept λb o e=>bYm _ e;refine I0.pins_of λq hq=>?_;rcases bYr.mp hq with rfl|hq
   ·exact⟨bYL _ rfl,fR.1,fR.2.1,fR.2.2.1,λv z=>by cases z⟩
   ·exact I0.pin q (bYF _ hq)
  obtain⟨cl,c1,c2,c4⟩:=aJf S I2;refine kws_cons (PySem.W.kla_eval c7 ?_);rw[hq];refine bQU I2 c1 a9 C hB hT λq c' b0 H' s' I3 g8 e5 a7 f8 b4=>?_;refine kws_cons (Constant_bool (kws_nil ?_));show bYq _ _ (call (.builtin "sorted") [.ref s1.heap.objs.size] [(cZH "key",.ref q),(cZH "reverse",.bool b)]) _ _ s';have a3:IsRange s'.heap s1.heap.objs.size 0 n 1 s1.toks t (s1.toks+1):=(I3.pin _ (bYF _ (bYx ..))).1;have I4:Inv X g σ H' s':=I3.pins_of λp G=>I3.pin p (bYF _ (bYt _ G));refine Stree.aZK hr.hd a3 hn (ksk_s2 _ _ _) (λx=>ksk_l2 _ _ _) (λx=>ksk_t2 q x b) λa M tk vs hk a1 ha hI=>?_;have a0:vs.length=n:=by rw[hI.length];simp
  have I5:Inv X g σ H' {s' with heap:=M,toks:=tk}:=I4.kept hk;have Y:=I4.fpOk (b:=a) a1 (I4.hok.fresh a1);have b9:a<M.objs.size:=bYw ha;have b6:s'.heap.objs.size<=M.objs.size+1:=bYT a1 (cXT (cQq b9));have U:=I4.fpOk (b:=M.objs.size+1) b6 (I4.hok.fresh b6);refine Stree.bWM (s:={s' with heap:=M,toks:=tk}) ha (by rw[a0];exact hn) (λe1 w O=>∃ (B:Hp)(e:Nat),Inv X ((a,bY6 "list" #[] e1)::(M.objs.size+1,bY6 "list" w.toArray e)::g) σ B O/\x5 H' B/\qW lpos qual P B/\bZ6 B kz w) ?h0 ?hget ?hcall ?hend;case h0=>
   intro e1 h2 k2 a2 q2;have I6:Inv X g σ H' {s' with heap:=h2,toks:=tk}:=I5.turned (t':=tk) (h':=h2) (λb o hb e=>k2 b o hb e) Y.1 Y.2.1 Y.2.2.2.1 Y.2.2.2.2.1 Y.2.2.2.2.2;refine⟨H',0,I6.pins_of λp G=>?_,x5.refl _,f8,λi v D=>by simp at D⟩;rcases bYr.mp G with rfl|G
   ·exact⟨a2,Y.1,Y.2.1,Y.2.2.1,λv z=>by cases z⟩
   ·rcases bYr.mp G with rfl|G
    ·exact⟨q2,U.1,U.2.1,U.2.2.1,λv z=>by cases z⟩
    ·exact I6.pin p (bYF _ G)
  case hget=>
   rintro e1 w O ⟨B,e,J,_,_,_⟩;exact⟨⟨e,(J.pin _ (bYF _ (bYt _ (bYx ..)))).1⟩,(J.pin _ (bYF _ (bYx ..))).1⟩
  case hcall=>
   rintro e1 w O v ⟨B,e,J,k3,t3,z3⟩ D;have F:w.length<n:=by
    rcases cZj w.length vs.length with h|h
    ·omega
    ·rw[bYQ h]at D;cases D
   obtain⟨t',rfl⟩:∃t',v=Value.int (w.length:Nat) t':=by
    have r:=uV hI;have e3:((((bYv n).map Int.ofNat)).map V.int)[w.length]? =some (V.int (w.length:Nat)):=by simp[F]
    obtain⟨u,hu,ru⟩:=r.get e3;rw[D]at hu;cases hu;exact ru
   have c9:O.heap.get? q=some (cXr "<lambda>" qual params body sc cl ((X.mg "__name__").getD .none) c' b0):=(J.hok q _ (k3.ext e5)).1;have b5:O.heap.CodeRec (.ref c') qual:=(J.hok c' _ (k3.ext a7)).1;refine cQi (bQT (A:=X.A.in1.in1) J I.ok.frames hr.hd (by have:=hr.dp;show X.A.depth<_;omega) S d7 c8 c2 c4 c9 b5 (λu=>hb cl _ _ _ u) (λA L cd s H=>a8 A L q cd cl s H) (v:= .int (w.length:Nat)) ⟨t',rfl⟩ (Q:=λv Z=>∃a4,v= .ref a4/\x5 B Z/\Z P=B P/\Z a4=some (.tup [.int (kz w.length).1,.int (kz w.length).2])) (hkey w.length B F (b4.trans k3) t3 _ λa4 Z k4 p4 e4=>⟨a4,rfl,k4,p4,e4⟩)) (λkv s4 d8=>?_) λ_ _ x=>x;obtain⟨v4,Z,J4,f6,a4,rfl,k4,p4,e4⟩:=d8;cases f6;refine⟨⟨e,(J4.pin _ (bYF _ (bYt _ (bYx ..)))).1⟩,λh5 c5 sb e9=>?_⟩;have e8:Inv X g σ Z s4:=J4.pins_of λp G=>J4.pin p (bYF _ (bYt _ (bYt _ G)));have pa:=J4.pin _ (bYF _ (bYx ..));have pk:=J4.pin _ (bYF _ (bYt _ (bYx ..)));have J5:Inv X g σ Z {s4 with heap:=h5,toks:=s4.toks}:=e8.turned (t':=s4.toks) (h':=h5) (it:=M.objs.size+1) (λb o hb e=>(sb.2 b hb).trans e) pk.2.1 U.2.1 U.2.2.2.1 U.2.2.2.2.1 U.2.2.2.2.2;refine⟨Z,c5,J5.pins_of λp G=>?_,k3.trans k4,t3.keep k4 p4,λi v D=>?_⟩
   ·rcases bYr.mp G with rfl|G
    ·exact⟨(sb.2 _ (bYG (cQq b9))).trans pa.1,pa.2⟩
    ·rcases bYr.mp G with rfl|G
     ·exact⟨e9,pk.2.1,U.2.1,U.2.2.1,λv z=>by cases z⟩
     ·exact J5.pin p (bYF _ G)
   ·by_cases d6:i<w.length
    ·rw[bY5 d6]at D;obtain⟨a6,e6,h6⟩:=z3 i v D;exact⟨a6,e6,k4.tup h6⟩
    ·rw[bYH (by omega)]at D;have:i - w.length=0:=by
      rcases cZj (i - w.length) 1 with h|h
      ·omega
      ·rw[bYQ (by simpa using h)]at D;cases D
     have ei:i=w.length:=by omega
     subst ei;simp at D;exact⟨a4,D.symm,e4⟩
  case hend=>
   rintro e1 w O ⟨B,e,J,k3,t3,z3⟩ hl;have J':Inv X g σ B O:=J.pins_of λp G=>J.pin p (bYF _ (bYt _ (bYt _ G)));have b3:w.length=n:=by omega
   obtain⟨r,d5,b8⟩:=Stree.aJA (n:=n) (λi j=>Stree.zW (kz (ixb b n i)) (kz (ixb b n j))) (λi _=>Stree.wL _) (λi j k _ _ _ M h2=>Stree.aXp M h2)
    (λi j F hj f4=>Stree.aXo λz=>f4 (bJv F hj (hinj _ _ (aZf F) (aZf hj) z)))
   have ob:∀i,i<n->∃a o t1 t2 m,w.getD i Value.none= .ref a/\O.heap.get? a=some o/\o.cls= .type "tuple"/\o.data= .seq #[.int (kz i).1 t1,.int (kz i).2 t2] m:=λi F=>by obtain⟨a6,e6,h6⟩:=z3 i (w.getD i Value.none) (by simp[bY4,bYh (show i<w.length by omega)]);obtain⟨g7,rv,pl,_⟩:=J'.tuple (SqT.of h6);obtain⟨u1,u2,rfl,r1,r2⟩:=xS.two rv;obtain⟨t1,rfl⟩:=r1;obtain⟨t2,rfl⟩:=r2;obtain⟨o,g1,g2,m,g3⟩:=pl;exact⟨a6,o,t1,t2,m,e6,g1,g2,g3⟩
   refine⟨r,by rw[a0];exact d5,λ_=>⟨tuples' true,λQ' e7=>?_,λi j C' F hj hC=>?_⟩,λp h5 c5 c6 a5 d4 k5 g5 o5=>?_⟩
   ·have b7:∀ (l:List bYi)(k:Nat),(∀ (i:Nat)(v:bYi),l[i]? =some v->∃a o t1 t2 m x y,v=Value.ref a/\O.heap.get? a=some o/\o.cls= .type "tuple"/\o.data= .seq #[.int x t1,.int y t2] m)->
      ∃fs,cJI O.heap l fs/\fs.length=l.length/\∀f∈fs,∃x t,f=Value.int x t:=by
     intro l
     induction l with
     |nil=>intro _ _;exact⟨[],trivial,rfl,λf hf=>by cases hf⟩
     |cons v l ih=>
      intro k D;obtain⟨a,o,t1,t2,m,x,y,rfl,g1,g2,g3⟩:=D 0 v rfl;obtain⟨fs,f1,f2,f3⟩:=ih (k+1) λi v h=>D (i+1) v h;refine⟨.int x t1::fs,cZ3 g1 g2 g3 rfl f1,by simp[f2],λf hf=>?_⟩;rcases bYr.mp hf with rfl|hf
      ·exact⟨x,t1,rfl⟩
      ·exact f3 f hf
    obtain⟨fs,f1,f2,f3⟩:=b7 w 0 λi v D=>by
     have F:i<n:=by
      rcases cZj i w.length with h|h
      ·omega
      ·rw[bYQ h]at D;cases D
     obtain⟨a,o,t1,t2,m,g0,g1,g2,g3⟩:=ob i F;have:w.getD i Value.none=v:=by simp[bY4,D]
     rw[this]at g0;exact⟨a,o,t1,t2,m,_,_,g0,g1,g2,g3⟩
    refine PySem.W.kat_kind (T:= .type "int") f1 (by omega) (λv D=>?_) rfl e7;obtain⟨x,t,rfl⟩:=f3 v D;exact .now
   ·rw[a0]at F hj;obtain⟨ai,oi,t1,t2,m1,g0,g1,g2,g3⟩:=ob _ (aZf (b:=b) F);obtain⟨aj,oj,t3,t4,m2,d0,d1,d2,d3⟩:=ob _ (aZf (b:=b) hj);show bYq _ _ (keyLt' _ ((cQv b w).getD i Value.none) ((cQv b w).getD j Value.none)) _ _ _;rw[aXy b3 F,aXy b3 hj,g0,d0];refine Stree.aKS g1 g3 d1 d3 ?_;have:=b8 i j F hj;rw[this]at hC;exact hC
   ·rw[a0]at a5;obtain⟨q1,q2⟩:=bWs a5 d4 b8;have hm:∀i∈p,i<n:=λi F=>bYO.mp (a5.mem_iff.mp F);have vv:∀l:List Nat,(∀i∈l,i<n)->xS ((l.map (ixb b n)).map λi=>V.int (i:Nat)) (l.map λi=>(cQv b vs).getD i Value.none):=by
     intro l;induction l with
     |nil=>intro _;exact .nil
     |cons i l ih=>
      intro h;refine .cons ?_ (ih λj hj=>h j (bYt _ hj));have F:=h i bYx;show zE (V.int (ixb b n i:Nat)) ((cQv b vs).getD i Value.none);rw[aXy a0 F];have hx:=aZf (b:=b) F;have e3:((((bYv n).map Int.ofNat)).map V.int)[ixb b n i]? =some (V.int (ixb b n i:Nat)):=by simp[hx]
      obtain⟨u,hu,ru⟩:=(uV hI).get e3;have:vs.getD (ixb b n i) Value.none=u:=by simp[bY4,hu]
      rw[this];exact ru
    have v2:=vv p hm;have v3:xS ((cQv b (p.map (ixb b n))).map λi=>V.int (i:Nat)) (cQv b (p.map λi=>(cQv b vs).getD i Value.none)):=by
     unfold cQv at v2 ⊢;split
     ·rw[List.map_reverse];rename_i b2;simp only[b2]at v2 ⊢;exact v2.reverse
     ·rename_i b2;simp only[b2]at v2 ⊢;exact v2
    have na:B a=none:=(J.pin _ (bYF _ (bYx ..))).2.1;have nk:B (M.objs.size+1)=none:=(J.pin _ (bYF _ (bYt _ (bYx ..)))).2.1;have c3:(cQv b (p.map (ixb b n))).length=n:=by rw[q1.length_eq,bY8]
    have e0:Inv X g σ (upd B a (.lst ((cQv b (p.map (ixb b n))).map λi=>V.int (i:Nat)))) {O with heap:=h5,gens:=O.gens,drawn:=O.drawn,toks:=O.toks}:=by
     have K:∀d,d∉ [a,M.objs.size+1]->d≠a/\d≠M.objs.size+1:=λd E=>⟨λz=>E (by simp[z]),λz=>E (by simp[z])⟩;refine J'.step (ch:= [a,M.objs.size+1]) (λd E=>?_) (λd o _ _ E e _=>?_) (λd o _ _ E e _=>?_) (λd o E e n=>?_) (λd o E e=>?_) (λd xs e=>?_) (λd o u e=>?_) (λd qs e=>?_) (λm d9=>?_) (λd u e=>?_) J'.bare
     ·rcases bYr.mp E with rfl|E
      ·exact⟨Y.2.2.2.1,Y.2.1,Y.2.2.2.2.1,Y.2.2.2.2.2⟩
      ·rw[bYz.mp E];exact⟨U.2.2.2.1,U.2.1,U.2.2.2.2.1,U.2.2.2.2.2⟩
     ·exact(k5 d (K d E).1 (K d E).2).trans e
     ·exact⟨o.slots,(k5 d (K d E).1 (K d E).2).trans e⟩
     ·rw[yI (K d E).1];exact n
     ·exact⟨o,(k5 d (K d E).1 (K d E).2).trans e⟩
     ·rw[yI (yJ e na)];exact e
     ·rw[yI (yJ e na)];exact e
     ·exact⟨#[],by rw[yI (yJ e na),e];simp⟩
     ·obtain⟨o,es,ep,ho,r⟩:=d9;exact⟨o,es,ep,(k5 _ (bY0 Y.2.1) (bY0 U.2.1)).trans ho,r⟩
     ·by_cases E:d=a
      ·subst E;rw[yB]at e;cases e;exact⟨by rw[bYo,c3,bYR];omega,_,c6,v3,o5⟩
      ·rw[yI E]at e;refine(J'.hok d u e).stay (λc v hc q=>?_) (λc q=>by rw[yI (yJ q na)];exact q) λc xs q=>by rw[yI (yJ q na)];exact q
       have a7:c≠a:=by
        rcases hc with rfl|hc
        ·exact E
        ·exact yJ hc na
       have f0:c≠M.objs.size+1:=by
        rcases hc with rfl|hc
        ·exact yJ e nk
        ·exact yJ hc nk
       exact(k5 c a7 f0).trans q
    have c0:=yG na (.lst ((cQv b (p.map (ixb b n))).map λi=>V.int (i:Nat)));have hP:upd B a (.lst ((cQv b (p.map (ixb b n))).map λi=>V.int (i:Nat))) P=B P:=by
     rcases t3 with t|⟨_,t,_⟩
     ·rw[yI (yJ t na)]
     ·rw[yI (yJ t na)]
    have nl:H1 a=none:=by
     cases hz:H1 a with
     |none=>rfl
     |some o=>exact absurd (I1.hok.lt hz) (Nat.not_lt.mpr (bYT (cXT (bYw a3)) a1))
    exact⟨rfl,.ref a,_,e0,rfl,hfin _ a _ (b4.trans (k3.trans c0.t)) (t3.keep c0.t hP) nl q1 q2 yB⟩
end
end L2
namespace Stree
open PySem PySem.W PySem.Calls PyProof.Rows
open PySem.SeqAt
open PySem.AutoSeq1 (wpAny_loadPart')
open PySem.MeetsSeq PySem.MeetsSeq2 PySem.MeetsSeq3
def X9{α:Type} [DecidableEq α] (lt:α->α->Bool):List α->List α->Bool
 |[],[]=>false
 |[],_::_=>true
 |_::_,[]=>false
 |x::xs,y::ys=>if x=y then X9 lt xs ys else lt x y
theorem aKQ{α:Type} [DecidableEq α] {lt:α->α->Bool}(x y:α)(xs ys:List α):X9 lt (x::xs) (y::ys)=if x=y then X9 lt xs ys else lt x y:=rfl
theorem aZQ{α:Type} [DecidableEq α] {lt:α->α->Bool}{rep:α->bYi->Prop}(l b:Nat)(items items2:Array bYi)(n P:Nat)(U H:Option Nat)(Y F:Array (Option bYi))(xs ys:List α)(M:cQc rep xs items.toList)(N:cQc rep ys items2.toList): Meets (cQ2.«tuple.__lt__» ⟨[.ref l,.ref b],[]⟩) (λA R s=>s.heap.get? l=some {cls:= .type "tuple",dict:=U,data:= .seq items n,slots:=Y}/\s.heap.get? b=some {cls:= .type "tuple",dict:=H,data:= .seq items2 P,slots:=F}/\ (∀x y u v,rep x u->rep y v->EqAt A.in1 s u v (decide (x=y)))/\(∀x y u v,x≠y->rep x u->rep y v->∀ (prog:bYE)(w:bYK)(E:bYi->bYl->Prop)(Q:bYi->bYl->Prop),Q (.bool (lt x y)) s->bYq (bYs prog w) A.in1 (richCompare .Lt u v) Q E s)/\ R (.ok (.ret (.bool (X9 lt xs ys)))) s):=
 .of_wp λprog w A R s h=>by
  obtain⟨K,g,d,tk,O⟩:=s;obtain⟨hl,W,I,C,h⟩:=h;have Z:=AutoSeq1.sub_tuple_tuple;have z1:items.size=xs.length:=by have:=M.length;simpa using this.symm
  have z2:items2.size=ys.length:=by have:=N.length;simpa using this.symm
  wp_walk using wpAny_loadPart' hl,wpAny_loadPart' W,wpAny_forIn_list _ (λjT b J=>b.1=none/\J=⟨K,g,d,tk,O⟩/\∃ (B z:List bYi)(i j:List α),jT=B.zip z/\
   cQc rep i B/\cQc rep j z/\i.length+items2.size=j.length+items.size/\R (.ok (.ret (.bool (X9 lt i j)))) ⟨K,g,d,tk,O⟩) _
  case turn=>
   rintro⟨y,x⟩ jT b J ⟨o,rfl,B,z,i,j,m,p,k,f,hR⟩;cases p with
   |nil=>rw[List.zip_nil_left]at m;cases m
   |@cons a y' V X G r=>
    cases k with
    |nil=>rw[List.zip_nil_right]at m;cases m
    |@cons c x' S T t q=>
     rw[List.zip_cons_cons]at m;injection m with hyx hrest
     injection hyx with hy hx
     subst hy hx;rw[aKQ]at hR;simp only[cQh]at f;refine bYj (I a c _ _ G t prog w _ _ ?_);by_cases e:a=c
     ·rw[if_pos e]at hR;rw[decide_eq_true e];wp_walk;exact⟨rfl,rfl,_,_,_,_,hrest,r,q,by omega,hR⟩
     ·rw[if_neg e]at hR;rw[decide_eq_false e];have D:=C a c _ _ e G t prog w;wp_walk using D;exact⟨_,rfl,by simpa using hR⟩
  case fin=>
   rintro⟨b1,b2⟩ J ⟨o,rfl,B,z,i,j,m,p,k,f,hR⟩;simp only at o;subst o;have L:X9 lt i j=decide (items.size<items2.size):=by
    cases p with
    |nil=>
     cases k with
     |nil=>simp only[cXn]at f;exact(decide_eq_false (by omega)).symm
     |cons t hw=>simp only[cXn,cQh]at f;exact(decide_eq_true (by omega)).symm
    |cons G L=>
     cases k with
     |nil=>simp only[cXn,cQh]at f;exact(decide_eq_false (by omega)).symm
     |cons t hw=>rw[List.zip_cons_cons]at m;cases m
   rw[L]at hR;wp_walk;exact⟨_,rfl,by simpa[Builtin.Tuple.tupleCompareSizes]using hR⟩
  case h=>
   exact⟨rfl,rfl,items.toList,items2.toList,xs,ys,rfl,M,N,by omega,h⟩
section
variable {A:bYW}{s:bYl}{α:Type} [DecidableEq α] {lt:α->α->Bool}{rep:α->bYi->Prop}{l b:Nat}{items items2:List bYi}{xs ys:List α}
def bVT(A:bYW)(s:bYl)(u v:bYi)(c:Bool):Prop:=∀ (prog:bYE)(w:bYK)(E:bYi->bYl->Prop)(Q:bYi->bYl->Prop),Q (.bool c) s->bYq (bYs prog w) A (richCompare .Lt u v) Q E s
theorem bZJ(hl:cZe s.heap l items.toArray)(z:cZe s.heap b items2.toArray)(B:cQc rep xs items)(D:cQc rep ys items2)(r:A.units<cLine)
  (j:∀x y u v,rep x u->rep y v->EqAt A.in1 s u v (decide (x=y))) (e:∀x y u v,x≠y->rep x u->rep y v->bVT A.in1 s u v (lt x y)):bVT A s (.ref l) (.ref b) (X9 lt xs ys):=λprog w E Q h=>by
 obtain⟨⟨cls,t,data,C⟩,o,m,n,k⟩:=id hl
 obtain⟨⟨p,i,g,f⟩,d,a,q,c⟩:=id z
 simp only at m k a c
 subst m k a c
 exact richCompare_meets_room (op:= .Lt) ⟨_,o,rfl⟩ ⟨_,d,rfl⟩ PySem.F.slot_tuple_lt PySem.F.entry_tuple_lt (PySem.F.args_tuple_lt_2 _ _) (aZQ (lt:=lt) l b items.toArray items2.toArray n q t i C f xs ys B D)
  ⟨o,d,j,e,show Value.bool (X9 lt xs ys)≠Value.notImplemented/\Q (.bool (X9 lt xs ys)) s from⟨(λx=>nomatch x),h⟩⟩ r
theorem bVZ:∀ {xs ys:List α},((bYv (min xs.length ys.length)).all (λj=>decide (xs[j]? =ys[j]?)) && xs.length==ys.length)=decide (xs=ys):=by
 intro xs ys;rw[Bool.eq_iff_iff];simp only[Bool.and_eq_true,cZq,bYO,decide_eq_true_eq,beq_iff_eq];constructor
 ·rintro⟨a,c⟩;apply cXv;intro i;by_cases b:i<xs.length
  ·exact a i (by omega)
  ·rw[bYQ (by omega),bYQ (by omega)]
 ·rintro rfl;exact⟨λ_ _=>rfl,rfl⟩
theorem Y5{rep:α->bYi->Prop}:∀ {xs:List α} {us:List bYi} {i:Nat} {u:bYi},cQc rep xs us->us[i]? =some u->∃x,xs[i]? =some x/\rep x u
 |_,_,0,_,.cons r _,h=>by simp at h;subst h;exact⟨_,rfl,r⟩
 |_,_,i+1,_,.cons _ t,h=>by simpa using Y5 (i:=i) t (by simpa using h)
 |_,_,i,_,.nil,h=>by simp at h
theorem Y4{rep:α->bYi->Prop}(a:∀x y u,rep x u->rep y u->x=y):∀ {xs ys:List α} {us:List bYi},cQc rep xs us->cQc rep ys us->xs=ys
 |_,_,_,.nil,.nil=>rfl
 |_,_,_,.cons r t,.cons r' t'=>by rw[a _ _ _ r r',Y4 a t t']
theorem bZE(hl:cZe s.heap l items.toArray)(m:cZe s.heap b items2.toArray)(f:cQc rep xs items)(g:cQc rep ys items2)(p:A.units<cLine)(B:∀x y u,rep x u->rep y u->x=y) (c:∀x y u v,rep x u->rep y v->EqAt A.in1 s u v (decide (x=y))):EqAt A s (.ref l) (.ref b) (decide (xs=ys)):=by
 by_cases e:l=b
 ·subst e;obtain⟨o,h,_,n,a⟩:=hl;obtain⟨H,i,_,G,k⟩:=m;rw[h]at i;cases i;rw[a]at k;have d:items=items2:=by
   have:items.toArray=items2.toArray:=by injection k
   simpa using congrArg Array.toList this
  subst d;rw[decide_eq_true (Y4 B f g)];exact EqAt.same _
 ·refine EqAt.of_refs e ?_;have z:=RcAt.tuples (A:=A) (s:=s) (e:=λj=>decide (xs[j]? =ys[j]?)) (show s.heap.IsTuple l items.toArray from hl) (show s.heap.IsTuple b items2.toArray from m) p λj h a=>?_
  ·have r:items.toArray.size=xs.length:=by rw[bYB];exact f.length.symm
   have d:items2.toArray.size=ys.length:=by rw[bYB];exact g.length.symm
   rw[r,d,bVZ]at z;exact z
  ·have D:items[j]? =some items[j]:=bYh (by simpa using h);have t:items2[j]? =some items2[j]:=bYh (by simpa using a);obtain⟨x,F,C⟩:=Y5 f D;obtain⟨y,w,E⟩:=Y5 g t;have q:=c x y _ _ C E;show EqAt A.in1 s items[j] items2[j] (decide (xs[j]? =ys[j]?));rw[F,w];have:decide (some x=some y)=decide (x=y):=by simp
   rw[this];exact q
end
def bJ4(i:Int)(u:bYi):Prop:=∃t,u= .int i t
def rep2(h:Heap)(p:Int×Int)(u:bYi):Prop:=∃a b,u= .ref a/\cZe h a b.toArray/\cQc bJ4 [p.1,p.2] b
def rep3(h:Heap)(c:List (Int×Int))(u:bYi):Prop:=∃a b,u= .ref a/\cZe h a b.toArray/\cQc (rep2 h) c b
theorem aVq(x y:Int)(u:bYi)(b:bJ4 x u)(a:bJ4 y u):x=y:=by
 obtain⟨t,rfl⟩:=b;obtain⟨c,e⟩:=a;cases e;rfl
theorem bZo{h:Heap}{a:Nat}{i j:List bYi}(g:cZe h a i.toArray)(e:cZe h a j.toArray):i=j:=by
 obtain⟨o,f,_,n,d⟩:=g;obtain⟨l,b,_,k,c⟩:=e;rw[f]at b;cases b;rw[d]at c;have:i.toArray=j.toArray:=by injection c
 simpa using congrArg Array.toList this
theorem bXI{h:Heap}(x y:Int×Int)(u:bYi)(k:rep2 h x u)(g:rep2 h y u):x=y:=by
 obtain⟨a,i,rfl,c,b⟩:=k;obtain⟨l,j,e,d,f⟩:=g;cases e;rw[bZo c d]at b;have:=Y4 aVq b f;injection this with e1 e2;injection e2 with e2 _;exact Prod.ext e1 e2
section
variable {A:bYW}{s:bYl}
theorem eq1(x y:Int)(u v:bYi)(c:bJ4 x u)(a:bJ4 y v):EqAt A s u v (decide (x=y)):=by
 obtain⟨t,rfl⟩:=c;obtain⟨b,rfl⟩:=a;have:decide (x=y)=(x==y):=by rw[Bool.eq_iff_iff];simp
 rw[this];exact EqAt.int_int x t y b
theorem lt1(x y:Int)(u v:bYi)(d:x≠y)(a:bJ4 x u)(b:bJ4 y v):bVT A s u v (decide (x<y)):=by
 obtain⟨t,rfl⟩:=a;obtain⟨c,rfl⟩:=b;exact λprog w E Q h=>HT.bXH A s x t y c prog w E Q h
theorem eq2(g:A.units<cLine)(x y:Int×Int)(u v:bYi)(l:rep2 s.heap x u)(k:rep2 s.heap y v):EqAt A s u v (decide (x=y)):=by
 obtain⟨a,i,rfl,c,d⟩:=l;obtain⟨b,j,rfl,f,h⟩:=k;have z:=bZE c f d h g aVq λx y u v=>eq1 x y u v;have:decide ([x.1,x.2]= [y.1,y.2])=decide (x=y):=by
  rw[Bool.eq_iff_iff,decide_eq_true_eq,decide_eq_true_eq];constructor
  ·intro e;injection e with e1 e2;injection e2 with e2 _;exact Prod.ext e1 e2
  ·rintro rfl;rfl
 rw[this]at z;exact z
theorem aKP(x y:Int×Int):X9 (λa b:Int=>decide (a<b)) [x.1,x.2] [y.1,y.2]=zW x y:=by
 unfold zW X9 X9 X9;by_cases c:x.1=y.1
 ·by_cases d:x.2=y.2<;> simp[c,d]
 ·simp[c]
theorem lt2(f:A.units<cLine)(x y:Int×Int)(u v:bYi)(l:x≠y)(g:rep2 s.heap x u)(k:rep2 s.heap y v):bVT A s u v (zW x y):=by
 obtain⟨a,i,rfl,c,d⟩:=g;obtain⟨b,j,rfl,e,h⟩:=k;have z:=bZJ (lt:=λa b:Int=>decide (a<b)) c e d h f (λx y u v=>eq1 x y u v) (λx y u v=>lt1 x y u v);rw[aKP]at z;exact z
theorem eq3(f:A.units+1<cLine)(x y:List (Int×Int))(u v:bYi)(k:rep3 s.heap x u)(h:rep3 s.heap y v):EqAt A s u v (decide (x=y)):=by
 obtain⟨a,i,rfl,c,d⟩:=k;obtain⟨b,j,rfl,e,g⟩:=h;exact bZE c e d g (by omega) bXI λx y u v=>eq2 (A:=A.in1) f x y u v
theorem lt3(c:A.units+1<cLine)(x y:List (Int×Int))(u v:bYi)(l:x≠y)(g:rep3 s.heap x u)(k:rep3 s.heap y v):bVT A s u v (X9 zW x y):=by
 obtain⟨a,i,rfl,d,e⟩:=g;obtain⟨b,j,rfl,f,h⟩:=k;exact bZJ d f e h (by omega) (λx y u v=>eq2 (A:=A.in1) c x y u v) (λx y u v=>lt2 (A:=A.in1) c x y u v)
end
section
variable {prog:bYE}{w:bYK}{A:bYW}{E:bYi->bYl->Prop}{s:bYl}
theorem bJz{x y:Nat}{l f:Obj}{n k:Nat}{u v:bYi}{a c:List (Int×Int)}{i j:Int}{o p:Tok}{Q:Bool->bYl->Prop}(d:A.units+1<cLine)(z:s.heap.get? x=some l)(dx:l.data= .seq #[u,.int i o] n)(q:s.heap.get? y=some f)(r:f.data= .seq #[v,.int j p] k) (m:rep3 s.heap a u) (g:rep3 s.heap c v) (b:a=c->i=j) (h:Q (decide (a≠c) && X9 zW a c) s):bYq (bYs prog w) A (keyLt' (tuples' false) (.ref x) (.ref y)) Q E s:=by
 refine kat_lt z dx q r ?_;refine kat_cons (eq3 d a c u v m g prog w _ _ ?_);by_cases e:a=c
 ·rw[decide_eq_true e];refine kat_yes (kat_cons (aZ7 ?_));rw[beq_iff_eq.mpr (b e)];refine kat_yes (kat_nil ?_);simpa[e]using h
 ·rw[decide_eq_false e];have t:Q (X9 zW a c) s:=by simpa[e]using h
  exact kat_no (kat_one _ _ (lt3 d a c u v e m g prog w _ _ t))
theorem aZI{a:Nat}{vs:List bYi}{P:PySem.Fin->bYl->Prop}{n0:Nat}(I:s.heap.get? a=some (bY6 "list" vs.toArray n0))(T:vs.length<64)(r:Nat->Int)(hr:Inj vs.length r) (F:2<=vs.length->∃κ,∀g,(∀c o,c≠a->s.heap.get? c=some o->g.get? c=some o)->(∀Q:SortKind->bYl->Prop,Q κ {s with heap:=g}->bYq (bYs prog w) A (keyKind' vs.toArray) Q (λ_ _=>False) {s with heap:=g})/\ ∀i j C,i<vs.length->j<vs.length->C (decide (r i<r j)) {s with heap:=g}->kas_ask prog w A κ vs i j C {s with heap:=g}) (B:∀ (p:List Nat) g c,p.Perm (bYv vs.length)->p.Pairwise (λi j=>r i<r j)->(∀d o,d≠a->s.heap.get? d=some o->g.get? d=some o)->g.get? a=some (bY6 "list" (p.map λi=>vs.getD i Value.none).toArray c)->P (.done (.ret .none)) {s with heap:=g}): bYq (bYs prog w) A (cQ2.«list.sort» ⟨[.ref a],[]⟩) P E s:=by
 have ha:a<s.heap.objs.size:=bYw I;obtain⟨t,u⟩:∃t,(s.heap.update a (bY9 λ_=>(#[]:Array bYi))).get? a=some (bY6 "list" #[] t):=⟨_,cX8 I λ_=> #[]⟩;rw[list_sort_plain];refine bYj (listItems_at I rfl ?_);refine bYj (cZw I rfl ?_ (by rw[bYB,bYR];omega) (cQe _));refine bYj (seqEpoch_at u rfl ?_);refine bYj (wpAny_newTuple ?_ (by show vs.length<=_;rw[bYR];omega));refine bYj (cZz ?_ (cQe _));refine cQB ?_;have M:∀c o,c≠a->s.heap.get? c=some o->(((s.heap.update a (bY9 λ_=>(#[]:Array bYi))).push (bY6 "tuple" vs.toArray 0)).push (bY6 "list" #[] 0)).get? c=some o:=λc o X e=>
  bYm _ (bYm _ ((bYP _ _ (bY0 X)).trans e))
 have H:(((s.heap.update a (bY9 λ_=>(#[]:Array bYi))).push (bY6 "tuple" vs.toArray 0)).push (bY6 "list" #[] 0)).get? a=some (bY6 "list" #[] t):=bYm _ (bYm _ u);show bYq (bYs prog w) A _ P E {s with heap:=((s.heap.update a (bY9 λ_=>(#[]:Array bYi))).push (bY6 "tuple" vs.toArray 0)).push (bY6 "list" #[] 0) };generalize ((s.heap.update a (bY9 λ_=>(#[]:Array bYi))).push (bY6 "tuple" vs.toArray 0)).push (bY6 "list" #[] 0)=h1 at M H ⊢;dsimp only;have l:∀ (D:SortSt)(p:List Nat),p.Perm (bYv vs.length)->p.Pairwise (λi j=>r i<r j)->(arrOf D).map (·.2)=cQp (p.map λi=>vs.getD i Value.none)->failedOf D=none->
   bYq (bYs prog w) A (do
    let b:=(<- seqEpoch a) !=t
    Builtin.List.listUpdate (.ref a) λ_=>(arrOf D).map (·.2)
    if let some e:=failedOf D then rule "list.sort.comparison-raised";throw e
    if b then rule "list.sort.modified";raiseError "ValueError" "list modified during sort"
    ret .none) P E {s with heap:=h1}:=by
  intro D p h n v N
  have L:p.length=vs.length:=by rw[h.length_eq,bY8]
  rw[v]
  obtain⟨U,K⟩:∃U,(h1.update a (bY9 λ_=>cQp (p.map λi=>vs.getD i Value.none))).get? a=some (bY6 "list" (cQp (p.map λi=>vs.getD i Value.none)) U):=⟨_,cX8 H λ_=>cQp (p.map λi=>vs.getD i Value.none)⟩
  have O:(cQp (p.map λi=>vs.getD i Value.none)).size=vs.length:=by rw[bYB,bYo,L]
  refine bYj (seqEpoch_at H rfl ?_)
  refine bYj (cZw H rfl ?_ (cQe _) (bYT (cXS O) (by rw[bYR];omega)))
  rw[N]
  simp only[bne_self_eq_false,Bool.false_eq_true,if_false]
  exact bYn (B p _ U h n (λd o V e=>(bYP _ _ (bY0 V)).trans (M d o V e)) K)
 by_cases m:vs.toArray.size<2
 ·rw[if_pos m,if_pos m];refine bYj (bYn ?_);refine bYj (bYn ?_);have q:vs.length<2:=by rw[bYB]at m;exact m
  refine l (SortSt.mk' general' (vs.toArray.zip vs.toArray) #[] 7 none) (bYv vs.length) (List.Perm.refl _) ?_ ?_ rfl
  ·rw[cXL];intro i j J hj Y;rw[bY8]at J hj;omega
  ·show((cQp vs).zip (cQp vs)).map (·.2)=_;apply Array.toList_inj.mp;rw[Array.toList_map,Array.toList_zip];simp only[cJc];have t:(cZF vs vs).map (·.2)=vs:=List.map_snd_zip (bYp _);rw[t];apply cXv;intro i;rw[bYC];by_cases J:i<vs.length
   ·rw[cXh J];simp[bY4,bYh J]
   ·rw[bYQ (by omega),bYQ (by rw[bY8];omega)];rfl
 ·have q:2<=vs.length:=by rw[bYB]at m;omega
  rw[if_neg m,if_neg m];obtain⟨κ,hκ⟩:=F q;obtain⟨hκ,G⟩:=hκ h1 M;refine bYj (cQi (hκ (λk z=>k=κ/\z= {s with heap:=h1}) ⟨rfl,rfl⟩) (λk z hq=>?_) λ_ _ x=>x.elim);obtain⟨rfl,rfl⟩:=hq;have S:(kas_sort vs.length).kasWp (kas_ask prog w A k vs) (λp y=>y= {s with heap:=h1}/\p.toList.Perm (bYv vs.length)/\p.toList.Pairwise (λi j=>r i<r j)) {s with heap:=h1}:=
   Asks.wp (lt:=Z0 r) G (aZJ hr (by omega)) λp Z=>⟨rfl,Z⟩
  refine bYj (cQi (kat_run (Q:=λf y=>∃p:Array Nat,arrOf f=p.map (kas_item (vs.toArray.zip vs.toArray))/\failedOf f=none/\
    y= {s with heap:=h1}/\p.toList.Perm (bYv vs.length)/\p.toList.Pairwise (λi j=>r i<r j))
   rfl q T (λp' f y a1 W a3 a4=>⟨p',W,a3,a4⟩) S) ?_ λ_ _ x=>x)
  rintro⟨⟨⟩,f⟩ y ⟨p,R,N,rfl,h,n⟩;dsimp only;exact l _ p.toList h n (kat_snds rfl R) N
end
end Stree
namespace Stree
open PySem PySem.W PySem.Calls PyProof.Rows
abbrev qE:=List (Int×Int)
abbrev u4:qE->qE->Bool:=X9 zW
theorem vC:∀a:qE,u4 a a=false
 |[]=>rfl
 |x::r=>by show(if x=x then X9 zW r r else zW x x)=false;rw[if_pos rfl];exact vC r
theorem Y2:∀ {a b c:qE},u4 a b=true->u4 b c=true->u4 a c=true
 |[],[],_,h,_=>by cases h
 |[],_::_,[],_,h=>by cases h
 |[],_::_,_::_,_,_=>rfl
 |_::_,[],_,h,_=>by cases h
 |_::_,_::_,[],_,h=>by cases h
 |x::a,y::b,z::c,h1,h2=>by
  have f:(if x=y then X9 zW a b else zW x y)=true:=h1;have d:(if y=z then X9 zW b c else zW y z)=true:=h2;show(if x=z then X9 zW a c else zW x z)=true;by_cases i:x=y
  ·rw[if_pos i]at f;subst i;by_cases g:x=z
   ·rw[if_pos g]at d ⊢;exact Y2 f d
   ·rw[if_neg g]at d ⊢;exact d
  ·rw[if_neg i]at f;by_cases g:y=z
   ·rw[if_pos g]at d;subst g;rw[if_neg i];exact f
   ·rw[if_neg g]at d;have j:=aXp f d;have:x≠z:=λe=>by rw[e,wL]at j;cases j
    rw[if_neg this];exact j
theorem aXq:∀ {a b:qE},a≠b->u4 a b=true\/u4 b a=true
 |[],[],h=>absurd rfl h
 |[],_::_,_=> .inl rfl
 |_::_,[],_=> .inr rfl
 |x::a,y::b,h=>by
  show(if x=y then X9 zW a b else zW x y)=true\/(if y=x then X9 zW b a else zW y x)=true;by_cases e:x=y
  ·subst e;rw[if_pos rfl,if_pos rfl];exact aXq λz=>h (by rw[z])
  ·rw[if_neg e,if_neg (bY0 e)];exact aXo e
theorem aVc:∀ (a:qE) {b:qE},b≠ []->u4 a (a++b)=true
 |[],[],h=>absurd rfl h
 |[],_::_,_=>rfl
 |x::a,b,h=>by show(if x=x then X9 zW a (a++b)else _)=true;rw[if_pos rfl];exact aVc a h
theorem aZm:∀ (a:qE) {x y:Int×Int} {b c:qE},zW x y=true->u4 (a++x::b) (a++y::c)=true
 |[],x,y,b,c,h=>by
  show(if x=y then X9 zW b c else zW x y)=true;have:x≠y:=λe=>by rw[e,wL]at h;cases h
  rw[if_neg this];exact h
 |z::a,x,y,b,c,h=>by show(if z=z then X9 zW (a++x::b) (a++y::c)else _)=true;rw[if_pos rfl];exact aZm a h
theorem uniq{α:Type}{lt:α->α->Prop}(d:∀a,¬lt a a)(j:∀a b c,lt a b->lt b c->lt a c):∀ {l m:List α},l.Pairwise lt->m.Pairwise lt->(∀a,a∈l↔a∈m)->l=m
 |[],[],_,_,_=>rfl
 |[],y::m,_,_,h=>by have:=(h y).mpr bYx;cases this
 |x::l,[],_,_,h=>by have:=(h x).mp bYx;cases this
 |x::l,y::m,h1,h2,h=>by
  obtain⟨i,k⟩:=cQG.mp h1;obtain⟨b1,n⟩:=cQG.mp h2;have e:x=y:=by
   rcases bYr.mp ((h x).mp bYx)with e|e
   ·exact e
   ·rcases bYr.mp ((h y).mpr bYx)with g|g
    ·exact g.symm
    ·exact absurd (j _ _ _ (i y g) (b1 x e)) (d x)
  subst e;rw[uniq d j k n λa=>?_];constructor
  ·intro f;rcases bYr.mp ((h a).mp (bYt _ f))with e|e
   ·subst e;exact absurd (i a f) (d a)
   ·exact e
  ·intro f;rcases bYr.mp ((h a).mpr (bYt _ f))with e|e
   ·subst e;exact absurd (b1 a f) (d a)
   ·exact e
theorem IsTup.keep{h h':Heap}{a x:Nat}{vs its:Array bYi}{n:Nat}(b:h.get? a=some (bY6 "list" vs n))(k:∀c o,c≠a->h.get? c=some o->h'.get? c=some o)(t:cZe h x its):cZe h' x its:=by
 obtain⟨o,e,c,m,d⟩:=t;refine⟨o,k x o (λz=>?_) e,c,m,d⟩;rw[z,b]at e;cases e;have f:Value.type "list"=Value.type "tuple":=c;injection f with c'';exact absurd c'' (by decide)
theorem rep2.keep{h h':Heap}{a:Nat}{vs:Array bYi}{n:Nat}(b:h.get? a=some (bY6 "list" vs n))(k:∀c o,c≠a->h.get? c=some o->h'.get? c=some o){p:Int×Int}{u:bYi}(t:rep2 h p u):rep2 h' p u:=
 let ⟨x,its,e,t1,t2⟩:=t;⟨x,its,e,IsTup.keep b k t1,t2⟩
theorem rep3.keep{h h':Heap}{a:Nat}{vs:Array bYi}{n:Nat}(b:h.get? a=some (bY6 "list" vs n))(k:∀c o,c≠a->h.get? c=some o->h'.get? c=some o){p:qE}{u:bYi}(t:rep3 h p u):rep3 h' p u:=
 let ⟨x,its,e,t1,t2⟩:=t;⟨x,its,e,IsTup.keep b k t1,L2.Paired.mapP t2 λ_ _ z=>rep2.keep b k z⟩
end Stree
namespace L2
open PySem PySem.Spec PyProof.Rows
open Stree (qE u4)
def bZ9(H:Hp)(p:Int×Int)(x:V):Prop:=∃c,x= .ref c/\H c=some (.tup [.int p.1,.int p.2])
def qV(H:Hp)(b:Nat)(c:qE):Prop:=∃a,H b=some (.tup a)/\cQc (bZ9 H) c a
section
variable {X:Cx}{pins:List (Nat×Obj)}{σ:St}{H:Hp}{s:bYl}{k:Nat}
theorem aYi{α β γ:Type}{F:α->β->Prop}{G:β->γ->Prop}{K:α->γ->Prop}(h:∀a b c,F a b->G b c->K a c):∀ {l:List α} {m:List β} {n:List γ},cQc F l m->cQc G m n->cQc K l n
 |_,_,_,.nil,.nil=> .nil
 |_,_,_,.cons a r,.cons b t=> .cons (h _ _ _ a b) (aYi h r t)
theorem Inv.rep2(I:Inv X pins σ H s){p:Int×Int}{x:V}{u:bYi}(h:bZ9 H p x)(r:zE x u):Stree.rep2 s.heap p u:=by
 obtain⟨c,rfl,e⟩:=h;cases r;obtain⟨f,b,g,_⟩:=I.tuple (SqT.of e);obtain⟨j,i,rfl,d,a⟩:=xS.two b;exact⟨c,_,rfl,g,.cons d (.cons a .nil)⟩
theorem Inv.rep3(I:Inv X pins σ H s){b:Nat}{f:qE}(h:qV H b f):Stree.rep3 s.heap f (.ref b):=by
 obtain⟨j,e,z⟩:=h;obtain⟨d,g,i,_⟩:=I.tuple (SqT.of e);exact⟨b,d,rfl,i,aYi (F:=bZ9 H) (G:=zE) (K:=Stree.rep2 s.heap) (λ_ _ _ a c=>I.rep2 a c) z g⟩
theorem Z7(hr:vK k X.A):jO X (.builtin "sorted") (λxs H Q=>∃ (p:Nat)(its:List V)(d:Nat->qE)(kn:Nat->Int),xs= [.ref p]/\H p=some (.lst its)/\its.length<64/\ (∀i j,i<its.length->j<its.length->d i=d j->i=j)/\(∀i x,its[i]? =some x->∃a b,x= .ref a/\H a=some (.tup [.ref b,.int (kn i)])/\qV H b (d i))/\ ∀l (out:List Nat),H l=none->out.Perm (bYv its.length)->(out.Pairwise λi j=>u4 (d i) (d j)=true)->Q (.ref l) (upd H l (.lst (out.map λi=>its.getD i .non)))):=by
 intro pins s σ H xs us Q I r h;obtain⟨p,its,d,kn,rfl,hp,b0,M,a6,q⟩:=h;obtain⟨u,rfl,ru⟩:=aQM r;cases ru;obtain⟨g,rv,pl,hz⟩:=I.list (SqL.of hp);have a0:g.length=its.length:=rv.length.symm;refine cZD kind_sorted plain_sorted entry_sorted (args_sorted1 _) ?_;unfold cQ2.«sorted»;refine bYj (m:=checkCount "sorted" 1 1 _) (bYn ?_);refine bYj (collect_list pl.isList ?_ (by rw[bYR];omega));refine bYj (cZz ?_ (by rw[bYR];omega));have S:((s.heap.push (bY6 "list" #[] 0)).update s.heap.objs.size (bY9 (·++g.toArray))).objs.size=s.heap.objs.size+1:=by rw[Heap.size_update,size_push']
 have y:(((s.heap.push (bY6 "list" #[] 0)).update s.heap.objs.size (bY9 (·++g.toArray))).push (bY6 "list" g.toArray 0)).get? (s.heap.objs.size+1)=some (bY6 "list" g.toArray 0):=by rw[<- S];exact bYL _ rfl
 have keep:∀b o,s.heap.get? b=some o->(((s.heap.push (bY6 "list" #[] 0)).update s.heap.objs.size (bY9 (·++g.toArray))).push (bY6 "list" g.toArray 0)).get? b=some o:=λb o q=>by have G:b<s.heap.objs.size:=bYw q;rw[Heap.get?_push_ne _ _ _ (by rw[S];exact bYG (cQq G)),cJa _ _ _ _ (bYG G),Heap.get?_push_ne _ _ _ (bYG G)];exact q
 show bYq _ _ _ _ _ {s with heap:=((s.heap.push (bY6 "list" #[] 0)).update s.heap.objs.size (bY9 (·++g.toArray))).push (bY6 "list" g.toArray 0) };rw[S];generalize b2:((s.heap.push (bY6 "list" #[] 0)).update s.heap.objs.size (bY9 (·++g.toArray))).push (bY6 "list" g.toArray 0)=L at y keep ⊢;refine bYj (cQB (cQ8 cJo ⟨_,y,rfl⟩ cJg ?body (cJn _)));case body=>
  have I1:Inv X pins σ H {s with heap:=L}:=I.kept (t':=s.toks) keep;have N:s.heap.objs.size<=s.heap.objs.size+1:=cXm _;have fa:=I.fpOk (b:=s.heap.objs.size+1) N (I.hok.fresh N);obtain⟨r,a4,a2⟩:=Stree.aJA (n:=g.length) (λi j=>u4 (d i) (d j)) (λi _=>Stree.vC _) (λi j k _ _ _ L E=>Stree.Y2 L E)
   (λi j C R a7=>Stree.aXq λz=>a7 (M i j (by omega) (by omega) z))
  have ob:∀i,i<g.length->∃a o u t m,g.getD i Value.none= .ref a/\L.get? a=some o/\o.cls= .type "tuple"/\o.data= .seq #[u,.int (kn i) t] m/\Stree.rep3 L (d i) u:=λi C=>by
   have B:i<its.length:=by omega
   obtain⟨a,b,Y,e2,e3⟩:=a6 i its[i] (bYh B);obtain⟨u0,O,F⟩:=rv.get (bYh B);rw[Y]at F;cases F;obtain⟨b1,rj,pj,_⟩:=I1.tuple (SqT.of e2);obtain⟨u1,u2,rfl,q1,q2⟩:=xS.two rj;cases q1;obtain⟨t,rfl⟩:=q2;obtain⟨o,J,D,m,P⟩:=pj;exact⟨a,o,_,t,m,by simp[bY4,O],J,D,P,I1.rep3 e3⟩
  refine Stree.aZI (s:={s with heap:=L}) y (by omega) r a4 (λE=>⟨tuples' false,λE Z=>⟨λQ' a5=>?_,λi j C' C R hC=>?_⟩⟩) λp h5 c5 U a3 k5 o5=>?_
  ·have kt:∀ {x:Nat} {o:Obj},L.get? x=some o->o.cls= .type "tuple"->E.get? x=some o:=λ{x o} e c=>Z x o (λz=>by rw[z,y]at e;cases e;have c':Value.type "list"=Value.type "tuple":=c;injection c' with c'';exact absurd c'' (by decide)) e;have a1:∀ (l:List bYi),(∀ (i:Nat)(v:bYi),l[i]? =some v->∃a o u w m,v=Value.ref a/\E.get? a=some o/\o.cls= .type "tuple"/\o.data= .seq #[u,w] m/\∃c its,u= .ref c/\cZe E c its)->
     ∃fs,cJI E l fs/\fs.length=l.length/\∀f∈fs,∃c its,f=Value.ref c/\cZe E c its:=by
    intro l
    induction l with
    |nil=>intro _;exact⟨[],trivial,rfl,λf hf=>by cases hf⟩
    |cons v l ih=>
     intro K;obtain⟨a,o,u,w,m,rfl,J,D,P,c,its,rfl,g4⟩:=K 0 v rfl;obtain⟨fs,f1,f2,f3⟩:=ih λi v h=>K (i+1) v h;refine⟨.ref c::fs,cZ3 J D P rfl f1,by simp[f2],λf hf=>?_⟩;rcases bYr.mp hf with rfl|hf
     ·exact⟨c,its,rfl,g4⟩
     ·exact f3 f hf
   obtain⟨fs,f1,f2,f3⟩:=a1 g λi v K=>by
    have C:i<g.length:=by
     rcases cZj i g.length with h|h
     ·exact h
     ·rw[bYQ h]at K;cases K
    obtain⟨a,o,u,t,m,g0,J,D,P,g4⟩:=ob i C;have:g.getD i Value.none=v:=by simp[bY4,K]
    rw[this]at g0;obtain⟨c,its,e,g5,_⟩:=g4;exact⟨a,o,u,_,m,g0,kt J D,D,P,c,_,e,Stree.IsTup.keep y Z g5⟩
   refine PySem.W.kat_kind (T:= .type "tuple") f1 (by omega) (λv K=>?_) rfl a5;obtain⟨c,its,rfl,o,J,D,_⟩:=f3 v K;have z:PySem.W.Looks (bYs X.prog X.w) E (typeOf (.ref c)) o.cls:=(PySem.W.Looks.ld J).andThen .now;rw[D]at z;exact z
  ·obtain⟨ai,oi,ui,t1,m1,g0,J,D,P,g4⟩:=ob i C;obtain⟨aj,oj,uj,t3,m2,d0,d1,d2,d3,d4⟩:=ob j R;have kt:∀ {x:Nat} {o:Obj},L.get? x=some o->o.cls= .type "tuple"->E.get? x=some o:=λ{x o} e c=>Z x o (λz=>by rw[z,y]at e;cases e;have c':Value.type "list"=Value.type "tuple":=c;injection c' with c'';exact absurd c'' (by decide)) e;show bYq _ _ (keyLt' _ (g.getD i Value.none) (g.getD j Value.none)) _ _ _;rw[g0,d0];refine Stree.bJz (by have:=hr.un;show X.A.units+1+1+1<cLine;omega) (kt J D) P (kt d1 d2) d3 (Stree.rep3.keep y Z g4) (Stree.rep3.keep y Z d4) (λz=>by rw[M i j (by omega) (by omega) z]) ?_;have Y:=a2 i j C R;rw[Y]at hC;by_cases z:d i=d j
   ·have:u4 (d i) (d j)=false:=by rw[z];exact Stree.vC _
    rw[this]at hC;simpa[z]using hC
   ·have:decide (d i≠d j)=true:=decide_eq_true z;rw[this,Bool.true_and];exact hC
  ·have hm:∀i∈p,i<g.length:=λi C=>bYO.mp (U.mem_iff.mp C);have vv:∀l:List Nat,(∀i∈l,i<g.length)->xS (l.map λi=>its.getD i .non) (l.map λi=>g.getD i Value.none):=by
    intro l;induction l with
    |nil=>intro _;exact .nil
    |cons i l ih=>
     intro h;refine .cons ?_ (ih λj R=>h j (bYt _ R));have C:=h i bYx;have B:i<its.length:=by omega
     obtain⟨u0,O,F⟩:=rv.get (bYh B);show zE (its.getD i .non) (g.getD i Value.none);have Y:g.getD i Value.none=u0:=by simp[bY4,O]
     have e2:its.getD i .non=its[i]:=by simp[bY4,bYh B]
     rw[Y,e2];exact F
   have v2:=vv p hm;have a9:p.Perm (bYv its.length):=by rw[<- a0];exact U
   have G:p.length=g.length:=by rw[U.length_eq,bY8]
   have a8:p.Pairwise λi j=>u4 (d i) (d j)=true:=a3.imp_of_mem λ{i j} C R h=>by have:=a2 i j (hm i C) (hm j R);rw[<- this];exact decide_eq_true h
   have I5:Inv X pins σ (upd H (s.heap.objs.size+1) (.lst (p.map λi=>its.getD i .non))) {s with heap:=h5}:=
    I.laid (t':=s.toks) (λb o e=>k5 b o (bYG (cQq (bYw e))) (keep b o e)) N ⟨by rw[bYo,bYR];omega,_,c5,v2,o5⟩
   exact⟨_,rfl,bYn ⟨_,rfl,⟨.ref _,_,I5,rfl,q _ p fa.1 a9 a8⟩⟩⟩
end
end L2
namespace L2
open PySem PySem.Spec PyProof.Rows
section
variable {X:Cx}
theorem uB:jO X (.builtin "sorted") (λxs H Q=>∃ (p:Nat)(its:List V)(g:Nat->Int×Int),xs= [.ref p]/\H p=some (.lst its)/\its.length<64/\ (∀i j,i<its.length->j<its.length->g i=g j->i=j)/\(∀i x,its[i]? =some x->∃a,x= .ref a/\H a=some (.tup [.int (g i).1,.int (g i).2]))/\ ∀l (out:List Nat),H l=none->out.Perm (bYv its.length)->(out.Pairwise λi j=>Stree.zW (g i) (g j)=true)->Q (.ref l) (upd H l (.lst (out.map λi=>its.getD i .non)))):=by
 intro G s σ H xs us Q I r h;obtain⟨p,its,g,rfl,hp,b1,a2,a7,q⟩:=h;obtain⟨u,rfl,ru⟩:=aQM r;cases ru;obtain⟨d,rv,pl,hz⟩:=I.list (SqL.of hp);have a0:d.length=its.length:=rv.length.symm;refine cZD kind_sorted plain_sorted entry_sorted (args_sorted1 _) ?_;unfold cQ2.«sorted»;refine bYj (m:=checkCount "sorted" 1 1 _) (bYn ?_);refine bYj (collect_list pl.isList ?_ (by rw[bYR];omega));refine bYj (cZz ?_ (by rw[bYR];omega));have Z:((s.heap.push (bY6 "list" #[] 0)).update s.heap.objs.size (bY9 (·++d.toArray))).objs.size=s.heap.objs.size+1:=by rw[Heap.size_update,size_push']
 have B:(((s.heap.push (bY6 "list" #[] 0)).update s.heap.objs.size (bY9 (·++d.toArray))).push (bY6 "list" d.toArray 0)).get? (s.heap.objs.size+1)=some (bY6 "list" d.toArray 0):=by rw[<- Z];exact bYL _ rfl
 have keep:∀b o,s.heap.get? b=some o->(((s.heap.push (bY6 "list" #[] 0)).update s.heap.objs.size (bY9 (·++d.toArray))).push (bY6 "list" d.toArray 0)).get? b=some o:=λb o q=>by have Y:b<s.heap.objs.size:=bYw q;refine bYm _ ?_;exact(bYP _ _ (cXU Y)).trans (bYm _ q)
 show bYq _ _ _ _ _ {s with heap:=((s.heap.push (bY6 "list" #[] 0)).update s.heap.objs.size (bY9 (·++d.toArray))).push (bY6 "list" d.toArray 0) };rw[Z];generalize b3:((s.heap.push (bY6 "list" #[] 0)).update s.heap.objs.size (bY9 (·++d.toArray))).push (bY6 "list" d.toArray 0)=M at B keep ⊢;refine bYj (cQB (cQ8 cJo ⟨_,B,rfl⟩ cJg ?body (cJn _)));case body=>
  have I1:Inv X G σ H {s with heap:=M}:=I.kept (t':=s.toks) keep;have K:s.heap.objs.size<=s.heap.objs.size+1:=cXm _;have fa:=I.fpOk (b:=s.heap.objs.size+1) K (I.hok.fresh K);obtain⟨r,a5,a3⟩:=Stree.aJA (n:=d.length) (λi j=>Stree.zW (g i) (g j)) (λi _=>Stree.wL _) (λi j k _ _ _ M S=>Stree.aXp M S)
   (λi j C P a8=>Stree.aXo λz=>a8 (a2 i j (by omega) (by omega) z))
  have ob:∀i,i<d.length->∃a o A D m,d.getD i Value.none= .ref a/\M.get? a=some o/\o.cls= .type "tuple"/\o.data= .seq #[.int (g i).1 A,.int (g i).2 D] m:=λi C=>by
   have w:i<its.length:=by omega
   obtain⟨a,U,e2⟩:=a7 i its[i] (bYh w);obtain⟨u0,L,E⟩:=rv.get (bYh w);rw[U]at E;cases E;obtain⟨b2,rj,pj,_⟩:=I1.tuple (SqT.of e2);obtain⟨u1,u2,rfl,q1,q2⟩:=xS.two rj;obtain⟨A,rfl⟩:=q1;obtain⟨D,rfl⟩:=q2;obtain⟨o,N,J,m,O⟩:=pj;exact⟨a,o,A,D,m,by simp[bY4,L],N,J,O⟩
  refine Stree.aZI (s:={s with heap:=M}) B (by omega) r a5 (λS=>⟨tuples' true,λS k2=>⟨λQ' a6=>?_,λi j C' C P hC=>?_⟩⟩) λp h5 c5 R a4 k5 o5=>?_
  ·have kt:∀ {x:Nat} {o:Obj},M.get? x=some o->o.cls= .type "tuple"->S.get? x=some o:=λ{x o} e c=>k2 x o (λz=>by rw[z,B]at e;cases e;have c':Value.type "list"=Value.type "tuple":=c;injection c' with c'';exact absurd c'' (by decide)) e;have a1:∀ (l:List bYi),(∀ (i:Nat)(v:bYi),l[i]? =some v->∃a o A D m x y,v=Value.ref a/\S.get? a=some o/\o.cls= .type "tuple"/\o.data= .seq #[.int x A,.int y D] m)->
     ∃fs,cJI S l fs/\fs.length=l.length/\∀f∈fs,∃x t,f=Value.int x t:=by
    intro l
    induction l with
    |nil=>intro _;exact⟨[],trivial,rfl,λf hf=>by cases hf⟩
    |cons v l ih=>
     intro F;obtain⟨a,o,A,D,m,x,y,rfl,N,J,O⟩:=F 0 v rfl;obtain⟨fs,f1,f2,f3⟩:=ih λi v h=>F (i+1) v h;refine⟨.int x A::fs,cZ3 N J O rfl f1,by simp[f2],λf hf=>?_⟩;rcases bYr.mp hf with rfl|hf
     ·exact⟨x,A,rfl⟩
     ·exact f3 f hf
   obtain⟨fs,f1,f2,f3⟩:=a1 d λi v F=>by
    have C:i<d.length:=by
     rcases cZj i d.length with h|h
     ·exact h
     ·rw[bYQ h]at F;cases F
    obtain⟨a,o,A,D,m,g0,N,J,O⟩:=ob i C;have:d.getD i Value.none=v:=by simp[bY4,F]
    rw[this]at g0;exact⟨a,o,A,D,m,_,_,g0,kt N J,J,O⟩
   refine PySem.W.kat_kind (T:= .type "int") f1 (by omega) (λv F=>?_) rfl a6;obtain⟨x,t,rfl⟩:=f3 v F;exact .now
  ·obtain⟨ai,oi,A,D,m1,g0,N,J,O⟩:=ob i C;obtain⟨aj,oj,t3,t4,m2,d0,d1,d2,d3⟩:=ob j P;have kt:∀ {x:Nat} {o:Obj},M.get? x=some o->o.cls= .type "tuple"->S.get? x=some o:=λ{x o} e c=>k2 x o (λz=>by rw[z,B]at e;cases e;have c':Value.type "list"=Value.type "tuple":=c;injection c' with c'';exact absurd c'' (by decide)) e;show bYq _ _ (keyLt' _ (d.getD i Value.none) (d.getD j Value.none)) _ _ _;rw[g0,d0];refine Stree.aKS (kt N J) O (kt d1 d2) d3 ?_;have U:=a3 i j C P;rw[U]at hC;exact hC
  ·have hm:∀i∈p,i<d.length:=λi C=>bYO.mp (R.mem_iff.mp C);have vv:∀l:List Nat,(∀i∈l,i<d.length)->xS (l.map λi=>its.getD i .non) (l.map λi=>d.getD i Value.none):=by
    intro l;induction l with
    |nil=>intro _;exact .nil
    |cons i l ih=>
     intro h;refine .cons ?_ (ih λj P=>h j (bYt _ P));have C:=h i bYx;have w:i<its.length:=by omega
     obtain⟨u0,L,E⟩:=rv.get (bYh w);show zE (its.getD i .non) (d.getD i Value.none);have U:d.getD i Value.none=u0:=by simp[bY4,L]
     have e2:its.getD i .non=its[i]:=by simp[bY4,bYh w]
     rw[U,e2];exact E
   have v2:=vv p hm;have b0:p.Perm (bYv its.length):=by rw[<- a0];exact R
   have Y:p.length=d.length:=by rw[R.length_eq,bY8]
   have a9:p.Pairwise λi j=>Stree.zW (g i) (g j)=true:=a4.imp_of_mem λ{i j} C P h=>by have:=a3 i j (hm i C) (hm j P);rw[<- this];exact decide_eq_true h
   have I5:Inv X G σ (upd H (s.heap.objs.size+1) (.lst (p.map λi=>its.getD i .non))) {s with heap:=h5}:=
    I.laid (t':=s.toks) (λb o e=>k5 b o (bYG (cQq (bYw e))) (keep b o e)) K ⟨by rw[bYo,bYR];omega,_,c5,v2,o5⟩
   exact⟨_,rfl,bYn ⟨_,rfl,⟨.ref _,_,I5,rfl,q _ p fa.1 b0 a9⟩⟩⟩
end
end L2
namespace Fm
open Stree (qE u4 zW)
structure Ok(n:Nat)(L:Nat->Option Nat)(rk:Nat->Nat):Prop where
 lt:∀i j,i<n->L i=some j->j<n/\rk j<rk i
def rdF(L:Nat->Option Nat)(D:Nat->Int):Nat->Nat->qE
 |0,i=> [(D i,(i:Int))]
 |f+1,i=>match L i with
  |none=> [(D i,(i:Int))]
  |some j=>rdF L D f j++ [(D i,(i:Int))]
def tpF(L:Nat->Option Nat):Nat->Nat->Nat
 |0,i=>i
 |f+1,i=>match L i with
  |none=>i
  |some j=>tpF L f j
section
variable {n:Nat}{L:Nat->Option Nat}{D:Nat->Int}{rk:Nat->Nat}
theorem aXw{i:Nat}(h:L i=none):∀f,rdF L D f i= [(D i,(i:Int))]
 |0=>rfl
 |f+1=>by unfold rdF;rw[h]
theorem aXP{i:Nat}(h:L i=none):∀f,tpF L f i=i
 |0=>rfl
 |f+1=>by unfold tpF;rw[h]
theorem jD(o:Ok n L rk):∀ (f g i:Nat),i<n->rk i<=f->rk i<=g->rdF L D f i=rdF L D g i
 |f,g,i,hi,hf,hg=>by
  cases h:L i with
  |none=>rw[aXw h,aXw h]
  |some j=>
   obtain⟨a,b⟩:=o.lt i j hi h;cases f with
   |zero=>omega
   |succ f=>
    cases g with
    |zero=>omega
    |succ g=>show(match L i with|none=>_|some j=>rdF L D f j++ [(D i,(i:Int))])=(match L i with|none=>_|some j=>rdF L D g j++ [(D i,(i:Int))]);rw[h];show rdF L D f j++_=rdF L D g j++_;rw[jD o f g j a (by omega) (by omega)]
theorem jH(o:Ok n L rk):∀ (f g i:Nat),i<n->rk i<=f->rk i<=g->tpF L f i=tpF L g i
 |f,g,i,hi,hf,hg=>by
  cases h:L i with
  |none=>rw[aXP h,aXP h]
  |some j=>
   obtain⟨a,b⟩:=o.lt i j hi h;cases f with
   |zero=>omega
   |succ f=>
    cases g with
    |zero=>omega
    |succ g=>show(match L i with|none=>_|some j=>tpF L f j)=(match L i with|none=>_|some j=>tpF L g j);rw[h];exact jH o f g j a (by omega) (by omega)
def rd(L:Nat->Option Nat)(D:Nat->Int)(rk:Nat->Nat)(i:Nat):qE:=rdF L D (rk i) i
def tp(L:Nat->Option Nat)(rk:Nat->Nat)(i:Nat):Nat:=tpF L (rk i) i
theorem Y6{i:Nat}(h:L i=none):rd L D rk i= [(D i,(i:Int))]:=aXw h _
theorem zT{i:Nat}(h:L i=none):tp L rk i=i:=aXP h _
theorem v1(o:Ok n L rk){i j:Nat}(a:i<n)(h:L i=some j):rd L D rk i=rd L D rk j++ [(D i,(i:Int))]:=by
 obtain⟨b,d⟩:=o.lt i j a h;unfold rd;cases c:rk i with
 |zero=>omega
 |succ m=>show(match L i with|none=>_|some j=>rdF L D m j++ [(D i,(i:Int))])=_;rw[h];show rdF L D m j++_=_;rw[jD o m (rk j) j b (by omega) (bYp _)]
theorem uA(o:Ok n L rk){i j:Nat}(a:i<n)(h:L i=some j):tp L rk i=tp L rk j:=by
 obtain⟨b,d⟩:=o.lt i j a h;unfold tp;cases c:rk i with
 |zero=>omega
 |succ m=>show(match L i with|none=>_|some j=>tpF L m j)=_;rw[h];exact jH o m (rk j) j b (by omega) (bYp _)
theorem aXb(o:Ok n L rk){P:Nat->Prop}(h0:∀i,i<n->L i=none->P i)(a:∀i j,i<n->L i=some j->P j->P i):∀ (m i:Nat),rk i<=m->i<n->P i
 |m,i,hm,hi=>by
  cases h:L i with
  |none=>exact h0 i hi h
  |some j=>
   obtain⟨b,c⟩:=o.lt i j hi h;cases m with
   |zero=>omega
   |succ m=>exact a i j hi h (aXb o h0 a m j (by omega) b)
theorem bQq(o:Ok n L rk){i:Nat}(a:i<n):tp L rk i<n/\L (tp L rk i)=none:=
 aXb o (P:=λi=>tp L rk i<n/\L (tp L rk i)=none) (λi a h=>by rw[zT h];exact⟨a,h⟩) (λi j a h b=>by rw[uA o a h];exact b) (rk i) i (bYp _) a
theorem aXx(o:Ok n L rk){i:Nat}(a:i<n):∃r,rd L D rk i=r++ [(D i,(i:Int))]:=by
 cases h:L i with
 |none=>exact⟨[],Y6 h⟩
 |some j=>exact⟨_,v1 o a h⟩
theorem aYq(o:Ok n L rk){i j:Nat}(b:i<n)(c:j<n)(h:rd L D rk i=rd L D rk j):i=j:=by
 obtain⟨r,e⟩:=aXx (D:=D) o b;obtain⟨d,a⟩:=aXx (D:=D) o c;rw[e,a]at h;have:=(cZS h rfl).2;injection this with z _;have:=congrArg Prod.snd z;simp only at this;omega
theorem bJ1(o:Ok n L rk){i:Nat}(a:i<n):∃r,rd L D rk i=(D (tp L rk i),((tp L rk i:Nat):Int))::r:=
 aXb o (P:=λi=>∃r,rd L D rk i=(D (tp L rk i),((tp L rk i:Nat):Int))::r) (λi a h=>⟨[],by rw[Y6 h,zT h]⟩)
  (λi j a h ⟨r,e⟩=>⟨r++ [(D i,(i:Int))],by rw[v1 o a h,uA o a h,e];rfl⟩) (rk i) i (bYp _) a
def Un(L:Nat->Option Nat)(D:Nat->Int)(rk:Nat->Nat)(v z:Nat):Prop:=rd L D rk v<+:rd L D rk z
theorem bWZ(o:Ok n L rk){i:Nat}(a:i<n):Un L D rk (tp L rk i) i:=by
 obtain⟨r,e⟩:=bJ1 (D:=D) o a;have h:=(bQq o a).2;unfold Un;rw[Y6 h,e];exact⟨r,rfl⟩
theorem bZp(o:Ok n L rk){v:Nat}(q:v<n):∀ {k:Nat},k<n->Un L D rk v k->k≠v->∃c,c<n/\L c=some v/\Un L D rk c k:=λ{k} a f d=>by
 refine aXb o (P:=λk=>Un L D rk v k->k≠v->∃c,c<n/\L c=some v/\Un L D rk c k) (λk a h f d=>?_) (λk p a h s f d=>?_) (rk k) k (bYp _) a f d
 ·obtain⟨r,e⟩:=f;obtain⟨j,l⟩:=aXx (D:=D) o q;rw[Y6 h,l]at e;have hl:=congrArg cXM e;simp only[bYM,cQh,cXn]at hl;have u:j= []:=cZd (by omega);have w:r= []:=cZd (by omega);rw[u,w]at e;injection e with z _;have:=congrArg Prod.snd z;simp only at this;omega
 ·obtain⟨y,_⟩:=o.lt k p a h;have b:=f;unfold Un at b;rw[v1 o a h]at b;by_cases i:p=v
  ·subst i;exact⟨k,a,h,List.prefix_refl _⟩
  ·have g:Un L D rk v p:=by
    obtain⟨r,e⟩:=b;rcases List.eq_nil_or_concat r with rfl|⟨j,x,rfl⟩
    ·rw[cQu]at e;obtain⟨j,l⟩:=aXx (D:=D) o q;rw[l]at e;have:=(cZS e rfl).2;injection this with z _;have:=congrArg Prod.snd z;simp only at this;omega
    ·rw[List.concat_eq_append,<- cXu]at e;exact⟨j,(cZS e rfl).1⟩
   obtain⟨c,t,hl,m⟩:=s g i;refine⟨c,t,hl,?_⟩;unfold Un;rw[v1 o a h];exact List.IsPrefix.trans m (List.prefix_append _ _)
theorem bWY(o:Ok n L rk){v z:Nat}(b:v<n)(hz:z<n)(h:Un L D rk v z)(a:z≠v):u4 (rd L D rk v) (rd L D rk z)=true:=by
 obtain⟨r,e⟩:=h;rw[<- e];refine Stree.aVc _ λc=>a ?_;rw[c,cQu]at e;exact(aYq o b hz e).symm
theorem bWK(o:Ok n L rk){v c d z:Nat}(g:c<n)(b:d<n)(i:L c=some v)(h:L d=some v)(a:zW (D c,(c:Int)) (D d,(d:Int))=true)(f:Un L D rk c z):u4 (rd L D rk z) (rd L D rk d)=true:=by
 obtain⟨r,e⟩:=f;rw[<- e,v1 o g i,v1 o b h,cXu];exact Stree.aZm _ a
structure aZU(n:Nat)(L:Nat->Option Nat)(D:Nat->Int)(rk:Nat->Nat)(root:Nat)(told nx:List Nat):Prop where
 tl:∀x∈told,x<n/\tp L rk x=root
 al:∀x∈nx,x<n/\tp L rk x=root
 tt:told.Pairwise λx y=>u4 (rd L D rk x) (rd L D rk y)=true
 ta:∀x∈told,∀y∈nx,u4 (rd L D rk x) (rd L D rk y)=true
 aa:nx.Pairwise λx y=>∀z,Un L D rk x z->u4 (rd L D rk z) (rd L D rk y)=true
 all:∀k,k<n->tp L rk k=root->k∈told\/∃a∈nx,Un L D rk a k
theorem aZU.start(o:Ok n L rk){i:Nat}(b:i<n):aZU n L D rk (tp L rk i) [] [tp L rk i]:=by
 have h:=bQq o b;refine⟨λx a=>(nomatch a),λx a=>?_,.nil,λx a=>(nomatch a),cQF _ _,λk c e=> .inr ⟨_,bYz.mpr rfl,?_⟩⟩
 ·rw[bYz.mp a];exact⟨h.1,by rw[zT h.2]⟩
 ·have z:=bWZ (D:=D) o c;rw[e]at z;exact z
theorem aZU.step(o:Ok n L rk){j v:Nat}{m jT zO:List Nat}(W:aZU n L D rk j m (v::jT))(F:∀i,i∈zO↔i<n/\L i=some v)(H:zO.Pairwise λx y=>zW (D x,(x:Int)) (D y,(y:Int))=true):aZU n L D rk j (m++ [v]) (zO++jT):=by
 obtain⟨w,q⟩:=W.al v bYx;obtain⟨G,I⟩:=cQG.mp W.aa;have b:∀c∈zO,c<n/\L c=some v/\tp L rk c=j/\Un L D rk v c/\c≠v:=λc l=>by
  obtain⟨t,s⟩:=(F c).mp l;refine⟨t,s,by rw[uA o t s];exact q,?_,λz=>?_⟩
  ·unfold Un;rw[v1 o t s];exact List.prefix_append _ _
  ·have:=(o.lt c v t s).2;rw[z]at this;omega
 have self:∀x,Un L D rk x x:=λx=>List.prefix_refl _;refine⟨λx f=>?_,λx f=>?_,?_,λx f y g=>?_,?_,λk r u=>?_⟩
 ·rcases bYX.mp f with f|f
  ·exact W.tl x f
  ·rw[bYz.mp f];exact⟨w,q⟩
 ·rcases bYX.mp f with f|f
  ·exact⟨(b x f).1,(b x f).2.2.1⟩
  ·exact W.al x (bYt _ f)
 ·refine cZ2.mpr ⟨W.tt,cQF _ _,λx f y g=>?_⟩;rw[bYz.mp g];exact W.ta x f v bYx
 ·have p:∀y∈zO++jT,u4 (rd L D rk v) (rd L D rk y)=true:=λy g=>by
   rcases bYX.mp g with g|g
   ·exact bWY o w (b y g).1 (b y g).2.2.2.1 (b y g).2.2.2.2
   ·exact G y g v (self v)
  rcases bYX.mp f with f|f
  ·exact Stree.Y2 (W.ta x f v bYx) (p y g)
  ·rw[bYz.mp f];exact p y g
 ·refine cZ2.mpr ⟨H.imp_of_mem λ{c d} l hd h z B=>bWK o (b c l).1 (b d hd).1 (b c l).2.1 (b d hd).2.1 h B,I,λc l y g z B=>?_⟩;exact G y g z (List.IsPrefix.trans (b c l).2.2.2.1 B)
 ·rcases W.all k r u with h|⟨a,A,E⟩
  ·exact .inl (cXb _ h)
  ·rcases bYr.mp A with rfl|A
   ·by_cases e:k=a
    ·exact .inl (bYF _ (bYz.mpr e))
    ·obtain⟨c,l,hl,C⟩:=bZp o w r E e;exact .inr ⟨c,cXb _ ((F c).mpr ⟨l,hl⟩),C⟩
   ·exact .inr ⟨a,bYF _ A,E⟩
theorem aZU.nodup{b:Nat}{a nx:List Nat}(W:aZU n L D rk b a nx):a.Nodup:=
 W.tt.imp λ{x y} h z=>by rw[z,Stree.vC]at h;cases h
theorem wD:∀ {n:Nat} {l:List Nat},l.Nodup->(∀x∈l,x<n)->l.length<=n
 |0,[],_,_=>bYp _
 |0,x::_,_,h=>absurd (h x bYx) (cQ1 _)
 |n+1,l,nd,h=>by
  by_cases c:n∈l
  ·have b:=wD (n:=n) (l:=l.erase n) (nd.erase n) λx a=>by
    have:=(cJE nd).mp a;have:=h x this.2;omega
   rw[cJF c]at b;omega
  ·have b:=wD (n:=n) (l:=l) nd λx a=>by
    have:=h x a;have:x≠n:=λz=>c (z ▸ a);omega
   omega
theorem aZU.len{b:Nat}{a nx:List Nat}(W:aZU n L D rk b a nx):a.length<=n:=wD W.nodup λx c=>(W.tl x c).1
theorem aZU.done{b:Nat}{c:List Nat}(W:aZU n L D rk b c [])(k:Nat):k∈c↔k<n/\tp L rk k=b:=
 ⟨λh=>W.tl k h,λ⟨f,e⟩=>(W.all k f e).elim id λ⟨a,d,_⟩=>nomatch d⟩
end
end Fm
namespace Fm
open Stree (qE u4 zW)
section
variable {n:Nat}{L:Nat->Option Nat}{D:Nat->Int}{rk rk':Nat->Nat}
theorem aYr(o:Ok n L rk)(b:Ok n L rk'){i:Nat}(a:i<n):rd L D rk i=rd L D rk' i:=by
 unfold rd;rw[jD o (rk i) (max (rk i) (rk' i)) i a (bYp _) (Nat.le_max_left _ _),jD b (rk' i) (max (rk i) (rk' i)) i a (bYp _) (Nat.le_max_right _ _)]
theorem qA(o:Ok n L rk)(b:Ok n L rk'){i:Nat}(a:i<n):tp L rk i=tp L rk' i:=by
 unfold tp;rw[jH o (rk i) (max (rk i) (rk' i)) i a (bYp _) (Nat.le_max_left _ _),jH b (rk' i) (max (rk i) (rk' i)) i a (bYp _) (Nat.le_max_right _ _)]
theorem bJ2(o:Ok n L rk){i:Nat}(c:i<n):∃l:List Nat,(rd L D rk i).map (·.2)=l.map (λk:Nat=>(k:Int))/\l.Nodup/\(∀k∈l,k<n/\rk k<=rk i):=
 aXb o (P:=λi=>∃l:List Nat,(rd L D rk i).map (·.2)=l.map (λk:Nat=>(k:Int))/\l.Nodup/\(∀k∈l,k<n/\rk k<=rk i)) (λi c h=>⟨[i],by rw[Y6 h];rfl,by simp,λk d=>by rw[bYz.mp d];exact⟨c,bYp _⟩⟩)
  (λi j c h ⟨l,e,nd,hl⟩=>by
   obtain⟨m,p⟩:=o.lt i j c h;refine⟨l++ [i],by rw[v1 o c h,cXo,cXo,e];rfl,?_,λk d=>?_⟩
   ·rw[cXI];refine⟨nd,by simp,λa f b g z=>?_⟩;rw[bYz.mp g]at z;have:=(hl a f).2;rw[z]at this;omega
   ·rcases bYX.mp d with d|d
    ·have:=hl k d;exact⟨this.1,by omega⟩
    ·rw[bYz.mp d];exact⟨c,bYp _⟩) (rk i) i (bYp _) c
theorem bWA(o:Ok n L rk){i:Nat}(a:i<n):(rd L D rk i).length<=n:=by
 obtain⟨l,e,b,hl⟩:=bJ2 (D:=D) o a;have h:=congrArg cXM e;rw[bYo,bYo]at h;rw[h];exact wD b λk c=>(hl k c).1
theorem bJq(o:Ok n L rk){a b:Nat}(ha:a<n)(hb:b<n)(h0:L a=none)(hne:tp L rk b≠a):Ok n (λi=>if i=a then some b else L i) (λi=>if tp L rk i=a then rk i+rk b+1 else rk i) where
 lt:=λi j hi h=>by
  by_cases e:i=a
  ·subst e
   rw[if_pos rfl]at h
   cases h
   rw[if_neg hne,if_pos (zT h0)]
   exact⟨hb,by omega⟩
  ·rw[if_neg e]at h
   obtain⟨hj,hr⟩:=o.lt i j hi h
   have et:=uA o hi h
   refine⟨hj,?_⟩
   rw[et]
   split<;> omega
theorem bQ4(o:Ok n L rk)(a:Nat):Ok n (λi=>if i=a then none else L i) rk where
 lt:=λi j hi h=>by
  by_cases e:i=a
  ·rw[if_pos e]at h;cases h
  ·rw[if_neg e]at h;exact o.lt i j hi h
def bZ3(rk:Nat->Nat):Option Nat->Nat
 |none=>0
 |some j=>rk j+1
theorem bQI(o:Ok n L rk)(l:Option Nat)(hl:∀j,l=some j->j<n):Ok (n+1) (λi=>if i=n then l else L i) (λi=>if i=n then bZ3 rk l else rk i) where
 lt:=λi j hi h=>by
  by_cases e:i=n
  ·rw[if_pos e]at h
   have hj:=hl j h
   rw[if_pos e,if_neg (by omega),h]
   exact⟨by omega,cQ5 _⟩
  ·rw[if_neg e]at h
   obtain⟨hj,hr⟩:=o.lt i j (by omega) h
   rw[if_neg e,if_neg (by omega)]
   exact⟨by omega,hr⟩
theorem bVJ(o:Ok n L rk){i:Nat}(a:i<n):tp L rk (tp L rk i)=tp L rk i:=zT (bQq o a).2
theorem Ok.congr{b:Nat->Option Nat}(o:Ok n L rk)(h:∀i,i<n->L i=b i):Ok n b rk:=⟨λi j a e=>o.lt i j a ((h i a).trans e)⟩
end
end Fm
namespace Dm
def opn(d:Int):Bool:=decide (d % 7<5)
def cts(a:List Int)(d:Int):Bool:=opn d && !(a.contains d)
def cnt(b:List Int)(a:Int):Nat->Nat
 |0=>0
 |n+1=>cnt b a n+(if cts b (a+n)then 1 else 0)
def place(d:Int):Int:=d / 7*5+(if 4<d % 7 then 4 else d % 7)
def zF(p:Int):Int:=p / 5*7+p % 5
theorem aWG(d:Int):place d=place (d - 1)+(if opn d then 1 else 0):=by
 unfold place opn;simp only[decide_eq_true_eq];split<;> split<;> split<;> omega
theorem bJf(b:List Int)(a:Int)(n m:Nat):cnt b a (n+m)=cnt b a n+cnt b (a+n) m:=by
 induction m with
 |zero=>rfl
 |succ m d=>have e:cnt b a (n+(m+1))=cnt b a (n+m)+(if cts b (a+((n+m:Nat):Int))then 1 else 0):=rfl;have c:cnt b (a+n) (m+1)=cnt b (a+n) m+(if cts b (a+n+(m:Int))then 1 else 0):=rfl;rw[e,c,d,show a+((n+m:Nat):Int)=a+n+(m:Int) by omega];omega
def wS(a b:Int)(d:Int):Bool:=decide (a<=d) && decide (d<=b)
theorem aJa{S:List Int}(k:S.Nodup)(a b:Int)(h:a<=b+1): (S.filter (wS a (b+1))).length=(S.filter (wS a b)).length+(if S.contains (b+1)then 1 else 0):=by
 induction S with
 |nil=>rfl
 |cons x r c=>
  have d:=cXp.mp k;have c:=c d.2;by_cases j:x=b+1
  ·subst j;have i:r.contains (b+1)=false:=by
    rw[<- Bool.not_eq_true,cQR];exact d.1
   rw[i]at c;have e:wS a (b+1) (b+1)=true:=by simp[wS,h]
   have g:wS a b (b+1)=false:=by simp[wS];omega
   rw[cQX e,cQW (by rw[g];decide)];simp at c ⊢;omega
  ·have e:wS a (b+1) x=wS a b x:=by
    unfold wS;have:decide (x<=b+1)=decide (x<=b):=by rw[decide_eq_decide];omega
    rw[this]
   have g:(x::r).contains (b+1)=r.contains (b+1):=by
    rw[cXA];have:(b+1==x)=false:=by simp;omega
    rw[this,Bool.false_or]
   rw[g];by_cases f:wS a b x=true
   ·rw[cQX (by rw[e];exact f),cQX f];simp only[cQh];omega
   ·rw[cQW (by rw[e];exact f),cQW f];exact c
theorem aV1{b S:List Int}(i:S.Nodup)(g:∀d,d∈S↔d∈b/\opn d=true)(a:Int)(n:Nat): (cnt b a n:Int)=place (a+n - 1) - place (a - 1) - ((S.filter (wS a (a+n - 1))).length:Nat):=by
 induction n with
 |zero=>
  have:S.filter (wS a (a+(0:Nat) - 1))= []:=by rw[List.filter_eq_nil_iff];intro x _;simp[wS];omega
  rw[this];simp[cnt]
 |succ n j=>
  have f:=aJa i a (a+n - 1) (by omega);rw[show a+(n:Int) - 1+1=a+n by omega]at f;have p:=aWG (a+n);rw[show a+((n+1:Nat):Int) - 1=a+n by omega];show((cnt b a n+(if cts b (a+n)then 1 else 0):Nat):Int)=_;have c:(if cts b (a+n)then 1 else 0:Nat)+(if S.contains (a+n)then 1 else 0:Nat)=(if opn (a+n)then 1 else 0:Nat):=by
   have e:S.contains (a+n)=(b.contains (a+n) && opn (a+n)):=by rw[Bool.eq_iff_iff,cQR,Bool.and_eq_true,cQR];exact g _
   rw[e];unfold cts;cases opn (a+↑n)<;> cases b.contains (a+↑n)<;> rfl
  have h:place (a+n)=place (a+n - 1)+((if opn (a+n)then 1 else 0:Nat):Int):=by rw[p];cases opn (a+↑n)<;> rfl
  rw[h,f];push_cast;omega
theorem aJw(p:Int):place (zF p)=p:=by
 unfold place zF;split<;> omega
theorem aZu(p:Int):opn (zF p)=true:=by
 unfold opn zF;rw[decide_eq_true_eq];omega
theorem bQD{p q:Int}(h:p<q):zF p<zF q:=by
 unfold zF;omega
theorem bQC{p q:Int}(h:p<=q):zF p<=zF q:=by
 unfold zF;omega
theorem aZ6(d:Int):d<zF (place d+1):=by
 unfold place zF;split<;> omega
def uJ(date:Int)(p c:Int):Int:=if date<c/\c<=zF p then p+1 else p
def aXj(date:Int)(p:Int)(C:List Int):Int:=C.foldl (uJ date) p
def wX(date e:Int)(c:Int):Bool:=decide (date<c) && decide (c<=e)
theorem aJ4{date:Int}(g:Int):∀ (d b:List Int)(p:Int),(b++d).Pairwise (·<·)->
  p=g+((b.filter (wX date (zF p))).length:Nat)->(∀c∈b,date<c->c≠zF p)->g<=p->
  ∃q,aXj date p d=q/\q=g+(((b++d).filter (wX date (zF q))).length:Nat)/\(∀c∈b++d,date<c->c≠zF q)/\g<=q
 |[],b,p,_,h1,h2,h3=>⟨p,rfl,by rw[cQu];exact h1,by rw[cQu];exact h2,h3⟩
 |c::d,b,p,hs,h1,h2,h3=>by
  have f:((b++ [c])++d).Pairwise (·<·):=by rw[cXu];exact hs
  have lt:∀x∈b,x<c:=λx a=>(cZ2.mp hs).2.2 x a c (bYx ..);have fin:=aJ4 (date:=date) g d (b++ [c]);have step:aXj date p (c::d)=aXj date (uJ date p c) d:=rfl;rw[step,show b++c::d=(b++ [c])++d by simp];by_cases j:date<c/\c<=zF p
  ·have e:uJ date p c=p+1:=if_pos j;rw[e];have up:=bQD (show p<p+1 by omega);refine fin (p+1) f ?_ ?_ (by omega)
   ·have k:b.filter (wX date (zF (p+1)))=b.filter (wX date (zF p)):=by
     refine cJs λx a=>?_;have:=lt x a;unfold wX;have q:decide (x<=zF (p+1))=decide (x<=zF p):=by rw[decide_eq_decide];omega
     rw[q]
    have h:wX date (zF (p+1)) c=true:=by simp[wX];omega
    rw[cQr,k,cQX h,bYM];simp only[List.filter_nil,cQh,cXn];omega
   ·intro x a i;rcases bYX.mp a with a|a
    ·have:=lt x a;omega
    ·have:x=c:=by simpa using a
     omega
  ·have e:uJ date p c=p:=if_neg j;rw[e];refine fin p f ?_ ?_ h3
   ·have h:wX date (zF p) c=false:=by simp[wX];omega
    rw[cQr,cQW (by rw[h];decide)];simpa using h1
   ·intro x a i;rcases bYX.mp a with a|a
    ·exact h2 x a i
    ·have:x=c:=by simpa using a
     omega
structure Due(sh:List Int)(date term D:Int):Prop where
 later:date<D
 cts:cts sh D=true
 cnt:(cnt sh (date+1) (D - date).toNat:Int)=term
theorem bZB{c C:List Int}{date term:Int}(p:1<=term)(g:C.Pairwise (·<·))(b:∀d,d∈C↔d∈c/\opn d=true): Due c date term (zF (aXj date (place date+term) C)):=by
 obtain⟨q,e,n,f,o⟩:=aJ4 (date:=date) (place date+term) C [] (place date+term) (by simpa using g) (by simp) (by simp) (Int.le_refl _);rw[e];rw[List.nil_append]at n f;have a:date<zF q:=Int.lt_of_lt_of_le (aZ6 date) (bQC (by omega));refine⟨a,?_,?_⟩
 ·unfold Dm.cts;rw[aZu,Bool.true_and,Bool.not_eq_true'];rw[<- Bool.not_eq_true,cQR];exact λz=>f _ ((b _).mpr ⟨z,aZu q⟩) a rfl
 ·have i:C.Nodup:=g.imp λh=>by omega
  have k:=aV1 i b (date+1) (zF q - date).toNat;have j:date+1+((zF q - date).toNat:Int) - 1=zF q:=by omega
  have l:date+1 - 1=date:=by omega
  rw[j,l,aJw]at k;have m:C.filter (wS (date+1) (zF q))=C.filter (wX date (zF q)):=by
   refine cJs λx _=>?_;unfold wS wX;have:decide (date+1<=x)=decide (date<x):=by rw[decide_eq_decide];omega
   rw[this]
  rw[m]at k;omega
theorem bQz(b:List Int)(a:Int){n m:Nat}(h:n<=m):cnt b a n<=cnt b a m:=by
 obtain⟨k,rfl⟩:=Nat.le.dest h;rw[bJf];omega
theorem Due.less{a:List Int}{date term D:Int}(u:Due a date term D){n:Nat}(h:date+n<D):(Dm.cnt a (date+1) n:Int)<term:=by
 have e:(D - date).toNat=((D - date).toNat - 1)+1:=by have:=u.later;omega
 have k:=u.cnt;rw[e]at k;have b:Dm.cnt a (date+1) (((D - date).toNat - 1)+1)=Dm.cnt a (date+1) ((D - date).toNat - 1)+(if Dm.cts a (date+1+(((D - date).toNat - 1:Nat):Int))then 1 else 0):=rfl;have c:date+1+(((D - date).toNat - 1:Nat):Int)=D:=by have:=u.later;omega
 rw[c,u.cts]at b;have m:=bQz a (date+1) (show n<=(D - date).toNat - 1 by omega);simp only[if_true]at b;omega
theorem Due.uniq{d:List Int}{date term D c:Int}(u:Due d date term D)(v:Due d date term c):D=c:=by
 have a:=u.later;have b:=v.later;have f:¬D<c:=λh=>by have:=v.less (n:=(D - date).toNat) (by omega);have:=u.cnt;omega
 have e:¬c<D:=λh=>by have:=u.less (n:=(c - date).toNat) (by omega);have:=v.cnt;omega
 omega
end Dm
namespace Bk
open PySem (Str)
open Stree (qE u4 zW)
structure Row where
 way:Str
 date:Int
 partner:Str
 term:Int
 link:Option Nat
 place:Str
 void:Bool
 copies:List Str
abbrev Rows:=List Row
def lk(R:Rows)(i:Nat):Option Nat:=(R[i]?).bind (·.link)
def dt(R:Rows)(i:Nat):Int:=((R[i]?).map (·.date)).getD 0
def wI(R:Rows)(m:Int):Bool:=decide (0<=m) && (match R[m.toNat]? with|some r=> !r.void|none=>false)
theorem z6{R:Rows}{m:Int}(h:wI R m=true):∃ (k:Nat)(r:Row),m=(k:Int)/\k<R.length/\R[k]? =some r/\r.void=false:=by
 unfold wI at h;rw[Bool.and_eq_true,decide_eq_true_eq]at h;obtain⟨c,a⟩:=h;cases e:R[m.toNat]? with
 |none=>rw[e]at a;cases a
 |some r=>rw[e]at a;refine⟨m.toNat,r,by omega,(bYu.mp e).1,e,?_⟩;have b:(!r.void)=true:=a;simpa using b
def uW(R:Rows):Prop:=∃a,Fm.Ok R.length (lk R) a
def zZ(R:Rows)(i:Nat)(l:List Nat):Prop:=∃a,Fm.Ok R.length (lk R) a/\(l.Pairwise λx y=>u4 (Fm.rd (lk R) (dt R) a x) (Fm.rd (lk R) (dt R) a y)=true)/\∀k,k∈l↔k<R.length/\Fm.tp (lk R) a k=Fm.tp (lk R) a i
theorem zZ.uniq{R:Rows}{i:Nat}{l m:List Nat}(q:i<R.length)(j:zZ R i l)(g:zZ R i m):l=m:=by
 obtain⟨n,o,p,e⟩:=j;obtain⟨r,d,s,f⟩:=g;refine Stree.uniq (lt:=λx y=>u4 (Fm.rd (lk R) (dt R) n x) (Fm.rd (lk R) (dt R) n y)=true) (λa h=>by rw[Stree.vC]at h;cases h) (λa b c j g=>Stree.Y2 j g) p ?_ λk=>?_
 ·refine s.imp_of_mem λ{x y} hx hy h=>?_;rw[Fm.aYr o d ((f x).mp hx).1,Fm.aYr o d ((f y).mp hy).1];exact h
 ·rw[e k,f k];constructor
  ·rintro⟨a,b⟩;exact⟨a,by rw[<- Fm.qA o d a,<- Fm.qA o d q];exact b⟩
  ·rintro⟨a,b⟩;exact⟨a,by rw[Fm.qA o d a,Fm.qA o d q];exact b⟩
def zO(R:Rows)(i:Nat):List Nat:=(bYv R.length).filter λk=>decide (lk R k=some i)
def W3(R:Rows)(i:Nat)(d:Int):Bool:=match R[i]? with
 |none=>false
 |some r=> !r.void && decide (1<=r.term) && decide (r.date<=d) && (zO R i).all λk=>decide (d<dt R k)
def xJ(R:Rows)(i:Nat)(f:Row->Row):Rows:=match R[i]? with
 |some r=>R.set i (f r)
 |none=>R
theorem zJ(R:Rows)(i:Nat)(f:Row->Row):(xJ R i f).length=R.length:=by unfold xJ;split<;> simp
theorem zC(R:Rows)(i j:Nat)(f:Row->Row):(xJ R i f)[j]? =if j=i then(R[j]?).map f else R[j]? :=by
 unfold xJ;by_cases e:j=i
 ·subst e;rw[if_pos rfl];cases h:R[j]? with
  |none=>simp[h]
  |some r=>have a:j<R.length:=(bYu.mp h).1;simp[cZb a]
 ·rw[if_neg e];cases h:R[i]? with
  |none=>rfl
  |some r=>simp[cZ1 (bY0 e)]
def laid(R:Rows)(l:List Nat)(name:Str):Rows:=l.foldl (λR k=>xJ R k λr=>{r with place:=name}) R
theorem qK(R:Rows)(i:Nat)(f:Row->Row)(h:∀r,(f r).link=r.link):lk (xJ R i f)=lk R:=by
 funext j;unfold lk;rw[zC];by_cases e:j=i
 ·rw[if_pos e];cases R[j]? with
  |none=>rfl
  |some r=>exact h r
 ·rw[if_neg e]
theorem wK(name:Str):∀ (l:List Nat)(R:Rows),(laid R l name).length=R.length
 |[],R=>rfl
 |k::l,R=>by show(laid (xJ R k _) l name).length=_;rw[wK name l,zJ]
theorem Q9(name:Str):∀ (l:List Nat)(R:Rows),lk (laid R l name)=lk R
 |[],R=>rfl
 |k::l,R=>by show lk (laid (xJ R k _) l name)=_;rw[Q9 name l,qK R k (λr=>{r with place:=name}) λ_=>rfl]
theorem vY(name:Str):∀ (l:List Nat)(R:Rows)(j:Nat),(laid R l name)[j]? =if j∈l then(R[j]?).map (λr=>{r with place:=name})else R[j]?
 |[],R,j=>by simp[laid]
 |k::l,R,j=>by
  show(laid (xJ R k _) l name)[j]? =_;rw[vY name l,zC];by_cases e:j=k
  ·subst e;rw[if_pos rfl,if_pos bYx];split
   ·cases R[j]? <;> rfl
   ·rfl
  ·rw[if_neg e];by_cases hl:j∈l
   ·rw[if_pos hl,if_pos (bYt _ hl)]
   ·rw[if_neg hl,if_neg (by simp[e,hl])]
theorem uW.laid{R:Rows}(t:uW R)(l:List Nat)(name:Str):uW (laid R l name):=by
 obtain⟨a,o⟩:=t;refine⟨a,?_⟩;rw[wK,Q9];exact o
theorem uW.same{R:Rows}(t:uW R)(i:Nat)(f:Row->Row)(h:∀r,(f r).link=r.link):uW (xJ R i f):=by
 obtain⟨a,o⟩:=t;refine⟨a,?_⟩;rw[zJ,qK R i f h];exact o
theorem aVd(R:Rows){i:Nat}(a:i<R.length)(f:Row->Row)(l:Option Nat)(h:∀r,(f r).link=l):lk (xJ R i f)=λj=>if j=i then l else lk R j:=by
 funext j;unfold lk;rw[zC];by_cases e:j=i
 ·subst e;rw[if_pos rfl,if_pos rfl,bYh a];exact h _
 ·rw[if_neg e,if_neg e]
theorem uW.loose{R:Rows}(t:uW R){i:Nat}(b:i<R.length)(f:Row->Row)(h:∀r,(f r).link=none):uW (xJ R i f):=by
 obtain⟨a,o⟩:=t;refine⟨a,?_⟩;rw[zJ,aVd R b f none h];exact Fm.bQ4 o i
theorem uW.hang{R:Rows}{rk:Nat->Nat}(o:Fm.Ok R.length (lk R) rk){i j:Nat}(b:i<R.length)(c:j<R.length)(h0:lk R i=none)(a:Fm.tp (lk R) rk j≠i)(f:Row->Row)(h:∀r,(f r).link=some j):uW (xJ R i f):=by
 refine⟨λk=>if Fm.tp (lk R) rk k=i then rk k+rk j+1 else rk k,?_⟩;rw[zJ,aVd R b f (some j) h];exact Fm.bJq o b c h0 a
theorem bJy(R:Rows)(r:Row):∀i,i<R.length+1->lk (R++ [r]) i=if i=R.length then r.link else lk R i:=λi a=>by
 unfold lk;by_cases e:i=R.length
 ·subst e;rw[if_pos rfl,bYH (bYp _)];simp
 ·rw[if_neg e,bY5 (by omega)]
theorem uW.enter{R:Rows}(t:uW R)(r:Row)(h:∀j,r.link=some j->j<R.length):uW (R++ [r]):=by
 obtain⟨a,o⟩:=t;have z:=Fm.bQI o r.link h;refine⟨λi=>if i=R.length then Fm.bZ3 a r.link else a i,?_⟩;rw[bYM,cQt];exact z.congr λi b=>(bJy R r i b).symm
end Bk
namespace Bk
open PySem (Str)
open Stree (qE u4 zW)
theorem aY3{n:Nat}{L:Nat->Option Nat}{D:Nat->Int}{rk:Nat->Nat}(o:Fm.Ok n L rk):∀l:List Nat,l.Nodup->(∀k∈l,k<n)->∃m:List Nat,m.Perm l/\m.Pairwise λx y=>u4 (Fm.rd L D rk x) (Fm.rd L D rk y)=true
 |[],_,_=>⟨[],.refl _,.nil⟩
 |x::l,nd,h=>by
  obtain⟨m,g,r⟩:=aY3 (D:=D) o l (cXp.mp nd).2 λk c=>h k (bYt _ c);have t:x<n:=h x bYx;have f:∀k∈m,k<n/\k≠x:=λk c=>⟨h k (bYt _ (g.mem_iff.mp c)),λz=>(cXp.mp nd).1 (by rw[<- z];exact g.mem_iff.mp c)⟩;have ins:∀m:List Nat,(∀k∈m,k<n/\k≠x)->(m.Pairwise λx y=>u4 (Fm.rd L D rk x) (Fm.rd L D rk y)=true)->∃d:List Nat,d.Perm (x::m)/\d.Pairwise λx y=>u4 (Fm.rd L D rk x) (Fm.rd L D rk y)=true:=by
   intro m;induction m with
   |nil=>intro _ _;exact⟨[x],.refl _,cQF _ _⟩
   |cons y m s=>
    intro q j;obtain⟨a,b⟩:=cQG.mp j;have p:=q y bYx;rcases Stree.aXq (λz=>p.2 (Fm.aYq o p.1 t z):Fm.rd L D rk y≠Fm.rd L D rk x)with z|z
    ·obtain⟨d,e,i⟩:=s (λk c=>q k (bYt _ c)) b;refine⟨y::d,(List.Perm.cons _ e).trans (List.Perm.swap _ _ _),cQG.mpr ⟨λk c=>?_,i⟩⟩;rcases bYr.mp (e.mem_iff.mp c)with rfl|c
     ·exact z
     ·exact a k c
    ·refine⟨x::y::m,.refl _,cQG.mpr ⟨λk c=>?_,j⟩⟩;rcases bYr.mp c with rfl|c
     ·exact z
     ·exact Stree.Y2 z (a k c)
  obtain⟨d,e,i⟩:=ins m f r;exact⟨d,e.trans (List.Perm.cons _ g),i⟩
theorem bQp{R:Rows}(t:uW R)(i:Nat):∃l,zZ R i l:=by
 obtain⟨a,o⟩:=t;obtain⟨m,c,b⟩:=aY3 (D:=dt R) o ((bYv R.length).filter λk=>decide (Fm.tp (lk R) a k=Fm.tp (lk R) a i)) (cZr.sublist cXg) λk d=>bYO.mp (cQl.mp d).1;refine⟨m,a,o,b,λk=>?_⟩;rw[c.mem_iff,cQl,bYO,decide_eq_true_eq]
open Classical in
noncomputable def thr (R:Rows) (i:Nat):List Nat:=if h:∃l,zZ R i l then choose h else []
theorem Z5{R:Rows}(t:uW R)(i:Nat):zZ R i (thr R i):=by
 have h:=bQp t i;unfold thr;rw[dif_pos h];exact cZW h
theorem aZP{R:Rows}{i:Nat}(b:i<R.length){l:List Nat}(h:zZ R i l):thr R i=l:=
 zZ.uniq b (by obtain⟨a,o,_⟩:=h;exact Z5 ⟨a,o⟩ i) h
open Classical in
noncomputable def due (shut:List Int) (d t:Int):Int:=if h:∃D,Dm.Due shut d t D then choose h else d
theorem bZA{shut:List Int}{d t D:Int}(h:Dm.Due shut d t D):due shut d t=D:=by
 have a:∃D,Dm.Due shut d t D:=⟨D,h⟩;unfold due;rw[dif_pos a];exact(cZW a).uniq h
structure bQu(R:Rows)(shut:List Int)(d:Int)(late:Bool)(l:List Nat):Prop where
 mem:∀k,k∈l↔k<R.length/\W3 R k d=true/\(late=true->due shut (dt R k) (((R[k]?).map (·.term)).getD 0)<d)
 ord:l.Pairwise λx y=>zW (due shut (dt R x) (((R[x]?).map (·.term)).getD 0),(x:Int)) (due shut (dt R y) (((R[y]?).map (·.term)).getD 0),(y:Int))=true
theorem bQu.uniq{R:Rows}{shut:List Int}{d:Int}{e:Bool}{l m:List Nat}(g:bQu R shut d e l)(f:bQu R shut d e m):l=m:=
 Stree.uniq (lt:=λx y=>zW (due shut (dt R x) (((R[x]?).map (·.term)).getD 0),(x:Int)) (due shut (dt R y) (((R[y]?).map (·.term)).getD 0),(y:Int))=true) (λa h=>by rw[Stree.wL]at h;cases h) (λa b c g f=>Stree.aXp g f) g.ord f.ord λk=>by rw[g.mem k,f.mem k]
inductive Ans where
 |num (n:Int)|txt (x:Str)|nums (l:List Nat)|txts (l:List Str)|row (r:Row)
inductive xV where
 |enter (way:Str) (day:Int) (who:Str) (term:Int)|reply (m:Int) (day term:Int)|hang (m o:Int)|loose (m:Int)|date (m d:Int)|term (m t:Int)
 |copy (m:Int) (who:Str)|file (m:Int) (name:Str)|void (m:Int)|shut (d:Int)|state (m:Int)|thread (m:Int)|copies (m:Int)|letters (name:Str)|on (late:Bool) (d:Int)
def uO(a:Str):Str:=if a="in" then "out" else "in"
inductive xY(R:Rows)(S:List Int):xV->Ans->Rows->List Int->Prop
 |enter {way who:Str} {d t:Int} (h:0<=t):xY R S (.enter way d who t) (.num R.length) (R++ [⟨way,d,who,t,none,"",false,[]⟩]) S
 |enterT {way who:Str} {d t:Int} (h:t<0):xY R S (.enter way d who t) (.txt "no term") R S
 |replyN {m d t:Int} (h:wI R m=false):xY R S (.reply m d t) (.txt "no letter") R S
 |replyT {m d t:Int} (h:wI R m=true) (ht:t<0):xY R S (.reply m d t) (.txt "no term") R S
 |replyE {k:Nat} {d t:Int} {r:Row} (hk:R[k]? =some r) (h:r.void=false) (ht:0<=t) (hd:d<r.date):xY R S (.reply k d t) (.txt "too early") R S
 |reply {k:Nat} {d t:Int} {r:Row} (hk:R[k]? =some r) (h:r.void=false) (ht:0<=t) (hd:r.date<=d):xY R S (.reply k d t) (.num R.length) (R++ [⟨uO r.way,d,r.partner,t,some k,r.place,false,[]⟩]) S
 |hangN {m o:Int} (h:wI R m=false\/wI R o=false):xY R S (.hang m o) (.txt "no letter") R S
 |hangH {i j:Nat} {r q:Row} (hi:R[i]? =some r) (hv:r.void=false) (hj:R[j]? =some q) (hw:q.void=false) (h:r.link≠none):xY R S (.hang i j) (.txt "has one") R S
 |hangO {i j:Nat} {r q:Row} (hi:R[i]? =some r) (hv:r.void=false) (hj:R[j]? =some q) (hw:q.void=false) (h:r.link=none) (ho:(thr R j).head? =some i):xY R S (.hang i j) (.txt "own thread") R S
 |hangW {i j:Nat} {r q:Row} (hi:R[i]? =some r) (hv:r.void=false) (hj:R[j]? =some q) (hw:q.void=false) (h:r.link=none) (ho:(thr R j).head? ≠some i) (h1:r.way=q.way):xY R S (.hang i j) (.txt "same way") R S
 |hangP {i j:Nat} {r q:Row} (hi:R[i]? =some r) (hv:r.void=false) (hj:R[j]? =some q) (hw:q.void=false) (h:r.link=none) (ho:(thr R j).head? ≠some i) (h1:r.way≠q.way) (h2:r.partner≠q.partner):xY R S (.hang i j) (.txt "other partner") R S
 |hangE {i j:Nat} {r q:Row} (hi:R[i]? =some r) (hv:r.void=false) (hj:R[j]? =some q) (hw:q.void=false) (h:r.link=none) (ho:(thr R j).head? ≠some i) (h1:r.way≠q.way) (h2:r.partner=q.partner) (h3:r.date<q.date):xY R S (.hang i j) (.txt "too early") R S
 |hang {i j:Nat} {r q:Row} (hi:R[i]? =some r) (hv:r.void=false) (hj:R[j]? =some q) (hw:q.void=false) (h:r.link=none) (ho:(thr R j).head? ≠some i) (h1:r.way≠q.way) (h2:r.partner=q.partner) (h3:q.date<=r.date):
   xY R S (.hang i j) (.txt "hung") (xJ (laid R (thr R i) q.place) i λr=>{r with link:=some j}) S
 |oneN {m:Int} {e:xV} (h:wI R m=false) (he:e= .loose m\/(∃d,e= .date m d)\/(∃t,e= .term m t)\/(∃w,e= .copy m w)\/(∃w,e= .file m w)\/e= .void m\/e= .state m\/e= .thread m\/e= .copies m):xY R S e (.txt "no letter") R S
 |looseN {k:Nat} {r:Row} (hk:R[k]? =some r) (hv:r.void=false) (h:r.link=none):xY R S (.loose k) (.txt "has none") R S
 |loose {k:Nat} {r:Row} (hk:R[k]? =some r) (hv:r.void=false) (h:r.link≠none):xY R S (.loose k) (.txt "loose") (xJ R k λr=>{r with link:=none}) S
 |dateE {k:Nat} {r:Row} {d:Int} (hk:R[k]? =some r) (hv:r.void=false) (h:(∃j,r.link=some j/\d<dt R j)\/∃c∈zO R k,dt R c<d):xY R S (.date k d) (.txt "too early") R S
 |date {k:Nat} {r:Row} {d:Int} (hk:R[k]? =some r) (hv:r.void=false) (h1:∀j,r.link=some j->dt R j<=d) (h2:∀c∈zO R k,d<=dt R c):xY R S (.date k d) (.txt "dated") (xJ R k λr=>{r with date:=d}) S
 |termN {k:Nat} {r:Row} {t:Int} (hk:R[k]? =some r) (hv:r.void=false) (h:t<0):xY R S (.term k t) (.txt "no term") R S
 |term {k:Nat} {r:Row} {t:Int} (hk:R[k]? =some r) (hv:r.void=false) (h:0<=t):xY R S (.term k t) (.txt "set") (xJ R k λr=>{r with term:=t}) S
 |copyC {k:Nat} {r:Row} {w:Str} (hk:R[k]? =some r) (hv:r.void=false) (h:w=r.partner\/w∈r.copies):xY R S (.copy k w) (.txt "copied") R S
 |copy {k:Nat} {r:Row} {w:Str} (hk:R[k]? =some r) (hv:r.void=false) (h:w≠r.partner) (h2:w∉r.copies):xY R S (.copy k w) (.num (r.copies.length+1)) (xJ R k λr=>{r with copies:=r.copies++ [w] }) S
 |file {k:Nat} {r:Row} {w:Str} (hk:R[k]? =some r) (hv:r.void=false):xY R S (.file k w) (.num (thr R k).length) (laid R (thr R k) w) S
 |voidA {k:Nat} {r:Row} (hk:R[k]? =some r) (hv:r.void=false) (h:zO R k≠ []):xY R S (.void k) (.txt "answered") R S
 |void {k:Nat} {r:Row} (hk:R[k]? =some r) (hv:r.void=false) (h:zO R k= []):xY R S (.void k) (.txt "void") (xJ R k λr=>{r with link:=none,void:=true}) S
 |shutN {d:Int} (h:Dm.cts S d=false):xY R S (.shut d) (.txt "counts not") R S
 |shut {d:Int} (h:Dm.cts S d=true):xY R S (.shut d) (.txt "shut") R (S++ [d])
 |state {k:Nat} {r:Row} (hk:R[k]? =some r) (hv:r.void=false):xY R S (.state k) (.row r) R S
 |thread {k:Nat} {r:Row} (hk:R[k]? =some r) (hv:r.void=false):xY R S (.thread k) (.nums (thr R k)) R S
 |copies {k:Nat} {r:Row} (hk:R[k]? =some r) (hv:r.void=false):xY R S (.copies k) (.txts r.copies) R S
 |letters {w:Str}:xY R S (.letters w) (.nums ((bYv R.length).filter λk=>match R[k]? with|some r=> !r.void && decide (r.place=w)|none=>false)) R S
 |on {late:Bool} {d:Int} {l:List Nat} (h:bQu R S d late l):xY R S (.on late d) (.nums l) R S
end Bk
namespace Bk
open PySem (Str)
open Stree (qE u4 zW)
theorem zZ.head{R:Rows}{j:Nat}(k:j<R.length){l:List Nat}(h:zZ R j l):∃c,Fm.Ok R.length (lk R) c/\l.head? =some (Fm.tp (lk R) c j):=by
 obtain⟨c,o,p,e⟩:=h;refine⟨c,o,?_⟩;have g:=Fm.bQq o k;have f:Fm.tp (lk R) c j∈l:=(e _).mpr ⟨g.1,Fm.bVJ o k⟩;cases l with
 |nil=>cases f
 |cons x r=>
  by_cases z:x=Fm.tp (lk R) c j
  ·rw[z];rfl
  ·exfalso;obtain⟨a,b⟩:=cQG.mp p;have d:=(e x).mp bYx;have s:Fm.tp (lk R) c j∈r:=by
    rcases bYr.mp f with w|w
    ·exact absurd w.symm z
    ·exact w
   have q:=a _ s;have m:Fm.Un (lk R) (dt R) c (Fm.tp (lk R) c j) x:=by have:=Fm.bWZ (D:=dt R) o d.1;rw[d.2]at this;exact this
   have n:=Fm.bWY o g.1 d.1 m z;have i:=Stree.Y2 q n;rw[Stree.vC]at i;cases i
theorem jG{R:Rows}(t:uW R){j:Nat}(b:j<R.length):∃a,Fm.Ok R.length (lk R) a/\(thr R j).head? =some (Fm.tp (lk R) a j):=(Z5 t j).head b
theorem wC{R:Rows}{k:Nat}{r:Row}(h:R[k]? =some r):k<R.length:=(bYu.mp h).1
theorem vZ{R:Rows}{k:Nat}{r:Row}(h:R[k]? =some r):lk R k=r.link:=by unfold lk;rw[h];rfl
theorem wZ{R:Rows}{k:Nat}{r:Row}(h:R[k]? =some r):dt R k=r.date:=by unfold dt;rw[h];rfl
theorem xY.tree{R k:Rows}{S n:List Int}{e:xV}{a:Ans}(t:uW R)(h:xY R S e a k n):uW k:=by
 cases h with
 |enter h=>exact t.enter _ λj d=>nomatch d
 |reply b h x v=>exact t.enter _ λj d=>by cases d;exact wC b
 |@hang i j r q m c d hw h u p l w=>
  obtain⟨f,o,s⟩:=jG t (wC d);have g:Fm.tp (lk R) f j≠i:=λz=>u (by rw[s,z]);refine uW.hang (R:=laid R (thr R i) q.place) (rk:=f) (i:=i) (j:=j) ?_ ?_ ?_ ?_ ?_ _ λ_=>rfl
  ·rw[wK,Q9];exact o
  ·rw[wK];exact wC m
  ·rw[wK];exact wC d
  ·rw[Q9,vZ m];exact h
  ·rw[Q9];exact g
 |loose b c h=>exact t.loose (wC b) _ λ_=>rfl
 |date b c p l=>exact t.same _ _ λ_=>rfl
 |term b c h=>exact t.same _ _ λ_=>rfl
 |copy b c h l=>exact t.same _ _ λ_=>rfl
 |file b c=>exact t.laid _ _
 |void b c h=>exact t.loose (wC b) _ λ_=>rfl
 |_=>exact t
theorem bZn:uW []:=⟨λ_=>0,⟨λi j a=>absurd a (cQ1 _)⟩⟩
end Bk
namespace Bk
open PySem (Str)
open Stree (qE u4 zW)
def bVS(r q:Row):Prop:=r.void=false/\q.void=false/\r.way≠q.way/\r.partner=q.partner/\q.date<=r.date/\r.place=q.place
structure qR(R:Rows):Prop where
 tree:uW R
 way:∀r∈R,r.way="in"\/r.way="out"
 ans:∀ (i j:Nat)(r:Row),R[i]? =some r->r.link=some j->∃q,R[j]? =some q/\bVS r q
theorem aXd:qR [] where
 tree:=bZn
 way:=λr h=>absurd h (by simp)
 ans:=λi j r h=>by simp at h
theorem aVj{w:Str}(h:w="in"\/w="out"):uO w≠w/\(uO w="in"\/uO w="out"):=by
 rcases h with rfl|rfl
 ·exact⟨by decide,.inr rfl⟩
 ·exact⟨by decide,.inl rfl⟩
theorem aQf{R:Rows}{i:Nat}{f:Row->Row}{r:Row}(h:r∈xJ R i f):r∈R\/∃q∈R,r=f q:=by
 unfold xJ at h;split at h
 ·rename_i q a;rcases List.mem_or_eq_of_mem_set h with h|h
  ·exact .inl h
  ·exact .inr ⟨q,bYA a,h⟩
 ·exact .inl h
theorem aZT{R:Rows}(h:∀r∈R,r.way="in"\/r.way="out")(i:Nat)(f:Row->Row)(b:∀r,(f r).way=r.way):∀r∈xJ R i f,r.way="in"\/r.way="out":=λr a=>by
 rcases aQf a with a|⟨q,c,rfl⟩
 ·exact h r a
 ·rw[b];exact h q c
theorem aVO{name:Str}:∀ (l:List Nat) {R:Rows},(∀r∈R,r.way="in"\/r.way="out")->∀r∈laid R l name,r.way="in"\/r.way="out"
 |[],R,h=>h
 |k::l,R,h=>aVO l (aZT h k (λr=>{r with place:=name}) λ_=>rfl)
theorem bJD{R:Rows}{k i:Nat}{r:Row}(h:zO R k= [])(a:R[i]? =some r):r.link≠some k:=λe=>by
 have:i∈zO R k:=cQl.mpr ⟨bYO.mpr (wC a),decide_eq_true (by rw[vZ a];exact e)⟩;rw[h]at this;cases this
theorem bQ6{R:Rows}{k i:Nat}{r:Row}(a:R[i]? =some r)(e:r.link=some k):i∈zO R k:=
 cQl.mpr ⟨bYO.mpr (wC a),decide_eq_true (by rw[vZ a];exact e)⟩
theorem bZl{R:Rows}(t:uW R){i a b:Nat}{r:Row}(c:R[a]? =some r)(e:r.link=some b)(d:b<R.length):a∈thr R i↔b∈thr R i:=by
 obtain⟨f,o,_,h⟩:=Z5 t i;rw[h a,h b,Fm.uA o (wC c) (by rw[vZ c];exact e)];exact⟨λz=>⟨d,z.2⟩,λz=>⟨wC c,z.2⟩⟩
theorem bZm{R:Rows}(t:uW R){i:Nat}(a:i<R.length):i∈thr R i:=by
 obtain⟨b,o,_,h⟩:=Z5 t i;exact(h i).mpr ⟨a,rfl⟩
theorem qR.laid{R:Rows}(b:qR R)(i:Nat)(name:Str):qR (laid R (thr R i) name) where
 tree:=b.tree.laid _ _
 way:=aVO _ b.way
 ans:=λx j r hx hl=>by
  rw[vY]at hx
  have back:∃r0,R[x]? =some r0/\r=(if x∈thr R i then {r0 with place:=name}else r0):=by
   by_cases hm:x∈thr R i
   ·rw[if_pos hm]at hx
    cases e:R[x]? with
    |none=>rw[e]at hx;cases hx
    |some r0=>rw[e]at hx;cases hx;exact⟨r0,rfl,by rw[if_pos hm]⟩
   ·rw[if_neg hm]at hx
    exact⟨r,hx,by rw[if_neg hm]⟩
  obtain⟨r0,h0,e0⟩:=back
  have hl0:r0.link=some j:=by rw[e0]at hl;split at hl<;> exact hl
  obtain⟨q0,hq0,f1,f2,f3,f4,f5,f6⟩:=b.ans x j r0 h0 hl0
  have hiff:=bZl (i:=i) b.tree h0 hl0 (wC hq0)
  refine⟨if j∈thr R i then {q0 with place:=name}else q0,by rw[vY,hq0];split<;> rfl,?_⟩
  by_cases hm:x∈thr R i
  ·rw[if_pos (hiff.mp hm),e0,if_pos hm]
   exact⟨f1,f2,f3,f4,f5,rfl⟩
  ·rw[if_neg (λz=>hm (hiff.mpr z)),e0,if_neg hm]
   exact⟨f1,f2,f3,f4,f5,f6⟩
theorem qR.set{R:Rows}(b:qR R){k:Nat}{f:Row->Row}(t:uW (xJ R k f))(hw:∀r,(f r).way=r.way)(h1:∀r j q,R[k]? =some r->(f r).link=some j->j≠k->R[j]? =some q->bVS (f r) q/\True)(h0:∀r j,R[k]? =some r->(f r).link=some j->j≠k/\j<R.length)
  (h2:∀r i q,R[k]? =some r->R[i]? =some q->i≠k->q.link=some k->bVS q (f r)):qR (xJ R k f) where
 tree:=t
 way:=aZT b.way k f hw
 ans:=λi j r hi hl=>by
  rw[zC]at hi
  by_cases e:i=k
  ·subst e
   rw[if_pos rfl]at hi
   cases e0:R[i]? with
   |none=>rw[e0]at hi;cases hi
   |some r0=>
    rw[e0]at hi
    cases hi
    obtain⟨hjk,hjl⟩:=h0 r0 j e0 hl
    have hq:=bYh hjl
    exact⟨R[j],by rw[zC,if_neg hjk];exact hq,(h1 r0 j _ e0 hl hjk hq).1⟩
  ·rw[if_neg e]at hi
   obtain⟨q,hq,hf⟩:=b.ans i j r hi hl
   by_cases ej:j=k
   ·subst ej
    exact⟨f q,by rw[zC,if_pos rfl,hq];rfl,h2 q i r hq hi e hl⟩
   ·exact⟨q,by rw[zC,if_neg ej];exact hq,hf⟩
theorem aKR{R:Rows}(t:uW R){k j:Nat}{r:Row}(h:R[k]? =some r)(e:r.link=some j):j≠k:=λz=>by
 obtain⟨a,o⟩:=t;have:=(o.lt k j (wC h) (by rw[vZ h];exact e)).2;rw[z]at this;omega
theorem xY.book{R R':Rows}{S S':List Int}{e:xV}{a:Ans}(b:qR R)(hw:∀H d w t,e= .enter H d w t->H="in"\/H="out")(h:xY R S e a R' S'):qR R':=by
 have B:=h.tree b.tree;have a0:∀ (r:Row)(j:Nat) {i:Nat} {x:Row},R[i]? =some x->x.link=some j->∃q,(R++ [r])[j]? =some q/\bVS x q:=λr j {i x} m hl=>by obtain⟨q,n,C⟩:=b.ans i j x m hl;exact⟨q,by rw[bY5 (wC n)];exact n,C⟩
 have snoc:∀r:Row,(r.way="in"\/r.way="out")->(∀j,r.link=some j->∃q,R[j]? =some q/\bVS r q)->uW (R++ [r])->qR (R++ [r]):=λr u p t=>⟨t,λx g=>by
   rcases bYX.mp g with g|g
   ·exact b.way x g
   ·rw[bYz.mp g];exact u,λi j x m hl=>by
   by_cases W:i<R.length
   ·rw[bY5 W]at m;exact a0 r j m hl
   ·have X:i<(R++ [r]).length:=(bYu.mp m).1;rw[bYM,cQt]at X;have:i=R.length:=by omega
    subst this;rw[bYH (bYp _)]at m;simp at m;subst m;obtain⟨q,n,C⟩:=p j hl;exact⟨q,by rw[bY5 (wC n)];exact n,C⟩⟩
 have plain:∀ (k:Nat)(f:Row->Row),(∀r,(f r).way=r.way/\(f r).date=r.date/\(f r).partner=r.partner/\(f r).link=r.link/\(f r).place=r.place/\(f r).void=r.void)->uW (xJ R k f)->qR (xJ R k f):=λk f C t=>by
  refine b.set t (λr=>(C r).1) (λr j q l hl a4 n=>?_) (λr j l hl=>?_) (λr i q l m a3 hl=>?_)
  ·obtain⟨g1,g2,g3,g4,U,Y⟩:=C r;rw[g4]at hl;obtain⟨P,c,u,p,M,Z,h5,V⟩:=b.ans k j r l hl;rw[n]at c;cases c;exact⟨⟨by rw[Y];exact u,p,by rw[g1];exact M,by rw[g3];exact Z,by rw[g2];exact h5,by rw[U];exact V⟩,trivial⟩
  ·rw[(C r).2.2.2.1]at hl;obtain⟨q,n,_⟩:=b.ans k j r l hl;exact⟨aKR b.tree l hl,wC n⟩
  ·obtain⟨g1,g2,g3,g4,U,Y⟩:=C r;obtain⟨P,c,u,p,M,Z,h5,V⟩:=b.ans i k q m hl;rw[l]at c;cases c;exact⟨u,by rw[Y];exact p,by rw[g1];exact M,by rw[g3];exact Z,by rw[g2];exact h5,by rw[U];exact V⟩
 cases h with
 |enter h=>exact snoc _ (hw _ _ _ _ rfl) (λj A=>nomatch A) B
 |@reply k d t r l h ht hd=>have N:=b.way r (bYA l);exact snoc _ (aVj N).2 (λj A=>by cases A;exact⟨r,l,rfl,h,(aVj N).1,rfl,hd,rfl⟩) B
 |@hang i j r q m D A T h ho u p M=>
  have bl:=b.laid i q.place;obtain⟨rk,o,hh⟩:=jG b.tree (wC A);have L:Fm.tp (lk R) rk j≠i:=λz=>ho (by rw[hh,z]);have a2:j∉thr R i:=λz=>by obtain⟨a1,o',_,hm⟩:=Z5 b.tree i;have z2:=((hm j).mp z).2;have z3:Fm.tp (lk R) a1 i=i:=Fm.zT (by rw[vZ m];exact h);rw[z3,Fm.qA o' o (wC A)]at z2;exact L z2
  have Q:=bZm b.tree (wC m);have gi:(laid R (thr R i) q.place)[i]? =some {r with place:=q.place}:=by rw[vY,if_pos Q,m];rfl
  have gj:(laid R (thr R i) q.place)[j]? =some q:=by rw[vY,if_neg a2];exact A
  refine bl.set B (λ_=>rfl) (λx y z g hl s O=>?_) (λx y g hl=>?_) (λx y z g s v hl=>?_)
  ·rw[gi]at g;cases g;cases hl;rw[gj]at O;cases O;exact⟨⟨D,T,u,p,M,rfl⟩,trivial⟩
  ·cases hl;exact⟨λz=>L (by rw[z,Fm.zT (by rw[vZ m];exact h)]),by rw[wK];exact wC A⟩
  ·obtain⟨P,c,J,I,G,E,K,F⟩:=bl.ans y i z s hl;rw[g]at c;cases c;exact⟨J,I,G,E,K,F⟩
 |@loose k r l D h=>refine b.set B (λ_=>rfl) (λx y z g hl=>nomatch hl) (λx y g hl=>nomatch hl) (λx y z g s v hl=>?_);obtain⟨P,c,J,I,G,E,K,F⟩:=b.ans y k z s hl;rw[g]at c;cases c;exact⟨J,I,G,E,K,F⟩
 |@date k r d l D u p=>
  refine b.set B (λ_=>rfl) (λx y z g hl v O=>?_) (λx y g hl=>?_) (λx y z g s v hl=>?_)
  ·rw[l]at g;cases g;obtain⟨P,c,J,I,G,E,K,F⟩:=b.ans k y r l hl;rw[O]at c;cases c;exact⟨⟨J,I,G,E,by rw[<- wZ O];exact u y hl,F⟩,trivial⟩
  ·obtain⟨q,n,_⟩:=b.ans k y x g hl;exact⟨aKR b.tree g hl,wC n⟩
  ·obtain⟨P,c,J,I,G,E,K,F⟩:=b.ans y k z s hl;rw[g]at c;cases c;exact⟨J,I,G,E,by rw[<- wZ s];exact p y (bQ6 s hl),F⟩
 |term l D h=>exact plain _ _ (λr=>⟨rfl,rfl,rfl,rfl,rfl,rfl⟩) B
 |copy l D h p=>exact plain _ _ (λr=>⟨rfl,rfl,rfl,rfl,rfl,rfl⟩) B
 |file l D=>exact b.laid _ _
 |void l D h=>exact b.set B (λ_=>rfl) (λx y z g hl=>nomatch hl) (λx y g hl=>nomatch hl) (λx y z g s v hl=>absurd hl (bJD h s))
 |_=>exact b
end Bk
namespace Law
open PySem L2 PyProof.Rows
open Bk (Row Rows)
def aZb(x:Str):Stmt->Bool
 |.FunctionDef n _ _ _ _ _ _ _ _ _=>n==x
 |_=>false
def xF(x:Str):Stmt:=(PySem.Challenge.pw_letterdesk_k04_answers.main.body.find? (aZb x)).getD (.Pass ⟨0,0,0,0⟩)
abbrev bJ7:Stmt:=xF "_law_good"
abbrev bXK:Stmt:=xF "_law_kids_of"
theorem xD:bY3 "len"=some (.builtin "len"):=dk
structure vI(mg:Str->Option bYi):Prop where
 b_len:mg "len"=none
 b_range:mg "range"=none
def wM:Option Nat->V
 |none=> .non
 |some j=> .int (j:Nat)
def bVX(H:Hp)(b:Nat)(r:Row):Prop:=∃a,H b=some (.lst [.str r.way,.int r.date,.str r.partner,.int r.term,wM r.link,.str r.place,.bl r.void,.ref a])/\H a=some (.lst (r.copies.map V.str))
structure y7(H:Hp)(ra:Nat)(rs:List Nat)(R:Rows):Prop where
 lst:H ra=some (.lst (rs.map V.ref))
 len:rs.length=R.length
 nd:rs.Nodup
 row:∀ (i:Nat)(b:Nat)(r:Row),rs[i]? =some b->R[i]? =some r->bVX H b r
theorem y7.get{H:Hp}{e:Nat}{a:List Nat}{R:Rows}(h:y7 H e a R){i:Nat}{r:Row}(d:R[i]? =some r):∃b,(a.map V.ref)[i]? =some (.ref b)/\a[i]? =some b/\bVX H b r:=by
 have f:i<a.length:=by rw[h.len];exact Bk.wC d
 have c:=bYh f;exact⟨a[i],by rw[bYC,c];rfl,c,h.row i _ r c d⟩
inductive Z4(vs:List V)(H:Hp)(Q:VK)(_:XK):Prop|mk (ra:Nat) (rs:List Nat) (R:Rows) (m:Int) (_:vs= [.ref ra,.int m]) (_:y7 H ra rs R) (_:Q (.bl (Bk.wI R m)) H)
section
variable {K:bYk}
theorem bVk:yM ["_law_rows","_law_number"] ["_law_rows","_law_number"] (yH bJ7):=scM
theorem bJI(T:vI mg)(F:Fun K "_law_good" "_law_good" bJ7 f fd):y8 P w K mg base CX0 1 f fd ["_law_rows","_law_number"] Z4:=by
 have i:=bVk;refine F.ok (k:=0) i (λj A outer s H v Q E u h=>?_);obtain⟨g,o,R,m,rfl,c,q⟩:=h;refine⟨_,(yF (yP (aVm (zI aYg yE (pv 1)) (aVm (zI vF (pv 1) (yU yQ rfl T.b_len xD (yA (pv 0) yD))) (aZv (bZP (yL yK (yL yK (pv 0) (pv 1)) yE))))))),?_⟩;refine⟨_,rfl,_,_,rfl,rfl,_,rfl,?_⟩;unfold Bk.wI at q;cases d:decide (0<=m)with
 |false=>rw[d,Bool.false_and]at q;exact onF rfl q
 |true=>
  rw[d,Bool.true_and]at q;have h0:0<=m:=of_decide_eq_true d;refine onT rfl ⟨_,rfl,_,rfl,g,_,rfl,.inl (SqL.of c.lst),_,_,rfl,rfl,_,rfl,?_⟩;have hl:(o.map V.ref).length=R.length:=by rw[bYo];exact c.len
  rw[hl];obtain⟨k,rfl⟩:∃k:Nat,m=(k:Int):=⟨m.toNat,by omega⟩;rw[bYU]at q;cases e:decide ((k:Int)<(R.length:Nat))with
  |false=>
   have a:R.length<=k:=by have:=of_decide_eq_false e;omega
   rw[bYQ a]at q;exact onF rfl q
  |true=>
   have a:k<R.length:=by have:=of_decide_eq_true e;omega
   obtain⟨b,l,t,r,n,p⟩:=c.get (bYh a);rw[bYh a]at q;refine onT rfl ⟨_,rfl,_,rfl,g,_,_,_,rfl,rfl,SqL.of c.lst,yS l,b,_,6,_,rfl,rfl,SqL.of n,rfl,_,rfl,q⟩
theorem bVn:yM ["_law_rows","_law_number"] ["_law_rows","_law_number"] (yH bXK):=scM
theorem bJx:xH ["_law_rows","_law_number"] (yH bXK) "_law_k" ["_law_number","_law_rows"] [1,0] (lsN [(".0",.local),("_law_k",.local),("_law_number",.free),("_law_rows",.free)]):=
 lcM
inductive aVE(vs:List V)(H:Hp)(Q:VK)(_:XK):Prop|mk (ra:Nat) (rs:List Nat) (R:Rows) (m:Nat) (_:vs= [.ref ra,.int (m:Nat)]) (_:y7 H ra rs R) (_:R.length<=100) (_:∀r,H r=none->Q (.ref r) (upd H r (.lst ((Bk.zO R m).map λi=>V.int (i:Nat)))))
theorem aZ8{o:Option Nat}{m:Nat}:decide (wM o=V.int (m:Nat))=decide (o=some m):=by
 cases o with
 |none=>rfl
 |some j=>show decide (V.int (j:Nat)=V.int (m:Nat))=decide (some j=some m);rw[Bool.eq_iff_iff];simp;omega
theorem bJL(T:vI mg)(F:Fun K "_law_kids_of" "_law_kids_of" bXK f fd):y8 P w K mg base CX0 1 f fd ["_law_rows","_law_number"] aVE:=by
 have p:=bVn;refine F.ok (k:=0) p (λt A outer s H C Q E B h=>?_);obtain⟨e,o,R,m,rfl,c,hR,q⟩:=h;refine⟨_,(yF (yP (aQn bJx rfl (zP rfl T.b_range (yA (yU yQ rfl T.b_len xD (yA (pv 0) yD)) yD)) (λ_ _ _ _ _=>(wN (yN x9 (yL ixK (yL ixK (pv 2) (pv 0)) yE) (pv 1)))) (λ_ _ _ _ _=>(pv 0))))),?_⟩;have hl:(o.map V.ref).length=R.length:=by rw[bYo];exact c.len
 refine⟨_,rfl,e,_,rfl,.inl (SqL.of c.lst),?_⟩;rw[hl];refine⟨_,rfl,by omega,by omega,λD d=>?_⟩;rw[bYU];refine W5 (λk=>decide (Bk.lk R k=some m)) (λk=>V.int (k:Nat)) d (by rw[bYR];omega) (λk j i r l a=>?_) (λk j _ i r l a=>⟨_,rfl,a⟩) (q D d);obtain⟨b,u,z,y,n,x⟩:=c.get (bYh j);have g:i e=some (.lst (o.map V.ref)):=by rw[l e (yJ c.lst d)];exact c.lst
 have v:i b=_:=(l b (yJ n d)).trans n;refine⟨_,rfl,_,rfl,e,_,_,_,rfl,rfl,SqL.of g,yS u,b,_,4,_,rfl,rfl,SqL.of v,rfl,_,rfl,?_,_,rfl,?_⟩
 ·cases R[k].link<;> rfl
 ·rw[aZ8,<- Bk.vZ (bYh j)];exact a
end
end Law
namespace L2
open PySem PySem.Spec PyProof.Rows
section
variable {X:Cx}
inductive aVY(K:bYk)(xs:List V)(H:Hp)(Q:VK):Prop|mk (p:Nat) (ns:List Int) (_:xs= [.ref p]) (_:SqL K H p (ns.map V.int)) (_:ns≠ []) (_:∀m,m∈ns->(∀x∈ns,m<=x)->Q (.int m) H)
theorem aKj(D:X.calm=true):jO X (.builtin "min") (aVY X.K):=by
 intro B s σ H Y U Q I r h;obtain⟨p,c,rfl,S,w,q⟩:=h;obtain⟨u,rfl,F⟩:=aQM r;cases F;obtain⟨a,P,y,W⟩:=I.list S;have C:cXN a c:=aQ2 P;have f:a.length=c.length:=C.length;have l:0<a.length:=by rw[f];exact cQz.mpr w
 obtain⟨o,M,_⟩:=id y.isList;have m:p<s.heap.objs.size:=bYw M;have d:∀ (i:Nat)(v:bYi),a.toArray[i]? =some v->∃t,v=Value.int (c.getD i 0) t:=λi v n=>cJm C i v (by simpa using n);refine call_min_walk (cJz y.isList ?_);refine⟨s.heap.objs.size,[s.heap.objs.size,p],[s.heap.objs.size],a.toArray.size,_,_,_,rfl,Walks.list (A:=X.A.in1) (by simpa using I.ok.hd D) _ p (bYG m) a.toArray,⟨⟨_,bYL _ rfl,rfl,rfl⟩,y.isList.push _⟩,λb g=>?_,by rw[bYB];exact l,CmpOf.ints_lt (λi=>c.getD i 0) d,λv V tk n J=>?_⟩
 ·show b<(s.heap.push _).objs.size;rw[cQQ];rcases bYr.mp g with rfl|g
  ·exact cQ5 _
  ·rw[bYz.mp g];exact cQq m
 ·obtain⟨t,rfl⟩:=d _ _ n;obtain⟨T,G⟩:=argBest_lt (λi=>c.getD i 0) (a.toArray.size - 1);have L:a.toArray.size=c.length:=by rw[bYB];exact f
  have g:argBest (λi j=>decide (c.getD i 0<c.getD j 0)) (a.toArray.size - 1)<c.length:=by omega
  refine⟨.int _,H,I.kept (t':=tk) λb E e=>J b E (λz=>by rw[bYz.mp z]at e;exact cQs _ (bYw e)) (bYm _ e),⟨t,rfl⟩,q _ ?_ λx O=>?_⟩
  ·generalize argBest (λi j=>decide (c.getD i 0<c.getD j 0)) (a.toArray.size - 1)=k at g;simp[bY4,bYh g]
  ·obtain⟨j,R,e⟩:=bY7 O;have:=G j (by omega);have N:c.getD j 0=x:=by simp[bY4,bYh R,e]
   rw[N]at this;exact this
end
end L2
namespace Law
open PySem L2 PyProof.Rows
open Bk (Row Rows)
abbrev aVv:Stmt:=xF "_law_waits_on"
theorem aKe:bY3 "min"=some (.builtin "min"):=dk
theorem bVX.same{H a:Hp}{b:Nat}{r:Row}(h:bVX H b r)(k:xA H a):bVX a b r:=let ⟨cp,e1,e2⟩:=h;⟨cp,k _ _ e1,k _ _ e2⟩
theorem y7.same{H c:Hp}{a:Nat}{d:List Nat}{R:Rows}(h:y7 H a d R)(k:xA H c):y7 c a d R:=
 ⟨k _ _ h.lst,h.len,h.nd,λi b r e f=>(h.row i b r e f).same k⟩
inductive bQj(vs:List V)(H:Hp)(Q:VK)(_:XK):Prop|mk (ra:Nat) (rs:List Nat) (R:Rows) (k:Nat) (d:Int) (_:vs= [.ref ra,.int (k:Nat),.int d]) (_:y7 H ra rs R) (_:R.length<=100) (_:k<R.length) (_:∀H',xA H H'->Q (.bl (Bk.W3 R k d)) H')
section
variable {K:bYk}
theorem bX5:yM ["_law_rows","_law_number","_law_date","_law_one","_law_dates"] ["_law_rows","_law_number","_law_date"] (yH aVv):=scM
theorem bQ1:xH ["_law_rows","_law_number","_law_date","_law_one","_law_dates"] (yH aVv) "_law_k" ["_law_rows"] [0] (lsN [(".0",.local),("_law_k",.local),("_law_rows",.free)]):=
 lcM
def dtV(R:Rows):V->V
 |.int n=> .int (Bk.dt R n.toNat)
 |_=> .non
theorem bXv(T:vI mg)(x:mg "min"=none)(a:FnG P w K mg base 1 "_law_kids_of" ["_law_rows","_law_number"] aVE)(F:Fun K "_law_waits_on" "_law_waits_on" aVv f fd):y8 P w K mg base CX0 2 f fd ["_law_rows","_law_number","_law_date"] bQj:=by
 have W:=bX5;refine F.ok (k:=1) W (λa0 A outer s H0 vs Q E hr h=>?_);obtain⟨z,rs,R,k,d,rfl,B,hR,hk,q⟩:=h;refine⟨_,(yC (yT (i:=3) (yL yK (pv 0) (pv 1))) (yC (y6 (PW.pt (W0 (x6 (yL yK (pv 3) yE)) (W0 (yN vF (yL yK (pv 3) yE) yE) (jN (yN aQW (yL yK (pv 3) yE) (pv 2)))))) (yF (yP qN)) yR) (yC (aZy (i:=4) bQ1 rfl W.nd rfl rfl (xI (xK a hr rfl (yA (pv 0) (yA (pv 1) yD)))) (λ_ _ _ _ _=>z7) (λ_ _ _ _ _=>(yL ixK (yL ixK (pv 1) (pv 0)) yE))) (yF (yP (bWt (zI (aVg hr.units0) (pv 4) (y3 yD)) (aZv (zI aQW (yU (aKj rfl) rfl x aKe (yA (pv 4) yD)) (pv 2))))))))),?_⟩;have p:=bYh hk;obtain⟨b,g1,g2,cp,L,g4⟩:=B.get p;have qw:Bk.W3 R k d=(!R[k].void && decide (1<=R[k].term) && decide (R[k].date<=d) && (Bk.zO R k).all λj=>decide (d<Bk.dt R j)):=by unfold Bk.W3;rw[p]
 rw[qw]at q;refine⟨_,rfl,_,rfl,z,_,_,_,rfl,rfl,SqL.of B.lst,yS g1,?_⟩;dsimp only[yW];refine⟨_,rfl,b,_,6,_,rfl,rfl,SqL.of L,rfl,_,rfl,?_⟩;cases o:R[k].void with
 |true=>rw[o]at q;exact onT rfl (onT rfl (q _ (xA.refl _)))
 |false=>
  rw[o]at q;refine onF rfl ⟨_,rfl,b,_,3,_,rfl,rfl,SqL.of L,rfl,_,_,rfl,rfl,_,rfl,?_⟩;cases ht:decide (R[k].term<1)with
  |true=>have:decide (1<=R[k].term)=false:=decide_eq_false (by have:=of_decide_eq_true ht;omega);rw[this]at q;exact onT rfl (onT rfl (q _ (xA.refl _)))
  |false=>
   have:decide (1<=R[k].term)=true:=decide_eq_true (by have:=of_decide_eq_false ht;omega);rw[this]at q;refine onF rfl ⟨_,rfl,b,_,1,_,rfl,rfl,SqL.of L,rfl,_,rfl,_,_,rfl,rfl,_,rfl,?_⟩;cases hd:decide (R[k].date > d)with
   |true=>have:decide (R[k].date<=d)=false:=decide_eq_false (by have:=of_decide_eq_true hd;omega);rw[this]at q;exact onT rfl (q _ (xA.refl _))
   |false=>
    have:decide (R[k].date<=d)=true:=decide_eq_true (by have:=of_decide_eq_false hd;omega);rw[this]at q;refine onF rfl ?_;refine⟨_,rfl,_,rfl,z,rs,R,k,rfl,B,hR,λr M=>⟨r,rfl,⟨_,SqL.of yB⟩,λD C=>?_⟩⟩;have X:=yG M (.lst ((Bk.zO R k).map λi=>V.int (i:Nat)));have c:=B.same X;have Z:(Bk.zO R k).length<=R.length:=by have:=cQf (λj=>decide (Bk.lk R j=some k)) (bYv R.length);rw[bY8]at this;exact this
    refine aZk (λ_=>true) (dtV R) (SqL.of yB) C (zn (by rw[bYo];omega)) (λv o U R' _ h=>h) (λv o _ U R' hH t=>?_) ?_
    ·obtain⟨j,hj,rfl⟩:=cQm.mp o;have O:j<R.length:=bYO.mp (cQl.mp hj).1;have y:=bYh O;obtain⟨bj,j1,j2,cj,Y,j4⟩:=c.get y;have G:U z=some (.lst (rs.map V.ref)):=by rw[hH z (yJ c.lst C)];exact c.lst
     have J:=(hH bj (yJ Y C)).trans Y;have e:dtV R (V.int (j:Nat))=V.int R[j].date:=by show V.int (Bk.dt R (j:Int).toNat)=_;rw[bYU,Bk.wZ y]
     rw[e]at t;exact⟨_,rfl,_,rfl,z,_,_,_,rfl,rfl,SqL.of G,yS j1,bj,_,1,_,rfl,rfl,SqL.of J,rfl,t⟩
    ·have ff:((Bk.zO R k).map λi=>V.int (i:Nat)).filter (λ_=>true)=(Bk.zO R k).map λi=>V.int (i:Nat):=cX1.mpr λ_ _=>rfl;have em:((Bk.zO R k).map λi=>V.int (i:Nat)).map (dtV R)=((Bk.zO R k).map (Bk.dt R)).map V.int:=by
      rw[cXB,cXB];refine cJb λj _=>?_;show V.int (Bk.dt R (j:Int).toNat)=V.int (Bk.dt R j);rw[bYU]
     rw[ff,em];dsimp only[yW];have k2:=yG C (.lst (((Bk.zO R k).map (Bk.dt R)).map V.int));have g:upd (upd H0 r (.lst ((Bk.zO R k).map λi=>V.int (i:Nat)))) D (.lst (((Bk.zO R k).map (Bk.dt R)).map V.int)) D=some (.lst (((Bk.zO R k).map (Bk.dt R)).map V.int)):=yB;have kA:=X.trans k2;generalize upd (upd H0 r (.lst ((Bk.zO R k).map λi=>V.int (i:Nat)))) D (.lst (((Bk.zO R k).map (Bk.dt R)).map V.int))=H2 at g kA ⊢;refine⟨_,rfl,z0,λpn N=>?_⟩;have I:=yG N (.lst []);refine⟨D,pn,_,rfl,rfl,SqL.of (I _ _ g),SqL.of yB,_,rfl,?_⟩;have u:=q _ (kA.trans I);cases n:Bk.zO R k with
     |nil=>rw[n]at u;exact onT rfl u
     |cons j l=>
      rw[n]at u;refine onF rfl ⟨_,rfl,D,(j::l).map (Bk.dt R),rfl,SqL.of (by rw[<- n];exact I _ _ g),by simp,λm hm H=>?_⟩;refine⟨_,rfl,_,_,rfl,rfl,?_⟩;have e:((!false && true && true && (j::l).all λj=>decide (d<Bk.dt R j)):Bool)=decide (m > d):=by
       rw[Bool.eq_iff_iff];simp only[Bool.not_false,Bool.true_and,cZq,decide_eq_true_eq];constructor
       ·intro h;obtain⟨i,S,rfl⟩:=cQm.mp hm;exact h i S
       ·intro h i S;have:=H _ (cQm.mpr ⟨i,S,rfl⟩);omega
      rw[e]at u;exact u
end
end Law
namespace Bk
theorem aX3:∀shut:List Int,∃C:List Int,C.Pairwise (·<·)/\∀d,d∈C↔d∈shut/\Dm.opn d=true
 |[]=>⟨[],.nil,λd=>by simp⟩
 |x::l=>by
  obtain⟨C,n,m⟩:=aX3 l;have ins:∀C:List Int,C.Pairwise (·<·)->∃g:List Int,g.Pairwise (·<·)/\∀d,d∈g↔d=x\/d∈C:=by
   intro C;induction C with
   |nil=>intro _;exact⟨[x],cQF _ _,λd=>by simp⟩
   |cons y C p=>
    intro h;obtain⟨a,b⟩:=cQG.mp h;by_cases e:x=y
    ·subst e;exact⟨x::C,h,λd=>by simp⟩
    ·by_cases j:x<y
     ·refine⟨x::y::C,cQG.mpr ⟨λd f=>?_,h⟩,λd=>by simp⟩;rcases bYr.mp f with rfl|f
      ·exact j
      ·have:=a d f;omega
     ·obtain⟨g,k,i⟩:=p b;refine⟨y::g,cQG.mpr ⟨λd f=>?_,k⟩,λd=>?_⟩
      ·rcases(i d).mp f with rfl|f
       ·omega
       ·exact a d f
      ·rw[bYr,i d,bYr];constructor
       ·rintro(h|h|h)
        ·exact .inr (.inl h)
        ·exact .inl h
        ·exact .inr (.inr h)
       ·rintro(h|h|h)
        ·exact .inr (.inl h)
        ·exact .inl h
        ·exact .inr (.inr h)
  by_cases o:Dm.opn x=true
  ·obtain⟨g,k,i⟩:=ins C n;refine⟨g,k,λd=>?_⟩;rw[i d,m d,bYr];constructor
   ·rintro(rfl|⟨h,c⟩)
    ·exact⟨.inl rfl,o⟩
    ·exact⟨.inr h,c⟩
   ·rintro⟨h|h,c⟩
    ·exact .inl h
    ·exact .inr ⟨h,c⟩
  ·refine⟨C,n,λd=>?_⟩;rw[m d,bYr];constructor
   ·rintro⟨h,c⟩;exact⟨.inr h,c⟩
   ·rintro⟨h|h,c⟩
    ·rw[h]at c;exact absurd c o
    ·exact⟨h,c⟩
theorem bV7(shut:List Int)(d:Int){t:Int}(c:1<=t):Dm.Due shut d t (due shut d t):=by
 obtain⟨C,b,a⟩:=aX3 shut;have h:=Dm.bZB (date:=d) c b a;rw[bZA h];exact h
end Bk
namespace Law
open PySem L2 PyProof.Rows
open Bk (Row Rows)
abbrev aYA:Stmt:=xF "_law_due_by"
abbrev aXC:Stmt:=xF "_law_list_on"
theorem wQ:bY3 "sorted"=some (.builtin "sorted"):=dk
inductive bQb(K:bYk)(vs:List V)(H:Hp)(Q:VK)(_:XK):Prop|mk (a:Nat) (ns:List Int) (d t D:Int) (_:vs= [.ref a,.int d,.int t]) (_:SqL K H a (ns.map V.int)) (_:Dm.Due ns d t D) (_:Q (.int D) H)
section
variable {K:bYk}
theorem uZ(d:Int):∀ns:List Int,inV (.int d) (ns.map V.int)=ns.contains d
 |[]=>rfl
 |n::r=>by have a:=uZ d r;unfold inV at a ⊢;rw[bY2,cXx,a,cXA];congr 1;show(n==d)=(d==n);rw[Bool.eq_iff_iff,beq_iff_eq,beq_iff_eq];exact eq_comm
theorem uL:∀ns:List Int,(ns.map V.int).all Z8=true
 |[]=>rfl
 |n::r=>by rw[bY2,cZu,uL r];rfl
theorem bXU:yM ["_law_shut","_law_date","_law_term","_law_many"] ["_law_shut","_law_date","_law_term"] (yH aYA):=scM
theorem bXk(T:vI mg)(F:Fun K "_law_due_by" "_law_due_by" aYA f fd):y8 P w K mg base CX0 1 f fd ["_law_shut","_law_date","_law_term"] (bQb K):=by
 have C:=bXU;refine F.ok (k:=0) C (λI A outer s J N Q E M h=>?_);obtain⟨a,g,d,t,D,rfl,L,p,q⟩:=h;refine⟨_,(yC (yT (i:=3) yE) (yC (jC cQd (yN vF (pv 3) (pv 2)) (yC (yT (i:=1) (yV zA (pv 1) yE)) (yF (y6 (PW.pt (vQ (yN vF (yV y0 (pv 1) yE) yE) (wV (yN Z2 (pv 1) (pv 0))))) (yF (yT (i:=3) (yV zA (pv 3) yE))) yR)))) (yF (yP (pv 1))))),?_⟩;refine⟨λm σ H=>∃n:Nat,σ= [some (.ref a),some (.int (d+n)),some (.int t),some (.int (Dm.cnt g (d+1) n))]/\H=J/\d+n<=D/\m=(D - (d+n)).toNat,⟨(D - d).toNat,0,?_,rfl,by have:=p.later;omega,by simp⟩,?_⟩
 ·rw[show d+((0:Nat):Int)=d by simp];rfl
 rintro m σ H ⟨n,rfl,rfl,r,rfl⟩;refine⟨_,rfl,_,rfl,_,_,rfl,rfl,_,rfl,?_⟩;refine qD (λc=>?_) (λc=>?_)
 ·have v:((Dm.cnt g (d+1) n:Nat):Int)<t:=of_decide_eq_true c;have G:d+n<D:=by
   by_cases e:d+n=D
   ·have:=p.cnt;rw[<- e,show(d+n - d).toNat=n by omega]at this;omega
   ·omega
  refine⟨λo x=>∃B,B<(D - (d+n)).toNat/\∃n:Nat,o= [some (.ref a),some (.int (d+n)),some (.int t),some (.int (Dm.cnt g (d+1) n))]/\x=H/\d+n<=D/\B=(D - (d+n)).toNat,λo x z=>z,?_⟩;refine⟨_,rfl,_,_,rfl,rfl,?_⟩;dsimp only[yW];have l:Dm.cnt g (d+1) (n+1)=Dm.cnt g (d+1) n+(if Dm.cts g (d+1+n)then 1 else 0):=rfl;have j:d+((n+1:Nat):Int)=d+n+1:=by omega
  refine⟨_,rfl,_,_,rfl,rfl,(show(0:Int)<7 by decide),_,_,rfl,rfl,_,rfl,?_⟩;have b:Dm.cts g (d+1+n)=(decide ((d+n+1) % 7<5) && !(g.contains (d+n+1))):=by rw[show d+1+(n:Int)=d+n+1 by omega];rfl
  cases y:decide ((d+(n:Int)+1) % 7<5)with
  |false=>rw[y,Bool.false_and]at b;rw[b]at l;refine onF rfl (onF rfl ⟨(D - (d+(n+1:Nat))).toNat,by omega,n+1,?_,rfl,by omega,rfl⟩);rw[l,j];rfl
  |true=>
   rw[y,Bool.true_and]at b;refine onT rfl ⟨_,rfl,_,rfl,a,_,rfl,.inl L,rfl,uL g,_,rfl,?_⟩;rw[if_pos rfl,uZ];cases u:g.contains (d+(n:Int)+1)with
   |true=>rw[u]at b;rw[b]at l;refine onF rfl ⟨(D - (d+(n+1:Nat))).toNat,by omega,n+1,?_,rfl,by omega,rfl⟩;rw[l,j];rfl
   |false=>rw[u]at b;rw[b]at l;refine onT rfl ⟨_,rfl,_,_,rfl,rfl,(D - (d+(n+1:Nat))).toNat,by omega,n+1,?_,rfl,by omega,rfl⟩;rw[l,j];simp
 ·have v:¬ ((Dm.cnt g (d+1) n:Nat):Int)<t:=of_decide_eq_false (Bool.eq_false_iff.mpr c);have e:d+n=D:=by
   refine Int.le_antisymm r (cX6.mp λz=>v (p.less z))
  refine⟨_,rfl,?_⟩;rw[e];exact q
noncomputable def jK (R:Rows) (shut:List Int) (k:Nat):Int:=Bk.due shut (Bk.dt R k) (((R[k]?).map (·.term)).getD 0)
noncomputable def qQ (R:Rows) (shut:List Int) (d:Int) (a:Bool) (k:Nat):Bool:=Bk.W3 R k d && (!a || decide (jK R shut k<d))
inductive aVF(vs:List V)(H:Hp)(Q:VK)(_:XK):Prop|mk (ra sa:Nat) (rs:List Nat) (R:Rows) (shut:List Int) (d:Int) (late:Bool) (_:vs= [.ref ra,.ref sa,.int d,.bl late]) (_:y7 H ra rs R) (_:H sa=some (.lst (shut.map V.int))) (_:R.length<64) (_:∀ (r:Nat)(H':Hp)(l:List Nat),xA H H'->H r=none->H' r=some (.lst (l.map λi=>V.int (i:Nat)))->Bk.bQu R shut d late l->Q (.ref r) H')
def aW8(H:Hp)(g:Nat->Int)(k:Nat)(x:V):Prop:=∃p,x= .ref p/\H p=some (.tup [.int (g k),.int (k:Nat)])
theorem aW8.tk{H c:Hp}{g:Nat->Int}(t:∀a b,H a=some (.tup b)->c a=some (.tup b)){k:Nat}{x:V}(h:aW8 H g k x):aW8 c g k x:=let ⟨p,e,a⟩:=h;⟨p,e,t _ _ a⟩
theorem aXc{R:Rows}{k:Nat}{d:Int}(a:k<R.length)(h:Bk.W3 R k d=true):1<=R[k].term:=by
 unfold Bk.W3 at h;rw[bYh a]at h;simp only[Bool.and_eq_true,decide_eq_true_eq]at h;exact h.1.1.2
theorem aYV:yM ["_law_rows","_law_shut","_law_date","_law_late","_law_made","_law_k","_law_last"] ["_law_rows","_law_shut","_law_date","_law_late"] (yH aXC):=scM
theorem aKM:xH ["_law_rows","_law_shut","_law_date","_law_late","_law_made","_law_k","_law_last"] (yH aXC) "_law_pair" [] [] (lsN [(".0",.local),("_law_pair",.local)]):=
 lcM
theorem bXy{α β:Type}{F:α->β->Prop}:∀ {l:List α} {m:List β} {i:Nat} {y:β},cQc F l m->m[i]? =some y->∃x,l[i]? =some x/\F x y
 |_,_,0,_,.cons r _,h=>by simp at h;subst h;exact⟨_,rfl,r⟩
 |_,_,i+1,_,.cons _ t,h=>by simpa using bXy (i:=i) t (by simpa using h)
 |_,_,i,_,.nil,h=>by simp at h
theorem aQ6{α β:Type}{F:α->β->Prop}{x:α}{y:β}(r:F x y):∀ {l:List α} {m:List β},cQc F l m->cQc F (l++ [x]) (m++ [y])
 |_,_,.nil=> .cons r .nil
 |_,_,.cons a t=> .cons a (aQ6 r t)
theorem aQL{a H:Hp}{c:Nat}{o:HO}(k:xA a H)(h:a c=none):xA a (upd H c o):=λb u q=>by rw[yI (yJ q h)];exact k b u q
def bW6(H:Hp):V->V
 |.ref p=>match H p with
  |some (.tup [_,y])=>y
  |_=> .non
 |_=> .non
theorem aVx{H:Hp}{p:Nat}{x y:V}(h:H p=some (.tup [x,y])):bW6 H (.ref p)=y:=by
 show(match H p with|some (.tup [_,y])=>y|_=>V.non)=y;rw[h]
theorem aYa(T:vI mg)(J:mg "sorted"=none)(n:FnG P w K mg base 2 "_law_waits_on" ["_law_rows","_law_number","_law_date"] bQj)(B:FnG P w K mg base 2 "_law_due_by" ["_law_shut","_law_date","_law_term"] (bQb K)) (F:Fun K "_law_list_on" "_law_list_on" aXC f fd):y8 P w K mg base CX0 3 f fd ["_law_rows","_law_shut","_law_date","_law_late"] aVF:=by
 have sc:=aYV;refine F.ok (k:=2) sc (λc0 A outer s H0 vs Q E hr h=>?_);obtain⟨S,sa,rs,R,shut,d,c,rfl,hB,b3,hR,q⟩:=h;refine⟨_,(yC (yT (i:=4) (y3 yD)) (yC (wE cQd rfl (zP rfl T.b_range (yA (yU yQ rfl T.b_len xD (yA (pv 0) yD)) yD)) (y9 (i:=5)) (yF (y6 (x6 (xK n hr rfl (yA (pv 0) (yA (pv 5) (yA (pv 2) yD))))) (yC (yT (i:=6) (xK B hr rfl (yA (pv 1) (yA (yL yK (yL yK (pv 0) (pv 5)) yE) (yA (yL yK (yL yK (pv 0) (pv 5)) yE) yD))))) (yF (y6 (PW.pt (W0 (uC (x6 (pv 3))) (jN (yN vF (pv 6) (pv 2))))) (yF (yY (uG bYS bYY bYZ xG (pv 4) (yA (xM (yA (pv 6) (yA (pv 5) yD))) yD)))) yR))) yR))) (yF (yP (aQn aKM rfl (xI (yU uB rfl J wQ (yA (pv 4) yD))) (λ_ _ _ _ _=>z7) (λ_ _ _ _ _=>(yL ixT (pv 0) yE))))))),?_⟩;refine⟨z0,λD b2=>?_⟩;dsimp only[yW];have k1:=yG b2 (.lst []);have hl:(rs.map V.ref).length=R.length:=by rw[bYo];exact hB.len
 refine⟨_,rfl,S,_,rfl,.inl (SqL.of (k1 _ _ hB.lst)),?_⟩;rw[hl];refine⟨_,rfl,by omega,by omega,?_⟩;rw[bYU];refine vL (λt σ H=>∃ (g:List V)(M O:Option V),σ= [some (.ref S),some (.ref sa),some (.int d),some (.bl c),some (.ref D),M,O]/\xA H0 H/\H D=some (.lst g)/\
  cQc (aW8 H (jK R shut)) ((bYv t).filter (qQ R shut d c)) g) ?_ ?_ ?_
 ·exact⟨[],none,none,rfl,k1,yB,.nil⟩
 ·rintro k σ H hk ⟨g,M,O,rfl,u,y,U⟩;rw[cZi];dsimp only[yW];have a3:=hB.same u;have Y:=bYh hk;rw[cXE,cQr];have stay:∀X M O,xA H X->qQ R shut d c k=false->∃ (g:List V)(p5 p6:Option V),[some (V.ref S),some (V.ref sa),some (V.int d),some (V.bl c),some (V.ref D),M,O]= [some (.ref S),some (.ref sa),some (.int d),some (.bl c),some (.ref D),p5,p6]/\xA H0 X/\X D=some (.lst g)/\
    cQc (aW8 X (jK R shut)) ((bYv k).filter (qQ R shut d c)++ [k].filter (qQ R shut d c)) g:=λX M O kk e=>by
   have e3: [k].filter (qQ R shut d c)= []:=by simp[e]
   rw[e3,cQu]
   exact⟨g,M,O,rfl,u.trans kk,kk _ _ y,Paired.mapP U λ_ _ z=>z.tk λa xs e=>kk _ _ e⟩
  refine⟨_,rfl,_,rfl,_,rfl,S,rs,R,k,d,rfl,a3,by omega,hk,λH2 C=>⟨_,rfl,?_⟩⟩;cases hw:Bk.W3 R k d with
  |false=>exact onF rfl (stay H2 _ _ C (by unfold qQ;rw[hw];rfl))
  |true=>
   have b6:=aXc hk hw;have Z:=a3.same C;obtain⟨b,g1,g2,cp,g3,g4⟩:=Z.get Y;have hD:=Bk.bV7 shut (Bk.dt R k) b6;have eD:jK R shut k=Bk.due shut (Bk.dt R k) R[k].term:=by unfold jK;rw[Y];rfl
   rw[<- eD,Bk.wZ Y]at hD;refine onT rfl ?_;refine⟨_,rfl,_,rfl,_,rfl,S,_,_,_,rfl,rfl,SqL.of Z.lst,yS g1,b,_,1,_,rfl,rfl,SqL.of g3,rfl,_,rfl,_,rfl,S,_,_,_,rfl,rfl,SqL.of Z.lst,yS g1,b,_,3,_,rfl,rfl,SqL.of g3,rfl,?_⟩;refine⟨sa,shut,_,_,jK R shut k,rfl,SqL.of (C _ _ (u _ _ b3)),hD,?_⟩;dsimp only[yW];have b0:qQ R shut d c k=true->bQn (tBM K "list" aYp (bVF 4) (aW3 (bKW (aW3 (bVF 6) (aW3 (bVF 5) bZg))) bZg)) {nx:=λσ H=>∃ (g:List V)(M O:Option V),σ= [some (.ref S),some (.ref sa),some (.int d),some (.bl c),some (.ref D),M,O]/\xA H0 H/\H D=some (.lst g)/\cQc (aW8 H (jK R shut)) ((bYv k).filter (qQ R shut d c)++ [k].filter (qQ R shut d c)) g,rt:=Q} [some (.ref S),some (.ref sa),some (.int d),some (.bl c),some (.ref D),some (.int (k:Nat)),some (.int (jK R shut k))] H2:=λe=>by
    have a7:=C _ _ y;refine⟨_,rfl,.inl ⟨rfl,_,SqL.of a7⟩,_,rfl,_,rfl,z2,λq3 b4=>?_⟩;have k5:=yG b4 (.tup [V.int (jK R shut k),V.int (k:Nat)]);have a8:=k5 _ _ a7;have il:g.length<=k:=by rw[<- U.length];exact bYT (cQf _ _) (by simp)
    have t6:∀a xs,upd H2 q3 (.tup [V.int (jK R shut k),V.int (k:Nat)]) a=some (.tup xs)->upd (upd H2 q3 (.tup [V.int (jK R shut k),V.int (k:Nat)])) D (.lst (g++ [V.ref q3])) a=some (.tup xs):=λa xs e=>by rw[yI (aQS e a8 (by intro z;cases z))];exact e
    have e3: [k].filter (qQ R shut d c)= [k]:=by simp[e]
    refine⟨D,g,.ref q3,rfl,rfl,a8,zlt (by omega),g++ [.ref q3],_,_,rfl,aQL (u.trans (C.trans k5)) b2,yB,?_⟩;rw[e3];exact aQ6 ⟨q3,rfl,t6 _ _ yB⟩ (Paired.mapP U λ_ _ z=>z.tk λa xs e=>t6 _ _ (k5 _ _ (C _ _ e)))
   refine⟨_,rfl,_,rfl,?_⟩;by_cases j:c=true
   ·refine onF (by rw[j];rfl) ⟨_,rfl,_,rfl,_,_,rfl,rfl,_,rfl,?_⟩;cases a6:decide (jK R shut k<d)with
    |true=>exact onT rfl (b0 (by unfold qQ;rw[hw,j,a6];rfl))
    |false=>exact onF rfl (stay H2 _ _ C (by unfold qQ;rw[hw,j,a6];rfl))
   ·have hf:c=false:=by simpa using j
    exact onT (by rw[hf];rfl) (onT rfl (b0 (by unfold qQ;rw[hw,hf];rfl)))
 ·rintro σ H1 ⟨g,M,O,rfl,u,y,U⟩;generalize I:(bYv R.length).filter (qQ R shut d c)=fam at U;have a9:fam.length=g.length:=U.length;have fn:fam.length<=R.length:=by rw[<- I];exact bYT (cQf _ _) (by simp)
  have b1:∀k,k∈fam↔k<R.length/\qQ R shut d c k=true:=λk=>by rw[<- I,cQl,bYO]
  have b7:fam.Nodup:=by rw[<- I];exact cZr.sublist cXg
  refine⟨_,rfl,D,g,λm=>(jK R shut (fam.getD m 0),((fam.getD m 0:Nat):Int)),rfl,y,by omega,λa b ha hb e=>?_,λm x hx=>?_,λl out hl a0 b5=>?_⟩
  ·have G:fam.getD a 0=fam.getD b 0:=by have:=congrArg Prod.snd e;simp only at this;omega
   have a2:a<fam.length:=by omega
   have a4:b<fam.length:=by omega
   simp[bY4,bYh a2,bYh a4]at G;exact(cQ3 (h₀:=a2) (h₁:=a4) b7).mp G
  ·obtain⟨k,hk,p,W,G⟩:=bXy U hx;have:fam.getD m 0=k:=by simp[bY4,hk]
   show ∃a,x=V.ref a/\H1 a=some (.tup [V.int (jK R shut (fam.getD m 0)),V.int ((fam.getD m 0:Nat):Int)]);rw[this];exact⟨p,W,G⟩
  ·have hm:∀m∈out,m<g.length:=λm hm=>bYO.mp (a0.mem_iff.mp hm);have C:=yG hl (.lst (out.map λi=>g.getD i .non));refine⟨l,rfl,⟨_,SqL.of yB⟩,λr N=>?_⟩;have b9:out.length=g.length:=by rw[a0.length_eq,bY8]
   have a5:∀m∈out,∃p,g.getD m .non= .ref p/\H1 p=some (.tup [.int (jK R shut (fam.getD m 0)),.int ((fam.getD m 0:Nat):Int)]):=λm o=>by
    have L:=hm m o;have hg:g[m]? =some (g.getD m .non):=by simp[bY4,bYh L]
    obtain⟨k,hk,p,W,G⟩:=bXy U hg;have:fam.getD m 0=k:=by simp[bY4,hk]
    rw[this];exact⟨p,W,G⟩
   refine aZk (λ_=>true) (bW6 H1) (SqL.of yB) N (zn (by rw[bYo];omega)) (λv hv X R' _ h=>h) (λv hv _ X R' hH a1=>?_) ?_
   ·obtain⟨m,o,rfl⟩:=cQm.mp hv;obtain⟨p,W,G⟩:=a5 m o;rw[W]at a1 ⊢;have e4:=C _ _ G;have e5:=(hH p (yJ e4 N)).trans e4;rw[aVx G]at a1;exact⟨_,rfl,p,_,1,_,rfl,rfl,SqT.of e5,rfl,a1⟩
   ·have ff:(out.map λi=>g.getD i .non).filter (λ_=>true)=out.map λi=>g.getD i .non:=cX1.mpr λ_ _=>rfl;have e6:((out.map λi=>g.getD i .non).map (bW6 H1))=(out.map λm=>fam.getD m 0).map λi=>V.int (i:Nat):=by
     rw[cXB,cXB];refine cJb λm o=>?_;obtain⟨p,W,G⟩:=a5 m o;show bW6 H1 (g.getD m .non)=V.int (fam.getD m 0:Nat);rw[W];exact aVx G
    rw[ff,e6];refine q r _ (out.map λm=>fam.getD m 0) (u.trans (C.trans (yG N _))) ((u.trans C).fresh N) yB ⟨λk=>?_,?_⟩
    ·have b8:k∈out.map (λm=>fam.getD m 0)↔k∈fam:=by
      constructor
      ·intro h;obtain⟨m,o,rfl⟩:=cQm.mp h;have L:m<fam.length:=by rw[a9];exact hm m o
       simp[bY4,bYh L]
      ·intro h;obtain⟨m,L,e⟩:=bY7 h;refine cQm.mpr ⟨m,a0.mem_iff.mpr (bYO.mpr (by omega)),?_⟩;simp[bY4,bYh L,e]
     rw[b8,b1 k];unfold qQ;rw[Bool.and_eq_true,Bool.or_eq_true,decide_eq_true_eq];refine and_congr Iff.rfl (and_congr Iff.rfl ?_);cases c<;> simp[jK]
    ·rw[cZL];exact b5
end
end Law
namespace Law
open PySem L2 PyProof.Rows
open Bk (Row Rows)
open Stree (qE u4 zW)
abbrev aXB:Stmt:=xF "_law_family"
theorem wW{a H:Hp}{c:Nat}{o:HO}(k:xA a H)(h:a c=none):xA a (upd H c o):=λb u q=>by rw[yI (yJ q h)];exact k b u q
theorem qB{H:Hp}{p:Nat}{c:List V}{o:HO}(h:H p=some (.lst c)):∀a b,H a=some (.tup b)->upd H p o a=some (.tup b):=λa b e=>by rw[yI (aQS e h (by intro z;cases z))];exact e
structure bZv(H:Hp)(ra:Nat)(rs:List Nat)(n:Nat)(L:Nat->Option Nat)(D:Nat->Int):Prop where
 lst:H ra=some (.lst (rs.map V.ref))
 len:rs.length=n
 row:∀i b,rs[i]? =some b->∃xs,H b=some (.lst xs)/\xs[1]? =some (.int (D i))/\xs[4]? =some (wM (L i))
inductive J8(vs:List V)(H:Hp)(Q:VK)(_:XK):Prop|mk (ra:Nat) (rs:List Nat) (n:Nat) (L:Nat->Option Nat) (rk:Nat->Nat) (D:Nat->Int) (i:Nat) (_:vs= [.ref ra,.int (i:Nat)]) (_:bZv H ra rs n L D) (_:Fm.Ok n L rk) (_:n<=60) (_:i<n) (_:∀ (H':Hp)(r:Nat)(out:List Nat),xA H H'->H r=none->H' r=some (.lst (out.map λi=>V.int (i:Nat)))->(out.Pairwise λx y=>u4 (Fm.rd L D rk x) (Fm.rd L D rk y)=true)->(∀k,k∈out↔k<n/\Fm.tp L rk k=Fm.tp L rk i)->Q (.ref r) H')
def Tk(H c:Hp):Prop:=∀a b,H a=some (.tup b)->c a=some (.tup b)
theorem xA.tk{H b:Hp}(k:xA H b):Tk H b:=λa c e=>k a _ e
theorem Tk.trans{H d f:Hp}(a:Tk H d)(b:Tk d f):Tk H f:=λc g e=>b c g (a c g e)
theorem qV.tk{H a:Hp}(k:Tk H a){b:Nat}{d:qE}(h:qV H b d):qV a b d:=let ⟨xs,e,z⟩:=h;⟨xs,k _ _ e,Paired.mapP z λ_ _ ⟨c,w1,w2⟩=>⟨c,w1,k _ _ w2⟩⟩
def bW2(H:Hp)(rd:Nat->qE)(k:Nat)(x:V):Prop:=∃p b,x= .ref p/\H p=some (.tup [.ref b,.int (k:Nat)])/\qV H b (rd k)
theorem bW2.tk{H d:Hp}{rd:Nat->qE}(t:Tk H d){k:Nat}{x:V}(h:bW2 H rd k x):bW2 d rd k x:=let ⟨p,b,e,a,c⟩:=h;⟨p,b,e,t _ _ a,qV.tk t c⟩
theorem qM{α β:Type}{F:α->β->Prop}:∀ {l:List α} {m:List β} {i:Nat} {y:β},cQc F l m->m[i]? =some y->∃x,l[i]? =some x/\F x y
 |_,_,0,_,.cons r _,h=>by simp at h;subst h;exact⟨_,rfl,r⟩
 |_,_,i+1,_,.cons _ t,h=>by simpa using qM (i:=i) t (by simpa using h)
 |_,_,i,_,.nil,h=>by simp at h
theorem aQk{α β:Type}{F:α->β->Prop}{x:α}{y:β}(r:F x y):∀ {l:List α} {m:List β},cQc F l m->cQc F (l++ [x]) (m++ [y])
 |_,_,.nil=> .cons r .nil
 |_,_,.cons a t=> .cons a (aQk r t)
section
variable {K:bYk}
theorem aYU:yM ["_law_rows","_law_number","_law_root","_law_keys","_law_k","_law_key","_law_top"] ["_law_rows","_law_number"] (yH aXB):=scM
theorem aKL:xH ["_law_rows","_law_number","_law_root","_law_keys","_law_k","_law_key","_law_top"] (yH aXB) "_law_pair" [] [] (lsN [(".0",.local),("_law_pair",.local)]):=
 lcM
def bWL(H:Hp):V->V
 |.ref p=>match H p with
  |some (.tup [_,y])=>y
  |_=> .non
 |_=> .non
theorem aVy{H:Hp}{p:Nat}{x y:V}(h:H p=some (.tup [x,y])):bWL H (.ref p)=y:=by
 show(match H p with|some (.tup [_,y])=>y|_=>V.non)=y;rw[h]
theorem aK9(T:vI mg)(a4:mg "sorted"=none)(F:Fun K "_law_family" "_law_family" aXB f fd):y8 P w K mg base CX0 2 f fd ["_law_rows","_law_number"] J8:=by
 have sc:=aYU;refine F.ok (k:=1) sc (λf3 A outer s H0 vs Q E hr h=>?_);obtain⟨W,rs,n,L,g,D,i,rfl,hR,ho,hn,hi,q⟩:=h;refine⟨_,(yC (yT (i:=2) (pv 1)) (yC (jC cQd (yN wG (yL yK (yL yK (pv 0) (pv 2)) yE) zB) (yF (yT (i:=2) (yL yK (yL yK (pv 0) (pv 2)) yE)))) (yC (yT (i:=3) (y3 yD)) (yC (wE cQd rfl (zP rfl T.b_range (yA (yU yQ rfl T.b_len xD (yA (pv 0) yD)) yD)) (y9 (i:=4)) (yC (yT (i:=5) (xM (yA (xM (yA (yL yK (yL yK (pv 0) (pv 4)) yE) (yA (pv 4) yD))) yD))) (yC (yT (i:=6) (pv 4)) (yC (jC cQd (yN wG (yL yK (yL yK (pv 0) (pv 6)) yE) zB) (yC (yT (i:=6) (yL yK (yL yK (pv 0) (pv 6)) yE)) (yF (yT (i:=5) (yV bJV (xM (yA (xM (yA (yL yK (yL yK (pv 0) (pv 6)) yE) (yA (pv 6) yD))) yD)) (pv 5)))))) (yF (y6 (yN x9 (pv 6) (pv 2)) (yF (yY (uG bYS bYY bYZ xG (pv 3) (yA (xM (yA (pv 5) (yA (pv 4) yD))) yD)))) yR)))))) (yF (yP (aQn aKL rfl (xI (yU (Z7 hr) rfl a4 wQ (yA (pv 3) yD))) (λ_ _ _ _ _=>z7) (λ_ _ _ _ _=>(yL ixT (pv 0) yE))))))))),?_⟩;have row:∀ {H:Hp} {t:Nat},xA H0 H->t<n->∃b G,(rs.map V.ref)[t]? =some (.ref b)/\H b=some (.lst G)/\G[1]? =some (.int (D t))/\G[4]? =some (wM (L t)):=λ{H t} k ht=>by
  have e7:t<rs.length:=by rw[hR.len];exact ht
  have hb:=bYh e7;obtain⟨G,h1,h2,h3⟩:=hR.row t _ hb;exact⟨rs[t],G,by rw[bYC,hb];rfl,k _ _ h1,h2,h3⟩
 refine⟨_,rfl,?_⟩;dsimp only[yW];refine⟨λm σ H=>∃t:Nat,σ= [some (.ref W),some (.int (i:Nat)),some (.int (t:Nat)),none,none,none,none]/\H=H0/\t<n/\Fm.tp L g t=Fm.tp L g i/\m=g t,⟨g i,i,rfl,rfl,hi,rfl,rfl⟩,?_⟩;rintro m σ H ⟨t,rfl,rfl,ht,c4,rfl⟩;obtain⟨b,G,g1,g2,g3,g4⟩:=row (xA.refl H) ht;refine⟨_,rfl,_,rfl,W,_,_,_,rfl,rfl,SqL.of hR.lst,yS g1,b,G,4,_,rfl,rfl,SqL.of g2,yS (j:=4) g4,rfl,_,rfl,?_⟩;cases hl:L t with
 |some j=>obtain⟨hj,b4⟩:=ho.lt t j ht hl;refine onT rfl ⟨λσ' H'=>∃m',m'<g t/\∃t:Nat,σ'= [some (.ref W),some (.int (i:Nat)),some (.int (t:Nat)),none,none,none,none]/\H'=H/\t<n/\Fm.tp L g t=Fm.tp L g i/\m'=g t,λσ' H' z=>z,?_⟩;refine⟨_,rfl,_,rfl,W,_,_,_,rfl,rfl,SqL.of hR.lst,yS g1,b,G,4,_,rfl,rfl,SqL.of g2,yS (j:=4) g4,?_⟩;rw[hl];exact⟨g j,b4,j,rfl,rfl,hj,by rw[<- c4,Fm.uA ho ht hl],rfl⟩
 |none=>
  have c0:t=Fm.tp L g i:=by rw[<- c4,Fm.zT hl]
  subst c0;refine onF rfl ?_;refine⟨z0,λka c5=>?_⟩;dsimp only[yW];have k1:=yG c5 (.lst []);have c6:(rs.map V.ref).length=n:=by rw[bYo];exact hR.len
  refine⟨_,rfl,W,_,rfl,.inl (SqL.of (k1 _ _ hR.lst)),?_⟩;rw[c6];refine⟨_,rfl,by omega,by omega,?_⟩;rw[bYU];refine vL (λt σ H'=>∃ (d:List V)(o4 o5 o6:Option V),σ= [some (.ref W),some (.int (i:Nat)),some (.int (Fm.tp L g i:Nat)),some (.ref ka),o4,o5,o6]/\xA H H'/\H' ka=some (.lst d)/\
   cQc (bW2 H' (Fm.rd L D g)) ((bYv t).filter λk=>decide (Fm.tp L g k=Fm.tp L g i)) d) ?_ ?_ ?_
  ·exact⟨[],none,none,none,rfl,k1,yB,.nil⟩
  ·rintro k σ N hk ⟨d,o4,o5,o6,rfl,B,I,hP⟩;rw[cZi];dsimp only[yW];obtain⟨b,G,g1,g2,g3,g4⟩:=row B hk;have d0:=B _ _ hR.lst;refine⟨_,rfl,_,rfl,W,_,_,_,rfl,rfl,SqL.of d0,yS g1,b,G,1,_,rfl,rfl,SqL.of g2,yS (j:=1) g3,_,rfl,z2,λp1 Y=>⟨z1,λp2 b3=>?_⟩⟩;dsimp only[yW];have d4:=yG Y (.tup [V.int (D k),V.int (k:Nat)]);have b8:=yG b3 (.tup [V.ref p1]);have X:qV (upd (upd N p1 (.tup [V.int (D k),V.int (k:Nat)])) p2 (.tup [V.ref p1])) p2 [(D k,(k:Int))]:=⟨[.ref p1],yB,.cons ⟨p1,rfl,b8 _ _ yB⟩ .nil⟩;have c1:xA N (upd (upd N p1 (.tup [V.int (D k),V.int (k:Nat)])) p2 (.tup [V.ref p1])):=d4.trans b8;generalize upd (upd N p1 (.tup [V.int (D k),V.int (k:Nat)])) p2 (.tup [V.ref p1])=H2 at X c1 ⊢;refine⟨_,rfl,?_⟩;dsimp only[yW];refine⟨λm σ M=>∃ (o:Nat)(S:qE)(kb:Nat),σ= [some (.ref W),some (.int (i:Nat)),some (.int (Fm.tp L g i:Nat)),some (.ref ka),some (.int (k:Nat)),some (.ref kb),some (.int (o:Nat))]/\xA N M/\o<n/\
     qV M kb ((D o,(o:Int))::S)/\Fm.rd L D g k=Fm.rd L D g o++S/\Fm.tp L g o=Fm.tp L g k/\m=g o,⟨g k,k,[],p2,rfl,c1,hk,X,by rw[cQu],rfl,rfl⟩,?_⟩
   rintro m σ M ⟨o,S,kb,rfl,C,a7,a2,b5,c8,rfl⟩;have u:=B.trans C;obtain⟨b,G,g1,g2,g3,g4⟩:=row u a7;refine⟨_,rfl,_,rfl,W,_,_,_,rfl,rfl,SqL.of (u _ _ hR.lst),yS g1,b,G,4,_,rfl,rfl,SqL.of g2,yS (j:=4) g4,rfl,_,rfl,?_⟩;cases J:L o with
   |some j=>
    obtain⟨hj,b4⟩:=ho.lt o j a7 J;refine onT rfl ⟨λσ M=>∃m',m'<g o/\∃ (o:Nat)(S:qE)(kb:Nat),σ= [some (.ref W),some (.int (i:Nat)),some (.int (Fm.tp L g i:Nat)),some (.ref ka),some (.int (k:Nat)),some (.ref kb),some (.int (o:Nat))]/\xA N M/\o<n/\
     qV M kb ((D o,(o:Int))::S)/\Fm.rd L D g k=Fm.rd L D g o++S/\Fm.tp L g o=Fm.tp L g k/\m'=g o,λσ' H' z=>z,?_⟩
    refine⟨_,rfl,_,rfl,W,_,_,_,rfl,rfl,SqL.of (u _ _ hR.lst),yS g1,b,G,4,_,rfl,rfl,SqL.of g2,yS (j:=4) g4,?_⟩;rw[J];dsimp only[yW,wM];obtain⟨b',e8,c9,d5,d2,f2⟩:=row u hj;refine⟨_,rfl,_,rfl,W,_,_,_,rfl,rfl,SqL.of (u _ _ hR.lst),yS c9,b',e8,1,_,rfl,rfl,SqL.of d5,yS (j:=1) d2,_,rfl,z2,λO d7=>⟨z1,λq2 d3=>?_⟩⟩;have d8:=yG d7 (.tup [V.int (D j),V.int (j:Nat)]);have c7:=yG d3 (.tup [V.ref O]);have b7:xA M (upd (upd M O (.tup [V.int (D j),V.int (j:Nat)])) q2 (.tup [V.ref O])):=d8.trans c7;have e1:upd (upd M O (.tup [V.int (D j),V.int (j:Nat)])) q2 (.tup [V.ref O]) O=some (.tup [V.int (D j),V.int (j:Nat)]):=c7 _ _ yB;have U:upd (upd M O (.tup [V.int (D j),V.int (j:Nat)])) q2 (.tup [V.ref O]) q2=some (.tup [V.ref O]):=yB;generalize upd (upd M O (.tup [V.int (D j),V.int (j:Nat)])) q2 (.tup [V.ref O])=H4 at b7 e1 U ⊢;obtain⟨ys,y1,y2⟩:=qV.tk (xA.tk b7) a2;have b0:ys.length=S.length+1:=by have:=y2.length;simpa using this.symm
    have c2:(Fm.rd L D g k).length<=n:=Fm.bWA ho hk;rw[b5,bYM]at c2;have d9:ys≠ []:=λz=>by rw[z]at b0;simp at b0
    refine⟨_,rfl,q2,kb,_,ys,rfl,rfl,SqT.of U,SqT.of y1,by simp,by rw[bYR];show 1+ys.length<=_;omega,λz=>absurd z d9,λ_ q3 b2=>?_⟩;have y:=yG b2 (.tup ([V.ref O]++ys));refine⟨g j,b4,j,(D o,(o:Int))::S,q3,rfl,C.trans (b7.trans y),hj,⟨_,yB,.cons ⟨O,rfl,y _ _ e1⟩ (Paired.mapP y2 λ_ _ ⟨c,w1,w2⟩=>⟨c,w1,y _ _ w2⟩)⟩,?_,?_,rfl⟩
    ·rw[b5,Fm.v1 ho a7 J,cXu];rfl
    ·rw[<- c8,Fm.uA ho a7 J]
   |none=>
    have b6:o=Fm.tp L g k:=by rw[<- c8,Fm.zT J]
    have e9:Fm.rd L D g k=(D o,(o:Int))::S:=by rw[b5,Fm.Y6 J];rfl
    refine onF rfl ?_;refine⟨_,rfl,_,rfl,rfl,_,rfl,?_⟩;rw[cXE,cQr];by_cases ec:Fm.tp L g k=Fm.tp L g i
    ·have hd:decide ((V.int (o:Nat))=V.int (Fm.tp L g i:Nat))=true:=by rw[b6,ec];simp
     refine onT (by rw[b6,ec];simp) ?_;have a9:=C _ _ I;refine⟨_,rfl,.inl ⟨rfl,_,SqL.of a9⟩,_,rfl,_,rfl,z2,λq3 b2=>?_⟩;have y:=yG b2 (.tup [V.ref kb,V.int (k:Nat)]);have b1:=y _ _ a9;have il:d.length<=k:=by have:=hP.length;rw[<- this];exact bYT (cQf _ _) (by simp)
     have t6:Tk (upd M q3 (.tup [V.ref kb,V.int (k:Nat)])) (upd (upd M q3 (.tup [V.ref kb,V.int (k:Nat)])) ka (.lst (d++ [V.ref q3]))):=λa G e=>qB b1 a G e;refine⟨ka,d,.ref q3,rfl,rfl,b1,zlt (by omega),d++ [.ref q3],_,_,_,rfl,wW (B.trans (C.trans y)) c5,yB,?_⟩;have e3: [k].filter (λk=>decide (Fm.tp L g k=Fm.tp L g i))= [k]:=by simp[ec]
     rw[e3];refine aQk ⟨q3,kb,rfl,t6 _ _ yB,?_⟩ (Paired.mapP hP λ_ _ z=>z.tk ((xA.tk (C.trans y)).trans t6));rw[e9];exact qV.tk ((xA.tk y).trans t6) a2
    ·refine onF ?_ ⟨d,_,_,_,rfl,B.trans C,C _ _ I,?_⟩
     ·rw[b6];simp;omega
     ·have e3: [k].filter (λk=>decide (Fm.tp L g k=Fm.tp L g i))= []:=by simp[ec]
      rw[e3,cQu];exact Paired.mapP hP λ_ _ z=>z.tk (xA.tk C)
  ·rintro σ N ⟨d,o4,o5,o6,rfl,B,I,hP⟩;generalize a3:(bYv n).filter (λk=>decide (Fm.tp L g k=Fm.tp L g i))=fam at hP;have f0:fam.length=d.length:=hP.length;have fn:fam.length<=n:=by rw[<- a3];exact bYT (cQf _ _) (by simp)
   have a1:∀k,k∈fam↔k<n/\Fm.tp L g k=Fm.tp L g i:=λk=>by rw[<- a3,cQl,bYO,decide_eq_true_eq]
   have e0:fam.Nodup:=by rw[<- a3];exact cZr.sublist cXg
   have a5:∀m,m<d.length->fam.getD m 0∈fam:=λm hm=>by
    have d6:m<fam.length:=by omega
    simp[bY4,bYh d6]
   refine⟨_,rfl,ka,d,λm=>Fm.rd L D g (fam.getD m 0),λm=>((fam.getD m 0:Nat):Int),rfl,I,by omega,λa b ha hb e=>?_,λm x hx=>?_,λl out hl Y b3=>?_⟩
   ·have U:=Fm.aYq ho ((a1 _).mp (a5 a ha)).1 ((a1 _).mp (a5 b hb)).1 e;have b9:a<fam.length:=by omega
    have c3:b<fam.length:=by omega
    simp[bY4,bYh b9,bYh c3]at U;exact(cQ3 (h₀:=b9) (h₁:=c3) e0).mp U
   ·obtain⟨k,hk,p,b,e1,U,e3⟩:=qM hP hx;have:fam.getD m 0=k:=by simp[bY4,hk]
    show ∃a b,x=V.ref a/\N a=some (.tup [V.ref b,V.int ((fam.getD m 0:Nat):Int)])/\qV N b (Fm.rd L D g (fam.getD m 0));rw[this];exact⟨p,b,e1,U,e3⟩
   ·have hm:∀m∈out,m<d.length:=λm hm=>bYO.mp (Y.mem_iff.mp hm);have k2:=yG hl (.lst (out.map λi=>d.getD i .non));refine⟨l,rfl,⟨_,SqL.of yB⟩,λr a8=>?_⟩;have f1:out.length=d.length:=by rw[Y.length_eq,bY8]
    refine aZk (λ_=>true) (bWL N) (SqL.of yB) a8 (zn (by rw[bYo];omega)) ?_ ?_ ?_
    ·intro v hv H' R hH Z;exact Z
    ·intro v hv _ H' R hH Z;obtain⟨m,a0,rfl⟩:=cQm.mp hv;have a6:=hm m a0;have hg:d[m]? =some (d.getD m .non):=by simp[bY4,bYh a6]
     obtain⟨k,hk,p,b,e1,U,e3⟩:=qM hP hg;rw[e1]at Z ⊢;have e4:=k2 _ _ U;have d1:p≠r:=yJ e4 a8;have e5:H' p=some (.tup [.ref b,.int (k:Nat)]):=by rw[hH p d1];exact e4
     refine⟨_,rfl,p,_,1,.int (k:Nat),rfl,rfl,SqT.of e5,rfl,?_⟩;have:bWL N (.ref p)= .int (k:Nat):=aVy U;rw[this]at Z;exact Z
    ·have ff:(out.map λi=>d.getD i .non).filter (λ_=>true)=out.map λi=>d.getD i .non:=cX1.mpr λ_ _=>rfl;rw[ff,cXB];have e6:(out.map (bWL N∘λi=>d.getD i .non))=(out.map λm=>fam.getD m 0).map λi=>V.int (i:Nat):=by
      rw[cXB];refine cJb λm a0=>?_;have a6:=hm m a0;have hg:d[m]? =some (d.getD m .non):=by simp[bY4,bYh a6]
      obtain⟨k,hk,p,b,e1,U,e3⟩:=qM hP hg;show bWL N (d.getD m .non)=V.int (fam.getD m 0:Nat);have:fam.getD m 0=k:=by simp[bY4,hk]
      rw[e1,this];exact aVy U
     rw[e6];refine q _ r (out.map λm=>fam.getD m 0) (B.trans (k2.trans (yG a8 _))) ((B.trans k2).fresh a8) yB ?_ λk=>?_
     ·rw[cZL];exact b3
     ·rw[<- a1 k];constructor
      ·intro h;obtain⟨m,a0,rfl⟩:=cQm.mp h;exact a5 m (hm m a0)
      ·intro h;obtain⟨m,a6,e⟩:=bY7 h;refine cQm.mpr ⟨m,Y.mem_iff.mpr (bYO.mpr (by omega)),?_⟩;simp[bY4,bYh a6,e]
end
theorem y7.rows{H:Hp}{c:Nat}{e:List Nat}{R:Rows}(h:y7 H c e R):bZv H c e R.length (Bk.lk R) (Bk.dt R):=
 ⟨h.lst,h.len,λi b d=>by
  have g:i<R.length:=by rw[<- h.len];exact(bYu.mp d).1
  have a:=bYh g;obtain⟨j,f,k⟩:=h.row i b _ d a;exact⟨_,f,by rw[Bk.wZ a];rfl,by rw[Bk.vZ a];rfl⟩⟩
end Law
namespace Law
open PySem L2 PyProof.Rows
open Bk (Row Rows)
def uR(r:Row)(a:Nat):List V:= [.str r.way,.int r.date,.str r.partner,.int r.term,wM r.link,.str r.place,.bl r.void,.ref a]
theorem jU{r:Row}{a:Nat}{l:List Str}:HO.lst (uR r a)≠HO.lst (l.map V.str):=λz=>by
 injection z with z
 match l,z with
 |[],z=>cases z
 |[_],z=>injection z with _ z;cases z
 |_::_::_,z=>injection z with _ z;injection z with z _;cases z
theorem aQp{r:Row}{a:Nat}{l:List Nat}:HO.lst (uR r a)≠HO.lst (l.map V.ref):=λz=>by
 injection z with z
 match l,z with
 |[],z=>cases z
 |_::_,z=>injection z with z _;cases z
theorem y7.upd{H:Hp}{n:Nat}{p:List Nat}{R:Rows}{k:Nat}{b:Nat}{r:Row}(h:y7 H n p R)(o:p[k]? =some b)(v:R[k]? =some r)(f:Row->Row){l:Nat}(a:H l=some (.lst ((f r).copies.map V.str))):y7 (upd H b (.lst (uR (f r) l))) n p (Bk.xJ R k f):=by
 obtain⟨A,j,_⟩:=h.row k b r o v;have m:n≠b:=aQS h.lst j (bY0 aQp);refine⟨by rw[yI m];exact h.lst,by rw[Bk.zJ];exact h.len,h.nd,λi c q g d=>?_⟩;rw[Bk.zC]at d;by_cases e:i=k
 ·subst e;rw[o]at g;cases g;rw[if_pos rfl,v]at d;cases d;exact⟨l,yB,by rw[yI (aQS a j (bY0 jU))];exact a⟩
 ·rw[if_neg e]at d;obtain⟨y,x,t⟩:=h.row i c q g d;have s:c≠b:=λz=>by
   have w:=bYu.mp g;have u:=bYu.mp o;exact e ((cQ3 (h₀:=w.1) (h₁:=u.1) h.nd).mp (by rw[w.2,u.2];exact z))
  exact⟨y,by rw[yI s];exact x,by rw[yI (aQS t j (bY0 jU))];exact t⟩
def NoC(a:List Nat)(H:Hp)(s:Nat):Prop:=∀b∈a,∀l,H b=some (.lst l)->l[7]? ≠some (.ref s)
def But(a:List Nat)(H c:Hp):Prop:=(∀b o,b∉a->H b=some o->c b=some o)/\(∀b∈a,∃o,c b=some o)/\∀s u,H s=some u->NoC a H s->NoC a c s
theorem y7.dom{H:Hp}{f:Nat}{c:List Nat}{R:Rows}(h:y7 H f c R):∀b∈c,∃o,H b=some o:=λb j=>by
 obtain⟨i,a,e⟩:=bY7 j;have g:=bYh (show i<R.length by rw[<- h.len];exact a);obtain⟨k,d,_⟩:=h.row i b _ (by rw[bYh a,e]) g;exact⟨_,d⟩
theorem But.of{g:List Nat}{H f:Hp}(c:∀b∈g,∃o,H b=some o)(k:xA H f):But g H f:=⟨λb o _ e=>k b o e,λb a=>let ⟨o,e⟩:=c b a;⟨o,k _ _ e⟩,λs u e n b a l h=>by
 obtain⟨o,d⟩:=c b a;have:=k _ _ d;rw[h]at this;cases this;exact n b a l d⟩
theorem But.trans{d:List Nat}{H f h:Hp}(a:But d H f)(b:But d f h):But d H h:=⟨λc o n e=>b.1 c o n (a.1 c o n e),b.2.1,λs u e n=>by
 by_cases g:s∈d
 ·obtain⟨o,i⟩:=a.2.1 s g;exact b.2.2 s o i (a.2.2 s u e n)
 ·exact b.2.2 s u (a.1 s u g e) (a.2.2 s u e n)⟩
theorem But.upd{d:List Nat}{H:Hp}{k:Nat}{b:Nat}{l l':List V}(f:∀b∈d,∃o,H b=some o)(h:d[k]? =some b)(hl:H b=some (.lst l))(g:l'[7]? =l[7]?):But d H (upd H b (.lst l')):=
 ⟨λc u n e=>by rw[yI (λz=>n (by rw[z];exact bYA h))];exact e,λc a=>by
  by_cases z:c=b
  ·rw[z];exact⟨_,yB⟩
  ·rw[yI z];exact f c a,λs u e n c a x ex=>by
  by_cases z:c=b
  ·subst z;rw[yB]at ex;cases ex;rw[g];exact n c a l hl
  ·rw[yI z]at ex;exact n c a x ex⟩
abbrev bVb:Stmt:=xF "_law_lost"
inductive bZW(vs:List V)(H:Hp)(Q:VK)(_:XK):Prop|mk (ra:Nat) (rs:List Nat) (R:Rows) (k:Nat) (r:Row) (_:vs= [.ref ra,.int (k:Nat)]) (_:y7 H ra rs R) (_:R.length<=100) (_:R[k]? =some r) (_:∀ (H':Hp)(a:Str)(R':Rows),But rs H H'->y7 H' ra rs R'->((Bk.zO R k≠ []/\a="answered"/\R'=R)\/(Bk.zO R k= []/\a="void"/\R'=Bk.xJ R k λr=>{r with link:=none,void:=true}))->Q (.str a) H')
section
variable {K:bYk}
theorem bVo:yM ["_law_rows","_law_number","_law_one"] ["_law_rows","_law_number"] (yH bVb):=scM
theorem bJM(a:FnG P w K mg base 1 "_law_kids_of" ["_law_rows","_law_number"] aVE)(F:Fun K "_law_lost" "_law_lost" bVb f fd):y8 P w K mg base CX0 2 f fd ["_law_rows","_law_number"] bZW:=by
 have y:=bVo;refine F.ok (k:=1) y (λB A outer s H L Q E v h=>?_);obtain⟨x,I,R,k,r,rfl,d,hR,u,q⟩:=h;refine⟨_,(yC (yT (i:=2) (yL yK (pv 0) (pv 1))) (yC (y6 (yN (jB v.units0) (xK a v rfl (yA (pv 0) (yA (pv 1) yD))) (y3 yD)) (yF (yP yO)) yR) (yC (vP zB (qO (pv 2) yE zR)) (yC (vP qN (qO (pv 2) yE zR)) (yF (yP yO)))))),?_⟩;obtain⟨b,D,t,J,G,z⟩:=d.get u;refine⟨_,rfl,_,rfl,x,_,_,_,rfl,rfl,SqL.of d.lst,yS D,?_⟩;dsimp only[yW];refine⟨_,rfl,_,rfl,x,I,R,k,rfl,d,hR,λo m=>⟨z0,λpn n=>?_⟩⟩;have C:=yG m (.lst ((Bk.zO R k).map λi=>V.int (i:Nat)));have p:=yG n (.lst []);refine⟨o,pn,_,rfl,rfl,SqL.of (p _ _ yB),SqL.of yB,_,rfl,?_⟩;have kA:=C.trans p;generalize upd (upd H o (.lst ((Bk.zO R k).map λi=>V.int (i:Nat)))) pn (.lst [])=H2 at kA ⊢;have c:=d.same kA;cases g:Bk.zO R k with
 |cons j l=>exact onT rfl (q H2 _ R (But.of d.dom kA) c (.inl ⟨by rw[g];simp,rfl,rfl⟩))
 |nil=>refine onF rfl ?_;have e:=kA _ _ G;refine⟨_,rfl,b,_,4,4,rfl,rfl,e,rfl,?_⟩;refine⟨_,rfl,b,_,6,6,rfl,rfl,yB,rfl,?_⟩;rw[uU];exact q _ _ _ ((But.of d.dom kA).trans (But.upd c.dom t e rfl)) (c.upd t u (λr=>{r with link:=none,void:=true}) (kA _ _ z)) (.inr ⟨g,rfl,rfl⟩)
end
end Law
namespace Law
open PySem L2 PyProof.Rows
open Bk (Row Rows)
abbrev aYx:Stmt:=xF "_law_dated"
def aKb(R:Rows)(k:Nat)(r:Row)(d:Int):Prop:=(∃j,r.link=some j/\d<Bk.dt R j)\/∃c∈Bk.zO R k,Bk.dt R c<d
inductive aY9(vs:List V)(H:Hp)(Q:VK)(_:XK):Prop|mk (ra:Nat) (rs:List Nat) (R:Rows) (k:Nat) (r:Row) (d:Int) (_:vs= [.ref ra,.int (k:Nat),.int d]) (_:y7 H ra rs R) (_:R.length<=100) (_:R[k]? =some r) (_:(∀j,r.link=some j->j<R.length)) (_:∀ (H':Hp)(a:Str)(R':Rows),But rs H H'->y7 H' ra rs R'->((aKb R k r d/\a="too early"/\R'=R)\/(¬aKb R k r d/\a="dated"/\R'=Bk.xJ R k λr=>{r with date:=d}))->Q (.str a) H')
section
variable {K:bYk}
theorem bXR:yM ["_law_rows","_law_number","_law_date","_law_one","_law_k"] ["_law_rows","_law_number","_law_date"] (yH aYx):=scM
theorem bXh(g:FnG P w K mg base 1 "_law_kids_of" ["_law_rows","_law_number"] aVE)(F:Fun K "_law_dated" "_law_dated" aYx f fd):y8 P w K mg base CX0 2 f fd ["_law_rows","_law_number","_law_date"] aY9:=by
 have sc:=bXR;refine F.ok (k:=1) sc (λa0 A outer s H vs Q E hr h=>?_);obtain⟨y,rs,R,k,r,d,rfl,n,hR,hk,Z,q⟩:=h;refine⟨_,(yC (yT (i:=3) (yL yK (pv 0) (pv 1))) (yC (y6 (PW.pt (vQ (yN wG (yL yK (pv 3) yE) zB) (wV (yN vF (pv 2) (yL yK (yL yK (pv 0) (yL yK (pv 3) yE)) yE))))) (yF (yP yO)) yR) (yC (wE cQd rfl (xI (xK g hr rfl (yA (pv 0) (yA (pv 1) yD)))) (y9 (i:=4)) (yF (y6 (yN vF (yL yK (yL yK (pv 0) (pv 4)) yE) (pv 2)) (yF (yP yO)) yR))) (yC (vP (pv 2) (qO (pv 3) yE zR)) (yF (yP yO)))))),?_⟩;obtain⟨b,g1,g2,cp,Y,g4⟩:=n.get hk;refine⟨_,rfl,_,rfl,y,_,_,_,rfl,rfl,SqL.of n.lst,yS g1,?_⟩;dsimp only[yW];refine x8 (λI M=>I= [some (.ref y),some (.int (k:Nat)),some (.int d),some (.ref b),none]/\M=H/\∀j,r.link=some j->Bk.dt R j<=d) ?jT (λp=>?_);case jT=>
  rintro I M ⟨rfl,rfl,h1⟩;refine⟨_,rfl,_,rfl,y,rs,R,k,rfl,n,hR,λL U=>⟨L,rfl,⟨_,SqL.of yB⟩,?_⟩⟩;have kA:=yG U (.lst ((Bk.zO R k).map λi=>V.int (i:Nat)));have o:upd M L (.lst ((Bk.zO R k).map λi=>V.int (i:Nat))) L=some (.lst ((Bk.zO R k).map λi=>V.int (i:Nat))):=yB;generalize upd M L (.lst ((Bk.zO R k).map λi=>V.int (i:Nat)))=H2 at kA o ⊢;have m:=n.same kA;refine zK (xs:=(Bk.zO R k).map λi=>V.int (i:Nat)) (λt σ S=>∃O,σ= [some (.ref y),some (.int (k:Nat)),some (.int d),some (.ref b),O]/\S=H2/\∀u j,u<t->(Bk.zO R k)[u]? =some j->d<=Bk.dt R j) ?_ ?_ ?_ ?_
  ·exact⟨_,rfl,rfl,λu j C=>absurd C (cQ1 _)⟩
  ·rintro t σ S _ ⟨O,rfl,rfl,_⟩;exact SqL.of o
  ·rintro t x σ S J ⟨O,rfl,rfl,l⟩;rw[bYC]at J;cases N:(Bk.zO R k)[t]? with
   |none=>rw[N]at J;cases J
   |some j=>
    rw[N]at J;cases J;have D:=bYA N;have v:j<R.length:=bYO.mp (cQl.mp D).1;have a:=bYh v;obtain⟨T,W,j2,cj,X,j4⟩:=m.get a;dsimp only[yW];refine⟨_,rfl,_,rfl,y,_,_,_,rfl,rfl,SqL.of m.lst,yS W,T,_,1,_,rfl,rfl,SqL.of X,rfl,_,rfl,_,_,rfl,rfl,_,rfl,?_⟩;cases B:decide (R[j].date<d)with
    |true=>exact onT rfl (q _ _ R (But.of n.dom kA) m (.inl ⟨.inr ⟨j,D,by rw[Bk.wZ a];exact of_decide_eq_true B⟩,rfl,rfl⟩))
    |false=>
     refine onF rfl ⟨_,rfl,rfl,λu i C z=>?_⟩;by_cases e:u=t
     ·subst e;rw[N]at z;cases z;rw[Bk.wZ a];have:=of_decide_eq_false B;omega
     ·exact l u i (by omega) z
  ·rintro σ S ⟨O,rfl,rfl,l⟩;rw[bYo]at l;have G:=kA _ _ Y;refine⟨_,rfl,_,rfl,b,_,1,1,rfl,rfl,G,rfl,?_⟩;refine q _ _ _ ((But.of n.dom kA).trans (But.upd m.dom g2 G rfl)) (m.upd g2 hk (λr=>{r with date:=d}) (kA _ _ g4)) (.inr ⟨?_,rfl,rfl⟩);rintro(⟨j,e1,e2⟩|⟨c,hc,e2⟩)
   ·have:=h1 j e1;omega
   ·obtain⟨u,C,e⟩:=bY7 hc;have:=l u c C (by rw[bYh C,e]);omega
 refine⟨_,rfl,b,_,4,_,rfl,rfl,SqL.of Y,rfl,rfl,_,rfl,?_⟩;cases hl:r.link with
 |none=>exact onF rfl (onF rfl (p _ _ ⟨rfl,rfl,λj hj=>by rw[hl]at hj;cases hj⟩))
 |some j=>
  have v:=Z j hl;have a:=bYh v;obtain⟨T,W,j2,cj,X,j4⟩:=n.get a;refine onT rfl ⟨_,rfl,_,rfl,_,rfl,b,_,4,_,rfl,rfl,SqL.of Y,rfl,?_⟩;rw[hl];refine⟨y,_,_,_,rfl,rfl,SqL.of n.lst,yS W,T,_,1,_,rfl,rfl,SqL.of X,rfl,_,_,rfl,rfl,_,rfl,?_⟩;cases B:decide (d<R[j].date)with
  |true=>exact onT rfl (q _ _ R (But.of n.dom (xA.refl _)) n (.inl ⟨.inl ⟨j,hl,by rw[Bk.wZ a];exact of_decide_eq_true B⟩,rfl,rfl⟩))
  |false=>exact onF rfl (p _ _ ⟨rfl,rfl,λi z=>by rw[hl]at z;cases z;rw[Bk.wZ a];have:=of_decide_eq_false B;omega⟩)
end
end Law
namespace Law
open PySem L2 PyProof.Rows
open Bk (Row Rows xY xV Ans)
abbrev bJ9:Stmt:=xF "_law_hung"
inductive bZV(vs:List V)(H:Hp)(Q:VK)(_:XK):Prop|mk (ra:Nat) (rs:List Nat) (R:Rows) (m o:Int) (_:vs= [.ref ra,.int m,.int o]) (_:y7 H ra rs R) (_:R.length<=60) (_:Bk.uW R) (_:∀ (H':Hp)(a:Str)(R':Rows),But rs H H'->y7 H' ra rs R'->(∀S,xY R S (.hang m o) (.txt a) R' S)->Q (.str a) H')
theorem aQo{r:Row}{b:Nat}{l:List Nat}:HO.lst (uR r b)≠HO.lst (l.map λi=>V.int (i:Nat)):=λz=>by
 injection z with z
 cases l with
 |nil=>cases z
 |cons a l=>cases z
theorem aQa(R:Rows)(l:List Nat)(k:Nat)(name:Str):Bk.laid R (l++ [k]) name=Bk.xJ (Bk.laid R l name) k λr=>{r with place:=name}:=by
 unfold Bk.laid;rw[cJt];rfl
theorem wO{a b:Str}:decide (V.str a=V.str b)=decide (a=b):=by rw[Bool.eq_iff_iff];simp
theorem aV3{a b:Nat}:decide (V.int (a:Nat)=V.int (b:Nat))=decide (a=b):=by rw[Bool.eq_iff_iff];simp;omega
section
variable {K:bYk}
theorem aVb{K:bYk}{H:Hp}{n l:Nat}{d:List Nat}{R:Rows}{a:List Nat}{name:Str}{t:Nat}{k:Nat}(h:y7 H n d (Bk.laid R (a.take t) name))(p:a[t]? =some k)(e:k<R.length)(hl:H l=some (.lst (a.map λi=>V.int (i:Nat)))): ∃ (b c:Nat)(r:Row),(d.map V.ref)[k]? =some (.ref b)/\H b=some (.lst (uR r c))/\y7 (upd H b (.lst (uR {r with place:=name} c))) n d (Bk.laid R (a.take (t+1)) name)/\But d H (upd H b (.lst (uR {r with place:=name} c)))/\upd H b (.lst (uR {r with place:=name} c)) l=some (.lst (a.map λi=>V.int (i:Nat)))/\b∈d:=by
 have f:k<(Bk.laid R (a.take t) name).length:=by rw[Bk.wK];exact e
 have m:=bYh f;obtain⟨b,q,g,c,j,o⟩:=h.get m;refine⟨b,c,_,q,j,?_,But.upd h.dom g j rfl,?_,bYA g⟩
 ·rw[show a.take (t+1)=a.take t++ [k]from by rw[cQw,p];rfl,aQa];exact h.upd g m (λr=>{r with place:=name}) o
 ·rw[yI (aQS hl j (bY0 aQo))];exact hl
theorem bVm:yM ["_law_rows","_law_number","_law_goal","_law_one","_law_other","_law_k","_law_row"] ["_law_rows","_law_number","_law_goal"] (yH bJ9):=scM
theorem bJK(y:FnG P w K mg base 2 "_law_good" ["_law_rows","_law_number"] Z4)(a:FnG P w K mg base 2 "_law_family" ["_law_rows","_law_number"] J8)(F:Fun K "_law_hung" "_law_hung" bJ9 f fd):y8 P w K mg base CX0 3 f fd ["_law_rows","_law_number","_law_goal"] bZV:=by
 have sc:=bVm;refine F.ok (k:=2) sc (λb7 A outer s H vs Q E hr h=>?_);obtain⟨J,N,R,m,o,rfl,B,hR,hT,q⟩:=h;refine⟨_,(yC (y6 (PW.pt (W0 (uC (x6 (xK y hr rfl (yA (pv 0) (yA (pv 1) yD))))) (jN (uC (x6 (xK y hr rfl (yA (pv 0) (yA (pv 2) yD)))))))) (yF (yP yO)) yR) (yC (yT (i:=3) (yL yK (pv 0) (pv 1))) (yC (yT (i:=4) (yL yK (pv 0) (pv 2))) (yC (y6 (yN wG (yL yK (pv 3) yE) zB) (yF (yP yO)) yR) (yC (y6 (yN x9 (yL yK (xK a hr rfl (yA (pv 0) (yA (pv 2) yD))) yE) (pv 1)) (yF (yP yO)) yR) (yC (y6 (yN x9 (yL yK (pv 3) yE) (yL yK (pv 4) yE)) (yF (yP yO)) yR) (yC (y6 (yN aZt (yL yK (pv 3) yE) (yL yK (pv 4) yE)) (yF (yP yO)) yR) (yC (y6 (yN vF (yL yK (pv 3) yE) (yL yK (pv 4) yE)) (yF (yP yO)) yR) (yC (wE cQd rfl (xI (xK a hr rfl (yA (pv 0) (yA (pv 1) yD)))) (y9 (i:=5)) (yC (yT (i:=6) (yL yK (pv 0) (pv 5))) (yF (vP (yL yK (pv 4) yE) (qO (pv 6) yE zR))))) (yC (vP (pv 2) (qO (pv 3) yE zR)) (yF (yP yO)))))))))))),?_⟩;have v:But N H H:=But.of B.dom (xA.refl _);refine⟨_,rfl,_,rfl,J,N,R,m,rfl,B,_,rfl,?_⟩;cases h1:Bk.wI R m with
 |false=>exact onT rfl (onT rfl (q H _ R v B λS=> .hangN (.inl h1)))
 |true=>
 refine onF rfl ⟨_,rfl,_,rfl,J,N,R,o,rfl,B,_,rfl,?_⟩;cases h2:Bk.wI R o with
 |false=>exact onT rfl (q H _ R v B λS=> .hangN (.inr h2))
 |true=>
 obtain⟨i,r,rfl,G,L,hv⟩:=Bk.z6 h1;obtain⟨j,p,rfl,D,M,hw⟩:=Bk.z6 h2;obtain⟨b,g1,g2,cp,g3,g4⟩:=B.get L;obtain⟨b2,f1,f2,b5,f3,f4⟩:=B.get M;refine onF rfl ⟨_,rfl,_,rfl,J,_,_,_,rfl,rfl,SqL.of B.lst,yS g1,?_⟩;dsimp only[yW];refine⟨_,rfl,_,rfl,J,_,_,_,rfl,rfl,SqL.of B.lst,yS f1,?_⟩;dsimp only[yW];refine⟨_,rfl,b,_,4,_,rfl,rfl,SqL.of g3,rfl,rfl,_,rfl,?_⟩;cases u:r.link with
 |some x=>exact onT rfl (q H _ R v B λS=> .hangH L hv M hw (by rw[u];simp))
 |none=>
 obtain⟨rk,ok⟩:=hT;have hT:Bk.uW R:=⟨rk,ok⟩;refine onF rfl ⟨_,rfl,_,rfl,J,N,R.length,Bk.lk R,rk,Bk.dt R,j,rfl,B.rows,ok,hR,D,λH1 l out k1 nl hl hp hm=>?_⟩;have et:=Bk.aZP D ⟨rk,ok,hp,hm⟩;subst et;obtain⟨_,_,a8⟩:=Bk.jG hT D;obtain⟨hd,X⟩:∃hd,(Bk.thr R j).head? =some hd:=⟨_,a8⟩;have e0:(((Bk.thr R j).map λi=>V.int (i:Nat)))[0]? =some (.int (hd:Nat)):=by rw[bYC,<- List.head?_eq_getElem?,X];rfl
 have g:=B.same k1;have O:=k1 _ _ g3;have W:=k1 _ _ f3;have n:But N H H1:=But.of B.dom k1;refine⟨l,_,0,_,rfl,rfl,SqL.of hl,yS e0,_,rfl,rfl,_,rfl,?_⟩;rw[aV3];refine qD (λc=>?_) (λc=>?_)
 ·have e:hd=i:=of_decide_eq_true c;exact q H1 _ R n g λS=> .hangO L hv M hw u (by rw[X,e])
 have C:(Bk.thr R j).head? ≠some i:=λz=>c (decide_eq_true (by rw[X]at z;exact bYD z));refine⟨_,rfl,b,_,0,_,rfl,rfl,SqL.of O,rfl,_,rfl,b2,_,0,_,rfl,rfl,SqL.of W,rfl,rfl,_,rfl,?_⟩;rw[wO];refine qD (λc1=>?_) (λc1=>?_)
 ·exact q H1 _ R n g λS=> .hangW L hv M hw u C (of_decide_eq_true c1)
 have h3:=of_decide_eq_false (Bool.eq_false_iff.mpr c1);refine⟨_,rfl,b,_,2,_,rfl,rfl,SqL.of O,rfl,_,rfl,b2,_,2,_,rfl,rfl,SqL.of W,rfl,rfl,_,rfl,?_⟩;rw[wO];cases a1:decide (r.partner=p.partner)with
 |false=>exact onT rfl (q H1 _ R n g λS=> .hangP L hv M hw u C h3 (of_decide_eq_false a1))
 |true=>
 have h4:=of_decide_eq_true a1;refine onF rfl ⟨_,rfl,b,_,1,_,rfl,rfl,SqL.of O,rfl,_,rfl,b2,_,1,_,rfl,rfl,SqL.of W,rfl,_,_,rfl,rfl,_,rfl,?_⟩;refine qD (λc2=>?_) (λc2=>?_)
 ·exact q H1 _ R n g λS=> .hangE L hv M hw u C h3 h4 (of_decide_eq_true c2)
 have h5:p.date<=r.date:=by have:=of_decide_eq_false (Bool.eq_false_iff.mpr c2);omega
 refine⟨_,rfl,_,rfl,J,N,R.length,Bk.lk R,rk,Bk.dt R,i,rfl,g.rows,ok,hR,G,λH2 l2 b4 k2 b6 a0 a4 T=>⟨l2,rfl,⟨_,SqL.of a0⟩,?_⟩⟩;have a3:=Bk.aZP G ⟨rk,ok,a4,T⟩;subst a3;have b8:i≠j:=λz=>by subst z;have Z:=Bk.jG hT G;obtain⟨a7,o2,U⟩:=Z;rw[Fm.zT (by rw[Bk.vZ L];exact u)]at U;exact C U
 have a5:j∉Bk.thr R i:=λz=>by have Z:=(T j).mp z;rw[Fm.zT (i:=i) (by rw[Bk.vZ L];exact u)]at Z;obtain⟨a7,o2,U⟩:=Bk.jG hT D;rw[Fm.qA o2 ok D,Z.2]at U;exact C U
 refine zK (xs:=(Bk.thr R i).map λi=>V.int (i:Nat)) (λt σ Y=>∃o5 o6:Option V,σ= [some (.ref J),some (.int (i:Nat)),some (.int (j:Nat)),some (.ref b),some (.ref b2),o5,o6]/\y7 Y J N (Bk.laid R ((Bk.thr R i).take t) p.place)/\But N H2 Y/\Y l2=some (.lst ((Bk.thr R i).map λi=>V.int (i:Nat)))) ?_ ?_ ?_ ?_
 ·exact⟨none,none,rfl,g.same k2,But.of (g.same k2).dom (xA.refl _),a0⟩
 ·rintro t σ Y ht ⟨o5,o6,rfl,d,k3,I⟩;exact SqL.of I
 ·rintro t x σ Y hx ⟨o5,o6,rfl,d,k3,I⟩;rw[bYC]at hx;cases hc:(Bk.thr R i)[t]? with
  |none=>rw[hc]at hx;cases hx
  |some k=>
   rw[hc]at hx;cases hx;have b1:k<R.length:=((T k).mp (bYA hc)).1;obtain⟨bk,ck,b9,Z,U,e3,e4,e5,e6⟩:=aVb (K:=K) d hc b1 I;have b0:(Bk.laid R ((Bk.thr R i).take t) p.place)[j]? =some p:=by rw[Bk.vY,if_neg (λz=>a5 (List.mem_of_mem_take z))];exact M
   obtain⟨b3,d1,d2,a9,d3,d4⟩:=d.get b0;obtain rfl:b2=b3:=bYD (f2.symm.trans d2);dsimp only[yW];refine⟨_,rfl,_,rfl,J,_,_,_,rfl,rfl,SqL.of d.lst,yS Z,?_⟩;dsimp only[yW];exact⟨_,rfl,b2,_,5,_,rfl,rfl,SqL.of d3,rfl,_,rfl,bk,_,5,5,rfl,rfl,U,rfl,_,_,rfl,e3,k3.trans e4,e5⟩
 ·rintro σ Y ⟨o5,o6,rfl,d,k3,I⟩;rw[bYo,cQn]at d;have a6:i<(Bk.laid R (Bk.thr R i) p.place).length:=by rw[Bk.wK];exact G
  have a2:=bYh a6;obtain⟨b',d1,d2,a9,d3,d4⟩:=d.get a2;obtain rfl:b=b':=bYD (g2.symm.trans d2);refine⟨_,rfl,_,rfl,b,_,4,4,rfl,rfl,d3,rfl,?_⟩;refine q _ _ _ ((n.trans ((But.of g.dom k2).trans k3)).trans (But.upd d.dom d2 d3 rfl)) (d.upd d2 a2 (λr=>{r with link:=some j}) d4) λS=> .hang L hv M hw u C h3 h4 h5
end
end Law
namespace L2
open PySem
def tbV:Option Nat->bYi
 |none=> .none
 |some T=> .ref T
structure qS(h:Heap)(e:Nat)(cls:bYi)(dx:Option Nat)(tb:Option Nat):Prop where
 obj:∃oe vs,h.get? e=some oe/\oe.cls=cls/\oe.dict=dx/\oe.data= .fields vs/\vs[1]? =some (tbV tb)
 ent:∀T,tb=some T->T≠e/\∃oT ts,h.get? T=some oT/\oT.data= .fields ts/\ts[3]? =some .none
theorem qS.keeps{h h':Heap}{e:Nat}{cls:bYi}{dx tb:Option Nat}(x:qS h e cls dx tb)(k:∀b o,(b=e\/tb=some b)->h.get? b=some o->h'.get? b=some o):qS h' e cls dx tb:=by
 obtain⟨a,p,r,l,f,i,q⟩:=x.obj;refine⟨⟨a,p,k e a (.inl rfl) r,l,f,i,q⟩,λT d=>?_⟩;obtain⟨ne,c,g,m,j,n⟩:=x.ent T d;exact⟨ne,c,g,k T c (.inr d) m,j,n⟩
structure bKd(fs:List Nat)(e:Nat)(tb:Option Nat)(h h':Heap):Prop where
 keep:∀b o,b≠e->tb≠some b->b∉fs->h.get? b=some o->h'.get? b=some o
 slot:∀b o,b≠e->tb≠some b->h.get? b=some o->∃sl,h'.get? b=some {o with slots:=sl}
 there:∀b o,h.get? b=some o->∃o',h'.get? b=some o'
theorem aQR(f:Array bYi->Array bYi)(o:Obj):(o.mapFields f).dict=o.dict:=by
 obtain⟨c,d,dt,a⟩:=o;cases dt<;> rfl
section
variable {M:Model}{A:bYW}{E:bYi->bYl->Prop}{s:bYl}{base:Heap}{env:Env}{outer:List Env}{L e:Nat}{cls:bYi}{dx tb:Option Nat}
theorem aKY{a:Obj}{vs:Array bYi}(hl:s.heap.FunFrames base (env::outer))(f:s.heap.get? e=some a)(c:a.data= .fields vs):e∉(env::outer).filterMap (·.frame):=λd=>by
 obtain⟨_,o,b,g⟩:=hl.mem d;rw[f]at b;cases b;exact g vs c
theorem aX4{head:bYi}{y:Bool}{Q:Unit->bYl->Prop}{i:Obj}{vs:Array bYi}(v:A.frames=some (env::outer))(hl:s.heap.FunFrames base (env::outer))(I:env.frame=some L)
  (C:s.heap.get? e=some i) (m:i.data= .fields vs) (hz:1<vs.size)
  (h:∀w T,qS w e i.cls i.dict (some T)->s.heap.objs.size<=T->bKd ((env::outer).filterMap (·.frame)) e none s.heap w->Q () {s with heap:=w}):
  bYq M A (do let fr <- frameOf env;let place <- entryPlaceOf L y;let en <- EntryCells.newEntry head fr .none (cQy L) .none place;setField (.ref e) 1 en) (λ_ K=>bYq M A (cZp (.ref e) none) Q E K) E s:=by
 have n:=aKY hl C m
 refine bYj (wpAny_frameOf_fun v hl I λa d=>?_)
 refine bYj (wpAny_entryPlaceOf λplace H=>?_)
 unfold EntryCells.newEntry newFields
 refine bYj (cXe ?_ (H.sizeOk5 _ _ _ _ _))
 have z:a.get? e=some i:=(d.2.1 e n).trans C
 generalize p:({cls:= .type "traceback",dict:=none,data:= .fields ([head,.ref L,.none,cQy L,.none]++(if place.isEmpty then cXO 6 Value.none else place)).toArray}:Obj)=ob
 have c:ob.data= .fields ([head,.ref L,.none,cQy L,.none]++(if place.isEmpty then cXO 6 Value.none else place)).toArray:=by rw[<- p]
 have k:ob.isFreed=false:=cQE c
 have D:(a.push ob).get? e=some i:=bYm ob z
 have l:a.objs.size≠e:=cXU (bYw z)
 refine cXl D m hz ?_
 have d3:=cQH m (·.setIfInBounds 1 (Value.ref a.objs.size))
 have u:=cQk (cQx (·.setIfInBounds 1 (Value.ref a.objs.size))) D (cQE d3)
 have B:=(bYP (a.push ob) (cQx (·.setIfInBounds 1 (Value.ref a.objs.size))) (bY0 l)).trans (bYL a k)
 have j:3<([head,.ref L,.none,cQy L,.none]++(if place.isEmpty then cXO 6 Value.none else place)).toArray.size:=by simp
 unfold cZp
 refine bYj (wpAny_field u d3 (x:= .ref a.objs.size) (by simp[hz]) ?_)
 rw[if_pos (show(Value.ref a.objs.size !=Value.none)=true from by simp)]
 refine cXl B c j (h _ a.objs.size ?_ ?_ ?_)
 ·refine⟨⟨_,_,(bYP _ _ l).trans u,Obj.cls_mapFields _ _,aQR _ _,d3,by simp[tbV,hz]⟩,λT J=>?_⟩;cases J;refine⟨l,_,_,cQk _ B (cQE (cQH c _)),cQH c _,?_⟩;rw[Array.getElem?_setIfInBounds_self_of_lt j];rfl
 ·exact cXS d.1.symm
 ·have r:∀b o,b≠e->a.get? b=some o->(((a.push ob).update e (cQx (·.setIfInBounds 1 (Value.ref a.objs.size)))).update a.objs.size (cQx (·.setIfInBounds 3 ((none:Option Nat).elim Value.none λf=>cQy f)))).get? b=some o:=λb o g q=>by
   rw[bYP _ _ (cXU (bYw q)),bYP _ _ (bY0 g)];exact bYm _ q
  refine⟨λb o g _ G q=>r b o g ((d.2.1 b G).trans q),λb o g _ q=>?_,λb o q=>?_⟩
  ·obtain⟨F,t⟩:=d.2.2 b o q;exact⟨F,r b _ g t⟩
  ·by_cases g:b=e
   ·subst g;exact⟨_,(bYP _ _ l).trans u⟩
   ·obtain⟨F,t⟩:=d.2.2 b o q;exact⟨_,r b _ g t⟩
theorem aVf{Q:Unit->bYl->Prop}(g:A.frames=some (env::outer))(hl:s.heap.FunFrames base (env::outer))(t:env.frame=some L)(x:qS s.heap e cls dx tb) (h:∀i T,qS i e cls dx (some T)->s.heap.objs.size<=T->bKd ((env::outer).filterMap (·.frame)) e tb s.heap i->Q () {s with heap:=i}): bYq M A (cZJ (.ref e) env) (λ_ J=>bYq M A (cZp (.ref e) none) Q E J) E s:=by
 obtain⟨K,w,u,H,F,r,B⟩:=x.obj;subst H F;have C:=(cXG.mp B).1;unfold cZJ;simp only[t];refine bYj (wpAny_field u r B ?_);cases tb with
 |none=>rw[if_neg (by decide)];exact aX4 g hl t u r C h
 |some T=>
  obtain⟨ne,N,G,k,j,v⟩:=x.ent T rfl;rw[if_pos (show(tbV (some T) !=Value.none)=true from by simp[tbV])];refine bYj (wpAny_field k j v ?_);rw[if_neg (show ¬ ((Value.none==cQy L)=true)from by simp[cQy])];refine bYj (cXl k j (cXG.mp v).1 ?_);have f:∀b,b≠T->(s.heap.update T (cQx (·.setIfInBounds 3 Value.none))).get? b=s.heap.get? b:=λb l=>bYP _ _ (bY0 l);have m:∀b o,s.heap.get? b=some o->(∀w,o.data≠ .fields w)->b≠T:=λb o q n z=>by rw[z,k]at q;cases q;exact n G j
  refine aX4 (s:={s with heap:=s.heap.update T (cQx (·.setIfInBounds 3 Value.none)) }) g (hl.of_keeps λb o q n=>⟨o,(f b (m b o q n)).trans q,rfl⟩) t ((f e (bY0 ne)).trans u) r C λi D y I p=>h i D y ?_ ⟨λb o a c d q=>?_,λb o a c q=>?_,λb o q=>?_⟩
  ·rw[<- Heap.size_after_update s.heap T (cQx (·.setIfInBounds 3 Value.none))];exact I
  ·exact p.keep b o a (by simp) d ((f b λz=>c (by rw[z])).trans q)
  ·exact p.slot b o a (by simp) ((f b λz=>c (by rw[z])).trans q)
  ·by_cases l:b=T
   ·subst l;exact p.there _ _ (cQk _ k (cQE (cQH j _)))
   ·exact p.there b o ((f b l).trans q)
theorem aKO{Q:Unit->bYl->Prop}(b:A.frames=some (env::outer))(hl:s.heap.FunFrames base (env::outer))(c:env.frame=some L)(x:qS s.heap e cls dx tb) (h:∀a T,qS a e cls dx (some T)->s.heap.objs.size<=T->bKd ((env::outer).filterMap (·.frame)) e tb s.heap a->Q () {s with heap:=a}):bYq M A (leaving env (.ref e)) Q E s:=by
 unfold leaving;exact bYj (aVf b hl c x h)
theorem bQV{T:Nat}{Q:Unit->bYl->Prop}(x:qS s.heap e cls dx (some T)) (h:∀d,qS d e cls dx (some T)->(∀b o,b≠T->s.heap.get? b=some o->d.get? b=some o)->(∀b o,s.heap.get? b=some o->∃w,d.get? b=some w)->Q () {s with heap:=d}):bYq M A (cZp (.ref e) none) Q E s:=by
 obtain⟨p,v,m,r,n,g,k⟩:=x.obj;obtain⟨ne,B,z,j,f,u⟩:=x.ent T rfl;have l:=(cXG.mp u).1;have i:=cQk (cQx (·.setIfInBounds 3 Value.none)) j (cQE (cQH f _));have a:∀b,b≠T->(s.heap.update T (cQx (·.setIfInBounds 3 Value.none))).get? b=s.heap.get? b:=λb c=>bYP _ _ (bY0 c);refine wpAny_setFlight_none m g k j f l (h _ ⟨⟨p,v,(a e (bY0 ne)).trans m,r,n,g,k⟩,λy t=>?_⟩ (λb o c q=>(a b c).trans q) λb o q=>?_)
 ·cases t;exact⟨ne,_,_,i,cQH f _,by simp[l]⟩
 ·by_cases c:b=T
  ·subst c;exact⟨_,i⟩
  ·exact⟨o,(a b c).trans q⟩
end
end L2
namespace L2
open PySem PySem.W PySem.Calls PyProof.Rows Builtin Builtin.ObjectAttr
def jL:List bYi:= [.type "Exception",.type "BaseException",.type "object"]
def aZ9:List bYi->Bool
 |.ref _::r=>aZ9 r
 |l=>l==jL
theorem aW5:∀l:List bYi,aZ9 l=true->∃a:List Nat,l=a.map Value.ref++jL:=by
 intro l;induction l with
 |nil=>intro e;cases e
 |cons v r b=>
  intro e;cases v with
  |ref c=>obtain⟨a,h⟩:=b e;exact⟨c::a,by rw[h];rfl⟩
  |_=>exact⟨[],beq_iff_eq.mp e⟩
theorem aQJ(self:bYi):∀rs:List Nat,refuseLoop self "__setattr__" (rs.map Value.ref++jL)=pure ()
 |[]=>PySem.F.store_Exception.passes self
 |c::rs=>by rw[bY2,cZT,refuseLoop_ref];exact aQJ self rs
theorem aVM{T:String}{b:Bool}(h:jL.contains (.type T)=b):∀rs:List Nat,(rs.map Value.ref++jL).contains (.type T)=b
 |[]=>h
 |c::rs=>by rw[bY2,cZT,cXA,aVM h rs];rfl
def bQJ(K:Frag)(C:Nat):Bool:=match K.lookup C with
 |some ⟨_,_,.cls cd,sl⟩=> !cd.hasDel && cd.hasDict && (sl.toList[4]?).join==some (.builtin "Exception.__new__") && aZ9 cd.mro && cd.mro.contains (.ref C) &&
   specialIn K (.ref C) "__call__"==some (some (.builtin "type.__call__")) && instIn K (.ref C) (.type "type")==some true && typeIn K (.ref C)==some (.type "type") &&
   findIn K (.ref C) "__setattr__"==some (some (.builtin "object.__setattr__")) && findIn K (.ref C) "__getattribute__"==some (some (.builtin "BaseException.__getattribute__")) &&
   findIn K (.ref C) "__getattr__"==some none && findIn K (.ref C) "words"==some none
 |_=>false
structure vS(K:Frag)(C:Nat):Prop where
 cls:∃oc od cd sl,K.lookup C=some ⟨oc,od,.cls cd,sl⟩/\cd.hasDel=false/\cd.hasDict=true/\(sl.toList[4]?).join=some (.builtin "Exception.__new__")/\(∃rs:List Nat,cd.mro=rs.map Value.ref++jL)/\cd.mro.contains (.ref C)=true
 call:specialIn K (.ref C) "__call__"=some (some (.builtin "type.__call__"))
 typ:instIn K (.ref C) (.type "type")=some true
 ty:typeIn K (.ref C)=some (.type "type")
 sa:findIn K (.ref C) "__setattr__"=some (some (.builtin "object.__setattr__"))
 ga:findIn K (.ref C) "__getattribute__"=some (some (.builtin "BaseException.__getattribute__"))
 gh:findIn K (.ref C) "__getattr__"=some none
 wd:findIn K (.ref C) "words"=some none
theorem aKu{K:Frag}{C:Nat}(e:bQJ K C=true):vS K C:=by
 unfold bQJ at e;split at e
 ·rename_i g i h p n;simp only[Bool.and_eq_true,Bool.not_eq_true',beq_iff_eq]at e;obtain⟨⟨⟨⟨⟨⟨⟨⟨⟨⟨⟨d,o⟩,r⟩,m⟩,f⟩,q⟩,j⟩,l⟩,k⟩,b⟩,a⟩,c⟩:=e;exact⟨⟨g,i,h,p,n,d,o,r,aW5 _ m,f⟩,q,j,l,k,b,a,c⟩
 ·cases e
abbrev wA(C t:Nat)(dx:Option Nat):Obj:={cls:= .ref C,dict:=dx,data:= .fields #[.ref t,.none,.none,.none,.bool false,.none] }
abbrev Z1:Obj:={cls:= .type "tuple",data:= .seq #[] }
section
variable {M:Model}{K:Frag}{C:Nat}{h:Heap}
theorem vS.sub(X:K.In h)(c:vS K C){T:String}{b:Bool}(g:jL.contains (.type T)=b):Looks M h (cZn (.ref C) (.type T)) b:=by
 obtain⟨l,j,f,n,d,i,k,o,⟨p,a⟩,m⟩:=c.cls;have e:clsIn K C=some f:=by unfold clsIn;rw[d]
 refine looks_mroIn X ?_;unfold mroIn;rw[e,Option.bind_some,a,if_neg (by simp[jL]),aVM g]
theorem vS.self(X:K.In h)(c:vS K C):Looks M h (cZn (.ref C) (.ref C)) true:=by
 obtain⟨k,i,f,l,b,g,j,m,⟨n,a⟩,d⟩:=c.cls;have e:clsIn K C=some f:=by unfold clsIn;rw[b]
 refine looks_mroIn X ?_;unfold mroIn;rw[e,Option.bind_some,if_neg (by rw[a];simp[jL]),d]
theorem vS.made(X:K.In h)(c:vS K C):Looks M h (Bind.madeBy (.ref C)) (some "Exception.__new__"):=by
 obtain⟨j,m,a,r,d,i,p,g,⟨n,o⟩,b⟩:=c.cls;have f:clsIn K C=some a:=by unfold clsIn;rw[d]
 have e:Looks M h (mroOf (.ref C)) a.mro:=(looks_clsIn X f).andThen .now;obtain⟨v,l,hl⟩:∃v l,a.mro=v::l:=by
  cases q:a.mro with
  |nil=>rw[q]at b;cases b
  |cons v l=>exact⟨v,l,rfl⟩
 intro A Q E s k q;unfold Bind.madeBy;refine bYj (e A _ E s k ?_);rw[hl,cZ0];refine bYj (bYj (bYj (bYj (wpAny_loadPart (k _ _ (X _ _ d)) (bYn ?_)))));dsimp only;rw[<- cQP,g];exact bYn (bYn (bYn q))
theorem vS.base(X:K.In h)(c:vS K C):Looks M h (Bind.staticBase (.ref C)) (.ref C):=by
 have made:=c.made (M:=M) X;obtain⟨i,j,a,p,f,g,o,r,⟨m,n⟩,b⟩:=c.cls;have e:clsIn K C=some a:=by unfold clsIn;rw[f]
 have d:Looks M h (mroOf (.ref C)) a.mro:=(looks_clsIn X e).andThen .now;obtain⟨v,l,hl⟩:∃v l,a.mro=v::l:=by
  cases q:a.mro with
  |nil=>rw[q]at b;cases b
  |cons v l=>exact⟨v,l,rfl⟩
 intro A Q E s k q;unfold Bind.staticBase;refine bYj (d A _ E s k ?_);rw[hl,cZ0];exact bYj (bYj (bYj (made A _ E s k (bYn (bYn (bYn q))))))
theorem vS.here(X:K.In h)(c:vS K C):Looks M h (Bind.madeHere "BaseException.__new__" (.ref C)) ():=
 (c.base X).andThen ((c.made X).andThen (Looks.of_pure (by simp only[Option.map_some,cJB.canon,bne_self_eq_false,Bool.false_eq_true,if_false])))
end
section
variable {prog:bYE}{w:bYK}{A:bYW}{R:Result->bYl->Prop}{K:Frag}{C f:Nat}{h:Heap}{g:Array GenState}{d:Drawn}{t:Nat}{os:OsState}
theorem bJj(X:K.In h)(c:vS K C)(o:R (.ok (.ret (.ref (h.objs.size+1)))) ⟨(h.push Z1).push (wA C h.objs.size none),g,d,t,os⟩): cXw (bYs prog w) A (.call (.builtin "Exception.__new__") ⟨[.ref C],[]⟩) R ⟨h,g,d,t,os⟩:=by
 have F:=cJB;have made:=c.made (M:=bYs prog w) X;have k:=c.base (M:=bYs prog w) X;have here:=c.here (M:=bYs prog w) X;have s:Looks (bYs prog w) h (cZn (.ref C) (.type "Exception")) true:=c.sub X dk;have v:Looks (bYs prog w) h (cZn (.ref C) (.type "AttributeError")) false:=c.sub X dk;have r:Looks (bYs prog w) h (cZn (.ref C) (.type "NameError")) false:=c.sub X dk;obtain⟨i,l,j,n,m,f,y,z,⟨u,x⟩,q⟩:=c.cls;have e:h.get? C=some ⟨i,l,.cls j,n⟩:=X _ _ m;refine codeAny_call_builtin_code (cJk _ F.quiet) ?_;simp only[checkBuiltinCall,F.newKind,F.newSplit,F.newRow];have args:Bind.checkArgs "Exception.__new__" ⟨.any,"Exception","Exception",.cls,[⟨"args",.varPos,false⟩,⟨"kwargs",.varKw,false⟩]⟩ ⟨[.ref C],[]⟩=pure ():=by kernel_rfl
 rw[args];repeat (first|simp only[bne_self_eq_false,Bool.false_eq_true,if_false]|lk)
 have b:=F.ends;refine codeAny_builtinAt F.entry ?_;unfold cQ2.«BaseException.__new__»;refine PySem.wpAt_bind ?_;show PySem.wpAt _ _ _ (stack >>=_) _ _ _;refine PySem.wpAt_bind (PySem.wpAt_stack λp a=>PySem.wpAt_of_wpAny ?_);wp_walk;refine PySem.wpAt_of_wpAny ?_;rw[F.owner];repeat (first|simp only[Bool.not_true,Bool.false_eq_true,if_false]|lk)
 refine nd_load (bYm _ (bYm _ e)) (bYn ?_);dsimp only;refine bYn ?_;rw[f];refine bYn (bYn ?_);show R _ _;rw[cQQ];exact o
theorem bQK(X:K.In h)(c:vS K C)(x:findIn K (.ref C) "__init__"=some (some (.ref f)))(p:typeIn K (.ref f)=some (.type "function")) (D:cXw (bYs prog w) (A.under (.builtin "type.__call__" ⟨[.ref C],[]⟩)) (.call (.ref f) ⟨[.ref (h.objs.size+1)],[]⟩) (InitBack (h.objs.size+1) R) ⟨(h.push Z1).push (wA C h.objs.size none),g,d,t,os⟩): cXw (bYs prog w) A (.call (.ref C) ⟨[],[]⟩) R ⟨h,g,d,t,os⟩:=by
 obtain⟨n,q,j,y,u,G,J,P,⟨I,s⟩,H⟩:=c.cls;have l:h.get? C=some ⟨n,q,.cls j,y⟩:=X _ _ u;have call:=looks_specialIn (M:=bYs prog w) X c.call;have i:=looks_instIn (M:=bYs prog w) X c.typ;have made:=c.made (M:=bYs prog w) X;have m:j.mro.isEmpty=false:=by rw[s];simp[jL]
 refine codeAny_of_tree ?_;show bYq _ _ (callAny (.ref C) _) _ _ _;refine nd_load l ?_;show bYq _ _ (callAny.viaDunder (.ref C) _) _ _ _;unfold callAny.viaDunder;refine bYj (call.at ?_);dsimp only;rw[tc_bind];refine bYj (bYn (bYj (bYn ?_)));refine bYn (a:=Fin.again (.call (.builtin "type.__call__") ⟨[.ref C],[]⟩)) (And.intro rfl ?_);refine codeAny_call_builtin_at (cJk _ dk) entry_typeCall (check_slot tc_kind tc_split i (tc_args _ _ _) ?_);unfold cQ2.«type.__call__»;have F:Looks (bYs prog w) h (mroOf (.ref C)) j.mro:=((Looks.ld (part:=none) l).andThen .now).andThen .now;repeat (first|simp only[m,Bool.false_eq_true,if_false]|with_reducible refine cZt ?_|lk)
 refine bJj X c ?_;have k:∀b o,h.get? b=some o->((h.push Z1).push (wA C h.objs.size none)).get? b=some o:=λb o e=>bYm _ (bYm _ e);have B:((h.push Z1).push (wA C h.objs.size none)).get? (h.objs.size+1)=some (wA C h.objs.size none):=by heap_get
 have E:Looks (bYs prog w) ((h.push Z1).push (wA C h.objs.size none)) (typeOf (.ref (h.objs.size+1))) (.ref C):=(Looks.ld B).andThen .now;have O:=(c.self (M:=bYs prog w) X).keeps k;have N:=(looks_findIn (M:=bYs prog w) X x).keeps k;have b1:=(bind_fn (M:=bYs prog w) X (.ref (h.objs.size+1)) p).keeps k;unfold cZ6 callSpecial? specialOf;repeat (first|with_reducible refine cZt ?_|lk)
 refine cQ7 D λr L z=>?_;rcases r with e|(v|_|_|_)<;> first|exact z|exact z.elim|skip
 obtain⟨rfl,z⟩:=z;exact bYn (bYn z)
end
section
variable {prog:bYE}{w:bYK}{A:bYW}{E:bYi->bYl->Prop}{K:Frag}{C e tp:Nat}{s:bYl}{v:bYi}
theorem bJk{Q:Unit->bYl->Prop}(X:K.In s.heap)(c:vS K C)(k:s.heap.get? e=some (wA C tp none)) (O:∀d tk,d.get? e=some (wA C tp (some s.heap.objs.size))->d.Ns1 s.heap.objs.size (λy=>if y="words" then some v else none)->(∀b o,b≠e->s.heap.get? b=some o->d.get? b=some o)->Q () {s with heap:=d,toks:=tk}): bYq (bYs prog w) A (setAttr (.ref e) "words" v) Q E s:=by
 have I:InstAt s.heap e (wA C tp none) C none:=⟨k,rfl,rfl,cQI⟩;refine set_plain X I c.sa ?_;have j:=PySem.F.store_object;obtain⟨S,U,z,W,M,P,N,Y,⟨V,L⟩,R⟩:=c.cls;have u:clsIn K C=some z:=by unfold clsIn;rw[M]
 have sub:Looks (bYs prog w) s.heap (cZ6 (.ref e) (.type "object")) true:=I.type.andThen (c.sub X dk);have B:Looks (bYs prog w) s.heap (mroOf (.ref C)) z.mro:=(looks_clsIn X u).andThen .now;refine cZ5 j.slot.plain j.entry (@check_slot (bYs prog w) _ _ {s with toks:=s.toks+1} "object.__setattr__" "object" "__setattr__" (.ref e) [.str "words" s.toks,v] [] _ j.kind j.split sub (j.args (.ref e) (.str "words" s.toks) v) ?_);rw[osa_eq,refuse_eq];have i:∀ (b:Nat)(o:Obj),s.heap.get? b=some o->s.heap.get? b=some o:=λ_ _ e=>e;refine bYj (bYj (I.type _ _ _ _ i (bYj (B _ _ _ _ i ?_))));rw[L,aQJ];refine bYn (bYj (I.type _ _ _ _ i (bYj ((looks_findIn X c.wd) _ _ _ _ i (bYj (bYn ?_))))));have h:e≠s.heap.objs.size:=bYG (bYw k);have f:(s.heap.push emptyDict).get? e=some (wA C tp none):=bYm _ k;refine bYj (bYn (bYj (bYj (wpAny_loadPart k (bYj ((looks_clsIn X u) _ _ _ _ i ?_))))));rw[N];refine bYj (wpAny_alloc ?_);refine bYj (wpAny_update f ?_);refine bYn (a:=some s.heap.objs.size) ?_;show bYq _ _ (storeInDict s.heap.objs.size (.str "words" s.toks) "words" v) _ _ _;have l:((s.heap.push emptyDict).update e λo=>{o with dict:=some s.heap.objs.size}).get? s.heap.objs.size=some emptyDict:=(cJa _ _ _ _ h.symm).trans (Heap.get?_push_at rfl rfl);have n:((s.heap.push emptyDict).update e λo=>{o with dict:=some s.heap.objs.size}).Ns s.heap.objs.size (λ_=>none):=⟨_, #[],_,l,rfl,λe G=>absurd G (by simp),λ_=>rfl⟩;have p:=cQk (λo=>{o with dict:=some s.heap.objs.size}) f rfl;unfold storeInDict newKeyGuard;refine bYj (bYn (bYj (wpAny_nsSet1 (Heap.Ns1.of_empty n) λd g x=>?_)));obtain⟨T,H,D,t,m,r⟩:=g.count (Within.cons "words" v Within.nil);refine bYj (wpAny_lookBehind t (by rw[m];exact pastItsLine_dict (bYT r (by rw[cQh,cXn,bYR];omega))) ?_);refine bYn ?_;refine O d _ ((x.2 e h).trans p) g λb o J q=>?_;exact(x.2 b (bYG (bYw q))).trans ((cJa _ _ _ _ J).trans (bYm _ q))
theorem bga:Slot "Exception" "__getattribute__" "BaseException.__getattribute__":=
 .of (owner:="BaseException") (n:="__getattribute__") (by rw[typeLookup_type,cZX];kernel_rfl) dk dk dk (by first|exact .inl dk|exact .inr dk) (by rw[isSubtype_type];kernel_rfl)
theorem bJi{a:Bool}{Q:bYi->bYl->Prop}{b d:Obj}{dx:Nat}(X:K.In s.heap)(c:vS K C)(u:s.heap.get? e=some b)(j:b.cls= .ref C)(i:b.dict=some dx)(k:notCls b=true)(t:s.heap.get? dx=some d) (hl:lookIn "words" d=some (some v)) (p:handedIn v=true) (x:Q v {s with toks:=s.toks+1}):bYq (bYs prog w) A (getAttr (.ref e) "words" a) Q E s:=by
 have I:InstAt s.heap e b C (some d):=⟨u,j,k,by rw[i];exact t⟩;obtain⟨B,m,l,H,g,y,r,J,⟨D,G⟩,z⟩:=c.cls;have f:clsIn K C=some l:=by unfold clsIn;rw[g]
 have n:findObj K C (some d) "words"=some (.value v):=by unfold findObj;rw[f,Option.bind_some,c.wd];simp only[Option.bind_some];unfold W.ownOf;rw[r,if_pos rfl];dsimp only;rw[hl];rfl
 have h:=I.type (M:=bYs prog w);have o:=looks_find (M:=bYs prog w) X I n;have sub:Looks (bYs prog w) s.heap (cZ6 (.ref e) (.type "BaseException")) true:=I.type.andThen (c.sub X dk);refine bYj (wpAny_mkText (cQB (bYj (h _ _ _ _ (λ_ _ e=>e) (bYj (looks_findIn X c.ga _ _ _ _ (λ_ _ e=>e) ?_))))));dsimp only;rw[show(onTheHeap (Value.ref C) && Value.builtin "BaseException.__getattribute__"==Value.builtin "object.__getattribute__")=false from by rw[show(Value.builtin "BaseException.__getattribute__"==Value.builtin "object.__getattribute__")=false from dk,Bool.and_false],if_neg (by decide)];have q:Looks (bYs prog w) s.heap (hookBefore (.ref C)) none:=looks_hook (mc:= .ref C) X (by rw[if_pos (show onTheHeap (Value.ref C)=true from rfl)];exact c.gh);refine bYj (q _ _ _ _ (λ_ _ e=>e) (bYj (cZy (cQB ?_))));unfold callGetattribute;rw[show(a && onTheHeap (Value.builtin "BaseException.__getattribute__"))=false from Bool.and_false _,if_neg (by decide)];unfold boundAndCalled;rw[bga.bind];refine bYj (bYn ?_);show bYq _ _ (call (.builtin "BaseException.__getattribute__") [.ref e,.str "words" s.toks]) _ _ _;refine cZt (cZ5 bga.plain F.entry_bexc_ga ?_);refine @check_slot (bYs prog w) _ _ {s with toks:=s.toks+1} "BaseException.__getattribute__" "BaseException" "__getattribute__" (.ref e) [.str "words" s.toks] [] _ dk dk sub (F.args_bexc_ga (.ref e) (.str "words" s.toks)) ?_;unfold cQ2.«object.__getattribute__»;refine bYj (bYn (bYj (bYn ?_)));refine bYj (h _ _ _ _ (λ_ _ e=>e) (bYj (o _ _ _ _ (λ_ _ e=>e) (bYn ?_))));show bYq _ _ (handedOut v) _ _ _;rw[handedOut_of p];exact bYn x
theorem aKv{M:Model}{Q:Bool->bYl->Prop}{f:Obj}{Rf:Nat}(X:K.In s.heap)(c:vS K C)(b:vS K Rf)(k:mroIn K C (.ref Rf)=some true)(h:s.heap.get? e=some f)(i:f.cls= .ref C)(p:Q true s): bYq M A (excMatches (.ref e) (.ref Rf)) Q E s:=by
 obtain⟨a,g,d,t,os⟩:=s;dsimp only at X h;have q:Looks M a (typeOf (.ref e)) (.ref C):=i ▸ (Looks.ld h).andThen .now;have r:Looks M a (cZn (.ref C) (.ref Rf)) true:=looks_mroIn X k;have w:Looks M a (cZ6 (.ref Rf) (.type "tuple")) false:=(looks_typeIn X b.ty).andThen (Looks.of_pure tc_notTuple);have z:Looks M a (cZn (.ref Rf) (.type "BaseException")) true:=b.sub X dk;have y:Looks M a (typeOf (.ref Rf)) (.type "type"):=looks_typeIn X b.ty;have B:Looks M a (cZn (.type "type") (.type "type")) true:=Looks.of_pure tc_sub;obtain⟨j,m,l,o,n,v,G,H,⟨D,F⟩,x⟩:=b.cls;have u:a.get? Rf=some ⟨j,m,.cls l,o⟩:=X _ _ n;unfold excMatches isExcClass;repeat (first|simp only[Bool.not_true,Bool.false_eq_true,if_false,if_true]|lk)
 exact p
theorem aKw{M:Model}{env:Env}{x:Sem bYi}{Q:Flow->bYl->Prop}(l:A.handled=none) (h:bYq M A x (λv a=>∃e tp i C,v= .ref e/\K.In a.heap/\vS K C/\a.heap.get? e=some (wA C tp i)/\E (.ref e) a) E s):bYq M A (raiseStmt env (some x) none) Q E s:=by
 unfold raiseStmt;refine bYj (cQi h (λv a k=>?_) λ_ _ x=>x);obtain⟨e,tp,i,C,rfl,X,c,f,j⟩:=k;obtain⟨b,g,d,tk,os⟩:=a;dsimp only at X f;have m:Looks M b (typeOf (.ref e)) (.ref C):=(Looks.ld f).andThen .now;have n:Looks M b (cZn (.ref C) (.type "BaseException")) true:=c.sub X dk;have o:Looks M b (typeOf (.ref C)) (.type "type"):=looks_typeIn X c.ty;unfold excFromValue isExcClass cZ6;repeat (first|simp only[Bool.false_eq_true,if_false,if_true]|lk)
 show bYq M A handled _ _ _;refine wpAny_handled ?_;rw[l];exact wpAny_throw j
end
end L2
namespace L2
open PySem PySem.Spec PyProof.Rows
def CXR(P:bYE)(w:bYK):CXT:=λouter H s E d a=>∃ (e C c tb:Nat)(b:Hp),d= .ref e/\a.os=s.os/\AllBare a.gens/\Un (frs outer) [] H b s.heap a.heap/\HOk P w b a.heap/\
 qS a.heap e (.ref C) (some c) (some tb)/\b e=none/\b tb=none/\s.heap.objs.size<=e/\s.heap.objs.size<=tb/\E (.ref C) (some c) b
section
variable {P:bYE}{w:bYK}{K:bYk}{mg:Str->Option bYi}{base:Heap}{N:List Str}{qual:Str}{scope:cXs}{f:Nat}{cd:bYi}{A:bYW}{outer:List Env}{s₀:bYl}{H₀:Hp}{E:XK}
 {pins:List (Nat×Obj)} {σ:St} {H:Hp} {s:bYl}
theorem bW1{e C dx:Nat}{tb:Option Nat}(I:Inv (aXi (CXR P w) P w K mg base N qual scope f cd A outer s₀ H₀ E) pins σ H s)(x:qS s.heap e (.ref C) (some dx) tb)(B:H e=none)(m:s₀.heap.objs.size<=e) (l:∀T,tb=some T->H T=none/\s₀.heap.objs.size<=T) (q:E (.ref C) (some dx) H):(aXi (CXR P w) P w K mg base N qual scope f cd A outer s₀ H₀ E).xe (.ref e) s:=by
 have ne:∀b o,s₀.heap.get? b=some o->b≠e:=λb o a=>bYG (bYJ (bYw a) m);have t:∀b o,s₀.heap.get? b=some o->tb≠some b:=λb o a z=>absurd (bYJ (bYw a) (l b z).2) (cQs _);have G:∀b,b∈(cXc qual scope s₀.heap.objs.size f cd::outer).filterMap (·.frame)->b=s₀.heap.objs.size\/b∈frs outer:=λb d=>by rw[cX0,show(cXc qual scope s₀.heap.objs.size f cd).frame=some s₀.heap.objs.size from rfl]at d;exact bYr.mp d
 have i:∀b o,s₀.heap.get? b=some o->b∉frs outer->b∉(cXc qual scope s₀.heap.objs.size f cd::outer).filterMap (·.frame):=λb o a d z=>
  (G b z).elim (bYG (bYw a)) d
 show bYq (bYs P w) (A.deeper (cXc qual scope s₀.heap.objs.size f cd)) (leaving (cXc qual scope s₀.heap.objs.size f cd) (.ref e)) _ _ s;refine aKO (base:=base) (outer:=outer) (L:=s₀.heap.objs.size) I.ok.frames I.stack rfl x λO T y D p=>?_;refine⟨e,C,dx,T,H,rfl,I.os,I.bare,?_,?_,y,B,I.hok.fresh D,m,bYT I.sz D,q⟩
 ·refine⟨λb o a n d h=>?_,λb o a n d h=>?_,λb o a n h=>I.base.free b o a n h,λb o a h=>?_,I.base.tups,I.base.frzs,I.base.tbls⟩
  ·exact p.keep b o (ne b o a) (t b o a) (i b o a d) (I.base.keep b o a n d h)
  ·obtain⟨Q,k⟩:=I.base.slot b o a n d h;obtain⟨j,J⟩:=p.slot b _ (ne b o a) (t b o a) k;exact⟨j,J⟩
  ·obtain⟨M,k⟩:=I.base.there b o a h;exact p.there b M k
 ·refine λb u a=>(I.hok b u a).stay (λc v F r=>?_) (λ_ r=>r) λ_ _ r=>r;have g:H c≠none:=by
   rcases F with z|z
   ·rw[z,a];simp
   ·rw[z];simp
  refine p.keep c v (λz=>g (by rw[z];exact B)) (λz=>g (l c z).1) (λz=>g (I.stkFree c z)) r
theorem zN:w9 (CXR P w) (aXi (CXR P w) P w K mg base N qual scope f cd A outer s₀ H₀ E) E:=by
 intro a σ H s q n I h;obtain⟨e,C,p,tb,l,rfl,o,bare,un,c,x,m,i,g,d,j⟩:=h;have k:Inv (aXi (CXR P w) P w K mg base N qual scope f cd A outer s₀ H₀ E) a σ l n:=I.call' o un c bare λb z=>absurd z (by simp);exact bW1 k x m (bYT I.sz g) (λT z=>by cases z;exact⟨i,bYT I.sz d⟩) j
theorem Fun.okX{x:Str}{st:Stmt}{e:cXd}{ps:List Str}{k:Nat}{sp:Sp}(F:Fun K x qual st f e)(S:yM N ps (yH st)) (b:∀ (a:bYi)(A:bYW)(outer:List Env)(s:bYl)(H:Hp)(vs:List V)(Q:VK)(E:XK),vK k (A.deeper (cXc qual (yH st) s.heap.objs.size f a))->sp vs H Q E-> ∃t,PSs (aXi (CXR P w) P w K mg base N qual (yH st) f a A outer s H E) (xO st) t/\t {nx:=λ_ i=>Q .non i,rt:=Q} (start N vs) H) (len:∀vs H Q E,sp vs H Q E->vs.length=ps.length:=by intro _ _ _ _ h;first|(cases h;subst_vars;exact rfl)|repeat (first|(obtain⟨rfl,_⟩:=h;exact rfl)|(obtain⟨_,h⟩:=h))):y8 P w K mg base (CXR P w) (k+1) f e ps sp:=by
 obtain⟨n,o,kV,g,p,m,a,ct,l,rfl,lk,c⟩:=F.ex;exact bJm lk c S len λA outer s H vs Q E j d=>b a A outer s H vs Q E j d
end
structure FnX(P:bYE)(w:bYK)(K:bYk)(mg:Str->Option bYi)(base:Heap)(k:Nat)(x:Str)(ps:List Str)(sp:Sp):Prop where
 ex:∃f fd,y8 P w K mg base (CXR P w) k f fd ps sp/\vR K fd ps []/\cQb K (.ref f)=true/\mg x=some (.ref f)
theorem FnX.mono{P:bYE}{w:bYK}{K:bYk}{mg:Str->Option bYi}{base:Heap}{j k:Nat}{x:Str}{ps:List Str}{sp:Sp}(G:FnX P w K mg base j x ps sp)(h:j<=k):FnX P w K mg base k x ps sp:=
 let ⟨f,fd,a,b⟩:=G.ex;⟨f,fd,a.mono h,b⟩
structure MG(P:bYE)(w:bYK)(K:bYk)(mg:Str->Option bYi)(base:Heap)(CX:CXT)(k:Nat)(C:Nat)(m:Str)(ps:List Str)(sp:Sp):Prop where
 ex:∃f fd,y8 P w K mg base CX k f fd ps sp/\vR K fd ps []/\bVM K C m f
 cl:Cls K C
theorem MG.mono{P:bYE}{w:bYK}{K:bYk}{mg:Str->Option bYi}{base:Heap}{CX:CXT}{j k:Nat}{C:Nat}{m:Str}{ps:List Str}{sp:Sp}(G:MG P w K mg base CX j C m ps sp)(h:j<=k):MG P w K mg base CX k C m ps sp:=
 let ⟨f,fd,a,b⟩:=G.ex;⟨⟨f,fd,a.mono h,b⟩,G.cl⟩
structure MkG(P:bYE)(w:bYK)(K:bYk)(mg:Str->Option bYi)(base:Heap)(k:Nat)(x:Str)(C:Nat)(ps:List Str)(sp:Sp):Prop where
 ex:∃f fd,y8 P w K mg base CX0 k f fd ps sp/\vR K fd ps []/\Mk K C f/\mg x=some (.ref C)
theorem MkG.mono{P:bYE}{w:bYK}{K:bYk}{mg:Str->Option bYi}{base:Heap}{j k:Nat}{x:Str}{C:Nat}{ps:List Str}{sp:Sp}(G:MkG P w K mg base j x C ps sp)(h:j<=k):MkG P w K mg base k x C ps sp:=
 let ⟨f,fd,a,b⟩:=G.ex;⟨f,fd,a.mono h,b⟩
section
variable {X:Cx}{k:Nat}{x m:Str}{C:Nat}{ps:List Str}{sp:Sp}{e o:Expr}{es:List Expr}{ta:TE}{t:TA}{p pos apos:Pos}{E:XK}{CX:CXT}
theorem aQm{P:bYE}{w:bYK}{K:bYk}{mg:Str->Option bYi}{base:Heap}{N:List Str}{qual:Str}{scope:cXs}{f:Nat}{cd:bYi}{A:bYW}{outer:List Env}{s₀:bYl}{H₀:Hp}
  (G:FnX P w K mg base k x ps sp) (j:vK k (A.deeper (cXc qual scope s₀.heap.objs.size f cd))) (l:Gl (aXi (CXR P w) P w K mg base N qual scope f cd A outer s₀ H₀ E) x) (m:PA (aXi (CXR P w) P w K mg base N qual scope f cd A outer s₀ H₀ E) (e::es) t)
  (c:(x==("__debug__":Str))=false:=by decide) (i:bYV (e::es) (cXc qual scope s₀.heap.objs.size f cd)=(false,eval e (cXc qual scope s₀.heap.objs.size f cd))::bYV es (cXc qual scope s₀.heap.objs.size f cd):=by rfl)
  (a:(cQU pos (bYV es (cXc qual scope s₀.heap.objs.size f cd))).any (·.1)=false:=by rfl):
  PE (aXi (CXR P w) P w K mg base N qual scope f cd A outer s₀ H₀ E) (.Call (.Name x p) (e::es) [] pos) (bZc sp [] E t):=by
 obtain⟨g,n,F,b,h,d⟩:=G.ex
 exact aYk F j l d h b .nil zN m c i a
theorem vO{pl:Sem Bool}(G:MG X.prog X.w X.K X.mg X.base CX k C m ps sp)(l:vK k X.A)(j:w9 CX X E)(i:PE X o ta)(d:PA X (e::es) t)
  (a:bYV (e::es) X.env=(false,eval e X.env)::bYV es X.env:=by rfl) (c:(cQU pos (bYV es X.env)).any (·.1)=false:=by rfl)
  (n:eval (.Call (.Attribute o m apos) (e::es) [] pos) X.env=(do
   let ov <- eval o X.env
   standAt apos.atName
   let (f,first) <- cZA [ov] (cZI ov m pl)
   callWith pos f first (cQU pos (bYV (e::es) X.env)) (cZs pos (cXz [] X.env))):=by rfl):
  PE X (.Call (.Attribute o m apos) (e::es) [] pos) (bZf C m sp [] E ta t):=by
 obtain⟨g,p,F,b,h⟩:=G.ex
 exact bJY i G.cl h F l b .nil j d a c n
theorem bXB{pl:Sem Bool}(G:MG X.prog X.w X.K X.mg X.base CX k C m ps sp)(e:vK k X.A)(d:w9 CX X E)(c:PE X o ta)
  (h:eval (.Call (.Attribute o m apos) [] [] pos) X.env=(do
   let ov <- eval o X.env
   standAt apos.atName
   let (f,first) <- cZA [ov] (cZI ov m pl)
   callWith pos f first (cQU pos (bYV [] X.env)) (cZs pos (cXz [] X.env))):=by rfl):
  PE X (.Call (.Attribute o m apos) [] [] pos) (bZf C m sp [] E ta bZg):=by
 obtain⟨g,i,F,b,a⟩:=G.ex
 exact bXD c G.cl a F e b .nil d h
theorem bKr(G:MkG X.prog X.w X.K X.mg X.base k x C ps sp)(l:vK (k+1) X.A)(j:Gl X x)(f:PA X (e::es) t)(c:(x==("__debug__":Str))=false:=by decide)
  (d:bYV (e::es) X.env=(false,eval e X.env)::bYV es X.env:=by rfl) (a:(cQU pos (bYV es X.env)).any (·.1)=false:=by rfl):PE X (.Call (.Name x p) (e::es) [] pos) (bZe C sp [] E0 t):=by
 obtain⟨g,m,F,b,h,i⟩:=G.ex
 exact bJX h F l j i b .nil vN f c d a
theorem bZO(G:MkG X.prog X.w X.K X.mg X.base k x C ps sp)(f:vK (k+1) X.A)(e:Gl X x)(a:(x==("__debug__":Str))=false:=by decide):PE X (.Call (.Name x p) [] [] pos) (bZe C sp [] E0 bZg):=by
 obtain⟨g,h,F,b,c,d⟩:=G.ex;exact bXC c F f e d b .nil vN a
end
end L2
namespace L2
open PySem PySem.Spec PyProof.Rows
def jP(e C tp:Nat)(dx:Option Nat):HO:= .ext λh=>h.get? e=some (wA C tp dx)
theorem aJ6{P:bYE}{w:bYK}{H:Hp}{h:Heap}{e C tp:Nat}{dx:Option Nat}(b:h.get? e=some (wA C tp dx)):x4 P w H h e (jP e C tp dx):=⟨b,⟨_,b⟩,λd c a k=>k _ a⟩
theorem aJ5{P:bYE}{w:bYK}{H:Hp}{h:Heap}{e C tp:Nat}{dx:Option Nat}(ok:HOk P w H h)(a:H e=some (jP e C tp dx)):h.get? e=some (wA C tp dx):=(ok e _ a).1
section
variable {X:Cx}{pins:List (Nat×Obj)}{σ:St}{H:Hp}{s:bYl}
theorem Inv.forget{e:Nat}{φ:Heap->Prop}(I:Inv X pins σ H s)(j:H e=some (.ext φ)):Inv X pins σ (λb=>if b=e then none else H b) s:=by
 have ne:∀b u,H b=some u->(∀φ,u≠ .ext φ)->b≠e:=λb u q n z=>by rw[z,j]at q;cases q;exact n _ rfl
 refine⟨I.ok,I.os,I.bare,⟨I.base.keep,I.base.slot,λb o q n k=>?_,I.base.there,λb f q=>?_,λb o u q=>?_,λb ps q=>?_⟩,I.loc,I.cell,?_,λx c q=>?_,λp i=>?_,λb u q=>?_,I.len⟩
 ·show(if b=e then none else H b)=none;rw[I.base.free b o q n k];split<;> rfl
 ·have z:=I.base.tups b f q;show(if b=e then none else H b)=_;rw[if_neg (ne b _ z λ_ y=>by cases y),z]
 ·have z:=I.base.frzs b o u q;show(if b=e then none else H b)=_;rw[if_neg (ne b _ z λ_ y=>by cases y),z]
 ·obtain⟨m,z⟩:=I.base.tbls b ps q;refine⟨m,?_⟩;show(if b=e then none else H b)=_;rw[if_neg (ne b _ z λ_ y=>by cases y),z]
 ·show(if _=e then none else H _)=none;rw[I.free];split<;> rfl
 ·show(if c=e then none else H c)=none;rw[I.freeC x c q];split<;> rfl
 ·obtain⟨g,l,h⟩:=I.pin p i;refine⟨g,?_,h⟩;show(if p.1=e then none else H p.1)=none;rw[l];split<;> rfl
 ·have a:(if b=e then none else H b)=some u:=q;by_cases d:b=e
  ·rw[if_pos d]at a;cases a
  ·rw[if_neg d]at a;refine(I.hok b u a).stay (λc v _ r=>r) (λc r=>?_) λc f r=>?_
   ·show(if c=e then none else H c)=_;rw[if_neg (ne c _ r λ_ y=>by cases y),r]
   ·show(if c=e then none else H c)=_;rw[if_neg (ne c _ r λ_ y=>by cases y),r]
inductive bKy(K:bYk)(D:aZV)(σ:St)(y:V)(x:V)(H2:Hp):Prop|mk (e C tp) (_:x= .ref e) (_:H2 e=some (jP e C tp none)) (_:vS K C) (_:∀dx,H2 dx=none->D.nx σ (upd (upd H2 dx (.xd [("words",y)])) e (jP e C tp (some dx))))
def bK8(K:bYk)(b d:TE):TS:=λD σ H=>d σ H λy a=>b σ a λx c=>bKy K D σ y x c
theorem bWv{o a:Expr}{B E:TE}{pos i:Pos}(M:PE X o B)(L:PE X a E)(G:swapsWith a (some (.Attribute o "words" i)) pos.line X.env=pure false): PS X (.Assign [.Attribute o "words" i] a pos) (bK8 X.K B E):=by
 intro pins s σ H D I h;refine cZY (thn (L pins s σ H _ I h) λu s1 ⟨y,H1,I1,ry,q⟩=>thn (M pins s1 σ H1 _ I1 q) λov s2 ⟨x,H2,I2,rx,e,C,tp,ex,ea,c,q2⟩=>?_) G;subst ex;obtain rfl:ov=Value.ref e:=rx;have O:=aJ5 I2.hok ea;have g:H2 s2.heap.objs.size=none:=I2.hok.fresh (bYp _);have N:=q2 _ g;refine bJk I2.kIn c O λQ tk A J k=>⟨σ,_,I2.un (t':=tk) ?_ ?_,N⟩
 ·have nb:∀b,H2 b=none->b≠e:=λb n z=>by rw[z,ea]at n;cases n
  have F:∀b o,s2.heap.get? b=some o->b≠s2.heap.objs.size:=λb o r=>bYG (bYw r);have t:∀b u,H2 b=some u->(∀φ,u≠ .ext φ)->upd (upd H2 s2.heap.objs.size (.xd [("words",y)])) e (jP e C tp (some s2.heap.objs.size)) b=some u:=λb u r n=>by rw[yI (λz=>by rw[z,ea]at r;cases r;exact n _ rfl),yI (yJ r g)];exact r
  refine⟨λb o r n _ _=>k b o (nb b n) r,λb o r n _ _=>⟨o.slots,k b o (nb b n) r⟩,λb o r n _=>?_,λb o r _=>?_,λb P r=>t b _ r (λ_ z=>by cases z),λb o u r=>t b _ r (λ_ z=>by cases z),λb ps r=>⟨#[],by rw[t b _ r (λ_ z=>by cases z)];simp⟩⟩
  ·rw[yI (nb b n),yI (F b o r)];exact n
  ·by_cases j:b=e
   ·subst j;exact⟨_,A⟩
   ·exact⟨o,k b o j r⟩
 ·intro b v r;by_cases j:b=e
  ·subst j;rw[yB]at r;cases r;exact aJ6 A
  ·rw[yI j]at r;by_cases w:b=s2.heap.objs.size
   ·subst w;rw[yB]at r;cases r;refine⟨_,J,λf=>?_⟩;show aXT (cXy f [("words",y)]) (if f="words" then some u else none);by_cases m:f="words"
    ·subst m;exact ry
    ·rw[if_neg m];have:(f==("words":Str))=false:=by simpa using m
     simp[cXy,this,aXT]
   ·rw[yI w]at r;have ne:∀c p,H2 c=some p->(∀φ,p≠ .ext φ)->c≠e:=λc p d n z=>by rw[z,ea]at d;cases d;exact n _ rfl
    refine(I2.hok b v r).stay (λc o l d=>k c o ?_ d) (λc d=>?_) λc P d=>?_
    ·rcases l with rfl|l
     ·exact j
     ·exact ne c _ l λ_ z=>by cases z
    ·rw[yI (ne c _ d λ_ z=>by cases z),yI (yJ d g)];exact d
    ·rw[yI (ne c _ d λ_ z=>by cases z),yI (yJ d g)];exact d
end
inductive wH(K:bYk)(vs:List V)(H:Hp)(Q:VK)(_:XK):Prop|mk (e C tp:Nat) (y:V) (_:vs= [.ref e,y]) (_:H e=some (jP e C tp none)) (_:vS K C) (_:∀dx,H dx=none->Q .non (upd (upd H dx (.xd [("words",y)])) e (jP e C tp (some dx))))
inductive bZa(C:Nat)(t:Str)(vs:List V)(H:Hp)(Q:VK):Prop|mk (e tp:Nat) (_:vs= [.ref e]) (_:H e=some (jP e C tp none)) (_:∀dx,H dx=none->Q .non (upd (upd H dx (.xd [("words",.str t)])) e (jP e C tp (some dx))))
def zY(K:bYk)(C:Nat)(t:Str):Sp:=λa H Q _=>bZa C t a H Q
structure aVP(P:bYE)(w:bYK)(K:bYk)(mg:Str->Option bYi)(base:Heap)(k:Nat)(x m:Str)(ps:List Str)(sp:Sp):Prop where
 ex:∃ (R f:Nat)(fd:cXd),y8 P w K mg base CX0 k f fd ps sp/\vR K fd ps []/\PySem.W.readsIn K R (.type "type")=true/\PySem.W.findCls K (.ref R) (.type "type") m=some (.val (.ref f))/\
  cZP K (.ref R) "__getattribute__"=some (some (.builtin "type.__getattribute__"))/\cQb K (.ref f)=true/\mg x=some (.ref R)
section
variable {X:Cx}{k:Nat}{x m:Str}{ps:List Str}{sp:Sp}{e:Expr}{es:List Expr}{t:TA}{p pos apos:Pos}
theorem uQ{pl:Sem Bool}(G:aVP X.prog X.w X.K X.mg X.base k x m ps sp)(q:vK k X.A)(u:Gl X x)(v:PA X (e::es) t)(c:(x==("__debug__":Str))=false:=by decide)
  (d:bYV (e::es) X.env=(false,eval e X.env)::bYV es X.env:=by rfl) (a:(cQU pos (bYV es X.env)).any (·.1)=false:=by rfl)
  (j:eval (.Call (.Attribute (.Name x p) m apos) (e::es) [] pos) X.env=(do
   let ov <- eval (.Name x p) X.env
   standAt apos.atName
   let (f,first) <- cZA [ov] (cZI ov m pl)
   callWith pos f first (cQU pos (bYV (e::es) X.env)) (cZs pos (cXz [] X.env))):=by rfl):
  PE X (.Call (.Attribute (.Name x p) m apos) (e::es) [] pos) (bZc sp [] E0 t):=by
 obtain⟨R,f,z,F,b,y,n,i,o,g⟩:=G.ex
 intro pins s σ H Q I h
 refine cZk (pl:=pl) (uN I u g ?_ c) j
 refine PySem.W.method_cls I.kIn i (PySem.W.cls_value I.kIn y n rfl ?_)
 have l:=I.tok (s.toks+1)
 refine cX7 (first:= []) (h₀:=X.base) I.ok.mod.kin o (thn (v pos pins _ σ H _ l h) λus s2 ⟨vs,H2,I2,r,q2⟩=>⟨I2.kIn,?_⟩) d a
 exact aZB F q b .nil vN I2 r q2
end
structure ExG(P:bYE)(w:bYK)(K:bYk)(mg:Str->Option bYi)(base:Heap)(k:Nat)(x:Str)(Rf:Nat)(C:Nat)(t:Str):Prop where
 ex:∃f fd,y8 P w K mg base CX0 k f fd ["self"] (zY K C t)/\vR K fd ["self"] []/\bY1 K (.ref C) "__init__"=some (some (.ref f))/\cXV K (.ref f)=true/\cQb K (.ref C)=true/\mg x=some (.ref C)
 cl:vS K C
 sub:cZv K C (.ref Rf)=some true
theorem ExG.mono{P:bYE}{w:bYK}{K:bYk}{mg:Str->Option bYi}{base:Heap}{j k:Nat}{x:Str}{Rf C:Nat}{t:Str}(G:ExG P w K mg base j x Rf C t)(h:j<=k):ExG P w K mg base k x Rf C t:=
 let ⟨f,fd,a,b⟩:=G.ex;⟨⟨f,fd,a.mono h,b⟩,G.cl,G.sub⟩
def bZS(C:Nat)(t:Str)(E:XK):TS:=λ_ _ H=>∀a,H a=none->E (.ref C) (some a) (upd H a (.xd [("words",.str t)]))
section
variable {P:bYE}{w:bYK}{K:bYk}{mg:Str->Option bYi}{base:Heap}{N:List Str}{qual:Str}{scope:cXs}{f:Nat}{cd:bYi}{A:bYW}{outer:List Env}{s₀:bYl}{H₀:Hp}{E:XK}{k:Nat}{x t:Str}{Rf C:Nat}{np cpos pos:Pos}
theorem zQ(G:ExG P w K mg base k x Rf C t)(X:vK (k+1) (A.deeper (cXc qual scope s₀.heap.objs.size f cd)))(Z:Gl (aXi (CXR P w) P w K mg base N qual scope f cd A outer s₀ H₀ E) x)(y:(x==("__debug__":Str))=false:=by decide):
  PS (aXi (CXR P w) P w K mg base N qual scope f cd A outer s₀ H₀ E) (.Raise (some (.Call (.Name x np) [] [] cpos)) none pos) (bZS C t E):=by
 intro pins s σ H D I h
 obtain⟨fi,fd,F,b,hi,U,S,Q⟩:=G.ex
 rw[arm_exec_Raise]
 refine bYj (cZR ?_)
 show bYq _ _ (raiseStmt _ (some (do let v <- eval (.Call (.Name x np) [] [] cpos) (cXc qual scope s₀.heap.objs.size f cd);standAt pos;pure v)) none) _ _ _
 refine aKw (K:=K) (I.ok.hd rfl) (bYj ?_)
 refine cQV (uN I Z Q ?_ y)
 refine cJd I.kIn S (cZt ?_)
 obtain⟨a,g,d,tk,O⟩:=s
 have R:Inv (aXi (CXR P w) P w K mg base N qual scope f cd A outer s₀ H₀ E) pins σ H ⟨a.push Z1,g,d,tk,O⟩:=I.kept (t':=tk) λb u e=>bYm _ e
 have hx:((a.push Z1).push (wA C a.objs.size none)).get? (a.objs.size+1)=some (wA C a.objs.size none):=by heap_get
 have B:Inv (aXi (CXR P w) P w K mg base N qual scope f cd A outer s₀ H₀ E) pins σ (upd H (a.objs.size+1) (jP (a.objs.size+1) C a.objs.size none)) ⟨(a.push Z1).push (wA C a.objs.size none),g,d,tk,O⟩:=
  R.laid (t':=tk) (λb u e=>bYm _ e) (cXS (cQQ _ _)) (aJ6 hx)
 have m:H (a.objs.size+1)=none:=I.hok.fresh (cXm _)
 refine bQK I.kIn G.cl hi (beq_iff_eq.mp U) (cQ7 (F.run _ (cXc qual scope s₀.heap.objs.size f cd::outer) _ _ ⟨[.ref (a.objs.size+1)],[]⟩ [.ref (a.objs.size+1)] [.ref (a.objs.size+1)] (λv L=>v= .non/\∃c,upd H (a.objs.size+1) (jP (a.objs.size+1) C a.objs.size none) c=none/\L=upd (upd (upd H (a.objs.size+1) (jP (a.objs.size+1) C a.objs.size none)) c (.xd [("words",.str t)])) (a.objs.size+1) (jP (a.objs.size+1) C a.objs.size (some c))) E0 (X.make C [] []) (B.env0.make C [] []) (b _ [.ref (a.objs.size+1)] B.kIn rfl) (.cons rfl .nil) ⟨a.objs.size+1,a.objs.size,rfl,yB,λc i=>⟨rfl,c,i,rfl⟩⟩) λr s' j=>?_)
 cases r with
 |error e=>exact cQN j
 |ok Y=>
  cases Y with
  |next=>exact cQN j
  |brk=>exact cQN j
  |cont=>exact cQN j
  |ret u=>
   obtain⟨v,L,q,rv,rfl,c,i,rfl⟩:=B.after j;have l:a.objs.size+1≠c:=yJ yB i;have J:H c=none:=by rw[yI (bY0 l)]at i;exact i
   have n:=aJ5 q.hok yB;have M:=q.forget (e:=a.objs.size+1) yB;have V:(λb=>if b=a.objs.size+1 then none else upd (upd (upd H (a.objs.size+1) (jP (a.objs.size+1) C a.objs.size none)) c (.xd [("words",.str t)])) (a.objs.size+1) (jP (a.objs.size+1) C a.objs.size (some c)) b)=upd H c (.xd [("words",.str t)]):=by
    funext b;by_cases o:b=a.objs.size+1
    ·rw[if_pos o,o,yI l,m]
    ·rw[if_neg o,yI o];by_cases p:b=c
     ·rw[p,yB,yB]
     ·rw[yI p,yI p,yI o]
   rw[V]at M;refine⟨rv,bYj (cZR (bYn ⟨a.objs.size+1,a.objs.size,some c,C,rfl,q.kIn,G.cl,n,?_⟩))⟩;refine bW1 (tb:=none) M ⟨⟨_,_,n,rfl,rfl,rfl,rfl⟩,λT z=>by cases z⟩ (by rw[yI l];exact m) (bYT I.sz (cXm _)) (λT z=>by cases z) (h c J)
end
end L2
namespace L2
open PySem PySem.Spec PyProof.Rows
theorem bJN{X:Cx}{A:bYW}{a:Bool}{pn:List (Nat×Obj)}{xe:bYi->bYl->Prop}(o:X.Ok)(c:A.frames=X.A.frames)(b:a=true->A.handled=none):Cx.Ok {X with A:=A,calm:=a,pn:=pn,xe:=xe}:=
 ⟨o.mod,o.kind,o.glob,o.blt,o.above,o.inj,o.has,o.cab,b,c.trans o.frames,o.stk,o.exf,o.bs,o.bsz,o.noex,o.exfs,o.funs,o.frf⟩
theorem Inv.mark{X:Cx}{A:bYW}{b:Bool}{pn pins a:List (Nat×Obj)}{xe:bYi->bYl->Prop}{σ:St}{H:Hp}{s:bYl}(I:Inv X pins σ H s)(e:A.frames=X.A.frames)(c:b=true->A.handled=none) (d:∀p∈pn++a,p∈X.pn++pins):Inv {X with A:=A,calm:=b,pn:=pn,xe:=xe} a σ H s:=
 ⟨bJN I.ok e c,I.os,I.bare,I.base,I.loc,I.cell,I.free,I.freeC,λp h=>I.pin p (d p h),I.hok,I.len⟩
theorem bJF{X:Cx}{pn:List (Nat×Obj)}{xe:bYi->bYl->Prop}(o:Cx.Ok {X with A:=X.A,calm:=X.calm,pn:=pn,xe:=xe}):X.Ok:=
 ⟨o.mod,o.kind,o.glob,o.blt,o.above,o.inj,o.has,o.cab,o.hd,o.frames,o.stk,o.exf,o.bs,o.bsz,o.noex,o.exfs,o.funs,o.frf⟩
theorem Inv.names{X:Cx}{pins:List (Nat×Obj)}{σ:St}{H:Hp}{s:bYl}{h':Heap}{j:Str->Option bYi}{t':Nat}(I:Inv X pins σ H s)(m:h'.Ns X.env.locals j)(d:cXi X.env.locals s.heap h'): Inv X pins (cXO X.N.length none) H {s with heap:=h',toks:=t'}:=by
 have a:∀b o,X.s₀.heap.get? b=some o->b≠X.env.locals:=λb o q=>bYG (bYJ (bYw q) I.ok.above);refine⟨I.ok,I.os,I.bare,⟨λb o q n f e=>(d.2 b (a b o q)).trans (I.base.keep b o q n f e),λb o q n f e=>?_,I.base.free,λb o q e=>?_,I.base.tups,I.base.frzs,I.base.tbls⟩,⟨j,m,λi x v _ g _=>?_⟩,λx c q=>?_,I.free,I.freeC,λp t=>?_,λb u q=>?_,by simp⟩
 ·obtain⟨A,z⟩:=I.base.slot b o q n f e;exact⟨A,(d.2 b (a b o q)).trans z⟩
 ·obtain⟨y,z⟩:=I.base.there b o q e;exact⟨y,(d.2 b (a b o q)).trans z⟩
 ·rw[List.getElem?_replicate]at g;split at g<;> cases g
 ·obtain⟨v,z⟩:=I.cell x c q;exact⟨v,z.sameBut d (I.cne x c q)⟩
 ·obtain⟨k,B,h,C,w⟩:=I.pin p t;exact⟨(d.2 p.1 h).trans k,B,h,C,w⟩
 ·refine(I.hok b u q).stay (λc v l r=>(d.2 c ?_).trans r) (λ_ r=>r) λ_ _ r=>r;rintro rfl;rcases l with z|z
  ·rw[<- z,I.free]at q;cases q
  ·rw[I.free]at z;cases z
def bKc(K:bYk)(Rf:Nat)(Q:VK):XK:=λcls b a=>∃ (C d:Nat)(t:Str),cls= .ref C/\b=some d/\vS K C/\cZv K C (.ref Rf)=some true/\a d=some (.xd [("words",.str t)])/\Q (.str t) a
section
variable {X:Cx}{pins:List (Nat×Obj)}{σ:St}{H:Hp}{s:bYl}
theorem Inv.recs{h':Heap}{ch:List Nat}(I:Inv X pins σ H s)(j:∀b∈ch,s.heap.objs.size<=b\/(X.s₀.heap.objs.size<=b/\b≠X.env.locals/\(∀x c,X.env.cells.lookup x=some c->c≠b)/\∀p∈X.pn++pins,p.1≠b))(m:∀b∈ch,H b=none) (keep:∀b o,b∉frs X.stack->b∉ch->s.heap.get? b=some o->h'.get? b=some o) (a:∀b o,b∉ch->s.heap.get? b=some o->∃k,h'.get? b=some {o with slots:=k}):Inv X pins σ H {s with heap:=h'}:=by
 have h:HOk X.prog X.w H h':=λb u q=>(I.hok b u q).stay (λc v l r=>by
  have d:H c≠none:=by
   rcases l with z|z
   ·rw[z,q];simp
   ·rw[z];simp
  exact keep c v (λz=>d (I.stkFree c z)) (λz=>d (m c z)) r) (λ_ r=>r) λ_ _ r=>r
 refine I.call (g':=s.gens) (t':=s.toks) (d':=s.drawn) (ch:=ch) ⟨λb o q _ i g=>keep b o i g q,λb o q _ _ g=>a b o g q,λ_ _ _ n _=>n,λb o q g=>?_,λ_ _ q=>q,λ_ _ _ q=>q,λ_ y q=>⟨#[],by rw[q];simp⟩⟩ h I.bare λb i=>?_
 ·obtain⟨k,z⟩:=a b o g q;exact⟨_,z⟩
 ·rcases j b i with z|⟨z1,z2,z3,z4⟩
  ·refine⟨.inr (bYT I.sz z),λe=>?_,λx c q e=>?_,λp t e=>?_⟩
   ·rw[e]at z;exact absurd (bYJ I.lt z) (cQs _)
   ·obtain⟨v,o,f,_⟩:=I.cell x c q;rw[e]at f;exact absurd (bYJ (bYw f) z) (cQs _)
   ·have f:=(I.pin p t).1;rw[e]at f;exact absurd (bYJ (bYw f) z) (cQs _)
  ·exact⟨.inr z1,z2,z3,z4⟩
theorem bWw{body:List Stmt}{tb:XK->TS}{W n:Str}{i:Nat}{Rf:Nat}{cp p1 p2 p3 G tp:Pos}(hN:X.N.Nodup)(hi:X.N[i]? =some n)(hl:X.env.scope.names.lookup n=some .local)(hg:Gl X W)(hm:X.mg W=some (.ref Rf))(cr:vS X.K Rf) (a1:X.stack=X.env::X.outer) (c0:X.env.frame=some X.env.locals) (c8:X.calm=true) (c6:(n==("__debug__":Str))=false) (c5:(W==("__debug__":Str))=false) (c9:(n==("__classdict__":Str))=false) (hA:∀e,(X.A.mark (some (.ref e))).frames=X.A.frames) (j:∀ (pn:List (Nat×Obj))(xe:bYi->bYl->Prop)(E:XK),w9 (CXR X.prog X.w) {X with A:=X.A,calm:=X.calm,pn:=pn,xe:=xe} E->PSs {X with A:=X.A,calm:=X.calm,pn:=pn,xe:=xe} body (tb E)): PS X (.Try body [.ExceptHandler (some (.Name W cp)) (some n) [.Return (some (.Attribute (.Name n p1) "words" p2)) p3] G] [] [] tp) (λD σ H=>tb (bKc X.K Rf D.rt) D σ H):=by
 intro pins s σ H D I h;refine wpAny_Try_except ?_;have B:X.calm=true->X.A.handled=none:=I.ok.hd;have go:∀ (a0:List (Nat×Obj))(m:St)(M:Hp)(Z:bYl)(g:bYi)(k:bYl),Inv X pins m M Z->CXR X.prog X.w X.stack M Z (bKc X.K Rf D.rt) g k->
   bYq (bYs X.prog X.w) X.A (cZJ g X.env) (λ_ U=>bYq (bYs X.prog X.w) X.A (cZp g none) (λ_ S=>bYq (bYs X.prog X.w) X.A (handleBy g X.env [.ExceptHandler (some (.Name W cp)) (some n) [.Return (some (.Attribute (.Name n p1) "words" p2)) p3] G]) (SP X pins D) X.xe S) X.xe U) X.xe k:=by
  intro _ m M Z g k J1 hx
  obtain⟨e,C',dx,a9,H',rfl,os,bare,un,b7,x,he,ht,a2,a4,hE⟩:=hx
  obtain⟨C,d,t,ec,ed,cC,hs,hd,hq⟩:=hE
  have eC:C'=C:=by cases ec;rfl
  subst eC
  have eD:dx=d:=by cases ed;rfl
  subst eD
  have Y:Inv X pins m H' k:=J1.call' os un b7 bare λb z=>absurd z (by simp)
  have big:∀b,Z.heap.objs.size<=b->X.s₀.heap.objs.size<=b/\b≠X.env.locals/\(∀x c,X.env.cells.lookup x=some c->c≠b)/\∀p∈X.pn++pins,p.1≠b:=λb z=>by
   refine⟨bYT J1.sz z,λe=>?_,λx c q e=>?_,λp G e=>?_⟩
   ·rw[e]at z;exact absurd (bYJ J1.lt z) (cQs _)
   ·obtain⟨v,o,O,_⟩:=J1.cell x c q;rw[e]at O;exact absurd (bYJ (bYw O) z) (cQs _)
   ·have O:=(J1.pin p G).1;rw[e]at O;exact absurd (bYJ (bYw O) z) (cQs _)
  refine aVf (base:=X.base) (outer:=X.outer) (L:=X.env.locals) (a1 ▸ Y.ok.frames) (a1 ▸ Y.stack) c0 x λh3 T y nT p=>?_
  have b0:frs X.stack=(X.env::X.outer).filterMap (·.frame):=by rw[a1];rfl
  have J3:Inv X pins m H' {k with heap:=h3}:=Y.recs (ch:= [e,a9]) (λb j=>by
    rcases bYr.mp j with rfl|j
    ·exact .inr (big _ a2)
    ·rw[bYz.mp j];exact .inr (big _ a4)) (λb j=>by
    rcases bYr.mp j with rfl|j
    ·exact he
    ·rw[bYz.mp j];exact ht)
   (λb o j R q=>p.keep b o (λz=>R (by simp[z])) (λz=>R (by cases z;simp)) (b0 ▸ j) q)
   (λb o R q=>p.slot b o (λz=>R (by simp[z])) (λz=>R (by cases z;simp)) q)
  have b9:H' T=none:=Y.hok.fresh nT
  have P:X.s₀.heap.objs.size<=T/\T≠X.env.locals/\(∀x c,X.env.cells.lookup x=some c->c≠T)/\∀p∈X.pn++pins,p.1≠T:=by
   refine⟨bYT Y.sz nT,λe=>?_,λx c q e=>?_,λp G e=>?_⟩
   ·rw[e]at nT;exact absurd (bYJ Y.lt nT) (cQs _)
   ·obtain⟨v,o,O,_⟩:=Y.cell x c q;rw[e]at O;exact absurd (bYJ (bYw O) nT) (cQs _)
   ·have O:=(Y.pin p G).1;rw[e]at O;exact absurd (bYJ (bYw O) nT) (cQs _)
  have mk:∀ {σ:St} {H:Hp} {s:bYl},Inv X pins σ H s->Inv {X with A:=X.A.mark (some (.ref e)),calm:=false,pn:=X.pn,xe:=λ_ _=>True} pins σ H s:=λJ=>J.mark (hA e) (λz=>by cases z) λp G=>G
  have un:∀ {σ:St} {H:Hp} {s:bYl},Inv {X with A:=X.A.mark (some (.ref e)),calm:=false,pn:=X.pn,xe:=λ_ _=>True} pins σ H s->Inv X pins σ H s:=λ{σ H s} J=>Inv.mark (X:={X with A:=X.A.mark (some (.ref e)),calm:=false,pn:=X.pn,xe:=λ_ _=>True}) J (hA e).symm B λp G=>G
  refine wpAny_handleBy_cons (codeAny_handlers_test ?_) (by intro q;cases q)
  refine uN (X:={X with A:=X.A.mark (some (.ref e)),calm:=false,pn:=X.pn,xe:=λ_ _=>True}) (mk J3) hg hm ?_ c5
  obtain⟨oe,vs,g1,g2,g3,g4,g5⟩:=y.obj
  refine aKv J3.kIn cC cr hs g1 g2 ?_
  refine codeAny_handlers_suite_as ?_
  refine bQV (s:={k with heap:=h3}) y λh4 y4 k4 t4=>?_
  have J4:Inv X pins m H' {k with heap:=h4}:=Inv.recs (s:={k with heap:=h3}) (h':=h4) (ch:= [T]) J3 (λb j=>by rw[bYz.mp j];exact .inr P) (λb j=>by rw[bYz.mp j];exact b9)
   (λb o _ R q=>k4 b o (λz=>R (by simp[z])) q) (λb o R q=>⟨o.slots,k4 b o (λz=>R (by simp[z])) q⟩)
  refine aQI (X:={X with A:=X.A.mark (some (.ref e)),calm:=false,pn:=X.pn,xe:=λ_ _=>True}) (v:= .ref e) (u:= .ref e) (mk J4) hN hi (.inl hl) rfl (λs5 J5 ⟨a,sb,ha⟩=>?_) (.inr hl)
  have a3:e≠a/\T≠a:=by
   rcases ha with z|z
   ·rw[z];exact⟨(big _ a2).2.1,P.2.1⟩
   ·exact⟨λq=>(big _ a2).2.2.1 n a z q.symm,λq=>P.2.2.1 n a z q.symm⟩
  have y5:qS s5.heap e (.ref C') (some dx) (some T):=y4.keeps λb o j q=>(sb.2 b (by
   rcases j with rfl|j
   ·exact a3.1
   ·cases j;exact a3.2)).trans q
  obtain⟨a7,d0,f1,f2,f3,f4,f5⟩:=y5.obj
  obtain⟨mA,b8,a5⟩:=J5.hok dx _ hd
  obtain⟨od,b2,c7⟩:=aZo b8
  obtain⟨u,hu,ru⟩:=aXT.some_of (v:=V.str t) (o:=mA "words") (a5 "words")
  obtain⟨m5,b3,a8⟩:=J5.loc
  obtain⟨u5,r5,l5⟩:=a8 i n (.ref e) hi (cZb (by rw[J4.len];exact(bYu.mp hi).1)) (.inl hl)
  obtain rfl:u5=Value.ref e:=r5
  have b1:m5 n=some (.ref e):=by
   rcases l5 with⟨_,z⟩|⟨z,_⟩
   ·exact z
   ·rw[show X.env.kindOf n=some .local from hl]at z;rcases z with z|z<;> cases z
  refine wpAny_execs_cons (wpAny_Return_some (aKd rfl ?_))
  refine wpAny_Name (wpAny_loadName_local J5.ok.kind hl b3 b1 ?_) c6
  refine bJi J5.kIn cC f1 f2 f3 (by obtain⟨c1,c2,c3,c4⟩:=a7;cases f4;rfl) b2 (by rw[c7,hu]) (aZa ru) ?_
  have J6:=(un J5).tok (s5.toks+1)
  obtain⟨m6,b6,_⟩:=J6.loc
  refine wpAny_nameGoes hl b6 (by rw[J6.ok.kind];rfl) λh7 m7 a6 b4=>?_
  exact⟨.str t,_,H',J6.names (t':=s5.toks+1+1) a6 b4,ru,hq⟩
 have b5:w9 (CXR X.prog X.w) {X with A:=X.A,calm:=X.calm,pn:=X.pn++pins,xe:=λg k=>bYq (bYs X.prog X.w) X.A (cZJ g X.env) (λ_ U=>bYq (bYs X.prog X.w) X.A (cZp g none) (λ_ S=>bYq (bYs X.prog X.w) X.A (handleBy g X.env [.ExceptHandler (some (.Name W cp)) (some n) [.Return (some (.Attribute (.Name n p1) "words" p2)) p3] G]) (SP X pins D) X.xe S) X.xe U) X.xe k} (bKc X.K Rf D.rt):=
  λa0 m M Z g k J hx=>go [] m M Z g k (Inv.mark (X:={X with A:=X.A,calm:=X.calm,pn:=X.pn++pins,xe:=λg k=>bYq (bYs X.prog X.w) X.A (cZJ g X.env) (λ_ U=>bYq (bYs X.prog X.w) X.A (cZp g none) (λ_ S=>bYq (bYs X.prog X.w) X.A (handleBy g X.env [.ExceptHandler (some (.Name W cp)) (some n) [.Return (some (.Attribute (.Name n p1) "words" p2)) p3] G]) (SP X pins D) X.xe S) X.xe U) X.xe k}) J rfl B λp Q=>cXb _ Q) hx
 have I':Inv {X with A:=X.A,calm:=X.calm,pn:=X.pn++pins,xe:=λg k=>bYq (bYs X.prog X.w) X.A (cZJ g X.env) (λ_ U=>bYq (bYs X.prog X.w) X.A (cZp g none) (λ_ S=>bYq (bYs X.prog X.w) X.A (handleBy g X.env [.ExceptHandler (some (.Name W cp)) (some n) [.Return (some (.Attribute (.Name n p1) "words" p2)) p3] G]) (SP X pins D) X.xe S) X.xe U) X.xe k} [] σ H s:=
  I.mark rfl B λp Q=>by simpa using Q
 have F:∀ {σ:St} {H:Hp} {s:bYl},Inv {X with A:=X.A,calm:=X.calm,pn:=X.pn++pins,xe:=λg k=>bYq (bYs X.prog X.w) X.A (cZJ g X.env) (λ_ U=>bYq (bYs X.prog X.w) X.A (cZp g none) (λ_ S=>bYq (bYs X.prog X.w) X.A (handleBy g X.env [.ExceptHandler (some (.Name W cp)) (some n) [.Return (some (.Attribute (.Name n p1) "words" p2)) p3] G]) (SP X pins D) X.xe S) X.xe U) X.xe k} [] σ H s->Inv X pins σ H s:=
  λ{σ H s} J=>⟨bJF J.ok,J.os,J.bare,J.base,J.loc,J.cell,J.free,J.freeC,λp Q=>J.pin p (by simpa using Q),J.hok,J.len⟩
 refine cQi (j _ _ _ b5 [] s σ H D I' h) (λf Z q=>?_) λ_ _ q=>q;cases f with
 |next=>obtain⟨l,M,J,q⟩:=q;exact yR pins Z l M D (F J) q
 |ret v=>obtain⟨u,l,M,J,r,q⟩:=q;exact⟨u,l,M,F J,r,q⟩
 |brk=>obtain⟨l,M,J,q⟩:=q;exact⟨l,M,F J,q⟩
 |cont=>obtain⟨l,M,J,q⟩:=q;exact⟨l,M,F J,q⟩
end
end L2
namespace L2
open PySem PySem.Spec PyProof.Rows
theorem aKJ{P:bYE}{w:bYK}{K:bYk}{mg mb:Str->Option bYi}{CX:CXT}{k:Nat}{fa a c T:Nat}{fd:cXd}{x:Str}{sp:Sp}{f:bYl}{vs:List bYi}{U:List Int} (KX:K.In f.heap) (G:f.heap.Ns bYN mg) (p:f.heap.Ns builtinsNs mb) (a3:∀x:Str,x≠"__name__"->mb x=bY3 x) (a0:f.heap.NoLimit) (hg:f.gens= #[]) (L:f.heap.get? a=some {cls:= .type "list",data:= .seq vs.toArray}) (hi:cXN vs U) (hl:U.length<=bYI) (hr:vK k callerA) (hC:cXk f.heap c T) (M:f.heap.get? T=some (cXP #[])) (a8:K.lookup T=none) (a7:∃X C,mg "__builtins__"=some (.ref X)/\X≠builtinsNs/\f.heap.get? X=some C/\C.cls= .type "module"/\C.dict=some builtinsNs/\C.data= .plain) (F:∀base:Heap,K.In base->base.Ns bYN mg->cXk base c T->base.BuiltinsAt mg T->y8 P w K mg base CX k fa fd [x] sp) (E:∀ (s:bYl)(u:bYi),BindsTo s fd ⟨[u],[]⟩ [(x,u)]) (a5:∀H:Hp,H T=some (.tbl #[])->SqL K H a (U.map V.int)->sp [.ref a] H (λv _=>v= .bl true) λ_ _ _=>False) (a2:∀H e j,CX [] H f (λ_ _ _=>False) e j->False): cXw (bYs P w) callerA (.call (.ref fa) ⟨[.ref a],[]⟩) (λr j=>r= .ok (.ret (.bool true))/\OldK f.heap j.heap/\j.os=f.os/\AllBare j.gens) f:=by
 have rv:=uV hi;have Z:=hi.length;have N:a≠T:=λz=>by rw[z,M]at L;cases L
 have B:∀H:Hp,H T=some (.tbl #[])->SqL K H a (U.map V.int)->HOk P w H f.heap->(∀b,H b≠none->b=T\/(b=a/\∃o xs,H b=some (.frz o (.lst xs))))->(H a≠none->K.lookup a=none)->
   cXw (bYs P w) callerA (.call (.ref fa) ⟨[.ref a],[]⟩) (λr j=>r= .ok (.ret (.bool true))/\OldK f.heap j.heap/\j.os=f.os/\AllBare j.gens) f:=by
  intro H hH hS Y hA hK
  have i:∀ {b:Nat} {o:Obj},f.heap.get? b=some o->H b=none->(aKz f.heap H).get? b=some o:=λe n=>bQO e n
  have l:∀ {b:Nat} {o:Obj},f.heap.get? b=some o->(∀ps,o≠cXP ps)->(∀t,o≠ {cls:= .type "list",data:= .seq t})->H b=none:=λ{b o} e n1 n2=>by
   cases q:H b with
   |none=>rfl
   |some u=>
    rcases hA b (by rw[q];simp)with z|⟨z,_⟩
    ·rw[z,M]at e;cases e;exact absurd rfl (n1 _)
    ·rw[z,L]at e;cases e;exact absurd rfl (n2 _)
  have y:∀ {b:Nat} {m:Str->Option bYi},f.heap.Ns b m->(aKz f.heap H).Ns b m:=λ{b m} ⟨o,es,ep,e,d,r⟩=>⟨o,es,ep,i e (l e (λps z=>by rw[z]at d;cases d) (λt z=>by rw[z]at d;cases d)),d,r⟩
  have O:K.In (aKz f.heap H):=λb o e=>i (KX b o e) (by
   cases q:H b with
   |none=>rfl
   |some u=>
    rcases hA b (by rw[q];simp)with z|⟨z,_⟩
    ·rw[z,a8]at e;cases e
    ·subst z;rw[hK (by rw[q];simp)]at e;cases e)
  have hM:Mod K mg (aKz f.heap H):=⟨O,y G,⟨mb,y p,a3⟩,let ⟨mc,h1,h2⟩:=a0;⟨mc,y h1,h2⟩⟩
  have e0:bZ5 P w K mg (aKz f.heap H) callerA [] f H:=⟨rfl,hM,λb o e=>bJE e,cXS (aKA _ _),trivial,λb p=>absurd (show b∈([]:List Nat)from p) (by simp),Y,.of_eq hg⟩
  have a4:cXk (aKz f.heap H) c T:=by
   obtain⟨o,vs,file,tf,I,tg,a6,text,tt,e,R,r⟩:=hC;exact⟨o,vs,file,tf,I,tg,a6,text,tt,i e (l e (λps z=>by rw[z]at R;cases R) (λt z=>by
    rw[z]at R;have c':Value.type "list"=Value.type "code":=R;injection c' with c''
    exact absurd c'' (by decide))),R,r⟩
  have a9:(aKz f.heap H).BuiltinsAt mg T:=by
   obtain⟨X,C,b1,b2,J,b4,b5,S⟩:=a7;refine⟨X,C,b1,b2,λz=>?_,λz=>?_,i J (l J (λps z=>by rw[z]at b4;cases b4) (λt z=>by rw[z]at S;cases S)),b4,b5,S⟩
   ·obtain⟨o,es,ep,e,d,_⟩:=G;rw[z,e]at J;cases J;rw[d]at S;cases S
   ·rw[z,M]at J;cases J;cases b4
  refine cQ7 ((F _ O (y G) a4 a9).run callerA [] f H ⟨[.ref a],[]⟩ [.ref a] [.ref a] _ _ hr e0 (E f (.ref a)) (.cons rfl .nil) (a5 H hH hS)) λr j h=>?_
  cases r with
  |error e=>exact(a2 H e j h).elim
  |ok fl=>
   cases fl with
   |next=>exact cQN h
   |brk=>exact cQN h
   |cont=>exact cQN h
   |ret u=>
    obtain⟨v,H',os,bare,un,D,r',q⟩:=h;have q':v= .bl true:=q;subst q';obtain rfl:u=Value.bool true:=r';obtain⟨more,hm⟩:=un.tbls T _ hH;have a1:j.heap.get? T=some (cXP (#[]++more)):=D T _ hm;have get:∀b o,b≠T->f.heap.get? b=some o->j.heap.get? b=some o:=λb o g e=>by
     cases q:H b with
     |none=>exact un.keep b o e q (by intro z;exact absurd (show b∈([]:List Nat)from z) (by simp)) (by simp)
     |some u=>
      rcases hA b (by rw[q];simp)with z|⟨_,C,xs,z⟩
      ·exact absurd z g
      ·have z2:=un.frzs b C _ z;obtain⟨e1,_⟩:=Y b _ z;obtain⟨e2,_⟩:=D b _ z2;rw[e]at e1;cases e1;exact e2
    refine⟨rfl,⟨λb o e=>?_,λb o e=>?_⟩,os,bare⟩
    ·by_cases g:b=T
     ·subst g;rw[M]at e;cases e;exact .inr (.inl ⟨(hC.tab M).isCodeTable,rfl, #[],more,rfl,a1⟩)
     ·exact .inl (get b o g e)
    ·by_cases g:b=T
     ·exact⟨_,by rw[g];exact a1⟩
     ·exact⟨o,get b o g e⟩
 have Q:∀H:Hp,x4 P w H f.heap T (.tbl #[]):=λH=>M;cases hk:K.lookup a with
 |some o=>
  have e:=KX a o hk;rw[L]at e;cases e;refine B (λb=>if b=T then some (.tbl #[])else none) (if_pos rfl) (.inr ⟨_,vs.toArray,_,hk,rfl,rfl,rfl,by rw[bYB,Z];exact hl,by simpa using rv⟩) (λb u z=>?_) (λb z=>?_) λz=>absurd (if_neg N) z
  ·by_cases g:b=T
   ·have A:=(if_pos g).symm.trans z;cases A;subst g;exact Q _
   ·have A:=(if_neg g).symm.trans z;cases A
  ·by_cases g:b=T
   ·exact .inl g
   ·exact absurd (if_neg g) z
 |none=>
  refine B (λb=>if b=T then some (.tbl #[])else if b=a then some (.frz {cls:= .type "list",data:= .seq vs.toArray} (.lst (U.map V.int)))else none) (if_pos rfl)
   (.inl (.inr ⟨{cls:= .type "list",data:= .seq vs.toArray},by show(if a=T then _ else _)=_;rw[if_neg N,if_pos rfl]⟩)) (λb u z=>?_) (λb z=>?_) λ_=>hk
  ·by_cases g:b=T
   ·have A:=(if_pos g).symm.trans z;cases A;subst g;exact Q _
   ·have z1:=(if_neg g).symm.trans z;by_cases p:b=a
    ·have A:=(if_pos p).symm.trans z1;cases A;subst p;exact⟨L,by rw[bYo];exact hl,vs,_,rv,L⟩
    ·have A:=(if_neg p).symm.trans z1;cases A
  ·by_cases g:b=T
   ·exact .inl g
   ·by_cases p:b=a
    ·exact .inr ⟨p,_,_,by show(if b=T then _ else _)=_;rw[if_neg g,if_pos p]⟩
    ·exact absurd (by show(if b=T then _ else _)=_;rw[if_neg g,if_neg p]) z
theorem bZt{l:PySem.W.OpenLaw}{n k:Nat}{q:bYE}{loose:List Str}{P:(Str->Option bYi)->Heap->Prop}{J:bYK->Heap->Prop}{d:DefRec}{K:Params->bYk}{CX:CXT}{sp:Nat->bYk->Sp}{x:Str}{T:Nat} (S:l.most=some n) (B:n<=bYI) (L:d.params.defaults= []) (X:vK k callerA) (hY:∀ (w:bYK)(h:Heap),J w h->(K w.params).In h) (C:∀ (w:bYK)(h:Heap),J w h->h.get? T=some (cXP #[])) (F:∀ (w:bYK)(mg:Str->Option bYi)(t:Nat)(h:Heap),(K w.params).In h->h.Ns bYN mg->mg d.name=some (.ref t)-> ∃ (z:cXd)(c:Nat),cZV (K w.params) c T=true/\(K w.params).lookup T=none/\(∀ (s:bYl)(u:bYi),BindsTo s z ⟨[u],[]⟩ [(x,u)])/\ ∀base:Heap,(K w.params).In base->base.Ns bYN mg->cXk base c T->base.BuiltinsAt mg T->y8 l.prog w (K w.params) mg base CX k t z [x] (sp T (K w.params))) (I:∀ (K:bYk)(H:Hp)(a:Nat)(r:List Int),r.length<=n->H T=some (.tbl #[])->SqL K H a (r.map V.int)->sp T K [.ref a] H (λv _=>v= .bl true) λ_ _ _=>False) (y:∀ (H:Hp)(s:bYl)(e:bYi)(M:bYl),CX [] H s (λ_ _ _=>False) e M->False): PySem.W.WalkO q loose P J l.row.toRowW d [] (λf N=>PySem.call f N):=by
 refine Att.aZ0 S L λw s₀ p mg mb t o pm cd Q a N r G Y ho hd O D m j i Z=>?_;have E:=hY w _ Y;obtain⟨z,c,R,A,hb,hF⟩:=F w mg t _ E G.T.g D;exact aKJ E G.T.g G.T.b G.T.builtins G.T.nolimit Z m j (bYT i B) X (PySem.W.codeHd_of_K E R) (C w _ Y) A G.T.bmain hF hb (λH U hS=>I _ H a r i U hS) λH e M=>y H p e M
end L2
namespace Thr
open PySem L2 PyProof.Rows
open Stree (qE u4 zW)
def aZb(x:Str):Stmt->Bool
 |.FunctionDef n _ _ _ _ _ _ _ _ _=>n==x
 |_=>false
def xF(x:Str):Stmt:=(PySem.Challenge.pw_letterdesk_k04_answers.main.body.find? (aZb x)).getD (.Pass ⟨0,0,0,0⟩)
abbrev aJJ:Stmt:=xF "thread"
abbrev aYK:Stmt:=xF "top_of"
abbrev aJC:Stmt:=xF "answers_to_each"
theorem xD:bY3 "len"=some (.builtin "len"):=dk
theorem wQ:bY3 "sorted"=some (.builtin "sorted"):=dk
theorem jJ:bY3 "int"=some (.type "int"):=dk
theorem vD:bY3 "list"=some (.type "list"):=dk
theorem vU:bY3 "tuple"=some (.type "tuple"):=dk
structure vI(mg:Str->Option bYi):Prop where
 b_len:mg "len"=none
 b_sorted:mg "sorted"=none
 b_isinstance:mg "isinstance"=none
 b_int:mg "int"=none
 b_str:mg "str"=none
 b_bool:mg "bool"=none
 b_list:mg "list"=none
 b_tuple:mg "tuple"=none
 b_range:mg "range"=none
theorem wW{a H:Hp}{c:Nat}{o:HO}(k:xA a H)(h:a c=none):xA a (upd H c o):=λb u q=>by rw[yI (yJ q h)];exact k b u q
theorem aWf{K:bYk}{a:Nat}{xs:List V}{E:List Nat}{σ:L2.St}{D:Nat}{Q:VK}{H:Hp}(hl:SqL K H a xs)(t:H D=none)(hz:xs.length<=1000) (G:∀ (d:Hp)(c:List Nat),xA H d->d D=some (.lst (c.map V.ref))->c.length=xs.length->c.Nodup->(∀b∈c,d b=some (.lst [])/\H b=none/\b≠D)->Q (.ref D) d):bVL (Itl K a) E bKX (bKU bZg) σ D Q (upd H D (.lst [])):=by
 refine⟨λi m n d=>m=xs.length - i/\i<=xs.length/\∃c:List Nat,n=c.map V.ref/\c.length=i/\c.Nodup/\xA H d/\d D=some (.lst n)/\∀b∈c,d b=some (.lst [])/\H b=none/\b≠D,
  ⟨xs.length,by simp,cQe _,[],rfl,rfl,.nil,yG t _,yB,λb f=>nomatch f⟩,?_⟩
 rintro i m n d ⟨rfl,I,c,rfl,q,s,k,j,g⟩;refine⟨j,?_⟩;have u:=xA.seq k hl;by_cases l:i<xs.length
 ·refine .inr ⟨⟨xs,xs[i],u,bYh l⟩,λv J B=>?_⟩;obtain⟨rfl,y⟩:=B;refine⟨z0,λp h=>?_⟩;have e:p≠D:=bY0 (yJ j h);have o:p∉c:=λz=>by rw[(g p z).1]at h;cases h
  refine⟨zlt (by rw[bYo];omega),by rw[yI (bY0 e)];exact j,xs.length - (i+1),by omega,rfl,by omega,c++ [p],by simp,by simp[q],?_,?_,yB,λb f=>?_⟩
  ·rw[cXI];exact⟨s,by simp,λx F y C z=>by rw[bYz.mp C]at z;exact o (z ▸ F)⟩
  ·exact wW (k.trans (yG h _)) t
  ·rcases bYX.mp f with f|f
   ·obtain⟨w,A,r⟩:=g b f;exact⟨by rw[yI r,yI (yJ w h)];exact w,A,r⟩
   ·rw[bYz.mp f];exact⟨by rw[yI e];exact yB,k.fresh h,e⟩
 ·refine .inl ⟨⟨xs,u,by omega⟩,G d c k j (by omega) s g⟩
def wM:Option Nat->V
 |none=> .non
 |some j=> .int (j:Nat)
def vM(n:Nat)(L:Nat->Option Nat):List V:=(bYv n).map λi=>wM (L i)
def qI(n:Nat)(D:Nat->Int):List V:=(bYv n).map λi=> .int (D i)
theorem u9{n i:Nat}{L:Nat->Option Nat}(h:i<n):(vM n L)[i]? =some (wM (L i)):=by unfold vM;rw[bYC,cXh h];rfl
theorem aV2{n i:Nat}{D:Nat->Int}(h:i<n):(qI n D)[i]? =some (.int (D i)):=by unfold qI;rw[bYC,cXh h];rfl
inductive bWO(K:bYk)(vs:List V)(H:Hp)(Q:VK)(_:XK):Prop|mk (a:Nat) (n:Nat) (L:Nat->Option Nat) (rk:Nat->Nat) (i:Nat) (_:vs= [.ref a,.int (i:Nat)]) (_:SqL K H a (vM n L)) (_:Fm.Ok n L rk) (_:i<n) (_:Q (.int (Fm.tp L rk i:Nat)) H)
def z9(T:Nat):Hp->Prop:=qW ⟨116,48,116,71⟩ "answers_to_each.<locals>.<lambda>" T
structure bKN(n:Nat)(L:Nat->Option Nat)(D:Nat->Int)(kd:Nat->List Nat):Prop where
 mem:∀j i,i∈kd j↔i<n/\L i=some j
 ord:∀j,(kd j).Pairwise λx y=>zW (D y,(y:Int)) (D x,(x:Int))=true
inductive bVz(T:Nat)(vs:List V)(H:Hp)(Q:VK)(_:XK):Prop|mk (la da:Nat) (n:Nat) (L:Nat->Option Nat) (rk:Nat->Nat) (D:Nat->Int) (_:vs= [.ref la,.ref da]) (_:H la=some (.lst (vM n L))) (_:H da=some (.lst (qI n D))) (_:Fm.Ok n L rk) (_:n<=63) (_:z9 T H) (_:∀ (H':Hp)(a:Nat)(rs:List Nat)(kd:Nat->List Nat),x5 H H'->z9 T H'->H' a=some (.lst (rs.map V.ref))->rs.length=n->(∀j b,rs[j]? =some b->H' b=some (.lst ((kd j).map λi=>V.int (i:Nat))))->bKN n L D kd->Q (.ref a) H')
inductive aVJ(T:Nat)(vs:List V)(H:Hp)(Q:VK)(_:XK):Prop|mk (la da:Nat) (n:Nat) (L:Nat->Option Nat) (rk:Nat->Nat) (D:Nat->Int) (i:Nat) (_:vs= [.ref la,.ref da,.int (i:Nat)]) (_:H la=some (.lst (vM n L))) (_:H da=some (.lst (qI n D))) (_:Fm.Ok n L rk) (_:n<=63) (_:i<n) (_:z9 T H) (_:∀ (H':Hp)(r:Nat)(told:List Nat),(∀b u,(∀ps,u≠HO.tbl ps)->H b=some u->b≠r)->x5 H H'->z9 T H'->H' r=some (.lst (told.map λi=>V.int (i:Nat)))->(told.Pairwise λx y=>u4 (Fm.rd L D rk x) (Fm.rd L D rk y)=true)->(∀k,k∈told↔k<n/\Fm.tp L rk k=Fm.tp L rk i)->Q (.ref r) H')
section
variable {K:bYk}
theorem bX4:yM ["links","number","top"] ["links","number"] (yH aYK):=scM
theorem bXu(T:vI mg)(F:Fun K "top_of" "top_of" aYK f fd):y8 P w K mg base CX0 1 f fd ["links","number"] (bWO K):=by
 have u:=bX4;refine F.ok (k:=0) u (λv A outer s x D Q E C h=>?_);obtain⟨a,n,L,b,i,rfl,r,o,y,q⟩:=h;refine⟨_,(yC (yT (i:=2) (pv 1)) (yC (jC cQd (yN wG (yL yK (pv 0) (pv 2)) zB) (yF (yT (i:=2) (yL yK (pv 0) (pv 2))))) (yF (yP (pv 2))))),?_⟩;refine⟨_,rfl,?_⟩;refine⟨λm σ H=>∃t:Nat,σ= [some (.ref a),some (.int (i:Nat)),some (.int (t:Nat))]/\H=x/\t<n/\Fm.tp L b t=Fm.tp L b i/\m=b t,⟨b i,i,rfl,rfl,y,rfl,rfl⟩,?_⟩;rintro m σ H ⟨t,rfl,rfl,e,c,rfl⟩;refine⟨_,rfl,_,rfl,a,_,_,_,rfl,rfl,r,yS (u9 e),rfl,_,rfl,?_⟩;cases hl:L t with
 |none=>refine onF rfl ⟨_,rfl,?_⟩;rw[Fm.zT hl]at c;rw[c];exact q
 |some j=>obtain⟨B,g⟩:=o.lt t j e hl;refine onT rfl ⟨λd l=>∃p,p<b t/\∃t:Nat,d= [some (.ref a),some (.int (i:Nat)),some (.int (t:Nat))]/\l=H/\t<n/\Fm.tp L b t=Fm.tp L b i/\p=b t,λd l z=>z,?_⟩;refine⟨_,rfl,_,rfl,a,_,_,_,rfl,rfl,r,yS (u9 e),?_⟩;rw[hl];exact⟨b j,g,j,rfl,rfl,B,by rw[<- c,Fm.uA o e hl],rfl⟩
theorem bWE:yM ["links","dates","answers","letter"] ["links","dates"] (yH aJC):=scM
theorem bWg:xH ["links","dates","answers","letter"] (yH aJC) "link" [] [] (lsN [(".0",.local),("link",.local)]):=
 lcM
theorem bJw:xH ["links","dates","answers","letter"] (yH aJC) "n" ["dates"] [1] (lsN [("n",.local),("dates",.free)]):=
 lcM
theorem bWm{oc:bYi}{od an:Option Nat}{b5:Array (Option bYi)}{kV a2 pm ct:bYi}(T:vI mg)(C:cXk base c Tb)(hB:base.BuiltinsAt mg Tb) (lk:K.lookup f=some ⟨oc,od,.func (cQj "answers_to_each" "answers_to_each" (xW aJC) (xO aJC) (yH aJC) .none kV a2 pm an (.ref c) ct),b5⟩) (b3:cQY K (.ref c) "answers_to_each"=true): y8 P w K mg base CX0 2 f (cQj "answers_to_each" "answers_to_each" (xW aJC) (xO aJC) (yH aJC) .none kV a2 pm an (.ref c) ct) ["links","dates"] (bVz Tb):=by
 have sc:=bWE;refine bJm (k:=1) lk b3 sc (λvs H Q E h=>by obtain⟨M,da,n,L,rk,D,rfl,_⟩:=h;rfl) λA outer s H0 vs Q E hr h=>?_;suffices S:∃t,PSs (aXi CX0 P w K mg base ["links","dates","answers","letter"] "answers_to_each" (yH aJC) f (.ref c) A outer s H0 E).nox (xO aJC) t/\t {nx:=λ_ H'=>Q .non H',rt:=Q} (start ["links","dates","answers","letter"] vs) H0 by obtain⟨t,g,v⟩:=S;exact⟨t,g.nox,v⟩
 obtain⟨M,da,n,L,rk,D,rfl,r,b4,ho,hn,hT,q⟩:=h;refine⟨_,(yC (aZy (i:=2) bWg rfl sc.nd rfl rfl (xI (pv 0)) (λ_ _ _ _ _=>z7) (λ_ _ _ _ _=>(y3 yD))) (yC (wE cQd rfl (xI (aWF (qual:="answers_to_each.<locals>.<lambda>") rfl T.b_sorted rfl T.b_range (yU yQ rfl T.b_len xD (yA (pv 0) yD)) bJw rfl rfl rfl C hB hr rfl rfl (λ_ _ _ _ _=>rfl) (λ_ _ _ _ _ _ _=>xM (yA (yL ixK (pv 1) (pv 0)) (yA (pv 0) yD))))) (y9 (i:=3)) (yF (y6 (yN wG (yL yK (pv 0) (pv 3)) zB) (yF (yY (uG bYS bYY bYZ xG (yL yK (pv 2) (yL yK (pv 0) (pv 3))) (yA (pv 3) yD)))) yR))) (yF (yP (pv 2))))),?_⟩;have G:(vM n L).length=n:=by simp[vM]
 refine⟨_,rfl,M,rfl,⟨_,SqL.of r⟩,λa ha=>aWf (SqL.of r) ha (by omega) λH1 d U hD a1 nd y=>?_⟩;rw[G]at a1;dsimp only[yW];have a6:=U _ _ r;have Z:=U _ _ b4;have b2:z9 Tb H1:=by
  rcases hT with t|⟨c',t1,Y⟩
  ·exact .inl (U _ _ t)
  ·exact .inr ⟨c',U _ _ t1,U _ _ Y⟩
 refine⟨_,rfl,M,_,rfl,.inl (SqL.of a6),?_⟩;rw[G];refine⟨n,rfl,by omega,b2,λi=>(D i,(i:Int)),λi j _ _ z=>?_,λi H3 O k3 t3 R hR=>?_,λH5 l out k5 t5 nl J a8 h5=>⟨l,rfl,⟨_,SqL.of h5⟩,?_⟩⟩
 ·have:=congrArg Prod.snd z;simp only at this;omega
 ·refine⟨_,rfl,_,rfl,da,_,_,_,rfl,rfl,SqL.of (k3.lst Z),yS (aV2 O),_,rfl,z2,λp hp=>hR p _ (yG hp _).t ?_ yB⟩;rcases t3 with t|⟨_,t,_⟩
  ·rw[yI (yJ t hp)]
  ·rw[yI (yJ t hp)]
 ·have hm:∀i∈out,i<n:=λi O=>bYO.mp (J.mem_iff.mp O);have kk:x5 H0 H5:=U.t.trans k5;have nr:∀b o,H0 b=some o->b∉d:=λb o e z=>by rw[(y b z).2.1]at e;cases e
  have r5:∀b∈d,H5 b=some (.lst []):=λb u=>k5.lst (y b u).1;have nT:Tb∉d:=λz=>by
   have e:=r5 _ z;rcases t5 with t|⟨_,t,_⟩
   ·rw[t]at e;cases e
   ·rw[t]at e;cases e
  have a9:l∉d:=λz=>by rw[(y l z).1]at nl;cases nl
  have a0:a∉d:=λz=>(y a z).2.2 rfl;have a7:H5 a=some (.lst (d.map V.ref)):=k5.lst hD;refine zK (xs:=out.map λi=>V.int (i:Nat)) (λt σ H=>∃lt,σ= [some (.ref M),some (.ref da),some (.ref a),lt]/\(∀b o,H5 b=some o->b∉d->H b=some o)/\
   ∀j b,d[j]? =some b->H b=some (.lst (((out.take t).filter λi=>decide (L i=some j)).map λi=>V.int (i:Nat)))) ?_ ?_ ?_ ?_
  ·exact⟨none,rfl,λb o e _=>e,λj b u=>r5 b (bYA u)⟩
  ·rintro t σ H ht ⟨lt,rfl,g,v⟩;exact SqL.of (g _ _ h5 a9)
  ·rintro t x σ H S ⟨lt,rfl,g,v⟩;rw[bYC]at S;cases he:out[t]? with
   |none=>rw[he]at S;cases S
   |some i=>
    rw[he]at S;cases S;have O:=hm i (bYA he);have a5:out.take (t+1)=out.take t++ [i]:=by rw[cQw,he];rfl
    have B:H M=some (.lst (vM n L)):=g _ _ (kk.lst r) (nr _ _ r);have b1:H a=some (.lst (d.map V.ref)):=g _ _ a7 a0;dsimp only[yW];refine⟨_,rfl,_,rfl,M,_,_,_,rfl,rfl,SqL.of B,yS (u9 O),rfl,_,rfl,?_⟩;cases hl:L i with
    |none=>
     refine onF rfl ⟨_,rfl,g,λj b u=>?_⟩;rw[v j b u,a5,cQr];have: [i].filter (λi=>decide (L i=some j))= []:=by simp[hl]
     rw[this,cQu]
    |some j=>
     obtain⟨hj,_⟩:=ho.lt i j O hl;have I:j<d.length:=by omega
     have u:=bYh I;have a3:=v j _ u;refine onT rfl ?_;refine⟨_,rfl,_,rfl,_,rfl,M,_,_,_,rfl,rfl,SqL.of B,yS (u9 O),?_⟩;rw[hl];refine⟨a,_,_,.ref d[j],rfl,rfl,SqL.of b1,yS (by rw[bYC,u];rfl),.inl ⟨rfl,_,SqL.of a3⟩,_,rfl,d[j],_,_,rfl,rfl,a3,zlt ?_,_,rfl,λb o e a4=>?_,λX b m=>?_⟩
     ·rw[bYo];have:=cQf (λi=>decide (L i=some j)) (out.take t);have h3:=List.length_take_le t out;have h4:out.length=n:=by rw[J.length_eq,bY8]
      have h5:(out.take t).length<=out.length:=by rw[cQA];omega
      omega
     ·rw[yI (λz=>a4 (by rw[z];exact cXj I))];exact g b o e a4
     ·rw[a5,cQr];by_cases N:X=j
      ·subst N;rw[u]at m;cases m;rw[yB];have: [i].filter (λi=>decide (L i=some X))= [i]:=by simp[hl]
       rw[this,cXo];rfl
      ·have b0:b≠d[j]:=λz=>by
        have h6:X<d.length:=(bYu.mp m).1;have h7:d[X]=b:=(bYu.mp m).2;exact N ((cQ3 (h₀:=h6) (h₁:=I) nd).mp (h7.trans z))
       rw[yI b0,v X b m];have: [i].filter (λi=>decide (L i=some X))= []:=by simp[hl,bY0 N]
       rw[this,cQu]
  ·rintro σ H ⟨lt,rfl,g,v⟩;rw[bYo,cQn]at v;refine⟨_,rfl,q H a d (λj=>out.filter λi=>decide (L i=some j)) (λb o nt e=>g b o (kk b o nt e) (nr b o e)) ?_ (g _ _ a7 a0) a1 v ⟨λj i=>?_,λj=>?_⟩⟩
   ·rcases t5 with t|⟨c',t1,Y⟩
    ·exact .inl (g _ _ t nT)
    ·exact .inr ⟨c',g _ _ t1 nT,g _ _ Y λz=>by rw[r5 _ z]at Y;cases Y⟩
   ·rw[cQl,J.mem_iff,bYO,decide_eq_true_eq]
   ·exact(a8.imp λh=>by simpa using h).sublist cXg
end
theorem aWc{n:Nat}{L:Nat->Option Nat}{D:Nat->Int}{a:Nat->List Nat}(h:bKN n L D a)(j:Nat):(a j).length<=n:=
 Fm.wD ((h.ord j).imp λ{x y} e z=>by rw[z,Stree.wL]at e;cases e) λx b=>((h.mem j x).mp b).1
theorem bVK{n:Nat}{L:Nat->Option Nat}{D:Nat->Int}{rk:Nat->Nat}{a:Nat}{b nx:List Nat}(W:Fm.aZU n L D rk a b nx):nx.length<=n:=
 Fm.wD (W.aa.imp λ{x y} e z=>by have:=e x (List.prefix_refl _);rw[z,Stree.vC]at this;cases this) λx c=>(W.al x c).1
section
variable {K:bYk}
theorem aYZ:yM ["links","dates","number","answers","told","ahead","letter"] ["links","dates","number"] (yH aJJ):=scM
theorem aYe(T:vI mg)(g:FnG P w K mg base 2 "answers_to_each" ["links","dates"] (bVz Tb))(p:FnG P w K mg base 2 "top_of" ["links","number"] (bWO K))(F:Fun K "thread" "thread" aJJ f fd): y8 P w K mg base CX0 3 f fd ["links","dates","number"] (aVJ Tb):=by
 have sc:=aYZ;refine F.ok (k:=2) sc (λa6 A outer s H0 vs Q E hr h=>?_);obtain⟨la,da,n,L,y,D,i,rfl,X,a3,ho,hn,hi,hT,q⟩:=h;refine⟨_,(yC (yT (i:=3) (xK g hr rfl (yA (pv 0) (yA (pv 1) yD)))) (yC (yT (i:=4) (y3 yD)) (yC (yT (i:=5) (y3 (yA (xK p hr rfl (yA (pv 0) (yA (pv 2) yD))) yD))) (yC (jC cQd (yN aQW (yU yQ rfl T.b_len xD (yA (pv 5) yD)) yE) (yC (yT (i:=6) (bZN bYS PySem.F.slot_list_pop PySem.F.type_list_pop bZL (pv 5))) (yC (yY (uG bYS bYY bYZ xG (pv 4) (yA (pv 6) yD))) (yF (yY (uG bYS PySem.F.slot_list_extend PySem.F.type_list_extend aKU (pv 5) (yA (yL yK (pv 3) (pv 6)) yD))))))) (yF (yP (pv 4))))))),?_⟩;refine⟨_,rfl,_,rfl,la,da,n,L,y,D,rfl,X,a3,ho,hn,hT,λO a rs kd k1 t1 ha a5 a4 hk=>?_⟩;dsimp only[yW];refine⟨z0,λx M=>?_⟩;dsimp only[yW];have k2:=yG M (.lst []);refine⟨_,rfl,_,rfl,la,n,L,y,i,rfl,SqL.of (k2 _ _ (k1.lst X)),ho,hi,z1,λo G=>?_⟩;dsimp only[yW];have Z:O o=none:=k2.fresh G;have C:x≠o:=yJ yB G;have k3:xA O (upd (upd O x (.lst [])) o (.lst [V.int (Fm.tp L y i:Nat)])):=k2.trans (yG G _);refine⟨λm σ H=>∃ (c J:List Nat)(lt:Option V),σ= [some (.ref la),some (.ref da),some (.int (i:Nat)),some (.ref a),some (.ref x),some (.ref o),lt]/\xA O H/\H x=some (.lst (c.map λi=>V.int (i:Nat)))/\
   H o=some (.lst (J.map λi=>V.int (i:Nat)))/\Fm.aZU n L D y (Fm.tp L y i) c J.reverse/\m=n - c.length,
  ⟨n,[],[Fm.tp L y i],none,rfl,k3,by rw[yI C];exact yB,yB,Fm.aZU.start ho hi,by simp⟩,?_⟩
 rintro m σ H ⟨c,J,lt,rfl,r,a0,B,W,rfl⟩;refine⟨_,rfl,o,_,rfl,.inl (SqL.of B),_,_,rfl,rfl,_,rfl,?_⟩;rcases List.eq_nil_or_concat J with rfl|⟨d,v,rfl⟩
 ·refine onF rfl ⟨_,rfl,q H x c (λb u n e=>yJ (k1 b u n e) M) (k1.trans r.t) ?_ a0 W.tt λk=>W.done k⟩;rcases t1 with t|⟨c',t1,t2⟩
  ·exact .inl (r _ _ t)
  ·exact .inr ⟨c',r _ _ t1,r _ _ t2⟩
 ·rw[List.concat_eq_append]at B W ⊢;have R:decide ((((d++ [v]).map λi=>V.int (i:Nat)).length:Int) > 0)=true:=by
   refine decide_eq_true ?_;rw[bYo,bYM,cQt];omega
  refine onT R ⟨λU H'=>∃m',m'<n - c.length/\∃ (c J:List Nat)(lt:Option V),U= [some (.ref la),some (.ref da),some (.int (i:Nat)),some (.ref a),some (.ref x),some (.ref o),lt]/\xA O H'/\H' x=some (.lst (c.map λi=>V.int (i:Nat)))/\
   H' o=some (.lst (J.map λi=>V.int (i:Nat)))/\Fm.aZU n L D y (Fm.tp L y i) c J.reverse/\m'=n - c.length,λU H' z=>z,?_⟩
  have I:((d++ [v]).map λi=>V.int (i:Nat))[((d++ [v]).map λi=>V.int (i:Nat)).length - 1]? =some (V.int (v:Nat)):=by simp
  have N:((d++ [v]).map λi=>V.int (i:Nat)).dropLast=d.map λi=>V.int (i:Nat):=by simp
  refine⟨_,rfl,.inl ⟨rfl,_,SqL.of B⟩,o,_,_,rfl,rfl,B,I,?_⟩;rw[N];dsimp only[yW];have W':Fm.aZU n L D y (Fm.tp L y i) c (v::d.reverse):=by
   have:(d++ [v]).reverse=v::d.reverse:=by simp
   rw[this]at W;exact W
  have hv:=(W'.al v bYx).1;have W2:=W'.step ho (zO:=(kd v).reverse) (λj=>by rw[List.mem_reverse];exact hk.mem v j) (by rw[List.pairwise_reverse];exact hk.ord v);have l1:=W'.len;have l2:=bVK W';have l3:=aWc hk v;have l4:=W2.len;rw[cQh,List.length_reverse]at l2;rw[bYM,cQt]at l4;have S:upd H o (.lst (d.map λi=>V.int (i:Nat))) x=some (.lst (c.map λi=>V.int (i:Nat))):=by rw[yI C];exact a0
  show bQn _ _ _ _;refine⟨_,rfl,.inl ⟨rfl,_,SqL.of S⟩,_,rfl,x,_,_,rfl,rfl,S,zlt (by rw[bYo];omega),?_⟩;have Y:upd (upd H o (.lst (d.map λi=>V.int (i:Nat)))) x (.lst ((c.map λi=>V.int (i:Nat))++ [V.int (v:Nat)])) o=some (.lst (d.map λi=>V.int (i:Nat))):=by rw[yI (bY0 C)];exact yB
  have k6:xA O (upd (upd H o (.lst (d.map λi=>V.int (i:Nat)))) x (.lst ((c.map λi=>V.int (i:Nat))++ [V.int (v:Nat)]))):=wW (wW r Z) M;have a1:v<rs.length:=by omega
  have hb:=bYh a1;have a2:=k6 _ _ (a4 v _ hb);refine⟨_,rfl,.inl ⟨rfl,_,SqL.of Y⟩,_,rfl,_,rfl,a,_,_,.ref rs[v],rfl,rfl,SqL.of (k6 _ _ ha),yS (by rw[bYC,hb];rfl),o,rs[v],_,_,rfl,rfl,Y,a2,zn (l:=(d.map λi=>V.int (i:Nat))++((kd v).map λi=>V.int (i:Nat))) (by rw[bYM,bYo,bYo];omega) |> λz=>by rw[bYM]at z;exact z,?_⟩;refine⟨n - (c.length+1),by omega,c++ [v],d++kd v,some (.int (v:Nat)),rfl,wW k6 Z,?_,?_,?_,by rw[bYM,cQt]⟩
  ·rw[yI C,yB,cXo];rfl
  ·rw[yB,cXo]
  ·rw[List.reverse_append];exact W2
end
end Thr
namespace Desk
open PySem L2 PyProof.Rows
open Bk (Row Rows)
def aZb(x:Str):Stmt->Bool
 |.FunctionDef n _ _ _ _ _ _ _ _ _=>n==x
 |_=>false
def bKn(x:Str):Stmt->Bool
 |.ClassDef n _ _ _ _ _ _ _ _ _ _=>n==x
 |_=>false
def bJe:Stmt->List Stmt
 |.ClassDef _ _ _ b _ _ _ _ _ _ _=>b
 |_=> []
abbrev text:List Stmt:=PySem.Challenge.pw_letterdesk_k04_answers.main.body
def xF(x:Str):Stmt:=(text.find? (aZb x)).getD (.Pass ⟨0,0,0,0⟩)
def xB(c m:Str):Stmt:=((bJe ((text.find? (bKn c)).getD (.Pass ⟨0,0,0,0⟩))).find? (aZb m)).getD (.Pass ⟨0,0,0,0⟩)
theorem xD:bY3 "len"=some (.builtin "len"):=dk
theorem wQ:bY3 "sorted"=some (.builtin "sorted"):=dk
theorem vD:bY3 "list"=some (.type "list"):=dk
structure vI(mg:Str->Option bYi):Prop where
 b_len:mg "len"=none
 b_sorted:mg "sorted"=none
 b_list:mg "list"=none
structure Cl(K:bYk)(CB CL:Nat):Prop where
 b:Cls K CB
 l:Cls K CL
 letters:z8 K CB "letters"
 shut:z8 K CB "shut"
 number:z8 K CL "number"
 way:z8 K CL "way"
 day:z8 K CL "day"
 partner:z8 K CL "partner"
 term:z8 K CL "term"
 link:z8 K CL "link"
 file:z8 K CL "file"
 copies:z8 K CL "copies"
 void:z8 K CL "void"
abbrev wM:Option Nat->V:=Thr.wM
def W1(r:Row):Int:=if r.void then 0 else r.term
def qZ(r:Row):V:=if r.void then .non else .str r.place
def aZl(i:Nat)(r:Row)(c:Nat):List (Str×V):=
 [("number",.int (i:Nat)),("way",.str r.way),("day",.int r.date),("partner",.str r.partner),("term",.int (W1 r)),("link",wM r.link),("file",qZ r),("copies",.ref c),("void",.bl r.void)]
def aVQ(CL:Nat)(H:Hp)(b:Nat)(i:Nat)(r:Row)(c:Nat):Prop:=∃a,H b=some (.ins CL a (aZl i r c))
def stV(r:Row):List V:= [.str r.way,.int r.date,.str r.partner,.int (W1 r),wM r.link,qZ r]
inductive bQd(CL:Nat)(vs:List V)(H:Hp)(Q:VK)(_:XK):Prop|mk (x dx:Nat) (i:Nat) (way:Str) (d:Int) (who:Str) (t:Int) (_:vs= [.ref x,.int (i:Nat),.str way,.int d,.str who,.int t]) (_:H x=some (.ins CL dx [])) (_:∀ (c:Nat)(H':Hp),H c=none->H' x=some (.ins CL dx (aZl i ⟨way,d,who,t,none,"",false,[]⟩ c))->H' c=some (.lst [])->(∀b,b≠x->b≠c->H' b=H b)->Q .non H')
inductive aJY(CL:Nat)(vs:List V)(H:Hp)(Q:VK)(_:XK):Prop|mk (b:Nat) (i:Nat) (r:Row) (c:Nat) (_:vs= [.ref b]) (_:aVQ CL H b i r c) (_:∀t,H t=none->Q (.ref t) (upd H t (.tup (stV r))))
inductive aY6(CL:Nat)(vs:List V)(H:Hp)(Q:VK)(_:XK):Prop|mk (b b2:Nat) (i j:Nat) (r r2:Row) (c c2:Nat) (_:vs= [.ref b,.ref b2]) (_:aVQ CL H b i r c) (_:aVQ CL H b2 j r2 c2) (_:Q (.bl (decide (r2.link=some i))) H)
inductive bZT(CL:Nat)(vs:List V)(H:Hp)(Q:VK)(_:XK):Prop|mk (b:Nat) (i:Nat) (r:Row) (c:Nat) (who:Str) (_:vs= [.ref b,.str who]) (_:aVQ CL H b i r c) (_:H c=some (.lst (r.copies.map V.str))) (_:Q (.bl (decide (who=r.partner) || r.copies.contains who)) H)
inductive bZ0(CL:Nat)(vs:List V)(H:Hp)(Q:VK)(_:XK):Prop|mk (b dx:Nat) (i:Nat) (r:Row) (c:Nat) (_:vs= [.ref b]) (_:H b=some (.ins CL dx (aZl i r c))) (_:Q .non (upd H b (.ins CL dx (aZl i {r with link:=none,void:=true} c))))
inductive bQf(vs:List V)(H:Hp)(Q:VK)(_:XK):Prop|mk (way:Str) (_:vs= [.str way]) (_:Q (.str (Bk.uO way)) H)
section
variable {K:bYk}
abbrev aYC:Stmt:=xB "Letter" "__init__"
abbrev aYH:Stmt:=xB "Letter" "state"
abbrev aYu:Stmt:=xB "Letter" "is_answered_by"
abbrev bJ6:Stmt:=xB "Letter" "has_gone_to"
abbrev bVg:Stmt:=xB "Letter" "make_void"
abbrev aYD:Stmt:=xF "other_way"
theorem bXW:yM ["self","number","way","day","partner","term"] ["self","number","way","day","partner","term"] (yH aYC):=scM
theorem bXm(T:Cl K CB CL)(F:Fun K "__init__" "Letter.__init__" aYC f fd):y8 P w K mg base CX0 (n+1) f fd ["self","number","way","day","partner","term"] (bQd CL):=by
 have m:=bXW;refine F.ok (k:=n) m (λp A outer s H B Q E z h=>?_);obtain⟨x,e,i,u,d,r,t,rfl,v,q⟩:=h;refine⟨_,(yC (zH (pv 0) (pv 1) rfl) (yC (zH (pv 0) (pv 2) rfl) (yC (zH (pv 0) (pv 3) rfl) (yC (zH (pv 0) (pv 4) rfl) (yC (zH (pv 0) (pv 5) rfl) (yC (zH (pv 0) zB rfl) (yC (zH (pv 0) yO rfl) (yC (zH (pv 0) (y3 yD) rfl) (yF (zH (pv 0) qN rfl)))))))))),?_⟩;refine⟨_,rfl,_,rfl,x,CL,e,_,rfl,v,T.l,T.number,(show 0<1000 by decide),?_⟩;refine⟨_,rfl,_,rfl,x,CL,e,_,rfl,yB,T.l,T.way,(show 1<1000 by decide),?_⟩;refine⟨_,rfl,_,rfl,x,CL,e,_,rfl,yB,T.l,T.day,(show 2<1000 by decide),?_⟩;refine⟨_,rfl,_,rfl,x,CL,e,_,rfl,yB,T.l,T.partner,(show 3<1000 by decide),?_⟩;refine⟨_,rfl,_,rfl,x,CL,e,_,rfl,yB,T.l,T.term,(show 4<1000 by decide),?_⟩;refine⟨_,rfl,x,CL,e,_,rfl,yB,T.l,T.link,(show 5<1000 by decide),?_⟩;refine⟨_,rfl,x,CL,e,_,rfl,yB,T.l,T.file,(show 6<1000 by decide),?_⟩;refine⟨z0,λc g=>?_⟩;have a:x≠c:=yJ yB g;refine⟨_,rfl,x,CL,e,_,rfl,(yI a).trans yB,T.l,T.copies,(show 7<1000 by decide),?_⟩;refine⟨_,rfl,x,CL,e,_,rfl,yB,T.l,T.void,(show 8<1000 by decide),?_⟩;have j:H c=none:=by simp only[yI (bY0 a)]at g;exact g
 refine q c _ j yB (by rw[yI (bY0 a),yI (bY0 a),yB]) λb y o=>?_;simp only[yI y,yI o]
theorem bX1:yM ["self"] ["self"] (yH aYH):=scM
theorem bXr(T:Cl K CB CL)(F:Fun K "state" "Letter.state" aYH f fd):y8 P w K mg base CX0 (n+1) f fd ["self"] (aJY CL):=by
 have e:=bX1;refine F.ok (k:=n) e (λj A outer s H o Q E m h=>?_);obtain⟨b,i,r,c,rfl,⟨a,d⟩,q⟩:=h;refine⟨_,(yF (yP (xM (yA (yZ (pv 0) rfl) (yA (yZ (pv 0) rfl) (yA (yZ (pv 0) rfl) (yA (yZ (pv 0) rfl) (yA (yZ (pv 0) rfl) (yA (yZ (pv 0) rfl) yD))))))))),?_⟩;refine⟨_,rfl,b,CL,a,_,_,rfl,d,T.l,T.way,rfl,?_⟩;refine⟨_,rfl,b,CL,a,_,_,rfl,d,T.l,T.day,rfl,?_⟩;refine⟨_,rfl,b,CL,a,_,_,rfl,d,T.l,T.partner,rfl,?_⟩;refine⟨_,rfl,b,CL,a,_,_,rfl,d,T.l,T.term,rfl,?_⟩;refine⟨_,rfl,b,CL,a,_,_,rfl,d,T.l,T.link,rfl,?_⟩;refine⟨_,rfl,b,CL,a,_,_,rfl,d,T.l,T.file,rfl,?_⟩;exact⟨by show 6<=bYI;decide,λt g=>q t g⟩
theorem aZ8{o:Option Nat}{m:Nat}:decide (wM o=V.int (m:Nat))=decide (o=some m):=by
 cases o with
 |none=>rfl
 |some j=>show decide (V.int (j:Nat)=V.int (m:Nat))=decide (some j=some m);rw[Bool.eq_iff_iff];simp;omega
theorem bXN:yM ["self","other"] ["self","other"] (yH aYu):=scM
theorem bXd(T:Cl K CB CL)(F:Fun K "is_answered_by" "Letter.is_answered_by" aYu f fd):y8 P w K mg base CX0 (n+1) f fd ["self","other"] (aY6 CL):=by
 have e:=bXN;refine F.ok (k:=n) e (λg A outer s H x Q E u h=>?_);obtain⟨b,o,i,j,r,t,c,v,rfl,⟨m,p⟩,⟨d,a⟩,q⟩:=h;refine⟨_,(yF (yP (zI x9 (yZ (pv 1) rfl) (yZ (pv 0) rfl)))),?_⟩;refine⟨_,rfl,o,CL,d,_,_,rfl,a,T.l,T.link,rfl,?_⟩;refine⟨_,rfl,b,CL,m,_,_,rfl,p,T.l,T.number,rfl,?_⟩;rw[<- aZ8]at q;refine⟨?_,q⟩;cases t.link<;> rfl
theorem wJ(x:Str):∀ns:List Str,inV (.str x) (ns.map V.str)=ns.contains x
 |[]=>rfl
 |n::r=>by have a:=wJ x r;unfold inV at a ⊢;rw[bY2,cXx,a,cXA];congr 1;show(n==x)=(x==n);rw[Bool.eq_iff_iff,beq_iff_eq,beq_iff_eq];exact eq_comm
theorem aX6:∀ns:List Str,(ns.map V.str).all Z8=true
 |[]=>rfl
 |n::r=>by rw[bY2,cZu,aX6 r];rfl
theorem bVj:yM ["self","person"] ["self","person"] (yH bJ6):=scM
theorem bJH(T:Cl K CB CL)(F:Fun K "has_gone_to" "Letter.has_gone_to" bJ6 f fd):y8 P w K mg base CX0 (n+1) f fd ["self","person"] (bZT CL):=by
 have m:=bVj;refine F.ok (k:=n) m (λp A outer s H u Q E t h=>?_);obtain⟨b,i,r,c,a,rfl,⟨d,e⟩,j,q⟩:=h;refine⟨_,(yF (yP (bWt (zI x9 (pv 1) (yZ (pv 0) rfl)) (aZv (zI wT (pv 1) (yZ (pv 0) rfl)))))),?_⟩;refine⟨_,rfl,_,rfl,b,CL,d,_,_,rfl,e,T.l,T.partner,rfl,rfl,?_⟩;have o:decide (V.str a=V.str r.partner)=decide (a=r.partner):=by rw[Bool.eq_iff_iff];simp
 refine⟨_,rfl,?_⟩;rw[o];cases g:decide (a=r.partner)with
 |true=>rw[g,Bool.true_or]at q;exact onT rfl q
 |false=>rw[g,Bool.false_or]at q;refine onF rfl ⟨_,rfl,_,rfl,b,CL,d,_,_,rfl,e,T.l,T.copies,rfl,c,_,rfl,.inl (SqL.of j),rfl,aX6 _,?_⟩;rw[if_neg (by decide),wJ];exact q
theorem bVu:yM ["self"] ["self"] (yH bVg):=scM
theorem bJT(T:Cl K CB CL)(F:Fun K "make_void" "Letter.make_void" bVg f fd):y8 P w K mg base CX0 (n+1) f fd ["self"] (bZ0 CL):=by
 have d:=bVu;refine F.ok (k:=n) d (λe A outer s H m Q E j h=>?_);obtain⟨b,a,i,r,c,rfl,g,q⟩:=h;refine⟨_,(yC (zH (pv 0) qN rfl) (yC (zH (pv 0) zB rfl) (yC (zH (pv 0) zB rfl) (yF (zH (pv 0) yE rfl))))),?_⟩;refine⟨_,rfl,b,CL,a,_,rfl,g,T.l,T.void,(show 9<1000 by decide),?_⟩;refine⟨_,rfl,b,CL,a,_,rfl,yB,T.l,T.link,(show 9<1000 by decide),?_⟩;refine⟨_,rfl,b,CL,a,_,rfl,yB,T.l,T.file,(show 9<1000 by decide),?_⟩;refine⟨_,rfl,b,CL,a,_,rfl,yB,T.l,T.term,(show 9<1000 by decide),?_⟩;rw[uU,uU,uU];exact q
theorem bXX:yM ["way"] ["way"] (yH aYD):=scM
theorem bXn(F:Fun K "other_way" "other_way" aYD f fd):y8 P w K mg base CX0 (n+1) f fd ["way"] bQf:=by
 have c:=bXX;refine F.ok (k:=n) c (λd A outer s H e Q E g h=>?_);obtain⟨a,rfl,q⟩:=h;refine⟨_,(yF (yP (aVn (yN x9 (pv 0) yO) yO yO))),?_⟩;unfold Bk.uO at q;have b:decide (V.str a=V.str "in")=decide (a="in"):=by rw[Bool.eq_iff_iff];simp
 refine⟨_,rfl,rfl,_,rfl,?_⟩;rw[b];by_cases hw:a="in"
 ·rw[if_pos hw]at q;exact onT (decide_eq_true hw) q
 ·rw[if_neg hw]at q;exact onF (decide_eq_false hw) q
end
end Desk
namespace L2
open PySem PySem.Spec PyProof.Rows
section
variable {κ:Type} [DecidableEq κ]
def J9(kvs:List (κ×V))(k:κ):Option V:=(kvs.find? λa=>decide (a.1=k)).map (·.2)
def aJz(kvs:List (κ×V))(k:κ)(v:V):List (κ×V):=
 if(kvs.any λa=>decide (a.1=k))=true then kvs.map (λa=>if a.1=k then(a.1,v)else a)else kvs++ [(k,v)]
theorem zV{p:κ×V}{r:List (κ×V)}{k:κ}(e:p.1=k):J9 (p::r) k=some p.2:=by simp[J9,cXD,e]
theorem zU{p:κ×V}{r:List (κ×V)}{k:κ}(e:¬p.1=k):J9 (p::r) k=J9 r k:=by simp[J9,cXD,e]
theorem Q0(k:κ):∀kvs:List (κ×V),(kvs.any λa=>decide (a.1=k))=(J9 kvs k).isSome
 |[]=>rfl
 |p::r=>by
  rw[cXx];by_cases e:p.1=k
  ·simp only[zV e,decide_eq_true e,Bool.true_or,Option.isSome_some]
  ·rw[zU e,decide_eq_false e,Bool.false_or];exact Q0 k r
theorem aVN(k j:κ)(y:V):∀kvs:List (κ×V),J9 (kvs.map λa=>if a.1=k then(a.1,y)else a) j=(J9 kvs j).map λx=>if j=k then y else x
 |[]=>rfl
 |p::r=>by
  have b:=aVN k j y r;rw[bY2];by_cases h:p.1=k
  ·rw[if_pos h];by_cases e:p.1=j
   ·rw[zV (p:=(p.1,y)) e,zV e,Option.map_some,if_pos (e.symm.trans h)]
   ·rw[zU (p:=(p.1,y)) e,zU e,b]
  ·rw[if_neg h];by_cases e:p.1=j
   ·rw[zV (p:=p) e,zV e,Option.map_some,if_neg (λz=>h (e.trans z))]
   ·rw[zU (p:=p) e,zU e,b]
theorem aZS(k j:κ)(y:V):∀kvs:List (κ×V),J9 kvs k=none->J9 (kvs++ [(k,y)]) j=if j=k then some y else J9 kvs j
 |[],_=>by
  by_cases e:k=j
  ·rw[if_pos e.symm];exact zV (p:=(k,y)) e
  ·rw[if_neg (λz=>e z.symm)];exact zU (p:=(k,y)) e
 |p::r,hn=>by
  rw[cZT];have a:¬p.1=k:=λz=>by rw[zV z]at hn;cases hn
  rw[zU a]at hn;have b:=aZS k j y r hn;by_cases e:p.1=j
  ·rw[zV e,zV e,if_neg (λz=>a (e.trans z))]
  ·rw[zU e,zU e,b]
theorem bZq(kvs:List (κ×V))(k j:κ)(y:V):J9 (aJz kvs k y) j=if j=k then some y else J9 kvs j:=by
 unfold aJz;by_cases a:(kvs.any λc=>decide (c.1=k))=true
 ·rw[if_pos a,aVN];rw[Q0]at a;by_cases e:j=k
  ·obtain⟨x,b⟩:=Option.isSome_iff_exists.mp a;rw[if_pos e,e,b,Option.map_some,if_pos rfl]
  ·rw[if_neg e];cases J9 kvs j with
   |none=>rfl
   |some x=>rw[Option.map_some,if_neg e]
 ·rw[if_neg a];refine aZS k j y kvs ?_;rw[Q0]at a;cases q:J9 kvs k with
  |none=>rfl
  |some x=>rw[q]at a;exact(a rfl).elim
theorem jQ(kvs:List (κ×V))(k:κ)(v:V):(aJz kvs k v).length<=kvs.length+1:=by
 unfold aJz;split
 ·rw[bYo];omega
 ·rw[bYM,cQh,cXn];omega
theorem aXT.isSome_eq{o:Option V}{u:Option bYi}(r:aXT o u):o.isSome=u.isSome:=by
 cases o with
 |none=>cases u with
  |none=>rfl
  |some _=>exact(show False from r).elim
 |some _=>cases u with
  |none=>exact(show False from r).elim
  |some _=>rfl
theorem KV.val{kvs:List (κ×V)}{vs:List (κ×bYi)}(r:KV kvs vs)(k:κ):aXT (J9 kvs k) (cZC vs k):=by
 unfold KV at r;induction r with
 |nil=>exact cQI
 |@cons p q i c h t f=>
  obtain⟨d,g⟩:=h;by_cases e:p.1=k
  ·have a:q.1=k:=d.symm.trans e;have b:cZC (q::c) k=some q.2:=by simp[cZC,cXD,a]
   rw[zV e,b];exact g
  ·have a:¬q.1=k:=λz=>e (d.trans z);have b:cZC (q::c) k=cZC c k:=by simp[cZC,cXD,a]
   rw[zU e,b];exact f
theorem KV.any{kvs:List (κ×V)}{vs:List (κ×bYi)}(r:KV kvs vs)(k:κ):(kvs.any λa=>decide (a.1=k))=vs.any λa=>decide (a.1=k):=by
 unfold KV at r;induction r with
 |nil=>rfl
 |cons h t b=>rw[cXx,cXx,b,h.1]
theorem KV.repl{kvs:List (κ×V)}{vs:List (κ×bYi)}(r:KV kvs vs)(k:κ){y:V}{u:bYi}(f:zE y u): KV (kvs.map λa=>if a.1=k then(a.1,y)else a) (vs.map λa=>if a.1=k then(a.1,u)else a):=by
 unfold KV at r ⊢;induction r with
 |nil=>exact .nil
 |@cons p q i g h t c=>
  rw[bY2,bY2];refine .cons ?_ c;obtain⟨b,d⟩:=h;by_cases e:p.1=k
  ·rw[if_pos e,if_pos (b.symm.trans e)];exact⟨b,f⟩
  ·rw[if_neg e,if_neg (λz=>e (b.trans z))];exact⟨b,d⟩
theorem KV.put{kvs:List (κ×V)}{vs:List (κ×bYi)}(r:KV kvs vs)(k:κ){y:V}{u:bYi}(a:zE y u):KV (aJz kvs k y) (stored vs k u):=by
 unfold aJz stored;rw[r.any k];by_cases e:(vs.any λb=>decide (b.1=k))=true
 ·rw[if_pos e,if_pos e];exact r.repl k a
 ·rw[if_neg e,if_neg e];exact Paired.snoc r ⟨rfl,a⟩
theorem KV.length{kvs:List (κ×V)}{vs:List (κ×bYi)}(r:KV kvs vs):kvs.length=vs.length:=cXH r
end
theorem bQS{P:bYE}{w:bYK}{k:Key}{u:bYi}(r:zE (kV k) u):(x2 P w).is k u=true:=by
 cases k with
 |inl i=>obtain⟨t,e⟩:=(show ∃t,u=Value.int i t from r);subst e;exact aJh P w i t
 |inr x=>obtain⟨t,e⟩:=(show ∃t,u=Value.str x t from r);subst e;exact jR P w x t
theorem aZd{P:bYE}{w:bYK}:∀ {a:List Key} {us:List bYi},xS (a.map kV) us->ItemsAre (x2 P w) a us
 |[],_,r=>by rw[List.map_nil]at r;cases r;exact .nil
 |k::a,_,r=>by
  rw[bY2]at r;cases r with
  |cons h t=>exact .cons (bQS h) (aZd t)
abbrev KT(H:Hp):List (List Key×V)->List (List Key×Addr×bYi)->Prop:=cQc λp q=>p.1=q.1/\H q.2.1=some (.tup (p.1.map kV))/\zE p.2 q.2.2
theorem KT.val{H:Hp}{kvs:List (List Key×V)}{xs:List (List Key×Addr×bYi)}(r:KT H kvs xs)(k:List Key):aXT (J9 kvs k) ((atKey xs k).map (·.2)):=by
 induction r with
 |nil=>exact cQI
 |@cons p q i c h t f=>
  obtain⟨d,_,g⟩:=h;by_cases e:p.1=k
  ·have a:q.1=k:=d.symm.trans e;have b:atKey (q::c) k=some q.2:=by simp[atKey,cXD,a]
   rw[zV e,b];exact g
  ·have a:¬q.1=k:=λz=>e (d.trans z);have b:atKey (q::c) k=atKey c k:=by simp[atKey,cXD,a]
   rw[zU e,b];exact f
theorem KT.repl{H:Hp}{kvs:List (List Key×V)}{xs:List (List Key×Addr×bYi)}(r:KT H kvs xs)(k:List Key){y:V}{u:bYi}(g:zE y u): KT H (kvs.map λb=>if b.1=k then(b.1,y)else b) (xs.map (putAt k u)):=by
 induction r with
 |nil=>exact .nil
 |@cons p q j i h t d=>
  rw[bY2,bY2];refine .cons ?_ d;obtain⟨a,c,f⟩:=h;unfold putAt;by_cases e:p.1=k
  ·rw[if_pos e,if_pos (a.symm.trans e)];exact⟨a,c,g⟩
  ·rw[if_neg e,if_neg (λz=>e (a.trans z))];exact⟨a,c,f⟩
theorem KT.put{H:Hp}{kvs:List (List Key×V)}{xs:List (List Key×Addr×bYi)}(r:KT H kvs xs)(k:List Key){b:Addr}{y:V}{u:bYi}(d:H b=some (.tup (k.map kV)))(a:zE y u): KT H (aJz kvs k y) (storedH xs k b u):=by
 have e:(kvs.any λc=>decide (c.1=k))=(atKey xs k).isSome:=by rw[Q0,(r.val k).isSome_eq,Option.isSome_map]
 unfold aJz storedH;rw[e];by_cases q:(atKey xs k).isSome=true
 ·rw[if_pos q,if_pos q];exact r.repl k a
 ·rw[if_neg q,if_neg q];exact Paired.snoc r ⟨rfl,d,a⟩
theorem KT.keeps{H c:Hp}{kvs:List (List Key×V)}{xs:List (List Key×Addr×bYi)}(r:KT H kvs xs)(d:∀b a,H b=some (.tup a)->c b=some (.tup a)):KT c kvs xs:=
 Paired.mapP r λ_ _ z=>⟨z.1,d _ _ z.2.1,z.2.2⟩
section
variable {P:bYE}{w:bYK}{H:Hp}{h:Heap}{a:Addr}
theorem bWB{u:HO}(ok:HOk P w H h)(e:Rd H a u):x4 P w H h a u:=e.ok ok
theorem bV5{kvs:List (Key×V)}(ok:HOk P w H h)(e:Rd H a (.dK kvs)):kvs.length<=bYI/\(a==cX9)=false/\∃b,KV kvs b/\h.DictOf (x2 P w) a b:=
 show x4 P w H h a (.dK kvs)from bWB ok e
theorem bKj{kvs:List (Key×V)}(ok:HOk P w H h)(e:H a=some (.dK kvs)):kvs.length<=bYI/\(a==cX9)=false/\∃b,KV kvs b/\h.DictOf (x2 P w) a b:=bV5 ok (.inl e)
theorem aKI{b:List Key}(ok:HOk P w H h)(e:H a=some (.tup (b.map kV))):(tupleKind (x2 P w)).is h b a:=by
 obtain⟨_,c,r,o,g,d,n,f⟩:=(show x4 P w H h a (.tup (b.map kV))from ok a _ e);exact⟨o,c.toArray,n,g,d,f,by simpa using aZd r⟩
theorem bV6{kvs:List (List Key×V)}(ok:HOk P w H h)(e:Rd H a (.dT kvs)):kvs.length<=bYI/\(a==cX9)=false/\ ∃c,KT H kvs c/\h.DictOfH (tupleKind (x2 P w)) a c:=by
 obtain⟨z,y,c,r,o,n,i,u,k,g,j,s⟩:=(show x4 P w H h a (.dT kvs)from bWB ok e);refine⟨z,y,c,r,o,n,i,u,k,g,j,λx b=>?_,s⟩;have all:∀ {l:List (List Key×V)} {m:List (List Key×Addr×bYi)},KT H l m->∀x∈m,(tupleKind (x2 P w)).is h x.1 x.2.1:=by
  intro l m q;induction q with
  |nil=>intro x b;exact nomatch b
  |@cons p q A v d t f=>
   intro x b;rcases bYr.mp b with e|b
   ·subst e;exact aKI ok (by rw[<- d.1];exact d.2.1)
   ·exact f x b
 exact all r x b
theorem wZ{kvs:List (List Key×V)}(ok:HOk P w H h)(e:H a=some (.dT kvs)):kvs.length<=bYI/\(a==cX9)=false/\
  ∃b,KT H kvs b/\h.DictOfH (tupleKind (x2 P w)) a b:=bV6 ok (.inl e)
end
def bVQ(H:Hp)(a:Addr)(y:V)(r:Option V):Prop:=
 (∃kvs k,Rd H a (.dK kvs)/\y=kV k/\r=J9 kvs k)\/∃kvs k b,Rd H a (.dT kvs)/\y= .ref b/\H b=some (.tup (k.map kV))/\r=J9 kvs k
def bVR(H:Hp)(a:Addr)(y v:V)(c:Hp):Prop:=
 (∃kvs k,H a=some (.dK kvs)/\y=kV k/\kvs.length<bYI/\c=upd H a (.dK (aJz kvs k v)))\/
 ∃kvs k b,H a=some (.dT kvs)/\y= .ref b/\H b=some (.tup (k.map kV))/\kvs.length<bYI/\c=upd H a (.dT (aJz kvs k v))
theorem bVQ.k{H:Hp}{a:Addr}{kvs:List (Key×V)}{k:Key}(e:H a=some (.dK kvs)):bVQ H a (kV k) (J9 kvs k):= .inl ⟨kvs,k,.inl e,rfl,rfl⟩
theorem bVR.k{H:Hp}{a:Addr}{kvs:List (Key×V)}{k:Key}{v:V}(e:H a=some (.dK kvs))(hl:kvs.length<bYI):bVR H a (kV k) v (upd H a (.dK (aJz kvs k v))):= .inl ⟨kvs,k,e,rfl,hl,rfl⟩
section
variable {X:Cx}{pins:List (Addr×Obj)}{σ:St}{H:Hp}{s:bYl}{a:Addr}{y v:V}{u r:bYi}{o:Option V}{A:bYW}{E:bYi->bYl->Prop}
theorem Inv.big(I:Inv X pins σ H s):cX9<s.heap.objs.size:=by
 have h:bYN<s.heap.objs.size:=(I.mod.glob.keeps I.bk).lt;exact Nat.lt_trans (by decide) h
theorem bJg{Q:bYi->bYl->Prop}(n:A.units+1<cLine)(I:Inv X pins σ H s)(g:bVQ H a y o)(j:zE y u)(h:∀m,Inv X pins σ H m->Q (.bool (!o.isSome)) m): bYq (bYs X.prog X.w) A (cQM .NotIn u (.ref a)) Q E s:=by
 rcases g with⟨kvs,k,e,i,l⟩|⟨kvs,k,b,e,i,p,l⟩
 ·subst i;obtain⟨z,d,r,c,f⟩:=bV5 I.hok e;refine wpAny_notIn_of (bQS j) d f.mapOf ?_;rw[<- (c.val k).isSome_eq,<- l];exact h _ (I.tok _)
 ·subst i;cases (show u=Value.ref b from j);obtain⟨z,d,t,c,f⟩:=bV6 I.hok e;refine wpAny_notIn_heap (tupleKind_room_in1 n) (aKI I.hok p) d f ?_;have q:=(c.val k).isSome_eq;rw[Option.isSome_map]at q;rw[<- q,<- l];exact h _ (I.tok _)
theorem aKm{h':Heap}{t':Nat}{d:HO}(I:Inv X pins σ H s)(h:Mut (H a))(g:cXi a s.heap h')(f:∃q,h'.get? a=some q)(c:x4 X.prog X.w (upd H a d) h' a d): Inv X pins σ (upd H a d) {s with heap:=h',toks:=t'}:=
 I.write (x:=a) (e:=a) h (.inl rfl) (λb q i z=>(g.2 b i).trans z) f c
theorem bV4{P:bYE}{w:bYK}{d:Hp}{h':Heap}{kvs:List (Key×V)}{vs:List (Key×bYi)}(z:kvs.length<=bYI)(c:(a==cX9)=false)(b:KV kvs vs)(e:h'.DictOf (x2 P w) a vs):
  x4 P w d h' a (.dK kvs):=⟨z,c,vs,b,e⟩
theorem aKl{B:Hp}{Q:Unit->bYl->Prop}(K:A.units+1<cLine)(I:Inv X pins σ H s)(g:bVR H a y v B)(D:zE y u)(G:zE v r)(h:∀J,Inv X pins σ B J->Q () J): bYq (bYs X.prog X.w) A (setItem (.ref a) u r) Q E s:=by
 rcases g with⟨kvs,k,e,p,l,m⟩|⟨kvs,k,b,e,p,x,l,m⟩
 ·subst p m;obtain⟨z,j,S,d,o⟩:=bKj I.hok e;have t:S.length<=bYI:=by rw[<- d.length];exact z
  have hl:(aJz kvs k v).length<=bYI:=by have:=jQ kvs k v;omega
  refine wpAny_setItem_pairs (hsz:=t) (bQS D) o λF f n=>h _ ?_;have P:∃q,F.get? a=some q:=let ⟨q,_,_,i,_⟩:=f;⟨q,i⟩;exact aKm I (by rw[e];exact cQI) n P (bV4 hl j (d.put k G) f)
 ·subst p m;cases (show u=Value.ref b from D);obtain⟨z,j,U,d,o⟩:=wZ I.hok e;have t:U.length<=bYI:=by rw[<- cXH d];exact z
  have hl:(aJz kvs k v).length<=bYI:=by have:=jQ kvs k v;omega
  refine wpAny_setItem_heap (hsz:=t) (tupleKind_room_in1 K) (aKI I.hok x) o λF f n=>h _ ?_;obtain⟨q,R,M,i,O,L,N,_,T⟩:=f;refine aKm I (by rw[e];exact cQI) n ⟨q,i⟩ ⟨hl,j,_,(d.put k x G).keeps λc V C=>?_,q,R,M,i,O,L,N,T⟩;rw[yI (aQS C e (λz=>nomatch z))];exact C
end
section
variable {X:Cx}{pins:List (Addr×Obj)}{σ:St}{H:Hp}{s:bYl}{a:Addr}{kvs:List (Key×V)}{k:Key}{u:bYi}{A:bYW}{E:bYi->bYl->Prop}
end
def bKO(i:Expr):Prop:=∀b a,subscripted i false b a=operate [b,a] (getItem b a)
theorem bVB{prog:bYE}{w:bYK}{A:bYW}{E:bYi->bYl->Prop}{s:bYl}{env:Env}{value a:Expr}{pos:Pos}{T id:String}{Q:bYi->bYl->Prop} (hl:typeLookup (.type T) "__getitem__"=pure (some (.builtin id))) (k:bKO a) (h:bYq (bYs prog w) A (eval value env) (λo d=>bYq (bYs prog w) A (eval a env) (λi b=>b.TypeIs o T/\bYq (bYs prog w) A (getItem o i) Q E b) E d) E s): bYq (bYs prog w) A (eval (.Subscript value a pos) env) Q E s:=by
 refine Subscript_ (cQi h (λo d f=>cQi f (λi b c=>?_) λ_ _ x=>x) λ_ _ x=>x);obtain⟨j,c⟩:=c;unfold subscriptTail;refine bYj ?_;rw[getitemInPython_of_ne j.not_modules];refine bYj (wpAny_specialOf j hl ?_);have fin:bYq (bYs prog w) A (subscripted a false o i) (λr e=>bYq (bYs prog w) A (letTemporaryGo value o r >>=λ_=>pure r) Q E e) E b:=by rw[k o i];exact wpAny_operating (cQi c (λr e g=>bYj (wpAny_letTemporaryGo (bYn g))) λ_ _ x=>x)
 first
  |exact bYn (bYj fin)
  |exact bYj (bYn (bYj fin))
  |exact bYj fin
inductive bZd(Q:VK)(y:V)(x:V)(H2:Hp):Prop|mk (a o) (_:x= .ref a) (_:bVQ H2 a y o) (_:Q (.bl (!o.isSome)) H2)
def bVD(ty td:TE):TE:=λσ H Q=>ty σ H λy a=>td σ a λx b=>bZd Q y x b
inductive bWC(D:aZV)(σ:St)(v:V)(x:V)(y:V)(H3:Hp):Prop|mk (a H4) (_:x= .ref a) (_:bVR H3 a y v H4) (_:D.nx σ H4)
def bKw(td ty tv:TE):TS:=λD σ H=>tv σ H λv b=>td σ b λx c=>ty σ c λy a=>bWC D σ v x y a
section
variable {X:Cx}{o i e value:Expr}{pos pos' tpos:Pos}{td ty tv:TE}
theorem aYj(b:X.A.units+1<cLine)(d:PE X i ty)(c:PE X o td):PC X .NotIn i o (bVD ty td):=by
 intro pins s σ H Q I h;refine thn (d pins s σ H _ I h) λiv s1 ⟨y,H1,I1,ry,q1⟩=>thn (c pins s1 σ H1 _ I1 q1) λu s2 ⟨x,H2,I2,rx,a,ov,ex,g,q2⟩=>?_;subst ex;obtain rfl:u=Value.ref a:=rx;exact bJg b I2 g ry λf e=>⟨.bl (!ov.isSome),H2,e,rfl,q2⟩
theorem bJZ(b:X.A.units+1<cLine)(d:PE X o td)(f:PE X i ty)(e:PE X value tv)(j:swapsWith value (some (.Subscript o i pos')) pos.line X.env=pure false): PS X (.Assign [.Subscript o i pos'] value pos) (bKw td ty tv):=by
 intro pins s σ H D I h;refine wpAny_Assign_Subscript (thn (e pins s σ H _ I h) λr s1 ⟨v,H1,I1,rv,q1⟩=>thn (d pins s1 σ H1 _ I1 q1) λu s2 ⟨x,H2,I2,rx,q2⟩=>thn (f pins s2 σ H2 _ I2 q2) λiv s3 ⟨y,H3,I3,ry,a,H4,ex,g,q3⟩=>?_) j;subst ex;obtain rfl:u=Value.ref a:=rx;exact aKl b I3 g ry rv λk c=>⟨σ,H4,c,q3⟩
end
theorem bQF{P:bYE}{w:bYK}{H:Hp}(h:Heap)(a:cX9<h.objs.size):x4 P w H (h.push {cls:= .type "dict",data:= .dict #[] }) h.objs.size (.dK []):=
 ⟨cQe _,beq_eq_false_iff_ne.mpr (bY0 (bYG a)),[],.nil,Heap.DictOf.new h⟩
def bWR:TE:=λ_ H Q=>∀p,H p=none->Q (.ref p) (upd H p (.dK []))
section
variable {X:Cx}{pos:Pos}
theorem bXA:PE X (.Dict [] [] pos) bWR:=λpins s σ H Q I h=>
 wpAny_Dict_empty ⟨.ref s.heap.objs.size,_,I.laid (a:=s.heap.objs.size) (o:= .dK []) (t':=s.toks) (λ_ _ q=>bYm _ q) (bYp _) (bQF s.heap I.big),rfl,h _ (I.hok.fresh (bYp _))⟩
end
structure M1(X:Cx)(o:Expr)(m:Str)(apos:Pos)(e:Expr)(cpos:Pos):Prop where
 base:cX4 o m X.env (eval o X.env)=eval o X.env
 few:((cQU cpos (bYV [e] X.env)).all (λx=> !x.1) && (cZs cpos (cXz [] X.env)).all (λx=>x.1.isSome)
  && decide (([e]:List Expr).length+([]:List Keyword).length+(if([]:List Keyword).isEmpty then 0 else 1)<30))=true
 line:(apos.endLine==cpos.line)=true
 trees:cQU cpos (bYV [e] X.env)= [(false,eval e X.env)]
structure M2(X:Cx)(o:Expr)(m:Str)(apos:Pos)(e f:Expr)(cpos:Pos):Prop where
 base:cX4 o m X.env (eval o X.env)=eval o X.env
 few:((cQU cpos (bYV [e,f] X.env)).all (λx=> !x.1) && (cZs cpos (cXz [] X.env)).all (λx=>x.1.isSome)
  && decide (([e,f]:List Expr).length+([]:List Keyword).length+(if([]:List Keyword).isEmpty then 0 else 1)<30))=true
 line:(apos.endLine==cpos.line)=true
 trees:cQU cpos (bYV [e,f] X.env)= [(false,eval e X.env),(false,eval f X.env)]
section
variable {X:Cx}{pins:List (Addr×Obj)}{σ:St}{H:Hp}{s:bYl}{a:Addr}{y d:V}{u r:bYi}{o:Option V}{A:bYW}{E:bYi->bYl->Prop}
end
section
variable {X:Cx}{o e f:Expr}{apos cpos:Pos}{td ty tx:TE}
end
section
variable {X:Cx}{pins:List (Addr×Obj)}{σ:St}{H:Hp}{s:bYl}{a:Addr}{kvs:List (Key×V)}{A:bYW}{E:bYi->bYl->Prop}
end
section
variable {X:Cx}{pins:List (Addr×Obj)}{σ:St}{H:Hp}{s:bYl}{a:Addr}{y:V}{u:bYi}{A:bYW}{E:bYi->bYl->Prop}
end
end L2
namespace L2
open PySem PySem.Spec PyProof.Rows
section
variable {κ:Type} [DecidableEq κ]
end
end L2
namespace Days
open PySem L2 PyProof.Rows
def aZb(x:Str):Stmt->Bool
 |.FunctionDef n _ _ _ _ _ _ _ _ _=>n==x
 |_=>false
def xF(x:Str):Stmt:=(PySem.Challenge.pw_letterdesk_k04_answers.main.body.find? (aZb x)).getD (.Pass ⟨0,0,0,0⟩)
abbrev aJF:Stmt:=xF "counts"
abbrev bVc:Stmt:=xF "open_by_rest"
abbrev aXz:Stmt:=xF "closed_days"
abbrev aYF:Stmt:=xF "place_of"
theorem aKe:bY3 "min"=some (.builtin "min"):=dk
theorem wQ:bY3 "sorted"=some (.builtin "sorted"):=dk
theorem bV2:bY3 "set"=some (.type "set"):=dk
structure vI(mg:Str->Option bYi):Prop where
 b_len:mg "len"=none
 b_min:mg "min"=none
 b_sum:mg "sum"=none
 b_sorted:mg "sorted"=none
 b_isinstance:mg "isinstance"=none
 b_int:mg "int"=none
 b_str:mg "str"=none
 b_bool:mg "bool"=none
 b_list:mg "list"=none
 b_tuple:mg "tuple"=none
 b_set:mg "set"=none
 b_range:mg "range"=none
 b_reversed:mg "reversed"=none
 week:∃t,mg "WEEK"=some (.int 7 t)
 opens:∃t,mg "OPEN_DAYS"=some (.int 5 t)
inductive bQe(vs:List V)(H:Hp)(Q:VK)(_:XK):Prop|mk (d) (_:vs= [.int d]) (_:Q (.bl (Dm.opn d)) H)
inductive bQg(vs:List V)(H:Hp)(Q:VK)(_:XK):Prop|mk (d) (_:vs= [.int d]) (_:Q (.int (Dm.place d)) H)
inductive aVA(K:bYk)(vs:List V)(H:Hp)(Q:VK)(_:XK):Prop|mk (a:Nat) (ns:List Int) (_:vs= [.ref a]) (_:SqL K H a (ns.map V.int)) (_:ns.length<64) (_:∀ (r:Nat)(H':Hp)(C:List Int),xA H H'->H r=none->C.Pairwise (·<·)->(∀d,d∈C↔d∈ns/\Dm.opn d=true)->C.length<=ns.length->H' r=some (.lst (C.map V.int))->Q (.ref r) H')
inductive aVC(K:bYk)(vs:List V)(H:Hp)(Q:VK)(_:XK):Prop|mk (a:Nat) (ns:List Int) (d:Int) (_:vs= [.ref a,.int d]) (_:SqL K H a (ns.map V.int)) (_:Q (.bl (Dm.cts ns d)) H)
abbrev bKx:Stmt:=xF "due_day"
abbrev aYy:Stmt:=xF "day_at"
inductive bQa(vs:List V)(H:Hp)(Q:VK)(_:XK):Prop|mk (d) (_:vs= [.int d]) (_:Q (.int (Dm.zF d)) H)
inductive bWN(K:bYk)(vs:List V)(H:Hp)(Q:VK)(_:XK):Prop|mk (a:Nat) (ns:List Int) (d t:Int) (_:vs= [.ref a,.int d,.int t]) (_:SqL K H a (ns.map V.int)) (_:ns.length<64) (_:1<=t) (_:∀ (H':Hp)(D:Int),xA H H'->Dm.Due ns d t D->Q (.int D) H')
section
variable {K:bYk}
theorem bVp:yM ["date"] ["date"] (yH bVc):=scM
theorem bJO(T:vI mg)(F:Fun K "open_by_rest" "open_by_rest" bVc f fd):y8 P w K mg base CX0 1 f fd ["date"] bQe:=by
 obtain⟨i,b⟩:=T.week;obtain⟨g,a⟩:=T.opens;have c:=bVp;refine F.ok (k:=0) c (λe A outer s H l Q E j h=>?_);obtain⟨d,rfl,q⟩:=h;refine⟨_,(yF (yP (zI vF (yV y0 (pv 0) (v0 (v:= .int 7) rfl b ⟨_,rfl⟩)) (v0 (v:= .int 5) rfl a ⟨_,rfl⟩)))),?_⟩;exact⟨_,rfl,_,_,rfl,rfl,(show(0:Int)<7 by decide),_,_,rfl,rfl,q⟩
theorem bXZ:yM ["date"] ["date"] (yH aYF):=scM
theorem bXp(T:vI mg)(F:Fun K "place_of" "place_of" aYF f fd):y8 P w K mg base CX0 1 f fd ["date"] bQg:=by
 obtain⟨j,b⟩:=T.week;obtain⟨i,a⟩:=T.opens;have c:=bXZ;refine F.ok (k:=0) c (λg A outer s H m Q E l h=>?_);obtain⟨d,rfl,q⟩:=h;refine⟨_,(yF (yP (yV zA (yV aVi (yV Y3 (pv 0) (v0 (v:= .int 7) rfl b ⟨_,rfl⟩)) (v0 (v:= .int 5) rfl a ⟨_,rfl⟩)) (yU (aKi rfl) rfl T.b_min aKe (yA (yV y0 (pv 0) (v0 (v:= .int 7) rfl b ⟨_,rfl⟩)) (yA (yV wU (v0 (v:= .int 5) rfl a ⟨_,rfl⟩) yE) yD)))))),?_⟩;refine⟨_,rfl,_,_,rfl,rfl,⟨by decide,by decide⟩,_,_,rfl,rfl,.inr ⟨by decide,by decide⟩,_,rfl,_,_,rfl,rfl,(show(0:Int)<7 by decide),_,_,rfl,rfl,_,_,rfl,_,_,rfl,rfl,?_⟩;have e:(if 5 - 1<d % 7 then 5 - 1 else d % 7:Int)=if 4<d % 7 then 4 else d % 7:=rfl;exact q
theorem aYS:yM ["shut","date"] ["shut","date"] (yH aJF):=scM
theorem uZ(d:Int):∀ns:List Int,inV (.int d) (ns.map V.int)=ns.contains d
 |[]=>rfl
 |n::r=>by have a:=uZ d r;unfold inV at a ⊢;rw[bY2,cXx,a,cXA];congr 1;show(n==d)=(d==n);rw[Bool.eq_iff_iff,beq_iff_eq,beq_iff_eq];exact eq_comm
theorem uL:∀ns:List Int,(ns.map V.int).all Z8=true
 |[]=>rfl
 |n::r=>by rw[bY2,cZu,uL r];rfl
theorem aK7(T:vI mg)(b:FnG P w K mg base 1 "open_by_rest" ["date"] bQe)(F:Fun K "counts" "counts" aJF f fd):y8 P w K mg base CX0 2 f fd ["shut","date"] (aVC K):=by
 have e:=aYS;refine F.ok (k:=1) e (λg A outer s H m Q E i h=>?_);obtain⟨a,j,d,rfl,l,q⟩:=h;refine⟨_,(yF (yP (aVm (xK b i rfl (yA (pv 1) yD)) (aZv (zI Z2 (pv 1) (pv 0)))))),?_⟩;refine⟨_,rfl,d,rfl,_,rfl,?_⟩;unfold Dm.cts at q;cases c:Dm.opn d with
 |false=>rw[c]at q;exact q
 |true=>rw[c,Bool.true_and]at q;rw[if_pos rfl];refine⟨_,rfl,_,rfl,a,_,rfl,.inl l,rfl,uL j,?_⟩;rw[if_pos rfl,uZ];exact q
theorem aYR:yM ["shut"] ["shut"] (yH aXz):=scM
theorem aKK:xH ["shut"] (yH aXz) "date" [] [] (lsN [(".0",.local),("date",.local),("open_by_rest",.globalImplicit)]):=
 lcM
theorem Q3(p:Int->Bool):∀ns:List Int,((ns.map V.int).filter λv=>match v with|.int d=>p d|_=>false)=(ns.filter p).map V.int
 |[]=>rfl
 |n::r=>by have a:=Q3 p r;rw[bY2,List.filter_cons,List.filter_cons,a];show(if p n=true then _ else _)=_;split<;> rfl
theorem aK6(T:vI mg)(c:FnG P w K mg base 1 "open_by_rest" ["date"] bQe)(F:Fun K "closed_days" "closed_days" aXz f fd):y8 P w K mg base CX0 2 f fd ["shut"] (aVA K):=by
 have B:=aYR;refine F.ok (k:=1) B (λJ A outer s H vs Q E M h=>?_);obtain⟨a,N,rfl,W,O,q⟩:=h;refine⟨_,(yF (yP (aQn aKK rfl (xI (yU (aQP rfl) rfl T.b_sorted wQ (yA (xT (bQy rfl) rfl T.b_set bV2 (yA (pv 0) yD)) yD))) (λ_ _ _ _ _=>(wN (x6 (xK c M rfl (yA (pv 0) yD))))) (λ_ _ _ _ _=>(pv 0))))),?_⟩;refine⟨_,rfl,a,N,rfl,W,by omega,λl u hl C y e=>?_⟩;refine⟨l,u,rfl,yB,by omega,λr S n g G=>?_⟩;refine⟨r,rfl,⟨_,SqL.of yB⟩,λD j=>?_⟩;have i:S.Pairwise (·<·):=by
  have m:S.Nodup:=(g.nodup_iff).mpr C;have o:S.Pairwise (λa b=>a<=b/\a≠b):=G.and m;exact o.imp λ⟨Z,o⟩=>by omega
 have U:(S.map V.int).length<=bYI:=by rw[bYo,g.length_eq,bYR];omega
 refine aZk (λv=>match v with|.int d=>Dm.opn d|_=>false) id (SqL.of yB) j U ?_ ?_ ?_
 ·intro v t I R L hR;obtain⟨d,Y,rfl⟩:=cQm.mp t;exact⟨_,rfl,d,rfl,_,rfl,hR⟩
 ·intro v t X I R L hR;exact⟨_,rfl,hR⟩
 ·rw[Q3,List.map_id];have p:=yG hl (bWJ w l u);have x:=yG n (.lst (S.map V.int));have z:=yG j (.lst ((S.filter Dm.opn).map V.int));refine q D _ (S.filter Dm.opn) (p.trans (x.trans z)) ?_ (i.sublist cXg) ?_ ?_ yB
  ·exact(xA.trans p x).fresh j
  ·intro d;rw[cQl,g.mem_iff,e]
  ·have:=cQf Dm.opn S;rw[g.length_eq]at this;omega
theorem bXS:yM ["place"] ["place"] (yH aYy):=scM
theorem bXi(T:vI mg)(F:Fun K "day_at" "day_at" aYy f fd):y8 P w K mg base CX0 1 f fd ["place"] bQa:=by
 obtain⟨i,b⟩:=T.week;obtain⟨g,a⟩:=T.opens;have c:=bXS;refine F.ok (k:=0) c (λe A outer s H l Q E j h=>?_);obtain⟨d,rfl,q⟩:=h;refine⟨_,(yF (yP (yV zA (yV aVi (yV Y3 (pv 0) (v0 (v:= .int 5) rfl a ⟨_,rfl⟩)) (v0 (v:= .int 7) rfl b ⟨_,rfl⟩)) (yV y0 (pv 0) (v0 (v:= .int 5) rfl a ⟨_,rfl⟩))))),?_⟩;exact⟨_,rfl,_,_,rfl,rfl,⟨by decide,by decide⟩,_,_,rfl,rfl,.inr ⟨by decide,by decide⟩,_,rfl,_,_,rfl,rfl,(show(0:Int)<5 by decide),_,_,rfl,rfl,q⟩
theorem bWF:yM ["shut","date","term","place","closed"] ["shut","date","term"] (yH bKx):=scM
theorem bQG(d p:Int)(C:List Int)(i:Nat)(c:Int)(h:C[i]? =some c):Dm.aXj d p (C.take (i+1))=Dm.uJ d (Dm.aXj d p (C.take i)) c:=by
 unfold Dm.aXj;rw[cQw,h];show(C.take i++ [c]).foldl _ p=_;rw[cJt];rfl
theorem bWn(T:vI mg)(b:FnG P w K mg base 2 "closed_days" ["shut"] (aVA K))(j:FnG P w K mg base 2 "place_of" ["date"] bQg)(g:FnG P w K mg base 2 "day_at" ["place"] bQa) (F:Fun K "due_day" "due_day" bKx f fd):y8 P w K mg base CX0 3 f fd ["shut","date","term"] (bWN K):=by
 have J:=bWF;refine F.ok (k:=2) J (λN A outer s H W Q E u h=>?_);obtain⟨a,R,d,t,rfl,U,y,L,q⟩:=h;refine⟨_,(yC (yT (i:=3) (yV zA (xK j u rfl (yA (pv 1) yD)) (pv 2))) (yC (wE cQd rfl (xI (xK b u rfl (yA (pv 0) yD))) (y9 (i:=4)) (yF (y6 (bXE vF aYg (pv 1) (pv 4) (xK g u rfl (yA (pv 3) yD))) (yF (yT (i:=3) (yV zA (pv 3) yE))) yR))) (yF (yP (xK g u rfl (yA (pv 3) yD)))))),?_⟩;refine⟨_,rfl,d,rfl,_,rfl,_,_,rfl,rfl,?_⟩;refine⟨_,rfl,a,R,rfl,U,y,λr S C O M I G hl n=>⟨r,rfl,⟨_,SqL.of n⟩,?_⟩⟩;refine zK (xs:=C.map V.int) (λi σ H=>∃cl,σ= [some (.ref a),some (.int d),some (.int t),some (.int (Dm.aXj d (Dm.place d+t) (C.take i))),cl]/\H=S) ?_ ?_ ?_ ?_
 ·exact⟨none,rfl,rfl⟩
 ·rintro i σ H X ⟨cl,rfl,rfl⟩;exact SqL.of n
 ·rintro i x σ H o ⟨cl,rfl,rfl⟩;rw[bYC]at o;cases v:C[i]? with
  |none=>rw[v]at o;cases o
  |some c=>
   rw[v]at o;cases o;have p:=bQG d (Dm.place d+t) C i c v;generalize Dm.aXj d (Dm.place d+t) (C.take i)=pl at p ⊢;dsimp only[yW];refine⟨_,rfl,_,rfl,_,_,rfl,rfl,_,rfl,?_⟩;refine qD (λD=>?_) (λD=>?_)
   ·have l:d<c:=of_decide_eq_true D;refine⟨_,rfl,pl,rfl,_,_,rfl,rfl,_,rfl,?_⟩;refine qD (λB=>?_) (λB=>?_)
    ·have m:c<=Dm.zF pl:=of_decide_eq_true B;refine⟨_,rfl,_,_,rfl,rfl,some (.int c),?_,rfl⟩;have e:Dm.uJ d pl c=pl+1:=if_pos ⟨l,m⟩;rw[p,e];rfl
    ·have m:¬c<=Dm.zF pl:=of_decide_eq_false (Bool.eq_false_iff.mpr B);refine⟨some (.int c),?_,rfl⟩;have e:Dm.uJ d pl c=pl:=if_neg λz=>m z.2;rw[p,e];rfl
   ·have l:¬d<c:=of_decide_eq_false (Bool.eq_false_iff.mpr D);refine⟨_,rfl,?_⟩;refine onF rfl ⟨some (.int c),?_,rfl⟩;have e:Dm.uJ d pl c=pl:=if_neg λz=>l z.1;rw[p,e];rfl
 ·rintro σ H ⟨cl,rfl,rfl⟩;rw[bYo,cQn];exact⟨_,rfl,_,rfl,q _ _ O (Dm.bZB L I G)⟩
end
end Days
namespace Desk
open PySem L2 PyProof.Rows
open Bk (Row Rows)
structure PB(CB CL:Nat)(H:Hp)(ba la sa:Nat)(ls cs:List Nat)(R:Rows)(S:List Int):Prop where
 book:∃dx,H ba=some (.ins CB dx [("letters",.ref la),("shut",.ref sa)])
 lst:H la=some (.lst (ls.map V.ref))
 sht:H sa=some (.lst (S.map V.int))
 len:ls.length=R.length
 clen:cs.length=R.length
 nd:ls.Nodup
 cnd:cs.Nodup
 las:la≠sa
 lac:la∉cs
 sac:sa∉cs
 row:∀ (i:Nat)(b c:Nat)(r:Row),ls[i]? =some b->cs[i]? =some c->R[i]? =some r->aVQ CL H b i r c/\H c=some (.lst (r.copies.map V.str))
theorem PB.get{l CL:Nat}{H:Hp}{j la sa:Nat}{ls cs:List Nat}{R:Rows}{S:List Int}(h:PB l CL H j la sa ls cs R S){i:Nat}{r:Row}(e:R[i]? =some r): ∃b c,(ls.map V.ref)[i]? =some (.ref b)/\ls[i]? =some b/\cs[i]? =some c/\aVQ CL H b i r c/\H c=some (.lst (r.copies.map V.str)):=by
 have f:i<R.length:=Bk.wC e;have a:=bYh (show i<ls.length by rw[h.len];exact f);have d:=bYh (show i<cs.length by rw[h.clen];exact f);obtain⟨k,g⟩:=h.row i _ _ r a d e;exact⟨_,_,by rw[bYC,a];rfl,a,d,k,g⟩
theorem PB.sameT{f CL:Nat}{H a:Hp}{d la sa:Nat}{ls cs:List Nat}{R:Rows}{S:List Int}(h:PB f CL H d la sa ls cs R S)(k:x5 H a):PB f CL a d la sa ls cs R S:=
 ⟨let ⟨dx,e⟩:=h.book;⟨dx,k _ _ (λ_ z=>nomatch z) e⟩,k.lst h.lst,k.lst h.sht,h.len,h.clen,h.nd,h.cnd,h.las,h.lac,h.sac,λi b c r l j g=>
  let ⟨⟨dx,e1⟩,e2⟩:=h.row i b c r l j g;⟨⟨dx,k _ _ (λ_ z=>nomatch z) e1⟩,k.lst e2⟩⟩
theorem PB.same{c CL:Nat}{H b:Hp}{a la sa:Nat}{ls cs:List Nat}{R:Rows}{S:List Int}(h:PB c CL H a la sa ls cs R S)(k:xA H b):PB c CL b a la sa ls cs R S:=h.sameT k.t
def aW9(T:Nat)(H a:Hp):Prop:=x5 H a/\(Thr.z9 T H->Thr.z9 T a)
theorem aW9.of{T:Nat}{H a:Hp}(k:xA H a):aW9 T H a:=⟨k.t,λt=>by
 rcases t with t|⟨c,b,d⟩
 ·exact .inl (k _ _ t)
 ·exact .inr ⟨c,k _ _ b,k _ _ d⟩⟩
theorem aW9.trans{T:Nat}{H c d:Hp}(a:aW9 T H c)(b:aW9 T c d):aW9 T H d:=⟨a.1.trans b.1,λt=>b.2 (a.2 t)⟩
def xC(K:bYk)(Rf:Nat×Nat)(H:Hp)(E:XK)(t:Str):Prop:=∀ (C b:Nat)(a:Hp),vS K C->cZv K C (.ref Rf.1)=some true->aW9 Rf.2 H a->a b=some (.xd [("words",.str t)])->E (.ref C) (some b) a
theorem xC.go{K:bYk}{Rf:Nat×Nat}{H:Hp}{E:XK}{t:Str}(h:xC K Rf H E t){b:Hp}(k:aW9 Rf.2 H b):xC K Rf b E t:=λC d a c m f e=>h C d a c m (k.trans f) e
theorem xC.raise{P:bYE}{w:bYK}{K:bYk}{mg:Str->Option bYi}{base:Heap}{k:Nat}{x:Str}{Rf:Nat×Nat}{C:Nat}{H:Hp}{E:XK}{t:Str}(h:xC K Rf H E t)(G:ExG P w K mg base k x Rf.1 C t){D:aZV}{σ:L2.St}:bZS C t E D σ H:=
 λa b=>h C a _ G.cl G.sub (aW9.of (yG b _)) yB
inductive aY7(K:bYk)(Rf:Nat×Nat)(CB CL:Nat)(vs:List V)(H:Hp)(Q:VK)(E:XK):Prop|mk (ba la sa:Nat) (ls cs:List Nat) (R:Rows) (S:List Int) (m:Int) (_:vs= [.ref ba,.int m]) (_:PB CB CL H ba la sa ls cs R S) (_:(∀ (k:Nat)(r:Row)(b:Nat),m=(k:Int)->R[k]? =some r->r.void=false->ls[k]? =some b->Q (.ref b) H)) (_:(Bk.wI R m=false->xC K Rf H E "no letter"))
inductive aJV(CB CL:Nat)(vs:List V)(H:Hp)(Q:VK)(_:XK):Prop|mk (ba la sa:Nat) (ls cs:List Nat) (R:Rows) (S:List Int) (i:Nat) (b:Nat) (_:vs= [.ref ba,.ref b]) (_:PB CB CL H ba la sa ls cs R S) (_:ls[i]? =some b) (_:R.length<=100) (_:∀l,H l=none->Q (.ref l) (upd H l (.lst ((Bk.zO R i).map λk=>(ls.map V.ref).getD k .non))))
inductive aVB(K:bYk)(Rf:Nat×Nat)(CB CL:Nat)(vs:List V)(H:Hp)(Q:VK)(E:XK):Prop|mk (ba la sa:Nat) (ls cs:List Nat) (R:Rows) (S:List Int) (m:Int) (_:vs= [.ref ba,.int m]) (_:PB CB CL H ba la sa ls cs R S) (_:(∀ (k:Nat)(r:Row)(l:Nat),m=(k:Int)->R[k]? =some r->r.void=false->H l=none->Q (.ref l) (upd H l (.lst (r.copies.map V.str))))) (_:(Bk.wI R m=false->xC K Rf H E "no letter"))
inductive aZO(K:bYk)(Rf:Nat×Nat)(CB CL:Nat)(vs:List V)(H:Hp)(Q:VK)(E:XK):Prop|mk (ba la sa:Nat) (ls cs:List Nat) (R:Rows) (S:List Int) (m:Int) (_:vs= [.ref ba,.int m]) (_:PB CB CL H ba la sa ls cs R S) (_:(∀ (k:Nat)(r:Row)(l:Nat),m=(k:Int)->R[k]? =some r->r.void=false->H l=none->Q (.ref l) (upd H l (.tup (stV r))))) (_:(Bk.wI R m=false->xC K Rf H E "no letter"))
section
variable {K:bYk}
abbrev aQs:Stmt:=xB "Book" "letter_at"
abbrev aVt:Stmt:=xB "Book" "answers_to"
abbrev aQr:Stmt:=xB "Book" "copies_of"
abbrev aXE:Stmt:=xB "Book" "state_of"
theorem bKC:yM ["self","number"] ["self","number"] (yH aQs):=scM
theorem bQN{R:Rows}{m:Int}(h:m<0):Bk.wI R m=false:=by
 unfold Bk.wI;rw[decide_eq_false (by omega),Bool.false_and]
theorem bQM{R:Rows}{m:Int}(h:(R.length:Int)<=m):Bk.wI R m=false:=by
 unfold Bk.wI;rw[bYQ (by omega)];simp
theorem aX9{R:Rows}{k:Nat}{r:Row}(h:R[k]? =some r):Bk.wI R (k:Int)= !r.void:=by
 unfold Bk.wI;rw[bYU,h];simp
theorem bKp(T:vI mg)(cl:Cl K CB CL)(a:ExG P w K mg base n "NoLetter" Rf.1 C1 "no letter")(F:Fun K "letter_at" "Book.letter_at" aQs f fd):y8 P w K mg base (CXR P w) (n+2) f fd ["self","number"] (aY7 K Rf CB CL):=by
 have v:=bKC;refine F.okX (k:=n+1) v (λz A outer s H O Q E C h=>?_);obtain⟨j,g,G,D,M,R,S,m,rfl,e,q,r⟩:=h;refine⟨_,(yC (y6 (PW.pt (W0 (yN vF (pv 1) yE) (W0 (yN bKq (pv 1) (yU yQ rfl T.b_len xD (yA (yZ (pv 0) rfl) yD))) (jN (x6 (yZ (yL yK (yZ (pv 0) rfl) (pv 1)) rfl)))))) (yF (zQ a C rfl)) yR) (yF (yP (yL yK (yZ (pv 0) rfl) (pv 1))))),?_⟩;obtain⟨i,o⟩:=e.book;have hl:(D.map V.ref).length=R.length:=by rw[bYo];exact e.len
 refine⟨_,rfl,_,_,rfl,rfl,_,rfl,?_⟩;refine qD (λc=>?_) (λc=>?_)
 ·exact onT rfl ((r (bQN (of_decide_eq_true c))).raise a)
 ·have I:¬m<0:=of_decide_eq_false (Bool.eq_false_iff.mpr c);refine⟨_,rfl,_,rfl,j,CB,i,_,_,rfl,o,cl.b,cl.letters,rfl,g,_,rfl,.inl (SqL.of e.lst),_,_,rfl,rfl,_,rfl,?_⟩;rw[hl];refine qD (λc=>?_) (λc=>?_)
  ·exact onT rfl ((r (bQM (of_decide_eq_true c))).raise a)
  ·have U:¬m≥(R.length:Nat):=of_decide_eq_false (Bool.eq_false_iff.mpr c);obtain⟨k,rfl⟩:∃k:Nat,m=(k:Int):=⟨m.toNat,by omega⟩;have B:k<R.length:=by omega
   have d:=bYh B;obtain⟨b,J,u,y,N,⟨p,x⟩,L⟩:=e.get d;refine⟨_,rfl,j,CB,i,_,_,rfl,o,cl.b,cl.letters,rfl,_,rfl,g,_,_,_,rfl,rfl,SqL.of e.lst,yS u,b,CL,p,_,_,rfl,x,cl.l,cl.void,rfl,_,rfl,?_⟩;cases t:R[k].void with
   |true=>exact onT rfl ((r (by rw[aX9 d,t];rfl)).raise a)
   |false=>exact onF rfl ⟨_,rfl,j,CB,i,_,_,rfl,o,cl.b,cl.letters,rfl,_,rfl,g,_,_,_,rfl,rfl,SqL.of e.lst,yS u,q k _ b rfl d t y⟩
theorem aWh{K:bYk}{a:Nat}{xs:List V}{q:List Nat}{j:TT}{r:TE}{σ:L2.St}{D:Nat}{Q:VK}{H:Hp}(p:Nat->Bool)(f:Nat->V)(hl:SqL K H a xs)(s:H D=none)(hz:xs.length<=bYI) (w:∀i v,xs[i]? =some v->∀ (c:Hp)(R:Bool->Hp->Prop),(∀b,b≠D->c b=H b)->R (p i) c->j (sub σ q (some v)) c R) (u:∀i v,xs[i]? =some v->p i=true->∀ (c:Hp)(R:VK),(∀b,b≠D->c b=H b)->R (f i) c->r (sub σ q (some v)) c R) (B:Q (.ref D) (upd H D (.lst (((bYv xs.length).filter p).map f)))):bVL (Itl K a) q j r σ D Q (upd H D (.lst [])):=by
 have e:∀g,SqL K (upd H D (.lst g)) a xs:=λg=>by
  rcases hl with(h|⟨o,h⟩)|h
  ·exact .inl (.inl (by rw[yI (yJ h s)];exact h))
  ·exact .inl (.inr ⟨o,by rw[yI (yJ h s)];exact h⟩)
  ·exact .inr h
 refine⟨λi m g c=>m=xs.length - i/\i<=xs.length/\g=((bYv i).filter p).map f/\c=upd H D (.lst g),⟨xs.length,by simp,cQe _,by simp,rfl⟩,?_⟩;rintro i m g c ⟨rfl,C,rfl,rfl⟩;refine⟨yB,?_⟩;by_cases d:i<xs.length
 ·refine .inr ⟨⟨xs,xs[i],e _,bYh d⟩,λv E x=>?_⟩;obtain⟨rfl,y⟩:=x;have t:xs[i]? =some v:=y xs (e _);have k:∀b,b≠D->upd H D (.lst (((bYv i).filter p).map f)) b=H b:=λb z=>yI z;have l:(((bYv i).filter p).map f).length<bYI:=by
   rw[bYo];have A:=cQf p (bYv i);rw[bY8]at A;omega
  refine w i v t _ _ k ?_;cases n:p i with
  |false=>show ∃F,_;refine⟨xs.length - (i+1),by omega,rfl,d,?_,rfl⟩;rw[cXE,cQr,cQW (by rw[n];decide)];simp
  |true=>show r _ _ _;refine u i v t n _ _ k ⟨l,yB,xs.length - (i+1),by omega,rfl,d,?_,by rw[uU]⟩;rw[cXE,cQr,cQX n];simp
 ·obtain rfl:i=xs.length:=by omega
  exact .inl ⟨⟨xs,e _,bYp _⟩,B⟩
theorem bXO:yM ["self","letter"] ["self","letter"] (yH aVt):=scM
theorem bQX:xH ["self","letter"] (yH aVt) "other" ["letter"] [1] (lsN [(".0",.local),("other",.local),("letter",.free)]):=
 lcM
theorem bXe(cl:Cl K CB CL)(a:MG P w K mg base CX0 n CL "is_answered_by" ["self","other"] (aY6 CL))(F:Fun K "answers_to" "Book.answers_to" aVt f fd):y8 P w K mg base CX0 (n+1) f fd ["self","letter"] (aJV CB CL):=by
 have C:=bXO;refine F.ok (k:=n) C (λL A outer s H vs Q E N h=>?_);obtain⟨T,B,Y,r,cs,R,S,i,b,rfl,d,z,hR,q⟩:=h;refine⟨_,(yF (yP (aQn bQX rfl (xI (yZ (pv 0) rfl)) (λ_ _ _ _ _=>(wN (x6 (vO a N vN (pv 1) (yA (pv 0) yD))))) (λ_ _ _ _ _=>(pv 0))))),?_⟩;obtain⟨O,U⟩:=d.book;have hl:(r.map V.ref).length=R.length:=by rw[bYo];exact d.len
 have u:i<R.length:=by rw[<- d.len];exact(bYu.mp z).1
 obtain⟨W,cc,g1,I,g3,⟨l,m⟩,g5⟩:=d.get (bYh u);obtain rfl:b=W:=bYD (z.symm.trans I);refine⟨_,rfl,T,CB,O,_,_,rfl,U,cl.b,cl.letters,rfl,B,rfl,⟨_,SqL.of d.lst⟩,λD e=>?_⟩;refine aWh (λk=>decide (Bk.lk R k=some i)) (λk=>(r.map V.ref).getD k .non) (SqL.of d.lst) e (zn (by omega)) (λj v p J G o c=>?_) (λj v p _ J G o c=>?_) ?_
 ·have X:j<R.length:=by rw[<- hl];exact(bYu.mp p).1
  have g:=bYh X;obtain⟨y,c2,M,k2,Z,⟨t,x⟩,k5⟩:=d.get g;obtain rfl:v= .ref y:=bYD (p.symm.trans M);rw[Bk.vZ g]at c;exact⟨_,rfl,b,l,_,rfl,(o _ (yJ m e)).trans m,rfl,_,rfl,b,y,i,j,_,_,_,_,rfl,⟨l,(o _ (yJ m e)).trans m⟩,⟨t,(o _ (yJ x e)).trans x⟩,_,rfl,c⟩
 ·have:(r.map V.ref).getD j .non=v:=by simp only[bY4,p];rfl
  rw[this]at c;exact⟨_,rfl,c⟩
 ·rw[hl];exact q D e
theorem aJO:yM ["self","number"] ["self","number"] (yH aQr):=scM
theorem aJo(T:vI mg)(cl:Cl K CB CL)(a:MG P w K mg base (CXR P w) n CB "letter_at" ["self","number"] (aY7 K Rf CB CL))(F:Fun K "copies_of" "Book.copies_of" aQr f fd):y8 P w K mg base (CXR P w) (n+1) f fd ["self","number"] (aVB K Rf CB CL):=by
 have p:=aJO;refine F.okX (k:=n) p (λx A outer s H U Q E y h=>?_);obtain⟨i,j,o,L,G,R,S,m,rfl,d,q,J⟩:=h;refine⟨_,(yF (yP (xT vB rfl T.b_list vD (yA (yZ (vO a y zN (pv 0) (yA (pv 1) yD)) rfl) yD)))),?_⟩;obtain⟨B,I⟩:=d.book;refine⟨_,rfl,i,B,_,rfl,I,rfl,_,rfl,i,j,o,L,G,R,S,m,rfl,d,λk r b z g D c=>?_,J⟩;obtain⟨M,v,N,u,O,⟨e,t⟩,C⟩:=d.get g;obtain rfl:b=M:=bYD (c.symm.trans u);refine⟨b,CL,e,_,_,rfl,t,cl.l,cl.copies,rfl,?_⟩;exact⟨v,_,rfl,.inl (SqL.of C),λl hl=>q k r l z g D hl⟩
theorem aWX:yM ["self","number"] ["self","number"] (yH aXE):=scM
theorem aWD(cl:Cl K CB CL)(a:MG P w K mg base (CXR P w) n CB "letter_at" ["self","number"] (aY7 K Rf CB CL))(c:MG P w K mg base CX0 n CL "state" ["self"] (aJY CL))(F:Fun K "state_of" "Book.state_of" aXE f fd): y8 P w K mg base (CXR P w) (n+1) f fd ["self","number"] (aZO K Rf CB CL):=by
 have v:=aWX;refine F.okX (k:=n) v (λB A outer s H V Q E l h=>?_);obtain⟨o,p,u,M,I,R,S,m,rfl,g,q,L⟩:=h;refine⟨_,(yF (yP (bXB c l vN (vO a l zN (pv 0) (yA (pv 1) yD))))),?_⟩;obtain⟨D,J⟩:=g.book;refine⟨_,rfl,o,D,_,rfl,J,rfl,_,rfl,o,p,u,M,I,R,S,m,rfl,g,λk r b C j G e=>?_,L⟩;obtain⟨N,z,T,y,U,⟨d,i⟩,O⟩:=g.get j;obtain rfl:b=N:=bYD (e.symm.trans y);exact⟨b,d,_,rfl,i,rfl,b,k,r,z,rfl,⟨d,i⟩,λt x=>q k r t C j G x⟩
end
end Desk
namespace Desk
open PySem L2 PyProof.Rows
open Bk (Row Rows)
open Law (aW8 jK qQ bXy aQ6 aQL)
def X6(R:Rows)(w:Str):List Nat:=(bYv R.length).filter λk=>match R[k]? with|some r=> !r.void && decide (r.place=w)|none=>false
inductive aQH(CB CL:Nat)(vs:List V)(H:Hp)(Q:VK)(_:XK):Prop|mk (ba la sa:Nat) (ls cs:List Nat) (R:Rows) (S:List Int) (w:Str) (_:vs= [.ref ba,.str w]) (_:PB CB CL H ba la sa ls cs R S) (_:R.length<64) (_:∀l,H l=none->Q (.ref l) (upd H l (.lst ((X6 R w).map λi=>V.int (i:Nat)))))
def bZ4(R:Rows)(n:Nat)(d:Int)(a:List (Key×V)):Prop:=∀j:Nat,(J9 a (Sum.inl (j:Int))).isSome=true↔∃k,k<n/\Bk.lk R k=some j/\Bk.dt R k<=d
inductive aQ9(CB CL:Nat)(vs:List V)(H:Hp)(Q:VK)(_:XK):Prop|mk (ba la sa:Nat) (ls cs:List Nat) (R:Rows) (S:List Int) (d:Int) (_:vs= [.ref ba,.int d]) (_:PB CB CL H ba la sa ls cs R S) (_:R.length<64) (_:∀ (a:Nat)(H':Hp)(kvs:List (Key×V)),xA H H'->H a=none->H' a=some (.dK kvs)->bZ4 R R.length d kvs->Q (.ref a) H')
inductive aJX(CB CL:Nat)(vs:List V)(H:Hp)(Q:VK)(_:XK):Prop|mk (ba la sa:Nat) (ls cs:List Nat) (R:Rows) (S:List Int) (d:Int) (_:vs= [.ref ba,.int d]) (_:PB CB CL H ba la sa ls cs R S) (_:R.length<64) (_:S.length<64) (_:∀ (l:Nat)(H':Hp)(ks:List Nat)(ps:List V),xA H H'->H l=none->H' l=some (.lst ps)->cQc (aW8 H' (jK R S)) ks ps->Bk.bQu R S d false ks->Q (.ref l) H')
inductive bW7(CB CL:Nat)(late:Bool)(vs:List V)(H:Hp)(Q:VK)(_:XK):Prop|mk (ba la sa:Nat) (ls cs:List Nat) (R:Rows) (S:List Int) (d:Int) (_:vs= [.ref ba,.int d]) (_:PB CB CL H ba la sa ls cs R S) (_:R.length<64) (_:S.length<64) (_:∀ (l:Nat)(H':Hp)(ks:List Nat),xA H H'->H l=none->H' l=some (.lst (ks.map λi=>V.int (i:Nat)))->Bk.bQu R S d late ks->Q (.ref l) H')
theorem aQl{X:Cx}{K:bYk}{e:Expr}{f:Str}{pos:Pos}{a:TE}(c:PE X e a)(d:cX4 e f X.env (eval e X.env)=eval e X.env)(b:X.K=K:=by rfl):PE X (.Attribute e f pos) (bKT K a f):=b ▸ yZ c d
section
variable {K:bYk}
abbrev jE:Stmt:=xB "Book" "letters_in"
abbrev aQq:Stmt:=xB "Book" "answered_by"
abbrev aYE:Stmt:=xB "Book" "waiting_pairs"
abbrev J2:Stmt:=xB "Book" "waiting"
abbrev W9:Stmt:=xB "Book" "overdue"
theorem aZG:yM ["self","name"] ["self","name"] (yH jE):=scM
theorem aZj:xH ["self","name"] (yH jE) "letter" ["name"] [1] (lsN [(".0",.local),("letter",.local),("name",.free)]):=
 lcM
theorem bJh{r:Row}{w:Str}:decide (qZ r=V.str w)=(!r.void && decide (r.place=w)):=by
 unfold qZ;cases r.void with
 |true=>rfl
 |false=>show decide (V.str r.place=V.str w)=(true && decide (r.place=w));rw[Bool.true_and,Bool.eq_iff_iff];simp
theorem aZs(cl:Cl K CB CL)(F:Fun K "letters_in" "Book.letters_in" jE f fd):y8 P w K mg base CX0 (n+1) f fd ["self","name"] (aQH CB CL):=by
 have z:=aZG;refine F.ok (k:=n) z (λG A outer s H Y Q E W h=>?_);obtain⟨J,x,U,N,X,R,S,w,rfl,d,hR,q⟩:=h;refine⟨_,(yF (yP (aQn aZj rfl (xI (yZ (pv 0) rfl)) (λ_ _ _ _ _=>(wN (yN x9 (aQl (K:=K) (pv 0) rfl) (pv 1)))) (λ_ _ _ _ _=>(aQl (K:=K) (pv 0) rfl))))),?_⟩;obtain⟨I,M⟩:=d.book;have hl:(N.map V.ref).length=R.length:=by rw[bYo];exact d.len
 refine⟨_,rfl,J,CB,I,_,_,rfl,M,cl.b,cl.letters,rfl,x,rfl,⟨_,SqL.of d.lst⟩,λD o=>?_⟩;refine aWh (λk=>match R[k]? with|some r=> !r.void && decide (r.place=w)|none=>false) (λk=>V.int (k:Nat)) (SqL.of d.lst) o (zn (by omega)) (λj v i C B t a=>?_) (λj v i _ C B t a=>?_) ?_
 ·have u:j<R.length:=by rw[<- hl];exact(bYu.mp i).1
  have g:=bYh u;obtain⟨m,L,p,T,y,⟨c,e⟩,O⟩:=d.get g;obtain rfl:v= .ref m:=bYD (i.symm.trans p);rw[g]at a;dsimp only at a;rw[<- bJh]at a;refine⟨_,rfl,m,CL,c,_,_,rfl,(t _ (yJ e o)).trans e,cl.l,cl.file,rfl,_,rfl,?_,_,rfl,a⟩;unfold qZ;cases R[j].void<;> rfl
 ·have u:j<R.length:=by rw[<- hl];exact(bYu.mp i).1
  obtain⟨m,L,p,T,y,⟨c,e⟩,O⟩:=d.get (bYh u);obtain rfl:v= .ref m:=bYD (i.symm.trans p);exact⟨_,rfl,m,CL,c,_,_,rfl,(t _ (yJ e o)).trans e,cl.l,cl.number,rfl,a⟩
 ·rw[hl];exact q D o
theorem aJN:yM ["self","day","answered","letter"] ["self","day"] (yH aQq):=scM
theorem aXV{R:Rows}{t:Nat}{d:Int}{a:List (Key×V)}(h:bZ4 R t d a)(g:∀j,Bk.lk R t=some j->¬Bk.dt R t<=d):bZ4 R (t+1) d a:=λj=>by
 rw[h j];constructor
 ·rintro⟨k,f,b⟩;exact⟨k,by omega,b⟩
 ·rintro⟨k,f,b,c⟩;by_cases e:k=t
  ·subst e;exact absurd c (g j b)
  ·exact⟨k,by omega,b,c⟩
theorem bQw{R:Rows}{t:Nat}{d:Int}{b:List (Key×V)}(h:bZ4 R t d b){i:Nat}(hl:Bk.lk R t=some i)(c:Bk.dt R t<=d){v:V}:bZ4 R (t+1) d (aJz b (Sum.inl (i:Int)) v):=λj=>by
 rw[bZq];by_cases e:j=i
 ·subst e;rw[if_pos rfl];exact⟨λ_=>⟨t,by omega,hl,c⟩,λ_=>rfl⟩
 ·rw[if_neg (λz=>e (by have:=Sum.inl.inj z;omega)),h j];constructor
  ·rintro⟨k,l,a⟩;exact⟨k,by omega,a⟩
  ·rintro⟨k,l,a,g⟩;by_cases f:k=t
   ·subst f;rw[hl]at a;exact absurd (bYD a).symm e
   ·exact⟨k,by omega,a,g⟩
theorem aJn(cl:Cl K CB CL)(F:Fun K "answered_by" "Book.answered_by" aQq f fd):y8 P w K mg base CX0 (n+1) f fd ["self","day"] (aQ9 CB CL):=by
 have Y:=aJN;refine F.ok (k:=n) Y (λZ A outer s H vs Q E hr h=>?_);obtain⟨O,X,sa,T,cs,R,S,d,rfl,C,hR,q⟩:=h;refine⟨_,(yC (yT (i:=2) bXA) (yC (wE cQd rfl (xI (yZ (pv 0) rfl)) (y9 (i:=3)) (yF (y6 (PW.pt (vQ (yN wG (yZ (pv 3) rfl) zB) (wV (yN aYg (yZ (pv 3) rfl) (pv 1))))) (yF (bJZ (bV9 hr) (pv 2) (yZ (pv 3) rfl) qN rfl)) yR))) (yF (yP (pv 2))))),?_⟩;obtain⟨dx,hb⟩:=C.book;have hl:(T.map V.ref).length=R.length:=by rw[bYo];exact C.len
 intro a J;dsimp only[yW];have I:=yG J (.dK []);refine⟨_,rfl,O,CB,dx,_,_,rfl,I _ _ hb,cl.b,cl.letters,rfl,X,rfl,⟨_,SqL.of (I _ _ C.lst)⟩,?_⟩;refine zK (xs:=T.map V.ref) (λt σ r=>∃ (e:List (Key×V))(o:Option V),σ= [some (.ref O),some (.int d),some (.ref a),o]/\xA H r/\r a=some (.dK e)/\e.length<=t/\bZ4 R t d e) ?_ ?_ ?_ ?_
 ·exact⟨[],none,rfl,I,yB,cQe _,λj=>⟨λz=>(by cases z),λ⟨k,z,_⟩=>absurd z (cQ1 _)⟩⟩
 ·rintro t σ r N ⟨e,o,rfl,g,y,U,p⟩;exact SqL.of (g _ _ C.lst)
 ·rintro t x σ r W ⟨e,o,rfl,g,y,U,p⟩;have N:t<R.length:=by rw[<- hl];exact(bYu.mp W).1
  have m:=bYh N;obtain⟨b,c,g1,g2,g3,⟨u,G⟩,g5⟩:=(C.same g).get m;obtain rfl:x= .ref b:=bYD (W.symm.trans g1);dsimp only[yW];refine⟨_,rfl,b,CL,u,_,_,rfl,G,cl.l,cl.link,rfl,rfl,_,rfl,?_⟩;have B:=Bk.vZ m;have D:=Bk.wZ m;cases v:R[t].link with
  |none=>exact onF rfl (onF rfl ⟨e,_,rfl,g,y,by omega,aXV p λj L=>by rw[B,v]at L;cases L⟩)
  |some i=>
   refine onT rfl ⟨_,rfl,b,CL,u,_,_,rfl,G,cl.l,cl.day,rfl,_,rfl,_,_,rfl,rfl,_,rfl,?_⟩;cases M:decide (R[t].date<=d)with
   |false=>exact onF rfl ⟨e,_,rfl,g,y,by omega,aXV p λj L=>by rw[D];exact of_decide_eq_false M⟩
   |true=>
    refine onT rfl ⟨_,rfl,_,rfl,b,CL,u,_,_,rfl,G,cl.l,cl.link,rfl,a,upd r a (.dK (aJz e (Sum.inl (i:Int)) (.bl true))),rfl,?_,?_⟩
    ·rw[v];exact bVR.k (k:=Sum.inl (i:Int)) y (by rw[bYR];omega)
    refine⟨_,_,rfl,?_,yB,bYT (jQ _ _ _) (by omega),bQw p (by rw[B,v]) (by rw[D];exact of_decide_eq_true M)⟩;exact aQL g J
 ·rintro σ r ⟨e,o,rfl,g,y,U,p⟩;rw[hl]at p;exact⟨_,rfl,q a r e g J y p⟩
theorem bZr{R:Rows}{i:Nat}{r:Row}{d:Int}{a:List (Key×V)}(j:R[i]? =some r)(l:bZ4 R R.length d a): Bk.W3 R i d=(decide (W1 r > 0) && (decide (r.date<=d) && !(J9 a (Sum.inl (i:Int))).isSome)):=by
 have g:((Bk.zO R i).all λk=>decide (d<Bk.dt R k))= !(J9 a (Sum.inl (i:Int))).isSome:=by
  rw[Bool.eq_iff_iff,cZq,Bool.not_eq_true',Bool.eq_false_iff,ne_eq,l i];constructor
  ·rintro h ⟨k,c,b,m⟩;have:=of_decide_eq_true (h k (cQl.mpr ⟨bYO.mpr c,decide_eq_true b⟩));omega
  ·intro h k f;obtain⟨c,b⟩:=cQl.mp f;refine decide_eq_true ?_;by_cases z:Bk.dt R k<=d
   ·exact absurd ⟨k,bYO.mp c,of_decide_eq_true b,z⟩ h
   ·omega
 unfold Bk.W3;rw[j];dsimp only;rw[g];unfold W1;cases r.void with
 |true=>rfl
 |false=>
  rw[if_neg (by decide)];have e:decide (1<=r.term)=decide (r.term > 0):=by rw[Bool.eq_iff_iff];simp;omega
  rw[e];simp[Bool.and_assoc]
theorem bXY:yM ["self","day","answered","pairs","letter"] ["self","day"] (yH aYE):=scM
theorem bXo(T:vI mg)(cl:Cl K CB CL)(j:MG P w K mg base CX0 n CB "answered_by" ["self","day"] (aQ9 CB CL))(r:FnG P w K mg base n "due_day" ["shut","date","term"] (Days.bWN K)) (F:Fun K "waiting_pairs" "Book.waiting_pairs" aYE f fd):y8 P w K mg base CX0 (n+1) f fd ["self","day"] (aJX CB CL):=by
 have sc:=bXY;refine F.ok (k:=n) sc (λc2 A outer s H vs Q E hr h=>?_);obtain⟨U,la,sa,ls,cs,R,S,d,rfl,Y,hR,hS,q⟩:=h;refine⟨_,(yC (yT (i:=2) (vO j hr vN (pv 0) (yA (pv 1) yD))) (yC (yT (i:=3) (y3 yD)) (yC (wE cQd rfl (xI (yZ (pv 0) rfl)) (y9 (i:=4)) (yF (y6 (PW.pt (vQ (yN aQW (yZ (pv 4) rfl) yE) (vQ (yN aYg (yZ (pv 4) rfl) (pv 1)) (wV (bWx (aYj (bV9 hr) (yZ (pv 4) rfl) (pv 2))))))) (yF (yY (uG bYS bYY bYZ xG (pv 3) (yA (xM (yA (xK r hr rfl (yA (yZ (pv 0) rfl) (yA (yZ (pv 4) rfl) (yA (yZ (pv 4) rfl) yD)))) (yA (yZ (pv 4) rfl) yD))) yD)))) yR))) (yF (yP (yU uB rfl T.b_sorted wQ (yA (pv 3) yD))))))),?_⟩;obtain⟨dx,hb⟩:=Y.book;have hl:(ls.map V.ref).length=R.length:=by rw[bYo];exact Y.len
 refine⟨_,rfl,U,dx,_,rfl,hb,rfl,_,rfl,U,la,sa,ls,cs,R,S,d,rfl,Y,hR,λa H0 b6 X c3 a2 hA=>?_⟩;dsimp only[yW];refine⟨z0,λy C=>?_⟩;dsimp only[yW];have k1:xA H (upd H0 y (.lst [])):=X.trans (yG C _);have c0:H y=none:=X.fresh C;refine⟨_,rfl,U,CB,dx,_,_,rfl,k1 _ _ hb,cl.b,cl.letters,rfl,la,rfl,⟨_,SqL.of (k1 _ _ Y.lst)⟩,?_⟩;have c1:a≠y:=yJ a2 C;refine zK (xs:=ls.map V.ref) (λt σ B=>∃ (g:List V)(o:Option V),σ= [some (.ref U),some (.int d),some (.ref a),some (.ref y),o]/\xA H0 B/\B y=some (.lst g)/\
  cQc (aW8 B (jK R S)) ((bYv t).filter (qQ R S d false)) g) ?_ ?_ ?_ ?_
 ·exact⟨[],none,rfl,yG C _,yB,.nil⟩
 ·rintro t σ B ht ⟨g,o,rfl,M,J,L⟩;exact SqL.of (M _ _ (X _ _ Y.lst))
 ·rintro t x σ B hx ⟨g,o,rfl,M,J,L⟩;have ht:t<R.length:=by rw[<- hl];exact(bYu.mp hx).1
  have N:=bYh ht;have O:=(Y.same X).same M;obtain⟨b8,b7⟩:=O.book;obtain⟨b,c,g1,g2,g3,⟨v,g4⟩,g5⟩:=O.get N;obtain rfl:x= .ref b:=bYD (hx.symm.trans g1);rw[cXE,cQr];dsimp only[yW];have hw:=bZr N hA;have u:qQ R S d false t=Bk.W3 R t d:=by unfold qQ;simp
  have stay:∀o',qQ R S d false t=false->∃ (g:List V)(p:Option V),[some (V.ref U),some (V.int d),some (V.ref a),some (V.ref y),o']= [some (.ref U),some (.int d),some (.ref a),some (.ref y),p]/\xA H0 B/\B y=some (.lst g)/\
    cQc (aW8 B (jK R S)) ((bYv t).filter (qQ R S d false)++ [t].filter (qQ R S d false)) g:=λo' e=>by
   have e3: [t].filter (qQ R S d false)= []:=by simp[e]
   rw[e3,cQu]
   exact⟨g,o',rfl,M,J,L⟩
  refine⟨_,rfl,b,CL,v,_,_,rfl,g4,cl.l,cl.term,rfl,_,_,rfl,rfl,_,rfl,?_⟩;cases h1:decide (W1 R[t] > 0)with
  |false=>exact onF rfl (onF rfl (stay _ (by rw[u,hw,h1];rfl)))
  |true=>
   refine onT rfl ⟨_,rfl,b,CL,v,_,_,rfl,g4,cl.l,cl.day,rfl,_,rfl,_,_,rfl,rfl,_,rfl,?_⟩;cases h2:decide (R[t].date<=d)with
   |false=>exact onF rfl (onF rfl (stay _ (by rw[u,hw,h1,h2];rfl)))
   |true=>
    refine onT rfl ⟨_,rfl,b,CL,v,_,_,rfl,g4,cl.l,cl.number,rfl,_,rfl,a,_,rfl,bVQ.k (k:=Sum.inl (t:Int)) (M _ _ a2),_,rfl,?_⟩;cases h3:(J9 b6 (Sum.inl (t:Int))).isSome with
    |true=>exact onF rfl (stay _ (by rw[u,hw,h1,h2,h3];rfl))
    |false=>
     have a5:Bk.W3 R t d=true:=by rw[hw,h1,h2,h3];rfl
     have b3:=Law.aXc ht a5;have hv:R[t].void=false:=by
      cases hv:R[t].void with
      |false=>rfl
      |true=>have:=of_decide_eq_true h1;unfold W1 at this;rw[hv]at this;simp at this
     have a7:W1 R[t]=R[t].term:=by unfold W1;rw[hv];rfl
     refine onT rfl ⟨_,rfl,.inl ⟨rfl,_,SqL.of J⟩,_,rfl,U,CB,b8,_,_,rfl,b7,cl.b,cl.shut,rfl,_,rfl,b,CL,v,_,_,rfl,g4,cl.l,cl.day,rfl,_,rfl,b,CL,v,_,_,rfl,g4,cl.l,cl.term,rfl,?_⟩;refine⟨sa,S,_,_,rfl,SqL.of O.sht,hS,by rw[a7];exact b3,λH2 D W hD=>?_⟩;have eD:D=jK R S t:=by unfold jK;rw[N,Bk.wZ N];rw[a7]at hD;exact(Bk.bZA hD).symm
     subst eD;refine⟨_,rfl,b,CL,v,_,_,rfl,W _ _ g4,cl.l,cl.number,rfl,z2,λq3 b0=>?_⟩;have b2:=W _ _ J;have k5:=yG b0 (.tup [V.int (jK R S t),V.int (t:Nat)]);have a3:=k5 _ _ b2;have il:g.length<=t:=by rw[<- L.length];exact bYT (cQf _ _) (by simp)
     have t6:∀a xs,upd H2 q3 (.tup [V.int (jK R S t),V.int (t:Nat)]) a=some (.tup xs)->upd (upd H2 q3 (.tup [V.int (jK R S t),V.int (t:Nat)])) y (.lst (g++ [V.ref q3])) a=some (.tup xs):=λa xs e=>by rw[yI (aQS e a3 (by intro z;cases z))];exact e
     have e3: [t].filter (qQ R S d false)= [t]:=by simp[u,a5]
     refine⟨y,g,.ref q3,rfl,rfl,a3,zlt (by omega),g++ [.ref q3],_,rfl,aQL (M.trans (W.trans k5)) C,yB,?_⟩;rw[e3];exact aQ6 ⟨q3,rfl,t6 _ _ yB⟩ (Paired.mapP L λ_ _ z=>z.tk λa xs e=>t6 _ _ (k5 _ _ (W _ _ e)))
 ·rintro σ B ⟨g,o,rfl,M,J,L⟩;rw[hl]at L;generalize G:(bYv R.length).filter (qQ R S d false)=fam at L;have a4:fam.length=g.length:=L.length;have fn:fam.length<=R.length:=by rw[<- G];exact bYT (cQf _ _) (by simp)
  have a9:∀k,k∈fam↔k<R.length/\qQ R S d false k=true:=λk=>by rw[<- G,cQl,bYO]
  have b5:fam.Nodup:=by rw[<- G];exact cZr.sublist cXg
  refine⟨_,rfl,y,g,λm=>(jK R S (fam.getD m 0),((fam.getD m 0:Nat):Int)),rfl,J,by omega,λa b ha hb e=>?_,λm x hx=>?_,λl out a8 a6 b1=>?_⟩
  ·have Z:fam.getD a 0=fam.getD b 0:=by have:=congrArg Prod.snd e;simp only at this;omega
   have a0:a<fam.length:=by omega
   have a1:b<fam.length:=by omega
   simp[bY4,bYh a0,bYh a1]at Z;exact(cQ3 (h₀:=a0) (h₁:=a1) b5).mp Z
  ·obtain⟨k,hk,p,J,Z⟩:=bXy L hx;have:fam.getD m 0=k:=by simp[bY4,hk]
   show ∃a,x=V.ref a/\B a=some (.tup [V.int (jK R S (fam.getD m 0)),V.int ((fam.getD m 0:Nat):Int)]);rw[this];exact⟨p,J,Z⟩
  ·have hm:∀m∈out,m<g.length:=λm hm=>bYO.mp (a6.mem_iff.mp hm);have W:=yG a8 (.lst (out.map λi=>g.getD i .non));refine q l _ (out.map λm=>fam.getD m 0) _ (X.trans (M.trans W)) ((X.trans M).fresh a8) yB ?_ ⟨λk=>?_,?_⟩
   ·have go:∀o:List Nat,(∀m∈o,m<g.length)->cQc (aW8 (upd B l (.lst (out.map λi=>g.getD i .non))) (jK R S)) (o.map λm=>fam.getD m 0) (o.map λi=>g.getD i .non):=by
     intro o;induction o with
     |nil=>intro _;exact .nil
     |cons m o ih=>
      intro h;refine .cons ?_ (ih λx hx=>h x (bYt _ hx));have I:=h m bYx;have hg:g[m]? =some (g.getD m .non):=by simp[bY4,bYh I]
      obtain⟨k,hk,p,J,Z⟩:=bXy L hg;have:fam.getD m 0=k:=by simp[bY4,hk]
      show aW8 _ _ (fam.getD m 0) (g.getD m .non);rw[this];exact⟨p,J,W _ _ Z⟩
    exact go out hm
   ·have b9:k∈out.map (λm=>fam.getD m 0)↔k∈fam:=by
     constructor
     ·intro h;obtain⟨m,b4,rfl⟩:=cQm.mp h;have I:m<fam.length:=by rw[a4];exact hm m b4
      simp[bY4,bYh I]
     ·intro h;obtain⟨m,I,e⟩:=bY7 h;refine cQm.mpr ⟨m,a6.mem_iff.mpr (bYO.mpr (by omega)),?_⟩;simp[bY4,bYh I,e]
    rw[b9,a9 k];unfold qQ;simp
   ·rw[cZL];exact b1
theorem aZe{α:Type}(a:List Nat)(g:Nat->Bool)(h:Nat->α):((bYv a.length).filter λm=>g (a.getD m 0)).map (λm=>h (a.getD m 0))=(a.filter g).map h:=by
 have e:(bYv a.length).map (λm=>a.getD m 0)=a:=by
  apply cXv;intro i;rw[bYC];by_cases b:i<a.length
  ·rw[cXh b];simp[bYh b]
  ·rw[bYQ (by simpa using b),bYQ (by omega)];rfl
 conv=>rhs;rw[<- e,List.filter_map,cXB]
 rfl
theorem aWY:yM ["self","day"] ["self","day"] (yH J2):=scM
theorem aWj:xH ["self","day"] (yH J2) "pair" [] [] (lsN [(".0",.local),("pair",.local)]):=
 lcM
theorem aWE(cl:Cl K CB CL)(a:MG P w K mg base CX0 n CB "waiting_pairs" ["self","day"] (aJX CB CL))(F:Fun K "waiting" "Book.waiting" J2 f fd):y8 P w K mg base CX0 (n+1) f fd ["self","day"] (bW7 CB CL false):=by
 have O:=aWY;refine F.ok (k:=n) O (λZ A outer s H vs Q E hr h=>?_);obtain⟨G,M,N,ls,cs,R,S,d,rfl,I,hR,hS,q⟩:=h;refine⟨_,(yF (yP (aQn aWj rfl (xI (vO a hr vN (pv 0) (yA (pv 1) yD))) (λ_ _ _ _ _=>z7) (λ_ _ _ _ _=>(yL ixT (pv 0) yE))))),?_⟩;obtain⟨dx,hb⟩:=I.book;refine⟨_,rfl,G,dx,_,rfl,hb,rfl,_,rfl,G,M,N,ls,cs,R,S,d,rfl,I,hR,hS,λl H1 g U u X o J c=>?_⟩;have r:g.length=U.length:=J.length;have a0:g.length<=R.length:=Fm.wD (c.ord.imp λ{x y} e z=>by rw[z,Stree.wL]at e;cases e) λx hx=>((c.mem x).mp hx).1;refine⟨l,rfl,⟨_,SqL.of o⟩,λD t=>?_⟩;refine aWh (λ_=>true) (λm=>V.int (g.getD m 0:Nat)) (SqL.of o) t (zn (by omega)) (λj v C Y T B b=>b) (λj v C _ Y T B b=>?_) ?_
 ·obtain⟨k,hk,p,W,L⟩:=bXy J C;subst W;have:g.getD j 0=k:=by simp[bY4,hk]
  rw[this]at b;exact⟨_,rfl,p,_,1,_,rfl,rfl,SqT.of ((B p (yJ L t)).trans L),rfl,b⟩
 ·have e:=aZe g (λ_=>true) λi=>V.int (i:Nat);rw[r]at e;rw[e,cX1.mpr λ_ _=>rfl];exact q D _ g (u.trans (yG t _)) (u.fresh t) yB c
theorem aWV:yM ["self","day"] ["self","day"] (yH W9):=scM
theorem aWi:xH ["self","day"] (yH W9) "pair" ["day"] [1] (lsN [(".0",.local),("pair",.local),("day",.free)]):=
 lcM
theorem aWB(cl:Cl K CB CL)(g:MG P w K mg base CX0 n CB "waiting_pairs" ["self","day"] (aJX CB CL))(F:Fun K "overdue" "Book.overdue" W9 f fd):y8 P w K mg base CX0 (n+1) f fd ["self","day"] (bW7 CB CL true):=by
 have Y:=aWV;refine F.ok (k:=n) Y (λa1 A outer s H vs Q E hr h=>?_);obtain⟨T,W,X,ls,cs,R,S,d,rfl,U,hR,hS,q⟩:=h;refine⟨_,(yF (yP (aQn aWi rfl (xI (vO g hr vN (pv 0) (yA (pv 1) yD))) (λ_ _ _ _ _=>(wN (yN vF (yL ixT (pv 0) yE) (pv 1)))) (λ_ _ _ _ _=>(yL ixT (pv 0) yE))))),?_⟩;obtain⟨dx,hb⟩:=U.book;refine⟨_,rfl,T,dx,_,rfl,hb,rfl,_,rfl,T,W,X,ls,cs,R,S,d,rfl,U,hR,hS,λl H1 t ps O a0 u N r=>?_⟩;have B:t.length=ps.length:=N.length;have a2:t.length<=R.length:=Fm.wD (r.ord.imp λ{x y} e z=>by rw[z,Stree.wL]at e;cases e) λx hx=>((r.mem x).mp hx).1;refine⟨l,rfl,⟨_,SqL.of u⟩,λD C=>?_⟩;refine aWh (λm=>decide (jK R S (t.getD m 0)<d)) (λm=>V.int (t.getD m 0:Nat)) (SqL.of u) C (zn (by omega)) (λj v M H' Z L o=>?_) (λj v M _ H' Z L o=>?_) ?_
 ·obtain⟨k,J,p,I,G⟩:=bXy N M;subst I;have:t.getD j 0=k:=by simp[bY4,J]
  rw[this]at o;exact⟨_,rfl,p,_,0,_,rfl,rfl,SqT.of ((L p (yJ G C)).trans G),rfl,_,rfl,_,_,rfl,rfl,_,rfl,o⟩
 ·obtain⟨k,J,p,I,G⟩:=bXy N M;subst I;have:t.getD j 0=k:=by simp[bY4,J]
  rw[this]at o;exact⟨_,rfl,p,_,1,_,rfl,rfl,SqT.of ((L p (yJ G C)).trans G),rfl,o⟩
 ·have e:=aZe t (λk=>decide (jK R S k<d)) λi=>V.int (i:Nat);rw[B]at e;rw[e];refine q D _ (t.filter λk=>decide (jK R S k<d)) (O.trans (yG C _)) (O.fresh C) yB ⟨λk=>?_,r.ord.sublist cXg⟩;rw[cQl,r.mem k,decide_eq_true_eq];unfold jK;constructor
  ·rintro⟨⟨a,b,_⟩,c⟩;exact⟨a,b,λ_=>c⟩
  ·rintro⟨a,b,c⟩;exact⟨⟨a,b,λz=>by cases z⟩,c rfl⟩
end
end Desk
namespace Desk
open PySem L2 PyProof.Rows
open Bk (Row Rows)
def own(la sa:Nat)(ls cs:List Nat):List Nat:=la::sa::(ls++cs)
def qT(o:List Nat)(H a:Hp):Prop:=∀b u,b∉o->(∀c,u≠ .tbl c)->H b=some u->a b=some u
theorem qT.of{o:List Nat}{H a:Hp}(k:x5 H a):qT o H a:=λb u _ n e=>k b u n e
theorem qT.trans{o:List Nat}{H d f:Hp}(a:qT o H d)(b:qT o d f):qT o H f:=λc u n t e=>b c u n t (a c u n t e)
theorem qT.upd{o:List Nat}{H:Hp}{b:Nat}(a:b∈o)(u:HO):qT o H (upd H b u):=λc v n _ e=>by
 rw[yI (λz=>n (by rw[z];exact a))];exact e
theorem aVk{la sa:Nat}{ls cs:List Nat}:la∈own la sa ls cs:=bYx
theorem aYh{la sa:Nat}{ls cs:List Nat}:sa∈own la sa ls cs:=bYt _ bYx
theorem aJv{la sa b:Nat}{ls cs:List Nat}(h:b∈ls):b∈own la sa ls cs:=bYt _ (bYt _ (cXb _ h))
theorem bJW{la sa b:Nat}{ls cs:List Nat}(h:b∈cs):b∈own la sa ls cs:=bYt _ (bYt _ (bYF _ h))
section
variable {CB CL:Nat}{H:Hp}{ba la sa:Nat}{ls cs:List Nat}{R:Rows}{S:List Int}
theorem PB.l_ne(h:PB CB CL H ba la sa ls cs R S){b a:Nat}{xs:List V}(g:b∈ls)(c:H a=some (.lst xs)):a≠b:=λz=>by
 obtain⟨i,f,e⟩:=bY7 g;obtain⟨n,l,o,d,p,⟨k,j⟩,m⟩:=h.get (bYh (show i<R.length by rw[<- h.len];exact f));rw[bYh f,e]at d;cases d;rw[z,j]at c;cases c
theorem PB.ba_ne(h:PB CB CL H ba la sa ls cs R S):ba∉ls:=λz=>by
 obtain⟨i,b,e⟩:=bY7 z;obtain⟨l,j,m,a,n,⟨g,f⟩,k⟩:=h.get (bYh (show i<R.length by rw[<- h.len];exact b));rw[bYh b,e]at a;cases a;obtain⟨d,c⟩:=h.book;rw[f]at c;cases c
theorem PB.set(h:PB CB CL H ba la sa ls cs R S){k:Nat}{b c dx:Nat}{r:Row}(l:ls[k]? =some b)(s:cs[k]? =some c)(t:R[k]? =some r)(f:Row->Row)(x:(f r).copies=r.copies): PB CB CL (upd H b (.ins CL dx (aZl k (f r) c))) ba la sa ls cs (Bk.xJ R k f) S:=by
 have a:=bYA l;refine⟨?_,?_,?_,by rw[Bk.zJ];exact h.len,by rw[Bk.zJ];exact h.clen,h.nd,h.cnd,h.las,h.lac,h.sac,λi u v w m n g=>?_⟩
 ·obtain⟨d,e⟩:=h.book;exact⟨d,by rw[yI (λz=>h.ba_ne (by rw[z];exact a))];exact e⟩
 ·rw[yI (h.l_ne a h.lst)];exact h.lst
 ·rw[yI (h.l_ne a h.sht)];exact h.sht
 ·rw[Bk.zC]at g;by_cases e:i=k
  ·subst e;rw[if_pos rfl,t]at g;cases g;rw[l]at m;cases m;rw[s]at n;cases n;obtain⟨_,j⟩:=h.row i b c r l s t;refine⟨⟨dx,yB⟩,?_⟩;rw[yI (h.l_ne a j),x];exact j
  ·rw[if_neg e]at g;obtain⟨⟨d,B⟩,j⟩:=h.row i u v w m n g;have o:u≠b:=λz=>by
    subst z;obtain⟨y,q⟩:=bYu.mp m;obtain⟨A,p⟩:=bYu.mp l;exact e ((cQ3 h.nd).mp (q.trans p.symm))
   exact⟨⟨d,by rw[yI o];exact B⟩,by rw[yI (h.l_ne a j)];exact j⟩
theorem PB.copy(h:PB CB CL H ba la sa ls cs R S){k:Nat}{c:Nat}{r:Row}(d:cs[k]? =some c)(n:R[k]? =some r)(l:Str): PB CB CL (upd H c (.lst ((r.copies++ [l]).map V.str))) ba la sa ls cs (Bk.xJ R k λr=>{r with copies:=r.copies++ [l] }) S:=by
 have j:=bYA d;obtain⟨b0,I,G,K,y,⟨F,J⟩,A⟩:=h.get n;rw[d]at y;cases y;have p:∀ {a C dx fs},H a=some (.ins C dx fs)->a≠c:=λq z=>by rw[z,A]at q;cases q
 refine⟨?_,?_,?_,by rw[Bk.zJ];exact h.len,by rw[Bk.zJ];exact h.clen,h.nd,h.cnd,h.las,h.lac,h.sac,λi w u B x m f=>?_⟩
 ·obtain⟨b,e⟩:=h.book;exact⟨b,by rw[yI (p e)];exact e⟩
 ·rw[yI (λz=>h.lac (by rw[z];exact j))];exact h.lst
 ·rw[yI (λz=>h.sac (by rw[z];exact j))];exact h.sht
 ·rw[Bk.zC]at f;by_cases e:i=k
  ·subst e;rw[if_pos rfl,n]at f;cases f;rw[d]at m;cases m;obtain⟨⟨b,g⟩,v⟩:=h.row i w c r x d n;exact⟨⟨b,by rw[yI (p g)];exact g⟩,yB⟩
  ·rw[if_neg e]at f;obtain⟨⟨b,g⟩,v⟩:=h.row i w u B x m f;have t:u≠c:=λz=>by
    subst z;obtain⟨D,s⟩:=bYu.mp m;obtain⟨E,o⟩:=bYu.mp d;exact e ((cQ3 h.cnd).mp (s.trans o.symm))
   exact⟨⟨b,by rw[yI (p g)];exact g⟩,by rw[yI t];exact v⟩
theorem PB.shutD(h:PB CB CL H ba la sa ls cs R S)(d:Int):PB CB CL (upd H sa (.lst ((S++ [d]).map V.int))) ba la sa ls cs R (S++ [d]):=by
 have c:∀ {a C dx fs},H a=some (.ins C dx fs)->a≠sa:=λq z=>by rw[z,h.sht]at q;cases q
 refine⟨?_,?_,yB,h.len,h.clen,h.nd,h.cnd,h.las,h.lac,h.sac,λi k j m o f n=>?_⟩
 ·obtain⟨b,e⟩:=h.book;exact⟨b,by rw[yI (c e)];exact e⟩
 ·rw[yI h.las];exact h.lst
 ·obtain⟨⟨b,g⟩,l⟩:=h.row i k j m o f n;exact⟨⟨b,by rw[yI (c g)];exact g⟩,by rw[yI (λz=>h.sac (by rw[<- z];exact bYA f))];exact l⟩
theorem PB.enter(h:PB CB CL H ba la sa ls cs R S){l c dx:Nat}{r:Row}{s:Hp}(hl:H l=none)(g:H c=none)(I:l≠c)(M:r.copies= [])(K:s l=some (.ins CL dx (aZl R.length r c)))(N:s c=some (.lst [])) (k:∀b o,H b=some o->s b=some o):PB CB CL (upd s la (.lst ((ls++ [l]).map V.ref))) ba la sa (ls++ [l]) (cs++ [c]) (R++ [r]) S:=by
 have v:l≠la:=λz=>by rw[z,h.lst]at hl;cases hl
 have m:c≠la:=λz=>by rw[z,h.lst]at g;cases g
 have G:∀ {a C dx fs},H a=some (.ins C dx fs)->a≠la:=λq z=>by rw[z,h.lst]at q;cases q
 have O:∀i b,ls[i]? =some b->i<R.length:=λi b q=>by rw[<- h.len];exact(bYu.mp q).1
 have nl:l∉ls:=λz=>by obtain⟨i,f,e⟩:=bY7 z;obtain⟨D,w,t,n,y,⟨d,E⟩,F⟩:=h.get (bYh (show i<R.length by rw[<- h.len];exact f));rw[bYh f,e]at n;cases n;rw[E]at hl;cases hl
 have J:c∉cs:=λz=>by obtain⟨i,f,e⟩:=bY7 z;obtain⟨D,w,t,n,y,E,F⟩:=h.get (bYh (show i<R.length by rw[<- h.clen];exact f));rw[bYh f,e]at y;cases y;rw[F]at g;cases g
 refine⟨?_,yB,?_,by simp[h.len],by simp[h.clen],?_,?_,h.las,?_,?_,λi D w L u p j=>?_⟩
 ·obtain⟨d,e⟩:=h.book;exact⟨d,by rw[yI (G e)];exact k _ _ e⟩
 ·rw[yI (bY0 h.las)];exact k _ _ h.sht
 ·exact cXI.mpr ⟨h.nd,cQF _ _,λa B b A z=>nl (by rw[<- bYz.mp A,<- z];exact B)⟩
 ·exact cXI.mpr ⟨h.cnd,cQF _ _,λa B b A z=>J (by rw[<- bYz.mp A,<- z];exact B)⟩
 ·intro z;rcases bYX.mp z with z|z
  ·exact h.lac z
  ·exact m (bYz.mp z).symm
 ·intro z;rcases bYX.mp z with z|z
  ·exact h.sac z
  ·rw[<- bYz.mp z,h.sht]at g;cases g
 ·by_cases f:i<R.length
  ·rw[bY5 (by rw[h.len];exact f)]at u;rw[bY5 (by rw[h.clen];exact f)]at p;rw[bY5 f]at j;obtain⟨⟨d,t⟩,n⟩:=h.row i D w L u p j;exact⟨⟨d,by rw[yI (G t)];exact k _ _ t⟩,by rw[yI (λz=>h.lac (by rw[<- z];exact bYA p))];exact k _ _ n⟩
  ·have x:i=R.length:=by
    have:=(bYu.mp j).1;simp at this;omega
   subst x;rw[bYH (by rw[h.len];exact bYp _),h.len,cQC]at u;rw[bYH (by rw[h.clen];exact bYp _),h.clen,cQC]at p;rw[bYH (bYp _),cQC]at j;cases u;cases p;cases j;exact⟨⟨dx,by rw[yI v];exact K⟩,by rw[yI m,N,M];rfl⟩
end
inductive aJW(CB:Nat)(vs:List V)(H:Hp)(Q:VK)(_:XK):Prop|mk (x dx:Nat) (_:vs= [.ref x]) (_:H x=some (.ins CB dx [])) (_:∀ (la sa:Nat)(H':Hp),H la=none->H sa=none->la≠sa->H' x=some (.ins CB dx [("letters",.ref la),("shut",.ref sa)])->H' la=some (.lst [])->H' sa=some (.lst [])->(∀b,b≠x->b≠la->b≠sa->H' b=H b)->Q .non H')
inductive bVy(CB CL:Nat)(vs:List V)(H:Hp)(Q:VK)(_:XK):Prop|mk (ba la sa:Nat) (ls cs:List Nat) (R:Rows) (S:List Int) (way:Str) (d:Int) (who:Str) (t:Int) (_:vs= [.ref ba,.str way,.int d,.str who,.int t]) (_:PB CB CL H ba la sa ls cs R S) (_:R.length<=1000) (_:∀ (l c:Nat)(H':Hp),H l=none->H c=none->PB CB CL H' ba la sa (ls++ [l]) (cs++ [c]) (R++ [⟨way,d,who,t,none,"",false,[]⟩]) S->(∀b o,b≠la->H b=some o->H' b=some o)->Q (.ref l) H')
inductive aXO(K:bYk)(Rf:Nat×Nat)(vs:List V)(H:Hp)(Q:VK)(E:XK):Prop|mk (t:Int) (_:vs= [.int t]) (_:(0<=t->Q .non H)) (_:(t<0->xC K Rf H E "no term"))
inductive aXN(K:bYk)(Rf:Nat×Nat)(vs:List V)(H:Hp)(Q:VK)(E:XK):Prop|mk (a b:Int) (_:vs= [.int a,.int b]) (_:(a<=b->Q .non H)) (_:(b<a->xC K Rf H E "too early"))
section
variable {K:bYk}
abbrev aYv:Stmt:=xB "Book" "__init__"
abbrev bKv:Stmt:=xB "Book" "add_letter"
abbrev aYI:Stmt:=xF "check_term"
abbrev aYz:Stmt:=xF "check_days"
theorem bXP:yM ["self"] ["self"] (yH aYv):=scM
theorem bXf(cl:Cl K CB CL)(F:Fun K "__init__" "Book.__init__" aYv f fd):y8 P w K mg base CX0 (n+1) f fd ["self"] (aJW CB):=by
 have o:=bXP;refine F.ok (k:=n) o (λt A outer s H v Q E u h=>?_);obtain⟨x,l,rfl,m,q⟩:=h;refine⟨_,(yC (zH (pv 0) (y3 yD) rfl) (yF (zH (pv 0) (y3 yD) rfl))),?_⟩;refine⟨z0,λla g=>?_⟩;have c:x≠la:=yJ m g;refine⟨_,rfl,x,CB,l,_,rfl,(yI c).trans m,cl.b,cl.letters,(show 0<1000 by decide),?_⟩;refine⟨z0,λsa a=>?_⟩;have d:x≠sa:=yJ yB a;have e:la≠sa:=λz=>by rw[<- z,yI (bY0 c),yB]at a;cases a
 refine⟨_,rfl,x,CB,l,_,rfl,(yI d).trans yB,cl.b,cl.shut,(show 1<1000 by decide),?_⟩;have i:H sa=none:=by rw[yI (bY0 d),yI (bY0 e)]at a;exact a
 refine q la sa _ g i e yB ?_ ?_ λb j r p=>?_
 ·rw[yI (bY0 c),yI e,yI (bY0 c),yB]
 ·rw[yI (bY0 d),yB]
 ·rw[yI j,yI p,yI j,yI r]
theorem bWD:yM ["self","way","day","partner","term","letter"] ["self","way","day","partner","term"] (yH bKv):=scM
theorem bWl(T:vI mg)(cl:Cl K CB CL)(a:MkG P w K mg base n "Letter" CL ["self","number","way","day","partner","term"] (bQd CL))(F:Fun K "add_letter" "Book.add_letter" bKv f fd): y8 P w K mg base CX0 (n+2) f fd ["self","way","day","partner","term"] (bVy CB CL):=by
 have L:=bWD;refine F.ok (k:=n+1) L (λW A outer s H vs Q E X h=>?_);obtain⟨ba,la,sa,ls,cs,R,S,B,d,y,t,rfl,l,hR,q⟩:=h;refine⟨_,(yC (yT (i:=5) (bKr a X rfl (yA (yU yQ rfl T.b_len xD (yA (yZ (pv 0) rfl) yD)) (yA (pv 1) (yA (pv 2) (yA (pv 3) (yA (pv 4) yD))))))) (yC (yY (uG bYS bYY bYZ xG (yZ (pv 0) rfl) (yA (pv 5) yD))) (yF (yP (pv 5))))),?_⟩;obtain⟨I,J⟩:=l.book;have hl:(ls.map V.ref).length=R.length:=by rw[bYo];exact l.len
 refine⟨_,rfl,ba,CB,I,_,_,rfl,J,cl.b,cl.letters,rfl,la,_,rfl,.inl (SqL.of l.lst),?_⟩;rw[hl];refine⟨_,rfl,_,rfl,_,rfl,_,rfl,λx xd D v G=>?_⟩;refine⟨x,xd,R.length,B,d,y,t,rfl,yB,λc Z j O U M=>⟨rfl,?_⟩⟩;dsimp only[yW];have r:c≠x:=λz=>by rw[z,yB]at j;cases j
 have u:c≠xd:=λz=>by rw[z,yI G,yB]at j;cases j
 have g:H c=none:=by rw[yI r,yI u]at j;exact j
 have m:∀b o,H b=some o->Z b=some o:=λb o e=>by have b1:=yJ e D;have Y:=yJ e g;have N:=yJ e v;rw[M b b1 Y,yI b1,yI N];exact e
 refine⟨_,rfl,ba,CB,I,_,_,rfl,m _ _ J,cl.b,cl.letters,rfl,.inl ⟨rfl,_,SqL.of (m _ _ l.lst)⟩,_,rfl,la,_,_,rfl,rfl,m _ _ l.lst,zlt (by omega),?_⟩;refine⟨_,rfl,?_⟩;have p:=l.enter D g (bY0 r) rfl O U m;rw[cXo]at p;refine q x c _ D g p λb o C e=>?_;rw[yI C];exact m b o e
theorem bX3:yM ["term"] ["term"] (yH aYI):=scM
theorem bXt(a:ExG P w K mg base n "NoTerm" Rf.1 C1 "no term")(F:Fun K "check_term" "check_term" aYI f fd):y8 P w K mg base (CXR P w) (n+2) f fd ["term"] (aXO K Rf):=by
 have d:=bX3;refine F.okX (k:=n+1) d (λe A outer s H i Q E g h=>?_);obtain⟨t,rfl,q,b⟩:=h;refine⟨_,(yF (y6 (yN vF (pv 0) yE) (yF (zQ a g rfl)) yR)),?_⟩;refine⟨_,rfl,_,_,rfl,rfl,_,rfl,?_⟩;refine qD (λc=>?_) (λc=>?_)
 ·exact(b (of_decide_eq_true c)).raise a
 ·exact q (by have:=of_decide_eq_false (Bool.eq_false_iff.mpr c);omega)
theorem bXT:yM ["asked_day","reply_day"] ["asked_day","reply_day"] (yH aYz):=scM
theorem bXj(d:ExG P w K mg base n "TooEarly" Rf.1 C1 "too early")(F:Fun K "check_days" "check_days" aYz f fd):y8 P w K mg base (CXR P w) (n+2) f fd ["asked_day","reply_day"] (aXN K Rf):=by
 have e:=bXT;refine F.okX (k:=n+1) e (λg A outer s H l Q E i h=>?_);obtain⟨a,b,rfl,q,j⟩:=h;refine⟨_,(yF (y6 (yN vF (pv 1) (pv 0)) (yF (zQ d i rfl)) yR)),?_⟩;refine⟨_,rfl,_,rfl,_,_,rfl,rfl,_,rfl,?_⟩;refine qD (λc=>?_) (λc=>?_)
 ·exact(j (of_decide_eq_true c)).raise d
 ·exact q (by have:=of_decide_eq_false (Bool.eq_false_iff.mpr c);omega)
end
end Desk
namespace Desk
open PySem L2 PyProof.Rows
open Bk (Row Rows)
def w8(o:List Nat)(H a:Hp):Prop:=∀b u,b∉o->H b=some u->a b=some u
theorem w8.of{o:List Nat}{H a:Hp}(k:xA H a):w8 o H a:=λb u _ e=>k b u e
theorem w8.trans{o:List Nat}{H d f:Hp}(a:w8 o H d)(b:w8 o d f):w8 o H f:=λc u n e=>b c u n (a c u n e)
theorem w8.upd{o:List Nat}{H:Hp}{b:Nat}(a:b∈o)(u:HO):w8 o H (upd H b u):=λc v n e=>by
 rw[yI (λz=>n (by rw[z];exact a))];exact e
theorem w8.t{o:List Nat}{H a:Hp}(k:w8 o H a):qT o H a:=λb u n _ e=>k b u n e
def qC(H:Hp)(o a:List Nat):Prop:=∀b∈a,b∈o\/H b=none
theorem qC.refl{H:Hp}{o:List Nat}:qC H o o:=λb h=> .inl h
theorem qC.snoc{H:Hp}{la sa l c:Nat}{ls cs:List Nat}(hl:H l=none)(a:H c=none):qC H (own la sa ls cs) (own la sa (ls++ [l]) (cs++ [c])):=λb h=>by
 rcases bYr.mp h with e|h
 ·exact .inl (by rw[e];exact aVk)
 rcases bYr.mp h with e|h
 ·exact .inl (by rw[e];exact aYh)
 rcases bYX.mp h with h|h
 ·rcases bYX.mp h with h|h
  ·exact .inl (aJv h)
  ·exact .inr (by rw[bYz.mp h];exact hl)
 ·rcases bYX.mp h with h|h
  ·exact .inl (bJW h)
  ·exact .inr (by rw[bYz.mp h];exact a)
def aXR(g CL e la sa:Nat)(ls cs:List Nat)(H:Hp)(f:Rows)(d:List Int)(q:Hp->Prop):Prop:=∀ (c:Hp)(b a:List Nat),PB g CL c e la sa b a f d->w8 (own la sa ls cs) H c->qC H (own la sa ls cs) (own la sa b a)->q c
def bWh(i:Nat)(r:Row)(c:Nat)(t:Int):List (Str×V):=
 [("number",.int (i:Nat)),("way",.str r.way),("day",.int r.date),("partner",.str r.partner),("term",.int t),("link",wM r.link),("file",qZ r),("copies",.ref c),("void",.bl r.void)]
inductive bQc(K:bYk)(Rf:Nat×Nat)(CB CL:Nat)(vs:List V)(H:Hp)(Q:VK)(E:XK):Prop|mk (ba la sa:Nat) (ls cs:List Nat) (R:Rows) (S:List Int) (way:Str) (d:Int) (who:Str) (t:Int) (_:vs= [.ref ba,.str way,.int d,.str who,.int t]) (_:PB CB CL H ba la sa ls cs R S) (_:R.length<=1000) (_:(0<=t->aXR CB CL ba la sa ls cs H (R++ [⟨way,d,who,t,none,"",false,[]⟩]) S (Q (.int (R.length:Nat))))) (_:(t<0->xC K Rf H E "no term"))
inductive bQh(K:bYk)(Rf:Nat×Nat)(CB CL:Nat)(vs:List V)(H:Hp)(Q:VK)(E:XK):Prop|mk (ba la sa:Nat) (ls cs:List Nat) (R:Rows) (S:List Int) (m d t:Int) (_:vs= [.ref ba,.int m,.int d,.int t]) (_:PB CB CL H ba la sa ls cs R S) (_:R.length<=1000) (_:(Bk.wI R m=false->xC K Rf H E "no letter")) (_:(Bk.wI R m=true->t<0->xC K Rf H E "no term")) (_:∀ (k:Nat)(r:Row),m=(k:Int)->R[k]? =some r->r.void=false->0<=t->(d<r.date->xC K Rf H E "too early")/\(r.date<=d->aXR CB CL ba la sa ls cs H (R++ [⟨Bk.uO r.way,d,r.partner,t,some k,r.place,false,[]⟩]) S (Q (.int (R.length:Nat)))))
inductive aVG(K:bYk)(Rf:Nat×Nat)(CB CL:Nat)(vs:List V)(H:Hp)(Q:VK)(E:XK):Prop|mk (ba la sa:Nat) (ls cs:List Nat) (R:Rows) (S:List Int) (m:Int) (_:vs= [.ref ba,.int m]) (_:PB CB CL H ba la sa ls cs R S) (_:(Bk.wI R m=false->xC K Rf H E "no letter")) (_:∀ (k:Nat)(r:Row),m=(k:Int)->R[k]? =some r->r.void=false->(r.link=none->xC K Rf H E "has none")/\(r.link≠none->aXR CB CL ba la sa ls cs H (Bk.xJ R k λr=>{r with link:=none}) S (Q .non)))
inductive aZN(K:bYk)(Rf:Nat×Nat)(CB CL:Nat)(vs:List V)(H:Hp)(Q:VK)(E:XK):Prop|mk (ba la sa:Nat) (ls cs:List Nat) (R:Rows) (S:List Int) (m t:Int) (_:vs= [.ref ba,.int m,.int t]) (_:PB CB CL H ba la sa ls cs R S) (_:(Bk.wI R m=false->xC K Rf H E "no letter")) (_:∀ (k:Nat)(r:Row),m=(k:Int)->R[k]? =some r->r.void=false->(t<0->xC K Rf H E "no term")/\(0<=t->aXR CB CL ba la sa ls cs H (Bk.xJ R k λr=>{r with term:=t}) S (Q .non)))
inductive bZY(K:bYk)(Rf:Nat×Nat)(CB CL:Nat)(vs:List V)(H:Hp)(Q:VK)(E:XK):Prop|mk (ba la sa:Nat) (ls cs:List Nat) (R:Rows) (S:List Int) (m:Int) (who:Str) (_:vs= [.ref ba,.int m,.str who]) (_:PB CB CL H ba la sa ls cs R S) (_:(∀r∈R,r.copies.length<=1000)) (_:(Bk.wI R m=false->xC K Rf H E "no letter")) (_:∀ (k:Nat)(r:Row),m=(k:Int)->R[k]? =some r->r.void=false->(who=r.partner\/who∈r.copies->xC K Rf H E "copied")/\(who≠r.partner->who∉r.copies->aXR CB CL ba la sa ls cs H (Bk.xJ R k λr=>{r with copies:=r.copies++ [who] }) S (Q (.int ((r.copies.length:Nat)+1)))))
inductive aVz(K:bYk)(Rf:Nat×Nat)(CB CL:Nat)(vs:List V)(H:Hp)(Q:VK)(E:XK):Prop|mk (ba la sa:Nat) (ls cs:List Nat) (R:Rows) (S:List Int) (m:Int) (_:vs= [.ref ba,.int m]) (_:PB CB CL H ba la sa ls cs R S) (_:R.length<=100) (_:(Bk.wI R m=false->xC K Rf H E "no letter")) (_:∀ (k:Nat)(r:Row),m=(k:Int)->R[k]? =some r->r.void=false->(Bk.zO R k≠ []->xC K Rf H E "answered")/\(Bk.zO R k= []->aXR CB CL ba la sa ls cs H (Bk.xJ R k λr=>{r with link:=none,void:=true}) S (Q .non)))
inductive bZZ(K:bYk)(Rf:Nat×Nat)(CB CL:Nat)(vs:List V)(H:Hp)(Q:VK)(E:XK):Prop|mk (ba la sa:Nat) (ls cs:List Nat) (R:Rows) (S:List Int) (d:Int) (_:vs= [.ref ba,.int d]) (_:PB CB CL H ba la sa ls cs R S) (_:S.length<=1000) (_:(Dm.cts S d=false->xC K Rf H E "counts not")) (_:(Dm.cts S d=true->aXR CB CL ba la sa ls cs H R (S++ [d]) (Q .non)))
inductive aVH(K:bYk)(Rf:Nat×Nat)(CB CL:Nat)(vs:List V)(H:Hp)(Q:VK)(E:XK):Prop|mk (ba la sa:Nat) (ls cs:List Nat) (R:Rows) (S:List Int) (m d:Int) (_:vs= [.ref ba,.int m,.int d]) (_:PB CB CL H ba la sa ls cs R S) (_:R.length<=100) (_:Bk.qR R) (_:(Bk.wI R m=false->xC K Rf H E "no letter")) (_:∀ (k:Nat)(r:Row),m=(k:Int)->R[k]? =some r->r.void=false->(((∃j,r.link=some j/\d<Bk.dt R j)\/∃c∈Bk.zO R k,Bk.dt R c<d)->xC K Rf H E "too early")/\((∀j,r.link=some j->Bk.dt R j<=d)->(∀c∈Bk.zO R k,d<=Bk.dt R c)->aXR CB CL ba la sa ls cs H (Bk.xJ R k λr=>{r with date:=d}) S (Q .non)))
theorem aWZ(R:Rows)(r:Row)(f:Row->Row):Bk.xJ (R++ [r]) R.length f=R++ [f r]:=by
 apply cXv;intro i;rw[Bk.zC];by_cases e:i=R.length
 ·subst e;rw[if_pos rfl,bYH (bYp _),bYH (bYp _),cQC];rfl
 ·rw[if_neg e];by_cases h:i<R.length
  ·rw[bY5 h,bY5 h]
  ·rw[bYQ (by simp;omega),bYQ (by simp;omega)]
section
variable {K:bYk}
abbrev aYB:Stmt:=xB "Book" "enter"
abbrev aYG:Stmt:=xB "Book" "reply"
abbrev aJH:Stmt:=xB "Book" "loosen"
abbrev aXD:Stmt:=xB "Book" "put_term"
abbrev bVe:Stmt:=xB "Book" "send_copy"
abbrev aJE:Stmt:=xB "Book" "cancel"
abbrev bVf:Stmt:=xB "Book" "shut_day"
abbrev aJI:Stmt:=xB "Book" "put_day"
theorem bXV:yM ["self","way","day","partner","term"] ["self","way","day","partner","term"] (yH aYB):=scM
theorem bXl(cl:Cl K CB CL)(a:FnX P w K mg base n "check_term" ["term"] (aXO K Rf))(g:MG P w K mg base CX0 n CB "add_letter" ["self","way","day","partner","term"] (bVy CB CL)) (F:Fun K "enter" "Book.enter" aYB f fd):y8 P w K mg base (CXR P w) (n+1) f fd ["self","way","day","partner","term"] (bQc K Rf CB CL):=by
 have G:=bXV;refine F.okX (k:=n) G (λL A outer s H Y Q E r h=>?_);obtain⟨v,B,C,y,x,R,S,p,d,o,t,rfl,j,hR,q,U⟩:=h;refine⟨_,(yC (yY (aQm a r rfl (yA (pv 4) yD))) (yF (yP (yZ (vO g r vN (pv 0) (yA (pv 1) (yA (pv 2) (yA (pv 3) (yA (pv 4) yD))))) rfl)))),?_⟩;obtain⟨N,T⟩:=j.book;refine⟨_,rfl,t,rfl,λI=>?_,U⟩;refine⟨_,rfl,v,N,_,rfl,T,rfl,_,rfl,_,rfl,_,rfl,_,rfl,v,B,C,y,x,R,S,p,d,o,t,rfl,j,hR,λl c V hl D i M=>?_⟩;have W:(y++ [l])[R.length]? =some l:=by rw[<- j.len,bYH (bYp _),cQC];rfl
 have J:(x++ [c])[R.length]? =some c:=by rw[<- j.clen,bYH (bYp _),cQC];rfl
 obtain⟨⟨m,O⟩,X⟩:=i.row R.length l c _ W J (by rw[bYH (bYp _),cQC];rfl);exact⟨l,CL,m,_,_,rfl,O,cl.l,cl.number,rfl,q I V _ _ i (λb u n e=>M b u (λz=>n (by rw[z];exact aVk)) e) (qC.snoc hl D)⟩
theorem bX0:yM ["self","number","day","term","asked","letter"] ["self","number","day","term"] (yH aYG):=scM
theorem qJ{R:Rows}{k:Nat}{r:Row}(b:R[k]? =some r)(a:r.void=false):Bk.wI R (k:Int)=true:=by rw[aX9 b,a];rfl
theorem aXl{r:Row}(a:r.void=false):qZ r= .str r.place:=by unfold qZ;rw[a];rfl
theorem bZj{r:Row}(a:r.void=false):W1 r=r.term:=by unfold W1;rw[a];rfl
theorem bXq(cl:Cl K CB CL)(o:MG P w K mg base (CXR P w) n CB "letter_at" ["self","number"] (aY7 K Rf CB CL))(a:FnX P w K mg base n "check_term" ["term"] (aXO K Rf)) (j:FnX P w K mg base n "check_days" ["asked_day","reply_day"] (aXN K Rf)) (p:FnG P w K mg base n "other_way" ["way"] bQf) (g:MG P w K mg base CX0 n CB "add_letter" ["self","way","day","partner","term"] (bVy CB CL)) (F:Fun K "reply" "Book.reply" aYG f fd):y8 P w K mg base (CXR P w) (n+1) f fd ["self","number","day","term"] (bQh K Rf CB CL):=by
 have sc:=bX0;refine F.okX (k:=n) sc (λa0 A outer s H vs Q E G h=>?_);obtain⟨I,Y,sa,J,L,R,S,m,d,t,rfl,y,hR,q1,q2,q3⟩:=h;refine⟨_,(yC (yT (i:=4) (vO o G zN (pv 0) (yA (pv 1) yD))) (yC (yY (aQm a G rfl (yA (pv 3) yD))) (yC (yY (aQm j G rfl (yA (yZ (pv 4) rfl) (yA (pv 2) yD)))) (yC (yT (i:=5) (vO g G vN (pv 0) (yA (xK p G rfl (yA (yZ (pv 4) rfl) yD)) (yA (pv 2) (yA (yZ (pv 4) rfl) (yA (pv 3) yD)))))) (yC (zH (pv 5) (pv 1) rfl) (yC (zH (pv 5) (yZ (pv 4) rfl) rfl) (yF (yP (yZ (pv 5) rfl))))))))),?_⟩;obtain⟨N,hb⟩:=y.book;refine⟨_,rfl,I,N,_,rfl,hb,rfl,_,rfl,I,Y,sa,J,L,R,S,m,rfl,y,λk r b em V O W=>?_,q1⟩;subst em;obtain⟨T,cc,g1,g2,g3,⟨q,B⟩,g5⟩:=y.get V;obtain rfl:b=T:=bYD (W.symm.trans g2);dsimp only[yW];refine⟨_,rfl,t,rfl,λZ=>?_,λZ=>q2 (qJ V O) Z⟩;obtain⟨q4,q5⟩:=q3 k r rfl V O Z;refine⟨_,rfl,b,CL,q,_,_,rfl,B,cl.l,cl.day,rfl,_,rfl,r.date,d,rfl,λhd=>?_,q4⟩;refine⟨_,rfl,I,N,_,rfl,hb,rfl,_,rfl,b,CL,q,_,_,rfl,B,cl.l,cl.way,rfl,r.way,rfl,_,rfl,_,rfl,b,CL,q,_,_,rfl,B,cl.l,cl.partner,rfl,_,rfl,I,Y,sa,J,L,R,S,Bk.uO r.way,d,r.partner,t,rfl,y,hR,λl c H1 hl hc C k1=>?_⟩;dsimp only[yW];have h1:(J++ [l])[R.length]? =some l:=by rw[<- y.len,bYH (bYp _),cQC];rfl
 have h2:(L++ [c])[R.length]? =some c:=by rw[<- y.clen,bYH (bYp _),cQC];rfl
 have h3:(R++ [(⟨Bk.uO r.way,d,r.partner,t,none,"",false,[]⟩:Row)])[R.length]? =some ⟨Bk.uO r.way,d,r.partner,t,none,"",false,[]⟩:=by rw[bYH (bYp _),cQC];rfl
 obtain⟨⟨v,f1⟩,f2⟩:=C.row R.length l c _ h1 h2 h3;refine⟨_,rfl,_,rfl,l,CL,v,_,rfl,f1,cl.l,cl.link,(show 9<1000 by decide),?_⟩;have X:b≠l:=yJ B hl;have M:b≠Y:=λz=>by rw[z,y.lst]at B;cases B
 have U:upd H1 l (.ins CL v (aQX "link" (.int (k:Nat)) (aZl R.length ⟨Bk.uO r.way,d,r.partner,t,none,"",false,[]⟩ c))) b=some (.ins CL q (aZl k r cc)):=(yI X).trans (k1 _ _ M B);refine⟨_,rfl,b,CL,q,_,_,rfl,U,cl.l,cl.file,rfl,_,rfl,l,CL,v,_,rfl,yB,cl.l,cl.file,(show 9<1000 by decide),?_⟩;rw[uU];refine⟨_,rfl,l,CL,v,_,_,rfl,yB,cl.l,cl.number,rfl,?_⟩;have D:=C.set (dx:=v) h1 h2 h3 (λx=>{x with link:=some k,place:=r.place}) rfl;rw[aWZ]at D;have e9:aQX "file" (qZ r) (aQX "link" (.int (k:Nat)) (aZl R.length ⟨Bk.uO r.way,d,r.partner,t,none,"",false,[]⟩ c))=aZl R.length ⟨Bk.uO r.way,d,r.partner,t,some k,r.place,false,[]⟩ c:=by rw[aXl O];rfl
 refine q5 hd _ (J++ [l]) (L++ [c]) ?_ (λT u nb e=>?_) (qC.snoc hl hc)
 ·rw[e9];exact D
 ·rw[yI (λz=>by rw[z]at e;rw[hl]at e;cases e)];exact k1 T u (λz=>nb (by rw[z];exact aVk)) e
theorem aYW:yM ["self","number","letter"] ["self","number"] (yH aJH):=scM
theorem aYb(cl:Cl K CB CL)(c:MG P w K mg base (CXR P w) (n+1) CB "letter_at" ["self","number"] (aY7 K Rf CB CL))(a:ExG P w K mg base n "HasNone" Rf.1 C1 "has none") (F:Fun K "loosen" "Book.loosen" aJH f fd):y8 P w K mg base (CXR P w) (n+2) f fd ["self","number"] (aVG K Rf CB CL):=by
 have z:=aYW;refine F.okX (k:=n+1) z (λB A outer s H Z Q E u h=>?_);obtain⟨v,x,y,T,J,R,S,m,rfl,g,C,O⟩:=h;refine⟨_,(yC (yT (i:=2) (vO c u zN (pv 0) (yA (pv 1) yD))) (yC (y6 (yN aVh (yZ (pv 2) rfl) zB) (yF (zQ a u rfl)) yR) (yF (zH (pv 2) zB rfl)))),?_⟩;obtain⟨G,N⟩:=g.book;refine⟨_,rfl,v,G,_,rfl,N,rfl,_,rfl,v,x,y,T,J,R,S,m,rfl,g,λk r b D p I q=>?_,C⟩;obtain⟨U,W,Y,o,M,⟨d,t⟩,X⟩:=g.get p;obtain rfl:b=U:=bYD (q.symm.trans o);obtain⟨V,L⟩:=O k r D p I;dsimp only[yW];refine⟨_,rfl,b,CL,d,_,_,rfl,t,cl.l,cl.link,rfl,rfl,_,rfl,?_⟩;cases e:r.link with
 |none=>exact onT rfl ((V e).raise a)
 |some j=>refine onF rfl ⟨_,rfl,b,CL,d,_,rfl,t,cl.l,cl.link,(show 9<1000 by decide),?_⟩;exact L (by rw[e];simp) _ _ _ (g.set o M p (λr=>{r with link:=none}) rfl) (w8.upd (aJv (bYA o)) _) qC.refl
theorem aWW:yM ["self","number","term","letter"] ["self","number","term"] (yH aXD):=scM
theorem aWC(cl:Cl K CB CL)(c:MG P w K mg base (CXR P w) n CB "letter_at" ["self","number"] (aY7 K Rf CB CL))(a:FnX P w K mg base n "check_term" ["term"] (aXO K Rf)) (F:Fun K "put_term" "Book.put_term" aXD f fd):y8 P w K mg base (CXR P w) (n+1) f fd ["self","number","term"] (aZN K Rf CB CL):=by
 have z:=aWW;refine F.okX (k:=n) z (λD A outer s H vs Q E q h=>?_);obtain⟨v,x,y,V,M,R,S,m,t,rfl,d,G,U⟩:=h;refine⟨_,(yC (yT (i:=3) (vO c q zN (pv 0) (yA (pv 1) yD))) (yC (yY (aQm a q rfl (yA (pv 2) yD))) (yF (zH (pv 3) (pv 2) rfl)))),?_⟩;obtain⟨J,T⟩:=d.book;refine⟨_,rfl,v,J,_,rfl,T,rfl,_,rfl,v,x,y,V,M,R,S,m,rfl,d,λk r b I j u o=>?_,G⟩;obtain⟨W,g,Z,e,O,⟨p,C⟩,Y⟩:=d.get j;obtain rfl:b=W:=bYD (o.symm.trans e);obtain⟨X,N⟩:=U k r I j u;dsimp only[yW];refine⟨_,rfl,t,rfl,λB=>?_,X⟩;refine⟨_,rfl,_,rfl,b,CL,p,_,rfl,C,cl.l,cl.term,(show 9<1000 by decide),?_⟩;have L:aQX "term" (.int t) (aZl k r g)=aZl k {r with term:=t} g:=by show bWh k {r with term:=t} g t=_;unfold bWh aZl;rw[bZj (r:={r with term:=t}) u]
 rw[L];exact N B _ _ _ (d.set e O j (λr=>{r with term:=t}) rfl) (w8.upd (aJv (bYA e)) _) qC.refl
theorem bVr:yM ["self","number","person","letter"] ["self","number","person"] (yH bVe):=scM
theorem bJQ(T:vI mg)(cl:Cl K CB CL)(e:MG P w K mg base (CXR P w) (n+1) CB "letter_at" ["self","number"] (aY7 K Rf CB CL))(a:MG P w K mg base CX0 (n+1) CL "has_gone_to" ["self","person"] (bZT CL))(d:ExG P w K mg base n "Copied" Rf.1 C1 "copied") (F:Fun K "send_copy" "Book.send_copy" bVe f fd):y8 P w K mg base (CXR P w) (n+2) f fd ["self","number","person"] (bZY K Rf CB CL):=by
 have L:=bVr;refine F.okX (k:=n+1) L (λN A outer s H vs Q E x h=>?_);obtain⟨D,I,J,ls,Z,R,S,m,g,rfl,u,v,O,q2⟩:=h;refine⟨_,(yC (yT (i:=3) (vO e x zN (pv 0) (yA (pv 1) yD))) (yC (y6 (x6 (vO a x vN (pv 3) (yA (pv 2) yD))) (yF (zQ d x rfl)) yR) (yC (yY (uG bYS bYY bYZ xG (yZ (pv 3) rfl) (yA (pv 2) yD))) (yF (yP (yU yQ rfl T.b_len xD (yA (yZ (pv 3) rfl) yD))))))),?_⟩;obtain⟨W,hb⟩:=u.book;refine⟨_,rfl,D,W,_,rfl,hb,rfl,_,rfl,D,I,J,ls,Z,R,S,m,rfl,u,λk r b U q X B=>?_,O⟩;obtain⟨b',p,g1,M,G,⟨j,o⟩,t⟩:=u.get q;obtain rfl:b=b':=bYD (B.symm.trans M);obtain⟨q3,q4⟩:=q2 k r U q X;have C:=v r (bYA q);dsimp only[yW];refine⟨_,rfl,b,j,_,rfl,o,rfl,_,rfl,b,k,r,p,g,rfl,⟨j,o⟩,t,_,rfl,?_⟩;refine qD (λc=>?_) (λc=>?_)
 ·refine(q3 ?_).raise d;rw[Bool.or_eq_true,decide_eq_true_eq,cQR]at c;exact c
 ·rw[Bool.or_eq_true,decide_eq_true_eq,cQR,not_or]at c;have y:b≠p:=λz=>by rw[z,t]at o;cases o
  refine⟨_,rfl,b,CL,j,_,_,rfl,o,cl.l,cl.copies,rfl,.inl ⟨rfl,_,SqL.of t⟩,_,rfl,p,_,_,rfl,rfl,t,zlt (by rw[bYo];omega),?_⟩;refine⟨_,rfl,b,CL,j,_,_,rfl,(yI y).trans o,cl.l,cl.copies,rfl,p,_,rfl,.inl (SqL.of yB),?_⟩;have Y:r.copies.map V.str++ [V.str g]=(r.copies++ [g]).map V.str:=by simp
  rw[Y];have e8:((r.copies++ [g]).map V.str).length=r.copies.length+1:=by simp
  rw[e8];exact q4 c.1 c.2 _ _ _ (u.copy G q g) (w8.upd (bJW (bYA G)) _) qC.refl
theorem aYQ:yM ["self","number","letter"] ["self","number"] (yH aJE):=scM
theorem aK5(T:vI mg)(cl:Cl K CB CL)(g:MG P w K mg base (CXR P w) (n+1) CB "letter_at" ["self","number"] (aY7 K Rf CB CL))(d:MG P w K mg base CX0 (n+1) CB "answers_to" ["self","letter"] (aJV CB CL))(e:MG P w K mg base CX0 (n+1) CL "make_void" ["self"] (bZ0 CL))(a:ExG P w K mg base n "Answered" Rf.1 C1 "answered") (F:Fun K "cancel" "Book.cancel" aJE f fd):y8 P w K mg base (CXR P w) (n+2) f fd ["self","number"] (aVz K Rf CB CL):=by
 have M:=aYQ;refine F.okX (k:=n+1) M (λO A outer s H vs Q E t h=>?_);obtain⟨u,C,D,B,J,R,S,m,rfl,o,hR,U,q2⟩:=h;refine⟨_,(yC (yT (i:=2) (vO g t zN (pv 0) (yA (pv 1) yD))) (yC (y6 (yN aQW (yU yQ rfl T.b_len xD (yA (vO d t vN (pv 0) (yA (pv 2) yD)) yD)) yE) (yF (zQ a t rfl)) yR) (yF (yY (bXB e t vN (pv 2)))))),?_⟩;obtain⟨I,L⟩:=o.book;refine⟨_,rfl,u,I,_,rfl,L,rfl,_,rfl,u,C,D,B,J,R,S,m,rfl,o,λk r b W x X y=>?_,U⟩;obtain⟨b',N,g1,q,Z,⟨p,G⟩,g5⟩:=o.get x;obtain rfl:b=b':=bYD (y.symm.trans q);obtain⟨q3,Y⟩:=q2 k r W x X;dsimp only[yW];refine⟨_,rfl,u,I,_,rfl,L,rfl,_,rfl,u,C,D,B,J,R,S,k,b,rfl,o,q,hR,λl hl=>?_⟩;refine⟨l,_,rfl,.inl (SqL.of yB),_,_,rfl,rfl,_,rfl,?_⟩;have j:=yG hl (.lst ((Bk.zO R k).map λk=>(B.map V.ref).getD k .non));rw[bYo];refine qD (λc=>?_) (λc=>?_)
 ·refine((q3 λz=>?_).go (aW9.of j)).raise a;have:=of_decide_eq_true c;rw[z]at this;simp at this
 ·have v:Bk.zO R k= []:=by
   have:=of_decide_eq_false (Bool.eq_false_iff.mpr c);exact cZd (by omega)
  refine⟨_,rfl,b,p,_,rfl,j _ _ G,rfl,b,p,k,r,N,rfl,j _ _ G,?_⟩;exact Y v _ _ _ ((o.same j).set q Z x (λr=>{r with link:=none,void:=true}) rfl) ((w8.of j).trans (w8.upd (aJv (bYA q)) _)) qC.refl
theorem bVs:yM ["self","day"] ["self","day"] (yH bVf):=scM
theorem bJR(cl:Cl K CB CL)(c:FnG P w K mg base (n+1) "counts" ["shut","date"] (Days.aVC K))(a:ExG P w K mg base n "CountsNot" Rf.1 C1 "counts not") (F:Fun K "shut_day" "Book.shut_day" bVf f fd):y8 P w K mg base (CXR P w) (n+2) f fd ["self","day"] (bZZ K Rf CB CL):=by
 have p:=bVs;refine F.okX (k:=n+1) p (λq A outer s H y Q E j h=>?_);obtain⟨m,v,g,z,x,R,S,d,rfl,e,B,r,u⟩:=h;refine⟨_,(yC (y6 (uC (x6 (xK c j rfl (yA (yZ (pv 0) rfl) (yA (pv 1) yD))))) (yF (zQ a j rfl)) yR) (yF (yY (uG bYS bYY bYZ xG (yZ (pv 0) rfl) (yA (pv 1) yD))))),?_⟩;obtain⟨l,o⟩:=e.book;refine⟨_,rfl,m,CB,l,_,_,rfl,o,cl.b,cl.shut,rfl,_,rfl,g,S,d,rfl,SqL.of e.sht,_,rfl,?_⟩;cases i:Dm.cts S d with
 |false=>exact onT rfl ((r i).raise a)
 |true=>
  refine onF rfl ⟨_,rfl,m,CB,l,_,_,rfl,o,cl.b,cl.shut,rfl,.inl ⟨rfl,_,SqL.of e.sht⟩,_,rfl,g,_,_,rfl,rfl,e.sht,zlt (by rw[bYo];omega),?_⟩;have t:S.map V.int++ [V.int d]=(S++ [d]).map V.int:=by simp
  rw[t];exact u i _ _ _ (e.shutD d) (w8.upd aYh _) qC.refl
theorem aYX:yM ["self","number","day","letter","reply"] ["self","number","day"] (yH aJI):=scM
theorem aYc(cl:Cl K CB CL)(g:MG P w K mg base (CXR P w) n CB "letter_at" ["self","number"] (aY7 K Rf CB CL))(p:MG P w K mg base CX0 n CB "answers_to" ["self","letter"] (aJV CB CL))(a:FnX P w K mg base n "check_days" ["asked_day","reply_day"] (aXN K Rf)) (F:Fun K "put_day" "Book.put_day" aJI f fd):y8 P w K mg base (CXR P w) (n+1) f fd ["self","number","day"] (aVH K Rf CB CL):=by
 have sc:=aYX;refine F.okX (k:=n) sc (λa7 A outer s H vs Q E W h=>?_);obtain⟨y,la,sa,D,cs,R,S,m,d,rfl,B,hR,a3,q1,q2⟩:=h;refine⟨_,(yC (yT (i:=3) (vO g W zN (pv 0) (yA (pv 1) yD))) (yC (y6 (yN wG (yZ (pv 3) rfl) zB) (yF (yY (aQm a W rfl (yA (yZ (vO g W zN (pv 0) (yA (yZ (pv 3) rfl) yD)) rfl) (yA (pv 2) yD))))) yR) (yC (wE PassesOwn.leaving rfl (xI (vO p W vN (pv 0) (yA (pv 3) yD))) (y9 (i:=4)) (yF (yY (aQm a W rfl (yA (pv 2) (yA (yZ (pv 4) rfl) yD)))))) (yF (zH (pv 3) (pv 2) rfl))))),?_⟩;obtain⟨dx,hb⟩:=B.book;refine⟨_,rfl,y,dx,_,rfl,hb,rfl,_,rfl,y,la,sa,D,cs,R,S,m,rfl,B,λk r b em hk hv a4=>?_,q1⟩;obtain⟨b',cc,g1,g2,g3,⟨C,g4⟩,g5⟩:=B.get hk;obtain rfl:b=b':=bYD (a4.symm.trans g2);obtain⟨q3,q4⟩:=q2 k r em hk hv;dsimp only[yW];refine x8 (λM H'=>M= [some (.ref y),some (.int m),some (.int d),some (.ref b),none]/\H'=H/\∀j,r.link=some j->Bk.dt R j<=d) ?_ λjn=>?_
 ·rintro M H' ⟨rfl,rfl,hj⟩;refine⟨_,rfl,y,dx,_,rfl,hb,rfl,_,rfl,y,la,sa,D,cs,R,S,k,b,rfl,B,g2,hR,λl hl=>?_⟩;have O:=yG hl (.lst ((Bk.zO R k).map λk=>(D.map V.ref).getD k .non));refine⟨l,rfl,⟨_,SqL.of yB⟩,?_⟩;refine zK (xs:=(Bk.zO R k).map λk=>(D.map V.ref).getD k .non) (λt σ Z=>∃o:Option V,σ= [some (.ref y),some (.int m),some (.int d),some (.ref b),o]/\Z=upd H' l (.lst ((Bk.zO R k).map λk=>(D.map V.ref).getD k .non))/\∀i c,i<t->(Bk.zO R k)[i]? =some c->d<=Bk.dt R c) ?_ ?_ ?_ ?_
  ·exact⟨none,rfl,rfl,λi c z=>absurd z (cQ1 _)⟩
  ·rintro t σ Z ht ⟨o,rfl,rfl,hd⟩;exact SqL.of yB
  ·rintro t x σ Z Y ⟨o,rfl,rfl,hd⟩;rw[bYC]at Y;cases J:(Bk.zO R k)[t]? with
   |none=>rw[J]at Y;cases Y
   |some c=>
    rw[J]at Y;have L:=bYA J;have a5:c<R.length:=bYO.mp (cQl.mp L).1;have I:=bYh a5;obtain⟨bc,c2,f1,f2,f3,⟨a1,f4⟩,f5⟩:=(B.same O).get I;have ex:(D.map V.ref).getD c .non= .ref bc:=by simp only[bY4,f1];rfl
    obtain rfl:x= .ref bc:=by have z:=bYD Y;rw[<- z];exact ex
    dsimp only[yW];refine⟨_,rfl,_,rfl,bc,CL,a1,_,_,rfl,f4,cl.l,cl.day,rfl,d,R[c].date,rfl,λq=>?_,λq=>?_⟩
    ·refine⟨_,rfl,rfl,λi c' hi G=>?_⟩;by_cases e:i=t
     ·subst e;rw[J]at G;cases G;rw[Bk.wZ I];exact q
     ·exact hd i c' (by omega) G
    ·exact(q3 (.inr ⟨c,L,by rw[Bk.wZ I];exact q⟩)).go (aW9.of O)
  ·rintro σ Z ⟨o,rfl,rfl,hd⟩;have T:∀c∈Bk.zO R k,d<=Bk.dt R c:=λc J=>by
    obtain⟨i,hi,e⟩:=bY7 J;exact hd i c (by rw[bYo];exact hi) (by rw[bYh hi,e])
   refine⟨_,rfl,_,rfl,b,CL,C,_,rfl,O _ _ g4,cl.l,cl.day,(show 9<1000 by decide),?_⟩;exact q4 hj T _ _ _ ((B.same O).set g2 g3 hk (λr=>{r with date:=d}) rfl) ((w8.of O).trans (w8.upd (aJv (bYA g2)) _)) qC.refl
 ·refine⟨_,rfl,b,CL,C,_,_,rfl,g4,cl.l,cl.link,rfl,rfl,_,rfl,?_⟩;cases v:r.link with
  |none=>exact onF rfl (jn _ _ ⟨rfl,rfl,λj hj=>by rw[v]at hj;cases hj⟩)
  |some j=>
   obtain⟨qj,u,a0⟩:=a3.ans k j r hk v;obtain⟨bj,cj,f1,f2,f3,⟨a2,f4⟩,f5⟩:=B.get u;refine onT rfl ⟨_,rfl,y,dx,_,rfl,hb,rfl,_,rfl,b,CL,C,_,_,rfl,g4,cl.l,cl.link,rfl,?_⟩;rw[v];refine⟨y,la,sa,D,cs,R,S,(j:Nat),rfl,B,λk2 r2 b2 e2 X a6 N=>?_,λhg=>?_⟩
   ·obtain rfl:j=k2:=by omega
    rw[u]at X;cases X;rw[f2]at N;cases N;refine⟨bj,CL,a2,_,_,rfl,f4,cl.l,cl.day,rfl,_,rfl,qj.date,d,rfl,λq=>?_,λq=>?_⟩
    ·refine jn _ _ ⟨rfl,rfl,λj' U=>?_⟩;rw[v]at U;cases U;rw[Bk.wZ u];exact q
    ·exact q3 (.inl ⟨j,v,by rw[Bk.wZ u];exact q⟩)
   ·rw[qJ u a0.2.1]at hg;cases hg
end
end Desk
namespace Desk
open PySem L2 PyProof.Rows
open Bk (Row Rows)
open Thr (z9 vM qI)
theorem bQt{R:Rows}(b:Bk.qR R){rk:Nat->Nat}(o:Fm.Ok R.length (Bk.lk R) rk){i:Nat}(f:i<R.length):∀r q,R[i]? =some r->R[Fm.tp (Bk.lk R) rk i]? =some q->r.void=q.void:=
 Fm.aXb o (P:=λi=>∀r q,R[i]? =some r->R[Fm.tp (Bk.lk R) rk i]? =some q->r.void=q.void)
  (λi _ h r q c d=>by rw[Fm.zT h,c]at d;cases d;rfl)
  (λi j f h g r q c d=>by
   rw[Bk.vZ c]at h;obtain⟨k,e,a⟩:=b.ans i j r c h;rw[Fm.uA o f (by rw[Bk.vZ c];exact h)]at d;rw[a.1,<- g k q e d,a.2.1]) (rk i) i (bYp _) f
theorem bZk{R:Rows}(b:Bk.qR R){k j:Nat}{r:Row}(e:R[k]? =some r)(h:r.void=false)(i:j∈Bk.thr R k):∃q,R[j]? =some q/\q.void=false:=by
 obtain⟨l,o,_,g⟩:=Bk.Z5 b.tree k;obtain⟨a,d⟩:=(g j).mp i;have c:=Bk.wC e;have f:=(Fm.bQq o c).1;refine⟨_,bYh a,?_⟩;rw[bQt b o a _ _ (bYh a) (by rw[d];exact bYh f),<- bQt b o c _ _ e (bYh f)];exact h
theorem bVI{R:Rows}(t:Bk.uW R){i j:Nat}{r:Row}(f:R[i]? =some r)(hl:r.link=none)(a:j<R.length):j∈Bk.thr R i↔(Bk.thr R j).head? =some i:=by
 obtain⟨h,o,e⟩:=Bk.jG t a;obtain⟨b,g,_,d⟩:=Bk.Z5 t i;rw[d j,e];have c:Fm.tp (Bk.lk R) b i=i:=Fm.zT (by rw[Bk.vZ f];exact hl);rw[c,Fm.qA g o a];exact⟨λz=>by rw[z.2],λz=>⟨a,bYD z⟩⟩
inductive jF(K:bYk)(Rf:Nat×Nat)(CB CL:Nat)(vs:List V)(H:Hp)(Q:VK)(E:XK):Prop|mk (ba la sa:Nat) (ls cs:List Nat) (R:Rows) (S:List Int) (m:Int) (_:vs= [.ref ba,.int m]) (_:PB CB CL H ba la sa ls cs R S) (_:R.length<64) (_:Bk.uW R) (_:z9 Rf.2 H) (_:(Bk.wI R m=false->xC K Rf H E "no letter")) (_:∀ (k:Nat)(r:Row),m=(k:Int)->R[k]? =some r->r.void=false->∀ (H':Hp)(l:Nat),(∀b u,(∀ps,u≠HO.tbl ps)->H b=some u->b≠l)->x5 H H'->z9 Rf.2 H'->H' l=some (.lst ((Bk.thr R k).map λi=>V.int (i:Nat)))->Q (.ref l) H')
def bVO(T g CL e la sa:Nat)(ls cs:List Nat)(H:Hp)(f:Rows)(d:List Int)(q:Hp->Prop):Prop:=∀ (c:Hp)(b a:List Nat),PB g CL c e la sa b a f d->qT (own la sa ls cs) H c->qC H (own la sa ls cs) (own la sa b a)->z9 T c->q c
inductive bVA(K:bYk)(Rf:Nat×Nat)(CB CL:Nat)(vs:List V)(H:Hp)(Q:VK)(E:XK):Prop|mk (ba la sa:Nat) (ls cs:List Nat) (R:Rows) (S:List Int) (m:Int) (name:Str) (_:vs= [.ref ba,.int m,.str name]) (_:PB CB CL H ba la sa ls cs R S) (_:R.length<64) (_:Bk.qR R) (_:z9 Rf.2 H) (_:(Bk.wI R m=false->xC K Rf H E "no letter")) (_:∀ (k:Nat)(r:Row),m=(k:Int)->R[k]? =some r->r.void=false->∀ (H':Hp),PB CB CL H' ba la sa ls cs (Bk.laid R (Bk.thr R k) name) S->qT (own la sa ls cs) H H'->z9 Rf.2 H'->Q (.int ((Bk.thr R k).length:Nat)) H')
section
variable {K:bYk}
abbrev qP:Stmt:=xB "Book" "thread_of"
abbrev bKB:Stmt:=xB "Book" "lay_thread"
theorem aJT:yM ["self","number","links","dates"] ["self","number"] (yH qP):=scM
theorem aQb:xH ["self","number","links","dates"] (yH qP) "letter" [] [] (lsN [(".0",.local),("letter",.local)]):=
 lcM
theorem aJt(cl:Cl K CB CL)(a:MG P w K mg base (CXR P w) n CB "letter_at" ["self","number"] (aY7 K Rf CB CL))(d:FnG P w K mg base n "thread" ["links","dates","number"] (Thr.aVJ Rf.2)) (F:Fun K "thread_of" "Book.thread_of" qP f fd):y8 P w K mg base (CXR P w) (n+1) f fd ["self","number"] (jF K Rf CB CL):=by
 have X:=aJT;refine F.okX (k:=n) X (λa2 A outer s H vs Q E hr h=>?_);obtain⟨N,la,sa,ls,cs,R,S,m,rfl,z,hR,hT,tb,q1,q2⟩:=h;refine⟨_,(yC (yY (vO a hr zN (pv 0) (yA (pv 1) yD))) (yC (aZy (i:=2) aQb rfl X.nd rfl rfl (xI (yZ (pv 0) rfl)) (λ_ _ _ _ _=>z7) (λ_ _ _ _ _=>(aQl (K:=K) (pv 0) rfl))) (yC (aZy (i:=3) aQb rfl X.nd rfl rfl (xI (yZ (pv 0) rfl)) (λ_ _ _ _ _=>z7) (λ_ _ _ _ _=>(aQl (K:=K) (pv 0) rfl))) (yF (yP (xK d hr rfl (yA (pv 2) (yA (pv 3) (yA (pv 1) yD))))))))),?_⟩;obtain⟨U,hb⟩:=z.book;have hl:(ls.map V.ref).length=R.length:=by rw[bYo];exact z.len
 refine⟨_,rfl,N,U,_,rfl,hb,rfl,_,rfl,N,la,sa,ls,cs,R,S,m,rfl,z,λk r b em hk p a3=>?_,q1⟩;subst em;have M:=Bk.wC hk;have x:(bYv R.length).filter (λ_=>true)=bYv R.length:=cX1.mpr λ_ _=>rfl;refine⟨_,rfl,N,CB,U,_,_,rfl,hb,cl.b,cl.letters,rfl,la,rfl,⟨_,SqL.of z.lst⟩,λD Y=>?_⟩;refine aWh (λ_=>true) (λi=>Thr.wM (Bk.lk R i)) (SqL.of z.lst) Y (zn (by omega)) (λj v p T R' L c=>c) (λj v p _ T R' L c=>?_) ?_
 ·have Z:j<R.length:=by rw[<- hl];exact(bYu.mp p).1
  have g:=bYh Z;obtain⟨J,c2,q,G,W,⟨C,I⟩,k5⟩:=z.get g;obtain rfl:v= .ref J:=bYD (p.symm.trans q);rw[Bk.vZ g]at c;exact⟨_,rfl,J,CL,C,_,_,rfl,(L _ (yJ I Y)).trans I,cl.l,cl.link,rfl,c⟩
 rw[hl,x];dsimp only[yW];have q:=yG Y (.lst ((bYv R.length).map λi=>Thr.wM (Bk.lk R i)));have y:=z.same q;refine⟨_,rfl,N,CB,U,_,_,rfl,q _ _ hb,cl.b,cl.letters,rfl,la,rfl,⟨_,SqL.of y.lst⟩,λD2 B=>?_⟩;refine aWh (λ_=>true) (λi=>V.int (Bk.dt R i)) (SqL.of y.lst) B (zn (by omega)) (λj v p T R' L c=>c) (λj v p _ T R' L c=>?_) ?_
 ·have Z:j<R.length:=by rw[<- hl];exact(bYu.mp p).1
  have g:=bYh Z;obtain⟨J,c2,q,G,W,⟨C,I⟩,k5⟩:=y.get g;obtain rfl:v= .ref J:=bYD (p.symm.trans q);rw[Bk.wZ g]at c;exact⟨_,rfl,J,CL,C,_,_,rfl,(L _ (yJ I B)).trans I,cl.l,cl.day,rfl,c⟩
 rw[hl,x];dsimp only[yW];have G:=yG B (.lst ((bYv R.length).map λi=>V.int (Bk.dt R i)));obtain⟨rk,o⟩:=hT;have a0:z9 Rf.2 (upd (upd H D (.lst ((bYv R.length).map λi=>Thr.wM (Bk.lk R i)))) D2 (.lst ((bYv R.length).map λi=>V.int (Bk.dt R i)))):=by
  have O:=q.trans G;rcases tb with t|⟨c',t1,t2⟩
  ·exact .inl (O _ _ t)
  ·exact .inr ⟨c',O _ _ t1,O _ _ t2⟩
 refine⟨_,rfl,_,rfl,_,rfl,D,D2,R.length,Bk.lk R,rk,Bk.dt R,k,rfl,G _ _ yB,yB,o,by omega,M,a0,λH3 r3 a1 n3 W t3 h3 hp hm=>?_⟩;have e:=Bk.aZP M ⟨rk,o,hp,hm⟩;refine q2 k r rfl hk p H3 r3 (λb u nt e=>n3 b u nt ((q.trans G) _ _ e)) ((q.trans G).t.trans W) t3 ?_;rw[e];exact h3
end
end Desk
namespace Desk
open PySem L2 PyProof.Rows
open Bk (Row Rows)
open Thr (z9 vM qI)
theorem xR{T:Nat}{o:List Nat}{H g:Hp}(t:z9 T H)(k:w8 o H g)(j:∀b∈o,∀u,H b=some u->(∃c,u= .lst c)\/∃C a fs,u= .ins C a fs):z9 T g:=by
 have no:∀b u,H b=some u->(∀c,u≠ .lst c)->(∀C a fs,u≠ .ins C a fs)->b∉o:=λb u e i h z=>by
  rcases j b z u e with⟨c,q⟩|⟨C,a,fs,q⟩
  ·exact i _ q
  ·exact h _ _ _ q
 rcases t with t|⟨l,d,f⟩
 ·exact .inl (k _ _ (no _ _ t (by intro _ z;cases z) (by intro _ _ _ z;cases z)) t)
 ·exact .inr ⟨l,k _ _ (no _ _ d (by intro _ z;cases z) (by intro _ _ _ z;cases z)) d,k _ _ (no _ _ f (by intro _ z;cases z) (by intro _ _ _ z;cases z)) f⟩
theorem PB.kinds{r CL:Nat}{H:Hp}{m la sa:Nat}{ls cs:List Nat}{R:Rows}{S:List Int}(h:PB r CL H m la sa ls cs R S):∀b∈own la sa ls cs,∀u,H b=some u->(∃p,u= .lst p)\/∃C j fs,u= .ins C j fs:=λb a u e=>by
 rcases bYr.mp a with rfl|a
 ·rw[h.lst]at e;cases e;exact .inl ⟨_,rfl⟩
 rcases bYr.mp a with rfl|a
 ·rw[h.sht]at e;cases e;exact .inl ⟨_,rfl⟩
 rcases bYX.mp a with a|a
 ·obtain⟨i,c,q⟩:=bY7 a;obtain⟨o,l,n,d,f,⟨j,g⟩,k⟩:=h.get (bYh (show i<R.length by rw[<- h.len];exact c));rw[bYh c,q]at d;cases d;rw[g]at e;cases e;exact .inr ⟨_,_,_,rfl⟩
 ·obtain⟨i,c,q⟩:=bY7 a;obtain⟨o,l,n,d,f,g,k⟩:=h.get (bYh (show i<R.length by rw[<- h.clen];exact c));rw[bYh c,q]at f;cases f;rw[k]at e;cases e;exact .inl ⟨_,rfl⟩
theorem PB.notown{s CL:Nat}{H:Hp}{o la sa:Nat}{ls cs:List Nat}{R:Rows}{S:List Int}(h:PB s CL H o la sa ls cs R S){l:Nat}(n:∀b u,(∀k,u≠HO.tbl k)->H b=some u->b≠l):l∉own la sa ls cs:=λa=>by
 rcases bYr.mp a with e|a
 ·exact n la _ (by intro _ z;cases z) h.lst e.symm
 rcases bYr.mp a with e|a
 ·exact n sa _ (by intro _ z;cases z) h.sht e.symm
 rcases bYX.mp a with a|a
 ·obtain⟨i,c,q⟩:=bY7 a;obtain⟨r,m,p,d,f,⟨t,g⟩,j⟩:=h.get (bYh (show i<R.length by rw[<- h.len];exact c));rw[bYh c,q]at d;cases d;exact n l _ (by intro _ z;cases z) g rfl
 ·obtain⟨i,c,q⟩:=bY7 a;obtain⟨r,m,p,d,f,g,j⟩:=h.get (bYh (show i<R.length by rw[<- h.clen];exact c));rw[bYh c,q]at f;cases f;exact n l _ (by intro _ z;cases z) j rfl
theorem PB.notnone{c CL:Nat}{H:Hp}{a la sa:Nat}{ls cs:List Nat}{R:Rows}{S:List Int}(h:PB c CL H a la sa ls cs R S){l:Nat}(n:H l=none):l∉own la sa ls cs:=h.notown λb u _ e=>yJ e n
theorem bXF{j:Nat}{q:Row}{c:Nat}{name:Str}(b:q.void=false):aQX "file" (.str name) (aZl j q c)=aZl j {q with place:=name} c:=by
 have a:qZ {q with place:=name}= .str name:=aXl (r:={q with place:=name}) b;unfold aZl;rw[a];rfl
theorem aQa(R:Rows)(l:List Nat)(k:Nat)(name:Str):Bk.laid R (l++ [k]) name=Bk.xJ (Bk.laid R l name) k λr=>{r with place:=name}:=by
 unfold Bk.laid;rw[cJt];rfl
theorem aZi{R:Rows}{l:List Nat}{name:Str}{j:Nat}{q:Row}(h:R[j]? =some q):∃a,(Bk.laid R l name)[j]? =some a/\a.void=q.void:=by
 rw[Bk.vY,h];by_cases e:j∈l
 ·rw[if_pos e];exact⟨_,rfl,rfl⟩
 ·rw[if_neg e];exact⟨q,rfl,rfl⟩
inductive aY8(K:bYk)(Rf:Nat×Nat)(CB CL:Nat)(vs:List V)(H:Hp)(Q:VK)(E:XK):Prop|mk (ba la sa:Nat) (ls cs:List Nat) (R:Rows) (S:List Int) (i j:Nat) (b b2:Nat) (r q:Row) (_:vs= [.ref ba,.ref b,.ref b2]) (_:PB CB CL H ba la sa ls cs R S) (_:R.length<64) (_:Bk.uW R) (_:z9 Rf.2 H) (_:R[i]? =some r) (_:r.void=false) (_:R[j]? =some q) (_:q.void=false) (_:ls[i]? =some b) (_:ls[j]? =some b2) (_:(r.link≠none->xC K Rf H E "has one")) (_:(r.link=none->(Bk.thr R j).head? =some i->xC K Rf H E "own thread")) (_:(r.link=none->(Bk.thr R j).head? ≠some i->(r.way=q.way->xC K Rf H E "same way")/\(r.way≠q.way->(r.partner≠q.partner->xC K Rf H E "other partner")/\(r.partner=q.partner->(r.date<q.date->xC K Rf H E "too early")/\(q.date<=r.date->∀H',x5 H H'->z9 Rf.2 H'->Q .non H')))))
section
variable {K:bYk}
theorem bWH:yM ["self","number","name","numbers","member","letter"] ["self","number","name"] (yH bKB):=scM
theorem bWp(T:vI mg)(cl:Cl K CB CL)(a:MG P w K mg base (CXR P w) n CB "thread_of" ["self","number"] (jF K Rf CB CL))(F:Fun K "lay_thread" "Book.lay_thread" bKB f fd):y8 P w K mg base (CXR P w) (n+1) f fd ["self","number","name"] (bVA K Rf CB CL):=by
 have sc:=bWH;refine F.okX (k:=n) sc (λa1 A outer s H vs Q E hr h=>?_);obtain⟨v,M,W,ls,cs,R,S,m,g,rfl,N,hR,C,tb,q1,q2⟩:=h;refine⟨_,(yC (yT (i:=3) (vO a hr zN (pv 0) (yA (pv 1) yD))) (yC (wE PassesOwn.leaving rfl (xI (pv 3)) (y9 (i:=4)) (yC (yT (i:=5) (yL yK (yZ (pv 0) rfl) (pv 4))) (yF (zH (pv 5) (pv 2) rfl)))) (yF (yP (yU yQ rfl T.b_len xD (yA (pv 3) yD)))))),?_⟩;obtain⟨dx,hb⟩:=N.book;refine⟨_,rfl,v,dx,_,rfl,hb,rfl,_,rfl,v,M,W,ls,cs,R,S,m,rfl,N,hR,C.tree,tb,q1,λk r em Z hv H1 l _ k1 t1 hl=>?_⟩;dsimp only[yW];have q:=N.sameT k1;have a2:=Bk.wC Z;refine⟨_,rfl,l,rfl,⟨_,SqL.of hl⟩,?_⟩;refine zK (xs:=(Bk.thr R k).map λi=>V.int (i:Nat)) (λt σ p=>∃J L:Option V,σ= [some (.ref v),some (.int m),some (.str g),some (.ref l),J,L]/\PB CB CL p v M W ls cs (Bk.laid R ((Bk.thr R k).take t) g) S/\w8 (own M W ls cs) H1 p/\p l=some (.lst ((Bk.thr R k).map λi=>V.int (i:Nat)))) ?_ ?_ ?_ ?_
 ·exact⟨none,none,rfl,q,λb u _ e=>e,hl⟩
 ·rintro t σ p ht ⟨J,L,rfl,d,y,o⟩;exact SqL.of o
 ·rintro t x σ p G ⟨J,L,rfl,d,y,o⟩;rw[bYC]at G;cases I:(Bk.thr R k)[t]? with
  |none=>rw[I]at G;cases G
  |some j=>
   rw[I]at G;cases G;obtain⟨qj,Y,X⟩:=bZk C Z hv (bYA I);obtain⟨q',D,B⟩:=aZi (l:=(Bk.thr R k).take t) (name:=g) Y;rw[X]at B;obtain⟨b,c,g1,g2,g3,⟨O,g4⟩,g5⟩:=d.get D;obtain⟨a0,U⟩:=d.book;dsimp only[yW];refine⟨_,rfl,v,CB,a0,_,_,rfl,U,cl.b,cl.letters,rfl,_,rfl,M,_,_,_,rfl,rfl,SqL.of d.lst,yS g1,?_⟩;dsimp only[yW];refine⟨_,rfl,_,rfl,b,CL,O,_,rfl,g4,cl.l,cl.file,(show 9<1000 by decide),_,_,rfl,?_,y.trans (w8.upd (aJv (bYA g2)) _),?_⟩
   ·rw[bXF B,show(Bk.thr R k).take (t+1)=(Bk.thr R k).take t++ [j]from by rw[cQw,I];rfl,aQa];exact d.set g2 g3 D (λr=>{r with place:=g}) rfl
   ·rw[yI (λz=>by rw[z,g4]at o;cases o)];exact o
 ·rintro σ p ⟨J,L,rfl,d,y,o⟩;rw[bYo,cQn]at d;refine⟨_,rfl,l,_,rfl,.inl (SqL.of o),?_⟩;rw[bYo];exact q2 k r em Z hv p d ((qT.of k1).trans y.t) (xR t1 y q.kinds)
abbrev aYw:Stmt:=xB "Book" "check_hanging"
abbrev bJ8:Stmt:=xB "Book" "hang"
theorem bXQ:yM ["self","letter","asked"] ["self","letter","asked"] (yH aYw):=scM
theorem aJ7(d:Nat):∀ns:List Nat,inV (.int (d:Nat)) (ns.map λi=>V.int (i:Nat))=ns.contains d
 |[]=>rfl
 |n::r=>by have a:=aJ7 d r;unfold inV at a ⊢;rw[bY2,cXx,a,cXA];congr 1;show((n:Int)==(d:Int))=(d==n);rw[Bool.eq_iff_iff,beq_iff_eq,beq_iff_eq];omega
theorem aX5:∀ns:List Nat,(ns.map λi=>V.int (i:Nat)).all Z8=true
 |[]=>rfl
 |n::r=>by rw[bY2,cZu,aX5 r];rfl
theorem bXg(cl:Cl K CB CL)(o:MG P w K mg base (CXR P w) (n+1) CB "thread_of" ["self","number"] (jF K Rf CB CL))(g:FnX P w K mg base (n+1) "check_days" ["asked_day","reply_day"] (aXN K Rf)) (m:ExG P w K mg base n "HasOne" Rf.1 C1 "has one") (d:ExG P w K mg base n "OwnThread" Rf.1 C2 "own thread") (e:ExG P w K mg base n "SameWay" Rf.1 C3 "same way") (a:ExG P w K mg base n "OtherPartner" Rf.1 C4 "other partner") (F:Fun K "check_hanging" "Book.check_hanging" aYw f fd):y8 P w K mg base (CXR P w) (n+2) f fd ["self","letter","asked"] (aY8 K Rf CB CL):=by
 have sc:=bXQ;refine F.okX (k:=n+1) sc (λa1 A outer s H vs Q E C h=>?_);obtain⟨ba,la,sa,ls,cs,R,S,i,j,b,D,r,q,rfl,I,hR,hT,tb,Y,hv,hj,hw,M,N,q1,q2,q3⟩:=h;refine⟨_,(yC (y6 (yN wG (yZ (pv 1) rfl) zB) (yF (zQ m C rfl)) yR) (yC (y6 (yN wT (yZ (pv 2) rfl) (vO o C zN (pv 0) (yA (yZ (pv 1) rfl) yD))) (yF (zQ d C rfl)) yR) (yC (y6 (yN x9 (yZ (pv 1) rfl) (yZ (pv 2) rfl)) (yF (zQ e C rfl)) yR) (yC (y6 (yN aZt (yZ (pv 1) rfl) (yZ (pv 2) rfl)) (yF (zQ a C rfl)) yR) (yF (yY (aQm g C rfl (yA (yZ (pv 2) rfl) (yA (yZ (pv 1) rfl) yD))))))))),?_⟩;obtain⟨dx,hb⟩:=I.book;obtain⟨b',c1,g1,g2,g3,⟨p,U⟩,g5⟩:=I.get Y;obtain rfl:b=b':=bYD (M.symm.trans g2);obtain⟨X,c2,f1,f2,f3,⟨t,Z⟩,f5⟩:=I.get hj;obtain rfl:D=X:=bYD (N.symm.trans f2);refine⟨_,rfl,b,CL,p,_,_,rfl,U,cl.l,cl.link,rfl,rfl,_,rfl,?_⟩;cases u:r.link with
 |some x=>exact onT rfl ((q1 (by rw[u];simp)).raise m)
 |none=>
  have L:=q2 u;have J:=q3 u;refine onF rfl ⟨_,rfl,D,CL,t,_,_,rfl,Z,cl.l,cl.number,rfl,_,rfl,ba,dx,_,rfl,hb,rfl,_,rfl,b,CL,p,_,_,rfl,U,cl.l,cl.number,rfl,?_⟩;refine⟨ba,la,sa,ls,cs,R,S,(i:Nat),rfl,I,hR,hT,tb,(λhg=>by rw[qJ Y hv]at hg;cases hg),λk r' em hk a0 H1 l _ v G hl=>?_⟩;obtain rfl:i=k:=by omega
  refine⟨l,_,rfl,.inl (SqL.of hl),rfl,aX5 _,_,rfl,?_⟩;rw[if_neg (show ¬ (false=true) by decide),aJ7];have O:=Bk.wC hj;have own:=bVI hT Y u O;have y:=v _ _ (λ_ z=>by cases z) U;have B:=v _ _ (λ_ z=>by cases z) Z;refine qD (λc=>?_) (λc=>?_)
  ·exact((L (own.mp (cQR.mp c))).go ⟨v,λ_=>G⟩).raise d
  ·have W:(Bk.thr R j).head? ≠some i:=λz=>c (cQR.mpr (own.mpr z));obtain⟨q4,q5⟩:=J W;refine⟨_,rfl,b,CL,p,_,_,rfl,y,cl.l,cl.way,rfl,_,rfl,D,CL,t,_,_,rfl,B,cl.l,cl.way,rfl,rfl,_,rfl,?_⟩;have e1:decide (V.str r.way=V.str q.way)=decide (r.way=q.way):=by rw[Bool.eq_iff_iff];simp
   rw[e1];refine qD (λc=>?_) (λc=>?_)
   ·exact((q4 (of_decide_eq_true c)).go ⟨v,λ_=>G⟩).raise e
   ·obtain⟨q6,q7⟩:=q5 (of_decide_eq_false (Bool.eq_false_iff.mpr c));refine⟨_,rfl,b,CL,p,_,_,rfl,y,cl.l,cl.partner,rfl,_,rfl,D,CL,t,_,_,rfl,B,cl.l,cl.partner,rfl,rfl,_,rfl,?_⟩;have e2:decide (V.str r.partner=V.str q.partner)=decide (r.partner=q.partner):=by rw[Bool.eq_iff_iff];simp
    rw[e2];cases hp:decide (r.partner=q.partner)with
    |false=>exact onT rfl (((q6 (of_decide_eq_false hp)).go ⟨v,λ_=>G⟩).raise a)
    |true=>obtain⟨q8,q9⟩:=q7 (of_decide_eq_true hp);refine onF rfl ⟨_,rfl,D,CL,t,_,_,rfl,B,cl.l,cl.day,rfl,_,rfl,b,CL,p,_,_,rfl,y,cl.l,cl.day,rfl,q.date,r.date,rfl,λT=>q9 T H1 v G,λT=>(q8 T).go ⟨v,λ_=>G⟩⟩
inductive bZU(K:bYk)(Rf:Nat×Nat)(CB CL:Nat)(vs:List V)(H:Hp)(Q:VK)(E:XK):Prop|mk (ba la sa:Nat) (ls cs:List Nat) (R:Rows) (S:List Int) (m o:Int) (_:vs= [.ref ba,.int m,.int o]) (_:PB CB CL H ba la sa ls cs R S) (_:R.length<64) (_:Bk.qR R) (_:z9 Rf.2 H) (_:(Bk.wI R m=false\/Bk.wI R o=false->xC K Rf H E "no letter")) (_:∀ (i j:Nat)(r q:Row),m=(i:Int)->o=(j:Int)->R[i]? =some r->r.void=false->R[j]? =some q->q.void=false->(r.link≠none->xC K Rf H E "has one")/\(r.link=none->(Bk.thr R j).head? =some i->xC K Rf H E "own thread")/\(r.link=none->(Bk.thr R j).head? ≠some i->(r.way=q.way->xC K Rf H E "same way")/\(r.way≠q.way->(r.partner≠q.partner->xC K Rf H E "other partner")/\(r.partner=q.partner->(r.date<q.date->xC K Rf H E "too early")/\(q.date<=r.date->bVO Rf.2 CB CL ba la sa ls cs H (Bk.xJ (Bk.laid R (Bk.thr R i) q.place) i λr=>{r with link:=some j}) S (Q .non))))))
theorem bVl:yM ["self","number","other","letter","asked"] ["self","number","other"] (yH bJ8):=scM
theorem bJJ(cl:Cl K CB CL)(a:MG P w K mg base (CXR P w) n CB "letter_at" ["self","number"] (aY7 K Rf CB CL))(c:MG P w K mg base (CXR P w) n CB "check_hanging" ["self","letter","asked"] (aY8 K Rf CB CL))(d:MG P w K mg base (CXR P w) n CB "lay_thread" ["self","number","name"] (bVA K Rf CB CL)) (F:Fun K "hang" "Book.hang" bJ8 f fd):y8 P w K mg base (CXR P w) (n+1) f fd ["self","number","other"] (bZU K Rf CB CL):=by
 have sc:=bVl;refine F.okX (k:=n) sc (λa5 A outer s H vs Q E M h=>?_);obtain⟨e,x,u,L,y,R,S,m,o,rfl,z,hR,G,tb,q1,q2⟩:=h;refine⟨_,(yC (yT (i:=3) (vO a M zN (pv 0) (yA (pv 1) yD))) (yC (yT (i:=4) (vO a M zN (pv 0) (yA (pv 2) yD))) (yC (yY (vO c M zN (pv 0) (yA (pv 3) (yA (pv 4) yD)))) (yC (yY (vO d M zN (pv 0) (yA (pv 1) (yA (yZ (pv 4) rfl) yD)))) (yF (zH (pv 3) (pv 2) rfl)))))),?_⟩;obtain⟨N,Y⟩:=z.book;refine⟨_,rfl,e,N,_,rfl,Y,rfl,_,rfl,e,x,u,L,y,R,S,m,rfl,z,λi r b em J O C=>?_,λv=>q1 (.inl v)⟩;dsimp only[yW];refine⟨_,rfl,e,N,_,rfl,Y,rfl,_,rfl,e,x,u,L,y,R,S,o,rfl,z,λj q T eo X hw D=>?_,λv=>q1 (.inr v)⟩;dsimp only[yW];obtain⟨q3,q4,q5⟩:=q2 i j r q em eo J O X hw;refine⟨_,rfl,e,N,_,rfl,Y,rfl,_,rfl,_,rfl,e,x,u,L,y,R,S,i,j,b,T,r,q,rfl,z,hR,G.tree,tb,J,O,X,hw,C,D,q3,q4,λh1 h2=>?_⟩;obtain⟨q6,q7⟩:=q5 h1 h2;refine⟨q6,λh3=>?_⟩;obtain⟨q8,q9⟩:=q7 h3;refine⟨q8,λh4=>?_⟩;obtain⟨W,V⟩:=q9 h4;refine⟨W,λh5 H1 k1 t1=>?_⟩;have g:=z.sameT k1;obtain⟨a0,U⟩:=g.book;obtain⟨a1,c2,f1,f2,f3,⟨Z,f4⟩,f5⟩:=g.get X;obtain rfl:T=a1:=bYD (D.symm.trans f2);refine⟨_,rfl,e,a0,_,rfl,U,rfl,_,rfl,_,rfl,T,CL,Z,_,_,rfl,f4,cl.l,cl.file,rfl,?_⟩;rw[aXl hw];refine⟨e,x,u,L,y,R,S,m,q.place,rfl,g,hR,G,t1,(λv=>by rw[em,qJ J O]at v;cases v),λk r' a3 hk a4 H2 p k2 t2=>?_⟩;obtain rfl:i=k:=by omega
 rw[J]at hk;cases hk;obtain⟨r2,I,a2⟩:=aZi (l:=Bk.thr R i) (name:=q.place) J;obtain⟨b',c1,g1,g2,g3,⟨B,g4⟩,g5⟩:=p.get I;obtain rfl:b=b':=bYD (C.symm.trans g2);subst eo;refine⟨_,rfl,_,rfl,b,CL,B,_,rfl,g4,cl.l,cl.link,(show 9<1000 by decide),?_⟩;have kk:=w8.upd (H:=H2) (aJv (la:=x) (sa:=u) (cs:=y) (bYA g2)) (.ins CL B (aZl i {r2 with link:=some j} c1));exact V h5 _ _ _ (p.set g2 g3 I (λr=>{r with link:=some j}) rfl) (((qT.of k1).trans k2).trans kk.t) qC.refl (xR t2 kk p.kinds)
end
end Desk
namespace Desk
open PySem L2 PyProof.Rows
open Bk (Row Rows xV Ans xY)
open Thr (z9 vM qI)
def xE:xV->List V
 |.enter e d b t=> [.str e,.int d,.str b,.int t]
 |.reply m d t=> [.str "reply",.int m,.int d,.int t]
 |.hang m o=> [.str "hang",.int m,.int o]
 |.loose m=> [.str "loose",.int m]
 |.date m d=> [.str "date",.int m,.int d]
 |.term m t=> [.str "term",.int m,.int t]
 |.copy m b=> [.str "copy",.int m,.str b]
 |.file m a=> [.str "file",.int m,.str a]
 |.void m=> [.str "void",.int m]
 |.shut d=> [.str "shut",.int d]
 |.state m=> [.str "state",.int m]
 |.thread m=> [.str "thread",.int m]
 |.copies m=> [.str "copies",.int m]
 |.letters a=> [.str "letters",.str a]
 |.on c d=> [.str (if c then "overdue" else "waiting"),.int d]
def wY(o:List Nat)(H:Hp):Ans->V->Prop
 |.num n,v=>v= .int n
 |.txt x,v=>v= .str x
 |.nums l,v=>∃p,v= .ref p/\p∉o/\H p=some (.lst (l.map λi=>V.int (i:Nat)))
 |.txts l,v=>∃p,v= .ref p/\p∉o/\H p=some (.lst (l.map V.str))
 |.row r,v=>∃p,v= .ref p/\p∉o/\H p=some (.tup (stV r))
def uI(H:Hp)(v:V):Prop:=∀p,v= .ref p->∀u,(∀a,u≠HO.tbl a)->H p≠some u
theorem uI.none{H:Hp}{l:Nat}(h:H l=none):uI H (.ref l):=λp z u _ e=>by cases z;rw[h]at e;cases e
theorem uI.nl{H:Hp}{l:Nat}(h:∀b u,(∀c,u≠HO.tbl c)->H b=some u->b≠l):uI H (.ref l):=λp z u a e=>by cases z;exact h _ u a e rfl
structure Sz(R:Rows)(S:List Int):Prop where
 r:R.length<64
 s:S.length<64
 c:∀r∈R,r.copies.length<=1000
inductive aZL(K:bYk)(Rf:Nat×Nat)(CB CL:Nat)(p:xV->Prop)(vs:List V)(H:Hp)(Q:VK)(E:XK):Prop|mk (ba da la sa:Nat) (ls cs:List Nat) (R:Rows) (S:List Int) (e:xV) (_:vs= [.ref ba,.ref da]) (_:p e) (_:H da=some (.tup (xE e))) (_:PB CB CL H ba la sa ls cs R S) (_:Sz R S) (_:Bk.qR R) (_:z9 Rf.2 H) (_:(∀ (a:Ans)(R':Rows)(S':List Int)(v:V)(H':Hp)(ls' cs':List Nat),xY R S e a R' S'->PB CB CL H' ba la sa ls' cs' R' S'->qT (own la sa ls cs) H H'->qC H (own la sa ls cs) (own la sa ls' cs')->z9 Rf.2 H'->wY (own la sa ls' cs') H' a v->uI H v->Q v H')) (_:(∀t,xY R S e (.txt t) R S->xC K Rf H E t))
section
variable {K:bYk}
abbrev X0:Stmt:=xF "do_enter"
theorem aJP:yM ["book","deed"] ["book","deed"] (yH X0):=scM
theorem aJp(a:MG P w K mg base (CXR P w) n CB "enter" ["self","way","day","partner","term"] (bQc K Rf CB CL))(F:Fun K "do_enter" "do_enter" X0 f fd):y8 P w K mg base (CXR P w) (n+1) f fd ["book","deed"] (aZL K Rf CB CL λe=>∃ (c:Str)(d:Int)(b:Str)(t:Int),e= .enter c d b t):=by
 have D:=aJP;refine F.okX (k:=n) D (λI A outer s H U Q E J h=>?_);obtain⟨y,i,v,x,C,B,R,S,e,rfl,⟨c,d,b,t,rfl⟩,g,p,T,G,tb,q,N⟩:=h;refine⟨_,(yF (yP (vO a J zN (pv 0) (yA (yL yX (pv 1) yE) (yA (yL yX (pv 1) yE) (yA (yL yX (pv 1) yE) (yA (yL yX (pv 1) yE) yD))))))),?_⟩;obtain⟨L,M⟩:=p.book;have tk:∀ {j},w8 (own v x C B) H j->z9 Rf.2 j:=λk=>xR tb k p.kinds;have g:H i=some (.tup _):=g;refine⟨_,rfl,y,L,_,rfl,M,rfl,_,rfl,i,_,0,_,rfl,rfl,SqT.of g,rfl,_,rfl,i,_,1,_,rfl,rfl,SqT.of g,rfl,_,rfl,i,_,2,_,rfl,rfl,SqT.of g,rfl,_,rfl,i,_,3,_,rfl,rfl,SqT.of g,rfl,?_⟩;refine⟨y,v,x,C,B,R,S,c,d,b,t,rfl,p,by have:=T.r;omega,λl j u m o k O=>?_,λl=>N _ (.enterT l)⟩;exact q (.num R.length) _ _ _ j u m (.enter l) o k.t O (tk k) rfl (λ_ z=>nomatch z)
abbrev X2:Stmt:=xF "do_reply"
theorem aJR:yM ["book","deed"] ["book","deed"] (yH X2):=scM
theorem aJr(a:MG P w K mg base (CXR P w) n CB "reply" ["self","number","day","term"] (bQh K Rf CB CL))(F:Fun K "do_reply" "do_reply" X2 f fd):y8 P w K mg base (CXR P w) (n+1) f fd ["book","deed"] (aZL K Rf CB CL λe=>∃ (m:Int)(d:Int)(t:Int),e= .reply m d t):=by
 have I:=aJR;refine F.okX (k:=n) I (λL A outer s H W Q E M h=>?_);obtain⟨C,c,v,x,G,D,R,S,e,rfl,⟨m,d,t,rfl⟩,b,o,V,J,tb,q,u⟩:=h;refine⟨_,(yF (yP (vO a M zN (pv 0) (yA (yL yX (pv 1) yE) (yA (yL yX (pv 1) yE) (yA (yL yX (pv 1) yE) yD)))))),?_⟩;obtain⟨O,T⟩:=o.book;have tk:∀ {i},w8 (own v x G D) H i->z9 Rf.2 i:=λk=>xR tb k o.kinds;have b:H c=some (.tup _):=b;refine⟨_,rfl,C,O,_,rfl,T,rfl,_,rfl,c,_,1,_,rfl,rfl,SqT.of b,rfl,_,rfl,c,_,2,_,rfl,rfl,SqT.of b,rfl,_,rfl,c,_,3,_,rfl,rfl,SqT.of b,rfl,?_⟩;refine⟨C,v,x,G,D,R,S,m,d,t,rfl,o,by have:=V.r;omega,λh=>u _ (.replyN h),λh g=>u _ (.replyT h g),λk r N y B g=>?_⟩;subst N;exact⟨λb=>u _ (.replyE y B g b),λb i p j l k U=>q (.num R.length) _ _ _ i p j (.reply y B g b) l k.t U (tk k) rfl (λ_ z=>nomatch z)⟩
abbrev aQA:Stmt:=xF "do_hang"
theorem aWP:yM ["book","deed"] ["book","deed"] (yH aQA):=scM
theorem aWv(a:MG P w K mg base (CXR P w) n CB "hang" ["self","number","other"] (bZU K Rf CB CL))(F:Fun K "do_hang" "do_hang" aQA f fd):y8 P w K mg base (CXR P w) (n+1) f fd ["book","deed"] (aZL K Rf CB CL λe=>∃ (m:Int)(o:Int),e= .hang m o):=by
 have V:=aWP;refine F.okX (k:=n) V (λW A outer s H vs Q E X h=>?_);obtain⟨N,y,L,M,T,O,R,S,e,rfl,⟨m,o,rfl⟩,u,I,hz,C,tb,q,c⟩:=h;refine⟨_,(yC (yY (vO a X zN (pv 0) (yA (yL yX (pv 1) yE) (yA (yL yX (pv 1) yE) yD)))) (yF (yP yO))),?_⟩;obtain⟨Z,hb⟩:=I.book;have tk:∀ {x},w8 (own L M T O) H x->z9 Rf.2 x:=λk=>xR tb k I.kinds;have u:H y=some (.tup _):=u;refine⟨_,rfl,N,Z,_,rfl,hb,rfl,_,rfl,y,_,1,_,rfl,rfl,SqT.of u,rfl,_,rfl,y,_,2,_,rfl,rfl,SqT.of u,rfl,?_⟩;refine⟨N,L,M,T,O,R,S,m,o,rfl,I,hz.r,C,tb,λh=>c _ (.hangN h),λi j r q' Y U d b g hw=>?_⟩;subst Y;subst U;refine⟨λh=>c _ (.hangH d b g hw h),λh l=>c _ (.hangO d b g hw h l),λh l=>⟨λp=>c _ (.hangW d b g hw h l p),λp=>⟨λv=>c _ (.hangP d b g hw h l p v),λv=>⟨λB=>c _ (.hangE d b g hw h l p v B),λB x J D G k gr t=>?_⟩⟩⟩⟩;exact q (.txt "hung") _ _ _ x J D (.hang d b g hw h l p v B) G k gr t rfl (λ_ z=>nomatch z)
abbrev X1:Stmt:=xF "do_loose"
theorem aJQ:yM ["book","deed"] ["book","deed"] (yH X1):=scM
theorem aJq(a:MG P w K mg base (CXR P w) n CB "loosen" ["self","number"] (aVG K Rf CB CL))(F:Fun K "do_loose" "do_loose" X1 f fd):y8 P w K mg base (CXR P w) (n+1) f fd ["book","deed"] (aZL K Rf CB CL λe=>∃ (m:Int),e= .loose m):=by
 have D:=aJQ;refine F.okX (k:=n) D (λI A outer s H T Q E J h=>?_);obtain⟨x,p,l,o,C,y,R,S,e,rfl,⟨m,rfl⟩,c,i,U,G,tb,q,B⟩:=h;refine⟨_,(yC (yY (vO a J zN (pv 0) (yA (yL yX (pv 1) yE) yD))) (yF (yP yO))),?_⟩;obtain⟨M,N⟩:=i.book;have tk:∀ {b},w8 (own l o C y) H b->z9 Rf.2 b:=λk=>xR tb k i.kinds;have c:H p=some (.tup _):=c;refine⟨_,rfl,x,M,_,rfl,N,rfl,_,rfl,p,_,1,_,rfl,rfl,SqT.of c,rfl,?_⟩;refine⟨x,l,o,C,y,R,S,m,rfl,i,λh=>B _ (.oneN h (.inl rfl)),λk r L u v=>?_⟩;subst L;exact⟨λh=>B _ (.looseN u v h),λh b j d g k O=>q (.txt "loose") _ _ _ b j d (.loose u v h) g k.t O (tk k) rfl (λ_ z=>nomatch z)⟩
abbrev aQy:Stmt:=xF "do_date"
theorem aWN:yM ["book","deed"] ["book","deed"] (yH aQy):=scM
theorem aWt(a:MG P w K mg base (CXR P w) n CB "put_day" ["self","number","day"] (aVH K Rf CB CL))(F:Fun K "do_date" "do_date" aQy f fd):y8 P w K mg base (CXR P w) (n+1) f fd ["book","deed"] (aZL K Rf CB CL λe=>∃ (m:Int)(d:Int),e= .date m d):=by
 have I:=aWN;refine F.okX (k:=n) I (λL A outer s H X Q E M h=>?_);obtain⟨B,g,u,v,G,C,R,S,e,rfl,⟨m,d,rfl⟩,b,o,V,i,tb,q,D⟩:=h;refine⟨_,(yC (yY (vO a M zN (pv 0) (yA (yL yX (pv 1) yE) (yA (yL yX (pv 1) yE) yD)))) (yF (yP yO))),?_⟩;obtain⟨O,T⟩:=o.book;have tk:∀ {c},w8 (own u v G C) H c->z9 Rf.2 c:=λk=>xR tb k o.kinds;have b:H g=some (.tup _):=b;refine⟨_,rfl,B,O,_,rfl,T,rfl,_,rfl,g,_,1,_,rfl,rfl,SqT.of b,rfl,_,rfl,g,_,2,_,rfl,rfl,SqT.of b,rfl,?_⟩;refine⟨B,u,v,G,C,R,S,m,d,rfl,o,by have:=V.r;omega,i,λh=>D _ (.oneN h (.inr (.inl ⟨d,rfl⟩))),λk r N x y=>?_⟩;subst N;exact⟨λh=>D _ (.dateE x y h),λW J c p j l k U=>q (.txt "dated") _ _ _ c p j (.date x y W J) l k.t U (tk k) rfl (λ_ z=>nomatch z)⟩
abbrev aQC:Stmt:=xF "do_term"
theorem aWR:yM ["book","deed"] ["book","deed"] (yH aQC):=scM
theorem aWx(a:MG P w K mg base (CXR P w) n CB "put_term" ["self","number","term"] (aZN K Rf CB CL))(F:Fun K "do_term" "do_term" aQC f fd):y8 P w K mg base (CXR P w) (n+1) f fd ["book","deed"] (aZL K Rf CB CL λe=>∃ (m:Int)(t:Int),e= .term m t):=by
 have D:=aWR;refine F.okX (k:=n) D (λI A outer s H T Q E J h=>?_);obtain⟨x,d,o,p,C,y,R,S,e,rfl,⟨m,t,rfl⟩,b,j,U,G,tb,q,B⟩:=h;refine⟨_,(yC (yY (vO a J zN (pv 0) (yA (yL yX (pv 1) yE) (yA (yL yX (pv 1) yE) yD)))) (yF (yP yO))),?_⟩;obtain⟨M,N⟩:=j.book;have tk:∀ {c},w8 (own o p C y) H c->z9 Rf.2 c:=λk=>xR tb k j.kinds;have b:H d=some (.tup _):=b;refine⟨_,rfl,x,M,_,rfl,N,rfl,_,rfl,d,_,1,_,rfl,rfl,SqT.of b,rfl,_,rfl,d,_,2,_,rfl,rfl,SqT.of b,rfl,?_⟩;refine⟨x,o,p,C,y,R,S,m,t,rfl,j,λh=>B _ (.oneN h (.inr (.inr (.inl ⟨t,rfl⟩)))),λk r L u v=>?_⟩;subst L;exact⟨λh=>B _ (.termN u v h),λh c l g i k O=>q (.txt "set") _ _ _ c l g (.term u v h) i k.t O (tk k) rfl (λ_ z=>nomatch z)⟩
abbrev aQx:Stmt:=xF "do_copy"
theorem aWM:yM ["book","deed"] ["book","deed"] (yH aQx):=scM
theorem aWs(a:MG P w K mg base (CXR P w) n CB "send_copy" ["self","number","person"] (bZY K Rf CB CL))(F:Fun K "do_copy" "do_copy" aQx f fd):y8 P w K mg base (CXR P w) (n+1) f fd ["book","deed"] (aZL K Rf CB CL λe=>∃ (m:Int)(b:Str),e= .copy m b):=by
 have I:=aWM;refine F.okX (k:=n) I (λM A outer s H Y Q E N h=>?_);obtain⟨B,i,u,v,G,C,R,S,e,rfl,⟨m,b,rfl⟩,d,o,W,J,tb,q,D⟩:=h;refine⟨_,(yF (yP (vO a N zN (pv 0) (yA (yL yX (pv 1) yE) (yA (yL yX (pv 1) yE) yD))))),?_⟩;obtain⟨T,U⟩:=o.book;have tk:∀ {g},w8 (own u v G C) H g->z9 Rf.2 g:=λk=>xR tb k o.kinds;have d:H i=some (.tup _):=d;refine⟨_,rfl,B,T,_,rfl,U,rfl,_,rfl,i,_,1,_,rfl,rfl,SqT.of d,rfl,_,rfl,i,_,2,_,rfl,rfl,SqT.of d,rfl,?_⟩;refine⟨B,u,v,G,C,R,S,m,b,rfl,o,W.c,λh=>D _ (.oneN h (.inr (.inr (.inr (.inl ⟨b,rfl⟩))))),λk r O x y=>?_⟩;subst O;exact⟨λh=>D _ (.copyC x y h),λX L g p j l k V=>q (.num (r.copies.length+1)) _ _ _ g p j (.copy x y X L) l k.t V (tk k) rfl (λ_ z=>nomatch z)⟩
abbrev aQz:Stmt:=xF "do_file"
theorem aWO:yM ["book","deed"] ["book","deed"] (yH aQz):=scM
theorem aWu(a:MG P w K mg base (CXR P w) n CB "lay_thread" ["self","number","name"] (bVA K Rf CB CL))(F:Fun K "do_file" "do_file" aQz f fd):y8 P w K mg base (CXR P w) (n+1) f fd ["book","deed"] (aZL K Rf CB CL λe=>∃ (m:Int)(name:Str),e= .file m name):=by
 have x:=aWO;refine F.okX (k:=n) x (λy A outer s H O Q E D h=>?_);obtain⟨u,d,p,t,o,l,R,S,e,rfl,⟨m,name,rfl⟩,b,j,N,g,tb,q,M⟩:=h;refine⟨_,(yF (yP (vO a D zN (pv 0) (yA (yL yX (pv 1) yE) (yA (yL yX (pv 1) yE) yD))))),?_⟩;obtain⟨I,L⟩:=j.book;have tk:∀ {c},w8 (own p t o l) H c->z9 Rf.2 c:=λk=>xR tb k j.kinds;have b:H d=some (.tup _):=b;refine⟨_,rfl,u,I,_,rfl,L,rfl,_,rfl,d,_,1,_,rfl,rfl,SqT.of b,rfl,_,rfl,d,_,2,_,rfl,rfl,SqT.of b,rfl,?_⟩;refine⟨u,p,t,o,l,R,S,m,name,rfl,j,N.r,g,tb,λh=>M _ (.oneN h (.inr (.inr (.inr (.inr (.inl ⟨name,rfl⟩)))))),λk r G C J c i B v=>?_⟩;subst G;exact q (.num (Bk.thr R k).length) _ _ _ c o l (.file C J) i B qC.refl v rfl (λ_ z=>nomatch z)
abbrev aQD:Stmt:=xF "do_void"
theorem aWS:yM ["book","deed"] ["book","deed"] (yH aQD):=scM
theorem aWy(a:MG P w K mg base (CXR P w) n CB "cancel" ["self","number"] (aVz K Rf CB CL))(F:Fun K "do_void" "do_void" aQD f fd):y8 P w K mg base (CXR P w) (n+1) f fd ["book","deed"] (aZL K Rf CB CL λe=>∃ (m:Int),e= .void m):=by
 have D:=aWS;refine F.okX (k:=n) D (λI A outer s H U Q E J h=>?_);obtain⟨x,p,l,o,C,y,R,S,e,rfl,⟨m,rfl⟩,c,i,T,G,tb,q,B⟩:=h;refine⟨_,(yC (yY (vO a J zN (pv 0) (yA (yL yX (pv 1) yE) yD))) (yF (yP yO))),?_⟩;obtain⟨M,N⟩:=i.book;have tk:∀ {b},w8 (own l o C y) H b->z9 Rf.2 b:=λk=>xR tb k i.kinds;have c:H p=some (.tup _):=c;refine⟨_,rfl,x,M,_,rfl,N,rfl,_,rfl,p,_,1,_,rfl,rfl,SqT.of c,rfl,?_⟩;refine⟨x,l,o,C,y,R,S,m,rfl,i,by have:=T.r;omega,λh=>B _ (.oneN h (.inr (.inr (.inr (.inr (.inr (.inl rfl))))))),λk r L u v=>?_⟩;subst L;exact⟨λh=>B _ (.voidA u v h),λh b j d g k O=>q (.txt "void") _ _ _ b j d (.void u v h) g k.t O (tk k) rfl (λ_ z=>nomatch z)⟩
abbrev aQB:Stmt:=xF "do_shut"
theorem aWQ:yM ["book","deed"] ["book","deed"] (yH aQB):=scM
theorem aWw(a:MG P w K mg base (CXR P w) n CB "shut_day" ["self","day"] (bZZ K Rf CB CL))(F:Fun K "do_shut" "do_shut" aQB f fd):y8 P w K mg base (CXR P w) (n+1) f fd ["book","deed"] (aZL K Rf CB CL λe=>∃ (d:Int),e= .shut d):=by
 have x:=aWQ;refine F.okX (k:=n) x (λB A outer s H M Q E C h=>?_);obtain⟨r,p,m,o,v,u,R,S,e,rfl,⟨d,rfl⟩,c,j,L,y,tb,q,I⟩:=h;refine⟨_,(yC (yY (vO a C zN (pv 0) (yA (yL yX (pv 1) yE) yD))) (yF (yP yO))),?_⟩;obtain⟨D,G⟩:=j.book;have tk:∀ {b},w8 (own m o v u) H b->z9 Rf.2 b:=λk=>xR tb k j.kinds;have c:H p=some (.tup _):=c;refine⟨_,rfl,r,D,_,rfl,G,rfl,_,rfl,p,_,1,_,rfl,rfl,SqT.of c,rfl,?_⟩;refine⟨r,m,o,v,u,R,S,d,rfl,j,by have:=L.s;omega,λh=>I _ (.shutN h),λh b l g i k J=>?_⟩;exact q (.txt "shut") _ _ _ b l g (.shut h) i k.t J (tk k) rfl (λ_ z=>nomatch z)
abbrev jX:Stmt:=xF "ask_state"
theorem aZF:yM ["book","deed"] ["book","deed"] (yH jX):=scM
theorem aZr(a:MG P w K mg base (CXR P w) n CB "state_of" ["self","number"] (aZO K Rf CB CL))(F:Fun K "ask_state" "ask_state" jX f fd):y8 P w K mg base (CXR P w) (n+1) f fd ["book","deed"] (aZL K Rf CB CL λe=>∃ (m:Int),e= .state m):=by
 have v:=aZF;refine F.okX (k:=n) v (λy A outer s H L Q E B h=>?_);obtain⟨u,p,j,o,i,g,R,S,e,rfl,⟨m,rfl⟩,c,b,M,x,tb,q,J⟩:=h;refine⟨_,(yF (yP (vO a B zN (pv 0) (yA (yL yX (pv 1) yE) yD)))),?_⟩;obtain⟨D,I⟩:=b.book;have tk:∀ {H'},w8 (own j o i g) H H'->z9 Rf.2 H':=λk=>xR tb k b.kinds;have c:H p=some (.tup _):=c;refine⟨_,rfl,u,D,_,rfl,I,rfl,_,rfl,p,_,1,_,rfl,rfl,SqT.of c,rfl,?_⟩;refine⟨u,j,o,i,g,R,S,m,rfl,b,λk r l C z G hl=>?_,λh=>J _ (.oneN h (.inr (.inr (.inr (.inr (.inr (.inr (.inl rfl))))))))⟩;subst C;have d:=yG hl (.tup (stV r));exact q (.row r) _ _ _ _ i g (.state z G) (b.same d) (qT.of d.t) qC.refl (tk (w8.of d)) ⟨l,rfl,b.notnone hl,yB⟩ (uI.none hl)
abbrev uT:Stmt:=xF "ask_thread"
theorem aXK:yM ["book","deed"] ["book","deed"] (yH uT):=scM
theorem aXs(a:MG P w K mg base (CXR P w) n CB "thread_of" ["self","number"] (jF K Rf CB CL))(F:Fun K "ask_thread" "ask_thread" uT f fd):y8 P w K mg base (CXR P w) (n+1) f fd ["book","deed"] (aZL K Rf CB CL λe=>∃ (m:Int),e= .thread m):=by
 have y:=aXK;refine F.okX (k:=n) y (λz A outer s H N Q E C h=>?_);obtain⟨v,t,o,p,j,i,R,S,e,rfl,⟨m,rfl⟩,d,b,M,g,tb,q,L⟩:=h;refine⟨_,(yF (yP (vO a C zN (pv 0) (yA (yL yX (pv 1) yE) yD)))),?_⟩;obtain⟨G,J⟩:=b.book;have tk:∀ {c},w8 (own o p j i) H c->z9 Rf.2 c:=λk=>xR tb k b.kinds;have d:H t=some (.tup _):=d;refine⟨_,rfl,v,G,_,rfl,J,rfl,_,rfl,t,_,1,_,rfl,rfl,SqT.of d,rfl,?_⟩;refine⟨v,o,p,j,i,R,S,m,rfl,b,M.r,g.tree,tb,λh=>L _ (.oneN h (.inr (.inr (.inr (.inr (.inr (.inr (.inr (.inl rfl))))))))),λk r D B I c l nl u x hl=>?_⟩;subst D;exact q (.nums (Bk.thr R k)) _ _ _ c j i (.thread B I) (b.sameT u) (qT.of u) qC.refl x ⟨l,rfl,b.notown nl,hl⟩ (uI.nl nl)
abbrev uS:Stmt:=xF "ask_copies"
theorem aXJ:yM ["book","deed"] ["book","deed"] (yH uS):=scM
theorem aXr(a:MG P w K mg base (CXR P w) n CB "copies_of" ["self","number"] (aVB K Rf CB CL))(F:Fun K "ask_copies" "ask_copies" uS f fd):y8 P w K mg base (CXR P w) (n+1) f fd ["book","deed"] (aZL K Rf CB CL λe=>∃ (m:Int),e= .copies m):=by
 have v:=aXJ;refine F.okX (k:=n) v (λy A outer s H L Q E B h=>?_);obtain⟨u,p,j,o,i,g,R,S,e,rfl,⟨m,rfl⟩,c,b,M,x,tb,q,J⟩:=h;refine⟨_,(yF (yP (vO a B zN (pv 0) (yA (yL yX (pv 1) yE) yD)))),?_⟩;obtain⟨D,I⟩:=b.book;have tk:∀ {H'},w8 (own j o i g) H H'->z9 Rf.2 H':=λk=>xR tb k b.kinds;have c:H p=some (.tup _):=c;refine⟨_,rfl,u,D,_,rfl,I,rfl,_,rfl,p,_,1,_,rfl,rfl,SqT.of c,rfl,?_⟩;refine⟨u,j,o,i,g,R,S,m,rfl,b,λk r l C z G hl=>?_,λh=>J _ (.oneN h (.inr (.inr (.inr (.inr (.inr (.inr (.inr (.inr rfl)))))))))⟩;subst C;have d:=yG hl (.lst (r.copies.map V.str));exact q (.txts r.copies) _ _ _ _ i g (.copies z G) (b.same d) (qT.of d.t) qC.refl (tk (w8.of d)) ⟨l,rfl,b.notnone hl,yB⟩ (uI.none hl)
abbrev v5:Stmt:=xF "ask_letters"
theorem aQY:yM ["book","deed"] ["book","deed"] (yH v5):=scM
theorem aQT(a:MG P w K mg base CX0 n CB "letters_in" ["self","name"] (aQH CB CL))(F:Fun K "ask_letters" "ask_letters" v5 f fd):y8 P w K mg base (CXR P w) (n+1) f fd ["book","deed"] (aZL K Rf CB CL λe=>∃ (name:Str),e= .letters name):=by
 have v:=aQY;refine F.okX (k:=n) v (λy A outer s H I Q E z h=>?_);obtain⟨u,p,m,o,j,g,R,S,e,rfl,⟨name,rfl⟩,c,b,D,x,tb,q,G⟩:=h;refine⟨_,(yF (yP (vO a z vN (pv 0) (yA (yL yX (pv 1) yE) yD)))),?_⟩;obtain⟨B,C⟩:=b.book;have tk:∀ {H'},w8 (own m o j g) H H'->z9 Rf.2 H':=λk=>xR tb k b.kinds;have c:H p=some (.tup _):=c;refine⟨_,rfl,u,B,_,rfl,C,rfl,_,rfl,p,_,1,_,rfl,rfl,SqT.of c,rfl,?_⟩;refine⟨u,m,o,j,g,R,S,name,rfl,b,D.r,λl hl=>?_⟩;have d:=yG hl (.lst ((X6 R name).map λi=>V.int (i:Nat)));exact q (.nums (X6 R name)) _ _ _ _ j g .letters (b.same d) (qT.of d.t) qC.refl (tk (w8.of d)) ⟨l,rfl,b.notnone hl,yB⟩ (uI.none hl)
abbrev v7:Stmt:=xF "ask_waiting"
theorem aQ0:yM ["book","deed"] ["book","deed"] (yH v7):=scM
theorem aQV(a:MG P w K mg base CX0 n CB "waiting" ["self","day"] (bW7 CB CL false))(F:Fun K "ask_waiting" "ask_waiting" v7 f fd):y8 P w K mg base (CXR P w) (n+1) f fd ["book","deed"] (aZL K Rf CB CL λe=>∃ (d:Int),e= .on false d):=by
 have B:=aQ0;refine F.okX (k:=n) B (λD A outer s H N Q E G h=>?_);obtain⟨y,x,u,v,p,o,R,S,e,rfl,⟨d,rfl⟩,g,b,z,C,tb,q,M⟩:=h;refine⟨_,(yF (yP (vO a G vN (pv 0) (yA (yL yX (pv 1) yE) yD)))),?_⟩;obtain⟨I,J⟩:=b.book;have tk:∀ {c},w8 (own u v p o) H c->z9 Rf.2 c:=λk=>xR tb k b.kinds;have g:H x=some (.tup _):=g;refine⟨_,rfl,y,I,_,rfl,J,rfl,_,rfl,x,_,1,_,rfl,rfl,SqT.of g,rfl,?_⟩;refine⟨y,u,v,p,o,R,S,d,rfl,b,z.r,z.s,λl c L i hl j m=>?_⟩;exact q (.nums L) _ _ _ c p o (.on m) (b.same i) (qT.of i.t) qC.refl (tk (w8.of i)) ⟨l,rfl,b.notnone hl,j⟩ (uI.none hl)
abbrev v6:Stmt:=xF "ask_overdue"
theorem aQZ:yM ["book","deed"] ["book","deed"] (yH v6):=scM
theorem aQU(a:MG P w K mg base CX0 n CB "overdue" ["self","day"] (bW7 CB CL true))(F:Fun K "ask_overdue" "ask_overdue" v6 f fd):y8 P w K mg base (CXR P w) (n+1) f fd ["book","deed"] (aZL K Rf CB CL λe=>∃ (d:Int),e= .on true d):=by
 have B:=aQZ;refine F.okX (k:=n) B (λD A outer s H N Q E G h=>?_);obtain⟨y,x,u,v,p,o,R,S,e,rfl,⟨d,rfl⟩,g,b,z,C,tb,q,M⟩:=h;refine⟨_,(yF (yP (vO a G vN (pv 0) (yA (yL yX (pv 1) yE) yD)))),?_⟩;obtain⟨I,J⟩:=b.book;have tk:∀ {c},w8 (own u v p o) H c->z9 Rf.2 c:=λk=>xR tb k b.kinds;have g:H x=some (.tup _):=g;refine⟨_,rfl,y,I,_,rfl,J,rfl,_,rfl,x,_,1,_,rfl,rfl,SqT.of g,rfl,?_⟩;refine⟨y,u,v,p,o,R,S,d,rfl,b,z.r,z.s,λl c L i hl j m=>?_⟩;exact q (.nums L) _ _ _ c p o (.on m) (b.same i) (qT.of i.t) qC.refl (tk (w8.of i)) ⟨l,rfl,b.notnone hl,j⟩ (uI.none hl)
end
end Desk
namespace Desk
open PySem L2 PyProof.Rows
open Bk (Row Rows xV Ans xY)
open Thr (z9 vM qI)
structure bKg(P:bYE)(w:bYK)(K:bYk)(D:Nat)(kvs:List (Key×bYi)):Prop where
 at_:∃o es ep,K.lookup D=some o/\o.ExactDict/\o.data= .dict es ep/\KeysOf (x2 P w) es/\Pairs (x2 P w) es.toList kvs/\(kvs.map (·.1)).Nodup
inductive bKK(kvs:List (Key×bYi))(Q:VK)(y:V)(H1:Hp):Prop|mk (x:Str) (f:Nat) (_:y= .str x) (_:cZC kvs (Sum.inr x)=some (.ref f)) (_:Q (.ref f) H1)
def bYg(a:List (Key×bYi))(c:TE):TE:=λσ H Q=>c σ H λy b=>bKK a Q y b
theorem bWu{X:Cx}{x:Str}{D:Nat}{a:List (Key×bYi)}{i:Expr}{d:TE}{p pos:Pos}(t:Gl X x)(g:X.mg x=some (.ref D))(T:bKg X.prog X.w X.K D a)(v:PE X i d)(n:bKO i)(c:(x==("__debug__":Str))=false:=by decide):
  PE X (.Subscript (.Name x p) i pos) (bYg a d):=by
 intro b s σ H Q I h
 refine bVB PySem.F.slot_dict_getitem.lookup n (uN I t g (thn (v b s σ H _ I h) λiv s2 ⟨y,H2,I2,ry,x',f,ex,hv,q2⟩=>?_) c)
 subst ex
 obtain⟨o,u,l,A,q,j,m,z,r⟩:=T.at_
 have e:s2.heap.DictOf (x2 X.prog X.w) D a:=⟨o,u,l,I2.kIn _ _ A,q,j,m,z,r⟩
 exact⟨e.typeIs,wpAny_getItem_of (bQS (k:=Sum.inr x') ry) e.mapOf hv ⟨.ref f,H2,I2.tok _,rfl,q2⟩⟩
inductive bZ1(P:bYE)(w:bYK)(K:bYk)(mg:Str->Option bYi)(base:Heap)(k i:Nat)(E:XK)(t:TA)(σ:L2.St)(H:Hp)(Q:VK):Prop|mk (f) (_:σ[i]? =some (some (.ref f))) (_:cQb K (.ref f)=true) (_:t σ H λvs H1=>∃fd ps sp,y8 P w K mg base (CXR P w) k f fd ps sp/\vR K fd ps []/\sp vs H1 Q E)
theorem bXz{X:Cx}{k i:Nat}{x:Str}{e:Expr}{c:List Expr}{t:TA}{E:XK}{p pos:Pos}(z:vK k X.A)(J:X.N[i]? =some x)(B:Vis X.env.scope x)(D:w9 (CXR X.prog X.w) X E)(C:PA X (e::c) t)
  (j:(x==("__debug__":Str))=false:=by decide) (d:(x==("__classdict__":Str))=false:=by decide) (y:bYV (e::c) X.env=(false,eval e X.env)::bYV c X.env:=by rfl) (g:(cQU pos (bYV c X.env)).any (·.1)=false:=by rfl):
  PE X (.Call (.Name x p) (e::c) [] pos) (bZ1 X.prog X.w X.K X.mg X.base k i E t):=by
 intro a s σ H Q I h
 obtain⟨f,o,n,q⟩:=h
 refine cQV (thn (bZQ (pos:=p) J B j d a s σ H (λv l=>v= .ref f/\l=H) I ⟨_,o,rfl,rfl⟩) ?_)
 rintro u L ⟨v,l,m,G,rfl,rfl⟩
 obtain rfl:u=Value.ref f:=G
 refine cX7 (h₀:=X.base) I.ok.mod.kin n (thn (C pos a L σ l _ m q) λus s2 ⟨vs,H2,I2,r,fd,ps,sp,F,b,q2⟩=>⟨I2.kIn,?_⟩) y g
 exact aZB F z b .nil D I2 r (by rw[cQu];exact q2)
def aKH:xV->Str
 |.enter b _ _ _=>b
 |.reply _ _ _=>"reply"
 |.hang _ _=>"hang"
 |.loose _=>"loose"
 |.date _ _=>"date"
 |.term _ _=>"term"
 |.copy _ _=>"copy"
 |.file _ _=>"file"
 |.void _=>"void"
 |.shut _=>"shut"
 |.state _=>"state"
 |.thread _=>"thread"
 |.copies _=>"copies"
 |.letters _=>"letters"
 |.on a _=>if a then "overdue" else "waiting"
def Wf:xV->Prop
 |.enter a _ _ _=>a="in"\/a="out"
 |_=>True
theorem bQE(e:xV):atI (xE e) 0=some (.str (aKH e)):=by cases e<;> rfl
def bVP(P:bYE)(w:bYK)(K:bYk)(mg:Str->Option bYi)(base:Heap)(n:Nat)(Rf:Nat×Nat)(c CL:Nat)(a:List (Key×bYi)):Prop:=∀e:xV,Wf e->∃ (f:Nat)(b:cXd)(p:xV->Prop),cZC a (Sum.inr (aKH e))=some (.ref f)/\
 y8 P w K mg base (CXR P w) n f b ["book","deed"] (aZL K Rf c CL p)/\p e/\vR K b ["book","deed"] []/\cQb K (.ref f)=true
inductive J7(Rf:Nat×Nat)(CB CL:Nat)(vs:List V)(H:Hp)(Q:VK)(_:XK):Prop|mk (ba da la sa:Nat) (ls cs:List Nat) (R:Rows) (S:List Int) (e:xV) (_:vs= [.ref ba,.ref da]) (_:Wf e) (_:H da=some (.tup (xE e))) (_:PB CB CL H ba la sa ls cs R S) (_:Sz R S) (_:Bk.qR R) (_:z9 Rf.2 H) (_:∀ (a:Ans)(R':Rows)(S':List Int)(v:V)(H':Hp)(ls' cs':List Nat),xY R S e a R' S'->PB CB CL H' ba la sa ls' cs' R' S'->qT (own la sa ls cs) H H'->qC H (own la sa ls cs) (own la sa ls' cs')->z9 Rf.2 H'->wY (own la sa ls' cs') H' a v->uI H v->Q v H')
section
variable {K:bYk}
abbrev aJD:Stmt:=xF "answer"
theorem aYP:yM ["book","deed","do","refusal"] ["book","deed"] (yH aJD):=scM
theorem aK4(J:mg "DEEDS"=some (.ref D))(TD:bKg P w K D kvs)(hR:mg "Refused"=some (.ref Rf.1))(Y:vS K Rf.1)(all:bVP P w K mg base n Rf CB CL kvs)(F:Fun K "answer" "answer" aJD f fd): y8 P w K mg base CX0 (n+1) f fd ["book","deed"] (J7 Rf CB CL):=by
 have p:=aYP;refine F.ok (k:=n) p (λN A outer s H vs Q E O h=>?_);obtain⟨V,o,y,B,x,u,R,S,e,rfl,g,m,r,Z,d,tb,q⟩:=h;refine⟨_,(yC (yT (i:=2) (bWu rfl J TD (yL yX (pv 1) yE) (λ_ _=>rfl))) (yF (bWw (i:=3) p.nd rfl rfl rfl hR Y rfl rfl rfl (by decide) (by decide) (by decide) (λ_=>rfl) (tb:=λE=>bKV (bZ1 P w K mg base n 2 E (aW3 (bVF 0) (aW3 (bVF 1) bZg)))) (λpn xe E L=>yF (yP (bXz O rfl (Or.inl rfl) L (yA (pv 0) (yA (pv 1) yD)))))))),?_⟩;obtain⟨v,l,pe,U,X,b,c,a⟩:=all e g;refine⟨_,rfl,o,_,0,_,rfl,rfl,SqT.of m,bQE e,aKH e,v,rfl,U,?_⟩;dsimp only[yW];refine⟨v,rfl,a,_,rfl,_,rfl,l,_,_,X,c,V,o,y,B,x,u,R,S,e,rfl,b,m,r,Z,d,tb,q,λt j=>?_⟩;intro C T M I G k W;exact⟨C,T,t,rfl,rfl,I,G,W,q (.txt t) R S _ M x u j (r.sameT k.1) (qT.of k.1) qC.refl (k.2 tb) rfl (λ_ z=>nomatch z)⟩
inductive Run:Rows->List Int->List xV->List Ans->Rows->List Int->Prop
 |nil {R:Rows} {S:List Int}:Run R S [] [] R S
 |snoc {R R' R'':Rows} {S S' S'':List Int} {es:List xV} {as:List Ans} {e:xV} {a:Ans} (h:Run R S es as R' S') (d:xY R' S' e a R'' S''):Run R S (es++ [e]) (as++ [a]) R'' S''
theorem Run.len{R f:Rows}{S c:List Int}{a:List xV}{b:List Ans}(h:Run R S a b f c):a.length=b.length:=by
 induction h with
 |nil=>rfl
 |snoc h d e=>simp[e]
structure Up(t:Nat)(R:Rows)(S:List Int):Prop where
 r:R.length<=t
 s:S.length<=t
 c:∀r∈R,r.copies.length<=t
theorem Up.set{t:Nat}{R:Rows}{S:List Int}(u:Up t R S)(k:Nat)(f:Row->Row)(a:∀r,(f r).copies.length<=r.copies.length+1):Up (t+1) (Bk.xJ R k f) S:=
 ⟨by rw[Bk.zJ];exact cQO u.r,cQO u.s,λr b=>by
  rcases Bk.aQf b with h|⟨q,h,rfl⟩
  ·exact cQO (u.c r h)
  ·exact bYT (a q) (Nat.succ_le_succ (u.c q h))⟩
theorem Q8{name:Str}:∀ (l:List Nat)(R:Rows)(t:Nat),(∀r∈R,r.copies.length<=t)->∀r∈Bk.laid R l name,r.copies.length<=t
 |[],R,t,h,r,hr=>h r hr
 |k::l,R,t,h,r,hr=>Q8 l (Bk.xJ R k λr=>{r with place:=name}) t (λq b=>by
   rcases Bk.aQf b with z|⟨a,z,rfl⟩
   ·exact h q z
   ·exact h a z) r hr
theorem Up.laid{t:Nat}{R:Rows}{S:List Int}(u:Up t R S)(l:List Nat)(name:Str):Up t (Bk.laid R l name) S:=⟨by rw[Bk.wK];exact u.r,u.s,Q8 l R t u.c⟩
theorem Up.le{t:Nat}{R:Rows}{S:List Int}(u:Up t R S):Up (t+1) R S:=⟨cQO u.r,cQO u.s,λr h=>cQO (u.c r h)⟩
theorem Up.snoc{t:Nat}{R:Rows}{S:List Int}(u:Up t R S)(r:Row)(h:r.copies= []):Up (t+1) (R++ [r]) S:=⟨by simpa using u.r,cQO u.s,λq a=>by
 rcases bYX.mp a with z|z
 ·exact cQO (u.c q z)
 ·rw[bYz.mp z,h];exact cQe _⟩
theorem Up.done{t:Nat}{R d:Rows}{S b:List Int}{e:xV}{a:Ans}(u:Up t R S)(h:xY R S e a d b):Up (t+1) d b:=by
 cases h with
 |enter _=>exact u.snoc _ rfl
 |reply _ _ _ _=>exact u.snoc _ rfl
 |hang _ _ _ _ _ _ _ _ _=>exact(u.laid _ _).set _ _ λ_=>cXm _
 |loose _ _ _=>exact u.set _ _ λ_=>cXm _
 |date _ _ _ _=>exact u.set _ _ λ_=>cXm _
 |term _ _ _=>exact u.set _ _ λ_=>cXm _
 |copy _ _ _ _=>exact u.set _ _ λr=>by simp
 |file _ _=>exact(u.laid _ _).le
 |void _ _ _=>exact u.set _ _ λ_=>cXm _
 |shut _=>exact⟨cQO u.r,by simpa using u.s,λr h=>cQO (u.c r h)⟩
 |_=>exact u.le
theorem Up.sz{t:Nat}{R:Rows}{S:List Int}(u:Up t R S)(h:t<64):Sz R S:=⟨by have:=u.r;omega,by have:=u.s;omega,λr a=>by have:=u.c r a;omega⟩
end
end Desk
namespace Law
open PySem L2 PyProof.Rows
open Bk (Row Rows xY xV Ans)
open Desk (xE wY uI Wf)
abbrev aXA:Stmt:=xF "_law_entered"
def aQN(e:Nat)(c a:List Nat)(H d:Hp):Prop:=(∀x o,x∉e::c->H x=some o->d x=some o)/\(∀b∈a,b∈c\/H b=none)/\∀s u,H s=some u->NoC c H s->NoC a d s
theorem But.step{d:Nat}{a:List Nat}{H c:Hp}(k:But a H c):aQN d a a H c:=⟨λx o n e=>k.1 x o (λz=>n (bYt _ z)) e,λb h=> .inl h,k.2.2⟩
theorem aQN.pre{f:Nat}{c a:List Nat}{H d g:Hp}(i:∀b∈c,∃o,H b=some o)(k:xA H d)(s:aQN f c a d g):aQN f c a H g:=
 ⟨λx o n e=>s.1 x o n (k _ _ e),λb h=>(s.2.1 b h).imp id λz=>k.fresh z,λx u e n=>s.2.2 x u (k _ _ e) ((But.of i k).2.2 x u e n)⟩
inductive aQG(vs:List V)(H:Hp)(Q:VK)(_:XK):Prop|mk (ra da:Nat) (rs:List Nat) (R:Rows) (e:xV) (_:vs= [.ref ra,.ref da]) (_:H da=some (.tup (xE e))) (_:Wf e) (_:((∃way d who t,e= .enter way d who t)\/∃m d t,e= .reply m d t)) (_:y7 H ra rs R) (_:R.length<=60) (_:∀ (H':Hp)(a:Ans)(v:V)(R':Rows)(rs':List Nat),aQN ra rs rs' H H'->y7 H' ra rs' R'->(∀S,xY R S e a R' S)->wY [] H' a v->uI H v->Q v H')
theorem aVU{H:Hp}{g:Nat}{p:List Nat}{R:Rows}(h:y7 H g p R){r:Row}(Q:r.copies= []){f b:Nat}(v:H f=none)(G:upd H f (.lst []) b=none): y7 (upd (upd (upd H f (.lst [])) b (.lst (uR r f))) g (.lst ((p++ [b]).map V.ref))) g (p++ [b]) (R++ [r])/\aQN g p (p++ [b]) H (upd (upd (upd H f (.lst [])) b (.lst (uR r f))) g (.lst ((p++ [b]).map V.ref))):=by
 have N:=yG v (.lst []);have T:=yG G (.lst (uR r f));have F:=N.trans T;have m:H b=none:=N.fresh G;have w:b≠g:=λz=>by rw[z,h.lst]at m;cases m
 have I:f≠g:=λz=>by rw[z,h.lst]at v;cases v
 have K:f≠b:=λz=>by rw[<- z,yB]at G;cases G
 have nb:b∉p:=λz=>by obtain⟨o,e⟩:=h.dom b z;rw[m]at e;cases e
 have rne:∀ {a r' j},H a=some (.lst (uR r' j))->a≠g:=λq z=>by rw[z,h.lst]at q;exact aQp (bYD q).symm
 refine⟨⟨yB,by simp[h.len],?_,λi c q d k=>?_⟩,λx o n e=>?_,λc t=>?_,λs u e n c t l E=>?_⟩
 ·exact cXI.mpr ⟨h.nd,cQF _ _,λa S c v z=>nb (by rw[<- bYz.mp v,<- z];exact S)⟩
 ·by_cases C:i<R.length
  ·rw[bY5 (by rw[h.len];exact C)]at d;rw[bY5 C]at k;obtain⟨j,D,B⟩:=h.row i c q d k;have J:j≠g:=λz=>by
    rw[z,h.lst]at B;have hl:=congrArg cXM (HO.lst.inj (bYD B));have:=bYA d;cases p with
    |nil=>cases this
    |cons x W=>
     cases A:q.copies with
     |nil=>rw[A]at hl;simp at hl
     |cons y U=>rw[A]at B;have:=HO.lst.inj (bYD B);simp at this
   exact⟨j,by rw[yI (rne D)];exact F _ _ D,by rw[yI J];exact F _ _ B⟩
  ·have L:i=R.length:=by
    have:=(bYu.mp k).1;simp at this;omega
   subst L;rw[bYH (by rw[h.len];exact bYp _),h.len,cQC]at d;rw[bYH (bYp _),cQC]at k;cases d;cases k;exact⟨f,by rw[yI w,yB];rfl,by rw[yI I,yI K,yB,Q];rfl⟩
 ·have P:x≠g:=λz=>n (by rw[z];exact bYx);rw[yI P];exact F _ _ e
 ·rcases bYX.mp t with z|z
  ·exact .inl z
  ·exact .inr (by rw[bYz.mp z];exact m)
 ·rcases bYX.mp t with z|z
  ·have z2:c≠g:=λy=>by
    obtain⟨i,C,O⟩:=bY7 z;obtain⟨j,D,_⟩:=h.row i c _ (by rw[bYh C,O]) (bYh (show i<R.length by rw[<- h.len];exact C));exact rne D y
   obtain⟨o,M⟩:=h.dom c z;rw[yI z2,F _ _ M]at E;exact n c z l (by rw[M];exact E)
  ·rw[bYz.mp z,yI w,yB]at E;cases E;intro y;have:f=s:=by injection y with y;injection y
   rw[<- this,v]at e;cases e
section
variable {K:bYk}
theorem jJ:bY3 "int"=some (.type "int"):=dk
theorem aWT:yM ["_law_rows","_law_deed","_law_way","_law_date","_law_partner","_law_link","_law_place","_law_one"] ["_law_rows","_law_deed"] (yH aXA):=scM
theorem aWz(T:vI mg)(a6:mg "int"=none)(D:FnG P w K mg base 2 "_law_good" ["_law_rows","_law_number"] Z4)(F:Fun K "_law_entered" "_law_entered" aXA f fd):y8 P w K mg base CX0 3 f fd ["_law_rows","_law_deed"] aQG:=by
 have sc:=aWT;refine F.ok (k:=2) sc (λb7 A outer s H vs Q E hr h=>?_);obtain⟨O,o,X,R,e,rfl,B,b4,v,I,hR,q⟩:=h;refine⟨_,(yC (vP (xM (yA (yL yX (pv 1) yE) (yA (yL yX (pv 1) yE) (yA (yL yX (pv 1) yE) (yA zB (yA yO yD)))))) (aVo rfl (zG (y9 (i:=2)) (zG (y9 (i:=3)) (zG (y9 (i:=4)) (zG (y9 (i:=5)) (zG (y9 (i:=6)) aXu))))))) (yC (y6 (yN x9 (pv 2) yO) (yC (y6 (uC (x6 (xK D hr rfl (yA (pv 0) (yA (yL yX (pv 1) yE) yD))))) (yF (yP yO)) yR) (yC (yT (i:=7) (yL yK (pv 0) (yL yX (pv 1) yE))) (yC (yT (i:=2) (yL yK (y3 (yA yO (yA yO yD))) (xT wR rfl a6 jJ (yA (zI x9 (yL yK (pv 7) yE) yO) yD)))) (yF (vP (xM (yA (yL yX (pv 1) yE) (yA (yL yK (pv 7) yE) (yA (yL yX (pv 1) yE) (yA (yL yK (pv 7) yE) yD))))) (aVo rfl (zG (y9 (i:=3)) (zG (y9 (i:=4)) (zG (y9 (i:=5)) (zG (y9 (i:=6)) aXu)))))))))) yR) (yC (y6 (yN vF (yL yX (pv 1) yE) yE) (yF (yP yO)) yR) (yC (y6 (PW.pt (vQ (yN wG (pv 5) zB) (wV (yN vF (pv 3) (yL yK (yL yK (pv 0) (pv 5)) yE))))) (yF (yP yO)) yR) (yC (yY (uG bYS bYY bYZ xG (pv 0) (yA (y3 (yA (pv 2) (yA (pv 3) (yA (pv 4) (yA (yL yX (pv 1) yE) (yA (pv 5) (yA (pv 6) (yA qN (yA (y3 yD) yD))))))))) yD))) (yF (yP (yV wU (yU yQ rfl T.b_len xD (yA (pv 0) yD)) yE)))))))),?_⟩;have h0:∃a b c,(xE e)[0]? =some (.str a)/\(xE e)[1]? =some (.int b)/\(xE e)[2]? =some c/\a=Desk.aKH e:=by
  rcases v with⟨g,d,l,t,rfl⟩|⟨m,d,t,rfl⟩
  ·exact⟨_,_,_,rfl,rfl,rfl,rfl⟩
  ·exact⟨_,_,_,rfl,rfl,rfl,rfl⟩
 obtain⟨L,b0,G,d0,d1,d2,ea⟩:=h0;refine⟨_,rfl,o,_,0,_,rfl,rfl,SqT.of B,yS (j:=0) d0,_,rfl,o,_,1,_,rfl,rfl,SqT.of B,yS (j:=1) d1,_,rfl,o,_,2,_,rfl,rfl,SqT.of B,yS (j:=2) d2,z5,λtp b1=>?_⟩;have W:=yG b1 (.tup [.str L,.int b0,G,.non,.str ""]);refine⟨tp,[.str L,.int b0,G,.non,.str ""],rfl,SqT.of yB,rfl,.str L,[.int b0,G,.non,.str ""],rfl,.int b0,[G,.non,.str ""],rfl,G,[.non,.str ""],rfl,.non,[.str ""],rfl,.str "",[],rfl,rfl,?_⟩;generalize upd H tp (.tup [.str L,.int b0,G,.non,.str ""])=H1 at W ⊢;dsimp only[yW];refine x8 (λp H'=>∃ (g l place:Str)(d t:Int)(lk:Option Nat)(o7:Option V),p= [some (.ref O),some (.ref o),some (.str g),some (.int d),some (.str l),some (wM lk),some (.str place),o7]/\xA H H'/\(xE e)[3]? =some (.int t)/\(∀k,lk=some k->k<R.length)/\
  (t<0->∀S,xY R S e (.txt "no term") R S)/\(0<=t->(∃k,lk=some k/\d<Bk.dt R k)->∀S,xY R S e (.txt "too early") R S)/\(0<=t->(∀k,lk=some k->Bk.dt R k<=d)->∀S,xY R S e (.num R.length) (R++ [⟨g,d,l,t,lk,place,false,[]⟩]) S)) ?jT (λn=>?_)
 case jT=>
  rintro p H2 ⟨g,l,place,d,t,lk,o7,rfl,y,d3,b6,t1,t2,t3⟩;have u:=I.same y;have a4:=y _ _ B;have stay:∀ {Z:Hp} {x:Str},xA H Z->(∀S,xY R S e (.txt x) R S)->Q (.str x) Z:=λ{Z x} k dn=>q Z (.txt x) _ R X (But.of I.dom k).step (I.same k) dn rfl (λ_ z=>nomatch z);refine⟨_,rfl,o,_,3,_,rfl,rfl,SqT.of a4,yS (j:=3) d3,_,_,rfl,rfl,_,rfl,?_⟩;refine qD (λc=>?_) (λc=>?_)
  ·exact stay y (t1 (of_decide_eq_true c))
  have ht:0<=t:=by have:=of_decide_eq_false (Bool.eq_false_iff.mpr c);omega
  dsimp only[aW4];refine x8 (λp H'=>p= [some (.ref O),some (.ref o),some (.str g),some (.int d),some (.str l),some (wM lk),some (.str place),o7]/\H'=H2/\∀k,lk=some k->Bk.dt R k<=d) ?rest2 (λn=>?_);case rest2=>
   rintro p H' ⟨rfl,rfl,h1⟩;refine⟨_,rfl,.inl ⟨rfl,_,SqL.of u.lst⟩,_,rfl,_,rfl,_,rfl,_,rfl,o,_,3,_,rfl,rfl,SqT.of a4,yS (j:=3) d3,_,rfl,_,rfl,z0,λcp a7=>⟨zn (by show 8<=100000;omega),λb hb=>?_⟩⟩;have hE:=aVU u (r:=⟨g,d,l,t,lk,place,false,[]⟩) rfl a7 hb;have k3:=(yG a7 (.lst [])).trans (yG hb (.lst (uR ⟨g,d,l,t,lk,place,false,[]⟩ cp)));refine⟨O,_,_,rfl,rfl,k3 _ _ u.lst,zlt (by rw[bYo,I.len];omega),?_⟩;have el:X.map V.ref++ [V.ref b]=(X++ [b]).map V.ref:=by simp
   rw[el];refine⟨_,rfl,O,_,rfl,.inl (SqL.of yB),?_⟩;refine⟨_,_,rfl,rfl,?_⟩;have en:(((((X++ [b]).map V.ref).length:Nat):Int) - 1)=(R.length:Int):=by rw[bYo,bYM,I.len];simp
   show Q (V.int _) _;rw[en];exact q _ (.num R.length) _ _ _ (hE.2.pre I.dom y) hE.1 (t3 ht h1) rfl (λ_ z=>nomatch z)
  cases lk with
  |none=>exact⟨_,rfl,rfl,_,rfl,onF rfl (onF rfl (n _ _ ⟨rfl,rfl,λk z=>nomatch z⟩))⟩
  |some j=>
   have b3:=b6 j rfl;have M:=bYh b3;obtain⟨bj,j1,j2,cj,j3,j4⟩:=u.get M;refine⟨_,rfl,rfl,_,rfl,onT rfl ⟨_,rfl,_,rfl,_,rfl,O,_,_,_,rfl,rfl,SqL.of u.lst,yS j1,bj,_,1,_,rfl,rfl,SqL.of j3,rfl,_,_,rfl,rfl,_,rfl,?_⟩⟩;cases a8:decide (d<R[j].date)with
   |true=>exact onT rfl (stay y (t2 ht ⟨j,rfl,by rw[Bk.wZ M];exact of_decide_eq_true a8⟩))
   |false=>exact onF rfl (n _ _ ⟨rfl,rfl,λi U=>by cases U;rw[Bk.wZ M];have:=of_decide_eq_false a8;omega⟩)
 refine⟨_,rfl,rfl,_,rfl,?_⟩;rcases v with⟨g,d,l,t,rfl⟩|⟨m,d,t,rfl⟩
 ·have a3:g="in"\/g="out":=b4;obtain rfl:L=g:=by cases d0;rfl
  obtain rfl:b0=d:=by cases d1;rfl
  obtain rfl:G= .str l:=by cases d2;rfl
  refine onF (by rcases a3 with rfl|rfl<;> decide) ?_;exact n _ _ ⟨L,l,"",b0,t,none,none,rfl,W,rfl,(λk z=>nomatch z),(λh S=> .enterT h),(λh ⟨k,z,_⟩=>nomatch z),λh _ S=> .enter h⟩
 ·obtain rfl:L="reply":=by cases d0;rfl
  obtain rfl:b0=m:=by cases d1;rfl
  obtain rfl:G= .int d:=by cases d2;rfl
  refine onT rfl ?_;have N:H1 o=some (.tup [.str "reply",.int b0,.int d,.int t]):=W _ _ B;have C:=I.same W;refine⟨_,rfl,_,rfl,o,_,1,_,rfl,rfl,SqT.of N,rfl,O,X,R,b0,rfl,C,_,rfl,?_⟩;cases h1:Bk.wI R b0 with
  |false=>exact onT rfl (q H1 (.txt "no letter") _ R X (But.of I.dom W).step C (λS=> .replyN h1) rfl (λ_ z=>nomatch z))
  |true=>
  obtain⟨i,r,rfl,b2,U,hv⟩:=Bk.z6 h1;obtain⟨b,g1,g2,cp,g3,g4⟩:=C.get U;refine onF rfl ⟨_,rfl,_,rfl,o,_,1,_,rfl,rfl,SqT.of N,rfl,O,_,_,_,rfl,rfl,SqL.of C.lst,yS g1,?_⟩;dsimp only[yW];refine⟨z2,λl2 Y=>⟨_,rfl,b,_,0,_,rfl,rfl,SqL.of (yG Y (.lst [.str "in",.str "out"]) _ _ g3),rfl,rfl,.inr ⟨_,rfl,?_⟩⟩⟩;have y:=yG Y (.lst [.str "in",.str "out"]);have a5:=W.trans y;have J:upd H1 l2 (.lst [.str "in",.str "out"]) l2=some (.lst [.str "in",.str "out"]):=yB;generalize upd H1 l2 (.lst [.str "in",.str "out"])=Z at y a5 J ⊢;have a9:atI [V.str "in",V.str "out"] (if decide (V.str r.way=V.str "in")=true then 1 else 0)=some (.str (Bk.uO r.way)):=by
   rw[wO];unfold Bk.uO;by_cases z:r.way="in"
   ·rw[if_pos z,decide_eq_true z];rfl
   ·rw[if_neg z,decide_eq_false z];rfl
  have a2:=y _ _ N;have a1:=y _ _ g3;refine⟨l2,_,_,_,rfl,rfl,SqL.of J,a9,?_⟩;dsimp only[yW];refine⟨_,rfl,o,_,2,_,rfl,rfl,SqT.of a2,rfl,_,rfl,b,_,2,_,rfl,rfl,SqL.of a1,rfl,_,rfl,o,_,1,_,rfl,rfl,SqT.of a2,rfl,_,rfl,b,_,5,_,rfl,rfl,SqL.of a1,rfl,z4,λt4 b5=>?_⟩;have k4:=yG b5 (.tup [.int d,.str r.partner,.int (i:Nat),.str r.place]);refine⟨t4,[.int d,.str r.partner,.int (i:Nat),.str r.place],rfl,SqT.of yB,rfl,.int d,[.str r.partner,.int (i:Nat),.str r.place],rfl,.str r.partner,[.int (i:Nat),.str r.place],rfl,.int (i:Nat),[.str r.place],rfl,.str r.place,[],rfl,rfl,?_⟩;refine n _ _ ⟨Bk.uO r.way,r.partner,r.place,d,t,some i,_,rfl,a5.trans k4,rfl,(λk z=>by cases z;exact b2),(λh S=> .replyT h1 h),(λh ⟨k,z,B⟩ S=>?_),(λh B S=>?_)⟩
  ·cases z;rw[Bk.wZ U]at B;exact .replyE U hv h B
  ·have:=B i rfl;rw[Bk.wZ U]at this;exact .reply U hv h this
end
end Law
namespace Law
open PySem L2 PyProof.Rows
open Bk (Row Rows xY xV Ans)
open Desk (xE wY uI Wf wJ)
abbrev bVh:Stmt:=xF "_law_with_one"
theorem y7.tupNo{H:Hp}{d:Nat}{c:List Nat}{R:Rows}(h:y7 H d c R){x:Nat}{ys:List V}(e:H x=some (.tup ys)):x∉c:=λz=>by
 obtain⟨i,b,f⟩:=bY7 z;obtain⟨g,a,_⟩:=h.row i x _ (by rw[bYh b,f]) (bYh (show i<R.length by rw[<- h.len];exact b));rw[e]at a;cases a
theorem aZ1{H:Hp}{m:Nat}{g:List Nat}{R:Rows}{k:Nat}{b:Nat}{r:Row}(h:y7 H m g R)(q:g[k]? =some b)(v:R[k]? =some r){t a:Nat}(B:H b=some (.lst (uR r t)))(w:List Str)(d:H a=none): y7 (upd (upd H a (.lst (w.map V.str))) b (.lst (uR r a))) m g (Bk.xJ R k λr=>{r with copies:=w})/\aQN m g g H (upd (upd H a (.lst (w.map V.str))) b (.lst (uR r a))):=by
 have j:=yG d (.lst (w.map V.str));have A:=h.same j;refine⟨A.upd q v (λr=>{r with copies:=w}) yB,λx o n e=>?_,λc i=> .inl i,λs u e n c i l f=>?_⟩
 ·rw[yI (λz=>n (bYt _ (by rw[z];exact bYA q)))];exact j _ _ e
 ·by_cases z:c=b
  ·subst z;rw[yB]at f;cases f;intro y;have:a=s:=by injection y with y;injection y
   rw[<- this,d]at e;cases e
  ·rw[yI z]at f;obtain⟨o,p⟩:=h.dom c i;rw[j _ _ p]at f;exact n c i l (by rw[p];exact f)
def qU(e:xV)(m:Int):Prop:=e= .loose m\/(∃d,e= .date m d)\/(∃t,e= .term m t)\/(∃w,e= .copy m w)\/(∃w,e= .file m w)\/e= .void m
inductive bQl(vs:List V)(H:Hp)(Q:VK)(_:XK):Prop|mk (ra da:Nat) (rs:List Nat) (R:Rows) (e:xV) (m:Int) (_:vs= [.ref ra,.ref da]) (_:H da=some (.tup (xE e))) (_:qU e m) (_:y7 H ra rs R) (_:R.length<=60) (_:Bk.qR R) (_:(∀r∈R,r.copies.length<=1000)) (_:∀ (H':Hp)(a:Ans)(v:V)(R':Rows),aQN ra rs rs H H'->y7 H' ra rs R'->(∀S,xY R S e a R' S)->wY [] H' a v->uI H v->Q v H')
theorem qU.at1{e:xV}{m:Int}(h:qU e m):(xE e)[1]? =some (.int m):=by
 rcases h with rfl|⟨d,rfl⟩|⟨d,rfl⟩|⟨d,rfl⟩|⟨d,rfl⟩|rfl<;> rfl
theorem qU.no{e:xV}{m:Int}{R:Rows}(h:qU e m)(g:Bk.wI R m=false)(S:List Int):xY R S e (.txt "no letter") R S:=by
 refine .oneN g ?_;rcases h with rfl|⟨d,rfl⟩|⟨d,rfl⟩|⟨d,rfl⟩|⟨d,rfl⟩|rfl<;> simp
section
variable {K:bYk}
theorem bVv:yM ["_law_rows","_law_deed","_law_one","_law_numbers","_law_k","_law_row"] ["_law_rows","_law_deed"] (yH bVh):=scM
theorem bJU(T:vI mg)(W:FnG P w K mg base 2 "_law_good" ["_law_rows","_law_number"] Z4)(M:FnG P w K mg base 2 "_law_dated" ["_law_rows","_law_number","_law_date"] aY9)(U:FnG P w K mg base 2 "_law_lost" ["_law_rows","_law_number"] bZW) (G:FnG P w K mg base 2 "_law_family" ["_law_rows","_law_number"] J8) (F:Fun K "_law_with_one" "_law_with_one" bVh f fd):y8 P w K mg base CX0 3 f fd ["_law_rows","_law_deed"] bQl:=by
 have sc:=bVv;refine F.ok (k:=2) sc (λc4 A outer s H vs Q E hr h=>?_);obtain⟨X,l,rs,R,e,m,rfl,n,D,y,hR,a7,a4,q⟩:=h;refine⟨_,(yC (y6 (uC (x6 (xK W hr rfl (yA (pv 0) (yA (yL yX (pv 1) yE) yD))))) (yF (yP yO)) yR) (yC (yT (i:=2) (yL yK (pv 0) (yL yX (pv 1) yE))) (yC (y6 (yN x9 (yL yX (pv 1) yE) yO) (yF (yP (xK M hr rfl (yA (pv 0) (yA (yL yX (pv 1) yE) (yA (yL yX (pv 1) yE) yD)))))) yR) (yC (y6 (yN x9 (yL yX (pv 1) yE) yO) (yF (yP (xK U hr rfl (yA (pv 0) (yA (yL yX (pv 1) yE) yD))))) yR) (yC (y6 (yN x9 (yL yX (pv 1) yE) yO) (yC (y6 (yN aVh (yL yK (pv 2) yE) zB) (yF (yP yO)) yR) (yC (vP zB (qO (pv 2) yE zR)) (yF (yP yO)))) yR) (yC (y6 (yN x9 (yL yX (pv 1) yE) yO) (yC (y6 (yN vF (yL yX (pv 1) yE) yE) (yF (yP yO)) yR) (yC (vP (yL yX (pv 1) yE) (qO (pv 2) yE zR)) (yF (yP yO)))) yR) (yC (y6 (yN x9 (yL yX (pv 1) yE) yO) (yC (y6 (PW.pt (W0 (yN x9 (yL yX (pv 1) yE) (yL yK (pv 2) yE)) (jN (yN wT (yL yX (pv 1) yE) (yL yK (pv 2) yE))))) (yF (yP yO)) yR) (yC (vP (yV aYf (yL yK (pv 2) yE) (y3 (yA (yL yX (pv 1) yE) yD))) (qO (pv 2) yE zR)) (yF (yP (yU yQ rfl T.b_len xD (yA (yL yK (pv 2) yE) yD)))))) yR) (yC (yT (i:=3) (xK G hr rfl (yA (pv 0) (yA (yL yX (pv 1) yE) yD)))) (yC (wE cQd rfl (xI (pv 3)) (y9 (i:=4)) (yC (yT (i:=5) (yL yK (pv 0) (pv 4))) (yF (vP (yL yX (pv 1) yE) (qO (pv 5) yE zR))))) (yF (yP (yU yQ rfl T.b_len xD (yA (pv 3) yD))))))))))))),?_⟩;have b7:aQN X rs rs H H:=(But.of y.dom (xA.refl _)).step;have txt:∀ {x:Str},(∀S,xY R S e (.txt x) R S)->Q (.str x) H:=λ{x} dn=>q H (.txt x) _ R b7 y dn rfl (λ_ z=>nomatch z);refine⟨_,rfl,_,rfl,l,_,1,_,rfl,rfl,SqT.of n,yS (j:=1) D.at1,X,rs,R,m,rfl,y,_,rfl,?_⟩;cases h1:Bk.wI R m with
 |false=>exact onT rfl (txt λS=>D.no h1 S)
 |true=>
 obtain⟨i,r,rfl,a9,u,C⟩:=Bk.z6 h1;obtain⟨b,g1,g2,cp,O,g4⟩:=y.get u;refine onF rfl ⟨_,rfl,_,rfl,l,_,1,_,rfl,rfl,SqT.of n,yS (j:=1) D.at1,X,_,_,_,rfl,rfl,SqL.of y.lst,yS g1,?_⟩;dsimp only[yW];have b0:∀j,r.link=some j->j<R.length:=λj hj=>by obtain⟨p,hp,_⟩:=a7.ans i j r u hj;exact(bYu.mp hp).1
 have up:∀ {x:Str} (g:Row->Row),(∀r,(g r).copies=r.copies)->(∀S,xY R S e (.txt x) (Bk.xJ R i g) S)->Q (.str x) (upd H b (.lst (uR (g r) cp))):=λ{x} g hg dn=>
  q _ (.txt x) _ _ (But.upd (l':=uR (g r) cp) y.dom g2 O rfl).step (y.upd g2 u g (by rw[hg];exact g4)) dn rfl (λ_ z=>nomatch z)
 rcases D with rfl|⟨d,rfl⟩|⟨t,rfl⟩|⟨o,rfl⟩|⟨Y,rfl⟩|rfl
 ·refine⟨_,rfl,l,_,0,_,rfl,rfl,SqT.of n,rfl,rfl,_,rfl,onF (by decide) ⟨_,rfl,l,_,0,_,rfl,rfl,SqT.of n,rfl,rfl,_,rfl,onF (by decide) ⟨_,rfl,l,_,0,_,rfl,rfl,SqT.of n,rfl,rfl,_,rfl,onT (by decide) ⟨_,rfl,b,_,4,_,rfl,rfl,SqL.of O,rfl,rfl,_,rfl,?_⟩⟩⟩⟩;cases b1:r.link with
  |none=>exact onT rfl (txt λS=> .looseN u C b1)
  |some j=>refine onF rfl ⟨_,rfl,b,_,4,4,rfl,rfl,O,rfl,?_⟩;exact up (λr=>{r with link:=none}) (λ_=>rfl) λS=> .loose u C (by rw[b1];simp)
 ·refine⟨_,rfl,l,_,0,_,rfl,rfl,SqT.of n,rfl,rfl,_,rfl,onT (by decide) ⟨_,rfl,_,rfl,l,_,1,_,rfl,rfl,SqT.of n,rfl,_,rfl,l,_,2,_,rfl,rfl,SqT.of n,rfl,X,rs,R,i,r,d,rfl,y,by omega,u,b0,λH' a R' J a0 N=>?_⟩⟩;refine q H' (.txt a) _ R' J.step a0 (λS=>?_) rfl (λ_ z=>nomatch z);rcases N with⟨Z,rfl,rfl⟩|⟨Z,rfl,rfl⟩
  ·exact .dateE u C Z
  ·refine .date u C (λj hj=>?_) (λc N=>?_)
   ·exact cX6.mp λz=>Z (.inl ⟨j,hj,z⟩)
   ·exact cX6.mp λz=>Z (.inr ⟨c,N,z⟩)
 ·refine⟨_,rfl,l,_,0,_,rfl,rfl,SqT.of n,rfl,rfl,_,rfl,onF (by decide) ⟨_,rfl,l,_,0,_,rfl,rfl,SqT.of n,rfl,rfl,_,rfl,onF (by decide) ⟨_,rfl,l,_,0,_,rfl,rfl,SqT.of n,rfl,rfl,_,rfl,onF (by decide) ⟨_,rfl,l,_,0,_,rfl,rfl,SqT.of n,rfl,rfl,_,rfl,onT (by decide) ⟨_,rfl,l,_,2,_,rfl,rfl,SqT.of n,rfl,_,_,rfl,rfl,_,rfl,?_⟩⟩⟩⟩⟩;refine qD (λc=>?_) (λc=>?_)
  ·exact txt λS=> .termN u C (of_decide_eq_true c)
  ·refine⟨_,rfl,l,_,2,_,rfl,rfl,SqT.of n,rfl,_,rfl,b,_,3,3,rfl,rfl,O,rfl,?_⟩;exact up (λr=>{r with term:=t}) (λ_=>rfl) λS=> .term u C (by have:=of_decide_eq_false (Bool.eq_false_iff.mpr c);omega)
 ·refine⟨_,rfl,l,_,0,_,rfl,rfl,SqT.of n,rfl,rfl,_,rfl,onF (by decide) ⟨_,rfl,l,_,0,_,rfl,rfl,SqT.of n,rfl,rfl,_,rfl,onF (by decide) ⟨_,rfl,l,_,0,_,rfl,rfl,SqT.of n,rfl,rfl,_,rfl,onF (by decide) ⟨_,rfl,l,_,0,_,rfl,rfl,SqT.of n,rfl,rfl,_,rfl,onF (by decide) ⟨_,rfl,l,_,0,_,rfl,rfl,SqT.of n,rfl,rfl,_,rfl,onT (by decide) ⟨_,rfl,l,_,2,_,rfl,rfl,SqT.of n,rfl,_,rfl,b,_,2,_,rfl,rfl,SqL.of O,rfl,rfl,_,rfl,?_⟩⟩⟩⟩⟩⟩;rw[wO];cases a8:decide (o=r.partner)with
  |true=>exact onT rfl (onT rfl (txt λS=> .copyC u C (.inl (of_decide_eq_true a8))))
  |false=>
  refine onF rfl ⟨_,rfl,l,_,2,_,rfl,rfl,SqT.of n,rfl,_,rfl,b,_,7,_,rfl,rfl,SqL.of O,rfl,cp,_,rfl,.inl (SqL.of g4),rfl,cZq.mpr (λv C=>by obtain⟨x,_,rfl⟩:=cQm.mp C;rfl),?_⟩;rw[if_neg (by decide),wJ];refine⟨_,rfl,?_⟩;cases a6:r.copies.contains o with
  |true=>exact onT rfl (txt λS=> .copyC u C (.inr (by simpa using a6)))
  |false=>
  have c1:r.copies.length<=1000:=a4 r (bYA u);refine onF rfl ⟨_,rfl,b,_,7,_,rfl,rfl,SqL.of O,rfl,_,rfl,l,_,2,_,rfl,rfl,SqT.of n,rfl,z1,λl1 b3=>?_⟩;have k1:=yG b3 (.lst [.str o]);refine⟨cp,l1,_,_,rfl,rfl,k1 _ _ g4,yB,by rw[bYo,bYR];simp;omega,λc2 B=>?_⟩;have a1:=aZ1 (y.same k1) g2 u (k1 _ _ O) (r.copies++ [o]) B;have e5:r.copies.map V.str++ [V.str o]=(r.copies++ [o]).map V.str:=by simp
  rw[e5];have k2:=yG B (.lst ((r.copies++ [o]).map V.str));have b8:c2≠b:=λz=>by rw[z,k1 _ _ O]at B;cases B
  refine⟨_,rfl,b,_,7,7,rfl,rfl,k2 _ _ (k1 _ _ O),rfl,?_⟩;refine⟨_,rfl,b,_,7,_,rfl,rfl,SqL.of yB,rfl,c2,(r.copies++ [o]).map V.str,rfl,.inl (SqL.of (by rw[yI b8];exact yB)),?_⟩;have en:(((((r.copies++ [o]).map V.str).length:Nat)):Int)=(r.copies.length+1:Nat):=by simp
  rw[en];have hE:Bk.xJ R i (λq=>{q with copies:=r.copies++ [o] })=Bk.xJ R i (λq=>{q with copies:=q.copies++ [o] }):=by unfold Bk.xJ;rw[u]
  rw[hE]at a1;exact q _ (.num _) _ _ (a1.2.pre y.dom k1) a1.1 (λS=> .copy u C (of_decide_eq_false a8) (by simpa using a6)) rfl (λ_ z=>nomatch z)
 ·obtain⟨rk,ok⟩:=a7.tree;refine⟨_,rfl,l,_,0,_,rfl,rfl,SqT.of n,rfl,rfl,_,rfl,onF (by decide) ⟨_,rfl,l,_,0,_,rfl,rfl,SqT.of n,rfl,rfl,_,rfl,onF (by decide) ⟨_,rfl,l,_,0,_,rfl,rfl,SqT.of n,rfl,rfl,_,rfl,onF (by decide) ⟨_,rfl,l,_,0,_,rfl,rfl,SqT.of n,rfl,rfl,_,rfl,onF (by decide) ⟨_,rfl,l,_,0,_,rfl,rfl,SqT.of n,rfl,rfl,_,rfl,onF (by decide) ⟨_,rfl,_,rfl,l,_,1,_,rfl,rfl,SqT.of n,rfl,X,rs,R.length,Bk.lk R,rk,Bk.dt R,i,rfl,y.rows,ok,hR,a9,λH2 l2 c0 k2 c3 a2 b5 a3=>?_⟩⟩⟩⟩⟩⟩;have b2:=Bk.aZP a9 ⟨rk,ok,b5,a3⟩;subst b2;dsimp only[yW];have a5:=y.same k2;have b6:H2 l=some (.tup [.str "file",.int (i:Nat),.str Y]):=k2 _ _ n;have b4:=y.tupNo n;refine⟨_,rfl,l2,rfl,⟨_,SqL.of a2⟩,?_⟩;refine zK (xs:=(Bk.thr R i).map λi=>V.int (i:Nat)) (λt σ H3=>∃o5 o6:Option V,σ= [some (.ref X),some (.ref l),some (.ref b),some (.ref l2),o5,o6]/\y7 H3 X rs (Bk.laid R ((Bk.thr R i).take t) Y)/\But rs H2 H3/\H3 l2=some (.lst ((Bk.thr R i).map λi=>V.int (i:Nat)))) ?_ ?_ ?_ ?_
  ·exact⟨none,none,rfl,a5,But.of a5.dom (xA.refl _),a2⟩
  ·rintro t σ H3 ht ⟨o5,o6,rfl,I,k3,L⟩;exact SqL.of L
  ·rintro t x σ H3 hx ⟨o5,o6,rfl,I,k3,L⟩;rw[bYC]at hx;cases N:(Bk.thr R i)[t]? with
   |none=>rw[N]at hx;cases hx
   |some k=>rw[N]at hx;cases hx;have b9:k<R.length:=((a3 k).mp (bYA N)).1;obtain⟨bk,ck,c5,e1,e2,e3,e4,e5,e6⟩:=aVb (K:=K) I N b9 L;dsimp only[yW];refine⟨_,rfl,_,rfl,X,_,_,_,rfl,rfl,SqL.of I.lst,yS e1,?_⟩;dsimp only[yW];exact⟨_,rfl,l,_,2,_,rfl,rfl,SqT.of (k3.1 _ _ b4 b6),rfl,_,rfl,bk,_,5,5,rfl,rfl,e2,rfl,_,_,rfl,e3,k3.trans e4,e5⟩
  ·rintro σ H3 ⟨o5,o6,rfl,I,k3,L⟩;rw[bYo,cQn]at I;refine⟨_,rfl,l2,_,rfl,.inl (SqL.of L),?_⟩;rw[bYo];exact q _ (.num _) _ _ (((But.of y.dom k2).trans k3).step) I (λS=> .file u C) rfl (λ_ z=>nomatch z)
 ·refine⟨_,rfl,l,_,0,_,rfl,rfl,SqT.of n,rfl,rfl,_,rfl,onF (by decide) ⟨_,rfl,l,_,0,_,rfl,rfl,SqT.of n,rfl,rfl,_,rfl,onT (by decide) ⟨_,rfl,_,rfl,l,_,1,_,rfl,rfl,SqT.of n,rfl,X,rs,R,i,r,rfl,y,by omega,u,λH' a R' J a0 N=>?_⟩⟩⟩;refine q H' (.txt a) _ R' J.step a0 (λS=>?_) rfl (λ_ z=>nomatch z);rcases N with⟨Z,rfl,rfl⟩|⟨Z,rfl,rfl⟩
  ·exact .voidA u C Z
  ·exact .void u C Z
end
end Law
namespace Law
open PySem L2 PyProof.Rows
open Bk (Row Rows xY xV Ans)
open Desk (xE wY uI Wf wJ stV)
abbrev aYJ:Stmt:=xF "_law_told_of"
def aKa(e:xV):Prop:=(∃m,e= .state m)\/(∃m,e= .thread m)\/(∃m,e= .copies m)\/(∃w,e= .letters w)\/∃a d,e= .on a d
inductive bQi(vs:List V)(H:Hp)(Q:VK)(_:XK):Prop|mk (ra sa da:Nat) (rs:List Nat) (R:Rows) (S:List Int) (e:xV) (_:vs= [.ref ra,.ref sa,.ref da]) (_:H da=some (.tup (xE e))) (_:aKa e) (_:y7 H ra rs R) (_:H sa=some (.lst (S.map V.int))) (_:R.length<=60) (_:Bk.qR R) (_:∀ (H':Hp)(a:Ans)(v:V),xA H H'->xY R S e a R S->wY [] H' a v->uI H v->Q v H')
theorem vD:bY3 "list"=some (.type "list"):=dk
theorem vU:bY3 "tuple"=some (.type "tuple"):=dk
section
variable {K:bYk}
theorem bVt:yM ["_law_rows","_law_shut","_law_deed","_law_here"] ["_law_rows","_law_shut","_law_deed"] (yH aYJ):=scM
theorem bQZ:xH ["_law_rows","_law_shut","_law_deed","_law_here"] (yH aYJ) "_law_k" ["_law_rows"] [0] (lsN [(".0",.local),("_law_k",.local),("_law_rows",.free)]):=
 lcM
theorem bQ0:xH ["_law_rows","_law_shut","_law_deed","_law_here"] (yH aYJ) "_law_k" ["_law_deed","_law_rows"] [2,0] (lsN [(".0",.local),("_law_k",.local),("_law_deed",.free),("_law_rows",.free)]):=
 lcM
def X6(R:Rows)(w:Str):V->Bool
 |.int n=>match R[n.toNat]? with|some r=>decide (r.place=w)|none=>false
 |_=>false
theorem bJS(T:vI mg)(a2:mg "list"=none)(a4:mg "tuple"=none)(W:FnG P w K mg base 2 "_law_good" ["_law_rows","_law_number"] Z4)(t:FnG P w K mg base 3 "_law_list_on" ["_law_rows","_law_shut","_law_date","_law_late"] aVF) (G:FnG P w K mg base 2 "_law_family" ["_law_rows","_law_number"] J8) (F:Fun K "_law_told_of" "_law_told_of" aYJ f fd):y8 P w K mg base CX0 4 f fd ["_law_rows","_law_shut","_law_deed"] bQi:=by
 have sc:=bVt;refine F.ok (k:=3) sc (λc0 A outer s H vs Q E hr h=>?_);obtain⟨C,sa,g,Z,R,S,e,rfl,B,a5,L,a8,hR,b4,q⟩:=h;have a3:vK 2 _:=hr.mono (by omega);refine⟨_,(yC (y6 (yN x9 (yL yX (pv 2) yE) yO) (yC (aZy (i:=3) bQZ rfl sc.nd rfl rfl (zP rfl T.b_range (yA (yU yQ rfl T.b_len xD (yA (pv 0) yD)) yD)) (λ_ _ _ _ _=>(wN (uC (x6 (yL ixK (yL ixK (pv 1) (pv 0)) yE))))) (λ_ _ _ _ _=>(pv 0))) (yF (yP (aQn bQ0 rfl (xI (pv 3)) (λ_ _ _ _ _=>(wN (yN x9 (yL ixK (yL ixK (pv 2) (pv 0)) yE) (yL ixT (pv 1) yE)))) (λ_ _ _ _ _=>(pv 0)))))) yR) (yC (y6 (yN wT (yL yX (pv 2) yE) (y3 (yA yO (yA yO yD)))) (yF (yP (xK t hr rfl (yA (pv 0) (yA (pv 1) (yA (yL yX (pv 2) yE) (yA (zI x9 (yL yX (pv 2) yE) yO) yD))))))) yR) (yC (y6 (uC (x6 (xK W a3 rfl (yA (pv 0) (yA (yL yX (pv 2) yE) yD))))) (yF (yP yO)) yR) (yC (y6 (yN x9 (yL yX (pv 2) yE) yO) (yF (yP (xK G a3 rfl (yA (pv 0) (yA (yL yX (pv 2) yE) yD))))) yR) (yC (y6 (yN x9 (yL yX (pv 2) yE) yO) (yF (yP (xT vB rfl a2 vD (yA (yL yK (yL yK (pv 0) (yL yX (pv 2) yE)) yE) yD)))) yR) (yF (yP (xT qG rfl a4 vU (yA (aXt aJU (yL yK (pv 0) (yL yX (pv 2) yE)) aJx (aJy yE)) yD))))))))),?_⟩;have txt:∀ {y:Hp} {x:Str},xA H y->xY R S e (.txt x) R S->Q (.str x) y:=λ{y x} k dn=>q y (.txt x) _ k dn rfl (λ_ z=>nomatch z);have one:∀ {m:Int} {x:Str},xE e= [.str x,.int m]->True:=λ_=>trivial;rcases a5 with⟨m,rfl⟩|⟨m,rfl⟩|⟨m,rfl⟩|⟨j,rfl⟩|⟨o,d,rfl⟩
 ·refine⟨_,rfl,g,_,0,_,rfl,rfl,SqT.of B,rfl,rfl,_,rfl,onF (by decide) ?_⟩;refine⟨_,rfl,g,_,0,_,rfl,rfl,SqT.of B,rfl,z2,λJ u=>⟨J,_,rfl,.inl (SqL.of yB),rfl,rfl,_,rfl,onF (by decide) ?_⟩⟩;have n:=yG u (.lst [.str "waiting",.str "overdue"]);generalize upd H J (.lst [.str "waiting",.str "overdue"])=H1 at n ⊢;have a:H1 g=some (.tup [.str "state",.int m]):=n _ _ B;have c:=L.same n;refine⟨_,rfl,_,rfl,g,_,1,_,rfl,rfl,SqT.of a,rfl,C,Z,R,m,rfl,c,_,rfl,?_⟩;cases X:Bk.wI R m with
  |false=>exact onT rfl (txt n (.oneN X (by simp)))
  |true=>
  obtain⟨i,r,rfl,U,hi,N⟩:=Bk.z6 X;obtain⟨b,g1,g2,cp,O,g4⟩:=c.get hi;refine onF rfl ⟨_,rfl,g,_,0,_,rfl,rfl,SqT.of a,rfl,rfl,_,rfl,onF (by decide) ⟨_,rfl,g,_,0,_,rfl,rfl,SqT.of a,rfl,rfl,_,rfl,onF (by decide) ?_⟩⟩;refine⟨_,rfl,_,rfl,g,_,1,_,rfl,rfl,SqT.of a,rfl,C,_,_,_,rfl,rfl,SqL.of c.lst,yS g1,_,rfl,b,_,rfl,SqL.of O,λp2 M=>⟨p2,_,rfl,.inl ⟨SqL.of yB,λp3 a6=>?_⟩⟩⟩;have a9:aXh (uR r cp) none (some 6)=stV r:=by unfold stV Desk.W1 Desk.qZ;rw[N];cases b7:r.link<;> (unfold uR;rw[b7];rfl)
  have k2:=yG M (.lst (aXh (uR r cp) none (some 6)));have k3:=yG a6 (.tup (aXh (uR r cp) none (some 6)));exact q _ (.row r) _ ((n.trans k2).trans k3) (.state hi N) ⟨p3,rfl,by simp,by rw[<- a9];exact yB⟩ (.none ((n.trans k2).fresh a6))
 ·refine⟨_,rfl,g,_,0,_,rfl,rfl,SqT.of B,rfl,rfl,_,rfl,onF (by decide) ?_⟩;refine⟨_,rfl,g,_,0,_,rfl,rfl,SqT.of B,rfl,z2,λJ u=>⟨J,_,rfl,.inl (SqL.of yB),rfl,rfl,_,rfl,onF (by decide) ?_⟩⟩;have n:=yG u (.lst [.str "waiting",.str "overdue"]);generalize upd H J (.lst [.str "waiting",.str "overdue"])=H1 at n ⊢;have a:H1 g=some (.tup [.str "thread",.int m]):=n _ _ B;have c:=L.same n;refine⟨_,rfl,_,rfl,g,_,1,_,rfl,rfl,SqT.of a,rfl,C,Z,R,m,rfl,c,_,rfl,?_⟩;cases X:Bk.wI R m with
  |false=>exact onT rfl (txt n (.oneN X (by simp)))
  |true=>
  obtain⟨i,r,rfl,U,hi,N⟩:=Bk.z6 X;obtain⟨rk,ok⟩:=b4.tree;refine onF rfl ⟨_,rfl,g,_,0,_,rfl,rfl,SqT.of a,rfl,rfl,_,rfl,onT (by decide) ?_⟩;refine⟨_,rfl,_,rfl,g,_,1,_,rfl,rfl,SqT.of a,rfl,C,Z,R.length,Bk.lk R,rk,Bk.dt R,i,rfl,c.rows,ok,hR,U,λH2 l2 b9 k2 b3 a7 b8 b1=>?_⟩;have b2:=Bk.aZP U ⟨rk,ok,b8,b1⟩;subst b2;exact q _ (.nums (Bk.thr R i)) _ (n.trans k2) (.thread hi N) ⟨l2,rfl,by simp,a7⟩ (.none (n.fresh b3))
 ·refine⟨_,rfl,g,_,0,_,rfl,rfl,SqT.of B,rfl,rfl,_,rfl,onF (by decide) ?_⟩;refine⟨_,rfl,g,_,0,_,rfl,rfl,SqT.of B,rfl,z2,λJ u=>⟨J,_,rfl,.inl (SqL.of yB),rfl,rfl,_,rfl,onF (by decide) ?_⟩⟩;have n:=yG u (.lst [.str "waiting",.str "overdue"]);generalize upd H J (.lst [.str "waiting",.str "overdue"])=H1 at n ⊢;have a:H1 g=some (.tup [.str "copies",.int m]):=n _ _ B;have c:=L.same n;refine⟨_,rfl,_,rfl,g,_,1,_,rfl,rfl,SqT.of a,rfl,C,Z,R,m,rfl,c,_,rfl,?_⟩;cases X:Bk.wI R m with
  |false=>exact onT rfl (txt n (.oneN X (by simp)))
  |true=>
  obtain⟨i,r,rfl,U,hi,N⟩:=Bk.z6 X;obtain⟨b,g1,g2,cp,O,g4⟩:=c.get hi;refine onF rfl ⟨_,rfl,g,_,0,_,rfl,rfl,SqT.of a,rfl,rfl,_,rfl,onF (by decide) ⟨_,rfl,g,_,0,_,rfl,rfl,SqT.of a,rfl,rfl,_,rfl,onT (by decide) ?_⟩⟩;refine⟨_,rfl,_,rfl,g,_,1,_,rfl,rfl,SqT.of a,rfl,C,_,_,_,rfl,rfl,SqL.of c.lst,yS g1,b,_,7,_,rfl,rfl,SqL.of O,rfl,cp,_,rfl,.inl (SqL.of g4),λp2 M=>?_⟩;have k2:=yG M (.lst (r.copies.map V.str));exact q _ (.txts r.copies) _ (n.trans k2) (.copies hi N) ⟨p2,rfl,by simp,yB⟩ (.none (n.fresh M))
 ·have b0:H g=some (.tup [.str "letters",.str j]):=B;refine⟨_,rfl,g,_,0,_,rfl,rfl,SqT.of B,rfl,rfl,_,rfl,onT (by decide) ?_⟩;have hl:(Z.map V.ref).length=R.length:=by rw[bYo];exact L.len
  refine⟨_,rfl,C,_,rfl,.inl (SqL.of L.lst),?_⟩;rw[hl];refine⟨_,rfl,by omega,by omega,λD hD=>?_⟩;rw[bYU];refine W5 (λk=>match R[k]? with|some r=> !r.void|none=>false) (λk=>V.int (k:Nat)) hD (by rw[bYR];omega) (λk I y R' Y p=>?_) (λk I _ y R' Y p=>⟨_,rfl,p⟩) ?_
  ·obtain⟨b,g1,g2,cp,O,g4⟩:=L.get (bYh I);have a0:y C=some (.lst (Z.map V.ref)):=by rw[Y C (yJ L.lst hD)];exact L.lst
   have hb:y b=_:=(Y b (yJ O hD)).trans O;rw[bYh I]at p;exact⟨_,rfl,_,rfl,C,_,_,_,rfl,rfl,SqL.of a0,yS g1,b,_,6,_,rfl,rfl,SqL.of hb,rfl,_,rfl,p⟩
  have k1:=yG hD (.lst (((bYv R.length).filter λk=>match R[k]? with|some r=> !r.void|none=>false).map λk=>V.int (k:Nat)));have a1:upd H D (.lst (((bYv R.length).filter λk=>match R[k]? with|some r=> !r.void|none=>false).map λk=>V.int (k:Nat))) D=some (.lst (((bYv R.length).filter λk=>match R[k]? with|some r=> !r.void|none=>false).map λk=>V.int (k:Nat))):=yB;generalize upd H D (.lst (((bYv R.length).filter λk=>match R[k]? with|some r=> !r.void|none=>false).map λk=>V.int (k:Nat)))=H1 at k1 a1 ⊢;have c:=L.same k1;have a:=k1 _ _ b0;dsimp only[yW];refine⟨_,rfl,D,rfl,⟨_,SqL.of a1⟩,λE hE=>?_⟩;refine aZk (X6 R j) id (SqL.of a1) hE ?_ (λv N y R' Y p=>?_) (λv N _ y R' Y p=>⟨_,rfl,p⟩) ?_
  ·rw[bYo,bYR];have:=cQf (λk=>match R[k]? with|some r=> !r.void|none=>false) (bYv R.length);rw[bY8]at this;omega
  ·obtain⟨k,I,rfl⟩:=cQm.mp N;have I:k<R.length:=bYO.mp (cQl.mp I).1;obtain⟨b,g1,g2,cp,O,g4⟩:=c.get (bYh I);have a0:y C=some (.lst (Z.map V.ref)):=by rw[Y C (yJ c.lst hE)];exact c.lst
   have hb:y b=_:=(Y b (yJ O hE)).trans O;have b6:y g=_:=(Y g (yJ a hE)).trans a;have e1:X6 R j (V.int (k:Nat))=decide (R[k].place=j):=by show(match R[((k:Nat):Int).toNat]? with|some r=>decide (r.place=j)|none=>false)=_;rw[bYU,bYh I]
   rw[e1]at p;refine⟨_,rfl,_,rfl,C,_,_,_,rfl,rfl,SqL.of a0,yS g1,b,_,5,_,rfl,rfl,SqL.of hb,rfl,_,rfl,g,_,1,_,rfl,rfl,SqT.of b6,rfl,rfl,_,rfl,?_⟩;rw[wO];exact p
  ·have ef:(((((bYv R.length).filter λk=>match R[k]? with|some r=> !r.void|none=>false).map λk=>V.int (k:Nat)).filter (X6 R j)).map id)=((bYv R.length).filter λk=>match R[k]? with|some r=> !r.void && decide (r.place=j)|none=>false).map λk=>V.int (k:Nat):=by
    rw[List.map_id,List.filter_map,List.filter_filter];congr 1;refine cJs λk I=>?_;have I:k<R.length:=bYO.mp I;show(X6 R j (V.int (k:Nat)) && _)=_;show((match R[((k:Nat):Int).toNat]? with|some r=>decide (r.place=j)|none=>false) && _)=_;rw[bYU,bYh I];exact Bool.and_comm _ _
   rw[ef];exact q _ (.nums _) _ (k1.trans (yG hE _)) .letters ⟨E,rfl,by simp,yB⟩ (.none (k1.fresh hE))
 ·refine⟨_,rfl,g,_,0,_,rfl,rfl,SqT.of B,rfl,rfl,_,rfl,onF (by cases o<;> decide) ?_⟩;refine⟨_,rfl,g,_,0,_,rfl,rfl,SqT.of B,rfl,z2,λJ u=>⟨J,_,rfl,.inl (SqL.of yB),rfl,rfl,_,rfl,onT (by cases o<;> decide) ?_⟩⟩;have n:=yG u (.lst [.str "waiting",.str "overdue"]);generalize upd H J (.lst [.str "waiting",.str "overdue"])=H1 at n ⊢;have a:H1 g=some (.tup [.str (if o then "overdue" else "waiting"),.int d]):=n _ _ B;have c:=L.same n;have e1:decide (V.str (if o then "overdue" else "waiting")=V.str "overdue")=o:=by cases o<;> decide
  refine⟨_,rfl,_,rfl,_,rfl,g,_,1,_,rfl,rfl,SqT.of a,rfl,_,rfl,g,_,0,_,rfl,rfl,SqT.of a,rfl,rfl,?_⟩;rw[e1];refine⟨C,sa,Z,R,S,d,o,rfl,c,n _ _ a8,by omega,λr y l k nl hl b5=>?_⟩;exact q _ (.nums l) _ (n.trans k) (.on b5) ⟨r,rfl,by simp,hl⟩ (.none (n.fresh nl))
end
end Law
namespace Law
open PySem L2 PyProof.Rows
open Bk (Row Rows xY xV Ans)
open Desk (xE wY uI Wf wJ stV)
abbrev bJ5:Stmt:=xF "_law_done_by"
structure LBk(H:Hp)(ra sa:Nat)(rs:List Nat)(R:Rows)(S:List Int):Prop where
 book:y7 H ra rs R
 shut:H sa=some (.lst (S.map V.int))
 ne:sa≠ra
 no:sa∉rs
 noC:NoC rs H sa
def aXS(e sa:Nat)(c a:List Nat)(H d:Hp):Prop:=(∀x o,x≠sa->x≠e->x∉c->H x=some o->d x=some o)/\(∀b∈a,b∈c\/H b=none)/\∀s u,H s=some u->NoC c H s->NoC a d s
theorem LBk.same{H b:Hp}{a sa:Nat}{c:List Nat}{R:Rows}{S:List Int}(h:LBk H a sa c R S)(k:xA H b):LBk b a sa c R S:=
 ⟨h.book.same k,k _ _ h.shut,h.ne,h.no,(But.of h.book.dom k).2.2 sa _ h.shut h.noC⟩
theorem LBk.step{H c:Hp}{b sa:Nat}{d a:List Nat}{R f:Rows}{S:List Int}(h:LBk H b sa d R S)(k:aQN b d a H c)(j:y7 c b a f):LBk c b sa a f S/\aXS b sa d a H c:=
 ⟨⟨j,k.1 sa _ (λz=>(bYr.mp z).elim h.ne h.no) h.shut,h.ne,λz=>(k.2.1 sa z).elim h.no (λy=>by have:=h.shut;rw[y]at this;cases this),k.2.2 sa _ h.shut h.noC⟩,λx o _ i g e=>k.1 x o (λz=>(bYr.mp z).elim i g) e,k.2.1,k.2.2⟩
theorem LBk.put{H:Hp}{g sa:Nat}{f:List Nat}{R:Rows}{S:List Int}(h:LBk H g sa f R S)(d:Int):LBk (upd H sa (.lst ((S++ [d]).map V.int))) g sa f R (S++ [d])/\aXS g sa f f H (upd H sa (.lst ((S++ [d]).map V.int))):=by
 refine⟨⟨⟨by rw[yI (bY0 h.ne)];exact h.book.lst,h.book.len,h.book.nd,λi b r a q=>?_⟩,yB,h.ne,h.no,λb a l c=>?_⟩,λx o n _ _ e=>by rw[yI n];exact e,λb a=> .inl a,λs u e n b a l c=>n b a l (by rw[yI (λz=>h.no (by rw[<- z];exact a))]at c;exact c)⟩
 ·obtain⟨k,j,t⟩:=h.book.row i b r a q;have p:b≠sa:=λz=>h.no (by rw[<- z];exact bYA a);have m:k≠sa:=λz=>h.noC b (bYA a) _ j (by rw[<- z];rfl);exact⟨k,by rw[yI p];exact j,by rw[yI m];exact t⟩
 ·rw[yI (λz=>h.no (by rw[<- z];exact a))]at c;exact h.noC b a l c
inductive aXa(vs:List V)(H:Hp)(Q:VK)(_:XK):Prop|mk (ra sa da:Nat) (rs:List Nat) (R:Rows) (S:List Int) (e:xV) (_:vs= [.ref ra,.ref sa,.ref da]) (_:H da=some (.tup (xE e))) (_:Wf e) (_:LBk H ra sa rs R S) (_:R.length<=60) (_:S.length<=60) (_:Bk.qR R) (_:(∀r∈R,r.copies.length<=1000)) (_:∀ (H':Hp)(a:Ans)(v:V)(R':Rows)(S':List Int)(rs':List Nat),aXS ra sa rs rs' H H'->LBk H' ra sa rs' R' S'->xY R S e a R' S'->wY [] H' a v->uI H v->Q v H')
theorem uI.pre{H a:Hp}(k:xA H a){v:V}(h:uI a v):uI H v:=λp e u b z=>h p e u b (k _ _ z)
theorem aXS.pre{f sa:Nat}{c a:List Nat}{H g d:Hp}(i:∀b∈c,∃o,H b=some o)(k:xA H g)(s:aXS f sa c a g d):aXS f sa c a H d:=
 ⟨λx o m j l e=>s.1 x o m j l (k _ _ e),λb h=>(s.2.1 b h).imp id λz=>k.fresh z,λx u e n=>s.2.2 x u (k _ _ e) ((But.of i k).2.2 x u e n)⟩
section
variable {K:bYk}
theorem bVi:yM ["_law_rows","_law_shut","_law_deed"] ["_law_rows","_law_shut","_law_deed"] (yH bJ5):=scM
theorem bJG(y:FnG P w K mg base 4 "_law_entered" ["_law_rows","_law_deed"] aQG)(L:FnG P w K mg base 4 "_law_hung" ["_law_rows","_law_number","_law_goal"] bZV) (u:FnG P w K mg base 4 "_law_told_of" ["_law_rows","_law_shut","_law_deed"] bQi) (r:FnG P w K mg base 4 "_law_with_one" ["_law_rows","_law_deed"] bQl) (F:Fun K "_law_done_by" "_law_done_by" bJ5 f fd):y8 P w K mg base CX0 5 f fd ["_law_rows","_law_shut","_law_deed"] aXa:=by
 have sc:=bVi;refine F.ok (k:=4) sc (λa6 A outer s H vs Q E hr h=>?_);obtain⟨U,sa,g,J,R,S,e,rfl,hd,a1,I,hR,hS,O,a0,q⟩:=h;refine⟨_,(yC (y6 (yN wT (yL yX (pv 2) yE) (y3 (yA yO (yA yO (yA yO yD))))) (yF (yP (xK y hr rfl (yA (pv 0) (yA (pv 2) yD))))) yR) (yC (y6 (yN x9 (yL yX (pv 2) yE) yO) (yF (yP (xK L hr rfl (yA (pv 0) (yA (yL yX (pv 2) yE) (yA (yL yX (pv 2) yE) yD)))))) yR) (yC (y6 (yN x9 (yL yX (pv 2) yE) yO) (yC (y6 (PW.pt (W0 (yN aQW (yV y0 (yL yX (pv 2) yE) yE) yE) (jN (yN wT (yL yX (pv 2) yE) (pv 1))))) (yF (yP yO)) yR) (yC (yY (uG bYS bYY bYZ xG (pv 1) (yA (yL yX (pv 2) yE) yD))) (yF (yP yO)))) yR) (yC (y6 (yN wT (yL yX (pv 2) yE) (y3 (yA yO (yA yO (yA yO (yA yO (yA yO (yA yO yD)))))))) (yF (yP (xK u hr rfl (yA (pv 0) (yA (pv 1) (yA (pv 2) yD)))))) yR) (yF (yP (xK r hr rfl (yA (pv 0) (yA (pv 2) yD))))))))),?_⟩;have h0:(xE e)[0]? =some (.str (Desk.aKH e)):=by cases e<;> rfl
 refine⟨_,rfl,g,_,0,_,rfl,rfl,SqT.of hd,yS (j:=0) h0,z3,λl0 a4=>⟨l0,_,rfl,.inl (SqL.of yB),rfl,rfl,_,rfl,?_⟩⟩;have n:=yG a4 (.lst [.str "in",.str "out",.str "reply"]);generalize upd H l0 (.lst [.str "in",.str "out",.str "reply"])=H1 at n ⊢;have c:=n _ _ hd;have p:=I.same n;have Z:((∃M d W t,e= .enter M d W t)\/∃m d t,e= .reply m d t)->aQG [.ref U,.ref g] H1 Q E0:=λhf=>by refine⟨U,g,J,R,e,rfl,c,a1,hf,p.book,hR,λT a v Y a5 st G N av nv=>?_⟩;have:=p.step st G;exact q T a v Y S a5 (this.2.pre I.book.dom n) this.1 (N S) av (uI.pre n nv)
 have one:∀ {X:Hp} {m:Int},xA H X->qU e m->bQl [.ref U,.ref g] X Q E0:=λ{X m} k hf=>by have C:=I.same k;refine⟨U,g,J,R,e,m,rfl,k _ _ hd,hf,C.book,hR,O,a0,λT a v Y st G N av nv=>?_⟩;have:=C.step st G;exact q T a v Y S J (this.2.pre I.book.dom k) this.1 (N S) av (uI.pre k nv)
 have D:∀ {X:Hp},xA H X->aKa e->bQi [.ref U,.ref sa,.ref g] X Q E0:=λ{X} k hf=>by have C:=I.same k;refine⟨U,sa,g,J,R,S,e,rfl,k _ _ hd,hf,C.book,C.shut,hR,O,λT a v k2 N av nv=>?_⟩;exact q T a v R S J ⟨λx o _ _ _ e=>k2 _ _ (k _ _ e),λb hb=> .inl hb,(But.of I.book.dom (k.trans k2)).2.2⟩ (C.same k2) N av (uI.pre k nv)
 cases e with
 |enter M d W t=>have a2:M="in"\/M="out":=a1;refine onT (by rcases a2 with rfl|rfl<;> rfl) ⟨_,rfl,_,rfl,Z (.inl ⟨_,_,_,_,rfl⟩)⟩
 |reply m d t=>exact onT rfl ⟨_,rfl,_,rfl,Z (.inr ⟨_,_,_,rfl⟩)⟩
 |hang m o=>refine onF rfl ⟨_,rfl,g,_,0,_,rfl,rfl,SqT.of c,rfl,rfl,_,rfl,onT rfl ⟨_,rfl,_,rfl,g,_,1,_,rfl,rfl,SqT.of c,rfl,_,rfl,g,_,2,_,rfl,rfl,SqT.of c,rfl,?_⟩⟩;refine⟨U,J,R,m,o,rfl,p.book,hR,O.tree,λT a Y st G N=>?_⟩;have:=p.step st.step G;exact q T (.txt a) _ Y S J (this.2.pre I.book.dom n) this.1 (N S) rfl (λ_ z=>nomatch z)
 |shut d=>
  refine onF rfl ⟨_,rfl,g,_,0,_,rfl,rfl,SqT.of c,rfl,rfl,_,rfl,onF rfl ⟨_,rfl,g,_,0,_,rfl,rfl,SqT.of c,rfl,rfl,_,rfl,onT rfl ?_⟩⟩;refine⟨_,rfl,g,_,1,_,rfl,rfl,SqT.of c,rfl,_,_,rfl,rfl,(show(0:Int)<7 by decide),_,_,rfl,rfl,_,rfl,?_⟩;have no:Dm.cts S d=false->Q (.str "counts not") H1:=λh=>q H1 (.txt "counts not") _ R S J ⟨λx o _ _ _ e=>n _ _ e,λb hb=> .inl hb,(But.of I.book.dom n).2.2⟩ p (.shutN h) rfl (λ_ z=>nomatch z);cases h1:decide (d % 7 > 4)with
  |true=>exact onT rfl (onT rfl (no (by unfold Dm.cts Dm.opn;rw[decide_eq_false (by have:=of_decide_eq_true h1;omega)];rfl)))
  |false=>
  refine onF rfl ⟨_,rfl,g,_,1,_,rfl,rfl,SqT.of c,rfl,_,rfl,sa,_,rfl,.inl (SqL.of p.shut),rfl,cZq.mpr (λv hv=>by obtain⟨x,_,rfl⟩:=cQm.mp hv;rfl),?_⟩;rw[if_neg (by decide),uZ];refine⟨_,rfl,?_⟩;cases h2:S.contains d with
  |true=>exact onT rfl (no (by unfold Dm.cts;rw[h2];simp))
  |false=>
  refine onF rfl ⟨_,rfl,.inl ⟨rfl,_,SqL.of p.shut⟩,_,rfl,g,_,1,_,rfl,rfl,SqT.of c,rfl,sa,_,_,rfl,rfl,p.shut,zlt (by rw[bYo];omega),?_⟩;have e5:S.map V.int++ [V.int d]=(S++ [d]).map V.int:=by simp
  rw[e5];have:=p.put d;exact q _ (.txt "shut") _ R (S++ [d]) J (this.2.pre I.book.dom n) this.1 (.shut (by unfold Dm.cts Dm.opn;rw[h2,decide_eq_true (by have:=of_decide_eq_false h1;omega)];rfl)) rfl (λ_ z=>nomatch z)
 |loose m=>exact onF rfl ⟨_,rfl,g,_,0,_,rfl,rfl,SqT.of c,rfl,rfl,_,rfl,onF rfl ⟨_,rfl,g,_,0,_,rfl,rfl,SqT.of c,rfl,rfl,_,rfl,onF rfl ⟨_,rfl,g,_,0,_,rfl,rfl,SqT.of c,rfl,zn (by show 6<=100000;omega),λl i=>⟨l,_,rfl,.inl (SqL.of yB),rfl,rfl,_,rfl,onF rfl ⟨_,rfl,_,rfl,one (n.trans (yG i _)) (.inl rfl)⟩⟩⟩⟩⟩
 |date m d=>exact onF rfl ⟨_,rfl,g,_,0,_,rfl,rfl,SqT.of c,rfl,rfl,_,rfl,onF rfl ⟨_,rfl,g,_,0,_,rfl,rfl,SqT.of c,rfl,rfl,_,rfl,onF rfl ⟨_,rfl,g,_,0,_,rfl,rfl,SqT.of c,rfl,zn (by show 6<=100000;omega),λl i=>⟨l,_,rfl,.inl (SqL.of yB),rfl,rfl,_,rfl,onF rfl ⟨_,rfl,_,rfl,one (n.trans (yG i _)) (.inr (.inl ⟨_,rfl⟩))⟩⟩⟩⟩⟩
 |term m t=>exact onF rfl ⟨_,rfl,g,_,0,_,rfl,rfl,SqT.of c,rfl,rfl,_,rfl,onF rfl ⟨_,rfl,g,_,0,_,rfl,rfl,SqT.of c,rfl,rfl,_,rfl,onF rfl ⟨_,rfl,g,_,0,_,rfl,rfl,SqT.of c,rfl,zn (by show 6<=100000;omega),λl i=>⟨l,_,rfl,.inl (SqL.of yB),rfl,rfl,_,rfl,onF rfl ⟨_,rfl,_,rfl,one (n.trans (yG i _)) (.inr (.inr (.inl ⟨_,rfl⟩)))⟩⟩⟩⟩⟩
 |copy m W=>exact onF rfl ⟨_,rfl,g,_,0,_,rfl,rfl,SqT.of c,rfl,rfl,_,rfl,onF rfl ⟨_,rfl,g,_,0,_,rfl,rfl,SqT.of c,rfl,rfl,_,rfl,onF rfl ⟨_,rfl,g,_,0,_,rfl,rfl,SqT.of c,rfl,zn (by show 6<=100000;omega),λl i=>⟨l,_,rfl,.inl (SqL.of yB),rfl,rfl,_,rfl,onF rfl ⟨_,rfl,_,rfl,one (n.trans (yG i _)) (.inr (.inr (.inr (.inl ⟨_,rfl⟩))))⟩⟩⟩⟩⟩
 |file m a3=>exact onF rfl ⟨_,rfl,g,_,0,_,rfl,rfl,SqT.of c,rfl,rfl,_,rfl,onF rfl ⟨_,rfl,g,_,0,_,rfl,rfl,SqT.of c,rfl,rfl,_,rfl,onF rfl ⟨_,rfl,g,_,0,_,rfl,rfl,SqT.of c,rfl,zn (by show 6<=100000;omega),λl i=>⟨l,_,rfl,.inl (SqL.of yB),rfl,rfl,_,rfl,onF rfl ⟨_,rfl,_,rfl,one (n.trans (yG i _)) (.inr (.inr (.inr (.inr (.inl ⟨_,rfl⟩)))))⟩⟩⟩⟩⟩
 |void m=>exact onF rfl ⟨_,rfl,g,_,0,_,rfl,rfl,SqT.of c,rfl,rfl,_,rfl,onF rfl ⟨_,rfl,g,_,0,_,rfl,rfl,SqT.of c,rfl,rfl,_,rfl,onF rfl ⟨_,rfl,g,_,0,_,rfl,rfl,SqT.of c,rfl,zn (by show 6<=100000;omega),λl i=>⟨l,_,rfl,.inl (SqL.of yB),rfl,rfl,_,rfl,onF rfl ⟨_,rfl,_,rfl,one (n.trans (yG i _)) (.inr (.inr (.inr (.inr (.inr rfl)))))⟩⟩⟩⟩⟩
 |state m=>exact onF rfl ⟨_,rfl,g,_,0,_,rfl,rfl,SqT.of c,rfl,rfl,_,rfl,onF rfl ⟨_,rfl,g,_,0,_,rfl,rfl,SqT.of c,rfl,rfl,_,rfl,onF rfl ⟨_,rfl,g,_,0,_,rfl,rfl,SqT.of c,rfl,zn (by show 6<=100000;omega),λl i=>⟨l,_,rfl,.inl (SqL.of yB),rfl,rfl,_,rfl,onT rfl ⟨_,rfl,_,rfl,_,rfl,D (n.trans (yG i _)) (.inl ⟨_,rfl⟩)⟩⟩⟩⟩⟩
 |thread m=>exact onF rfl ⟨_,rfl,g,_,0,_,rfl,rfl,SqT.of c,rfl,rfl,_,rfl,onF rfl ⟨_,rfl,g,_,0,_,rfl,rfl,SqT.of c,rfl,rfl,_,rfl,onF rfl ⟨_,rfl,g,_,0,_,rfl,rfl,SqT.of c,rfl,zn (by show 6<=100000;omega),λl i=>⟨l,_,rfl,.inl (SqL.of yB),rfl,rfl,_,rfl,onT rfl ⟨_,rfl,_,rfl,_,rfl,D (n.trans (yG i _)) (.inr (.inl ⟨_,rfl⟩))⟩⟩⟩⟩⟩
 |copies m=>exact onF rfl ⟨_,rfl,g,_,0,_,rfl,rfl,SqT.of c,rfl,rfl,_,rfl,onF rfl ⟨_,rfl,g,_,0,_,rfl,rfl,SqT.of c,rfl,rfl,_,rfl,onF rfl ⟨_,rfl,g,_,0,_,rfl,rfl,SqT.of c,rfl,zn (by show 6<=100000;omega),λl i=>⟨l,_,rfl,.inl (SqL.of yB),rfl,rfl,_,rfl,onT rfl ⟨_,rfl,_,rfl,_,rfl,D (n.trans (yG i _)) (.inr (.inr (.inl ⟨_,rfl⟩)))⟩⟩⟩⟩⟩
 |letters a3=>exact onF rfl ⟨_,rfl,g,_,0,_,rfl,rfl,SqT.of c,rfl,rfl,_,rfl,onF rfl ⟨_,rfl,g,_,0,_,rfl,rfl,SqT.of c,rfl,rfl,_,rfl,onF rfl ⟨_,rfl,g,_,0,_,rfl,rfl,SqT.of c,rfl,zn (by show 6<=100000;omega),λl i=>⟨l,_,rfl,.inl (SqL.of yB),rfl,rfl,_,rfl,onT rfl ⟨_,rfl,_,rfl,_,rfl,D (n.trans (yG i _)) (.inr (.inr (.inr (.inl ⟨_,rfl⟩))))⟩⟩⟩⟩⟩
 |on B d=>exact onF (by cases B<;> rfl) ⟨_,rfl,g,_,0,_,rfl,rfl,SqT.of c,rfl,rfl,_,rfl,onF (by cases B<;> rfl) ⟨_,rfl,g,_,0,_,rfl,rfl,SqT.of c,rfl,rfl,_,rfl,onF (by cases B<;> rfl) ⟨_,rfl,g,_,0,_,rfl,rfl,SqT.of c,rfl,zn (by show 6<=100000;omega),λl i=>⟨l,_,rfl,.inl (SqL.of yB),rfl,rfl,_,rfl,onT (by cases B<;> rfl) ⟨_,rfl,_,rfl,_,rfl,D (n.trans (yG i _)) (.inr (.inr (.inr (.inr ⟨_,_,rfl⟩))))⟩⟩⟩⟩⟩
end
end Law
namespace Desk
open PySem L2 PyProof.Rows
open Bk (Row Rows xV Ans xY)
open Thr (z9 vM qI)
def wF(H:Hp)(ds:Nat)(a:List Nat)(b:List xV):Prop:=H ds=some (.lst (a.map V.ref))/\a.length=b.length/\∀ (i:Nat)(d:Nat)(e:xV),a[i]? =some d->b[i]? =some e->H d=some (.tup (xE e))
theorem wF.same{H b:Hp}{ds:Nat}{a:List Nat}{c:List xV}(h:wF H ds a c)(k:x5 H b):wF b ds a c:=⟨k.lst h.1,h.2.1,λi d e g f=>k.tup (h.2.2 i d e g f)⟩
theorem wY.kept{o c:List Nat}{H d:Hp}{a:Ans}{v:V}(h:wY o H a v)(k:qT o H d)(g:qC H o c):wY c d a v:=by
 have b:∀p u,p∉o->H p=some u->p∉c:=λp u n e z=>by
  rcases g p z with q|q
  ·exact n q
  ·rw[q]at e;cases e
 cases a with
 |num n=>exact h
 |txt x=>exact h
 |nums l=>obtain⟨p,e,n,q⟩:=h;exact⟨p,e,b p _ n q,k _ _ n (by intro _ z;cases z) q⟩
 |txts l=>obtain⟨p,e,n,q⟩:=h;exact⟨p,e,b p _ n q,k _ _ n (by intro _ z;cases z) q⟩
 |row r=>obtain⟨p,e,n,q⟩:=h;exact⟨p,e,b p _ n q,k _ _ n (by intro _ z;cases z) q⟩
theorem wY.bare{o:List Nat}{H:Hp}{a:Ans}{v:V}(h:wY o H a v):wY [] H a v:=by
 cases a with
 |num n=>exact h
 |txt x=>exact h
 |nums l=>obtain⟨p,e,n,q⟩:=h;exact⟨p,e,by simp,q⟩
 |txts l=>obtain⟨p,e,n,q⟩:=h;exact⟨p,e,by simp,q⟩
 |row r=>obtain⟨p,e,n,q⟩:=h;exact⟨p,e,by simp,q⟩
theorem wY.more{o:List Nat}{D:Nat}{H:Hp}{a:Ans}{v:V}(h:wY o H a v)(n:∀p,v= .ref p->p≠D):wY (D::o) H a v:=by
 have b:∀p,v= .ref p->p∉o->p∉D::o:=λp e q z=>(bYr.mp z).elim (n p e) q;cases a with
 |num n=>exact h
 |txt x=>exact h
 |nums l=>obtain⟨p,e,q⟩:=h;exact⟨p,e,b p e q.1,q.2⟩
 |txts l=>obtain⟨p,e,q⟩:=h;exact⟨p,e,b p e q.1,q.2⟩
 |row r=>obtain⟨p,e,q⟩:=h;exact⟨p,e,b p e q.1,q.2⟩
def x3(H:Hp)(r:Row)(v:V):Prop:=if r.void then v= .str "void" else ∃p,v= .ref p/\H p=some (.tup (stV r))
theorem x3.same{H a:Hp}{r:Row}{v:V}(h:x3 H r v)(k:x5 H a):x3 a r v:=by
 unfold x3 at h ⊢;split
 ·rename_i e;rw[if_pos e]at h;exact h
 ·rename_i e;rw[if_neg e]at h;obtain⟨p,e,q⟩:=h;exact⟨p,e,k.tup q⟩
structure Z6(H0:Hp)(CB CL T:Nat)(ba:Nat)(es:List xV)(as:List Ans)(H:Hp)(o:List Nat):Prop where
 ex:∃ (la sa:Nat)(ls cs:List Nat)(R:Rows)(S:List Int),o=own la sa ls cs/\PB CB CL H ba la sa ls cs R S/\Up es.length R S/\Bk.qR R/\Run [] [] es as R S
 tab:z9 T H
 keep:x5 H0 H
 new:∀b∈o,∀u,(∀ps,u≠HO.tbl ps)->H0 b≠some u
inductive aQF(Rf:Nat×Nat)(vs:List V)(H:Hp)(Q:VK)(_:XK):Prop|mk (ds:Nat) (das:List Nat) (es:List xV) (_:vs= [.ref ds]) (_:wF H ds das es) (_:es.length<60) (_:(∀e∈es,Wf e)) (_:z9 Rf.2 H) (_:∀ (l:Nat)(H':Hp)(vs:List V)(as:List Ans)(R':Rows)(S':List Int),x5 H H'->z9 Rf.2 H'->Run [] [] es as R' S'->Bk.qR R'->H' l=some (.lst vs)->cQc (λv a=>wY [] H' a v) vs as->Q (.ref l) H')
inductive aVI(CB CL:Nat)(vs:List V)(H:Hp)(Q:VK)(_:XK):Prop|mk (ba la sa:Nat) (ls cs:List Nat) (R:Rows) (S:List Int) (_:vs= [.ref ba]) (_:PB CB CL H ba la sa ls cs R S) (_:R.length<64) (_:∀ (l:Nat)(H':Hp)(vs:List V),xA H H'->H' l=some (.lst vs)->cQc (λv r=>x3 H' r v) vs R->Q (.ref l) H')
inductive X3(Rf:Nat×Nat)(vs:List V)(H:Hp)(Q:VK)(_:XK):Prop|mk (ds:Nat) (das:List Nat) (es:List xV) (_:vs= [.ref ds]) (_:wF H ds das es) (_:es.length<60) (_:(∀e∈es,Wf e)) (_:z9 Rf.2 H) (_:∀ (l:Nat)(H':Hp)(vs:List V)(as:List Ans)(R':Rows)(S':List Int),x5 H H'->z9 Rf.2 H'->Run [] [] es as R' S'->Bk.qR R'->H' l=some (.lst vs)->cQc (λv r=>x3 H' r v) vs R'->Q (.ref l) H')
theorem v8{T:Nat}{H a:Hp}(t:z9 T H)(k:xA H a):z9 T a:=(aW9.of k).2 t
theorem Z6.start{H:Hp}{p CL T x dx la sa:Nat}{l a:Hp}(tb:z9 T H)(v:H x=none)(g:H dx=none)(E:dx≠x)(q:l=upd (upd H dx (.own x)) x (.ins p dx []))(d:l la=none)(f:l sa=none)(n:la≠sa) (B:a x=some (.ins p dx [("letters",.ref la),("shut",.ref sa)])) (C:a la=some (.lst [])) (w:a sa=some (.lst [])) (A:∀b,b≠x->b≠la->b≠sa->a b=l b):Z6 H p CL T x [] [] a (own la sa [] [])/\xA H a:=by
 have m:∀b,l b=none->H b=none:=λb e=>by
  subst q;by_cases z:b=x
  ·rw[z];exact v
  ·rw[yI z]at e;by_cases z2:b=dx
   ·rw[z2];exact g
   ·rw[yI z2]at e;exact e
 have k:xA H a:=λb o e=>by have b1:=yJ e v;have D:=yJ e g;rw[A b b1 (yJ e (m _ d)) (yJ e (m _ f)),q,yI b1,yI D];exact e
 refine⟨⟨⟨la,sa,[],[],[],[],rfl,⟨⟨dx,B⟩,C,w,rfl,rfl,.nil,.nil,n,by simp,by simp,λi b c r e=>by simp at e⟩,⟨bYp _,bYp _,λr h=>by simp at h⟩,Bk.aXd,.nil⟩,v8 tb k,k.t,λb j u _ z=>?_⟩,k⟩;have s:H b=none->False:=λy=>by rw[y]at z;cases z
 rcases bYr.mp j with e|j
 ·exact s (by rw[e];exact m _ d)
 rcases bYr.mp j with e|j
 ·exact s (by rw[e];exact m _ f)
 ·simp at j
theorem Z6.step{D:Hp}{x CL T l:Nat}{s:List xV}{E:List Ans}{H:Hp}{o:List Nat}{e:xV}(g:Z6 D x CL T l s E H o)(hw:Wf e)(hz:s.length<60){m:Nat}(G:H m=some (.tup (xE e))){Q:VK}{Rf:Nat×Nat}(O:Rf.2=T) (q:∀ (a:Ans)(v:V)(h:Hp)(y:List Nat),Z6 D x CL T l (s++ [e]) (E++ [a]) h y->wY y h a v->uI H v->qT o H h->qC H o y->Q v h):J7 Rf x CL [.ref l,.ref m] H Q E0:=by
 subst O;obtain⟨A,B,W,P,R,S,rfl,M,C,j,i⟩:=g.ex;refine⟨l,m,A,B,W,P,R,S,e,rfl,hw,G,M,C.sz (by omega),j,g.tab,λa K I v h r n c p k F Y N L=>?_⟩;refine q a v h _ ⟨⟨A,B,r,n,K,I,rfl,p,?_,Bk.xY.book j ?_ c,.snoc i c⟩,Y,λb u f e=>k b u (λz=>g.new b z u f e) f (g.keep b u f e),λb U u f z0=>?_⟩ N L k F
 ·rw[bYM,cQt];exact C.done c
 ·intro X d w t J;subst J;exact hw
 ·rcases F b U with z|z
  ·exact g.new b z u f z0
  ·rw[g.keep b u f z0]at z;cases z
theorem Z6.write{k:Hp}{A CL T w:Nat}{y:List xV}{v:List Ans}{H:Hp}{o:List Nat}(g:Z6 k A CL T w y v H o){D:Nat}{xs ys:List V}(G:H D=some (.lst xs))(nD:D∉o)(h0:k D=none):Z6 k A CL T w y v (upd H D (.lst ys)) o:=by
 have h:∀ {a u},H a=some u->(∀xs,u≠ .lst xs)->a≠D:=λq n z=>by rw[z,G]at q;cases q;exact n _ rfl
 obtain⟨B,C,M,L,R,S,rfl,d,E,j,f⟩:=g.ex;refine⟨⟨B,C,M,L,R,S,rfl,⟨?_,?_,?_,d.len,d.clen,d.nd,d.cnd,d.las,d.lac,d.sac,λi b c r N s F=>?_⟩,E,j,f⟩,?_,λb u K e=>?_,g.new⟩
 ·obtain⟨l,e⟩:=d.book;exact⟨l,by rw[yI (h e (by intro _ z;cases z))];exact e⟩
 ·rw[yI (λz=>nD (by rw[<- z];exact aVk))];exact d.lst
 ·rw[yI (λz=>nD (by rw[<- z];exact aYh))];exact d.sht
 ·obtain⟨⟨l,x⟩,J⟩:=d.row i b c r N s F;exact⟨⟨l,by rw[yI (h x (by intro _ z;cases z))];exact x⟩,by rw[yI (λz=>nD (by rw[<- z];exact bJW (bYA s)))];exact J⟩
 ·rcases g.tab with t|⟨I,m,p⟩
  ·exact .inl (by rw[yI (h t (by intro _ z;cases z))];exact t)
  ·exact .inr ⟨I,by rw[yI (h m (by intro _ z;cases z))];exact m,by rw[yI (h p (by intro _ z;cases z))];exact p⟩
 ·rw[yI (yJ e h0)];exact g.keep b u K e
section
variable {K:bYk}
abbrev W7:Stmt:=xF "answers"
abbrev aQt:Stmt:=xF "standing"
abbrev aXF:Stmt:=xB "Book" "standing_states"
theorem aWL:yM ["deeds","book"] ["deeds"] (yH W7):=scM
theorem aWe:xH ["deeds","book"] (yH W7) "deed" ["book"] [1] (lsN [(".0",.local),("deed",.local),("answer",.globalImplicit),("book",.free)]):=
 lcM
theorem uP{α β:Type}{F G:α->β->Prop}(h:∀a b,F a b->G a b):∀ {l:List α} {m:List β},cQc F l m->cQc G l m
 |_,_,.nil=> .nil
 |_,_,.cons r t=> .cons (h _ _ r) (uP h t)
theorem aWr(G:MkG P w K mg base n "Book" CB ["self"] (aJW CB))(j:FnG P w K mg base (n+1) "answer" ["book","deed"] (J7 Rf CB CL))(F:Fun K "answers" "answers" W7 f fd): y8 P w K mg base CX0 (n+2) f fd ["deeds"] (aQF Rf):=by
 have sc:=aWL;refine F.ok (k:=n+1) sc (λb7 A outer s H vs Q E hr h=>?_);obtain⟨ds,d,r,rfl,hD,b5,b2,tb,q⟩:=h;refine⟨_,(yC (yT (i:=1) (bZO G hr rfl)) (yF (yP (aQn aWe rfl (xI (pv 0)) (λ_ _ _ _ _=>z7) (λ_ _ _ _ _=>(xK j hr rfl (yA (pv 1) (yA (pv 0) yD)))))))),?_⟩;intro x dx hx b1 a8;refine⟨x,dx,rfl,yB,λla sa H1 a7 a2 a3 h1 h2 h3 h4=>⟨rfl,?_⟩⟩;dsimp only[yW];obtain⟨g0,k0⟩:=Z6.start (CL:=CL) tb hx b1 a8 rfl a7 a2 a3 h1 h2 h3 h4;have a5:=hD.same k0.t;refine⟨_,rfl,ds,rfl,⟨_,SqL.of a5.1⟩,λD c=>?_⟩;have b4:(d.map V.ref).length=r.length:=by rw[bYo];exact hD.2.1
 have b3:H D=none:=k0.fresh c;refine⟨λi m I X=>m=r.length - i/\i<=r.length/\X D=some (.lst I)/\∃ (Z:List Ans)(o:List Nat),Z6 H CB CL Rf.2 x (r.take i) Z X o/\D∉o/\cQc (λv a=>wY (D::o) X a v) I Z,⟨r.length,by simp,cQe _,yB,[],own la sa [] [],?_,?_,.nil⟩,?_⟩
 ·have kD:=yG c (.lst []);obtain⟨N,J,M,O,R,S,e1,e2,e3,e4,W⟩:=g0.ex;exact⟨⟨N,J,M,O,R,S,e1,e2.same kD,e3,e4,W⟩,v8 g0.tab kD,λb u nt e=>kD _ _ (g0.keep b u nt e),g0.new⟩
 ·intro z;rcases bYr.mp z with e|z
  ·rw[e,h2]at c;cases c
  rcases bYr.mp z with e|z
  ·rw[e,h3]at c;cases c
  ·simp at z
 ·rintro i m I X ⟨rfl,hi,l,Z,o,g,nD,hP⟩;have B:=hD.same g.keep;refine⟨l,?_⟩;by_cases C:i<r.length
  ·have a4:i<d.length:=by rw[hD.2.1];exact C
   have L:=bYh a4;have Y:=bYh C;refine .inr ⟨⟨d.map V.ref,.ref d[i],SqL.of B.1,by rw[bYC,L];rfl⟩,λv H2 yl=>?_⟩;obtain⟨rfl,y⟩:=yl;have hv:(d.map V.ref)[i]? =some v:=y _ (SqL.of B.1);rw[bYC,L]at hv;cases hv;refine⟨_,rfl,_,rfl,?_⟩;refine g.step (b2 _ (cXj C)) (by rw[cQA];omega) (B.2.2 i _ _ L Y) rfl λa v T U g3 av nv k3 gr=>?_;have b0:r.take (i+1)=r.take i++ [r[i]]:=by rw[cQw,Y];rfl
   have b6:I.length<=i:=by obtain⟨N,J,M,O,R,S,e1,e2,e3,e4,W⟩:=g.ex;have:=W.len;rw[hP.length,<- this,cQA];omega
   have a1:T D=some (.lst I):=k3 _ _ nD (by intro _ z;cases z) l;have a0:D∉U:=λz=>by
    rcases gr D z with y|y
    ·exact nD y
    ·rw[l]at y;cases y
   refine⟨by rw[bYR];omega,a1,r.length - (i+1),by omega,rfl,C,yB,Z++ [a],U,?_,a0,?_⟩
   ·rw[b0];exact g3.write a1 a0 b3
   ·have k4:qT (D::U) T (upd T D (.lst (I++ [v]))):=qT.upd bYx _;have k5:qT (D::o) H2 T:=λb u nb nt e=>k3 b u (λz=>nb (bYt _ z)) nt e;have a6:qC H2 (D::o) (D::U):=λb hb=>by
     rcases bYr.mp hb with e|hb
     ·exact .inl (by rw[e];exact bYx)
     ·exact(gr b hb).imp (bYt _) id
    have a9:wY (D::U) T a v:=av.more λp e z=>by rw[z]at e;exact nv D e _ (by intro _ z;cases z) l
    exact Law.aQ6 (F:=λv' a'=>wY (D::U) (upd T D (.lst (I++ [v]))) a' v') (a9.kept k4 qC.refl) (uP (λv a (h:wY (D::o) H2 a v)=>(h.kept k5 a6).kept k4 qC.refl) hP)
  ·obtain rfl:i=r.length:=by omega
   obtain⟨N,J,M,O,R,S,e1,e2,e3,e4,W⟩:=g.ex;rw[cQn]at W;exact .inl ⟨⟨d.map V.ref,SqL.of B.1,by rw[b4];exact bYp _⟩,q D X I Z R S g.keep g.tab W e4 l (uP (λv a h=>h.bare) hP)⟩
theorem aYY:yM ["self"] ["self"] (yH aXF):=scM
theorem aKN:xH ["self"] (yH aXF) "letter" [] [] (lsN [(".0",.local),("letter",.local)]):=
 lcM
theorem aYd(cl:Cl K CB CL)(d:MG P w K mg base CX0 n CL "state" ["self"] (aJY CL))(F:Fun K "standing_states" "Book.standing_states" aXF f fd):y8 P w K mg base CX0 (n+1) f fd ["self"] (aVI CB CL):=by
 have sc:=aYY;refine F.ok (k:=n) sc (λa0 A outer s H vs Q E hr h=>?_);obtain⟨ba,la,sa,N,cs,R,S,rfl,L,hR,q⟩:=h;refine⟨_,(yF (yP (aQn aKN rfl (xI (yZ (pv 0) rfl)) (λ_ _ _ _ _=>z7) (λ_ _ _ _ _=>(aVn (x6 (aQl (K:=K) (pv 0) rfl)) yO (bXB d hr vN (pv 0))))))),?_⟩;obtain⟨dx,hb⟩:=L.book;have hl:(N.map V.ref).length=R.length:=by rw[bYo];exact L.len
 refine⟨_,rfl,ba,CB,dx,_,_,rfl,hb,cl.b,cl.letters,rfl,la,rfl,⟨_,SqL.of L.lst⟩,λD Y=>?_⟩;refine⟨λi m a C=>m=R.length - i/\i<=R.length/\xA H C/\C D=some (.lst a)/\cQc (λv r=>x3 C r v) a (R.take i),⟨R.length,by simp,cQe _,yG Y _,yB,.nil⟩,?_⟩;rintro i m a C ⟨rfl,hi,W,u,M⟩;have o:=L.same W;refine⟨u,?_⟩;by_cases B:i<R.length
 ·have G:=bYh B;obtain⟨b,c,Z,g2,g3,⟨x,T⟩,g5⟩:=o.get G;refine .inr ⟨⟨N.map V.ref,.ref b,SqL.of o.lst,Z⟩,λv H2 yl=>?_⟩;obtain⟨rfl,y⟩:=yl;have I:(N.map V.ref)[i]? =some v:=y _ (SqL.of o.lst);rw[Z]at I;cases I;have U:R.take (i+1)=R.take i++ [R[i]]:=by rw[cQw,G];rfl
  have a1:a.length<=i:=by rw[M.length,cQA];omega
  refine⟨_,rfl,b,CL,x,_,_,rfl,T,cl.l,cl.void,rfl,_,rfl,?_⟩;have fin:∀ (v:V)(g:Hp),xA H2 g->x3 g R[i] v->a.length<bYI/\g D=some (.lst a)/\∃m',m'<R.length - i/\(m'=R.length - (i+1)/\i+1<=R.length/\xA H (upd g D (.lst (a++ [v])))/\upd g D (.lst (a++ [v])) D=some (.lst (a++ [v]))/\cQc (λj r=>x3 (upd g D (.lst (a++ [v]))) r j) (a++ [v]) (R.take (i+1))):=λv g O sv=>by
   have J:=O _ _ u;have X:∀ (j:V)(r:Row),x3 g r j->x3 (upd g D (.lst (a++ [v]))) r j:=λj r h=>by
    unfold x3 at h ⊢;split
    ·rename_i e;rw[if_pos e]at h;exact h
    ·rename_i e;rw[if_neg e]at h;obtain⟨p,e,q⟩:=h;exact⟨p,e,by rw[yI (aQS q J (by intro z;cases z))];exact q⟩
   refine⟨by rw[bYR];omega,J,R.length - (i+1),by omega,rfl,B,Law.aQL (W.trans O) Y,yB,?_⟩;rw[U];exact Law.aQ6 (F:=λj r=>x3 (upd g D (.lst (a++ [v]))) r j) (X _ _ sv) (uP (λj r (h:x3 H2 r j)=>X j r (h.same O.t)) M)
  cases I:R[i].void with
  |true=>exact onT rfl (fin _ _ (xA.refl _) (by unfold x3;rw[I];rfl))
  |false=>refine onF rfl ⟨_,rfl,b,x,_,rfl,T,rfl,b,i,_,c,rfl,⟨x,T⟩,λt ht=>?_⟩;exact fin _ _ (yG ht _) (by unfold x3;rw[I];exact⟨t,rfl,yB⟩)
 ·obtain rfl:i=R.length:=by omega
  rw[cQn]at M;exact .inl ⟨⟨N.map V.ref,SqL.of o.lst,by rw[hl];exact bYp _⟩,q D C a W u M⟩
theorem aJS:yM ["deeds","book","deed"] ["deeds"] (yH aQt):=scM
theorem aJs(d:MkG P w K mg base n "Book" CB ["self"] (aJW CB))(c:FnG P w K mg base (n+1) "answer" ["book","deed"] (J7 Rf CB CL))(b:MG P w K mg base CX0 (n+1) CB "standing_states" ["self"] (aVI CB CL)) (F:Fun K "standing" "standing" aQt f fd):y8 P w K mg base CX0 (n+2) f fd ["deeds"] (X3 Rf):=by
 have sc:=aJS;refine F.ok (k:=n+1) sc (λa4 A outer s H vs Q E hr h=>?_);obtain⟨ds,j,m,rfl,p,a3,a1,tb,q⟩:=h;refine⟨_,(yC (yT (i:=1) (bZO d hr rfl)) (yC (wE cQd rfl (xI (pv 0)) (y9 (i:=2)) (yF (yY (xK c hr rfl (yA (pv 1) (yA (pv 2) yD)))))) (yF (yP (bXB b hr vN (pv 1)))))),?_⟩;intro x dx hx Y W;refine⟨x,dx,rfl,yB,λla sa H1 U G L h1 h2 h3 h4=>⟨rfl,?_⟩⟩;dsimp only[yW];obtain⟨g0,k0⟩:=Z6.start (CL:=CL) tb hx Y W rfl U G L h1 h2 h3 h4;have T:=p.same k0.t;have B:(j.map V.ref).length=m.length:=by rw[bYo];exact p.2.1
 refine⟨_,rfl,ds,rfl,⟨_,SqL.of T.1⟩,?_⟩;refine zK (xs:=j.map V.ref) (λi σ C=>∃ (D:Option V)(y:List Ans)(o:List Nat),σ= [some (.ref ds),some (.ref x),D]/\Z6 H CB CL Rf.2 x (m.take i) y C o) ?_ ?_ ?_ ?_
 ·exact⟨none,[],_,rfl,g0⟩
 ·rintro i σ C hi ⟨D,y,o,rfl,g⟩;exact SqL.of (p.same g.keep).1
 ·rintro i v σ C I ⟨D,y,o,rfl,g⟩;have e:i<m.length:=by rw[<- B];exact(bYu.mp I).1
  have z:=bYh (show i<j.length by rw[p.2.1];exact e);have u:=bYh e;rw[bYC,z]at I;cases I;have J:=p.same g.keep;have X:m.take (i+1)=m.take i++ [m[i]]:=by rw[cQw,u];rfl
  dsimp only[yW];refine⟨_,rfl,_,rfl,?_⟩;refine g.step (a1 _ (cXj e)) (by rw[cQA];omega) (J.2.2 i _ _ z u) rfl λa v H3 o' g3 av nv k3 gr=>?_;rw[<- X]at g3;exact⟨_,_,o',rfl,g3⟩
 ·rintro σ C ⟨D,y,o,rfl,g⟩;rw[B,cQn]at g;obtain⟨a0,O,Z,a2,R,S,e1,e2,e3,e4,e5⟩:=g.ex;obtain⟨N,hb⟩:=e2.book;refine⟨_,rfl,x,N,_,rfl,hb,rfl,x,a0,O,Z,a2,R,S,rfl,e2,by have:=e3.r;omega,λl H5 vs k5 M hP=>?_⟩;exact q l H5 vs y R S (g.keep.trans k5.t) (v8 g.tab k5) e5 e4 M hP
end
end Desk
namespace Law
open PySem L2 PyProof.Rows
open Bk (Row Rows xY xV Ans)
open Desk (xE wY uI Wf Up Run wF uP)
structure LGo(H0:Hp)(ra sa:Nat)(es:List xV)(as:List Ans)(H:Hp)(rs:List Nat):Prop where
 ex:∃ (R:Rows)(S:List Int),LBk H ra sa rs R S/\Up es.length R S/\Bk.qR R/\Run [] [] es as R S
 keep:xA H0 H
 newR:H0 ra=none
 newS:H0 sa=none
 newB:∀b∈rs,H0 b=none
theorem LGo.same{e H d:Hp}{c sa:Nat}{f:List xV}{h:List Ans}{i:List Nat}(g:LGo e c sa f h H i)(k:xA H d):LGo e c sa f h d i:=
 ⟨let ⟨R,S,a,b⟩:=g.ex;⟨R,S,a.same k,b⟩,g.keep.trans k,g.newR,g.newS,g.newB⟩
theorem LGo.start{H:Hp}{a sa:Nat}(g:H a=none)(c:upd H a (.lst []) sa=none):LGo H a sa [] [] (upd (upd H a (.lst [])) sa (.lst [])) []:=by
 have f:=yG g (.lst []);have e:=yG c (.lst []);have ne:sa≠a:=λz=>by rw[z,yB]at c;cases c
 exact⟨⟨[],[],⟨⟨e _ _ yB,rfl,.nil,λi b r h=>by simp at h⟩,yB,ne,by simp,λb d=>by simp at d⟩,⟨bYp _,bYp _,λr h=>by simp at h⟩,Bk.aXd,.nil⟩,f.trans e,g,f.fresh c,λb d=>by simp at d⟩
theorem bV0{H g:Hp}{j sa:Nat}{b:List Nat}{q:Rows}{u:List Int}{a:Ans}{v:V}(o:LBk g j sa b q u)(k:∃c,H j=some (.lst c))(m:∃c,H sa=some (.lst c))(f:wY [] g a v)(s:uI H v):wY (sa::j::b) g a v:=by
 have no:∀p,v= .ref p->(∀r d,g p≠some (.lst (uR r d)))->p∉sa::j::b:=λp e n z=>by
  rcases bYr.mp z with z|z
  ·obtain⟨c,h⟩:=m;exact s p e (.lst c) (by intro _ y;cases y) (by rw[z];exact h)
  rcases bYr.mp z with z|z
  ·obtain⟨c,h⟩:=k;exact s p e (.lst c) (by intro _ y;cases y) (by rw[z];exact h)
  ·obtain⟨i,t,w⟩:=bY7 z;obtain⟨d,A,_⟩:=o.book.row i p _ (by rw[bYh t,w]) (bYh (show i<q.length by rw[<- o.book.len];exact t));exact n _ d A
 cases a with
 |num n=>exact f
 |txt x=>exact f
 |nums l=>obtain⟨p,e,_,h⟩:=f;exact⟨p,e,no p e λr d z=>by rw[h]at z;exact aQo (bYD z).symm,h⟩
 |txts l=>obtain⟨p,e,_,h⟩:=f;exact⟨p,e,no p e λr d z=>by rw[h]at z;exact jU (bYD z).symm,h⟩
 |row r=>obtain⟨p,e,_,h⟩:=f;exact⟨p,e,no p e λr d z=>(by rw[h]at z;cases z),h⟩
theorem LGo.step{E H:Hp}{j sa:Nat}{A:List xV}{F:List Ans}{B:List Nat}{e:xV}(g:LGo E j sa A F H B)(hw:Wf e)(hz:A.length<60){y:Nat}(G:H y=some (.tup (xE e))){Q:VK} (q:∀ (a:Ans)(v:V)(i:Hp)(f:List Nat),LGo E j sa (A++ [e]) (F++ [a]) i f->aXS j sa B f H i->wY (sa::j::f) i a v->uI H v->Q v i):aXa [.ref j,.ref sa,.ref y] H Q E0:=by
 obtain⟨R,S,u,n,m,l⟩:=g.ex;refine⟨j,sa,y,B,R,S,e,rfl,G,hw,u,by have:=n.r;omega,by have:=n.s;omega,m,λr L=>by have:=n.c r L;omega,λi a v K I f C k p M D=>?_⟩;refine q a v i f ⟨⟨K,I,k,?_,Bk.xY.book m ?_ p,.snoc l p⟩,λx o h=>?_,g.newR,g.newS,λb N=>?_⟩ C (bV0 k ⟨_,u.book.lst⟩ ⟨_,u.shut⟩ M D) D
 ·rw[bYM,cQt];exact n.done p
 ·intro O d w t J;subst J;exact hw
 ·exact C.1 x o (yJ h g.newS) (yJ h g.newR) (λz=>by rw[g.newB x z]at h;cases h) (g.keep _ _ h)
 ·rcases C.2.1 b N with z|z
  ·exact g.newB b z
  ·exact g.keep.fresh z
structure aVR(H0:Hp)(ra sa:Nat)(H:Hp)(rs:List Nat)(D:Nat)(xs:List V):Prop where
 at_:H D=some (.lst xs)
 new:H0 D=none
 nr:D≠ra
 ns:D≠sa
 nb:D∉rs
 nc:NoC rs H D
theorem aVR.step{d H c:Hp}{b sa D:Nat}{e a:List Nat}{xs:List V}(h:aVR d b sa H e D xs)(st:aXS b sa e a H c):aVR d b sa c a D xs:=
 ⟨st.1 D _ h.ns h.nr h.nb h.at_,h.new,h.nr,h.ns,λz=>(st.2.1 D z).elim h.nb (λy=>by have:=h.at_;rw[y]at this;cases this),st.2.2 D _ h.at_ h.nc⟩
theorem aVR.same{e H d:Hp}{c sa D:Nat}{a:List Nat}{xs:List V}(h:aVR e c sa H a D xs)(f:∀b∈a,∃o,H b=some o)(k:xA H d):aVR e c sa d a D xs:=
 ⟨k _ _ h.at_,h.new,h.nr,h.ns,h.nb,(But.of f k).2.2 D _ h.at_ h.nc⟩
theorem LGo.dom{d H:Hp}{c sa:Nat}{e:List xV}{f:List Ans}{a:List Nat}(g:LGo d c sa e f H a):∀b∈a,∃o,H b=some o:=let ⟨R,S,h,_⟩:=g.ex;h.book.dom
theorem LGo.write{m H:Hp}{n sa D:Nat}{t:List xV}{s:List Ans}{j:List Nat}{xs:List V}(g:LGo m n sa t s H j)(h:aVR m n sa H j D xs)(ys:List V):LGo m n sa t s (upd H D (.lst ys)) j/\aVR m n sa (upd H D (.lst ys)) j D ys:=by
 obtain⟨R,S,c,u,p,d⟩:=g.ex;have nb:∀b∈j,b≠D:=λb a z=>h.nb (by rw[<- z];exact a);refine⟨⟨⟨R,S,⟨⟨by rw[yI (bY0 h.nr)];exact c.book.lst,c.book.len,c.book.nd,λi b r a w=>?_⟩,by rw[yI (bY0 h.ns)];exact c.shut,c.ne,c.no,λb a l f=>c.noC b a l (by rw[yI (nb b a)]at f;exact f)⟩,u,p,d⟩,λx o e=>?_,g.newR,g.newS,g.newB⟩,yB,h.new,h.nr,h.ns,h.nb,λb a l f=>h.nc b a l (by rw[yI (nb b a)]at f;exact f)⟩
 ·obtain⟨v,q,y⟩:=c.book.row i b r a w;have k:=bYA a;exact⟨v,by rw[yI (nb b k)];exact q,by rw[yI (λz=>h.nc b k _ q (by rw[<- z];rfl))];exact y⟩
 ·rw[yI (yJ e h.new)];exact g.keep _ _ e
theorem aVR.write{e H:Hp}{c sa D E:Nat}{a:List Nat}{xs:List V}(h:aVR e c sa H a D xs)(ne:D≠E)(g:E∉a)(u:HO):aVR e c sa (upd H E u) a D xs:=
 ⟨by rw[yI ne];exact h.at_,h.new,h.nr,h.ns,h.nb,λb f l d=>h.nc b f l (by rw[yI (λz=>g (by rw[<- z];exact f))]at d;exact d)⟩
end Law
namespace Bk
open PySem (Str)
theorem bJp{R:Rows}{k:Nat}{r:Row}(b:R[k]? =some r)(a:r.void=false):wI R (k:Int)=true:=by
 unfold wI;rw[bYU,b];simp[a]
def one(R:Rows)(S:List Int)(m:Int)(f:Nat->Row->Ans×Rows×List Int):Ans×Rows×List Int:=if wI R m=false then(.txt "no letter",R,S)else match R[m.toNat]? with
 |some r=>f m.toNat r
 |none=>(.txt "no letter",R,S)
theorem bWr{R:Rows}{S:List Int}{m:Int}{f:Nat->Row->Ans×Rows×List Int}(h:wI R m=false):one R S m f=(.txt "no letter",R,S):=if_pos h
theorem zL{R:Rows}{k:Nat}{r:Row}(b:R[k]? =some r)(a:r.void=false):¬wI R (k:Int)=false:=by rw[bJp b a];exact Bool.noConfusion
theorem xX{R:Rows}{S:List Int}{k:Nat}{r:Row}{f:Nat->Row->Ans×Rows×List Int}(a:R[k]? =some r)(b:r.void=false):one R S (k:Int) f=f k r:=(if_neg (zL a b)).trans (by rw[bYU,a])
open Classical in
noncomputable def out (R:Rows) (S:List Int):xV->Ans×Rows×List Int
 |.enter e d b t=>if t<0 then(.txt "no term",R,S)else(.num R.length,R++ [⟨e,d,b,t,none,"",false,[]⟩],S)
 |.reply m d t=>if wI R m=false then(.txt "no letter",R,S)else if t<0 then(.txt "no term",R,S)else one R S m λk r=>if d<r.date then(.txt "too early",R,S)else(.num R.length,R++ [⟨uO r.way,d,r.partner,t,some k,r.place,false,[]⟩],S)
 |.hang m o=>if wI R m=false\/wI R o=false then(.txt "no letter",R,S)else one R S m λi r=>one R S o λj q=>if r.link≠none then(.txt "has one",R,S)else if(thr R j).head? =some i then(.txt "own thread",R,S)else
   if r.way=q.way then(.txt "same way",R,S)else if r.partner≠q.partner then(.txt "other partner",R,S)else if r.date<q.date then(.txt "too early",R,S)else(.txt "hung",xJ (laid R (thr R i) q.place) i λr=>{r with link:=some j},S)
 |.loose m=>one R S m λk r=>if r.link=none then(.txt "has none",R,S)else(.txt "loose",xJ R k λr=>{r with link:=none},S)
 |.date m d=>one R S m λk r=>if(∃j,r.link=some j/\d<dt R j)\/∃c∈zO R k,dt R c<d then(.txt "too early",R,S)else(.txt "dated",xJ R k λr=>{r with date:=d},S)
 |.term m t=>one R S m λk r=>if t<0 then(.txt "no term",R,S)else(.txt "set",xJ R k λr=>{r with term:=t},S)
 |.copy m w=>one R S m λk r=>if w=r.partner\/w∈r.copies then(.txt "copied",R,S)else(.num (r.copies.length+1),xJ R k λr=>{r with copies:=r.copies++ [w] },S)
 |.file m w=>one R S m λk _=>(.num (thr R k).length,laid R (thr R k) w,S)
 |.void m=>one R S m λk r=>if zO R k= []then(.txt "void",xJ R k λr=>{r with link:=none,void:=true},S)else(.txt "answered",R,S)
 |.shut d=>if Dm.cts S d=true then(.txt "shut",R,S++ [d])else(.txt "counts not",R,S)
 |.state m=>one R S m λ_ r=>(.row r,R,S)
 |.thread m=>one R S m λk _=>(.nums (thr R k),R,S)
 |.copies m=>one R S m λ_ r=>(.txts r.copies,R,S)
 |.letters w=>(.nums ((bYv R.length).filter λk=>match R[k]? with|some r=> !r.void && decide (r.place=w)|none=>false),R,S)
 |.on a d=>if h:∃l,bQu R S d a l then(.nums (choose h),R,S)else(.nums [],R,S)
theorem xY.out{R s:Rows}{S r:List Int}{e:xV}{a:Ans}(h:xY R S e a s r):out R S e=(a,s,r):=by
 cases h with
 |enter h=>exact if_neg (cX6.mpr h)
 |enterT h=>exact if_pos h
 |replyN h=>exact if_pos h
 |replyT h o=>exact(if_neg (by rw[h];exact Bool.noConfusion)).trans (if_pos o)
 |replyE f h o p=>exact(if_neg (zL f h)).trans ((if_neg (cX6.mpr o)).trans ((xX f h).trans (if_pos p)))
 |reply f h o p=>exact(if_neg (zL f h)).trans ((if_neg (cX6.mpr o)).trans ((xX f h).trans (if_neg (cX6.mpr p))))
 |hangN h=>exact if_pos h
 |hangH g d i hw h=>exact(if_neg (not_or.mpr ⟨zL g d,zL i hw⟩)).trans ((xX g d).trans ((xX i hw).trans (if_pos h)))
 |hangO g d i hw h m=>exact(if_neg (not_or.mpr ⟨zL g d,zL i hw⟩)).trans ((xX g d).trans ((xX i hw).trans ((if_neg (not_not_intro h)).trans (if_pos m))))
 |hangW g d i hw h m n=>exact(if_neg (not_or.mpr ⟨zL g d,zL i hw⟩)).trans ((xX g d).trans ((xX i hw).trans ((if_neg (not_not_intro h)).trans ((if_neg m).trans (if_pos n)))))
 |hangP g d i hw h m n k=>exact(if_neg (not_or.mpr ⟨zL g d,zL i hw⟩)).trans ((xX g d).trans ((xX i hw).trans ((if_neg (not_not_intro h)).trans ((if_neg m).trans ((if_neg n).trans (if_pos k))))))
 |hangE g d i hw h m n k q=>exact(if_neg (not_or.mpr ⟨zL g d,zL i hw⟩)).trans ((xX g d).trans ((xX i hw).trans ((if_neg (not_not_intro h)).trans ((if_neg m).trans ((if_neg n).trans ((if_neg (not_not_intro k)).trans (if_pos q)))))))
 |hang g d i hw h m n k q=>exact(if_neg (not_or.mpr ⟨zL g d,zL i hw⟩)).trans ((xX g d).trans ((xX i hw).trans ((if_neg (not_not_intro h)).trans ((if_neg m).trans ((if_neg n).trans ((if_neg (not_not_intro k)).trans (if_neg (cX6.mpr q))))))))
 |oneN h t=>rcases t with rfl|⟨_,rfl⟩|⟨_,rfl⟩|⟨_,rfl⟩|⟨_,rfl⟩|rfl|rfl|rfl|rfl<;> (unfold Bk.out;exact bWr h)
 |looseN f d h=>unfold Bk.out;exact(xX f d).trans (if_pos h)
 |loose f d h=>unfold Bk.out;exact(xX f d).trans (if_neg h)
 |dateE f d h=>unfold Bk.out;exact(xX f d).trans (if_pos h)
 |date f d n k=>unfold Bk.out;exact(xX f d).trans (if_neg (not_or.mpr ⟨λ⟨j,a,b⟩=>absurd (n j a) (Int.not_le.mpr b),λ⟨c,a,b⟩=>absurd (k c a) (Int.not_le.mpr b)⟩))
 |termN f d h=>unfold Bk.out;exact(xX f d).trans (if_pos h)
 |term f d h=>unfold Bk.out;exact(xX f d).trans (if_neg (cX6.mpr h))
 |copyC f d h=>unfold Bk.out;exact(xX f d).trans (if_pos h)
 |copy f d h k=>unfold Bk.out;exact(xX f d).trans (if_neg (not_or.mpr ⟨h,k⟩))
 |file f d=>unfold Bk.out;exact xX f d
 |voidA f d h=>unfold Bk.out;exact(xX f d).trans (if_neg h)
 |void f d h=>unfold Bk.out;exact(xX f d).trans (if_pos h)
 |shutN h=>exact if_neg (by rw[h];exact Bool.noConfusion)
 |shut h=>exact if_pos h
 |state f d=>unfold Bk.out;exact xX f d
 |thread f d=>unfold Bk.out;exact xX f d
 |copies f d=>unfold Bk.out;exact xX f d
 |letters=>rfl
 |on h=>exact(dif_pos ⟨_,h⟩).trans (by rw[(cZW (⟨_,h⟩:∃l,bQu R S _ _ l)).uniq h])
theorem xY.det{R g R2:Rows}{S c f:List Int}{e d:xV}{a b:Ans}(i:d=e)(h:xY R S e a g c)(j:xY R S d b R2 f):a=b/\g=R2/\c=f:=by
 subst i;have q:=h.out.symm.trans j.out;exact⟨congrArg (·.1) q,congrArg (·.2.1) q,congrArg (·.2.2) q⟩
end Bk
namespace Desk
open Bk (Row Rows xY xV Ans)
theorem Run.inv{R b:Rows}{S c:List Int}{l:List xV}{bs:List Ans}(h:Run R S l bs b c):(l= []/\bs= []/\b=R/\c=S)\/∃g e j a i f,l=g++ [e]/\bs=j++ [a]/\Run R S g j i f/\xY i f e a b c:=by
 cases h with
 |nil=>exact .inl ⟨rfl,rfl,rfl,rfl⟩
 |snoc h d=>exact .inr ⟨_,_,_,_,_,_,rfl,rfl,h,d⟩
theorem Run.det{R:Rows}{S:List Int}:∀ (n:Nat) {b:List xV} {f bs:List Ans} {i R2:Rows} {j c:List Int},b.length=n->Run R S b f i j->Run R S b bs R2 c->f=bs/\i=R2/\j=c
 |0,b,f,bs,i,R2,j,c,hn,h,h2=>by
  rcases h.inv with⟨rfl,rfl,rfl,rfl⟩|⟨_,_,_,_,_,_,rfl,_⟩
  ·rcases h2.inv with⟨_,rfl,rfl,rfl⟩|⟨m,l,_,_,_,_,z,_⟩
   ·exact⟨rfl,rfl,rfl⟩
   ·exact absurd (congrArg cXM z) (by simp)
  ·simp at hn
 |n+1,b,f,bs,i,R2,j,c,hn,h,h2=>by
  rcases h.inv with⟨rfl,_⟩|⟨r,e,t,a,w,v,rfl,rfl,g,d⟩
  ·simp at hn
  ·rcases h2.inv with⟨z,_⟩|⟨p,l,k,x,o,q,z,rfl,u,s⟩
   ·exact absurd (congrArg cXM z) (by simp)
   ·obtain⟨rfl,z2⟩:=cZS z rfl;cases z2;obtain⟨rfl,rfl,rfl⟩:=Run.det n (by simpa using hn) g u;obtain⟨rfl,rfl,rfl⟩:=Bk.xY.det rfl d s;exact⟨rfl,rfl,rfl⟩
end Desk
namespace Law
open PySem L2 PyProof.Rows
open Bk (Row Rows xY xV Ans)
open Desk (xE wY uI Wf Up Run wF uP)
theorem vT{o c:List Nat}{H b:Hp}{a:Ans}{v:V}(h:wY o H a v)(k:∀p u,p∉o->H p=some u->p∉c/\b p=some u):wY c b a v:=by
 cases a with
 |num n=>exact h
 |txt x=>exact h
 |nums l=>obtain⟨p,e,n,q⟩:=h;exact⟨p,e,k p _ n q⟩
 |txts l=>obtain⟨p,e,n,q⟩:=h;exact⟨p,e,k p _ n q⟩
 |row r=>obtain⟨p,e,n,q⟩:=h;exact⟨p,e,k p _ n q⟩
structure Mid(H0:Hp)(ra sa ds us:Nat)(es:List xV)(das:List Nat)(i:Nat)(H:Hp):Prop where
 ne:ds≠us
 wf:∀e∈es,Wf e
 len:das.length=es.length
 at_:∀ (j:Nat)(d:Nat)(e:xV),das[j]? =some d->es[j]? =some e->H d=some (.tup (xE e))
 ex:∃ (rs:List Nat)(as:List Ans)(vs:List V),LGo H0 ra sa (es.take i) as H rs/\aVR H0 ra sa H rs ds (das.map V.ref)/\aVR H0 ra sa H rs us vs/\cQc (λv a=>wY (us::ds::sa::ra::rs) H a v) vs as
theorem Mid.same{f H c:Hp}{h sa ds us:Nat}{l:List xV}{b:List Nat}{i:Nat}(m:Mid f h sa ds us l b i H)(k:xA H c):Mid f h sa ds us l b i c:=by
 obtain⟨s,q,t,g,x,r,p⟩:=m.ex;exact⟨m.ne,m.wf,m.len,λj d e w o=>k _ _ (m.at_ j d e w o),s,q,t,g.same k,x.same g.dom k,r.same g.dom k,uP (λv a z=>vT z λp u n e=>⟨n,k _ _ e⟩) p⟩
theorem Mid.keep{b H:Hp}{c sa ds us:Nat}{d:List xV}{a:List Nat}{i:Nat}(m:Mid b c sa ds us d a i H):xA b H:=let ⟨rs,as,vs,g,_⟩:=m.ex;g.keep
theorem Mid.push{r H:Hp}{s sa ds us:Nat}{f:List xV}{b:List Nat}{i:Nat}(m:Mid r s sa ds us f b i H)(t:i=f.length){d:Nat}{e:xV}(B:H d=some (.tup (xE e)))(hw:Wf e):Mid r s sa ds us (f++ [e]) (b++ [d]) i (upd H ds (.lst ((b++ [d]).map V.ref))):=by
 obtain⟨E,C,F,g,q,D,p⟩:=m.ex;have w:=g.write q ((b++ [d]).map V.ref);have tk:∀ {x ys},H x=some (.tup ys)->upd H ds (.lst ((b++ [d]).map V.ref)) x=some (.tup ys):=λ{x ys} h=>by rw[yI (λz=>by rw[z,q.at_]at h;cases h)];exact h
 refine⟨m.ne,λx k=>?_,by simp[m.len],λj x y l c=>?_,E,C,F,?_,w.2,D.write (bY0 m.ne) q.nb _,uP (λv a z=>vT z λp u n h=>⟨n,?_⟩) p⟩
 ·rcases bYX.mp k with k|k
  ·exact m.wf x k
  ·rw[bYz.mp k];exact hw
 ·by_cases A:j<f.length
  ·rw[bY5 (by rw[m.len];exact A)]at l;rw[bY5 A]at c;exact tk (m.at_ j x y l c)
  ·have o:j=f.length:=by
    have:=(bYu.mp c).1;simp at this;omega
   subst o;rw[bYH (by rw[m.len];exact bYp _),m.len,cQC]at l;rw[bYH (bYp _),cQC]at c;cases l;cases c;exact tk B
 ·rw[t,List.take_left' rfl];have:=w.1;rw[t,cQn]at this;exact this
 ·rw[yI (λz=>n (by rw[z];exact bYt _ bYx))];exact h
theorem Mid.next{P H:Hp}{c sa ds us:Nat}{o:List xV}{b:List Nat}{i:Nat}(m:Mid P c sa ds us o b i H)(hz:i<60){d:Nat}{e:xV}(Z:b[i]? =some d)(F:o[i]? =some e){Q:VK} (q:∀ (v:V)(k:Hp)(vs:List V),H us=some (.lst vs)->k us=some (.lst vs)->vs.length=i->Mid P c sa ds us o b (i+1) (upd k us (.lst (vs++ [v])))->Q v k):aXa [.ref c,.ref sa,.ref d] H Q E0:=by
 obtain⟨W,as,vs,g,X,K,p⟩:=m.ex;have a0:i<o.length:=(bYu.mp F).1;have s:(o.take i).length=i:=by rw[cQA];omega
 have J:vs.length=i:=by obtain⟨R,S,_,_,_,hr⟩:=g.ex;rw[cXH p,<- hr.len,s]
 have hw:Wf e:=m.wf e (bYA F);refine g.step hw (by rw[s];exact hz) (m.at_ i d e Z F) λa v k f g2 C B O=>?_;have Y:=X.step C;have D:=K.step C;refine q v k vs K.at_ D.at_ J ?_;have w:=g2.write D (vs++ [v]);obtain⟨R,S,I,_⟩:=g.ex;have tk:∀ {x ys},H x=some (.tup ys)->upd k us (.lst (vs++ [v])) x=some (.tup ys):=λ{x ys} h=>by
  have E:x≠sa:=λz=>by rw[z,I.shut]at h;cases h
  have G:x≠c:=λz=>by rw[z,I.book.lst]at h;cases h
  have A:=C.1 x _ E G (I.book.tupNo h) h;rw[yI (λz=>by rw[z,D.at_]at A;cases A)];exact A
 have o2:∀p u,p∉us::ds::sa::c::W->H p=some u->p∉us::ds::sa::c::f/\upd k us (.lst (vs++ [v])) p=some u:=λp u n h=>by
  have E:p≠us:=λz=>n (by rw[z];exact bYx);have G:p≠ds:=λz=>n (by rw[z];simp);have N:p≠sa:=λz=>n (by rw[z];simp);have U:p≠c:=λz=>n (by rw[z];simp);have T:p∉W:=λz=>n (by simp[z]);refine⟨λz=>?_,by rw[yI E];exact C.1 p u N U T h⟩;simp only[bYr,E,G,N,U,false_or]at z;rcases C.2.1 p z with y|y
  ·exact T y
  ·rw[h]at y;cases y
 have et:o.take (i+1)=o.take i++ [e]:=by rw[cQw,F];rfl
 refine⟨m.ne,m.wf,m.len,λj x y h1 A=>tk (m.at_ j x y h1 A),f,as++ [a],vs++ [v],by rw[et];exact w.1,Y.write m.ne D.nb _,w.2,?_⟩;refine Paired.snoc (uP (λv a z=>vT z o2) p) ?_;have t:∀x,v= .ref x->x≠us:=λx ex z=>O x ex (.lst vs) (by intro _ y;cases y) (by rw[z];exact K.at_);have L:∀x,v= .ref x->x≠ds:=λx ex z=>O x ex (.lst (b.map V.ref)) (by intro _ y;cases y) (by rw[z];exact X.at_);have M:∀x u,v= .ref x->x∉sa::c::f->k x=some u->x∉us::ds::sa::c::f/\upd k us (.lst (vs++ [v])) x=some u:=λx u ex n h=>
  ⟨λz=>(bYr.mp z).elim (t x ex) λz=>(bYr.mp z).elim (L x ex) n,by rw[yI (t x ex)];exact h⟩
 cases a with
 |num n=>exact B
 |txt x=>exact B
 |nums l=>obtain⟨x,ex,n,h⟩:=B;exact⟨x,ex,M x _ ex n h⟩
 |txts l=>obtain⟨x,ex,n,h⟩:=B;exact⟨x,ex,M x _ ex n h⟩
 |row r=>obtain⟨x,ex,n,h⟩:=B;exact⟨x,ex,M x _ ex n h⟩
end Law
namespace Law
open PySem L2 PyProof.Rows
open Bk (Row Rows xY xV Ans)
open Desk (xE wY uI Wf wJ stV)
theorem aX8(a:Array Nat):∀ (m:Nat)(b:Array Nat),((cXO m a).foldl (·++·) b).size=b.size+m*a.size
 |0,b=>by simp
 |m+1,b=>by rw[List.replicate_succ,List.foldl_cons,aX8 a m,Array.size_append,Nat.succ_mul];omega
theorem bJB{x:Str}{n:Int}(a:x.length<=1)(e:n<=100):(Txt.mul x n).length<=100:=by
 unfold Txt.mul;split
 ·decide
 ·split
  ·omega
  ·rename_i f _;show((cXO n.toNat x.cps).foldl (·++·) #[]).size<=100;rw[aX8];have b:x.cps.size<=1:=a;have d:n.toNat*x.cps.size<=n.toNat*1:=Nat.mul_le_mul_left _ b;have c:(#[]:Array Nat).size=0:=rfl;omega
inductive bXx(x:V)(y:V)(H:Hp)(Q:VK):Prop|mk (i n) (_:x= .str i) (_:y= .int n) (_:i.length<=1) (_:0<=n) (_:n<=100) (_:∀z:Str,z.length<=100->Q (.str z) H)
theorem aQi{X:Cx}:OpR X (cXX .Mult) bXx:=by
 intro a s σ H x y v u Q I e f h;obtain⟨i,n,rfl,rfl,b,j,c,q⟩:=h;obtain⟨t,rfl⟩:=e;obtain⟨g,rfl⟩:=f;refine SB.mul ⟨?_,λd _=>?_,λd _=>?_⟩ λg k=>⟨.str (Txt.mul i n),H,I.tok _,⟨_,rfl⟩,q _ (bJB b c)⟩
 ·rw[decide_eq_false (by omega),decide_eq_false (by omega)];rfl
 ·have:(1:Int)<=(2 ^ 63 - 1) / n:=Int.le_ediv_of_mul_le (by omega) (by omega);omega
 ·have:i.length*n.toNat<=1*n.toNat:=Nat.mul_le_mul_right _ b;unfold Builtin.Str.tooLong;simp only[decide_eq_false_iff_not,bYR];omega
theorem bZw{l:List V}(h:0<l.length)(x:Int):∃v∈l,atI l (x % (l.length:Nat))=some v:=by
 have d:=Int.emod_nonneg x (show((l.length:Nat):Int)≠0 by omega);have c:=Int.emod_lt_of_pos x (show(0:Int)<((l.length:Nat):Int) by omega);obtain⟨k,b⟩:∃k:Nat,x % (l.length:Nat)=(k:Int):=⟨(x % (l.length:Nat)).toNat,by omega⟩;have a:k<l.length:=by omega
 refine⟨l[k],cXj a,?_⟩;rw[b];exact yS (bYh a)
theorem qX{a:List Int}(h:a≠ [])(x:Int):∃n,atI (a.map V.int) (x % ((a.map V.int).length:Nat))=some (.int n):=by
 obtain⟨v,b,e⟩:=bZw (l:=a.map V.int) (by rw[bYo];exact cQz.mpr h) x;obtain⟨n,_,rfl⟩:=cQm.mp b;exact⟨n,e⟩
theorem aZZ{l:List Nat}(h:l≠ [])(x:Int):∃n,atI (l.map λi=>V.int (i:Nat)) (x % ((l.map λi=>V.int (i:Nat)).length:Nat))=some (.int n):=by
 obtain⟨v,a,e⟩:=bZw (l:=l.map λi=>V.int (i:Nat)) (by rw[bYo];exact cQz.mpr h) x;obtain⟨n,_,rfl⟩:=cQm.mp a;exact⟨n,e⟩
def w6(H:Hp)(v:V):Prop:=∃p e,v= .ref p/\H p=some (.tup (xE e))/\Wf e
theorem w6.same{H d:Hp}{v:V}(h:w6 H v)(k:xA H d):w6 d v:=let ⟨p,e,a,b,c⟩:=h;⟨p,e,a,k _ _ b,c⟩
abbrev W8:Stmt:=xF "_law_hanging"
inductive aZM(vs:List V)(H:Hp)(Q:VK)(_:XK):Prop|mk (ra ca:Nat) (rs:List Nat) (R:Rows) (ns:List Int) (k:Nat) (m:Int) (_:vs= [.ref ra,.ref ca,.int (k:Nat),.int m]) (_:y7 H ra rs R) (_:R.length<=60) (_:H ca=some (.lst (ns.map V.int))) (_:ns≠ []) (_:∀ (H':Hp)(v:V),xA H H'->w6 H' v->Q v H')
section
variable {K:bYk}
theorem aWU:yM ["_law_rows","_law_cells","_law_k","_law_number","_law_near","_law_far","_law_free","_law_goal","_law_fits","_law_j","_law_one"] ["_law_rows","_law_cells","_law_k","_law_number"] (yH W8):=scM
theorem aWg:xH ["_law_rows","_law_cells","_law_k","_law_number","_law_near","_law_far","_law_free","_law_goal","_law_fits","_law_j","_law_one"] (yH W8) "_law_j" ["_law_rows"] [0] (lsN [(".0",.local),("_law_j",.local),("_law_rows",.free)]):=
 lcM
theorem aWA(T:vI mg)(a8:mg "int"=none)(O:FnG P w K mg base 1 "_law_good" ["_law_rows","_law_number"] Z4)(F:Fun K "_law_hanging" "_law_hanging" W8 f fd):y8 P w K mg base CX0 2 f fd ["_law_rows","_law_cells","_law_k","_law_number"] aZM:=by
 have sc:=aWU;refine F.ok (k:=1) sc (λb0 A outer s H vs Q E hr h=>?_);obtain⟨v,ca,rs,R,ns,k,m,rfl,Z,hR,hc,a2,q⟩:=h;refine⟨_,(yC (yT (i:=4) (yL yK (pv 1) (yV y0 (yV zA (pv 2) yE) (yU yQ rfl T.b_len xD (yA (pv 1) yD))))) (yC (yT (i:=5) (yL yK (pv 1) (yV y0 (yV zA (pv 2) yE) (yU yQ rfl T.b_len xD (yA (pv 1) yD))))) (yC (aZy (i:=6) aWg rfl sc.nd rfl rfl (zP rfl T.b_range (yA (yU yQ rfl T.b_len xD (yA (pv 0) yD)) yD)) (λ_ _ _ _ _=>(wN (yN aVh (yL ixK (yL ixK (pv 1) (pv 0)) yE) zB))) (λ_ _ _ _ _=>(pv 0))) (yC (y6 (PW.pt (vQ (yN (jB hr.units0) (pv 6) (y3 yD)) (wV (yN aQW (yV y0 (pv 4) yE) yE)))) (yF (yT (i:=3) (yL yK (pv 6) (yV y0 (pv 5) (yU yQ rfl T.b_len xD (yA (pv 6) yD)))))) yR) (yC (yT (i:=7) (yV wU (yV y0 (yV zA (pv 4) (pv 2)) (yV zA (yU yQ rfl T.b_len xD (yA (pv 0) yD)) yE)) (xT wR rfl a8 jJ (yA (zI x9 (yV y0 (pv 4) yE) yE) yD)))) (yC (yT (i:=8) (y3 yD)) (yC (wE cQd rfl (zP rfl T.b_range (yA (yU yQ rfl T.b_len xD (yA (pv 0) yD)) yD)) (y9 (i:=9)) (yF (y6 (PW.pt (vQ (x6 (xK O hr rfl (yA (pv 0) (yA (pv 3) yD)))) (wV (yN aZt (yL yK (yL yK (pv 0) (pv 9)) yE) (yL yK (yL yK (pv 0) (pv 3)) yE))))) (yC (yT (i:=10) (yL yK (pv 0) (pv 9))) (yF (y6 (PW.pt (vQ (yN x9 (yL yK (pv 10) yE) (yL yK (yL yK (pv 0) (pv 3)) yE)) (wV (yN aYg (yL yK (pv 10) yE) (yL yK (yL yK (pv 0) (pv 3)) yE))))) (yF (yY (uG bYS bYY bYZ xG (pv 8) (yA (pv 9) yD)))) yR))) yR))) (yC (y6 (PW.pt (vQ (yN (jB hr.units0) (pv 8) (y3 yD)) (wV (yN aQW (yV y0 (pv 4) yE) yE)))) (yF (yT (i:=7) (yL yK (pv 8) (yV y0 (yV zA (yV Y3 (pv 4) yE) (pv 2)) (yU yQ rfl T.b_len xD (yA (pv 8) yD)))))) yR) (yF (yP (xM (yA yO (yA (pv 3) (yA (pv 7) yD)))))))))))))),?_⟩;have hl:(rs.map V.ref).length=R.length:=by rw[bYo];exact Z.len
 have S:(0:Int)<((ns.map V.int).length:Nat):=by rw[bYo];have:=cQz.mpr a2;omega
 obtain⟨g,W⟩:=qX a2 ((k:Nat)+1);obtain⟨J,a6⟩:=qX a2 ((k:Nat)+2);refine⟨_,rfl,_,rfl,_,_,rfl,rfl,_,rfl,ca,_,rfl,.inl (SqL.of hc),_,_,rfl,rfl,S,ca,_,_,_,rfl,rfl,SqL.of hc,W,?_⟩;dsimp only[yW];refine⟨_,rfl,_,rfl,_,_,rfl,rfl,_,rfl,ca,_,rfl,.inl (SqL.of hc),_,_,rfl,rfl,S,ca,_,_,_,rfl,rfl,SqL.of hc,a6,?_⟩;dsimp only[yW];refine⟨_,rfl,v,_,rfl,.inl (SqL.of Z.lst),?_⟩;rw[hl];refine⟨_,rfl,by omega,by omega,λD hD=>?_⟩;rw[bYU];refine W5 (λj=>decide (wM (Bk.lk R j)=V.non)) (λk=>V.int (k:Nat)) hD (by rw[bYR];omega) (λj hj X R' hH M=>?_) (λk hk _ X R' hH M=>⟨_,rfl,M⟩) ?_
 ·have N:=bYh hj;obtain⟨b,g1,g2,cp,g3,g4⟩:=Z.get N;have a9:X v=some (.lst (rs.map V.ref)):=by rw[hH v (yJ Z.lst hD)];exact Z.lst
  have hb:X b=_:=(hH b (yJ g3 hD)).trans g3;rw[Bk.vZ N]at M;exact⟨_,rfl,_,rfl,v,_,_,_,rfl,rfl,SqL.of a9,yS g1,b,_,4,_,rfl,rfl,SqL.of hb,rfl,rfl,_,rfl,M⟩
 generalize b2:(bYv R.length).filter (λj=>decide (wM (Bk.lk R j)=V.non))=free;have k1:=yG hD (.lst (free.map λi=>V.int (i:Nat)));have a0:upd H D (.lst (free.map λi=>V.int (i:Nat))) D=some (.lst (free.map λi=>V.int (i:Nat))):=yB;generalize upd H D (.lst (free.map λi=>V.int (i:Nat)))=H1 at k1 a0 ⊢;dsimp only[yW];refine x8 (λB X=>∃m':Int,B= [some (.ref v),some (.ref ca),some (.int (k:Nat)),some (.int m'),some (.int g),some (.int J),some (.ref D),none,none,none,none]/\xA H X) ?jT (λd=>?_);case jT=>
  rintro B H2 ⟨m',rfl,k2⟩;have a5:=Z.same k2;refine⟨_,rfl,_,rfl,_,_,rfl,rfl,_,rfl,v,_,rfl,.inl (SqL.of a5.lst),_,_,rfl,rfl,_,_,rfl,rfl,(show(0:Int)<(((rs.map V.ref).length:Nat):Int)+1 by omega),_,rfl,_,_,rfl,rfl,(show(0:Int)<11 by decide),rfl,.inr ⟨_,rfl,_,_,rfl,rfl,?_⟩⟩;dsimp only[yW];refine⟨z0,λU a1=>?_⟩;dsimp only[yW];refine⟨_,rfl,v,_,rfl,.inl (SqL.of ((yG a1 (.lst [])) _ _ a5.lst)),?_⟩;rw[hl];refine⟨_,rfl,by omega,by omega,?_⟩;rw[bYU];have a4:H U=none:=k2.fresh a1;generalize ((g+(k:Nat)) % ((R.length:Nat)+1) - if decide (V.int (g % 11)=V.int 5)=true then 1 else 0)=goal;refine vL (λt σ H3=>∃ (a:List Nat)(o9 L:Option V),σ= [some (.ref v),some (.ref ca),some (.int (k:Nat)),some (.int m'),some (.int g),some (.int J),some (.ref D),some (.int goal),some (.ref U),o9,L]/\xA H H3/\H3 U=some (.lst (a.map λi=>V.int (i:Nat)))/\a.length<=t) ?_ ?_ ?_
  ·exact⟨[],none,none,rfl,k2.trans (yG a1 _),yB,bYp _⟩
  ·rintro j σ H3 hj ⟨a,o9,L,rfl,I,n,a7⟩;rw[cZi];dsimp only[yW];have u:=Z.same I;have N:=bYh hj;obtain⟨bj,j1,j2,cj,j3,j4⟩:=u.get N;refine⟨_,rfl,_,rfl,v,rs,R,m',rfl,u,_,rfl,?_⟩;cases h1:Bk.wI R m' with
   |false=>exact onF rfl (onF rfl ⟨a,_,_,rfl,I,n,by omega⟩)
   |true=>
   obtain⟨i,r,rfl,b1,hi,hv⟩:=Bk.z6 h1;obtain⟨b,g1,g2,cp,g3,g4⟩:=u.get hi;refine onT rfl ⟨_,rfl,_,rfl,v,_,_,_,rfl,rfl,SqL.of u.lst,yS j1,bj,_,0,_,rfl,rfl,SqL.of j3,rfl,_,rfl,_,rfl,v,_,_,_,rfl,rfl,SqL.of u.lst,yS g1,b,_,0,_,rfl,rfl,SqL.of g3,rfl,rfl,_,rfl,?_⟩;refine qD (λc1=>?_) (λc1=>?_)
   ·refine⟨_,rfl,_,rfl,v,_,_,_,rfl,rfl,SqL.of u.lst,yS j1,?_⟩;dsimp only[yW];refine⟨_,rfl,bj,_,2,_,rfl,rfl,SqL.of j3,rfl,_,rfl,_,rfl,v,_,_,_,rfl,rfl,SqL.of u.lst,yS g1,b,_,2,_,rfl,rfl,SqL.of g3,rfl,rfl,_,rfl,?_⟩;rw[wO];cases h2:decide (R[j].partner=r.partner)with
    |false=>exact onF rfl (onF rfl ⟨a,_,_,rfl,I,n,by omega⟩)
    |true=>
    refine onT rfl ⟨_,rfl,bj,_,1,_,rfl,rfl,SqL.of j3,rfl,_,rfl,_,rfl,v,_,_,_,rfl,rfl,SqL.of u.lst,yS g1,b,_,1,_,rfl,rfl,SqL.of g3,rfl,_,_,rfl,rfl,_,rfl,?_⟩;refine qD (λc2=>?_) (λc2=>?_)
    ·refine⟨_,rfl,.inl ⟨rfl,_,SqL.of n⟩,_,rfl,U,_,_,rfl,rfl,n,zlt (by rw[bYo];omega),?_⟩;have e5:(a.map λi=>V.int (i:Nat))++ [V.int (j:Nat)]=(a++ [j]).map λi=>V.int (i:Nat):=by simp
     rw[e5];refine⟨a++ [j],_,_,rfl,λx o e=>?_,yB,by rw[bYM];simp;omega⟩;rw[yI (λz=>by rw[z,a4]at e;cases e)];exact I _ _ e
    ·exact⟨a,_,_,rfl,I,n,by omega⟩
   ·exact⟨a,_,_,rfl,I,n,by omega⟩
  ·rintro σ H3 ⟨a,o9,L,rfl,I,n,a7⟩;dsimp only[aW4];refine x8 (λB X=>∃g':Int,B= [some (.ref v),some (.ref ca),some (.int (k:Nat)),some (.int m'),some (.int g),some (.int J),some (.ref D),some (.int g'),some (.ref U),o9,L]/\xA H X) ?rest2 (λd=>?_);case rest2=>
    rintro B H4 ⟨g',rfl,k4⟩;refine⟨_,rfl,_,rfl,z3,λp hp=>?_⟩;exact q _ _ (k4.trans (yG hp _)) ⟨p,.hang m' g',rfl,yB,trivial⟩
   refine⟨_,rfl,z0,λpn G=>⟨U,pn,_,rfl,rfl,SqL.of ((yG G (.lst [])) _ _ n),SqL.of yB,_,rfl,?_⟩⟩;have C:=yG G (.lst []);generalize upd H3 pn (.lst [])=H4 at C ⊢;by_cases l:a= []
   ·subst l;exact onF rfl (onF rfl (d _ _ ⟨goal,rfl,I.trans C⟩))
   refine onT (by cases a with|nil=>exact absurd rfl l|cons=>rfl) ⟨_,rfl,_,_,rfl,rfl,(show(0:Int)<7 by decide),_,_,rfl,rfl,_,rfl,?_⟩;refine qD (λc=>?_) (λc=>d _ _ ⟨goal,rfl,I.trans C⟩);obtain⟨g',a3⟩:=aZZ l (g / 7+(k:Nat));have y:=C _ _ n;have Y:(0:Int)<((a.map λi=>V.int (i:Nat)).length:Nat):=by rw[bYo];have:=cQz.mpr l;omega
   refine⟨_,rfl,_,rfl,_,_,rfl,rfl,⟨by decide,by decide⟩,_,rfl,_,_,rfl,rfl,_,rfl,U,_,rfl,.inl (SqL.of y),_,_,rfl,rfl,Y,U,_,_,_,rfl,rfl,SqL.of y,a3,?_⟩;dsimp only[yW];exact d _ _ ⟨g',rfl,I.trans C⟩
 refine⟨_,rfl,z0,λpn G=>⟨D,pn,_,rfl,rfl,SqL.of ((yG G (.lst [])) _ _ a0),SqL.of yB,_,rfl,?_⟩⟩;have C:=yG G (.lst []);generalize upd H1 pn (.lst [])=H4 at C ⊢;by_cases l:free= []
 ·subst l;exact onF rfl (onF rfl (d _ _ ⟨m,rfl,k1.trans C⟩))
 refine onT (by cases free with|nil=>exact absurd rfl l|cons=>rfl) ⟨_,rfl,_,_,rfl,rfl,(show(0:Int)<5 by decide),_,_,rfl,rfl,_,rfl,?_⟩;refine qD (λc=>?_) (λc=>d _ _ ⟨m,rfl,k1.trans C⟩);obtain⟨g',a3⟩:=aZZ l J;have y:=C _ _ a0;have Y:(0:Int)<((free.map λi=>V.int (i:Nat)).length:Nat):=by rw[bYo];have:=cQz.mpr l;omega
 refine⟨_,rfl,_,rfl,_,rfl,D,_,rfl,.inl (SqL.of y),_,_,rfl,rfl,Y,D,_,_,_,rfl,rfl,SqL.of y,a3,?_⟩;dsimp only[yW];exact d _ _ ⟨g',rfl,k1.trans C⟩
end
end Law
namespace Law
open PySem L2 PyProof.Rows
open Bk (Row Rows xY xV Ans)
open Desk (xE wY uI Wf wJ stV)
theorem bQR{K:bYk}{x i:V}{H:Hp}{Q:VK}{a:Nat}{xs:List V}{j:Int}(e:x= .ref a)(d:i= .int j)(c:SqL K H a xs)(h0:0<=j)(f:j<(xs.length:Nat))(q:∀v∈xs,Q v H):bVN K x i H Q:=by
 obtain⟨k,rfl⟩:∃k:Nat,j=(k:Int):=⟨j.toNat,by omega⟩;have b:k<xs.length:=by omega
 exact⟨a,xs,_,_,e,d,c,yS (bYh b),q _ (cXj b)⟩
theorem jM{K:bYk}{x i:V}{H:Hp}{Q:VK}{a:Nat}{xs:List V}{j:Int}(e:x= .ref a)(d:i= .int j)(b:SqL K H a xs)(h0:0<=j)(f:j<(xs.length:Nat))(c:∀v∈xs,∃n,v= .int n)(q:∀n,V.int n∈xs->Q (.int n) H):bVN K x i H Q:=
 bQR e d b h0 f λv m=>by obtain⟨n,rfl⟩:=c v m;exact q n m
theorem Q6{K:bYk}{x i:V}{H:Hp}{Q:VK}{a:Nat}{xs:List V}{j:Int}(e:x= .ref a)(d:i= .int j)(b:SqL K H a xs)(h0:0<=j)(f:j<(xs.length:Nat))(c:∀v∈xs,∃n,v= .str n)(q:∀n,V.str n∈xs->Q (.str n) H):bVN K x i H Q:=
 bQR e d b h0 f λv m=>by obtain⟨n,rfl⟩:=c v m;exact q n m
theorem b0{b:Bool}:(0:Int)<=(if b=true then 1 else 0):=by split<;> decide
theorem b1{b:Bool}:(if b=true then(1:Int)else 0)<2:=by split<;> decide
theorem md0{x n:Int}(h:0<n):0<=x % n:=Int.emod_nonneg x (by omega)
theorem md1{x n:Int}(h:0<n):x % n<n:=Int.emod_lt_of_pos x h
structure jI(H0 H:Hp)(ma:Nat)(n:Nat):Prop where
 k:xA H0 H
 new:H0 ma=none
 ex:∃vs,H ma=some (.lst vs)/\vs.length=n/\∀v∈vs,w6 H v
theorem jI.same{f H e:Hp}{d:Nat}{n:Nat}(m:jI f H d n)(k:xA H e):jI f e d n:=
 ⟨m.k.trans k,m.new,let ⟨vs,a,b,c⟩:=m.ex;⟨vs,k _ _ a,b,λv g=>(c v g).same k⟩⟩
theorem jI.push{j H:Hp}{d:Nat}{n:Nat}(m:jI j H d n){vs:List V}(e:H d=some (.lst vs)){v:V}(l:w6 H v):jI j (upd H d (.lst (vs++ [v]))) d (n+1):=by
 obtain⟨k,f,q,a,b,c⟩:=m;rw[e]at a;cases a;have r:∀v,w6 H v->w6 (upd H d (.lst (vs++ [v]))) v:=λv ⟨p,e',h1,h2,h3⟩=>⟨p,e',h1,by rw[yI (λz=>by rw[z,e]at h2;cases h2)];exact h2,h3⟩;have i:∀v x,w6 H v->w6 (upd H d x) v:=λv x ⟨p,e',h1,h2,h3⟩=>⟨p,e',h1,by rw[yI (λz=>by rw[z,e]at h2;cases h2)];exact h2,h3⟩;refine⟨λx o h=>by rw[yI (λz=>by rw[z,f]at h;cases h)];exact k _ _ h,f,_,yB,by simp[b],λu g=>?_⟩;rcases bYX.mp g with g|g
 ·exact i _ _ (c u g)
 ·rw[bYz.mp g];exact i _ _ l
theorem bX7{v:V}{i:Nat}{u:TS}{D:aZV}{σ:L2.St}{H:Hp}(h:u D (σ.set i (some v)) H):bKa (bW8 (tC v) (yW i)) u D σ H:=h
abbrev aVs:Stmt:=xF "_law_about"
inductive aY4(vs:List V)(H:Hp)(Q:VK)(_:XK):Prop|mk (ra ca:Nat) (rs:List Nat) (R:Rows) (ns:List Int) (k:Nat) (m turn:Int) (_:vs= [.ref ra,.ref ca,.int (k:Nat),.int m,.int turn]) (_:y7 H ra rs R) (_:R.length<=60) (_:H ca=some (.lst (ns.map V.int))) (_:k<ns.length) (_:15<=turn) (_:turn<24) (_:∀ (H':Hp)(v:V),xA H H'->w6 H' v->Q v H')
section
variable {K:bYk}
theorem bXL:yM ["_law_rows","_law_cells","_law_k","_law_number","_law_turn","_law_near","_law_far","_law_base","_law_tied","_law_name","_law_way","_law_further","_law_menu","_law_stop","_law_asks"] ["_law_rows","_law_cells","_law_k","_law_number","_law_turn"] (yH aVs):=scM
theorem bQW:xH ["_law_rows","_law_cells","_law_k","_law_number","_law_turn","_law_near","_law_far","_law_base","_law_tied","_law_name","_law_way","_law_further","_law_menu","_law_stop","_law_asks"] (yH aVs) "_law_j" ["_law_rows"] [0] (lsN [(".0",.local),("_law_j",.local),("_law_rows",.free)]):=
 lcM
seal PE PA PS PSs PT in
theorem bXb(T:vI mg)(a0:mg "int"=none)(S:FnG P w K mg base 1 "_law_good" ["_law_rows","_law_number"] Z4)(F:Fun K "_law_about" "_law_about" aVs f fd):y8 P w K mg base CX0 2 f fd ["_law_rows","_law_cells","_law_k","_law_number","_law_turn"] aY4:=by
 have sc:=bXL;refine F.ok (k:=1) sc (λj2 A outer s H vs Q E hr h=>?_);obtain⟨ra,ca,rs,R,ns,k,m,turn,rfl,X,hR,hc,a9,j1,j5,q⟩:=h;refine⟨_,(yC (yT (i:=5) (yL yK (pv 1) (yV y0 (yV zA (pv 2) yE) (yU yQ rfl T.b_len xD (yA (pv 1) yD))))) (yC (yT (i:=6) (yL yK (pv 1) (yV y0 (yV zA (pv 2) yE) (yU yQ rfl T.b_len xD (yA (pv 1) yD))))) (yC (yT (i:=7) yE) (yC (y6 (x6 (xK S hr rfl (yA (pv 0) (yA (pv 3) yD)))) (yF (yT (i:=7) (yL yK (yL yK (pv 0) (pv 3)) yE))) yR) (yC (aZy (i:=8) bQW rfl sc.nd rfl rfl (zP rfl T.b_range (yA (yU yQ rfl T.b_len xD (yA (pv 0) yD)) yD)) (λ_ _ _ _ _=>(wN (yN wG (yL ixK (yL ixK (pv 1) (pv 0)) yE) zB))) (λ_ _ _ _ _=>(pv 0))) (yC (y6 (PW.pt (vQ (yN x9 (pv 4) yE) (vQ (yN (jB hr.units0) (pv 8) (y3 yD)) (wV (yN aQW (yV y0 (pv 5) yE) yE))))) (yF (yT (i:=3) (yL yK (pv 8) (yV y0 (pv 6) (yU yQ rfl T.b_len xD (yA (pv 8) yD)))))) yR) (yC (yT (i:=9) (yL yK (y3 (yA yO (yA yO (yA yO (yA yO (yA yO (yA (yV aQi yO yE) yD))))))) (yV y0 (pv 5) (yL yK (y3 (yA yE (yA yE yD))) (yV y0 (yL yK (pv 1) (pv 2)) yE))))) (yC (yT (i:=10) (xT wR rfl a0 jJ (yA (zI x9 (yV y0 (yL yK (pv 1) (pv 2)) yE) yE) yD))) (yC (yT (i:=11) (yV wU (yV zA (pv 7) (yV y0 (pv 5) (yL yK (y3 (yA yE (yA yE yD))) (pv 10)))) (yL yK (y3 (yA yE (yA yE yD))) (pv 10)))) (yC (yT (i:=12) (y3 (yA (xM (yA yO (yA (pv 3) yD))) (yA (xM (yA yO (yA (pv 3) (yA (pv 11) yD)))) yD)))) (yC (yY (uG bYS bYY bYZ xG (pv 12) (yA (xM (yA yO (yA (pv 3) (yA (yL yK (y3 (yA yE (yA yE (yA yE (yA yE (yA (aYl aZR yE) yD)))))) (yV y0 (pv 5) yE)) yD)))) yD))) (yC (yY (uG bYS bYY bYZ xG (pv 12) (yA (xM (yA yO (yA (pv 3) (yA (yL yK (y3 (yA yO (yA yO (yA yO (yA yO (yA yO (yA (yV aQi yO yE) yD))))))) (yV y0 (pv 5) yE)) yD)))) yD))) (yC (yT (i:=13) (yL yK (y3 (yA (yV wU (yV y0 (pv 5) yE) yE) (yA (yV zA (pv 7) (yV y0 (pv 5) yE)) yD))) (xT wR rfl a0 jJ (yA (zI x9 (yV y0 (pv 6) yE) yE) yD)))) (yC (yT (i:=12) (yV aYf (pv 12) (y3 (yA (xM (yA yO (yA (pv 3) (yA (pv 9) yD)))) (yA (xM (yA yO (yA (pv 3) yD))) (yA (xM (yA yO (yA (pv 13) yD))) yD)))))) (yC (yT (i:=14) (y3 (yA (xM (yA yO (yA (pv 3) yD))) (yA (xM (yA yO (yA (pv 3) yD))) (yA (xM (yA yO (yA (yV wU (yV y0 (pv 6) yE) yE) yD))) yD))))) (yC (yT (i:=14) (yV aYf (pv 14) (y3 (yA (xM (yA yO (yA (pv 9) yD))) (yA (xM (yA yO (yA (yV wU (yV y0 (pv 6) yE) yE) yD))) (yA (xM (yA yO (yA (pv 3) yD))) yD)))))) (yC (y6 (yN vF (pv 4) yE) (yF (yP (yL yK (pv 12) (yV wU (pv 4) yE)))) yR) (yF (yP (yL yK (pv 14) (yV y0 (yV zA (yV Y3 (pv 5) yE) (pv 4)) yE))))))))))))))))))))),?_⟩;have b5:ns≠ []:=λz=>by rw[z]at a9;simp at a9
 have hl:(rs.map V.ref).length=R.length:=by rw[bYo];exact X.len
 have U:(0:Int)<((ns.map V.int).length:Nat):=by rw[bYo];have:=cQz.mpr b5;omega
 have c8:(ns.map V.int)[k]? =some (.int ns[k]):=by rw[bYC,bYh a9];rfl
 obtain⟨d,a4⟩:=qX b5 ((k:Nat)+1);obtain⟨g,c9⟩:=qX b5 ((k:Nat)+2);refine⟨_,rfl,_,rfl,_,_,rfl,rfl,_,rfl,ca,_,rfl,.inl (SqL.of hc),_,_,rfl,rfl,U,ca,_,_,_,rfl,rfl,SqL.of hc,a4,?_⟩;dsimp only[yW];refine⟨_,rfl,_,rfl,_,_,rfl,rfl,_,rfl,ca,_,rfl,.inl (SqL.of hc),_,_,rfl,rfl,U,ca,_,_,_,rfl,rfl,SqL.of hc,c9,?_⟩;dsimp only[yW];refine bX7 ?_;refine x8 (λo t=>∃bs:Int,o= [some (.ref ra),some (.ref ca),some (.int (k:Nat)),some (.int m),some (.int turn),some (.int d),some (.int g),some (.int bs),none,none,none,none,none,none,none]/\t=H) ?jT (λl=>?_);case jT=>
  rintro o t ⟨bs,rfl,rfl⟩;refine⟨_,rfl,ra,_,rfl,.inl (SqL.of X.lst),?_⟩;rw[hl];refine⟨_,rfl,by omega,by omega,λD hD=>?_⟩;rw[bYU];refine W5 (λj=> !decide (wM (Bk.lk R j)=V.non)) (λk=>V.int (k:Nat)) hD (by rw[bYR];omega) (λj hj H1 R' hH J=>?_) (λk hk _ t R' hH J=>⟨_,rfl,J⟩) ?_
  ·have d3:=bYh hj;obtain⟨b,Z,g2,cp,p,L⟩:=X.get d3;have e4:H1 ra=some (.lst (rs.map V.ref)):=by rw[hH ra (yJ X.lst hD)];exact X.lst
   have hb:H1 b=_:=(hH b (yJ p hD)).trans p;rw[Bk.vZ d3]at J;exact⟨_,rfl,_,rfl,ra,_,_,_,rfl,rfl,SqL.of e4,yS Z,b,_,4,_,rfl,rfl,SqL.of hb,rfl,rfl,_,rfl,J⟩
  generalize j6:(bYv R.length).filter (λj=> !decide (wM (Bk.lk R j)=V.non))=free;have k1:=yG hD (.lst (free.map λi=>V.int (i:Nat)));have b2:upd t D (.lst (free.map λi=>V.int (i:Nat))) D=some (.lst (free.map λi=>V.int (i:Nat))):=yB;generalize upd t D (.lst (free.map λi=>V.int (i:Nat)))=H1 at k1 b2 ⊢;dsimp only[yW];refine x8 (λo H2=>∃m:Int,o= [some (.ref ra),some (.ref ca),some (.int (k:Nat)),some (.int m),some (.int turn),some (.int d),some (.int g),some (.int bs),some (.ref D),none,none,none,none,none,none]/\xA t H2) ?rest2 (λl=>?_);case rest2=>
   rintro o H2 ⟨m,rfl,k2⟩;refine⟨_,_,rfl,rfl,by decide,by decide,by decide,λC i5=>⟨zn (by show 6<=100000;omega),λl6 i3=>?_⟩⟩;have e6:=yG i3 (.lst [.str "old",.str "",.str "new",.str "old files",.str "Old, ~",.str C]);have h6:upd H2 l6 (.lst [.str "old",.str "",.str "new",.str "old files",.str "Old, ~",.str C]) l6=some (.lst [.str "old",.str "",.str "new",.str "old files",.str "Old, ~",.str C]):=yB;generalize upd H2 l6 (.lst [.str "old",.str "",.str "new",.str "old files",.str "Old, ~",.str C])=H3 at e6 h6 ⊢;refine⟨_,rfl,z2,λl2 e3=>?_⟩;have e7:=yG e3 (.lst [.int 3,.int 6]);have h7:upd H3 l2 (.lst [.int 3,.int 6]) l2=some (.lst [.int 3,.int 6]):=yB;have e1:=e7 _ _ h6;have k4:=(k2.trans e6).trans e7;generalize upd H3 l2 (.lst [.int 3,.int 6])=H4 at e7 h7 e1 k4 ⊢;have e2:=k4 _ _ hc;refine⟨_,rfl,_,rfl,ca,_,_,_,rfl,rfl,SqL.of e2,yS c8,_,_,rfl,rfl,(show(0:Int)<2 by decide),?_⟩;refine jM rfl rfl (SqL.of h7) (md0 (by decide)) (md1 (by decide)) (by simp) λj hj=>?_;have i7:j=3\/j=6:=by simpa using hj
   refine⟨_,_,rfl,rfl,(show(0:Int)<j by omega),?_⟩;refine Q6 rfl rfl (SqL.of e1) (md0 (by omega)) (Int.lt_of_lt_of_le (md1 (by omega)) (show j<=6 by omega)) (by simp) λe _=>?_;dsimp only[yW];refine⟨_,rfl,_,rfl,ca,_,_,_,rfl,rfl,SqL.of e2,yS c8,_,_,rfl,rfl,(show(0:Int)<11 by decide),rfl,.inr ⟨_,rfl,?_⟩⟩;generalize i6:decide (V.int (ns[k] % 11)=V.int 4)=wb;dsimp only[yW];refine⟨_,rfl,_,rfl,z2,λl9 h9=>⟨_,rfl,?_⟩⟩;have e9:=yG h9 (.lst [.int 9,.int 3001]);refine jM rfl rfl (SqL.of yB) b0 b1 (by simp) λj hj=>?_;have i8:j=9\/j=3001:=by simpa using hj
   refine⟨_,_,rfl,rfl,(show(0:Int)<j by omega),_,_,rfl,rfl,z2,λl4 i0=>⟨_,rfl,?_⟩⟩;have B:=(k4.trans e9).trans (yG i0 (.lst [.int 4,.int 1500]));refine jM rfl rfl (SqL.of yB) b0 b1 (by simp) λj4 _=>?_;refine⟨_,_,rfl,rfl,?_⟩;generalize upd (upd H4 l9 (.lst [.int 9,.int 3001])) l4 (.lst [.int 4,.int 1500])=H5 at B ⊢;dsimp only[yW];refine⟨_,rfl,z2,λp1 g0=>⟨_,rfl,_,rfl,z3,λp2 a8=>⟨z2,λY d9=>?_⟩⟩⟩;have M1:jI t (upd (upd (upd H5 p1 (.tup [.str "loose",.int m])) p2 (.tup [.str "date",.int m,.int (bs+d % j - j4)])) Y (.lst [.ref p1,.ref p2])) Y 2:=by
    have a1:=yG g0 (.tup [.str "loose",.int m]);have a2:=yG a8 (.tup [.str "date",.int m,.int (bs+d % j - j4)]);have a3:=yG d9 (.lst [.ref p1,.ref p2]);refine⟨((B.trans a1).trans a2).trans a3,((B.trans a1).trans a2).fresh d9,_,yB,rfl,λv a=>?_⟩;rcases bYr.mp a with rfl|a
    ·exact⟨p1,.loose m,rfl,a3 _ _ (a2 _ _ yB),trivial⟩
    ·rw[bYz.mp a];exact⟨p2,.date m (bs+d % j - j4),rfl,a3 _ _ yB,trivial⟩
   generalize upd (upd (upd H5 p1 (.tup [.str "loose",.int m])) p2 (.tup [.str "date",.int m,.int (bs+d % j - j4)])) Y (.lst [.ref p1,.ref p2])=H6 at M1 ⊢;dsimp only[yW];obtain⟨g7,c7, -, -⟩:=M1.ex;refine⟨_,rfl,.inl ⟨rfl,_,SqL.of c7⟩,_,rfl,_,rfl,zn (by show 5<=100000;omega),λl5 f6=>⟨_,rfl,_,_,rfl,rfl,(show(0:Int)<5 by decide),?_⟩⟩;refine jM rfl rfl (SqL.of yB) (md0 (by decide)) (md1 (by decide)) (by simp) λtm _=>⟨z3,λp3 i2=>?_⟩;have a5:=(yG f6 (.lst [.int 0,.int 2,.int 6,.int 1,.int (-1)])).trans (yG i2 (.tup [.str "term",.int m,.int tm]));have d5:w6 (upd (upd H6 l5 (.lst [.int 0,.int 2,.int 6,.int 1,.int (-1)])) p3 (.tup [.str "term",.int m,.int tm])) (.ref p3):=⟨p3,.term m tm,rfl,yB,trivial⟩;generalize upd (upd H6 l5 (.lst [.int 0,.int 2,.int 6,.int 1,.int (-1)])) p3 (.tup [.str "term",.int m,.int tm])=H7 at a5 d5 ⊢;have M2:=M1.same a5;have b3:=a5 _ _ c7;refine⟨Y,_,_,rfl,rfl,b3,?_,?_⟩
   ·obtain⟨ws,w1,w2,_⟩:=M2.ex;rw[b3]at w1;cases w1;exact zlt (by omega)
   have M3:=M2.push b3 d5;generalize upd H7 Y (.lst (g7++ [.ref p3]))=H8 at M3 ⊢;obtain⟨g9,d0, -, -⟩:=M3.ex;refine⟨_,rfl,.inl ⟨rfl,_,SqL.of d0⟩,_,rfl,_,_,rfl,rfl,by decide,by decide,by decide,λz4 j0=>⟨zn (by show 6<=100000;omega),λl7 f9=>⟨_,rfl,_,_,rfl,rfl,(show(0:Int)<6 by decide),?_⟩⟩⟩;refine Q6 rfl rfl (SqL.of yB) (md0 (by decide)) (md1 (by decide)) (by simp) λy _=>⟨z3,λp4 f8=>?_⟩;have a7:=(yG f9 (.lst [.str "ann",.str "cy",.str "bo",.str "",.str "ann lee",.str z4])).trans (yG f8 (.tup [.str "copy",.int m,.str y]));have d7:w6 (upd (upd H8 l7 (.lst [.str "ann",.str "cy",.str "bo",.str "",.str "ann lee",.str z4])) p4 (.tup [.str "copy",.int m,.str y])) (.ref p4):=⟨p4,.copy m y,rfl,yB,trivial⟩;generalize upd (upd H8 l7 (.lst [.str "ann",.str "cy",.str "bo",.str "",.str "ann lee",.str z4])) p4 (.tup [.str "copy",.int m,.str y])=H9 at a7 d7 ⊢;have M4:=M3.same a7;have b7:=a7 _ _ d0;refine⟨Y,_,_,rfl,rfl,b7,?_,?_⟩
   ·obtain⟨ws,w1,w2,_⟩:=M4.ex;rw[b7]at w1;cases w1;exact zlt (by omega)
   have M5:=M4.push b7 d7;generalize upd H9 Y (.lst (g9++ [.ref p4]))=H10 at M5 ⊢;refine⟨_,rfl,_,_,rfl,rfl,(show(0:Int)<24 by decide),_,_,rfl,rfl,_,rfl,_,rfl,_,_,rfl,rfl,(show(0:Int)<12 by decide),_,_,rfl,rfl,z2,λl8 i4=>⟨_,rfl,_,_,rfl,rfl,(show(0:Int)<3 by decide),rfl,.inr ⟨_,rfl,?_⟩⟩⟩;refine jM rfl rfl (SqL.of yB) b0 b1 (by simp) λn _=>?_;have M6:=M5.same (yG i4 (.lst [.int (d % 24 - 2),.int (bs+d % 12)]));generalize upd H10 l8 (.lst [.int (d % 24 - 2),.int (bs+d % 12)])=H11 at M6 ⊢;dsimp only[yW];obtain⟨a6,e5,d4,i1⟩:=M6.ex;refine⟨_,rfl,_,rfl,_,rfl,z3,λI h5=>⟨_,rfl,z2,λN h3=>⟨_,rfl,z2,λx h0=>⟨z3,λb4 b9=>?_⟩⟩⟩⟩;have c1:=yG h5 (.tup [.str "file",.int m,.str e]);have c2:=yG h3 (.tup [.str "void",.int m]);have c3:=yG h0 (.tup [.str "shut",.int n]);have c4:=yG b9 (.lst [.ref I,.ref N,.ref x]);refine⟨Y,b4,_,_,rfl,rfl,c4 _ _ (c3 _ _ (c2 _ _ (c1 _ _ e5))),yB,by rw[d4,bYR];show 7<=16777216;omega,λmb d8=>?_⟩;have c5:=yG d8 (.lst (a6++ [.ref I,.ref N,.ref x]));have M7:jI t (upd (upd (upd (upd (upd H11 I (.tup [.str "file",.int m,.str e])) N (.tup [.str "void",.int m])) x (.tup [.str "shut",.int n])) b4 (.lst [.ref I,.ref N,.ref x])) mb (.lst (a6++ [.ref I,.ref N,.ref x]))) mb 7:=by
    have W:=(((M6.k.trans c1).trans c2).trans c3).trans c4;refine⟨W.trans c5,W.fresh d8,_,yB,by rw[bYM,d4];rfl,λv a=>?_⟩;rcases bYX.mp a with a|a
    ·exact(i1 v a).same ((((c1.trans c2).trans c3).trans c4).trans c5)
    ·rcases bYr.mp a with rfl|a
     ·exact⟨I,.file m e,rfl,c5 _ _ (c4 _ _ (c3 _ _ (c2 _ _ yB))),trivial⟩
     ·rcases bYr.mp a with rfl|a
      ·exact⟨N,.void m,rfl,c5 _ _ (c4 _ _ (c3 _ _ yB)),trivial⟩
      ·rw[bYz.mp a];exact⟨x,.shut n,rfl,c5 _ _ (c4 _ _ yB),trivial⟩
   generalize upd (upd (upd (upd (upd H11 I (.tup [.str "file",.int m,.str e])) N (.tup [.str "void",.int m])) x (.tup [.str "shut",.int n])) b4 (.lst [.ref I,.ref N,.ref x])) mb (.lst (a6++ [.ref I,.ref N,.ref x]))=H12 at M7 ⊢;dsimp only[yW];refine⟨_,rfl,z2,λr1 f5=>⟨_,rfl,z2,λr2 g8=>⟨_,rfl,_,_,rfl,rfl,(show(0:Int)<26 by decide),_,_,rfl,rfl,z2,λr3 g6=>⟨z3,λna c6=>?_⟩⟩⟩⟩;have f1:=yG f5 (.tup [.str "state",.int m]);have f2:=yG g8 (.tup [.str "thread",.int m]);have f3:=yG g6 (.tup [.str "overdue",.int (g % 26 - 1)]);have f4:=yG c6 (.lst [.ref r1,.ref r2,.ref r3]);have M8:=(((M7.same f1).same f2).same f3).same f4;have N1:jI t (upd (upd (upd (upd H12 r1 (.tup [.str "state",.int m])) r2 (.tup [.str "thread",.int m])) r3 (.tup [.str "overdue",.int (g % 26 - 1)])) na (.lst [.ref r1,.ref r2,.ref r3])) na 3:=by
    have W:=((M7.k.trans f1).trans f2).trans f3;refine⟨W.trans f4,W.fresh c6,_,yB,rfl,λv a=>?_⟩;rcases bYr.mp a with rfl|a
    ·exact⟨r1,.state m,rfl,f4 _ _ (f3 _ _ (f2 _ _ yB)),trivial⟩
    ·rcases bYr.mp a with rfl|a
     ·exact⟨r2,.thread m,rfl,f4 _ _ (f3 _ _ yB),trivial⟩
     ·rw[bYz.mp a];exact⟨r3,.on true (g % 26 - 1),rfl,f4 _ _ yB,trivial⟩
   generalize upd (upd (upd (upd H12 r1 (.tup [.str "state",.int m])) r2 (.tup [.str "thread",.int m])) r3 (.tup [.str "overdue",.int (g % 26 - 1)])) na (.lst [.ref r1,.ref r2,.ref r3])=H13 at M8 N1 ⊢;dsimp only[yW];obtain⟨b6,e8,d2,h4⟩:=N1.ex;refine⟨_,rfl,_,rfl,z2,λu h8=>⟨_,rfl,_,_,rfl,rfl,(show(0:Int)<26 by decide),_,_,rfl,rfl,z2,λG f0=>⟨_,rfl,z2,λM f7=>⟨z3,λb8 e0=>?_⟩⟩⟩⟩;have Z:=yG h8 (.tup [.str "letters",.str e]);have g2:=yG f0 (.tup [.str "waiting",.int (g % 26 - 1)]);have p:=yG f7 (.tup [.str "copies",.int m]);have L:=yG e0 (.lst [.ref u,.ref G,.ref M]);refine⟨na,b8,_,_,rfl,rfl,L _ _ (p _ _ (g2 _ _ (Z _ _ e8))),yB,by rw[d2,bYR];show 6<=16777216;omega,λnb d1=>?_⟩;have g5:=yG d1 (.lst (b6++ [.ref u,.ref G,.ref M]));have M9:=((((M8.same Z).same g2).same p).same L).same g5;have N2:jI t (upd (upd (upd (upd (upd H13 u (.tup [.str "letters",.str e])) G (.tup [.str "waiting",.int (g % 26 - 1)])) M (.tup [.str "copies",.int m])) b8 (.lst [.ref u,.ref G,.ref M])) nb (.lst (b6++ [.ref u,.ref G,.ref M]))) nb 6:=by
    have W:=(((M8.k.trans Z).trans g2).trans p).trans L;refine⟨W.trans g5,W.fresh d1,_,yB,by rw[bYM,d2];rfl,λv a=>?_⟩;rcases bYX.mp a with a|a
    ·exact(h4 v a).same ((((Z.trans g2).trans p).trans L).trans g5)
    ·rcases bYr.mp a with rfl|a
     ·exact⟨u,.letters e,rfl,g5 _ _ (L _ _ (p _ _ (g2 _ _ yB))),trivial⟩
     ·rcases bYr.mp a with rfl|a
      ·exact⟨G,.on false (g % 26 - 1),rfl,g5 _ _ (L _ _ (p _ _ yB)),trivial⟩
      ·rw[bYz.mp a];exact⟨M,.copies m,rfl,g5 _ _ (L _ _ yB),trivial⟩
   generalize upd (upd (upd (upd (upd H13 u (.tup [.str "letters",.str e])) G (.tup [.str "waiting",.int (g % 26 - 1)])) M (.tup [.str "copies",.int m])) b8 (.lst [.ref u,.ref G,.ref M])) nb (.lst (b6++ [.ref u,.ref G,.ref M]))=H14 at M9 N2 ⊢;dsimp only[yW];refine⟨_,rfl,_,_,rfl,rfl,_,rfl,?_⟩;refine qD (λc=>?_) (λc=>?_)
   ·have c:turn<22:=of_decide_eq_true c;obtain⟨us,u1,u2,u3⟩:=M9.ex;refine⟨_,rfl,_,rfl,_,_,rfl,rfl,?_⟩;exact bQR rfl rfl (SqL.of u1) (by omega) (by rw[u2];show turn - 15<7;omega) λv a=>q _ _ M9.k (u3 v a)
   ·obtain⟨us,u1,u2,u3⟩:=N2.ex;refine⟨_,rfl,_,rfl,_,_,rfl,rfl,⟨by decide,by decide⟩,_,rfl,_,_,rfl,rfl,_,_,rfl,rfl,(show(0:Int)<6 by decide),?_⟩;exact bQR rfl rfl (SqL.of u1) (md0 (by decide)) (by rw[u2];exact md1 (by decide)) λv a=>q _ _ N2.k (u3 v a)
  refine⟨_,rfl,rfl,_,rfl,?_⟩;cases i9:decide (V.int turn=V.int 15)with
  |false=>exact onF rfl (onF rfl (l _ _ ⟨m,rfl,k1⟩))
  |true=>
  refine onT rfl ⟨_,rfl,z0,λpn d6=>⟨D,pn,_,rfl,rfl,SqL.of ((yG d6 (.lst [])) _ _ b2),SqL.of yB,_,rfl,?_⟩⟩;have B:=yG d6 (.lst []);generalize upd H1 pn (.lst [])=H4 at B ⊢;by_cases O:free= []
  ·subst O;exact onF rfl (onF rfl (l _ _ ⟨m,rfl,k1.trans B⟩))
  refine onT (by cases free with|nil=>exact absurd rfl O|cons=>rfl) ⟨_,rfl,_,_,rfl,rfl,(show(0:Int)<4 by decide),_,_,rfl,rfl,_,rfl,?_⟩;refine qD (λc=>?_) (λc=>l _ _ ⟨m,rfl,k1.trans B⟩);obtain⟨g',h2⟩:=aZZ O g;have c0:=B _ _ b2;have a8:(0:Int)<((free.map λi=>V.int (i:Nat)).length:Nat):=by rw[bYo];have:=cQz.mpr O;omega
  refine⟨_,rfl,_,rfl,_,rfl,D,_,rfl,.inl (SqL.of c0),_,_,rfl,rfl,a8,D,_,_,_,rfl,rfl,SqL.of c0,h2,?_⟩;dsimp only[yW];exact l _ _ ⟨g',rfl,k1.trans B⟩
 refine⟨_,rfl,_,rfl,ra,rs,R,m,rfl,X,_,rfl,?_⟩;cases h1:Bk.wI R m with
 |false=>exact onF rfl (l _ _ ⟨0,rfl,rfl⟩)
 |true=>
 obtain⟨i,r,rfl,j3,hi,a⟩:=Bk.z6 h1;obtain⟨b,Z,g2,cp,p,L⟩:=X.get hi;refine onT rfl ⟨_,rfl,_,rfl,ra,_,_,_,rfl,rfl,SqL.of X.lst,yS Z,b,_,1,_,rfl,rfl,SqL.of p,rfl,?_⟩;dsimp only[yW];exact l _ _ ⟨r.date,rfl,rfl⟩
end
end Law
namespace Law
open PySem L2 PyProof.Rows
open Bk (Row Rows xY xV Ans)
open Desk (xE wY uI Wf wJ stV)
theorem bV1:bY3 "max"=some (.builtin "max"):=dk
theorem bJs{c:TT}{t u:TS}{D:aZV}{σ:L2.St}{H:Hp}(I:Bool->Hp->Prop)(h:∀Kk:Bool->Hp->Prop,(∀b a,I b a->Kk b a)->c σ H Kk)(e:∀a,I true a->t D σ a)(d:∀a,I false a->u D σ a):bW9 c t u D σ H:=
 h _ λb a i=>by
  cases b with
  |true=>exact onT rfl (e a i)
  |false=>exact onF rfl (d a i)
theorem bWI{c:TT}{t u r:TS}{D:aZV}{σ:L2.St}{H:Hp}(h:bW9 c t u {D with nx:=r D} σ H):bKa (bW9 c t u) r D σ H:=h
theorem p60:(0:Int)<10 ^ (60:Int).toNat:=dk
theorem c60:bKM 10 60:=⟨by decide,by decide,by decide⟩
abbrev aJG:Stmt:=xF "_law_deed_at"
inductive aVD(vs:List V)(H:Hp)(Q:VK)(_:XK):Prop|mk (ra ca:Nat) (rs:List Nat) (R:Rows) (ns:List Int) (k:Nat) (_:vs= [.ref ra,.ref ca,.int (k:Nat)]) (_:y7 H ra rs R) (_:R.length<=60) (_:H ca=some (.lst (ns.map V.int))) (_:k<ns.length) (_:∀ (H':Hp)(v:V),xA H H'->w6 H' v->Q v H')
section
variable {K:bYk}
theorem aYT:yM ["_law_rows","_law_cells","_law_k","_law_near","_law_far","_law_turn","_law_number","_law_term","_law_date","_law_who","_law_twin","_law_base"] ["_law_rows","_law_cells","_law_k"] (yH aJG):=scM
seal PE PA PS PSs PT in
theorem aK8(T:vI mg)(Z:mg "int"=none)(b3:mg "max"=none)(X:FnG P w K mg base 2 "_law_good" ["_law_rows","_law_number"] Z4)(o:FnG P w K mg base 2 "_law_hanging" ["_law_rows","_law_cells","_law_k","_law_number"] aZM) (J:FnG P w K mg base 2 "_law_about" ["_law_rows","_law_cells","_law_k","_law_number","_law_turn"] aY4) (F:Fun K "_law_deed_at" "_law_deed_at" aJG f fd):y8 P w K mg base CX0 3 f fd ["_law_rows","_law_cells","_law_k"] aVD:=by
 have sc:=aYT;refine F.ok (k:=2) sc (λc5 A outer s H vs Q E hr h=>?_);obtain⟨D,g,rs,R,C,k,rfl,hB,hR,I,S,q⟩:=h;refine⟨_,(yC (yT (i:=3) (yL yK (pv 1) (yV y0 (yV zA (pv 2) yE) (yU yQ rfl T.b_len xD (yA (pv 1) yD))))) (yC (yT (i:=4) (yL yK (pv 1) (yV y0 (yV zA (pv 2) yE) (yU yQ rfl T.b_len xD (yA (pv 1) yD))))) (yC (yT (i:=5) (yV y0 (yV zA (yL yK (pv 1) (pv 2)) (yV aVi yE (pv 2))) yE)) (yC (yT (i:=6) (yV y0 (yV zA (pv 4) (pv 2)) (yU (aKh rfl) rfl b3 bV1 (yA yE (yA (yU yQ rfl T.b_len xD (yA (pv 0) yD)) yD))))) (yC (y6 (yN x9 (yV y0 (yL yK (pv 1) (pv 2)) yE) yE) (yF (yT (i:=6) (yL yK (y3 (yA (aYl aZR yE) (yA (yU yQ rfl T.b_len xD (yA (pv 0) yD)) (yA (yV aQj yE yE) (yA (yV wU (aYl aZR yE) (yV y0 (pv 3) (yV aQj yE yE))) (yA (yV zA (yU yQ rfl T.b_len xD (yA (pv 0) yD)) (yV y0 (pv 3) (yV aQj yE yE))) yD)))))) (yV y0 (pv 3) yE)))) yR) (yC (yT (i:=7) (yL yK (y3 (yA yE (yA yE (yA yE (yA yE (yA yE (yA yE yD))))))) (yV y0 (yV Y3 (pv 3) yE) yE))) (yC (y6 (yN x9 (yV y0 (yL yK (pv 1) (pv 2)) yE) yE) (yF (yT (i:=7) (yL yK (y3 (yA (aYl aZR yE) (yA yE (yA (yV wU (aYl aZR yE) (yV y0 (pv 4) (yV aQj yE yE))) (yA (yV y0 (pv 4) yE) yD))))) (yV y0 (pv 4) yE)))) yR) (yC (y6 (PW.pt (W0 (yN vF (pv 5) yE) (jN (yN (aVg hr.units0) (pv 0) (y3 yD))))) (yC (yT (i:=8) (yV zA (yV wU (yV y0 (pv 3) yE) yE) (yV aVi (yV aQj yE yE) (xT wR rfl Z jJ (yA (zI x9 (yV y0 (yL yK (pv 1) (pv 2)) yE) yE) yD))))) (yC (y6 (yN x9 (yV y0 (yL yK (pv 1) (pv 2)) yE) yE) (yF (yT (i:=8) (yL yK (y3 (yA (yV wU (yV y0 (pv 3) yE) yE) (yA (yV y0 (pv 3) (yV aQj yE yE)) (yA (yV wU yE (yV y0 (pv 3) (yV aQj yE yE))) yD)))) (yV y0 (pv 4) yE)))) yR) (yC (yT (i:=9) (yL yK (y3 (yA yO (yA yO (yA yO (yA yO yD))))) (yV y0 (pv 4) yE))) (yC (y6 (yN x9 (yV y0 (yL yK (pv 1) (pv 2)) yE) yE) (yC (yT (i:=10) (yV aQ5 (yV aQ5 (yV aQi yO (yV y0 (yL yK (pv 1) yE) yE)) yO) (yV aQi yO (yV wU yE (yV y0 (yL yK (pv 1) yE) yE))))) (yF (yT (i:=9) (yL yK (y3 (yA yO (yA (pv 10) (yA (yV aQi yO yE) yD)))) (yV y0 (pv 4) yE))))) yR) (yF (yP (xM (yA (yL yK (y3 (yA yO (yA yO yD))) (yV y0 (yV Y3 (pv 4) yE) yE)) (yA (pv 8) (yA (pv 9) (yA (pv 7) yD))))))))))) yR) (yC (y6 (yN vF (pv 5) yE) (yC (yT (i:=11) (yV y0 (pv 3) yE)) (yC (y6 (x6 (xK X hr rfl (yA (pv 0) (yA (pv 6) yD)))) (yF (yT (i:=11) (yV wU (yV zA (yL yK (yL yK (pv 0) (pv 6)) yE) (yV y0 (pv 3) (yL yK (y3 (yA yE (yA yE yD))) (xT wR rfl Z jJ (yA (zI x9 (yV y0 (yL yK (pv 1) (pv 2)) yE) yE) yD))))) yE))) yR) (yF (yP (xM (yA yO (yA (pv 6) (yA (pv 11) (yA (pv 7) yD))))))))) yR) (yC (y6 (yN vF (pv 5) yE) (yF (yP (xK o hr rfl (yA (pv 0) (yA (pv 1) (yA (pv 2) (yA (pv 6) yD))))))) yR) (yF (yP (xK J hr rfl (yA (pv 0) (yA (pv 1) (yA (pv 2) (yA (pv 6) (yA (pv 5) yD)))))))))))))))))),?_⟩;have U:C≠ []:=λz=>by rw[z]at S;simp at S
 have Y:(0:Int)<((C.map V.int).length:Nat):=by rw[bYo];have:=cQz.mpr U;omega
 have u:(C.map V.int)[k]? =some (.int C[k]):=by rw[bYC,bYh S];rfl
 have a6:(C.map V.int)[0]? =some (.int (C[0]'(by omega))):=by rw[bYC,bYh (by omega:0<C.length)];rfl
 obtain⟨l,a1⟩:=qX U ((k:Nat)+1);obtain⟨L,a8⟩:=qX U ((k:Nat)+2);refine⟨_,rfl,_,rfl,_,_,rfl,rfl,_,rfl,g,_,rfl,.inl (SqL.of I),_,_,rfl,rfl,Y,g,_,_,_,rfl,rfl,SqL.of I,a1,?_⟩;dsimp only[yW];refine⟨_,rfl,_,rfl,_,_,rfl,rfl,_,rfl,g,_,rfl,.inl (SqL.of I),_,_,rfl,rfl,Y,g,_,_,_,rfl,rfl,SqL.of I,a8,?_⟩;dsimp only[yW];refine⟨_,rfl,_,rfl,g,_,_,_,rfl,rfl,SqL.of I,yS u,_,rfl,_,_,rfl,rfl,.inl ⟨by decide,by decide⟩,_,_,rfl,rfl,_,_,rfl,rfl,(show(0:Int)<24 by decide),?_⟩;dsimp only[yW];obtain⟨turn,y⟩:∃turn:Int,turn=(C[k]+5*(k:Nat)) % 24:=⟨_,rfl⟩;have c9:0<=turn:=by rw[y];exact md0 (by decide)
 have b5:turn<24:=by rw[y];exact md1 (by decide)
 rw[<- y];refine⟨_,rfl,_,rfl,_,_,rfl,rfl,_,rfl,D,_,rfl,.inl (SqL.of hB.lst),_,_,rfl,_,_,rfl,rfl,?_,?_⟩
 ·show(0:Int)<(if _ then _ else _);split<;> omega
 dsimp only[yW];refine x8 (λe B=>∃m:Int,e= [some (.ref D),some (.ref g),some (.int (k:Nat)),some (.int l),some (.int L),some (.int turn),some (.int m),none,none,none,none,none]/\xA H B) ?jT (λa=>?_);case jT=>
  rintro e H1 ⟨m,rfl,k1⟩;refine⟨zn (by show 6<=100000;omega),λl6 c3=>⟨_,rfl,_,_,rfl,rfl,⟨by decide,by decide⟩,_,_,rfl,rfl,(show(0:Int)<6 by decide),?_⟩⟩;refine jM rfl rfl (SqL.of yB) (md0 (by decide)) (md1 (by decide)) (by simp) λt0 _=>?_;have k2:=k1.trans (yG c3 (.lst [.int 0,.int 2,.int 1,.int 5,.int 3,.int 7]));generalize upd H1 l6 (.lst [.int 0,.int 2,.int 1,.int 5,.int 3,.int 7])=H2 at k2 ⊢;have b8:=k2 _ _ I;dsimp only[yW];refine x8 (λe B=>∃t:Int,e= [some (.ref D),some (.ref g),some (.int (k:Nat)),some (.int l),some (.int L),some (.int turn),some (.int m),some (.int t),none,none,none,none]/\xA H B) ?rest2 (λa=>?_);case rest2=>
   rintro e H3 ⟨t,rfl,k3⟩;have d0:=k3 _ _ I;have c0:=hB.same k3;refine bWI (bJs (λb B=>xA H B) ?_ ?_ ?_)
   ·intro Kk hK;refine⟨_,rfl,_,_,rfl,rfl,_,rfl,?_⟩;refine qD (λc=>hK _ _ k3) (λc=>?_);exact⟨_,rfl,z0,λpn b4=>⟨D,pn,_,rfl,rfl,SqL.of ((yG b4 (.lst [])) _ _ c0.lst),SqL.of yB,_,rfl,hK _ _ (k3.trans (yG b4 _))⟩⟩
   ·intro H4 O;have G:=O _ _ I;refine⟨_,rfl,_,_,rfl,rfl,(show(0:Int)<20 by decide),_,_,rfl,rfl,_,_,rfl,rfl,⟨by decide,by decide,by decide⟩,_,rfl,_,rfl,g,_,_,_,rfl,rfl,SqL.of G,yS u,_,_,rfl,rfl,(show(0:Int)<37 by decide),rfl,.inr ⟨_,rfl,_,_,rfl,rfl,.inl ⟨dk,dk⟩,_,_,rfl,rfl,?_⟩⟩;dsimp only[yW];refine x8 (λe B=>∃d:Int,e= [some (.ref D),some (.ref g),some (.int (k:Nat)),some (.int l),some (.int L),some (.int turn),some (.int m),some (.int t),some (.int d),none,none,none]/\xA H B) ?rest3 (λa=>?_);case rest3=>
     rintro e H5 ⟨d,rfl,k5⟩;refine⟨zn (by show 4<=100000;omega),λl4 c1=>⟨_,rfl,_,_,rfl,rfl,(show(0:Int)<4 by decide),?_⟩⟩;refine Q6 rfl rfl (SqL.of yB) (md0 (by decide)) (md1 (by decide)) (by simp) λa5 _=>?_;have k6:=k5.trans (yG c1 (.lst [.str "ann",.str "bo",.str "ann",.str ""]));generalize upd H5 l4 (.lst [.str "ann",.str "bo",.str "ann",.str ""])=H6 at k6 ⊢;have a3:=k6 _ _ I;dsimp only[yW];refine x8 (λe B=>∃ (a2:Str)(a9:Option V),e= [some (.ref D),some (.ref g),some (.int (k:Nat)),some (.int l),some (.int L),some (.int turn),some (.int m),some (.int t),some (.int d),some (.str a2),a9,none]/\xA H B) ?rest4 (λa=>?_);case rest4=>
      rintro e H7 ⟨a2,a9,rfl,k7⟩;refine⟨z2,λl2 a0=>⟨_,rfl,_,_,rfl,rfl,⟨by decide,by decide⟩,_,_,rfl,rfl,(show(0:Int)<2 by decide),?_⟩⟩;refine Q6 rfl rfl (SqL.of yB) (md0 (by decide)) (md1 (by decide)) (by simp) λa4 a7=>?_;have hw:a4="in"\/a4="out":=by simpa using a7
      refine⟨_,rfl,_,rfl,_,rfl,z4,λp hp=>?_⟩;exact q _ _ ((k7.trans (yG a0 _)).trans (yG hp _)) ⟨p,.enter a4 d a2 t,rfl,yB,hw⟩
     refine⟨_,rfl,_,rfl,g,_,_,_,rfl,rfl,SqL.of a3,yS u,_,_,rfl,rfl,(show(0:Int)<13 by decide),rfl,_,rfl,?_⟩;refine qD (λc=>?_) (λc=>a _ _ ⟨a5,none,rfl,k6⟩);have W:∀x:Int,0<=x % 40/\x % 40<=39:=λx=>⟨md0 (by decide),by have:=md1 (x:=x) (n:=40) (by decide);omega⟩;refine⟨_,rfl,g,_,_,_,rfl,rfl,SqL.of a3,yS (j:=0) a6,_,_,rfl,rfl,(show(0:Int)<40 by decide),_,_,rfl,rfl,by decide,(W _).1,by have:=(W (C[0]'(by omega))).2;omega,λza b9=>?_⟩;refine⟨_,_,rfl,rfl,by rw[bYR];show za.length+1<=_;omega,?_⟩;refine⟨_,rfl,g,_,_,_,rfl,rfl,SqL.of a3,yS (j:=0) a6,_,_,rfl,rfl,(show(0:Int)<40 by decide),_,_,rfl,rfl,_,_,rfl,rfl,by decide,by have:=(W (C[0]'(by omega))).2;omega,by have:=(W (C[0]'(by omega))).1;omega,λzb c8=>?_⟩;have d2:(za++("y":Str)).length<=101:=by
      show(za.cps++_).size<=101;rw[Array.size_append];have:za.cps.size<=100:=b9;have:("y":Str).cps.size=1:=by decide
      omega
     refine⟨_,_,rfl,rfl,by rw[bYR];omega,?_⟩;dsimp only[yW];refine⟨_,rfl,_,_,rfl,rfl,by decide,by decide,by decide,λzc c6=>⟨z3,λl3 N=>⟨_,rfl,_,_,rfl,rfl,(show(0:Int)<3 by decide),?_⟩⟩⟩;refine Q6 rfl rfl (SqL.of yB) (md0 (by decide)) (md1 (by decide)) (by simp) λb2 _=>?_;dsimp only[yW];exact a _ _ ⟨b2,_,rfl,k6.trans (yG N _)⟩
    refine⟨_,rfl,_,rfl,g,_,_,_,rfl,rfl,SqL.of G,yS u,_,_,rfl,rfl,(show(0:Int)<37 by decide),rfl,_,rfl,?_⟩;refine qD (λc=>?_) (λc=>a _ _ ⟨_,rfl,O⟩);refine⟨_,rfl,_,_,rfl,rfl,(show(0:Int)<2001 by decide),_,_,rfl,rfl,_,rfl,_,_,rfl,rfl,c60,_,_,rfl,rfl,p60,_,rfl,_,_,rfl,rfl,c60,_,_,rfl,rfl,p60,_,_,rfl,rfl,z3,λl3 N=>⟨_,rfl,_,_,rfl,rfl,(show(0:Int)<3 by decide),?_⟩⟩;refine jM rfl rfl (SqL.of yB) (md0 (by decide)) (md1 (by decide)) (by simp) λd1 _=>?_;dsimp only[yW];exact a _ _ ⟨d1,rfl,O.trans (yG N _)⟩
   ·intro H4 O;have G:=O _ _ I;have M:=hB.same O;dsimp only[aW4];refine⟨_,rfl,_,_,rfl,rfl,_,rfl,?_⟩;refine qD (λc=>?_) (λc=>?_)
    ·refine⟨_,rfl,_,_,rfl,rfl,(show(0:Int)<20 by decide),?_⟩;dsimp only[yW];refine x8 (λe B=>∃bs:Int,e= [some (.ref D),some (.ref g),some (.int (k:Nat)),some (.int l),some (.int L),some (.int turn),some (.int m),some (.int t),none,none,none,some (.int bs)]/\xA H B) ?rest5 (λa=>?_);case rest5=>
      rintro e H5 ⟨bs,rfl,k5⟩;refine⟨_,rfl,_,rfl,_,rfl,z4,λp hp=>?_⟩;exact q _ _ (k5.trans (yG hp _)) ⟨p,.reply m bs t,rfl,yB,trivial⟩
     refine⟨_,rfl,_,rfl,D,rs,R,m,rfl,M,_,rfl,?_⟩;cases h1:Bk.wI R m with
     |false=>exact onF rfl (a _ _ ⟨_,rfl,O⟩)
     |true=>
     obtain⟨i,r,rfl,c7,hi,hv⟩:=Bk.z6 h1;obtain⟨b,g1,g2,cp,g3,g4⟩:=M.get hi;refine onT rfl ⟨_,rfl,_,rfl,D,_,_,_,rfl,rfl,SqL.of M.lst,yS g1,b,_,1,_,rfl,rfl,SqL.of g3,rfl,_,rfl,z2,λl2 a0=>?_⟩;have e2:=yG a0 (.lst [.int 7,.int 3000]);have b6:=e2 _ _ G;refine⟨_,rfl,_,rfl,g,_,_,_,rfl,rfl,SqL.of b6,yS u,_,_,rfl,rfl,(show(0:Int)<11 by decide),rfl,.inr ⟨_,rfl,?_⟩⟩;refine jM rfl rfl (SqL.of yB) b0 b1 (by simp) λj hj=>?_;have c4:j=7\/j=3000:=by simpa using hj
     refine⟨_,_,rfl,rfl,(show(0:Int)<j by omega),_,_,rfl,rfl,_,_,rfl,rfl,?_⟩;dsimp only[yW];exact a _ _ ⟨_,rfl,O.trans e2⟩
    ·have c:¬turn<12:=of_decide_eq_false (Bool.eq_false_iff.mpr c);refine⟨_,rfl,_,_,rfl,rfl,_,rfl,?_⟩;refine qD (λc2=>?_) (λc2=>?_)
     ·exact⟨_,rfl,_,rfl,_,rfl,_,rfl,D,g,rs,R,C,k,m,rfl,M,hR,G,U,λB v k5 hd=>q _ _ (O.trans k5) hd⟩
     ·have c2:¬turn<15:=of_decide_eq_false (Bool.eq_false_iff.mpr c2);exact⟨_,rfl,_,rfl,_,rfl,_,rfl,_,rfl,D,g,rs,R,C,k,m,turn,rfl,M,hR,G,S,by omega,b5,λB v k5 hd=>q _ _ (O.trans k5) hd⟩
  refine⟨_,rfl,_,rfl,g,_,_,_,rfl,rfl,SqL.of b8,yS u,_,_,rfl,rfl,(show(0:Int)<29 by decide),rfl,_,rfl,?_⟩;refine qD (λc=>?_) (λc=>a _ _ ⟨t0,rfl,k2⟩);refine⟨_,rfl,_,rfl,_,rfl,_,_,rfl,rfl,c60,_,_,rfl,rfl,p60,_,_,rfl,rfl,_,rfl,_,_,rfl,rfl,(show(0:Int)<990 by decide),z4,λl3 N=>⟨_,rfl,_,_,rfl,rfl,(show(0:Int)<4 by decide),?_⟩⟩;refine jM rfl rfl (SqL.of yB) (md0 (by decide)) (md1 (by decide)) (by simp) λt1 _=>?_;dsimp only[yW];exact a _ _ ⟨t1,rfl,k2.trans (yG N _)⟩
 refine⟨_,rfl,_,rfl,g,_,_,_,rfl,rfl,SqL.of I,yS u,_,_,rfl,rfl,(show(0:Int)<23 by decide),rfl,_,rfl,?_⟩;refine qD (λc=>?_) (λc=>a _ _ ⟨_,rfl,xA.refl _⟩);refine⟨_,rfl,_,rfl,D,_,rfl,.inl (SqL.of hB.lst),_,_,rfl,rfl,⟨by decide,by decide,by decide⟩,_,rfl,_,rfl,_,_,rfl,rfl,c60,_,_,rfl,rfl,p60,_,_,rfl,rfl,_,rfl,D,_,rfl,.inl (SqL.of hB.lst),_,rfl,_,_,rfl,rfl,c60,_,_,rfl,rfl,p60,_,_,rfl,rfl,zn (by show 5<=100000;omega),λl5 b7=>⟨_,rfl,_,_,rfl,rfl,(show(0:Int)<5 by decide),?_⟩⟩;refine jM rfl rfl (SqL.of yB) (md0 (by decide)) (md1 (by decide)) (by simp) λm1 _=>?_;dsimp only[yW];exact a _ _ ⟨m1,rfl,yG b7 _⟩
end
end Law
namespace Law
open PySem L2 PyProof.Rows
open Bk (Row Rows xY xV Ans)
open Desk (xE wY uI Wf Up Run wF uP)
abbrev aVu:Stmt:=xF "_law_story"
inductive aJZ(vs:List V)(H:Hp)(Q:VK)(_:XK):Prop|mk (ca:Nat) (ns:List Int) (_:vs= [.ref ca]) (_:H ca=some (.lst (ns.map V.int))) (_:ns.length<=40) (_:∀ (H':Hp)(t ds us:Nat)(das:List Nat)(es:List xV)(vs:List V)(as:List Ans)(R:Rows)(S:List Int),xA H H'->H' t=some (.tup [.ref ds,.ref us])->wF H' ds das es->H' us=some (.lst vs)->cQc (λv a=>wY [] H' a v) vs as->Run [] [] es as R S->(∀e∈es,Wf e)->es.length<=ns.length+3->Q (.ref t) H')
theorem Mid.start{H l f r:Hp}{p sa ds us:Nat}(g:LGo H p sa [] [] l [])(k:List xV)(a:List Nat)(i:xA l f)(m:l ds=none)(t:f ds=some (.lst (a.map V.ref)))(n:xA f r)(c:f us=none)(u:r us=some (.lst []))(v:∀e∈k,Wf e)(len:a.length=k.length) (o:∀ (j:Nat)(d:Nat)(e:xV),a[j]? =some d->k[j]? =some e->f d=some (.tup (xE e))):Mid H p sa ds us k a 0 r:=by
 have ne:ds≠us:=λz=>by rw[<- z,t]at c;cases c
 obtain⟨R,S,s,_⟩:=g.ex;have d1:∀ {x},l x=none->x≠p/\x≠sa:=λ{x} h=>⟨λz=>(by rw[z,s.book.lst]at h;cases h),λz=>(by rw[z,s.shut]at h;cases h)⟩;refine⟨ne,v,len,λj d e y w=>n _ _ (o j d e y w),[],[],[],(g.same i).same n,⟨n _ _ t,g.keep.fresh m,(d1 m).1,(d1 m).2,by simp,λb q=>by simp at q⟩,⟨u,g.keep.fresh (i.fresh c),(d1 (i.fresh c)).1,(d1 (i.fresh c)).2,by simp,λb q=>by simp at q⟩,.nil⟩
section
variable {K:bYk}
theorem bX2:yM ["_law_cells","_law_rows","_law_shut","_law_deeds","_law_dues","_law_k","_law_deed"] ["_law_cells"] (yH aVu):=scM
theorem bQY:xH ["_law_cells","_law_rows","_law_shut","_law_deeds","_law_dues","_law_k","_law_deed"] (yH aVu) "_law_deed" ["_law_rows","_law_shut"] [1,2] (lsN [(".0",.local),("_law_deed",.local),("_law_done_by",.globalImplicit),("_law_rows",.free),("_law_shut",.free)]):=
 lcM
seal PE PA PS PSs PT in
theorem bXs(T:vI mg)(l:FnG P w K mg base 5 "_law_done_by" ["_law_rows","_law_shut","_law_deed"] aXa)(B:FnG P w K mg base 5 "_law_deed_at" ["_law_rows","_law_cells","_law_k"] aVD)(F:Fun K "_law_story" "_law_story" aVu f fd):y8 P w K mg base CX0 6 f fd ["_law_cells"] aJZ:=by
 have sc:=bX2;refine F.ok (k:=5) sc (λd1 A outer s H vs Q E hr h=>?_);obtain⟨ca,ns,rfl,hc,hn,q⟩:=h;refine⟨_,(yC (yT (i:=1) (y3 yD)) (yC (yT (i:=2) (y3 yD)) (yC (yT (i:=3) (y3 yD)) (yC (yT (i:=4) (y3 yD)) (yC (y6 (PW.pt (vQ (yN (jB hr.units0) (pv 0) (y3 yD)) (wV (yN x9 (yV y0 (yL yK (pv 0) yE) yE) yE)))) (yC (yT (i:=3) (y3 (yA (xM (yA yO (yA yE (yA yO (yA yE yD))))) (yA (xM (yA yO (yA yE (yA yE (yA yE yD))))) (yA (xM (yA yO (yA yE (yA yE yD)))) yD))))) (yF (aZy (i:=4) bQY rfl sc.nd rfl rfl (xI (pv 3)) (λ_ _ _ _ _=>z7) (λ_ _ _ _ _=>(xK l hr rfl (yA (pv 1) (yA (pv 2) (yA (pv 0) yD)))))))) yR) (yC (wE cQd rfl (zP rfl T.b_range (yA (yU yQ rfl T.b_len xD (yA (pv 0) yD)) yD)) (y9 (i:=5)) (yC (yT (i:=6) (xK B hr rfl (yA (pv 1) (yA (pv 0) (yA (pv 5) yD))))) (yC (yY (uG bYS bYY bYZ xG (pv 3) (yA (pv 6) yD))) (yF (yY (uG bYS bYY bYZ xG (pv 4) (yA (xK l hr rfl (yA (pv 1) (yA (pv 2) (yA (pv 6) yD)))) yD))))))) (yF (yP (xM (yA (pv 3) (yA (pv 4) yD))))))))))),?_⟩;refine⟨z0,λU b5=>?_⟩;dsimp only[yW];refine⟨z0,λZ b6=>?_⟩;dsimp only[yW];have g0:=LGo.start b5 b6;generalize upd (upd H U (.lst [])) Z (.lst [])=H2 at g0 ⊢;refine⟨z0,λC b2=>?_⟩;dsimp only[yW];refine⟨z0,λI b3=>?_⟩;dsimp only[yW];have k3:=yG b2 (.lst []);have k4:=yG b3 (.lst []);have M0:Mid H U Z C I [] [] 0 (upd (upd H2 C (.lst [])) I (.lst [])):=Mid.start g0 [] [] k3 b2 yB k4 b3 yB (λe h=>by simp at h) rfl (λj d e h=>by simp at h);have gk:=g0.same (k3.trans k4);generalize upd (upd H2 C (.lst [])) I (.lst [])=H4 at M0 gk k4 ⊢;have b4:=M0.keep _ _ hc;refine x8 (λσ' W=>∃ (C I:Nat)(x:List xV)(b:List Nat),σ'= [some (.ref ca),some (.ref U),some (.ref Z),some (.ref C),some (.ref I),none,none]/\Mid H U Z C I x b x.length W/\x.length<=3) ?jT (λa5=>?_);case jT=>
  rintro σ' H5 ⟨C,I,x,b,rfl,M5,h3⟩;refine⟨_,rfl,ca,_,rfl,.inl (SqL.of (M5.keep _ _ hc)),?_⟩;rw[bYo];refine⟨_,rfl,by omega,by omega,?_⟩;rw[bYU];refine vL (λt σ H6=>∃ (x:List xV)(b:List Nat)(o5 o6:Option V),σ= [some (.ref ca),some (.ref U),some (.ref Z),some (.ref C),some (.ref I),o5,o6]/\Mid H U Z C I x b x.length H6/\x.length<=3+t) ?_ ?_ ?_
  ·exact⟨x,b,none,none,rfl,M5,by omega⟩
  ·rintro k σ H6 hk ⟨x,b,o5,o6,rfl,M6,c7⟩;rw[cZi];dsimp only[yW];obtain⟨rs,as,vs,g6,s6,u6,p6⟩:=M6.ex;obtain⟨R,S,hL,hu,c3,O⟩:=g6.ex;have c8:=hu.r;rw[cQn]at c8;refine⟨_,rfl,_,rfl,_,rfl,U,ca,rs,R,ns,k,rfl,hL.book,by omega,M6.keep _ _ hc,hk,λH7 v k7 b8=>?_⟩;obtain⟨p,e,rfl,hp,hw⟩:=b8;dsimp only[yW];have M7:=M6.same k7;have b0:=k7 _ _ s6.at_;refine⟨_,rfl,.inl ⟨rfl,_,SqL.of b0⟩,_,rfl,C,_,_,rfl,rfl,b0,zlt (by rw[bYo,M6.len];omega),?_⟩;have el:b.map V.ref++ [V.ref p]=(b++ [p]).map V.ref:=by simp
   rw[el];have M8:=M7.push rfl hp hw;generalize upd H7 C (.lst ((b++ [p]).map V.ref))=H8 at M8 ⊢;obtain⟨d2,d0,c9,g8,s8,u8,p8⟩:=M8.ex;have X:(b++ [p])[x.length]? =some p:=by rw[<- M6.len,bYH (bYp _),cQC];rfl
   have h2:(x++ [e])[x.length]? =some e:=by rw[bYH (bYp _),cQC];rfl
   refine⟨_,rfl,.inl ⟨rfl,_,SqL.of u8.at_⟩,_,rfl,_,rfl,_,rfl,M8.next (by omega) X h2 λv H9 ws _ a7 b9 M9=>⟨I,_,_,rfl,rfl,a7,zlt (by omega),x++ [e],b++ [p],_,_,rfl,?_,by rw[bYM];simp;omega⟩⟩;rw[bYM];exact M9
  ·rintro σ H6 ⟨x,b,o5,o6,rfl,M6,c7⟩;refine⟨_,rfl,_,rfl,z2,λt ht=>?_⟩;have k6:=yG ht (.tup [.ref C,.ref I]);have M7:=M6.same k6;obtain⟨rs,as,vs,g7,s7,u7,p7⟩:=M7.ex;obtain⟨R,S,hL,hu,c3,O⟩:=g7.ex;rw[cQn]at O;exact q _ t C I b x vs as R S M7.keep yB ⟨s7.at_,M7.len,M7.at_⟩ u7.at_ (uP (λv a z=>vT z λp u n e=>⟨by simp,e⟩) p7) O M7.wf (by omega)
 refine⟨_,rfl,z0,λpn b1=>⟨ca,pn,_,rfl,rfl,SqL.of ((yG b1 (.lst [])) _ _ b4),SqL.of yB,_,rfl,?_⟩⟩;have k5:=yG b1 (.lst []);generalize upd H4 pn (.lst [])=H5 at k5 ⊢;have a0:∀W,xA H4 W->_:=λW k=>a5 [some (.ref ca),some (.ref U),some (.ref Z),some (.ref C),some (.ref I),none,none] W ⟨C,I,[],[],rfl,M0.same k,by simp⟩;by_cases Y:ns= []
 ·subst Y;exact onF rfl (onF rfl (a0 _ k5))
 have c1:(ns.map V.int)[0]? =some (.int (ns[0]'(cQz.mpr Y))):=by rw[bYC,bYh (cQz.mpr Y)];rfl
 refine onT (by cases ns with|nil=>exact absurd rfl Y|cons=>rfl) ⟨_,rfl,ca,_,_,_,rfl,rfl,SqL.of (k5 _ _ b4),yS (j:=0) c1,_,_,rfl,rfl,(show(0:Int)<5 by decide),rfl,_,rfl,?_⟩;refine qD (λc=>?_) (λc=>a0 _ k5);refine⟨z4,λG c2=>⟨z4,λJ b7=>⟨z3,λL c6=>⟨z3,λdl a9=>?_⟩⟩⟩⟩;have a1:=yG c2 (.tup (xE (.enter "in" 4 "ann" 2)));have a2:=yG b7 (.tup (xE (.reply 0 4 1)));have a3:=yG c6 (.tup (xE (.hang 0 1)));have a4:=yG a9 (.lst ([G,J,L].map V.ref));have g5:=((gk.same k5).same a1).same (a2.trans a3);have e1:=a4 _ _ (a3 _ _ (a2 _ _ (yB (H:=H5) (a:=G) (o:= .tup (xE (.enter "in" 4 "ann" 2))))));have e2:=a4 _ _ (a3 _ _ (yB (H:=upd H5 G (.tup (xE (.enter "in" 4 "ann" 2)))) (a:=J) (o:= .tup (xE (.reply 0 4 1)))));have e3:=a4 _ _ (yB (H:=upd (upd H5 G (.tup (xE (.enter "in" 4 "ann" 2)))) J (.tup (xE (.reply 0 4 1)))) (a:=L) (o:= .tup (xE (.hang 0 1))));have e4:=yB (H:=upd (upd (upd H5 G (.tup (xE (.enter "in" 4 "ann" 2)))) J (.tup (xE (.reply 0 4 1)))) L (.tup (xE (.hang 0 1)))) (a:=dl) (o:= .lst ([G,J,L].map V.ref));have c4:∀D,upd (upd (upd (upd H5 G (.tup (xE (.enter "in" 4 "ann" 2)))) J (.tup (xE (.reply 0 4 1)))) L (.tup (xE (.hang 0 1)))) dl (.lst ([G,J,L].map V.ref)) D=none->Mid H U Z dl D [.enter "in" 4 "ann" 2,.reply 0 4 1,.hang 0 1] [G,J,L] 0 (upd (upd (upd (upd (upd H5 G (.tup (xE (.enter "in" 4 "ann" 2)))) J (.tup (xE (.reply 0 4 1)))) L (.tup (xE (.hang 0 1)))) dl (.lst ([G,J,L].map V.ref))) D (.lst [])):=λD hD=>by
  refine Mid.start g5 _ _ a4 a9 e4 (yG hD (.lst [])) hD yB (λe he=>?_) rfl (λj d e X h2=>?_)
  ·simp only[bYr,List.mem_nil_iff,or_false]at he;rcases he with rfl|rfl|rfl
   ·exact .inl rfl
   ·trivial
   ·trivial
  ·match j,X,h2 with
   |0,X,h2=>cases X;cases h2;exact e1
   |1,X,h2=>cases X;cases h2;exact e2
   |2,X,h2=>cases X;cases h2;exact e3
 dsimp only[yW];refine⟨_,rfl,dl,rfl,⟨_,SqL.of e4⟩,λD hD=>?_⟩;have M6:=c4 D hD;refine⟨λi m ys W=>m=3 - i/\i<=3/\W D=some (.lst ys)/\Mid H U Z dl D [.enter "in" 4 "ann" 2,.reply 0 4 1,.hang 0 1] [G,J,L] i W,⟨3,rfl,by omega,yB,M6⟩,?_⟩;rintro i m ys W ⟨rfl,hi,a6,M⟩;refine⟨a6,?_⟩;obtain⟨rs,as,vs,g,s1,s2,p⟩:=M.ex;by_cases N:i<3
 ·have a8:([G,J,L]:List Nat)[i]? =some ([G,J,L][i]'(by simpa using N)):=bYh (by simpa using N);have c0:([.enter "in" 4 "ann" 2,.reply 0 4 1,.hang 0 1]:List xV)[i]? =some (([.enter "in" 4 "ann" 2,.reply 0 4 1,.hang 0 1]:List xV)[i]'(by simpa using N)):=bYh (by simpa using N);refine .inr ⟨⟨_,_,SqL.of s1.at_,by rw[bYC,a8];rfl⟩,λv H7 yl=>?_⟩;obtain⟨rfl,y⟩:=yl;have hv:=y _ (SqL.of s1.at_);rw[bYC,a8]at hv;cases hv;refine⟨_,rfl,_,rfl,_,rfl,?_⟩;refine M.next (by omega) a8 c0 λv H8 ws c5 a7 b9 M8=>?_;have ey:ys=ws:=by rw[c5]at a6;cases a6;rfl
  subst ey;exact⟨by rw[bYR];omega,a7,3 - (i+1),by omega,rfl,N,yB,M8⟩
 ·have:i=3:=by omega
  subst this;refine .inl ⟨⟨_,SqL.of s1.at_,by simp⟩,?_⟩;exact a5 _ _ ⟨dl,D,_,_,rfl,M,by simp⟩
end
end Law
namespace Alike
open PySem L2 PyProof.Rows
open Law (xF)
abbrev aYt:Stmt:=xF "_law_alike"
abbrev bVd:Stmt:=xF "_law_room"
abbrev aYL:Stmt:=xF "_law_whole"
theorem xD:bY3 "len"=some (.builtin "len"):=dk
theorem xN:bY3 "isinstance"=some (.builtin "isinstance"):=dk
theorem jJ:bY3 "int"=some (.type "int"):=dk
theorem bZy:bY3 "str"=some (.type "str"):=dk
theorem bJc:bY3 "bool"=some (.type "bool"):=dk
theorem vD:bY3 "list"=some (.type "list"):=dk
theorem vU:bY3 "tuple"=some (.type "tuple"):=dk
structure vI(mg:Str->Option bYi):Prop where
 b_len:mg "len"=none
 b_sorted:mg "sorted"=none
 b_isinstance:mg "isinstance"=none
 b_int:mg "int"=none
 b_str:mg "str"=none
 b_bool:mg "bool"=none
 b_list:mg "list"=none
 b_tuple:mg "tuple"=none
 b_range:mg "range"=none
inductive bQk(vs:List V)(H:Hp)(Q:VK)(_:XK):Prop|mk (n) (_:vs= [.int n]) (_:Q (.bl true) H)
inductive bZX(K:bYk)(vs:List V)(H:Hp)(Q:VK)(_:XK):Prop|mk (a:Nat) (ns:List Int) (x y:Int) (_:vs= [.ref a,.int x,.int y]) (_:SqL K H a (ns.map V.int)) (_:ns.length<=63) (_:Q (.int x) H)
section
variable {K:bYk}
theorem bX6:yM ["_law_found"] ["_law_found"] (yH aYL):=scM
theorem bXw(T:vI mg)(F:Fun K "_law_whole" "_law_whole" aYL f fd):y8 P w K mg base CX0 1 f fd ["_law_found"] bQk:=by
 have a:=bX6;refine F.ok (k:=0) a (λb A outer s H c Q E d h=>?_);obtain⟨n,rfl,q⟩:=h;refine⟨_,(yF (yP (aVm (yU vA rfl T.b_isinstance xN (yA (pv 0) (yA (vG (v:= .ty "int") rfl T.b_int jJ rfl) yD))) (aZv (bZP (yU vA rfl T.b_isinstance xN (yA (pv 0) (yA (vG (v:= .ty "bool") rfl T.b_bool bJc rfl) yD)))))))),?_⟩;refine⟨_,rfl,_,"int",_,_,rfl,.int n,aWa _,_,rfl,onT rfl ?_⟩;exact⟨_,rfl,_,"bool",_,_,rfl,.int n,aJc _,_,rfl,q⟩
theorem bVq:yM ["_law_script","_law_most","_law_bound"] ["_law_script","_law_most","_law_bound"] (yH bVd):=scM
theorem bJP(T:vI mg)(F:Fun K "_law_room" "_law_room" bVd f fd):y8 P w K mg base CX0 1 f fd ["_law_script","_law_most","_law_bound"] (bZX K):=by
 have b:=bVq;refine F.ok (k:=0) b (λd A outer s H j Q E g h=>?_);obtain⟨a,i,x,y,rfl,e,c,q⟩:=h;refine⟨_,(yC (y6 (yN aQW (yU yQ rfl T.b_len xD (yA (pv 0) yD)) yE) (yF (yP (pv 2))) yR) (yF (yP (pv 1)))),?_⟩;refine⟨_,rfl,a,_,rfl,.inl e,_,_,rfl,rfl,_,rfl,onF ?_ ⟨_,rfl,q⟩⟩;rw[bYo];exact decide_eq_false (by omega)
end
def Sq(K:bYk)(H:Hp)(a:Nat)(xs:List V):Prop:=H a=some (.lst xs)\/H a=some (.tup xs)
theorem Sq.same{K:bYk}{H b:Hp}{a:Nat}{xs:List V}(k:xA H b)(h:Sq K H a xs):Sq K b a xs:=h.imp (k _ _) (k _ _)
theorem Sq.ix{K:bYk}{H:Hp}{a:Nat}{xs:List V}{i:Nat}{v:V}{Q:VK}(h:Sq K H a xs)(e:xs[i]? =some v)(q:Q v H):rIx K (.ref a) (.int (i:Int)) H Q:=by
 rcases h with h|h
 ·exact .inl ⟨a,xs,_,v,rfl,rfl,SqL.of h,yS e,q⟩
 ·exact .inr (.inl ⟨a,xs,_,v,rfl,rfl,SqT.of h,yS e,q⟩)
def zS:List (Nat×Dt)->Nat
 |[]=>0
 |q::r=>q.2.size+zS r
theorem xU:∀a b:List (Nat×Dt),zS (a++b)=zS a+zS b
 |[],b=>by simp[zS]
 |q::r,b=>by rw[cZT];show q.2.size+zS (r++b)=q.2.size+zS r+zS b;rw[xU r b];omega
theorem jZ:∀ {a:List (Nat×Dt)} {ds:List Dt},a.map (·.2)=ds->zS a=zX ds
 |[],[],_=>by simp[zS,zX]
 |q::r,d::ds,h=>by rw[bY2]at h;cases h;show q.2.size+zS r=q.2.size+zX (r.map (·.2));rw[jZ rfl]
 |[],_::_,h=>by cases h
 |_::_,[],h=>by cases h
theorem aQK:∀qs:List (Nat×Dt),qs.length<=zS qs
 |[]=>bYp _
 |q::r=>by
  have:=aQK r;have a:1<=q.2.size:=by cases q.2<;> simp[Dt.size]
  show r.length+1<=q.2.size+zS r;omega
theorem aQc:∀ds:List Dt,ds.length<=zX ds
 |[]=>bYp _
 |d::r=>by
  have:=aQc r;have a:1<=d.size:=by cases d<;> simp[Dt.size]
  show r.length+1<=d.size+zX r;omega
theorem aY2{α:Type}:∀ {l:List α},l≠ []->∃a b,l=a++ [b]
 |[],h=>absurd rfl h
 |[x],_=>⟨[],x,rfl⟩
 |x::y::r,_=>by obtain⟨i,l,e⟩:=aY2 (l:=y::r) (by simp);exact⟨x::i,l,by rw[e];rfl⟩
theorem wW{a H:Hp}{c:Nat}{o:HO}(k:xA a H)(h:a c=none):xA a (upd H c o):=λb u q=>by rw[yI (yJ q h)];exact k b u q
mutual
def nb:Dt->Bool
 |.bl _=>false
 |.lst a=>nbs a
 |.tup a=>nbs a
 |.non=>true
 |.int _=>true
 |.str _=>true
def nbs:List Dt->Bool
 |[]=>true
 |d::r=>nb d && nbs r
end
theorem aJj:∀ {ds:List Dt} {i:Nat} (h:i<ds.length),nbs ds=true->nb ds[i]=true
 |d::r,0,h,e=>by unfold nbs at e;rw[Bool.and_eq_true]at e;exact e.1
 |d::r,i+1,h,e=>by unfold nbs at e;rw[Bool.and_eq_true]at e;exact aJj (ds:=r) (by simpa using h) e.2
def bZ8(a H:Hp)(q:Nat×Dt):Prop:=∃x y,H q.1=some (.tup [x,y])/\Is a x q.2/\Is a y q.2/\nb q.2=true
theorem bZ8.keep{d H c:Hp}{q:Nat×Dt}(p:bZ8 d H q)(k:∀a b,H a=some (.tup b)->c a=some (.tup b)):bZ8 d c q:=let ⟨x,y,h,r⟩:=p;⟨x,y,k _ _ h,r⟩
theorem aXQ{H:Hp}{p:Nat}{o:HO}(h:H p=none):∀a b,H a=some (.tup b)->upd H p o a=some (.tup b):=λa b e=>by rw[yI (yJ e h)];exact e
theorem qB{H:Hp}{p:Nat}{c:List V}{o:HO}(h:H p=some (.lst c)):∀a b,H a=some (.tup b)->upd H p o a=some (.tup b):=λa b e=>by rw[yI (aQS e h (by intro z;cases z))];exact e
def WU(c:Hp)(v u:V)(b:Nat)(m:Nat)(σ:L2.St)(H:Hp):Prop:=∃a l r k,σ= [some v,some u,some (.ref b),l,r,k]/\xA c H/\H b=some (.lst (a.map λq=> .ref q.1))/\(∀q∈a,bZ8 c H q)/\m=zS a/\zS a<=50000
inductive aY5(vs:List V)(H:Hp)(Q:VK)(_:XK):Prop|mk (v u d) (_:vs= [v,u]) (_:Is H v d) (_:Is H u d) (_:nb d=true) (_:d.size<=50000) (_:∀H',xA H H'->Q (.bl true) H')
section
variable {K:bYk}
theorem bXM:yM ["_law_found","_law_due","_law_todo","_law_one","_law_other","_law_k"] ["_law_found","_law_due"] (yH aYt):=scM
seal PE PA PS PSs PT in
theorem bXc(T:vI mg)(X:FnG P w K mg base 1 "_law_whole" ["_law_found"] bQk)(F:Fun K "_law_alike" "_law_alike" aYt f fd):y8 P w K mg base CX0 2 f fd ["_law_found","_law_due"] aY5:=by
 have sc:=bXM;refine F.ok (k:=1) sc (λc7 A outer s H0 vs Q E hr h=>?_);obtain⟨v,u,d,rfl,hv,hu,b8,hd,q⟩:=h;refine⟨_,(yC (yT (i:=2) (y3 (yA (xM (yA (pv 0) (yA (pv 1) yD))) yD))) (yC (jC cQd (yN (jB hr.units0) (pv 2) (y3 yD)) (yC (vP (bZN bYS PySem.F.slot_list_pop PySem.F.type_list_pop bZL (pv 2)) (aVo rfl (zG (y9 (i:=3)) (zG (y9 (i:=4)) aXu)))) (yF (y6 (x6 (yU aKf rfl T.b_isinstance xN (yA (pv 4) (yA (xM (yA (vG (v:= .ty "list") rfl T.b_list vD rfl) (yA (vG (v:= .ty "tuple") rfl T.b_tuple vU rfl) yD))) yD)))) (yC (y6 (yN aZt (yU vA rfl T.b_isinstance xN (yA (pv 3) (yA (vG (v:= .ty "list") rfl T.b_list vD rfl) yD))) (yU vA rfl T.b_isinstance xN (yA (pv 4) (yA (vG (v:= .ty "list") rfl T.b_list vD rfl) yD)))) (yF (yP qN)) yR) (yC (y6 (yN aZt (yU vA rfl T.b_isinstance xN (yA (pv 3) (yA (vG (v:= .ty "tuple") rfl T.b_tuple vU rfl) yD))) (yU vA rfl T.b_isinstance xN (yA (pv 4) (yA (vG (v:= .ty "tuple") rfl T.b_tuple vU rfl) yD)))) (yF (yP qN)) yR) (yC (y6 (yN aZt (yU yQ rfl T.b_len xD (yA (pv 3) yD)) (yU yQ rfl T.b_len xD (yA (pv 4) yD))) (yF (yP qN)) yR) (yF (wE cQd rfl (zP rfl T.b_range (yA (yU yQ rfl T.b_len xD (yA (pv 4) yD)) yD)) (y9 (i:=5)) (yF (yY (uG bYS bYY bYZ xG (pv 2) (yA (xM (yA (yL bZG (pv 3) (pv 5)) (yA (yL bZG (pv 4) (pv 5)) yD))) yD))))))))) (yF (y6 (yN aVh (pv 4) zB) (yF (y6 (yN wG (pv 3) zB) (yF (yP qN)) yR)) (yF (y6 (x6 (yU vA rfl T.b_isinstance xN (yA (pv 4) (yA (vG (v:= .ty "str") rfl T.b_str bZy rfl) yD)))) (yF (y6 (PW.pt (W0 (uC (x6 (yU vA rfl T.b_isinstance xN (yA (pv 3) (yA (vG (v:= .ty "str") rfl T.b_str bZy rfl) yD))))) (jN (yN aZt (pv 3) (pv 4))))) (yF (yP qN)) yR)) (yF (y6 (PW.pt (W0 (uC (x6 (xK X hr rfl (yA (pv 3) yD)))) (jN (yN aZt (pv 3) (pv 4))))) (yF (yP qN)) yR)))))))))) (yF (yP qN)))),?_⟩;refine⟨_,rfl,_,rfl,z2,λp0 b0=>⟨z1,λt b4=>?_⟩⟩;have a1:H0 t=none:=(yG b0 _).fresh b4;refine⟨WU H0 v u t,⟨d.size,[(p0,d)],none,none,none,rfl,wW (yG b0 _) a1,yB,?_,by simp[zS],by simpa[zS]using hd⟩,?_⟩
 ·intro q B;rw[bYz.mp B];exact⟨v,u,aXQ b4 _ _ yB,hv,hu,b8⟩
 rintro m σ H ⟨qs,l,r,k,rfl,hk,hT,hP,rfl,a6⟩;refine⟨_,rfl,z0,λpn a5=>?_⟩;have c1:pn≠t:=bY0 (yJ hT a5);have a4:upd H pn (.lst []) t=some (.lst (qs.map λq=> .ref q.1)):=by rw[yI (bY0 c1)];exact hT
 refine⟨t,pn,_,rfl,rfl,SqL.of a4,SqL.of yB,_,rfl,?_⟩;by_cases b3:qs= []
 ·subst b3;rw[if_neg (by decide)];exact q _ (hk.trans (yG a5 _))
 obtain⟨c,⟨lp,d⟩,rfl⟩:=aY2 b3;rw[if_pos (by simp)];refine⟨λD I=>∃m',m'<zS (c++ [(lp,d)])/\WU H0 v u t m' D I,λD I z=>z,?_⟩;obtain⟨x,y,b5,hx,hy,G⟩:=hP (lp,d) (by simp);have a8:((c++ [(lp,d)]).map λq=>V.ref q.1)[((c++ [(lp,d)]).map λq=>V.ref q.1).length - 1]? =some (.ref lp):=by simp
 have a9:((c++ [(lp,d)]).map λq=>V.ref q.1).dropLast=c.map λq=>V.ref q.1:=by simp
 have b1:∀a N,H a=some (.tup N)->upd (upd H pn (.lst [])) t (.lst (c.map λq=>V.ref q.1)) a=some (.tup N):=λa N e=>qB a4 _ _ (aXQ a5 _ _ e);refine⟨_,rfl,.inl ⟨rfl,_,SqL.of a4⟩,t,_,.ref lp,rfl,rfl,a4,a8,?_⟩;rw[a9];have L:xA H0 (upd (upd H pn (.lst [])) t (.lst (c.map λq=>V.ref q.1))):=wW (hk.trans (yG a5 _)) a1;have a3:upd (upd H pn (.lst [])) t (.lst (c.map λq=>V.ref q.1)) t=some (.lst (c.map λq=> .ref q.1)):=yB;have a0:∀q∈c,bZ8 H0 (upd (upd H pn (.lst [])) t (.lst (c.map λq=>V.ref q.1))) q:=λq B=>(hP q (by simp[B])).keep b1;have a7:=b1 _ _ b5;generalize c5:upd (upd H pn (.lst [])) t (.lst (c.map λq=>V.ref q.1))=H2 at L a3 a0 a7 ⊢;refine⟨lp,[x,y],rfl,SqT.of a7,rfl,x,[y],rfl,y,[],rfl,rfl,?_⟩;have c6:1<=d.size:=by cases d<;> simp[Dt.size]
 have c4:zS c+d.size<=50000:=by rw[xU]at a6;simpa[zS]using a6
 have hm:zS c<zS (c++ [(lp,d)]):=by rw[xU];simp[zS];omega
 have fin:∀H3,(∀b o,H2 b=some o->H3 b=some o)->∃m',m'<zS (c++ [(lp,d)])/\WU H0 v u t m' [some v,some u,some (.ref t),some x,some y,k] H3:=λH3 k3=>
  ⟨zS c,hm,c,some x,some y,k,rfl,L.trans k3,k3 _ _ a3,λq B=>(a0 q B).keep λa N e=>k3 _ _ e,rfl,by omega⟩
 refine⟨_,rfl,z2,λp1 b7=>?_⟩;have j:xA H2 (upd H2 p1 (.tup [.ty "list",.ty "tuple"])):=yG b7 _;cases d with
 |non=>
  have ex:x= .non:=by unfold Is at hx;exact hx
  have ey:y= .non:=by unfold Is at hy;exact hy
  subst ex;subst ey;refine⟨_,p1,"list","tuple",_,_,_,rfl,SqT.of yB,.non,Z9 _,Y1 _,_,rfl,onF rfl ?_⟩;refine⟨_,rfl,rfl,_,rfl,onT rfl ?_⟩;refine⟨_,rfl,rfl,_,rfl,onF rfl ?_⟩;exact fin _ j
 |bl b=>unfold nb at G;cases G
 |int n=>
  have ex:x= .int n:=by unfold Is at hx;exact hx
  have ey:y= .int n:=by unfold Is at hy;exact hy
  subst ex;subst ey;refine⟨_,p1,"list","tuple",_,_,_,rfl,SqT.of yB,.int n,aJd _,aZg _,_,rfl,onF rfl ?_⟩;refine⟨_,rfl,rfl,_,rfl,onF rfl ?_⟩;refine⟨_,rfl,_,"str",_,_,rfl,.int n,aWb _,_,rfl,onF rfl ?_⟩;refine⟨_,rfl,n,rfl,_,rfl,onF rfl ⟨_,rfl,_,rfl,rfl,_,rfl,onF (by simp) ?_⟩⟩;exact fin _ j
 |str z=>
  have ex:x= .str z:=by unfold Is at hx;exact hx
  have ey:y= .str z:=by unfold Is at hy;exact hy
  subst ex;subst ey;refine⟨_,p1,"list","tuple",_,_,_,rfl,SqT.of yB,.str z,aJe _,aZh _,_,rfl,onF rfl ?_⟩;refine⟨_,rfl,rfl,_,rfl,onF rfl ?_⟩;refine⟨_,rfl,_,"str",_,_,rfl,.str z,aQ3 _,_,rfl,onT rfl ?_⟩;refine⟨_,rfl,_,"str",_,_,rfl,.str z,aQ3 _,_,rfl,onF rfl ⟨_,rfl,_,rfl,rfl,_,rfl,onF (by simp) ?_⟩⟩;exact fin _ j
 |lst g=>
  unfold Is at hx hy;obtain⟨a,N,rfl,ha,S⟩:=hx;obtain⟨b,ys,rfl,hb,W⟩:=hy;have lx:=S.length;have ly:=W.length;have a2:=L _ _ ha;have O:=L _ _ hb;have c2:zX g+1<=50000:=by
   have:Dt.size (.lst g)=1+zX g:=by simp[Dt.size]
   omega
  have b6:g.length<=zX g:=aQc g;have G:nbs g=true:=by unfold nb at G;exact G
  refine⟨_,p1,"list","tuple",_,_,_,rfl,SqT.of yB,.lst (j _ _ O),uM _,vW _,_,rfl,onT rfl ?_⟩;refine⟨_,rfl,_,"list",_,_,rfl,.lst (j _ _ a2),uM _,_,rfl,_,"list",_,_,rfl,.lst (j _ _ O),uM _,rfl,_,rfl,onF rfl ?_⟩;refine⟨_,rfl,_,"tuple",_,_,rfl,.lst (j _ _ a2),vW _,_,rfl,_,"tuple",_,_,rfl,.lst (j _ _ O),vW _,rfl,_,rfl,onF rfl ?_⟩;refine⟨_,rfl,a,_,rfl,.inl (SqL.of (j _ _ a2)),_,rfl,b,_,rfl,.inl (SqL.of (j _ _ O)),rfl,_,rfl,onF (by simp[lx,ly]) ?_⟩;refine⟨_,rfl,b,_,rfl,.inl (SqL.of (j _ _ O)),_,rfl,by omega,by omega,?_⟩;have Z:Dt.size (.lst g)=1+zX g:=by simp[Dt.size]
  generalize b9:upd H2 p1 (.tup [.ty "list",.ty "tuple"])=H3 at j ⊢;refine vL (λi D I=>∃ (C:List (Nat×Dt))(kk:Option V),D= [some v,some u,some (.ref t),some (.ref a),some (.ref b),kk]/\xA H0 I/\I t=some (.lst ((c++C).map λq=> .ref q.1))/\(∀q∈c++C,bZ8 H0 I q)/\C.map (·.2)=g.take i) ?_ ?_ ?_
  ·exact⟨[],k,rfl,L.trans j,by rw[cQu];exact j _ _ a3,λq B=>(a0 q (by simpa using B)).keep λa N e=>j _ _ e,rfl⟩
  ·rintro i D I hi ⟨C,kk,rfl,R,Y,h3,U⟩;have J:i<g.length:=by rw[<- ly];omega
   obtain⟨xi,ex,ix⟩:=S.get (bYh J);obtain⟨yi,ey,iy⟩:=W.get (bYh J);show bQn _ _ _ _;have sa:Sq K I a N:=Sq.same R (.inl ha);have sb:Sq K I b ys:=Sq.same R (.inl hb);refine⟨_,rfl,.inl ⟨rfl,_,SqL.of Y⟩,_,rfl,_,rfl,?_⟩;rw[cZi];refine sa.ix ex ⟨_,rfl,_,rfl,?_⟩;refine sb.ix ey ⟨z2,λp hp=>?_⟩;have c3:C.length=i:=by have:=congrArg cXM U;simp at this;omega
   have c0:=aQK c;have M:upd I p (.tup [xi,yi]) t=some (.lst ((c++C).map λq=> .ref q.1)):=by rw[yI (yJ Y hp)];exact Y
   refine⟨t,_,.ref p,rfl,rfl,M,zlt (by simp;omega),C++ [(p,g[i])],_,rfl,wW (R.trans (yG hp _)) a1,?_,?_,?_⟩
   ·rw[yB];simp
   ·intro q B;rw[<- cXu,bYX]at B;rcases B with B|B
    ·exact(h3 q B).keep λa N e=>qB M _ _ (aXQ hp _ _ e)
    ·rw[bYz.mp B];exact⟨xi,yi,qB M _ _ yB,ix,iy,aJj J G⟩
   ·rw[cXo,U,cQw,bYh J];rfl
  ·rintro D I ⟨C,kk,rfl,R,Y,h3,U⟩;have e1:g.take ((ys.length:Nat):Int).toNat=g:=by rw[bYU,ly,cQn]
   rw[e1]at U;have e2:=jZ U;refine⟨zS (c++C),?_,c++C,some (.ref a),some (.ref b),kk,rfl,R,Y,h3,rfl,?_⟩
   ·rw[xU,xU,e2];simp[zS,Z]
   ·rw[xU,e2];omega
 |tup g=>
  unfold Is at hx hy;obtain⟨a,N,rfl,ha,S⟩:=hx;obtain⟨b,ys,rfl,hb,W⟩:=hy;have lx:=S.length;have ly:=W.length;have a2:=L _ _ ha;have O:=L _ _ hb;have c2:zX g+1<=50000:=by
   have:Dt.size (.tup g)=1+zX g:=by simp[Dt.size]
   omega
  have b6:g.length<=zX g:=aQc g;have G:nbs g=true:=by unfold nb at G;exact G
  refine⟨_,p1,"list","tuple",_,_,_,rfl,SqT.of yB,.tup (j _ _ O),vX _,vE _,_,rfl,onT rfl ?_⟩;refine⟨_,rfl,_,"list",_,_,rfl,.tup (j _ _ a2),vX _,_,rfl,_,"list",_,_,rfl,.tup (j _ _ O),vX _,rfl,_,rfl,onF rfl ?_⟩;refine⟨_,rfl,_,"tuple",_,_,rfl,.tup (j _ _ a2),vE _,_,rfl,_,"tuple",_,_,rfl,.tup (j _ _ O),vE _,rfl,_,rfl,onF rfl ?_⟩;refine⟨_,rfl,a,_,rfl,.inr (SqT.of (j _ _ a2)),_,rfl,b,_,rfl,.inr (SqT.of (j _ _ O)),rfl,_,rfl,onF (by simp[lx,ly]) ?_⟩;refine⟨_,rfl,b,_,rfl,.inr (SqT.of (j _ _ O)),_,rfl,by omega,by omega,?_⟩;have Z:Dt.size (.tup g)=1+zX g:=by simp[Dt.size]
  generalize b9:upd H2 p1 (.tup [.ty "list",.ty "tuple"])=H3 at j ⊢;refine vL (λi D I=>∃ (C:List (Nat×Dt))(kk:Option V),D= [some v,some u,some (.ref t),some (.ref a),some (.ref b),kk]/\xA H0 I/\I t=some (.lst ((c++C).map λq=> .ref q.1))/\(∀q∈c++C,bZ8 H0 I q)/\C.map (·.2)=g.take i) ?_ ?_ ?_
  ·exact⟨[],k,rfl,L.trans j,by rw[cQu];exact j _ _ a3,λq B=>(a0 q (by simpa using B)).keep λa N e=>j _ _ e,rfl⟩
  ·rintro i D I hi ⟨C,kk,rfl,R,Y,h3,U⟩;have J:i<g.length:=by rw[<- ly];omega
   obtain⟨xi,ex,ix⟩:=S.get (bYh J);obtain⟨yi,ey,iy⟩:=W.get (bYh J);show bQn _ _ _ _;have sa:Sq K I a N:=Sq.same R (.inr ha);have sb:Sq K I b ys:=Sq.same R (.inr hb);refine⟨_,rfl,.inl ⟨rfl,_,SqL.of Y⟩,_,rfl,_,rfl,?_⟩;rw[cZi];refine sa.ix ex ⟨_,rfl,_,rfl,?_⟩;refine sb.ix ey ⟨z2,λp hp=>?_⟩;have c3:C.length=i:=by have:=congrArg cXM U;simp at this;omega
   have c0:=aQK c;have M:upd I p (.tup [xi,yi]) t=some (.lst ((c++C).map λq=> .ref q.1)):=by rw[yI (yJ Y hp)];exact Y
   refine⟨t,_,.ref p,rfl,rfl,M,zlt (by simp;omega),C++ [(p,g[i])],_,rfl,wW (R.trans (yG hp _)) a1,?_,?_,?_⟩
   ·rw[yB];simp
   ·intro q B;rw[<- cXu,bYX]at B;rcases B with B|B
    ·exact(h3 q B).keep λa N e=>qB M _ _ (aXQ hp _ _ e)
    ·rw[bYz.mp B];exact⟨xi,yi,qB M _ _ yB,ix,iy,aJj J G⟩
   ·rw[cXo,U,cQw,bYh J];rfl
  ·rintro D I ⟨C,kk,rfl,R,Y,h3,U⟩;have e1:g.take ((ys.length:Nat):Int).toNat=g:=by rw[bYU,ly,cQn]
   rw[e1]at U;have e2:=jZ U;refine⟨zS (c++C),?_,c++C,some (.ref a),some (.ref b),kk,rfl,R,Y,h3,rfl,?_⟩
   ·rw[xU,xU,e2];simp[zS,Z]
   ·rw[xU,e2];omega
end
end Alike
namespace Alike
open PySem L2 PyProof.Rows
open Bk (Row Rows xY xV Ans)
open Desk (xE wY stV x3)
def vDt:V->Dt
 |.int n=> .int n
 |.str x=> .str x
 |_=> .non
def aZW(v:V):Prop:=v= .non\/(∃n,v= .int n)\/∃x,v= .str x
theorem aZW.is{H:Hp}{v:V}(h:aZW v):Is H v (vDt v):=by
 rcases h with rfl|⟨n,rfl⟩|⟨x,rfl⟩
 ·show Is H .non .non;unfold Is;rfl
 ·show Is H (.int n) (.int n);unfold Is;rfl
 ·show Is H (.str x) (.str x);unfold Is;rfl
theorem vV{H:Hp}:∀ {xs:List V},(∀v∈xs,aZW v)->zM H xs (xs.map vDt)
 |[],_=>by show zM H [] [];unfold zM;trivial
 |x::xs,h=>by show zM H (x::xs) (vDt x::xs.map vDt);unfold zM;exact⟨(h x bYx).is,vV λv a=>h v (bYt _ a)⟩
theorem wB{H:Hp}{α:Type}{F:V->α->Prop}{g:α->Dt}(b:∀v a,F v a->Is H v (g a)):∀ {vs:List V} {c:List α},cQc F vs c->zM H vs (c.map g)
 |_,_,.nil=>by show zM H [] [];unfold zM;trivial
 |_,_,.cons r t=>by rw[bY2];unfold zM;exact⟨b _ _ r,wB b t⟩
theorem bKo(v:V):nb (vDt v)=true:=by cases v<;> (unfold vDt;unfold nb;rfl)
theorem jS{α:Type}{g:α->Dt}(h:∀a,nb (g a)=true):∀l:List α,nbs (l.map g)=true
 |[]=>by show nbs []=true;unfold nbs;rfl
 |a::l=>by rw[bY2];unfold nbs;rw[h a,jS h l];rfl
theorem aV4(e:xV):∀v∈xE e,aZW v:=by cases e<;> simp[xE,aZW]
theorem aVK(r:Row):∀v∈stV r,aZW v:=by
 intro v a;unfold stV at a;simp only[bYr,List.mem_nil_iff,or_false]at a;rcases a with rfl|rfl|rfl|rfl|rfl|rfl
 ·exact .inr (.inr ⟨_,rfl⟩)
 ·exact .inr (.inl ⟨_,rfl⟩)
 ·exact .inr (.inr ⟨_,rfl⟩)
 ·exact .inr (.inl ⟨_,rfl⟩)
 ·cases r.link with
  |none=>exact .inl rfl
  |some j=>exact .inr (.inl ⟨_,rfl⟩)
 ·unfold Desk.qZ;split
  ·exact .inl rfl
  ·exact .inr (.inr ⟨_,rfl⟩)
def X4(e:xV):Dt:= .tup ((xE e).map vDt)
def uD:Ans->Dt
 |.num n=> .int n
 |.txt x=> .str x
 |.nums l=> .lst (l.map λi=> .int (i:Nat))
 |.txts l=> .lst (l.map .str)
 |.row r=> .tup ((stV r).map vDt)
def jY(r:Row):Dt:=if r.void then .str "void" else .tup ((stV r).map vDt)
theorem aKC{H:Hp}{p:Nat}{xs:List V}(h:H p=some (.tup xs))(k:∀v∈xs,aZW v):Is H (.ref p) (.tup (xs.map vDt)):=by
 unfold Is;exact⟨p,xs,rfl,h,vV k⟩
theorem bJt{H:Hp}{p:Nat}{e:xV}(h:H p=some (.tup (xE e))):Is H (.ref p) (X4 e):=aKC h (aV4 e)
theorem bZF{o:List Nat}{H:Hp}{a:Ans}{v:V}(h:wY o H a v):Is H v (uD a):=by
 cases a with
 |num n=>show Is H v (.int n);unfold Is;exact h
 |txt x=>show Is H v (.str x);unfold Is;exact h
 |nums l=>
  obtain⟨p,e,_,q⟩:=h;show Is H v (.lst (l.map λi=> .int (i:Nat)));unfold Is;refine⟨p,_,e,q,?_⟩;have:=vV (H:=H) (xs:=l.map λi=>V.int (i:Nat)) λv b=>by obtain⟨i,_,rfl⟩:=cQm.mp b;exact .inr (.inl ⟨_,rfl⟩)
  rw[cXB]at this;exact this
 |txts l=>
  obtain⟨p,e,_,q⟩:=h;show Is H v (.lst (l.map .str));unfold Is;refine⟨p,_,e,q,?_⟩;have:=vV (H:=H) (xs:=l.map V.str) λv b=>by obtain⟨i,_,rfl⟩:=cQm.mp b;exact .inr (.inr ⟨_,rfl⟩)
  rw[cXB]at this;exact this
 |row r=>obtain⟨p,e,_,q⟩:=h;subst e;exact aKC q (aVK r)
theorem aVa{H:Hp}{r:Row}{v:V}(h:x3 H r v):Is H v (jY r):=by
 unfold x3 at h;unfold jY;split
 ·rename_i e;rw[if_pos e]at h;unfold Is;exact h
 ·rename_i e;rw[if_neg e]at h;obtain⟨p,e,q⟩:=h;subst e;exact aKC q (aVK r)
theorem bJC(e:xV):nb (X4 e)=true:=by unfold X4 nb;exact jS bKo _
theorem bWi(a:Ans):nb (uD a)=true:=by
 cases a with
 |num n=>show nb (.int n)=true;unfold nb;rfl
 |txt x=>show nb (.str x)=true;unfold nb;rfl
 |nums l=>show nb (.lst (l.map λi=> .int (i:Nat)))=true;unfold nb;exact jS (λi=>by unfold nb;rfl) l
 |txts l=>show nb (.lst (l.map .str))=true;unfold nb;exact jS (λi=>by unfold nb;rfl) l
 |row r=>show nb (.tup ((stV r).map vDt))=true;unfold nb;exact jS bKo _
theorem bQ7(r:Row):nb (jY r)=true:=by
 unfold jY;split
 ·unfold nb;rfl
 ·unfold nb;exact jS bKo _
end Alike
namespace Alike
open PySem L2 PyProof.Rows
open Bk (Row Rows xY xV Ans)
open Desk (xE wY stV x3 Up Run)
theorem W6:∀ (n:Nat)(l:List Nat),l.Nodup->(∀k∈l,k<n)->l.length<=n
 |0,l,_,h=>by
  cases l with
  |nil=>exact bYp _
  |cons a r=>exact absurd (h a bYx) (cQ1 _)
 |n+1,l,nd,h=>by
  by_cases c:n∈l
  ·have:=W6 n (l.erase n) (nd.erase n) λk b=>by
    have d:=(cJE nd).mp b;have e:=h k d.2;have f:=d.1;omega
   rw[cJF c]at this;omega
  ·have:=W6 n l nd λk b=>by
    have e:=h k b;have f:k≠n:=λz=>c (by rw[<- z];exact b);omega
   omega
theorem wP{α:Type}{g:α->Dt}(h:∀a,(g a).size=1):∀l:List α,zX (l.map g)=l.length
 |[]=>by simp[zX]
 |a::l=>by rw[bY2];show(g a).size+zX (l.map g)=l.length+1;rw[h a,wP h l];omega
theorem aVw{α:Type}{g:α->Dt}{c:Nat}:∀ (l:List α),(∀a∈l,(g a).size<=c)->zX (l.map g)<=l.length*c
 |[],_=>by simp[zX]
 |a::l,h=>by rw[bY2,cQh,Nat.succ_mul];show(g a).size+zX (l.map g)<=_;have f:=h a bYx;have e:=aVw l λb d=>h b (bYt _ d);omega
theorem bQs(v:V):(vDt v).size=1:=by cases v<;> simp[vDt,Dt.size]
theorem aKq(e:xV):(X4 e).size<=5:=by
 have h:(X4 e).size=1+zX ((xE e).map vDt):=by unfold X4;simp[Dt.size]
 rw[h,wP bQs];cases e<;> simp[xE]
theorem aW2(r:Row):(jY r).size<=7:=by
 unfold jY;split
 ·simp[Dt.size]
 ·have h:Dt.size (.tup ((stV r).map vDt))=1+zX ((stV r).map vDt):=by simp[Dt.size]
  rw[h,wP bQs];simp[stV]
theorem bVH{R:Rows}(t:Bk.uW R){k:Nat}:(Bk.thr R k).length<=R.length:=by
 obtain⟨d,o,b,a⟩:=Bk.Z5 t k;refine W6 _ _ (b.imp λ{x y} h z=>?_) λj c=>((a j).mp c).1;rw[z,Stree.vC]at h;cases h
theorem bWq{R:Rows}{S:List Int}{d:Int}{a:Bool}{l:List Nat}(h:Bk.bQu R S d a l):l.length<=R.length:=by
 refine W6 _ _ (h.ord.imp λ{x y} h z=>?_) λj b=>((h.mem j).mp b).1;rw[z,Stree.wL]at h;cases h
theorem aQg(l:List Nat):(uD (.nums l)).size=1+l.length:=by
 have h:(uD (.nums l)).size=1+zX (l.map λi=>Dt.int (i:Nat)):=by unfold uD;simp[Dt.size]
 rw[h,wP (λi=>by simp[Dt.size])]
theorem bQx{t:Nat}{R j:Rows}{S g:List Int}{e:xV}{a:Ans}(h:xY R S e a j g)(l:Bk.qR R)(f:Up t R S):(uD a).size<=t+7:=by
 have b:∀x:Str,(uD (.txt x)).size=1:=λx=>by unfold uD;simp[Dt.size]
 have d:∀n:Int,(uD (.num n)).size=1:=λn=>by unfold uD;simp[Dt.size]
 have m:=f.r;cases h<;> (try rw[b])<;> (try rw[d])<;> try omega
 case state hk hv=>
  rename_i k r;have h:(uD (.row r)).size=1+zX ((stV r).map vDt):=by unfold uD;simp[Dt.size]
  rw[h,wP bQs];simp[stV]
 case thread hk hv=>
  rename_i k r;rw[aQg];have:=bVH l.tree (k:=k);omega
 case copies hk hv=>
  rename_i k r;have h:(uD (.txts r.copies)).size=1+zX (r.copies.map Dt.str):=by unfold uD;simp[Dt.size]
  rw[h,wP (λi=>by simp[Dt.size])];have:=f.c r (bYA hk);omega
 case letters=>
  rw[aQg];refine bYT (Nat.add_le_add_left (cQf _ _) 1) ?_;rw[bY8];omega
 case on h=>
  rw[aQg];have:=bWq h;omega
theorem aZC:∀ (n:Nat) {c:List xV} {j:List Ans} {b:Rows} {i:List Int},c.length=n->(∀e∈c,Desk.Wf e)->Run [] [] c j b i->Up n b i/\Bk.qR b/\∀a∈j,(uD a).size<=n+7
 |0,c,j,b,i,hn,hw,h=>by
  rcases h.inv with⟨_,rfl,rfl,rfl⟩|⟨_,_,_,_,_,_,rfl,_⟩
  ·exact⟨⟨bYp _,bYp _,λr h=>by simp at h⟩,Bk.aXd,λa h=>by simp at h⟩
  ·simp at hn
 |n+1,c,j,b,i,hn,hw,h=>by
  rcases h.inv with⟨rfl,_⟩|⟨q,e,u,a,y,z,rfl,rfl,g,d⟩
  ·simp at hn
  ·obtain⟨l,m,p⟩:=aZC n (by simpa using hn) (λe s=>hw e (cXb _ s)) g;have k:=hw e (by simp);refine⟨l.done d,Bk.xY.book m (λv d w t o=>by subst o;exact k) d,λx f=>?_⟩;rcases bYX.mp f with f|f
   ·have:=p x f;omega
   ·rw[bYz.mp f];have:=bQx d m l;omega
end Alike
namespace Alike
open PySem L2 PyProof.Rows
open Bk (Row Rows xY xV Ans)
open Desk (xE wY stV x3 Up Run wF Wf aQF X3)
open Law (xF LGo LBk aJZ aXa uR)
open Thr (z9)
theorem aJ8{H:Hp}{α:Type}{g:α->Dt}:∀ {vs:List V} {b:List α},vs.length=b.length->(∀ (i:Nat) v a,vs[i]? =some v->b[i]? =some a->Is H v (g a))->zM H vs (b.map g)
 |[],[],_,_=>by show zM H [] [];unfold zM;trivial
 |v::vs,a::b,hl,h=>by rw[bY2];unfold zM;exact⟨h 0 v a rfl rfl,aJ8 (by simpa using hl) λi v a d c=>h (i+1) v a d c⟩
 |[],_::_,hl,_=>by simp at hl
 |_::_,[],hl,_=>by simp at hl
theorem aZc{H:Hp}{p:Nat}{vs:List V}{ds:List Dt}(h:H p=some (.lst vs))(k:zM H vs ds):Is H (.ref p) (.lst ds):=by
 unfold Is;exact⟨p,vs,rfl,h,k⟩
theorem aJ9{H:Hp}{ds:Nat}{a:List Nat}{f:List xV}(h:wF H ds a f):Is H (.ref ds) (.lst (f.map X4)):=
 aZc h.1 (aJ8 (by rw[bYo];exact h.2.1) λi v e b g=>by
  rw[bYC]at b;cases c:a[i]? with
  |none=>rw[c]at b;cases b
  |some d=>
   rw[c]at b;cases b;exact bJt (h.2.2 i d e c g))
theorem aKV{α:Type}{g:α->Dt}(h:∀a,nb (g a)=true)(l:List α):nb (.lst (l.map g))=true:=by unfold nb;exact jS h l
theorem aXL{α:Type}{g:α->Dt}{c n:Nat}{l:List α}(h:∀a∈l,(g a).size<=c)(hl:l.length<=n):Dt.size (.lst (l.map g))<=1+n*c:=by
 have e:Dt.size (.lst (l.map g))=1+zX (l.map g):=by simp[Dt.size]
 have b:=aVw l h;have d:l.length*c<=n*c:=Nat.mul_le_mul_right _ hl;omega
theorem bV3(a:List Int)(b:Nat):aXh (a.map V.int) none (some (b:Int))=(a.take b).map V.int:=by
 unfold aXh;rw[HT.bXJ,bVa,List.drop_zero,Nat.sub_zero,List.map_take];by_cases c:b<=(a.map V.int).length
 ·rw[Nat.min_eq_left c]
 ·rw[Nat.min_eq_right (by omega),List.take_of_length_le (bYp _),List.take_of_length_le (by omega)]
abbrev bKA:Stmt:=xF "law"
def bZb(d:Nat)(K:bYk):Sp:=λc H Q _=>∃ (a:Nat)(b:List Int),c= [.ref a]/\SqL K H a (b.map V.int)/\b.length<=63/\z9 d H/\∀e,Q (.bl true) e
section
variable {K:bYk}
theorem bWG:yM ["_law_script","_law_deeds","_law_dues","_law_handed","_law_found","_law_rows","_law_shut","_law_deed","_law_due","_law_row"] ["_law_script"] (yH bKA):=scM
seal PE PA PS PSs PT in
theorem bWo(T:vI mg)(O:FnG P w K mg base n "_law_story" ["_law_cells"] aJZ)(X:FnG P w K mg base n "_law_room" ["_law_script","_law_most","_law_bound"] (bZX K))(j:FnG P w K mg base n "_law_alike" ["_law_found","_law_due"] aY5) (D:FnG P w K mg base n "_law_done_by" ["_law_rows","_law_shut","_law_deed"] aXa) (I:FnG P w K mg base n "answers" ["deeds"] (aQF Rf)) (C:FnG P w K mg base n "standing" ["deeds"] (X3 Rf)) (F:Fun K "law" "law" bKA f fd):y8 P w K mg base CX0 (n+1) f fd ["_law_script"] (bZb Rf.2 K):=by
 have sc:=bWG;refine F.ok (k:=n) sc (λe7 A outer s H0 vs Q E hr h=>?_);obtain⟨a,ns,rfl,hS,d0,hT,q⟩:=h;refine⟨_,(yC (vP (xK O hr rfl (yA (aXt aJU (pv 0) aJx (aJy (xK X hr rfl (yA (pv 0) (yA yE (yA yE yD)))))) yD)) (aVo rfl (zG (y9 (i:=1)) (zG (y9 (i:=2)) aXu)))) (yC (yT (i:=3) (xT vB rfl T.b_list vD (yA (pv 1) yD))) (yC (yT (i:=4) (xK I hr rfl (yA (pv 3) yD))) (yC (y6 (PW.pt (W0 (uC (x6 (xK j hr rfl (yA (pv 3) (yA (pv 1) yD))))) (jN (uC (x6 (xK j hr rfl (yA (pv 4) (yA (pv 2) yD)))))))) (yF (yP qN)) yR) (yC (yT (i:=5) (y3 yD)) (yC (yT (i:=6) (y3 yD)) (yC (wE cQd rfl (xI (pv 1)) (y9 (i:=7)) (yF (yY (xK D hr rfl (yA (pv 5) (yA (pv 6) (yA (pv 7) yD))))))) (yC (yT (i:=8) (y3 yD)) (yC (wE cQd rfl (xI (pv 5)) (y9 (i:=9)) (yF (yY (uG bYS bYY bYZ xG (pv 8) (yA (yL yK (y3 (yA (xT qG rfl T.b_tuple vU (yA (aXt aJU (pv 9) aJx (aJy yE)) yD)) (yA yO yD))) (xT wR rfl T.b_int jJ (yA (yL yK (pv 9) yE) yD))) yD))))) (yF (yP (xK j hr rfl (yA (xK C hr rfl (yA (xT vB rfl T.b_list vD (yA (pv 1) yD)) yD)) (yA (pv 8) yD)))))))))))))),?_⟩;refine⟨_,rfl,_,rfl,a,ns,30,80,rfl,hS,d0,_,rfl,a,_,rfl,hS,λp hp=>?_⟩;have k0:=yG hp (.lst (aXh (ns.map V.int) none (some 30)));refine⟨p,ns.take 30,rfl,yB.trans (by rw[show(30:Int)=((30:Nat):Int)from rfl,bV3]),by rw[cQA];omega,λH1 t ds us y J vs as R S k1 ht hD d7 hP B Z b1=>?_⟩;have a0:J.length<=33:=by rw[cQA]at b1;omega
 have T1:=Desk.v8 hT (k0.trans k1);refine⟨t,[.ref ds,.ref us],rfl,SqT.of ht,rfl,.ref ds,[.ref us],rfl,.ref us,[],rfl,rfl,?_⟩;dsimp only[yW];refine⟨_,rfl,ds,_,rfl,.inl (SqL.of hD.1),λhl c4=>?_⟩;have k2:=yG c4 (.lst (y.map V.ref));have D2:wF (upd H1 hl (.lst (y.map V.ref))) hl y J:=⟨yB,hD.2.1,λi d e h1 h2=>k2 _ _ (hD.2.2 i d e h1 h2)⟩;have b2:=hD.same k2.t;have u2:=k2 _ _ d7;have P2:cQc (λv a=>wY [] (upd H1 hl (.lst (y.map V.ref))) a v) vs as:=Desk.uP (λv a z=>Law.vT z λp u n e=>⟨n,k2 _ _ e⟩) hP;have T2:=Desk.v8 T1 k2;generalize upd H1 hl (.lst (y.map V.ref))=H2 at k2 D2 b2 u2 P2 T2 ⊢;dsimp only[yW];refine⟨_,rfl,hl,y,J,rfl,D2,by omega,Z,T2,λl H3 ws bs R2 S2 k3 T3 b3 e6 d4 a1=>?_⟩;obtain⟨rfl,rfl,rfl⟩:=Run.det J.length rfl B b3;obtain⟨d2,_,c8⟩:=aZC J.length rfl Z B;dsimp only[yW];have D3:=D2.same k3;have b0:=b2.same k3;have P3:cQc (λv a=>wY [] H3 a v) vs as:=Desk.uP (λv a z=>by
  cases a with
  |num n=>exact z
  |txt x=>exact z
  |nums l=>obtain⟨p,e,n,q⟩:=z;exact⟨p,e,n,k3.lst q⟩
  |txts l=>obtain⟨p,e,n,q⟩:=z;exact⟨p,e,n,k3.lst q⟩
  |row r=>obtain⟨p,e,n,q⟩:=z;exact⟨p,e,n,k3.tup q⟩) P2
 have u3:=k3.lst u2;have d5:as.length<=33:=by rw[<- B.len];exact a0
 refine⟨_,rfl,_,rfl,.ref hl,.ref ds,.lst (J.map X4),rfl,aJ9 D3,aJ9 b0,aKV bJC _,bYT (aXL (n:=33) (c:=5) (λe _=>aKq e) a0) (by decide),λH4 k4=>⟨_,rfl,onF rfl ?_⟩⟩;have i1:Is H4 (.ref l) (.lst (as.map uD)):=aZc (k4 _ _ d4) (wB (F:=λv a=>wY [] H4 a v) (λv a z=>bZF z) (Desk.uP (λv a z=>Law.vT z λp u n e=>⟨n,k4 _ _ e⟩) a1));have i2:Is H4 (.ref us) (.lst (as.map uD)):=aZc (k4 _ _ u3) (wB (F:=λv a=>wY [] H4 a v) (λv a z=>bZF z) (Desk.uP (λv a z=>Law.vT z λp u n e=>⟨n,k4 _ _ e⟩) P3));refine⟨_,rfl,_,rfl,.ref l,.ref us,.lst (as.map uD),rfl,i1,i2,aKV bWi _,bYT (aXL (n:=33) (c:=40) (λa ha=>by have:=c8 a ha;omega) d5) (by decide),λH5 k5=>⟨_,rfl,onF rfl ?_⟩⟩;have D5:=b0.same (k4.trans k5).t;have T5:=Desk.v8 T3 (k4.trans k5);refine⟨z0,λra b8=>?_⟩;dsimp only[yW];refine⟨z0,λsa c0=>?_⟩;dsimp only[yW];have g0:=LGo.start b8 c0;generalize upd (upd H5 ra (.lst [])) sa (.lst [])=H6 at g0 ⊢;refine⟨_,rfl,ds,rfl,⟨_,SqL.of (g0.keep _ _ D5.1)⟩,?_⟩;refine zK (xs:=y.map V.ref) (λt σ H7=>∃ (rs:List Nat)(cs:List Ans)(o7:Option V),σ= [some (.ref a),some (.ref ds),some (.ref us),some (.ref hl),some (.ref l),some (.ref ra),some (.ref sa),o7,none,none]/\LGo H5 ra sa (J.take t) cs H7 rs) ?_ ?_ ?_ ?_
 ·exact⟨[],[],none,rfl,g0⟩
 ·rintro t σ H7 ht ⟨rs,cs,o7,rfl,g⟩;exact SqL.of (g.keep _ _ D5.1)
 ·rintro t x σ H7 U ⟨rs,cs,o7,rfl,g⟩;rw[bYC]at U;cases hd:y[t]? with
  |none=>rw[hd]at U;cases U
  |some d=>
   rw[hd]at U;cases U;have Y:t<J.length:=by rw[<- hD.2.1];exact(bYu.mp hd).1
   have he:=bYh Y;dsimp only[yW];refine⟨_,rfl,_,rfl,_,rfl,g.step (Z _ (cXj Y)) (by rw[cQA];omega) (g.keep _ _ (D5.2.2 t d _ hd he)) λb v H8 c6 g8 st av nv=>?_⟩;have et:J.take (t+1)=J.take t++ [J[t]]:=by rw[cQw,he];rfl
   exact⟨c6,cs++ [b],_,rfl,by rw[et];exact g8⟩
 rintro σ H7 ⟨rs,cs,o7,rfl,g⟩;rw[bYo,hD.2.1,cQn]at g;obtain⟨R7,S7,hL,d9,e5,b4⟩:=g.ex;obtain⟨rfl,rfl,rfl⟩:=Run.det J.length rfl B b4;dsimp only[aW4];refine⟨z0,λdl a8=>?_⟩;dsimp only[yW];have k8:=yG a8 (.lst []);have c5:=hL.same k8;have c3:R.length<=33:=bYT d2.r a0;refine⟨_,rfl,ra,rfl,⟨_,SqL.of c5.book.lst⟩,?_⟩;refine zK (xs:=rs.map V.ref) (λt σ N=>∃ (ws:List V)(o9:Option V),σ= [some (.ref a),some (.ref ds),some (.ref us),some (.ref hl),some (.ref l),some (.ref ra),some (.ref sa),o7,some (.ref dl),o9]/\xA H7 N/\N dl=some (.lst ws)/\cQc (λv r=>x3 N r v) ws (R.take t)) ?_ ?_ ?_ ?_
 ·exact⟨[],none,rfl,k8,yB,.nil⟩
 ·rintro t σ N ht ⟨ws,o9,rfl,k9,G,L⟩;exact SqL.of (k9 _ _ hL.book.lst)
 ·rintro t x σ N U ⟨ws,o9,rfl,k9,G,L⟩;rw[bYC]at U;cases hb:rs[t]? with
  |none=>rw[hb]at U;cases U
  |some b=>
   rw[hb]at U;cases U;have Y:t<R.length:=by rw[<- hL.book.len];exact(bYu.mp hb).1
   have b6:=bYh Y;obtain⟨W,e1,e2⟩:=hL.book.row t b _ hb b6;have b9:N b=some (.lst (uR R[t] W)):=k9 _ _ e1;have e0:ws.length=t:=by rw[cXH L,cQA];omega
   dsimp only[yW];refine⟨_,rfl,.inl ⟨rfl,_,SqL.of G⟩,_,rfl,_,rfl,b,_,rfl,SqL.of b9,λp2 c1=>⟨p2,_,rfl,.inl ⟨SqL.of yB,λM a1=>⟨z2,λl2 b7=>?_⟩⟩⟩⟩;have a2:=yG c1 (.lst (aXh (uR R[t] W) none (some 6)));have a3:=yG a1 (.tup (aXh (uR R[t] W) none (some 6)));have a4:=yG b7 (.lst [.ref M,.str "void"]);have aa:=(a2.trans a3).trans a4;have e3:=a4 _ _ (yB (H:=upd N p2 (.lst (aXh (uR R[t] W) none (some 6)))) (a:=M) (o:= .tup (aXh (uR R[t] W) none (some 6))));have e4:upd (upd (upd N p2 (.lst (aXh (uR R[t] W) none (some 6)))) M (.tup (aXh (uR R[t] W) none (some 6)))) l2 (.lst [.ref M,.str "void"]) l2=some (.lst [.ref M,.str "void"]):=yB;generalize upd (upd (upd N p2 (.lst (aXh (uR R[t] W) none (some 6)))) M (.tup (aXh (uR R[t] W) none (some 6)))) l2 (.lst [.ref M,.str "void"])=H10 at aa e3 e4 ⊢;have c7:=aa _ _ b9;have d1:atI [V.ref M,V.str "void"] (if R[t].void=true then 1 else 0)=some (if R[t].void=true then .str "void" else .ref M):=by cases R[t].void<;> rfl
   refine⟨_,rfl,b,_,6,_,rfl,rfl,SqL.of c7,rfl,.inr ⟨_,rfl,l2,_,_,_,rfl,rfl,SqL.of e4,d1,dl,_,_,rfl,rfl,aa _ _ G,zlt (by omega),?_⟩⟩;have a9:H7 dl=none:=a8;have d3:∀ys,xA H7 (upd H10 dl (.lst ys)):=λys x o e=>by rw[yI (yJ e a9)];exact aa _ _ (k9 _ _ e)
   have tk:∀ {x zs ys},N x=some (.tup zs)->upd H10 dl (.lst ys) x=some (.tup zs):=λ{x zs ys} e=>by rw[yI (λz=>by rw[z,G]at e;cases e)];exact aa _ _ e
   refine⟨ws++ [if R[t].void=true then .str "void" else .ref M],_,rfl,d3 _,yB,?_⟩;have et:R.take (t+1)=R.take t++ [R[t]]:=by rw[cQw,b6];rfl
   rw[et];refine Paired.snoc (Desk.uP (λv r z=>?_) L) ?_
   ·unfold x3 at z ⊢;split
    ·rename_i e;rw[if_pos e]at z;exact z
    ·rename_i e;rw[if_neg e]at z;obtain⟨p,e,q⟩:=z;exact⟨p,e,tk q⟩
   ·unfold x3;cases hv:R[t].void with
    |true=>exact rfl
    |false=>
     have c2:aXh (uR R[t] W) none (some 6)=stV R[t]:=by unfold stV Desk.W1 Desk.qZ;rw[hv];cases d8:R[t].link<;> (unfold uR;rw[d8];rfl)
     rw[c2]at e3;refine⟨M,rfl,?_⟩;rw[yI (λz=>by rw[z,aa _ _ G]at e3;cases e3)];exact e3
 rintro σ N ⟨ws,o9,rfl,k9,G,L⟩;rw[bYo,hL.book.len,cQn]at L;dsimp only[aW4];have D9:=D5.same (g.keep.trans k9).t;refine⟨_,rfl,ds,_,rfl,.inl (SqL.of D9.1),λp hp=>?_⟩;have kp:=yG hp (.lst (y.map V.ref));refine⟨p,y,J,rfl,⟨yB,hD.2.1,λi d e h1 h2=>kp _ _ (D9.2.2 i d e h1 h2)⟩,by omega,Z,Desk.v8 T5 ((g.keep.trans k9).trans kp),λm c9 f1 e9 R2 S2 a6 f0 a5 e8 b5 a7=>?_⟩;obtain⟨-,rfl, -⟩:=Run.det J.length rfl B a5;refine⟨_,rfl,.ref m,.ref dl,.lst (R.map jY),rfl,aZc b5 (wB (λv r z=>aVa z) a7),aZc (a6.lst (kp _ _ G)) (wB (F:=λv r=>x3 c9 r v) (λv r z=>aVa z) (Desk.uP (λv r z=>(z.same kp.t).same a6) L)),aKV bQ7 _,bYT (aXL (n:=33) (c:=7) (λr _=>aW2 r) c3) (by decide),λd6 _=>q d6⟩
end
end Alike
namespace Desk
open PySem L2 PyProof.Rows
section
variable {K:bYk}
abbrev aQv:Stmt:=xB "Refused" "__init__"
theorem aWJ:yM ["self","words"] ["self","words"] (yH aQv):=scM
theorem aWp(F:Fun K "__init__" "Refused.__init__" aQv f fd):y8 P w K mg base CX0 (n+1) f fd ["self","words"] (wH K):=by
 have c:=aWJ;refine F.ok (k:=n) c (λd A outer s H l Q E j h=>?_);obtain⟨e,C,tp,y,rfl,g,b,q⟩:=h;refine⟨_,(yF (bWv (pv 0) (pv 1) rfl)),?_⟩;exact⟨_,rfl,_,rfl,e,C,tp,rfl,g,b,λi a=>q i a⟩
abbrev Y8:Stmt:=xB "NoLetter" "__init__"
theorem aJL:yM ["self"] ["self"] (yH Y8):=scM
theorem aJl(a:aVP P w K mg base n "Refused" "__init__" ["self","words"] (wH K))(c:vS K C)(F:Fun K "__init__" "NoLetter.__init__" Y8 f fd):y8 P w K mg base CX0 (n+1) f fd ["self"] (zY K C "no letter"):=by
 have d:=aJL;refine F.ok (k:=n) d (λg A outer s H m Q E j h=>?_);obtain⟨e,tp,rfl,i,q⟩:=h;refine⟨_,(yF (yY (uQ a j rfl (yA (pv 0) (yA yO yD))))),?_⟩;exact⟨_,rfl,e,C,tp,_,rfl,i,c,λl b=>q l b⟩
abbrev aXI:Stmt:=xB "NoTerm" "__init__"
theorem aYO:yM ["self"] ["self"] (yH aXI):=scM
theorem aK3(a:aVP P w K mg base n "Refused" "__init__" ["self","words"] (wH K))(c:vS K C)(F:Fun K "__init__" "NoTerm.__init__" aXI f fd):y8 P w K mg base CX0 (n+1) f fd ["self"] (zY K C "no term"):=by
 have d:=aYO;refine F.ok (k:=n) d (λg A outer s H m Q E j h=>?_);obtain⟨e,tp,rfl,i,q⟩:=h;refine⟨_,(yF (yY (uQ a j rfl (yA (pv 0) (yA yO yD))))),?_⟩;exact⟨_,rfl,e,C,tp,_,rfl,i,c,λl b=>q l b⟩
abbrev aXH:Stmt:=xB "HasOne" "__init__"
theorem aYN:yM ["self"] ["self"] (yH aXH):=scM
theorem aK2(a:aVP P w K mg base n "Refused" "__init__" ["self","words"] (wH K))(c:vS K C)(F:Fun K "__init__" "HasOne.__init__" aXH f fd):y8 P w K mg base CX0 (n+1) f fd ["self"] (zY K C "has one"):=by
 have d:=aYN;refine F.ok (k:=n) d (λg A outer s H m Q E j h=>?_);obtain⟨e,tp,rfl,i,q⟩:=h;refine⟨_,(yF (yY (uQ a j rfl (yA (pv 0) (yA yO yD))))),?_⟩;exact⟨_,rfl,e,C,tp,_,rfl,i,c,λl b=>q l b⟩
abbrev aQu:Stmt:=xB "HasNone" "__init__"
theorem aWI:yM ["self"] ["self"] (yH aQu):=scM
theorem aWo(a:aVP P w K mg base n "Refused" "__init__" ["self","words"] (wH K))(c:vS K C)(F:Fun K "__init__" "HasNone.__init__" aQu f fd):y8 P w K mg base CX0 (n+1) f fd ["self"] (zY K C "has none"):=by
 have d:=aWI;refine F.ok (k:=n) d (λg A outer s H m Q E j h=>?_);obtain⟨e,tp,rfl,i,q⟩:=h;refine⟨_,(yF (yY (uQ a j rfl (yA (pv 0) (yA yO yD))))),?_⟩;exact⟨_,rfl,e,C,tp,_,rfl,i,c,λl b=>q l b⟩
abbrev jW:Stmt:=xB "OwnThread" "__init__"
theorem aZE:yM ["self"] ["self"] (yH jW):=scM
theorem aZq(a:aVP P w K mg base n "Refused" "__init__" ["self","words"] (wH K))(c:vS K C)(F:Fun K "__init__" "OwnThread.__init__" jW f fd):y8 P w K mg base CX0 (n+1) f fd ["self"] (zY K C "own thread"):=by
 have d:=aZE;refine F.ok (k:=n) d (λg A outer s H m Q E j h=>?_);obtain⟨e,tp,rfl,i,q⟩:=h;refine⟨_,(yF (yY (uQ a j rfl (yA (pv 0) (yA yO yD))))),?_⟩;exact⟨_,rfl,e,C,tp,_,rfl,i,c,λl b=>q l b⟩
abbrev aQw:Stmt:=xB "SameWay" "__init__"
theorem aWK:yM ["self"] ["self"] (yH aQw):=scM
theorem aWq(a:aVP P w K mg base n "Refused" "__init__" ["self","words"] (wH K))(c:vS K C)(F:Fun K "__init__" "SameWay.__init__" aQw f fd):y8 P w K mg base CX0 (n+1) f fd ["self"] (zY K C "same way"):=by
 have d:=aWK;refine F.ok (k:=n) d (λg A outer s H m Q E j h=>?_);obtain⟨e,tp,rfl,i,q⟩:=h;refine⟨_,(yF (yY (uQ a j rfl (yA (pv 0) (yA yO yD))))),?_⟩;exact⟨_,rfl,e,C,tp,_,rfl,i,c,λl b=>q l b⟩
abbrev vH:Stmt:=xB "OtherPartner" "__init__"
theorem aQE:yM ["self"] ["self"] (yH vH):=scM
theorem aQh(a:aVP P w K mg base n "Refused" "__init__" ["self","words"] (wH K))(c:vS K C)(F:Fun K "__init__" "OtherPartner.__init__" vH f fd):y8 P w K mg base CX0 (n+1) f fd ["self"] (zY K C "other partner"):=by
 have d:=aQE;refine F.ok (k:=n) d (λg A outer s H m Q E j h=>?_);obtain⟨e,tp,rfl,i,q⟩:=h;refine⟨_,(yF (yY (uQ a j rfl (yA (pv 0) (yA yO yD))))),?_⟩;exact⟨_,rfl,e,C,tp,_,rfl,i,c,λl b=>q l b⟩
abbrev Y9:Stmt:=xB "TooEarly" "__init__"
theorem aJM:yM ["self"] ["self"] (yH Y9):=scM
theorem aJm(a:aVP P w K mg base n "Refused" "__init__" ["self","words"] (wH K))(c:vS K C)(F:Fun K "__init__" "TooEarly.__init__" Y9 f fd):y8 P w K mg base CX0 (n+1) f fd ["self"] (zY K C "too early"):=by
 have d:=aJM;refine F.ok (k:=n) d (λg A outer s H m Q E j h=>?_);obtain⟨e,tp,rfl,i,q⟩:=h;refine⟨_,(yF (yY (uQ a j rfl (yA (pv 0) (yA yO yD))))),?_⟩;exact⟨_,rfl,e,C,tp,_,rfl,i,c,λl b=>q l b⟩
abbrev aXG:Stmt:=xB "Copied" "__init__"
theorem aYM:yM ["self"] ["self"] (yH aXG):=scM
theorem aK1(a:aVP P w K mg base n "Refused" "__init__" ["self","words"] (wH K))(c:vS K C)(F:Fun K "__init__" "Copied.__init__" aXG f fd):y8 P w K mg base CX0 (n+1) f fd ["self"] (zY K C "copied"):=by
 have d:=aYM;refine F.ok (k:=n) d (λg A outer s H m Q E j h=>?_);obtain⟨e,tp,rfl,i,q⟩:=h;refine⟨_,(yF (yY (uQ a j rfl (yA (pv 0) (yA yO yD))))),?_⟩;exact⟨_,rfl,e,C,tp,_,rfl,i,c,λl b=>q l b⟩
abbrev Y7:Stmt:=xB "Answered" "__init__"
theorem aJK:yM ["self"] ["self"] (yH Y7):=scM
theorem aJk(a:aVP P w K mg base n "Refused" "__init__" ["self","words"] (wH K))(c:vS K C)(F:Fun K "__init__" "Answered.__init__" Y7 f fd):y8 P w K mg base CX0 (n+1) f fd ["self"] (zY K C "answered"):=by
 have d:=aJK;refine F.ok (k:=n) d (λg A outer s H m Q E j h=>?_);obtain⟨e,tp,rfl,i,q⟩:=h;refine⟨_,(yF (yY (uQ a j rfl (yA (pv 0) (yA yO yD))))),?_⟩;exact⟨_,rfl,e,C,tp,_,rfl,i,c,λl b=>q l b⟩
abbrev jV:Stmt:=xB "CountsNot" "__init__"
theorem aZD:yM ["self"] ["self"] (yH jV):=scM
theorem aZp(a:aVP P w K mg base n "Refused" "__init__" ["self","words"] (wH K))(c:vS K C)(F:Fun K "__init__" "CountsNot.__init__" jV f fd):y8 P w K mg base CX0 (n+1) f fd ["self"] (zY K C "counts not"):=by
 have d:=aZD;refine F.ok (k:=n) d (λg A outer s H m Q E j h=>?_);obtain⟨e,tp,rfl,i,q⟩:=h;refine⟨_,(yF (yY (uQ a j rfl (yA (pv 0) (yA yO yD))))),?_⟩;exact⟨_,rfl,e,C,tp,_,rfl,i,c,λl b=>q l b⟩
end
end Desk
namespace End4
open PySem L2 PyProof.Rows
section
variable {K:bYk}{x m qual t:Str}{st:Stmt}{f C R CB CL:Nat}{oc:bYi}{od an:Option Nat}{osl:Array (Option bYi)}{kV doc pm cdv ct:bYi}
structure vJ(K:bYk)(x:Str)(st:Stmt)(f:Nat):Prop where
 ns:cQa K bYN x=some (some (.ref f))
 ex:∃fd,Fun K x x st f fd
def Def(K:bYk)(x:Str)(st:Stmt):Prop:=∃f,vJ K x st f
theorem xQ(a:cQa K bYN x=some (some (.ref f)))(l:K.lookup f=some ⟨oc,od,.func (cQj x x (xW st) (xO st) (yH st) .none kV doc pm an cdv ct),osl⟩)
  (c:cQY K cdv x=true) (k:cQb K (.ref f)=true):vJ K x st f:=⟨a,_,aQ1 l c k⟩
theorem xL(a:cQa K bYN x=some (some (.ref f)))(l:K.lookup f=some ⟨oc,od,.func (cQj x x (xW st) (xO st) (yH st) .none kV doc pm an cdv ct),osl⟩)
  (c:cQY K cdv x=true) (k:cQb K (.ref f)=true):Def K x st:=⟨f,xQ a l c k⟩
structure Mtd(K:bYk)(C:Nat)(m qual:Str)(st:Stmt):Prop where
 ex:∃f fd,bVM K C m f/\Fun K m qual st f fd
theorem xZ(a:bY1 K (.ref C) m=some (some (.ref f)))(i:cXV K (.ref f)=true)(l:K.lookup f=some ⟨oc,od,.func (cQj m qual (xW st) (xO st) (yH st) .none kV doc pm an cdv ct),osl⟩)
  (c:cQY K cdv qual=true) (k:cQb K (.ref f)=true):Mtd K C m qual st:=⟨f,_,⟨a,i,k⟩,aQ1 l c k⟩
structure MkD(K:bYk)(x:Str)(C:Nat)(qual:Str)(st:Stmt):Prop where
 ns:cQa K bYN x=some (some (.ref C))
 ex:∃f fd,Mk K C f/\Fun K "__init__" qual st f fd
theorem bZK(a:cQa K bYN x=some (some (.ref C)))(mk:PySem.W.makesIn K C=true)(d:cQb K (.ref C)=true)(b:bY1 K (.ref C) "__init__"=some (some (.ref f)))(i:cXV K (.ref f)=true) (l:K.lookup f=some ⟨oc,od,.func (cQj "__init__" qual (xW st) (xO st) (yH st) .none kV doc pm an cdv ct),osl⟩) (c:cQY K cdv qual=true) (k:cQb K (.ref f)=true):MkD K x C qual st:=
 ⟨a,f,_,⟨mk,b,i,d⟩,aQ1 l c k⟩
structure Exc(K:bYk)(R:Nat)(x qual:Str)(st:Stmt):Prop where
 ex:∃C f fd,cQa K bYN x=some (some (.ref C))/\vS K C/\cZv K C (.ref R)=some true/\bY1 K (.ref C) "__init__"=some (some (.ref f))/\cXV K (.ref f)=true/\cQb K (.ref C)=true/\Fun K "__init__" qual st f fd
theorem uK(a:cQa K bYN x=some (some (.ref C)))(e:bQJ K C=true)(b:cZv K C (.ref R)=some true)(g:cQb K (.ref C)=true)(d:bY1 K (.ref C) "__init__"=some (some (.ref f)))(i:cXV K (.ref f)=true) (l:K.lookup f=some ⟨oc,od,.func (cQj "__init__" qual (xW st) (xO st) (yH st) .none kV doc pm an cdv ct),osl⟩) (c:cQY K cdv qual=true) (k:cQb K (.ref f)=true):Exc K R x qual st:=
 ⟨C,f,_,a,aKu e,b,d,i,g,aQ1 l c k⟩
structure bKe(K:bYk)(x:Str)(R:Nat)(qual:Str)(st:Stmt):Prop where
 ns:cQa K bYN x=some (some (.ref R))
 cl:vS K R
 ex:∃f fd,PySem.W.readsIn K R (.type "type")=true/\PySem.W.findCls K (.ref R) (.type "type") "__init__"=some (.val (.ref f))/\cZP K (.ref R) "__getattribute__"=some (some (.builtin "type.__getattribute__"))/\Fun K "__init__" qual st f fd
theorem bJ3(a:cQa K bYN x=some (some (.ref R)))(e:bQJ K R=true)(rd:PySem.W.readsIn K R (.type "type")=true)(b:PySem.W.findCls K (.ref R) (.type "type") "__init__"=some (.val (.ref f))) (sp:cZP K (.ref R) "__getattribute__"=some (some (.builtin "type.__getattribute__"))) (l:K.lookup f=some ⟨oc,od,.func (cQj "__init__" qual (xW st) (xO st) (yH st) .none kV doc pm an cdv ct),osl⟩) (c:cQY K cdv qual=true) (k:cQb K (.ref f)=true):bKe K x R qual st:=
 ⟨a,aKu e,f,_,rd,b,sp,aQ1 l c k⟩
theorem bKi(b1:cXW K CB Str.empty=true)(o:cZf K CB=true)(k:cZO K CB=true)(n:bY1 K (.ref CB) "__setattr__"=some (some (.builtin "object.__setattr__")))
  (l:cXW K CL Str.empty=true) (g:cZf K CL=true) (f:cZO K CL=true) (h:bY1 K (.ref CL) "__setattr__"=some (some (.builtin "object.__setattr__")))
  (i:bY1 K (.ref CB) "letters"=some none) (c:bY1 K (.ref CB) "shut"=some none)
  (e:bY1 K (.ref CL) "number"=some none) (q:bY1 K (.ref CL) "way"=some none) (m:bY1 K (.ref CL) "day"=some none) (r:bY1 K (.ref CL) "partner"=some none)
  (d:bY1 K (.ref CL) "term"=some none) (j:bY1 K (.ref CL) "link"=some none) (p:bY1 K (.ref CL) "file"=some none) (a:bY1 K (.ref CL) "copies"=some none) (b:bY1 K (.ref CL) "void"=some none):
  Desk.Cl K CB CL:=⟨⟨b1,o,k,n⟩,⟨l,g,f,h⟩,i,c,e,q,m,r,d,j,p,a,b⟩
end
section
variable {P:bYE}{w:bYK}{K:bYk}{h:Heap}{mg:Str->Option bYi}{base:Heap}{x m qual t:Str}{st:Stmt}{f C R:Nat}{k:Nat}{ps:List Str}{sp:Sp}{CX:CXT}
def uH(x qual:Str)(st:Stmt)(ps:List Str):Prop:=∀ (kV doc pm:bYi)(an:Option Nat)(cdv ct:bYi)(a:List bYi),a.length=ps.length->cXY (cQj x qual (xW st) (xO st) (yH st) .none kV doc pm an cdv ct) ⟨a,[]⟩=pure (ps.zip a)
theorem W4{a:cXd}(F:Fun K x qual st f a):cQb K (.ref f)=true:=F.2
theorem gOf(P:bYE)(w:bYK)(base:Heap)(k:Nat)(X:K.In h)(G:h.Ns bYN mg)(D:Def K x st)(b:uH x x st ps)(ok:∀f c,Fun K x x st f c->y8 P w K mg base CX0 k f c ps sp):FnG P w K mg base k x ps sp:=by
 obtain⟨f,a,c,F⟩:=D;exact⟨f,c,ok f c F,F.binds b,W4 F,cQ9 X G a⟩
theorem xOf(P:bYE)(w:bYK)(base:Heap)(k:Nat)(X:K.In h)(G:h.Ns bYN mg)(D:Def K x st)(b:uH x x st ps)(ok:∀f c,Fun K x x st f c->y8 P w K mg base (CXR P w) k f c ps sp):FnX P w K mg base k x ps sp:=by
 obtain⟨f,a,c,F⟩:=D;exact⟨f,c,ok f c F,F.binds b,W4 F,cQ9 X G a⟩
structure DoG(P:bYE)(w:bYK)(K:bYk)(mg:Str->Option bYi)(base:Heap)(k:Nat)(f:Nat)(ps:List Str)(sp:Sp):Prop where
 ex:∃fd,y8 P w K mg base (CXR P w) k f fd ps sp/\vR K fd ps []/\cQb K (.ref f)=true
theorem dOf(mg:Str->Option bYi)(P:bYE)(w:bYK)(base:Heap)(k:Nat)(D:vJ K x st f)(b:uH x x st ps)(ok:∀f c,Fun K x x st f c->y8 P w K mg base (CXR P w) k f c ps sp):DoG P w K mg base k f ps sp:=by
 obtain⟨a,c,F⟩:=D;exact⟨c,ok f c F,F.binds b,W4 F⟩
theorem mOf(mg:Str->Option bYi)(P:bYE)(w:bYK)(base:Heap)(k:Nat)(c:Cls K C)(D:Mtd K C m qual st)(b:uH m qual st ps)(ok:∀f a,Fun K m qual st f a->y8 P w K mg base CX0 k f a ps sp):MG P w K mg base CX0 k C m ps sp:=by
 obtain⟨f,a,M,F⟩:=D.ex;exact⟨⟨f,a,ok f a F,F.binds b,M⟩,c⟩
theorem aJi(mg:Str->Option bYi)(P:bYE)(w:bYK)(base:Heap)(k:Nat)(c:Cls K C)(D:Mtd K C m qual st)(b:uH m qual st ps)(ok:∀f a,Fun K m qual st f a->y8 P w K mg base (CXR P w) k f a ps sp):MG P w K mg base (CXR P w) k C m ps sp:=by
 obtain⟨f,a,M,F⟩:=D.ex;exact⟨⟨f,a,ok f a F,F.binds b,M⟩,c⟩
theorem kOf(P:bYE)(w:bYK)(base:Heap)(k:Nat)(X:K.In h)(G:h.Ns bYN mg)(D:MkD K x C qual st)(b:uH "__init__" qual st ps)(ok:∀f a,Fun K "__init__" qual st f a->y8 P w K mg base CX0 k f a ps sp):MkG P w K mg base k x C ps sp:=by
 obtain⟨f,a,M,F⟩:=D.ex;exact⟨⟨f,a,ok f a F,F.binds b,M,cQ9 X G D.ns⟩⟩
theorem eOf(P:bYE)(w:bYK)(base:Heap)(k:Nat)(t:Str)(X:K.In h)(G:h.Ns bYN mg)(D:Exc K R x qual st)(b:uH "__init__" qual st ["self"])(ok:∀C f c,vS K C->Fun K "__init__" qual st f c->y8 P w K mg base CX0 k f c ["self"] (zY K C t)):∃C,ExG P w K mg base k x R C t:=by
 obtain⟨C,f,c,a,e,d,g,i,j,F⟩:=D.ex;exact⟨C,⟨f,c,ok C f c e F,F.binds b,g,i,j,cQ9 X G a⟩,e,d⟩
theorem rOf(P:bYE)(w:bYK)(base:Heap)(k:Nat)(X:K.In h)(G:h.Ns bYN mg)(D:bKe K x R qual st)(b:uH "__init__" qual st ps)(ok:∀f a,Fun K "__init__" qual st f a->y8 P w K mg base CX0 k f a ps sp):aVP P w K mg base k x "__init__" ps sp:=by
 obtain⟨f,a,rd,c,s,F⟩:=D.ex;exact⟨⟨R,f,a,ok f a F,F.binds b,rd,c,s,W4 F,cQ9 X G D.ns⟩⟩
end
def Pr(w:bYK):List DictEntry->List (Str×Nat)->Prop
 |[],[]=>True
 |e::es,(x,f)::r=>(∃t,e.key= .str x t)/\e.hash=hashStr w x/\e.val= .ref f/\Pr w es r
 |_,_=>False
abbrev bZH(r:List (Str×Nat)):List (Key×bYi):=r.map λp=>(Sum.inr p.1,.ref p.2)
theorem aVp{P:bYE}{w:bYK}:∀ {a:List DictEntry} {r:List (Str×Nat)},Pr w a r->Pairs (x2 P w) a (bZH r)
 |[],[],_=> .nil
 |e::a,(x,f)::r,⟨⟨t,h1⟩,h2,h3,h4⟩=> .cons (by rw[h1];exact jR P w x t) h3 (aVp h4)
 |[],_::_,h=>nomatch h
 |_::_,[],h=>nomatch h
theorem aYn{P:bYE}{w:bYK}:∀ {a:List DictEntry} {r:List (Str×Nat)},Pr w a r->∀e∈a,∃k,(x2 P w).is k e.key=true/\e.hash=(x2 P w).hash k
 |[],_,_,e,he=>nomatch he
 |e::a,(x,f)::r,⟨⟨t,h1⟩,h2,h3,h4⟩,e',he=>by
  rcases bYr.mp he with rfl|z
  ·exact⟨Sum.inr x,by rw[h1];exact jR P w x t,h2⟩
  ·exact aYn h4 e' z
 |_::_,[],h,_,_=>nomatch h
theorem bVG{P:bYE}{w:bYK}{K:bYk}{D:Nat}{d:Array DictEntry}{f:Nat}{r:List (Str×Nat)}(l:K.lookup D=some ⟨.type "dict",none,.dict d f, #[]⟩)(p:Pr w d.toList r)(g:(r.map (·.1)).Nodup):Desk.bKg P w K D (bZH r):=by
 refine⟨⟨_,d,f,l,⟨rfl,rfl,rfl⟩,rfl,λe h=>aYn p e (Array.mem_toList_iff.mpr h),aVp p,?_⟩⟩;have e:(bZH r).map (·.1)=(r.map (·.1)).map Sum.inr:=by simp[bZH,Function.comp_def]
 rw[e];exact List.Pairwise.map _ (λa b c z=>c (Sum.inr.inj z)) g
theorem uE:∀ {r:List (Str×Nat)} {x:Str} {f:Nat},(r.map (·.1)).Nodup->∀i:Nat,r[i]? =some (x,f)->cZC (bZH r) (Sum.inr x:Key)=some (.ref f)
 |[],_,_,_,_,h=>by simp at h
 |(y,g)::r,x,f,nd,0,h=>by cases h;simp[cZC,bZH]
 |(y,g)::r,x,f,nd,i+1,h=>by
  have c:r[i]? =some (x,f):=by simpa using h
  have a:=cXp.mp nd;have d:¬ ((Sum.inr y:Key)=Sum.inr x):=λz=>a.1 (by
   rw[Sum.inr.inj z];exact cQm.mpr ⟨(x,f),bYA c,rfl⟩)
  have b:=uE a.2 i c;unfold cZC at b ⊢;simp only[bZH,bY2,cXD,decide_eq_false d]at b ⊢;exact b
end End4
namespace L2
open PySem
section
variable {P:bYE}{w:bYK}{K:bYk}{mg:Str->Option bYi}{base:Heap}{j k:Nat}{x t:Str}{ps:List Str}{sp:Sp}{C Rf:Nat}{CX:CXT}
theorem FnG.up(G:FnG P w K mg base j x ps sp)(h:j<=k:=by decide):FnG P w K mg base k x ps sp:=G.mono h
theorem FnX.up(G:FnX P w K mg base j x ps sp)(h:j<=k:=by decide):FnX P w K mg base k x ps sp:=G.mono h
theorem MG.up(G:MG P w K mg base CX j C x ps sp)(h:j<=k:=by decide):MG P w K mg base CX k C x ps sp:=G.mono h
theorem MkG.up(G:MkG P w K mg base j x C ps sp)(h:j<=k:=by decide):MkG P w K mg base k x C ps sp:=G.mono h
theorem ExG.up(G:ExG P w K mg base j x Rf C t)(h:j<=k:=by decide):ExG P w K mg base k x Rf C t:=G.mono h
end
end L2
namespace End4
open PySem L2 PyProof.Rows
theorem bd1{x qual:Str}{st:Stmt}{a:Str}(h:∀ (kV doc pm:bYi)(an:Option Nat)(cdv ct b:bYi),cXY (cQj x qual (xW st) (xO st) (yH st) .none kV doc pm an cdv ct) ⟨[b],[]⟩=pure (cZF [a] [b])):uH x qual st [a]:=by
 intro kV doc pm an cdv ct c l;rcases c with _|⟨_,_|⟨_,_⟩⟩<;> first|(cases l;done)|exact h _ _ _ _ _ _ _
theorem bd2{x qual:Str}{st:Stmt}{b a:Str}(h:∀ (kV doc pm:bYi)(an:Option Nat)(cdv ct c d:bYi),cXY (cQj x qual (xW st) (xO st) (yH st) .none kV doc pm an cdv ct) ⟨[c,d],[]⟩=pure (cZF [b,a] [c,d])):uH x qual st [b,a]:=by
 intro kV doc pm an cdv ct e l;rcases e with _|⟨_,_|⟨_,_|⟨_,_⟩⟩⟩<;> first|(cases l;done)|exact h _ _ _ _ _ _ _ _
theorem bd3{x qual:Str}{st:Stmt}{b a f:Str}(h:∀ (kV doc pm:bYi)(an:Option Nat)(cdv ct e c d:bYi),cXY (cQj x qual (xW st) (xO st) (yH st) .none kV doc pm an cdv ct) ⟨[e,c,d],[]⟩=pure (cZF [b,a,f] [e,c,d])):uH x qual st [b,a,f]:=by
 intro kV doc pm an cdv ct g l;rcases g with _|⟨_,_|⟨_,_|⟨_,_|⟨_,_⟩⟩⟩⟩<;> first|(cases l;done)|exact h _ _ _ _ _ _ _ _ _
theorem bd4{x qual:Str}{st:Stmt}{d a i b:Str}(h:∀ (kV doc pm:bYi)(an:Option Nat)(cdv ct g e f c:bYi),cXY (cQj x qual (xW st) (xO st) (yH st) .none kV doc pm an cdv ct) ⟨[g,e,f,c],[]⟩=pure (cZF [d,a,i,b] [g,e,f,c])):uH x qual st [d,a,i,b]:=by
 intro kV doc pm an cdv ct j l;rcases j with _|⟨_,_|⟨_,_|⟨_,_|⟨_,_|⟨_,_⟩⟩⟩⟩⟩<;> first|(cases l;done)|exact h _ _ _ _ _ _ _ _ _ _
theorem bd5{x qual:Str}{st:Stmt}{d a i b k:Str}(h:∀ (kV doc pm:bYi)(an:Option Nat)(cdv ct g e f c j:bYi),cXY (cQj x qual (xW st) (xO st) (yH st) .none kV doc pm an cdv ct) ⟨[g,e,f,c,j],[]⟩=pure (cZF [d,a,i,b,k] [g,e,f,c,j])):uH x qual st [d,a,i,b,k]:=by
 intro kV doc pm an cdv ct m l;rcases m with _|⟨_,_|⟨_,_|⟨_,_|⟨_,_|⟨_,_|⟨_,_⟩⟩⟩⟩⟩⟩<;> first|(cases l;done)|exact h _ _ _ _ _ _ _ _ _ _ _
theorem bd6{x qual:Str}{st:Stmt}{d a j b n e:Str}(h:∀ (kV doc pm:bYi)(an:Option Nat)(cdv ct i f g c k m:bYi),cXY (cQj x qual (xW st) (xO st) (yH st) .none kV doc pm an cdv ct) ⟨[i,f,g,c,k,m],[]⟩=pure (cZF [d,a,j,b,n,e] [i,f,g,c,k,m])):uH x qual st [d,a,j,b,n,e]:=by
 intro kV doc pm an cdv ct o l;rcases o with _|⟨_,_|⟨_,_|⟨_,_|⟨_,_|⟨_,_|⟨_,_|⟨_,_⟩⟩⟩⟩⟩⟩⟩<;> first|(cases l;done)|exact h _ _ _ _ _ _ _ _ _ _ _ _
theorem bd7{x qual:Str}{st:Stmt}{f a m b p g e:Str}(h:∀ (kV doc pm:bYi)(an:Option Nat)(cdv ct k i j d n o c:bYi),cXY (cQj x qual (xW st) (xO st) (yH st) .none kV doc pm an cdv ct) ⟨[k,i,j,d,n,o,c],[]⟩=pure (cZF [f,a,m,b,p,g,e] [k,i,j,d,n,o,c])):uH x qual st [f,a,m,b,p,g,e]:=by
 intro kV doc pm an cdv ct q l;rcases q with _|⟨_,_|⟨_,_|⟨_,_|⟨_,_|⟨_,_|⟨_,_|⟨_,_|⟨_,_⟩⟩⟩⟩⟩⟩⟩⟩<;> first|(cases l;done)|exact h _ _ _ _ _ _ _ _ _ _ _ _ _
theorem bdA{x qual:Str}{st:Stmt}{ps:List Str}(h:uH x qual st ps:=by
  first|refine bd1 λa b c d e f g=>?_|refine bd2 λa b c d e f g i=>?_|refine bd3 λa b c d e f g i j=>?_|refine bd4 λa b c d e f g i j k=>?_|refine bd5 λa b c d e f g i j k l=>?_|refine bd6 λa b c d e f g i j k l m=>?_|refine bd7 λa b c d e f g i j k l m n=>?_
  kernel_rfl):uH x qual st ps:=h
end End4
namespace End4
open PySem L2 PyProof.Rows
set_option maxHeartbeats 0 in
theorem all_mk{l:PySem.W.OpenLaw}{w:bYK}{K:bYk}{h:Heap}{mg:Str->Option bYi}{fa R L CL cA J fA fL DD i y B x H E A I D z u r q p j k:Nat}{h7 k0:Option Nat}{f0:Array (Option bYi)}{e2 i8 j3 e5 k2:bYi}{b0:Array DictEntry}{j1:Nat}{tW tO:Tok} (X:K.In h) (G:h.Ns bYN mg) (f5:mg "law"=some (.ref fa)) (d60:bKe K "Refused" R "Refused.__init__" Desk.aQv) (d61:Exc K R "NoLetter" "NoLetter.__init__" Desk.Y8) (d62:Exc K R "NoTerm" "NoTerm.__init__" Desk.aXI) (d63:Exc K R "HasOne" "HasOne.__init__" Desk.aXH) (d64:Exc K R "HasNone" "HasNone.__init__" Desk.aQu) (d65:Exc K R "OwnThread" "OwnThread.__init__" Desk.jW) (d66:Exc K R "SameWay" "SameWay.__init__" Desk.aQw) (d67:Exc K R "OtherPartner" "OtherPartner.__init__" Desk.vH) (d68:Exc K R "TooEarly" "TooEarly.__init__" Desk.Y9) (d69:Exc K R "Copied" "Copied.__init__" Desk.aXG) (d70:Exc K R "Answered" "Answered.__init__" Desk.Y7) (d71:Exc K R "CountsNot" "CountsNot.__init__" Desk.jV) (d9:MkD K "Letter" CL "Letter.__init__" Desk.aYC) (d24:MkD K "Book" L "Book.__init__" Desk.aYv) (cl:Desk.Cl K L CL) (d10:Mtd K CL "state" "Letter.state" Desk.aYH) (d11:Mtd K CL "is_answered_by" "Letter.is_answered_by" Desk.aYu) (d12:Mtd K CL "has_gone_to" "Letter.has_gone_to" Desk.bJ6) (d13:Mtd K CL "make_void" "Letter.make_void" Desk.bVg) (d15:Mtd K L "letter_at" "Book.letter_at" Desk.aQs) (d16:Mtd K L "answers_to" "Book.answers_to" Desk.aVt) (d17:Mtd K L "copies_of" "Book.copies_of" Desk.aQr) (d18:Mtd K L "state_of" "Book.state_of" Desk.aXE) (d19:Mtd K L "letters_in" "Book.letters_in" Desk.jE) (d20:Mtd K L "answered_by" "Book.answered_by" Desk.aQq) (d21:Mtd K L "waiting_pairs" "Book.waiting_pairs" Desk.aYE) (d22:Mtd K L "waiting" "Book.waiting" Desk.J2) (d23:Mtd K L "overdue" "Book.overdue" Desk.W9) (d25:Mtd K L "add_letter" "Book.add_letter" Desk.bKv) (d28:Mtd K L "enter" "Book.enter" Desk.aYB) (d29:Mtd K L "reply" "Book.reply" Desk.aYG) (d30:Mtd K L "loosen" "Book.loosen" Desk.aJH) (d31:Mtd K L "put_term" "Book.put_term" Desk.aXD) (d32:Mtd K L "send_copy" "Book.send_copy" Desk.bVe) (d33:Mtd K L "cancel" "Book.cancel" Desk.aJE) (d34:Mtd K L "shut_day" "Book.shut_day" Desk.bVf) (d35:Mtd K L "put_day" "Book.put_day" Desk.aJI) (d36:Mtd K L "thread_of" "Book.thread_of" Desk.qP) (d37:Mtd K L "lay_thread" "Book.lay_thread" Desk.bKB) (d38:Mtd K L "check_hanging" "Book.check_hanging" Desk.aYw) (d39:Mtd K L "hang" "Book.hang" Desk.bJ8) (d58:Mtd K L "standing_states" "Book.standing_states" Desk.aXF) (d1:Def K "open_by_rest" Days.bVc) (d2:Def K "place_of" Days.aYF) (d3:Def K "counts" Days.aJF) (d4:Def K "closed_days" Days.aXz) (d5:Def K "day_at" Days.aYy) (d6:Def K "due_day" Days.bKx) (d7:Def K "top_of" Thr.aYK) (d8:Def K "thread" Thr.aJJ) (d14:Def K "other_way" Desk.aYD) (d26:Def K "check_term" Desk.aYI) (d27:Def K "check_days" Desk.aYz) (d56:Def K "answer" Desk.aJD) (d57:Def K "answers" Desk.W7) (d59:Def K "standing" Desk.aQt) (d72:Def K "_law_good" Law.bJ7) (d73:Def K "_law_kids_of" Law.bXK) (d74:Def K "_law_waits_on" Law.aVv) (d75:Def K "_law_due_by" Law.aYA) (d76:Def K "_law_list_on" Law.aXC) (d77:Def K "_law_family" Law.aXB) (d78:Def K "_law_lost" Law.bVb) (d79:Def K "_law_dated" Law.aYx) (d80:Def K "_law_hung" Law.bJ9) (d81:Def K "_law_entered" Law.aXA) (d82:Def K "_law_with_one" Law.bVh) (d83:Def K "_law_told_of" Law.aYJ) (d84:Def K "_law_done_by" Law.bJ5) (d85:Def K "_law_hanging" Law.W8) (d86:Def K "_law_about" Law.aVs) (d87:Def K "_law_deed_at" Law.aJG) (d88:Def K "_law_story" Law.aVu) (d89:Def K "_law_whole" Alike.aYL) (d90:Def K "_law_room" Alike.bVd) (d91:Def K "_law_alike" Alike.aYt) (d40:vJ K "do_enter" Desk.X0 i) (d41:vJ K "do_reply" Desk.X2 y) (d42:vJ K "do_hang" Desk.aQA B) (d43:vJ K "do_loose" Desk.X1 x) (d44:vJ K "do_date" Desk.aQy H) (d45:vJ K "do_term" Desk.aQC E) (d46:vJ K "do_copy" Desk.aQx A) (d47:vJ K "do_file" Desk.aQz I) (d48:vJ K "do_void" Desk.aQD D) (d49:vJ K "do_shut" Desk.aQB z) (d50:vJ K "ask_state" Desk.jX u) (d51:vJ K "ask_thread" Desk.uT r) (d52:vJ K "ask_copies" Desk.uS q) (d53:vJ K "ask_letters" Desk.v5 p) (d54:vJ K "ask_waiting" Desk.v7 j) (d55:vJ K "ask_overdue" Desk.v6 k) (dL:vJ K "law" Alike.bKA fL) (aA:cQa K bYN "answers_to_each"=some (some (.ref fA))) (lA:K.lookup fA=some ⟨e2,h7,.func (cQj "answers_to_each" "answers_to_each" (xW Thr.aJC) (xO Thr.aJC) (yH Thr.aJC) .none i8 j3 e5 k0 (.ref cA) k2),f0⟩) (cA1:cQY K (.ref cA) "answers_to_each"=true) (kA:cQb K (.ref fA)=true) (nD:cQa K bYN "DEEDS"=some (some (.ref DD))) (lD:K.lookup DD=some ⟨.type "dict",none,.dict b0 j1, #[]⟩) (pD:Pr w b0.toList [("in",i),("out",i),("reply",y),("hang",B),("loose",x),("date",H),("term",E),("copy",A),("file",I),("void",D),("shut",z),("state",u),("thread",r),("copies",q),("letters",p),("waiting",j),("overdue",k)]) (z_len:cQa K bYN "len"=some none) (z_min:cQa K bYN "min"=some none) (z_sum:cQa K bYN "sum"=some none) (z_sorted:cQa K bYN "sorted"=some none) (z_isinstance:cQa K bYN "isinstance"=some none) (z_int:cQa K bYN "int"=some none) (z_str:cQa K bYN "str"=some none) (z_bool:cQa K bYN "bool"=some none) (z_list:cQa K bYN "list"=some none) (z_tuple:cQa K bYN "tuple"=some none) (z_set:cQa K bYN "set"=some none) (z_range:cQa K bYN "range"=some none) (z_reversed:cQa K bYN "reversed"=some none) (z_max:cQa K bYN "max"=some none) (y_week:cQa K bYN "WEEK"=some (some (.int 7 tW))) (y_open:cQa K bYN "OPEN_DAYS"=some (some (.int 5 tO))) (tb:cZV K cA J=true) (tn:K.lookup J=none) :∃ (g:cXd)(c:Nat),cZV K c J=true/\K.lookup J=none/\(∀ (s:bYl)(v:bYi),BindsTo s g ⟨[v],[]⟩ [("_law_script",v)])/\∀base:Heap,K.In base->base.Ns bYN mg->cXk base c J->base.BuiltinsAt mg J->y8 l.prog w K mg base CX0 11 fa g ["_law_script"] (Alike.bZb J K):=by
 obtain⟨aL,a4,Q⟩:=dL;have e:=f5.symm.trans (cQ9 X G aL);cases e;have TD:Days.vI mg:=⟨bYy X G z_len,bYy X G z_min,bYy X G z_sum,bYy X G z_sorted,bYy X G z_isinstance,bYy X G z_int,bYy X G z_str,bYy X G z_bool,bYy X G z_list,bYy X G z_tuple,bYy X G z_set,bYy X G z_range,bYy X G z_reversed,⟨_,cQ9 X G y_week⟩,⟨_,cQ9 X G y_open⟩⟩;have TT:Thr.vI mg:=⟨bYy X G z_len,bYy X G z_sorted,bYy X G z_isinstance,bYy X G z_int,bYy X G z_str,bYy X G z_bool,bYy X G z_list,bYy X G z_tuple,bYy X G z_range⟩;have TB:Desk.vI mg:=⟨bYy X G z_len,bYy X G z_sorted,bYy X G z_list⟩;have T:Law.vI mg:=⟨bYy X G z_len,bYy X G z_range⟩;have TA:Alike.vI mg:=⟨bYy X G z_len,bYy X G z_sorted,bYy X G z_isinstance,bYy X G z_int,bYy X G z_str,bYy X G z_bool,bYy X G z_list,bYy X G z_tuple,bYy X G z_range⟩;have bL:∀ (s:bYl)(v:bYi),BindsTo s a4 ⟨[v],[]⟩ [("_law_script",v)]:=by obtain⟨oc,od,kV,l0,pm,an,l2,ct,l4,rfl,lk,l3⟩:=Q.ex;exact λs v=> .of_eq rfl
 refine⟨a4,cA,tb,tn,bL,λbase _ _ N hB=>?_⟩;have g0:FnG l.prog w K mg base 2 "answers_to_each" ["links","dates"] (Thr.bVz J):=⟨fA,_,Thr.bWm TT N hB lA cA1,(aQ1 (st:=Thr.aJC) lA cA1 kA).binds bdA,kA,cQ9 X G aA⟩;have g1:=gOf l.prog w base 1 X G d1 bdA λf g F=>Days.bJO TD F;have g2:=gOf l.prog w base 1 X G d2 bdA λf g F=>Days.bXp TD F;have g3:=gOf l.prog w base 2 X G d3 bdA λf g F=>Days.aK7 TD g1.up F;have g4:=gOf l.prog w base 2 X G d4 bdA λf g F=>Days.aK6 TD g1.up F;have g5:=gOf l.prog w base 1 X G d5 bdA λf g F=>Days.bXi TD F;have g6:=gOf l.prog w base 3 X G d6 bdA λf g F=>Days.bWn TD g4.up g2.up g5.up F;have g7:=gOf l.prog w base 1 X G d7 bdA λf g F=>Thr.bXu TT F;have g8:=gOf l.prog w base 3 X G d8 bdA λf g F=>Thr.aYe TT g0.up g7.up F;have g9:=kOf l.prog w base 1 X G d9 bdA λf g F=>Desk.bXm (n:=0) cl F;have a6:=mOf mg l.prog w base 1 cl.l d10 bdA λf g F=>Desk.bXr (n:=0) cl F;have f8:=mOf mg l.prog w base 1 cl.l d11 bdA λf g F=>Desk.bXd (n:=0) cl F;have e6:=mOf mg l.prog w base 1 cl.l d12 bdA λf g F=>Desk.bJH (n:=0) cl F;have c8:=mOf mg l.prog w base 1 cl.l d13 bdA λf g F=>Desk.bJT (n:=0) cl F;have h2:=gOf l.prog w base 1 X G d14 bdA λf g F=>Desk.bXn (n:=0) F;have a9:=mOf mg l.prog w base 2 cl.b d16 bdA λf g F=>Desk.bXe (n:=1) cl f8.up F;have h9:=mOf mg l.prog w base 1 cl.b d19 bdA λf g F=>Desk.aZs (n:=0) cl F;have h6:=mOf mg l.prog w base 1 cl.b d20 bdA λf g F=>Desk.aJn (n:=0) cl F;have a7:=mOf mg l.prog w base 4 cl.b d21 bdA λf g F=>Desk.bXo (n:=3) TB cl h6.up g6.up F;have e3:=mOf mg l.prog w base 5 cl.b d22 bdA λf g F=>Desk.aWE (n:=4) cl a7.up F;have k9:=mOf mg l.prog w base 5 cl.b d23 bdA λf g F=>Desk.aWB (n:=4) cl a7.up F;have b1:=kOf l.prog w base 1 X G d24 bdA λf g F=>Desk.bXf (n:=0) cl F;have a5:=mOf mg l.prog w base 3 cl.b d25 bdA λf g F=>Desk.bWl (n:=1) TB cl g9.up F;have f4:=dOf mg l.prog w base 2 d53 bdA λf g F=>Desk.aQT (n:=1) (Rf:=(R,J)) h9.up F;have i0:=dOf mg l.prog w base 6 d54 bdA λf g F=>Desk.aQV (n:=5) (Rf:=(R,J)) e3.up F;have k6:=dOf mg l.prog w base 6 d55 bdA λf g F=>Desk.aQU (n:=5) (Rf:=(R,J)) k9.up F;have h0:=mOf mg l.prog w base 2 cl.b d58 bdA λf g F=>Desk.aYd (n:=1) cl a6.up F;have M:=rOf l.prog w base 1 X G d60 bdA λf g F=>Desk.aWp (n:=0) F;obtain⟨_,h3⟩:=eOf l.prog w base 2 "no letter" X G d61 bdA λC f g N F=>Desk.aJl (n:=1) M N F;obtain⟨_,c7⟩:=eOf l.prog w base 2 "no term" X G d62 bdA λC f g N F=>Desk.aK3 (n:=1) M N F;obtain⟨_,i6⟩:=eOf l.prog w base 2 "has one" X G d63 bdA λC f g N F=>Desk.aK2 (n:=1) M N F;obtain⟨_,f1⟩:=eOf l.prog w base 2 "has none" X G d64 bdA λC f g N F=>Desk.aWo (n:=1) M N F;obtain⟨_,h8⟩:=eOf l.prog w base 2 "own thread" X G d65 bdA λC f g N F=>Desk.aZq (n:=1) M N F;obtain⟨_,e0⟩:=eOf l.prog w base 2 "same way" X G d66 bdA λC f g N F=>Desk.aWq (n:=1) M N F;obtain⟨_,c2⟩:=eOf l.prog w base 2 "other partner" X G d67 bdA λC f g N F=>Desk.aQh (n:=1) M N F;obtain⟨_,c0⟩:=eOf l.prog w base 2 "too early" X G d68 bdA λC f g N F=>Desk.aJm (n:=1) M N F;obtain⟨_,c5⟩:=eOf l.prog w base 2 "copied" X G d69 bdA λC f g N F=>Desk.aK1 (n:=1) M N F;obtain⟨_,f2⟩:=eOf l.prog w base 2 "answered" X G d70 bdA λC f g N F=>Desk.aJk (n:=1) M N F;obtain⟨_,b4⟩:=eOf l.prog w base 2 "counts not" X G d71 bdA λC f g N F=>Desk.aZp (n:=1) M N F;have S:=gOf l.prog w base 1 X G d72 bdA λf g F=>Law.bJI T F;have a0:=gOf l.prog w base 1 X G d73 bdA λf g F=>Law.bJL T F;have e8:=gOf l.prog w base 2 X G d74 bdA λf g F=>Law.bXv T (bYy X G z_min) a0.up F;have b8:=gOf l.prog w base 1 X G d75 bdA λf g F=>Law.bXk T F;have c3:=gOf l.prog w base 3 X G d76 bdA λf g F=>Law.aYa T (bYy X G z_sorted) e8.up b8.up F;have Y:=gOf l.prog w base 2 X G d77 bdA λf g F=>Law.aK9 T (bYy X G z_sorted) F;have f9:=gOf l.prog w base 2 X G d78 bdA λf g F=>Law.bJM a0.up F;have f6:=gOf l.prog w base 2 X G d79 bdA λf g F=>Law.bXh a0.up F;have f3:=gOf l.prog w base 3 X G d80 bdA λf g F=>Law.bJK S.up Y.up F;have j4:=gOf l.prog w base 3 X G d81 bdA λf g F=>Law.aWz T (bYy X G z_int) S.up F;have b5:=gOf l.prog w base 3 X G d82 bdA λf g F=>Law.bJU T S.up f6.up f9.up Y.up F;have k1:=gOf l.prog w base 4 X G d83 bdA λf g F=>Law.bJS T (bYy X G z_list) (bYy X G z_tuple) S.up c3.up Y.up F;have a8:=gOf l.prog w base 5 X G d84 bdA λf g F=>Law.bJG j4.up f3.up k1.up b5.up F;have c1:=gOf l.prog w base 2 X G d85 bdA λf g F=>Law.aWA T (bYy X G z_int) S.up F;have c9:=gOf l.prog w base 2 X G d86 bdA λf g F=>Law.bXb T (bYy X G z_int) S.up F;have f7:=gOf l.prog w base 3 X G d87 bdA λf g F=>Law.aK8 T (bYy X G z_int) (bYy X G z_max) S.up c1.up c9.up F;have e4:=gOf l.prog w base 6 X G d88 bdA λf g F=>Law.bXs T a8.up f7.up F;have k5:=gOf l.prog w base 1 X G d89 bdA λf g F=>Alike.bXw TA F;have k4:=gOf l.prog w base 1 X G d90 bdA λf g F=>Alike.bJP TA F;have j9:=gOf l.prog w base 2 X G d91 bdA λf g F=>Alike.bXc TA k5.up F;have O:=aJi mg l.prog w base 4 cl.b d15 bdA λf g F=>Desk.bKp (n:=2) (Rf:=(R,J)) TB cl h3.up F;have i4:=aJi mg l.prog w base 5 cl.b d17 bdA λf g F=>Desk.aJo (n:=4) (Rf:=(R,J)) TB cl O.up F;have k7:=aJi mg l.prog w base 5 cl.b d18 bdA λf g F=>Desk.aWD (n:=4) (Rf:=(R,J)) cl O.up a6.up F;have a1:=xOf l.prog w base 4 X G d26 bdA λf g F=>Desk.bXt (n:=2) (Rf:=(R,J)) c7.up F;have a2:=xOf l.prog w base 4 X G d27 bdA λf g F=>Desk.bXj (n:=2) (Rf:=(R,J)) c0.up F;have j8:=aJi mg l.prog w base 5 cl.b d28 bdA λf g F=>Desk.bXl (n:=4) (Rf:=(R,J)) cl a1.up a5.up F;have j6:=aJi mg l.prog w base 5 cl.b d29 bdA λf g F=>Desk.bXq (n:=4) (Rf:=(R,J)) cl O.up a1.up a2.up h2.up a5.up F;have h5:=aJi mg l.prog w base 5 cl.b d30 bdA λf g F=>Desk.aYb (n:=3) (Rf:=(R,J)) cl O.up f1.up F;have b9:=aJi mg l.prog w base 5 cl.b d31 bdA λf g F=>Desk.aWC (n:=4) (Rf:=(R,J)) cl O.up a1.up F;have i7:=aJi mg l.prog w base 5 cl.b d32 bdA λf g F=>Desk.bJQ (n:=3) (Rf:=(R,J)) TB cl O.up e6.up c5.up F
 have i9:=aJi mg l.prog w base 5 cl.b d33 bdA λf g F=>Desk.aK5 (n:=3) (Rf:=(R,J)) TB cl O.up a9.up c8.up f2.up F;have e9:=aJi mg l.prog w base 4 cl.b d34 bdA λf g F=>Desk.bJR (n:=2) (Rf:=(R,J)) cl g3.up b4.up F;have k8:=aJi mg l.prog w base 5 cl.b d35 bdA λf g F=>Desk.aYc (n:=4) (Rf:=(R,J)) cl O.up a9.up a2.up F;have Z:=aJi mg l.prog w base 5 cl.b d36 bdA λf g F=>Desk.aJt (n:=4) (Rf:=(R,J)) cl O.up g8.up F;have b2:=aJi mg l.prog w base 6 cl.b d37 bdA λf g F=>Desk.bWp (n:=5) (Rf:=(R,J)) TB cl Z.up F;have e7:=aJi mg l.prog w base 6 cl.b d38 bdA λf g F=>Desk.bXg (n:=4) (Rf:=(R,J)) cl Z.up a2.up i6.up h8.up e0.up c2.up F;have i2:=aJi mg l.prog w base 7 cl.b d39 bdA λf g F=>Desk.bJJ (n:=6) (Rf:=(R,J)) cl O.up e7.up b2.up F;have i1:=dOf mg l.prog w base 6 d40 bdA λf g F=>Desk.aJp (n:=5) (Rf:=(R,J)) j8.up F;have j0:=dOf mg l.prog w base 6 d41 bdA λf g F=>Desk.aJr (n:=5) (Rf:=(R,J)) j6.up F;have i3:=dOf mg l.prog w base 8 d42 bdA λf g F=>Desk.aWv (n:=7) (Rf:=(R,J)) i2.up F;have b7:=dOf mg l.prog w base 6 d43 bdA λf g F=>Desk.aJq (n:=5) (Rf:=(R,J)) h5.up F;have j5:=dOf mg l.prog w base 6 d44 bdA λf g F=>Desk.aWt (n:=5) (Rf:=(R,J)) k8.up F;have h1:=dOf mg l.prog w base 6 d45 bdA λf g F=>Desk.aWx (n:=5) (Rf:=(R,J)) b9.up F;have h4:=dOf mg l.prog w base 6 d46 bdA λf g F=>Desk.aWs (n:=5) (Rf:=(R,J)) i7.up F;have c6:=dOf mg l.prog w base 7 d47 bdA λf g F=>Desk.aWu (n:=6) (Rf:=(R,J)) b2.up F;have e1:=dOf mg l.prog w base 6 d48 bdA λf g F=>Desk.aWy (n:=5) (Rf:=(R,J)) i9.up F;have b6:=dOf mg l.prog w base 5 d49 bdA λf g F=>Desk.aWw (n:=4) (Rf:=(R,J)) e9.up F;have k3:=dOf mg l.prog w base 6 d50 bdA λf g F=>Desk.aZr (n:=5) (Rf:=(R,J)) k7.up F;have c4:=dOf mg l.prog w base 6 d51 bdA λf g F=>Desk.aXs (n:=5) (Rf:=(R,J)) Z.up F;have j2:=dOf mg l.prog w base 6 d52 bdA λf g F=>Desk.aXr (n:=5) (Rf:=(R,J)) i4.up F;have P:(([("in",i),("out",i),("reply",y),("hang",B),("loose",x),("date",H),("term",E),("copy",A),("file",I),("void",D),("shut",z),("state",u),("thread",r),("copies",q),("letters",p),("waiting",j),("overdue",k)]:List (Str×Nat)).map (·.1)).Nodup:=show(["in","out","reply","hang","loose","date","term","copy","file","void","shut","state","thread","copies","letters","waiting","overdue"]:List Str).Nodup from dk;have all:Desk.bVP l.prog w K mg base 8 (R,J) L CL (bZH [("in",i),("out",i),("reply",y),("hang",B),("loose",x),("date",H),("term",E),("copy",A),("file",I),("void",D),("shut",z),("state",u),("thread",r),("copies",q),("letters",p),("waiting",j),("overdue",k)]):=by
  intro e j7;cases e with
  |enter l1 d V t=>
   obtain⟨g,a,b,c⟩:=i1.ex;rcases j7 with rfl|rfl
   ·exact⟨i,g,_,uE P 0 rfl,a.mono (by decide),⟨_,d,V,t,rfl⟩,b,c⟩
   ·exact⟨i,g,_,uE P 1 rfl,a.mono (by decide),⟨_,d,V,t,rfl⟩,b,c⟩
  |reply m d t=>obtain⟨g,a,b,c⟩:=j0.ex;exact⟨y,g,_,uE P 2 rfl,a.mono (by decide),⟨m,d,t,rfl⟩,b,c⟩
  |hang m o=>obtain⟨g,a,b,c⟩:=i3.ex;exact⟨B,g,_,uE P 3 rfl,a.mono (by decide),⟨m,o,rfl⟩,b,c⟩
  |loose m=>obtain⟨g,a,b,c⟩:=b7.ex;exact⟨x,g,_,uE P 4 rfl,a.mono (by decide),⟨m,rfl⟩,b,c⟩
  |date m d=>obtain⟨g,a,b,c⟩:=j5.ex;exact⟨H,g,_,uE P 5 rfl,a.mono (by decide),⟨m,d,rfl⟩,b,c⟩
  |term m t=>obtain⟨g,a,b,c⟩:=h1.ex;exact⟨E,g,_,uE P 6 rfl,a.mono (by decide),⟨m,t,rfl⟩,b,c⟩
  |copy m V=>obtain⟨g,a,b,c⟩:=h4.ex;exact⟨A,g,_,uE P 7 rfl,a.mono (by decide),⟨m,V,rfl⟩,b,c⟩
  |file m U=>obtain⟨g,a,b,c⟩:=c6.ex;exact⟨I,g,_,uE P 8 rfl,a.mono (by decide),⟨m,U,rfl⟩,b,c⟩
  |void m=>obtain⟨g,a,b,c⟩:=e1.ex;exact⟨D,g,_,uE P 9 rfl,a.mono (by decide),⟨m,rfl⟩,b,c⟩
  |shut d=>obtain⟨g,a,b,c⟩:=b6.ex;exact⟨z,g,_,uE P 10 rfl,a.mono (by decide),⟨d,rfl⟩,b,c⟩
  |state m=>obtain⟨g,a,b,c⟩:=k3.ex;exact⟨u,g,_,uE P 11 rfl,a.mono (by decide),⟨m,rfl⟩,b,c⟩
  |thread m=>obtain⟨g,a,b,c⟩:=c4.ex;exact⟨r,g,_,uE P 12 rfl,a.mono (by decide),⟨m,rfl⟩,b,c⟩
  |copies m=>obtain⟨g,a,b,c⟩:=j2.ex;exact⟨q,g,_,uE P 13 rfl,a.mono (by decide),⟨m,rfl⟩,b,c⟩
  |letters U=>obtain⟨g,a,b,c⟩:=f4.ex;exact⟨p,g,_,uE P 14 rfl,a.mono (by decide),⟨U,rfl⟩,b,c⟩
  |on a3 d=>
   cases a3
   ·obtain⟨g,a,b,c⟩:=i0.ex;exact⟨j,g,_,uE P 15 rfl,a.mono (by decide),⟨d,rfl⟩,b,c⟩
   ·obtain⟨g,a,b,c⟩:=k6.ex;exact⟨k,g,_,uE P 16 rfl,a.mono (by decide),⟨d,rfl⟩,b,c⟩
 have b3:=gOf l.prog w base 9 X G d56 bdA λf g F=>Desk.aK4 (n:=8) (Rf:=(R,J)) (cQ9 X G nD) (bVG lD pD P) (cQ9 X G d60.ns) d60.cl all F;have i5:=gOf l.prog w base 10 X G d57 bdA λf g F=>Desk.aWr (n:=8) (Rf:=(R,J)) b1.up b3.up F;have d0:=gOf l.prog w base 10 X G d59 bdA λf g F=>Desk.aJs (n:=8) (Rf:=(R,J)) b1.up b3.up h0.up F;exact Alike.bWo (n:=10) (Rf:=(R,J)) TA e4.up k4.up j9.up a8.up i5.up d0.up Q
end End4
namespace End4
open PySem L2 PyProof.Rows
theorem walk{l:PySem.W.OpenLaw}{q:bYE}{loose:List Str}{m:(Str->Option bYi)->Heap->Prop}{e:bYK->Heap->Prop}{d:DefRec}{K:Params->bYk}{T:Nat}(o:l.most=some 63)(g:d.params.defaults= []) (t:∀ (w:bYK)(h:Heap),e w h->(K w.params).In h) (b:∀ (w:bYK)(h:Heap),e w h->h.get? T=some (cXP #[])) (F:∀ (w:bYK)(mg:Str->Option bYi)(j:Nat)(h:Heap),(K w.params).In h->h.Ns bYN mg->mg d.name=some (.ref j)-> ∃ (i:cXd)(c:Nat),cZV (K w.params) c T=true/\(K w.params).lookup T=none/\(∀ (s:bYl)(u:bYi),BindsTo s i ⟨[u],[]⟩ [("_law_script",u)])/\∀base:Heap,(K w.params).In base->base.Ns bYN mg->cXk base c T->base.BuiltinsAt mg T->y8 l.prog w (K w.params) mg base CX0 11 j i ["_law_script"] (Alike.bZb T (K w.params))): PySem.W.WalkO q loose m e l.row.toRowW d [] (λf v=>PySem.call f v):=
 L2.bZt (n:=63) (k:=11) (x:="_law_script") (CX:=CX0) (sp:=Alike.bZb) o (by decide) g ⟨rfl,by decide,by decide⟩ t b F (λ_ _ a p hl r y=>⟨a,p,rfl,y,hl,.inl r,λ_=>rfl⟩) λ_ _ _ _ z=>z
end End4
open PySem PySem.W PyProof.Rows
namespace PySem.W.Fast
def tw18361206641238563301:=0
def tw10044290847509214784:=0
def tw7883506721930952673:=0
def tw2614499662147594310:=0
def tw8644683271349958077:=0
def tw14711271795603385642:=0
def tw7731997381601914514:=0
def tw18070877745903575885:=0
def tw13270162725333221590:=0
def tw8891824443377451403:=0
def tw1392000599036759588:=0
def tw16135081445912816209:=0
def tw5308994031098134445:=0
def tw6128814219986210474:=0
def tw14681907324279190993:=0
def tw4521838588963364885:=0
def tw10192575261398324215:=0
def tw90181225058553501:=0
def tw5155819314859348930:=0
def tw10021703060885931498:=0
def tw12065058454643892486:=0
def tw13946339421278757752:=0
def tw10032704260848637044:=0
def tw632795387705667485:=0
def tw10717183951117846055:=0
def tw2710315964607605395:=0
def tw18023577133061376081:=0
def tw11221925542619183744:=0
def tw11059671463679663076:=0
def tw16015223695385360350:=0
def tw17625445380115735553:=0
def tw16406654428958393167:=0
def tw9670596415749247481:=0
def tw13587768796968162766:=0
def tw17116755818726114483:=0
def tw9331911331756566082:=0
def tw16525748170995434743:=0
def tw7703278553042723313:=0
def tw5675097818983440215:=0
def tw16307371444892935597:=0
def tw10274708700842156781:=0
def tw8442595384087910275:=0
def tw3137878140156963616:=0
def tw3354905795152650812:=0
def tw9878522302993697210:=0
def tw15815008299925451378:=0
def tw17515623989277652102:=0
def tw9921359687548751755:=0
def tw17096907188532229128:=0
def tw3555493414896949768:=0
def tw9864035913690921544:=0
def tw17797276891147736632:=0
def tw7726385957235991621:=0
def tw16151799226760787077:=0
def tw8036957418070767283:=0
def tw17928278265958964393:=0
def tw13044770760518648520:=0
def tw12610695333205414535:=0
def tw9508322863685484905:=0
def tw7184039928909670422:=0
def tw4674972967101978995:=0
def tw14630565098147055781:=0
def tw16522678659522647220:=0
def tw14588696840975527338:=0
def tw16967100442149589250:=0
def tw8987601862064504667:=0
def tw17964580268620135416:=0
def tw2277804515424379444:=0
def tw1932666029604654572:=0
def tw6850594407714152245:=0
def tw17551012668003819979:=0
def tw4159329770769462378:=0
def tw228693679846693339:=0
def tw4806305960167126964:=0
def tw14542990795686044333:=0
def tw6453592211188558866:=0
def tw6495419176330160891:=0
def tw3869859647230779815:=0
def tw4618663741656365166:=0
def tw10828319129369193522:=0
def tw3979940200567649000:=0
def tw8347256343267549156:=0
def tw15515843540281604734:=0
def tw3751104642358508095:=0
def tw17827232271982187160:=0
def tw15706419268176367100:=0
def tw17061140198478465940:=0
def tw5107868945339843702:=0
def tw18327219316562858115:=0
def tw4470503163915317627:=0
def tw17521248433786749882:=0
def tw5795994510151975006:=0
def tw6322562967709898188:=0
def tw11075927165770170018:=0
def tw7709889148539500406:=0
def tw12963602683236025293:=0
def tw14445004184710810600:=0
def tw14549604359589995741:=0
def tw4048262472940640838:=0
def tw4448787925794695637:=0
def tw5312715593272887203:=0
def tw2344121202181865410:=0
def tw16508708930047954840:=0
def tw11336958402089298879:=0
def tw15610411442905977078:=0
def tw7020151583726868246:=0
def tw4809682041945773104:=0
def tw4496197349896401313:=0
def tw4729834808607740539:=0
def tw5128113139612001509:=0
def tw6104877885400057508:=0
def tw2803805174538251207:=0
def tw3028692163362542218:=0
def tw13773047550648714831:=0
def tw11903837708342399854:=0
def tw167586180958211949:=0
def tw8472329958555170246:=0
def tw14003222785994569158:=0
def tw2348075570168691476:=0
def tw2812967978920935344:=0
def tw6769770872556849047:=0
def tw6069148052022829172:=0
def tw17794699501278417845:=0
def tw15266052508325940542:=0
def tw15899666111082376756:=0
def tw10720397266779028070:=0
def tw15873371660831984566:=0
def tw972707105118665057:=0
def tw4447439469503841189:=0
def tw7241881730706218155:=0
def tw17607436168413264785:=0
def tw12757064353878272588:=0
def tw16772891597726614910:=0
def tw16563811171915110131:=0
def tw1359446926903155607:=0
def tw15556018996155041862:=0
def tw7889781310253277713:=0
def tw8908709767044489807:=0
def tw2773051599293950484:=0
def tw7942150849897866673:=0
def tw13387413054028856791:=0
def tw9487091195100802262:=0
def tw7726973044378833171:=0
def tw3128562815927712231:=0
def tw2406879063406298147:=0
def tw9249526137875565251:=0
def tw4410046540766225955:=0
def tw17949904262952189715:=0
def tw10842121934666554489:=0
def tw17081720059268077691:=0
def tw3073078457593534972:=0
def tw14460241754400067465:=0
def tw16106056313004334523:=0
def tw6698446741110751447:=0
def tw16592209763040003972:=0
def tw13359260596447734397:=0
def tw16641873529589319015:=0
def tw16360088082034049437:=0
def tw10630840365096783391:=0
def tw2439597575005820258:=0
def tw249990758579233182:=0
def tw14126240940071253009:=0
def tw3337921818944318489:=0
def tw3931313836516885719:=0
def tw16564025726396962142:=0
def tw8515809459167196226:=0
def tw5686945855134756491:=0
def tw6512505829891499967:=0
def tw13225944478229181734:=0
def tw11688551303909671278:=0
def tw6649318016781441743:=0
def tw8121285239338466331:=0
def tw4667140459878430893:=0
def tw991514973622889338:=0
def tw17061854534877094828:=0
def tw13093979629429929272:=0
def tw9306361578441424306:=0
def tw2600266212765757734:=0
def tw8094935483701330029:=0
def tw2789075997120255815:=0
def tw5123381247719544322:=0
def tw672832257764331016:=0
def tw8186033339483934941:=0
def tw9729449515506659951:=0
def tw10618687992525711238:=0
def tw296206408179884610:=0
def tw9507062199253318664:=0
def tw6951853274969026462:=0
def tw15332749573747019995:=0
def tw1686387144556360307:=0
def tw10355360137593206958:=0
def tw12498681139252102105:=0
def tw18427903690884368713:=0
def tw5549376271177869594:=0
def tw337138619208496980:=0
def tw7869471540119441949:=0
def tw4001143338150328582:=0
def tw16360949859719637202:=0
def tw17071818527369211664:=0
def tw5067806414291524033:=0
def tw17362142973412094500:=0
def tw14071770319086966267:=0
def tw1853679294269904770:=0
def tw7973574629175695843:=0
def tw4868478046862654062:=0
def tw15099984963596103186:=0
def tw2602927384459516861:=0
def tw4264903574770633291:=0
def tw12992111891935236419:=0
def tw13425941957217802729:=0
def tw11722073482526201929:=0
def tw16696120240943701698:=0
def tw11653087007184718026:=0
def tw416027197608952662:=0
def tw13805435301355290883:=0
def tw435942278626644603:=0
def tw2485594435020388392:=0
def tw1177499167430483481:=0
def tw15654800501507745691:=0
def tw14310691317763871478:=0
def tw5795849550054945827:=0
def tw4663765536347845908:=0
def tw2986127849655309353:=0
def tw15929214125752081274:=0
def tw168299705846626769:=0
def tw7389298745061022114:=0
def tw14150531069168560209:=0
def tw10404246832211250765:=0
def tw10677564116811744129:=0
def tw12569298851759748557:=0
def tw2326602092619768473:=0
end PySem.W.Fast
set_option maxRecDepth 100000 in
set_option maxHeartbeats 0 in
theorem PySem.Challenge.cw_letterdesk_k04_answers_holds : PySem.Challenge.rw_letterdesk_k04_answers.Holds := by
 w_on;o_law;k_head;(case hw=>w_witness2);k_fill;refine End4.walk (l:=PySem.Challenge.rw_letterdesk_k04_answers) rfl rfl (λw h Y=>PySem.W.km_in_of Y) (λw h Y=>PySem.W.km_tabs_of Y _ (bYx ..)) ?F;case F=>
  intro w d c h b G a;refine' End4.all_mk b G a ?d60 ?d61 ?d62 ?d63 ?d64 ?d65 ?d66 ?d67 ?d68 ?d69 ?d70 ?d71 ?d9 ?d24 ?cl ?d10 ?d11 ?d12 ?d13 ?d15 ?d16 ?d17 ?d18 ?d19 ?d20 ?d21 ?d22 ?d23 ?d25 ?d28 ?d29 ?d30 ?d31 ?d32 ?d33 ?d34 ?d35 ?d36 ?d37 ?d38 ?d39 ?d58 ?d1 ?d2 ?d3 ?d4 ?d5 ?d6 ?d7 ?d8 ?d14 ?d26 ?d27 ?d56 ?d57 ?d59 ?d72 ?d73 ?d74 ?d75 ?d76 ?d77 ?d78 ?d79 ?d80 ?d81 ?d82 ?d83 ?d84 ?d85 ?d86 ?d87 ?d88 ?d89 ?d90 ?d91 ?d40 ?d41 ?d42 ?d43 ?d44 ?d45 ?d46 ?d47 ?d48 ?d49 ?d50 ?d51 ?d52 ?d53 ?d54 ?d55 ?dL ?aA ?lA ?cA1 ?kA ?nD ?lD ?pD ?z_len ?z_min ?z_sum ?z_sorted ?z_isinstance ?z_int ?z_str ?z_bool ?z_list ?z_tuple ?z_set ?z_range ?z_reversed ?z_max ?y_week ?y_open ?tb ?tn;(case d60=>apply End4.bJ3<;> first|k_is|kernel_rfl);(case d61=>apply End4.uK<;> first|k_is|kernel_rfl);(case d62=>apply End4.uK<;> first|k_is|kernel_rfl);(case d63=>apply End4.uK<;> first|k_is|kernel_rfl);(case d64=>apply End4.uK<;> first|k_is|kernel_rfl);(case d65=>apply End4.uK<;> first|k_is|kernel_rfl);(case d66=>apply End4.uK<;> first|k_is|kernel_rfl);(case d67=>apply End4.uK<;> first|k_is|kernel_rfl);(case d68=>apply End4.uK<;> first|k_is|kernel_rfl);(case d69=>apply End4.uK<;> first|k_is|kernel_rfl);(case d70=>apply End4.uK<;> first|k_is|kernel_rfl);(case d71=>apply End4.uK<;> first|k_is|kernel_rfl);(case d9=>apply End4.bZK<;> k_is);(case d24=>apply End4.bZK<;> k_is);(case cl=>apply End4.bKi<;> k_is);(case d10=>apply End4.xZ<;> k_is);(case d11=>apply End4.xZ<;> k_is);(case d12=>apply End4.xZ<;> k_is);(case d13=>apply End4.xZ<;> k_is);(case d15=>apply End4.xZ<;> k_is);(case d16=>apply End4.xZ<;> k_is);(case d17=>apply End4.xZ<;> k_is);(case d18=>apply End4.xZ<;> k_is);(case d19=>apply End4.xZ<;> k_is);(case d20=>apply End4.xZ<;> k_is);(case d21=>apply End4.xZ<;> k_is);(case d22=>apply End4.xZ<;> k_is);(case d23=>apply End4.xZ<;> k_is);(case d25=>apply End4.xZ<;> k_is);(case d28=>apply End4.xZ<;> k_is);(case d29=>apply End4.xZ<;> k_is);(case d30=>apply End4.xZ<;> k_is);(case d31=>apply End4.xZ<;> k_is);(case d32=>apply End4.xZ<;> k_is);(case d33=>apply End4.xZ<;> k_is);(case d34=>apply End4.xZ<;> k_is);(case d35=>apply End4.xZ<;> k_is);(case d36=>apply End4.xZ<;> k_is);(case d37=>apply End4.xZ<;> k_is);(case d38=>apply End4.xZ<;> k_is);(case d39=>apply End4.xZ<;> k_is);(case d58=>apply End4.xZ<;> k_is);(case d1=>apply End4.xL<;> k_is);(case d2=>apply End4.xL<;> k_is);(case d3=>apply End4.xL<;> k_is);(case d4=>apply End4.xL<;> k_is);(case d5=>apply End4.xL<;> k_is);(case d6=>apply End4.xL<;> k_is);(case d7=>apply End4.xL<;> k_is);(case d8=>apply End4.xL<;> k_is);(case d14=>apply End4.xL<;> k_is);(case d26=>apply End4.xL<;> k_is);(case d27=>apply End4.xL<;> k_is);(case d56=>apply End4.xL<;> k_is);(case d57=>apply End4.xL<;> k_is);(case d59=>apply End4.xL<;> k_is);(case d72=>apply End4.xL<;> k_is);(case d73=>apply End4.xL<;> k_is);(case d74=>apply End4.xL<;> k_is);(case d75=>apply End4.xL<;> k_is);(case d76=>apply End4.xL<;> k_is);(case d77=>apply End4.xL<;> k_is);(case d78=>apply End4.xL<;> k_is);(case d79=>apply End4.xL<;> k_is);(case d80=>apply End4.xL<;> k_is);(case d81=>apply End4.xL<;> k_is);(case d82=>apply End4.xL<;> k_is);(case d83=>apply End4.xL<;> k_is);(case d84=>apply End4.xL<;> k_is);(case d85=>apply End4.xL<;> k_is);(case d86=>apply End4.xL<;> k_is);(case d87=>apply End4.xL<;> k_is);(case d88=>apply End4.xL<;> k_is);(case d89=>apply End4.xL<;> k_is);(case d90=>apply End4.xL<;> k_is);(case d91=>apply End4.xL<;> k_is);(case d40=>apply End4.xQ<;> k_is);(case d41=>apply End4.xQ<;> k_is);(case d42=>apply End4.xQ<;> k_is);(case d43=>apply End4.xQ<;> k_is);(case d44=>apply End4.xQ<;> k_is);(case d45=>apply End4.xQ<;> k_is);(case d46=>apply End4.xQ<;> k_is);(case d47=>apply End4.xQ<;> k_is);(case d48=>apply End4.xQ<;> k_is);(case d49=>apply End4.xQ<;> k_is);(case d50=>apply End4.xQ<;> k_is);(case d51=>apply End4.xQ<;> k_is);(case d52=>apply End4.xQ<;> k_is);(case d53=>apply End4.xQ<;> k_is);(case d54=>apply End4.xQ<;> k_is);(case d55=>apply End4.xQ<;> k_is);(case dL=>apply End4.xQ<;> k_is);(case aA=>k_is);(case lA=>k_is);(case cA1=>k_is);(case kA=>k_is);(case nD=>k_is);(case lD=>k_is);(case pD=>exact⟨⟨_,rfl⟩,rfl,rfl,⟨_,rfl⟩,rfl,rfl,⟨_,rfl⟩,rfl,rfl,⟨_,rfl⟩,rfl,rfl,⟨_,rfl⟩,rfl,rfl,⟨_,rfl⟩,rfl,rfl,⟨_,rfl⟩,rfl,rfl,⟨_,rfl⟩,rfl,rfl,⟨_,rfl⟩,rfl,rfl,⟨_,rfl⟩,rfl,rfl,⟨_,rfl⟩,rfl,rfl,⟨_,rfl⟩,rfl,rfl,⟨_,rfl⟩,rfl,rfl,⟨_,rfl⟩,rfl,rfl,⟨_,rfl⟩,rfl,rfl,⟨_,rfl⟩,rfl,rfl,⟨_,rfl⟩,rfl,rfl,cQI⟩);(case z_len=>k_is);(case z_min=>k_is);(case z_sum=>k_is);(case z_sorted=>k_is);(case z_isinstance=>k_is);(case z_int=>k_is);(case z_str=>k_is);(case z_bool=>k_is);(case z_list=>k_is);(case z_tuple=>k_is);(case z_set=>k_is);(case z_range=>k_is);(case z_reversed=>k_is);(case z_max=>k_is);(case y_week=>k_is);(case y_open=>k_is);(case tb=>kernel_rfl);(case tn=>kernel_rfl)
