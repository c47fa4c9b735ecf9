import PyProof.Rows.All
import Wide.All
import OpenK.AllK
import Wide.FinOn
import KE.KLam
import KE.KNestM
import KE.KSortTup
import Lean
import OpenK.KCls
import PyProof.CollectWalk
import PyProof.CompMap
import PyProof.DictStraight
import PyProof.EqAt
import PyProof.EqKinds
import PyProof.ExcArgs
import PyProof.ExcBaseAll.Exception
import PyProof.FactsAll.set
import PyProof.FactsBase
import PyProof.InstStoreFacts
import PyProof.ListRange
import PyProof.LongRange
import PyProof.MakeMany
import PyProof.MinMaxWalk
import PyProof.NeKinds
import PyProof.Rows.SetFrom
import PyProof.Rows.SortWalk
import PyProof.SeqI3
import PyProof.SetKind
import PyProof.SetNew
import PyProof.SetScanFacts
import PyProof.StationsW
import PyProof.TupleCall
import PyProof.WalkInts
import PyProof.Walks
import PySem.Challenge.RW_letterdesk_k05_whole_numbers_and_trees
set_option Elab.async false
set_option linter.all false
set_option maxRecDepth 100000
set_option maxHeartbeats 4000000
open Array renaming length_toList → cQv, getElem?_eq_getElem → cQB, getElem?_toList → cQI, getElem?_eq_some_iff → cXC, getD → cXF, getElem?_eq_none → cX3, getElem?_extract_of_lt → cZ5, getElem?_append_left → cJf, perm_iff_toList_perm → cJg
open False renaming elim → cQF
open ForInStep renaming yield → cZO
open Int renaming toNat_natCast → bYH, zero_add → cXf, natCast_inj → cZP
open List renaming getElem?_eq_getElem → bK9, length_map → bYe, mem_cons → bYj, getElem?_eq_some_iff → bYl, mem_cons_of_mem → bYm, range → bYn, mem_cons_self → bYp, mem_singleton → bYr, size_toArray → bYs, mem_of_getElem? → bYt, getElem?_map → bYu, getElem?_append_right → bYv, length_append → bYy, mem_append_right → bYz, getElem?_append_left → bYF, mem_range → bYI, getElem?_eq_none → bYL, mem_append → bYP, length_range → bYW, getD → bYX, map_cons → bY0, getElem_of_mem → bY1, length_cons → bY8, mem_map → cQa, take_length → cQb, length_filter_le → cQe, append_nil → cQf, mem_filter → cQg, take_add_one → cQh, toArray → cQj, filter_append → cQl, length_singleton → cQm, length_take → cQn, length_pos_iff → cQr, pairwise_singleton → cQy, pairwise_cons → cQz, append_assoc → cQG, contains_iff_mem → cQK, filter_cons_of_neg → cQP, filter_cons_of_pos → cQQ, getElem_mem → cQR, getElem?_range → cQU, map_append → cQW, eq_nil_of_length_eq_zero → cQZ, getElem_inj → cQ0, lookup_cons → cQ1, nodup_cons → cXc, filter_sublist → cXd, length_nil → cXj, mem_append_left → cXk, range_succ → cXl, ext_getElem? → cXq, any_cons → cXs, append_inj' → cXu, lookup → cXv, contains_cons → cXx, map_map → cXy, find?_cons → cXA, nodup_append → cXD, pairwise_iff_getElem → cXG, length → cXH, replicate → cXJ, not_mem_nil → cXM, filterMap_cons → cXU, filter_eq_self → cXV, getElem?_set_self → cX4, take_of_length_le → cX5, all_eq_true → cZh, nodup_range → cZi, all_cons → cZm, pairwise_map → cZC, cons_append → cZJ, countP_cons → cZK, forIn_cons → cZQ, getElem?_set_ne → cZR, pairwise_append → cZS, map_congr_left → cZ1, toList_toArray → cZ2, Perm → cJb, filter_congr → cJi, foldl_append → cJj, getElem?_eq_none_iff → cJq, length_erase_of_mem → cJv
open List.Nodup renaming mem_erase_iff → cJu
open Nat renaming le_refl → bYh, ne_of_lt → bYA, lt_of_lt_of_le → bYC, le_trans → bYQ, zero_le → bY7, lt_irrefl → cQi, lt_succ_of_lt → cQk, sub_self → cQt, le_succ_of_le → cQH, not_lt_zero → cQX, lt_succ_self → cQ2, le_succ → cXi, le_of_eq → cXN, le_of_lt → cXO, ne_of_gt → cXP, lt_or_ge → cZa
open Ne renaming symm → bYU
open Option.some renaming inj → bYw, injEq → cJk
open PyProof.Rows renaming seqObj → bYZ, envOfC → cQ8, IntsAre → cXI, get?_update_seq → cX1, IsTup → cX6, callWith_type1 → cZd, listUpdate_at → cZo, entry_list_sort → cZ6, args_list_sort → cJd, slot_list_sort → cJe
open PyProof.Rows.F renaming plain_set_update_loop → cXz, entry_set_update_loop → cZx
open PyProof.Rows.IntsAre renaming int_at → cJc
open PySem renaming Value → bYa, wpAny_bind → bYb, Shared → bYd, wpAny_pure → bYg, wpAny → bYi, model → bYk, Program → bYx, sizeLine → bYB, World → bYD, mainGlobals → bYG, sizeLine_eq → bYJ, starEach → bYN, Around → bYO, bootBuiltins → bYT, Paired → bY3, wpAny_mono → cQc, rawInt → cQq, wpAny_holding → cQs, mem_of_lookup → cQD, compareOp → cQE, backTo → cQN, wpAny_Call_Name_kw → cQO, SetTable → cQV, Builtin → cQY, codeAny_mono → cQ4, wpAny_call_entry → cQ5, FuncData → cQ9, wpAny_newObj_type → cXa, wpAny_truthy_bool → cXb, wpAny_setField → cXh, Scope → cXo, codeAny_builtin → cXp, codeAny → cXr, keywordEach → cXw, wpAny_passesOwn → cXB, wpAny_setState_of → cXE, binaryOp → cXS, wpAny_askSetting → cXT, wpAny_setEntries_of → cXW, wpAny_callSpecial?_slot → cXX, attributeBase → cXY, behindInMarks → cXZ, sysModules → cX2, isSubtype → cZe, pickOrder → cZf, setFlight → cZg, NameKind → cZj, backToKw → cZk, wpAny_call → cZl, plainId_quiet → cZp, wpAny_attempt → cZq, wpAny_newList → cZr, holding → cZs, sliceBounds → cZt, valueAt → cZu, getMethod → cZz, noteFrame → cZA, scanBound → cZB, wpAny_standAt → cZI, builtinLookup_eq_fast → cZM, plainObj_wpAny_Assign_Attribute → cZN, assignEach → cZU, codeAny_call_builtin → cZV, isInstance → cZW, letOwnedTupleGo → cZX, wpAny_execs_nil → cZY, wpAny_ite_split → cZZ, wpAny_fieldsOf → cZ8, fits_of_scanBound → cJn, foldedSetIterable → cJo, wpAny_pyIter_list → cJp, wpAny_comprehension_free → cJx
open PySem.Around renaming under_plainId → cQ7
open PySem.Builtin.List renaming listExtendWith → cZc, listTooLong → cZw, listLengthHint → cZ9, listSameRef → cJt
open PySem.Calls renaming call_function_entry → cZv, Name_function_global → cJh
open PySem.Code renaming quiet_builtin → cJa
open PySem.F renaming plainAttrs_list → bYM, slot_list_append → bYR, type_list_append → bYS, called_set → cQ3, excBase_Exception → cJr, plain_extend_loop → cJs, args_tuple_add_2 → cJw
open PySem.Heap renaming get?_push_of_some → bYf, lt_size → bYo, get?_push_size → bYE, get?_update_other → bYK, get?_update_self → cQd, size_push → cQJ, SameBut → cXe, ExtBut → cZH, get?_update_ne → cZ0
open PySem.Heap.SameBut renaming update → cQC
open PySem.Obj renaming mapSeq → bY4, mapFields → cQp, isFreed_of_fields → cQx, data_mapFields → cQA
open PySem.Paired renaming length → cXt
open PySem.PassesOwn renaming never → bYY
open PySem.SeqAt renaming EqAt → cJz
open PySem.SetTable renaming below → bY9, grown → cXL, insertAt → cX9
open PySem.SetTable.below renaming go → cX8
open PySem.SetTable.probe renaming go → cJm
open PySem.Str renaming ofString → cZy
open PySem.W renaming Frag → bYc, mg_none_of → bYq, findIn → bYV, kitOne → bY2, nsIn → bY5, keepIn → bY6, katRev → cQo, fnOf → cQu, kia_one → cQL, kia_tup → cQM, codeIn → cQS, emptyDict → cQT, mg_of → cQ6, CodeHd → cXg, instObj → cXm, kla_obj → cXn, tabObj → cXK, isFn → cXQ, plainGet → cXR, callWith_K → cX0, hasDictIn → cX7, methodCall_KW → cZb, mroIn → cZn, kitx_dict → cZD, kitx_list → cZE, plainOver → cZF, specialIn → cZG, codeHdIn → cZL, callWith_K0 → cZ3, plainGet_of → cZ4, lookIn → cZ7, methodObj → cJl, KatTups → cJy
open PySem.W.KatTups renaming cons → cZT
open True renaming intro → cQw
theorem dk {p:Prop}[Decidable p](h:decide p=true:=by decide +kernel):p:=of_decide_eq_true h
namespace L2
open PySem PySem.Spec PyProof.Rows
abbrev Key:=Sum Int Str
def aWb:Key->bYa->Bool
 |.inl k,v=>Value.isInt k v
 |.inr x,v=>Value.isStrOf x v
def bKX(w:bYD):Key->Int
 |.inl k=>hashInt k
 |.inr x=>hashStr w x
theorem x5:∀ {k:Key} {v:bYa},aWb k v=true->(∃i t,k=Sum.inl i/\v=Value.int i t)\/(∃x t,k=Sum.inr x/\v=Value.str x t)
 |.inl i,v,h=>by obtain⟨t,e⟩:=Value.isInt_shape (k:=i) (v:=v) h;exact .inl ⟨i,t,rfl,e⟩
 |.inr x,v,h=>by obtain⟨t,e⟩:=Value.isStrOf_shape (x:=x) (v:=v) h;exact .inr ⟨x,t,rfl,e⟩
theorem aKJ(i:Int)(t:Tok):aWb (.inl i) (.int i t)=true:=by simp[aWb,Value.isInt]
theorem aKK(x:Str)(t:Tok):aWb (.inr x) (.str x t)=true:=by simp[aWb,Value.isStrOf]
theorem bWj(a b:Int):decide ((Sum.inl a:Key)=Sum.inl b)=(a==b):=by
 by_cases e:a=b
 ·subst e;simp
 ·have h:¬ (Sum.inl a:Key)=Sum.inl b:=λq=>e (Sum.inl.inj q);rw[decide_eq_false h];exact(beq_eq_false_iff_ne.mpr e).symm
theorem bWm(a b:Str):decide ((Sum.inr a:Key)=Sum.inr b)=decide (a=b):=by
 by_cases e:a=b
 ·subst e;simp
 ·have h:¬ (Sum.inr a:Key)=Sum.inr b:=λq=>e (Sum.inr.inj q);rw[decide_eq_false h,decide_eq_false e]
theorem bWk(a:Int)(b:Str):decide ((Sum.inl a:Key)=Sum.inr b)=false:=decide_eq_false (λq=>nomatch q)
theorem bWl(a:Str)(b:Int):decide ((Sum.inr a:Key)=Sum.inl b)=false:=decide_eq_false (λq=>nomatch q)
def x6(prog:bYx)(w:bYD):PySem.KeyKind prog w Key where
 is:=aWb
 hash:=bKX w
 inj:=λv a b ha hb=>by
  rcases x5 ha with⟨i,t,rfl,rfl⟩|⟨x,t,rfl,rfl⟩
  ·rcases x5 hb with⟨j,u,rfl,e⟩|⟨y,u,rfl,e⟩
   ·injection e with e1 _;rw[e1]
   ·exact nomatch e
  ·rcases x5 hb with⟨j,u,rfl,e⟩|⟨y,u,rfl,e⟩
   ·exact nomatch e
   ·injection e with e1 _;rw[e1]
 byValue:=λk v h=>by
  rcases x5 h with⟨i,t,rfl,rfl⟩|⟨x,t,rfl,rfl⟩<;> rfl
 pyHash:=λhv h=>by
  rcases x5 hv with⟨i,t,rfl,rfl⟩|⟨x,t,rfl,rfl⟩
  ·exact wpAny_pyHash_int h
  ·exact wpAny_pyHash_str h
 eqBool:=λhu hv h=>by
  rcases x5 hu with⟨i,t,rfl,rfl⟩|⟨x,t,rfl,rfl⟩
  ·rcases x5 hv with⟨j,u,rfl,rfl⟩|⟨y,u,rfl,rfl⟩
   ·rw[bWj]at h;exact wpAny_eqBool_int h
   ·rw[bWk]at h;exact SeqAt.EqAt.int_str i t y u _ _ _ _ h
  ·rcases x5 hv with⟨j,u,rfl,rfl⟩|⟨y,u,rfl,rfl⟩
   ·rw[bWl]at h;exact SeqAt.EqAt.str_int x t j u _ _ _ _ h
   ·rw[bWm]at h;exact wpAny_eqBool_str h
 «strs»:=λk x t v h=>by
  rcases x5 h with⟨i,u,rfl,e⟩|⟨y,u,rfl,e⟩
  ·exact nomatch e
  ·injection e with e1 _
   subst e1
   cases v<;> rfl
theorem aJn(prog:bYx)(w:bYD)(i:Int)(t:Tok):(x6 prog w).is (.inl i) (.int i t)=true:=aKJ i t
theorem jR(prog:bYx)(w:bYD)(x:Str)(t:Tok):(x6 prog w).is (.inr x) (.str x t)=true:=aKK x t
end L2
namespace L2
open PySem PySem.Spec PyProof.Rows
inductive V where
 |non|bl (b:Bool)|int (i:Int)|str (x:Str)|byt (b:Array UInt8)|flt (b:UInt64)|ref (a:Addr)|ty (n:String)
 deriving DecidableEq
def zH:V->bYa->Prop
 |.non,u=>u=Value.none
 |.bl b,u=>u=Value.bool b
 |.int i,u=>∃t,u=Value.int i t
 |.str x,u=>∃t,u=Value.str x t
 |.byt b,u=>∃t,u=Value.bytes b t
 |.flt b,u=>∃t,u=Value.float b t
 |.ref a,u=>u=Value.ref a
 |.ty n,u=>u=Value.type n
abbrev xV:List V->List bYa->Prop:=bY3 zH
theorem xV.length{xs:List V}{us:List bYa}(r:xV xs us):xs.length=us.length:=cXt r
theorem xV.get:∀ {xs:List V} {us:List bYa} {i:Nat} {x:V},xV xs us->xs[i]? =some x->∃u,us[i]? =some u/\zH x u
 |_,_,_,_,.nil,e=>by simp at e
 |_,_,0,_,.cons r _,e=>by simp at e;subst e;exact⟨_,rfl,r⟩
 |_,_,i+1,x,.cons _ t,e=>by obtain⟨u,h1,h2⟩:=xV.get (i:=i) (x:=x) t (by simpa using e);exact⟨u,by simpa using h1,h2⟩
theorem xV.set{x:V}{u:bYa}(r:zH x u):∀ {xs:List V} {us:List bYa} (i:Nat),xV xs us->xV (xs.set i x) (us.set i u)
 |_,_,_,.nil=> .nil
 |_,_,0,.cons _ t=> .cons r t
 |_,_,i+1,.cons q t=> .cons q (xV.set r i t)
theorem xV.append:∀ {xs ys:List V} {us a:List bYa},xV xs us->xV ys a->xV (xs++ys) (us++a)
 |_,_,_,_,.nil,s=>s
 |_,_,_,_,.cons r t,s=> .cons r (xV.append t s)
theorem xV.take:∀ {xs:List V} {us:List bYa} (n:Nat),xV xs us->xV (xs.take n) (us.take n)
 |_,_,0,_=> .nil
 |_,_,_+1,.nil=> .nil
 |_,_,n+1,.cons r t=> .cons r (xV.take n t)
theorem xV.drop:∀ {xs:List V} {us:List bYa} (n:Nat),xV xs us->xV (xs.drop n) (us.drop n)
 |_,_,0,r=>r
 |_,_,_+1,.nil=> .nil
 |_,_,n+1,.cons _ t=>xV.drop n t
def aX0:Option V->Option bYa->Prop
 |some v,some u=>zH v u
 |none,none=>True
 |_,_=>False
def KV{κ:Type}:List (κ×V)->List (κ×bYa)->Prop:=bY3 λ(p:κ×V)(q:κ×bYa)=>p.1=q.1/\zH p.2 q.2
def kV:Key->V
 |.inl i=> .int i
 |.inr x=> .str x
inductive HO where
 |lst (xs:List V)
 |tup (xs:List V)
 |dK (kvs:List (Key×V))|dT (kvs:List (List Key×V))
 |set (S:Int->Bool) (n:Nat)
 |ins (C dx:Addr) (fs:List (Str×V))
 |own (x:Addr)
 |xd (fs:List (Str×V))
 |met (f x:Addr)
 |rng (lo hi:Int)
 |frz (o:Obj) (u:HO)
 |tbl (ps:Array bYa)
 |ext (φ:Heap->Prop)
abbrev Hp:=Addr->Option HO
def upd(H:Hp)(a:Addr)(o:HO):Hp:=λb=>if b=a then some o else H b
theorem yB{H:Hp}{a:Addr}{o:HO}:upd H a o a=some o:=by unfold upd;rw[if_pos rfl]
theorem yJ{H:Hp}{a b:Addr}{o:HO}(h:b≠a):upd H a o b=H b:=by unfold upd;rw[if_neg h]
theorem uO{H:Hp}{a:Addr}{o u:HO}:upd (upd H a o) a u=upd H a u:=by
 funext b;unfold upd;split<;> rfl
theorem aQY{H:Hp}{a b:Addr}{o u:HO}(h:H a=some o)(h':H b=some u)(d:o≠u):a≠b:=by
 intro e;subst e;rw[h]at h';exact d (bYw h')
theorem yK{H:Hp}{a b:Addr}{o:HO}(h:H a=some o)(h':H b=none):a≠b:=by
 intro e;subst e;rw[h]at h';cases h'
section
variable (P:bYx)(w:bYD)
def zA(H:Hp)(h:Heap)(a:Addr):HO->Prop
 |.lst xs=>xs.length<=bYB/\∃ (c:List bYa)(n:Nat),xV xs c/\h.get? a=some {cls:= .type "list",data:= .seq c.toArray n}
 |.tup xs=>xs.length<=bYB/\∃c:List bYa,xV xs c/\cX6 h a c.toArray
 |.dK b=>b.length<=bYB/\(a==cX2)=false/\∃d,KV b d/\h.DictOf (x6 P w) a d
 |.dT b=>b.length<=bYB/\(a==cX2)=false/\∃xs:List (List Key×Addr×bYa),
   bY3 (λ(p:List Key×V)(q:List Key×Addr×bYa)=>p.1=q.1/\H q.2.1=some (.tup (p.1.map kV))/\zH p.2 q.2.2) b xs/\
   ∃o es e,h.get? a=some o/\o.ExactDict/\o.data= .dict es e/\es.toList=xs.map (entryOfKey (tupleKind (x6 P w)))/\(xs.map (·.1)).Nodup
 |.set S n=>h.SetOf (intKind P w) a S n
 |.ins C dx fs=>H dx=some (.own a)/\fs.length<=1000/\dx≠a/\h.get? a=some (cXm C dx)/\
   ∃mA,h.Ns1 dx mA/\(∀f,aX0 (fs.lookup f) (mA f))/\PySem.Within mA (fs.map (·.1))
 |.own _=>∃o,h.get? a=some o
 |.xd fs=>∃mA,h.Ns1 a mA/\∀f,aX0 (fs.lookup f) (mA f)
 |.rng lo hi=>∃t u v,h.get? a=some {cls:= .type "range",data:= .fields #[.int lo t,.int hi u,.int 1 v] }
 |.frz o u=>h.get? a=some o/\zA H h a u
 |.tbl ps=>h.get? a=some {cls:= .none,data:= .fields ps}
 |.met f x=>h.get? a=some (cJl (.ref f) (.ref x))
 |.ext φ=>φ h/\(∃o,h.get? a=some o)/\∀h1 h2:Heap,φ h1->(∀o,h1.get? a=some o->h2.get? a=some o)->φ h2
def HOk(H:Hp)(h:Heap):Prop:=∀a o,H a=some o->zA P w H h a o
end
section
variable {P:bYx}{w:bYD}{H H':Hp}{h h':Heap}{a:Addr}{o:HO}
theorem zA.lt(x:zA P w H h a o):a<h.objs.size:=by
 cases o with
 |lst xs=>obtain⟨_,_,_,_,e⟩:=x;exact bYo e
 |tup xs=>obtain⟨_,_,_,p⟩:=x;exact p.lt
 |dK b=>obtain⟨_,_,_,_,o,_,_,e,_⟩:=x;exact bYo e
 |dT b=>obtain⟨_,_,_,_,o,_,_,e,_⟩:=x;exact bYo e
 |set S n=>obtain⟨o,_,_,_,e,_⟩:=x;exact bYo e
 |ins C dx fs=>obtain⟨_,_,_,e,_⟩:=x;exact bYo e
 |own y=>obtain⟨_,e⟩:=x;exact bYo e
 |xd fs=>obtain⟨_,⟨_,_,_,e,_⟩,_⟩:=x;exact bYo e
 |rng lo hi=>obtain⟨_,_,_,e⟩:=x;exact bYo e
 |frz c u=>obtain⟨e,_⟩:=x;exact bYo e
 |tbl ps=>exact bYo (show h.get? a=some _ from x)
 |met f y=>exact bYo (show h.get? a=some _ from x)
 |ext φ=>obtain⟨_,⟨_,e⟩,_⟩:=x;exact bYo e
theorem Paired.mapP{α β:Type}{F G:α->β->Prop}:∀ {d:List α} {c:List β},bY3 F d c->(∀a b,F a b->G a b)->bY3 G d c
 |_,_,.nil,_=> .nil
 |_,_,.cons r t,f=> .cons (f _ _ r) (Paired.mapP t f)
theorem zA.stay(x:zA P w H h a o)(k:∀b u,(b=a\/H b=some (.own a))->h.get? b=some u->h'.get? b=some u) (D:∀b,H b=some (.own a)->H' b=some (.own a)) (B:∀b xs,H b=some (.tup xs)->H' b=some (.tup xs)):zA P w H' h' a o:=by
 induction o with
 |lst xs=>obtain⟨z,j,n,r,e⟩:=x;exact⟨z,j,n,r,k _ _ (.inl rfl) e⟩
 |tup xs=>obtain⟨z,j,r,g,e,c⟩:=x;exact⟨z,j,r,g,k _ _ (.inl rfl) e,c⟩
 |dK l=>obtain⟨z,y,s,r,g,es,i,e,c⟩:=x;exact⟨z,y,s,r,g,es,i,k _ _ (.inl rfl) e,c⟩
 |dT l=>obtain⟨z,y,xs,r,g,es,i,e,c⟩:=x;exact⟨z,y,xs,Paired.mapP r λp q z=>⟨z.1,B _ _ z.2.1,z.2.2⟩,g,es,i,k _ _ (.inl rfl) e,c⟩
 |set S n=>obtain⟨g,es,i,t,e,c⟩:=x;exact⟨g,es,i,t,k _ _ (.inl rfl) e,c⟩
 |ins C dx fs=>obtain⟨d,z,ne,e,mA,⟨m,es,i,A,c⟩,r⟩:=x;exact⟨D _ d,z,ne,k _ _ (.inl rfl) e,mA,⟨m,es,i,k _ _ (.inr d) A,c⟩,r⟩
 |own y=>obtain⟨g,e⟩:=x;exact⟨g,k _ _ (.inl rfl) e⟩
 |xd fs=>obtain⟨mA,⟨m,es,i,e,c⟩,r⟩:=x;exact⟨mA,⟨m,es,i,k _ _ (.inl rfl) e,c⟩,r⟩
 |rng lo hi=>obtain⟨t,u,v,e⟩:=x;exact⟨t,u,v,k _ _ (.inl rfl) e⟩
 |frz g u E=>obtain⟨e,q⟩:=x;exact⟨k _ _ (.inl rfl) e,E q⟩
 |tbl ps=>have e:h.get? a=some {cls:= .none,data:= .fields ps}:=x;show h'.get? a=some {cls:= .none,data:= .fields ps};exact k a _ (.inl rfl) e
 |met f y=>have e:h.get? a=some (cJl (.ref f) (.ref y)):=x;show h'.get? a=some (cJl (.ref f) (.ref y));exact k a _ (.inl rfl) e
 |ext φ=>obtain⟨p,⟨o,e⟩,st⟩:=x;exact⟨st _ _ p λo q=>k _ _ (.inl rfl) q,⟨o,k _ _ (.inl rfl) e⟩,st⟩
theorem HOk.lt(x:HOk P w H h)(e:H a=some o):a<h.objs.size:=(x a o e).lt
theorem HOk.fresh(x:HOk P w H h)(e:h.objs.size<=a):H a=none:=by
 cases q:H a with
 |none=>rfl
 |some u=>exact absurd (bYC (x.lt q) e) (cQi _)
theorem HOk.kept(x:HOk P w H h)(k:∀b u,h.get? b=some u->h'.get? b=some u):HOk P w H h':=λa o e=>
 (x a o e).stay (λb u _ q=>k b u q) (λ_ q=>q) λ_ _ q=>q
theorem HOk.laid(x:HOk P w H h)(k:∀b u,h.get? b=some u->h'.get? b=some u)(i:h.objs.size<=a)(d:zA P w (upd H a o) h' a o):HOk P w (upd H a o) h':=λb u e=>by
 have g:=x.fresh i;by_cases f:b=a
 ·subst f;rw[yB]at e;cases e;exact d
 ·rw[yJ f]at e;exact(x b u e).stay (λc v _ q=>k c v q) (λc q=>by rw[yJ (yK q g)];exact q) λc xs q=>by rw[yJ (yK q g)];exact q
end
def Rd(H:Hp)(a:Addr)(u:HO):Prop:=H a=some u\/∃o,H a=some (.frz o u)
theorem Rd.ok{P:bYx}{w:bYD}{H:Hp}{h:Heap}{a:Addr}{u:HO}(r:Rd H a u)(x:HOk P w H h):zA P w H h a u:=by
 rcases r with r|⟨o,r⟩
 ·exact x a u r
 ·obtain⟨_,q⟩:=x a _ r;exact q
def Mut:Option HO->Prop
 |some (.lst _)=>True
 |some (.dK _)=>True
 |some (.dT _)=>True
 |some (.set _ _)=>True
 |some (.ins _ _ _)=>True
 |some (.ext _)=>True
 |_=>False
section
variable {P:bYx}{w:bYD}{H:Hp}{h h':Heap}{x e:Addr}{o':HO}
theorem HOk.write(ok:HOk P w H h)(g:Mut (H x))(o:e=x\/H e=some (.own x))(k:∀b u,b≠e->h.get? b=some u->h'.get? b=some u)(l:∃u,h'.get? e=some u)
  (m:zA P w (upd H x o') h' x o'):HOk P w (upd H x o') h':=λb u q=>by
 have d:∀c y,H c=some (.own y)->c≠x:=λc y r z=>by subst z;rw[r]at g;exact g
 have f:∀c xs,H c=some (.tup xs)->c≠x:=λc xs r z=>by subst z;rw[r]at g;exact g
 by_cases j:b=x
 ·subst j;rw[yB]at q;cases q;exact m
 ·rw[yJ j]at q;by_cases a:b=e
  ·have n:H b=some (.own x):=by
    rcases o with z|z
    ·exact absurd (a.trans z) j
    ·rw[a];exact z
   rw[q]at n;cases n;obtain⟨v,p⟩:=l;exact⟨v,by rw[a];exact p⟩
  ·refine(ok b u q).stay (λc v i r=>k c v ?_ r) (λc r=>by rw[yJ (d c b r)];exact r) λc xs r=>by rw[yJ (f c xs r)];exact r
   rcases i with rfl|i
   ·exact a
   ·rintro rfl;rcases o with z|z
    ·exact d c b i z
    ·rw[i]at z;cases z;exact j rfl
end
structure Un(fs ex:List Addr)(H H':Hp)(h h':Heap):Prop where
 keep:∀b o,h.get? b=some o->H b=none->b∉fs->b∉ex->h'.get? b=some o
 slot:∀b o,h.get? b=some o->H b=none->b∈fs->b∉ex->∃sl,h'.get? b=some {o with slots:=sl}
 free:∀b o,h.get? b=some o->H b=none->b∉ex->H' b=none
 there:∀b o,h.get? b=some o->b∉ex->∃o',h'.get? b=some o'
 tups:∀b xs,H b=some (.tup xs)->H' b=some (.tup xs)
 frzs:∀b o u,H b=some (.frz o u)->H' b=some (.frz o u)
 tbls:∀b ps,H b=some (.tbl ps)->∃more,H' b=some (.tbl (ps++more))
section
variable {fs fs' ex ex':List Addr}{H H1 H2:Hp}{h h1 h2 h':Heap}{a x e:Addr}{o:HO}
theorem Un.any(u:Un fs ex H H1 h h1){b:Addr}{a:Obj}(q:h.get? b=some a)(n:H b=none)(d:b∉ex):∃e,h1.get? b=some {a with slots:=e}:=by
 by_cases c:b∈fs
 ·exact u.slot b a q n c d
 ·exact⟨a.slots,u.keep b a q n c d⟩
theorem Un.kept(k:∀b u,h.get? b=some u->h'.get? b=some u):Un fs ex H H h h':=
 ⟨λb a q _ _ _=>k b a q,λb a q _ _ _=>⟨a.slots,k b a q⟩,λ_ _ _ n _=>n,λb a q _=>⟨a,k b a q⟩,λ_ _ q=>q,λ_ _ _ q=>q,λ_ ps q=>⟨#[],by rw[q];simp⟩⟩
theorem Un.refl:Un fs ex H H h h:=Un.kept λ_ _ q=>q
theorem Un.laid(k:∀b u,h.get? b=some u->h'.get? b=some u)(hp:h.objs.size<=a)(hn:H a=none):Un fs ex H (upd H a o) h h' where
 keep:=λb u q _ _ _=>k b u q
 slot:=λb u q _ _ _=>⟨u.slots,k b u q⟩
 free:=λb u q n _=>by rw[yJ (bYA (bYC (bYo q) hp))];exact n
 there:=λb u q _=>⟨u,k b u q⟩
 tups:=λb xs q=>by rw[yJ (yK q hn)];exact q
 frzs:=λb u xs q=>by rw[yJ (yK q hn)];exact q
 tbls:=λb ps q=>⟨#[],by rw[yJ (yK q hn),q];simp⟩
theorem Un.write(c:Mut (H x))(j:e=x\/H e=some (.own x))(k:∀b u,b≠e->h.get? b=some u->h'.get? b=some u)(f:∃u,h'.get? e=some u):Un fs ex H (upd H x o) h h':=by
 have i:∀b,H b=none->b≠x:=λb n z=>by subst z;rw[n]at c;exact c
 have g:∀b,H b=none->b≠e:=λb n z=>by
  subst z;rcases j with r|r
  ·exact i b n r
  ·rw[n]at r;cases r
 have d:∀b u,H b=some u->¬Mut (some u)->b≠x:=λb u q nm z=>by subst z;rw[q]at c;exact nm c
 refine⟨λb u q n _ _=>k b u (g b n) q,λb u q n _ _=>⟨u.slots,k b u (g b n) q⟩,λb u q n _=>by rw[yJ (i b n)];exact n,λb u q _=>?_,
  λb xs q=>by rw[yJ (d b _ q λz=>z)];exact q,λb u xs q=>by rw[yJ (d b _ q λz=>z)];exact q,λb ps q=>⟨#[],by rw[yJ (d b _ q λz=>z),q];simp⟩⟩
 by_cases a:b=e
 ·subst a;exact f
 ·exact⟨u,k b u a q⟩
end
def trk(h:Heap)(H:Hp):List Addr:=(bYn h.objs.size).filter λa=>(H a).isSome
def aKE(h:Heap)(H:Hp):Heap:=PySem.W.hideAll h (trk h H)
theorem aKF(h:Heap)(H:Hp):(aKE h H).objs.size=h.objs.size:=PySem.W.hideAll_size _ _
theorem bQQ{h:Heap}{H:Hp}{b:Addr}{o:Obj}(e:h.get? b=some o)(n:H b=none):(aKE h H).get? b=some o:=
 PySem.W.hideAll_get _ e λa=>by have q:(H b).isSome=true:=(cQg.mp a).2;rw[n]at q;simp at q
theorem bJH{h:Heap}{H:Hp}{b:Addr}{o:Obj}(e:(aKE h H).get? b=some o):h.get? b=some o/\H b=none:=by
 have a:h.get? b=some o:=PySem.W.of_hideAll (trk h H) e;refine⟨a,?_⟩;cases q:H b with
 |none=>rfl
 |some x=>have c:b∈trk h H:=cQg.mpr ⟨bYI.mpr (bYo a),by simp[q]⟩;have z:(aKE h H).get? b=none:=PySem.W.hideAll_none (trk h H) c;rw[z]at e;cases e
def bJh(g h:Heap)(L:Addr):List (Addr×Obj):=(bYn h.objs.size).filterMap λa=>if a=L\/(g.get? a).isSome=true then none else(h.get? a).map λo=>(a,o)
def jS(g h:Heap)(L d:Addr):List (Addr×Obj):=(bJh g h L).filter λp=>decide (p.1≠d)
end L2
namespace L2
open PySem PySem.Spec PyProof.Rows
structure Mod(K:bYc)(mg:Str->Option bYa)(base:Heap):Prop where
 kin:K.In base
 glob:base.Ns bYG mg
 blt:∃mb,base.Ns builtinsNs mb/\∀x:Str,x≠"__name__"->mb x=bYT x
 nolimit:base.NoLimit
structure Cx where
 prog:bYx
 w:bYD
 K:bYc
 mg:Str->Option bYa
 base:Heap
 A:bYO
 N:List Str
 s₀:bYd
 H₀:Hp
 env:Env
 outer:List Env
 stack:List Env
 ex:List Addr
 fn:Str->Bool
 calm:Bool
 pn:List (Addr×Obj)
 xe:bYa->bYd->Prop
def frs(l:List Env):List Addr:=l.filterMap (·.frame)
abbrev Cx.fs(X:Cx):List Addr:=frs X.outer
def Vis(a:cXo)(x:Str):Prop:=a.names.lookup x=some .local\/a.names.lookup x=some .cell\/a.names.lookup x=some .free
def Loc(a:cXo)(x:Str):Prop:=a.names.lookup x=some .local\/a.names.lookup x=some .cell
def bKR(env:Env)(h:Heap)(m:Str->Option bYa)(x:Str)(u:bYa):Prop:=
 (env.kindOf x=some .local/\m x=some u)\/((env.kindOf x=some .cell\/env.kindOf x=some .free)/\∃c,env.cells.lookup x=some c/\h.IsCell c (some u))
structure Cx.Ok(X:Cx):Prop where
 mod:Mod X.K X.mg X.base
 kind:X.env.scope.kind= .function
 glob:X.env.globals=bYG
 blt:X.env.builtins=builtinsNs
 above:X.s₀.heap.objs.size<=X.env.locals
 inj:∀x y c,X.env.cells.lookup x=some c->X.env.cells.lookup y=some c->x=y
 has:∀x,(X.env.kindOf x=some .cell\/X.env.kindOf x=some .free)->∃c,X.env.cells.lookup x=some c
 cab:∀x c,X.fn x=true->X.env.cells.lookup x=some c->X.s₀.heap.objs.size<=c
 hd:X.calm=true->X.A.handled=none
 frames:X.A.frames=some X.stack
 stk:X.stack=X.outer\/(X.stack=X.env::X.outer/\X.env.frame=some X.env.locals)
 exf:∀b∈X.ex,b≠X.env.locals/\∀x c,X.env.cells.lookup x=some c->c≠b
 bs:∀b o,X.base.get? b=some o->X.s₀.heap.get? b=some o/\X.H₀ b=none
 bsz:X.base.objs.size<=X.s₀.heap.objs.size
 noex:∀b o,X.base.get? b=some o->b∉X.ex
 exfs:∀b∈X.ex,b∉X.fs
 funs:X.s₀.heap.FunFrames X.base X.outer
 frf:∀b∈X.fs,X.H₀ b=none
structure Inv(X:Cx)(pins:List (Addr×Obj))(σ:List (Option V))(H:Hp)(s:bYd):Prop where
 ok:X.Ok
 os:s.os=X.s₀.os
 bare:AllBare s.gens
 base:Un X.fs X.ex X.H₀ H X.s₀.heap s.heap
 loc:∃m,s.heap.Ns X.env.locals m/\∀ (i:Nat)(x:Str)(v:V),X.N[i]? =some x->σ[i]? =some (some v)->Vis X.env.scope x->∃u,zH v u/\bKR X.env s.heap m x u
 cell:∀x c,X.env.cells.lookup x=some c->∃v,s.heap.IsCell c v
 free:H X.env.locals=none
 freeC:∀x c,X.env.cells.lookup x=some c->H c=none
 pin:∀p∈X.pn++pins,s.heap.get? p.1=some p.2/\H p.1=none/\p.1≠X.env.locals/\p.1∉X.fs/\∀v,p.2.data≠ .cell v
 hok:HOk X.prog X.w H s.heap
 len:σ.length=X.N.length
section
variable {X:Cx}{pins:List (Addr×Obj)}{σ:List (Option V)}{H H':Hp}{s:bYd}{h':Heap}
theorem Cx.Ok.nofr(ok:X.Ok){b:Addr}{o:Obj}(e:X.base.get? b=some o):b∉X.fs:=λa=>by
 have:=(ok.funs.mem a).1;rw[e]at this;cases this
theorem Inv.bs(I:Inv X pins σ H s):∀b o,X.base.get? b=some o->s.heap.get? b=some o/\H b=none:=λb o e=>
 ⟨I.base.keep b o (I.ok.bs b o e).1 (I.ok.bs b o e).2 (I.ok.nofr e) (I.ok.noex b o e),I.base.free b o (I.ok.bs b o e).1 (I.ok.bs b o e).2 (I.ok.noex b o e)⟩
theorem Inv.bk(I:Inv X pins σ H s):∀b o,X.base.get? b=some o->s.heap.get? b=some o:=λb o e=>(I.bs b o e).1
theorem Inv.mod(I:Inv X pins σ H s):Mod X.K X.mg X.base:=I.ok.mod
theorem Inv.kIn(I:Inv X pins σ H s):X.K.In s.heap:=I.ok.mod.kin.keeps I.bk
theorem Inv.nolimit(I:Inv X pins σ H s):s.heap.NoLimit:=I.ok.mod.nolimit.keeps I.bk
theorem Inv.lt(I:Inv X pins σ H s):X.env.locals<s.heap.objs.size:=let ⟨_,hn,_⟩:=I.loc;hn.lt
theorem Inv.sz(I:Inv X pins σ H s):X.s₀.heap.objs.size<=s.heap.objs.size:=bYQ I.ok.above (cXO I.lt)
theorem Inv.nofs(I:Inv X pins σ H s){a:Addr}(h:s.heap.objs.size<=a):a∉X.fs:=λb=>by
 obtain⟨_,o,c,_⟩:=I.ok.funs.mem b;exact absurd (bYC (bYo c) (bYQ I.sz h)) (cQi _)
theorem Inv.cne(I:Inv X pins σ H s):∀x c,X.env.cells.lookup x=some c->c≠X.env.locals:=λx c e z=>by
 obtain⟨v,o,d,f⟩:=I.cell x c e;obtain⟨m,⟨o',es,g,b,a,_⟩,_⟩:=I.loc;rw[z,b]at d;cases d;rw[a]at f;cases f
theorem Inv.funs(I:Inv X pins σ H s):s.heap.FunFrames X.base X.outer:=by
 have all:∀ (l:List Env),(∀b∈frs l,b∈X.fs)->X.s₀.heap.FunFrames X.base l->s.heap.FunFrames X.base l:=by
  intro l;induction l with
  |nil=>intro _ _;trivial
  |cons env r m=>intro f hl;obtain⟨j,⟨L,o,c,i,k,h⟩,g⟩:=hl;have a:L∈X.fs:=f L (by unfold frs;rw[cXU,c];exact bYp);obtain⟨n,e⟩:=I.base.slot L o k (I.ok.frf L a) a λz=>I.ok.exfs L z a;exact⟨j,⟨L,_,c,i,e,h⟩,m (λb d=>f b (by unfold frs;rw[cXU,c];exact bYm _ d)) g⟩
 exact all X.outer (λ_ d=>d) I.ok.funs
theorem Inv.stack(I:Inv X pins σ H s):s.heap.FunFrames X.base X.stack:=by
 rcases I.ok.stk with e|⟨e,a⟩
 ·rw[e];exact I.funs
 ·rw[e];obtain⟨m,b,_⟩:=I.loc;refine .cons (by rw[I.ok.kind];decide) a b ?_ I.funs;exact Heap.get?_none_of_le (bYQ I.ok.bsz I.ok.above)
theorem Inv.stkSub(I:Inv X pins σ H s):∀b∈frs X.stack,b∈X.env.locals::X.fs:=λb a=>by
 rcases I.ok.stk with e|⟨e,c⟩
 ·rw[e]at a;exact bYm _ a
 ·rw[e]at a;unfold frs at a;rw[cXU,c]at a;exact a
theorem Inv.stkFree(I:Inv X pins σ H s):∀b∈frs X.stack,H b=none:=λb a=>by
 rcases bYj.mp (I.stkSub b a)with e|a
 ·rw[e];exact I.free
 ·obtain⟨_,o,c,_⟩:=I.ok.funs.mem a;exact I.base.free b o c (I.ok.frf b a) λz=>I.ok.exfs b z a
theorem Inv.step{g':Array GenState}{t':Nat}{d':Drawn}{ch:List Addr}(I:Inv X pins σ H s) (g:∀b∈ch,(b∈X.ex\/X.s₀.heap.objs.size<=b)/\b≠X.env.locals/\(∀x c,X.env.cells.lookup x=some c->c≠b)/\∀p∈X.pn++pins,p.1≠b) (keep:∀b o,b≠X.env.locals->b∉X.fs->b∉ch->s.heap.get? b=some o->H b=none->h'.get? b=some o) (A:∀b o,b≠X.env.locals->b∈X.fs->b∉ch->s.heap.get? b=some o->H b=none->∃L,h'.get? b=some {o with slots:=L}) (f:∀b o,b∉ch->s.heap.get? b=some o->H b=none->H' b=none) (there:∀b o,b∉ch->s.heap.get? b=some o->∃o',h'.get? b=some o') (J:∀b xs,H b=some (.tup xs)->H' b=some (.tup xs)) (E:∀b o u,H b=some (.frz o u)->H' b=some (.frz o u)) (G:∀b ps,H b=some (.tbl ps)->∃more,H' b=some (.tbl (ps++more))) (R:∀m,s.heap.Ns X.env.locals m->h'.Ns X.env.locals m) (M:HOk X.prog X.w H' h') (U:AllBare g'): Inv X pins σ H' {s with heap:=h',gens:=g',drawn:=d',toks:=t'}:=by
 have F:∀b o,X.s₀.heap.get? b=some o->b≠X.env.locals:=λb o e=>bYA (bYC (bYo e) I.ok.above);have y:∀b o,X.s₀.heap.get? b=some o->b∉X.ex->b∉ch:=λb o e a B=>by
  rcases(g b B).1 with z|z
  ·exact a z
  ·exact absurd (bYC (bYo e) z) (cQi _)
 have j:∀x c,X.env.cells.lookup x=some c->∀v,s.heap.IsCell c v->h'.IsCell c v:=λx c e v ⟨o,C,K⟩=>by
  have h:c∉ch:=λz=>(g c z).2.2.1 x c e rfl;by_cases P:c∈X.fs
  ·obtain⟨L,q⟩:=A c o (I.cne x c e) P h C (I.freeC x c e);exact⟨_,q,K⟩
  ·exact⟨o,keep c o (I.cne x c e) P h C (I.freeC x c e),K⟩
 refine⟨I.ok,I.os,U,⟨λb o e n B a=>?_,λb o e n B a=>?_,λb o e n a=>?_,λb o e a=>?_,λb xs e=>J b xs (I.base.tups b xs e),λb o xs e=>E b o xs (I.base.frzs b o xs e),λb ps e=>?_⟩,?_,λx c e=>?_,?_,λx c e=>?_,λp Q=>?_,M,I.len⟩
 ·exact keep b o (F b o e) B (y b o e a) (I.base.keep b o e n B a) (I.base.free b o e n a)
 ·obtain⟨L,t⟩:=I.base.slot b o e n B a;obtain⟨N,D⟩:=A b _ (F b o e) B (y b o e a) t (I.base.free b o e n a);exact⟨N,D⟩
 ·obtain⟨o',t⟩:=I.base.there b o e a;exact f b o' (y b o e a) t (I.base.free b o e n a)
 ·obtain⟨o',t⟩:=I.base.there b o e a;exact there b o' (y b o e a) t
 ·obtain⟨W,t⟩:=I.base.tbls b ps e;obtain⟨T,D⟩:=G b _ t;exact⟨W++T,by rw[D,Array.append_assoc]⟩
 ·obtain⟨m,S,hl⟩:=I.loc;refine⟨m,R m S,λi x v t D V=>?_⟩;obtain⟨u,r,l⟩:=hl i x v t D V;refine⟨u,r,?_⟩;rcases l with l|⟨k,c,e,z⟩
  ·exact .inl l
  ·exact .inr ⟨k,c,e,j x c e _ z⟩
 ·obtain⟨v,z⟩:=I.cell x c e;exact⟨v,j x c e v z⟩
 ·obtain⟨m,⟨o,_,_,C,_⟩,_⟩:=I.loc;exact f _ o (λz=>(g _ z).2.1 rfl) C I.free
 ·obtain⟨v,o,C,K⟩:=I.cell x c e;exact f c o (λz=>(g c z).2.2.1 x c e rfl) C (I.freeC x c e)
 ·obtain⟨e,n,ne,O,d⟩:=I.pin p Q;have h:p.1∉ch:=λz=>(g p.1 z).2.2.2 p Q rfl;exact⟨keep p.1 p.2 ne O h e n,f p.1 p.2 h e n,ne,O,d⟩
theorem Inv.un{t':Nat}(I:Inv X pins σ H s)(u:Un X.fs [] H H' s.heap h')(d:HOk X.prog X.w H' h'):Inv X pins σ H' {s with heap:=h',toks:=t'}:=by
 obtain⟨m,⟨o,es,l,h,r⟩,_⟩:=id I.loc;obtain⟨p,j⟩:=u.any h I.free (by simp);exact I.step (g':=s.gens) (d':=s.drawn) (ch:= []) (λ_ z=>nomatch z) (λb o _ g _ e n=>u.keep b o e n g (by simp)) (λb o _ g _ e n=>u.slot b o e n g (by simp)) (λb o _ e n=>u.free b o e n (by simp)) (λb o _ e=>u.there b o e (by simp)) u.tups u.frzs u.tbls (λq k=>by
  obtain⟨o',f,c,a,i⟩:=k;rw[h]at a;cases a;exact⟨_,f,c,j,i⟩) d I.bare
theorem Inv.call{g':Array GenState}{t':Nat}{d':Drawn}{ch:List Addr}(I:Inv X pins σ H s)(u:Un (frs X.stack) ch H H' s.heap h')(i:HOk X.prog X.w H' h')(q:AllBare g') (d:∀b∈ch,(b∈X.ex\/X.s₀.heap.objs.size<=b)/\b≠X.env.locals/\(∀x c,X.env.cells.lookup x=some c->c≠b)/\∀p∈X.pn++pins,p.1≠b): Inv X pins σ H' {s with heap:=h',gens:=g',drawn:=d',toks:=t'}:=by
 obtain⟨m,⟨o,es,y,k,r⟩,_⟩:=id I.loc;obtain⟨A,h⟩:=u.any k I.free λz=>(d _ z).2.1 rfl;exact I.step (ch:=ch) d (λb o h v a e n=>u.keep b o e n (λz=>(bYj.mp (I.stkSub b z)).elim h v) a) (λb o _ _ a e n=>u.any e n a) (λb o a e n=>u.free b o e n a) (λb o a e=>u.there b o e a) u.tups u.frzs u.tbls (λB t=>by
  obtain⟨o',j,g,f,l⟩:=t;rw[k]at f;cases f;exact⟨_,j,g,h,l⟩) i q
theorem Inv.turned{t':Nat}{it:Addr}(I:Inv X pins σ H s)(k:∀b o,b≠it->s.heap.get? b=some o->h'.get? b=some o)(h:H it=none)(f:it≠X.env.locals) (h1:it∈X.ex\/X.s₀.heap.objs.size<=it) (h2:∀x c,X.env.cells.lookup x=some c->c≠it) (i:∀p∈X.pn++pins,p.1≠it):Inv X pins σ H {s with heap:=h',toks:=t'}:=by
 have d:∀b u,H b=some u->b≠it:=λb u e z=>by rw[z,h]at e;cases e
 refine I.step (g':=s.gens) (d':=s.drawn) (ch:= [it]) (λb t=>?_) (λb o _ _ a e _=>k b o (λz=>a (by simp[z])) e) (λb o _ _ a e _=>⟨o.slots,k b o (λz=>a (by simp[z])) e⟩) (λ_ _ _ _ n=>n)
  (λb o a e=>⟨o,k b o (λz=>a (by simp[z])) e⟩) (λ_ _ e=>e) (λ_ _ _ e=>e) (λb ps e=>⟨#[],by rw[e];simp⟩) (λm l=>?_) (λb u e=>?_) I.bare
 ·have e:b=it:=by simpa using t
  subst e;exact⟨h1,f,h2,i⟩
 ·obtain⟨o,es,g,j,r⟩:=l;exact⟨o,es,g,k _ o (bYU f) j,r⟩
 ·refine(I.hok b u e).stay (λc v a q=>k c v ?_ q) (λ_ q=>q) λ_ _ q=>q;rcases a with z|z
  ·rw[z];exact d b u e
  ·exact d c _ z
theorem Inv.tok(I:Inv X pins σ H s)(t:Nat):Inv X pins σ H {s with toks:=t}:=I.un (h':=s.heap) (t':=t) Un.refl I.hok
theorem Inv.kept{t':Nat}(I:Inv X pins σ H s)(k:∀b u,s.heap.get? b=some u->h'.get? b=some u):Inv X pins σ H {s with heap:=h',toks:=t'}:=I.un (Un.kept k) (I.hok.kept k)
theorem Inv.laid{a:Addr}{o:HO}{t':Nat}(I:Inv X pins σ H s)(k:∀b u,s.heap.get? b=some u->h'.get? b=some u)(c:s.heap.objs.size<=a)(d:zA X.prog X.w (upd H a o) h' a o):
  Inv X pins σ (upd H a o) {s with heap:=h',toks:=t'}:=I.un (Un.laid k c (I.hok.fresh c)) (I.hok.laid k c d)
theorem Inv.write{x e:Addr}{o:HO}{t':Nat}(I:Inv X pins σ H s)(d:Mut (H x))(f:e=x\/H e=some (.own x))(k:∀b u,b≠e->s.heap.get? b=some u->h'.get? b=some u)(a:∃u,h'.get? e=some u)
  (c:zA X.prog X.w (upd H x o) h' x o):Inv X pins σ (upd H x o) {s with heap:=h',toks:=t'}:=I.un (Un.write d f k a) (I.hok.write d f k a c)
theorem Inv.pins_of{a:List (Addr×Obj)}(I:Inv X pins σ H s)(h:∀p∈a,s.heap.get? p.1=some p.2/\H p.1=none/\p.1≠X.env.locals/\p.1∉X.fs/\∀v,p.2.data≠ .cell v):Inv X a σ H s:=
 ⟨I.ok,I.os,I.bare,I.base,I.loc,I.cell,I.free,I.freeC,λp b=>(bYP.mp b).elim (λz=>I.pin p (cXk _ z)) (h p),I.hok,I.len⟩
theorem aVl{N:List Str}(d:N.Nodup){i j:Nat}{x:Str}(a:N[i]? =some x)(b:N[j]? =some x):i=j:=by
 obtain⟨h1,e⟩:=bYl.mp a;obtain⟨h2,c⟩:=bYl.mp b;exact(cQ0 d).mp (e.trans c.symm)
theorem aQO{M:Model}{A:bYO}{E:bYa->bYd->Prop}{i:Nat}{x:Str}{v:V}{u:bYa}{Q:Unit->bYd->Prop}(I:Inv X pins σ H s)(hN:X.N.Nodup)(hi:X.N[i]? =some x)(B:Loc X.env.scope x)(r:zH v u) (h:∀s',Inv X pins (σ.set i (some v)) H s'->(∃a,cXe a s.heap s'.heap/\(a=X.env.locals\/X.env.cells.lookup x=some a))->Q () s') (hf:X.fn x=true\/X.env.scope.names.lookup x=some .local:=by first|exact .inl rfl|exact .inr rfl|assumption):bYi M A (storeName X.env x u) Q E s:=by
 obtain⟨m,hn,hl⟩:=id I.loc;have R:(X.env.scope.kind== .class || (X.env.scope.kind== .module && X.env.locals !=X.env.globals))=false:=by rw[I.ok.kind];rfl
 have hiσ:i<σ.length:=by rw[I.len];exact(bYl.mp hi).1
 have cne:=I.cne;have l:∀ {a:Addr} {h':Heap},(∃o,s.heap.get? a=some o/\H a=none)->cXe a s.heap h'->HOk X.prog X.w H h':=λ{a h'} ha f b ob e=>by
  obtain⟨_,_,C⟩:=ha;refine(I.hok b ob e).stay (λc U t q=>(f.2 c ?_).trans q) (λ_ q=>q) λ_ _ q=>q;rintro rfl;rcases t with rfl|t
  ·rw[C]at e;cases e
  ·rw[C]at t;cases t
 rcases B with F|F
 ·refine wpAny_storeName_local F hn (λh' Z f=>?_) R;obtain⟨oL,_,_,a0,_⟩:=id hn;refine h _ ⟨I.ok,I.os,I.bare,⟨λb o e n J B=>?_,λb o e n J B=>?_,I.base.free,λb o e B=>?_,I.base.tups,I.base.frzs,I.base.tbls⟩,⟨_,Z,λj y v' g D e3=>?_⟩,λy c e=>?_,I.free,I.freeC,λp hp=>?_,l ⟨oL,a0,I.free⟩ f,by simpa using I.len⟩ ⟨_,f,.inl rfl⟩
  ·exact(f.2 b (bYA (bYC (bYo e) I.ok.above))).trans (I.base.keep b o e n J B)
  ·obtain⟨sl,g⟩:=I.base.slot b o e n J B;exact⟨sl,(f.2 b (bYA (bYC (bYo e) I.ok.above))).trans g⟩
  ·obtain⟨o',g⟩:=I.base.there b o e B;exact⟨o',(f.2 b (bYA (bYC (bYo e) I.ok.above))).trans g⟩
  ·by_cases K:j=i
   ·subst K;rw[hi]at g;cases g;rw[cX4 hiσ]at D;cases D;exact⟨u,r,.inl ⟨F,by simp⟩⟩
   ·rw[cZR (bYU K)]at D;obtain⟨u',Y,q⟩:=hl j y v' g D e3;refine⟨u',Y,?_⟩;rcases q with⟨k,e⟩|⟨k,c,e,z⟩
    ·refine .inl ⟨k,?_⟩;have:y≠x:=λe=>K (aVl hN g (e ▸ hi));simp[this,e]
    ·exact .inr ⟨k,c,e,z.sameBut f (cne y c e)⟩
  ·obtain⟨U,z⟩:=I.cell y c e;exact⟨U,z.sameBut f (cne y c e)⟩
  ·obtain⟨e,n,ne,W,d⟩:=I.pin p hp;exact⟨(f.2 p.1 ne).trans e,n,ne,W,d⟩
 ·have G:X.fn x=true:=by
   rcases hf with z|z
   ·exact z
   ·rw[z]at F;cases F
  obtain⟨c,t⟩:=I.ok.has x (.inl F);obtain⟨U,z⟩:=I.cell x c t;refine wpAny_storeName_cell I.ok.kind F t z (λh' S f=>?_);obtain⟨oc,L,P⟩:=id z;refine h {s with heap:=h'} ⟨I.ok,I.os,I.bare,⟨λb o e n J B=>?_,λb o e n J B=>?_,I.base.free,λb o e B=>?_,I.base.tups,I.base.frzs,I.base.tbls⟩,⟨m,hn.sameBut f (bYU (cne x c t)),λj y v' g D e3=>?_⟩,λy T e=>?_,I.free,I.freeC,λp hp=>?_,l ⟨oc,L,I.freeC x c t⟩ f,by simpa using I.len⟩ ⟨c,f,.inr t⟩
  ·exact(f.2 b (bYA (bYC (bYo e) (I.ok.cab x c G t)))).trans (I.base.keep b o e n J B)
  ·obtain⟨sl,g⟩:=I.base.slot b o e n J B;exact⟨sl,(f.2 b (bYA (bYC (bYo e) (I.ok.cab x c G t)))).trans g⟩
  ·obtain⟨o',g⟩:=I.base.there b o e B;exact⟨o',(f.2 b (bYA (bYC (bYo e) (I.ok.cab x c G t)))).trans g⟩
  ·by_cases K:j=i
   ·subst K;rw[hi]at g;cases g;rw[cX4 hiσ]at D;cases D;exact⟨u,r,.inr ⟨.inl F,c,t,S⟩⟩
   ·rw[cZR (bYU K)]at D;obtain⟨u',Y,q⟩:=hl j y v' g D e3;refine⟨u',Y,?_⟩;rcases q with q|⟨k,T,e,z'⟩
    ·exact .inl q
    ·refine .inr ⟨k,T,e,z'.sameBut f ?_⟩;rintro rfl;exact K (aVl hN g (I.ok.inj _ _ _ e t ▸ hi))
  ·by_cases O:T=c
   ·subst O;exact⟨_,S⟩
   ·obtain⟨w2,z2⟩:=I.cell y T e;exact⟨w2,z2.sameBut f O⟩
  ·obtain⟨e,n,ne,W,d⟩:=I.pin p hp;refine⟨(f.2 p.1 ?_).trans e,n,ne,W,d⟩;intro q;rw[q,L]at e;have q':oc=p.2:=bYw e;exact d U (by rw[<- q'];exact P)
theorem aVS{M:Model}{A:bYO}{E:bYa->bYd->Prop}{i:Nat}{x:Str}{v:V}{u:bYa}{Q:Unit->bYd->Prop}(I:Inv X pins σ H s)(b:X.N.Nodup)(hi:X.N[i]? =some x)(c:Loc X.env.scope x)(r:zH v u) (h:∀s',Inv X pins (σ.set i (some v)) H s'->Q () s') (a:X.fn x=true\/X.env.scope.names.lookup x=some .local:=by first|exact .inl rfl|exact .inr rfl|assumption):bYi M A (storeName X.env x u) Q E s:=
 aQO I b hi c r (λs' d _=>h s' d) a
theorem Inv.call'{s':bYd}{ch:List Addr}(I:Inv X pins σ H s)(i:s'.os=s.os)(u:Un (frs X.stack) ch H H' s.heap s'.heap)(d:HOk X.prog X.w H' s'.heap)(j:AllBare s'.gens) (a:∀b∈ch,(b∈X.ex\/X.s₀.heap.objs.size<=b)/\b≠X.env.locals/\(∀x c,X.env.cells.lookup x=some c->c≠b)/\∀p∈X.pn++pins,p.1≠b):Inv X pins σ H' s':=by
 obtain⟨h',h,f,g,o'⟩:=s';have e:o'=s.os:=i;subst e;exact I.call (g':=h) (t':=g) (d':=f) u d j a
end
abbrev XK:=bYa->Option Addr->Hp->Prop
abbrev St:=List (Option V)
abbrev VK:=V->Hp->Prop
abbrev TE:=St->Hp->VK->Prop
abbrev TT:=St->Hp->(Bool->Hp->Prop)->Prop
abbrev TA:=St->Hp->(List V->Hp->Prop)->Prop
structure aKc where
 nx:St->Hp->Prop
 rt:VK
 bk:St->Hp->Prop:=λ_ _=>False
 ct:St->Hp->Prop:=λ_ _=>False
abbrev TS:=aKc->St->Hp->Prop
def EP(X:Cx)(pins:List (Addr×Obj))(σ:St)(Q:VK)(u:bYa)(s':bYd):Prop:=∃v H',Inv X pins σ H' s'/\zH v u/\Q v H'
def TP(X:Cx)(pins:List (Addr×Obj))(σ:St)(Q:Bool->Hp->Prop)(b:Bool)(s':bYd):Prop:=∃H',Inv X pins σ H' s'/\Q b H'
def AP(X:Cx)(pins:List (Addr×Obj))(σ:St)(Q:List V->Hp->Prop)(us:List bYa)(s':bYd):Prop:=∃a H',Inv X pins σ H' s'/\xV a us/\Q a H'
def SP(X:Cx)(pins:List (Addr×Obj))(D:aKc)(f:Flow)(s':bYd):Prop:=
 match f with
 |.next=>∃a H',Inv X pins a H' s'/\D.nx a H'
 |.brk=>∃a H',Inv X pins a H' s'/\D.bk a H'
 |.cont=>∃a H',Inv X pins a H' s'/\D.ct a H'
 |.ret u=>∃v a H',Inv X pins a H' s'/\zH v u/\D.rt v H'
def PE(X:Cx)(e:Expr)(t:TE):Prop:=
 ∀ (pins:List (Addr×Obj))(s:bYd)(σ:St)(H:Hp)(Q:VK),Inv X pins σ H s->t σ H Q->bYi (bYk X.prog X.w) X.A (eval e X.env) (EP X pins σ Q) X.xe s
def PT(X:Cx)(e:Expr)(t:TT):Prop:=
 ∀ (pins:List (Addr×Obj))(s:bYd)(σ:St)(H:Hp)(Q:Bool->Hp->Prop),Inv X pins σ H s->t σ H Q->bYi (bYk X.prog X.w) X.A (isTrue e X.env (eval e X.env)) (TP X pins σ Q) X.xe s
def PW(X:Cx)(e:Expr)(t:TT):Prop:=
 ∀ (a:Sem bYa)(pins:List (Addr×Obj))(s:bYd)(σ:St)(H:Hp)(Q:Bool->Hp->Prop),Inv X pins σ H s->t σ H Q->bYi (bYk X.prog X.w) X.A (isTrue e X.env a) (TP X pins σ Q) X.xe s
theorem PW.pt{X:Cx}{e:Expr}{t:TT}(h:PW X e t):PT X e t:=h _
def PA(X:Cx)(es:List Expr)(t:TA):Prop:=
 ∀ (pos:Pos)(pins:List (Addr×Obj))(s:bYd)(σ:St)(H:Hp)(Q:List V->Hp->Prop),Inv X pins σ H s->t σ H Q->bYi (bYk X.prog X.w) X.A (spliced (cQN pos (bYN es X.env))) (AP X pins σ Q) X.xe s
def PS(X:Cx)(st:Stmt)(t:TS):Prop:=
 ∀ (pins:List (Addr×Obj))(s:bYd)(σ:St)(H:Hp)(D:aKc),Inv X pins σ H s->t D σ H->bYi (bYk X.prog X.w) X.A (exec st X.env) (SP X pins D) X.xe s
def PSs(X:Cx)(st:List Stmt)(t:TS):Prop:=
 ∀ (pins:List (Addr×Obj))(s:bYd)(σ:St)(H:Hp)(D:aKc),Inv X pins σ H s->t D σ H->bYi (bYk X.prog X.w) X.A (execs st X.env) (SP X pins D) X.xe s
theorem thn{α:Type}{t:Sem α}{Q b:α->bYd->Prop}{M:Model}{A:bYO}{E:bYa->bYd->Prop}{s:bYd}(h:bYi M A t Q E s)(c:∀a s,Q a s->b a s):bYi M A t b E s:=cQc h c λ_ _ x=>x
end L2
namespace L2
open PySem PySem.Spec PyProof.Rows
section
variable {X:Cx}
theorem bin{a b:Expr}{ta tb:TE}(i:PE X a ta)(j:PE X b tb){pins:List (Addr×Obj)}{s:bYd}{σ:St}{H:Hp}{R:V->V->Hp->Prop}(I:Inv X pins σ H s)(h:ta σ H λx H1=>tb σ H1 λy H2=>R x y H2) {α:Type} {Q:α->bYd->Prop} {f:bYa->bYa->Sem α} (g:∀v u e x y H2,Inv X pins σ H2 e->zH x v->zH y u->R x y H2->bYi (bYk X.prog X.w) X.A (f v u) Q X.xe e): bYi (bYk X.prog X.w) X.A (eval a X.env) (λv d=>bYi (bYk X.prog X.w) X.A (eval b X.env) (λu c=>bYi (bYk X.prog X.w) X.A (f v u) Q X.xe c) X.xe d) X.xe s:=by
 refine thn (i pins s σ H _ I h) λv s1 ⟨x,H1,I1,r1,q1⟩=>?_;refine thn (j pins s1 σ H1 _ I1 q1) λu e ⟨y,H2,I2,r2,q2⟩=>?_;exact g v u e x y H2 I2 r1 r2 q2
def bVO(i:Nat):TE:=λσ H Q=>∃v,σ[i]? =some (some v)/\Q v H
def tC(v:V):TE:=λ_ H Q=>Q v H
theorem bZS{i:Nat}{x:Str}{pos:Pos}(j:X.N[i]? =some x)(n:Vis X.env.scope x)(f:(x==("__debug__":Str))=false:=by decide)(d:(x==("__classdict__":Str))=false:=by decide):PE X (.Name x pos) (bVO i):=by
 intro pins s σ H Q I h;obtain⟨v,e,h⟩:=h;obtain⟨m,k,hl⟩:=I.loc;obtain⟨u,r,l⟩:=hl i x v j e n;have fin:EP X pins σ Q u s:=⟨v,H,I,r,h⟩;rcases l with⟨b,o⟩|⟨b,c,g,a⟩
 ·exact wpAny_Name (wpAny_loadName_local I.ok.kind b k o fin) f
 ·rcases b with b|b
  ·exact wpAny_Name (wpAny_loadName_cell I.ok.kind b g a fin) f
  ·exact wpAny_Name (wpAny_loadName_free I.ok.kind b g a fin d) f
theorem yE{i j pos}:PE X (.Constant (.int i) j pos) (tC (.int i)):=λ_ _ _ H _ I h=>wpAny_Constant_int ⟨.int i,H,I.tok _,⟨_,rfl⟩,h⟩
theorem wO{b j pos}:PE X (.Constant (.bool b) j pos) (tC (.bl b)):=λ_ _ _ H _ I h=>Constant_bool ⟨.bl b,H,I,rfl,h⟩
theorem xY{j pos}:PE X (.Constant .none j pos) (tC .non):=λ_ _ _ H _ I h=>Constant_none ⟨.non,H,I,rfl,h⟩
theorem yQ{x j pos}:PE X (.Constant (.str x) j pos) (tC (.str x)):=λ_ _ _ H _ I h=>Calls.Constant_str ⟨.str x,H,I.tok _,⟨_,rfl⟩,h⟩
def Gl(X:Cx)(x:Str):Prop:=X.env.kindOf x=some .globalImplicit
theorem uK{E:bYa->bYd->Prop}{pins:List (Addr×Obj)}{s:bYd}{σ:St}{H:Hp}{x:Str}{u:bYa}{pos:Pos}{Q:bYa->bYd->Prop}(I:Inv X pins σ H s)(b:Gl X x)(a:X.mg x=some u)(h:Q u s) (c:(x==("__debug__":Str))=false:=by decide):bYi (bYk X.prog X.w) X.A (eval (.Name x pos) X.env) Q E s:=
 cJh I.ok.kind b (Calls.loadGlobal_global (by rw[I.ok.glob];exact I.mod.glob.keeps I.bk) a h) c
theorem aXa{E:bYa->bYd->Prop}{pins:List (Addr×Obj)}{s:bYd}{σ:St}{H:Hp}{x:Str}{u:bYa}{pos:Pos}{Q:bYa->bYd->Prop}(I:Inv X pins σ H s)(c:Gl X x)(e:X.mg x=none)(d:bYT x=some u)(h:Q u s) (b:x≠"__name__":=by decide) (a:(x==("__debug__":Str))=false:=by decide):bYi (bYk X.prog X.w) X.A (eval (.Name x pos) X.env) Q E s:=by
 obtain⟨f,h1,h2⟩:=I.mod.blt;exact cJh I.ok.kind c (Calls.loadGlobal_builtin (by rw[I.ok.glob];exact I.mod.glob.keeps I.bk) e (by rw[I.ok.blt];exact h1.keeps I.bk) ((h2 x b).trans d) h) a
theorem vX{x:Str}{v:V}{u:bYa}{pos:Pos}(b:Gl X x)(a:X.mg x=some u)(r:zH v u)(c:(x==("__debug__":Str))=false:=by decide):PE X (.Name x pos) (tC v):=
 λ_ _ _ H _ I h=>uK I b a ⟨v,H,I,r,h⟩ c
theorem zD{x:Str}{v:V}{u:bYa}{pos:Pos}(d:Gl X x)(b:X.mg x=none)(a:bYT x=some u)(r:zH v u)(c:x≠"__name__":=by decide)(e:(x==("__debug__":Str))=false:=by decide):PE X (.Name x pos) (tC v):=
 λ_ _ _ H _ I h=>aXa I d b a ⟨v,H,I,r,h⟩ c e
variable {a b:Expr}{ta tb:TE}{pos:Pos}
def PC(X:Cx)(op:CmpOp)(a b:Expr)(t:TE):Prop:=
 ∀ (pins:List (Addr×Obj))(s:bYd)(σ:St)(H:Hp)(Q:VK),Inv X pins σ H s->t σ H Q->
  bYi (bYk X.prog X.w) X.A (eval a X.env) (λv d=>bYi (bYk X.prog X.w) X.A (eval b X.env) (λu c=>bYi (bYk X.prog X.w) X.A (cQE op v u) (EP X pins σ Q) X.xe c) X.xe d) X.xe s
theorem bXb(b:Expr){op:CmpOp}(h:op≠ .In)(h2:op≠ .NotIn):cXZ op b=false:=by
 have c:(op==CmpOp.In)=false:=by cases op<;> first|rfl|exact absurd rfl h
 have a:(op==CmpOp.NotIn)=false:=by cases op<;> first|rfl|exact absurd rfl h2
 cases b<;> simp[cXZ,c,a]
def tB(t:TE):TT:=λσ H Q=>t σ H λx H1=>∃c,x= .bl c/\Q c H1
theorem bWF{op:CmpOp}{t:TE}(h:PC X op a b t)(h1:cXZ op b=false:=by first|exact bXb _ (by decide) (by decide)|rfl):PT X (.Compare a [op] [b] pos) (tB t):=by
 intro pins s σ H Q I hw;refine wpAny_isTrue_Compare1 (thn (h pins s σ H _ I hw) λv f h1=>thn h1 λu e h2=>thn h2 λc s3 ⟨x,H1,I1,r1,q1⟩=>?_) h1;obtain⟨d,rfl,q⟩:=q1;cases r1;exact cXb ⟨H1,I1,q⟩
theorem xP{e:Expr}{t:TE}(h:PE X e t)(b:∀a,isTrue e X.env a=(do let v <- a;standAt e.pos;cZs [v] (truthy v)):=by intro _;rfl):PT X e (tB t):=by
 intro pins s σ H Q I hw;refine isTrue_plain (thn (h pins s σ H _ I hw) λv s1 ⟨x,H1,I1,r1,q1⟩=>?_) (b _);obtain⟨d,rfl,q⟩:=q1;cases r1;exact cXb ⟨H1,I1,q⟩
variable {tA tB':TT}{jS:List Expr}
def bK3(t u:TT):TT:=λσ H Q=>t σ H λc H1=>if c=true then u σ H1 Q else Q false H1
def tOr(t u:TT):TT:=λσ H Q=>t σ H λc H1=>if c=true then Q true H1 else u σ H1 Q
def bK6(t:TT):TT:=λσ H Q=>t σ H λc H1=>Q (!c) H1
theorem wP(b:PT X a tA):PW X (.BoolOp .And [a] pos) tA:=by
 intro d pins s σ H Q I h;refine isTrue_and (thn (b pins s σ H Q I h) λc f e=>?_);cases c with
 |true=>exact isTrue_and_nil e
 |false=>exact e
theorem wM(b:PT X a tA):PW X (.BoolOp .Or [a] pos) tA:=by
 intro d pins s σ H Q I h;refine isTrue_or (thn (b pins s σ H Q I h) λc f e=>?_);cases c with
 |false=>exact isTrue_or_nil e
 |true=>exact e
theorem vJ(d:PT X a tA)(e:PW X (.BoolOp .And (b::jS) pos) tB'):PW X (.BoolOp .And (a::b::jS) pos) (bK3 tA tB'):=by
 intro f pins s σ H Q I h;refine isTrue_and (thn (d pins s σ H _ I h) λc s1 ⟨H1,I1,q1⟩=>?_);cases c with
 |true=>exact e f pins s1 σ H1 Q I1 q1
 |false=>exact⟨H1,I1,q1⟩
theorem vD(d:PT X a tA)(e:PW X (.BoolOp .Or (b::jS) pos) tB'):PW X (.BoolOp .Or (a::b::jS) pos) (tOr tA tB'):=by
 intro f pins s σ H Q I h;refine isTrue_or (thn (d pins s σ H _ I h) λc s1 ⟨H1,I1,q1⟩=>?_);cases c with
 |true=>exact⟨H1,I1,q1⟩
 |false=>exact e f pins s1 σ H1 Q I1 q1
theorem wA(b:PT X a tA):PT X (.UnaryOp .Not a pos) (bK6 tA):=by
 intro pins s σ H Q I h;exact isTrue_not (b pins s σ H (λc H1=>Q (!c) H1) I h)
def bKB(ta tb:TE):TE:=λσ H Q=>ta σ H λx H1=>∃c,x= .bl c/\if c=true then tb σ H1 Q else Q (.bl false) H1
def bK7(ta tb:TE):TE:=λσ H Q=>ta σ H λx H1=>∃c,x= .bl c/\if c=true then Q (.bl true) H1 else tb σ H1 Q
def bKC(ta:TE):TE:=λσ H Q=>ta σ H λx H1=>∃c,x= .bl c/\Q (.bl (!c)) H1
theorem aZB{op}{t:TE}(h:PE X a t):PE X (.BoolOp op [a] pos) t:=λpins s σ H Q I hw=>BoolOp_one (h pins s σ H Q I hw)
theorem aVt(e:PE X a ta)(f:PE X (.BoolOp .And (b::jS) pos) tb):PE X (.BoolOp .And (a::b::jS) pos) (bKB ta tb):=by
 intro pins s σ H Q I h;refine BoolOp_and (thn (e pins s σ H _ I h) λv s1 ⟨x,H1,I1,r1,d⟩=>?_);obtain⟨c,rfl,d⟩:=d;cases r1;refine cXb ?_;cases c with
 |true=>exact f pins s1 σ H1 Q I1 d
 |false=>exact⟨.bl false,H1,I1,rfl,d⟩
theorem bWB(e:PE X a ta)(f:PE X (.BoolOp .Or (b::jS) pos) tb):PE X (.BoolOp .Or (a::b::jS) pos) (bK7 ta tb):=by
 intro pins s σ H Q I h;refine BoolOp_or (thn (e pins s σ H _ I h) λv s1 ⟨x,H1,I1,r1,d⟩=>?_);obtain⟨c,rfl,d⟩:=d;cases r1;refine cXb ?_;cases c with
 |false=>exact f pins s1 σ H1 Q I1 d
 |true=>exact⟨.bl true,H1,I1,rfl,d⟩
theorem bZR(d:PE X a ta):PE X (.UnaryOp .Not a pos) (bKC ta):=by
 intro pins s σ H Q I h;refine UnaryOp_ (thn (d pins s σ H _ I h) λv s1 ⟨x,H1,I1,r1,b⟩=>?_);obtain⟨c,rfl,b⟩:=b;cases r1;exact not_of (cXb ⟨.bl (!c),H1,I1,rfl,b⟩)
def tIf(t:TT)(ta tb:TE):TE:=λσ H Q=>t σ H λc H1=>if c=true then ta σ H1 Q else tb σ H1 Q
theorem aVu{c:Expr}(g:PT X c tA)(e:PE X a ta)(f:PE X b tb):PE X (.IfExp c a b pos) (tIf tA ta tb):=by
 intro pins s σ H Q I h;refine wpAny_IfExp (thn (g pins s σ H _ I h) λd s1 ⟨H1,I1,q1⟩=>?_);cases d with
 |true=>exact e pins s1 σ H1 Q I1 q1
 |false=>exact f pins s1 σ H1 Q I1 q1
end
end L2
namespace L2
open PySem PySem.Spec PyProof.Rows
def SqL(K:bYc)(H:Hp)(a:Addr)(xs:List V):Prop:=
 Rd H a (.lst xs)\/
  ∃ (o:Obj)(b:Array bYa)(n:Nat),K.lookup a=some o/\o.cls= .type "list"/\o.dict=none/\o.data= .seq b n/\b.size<=bYB/\xV xs b.toList
def SqT(K:bYc)(H:Hp)(a:Addr)(xs:List V):Prop:=
 Rd H a (.tup xs)\/
  ∃ (o:Obj)(b:Array bYa)(n:Nat),K.lookup a=some o/\o.cls= .type "tuple"/\o.data= .seq b n/\b.size<=bYB/\xV xs b.toList
def bKT:bYa->Option V
 |.none=>some .non
 |.bool b=>some (.bl b)
 |.int i _=>some (.int i)
 |.str x _=>some (.str x)
 |.bytes b _=>some (.byt b)
 |.float b _=>some (.flt b)
 |.ref a=>some (.ref a)
 |.type n=>some (.ty n)
 |_=>none
theorem zH.abs{x:V}{u:bYa}(r:zH x u):bKT u=some x:=by
 cases x with
 |non=>cases r;rfl
 |bl _=>cases r;rfl
 |int _=>obtain⟨t,rfl⟩:=r;rfl
 |str _=>obtain⟨t,rfl⟩:=r;rfl
 |byt _=>obtain⟨t,rfl⟩:=r;rfl
 |flt _=>obtain⟨t,rfl⟩:=r;rfl
 |ref _=>cases r;rfl
 |ty _=>cases r;rfl
theorem zH.inj{x y:V}{u:bYa}(r:zH x u)(q:zH y u):x=y:=bYw (r.abs.symm.trans q.abs)
theorem xV.inj:∀ {xs ys:List V} {us:List bYa},xV xs us->xV ys us->xs=ys
 |_,_,_,.nil,.nil=>rfl
 |_,_,_,.cons r t,.cons r' t'=>by rw[r.inj r',xV.inj t t']
section
variable {X:Cx}{pins:List (Addr×Obj)}{σ:St}{H:Hp}{s:bYd}{a:Addr}{xs ys:List V}
theorem SqL.of{K:bYc}(h:H a=some (.lst xs)):SqL K H a xs:= .inl (.inl h)
theorem SqT.of{K:bYc}(h:H a=some (.tup xs)):SqT K H a xs:= .inl (.inl h)
theorem Inv.list(I:Inv X pins σ H s)(h:SqL X.K H a xs):∃b:List bYa,xV xs b/\PlainL s.heap a b.toArray/\xs.length<=bYB:=by
 rcases h with h|⟨o,b,n,d,g,c,f,i,r⟩
 ·obtain⟨z,b,n,r,e⟩:=h.ok I.hok;exact⟨b,r,⟨_,n,e,rfl,rfl,rfl⟩,z⟩
 ·refine⟨b.toList,r,⟨o,n,I.kIn a o d,g,c,by simpa using f⟩,?_⟩;have e:=r.length;simp only[cQv]at e;omega
theorem Inv.tuple(I:Inv X pins σ H s)(h:SqT X.K H a xs):∃b:List bYa,xV xs b/\cX6 s.heap a b.toArray/\xs.length<=bYB:=by
 rcases h with h|⟨o,b,n,c,f,d,g,r⟩
 ·obtain⟨z,b,r,p⟩:=h.ok I.hok;exact⟨b,r,p,z⟩
 ·refine⟨b.toList,r,⟨o,I.kIn a o c,f,n,by simpa using d⟩,?_⟩;have e:=r.length;simp only[cQv]at e;omega
theorem Inv.list_inj(I:Inv X pins σ H s)(h:SqL X.K H a xs)(h':SqL X.K H a ys):xs=ys:=by
 obtain⟨c,r,⟨o,n,e,_,_,d⟩,_⟩:=I.list h;obtain⟨b,i,⟨o',j,g,_,_,f⟩,_⟩:=I.list h';rw[e]at g;cases g;rw[d]at f;injection f with d1 _;have:c=b:=by simpa using congrArg Array.toList d1
 subst this;exact r.inj i
end
abbrev Cx.wish(X:Cx)(E:bYa->bYd->Prop):Cx:={X with xe:=E}
abbrev Cx.nox(X:Cx):Cx:=X.wish λ_ _=>False
theorem Cx.Ok.wish{X:Cx}(ok:X.Ok)(E:bYa->bYd->Prop):(X.wish E).Ok:=
 ⟨ok.mod,ok.kind,ok.glob,ok.blt,ok.above,ok.inj,ok.has,ok.cab,ok.hd,ok.frames,ok.stk,ok.exf,ok.bs,ok.bsz,ok.noex,ok.exfs,ok.funs,ok.frf⟩
theorem Cx.Ok.unwish{X:Cx}{E:bYa->bYd->Prop}(ok:(X.wish E).Ok):X.Ok:=
 ⟨ok.mod,ok.kind,ok.glob,ok.blt,ok.above,ok.inj,ok.has,ok.cab,ok.hd,ok.frames,ok.stk,ok.exf,ok.bs,ok.bsz,ok.noex,ok.exfs,ok.funs,ok.frf⟩
section
variable {X:Cx}{pins:List (Addr×Obj)}{σ:St}{H:Hp}{s:bYd}{E:bYa->bYd->Prop}
theorem Inv.wish(I:Inv X pins σ H s)(E:bYa->bYd->Prop):Inv (X.wish E) pins σ H s:=⟨I.ok.wish E,I.os,I.bare,I.base,I.loc,I.cell,I.free,I.freeC,I.pin,I.hok,I.len⟩
theorem Inv.unwish(I:Inv (X.wish E) pins σ H s):Inv X pins σ H s:=⟨I.ok.unwish,I.os,I.bare,I.base,I.loc,I.cell,I.free,I.freeC,I.pin,I.hok,I.len⟩
theorem SP.unwish{D:aKc}{f:Flow}{s':bYd}(h:SP (X.wish E) pins D f s'):SP X pins D f s':=by
 cases f with
 |next=>obtain⟨a,H',I,q⟩:=h;exact⟨a,H',I.unwish,q⟩
 |brk=>obtain⟨a,H',I,q⟩:=h;exact⟨a,H',I.unwish,q⟩
 |cont=>obtain⟨a,H',I,q⟩:=h;exact⟨a,H',I.unwish,q⟩
 |ret u=>obtain⟨v,a,H',I,r,q⟩:=h;exact⟨v,a,H',I.unwish,r,q⟩
theorem PSs.nox{st:List Stmt}{t:TS}(h:PSs X.nox st t):PSs X st t:=λpins s σ H D I hw=>
 cQc (h pins s σ H D (I.wish _) hw) (λ_ _ q=>q.unwish) λ_ _ z=>cQF z
end
section
variable {X:Cx}{st:Stmt}{jS:List Stmt}{t u:TS}{e:Expr}{te:TE}{pos:Pos}
def aW8:TS:=λD σ H=>D.nx σ H
def bKe(t u:TS):TS:=λD σ H=>t {D with nx:=u D} σ H
theorem yS:PSs X [] aW8:=λ_ _ σ H _ I h=>cZY ⟨σ,H,I,h⟩
theorem yC(h1:PS X st t)(h2:PSs X jS u):PSs X (st::jS) (bKe t u):=by
 intro pins s σ H D I h;refine wpAny_execs_cons (thn (h1 pins s σ H {D with nx:=u D} I h) λf c q=>?_);cases f with
 |next=>obtain⟨a,H',b,q⟩:=q;exact h2 pins c a H' D b q
 |ret v=>exact q
 |brk=>exact q
 |cont=>exact q
theorem yF(h1:PS X st t):PSs X [st] t:=by
 intro pins s σ H D I h;refine wpAny_execs_cons (thn (h1 pins s σ H D I h) λf a q=>?_);cases f with
 |next=>exact cZY q
 |ret v=>exact q
 |brk=>exact q
 |cont=>exact q
theorem Inv.quiet{pins:List (Addr×Obj)}{σ:St}{H:Hp}{s:bYd}(I:Inv X pins σ H s):interactive X.env=false:=by simp[interactive,I.ok.kind]
def bQr(te:TE):TS:=λD σ H=>te σ H λ_ H1=>D.nx σ H1
theorem yY(a:PE X e te)(b:swapsWith e none pos.line X.env=pure false:=by rfl):PS X (.Expr e pos) (bQr te):=by
 intro pins s σ H D I h;exact wpAny_Expr_any (thn (a pins s σ H _ I h) λv s1 ⟨x,H1,I1,r1,q1⟩=>⟨σ,H1,I1,q1⟩) I.quiet b
def bKO(te:TE):TS:=λD σ H=>te σ H D.rt
theorem yP(a:PE X e te):PS X (.Return (some e) pos) (bKO te):=by
 intro pins s σ H D I h;exact wpAny_Return_some (thn (a pins s σ H _ I h) λv s1 ⟨x,H1,I1,r1,q1⟩=>⟨x,σ,H1,I1,r1,q1⟩)
def bKd(c:TT)(t u:TS):TS:=λD σ H=>c σ H λb H1=>if b=true then t D σ H1 else u D σ H1
theorem y0{c:Expr}{a b:List Stmt}{tc:TT}(g:PT X c tc)(e:PSs X a t)(f:PSs X b u):PS X (.If c a b pos) (bKd tc t u):=by
 intro pins s σ H D I h;refine wpAny_If (thn (g pins s σ H _ I h) λd s1 ⟨H1,I1,q1⟩=>?_);cases d with
 |true=>exact e pins s1 σ H1 D I1 q1
 |false=>exact f pins s1 σ H1 D I1 q1
end
abbrev TG:=V->St->Hp->(St->Hp->Prop)->Prop
abbrev TGs:=List V->St->Hp->(St->Hp->Prop)->Prop
def PG(X:Cx)(a:Expr)(t:TG):Prop:=
 ∀ (pins:List (Addr×Obj))(s:bYd)(σ:St)(H:Hp)(v:V)(u:bYa)(Q:St->Hp->Prop),Inv X pins σ H s->zH v u->t v σ H Q->
  bYi (bYk X.prog X.w) X.A (assign a X.env u) (λ_ s'=>∃b H',Inv X pins b H' s'/\Q b H') X.xe s
def PGs(X:Cx)(d:List Expr)(t:TGs):Prop:=
 ∀ (pins:List (Addr×Obj))(s:bYd)(σ:St)(H:Hp)(b:List V)(c:List bYa)(Q:St->Hp->Prop),Inv X pins σ H s->xV b c->t b σ H Q->
  bYi (bYk X.prog X.w) X.A (assignInOrder ((cZU d X.env).map (·.2)) c) (λ_ s'=>∃a H',Inv X pins a H' s'/\Q a H') X.xe s
abbrev bKj:=V->V->V->Hp->(Hp->Prop)->Prop
def bKI(X:Cx)(t:bKj):Prop:=
 ∀ (pins:List (Addr×Obj))(s:bYd)(σ:St)(H:Hp)(o i v:V)(a b u:bYa)(Q:Hp->Prop),Inv X pins σ H s->zH o a->zH i b->zH v u->t o i v H Q->
  bYi (bYk X.prog X.w) X.A (setItem a b u) (λ_ s'=>∃H',Inv X pins σ H' s'/\Q H') X.xe s
section
variable {X:Cx}{pos:Pos}
def yW(i:Nat):TG:=λv σ H Q=>Q (σ.set i (some v)) H
theorem xB{i:Nat}{x:Str}(b:X.N.Nodup:=by exact ‹yO _ _ _›.nd)(hi:X.N[i]? =some x:=by rfl)(c:Loc X.env.scope x:=by first|exact Or.inl rfl|exact Or.inr rfl)(a:X.fn x=true\/X.env.scope.names.lookup x=some .local:=by first|exact .inl rfl|exact .inr rfl|assumption):PG X (.Name x pos) (yW i):=by
 intro pins s σ H v u Q I r h;exact wpAny_assign_Name (aVS I b hi c r (λs' d=>⟨_,H,d,h⟩) a)
def bKU:TGs:=λa σ H Q=>a= []/\Q σ H
def bKo(t:TG)(u:TGs):TGs:=λb σ H Q=>∃v r,b=v::r/\t v σ H λa H'=>u r a H' Q
theorem aJB:PGs X [] bKU:=by
 intro pins s σ H a b Q I r h;obtain⟨e,h⟩:=h;subst e;cases r;exact assignInOrder_nil ⟨σ,H,I,h⟩
theorem zS{e:Expr}{es:List Expr}{t:TG}{u:TGs}(h1:PG X e t)(h2:PGs X es u) (c:(cZU (e::es) X.env).map (·.2)=assign e X.env::(cZU es X.env).map (·.2):=by rfl):PGs X (e::es) (bKo t u):=by
 intro pins s σ H d f Q I r h;obtain⟨v,g,a,h⟩:=h;subst a;cases r with
 |cons r b=>rw[c];refine assignInOrder_cons (thn (h1 pins s σ H _ _ _ I r h) λ_ s1 ⟨σ1,H1,I1,q1⟩=>?_);exact h2 pins s1 σ1 H1 _ _ Q I1 b q1
def bKW(K:bYc)(n:Nat)(t:TGs):TG:=λv σ H Q=>∃a xs,v= .ref a/\SqT K H a xs/\xs.length=n/\t xs σ H Q
theorem aYp{es:List Expr}{k:Nat}{t:TGs}{n:Nat}(j:X.calm=true)(h:PGs X es t) (l:(cZU es X.env).length=n:=by rfl) (c:(cZU es X.env).findIdx? (·.1)=none:=by rfl):PG X (.Tuple es k pos) (bKW X.K n t):=by
 intro pins s σ H v u Q I r hw;obtain⟨a,xs,g,q,hl,hw⟩:=hw;subst g;cases r;obtain⟨i,d,f,w⟩:=I.tuple q;refine assign_Tuple_tuple (I.ok.hd j) f (by simp[l,<- hl,d.length]) c λh' p=>?_;have m:Inv X pins σ H {s with heap:=h'}:=I.kept (t':=s.toks) λb o e=>p b o (bYA (bYo e)) e;exact h pins _ σ H xs _ Q m (by simpa using d) hw
def bKV(to b:TE)(t:bKj):TG:=λv σ H Q=>to σ H λo H1=>b σ H1 λi H2=>t o i v H2 λa=>Q σ a
theorem qO{o i:Expr}{to a:TE}{t:bKj}(c:PE X o to)(hi:PE X i a)(b:bKI X t)
  (d:∀v,assign (.Subscript o i pos) X.env v=(do
   let ov <- cZs [v] (eval o X.env)
   let iv <- cZs [v,ov] (eval i X.env)
   standAt pos
   cZs [v,ov,iv] (setItem ov iv v)
   release [v,ov,iv] []):=by intro _;rfl):PG X (.Subscript o i pos) (bKV to a t):=by
 intro pins s σ H v u Q I r h
 rw[d]
 refine bYb (cQs (thn (c pins s σ H _ I h) λov s1 ⟨x,H1,I1,r1,q1⟩=>?_))
 refine bYb (cQs (thn (hi pins s1 σ H1 _ I1 q1) λiv s2 ⟨y,H2,I2,r2,q2⟩=>?_))
 refine bYb (cZI (bYb (cQs (thn (b pins s2 σ H2 x y v ov iv u _ I2 r1 r2 r q2) λ_ s3 ⟨H3,I3,q3⟩=>?_))))
 exact wpAny_release ⟨σ,H3,I3,q3⟩
def bKc(te:TE)(g:TG):TS:=λD σ H=>te σ H λx H1=>g x σ H1 D.nx
theorem v8{tg e:Expr}{te:TE}{g:TG}(c:PE X e te)(a:PG X tg g)(b:swapsWithSole [tg] e pos.line X.env=pure false:=by rfl)(hw:swappedStores [tg] e X.env=pure none:=by rfl)
  (h1:(cZU [tg] X.env).map (·.2)= [assign tg X.env]:=by rfl):PS X (.Assign [tg] e pos) (bKc te g):=by
 intro pins s σ H D I h
 refine wpAny_Assign_stores (thn (c pins s σ H _ I h) λv s1 ⟨x,H1,I1,r1,q1⟩=>?_) b hw
 rw[h1]
 exact thn (a pins s1 σ H1 x v _ I1 r1 q1) λ_ d q=>q
theorem yU{i:Nat}{x:Str}{e:Expr}{te:TE}{pos':Pos}(d:PE X e te)(a:X.N.Nodup:=by exact ‹yO _ _ _›.nd)(hi:X.N[i]? =some x:=by rfl)(g:Loc X.env.scope x:=by first|exact Or.inl rfl|exact Or.inr rfl)(b:swapsWith e (some (.Name x pos')) pos.line X.env=pure false:=by rfl)(c:X.fn x=true\/X.env.scope.names.lookup x=some .local:=by first|exact .inl rfl|exact .inr rfl|assumption):
  PS X (.Assign [.Name x pos'] e pos) (bKc te (yW i)):=by
 intro pins s σ H D I h
 refine wpAny_Assign_Name (thn (d pins s σ H _ I h) λv s1 ⟨y,H1,I1,r1,q1⟩=>?_) b
 exact aVS I1 a hi g r1 (λj f=>⟨_,H1,f,q1⟩) c
end
section
variable {X:Cx}{pos:Pos}
def bWZ(c:TT)(tb:TS):TS:=λD σ H=>∃W:Nat->St->Hp->Prop,(∃m,W m σ H)/\∀m σ H,W m σ H->
 c σ H λb H1=>if b=true then ∃N:St->Hp->Prop,(∀a H',N a H'->∃d,d<m/\W d a H')/\tb {D with nx:=N,ct:=N,bk:=D.nx} σ H1 else D.nx σ H1
theorem u4{c:Expr}{body:List Stmt}{tc:TT}{tb:TS}(r:PassesOwn (bYk X.prog X.w) X.A X.env X.xe)(u:PT X c tc)(B:PSs X body tb):PS X (.While c body [] pos) (bWZ tc tb):=by
 intro pins s σ H D I h;obtain⟨W,⟨y,t⟩,turn⟩:=h;refine wpAny_While (codeAny_whileLoop (λn s'=>∃g H',Inv X pins g H' s'/\W n g H') ?_ y ⟨σ,H,I,t⟩);rintro n C ⟨d,H1,z,x⟩;refine cXB r (thn (u pins C d H1 _ z (turn n d H1 x)) λb s2 ⟨H2,I2,i⟩=>?_);cases b with
 |true=>
  obtain⟨N,q,i⟩:=i;rw[if_pos rfl];refine cXB r (thn (B pins s2 d H2 _ I2 i) λf E j=>?_);cases f with
  |next=>obtain⟨a,e,k,m⟩:=j;obtain⟨o,p,l⟩:=q a e m;exact⟨o,p,a,e,k,l⟩
  |cont=>obtain⟨a,e,k,m⟩:=j;obtain⟨o,p,l⟩:=q a e m;exact⟨o,p,a,e,k,l⟩
  |brk=>exact j
  |ret v=>exact j
 |false=>rw[if_neg Bool.false_ne_true];exact cZY ⟨d,H2,I2,i⟩
end
structure It where
 go:Nat->Hp->Prop
 yld:Nat->Hp->V->Hp->Prop
 stop:Nat->Hp->Prop
def bZv(X:Cx)(pins:List (Addr×Obj))(H:Hp)(b:Addr):Prop:=
 H b=none/\b≠X.env.locals/\b∉X.fs/\(b∈X.ex\/X.s₀.heap.objs.size<=b)/\(∀x c,X.env.cells.lookup x=some c->c≠b)/\∀p∈X.pn++pins,p.1≠b
theorem Inv.fpOk{X:Cx}{pins:List (Addr×Obj)}{σ:St}{H H':Hp}{s:bYd}{b:Addr}(I:Inv X pins σ H s)(a:s.heap.objs.size<=b)(f:H' b=none):bZv X pins H' b:=by
 refine⟨f,cXP (bYC I.lt a),I.nofs a,.inr (bYQ I.sz a),λx c e z=>?_,λp d z=>?_⟩
 ·obtain⟨v,q⟩:=I.cell x c e;exact absurd (bYC q.lt (by rw[z];exact a)) (cQi _)
 ·exact absurd (bYC (bYo (I.pin p d).1) (by rw[z];exact a)) (cQi _)
structure bW6(P:bYx)(w:bYD)(K:bYc)(tg:Expr)(J:It)(fp:List Addr)(it:Addr)(tn:Nat->Heap->Prop):Prop where
 mem:it∈fp
 obj:∀i h,tn i h->∀b∈fp,∃o,h.get? b=some o/\∀v,o.data≠ .cell v
 keep:∀i h h',tn i h->(∀b∈fp,∀o,h.get? b=some o->h'.get? b=some o)->tn i h'
 item:∀ (X:Cx),X.prog=P->X.w=w->X.K=K->X.calm=true->∀ (i:Nat)(pins:List (Addr×Obj))(s:bYd)(σ:St)(H:Hp)(E:bYa->bYd->Prop),Inv X pins σ H s->(∀b∈fp,bZv X pins H b)->tn i s.heap->J.go i H->
  bYi (bYk P w) X.A (pyNext (.ref it)) (λr s1=>∃u,r=some u/\
   bYi (bYk P w) X.A (cZX tg (.ref it) u) (λ_ s2=>∃x H',Inv X pins σ H' s2/\zH x u/\J.yld i H x H'/\tn (i+1) s2.heap/\∀b∈fp,H' b=none) E s1) E s
 done:∀ (X:Cx),X.prog=P->X.w=w->X.K=K->X.calm=true->∀ (i:Nat)(pins:List (Addr×Obj))(s:bYd)(σ:St)(H:Hp)(E:bYa->bYd->Prop),Inv X pins σ H s->(∀b∈fp,bZv X pins H b)->tn i s.heap->J.stop i H->
  bYi (bYk P w) X.A (pyNext (.ref it)) (λr s1=>r=none/\Inv X pins σ H s1) E s
 self:∀ (A:bYO)(i:Nat)(s:bYd)(Q:bYa->bYd->Prop)(E:bYa->bYd->Prop),tn i s.heap->Q (.ref it) s->bYi (bYk P w) A (pyIter (.ref it)) Q E s
abbrev TI:=St->Hp->(It->Hp->Prop)->Prop
def PIE(X:Cx)(pins:List (Addr×Obj))(σ:St)(tg:Expr)(R:It->Hp->Prop)(a:bYa)(d:bYd):Prop:=
 ∃ (c:Addr)(e:List Addr)(tn:Nat->Heap->Prop)(J:It)(H':Hp),a= .ref c/\Inv X pins σ H' d/\bW6 X.prog X.w X.K tg J e c tn/\tn 0 d.heap/\(∀b∈e,bZv X pins H' b)/\R J H'
def PI(X:Cx)(tg a:Expr)(b:TI):Prop:=
 ∀ (pins:List (Addr×Obj))(s:bYd)(σ:St)(H:Hp)(R:It->Hp->Prop),Inv X pins σ H s->b σ H R->
  bYi (bYk X.prog X.w) X.A (eval a X.env) (λv c=>bYi (bYk X.prog X.w) X.A (pyIter v) (PIE X pins σ tg R) X.xe c) X.xe s
theorem bWg{M:Model}{A:bYO}{E:bYa->bYd->Prop}{s:bYd}{tg:Expr}{it:Addr}{u:bYa}{o:Obj}{n:String}{vs:Array bYa}{Q:Unit->bYd->Prop}(d:s.heap.get? it=some o)(e:o.cls= .type n)(b:o.data= .fields vs) (c: ["enumerate","zip","dict_itemiterator","dict_reverseitemiterator","odict_iterator","itertools.zip_longest","itertools.pairwise"].contains n=false) (a:Q () s):bYi M A (cZX tg (.ref it) u) Q E s:=by
 unfold cZX;cases tg<;> first
  |exact bYg a
  |(cases u<;> first
    |exact bYg a
    |(refine bYb (wpAny_load d ?_)
      rw[e,b]
      show bYi M A (if(["enumerate","zip","dict_itemiterator","dict_reverseitemiterator","odict_iterator","itertools.zip_longest","itertools.pairwise"].contains n && vs[0]? ==some (cQq _))=true then _ else _) Q E s
      rw[if_neg (by intro h;rw[c,Bool.false_and]at h;cases h)]
      exact bYg a))
def Itl(K:bYc)(a:Addr):It:=
 ⟨λi H=>∃xs x,SqL K H a xs/\xs[i]? =some x,λi H x H'=>H'=H/\∀xs,SqL K H a xs->xs[i]? =some x,λi H=>∃xs,SqL K H a xs/\xs.length<=i⟩
def Itr(lo:Int)(n:Nat):It:=⟨λi _=>i<n,λi H x H'=>H'=H/\x= .int (lo+i),λi _=>n<=i⟩
theorem bQv{P:bYx}{w:bYD}{K:bYc}{tg:Expr}(a it:Addr):bW6 P w K tg (Itl K a) [it] it (λi h=>h.IsListIter it a i) where
 mem:=by simp
 obj:=λi h st b hb=>by
  have e:b=it:=by simpa using hb
  subst e
  obtain⟨o,e,c,d⟩:=st
  exact⟨o,e,λv z=>by rw[d]at z;cases z⟩
 keep:=λi h h' st k=>st.at λo e=>k it (by simp) o e
 item:=by
  intro X hP hw hK hc i pins s σ H E I hf st hg
  subst hP hw hK
  obtain⟨xs,x,hq,hx⟩:=hg
  obtain⟨its,rv,p,hz⟩:=I.list hq
  obtain⟨u,hu,ru⟩:=rv.get hx
  obtain⟨f0,f1,f2,f3,f4,f5⟩:=hf it (by simp)
  refine wpAny_pyNext_list_item st p.isList (x:=u) (by simpa using hu) λh' st' sb=>?_
  have I1:Inv X pins σ H {s with heap:=h'}:=I.turned (t':=s.toks) (λb o hb e=>(sb.2 b hb).trans e) f0 f1 f3 f4 f5
  obtain⟨o,e,c,d⟩:=id st'
  exact⟨u,rfl,bWg (s:={s with heap:=h'}) e c d (by decide) ⟨x,H,I1,ru,⟨rfl,λys hy=>by rw[I.list_inj hy hq];exact hx⟩,st',λb hb=>(hf b hb).1⟩⟩
 done:=by
  intro X hP hw hK hc i pins s σ H E I hf st hg
  subst hP hw hK
  obtain⟨xs,hq,hx⟩:=hg
  obtain⟨its,rv,p,hz⟩:=I.list hq
  obtain⟨f0,f1,f2,f3,f4,f5⟩:=hf it (by simp)
  have hl:=rv.length
  exact wpAny_pyNext_list_end (I.ok.hd hc) st p.isList (by simp;omega) λh' eb=>⟨rfl,I.turned (t':=s.toks) (λb o hb e=>eb b o hb e) f0 f1 f3 f4 f5⟩
 self:=λ_ _ _ _ _ st h=>wpAny_pyIter_listiter st h
theorem aKa{P:bYx}{w:bYD}{K:bYc}{tg:Expr}(it:Addr)(lo:Int)(n:Nat):bW6 P w K tg (Itr lo n) [it] it (λi h=>IsRangeIter h it (lo+(i:Nat)*1) ((n:Int) - (i:Nat)) 1) where
 mem:=by simp
 obj:=λi h st b hb=>by
  have e:b=it:=by simpa using hb
  subst e
  exact⟨_,st,λv z=>by
   have z':Data.fields _=Data.cell v:=z
   cases z'⟩
 keep:=λi h h' st k=>k it (by simp) _ st
 item:=by
  intro X hP hw hK hc i pins s σ H E I hf st hg
  subst hP hw hK
  obtain⟨f0,f1,f2,f3,f4,f5⟩:=hf it (by simp)
  have W:=Walks.range (prog:=X.prog) (w:=X.w) (I.ok.hd hc) it lo 1 n
  refine W.item i s _ _ hg st λv h' tk hv st' kk=>?_
  obtain⟨t,rfl⟩:=hv
  have I1:Inv X pins σ H {s with heap:=h',toks:=tk}:=I.turned (λb o hb e=>kk b o (by simpa using hb) e) f0 f1 f3 f4 f5
  refine⟨_,rfl,bWg (s:={s with heap:=h',toks:=tk}) (n:="range_iterator") st' rfl rfl (by decide) ⟨.int (lo+i),H,I1,⟨t,?_⟩,⟨rfl,rfl⟩,st',λb hb=>(hf b hb).1⟩⟩
  rw[Int.mul_one]
 done:=by
  intro X hP hw hK hc i pins s σ H E I hf st hg
  subst hP hw hK
  obtain⟨f0,f1,f2,f3,f4,f5⟩:=hf it (by simp)
  exact wpAny_pyNext_range_end (I.ok.hd hc) st (by have:n<=i:=hg;omega) λh' eb=>⟨rfl,I.turned (t':=s.toks) (λb o hb e=>eb b o hb e) f0 f1 f3 f4 f5⟩
 self:=λ_ _ _ _ _ st h=>wpAny_pyIter_rangeiter st h
end L2
namespace L2
open PySem PySem.Spec PyProof.Rows
section
variable {X:Cx}{tg:Expr}
def bKp(K:bYc)(tl:TE):TI:=λσ H R=>tl σ H λx H1=>∃a,x= .ref a/\(∃xs,SqL K H1 a xs)/\R (Itl K a) H1
theorem xN{l:Expr}{tl:TE}(hl:PE X l tl):PI X tg l (bKp X.K tl):=by
 intro pins s σ H R I h;refine thn (hl pins s σ H _ I h) λv s1 ⟨x,H1,I1,r1,q1⟩=>?_;obtain⟨a,e,⟨xs,f⟩,q⟩:=q1;subst e;cases r1;obtain⟨c,i,p,g⟩:=I1.list f;refine cJp p.isList ?_;refine⟨s1.heap.objs.size,[s1.heap.objs.size],_,_,H1,rfl,I1.kept (t':=s1.toks) λb o e=>bYf _ e,bQv a _,⟨_,bYE _ rfl,rfl,rfl⟩,λb d=>?_,q⟩;have e:b=s1.heap.objs.size:=by simpa using d
 subst e;exact I1.fpOk (bYh _) (I1.hok.fresh (bYh _))
theorem bXG{pins:List (Addr×Obj)}{σ:St}{H:Hp}{s:bYd}{R:It->Hp->Prop}{E:bYa->bYd->Prop}{lo hi:Int}{t u v:Tok}{tk:Nat}(I:Inv X pins σ H s)(h1: -(2 ^ 62)<=lo)(h2:lo<2 ^ 62)(f: -(2 ^ 62)<=hi)(h:hi<2 ^ 62) (q:R (Itr lo (hi - lo).toNat) H):bYi (bYk X.prog X.w) X.A (pyIter (.ref s.heap.objs.size)) (PIE X pins σ tg R) E {s with heap:=s.heap.push {cls:= .type "range",data:= .fields #[.int lo t,.int hi u,.int 1 v] },toks:=tk}:=by
 refine wpAny_pyIter_range (IsRange.new ..) (small_one h1 h2 f h) ?_;have a:Inv X pins σ H {s with heap:=s.heap.push {cls:= .type "range",data:= .fields #[.int lo t,.int hi u,.int 1 v] },toks:=tk}:=I.kept λb o e=>bYf _ e;refine⟨(s.heap.push {cls:= .type "range",data:= .fields #[.int lo t,.int hi u,.int 1 v] }).objs.size,[(s.heap.push {cls:= .type "range",data:= .fields #[.int lo t,.int hi u,.int 1 v] }).objs.size],_,_,H,rfl,a.kept (t':=tk) λb o e=>bYf _ e,aKa _ lo (hi - lo).toNat,?_,λb g=>?_,q⟩
 ·have d:lo+((0:Nat):Int)*1=lo:=by simp
  have c:(((hi - lo).toNat:Nat):Int) - ((0:Nat):Int)=Builtin.Range.rangeSize lo hi 1:=by rw[rangeSize_one];split<;> omega
  show IsRangeIter _ _ (lo+((0:Nat):Int)*1) ((((hi - lo).toNat:Nat):Int) - ((0:Nat):Int)) 1;rw[d,c];exact bYE _ rfl
 ·have e:b=(s.heap.push {cls:= .type "range",data:= .fields #[.int lo t,.int hi u,.int 1 v] }).objs.size:=by simpa using g
  subst e;exact a.fpOk (bYh _) (a.hok.fresh (bYh _))
def bKq(ta:TA):TI:=λσ H R=>ta σ H λa H1=>∃j:Int,a= [.int j]/\ -(2 ^ 62)<=j/\j<2 ^ 62/\R (Itr 0 j.toNat) H1
theorem xW{a:Expr}{ta:TA}{p pos:Pos}(d:Gl X "range")(k:X.mg "range"=none)(i:PA X [a] ta)(f:bYN [a] X.env= [(false,eval a X.env)]:=by rfl):PI X tg (.Call (.Name "range" p) [a] [] pos) (bKq ta):=by
 intro pins s σ H R I h;refine Call_ (aXa I d k boot_range (cZd (thn (i pos pins s σ H _ I h) λus s1 ⟨vs,H1,I1,r1,b⟩=>?_) f rfl));obtain⟨j,e,b,g,q⟩:=b;subst e;cases r1 with
 |cons r c=>cases c;obtain⟨t,rfl⟩:=r;exact call_range_1 (bXG I1 (by omega) (by omega) b g (by simpa using q))
def bK5(d:TI)(g:TG)(tb:TS):TS:=λD σ H=>d σ H λJ H1=>∃W:Nat->Nat->St->Hp->Prop,(∃m,W 0 m σ H1)/\∀i m σ H,W i m σ H->
 (J.stop i H/\D.nx σ H)\/(J.go i H/\∃N:St->Hp->Prop,(∀a H',N a H'->∃c,c<m/\W (i+1) c a H')/\∀x H',J.yld i H x H'->g x σ H' λb H2=>tb {D with nx:=N,ct:=N,bk:=D.nx} b H2)
def aZD(a:List Addr)(h:Heap):List (Addr×Obj):=a.filterMap λb=>(h.get? b).map λo=>(b,o)
theorem uY{a:List Addr}{h:Heap}{b:Addr}{o:Obj}(c:b∈a)(e:h.get? b=some o):(b,o)∈aZD a h:=List.mem_filterMap.mpr ⟨b,c,by rw[e];rfl⟩
theorem aK3{a:List Addr}{h:Heap}{p:Addr×Obj}(d:p∈aZD a h):p.1∈a/\h.get? p.1=some p.2:=by
 obtain⟨b,f,e⟩:=List.mem_filterMap.mp d;cases q:h.get? b with
 |none=>rw[q]at e;cases e
 |some o=>rw[q]at e;have c:(b,o)=p:=bYw e;subst c;exact⟨f,q⟩
theorem Inv.pinned{pins:List (Addr×Obj)}{σ:St}{H:Hp}{s:bYd}{a:List Addr}(I:Inv X pins σ H s)(h:∀b∈a,bZv X pins H b)(j:∀b∈a,∃o,s.heap.get? b=some o/\∀v,o.data≠ .cell v):Inv X (pins++aZD a s.heap) σ H s:=
 I.pins_of λp k=>(bYP.mp k).elim (λz=>I.pin p (bYz _ z)) λz=>by obtain⟨f,e⟩:=aK3 z;obtain⟨g,l,i,_⟩:=h p.1 f;obtain⟨o,c,d⟩:=j p.1 f;rw[e]at c;cases c;exact⟨e,g,l,i,d⟩
theorem Inv.unpinned{pins pl:List (Addr×Obj)}{σ:St}{H:Hp}{s:bYd}(I:Inv X (pins++pl) σ H s):Inv X pins σ H s:=I.pins_of λp a=>I.pin p (bYz _ (cXk _ a))
theorem zL{t:Expr}{body:List Stmt}{Q:TI}{g:TG}{tb:TS}{pos:Pos}(K:PassesOwn (bYk X.prog X.w) X.A X.env X.xe)(S:X.calm=true)(hi:PI X tg t Q)(hg:PG X tg g)(q:PSs X body tb) (hs:∀x,cJo t X.env x=pure x:=by intro _;rfl):PS X (.For tg t body [] pos) (bK5 Q g tb):=by
 intro pins s σ H D I h;refine wpAny_For (thn (hi pins s σ H _ I h) λv s1 h1=>thn h1 λa0 s2 h2=>?_) hs;obtain⟨it,G,tn,J,H2,e,I2,T,M,V,W,⟨m0,w0⟩,turn⟩:=h2;subst e;have j:∀ {H':Hp},(∀b∈G,H' b=none)->∀b∈G,bZv X pins H' b:=λhn b q=>⟨hn b q,(V b q).2⟩;refine codeAny_forLoop_any (λn s'=>∃i k H',Inv X pins k H' s'/\tn i s'.heap/\(∀b∈G,H' b=none)/\W i n k H') ?_ m0 ⟨0,σ,H2,I2,M,λb q=>(V b q).1,w0⟩;rintro n R ⟨i,p,L,U,E,B,Z⟩;rcases turn i n p L Z with⟨C,qn⟩|⟨go,N,hN,step⟩
 ·refine cXB K (thn (T.done X rfl rfl rfl S i pins R p L X.xe U (j B) E C) λr s4 ⟨hr,I4⟩=>?_);subst hr;exact cZY ⟨p,L,I4,qn⟩
 ·refine cXB K (thn (T.item X rfl rfl rfl S i pins R p L X.xe U (j B) E go) λr s4 ⟨u,hr,h4⟩=>?_);subst hr;refine cXB K (thn h4 λ_ s5 ⟨x,H5,I5,r5,y5,st5,fr5⟩=>?_);have P:=I5.pinned (j fr5) (T.obj _ _ st5);refine cXB K (thn (hg _ s5 p H5 x u _ P r5 (step x H5 y5)) λ_ s6 ⟨σ6,H6,I6,q6⟩=>?_);refine cXB K (thn (q _ s6 σ6 H6 _ I6 q6) λf O z=>?_);have l:∀ {a:St} {y:Hp},Inv X (pins++aZD G s5.heap) a y O->N a y->∃m,m<n/\∃i k H',Inv X pins k H' O/\tn i O.heap/\(∀b∈G,H' b=none)/\W i m k H':=λ{a y} c F=>by
   obtain⟨m',hm,Y⟩:=hN a y F;refine⟨m',hm,i+1,a,y,c.unpinned,T.keep _ _ _ st5 λb q o e=>(c.pin (b,o) (bYz _ (bYz _ (uY q e)))).1,λb q=>?_,Y⟩;obtain⟨o,e,d⟩:=T.obj _ _ st5 b q;exact(c.pin (b,o) (bYz _ (bYz _ (uY q e)))).2.1
  cases f with
  |next=>obtain⟨a,y,c,F⟩:=z;exact l c F
  |cont=>obtain⟨a,y,c,F⟩:=z;exact l c F
  |brk=>obtain⟨a,y,c,z⟩:=z;exact⟨a,y,c.unpinned,z⟩
  |ret v=>obtain⟨x7,a,y,c,r7,z⟩:=z;exact⟨x7,a,y,c.unpinned,r7,z⟩
end
theorem zM{K:bYc}{a:Addr}{xs:List V}{g:TG}{tb:TS}{D:aKc}{σ:St}{H:Hp}(b:Nat->St->Hp->Prop)(h0:b 0 σ H)(hl:∀i σ H,i<=xs.length->b i σ H->SqL K H a xs) (k:∀i x σ H,xs[i]? =some x->b i σ H->g x σ H λc H2=>tb {D with nx:=b (i+1),ct:=b (i+1),bk:=D.nx} c H2) (j:∀σ H,b xs.length σ H->D.nx σ H): ∃W:Nat->Nat->St->Hp->Prop,(∃m,W 0 m σ H)/\∀i m σ H,W i m σ H-> ((Itl K a).stop i H/\D.nx σ H)\/((Itl K a).go i H/\∃N:St->Hp->Prop,(∀d H',N d H'->∃h,h<m/\W (i+1) h d H')/\∀x H',(Itl K a).yld i H x H'->g x σ H' λc H2=>tb {D with nx:=N,ct:=N,bk:=D.nx} c H2):=by
 refine⟨λi m σ H=>m=xs.length - i/\i<=xs.length/\b i σ H,⟨xs.length,by simp,bY7 _,h0⟩,?_⟩;rintro i m σ H ⟨rfl,hi,p⟩;have q:=hl i σ H hi p;by_cases f:i<xs.length
 ·refine .inr ⟨⟨xs,xs[i],q,by simp[f]⟩,b (i+1),λd H' l=>⟨xs.length - (i+1),by omega,rfl,f,l⟩,λx H' y=>?_⟩;obtain⟨e,y⟩:=y;subst e;exact k i x σ _ (y xs q) p
 ·have e:i=xs.length:=by omega
  subst e;exact .inl ⟨⟨xs,q,bYh _⟩,j σ H p⟩
theorem zK{lo:Int}{n:Nat}{g:TG}{tb:TS}{D:aKc}{σ:St}{H:Hp}(a:Nat->St->Hp->Prop)(h0:a 0 σ H) (j:∀i σ H,i<n->a i σ H->g (.int (lo+i)) σ H λb H2=>tb {D with nx:=a (i+1),ct:=a (i+1),bk:=D.nx} b H2) (h:∀σ H,a n σ H->D.nx σ H): ∃W:Nat->Nat->St->Hp->Prop,(∃m,W 0 m σ H)/\∀i m σ H,W i m σ H-> ((Itr lo n).stop i H/\D.nx σ H)\/((Itr lo n).go i H/\∃N:St->Hp->Prop,(∀d H',N d H'->∃f,f<m/\W (i+1) f d H')/\∀x H',(Itr lo n).yld i H x H'->g x σ H' λb H2=>tb {D with nx:=N,ct:=N,bk:=D.nx} b H2):=by
 refine⟨λi m σ H=>m=n - i/\i<=n/\a i σ H,⟨n,by simp,bY7 _,h0⟩,?_⟩;rintro i m σ H ⟨rfl,hi,p⟩;by_cases c:i<n
 ·refine .inr ⟨c,a (i+1),λd H' k=>⟨n - (i+1),by omega,rfl,c,k⟩,λx H' y=>?_⟩;obtain⟨e,y⟩:=y;subst e y;exact j i σ _ c p
 ·have e:i=n:=by omega
  subst e;exact .inl ⟨bYh _,h σ H p⟩
end L2
namespace L2
open PySem PySem.Spec PyProof.Rows
abbrev R2:=V->V->Hp->VK->Prop
def OpR(X:Cx)(f:bYa->bYa->Sem bYa)(r:R2):Prop:=
 ∀ (pins:List (Addr×Obj))(s:bYd)(σ:St)(H:Hp)(x y:V)(v u:bYa)(Q:VK),Inv X pins σ H s->zH x v->zH y u->r x y H Q->
  bYi (bYk X.prog X.w) X.A (f v u) (EP X pins σ Q) X.xe s
def UnR(X:Cx)(f:bYa->Sem bYa)(r:V->Hp->VK->Prop):Prop:=
 ∀ (pins:List (Addr×Obj))(s:bYd)(σ:St)(H:Hp)(x:V)(v:bYa)(Q:VK),Inv X pins σ H s->zH x v->r x H Q->
  bYi (bYk X.prog X.w) X.A (f v) (EP X pins σ Q) X.xe s
def jM(X:Cx)(f:bYa)(r:List V->Hp->VK->Prop):Prop:=
 ∀ (pins:List (Addr×Obj))(s:bYd)(σ:St)(H:Hp)(xs:List V)(a:List bYa)(Q:VK),Inv X pins σ H s->xV xs a->r xs H Q->
  bYi (bYk X.prog X.w) X.A (call f a) (EP X pins σ Q) X.xe s
def tOp(r:R2)(ta tb:TE):TE:=λσ H Q=>ta σ H λx H1=>tb σ H1 λy H2=>r x y H2 Q
def tUn(r:V->Hp->VK->Prop)(ta:TE):TE:=λσ H Q=>ta σ H λx H1=>r x H1 Q
def rI(C:Int->Int->Prop)(g:Int->Int->V):R2:=λx y H Q=>∃i j,x= .int i/\y= .int j/\C i j/\Q (g i j) H
def rI0(g:Int->Int->V):R2:=λx y H Q=>∃i j,x= .int i/\y= .int j/\Q (g i j) H
def rU(g:Int->V):V->Hp->VK->Prop:=λx H Q=>∃i,x= .int i/\Q (g i) H
section
variable {X:Cx}{a b c:Expr}{ta tb tc:TE}{pos:Pos}
theorem bKl(i:PE X a ta)(j:PE X b tb){pins:List (Addr×Obj)}{s:bYd}{σ:St}{H:Hp}{R:V->V->Hp->Prop}(I:Inv X pins σ H s) (h:ta σ H λx H1=>tb σ H1 λy H2=>R x y H2) {Q:bYa->bYd->Prop} {f:bYa->bYa->Sem bYa} (g:∀v u e x y H2,Inv X pins σ H2 e->zH x v->zH y u->R x y H2->bYi (bYk X.prog X.w) X.A (f v u) Q X.xe e): bYi (bYk X.prog X.w) X.A (eval a X.env) (λv d=>bYi (bYk X.prog X.w) X.A (eval b X.env) (λu c=>bYi (bYk X.prog X.w) X.A (f v u) Q X.xe c) X.xe d) X.xe s:=by
 refine thn (i pins s σ H _ I h) λv s1 ⟨x,H1,I1,r1,q1⟩=>?_;refine thn (j pins s1 σ H1 _ I1 q1) λu e ⟨y,H2,I2,r2,q2⟩=>?_;exact g v u e x y H2 I2 r1 r2 q2
theorem yV{op:Operator}{r:R2}(e:OpR X (cXS op) r)(f:PE X a ta)(i:PE X b tb):PE X (.BinOp a op b pos) (tOp r ta tb):=by
 intro pins s σ H Q I h;exact wpAny_BinOp (bKl f i I h λv u c x y H2 g d j q=>e pins c σ H2 x y v u Q g d j q)
theorem aYo{op:UnaryOp}{r:V->Hp->VK->Prop}(c:UnR X (unaryOp op) r)(b:PE X a ta):PE X (.UnaryOp op a pos) (tUn r ta):=by
 intro pins s σ H Q I h;exact UnaryOp_ (thn (b pins s σ H _ I h) λv s1 ⟨x,H1,I1,r1,q1⟩=>c pins s1 σ H1 x v Q I1 r1 q1)
theorem opI{f:bYa->bYa->Sem bYa}{C:Int->Int->Prop}{g:Int->Int->Int} (a:∀ (i j:Int)(t u:Tok)(s:bYd)(Q:bYa->bYd->Prop)(E:bYa->bYd->Prop),C i j->Q (.int (g i j) s.toks) {s with toks:=s.toks+1}->bYi (bYk X.prog X.w) X.A (f (.int i t) (.int j u)) Q E s): OpR X f (rI C λi j=> .int (g i j)):=by
 intro pins s σ H x y v u Q I d e h;obtain⟨i,j,rfl,rfl,c,q⟩:=h;obtain⟨t,rfl⟩:=d;obtain⟨b,rfl⟩:=e;exact a i j t b s _ _ c ⟨.int (g i j),H,I.tok _,⟨_,rfl⟩,q⟩
theorem bKJ{f:bYa->bYa->Sem bYa}{g:Int->Int->Int} (a:∀ (i j:Int)(t u:Tok)(s:bYd)(Q:bYa->bYd->Prop)(E:bYa->bYd->Prop),Q (.int (g i j) s.toks) {s with toks:=s.toks+1}->bYi (bYk X.prog X.w) X.A (f (.int i t) (.int j u)) Q E s): OpR X f (rI0 λi j=> .int (g i j)):=by
 intro pins s σ H x y v u Q I c d h;obtain⟨i,j,rfl,rfl,q⟩:=h;obtain⟨t,rfl⟩:=c;obtain⟨b,rfl⟩:=d;exact a i j t b s _ _ ⟨.int (g i j),H,I.tok _,⟨_,rfl⟩,q⟩
theorem bW8{f:bYa->bYa->Sem bYa}{g:Int->Int->Bool} (a:∀ (i j:Int)(t u:Tok)(s:bYd)(Q:bYa->bYd->Prop)(E:bYa->bYd->Prop),Q (.bool (g i j)) s->bYi (bYk X.prog X.w) X.A (f (.int i t) (.int j u)) Q E s): OpR X f (rI0 λi j=> .bl (g i j)):=by
 intro pins s σ H x y v u Q I c d h;obtain⟨i,j,rfl,rfl,q⟩:=h;obtain⟨t,rfl⟩:=c;obtain⟨b,rfl⟩:=d;exact a i j t b s _ _ ⟨.bl (g i j),H,I,rfl,q⟩
def bKQ(i j:Int):Prop:=0<j/\j<1073741824
def bKF(i j:Int):Prop:=0<=j/\j<=1000000/\i.natAbs<2 ^ 64
def bKf(i j:Int):Prop:=(-(2 ^ 64)<i/\i<2 ^ 64)\/(-(2 ^ 64)<j/\j<2 ^ 64)
theorem bKf.ok{i j:Int}(h:bKf i j):IntMulOk i j:=by
 rcases h with⟨h1,h2⟩|⟨h1,h2⟩
 ·exact .of_left (intBits_le_64 h1 h2)
 ·exact .of_right (intBits_le_64 h1 h2)
theorem x3:OpR X (cXS .Add) (rI0 λi j=> .int (i+j)):=bKJ λ_ _ _ _ _ _ _ q=>add_int q
theorem w7:OpR X (cXS .Sub) (rI0 λi j=> .int (i - j)):=bKJ λ_ _ _ _ _ _ _ q=>sub_int q
theorem aVp:OpR X (cXS .Mult) (rI bKf λi j=> .int (i*j)):=opI λ_ _ _ _ _ _ _ a q=>mul_int q a.ok
theorem Y4:OpR X (cXS .FloorDiv) (rI bKQ λi j=> .int (i / j)):=opI λi j _ _ _ _ _ a q=>by
 have h1:(0:Int)<j:=a.1;have h2:j<1073741824:=a.2;exact floordiv_int (by omega) (by rw[Int.fdiv_eq_ediv_of_nonneg i (by omega)];exact q) (.inl (PyProof.noPylong_small (by omega)))
theorem y3:OpR X (cXS .Mod) (rI (λ_ j=>0<j) λi j=> .int (i % j)):=opI λi j _ _ _ _ _ a q=>by
 have h1:(0:Int)<j:=a;exact mod_int' (by omega) (by rw[Int.fmod_eq_emod_of_nonneg i (by omega)];exact q)
theorem aQo:OpR X (cXS .Pow) (rI bKF λi j=> .int (i ^ j.toNat)):=opI λ_ _ _ _ _ _ _ a q=>pow_int_small a.1 a.2.1 a.2.2 q
theorem unI{f:bYa->Sem bYa}{g:Int->Int} (a:∀ (i:Int)(t:Tok)(s:bYd)(Q:bYa->bYd->Prop)(E:bYa->bYd->Prop),Q (.int (g i) s.toks) {s with toks:=s.toks+1}->bYi (bYk X.prog X.w) X.A (f (.int i t)) Q E s): UnR X f (rU λi=> .int (g i)):=by
 intro pins s σ H x v Q I b h;obtain⟨i,rfl,q⟩:=h;obtain⟨t,rfl⟩:=b;exact a i t s _ _ ⟨.int (g i),H,I.tok _,⟨_,rfl⟩,q⟩
theorem aZX:UnR X (unaryOp .USub) (rU λi=> .int (-i)):=unI λ_ _ _ _ _ q=>neg_int q
end
def bKL:V->V->Bool
 |.non,.non=>true|.non,.int _=>true|.int _,.non=>true|.non,.bl _=>true|.bl _,.non=>true|.non,.str _=>true|.str _,.non=>true
 |.int _,.int _=>true|.bl _,.bl _=>true|.str _,.str _=>true|.byt _,.byt _=>true
 |.int _,.str _=>true|.str _,.int _=>true|.bl _,.str _=>true|.str _,.bl _=>true
 |_,_=>false
def rEq:R2:=λx y H Q=>bKL x y=true/\Q (.bl (decide (x=y))) H
def rNe:R2:=λx y H Q=>bKL x y=true/\Q (.bl (!decide (x=y))) H
theorem aKt{i j:Int}:decide (V.int i=V.int j)=(i==j):=by
 rw[Bool.eq_iff_iff];simp
theorem bZz{i j:Bool}:decide (V.bl i=V.bl j)=(i==j):=by
 rw[Bool.eq_iff_iff];simp
theorem aKu{i j:Str}:decide (V.str i=V.str j)=(i==j):=by
 rw[Bool.eq_iff_iff];simp
theorem aKs{i j:Array UInt8}:decide (V.byt i=V.byt j)=(i.toList==j.toList):=by
 rw[Bool.eq_iff_iff];cases i;cases j;simp
section
variable {X:Cx}{a b c:Expr}{ta tb tc:TE}{pos:Pos}
theorem xO{pins:List (Addr×Obj)}{σ:St}{H:Hp}{s:bYd}{Q:VK}{k a:Bool}(I:Inv X pins σ H s)(q:Q (.bl k) H)(e:k=a):EP X pins σ Q (.bool a) s:=by
 subst e;exact⟨.bl k,H,I,rfl,q⟩
theorem x8:OpR X (cQE .Eq) rEq:=by
 intro pins s σ H x y v u Q I d a h;obtain⟨c,q⟩:=h;cases x with
 |non=>
  cases d;cases y with
  |non=>cases a;exact PySem.EqNone.eq_none_none (xO I q (by simp))
  |bl j=>cases a;exact PySem.EqNone.eq_none_bool (xO I q (by simp))
  |int j=>obtain⟨b,rfl⟩:=a;exact PySem.EqNone.eq_none_int (xO I q (by simp))
  |str j=>obtain⟨b,rfl⟩:=a;exact PySem.EqNone.eq_none_str (xO I q (by simp))
  |_=>exact absurd (show false=true from c) Bool.false_ne_true
 |bl i=>
  cases d;cases y with
  |non=>cases a;exact PySem.EqNone.eq_bool_none (xO I q (by simp))
  |bl j=>cases a;exact eq_bool (xO I q bZz)
  |str j=>obtain⟨b,rfl⟩:=a;exact PySem.EqMixed.eq_bool_str (xO I q (by simp))
  |_=>exact absurd (show false=true from c) Bool.false_ne_true
 |int i=>
  obtain⟨t,rfl⟩:=d;cases y with
  |non=>cases a;exact PySem.EqNone.eq_int_none (xO I q (by simp))
  |int j=>obtain⟨b,rfl⟩:=a;exact eq_int (xO I q aKt)
  |str j=>obtain⟨b,rfl⟩:=a;exact PySem.EqMixed.eq_int_str (xO I q (by simp))
  |_=>exact absurd (show false=true from c) Bool.false_ne_true
 |str i=>
  obtain⟨t,rfl⟩:=d;cases y with
  |non=>cases a;exact PySem.EqNone.eq_str_none (xO I q (by simp))
  |bl j=>cases a;exact PySem.EqMixed.eq_str_bool (xO I q (by simp))
  |int j=>obtain⟨b,rfl⟩:=a;exact PySem.EqMixed.eq_str_int (xO I q (by simp))
  |str j=>obtain⟨b,rfl⟩:=a;exact eq_str (xO I q aKu)
  |_=>exact absurd (show false=true from c) Bool.false_ne_true
 |byt i=>
  obtain⟨t,rfl⟩:=d;cases y with
  |byt j=>obtain⟨b,rfl⟩:=a;exact PySem.W.eq_bytes (xO I q aKs)
  |_=>exact absurd (show false=true from c) Bool.false_ne_true
 |_=>cases y<;> exact absurd (show false=true from c) Bool.false_ne_true
theorem Y5:OpR X (cQE .NotEq) rNe:=by
 intro pins s σ H x y v u Q I d a h;obtain⟨c,q⟩:=h;cases x with
 |non=>
  cases d;cases y with
  |non=>cases a;exact PySem.EqNone.ne_none_none (xO I q (by simp))
  |bl j=>cases a;exact PySem.EqNone.ne_none_bool (xO I q (by simp))
  |int j=>obtain⟨b,rfl⟩:=a;exact PySem.EqNone.ne_none_int (xO I q (by simp))
  |str j=>obtain⟨b,rfl⟩:=a;exact PySem.EqNone.ne_none_str (xO I q (by simp))
  |_=>exact absurd (show false=true from c) Bool.false_ne_true
 |bl i=>
  cases d;cases y with
  |non=>cases a;exact PySem.EqNone.ne_bool_none (xO I q (by simp))
  |bl j=>cases a;exact ne_bool (xO I q (congrArg not bZz))
  |str j=>obtain⟨b,rfl⟩:=a;exact PySem.EqMixed.ne_bool_str (xO I q (by simp))
  |_=>exact absurd (show false=true from c) Bool.false_ne_true
 |int i=>
  obtain⟨t,rfl⟩:=d;cases y with
  |non=>cases a;exact PySem.EqNone.ne_int_none (xO I q (by simp))
  |int j=>obtain⟨b,rfl⟩:=a;exact ne_int (xO I q (congrArg not aKt))
  |str j=>obtain⟨b,rfl⟩:=a;exact PySem.EqMixed.ne_int_str (xO I q (by simp))
  |_=>exact absurd (show false=true from c) Bool.false_ne_true
 |str i=>
  obtain⟨t,rfl⟩:=d;cases y with
  |non=>cases a;exact PySem.EqNone.ne_str_none (xO I q (by simp))
  |bl j=>cases a;exact PySem.EqMixed.ne_str_bool (xO I q (by simp))
  |int j=>obtain⟨b,rfl⟩:=a;exact PySem.EqMixed.ne_str_int (xO I q (by simp))
  |str j=>obtain⟨b,rfl⟩:=a;exact ne_str (xO I q (congrArg not aKu))
  |_=>exact absurd (show false=true from c) Bool.false_ne_true
 |byt i=>
  obtain⟨t,rfl⟩:=d;cases y with
  |byt j=>obtain⟨b,rfl⟩:=a;exact PySem.W.ne_bytes (xO I q (congrArg not aKs))
  |_=>exact absurd (show false=true from c) Bool.false_ne_true
 |_=>cases y<;> exact absurd (show false=true from c) Bool.false_ne_true
theorem vC:OpR X (cQE .Lt) (rI0 λi j=> .bl (decide (i<j))):=bW8 λ_ _ _ _ _ _ _ q=>lt_int q
theorem aYj:OpR X (cQE .LtE) (rI0 λi j=> .bl (decide (i<=j))):=bW8 λ_ _ _ _ _ _ _ q=>le_int q
theorem aQl:OpR X (cQE .Gt) (rI0 λi j=> .bl (decide (j<i))):=bW8 λ_ _ _ _ _ _ _ q=>gt_int q
theorem bWy:OpR X (cQE .GtE) (rI0 λi j=> .bl (decide (j<=i))):=bW8 λ_ _ _ _ _ _ _ q=>ge_int q
theorem aQm:OpR X (cQE .Is) (λx y H Q=>y= .non/\Q (.bl (decide (x= .non))) H):=by
 intro pins s σ H x y v u Q I a b h;obtain⟨rfl,q⟩:=h;cases b;refine is_none_gen (xO I q ?_);cases x<;> first
  |(cases a;rfl)
  |(obtain⟨t,rfl⟩:=a;rfl)
theorem wC:OpR X (cQE .IsNot) (λx y H Q=>y= .non/\Q (.bl (!decide (x= .non))) H):=by
 intro pins s σ H x y v u Q I a b h;obtain⟨rfl,q⟩:=h;cases b;refine isnot_none_gen (xO I q ?_);cases x<;> first
  |(cases a;rfl)
  |(obtain⟨t,rfl⟩:=a;rfl)
theorem bZO(b:Expr){op:CmpOp}(h:op≠ .In:=by decide)(h2:op≠ .NotIn:=by decide):cXZ op b=false:=by
 have c:(op==CmpOp.In)=false:=by cases op<;> first|rfl|exact absurd rfl h
 have a:(op==CmpOp.NotIn)=false:=by cases op<;> first|rfl|exact absurd rfl h2
 cases b<;> simp[cXZ,c,a]
theorem zE{op:CmpOp}{r:R2}(e:OpR X (cQE op) r)(f:PE X a ta)(j:PE X b tb)(g:cXZ op b=false:=by first|exact bZO _|with_unfolding_all rfl):PE X (.Compare a [op] [b] pos) (tOp r ta tb):=by
 intro pins s σ H Q I h;exact wpAny_Compare1 (bKl f j I h λv u c x y H2 i d k q=>e pins c σ H2 x y v u Q i d k q) g
def bWY(t:TE):TT:=λσ H Q=>t σ H λx H'=>∃k,x= .bl k/\Q k H'
theorem yM{op:CmpOp}{r:R2}(i:OpR X (cQE op) r)(d:PE X a ta)(g:PE X b tb)(f:cXZ op b=false:=by first|exact bZO _|with_unfolding_all rfl):PT X (.Compare a [op] [b] pos) (bWY (tOp r ta tb)):=by
 intro pins s σ H Q I h;refine wpAny_isTrue_Compare1 (thn (d pins s σ H _ I h) λv s1 ⟨x,H1,I1,r1,q1⟩=>thn (g pins s1 σ H1 _ I1 q1) λu s2 ⟨y,H2,I2,r2,q2⟩=>
  thn (i pins s2 σ H2 x y v u _ I2 r1 r2 q2) λc s3 ⟨z,H3,I3,r3,k,e,q3⟩=>?_) f
 subst e;cases r3;exact cXb ⟨H3,I3,q3⟩
def bWW(r d:R2)(ta tb tc:TE):TE:=λσ H Q=>ta σ H λx H1=>tb σ H1 λy H2=>r x y H2 λz a=>∃k,z= .bl k/\
 (if k=true then tc σ a λc b=>d y c b Q else Q (.bl false) a)
theorem bXE{op f:CmpOp}{r i:R2}(m:OpR X (cQE op) r)(g:OpR X (cQE f) i)(n:PE X a ta)(q:PE X b tb)(j:PE X c tc) (p:lastMarks [op,f] [b,c]=false:=by with_unfolding_all rfl):PT X (.Compare a [op,f] [b,c] pos) (bWY (bWW r i ta tb tc)):=by
 intro pins s σ H Q I h;refine isTrue_chain (thn (n pins s σ H _ I h) λv s1 ⟨x,H1,I1,r1,q1⟩=>test_link (thn (q pins s1 σ H1 _ I1 q1) λu s2 ⟨y,H2,I2,r2,q2⟩=>
  thn (m pins s2 σ H2 x y v u _ I2 r1 r2 q2) λd s3 ⟨z,H3,I3,r3,k,e,q3⟩=>?_)) p
 subst e;cases r3;refine cXb ?_;cases k with
 |false=>obtain⟨t,o,l⟩:=q3;cases o;exact ite_ff ⟨H3,I3,l⟩
 |true=>refine ite_tt (test_last (thn (j pins s3 σ H3 _ I3 q3) λw' s4 ⟨z',H4,I4,r4,q4⟩=>thn (g pins s4 σ H4 y z' u w' _ I4 r2 r4 q4) λd' s5 ⟨z2,H5,I5,r5,k2,e2,q5⟩=>?_));subst e2;cases r5;exact cXb ⟨H5,I5,q5⟩
theorem aZu:(bYB:Nat)<2 ^ 63:=by rw[bYJ];decide
theorem aXb:OpR X (cXS .Add) (λx y H Q=>∃i j,x= .str i/\y= .str j/\i.length+j.length<=bYB/\Q (.str (i++j)) H):=by
 intro pins s σ H x y v u Q I c d h;obtain⟨i,j,rfl,rfl,b,q⟩:=h;obtain⟨t,rfl⟩:=c;obtain⟨a,rfl⟩:=d;exact add_str (λa tk=>⟨.str (i++j),H,I.tok _,⟨_,rfl⟩,q⟩) b
theorem aQS{x:V}{us:List bYa}(r:xV [x] us):∃u,us= [u]/\zH x u:=by
 cases r with
 |cons b a=>cases a;exact⟨_,rfl,b⟩
theorem bW3{x y:V}{us:List bYa}(r:xV [x,y] us):∃u a,us= [u,a]/\zH x u/\zH y a:=by
 cases r with
 |cons e b=>
  cases b with
  |cons d c=>cases c;exact⟨_,_,rfl,e,d⟩
theorem aKm(b:X.calm=true):jM X (.builtin "max") (λxs H Q=>∃i j,xs= [.int i,.int j]/\Q (.int (if j > i then j else i)) H):=by
 intro pins s σ H xs c Q I r h;obtain⟨i,j,rfl,q⟩:=h;obtain⟨u,e,rfl,⟨t,rfl⟩,⟨d,rfl⟩⟩:=bW3 r;refine max_two_ints (I.ok.hd b) λh' tk k=>⟨_,H,I.kept k,?_,q⟩;by_cases a:j > i
 ·rw[if_pos a,if_pos a];exact⟨_,rfl⟩
 ·rw[if_neg a,if_neg a];exact⟨_,rfl⟩
theorem aKn(b:X.calm=true):jM X (.builtin "min") (λxs H Q=>∃i j,xs= [.int i,.int j]/\Q (.int (if j<i then j else i)) H):=by
 intro pins s σ H xs c Q I r h;obtain⟨i,j,rfl,q⟩:=h;obtain⟨u,e,rfl,⟨t,rfl⟩,⟨d,rfl⟩⟩:=bW3 r;refine min_two_ints (I.ok.hd b) λh' tk k=>⟨_,H,I.kept k,?_,q⟩;by_cases a:j<i
 ·rw[if_pos a,if_pos a];exact⟨_,rfl⟩
 ·rw[if_neg a,if_neg a];exact⟨_,rfl⟩
theorem w3:jM X (.type "int") (λxs H Q=>(∃i,xs= [.int i]/\Q (.int i) H)\/∃k,xs= [.bl k]/\Q (.int (if k then 1 else 0)) H):=by
 intro pins s σ H xs b Q I r h;rcases h with⟨i,rfl,q⟩|⟨k,rfl,q⟩
 ·obtain⟨u,rfl,t,rfl⟩:=aQS r;exact call_int_int ⟨.int i,H,I,⟨_,rfl⟩,q⟩
 ·obtain⟨u,rfl,a⟩:=aQS r;cases a;exact call_int_bool ⟨.int (if k then 1 else 0),H,I.tok _,⟨_,rfl⟩,q⟩
end
end L2
namespace L2
open PySem PySem.Spec PyProof.Rows
structure bJe(h:Heap)(x dx C:Addr)(mA:Str->Option bYa):Prop where
 obj:h.get? x=some (cXm C dx)
 ns:h.Ns1 dx mA
 ne:dx≠x
theorem aZv{h:Heap}{dx:Addr}{mA:Str->Option bYa}(n:h.Ns1 dx mA):∃c,h.get? dx=some c/\∀name,cZ7 name c=some (mA name):=by
 obtain⟨o,es,l,i,f,g,_,j⟩:=n;refine⟨o,i,λname=>?_⟩;have e:=j name;unfold nsFind findBy at e;rw[<- Array.find?_toList]at e;unfold cZ7;rw[f];dsimp only;split
 ·rename_i y q;rw[q]at e;exact congrArg some e
 ·rename_i q;rw[q]at e;have a:es.toList.any (·.refKey)=false:=by
   rw[List.any_eq_false];intro y d;obtain⟨z,t,b⟩:=g y (Array.mem_toList_iff.mp d);simp[DictEntry.refKey,b]
  have k:¬es.toList.any (·.refKey)=true:=by rw[a];exact Bool.false_ne_true
  rw[if_neg k];exact congrArg some e
theorem bJe.look{h:Heap}{x dx C:Addr}{mA:Str->Option bYa}(I:bJe h x dx C mA):∃a,PySem.W.InstAt h x (cXm C dx) C (some a)/\∀name,cZ7 name a=some (mA name):=
 let ⟨a,ho,hl⟩:=aZv I.ns
 ⟨a,⟨I.obj,rfl,rfl,ho⟩,hl⟩
section
variable {prog:bYx}{w:bYD}{A:bYO}{E:bYa->bYd->Prop}{s:bYd}{K:bYc}{x dx C f:Addr}{mA:Str->Option bYa}{name:Str}{v:bYa}
theorem bJu{a:Bool}{Q:bYa->bYd->Prop}(X:K.In s.heap)(I:bJe s.heap x dx C mA)(f:cXR K C name=true)(e:cX7 K C=true) (c:bYV K (.ref C) name=some none) (d:mA name=some v) (b:PySem.W.handedIn v=true) (h:Q v {s with toks:=s.toks+1}): bYi (bYk prog w) A (getAttr (.ref x) name a) Q E s:=by
 obtain⟨g,J,hl⟩:=I.look;exact PySem.W.get_value X J (cZ4 f).1 (PySem.W.findObj_own e c rfl (by rw[hl,d])) b h
theorem bQN{pl:Sem Bool}{Q:bYa×List bYa->bYd->Prop}(X:K.In s.heap)(I:bJe s.heap x dx C mA)(a:cXR K C name=true) (c:bYV K (.ref C) name=some (some (.ref f))) (e:cXQ K (.ref f)=true) (d:mA name=none) (h:Q (.ref f,[.ref x]) s): bYi (bYk prog w) A (cZz (.ref x) name pl) Q E s:=by
 obtain⟨b,J,hl⟩:=I.look;exact PySem.W.method_fn X J (cZ4 a).1 (cZ4 a).2 c (beq_iff_eq.mp e) (by show(cZ7 name b).map (·.isSome)=some false;rw[hl,d];rfl) h
theorem bVG{j:List Str}{Q:Unit->bYd->Prop}(X:K.In s.heap)(I:bJe s.heap x dx C mA) (n:bYV K (.ref C) "__setattr__"=some (some (.builtin "object.__setattr__"))) (p:cZF K C=true) (k:PySem.W.takerIn K C name=some none) (o:cX7 K C=true) (hw:PySem.Within mA j) (hsz:j.length<=bYB) (h:∀h',bJe h' x dx C (λy=>if y=name then some v else mA y)->cXe dx s.heap h'->Q () {s with heap:=h',toks:=s.toks+2}): bYi (bYk prog w) A (setAttr (.ref x) name v) Q E s:=by
 obtain⟨u,J,hl⟩:=I.look;refine PySem.W.set_plain X J n (PySem.W.osa_open (s:={s with toks:=s.toks+1}) (r:=none) X J p k λb=>?_);obtain⟨B,m,g⟩:=PySem.W.any_some o;have q:s.heap.get? x=some ⟨.ref C,some dx,.plain, #[]⟩:=I.obj;refine bYb (bYg (bYb (bYb (wpAny_loadPart q (bYb (PySem.W.Looks.here (s:={s with toks:=s.toks+1}) (PySem.W.looks_clsIn X m) ?_))))));rw[g];refine bYg (a:=some dx) (bYb (bYg (bYb ?_)));refine wpAny_nsSet1 (s:={s with toks:=s.toks+1}) I.ns λh' c d=>?_;obtain⟨z,l,t,e,f,i⟩:=c.count (PySem.Within.cons name v hw);refine bYb (wpAny_lookBehind e (by rw[f];exact pastItsLine_dict (bYQ i (by rw[bY8];omega))) ?_);exact bYg (h _ ⟨(d.2 _ (bYU I.ne)).trans I.obj,c,I.ne⟩ d)
theorem bQ8{R:Result->bYd->Prop}{vs:List bYa}{a:List (Str×bYa)}(X:K.In s.heap)(c:PySem.W.makesIn K C=true) (hi:bYV K (.ref C) "__init__"=some (some (.ref f))) (b:PySem.W.typeIn K (.ref f)=some (.type "function")) (h:cXr (bYk prog w) (A.under (.builtin "type.__call__" ⟨.ref C::vs,a⟩)) (.call (.ref f) ⟨.ref (s.heap.objs.size+1)::vs,a⟩) (PySem.W.InitBack (s.heap.objs.size+1) R) {s with heap:=(s.heap.push cQT).push (cXm C s.heap.objs.size) }): cXr (bYk prog w) A (.call (.ref C) ⟨vs,a⟩) R s:=by
 obtain⟨e,g,d,t,i⟩:=s;exact PySem.W.make_core (PySem.W.makes_of X c) (PySem.W.looks_findIn X hi) (λself=>PySem.W.bind_fn X self b) (.inl rfl) h
end
def aQ2(f:Str)(v:V):List (Str×V)->List (Str×V)
 |[]=> [(f,v)]
 |(g,x)::r=>if g=f then(g,v)::r else(g,x)::aQ2 f v r
theorem aQi(f g:Str)(v:V):∀fs:List (Str×V),(aQ2 f v fs).lookup g=if g=f then some v else fs.lookup g
 |[]=>by
  show cXv g [(f,v)]=_;by_cases h:g=f
  ·have a:(g==f)=true:=beq_iff_eq.mpr h;simp only[cXv,a,if_pos h]
  ·have a:(g==f)=false:=beq_eq_false_iff_ne.mpr h;simp only[cXv,a,if_neg h]
 |(k,x)::r=>by
  have c:=aQi f g v r;rw[show aQ2 f v ((k,x)::r)=(if k=f then(k,v)::r else(k,x)::aQ2 f v r)from rfl];by_cases b:k=f
  ·rw[if_pos b];by_cases h:g=k
   ·have a:(g==k)=true:=beq_iff_eq.mpr h;simp only[cXv,a,if_pos (h.trans b)]
   ·have a:(g==k)=false:=beq_eq_false_iff_ne.mpr h;simp only[cXv,a,if_neg (λe:g=f=>h (e.trans b.symm))]
  ·rw[if_neg b];by_cases h:g=k
   ·have a:(g==k)=true:=beq_iff_eq.mpr h;simp only[cXv,a,if_neg (λe:g=f=>b (h.symm.trans e))]
   ·have a:(g==k)=false:=beq_eq_false_iff_ne.mpr h;simp only[cXv,a];exact c
theorem aQa(f:Str)(v:V):∀fs:List (Str×V),f∈(aQ2 f v fs).map (·.1)/\∀g,g∈fs.map (·.1)->g∈(aQ2 f v fs).map (·.1)
 |[]=>⟨by simp[aQ2],λg h=>by simp at h⟩
 |(k,x)::r=>by
  obtain⟨c,b⟩:=aQa f v r;rw[show aQ2 f v ((k,x)::r)=(if k=f then(k,v)::r else(k,x)::aQ2 f v r)from rfl];by_cases a:k=f
  ·rw[if_pos a];subst a;exact⟨by simp,λg h=>by simpa using h⟩
  ·rw[if_neg a];refine⟨?_,λg h=>?_⟩
   ·rw[bY0];exact bYm _ c
   ·rw[bY0]at h ⊢;rcases bYj.mp h with e|e
    ·exact bYj.mpr (.inl e)
    ·exact bYm _ (b g e)
theorem aQh(f:Str)(v:V):∀fs:List (Str×V),(aQ2 f v fs).length<=fs.length+1
 |[]=>by simp[aQ2]
 |(k,x)::r=>by
  have b:=aQh f v r;rw[show aQ2 f v ((k,x)::r)=(if k=f then(k,v)::r else(k,x)::aQ2 f v r)from rfl];by_cases a:k=f
  ·rw[if_pos a,bY8,bY8];omega
  ·rw[if_neg a,bY8,bY8];omega
theorem aX0.some_of{v:V}{o:Option bYa}(r:aX0 (some v) o):∃u,o=some u/\zH v u:=by
 cases o with
 |none=>exact(show False from r).elim
 |some u=>exact⟨u,rfl,r⟩
theorem aX0.none_of{o:Option bYa}(r:aX0 none o):o=none:=by
 cases o with
 |none=>rfl
 |some u=>exact(show False from r).elim
theorem aZh{v:V}{u:bYa}(r:zH v u):PySem.W.handedIn u=true:=by
 cases v with
 |non=>cases (show u=Value.none from r);rfl
 |bl b=>cases (show u=Value.bool b from r);rfl
 |int i=>obtain⟨t,e⟩:=(show ∃t,u=Value.int i t from r);cases e;rfl
 |str x=>obtain⟨t,e⟩:=(show ∃t,u=Value.str x t from r);cases e;rfl
 |byt b=>obtain⟨t,e⟩:=(show ∃t,u=Value.bytes b t from r);cases e;rfl
 |flt b=>obtain⟨t,e⟩:=(show ∃t,u=Value.float b t from r);cases e;rfl
 |ref a=>cases (show u=Value.ref a from r);rfl
 |ty n=>cases (show u=Value.type n from r);rfl
section
variable {P:bYx}{w:bYD}{H H':Hp}{h h':Heap}{a C dx:Addr}{fs fs':List (Str×V)}
theorem Q7(b:HOk P w H h)(e:H a=some (.ins C dx fs)):∃mA,bJe h a dx C mA/\(∀f,aX0 (fs.lookup f) (mA f))/\PySem.Within mA (fs.map (·.1))/\fs.length<=1000/\H dx=some (.own a):=by
 obtain⟨d,z,ne,c,mA,n,r,q⟩:=(show zA P w H h a (.ins C dx fs)from b a _ e);exact⟨mA,⟨c,n,ne⟩,r,q,z,d⟩
end
structure Cls(K:bYc)(C:Addr):Prop where
 pg:cXR K C Str.empty=true
 hd:cX7 K C=true
 po:cZF K C=true
 sa:bYV K (.ref C) "__setattr__"=some (some (.builtin "object.__setattr__"))
theorem Cls.get{K:bYc}{C:Addr}(c:Cls K C)(f:Str):cXR K C f=true:=c.pg
def wH(K:bYc)(C:Addr)(f:Str):Prop:=bYV K (.ref C) f=some none
theorem wH.taker{K:bYc}{C:Addr}{f:Str}(n:wH K C f):PySem.W.takerIn K C f=some none:=by
 unfold PySem.W.takerIn;rw[show bYV K (.ref C) f=some none from n];rfl
structure bVU(K:bYc)(C:Addr)(m:Str)(f:Addr):Prop where
 at_:bYV K (.ref C) m=some (some (.ref f))
 fn:cXQ K (.ref f)=true
 kp:bY6 K (.ref f)=true
section
variable {X:Cx}{pins:List (Addr×Obj)}{σ:St}{H:Hp}{s:bYd}{a C dx:Addr}{fs:List (Str×V)}{f:Str}{v:V}{A:bYO}{E:bYa->bYd->Prop}
theorem aV9{b:Bool}{Q:bYa->bYd->Prop}(I:Inv X pins σ H s)(e:H a=some (.ins C dx fs))(c:Cls X.K C)(n:wH X.K C f)(l:fs.lookup f=some v) (h:∀u s',Inv X pins σ H s'->zH v u->Q u s'):bYi (bYk X.prog X.w) A (getAttr (.ref a) f b) Q E s:=by
 obtain⟨mA,O,r,_,_,_⟩:=Q7 I.hok e;obtain⟨u,g,d⟩:=aX0.some_of (v:=v) (o:=mA f) (by rw[<- l];exact r f);exact bJu I.kIn O (c.get f) c.hd n g (aZh d) (h u _ (I.tok _) d)
theorem Y0{m:Str}{g:Addr}{pl:Sem Bool}{Q:bYa×List bYa->bYd->Prop}(I:Inv X pins σ H s)(e:H a=some (.ins C dx fs))(c:Cls X.K C)(k:bVU X.K C m g)(l:fs.lookup m=none) (h:Q (.ref g,[.ref a]) s):bYi (bYk X.prog X.w) A (cZz (.ref a) m pl) Q E s:=by
 obtain⟨mA,O,r,_,_,_⟩:=Q7 I.hok e;have b:mA m=none:=aX0.none_of (by rw[<- l];exact r m);exact bQN I.kIn O (c.get m) k.at_ k.fn b h
theorem aW4{y:V}{u:bYa}{Q:Unit->bYd->Prop}(I:Inv X pins σ H s)(e:H a=some (.ins C dx fs))(c:Cls X.K C)(n:wH X.K C f)(hl:fs.length<1000)(v:zH y u) (h:∀s',Inv X pins σ (upd H a (.ins C dx (aQ2 f y fs))) s'->Q () s'):bYi (bYk X.prog X.w) A (setAttr (.ref a) f u) Q E s:=by
 obtain⟨mA,O,r,i,_,j⟩:=Q7 I.hok e;have m:(fs.map (·.1)).length<=bYB:=by rw[bYe,bYJ];omega
 refine bVG I.kIn O c.sa c.po n.taker c.hd i m λh' d k=>h _ ?_;have l:∃o,h'.get? dx=some o:=let ⟨o,_,_,e',_⟩:=d.ns;⟨o,e'⟩;refine I.write (x:=a) (e:=dx) (by rw[e];exact cQw) (.inr j) (λb q t z=>(k.2 b t).trans z) l ?_;refine⟨by rw[yJ O.ne];exact j,?_,O.ne,d.obj,_,d.ns,λg=>?_,λg p=>?_⟩
 ·have:=aQh f y fs;omega
 ·show aX0 ((aQ2 f y fs).lookup g) (if g=f then some u else mA g);rw[aQi];by_cases q:g=f
  ·rw[if_pos q,if_pos q];exact v
  ·rw[if_neg q,if_neg q];exact r g
 ·by_cases q:g=f
  ·rw[q];exact(aQa f y fs).1
  ·refine(aQa f y fs).2 g (i g λz=>p ?_);show(if g=f then some u else mA g)=none;rw[if_neg q];exact z
theorem Inv.made(I:Inv X pins σ H s):Inv X pins σ (upd (upd H s.heap.objs.size (.own (s.heap.objs.size+1))) (s.heap.objs.size+1) (.ins C s.heap.objs.size [])) {s with heap:=(s.heap.push cQT).push (cXm C s.heap.objs.size) }:=by
 have c:(s.heap.push cQT).get? s.heap.objs.size=some cQT:=bYE s.heap rfl;have f:((s.heap.push cQT).push (cXm C s.heap.objs.size)).get? (s.heap.objs.size+1)=some (cXm C s.heap.objs.size):=by have:=bYE (s.heap.push cQT) (o:=cXm C s.heap.objs.size) rfl;rwa [cQJ]at this
 have h:(s.heap.push cQT).Ns s.heap.objs.size (λ_=>none):=⟨cQT, #[],_,c,rfl,(λe i=>absurd i (by simp)),λ_=>rfl⟩;have g:=I.laid (a:=s.heap.objs.size) (o:= .own (s.heap.objs.size+1)) (h':=s.heap.push cQT) (t':=s.toks) (λb u q=>bYf _ q) (bYh _) ⟨_,c⟩;refine g.laid (a:=s.heap.objs.size+1) (o:= .ins C s.heap.objs.size []) (t':=s.toks) (λb u q=>bYf _ q) (cXN (cQJ _ _)) ?_;have ne:s.heap.objs.size≠s.heap.objs.size+1:=bYA (cQ2 _);refine⟨by rw[yJ ne,yB],bY7 _,ne,f,λ_=>none,(Heap.Ns1.of_empty h).at λo q=>bYf _ q,λ_=>cQw,λy d=>absurd rfl d⟩
theorem aKk{prog:bYx}{w:bYD}{env:Env}{e:Expr}{f:Str}{pos:Pos}{s:bYd}{Q:bYa->bYd->Prop}(b:cXY e f env (eval e env)=eval e env) (h:bYi (bYk prog w) A (eval e env) (λo a=>bYi (bYk prog w) A (getAttr o f true) Q E a) E s):bYi (bYk prog w) A (eval (.Attribute e f pos) env) Q E s:=
 Attribute_any_ h (by rw[arm_eval_Attribute,b])
end
def bKM(K:bYc)(ta:TE)(f:Str):TE:=λσ H Q=>ta σ H λx H1=>∃a C dx fs v,x= .ref a/\H1 a=some (.ins C dx fs)/\Cls K C/\wH K C f/\fs.lookup f=some v/\Q v H1
def bK2(K:bYc)(ta tv:TE)(f:Str):TS:=λD σ H=>tv σ H λy H1=>ta σ H1 λx H2=>∃a C dx fs,x= .ref a/\H2 a=some (.ins C dx fs)/\Cls K C/\wH K C f/\fs.length<1000/\
 D.nx σ (upd H2 a (.ins C dx (aQ2 f y fs)))
section
variable {X:Cx}{o e value:Expr}{f:Str}{pos pos' tpos:Pos}{ta tv:TE}
theorem yZ(i:PE X e ta)(d:cXY e f X.env (eval e X.env)=eval e X.env):PE X (.Attribute e f pos) (bKM X.K ta f):=by
 intro pins s σ H Q I h;refine aKk d (thn (i pins s σ H _ I h) λu s1 ⟨x,H1,I1,rx,a,C,dx,fs,v,ex,ea,c,n,l,q⟩=>?_);subst ex;obtain rfl:u=Value.ref a:=rx;exact aV9 I1 ea c n l λk j b g=>⟨v,H1,b,g,q⟩
theorem zJ(b:PE X o ta)(d:PE X value tv)(g:swapsWith value (some (.Attribute o f pos')) pos.line X.env=pure false):PS X (.Assign [.Attribute o f pos'] value pos) (bK2 X.K ta tv f):=by
 intro pins s σ H D I h;refine cZN (thn (d pins s σ H _ I h) λu s1 ⟨y,H1,I1,ry,q⟩=>thn (b pins s1 σ H1 _ I1 q) λov s2 ⟨x,H2,I2,rx,a,C,dx,fs,ex,ea,c,n,l,q2⟩=>?_) g;subst ex;obtain rfl:ov=Value.ref a:=rx;exact aW4 I2 ea c n l ry λi e=>⟨σ,_,e,q2⟩
theorem bJE{pl:Sem Bool}{m:Str}{apos:Pos}{args:List Expr}{pins:List (Addr×Obj)}{s:bYd}{σ:St}{H:Hp}{Q:bYa->bYd->Prop}{te:TE}(i:PE X e te)(I:Inv X pins σ H s)
  (h:te σ H λx H1=>∃a C dx fs g,x= .ref a/\H1 a=some (.ins C dx fs)/\Cls X.K C/\bVU X.K C m g/\fs.lookup m=none/\
   ∀b,Inv X pins σ H1 b->bYi (bYk X.prog X.w) X.A (callWith pos (.ref g) [.ref a] (cQN pos (bYN args X.env)) (cZk pos (cXw [] X.env))) Q X.xe b)
  (d:eval (.Call (.Attribute e m apos) args [] pos) X.env=(do
   let ov <- eval e X.env
   standAt apos.atName
   let (f,first) <- cZs [ov] (cZz ov m pl)
   callWith pos f first (cQN pos (bYN args X.env)) (cZk pos (cXw [] X.env)))):
  bYi (bYk X.prog X.w) X.A (eval (.Call (.Attribute e m apos) args [] pos) X.env) Q X.xe s:=by
 refine cZb (pl:=pl) (thn (i pins s σ H _ I h) λu b ⟨x,H1,I1,rx,a,C,dx,fs,g,ex,ea,c,k,l,q⟩=>?_) d
 subst ex
 obtain rfl:u=Value.ref a:=rx
 exact Y0 I1 ea c k l (q b I1)
end
section
variable {X:Cx}{pins:List (Addr×Obj)}{σ:St}{H:Hp}{s:bYd}{A:bYO}{E:bYa->bYd->Prop}{Q:bYa->bYd->Prop}{c:bYa}{b:Bool}
inductive aZ2(K:bYc)(H:Hp):V->bYa->Prop where
 |non:aZ2 K H .non (.type "NoneType")
 |bl (x:Bool):aZ2 K H (.bl x) (.type "bool")
 |int (i:Int):aZ2 K H (.int i) (.type "int")
 |str (x:Str):aZ2 K H (.str x) (.type "str")
 |flt (x:UInt64):aZ2 K H (.flt x) (.type "float")
 |lst {a:Addr} {xs:List V} (e:H a=some (.lst xs)):aZ2 K H (.ref a) (.type "list")
 |frz {a:Addr} {o:Obj} {xs:List V} (e:H a=some (.frz o (.lst xs))):aZ2 K H (.ref a) (.type "list")
 |tup {a:Addr} {xs:List V} (e:H a=some (.tup xs)):aZ2 K H (.ref a) (.type "tuple")
 |dK {a:Addr} {kvs:List (Key×V)} (e:H a=some (.dK kvs)):aZ2 K H (.ref a) (.type "dict")
 |dT {a:Addr} {kvs:List (List Key×V)} (e:H a=some (.dT kvs)):aZ2 K H (.ref a) (.type "dict")
 |ins {a C dx:Addr} {fs:List (Str×V)} (e:H a=some (.ins C dx fs)) (cl:Cls K C) (ha:bYV K (.ref C) "__class__"=some (some (.builtin "object.__class__")))
   (hn:cZG K (.builtin "object.__class__") "__get__"=some (some (.builtin "getset_descriptor.__get__"))) (htk:PySem.W.takesIn K (.builtin "object.__class__")=some true)
   (hm:cZn K C (.type "object")=some true):aZ2 K H (.ref a) (.ref C)
theorem aKH{x:V}{u t:bYa}(I:Inv X pins σ H s)(d:zH x u)(ty:aZ2 X.K H x t)(e:bY2 X.K t c=some b)(h:∀tk,Q (.bool b) {s with toks:=tk}): bYi (bYk X.prog X.w) A (call (.builtin "isinstance") [u,c]) Q E s:=by
 cases ty with
 |non=>cases (show u=Value.none from d);exact cQL PySem.W.kitx_none I.kIn cQw e (λz=>nomatch z) h
 |bl y=>cases (show u=Value.bool y from d);exact cQL PySem.W.kitx_bool I.kIn cQw e (λz=>nomatch z) h
 |int i=>obtain⟨t,q⟩:=(show ∃t,u=Value.int i t from d);cases q;exact cQL PySem.W.kitx_int I.kIn cQw e (λz=>nomatch z) h
 |str y=>obtain⟨t,q⟩:=(show ∃t,u=Value.str y t from d);cases q;exact cQL PySem.W.kitx_str I.kIn cQw e (λz=>nomatch z) h
 |flt y=>obtain⟨t,q⟩:=(show ∃t,u=Value.float y t from d);cases q;exact cQL PySem.W.kitx_float I.kIn cQw e (λz=>nomatch z) h
 |@lst a xs f=>cases (show u=Value.ref a from d);obtain⟨_,_,n,_,h1⟩:=(show zA X.prog X.w H s.heap a (.lst xs)from I.hok a _ f);exact cQL cZE I.kIn ⟨_,h1,rfl⟩ e (λz=>nomatch z) h
 |@frz a m xs f=>cases (show u=Value.ref a from d);obtain⟨_,_,_,n,_,h1⟩:=(show zA X.prog X.w H s.heap a (.frz m (.lst xs))from I.hok a _ f);exact cQL cZE I.kIn ⟨_,h1,rfl⟩ e (λz=>nomatch z) h
 |@tup a xs f=>cases (show u=Value.ref a from d);obtain⟨_,_,_,p⟩:=(show zA X.prog X.w H s.heap a (.tup xs)from I.hok a _ f);obtain⟨o,h1,h2,_⟩:=p;exact cQL PySem.W.kitx_tuple I.kIn ⟨o,h1,h2⟩ e (λz=>nomatch z) h
 |@dK a g f=>cases (show u=Value.ref a from d);obtain⟨_,_,B,_,p⟩:=(show zA X.prog X.w H s.heap a (.dK g)from I.hok a _ f);obtain⟨o,es,k,h1,h2,_⟩:=p;exact cQL cZD I.kIn ⟨o,h1,h2.1⟩ e (λz=>nomatch z) h
 |@dT a g f=>cases (show u=Value.ref a from d);obtain⟨_,_,xs,_,o,es,k,h1,h2,_⟩:=(show zA X.prog X.w H s.heap a (.dT g)from I.hok a _ f);exact cQL cZD I.kIn ⟨o,h1,h2.1⟩ e (λz=>nomatch z) h
 |@ins a C dx fs f cl r l j v=>cases (show u=Value.ref a from d);obtain⟨mA,O,_⟩:=Q7 I.hok f;obtain⟨D,J,_⟩:=O.look;exact cQL (PySem.W.kitx_own (cl.get _) cl.hd r l j v) I.kIn J e (λz=>nomatch z) h
end
end L2
namespace L2
open PySem PySem.Spec PyProof.Rows
structure vM(k:Nat)(A:bYO):Prop where
 hd:A.handled=none
 dp:A.depth+3*k+5<recursionLimit
 un:A.units+16*k+200<cLine
theorem vM.mono{j k:Nat}{A:bYO}(r:vM k A)(h:j<=k):vM j A:=⟨r.hd,by have:=r.dp;omega,by have:=r.un;omega⟩
theorem vM.deeper{k:Nat}{A:bYO}(r:vM (k+1) A)(env:Env):vM k (A.deeper env):=
 ⟨r.hd,by have:=r.dp;show A.depth+1+3*k+5<_;omega,by have:=r.un;show A.units+3+16*k+200<_;omega⟩
theorem aWm{A:bYO}{C:Addr}{us:List bYa}{a:List (Str×bYa)}:(A.under (.builtin "type.__call__" ⟨.ref C::us,a⟩)).depth=A.depth+1:=by
 first|rfl|simp[Around.under,Code.weight,Code.isCreation,Code.isGuard,Code.isCaller,Code.frames,Code.isFrame,guardIds]
theorem aWn{A:bYO}{C:Addr}{us:List bYa}{a:List (Str×bYa)}:(A.under (.builtin "type.__call__" ⟨.ref C::us,a⟩)).units=A.units+1:=by
 first|rfl|simp[Around.under,Code.cUnits,Code.frames,Code.isFrame]
theorem vM.make{k:Nat}{A:bYO}(r:vM (k+1) A)(C:Addr)(us:List bYa)(a:List (Str×bYa)):vM k (A.under (.builtin "type.__call__" ⟨.ref C::us,a⟩)):=
 ⟨r.hd,by have:=r.dp;rw[aWm];omega,by have:=r.un;rw[aWn];omega⟩
theorem vM.depth{k:Nat}{A:bYO}(r:vM k A):A.depth<recursionLimit:=by have:=r.dp;omega
theorem vM.units{k:Nat}{A:bYO}(r:vM k A):A.units+64<cLine:=by have:=r.un;omega
theorem vM.units0{k:Nat}{A:bYO}(r:vM k A):A.units<cLine:=by have:=r.un;omega
def bZh:TA:=λ_ H Q=>Q [] H
def aW7(ta:TE)(a:TA):TA:=λσ H Q=>ta σ H λx H1=>a σ H1 λxs H2=>Q (x::xs) H2
section
variable {X:Cx}{e:Expr}{es:List Expr}{te:TE}{t:TA}{pos:Pos}
theorem yD:PA X [] bZh:=λ_ _ _ _ H Q I h=>Calls.spliced_nil ⟨[],H,I,.nil,h⟩
theorem yA(a:PE X e te)(b:PA X es t)(c:bYN (e::es) X.env=(false,eval e X.env)::bYN es X.env:=by rfl):PA X (e::es) (aW7 te t):=by
 intro pos pins s σ H Q I h;rw[c];show bYi _ _ (spliced ((false,eval e X.env)::cQN pos (bYN es X.env))) _ _ s;refine Calls.spliced_cons (thn (a pins s σ H _ I h) λu s1 ⟨x,H1,I1,r1,q1⟩=>?_);exact thn (b pos pins s1 σ H1 _ I1 q1) λus s2 ⟨xs,H2,I2,r2,q2⟩=>⟨x::xs,H2,I2,.cons r1 r2,q2⟩
def bKP(t:TA):TE:=λσ H Q=>t σ H λxs H1=>xs.length<=bYB/\∀p,H1 p=none->Q (.ref p) (upd H1 p (.tup xs))
def bKN(t:TA):TE:=λσ H Q=>t σ H λxs H1=>xs.length<=bYB/\∀p,H1 p=none->Q (.ref p) (upd H1 p (.lst xs))
theorem xI{x1}(h:PA X es t):PE X (.Tuple es x1 pos) (bKP t):=by
 intro pins s σ H Q I c;refine wpAny_Tuple_spliced (thn (h pos pins s σ H _ I c) λus s1 ⟨xs,H1,I1,r,z,q⟩=>⟨by rw[<- r.length];exact z,?_⟩);have a:H1 s1.heap.objs.size=none:=I1.hok.fresh (bYh _);refine⟨.ref s1.heap.objs.size,upd H1 s1.heap.objs.size (.tup xs),I1.laid (t':=s1.toks) (λb u e=>bYf _ e) (bYh _) ?_,rfl,q _ a⟩;exact⟨z,us,r,⟨_,bYE _ rfl,rfl,_,rfl⟩⟩
theorem y6(h:PA X es t):PE X (.List es pos) (bKN t):=by
 intro pins s σ H Q I c;refine wpAny_List_spliced (thn (h pos pins s σ H _ I c) λus s1 ⟨xs,H1,I1,r,z,q⟩=>⟨by rw[<- r.length];exact z,?_⟩);have a:H1 s1.heap.objs.size=none:=I1.hok.fresh (bYh _);refine⟨.ref s1.heap.objs.size,upd H1 s1.heap.objs.size (.lst xs),I1.laid (t':=s1.toks) (λb u e=>bYf _ e) (bYh _) ?_,rfl,q _ a⟩;exact⟨z,us,0,r,bYE _ rfl⟩
end
abbrev Sp:=List V->Hp->VK->XK->Prop
abbrev CXT:=List Env->Hp->bYd->XK->bYa->bYd->Prop
structure bJa(P:bYx)(w:bYD)(K:bYc)(mg:Str->Option bYa)(base:Heap)(A:bYO)(outer:List Env)(s:bYd)(H:Hp):Prop where
 frames:A.frames=some outer
 mod:Mod K mg base
 bs:∀b o,base.get? b=some o->s.heap.get? b=some o/\H b=none
 bsz:base.objs.size<=s.heap.objs.size
 funs:s.heap.FunFrames base outer
 frf:∀b∈frs outer,H b=none
 hok:HOk P w H s.heap
 bare:AllBare s.gens
def CE(outer:List Env)(P:bYx)(w:bYD)(H:Hp)(s:bYd)(Q:VK)(u:bYa)(s':bYd):Prop:=
 ∃v H',s'.os=s.os/\AllBare s'.gens/\Un (frs outer) [] H H' s.heap s'.heap/\HOk P w H' s'.heap/\zH v u/\Q v H'
def CR(CX:CXT)(outer:List Env)(P:bYx)(w:bYD)(H:Hp)(s:bYd)(Q:VK)(E:XK)(r:Result)(s':bYd):Prop:=
 match r with
 |.ok (.ret u)=>CE outer P w H s Q u s'
 |.ok _=>False
 |.error e=>CX outer H s E e s'
structure xD(P:bYx)(w:bYD)(K:bYc)(mg:Str->Option bYa)(base:Heap)(CX:CXT)(k:Nat)(f:Addr)(fd:cQ9)(ps:List Str)(sp:Sp):Prop where
 len:∀vs H Q E,sp vs H Q E->vs.length=ps.length
 run:∀ (A:bYO)(outer:List Env)(s:bYd)(H:Hp)(args:Args)(us:List bYa)(vs:List V)(Q:VK)(E:XK),vM k A->bJa P w K mg base A outer s H->BindsTo s fd args (ps.zip us)->xV vs us->sp vs H Q E->
  cXr (bYk P w) A (.call (.ref f) args) (CR CX outer P w H s Q E) s
theorem xD.mono{P:bYx}{w:bYD}{K:bYc}{mg:Str->Option bYa}{base:Heap}{CX:CXT}{j k:Nat}{f:Addr}{fd:cQ9}{ps:List Str}{sp:Sp}(F:xD P w K mg base CX j f fd ps sp)(h:j<=k):
  xD P w K mg base CX k f fd ps sp:=⟨F.len,λA outer s H args b a Q E c=>F.run A outer s H args b a Q E (c.mono h)⟩
theorem bJa.make{P:bYx}{w:bYD}{K:bYc}{mg:Str->Option bYa}{base:Heap}{A:bYO}{outer:List Env}{s:bYd}{H:Hp}(e:bJa P w K mg base A outer s H)(C:Addr)(us:List bYa)(a:List (Str×bYa)):
  bJa P w K mg base (A.under (.builtin "type.__call__" ⟨.ref C::us,a⟩)) outer s H:=⟨by first|exact e.frames|(simpa[Around.under,Code.envs,Code.isFrame,pushEnvs]using e.frames),e.mod,e.bs,e.bsz,e.funs,e.frf,e.hok,e.bare⟩
section
variable {X:Cx}{pins:List (Addr×Obj)}{σ:St}{H:Hp}{s s':bYd}
theorem Inv.env0(I:Inv X pins σ H s):bJa X.prog X.w X.K X.mg X.base X.A X.stack s H:=
 ⟨I.ok.frames,I.ok.mod,I.bs,bYQ I.ok.bsz I.sz,I.stack,I.stkFree,I.hok,I.bare⟩
theorem Inv.after{Q:VK}{u:bYa}(I:Inv X pins σ H s)(h:CE X.stack X.prog X.w H s Q u s'):EP X pins σ Q u s':=by
 obtain⟨v,H',f,bare,un,a,r,q⟩:=h;obtain⟨e,g,d,t,c⟩:=s';obtain rfl:c=s.os:=f;exact⟨v,H',I.call (h':=e) (g':=g) (d':=d) (t':=t) (ch:= []) un a bare (λb z=>absurd z (by simp)),r,q⟩
end
def bZe(sp:Sp)(dvs:List V)(E:XK)(t:TA):TE:=λσ H Q=>t σ H λa H1=>sp (a++dvs) H1 Q E
def bZg(C:Addr)(m:Str)(sp:Sp)(dvs:List V)(E:XK)(ta:TE)(t:TA):TE:=λσ H Q=>ta σ H λx H1=>∃a dx fs,x= .ref a/\H1 a=some (.ins C dx fs)/\fs.lookup m=none/\
 t σ H1 λb H2=>sp (x::(b++dvs)) H2 Q E
def bZf(C:Addr)(sp:Sp)(dvs:List V)(E:XK)(t:TA):TE:=λσ H Q=>t σ H λa H1=>∀x dx,H1 x=none->H1 dx=none->dx≠x->
 sp (.ref x::(a++dvs)) (upd (upd H1 dx (.own x)) x (.ins C dx [])) (λv H2=>v= .non/\Q (.ref x) H2) E
def vT(K:bYc)(fd:cQ9)(ps:List Str)(ds:List bYa):Prop:=
 ∀ (s:bYd)(a:List bYa),K.In s.heap->(a++ds).length=ps.length->BindsTo s fd ⟨a,[]⟩ (ps.zip (a++ds))
theorem vT.all{K:bYc}{fd:cQ9}{ps:List Str}(h:∀a:List bYa,a.length=ps.length->bindArgs fd ⟨a,[]⟩=pure (ps.zip a)):vT K fd ps []:=λs a _ hl=>by
 rw[cQf]at hl ⊢;exact .of_eq (h a hl)
def vG(CX:CXT)(X:Cx)(E:XK):Prop:=∀ (pins:List (Addr×Obj))(σ:St)(H:Hp)(s:bYd)(e:bYa)(s':bYd),Inv X pins σ H s->CX X.stack H s E e s'->X.xe e s'
section
variable {X:Cx}{CX:CXT}{k:Nat}{f C:Addr}{fd:cQ9}{ps:List Str}{sp:Sp}{dvs:List V}{ds:List bYa}{E:XK}{x m:Str}{p pos apos:Pos}{e o:Expr}{es:List Expr}{ta:TE}{t:TA}
theorem aZH{pins:List (Addr×Obj)}{σ:St}{H:Hp}{s:bYd}{Q:VK}{us:List bYa}{vs:List V}(F:xD X.prog X.w X.K X.mg X.base CX k f fd ps sp)(c:vM k X.A)(i:vT X.K fd ps ds)(d:xV dvs ds)(j:vG CX X E) (I:Inv X pins σ H s) (r:xV vs us) (h:sp (vs++dvs) H Q E):bYi (bYk X.prog X.w) X.A (call (.ref f) us) (EP X pins σ Q) X.xe s:=by
 have b:xV (vs++dvs) (us++ds):=r.append d;have hl:(us++ds).length=ps.length:=by rw[<- b.length];exact F.len _ _ _ _ h
 refine cZl (cQ4 (F.run X.A X.stack s H ⟨us,[]⟩ (us++ds) (vs++dvs) Q E c I.env0 (i s us I.kIn hl) b h) λr s' a=>?_);cases r with
 |error e=>exact j pins σ H s e s' I a
 |ok g=>
  cases g with
  |ret u=>exact I.after a
  |next=>exact cQF a
  |brk=>exact cQF a
  |cont=>exact cQF a
theorem aYn(F:xD X.prog X.w X.K X.mg X.base CX k f fd ps sp)(c:vM k X.A)(i:Gl X x)(m:X.mg x=some (.ref f))(g:bY6 X.K (.ref f)=true)(n:vT X.K fd ps ds)(d:xV dvs ds)(o:vG CX X E)
  (l:PA X (e::es) t) (b:(x==("__debug__":Str))=false:=by decide) (j:bYN (e::es) X.env=(false,eval e X.env)::bYN es X.env:=by rfl) (a:(cQN pos (bYN es X.env)).any (·.1)=false:=by rfl):
  PE X (.Call (.Name x p) (e::es) [] pos) (bZe sp dvs E t):=by
 intro pins s σ H Q I h
 refine cQO (uK I i m ?_ b)
 refine cX0 (h₀:=X.base) I.ok.mod.kin g (thn (l pos pins s σ H _ I h) λus s1 ⟨vs,H1,I1,r,q⟩=>⟨I1.kIn,?_⟩) j a
 exact aZH F c n d o I1 r q
theorem bJ4{pl:Sem Bool}(p:PE X o ta)(c:Cls X.K C)(g:bVU X.K C m f)(F:xD X.prog X.w X.K X.mg X.base CX k f fd ps sp)(j:vM k X.A)(y:vT X.K fd ps ds)(n:xV dvs ds)(z:vG CX X E)(v:PA X (e::es) t)
  (d:bYN (e::es) X.env=(false,eval e X.env)::bYN es X.env:=by rfl) (b:(cQN pos (bYN es X.env)).any (·.1)=false:=by rfl)
  (i:eval (.Call (.Attribute o m apos) (e::es) [] pos) X.env=(do
   let ov <- eval o X.env
   standAt apos.atName
   let (f,first) <- cZs [ov] (cZz ov m pl)
   callWith pos f first (cQN pos (bYN (e::es) X.env)) (cZk pos (cXw [] X.env))):=by rfl):
  PE X (.Call (.Attribute o m apos) (e::es) [] pos) (bZg C m sp dvs E ta t):=by
 intro pins s σ H Q I h
 refine cZb (pl:=pl) (thn (p pins s σ H _ I h) λu s1 ⟨x,H1,I1,rx,a,dx,fs,ex,ea,l,q⟩=>?_) i
 subst ex
 obtain rfl:u=Value.ref a:=rx
 refine Y0 I1 ea c g l ?_
 refine cX0 (first:= [.ref a]) (h₀:=X.base) I.ok.mod.kin g.kp (thn (v pos pins s1 σ H1 _ I1 q) λus s2 ⟨vs,H2,I2,r,q2⟩=>⟨I2.kIn,?_⟩) d b
 exact aZH (us:= .ref a::us) (vs:= .ref a::vs) F j y n z I2 (.cons rfl r) q2
theorem bXD{pl:Sem Bool}(j:PE X o ta)(c:Cls X.K C)(b:bVU X.K C m f)(F:xD X.prog X.w X.K X.mg X.base CX k f fd ps sp)(i:vM k X.A)(d:vT X.K fd ps ds)(n:xV dvs ds)(e:vG CX X E)
  (g:eval (.Call (.Attribute o m apos) [] [] pos) X.env=(do
   let ov <- eval o X.env
   standAt apos.atName
   let (f,first) <- cZs [ov] (cZz ov m pl)
   callWith pos f first (cQN pos (bYN [] X.env)) (cZk pos (cXw [] X.env))):=by rfl):
  PE X (.Call (.Attribute o m apos) [] [] pos) (bZg C m sp dvs E ta bZh):=by
 intro pins s σ H Q I h
 refine cZb (pl:=pl) (thn (j pins s σ H _ I h) λu s1 ⟨x,H1,I1,rx,a,dx,fs,ex,ea,l,q⟩=>?_) g
 subst ex
 obtain rfl:u=Value.ref a:=rx
 refine Y0 I1 ea c b l ?_
 exact cZ3 (first:= [.ref a]) I1.kIn b.kp (aZH (us:= [.ref a]) (vs:= [.ref a]) F i d n e I1 (.cons rfl .nil) q)
structure Mk(K:bYc)(C f:Addr):Prop where
 makes:PySem.W.makesIn K C=true
 init:bYV K (.ref C) "__init__"=some (some (.ref f))
 fn:cXQ K (.ref f)=true
 kp:bY6 K (.ref C)=true
theorem aVx{pins:List (Addr×Obj)}{σ:St}{H:Hp}{s:bYd}{Q:VK}{us:List bYa}{vs:List V}(M:Mk X.K C f)(F:xD X.prog X.w X.K X.mg X.base CX k f fd ps sp)(i:vM (k+1) X.A)(o:vT X.K fd ps ds)(j:xV dvs ds) (q:vG CX X E) (I:Inv X pins σ H s) (r:xV vs us) (h:∀x dx,H x=none->H dx=none->dx≠x->sp (.ref x::(vs++dvs)) (upd (upd H dx (.own x)) x (.ins C dx [])) (λv H2=>v= .non/\Q (.ref x) H2) E): bYi (bYk X.prog X.w) X.A (call (.ref C) us) (EP X pins σ Q) X.xe s:=by
 have d:=h (s.heap.objs.size+1) s.heap.objs.size (I.hok.fresh (cXi _)) (I.hok.fresh (bYh _)) (bYA (cQ2 _));have b:=Inv.made (C:=C) I;have c:xV (V.ref (s.heap.objs.size+1)::(vs++dvs)) (Value.ref (s.heap.objs.size+1)::(us++ds)):= .cons rfl (r.append j);have hl:(Value.ref (s.heap.objs.size+1)::us++ds).length=ps.length:=by have e:=c.length;rw[F.len _ _ _ _ d]at e;exact e.symm
 refine cZl (bQ8 (f:=f) I.kIn M.makes M.init (beq_iff_eq.mp M.fn) (cQ4 (F.run _ X.stack _ _ ⟨Value.ref (s.heap.objs.size+1)::us,[]⟩ (Value.ref (s.heap.objs.size+1)::(us++ds)) _ _ E (i.make C us []) (b.env0.make C us []) (o _ (Value.ref (s.heap.objs.size+1)::us) b.kIn hl) c d) λr s' a=>?_));cases r with
 |error e=>exact q pins σ _ _ e s' b a
 |ok m=>
  cases m with
  |ret u=>obtain⟨v,H',g,p,l,n⟩:=b.after a;subst l;exact⟨p,⟨V.ref (s.heap.objs.size+1),H',g,rfl,n⟩⟩
  |next=>exact cQF a
  |brk=>exact cQF a
  |cont=>exact cQF a
theorem bJ3(M:Mk X.K C f)(F:xD X.prog X.w X.K X.mg X.base CX k f fd ps sp)(c:vM (k+1) X.A)(g:Gl X x)(l:X.mg x=some (.ref C))(m:vT X.K fd ps ds)(d:xV dvs ds)(n:vG CX X E)
  (j:PA X (e::es) t) (b:(x==("__debug__":Str))=false:=by decide) (i:bYN (e::es) X.env=(false,eval e X.env)::bYN es X.env:=by rfl) (a:(cQN pos (bYN es X.env)).any (·.1)=false:=by rfl):
  PE X (.Call (.Name x p) (e::es) [] pos) (bZf C sp dvs E t):=by
 intro pins s σ H Q I h
 refine cQO (uK I g l ?_ b)
 refine cX0 (h₀:=X.base) I.ok.mod.kin M.kp (thn (j pos pins s σ H _ I h) λus s1 ⟨vs,H1,I1,r,q⟩=>⟨I1.kIn,?_⟩) i a
 exact aVx M F c m d n I1 r q
theorem bXC(M:Mk X.K C f)(F:xD X.prog X.w X.K X.mg X.base CX k f fd ps sp)(e:vM (k+1) X.A)(g:Gl X x)(b:X.mg x=some (.ref C))(c:vT X.K fd ps ds)(i:xV dvs ds)(d:vG CX X E) (a:(x==("__debug__":Str))=false:=by decide):PE X (.Call (.Name x p) [] [] pos) (bZf C sp dvs E bZh):=by
 intro pins s σ H Q I h;refine cQO (uK I g b ?_ a);exact cZ3 I.kIn M.kp (aVx (us:= []) M F e c i d I .nil h)
end
section
variable {X:Cx}{CX:CXT}{k:Nat}{f C:Addr}{fd:cQ9}{ps ks:List Str}{sp:Sp}{E:XK}{x m:Str}{p pos apos kpos:Pos}{e o:Expr}{es:List Expr}{kws:List Keyword}{te ta:TE}{t tk:TA}{nm:Option Str}
variable {g:List bYa->List bYa->List bYa}{gV:List V->List V->List V}
end
structure yO(N P:List Str)(sc:cXo):Prop where
 kind:sc.kind= .function
 co:sc.isCoroutine=false
 gen:sc.isGenerator=false
 nd:N.Nodup
 pre:N.take P.length=P
 par:∀x∈P,sc.names.lookup x=some .local\/sc.names.lookup x=some .cell
 nofree:∀y∈sc.names,y.2≠ .free
theorem aX8{a:Str->Option cZj}{x:Str}:∀ {binds:List (Str×bYa)} {m:Str->Option bYa},(∀v,(x,v)∉binds)->bindL a binds m x=m x
 |[],_,_=>rfl
 |(n,v)::r,m,h=>by
  unfold bindL;rw[aX8 λw hw=>h w (bYm _ hw)];split
  ·have:x≠n:=by rintro rfl;exact h v bYp
   simp[this]
  ·rfl
theorem aX6{a:Str->Option cZj}{x:Str}:∀ {binds:List (Str×bYa)} {m:Str->Option bYa},(∀v,(x,v)∉binds)->bindC a binds m x=m x
 |[],_,_=>rfl
 |(n,v)::r,m,h=>by
  unfold bindC;rw[aX6 λw hw=>h w (bYm _ hw)];split
  ·rfl
  ·have:x≠n:=by rintro rfl;exact h v bYp
   simp[this]
theorem aX7{a:Str->Option cZj}{x:Str}{v:bYa}:∀ {P:List Str} {vs:List bYa} {i:Nat} {m:Str->Option bYa},P.Nodup->P[i]? =some x->vs[i]? =some v->a x=some .local->
  bindL a (P.zip vs) m x=some v
 |[],_,_,_,_,h,_,_=>by simp at h
 |_::_,[],_,_,_,_,h,_=>by simp at h
 |p::P,w::vs,0,m,nd,h1,h2,hk=>by simp at h1 h2;subst h1;subst h2;show bindL a ((p,w)::P.zip vs) m p=_;unfold bindL;rw[aX8 λv b=>(cXc.mp nd).1 (List.of_mem_zip b).1,if_pos hk];simp
 |p::P,w::vs,i+1,m,nd,h1,h2,hk=>by show bindL a ((p,w)::P.zip vs) m x=_;unfold bindL;exact aX7 (i:=i) (cXc.mp nd).2 (by simpa using h1) (by simpa using h2) hk
theorem aX5{a:Str->Option cZj}{x:Str}{v:bYa}:∀ {P:List Str} {vs:List bYa} {i:Nat} {m:Str->Option bYa},P.Nodup->P[i]? =some x->vs[i]? =some v->a x≠some .local->
  bindC a (P.zip vs) m x=some v
 |[],_,_,_,_,h,_,_=>by simp at h
 |_::_,[],_,_,_,_,h,_=>by simp at h
 |p::P,w::vs,0,m,nd,h1,h2,hk=>by simp at h1 h2;subst h1;subst h2;show bindC a ((p,w)::P.zip vs) m p=_;unfold bindC;rw[aX6 λv b=>(cXc.mp nd).1 (List.of_mem_zip b).1,if_neg hk];simp
 |p::P,w::vs,i+1,m,nd,h1,h2,hk=>by show bindC a ((p,w)::P.zip vs) m x=_;unfold bindC;exact aX5 (i:=i) (cXc.mp nd).2 (by simpa using h1) (by simpa using h2) hk
def start(N:List Str)(vs:List V):St:=vs.map some++cXJ (N.length - vs.length) none
def aXn(CX:CXT)(P:bYx)(w:bYD)(K:bYc)(mg:Str->Option bYa)(base:Heap)(N:List Str)(qual:Str)(scope:cXo)(f:Addr)(cd:bYa)(A:bYO)(outer:List Env)(s:bYd)(H:Hp)(E:XK):Cx where
 prog:=P
 w:=w
 K:=K
 mg:=mg
 base:=base
 A:=A.deeper (cQ8 qual scope s.heap.objs.size f cd)
 N:=N
 s₀:=s
 H₀:=H
 env:=cQ8 qual scope s.heap.objs.size f cd
 outer:=outer
 stack:=cQ8 qual scope s.heap.objs.size f cd::outer
 ex:= []
 calm:=true
 fn:=λ_=>true
 pn:= []
 xe:=λe s'=>bYi (bYk P w) (A.deeper (cQ8 qual scope s.heap.objs.size f cd)) (leaving (cQ8 qual scope s.heap.objs.size f cd) e) (λ_ s''=>CX outer H s E e s'') (λe' s''=>CX outer H s E e' s'') s'
theorem aVc{a:cXo}{n:Nat}{x:Str}(h:a.names.lookup x=some .cell):∃c,(cellsFrom n a.names []).lookup x=some c:=by
 have q:=PySem.W.cellsFrom_some a.names n [] (.inl h);exact Option.isSome_iff_exists.mp q
theorem aKG{CX:CXT}{P:bYx}{w:bYD}{K:bYc}{mg:Str->Option bYa}{base:Heap}{N ps:List Str}{qual:Str}{scope:cXo}{f:Addr}{o:bYa}{A:bYO}{outer:List Env}{s C:bYd}{H:Hp}{E:XK}{us:List bYa}{vs:List V} (S:yO N ps scope) (F:A.handled=none) (d:bJa P w K mg base A outer s H) (hl:vs.length=ps.length) (r:xV vs us) (x:InCallC s s.heap.objs.size (bindL (cQ8 qual scope s.heap.objs.size f o).kindOf (ps.zip us) λ_=>none) (cellsFrom (s.heap.objs.size+1) scope.names []) (bindC (cQ8 qual scope s.heap.objs.size f o).kindOf (ps.zip us) λ_=>none) C): Inv (aXn CX P w K mg base N qual scope f o A outer s H E) [] (start N vs) H C:=by
 have D:ps.length<=N.length:=by have:=congrArg cXH S.pre;rw[cQn]at this;omega
 obtain⟨h1,tk,rfl,B⟩:=x.done;have j:∀b:Addr,b∉(aXn CX P w K mg base N qual scope f o A outer s H E).ex:=λb z=>absurd (show b∈([]:List Addr)from z) (by simp);refine⟨⟨d.mod,S.kind,rfl,rfl,bYh _,λy z c h1 h2=>?_,λy g=>?_,λy c _ h=>?_,λ_=>F,Around.frames_deeper d.frames,.inr ⟨rfl,rfl⟩,λb z=>absurd z (j b),d.bs,d.bsz,λb _ _=>j b,λb z=>absurd z (j b),d.funs,d.frf⟩,rfl,d.bare,Un.kept B,⟨_,x.toInCall.ns,λi y v h1 h2 J=>?_⟩,λy c h=>⟨_,x.cell y c h⟩,d.hok.fresh (bYh _),λy c h=>?_,λp m=>absurd (show p∈([]:List (Addr×Obj))from m) (by simp),d.hok.kept B,?_⟩
 ·exact name_of_addr x.apart (cQD h1) (cQD h2)
 ·have g:scope.names.lookup y=some .cell\/scope.names.lookup y=some .free:=g;rcases g with g|g
  ·exact aVc g
  ·exact absurd rfl (S.nofree _ (cQD g))
 ·exact cXO (x.above y c (cQD h))
 ·have hi:i<vs.length:=by
   unfold start at h2;by_cases hi:i<vs.length
   ·exact hi
   ·rw[bYv (by simpa using hi)]at h2;rw[List.getElem?_replicate]at h2;split at h2<;> cases h2
  have G:vs[i]? =some v:=by
   unfold start at h2;rw[bYF (by simpa using hi),bYu]at h2;cases e:vs[i]? with
   |none=>rw[e]at h2;cases h2
   |some a=>rw[e]at h2;cases h2;rfl
  obtain⟨u,t,I⟩:=r.get G;have m:ps[i]? =some y:=by rw[<- S.pre,List.getElem?_take_of_lt (by omega)];exact h1
  have l:ps.Nodup:=by rw[<- S.pre];exact S.nd.sublist (List.take_sublist _ _)
  refine⟨u,I,?_⟩;rcases S.par y (bYt m)with k|k
  ·exact .inl ⟨k,aX7 l m t k⟩
  ·obtain⟨c,e⟩:=aVc (n:=s.heap.objs.size+1) k;refine .inr ⟨.inl k,c,e,?_⟩;have q:=x.cell y c e;rw[aX5 l m t (by show scope.names.lookup y≠_;rw[k];decide)]at q;exact q
 ·exact d.hok.fresh (cXO (x.above y c (cQD h)))
 ·unfold start;show _=N.length;rw[bYy,bYe,List.length_replicate];omega
theorem bJs{CX:CXT}{P:bYx}{w:bYD}{K:bYc}{mg:Str->Option bYa}{base:Heap}{k:Nat}{f:Addr}{name qual:Str}{c:Arguments}{body:List Stmt}{scope:cXo}{L kV l F a ct U:bYa}{G X:Option Addr} {z:Array (Option bYa)} {N ps:List Str} {sp:Sp} (lk:K.lookup f=some ⟨U,X,.func (cQu name qual c body scope L kV l F G a ct),z⟩) (p:cQS K a qual=true) (S:yO N ps scope) (len:∀vs H Q E,sp vs H Q E->vs.length=ps.length) (g:∀ (A:bYO)(outer:List Env)(s:bYd)(H:Hp)(vs:List V)(Q:VK)(E:XK),vM k (A.deeper (cQ8 qual scope s.heap.objs.size f a))->sp vs H Q E-> ∃t,PSs (aXn CX P w K mg base N qual scope f a A outer s H E) body t/\t {nx:=λ_ H'=>Q .non H',rt:=Q} (start N vs) H): xD P w K mg base CX (k+1) f (cQu name qual c body scope L kV l F G a ct) ps sp:=by
 refine⟨len,λA outer s H args R vs Q E B j hb r m=>?_⟩;have hl:=len _ _ _ _ m;have M:K.In s.heap:=j.mod.kin.keeps λb o e=>(j.bs b o e).1;have C:s.heap.NoLimit:=j.mod.nolimit.keeps λb o e=>(j.bs b o e).1;have h:∀y∈ps.zip R,scope.names.lookup y.1=some .local\/(scope.names.lookup y.1=some .cell/\((cellsFrom (s.heap.objs.size+1) scope.names []).lookup y.1).isSome=true):=λ⟨n,v⟩ hy=>by
  rcases S.par n (List.of_mem_zip hy).1 with q|q
  ·exact .inl q
  ·exact .inr ⟨q,PySem.W.cellsFrom_some _ _ _ (.inl q)⟩
 refine codeAny_call_function B.depth (M _ _ lk) rfl S.co S.gen rfl (PySem.W.codeRec_of M p) (hb _ _ _ _ ?_);refine wpAny_newFunctionEnv_cells S.kind h λenv Z O x=>?_;subst Z;refine⟨C.keeps x.toInCall.keep,codeAny_func ?_⟩;obtain⟨t,T,hq⟩:=g A outer s H vs Q E (B.deeper _) m;have I:Inv (aXn CX P w K mg base N qual scope f a A outer s H E) [] (start N vs) H O:=aKG S B.hd j hl r x;refine cQc (T [] O (start N vs) H _ I hq) (λY s' i=>?_) λe s' i=>i;have fin:∀ {d:St} {H':Hp} {v:V} {u:bYa},Inv (aXn CX P w K mg base N qual scope f a A outer s H E) [] d H' s'->zH v u->Q v H'->CE outer P w H s Q u s':=
  λ{d H' v u} J D q=>⟨v,H',J.os,J.bare,J.base,J.hok,D,q⟩
 cases Y with
 |ret u=>obtain⟨v,d,H',J,D,q⟩:=i;exact fin J D q
 |next=>obtain⟨d,H',J,q⟩:=i;exact fin (v:=V.non) (u:=Value.none) J rfl q
 |brk=>obtain⟨_,_,_,q⟩:=i;exact cQF q
 |cont=>obtain⟨_,_,_,q⟩:=i;exact cQF q
end L2
namespace L2
open PySem PySem.Spec PyProof.Rows
section
variable {X:Cx}{x:Str}{p pos:Pos}{e:Expr}{es:List Expr}{t:TA}{id T:String}{r:List V->Hp->VK->Prop}
def tCB(r:List V->Hp->VK->Prop)(t:TA):TE:=λσ H Q=>t σ H λa H1=>r a H1 Q
theorem yT(j:jM X (.builtin id) r)(i:Gl X x)(f:X.mg x=none)(d:bYT x=some (.builtin id))(c:PA X (e::es) t)(g:x≠"__name__":=by decide)(b:(x==("__debug__":Str))=false:=by decide)
  (k:bYN (e::es) X.env=(false,eval e X.env)::bYN es X.env:=by rfl) (a:(cQN pos (bYN es X.env)).any (·.1)=false:=by rfl):PE X (.Call (.Name x p) (e::es) [] pos) (tCB r t):=by
 intro pins s σ H Q I h
 refine cQO (aXa I i f d ?_ g b)
 exact PyProof.Rows.callWith_builtin1 (thn (c pos pins s σ H _ I h) λus s1 ⟨vs,H1,I1,r1,q1⟩=>j pins s1 σ H1 vs us Q I1 r1 q1) k a
theorem x4(j:jM X (.type T) r)(i:Gl X x)(f:X.mg x=none)(d:bYT x=some (.type T))(c:PA X (e::es) t)(g:x≠"__name__":=by decide)(b:(x==("__debug__":Str))=false:=by decide)
  (k:bYN (e::es) X.env=(false,eval e X.env)::bYN es X.env:=by rfl) (a:(cQN pos (bYN es X.env)).any (·.1)=false:=by rfl):PE X (.Call (.Name x p) (e::es) [] pos) (tCB r t):=by
 intro pins s σ H Q I h
 refine cQO (aXa I i f d ?_ g b)
 exact cZd (thn (c pos pins s σ H _ I h) λus s1 ⟨vs,H1,I1,r1,q1⟩=>j pins s1 σ H1 vs us Q I1 r1 q1) k a
end
end L2
namespace HT
open PySem PyProof.Rows
theorem bXH(A:bYO)(s:bYd)(a:Int)(t:Tok)(c:Int)(u:Tok)(prog:bYx)(w:bYD)(E:bYa->bYd->Prop)(Q:bYa->bYd->Prop)(h:Q (.bool (decide (a<c))) s): bYi (bYk prog w) A (richCompare .Lt (.int a t) (.int c u)) Q E s:=
 (PyProof.Rows.lt_int h:bYi (bYk prog w) A (cQE .Lt (.int a t) (.int c u)) Q E s)
section
open PySem.SeqAt
open PySem.AutoSeq1 (wpAny_loadPart')
open PySem.MeetsSeq PySem.MeetsSeq2 PySem.MeetsSeq3
end
section
variable {prog:bYx}{w:bYD}{A:bYO}{E:bYa->bYd->Prop}{s:bYd}
theorem bJi{t b:Addr}{vs a:List bYa}{Q:bYa->bYd->Prop}(v:cX6 s.heap t vs.toArray)(x:cX6 s.heap b a.toArray)(r:vs≠ []) (h1:a= []->Q (.ref t) s) (h2:a≠ []->Q (.ref s.heap.objs.size) {s with heap:=s.heap.push {cls:= .type "tuple",data:= .seq (vs++a).toArray} }) (k:vs.length+a.length<=bYB):bYi (bYk prog w) A (cXS .Add (.ref t) (.ref b)) Q E s:=by
 obtain⟨⟨cls,q,data,p⟩,i,o,n,m⟩:=id v;obtain⟨⟨l,h,j,g⟩,c,f,u,d⟩:=id x;simp only at o m f d;subst o m f d;have e:vs.toArray++a.toArray=(vs++a).toArray:=by simp
 by_cases hw:a= []
 ·exact concat_meets ⟨_,i,rfl⟩ ⟨_,c,rfl⟩ noFill_tuple_add seq_tuple_add PySem.F.slot_tuple_add PySem.F.entry_tuple_add (cJw _ _)
   (tuple_addW1 t b vs.toArray a.toArray n u q h p g (by simpa using r) (by simp[hw])) ⟨i,c,h1 hw⟩
 ·refine concat_meets ⟨_,i,rfl⟩ ⟨_,c,rfl⟩ noFill_tuple_add seq_tuple_add PySem.F.slot_tuple_add PySem.F.entry_tuple_add (cJw _ _)
   (tuple_addW2 t b vs.toArray a.toArray n u q h p g (by simpa using r) (by simpa using hw) (by rw[bYs,bYs];exact k)) ⟨i,c,?_⟩
  rw[e];exact h2 hw
def sIx(n d:Nat):Option Int->Nat
 |none=>d
 |some v=>if v<0 then(v+(n:Int)).toNat else min v.toNat n
theorem bXL(n d:Nat):sIx n d none=d:=rfl
end
end HT
namespace L2
open PySem PySem.Spec PyProof.Rows
abbrev TO:=St->Hp->(Option Int->Hp->Prop)->Prop
def PO(X:Cx)(e:Option Expr)(t:TO):Prop:=
 ∀ (pins:List (Addr×Obj))(s:bYd)(σ:St)(H:Hp)(Q:Option Int->Hp->Prop),Inv X pins σ H s->t σ H Q->
  bYi (bYk X.prog X.w) X.A (evalPart e X.env) (λu s'=>∃o H',Inv X pins σ H' s'/\IsPart u o/\Q o H') X.xe s
def bVN:TO:=λ_ H Q=>Q none H
def bKD(t:TE):TO:=λσ H Q=>t σ H λx H1=>∃i,x= .int i/\Q (some i) H1
theorem aQ8{a:List Int}:∀ {us:List bYa},xV (a.map V.int) us->cXI us a:=by
 induction a with
 |nil=>intro us r;rw[List.map_nil]at r;cases r;exact .nil
 |cons n a c=>
  intro us r;rw[bY0]at r;cases r with
  |cons d b=>obtain⟨t,e⟩:=d;subst e;exact .cons n t (c b)
section
variable {X:Cx}{e:Expr}{te:TE}{lo hi:Option Expr}{tl th:TO}{pos p2:Pos}
theorem aJD:PO X none bVN:=by
 intro pins s σ H Q I h;rw[evalPart_none];exact bYg ⟨none,H,I,.none,h⟩
theorem aJE(h:PE X e te):PO X (some e) (bKD te):=by
 intro pins s σ H Q I hw;rw[evalPart_some];refine thn (h pins s σ H _ I hw) λu s1 ⟨x,H1,I1,r1,q1⟩=>?_;obtain⟨i,rfl,q⟩:=q1;obtain⟨t,rfl⟩:=r1;exact⟨some i,H1,I1,.int i t,q⟩
def SlR(X:Cx)(r:V->Option Int->Option Int->Hp->VK->Prop):Prop:=
 ∀ (pins:List (Addr×Obj))(s:bYd)(σ:St)(H:Hp)(x:V)(v a c:bYa)(lo hi:Option Int)(b:Addr)(Q:VK),Inv X pins σ H s->zH x v->s.heap.IsSliceOf b a c .none->IsPart a lo->IsPart c hi->r x lo hi H Q->
  ∃T id,typeLookup (.type T) "__getitem__"=pure (some (.builtin id))/\s.TypeIs v T/\bYi (bYk X.prog X.w) X.A (getItem v (.ref b)) (EP X pins σ Q) X.xe s
def tSl(r:V->Option Int->Option Int->Hp->VK->Prop)(te:TE)(tl th:TO):TE:=λσ H Q=>te σ H λx H1=>tl σ H1 λl H2=>th σ H2 λu a=>r x l u a Q
theorem aXz{r:V->Option Int->Option Int->Hp->VK->Prop}(d:SlR X r)(i:PE X e te)(hl:PO X lo tl)(a:PO X hi th):PE X (.Subscript e (.Slice lo hi none p2) pos) (tSl r te tl th):=by
 intro pins s σ H Q I h;refine Subscript_ (thn (i pins s σ H _ I h) λv s1 ⟨x,H1,I1,r1,q1⟩=>?_);refine wpAny_Slice (thn (hl pins s1 σ H1 _ I1 q1) λvl s2 ⟨l,H2,I2,pl,q2⟩=>thn (a pins s2 σ H2 _ I2 q2) λvu s3 ⟨u,H3,I3,pu,q3⟩=>?_);rw[evalPart_none];refine bYg ?_;have j:Inv X pins σ H3 {s3 with heap:=s3.heap.push {cls:= .type "slice",data:= .fields #[vl,vu,.none] } }:=I3.kept (t':=s3.toks) λb k q=>bYf _ q;obtain⟨T,id,g,c,f⟩:=d pins {s3 with heap:=s3.heap.push {cls:= .type "slice",data:= .fields #[vl,vu,.none] } } σ H3 x v vl vu l u s3.heap.objs.size Q j r1 (Heap.IsSliceOf.new ..) pl pu q3;show bYi (bYk X.prog X.w) X.A (subscriptTail e (.Slice lo hi none p2) v (.ref s3.heap.objs.size)) (EP X pins σ Q) X.xe {s3 with heap:=s3.heap.push {cls:= .type "slice",data:= .fields #[vl,vu,.none] } };exact tail_any (ops:= [.ref s3.heap.objs.size,v]) c g f (by with_unfolding_all rfl)
def aXm(xs:List V)(lo hi:Option Int):List V:=(xs.drop (HT.sIx xs.length 0 lo)).take (HT.sIx xs.length xs.length hi - HT.sIx xs.length 0 lo)
theorem aJb(xs:List V)(lo hi:Option Int):(aXm xs lo hi).length<=xs.length:=by
 unfold aXm;rw[cQn,List.length_drop];omega
def bKu(K:bYc):R2:=λx y H Q=>∃a b xs ys,x= .ref a/\y= .ref b/\SqT K H a xs/\SqT K H b ys/\xs≠ []/\xs.length+ys.length<=bYB/\
 (ys= []->Q (.ref a) H)/\(ys≠ []->∀p,H p=none->Q (.ref p) (upd H p (.tup (xs++ys))))
theorem xV.nil_iff{xs:List V}{us:List bYa}(r:xV xs us):us= []↔xs= []:=by
 cases r with
 |nil=>simp
 |cons _ _=>simp
theorem bJ0:OpR X (cXS .Add) (bKu X.K):=by
 intro pins s σ H x y v u Q I k r h;obtain⟨a,b,xs,ys,rfl,rfl,m,n,p,e,l,j⟩:=h;cases k;cases r;obtain⟨g,d,i,_⟩:=I.tuple m;obtain⟨f,c,p2,_⟩:=I.tuple n;refine HT.bJi i p2 (λz=>p (d.nil_iff.mp z)) (λz=>⟨.ref a,H,I,rfl,l (c.nil_iff.mp z)⟩) (λz=>?_) (by rw[<- d.length,<- c.length];exact e);refine⟨.ref s.heap.objs.size,_,I.laid (t':=s.toks) (o:= .tup (xs++ys)) (λb t q=>bYf _ q) (bYh _) ?_,rfl,j (λw=>z (c.nil_iff.mpr w)) _ (I.hok.fresh (bYh _))⟩;exact⟨by rw[bYy];exact e,_,d.append c,IsTup.new _ _⟩
end
end L2
namespace L2
open PySem PySem.Spec PyProof.Rows
def ixN(n:Nat)(i:Int):Option Nat:=if 0<=i then(if i<n then some i.toNat else none)else if -(n:Int)<=i then some (i+n).toNat else none
def atI{α:Type}(xs:List α)(i:Int):Option α:=(ixN xs.length i).bind λj=>xs[j]?
theorem aKI{n:Nat}{i:Int}{j:Nat}(h:ixN n i=some j):seqIndex? i n=some j/\j<n/\ -(n:Int)<=i/\i<n:=by
 unfold ixN at h;by_cases h0:0<=i
 ·rw[if_pos h0]at h;by_cases h1:i<n
  ·rw[if_pos h1]at h;have e:i.toNat=j:=bYw h;exact⟨by rw[seqIndex_of h0 h1,e],by omega,by omega,h1⟩
  ·rw[if_neg h1]at h;cases h
 ·rw[if_neg h0]at h;by_cases h1: -(n:Int)<=i
  ·rw[if_pos h1]at h;have e:(i+n).toNat=j:=bYw h;exact⟨by rw[seqIndex_neg (by omega) h1,e],by omega,h1,by omega⟩
  ·rw[if_neg h1]at h;cases h
theorem aZ3{α:Type}{xs:List α}{i:Int}{v:α}(h:atI xs i=some v):∃j,seqIndex? i xs.length=some j/\xs[j]? =some v/\j<xs.length/\ -(xs.length:Int)<=i/\i<xs.length:=by
 unfold atI at h;cases e:ixN xs.length i with
 |none=>rw[e]at h;cases h
 |some j=>rw[e]at h;obtain⟨h1,h2,a,b⟩:=aKI e;exact⟨j,h1,h,h2,a,b⟩
theorem yR{α:Type}{xs:List α}{j:Nat}{v:α}(h:xs[j]? =some v):atI xs (j:Int)=some v:=by
 have a:j<xs.length:=(bYl.mp h).1;have e:ixN xs.length (j:Int)=some j:=by unfold ixN;rw[if_pos (by omega),if_pos (by omega)];simp
 unfold atI;rw[e];exact h
def bJg(b:Expr):Prop:=∀o i,subscripted b false o i=operate [o,i] (getItem o i)
def IxR(X:Cx)(r:R2):Prop:=
 ∀ (value a:Expr)(pins:List (Addr×Obj))(s:bYd)(σ:St)(H:Hp)(x y:V)(v u:bYa)(Q:VK),Inv X pins σ H s->zH x v->zH y u->r x y H Q->
  subscripted a false v u=operate [v,u] (getItem v u)->bYi (bYk X.prog X.w) X.A (subscriptTail value a v u) (EP X pins σ Q) X.xe s
def MtR(X:Cx)(id:String)(r:V->List V->Hp->VK->Prop):Prop:=
 ∀ (pins:List (Addr×Obj))(s:bYd)(σ:St)(H:Hp)(x:V)(xs:List V)(v:bYa)(a:List bYa)(Q:VK),Inv X pins σ H s->zH x v->xV xs a->r x xs H Q->
  bYi (bYk X.prog X.w) X.A (call (.builtin id) (v::a)) (EP X pins σ Q) X.xe s
section
variable {X:Cx}{a b:Expr}{ta tb:TE}{pos:Pos}
theorem IxR.or{r b:R2}(h:IxR X r)(h':IxR X b):IxR X (λx y H Q=>r x y H Q\/b x y H Q):=by
 intro value a pins s σ H x y v u Q I d e q c;rcases q with q|q
 ·exact h value a pins s σ H x y v u Q I d e q c
 ·exact h' value a pins s σ H x y v u Q I d e q c
theorem yL{r:R2}(c:IxR X r)(g:PE X a ta)(j:PE X b tb)(d:bJg b:=by exact λ_ _=>rfl):PE X (.Subscript a b pos) (tOp r ta tb):=by
 intro pins s σ H Q I h;exact Subscript_ (bKl g j I h λv u e x y H2 i f k q=>c a b pins e σ H2 x y v u Q i f k q (d _ _))
def aXW(K:bYc):R2:=λx y H Q=>∃p xs i v,x= .ref p/\y= .int i/\SqL K H p xs/\atI xs i=some v/\Q v H
def bZT(K:bYc):R2:=λx y H Q=>∃p xs i v,x= .ref p/\y= .int i/\SqT K H p xs/\atI xs i=some v/\Q v H
def bKK:R2:=λx y H Q=>∃z i c,x= .str z/\y= .int i/\z.length<=bYB/\atI z.cps.toList i=some c/\Q (.str ⟨#[c]⟩) H
theorem yI:IxR X (aXW X.K):=by
 intro value a pins s σ H x y v u Q I l n h g;obtain⟨p,xs,i,z,rfl,rfl,o,m,q⟩:=h;cases l;obtain⟨t,rfl⟩:=n;obtain⟨b,r,c,C⟩:=I.list o;obtain⟨j,h1,h2,D,A,k⟩:=aZ3 m;obtain⟨w,f,d⟩:=r.get h2;have hl:=r.length;have B:=aZu;have fin:EP X pins σ Q w s:=⟨z,H,I,d,q⟩;by_cases h0:0<=i
 ·have e:i.toNat=j:=by
   rw[seqIndex_of h0 k]at h1;exact bYw h1
  exact item_listR c.isList h0 (by omega) (by rw[e];simpa using f) fin g
 ·have e:(i+(b.toArray.size:Int)).toNat=j:=by
   rw[seqIndex_neg (by omega) A]at h1;rw[bYs,<- hl];exact bYw h1
  exact subscriptTail_builtinR (x:=w) c.isList.typeIs slot_list_getitem.lookup
   (wpAny_getItem_list_neg (Q:=λr s'=>r=w/\EP X pins σ Q r s') c.isList (by omega) (by rw[bYs]<;> omega) (by omega) (by rw[e];simpa using f) ⟨rfl,fin⟩) g
theorem yX:IxR X (bZT X.K):=by
 intro value a pins s σ H x y v u Q I g l h f;obtain⟨p,xs,i,z,rfl,rfl,m,k,q⟩:=h;cases g;obtain⟨t,rfl⟩:=l;obtain⟨d,r,c,o⟩:=I.tuple m;obtain⟨j,h1,h2,B,C,A⟩:=aZ3 k;obtain⟨w,e,b⟩:=r.get h2;have hl:=r.length;have n:=aZu;have fin:EP X pins σ Q w s:=⟨z,H,I,b,q⟩;exact subscriptTail_builtinR (x:=w) c.typeIs slot_tuple_getitem.lookup
  (getItem_tuple (j:=j) (Q:=λr s'=>r=w/\EP X pins σ Q r s') c (by omega) (by omega) (by rw[bYs,<- hl];exact h1) (by simpa using e) ⟨rfl,fin⟩) f
theorem Q9:IxR X bKK:=by
 intro value a pins s σ H x y v u Q I g l h e;obtain⟨z,i,c,rfl,rfl,p,k,q⟩:=h;obtain⟨t,rfl⟩:=g;obtain⟨n,rfl⟩:=l;obtain⟨j,h1,h2,r,m,f⟩:=aZ3 k;have hl:z.cps.toList.length=z.length:=by simp[Str.length]
 rw[hl]at h1 m f;have o:=aZu;exact tail_any (typeIs_str s z t) slot_str_getitem.lookup (getItem_str (c:=c) (by
  have d:decide (i< -(2 ^ 63:Int))=false:=decide_eq_false (by omega);have b:decide (i≥2 ^ 63)=false:=decide_eq_false (by omega);rw[d,b,Bool.or_false]) (by rw[h1];simpa using h2) ⟨.str ⟨#[c]⟩,H,I.tok _,⟨_,rfl⟩,q⟩) e
def rIx(K:bYc):R2:=λx y H Q=>aXW K x y H Q\/bZT K x y H Q\/bKK x y H Q
theorem bZI:IxR X (rIx X.K):=yI.or (yX.or Q9)
theorem aWo(its:List bYa)(n j:Nat)(u:bYa):bY4 (·.setIfInBounds j u) {cls:= .type "list",data:= .seq its.toArray n}= {cls:= .type "list",data:= .seq (its.set j u).toArray n}:=by
 simp[bY4]
theorem Inv.lst{pins:List (Addr×Obj)}{σ:St}{H:Hp}{s:bYd}{p:Addr}{xs:List V}(I:Inv X pins σ H s)(h:H p=some (.lst xs)): ∃ (its:List bYa)(n:Nat),xV xs its/\s.heap.get? p=some {cls:= .type "list",data:= .seq its.toArray n}/\xs.length<=bYB:=by
 obtain⟨z,its,n,r,e⟩:=I.hok p _ h;exact⟨its,n,r,e,z⟩
theorem Inv.lstUpd{pins:List (Addr×Obj)}{σ:St}{H:Hp}{s:bYd}{p:Addr}{xs ys:List V}{its its':List bYa}{n a:Nat}{f:Obj->Obj}(I:Inv X pins σ H s)(h:H p=some (.lst xs)) (g:s.heap.get? p=some {cls:= .type "list",data:= .seq its.toArray n}) (c:f {cls:= .type "list",data:= .seq its.toArray n}= {cls:= .type "list",data:= .seq its'.toArray a}) (r:xV ys its') (d:ys.length<=bYB) (t:Nat): Inv X pins σ (upd H p (.lst ys)) {s with heap:=s.heap.update p f,toks:=t}:=by
 have e:(s.heap.update p f).get? p=some {cls:= .type "list",data:= .seq its'.toArray a}:=by rw[cQd f g (by rw[c]<;> rfl),c]
 refine I.write (x:=p) (e:=p) (by rw[h];trivial) (.inl rfl) (λb u i q=>(bYK _ _ (bYU i)).trans q) ⟨_,e⟩ ?_;exact⟨d,its',a,r,e⟩
def bKv:V->V->V->Hp->(Hp->Prop)->Prop:=λo i v H Q=>∃p xs k j,o= .ref p/\i= .int k/\H p=some (.lst xs)/\ixN xs.length k=some j/\Q (upd H p (.lst (xs.set j v)))
theorem zV:bKI X bKv:=by
 intro pins s σ H o i v A z u Q I y m x h;obtain⟨p,xs,k,j,rfl,rfl,f,w,q⟩:=h;cases y;obtain⟨t,rfl⟩:=m;obtain⟨a,n,r,c,l⟩:=I.lst f;obtain⟨h1,h2,e,g⟩:=aKI w;have hl:=r.length;have B:=aZu;have d:Inv X pins σ (upd H p (.lst (xs.set j v))) {s with heap:=s.heap.update p (bY4 (·.setIfInBounds j u)) }:=
  I.lstUpd f c (aWo a n j u) (r.set x j) (by rw[List.length_set];exact l) s.toks
 by_cases h0:0<=k
 ·have b:k.toNat=j:=by
   rw[seqIndex_of h0 g]at h1;exact bYw h1
  exact PySem.W.ki_setAt c h0 (by omega) (by rw[bYs,<- hl];exact g) (by rw[b];exact⟨_,d,q⟩)
 ·have b:(k+(a.toArray.size:Int)).toNat=j:=by
   rw[seqIndex_neg (by omega) e]at h1;rw[bYs,<- hl];exact bYw h1
  exact PySem.W.ki_setBack c (by omega) (by rw[bYs,<- hl];exact e) (by omega) (by rw[b];exact⟨_,d,q⟩)
theorem aZN(lo hi:Option Int)(n:Nat):(cZt lo hi none n).1=((HT.sIx n 0 lo:Nat):Int)/\(cZt lo hi none n).2.1=((HT.sIx n n hi:Nat):Int)/\(cZt lo hi none n).2.2=1:=by
 refine⟨?_,?_,rfl⟩
 ·cases lo with
  |none=>simp[cZt,HT.sIx]
  |some i=>
   simp only[cZt,HT.sIx,Option.getD_none,show(1:Int) > 0 by decide,if_true];by_cases h:i<0
   ·simp only[h,if_true]<;> omega
   ·simp only[h,if_false]<;> omega
 ·cases hi with
  |none=>simp[cZt,HT.sIx]
  |some i=>
   simp only[cZt,HT.sIx,Option.getD_none,show(1:Int) > 0 by decide,if_true];by_cases h:i<0
   ·simp only[h,if_true]<;> omega
   ·simp only[h,if_false]<;> omega
theorem aXR(its:List bYa)(lo hi:Option Int):slicePick its.toArray lo hi none=((its.drop (HT.sIx its.length 0 lo)).take (HT.sIx its.length its.length hi - HT.sIx its.length 0 lo)).toArray:=by
 obtain⟨h1,h2,a⟩:=aZN lo hi its.toArray.size;unfold slicePick;rw[h1,h2,a];simp only[sliceRange_one,pick_run,bYs]<;> rfl
def bK0(K:bYc):V->Option Int->Option Int->Hp->VK->Prop:=λx lo hi H Q=>∃a xs,x= .ref a/\SqL K H a xs/\∀p,H p=none->Q (.ref p) (upd H p (.lst (aXm xs lo hi)))
theorem aJ2:SlR X (bK0 X.K):=by
 intro pins s σ H x v p n lo hi m Q I j i f k h;obtain⟨a,xs,rfl,l,q⟩:=h;cases j;obtain⟨e,r,d,g⟩:=I.list l;have c:=r.length;refine⟨"list",_,slot_list_getitem.lookup,d.isList.typeIs,?_⟩;refine wpAny_getItem_list_slice d.isList i f k .none (by simp) ?_ (by rw[bYs]<;> omega);rw[aXR,<- c];refine⟨.ref s.heap.objs.size,_,I.laid (t':=s.toks) (o:= .lst (aXm xs lo hi)) (λb t q=>bYf _ q) (bYh _) ?_,rfl,q _ (I.hok.fresh (bYh _))⟩;exact⟨bYQ (aJb xs lo hi) g,_,0,(r.drop (HT.sIx xs.length 0 lo)).take (HT.sIx xs.length xs.length hi - HT.sIx xs.length 0 lo),bYE _ rfl⟩
def W0:V->Bool
 |.non=>true
 |.bl _=>true
 |.int _=>true
 |.str _=>true
 |_=>false
def eqV:V->V->Bool
 |.non,.non=>true
 |.bl a,.bl b=>a==b
 |.bl a,.int b=>(if a then 1 else 0)==b
 |.int a,.bl b=>a==(if b then 1 else 0)
 |.int a,.int b=>a==b
 |.str a,.str b=>a==b
 |_,_=>false
theorem bZC{A:bYO}{s:bYd}{y x:V}{u v:bYa}(e:zH y u)(c:zH x v)(g:W0 y=true)(f:W0 x=true):cJz A s u v (eqV y x):=by
 cases y with
 |non=>
  cases e;cases x with
  |non=>cases c;exact SeqAt.EqAt.same _
  |bl b=>cases c;exact SeqAt.EqAt.none_bool b
  |int b=>obtain⟨t,rfl⟩:=c;exact SeqAt.EqAt.none_int b t
  |str b=>obtain⟨t,rfl⟩:=c;exact SeqAt.EqAt.none_str b t
  |_=>exact absurd (show false=true from f) Bool.false_ne_true
 |bl a=>
  cases e;cases x with
  |non=>cases c;exact SeqAt.EqAt.bool_none a
  |bl b=>cases c;exact SeqAt.EqAt.bool_bool a b
  |int b=>obtain⟨t,rfl⟩:=c;exact SeqAt.EqAt.bool_int a b t
  |str b=>obtain⟨t,rfl⟩:=c;exact SeqAt.EqAt.bool_str a b t
  |_=>exact absurd (show false=true from f) Bool.false_ne_true
 |int a=>
  obtain⟨d,rfl⟩:=e;cases x with
  |non=>cases c;exact SeqAt.EqAt.int_none a d
  |bl b=>cases c;exact SeqAt.EqAt.int_bool a d b
  |int b=>obtain⟨t,rfl⟩:=c;exact SeqAt.EqAt.int_int a d b t
  |str b=>obtain⟨t,rfl⟩:=c;exact SeqAt.EqAt.int_str a d b t
  |_=>exact absurd (show false=true from f) Bool.false_ne_true
 |str a=>
  obtain⟨d,rfl⟩:=e;cases x with
  |non=>cases c;exact SeqAt.EqAt.str_none a d
  |bl b=>cases c;exact SeqAt.EqAt.str_bool a d b
  |int b=>obtain⟨t,rfl⟩:=c;exact SeqAt.EqAt.str_int a d b t
  |str b=>obtain⟨t,rfl⟩:=c;exact SeqAt.EqAt.str_str a d b t
  |_=>exact absurd (show false=true from f) Bool.false_ne_true
 |_=>exact absurd (show false=true from g) Bool.false_ne_true
def eqU(x:V)(u:bYa):Bool:=match u with
 |.none=>eqV .non x
 |.bool b=>eqV (.bl b) x
 |.int i _=>eqV (.int i) x
 |.str z _=>eqV (.str z) x
 |_=>false
theorem bZD{x y:V}{u:bYa}(r:zH y u)(f:W0 y=true):eqU x u=eqV y x:=by
 cases y with
 |non=>cases r;rfl
 |bl b=>cases r;rfl
 |int i=>obtain⟨t,rfl⟩:=r;rfl
 |str z=>obtain⟨t,rfl⟩:=r;rfl
 |_=>exact absurd (show false=true from f) Bool.false_ne_true
theorem Q2{x:V}:∀ {xs:List V} {us:List bYa},xV xs us->xs.all W0=true->us.any (eqU x)=xs.any λy=>eqV y x
 |_,_,.nil,_=>rfl
 |y::xs,u::us,.cons r t,f=>by rw[cZm,Bool.and_eq_true]at f;rw[cXs,cXs,bZD r f.1,Q2 t f.2]
theorem qL{A:bYO}{s:bYd}{x:V}{v:bYa}(b:zH x v)(c:W0 x=true):∀ {xs:List V} {us:List bYa},xV xs us->xs.all W0=true->∀u∈us,cJz A s u v (eqU x u)
 |_,_,.nil,_=>λu a=>by cases a
 |y::xs,u::us,.cons r t,f=>λd a=>by
  rw[cZm,Bool.and_eq_true]at f;rcases bYj.mp a with rfl|a
  ·rw[bZD r f.1];exact bZC r b f.1 c
  ·exact qL b c t f.2 d a
def inV(x:V)(xs:List V):Bool:=xs.any λy=>eqV y x
def rIn(K:bYc)(a:Bool):R2:=λx y H Q=>∃p xs,y= .ref p/\(SqL K H p xs\/SqT K H p xs)/\W0 x=true/\xs.all W0=true/\Q (.bl (if a then !inV x xs else inV x xs)) H
theorem wL:OpR X (cQE .In) (rIn X.K false):=by
 intro pins s σ H x y v u Q I d g h;obtain⟨p,xs,rfl,b,e,fs,q⟩:=h;cases g;rcases b with b|b
 ·obtain⟨a,r,c,f⟩:=I.list b;refine SeqAt.in_listAt (eqU x) c.isList (λw hw=>qL d e r fs w (by simpa using hw)) ⟨.bl _,H,I,rfl,?_⟩;rw[show a.toArray.any (eqU x)=a.any (eqU x) by simp,Q2 r fs];exact q
 ·obtain⟨a,r,c,f⟩:=I.tuple b;refine SeqAt.in_tupleAt (eqU x) c (λw hw=>qL d e r fs w (by simpa using hw)) ⟨.bl _,H,I,rfl,?_⟩;rw[show a.toArray.any (eqU x)=a.any (eqU x) by simp,Q2 r fs];exact q
theorem Z4:OpR X (cQE .NotIn) (rIn X.K true):=by
 intro pins s σ H x y v u Q I d g h;obtain⟨p,xs,rfl,b,e,fs,q⟩:=h;cases g;rcases b with b|b
 ·obtain⟨a,r,c,f⟩:=I.list b;refine SeqAt.notIn_listAt (eqU x) c.isList (λw hw=>qL d e r fs w (by simpa using hw)) ⟨.bl _,H,I,rfl,?_⟩;rw[show a.toArray.any (eqU x)=a.any (eqU x) by simp,Q2 r fs];exact q
 ·obtain⟨a,r,c,f⟩:=I.tuple b;refine SeqAt.notIn_tupleAt (eqU x) c (λw hw=>qL d e r fs w (by simpa using hw)) ⟨.bl _,H,I,rfl,?_⟩;rw[show a.toArray.any (eqU x)=a.any (eqU x) by simp,Q2 r fs];exact q
theorem yN:jM X (.builtin "len") (λxs H Q=>∃p ys,xs= [.ref p]/\(SqL X.K H p ys\/SqT X.K H p ys)/\Q (.int ys.length) H):=by
 intro pins s σ H xs i Q I r h;obtain⟨p,ys,rfl,b,q⟩:=h;obtain⟨u,rfl,g⟩:=aQS r;cases g;have j:=aZu;rcases b with b|b
 ·obtain⟨d,c,e,f⟩:=I.list b;have a:=c.length;exact Calls.call_len_list e.isList (by simp only[bYs]<;> omega) ⟨.int ys.length,H,I.tok _,⟨s.toks+1,by rw[bYs,a]⟩,q⟩
 ·obtain⟨d,c,e,f⟩:=I.tuple b;have a:=c.length;exact len_tuple e (by simp only[bYs]<;> omega) ⟨.int ys.length,H,I.tok _,⟨s.toks+1,by rw[bYs,a]⟩,q⟩
theorem uF:jM X (.type "list") (λxs H Q=>∃p ys,xs= [.ref p]/\(SqL X.K H p ys\/SqT X.K H p ys)/\∀l,H l=none->Q (.ref l) (upd H l (.lst ys))):=by
 intro pins s σ H xs y Q I r h;obtain⟨p,ys,rfl,j,q⟩:=h;obtain⟨u,rfl,x⟩:=aQS r;cases x;have fin:∀ (a:List bYa),xV ys a->ys.length<=bYB->∀ (h':Heap)(d:Nat),(∀b o',s.heap.get? b=some o'->h'.get? b=some o')->
   h'.get? s.heap.objs.size=some {cls:= .type "list",dict:=none,data:= .seq a.toArray d,slots:= #[] }->EP X pins σ Q (.ref s.heap.objs.size) {s with heap:=h'}:=λa c g h' d f e=>
  ⟨.ref s.heap.objs.size,_,I.laid (t':=s.toks) f (bYh _) (show zA X.prog X.w _ h' _ (.lst ys)from⟨g,a,d,c,e⟩),rfl,q _ (I.hok.fresh (bYh _))⟩
 rcases j with j|j
 ·obtain⟨a,c,t,g⟩:=I.list j;have i:=c.length;obtain⟨o,v,k,n,m⟩:=t.isList;exact call_list_seq p (.inl rfl) v k m (λh' d f e=>fin a c g h' d f e) (by simp only[bYs]<;> omega)
 ·obtain⟨a,c,t,g⟩:=I.tuple j;have i:=c.length;obtain⟨o,v,k,n,m⟩:=t;exact call_list_seq p (.inr rfl) v k m (λh' d f e=>fin a c g h' d f e) (by simp only[bYs]<;> omega)
theorem qF:jM X (.type "tuple") (λxs H Q=>∃p ys,xs= [.ref p]/\((SqL X.K H p ys/\∀l,H l=none->Q (.ref l) (upd H l (.tup ys)))\/(SqT X.K H p ys/\Q (.ref p) H))):=by
 intro pins s σ H xs t Q I r h;obtain⟨p,ys,rfl,h⟩:=h;obtain⟨u,rfl,m⟩:=aQS r;cases m;rcases h with⟨f,q⟩|⟨f,q⟩
 ·obtain⟨a,c,d,g⟩:=I.list f;have j:=c.length;refine call_tuple_list d.isList (λh' k=>?_) (by simp only[bYs]<;> omega);have i:Inv X pins σ H {s with heap:=h'}:=I.kept (t':=s.toks) k;have n:Inv X pins σ (upd H h'.objs.size (.tup ys)) {s with heap:=h'.push {cls:= .type "tuple",data:= .seq a.toArray} }:=
   i.laid (t':=s.toks) (λb o e=>bYf _ e) (bYh _) (show zA X.prog X.w _ _ _ (.tup ys)from⟨g,a,c,IsTup.new _ _⟩)
  exact⟨.ref h'.objs.size,_,n,rfl,q _ (i.hok.fresh (bYh _))⟩
 ·obtain⟨a,c,d,g⟩:=I.tuple f;exact call_tuple_same d ⟨.ref p,H,I,rfl,q⟩
def tyV(K:bYc)(T:String)(x:V)(H:Hp):Prop:=match x with
 |.str _=>T="str"
 |.int _=>T="int"
 |.ref p=>(T="list"/\∃xs,SqL K H p xs)\/(T="tuple"/\∃o,K.lookup p=some o/\o.cls= .type "tuple"/\o.dict=none)\/
   (T="dict"/\((∃a,H p=some (.dK a))\/∃a,H p=some (.dT a)))\/(T="set"/\∃S n,H p=some (.set S n))
 |_=>False
theorem bZ7{pins:List (Addr×Obj)}{σ:St}{H:Hp}{s:bYd}{T:String}{x:V}{v:bYa}(I:Inv X pins σ H s)(r:zH x v)(ty:tyV X.K T x H): s.TypeIs v T/\∀a,v= .ref a->∃j,s.heap.get? a=some j/\j.dict=none:=by
 cases x with
 |str z=>obtain⟨t,rfl⟩:=r;cases (show T="str" from ty);exact⟨typeIs_str s z t,λ_ e=>nomatch e⟩
 |int i=>obtain⟨t,rfl⟩:=r;cases (show T="int" from ty);exact⟨typeIs_int s i t,λ_ e=>nomatch e⟩
 |ref p=>
  cases r;rcases ty with⟨rfl,xs,m⟩|⟨rfl,o,b,l,g⟩|⟨rfl,b⟩|⟨rfl,S,n,b⟩
  ·obtain⟨k,_,h,_⟩:=I.list m;refine⟨h.isList.typeIs,λa e=>?_⟩;cases e;obtain⟨o,n,e,c,g,_⟩:=h;exact⟨o,e,g⟩
  ·refine⟨⟨o,I.kIn p o b,l⟩,λa e=>?_⟩;cases e;exact⟨o,I.kIn _ o b,g⟩
  ·have z:∃o,s.heap.get? p=some o/\o.ExactDict:=by
    rcases b with⟨f,b⟩|⟨f,b⟩
    ·obtain⟨_,_,_,_,o,_,_,e,ex,_⟩:=I.hok p _ b;exact⟨o,e,ex⟩
    ·obtain⟨_,_,_,_,o,_,_,e,ex,_⟩:=I.hok p _ b;exact⟨o,e,ex⟩
   obtain⟨o,e,ex⟩:=z;refine⟨⟨o,e,ex.1⟩,λa d=>?_⟩;cases d;exact⟨o,e,ex.2.1⟩
  ·obtain⟨o,_,_,_,e,ex,_⟩:=I.hok p _ b;refine⟨⟨o,e,ex.1⟩,λa d=>?_⟩;cases d;exact⟨o,e,ex.2.1⟩
 |_=>exact cQF ty
def bK4(K:bYc)(T:String)(r:V->List V->Hp->VK->Prop)(to:TE):TE:=λσ H Q=>to σ H λx H1=>tyV K T x H1/\r x [] H1 Q
def tBM(K:bYc)(T:String)(r:V->List V->Hp->VK->Prop)(to:TE)(t:TA):TE:=λσ H Q=>to σ H λx H1=>tyV K T x H1/\t σ H1 λxs H2=>r x xs H2 Q
variable {o e:Expr}{es:List Expr}{to:TE}{t:TA}{name:Str}{apos cpos:Pos}{T id:String}{r:V->List V->Hp->VK->Prop}
theorem bZP(g:PlainAttrs T)(c:Slot T name id)(d:typeOf (.builtin id)=pure (.type "method_descriptor"))(e:MtR X id r)(f:PE X o to) (b:cXY o name X.env (eval o X.env)=eval o X.env:=by rfl) (a:(apos.endLine==cpos.line)=true:=by rfl):PE X (.Call (.Attribute o name apos) [] [] cpos) (bK4 X.K T r to):=by
 intro pins s σ H Q I h;refine wpAny_Call_method0_late b a (thn (f pins s σ H _ I h) λv s1 ⟨x,H1,I1,r1,ty,q1⟩=>?_);obtain⟨h1,h2⟩:=bZ7 I1 r1 ty;exact⟨T,id,g,c,d,h1,h2,Calls.callWith_builtin rfl (PySem.evalArgs_none (e pins s1 σ H1 x [] v [] Q I1 r1 .nil q1))⟩
theorem uC(j:PlainAttrs T)(f:Slot T name id)(g:typeOf (.builtin id)=pure (.type "method_descriptor"))(n:MtR X id r)(l:PE X o to)(m:PA X (e::es) t)
  (b:cXY o name X.env (eval o X.env)=eval o X.env:=by rfl)
  (d:((cQN cpos (bYN (e::es) X.env)).all (λx=> !x.1) && (cZk cpos (cXw [] X.env)).all (λx=>x.1.isSome) && decide ((e::es).length+([]:List Keyword).length+(if([]:List Keyword).isEmpty then 0 else 1)<30))=true:=by rfl)
  (c:(apos.endLine==cpos.line)=true:=by rfl) (k:bYN (e::es) X.env=(false,eval e X.env)::bYN es X.env:=by rfl) (a:(cQN cpos (bYN es X.env)).any (·.1)=false:=by rfl):
  PE X (.Call (.Attribute o name apos) (e::es) [] cpos) (tBM X.K T r to t):=by
 intro pins s σ H Q I h
 refine wpAny_Call_method_late b d c rfl (thn (l pins s σ H _ I h) λv s1 ⟨x,H1,I1,r1,ty,q1⟩=>?_)
 obtain⟨h1,h2⟩:=bZ7 I1 r1 ty
 refine⟨T,id,j,f,g,h1,h2,?_⟩
 have i:=m cpos pins s1 σ H1 _ I1 q1
 rw[k]at i ⊢
 refine Calls.callWith_builtin (by show(false || (cQN cpos (bYN es X.env)).any (·.1))=false;rw[a]<;> rfl) (Calls.evalArgs_plain ?_)
 exact thn i λus s2 ⟨vs,H2,I2,r2,q2⟩=>n pins s2 σ H2 x vs v us Q I2 r1 r2 q2
end
end L2
namespace L2
open PySem PySem.Spec PyProof.Rows
def MtM(X:Cx)(id:String)(r:V->List V->Hp->VK->Prop):Prop:=
 ∀ (pins:List (Addr×Obj))(s:bYd)(σ:St)(H:Hp)(x:V)(xs:List V)(v:bYa)(a:List bYa)(Q:VK),Inv X pins σ H s->zH x v->xV xs a->r x xs H Q->
  bYi (bYk X.prog X.w) X.A (call (.builtin id) (v::a)) (EP X pins σ Q) X.xe s
theorem xV.one:∀ {x:V} {us:List bYa},xV [x] us->∃u,us= [u]/\zH x u
 |_,_,.cons r .nil=>⟨_,rfl,r⟩
theorem xV.two:∀ {x y:V} {us:List bYa},xV [x,y] us->∃u v,us= [u,v]/\zH x u/\zH y v
 |_,_,_,.cons r (.cons q .nil)=>⟨_,_,rfl,r,q⟩
theorem xV.zero:∀ {us:List bYa},xV [] us->us= []
 |_,.nil=>rfl
theorem xV.dropLast{xs:List V}{us:List bYa}(h:xV xs us):xV xs.dropLast us.dropLast:=by
 induction h with
 |nil=>exact .nil
 |cons r t a=>
  cases t with
  |nil=>exact .nil
  |cons q b=>exact .cons r a
theorem xV.reverse{xs:List V}{us:List bYa}(h:xV xs us):xV xs.reverse us.reverse:=by
 induction h with
 |nil=>exact .nil
 |cons r t a=>rw[List.reverse_cons,List.reverse_cons];exact xV.append a (.cons r .nil)
theorem aV8{α:Type}(l:List α):l.eraseIdx (l.length - 1)=l.dropLast:=by
 induction l with
 |nil=>rfl
 |cons a r c=>
  cases r with
  |nil=>rfl
  |cons b r=>
   have e:(a::b::r).length - 1=((b::r).length - 1)+1:=by have h1:(a::b::r).length=r.length+2:=rfl;have h2:(b::r).length=r.length+1:=rfl;omega
   rw[e,List.eraseIdx_cons_succ,c];all_goals rfl
section
variable {X:Cx}{pins:List (Addr×Obj)}{σ:St}{H:Hp}{s:bYd}{l b:Addr}{xs ys zs:List V}
theorem Inv.lset{its its':List bYa}{n:Nat}{f:Array bYa->Array bYa}{t':Nat}(I:Inv X pins σ H s)(h:H l=some (.lst xs)) (e:s.heap.get? l=some {cls:= .type "list",data:= .seq its.toArray n}) (a:f its.toArray=its'.toArray) (b:xV ys its') (c:ys.length<=bYB): Inv X pins σ (upd H l (.lst ys)) {s with heap:=s.heap.update l (bY4 f),toks:=t'}:=by
 have q:=PySem.IsL.update e f;rw[a]at q;refine I.write (x:=l) (e:=l) (by rw[h];exact trivial) (.inl rfl) (λi u d g=>(bYK s.heap (bY4 f) (bYU d)).trans g) ⟨_,q⟩ ?_;exact⟨c,its',_,b,q⟩
theorem Inv.lnew{its:List bYa}{t':Nat}(I:Inv X pins σ H s)(a:xV ys its)(hz:ys.length<=bYB): Inv X pins σ (upd H s.heap.objs.size (.lst ys)) {s with heap:=s.heap.push {cls:= .type "list",data:= .seq its.toArray},toks:=t'}:=
 I.laid (λ_ _ q=>bYf _ q) (bYh _) ⟨hz,its,0,a,bYE _ rfl⟩
theorem Inv.fresh(I:Inv X pins σ H s):H s.heap.objs.size=none:=I.hok.fresh (bYh _)
theorem Inv.lstM(I:Inv X pins σ H s)(a:H l=some (.lst xs)):xs.length<=bYB/\∃ (its:List bYa)(n:Nat),xV xs its/\xs.length=its.length/\s.heap.get? l=some {cls:= .type "list",data:= .seq its.toArray n}:=by
 obtain⟨z,its,n,r,e⟩:=I.hok l _ a;exact⟨z,its,n,r,r.length,e⟩
theorem bXc{n:Nat}(h:n<=bYB):cZw n=false:=by
 unfold cZw;exact decide_eq_false (by omega)
end
section
variable {X:Cx}
def aYt:V->List V->Hp->VK->Prop:=λx a H Q=>∃l xs y,x= .ref l/\a= [y]/\H l=some (.lst xs)/\xs.length<bYB/\Q .non (upd H l (.lst (xs++ [y])))
theorem xL:MtM X "list.append" aYt:=by
 intro pins s σ H x g v i Q I d f h;obtain⟨l,xs,y,rfl,rfl,b,j,q⟩:=h;cases d;obtain⟨u,rfl,c⟩:=f.one;obtain⟨z,a,n,r,hl,e⟩:=I.lstM b;refine call_meets F.slot_list_append ⟨_,e,rfl⟩ F.entry_list_append (F.args_list_append_2 _ _) (PySem.list_append l a.toArray n u (by rw[bYs];omega)) ⟨e,?_⟩;refine⟨.non,_,I.lset (its':=a++ [u]) b e (by simp) (r.append (.cons c .nil)) ?_,rfl,q⟩;rw[bYy,cQm];omega
def bJ6:V->List V->Hp->VK->Prop:=λx a H Q=>∃l b xs zs,x= .ref l/\a= [.ref b]/\H l=some (.lst xs)/\H b=some (.lst zs)/\xs.length+zs.length<=bYB/\Q .non (upd H l (.lst (xs++zs)))
theorem aKX:MtM X "list.extend" bJ6:=by
 intro pins s σ H x y v A Q I o w h;obtain⟨l,b,xs,zs,rfl,rfl,g,t,B,q⟩:=h;cases o;obtain⟨u,rfl,m⟩:=w.one;cases m;obtain⟨z,c,n,r,hl,e⟩:=I.lstM g;obtain⟨z2,a,p,i,k,j⟩:=I.lstM t;have f:c.toArray.size+a.toArray.size<=bYB:=by rw[bYs,bYs];omega
 have d:¬ (!c.toArray.isEmpty && cZw (c.toArray.size+a.toArray.size))=true:=by rw[bXc f,Bool.and_false];exact Bool.false_ne_true
 refine call_meets F.slot_list_extend ⟨_,e,rfl⟩ F.entry_list_extend (F.args_list_extend_2 _ _)
  (AutoSeq1.list_extend_list_list_0 l c.toArray n b a.toArray p d (by rw[bYs];omega) (by omega)) ⟨e,j,?_⟩
 refine⟨.non,_,I.lset (its':=c++a) g e (by simp) (r.append i) ?_,rfl,q⟩;rw[bYy];omega
def bKZ:V->List V->Hp->VK->Prop:=λx a H Q=>∃l xs y,x= .ref l/\a= []/\H l=some (.lst xs)/\xs[xs.length - 1]? =some y/\Q y (upd H l (.lst xs.dropLast))
theorem bZN:MtM X "list.pop" bKZ:=by
 intro pins s σ H x m v o Q I j k h;obtain⟨l,xs,y,rfl,rfl,d,f,q⟩:=h;cases j;have c:=k.zero;subst c;obtain⟨z,a,n,r,hl,e⟩:=I.lstM d;obtain⟨u,g,i⟩:=r.get f;have b:a.toArray[a.toArray.size - 1]? =some u:=by show a.toArray[a.length - 1]? =some u;rw[<- cQI,<- hl];exact g
 refine call_meets F.slot_list_pop ⟨_,e,rfl⟩ F.entry_list_pop (F.args_list_pop_1 _) (MeetsSeq.list_pop_last l a.toArray n u b (by rw[bYs];omega)) ⟨e,?_⟩;refine⟨y,_,I.lset (its':=a.dropLast) d e ?_ r.dropLast ?_,i,q⟩
 ·show a.toArray.eraseIdxIfInBounds (a.toArray.size - 1)=a.dropLast.toArray;rw[bYs,List.eraseIdxIfInBounds_toArray,aV8]
 ·rw[List.length_dropLast];omega
def bKY:R2:=λx y H Q=>∃l b xs zs,x= .ref l/\y= .ref b/\H l=some (.lst xs)/\H b=some (.lst zs)/\xs.length+zs.length<=bYB/\∀p,H p=none->Q (.ref p) (upd H p (.lst (xs++zs)))
theorem aVn:OpR X (cXS .Add) bKY:=by
 intro pins s σ H x y v u Q I i o h;obtain⟨l,b,xs,zs,rfl,rfl,m,j,p,q⟩:=h;cases i;cases o;obtain⟨z,c,n,r,hl,e⟩:=I.lstM m;obtain⟨z2,a,t,d,g,f⟩:=I.lstM j;refine PySem.P.add_list e f ?_ (by rw[bYs,bYs];omega);have k:c.toArray++a.toArray=(c++a).toArray:=by simp
 rw[k];exact⟨.ref _,_,I.lnew (t':=s.toks) (r.append d) (by rw[bYy];omega),rfl,q _ I.fresh⟩
end
section
variable {prog:bYx}{w:bYD}{A:bYO}{E:bYa->bYd->Prop}{s:bYd}
end
section
variable {X:Cx}
end
end L2
namespace Att
open PySem PySem.W PySem.Calls PyProof.Rows
theorem Q8{P:Params}{h:Heap}:∀ (c:List Int)(vs:List bYa),WellAll P h vs (c.map WData.int)->cXI vs c:=by
 intro c;induction c with
 |nil=>intro vs w;rw[List.map_nil]at w;cases w;exact .nil
 |cons n c d=>
  intro vs w;rw[bY0]at w;cases w with
  |cons a b=>cases a;exact .cons _ _ (d _ b)
theorem aY5{l:OpenLaw}{n:Nat}(t:l.most=some n){P:Params}{h:Heap}{args:List WData}{vals:List bYa} (c:l.row.toRowW.claim.pre args=true) (k:WellAll P h vals args): ∃a m b,vals= [Value.ref a]/\args= [WData.list (b.map WData.int)]/\h.get? a=some {cls:= .type "list",data:= .seq m.toArray}/\cXI m b/\b.length<=n:=by
 have j:WShape.hasAll [] args [.list .int]=true:=(pre_splitW c).1;have o:l.pre.holds [] {args:=args}=true:=(pre_splitW c).2;obtain⟨d,r,rfl,h1,h2⟩:=hasAllW_cons j;obtain rfl:=hasAllW_nil h2;obtain⟨xs,rfl,v⟩:=hasW_list h1;obtain⟨b,rfl⟩:=items_int v;have e:b.length<=n:=by
  unfold OpenLaw.pre at o;have i:(WTm.not (.lt (.lit (.int (n:Int))) (.len (.arg 0)))).holds [] {args:= [.list (b.map .int)] }=true:=by have i:=(holds_andW o).1;rw[t]at i;exact i
  have g:=condW_of i (w_not (w_lt w_lit (w_len_list (w_arg rfl))));rw[bYe]at g;refine Nat.le_of_not_lt λq=>?_;have u:(n:Int)<((b.length:Nat):Int):=by omega
  first
   |(rw[decide_eq_true u]at g;exact absurd g (by decide))
   |(simp at g;omega)
 cases k with
 |cons s p=>
  cases p;cases s with
  |list w f=>exact⟨_,_,b,rfl,rfl,w,Q8 b _ f,e⟩
theorem aYq(l:OpenLaw)(args:List WData):l.row.toRowW.claim.post args (.bool true) args=true:=
 postW_of (r:=l.row.toRowW) (X:=(true==true))
  (show WShape.has [] (.bool true) .bool=true by first|rfl|decide|simp[WShape.has,WShape.arms,WShape.armsAll])
  (show(WTm.eq .res (.lit (.bool true))).value [] {args:=args,res:=some (.bool true),after:=args}=some (.bool (true==true))from w_eq_bool (w_res rfl) w_lit) rfl
theorem aZ5{l:OpenLaw}{n:Nat}{q:bYx}{loose:List Str}{z:(Str->Option bYa)->Heap->Prop}{A:bYD->Heap->Prop}{d:DefRec} (F:l.most=some n) (s:d.params.defaults= []) (call:∀ (w:bYD)(s₀ b:bYd)(mg v:Str->Option bYa)(h:Addr)(o:Obj)(p m c:bYa)(a:Addr)(vs:List bYa)(k:List Int), Ground q loose [] z w s₀ mg v b.heap->A w b.heap-> b.heap.get? h=some o->o.data= .func (docDef d.name d.params d.body d.scope p m c)->b.heap.CodeRec m d.name->mg d.name=some (.ref h)-> b.heap.get? a=some {cls:= .type "list",data:= .seq vs.toArray}->cXI vs k->k.length<=n->b.gens= #[]-> cXr (bYk l.prog w) callerA (.call (.ref h) ⟨[.ref a],[]⟩) (λr s'=>r= .ok (.ret (.bool true))/\OldK b.heap s'.heap/\s'.os=b.os/\AllBare s'.gens) b): WalkO q loose z A l.row.toRowW d [] (λf vs=>PySem.call f vs):=by
 intro w s₀ b mg v G Y h o p m c H kV K D u B t I args vals O i y C x E;obtain rfl:H= .none:=Dflts.none B s;obtain rfl:kV= .none:=Dflts.noKw B;obtain⟨a,vs,k,rfl,rfl,g,e,j⟩:=aY5 F i x;refine enter_call (cQ4 (call w s₀ b mg v h o p m c a vs k G Y K (fd_plain D) u t g e j I) λr s' M=>?_);obtain⟨rfl,h2,J,N⟩:=M;exact⟨.inl ⟨.bool true,.bool true,[],rfl,λ_=>rfl,.bool true,aYq l _,λ_=>⟨List.Pairwise.nil,λ_ L=>(nomatch L)⟩⟩,h2,J,N⟩
section
variable {prog:bYx}{w:bYD}{A:bYO}{E:bYa->bYd->Prop}{s:bYd}{K:Frag}
end
end Att
namespace L2
open PySem PySem.Spec PyProof.Rows
theorem uP:∀ {vs:List bYa} {a:List Int},cXI vs a->xV (a.map V.int) vs
 |_,_,.nil=> .nil
 |_,_,.cons n t h=> .cons ⟨t,rfl⟩ (uP h)
end L2
namespace L2
open PySem PySem.Spec PyProof.Rows
end L2
namespace L2
open PySem PySem.Spec PyProof.Rows
def zQ(s:Stmt):Arguments:=match s with
 |.FunctionDef _ a _ _ _ _ _ _ _ _=>a
 |_=>{posonlyargs:= [],args:= [],vararg:=none,kwonlyargs:= [],kw_defaults:= [],kwarg:=none,defaults:= [] }
def zC(s:Stmt):List Stmt:=match s with
 |.FunctionDef _ _ b _ _ _ _ _ _ _=>b
 |_=> []
def yH(s:Stmt):cXo:=match s with
 |.FunctionDef _ _ _ _ _ _ a _ _ _=>a
 |_=>{kind:= .function,names:= [],isGenerator:=false,isCoroutine:=false}
abbrev CX0:CXT:=λ_ _ _ _ _ _=>False
abbrev E0:XK:=λ_ _ _=>False
theorem vQ{X:Cx}:vG CX0 X E0:=λ_ _ _ _ _ _ _ h=>h.elim
structure Fun(K:bYc)(x qual:Str)(st:Stmt)(f:Addr)(fd:cQ9):Prop where
 ex:∃ (oc:bYa)(od:Option Addr)(kV doc pm:bYa)(an:Option Addr)(cdv ct:bYa)(osl:Array (Option bYa)),
  fd=cQu x qual (zQ st) (zC st) (yH st) .none kV doc pm an cdv ct/\K.lookup f=some ⟨oc,od,.func fd,osl⟩/\cQS K cdv qual=true
 kp:bY6 K (.ref f)=true
section
variable {P:bYx}{w:bYD}{K:bYc}{mg:Str->Option bYa}{base:Heap}
theorem Fun.ok{x qual:Str}{st:Stmt}{f:Addr}{fd:cQ9}{N ps:List Str}{k:Nat}{sp:Sp}(F:Fun K x qual st f fd)(S:yO N ps (yH st)) (b:∀ (a:bYa)(A:bYO)(outer:List Env)(s:bYd)(H:Hp)(vs:List V)(Q:VK)(E:XK),vM k (A.deeper (cQ8 qual (yH st) s.heap.objs.size f a))->sp vs H Q E-> ∃t,PSs (aXn CX0 P w K mg base N qual (yH st) f a A outer s H E).nox (zC st) t/\t {nx:=λ_ H'=>Q .non H',rt:=Q} (start N vs) H) (len:∀vs H Q E,sp vs H Q E->vs.length=ps.length:=by intro _ _ _ _ h;repeat (first|(obtain⟨rfl,_⟩:=h;exact rfl)|(obtain⟨_,h⟩:=h))):xD P w K mg base CX0 (k+1) f fd ps sp:=by
 obtain⟨m,n,kV,i,j,l,a,ct,e,rfl,lk,c⟩:=F.ex;refine bJs lk c S len λA outer s H vs Q E g d=>?_;obtain⟨t,h,q⟩:=b a A outer s H vs Q E g d;exact⟨t,h.nox,q⟩
theorem Fun.binds{x qual:Str}{st:Stmt}{f:Addr}{fd:cQ9}{ps:List Str}(F:Fun K x qual st f fd) (h:∀ (kV b c:bYa)(d:Option Addr)(a ct:bYa)(us:List bYa),us.length=ps.length->bindArgs (cQu x qual (zQ st) (zC st) (yH st) .none kV b c d a ct) ⟨us,[]⟩=pure (ps.zip us)):vT K fd ps []:=by
 obtain⟨i,j,kV,b,c,d,a,ct,g,rfl,lk,e⟩:=F.ex;exact .all (h kV b c d a ct)
theorem aQ7{x qual:Str}{st:Stmt}{f:Addr}{i:bYa}{h e:Option Addr}{d:Array (Option bYa)}{kV b g a ct:bYa}(l:K.lookup f=some ⟨i,h,.func (cQu x qual (zQ st) (zC st) (yH st) .none kV b g e a ct),d⟩)
  (c:cQS K a qual=true) (k:bY6 K (.ref f)=true):Fun K x qual st f (cQu x qual (zQ st) (zC st) (yH st) .none kV b g e a ct):=⟨⟨i,h,kV,b,g,e,a,ct,d,rfl,l,c⟩,k⟩
end
theorem bWh{A:bYO}{k:Nat}(a:vM k A):A.units+1<cLine:=Nat.lt_of_le_of_lt (Nat.add_le_add_left (by decide:1<=64) _) a.units
section
variable {X:Cx}
theorem pv(i:Nat){x:Str}{pos:Pos}(c:X.N[i]? =some x:=by rfl)(b:Vis X.env.scope x:=by first|exact Or.inl rfl|exact Or.inr (Or.inl rfl)|exact Or.inr (Or.inr rfl))(d:(x==("__debug__":Str))=false:=by decide)
  (a:(x==("__classdict__":Str))=false:=by decide):PE X (.Name x pos) (bVO i):=bZS c b d a
end
theorem qB{c A B:Prop} [Decidable c] (h1:c->A)(h2:¬c->B):if c then A else B:=by
 by_cases h:c
 ·rw[if_pos h];exact h1 h
 ·rw[if_neg h];exact h2 h
def xA(H H':Hp):Prop:=∀b o,H b=some o->H' b=some o
theorem xA.refl(H:Hp):xA H H:=λ_ _ h=>h
theorem xA.trans{H H1 H2:Hp}(a:xA H H1)(b:xA H1 H2):xA H H2:=λc o h=>b c o (a c o h)
theorem xA.seq{K:bYc}{H H':Hp}{a:Addr}{xs:List V}(e:xA H H')(h:SqL K H a xs):SqL K H' a xs:=by
 rcases h with(h|⟨o,h⟩)|h
 ·exact .inl (.inl (e _ _ h))
 ·exact .inl (.inr ⟨o,e _ _ h⟩)
 ·exact .inr h
end L2
namespace L2
open PySem
theorem scM{N P:List Str}{sc:Scope}(h:decide (sc.kind=.function/\sc.isCoroutine=false/\sc.isGenerator=false/\N.Nodup/\N.take P.length=P/\(∀x∈P,sc.names.lookup x=some .local\/sc.names.lookup x=some .cell)/\∀y∈sc.names,y.2≠.free)=true:=by decide +kernel):yO N P sc:=
 have z:=of_decide_eq_true h;⟨z.1,z.2.1,z.2.2.1,z.2.2.2.1,z.2.2.2.2.1,z.2.2.2.2.2.1,z.2.2.2.2.2.2⟩
end L2
namespace L2
open PySem PySem.Spec PyProof.Rows
def qG(env:Env)(l:List (Str×cZj))(cs:List (Str×Nat)):Sem (List (Str×Nat)):=do
 let mut cs:=cs
 for (name,kind)in l do
  if kind== .free then cs:=(name,<- cellOf env name)::cs
 return cs
theorem aV2(env:Env)(cs:List (Str×Nat)):qG env [] cs=pure cs:=by simp[qG]
theorem aZ9{env:Env}{n:Str}{c:Nat}{r:List (Str×cZj)}{cs:List (Str×Nat)}(h:env.cells.lookup n=some c):qG env ((n,.free)::r) cs=qG env r ((n,c)::cs):=by
 have e:cellOf env n=pure c:=by unfold cellOf;rw[h]
 simp[qG,e]
theorem aX9{env:Env}{n:Str}{k:cZj}{r:List (Str×cZj)}{cs:List (Str×Nat)}(h:k≠ .free):qG env ((n,k)::r) cs=qG env r cs:=by
 simp[qG,h]
theorem aJa{env:Env}:∀ (l:List (Str×cZj))(cs:List (Str×Nat)),(∀y∈l,y.2= .free->∃c,env.cells.lookup y.1=some c)->(∀y c,cs.lookup y=some c->env.cells.lookup y=some c)->
  ∃cl,qG env l cs=pure cl/\(∀y c,cl.lookup y=some c->env.cells.lookup y=some c)/\(∀y,(∃c,cs.lookup y=some c)->∃c,cl.lookup y=some c)/\(∀y,(y,NameKind.free)∈l->∃c,cl.lookup y=some c)
 |[],cs,_,h=>⟨cs,aV2 env cs,h,λ_ z=>z,λ_ z=>by cases z⟩
 |(n,k)::r,cs,hl,h=>by
  by_cases g:k= .free
  ·subst g;obtain⟨c,o⟩:=hl (n,.free) bYp rfl;obtain⟨cl,i,j,d,m⟩:=aJa r ((n,c)::cs) (λy a=>hl y (bYm _ a)) (λy b e=>by
    rw[cQ1]at e;split at e
    ·rename_i z;cases e;rw[beq_iff_eq.mp z];exact o
    ·exact h y b e)
   have f:∀y,(∃c,cs.lookup y=some c)->∃b,((n,c)::cs).lookup y=some b:=λy ⟨b,e⟩=>by
    rw[cQ1];split
    ·exact⟨_,rfl⟩
    ·exact⟨b,e⟩
   refine⟨cl,by rw[aZ9 o];exact i,j,λy z=>d y (f y z),λy a=>?_⟩;rcases bYj.mp a with e|a
   ·cases e;exact d _ ⟨c,by rw[cQ1,beq_self_eq_true]⟩
   ·exact m y a
  ·obtain⟨cl,i,j,d,m⟩:=aJa r cs (λy a=>hl y (bYm _ a)) h;refine⟨cl,by rw[aX9 g];exact i,j,d,λy a=>?_⟩;rcases bYj.mp a with e|a
   ·cases e;exact absurd rfl g
   ·exact m y a
abbrev blk(X:Cx)(N:List Str)(sc:cXo)(cl:List (Str×Nat))(C:Nat)(s:bYd)(H:Hp)(ex:List Nat):Cx:=
 {X with N:=N,s₀:=s,H₀:=H,env:=compEnvC sc cl C X.env,outer:=X.stack,ex:=ex,fn:=λ_=>false,pn:= [],xe:=λ_ _=>False}
def sub(σ:St)(fr:List Nat)(o:Option V):St:=o::fr.map λi=>(σ[i]?).join
structure xJ(N:List Str)(osc:cXo)(x:Str)(names:List Str)(fr:List Nat)(sc:cXo):Prop where
 kind:sc.kind= .function
 nocell:∀y∈sc.names,y.2≠ .cell
 loc:∀y∈sc.names,y.2= .local->sc.names.lookup y.1=some .local
 var:sc.names.lookup x=some .local
 free:∀y∈sc.names,y.2= .free->osc.names.lookup y.1=some .cell\/osc.names.lookup y.1=some .free
 flk:∀y∈sc.names,y.2= .free->sc.names.lookup y.1=some .free
 nd:(x::names).Nodup
 len:fr.length=names.length
 taken:∀p∈names.zip fr,N[p.2]? =some p.1/\(p.1,NameKind.free)∈sc.names
theorem xJ.from_{N:List Str}{b sc:cXo}{x:Str}{names:List Str}{fr:List Nat}(S:xJ N b x names fr sc)(j:Nat)(y:Str)(h:names[j]? =some y):∃i,fr[j]? =some i/\N[i]? =some y/\(y,NameKind.free)∈sc.names:=by
 have c:j<names.length:=(bYl.mp h).1;have a:j<fr.length:=by rw[S.len];exact c
 have z:(names.zip fr)[j]? =some (y,fr[j]):=by rw[List.getElem?_zip_eq_some];exact⟨h,bK9 a⟩
 obtain⟨d,e⟩:=S.taken _ (bYt z);exact⟨fr[j],bK9 a,d,e⟩
def bV1(X:Cx)(ifs:List Expr)(t:TT):Prop:=
 ∀ (pins:List (Nat×Obj))(s:bYd)(σ:St)(H:Hp)(Q:Bool->Hp->Prop),Inv X pins σ H s->t σ H Q->
  bYi (bYk X.prog X.w) X.A (forIn ifs true λc r=>if r=true then do let ok <- isTrue c X.env (eval c X.env);pure (cZO ok)else pure (cZO r)) (TP X pins σ Q) X.xe s
def bKE:TT:=λ_ H Q=>Q true H
theorem zT{X:Cx}:bV1 X [] bKE:=λpins s σ H Q I h=>by
 simp only[List.forIn_nil];exact bYg ⟨H,I,h⟩
theorem wU{X:Cx}{c:Expr}{a:TT}(d:PT X c a):bV1 X [c] a:=λpins s σ H Q I h=>by
 simp only[cZQ,List.forIn_nil,if_true,bind_assoc,pure_bind];refine bYb (thn (d pins s σ H Q I h) λb e z=>?_);exact bYg z
def bJd(J:It)(fr:List Nat)(tif:TT)(te:TE)(σ:St)(D:Nat)(Q:VK)(g:Hp):Prop:=
 ∃W:Nat->Nat->List V->Hp->Prop,(∃m,W 0 m [] g)/\∀i m a H,W i m a H->H D=some (.lst a)/\
  ((J.stop i H/\Q (.ref D) H)\/(J.go i H/\∀v f,J.yld i H v f->tif (sub σ fr (some v)) f λb e=>
   if b=true then te (sub σ fr (some v)) e λy d=>a.length<bYB/\d D=some (.lst a)/\∃c,c<m/\W (i+1) c (a++ [y]) (upd d D (.lst (a++ [y])))
   else ∃c,c<m/\W (i+1) c a e))
def tLc(wi:TI)(fr:List Nat)(tif:TT)(te:TE):TE:=λσ H Q=>wi σ H λJ a=>∀D,a D=none->bJd J fr tif te σ D Q (upd a D (.lst []))
theorem aXe{env:Env}:∀ {names:List (Str×cZj)} {y:Str},names.lookup y=some .free->
  (names.map λ(n,k)=>if(k==NameKind.free && env.scope.kind== .function && env.kindOf n==some .cell)then(n,NameKind.cell)else(n,k)).lookup y=some .cell\/
  (names.map λ(n,k)=>if(k==NameKind.free && env.scope.kind== .function && env.kindOf n==some .cell)then(n,NameKind.cell)else(n,k)).lookup y=some .free
 |[],_,h=>by simp at h
 |(n,k)::r,y,h=>by
  have b:= @aXe env r y;rw[bY0];dsimp only;cases a:y==n with
  |true=>
   rw[cQ1,a]at h;cases h;split
   ·left;rw[cQ1,a]
   ·right;rw[cQ1,a]
  |false=>
   rw[cQ1,a]at h;split
   ·rw[cQ1,a];exact b h
   ·rw[cQ1,a];exact b h
theorem aZF{env:Env}{sc:cXo}{y:Str}(h:sc.names.lookup y=some .free):(relabel sc env).names.lookup y=some .cell\/(relabel sc env).names.lookup y=some .free:=aXe h
section
variable {X:Cx}{pins:List (Nat×Obj)}{σ:St}{H:Hp}{s:bYd}
theorem bQ6{prog:bYx}{w:bYD}{A:bYO}{R:Result->bYd->Prop}{s:bYd}{elt a iter:Expr}{ifs:List Expr}{scope:cXo}{pos:Pos}{it l:bYa}{env:Env}(I:Nat->bYd->Prop)
  (turn:∀n s,I n s->bYi (bYk prog w) A (pyNext it) (λr e=>match r with
   |none=>R (.ok .next) e
   |some v=>bYi (bYk prog w) A (cZX a it v) (λ_ b=>bYi (bYk prog w) A (assign a env v) (λ_ j=>
     bYi (bYk prog w) A (forIn ifs true λc r=>if r=true then do let ok <- isTrue c env (eval c env);pure (cZO ok)else pure (cZO r)) (λok d=>
      if ok=true then bYi (bYk prog w) A (eval elt env) (λx k=>
       bYi (bYk prog w) A (call (.builtin "list.append") [l,x]) (λ_ i=>∃m,m<n/\I m i) (λ_ _=>False) k) (λ_ _=>False) d
      else ∃m,m<n/\I m d) (λ_ _=>False) j) (λ_ _=>False) b) (λ_ _=>False) e) (λ_ _=>False) s)
  (n:Nat) (h:I n s):cXr (bYk prog w) A (.compLoop (.ListComp elt [⟨a,iter,ifs,0⟩] scope pos) 0 it l env) R s:=by
 refine codeAny_loop rfl I (λn s u=>?_) n h
 show bYi _ A ((compTurn (.ListComp elt [⟨a,iter,ifs,0⟩] scope pos) 0 it l env).onRaise (λx=>do cZA x env;theTreesLotGoes x)) _ _ s
 refine wpAny_noted ?_
 rw[compTurn_list]
 refine bYb (cZI (bYb (cQc (turn n s u) (λr e g=>?_) λ_ _ z=>z.elim)))
 cases r with
 |none=>exact bYg g
 |some v=>
  refine bYb (cQc g (λ_ b o=>?_) λ_ _ z=>z.elim);refine bYb (cQc o (λ_ j q=>bYb (cQc q (λok d f=>?_) λ_ _ z=>z.elim)) λ_ _ z=>z.elim);cases ok with
  |false=>exact bYg ⟨rfl,f⟩
  |true=>refine bYb (bYb (cQc f (λx k t=>bYb (cQc t (λ_ i p=>?_) λ_ _ z=>z.elim)) λ_ _ z=>z.elim));exact bYg (bYg ⟨rfl,p⟩)
theorem bZK{elt iter:Expr}{x:Str}{px:Pos}{ifs:List Expr}{sc:cXo}{pos:Pos}{names:List Str}{fr:List Nat}{tif:TT}{te:TE}{cl:List (Str×Nat)}{E:bYa->bYd->Prop}(S:xJ X.N X.env.scope x names fr sc)(hc:X.calm=true)
  (d:∀y c,cl.lookup y=some c->X.env.cells.lookup y=some c) (a0:∀y,(y,NameKind.free)∈sc.names->∃c,cl.lookup y=some c)
  (b8:∀cl C s H ex,bV1 (blk X (x::names) sc cl C s H ex) ifs tif) (he:∀cl C s H ex,PE (blk X (x::names) sc cl C s H ex) elt te)
  {J:It} {it:Nat} {f:List Nat} {tn:Nat->Heap->Prop} {Q:VK} (I:Inv X pins σ H s) (T:bW6 X.prog X.w X.K (.Name x px) J f it tn) (st:tn 0 s.heap) (hf:∀b∈f,bZv X pins H b)
  (q:∀D,H D=none->bJd J fr tif te σ D Q (upd H D (.lst []))) {RR:bYa->Nat->Result->bYd->Prop}
  (b7:∀D C B g,Inv X pins σ g B->g C=none->C≠X.env.locals->X.s₀.heap.objs.size<=C->(∀y c,X.env.cells.lookup y=some c->c≠C)->(∀p∈X.pn++pins,p.1≠C)->(∃m,B.heap.Ns C m)->Q (.ref D) g->RR (.ref D) C (.ok .next) B):
  bYi (bYk X.prog X.w) X.A (newList []) (λa6 s₃=>bYi (bYk X.prog X.w) X.A (newFunctionEnv sc X.env.globals cl [] X.env.qual none .none (some X.env)) (λZ s₄=>
   cXr (bYk X.prog X.w) X.A (.compStart (.ListComp elt [⟨.Name x px,iter,ifs,0⟩] sc pos) 0 (.ref it) a6 {Z with scope:=relabel sc X.env}) (RR a6 Z.locals) s₄) E s₃) E s:=by
 refine cXa (wpAny_newFunctionEnv S.nocell (by intro y hy;simp at hy) (λt a2 a3=>?_) S.kind)
 dsimp only at a2 a3 ⊢
 have l:Inv X pins σ (upd H s.heap.objs.size (.lst [])) {s with heap:=s.heap.push {cls:= .type "list",dict:=none,data:= .seq ([]:List bYa).toArray} }:=I.lnew (t':=s.toks) (ys:= []) (its:= []) .nil (bY7 _)
 have b5:=I.fresh
 obtain⟨W,⟨m0,w0⟩,turn⟩:=q s.heap.objs.size b5
 have a1:∀b∈f,∃o,s.heap.get? b=some o/\∀v,o.data≠ .cell v:=T.obj 0 _ st
 have hG:(s.heap.push {cls:= .type "list",dict:=none,data:= .seq ([]:List bYa).toArray}).objs.size=s.heap.objs.size+1:=cQJ ..
 have kG:∀b o,s.heap.get? b=some o->(s.heap.push {cls:= .type "list",dict:=none,data:= .seq ([]:List bYa).toArray}).get? b=some o:=λb o e=>bYf _ e
 generalize d0:s.heap.push {cls:= .type "list",dict:=none,data:= .seq ([]:List bYa).toArray}=G at a2 a3 l hG kG ⊢
 generalize c8:s.heap.objs.size=D at b5 turn w0 hG l ⊢
 have keep:∀b o,G.get? b=some o->t.get? b=some o:=λb o e=>a3.extBut b o (bYA (bYo e)) (bYf _ e)
 have b3:∀b∈f,b≠G.objs.size:=λb a=>by obtain⟨o,e,_⟩:=a1 b a;exact bYA (bYo (kG b o e))
 have a5:∀y c,X.env.cells.lookup y=some c->c≠G.objs.size:=λy c e=>by obtain⟨v,z⟩:=l.cell y c e;exact bYA z.lt
 have b9:(blk X (x::names) sc cl G.objs.size {s with heap:=G} (upd H D (.lst [])) f).Ok:=by
  refine⟨I.ok.mod,?_,I.ok.glob,I.ok.blt,bYh _,?_,?_,?_,I.ok.hd,I.ok.frames,.inl rfl,?_,l.bs,bYQ I.ok.bsz l.sz,?_,?_,l.stack,l.stkFree⟩
  ·show(relabel sc X.env).kind= .function;exact S.kind
  ·exact λy z c h1 h2=>I.ok.inj y z c (d y c h1) (d z c h2)
  ·intro y hy;have b6:(relabel sc X.env).names.lookup y=some .cell\/(relabel sc X.env).names.lookup y=some .free:=hy;have U:(y,NameKind.cell)∈(relabel sc X.env).names\/(y,NameKind.free)∈(relabel sc X.env).names:=b6.imp cQD cQD;have c9:(y,NameKind.free)∈sc.names:=by
    rcases U with U|U
    ·obtain⟨⟨n,k⟩,Y,e⟩:=cQa.mp (show(y,NameKind.cell)∈sc.names.map _ from U);dsimp only at e;split at e
     ·rename_i O;cases e;have:k= .free:=by
       simp only[Bool.and_eq_true,beq_iff_eq]at O;exact O.1.1
      rw[this]at Y;exact Y
     ·cases e;exact absurd rfl (S.nocell _ Y)
    ·obtain⟨⟨n,k⟩,Y,e⟩:=cQa.mp (show(y,NameKind.free)∈sc.names.map _ from U);dsimp only at e;split at e
     ·cases e
     ·cases e;exact Y
   exact a0 y c9
  ·exact λy c h _=>by cases h
  ·intro b a;exact⟨b3 b a,λy c e=>(hf b a).2.2.2.2.1 y c (d y c e)⟩
  ·intro b o e a;obtain⟨f0,f1,f2,f3,f4,f5⟩:=hf b a;rcases f3 with z|z
   ·exact I.ok.noex b o e z
   ·exact absurd (bYC (bYo e) (bYQ I.ok.bsz z)) (cQi _)
  ·intro b a z;obtain⟨f0,f1,f2,f3,f4,f5⟩:=hf b a;rcases bYj.mp (I.stkSub b z)with z|z
   ·exact f1 z
   ·exact f2 z
 have IY:Inv (blk X (x::names) sc cl G.objs.size {s with heap:=G} (upd H D (.lst [])) f) [] (sub σ fr none) (upd H D (.lst [])) {s with heap:=t,toks:=s.toks+([]:List (Str×bYa)).length}:=by
  refine⟨b9,rfl,I.bare,Un.kept keep,⟨_,a2,?_⟩,?_,l.hok.fresh (bYh _),λy c e=>l.freeC y c (d y c e),λp hp=>absurd (show p∈([]:List (Nat×Obj))from hp) (by simp),l.hok.kept keep,?_⟩
  ·intro i y v h1 h2 h3;cases i with
   |zero=>cases h2
   |succ j=>
    have c4:names[j]? =some y:=h1;obtain⟨i',e1,e2,e3⟩:=S.from_ j y c4;have c7:σ[i']? =some (some v):=by
     have z:(fr.map λi=>(σ[i]?).join)[j]? =some (some v):=h2;rw[bYu,e1]at z;have P:(σ[i']?).join=some v:=bYw z;cases q:σ[i']? with
     |none=>rw[q]at P;cases P
     |some o=>rw[q]at P;rw[show o=some v from P]
    obtain⟨m,Y,hl⟩:=l.loc;have a9:Vis X.env.scope y:= .inr (S.free _ e3 rfl);obtain⟨u,ru,lk⟩:=hl i' y v e2 c7 a9;refine⟨u,ru,.inr ⟨?_,?_⟩⟩
    ·exact aZF (S.flk _ e3 rfl)
    ·rcases lk with⟨k,_⟩|⟨k,c,e,z⟩
     ·rcases S.free _ e3 rfl with z|z
      ·have P:X.env.kindOf y=some .cell:=z;rw[k]at P;cases P
      ·have P:X.env.kindOf y=some .free:=z;rw[k]at P;cases P
     ·obtain⟨c',e'⟩:=a0 y e3;have:=d y c' e';rw[e]at this;cases this;exact⟨c,e',z.keeps keep⟩
  ·intro y c e;obtain⟨v,z⟩:=l.cell y c (d y c e);exact⟨v,z.keeps keep⟩
  ·show(sub σ fr none).length=(x::names).length;simp[sub,S.len]
 have b2:∀ {o:Option V} {g:Hp} {B:bYd} {pl:List (Nat×Obj)},Inv (blk X (x::names) sc cl G.objs.size {s with heap:=G} (upd H D (.lst [])) f) pl (sub σ fr o) g B->Inv X pins σ g B:=λ{o g B pl} I'=>
  l.call' (ch:=f) I'.os I'.base I'.hok I'.bare λb a=>by obtain⟨f0,f1,f2,f3,f4,f5⟩:=hf b a;exact⟨f3,f1,f4,f5⟩
 have M:∀ {g:Hp},(∀b∈f,g b=none)->∀b∈f,bZv (blk X (x::names) sc cl G.objs.size {s with heap:=G} (upd H D (.lst [])) f) [] g b:=λ{g} Y b a=>by
  obtain⟨f0,f1,f2,f3,f4,f5⟩:=hf b a;refine⟨Y b a,b3 b a,λz=>?_,.inl a,λy c e=>f4 y c (d y c e),λp hp=>absurd (show p∈([]:List (Nat×Obj))from hp) (by simp)⟩;rcases bYj.mp (I.stkSub b z)with z|z
  ·exact f1 z
  ·exact f2 z
 have c0:∀b∈f,upd H D (.lst []) b=none:=λb a=>by
  obtain⟨o,e,_⟩:=a1 b a;have c6:b≠D:=by rw[<- c8];exact bYA (bYo e)
  rw[yJ c6];exact(hf b a).1
 have a7:tn 0 t:=T.keep 0 _ _ st λb a o e=>keep b o (kG b o e)
 have b4:cXr (bYk X.prog X.w) X.A (.compLoop (.ListComp elt [⟨.Name x px,iter,ifs,0⟩] sc pos) 0 (.ref it) (.ref D) (compEnvC sc cl G.objs.size X.env)) (RR (.ref D) G.objs.size) {s with heap:=t,toks:=s.toks+([]:List (Str×bYa)).length}:=by
  refine bQ6 (λn B=>∃i F o g,Inv (blk X (x::names) sc cl G.objs.size {s with heap:=G} (upd H D (.lst [])) f) [] (sub σ fr o) g B/\tn i B.heap/\(∀b∈f,g b=none)/\W i n F g) ?_ m0
   ⟨0,[],none,_,IY,a7,c0,w0⟩
  rintro n B ⟨i,F,o,g,I',a8,b1,w'⟩;obtain⟨hD,c5⟩:=turn i n F g w';rcases c5 with⟨b0,qn⟩|⟨go,step⟩
  ·refine thn (T.done (blk X (x::names) sc cl G.objs.size {s with heap:=G} (upd H D (.lst [])) f) rfl rfl rfl hc i [] B _ g (λ_ _=>False) I' (M b1) a8 b0) λr s1 ⟨hr,I1⟩=>?_;subst hr;obtain⟨mC,c3,_⟩:=I1.loc;exact b7 D G.objs.size s1 g (b2 I1) I1.free (cXP l.lt) l.sz a5 (λp hp=>bYA (bYo (l.pin p hp).1)) ⟨mC,c3⟩ qn
  ·refine thn (T.item (blk X (x::names) sc cl G.objs.size {s with heap:=G} (upd H D (.lst [])) f) rfl rfl rfl hc i [] B _ g (λ_ _=>False) I' (M b1) a8 go) λr s1 ⟨u,hr,h1⟩=>?_;subst hr;refine thn h1 λ_ s2 ⟨v,H2,I2,rv,yl,st2,fr2⟩=>?_;have c1:=I2.pinned (M fr2) (T.obj _ _ st2);have pg:PG (blk X (x::names) sc cl G.objs.size {s with heap:=G} (upd H D (.lst [])) f) (.Name x px) (yW 0):=xB S.nd rfl (.inl (lookup_relabel_local S.var)) (.inr (lookup_relabel_local S.var));have L:∀ {o:Option V} {H3:Hp} {s3:bYd},Inv (blk X (x::names) sc cl G.objs.size {s with heap:=G} (upd H D (.lst [])) f) ([]++aZD f s2.heap) (sub σ fr o) H3 s3->tn (i+1) s3.heap/\∀b∈f,H3 b=none:=λ{o H3 s3} J3=>by
    refine⟨T.keep _ _ _ st2 λb a ob e=>(J3.pin (b,ob) (bYz _ (bYz _ (uY a e)))).1,λb a=>?_⟩;obtain⟨ob,e,_⟩:=T.obj _ _ st2 b a;exact(J3.pin (b,ob) (bYz _ (bYz _ (uY a e)))).2.1
   refine thn (pg _ s2 _ H2 v u (λσ' c2=>σ'=sub σ fr (some v)/\c2=H2) c1 rv ⟨rfl,rfl⟩) λ_ s3 ⟨σ3,H3,I3',e3,e3'⟩=>?_;subst e3;subst e3';refine thn (b8 cl G.objs.size {s with heap:=G} (upd H D (.lst [])) f _ s3 _ _ _ I3' (step v _ yl)) λb s4 ⟨H4,I4,q4⟩=>?_;cases b with
   |false=>have a4:∃R,R<n/\W (i+1) R F H4:=q4;obtain⟨R,U,w4⟩:=a4;obtain⟨z1,z2⟩:=L I4;show ∃m,m<n/\_;exact⟨R,U,i+1,F,some v,H4,I4.unpinned,z1,z2,w4⟩
   |true=>have a4:te (sub σ fr (some v)) H4 λy H5=>F.length<bYB/\H5 D=some (.lst F)/\∃R,R<n/\W (i+1) R (F++ [y]) (upd H5 D (.lst (F++ [y]))):=q4;show bYi _ _ _ _ _ _;refine thn (he cl G.objs.size {s with heap:=G} (upd H D (.lst [])) f _ s4 _ _ _ I4 a4) λue s5 ⟨y,H5,I5,r5,hl,hD5,R,U,w5⟩=>?_;refine thn (xL _ s5 _ H5 (.ref D) [y] (.ref D) [ue] (λ_ H6=>H6=upd H5 D (.lst (F++ [y]))) I5 rfl (.cons r5 .nil) ⟨D,F,y,rfl,rfl,hD5,hl,rfl⟩) λ_ s6 ⟨_,H6,I6,_,e6⟩=>?_;subst e6;obtain⟨z1,z2⟩:=L I6;exact⟨R,U,i+1,F++ [y],some v,_,I6.unpinned,z1,z2,w5⟩
 exact codeAny_compStart_list b4 (T.self _ 0 _ _ _ a7 b4)
theorem aJl{sc:cXo}{x:Str}{names:List Str}{fr:List Nat}(S:xJ X.N X.env.scope x names fr sc)(I:Inv X pins σ H s): ∃cl,closureFor sc X.env=pure cl/\(∀y c,cl.lookup y=some c->X.env.cells.lookup y=some c)/\(∀y,(y,NameKind.free)∈sc.names->∃c,cl.lookup y=some c):=by
 obtain⟨cl,g,d,_,f⟩:=aJa (env:=X.env) sc.names [] (λy a b=>I.ok.has y.1 (S.free y a b)) (λy c e=>by simp at e);exact⟨cl,g,d,f⟩
end
section
variable {X:Cx}{elt iter:Expr}{x:Str}{px:Pos}{ifs:List Expr}{sc:cXo}{pos:Pos}{names:List Str}{fr:List Nat}{wi:TI}{tif:TT}{te:TE}
theorem W3(S:xJ X.N X.env.scope x names fr sc)(j:X.calm=true)(z:PI X (.Name x px) iter wi)(f:∀cl C s H ex,bV1 (blk X (x::names) sc cl C s H ex) ifs tif) (G:∀cl C s H ex,PE (blk X (x::names) sc cl C s H ex) elt te) (p:∀v,cJo iter X.env v=pure v:=by intro _;rfl):PE X (.ListComp elt [⟨.Name x px,iter,ifs,0⟩] sc pos) (tLc wi fr tif te):=by
 intro pins s σ H Q I h;obtain⟨cl,P,B,n⟩:=aJl S I;rw[eval_ListComp];refine cJx (use:=none) rfl p P S.kind S.loc (thn (z pins s σ H _ I h) λv Z a=>thn a λy U d=>?_);obtain⟨Y,W,tn,J,V,rfl,F,T,K,r,q⟩:=d;refine bZK (RR:=λc C=>compPost (bYk X.prog X.w) X.A X.xe none (EP X pins σ Q) c C) S j B n f G F T K r q ?_;intro D C k E l a d u O t g M;obtain⟨m,g⟩:=g;exact⟨m,g,λR i=>⟨.ref D,E,l.turned (t':=k.toks) (λb o L e=>(i.2 b L).trans e) a (bYU (bYU d)) (.inr u) O t,rfl,M⟩⟩
theorem aZE{i:Nat}{y:Str}{d c:Pos}(S:xJ X.N X.env.scope x names fr sc)(F:X.calm=true)(G:X.N.Nodup)(E:X.N[i]? =some y)(hl:X.env.scope.names.lookup y=some .local)(W:PI X (.Name x px) iter wi)
  (r:∀cl C s H ex,bV1 (blk X (x::names) sc cl C s H ex) ifs tif) (he:∀cl C s H ex,PE (blk X (x::names) sc cl C s H ex) elt te)
  (l:swapsWith (.ListComp elt [⟨.Name x px,iter,ifs,0⟩] sc pos) (some (.Name y d)) c.line X.env=pure true:=by rfl) (O:∀v,cJo iter X.env v=pure v:=by intro _;rfl):
  PS X (.Assign [.Name y d] (.ListComp elt [⟨.Name x px,iter,ifs,0⟩] sc pos) c) (bKc (tLc wi fr tif te) (yW i)):=by
 intro pins s σ H D I h
 obtain⟨cl,c1,Y,M⟩:=aJl S I
 rw[exec_Assign_Name_used _ _ _ _ l]
 refine bYb (cZI (bYb ?_))
 show bYi _ X.A (do let _ <- comprehension (.ListComp elt [⟨.Name x px,iter,ifs,0⟩] sc pos) sc X.env _ (newList []) false (eval iter X.env) (some (assign (.Name y d) X.env))) _ _ s
 refine bYb (cQc (cJx (use:=some (assign (.Name y d) X.env)) (Q:=λ_ f=>SP X pins D .next f) rfl O c1 S.kind S.loc (thn (W pins s σ H _ I h) λv s1 k=>thn k λV s2 g=>?_)) (λ_ f z=>bYg (bYg z)) λ_ _ e=>e)
 obtain⟨it,fp,tn,J,H1,rfl,I1,T,st,P,q⟩:=g
 refine bZK (RR:=λp C=>compPost (bYk X.prog X.w) X.A X.xe (some (assign (.Name y d) X.env)) (λ_ f=>SP X pins D .next f) p C) S F Y M r he I1 T st P q ?_
 intro L C f Z K k g U B R u z
 obtain⟨m,u⟩:=u
 show bYi _ X.A (assign (.Name y d) X.env (.ref L)) _ _ f
 refine wpAny_assign_Name (aQO K G E (.inl hl) (v:= .ref L) rfl (λs'' I'' ⟨a,sb,t⟩=>?_) (.inr hl))
 have n:C≠a:=by
  rcases t with rfl|t
  ·exact g
  ·exact bYU (B y a t)
 exact⟨m,u.sameBut sb n,λh' j=>⟨_,Z,I''.turned (t':=s''.toks) (λb o hb e=>(j.2 b hb).trans e) k g (.inr U) B R,z⟩⟩
end
theorem aZr{K:bYc}{a:Nat}{xs:List V}{fr:List Nat}{tif:TT}{te:TE}{σ:St}{D:Nat}{Q:VK}{H:Hp}(p:V->Bool)(f:V->V)(hl:SqL K H a xs)(r:H D=none)(hz:xs.length<=bYB) (x:∀v∈xs,∀ (c:Hp)(R:Bool->Hp->Prop),(∀b,b≠D->c b=H b)->R (p v) c->tif (sub σ fr (some v)) c R) (t:∀v∈xs,p v=true->∀ (c:Hp)(R:VK),(∀b,b≠D->c b=H b)->R (f v) c->te (sub σ fr (some v)) c R) (A:Q (.ref D) (upd H D (.lst ((xs.filter p).map f)))):bJd (Itl K a) fr tif te σ D Q (upd H D (.lst [])):=by
 have e:∀g,SqL K (upd H D (.lst g)) a xs:=λg=>by
  rcases hl with(h|⟨o,h⟩)|h
  ·exact .inl (.inl (by rw[yJ (yK h r)];exact h))
  ·exact .inl (.inr ⟨o,by rw[yJ (yK h r)];exact h⟩)
  ·exact .inr h
 refine⟨λi m g c=>m=xs.length - i/\i<=xs.length/\g=((xs.take i).filter p).map f/\c=upd H D (.lst g),⟨xs.length,by simp,bY7 _,by simp,rfl⟩,?_⟩;rintro i m g c ⟨rfl,E,rfl,rfl⟩;refine⟨yB,?_⟩;by_cases d:i<xs.length
 ·refine .inr ⟨⟨xs,xs[i],e _,bK9 d⟩,λv B w=>?_⟩;obtain⟨rfl,y⟩:=w;have s:xs[i]? =some v:=y xs (e _);have n:v∈xs:=bYt s;have j:xs.take (i+1)=xs.take i++ [v]:=by rw[cQh,s];rfl
  have l:∀b,b≠D->upd H D (.lst (((xs.take i).filter p).map f)) b=H b:=λb z=>yJ z;have k:(((xs.take i).filter p).map f).length<bYB:=by rw[bYe];have u:=cQe p (xs.take i);rw[cQn]at u;omega
  refine x v n _ _ l ?_;cases q:p v with
  |false=>show ∃C,_;refine⟨xs.length - (i+1),by omega,rfl,d,?_,rfl⟩;rw[j,cQl,cQP (by rw[q];decide)];simp
  |true=>show te _ _ _;refine t v n q _ _ l ⟨k,yB,xs.length - (i+1),by omega,rfl,d,?_,by rw[uO]⟩;rw[j,cQl,cQQ q];simp
 ·obtain rfl:i=xs.length:=by omega
  refine .inl ⟨⟨xs,e _,bYh _⟩,?_⟩;rw[cQb];exact A
end L2
namespace L2
open PySem
theorem lcM{N:List Str}{osc:Scope}{x:Str}{names:List Str}{fr:List Nat}{sc:Scope}(h:decide (sc.kind=.function/\(∀y∈sc.names,y.2≠.cell)/\(∀y∈sc.names,y.2=.local->sc.names.lookup y.1=some .local)/\sc.names.lookup x=some .local/\(∀y∈sc.names,y.2=.free->osc.names.lookup y.1=some .cell\/osc.names.lookup y.1=some .free)/\(∀y∈sc.names,y.2=.free->sc.names.lookup y.1=some .free)/\(x::names).Nodup/\fr.length=names.length/\∀p∈names.zip fr,N[p.2]?=some p.1/\(p.1,NameKind.free)∈sc.names)=true:=by decide +kernel):xJ N osc x names fr sc:=
 have z:=of_decide_eq_true h;⟨z.1,z.2.1,z.2.2.1,z.2.2.2.1,z.2.2.2.2.1,z.2.2.2.2.2.1,z.2.2.2.2.2.2.1,z.2.2.2.2.2.2.2.1,z.2.2.2.2.2.2.2.2⟩
end L2
namespace Stb
open PySem
def bQy(xs:Array Nat):Prop:=∀i j:Nat,i<j->j<xs.size->xs.getD i 0<xs.getD j 0
theorem bJt{xs:Array Nat}{i:Nat}(h:i<xs.size)(d e:Nat):xs.getD i d=xs.getD i e:=by
 simp[cXF,h]
theorem aJh{xs:Array Nat}{j:Nat}(f:bQy xs):∀ (a c b:Nat),b<=xs.size->c<=b->b - c<=a->
  (∀k,k<c->xs.getD k 0<j)->(∀k,b<=k->k<xs.size->j<=xs.getD k 0)->
  (∀k,k<cX8 xs j a c b->xs.getD k 0<j)/\(∀k,cX8 xs j a c b<=k->k<xs.size->j<=xs.getD k 0)/\cX8 xs j a c b<=xs.size
 |0,c,b,h1,h2,h3,h4,h5=>by
  have e:c=b:=by omega
  subst e;unfold cX8;exact⟨h4,h5,h1⟩
 |a+1,c,b,h1,h2,h3,h4,h5=>by
  unfold cX8;by_cases hl:c<b
  ·rw[if_pos hl];dsimp only;have h:(c+b) / 2<xs.size:=by omega
   have e:=bJt h j 0;by_cases i:xs.getD ((c+b) / 2) j<j
   ·rw[if_pos i];refine aJh f a _ _ h1 (by omega) (by omega) (λk l=>?_) h5;by_cases d:k=(c+b) / 2
    ·subst d;omega
    ·have:=f k ((c+b) / 2) (by omega) h;omega
   ·rw[if_neg i];refine aJh f a _ _ (by omega) (by omega) (by omega) h4 (λk l d=>?_);by_cases g:k=(c+b) / 2
    ·subst g;omega
    ·have:=f ((c+b) / 2) k (by omega) d;omega
  ·rw[if_neg hl];have e:c=b:=by omega
   subst e;exact⟨h4,h5,h1⟩
theorem uR{xs:Array Nat}(b:bQy xs)(j:Nat): (∀k,k<bY9 xs j->xs.getD k 0<j)/\(∀k,bY9 xs j<=k->k<xs.size->j<=xs.getD k 0)/\bY9 xs j<=xs.size:=by
 unfold bY9;exact aJh b xs.size 0 xs.size (bYh _) (bY7 _) (by omega) (λk a=>absurd a (cQX _)) (λk c d=>by omega)
theorem aVZ{xs:Array Nat}(c:bQy xs){i:Nat}(d:i<xs.size):bY9 xs (xs.getD i 0+1)=i+1:=by
 obtain⟨e,f,g⟩:=uR c (xs.getD i 0+1);have a:i<bY9 xs (xs.getD i 0+1):=by apply Nat.lt_of_not_le;intro h;have:=f i h d;omega
 have b:¬i+1<bY9 xs (xs.getD i 0+1):=λh=>by have q:=e (i+1) h;have:=c i (i+1) (by omega) (by omega);omega
 omega
theorem aV0{xs:Array Nat}(b:bQy xs):bY9 xs 0=0:=by
 obtain⟨a,d,c⟩:=uR b 0;apply Nat.le_antisymm _ (bY7 _);apply Nat.le_of_not_lt;intro h;have:=a 0 h;omega
theorem aXs{α:Type}(xs:Array α)(p:Nat)(x:α)(h:p<=xs.size):(cX9 xs p x).size=xs.size+1:=by
 unfold cX9;simp;omega
theorem X8{xs:Array Nat}{p x k:Nat}(h:p<=xs.size):(cX9 xs p x).getD k 0=if k<p then xs.getD k 0 else if k=p then x else xs.getD (k - 1) 0:=by
 unfold cX9;have d:(xs.extract 0 p).size=p:=by simp;omega
 have f:((xs.extract 0 p).push x).size=p+1:=by rw[Array.size_push,d]
 simp only[Array.getD_eq_getD_getElem?];by_cases b:k<p
 ·rw[if_pos b,cJf (by omega),Array.getElem?_push,if_neg (by omega),cZ5 (by omega)];have a:k<xs.size:=by omega
  simp[a]
 ·rw[if_neg b];by_cases c:k=p
  ·subst c;rw[if_pos rfl,cJf (by omega),Array.getElem?_push,if_pos (by omega)];rfl
  ·rw[if_neg c,Array.getElem?_append_right (by omega),f];by_cases g:k - (p+1)<xs.size - p
   ·rw[cZ5 (by omega)];have a:k - 1<xs.size:=by omega
    have e:p+(k - (p+1))=k - 1:=by omega
    simp[a,e]
   ·rw[cX3 (by simp;omega),cX3 (by omega)]
theorem aJH{xs:Array Nat}(b:bQy xs){j:Nat}(h:∀k,k<xs.size->xs.getD k 0≠j):bQy (cX9 xs (bY9 xs j) j):=by
 obtain⟨b1,f,d⟩:=uR b j;intro i k e l;rw[aXs _ _ _ d]at l;rw[X8 d,X8 d];by_cases c:i<bY9 xs j
 ·rw[if_pos c];have v:=b1 i c;by_cases g:k<bY9 xs j
  ·rw[if_pos g];exact b i k e (by omega)
  ·rw[if_neg g];by_cases a:k=bY9 xs j
   ·rw[if_pos a];exact v
   ·rw[if_neg a];have:=f (k - 1) (by omega) (by omega);omega
 ·rw[if_neg c,if_neg (show ¬k<bY9 xs j by omega),if_neg (show ¬k=bY9 xs j by omega)];by_cases a:i=bY9 xs j
  ·rw[if_pos a];have:=f (k - 1) (by omega) (by omega);have:=h (k - 1) (by omega);omega
  ·rw[if_neg a];exact b (i - 1) (k - 1) (by omega) (by omega)
theorem aWK(n:Nat):bQy (Array.range n):=by
 intro i j b a;rw[Array.size_range]at a;simp[cXF,a,Nat.lt_trans b a,b]
theorem aYw{l:List Nat}(h:l.Pairwise (·<·)):bQy l.toArray:=by
 intro i j c d;have a:j<l.length:=by simpa using d
 have b:i<l.length:=Nat.lt_trans c a;have:=cXG.mp h i j b a c;simp[cXF,a,b,this]
structure Tab(b:Bool)(t:cQV):Prop where
 rise:bQy t.place
 dum:t.dummies= #[]
 led:b=true\/t.led=true
theorem aKD(j:Nat):SetTable.has #[] j=false:=by
 unfold SetTable.has;simp
theorem bZc{b:Bool}{t:cQV}(T:Tab b t){j:Nat}(h:t.slot j= .empty):∀k,k<t.place.size->t.place.getD k 0≠j:=by
 intro k a e;obtain⟨b1,d,i⟩:=uR T.rise j;have c:bY9 t.place j=k:=by
  have l:¬k<bY9 t.place j:=λh=>by have:=b1 k h;omega
  have g:¬bY9 t.place j<k:=λh=>by have:=d _ (bYh _) (by omega);have:=T.rise _ k h a;omega
  omega
 unfold SetTable.slot at h;dsimp only at h;rw[c]at h;have f:t.place[k]? =some j:=by
  rw[cQB a];have:t.place.getD k 0=t.place[k]:=by simp[cXF,a]
  rw[<- this,e]
 rw[f]at h;simp at h
theorem bZb{b:Bool}{t:cQV}(T:Tab b t)(j:Nat):t.slot j≠ .dummy:=by
 unfold SetTable.slot;dsimp only;rw[T.dum,aKD];split<;> simp
theorem aXd{b:Bool}{t:cQV}(T:Tab b t)(f:Nat->Int)(h:Int):∀ (a:Nat)(p:SetTable.Probe),p.dummy=none->∀j d,cJm t f h a p=some (.empty j d)->t.slot j= .empty/\d=none
 |0,p,_,j,d,e=>by unfold cJm at e;cases e
 |a+1,p,hp,j,d,e=>by
  have c:(t.advance p).dummy=none:=by
   unfold SetTable.advance;split
   ·exact hp
   ·exact hp
  unfold cJm at e;cases q:t.slot p.j with
  |empty=>rw[q]at e;simp only[cJk,SetTable.Met.empty.injEq]at e;obtain⟨rfl,rfl⟩:=e;exact⟨q,hp⟩
  |dummy=>exact absurd q (bZb T _)
  |live i=>
   rw[q]at e;dsimp only at e;split at e
   ·cases e
   ·exact aXd T f h a _ c j d e
theorem v5{b:Bool}{t:cQV}(T:Tab b t)(n:Nat):Tab b (t.standIn n):=⟨aWK n,rfl,T.led⟩
theorem aWf{b:Bool}{t:cQV}(T:Tab b t)(i:Array (Int×bYa))(h:Int)(x:bYa):Tab b (layNew t i h x).2.1:=by
 unfold layNew;cases q:t.freeSlot h with
 |none=>exact v5 T _
 |some g=>
  obtain⟨a,m⟩:=g;dsimp only;have l:t.slot a= .empty:=by
   unfold SetTable.freeSlot at q;split at q
   ·rename_i j d e;simp only[cJk,Prod.mk.injEq]at q;obtain⟨k,f⟩:=aXd T _ h _ _ rfl j d e;rw[<- q.1,f];exact k
   ·cases q
  have c:Tab b (t.put a).1:=by unfold SetTable.put;dsimp only;refine⟨aJH T.rise (bZc T l),?_,T.led⟩;rw[T.dum,aKD];rfl
  unfold SetTable.orStandIn;split
  ·exact c
  ·exact v5 c _
theorem aZG{b:Bool}{t:cQV}(T:Tab b t)(h:Array (Int×bYa))(c:Nat):Tab b (relayAll t h c).2.1:=by
 unfold relayAll;cases q:t.relaid (h.map (·.1)) c with
 |none=>exact v5 T _
 |some r=>
  obtain⟨m,g⟩:=r;dsimp only;have o:Tab b m:=by
   unfold SetTable.relaid SetTable.laid at q;simp only[Option.bind_eq_bind,Option.bind_eq_some_iff]at q;obtain⟨d,_,e⟩:=q;simp only[Option.pure_def,cJk,Prod.mk.injEq]at e;obtain⟨rfl,_⟩:=e;refine⟨aYw ?_,rfl,T.led⟩;rw[List.map_filterMap];have sub:∀ (f:Nat->Option Nat),(∀j k,f j=some k->k=j)->∀l:List Nat,List.Sublist (l.filterMap f) l:=by
    intro f n l;induction l with
    |nil=>exact List.Sublist.slnil
    |cons a r i=>
     rw[cXU];cases e:f a with
     |none=>exact i.cons a
     |some k=>rw[n a k e];exact i.cons_cons a
   refine List.Pairwise.sublist (sub _ ?_ _) List.pairwise_lt_range;intro j k e;cases q:d.getD j none with
   |none=>rw[q]at e;cases e
   |some z=>rw[q]at e;simpa using e.symm
  split
  ·exact o
  ·exact v5 T _
theorem bQs{b a:Bool}(h:b=true\/a=true):Tab b (.fresh 0 0 a):=⟨λi j d c=>absurd c (cQX _),rfl,h⟩
end Stb
namespace Stb
open PySem
def Ent(a:List Int)(b:List (Int×bYa)):Prop:=bY3 (λ(k:Int)(e:Int×bYa)=>e.1=hashInt k/\∃t,e.2=Value.int k t) a b
theorem Ent.mem_l:∀ {b:List Int} {c:List (Int×bYa)},Ent b c->∀k∈b,∃e∈c,∃t,e.2=Value.int k t
 |_,_,.nil,k,a=>by cases a
 |_,_,.cons r t,k,a=>by
  rcases bYj.mp a with rfl|a
  ·exact⟨_,bYp ..,r.2⟩
  ·obtain⟨e,d,z⟩:=Ent.mem_l t k a;exact⟨e,bYm _ d,z⟩
theorem Ent.mem_r:∀ {b:List Int} {c:List (Int×bYa)},Ent b c->∀e∈c,∃k∈b,e.1=hashInt k/\∃t,e.2=Value.int k t
 |_,_,.nil,e,a=>by cases a
 |_,_,.cons r t,e,a=>by
  rcases bYj.mp a with rfl|a
  ·exact⟨_,bYp ..,r⟩
  ·obtain⟨k,d,z⟩:=Ent.mem_r t e a;exact⟨k,bYm _ d,z⟩
theorem Ent.elems{prog:bYx}{w:bYD}{c:List Int}{a:List (Int×bYa)}(h:Ent c a):ElemsOf (intKind prog w) a:=λe f=>by
 obtain⟨k,_,d,t,b⟩:=h.mem_r e f;refine⟨⟨k,?_,d⟩,?_⟩
 ·rw[b];exact intKind_is prog w k t
 ·rw[b];rfl
theorem Ent.length{b:List Int}{a:List (Int×bYa)}(h:Ent b a):b.length=a.length:=cXt h
theorem Ent.append:∀ {b ls:List Int} {a fs:List (Int×bYa)},Ent b a->Ent ls fs->Ent (b++ls) (a++fs)
 |_,_,_,_,.nil,s=>s
 |_,_,_,_,.cons r t,s=> .cons r (Ent.append t s)
theorem Ent.perm{g fs:List (Int×bYa)}(p:cJb g fs):∀ {a:List Int},Ent a g->∃b,Ent b fs/\b.Perm a:=by
 induction p with
 |nil=>exact λ{a} h=>⟨a,h,.rfl⟩
 |cons x p n=>
  intro a h;cases h with
  |cons r t=>obtain⟨b,d,f⟩:=n t;exact⟨_::b,.cons r d,f.cons _⟩
 |swap x y l=>
  intro a h;cases h with
  |cons r t=>
   cases t with
   |cons j i=>exact⟨_::_::_,.cons j (.cons r i),.swap ..⟩
 |trans p q e c=>intro a h;obtain⟨b,d,f⟩:=e h;obtain⟨k,m,o⟩:=c d;exact⟨k,m,o.trans f⟩
abbrev aZ8(w:bYD):Bool:=w.params.followText "set-order"
def aQV(w:bYD)(h:Heap)(a:Nat)(d:List Int):Prop:=
 ∃o b e t c,h.get? a=some o/\o.ExactSet/\o.data= .set b e t/\Ent c b.toList/\c.Perm d/\d.Nodup/\b.size<cZB/\t.fits b.size=true/\Tab (aZ8 w) t
theorem aQV.at{w:bYD}{h h':Heap}{a:Nat}{b:List Int}(x:aQV w h a b)(k:∀o,h.get? a=some o->h'.get? a=some o):aQV w h' a b:=
 let ⟨o,es,ep,t,ls,ho,r⟩:=x;⟨o,es,ep,t,ls,k o ho,r⟩
theorem aQV.there{w:bYD}{h:Heap}{a:Nat}{b:List Int}(x:aQV w h a b):∃o,h.get? a=some o:=
 let ⟨o,es,ep,t,ls,ho,r⟩:=x;⟨o,ho⟩
theorem aQV.type{w:bYD}{s:bYd}{a:Nat}{b:List Int}(x:aQV w s.heap a b):s.TypeIs (.ref a) "set":=
 let ⟨o,es,ep,t,ls,ho,he,r⟩:=x;⟨o,ho,he.1⟩
theorem aYs{h:Heap}{a:Nat}{o:Obj}{e:Array (Int×bYa)}{c:Nat}{t:cQV}(f:h.get? a=some o)(d:o.data= .set e c t)(b:Array (Int×bYa))(t':cQV): (h.update a (Obj.putSet b t')).get? a=some {o with data:= .set b (c+1) t'}:=by
 have q:=cQd (Obj.putSet b t') f (by rw[putSet_of b t' d];rfl);rw[putSet_of b t' d]at q;exact q
section
variable {prog:bYx}{w:bYD}{A:bYO}{E:bYa->bYd->Prop}{s:bYd}
theorem aKC{b:Bool}{Q:Unit->bYd->Prop}(h:Q () s):bYi (bYk prog w) A (match b with|true=>rule "set.scan.the-table-gave-way"|false=>pure ()) Q E s:=by
 cases b
 ·exact bYg h
 ·exact wpAny_rule h
theorem bV5{a:Nat}{p:List Int}{k:Int}{tk:Tok}{Q:Bool->bYd->Prop}(hS:aQV w s.heap a p)(a7:p.length+1<cZB) (h:∀n b,cXe a s.heap n->aQV w n a (if k∈p then p else p++ [k])->Q b {s with heap:=n}): bYi (bYk prog w) A (setAddHashed a (.int k tk) (hashInt k)) Q E s:=by
 obtain⟨o,F,ep,t,ls,Z,I,P,l,W,a0,hb,hf,hT⟩:=hS;have a1:=l.elems (prog:=prog) (w:=w);have a9:F.size=p.length:=by rw[<- cQv,<- l.length,W.length_eq]
 unfold setAddHashed setAddHashedIn;refine cQs (bYb (cXE Z P hf ?_));dsimp only;rw[byScan_of (knd:=intKind prog w) rfl hb a1];simp only[↓reduceIte];unfold setAddByScan;refine bYb ?_;refine bYb (wpAny_rule ?_);refine bYb (wpAny_setScan_of (knd:=intKind prog w) (k:=k) (intKind_is prog w k tk) Z P hf a1 ?_);cases hr:List.findIdx? (λe=>(intKind prog w).is k e.2) F.toList with
 |some j=>
  dsimp only;obtain⟨hj,X,_⟩:=List.findIdx?_eq_some_iff_getElem.mp hr;have v:k∈p:=by
   obtain⟨k',a5,_,t',e'⟩:=l.mem_r _ (cQR hj);rw[e']at X;have:k=k':=by have z:(k'==k)=true:=X;exact(beq_iff_eq.mp z).symm
   rw[this];exact W.mem_iff.mp a5
  refine bYg (bYg ?_);have q:=h s.heap false (Heap.SameBut.refl a s.heap) (by rw[if_pos v];exact⟨o,F,ep,t,ls,Z,I,P,l,W,a0,hb,hf,hT⟩);exact q
 |none=>
  dsimp only;have v:k∉p:=λz=>by obtain⟨e,he,t',e'⟩:=l.mem_l k (W.mem_iff.mpr z);have q:=List.findIdx?_eq_none_iff.mp hr e he;rw[e',intKind_is]at q;cases q
  rw[if_neg v]at h;have T:(p++ [k]).Nodup:=by rw[cXD];exact⟨a0,cQy ..,λx hx y hy=>by rw[bYr.mp hy];rintro rfl;exact v hx⟩
  have d:=layNew_perm t F (hashInt k) (.int k tk);have f:=layNew_fits t F (hashInt k) (.int k tk);have g:=aWf hT F (hashInt k) (.int k tk);generalize hL:layNew t F (hashInt k) (.int k tk)=L at d f g ⊢;obtain⟨c,U,m,b0⟩:=L;dsimp only at d f g ⊢;rw[Array.toList_push]at d;obtain⟨R,H,a8⟩:=(l.append (ls:= [k]) (fs:= [(hashInt k,.int k tk)]) (.cons ⟨rfl,tk,rfl⟩ .nil)).perm d.symm;have D:R.Perm (p++ [k]):=a8.trans (W.append_right [k]);have u:c.size<cZB:=by rw[<- cQv,d.length_eq,bYy,cQv];simpa using (by omega:F.size+1<cZB)
  have G:∀i:cQV,i.fits c.size=true->Tab (aZ8 w) i->
    bYi (bYk prog w) A (do
     storeSet a c i
     if(!m && i.tooFull)=true then do
       (match(relayAll i c (cXL c.size)).2.2 with|true=>rule "set.scan.the-table-gave-way"|false=>pure ())
       storeSet a (relayAll i c (cXL c.size)).1 (relayAll i c (cXL c.size)).2.1
       pure (some true)
      else pure (some true)) (λr S=>∃n,r=some true/\S= {s with heap:=n}/\cXe a s.heap n/\aQV w n a (p++ [k])) E s:=by
   intro i a3 V
   refine bYb (wpAny_storeSet_of Z P ?_ (cJn u))
   have C:=cQC s.heap a (Obj.putSet c i)
   have M:=aYs Z P c i
   split
   ·have B:=relayAll_perm i c (cXL c.size);have J:=relayAll_fits i c (cXL c.size);have K:=aZG V c (cXL c.size);generalize b1:relayAll i c (cXL c.size)=Rl at B J K ⊢;obtain⟨N,t3,a2⟩:=Rl;dsimp only at B J K ⊢;obtain⟨a6,O,a4⟩:=H.perm B.symm;have Y:N.size=c.size:=by rw[<- cQv,B.length_eq,cQv]
    refine bYb (aKC ?_);refine bYb (wpAny_storeSet_of M rfl ?_ (cJn (by rw[Y];exact u)));refine bYg ⟨_,rfl,rfl,C.trans (cQC _ a _),_,N,_,t3,a6,aYs M rfl N t3,I,rfl,O,a4.trans D,T,by rw[Y];exact u,J,K⟩
   ·exact bYg ⟨_,rfl,rfl,C,_,c,_,i,R,M,I,rfl,H,D,T,u,a3,V⟩
  have done:∀ (r:Option Bool)(S:bYd),(∃n,r=some true/\S= {s with heap:=n}/\cXe a s.heap n/\aQV w n a (p++ [k]))->
    bYi (bYk prog w) A (match r with|some added=>pure added|none=>setAddHashedIn a (.int k tk) (hashInt k) 99999) Q E S:=by
   rintro r S ⟨n,rfl,rfl,h1,h2⟩
   exact bYg (h n true h1 h2)
  refine bYb (aKC ?_);split
  ·refine bYb ?_;rw[hashByValue_scannable 8 (show(Value.int k tk).scannable=true from rfl)];refine bYg ?_;have e:(if plainKind (Value.int k tk)=true then U else {U with plain:=false})=U:=rfl;rw[e];exact cQc (G U f g) done λ_ _ z=>z
  ·refine bYb (bYg ?_);simp only[↓reduceIte];exact cQc (G U f g) done λ_ _ z=>z
end
end Stb
namespace Stb
open PySem
theorem zG:Slot "set_iterator" "__next__" "set_iterator.__next__":=
 .of (owner:="set_iterator") (n:="__next__") (by rw[typeLookup_type,cZM];kernel_rfl) dk dk dk
  (by first|exact .inl dk|exact .inr dk) (by rw[isSubtype_type];kernel_rfl)
theorem uT:entryFor table "set_iterator.__next__"=some cQY.«set_iterator.__next__»:=entryFor_of_tree (by kernel_rfl)
theorem aVs:Manifest.owners.lookup (String.ofList ['r', 'o', 't', 'a', 'r', 'e', 't', 'i', '_', 't', 'e', 's'].reverse)=some Manifest.sig_set_iterator:=by kernel_rfl
theorem qE(a:bYa):argsOk "set_iterator.__next__" ⟨[a],[]⟩:=by
 unfold argsOk;rw[signature?_of (id:="set_iterator.__next__") (n:= ['_', '_', 't', 'x', 'e', 'n', '_', '_']) (o:= ['r', 'o', 't', 'a', 'r', 'e', 't', 'i', '_', 't', 'e', 's']) (by kernel_rfl) aVs];kernel_rfl
theorem aV7:entryFor table "set.__iter__"=some cQY.«frozenset.__iter__»:=
 entryFor_alias (id':="frozenset.__iter__") (by kernel_rfl) rfl dk (by kernel_rfl)
theorem Z5:Slot "set_iterator" "__iter__" "set_iterator.__iter__":=
 .of (owner:="set_iterator") (n:="__iter__") (by rw[typeLookup_type,cZM];kernel_rfl) dk dk dk
  (by first|exact .inl dk|exact .inr dk) (by rw[isSubtype_type];kernel_rfl)
def uB(first:bYa)(i:Nat)(a:Nat)(n b:Nat):Obj:={cls:= .type "set_iterator",data:= .fields #[first,.int i 0,.ref a,.int n 0,.int b 0] }
section
variable {prog:bYx}{w:bYD}{A:bYO}{E:bYa->bYd->Prop}{s:bYd}
theorem bQq{I:Nat}{Q:Option bYa->bYd->Prop}{h₁:Heap}(g:A.handled=none)(h:cZH I s.heap h₁)(i:∀d,cZH I s.heap d->Q none {s with heap:=d}):
  bYi (bYk prog w) A.in1 (do raiseNew (<- newExc (.type "StopIteration") []):Sem PySem.Fin) (λf c=>∃r,f= .done (.ret r)/\bYi (bYk prog w) A (pure (some r)) Q E c)
   (λe c=>bYi (bYk prog w) A (do if <- cZW e (.type "StopIteration")then pure none else throw e) Q E c) {s with heap:=h₁}:=by
 refine bYb ?_
 simp only[newExc,newTuple]
 refine bYb (cXa ?_ (by size_fits))
 refine bYb (m:=firstArgMember _ _) (wpAny_of_eq (a:=Value.none) (by first|rfl|(simp only[firstArgMember];rfl)) ?_)
 refine cXa ?_ (by size_fits)
 simp only[raiseNew]
 refine bYb (wpAny_handled ?_)
 rw[show A.in1.handled=none from g]
 refine bYb (bYg (wpAny_throw ?_))
 refine bYb (wpAny_isInstance (T:="StopIteration") (b:=true) ⟨_,bYE _ rfl,rfl⟩ isSubtype_stop ?_)
 exact bYg (i _ ((h.push _).push _))
theorem aKY{I a:Nat}{o:Obj}{f:Array (Int×bYa)}{c:Nat}{t:cQV}{b i nx:Nat}{x:bYa}{Q:Option bYa->bYd->Prop} (p:s.heap.get? a=some o) (l:o.data= .set f c t) (n:t.fits f.size=true) (e:s.heap.get? I=some (uB (.int b 0) i a f.size c)) (r:∀ (j:Option (bYa×Nat)->bYd->Prop)(u:bYa->bYd->Prop)(q:bYO),j (some (x,nx)) s->bYi (bYk prog w) q (setNext a b i c) j u s) (m:∀g,g.get? I=some (uB (.int nx 0) (i+1) a f.size c)->cXe I s.heap g->Q (some x) {s with heap:=g}):bYi (bYk prog w) A (pyNext (.ref I)) Q E s:=by
 have k:s.TypeIs (.ref I) "set_iterator":=⟨_,e,rfl⟩;unfold pyNext;refine bYb (cZq (cXX (name:=cZy "__next__") k zG (cQ5 zG k uT ?_ (qE _))));unfold cQY.«set_iterator.__next__»;refine bYb (bYg ?_);refine bYb (cZ8 e rfl ?_);show bYi _ _ (setEntries a >>=_) _ _ s;refine bYb (cXW p l n ?_);rw[if_neg (by simp)];show bYi _ _ (setNext a ((b:Int)).toNat ((i:Int)).toNat ((c:Int)).toNat >>=_) _ _ s;rw[bYH,bYH,bYH];refine bYb (r _ _ _ ?_);show bYi _ _ (setField (.ref I) 0 (cQq nx) >>=_) _ _ s;refine bYb (cXh e rfl (by simp) ?_);have d:=cQd (cQp (·.setIfInBounds 0 (cQq (nx:Int)))) e (cQx (cQA rfl _));refine bYb (cXh d rfl (by simp) (bYg ⟨x,rfl,bYg (m _ ?_ ((cQC ..).trans (cQC ..)))⟩));have h:=cQd (cQp (·.setIfInBounds 1 (cQq ((i:Int)+1)))) d (cQx (cQA rfl _));exact h
end
end Stb
namespace Stb
open PySem
section
variable {prog:bYx}{w:bYD}{A:bYO}{E:bYa->bYd->Prop}{s:bYd}
theorem bQJ{I a:Nat}{o:Obj}{e:Array (Int×bYa)}{c:Nat}{t:cQV}{b i:Nat}{Q:Option bYa->bYd->Prop}(m:A.handled=none) (n:s.heap.get? a=some o) (j:o.data= .set e c t) (l:t.fits e.size=true) (d:s.heap.get? I=some (uB (.int b 0) i a e.size c)) (q:∀ (f:Option (bYa×Nat)->bYd->Prop)(r:bYa->bYd->Prop)(p:bYO),f none s->bYi (bYk prog w) p (setNext a b i c) f r s) (k:∀g,cZH I s.heap g->Q none {s with heap:=g}):bYi (bYk prog w) A (pyNext (.ref I)) Q E s:=by
 have h:s.TypeIs (.ref I) "set_iterator":=⟨_,d,rfl⟩;unfold pyNext;refine bYb (cZq (cXX (name:=cZy "__next__") h zG (cQ5 zG h uT ?_ (qE _))));unfold cQY.«set_iterator.__next__»;refine bYb (bYg ?_);refine bYb (cZ8 d rfl ?_);show bYi _ _ (setEntries a >>=_) _ _ s;refine bYb (cXW n j l ?_);rw[if_neg (by simp)];show bYi _ _ (setNext a ((b:Int)).toNat ((i:Int)).toNat ((c:Int)).toNat >>=_) _ _ s;rw[bYH,bYH,bYH];refine bYb (q _ _ _ ?_);show bYi _ _ (setField (.ref I) 2 .none >>=_) _ _ s;refine bYb (cXh d rfl (by simp) ?_);exact bQq m (cQC ..).extBut k
theorem bQS{h:Heap}{I:Nat}{f:bYa}{i:Nat}{a:Nat}{n b:Nat}(c:h.get? I=some (uB f i a n b)): (h.update I (cQp (·.setIfInBounds 1 (cQq ((i:Int)+1))))).get? I=some (uB f (i+1) a n b):=by
 have q:=cQd (cQp (·.setIfInBounds 1 (cQq ((i:Int)+1)))) c (cQx (cQA (o:=uB f i a n b) rfl _));rw[q];rfl
theorem bQR{h:Heap}{I:Nat}{f:bYa}{i:Nat}{a:Nat}{n b:Nat}(c:h.get? I=some (uB f i a n b)): (h.update I (cQp (·.setIfInBounds 0 (cQq (0:Int))))).get? I=some (uB (.int 0 0) i a n b):=by
 have q:=cQd (cQp (·.setIfInBounds 0 (cQq (0:Int)))) c (cQx (cQA (o:=uB f i a n b) rfl _));rw[q];rfl
theorem aWp{I a p:Nat}{o:Obj}{b:Array (Int×bYa)}{f:Nat}{t:cQV}{i j:Nat}{pl:Array bYa}{op:Obj}{c:Nat}{e:Int×bYa}{Q:Option bYa->bYd->Prop} (n:s.heap.get? a=some o) (l:o.data= .set b f t) (m:t.fits b.size=true) (d:s.heap.get? I=some (uB (.ref p) i a b.size f)) (v:s.heap.get? p=some op) (h:op.data= .seq pl c) (x:pl[i]? =some (.int j 0)) (u:b[j]? =some e) (r:∀g,g.get? I=some (uB (.ref p) (i+1) a b.size f)->cXe I s.heap g->Q (some e.2) {s with heap:=g}):bYi (bYk prog w) A (pyNext (.ref I)) Q E s:=by
 have q:s.TypeIs (.ref I) "set_iterator":=⟨_,d,rfl⟩;unfold pyNext;refine bYb (cZq (cXX (name:=cZy "__next__") q zG (cQ5 zG q uT ?_ (qE _))));unfold cQY.«set_iterator.__next__»;refine bYb (bYg ?_);refine bYb (cZ8 d rfl ?_);show bYi _ _ (setEntries a >>=_) _ _ s;refine bYb (cXW n l m ?_);rw[if_neg (by simp)];show bYi _ _ (seqItems? (.ref p) >>=_) _ _ s;refine bYb (wpAny_seqItems v h ?_);dsimp only;simp only[bYH,x];refine bYb ?_;unfold setNextDrawn;refine bYb (cXE n l m ?_);dsimp only;rw[if_neg (by simp)];obtain⟨y,ex⟩:=e;rw[u];refine bYg ?_;have k:=bQS d;refine bYb (cXh d rfl (by simp) ?_);refine bYg ⟨ex,rfl,?_⟩;refine bYg ?_;exact r _ k (cQC s.heap I _)
theorem aKy{I a p:Nat}{o:Obj}{f:Array (Int×bYa)}{g:Nat}{t:cQV}{i:Nat}{pl:Array bYa}{op:Obj}{c:Nat}{Q:Option bYa->bYd->Prop}(q:A.handled=none) (r:s.heap.get? a=some o) (l:o.data= .set f g t) (n:t.fits f.size=true) (b:s.heap.get? I=some (uB (.ref p) i a f.size g)) (u:s.heap.get? p=some op) (d:op.data= .seq pl c) (v:pl[i]? =none) (m:∀h,cZH I s.heap h->Q none {s with heap:=h}):bYi (bYk prog w) A (pyNext (.ref I)) Q E s:=by
 have j:s.TypeIs (.ref I) "set_iterator":=⟨_,b,rfl⟩;unfold pyNext;refine bYb (cZq (cXX (name:=cZy "__next__") j zG (cQ5 zG j uT ?_ (qE _))));unfold cQY.«set_iterator.__next__»;refine bYb (bYg ?_);refine bYb (cZ8 b rfl ?_);show bYi _ _ (setEntries a >>=_) _ _ s;refine bYb (cXW r l n ?_);rw[if_neg (by simp)];show bYi _ _ (seqItems? (.ref p) >>=_) _ _ s;refine bYb (wpAny_seqItems u d ?_);dsimp only;simp only[bYH,v];refine bYb (cXh b rfl (by simp) ?_);have e:=bQR b;refine bYb (cXh e rfl (by simp) ?_);have k:=(cQC s.heap I (cQp (·.setIfInBounds 0 (cQq (0:Int))))).trans (cQC _ I (cQp (·.setIfInBounds 2 Value.none)));exact bQq (s:=s) q k.extBut m
theorem qY{α:Type}:∀ {l:List α} {i:Nat} (h:i<l.length),cJb (l[i]::l.eraseIdx i) l
 |x::r,0,_=> .rfl
 |x::r,i+1,h=>by have a:=qY (l:=r) (i:=i) (by simpa using h);exact(List.Perm.swap ..).trans (a.cons x)
theorem aZC{α:Type}(f:Nat->Nat):∀ (a k:Nat)(left:List α)(out:Array α),left.length=a->cJb (cZf.go f a k left out).toList (out.toList++left)
 |0,k,left,out,h=>by have e:left= []:=List.length_eq_zero_iff.mp h;subst e;unfold cZf.go;rw[cQf]
 |a+1,k,left,out,h=>by unfold cZf.go;have b:f k % left.length<left.length:=Nat.mod_lt _ (by omega);rw[bK9 b];dsimp only;refine(aZC f a (k+1) _ _ (by rw[List.length_eraseIdx,if_pos b];omega)).trans ?_;rw[Array.toList_push,cQG,List.singleton_append];exact(qY b).append_left _
theorem bZt{a:Nat}{o:Obj}{b:Array (Int×bYa)}{c:Nat}{t:cQV}{Q:Array (Int×bYa)->bYd->Prop}(f:s.heap.get? a=some o)(g:o.data= .set b c t)(d:t.fits b.size=true) (e:aZ8 w=true) (h:Q (cZf (w.params.setOrder a c) b) s):bYi (bYk prog w) A (setWalk a) Q E s:=by
 unfold setWalk setsByText;refine bYb (cXE f g d ?_);dsimp only;refine bYb (bYb (cXT (bYg ?_)));show bYi (bYk prog w) A (if aZ8 w=true then _ else _) Q E s;rw[if_pos e];exact bYb (cXT (bYg h))
theorem aKZ{a:Nat}{o:Obj}{d:Array (Int×bYa)}{c:Nat}{t:cQV}{b i:Nat}{Q:Option (bYa×Nat)->bYd->Prop}(j:s.heap.get? a=some o)(k:o.data= .set d c t) (f:t.fits d.size=true) (g:aZ8 w=true) (h:Q (((cZf (w.params.setOrder a c) d)[i]?).map λe=>(e.2,b)) s):bYi (bYk prog w) A (setNext a b i c) Q E s:=by
 unfold setNext setsByText;refine bYb (cXE j k f ?_);dsimp only;refine bYb (bYb (cXT (bYg ?_)));show bYi (bYk prog w) A (if aZ8 w=true then _ else _) Q E s;rw[if_pos g];rw[if_neg (by simp)];exact bYb (bZt j k f g (bYg h))
theorem bXa{a:Nat}{o:Obj}{c:Array (Int×bYa)}{e:Nat}{t:cQV}{b i:Nat}{Q:Option (bYa×Nat)->bYd->Prop}(k:s.heap.get? a=some o)(l:o.data= .set c e t)
  (f:t.fits c.size=true) (g:aZ8 w=false) (d:(!t.plain && decide (c.size > 1))=false) (hl:t.led=true)
  (h:Q (match c[bY9 t.place b]?,t.place[bY9 t.place b]? with|some (_,x),some j=>some (x,j+1)|_,_=>none) s):bYi (bYk prog w) A (setNext a b i e) Q E s:=by
 unfold setNext setsByText
 refine bYb (cXE k l f ?_)
 dsimp only
 refine bYb (bYb (cXT (bYg ?_)))
 show bYi (bYk prog w) A (if aZ8 w=true then _ else _) Q E s
 rw[g,if_neg (by decide)]
 show bYi (bYk prog w) A (if(!t.plain && decide (c.size > 1))=true then _ else _) Q E s
 rw[d,if_neg (by decide)]
 refine bYb ?_
 show bYi (bYk prog w) A (if(!t.led && !c.isEmpty)=true then _ else _) _ E s
 rw[hl]
 simp only[Bool.not_true,Bool.false_and,Bool.false_eq_true,↓reduceIte]
 exact bYg (bYg h)
end
end Stb
namespace Stb
open PySem
def aX1(a:List Int)(vs:List bYa):Prop:=bY3 (λ(k:Int)(v:bYa)=>∃t,v=Value.int k t) a vs
theorem Ent.vals:∀ {b:List Int} {a:List (Int×bYa)},Ent b a->aX1 b (a.map (·.2))
 |_,_,.nil=> .nil
 |_,_,.cons r t=> .cons r.2 (Ent.vals t)
theorem bQ5{α:Type}{xs ys:List α}(hl:xs.length=ys.length)(h:∀ (j:Nat)(x:α),xs[j]? =some x->ys[j]? =some x):xs=ys:=by
 apply cXq;intro i;cases e:xs[i]? with
 |some x=>exact(h i x e).symm
 |none=>have:=cJq.mp e;exact(cJq.mpr (by omega)).symm
theorem X6{α β:Type}{f:α->Option β}:∀ {l:List α} (h:∀x∈l,(f x).isSome=true) (i:Nat),(l.filterMap f)[i]? =l[i]?.bind f
 |[],_,i=>by simp
 |x::r,h,i=>by
  obtain⟨y,e⟩:=Option.isSome_iff_exists.mp (h x (bYp ..));rw[List.filterMap_cons_some e];cases i with
  |zero=>simp[e]
  |succ i=>simpa using X6 (λz a=>h z (bYm _ a)) i
theorem aXp:entryFor table "set_iterator.__iter__"=some cQY.«dict_keyiterator.__iter__»:=
 entryFor_alias (id':="dict_keyiterator.__iter__") (by kernel_rfl) rfl dk (by kernel_rfl)
theorem aX3(a:bYa):argsOk "set_iterator.__iter__" ⟨[a],[]⟩:=by
 unfold argsOk;rw[signature?_of (id:="set_iterator.__iter__") (n:= ['_', '_', 'r', 'e', 't', 'i', '_', '_']) (o:= ['r', 'o', 't', 'a', 'r', 'e', 't', 'i', '_', 't', 'e', 's']) (by kernel_rfl) aVs];kernel_rfl
section
variable {prog:bYx}{w:bYD}{A:bYO}{E:bYa->bYd->Prop}{s:bYd}
theorem aKx{α:Type}:∀ (n:Nat)(xs:List α)(s:bYd)(Q:List α->bYd->Prop),xs.length=n->(∀c d,cJb c xs->Q c {s with drawn:=d})->bYi (bYk prog w) A (drawOrder n xs) Q E s
 |0,xs,s,Q,hl,h=>by have e:xs= []:=List.length_eq_zero_iff.mp hl;subst e;unfold drawOrder;exact bYg (h [] s.drawn .rfl)
 |n+1,[],s,Q,hl,h=>by cases hl
 |n+1,x::r,s,Q,hl,h=>by
  unfold drawOrder;have a:w.draws .order (s.drawn.get .order) % (x::r).length<(x::r).length:=Nat.mod_lt _ (Nat.succ_pos _);refine bYb (m:=choose .order (x::r).length) ?_;have j:∀ (b:Nat->bYd->Prop),b (w.draws .order (s.drawn.get .order) % (x::r).length) {s with drawn:=s.drawn.bump .order}->bYi (bYk prog w) A (choose .order (x::r).length) b E s:=by intro b g Γ p hΓ;show Sem.wp _ _ (.choose .order (x::r).length .pure) _ _ _ _;rw[Sem.wp_choose];exact⟨Nat.succ_ne_zero _,g⟩
  refine j _ ?_;generalize k:w.draws .order (s.drawn.get .order) % (x::r).length=i at a ⊢;rw[bK9 a];dsimp only;refine bYb (aKx n _ _ _ (by rw[List.length_eraseIdx,if_pos a];simpa using hl) λc d f=>?_);exact bYg (h _ _ ((f.cons _).trans (qY a)))
theorem aY6{I a:Nat}{f:bYa}{i n c:Nat}{Q:bYa->bYd->Prop}(d:s.heap.get? I=some (uB f i a n c))(h:Q (.ref I) s):bYi (bYk prog w) A (pyIter (.ref I)) Q E s:=by
 have b:s.TypeIs (.ref I) "set_iterator":=⟨_,d,rfl⟩;refine wpAny_pyIter_slot b Z5 (cQ5 Z5 b aXp ?_ (aX3 _));show bYi _ _ (ret (.ref I)) _ _ s;exact bYg ⟨_,rfl,"set_iterator",_,b,zG.lookup,h⟩
theorem aKb{I a:Nat}{o:Obj}{es:Array (Int×bYa)}{ep:Nat}{t:cQV}{vs:List bYa}{g:Nat->Nat}(hd:o.data= .set es ep t)(hf:t.fits es.size=true)(hv:vs.length=es.size)(hne:a≠I)
  (hx:∀ (s:bYd)(i:Nat)(A':bYO)(E':bYa->bYd->Prop)(Q':Option (bYa×Nat)->bYd->Prop),s.heap.get? a=some o->i<=es.size->Q' ((vs[i]?).map λx=>(x,g (i+1))) s->bYi (bYk prog w) A' (setNext a (g i) i ep) Q' E' s)
  (hh:A.handled=none):Walks prog w A I [I,a] [I] es.size (λi v=>vs[i]? =some v) (λi h=>i<=es.size/\h.get? a=some o/\h.get? I=some (uB (.int (g i) 0) i a es.size ep)) where
 sub:=λb hb=>by simp at hb;simp[hb]
 frame:=λi h h' st k=>⟨st.1,k a (by simp) o st.2.1,k I (by simp) _ st.2.2⟩
 item:=λi s Q E hi st hQ=>by
  obtain⟨h1,h2,h3⟩:=st
  have hlt:i<vs.length:=by omega
  refine aKY (nx:=g (i+1)) (x:=vs[i]) h2 hd hf h3 (λQ' E' A' hq=>hx s i A' E' Q' h2 h1 (by rw[bK9 hlt];exact hq)) λh' hI' sb=>?_
  exact hQ _ h' s.toks (bK9 hlt) ⟨by omega,sb.extBut a o hne h2,hI'⟩ λb ob hb e=>sb.extBut b ob (λz=>hb (by simp[z])) e
 done:=λs Q E st hQ=>by
  obtain⟨h1,h2,h3⟩:=st
  refine bQJ hh h2 hd hf h3 (λQ' E' A' hq=>hx s es.size A' E' Q' h2 h1 (by rw[bYL (by omega)];exact hq)) λh' sb=>?_
  exact hQ h' s.toks λb ob hb e=>sb b ob (λz=>hb (by simp[z])) e
 self:=λi s Q E st hQ=>aY6 st.2.2 hQ
theorem aVa{I a p:Nat}{o op:Obj}{es:Array (Int×bYa)}{ep c:Nat}{t:cQV}{vs:List bYa}{ys:List Nat}(hd:o.data= .set es ep t)(hf:t.fits es.size=true)(hv:ys.length=es.size)
  (hpd:op.data= .seq (ys.map λ(j:Nat)=>Value.int j 0).toArray c) (hne:a≠I) (hnp:p≠I) (hx:∀ (i j:Nat),ys[i]? =some j->∃e,es[j]? =some e/\vs[i]? =some e.2)
  (hh:A.handled=none):Walks prog w A I [I,a,p] [I] es.size (λi v=>vs[i]? =some v) (λi h=>i<=es.size/\h.get? a=some o/\h.get? p=some op/\h.get? I=some (uB (.ref p) i a es.size ep)) where
 sub:=λb hb=>by simp at hb;simp[hb]
 frame:=λi h h' st k=>⟨st.1,k a (by simp) o st.2.1,k p (by simp) op st.2.2.1,k I (by simp) _ st.2.2.2⟩
 item:=λi s Q E hi st hQ=>by
  obtain⟨h1,h2,h3,h4⟩:=st
  have hlt:i<ys.length:=by omega
  obtain⟨e,he,hve⟩:=hx i ys[i] (bK9 hlt)
  refine aWp (j:=ys[i]) (e:=e) h2 hd hf h4 h3 hpd (by simp[hlt]) he λh' hI' sb=>?_
  exact hQ _ h' s.toks hve ⟨by omega,sb.extBut a o hne h2,sb.extBut p op hnp h3,hI'⟩ λb ob hb e=>sb.extBut b ob (λz=>hb (by simp[z])) e
 done:=λs Q E st hQ=>by
  obtain⟨h1,h2,h3,h4⟩:=st
  refine aKy hh h2 hd hf h4 h3 hpd (by simp[hv]) λh' sb=>?_
  exact hQ h' s.toks λb ob hb e=>sb b ob (λz=>hb (by simp[z])) e
 self:=λi s Q E st hQ=>aY6 st.2.2.2 hQ
theorem bJy{a:Nat}{T:List Int}{Q:bYa->bYd->Prop}(hS:aQV w s.heap a T) (h:∀ (I:Nat)(h':Heap)(d:Drawn)(fp:List Nat)(St:Nat->Heap->Prop)(vs:List bYa)(ls:List Int),s.heap.objs.size<=I->(∀b∈fp,b=a\/s.heap.objs.size<=b)->(∀b∈fp,b<h'.objs.size)->aX1 ls vs->ls.Perm T-> (∀ (A:bYO),A.handled=none->Walks prog w A I fp [I] T.length (λi v=>vs[i]? =some v) St)->St 0 h'->(∀b o,s.heap.get? b=some o->h'.get? b=some o)-> Q (.ref I) {s with heap:=h',drawn:=d}):bYi (bYk prog w) A (pyIter (.ref a)) Q E s:=by
 have hT:=hS.type;obtain⟨o,f,r,t,ls,R,a7,H,q,Y,a9,l,y,N⟩:=hS;have J:f.size=T.length:=by rw[<- cQv,<- q.length,Y.length_eq]
 have C:a<s.heap.objs.size:=bYo R;refine wpAny_pyIter_slot hT F.slot_set_iter (cQ5 F.slot_set_iter hT aV7 ?_ (F.args_set_iter_1 _));unfold cQY.«frozenset.__iter__» Builtin.Frozenset.slot0 slotArgs;simp only[List.isEmpty_nil,Bool.not_true,Bool.false_eq_true,↓reduceIte,bind_assoc,cXj,bne_self_eq_false];unfold Builtin.Frozenset.addrOf Builtin.Frozenset.sizeOf;refine bYb (bYg ?_);try dsimp only
 refine bYb (bYg ?_);refine bYb (bYb (cXW R H y (bYg ?_)));refine bYb ?_;unfold setDrawn setsByText;refine bYb (cXE R H y ?_);dsimp only;refine bYb (bYb (cXT (bYg ?_)));refine bYg ?_;refine cZZ (λc=>?_) (λc=>?_)
 ·refine bYb (aKx f.size (bYn f.size) s _ bYW λu d P=>?_);have S:u.length=f.size:=by rw[P.length_eq,bYW]
  have V:∀j∈u,j<f.size:=λj Z=>bYI.mp (P.mem_iff.mp Z);refine bYb (wpAny_newTuple ?_ (by rw[bYe,S];exact cJn l));have a5:=bYf {cls:= .type "tuple",data:= .seq (u.map λ(i:Nat)=>cQq (i:Int)).toArray} R;refine bYb (wpAny_setEpoch_of a5 H y ?_);refine bYb (cXa (bYg ⟨_,rfl,"set_iterator",_,⟨_,bYE _ rfl,rfl⟩,zG.lookup,?_⟩));have O:cJb (u.filterMap λj=>f[j]?) f.toList:=(P.filterMap _).trans (by rw[filterMap_getElem?_range]);obtain⟨k,m,n⟩:=q.perm O.symm;have a1:∀ (i j:Nat),u[i]? =some j->∃e,f[j]? =some e/\((u.filterMap λj=>f[j]?).map (·.2))[i]? =some e.2:=λi j e=>by have Z:j<f.size:=V j (bYt e);refine⟨f[j],cQB Z,?_⟩;rw[bYu,X6 (λx hx=>by rw[cQB (V x hx)];rfl),e,Option.bind_some,cQB Z];rfl
  have fin:∀ (B:Heap)(W:Obj),W.data= .seq (u.map λ(i:Nat)=>Value.int i 0).toArray 0->B.objs.size=s.heap.objs.size+1->B.get? s.heap.objs.size=some W->(∀b o,s.heap.get? b=some o->B.get? b=some o)->
    Q (.ref B.objs.size) {s with heap:=B.push (uB (.ref s.heap.objs.size) 0 a f.size r),drawn:=d}:=by
   intro B W a3 G a0 hk
   refine h B.objs.size _ d [B.objs.size,a,s.heap.objs.size] (λi h=>i<=f.size/\h.get? a=some o/\h.get? s.heap.objs.size=some W/\h.get? B.objs.size=some (uB (.ref s.heap.objs.size) i a f.size r)) _ k ?_ ?_ ?_ m.vals (n.trans Y)
    (λA hh=>by rw[<- J];exact aVa (o:=o) (ys:=u) (c:=0) H y S a3 (bYA (by rw[G];exact cQk C)) (bYA (by rw[G];exact cQ2 _)) a1 hh) ⟨bY7 _,bYf _ (hk _ _ R),bYf _ a0,bYE _ rfl⟩ λb ob e=>bYf _ (hk _ _ e)
   ·omega
   ·intro b l;simp only[bYj,cXM,or_false]at l;rcases l with rfl|rfl|rfl
    ·right;omega
    ·left;rfl
    ·right;exact bYh _
   ·intro b l;rw[cQJ];simp only[bYj,cXM,or_false]at l;rcases l with rfl|rfl|rfl
    ·exact cQ2 _
    ·rw[G];exact cQk (cQk C)
    ·rw[G];exact cQk (cQ2 _)
  exact fin _ _ rfl (cQJ ..) (bYE _ rfl) λb ob e=>bYf _ e
 ·refine bYb (bYg ?_);refine bYb (wpAny_setEpoch_of R H y ?_);refine bYb (cXa (bYg ⟨_,rfl,"set_iterator",_,⟨_,bYE _ rfl,rfl⟩,zG.lookup,?_⟩));have fin:∀ (vs:List bYa)(g:Nat->Nat)(k:List Int),g 0=0->vs.length=f.size->aX1 k vs->k.Perm T->
    (∀ (s:bYd)(i:Nat)(A':bYO)(E':bYa->bYd->Prop)(X:Option (bYa×Nat)->bYd->Prop),s.heap.get? a=some o->i<=f.size->X ((vs[i]?).map λx=>(x,g (i+1))) s->bYi (bYk prog w) A' (setNext a (g i) i r) X E' s)->
    Q (.ref s.heap.objs.size) {s with heap:=s.heap.push {cls:= .type "set_iterator",dict:=none,data:= .fields [cQq 0,cQq 0,Value.ref a,cQq (f.size:Int),cQq (r:Int)].toArray} }:=by
   intro vs g k g0 a6 hv n hx
   refine h s.heap.objs.size _ s.drawn [s.heap.objs.size,a] (λi h=>i<=f.size/\h.get? a=some o/\h.get? s.heap.objs.size=some (uB (.int (g i) 0) i a f.size r)) vs k (bYh _) ?_ ?_ hv n
    (λA hh=>by rw[<- J];exact aKb (o:=o) (g:=g) H y a6 (bYA C) hx hh) ⟨bY7 _,bYf _ R,?_⟩ λb ob e=>bYf _ e
   ·intro b l;simp only[bYj,cXM,or_false]at l;rcases l with rfl|rfl
    ·right;exact bYh _
    ·left;rfl
   ·intro b l;rw[cQJ];simp only[bYj,cXM,or_false]at l;rcases l with rfl|rfl
    ·exact cQ2 _
    ·exact cQk C
   ·rw[g0];exact bYE _ rfl
  cases D:aZ8 w with
  |true=>
   have pp:cJb (cZf (w.params.setOrder a r) f).toList f.toList:=by have:=aZC (w.params.setOrder a r) f.size 0 f.toList #[] (by simp);simpa[cZf]using this
   obtain⟨k,m,n⟩:=q.perm pp.symm;refine fin ((cZf (w.params.setOrder a r) f).toList.map (·.2)) (λ_=>0) k rfl (by rw[bYe,pp.length_eq];simp) m.vals (n.trans Y) λs i A' E' X M hi p=>?_;refine aKZ M H y D ?_;rw[bYu,cQI]at p;cases e:(cZf (w.params.setOrder a r) f)[i]? with
   |none=>rw[e]at p;exact p
   |some z=>rw[e]at p;exact p
  |false=>
   have a2:(!t.plain && decide (f.size > 1))=false:=by have c':¬ ((!aZ8 w && (!t.plain && decide (f.size > 1)))=true):=c;rw[D]at c';simpa using c'
   have U:t.led=true:=N.led.resolve_left (by rw[D];decide);have a8:t.place.size=f.size:=by have:=y;simp only[SetTable.fits,Bool.and_eq_true,beq_iff_eq]at this;exact this.1
   refine fin (f.toList.map (·.2)) (λi=>if i=0 then 0 else t.place.getD (i - 1) 0+1) ls (by simp) (by simp) q.vals Y λs i A' E' X M hi p=>?_;refine bXa M H y D a2 U ?_;have a4:bY9 t.place (if i=0 then 0 else t.place.getD (i - 1) 0+1)=i:=by
    by_cases h0:i=0
    ·rw[if_pos h0,aV0 N.rise,h0]
    ·rw[if_neg h0,aVZ N.rise (by omega)];omega
   rw[a4];by_cases K:i<f.size
   ·have L:i<t.place.size:=by omega
    rw[cQB K,cQB L];rw[bYu,cQI,cQB K]at p;have e1:t.place.getD i 0=t.place[i]:=by simp[cXF,L]
    simpa[e1]using p
   ·rw[cX3 (by omega)];rw[bYu,cQI,cX3 (by omega)]at p;exact p
end
end Stb
namespace Stb
open PySem PyProof.Rows
section
variable {prog:bYx}{w:bYD}{A:bYO}{E:bYa->bYd->Prop}{s:bYd}
theorem bJw{r:Nat}{Q:Bool->bYd->Prop}(c:s.TypeIs (.ref r) "set")(h:Q false s):bYi (bYk prog w) A (cZ9 (.ref r)) Q E s:=by
 unfold cZ9;refine bYb (wpAny_specialOf c PySem.F.slot_set_len.lookup ?_);generalize a:("set.__len__":String)=q;wp_delta;rw[show splitId q=some ("set","__len__")from by subst a;decide+kernel];subst a;refine bYb (wpAny_isInstance (T:="set") (b:=true) c sub_set_self ?_);refine cZZ (λz=>absurd z (by decide)) (λ_=>?_);refine cZZ (λ_=>?_) (λz=>absurd dk z);exact bYb (wpAny_typeOf c (bYg h))
theorem aV3{a:Nat}{p:List Int}{R:List bYa->bYd->Prop}(hh:A.handled=none)(hS:aQV w s.heap a p)(hn:p.length<=bYB) (h:∀ (h':Heap)(tk:Nat)(d:Drawn)(vs:List bYa)(ls:List Int),s.heap.objs.size<h'.objs.size->(∀b o,s.heap.get? b=some o->h'.get? b=some o)->aX1 ls vs->ls.Perm p->R vs {s with heap:=h',toks:=tk,drawn:=d}): bYi (bYk prog w) A (collect (.ref a)) R E s:=by
 have hT:=hS.type;obtain⟨oa,a3⟩:=hS.there;have M:a<s.heap.objs.size:=bYo a3;unfold collect;refine bYb (wpAny_runValue (cXp entry_proto_collect' ?_));rw[cQ7 PySem.F.plain_proto_collect _];show bYi _ A.in1 (newList [] >>=λl=>again (.builtin "list.__iadd__" ⟨[l,.ref a],[]⟩)) _ _ s;refine bYb (cXa ?_);refine bYg ⟨cZp PySem.F.plain_list_iadd _,cXp entry_list_iadd' ?_⟩;rw[cQ7 PySem.F.plain_list_iadd _];have hL:(s.heap.push {cls:= .type "list",data:= .seq ([]:List bYa).toArray}).get? s.heap.objs.size=some {cls:= .type "list",data:= .seq #[] }:=bYE _ rfl;have t:aQV w (s.heap.push {cls:= .type "list",data:= .seq ([]:List bYa).toArray}) a p:=hS.at λo e=>bYf _ e;have k:(s.heap.push {cls:= .type "list",data:= .seq ([]:List bYa).toArray}).objs.size=s.heap.objs.size+1:=cQJ ..;generalize a6:s.heap.push {cls:= .type "list",data:= .seq ([]:List bYa).toArray}=H1 at hL t k ⊢;have Y:∀b o,s.heap.get? b=some o->H1.get? b=some o:=λb o e=>by rw[<- a6];exact bYf _ e
 show bYi _ A.in1 (cZc (.ref s.heap.objs.size) (.ref a) (.ref s.heap.objs.size)) _ _ {s with heap:=H1};have D:Shared.TypeIs {s with heap:=H1} (.ref a) "set":=t.type (s:={s with heap:=H1});unfold cZc;refine bYb (wpAny_typeOf (T:="set") D ?_);have q1:cJt (.ref s.heap.objs.size) (.ref a)=false:=by simp[cJt,cXP M]
 have q2:(Value.type "set"==Value.type "list")=false:=by decide
 have q3:(Value.type "set"==Value.type "tuple")=false:=by decide
 simp only[q1,q2,q3,Bool.or_false,Bool.false_eq_true,if_false];refine bYb (bJy (s:={s with heap:=H1}) t ?_);intro I h2 d fp St vs ls hI a4 a9 hv hp W Q y;have O:s.heap.objs.size∉fp:=λz=>by
  rcases a4 _ z with e|e
  ·exact cXP M e
  ·have e':H1.objs.size<=s.heap.objs.size:=e;rw[k]at e';exact absurd e' (Nat.not_succ_le_self _)
 have u:=y _ _ hL;have G:∀ (H:Heap)(c:Nat),St 0 H->(∀b o,b≠s.heap.objs.size->h2.get? b=some o->H.get? b=some o)->H.get? s.heap.objs.size=some {cls:= .type "list",data:= .seq #[] c}->
   cXr (bYk prog w) A (.builtin "list.extend.loop" ⟨[.ref s.heap.objs.size,.ref I,.ref s.heap.objs.size],[]⟩)
    (λq g=>∃ (h':Heap)(tk:Nat)(f:Array bYa)(B:Nat),q= .ok (.ret (.ref s.heap.objs.size))/\g= {s with heap:=h',toks:=tk,drawn:=d}/\
     (∀b o,s.heap.get? b=some o->h'.get? b=some o)/\h'.get? s.heap.objs.size=some {cls:= .type "list",dict:=none,data:= .seq f B,slots:= #[] }/\ItemsOf (λi v=>vs[i]? =some v) f p.length) {s with heap:=H,drawn:=d}:=by
  intro H c L a7 m
  refine codeAny_extend_loopS (W A.in1 hh).toS hn s.heap.objs.size O (.ref s.heap.objs.size) p.length 0 _ #[] c rfl (bY7 _) L m (ItemsOf.nil _) λg K B S X N=>?_
  obtain⟨U,g',d',a2,a8⟩:=g
  have eg:g'=s.gens:=S.gens
  have ed:d'=d:=S.drawn
  have eo:a8=s.os:=S.os
  subst eg ed eo
  refine⟨U,a2,K,B,rfl,rfl,λb o e=>?_,X,N⟩
  have r:b<s.heap.objs.size:=bYo e
  refine S.heap b o (λz=>?_) (a7 b o (bYA r) (y b o (Y b o e)))
  rcases bYj.mp z with z|z
  ·exact bYA r z
  ·have z':b=I:=bYr.mp z;have C:H1.objs.size<=I:=hI;rw[k,<- z']at C;exact absurd (bYC r (Nat.le_of_succ_le C)) (cQi _)
 have n:∀ (q:Result)(g:bYd),(∃ (h':Heap)(tk:Nat)(f:Array bYa)(B:Nat),q= .ok (.ret (.ref s.heap.objs.size))/\g= {s with heap:=h',toks:=tk,drawn:=d}/\ (∀b o,s.heap.get? b=some o->h'.get? b=some o)/\h'.get? s.heap.objs.size=some {cls:= .type "list",dict:=none,data:= .seq f B,slots:= #[] }/\ItemsOf (λi v=>vs[i]? =some v) f p.length)->
   ∃tk h',q= .ok (.ret (.ref s.heap.objs.size))/\g= {s with heap:=h',toks:=tk,drawn:=d}/\bYi (bYk prog w) A (do
    let o <- load s.heap.objs.size
    match o.data with
    |.seq xs _=>pure xs.toList
    |_=>unsupported "internal:collect") R E {s with heap:=h',toks:=tk,drawn:=d}:=by
  rintro q g ⟨h',tk,f,B,rfl,rfl,hk,hg,J⟩
  refine⟨tk,h',rfl,rfl,bYb (wpAny_load hg (bYg ?_))⟩
  have a5:vs.length=p.length:=by rw[<- cXt hv,hp.length_eq]
  have e:f.toList=vs:=bQ5 (by rw[cQv,J.1,a5]) λj x hx=>J.2 j x (by rw[<- cQI];exact hx)
  show R f.toList _
  rw[e]
  exact h h' tk d vs ls (bYo hg) hk hv hp
 have Z:Shared.TypeIs {s with heap:=h2,drawn:=d} (.ref a) "set":=by obtain⟨o',V,a1⟩:=D;exact⟨o',y _ _ V,a1⟩
 refine bYb (cQs (bJw Z ?_));refine cZZ (λ_=>?_) (λ_=>?_)
 ·refine bYb (wpAny_rule ?_);refine bYb ?_;show bYi _ _ (updateSeq s.heap.objs.size (·.push .none) >>=λ_=>updateSeq s.heap.objs.size (·.pop)) _ _ _;refine bYb (wpAny_updateSeq u rfl ?_);have m:=cQd (bY4 (·.push Value.none)) u rfl;refine wpAny_updateSeq (hz:=by seq_fits) m rfl ?_;have a0:=cQd (bY4 (·.pop)) m rfl;refine bYg ⟨cZp cJs _,cQ4 (G _ _ ?_ (λb o r e=>?_) a0) λq g z=>?_⟩
  ·refine(W A.in1 hh).frame 0 _ _ Q λb r o e=>?_;have P:b≠s.heap.objs.size:=λz=>O (z ▸ r);exact(bYK _ _ (bYU P)).trans ((bYK _ _ (bYU P)).trans e)
  ·exact(bYK _ _ (bYU r)).trans ((bYK _ _ (bYU r)).trans e)
  ·obtain⟨tk,h',rfl,rfl,zz⟩:=n q g z;exact zz
 ·refine bYg ⟨cZp cJs _,cQ4 (G _ _ Q (λb o _ e=>e) u) λq g z=>?_⟩;obtain⟨tk,h',rfl,rfl,zz⟩:=n q g z;exact zz
theorem X9:∀ {a:List Int} {vs:List bYa},aX1 a vs->cXI vs a
 |_,_,.nil=> .nil
 |_,_,.cons ⟨t,e⟩ r=>by subst e;exact .cons _ t (X9 r)
theorem aW5{a:Nat}{f:List Int}{Q:bYa->bYd->Prop}(z:A.handled=none)(y:aQV w s.heap a f)(F:f.length<64) (h:∀ (l:Nat)(h':Heap)(tk:Nat)(d:Drawn)(out:List bYa)(i:List Int)(n:Nat),s.heap.objs.size<=l->(∀b o,s.heap.get? b=some o->h'.get? b=some o)->h'.get? l=some {cls:= .type "list",data:= .seq out.toArray n}-> cXI out i->i.Perm f->i.Pairwise (·<=·)->Q (.ref l) {s with heap:=h',toks:=tk,drawn:=d}):bYi (bYk prog w) A (call (.builtin "sorted") [.ref a]) Q E s:=by
 refine cZv kind_sorted plain_sorted entry_sorted (args_sorted1 _) ?_;unfold cQY.«sorted»;refine bYb (m:=checkCount "sorted" 1 1 _) (bYg ?_);refine bYb (aV3 (A:=A.in1) z y (by rw[bYJ];omega) λj tk d g G k x t u=>?_);have D:=X9 t;have p:g.length=f.length:=by rw[<- cXt t,u.length_eq]
 refine bYb (cZr ?_ (by rw[p,bYJ];omega));have c:(j.push {cls:= .type "list",data:= .seq g.toArray}).get? j.objs.size=some (bYZ "list" g.toArray 0):=bYE _ rfl;refine bYb (cQs (cQ5 slot_list_sort ⟨_,c,rfl⟩ entry_list_sort (list_sort_tree c D (by omega) λout r v B C=>⟨_,rfl,?_⟩) (args_list_sort _)));obtain⟨n,e⟩:=sortedHeap_at (out:=out) c;refine bYg ⟨_,rfl,h j.objs.size _ tk d out.toList r n (cXO k) (λb o e=>?_) (by simpa using e) v (B.trans u) C⟩;have q:=x b o e;rw[sortedHeap_old (bYA (bYo q)) (by rw[cQJ];exact cQk (bYo q))];exact bYf _ q
end
end Stb
namespace Stb
open PySem PyProof.Rows
def met(val:Nat->Int):Nat->List Int
 |0=> []
 |i+1=>if val i∈met val i then met val i else met val i++ [val i]
theorem aJm(val:Nat->Int):∀i,(met val i).length<=i
 |0=>bYh _
 |i+1=>by
  have a:=aJm val i;unfold met;split
  ·omega
  ·rw[bYy,cQm];omega
theorem aKW(val:Nat->Int)(d:Int):∀i,d∈met val i↔∃j,j<i/\val j=d
 |0=>by simp[met]
 |i+1=>by
  have c:=aKW val d i;have step:d∈met val (i+1)↔d∈met val i\/d=val i:=by
   show d∈(if val i∈met val i then met val i else met val i++ [val i])↔_;split
   ·rename_i a;constructor
    ·exact .inl
    ·rintro(z|rfl)
     ·exact z
     ·exact a
   ·simp
  rw[step,c];constructor
  ·rintro(⟨j,b,e⟩|rfl)
   ·exact⟨j,by omega,e⟩
   ·exact⟨i,by omega,rfl⟩
  ·rintro⟨j,b,e⟩;by_cases h:j=i
   ·subst h;exact .inr e.symm
   ·exact .inl ⟨j,by omega,e⟩
section
variable {prog:bYx}{w:bYD}{A:bYO}
theorem bJr{R:Result->bYd->Prop}{I:Nat}{K y:List Nat}{n:Nat}{P:Nat->bYa->Prop}{St:Nat->Heap->Prop}(W:Walks prog w A.in1 I K y n P St)(S:Nat)(r:S∉K) (val:Nat->Int) (x:∀i v,P i v->∃t,v= .int (val i) t) (a:n+1<cZB): ∀ (k i:Nat)(s:bYd),n - i=k->i<=n->St i s.heap->aQV w s.heap S (met val i)-> (∀g tk,(∀b o,b∉S::y->s.heap.get? b=some o->g.get? b=some o)->aQV w g S (met val n)->R (.ok (.ret .none)) {s with heap:=g,toks:=tk})-> cXr (bYk prog w) A (.builtin "set.update.loop" ⟨[.ref S,.ref I],[]⟩) R s:=by
 have l:S∉y:=λh=>r (W.sub _ h);intro k;induction k with
 |zero=>
  intro i s L N d D hR;obtain rfl:i=n:=by omega
  refine cXp cZx ?_;rw[cQ7 cXz _];refine bYb (m:=pyNext (.ref I)) (W.done s _ _ d λg tk u=>?_);exact bYg (hR g tk (λb o a e=>u b o (λz=>a (bYm _ z)) e) (D.at λo e=>u S o l e))
 |succ k Q=>
  intro i s L N d D hR;have p:i<n:=by omega
  refine cXp cZx ?_;rw[cQ7 cXz _];refine bYb (m:=pyNext (.ref I)) (W.item i s _ _ p d λv B j M q f=>?_);obtain⟨t,rfl⟩:=x i v M;show bYi _ A.in1 (cZs [Value.int (val i) t] (setAdd S (.int (val i) t)) >>=_) _ _ {s with heap:=B,toks:=j};refine bYb (cQs ?_);unfold setAdd;refine cQs ?_;refine bYb ((intKind prog w).pyHash (k:=val i) (intKind_is _ _ _ _) ?_);have c:(met val i).length+1<cZB:=by have:=aJm val i;omega
  refine bV5 (s:={s with heap:=B,toks:=j+1}) (D.at λo e=>f S o l e) c λT b J E=>?_;refine bYg ⟨cZp cXz _,Q (i+1) _ (by omega) p (W.frame _ B _ q λb a o e=>?_) E λO C H G=>?_⟩
  ·exact J.extBut b o (λz=>r (z ▸ a)) e
  ·refine hR O C (λb o a e=>H b o a (J.extBut b o (λz=>a (by rw[z];exact bYp)) (f b o (λz=>a (bYm _ z)) e))) G
variable {E:bYa->bYd->Prop}{s:bYd}
theorem bWr(a:bYa){Q₁:bYa->bYd->Prop} (h:Q₁ (.ref s.heap.objs.size) {s with heap:=s.heap.push {cls:= .type "set",dict:=none,data:= .set #[] 0 (.fresh 0 0 (!aZ8 w)) } }): cXr (bYk prog w) A (.call (.builtin "set.__new__") ⟨[.type "set",a],[]⟩) (wants Q₁ E) s:=by
 refine codeAny_of_tree ?_;show bYi _ A.in1 (do checkBuiltinCall "set.__new__" ⟨[.type "set",a],[]⟩;again (.builtin "set.__new__" ⟨[.type "set",a],[]⟩)) _ _ s;refine bYb (wpAny_of_eq (PySem.F.newCall_set_1 a) (bYg ⟨cZp PySem.F.plain_set_new _,cXp PySem.F.entry_set_new ?_⟩));rw[cQ7 PySem.F.plain_set_new _];unfold cQY.«set.__new__» Builtin.Frozenset.newClass;have b:=sub_set_self;obtain⟨c,g,d,tk,e⟩:=s;dsimp only;wp_walk;refine cXT (bYg ?_);dsimp only;simp only[newObj];refine bYb (wpAny_alloc (bYg ?_));exact bYg h
set_option maxHeartbeats 3200000 in
theorem zV{l:Nat}{items:Array bYa}{u:List Int}{Q:bYa->bYd->Prop}(hh:A.handled=none)(hl:s.heap.IsList l items)(hi:cXI items.toList u)(L:items.size+1<cZB) (h:∀ (h':Heap)(tk:Nat),aQV w h' s.heap.objs.size (met (λi=>u.getD i 0) items.size)->(∀b o,s.heap.get? b=some o->h'.get? b=some o)->Q (.ref s.heap.objs.size) {s with heap:=h',toks:=tk}): bYi (bYk prog w) A (call (.type "set") [.ref l]) Q E s:=by
 obtain⟨c,tl,a4⟩:=cQ3.mro;have T:=cQ3.made;have a3:=cQ3.sub;refine cZl (codeAny_of_tree ?_);show bYi _ _ (callAny (.type "set") _) _ _ _;refine bYg ⟨cJa _ dk,cXp PySem.F.entry_type_call ?_⟩;rw[Around.under_plain (weight_type_call_type "set" [.ref l] []) rfl];have h1:=cQ3.notType;have h2:=cQ3.canCreate;have a5:=PySem.F.typeCall_set_1 (.ref l);repeat (any_goals (first|assumption|wp_step))
 refine cQ4 (bWr (.ref l) (E:=E) (Q₁:=λB j=>B= .ref s.heap.objs.size/\j= {s with heap:=s.heap.push {cls:= .type "set",dict:=none,data:= .set #[] 0 (.fresh 0 0 (!aZ8 w)) } }) ⟨rfl,rfl⟩) λr j S=>?_;cases r with
 |error e=>exact S
 |ok fl=>
  cases fl with
  |ret B=>
   obtain⟨rfl,rfl⟩:=S;generalize N:({cls:= .type "set",dict:=none,data:= .set #[] 0 (.fresh 0 0 (!aZ8 w)) }:Obj)=O;have Y:(s.heap.push O).get? s.heap.objs.size=some O:=bYE _ (by rw[<- N];rfl);have hT:Shared.TypeIs {s with heap:=s.heap.push O} (.ref s.heap.objs.size) "set":=⟨_,Y,by rw[<- N]⟩;have G:aQV w (s.heap.push O) s.heap.objs.size []:=by
    refine⟨O, #[],0,.fresh 0 0 (!aZ8 w),[],Y,?_,?_,.nil,.rfl,List.nodup_nil,by decide,rfl,bQs ?_⟩
    ·rw[<- N];exact⟨rfl,rfl,rfl⟩
    ·rw[<- N]
    ·cases aZ8 w<;> simp
   have f:(s.heap.push O).objs.size=s.heap.objs.size+1:=cQJ ..;have m:∀b o,s.heap.get? b=some o->(s.heap.push O).get? b=some o:=λb o e=>bYf _ e;generalize hH:s.heap.push O=H at Y hT G f m ⊢;have a8:=cQ3.init.lookup;have a7:=cQ3.init.bind (.ref s.heap.objs.size);repeat (any_goals (first|assumption|wp_step))
   refine cQ4 (cZV (R:=wants (λr g=>r= .none/\∃h' tk,g= {s with heap:=h',toks:=tk}/\aQV w h' s.heap.objs.size (met (λi=>u.getD i 0) items.size)/\
     (∀b o,s.heap.get? b=some o->h'.get? b=some o)) E) cQ3.init.plain PySem.F.entry_set_init (check_set_init_1 hT ?_)) λq g a=>?_
   ·obtain⟨ol,C,x,nl,P⟩:=hl;obtain⟨a1,n,U,d⟩:=ol;simp only at x P;subst x;subst P;have J:H.get? l=some {cls:= .type "list",dict:=n,data:= .seq items nl,slots:=d}:=m _ _ C;have a0:=PySem.F.sub_list_set;have a2:=PySem.F.sub_list_frozenset;have a6:(Value.type "list"==Value.type "dict")=false:=by decide
    have D:H.IsList l items:=⟨_,J,rfl,nl,rfl⟩;subst N;unfold cQY.«set.__init__» noKeywords Builtin.Frozenset.updateFrom;generalize W:pyIter=PI;wp_walk;subst W;refine cJp (l:=l) (items:=items) ?hl ?_;case hl=>exact D
    refine bYb (wpAny_runValue ?_);have I:l<s.heap.objs.size:=bYo C;have V:A.in1.in1.in1.handled=none:=by simp[hh]
    have y:l≠H.objs.size:=by rw[f];exact bYA (cQk I)
    have X:s.heap.objs.size∉ [H.objs.size,l]:=by rw[f];simp only[bYj,cXM,or_false,not_or];exact⟨bYA (cQ2 _),cXP I⟩
    have M:∀ (i:Nat)(v:bYa),items[i]? =some v->∃t,v= .int ((λi=>u.getD i 0) i) t:=λi v hv=>
     cJc hi i v (by rw[cQI];exact hv)
    refine bJr (Walks.list V _ l y items) s.heap.objs.size X (λi=>u.getD i 0) M L (items.size - 0) 0 _ (by omega) (bY7 _) ⟨⟨_,bYE _ rfl,rfl,rfl⟩,D.push _⟩ ?hS0 ?hR;case hS0=>exact G.at λo e=>bYf _ e
    case hR=>
     intro h' tk hk p;show bYi _ _ _ _ _ _;refine bYg ?_;show bYi _ _ (ret Value.none) _ _ _;refine bYg ⟨rfl,h',tk,rfl,p,λb o e=>?_⟩;have L:=bYo e;refine hk b o (λz=>?_) (bYf _ (m _ _ e));simp only[bYj,cXM,or_false]at z;rcases z with z|z
     ·exact bYA L z
     ·rw[z]at L;have K:H.objs.size<s.heap.objs.size:=L;rw[f]at K;exact absurd K (Nat.not_lt.mpr (cXi _))
   ·cases q with
    |error e=>exact a
    |ok k=>
     cases k with
     |ret r=>
      obtain⟨rfl,h',tk,rfl,p,Z⟩:=a;repeat (any_goals (first|assumption|wp_step))
      exact h _ _ p Z
     |_=>exact a.elim
  |_=>exact S.elim
end
end Stb
namespace L2
open PySem PySem.Spec PyProof.Rows
section
variable {X:Cx}{tg:Expr}
end
section
variable {X:Cx}
theorem zP:jM X (.builtin "isinstance") (λa H Q=>∃x c t b,a= [x,.ty c]/\aZ2 X.K H x t/\bY2 X.K t (.type c)=some b/\Q (.bl b) H):=by
 intro d s σ H a i Q I r h;obtain⟨x,c,t,b,rfl,ty,e,q⟩:=h;obtain⟨u,v,rfl,f,g⟩:=xV.two r;cases g;exact aKH I f ty e λtk=>⟨.bl b,H,I.tok tk,rfl,q⟩
def bWQ(w:bYD)(a:Nat)(b:List Int):HO:= .ext λh=>Stb.aQV w h a b
theorem bQA(C:X.calm=true):jM X (.type "set") (λn H Q=>∃ (p:Nat)(a:List Int),n= [.ref p]/\SqL X.K H p (a.map V.int)/\a.length<4000/\∀ (l:Nat)(f:List Int),H l=none->f.Nodup->f.length<=a.length->(∀d,d∈f↔d∈a)->Q (.ref l) (upd H l (bWQ X.w l f))):=by
 intro A s σ H n M Q I r h;obtain⟨p,a,rfl,J,R,q⟩:=h;obtain⟨u,rfl,E⟩:=aQS r;cases E;obtain⟨b,G,D,S⟩:=I.list J;have v:cXI b a:=aQ8 G;have x:b.length=a.length:=v.length;refine Stb.zV (I.ok.hd C) D.isList (by simpa using v) (by rw[bYs];unfold cZB;omega) λO tk c F=>?_;rw[bYs]at c;have m:(Stb.met (λi=>a.getD i 0) b.length).Nodup:=by obtain⟨o,U,L,t,P,_,_,_,_,_,m,_⟩:=c;exact m
 have hl:=Stb.aJm (λi=>a.getD i 0) b.length;refine⟨.ref s.heap.objs.size,_,I.laid (t':=tk) (o:=bWQ X.w s.heap.objs.size (Stb.met (λi=>a.getD i 0) b.length)) F (bYh _) ⟨c,c.there,λN T z k=>z.at k⟩,rfl,q _ _ I.fresh m (by omega) λd=>?_⟩;rw[Stb.aKW];constructor
 ·rintro⟨j,y,rfl⟩;have g:j<a.length:=by omega
  simp[bYX,bK9 g]
 ·intro B;obtain⟨j,y,e⟩:=bY1 B;exact⟨j,by omega,by simp[bYX,bK9 y,e]⟩
theorem aQW(t:X.calm=true):jM X (.builtin "sorted") (λo H Q=>∃ (p:Nat)(f:List Int),o= [.ref p]/\H p=some (bWQ X.w p f)/\f.length<64/\∀ (l:Nat)(b:List Int),H l=none->b.Perm f->b.Pairwise (·<=·)->Q (.ref l) (upd H l (.lst (b.map V.int)))):=by
 intro c s σ H o E Q I r h;obtain⟨p,f,rfl,D,k,q⟩:=h;obtain⟨u,rfl,v⟩:=aQS r;cases v;obtain⟨A,_,_⟩:=(show zA X.prog X.w H s.heap p (bWQ X.w p f)from I.hok p _ D);refine Stb.aW5 (I.ok.hd t) A k λl m tk d g b n hl x y B e j=>?_;have z:H l=none:=I.hok.fresh hl;have i:b.length<=bYB:=by rw[e.length_eq,bYJ];omega
 have a:Inv X c σ (upd H l (.lst (b.map V.int))) {s with heap:=m,toks:=tk}:=I.laid x hl ⟨by rw[bYe];exact i,g,n,uP B,y⟩;have C:Inv X c σ (upd H l (.lst (b.map V.int))) {s with heap:=m,toks:=tk,drawn:=d}:=by refine⟨a.ok,a.os,a.bare,a.base,a.loc,a.cell,a.free,a.freeC,a.pin,a.hok,a.len⟩
 exact⟨.ref l,_,C,rfl,q l b z e j⟩
theorem bVh(n d:Nat)(a:Nat):HT.sIx n d (some (a:Int))=min a n:=by
 unfold HT.sIx;simp only;split<;> omega
end
end L2
namespace L2
open PySem PySem.Spec PyProof.Rows
theorem W1(K:bYc):bY2 K (.type "NoneType") (.type "list")=some false:=by kernel_rfl
theorem Y2(K:bYc):bY2 K (.type "NoneType") (.type "tuple")=some false:=by kernel_rfl
theorem Z0(K:bYc):bY2 K (.type "bool") (.type "bool")=some true:=by kernel_rfl
theorem aJi(K:bYc):bY2 K (.type "bool") (.type "int")=some true:=by kernel_rfl
theorem jO(K:bYc):bY2 K (.type "bool") (.type "str")=some false:=by kernel_rfl
theorem aZm(K:bYc):bY2 K (.type "bool") (.type "list")=some false:=by kernel_rfl
theorem aXt(K:bYc):bY2 K (.type "bool") (.type "tuple")=some false:=by kernel_rfl
theorem jP(K:bYc):bY2 K (.type "int") (.type "bool")=some false:=by kernel_rfl
theorem aQ9(K:bYc):bY2 K (.type "int") (.type "int")=some true:=by kernel_rfl
theorem uV(K:bYc):bY2 K (.type "int") (.type "str")=some false:=by kernel_rfl
theorem aJj(K:bYc):bY2 K (.type "int") (.type "list")=some false:=by kernel_rfl
theorem aZn(K:bYc):bY2 K (.type "int") (.type "tuple")=some false:=by kernel_rfl
theorem aQb(K:bYc):bY2 K (.type "str") (.type "bool")=some false:=by kernel_rfl
theorem aWd(K:bYc):bY2 K (.type "str") (.type "int")=some false:=by kernel_rfl
theorem vN(K:bYc):bY2 K (.type "str") (.type "str")=some true:=by kernel_rfl
theorem aJk(K:bYc):bY2 K (.type "str") (.type "list")=some false:=by kernel_rfl
theorem aZo(K:bYc):bY2 K (.type "str") (.type "tuple")=some false:=by kernel_rfl
theorem wJ(K:bYc):bY2 K (.type "list") (.type "list")=some true:=by kernel_rfl
theorem qJ(K:bYc):bY2 K (.type "list") (.type "tuple")=some false:=by kernel_rfl
theorem wT(K:bYc):bY2 K (.type "tuple") (.type "list")=some false:=by kernel_rfl
theorem jL(K:bYc):bY2 K (.type "tuple") (.type "tuple")=some true:=by kernel_rfl
section
variable {X:Cx}{pins:List (Nat×Obj)}{σ:St}{H:Hp}{s:bYd}
theorem aWa{A:bYO}{E:bYa->bYd->Prop}{Q:bYa->bYd->Prop}{x:V}{u t:bYa}{tp:Nat}{cs:List bYa}{b:Bool}(I:Inv X pins σ H s)(c:zH x u)(ty:aZ2 X.K H x t) (r:cX6 s.heap tp cs.toArray) (e:PySem.W.kitAny X.K t cs=some b) (h:∀tk,Q (.bool b) {s with toks:=tk}):bYi (bYk X.prog X.w) A (call (.builtin "isinstance") [u,.ref tp]) Q E s:=by
 obtain⟨⟨cls,Y,data,U⟩,d,B,n,v⟩:=r;simp only at B v;subst B v;cases ty with
 |non=>cases (show u=Value.none from c);exact cQM PySem.W.kitx_none I.kIn cQw d e (λz=>nomatch z) h
 |bl y=>cases (show u=Value.bool y from c);exact cQM PySem.W.kitx_bool I.kIn cQw d e (λz=>nomatch z) h
 |int i=>obtain⟨t,q⟩:=(show ∃t,u=Value.int i t from c);cases q;exact cQM PySem.W.kitx_int I.kIn cQw d e (λz=>nomatch z) h
 |str y=>obtain⟨t,q⟩:=(show ∃t,u=Value.str y t from c);cases q;exact cQM PySem.W.kitx_str I.kIn cQw d e (λz=>nomatch z) h
 |flt y=>obtain⟨t,q⟩:=(show ∃t,u=Value.float y t from c);cases q;exact cQM PySem.W.kitx_float I.kIn cQw d e (λz=>nomatch z) h
 |@lst a k f=>cases (show u=Value.ref a from c);obtain⟨_,_,n,_,g⟩:=(show zA X.prog X.w H s.heap a (.lst k)from I.hok a _ f);exact cQM cZE I.kIn ⟨_,g,rfl⟩ d e (λz=>nomatch z) h
 |@frz a G k f=>cases (show u=Value.ref a from c);obtain⟨_,_,_,n,_,g⟩:=(show zA X.prog X.w H s.heap a (.frz G (.lst k))from I.hok a _ f);exact cQM cZE I.kIn ⟨_,g,rfl⟩ d e (λz=>nomatch z) h
 |@tup a k f=>cases (show u=Value.ref a from c);obtain⟨_,_,_,p⟩:=(show zA X.prog X.w H s.heap a (.tup k)from I.hok a _ f);obtain⟨o,g,l,_⟩:=p;exact cQM PySem.W.kitx_tuple I.kIn ⟨o,g,l⟩ d e (λz=>nomatch z) h
 |@dK a j f=>cases (show u=Value.ref a from c);obtain⟨_,_,P,_,p⟩:=(show zA X.prog X.w H s.heap a (.dK j)from I.hok a _ f);obtain⟨o,N,D,g,l,_⟩:=p;exact cQM cZD I.kIn ⟨o,g,l.1⟩ d e (λz=>nomatch z) h
 |@dT a j f=>cases (show u=Value.ref a from c);obtain⟨_,_,k,_,o,N,D,g,l,_⟩:=(show zA X.prog X.w H s.heap a (.dT j)from I.hok a _ f);exact cQM cZD I.kIn ⟨o,g,l.1⟩ d e (λz=>nomatch z) h
 |@ins a C S fs f cl L F m M=>cases (show u=Value.ref a from c);obtain⟨R,O,_⟩:=Q7 I.hok f;obtain⟨T,J,_⟩:=O.look;exact cQM (PySem.W.kitx_own (cl.get _) cl.hd L F m M) I.kIn J d e (λz=>nomatch z) h
end
section
variable {X:Cx}
theorem Q3:jM X (.builtin "isinstance") (λe H Q=>∃x p c d t b a,e= [x,.ref p]/\SqT X.K H p [.ty c,.ty d]/\aZ2 X.K H x t/\bY2 X.K t (.type c)=some b/\bY2 X.K t (.type d)=some a/\Q (.bl (b || a)) H):=by
 intro pins s σ H e y Q I r h;obtain⟨x,p,c,d,t,b,a,rfl,o,ty,i,g,q⟩:=h;obtain⟨u,v,rfl,l,w⟩:=xV.two r;cases w;obtain⟨j,f,k,_⟩:=I.tuple o;obtain⟨z,A,rfl,n,m⟩:=xV.two f;cases n;cases m;refine aWa I l ty k (b:=b || a) ?_ λtk=>⟨.bl (b || a),H,I.tok tk,rfl,q⟩;unfold PySem.W.kitAny;rw[i];cases b
 ·simp only[Bool.false_or];unfold PySem.W.kitAny;rw[g];cases a<;> rfl
 ·rfl
def bWG(K:bYc):R2:=λx y H Q=>∃a b c,x= .ref a/\y= .ref b/\SqL K H a c/\SqL K H b []/\Q (.bl c.isEmpty) H
def bWH(K:bYc):R2:=λx y H Q=>∃a b c,x= .ref a/\y= .ref b/\SqL K H a c/\SqL K H b []/\Q (.bl (!c.isEmpty)) H
theorem aVo(c:X.A.units<cLine):OpR X (cQE .Eq) (bWG X.K):=by
 intro pins s σ H x y v u Q I l o h;obtain⟨a,b,r,rfl,rfl,m,n,q⟩:=h;cases l;cases o;obtain⟨p,k,f,_⟩:=I.list m;obtain⟨w,g,d,_⟩:=I.list n;cases g;cases k with
 |nil=>exact SeqAt.eq_listAt (e:=λ_=>true) f.isList d.isList rfl c (λj i t=>absurd i (cQX _)) ⟨.bl true,H,I,rfl,q⟩
 |cons _ _=>exact SeqAt.eq_list_lengthsAt f.isList d.isList (by simp) c ⟨.bl false,H,I,rfl,q⟩
theorem uZ(c:X.A.units<cLine):OpR X (cQE .NotEq) (bWH X.K):=by
 intro pins s σ H x y v u Q I l o h;obtain⟨a,b,r,rfl,rfl,m,n,q⟩:=h;cases l;cases o;obtain⟨p,k,f,_⟩:=I.list m;obtain⟨B,g,d,_⟩:=I.list n;cases g;cases k with
 |nil=>have z:=SeqAt.RcNeAt.lists (A:=X.A) (s:=s) (e:=λ_=>true) f.isList d.isList rfl c (λj i t=>absurd i (cQX _));exact z X.prog X.w X.xe _ ⟨.bl false,H,I,rfl,q⟩
 |cons _ _=>exact(SeqAt.RcNeAt.lists_lengths f.isList d.isList (by simp) c) X.prog X.w X.xe _ ⟨.bl true,H,I,rfl,q⟩
structure FnG(P:bYx)(w:bYD)(K:bYc)(mg:Str->Option bYa)(base:Heap)(k:Nat)(x:Str)(ps:List Str)(sp:Sp):Prop where
 ex:∃f fd,xD P w K mg base CX0 k f fd ps sp/\vT K fd ps []/\bY6 K (.ref f)=true/\mg x=some (.ref f)
theorem FnG.mono{P:bYx}{w:bYD}{K:bYc}{mg:Str->Option bYa}{base:Heap}{j k:Nat}{x:Str}{c:List Str}{sp:Sp}(G:FnG P w K mg base j x c sp)(h:j<=k):FnG P w K mg base k x c sp:=
 let ⟨f,fd,a,b⟩:=G.ex;⟨f,fd,a.mono h,b⟩
theorem xK{k:Nat}{x:Str}{g:List Str}{sp:Sp}{e:Expr}{a:List Expr}{t:TA}{p pos:Pos}(G:FnG X.prog X.w X.K X.mg X.base k x g sp)(h:vM k X.A)(j:Gl X x)(n:PA X (e::a) t)
  (d:(x==("__debug__":Str))=false:=by decide) (l:bYN (e::a) X.env=(false,eval e X.env)::bYN a X.env:=by rfl) (c:(cQN pos (bYN a X.env)).any (·.1)=false:=by rfl):
  PE X (.Call (.Name x p) (e::a) [] pos) (bZe sp [] E0 t):=by
 obtain⟨f,o,F,b,i,m⟩:=G.ex
 exact aYn F h j m i b .nil vQ n d l c
end
inductive Dt where
 |non|bl (b:Bool)|int (n:Int)|str (x:Str)|lst (ds:List Dt)|tup (ds:List Dt)
mutual
def Is(H:Hp):V->Dt->Prop
 |v,.non=>v= .non
 |v,.bl b=>v= .bl b
 |v,.int n=>v= .int n
 |v,.str x=>v= .str x
 |v,.lst ds=>∃a c,v= .ref a/\H a=some (.lst c)/\wG H c ds
 |v,.tup ds=>∃a c,v= .ref a/\H a=some (.tup c)/\wG H c ds
def wG(H:Hp):List V->List Dt->Prop
 |[],[]=>True
 |x::xs,d::ds=>Is H x d/\wG H xs ds
 |_,_=>False
end
mutual
def Dt.size:Dt->Nat
 |.lst a=>1+wQ a
 |.tup a=>1+wQ a
 |_=>1
def wQ:List Dt->Nat
 |[]=>0
 |d::ds=>d.size+wQ ds
end
theorem wG.length{H:Hp}:∀ {xs:List V} {a:List Dt},wG H xs a->xs.length=a.length
 |[],[],_=>rfl
 |_::xs,_::a,h=>by unfold wG at h;simp[wG.length h.2]
 |[],_::_,h=>by unfold wG at h;exact h.elim
 |_::_,[],h=>by unfold wG at h;exact h.elim
theorem wG.get{H:Hp}:∀ {xs:List V} {a:List Dt} {i:Nat} {d:Dt},wG H xs a->a[i]? =some d->∃x,xs[i]? =some x/\Is H x d
 |x::xs,d::a,0,_,h,e=>by unfold wG at h;simp at e;subst e;exact⟨x,rfl,h.1⟩
 |_::xs,_::a,i+1,d,h,e=>by unfold wG at h;simpa using wG.get (i:=i) (d:=d) h.2 (by simpa using e)
 |[],[],_,_,_,e=>by simp at e
 |[],_::_,_,_,h,_=>by unfold wG at h;exact h.elim
 |_::_,[],_,_,h,_=>by unfold wG at h;exact h.elim
theorem zB{t u:TS}{D:aKc}{σ:L2.St}{H:Hp}(R:L2.St->Hp->Prop)(d:∀a b,R a b->u D a b)(c:(∀a b,R a b->u D a b)->t {D with nx:=u D} σ H):bKe t u D σ H:=c d
theorem onT{c:Bool}{A B:Prop}(e:c=true)(h:A):if c=true then A else B:=by rw[e];exact h
theorem onF{c:Bool}{A B:Prop}(e:c=false)(h:B):if c=true then A else B:=by rw[e];exact h
theorem z0:([]:List V).length<=bYB:=by decide
theorem z1{a:V}: [a].length<=bYB:=by show 1<=bYB;decide
theorem z2{a b:V}: [a,b].length<=bYB:=by show 2<=bYB;decide
theorem z3{a b c:V}: [a,b,c].length<=bYB:=by show 3<=bYB;decide
theorem z4{a b c d:V}: [a,b,c,d].length<=bYB:=by show 4<=bYB;decide
theorem z5{a b c d e:V}: [a,b,c,d,e].length<=bYB:=by show 5<=bYB;decide
theorem zn{l:List V}(h:l.length<=100000):l.length<=bYB:=by rw[bYJ];omega
theorem zlt{l:List V}(h:l.length<=100000):l.length<bYB:=by rw[bYJ];omega
theorem xA.fresh{H a:Hp}(k:xA H a){p:Nat}(h:a p=none):H p=none:=by
 cases e:H p with
 |none=>rfl
 |some o=>rw[k _ _ e]at h;cases h
theorem yG{H:Hp}{p:Nat}(h:H p=none)(o:HO):xA H (upd H p o):=λb u q=>by rw[yJ (yK q h)];exact q
end L2
namespace Rvl
open PySem PyProof.Rows
section
variable {prog:bYx}{w:bYD}{A:bYO}{E:bYa->bYd->Prop}{s:bYd}
end
end Rvl
namespace L2
open PySem PySem.Spec PyProof.Rows
section
variable {X:Cx}
end
end L2
namespace L2
open PySem PySem.Spec PyProof.Rows
theorem W7{n:Nat}{h:List Nat}{g:TT}{k:TE}{σ:St}{D:Nat}{Q:VK}{H:Hp}(p:Nat->Bool)(f:Nat->V)(z:H D=none)(hz:n<=bYB) (u:∀i,i<n->∀ (c:Hp)(R:Bool->Hp->Prop),(∀b,b≠D->c b=H b)->R (p i) c->g (sub σ h (some (.int (i:Nat)))) c R) (q:∀i,i<n->p i=true->∀ (c:Hp)(R:VK),(∀b,b≠D->c b=H b)->R (f i) c->k (sub σ h (some (.int (i:Nat)))) c R) (x:Q (.ref D) (upd H D (.lst (((bYn n).filter p).map f)))):bJd (Itr 0 n) h g k σ D Q (upd H D (.lst [])):=by
 refine⟨λi m j c=>m=n - i/\i<=n/\j=((bYn i).filter p).map f/\c=upd H D (.lst j),⟨n,by simp,bY7 _,by simp,rfl⟩,?_⟩;rintro i m j c ⟨rfl,B,rfl,rfl⟩;refine⟨yB,?_⟩;by_cases a:i<n
 ·refine .inr ⟨a,λv y t=>?_⟩;obtain⟨r,o⟩:=t;subst r;subst o;rw[cXf];have e:∀b,b≠D->upd H D (.lst (((bYn i).filter p).map f)) b=H b:=λb w=>yJ w;have d:(((bYn i).filter p).map f).length<bYB:=by
   rw[bYe];have s:=cQe p (bYn i);rw[bYW]at s;omega
  refine u i a _ _ e ?_;cases l:p i with
  |false=>show ∃A,_;refine⟨n - (i+1),by omega,rfl,a,?_,rfl⟩;rw[cXl,cQl,cQP (by rw[l];decide)];simp
  |true=>show k _ _ _;refine q i a l _ _ e ⟨d,yB,n - (i+1),by omega,rfl,a,?_,by rw[uO]⟩;rw[cXl,cQl,cQQ l];simp
 ·obtain rfl:i=n:=by omega
  exact .inl ⟨bYh _,x⟩
end L2
namespace Stree
open PySem PySem.W PyProof.Rows
def Asks{α:Type}(n:Nat)(lt:Nat->Nat->Bool):KasT α->(α->Prop)->Prop
 |.ret a,Q=>Q a
 |.ask i j k,Q=>i<n/\j<n/\Asks n lt (k (lt i j)) Q
theorem Asks.bind{α β:Type}{n:Nat}{lt:Nat->Nat->Bool}{f:α->KasT β}{Q:β->Prop}:∀ {t:KasT α} {R:α->Prop},Asks n lt t R->(∀a,R a->Asks n lt (f a) Q)->Asks n lt (t.bind f) Q
 |.ret a,R,h,hf=>hf a h
 |.ask i j k,R,h,hf=>⟨h.1,h.2.1,Asks.bind (t:=k (lt i j)) h.2.2 hf⟩
theorem Asks.wp{α:Type}{n:Nat}{lt:Nat->Nat->Bool}{b:Nat->Nat->(Bool->bYd->Prop)->bYd->Prop}{s:bYd}{G:α->bYd->Prop}(c:∀i j C,i<n->j<n->C (lt i j) s->b i j C s):
  ∀ {t:KasT α} {R:α->Prop},Asks n lt t R->(∀a,R a->G a s)->t.kasWp b G s
 |.ret a,R,h,hf=>hf a h
 |.ask i j k,R,h,hf=>c i j _ h.1 h.2.1 (Asks.wp c (t:=k (lt i j)) h.2.2 hf)
section
variable {n:Nat}{r:Nat->Int}{p:Array Nat}
abbrev Z2(r:Nat->Int):Nat->Nat->Bool:=λi j=>decide (r i<r j)
abbrev R(r:Nat->Int)(p:Array Nat)(k:Nat):Int:=r (p.getD k 0)
structure Ok(n:Nat)(p:Array Nat):Prop where
 perm:p.toList.Perm (bYn n)
theorem Ok.size(h:Ok n p):p.size=n:=by have:=h.perm.length_eq;simpa using this
theorem Ok.lt(h:Ok n p)(h0:0<n)(k:Nat):p.getD k 0<n:=by
 by_cases a:k<p.size
 ·have:p.toList[k]'(by simpa using a)∈p.toList:=cQR _;have:=bYI.mp (h.perm.mem_iff.mp this);simpa[cXF,a]using this
 ·simpa[cXF,a]using h0
theorem Ok.ne(h:Ok n p){i j:Nat}(g:i<n)(f:j<n)(c:i≠j):p.getD i 0≠p.getD j 0:=by
 have k:=h.size;have d:p.toList.Nodup:=h.perm.nodup_iff.mpr cZi;intro e;have b:i<p.size:=by omega
 have a:j<p.size:=by omega
 simp[cXF,b,a]at e;have:=(cQ0 (xs:=p.toList) (h₀:=by simpa using b) (h₁:=by simpa using a) d).mp (by simpa using e);exact c this
def Inj(n:Nat)(r:Nat->Int):Prop:=∀i j,i<n->j<n->r i=r j->i=j
theorem Ok.rne(h:Ok n p)(d:Inj n r){i j:Nat}(c:i<n)(b:j<n)(a:i≠j):R r p i≠R r p j:=λe=>
 h.ne c b a (d _ _ (h.lt (by omega) i) (h.lt (by omega) j) e)
def Srt(r:Nat->Int)(p:Array Nat)(k:Nat):Prop:=∀i j,i<j->j<k->R r p i<R r p j
def Dsc(r:Nat->Int)(p:Array Nat)(k:Nat):Prop:=∀i j,i<j->j<k->R r p j<R r p i
theorem Srt.one:Srt r p 1:=λi j a b=>by omega
theorem aXr(p:Array Nat)(k:Nat):p.getD k 0=(p[k]?).getD 0:=by simp[cXF,cXC];split<;> simp_all
theorem aX4(h:Ok n p)(hr:Inj n r):∀ (f m:Nat),1<=m->m+f<=n->Srt r p m->Asks n (Z2 r) (kas_asc p f m) (λm'=>m<=m'/\m'<=m+f/\Srt r p m'/\(m'<m+f->R r p m'<R r p (m' - 1)))
 |0,m,h1,h2,hs=>⟨bYh _,bYh _,hs,λz=>absurd z (by omega)⟩
 |f+1,m,h1,h2,hs=>by
  refine⟨h.lt (by omega) _,h.lt (by omega) _,?_⟩
  by_cases c:r (p.getD m 0)<r (p.getD (m - 1) 0)
  ·have e:Z2 r (p.getD m 0) (p.getD (m - 1) 0)=true:=decide_eq_true c
   rw[e];show Asks n (Z2 r) (ite _ _ _) _;rw[if_pos rfl]
   exact⟨bYh _,by omega,hs,λ_=>c⟩
  ·have e:Z2 r (p.getD m 0) (p.getD (m - 1) 0)=false:=decide_eq_false c
   rw[e];show Asks n (Z2 r) (ite _ _ _) _;rw[if_neg (by decide)]
   have hne:=h.rne hr (i:=m) (j:=m - 1) (by omega) (by omega) (by omega)
   have hlt:R r p (m - 1)<R r p m:=by
    have:¬R r p m<R r p (m - 1):=c
    omega
   have hs':Srt r p (m+1):=λi j hij hj=>by
    by_cases hjm:j<m
    ·exact hs i j hij hjm
    ·have:j=m:=by omega
     subst this
     by_cases hi:i=j - 1
     ·rw[hi];exact hlt
     ·have:=hs i (j - 1) (by omega) (by omega);omega
   have z:=aX4 h hr f (m+1) (by omega) (by omega) hs'
   have e2:m+1+f=m+(f+1):=by omega
   rw[e2]at z
   exact Asks.mono z λm' ⟨a,b,c,d⟩=>⟨by omega,b,c,d⟩
where
 Asks.mono {α:Type} {n:Nat} {lt:Nat->Nat->Bool} {Q Q':α->Prop}:∀ {t:KasT α},Asks n lt t Q->(∀a,Q a->Q' a)->Asks n lt t Q'
  |.ret a,h,hf=>hf a h
  |.ask i j k,h,hf=>⟨h.1,h.2.1,Asks.mono (t:=k (lt i j)) h.2.2 hf⟩
theorem aKw(h:Ok n p)(q:Inj n r):∀ (f m:Nat),1<=m->m+f<=n->Dsc r p m->Asks n (Z2 r) (kas_desc f p m 0) (λz=>z.1=p/\z.2.2=0/\m<=z.2.1/\z.2.1<=m+f/\Dsc r p z.2.1)
 |0,m,h1,h2,hs=>⟨rfl,rfl,bYh _,bYh _,hs⟩
 |f+1,m,h1,h2,hs=>by
  refine⟨h.lt (by omega) _,h.lt (by omega) _,?_⟩;by_cases c:r (p.getD m 0)<r (p.getD (m - 1) 0)
  ·have e:Z2 r (p.getD m 0) (p.getD (m - 1) 0)=true:=decide_eq_true c;rw[e];show Asks n (Z2 r) (ite _ _ _) _;rw[if_pos rfl,if_neg (by omega)];have k:Dsc r p (m+1):=λi j o w=>by
    by_cases l:j<m
    ·exact hs i j o l
    ·have:j=m:=by omega
     subst this;have v:R r p j<R r p (j - 1):=c;by_cases u:i=j - 1
     ·rw[u];exact v
     ·have:=hs i (j - 1) (by omega) (by omega);omega
   have z:=aKw h q f (m+1) (by omega) (by omega) k;have s:m+1+f=m+(f+1):=by omega
   rw[s]at z;exact aX4.Asks.mono z λz ⟨a,b,c,d,e⟩=>⟨a,b,by omega,d,e⟩
  ·have e:Z2 r (p.getD m 0) (p.getD (m - 1) 0)=false:=decide_eq_false c;rw[e];show Asks n (Z2 r) (ite _ _ _) _;rw[if_neg (by decide)];refine⟨h.lt (by omega) _,h.lt (by omega) _,?_⟩;have t:=h.rne q (i:=m) (j:=m - 1) (by omega) (by omega) (by omega);have g:R r p (m - 1)<R r p m:=by
    have:¬R r p m<R r p (m - 1):=c;omega
   have e:Z2 r (p.getD (m - 1) 0) (p.getD m 0)=true:=decide_eq_true g;rw[e];show Asks n (Z2 r) (ite _ _ _) _;rw[if_pos rfl];exact⟨rfl,rfl,bYh _,Nat.le_add_right _ _,hs⟩
theorem bV3{m:Nat}(a:m<=p.size)(k:Nat)(b:k<m):R r (kas_rev p 0 m) k=R r p (m - 1 - k):=by
 unfold R kas_rev;rw[aXr,aXr,getElem?_mirror_all a,if_pos ⟨bY7 _,b⟩,Nat.zero_add]
theorem bZU(h:Ok n p)(m:Nat):Ok n (kas_rev p 0 m):=⟨(cJg.mp (mirror_perm p 0 m _)).trans h.perm⟩
theorem bZj(h:Ok n p)(g:Inj n r){m:Nat}(k:1<=m)(e:m<=n)(o:Dsc r p m):Asks n (Z2 r) (kas_tail3 m n p) (λz=>1<=z.1/\z.1<=n/\Ok n z.2/\Srt r z.2 z.1):=by
 have d:Srt r (kas_rev p 0 m) m:=λi j l f=>by rw[bV3 (by rw[h.size];exact e) i (by omega),bV3 (by rw[h.size];exact e) j f];exact o _ _ (by omega) (by omega)
 refine Asks.bind (aX4 (bZU h m) g (n - m) m k (by omega) d) λm' ⟨a,b,c,_⟩=>?_;exact⟨by omega,by omega,bZU h m,c⟩
theorem bQD(h:Ok n p)(g:Inj n r)(y:1<=n):Asks n (Z2 r) (kas_count n p) (λz=>1<=z.1/\z.1<=n/\Ok n z.2/\Srt r z.2 z.1):=by
 refine Asks.bind (aX4 h g (n - 1) 1 (bYh _) (by omega) Srt.one) λm ⟨a,b,c,d⟩=>?_;by_cases e:m=n
 ·rw[if_pos (by simpa using e)];exact⟨a,by omega,h,c⟩
 ·rw[if_neg (by simpa using e)];by_cases k:m > 1
  ·rw[if_pos k];refine⟨h.lt (by omega) _,h.lt (by omega) _,?_⟩;have f:R r p 0<R r p (m - 1):=c 0 (m - 1) (by omega) (by omega);have u:Z2 r (p.getD 0 0) (p.getD (m - 1) 0)=true:=decide_eq_true f;rw[u];show Asks n (Z2 r) (ite _ _ _) _;rw[if_pos rfl];exact⟨a,by omega,h,c⟩
  ·rw[if_neg k];have w:m=1:=by omega
   subst w;have s:=d (by omega);refine Asks.bind (aKw h g (n - 2) 2 (by omega) (by omega) ?_) λz ⟨z1,z2,z3,z4,z5⟩=>?_
   ·intro i j x l;have v:i=0:=by omega
    have l:j=1:=by omega
    subst v;subst l;exact s
   ·obtain⟨q,o,t⟩:=z;simp only at z1 z2 z3 z4 z5;subst z1;subst z2;rw[if_neg (by simp)];exact bZj h g (by show 1<=o;omega) (by show o<=n;omega) z5
theorem aXA(h:Ok n p)(g:Inj n r){k:Nat}(s:k<n)(b:Srt r p k):∀ (f l u:Nat),l<=u->u<=k->u - l<=f->(∀i,i<l->R r p i<R r p k)->(∀i,u<=i->i<k->R r p k<R r p i)->
  Asks n (Z2 r) (kas_place p k f l u) (λo=>o<=k/\(∀i,i<o->R r p i<R r p k)/\∀i,o<=i->i<k->R r p k<R r p i)
 |0,l,u,h1,h2,h3,h4,h5=>⟨by omega,h4,λi q a=>h5 i (by omega) a⟩
 |f+1,l,u,h1,h2,h3,h4,h5=>by
  unfold kas_place;by_cases c:l≥u
  ·rw[if_pos c];exact⟨by omega,h4,λi q a=>h5 i (by omega) a⟩
  ·rw[if_neg c];refine⟨h.lt (by omega) _,h.lt (by omega) _,?_⟩;have w:(l+u) / 2<u:=by omega
   have hl:l<=(l+u) / 2:=by omega
   by_cases d:r (p.getD k 0)<r (p.getD ((l+u) / 2) 0)
   ·have e:Z2 r (p.getD k 0) (p.getD ((l+u) / 2) 0)=true:=decide_eq_true d;rw[e];show Asks n (Z2 r) (ite _ _ _) _;rw[if_pos rfl];refine aXA h g s b f l _ hl (by omega) (by omega) h4 λi q a=>?_;have t:R r p k<R r p ((l+u) / 2):=d;by_cases m:i=(l+u) / 2
    ·rw[m];exact t
    ·have:=b ((l+u) / 2) i (by omega) a;omega
   ·have e:Z2 r (p.getD k 0) (p.getD ((l+u) / 2) 0)=false:=decide_eq_false d;rw[e];show Asks n (Z2 r) (ite _ _ _) _;rw[if_neg (by decide)];have t:¬R r p k<R r p ((l+u) / 2):=d;have v:=h.rne g (i:=k) (j:=(l+u) / 2) (by omega) (by omega) (by omega);refine aXA h g s b f _ u (by omega) h2 (by omega) (λi q=>?_) h5;by_cases m:i=(l+u) / 2
    ·rw[m];omega
    ·have:=b i ((l+u) / 2) (by omega) (by omega);omega
theorem bV2{k l:Nat}(h:k<p.size)(hl:l<=k)(i:Nat):R r (bubble p k (k - l)) i=if i=l then R r p k else if l<i/\i<=k then R r p (i - 1)else R r p i:=by
 have e:=getElem?_bubble h (k - l) (by omega) i;rw[show k - (k - l)=l by omega]at e;have d:∀q:Array Nat,∀a b:Nat,∀c:Array Nat,q[a]? =c[b]? ->R r q a=R r c b:=λq a b c z=>by unfold R;rw[aXr,aXr,z]
 by_cases f:i=l
 ·rw[if_pos f]at e ⊢;exact d _ _ _ _ e
 ·rw[if_neg f]at e ⊢;by_cases g:l<i/\i<=k
  ·rw[if_pos g]at e ⊢;exact d _ _ _ _ e
  ·rw[if_neg g]at e ⊢;exact d _ _ _ _ e
theorem bZy(q:Inj n r):∀ (f k:Nat)(p:Array Nat),Ok n p->k+f=n->Srt r p k->Asks n (Z2 r) (kas_bin f p k) (λm=>Ok n m/\Srt r m n)
 |0,k,p,h,e,hs=>⟨h,by rw[<- e];exact hs⟩
 |f+1,k,p,h,e,hs=>by
  refine Asks.bind (aXA h q (k:=k) (by omega) hs k 0 k (by omega) (bYh _) (by omega) (λi d=>absurd d (by omega)) (λi d b=>absurd b (by omega))) λl ⟨h1,h2,h3⟩=>?_;refine bZy q f (k+1) _ ⟨(cJg.mp (bubble_perm p k _)).trans h.perm⟩ (by omega) λi j t u=>?_;have g:k<p.size:=by rw[h.size];omega
  rw[bV2 g h1,bV2 g h1];by_cases s:i=l
  ·rw[if_pos s];by_cases a:j=l
   ·omega
   ·rw[if_neg a,if_pos ⟨by omega,by omega⟩];exact h3 _ (by omega) (by omega)
  ·rw[if_neg s];by_cases a:j=l
   ·rw[if_pos a,if_neg (by omega)];exact h2 i (by omega)
   ·rw[if_neg a];by_cases o:l<i/\i<=k
    ·rw[if_pos o,if_pos ⟨by omega,by omega⟩];exact hs _ _ (by omega) (by omega)
    ·rw[if_neg o];by_cases c:l<j/\j<=k
     ·rw[if_pos c];by_cases cl:i=j - 1
      ·omega
      ·exact hs _ _ (by omega) (by omega)
     ·rw[if_neg c];exact hs _ _ (by omega) (by omega)
theorem bVH(a:Inj n r)(b:1<=n):Asks n (Z2 r) (kas_sort n) (λp=>Ok n p/\Srt r p n):=by
 have h0:Ok n (cQj (bYn n)):=⟨by simp⟩;refine Asks.bind (bQD h0 a b) λz ⟨h1,h2,h3,h4⟩=>?_;by_cases c:z.1<n
 ·rw[if_pos c,Nat.max_eq_left h1];exact bZy a _ _ _ h3 (by omega) h4
 ·rw[if_neg c];exact⟨h3,by rw[show n=z.1 by omega];exact h4⟩
theorem aZP(g:Inj n r)(e:1<=n):Asks n (Z2 r) (kas_sort n) (λp=>p.toList.Perm (bYn n)/\p.toList.Pairwise (λi j=>r i<r j)):=by
 refine aX4.Asks.mono (bVH g e) λp ⟨h1,h2⟩=>⟨h1.perm,?_⟩;rw[cXG];intro i j f d b;have c:i<p.size:=by simpa using f
 have a:j<p.size:=by simpa using d
 have z:=h2 i j b (by rw[<- h1.size];exact a);simpa[R,cXF,c,a]using z
end
end Stree
namespace Stree
open PySem PySem.W PySem.Calls PyProof.Rows
section
variable {prog:bYx}{w:bYD}{A:bYO}{E:bYa->bYd->Prop}
theorem aZe{f:bYa}{vs:List bYa}{kS:Nat}{J:List bYa->bYd->Prop}{body:bYa->PUnit->Sem (ForInStep PUnit)}
  (e:∀a s v,J a s->vs[a.length]? =some v->bYi (bYk prog w) A (body v ⟨⟩) (λr b=>r= .yield ⟨⟩/\∃k,J (a++ [k]) b) E s):
  ∀ (r a:List bYa)(s:bYd),vs.drop a.length=r->a.length<=vs.length->J a s->bYi (bYk prog w) A (forIn r PUnit.unit body) (λ_ b=>∃a,a.length=vs.length/\J a b) E s
 |[],a,s,hr,hle,hJ=>by rw[List.forIn_nil];refine bYg ⟨a,?_,hJ⟩;have:=congrArg cXH hr;rw[List.length_drop]at this;simp at this;omega
 |v::r,a,s,hr,hle,hJ=>by
  rw[cZQ];have d:vs[a.length]? =some v:=by have:=congrArg (λl=>l[0]?) hr;simpa using this
  have g:a.length<vs.length:=by
   rcases cZa a.length vs.length with h|h
   ·exact h
   ·rw[bYL h]at d;cases d
  refine bYb (cQc (e a s v hJ d) (λq b i=>?_) λ_ _ x=>x);obtain⟨rfl,k,c⟩:=i;show bYi (bYk prog w) A (forIn r PUnit.unit body) _ E b;refine aZe (kS:=kS) (f:=f) e r (a++ [k]) b ?_ (by rw[bYy,cQm];omega) c;rw[bYy,cQm,List.drop_add_one_eq_tail_drop,hr];rfl
theorem bWT{s:bYd}{a:Nat}{vs:List bYa}{f:bYa}{b:Bool}{P:PySem.Fin->bYd->Prop}{n0:Nat}(Z:s.heap.get? a=some (bYZ "list" vs.toArray n0))(a7:vs.length<64)(J:Nat->List bYa->bYd->Prop) (h0:∀n q,(∀c o,c≠a->s.heap.get? c=some o->q.get? c=some o)->q.get? a=some (bYZ "list" #[] n)->q.get? (s.heap.objs.size+1)=some (bYZ "list" #[] 0)->J n [] {s with heap:=q}) (hget:∀n g l,J n g l->(∃e,l.heap.get? (s.heap.objs.size+1)=some (bYZ "list" g.toArray e))/\l.heap.get? a=some (bYZ "list" #[] n)) (hcall:∀n g l v,J n g l->vs[g.length]? =some v->bYi (bYk prog w) A (call f [v]) (λk m=>(∃e,m.heap.get? (s.heap.objs.size+1)=some (bYZ "list" g.toArray e))/\ ∀q c,cXe (s.heap.objs.size+1) m.heap q->q.get? (s.heap.objs.size+1)=some (bYZ "list" (g++ [k]).toArray c)->J n (g++ [k]) {m with heap:=q}) (λ_ _=>False) l) (hend:∀n g l,J n g l->g.length=vs.length->∃r:Nat->Int,Inj vs.length r/\ (2<=vs.length->∃κ,(∀Q:SortKind->bYd->Prop,Q κ l->bYi (bYk prog w) A (keyKind' g.toArray) Q (λ_ _=>False) l)/\∀i j C,i<vs.length->j<vs.length->C (decide (r i<r j)) l->kas_ask prog w A κ (katRev b g) i j C l)/\ ∀ (p:List Nat) q c y,p.Perm (bYn vs.length)->p.Pairwise (λi j=>r i<r j)->(∀d,d≠a->d≠s.heap.objs.size+1->q.get? d=l.heap.get? d)->q.get? (s.heap.objs.size+1)=some (bYZ "list" #[] c)-> q.get? a=some (bYZ "list" (katRev b (p.map λi=>(katRev b vs).getD i Value.none)).toArray y)->P (.done (.ret .none)) {l with heap:=q}): bYi (bYk prog w) A (ksk_tree a f b) P E s:=by
 have ha:a<s.heap.objs.size:=bYo Z;have O:a≠s.heap.objs.size+1:=bYA (cQk ha);obtain⟨n,U⟩:∃n,(s.heap.update a (bY4 λ_=>(#[]:Array bYa))).get? a=some (bYZ "list" #[] n):=⟨_,cX1 Z λ_=> #[]⟩;have R:((s.heap.update a (bY4 λ_=>(#[]:Array bYa))).push (bYZ "tuple" vs.toArray 0)).objs.size=s.heap.objs.size+1:=by rw[size_push',Heap.size_update]
 unfold ksk_tree;refine bYb (listItems_at Z rfl ?_);refine bYb (cZo Z rfl ?_ (by rw[bYs,bYJ];omega) (bY7 _));refine bYb (seqEpoch_at U rfl ?_);refine bYb (wpAny_newTuple ?_ (by show vs.length<=_;rw[bYJ];omega));refine bYb (cZr ?_ (bY7 _));refine cQs ?_;have J0:=h0 n (((s.heap.update a (bY4 λ_=>(#[]:Array bYa))).push (bYZ "tuple" vs.toArray 0)).push (bYZ "list" #[] 0))
  (λc o hc e=>bYf _ (bYf _ ((bYK _ _ (bYU hc)).trans e)))
  (bYf _ (bYf _ U)) (by rw[<- R];exact bYE _ rfl)
 show bYi _ _ (ksk_rest a f b vs.toArray n (.ref ((s.heap.update a (bY4 λ_=>(#[]:Array bYa))).push (bYZ "tuple" vs.toArray 0)).objs.size)) _ _ _;rw[R];unfold ksk_rest;refine bYb (wpAny_rule ?_);first
  |rw[List.forIn_toArray]
  |(rw[<- Array.forIn_toList];simp only[cZ2])
  |rw[<- Array.forIn_toList]
 refine bYb (cQc (aZe (f:=f) (kS:=s.heap.objs.size+1) (J:=J n) (vs:=vs) (λg l v Y hv=>?_) vs [] _ (by simp) (bY7 _) J0) (λ_ l hd=>?_) λ_ _ x=>x)
 ·have b2:g.length<vs.length:=by
   rcases cZa g.length vs.length with h|h
   ·exact h
   ·rw[bYL h]at hv;cases hv
  refine bYb (cZq (cQc (hcall n g l v Y hv) (λk m hk=>?_) λ_ _ hF=>hF.elim));obtain⟨⟨e,nk⟩,c⟩:=hk;have s1:=cQC m.heap (s.heap.objs.size+1) (bY4 (·.push k));have ea:(cQj g).push k=cQj (g++ [k]):=by simp
  obtain⟨y,H⟩:∃y,(m.heap.update (s.heap.objs.size+1) (bY4 (·.push k))).get? (s.heap.objs.size+1)=some (bYZ "list" (cQj (g++ [k])) y):=⟨_,by rw[<- ea];exact cX1 nk (·.push k)⟩;try dsimp only
  refine bYb (cZo nk rfl ?_ (by rw[bYs,bYJ];omega) (bYQ (cXN (Array.size_push ..)) (by rw[bYs,bYJ];omega)));exact bYg ⟨rfl,k,c _ y s1 H⟩
 ·obtain⟨g,hl,Y⟩:=hd;obtain⟨⟨e,G⟩,a6⟩:=hget n g l Y;try dsimp only
  refine bYb (listItems_at G rfl ?_);obtain⟨r,hr,T,S⟩:=hend n g l Y hl;have step:∀t:Sem PySem.Fin,bYi (bYk prog w) A t P E l->bYi (bYk prog w) A (if b=true then(do let _ <- rule "list.sort.reverse";t)else t) P E l:=by
   intro t ht;split
   ·exact bYb (wpAny_rule ht)
   ·exact ht
  have I:(katRev b g).length=(katRev b vs).length:=by rw[kat_len,kat_len,hl]
  have D:∀ (X:SortSt)(p:List Nat),p.Perm (bYn vs.length)->p.Pairwise (λi j=>r i<r j)->(arrOf X).map (·.2)=cQj (p.map λi=>(katRev b vs).getD i Value.none)->failedOf X=none->
    bYi (bYk prog w) A (ksk_tail a b n (.ref (s.heap.objs.size+1)) X) P E l:=by
   intro X p B F M hf
   have a0:p.length=vs.length:=by rw[B.length_eq,bYW]
   obtain⟨ck,a5⟩:∃ck,(l.heap.update (s.heap.objs.size+1) (bY4 λ_=>(#[]:Array bYa))).get? (s.heap.objs.size+1)=some (bYZ "list" #[] ck):=⟨_,cX1 G λ_=> #[]⟩
   have na:(l.heap.update (s.heap.objs.size+1) (bY4 λ_=>(#[]:Array bYa))).get? a=some (bYZ "list" #[] n):=(bYK _ _ (bYU O)).trans a6
   obtain⟨y,H⟩:∃y,((l.heap.update (s.heap.objs.size+1) (bY4 λ_=>(#[]:Array bYa))).update a (bY4 λ_=>cQj (katRev b (p.map λi=>(katRev b vs).getD i Value.none)))).get? a=some (bYZ "list" (cQj (katRev b (p.map λi=>(katRev b vs).getD i Value.none))) y):=
    ⟨_,cX1 na λ_=>cQj (katRev b (p.map λi=>(katRev b vs).getD i Value.none))⟩
   have a9:(cQj (katRev b (p.map λi=>(katRev b vs).getD i Value.none))).size=vs.length:=by rw[bYs,kat_len,bYe,a0]
   unfold ksk_tail
   try dsimp only
   rw[M,kat_outs]
   refine bYb (cZo G rfl ?_ (by rw[bYs,bYJ];omega) (bY7 _))
   refine bYb (wpAny_letGo ?_)
   refine bYb (seqEpoch_at na rfl ?_)
   refine bYb (cZo na rfl ?_ (bY7 _) (bYQ (cXN a9) (by rw[bYJ];omega)))
   rw[hf]
   simp only[bne_self_eq_false,Bool.false_eq_true,if_false]
   refine bYg (S p _ ck y B F (λd h1 z=>?_) ?_ H)
   ·exact(bYK _ _ (bYU h1)).trans (bYK _ _ (bYU z))
   ·exact(bYK _ _ O).trans a5
  unfold ksk_end;try dsimp only
  refine step _ ?_;rw[kat_pairs b hl];by_cases z:vs.toArray.size<2
  ·rw[if_pos z,if_pos z];refine bYb (bYg ?_);refine bYb (bYg ?_);have K:vs.length<2:=by rw[bYs]at z;exact z
   refine D _ (bYn vs.length) (List.Perm.refl _) ?_ ?_ rfl
   ·rw[cXG];intro i j W hj b1;rw[bYW]at W hj;omega
   ·show((cQj (katRev b g)).zip (cQj (katRev b vs))).map (·.2)=_;apply Array.toList_inj.mp;rw[Array.toList_map,Array.toList_zip];simp only[cZ2];have n:(List.zip (katRev b g) (katRev b vs)).map (·.2)=katRev b vs:=List.map_snd_zip (cXN I.symm);rw[n];apply cXq;intro i;rw[bYu];by_cases W:i<vs.length
    ·have L:i<(katRev b vs).length:=by rw[kat_len];exact W
     rw[cQU W];simp[bYX,bK9 L]
    ·have L:(katRev b vs).length<=i:=by rw[kat_len];omega
     rw[bYL L,bYL (by rw[bYW];omega)];rfl
  ·have K:2<=vs.length:=by rw[bYs]at z;omega
   rw[if_neg z,if_neg z];obtain⟨κ,hκ,V⟩:=T K;refine bYb (cQc (hκ (λk m=>k=κ/\m=l) ⟨rfl,rfl⟩) (λk m hq=>?_) λ_ _ x=>x.elim);obtain⟨rfl,rfl⟩:=hq;have b0:(kas_sort (katRev b vs).length).kasWp (kas_ask prog w A k (katRev b g)) (λp N=>N=m/\p.toList.Perm (bYn vs.length)/\p.toList.Pairwise (λi j=>r i<r j)) m:=by rw[kat_len];exact Asks.wp (lt:=Z2 r) V (aZP hr (by omega)) λp hp=>⟨rfl,hp⟩
   refine bYb (cQc (kat_run (Q:=λu N=>∃p:Array Nat,arrOf u=p.map (kas_item ((cQj (katRev b g)).zip (cQj (katRev b vs))))/\failedOf u=none/\
     N=m/\p.toList.Perm (bYn vs.length)/\p.toList.Pairwise (λi j=>r i<r j))
    I (by rw[kat_len];exact K) (by rw[kat_len];exact a7) (λp' u N a1 a2 a3 a4=>⟨p',a2,a3,a4⟩) b0) ?_ λ_ _ x=>x)
   rintro⟨⟨⟩,u⟩ N ⟨p,a8,hf,rfl,B,F⟩;try dsimp only
   exact D _ p.toList B F (kat_snds I a8) hf
end
end Stree
namespace L2
open PySem PySem.Spec PyProof.Rows
abbrev bW7(X:Cx)(A:bYO)(N:List Str)(qual:Str)(sc:cXo)(L q:Nat)(cd:bYa)(cl:List (Str×Nat))(s:bYd)(H:Hp):Cx:=
 {X with A:=A.deeper (PySem.W.envX qual sc L q cd cl),N:=N,s₀:=s,H₀:=H,env:=PySem.W.envX qual sc L q cd cl,outer:=X.stack,stack:=PySem.W.envX qual sc L q cd cl::X.stack,ex:= [],fn:=λ_=>false,calm:=true,pn:= [],xe:=λ_ _=>False}
section
variable {X:Cx}{pins:List (Nat×Obj)}{σ:St}{H:Hp}{s:bYd}
theorem bQV{A:bYO}{x:Str}{names:List Str}{M:List Nat}{f:cXo}{cl:List (Str×Nat)}{name qual:Str}{d:Arguments}{body:Expr}{pm R:bYa}{q n:Nat}{te:TE}{v:V}{u:bYa}{Q:VK} (I:Inv X pins σ H s) (hA:A.frames=some X.stack) (hd:A.handled=none) (F:A.depth<recursionLimit) (S:xJ X.N X.env.scope x names M f) (a1:f.isCoroutine=false) (P:f.isGenerator=false) (a:∀y c,cl.lookup y=some c->X.env.cells.lookup y=some c) (C:∀y,(y,NameKind.free)∈f.names->∃c,cl.lookup y=some c) (ho:s.heap.get? q=some (cXn name qual d body f cl pm n R)) (a0:s.heap.CodeRec (.ref n) qual) (E:∀u:bYa,bindArgs (PySem.W.kla_fn name qual d body f cl pm (.ref n) R) ⟨[u],[]⟩=pure [(x,u)]) (he:∀A L cd s H,PE (bW7 X A (x::names) qual f L q cd cl s H) body te) (r:zH v u) (h:te (sub σ M (some v)) H Q): bYi (bYk X.prog X.w) A (call (.ref q) [u]) (EP X pins σ Q) (λ_ _=>False) s:=by
 have a2:cXr (bYk X.prog X.w) A (.call (.ref q) ⟨[u],[]⟩) (λr s'=>match r with|.ok (.ret u)=>EP X pins σ Q u s'|_=>False) s:=by
  refine PySem.W.kla_callFunE F ho rfl a1 P rfl a0 ?_;rw[E u];refine bYg (wpAny_newFunctionEnv S.nocell (λy hy=>by rw[bYr.mp hy];exact S.var) (λB a4 a5=>?_) S.kind);have keep:∀b o,s.heap.get? b=some o->B.get? b=some o:=λb o e=>a5.extBut b o (bYA (bYo e)) (bYf _ e);refine⟨I.nolimit.keeps keep,?_⟩;show cXr _ _ (.expr body (PySem.W.envX qual f s.heap.objs.size q (.ref n) cl)) _ _;have a3:(bW7 X A (x::names) qual f s.heap.objs.size q (.ref n) cl s H).Ok:=by
   refine⟨I.ok.mod,S.kind,rfl,rfl,bYh _,?_,?_,?_,λ_=>hd,Around.frames_deeper hA,.inr ⟨rfl,rfl⟩,?_,I.bs,bYQ I.ok.bsz I.sz,?_,?_,I.stack,I.stkFree⟩
   ·exact λy z c T U=>I.ok.inj y z c (a y c T) (a z c U)
   ·intro y hy;have g:f.names.lookup y=some .cell\/f.names.lookup y=some .free:=hy;rcases g with g|g
    ·exact absurd rfl (S.nocell _ (cQD g))
    ·exact C y (cQD g)
   ·exact λy c h _=>by cases h
   ·exact λb E=>absurd (show b∈([]:List Nat)from E) (by simp)
   ·exact λb o _ E=>absurd (show b∈([]:List Nat)from E) (by simp)
   ·exact λb E=>absurd (show b∈([]:List Nat)from E) (by simp)
  have IY:Inv (bW7 X A (x::names) qual f s.heap.objs.size q (.ref n) cl s H) [] (sub σ M (some v)) H {s with heap:=B,toks:=s.toks+ [(x,u)].length}:=by
   refine⟨a3,rfl,I.bare,Un.kept keep,⟨_,a4,?_⟩,?_,I.hok.fresh (bYh _),λy c e=>I.freeC y c (a y c e),λp hp=>absurd (show p∈([]:List (Nat×Obj))from hp) (by simp),I.hok.kept keep,?_⟩
   ·intro i y t T U h3;cases i with
    |zero=>
     have D:x=y:=by simpa using T
     have G:v=t:=by have z:(some (some v):Option (Option V))=some (some t):=U;cases z;rfl
     subst D;subst G;exact⟨u,r,.inl ⟨S.var,by simp[cXv]⟩⟩
    |succ j=>
     have D:names[j]? =some y:=T;obtain⟨Y,e1,e2,Z⟩:=S.from_ j y D;have G:σ[Y]? =some (some t):=by
      have z:(M.map λi=>(σ[i]?).join)[j]? =some (some t):=U;rw[bYu,e1]at z;have l:(σ[Y]?).join=some t:=bYw z;cases q:σ[Y]? with
      |none=>rw[q]at l;cases l
      |some o=>rw[q]at l;rw[show o=some t from l]
     obtain⟨m,hn,hl⟩:=I.loc;have O:Vis X.env.scope y:= .inr (S.free _ Z rfl);obtain⟨u',ru,lk⟩:=hl Y y t e2 G O;refine⟨u',ru,.inr ⟨?_,?_⟩⟩
     ·exact .inr (S.flk _ Z rfl)
     ·rcases lk with⟨k,_⟩|⟨k,c,e,z⟩
      ·rcases S.free _ Z rfl with z|z
       ·have l:X.env.kindOf y=some .cell:=z;rw[k]at l;cases l
       ·have l:X.env.kindOf y=some .free:=z;rw[k]at l;cases l
      ·obtain⟨n,e'⟩:=C y Z;have:=a y n e';rw[e]at this;cases this;exact⟨c,e',z.keeps keep⟩
   ·intro y c e;obtain⟨v,z⟩:=I.cell y c (a y c e);exact⟨v,z.keeps keep⟩
   ·show(sub σ M (some v)).length=(x::names).length;simp[sub,S.len]
  refine PySem.W.kla_codeExpr (cQc (he A s.heap.objs.size (.ref n) s H [] _ (sub σ M (some v)) H Q IY h) (λw s' K=>?_) (λ_ _ z=>z.elim));obtain⟨t,H',J,rv,q⟩:=K;exact I.after ⟨t,H',J.os,J.bare,J.base,J.hok,rv,q⟩
 refine cZl (cQ4 a2 λr s' K=>?_);cases r with
 |error e=>exact K
 |ok fl=>
  cases fl with
  |ret u=>exact K
  |next=>exact K
  |brk=>exact K
  |cont=>exact K
end
end L2
namespace L2
open PySem PySem.Spec PyProof.Rows
def aKp(c:Nat)(qual:Str):HO:= .ext λh=>h.CodeRec (.ref c) qual
def bWs(q:Nat)(o:Obj):HO:= .ext λh=>h.get? q=some o
theorem bQC{P:bYx}{w:bYD}{H:Hp}{h:Heap}{c:Nat}{qual:Str}(r:h.CodeRec (.ref c) qual):zA P w H h c (aKp c qual):=by
 obtain⟨q,o,n,t,e,b,g,p⟩:=id r;cases e;refine⟨r,⟨o,b⟩,λb g z k=>?_⟩;obtain⟨s,i,a,d,m,f,j,l⟩:=z;cases m;exact⟨_,i,a,d,rfl,k _ f,j,l⟩
theorem aK2{P:bYx}{w:bYD}{H:Hp}{h:Heap}{q:Nat}{o:Obj}(r:h.get? q=some o):zA P w H h q (bWs q o):=⟨r,⟨o,r⟩,λa b z k=>k _ z⟩
def qW(pos:Pos)(qual:Str)(P:Nat)(H:Hp):Prop:=
 H P=some (.tbl #[])\/∃a,H P=some (.tbl (#[]++ #[cQq pos.line,cQq pos.col,.ref a]))/\H a=some (aKp a qual)
def x0(H c:Hp):Prop:=∀b o,(∀a,o≠ .tbl a)->H b=some o->c b=some o
theorem xA.t{H a:Hp}(k:xA H a):x0 H a:=λb o _ e=>k b o e
theorem x0.refl(H:Hp):x0 H H:=λ_ _ _ e=>e
theorem x0.trans{H f d:Hp}(a:x0 H f)(b:x0 f d):x0 H d:=λc o n e=>b c o n (a c o n e)
theorem x0.lst{H b:Hp}(k:x0 H b){a:Nat}{xs:List V}(h:H a=some (.lst xs)):b a=some (.lst xs):=k a _ (λ_ z=>nomatch z) h
theorem x0.tup{H b:Hp}(k:x0 H b){a:Nat}{xs:List V}(h:H a=some (.tup xs)):b a=some (.tup xs):=k a _ (λ_ z=>nomatch z) h
theorem x0.ext{H b:Hp}(k:x0 H b){a:Nat}{φ:Heap->Prop}(h:H a=some (.ext φ)):b a=some (.ext φ):=k a _ (λ_ z=>nomatch z) h
theorem x0.seq{K:bYc}{H b:Hp}{a:Nat}{xs:List V}(k:x0 H b)(h:SqL K H a xs):SqL K b a xs:=by
 rcases h with h|h
 ·rcases h with h|⟨o,h⟩
  ·exact .inl (.inl (k.lst h))
  ·exact .inl (.inr ⟨o,k a _ (λ_ z=>nomatch z) h⟩)
 ·exact .inr h
theorem aJ8:PySem.TriplesOk (#[]:Array bYa).toList:=trivial
theorem aJ9{a b:Int}{v:bYa}:PySem.TriplesOk ((#[]++ #[cQq a,cQq b,v]:Array bYa)).toList:=trivial
theorem aKi{pos:Pos}{v:bYa}:codeAmong pos ((#[]++ #[cQq pos.line,cQq pos.col,v]:Array bYa)).toList=some v:=by
 show(if((pos.line:Int)==pos.line && (pos.col:Int)==pos.col)=true then some v else _)=some v;simp
section
variable {X:Cx}{pins:List (Nat×Obj)}{σ:St}{H:Hp}{s:bYd}
theorem Inv.tab{P:Nat}{d more:Array bYa}{h':Heap}{t':Nat}(I:Inv X pins σ H s)(h:H P=some (.tbl d))(f:cZH P s.heap h')(j:h'.get? P=some {cls:= .none,data:= .fields (d++more) }): Inv X pins σ (upd H P (.tbl (d++more))) {s with heap:=h',toks:=t'}:=by
 have i:∀b,H b=none->b≠P:=λb n z=>by rw[z,h]at n;cases n
 have ne:∀b o,H b=some o->(∀d,o≠ .tbl d)->b≠P:=λb o e n z=>by subst z;rw[h]at e;cases e;exact n _ rfl
 refine I.un (t':=t') ⟨λb o e n _ _=>f b o (i b n) e,λb o e n _ _=>⟨o.slots,f b o (i b n) e⟩,λb o e n _=>by rw[yJ (i b n)];exact n,λb o e _=>?_,λb k e=>?_,λb o u e=>?_,λb l e=>?_⟩ λb u e=>?_
 ·by_cases a:b=P
  ·exact⟨_,by rw[a];exact j⟩
  ·exact⟨o,f b o a e⟩
 ·rw[yJ (ne b _ e λ_ z=>nomatch z)];exact e
 ·rw[yJ (ne b _ e λ_ z=>nomatch z)];exact e
 ·by_cases a:b=P
  ·subst a;rw[h]at e;cases e;exact⟨more,yB⟩
  ·exact⟨#[],by rw[yJ a,e];simp⟩
 ·by_cases a:b=P
  ·subst a;rw[yB]at e;cases e;exact j
  ·rw[yJ a]at e;refine(I.hok b u e).stay (λc v g q=>f c v ?_ q) (λc q=>?_) λc k q=>?_
   ·rcases g with rfl|g
    ·exact a
    ·exact ne c _ g λ_ z=>nomatch z
   ·rw[yJ (ne c _ q λ_ z=>nomatch z)];exact q
   ·rw[yJ (ne c _ q λ_ z=>nomatch z)];exact q
theorem bQW{name qual:Str}{d:Arguments}{body:Expr}{r:cXo}{c P:Nat}{pos:Pos}{fl:Nat}{cl:List (Str×Nat)}{E:bYa->bYd->Prop}{Q:bYa->bYd->Prop}(I:Inv X pins σ H s)(J:closureFor r X.env=pure cl)(l:X.env.code= .ref c) (C:cXg X.base c P) (hB:X.base.BuiltinsAt X.mg P) (hT:qW pos qual P H) (hq:∀ (q f:Nat)(g:bYa)(B:Hp)(s':bYd),Inv X pins σ B s'->H q=none->B q=some (bWs q (cXn name qual d body r cl ((X.mg "__name__").getD .none) f g))->B f=some (aKp f qual)->qW pos qual P B->x0 H B->Q (.ref q) s'): bYi (bYk X.prog X.w) X.A (makeFunction name qual d (.expr body) r X.env [] [] [] pos fl) Q E s:=by
 have U:s.heap.Ns bYG X.mg:=I.ok.mod.glob.keeps I.bk;have hC:=C.keeps I.bk;obtain⟨bm,ob,b1,b2,b3,b4,b5,b6⟩:=hB;have G:s.heap.BuiltinsAt X.mg P:=⟨bm,ob,b1,b2,b3,b4,I.bk _ _ b5,b6⟩;rcases hT with p|⟨f,p,F⟩
 ·have j:s.heap.get? P=some (cXK #[]):=I.hok P _ p;have a0:bYG≠P:=λz=>by
   obtain⟨o,es,ep,e,hd,_⟩:=U;rw[z,j]at e;cases e;cases hd
  refine PySem.W.kla_makeFunction (mg:=X.mg) J I.ok.glob U l hC j aJ8 rfl a0 G λf g h tk M m R K x=>?_;have S:=I.tab (t':=tk) p M x;have y:P≠f:=bYA (bYC (bYo j) m);have nc:H f=none:=I.hok.fresh m;have O:upd H P (.tbl (#[]++ #[cQq pos.line,cQq pos.col,.ref f])) f=none:=by rw[yJ (bYU y)];exact nc
  have I2:Inv X pins σ (upd (upd H P (.tbl (#[]++ #[cQq pos.line,cQq pos.col,.ref f]))) f (aKp f qual)) {s with heap:=h,toks:=tk}:=by
   have a1:cZH P s.heap h:=M;have nP:∀b,H b=none->b≠P:=λb n z=>by rw[z,p]at n;cases n
   have ne:∀b o,H b=some o->(∀ps,o≠ .tbl ps)->b≠P:=λb o e n z=>by subst z;rw[p]at e;cases e;exact n _ rfl
   have V:∀b o,s.heap.get? b=some o->b≠f:=λb o e=>bYA (bYC (bYo e) m);have T:∀b,b≠P->b≠f->upd (upd H P (.tbl (#[]++ #[cQq pos.line,cQq pos.col,.ref f]))) f (aKp f qual) b=H b:=λb Z h2=>by rw[yJ h2,yJ Z]
   have hl:∀b u,H b=some u->b≠f:=λb u e=>yK e nc;refine I.un (t':=tk) ⟨λb o e n _ _=>M b o (nP b n) e,λb o e n _ _=>⟨o.slots,M b o (nP b n) e⟩,λb o e n _=>by rw[T b (nP b n) (V b o e)];exact n,λb o e _=>?_,λb xs e=>?_,λb o u e=>?_,λb qs e=>?_⟩ λb u e=>?_
   ·by_cases L:b=P
    ·exact⟨_,by rw[L];exact x⟩
    ·exact⟨o,M b o L e⟩
   ·rw[T b (ne b _ e λ_ z=>nomatch z) (hl b _ e)];exact e
   ·rw[T b (ne b _ e λ_ z=>nomatch z) (hl b _ e)];exact e
   ·by_cases L:b=P
    ·subst L;rw[p]at e;cases e;exact⟨_,by rw[yJ y];exact yB⟩
    ·exact⟨#[],by rw[T b L (hl b _ e),e];simp⟩
   ·by_cases D:b=f
    ·subst D;rw[yB]at e;cases e;exact bQC K
    ·rw[yJ D]at e;refine(S.hok b u e).stay (λc v _ q=>q) (λc q=>?_) λc xs q=>?_
     ·rw[yJ (yK q O)];exact q
     ·rw[yJ (yK q O)];exact q
  have i:H h.objs.size=none:=I.hok.fresh (bYQ m (cXO R));have I3:=I2.laid (a:=h.objs.size) (o:=bWs h.objs.size (cXn name qual d body r cl ((X.mg "__name__").getD .none) f g)) (t':=tk) (h':=h.push (cXn name qual d body r cl ((X.mg "__name__").getD .none) f g))
   (λb o e=>bYf _ e) (bYh _) (aK2 (bYE _ rfl))
  have N:f≠h.objs.size:=bYA R;have Y:P≠h.objs.size:=bYA (bYo x);refine hq h.objs.size f g _ _ I3 i yB (by rw[yJ N];exact yB) (.inr ⟨f,by rw[yJ Y,yJ y];exact yB,by rw[yJ N];exact yB⟩) λb o n e=>?_;have Z:b≠P:=λz=>by subst z;rw[p]at e;cases e;exact n _ rfl
  rw[yJ (yK e i),yJ (yK e nc),yJ Z];exact e
 ·have j:s.heap.get? P=some (cXK (#[]++ #[cQq pos.line,cQq pos.col,.ref f])):=I.hok P _ p;refine PySem.W.kla_makeFunctionHit (mg:=X.mg) J I.ok.glob U l hC j aJ9 aKi G λg h tk hk m=>?_;have S:Inv X pins σ H {s with heap:=h,toks:=tk}:=I.kept hk;have i:H h.objs.size=none:=S.hok.fresh (bYh _);have I3:=S.laid (a:=h.objs.size) (o:=bWs h.objs.size (cXn name qual d body r cl ((X.mg "__name__").getD .none) f g)) (t':=tk) (h':=h.push (cXn name qual d body r cl ((X.mg "__name__").getD .none) f g))
   (λb o e=>bYf _ e) (bYh _) (aK2 (bYE _ rfl))
  have k:=yG i (bWs h.objs.size (cXn name qual d body r cl ((X.mg "__name__").getD .none) f g));exact hq h.objs.size f g _ _ I3 i yB (k _ _ F) (.inr ⟨f,k _ _ p,k _ _ F⟩) k.t
end
end L2
namespace Stree
open PySem PySem.W PySem.Calls PyProof.Rows
theorem Q4{α:Type}(p q:α->Bool):∀ (l:List α),(∀a∈l,p a=true->q a=true)->(∃a∈l,p a=false/\q a=true)->l.countP p<l.countP q
 |[],_,h=>by obtain⟨a,b,_⟩:=h;cases b
 |x::r,hs,h=>by
  have e:r.countP p<=r.countP q:=List.countP_mono_left λa b=>hs a (bYm _ b);obtain⟨a,b,c,d⟩:=h;rcases bYj.mp b with rfl|b
  ·rw[cZK,cZK,c,d];simp;omega
  ·have g:=Q4 p q r (λa b=>hs a (bYm _ b)) ⟨a,b,c,d⟩;rw[cZK,cZK];have:=hs x bYp;cases f:p x with
   |false=>cases q x<;> simp<;> omega
   |true=>rw[this f];simp;omega
theorem aJG{n:Nat}(lt:Nat->Nat->Bool)(f:∀i,i<n->lt i i=false)(p:∀i j k,i<n->j<n->k<n->lt i j=true->lt j k=true->lt i k=true)(g:∀i j,i<n->j<n->i≠j->lt i j=true\/lt j i=true): ∃r:Nat->Int,Inj n r/\∀i j,i<n->j<n->decide (r i<r j)=lt i j:=by
 refine⟨λi=>((bYn n).countP λm=>lt m i:Nat),?_,?_⟩
 ·have up:∀i j,i<n->j<n->lt i j=true->((bYn n).countP λm=>lt m i)<((bYn n).countP λm=>lt m j):=λi j a c h=>
   Q4 _ _ _ (λm o d=>p m i j (bYI.mp o) a c d h) ⟨i,bYI.mpr a,f i a,h⟩
  intro i j a c e;by_cases b:i=j
  ·exact b
  ·exfalso;have q:(((bYn n).countP λm=>lt m i:Nat):Int)=((bYn n).countP λm=>lt m j:Nat):=e;rcases g i j a c b with h|h
   ·have:=up i j a c h;omega
   ·have:=up j i c a h;omega
 ·intro i j a c;have up:∀i j,i<n->j<n->lt i j=true->((bYn n).countP λm=>lt m i)<((bYn n).countP λm=>lt m j):=λi j a c h=>
   Q4 _ _ _ (λm o d=>p m i j (bYI.mp o) a c d h) ⟨i,bYI.mpr a,f i a,h⟩
  cases h:lt i j with
  |true=>have:=up i j a c h;exact decide_eq_true (by show(((bYn n).countP λm=>lt m i:Nat):Int)<((bYn n).countP λm=>lt m j:Nat);omega)
  |false=>
   refine decide_eq_false ?_;show ¬ (((bYn n).countP λm=>lt m i:Nat):Int)<((bYn n).countP λm=>lt m j:Nat);by_cases b:i=j
   ·subst b;omega
   ·rcases g i j a c b with l|l
    ·rw[h]at l;cases l
    ·have:=up j i c a l;omega
section
variable {prog:bYx}{w:bYD}{A:bYO}{E:bYa->bYd->Prop}{s:bYd}
theorem aXl{r:Nat}{n:Nat}{t u v:Tok}{Q:List bYa->bYd->Prop}(N:A.handled=none)(J:IsRange s.heap r 0 n 1 t u v)(V:n<64) (M:∀j tk G,(∀b o,s.heap.get? b=some o->j.get? b=some o)->s.heap.objs.size<j.objs.size->cXI G ((bYn n).map Int.ofNat)->Q G {s with heap:=j,toks:=tk}):bYi (bYk prog w) A (collect (.ref r)) Q E s:=by
 have L:Builtin.Range.rangeSize 0 n 1=(n:Int):=by rw[rangeSize_one];split<;> omega
 have D:Builtin.Range.small 0 n 1=true:=small_one (by decide) (by decide) (by omega) (by omega);unfold collect;refine bYb (wpAny_runValue (cXp F.entry_proto_collect ?_));rw[cQ7 F.plain_proto_collect _];show bYi _ A.in1 (newList [] >>=λl=>again (.builtin "list.__iadd__" ⟨[l,.ref r],[]⟩)) _ _ s;refine bYb (cXa ?_);refine bYg ⟨cZp F.plain_list_iadd _,cXp F.entry_list_iadd ?_⟩;rw[cQ7 F.plain_list_iadd _];have d:(s.heap.push {cls:= .type "list",data:= .seq ([]:List bYa).toArray}).get? s.heap.objs.size=some {cls:= .type "list",data:= .seq ([]:List bYa).toArray}:=bYE _ rfl;show bYi _ A.in1 (cZc (.ref s.heap.objs.size) (.ref r) (.ref s.heap.objs.size)) _ _ _;refine cQc (wpAny_extend_range (A:=A) (R:=λq y=>q= .ok (.ret (.ref s.heap.objs.size))/\∃a g,y.heap.get? s.heap.objs.size=some {cls:= .type "list",dict:=none,data:= .seq a g,slots:= #[] }/\Q a.toList y) (s:={s with heap:=s.heap.push {cls:= .type "list",data:= .seq ([]:List bYa).toArray} }) N (bYf _ J) D L (by omega) s.heap.objs.size (.ref s.heap.objs.size) 0 d λj tk a g K p c=>⟨rfl,a,g,p,?_⟩) (λfin y B=>?_) λe y P=>by obtain⟨z,_⟩:=P;cases z
 rotate_left
 ·cases fin with
  |done f=>
   obtain⟨e,a,g,h,m⟩:=B;have S:f= .ret (.ref s.heap.objs.size):=by cases e;rfl
   subst S;exact bYb (wpAny_load h (bYg m))
  |again g=>
   exact⟨B.1,cQ4 B.2 λq U T=>by
    obtain⟨rfl,a,g,h,m⟩:=T;exact bYb (wpAny_load h (bYg m))⟩
 refine M j tk a.toList (λb o e=>K b o (bYA (bYo e)) (bYf _ e)) (bYo p) ?_;have len:a.toList.length=n:=by rw[cQv];exact c.1
 have all:∀ (k:Nat)(l:List bYa),l.length<=n->k+l.length=n->(∀i v,l[i]? =some v->∃t,v=Value.int ((k+i:Nat):Int) t)->cXI l ((List.range' k l.length).map Int.ofNat):=by
  intro k l;induction l generalizing k with
  |nil=>intro _ _ _;exact .nil
  |cons x l O=>
   intro h m H;obtain⟨t,rfl⟩:=H 0 x rfl;rw[bY8,List.range'_succ,bY0];exact .cons _ _ (O (k+1) (by rw[bY8]at h;omega) (by rw[bY8]at m;omega) λi v C=>by
    obtain⟨I,e⟩:=H (i+1) v C;exact⟨I,by rw[e,show k+(i+1)=k+1+i by omega]⟩)
 have z:=all 0 a.toList (by omega) (by omega) λi v C=>by obtain⟨t,e⟩:=c.2 i v (by rw[<- cQI];exact C);exact⟨t,by rw[e,show(0:Int)+(i:Int)*1=((0+i:Nat):Int) by omega]⟩
 rw[len]at z;rw[List.range_eq_range'];exact z
theorem aZQ{r:Nat}{n:Nat}{t u v:Tok}{b:Bool}{f:bYa}{g:List (Str×bYa)}{Q:bYa->bYd->Prop}(G:A.handled=none)(C:IsRange s.heap r 0 n 1 t u v)(D:n<64) (k:argsOk "sorted" ⟨[.ref r],g⟩) (p:∀x,argsOk "list.sort" ⟨[.ref x],g⟩) (B:∀x,cQY.«list.sort» ⟨[.ref x],g⟩=ksk_tree x f b) (h:∀a c tk d,(∀b o,s.heap.get? b=some o->c.get? b=some o)->s.heap.objs.size<=a->c.get? a=some (bYZ "list" d.toArray 0)->cXI d ((bYn n).map Int.ofNat)-> bYi (bYk prog w) A.in1.in1 (ksk_tree a f b) (λfin y=>fin= .done (.ret .none)/\Q (.ref a) y) (λ_ _=>False) {s with heap:=c,toks:=tk}): bYi (bYk prog w) A (call (.builtin "sorted") [.ref r] g) Q E s:=by
 refine call_function_entry_kw kind_sorted plain_sorted entry_sorted k ?_;unfold cQY.«sorted»;refine bYb (m:=checkCount "sorted" 1 1 _) (bYg ?_);refine bYb (aXl (A:=A.in1) (by simpa using G) C D λc tk d F l z=>?_);have H:d.length=n:=by rw[z.length];simp
 refine bYb (cZr ?_ (by rw[bYJ];omega));have i:(c.push (bYZ "list" d.toArray 0)).get? c.objs.size=some (bYZ "list" d.toArray 0):=bYE _ rfl;have j:s.heap.objs.size<=c.objs.size:=cXO l;refine bYb (cQs (wpAny_call_entry_kw slot_list_sort ⟨_,i,rfl⟩ entry_list_sort ?body (p _)));case body=>
  show bYi (bYk prog w) A.in1.in1 (cQY.«list.sort» ⟨[.ref c.objs.size],g⟩) _ _ _;rw[B c.objs.size];refine cQc (h c.objs.size (c.push (bYZ "list" d.toArray 0)) tk d (λb o e=>bYf _ (F b o e)) j i z) (λfin y q=>?_) λ_ _ x=>x.elim;obtain⟨rfl,q⟩:=q;exact⟨_,rfl,bYg ⟨_,rfl,q⟩⟩
end
end Stree
namespace Stree
open PySem PySem.W PySem.Calls PyProof.Rows
def z8(a b:Int×Int):Bool:=decide (a.1<b.1) || (decide (a.1=b.1) && decide (a.2<b.2))
theorem vH(a:Int×Int):z8 a a=false:=by simp[z8]
theorem aXv{a b c:Int×Int}(d:z8 a b=true)(e:z8 b c=true):z8 a c=true:=by
 simp only[z8,Bool.or_eq_true,Bool.and_eq_true,decide_eq_true_eq]at d e ⊢;omega
theorem aXu{a b:Int×Int}(h:a≠b):z8 a b=true\/z8 b a=true:=by
 have c:¬ (a.1=b.1/\a.2=b.2):=λ⟨x,y⟩=>h (Prod.ext x y);simp only[z8,Bool.or_eq_true,Bool.and_eq_true,decide_eq_true_eq];omega
section
variable {prog:bYx}{w:bYD}{A:bYO}{E:bYa->bYd->Prop}{s:bYd}
theorem aJd{a c:Int}{t t':Tok}{Q:Bool->bYd->Prop}(h:Q (a==c) s):bYi (bYk prog w) A (eqBool (.int a t) (.int c t')) Q E s:=
 (L2.bZC (A:=A) (s:=s) (y:= .int a) (x:= .int c) ⟨t,rfl⟩ ⟨t',rfl⟩ rfl rfl) prog w E Q h
theorem aKV{x y:Nat}{i g:Obj}{n k:Nat}{a b c d:Int}{t l q o:Tok}{Q:Bool->bYd->Prop}(r:s.heap.get? x=some i)(dx:i.data= .seq #[.int a t,.int b l] n)(j:s.heap.get? y=some g)(p:g.data= .seq #[.int c q,.int d o] k) (h:Q (z8 (a,b) (c,d)) s):bYi (bYk prog w) A (keyLt' (tuples' true) (.ref x) (.ref y)) Q E s:=by
 refine kat_lt r dx j p ?_;refine kat_cons (aJd ?_);unfold z8 at h;by_cases e:a=c
 ·subst e;simp only[Int.lt_irrefl,decide_false,Bool.false_or,decide_true,Bool.true_and]at h;rw[beq_self_eq_true];refine kat_yes (kat_cons (aJd ?_));by_cases f:b=d
  ·subst f;rw[beq_self_eq_true];refine kat_yes (kat_nil ?_);simpa using h
  ·rw[beq_eq_false_iff_ne.mpr f];refine kat_no (kat_one _ _ ?_);exact lt_int h
 ·rw[beq_eq_false_iff_ne.mpr e];have m:Q (decide (a<c)) s:=by
   have:decide (a=c)=false:=decide_eq_false e;simpa[this]using h
  refine kat_no ?_;exact oneLt_int m
end
end Stree
namespace L2
open PySem PySem.Spec PyProof.Rows
def ixb(b:Bool)(n i:Nat):Nat:=if b=true then n - 1 - i else i
theorem aZl{b:Bool}{n i:Nat}(h:i<n):ixb b n i<n:=by unfold ixb;split<;> omega
theorem bJz{b:Bool}{n i j:Nat}(c:i<n)(a:j<n)(h:ixb b n i=ixb b n j):i=j:=by unfold ixb at h;split at h<;> omega
theorem aXD{α:Type}{b:Bool}{l:List α}{n i:Nat}{d:α}(a:l.length=n)(c:i<n):(cQo b l).getD i d=l.getD (ixb b n i) d:=by
 unfold cQo ixb;split
 ·simp only[bYX];rw[List.getElem?_reverse (by omega),a]
 ·rfl
theorem bWz{n:Nat}{b:Bool}{a:Nat->Int×Int}{r:Nat->Int}{p:List Nat}(m:p.Perm (bYn n))(g:p.Pairwise λi j=>r i<r j)(k:∀i j,i<n->j<n->decide (r i<r j)=Stree.z8 (a (ixb b n i)) (a (ixb b n j))): (cQo b (p.map (ixb b n))).Perm (bYn n)/\(cQo b (p.map (ixb b n))).Pairwise λi j=>Stree.z8 (if b=true then a j else a i) (if b=true then a i else a j)=true:=by
 have f:(p.map (ixb b n)).Pairwise λi j=>Stree.z8 (a i) (a j)=true:=by rw[cZC];have l:∀i∈p,i<n:=λi c=>bYI.mp (m.mem_iff.mp c);refine g.imp_of_mem λ{i j} c hj h=>?_;rw[<- k i j (l i c) (l j hj)];exact decide_eq_true h
 have d:=m.map (ixb b n);cases b with
 |false=>
  have e:ixb false n=id:=by funext i;rfl
  rw[e]at d f ⊢;rw[List.map_id,List.map_id]at d;rw[List.map_id]at f ⊢;exact⟨d,f⟩
 |true=>
  have e:(bYn n).map (ixb true n)=(bYn n).reverse:=by
   apply cXq;intro i;by_cases c:i<n
   ·rw[bYu,cQU c,List.getElem?_reverse (by simpa using c),bYW,cQU (by omega)];rfl
   ·rw[bYL (by simp;omega),bYL (by simp;omega)]
  rw[e]at d;refine⟨(List.reverse_perm _).trans (d.trans (List.reverse_perm _)),?_⟩;show((p.map (ixb true n)).reverse).Pairwise _;rw[List.pairwise_reverse];exact f
def bJc(H:Hp)(b:Nat->Int×Int)(c:List bYa):Prop:=∀i v,c[i]? =some v->∃a,v= .ref a/\H a=some (.tup [.int (b i).1,.int (b i).2])
def bZi(te:TE)(fr:List Nat)(tb:TE)(P:Nat)(lpos:Pos)(qual:Str)(b:Bool):TE:=λσ H Q=>te σ H λv f=>∃n:Nat,v= .int n/\n<64/\qW lpos qual P f/\∃kz:Nat->Int×Int,
 (∀i j,i<n->j<n->kz i=kz j->i=j)/\
 (∀i d,i<n->x0 f d->qW lpos qual P d->∀R:VK,(∀a e,x0 d e->e P=d P->e a=some (.tup [.int (kz i).1,.int (kz i).2])->R (.ref a) e)->tb (sub σ fr (some (.int i))) d R)/\
 ∀H5 l (c:List Nat),x0 f H5->qW lpos qual P H5->f l=none->c.Perm (bYn n)->(c.Pairwise λi j=>Stree.z8 (if b=true then kz j else kz i) (if b=true then kz i else kz j)=true)->H5 l=some (.lst (c.map λi=> .int (i:Nat)))->Q (.ref l) H5
theorem qW.keep{lpos:Pos}{qual:Str}{P:Nat}{H a:Hp}(t:qW lpos qual P H)(k:x0 H a)(e:a P=H P):qW lpos qual P a:=by
 rcases t with t|⟨c,d,b⟩
 ·exact .inl (e.trans t)
 ·exact .inr ⟨c,e.trans d,k.ext b⟩
section
variable {X:Cx}{e body:Expr}{te tb:TE}{x:Str}{names:List Str}{fr:List Nat}{sc:cXo}{params:Arguments}{qual:Str}{p p2 p3 pos lpos kp kp2 bp:Pos}{j:Nat}{b:Bool}{c P:Nat}{k:Nat}
theorem aWI(e7:Gl X "sorted")(g4:X.mg "sorted"=none)(f9:Gl X "range")(e9:X.mg "range"=none)(he:PE X e te)(S:xJ X.N X.env.scope x names fr sc)(d8:sc.isCoroutine=false)(b6:sc.isGenerator=false)
  (b2:X.env.code= .ref c) (C:cXg X.base c P) (hB:X.base.BuiltinsAt X.mg P) (hr:vM (k+1) X.A) (b7:defaultsOf params X.env=([],[])) (hq:X.env.qual++"<lambda>"=qual)
  (hb:∀ (cl:List (Str×Nat))(pm e8 a8 u:bYa),bindArgs (PySem.W.kla_fn "<lambda>" qual params body sc cl pm e8 a8) ⟨[u],[]⟩=pure [(x,u)])
  (a9:∀A L q cd cl s H,PE (bW7 X A (x::names) qual sc L q cd cl s H) body tb) (b1:bYT "sorted"=some (.builtin "sorted"):=dk)
  (s2:bYN [e] X.env= [(false,eval e X.env)]:=by rfl):
  PE X (.Call (.Name "sorted" p) [.Call (.Name "range" p2) [e] [] p3] [⟨some "key",.Lambda params body sc lpos,kp⟩,⟨some "reverse",.Constant (.bool b) j bp,kp2⟩] pos) (bZi te fr tb P lpos qual b):=by
 intro g s σ H Q I h
 refine cQO (aXa I e7 g4 b1 ?_)
 refine callWith_kw ?_
 show bYi _ _ (spliced ((false,eval (.Call (.Name "range" p2) [e] [] p3) X.env):: [])) _ _ s
 refine Calls.spliced_cons ?_
 refine cQO (aXa I f9 e9 boot_range ?_)
 refine cZd ?_ s2 rfl
 refine thn (yA he yD s2 p3 g s σ H (λvs H1=>match vs with|[v]=>(∃n:Nat,v= .int n/\n<64/\qW lpos qual P H1/\∃kz:Nat->Int×Int,
   (∀i j,i<n->j<n->kz i=kz j->i=j)/\
   (∀i B,i<n->x0 H1 B->qW lpos qual P B->∀R:VK,(∀a Z,x0 B Z->Z P=B P->Z a=some (.tup [.int (kz i).1,.int (kz i).2])->R (.ref a) Z)->tb (sub σ fr (some (.int i))) B R)/\
   ∀H5 l (b0:List Nat),x0 H1 H5->qW lpos qual P H5->H1 l=none->b0.Perm (bYn n)->(b0.Pairwise λi j=>Stree.z8 (if b=true then kz j else kz i) (if b=true then kz i else kz j)=true)->H5 l=some (.lst (b0.map λi=> .int (i:Nat)))->Q (.ref l) H5)|_=>False) I h) λus s1 ⟨vs,H1,I1,r1,z⟩=>?_
 match vs,z with
 |[v],⟨n,e2,hn,hT,kz,hinj,hkey,hfin⟩=>
  subst e2;obtain⟨u,rfl,ru⟩:=aQS r1;obtain⟨t,rfl⟩:=ru;refine call_range_1 (Calls.spliced_nil ?_);have fR:=I1.fpOk (b:=s1.heap.objs.size) (bYh _) I1.fresh;have I2:Inv X ((s1.heap.objs.size,{cls:= .type "range",data:= .fields #[.int 0 s1.toks,.int (n:Int) t,.int 1 (s1.toks+1)] })::g) σ H1 {s1 with heap:=s1.heap.push {cls:= .type "range",data:= .fields #[.int 0 s1.toks,.int (n:Int) t,.int 1 (s1.toks+1)] },toks:=s1.toks+1+1}:=by
   have I0:Inv X g σ H1 {s1 with heap:=s1.heap.push {cls:= .type "range",data:= .fields #[.int 0 s1.toks,.int (n:Int) t,.int 1 (s1.toks+1)] },toks:=s1.toks+1+1}:=I1.kept λb o e=>bYf _ e;refine I0.pins_of λq hq=>?_;rcases bYj.mp hq with rfl|hq
   ·exact⟨bYE _ rfl,fR.1,fR.2.1,fR.2.2.1,λv z=>by cases z⟩
   ·exact I0.pin q (bYz _ hq)
  obtain⟨cl,c1,c2,c4⟩:=aJl S I2;refine kws_cons (PySem.W.kla_eval b7 ?_);rw[hq];refine bQW I2 c1 b2 C hB hT λq c' a8 H' s' I3 g8 f7 a7 d6 b5=>?_;refine kws_cons (Constant_bool (kws_nil ?_));show bYi _ _ (call (.builtin "sorted") [.ref s1.heap.objs.size] [(cZy "key",.ref q),(cZy "reverse",.bool b)]) _ _ s';have a3:IsRange s'.heap s1.heap.objs.size 0 n 1 s1.toks t (s1.toks+1):=(I3.pin _ (bYz _ (bYp ..))).1;have I4:Inv X g σ H' s':=I3.pins_of λp G=>I3.pin p (bYz _ (bYm _ G));refine Stree.aZQ hr.hd a3 hn (ksk_s2 _ _ _) (λx=>ksk_l2 _ _ _) (λx=>ksk_t2 q x b) λa U tk vs hk a1 ha hI=>?_;have a0:vs.length=n:=by rw[hI.length];simp
  have I5:Inv X g σ H' {s' with heap:=U,toks:=tk}:=I4.kept hk;have Y:=I4.fpOk (b:=a) a1 (I4.hok.fresh a1);have c3:a<U.objs.size:=bYo ha;have c0:s'.heap.objs.size<=U.objs.size+1:=bYQ a1 (cXO (cQk c3));have M:=I4.fpOk (b:=U.objs.size+1) c0 (I4.hok.fresh c0);refine Stree.bWT (s:={s' with heap:=U,toks:=tk}) ha (by rw[a0];exact hn) (λe1 w O=>∃ (B:Hp)(e:Nat),Inv X ((a,bYZ "list" #[] e1)::(U.objs.size+1,bYZ "list" w.toArray e)::g) σ B O/\x0 H' B/\qW lpos qual P B/\bJc B kz w) ?h0 ?hget ?hcall ?hend;case h0=>
   intro e1 h2 k2 a2 q2;have I6:Inv X g σ H' {s' with heap:=h2,toks:=tk}:=I5.turned (t':=tk) (h':=h2) (λb o hb e=>k2 b o hb e) Y.1 Y.2.1 Y.2.2.2.1 Y.2.2.2.2.1 Y.2.2.2.2.2;refine⟨H',0,I6.pins_of λp G=>?_,x0.refl _,d6,λi v D=>by simp at D⟩;rcases bYj.mp G with rfl|G
   ·exact⟨a2,Y.1,Y.2.1,Y.2.2.1,λv z=>by cases z⟩
   ·rcases bYj.mp G with rfl|G
    ·exact⟨q2,M.1,M.2.1,M.2.2.1,λv z=>by cases z⟩
    ·exact I6.pin p (bYz _ G)
  case hget=>
   rintro e1 w O ⟨B,e,J,_,_,_⟩;exact⟨⟨e,(J.pin _ (bYz _ (bYm _ (bYp ..)))).1⟩,(J.pin _ (bYz _ (bYp ..))).1⟩
  case hcall=>
   rintro e1 w O v ⟨B,e,J,k3,t3,z3⟩ D;have F:w.length<n:=by
    rcases cZa w.length vs.length with h|h
    ·omega
    ·rw[bYL h]at D;cases D
   obtain⟨t',rfl⟩:∃t',v=Value.int (w.length:Nat) t':=by
    have r:=uP hI;have e3:((((bYn n).map Int.ofNat)).map V.int)[w.length]? =some (V.int (w.length:Nat)):=by simp[F]
    obtain⟨u,hu,ru⟩:=r.get e3;rw[D]at hu;cases hu;exact ru
   have f4:O.heap.get? q=some (cXn "<lambda>" qual params body sc cl ((X.mg "__name__").getD .none) c' a8):=(J.hok q _ (k3.ext f7)).1;have c9:O.heap.CodeRec (.ref c') qual:=(J.hok c' _ (k3.ext a7)).1;refine cQc (bQV (A:=X.A.in1.in1) J I.ok.frames hr.hd (by have:=hr.dp;show X.A.depth<_;omega) S d8 b6 c2 c4 f4 c9 (λu=>hb cl _ _ _ u) (λA L cd s H=>a9 A L q cd cl s H) (v:= .int (w.length:Nat)) ⟨t',rfl⟩ (Q:=λv Z=>∃a4,v= .ref a4/\x0 B Z/\Z P=B P/\Z a4=some (.tup [.int (kz w.length).1,.int (kz w.length).2])) (hkey w.length B F (b5.trans k3) t3 _ λa4 Z k4 p4 e4=>⟨a4,rfl,k4,p4,e4⟩)) (λkv s4 d7=>?_) λ_ _ x=>x;obtain⟨v4,Z,J4,f8,a4,rfl,k4,p4,e4⟩:=d7;cases f8;refine⟨⟨e,(J4.pin _ (bYz _ (bYm _ (bYp ..)))).1⟩,λh5 c5 sb f5=>?_⟩;have f6:Inv X g σ Z s4:=J4.pins_of λp G=>J4.pin p (bYz _ (bYm _ (bYm _ G)));have pa:=J4.pin _ (bYz _ (bYp ..));have pk:=J4.pin _ (bYz _ (bYm _ (bYp ..)));have J5:Inv X g σ Z {s4 with heap:=h5,toks:=s4.toks}:=f6.turned (t':=s4.toks) (h':=h5) (it:=U.objs.size+1) (λb o hb e=>(sb.2 b hb).trans e) pk.2.1 M.2.1 M.2.2.2.1 M.2.2.2.2.1 M.2.2.2.2.2;refine⟨Z,c5,J5.pins_of λp G=>?_,k3.trans k4,t3.keep k4 p4,λi v D=>?_⟩
   ·rcases bYj.mp G with rfl|G
    ·exact⟨(sb.2 _ (bYA (cQk c3))).trans pa.1,pa.2⟩
    ·rcases bYj.mp G with rfl|G
     ·exact⟨f5,pk.2.1,M.2.1,M.2.2.1,λv z=>by cases z⟩
     ·exact J5.pin p (bYz _ G)
   ·by_cases g7:i<w.length
    ·rw[bYF g7]at D;obtain⟨a6,e6,h6⟩:=z3 i v D;exact⟨a6,e6,k4.tup h6⟩
    ·rw[bYv (by omega)]at D;have:i - w.length=0:=by
      rcases cZa (i - w.length) 1 with h|h
      ·omega
      ·rw[bYL (by simpa using h)]at D;cases D
     have ei:i=w.length:=by omega
     subst ei;simp at D;exact⟨a4,D.symm,e4⟩
  case hend=>
   rintro e1 w O ⟨B,e,J,k3,t3,z3⟩ hl;have J':Inv X g σ B O:=J.pins_of λp G=>J.pin p (bYz _ (bYm _ (bYm _ G)));have c7:w.length=n:=by omega
   obtain⟨r,d9,b4⟩:=Stree.aJG (n:=n) (λi j=>Stree.z8 (kz (ixb b n i)) (kz (ixb b n j))) (λi _=>Stree.vH _) (λi j k _ _ _ U h2=>Stree.aXv U h2)
    (λi j F hj d5=>Stree.aXu λz=>d5 (bJz F hj (hinj _ _ (aZl F) (aZl hj) z)))
   have ob:∀i,i<n->∃a o t1 t2 m,w.getD i Value.none= .ref a/\O.heap.get? a=some o/\o.cls= .type "tuple"/\o.data= .seq #[.int (kz i).1 t1,.int (kz i).2 t2] m:=λi F=>by obtain⟨a6,e6,h6⟩:=z3 i (w.getD i Value.none) (by simp[bYX,bK9 (show i<w.length by omega)]);obtain⟨g9,rv,pl,_⟩:=J'.tuple (SqT.of h6);obtain⟨u1,u2,rfl,r1,r2⟩:=xV.two rv;obtain⟨t1,rfl⟩:=r1;obtain⟨t2,rfl⟩:=r2;obtain⟨o,g1,g2,m,g3⟩:=pl;exact⟨a6,o,t1,t2,m,e6,g1,g2,g3⟩
   refine⟨r,by rw[a0];exact d9,λ_=>⟨tuples' true,λQ' d4=>?_,λi j C' F hj hC=>?_⟩,λp h5 c5 c6 b3 e0 k5 g5 o5=>?_⟩
   ·have b9:∀ (l:List bYa)(k:Nat),(∀ (i:Nat)(v:bYa),l[i]? =some v->∃a o t1 t2 m x y,v=Value.ref a/\O.heap.get? a=some o/\o.cls= .type "tuple"/\o.data= .seq #[.int x t1,.int y t2] m)->
      ∃fs,cJy O.heap l fs/\fs.length=l.length/\∀f∈fs,∃x t,f=Value.int x t:=by
     intro l
     induction l with
     |nil=>intro _ _;exact⟨[],trivial,rfl,λf hf=>by cases hf⟩
     |cons v l ih=>
      intro k D;obtain⟨a,o,t1,t2,m,x,y,rfl,g1,g2,g3⟩:=D 0 v rfl;obtain⟨fs,f1,f2,f3⟩:=ih (k+1) λi v h=>D (i+1) v h;refine⟨.int x t1::fs,cZT g1 g2 g3 rfl f1,by simp[f2],λf hf=>?_⟩;rcases bYj.mp hf with rfl|hf
      ·exact⟨x,t1,rfl⟩
      ·exact f3 f hf
    obtain⟨fs,f1,f2,f3⟩:=b9 w 0 λi v D=>by
     have F:i<n:=by
      rcases cZa i w.length with h|h
      ·omega
      ·rw[bYL h]at D;cases D
     obtain⟨a,o,t1,t2,m,g0,g1,g2,g3⟩:=ob i F;have:w.getD i Value.none=v:=by simp[bYX,D]
     rw[this]at g0;exact⟨a,o,t1,t2,m,_,_,g0,g1,g2,g3⟩
    refine PySem.W.kat_kind (T:= .type "int") f1 (by omega) (λv D=>?_) rfl d4;obtain⟨x,t,rfl⟩:=f3 v D;exact .now
   ·rw[a0]at F hj;obtain⟨ai,oi,t1,t2,m1,g0,g1,g2,g3⟩:=ob _ (aZl (b:=b) F);obtain⟨aj,oj,t3,t4,m2,d0,d1,d2,d3⟩:=ob _ (aZl (b:=b) hj);show bYi _ _ (keyLt' _ ((cQo b w).getD i Value.none) ((cQo b w).getD j Value.none)) _ _ _;rw[aXD c7 F,aXD c7 hj,g0,d0];refine Stree.aKV g1 g3 d1 d3 ?_;have:=b4 i j F hj;rw[this]at hC;exact hC
   ·rw[a0]at b3;obtain⟨q1,q2⟩:=bWz b3 e0 b4;have hm:∀i∈p,i<n:=λi F=>bYI.mp (b3.mem_iff.mp F);have vv:∀l:List Nat,(∀i∈l,i<n)->xV ((l.map (ixb b n)).map λi=>V.int (i:Nat)) (l.map λi=>(cQo b vs).getD i Value.none):=by
     intro l;induction l with
     |nil=>intro _;exact .nil
     |cons i l ih=>
      intro h;refine .cons ?_ (ih λj hj=>h j (bYm _ hj));have F:=h i bYp;show zH (V.int (ixb b n i:Nat)) ((cQo b vs).getD i Value.none);rw[aXD a0 F];have hx:=aZl (b:=b) F;have e3:((((bYn n).map Int.ofNat)).map V.int)[ixb b n i]? =some (V.int (ixb b n i:Nat)):=by simp[hx]
      obtain⟨u,hu,ru⟩:=(uP hI).get e3;have:vs.getD (ixb b n i) Value.none=u:=by simp[bYX,hu]
      rw[this];exact ru
    have v2:=vv p hm;have v3:xV ((cQo b (p.map (ixb b n))).map λi=>V.int (i:Nat)) (cQo b (p.map λi=>(cQo b vs).getD i Value.none)):=by
     unfold cQo at v2 ⊢;split
     ·rw[List.map_reverse];rename_i a5;simp only[a5]at v2 ⊢;exact v2.reverse
     ·rename_i a5;simp only[a5]at v2 ⊢;exact v2
    have na:B a=none:=(J.pin _ (bYz _ (bYp ..))).2.1;have nk:B (U.objs.size+1)=none:=(J.pin _ (bYz _ (bYm _ (bYp ..)))).2.1;have b8:(cQo b (p.map (ixb b n))).length=n:=by rw[q1.length_eq,bYW]
    have e5:Inv X g σ (upd B a (.lst ((cQo b (p.map (ixb b n))).map λi=>V.int (i:Nat)))) {O with heap:=h5,gens:=O.gens,drawn:=O.drawn,toks:=O.toks}:=by
     have K:∀d,d∉ [a,U.objs.size+1]->d≠a/\d≠U.objs.size+1:=λd E=>⟨λz=>E (by simp[z]),λz=>E (by simp[z])⟩;refine J'.step (ch:= [a,U.objs.size+1]) (λd E=>?_) (λd o _ _ E e _=>?_) (λd o _ _ E e _=>?_) (λd o E e n=>?_) (λd o E e=>?_) (λd xs e=>?_) (λd o u e=>?_) (λd qs e=>?_) (λm g6=>?_) (λd u e=>?_) J'.bare
     ·rcases bYj.mp E with rfl|E
      ·exact⟨Y.2.2.2.1,Y.2.1,Y.2.2.2.2.1,Y.2.2.2.2.2⟩
      ·rw[bYr.mp E];exact⟨M.2.2.2.1,M.2.1,M.2.2.2.2.1,M.2.2.2.2.2⟩
     ·exact(k5 d (K d E).1 (K d E).2).trans e
     ·exact⟨o.slots,(k5 d (K d E).1 (K d E).2).trans e⟩
     ·rw[yJ (K d E).1];exact n
     ·exact⟨o,(k5 d (K d E).1 (K d E).2).trans e⟩
     ·rw[yJ (yK e na)];exact e
     ·rw[yJ (yK e na)];exact e
     ·exact⟨#[],by rw[yJ (yK e na),e];simp⟩
     ·obtain⟨o,es,ep,ho,r⟩:=g6;exact⟨o,es,ep,(k5 _ (bYU Y.2.1) (bYU M.2.1)).trans ho,r⟩
     ·by_cases E:d=a
      ·subst E;rw[yB]at e;cases e;exact⟨by rw[bYe,b8,bYJ];omega,_,c6,v3,o5⟩
      ·rw[yJ E]at e;refine(J'.hok d u e).stay (λc v hc q=>?_) (λc q=>by rw[yJ (yK q na)];exact q) λc xs q=>by rw[yJ (yK q na)];exact q
       have a7:c≠a:=by
        rcases hc with rfl|hc
        ·exact E
        ·exact yK hc na
       have f0:c≠U.objs.size+1:=by
        rcases hc with rfl|hc
        ·exact yK e nk
        ·exact yK hc nk
       exact(k5 c a7 f0).trans q
    have c8:=yG na (.lst ((cQo b (p.map (ixb b n))).map λi=>V.int (i:Nat)));have hP:upd B a (.lst ((cQo b (p.map (ixb b n))).map λi=>V.int (i:Nat))) P=B P:=by
     rcases t3 with t|⟨_,t,_⟩
     ·rw[yJ (yK t na)]
     ·rw[yJ (yK t na)]
    have nl:H1 a=none:=by
     cases hz:H1 a with
     |none=>rfl
     |some o=>exact absurd (I1.hok.lt hz) (Nat.not_lt.mpr (bYQ (cXO (bYo a3)) a1))
    exact⟨rfl,.ref a,_,e5,rfl,hfin _ a _ (b5.trans (k3.trans c8.t)) (t3.keep c8.t hP) nl q1 q2 yB⟩
end
end L2
namespace Stree
open PySem PySem.W PySem.Calls PyProof.Rows
open PySem.SeqAt
open PySem.AutoSeq1 (wpAny_loadPart')
open PySem.MeetsSeq PySem.MeetsSeq2 PySem.MeetsSeq3
def Z1{α:Type} [DecidableEq α] (lt:α->α->Bool):List α->List α->Bool
 |[],[]=>false
 |[],_::_=>true
 |_::_,[]=>false
 |x::xs,y::ys=>if x=y then Z1 lt xs ys else lt x y
theorem aKT{α:Type} [DecidableEq α] {lt:α->α->Bool}(x y:α)(xs ys:List α):Z1 lt (x::xs) (y::ys)=if x=y then Z1 lt xs ys else lt x y:=rfl
theorem aZW{α:Type} [DecidableEq α] {lt:α->α->Bool}{rep:α->bYa->Prop}(l b:Nat)(items items2:Array bYa)(n W:Nat)(U H:Option Nat)(T I:Array (Option bYa))(xs ys:List α)(L:bY3 rep xs items.toList)(O:bY3 rep ys items2.toList): Meets (cQY.«tuple.__lt__» ⟨[.ref l,.ref b],[]⟩) (λA R s=>s.heap.get? l=some {cls:= .type "tuple",dict:=U,data:= .seq items n,slots:=T}/\s.heap.get? b=some {cls:= .type "tuple",dict:=H,data:= .seq items2 W,slots:=I}/\ (∀x y u v,rep x u->rep y v->EqAt A.in1 s u v (decide (x=y)))/\(∀x y u v,x≠y->rep x u->rep y v->∀ (prog:bYx)(w:bYD)(E:bYa->bYd->Prop)(Q:bYa->bYd->Prop),Q (.bool (lt x y)) s->bYi (bYk prog w) A.in1 (richCompare .Lt u v) Q E s)/\ R (.ok (.ret (.bool (Z1 lt xs ys)))) s):=
 .of_wp λprog w A R s h=>by
  obtain⟨N,g,d,tk,M⟩:=s;obtain⟨hl,Y,G,C,h⟩:=h;have f2:=AutoSeq1.sub_tuple_tuple;have z1:items.size=xs.length:=by have:=L.length;simpa using this.symm
  have z2:items2.size=ys.length:=by have:=O.length;simpa using this.symm
  wp_walk using wpAny_loadPart' hl,wpAny_loadPart' Y,wpAny_forIn_list _ (λjS b F=>b.1=none/\F=⟨N,g,d,tk,M⟩/\∃ (t B:List bYa)(j i:List α),jS=t.zip B/\
   bY3 rep j t/\bY3 rep i B/\j.length+items2.size=i.length+items.size/\R (.ok (.ret (.bool (Z1 lt j i)))) ⟨N,g,d,tk,M⟩) _
  case turn=>
   rintro⟨y,x⟩ jS b F ⟨p,rfl,t,B,j,i,k,o,m,f,hR⟩;cases o with
   |nil=>rw[List.zip_nil_left]at k;cases k
   |@cons a y' P X D q=>
    cases m with
    |nil=>rw[List.zip_nil_right]at k;cases k
    |@cons c x' S V z r=>
     rw[List.zip_cons_cons]at k;injection k with hyx hrest
     injection hyx with hy hx
     subst hy hx;rw[aKT]at hR;simp only[bY8]at f;refine bYb (G a c _ _ D z prog w _ _ ?_);by_cases e:a=c
     ·rw[if_pos e]at hR;rw[decide_eq_true e];wp_walk;exact⟨rfl,rfl,_,_,_,_,hrest,q,r,by omega,hR⟩
     ·rw[if_neg e]at hR;rw[decide_eq_false e];have J:=C a c _ _ e D z prog w;wp_walk using J;exact⟨_,rfl,by simpa using hR⟩
  case fin=>
   rintro⟨b1,Z⟩ F ⟨p,rfl,t,B,j,i,k,o,m,f,hR⟩;simp only at p;subst p;have K:Z1 lt j i=decide (items.size<items2.size):=by
    cases o with
    |nil=>
     cases m with
     |nil=>simp only[cXj]at f;exact(decide_eq_false (by omega)).symm
     |cons z hw=>simp only[cXj,bY8]at f;exact(decide_eq_true (by omega)).symm
    |cons D K=>
     cases m with
     |nil=>simp only[cXj,bY8]at f;exact(decide_eq_false (by omega)).symm
     |cons z hw=>rw[List.zip_cons_cons]at k;cases k
   rw[K]at hR;wp_walk;exact⟨_,rfl,by simpa[Builtin.Tuple.tupleCompareSizes]using hR⟩
  case h=>
   exact⟨rfl,rfl,items.toList,items2.toList,xs,ys,rfl,L,O,by omega,h⟩
section
variable {A:bYO}{s:bYd}{α:Type} [DecidableEq α] {lt:α->α->Bool}{rep:α->bYa->Prop}{l b:Nat}{items items2:List bYa}{xs ys:List α}
def bV0(A:bYO)(s:bYd)(u v:bYa)(c:Bool):Prop:=∀ (prog:bYx)(w:bYD)(E:bYa->bYd->Prop)(Q:bYa->bYd->Prop),Q (.bool c) s->bYi (bYk prog w) A (richCompare .Lt u v) Q E s
theorem bZL(hl:cX6 s.heap l items.toArray)(C:cX6 s.heap b items2.toArray)(B:bY3 rep xs items)(D:bY3 rep ys items2)(q:A.units<cLine)
  (g:∀x y u v,rep x u->rep y v->EqAt A.in1 s u v (decide (x=y))) (f:∀x y u v,x≠y->rep x u->rep y v->bV0 A.in1 s u v (lt x y)):bV0 A s (.ref l) (.ref b) (Z1 lt xs ys):=λprog w E Q h=>by
 obtain⟨⟨cls,t,data,r⟩,p,o,n,m⟩:=id hl
 obtain⟨⟨k,i,e,j⟩,d,c,z,a⟩:=id C
 simp only at o m c a
 subst o m c a
 exact richCompare_meets_room (op:= .Lt) ⟨_,p,rfl⟩ ⟨_,d,rfl⟩ PySem.F.slot_tuple_lt PySem.F.entry_tuple_lt (PySem.F.args_tuple_lt_2 _ _) (aZW (lt:=lt) l b items.toArray items2.toArray n z t i r j xs ys B D)
  ⟨p,d,g,f,show Value.bool (Z1 lt xs ys)≠Value.notImplemented/\Q (.bool (Z1 lt xs ys)) s from⟨(λx=>nomatch x),h⟩⟩ q
theorem bV6:∀ {xs ys:List α},((bYn (min xs.length ys.length)).all (λj=>decide (xs[j]? =ys[j]?)) && xs.length==ys.length)=decide (xs=ys):=by
 intro xs ys;rw[Bool.eq_iff_iff];simp only[Bool.and_eq_true,cZh,bYI,decide_eq_true_eq,beq_iff_eq];constructor
 ·rintro⟨a,c⟩;apply cXq;intro i;by_cases b:i<xs.length
  ·exact a i (by omega)
  ·rw[bYL (by omega),bYL (by omega)]
 ·rintro rfl;exact⟨λ_ _=>rfl,rfl⟩
theorem Y7{rep:α->bYa->Prop}:∀ {xs:List α} {us:List bYa} {i:Nat} {u:bYa},bY3 rep xs us->us[i]? =some u->∃x,xs[i]? =some x/\rep x u
 |_,_,0,_,.cons r _,h=>by simp at h;subst h;exact⟨_,rfl,r⟩
 |_,_,i+1,_,.cons _ t,h=>by simpa using Y7 (i:=i) t (by simpa using h)
 |_,_,i,_,.nil,h=>by simp at h
theorem Y6{rep:α->bYa->Prop}(a:∀x y u,rep x u->rep y u->x=y):∀ {xs ys:List α} {us:List bYa},bY3 rep xs us->bY3 rep ys us->xs=ys
 |_,_,_,.nil,.nil=>rfl
 |_,_,_,.cons r t,.cons r' t'=>by rw[a _ _ _ r r',Y6 a t t']
theorem bZE(hl:cX6 s.heap l items.toArray)(k:cX6 s.heap b items2.toArray)(g:bY3 rep xs items)(h:bY3 rep ys items2)(r:A.units<cLine)(C:∀x y u,rep x u->rep y u->x=y) (d:∀x y u v,rep x u->rep y v->EqAt A.in1 s u v (decide (x=y))):EqAt A s (.ref l) (.ref b) (decide (xs=ys)):=by
 by_cases e:l=b
 ·subst e;obtain⟨o,c,_,n,f⟩:=hl;obtain⟨H,i,_,G,m⟩:=k;rw[c]at i;cases i;rw[f]at m;have a:items=items2:=by
   have:items.toArray=items2.toArray:=by injection m
   simpa using congrArg Array.toList this
  subst a;rw[decide_eq_true (Y6 C g h)];exact EqAt.same _
 ·refine EqAt.of_refs e ?_;have z:=RcAt.tuples (A:=A) (s:=s) (e:=λj=>decide (xs[j]? =ys[j]?)) (show s.heap.IsTuple l items.toArray from hl) (show s.heap.IsTuple b items2.toArray from k) r λj c f=>?_
  ·have t:items.toArray.size=xs.length:=by rw[bYs];exact g.length.symm
   have a:items2.toArray.size=ys.length:=by rw[bYs];exact h.length.symm
   rw[t,a,bV6]at z;exact z
  ·have w:items[j]? =some items[j]:=bK9 (by simpa using c);have B:items2[j]? =some items2[j]:=bK9 (by simpa using f);obtain⟨x,E,D⟩:=Y7 g w;obtain⟨y,p,F⟩:=Y7 h B;have q:=d x y _ _ D F;show EqAt A.in1 s items[j] items2[j] (decide (xs[j]? =ys[j]?));rw[E,p];have:decide (some x=some y)=decide (x=y):=by simp
   rw[this];exact q
end
def bVa(i:Int)(u:bYa):Prop:=∃t,u= .int i t
def rep2(h:Heap)(p:Int×Int)(u:bYa):Prop:=∃a b,u= .ref a/\cX6 h a b.toArray/\bY3 bVa [p.1,p.2] b
def rep3(h:Heap)(c:List (Int×Int))(u:bYa):Prop:=∃a b,u= .ref a/\cX6 h a b.toArray/\bY3 (rep2 h) c b
theorem aVw(x y:Int)(u:bYa)(a:bVa x u)(b:bVa y u):x=y:=by
 obtain⟨t,rfl⟩:=a;obtain⟨c,e⟩:=b;cases e;rfl
theorem bZp{h:Heap}{a:Nat}{i j:List bYa}(d:cX6 h a i.toArray)(g:cX6 h a j.toArray):i=j:=by
 obtain⟨o,e,_,n,f⟩:=d;obtain⟨k,c,_,l,b⟩:=g;rw[e]at c;cases c;rw[f]at b;have:i.toArray=j.toArray:=by injection b
 simpa using congrArg Array.toList this
theorem bXI{h:Heap}(x y:Int×Int)(u:bYa)(f:rep2 h x u)(g:rep2 h y u):x=y:=by
 obtain⟨a,i,rfl,k,b⟩:=f;obtain⟨l,j,e,d,c⟩:=g;cases e;rw[bZp k d]at b;have:=Y6 aVw b c;injection this with e1 e2;injection e2 with e2 _;exact Prod.ext e1 e2
section
variable {A:bYO}{s:bYd}
theorem eq1(x y:Int)(u v:bYa)(b:bVa x u)(c:bVa y v):EqAt A s u v (decide (x=y)):=by
 obtain⟨t,rfl⟩:=b;obtain⟨a,rfl⟩:=c;have:decide (x=y)=(x==y):=by rw[Bool.eq_iff_iff];simp
 rw[this];exact EqAt.int_int x t y a
theorem lt1(x y:Int)(u v:bYa)(b:x≠y)(c:bVa x u)(d:bVa y v):bV0 A s u v (decide (x<y)):=by
 obtain⟨t,rfl⟩:=c;obtain⟨a,rfl⟩:=d;exact λprog w E Q h=>HT.bXH A s x t y a prog w E Q h
theorem eq2(c:A.units<cLine)(x y:Int×Int)(u v:bYa)(h:rep2 s.heap x u)(k:rep2 s.heap y v):EqAt A s u v (decide (x=y)):=by
 obtain⟨a,i,rfl,l,d⟩:=h;obtain⟨b,j,rfl,g,f⟩:=k;have z:=bZE l g d f c aVw λx y u v=>eq1 x y u v;have:decide ([x.1,x.2]= [y.1,y.2])=decide (x=y):=by
  rw[Bool.eq_iff_iff,decide_eq_true_eq,decide_eq_true_eq];constructor
  ·intro e;injection e with e1 e2;injection e2 with e2 _;exact Prod.ext e1 e2
  ·rintro rfl;rfl
 rw[this]at z;exact z
theorem aKS(x y:Int×Int):Z1 (λa b:Int=>decide (a<b)) [x.1,x.2] [y.1,y.2]=z8 x y:=by
 unfold z8 Z1 Z1 Z1;by_cases c:x.1=y.1
 ·by_cases d:x.2=y.2<;> simp[c,d]
 ·simp[c]
theorem lt2(c:A.units<cLine)(x y:Int×Int)(u v:bYa)(f:x≠y)(h:rep2 s.heap x u)(k:rep2 s.heap y v):bV0 A s u v (z8 x y):=by
 obtain⟨a,i,rfl,l,d⟩:=h;obtain⟨b,j,rfl,g,e⟩:=k;have z:=bZL (lt:=λa b:Int=>decide (a<b)) l g d e c (λx y u v=>eq1 x y u v) (λx y u v=>lt1 x y u v);rw[aKS]at z;exact z
theorem eq3(c:A.units+1<cLine)(x y:List (Int×Int))(u v:bYa)(g:rep3 s.heap x u)(h:rep3 s.heap y v):EqAt A s u v (decide (x=y)):=by
 obtain⟨a,i,rfl,k,d⟩:=g;obtain⟨b,j,rfl,f,e⟩:=h;exact bZE k f d e (by omega) bXI λx y u v=>eq2 (A:=A.in1) c x y u v
theorem lt3(c:A.units+1<cLine)(x y:List (Int×Int))(u v:bYa)(f:x≠y)(h:rep3 s.heap x u)(k:rep3 s.heap y v):bV0 A s u v (Z1 z8 x y):=by
 obtain⟨a,i,rfl,l,d⟩:=h;obtain⟨b,j,rfl,g,e⟩:=k;exact bZL l g d e (by omega) (λx y u v=>eq2 (A:=A.in1) c x y u v) (λx y u v=>lt2 (A:=A.in1) c x y u v)
end
section
variable {prog:bYx}{w:bYD}{A:bYO}{E:bYa->bYd->Prop}{s:bYd}
theorem bJD{x y:Nat}{m g:Obj}{n k:Nat}{u v:bYa}{a c:List (Int×Int)}{i j:Int}{z p:Tok}{Q:Bool->bYd->Prop}(d:A.units+1<cLine)(t:s.heap.get? x=some m)(dx:m.data= .seq #[u,.int i z] n)(o:s.heap.get? y=some g)(r:g.data= .seq #[v,.int j p] k) (f:rep3 s.heap a u) (l:rep3 s.heap c v) (b:a=c->i=j) (h:Q (decide (a≠c) && Z1 z8 a c) s):bYi (bYk prog w) A (keyLt' (tuples' false) (.ref x) (.ref y)) Q E s:=by
 refine kat_lt t dx o r ?_;refine kat_cons (eq3 d a c u v f l prog w _ _ ?_);by_cases e:a=c
 ·rw[decide_eq_true e];refine kat_yes (kat_cons (aJd ?_));rw[beq_iff_eq.mpr (b e)];refine kat_yes (kat_nil ?_);simpa[e]using h
 ·rw[decide_eq_false e];have q:Q (Z1 z8 a c) s:=by simpa[e]using h
  exact kat_no (kat_one _ _ (lt3 d a c u v e f l prog w _ _ q))
theorem aZO{a:Nat}{vs:List bYa}{P:PySem.Fin->bYd->Prop}{X:Nat}(J:s.heap.get? a=some (bYZ "list" vs.toArray X))(U:vs.length<64)(r:Nat->Int)(Z:Inj vs.length r) (y:2<=vs.length->∃κ,∀f,(∀c o,c≠a->s.heap.get? c=some o->f.get? c=some o)->(∀Q:SortKind->bYd->Prop,Q κ {s with heap:=f}->bYi (bYk prog w) A (keyKind' vs.toArray) Q (λ_ _=>False) {s with heap:=f})/\ ∀i j C,i<vs.length->j<vs.length->C (decide (r i<r j)) {s with heap:=f}->kas_ask prog w A κ vs i j C {s with heap:=f}) (v:∀ (p:List Nat) f c,p.Perm (bYn vs.length)->p.Pairwise (λi j=>r i<r j)->(∀d o,d≠a->s.heap.get? d=some o->f.get? d=some o)->f.get? a=some (bYZ "list" (p.map λi=>vs.getD i Value.none).toArray c)->P (.done (.ret .none)) {s with heap:=f}): bYi (bYk prog w) A (cQY.«list.sort» ⟨[.ref a],[]⟩) P E s:=by
 have ha:a<s.heap.objs.size:=bYo J;obtain⟨t,B⟩:∃t,(s.heap.update a (bY4 λ_=>(#[]:Array bYa))).get? a=some (bYZ "list" #[] t):=⟨_,cX1 J λ_=> #[]⟩;rw[list_sort_plain];refine bYb (listItems_at J rfl ?_);refine bYb (cZo J rfl ?_ (by rw[bYs,bYJ];omega) (bY7 _));refine bYb (seqEpoch_at B rfl ?_);refine bYb (wpAny_newTuple ?_ (by show vs.length<=_;rw[bYJ];omega));refine bYb (cZr ?_ (bY7 _));refine cQs ?_;have M:∀c o,c≠a->s.heap.get? c=some o->(((s.heap.update a (bY4 λ_=>(#[]:Array bYa))).push (bYZ "tuple" vs.toArray 0)).push (bYZ "list" #[] 0)).get? c=some o:=λc o Y e=>
  bYf _ (bYf _ ((bYK _ _ (bYU Y)).trans e))
 have H:(((s.heap.update a (bY4 λ_=>(#[]:Array bYa))).push (bYZ "tuple" vs.toArray 0)).push (bYZ "list" #[] 0)).get? a=some (bYZ "list" #[] t):=bYf _ (bYf _ B);show bYi (bYk prog w) A _ P E {s with heap:=((s.heap.update a (bY4 λ_=>(#[]:Array bYa))).push (bYZ "tuple" vs.toArray 0)).push (bYZ "list" #[] 0) };generalize ((s.heap.update a (bY4 λ_=>(#[]:Array bYa))).push (bYZ "tuple" vs.toArray 0)).push (bYZ "list" #[] 0)=h1 at M H ⊢;dsimp only;have l:∀ (F:SortSt)(p:List Nat),p.Perm (bYn vs.length)->p.Pairwise (λi j=>r i<r j)->(arrOf F).map (·.2)=cQj (p.map λi=>vs.getD i Value.none)->failedOf F=none->
   bYi (bYk prog w) A (do
    let b:=(<- seqEpoch a) !=t
    Builtin.List.listUpdate (.ref a) λ_=>(arrOf F).map (·.2)
    if let some e:=failedOf F then rule "list.sort.comparison-raised";throw e
    if b then rule "list.sort.modified";raiseError "ValueError" "list modified during sort"
    ret .none) P E {s with heap:=h1}:=by
  intro F p h q u N
  have K:p.length=vs.length:=by rw[h.length_eq,bYW]
  rw[u]
  obtain⟨S,L⟩:∃S,(h1.update a (bY4 λ_=>cQj (p.map λi=>vs.getD i Value.none))).get? a=some (bYZ "list" (cQj (p.map λi=>vs.getD i Value.none)) S):=⟨_,cX1 H λ_=>cQj (p.map λi=>vs.getD i Value.none)⟩
  have R:(cQj (p.map λi=>vs.getD i Value.none)).size=vs.length:=by rw[bYs,bYe,K]
  refine bYb (seqEpoch_at H rfl ?_)
  refine bYb (cZo H rfl ?_ (bY7 _) (bYQ (cXN R) (by rw[bYJ];omega)))
  rw[N]
  simp only[bne_self_eq_false,Bool.false_eq_true,if_false]
  exact bYg (v p _ S h q (λd o V e=>(bYK _ _ (bYU V)).trans (M d o V e)) L)
 by_cases n:vs.toArray.size<2
 ·rw[if_pos n,if_pos n];refine bYb (bYg ?_);refine bYb (bYg ?_);have m:vs.length<2:=by rw[bYs]at n;exact n
  refine l (SortSt.mk' general' (vs.toArray.zip vs.toArray) #[] 7 none) (bYn vs.length) (List.Perm.refl _) ?_ ?_ rfl
  ·rw[cXG];intro i j I hj a0;rw[bYW]at I hj;omega
  ·show((cQj vs).zip (cQj vs)).map (·.2)=_;apply Array.toList_inj.mp;rw[Array.toList_map,Array.toList_zip];simp only[cZ2];have t:(List.zip vs vs).map (·.2)=vs:=List.map_snd_zip (bYh _);rw[t];apply cXq;intro i;rw[bYu];by_cases I:i<vs.length
   ·rw[cQU I];simp[bYX,bK9 I]
   ·rw[bYL (by omega),bYL (by rw[bYW];omega)];rfl
 ·have m:2<=vs.length:=by rw[bYs]at n;omega
  rw[if_neg n,if_neg n];obtain⟨κ,hκ⟩:=y m;obtain⟨hκ,D⟩:=hκ h1 M;refine bYb (cQc (hκ (λk z=>k=κ/\z= {s with heap:=h1}) ⟨rfl,rfl⟩) (λk z hq=>?_) λ_ _ x=>x.elim);obtain⟨rfl,rfl⟩:=hq;have T:(kas_sort vs.length).kasWp (kas_ask prog w A k vs) (λp G=>G= {s with heap:=h1}/\p.toList.Perm (bYn vs.length)/\p.toList.Pairwise (λi j=>r i<r j)) {s with heap:=h1}:=
   Asks.wp (lt:=Z2 r) D (aZP Z (by omega)) λp hp=>⟨rfl,hp⟩
  refine bYb (cQc (kat_run (Q:=λg G=>∃p:Array Nat,arrOf g=p.map (kas_item (vs.toArray.zip vs.toArray))/\failedOf g=none/\
    G= {s with heap:=h1}/\p.toList.Perm (bYn vs.length)/\p.toList.Pairwise (λi j=>r i<r j))
   rfl m U (λp' g G a1 a2 a3 W=>⟨p',a2,a3,W⟩) T) ?_ λ_ _ x=>x)
  rintro⟨⟨⟩,g⟩ G ⟨p,O,N,rfl,h,q⟩;dsimp only;exact l _ p.toList h q (kat_snds rfl O) N
end
end Stree
namespace Stree
open PySem PySem.W PySem.Calls PyProof.Rows
abbrev qC:=List (Int×Int)
abbrev uW:qC->qC->Bool:=Z1 z8
theorem vI:∀a:qC,uW a a=false
 |[]=>rfl
 |x::r=>by show(if x=x then Z1 z8 r r else z8 x x)=false;rw[if_pos rfl];exact vI r
theorem Y3:∀ {a b c:qC},uW a b=true->uW b c=true->uW a c=true
 |[],[],_,h,_=>by cases h
 |[],_::_,[],_,h=>by cases h
 |[],_::_,_::_,_,_=>rfl
 |_::_,[],_,h,_=>by cases h
 |_::_,_::_,[],_,h=>by cases h
 |x::a,y::b,z::c,h1,h2=>by
  have f:(if x=y then Z1 z8 a b else z8 x y)=true:=h1;have d:(if y=z then Z1 z8 b c else z8 y z)=true:=h2;show(if x=z then Z1 z8 a c else z8 x z)=true;by_cases i:x=y
  ·rw[if_pos i]at f;subst i;by_cases g:x=z
   ·rw[if_pos g]at d ⊢;exact Y3 f d
   ·rw[if_neg g]at d ⊢;exact d
  ·rw[if_neg i]at f;by_cases g:y=z
   ·rw[if_pos g]at d;subst g;rw[if_neg i];exact f
   ·rw[if_neg g]at d;have j:=aXv f d;have:x≠z:=λe=>by rw[e,vH]at j;cases j
    rw[if_neg this];exact j
theorem aXw:∀ {a b:qC},a≠b->uW a b=true\/uW b a=true
 |[],[],h=>absurd rfl h
 |[],_::_,_=> .inl rfl
 |_::_,[],_=> .inr rfl
 |x::a,y::b,h=>by
  show(if x=y then Z1 z8 a b else z8 x y)=true\/(if y=x then Z1 z8 b a else z8 y x)=true;by_cases e:x=y
  ·subst e;rw[if_pos rfl,if_pos rfl];exact aXw λz=>h (by rw[z])
  ·rw[if_neg e,if_neg (bYU e)];exact aXu e
theorem aVj:∀ (a:qC) {b:qC},b≠ []->uW a (a++b)=true
 |[],[],h=>absurd rfl h
 |[],_::_,_=>rfl
 |x::a,b,h=>by show(if x=x then Z1 z8 a (a++b)else _)=true;rw[if_pos rfl];exact aVj a h
theorem aZt:∀ (a:qC) {x y:Int×Int} {b c:qC},z8 x y=true->uW (a++x::b) (a++y::c)=true
 |[],x,y,b,c,h=>by
  show(if x=y then Z1 z8 b c else z8 x y)=true;have:x≠y:=λe=>by rw[e,vH]at h;cases h
  rw[if_neg this];exact h
 |z::a,x,y,b,c,h=>by show(if z=z then Z1 z8 (a++x::b) (a++y::c)else _)=true;rw[if_pos rfl];exact aZt a h
theorem uniq{α:Type}{lt:α->α->Prop}(d:∀a,¬lt a a)(j:∀a b c,lt a b->lt b c->lt a c):∀ {l m:List α},l.Pairwise lt->m.Pairwise lt->(∀a,a∈l↔a∈m)->l=m
 |[],[],_,_,_=>rfl
 |[],y::m,_,_,h=>by have:=(h y).mpr bYp;cases this
 |x::l,[],_,_,h=>by have:=(h x).mp bYp;cases this
 |x::l,y::m,h1,h2,h=>by
  obtain⟨i,k⟩:=cQz.mp h1;obtain⟨b1,n⟩:=cQz.mp h2;have e:x=y:=by
   rcases bYj.mp ((h x).mp bYp)with e|e
   ·exact e
   ·rcases bYj.mp ((h y).mpr bYp)with g|g
    ·exact g.symm
    ·exact absurd (j _ _ _ (i y g) (b1 x e)) (d x)
  subst e;rw[uniq d j k n λa=>?_];constructor
  ·intro f;rcases bYj.mp ((h a).mp (bYm _ f))with e|e
   ·subst e;exact absurd (i a f) (d a)
   ·exact e
  ·intro f;rcases bYj.mp ((h a).mpr (bYm _ f))with e|e
   ·subst e;exact absurd (b1 a f) (d a)
   ·exact e
theorem IsTup.keep{h h':Heap}{a x:Nat}{vs its:Array bYa}{n:Nat}(b:h.get? a=some (bYZ "list" vs n))(k:∀c o,c≠a->h.get? c=some o->h'.get? c=some o)(t:cX6 h x its):cX6 h' x its:=by
 obtain⟨o,e,c,m,d⟩:=t;refine⟨o,k x o (λz=>?_) e,c,m,d⟩;rw[z,b]at e;cases e;have f:Value.type "list"=Value.type "tuple":=c;injection f with c'';exact absurd c'' (by decide)
theorem rep2.keep{h h':Heap}{a:Nat}{vs:Array bYa}{n:Nat}(b:h.get? a=some (bYZ "list" vs n))(k:∀c o,c≠a->h.get? c=some o->h'.get? c=some o){p:Int×Int}{u:bYa}(t:rep2 h p u):rep2 h' p u:=
 let ⟨x,its,e,t1,t2⟩:=t;⟨x,its,e,IsTup.keep b k t1,t2⟩
theorem rep3.keep{h h':Heap}{a:Nat}{vs:Array bYa}{n:Nat}(b:h.get? a=some (bYZ "list" vs n))(k:∀c o,c≠a->h.get? c=some o->h'.get? c=some o){p:qC}{u:bYa}(t:rep3 h p u):rep3 h' p u:=
 let ⟨x,its,e,t1,t2⟩:=t;⟨x,its,e,IsTup.keep b k t1,L2.Paired.mapP t2 λ_ _ z=>rep2.keep b k z⟩
end Stree
namespace L2
open PySem PySem.Spec PyProof.Rows
open Stree (qC uW)
def bJf(H:Hp)(p:Int×Int)(x:V):Prop:=∃c,x= .ref c/\H c=some (.tup [.int p.1,.int p.2])
def qV(H:Hp)(b:Nat)(c:qC):Prop:=∃a,H b=some (.tup a)/\bY3 (bJf H) c a
section
variable {X:Cx}{pins:List (Nat×Obj)}{σ:St}{H:Hp}{s:bYd}{k:Nat}
theorem aYl{α β γ:Type}{F:α->β->Prop}{G:β->γ->Prop}{K:α->γ->Prop}(h:∀a b c,F a b->G b c->K a c):∀ {l:List α} {m:List β} {n:List γ},bY3 F l m->bY3 G m n->bY3 K l n
 |_,_,_,.nil,.nil=> .nil
 |_,_,_,.cons a r,.cons b t=> .cons (h _ _ _ a b) (aYl h r t)
theorem Inv.rep2(I:Inv X pins σ H s){p:Int×Int}{x:V}{u:bYa}(h:bJf H p x)(r:zH x u):Stree.rep2 s.heap p u:=by
 obtain⟨c,rfl,e⟩:=h;cases r;obtain⟨g,d,b,_⟩:=I.tuple (SqT.of e);obtain⟨i,j,rfl,f,a⟩:=xV.two d;exact⟨c,_,rfl,b,.cons f (.cons a .nil)⟩
theorem Inv.rep3(I:Inv X pins σ H s){b:Nat}{f:qC}(h:qV H b f):Stree.rep3 s.heap f (.ref b):=by
 obtain⟨j,e,z⟩:=h;obtain⟨d,i,g,_⟩:=I.tuple (SqT.of e);exact⟨b,d,rfl,g,aYl (F:=bJf H) (G:=zH) (K:=Stree.rep2 s.heap) (λ_ _ _ a c=>I.rep2 a c) z i⟩
theorem Z9(hr:vM k X.A):jM X (.builtin "sorted") (λxs H Q=>∃ (p:Nat)(its:List V)(d:Nat->qC)(kn:Nat->Int),xs= [.ref p]/\H p=some (.lst its)/\its.length<64/\ (∀i j,i<its.length->j<its.length->d i=d j->i=j)/\(∀i x,its[i]? =some x->∃a b,x= .ref a/\H a=some (.tup [.ref b,.int (kn i)])/\qV H b (d i))/\ ∀l (out:List Nat),H l=none->out.Perm (bYn its.length)->(out.Pairwise λi j=>uW (d i) (d j)=true)->Q (.ref l) (upd H l (.lst (out.map λi=>its.getD i .non)))):=by
 intro pins s σ H xs us Q I r h;obtain⟨p,its,d,kn,rfl,hp,b0,K,a8,q⟩:=h;obtain⟨u,rfl,ru⟩:=aQS r;cases ru;obtain⟨g,rv,pl,hz⟩:=I.list (SqL.of hp);have a0:g.length=its.length:=rv.length.symm;refine cZv kind_sorted plain_sorted entry_sorted (args_sorted1 _) ?_;unfold cQY.«sorted»;refine bYb (m:=checkCount "sorted" 1 1 _) (bYg ?_);refine bYb (collect_list pl.isList ?_ (by rw[bYJ];omega));refine bYb (cZr ?_ (by rw[bYJ];omega));have S:((s.heap.push (bYZ "list" #[] 0)).update s.heap.objs.size (bY4 (·++g.toArray))).objs.size=s.heap.objs.size+1:=by rw[Heap.size_update,size_push']
 have y:(((s.heap.push (bYZ "list" #[] 0)).update s.heap.objs.size (bY4 (·++g.toArray))).push (bYZ "list" g.toArray 0)).get? (s.heap.objs.size+1)=some (bYZ "list" g.toArray 0):=by rw[<- S];exact bYE _ rfl
 have keep:∀b o,s.heap.get? b=some o->(((s.heap.push (bYZ "list" #[] 0)).update s.heap.objs.size (bY4 (·++g.toArray))).push (bYZ "list" g.toArray 0)).get? b=some o:=λb o q=>by have J:b<s.heap.objs.size:=bYo q;rw[Heap.get?_push_ne _ _ _ (by rw[S];exact bYA (cQk J)),cZ0 _ _ _ _ (bYA J),Heap.get?_push_ne _ _ _ (bYA J)];exact q
 show bYi _ _ _ _ _ {s with heap:=((s.heap.push (bYZ "list" #[] 0)).update s.heap.objs.size (bY4 (·++g.toArray))).push (bYZ "list" g.toArray 0) };rw[S];generalize b1:((s.heap.push (bYZ "list" #[] 0)).update s.heap.objs.size (bY4 (·++g.toArray))).push (bYZ "list" g.toArray 0)=L at y keep ⊢;refine bYb (cQs (cQ5 cJe ⟨_,y,rfl⟩ cZ6 ?body (cJd _)));case body=>
  have I1:Inv X pins σ H {s with heap:=L}:=I.kept (t':=s.toks) keep;have R:s.heap.objs.size<=s.heap.objs.size+1:=cXi _;have fa:=I.fpOk (b:=s.heap.objs.size+1) R (I.hok.fresh R);obtain⟨r,a6,Z⟩:=Stree.aJG (n:=g.length) (λi j=>uW (d i) (d j)) (λi _=>Stree.vI _) (λi j k _ _ _ L D=>Stree.Y3 L D)
   (λi j B P a3=>Stree.aXw λz=>a3 (K i j (by omega) (by omega) z))
  have ob:∀i,i<g.length->∃a o u t m,g.getD i Value.none= .ref a/\L.get? a=some o/\o.cls= .type "tuple"/\o.data= .seq #[u,.int (kn i) t] m/\Stree.rep3 L (d i) u:=λi B=>by
   have C:i<its.length:=by omega
   obtain⟨a,b,Y,e2,e3⟩:=a8 i its[i] (bK9 C);obtain⟨u0,N,G⟩:=rv.get (bK9 C);rw[Y]at G;cases G;obtain⟨a9,rj,pj,_⟩:=I1.tuple (SqT.of e2);obtain⟨u1,u2,rfl,q1,q2⟩:=xV.two rj;cases q1;obtain⟨t,rfl⟩:=q2;obtain⟨o,F,E,m,O⟩:=pj;exact⟨a,o,_,t,m,by simp[bYX,N],F,E,O,I1.rep3 e3⟩
  refine Stree.aZO (s:={s with heap:=L}) y (by omega) r a6 (λD=>⟨tuples' false,λD k2=>⟨λQ' a2=>?_,λi j C' B P hC=>?_⟩⟩) λp h5 c5 U a5 k5 o5=>?_
  ·have kt:∀ {x:Nat} {o:Obj},L.get? x=some o->o.cls= .type "tuple"->D.get? x=some o:=λ{x o} e c=>k2 x o (λz=>by rw[z,y]at e;cases e;have c':Value.type "list"=Value.type "tuple":=c;injection c' with c'';exact absurd c'' (by decide)) e;have a1:∀ (l:List bYa),(∀ (i:Nat)(v:bYa),l[i]? =some v->∃a o u w m,v=Value.ref a/\D.get? a=some o/\o.cls= .type "tuple"/\o.data= .seq #[u,w] m/\∃c its,u= .ref c/\cX6 D c its)->
     ∃fs,cJy D l fs/\fs.length=l.length/\∀f∈fs,∃c its,f=Value.ref c/\cX6 D c its:=by
    intro l
    induction l with
    |nil=>intro _;exact⟨[],trivial,rfl,λf hf=>by cases hf⟩
    |cons v l ih=>
     intro M;obtain⟨a,o,u,w,m,rfl,F,E,O,c,its,rfl,g4⟩:=M 0 v rfl;obtain⟨fs,f1,f2,f3⟩:=ih λi v h=>M (i+1) v h;refine⟨.ref c::fs,cZT F E O rfl f1,by simp[f2],λf hf=>?_⟩;rcases bYj.mp hf with rfl|hf
     ·exact⟨c,its,rfl,g4⟩
     ·exact f3 f hf
   obtain⟨fs,f1,f2,f3⟩:=a1 g λi v M=>by
    have B:i<g.length:=by
     rcases cZa i g.length with h|h
     ·exact h
     ·rw[bYL h]at M;cases M
    obtain⟨a,o,u,t,m,g0,F,E,O,g4⟩:=ob i B;have:g.getD i Value.none=v:=by simp[bYX,M]
    rw[this]at g0;obtain⟨c,its,e,g5,_⟩:=g4;exact⟨a,o,u,_,m,g0,kt F E,E,O,c,_,e,Stree.IsTup.keep y k2 g5⟩
   refine PySem.W.kat_kind (T:= .type "tuple") f1 (by omega) (λv M=>?_) rfl a2;obtain⟨c,its,rfl,o,F,E,_⟩:=f3 v M;have z:PySem.W.Looks (bYk X.prog X.w) D (typeOf (.ref c)) o.cls:=(PySem.W.Looks.ld F).andThen .now;rw[E]at z;exact z
  ·obtain⟨ai,oi,ui,t1,m1,g0,F,E,O,g4⟩:=ob i B;obtain⟨aj,oj,uj,t3,m2,d0,d1,d2,d3,d4⟩:=ob j P;have kt:∀ {x:Nat} {o:Obj},L.get? x=some o->o.cls= .type "tuple"->D.get? x=some o:=λ{x o} e c=>k2 x o (λz=>by rw[z,y]at e;cases e;have c':Value.type "list"=Value.type "tuple":=c;injection c' with c'';exact absurd c'' (by decide)) e;show bYi _ _ (keyLt' _ (g.getD i Value.none) (g.getD j Value.none)) _ _ _;rw[g0,d0];refine Stree.bJD (by have:=hr.un;show X.A.units+1+1+1<cLine;omega) (kt F E) O (kt d1 d2) d3 (Stree.rep3.keep y k2 g4) (Stree.rep3.keep y k2 d4) (λz=>by rw[K i j (by omega) (by omega) z]) ?_;have Y:=Z i j B P;rw[Y]at hC;by_cases z:d i=d j
   ·have:uW (d i) (d j)=false:=by rw[z];exact Stree.vI _
    rw[this]at hC;simpa[z]using hC
   ·have:decide (d i≠d j)=true:=decide_eq_true z;rw[this,Bool.true_and];exact hC
  ·have hm:∀i∈p,i<g.length:=λi B=>bYI.mp (U.mem_iff.mp B);have vv:∀l:List Nat,(∀i∈l,i<g.length)->xV (l.map λi=>its.getD i .non) (l.map λi=>g.getD i Value.none):=by
    intro l;induction l with
    |nil=>intro _;exact .nil
    |cons i l ih=>
     intro h;refine .cons ?_ (ih λj P=>h j (bYm _ P));have B:=h i bYp;have C:i<its.length:=by omega
     obtain⟨u0,N,G⟩:=rv.get (bK9 C);show zH (its.getD i .non) (g.getD i Value.none);have Y:g.getD i Value.none=u0:=by simp[bYX,N]
     have e2:its.getD i .non=its[i]:=by simp[bYX,bK9 C]
     rw[Y,e2];exact G
   have v2:=vv p hm;have a4:p.Perm (bYn its.length):=by rw[<- a0];exact U
   have J:p.length=g.length:=by rw[U.length_eq,bYW]
   have a7:p.Pairwise λi j=>uW (d i) (d j)=true:=a5.imp_of_mem λ{i j} B P h=>by have:=Z i j (hm i B) (hm j P);rw[<- this];exact decide_eq_true h
   have I5:Inv X pins σ (upd H (s.heap.objs.size+1) (.lst (p.map λi=>its.getD i .non))) {s with heap:=h5}:=
    I.laid (t':=s.toks) (λb o e=>k5 b o (bYA (cQk (bYo e))) (keep b o e)) R ⟨by rw[bYe,bYJ];omega,_,c5,v2,o5⟩
   exact⟨_,rfl,bYg ⟨_,rfl,⟨.ref _,_,I5,rfl,q _ p fa.1 a4 a7⟩⟩⟩
end
end L2
namespace L2
open PySem PySem.Spec PyProof.Rows
section
variable {X:Cx}
theorem v7:jM X (.builtin "sorted") (λxs H Q=>∃ (p:Nat)(its:List V)(g:Nat->Int×Int),xs= [.ref p]/\H p=some (.lst its)/\its.length<64/\ (∀i j,i<its.length->j<its.length->g i=g j->i=j)/\(∀i x,its[i]? =some x->∃a,x= .ref a/\H a=some (.tup [.int (g i).1,.int (g i).2]))/\ ∀l (out:List Nat),H l=none->out.Perm (bYn its.length)->(out.Pairwise λi j=>Stree.z8 (g i) (g j)=true)->Q (.ref l) (upd H l (.lst (out.map λi=>its.getD i .non)))):=by
 intro F s σ H xs us Q I r h;obtain⟨p,its,g,rfl,hp,b2,Z,b0,q⟩:=h;obtain⟨u,rfl,ru⟩:=aQS r;cases ru;obtain⟨d,rv,pl,hz⟩:=I.list (SqL.of hp);have a0:d.length=its.length:=rv.length.symm;refine cZv kind_sorted plain_sorted entry_sorted (args_sorted1 _) ?_;unfold cQY.«sorted»;refine bYb (m:=checkCount "sorted" 1 1 _) (bYg ?_);refine bYb (collect_list pl.isList ?_ (by rw[bYJ];omega));refine bYb (cZr ?_ (by rw[bYJ];omega));have a3:((s.heap.push (bYZ "list" #[] 0)).update s.heap.objs.size (bY4 (·++d.toArray))).objs.size=s.heap.objs.size+1:=by rw[Heap.size_update,size_push']
 have B:(((s.heap.push (bYZ "list" #[] 0)).update s.heap.objs.size (bY4 (·++d.toArray))).push (bYZ "list" d.toArray 0)).get? (s.heap.objs.size+1)=some (bYZ "list" d.toArray 0):=by rw[<- a3];exact bYE _ rfl
 have keep:∀b o,s.heap.get? b=some o->(((s.heap.push (bYZ "list" #[] 0)).update s.heap.objs.size (bY4 (·++d.toArray))).push (bYZ "list" d.toArray 0)).get? b=some o:=λb o q=>by have a2:b<s.heap.objs.size:=bYo q;refine bYf _ ?_;exact(bYK _ _ (cXP a2)).trans (bYf _ q)
 show bYi _ _ _ _ _ {s with heap:=((s.heap.push (bYZ "list" #[] 0)).update s.heap.objs.size (bY4 (·++d.toArray))).push (bYZ "list" d.toArray 0) };rw[a3];generalize b3:((s.heap.push (bYZ "list" #[] 0)).update s.heap.objs.size (bY4 (·++d.toArray))).push (bYZ "list" d.toArray 0)=M at B keep ⊢;refine bYb (cQs (cQ5 cJe ⟨_,B,rfl⟩ cZ6 ?body (cJd _)));case body=>
  have I1:Inv X F σ H {s with heap:=M}:=I.kept (t':=s.toks) keep;have R:s.heap.objs.size<=s.heap.objs.size+1:=cXi _;have fa:=I.fpOk (b:=s.heap.objs.size+1) R (I.hok.fresh R);obtain⟨r,a8,Y⟩:=Stree.aJG (n:=d.length) (λi j=>Stree.z8 (g i) (g j)) (λi _=>Stree.vH _) (λi j k _ _ _ M O=>Stree.aXv M O)
   (λi j A P a5=>Stree.aXu λz=>a5 (Z i j (by omega) (by omega) z))
  have ob:∀i,i<d.length->∃a o w D m,d.getD i Value.none= .ref a/\M.get? a=some o/\o.cls= .type "tuple"/\o.data= .seq #[.int (g i).1 w,.int (g i).2 D] m:=λi A=>by
   have C:i<its.length:=by omega
   obtain⟨a,U,e2⟩:=b0 i its[i] (bK9 C);obtain⟨u0,L,E⟩:=rv.get (bK9 C);rw[U]at E;cases E;obtain⟨b1,rj,pj,_⟩:=I1.tuple (SqT.of e2);obtain⟨u1,u2,rfl,q1,q2⟩:=xV.two rj;obtain⟨w,rfl⟩:=q1;obtain⟨D,rfl⟩:=q2;obtain⟨o,K,G,m,N⟩:=pj;exact⟨a,o,w,D,m,by simp[bYX,L],K,G,N⟩
  refine Stree.aZO (s:={s with heap:=M}) B (by omega) r a8 (λO=>⟨tuples' true,λO k2=>⟨λQ' a4=>?_,λi j C' A P hC=>?_⟩⟩) λp h5 c5 S a7 k5 o5=>?_
  ·have kt:∀ {x:Nat} {o:Obj},M.get? x=some o->o.cls= .type "tuple"->O.get? x=some o:=λ{x o} e c=>k2 x o (λz=>by rw[z,B]at e;cases e;have c':Value.type "list"=Value.type "tuple":=c;injection c' with c'';exact absurd c'' (by decide)) e;have a1:∀ (l:List bYa),(∀ (i:Nat)(v:bYa),l[i]? =some v->∃a o w D m x y,v=Value.ref a/\O.get? a=some o/\o.cls= .type "tuple"/\o.data= .seq #[.int x w,.int y D] m)->
     ∃fs,cJy O l fs/\fs.length=l.length/\∀f∈fs,∃x t,f=Value.int x t:=by
    intro l
    induction l with
    |nil=>intro _;exact⟨[],trivial,rfl,λf hf=>by cases hf⟩
    |cons v l ih=>
     intro J;obtain⟨a,o,w,D,m,x,y,rfl,K,G,N⟩:=J 0 v rfl;obtain⟨fs,f1,f2,f3⟩:=ih λi v h=>J (i+1) v h;refine⟨.int x w::fs,cZT K G N rfl f1,by simp[f2],λf hf=>?_⟩;rcases bYj.mp hf with rfl|hf
     ·exact⟨x,w,rfl⟩
     ·exact f3 f hf
   obtain⟨fs,f1,f2,f3⟩:=a1 d λi v J=>by
    have A:i<d.length:=by
     rcases cZa i d.length with h|h
     ·exact h
     ·rw[bYL h]at J;cases J
    obtain⟨a,o,w,D,m,g0,K,G,N⟩:=ob i A;have:d.getD i Value.none=v:=by simp[bYX,J]
    rw[this]at g0;exact⟨a,o,w,D,m,_,_,g0,kt K G,G,N⟩
   refine PySem.W.kat_kind (T:= .type "int") f1 (by omega) (λv J=>?_) rfl a4;obtain⟨x,t,rfl⟩:=f3 v J;exact .now
  ·obtain⟨ai,oi,w,D,m1,g0,K,G,N⟩:=ob i A;obtain⟨aj,oj,t3,t4,m2,d0,d1,d2,d3⟩:=ob j P;have kt:∀ {x:Nat} {o:Obj},M.get? x=some o->o.cls= .type "tuple"->O.get? x=some o:=λ{x o} e c=>k2 x o (λz=>by rw[z,B]at e;cases e;have c':Value.type "list"=Value.type "tuple":=c;injection c' with c'';exact absurd c'' (by decide)) e;show bYi _ _ (keyLt' _ (d.getD i Value.none) (d.getD j Value.none)) _ _ _;rw[g0,d0];refine Stree.aKV (kt K G) N (kt d1 d2) d3 ?_;have U:=Y i j A P;rw[U]at hC;exact hC
  ·have hm:∀i∈p,i<d.length:=λi A=>bYI.mp (S.mem_iff.mp A);have vv:∀l:List Nat,(∀i∈l,i<d.length)->xV (l.map λi=>its.getD i .non) (l.map λi=>d.getD i Value.none):=by
    intro l;induction l with
    |nil=>intro _;exact .nil
    |cons i l ih=>
     intro h;refine .cons ?_ (ih λj P=>h j (bYm _ P));have A:=h i bYp;have C:i<its.length:=by omega
     obtain⟨u0,L,E⟩:=rv.get (bK9 C);show zH (its.getD i .non) (d.getD i Value.none);have U:d.getD i Value.none=u0:=by simp[bYX,L]
     have e2:its.getD i .non=its[i]:=by simp[bYX,bK9 C]
     rw[U,e2];exact E
   have v2:=vv p hm;have a6:p.Perm (bYn its.length):=by rw[<- a0];exact S
   have a2:p.length=d.length:=by rw[S.length_eq,bYW]
   have a9:p.Pairwise λi j=>Stree.z8 (g i) (g j)=true:=a7.imp_of_mem λ{i j} A P h=>by have:=Y i j (hm i A) (hm j P);rw[<- this];exact decide_eq_true h
   have I5:Inv X F σ (upd H (s.heap.objs.size+1) (.lst (p.map λi=>its.getD i .non))) {s with heap:=h5}:=
    I.laid (t':=s.toks) (λb o e=>k5 b o (bYA (cQk (bYo e))) (keep b o e)) R ⟨by rw[bYe,bYJ];omega,_,c5,v2,o5⟩
   exact⟨_,rfl,bYg ⟨_,rfl,⟨.ref _,_,I5,rfl,q _ p fa.1 a6 a9⟩⟩⟩
end
end L2
namespace Fm
open Stree (qC uW z8)
structure Ok(n:Nat)(L:Nat->Option Nat)(rk:Nat->Nat):Prop where
 lt:∀i j,i<n->L i=some j->j<n/\rk j<rk i
def rdF(L:Nat->Option Nat)(D:Nat->Int):Nat->Nat->qC
 |0,i=> [(D i,(i:Int))]
 |f+1,i=>match L i with
  |none=> [(D i,(i:Int))]
  |some j=>rdF L D f j++ [(D i,(i:Int))]
def tpF(L:Nat->Option Nat):Nat->Nat->Nat
 |0,i=>i
 |f+1,i=>match L i with
  |none=>i
  |some j=>tpF L f j
section
variable {n:Nat}{L:Nat->Option Nat}{D:Nat->Int}{rk:Nat->Nat}
theorem aXB{i:Nat}(h:L i=none):∀f,rdF L D f i= [(D i,(i:Int))]
 |0=>rfl
 |f+1=>by unfold rdF;rw[h]
theorem aXU{i:Nat}(h:L i=none):∀f,tpF L f i=i
 |0=>rfl
 |f+1=>by unfold tpF;rw[h]
theorem u9(o:Ok n L rk):∀ (f g i:Nat),i<n->rk i<=f->rk i<=g->rdF L D f i=rdF L D g i
 |f,g,i,hi,hf,hg=>by
  cases h:L i with
  |none=>rw[aXB h,aXB h]
  |some j=>
   obtain⟨a,b⟩:=o.lt i j hi h;cases f with
   |zero=>omega
   |succ f=>
    cases g with
    |zero=>omega
    |succ g=>show(match L i with|none=>_|some j=>rdF L D f j++ [(D i,(i:Int))])=(match L i with|none=>_|some j=>rdF L D g j++ [(D i,(i:Int))]);rw[h];show rdF L D f j++_=rdF L D g j++_;rw[u9 o f g j a (by omega) (by omega)]
theorem jF(o:Ok n L rk):∀ (f g i:Nat),i<n->rk i<=f->rk i<=g->tpF L f i=tpF L g i
 |f,g,i,hi,hf,hg=>by
  cases h:L i with
  |none=>rw[aXU h,aXU h]
  |some j=>
   obtain⟨a,b⟩:=o.lt i j hi h;cases f with
   |zero=>omega
   |succ f=>
    cases g with
    |zero=>omega
    |succ g=>show(match L i with|none=>_|some j=>tpF L f j)=(match L i with|none=>_|some j=>tpF L g j);rw[h];exact jF o f g j a (by omega) (by omega)
def rd(L:Nat->Option Nat)(D:Nat->Int)(rk:Nat->Nat)(i:Nat):qC:=rdF L D (rk i) i
def tp(L:Nat->Option Nat)(rk:Nat->Nat)(i:Nat):Nat:=tpF L (rk i) i
theorem Y8{i:Nat}(h:L i=none):rd L D rk i= [(D i,(i:Int))]:=aXB h _
theorem zX{i:Nat}(h:L i=none):tp L rk i=i:=aXU h _
theorem vY(o:Ok n L rk){i j:Nat}(b:i<n)(h:L i=some j):rd L D rk i=rd L D rk j++ [(D i,(i:Int))]:=by
 obtain⟨a,d⟩:=o.lt i j b h;unfold rd;cases c:rk i with
 |zero=>omega
 |succ m=>show(match L i with|none=>_|some j=>rdF L D m j++ [(D i,(i:Int))])=_;rw[h];show rdF L D m j++_=_;rw[u9 o m (rk j) j a (by omega) (bYh _)]
theorem v6(o:Ok n L rk){i j:Nat}(b:i<n)(h:L i=some j):tp L rk i=tp L rk j:=by
 obtain⟨a,d⟩:=o.lt i j b h;unfold tp;cases c:rk i with
 |zero=>omega
 |succ m=>show(match L i with|none=>_|some j=>tpF L m j)=_;rw[h];exact jF o m (rk j) j a (by omega) (bYh _)
theorem aXj(o:Ok n L rk){P:Nat->Prop}(h0:∀i,i<n->L i=none->P i)(a:∀i j,i<n->L i=some j->P j->P i):∀ (m i:Nat),rk i<=m->i<n->P i
 |m,i,hm,hi=>by
  cases h:L i with
  |none=>exact h0 i hi h
  |some j=>
   obtain⟨b,c⟩:=o.lt i j hi h;cases m with
   |zero=>omega
   |succ m=>exact a i j hi h (aXj o h0 a m j (by omega) b)
theorem bQu(o:Ok n L rk){i:Nat}(a:i<n):tp L rk i<n/\L (tp L rk i)=none:=
 aXj o (P:=λi=>tp L rk i<n/\L (tp L rk i)=none) (λi a h=>by rw[zX h];exact⟨a,h⟩) (λi j a h b=>by rw[v6 o a h];exact b) (rk i) i (bYh _) a
theorem aXC(o:Ok n L rk){i:Nat}(a:i<n):∃r,rd L D rk i=r++ [(D i,(i:Int))]:=by
 cases h:L i with
 |none=>exact⟨[],Y8 h⟩
 |some j=>exact⟨_,vY o a h⟩
theorem aYu(o:Ok n L rk){i j:Nat}(c:i<n)(b:j<n)(h:rd L D rk i=rd L D rk j):i=j:=by
 obtain⟨r,e⟩:=aXC (D:=D) o c;obtain⟨d,a⟩:=aXC (D:=D) o b;rw[e,a]at h;have:=(cXu h rfl).2;injection this with z _;have:=congrArg Prod.snd z;simp only at this;omega
theorem bJ7(o:Ok n L rk){i:Nat}(a:i<n):∃r,rd L D rk i=(D (tp L rk i),((tp L rk i:Nat):Int))::r:=
 aXj o (P:=λi=>∃r,rd L D rk i=(D (tp L rk i),((tp L rk i:Nat):Int))::r) (λi a h=>⟨[],by rw[Y8 h,zX h]⟩)
  (λi j a h ⟨r,e⟩=>⟨r++ [(D i,(i:Int))],by rw[vY o a h,v6 o a h,e];rfl⟩) (rk i) i (bYh _) a
def Un(L:Nat->Option Nat)(D:Nat->Int)(rk:Nat->Nat)(v z:Nat):Prop:=rd L D rk v<+:rd L D rk z
theorem bW1(o:Ok n L rk){i:Nat}(a:i<n):Un L D rk (tp L rk i) i:=by
 obtain⟨r,e⟩:=bJ7 (D:=D) o a;have h:=(bQu o a).2;unfold Un;rw[Y8 h,e];exact⟨r,rfl⟩
theorem bZq(o:Ok n L rk){v:Nat}(q:v<n):∀ {k:Nat},k<n->Un L D rk v k->k≠v->∃c,c<n/\L c=some v/\Un L D rk c k:=λ{k} b f d=>by
 refine aXj o (P:=λk=>Un L D rk v k->k≠v->∃c,c<n/\L c=some v/\Un L D rk c k) (λk b h f d=>?_) (λk p b h w f d=>?_) (rk k) k (bYh _) b f d
 ·obtain⟨r,e⟩:=f;obtain⟨j,m⟩:=aXC (D:=D) o q;rw[Y8 h,m]at e;have hl:=congrArg cXH e;simp only[bYy,bY8,cXj]at hl;have s:j= []:=cQZ (by omega);have u:r= []:=cQZ (by omega);rw[s,u]at e;injection e with z _;have:=congrArg Prod.snd z;simp only at this;omega
 ·obtain⟨y,_⟩:=o.lt k p b h;have a:=f;unfold Un at a;rw[vY o b h]at a;by_cases g:p=v
  ·subst g;exact⟨k,b,h,List.prefix_refl _⟩
  ·have i:Un L D rk v p:=by
    obtain⟨r,e⟩:=a;rcases List.eq_nil_or_concat r with rfl|⟨j,x,rfl⟩
    ·rw[cQf]at e;obtain⟨j,m⟩:=aXC (D:=D) o q;rw[m]at e;have:=(cXu e rfl).2;injection this with z _;have:=congrArg Prod.snd z;simp only at this;omega
    ·rw[List.concat_eq_append,<- cQG]at e;exact⟨j,(cXu e rfl).1⟩
   obtain⟨c,t,hl,l⟩:=w i g;refine⟨c,t,hl,?_⟩;unfold Un;rw[vY o b h];exact List.IsPrefix.trans l (List.prefix_append _ _)
theorem bW0(o:Ok n L rk){v z:Nat}(b:v<n)(hz:z<n)(h:Un L D rk v z)(a:z≠v):uW (rd L D rk v) (rd L D rk z)=true:=by
 obtain⟨r,e⟩:=h;rw[<- e];refine Stree.aVj _ λc=>a ?_;rw[c,cQf]at e;exact(aYu o b hz e).symm
theorem bWR(o:Ok n L rk){v c d z:Nat}(h:c<n)(b:d<n)(g:L c=some v)(i:L d=some v)(a:z8 (D c,(c:Int)) (D d,(d:Int))=true)(f:Un L D rk c z):uW (rd L D rk z) (rd L D rk d)=true:=by
 obtain⟨r,e⟩:=f;rw[<- e,vY o h g,vY o b i,cQG];exact Stree.aZt _ a
structure aZ0(n:Nat)(L:Nat->Option Nat)(D:Nat->Int)(rk:Nat->Nat)(root:Nat)(told nx:List Nat):Prop where
 tl:∀x∈told,x<n/\tp L rk x=root
 al:∀x∈nx,x<n/\tp L rk x=root
 tt:told.Pairwise λx y=>uW (rd L D rk x) (rd L D rk y)=true
 ta:∀x∈told,∀y∈nx,uW (rd L D rk x) (rd L D rk y)=true
 aa:nx.Pairwise λx y=>∀z,Un L D rk x z->uW (rd L D rk z) (rd L D rk y)=true
 all:∀k,k<n->tp L rk k=root->k∈told\/∃a∈nx,Un L D rk a k
theorem aZ0.start(o:Ok n L rk){i:Nat}(b:i<n):aZ0 n L D rk (tp L rk i) [] [tp L rk i]:=by
 have h:=bQu o b;refine⟨λx a=>(nomatch a),λx a=>?_,.nil,λx a=>(nomatch a),cQy _ _,λk c e=> .inr ⟨_,bYr.mpr rfl,?_⟩⟩
 ·rw[bYr.mp a];exact⟨h.1,by rw[zX h.2]⟩
 ·have z:=bW1 (D:=D) o c;rw[e]at z;exact z
theorem aZ0.step(o:Ok n L rk){j v:Nat}{l jS z7:List Nat}(W:aZ0 n L D rk j l (v::jS))(F:∀i,i∈z7↔i<n/\L i=some v)(H:z7.Pairwise λx y=>z8 (D x,(x:Int)) (D y,(y:Int))=true):aZ0 n L D rk j (l++ [v]) (z7++jS):=by
 obtain⟨A,r⟩:=W.al v bYp;obtain⟨G,I⟩:=cQz.mp W.aa;have b:∀c∈z7,c<n/\L c=some v/\tp L rk c=j/\Un L D rk v c/\c≠v:=λc m=>by
  obtain⟨s,t⟩:=(F c).mp m;refine⟨s,t,by rw[v6 o s t];exact r,?_,λz=>?_⟩
  ·unfold Un;rw[vY o s t];exact List.prefix_append _ _
  ·have:=(o.lt c v s t).2;rw[z]at this;omega
 have self:∀x,Un L D rk x x:=λx=>List.prefix_refl _;refine⟨λx f=>?_,λx f=>?_,?_,λx f y g=>?_,?_,λk p C=>?_⟩
 ·rcases bYP.mp f with f|f
  ·exact W.tl x f
  ·rw[bYr.mp f];exact⟨A,r⟩
 ·rcases bYP.mp f with f|f
  ·exact⟨(b x f).1,(b x f).2.2.1⟩
  ·exact W.al x (bYm _ f)
 ·refine cZS.mpr ⟨W.tt,cQy _ _,λx f y g=>?_⟩;rw[bYr.mp g];exact W.ta x f v bYp
 ·have q:∀y∈z7++jS,uW (rd L D rk v) (rd L D rk y)=true:=λy g=>by
   rcases bYP.mp g with g|g
   ·exact bW0 o A (b y g).1 (b y g).2.2.2.1 (b y g).2.2.2.2
   ·exact G y g v (self v)
  rcases bYP.mp f with f|f
  ·exact Stree.Y3 (W.ta x f v bYp) (q y g)
  ·rw[bYr.mp f];exact q y g
 ·refine cZS.mpr ⟨H.imp_of_mem λ{c d} m hd h z w=>bWR o (b c m).1 (b d hd).1 (b c m).2.1 (b d hd).2.1 h w,I,λc m y g z w=>?_⟩;exact G y g z (List.IsPrefix.trans (b c m).2.2.2.1 w)
 ·rcases W.all k p C with h|⟨a,B,E⟩
  ·exact .inl (cXk _ h)
  ·rcases bYj.mp B with rfl|B
   ·by_cases e:k=a
    ·exact .inl (bYz _ (bYr.mpr e))
    ·obtain⟨c,m,hl,u⟩:=bZq o A p E e;exact .inr ⟨c,cXk _ ((F c).mpr ⟨m,hl⟩),u⟩
   ·exact .inr ⟨a,bYz _ B,E⟩
theorem aZ0.nodup{b:Nat}{a nx:List Nat}(W:aZ0 n L D rk b a nx):a.Nodup:=
 W.tt.imp λ{x y} h z=>by rw[z,Stree.vI]at h;cases h
theorem wK:∀ {n:Nat} {l:List Nat},l.Nodup->(∀x∈l,x<n)->l.length<=n
 |0,[],_,_=>bYh _
 |0,x::_,_,h=>absurd (h x bYp) (cQX _)
 |n+1,l,nd,h=>by
  by_cases b:n∈l
  ·have c:=wK (n:=n) (l:=l.erase n) (nd.erase n) λx a=>by
    have:=(cJu nd).mp a;have:=h x this.2;omega
   rw[cJv b]at c;omega
  ·have c:=wK (n:=n) (l:=l) nd λx a=>by
    have:=h x a;have:x≠n:=λz=>b (z ▸ a);omega
   omega
theorem aZ0.len{b:Nat}{a nx:List Nat}(W:aZ0 n L D rk b a nx):a.length<=n:=wK W.nodup λx c=>(W.tl x c).1
theorem aZ0.done{c:Nat}{b:List Nat}(W:aZ0 n L D rk c b [])(k:Nat):k∈b↔k<n/\tp L rk k=c:=
 ⟨λh=>W.tl k h,λ⟨e,f⟩=>(W.all k e f).elim id λ⟨a,d,_⟩=>nomatch d⟩
end
end Fm
namespace Fm
open Stree (qC uW z8)
section
variable {n:Nat}{L:Nat->Option Nat}{D:Nat->Int}{rk rk':Nat->Nat}
theorem aYv(o:Ok n L rk)(b:Ok n L rk'){i:Nat}(a:i<n):rd L D rk i=rd L D rk' i:=by
 unfold rd;rw[u9 o (rk i) (max (rk i) (rk' i)) i a (bYh _) (Nat.le_max_left _ _),u9 b (rk' i) (max (rk i) (rk' i)) i a (bYh _) (Nat.le_max_right _ _)]
theorem jY(o:Ok n L rk)(b:Ok n L rk'){i:Nat}(a:i<n):tp L rk i=tp L rk' i:=by
 unfold tp;rw[jF o (rk i) (max (rk i) (rk' i)) i a (bYh _) (Nat.le_max_left _ _),jF b (rk' i) (max (rk i) (rk' i)) i a (bYh _) (Nat.le_max_right _ _)]
theorem bJ8(o:Ok n L rk){i:Nat}(c:i<n):∃l:List Nat,(rd L D rk i).map (·.2)=l.map (λk:Nat=>(k:Int))/\l.Nodup/\(∀k∈l,k<n/\rk k<=rk i):=
 aXj o (P:=λi=>∃l:List Nat,(rd L D rk i).map (·.2)=l.map (λk:Nat=>(k:Int))/\l.Nodup/\(∀k∈l,k<n/\rk k<=rk i)) (λi c h=>⟨[i],by rw[Y8 h];rfl,by simp,λk d=>by rw[bYr.mp d];exact⟨c,bYh _⟩⟩)
  (λi j c h ⟨l,e,nd,hl⟩=>by
   obtain⟨m,p⟩:=o.lt i j c h;refine⟨l++ [i],by rw[vY o c h,cQW,cQW,e];rfl,?_,λk d=>?_⟩
   ·rw[cXD];refine⟨nd,by simp,λa f b g z=>?_⟩;rw[bYr.mp g]at z;have:=(hl a f).2;rw[z]at this;omega
   ·rcases bYP.mp d with d|d
    ·have:=hl k d;exact⟨this.1,by omega⟩
    ·rw[bYr.mp d];exact⟨c,bYh _⟩) (rk i) i (bYh _) c
theorem bWI(o:Ok n L rk){i:Nat}(b:i<n):(rd L D rk i).length<=n:=by
 obtain⟨l,e,a,hl⟩:=bJ8 (D:=D) o b;have h:=congrArg cXH e;rw[bYe,bYe]at h;rw[h];exact wK a λk c=>(hl k c).1
theorem bJv(o:Ok n L rk){a b:Nat}(ha:a<n)(hb:b<n)(h0:L a=none)(hne:tp L rk b≠a):Ok n (λi=>if i=a then some b else L i) (λi=>if tp L rk i=a then rk i+rk b+1 else rk i) where
 lt:=λi j hi h=>by
  by_cases e:i=a
  ·subst e
   rw[if_pos rfl]at h
   cases h
   rw[if_neg hne,if_pos (zX h0)]
   exact⟨hb,by omega⟩
  ·rw[if_neg e]at h
   obtain⟨hj,hr⟩:=o.lt i j hi h
   have et:=v6 o hi h
   refine⟨hj,?_⟩
   rw[et]
   split<;> omega
theorem bQ7(o:Ok n L rk)(a:Nat):Ok n (λi=>if i=a then none else L i) rk where
 lt:=λi j hi h=>by
  by_cases e:i=a
  ·rw[if_pos e]at h;cases h
  ·rw[if_neg e]at h;exact o.lt i j hi h
def bZ8(rk:Nat->Nat):Option Nat->Nat
 |none=>0
 |some j=>rk j+1
theorem bQK(o:Ok n L rk)(l:Option Nat)(hl:∀j,l=some j->j<n):Ok (n+1) (λi=>if i=n then l else L i) (λi=>if i=n then bZ8 rk l else rk i) where
 lt:=λi j hi h=>by
  by_cases e:i=n
  ·rw[if_pos e]at h
   have hj:=hl j h
   rw[if_pos e,if_neg (by omega),h]
   exact⟨by omega,cQ2 _⟩
  ·rw[if_neg e]at h
   obtain⟨hj,hr⟩:=o.lt i j (by omega) h
   rw[if_neg e,if_neg (by omega)]
   exact⟨by omega,hr⟩
theorem bVS(o:Ok n L rk){i:Nat}(a:i<n):tp L rk (tp L rk i)=tp L rk i:=zX (bQu o a).2
theorem Ok.congr{b:Nat->Option Nat}(o:Ok n L rk)(h:∀i,i<n->L i=b i):Ok n b rk:=⟨λi j a e=>o.lt i j a ((h i a).trans e)⟩
end
end Fm
namespace Dm
def opn(d:Int):Bool:=decide (d % 7<5)
def cts(a:List Int)(d:Int):Bool:=opn d && !(a.contains d)
def cnt(b:List Int)(a:Int):Nat->Nat
 |0=>0
 |n+1=>cnt b a n+(if cts b (a+n)then 1 else 0)
def place(d:Int):Int:=d / 7*5+(if 4<d % 7 then 4 else d % 7)
def zI(p:Int):Int:=p / 5*7+p % 5
theorem aWJ(d:Int):place d=place (d - 1)+(if opn d then 1 else 0):=by
 unfold place opn;simp only[decide_eq_true_eq];split<;> split<;> split<;> omega
theorem bJk(b:List Int)(a:Int)(n m:Nat):cnt b a (n+m)=cnt b a n+cnt b (a+n) m:=by
 induction m with
 |zero=>rfl
 |succ m d=>have e:cnt b a (n+(m+1))=cnt b a (n+m)+(if cts b (a+((n+m:Nat):Int))then 1 else 0):=rfl;have c:cnt b (a+n) (m+1)=cnt b (a+n) m+(if cts b (a+n+(m:Int))then 1 else 0):=rfl;rw[e,c,d,show a+((n+m:Nat):Int)=a+n+(m:Int) by omega];omega
def w6(a b:Int)(d:Int):Bool:=decide (a<=d) && decide (d<=b)
theorem aJg{S:List Int}(i:S.Nodup)(a b:Int)(h:a<=b+1): (S.filter (w6 a (b+1))).length=(S.filter (w6 a b)).length+(if S.contains (b+1)then 1 else 0):=by
 induction S with
 |nil=>rfl
 |cons x r d=>
  have c:=cXc.mp i;have d:=d c.2;by_cases j:x=b+1
  ·subst j;have k:r.contains (b+1)=false:=by
    rw[<- Bool.not_eq_true,cQK];exact c.1
   rw[k]at d;have f:w6 a (b+1) (b+1)=true:=by simp[w6,h]
   have g:w6 a b (b+1)=false:=by simp[w6];omega
   rw[cQQ f,cQP (by rw[g];decide)];simp at d ⊢;omega
  ·have f:w6 a (b+1) x=w6 a b x:=by
    unfold w6;have:decide (x<=b+1)=decide (x<=b):=by rw[decide_eq_decide];omega
    rw[this]
   have g:(x::r).contains (b+1)=r.contains (b+1):=by
    rw[cXx];have:(b+1==x)=false:=by simp;omega
    rw[this,Bool.false_or]
   rw[g];by_cases e:w6 a b x=true
   ·rw[cQQ (by rw[f];exact e),cQQ e];simp only[bY8];omega
   ·rw[cQP (by rw[f];exact e),cQP e];exact d
theorem aV4{b S:List Int}(g:S.Nodup)(e:∀d,d∈S↔d∈b/\opn d=true)(a:Int)(n:Nat): (cnt b a n:Int)=place (a+n - 1) - place (a - 1) - ((S.filter (w6 a (a+n - 1))).length:Nat):=by
 induction n with
 |zero=>
  have:S.filter (w6 a (a+(0:Nat) - 1))= []:=by rw[List.filter_eq_nil_iff];intro x _;simp[w6];omega
  rw[this];simp[cnt]
 |succ n j=>
  have f:=aJg g a (a+n - 1) (by omega);rw[show a+(n:Int) - 1+1=a+n by omega]at f;have p:=aWJ (a+n);rw[show a+((n+1:Nat):Int) - 1=a+n by omega];show((cnt b a n+(if cts b (a+n)then 1 else 0):Nat):Int)=_;have c:(if cts b (a+n)then 1 else 0:Nat)+(if S.contains (a+n)then 1 else 0:Nat)=(if opn (a+n)then 1 else 0:Nat):=by
   have i:S.contains (a+n)=(b.contains (a+n) && opn (a+n)):=by rw[Bool.eq_iff_iff,cQK,Bool.and_eq_true,cQK];exact e _
   rw[i];unfold cts;cases opn (a+↑n)<;> cases b.contains (a+↑n)<;> rfl
  have h:place (a+n)=place (a+n - 1)+((if opn (a+n)then 1 else 0:Nat):Int):=by rw[p];cases opn (a+↑n)<;> rfl
  rw[h,f];push_cast;omega
theorem aJC(p:Int):place (zI p)=p:=by
 unfold place zI;split<;> omega
theorem aZA(p:Int):opn (zI p)=true:=by
 unfold opn zI;rw[decide_eq_true_eq];omega
theorem bQF{p q:Int}(h:p<q):zI p<zI q:=by
 unfold zI;omega
theorem bQE{p q:Int}(h:p<=q):zI p<=zI q:=by
 unfold zI;omega
theorem aJc(d:Int):d<zI (place d+1):=by
 unfold place zI;split<;> omega
def uG(date:Int)(p c:Int):Int:=if date<c/\c<=zI p then p+1 else p
def aXo(date:Int)(p:Int)(C:List Int):Int:=C.foldl (uG date) p
def w9(date e:Int)(c:Int):Bool:=decide (date<c) && decide (c<=e)
theorem aVd{date:Int}(g:Int):∀ (d b:List Int)(p:Int),(b++d).Pairwise (·<·)->
  p=g+((b.filter (w9 date (zI p))).length:Nat)->(∀c∈b,date<c->c≠zI p)->g<=p->
  ∃q,aXo date p d=q/\q=g+(((b++d).filter (w9 date (zI q))).length:Nat)/\(∀c∈b++d,date<c->c≠zI q)/\g<=q
 |[],b,p,_,h1,h2,h3=>⟨p,rfl,by rw[cQf];exact h1,by rw[cQf];exact h2,h3⟩
 |c::d,b,p,hs,h1,h2,h3=>by
  have f:((b++ [c])++d).Pairwise (·<·):=by rw[cQG];exact hs
  have lt:∀x∈b,x<c:=λx a=>(cZS.mp hs).2.2 x a c (bYp ..);have fin:=aVd (date:=date) g d (b++ [c]);have step:aXo date p (c::d)=aXo date (uG date p c) d:=rfl;rw[step,show b++c::d=(b++ [c])++d by simp];by_cases i:date<c/\c<=zI p
  ·have e:uG date p c=p+1:=if_pos i;rw[e];have up:=bQF (show p<p+1 by omega);refine fin (p+1) f ?_ ?_ (by omega)
   ·have k:b.filter (w9 date (zI (p+1)))=b.filter (w9 date (zI p)):=by
     refine cJi λx a=>?_;have:=lt x a;unfold w9;have q:decide (x<=zI (p+1))=decide (x<=zI p):=by rw[decide_eq_decide];omega
     rw[q]
    have h:w9 date (zI (p+1)) c=true:=by simp[w9];omega
    rw[cQl,k,cQQ h,bYy];simp only[List.filter_nil,bY8,cXj];omega
   ·intro x a j;rcases bYP.mp a with a|a
    ·have:=lt x a;omega
    ·have:x=c:=by simpa using a
     omega
  ·have e:uG date p c=p:=if_neg i;rw[e];refine fin p f ?_ ?_ h3
   ·have h:w9 date (zI p) c=false:=by simp[w9];omega
    rw[cQl,cQP (by rw[h];decide)];simpa using h1
   ·intro x a j;rcases bYP.mp a with a|a
    ·exact h2 x a j
    ·have:x=c:=by simpa using a
     omega
structure Due(sh:List Int)(date term D:Int):Prop where
 later:date<D
 cts:cts sh D=true
 cnt:(cnt sh (date+1) (D - date).toNat:Int)=term
theorem bZB{c C:List Int}{date term:Int}(o:1<=term)(f:C.Pairwise (·<·))(g:∀d,d∈C↔d∈c/\opn d=true): Due c date term (zI (aXo date (place date+term) C)):=by
 obtain⟨q,e,n,b,p⟩:=aVd (date:=date) (place date+term) C [] (place date+term) (by simpa using f) (by simp) (by simp) (Int.le_refl _);rw[e];rw[List.nil_append]at n b;have a:date<zI q:=Int.lt_of_lt_of_le (aJc date) (bQE (by omega));refine⟨a,?_,?_⟩
 ·unfold Dm.cts;rw[aZA,Bool.true_and,Bool.not_eq_true'];rw[<- Bool.not_eq_true,cQK];exact λz=>b _ ((g _).mpr ⟨z,aZA q⟩) a rfl
 ·have l:C.Nodup:=f.imp λh=>by omega
  have k:=aV4 l g (date+1) (zI q - date).toNat;have j:date+1+((zI q - date).toNat:Int) - 1=zI q:=by omega
  have i:date+1 - 1=date:=by omega
  rw[j,i,aJC]at k;have m:C.filter (w6 (date+1) (zI q))=C.filter (w9 date (zI q)):=by
   refine cJi λx _=>?_;unfold w6 w9;have:decide (date+1<=x)=decide (date<x):=by rw[decide_eq_decide];omega
   rw[this]
  rw[m]at k;omega
theorem bQB(b:List Int)(a:Int){n m:Nat}(h:n<=m):cnt b a n<=cnt b a m:=by
 obtain⟨k,rfl⟩:=Nat.le.dest h;rw[bJk];omega
theorem Due.less{a:List Int}{date term D:Int}(u:Due a date term D){n:Nat}(h:date+n<D):(Dm.cnt a (date+1) n:Int)<term:=by
 have e:(D - date).toNat=((D - date).toNat - 1)+1:=by have:=u.later;omega
 have k:=u.cnt;rw[e]at k;have b:Dm.cnt a (date+1) (((D - date).toNat - 1)+1)=Dm.cnt a (date+1) ((D - date).toNat - 1)+(if Dm.cts a (date+1+(((D - date).toNat - 1:Nat):Int))then 1 else 0):=rfl;have c:date+1+(((D - date).toNat - 1:Nat):Int)=D:=by have:=u.later;omega
 rw[c,u.cts]at b;have m:=bQB a (date+1) (show n<=(D - date).toNat - 1 by omega);simp only[if_true]at b;omega
theorem Due.uniq{d:List Int}{date term D c:Int}(u:Due d date term D)(v:Due d date term c):D=c:=by
 have a:=u.later;have b:=v.later;have e:¬D<c:=λh=>by have:=v.less (n:=(D - date).toNat) (by omega);have:=u.cnt;omega
 have f:¬c<D:=λh=>by have:=u.less (n:=(c - date).toNat) (by omega);have:=v.cnt;omega
 omega
end Dm
namespace Bk
open PySem (Str)
open Stree (qC uW z8)
structure Row where
 way:Str
 date:Int
 partner:Str
 term:Int
 link:Option Nat
 place:Str
 void:Bool
 copies:List Str
abbrev Rows:=List Row
def lk(R:Rows)(i:Nat):Option Nat:=(R[i]?).bind (·.link)
def dt(R:Rows)(i:Nat):Int:=((R[i]?).map (·.date)).getD 0
def z9(R:Rows)(m:Int):Bool:=decide (0<=m) && (match R[m.toNat]? with|some r=> !r.void|none=>false)
theorem wF{R:Rows}{m:Int}(h:z9 R m=true):∃ (k:Nat)(r:Row),m=(k:Int)/\k<R.length/\R[k]? =some r/\r.void=false:=by
 unfold z9 at h;rw[Bool.and_eq_true,decide_eq_true_eq]at h;obtain⟨c,a⟩:=h;cases e:R[m.toNat]? with
 |none=>rw[e]at a;cases a
 |some r=>rw[e]at a;refine⟨m.toNat,r,by omega,(bYl.mp e).1,e,?_⟩;have b:(!r.void)=true:=a;simpa using b
def uQ(R:Rows):Prop:=∃a,Fm.Ok R.length (lk R) a
def wE(R:Rows)(i:Nat)(l:List Nat):Prop:=∃a,Fm.Ok R.length (lk R) a/\(l.Pairwise λx y=>uW (Fm.rd (lk R) (dt R) a x) (Fm.rd (lk R) (dt R) a y)=true)/\∀k,k∈l↔k<R.length/\Fm.tp (lk R) a k=Fm.tp (lk R) a i
theorem wE.uniq{R:Rows}{i:Nat}{l m:List Nat}(n:i<R.length)(f:wE R i l)(g:wE R i m):l=m:=by
 obtain⟨q,o,p,e⟩:=f;obtain⟨s,d,r,j⟩:=g;refine Stree.uniq (lt:=λx y=>uW (Fm.rd (lk R) (dt R) q x) (Fm.rd (lk R) (dt R) q y)=true) (λa h=>by rw[Stree.vI]at h;cases h) (λa b c f g=>Stree.Y3 f g) p ?_ λk=>?_
 ·refine r.imp_of_mem λ{x y} hx hy h=>?_;rw[Fm.aYv o d ((j x).mp hx).1,Fm.aYv o d ((j y).mp hy).1];exact h
 ·rw[e k,j k];constructor
  ·rintro⟨a,b⟩;exact⟨a,by rw[<- Fm.jY o d a,<- Fm.jY o d n];exact b⟩
  ·rintro⟨a,b⟩;exact⟨a,by rw[Fm.jY o d a,Fm.jY o d n];exact b⟩
def z7(R:Rows)(i:Nat):List Nat:=(bYn R.length).filter λk=>decide (lk R k=some i)
def W5(R:Rows)(i:Nat)(d:Int):Bool:=match R[i]? with
 |none=>false
 |some r=> !r.void && decide (1<=r.term) && decide (r.date<=d) && (z7 R i).all λk=>decide (d<dt R k)
def xR(R:Rows)(i:Nat)(f:Row->Row):Rows:=match R[i]? with
 |some r=>R.set i (f r)
 |none=>R
theorem x9(R:Rows)(i:Nat)(f:Row->Row):(xR R i f).length=R.length:=by unfold xR;split<;> simp
theorem zF(R:Rows)(i j:Nat)(f:Row->Row):(xR R i f)[j]? =if j=i then(R[j]?).map f else R[j]? :=by
 unfold xR;by_cases e:j=i
 ·subst e;rw[if_pos rfl];cases h:R[j]? with
  |none=>simp[h]
  |some r=>have a:j<R.length:=(bYl.mp h).1;simp[cX4 a]
 ·rw[if_neg e];cases h:R[i]? with
  |none=>rfl
  |some r=>simp[cZR (bYU e)]
def laid(R:Rows)(l:List Nat)(name:Str):Rows:=l.foldl (λR k=>xR R k λr=>{r with place:=name}) R
theorem qK(R:Rows)(i:Nat)(f:Row->Row)(h:∀r,(f r).link=r.link):lk (xR R i f)=lk R:=by
 funext j;unfold lk;rw[zF];by_cases e:j=i
 ·rw[if_pos e];cases R[j]? with
  |none=>rfl
  |some r=>exact h r
 ·rw[if_neg e]
theorem zR(name:Str):∀ (l:List Nat)(R:Rows),(laid R l name).length=R.length
 |[],R=>rfl
 |k::l,R=>by show(laid (xR R k _) l name).length=_;rw[zR name l,x9]
theorem aQd(name:Str):∀ (l:List Nat)(R:Rows),lk (laid R l name)=lk R
 |[],R=>rfl
 |k::l,R=>by show lk (laid (xR R k _) l name)=_;rw[aQd name l,qK R k (λr=>{r with place:=name}) λ_=>rfl]
theorem vW(name:Str):∀ (l:List Nat)(R:Rows)(j:Nat),(laid R l name)[j]? =if j∈l then(R[j]?).map (λr=>{r with place:=name})else R[j]?
 |[],R,j=>by simp[laid]
 |k::l,R,j=>by
  show(laid (xR R k _) l name)[j]? =_;rw[vW name l,zF];by_cases e:j=k
  ·subst e;rw[if_pos rfl,if_pos bYp];split
   ·cases R[j]? <;> rfl
   ·rfl
  ·rw[if_neg e];by_cases hl:j∈l
   ·rw[if_pos hl,if_pos (bYm _ hl)]
   ·rw[if_neg hl,if_neg (by simp[e,hl])]
theorem uQ.laid{R:Rows}(t:uQ R)(l:List Nat)(name:Str):uQ (laid R l name):=by
 obtain⟨a,o⟩:=t;refine⟨a,?_⟩;rw[zR,aQd];exact o
theorem uQ.same{R:Rows}(t:uQ R)(i:Nat)(f:Row->Row)(h:∀r,(f r).link=r.link):uQ (xR R i f):=by
 obtain⟨a,o⟩:=t;refine⟨a,?_⟩;rw[x9,qK R i f h];exact o
theorem aVk(R:Rows){i:Nat}(a:i<R.length)(f:Row->Row)(l:Option Nat)(h:∀r,(f r).link=l):lk (xR R i f)=λj=>if j=i then l else lk R j:=by
 funext j;unfold lk;rw[zF];by_cases e:j=i
 ·subst e;rw[if_pos rfl,if_pos rfl,bK9 a];exact h _
 ·rw[if_neg e,if_neg e]
theorem uQ.loose{R:Rows}(t:uQ R){i:Nat}(b:i<R.length)(f:Row->Row)(h:∀r,(f r).link=none):uQ (xR R i f):=by
 obtain⟨a,o⟩:=t;refine⟨a,?_⟩;rw[x9,aVk R b f none h];exact Fm.bQ7 o i
theorem uQ.hang{R:Rows}{rk:Nat->Nat}(o:Fm.Ok R.length (lk R) rk){i j:Nat}(b:i<R.length)(c:j<R.length)(h0:lk R i=none)(a:Fm.tp (lk R) rk j≠i)(f:Row->Row)(h:∀r,(f r).link=some j):uQ (xR R i f):=by
 refine⟨λk=>if Fm.tp (lk R) rk k=i then rk k+rk j+1 else rk k,?_⟩;rw[x9,aVk R b f (some j) h];exact Fm.bJv o b c h0 a
theorem bJC(R:Rows)(r:Row):∀i,i<R.length+1->lk (R++ [r]) i=if i=R.length then r.link else lk R i:=λi a=>by
 unfold lk;by_cases e:i=R.length
 ·subst e;rw[if_pos rfl,bYv (bYh _)];simp
 ·rw[if_neg e,bYF (by omega)]
theorem uQ.enter{R:Rows}(t:uQ R)(r:Row)(h:∀j,r.link=some j->j<R.length):uQ (R++ [r]):=by
 obtain⟨a,o⟩:=t;have z:=Fm.bQK o r.link h;refine⟨λi=>if i=R.length then Fm.bZ8 a r.link else a i,?_⟩;rw[bYy,cQm];exact z.congr λi b=>(bJC R r i b).symm
end Bk
namespace Bk
open PySem (Str)
open Stree (qC uW z8)
theorem aY7{n:Nat}{L:Nat->Option Nat}{D:Nat->Int}{rk:Nat->Nat}(o:Fm.Ok n L rk):∀l:List Nat,l.Nodup->(∀k∈l,k<n)->∃m:List Nat,m.Perm l/\m.Pairwise λx y=>uW (Fm.rd L D rk x) (Fm.rd L D rk y)=true
 |[],_,_=>⟨[],.refl _,.nil⟩
 |x::l,nd,h=>by
  obtain⟨m,i,r⟩:=aY7 (D:=D) o l (cXc.mp nd).2 λk c=>h k (bYm _ c);have s:x<n:=h x bYp;have g:∀k∈m,k<n/\k≠x:=λk c=>⟨h k (bYm _ (i.mem_iff.mp c)),λz=>(cXc.mp nd).1 (by rw[<- z];exact i.mem_iff.mp c)⟩;have ins:∀m:List Nat,(∀k∈m,k<n/\k≠x)->(m.Pairwise λx y=>uW (Fm.rd L D rk x) (Fm.rd L D rk y)=true)->∃d:List Nat,d.Perm (x::m)/\d.Pairwise λx y=>uW (Fm.rd L D rk x) (Fm.rd L D rk y)=true:=by
   intro m;induction m with
   |nil=>intro _ _;exact⟨[x],.refl _,cQy _ _⟩
   |cons y m t=>
    intro p q;obtain⟨a,b⟩:=cQz.mp q;have j:=p y bYp;rcases Stree.aXw (λz=>j.2 (Fm.aYu o j.1 s z):Fm.rd L D rk y≠Fm.rd L D rk x)with z|z
    ·obtain⟨d,e,f⟩:=t (λk c=>p k (bYm _ c)) b;refine⟨y::d,(List.Perm.cons _ e).trans (List.Perm.swap _ _ _),cQz.mpr ⟨λk c=>?_,f⟩⟩;rcases bYj.mp (e.mem_iff.mp c)with rfl|c
     ·exact z
     ·exact a k c
    ·refine⟨x::y::m,.refl _,cQz.mpr ⟨λk c=>?_,q⟩⟩;rcases bYj.mp c with rfl|c
     ·exact z
     ·exact Stree.Y3 z (a k c)
  obtain⟨d,e,f⟩:=ins m g r;exact⟨d,e.trans (List.Perm.cons _ i),f⟩
theorem bQt{R:Rows}(t:uQ R)(i:Nat):∃l,wE R i l:=by
 obtain⟨a,o⟩:=t;obtain⟨m,c,b⟩:=aY7 (D:=dt R) o ((bYn R.length).filter λk=>decide (Fm.tp (lk R) a k=Fm.tp (lk R) a i)) (cZi.sublist cXd) λk d=>bYI.mp (cQg.mp d).1;refine⟨m,a,o,b,λk=>?_⟩;rw[c.mem_iff,cQg,bYI,decide_eq_true_eq]
open Classical in
noncomputable def thr (R:Rows) (i:Nat):List Nat:=if h:∃l,wE R i l then choose h else []
theorem Z7{R:Rows}(t:uQ R)(i:Nat):wE R i (thr R i):=by
 have h:=bQt t i;unfold thr;rw[dif_pos h];exact Classical.choose_spec h
theorem aXi{R:Rows}{i:Nat}(b:i<R.length){l:List Nat}(h:wE R i l):thr R i=l:=
 wE.uniq b (by obtain⟨a,o,_⟩:=h;exact Z7 ⟨a,o⟩ i) h
open Classical in
noncomputable def due (shut:List Int) (d t:Int):Int:=if h:∃D,Dm.Due shut d t D then choose h else d
theorem bZA{shut:List Int}{d t D:Int}(h:Dm.Due shut d t D):due shut d t=D:=by
 have a:∃D,Dm.Due shut d t D:=⟨D,h⟩;unfold due;rw[dif_pos a];exact(Classical.choose_spec a).uniq h
structure bJb(R:Rows)(shut:List Int)(d:Int)(late:Bool)(l:List Nat):Prop where
 mem:∀k,k∈l↔k<R.length/\W5 R k d=true/\(late=true->due shut (dt R k) (((R[k]?).map (·.term)).getD 0)<d)
 ord:l.Pairwise λx y=>z8 (due shut (dt R x) (((R[x]?).map (·.term)).getD 0),(x:Int)) (due shut (dt R y) (((R[y]?).map (·.term)).getD 0),(y:Int))=true
theorem bJb.uniq{R:Rows}{shut:List Int}{d:Int}{e:Bool}{l m:List Nat}(f:bJb R shut d e l)(g:bJb R shut d e m):l=m:=
 Stree.uniq (lt:=λx y=>z8 (due shut (dt R x) (((R[x]?).map (·.term)).getD 0),(x:Int)) (due shut (dt R y) (((R[y]?).map (·.term)).getD 0),(y:Int))=true) (λa h=>by rw[Stree.vH]at h;cases h) (λa b c f g=>Stree.aXv f g) f.ord g.ord λk=>by rw[f.mem k,g.mem k]
inductive Ans where
 |num (n:Int)|txt (x:Str)|nums (l:List Nat)|txts (l:List Str)|row (r:Row)
inductive xM where
 |enter (way:Str) (day:Int) (who:Str) (term:Int)|reply (m:Int) (day term:Int)|hang (m o:Int)|loose (m:Int)|date (m d:Int)|term (m t:Int)
 |copy (m:Int) (who:Str)|file (m:Int) (name:Str)|void (m:Int)|shut (d:Int)|state (m:Int)|thread (m:Int)|copies (m:Int)|letters (name:Str)|on (late:Bool) (d:Int)
def jG(a:Str):Str:=if a="in" then "out" else "in"
inductive xU(R:Rows)(S:List Int):xM->Ans->Rows->List Int->Prop
 |enter {way who:Str} {d t:Int} (h:0<=t):xU R S (.enter way d who t) (.num R.length) (R++ [⟨way,d,who,t,none,"",false,[]⟩]) S
 |enterT {way who:Str} {d t:Int} (h:t<0):xU R S (.enter way d who t) (.txt "no term") R S
 |replyN {m d t:Int} (h:z9 R m=false):xU R S (.reply m d t) (.txt "no letter") R S
 |replyT {m d t:Int} (h:z9 R m=true) (ht:t<0):xU R S (.reply m d t) (.txt "no term") R S
 |replyE {k:Nat} {d t:Int} {r:Row} (hk:R[k]? =some r) (h:r.void=false) (ht:0<=t) (hd:d<r.date):xU R S (.reply k d t) (.txt "too early") R S
 |reply {k:Nat} {d t:Int} {r:Row} (hk:R[k]? =some r) (h:r.void=false) (ht:0<=t) (hd:r.date<=d):xU R S (.reply k d t) (.num R.length) (R++ [⟨jG r.way,d,r.partner,t,some k,r.place,false,[]⟩]) S
 |hangN {m o:Int} (h:z9 R m=false\/z9 R o=false):xU R S (.hang m o) (.txt "no letter") R S
 |hangH {i j:Nat} {r q:Row} (hi:R[i]? =some r) (hv:r.void=false) (hj:R[j]? =some q) (hw:q.void=false) (h:r.link≠none):xU R S (.hang i j) (.txt "has one") R S
 |hangO {i j:Nat} {r q:Row} (hi:R[i]? =some r) (hv:r.void=false) (hj:R[j]? =some q) (hw:q.void=false) (h:r.link=none) (ho:(thr R j).head? =some i):xU R S (.hang i j) (.txt "own thread") R S
 |hangW {i j:Nat} {r q:Row} (hi:R[i]? =some r) (hv:r.void=false) (hj:R[j]? =some q) (hw:q.void=false) (h:r.link=none) (ho:(thr R j).head? ≠some i) (h1:r.way=q.way):xU R S (.hang i j) (.txt "same way") R S
 |hangP {i j:Nat} {r q:Row} (hi:R[i]? =some r) (hv:r.void=false) (hj:R[j]? =some q) (hw:q.void=false) (h:r.link=none) (ho:(thr R j).head? ≠some i) (h1:r.way≠q.way) (h2:r.partner≠q.partner):xU R S (.hang i j) (.txt "other partner") R S
 |hangE {i j:Nat} {r q:Row} (hi:R[i]? =some r) (hv:r.void=false) (hj:R[j]? =some q) (hw:q.void=false) (h:r.link=none) (ho:(thr R j).head? ≠some i) (h1:r.way≠q.way) (h2:r.partner=q.partner) (h3:r.date<q.date):xU R S (.hang i j) (.txt "too early") R S
 |hang {i j:Nat} {r q:Row} (hi:R[i]? =some r) (hv:r.void=false) (hj:R[j]? =some q) (hw:q.void=false) (h:r.link=none) (ho:(thr R j).head? ≠some i) (h1:r.way≠q.way) (h2:r.partner=q.partner) (h3:q.date<=r.date):
   xU R S (.hang i j) (.txt "hung") (xR (laid R (thr R i) q.place) i λr=>{r with link:=some j}) S
 |oneN {m:Int} {e:xM} (h:z9 R m=false) (he:e= .loose m\/(∃d,e= .date m d)\/(∃t,e= .term m t)\/(∃w,e= .copy m w)\/(∃w,e= .file m w)\/e= .void m\/e= .state m\/e= .thread m\/e= .copies m):xU R S e (.txt "no letter") R S
 |looseN {k:Nat} {r:Row} (hk:R[k]? =some r) (hv:r.void=false) (h:r.link=none):xU R S (.loose k) (.txt "has none") R S
 |loose {k:Nat} {r:Row} (hk:R[k]? =some r) (hv:r.void=false) (h:r.link≠none):xU R S (.loose k) (.txt "loose") (xR R k λr=>{r with link:=none}) S
 |dateE {k:Nat} {r:Row} {d:Int} (hk:R[k]? =some r) (hv:r.void=false) (h:(∃j,r.link=some j/\d<dt R j)\/∃c∈z7 R k,dt R c<d):xU R S (.date k d) (.txt "too early") R S
 |date {k:Nat} {r:Row} {d:Int} (hk:R[k]? =some r) (hv:r.void=false) (h1:∀j,r.link=some j->dt R j<=d) (h2:∀c∈z7 R k,d<=dt R c):xU R S (.date k d) (.txt "dated") (xR R k λr=>{r with date:=d}) S
 |termN {k:Nat} {r:Row} {t:Int} (hk:R[k]? =some r) (hv:r.void=false) (h:t<0):xU R S (.term k t) (.txt "no term") R S
 |term {k:Nat} {r:Row} {t:Int} (hk:R[k]? =some r) (hv:r.void=false) (h:0<=t):xU R S (.term k t) (.txt "set") (xR R k λr=>{r with term:=t}) S
 |copyC {k:Nat} {r:Row} {w:Str} (hk:R[k]? =some r) (hv:r.void=false) (h:w=r.partner\/w∈r.copies):xU R S (.copy k w) (.txt "copied") R S
 |copy {k:Nat} {r:Row} {w:Str} (hk:R[k]? =some r) (hv:r.void=false) (h:w≠r.partner) (h2:w∉r.copies):xU R S (.copy k w) (.num (r.copies.length+1)) (xR R k λr=>{r with copies:=r.copies++ [w] }) S
 |file {k:Nat} {r:Row} {w:Str} (hk:R[k]? =some r) (hv:r.void=false):xU R S (.file k w) (.num (thr R k).length) (laid R (thr R k) w) S
 |voidA {k:Nat} {r:Row} (hk:R[k]? =some r) (hv:r.void=false) (h:z7 R k≠ []):xU R S (.void k) (.txt "answered") R S
 |void {k:Nat} {r:Row} (hk:R[k]? =some r) (hv:r.void=false) (h:z7 R k= []):xU R S (.void k) (.txt "void") (xR R k λr=>{r with link:=none,void:=true}) S
 |shutN {d:Int} (h:Dm.cts S d=false):xU R S (.shut d) (.txt "counts not") R S
 |shut {d:Int} (h:Dm.cts S d=true):xU R S (.shut d) (.txt "shut") R (S++ [d])
 |state {k:Nat} {r:Row} (hk:R[k]? =some r) (hv:r.void=false):xU R S (.state k) (.row r) R S
 |thread {k:Nat} {r:Row} (hk:R[k]? =some r) (hv:r.void=false):xU R S (.thread k) (.nums (thr R k)) R S
 |copies {k:Nat} {r:Row} (hk:R[k]? =some r) (hv:r.void=false):xU R S (.copies k) (.txts r.copies) R S
 |letters {w:Str}:xU R S (.letters w) (.nums ((bYn R.length).filter λk=>match R[k]? with|some r=> !r.void && decide (r.place=w)|none=>false)) R S
 |on {late:Bool} {d:Int} {l:List Nat} (h:bJb R S d late l):xU R S (.on late d) (.nums l) R S
end Bk
namespace Bk
open PySem (Str)
open Stree (qC uW z8)
theorem wE.head{R:Rows}{j:Nat}(k:j<R.length){l:List Nat}(h:wE R j l):∃c,Fm.Ok R.length (lk R) c/\l.head? =some (Fm.tp (lk R) c j):=by
 obtain⟨c,o,p,e⟩:=h;refine⟨c,o,?_⟩;have f:=Fm.bQu o k;have i:Fm.tp (lk R) c j∈l:=(e _).mpr ⟨f.1,Fm.bVS o k⟩;cases l with
 |nil=>cases i
 |cons x r=>
  by_cases z:x=Fm.tp (lk R) c j
  ·rw[z];rfl
  ·exfalso;obtain⟨a,b⟩:=cQz.mp p;have d:=(e x).mp bYp;have m:Fm.tp (lk R) c j∈r:=by
    rcases bYj.mp i with w|w
    ·exact absurd w.symm z
    ·exact w
   have n:=a _ m;have q:Fm.Un (lk R) (dt R) c (Fm.tp (lk R) c j) x:=by have:=Fm.bW1 (D:=dt R) o d.1;rw[d.2]at this;exact this
   have s:=Fm.bW0 o f.1 d.1 q z;have g:=Stree.Y3 n s;rw[Stree.vI]at g;cases g
theorem jE{R:Rows}(t:uQ R){j:Nat}(b:j<R.length):∃a,Fm.Ok R.length (lk R) a/\(thr R j).head? =some (Fm.tp (lk R) a j):=(Z7 t j).head b
theorem wB{R:Rows}{k:Nat}{r:Row}(h:R[k]? =some r):k<R.length:=(bYl.mp h).1
theorem vP{R:Rows}{k:Nat}{r:Row}(h:R[k]? =some r):lk R k=r.link:=by unfold lk;rw[h];rfl
theorem vB{R:Rows}{k:Nat}{r:Row}(h:R[k]? =some r):dt R k=r.date:=by unfold dt;rw[h];rfl
theorem xU.tree{R m:Rows}{S p:List Int}{e:xM}{a:Ans}(t:uQ R)(h:xU R S e a m p):uQ m:=by
 cases h with
 |enter h=>exact t.enter _ λj d=>nomatch d
 |reply b h v w=>exact t.enter _ λj d=>by cases d;exact wB b
 |@hang i j r q l c d hw h u n k x=>
  obtain⟨g,o,s⟩:=jE t (wB d);have f:Fm.tp (lk R) g j≠i:=λz=>u (by rw[s,z]);refine uQ.hang (R:=laid R (thr R i) q.place) (rk:=g) (i:=i) (j:=j) ?_ ?_ ?_ ?_ ?_ _ λ_=>rfl
  ·rw[zR,aQd];exact o
  ·rw[zR];exact wB l
  ·rw[zR];exact wB d
  ·rw[aQd,vP l];exact h
  ·rw[aQd];exact f
 |loose b c h=>exact t.loose (wB b) _ λ_=>rfl
 |date b c n k=>exact t.same _ _ λ_=>rfl
 |term b c h=>exact t.same _ _ λ_=>rfl
 |copy b c h k=>exact t.same _ _ λ_=>rfl
 |file b c=>exact t.laid _ _
 |void b c h=>exact t.loose (wB b) _ λ_=>rfl
 |_=>exact t
theorem bZo:uQ []:=⟨λ_=>0,⟨λi j a=>absurd a (cQX _)⟩⟩
end Bk
namespace Bk
open PySem (Str)
open Stree (qC uW z8)
def bVZ(r q:Row):Prop:=r.void=false/\q.void=false/\r.way≠q.way/\r.partner=q.partner/\q.date<=r.date/\r.place=q.place
structure qR(R:Rows):Prop where
 tree:uQ R
 way:∀r∈R,r.way="in"\/r.way="out"
 ans:∀ (i j:Nat)(r:Row),R[i]? =some r->r.link=some j->∃q,R[j]? =some q/\bVZ r q
theorem aVb:qR [] where
 tree:=bZo
 way:=λr h=>absurd h (by simp)
 ans:=λi j r h=>by simp at h
theorem aVq{w:Str}(h:w="in"\/w="out"):jG w≠w/\(jG w="in"\/jG w="out"):=by
 rcases h with rfl|rfl
 ·exact⟨by decide,.inr rfl⟩
 ·exact⟨by decide,.inl rfl⟩
theorem aQj{R:Rows}{i:Nat}{f:Row->Row}{r:Row}(h:r∈xR R i f):r∈R\/∃q∈R,r=f q:=by
 unfold xR at h;split at h
 ·rename_i q a;rcases List.mem_or_eq_of_mem_set h with h|h
  ·exact .inl h
  ·exact .inr ⟨q,bYt a,h⟩
 ·exact .inl h
theorem aZZ{R:Rows}(h:∀r∈R,r.way="in"\/r.way="out")(i:Nat)(f:Row->Row)(b:∀r,(f r).way=r.way):∀r∈xR R i f,r.way="in"\/r.way="out":=λr a=>by
 rcases aQj a with a|⟨q,c,rfl⟩
 ·exact h r a
 ·rw[b];exact h q c
theorem aVV{name:Str}:∀ (l:List Nat) {R:Rows},(∀r∈R,r.way="in"\/r.way="out")->∀r∈laid R l name,r.way="in"\/r.way="out"
 |[],R,h=>h
 |k::l,R,h=>aVV l (aZZ h k (λr=>{r with place:=name}) λ_=>rfl)
theorem bJG{R:Rows}{k i:Nat}{r:Row}(h:z7 R k= [])(a:R[i]? =some r):r.link≠some k:=λe=>by
 have:i∈z7 R k:=cQg.mpr ⟨bYI.mpr (wB a),decide_eq_true (by rw[vP a];exact e)⟩;rw[h]at this;cases this
theorem bQ9{R:Rows}{k i:Nat}{r:Row}(a:R[i]? =some r)(e:r.link=some k):i∈z7 R k:=
 cQg.mpr ⟨bYI.mpr (wB a),decide_eq_true (by rw[vP a];exact e)⟩
theorem bZm{R:Rows}(t:uQ R){i a b:Nat}{r:Row}(c:R[a]? =some r)(e:r.link=some b)(d:b<R.length):a∈thr R i↔b∈thr R i:=by
 obtain⟨f,o,_,h⟩:=Z7 t i;rw[h a,h b,Fm.v6 o (wB c) (by rw[vP c];exact e)];exact⟨λz=>⟨d,z.2⟩,λz=>⟨wB c,z.2⟩⟩
theorem bZn{R:Rows}(t:uQ R){i:Nat}(a:i<R.length):i∈thr R i:=by
 obtain⟨b,o,_,h⟩:=Z7 t i;exact(h i).mpr ⟨a,rfl⟩
theorem qR.laid{R:Rows}(b:qR R)(i:Nat)(name:Str):qR (laid R (thr R i) name) where
 tree:=b.tree.laid _ _
 way:=aVV _ b.way
 ans:=λx j r hx hl=>by
  rw[vW]at hx
  have back:∃r0,R[x]? =some r0/\r=(if x∈thr R i then {r0 with place:=name}else r0):=by
   by_cases hm:x∈thr R i
   ·rw[if_pos hm]at hx
    cases e:R[x]? with
    |none=>rw[e]at hx;cases hx
    |some r0=>rw[e]at hx;cases hx;exact⟨r0,rfl,by rw[if_pos hm]⟩
   ·rw[if_neg hm]at hx
    exact⟨r,hx,by rw[if_neg hm]⟩
  obtain⟨r0,h0,e0⟩:=back
  have hl0:r0.link=some j:=by rw[e0]at hl;split at hl<;> exact hl
  obtain⟨q0,hq0,f1,f2,f3,f4,f5,f6⟩:=b.ans x j r0 h0 hl0
  have hiff:=bZm (i:=i) b.tree h0 hl0 (wB hq0)
  refine⟨if j∈thr R i then {q0 with place:=name}else q0,by rw[vW,hq0];split<;> rfl,?_⟩
  by_cases hm:x∈thr R i
  ·rw[if_pos (hiff.mp hm),e0,if_pos hm]
   exact⟨f1,f2,f3,f4,f5,rfl⟩
  ·rw[if_neg (λz=>hm (hiff.mpr z)),e0,if_neg hm]
   exact⟨f1,f2,f3,f4,f5,f6⟩
theorem qR.set{R:Rows}(b:qR R){k:Nat}{f:Row->Row}(t:uQ (xR R k f))(hw:∀r,(f r).way=r.way)(h1:∀r j q,R[k]? =some r->(f r).link=some j->j≠k->R[j]? =some q->bVZ (f r) q/\True)(h0:∀r j,R[k]? =some r->(f r).link=some j->j≠k/\j<R.length)
  (h2:∀r i q,R[k]? =some r->R[i]? =some q->i≠k->q.link=some k->bVZ q (f r)):qR (xR R k f) where
 tree:=t
 way:=aZZ b.way k f hw
 ans:=λi j r hi hl=>by
  rw[zF]at hi
  by_cases e:i=k
  ·subst e
   rw[if_pos rfl]at hi
   cases e0:R[i]? with
   |none=>rw[e0]at hi;cases hi
   |some r0=>
    rw[e0]at hi
    cases hi
    obtain⟨hjk,hjl⟩:=h0 r0 j e0 hl
    have hq:=bK9 hjl
    exact⟨R[j],by rw[zF,if_neg hjk];exact hq,(h1 r0 j _ e0 hl hjk hq).1⟩
  ·rw[if_neg e]at hi
   obtain⟨q,hq,hf⟩:=b.ans i j r hi hl
   by_cases ej:j=k
   ·subst ej
    exact⟨f q,by rw[zF,if_pos rfl,hq];rfl,h2 q i r hq hi e hl⟩
   ·exact⟨q,by rw[zF,if_neg ej];exact hq,hf⟩
theorem aKU{R:Rows}(t:uQ R){k j:Nat}{r:Row}(h:R[k]? =some r)(e:r.link=some j):j≠k:=λz=>by
 obtain⟨a,o⟩:=t;have:=(o.lt k j (wB h) (by rw[vP h];exact e)).2;rw[z]at this;omega
theorem xU.book{R R':Rows}{S S':List Int}{e:xM}{a:Ans}(b:qR R)(hw:∀D d w t,e= .enter D d w t->D="in"\/D="out")(h:xU R S e a R' S'):qR R':=by
 have B:=h.tree b.tree;have a2:∀ (r:Row)(j:Nat) {i:Nat} {x:Row},R[i]? =some x->x.link=some j->∃q,(R++ [r])[j]? =some q/\bVZ x q:=λr j {i x} m hl=>by obtain⟨q,n,A⟩:=b.ans i j x m hl;exact⟨q,by rw[bYF (wB n)];exact n,A⟩
 have snoc:∀r:Row,(r.way="in"\/r.way="out")->(∀j,r.link=some j->∃q,R[j]? =some q/\bVZ r q)->uQ (R++ [r])->qR (R++ [r]):=λr u s t=>⟨t,λx g=>by
   rcases bYP.mp g with g|g
   ·exact b.way x g
   ·rw[bYr.mp g];exact u,λi j x m hl=>by
   by_cases a0:i<R.length
   ·rw[bYF a0]at m;exact a2 r j m hl
   ·have a4:i<(R++ [r]).length:=(bYl.mp m).1;rw[bYy,cQm]at a4;have:i=R.length:=by omega
    subst this;rw[bYv (bYh _)]at m;simp at m;subst m;obtain⟨q,n,A⟩:=s j hl;exact⟨q,by rw[bYF (wB n)];exact n,A⟩⟩
 have plain:∀ (k:Nat)(f:Row->Row),(∀r,(f r).way=r.way/\(f r).date=r.date/\(f r).partner=r.partner/\(f r).link=r.link/\(f r).place=r.place/\(f r).void=r.void)->uQ (xR R k f)->qR (xR R k f):=λk f A t=>by
  refine b.set t (λr=>(A r).1) (λr j q l hl a5 n=>?_) (λr j l hl=>?_) (λr i q l m a6 hl=>?_)
  ·obtain⟨Q,g2,Z,g4,V,g6⟩:=A r;rw[g4]at hl;obtain⟨M,c,u,s,P,Y,W,T⟩:=b.ans k j r l hl;rw[n]at c;cases c;exact⟨⟨by rw[g6];exact u,s,by rw[Q];exact P,by rw[Z];exact Y,by rw[g2];exact W,by rw[V];exact T⟩,trivial⟩
  ·rw[(A r).2.2.2.1]at hl;obtain⟨q,n,_⟩:=b.ans k j r l hl;exact⟨aKU b.tree l hl,wB n⟩
  ·obtain⟨Q,g2,Z,g4,V,g6⟩:=A r;obtain⟨M,c,u,s,P,Y,W,T⟩:=b.ans i k q m hl;rw[l]at c;cases c;exact⟨u,by rw[g6];exact s,by rw[Q];exact P,by rw[Z];exact Y,by rw[g2];exact W,by rw[V];exact T⟩
 cases h with
 |enter h=>exact snoc _ (hw _ _ _ _ rfl) (λj C=>nomatch C) B
 |@reply k d t r l h ht hd=>have O:=b.way r (bYt l);exact snoc _ (aVq O).2 (λj C=>by cases C;exact⟨r,l,rfl,h,(aVq O).1,rfl,hd,rfl⟩) B
 |@hang i j r q m H C U h ho u s P=>
  have bl:=b.laid i q.place;obtain⟨rk,o,hh⟩:=jE b.tree (wB C);have N:Fm.tp (lk R) rk j≠i:=λz=>ho (by rw[hh,z]);have X:j∉thr R i:=λz=>by obtain⟨a3,o',_,hm⟩:=Z7 b.tree i;have z2:=((hm j).mp z).2;have z3:Fm.tp (lk R) a3 i=i:=Fm.zX (by rw[vP m];exact h);rw[z3,Fm.jY o' o (wB C)]at z2;exact N z2
  have a1:=bZn b.tree (wB m);have gi:(laid R (thr R i) q.place)[i]? =some {r with place:=q.place}:=by rw[vW,if_pos a1,m];rfl
  have gj:(laid R (thr R i) q.place)[j]? =some q:=by rw[vW,if_neg X];exact C
  refine bl.set B (λ_=>rfl) (λx y z g hl p K=>?_) (λx y g hl=>?_) (λx y z g p v hl=>?_)
  ·rw[gi]at g;cases g;cases hl;rw[gj]at K;cases K;exact⟨⟨H,U,u,s,P,rfl⟩,trivial⟩
  ·cases hl;exact⟨λz=>N (by rw[z,Fm.zX (by rw[vP m];exact h)]),by rw[zR];exact wB C⟩
  ·obtain⟨M,c,F,I,E,G,L,J⟩:=bl.ans y i z p hl;rw[g]at c;cases c;exact⟨F,I,E,G,L,J⟩
 |@loose k r l H h=>refine b.set B (λ_=>rfl) (λx y z g hl=>nomatch hl) (λx y g hl=>nomatch hl) (λx y z g p v hl=>?_);obtain⟨M,c,F,I,E,G,L,J⟩:=b.ans y k z p hl;rw[g]at c;cases c;exact⟨F,I,E,G,L,J⟩
 |@date k r d l H u s=>
  refine b.set B (λ_=>rfl) (λx y z g hl v K=>?_) (λx y g hl=>?_) (λx y z g p v hl=>?_)
  ·rw[l]at g;cases g;obtain⟨M,c,F,I,E,G,L,J⟩:=b.ans k y r l hl;rw[K]at c;cases c;exact⟨⟨F,I,E,G,by rw[<- vB K];exact u y hl,J⟩,trivial⟩
  ·obtain⟨q,n,_⟩:=b.ans k y x g hl;exact⟨aKU b.tree g hl,wB n⟩
  ·obtain⟨M,c,F,I,E,G,L,J⟩:=b.ans y k z p hl;rw[g]at c;cases c;exact⟨F,I,E,G,by rw[<- vB p];exact s y (bQ9 p hl),J⟩
 |term l H h=>exact plain _ _ (λr=>⟨rfl,rfl,rfl,rfl,rfl,rfl⟩) B
 |copy l H h s=>exact plain _ _ (λr=>⟨rfl,rfl,rfl,rfl,rfl,rfl⟩) B
 |file l H=>exact b.laid _ _
 |void l H h=>exact b.set B (λ_=>rfl) (λx y z g hl=>nomatch hl) (λx y g hl=>nomatch hl) (λx y z g p v hl=>absurd hl (bJG h p))
 |_=>exact b
end Bk
namespace Law
open PySem L2 PyProof.Rows
open Bk (Row Rows)
def aZi(x:Str):Stmt->Bool
 |.FunctionDef n _ _ _ _ _ _ _ _ _=>n==x
 |_=>false
def xC(x:Str):Stmt:=(PySem.Challenge.pw_letterdesk_k05_whole_numbers_and_trees.main.body.find? (aZi x)).getD (.Pass ⟨0,0,0,0⟩)
abbrev bVe:Stmt:=xC "_law_good"
abbrev bXM:Stmt:=xC "_law_kids_of"
theorem y9:bYT "len"=some (.builtin "len"):=dk
structure vA(mg:Str->Option bYa):Prop where
 b_len:mg "len"=none
 b_range:mg "range"=none
def wN:Option Nat->V
 |none=> .non
 |some j=> .int (j:Nat)
def bV4(H:Hp)(b:Nat)(r:Row):Prop:=∃a,H b=some (.lst [.str r.way,.int r.date,.str r.partner,.int r.term,wN r.link,.str r.place,.bl r.void,.ref a])/\H a=some (.lst (r.copies.map V.str))
structure y8(H:Hp)(ra:Nat)(rs:List Nat)(R:Rows):Prop where
 lst:H ra=some (.lst (rs.map V.ref))
 len:rs.length=R.length
 nd:rs.Nodup
 row:∀ (i:Nat)(b:Nat)(r:Row),rs[i]? =some b->R[i]? =some r->bV4 H b r
theorem y8.get{H:Hp}{f:Nat}{a:List Nat}{R:Rows}(h:y8 H f a R){i:Nat}{r:Row}(d:R[i]? =some r):∃b,(a.map V.ref)[i]? =some (.ref b)/\a[i]? =some b/\bV4 H b r:=by
 have e:i<a.length:=by rw[h.len];exact Bk.wB d
 have c:=bK9 e;exact⟨a[i],by rw[bYu,c];rfl,c,h.row i _ r c d⟩
def Z6:Sp:=λb H Q _=>∃ (a:Nat)(c:List Nat)(R:Rows)(m:Int),b= [.ref a,.int m]/\y8 H a c R/\Q (.bl (Bk.z9 R m)) H
section
variable {K:bYc}
theorem bVt:yO ["_law_rows","_law_number"] ["_law_rows","_law_number"] (yH bVe):=scM
theorem bJM(T:vA mg)(F:Fun K "_law_good" "_law_good" bVe f fd):xD P w K mg base CX0 1 f fd ["_law_rows","_law_number"] Z6:=by
 have i:=bVt;refine F.ok (k:=0) i (λo A outer s H p Q E r h=>?_);obtain⟨g,j,R,m,rfl,c,q⟩:=h;refine⟨_,(yF (yP (aVt (zE aYj yE (pv 1)) (aVt (zE vC (pv 1) (yT yN rfl T.b_len y9 (yA (pv 0) yD))) (aZB (bZR (yL yI (yL yI (pv 0) (pv 1)) yE))))))),?_⟩;refine⟨_,rfl,_,_,rfl,rfl,_,rfl,?_⟩;unfold Bk.z9 at q;cases d:decide (0<=m)with
 |false=>rw[d,Bool.false_and]at q;exact onF rfl q
 |true=>
  rw[d,Bool.true_and]at q;have h0:0<=m:=of_decide_eq_true d;refine onT rfl ⟨_,rfl,_,rfl,g,_,rfl,.inl (SqL.of c.lst),_,_,rfl,rfl,_,rfl,?_⟩;have hl:(j.map V.ref).length=R.length:=by rw[bYe];exact c.len
  rw[hl];obtain⟨k,rfl⟩:∃k:Nat,m=(k:Int):=⟨m.toNat,by omega⟩;rw[bYH]at q;cases e:decide ((k:Int)<(R.length:Nat))with
  |false=>
   have a:R.length<=k:=by have:=of_decide_eq_false e;omega
   rw[bYL a]at q;exact onF rfl q
  |true=>
   have a:k<R.length:=by have:=of_decide_eq_true e;omega
   obtain⟨b,n,v,u,l,t⟩:=c.get (bK9 a);rw[bK9 a]at q;refine onT rfl ⟨_,rfl,_,rfl,g,_,_,_,rfl,rfl,SqL.of c.lst,yR n,b,_,6,_,rfl,rfl,SqL.of l,rfl,_,rfl,q⟩
theorem bVw:yO ["_law_rows","_law_number"] ["_law_rows","_law_number"] (yH bXM):=scM
theorem bJB:xJ ["_law_rows","_law_number"] (yH bXM) "_law_k" ["_law_number","_law_rows"] [1,0] {kind:= .function,names:= [(".0",.local),("_law_k",.local),("_law_number",.free),("_law_rows",.free)],isGenerator:=false,isCoroutine:=false,more:= [] }:=
 lcM
def aVL:Sp:=λb H Q _=>∃ (a:Nat)(c:List Nat)(R:Rows)(m:Nat),b= [.ref a,.int (m:Nat)]/\y8 H a c R/\R.length<=100/\∀r,H r=none->Q (.ref r) (upd H r (.lst ((Bk.z7 R m).map λi=>V.int (i:Nat))))
theorem aJe{o:Option Nat}{m:Nat}:decide (wN o=V.int (m:Nat))=decide (o=some m):=by
 cases o with
 |none=>rfl
 |some j=>show decide (V.int (j:Nat)=V.int (m:Nat))=decide (some j=some m);rw[Bool.eq_iff_iff];simp;omega
theorem bJP(T:vA mg)(F:Fun K "_law_kids_of" "_law_kids_of" bXM f fd):xD P w K mg base CX0 1 f fd ["_law_rows","_law_number"] aVL:=by
 have p:=bVw;refine F.ok (k:=0) p (λt A outer s H x Q E y h=>?_);obtain⟨d,n,R,m,rfl,c,hR,q⟩:=h;refine⟨_,(yF (yP (W3 bJB rfl (xW rfl T.b_range (yA (yT yN rfl T.b_len y9 (yA (pv 0) yD)) yD)) (λ_ _ _ _ _=>(wU (yM x8 (yL (show IxR _ (aXW K)from yI) (yL (show IxR _ (aXW K)from yI) (pv 2) (pv 0)) yE) (pv 1)))) (λ_ _ _ _ _=>(pv 0))))),?_⟩;have hl:(n.map V.ref).length=R.length:=by rw[bYe];exact c.len
 refine⟨_,rfl,d,_,rfl,.inl (SqL.of c.lst),?_⟩;rw[hl];refine⟨_,rfl,by omega,by omega,λD e=>?_⟩;rw[bYH];refine W7 (λk=>decide (Bk.lk R k=some m)) (λk=>V.int (k:Nat)) e (by rw[bYJ];omega) (λk i j u l a=>?_) (λk i _ j u l a=>⟨_,rfl,a⟩) (q D e);obtain⟨b,r,C,B,o,z⟩:=c.get (bK9 i);have g:j d=some (.lst (n.map V.ref)):=by rw[l d (yK c.lst e)];exact c.lst
 have v:j b=_:=(l b (yK o e)).trans o;refine⟨_,rfl,_,rfl,d,_,_,_,rfl,rfl,SqL.of g,yR r,b,_,4,_,rfl,rfl,SqL.of v,rfl,_,rfl,?_,_,rfl,?_⟩
 ·cases R[k].link<;> rfl
 ·rw[aJe,<- Bk.vP (bK9 i)];exact a
end
end Law
namespace L2
open PySem PySem.Spec PyProof.Rows
section
variable {X:Cx}
theorem aKo(G:X.calm=true):jM X (.builtin "min") (λC H Q=>∃ (p:Nat)(c:List Int),C= [.ref p]/\SqL X.K H p (c.map V.int)/\c≠ []/\∀m,m∈c->(∀x∈c,m<=x)->Q (.int m) H):=by
 intro E s σ H C W Q I r h;obtain⟨p,c,rfl,U,y,q⟩:=h;obtain⟨u,rfl,J⟩:=aQS r;cases J;obtain⟨a,S,w,hz⟩:=I.list U;have D:cXI a c:=aQ8 S;have d:a.length=c.length:=D.length;have n:0<a.length:=by rw[d];exact cQr.mpr y
 obtain⟨o,O,_⟩:=id w.isList;have l:p<s.heap.objs.size:=bYo O;have f:∀ (i:Nat)(v:bYa),a.toArray[i]? =some v->∃t,v=Value.int (c.getD i 0) t:=λi v B=>cJc D i v (by simpa using B);refine call_min_walk (cJp w.isList ?_);refine⟨s.heap.objs.size,[s.heap.objs.size,p],[s.heap.objs.size],a.toArray.size,_,_,_,rfl,Walks.list (A:=X.A.in1) (by simpa using I.ok.hd G) _ p (bYA l) a.toArray,⟨⟨_,bYE _ rfl,rfl,rfl⟩,w.isList.push _⟩,λb g=>?_,by rw[bYs];exact n,CmpOf.ints_lt (λi=>c.getD i 0) f,λv Z tk B L=>?_⟩
 ·show b<(s.heap.push _).objs.size;rw[cQJ];rcases bYj.mp g with rfl|g
  ·exact cQ2 _
  ·rw[bYr.mp g];exact cQk l
 ·obtain⟨t,rfl⟩:=f _ _ B;obtain⟨Y,M⟩:=argBest_lt (λi=>c.getD i 0) (a.toArray.size - 1);have N:a.toArray.size=c.length:=by rw[bYs];exact d
  have g:argBest (λi j=>decide (c.getD i 0<c.getD j 0)) (a.toArray.size - 1)<c.length:=by omega
  refine⟨.int _,H,I.kept (t':=tk) λb P e=>L b P (λz=>by rw[bYr.mp z]at e;exact cQi _ (bYo e)) (bYf _ e),⟨t,rfl⟩,q _ ?_ λx T=>?_⟩
  ·generalize argBest (λi j=>decide (c.getD i 0<c.getD j 0)) (a.toArray.size - 1)=k at g;simp[bYX,bK9 g]
  ·obtain⟨j,R,e⟩:=bY1 T;have:=M j (by omega);have F:c.getD j 0=x:=by simp[bYX,bK9 R,e]
   rw[F]at this;exact this
end
end L2
namespace Law
open PySem L2 PyProof.Rows
open Bk (Row Rows)
abbrev aVB:Stmt:=xC "_law_waits_on"
theorem aKl:bYT "min"=some (.builtin "min"):=dk
theorem bV4.same{H a:Hp}{b:Nat}{r:Row}(h:bV4 H b r)(k:xA H a):bV4 a b r:=let ⟨cp,e1,e2⟩:=h;⟨cp,k _ _ e1,k _ _ e2⟩
theorem y8.same{H d:Hp}{c:Nat}{a:List Nat}{R:Rows}(h:y8 H c a R)(k:xA H d):y8 d c a R:=
 ⟨k _ _ h.lst,h.len,h.nd,λi b r f e=>(h.row i b r f e).same k⟩
def bQn:Sp:=λc H Q _=>∃ (a:Nat)(e:List Nat)(R:Rows)(k:Nat)(d:Int),c= [.ref a,.int (k:Nat),.int d]/\y8 H a e R/\R.length<=100/\k<R.length/\∀b,xA H b->Q (.bl (Bk.W5 R k d)) b
section
variable {K:bYc}
theorem bX7:yO ["_law_rows","_law_number","_law_date","_law_one","_law_dates"] ["_law_rows","_law_number","_law_date"] (yH aVB):=scM
theorem bQ4:xJ ["_law_rows","_law_number","_law_date","_law_one","_law_dates"] (yH aVB) "_law_k" ["_law_rows"] [0] {kind:= .function,names:= [(".0",.local),("_law_k",.local),("_law_rows",.free)],isGenerator:=false,isCoroutine:=false,more:= [] }:=
 lcM
def dtV(R:Rows):V->V
 |.int n=> .int (Bk.dt R n.toNat)
 |_=> .non
theorem bXx(T:vA mg)(z:mg "min"=none)(a:FnG P w K mg base 1 "_law_kids_of" ["_law_rows","_law_number"] aVL)(F:Fun K "_law_waits_on" "_law_waits_on" aVB f fd):xD P w K mg base CX0 2 f fd ["_law_rows","_law_number","_law_date"] bQn:=by
 have sc:=bX7;refine F.ok (k:=1) sc (λa1 A outer s H0 vs Q E W h=>?_);obtain⟨x,rs,R,k,d,rfl,C,hR,hk,q⟩:=h;refine⟨_,(yC (yU (i:=3) (yL yI (pv 0) (pv 1))) (yC (y0 (PW.pt (vD (xP (yL yI (pv 3) yE)) (vD (yM vC (yL yI (pv 3) yE) yE) (wM (yM aQl (yL yI (pv 3) yE) (pv 2)))))) (yF (yP wO)) yS) (yC (aZE (i:=4) bQ4 rfl sc.nd rfl rfl (xN (xK a W rfl (yA (pv 0) (yA (pv 1) yD)))) (λ_ _ _ _ _=>zT) (λ_ _ _ _ _=>(yL (show IxR _ (aXW K)from yI) (yL (show IxR _ (aXW K)from yI) (pv 1) (pv 0)) yE))) (yF (yP (bWB (zE (aVo W.units0) (pv 4) (y6 yD)) (aZB (zE aQl (yT (aKo rfl) rfl z aKl (yA (pv 4) yD)) (pv 2))))))))),?_⟩;have t:=bK9 hk;obtain⟨b,g1,g2,cp,M,g4⟩:=C.get t;have qw:Bk.W5 R k d=(!R[k].void && decide (1<=R[k].term) && decide (R[k].date<=d) && (Bk.z7 R k).all λj=>decide (d<Bk.dt R j)):=by unfold Bk.W5;rw[t]
 rw[qw]at q;refine⟨_,rfl,_,rfl,x,_,_,_,rfl,rfl,SqL.of C.lst,yR g1,?_⟩;dsimp only[yW];refine⟨_,rfl,b,_,6,_,rfl,rfl,SqL.of M,rfl,_,rfl,?_⟩;cases y:R[k].void with
 |true=>rw[y]at q;exact onT rfl (onT rfl (q _ (xA.refl _)))
 |false=>
  rw[y]at q;refine onF rfl ⟨_,rfl,b,_,3,_,rfl,rfl,SqL.of M,rfl,_,_,rfl,rfl,_,rfl,?_⟩;cases ht:decide (R[k].term<1)with
  |true=>have:decide (1<=R[k].term)=false:=decide_eq_false (by have:=of_decide_eq_true ht;omega);rw[this]at q;exact onT rfl (onT rfl (q _ (xA.refl _)))
  |false=>
   have:decide (1<=R[k].term)=true:=decide_eq_true (by have:=of_decide_eq_false ht;omega);rw[this]at q;refine onF rfl ⟨_,rfl,b,_,1,_,rfl,rfl,SqL.of M,rfl,_,rfl,_,_,rfl,rfl,_,rfl,?_⟩;cases X:decide (R[k].date > d)with
   |true=>have:decide (R[k].date<=d)=false:=decide_eq_false (by have:=of_decide_eq_true X;omega);rw[this]at q;exact onT rfl (q _ (xA.refl _))
   |false=>
    have:decide (R[k].date<=d)=true:=decide_eq_true (by have:=of_decide_eq_false X;omega);rw[this]at q;refine onF rfl ?_;refine⟨_,rfl,_,rfl,x,rs,R,k,rfl,C,hR,λr G=>⟨r,rfl,⟨_,SqL.of yB⟩,λD B=>?_⟩⟩;have U:=yG G (.lst ((Bk.z7 R k).map λi=>V.int (i:Nat)));have g:=C.same U;have a0:(Bk.z7 R k).length<=R.length:=by have:=cQe (λj=>decide (Bk.lk R j=some k)) (bYn R.length);rw[bYW]at this;exact this
    refine aZr (λ_=>true) (dtV R) (SqL.of yB) B (zn (by rw[bYe];omega)) (λv y Y R' _ h=>h) (λv y _ Y R' Z u=>?_) ?_
    ·obtain⟨j,hj,rfl⟩:=cQa.mp y;have I:j<R.length:=bYI.mp (cQg.mp hj).1;have o:=bK9 I;obtain⟨bj,j1,j2,cj,j3,j4⟩:=g.get o;have L:Y x=some (.lst (rs.map V.ref)):=by rw[Z x (yK g.lst B)];exact g.lst
     have O:=(Z bj (yK j3 B)).trans j3;have e:dtV R (V.int (j:Nat))=V.int R[j].date:=by show V.int (Bk.dt R (j:Int).toNat)=_;rw[bYH,Bk.vB o]
     rw[e]at u;exact⟨_,rfl,_,rfl,x,_,_,_,rfl,rfl,SqL.of L,yR j1,bj,_,1,_,rfl,rfl,SqL.of O,rfl,u⟩
    ·have ff:((Bk.z7 R k).map λi=>V.int (i:Nat)).filter (λ_=>true)=(Bk.z7 R k).map λi=>V.int (i:Nat):=cXV.mpr λ_ _=>rfl;have em:((Bk.z7 R k).map λi=>V.int (i:Nat)).map (dtV R)=((Bk.z7 R k).map (Bk.dt R)).map V.int:=by
      rw[cXy,cXy];refine cZ1 λj _=>?_;show V.int (Bk.dt R (j:Int).toNat)=V.int (Bk.dt R j);rw[bYH]
     rw[ff,em];dsimp only[yW];have k2:=yG B (.lst (((Bk.z7 R k).map (Bk.dt R)).map V.int));have c:upd (upd H0 r (.lst ((Bk.z7 R k).map λi=>V.int (i:Nat)))) D (.lst (((Bk.z7 R k).map (Bk.dt R)).map V.int)) D=some (.lst (((Bk.z7 R k).map (Bk.dt R)).map V.int)):=yB;have kA:=U.trans k2;generalize upd (upd H0 r (.lst ((Bk.z7 R k).map λi=>V.int (i:Nat)))) D (.lst (((Bk.z7 R k).map (Bk.dt R)).map V.int))=H2 at c kA ⊢;refine⟨_,rfl,z0,λpn S=>?_⟩;have H:=yG S (.lst []);refine⟨D,pn,_,rfl,rfl,SqL.of (H _ _ c),SqL.of yB,_,rfl,?_⟩;have p:=q _ (kA.trans H);cases n:Bk.z7 R k with
     |nil=>rw[n]at p;exact onT rfl p
     |cons j l=>
      rw[n]at p;refine onF rfl ⟨_,rfl,D,(j::l).map (Bk.dt R),rfl,SqL.of (by rw[<- n];exact H _ _ c),by simp,λm hm N=>?_⟩;refine⟨_,rfl,_,_,rfl,rfl,?_⟩;have e:((!false && true && true && (j::l).all λj=>decide (d<Bk.dt R j)):Bool)=decide (m > d):=by
       rw[Bool.eq_iff_iff];simp only[Bool.not_false,Bool.true_and,cZh,decide_eq_true_eq];constructor
       ·intro h;obtain⟨i,J,rfl⟩:=cQa.mp hm;exact h i J
       ·intro h i J;have:=N _ (cQa.mpr ⟨i,J,rfl⟩);omega
      rw[e]at p;exact p
end
end Law
namespace Bk
theorem aZa:∀shut:List Int,∃C:List Int,C.Pairwise (·<·)/\∀d,d∈C↔d∈shut/\Dm.opn d=true
 |[]=>⟨[],.nil,λd=>by simp⟩
 |x::l=>by
  obtain⟨C,n,o⟩:=aZa l;have ins:∀C:List Int,C.Pairwise (·<·)->∃g:List Int,g.Pairwise (·<·)/\∀d,d∈g↔d=x\/d∈C:=by
   intro C;induction C with
   |nil=>intro _;exact⟨[x],cQy _ _,λd=>by simp⟩
   |cons y C p=>
    intro h;obtain⟨a,b⟩:=cQz.mp h;by_cases e:x=y
    ·subst e;exact⟨x::C,h,λd=>by simp⟩
    ·by_cases k:x<y
     ·refine⟨x::y::C,cQz.mpr ⟨λd f=>?_,h⟩,λd=>by simp⟩;rcases bYj.mp f with rfl|f
      ·exact k
      ·have:=a d f;omega
     ·obtain⟨g,j,i⟩:=p b;refine⟨y::g,cQz.mpr ⟨λd f=>?_,j⟩,λd=>?_⟩
      ·rcases(i d).mp f with rfl|f
       ·omega
       ·exact a d f
      ·rw[bYj,i d,bYj];constructor
       ·rintro(h|h|h)
        ·exact .inr (.inl h)
        ·exact .inl h
        ·exact .inr (.inr h)
       ·rintro(h|h|h)
        ·exact .inr (.inl h)
        ·exact .inl h
        ·exact .inr (.inr h)
  by_cases m:Dm.opn x=true
  ·obtain⟨g,j,i⟩:=ins C n;refine⟨g,j,λd=>?_⟩;rw[i d,o d,bYj];constructor
   ·rintro(rfl|⟨h,c⟩)
    ·exact⟨.inl rfl,m⟩
    ·exact⟨.inr h,c⟩
   ·rintro⟨h|h,c⟩
    ·exact .inl h
    ·exact .inr ⟨h,c⟩
  ·refine⟨C,n,λd=>?_⟩;rw[o d,bYj];constructor
   ·rintro⟨h,c⟩;exact⟨.inr h,c⟩
   ·rintro⟨h|h,c⟩
    ·rw[h]at c;exact absurd c m
    ·exact⟨h,c⟩
theorem bWf(shut:List Int)(d:Int){t:Int}(b:1<=t):Dm.Due shut d t (due shut d t):=by
 obtain⟨C,c,a⟩:=aZa shut;have h:=Dm.bZB (date:=d) b c a;rw[bZA h];exact h
end Bk
namespace Law
open PySem L2 PyProof.Rows
open Bk (Row Rows)
abbrev aYD:Stmt:=xC "_law_due_by"
abbrev aXH:Stmt:=xC "_law_list_on"
theorem wZ:bYT "sorted"=some (.builtin "sorted"):=dk
def bQe(K:bYc):Sp:=λc H Q _=>∃ (a:Nat)(b:List Int)(d t D:Int),c= [.ref a,.int d,.int t]/\SqL K H a (b.map V.int)/\Dm.Due b d t D/\Q (.int D) H
section
variable {K:bYc}
theorem uU(d:Int):∀ns:List Int,inV (.int d) (ns.map V.int)=ns.contains d
 |[]=>rfl
 |n::r=>by have a:=uU d r;unfold inV at a ⊢;rw[bY0,cXs,a,cXx];congr 1;show(n==d)=(d==n);rw[Bool.eq_iff_iff,beq_iff_eq,beq_iff_eq];exact eq_comm
theorem uI:∀ns:List Int,(ns.map V.int).all W0=true
 |[]=>rfl
 |n::r=>by rw[bY0,cZm,uI r];rfl
theorem bXV:yO ["_law_shut","_law_date","_law_term","_law_many"] ["_law_shut","_law_date","_law_term"] (yH aYD):=scM
theorem bXl(T:vA mg)(F:Fun K "_law_due_by" "_law_due_by" aYD f fd):xD P w K mg base CX0 1 f fd ["_law_shut","_law_date","_law_term"] (bQe K):=by
 have C:=bXV;refine F.ok (k:=0) C (λL A outer s I M Q E N h=>?_);obtain⟨a,g,d,t,D,rfl,J,r,q⟩:=h;refine⟨_,(yC (yU (i:=3) yE) (yC (u4 bYY (yM vC (pv 3) (pv 2)) (yC (yU (i:=1) (yV x3 (pv 1) yE)) (yF (y0 (PW.pt (vJ (yM vC (yV y3 (pv 1) yE) yE) (wP (yM Z4 (pv 1) (pv 0))))) (yF (yU (i:=3) (yV x3 (pv 3) yE))) yS)))) (yF (yP (pv 1))))),?_⟩;refine⟨λm σ H=>∃n:Nat,σ= [some (.ref a),some (.int (d+n)),some (.int t),some (.int (Dm.cnt g (d+1) n))]/\H=I/\d+n<=D/\m=(D - (d+n)).toNat,⟨(D - d).toNat,0,?_,rfl,by have:=r.later;omega,by simp⟩,?_⟩
 ·rw[show d+((0:Nat):Int)=d by simp];rfl
 rintro m σ H ⟨n,rfl,rfl,p,rfl⟩;refine⟨_,rfl,_,rfl,_,_,rfl,rfl,_,rfl,?_⟩;refine qB (λc=>?_) (λc=>?_)
 ·have v:((Dm.cnt g (d+1) n:Nat):Int)<t:=of_decide_eq_true c;have G:d+n<D:=by
   by_cases e:d+n=D
   ·have:=r.cnt;rw[<- e,show(d+n - d).toNat=n by omega]at this;omega
   ·omega
  refine⟨λo B=>∃x,x<(D - (d+n)).toNat/\∃n:Nat,o= [some (.ref a),some (.int (d+n)),some (.int t),some (.int (Dm.cnt g (d+1) n))]/\B=H/\d+n<=D/\x=(D - (d+n)).toNat,λo B z=>z,?_⟩;refine⟨_,rfl,_,_,rfl,rfl,?_⟩;dsimp only[yW];have l:Dm.cnt g (d+1) (n+1)=Dm.cnt g (d+1) n+(if Dm.cts g (d+1+n)then 1 else 0):=rfl;have j:d+((n+1:Nat):Int)=d+n+1:=by omega
  refine⟨_,rfl,_,_,rfl,rfl,(show(0:Int)<7 by decide),_,_,rfl,rfl,_,rfl,?_⟩;have b:Dm.cts g (d+1+n)=(decide ((d+n+1) % 7<5) && !(g.contains (d+n+1))):=by rw[show d+1+(n:Int)=d+n+1 by omega];rfl
  cases y:decide ((d+(n:Int)+1) % 7<5)with
  |false=>rw[y,Bool.false_and]at b;rw[b]at l;refine onF rfl (onF rfl ⟨(D - (d+(n+1:Nat))).toNat,by omega,n+1,?_,rfl,by omega,rfl⟩);rw[l,j];rfl
  |true=>
   rw[y,Bool.true_and]at b;refine onT rfl ⟨_,rfl,_,rfl,a,_,rfl,.inl J,rfl,uI g,_,rfl,?_⟩;rw[if_pos rfl,uU];cases u:g.contains (d+(n:Int)+1)with
   |true=>rw[u]at b;rw[b]at l;refine onF rfl ⟨(D - (d+(n+1:Nat))).toNat,by omega,n+1,?_,rfl,by omega,rfl⟩;rw[l,j];rfl
   |false=>rw[u]at b;rw[b]at l;refine onT rfl ⟨_,rfl,_,_,rfl,rfl,(D - (d+(n+1:Nat))).toNat,by omega,n+1,?_,rfl,by omega,rfl⟩;rw[l,j];simp
 ·have v:¬ ((Dm.cnt g (d+1) n:Nat):Int)<t:=of_decide_eq_false (Bool.eq_false_iff.mpr c);have e:d+n=D:=by
   refine Int.le_antisymm p (Int.not_lt.mp λz=>v (r.less z))
  refine⟨_,rfl,?_⟩;rw[e];exact q
noncomputable def jI (R:Rows) (shut:List Int) (k:Nat):Int:=Bk.due shut (Bk.dt R k) (((R[k]?).map (·.term)).getD 0)
noncomputable def qQ (R:Rows) (shut:List Int) (d:Int) (a:Bool) (k:Nat):Bool:=Bk.W5 R k d && (!a || decide (jI R shut k<d))
def aVM:Sp:=λf H Q _=>∃ (c e:Nat)(g:List Nat)(R:Rows)(shut:List Int)(d:Int)(a:Bool),f= [.ref c,.ref e,.int d,.bl a]/\y8 H c g R/\H e=some (.lst (shut.map V.int))/\R.length<64/\
 ∀ (r:Nat)(b:Hp)(l:List Nat),xA H b->H r=none->b r=some (.lst (l.map λi=>V.int (i:Nat)))->Bk.bJb R shut d a l->Q (.ref r) b
def aKd(H:Hp)(g:Nat->Int)(k:Nat)(x:V):Prop:=∃p,x= .ref p/\H p=some (.tup [.int (g k),.int (k:Nat)])
theorem aKd.tk{H c:Hp}{g:Nat->Int}(t:∀a b,H a=some (.tup b)->c a=some (.tup b)){k:Nat}{x:V}(h:aKd H g k x):aKd c g k x:=let ⟨p,e,a⟩:=h;⟨p,e,t _ _ a⟩
theorem aXk{R:Rows}{k:Nat}{d:Int}(a:k<R.length)(h:Bk.W5 R k d=true):1<=R[k].term:=by
 unfold Bk.W5 at h;rw[bK9 a]at h;simp only[Bool.and_eq_true,decide_eq_true_eq]at h;exact h.1.1.2
theorem aY0:yO ["_law_rows","_law_shut","_law_date","_law_late","_law_made","_law_k","_law_last"] ["_law_rows","_law_shut","_law_date","_law_late"] (yH aXH):=scM
theorem aKP:xJ ["_law_rows","_law_shut","_law_date","_law_late","_law_made","_law_k","_law_last"] (yH aXH) "_law_pair" [] [] {kind:= .function,names:= [(".0",.local),("_law_pair",.local)],isGenerator:=false,isCoroutine:=false,more:= [] }:=
 lcM
theorem bQx{α β:Type}{F:α->β->Prop}:∀ {l:List α} {m:List β} {i:Nat} {y:β},bY3 F l m->m[i]? =some y->∃x,l[i]? =some x/\F x y
 |_,_,0,_,.cons r _,h=>by simp at h;subst h;exact⟨_,rfl,r⟩
 |_,_,i+1,_,.cons _ t,h=>by simpa using bQx (i:=i) t (by simpa using h)
 |_,_,i,_,.nil,h=>by simp at h
theorem aXc{α β:Type}{F:α->β->Prop}{x:α}{y:β}(r:F x y):∀ {l:List α} {m:List β},bY3 F l m->bY3 F (l++ [x]) (m++ [y])
 |_,_,.nil=> .cons r .nil
 |_,_,.cons a t=> .cons a (aXc r t)
theorem aQR{a H:Hp}{c:Nat}{o:HO}(k:xA a H)(h:a c=none):xA a (upd H c o):=λb u q=>by rw[yJ (yK q h)];exact k b u q
def bKa(H:Hp):V->V
 |.ref p=>match H p with
  |some (.tup [_,y])=>y
  |_=> .non
 |_=> .non
theorem aVD{H:Hp}{p:Nat}{x y:V}(h:H p=some (.tup [x,y])):bKa H (.ref p)=y:=by
 show(match H p with|some (.tup [_,y])=>y|_=>V.non)=y;rw[h]
theorem aYe(T:vA mg)(I:mg "sorted"=none)(o:FnG P w K mg base 2 "_law_waits_on" ["_law_rows","_law_number","_law_date"] bQn)(C:FnG P w K mg base 2 "_law_due_by" ["_law_shut","_law_date","_law_term"] (bQe K)) (F:Fun K "_law_list_on" "_law_list_on" aXH f fd):xD P w K mg base CX0 3 f fd ["_law_rows","_law_shut","_law_date","_law_late"] aVM:=by
 have sc:=aY0;refine F.ok (k:=2) sc (λc1 A outer s H0 vs Q E hr h=>?_);obtain⟨U,sa,rs,R,shut,d,c,rfl,hB,b4,hR,q⟩:=h;refine⟨_,(yC (yU (i:=4) (y6 yD)) (yC (zL bYY rfl (xW rfl T.b_range (yA (yT yN rfl T.b_len y9 (yA (pv 0) yD)) yD)) (xB (i:=5)) (yF (y0 (xP (xK o hr rfl (yA (pv 0) (yA (pv 5) (yA (pv 2) yD))))) (yC (yU (i:=6) (xK C hr rfl (yA (pv 1) (yA (yL yI (yL yI (pv 0) (pv 5)) yE) (yA (yL yI (yL yI (pv 0) (pv 5)) yE) yD))))) (yF (y0 (PW.pt (vD (wA (xP (pv 3))) (wM (yM vC (pv 6) (pv 2))))) (yF (yY (uC bYM bYR bYS xL (pv 4) (yA (xI (yA (pv 6) (yA (pv 5) yD))) yD)))) yS))) yS))) (yF (yP (W3 aKP rfl (xN (yT v7 rfl I wZ (yA (pv 4) yD))) (λ_ _ _ _ _=>zT) (λ_ _ _ _ _=>(yL (show IxR _ (bZT K)from yX) (pv 0) yE))))))),?_⟩;refine⟨z0,λJ a8=>?_⟩;dsimp only[yW];have k1:=yG a8 (.lst []);have hl:(rs.map V.ref).length=R.length:=by rw[bYe];exact hB.len
 refine⟨_,rfl,U,_,rfl,.inl (SqL.of (k1 _ _ hB.lst)),?_⟩;rw[hl];refine⟨_,rfl,by omega,by omega,?_⟩;rw[bYH];refine zK (λt σ H=>∃ (g:List V)(S O:Option V),σ= [some (.ref U),some (.ref sa),some (.int d),some (.bl c),some (.ref J),S,O]/\xA H0 H/\H J=some (.lst g)/\
  bY3 (aKd H (jI R shut)) ((bYn t).filter (qQ R shut d c)) g) ?_ ?_ ?_
 ·exact⟨[],none,none,rfl,k1,yB,.nil⟩
 ·rintro k σ H hk ⟨g,S,O,rfl,y,B,W⟩;rw[cXf];dsimp only[yW];have a5:=hB.same y;have Z:=bK9 hk;rw[cXl,cQl];have stay:∀Y S O,xA H Y->qQ R shut d c k=false->∃ (g:List V)(p5 p6:Option V),[some (V.ref U),some (V.ref sa),some (V.int d),some (V.bl c),some (V.ref J),S,O]= [some (.ref U),some (.ref sa),some (.int d),some (.bl c),some (.ref J),p5,p6]/\xA H0 Y/\Y J=some (.lst g)/\
    bY3 (aKd Y (jI R shut)) ((bYn k).filter (qQ R shut d c)++ [k].filter (qQ R shut d c)) g:=λY S O kk e=>by
   have e3: [k].filter (qQ R shut d c)= []:=by simp[e]
   rw[e3,cQf]
   exact⟨g,S,O,rfl,y.trans kk,kk _ _ B,Paired.mapP W λ_ _ z=>z.tk λa xs e=>kk _ _ e⟩
  refine⟨_,rfl,_,rfl,_,rfl,U,rs,R,k,d,rfl,a5,by omega,hk,λH2 L=>⟨_,rfl,?_⟩⟩;cases hw:Bk.W5 R k d with
  |false=>exact onF rfl (stay H2 _ _ L (by unfold qQ;rw[hw];rfl))
  |true=>
   have b6:=aXk hk hw;have a1:=a5.same L;obtain⟨b,g1,g2,cp,g3,g4⟩:=a1.get Z;have hD:=Bk.bWf shut (Bk.dt R k) b6;have eD:jI R shut k=Bk.due shut (Bk.dt R k) R[k].term:=by unfold jI;rw[Z];rfl
   rw[<- eD,Bk.vB Z]at hD;refine onT rfl ?_;refine⟨_,rfl,_,rfl,_,rfl,U,_,_,_,rfl,rfl,SqL.of a1.lst,yR g1,b,_,1,_,rfl,rfl,SqL.of g3,rfl,_,rfl,_,rfl,U,_,_,_,rfl,rfl,SqL.of a1.lst,yR g1,b,_,3,_,rfl,rfl,SqL.of g3,rfl,?_⟩;refine⟨sa,shut,_,_,jI R shut k,rfl,SqL.of (L _ _ (y _ _ b4)),hD,?_⟩;dsimp only[yW];have a4:qQ R shut d c k=true->bQr (tBM K "list" aYt (bVO 4) (aW7 (bKP (aW7 (bVO 6) (aW7 (bVO 5) bZh))) bZh)) {nx:=λσ H=>∃ (g:List V)(S O:Option V),σ= [some (.ref U),some (.ref sa),some (.int d),some (.bl c),some (.ref J),S,O]/\xA H0 H/\H J=some (.lst g)/\bY3 (aKd H (jI R shut)) ((bYn k).filter (qQ R shut d c)++ [k].filter (qQ R shut d c)) g,rt:=Q} [some (.ref U),some (.ref sa),some (.int d),some (.bl c),some (.ref J),some (.int (k:Nat)),some (.int (jI R shut k))] H2:=λe=>by
    have b0:=L _ _ B;refine⟨_,rfl,.inl ⟨rfl,_,SqL.of b0⟩,_,rfl,_,rfl,z2,λq3 b9=>?_⟩;have k5:=yG b9 (.tup [V.int (jI R shut k),V.int (k:Nat)]);have a3:=k5 _ _ b0;have il:g.length<=k:=by rw[<- W.length];exact bYQ (cQe _ _) (by simp)
    have t6:∀a xs,upd H2 q3 (.tup [V.int (jI R shut k),V.int (k:Nat)]) a=some (.tup xs)->upd (upd H2 q3 (.tup [V.int (jI R shut k),V.int (k:Nat)])) J (.lst (g++ [V.ref q3])) a=some (.tup xs):=λa xs e=>by rw[yJ (aQY e a3 (by intro z;cases z))];exact e
    have e3: [k].filter (qQ R shut d c)= [k]:=by simp[e]
    refine⟨J,g,.ref q3,rfl,rfl,a3,zlt (by omega),g++ [.ref q3],_,_,rfl,aQR (y.trans (L.trans k5)) a8,yB,?_⟩;rw[e3];exact aXc ⟨q3,rfl,t6 _ _ yB⟩ (Paired.mapP W λ_ _ z=>z.tk λa xs e=>t6 _ _ (k5 _ _ (L _ _ e)))
   refine⟨_,rfl,_,rfl,?_⟩;by_cases n:c=true
   ·refine onF (by rw[n];rfl) ⟨_,rfl,_,rfl,_,_,rfl,rfl,_,rfl,?_⟩;cases b2:decide (jI R shut k<d)with
    |true=>exact onT rfl (a4 (by unfold qQ;rw[hw,n,b2];rfl))
    |false=>exact onF rfl (stay H2 _ _ L (by unfold qQ;rw[hw,n,b2];rfl))
   ·have hf:c=false:=by simpa using n
    exact onT (by rw[hf];rfl) (onT rfl (a4 (by unfold qQ;rw[hw,hf];rfl)))
 ·rintro σ H1 ⟨g,S,O,rfl,y,B,W⟩;generalize D:(bYn R.length).filter (qQ R shut d c)=fam at W;have b1:fam.length=g.length:=W.length;have fn:fam.length<=R.length:=by rw[<- D];exact bYQ (cQe _ _) (by simp)
  have a9:∀k,k∈fam↔k<R.length/\qQ R shut d c k=true:=λk=>by rw[<- D,cQg,bYI]
  have b8:fam.Nodup:=by rw[<- D];exact cZi.sublist cXd
  refine⟨_,rfl,J,g,λm=>(jI R shut (fam.getD m 0),((fam.getD m 0:Nat):Int)),rfl,B,by omega,λa b ha hb e=>?_,λm x hx=>?_,λl j hl a2 b7=>?_⟩
  ·have M:fam.getD a 0=fam.getD b 0:=by have:=congrArg Prod.snd e;simp only at this;omega
   have a7:a<fam.length:=by omega
   have a6:b<fam.length:=by omega
   simp[bYX,bK9 a7,bK9 a6]at M;exact(cQ0 (h₀:=a7) (h₁:=a6) b8).mp M
  ·obtain⟨k,hk,p,X,M⟩:=bQx W hx;have:fam.getD m 0=k:=by simp[bYX,hk]
   show ∃a,x=V.ref a/\H1 a=some (.tup [V.int (jI R shut (fam.getD m 0)),V.int ((fam.getD m 0:Nat):Int)]);rw[this];exact⟨p,X,M⟩
  ·have hm:∀m∈j,m<g.length:=λm hm=>bYI.mp (a2.mem_iff.mp hm);have L:=yG hl (.lst (j.map λi=>g.getD i .non));refine⟨l,rfl,⟨_,SqL.of yB⟩,λr N=>?_⟩;have c0:j.length=g.length:=by rw[a2.length_eq,bYW]
   have b3:∀m∈j,∃p,g.getD m .non= .ref p/\H1 p=some (.tup [.int (jI R shut (fam.getD m 0)),.int ((fam.getD m 0:Nat):Int)]):=λm u=>by
    have G:=hm m u;have hg:g[m]? =some (g.getD m .non):=by simp[bYX,bK9 G]
    obtain⟨k,hk,p,X,M⟩:=bQx W hg;have:fam.getD m 0=k:=by simp[bYX,hk]
    rw[this];exact⟨p,X,M⟩
   refine aZr (λ_=>true) (bKa H1) (SqL.of yB) N (zn (by rw[bYe];omega)) (λv hv Y R' _ h=>h) (λv hv _ Y R' hH a0=>?_) ?_
   ·obtain⟨m,u,rfl⟩:=cQa.mp hv;obtain⟨p,X,M⟩:=b3 m u;rw[X]at a0 ⊢;have e4:=L _ _ M;have e5:=(hH p (yK e4 N)).trans e4;rw[aVD M]at a0;exact⟨_,rfl,p,_,1,_,rfl,rfl,SqT.of e5,rfl,a0⟩
   ·have ff:(j.map λi=>g.getD i .non).filter (λ_=>true)=j.map λi=>g.getD i .non:=cXV.mpr λ_ _=>rfl;have e6:((j.map λi=>g.getD i .non).map (bKa H1))=(j.map λm=>fam.getD m 0).map λi=>V.int (i:Nat):=by
     rw[cXy,cXy];refine cZ1 λm u=>?_;obtain⟨p,X,M⟩:=b3 m u;show bKa H1 (g.getD m .non)=V.int (fam.getD m 0:Nat);rw[X];exact aVD M
    rw[ff,e6];refine q r _ (j.map λm=>fam.getD m 0) (y.trans (L.trans (yG N _))) ((y.trans L).fresh N) yB ⟨λk=>?_,?_⟩
    ·have b5:k∈j.map (λm=>fam.getD m 0)↔k∈fam:=by
      constructor
      ·intro h;obtain⟨m,u,rfl⟩:=cQa.mp h;have G:m<fam.length:=by rw[b1];exact hm m u
       simp[bYX,bK9 G]
      ·intro h;obtain⟨m,G,e⟩:=bY1 h;refine cQa.mpr ⟨m,a2.mem_iff.mpr (bYI.mpr (by omega)),?_⟩;simp[bYX,bK9 G,e]
     rw[b5,a9 k];unfold qQ;rw[Bool.and_eq_true,Bool.or_eq_true,decide_eq_true_eq];refine and_congr Iff.rfl (and_congr Iff.rfl ?_);cases c<;> simp[jI]
    ·rw[cZC];exact b7
end
end Law
namespace Law
open PySem L2 PyProof.Rows
open Bk (Row Rows)
open Stree (qC uW z8)
abbrev aXG:Stmt:=xC "_law_family"
theorem w8{a H:Hp}{c:Nat}{o:HO}(k:xA a H)(h:a c=none):xA a (upd H c o):=λb u q=>by rw[yJ (yK q h)];exact k b u q
theorem jZ{H:Hp}{p:Nat}{c:List V}{o:HO}(h:H p=some (.lst c)):∀a b,H a=some (.tup b)->upd H p o a=some (.tup b):=λa b e=>by rw[yJ (aQY e h (by intro z;cases z))];exact e
structure bZw(H:Hp)(ra:Nat)(rs:List Nat)(n:Nat)(L:Nat->Option Nat)(D:Nat->Int):Prop where
 lst:H ra=some (.lst (rs.map V.ref))
 len:rs.length=n
 row:∀i b,rs[i]? =some b->∃xs,H b=some (.lst xs)/\xs[1]? =some (.int (D i))/\xs[4]? =some (wN (L i))
def jB:Sp:=λe H Q _=>∃ (d:Nat)(f:List Nat)(n:Nat)(L:Nat->Option Nat)(b:Nat->Nat)(D:Nat->Int)(i:Nat),e= [.ref d,.int (i:Nat)]/\bZw H d f n L D/\Fm.Ok n L b/\n<=60/\i<n/\
 ∀ (c:Hp)(r:Nat)(a:List Nat),xA H c->H r=none->c r=some (.lst (a.map λi=>V.int (i:Nat)))->(a.Pairwise λx y=>uW (Fm.rd L D b x) (Fm.rd L D b y)=true)->(∀k,k∈a↔k<n/\Fm.tp L b k=Fm.tp L b i)->Q (.ref r) c
def Tk(H c:Hp):Prop:=∀a b,H a=some (.tup b)->c a=some (.tup b)
theorem xA.tk{H b:Hp}(k:xA H b):Tk H b:=λa c e=>k a _ e
theorem Tk.trans{H g f:Hp}(a:Tk H g)(b:Tk g f):Tk H f:=λc d e=>b c d (a c d e)
theorem qV.tk{H d:Hp}(k:Tk H d){b:Nat}{a:qC}(h:qV H b a):qV d b a:=let ⟨xs,e,z⟩:=h;⟨xs,k _ _ e,Paired.mapP z λ_ _ ⟨c,w1,w2⟩=>⟨c,w1,k _ _ w2⟩⟩
def bW5(H:Hp)(rd:Nat->qC)(k:Nat)(x:V):Prop:=∃p b,x= .ref p/\H p=some (.tup [.ref b,.int (k:Nat)])/\qV H b (rd k)
theorem bW5.tk{H d:Hp}{rd:Nat->qC}(t:Tk H d){k:Nat}{x:V}(h:bW5 H rd k x):bW5 d rd k x:=let ⟨p,b,e,a,c⟩:=h;⟨p,b,e,t _ _ a,qV.tk t c⟩
theorem qN{α β:Type}{F:α->β->Prop}:∀ {l:List α} {m:List β} {i:Nat} {y:β},bY3 F l m->m[i]? =some y->∃x,l[i]? =some x/\F x y
 |_,_,0,_,.cons r _,h=>by simp at h;subst h;exact⟨_,rfl,r⟩
 |_,_,i+1,_,.cons _ t,h=>by simpa using qN (i:=i) t (by simpa using h)
 |_,_,i,_,.nil,h=>by simp at h
theorem aQp{α β:Type}{F:α->β->Prop}{x:α}{y:β}(r:F x y):∀ {l:List α} {m:List β},bY3 F l m->bY3 F (l++ [x]) (m++ [y])
 |_,_,.nil=> .cons r .nil
 |_,_,.cons a t=> .cons a (aQp r t)
section
variable {K:bYc}
theorem aYZ:yO ["_law_rows","_law_number","_law_root","_law_keys","_law_k","_law_key","_law_top"] ["_law_rows","_law_number"] (yH aXG):=scM
theorem aKO:xJ ["_law_rows","_law_number","_law_root","_law_keys","_law_k","_law_key","_law_top"] (yH aXG) "_law_pair" [] [] {kind:= .function,names:= [(".0",.local),("_law_pair",.local)],isGenerator:=false,isCoroutine:=false,more:= [] }:=
 lcM
def bWS(H:Hp):V->V
 |.ref p=>match H p with
  |some (.tup [_,y])=>y
  |_=> .non
 |_=> .non
theorem aVE{H:Hp}{p:Nat}{x y:V}(h:H p=some (.tup [x,y])):bWS H (.ref p)=y:=by
 show(match H p with|some (.tup [_,y])=>y|_=>V.non)=y;rw[h]
theorem aYd(T:vA mg)(a4:mg "sorted"=none)(F:Fun K "_law_family" "_law_family" aXG f fd):xD P w K mg base CX0 2 f fd ["_law_rows","_law_number"] jB:=by
 have sc:=aYZ;refine F.ok (k:=1) sc (λf3 A outer s H0 vs Q E hr h=>?_);obtain⟨W,rs,n,L,g,D,i,rfl,hR,ho,hn,hi,q⟩:=h;refine⟨_,(yC (yU (i:=2) (pv 1)) (yC (u4 bYY (yM wC (yL yI (yL yI (pv 0) (pv 2)) yE) xY) (yF (yU (i:=2) (yL yI (yL yI (pv 0) (pv 2)) yE)))) (yC (yU (i:=3) (y6 yD)) (yC (zL bYY rfl (xW rfl T.b_range (yA (yT yN rfl T.b_len y9 (yA (pv 0) yD)) yD)) (xB (i:=4)) (yC (yU (i:=5) (xI (yA (xI (yA (yL yI (yL yI (pv 0) (pv 4)) yE) (yA (pv 4) yD))) yD))) (yC (yU (i:=6) (pv 4)) (yC (u4 bYY (yM wC (yL yI (yL yI (pv 0) (pv 6)) yE) xY) (yC (yU (i:=6) (yL yI (yL yI (pv 0) (pv 6)) yE)) (yF (yU (i:=5) (yV bJ0 (xI (yA (xI (yA (yL yI (yL yI (pv 0) (pv 6)) yE) (yA (pv 6) yD))) yD)) (pv 5)))))) (yF (y0 (yM x8 (pv 6) (pv 2)) (yF (yY (uC bYM bYR bYS xL (pv 3) (yA (xI (yA (pv 5) (yA (pv 4) yD))) yD)))) yS)))))) (yF (yP (W3 aKO rfl (xN (yT (Z9 hr) rfl a4 wZ (yA (pv 3) yD))) (λ_ _ _ _ _=>zT) (λ_ _ _ _ _=>(yL (show IxR _ (bZT K)from yX) (pv 0) yE))))))))),?_⟩;have row:∀ {H:Hp} {t:Nat},xA H0 H->t<n->∃b I,(rs.map V.ref)[t]? =some (.ref b)/\H b=some (.lst I)/\I[1]? =some (.int (D t))/\I[4]? =some (wN (L t)):=λ{H t} k ht=>by
  have e7:t<rs.length:=by rw[hR.len];exact ht
  have hb:=bK9 e7;obtain⟨I,h1,h2,h3⟩:=hR.row t _ hb;exact⟨rs[t],I,by rw[bYu,hb];rfl,k _ _ h1,h2,h3⟩
 refine⟨_,rfl,?_⟩;dsimp only[yW];refine⟨λm σ H=>∃t:Nat,σ= [some (.ref W),some (.int (i:Nat)),some (.int (t:Nat)),none,none,none,none]/\H=H0/\t<n/\Fm.tp L g t=Fm.tp L g i/\m=g t,⟨g i,i,rfl,rfl,hi,rfl,rfl⟩,?_⟩;rintro m σ H ⟨t,rfl,rfl,ht,c6,rfl⟩;obtain⟨b,I,g1,g2,g3,g4⟩:=row (xA.refl H) ht;refine⟨_,rfl,_,rfl,W,_,_,_,rfl,rfl,SqL.of hR.lst,yR g1,b,I,4,_,rfl,rfl,SqL.of g2,yR (j:=4) g4,rfl,_,rfl,?_⟩;cases hl:L t with
 |some j=>obtain⟨hj,b5⟩:=ho.lt t j ht hl;refine onT rfl ⟨λσ' H'=>∃m',m'<g t/\∃t:Nat,σ'= [some (.ref W),some (.int (i:Nat)),some (.int (t:Nat)),none,none,none,none]/\H'=H/\t<n/\Fm.tp L g t=Fm.tp L g i/\m'=g t,λσ' H' z=>z,?_⟩;refine⟨_,rfl,_,rfl,W,_,_,_,rfl,rfl,SqL.of hR.lst,yR g1,b,I,4,_,rfl,rfl,SqL.of g2,yR (j:=4) g4,?_⟩;rw[hl];exact⟨g j,b5,j,rfl,rfl,hj,by rw[<- c6,Fm.v6 ho ht hl],rfl⟩
 |none=>
  have c0:t=Fm.tp L g i:=by rw[<- c6,Fm.zX hl]
  subst c0;refine onF rfl ?_;refine⟨z0,λka b9=>?_⟩;dsimp only[yW];have k1:=yG b9 (.lst []);have c4:(rs.map V.ref).length=n:=by rw[bYe];exact hR.len
  refine⟨_,rfl,W,_,rfl,.inl (SqL.of (k1 _ _ hR.lst)),?_⟩;rw[c4];refine⟨_,rfl,by omega,by omega,?_⟩;rw[bYH];refine zK (λt σ H'=>∃ (d:List V)(o4 o5 o6:Option V),σ= [some (.ref W),some (.int (i:Nat)),some (.int (Fm.tp L g i:Nat)),some (.ref ka),o4,o5,o6]/\xA H H'/\H' ka=some (.lst d)/\
   bY3 (bW5 H' (Fm.rd L D g)) ((bYn t).filter λk=>decide (Fm.tp L g k=Fm.tp L g i)) d) ?_ ?_ ?_
  ·exact⟨[],none,none,none,rfl,k1,yB,.nil⟩
  ·rintro k σ M hk ⟨d,o4,o5,o6,rfl,u,J,hP⟩;rw[cXf];dsimp only[yW];obtain⟨b,I,g1,g2,g3,g4⟩:=row u hk;have d5:=u _ _ hR.lst;refine⟨_,rfl,_,rfl,W,_,_,_,rfl,rfl,SqL.of d5,yR g1,b,I,1,_,rfl,rfl,SqL.of g2,yR (j:=1) g3,_,rfl,z2,λp1 a7=>⟨z1,λp2 b3=>?_⟩⟩;dsimp only[yW];have d0:=yG a7 (.tup [V.int (D k),V.int (k:Nat)]);have c2:=yG b3 (.tup [V.ref p1]);have a3:qV (upd (upd M p1 (.tup [V.int (D k),V.int (k:Nat)])) p2 (.tup [V.ref p1])) p2 [(D k,(k:Int))]:=⟨[.ref p1],yB,.cons ⟨p1,rfl,c2 _ _ yB⟩ .nil⟩;have c8:xA M (upd (upd M p1 (.tup [V.int (D k),V.int (k:Nat)])) p2 (.tup [V.ref p1])):=d0.trans c2;generalize upd (upd M p1 (.tup [V.int (D k),V.int (k:Nat)])) p2 (.tup [V.ref p1])=H2 at a3 c8 ⊢;refine⟨_,rfl,?_⟩;dsimp only[yW];refine⟨λm σ U=>∃ (o:Nat)(S:qC)(kb:Nat),σ= [some (.ref W),some (.int (i:Nat)),some (.int (Fm.tp L g i:Nat)),some (.ref ka),some (.int (k:Nat)),some (.ref kb),some (.int (o:Nat))]/\xA M U/\o<n/\
     qV U kb ((D o,(o:Int))::S)/\Fm.rd L D g k=Fm.rd L D g o++S/\Fm.tp L g o=Fm.tp L g k/\m=g o,⟨g k,k,[],p2,rfl,c8,hk,a3,by rw[cQf],rfl,rfl⟩,?_⟩
   rintro m σ U ⟨o,S,kb,rfl,G,a9,Z,b4,c1,rfl⟩;have y:=u.trans G;obtain⟨b,I,g1,g2,g3,g4⟩:=row y a9;refine⟨_,rfl,_,rfl,W,_,_,_,rfl,rfl,SqL.of (y _ _ hR.lst),yR g1,b,I,4,_,rfl,rfl,SqL.of g2,yR (j:=4) g4,rfl,_,rfl,?_⟩;cases O:L o with
   |some j=>
    obtain⟨hj,b5⟩:=ho.lt o j a9 O;refine onT rfl ⟨λσ U=>∃m',m'<g o/\∃ (o:Nat)(S:qC)(kb:Nat),σ= [some (.ref W),some (.int (i:Nat)),some (.int (Fm.tp L g i:Nat)),some (.ref ka),some (.int (k:Nat)),some (.ref kb),some (.int (o:Nat))]/\xA M U/\o<n/\
     qV U kb ((D o,(o:Int))::S)/\Fm.rd L D g k=Fm.rd L D g o++S/\Fm.tp L g o=Fm.tp L g k/\m'=g o,λσ' H' z=>z,?_⟩
    refine⟨_,rfl,_,rfl,W,_,_,_,rfl,rfl,SqL.of (y _ _ hR.lst),yR g1,b,I,4,_,rfl,rfl,SqL.of g2,yR (j:=4) g4,?_⟩;rw[O];dsimp only[yW,wN];obtain⟨b',e8,d7,d8,d9,f4⟩:=row y hj;refine⟨_,rfl,_,rfl,W,_,_,_,rfl,rfl,SqL.of (y _ _ hR.lst),yR d7,b',e8,1,_,rfl,rfl,SqL.of d8,yR (j:=1) d9,_,rfl,z2,λN e0=>⟨z1,λq2 d6=>?_⟩⟩;have d2:=yG e0 (.tup [V.int (D j),V.int (j:Nat)]);have c7:=yG d6 (.tup [V.ref N]);have b6:xA U (upd (upd U N (.tup [V.int (D j),V.int (j:Nat)])) q2 (.tup [V.ref N])):=d2.trans c7;have e1:upd (upd U N (.tup [V.int (D j),V.int (j:Nat)])) q2 (.tup [V.ref N]) N=some (.tup [V.int (D j),V.int (j:Nat)]):=c7 _ _ yB;have X:upd (upd U N (.tup [V.int (D j),V.int (j:Nat)])) q2 (.tup [V.ref N]) q2=some (.tup [V.ref N]):=yB;generalize upd (upd U N (.tup [V.int (D j),V.int (j:Nat)])) q2 (.tup [V.ref N])=H4 at b6 e1 X ⊢;obtain⟨ys,y1,y2⟩:=qV.tk (xA.tk b6) Z;have b0:ys.length=S.length+1:=by have:=y2.length;simpa using this.symm
    have c9:(Fm.rd L D g k).length<=n:=Fm.bWI ho hk;rw[b4,bYy]at c9;have d1:ys≠ []:=λz=>by rw[z]at b0;simp at b0
    refine⟨_,rfl,q2,kb,_,ys,rfl,rfl,SqT.of X,SqT.of y1,by simp,by rw[bYJ];show 1+ys.length<=_;omega,λz=>absurd z d1,λ_ q3 b7=>?_⟩;have B:=yG b7 (.tup ([V.ref N]++ys));refine⟨g j,b5,j,(D o,(o:Int))::S,q3,rfl,G.trans (b6.trans B),hj,⟨_,yB,.cons ⟨N,rfl,B _ _ e1⟩ (Paired.mapP y2 λ_ _ ⟨c,w1,w2⟩=>⟨c,w1,B _ _ w2⟩)⟩,?_,?_,rfl⟩
    ·rw[b4,Fm.vY ho a9 O,cQG];rfl
    ·rw[<- c1,Fm.v6 ho a9 O]
   |none=>
    have b8:o=Fm.tp L g k:=by rw[<- c1,Fm.zX O]
    have d4:Fm.rd L D g k=(D o,(o:Int))::S:=by rw[b4,Fm.Y8 O];rfl
    refine onF rfl ?_;refine⟨_,rfl,_,rfl,rfl,_,rfl,?_⟩;rw[cXl,cQl];by_cases ec:Fm.tp L g k=Fm.tp L g i
    ·have hd:decide ((V.int (o:Nat))=V.int (Fm.tp L g i:Nat))=true:=by rw[b8,ec];simp
     refine onT (by rw[b8,ec];simp) ?_;have b2:=G _ _ J;refine⟨_,rfl,.inl ⟨rfl,_,SqL.of b2⟩,_,rfl,_,rfl,z2,λq3 b7=>?_⟩;have B:=yG b7 (.tup [V.ref kb,V.int (k:Nat)]);have b1:=B _ _ b2;have il:d.length<=k:=by have:=hP.length;rw[<- this];exact bYQ (cQe _ _) (by simp)
     have t6:Tk (upd U q3 (.tup [V.ref kb,V.int (k:Nat)])) (upd (upd U q3 (.tup [V.ref kb,V.int (k:Nat)])) ka (.lst (d++ [V.ref q3]))):=λa I e=>jZ b1 a I e;refine⟨ka,d,.ref q3,rfl,rfl,b1,zlt (by omega),d++ [.ref q3],_,_,_,rfl,w8 (u.trans (G.trans B)) b9,yB,?_⟩;have e3: [k].filter (λk=>decide (Fm.tp L g k=Fm.tp L g i))= [k]:=by simp[ec]
     rw[e3];refine aQp ⟨q3,kb,rfl,t6 _ _ yB,?_⟩ (Paired.mapP hP λ_ _ z=>z.tk ((xA.tk (G.trans B)).trans t6));rw[d4];exact qV.tk ((xA.tk B).trans t6) Z
    ·refine onF ?_ ⟨d,_,_,_,rfl,u.trans G,G _ _ J,?_⟩
     ·rw[b8];simp;omega
     ·have e3: [k].filter (λk=>decide (Fm.tp L g k=Fm.tp L g i))= []:=by simp[ec]
      rw[e3,cQf];exact Paired.mapP hP λ_ _ z=>z.tk (xA.tk G)
  ·rintro σ M ⟨d,o4,o5,o6,rfl,u,J,hP⟩;generalize Y:(bYn n).filter (λk=>decide (Fm.tp L g k=Fm.tp L g i))=fam at hP;have f2:fam.length=d.length:=hP.length;have fn:fam.length<=n:=by rw[<- Y];exact bYQ (cQe _ _) (by simp)
   have a6:∀k,k∈fam↔k<n/\Fm.tp L g k=Fm.tp L g i:=λk=>by rw[<- Y,cQg,bYI,decide_eq_true_eq]
   have d3:fam.Nodup:=by rw[<- Y];exact cZi.sublist cXd
   have a2:∀m,m<d.length->fam.getD m 0∈fam:=λm hm=>by
    have e9:m<fam.length:=by omega
    simp[bYX,bK9 e9]
   refine⟨_,rfl,ka,d,λm=>Fm.rd L D g (fam.getD m 0),λm=>((fam.getD m 0:Nat):Int),rfl,J,by omega,λa b ha hb e=>?_,λm x hx=>?_,λl C hl a7 b3=>?_⟩
   ·have X:=Fm.aYu ho ((a6 _).mp (a2 a ha)).1 ((a6 _).mp (a2 b hb)).1 e;have c5:a<fam.length:=by omega
    have c3:b<fam.length:=by omega
    simp[bYX,bK9 c5,bK9 c3]at X;exact(cQ0 (h₀:=c5) (h₁:=c3) d3).mp X
   ·obtain⟨k,hk,p,b,e1,X,e3⟩:=qN hP hx;have:fam.getD m 0=k:=by simp[bYX,hk]
    show ∃a b,x=V.ref a/\M a=some (.tup [V.ref b,V.int ((fam.getD m 0:Nat):Int)])/\qV M b (Fm.rd L D g (fam.getD m 0));rw[this];exact⟨p,b,e1,X,e3⟩
   ·have hm:∀m∈C,m<d.length:=λm hm=>bYI.mp (a7.mem_iff.mp hm);have k2:=yG hl (.lst (C.map λi=>d.getD i .non));refine⟨l,rfl,⟨_,SqL.of yB⟩,λr a8=>?_⟩;have f1:C.length=d.length:=by rw[a7.length_eq,bYW]
    refine aZr (λ_=>true) (bWS M) (SqL.of yB) a8 (zn (by rw[bYe];omega)) ?_ ?_ ?_
    ·intro v hv H' R hH a5;exact a5
    ·intro v hv _ H' R hH a5;obtain⟨m,a0,rfl⟩:=cQa.mp hv;have a1:=hm m a0;have hg:d[m]? =some (d.getD m .non):=by simp[bYX,bK9 a1]
     obtain⟨k,hk,p,b,e1,X,e3⟩:=qN hP hg;rw[e1]at a5 ⊢;have e4:=k2 _ _ X;have f0:p≠r:=yK e4 a8;have e5:H' p=some (.tup [.ref b,.int (k:Nat)]):=by rw[hH p f0];exact e4
     refine⟨_,rfl,p,_,1,.int (k:Nat),rfl,rfl,SqT.of e5,rfl,?_⟩;have:bWS M (.ref p)= .int (k:Nat):=aVE X;rw[this]at a5;exact a5
    ·have ff:(C.map λi=>d.getD i .non).filter (λ_=>true)=C.map λi=>d.getD i .non:=cXV.mpr λ_ _=>rfl;rw[ff,cXy];have e6:(C.map (bWS M∘λi=>d.getD i .non))=(C.map λm=>fam.getD m 0).map λi=>V.int (i:Nat):=by
      rw[cXy];refine cZ1 λm a0=>?_;have a1:=hm m a0;have hg:d[m]? =some (d.getD m .non):=by simp[bYX,bK9 a1]
      obtain⟨k,hk,p,b,e1,X,e3⟩:=qN hP hg;show bWS M (d.getD m .non)=V.int (fam.getD m 0:Nat);have:fam.getD m 0=k:=by simp[bYX,hk]
      rw[e1,this];exact aVE X
     rw[e6];refine q _ r (C.map λm=>fam.getD m 0) (u.trans (k2.trans (yG a8 _))) ((u.trans k2).fresh a8) yB ?_ λk=>?_
     ·rw[cZC];exact b3
     ·rw[<- a6 k];constructor
      ·intro h;obtain⟨m,a0,rfl⟩:=cQa.mp h;exact a2 m (hm m a0)
      ·intro h;obtain⟨m,a1,e⟩:=bY1 h;refine cQa.mpr ⟨m,a7.mem_iff.mpr (bYI.mpr (by omega)),?_⟩;simp[bYX,bK9 a1,e]
end
theorem y8.rows{H:Hp}{e:Nat}{d:List Nat}{R:Rows}(h:y8 H e d R):bZw H e d R.length (Bk.lk R) (Bk.dt R):=
 ⟨h.lst,h.len,λi b c=>by
  have f:i<R.length:=by rw[<- h.len];exact(bYl.mp c).1
  have a:=bK9 f;obtain⟨k,g,j⟩:=h.row i b _ c a;exact⟨_,g,by rw[Bk.vB a];rfl,by rw[Bk.vP a];rfl⟩⟩
end Law
namespace Law
open PySem L2 PyProof.Rows
open Bk (Row Rows)
def v9(r:Row)(a:Nat):List V:= [.str r.way,.int r.date,.str r.partner,.int r.term,wN r.link,.str r.place,.bl r.void,.ref a]
theorem jT{r:Row}{a:Nat}{l:List Str}:HO.lst (v9 r a)≠HO.lst (l.map V.str):=λz=>by
 injection z with z
 match l,z with
 |[],z=>cases z
 |[_],z=>injection z with _ z;cases z
 |_::_::_,z=>injection z with _ z;injection z with z _;cases z
theorem aQt{r:Row}{a:Nat}{l:List Nat}:HO.lst (v9 r a)≠HO.lst (l.map V.ref):=λz=>by
 injection z with z
 match l,z with
 |[],z=>cases z
 |_::_,z=>injection z with z _;cases z
theorem y8.upd{H:Hp}{s:Nat}{j:List Nat}{R:Rows}{k:Nat}{b:Nat}{r:Row}(h:y8 H s j R)(o:j[k]? =some b)(u:R[k]? =some r)(f:Row->Row){l:Nat}(d:H l=some (.lst ((f r).copies.map V.str))):y8 (upd H b (.lst (v9 (f r) l))) s j (Bk.xR R k f):=by
 obtain⟨A,m,_⟩:=h.row k b r o u;have n:s≠b:=aQY h.lst m (bYU aQt);refine⟨by rw[yJ n];exact h.lst,by rw[Bk.x9];exact h.len,h.nd,λi c q g a=>?_⟩;rw[Bk.zF]at a;by_cases e:i=k
 ·subst e;rw[o]at g;cases g;rw[if_pos rfl,u]at a;cases a;exact⟨l,yB,by rw[yJ (aQY d m (bYU jT))];exact d⟩
 ·rw[if_neg e]at a;obtain⟨y,x,v⟩:=h.row i c q g a;have p:c≠b:=λz=>by
   have t:=bYl.mp g;have w:=bYl.mp o;exact e ((cQ0 (h₀:=t.1) (h₁:=w.1) h.nd).mp (by rw[t.2,w.2];exact z))
  exact⟨y,by rw[yJ p];exact x,by rw[yJ (aQY v m (bYU jT))];exact v⟩
def NoC(a:List Nat)(H:Hp)(s:Nat):Prop:=∀b∈a,∀l,H b=some (.lst l)->l[7]? ≠some (.ref s)
def But(a:List Nat)(H c:Hp):Prop:=(∀b o,b∉a->H b=some o->c b=some o)/\(∀b∈a,∃o,c b=some o)/\∀s u,H s=some u->NoC a H s->NoC a c s
theorem y8.dom{H:Hp}{g:Nat}{c:List Nat}{R:Rows}(h:y8 H g c R):∀b∈c,∃o,H b=some o:=λb d=>by
 obtain⟨i,a,e⟩:=bY1 d;have j:=bK9 (show i<R.length by rw[<- h.len];exact a);obtain⟨k,f,_⟩:=h.row i b _ (by rw[bK9 a,e]) j;exact⟨_,f⟩
theorem But.of{f:List Nat}{H d:Hp}(g:∀b∈f,∃o,H b=some o)(k:xA H d):But f H d:=⟨λb o _ e=>k b o e,λb a=>let ⟨o,e⟩:=g b a;⟨o,k _ _ e⟩,λs u e n b a l h=>by
 obtain⟨o,c⟩:=g b a;have:=k _ _ c;rw[h]at this;cases this;exact n b a l c⟩
theorem But.trans{d:List Nat}{H g f:Hp}(a:But d H g)(b:But d g f):But d H f:=⟨λc o n e=>b.1 c o n (a.1 c o n e),b.2.1,λs u e n=>by
 by_cases h:s∈d
 ·obtain⟨o,i⟩:=a.2.1 s h;exact b.2.2 s o i (a.2.2 s u e n)
 ·exact b.2.2 s u (a.1 s u h e) (a.2.2 s u e n)⟩
theorem But.upd{d:List Nat}{H:Hp}{k:Nat}{b:Nat}{l l':List V}(g:∀b∈d,∃o,H b=some o)(h:d[k]? =some b)(hl:H b=some (.lst l))(f:l'[7]? =l[7]?):But d H (upd H b (.lst l')):=
 ⟨λc u n e=>by rw[yJ (λz=>n (by rw[z];exact bYt h))];exact e,λc a=>by
  by_cases z:c=b
  ·rw[z];exact⟨_,yB⟩
  ·rw[yJ z];exact g c a,λs u e n c a x ex=>by
  by_cases z:c=b
  ·subst z;rw[yB]at ex;cases ex;rw[f];exact n c a l hl
  ·rw[yJ z]at ex;exact n c a x ex⟩
abbrev bVi:Stmt:=xC "_law_lost"
def bZ0:Sp:=λf H Q _=>∃ (c:Nat)(b:List Nat)(R:Rows)(k:Nat)(r:Row),f= [.ref c,.int (k:Nat)]/\y8 H c b R/\R.length<=100/\R[k]? =some r/\
 ∀ (e:Hp)(a:Str)(d:Rows),But b H e->y8 e c b d->((Bk.z7 R k≠ []/\a="answered"/\d=R)\/(Bk.z7 R k= []/\a="void"/\d=Bk.xR R k λr=>{r with link:=none,void:=true}))->Q (.str a) e
section
variable {K:bYc}
theorem bVx:yO ["_law_rows","_law_number","_law_one"] ["_law_rows","_law_number"] (yH bVi):=scM
theorem bJQ(a:FnG P w K mg base 1 "_law_kids_of" ["_law_rows","_law_number"] aVL)(F:Fun K "_law_lost" "_law_lost" bVi f fd):xD P w K mg base CX0 2 f fd ["_law_rows","_law_number"] bZ0:=by
 have z:=bVx;refine F.ok (k:=1) z (λI A outer s H J Q E o h=>?_);obtain⟨x,B,R,k,r,rfl,d,hR,u,q⟩:=h;refine⟨_,(yC (yU (i:=2) (yL yI (pv 0) (pv 1))) (yC (y0 (yM (uZ o.units0) (xK a o rfl (yA (pv 0) (yA (pv 1) yD))) (y6 yD)) (yF (yP yQ)) yS) (yC (v8 xY (qO (pv 2) yE zV)) (yC (v8 wO (qO (pv 2) yE zV)) (yF (yP yQ)))))),?_⟩;obtain⟨b,G,v,L,D,C⟩:=d.get u;refine⟨_,rfl,_,rfl,x,_,_,_,rfl,rfl,SqL.of d.lst,yR G,?_⟩;dsimp only[yW];refine⟨_,rfl,_,rfl,x,B,R,k,rfl,d,hR,λp n=>⟨z0,λpn m=>?_⟩⟩;have y:=yG n (.lst ((Bk.z7 R k).map λi=>V.int (i:Nat)));have t:=yG m (.lst []);refine⟨p,pn,_,rfl,rfl,SqL.of (t _ _ yB),SqL.of yB,_,rfl,?_⟩;have kA:=y.trans t;generalize upd (upd H p (.lst ((Bk.z7 R k).map λi=>V.int (i:Nat)))) pn (.lst [])=H2 at kA ⊢;have c:=d.same kA;cases e:Bk.z7 R k with
 |cons j l=>exact onT rfl (q H2 _ R (But.of d.dom kA) c (.inl ⟨by rw[e];simp,rfl,rfl⟩))
 |nil=>refine onF rfl ?_;have g:=kA _ _ D;refine⟨_,rfl,b,_,4,4,rfl,rfl,g,rfl,?_⟩;refine⟨_,rfl,b,_,6,6,rfl,rfl,yB,rfl,?_⟩;rw[uO];exact q _ _ _ ((But.of d.dom kA).trans (But.upd c.dom v g rfl)) (c.upd v u (λr=>{r with link:=none,void:=true}) (kA _ _ C)) (.inr ⟨e,rfl,rfl⟩)
end
end Law
namespace Law
open PySem L2 PyProof.Rows
open Bk (Row Rows)
abbrev aYA:Stmt:=xC "_law_dated"
def aKg(R:Rows)(k:Nat)(r:Row)(d:Int):Prop:=(∃j,r.link=some j/\d<Bk.dt R j)\/∃c∈Bk.z7 R k,Bk.dt R c<d
def bQc:Sp:=λg H Q _=>∃ (c:Nat)(b:List Nat)(R:Rows)(k:Nat)(r:Row)(d:Int),g= [.ref c,.int (k:Nat),.int d]/\y8 H c b R/\R.length<=100/\R[k]? =some r/\(∀j,r.link=some j->j<R.length)/\
 ∀ (f:Hp)(a:Str)(e:Rows),But b H f->y8 f c b e->((aKg R k r d/\a="too early"/\e=R)\/(¬aKg R k r d/\a="dated"/\e=Bk.xR R k λr=>{r with date:=d}))->Q (.str a) f
section
variable {K:bYc}
theorem bXS:yO ["_law_rows","_law_number","_law_date","_law_one","_law_k"] ["_law_rows","_law_number","_law_date"] (yH aYA):=scM
theorem bXi(a:FnG P w K mg base 1 "_law_kids_of" ["_law_rows","_law_number"] aVL)(F:Fun K "_law_dated" "_law_dated" aYA f fd):xD P w K mg base CX0 2 f fd ["_law_rows","_law_number","_law_date"] bQc:=by
 have sc:=bXS;refine F.ok (k:=1) sc (λa0 A outer s H vs Q E hr h=>?_);obtain⟨z,rs,R,k,r,d,rfl,n,hR,hk,T,q⟩:=h;refine⟨_,(yC (yU (i:=3) (yL yI (pv 0) (pv 1))) (yC (y0 (PW.pt (vJ (yM wC (yL yI (pv 3) yE) xY) (wP (yM vC (pv 2) (yL yI (yL yI (pv 0) (yL yI (pv 3) yE)) yE))))) (yF (yP yQ)) yS) (yC (zL bYY rfl (xN (xK a hr rfl (yA (pv 0) (yA (pv 1) yD)))) (xB (i:=4)) (yF (y0 (yM vC (yL yI (yL yI (pv 0) (pv 4)) yE) (pv 2)) (yF (yP yQ)) yS))) (yC (v8 (pv 2) (qO (pv 3) yE zV)) (yF (yP yQ)))))),?_⟩;obtain⟨b,g1,g2,cp,W,g4⟩:=n.get hk;refine⟨_,rfl,_,rfl,z,_,_,_,rfl,rfl,SqL.of n.lst,yR g1,?_⟩;dsimp only[yW];refine zB (λI O=>I= [some (.ref z),some (.int (k:Nat)),some (.int d),some (.ref b),none]/\O=H/\∀j,r.link=some j->Bk.dt R j<=d) ?jS (λp=>?_);case jS=>
  rintro I O ⟨rfl,rfl,h1⟩;refine⟨_,rfl,_,rfl,z,rs,R,k,rfl,n,hR,λL Z=>⟨L,rfl,⟨_,SqL.of yB⟩,?_⟩⟩;have kA:=yG Z (.lst ((Bk.z7 R k).map λi=>V.int (i:Nat)));have o:upd O L (.lst ((Bk.z7 R k).map λi=>V.int (i:Nat))) L=some (.lst ((Bk.z7 R k).map λi=>V.int (i:Nat))):=yB;generalize upd O L (.lst ((Bk.z7 R k).map λi=>V.int (i:Nat)))=H2 at kA o ⊢;have m:=n.same kA;refine zM (xs:=(Bk.z7 R k).map λi=>V.int (i:Nat)) (λt σ M=>∃S,σ= [some (.ref z),some (.int (k:Nat)),some (.int d),some (.ref b),S]/\M=H2/\∀u j,u<t->(Bk.z7 R k)[u]? =some j->d<=Bk.dt R j) ?_ ?_ ?_ ?_
  ·exact⟨_,rfl,rfl,λu j B=>absurd B (cQX _)⟩
  ·rintro t σ M _ ⟨S,rfl,rfl,_⟩;exact SqL.of o
  ·rintro t x σ M J ⟨S,rfl,rfl,l⟩;rw[bYu]at J;cases N:(Bk.z7 R k)[t]? with
   |none=>rw[N]at J;cases J
   |some j=>
    rw[N]at J;cases J;have G:=bYt N;have v:j<R.length:=bYI.mp (cQg.mp G).1;have g:=bK9 v;obtain⟨Y,U,j2,cj,X,j4⟩:=m.get g;dsimp only[yW];refine⟨_,rfl,_,rfl,z,_,_,_,rfl,rfl,SqL.of m.lst,yR U,Y,_,1,_,rfl,rfl,SqL.of X,rfl,_,rfl,_,_,rfl,rfl,_,rfl,?_⟩;cases D:decide (R[j].date<d)with
    |true=>exact onT rfl (q _ _ R (But.of n.dom kA) m (.inl ⟨.inr ⟨j,G,by rw[Bk.vB g];exact of_decide_eq_true D⟩,rfl,rfl⟩))
    |false=>
     refine onF rfl ⟨_,rfl,rfl,λu i B y=>?_⟩;by_cases e:u=t
     ·subst e;rw[N]at y;cases y;rw[Bk.vB g];have:=of_decide_eq_false D;omega
     ·exact l u i (by omega) y
  ·rintro σ M ⟨S,rfl,rfl,l⟩;rw[bYe]at l;have C:=kA _ _ W;refine⟨_,rfl,_,rfl,b,_,1,1,rfl,rfl,C,rfl,?_⟩;refine q _ _ _ ((But.of n.dom kA).trans (But.upd m.dom g2 C rfl)) (m.upd g2 hk (λr=>{r with date:=d}) (kA _ _ g4)) (.inr ⟨?_,rfl,rfl⟩);rintro(⟨j,e1,e2⟩|⟨c,hc,e2⟩)
   ·have:=h1 j e1;omega
   ·obtain⟨u,B,e⟩:=bY1 hc;have:=l u c B (by rw[bK9 B,e]);omega
 refine⟨_,rfl,b,_,4,_,rfl,rfl,SqL.of W,rfl,rfl,_,rfl,?_⟩;cases hl:r.link with
 |none=>exact onF rfl (onF rfl (p _ _ ⟨rfl,rfl,λj hj=>by rw[hl]at hj;cases hj⟩))
 |some j=>
  have v:=T j hl;have g:=bK9 v;obtain⟨Y,U,j2,cj,X,j4⟩:=n.get g;refine onT rfl ⟨_,rfl,_,rfl,_,rfl,b,_,4,_,rfl,rfl,SqL.of W,rfl,?_⟩;rw[hl];refine⟨z,_,_,_,rfl,rfl,SqL.of n.lst,yR U,Y,_,1,_,rfl,rfl,SqL.of X,rfl,_,_,rfl,rfl,_,rfl,?_⟩;cases D:decide (d<R[j].date)with
  |true=>exact onT rfl (q _ _ R (But.of n.dom (xA.refl _)) n (.inl ⟨.inl ⟨j,hl,by rw[Bk.vB g];exact of_decide_eq_true D⟩,rfl,rfl⟩))
  |false=>exact onF rfl (p _ _ ⟨rfl,rfl,λi y=>by rw[hl]at y;cases y;rw[Bk.vB g];have:=of_decide_eq_false D;omega⟩)
end
end Law
namespace Law
open PySem L2 PyProof.Rows
open Bk (Row Rows xU xM Ans)
abbrev bVg:Stmt:=xC "_law_hung"
def bZZ:Sp:=λf H Q _=>∃ (c:Nat)(b:List Nat)(R:Rows)(m o:Int),f= [.ref c,.int m,.int o]/\y8 H c b R/\R.length<=60/\Bk.uQ R/\
 ∀ (d:Hp)(a:Str)(e:Rows),But b H d->y8 d c b e->(∀S,xU R S (.hang m o) (.txt a) e S)->Q (.str a) d
theorem aQs{r:Row}{b:Nat}{l:List Nat}:HO.lst (v9 r b)≠HO.lst (l.map λi=>V.int (i:Nat)):=λz=>by
 injection z with z
 cases l with
 |nil=>cases z
 |cons a l=>cases z
theorem aQe(R:Rows)(l:List Nat)(k:Nat)(name:Str):Bk.laid R (l++ [k]) name=Bk.xR (Bk.laid R l name) k λr=>{r with place:=name}:=by
 unfold Bk.laid;rw[cJj];rfl
theorem wV{a b:Str}:decide (V.str a=V.str b)=decide (a=b):=by rw[Bool.eq_iff_iff];simp
theorem aV6{a b:Nat}:decide (V.int (a:Nat)=V.int (b:Nat))=decide (a=b):=by rw[Bool.eq_iff_iff];simp;omega
section
variable {K:bYc}
theorem aVi{K:bYc}{H:Hp}{n l:Nat}{d:List Nat}{R:Rows}{a:List Nat}{name:Str}{t:Nat}{k:Nat}(h:y8 H n d (Bk.laid R (a.take t) name))(p:a[t]? =some k)(j:k<R.length)(hl:H l=some (.lst (a.map λi=>V.int (i:Nat)))): ∃ (b c:Nat)(r:Row),(d.map V.ref)[k]? =some (.ref b)/\H b=some (.lst (v9 r c))/\y8 (upd H b (.lst (v9 {r with place:=name} c))) n d (Bk.laid R (a.take (t+1)) name)/\But d H (upd H b (.lst (v9 {r with place:=name} c)))/\upd H b (.lst (v9 {r with place:=name} c)) l=some (.lst (a.map λi=>V.int (i:Nat)))/\b∈d:=by
 have e:k<(Bk.laid R (a.take t) name).length:=by rw[Bk.zR];exact j
 have m:=bK9 e;obtain⟨b,q,g,c,f,o⟩:=h.get m;refine⟨b,c,_,q,f,?_,But.upd h.dom g f rfl,?_,bYt g⟩
 ·rw[show a.take (t+1)=a.take t++ [k]from by rw[cQh,p];rfl,aQe];exact h.upd g m (λr=>{r with place:=name}) o
 ·rw[yJ (aQY hl f (bYU aQs))];exact hl
theorem bVv:yO ["_law_rows","_law_number","_law_goal","_law_one","_law_other","_law_k","_law_row"] ["_law_rows","_law_number","_law_goal"] (yH bVg):=scM
theorem bJO(y:FnG P w K mg base 2 "_law_good" ["_law_rows","_law_number"] Z6)(a:FnG P w K mg base 2 "_law_family" ["_law_rows","_law_number"] jB)(F:Fun K "_law_hung" "_law_hung" bVg f fd):xD P w K mg base CX0 3 f fd ["_law_rows","_law_number","_law_goal"] bZZ:=by
 have sc:=bVv;refine F.ok (k:=2) sc (λb7 A outer s H vs Q E hr h=>?_);obtain⟨L,M,R,m,o,rfl,C,hR,hT,q⟩:=h;refine⟨_,(yC (y0 (PW.pt (vD (wA (xP (xK y hr rfl (yA (pv 0) (yA (pv 1) yD))))) (wM (wA (xP (xK y hr rfl (yA (pv 0) (yA (pv 2) yD)))))))) (yF (yP yQ)) yS) (yC (yU (i:=3) (yL yI (pv 0) (pv 1))) (yC (yU (i:=4) (yL yI (pv 0) (pv 2))) (yC (y0 (yM wC (yL yI (pv 3) yE) xY) (yF (yP yQ)) yS) (yC (y0 (yM x8 (yL yI (xK a hr rfl (yA (pv 0) (yA (pv 2) yD))) yE) (pv 1)) (yF (yP yQ)) yS) (yC (y0 (yM x8 (yL yI (pv 3) yE) (yL yI (pv 4) yE)) (yF (yP yQ)) yS) (yC (y0 (yM Y5 (yL yI (pv 3) yE) (yL yI (pv 4) yE)) (yF (yP yQ)) yS) (yC (y0 (yM vC (yL yI (pv 3) yE) (yL yI (pv 4) yE)) (yF (yP yQ)) yS) (yC (zL bYY rfl (xN (xK a hr rfl (yA (pv 0) (yA (pv 1) yD)))) (xB (i:=5)) (yC (yU (i:=6) (yL yI (pv 0) (pv 5))) (yF (v8 (yL yI (pv 4) yE) (qO (pv 6) yE zV))))) (yC (v8 (pv 2) (qO (pv 3) yE zV)) (yF (yP yQ)))))))))))),?_⟩;have v:But M H H:=But.of C.dom (xA.refl _);refine⟨_,rfl,_,rfl,L,M,R,m,rfl,C,_,rfl,?_⟩;cases h1:Bk.z9 R m with
 |false=>exact onT rfl (onT rfl (q H _ R v C λS=> .hangN (.inl h1)))
 |true=>
 refine onF rfl ⟨_,rfl,_,rfl,L,M,R,o,rfl,C,_,rfl,?_⟩;cases h2:Bk.z9 R o with
 |false=>exact onT rfl (q H _ R v C λS=> .hangN (.inr h2))
 |true=>
 obtain⟨i,r,rfl,G,I,hv⟩:=Bk.wF h1;obtain⟨j,p,rfl,D,N,hw⟩:=Bk.wF h2;obtain⟨b,g1,g2,cp,g3,g4⟩:=C.get I;obtain⟨Z,f1,f2,b5,f3,f4⟩:=C.get N;refine onF rfl ⟨_,rfl,_,rfl,L,_,_,_,rfl,rfl,SqL.of C.lst,yR g1,?_⟩;dsimp only[yW];refine⟨_,rfl,_,rfl,L,_,_,_,rfl,rfl,SqL.of C.lst,yR f1,?_⟩;dsimp only[yW];refine⟨_,rfl,b,_,4,_,rfl,rfl,SqL.of g3,rfl,rfl,_,rfl,?_⟩;cases u:r.link with
 |some x=>exact onT rfl (q H _ R v C λS=> .hangH I hv N hw (by rw[u];simp))
 |none=>
 obtain⟨rk,ok⟩:=hT;have hT:Bk.uQ R:=⟨rk,ok⟩;refine onF rfl ⟨_,rfl,_,rfl,L,M,R.length,Bk.lk R,rk,Bk.dt R,j,rfl,C.rows,ok,hR,D,λH1 l b9 k1 nl hl hp hm=>?_⟩;have et:=Bk.aXi D ⟨rk,ok,hp,hm⟩;subst et;obtain⟨_,_,a8⟩:=Bk.jE hT D;obtain⟨hd,W⟩:∃hd,(Bk.thr R j).head? =some hd:=⟨_,a8⟩;have e0:(((Bk.thr R j).map λi=>V.int (i:Nat)))[0]? =some (.int (hd:Nat)):=by rw[bYu,<- List.head?_eq_getElem?,W];rfl
 have n:=C.same k1;have T:=k1 _ _ g3;have O:=k1 _ _ f3;have g:But M H H1:=But.of C.dom k1;refine⟨l,_,0,_,rfl,rfl,SqL.of hl,yR e0,_,rfl,rfl,_,rfl,?_⟩;rw[aV6];refine qB (λc=>?_) (λc=>?_)
 ·have e:hd=i:=of_decide_eq_true c;exact q H1 _ R g n λS=> .hangO I hv N hw u (by rw[W,e])
 have B:(Bk.thr R j).head? ≠some i:=λz=>c (decide_eq_true (by rw[W]at z;exact bYw z));refine⟨_,rfl,b,_,0,_,rfl,rfl,SqL.of T,rfl,_,rfl,Z,_,0,_,rfl,rfl,SqL.of O,rfl,rfl,_,rfl,?_⟩;rw[wV];refine qB (λc1=>?_) (λc1=>?_)
 ·exact q H1 _ R g n λS=> .hangW I hv N hw u B (of_decide_eq_true c1)
 have h3:=of_decide_eq_false (Bool.eq_false_iff.mpr c1);refine⟨_,rfl,b,_,2,_,rfl,rfl,SqL.of T,rfl,_,rfl,Z,_,2,_,rfl,rfl,SqL.of O,rfl,rfl,_,rfl,?_⟩;rw[wV];cases a0:decide (r.partner=p.partner)with
 |false=>exact onT rfl (q H1 _ R g n λS=> .hangP I hv N hw u B h3 (of_decide_eq_false a0))
 |true=>
 have h4:=of_decide_eq_true a0;refine onF rfl ⟨_,rfl,b,_,1,_,rfl,rfl,SqL.of T,rfl,_,rfl,Z,_,1,_,rfl,rfl,SqL.of O,rfl,_,_,rfl,rfl,_,rfl,?_⟩;refine qB (λc2=>?_) (λc2=>?_)
 ·exact q H1 _ R g n λS=> .hangE I hv N hw u B h3 h4 (of_decide_eq_true c2)
 have h5:p.date<=r.date:=by have:=of_decide_eq_false (Bool.eq_false_iff.mpr c2);omega
 refine⟨_,rfl,_,rfl,L,M,R.length,Bk.lk R,rk,Bk.dt R,i,rfl,n.rows,ok,hR,G,λH2 l2 b4 k2 b8 a2 a5 X=>⟨l2,rfl,⟨_,SqL.of a2⟩,?_⟩⟩;have b3:=Bk.aXi G ⟨rk,ok,a5,X⟩;subst b3;have b6:i≠j:=λz=>by subst z;have Y:=Bk.jE hT G;obtain⟨b1,o2,U⟩:=Y;rw[Fm.zX (by rw[Bk.vP I];exact u)]at U;exact B U
 have a4:j∉Bk.thr R i:=λz=>by have Y:=(X j).mp z;rw[Fm.zX (i:=i) (by rw[Bk.vP I];exact u)]at Y;obtain⟨b1,o2,U⟩:=Bk.jE hT D;rw[Fm.jY o2 ok D,Y.2]at U;exact B U
 refine zM (xs:=(Bk.thr R i).map λi=>V.int (i:Nat)) (λt σ H3=>∃o5 o6:Option V,σ= [some (.ref L),some (.int (i:Nat)),some (.int (j:Nat)),some (.ref b),some (.ref Z),o5,o6]/\y8 H3 L M (Bk.laid R ((Bk.thr R i).take t) p.place)/\But M H2 H3/\H3 l2=some (.lst ((Bk.thr R i).map λi=>V.int (i:Nat)))) ?_ ?_ ?_ ?_
 ·exact⟨none,none,rfl,n.same k2,But.of (n.same k2).dom (xA.refl _),a2⟩
 ·rintro t σ H3 ht ⟨o5,o6,rfl,d,k3,J⟩;exact SqL.of J
 ·rintro t x σ H3 hx ⟨o5,o6,rfl,d,k3,J⟩;rw[bYu]at hx;cases hc:(Bk.thr R i)[t]? with
  |none=>rw[hc]at hx;cases hx
  |some k=>
   rw[hc]at hx;cases hx;have a6:k<R.length:=((X k).mp (bYt hc)).1;obtain⟨bk,ck,c0,Y,U,e3,e4,e5,e6⟩:=aVi (K:=K) d hc a6 J;have a7:(Bk.laid R ((Bk.thr R i).take t) p.place)[j]? =some p:=by rw[Bk.vW,if_neg (λz=>a4 (List.mem_of_mem_take z))];exact N
   obtain⟨b0,d1,d2,a3,d3,d4⟩:=d.get a7;obtain rfl:Z=b0:=bYw (f2.symm.trans d2);dsimp only[yW];refine⟨_,rfl,_,rfl,L,_,_,_,rfl,rfl,SqL.of d.lst,yR Y,?_⟩;dsimp only[yW];exact⟨_,rfl,Z,_,5,_,rfl,rfl,SqL.of d3,rfl,_,rfl,bk,_,5,5,rfl,rfl,U,rfl,_,_,rfl,e3,k3.trans e4,e5⟩
 ·rintro σ H3 ⟨o5,o6,rfl,d,k3,J⟩;rw[bYe,cQb]at d;have a9:i<(Bk.laid R (Bk.thr R i) p.place).length:=by rw[Bk.zR];exact G
  have a1:=bK9 a9;obtain⟨b',d1,d2,a3,d3,d4⟩:=d.get a1;obtain rfl:b=b':=bYw (g2.symm.trans d2);refine⟨_,rfl,_,rfl,b,_,4,4,rfl,rfl,d3,rfl,?_⟩;refine q _ _ _ ((g.trans ((But.of n.dom k2).trans k3)).trans (But.upd d.dom d2 d3 rfl)) (d.upd d2 a1 (λr=>{r with link:=some j}) d4) λS=> .hang I hv N hw u B h3 h4 h5
end
end Law
namespace L2
open PySem
def tbV:Option Nat->bYa
 |none=> .none
 |some T=> .ref T
structure qS(h:Heap)(e:Nat)(cls:bYa)(dx:Option Nat)(tb:Option Nat):Prop where
 obj:∃oe vs,h.get? e=some oe/\oe.cls=cls/\oe.dict=dx/\oe.data= .fields vs/\vs[1]? =some (tbV tb)
 ent:∀T,tb=some T->T≠e/\∃oT ts,h.get? T=some oT/\oT.data= .fields ts/\ts[3]? =some .none
theorem qS.keeps{h h':Heap}{e:Nat}{cls:bYa}{dx tb:Option Nat}(x:qS h e cls dx tb)(k:∀b o,(b=e\/tb=some b)->h.get? b=some o->h'.get? b=some o):qS h' e cls dx tb:=by
 obtain⟨a,f,g,n,q,r,p⟩:=x.obj;refine⟨⟨a,f,k e a (.inl rfl) g,n,q,r,p⟩,λT d=>?_⟩;obtain⟨ne,c,j,l,m,i⟩:=x.ent T d;exact⟨ne,c,j,k T c (.inr d) l,m,i⟩
structure bKh(fs:List Nat)(e:Nat)(tb:Option Nat)(h h':Heap):Prop where
 keep:∀b o,b≠e->tb≠some b->b∉fs->h.get? b=some o->h'.get? b=some o
 slot:∀b o,b≠e->tb≠some b->h.get? b=some o->∃sl,h'.get? b=some {o with slots:=sl}
 there:∀b o,h.get? b=some o->∃o',h'.get? b=some o'
theorem aQX(f:Array bYa->Array bYa)(o:Obj):(o.mapFields f).dict=o.dict:=by
 obtain⟨c,d,dt,a⟩:=o;cases dt<;> rfl
section
variable {M:Model}{A:bYO}{E:bYa->bYd->Prop}{s:bYd}{base:Heap}{env:Env}{outer:List Env}{L e:Nat}{cls:bYa}{dx tb:Option Nat}
theorem aK0{a:Obj}{vs:Array bYa}(hl:s.heap.FunFrames base (env::outer))(f:s.heap.get? e=some a)(g:a.data= .fields vs):e∉(env::outer).filterMap (·.frame):=λc=>by
 obtain⟨_,o,b,d⟩:=hl.mem c;rw[f]at b;cases b;exact d vs g
theorem aZb{head:bYa}{r:Bool}{Q:Unit->bYd->Prop}{i:Obj}{vs:Array bYa}(y:A.frames=some (env::outer))(hl:s.heap.FunFrames base (env::outer))(G:env.frame=some L)
  (F:s.heap.get? e=some i) (n:i.data= .fields vs) (hz:1<vs.size)
  (h:∀m T,qS m e i.cls i.dict (some T)->s.heap.objs.size<=T->bKh ((env::outer).filterMap (·.frame)) e none s.heap m->Q () {s with heap:=m}):
  bYi M A (do let fr <- frameOf env;let place <- entryPlaceOf L r;let en <- EntryCells.newEntry head fr .none (cQq L) .none place;setField (.ref e) 1 en) (λ_ K=>bYi M A (cZg (.ref e) none) Q E K) E s:=by
 have t:=aK0 hl F n
 refine bYb (wpAny_frameOf_fun y hl G λa d=>?_)
 refine bYb (wpAny_entryPlaceOf λplace J=>?_)
 unfold EntryCells.newEntry newFields
 refine bYb (cXa ?_ (J.sizeOk5 _ _ _ _ _))
 have B:a.get? e=some i:=(d.2.1 e t).trans F
 generalize u:({cls:= .type "traceback",dict:=none,data:= .fields ([head,.ref L,.none,cQq L,.none]++(if place.isEmpty then cXJ 6 Value.none else place)).toArray}:Obj)=ob
 have c:ob.data= .fields ([head,.ref L,.none,cQq L,.none]++(if place.isEmpty then cXJ 6 Value.none else place)).toArray:=by rw[<- u]
 have k:ob.isFreed=false:=cQx c
 have z:(a.push ob).get? e=some i:=bYf ob B
 have l:a.objs.size≠e:=cXP (bYo B)
 refine cXh z n hz ?_
 have d3:=cQA n (·.setIfInBounds 1 (Value.ref a.objs.size))
 have v:=cQd (cQp (·.setIfInBounds 1 (Value.ref a.objs.size))) z (cQx d3)
 have D:=(bYK (a.push ob) (cQp (·.setIfInBounds 1 (Value.ref a.objs.size))) (bYU l)).trans (bYE a k)
 have j:3<([head,.ref L,.none,cQq L,.none]++(if place.isEmpty then cXJ 6 Value.none else place)).toArray.size:=by simp
 unfold cZg
 refine bYb (wpAny_field v d3 (x:= .ref a.objs.size) (by simp[hz]) ?_)
 rw[if_pos (show(Value.ref a.objs.size !=Value.none)=true from by simp)]
 refine cXh D c j (h _ a.objs.size ?_ ?_ ?_)
 ·refine⟨⟨_,_,(bYK _ _ l).trans v,Obj.cls_mapFields _ _,aQX _ _,d3,by simp[tbV,hz]⟩,λT H=>?_⟩;cases H;refine⟨l,_,_,cQd _ D (cQx (cQA c _)),cQA c _,?_⟩;rw[Array.getElem?_setIfInBounds_self_of_lt j];rfl
 ·exact cXN d.1.symm
 ·have p:∀b o,b≠e->a.get? b=some o->(((a.push ob).update e (cQp (·.setIfInBounds 1 (Value.ref a.objs.size)))).update a.objs.size (cQp (·.setIfInBounds 3 ((none:Option Nat).elim Value.none λf=>cQq f)))).get? b=some o:=λb o g q=>by
   rw[bYK _ _ (cXP (bYo q)),bYK _ _ (bYU g)];exact bYf _ q
  refine⟨λb o g _ I q=>p b o g ((d.2.1 b I).trans q),λb o g _ q=>?_,λb o q=>?_⟩
  ·obtain⟨C,w⟩:=d.2.2 b o q;exact⟨C,p b _ g w⟩
  ·by_cases g:b=e
   ·subst g;exact⟨_,(bYK _ _ l).trans v⟩
   ·obtain⟨C,w⟩:=d.2.2 b o q;exact⟨_,p b _ g w⟩
theorem aVm{Q:Unit->bYd->Prop}(i:A.frames=some (env::outer))(hl:s.heap.FunFrames base (env::outer))(r:env.frame=some L)(x:qS s.heap e cls dx tb) (h:∀g T,qS g e cls dx (some T)->s.heap.objs.size<=T->bKh ((env::outer).filterMap (·.frame)) e tb s.heap g->Q () {s with heap:=g}): bYi M A (cZA (.ref e) env) (λ_ J=>bYi M A (cZg (.ref e) none) Q E J) E s:=by
 obtain⟨K,v,m,G,H,u,C⟩:=x.obj;subst G H;have B:=(cXC.mp C).1;unfold cZA;simp only[r];refine bYb (wpAny_field m u C ?_);cases tb with
 |none=>rw[if_neg (by decide)];exact aZb i hl r m u B h
 |some T=>
  obtain⟨ne,N,F,j,k,w⟩:=x.ent T rfl;rw[if_pos (show(tbV (some T) !=Value.none)=true from by simp[tbV])];refine bYb (wpAny_field j k w ?_);rw[if_neg (show ¬ ((Value.none==cQq L)=true)from by simp[cQq])];refine bYb (cXh j k (cXC.mp w).1 ?_);have f:∀b,b≠T->(s.heap.update T (cQp (·.setIfInBounds 3 Value.none))).get? b=s.heap.get? b:=λb l=>bYK _ _ (bYU l);have t:∀b o,s.heap.get? b=some o->(∀v,o.data≠ .fields v)->b≠T:=λb o q n z=>by rw[z,j]at q;cases q;exact n F k
  refine aZb (s:={s with heap:=s.heap.update T (cQp (·.setIfInBounds 3 Value.none)) }) i (hl.of_keeps λb o q n=>⟨o,(f b (t b o q n)).trans q,rfl⟩) r ((f e (bYU ne)).trans m) u B λg D y I p=>h g D y ?_ ⟨λb o a c d q=>?_,λb o a c q=>?_,λb o q=>?_⟩
  ·rw[<- Heap.size_after_update s.heap T (cQp (·.setIfInBounds 3 Value.none))];exact I
  ·exact p.keep b o a (by simp) d ((f b λz=>c (by rw[z])).trans q)
  ·exact p.slot b o a (by simp) ((f b λz=>c (by rw[z])).trans q)
  ·by_cases l:b=T
   ·subst l;exact p.there _ _ (cQd _ j (cQx (cQA k _)))
   ·exact p.there b o ((f b l).trans q)
theorem aKR{Q:Unit->bYd->Prop}(a:A.frames=some (env::outer))(hl:s.heap.FunFrames base (env::outer))(c:env.frame=some L)(x:qS s.heap e cls dx tb) (h:∀b T,qS b e cls dx (some T)->s.heap.objs.size<=T->bKh ((env::outer).filterMap (·.frame)) e tb s.heap b->Q () {s with heap:=b}):bYi M A (leaving env (.ref e)) Q E s:=by
 unfold leaving;exact bYb (aVm a hl c x h)
theorem bQX{T:Nat}{Q:Unit->bYd->Prop}(x:qS s.heap e cls dx (some T)) (h:∀d,qS d e cls dx (some T)->(∀b o,b≠T->s.heap.get? b=some o->d.get? b=some o)->(∀b o,s.heap.get? b=some o->∃u,d.get? b=some u)->Q () {s with heap:=d}):bYi M A (cZg (.ref e) none) Q E s:=by
 obtain⟨p,n,g,t,v,m,l⟩:=x.obj;obtain⟨ne,B,z,j,f,r⟩:=x.ent T rfl;have k:=(cXC.mp r).1;have i:=cQd (cQp (·.setIfInBounds 3 Value.none)) j (cQx (cQA f _));have a:∀b,b≠T->(s.heap.update T (cQp (·.setIfInBounds 3 Value.none))).get? b=s.heap.get? b:=λb c=>bYK _ _ (bYU c);refine wpAny_setFlight_none g m l j f k (h _ ⟨⟨p,n,(a e (bYU ne)).trans g,t,v,m,l⟩,λy w=>?_⟩ (λb o c q=>(a b c).trans q) λb o q=>?_)
 ·cases w;exact⟨ne,_,_,i,cQA f _,by simp[k]⟩
 ·by_cases c:b=T
  ·subst c;exact⟨_,i⟩
  ·exact⟨o,(a b c).trans q⟩
end
end L2
namespace L2
open PySem PySem.W PySem.Calls PyProof.Rows Builtin Builtin.ObjectAttr
def jJ:List bYa:= [.type "Exception",.type "BaseException",.type "object"]
def aJf:List bYa->Bool
 |.ref _::r=>aJf r
 |l=>l==jJ
theorem aW9:∀l:List bYa,aJf l=true->∃a:List Nat,l=a.map Value.ref++jJ:=by
 intro l;induction l with
 |nil=>intro e;cases e
 |cons v r b=>
  intro e;cases v with
  |ref c=>obtain⟨a,h⟩:=b e;exact⟨c::a,by rw[h];rfl⟩
  |_=>exact⟨[],beq_iff_eq.mp e⟩
theorem aQP(self:bYa):∀rs:List Nat,refuseLoop self "__setattr__" (rs.map Value.ref++jJ)=pure ()
 |[]=>PySem.F.store_Exception.passes self
 |c::rs=>by rw[bY0,cZJ,refuseLoop_ref];exact aQP self rs
theorem aVT{T:String}{b:Bool}(h:jJ.contains (.type T)=b):∀rs:List Nat,(rs.map Value.ref++jJ).contains (.type T)=b
 |[]=>h
 |c::rs=>by rw[bY0,cZJ,cXx,aVT h rs];rfl
def bQL(K:Frag)(C:Nat):Bool:=match K.lookup C with
 |some ⟨_,_,.cls cd,sl⟩=> !cd.hasDel && cd.hasDict && (sl.toList[4]?).join==some (.builtin "Exception.__new__") && aJf cd.mro && cd.mro.contains (.ref C) &&
   specialIn K (.ref C) "__call__"==some (some (.builtin "type.__call__")) && instIn K (.ref C) (.type "type")==some true && typeIn K (.ref C)==some (.type "type") &&
   findIn K (.ref C) "__setattr__"==some (some (.builtin "object.__setattr__")) && findIn K (.ref C) "__getattribute__"==some (some (.builtin "BaseException.__getattribute__")) &&
   findIn K (.ref C) "__getattr__"==some none && findIn K (.ref C) "words"==some none
 |_=>false
structure vU(K:Frag)(C:Nat):Prop where
 cls:∃oc od cd sl,K.lookup C=some ⟨oc,od,.cls cd,sl⟩/\cd.hasDel=false/\cd.hasDict=true/\(sl.toList[4]?).join=some (.builtin "Exception.__new__")/\(∃rs:List Nat,cd.mro=rs.map Value.ref++jJ)/\cd.mro.contains (.ref C)=true
 call:specialIn K (.ref C) "__call__"=some (some (.builtin "type.__call__"))
 typ:instIn K (.ref C) (.type "type")=some true
 ty:typeIn K (.ref C)=some (.type "type")
 sa:findIn K (.ref C) "__setattr__"=some (some (.builtin "object.__setattr__"))
 ga:findIn K (.ref C) "__getattribute__"=some (some (.builtin "BaseException.__getattribute__"))
 gh:findIn K (.ref C) "__getattr__"=some none
 wd:findIn K (.ref C) "words"=some none
theorem aKz{K:Frag}{C:Nat}(e:bQL K C=true):vU K C:=by
 unfold bQL at e;split at e
 ·rename_i g h o i l;simp only[Bool.and_eq_true,Bool.not_eq_true',beq_iff_eq]at e;obtain⟨⟨⟨⟨⟨⟨⟨⟨⟨⟨⟨f,d⟩,j⟩,r⟩,p⟩,k⟩,n⟩,m⟩,q⟩,b⟩,c⟩,a⟩:=e;exact⟨⟨g,h,o,i,l,f,d,j,aW9 _ r,p⟩,k,n,m,q,b,c,a⟩
 ·cases e
abbrev wI(C t:Nat)(dx:Option Nat):Obj:={cls:= .ref C,dict:=dx,data:= .fields #[.ref t,.none,.none,.none,.bool false,.none] }
abbrev Z3:Obj:={cls:= .type "tuple",data:= .seq #[] }
section
variable {M:Model}{K:Frag}{C:Nat}{h:Heap}
theorem vU.sub(X:K.In h)(c:vU K C){T:String}{b:Bool}(e:jJ.contains (.type T)=b):Looks M h (cZe (.ref C) (.type T)) b:=by
 obtain⟨p,i,d,k,f,m,j,l,⟨n,a⟩,o⟩:=c.cls;have g:clsIn K C=some d:=by unfold clsIn;rw[f]
 refine looks_mroIn X ?_;unfold mroIn;rw[g,Option.bind_some,a,if_neg (by simp[jJ]),aVT e]
theorem vU.self(X:K.In h)(c:vU K C):Looks M h (cZe (.ref C) (.ref C)) true:=by
 obtain⟨n,g,b,j,d,l,i,k,⟨m,a⟩,e⟩:=c.cls;have f:clsIn K C=some b:=by unfold clsIn;rw[d]
 refine looks_mroIn X ?_;unfold mroIn;rw[f,Option.bind_some,if_neg (by rw[a];simp[jJ]),e]
theorem vU.made(X:K.In h)(c:vU K C):Looks M h (Bind.madeBy (.ref C)) (some "Exception.__new__"):=by
 obtain⟨n,o,a,p,b,j,i,f,⟨m,r⟩,d⟩:=c.cls;have e:clsIn K C=some a:=by unfold clsIn;rw[b]
 have g:Looks M h (mroOf (.ref C)) a.mro:=(looks_clsIn X e).andThen .now;obtain⟨v,l,hl⟩:∃v l,a.mro=v::l:=by
  cases q:a.mro with
  |nil=>rw[q]at d;cases d
  |cons v l=>exact⟨v,l,rfl⟩
 intro A Q E s k q;unfold Bind.madeBy;refine bYb (g A _ E s k ?_);rw[hl,cZQ];refine bYb (bYb (bYb (bYb (wpAny_loadPart (k _ _ (X _ _ b)) (bYg ?_)))));dsimp only;rw[<- cQI,f];exact bYg (bYg (bYg q))
theorem vU.base(X:K.In h)(c:vU K C):Looks M h (Bind.staticBase (.ref C)) (.ref C):=by
 have made:=c.made (M:=M) X;obtain⟨m,n,a,o,e,i,g,p,⟨j,r⟩,b⟩:=c.cls;have d:clsIn K C=some a:=by unfold clsIn;rw[e]
 have f:Looks M h (mroOf (.ref C)) a.mro:=(looks_clsIn X d).andThen .now;obtain⟨v,l,hl⟩:∃v l,a.mro=v::l:=by
  cases q:a.mro with
  |nil=>rw[q]at b;cases b
  |cons v l=>exact⟨v,l,rfl⟩
 intro A Q E s k q;unfold Bind.staticBase;refine bYb (f A _ E s k ?_);rw[hl,cZQ];exact bYb (bYb (bYb (made A _ E s k (bYg (bYg (bYg q))))))
theorem vU.here(X:K.In h)(c:vU K C):Looks M h (Bind.madeHere "BaseException.__new__" (.ref C)) ():=
 (c.base X).andThen ((c.made X).andThen (Looks.of_pure (by simp only[Option.map_some,cJr.canon,bne_self_eq_false,Bool.false_eq_true,if_false])))
end
section
variable {prog:bYx}{w:bYD}{A:bYO}{R:Result->bYd->Prop}{K:Frag}{C f:Nat}{h:Heap}{g:Array GenState}{d:Drawn}{t:Nat}{os:OsState}
theorem bJp(X:K.In h)(c:vU K C)(o:R (.ok (.ret (.ref (h.objs.size+1)))) ⟨(h.push Z3).push (wI C h.objs.size none),g,d,t,os⟩): cXr (bYk prog w) A (.call (.builtin "Exception.__new__") ⟨[.ref C],[]⟩) R ⟨h,g,d,t,os⟩:=by
 have F:=cJr;have made:=c.made (M:=bYk prog w) X;have k:=c.base (M:=bYk prog w) X;have here:=c.here (M:=bYk prog w) X;have s:Looks (bYk prog w) h (cZe (.ref C) (.type "Exception")) true:=c.sub X dk;have v:Looks (bYk prog w) h (cZe (.ref C) (.type "AttributeError")) false:=c.sub X dk;have u:Looks (bYk prog w) h (cZe (.ref C) (.type "NameError")) false:=c.sub X dk;obtain⟨f,i,n,j,l,e,q,x,⟨r,z⟩,y⟩:=c.cls;have m:h.get? C=some ⟨f,i,.cls n,j⟩:=X _ _ l;refine codeAny_call_builtin_code (cJa _ F.quiet) ?_;simp only[checkBuiltinCall,F.newKind,F.newSplit,F.newRow];have args:Bind.checkArgs "Exception.__new__" ⟨.any,"Exception","Exception",.cls,[⟨"args",.varPos,false⟩,⟨"kwargs",.varKw,false⟩]⟩ ⟨[.ref C],[]⟩=pure ():=by kernel_rfl
 rw[args];repeat (first|simp only[bne_self_eq_false,Bool.false_eq_true,if_false]|lk)
 have b:=F.ends;refine codeAny_builtinAt F.entry ?_;unfold cQY.«BaseException.__new__»;refine PySem.wpAt_bind ?_;show PySem.wpAt _ _ _ (stack >>=_) _ _ _;refine PySem.wpAt_bind (PySem.wpAt_stack λp a=>PySem.wpAt_of_wpAny ?_);wp_walk;refine PySem.wpAt_of_wpAny ?_;rw[F.owner];repeat (first|simp only[Bool.not_true,Bool.false_eq_true,if_false]|lk)
 refine nd_load (bYf _ (bYf _ m)) (bYg ?_);dsimp only;refine bYg ?_;rw[e];refine bYg (bYg ?_);show R _ _;rw[cQJ];exact o
theorem bQM(X:K.In h)(c:vU K C)(s:findIn K (.ref C) "__init__"=some (some (.ref f)))(q:typeIn K (.ref f)=some (.type "function")) (B:cXr (bYk prog w) (A.under (.builtin "type.__call__" ⟨[.ref C],[]⟩)) (.call (.ref f) ⟨[.ref (h.objs.size+1)],[]⟩) (InitBack (h.objs.size+1) R) ⟨(h.push Z3).push (wI C h.objs.size none),g,d,t,os⟩): cXr (bYk prog w) A (.call (.ref C) ⟨[],[]⟩) R ⟨h,g,d,t,os⟩:=by
 obtain⟨m,n,j,p,u,G,E,L,⟨H,D⟩,O⟩:=c.cls;have l:h.get? C=some ⟨m,n,.cls j,p⟩:=X _ _ u;have call:=looks_specialIn (M:=bYk prog w) X c.call;have i:=looks_instIn (M:=bYk prog w) X c.typ;have made:=c.made (M:=bYk prog w) X;have x:j.mro.isEmpty=false:=by rw[D];simp[jJ]
 refine codeAny_of_tree ?_;show bYi _ _ (callAny (.ref C) _) _ _ _;refine nd_load l ?_;show bYi _ _ (callAny.viaDunder (.ref C) _) _ _ _;unfold callAny.viaDunder;refine bYb (call.at ?_);dsimp only;rw[tc_bind];refine bYb (bYg (bYb (bYg ?_)));refine bYg (a:=Fin.again (.call (.builtin "type.__call__") ⟨[.ref C],[]⟩)) (And.intro rfl ?_);refine codeAny_call_builtin_at (cJa _ dk) entry_typeCall (check_slot tc_kind tc_split i (tc_args _ _ _) ?_);unfold cQY.«type.__call__»;have N:Looks (bYk prog w) h (mroOf (.ref C)) j.mro:=((Looks.ld (part:=none) l).andThen .now).andThen .now;repeat (first|simp only[x,Bool.false_eq_true,if_false]|with_reducible refine cZl ?_|lk)
 refine bJp X c ?_;have k:∀b o,h.get? b=some o->((h.push Z3).push (wI C h.objs.size none)).get? b=some o:=λb o e=>bYf _ (bYf _ e);have y:((h.push Z3).push (wI C h.objs.size none)).get? (h.objs.size+1)=some (wI C h.objs.size none):=by heap_get
 have P:Looks (bYk prog w) ((h.push Z3).push (wI C h.objs.size none)) (typeOf (.ref (h.objs.size+1))) (.ref C):=(Looks.ld y).andThen .now;have I:=(c.self (M:=bYk prog w) X).keeps k;have F:=(looks_findIn (M:=bYk prog w) X s).keeps k;have b1:=(bind_fn (M:=bYk prog w) X (.ref (h.objs.size+1)) q).keeps k;unfold cZW callSpecial? specialOf;repeat (first|with_reducible refine cZl ?_|lk)
 refine cQ4 B λr J z=>?_;rcases r with e|(v|_|_|_)<;> first|exact z|exact z.elim|skip
 obtain⟨rfl,z⟩:=z;exact bYg (bYg z)
end
section
variable {prog:bYx}{w:bYD}{A:bYO}{E:bYa->bYd->Prop}{K:Frag}{C e tp:Nat}{s:bYd}{v:bYa}
theorem bJq{Q:Unit->bYd->Prop}(X:K.In s.heap)(c:vU K C)(k:s.heap.get? e=some (wI C tp none)) (N:∀d tk,d.get? e=some (wI C tp (some s.heap.objs.size))->d.Ns1 s.heap.objs.size (λy=>if y="words" then some v else none)->(∀b o,b≠e->s.heap.get? b=some o->d.get? b=some o)->Q () {s with heap:=d,toks:=tk}): bYi (bYk prog w) A (setAttr (.ref e) "words" v) Q E s:=by
 have I:InstAt s.heap e (wI C tp none) C none:=⟨k,rfl,rfl,cQw⟩;refine set_plain X I c.sa ?_;have g:=PySem.F.store_object;obtain⟨S,T,z,U,G,P,B,W,⟨R,O⟩,Y⟩:=c.cls;have u:clsIn K C=some z:=by unfold clsIn;rw[G]
 have sub:Looks (bYk prog w) s.heap (cZW (.ref e) (.type "object")) true:=I.type.andThen (c.sub X dk);have J:Looks (bYk prog w) s.heap (mroOf (.ref C)) z.mro:=(looks_clsIn X u).andThen .now;refine cZV g.slot.plain g.entry (@check_slot (bYk prog w) _ _ {s with toks:=s.toks+1} "object.__setattr__" "object" "__setattr__" (.ref e) [.str "words" s.toks,v] [] _ g.kind g.split sub (g.args (.ref e) (.str "words" s.toks) v) ?_);rw[osa_eq,refuse_eq];have h:∀ (b:Nat)(o:Obj),s.heap.get? b=some o->s.heap.get? b=some o:=λ_ _ e=>e;refine bYb (bYb (I.type _ _ _ _ h (bYb (J _ _ _ _ h ?_))));rw[O,aQP];refine bYg (bYb (I.type _ _ _ _ h (bYb ((looks_findIn X c.wd) _ _ _ _ h (bYb (bYg ?_))))));have j:e≠s.heap.objs.size:=bYA (bYo k);have i:(s.heap.push emptyDict).get? e=some (wI C tp none):=bYf _ k;refine bYb (bYg (bYb (bYb (wpAny_loadPart k (bYb ((looks_clsIn X u) _ _ _ _ h ?_))))));rw[B];refine bYb (wpAny_alloc ?_);refine bYb (wpAny_update i ?_);refine bYg (a:=some s.heap.objs.size) ?_;show bYi _ _ (storeInDict s.heap.objs.size (.str "words" s.toks) "words" v) _ _ _;have t:((s.heap.push emptyDict).update e λo=>{o with dict:=some s.heap.objs.size}).get? s.heap.objs.size=some emptyDict:=(cZ0 _ _ _ _ j.symm).trans (Heap.get?_push_at rfl rfl);have n:((s.heap.push emptyDict).update e λo=>{o with dict:=some s.heap.objs.size}).Ns s.heap.objs.size (λ_=>none):=⟨_, #[],_,t,rfl,λe H=>absurd H (by simp),λ_=>rfl⟩;have r:=cQd (λo=>{o with dict:=some s.heap.objs.size}) i rfl;unfold storeInDict newKeyGuard;refine bYb (bYg (bYb (wpAny_nsSet1 (Heap.Ns1.of_empty n) λd f x=>?_)));obtain⟨V,D,M,l,m,p⟩:=f.count (Within.cons "words" v Within.nil);refine bYb (wpAny_lookBehind l (by rw[m];exact pastItsLine_dict (bYQ p (by rw[bY8,cXj,bYJ];omega))) ?_);refine bYg ?_;refine N d _ ((x.2 e j).trans r) f λb o L q=>?_;exact(x.2 b (bYA (bYo q))).trans ((cZ0 _ _ _ _ L).trans (bYf _ q))
theorem bga:Slot "Exception" "__getattribute__" "BaseException.__getattribute__":=
 .of (owner:="BaseException") (n:="__getattribute__") (by rw[typeLookup_type,cZM];kernel_rfl) dk dk dk (by first|exact .inl dk|exact .inr dk) (by rw[isSubtype_type];kernel_rfl)
theorem bJo{a:Bool}{Q:bYa->bYd->Prop}{b d:Obj}{dx:Nat}(X:K.In s.heap)(c:vU K C)(u:s.heap.get? e=some b)(k:b.cls= .ref C)(l:b.dict=some dx)(m:notCls b=true)(p:s.heap.get? dx=some d) (hl:lookIn "words" d=some (some v)) (n:handedIn v=true) (x:Q v {s with toks:=s.toks+1}):bYi (bYk prog w) A (getAttr (.ref e) "words" a) Q E s:=by
 have I:InstAt s.heap e b C (some d):=⟨u,k,m,by rw[l];exact p⟩;obtain⟨B,j,r,D,g,y,i,G,⟨z,J⟩,H⟩:=c.cls;have f:clsIn K C=some r:=by unfold clsIn;rw[g]
 have o:findObj K C (some d) "words"=some (.value v):=by unfold findObj;rw[f,Option.bind_some,c.wd];simp only[Option.bind_some];unfold W.ownOf;rw[i,if_pos rfl];dsimp only;rw[hl];rfl
 have h:=I.type (M:=bYk prog w);have q:=looks_find (M:=bYk prog w) X I o;have sub:Looks (bYk prog w) s.heap (cZW (.ref e) (.type "BaseException")) true:=I.type.andThen (c.sub X dk);refine bYb (wpAny_mkText (cQs (bYb (h _ _ _ _ (λ_ _ e=>e) (bYb (looks_findIn X c.ga _ _ _ _ (λ_ _ e=>e) ?_))))));dsimp only;rw[show(onTheHeap (Value.ref C) && Value.builtin "BaseException.__getattribute__"==Value.builtin "object.__getattribute__")=false from by rw[show(Value.builtin "BaseException.__getattribute__"==Value.builtin "object.__getattribute__")=false from dk,Bool.and_false],if_neg (by decide)];have t:Looks (bYk prog w) s.heap (hookBefore (.ref C)) none:=looks_hook (mc:= .ref C) X (by rw[if_pos (show onTheHeap (Value.ref C)=true from rfl)];exact c.gh);refine bYb (t _ _ _ _ (λ_ _ e=>e) (bYb (cZq (cQs ?_))));unfold callGetattribute;rw[show(a && onTheHeap (Value.builtin "BaseException.__getattribute__"))=false from Bool.and_false _,if_neg (by decide)];unfold boundAndCalled;rw[bga.bind];refine bYb (bYg ?_);show bYi _ _ (call (.builtin "BaseException.__getattribute__") [.ref e,.str "words" s.toks]) _ _ _;refine cZl (cZV bga.plain F.entry_bexc_ga ?_);refine @check_slot (bYk prog w) _ _ {s with toks:=s.toks+1} "BaseException.__getattribute__" "BaseException" "__getattribute__" (.ref e) [.str "words" s.toks] [] _ dk dk sub (F.args_bexc_ga (.ref e) (.str "words" s.toks)) ?_;unfold cQY.«object.__getattribute__»;refine bYb (bYg (bYb (bYg ?_)));refine bYb (h _ _ _ _ (λ_ _ e=>e) (bYb (q _ _ _ _ (λ_ _ e=>e) (bYg ?_))));show bYi _ _ (handedOut v) _ _ _;rw[handedOut_of n];exact bYg x
theorem aKA{M:Model}{Q:Bool->bYd->Prop}{f:Obj}{Rf:Nat}(X:K.In s.heap)(c:vU K C)(b:vU K Rf)(m:mroIn K C (.ref Rf)=some true)(h:s.heap.get? e=some f)(i:f.cls= .ref C)(p:Q true s): bYi M A (excMatches (.ref e) (.ref Rf)) Q E s:=by
 obtain⟨a,g,d,t,os⟩:=s;dsimp only at X h;have H:Looks M a (typeOf (.ref e)) (.ref C):=i ▸ (Looks.ld h).andThen .now;have w:Looks M a (cZe (.ref C) (.ref Rf)) true:=looks_mroIn X m;have z:Looks M a (cZW (.ref Rf) (.type "tuple")) false:=(looks_typeIn X b.ty).andThen (Looks.of_pure tc_notTuple);have y:Looks M a (cZe (.ref Rf) (.type "BaseException")) true:=b.sub X dk;have x:Looks M a (typeOf (.ref Rf)) (.type "type"):=looks_typeIn X b.ty;have r:Looks M a (cZe (.type "type") (.type "type")) true:=Looks.of_pure tc_sub;obtain⟨j,k,o,l,n,u,q,B,⟨v,G⟩,F⟩:=b.cls;have D:a.get? Rf=some ⟨j,k,.cls o,l⟩:=X _ _ n;unfold excMatches isExcClass;repeat (first|simp only[Bool.not_true,Bool.false_eq_true,if_false,if_true]|lk)
 exact p
theorem aKB{M:Model}{env:Env}{x:Sem bYa}{Q:Flow->bYd->Prop}(l:A.handled=none) (h:bYi M A x (λv a=>∃e tp f C,v= .ref e/\K.In a.heap/\vU K C/\a.heap.get? e=some (wI C tp f)/\E (.ref e) a) E s):bYi M A (raiseStmt env (some x) none) Q E s:=by
 unfold raiseStmt;refine bYb (cQc h (λv a k=>?_) λ_ _ x=>x);obtain⟨e,tp,f,C,rfl,X,c,i,j⟩:=k;obtain⟨b,g,d,tk,os⟩:=a;dsimp only at X i;have o:Looks M b (typeOf (.ref e)) (.ref C):=(Looks.ld i).andThen .now;have m:Looks M b (cZe (.ref C) (.type "BaseException")) true:=c.sub X dk;have n:Looks M b (typeOf (.ref C)) (.type "type"):=looks_typeIn X c.ty;unfold excFromValue isExcClass cZW;repeat (first|simp only[Bool.false_eq_true,if_false,if_true]|lk)
 show bYi M A handled _ _ _;refine wpAny_handled ?_;rw[l];exact wpAny_throw j
end
end L2
namespace L2
open PySem PySem.Spec PyProof.Rows
def CXR(P:bYx)(w:bYD):CXT:=λouter H s E d a=>∃ (e C c tb:Nat)(b:Hp),d= .ref e/\a.os=s.os/\AllBare a.gens/\Un (frs outer) [] H b s.heap a.heap/\HOk P w b a.heap/\
 qS a.heap e (.ref C) (some c) (some tb)/\b e=none/\b tb=none/\s.heap.objs.size<=e/\s.heap.objs.size<=tb/\E (.ref C) (some c) b
section
variable {P:bYx}{w:bYD}{K:bYc}{mg:Str->Option bYa}{base:Heap}{N:List Str}{qual:Str}{scope:cXo}{f:Nat}{cd:bYa}{A:bYO}{outer:List Env}{s₀:bYd}{H₀:Hp}{E:XK}
 {pins:List (Nat×Obj)} {σ:St} {H:Hp} {s:bYd}
theorem bW4{e C dx:Nat}{tb:Option Nat}(I:Inv (aXn (CXR P w) P w K mg base N qual scope f cd A outer s₀ H₀ E) pins σ H s)(x:qS s.heap e (.ref C) (some dx) tb)(B:H e=none)(m:s₀.heap.objs.size<=e) (l:∀T,tb=some T->H T=none/\s₀.heap.objs.size<=T) (q:E (.ref C) (some dx) H):(aXn (CXR P w) P w K mg base N qual scope f cd A outer s₀ H₀ E).xe (.ref e) s:=by
 have ne:∀b o,s₀.heap.get? b=some o->b≠e:=λb o a=>bYA (bYC (bYo a) m);have t:∀b o,s₀.heap.get? b=some o->tb≠some b:=λb o a z=>absurd (bYC (bYo a) (l b z).2) (cQi _);have F:∀b,b∈(cQ8 qual scope s₀.heap.objs.size f cd::outer).filterMap (·.frame)->b=s₀.heap.objs.size\/b∈frs outer:=λb d=>by rw[cXU,show(cQ8 qual scope s₀.heap.objs.size f cd).frame=some s₀.heap.objs.size from rfl]at d;exact bYj.mp d
 have j:∀b o,s₀.heap.get? b=some o->b∉frs outer->b∉(cQ8 qual scope s₀.heap.objs.size f cd::outer).filterMap (·.frame):=λb o a d z=>
  (F b z).elim (bYA (bYo a)) d
 show bYi (bYk P w) (A.deeper (cQ8 qual scope s₀.heap.objs.size f cd)) (leaving (cQ8 qual scope s₀.heap.objs.size f cd) (.ref e)) _ _ s;refine aKR (base:=base) (outer:=outer) (L:=s₀.heap.objs.size) I.ok.frames I.stack rfl x λO T y D p=>?_;refine⟨e,C,dx,T,H,rfl,I.os,I.bare,?_,?_,y,B,I.hok.fresh D,m,bYQ I.sz D,q⟩
 ·refine⟨λb o a n d h=>?_,λb o a n d h=>?_,λb o a n h=>I.base.free b o a n h,λb o a h=>?_,I.base.tups,I.base.frzs,I.base.tbls⟩
  ·exact p.keep b o (ne b o a) (t b o a) (j b o a d) (I.base.keep b o a n d h)
  ·obtain⟨Q,i⟩:=I.base.slot b o a n d h;obtain⟨k,M⟩:=p.slot b _ (ne b o a) (t b o a) i;exact⟨k,M⟩
  ·obtain⟨J,i⟩:=I.base.there b o a h;exact p.there b J i
 ·refine λb u a=>(I.hok b u a).stay (λc v G r=>?_) (λ_ r=>r) λ_ _ r=>r;have g:H c≠none:=by
   rcases G with z|z
   ·rw[z,a];simp
   ·rw[z];simp
  refine p.keep c v (λz=>g (by rw[z];exact B)) (λz=>g (l c z).1) (λz=>g (I.stkFree c z)) r
theorem zO:vG (CXR P w) (aXn (CXR P w) P w K mg base N qual scope f cd A outer s₀ H₀ E) E:=by
 intro a σ H s q k I h;obtain⟨e,C,p,tb,n,rfl,o,bare,un,g,x,m,j,d,c,i⟩:=h;have l:Inv (aXn (CXR P w) P w K mg base N qual scope f cd A outer s₀ H₀ E) a σ n k:=I.call' o un g bare λb z=>absurd z (by simp);exact bW4 l x m (bYQ I.sz d) (λT z=>by cases z;exact⟨j,bYQ I.sz c⟩) i
theorem Fun.okX{x:Str}{st:Stmt}{e:cQ9}{ps:List Str}{k:Nat}{sp:Sp}(F:Fun K x qual st f e)(S:yO N ps (yH st)) (b:∀ (a:bYa)(A:bYO)(outer:List Env)(s:bYd)(H:Hp)(vs:List V)(Q:VK)(E:XK),vM k (A.deeper (cQ8 qual (yH st) s.heap.objs.size f a))->sp vs H Q E-> ∃t,PSs (aXn (CXR P w) P w K mg base N qual (yH st) f a A outer s H E) (zC st) t/\t {nx:=λ_ j=>Q .non j,rt:=Q} (start N vs) H) (len:∀vs H Q E,sp vs H Q E->vs.length=ps.length:=by intro _ _ _ _ h;repeat (first|(obtain⟨rfl,_⟩:=h;exact rfl)|(obtain⟨_,h⟩:=h))):xD P w K mg base (CXR P w) (k+1) f e ps sp:=by
 obtain⟨o,p,kV,l,m,n,a,ct,g,rfl,lk,c⟩:=F.ex;exact bJs lk c S len λA outer s H vs Q E i d=>b a A outer s H vs Q E i d
end
structure FnX(P:bYx)(w:bYD)(K:bYc)(mg:Str->Option bYa)(base:Heap)(k:Nat)(x:Str)(ps:List Str)(sp:Sp):Prop where
 ex:∃f fd,xD P w K mg base (CXR P w) k f fd ps sp/\vT K fd ps []/\bY6 K (.ref f)=true/\mg x=some (.ref f)
theorem FnX.mono{P:bYx}{w:bYD}{K:bYc}{mg:Str->Option bYa}{base:Heap}{j k:Nat}{x:Str}{ps:List Str}{sp:Sp}(G:FnX P w K mg base j x ps sp)(h:j<=k):FnX P w K mg base k x ps sp:=
 let ⟨f,fd,a,b⟩:=G.ex;⟨f,fd,a.mono h,b⟩
structure MG(P:bYx)(w:bYD)(K:bYc)(mg:Str->Option bYa)(base:Heap)(CX:CXT)(k:Nat)(C:Nat)(m:Str)(ps:List Str)(sp:Sp):Prop where
 ex:∃f fd,xD P w K mg base CX k f fd ps sp/\vT K fd ps []/\bVU K C m f
 cl:Cls K C
theorem MG.mono{P:bYx}{w:bYD}{K:bYc}{mg:Str->Option bYa}{base:Heap}{CX:CXT}{j k:Nat}{C:Nat}{m:Str}{ps:List Str}{sp:Sp}(G:MG P w K mg base CX j C m ps sp)(h:j<=k):MG P w K mg base CX k C m ps sp:=
 let ⟨f,fd,a,b⟩:=G.ex;⟨⟨f,fd,a.mono h,b⟩,G.cl⟩
structure MkG(P:bYx)(w:bYD)(K:bYc)(mg:Str->Option bYa)(base:Heap)(k:Nat)(x:Str)(C:Nat)(ps:List Str)(sp:Sp):Prop where
 ex:∃f fd,xD P w K mg base CX0 k f fd ps sp/\vT K fd ps []/\Mk K C f/\mg x=some (.ref C)
theorem MkG.mono{P:bYx}{w:bYD}{K:bYc}{mg:Str->Option bYa}{base:Heap}{j k:Nat}{x:Str}{C:Nat}{ps:List Str}{sp:Sp}(G:MkG P w K mg base j x C ps sp)(h:j<=k):MkG P w K mg base k x C ps sp:=
 let ⟨f,fd,a,b⟩:=G.ex;⟨f,fd,a.mono h,b⟩
section
variable {X:Cx}{k:Nat}{x m:Str}{C:Nat}{ps:List Str}{sp:Sp}{e o:Expr}{es:List Expr}{ta:TE}{t:TA}{p pos apos:Pos}{E:XK}{CX:CXT}
theorem aQr{P:bYx}{w:bYD}{K:bYc}{mg:Str->Option bYa}{base:Heap}{N:List Str}{qual:Str}{scope:cXo}{f:Nat}{cd:bYa}{A:bYO}{outer:List Env}{s₀:bYd}{H₀:Hp}
  (G:FnX P w K mg base k x ps sp) (d:vM k (A.deeper (cQ8 qual scope s₀.heap.objs.size f cd))) (i:Gl (aXn (CXR P w) P w K mg base N qual scope f cd A outer s₀ H₀ E) x) (l:PA (aXn (CXR P w) P w K mg base N qual scope f cd A outer s₀ H₀ E) (e::es) t)
  (c:(x==("__debug__":Str))=false:=by decide) (j:bYN (e::es) (cQ8 qual scope s₀.heap.objs.size f cd)=(false,eval e (cQ8 qual scope s₀.heap.objs.size f cd))::bYN es (cQ8 qual scope s₀.heap.objs.size f cd):=by rfl)
  (a:(cQN pos (bYN es (cQ8 qual scope s₀.heap.objs.size f cd))).any (·.1)=false:=by rfl):
  PE (aXn (CXR P w) P w K mg base N qual scope f cd A outer s₀ H₀ E) (.Call (.Name x p) (e::es) [] pos) (bZe sp [] E t):=by
 obtain⟨g,n,F,b,h,m⟩:=G.ex
 exact aYn F d i m h b .nil zO l c j a
theorem vR{pl:Sem Bool}(G:MG X.prog X.w X.K X.mg X.base CX k C m ps sp)(n:vM k X.A)(i:vG CX X E)(l:PE X o ta)(d:PA X (e::es) t)
  (c:bYN (e::es) X.env=(false,eval e X.env)::bYN es X.env:=by rfl) (a:(cQN pos (bYN es X.env)).any (·.1)=false:=by rfl)
  (j:eval (.Call (.Attribute o m apos) (e::es) [] pos) X.env=(do
   let ov <- eval o X.env
   standAt apos.atName
   let (f,first) <- cZs [ov] (cZz ov m pl)
   callWith pos f first (cQN pos (bYN (e::es) X.env)) (cZk pos (cXw [] X.env))):=by rfl):
  PE X (.Call (.Attribute o m apos) (e::es) [] pos) (bZg C m sp [] E ta t):=by
 obtain⟨g,p,F,b,h⟩:=G.ex
 exact bJ4 l G.cl h F n b .nil i d c a j
theorem bXB{pl:Sem Bool}(G:MG X.prog X.w X.K X.mg X.base CX k C m ps sp)(h:vM k X.A)(c:vG CX X E)(e:PE X o ta)
  (d:eval (.Call (.Attribute o m apos) [] [] pos) X.env=(do
   let ov <- eval o X.env
   standAt apos.atName
   let (f,first) <- cZs [ov] (cZz ov m pl)
   callWith pos f first (cQN pos (bYN [] X.env)) (cZk pos (cXw [] X.env))):=by rfl):
  PE X (.Call (.Attribute o m apos) [] [] pos) (bZg C m sp [] E ta bZh):=by
 obtain⟨g,i,F,b,a⟩:=G.ex
 exact bXD e G.cl a F h b .nil c d
theorem bKt(G:MkG X.prog X.w X.K X.mg X.base k x C ps sp)(i:vM (k+1) X.A)(j:Gl X x)(d:PA X (e::es) t)(c:(x==("__debug__":Str))=false:=by decide)
  (l:bYN (e::es) X.env=(false,eval e X.env)::bYN es X.env:=by rfl) (a:(cQN pos (bYN es X.env)).any (·.1)=false:=by rfl):PE X (.Call (.Name x p) (e::es) [] pos) (bZf C sp [] E0 t):=by
 obtain⟨g,m,F,b,f,h⟩:=G.ex
 exact bJ3 f F i j h b .nil vQ d c l a
theorem bZQ(G:MkG X.prog X.w X.K X.mg X.base k x C ps sp)(e:vM (k+1) X.A)(f:Gl X x)(a:(x==("__debug__":Str))=false:=by decide):PE X (.Call (.Name x p) [] [] pos) (bZf C sp [] E0 bZh):=by
 obtain⟨g,h,F,b,c,d⟩:=G.ex;exact bXC c F e f d b .nil vQ a
end
end L2
namespace L2
open PySem PySem.Spec PyProof.Rows
def jN(e C tp:Nat)(dx:Option Nat):HO:= .ext λh=>h.get? e=some (wI C tp dx)
theorem aVf{P:bYx}{w:bYD}{H:Hp}{h:Heap}{e C tp:Nat}{dx:Option Nat}(b:h.get? e=some (wI C tp dx)):zA P w H h e (jN e C tp dx):=⟨b,⟨_,b⟩,λc d a k=>k _ a⟩
theorem aVe{P:bYx}{w:bYD}{H:Hp}{h:Heap}{e C tp:Nat}{dx:Option Nat}(ok:HOk P w H h)(a:H e=some (jN e C tp dx)):h.get? e=some (wI C tp dx):=(ok e _ a).1
section
variable {X:Cx}{pins:List (Nat×Obj)}{σ:St}{H:Hp}{s:bYd}
theorem Inv.forget{e:Nat}{φ:Heap->Prop}(I:Inv X pins σ H s)(j:H e=some (.ext φ)):Inv X pins σ (λb=>if b=e then none else H b) s:=by
 have ne:∀b u,H b=some u->(∀φ,u≠ .ext φ)->b≠e:=λb u q n z=>by rw[z,j]at q;cases q;exact n _ rfl
 refine⟨I.ok,I.os,I.bare,⟨I.base.keep,I.base.slot,λb o q n l=>?_,I.base.there,λb d q=>?_,λb o u q=>?_,λb ps q=>?_⟩,I.loc,I.cell,?_,λx c q=>?_,λp k=>?_,λb u q=>?_,I.len⟩
 ·show(if b=e then none else H b)=none;rw[I.base.free b o q n l];split<;> rfl
 ·have z:=I.base.tups b d q;show(if b=e then none else H b)=_;rw[if_neg (ne b _ z λ_ y=>by cases y),z]
 ·have z:=I.base.frzs b o u q;show(if b=e then none else H b)=_;rw[if_neg (ne b _ z λ_ y=>by cases y),z]
 ·obtain⟨m,z⟩:=I.base.tbls b ps q;refine⟨m,?_⟩;show(if b=e then none else H b)=_;rw[if_neg (ne b _ z λ_ y=>by cases y),z]
 ·show(if _=e then none else H _)=none;rw[I.free];split<;> rfl
 ·show(if c=e then none else H c)=none;rw[I.freeC x c q];split<;> rfl
 ·obtain⟨h,g,i⟩:=I.pin p k;refine⟨h,?_,i⟩;show(if p.1=e then none else H p.1)=none;rw[g];split<;> rfl
 ·have a:(if b=e then none else H b)=some u:=q;by_cases f:b=e
  ·rw[if_pos f]at a;cases a
  ·rw[if_neg f]at a;refine(I.hok b u a).stay (λc v _ r=>r) (λc r=>?_) λc d r=>?_
   ·show(if c=e then none else H c)=_;rw[if_neg (ne c _ r λ_ y=>by cases y),r]
   ·show(if c=e then none else H c)=_;rw[if_neg (ne c _ r λ_ y=>by cases y),r]
def bK1(K:bYc)(d f:TE):TS:=λD σ H=>f σ H λy c=>d σ c λx a=>∃e C tp,x= .ref e/\a e=some (jN e C tp none)/\vU K C/\∀b,a b=none->D.nx σ (upd (upd a b (.xd [("words",y)])) e (jN e C tp (some b)))
theorem bWD{o a:Expr}{F A:TE}{pos i:Pos}(P:PE X o F)(M:PE X a A)(L:swapsWith a (some (.Attribute o "words" i)) pos.line X.env=pure false): PS X (.Assign [.Attribute o "words" i] a pos) (bK1 X.K F A):=by
 intro pins s σ H D I h;refine cZN (thn (M pins s σ H _ I h) λu s1 ⟨y,H1,I1,ry,q⟩=>thn (P pins s1 σ H1 _ I1 q) λov s2 ⟨x,H2,I2,rx,e,C,tp,ex,ea,c,q2⟩=>?_) L;subst ex;obtain rfl:ov=Value.ref e:=rx;have Q:=aVe I2.hok ea;have g:H2 s2.heap.objs.size=none:=I2.hok.fresh (bYh _);have O:=q2 _ g;refine bJq I2.kIn c Q λR tk E J k=>⟨σ,_,I2.un (t':=tk) ?_ ?_,O⟩
 ·have w:∀b,H2 b=none->b≠e:=λb n z=>by rw[z,ea]at n;cases n
  have N:∀b o,s2.heap.get? b=some o->b≠s2.heap.objs.size:=λb o r=>bYA (bYo r);have p:∀b u,H2 b=some u->(∀φ,u≠ .ext φ)->upd (upd H2 s2.heap.objs.size (.xd [("words",y)])) e (jN e C tp (some s2.heap.objs.size)) b=some u:=λb u r n=>by rw[yJ (λz=>by rw[z,ea]at r;cases r;exact n _ rfl),yJ (yK r g)];exact r
  refine⟨λb o r n _ _=>k b o (w b n) r,λb o r n _ _=>⟨o.slots,k b o (w b n) r⟩,λb o r n _=>?_,λb o r _=>?_,λb G r=>p b _ r (λ_ z=>by cases z),λb o u r=>p b _ r (λ_ z=>by cases z),λb ps r=>⟨#[],by rw[p b _ r (λ_ z=>by cases z)];simp⟩⟩
  ·rw[yJ (w b n),yJ (N b o r)];exact n
  ·by_cases j:b=e
   ·subst j;exact⟨_,E⟩
   ·exact⟨o,k b o j r⟩
 ·intro b v r;by_cases j:b=e
  ·subst j;rw[yB]at r;cases r;exact aVf E
  ·rw[yJ j]at r;by_cases B:b=s2.heap.objs.size
   ·subst B;rw[yB]at r;cases r;refine⟨_,J,λf=>?_⟩;show aX0 (cXv f [("words",y)]) (if f="words" then some u else none);by_cases t:f="words"
    ·subst t;exact ry
    ·rw[if_neg t];have:(f==("words":Str))=false:=by simpa using t
     simp[cXv,this,aX0]
   ·rw[yJ B]at r;have ne:∀c m,H2 c=some m->(∀φ,m≠ .ext φ)->c≠e:=λc m d n z=>by rw[z,ea]at d;cases d;exact n _ rfl
    refine(I2.hok b v r).stay (λc o l d=>k c o ?_ d) (λc d=>?_) λc G d=>?_
    ·rcases l with rfl|l
     ·exact j
     ·exact ne c _ l λ_ z=>by cases z
    ·rw[yJ (ne c _ d λ_ z=>by cases z),yJ (yK d g)];exact d
    ·rw[yJ (ne c _ d λ_ z=>by cases z),yJ (yK d g)];exact d
end
def wR(K:bYc):Sp:=λb H Q _=>∃ (e C tp:Nat)(y:V),b= [.ref e,y]/\H e=some (jN e C tp none)/\vU K C/\∀a,H a=none->Q .non (upd (upd H a (.xd [("words",y)])) e (jN e C tp (some a)))
def wD(K:bYc)(C:Nat)(t:Str):Sp:=λb H Q _=>∃e tp:Nat,b= [.ref e]/\H e=some (jN e C tp none)/\∀a,H a=none->Q .non (upd (upd H a (.xd [("words",.str t)])) e (jN e C tp (some a)))
structure aVW(P:bYx)(w:bYD)(K:bYc)(mg:Str->Option bYa)(base:Heap)(k:Nat)(x m:Str)(ps:List Str)(sp:Sp):Prop where
 ex:∃ (R f:Nat)(fd:cQ9),xD P w K mg base CX0 k f fd ps sp/\vT K fd ps []/\PySem.W.readsIn K R (.type "type")=true/\PySem.W.findCls K (.ref R) (.type "type") m=some (.val (.ref f))/\
  cZG K (.ref R) "__getattribute__"=some (some (.builtin "type.__getattribute__"))/\bY6 K (.ref f)=true/\mg x=some (.ref R)
section
variable {X:Cx}{k:Nat}{x m:Str}{ps:List Str}{sp:Sp}{e:Expr}{es:List Expr}{t:TA}{p pos apos:Pos}
theorem uL{pl:Sem Bool}(G:aVW X.prog X.w X.K X.mg X.base k x m ps sp)(j:vM k X.A)(o:Gl X x)(v:PA X (e::es) t)(c:(x==("__debug__":Str))=false:=by decide)
  (d:bYN (e::es) X.env=(false,eval e X.env)::bYN es X.env:=by rfl) (a:(cQN pos (bYN es X.env)).any (·.1)=false:=by rfl)
  (g:eval (.Call (.Attribute (.Name x p) m apos) (e::es) [] pos) X.env=(do
   let ov <- eval (.Name x p) X.env
   standAt apos.atName
   let (f,first) <- cZs [ov] (cZz ov m pl)
   callWith pos f first (cQN pos (bYN (e::es) X.env)) (cZk pos (cXw [] X.env))):=by rfl):
  PE X (.Call (.Attribute (.Name x p) m apos) (e::es) [] pos) (bZe sp [] E0 t):=by
 obtain⟨R,f,z,F,b,i,q,u,l,y⟩:=G.ex
 intro pins s σ H Q I h
 refine cZb (pl:=pl) (uK I o y ?_ c) g
 refine PySem.W.method_cls I.kIn u (PySem.W.cls_value I.kIn i q rfl ?_)
 have n:=I.tok (s.toks+1)
 refine cX0 (first:= []) (h₀:=X.base) I.ok.mod.kin l (thn (v pos pins _ σ H _ n h) λus s2 ⟨vs,H2,I2,r,q2⟩=>⟨I2.kIn,?_⟩) d a
 exact aZH F j b .nil vQ I2 r q2
end
structure ExG(P:bYx)(w:bYD)(K:bYc)(mg:Str->Option bYa)(base:Heap)(k:Nat)(x:Str)(Rf:Nat)(C:Nat)(t:Str):Prop where
 ex:∃f fd,xD P w K mg base CX0 k f fd ["self"] (wD K C t)/\vT K fd ["self"] []/\bYV K (.ref C) "__init__"=some (some (.ref f))/\cXQ K (.ref f)=true/\bY6 K (.ref C)=true/\mg x=some (.ref C)
 cl:vU K C
 sub:cZn K C (.ref Rf)=some true
theorem ExG.mono{P:bYx}{w:bYD}{K:bYc}{mg:Str->Option bYa}{base:Heap}{j k:Nat}{x:Str}{Rf C:Nat}{t:Str}(G:ExG P w K mg base j x Rf C t)(h:j<=k):ExG P w K mg base k x Rf C t:=
 let ⟨f,fd,a,b⟩:=G.ex;⟨⟨f,fd,a.mono h,b⟩,G.cl,G.sub⟩
def bZV(C:Nat)(t:Str)(E:XK):TS:=λ_ _ H=>∀a,H a=none->E (.ref C) (some a) (upd H a (.xd [("words",.str t)]))
section
variable {P:bYx}{w:bYD}{K:bYc}{mg:Str->Option bYa}{base:Heap}{N:List Str}{qual:Str}{scope:cXo}{f:Nat}{cd:bYa}{A:bYO}{outer:List Env}{s₀:bYd}{H₀:Hp}{E:XK}{k:Nat}{x t:Str}{Rf C:Nat}{np cpos pos:Pos}
theorem zU(G:ExG P w K mg base k x Rf C t)(R:vM (k+1) (A.deeper (cQ8 qual scope s₀.heap.objs.size f cd)))(U:Gl (aXn (CXR P w) P w K mg base N qual scope f cd A outer s₀ H₀ E) x)(y:(x==("__debug__":Str))=false:=by decide):
  PS (aXn (CXR P w) P w K mg base N qual scope f cd A outer s₀ H₀ E) (.Raise (some (.Call (.Name x np) [] [] cpos)) none pos) (bZV C t E):=by
 intro pins s σ H D I h
 obtain⟨fi,fd,F,b,Y,V,S,hm⟩:=G.ex
 rw[arm_exec_Raise]
 refine bYb (cZI ?_)
 show bYi _ _ (raiseStmt _ (some (do let v <- eval (.Call (.Name x np) [] [] cpos) (cQ8 qual scope s₀.heap.objs.size f cd);standAt pos;pure v)) none) _ _ _
 refine aKB (K:=K) (I.ok.hd rfl) (bYb ?_)
 refine cQO (uK I U hm ?_ y)
 refine cZ3 I.kIn S (cZl ?_)
 obtain⟨a,g,d,tk,M⟩:=s
 have Z:Inv (aXn (CXR P w) P w K mg base N qual scope f cd A outer s₀ H₀ E) pins σ H ⟨a.push Z3,g,d,tk,M⟩:=I.kept (t':=tk) λb u e=>bYf _ e
 have hx:((a.push Z3).push (wI C a.objs.size none)).get? (a.objs.size+1)=some (wI C a.objs.size none):=by heap_get
 have B:Inv (aXn (CXR P w) P w K mg base N qual scope f cd A outer s₀ H₀ E) pins σ (upd H (a.objs.size+1) (jN (a.objs.size+1) C a.objs.size none)) ⟨(a.push Z3).push (wI C a.objs.size none),g,d,tk,M⟩:=
  Z.laid (t':=tk) (λb u e=>bYf _ e) (cXN (cQJ _ _)) (aVf hx)
 have n:H (a.objs.size+1)=none:=I.hok.fresh (cXi _)
 refine bQM I.kIn G.cl Y (beq_iff_eq.mp V) (cQ4 (F.run _ (cQ8 qual scope s₀.heap.objs.size f cd::outer) _ _ ⟨[.ref (a.objs.size+1)],[]⟩ [.ref (a.objs.size+1)] [.ref (a.objs.size+1)] (λv L=>v= .non/\∃c,upd H (a.objs.size+1) (jN (a.objs.size+1) C a.objs.size none) c=none/\L=upd (upd (upd H (a.objs.size+1) (jN (a.objs.size+1) C a.objs.size none)) c (.xd [("words",.str t)])) (a.objs.size+1) (jN (a.objs.size+1) C a.objs.size (some c))) E0 (R.make C [] []) (B.env0.make C [] []) (b _ [.ref (a.objs.size+1)] B.kIn rfl) (.cons rfl .nil) ⟨a.objs.size+1,a.objs.size,rfl,yB,λc j=>⟨rfl,c,j,rfl⟩⟩) λr s' i=>?_)
 cases r with
 |error e=>exact cQF i
 |ok X=>
  cases X with
  |next=>exact cQF i
  |brk=>exact cQF i
  |cont=>exact cQF i
  |ret u=>
   obtain⟨v,L,p,rv,rfl,c,j,rfl⟩:=B.after i;have l:a.objs.size+1≠c:=yK yB j;have J:H c=none:=by rw[yJ (bYU l)]at j;exact j
   have m:=aVe p.hok yB;have O:=p.forget (e:=a.objs.size+1) yB;have Q:(λb=>if b=a.objs.size+1 then none else upd (upd (upd H (a.objs.size+1) (jN (a.objs.size+1) C a.objs.size none)) c (.xd [("words",.str t)])) (a.objs.size+1) (jN (a.objs.size+1) C a.objs.size (some c)) b)=upd H c (.xd [("words",.str t)]):=by
    funext b;by_cases o:b=a.objs.size+1
    ·rw[if_pos o,o,yJ l,n]
    ·rw[if_neg o,yJ o];by_cases q:b=c
     ·rw[q,yB,yB]
     ·rw[yJ q,yJ q,yJ o]
   rw[Q]at O;refine⟨rv,bYb (cZI (bYg ⟨a.objs.size+1,a.objs.size,some c,C,rfl,p.kIn,G.cl,m,?_⟩))⟩;refine bW4 (tb:=none) O ⟨⟨_,_,m,rfl,rfl,rfl,rfl⟩,λT z=>by cases z⟩ (by rw[yJ l];exact n) (bYQ I.sz (cXi _)) (λT z=>by cases z) (h c J)
end
end L2
namespace L2
open PySem PySem.Spec PyProof.Rows
theorem bJR{X:Cx}{A:bYO}{a:Bool}{pn:List (Nat×Obj)}{xe:bYa->bYd->Prop}(o:X.Ok)(b:A.frames=X.A.frames)(c:a=true->A.handled=none):Cx.Ok {X with A:=A,calm:=a,pn:=pn,xe:=xe}:=
 ⟨o.mod,o.kind,o.glob,o.blt,o.above,o.inj,o.has,o.cab,c,b.trans o.frames,o.stk,o.exf,o.bs,o.bsz,o.noex,o.exfs,o.funs,o.frf⟩
theorem Inv.mark{X:Cx}{A:bYO}{b:Bool}{pn pins a:List (Nat×Obj)}{xe:bYa->bYd->Prop}{σ:St}{H:Hp}{s:bYd}(I:Inv X pins σ H s)(d:A.frames=X.A.frames)(e:b=true->A.handled=none) (c:∀p∈pn++a,p∈X.pn++pins):Inv {X with A:=A,calm:=b,pn:=pn,xe:=xe} a σ H s:=
 ⟨bJR I.ok d e,I.os,I.bare,I.base,I.loc,I.cell,I.free,I.freeC,λp h=>I.pin p (c p h),I.hok,I.len⟩
theorem bJI{X:Cx}{pn:List (Nat×Obj)}{xe:bYa->bYd->Prop}(o:Cx.Ok {X with A:=X.A,calm:=X.calm,pn:=pn,xe:=xe}):X.Ok:=
 ⟨o.mod,o.kind,o.glob,o.blt,o.above,o.inj,o.has,o.cab,o.hd,o.frames,o.stk,o.exf,o.bs,o.bsz,o.noex,o.exfs,o.funs,o.frf⟩
theorem Inv.names{X:Cx}{pins:List (Nat×Obj)}{σ:St}{H:Hp}{s:bYd}{h':Heap}{j:Str->Option bYa}{t':Nat}(I:Inv X pins σ H s)(w:h'.Ns X.env.locals j)(d:cXe X.env.locals s.heap h'): Inv X pins (cXJ X.N.length none) H {s with heap:=h',toks:=t'}:=by
 have a:∀b o,X.s₀.heap.get? b=some o->b≠X.env.locals:=λb o q=>bYA (bYC (bYo q) I.ok.above);refine⟨I.ok,I.os,I.bare,⟨λb o q n g e=>(d.2 b (a b o q)).trans (I.base.keep b o q n g e),λb o q n g e=>?_,I.base.free,λb o q e=>?_,I.base.tups,I.base.frzs,I.base.tbls⟩,⟨j,w,λi x v _ f _=>?_⟩,λx c q=>?_,I.free,I.freeC,λp B=>?_,λb u q=>?_,by simp⟩
 ·obtain⟨t,z⟩:=I.base.slot b o q n g e;exact⟨t,(d.2 b (a b o q)).trans z⟩
 ·obtain⟨y,z⟩:=I.base.there b o q e;exact⟨y,(d.2 b (a b o q)).trans z⟩
 ·rw[List.getElem?_replicate]at f;split at f<;> cases f
 ·obtain⟨v,z⟩:=I.cell x c q;exact⟨v,z.sameBut d (I.cne x c q)⟩
 ·obtain⟨m,k,h,A,C⟩:=I.pin p B;exact⟨(d.2 p.1 h).trans m,k,h,A,C⟩
 ·refine(I.hok b u q).stay (λc v l r=>(d.2 c ?_).trans r) (λ_ r=>r) λ_ _ r=>r;rintro rfl;rcases l with z|z
  ·rw[<- z,I.free]at q;cases q
  ·rw[I.free]at z;cases z
def bKg(K:bYc)(Rf:Nat)(Q:VK):XK:=λcls b a=>∃ (C d:Nat)(t:Str),cls= .ref C/\b=some d/\vU K C/\cZn K C (.ref Rf)=some true/\a d=some (.xd [("words",.str t)])/\Q (.str t) a
section
variable {X:Cx}{pins:List (Nat×Obj)}{σ:St}{H:Hp}{s:bYd}
theorem Inv.recs{h':Heap}{ch:List Nat}(I:Inv X pins σ H s)(h:∀b∈ch,s.heap.objs.size<=b\/(X.s₀.heap.objs.size<=b/\b≠X.env.locals/\(∀x c,X.env.cells.lookup x=some c->c≠b)/\∀p∈X.pn++pins,p.1≠b))(m:∀b∈ch,H b=none) (keep:∀b o,b∉frs X.stack->b∉ch->s.heap.get? b=some o->h'.get? b=some o) (a:∀b o,b∉ch->s.heap.get? b=some o->∃k,h'.get? b=some {o with slots:=k}):Inv X pins σ H {s with heap:=h'}:=by
 have i:HOk X.prog X.w H h':=λb u q=>(I.hok b u q).stay (λc v l r=>by
  have d:H c≠none:=by
   rcases l with z|z
   ·rw[z,q];simp
   ·rw[z];simp
  exact keep c v (λz=>d (I.stkFree c z)) (λz=>d (m c z)) r) (λ_ r=>r) λ_ _ r=>r
 refine I.call (g':=s.gens) (t':=s.toks) (d':=s.drawn) (ch:=ch) ⟨λb o q _ j g=>keep b o j g q,λb o q _ _ g=>a b o g q,λ_ _ _ n _=>n,λb o q g=>?_,λ_ _ q=>q,λ_ _ _ q=>q,λ_ y q=>⟨#[],by rw[q];simp⟩⟩ i I.bare λb j=>?_
 ·obtain⟨k,z⟩:=a b o g q;exact⟨_,z⟩
 ·rcases h b j with z|⟨z1,z2,z3,z4⟩
  ·refine⟨.inr (bYQ I.sz z),λe=>?_,λx c q e=>?_,λp t e=>?_⟩
   ·rw[e]at z;exact absurd (bYC I.lt z) (cQi _)
   ·obtain⟨v,o,f,_⟩:=I.cell x c q;rw[e]at f;exact absurd (bYC (bYo f) z) (cQi _)
   ·have f:=(I.pin p t).1;rw[e]at f;exact absurd (bYC (bYo f) z) (cQi _)
  ·exact⟨.inr z1,z2,z3,z4⟩
theorem bWE{body:List Stmt}{tb:XK->TS}{U n:Str}{i:Nat}{Rf:Nat}{cp p1 p2 p3 G tp:Pos}(hN:X.N.Nodup)(hi:X.N[i]? =some n)(hl:X.env.scope.names.lookup n=some .local)(hg:Gl X U)(hm:X.mg U=some (.ref Rf))(cr:vU X.K Rf) (a1:X.stack=X.env::X.outer) (c7:X.env.frame=some X.env.locals) (c9:X.calm=true) (b8:(n==("__debug__":Str))=false) (b5:(U==("__debug__":Str))=false) (c8:(n==("__classdict__":Str))=false) (hA:∀e,(X.A.mark (some (.ref e))).frames=X.A.frames) (j:∀ (pn:List (Nat×Obj))(xe:bYa->bYd->Prop)(E:XK),vG (CXR X.prog X.w) {X with A:=X.A,calm:=X.calm,pn:=pn,xe:=xe} E->PSs {X with A:=X.A,calm:=X.calm,pn:=pn,xe:=xe} body (tb E)): PS X (.Try body [.ExceptHandler (some (.Name U cp)) (some n) [.Return (some (.Attribute (.Name n p1) "words" p2)) p3] G] [] [] tp) (λD σ H=>tb (bKg X.K Rf D.rt) D σ H):=by
 intro pins s σ H D I h;refine wpAny_Try_except ?_;have B:X.calm=true->X.A.handled=none:=I.ok.hd;have go:∀ (a2:List (Nat×Obj))(l:St)(M:Hp)(Z:bYd)(g:bYa)(k:bYd),Inv X pins l M Z->CXR X.prog X.w X.stack M Z (bKg X.K Rf D.rt) g k->
   bYi (bYk X.prog X.w) X.A (cZA g X.env) (λ_ R=>bYi (bYk X.prog X.w) X.A (cZg g none) (λ_ W=>bYi (bYk X.prog X.w) X.A (handleBy g X.env [.ExceptHandler (some (.Name U cp)) (some n) [.Return (some (.Attribute (.Name n p1) "words" p2)) p3] G]) (SP X pins D) X.xe W) X.xe R) X.xe k:=by
  intro _ l M Z g k J1 hx
  obtain⟨e,C',dx,a9,H',rfl,os,bare,un,b0,x,he,ht,a0,a5,hE⟩:=hx
  obtain⟨C,d,t,ec,ed,cC,hs,hd,hq⟩:=hE
  have eC:C'=C:=by cases ec;rfl
  subst eC
  have eD:dx=d:=by cases ed;rfl
  subst eD
  have Y:Inv X pins l H' k:=J1.call' os un b0 bare λb z=>absurd z (by simp)
  have big:∀b,Z.heap.objs.size<=b->X.s₀.heap.objs.size<=b/\b≠X.env.locals/\(∀x c,X.env.cells.lookup x=some c->c≠b)/\∀p∈X.pn++pins,p.1≠b:=λb z=>by
   refine⟨bYQ J1.sz z,λe=>?_,λx c q e=>?_,λp G e=>?_⟩
   ·rw[e]at z;exact absurd (bYC J1.lt z) (cQi _)
   ·obtain⟨v,o,P,_⟩:=J1.cell x c q;rw[e]at P;exact absurd (bYC (bYo P) z) (cQi _)
   ·have P:=(J1.pin p G).1;rw[e]at P;exact absurd (bYC (bYo P) z) (cQi _)
  refine aVm (base:=X.base) (outer:=X.outer) (L:=X.env.locals) (a1 ▸ Y.ok.frames) (a1 ▸ Y.stack) c7 x λh3 T y nT p=>?_
  have a8:frs X.stack=(X.env::X.outer).filterMap (·.frame):=by rw[a1];rfl
  have J3:Inv X pins l H' {k with heap:=h3}:=Y.recs (ch:= [e,a9]) (λb j=>by
    rcases bYj.mp j with rfl|j
    ·exact .inr (big _ a0)
    ·rw[bYr.mp j];exact .inr (big _ a5)) (λb j=>by
    rcases bYj.mp j with rfl|j
    ·exact he
    ·rw[bYr.mp j];exact ht)
   (λb o j S q=>p.keep b o (λz=>S (by simp[z])) (λz=>S (by cases z;simp)) (a8 ▸ j) q)
   (λb o S q=>p.slot b o (λz=>S (by simp[z])) (λz=>S (by cases z;simp)) q)
  have a6:H' T=none:=Y.hok.fresh nT
  have Q:X.s₀.heap.objs.size<=T/\T≠X.env.locals/\(∀x c,X.env.cells.lookup x=some c->c≠T)/\∀p∈X.pn++pins,p.1≠T:=by
   refine⟨bYQ Y.sz nT,λe=>?_,λx c q e=>?_,λp G e=>?_⟩
   ·rw[e]at nT;exact absurd (bYC Y.lt nT) (cQi _)
   ·obtain⟨v,o,P,_⟩:=Y.cell x c q;rw[e]at P;exact absurd (bYC (bYo P) nT) (cQi _)
   ·have P:=(Y.pin p G).1;rw[e]at P;exact absurd (bYC (bYo P) nT) (cQi _)
  have mk:∀ {σ:St} {H:Hp} {s:bYd},Inv X pins σ H s->Inv {X with A:=X.A.mark (some (.ref e)),calm:=false,pn:=X.pn,xe:=λ_ _=>True} pins σ H s:=λJ=>J.mark (hA e) (λz=>by cases z) λp G=>G
  have un:∀ {σ:St} {H:Hp} {s:bYd},Inv {X with A:=X.A.mark (some (.ref e)),calm:=false,pn:=X.pn,xe:=λ_ _=>True} pins σ H s->Inv X pins σ H s:=λ{σ H s} J=>Inv.mark (X:={X with A:=X.A.mark (some (.ref e)),calm:=false,pn:=X.pn,xe:=λ_ _=>True}) J (hA e).symm B λp G=>G
  refine wpAny_handleBy_cons (codeAny_handlers_test ?_) (by intro q;cases q)
  refine uK (X:={X with A:=X.A.mark (some (.ref e)),calm:=false,pn:=X.pn,xe:=λ_ _=>True}) (mk J3) hg hm ?_ b5
  obtain⟨oe,vs,g1,g2,g3,g4,g5⟩:=y.obj
  refine aKA J3.kIn cC cr hs g1 g2 ?_
  refine codeAny_handlers_suite_as ?_
  refine bQX (s:={k with heap:=h3}) y λh4 y4 k4 t4=>?_
  have J4:Inv X pins l H' {k with heap:=h4}:=Inv.recs (s:={k with heap:=h3}) (h':=h4) (ch:= [T]) J3 (λb j=>by rw[bYr.mp j];exact .inr Q) (λb j=>by rw[bYr.mp j];exact a6)
   (λb o _ S q=>k4 b o (λz=>S (by simp[z])) q) (λb o S q=>⟨o.slots,k4 b o (λz=>S (by simp[z])) q⟩)
  refine aQO (X:={X with A:=X.A.mark (some (.ref e)),calm:=false,pn:=X.pn,xe:=λ_ _=>True}) (v:= .ref e) (u:= .ref e) (mk J4) hN hi (.inl hl) rfl (λs5 J5 ⟨a,sb,ha⟩=>?_) (.inr hl)
  have a4:e≠a/\T≠a:=by
   rcases ha with z|z
   ·rw[z];exact⟨(big _ a0).2.1,Q.2.1⟩
   ·exact⟨λq=>(big _ a0).2.2.1 n a z q.symm,λq=>Q.2.2.1 n a z q.symm⟩
  have y5:qS s5.heap e (.ref C') (some dx) (some T):=y4.keeps λb o j q=>(sb.2 b (by
   rcases j with rfl|j
   ·exact a4.1
   ·cases j;exact a4.2)).trans q
  obtain⟨c5,d0,f1,f2,f3,f4,f5⟩:=y5.obj
  obtain⟨mA,b4,a3⟩:=J5.hok dx _ hd
  obtain⟨od,b3,b6⟩:=aZv b4
  obtain⟨u,hu,ru⟩:=aX0.some_of (v:=V.str t) (o:=mA "words") (a3 "words")
  obtain⟨m5,a7,b9⟩:=J5.loc
  obtain⟨u5,r5,l5⟩:=b9 i n (.ref e) hi (cX4 (by rw[J4.len];exact(bYl.mp hi).1)) (.inl hl)
  obtain rfl:u5=Value.ref e:=r5
  have b2:m5 n=some (.ref e):=by
   rcases l5 with⟨_,z⟩|⟨z,_⟩
   ·exact z
   ·rw[show X.env.kindOf n=some .local from hl]at z;rcases z with z|z<;> cases z
  refine wpAny_execs_cons (wpAny_Return_some (aKk rfl ?_))
  refine wpAny_Name (wpAny_loadName_local J5.ok.kind hl a7 b2 ?_) b8
  refine bJo J5.kIn cC f1 f2 f3 (by obtain⟨c1,c2,c3,c4⟩:=c5;cases f4;rfl) b3 (by rw[b6,hu]) (aZh ru) ?_
  have J6:=(un J5).tok (s5.toks+1)
  obtain⟨m6,b7,_⟩:=J6.loc
  refine wpAny_nameGoes hl b7 (by rw[J6.ok.kind];rfl) λh7 m7 b1 c6=>?_
  exact⟨.str t,_,H',J6.names (t':=s5.toks+1+1) b1 c6,ru,hq⟩
 have c0:vG (CXR X.prog X.w) {X with A:=X.A,calm:=X.calm,pn:=X.pn++pins,xe:=λg k=>bYi (bYk X.prog X.w) X.A (cZA g X.env) (λ_ R=>bYi (bYk X.prog X.w) X.A (cZg g none) (λ_ W=>bYi (bYk X.prog X.w) X.A (handleBy g X.env [.ExceptHandler (some (.Name U cp)) (some n) [.Return (some (.Attribute (.Name n p1) "words" p2)) p3] G]) (SP X pins D) X.xe W) X.xe R) X.xe k} (bKg X.K Rf D.rt):=
  λa2 l M Z g k J hx=>go [] l M Z g k (Inv.mark (X:={X with A:=X.A,calm:=X.calm,pn:=X.pn++pins,xe:=λg k=>bYi (bYk X.prog X.w) X.A (cZA g X.env) (λ_ R=>bYi (bYk X.prog X.w) X.A (cZg g none) (λ_ W=>bYi (bYk X.prog X.w) X.A (handleBy g X.env [.ExceptHandler (some (.Name U cp)) (some n) [.Return (some (.Attribute (.Name n p1) "words" p2)) p3] G]) (SP X pins D) X.xe W) X.xe R) X.xe k}) J rfl B λp O=>cXk _ O) hx
 have I':Inv {X with A:=X.A,calm:=X.calm,pn:=X.pn++pins,xe:=λg k=>bYi (bYk X.prog X.w) X.A (cZA g X.env) (λ_ R=>bYi (bYk X.prog X.w) X.A (cZg g none) (λ_ W=>bYi (bYk X.prog X.w) X.A (handleBy g X.env [.ExceptHandler (some (.Name U cp)) (some n) [.Return (some (.Attribute (.Name n p1) "words" p2)) p3] G]) (SP X pins D) X.xe W) X.xe R) X.xe k} [] σ H s:=
  I.mark rfl B λp O=>by simpa using O
 have F:∀ {σ:St} {H:Hp} {s:bYd},Inv {X with A:=X.A,calm:=X.calm,pn:=X.pn++pins,xe:=λg k=>bYi (bYk X.prog X.w) X.A (cZA g X.env) (λ_ R=>bYi (bYk X.prog X.w) X.A (cZg g none) (λ_ W=>bYi (bYk X.prog X.w) X.A (handleBy g X.env [.ExceptHandler (some (.Name U cp)) (some n) [.Return (some (.Attribute (.Name n p1) "words" p2)) p3] G]) (SP X pins D) X.xe W) X.xe R) X.xe k} [] σ H s->Inv X pins σ H s:=
  λ{σ H s} J=>⟨bJI J.ok,J.os,J.bare,J.base,J.loc,J.cell,J.free,J.freeC,λp O=>J.pin p (by simpa using O),J.hok,J.len⟩
 refine cQc (j _ _ _ c0 [] s σ H D I' h) (λf Z q=>?_) λ_ _ q=>q;cases f with
 |next=>obtain⟨m,M,J,q⟩:=q;exact yS pins Z m M D (F J) q
 |ret v=>obtain⟨u,m,M,J,r,q⟩:=q;exact⟨u,m,M,F J,r,q⟩
 |brk=>obtain⟨m,M,J,q⟩:=q;exact⟨m,M,F J,q⟩
 |cont=>obtain⟨m,M,J,q⟩:=q;exact⟨m,M,F J,q⟩
end
end L2
namespace L2
open PySem PySem.Spec PyProof.Rows
theorem aKM{P:bYx}{w:bYD}{K:bYc}{mg mb:Str->Option bYa}{CX:CXT}{k:Nat}{fa a c T:Nat}{fd:cQ9}{x:Str}{sp:Sp}{f:bYd}{vs:List bYa}{R:List Int} (KX:K.In f.heap) (I:f.heap.Ns bYG mg) (p:f.heap.Ns builtinsNs mb) (a9:∀x:Str,x≠"__name__"->mb x=bYT x) (U:f.heap.NoLimit) (hg:f.gens= #[]) (M:f.heap.get? a=some {cls:= .type "list",data:= .seq vs.toArray}) (hi:cXI vs R) (hl:R.length<=bYB) (hr:vM k callerA) (hC:cXg f.heap c T) (L:f.heap.get? T=some (cXK #[])) (a8:K.lookup T=none) (a7:∃S C,mg "__builtins__"=some (.ref S)/\S≠builtinsNs/\f.heap.get? S=some C/\C.cls= .type "module"/\C.dict=some builtinsNs/\C.data= .plain) (F:∀base:Heap,K.In base->base.Ns bYG mg->cXg base c T->base.BuiltinsAt mg T->xD P w K mg base CX k fa fd [x] sp) (G:∀ (s:bYd)(u:bYa),BindsTo s fd ⟨[u],[]⟩ [(x,u)]) (a6:∀H:Hp,H T=some (.tbl #[])->SqL K H a (R.map V.int)->sp [.ref a] H (λv _=>v= .bl true) λ_ _ _=>False) (a3:∀H e j,CX [] H f (λ_ _ _=>False) e j->False): cXr (bYk P w) callerA (.call (.ref fa) ⟨[.ref a],[]⟩) (λr j=>r= .ok (.ret (.bool true))/\OldK f.heap j.heap/\j.os=f.os/\AllBare j.gens) f:=by
 have rv:=uP hi;have X:=hi.length;have Z:a≠T:=λz=>by rw[z,L]at M;cases M
 have D:∀H:Hp,H T=some (.tbl #[])->SqL K H a (R.map V.int)->HOk P w H f.heap->(∀b,H b≠none->b=T\/(b=a/\∃o xs,H b=some (.frz o (.lst xs))))->(H a≠none->K.lookup a=none)->
   cXr (bYk P w) callerA (.call (.ref fa) ⟨[.ref a],[]⟩) (λr j=>r= .ok (.ret (.bool true))/\OldK f.heap j.heap/\j.os=f.os/\AllBare j.gens) f:=by
  intro H hH hS Q hA hK
  have i:∀ {b:Nat} {o:Obj},f.heap.get? b=some o->H b=none->(aKE f.heap H).get? b=some o:=λe n=>bQQ e n
  have l:∀ {b:Nat} {o:Obj},f.heap.get? b=some o->(∀ps,o≠cXK ps)->(∀A,o≠ {cls:= .type "list",data:= .seq A})->H b=none:=λ{b o} e n1 n2=>by
   cases q:H b with
   |none=>rfl
   |some u=>
    rcases hA b (by rw[q];simp)with z|⟨z,_⟩
    ·rw[z,L]at e;cases e;exact absurd rfl (n1 _)
    ·rw[z,M]at e;cases e;exact absurd rfl (n2 _)
  have y:∀ {b:Nat} {m:Str->Option bYa},f.heap.Ns b m->(aKE f.heap H).Ns b m:=λ{b m} ⟨o,es,ep,e,d,r⟩=>⟨o,es,ep,i e (l e (λps z=>by rw[z]at d;cases d) (λA z=>by rw[z]at d;cases d)),d,r⟩
  have a0:K.In (aKE f.heap H):=λb o e=>i (KX b o e) (by
   cases q:H b with
   |none=>rfl
   |some u=>
    rcases hA b (by rw[q];simp)with z|⟨z,_⟩
    ·rw[z,a8]at e;cases e
    ·subst z;rw[hK (by rw[q];simp)]at e;cases e)
  have hM:Mod K mg (aKE f.heap H):=⟨a0,y I,⟨mb,y p,a9⟩,let ⟨mc,h1,h2⟩:=U;⟨mc,y h1,h2⟩⟩
  have e0:bJa P w K mg (aKE f.heap H) callerA [] f H:=⟨rfl,hM,λb o e=>bJH e,cXN (aKF _ _),trivial,λb p=>absurd (show b∈([]:List Nat)from p) (by simp),Q,.of_eq hg⟩
  have a5:cXg (aKE f.heap H) c T:=by
   obtain⟨o,vs,file,tf,E,tg,a2,text,tt,e,Y,r⟩:=hC;exact⟨o,vs,file,tf,E,tg,a2,text,tt,i e (l e (λps z=>by rw[z]at Y;cases Y) (λA z=>by
    rw[z]at Y;have c':Value.type "list"=Value.type "code":=Y;injection c' with c''
    exact absurd c'' (by decide))),Y,r⟩
  have a4:(aKE f.heap H).BuiltinsAt mg T:=by
   obtain⟨S,C,b1,b2,J,b4,b5,O⟩:=a7;refine⟨S,C,b1,b2,λz=>?_,λz=>?_,i J (l J (λps z=>by rw[z]at b4;cases b4) (λA z=>by rw[z]at O;cases O)),b4,b5,O⟩
   ·obtain⟨o,es,ep,e,d,_⟩:=I;rw[z,e]at J;cases J;rw[d]at O;cases O
   ·rw[z,L]at J;cases J;cases b4
  refine cQ4 ((F _ a0 (y I) a5 a4).run callerA [] f H ⟨[.ref a],[]⟩ [.ref a] [.ref a] _ _ hr e0 (G f (.ref a)) (.cons rfl .nil) (a6 H hH hS)) λr j h=>?_
  cases r with
  |error e=>exact(a3 H e j h).elim
  |ok fl=>
   cases fl with
   |next=>exact cQF h
   |brk=>exact cQF h
   |cont=>exact cQF h
   |ret u=>
    obtain⟨v,H',os,bare,un,B,r',q⟩:=h;have q':v= .bl true:=q;subst q';obtain rfl:u=Value.bool true:=r';obtain⟨more,hm⟩:=un.tbls T _ hH;have N:j.heap.get? T=some (cXK (#[]++more)):=B T _ hm;have get:∀b o,b≠T->f.heap.get? b=some o->j.heap.get? b=some o:=λb o g e=>by
     cases q:H b with
     |none=>exact un.keep b o e q (by intro z;exact absurd (show b∈([]:List Nat)from z) (by simp)) (by simp)
     |some u=>
      rcases hA b (by rw[q];simp)with z|⟨_,C,xs,z⟩
      ·exact absurd z g
      ·have z2:=un.frzs b C _ z;obtain⟨e1,_⟩:=Q b _ z;obtain⟨e2,_⟩:=B b _ z2;rw[e]at e1;cases e1;exact e2
    refine⟨rfl,⟨λb o e=>?_,λb o e=>?_⟩,os,bare⟩
    ·by_cases g:b=T
     ·subst g;rw[L]at e;cases e;exact .inr (.inl ⟨(hC.tab L).isCodeTable,rfl, #[],more,rfl,N⟩)
     ·exact .inl (get b o g e)
    ·by_cases g:b=T
     ·exact⟨_,by rw[g];exact N⟩
     ·exact⟨o,get b o g e⟩
 have a1:∀H:Hp,zA P w H f.heap T (.tbl #[]):=λH=>L;cases hk:K.lookup a with
 |some o=>
  have e:=KX a o hk;rw[M]at e;cases e;refine D (λb=>if b=T then some (.tbl #[])else none) (if_pos rfl) (.inr ⟨_,vs.toArray,_,hk,rfl,rfl,rfl,by rw[bYs,X];exact hl,by simpa using rv⟩) (λb u z=>?_) (λb z=>?_) λz=>absurd (if_neg Z) z
  ·by_cases g:b=T
   ·have t:=(if_pos g).symm.trans z;cases t;subst g;exact a1 _
   ·have t:=(if_neg g).symm.trans z;cases t
  ·by_cases g:b=T
   ·exact .inl g
   ·exact absurd (if_neg g) z
 |none=>
  refine D (λb=>if b=T then some (.tbl #[])else if b=a then some (.frz {cls:= .type "list",data:= .seq vs.toArray} (.lst (R.map V.int)))else none) (if_pos rfl)
   (.inl (.inr ⟨{cls:= .type "list",data:= .seq vs.toArray},by show(if a=T then _ else _)=_;rw[if_neg Z,if_pos rfl]⟩)) (λb u z=>?_) (λb z=>?_) λ_=>hk
  ·by_cases g:b=T
   ·have t:=(if_pos g).symm.trans z;cases t;subst g;exact a1 _
   ·have z1:=(if_neg g).symm.trans z;by_cases p:b=a
    ·have t:=(if_pos p).symm.trans z1;cases t;subst p;exact⟨M,by rw[bYe];exact hl,vs,_,rv,M⟩
    ·have t:=(if_neg p).symm.trans z1;cases t
  ·by_cases g:b=T
   ·exact .inl g
   ·by_cases p:b=a
    ·exact .inr ⟨p,_,_,by show(if b=T then _ else _)=_;rw[if_neg g,if_pos p]⟩
    ·exact absurd (by show(if b=T then _ else _)=_;rw[if_neg g,if_neg p]) z
theorem bZu{l:PySem.W.OpenLaw}{n k:Nat}{q:bYx}{loose:List Str}{S:(Str->Option bYa)->Heap->Prop}{D:bYD->Heap->Prop}{d:DefRec}{K:Params->bYc}{CX:CXT}{sp:Nat->bYc->Sp}{x:Str}{T:Nat} (U:l.most=some n) (C:n<=bYB) (y:d.params.defaults= []) (R:vM k callerA) (Q:∀ (w:bYD)(h:Heap),D w h->(K w.params).In h) (B:∀ (w:bYD)(h:Heap),D w h->h.get? T=some (cXK #[])) (F:∀ (w:bYD)(mg:Str->Option bYa)(t:Nat)(h:Heap),(K w.params).In h->h.Ns bYG mg->mg d.name=some (.ref t)-> ∃ (J:cQ9)(c:Nat),cZL (K w.params) c T=true/\(K w.params).lookup T=none/\(∀ (s:bYd)(u:bYa),BindsTo s J ⟨[u],[]⟩ [(x,u)])/\ ∀base:Heap,(K w.params).In base->base.Ns bYG mg->cXg base c T->base.BuiltinsAt mg T->xD l.prog w (K w.params) mg base CX k t J [x] (sp T (K w.params))) (L:∀ (K:bYc)(H:Hp)(a:Nat)(r:List Int),r.length<=n->H T=some (.tbl #[])->SqL K H a (r.map V.int)->sp T K [.ref a] H (λv _=>v= .bl true) λ_ _ _=>False) (M:∀ (H:Hp)(s:bYd)(e:bYa)(E:bYd),CX [] H s (λ_ _ _=>False) e E->False): PySem.W.WalkO q loose S D l.row.toRowW d [] (λf N=>PySem.call f N):=by
 refine Att.aZ5 U y λw s₀ p mg mb t o pm cd a0 a N r G Y ho hd P A m j i X=>?_;have I:=Q w _ Y;obtain⟨J,c,O,z,hb,hF⟩:=F w mg t _ I G.T.g A;exact aKM I G.T.g G.T.b G.T.builtins G.T.nolimit X m j (bYQ i C) R (PySem.W.codeHd_of_K I O) (B w _ Y) z G.T.bmain hF hb (λH hO Z=>L _ H a r i hO Z) λH e E=>M H p e E
end L2
namespace Thr
open PySem L2 PyProof.Rows
open Stree (qC uW z8)
def aZi(x:Str):Stmt->Bool
 |.FunctionDef n _ _ _ _ _ _ _ _ _=>n==x
 |_=>false
def xC(x:Str):Stmt:=(PySem.Challenge.pw_letterdesk_k05_whole_numbers_and_trees.main.body.find? (aZi x)).getD (.Pass ⟨0,0,0,0⟩)
abbrev aJQ:Stmt:=xC "thread"
abbrev aYO:Stmt:=xC "top_of"
abbrev aJI:Stmt:=xC "answers_to_each"
theorem y9:bYT "len"=some (.builtin "len"):=dk
theorem wZ:bYT "sorted"=some (.builtin "sorted"):=dk
theorem y7:bYT "isinstance"=some (.builtin "isinstance"):=dk
theorem uE:bYT "int"=some (.type "int"):=dk
theorem aQ6:bYT "str"=some (.type "str"):=dk
theorem wY:bYT "list"=some (.type "list"):=dk
theorem uS:bYT "tuple"=some (.type "tuple"):=dk
structure vA(mg:Str->Option bYa):Prop where
 b_len:mg "len"=none
 b_sorted:mg "sorted"=none
 b_isinstance:mg "isinstance"=none
 b_int:mg "int"=none
 b_str:mg "str"=none
 b_bool:mg "bool"=none
 b_list:mg "list"=none
 b_tuple:mg "tuple"=none
 b_range:mg "range"=none
theorem w8{a H:Hp}{c:Nat}{o:HO}(k:xA a H)(h:a c=none):xA a (upd H c o):=λb u q=>by rw[yJ (yK q h)];exact k b u q
theorem aWh{K:bYc}{a:Nat}{xs:List V}{B:List Nat}{σ:L2.St}{D:Nat}{Q:VK}{H:Hp}(hl:SqL K H a xs)(s:H D=none)(hz:xs.length<=1000) (G:∀ (d:Hp)(c:List Nat),xA H d->d D=some (.lst (c.map V.ref))->c.length=xs.length->c.Nodup->(∀b∈c,d b=some (.lst [])/\H b=none/\b≠D)->Q (.ref D) d):bJd (Itl K a) B bKE (bKN bZh) σ D Q (upd H D (.lst [])):=by
 refine⟨λi m o d=>m=xs.length - i/\i<=xs.length/\∃c:List Nat,o=c.map V.ref/\c.length=i/\c.Nodup/\xA H d/\d D=some (.lst o)/\∀b∈c,d b=some (.lst [])/\H b=none/\b≠D,
  ⟨xs.length,by simp,bY7 _,[],rfl,rfl,.nil,yG s _,yB,λb f=>nomatch f⟩,?_⟩
 rintro i m o d ⟨rfl,J,c,rfl,l,u,j,k,e⟩;refine⟨k,?_⟩;have t:=xA.seq j hl;by_cases n:i<xs.length
 ·refine .inr ⟨⟨xs,xs[i],t,bK9 n⟩,λv I C=>?_⟩;obtain⟨rfl,y⟩:=C;refine⟨z0,λp h=>?_⟩;have g:p≠D:=bYU (yK k h);have q:p∉c:=λz=>by rw[(e p z).1]at h;cases h
  refine⟨zlt (by rw[bYe];omega),by rw[yJ (bYU g)];exact k,xs.length - (i+1),by omega,rfl,by omega,c++ [p],by simp,by simp[l],?_,?_,yB,λb f=>?_⟩
  ·rw[cXD];exact⟨u,by simp,λx F y A z=>by rw[bYr.mp A]at z;exact q (z ▸ F)⟩
  ·exact w8 (j.trans (yG h _)) s
  ·rcases bYP.mp f with f|f
   ·obtain⟨r,E,w⟩:=e b f;exact⟨by rw[yJ w,yJ (yK r h)];exact r,E,w⟩
   ·rw[bYr.mp f];exact⟨by rw[yJ g];exact yB,j.fresh h,g⟩
 ·refine .inl ⟨⟨xs,t,by omega⟩,G d c j k (by omega) u e⟩
def wN:Option Nat->V
 |none=> .non
 |some j=> .int (j:Nat)
def vO(n:Nat)(L:Nat->Option Nat):List V:=(bYn n).map λi=>wN (L i)
def qH(n:Nat)(D:Nat->Int):List V:=(bYn n).map λi=> .int (D i)
theorem uX{n i:Nat}{L:Nat->Option Nat}(h:i<n):(vO n L)[i]? =some (wN (L i)):=by unfold vO;rw[bYu,cQU h];rfl
theorem aV5{n i:Nat}{D:Nat->Int}(h:i<n):(qH n D)[i]? =some (.int (D i)):=by unfold qH;rw[bYu,cQU h];rfl
def bWV(K:bYc):Sp:=λc H Q _=>∃ (a:Nat)(n:Nat)(L:Nat->Option Nat)(b:Nat->Nat)(i:Nat),c= [.ref a,.int (i:Nat)]/\SqL K H a (vO n L)/\Fm.Ok n L b/\i<n/\Q (.int (Fm.tp L b i:Nat)) H
def z6(T:Nat):Hp->Prop:=qW ⟨116,48,116,71⟩ "answers_to_each.<locals>.<lambda>" T
structure bKG(n:Nat)(L:Nat->Option Nat)(D:Nat->Int)(kd:Nat->List Nat):Prop where
 mem:∀j i,i∈kd j↔i<n/\L i=some j
 ord:∀j,(kd j).Pairwise λx y=>z8 (D y,(y:Int)) (D x,(x:Int))=true
def bVJ(T:Nat):Sp:=λh H Q _=>∃ (f g:Nat)(n:Nat)(L:Nat->Option Nat)(k:Nat->Nat)(D:Nat->Int),h= [.ref f,.ref g]/\H f=some (.lst (vO n L))/\H g=some (.lst (qH n D))/\Fm.Ok n L k/\n<=63/\z6 T H/\
 ∀ (c:Hp)(a:Nat)(d:List Nat)(e:Nat->List Nat),x0 H c->z6 T c->c a=some (.lst (d.map V.ref))->d.length=n->(∀j b,d[j]? =some b->c b=some (.lst ((e j).map λi=>V.int (i:Nat))))->bKG n L D e->Q (.ref a) c
def aVQ(T:Nat):Sp:=λg H Q _=>∃ (f e:Nat)(n:Nat)(L:Nat->Option Nat)(c:Nat->Nat)(D:Nat->Int)(i:Nat),g= [.ref f,.ref e,.int (i:Nat)]/\H f=some (.lst (vO n L))/\H e=some (.lst (qH n D))/\Fm.Ok n L c/\n<=63/\i<n/\z6 T H/\
 ∀ (d:Hp)(r:Nat)(a:List Nat),(∀b u,(∀h,u≠HO.tbl h)->H b=some u->b≠r)->x0 H d->z6 T d->d r=some (.lst (a.map λi=>V.int (i:Nat)))->(a.Pairwise λx y=>uW (Fm.rd L D c x) (Fm.rd L D c y)=true)->(∀k,k∈a↔k<n/\Fm.tp L c k=Fm.tp L c i)->Q (.ref r) d
section
variable {K:bYc}
theorem bX6:yO ["links","number","top"] ["links","number"] (yH aYO):=scM
theorem bXw(T:vA mg)(F:Fun K "top_of" "top_of" aYO f fd):xD P w K mg base CX0 1 f fd ["links","number"] (bWV K):=by
 have u:=bX6;refine F.ok (k:=0) u (λx A outer s v C Q E D h=>?_);obtain⟨a,n,L,b,i,rfl,l,p,y,q⟩:=h;refine⟨_,(yC (yU (i:=2) (pv 1)) (yC (u4 bYY (yM wC (yL yI (pv 0) (pv 2)) xY) (yF (yU (i:=2) (yL yI (pv 0) (pv 2))))) (yF (yP (pv 2))))),?_⟩;refine⟨_,rfl,?_⟩;refine⟨λm σ H=>∃t:Nat,σ= [some (.ref a),some (.int (i:Nat)),some (.int (t:Nat))]/\H=v/\t<n/\Fm.tp L b t=Fm.tp L b i/\m=b t,⟨b i,i,rfl,rfl,y,rfl,rfl⟩,?_⟩;rintro m σ H ⟨t,rfl,rfl,e,c,rfl⟩;refine⟨_,rfl,_,rfl,a,_,_,_,rfl,rfl,l,yR (uX e),rfl,_,rfl,?_⟩;cases hl:L t with
 |none=>refine onF rfl ⟨_,rfl,?_⟩;rw[Fm.zX hl]at c;rw[c];exact q
 |some j=>obtain⟨B,g⟩:=p.lt t j e hl;refine onT rfl ⟨λd r=>∃o,o<b t/\∃t:Nat,d= [some (.ref a),some (.int (i:Nat)),some (.int (t:Nat))]/\r=H/\t<n/\Fm.tp L b t=Fm.tp L b i/\o=b t,λd r z=>z,?_⟩;refine⟨_,rfl,_,rfl,a,_,_,_,rfl,rfl,l,yR (uX e),?_⟩;rw[hl];exact⟨b j,g,j,rfl,rfl,B,by rw[<- c,Fm.v6 p e hl],rfl⟩
theorem bWL:yO ["links","dates","answers","letter"] ["links","dates"] (yH aJI):=scM
theorem bWn:xJ ["links","dates","answers","letter"] (yH aJI) "link" [] [] {kind:= .function,names:= [(".0",.local),("link",.local)],isGenerator:=false,isCoroutine:=false,more:= [] }:=
 lcM
theorem bJA:xJ ["links","dates","answers","letter"] (yH aJI) "n" ["dates"] [1] {kind:= .function,names:= [("n",.local),("dates",.free)],isGenerator:=false,isCoroutine:=false,more:= [] }:=
 lcM
theorem bWu{oc:bYa}{od an:Option Nat}{a9:Array (Option bYa)}{kV a3 pm ct:bYa}(T:vA mg)(C:cXg base c Tb)(hB:base.BuiltinsAt mg Tb) (lk:K.lookup f=some ⟨oc,od,.func (cQu "answers_to_each" "answers_to_each" (zQ aJI) (zC aJI) (yH aJI) .none kV a3 pm an (.ref c) ct),a9⟩) (a8:cQS K (.ref c) "answers_to_each"=true): xD P w K mg base CX0 2 f (cQu "answers_to_each" "answers_to_each" (zQ aJI) (zC aJI) (yH aJI) .none kV a3 pm an (.ref c) ct) ["links","dates"] (bVJ Tb):=by
 have sc:=bWL;refine bJs (k:=1) lk a8 sc (λvs H Q E h=>by obtain⟨J,da,n,L,rk,D,rfl,_⟩:=h;rfl) λA outer s H0 vs Q E hr h=>?_;suffices N:∃t,PSs (aXn CX0 P w K mg base ["links","dates","answers","letter"] "answers_to_each" (yH aJI) f (.ref c) A outer s H0 E).nox (zC aJI) t/\t {nx:=λ_ H'=>Q .non H',rt:=Q} (start ["links","dates","answers","letter"] vs) H0 by obtain⟨t,m,y⟩:=N;exact⟨t,m.nox,y⟩
 obtain⟨J,da,n,L,rk,D,rfl,r,b5,ho,hn,hT,q⟩:=h;refine⟨_,(yC (aZE (i:=2) bWn rfl sc.nd rfl rfl (xN (pv 0)) (λ_ _ _ _ _=>zT) (λ_ _ _ _ _=>(y6 yD))) (yC (zL bYY rfl (xN (aWI (qual:="answers_to_each.<locals>.<lambda>") rfl T.b_sorted rfl T.b_range (yT yN rfl T.b_len y9 (yA (pv 0) yD)) bJA rfl rfl rfl C hB hr rfl rfl (λ_ _ _ _ _=>rfl) (λ_ _ _ _ _ _ _=>xI (yA (yL (show IxR _ (aXW K)from yI) (pv 1) (pv 0)) (yA (pv 0) yD))))) (xB (i:=3)) (yF (y0 (yM wC (yL yI (pv 0) (pv 3)) xY) (yF (yY (uC bYM bYR bYS xL (yL yI (pv 2) (yL yI (pv 0) (pv 3))) (yA (pv 3) yD)))) yS))) (yF (yP (pv 2))))),?_⟩;have G:(vO n L).length=n:=by simp[vO]
 refine⟨_,rfl,J,rfl,⟨_,SqL.of r⟩,λa ha=>aWh (SqL.of r) ha (by omega) λH1 g X hD a1 nd v=>?_⟩;rw[G]at a1;dsimp only[yW];have a2:=X _ _ r;have a0:=X _ _ b5;have b0:z6 Tb H1:=by
  rcases hT with t|⟨c',t1,t2⟩
  ·exact .inl (X _ _ t)
  ·exact .inr ⟨c',X _ _ t1,X _ _ t2⟩
 refine⟨_,rfl,J,_,rfl,.inl (SqL.of a2),?_⟩;rw[G];refine⟨n,rfl,by omega,b0,λi=>(D i,(i:Int)),λi j _ _ z=>?_,λi H3 M k3 t3 R hR=>?_,λH5 l d k5 t5 nl U b1 h5=>⟨l,rfl,⟨_,SqL.of h5⟩,?_⟩⟩
 ·have:=congrArg Prod.snd z;simp only at this;omega
 ·refine⟨_,rfl,_,rfl,da,_,_,_,rfl,rfl,SqL.of (k3.lst a0),yR (aV5 M),_,rfl,z2,λp hp=>hR p _ (yG hp _).t ?_ yB⟩;rcases t3 with t|⟨_,t,_⟩
  ·rw[yJ (yK t hp)]
  ·rw[yJ (yK t hp)]
 ·have hm:∀i∈d,i<n:=λi M=>bYI.mp (U.mem_iff.mp M);have kk:x0 H0 H5:=X.t.trans k5;have nr:∀b o,H0 b=some o->b∉g:=λb o e z=>by rw[(v b z).2.1]at e;cases e
  have r5:∀b∈g,H5 b=some (.lst []):=λb B=>k5.lst (v b B).1;have nT:Tb∉g:=λz=>by
   have e:=r5 _ z;rcases t5 with t|⟨_,t,_⟩
   ·rw[t]at e;cases e
   ·rw[t]at e;cases e
  have b2:l∉g:=λz=>by rw[(v l z).1]at nl;cases nl
  have a6:a∉g:=λz=>(v a z).2.2 rfl;have Z:H5 a=some (.lst (g.map V.ref)):=k5.lst hD;refine zM (xs:=d.map λi=>V.int (i:Nat)) (λt σ H=>∃lt,σ= [some (.ref J),some (.ref da),some (.ref a),lt]/\(∀b o,H5 b=some o->b∉g->H b=some o)/\
   ∀j b,g[j]? =some b->H b=some (.lst (((d.take t).filter λi=>decide (L i=some j)).map λi=>V.int (i:Nat)))) ?_ ?_ ?_ ?_
  ·exact⟨none,rfl,λb o e _=>e,λj b B=>r5 b (bYt B)⟩
  ·rintro t σ H ht ⟨lt,rfl,m,y⟩;exact SqL.of (m _ _ h5 b2)
  ·rintro t x σ H N ⟨lt,rfl,m,y⟩;rw[bYu]at N;cases he:d[t]? with
   |none=>rw[he]at N;cases N
   |some i=>
    rw[he]at N;cases N;have M:=hm i (bYt he);have a5:d.take (t+1)=d.take t++ [i]:=by rw[cQh,he];rfl
    have I:H J=some (.lst (vO n L)):=m _ _ (kk.lst r) (nr _ _ r);have b3:H a=some (.lst (g.map V.ref)):=m _ _ Z a6;dsimp only[yW];refine⟨_,rfl,_,rfl,J,_,_,_,rfl,rfl,SqL.of I,yR (uX M),rfl,_,rfl,?_⟩;cases hl:L i with
    |none=>
     refine onF rfl ⟨_,rfl,m,λj b B=>?_⟩;rw[y j b B,a5,cQl];have: [i].filter (λi=>decide (L i=some j))= []:=by simp[hl]
     rw[this,cQf]
    |some j=>
     obtain⟨hj,_⟩:=ho.lt i j M hl;have O:j<g.length:=by omega
     have B:=bK9 O;have a7:=y j _ B;refine onT rfl ?_;refine⟨_,rfl,_,rfl,_,rfl,J,_,_,_,rfl,rfl,SqL.of I,yR (uX M),?_⟩;rw[hl];refine⟨a,_,_,.ref g[j],rfl,rfl,SqL.of b3,yR (by rw[bYu,B];rfl),.inl ⟨rfl,_,SqL.of a7⟩,_,rfl,g[j],_,_,rfl,rfl,a7,zlt ?_,_,rfl,λb o e a4=>?_,λY b u=>?_⟩
     ·rw[bYe];have:=cQe (λi=>decide (L i=some j)) (d.take t);have h3:=List.length_take_le t d;have h4:d.length=n:=by rw[U.length_eq,bYW]
      have h5:(d.take t).length<=d.length:=by rw[cQn];omega
      omega
     ·rw[yJ (λz=>a4 (by rw[z];exact cQR O))];exact m b o e a4
     ·rw[a5,cQl];by_cases S:Y=j
      ·subst S;rw[B]at u;cases u;rw[yB];have: [i].filter (λi=>decide (L i=some Y))= [i]:=by simp[hl]
       rw[this,cQW];rfl
      ·have b4:b≠g[j]:=λz=>by
        have h6:Y<g.length:=(bYl.mp u).1;have h7:g[Y]=b:=(bYl.mp u).2;exact S ((cQ0 (h₀:=h6) (h₁:=O) nd).mp (h7.trans z))
       rw[yJ b4,y Y b u];have: [i].filter (λi=>decide (L i=some Y))= []:=by simp[hl,bYU S]
       rw[this,cQf]
  ·rintro σ H ⟨lt,rfl,m,y⟩;rw[bYe,cQb]at y;refine⟨_,rfl,q H a g (λj=>d.filter λi=>decide (L i=some j)) (λb o nt e=>m b o (kk b o nt e) (nr b o e)) ?_ (m _ _ Z a6) a1 y ⟨λj i=>?_,λj=>?_⟩⟩
   ·rcases t5 with t|⟨c',t1,t2⟩
    ·exact .inl (m _ _ t nT)
    ·exact .inr ⟨c',m _ _ t1 nT,m _ _ t2 λz=>by rw[r5 _ z]at t2;cases t2⟩
   ·rw[cQg,U.mem_iff,bYI,decide_eq_true_eq]
   ·exact(b1.imp λh=>by simpa using h).sublist cXd
end
theorem aWe{n:Nat}{L:Nat->Option Nat}{D:Nat->Int}{a:Nat->List Nat}(h:bKG n L D a)(j:Nat):(a j).length<=n:=
 Fm.wK ((h.ord j).imp λ{x y} e z=>by rw[z,Stree.vH]at e;cases e) λx b=>((h.mem j x).mp b).1
theorem bVT{n:Nat}{L:Nat->Option Nat}{D:Nat->Int}{rk:Nat->Nat}{b:Nat}{a nx:List Nat}(W:Fm.aZ0 n L D rk b a nx):nx.length<=n:=
 Fm.wK (W.aa.imp λ{x y} e z=>by have:=e x (List.prefix_refl _);rw[z,Stree.vI]at this;cases this) λx c=>(W.al x c).1
section
variable {K:bYc}
theorem aY4:yO ["links","dates","number","answers","told","ahead","letter"] ["links","dates","number"] (yH aJQ):=scM
theorem aYi(T:vA mg)(g:FnG P w K mg base 2 "answers_to_each" ["links","dates"] (bVJ Tb))(p:FnG P w K mg base 2 "top_of" ["links","number"] (bWV K))(F:Fun K "thread" "thread" aJQ f fd): xD P w K mg base CX0 3 f fd ["links","dates","number"] (aVQ Tb):=by
 have sc:=aY4;refine F.ok (k:=2) sc (λa6 A outer s H0 vs Q E hr h=>?_);obtain⟨la,da,n,L,y,D,i,rfl,R,a4,ho,hn,hi,hT,q⟩:=h;refine⟨_,(yC (yU (i:=3) (xK g hr rfl (yA (pv 0) (yA (pv 1) yD)))) (yC (yU (i:=4) (y6 yD)) (yC (yU (i:=5) (y6 (yA (xK p hr rfl (yA (pv 0) (yA (pv 2) yD))) yD))) (yC (u4 bYY (yM aQl (yT yN rfl T.b_len y9 (yA (pv 5) yD)) yE) (yC (yU (i:=6) (bZP bYM PySem.F.slot_list_pop PySem.F.type_list_pop bZN (pv 5))) (yC (yY (uC bYM bYR bYS xL (pv 4) (yA (pv 6) yD))) (yF (yY (uC bYM PySem.F.slot_list_extend PySem.F.type_list_extend aKX (pv 5) (yA (yL yI (pv 3) (pv 6)) yD))))))) (yF (yP (pv 4))))))),?_⟩;refine⟨_,rfl,_,rfl,la,da,n,L,y,D,rfl,R,a4,ho,hn,hT,λO a rs kd k1 t1 ha a5 a2 hk=>?_⟩;dsimp only[yW];refine⟨z0,λx G=>?_⟩;dsimp only[yW];have k2:=yG G (.lst []);refine⟨_,rfl,_,rfl,la,n,L,y,i,rfl,SqL.of (k2 _ _ (k1.lst R)),ho,hi,z1,λo M=>?_⟩;dsimp only[yW];have S:O o=none:=k2.fresh M;have C:x≠o:=yK yB M;have k3:xA O (upd (upd O x (.lst [])) o (.lst [V.int (Fm.tp L y i:Nat)])):=k2.trans (yG M _);refine⟨λm σ H=>∃ (c J:List Nat)(lt:Option V),σ= [some (.ref la),some (.ref da),some (.int (i:Nat)),some (.ref a),some (.ref x),some (.ref o),lt]/\xA O H/\H x=some (.lst (c.map λi=>V.int (i:Nat)))/\
   H o=some (.lst (J.map λi=>V.int (i:Nat)))/\Fm.aZ0 n L D y (Fm.tp L y i) c J.reverse/\m=n - c.length,
  ⟨n,[],[Fm.tp L y i],none,rfl,k3,by rw[yJ C];exact yB,yB,Fm.aZ0.start ho hi,by simp⟩,?_⟩
 rintro m σ H ⟨c,J,lt,rfl,r,a0,B,W,rfl⟩;refine⟨_,rfl,o,_,rfl,.inl (SqL.of B),_,_,rfl,rfl,_,rfl,?_⟩;rcases List.eq_nil_or_concat J with rfl|⟨d,v,rfl⟩
 ·refine onF rfl ⟨_,rfl,q H x c (λb u n e=>yK (k1 b u n e) G) (k1.trans r.t) ?_ a0 W.tt λk=>W.done k⟩;rcases t1 with t|⟨c',t1,t2⟩
  ·exact .inl (r _ _ t)
  ·exact .inr ⟨c',r _ _ t1,r _ _ t2⟩
 ·rw[List.concat_eq_append]at B W ⊢;have Z:decide ((((d++ [v]).map λi=>V.int (i:Nat)).length:Int) > 0)=true:=by
   refine decide_eq_true ?_;rw[bYe,bYy,cQm];omega
  refine onT Z ⟨λU H'=>∃m',m'<n - c.length/\∃ (c J:List Nat)(lt:Option V),U= [some (.ref la),some (.ref da),some (.int (i:Nat)),some (.ref a),some (.ref x),some (.ref o),lt]/\xA O H'/\H' x=some (.lst (c.map λi=>V.int (i:Nat)))/\
   H' o=some (.lst (J.map λi=>V.int (i:Nat)))/\Fm.aZ0 n L D y (Fm.tp L y i) c J.reverse/\m'=n - c.length,λU H' z=>z,?_⟩
  have I:((d++ [v]).map λi=>V.int (i:Nat))[((d++ [v]).map λi=>V.int (i:Nat)).length - 1]? =some (V.int (v:Nat)):=by simp
  have N:((d++ [v]).map λi=>V.int (i:Nat)).dropLast=d.map λi=>V.int (i:Nat):=by simp
  refine⟨_,rfl,.inl ⟨rfl,_,SqL.of B⟩,o,_,_,rfl,rfl,B,I,?_⟩;rw[N];dsimp only[yW];have W':Fm.aZ0 n L D y (Fm.tp L y i) c (v::d.reverse):=by
   have:(d++ [v]).reverse=v::d.reverse:=by simp
   rw[this]at W;exact W
  have hv:=(W'.al v bYp).1;have W2:=W'.step ho (z7:=(kd v).reverse) (λj=>by rw[List.mem_reverse];exact hk.mem v j) (by rw[List.pairwise_reverse];exact hk.ord v);have l1:=W'.len;have l2:=bVT W';have l3:=aWe hk v;have l4:=W2.len;rw[bY8,List.length_reverse]at l2;rw[bYy,cQm]at l4;have Y:upd H o (.lst (d.map λi=>V.int (i:Nat))) x=some (.lst (c.map λi=>V.int (i:Nat))):=by rw[yJ C];exact a0
  show bQr _ _ _ _;refine⟨_,rfl,.inl ⟨rfl,_,SqL.of Y⟩,_,rfl,x,_,_,rfl,rfl,Y,zlt (by rw[bYe];omega),?_⟩;have X:upd (upd H o (.lst (d.map λi=>V.int (i:Nat)))) x (.lst ((c.map λi=>V.int (i:Nat))++ [V.int (v:Nat)])) o=some (.lst (d.map λi=>V.int (i:Nat))):=by rw[yJ (bYU C)];exact yB
  have k6:xA O (upd (upd H o (.lst (d.map λi=>V.int (i:Nat)))) x (.lst ((c.map λi=>V.int (i:Nat))++ [V.int (v:Nat)]))):=w8 (w8 r S) G;have a3:v<rs.length:=by omega
  have hb:=bK9 a3;have a1:=k6 _ _ (a2 v _ hb);refine⟨_,rfl,.inl ⟨rfl,_,SqL.of X⟩,_,rfl,_,rfl,a,_,_,.ref rs[v],rfl,rfl,SqL.of (k6 _ _ ha),yR (by rw[bYu,hb];rfl),o,rs[v],_,_,rfl,rfl,X,a1,zn (l:=(d.map λi=>V.int (i:Nat))++((kd v).map λi=>V.int (i:Nat))) (by rw[bYy,bYe,bYe];omega) |> λz=>by rw[bYy]at z;exact z,?_⟩;refine⟨n - (c.length+1),by omega,c++ [v],d++kd v,some (.int (v:Nat)),rfl,w8 k6 S,?_,?_,?_,by rw[bYy,cQm]⟩
  ·rw[yJ C,yB,cQW];rfl
  ·rw[yB,cQW]
  ·rw[List.reverse_append];exact W2
end
end Thr
namespace Desk
open PySem L2 PyProof.Rows
open Bk (Row Rows)
def aZi(x:Str):Stmt->Bool
 |.FunctionDef n _ _ _ _ _ _ _ _ _=>n==x
 |_=>false
def bKr(x:Str):Stmt->Bool
 |.ClassDef n _ _ _ _ _ _ _ _ _ _=>n==x
 |_=>false
def bJj:Stmt->List Stmt
 |.ClassDef _ _ _ b _ _ _ _ _ _ _=>b
 |_=> []
abbrev text:List Stmt:=PySem.Challenge.pw_letterdesk_k05_whole_numbers_and_trees.main.body
def xC(x:Str):Stmt:=(text.find? (aZi x)).getD (.Pass ⟨0,0,0,0⟩)
def xF(c m:Str):Stmt:=((bJj ((text.find? (bKr c)).getD (.Pass ⟨0,0,0,0⟩))).find? (aZi m)).getD (.Pass ⟨0,0,0,0⟩)
theorem y9:bYT "len"=some (.builtin "len"):=dk
theorem wZ:bYT "sorted"=some (.builtin "sorted"):=dk
theorem wY:bYT "list"=some (.type "list"):=dk
structure vA(mg:Str->Option bYa):Prop where
 b_len:mg "len"=none
 b_sorted:mg "sorted"=none
 b_list:mg "list"=none
structure Cl(K:bYc)(CB CL:Nat):Prop where
 b:Cls K CB
 l:Cls K CL
 letters:wH K CB "letters"
 shut:wH K CB "shut"
 number:wH K CL "number"
 way:wH K CL "way"
 day:wH K CL "day"
 partner:wH K CL "partner"
 term:wH K CL "term"
 link:wH K CL "link"
 file:wH K CL "file"
 copies:wH K CL "copies"
 void:wH K CL "void"
abbrev wN:Option Nat->V:=Thr.wN
def W4(r:Row):Int:=if r.void then 0 else r.term
def qZ(r:Row):V:=if r.void then .non else .str r.place
def aZs(i:Nat)(r:Row)(c:Nat):List (Str×V):=
 [("number",.int (i:Nat)),("way",.str r.way),("day",.int r.date),("partner",.str r.partner),("term",.int (W4 r)),("link",wN r.link),("file",qZ r),("copies",.ref c),("void",.bl r.void)]
def aVX(CL:Nat)(H:Hp)(b:Nat)(i:Nat)(r:Row)(c:Nat):Prop:=∃a,H b=some (.ins CL a (aZs i r c))
def stV(r:Row):List V:= [.str r.way,.int r.date,.str r.partner,.int (W4 r),wN r.link,qZ r]
def bQh(CL:Nat):Sp:=λh H Q _=>∃ (x g:Nat)(i:Nat)(a:Str)(d:Int)(e:Str)(t:Int),h= [.ref x,.int (i:Nat),.str a,.int d,.str e,.int t]/\H x=some (.ins CL g [])/\
 ∀ (c:Nat)(f:Hp),H c=none->f x=some (.ins CL g (aZs i ⟨a,d,e,t,none,"",false,[]⟩ c))->f c=some (.lst [])->(∀b,b≠x->b≠c->f b=H b)->Q .non f
def aJ7(CL:Nat):Sp:=λa H Q _=>∃ (b:Nat)(i:Nat)(r:Row)(c:Nat),a= [.ref b]/\aVX CL H b i r c/\∀t,H t=none->Q (.ref t) (upd H t (.tup (stV r)))
def aY9(CL:Nat):Sp:=λe H Q _=>∃ (b d:Nat)(i j:Nat)(r a:Row)(c f:Nat),e= [.ref b,.ref d]/\aVX CL H b i r c/\aVX CL H d j a f/\Q (.bl (decide (a.link=some i))) H
def bZX(CL:Nat):Sp:=λd H Q _=>∃ (b:Nat)(i:Nat)(r:Row)(c:Nat)(a:Str),d= [.ref b,.str a]/\aVX CL H b i r c/\H c=some (.lst (r.copies.map V.str))/\Q (.bl (decide (a=r.partner) || r.copies.contains a)) H
def bZ5(CL:Nat):Sp:=λd H Q _=>∃ (b a:Nat)(i:Nat)(r:Row)(c:Nat),d= [.ref b]/\H b=some (.ins CL a (aZs i r c))/\Q .non (upd H b (.ins CL a (aZs i {r with link:=none,void:=true} c)))
def bQj:Sp:=λa H Q _=>∃way:Str,a= [.str way]/\Q (.str (Bk.jG way)) H
section
variable {K:bYc}
abbrev aYG:Stmt:=xF "Letter" "__init__"
abbrev aYL:Stmt:=xF "Letter" "state"
abbrev aYx:Stmt:=xF "Letter" "is_answered_by"
abbrev bVd:Stmt:=xF "Letter" "has_gone_to"
abbrev bVo:Stmt:=xF "Letter" "make_void"
abbrev aYH:Stmt:=xC "other_way"
theorem bXY:yO ["self","number","way","day","partner","term"] ["self","number","way","day","partner","term"] (yH aYG):=scM
theorem bXo(T:Cl K CB CL)(F:Fun K "__init__" "Letter.__init__" aYG f fd):xD P w K mg base CX0 (n+1) f fd ["self","number","way","day","partner","term"] (bQh CL):=by
 have m:=bXY;refine F.ok (k:=n) m (λu A outer s H z Q E B h=>?_);obtain⟨x,e,i,v,d,p,t,rfl,y,q⟩:=h;refine⟨_,(yC (zJ (pv 0) (pv 1) rfl) (yC (zJ (pv 0) (pv 2) rfl) (yC (zJ (pv 0) (pv 3) rfl) (yC (zJ (pv 0) (pv 4) rfl) (yC (zJ (pv 0) (pv 5) rfl) (yC (zJ (pv 0) xY rfl) (yC (zJ (pv 0) yQ rfl) (yC (zJ (pv 0) (y6 yD) rfl) (yF (zJ (pv 0) wO rfl)))))))))),?_⟩;refine⟨_,rfl,_,rfl,x,CL,e,_,rfl,y,T.l,T.number,(show 0<1000 by decide),?_⟩;refine⟨_,rfl,_,rfl,x,CL,e,_,rfl,yB,T.l,T.way,(show 1<1000 by decide),?_⟩;refine⟨_,rfl,_,rfl,x,CL,e,_,rfl,yB,T.l,T.day,(show 2<1000 by decide),?_⟩;refine⟨_,rfl,_,rfl,x,CL,e,_,rfl,yB,T.l,T.partner,(show 3<1000 by decide),?_⟩;refine⟨_,rfl,_,rfl,x,CL,e,_,rfl,yB,T.l,T.term,(show 4<1000 by decide),?_⟩;refine⟨_,rfl,x,CL,e,_,rfl,yB,T.l,T.link,(show 5<1000 by decide),?_⟩;refine⟨_,rfl,x,CL,e,_,rfl,yB,T.l,T.file,(show 6<1000 by decide),?_⟩;refine⟨z0,λc g=>?_⟩;have a:x≠c:=yK yB g;refine⟨_,rfl,x,CL,e,_,rfl,(yJ a).trans yB,T.l,T.copies,(show 7<1000 by decide),?_⟩;refine⟨_,rfl,x,CL,e,_,rfl,yB,T.l,T.void,(show 8<1000 by decide),?_⟩;have j:H c=none:=by simp only[yJ (bYU a)]at g;exact g
 refine q c _ j yB (by rw[yJ (bYU a),yJ (bYU a),yB]) λb o r=>?_;simp only[yJ o,yJ r]
theorem bX3:yO ["self"] ["self"] (yH aYL):=scM
theorem bXt(T:Cl K CB CL)(F:Fun K "state" "Letter.state" aYL f fd):xD P w K mg base CX0 (n+1) f fd ["self"] (aJ7 CL):=by
 have g:=bX3;refine F.ok (k:=n) g (λj A outer s H m Q E o h=>?_);obtain⟨b,i,r,c,rfl,⟨a,d⟩,q⟩:=h;refine⟨_,(yF (yP (xI (yA (yZ (pv 0) rfl) (yA (yZ (pv 0) rfl) (yA (yZ (pv 0) rfl) (yA (yZ (pv 0) rfl) (yA (yZ (pv 0) rfl) (yA (yZ (pv 0) rfl) yD))))))))),?_⟩;refine⟨_,rfl,b,CL,a,_,_,rfl,d,T.l,T.way,rfl,?_⟩;refine⟨_,rfl,b,CL,a,_,_,rfl,d,T.l,T.day,rfl,?_⟩;refine⟨_,rfl,b,CL,a,_,_,rfl,d,T.l,T.partner,rfl,?_⟩;refine⟨_,rfl,b,CL,a,_,_,rfl,d,T.l,T.term,rfl,?_⟩;refine⟨_,rfl,b,CL,a,_,_,rfl,d,T.l,T.link,rfl,?_⟩;refine⟨_,rfl,b,CL,a,_,_,rfl,d,T.l,T.file,rfl,?_⟩;exact⟨by show 6<=bYB;decide,λt e=>q t e⟩
theorem aJe{o:Option Nat}{m:Nat}:decide (wN o=V.int (m:Nat))=decide (o=some m):=by
 cases o with
 |none=>rfl
 |some j=>show decide (V.int (j:Nat)=V.int (m:Nat))=decide (some j=some m);rw[Bool.eq_iff_iff];simp;omega
theorem bXO:yO ["self","other"] ["self","other"] (yH aYx):=scM
theorem bXe(T:Cl K CB CL)(F:Fun K "is_answered_by" "Letter.is_answered_by" aYx f fd):xD P w K mg base CX0 (n+1) f fd ["self","other"] (aY9 CL):=by
 have g:=bXO;refine F.ok (k:=n) g (λp A outer s H u Q E v h=>?_);obtain⟨b,m,i,j,r,e,c,x,rfl,⟨o,t⟩,⟨d,a⟩,q⟩:=h;refine⟨_,(yF (yP (zE x8 (yZ (pv 1) rfl) (yZ (pv 0) rfl)))),?_⟩;refine⟨_,rfl,m,CL,d,_,_,rfl,a,T.l,T.link,rfl,?_⟩;refine⟨_,rfl,b,CL,o,_,_,rfl,t,T.l,T.number,rfl,?_⟩;rw[<- aJe]at q;refine⟨?_,q⟩;cases e.link<;> rfl
theorem wS(x:Str):∀ns:List Str,inV (.str x) (ns.map V.str)=ns.contains x
 |[]=>rfl
 |n::r=>by have a:=wS x r;unfold inV at a ⊢;rw[bY0,cXs,a,cXx];congr 1;show(n==x)=(x==n);rw[Bool.eq_iff_iff,beq_iff_eq,beq_iff_eq];exact eq_comm
theorem aZd:∀ns:List Str,(ns.map V.str).all W0=true
 |[]=>rfl
 |n::r=>by rw[bY0,cZm,aZd r];rfl
theorem bVs:yO ["self","person"] ["self","person"] (yH bVd):=scM
theorem bJL(T:Cl K CB CL)(F:Fun K "has_gone_to" "Letter.has_gone_to" bVd f fd):xD P w K mg base CX0 (n+1) f fd ["self","person"] (bZX CL):=by
 have j:=bVs;refine F.ok (k:=n) j (λp A outer s H t Q E u h=>?_);obtain⟨b,i,r,c,a,rfl,⟨e,g⟩,o,q⟩:=h;refine⟨_,(yF (yP (bWB (zE x8 (pv 1) (yZ (pv 0) rfl)) (aZB (zE wL (pv 1) (yZ (pv 0) rfl)))))),?_⟩;refine⟨_,rfl,_,rfl,b,CL,e,_,_,rfl,g,T.l,T.partner,rfl,rfl,?_⟩;have m:decide (V.str a=V.str r.partner)=decide (a=r.partner):=by rw[Bool.eq_iff_iff];simp
 refine⟨_,rfl,?_⟩;rw[m];cases d:decide (a=r.partner)with
 |true=>rw[d,Bool.true_or]at q;exact onT rfl q
 |false=>rw[d,Bool.false_or]at q;refine onF rfl ⟨_,rfl,_,rfl,b,CL,e,_,_,rfl,g,T.l,T.copies,rfl,c,_,rfl,.inl (SqL.of o),rfl,aZd _,?_⟩;rw[if_neg (by decide),wS];exact q
theorem bVE:yO ["self"] ["self"] (yH bVo):=scM
theorem bJY(T:Cl K CB CL)(F:Fun K "make_void" "Letter.make_void" bVo f fd):xD P w K mg base CX0 (n+1) f fd ["self"] (bZ5 CL):=by
 have d:=bVE;refine F.ok (k:=n) d (λe A outer s H j Q E m h=>?_);obtain⟨b,a,i,r,c,rfl,g,q⟩:=h;refine⟨_,(yC (zJ (pv 0) wO rfl) (yC (zJ (pv 0) xY rfl) (yC (zJ (pv 0) xY rfl) (yF (zJ (pv 0) yE rfl))))),?_⟩;refine⟨_,rfl,b,CL,a,_,rfl,g,T.l,T.void,(show 9<1000 by decide),?_⟩;refine⟨_,rfl,b,CL,a,_,rfl,yB,T.l,T.link,(show 9<1000 by decide),?_⟩;refine⟨_,rfl,b,CL,a,_,rfl,yB,T.l,T.file,(show 9<1000 by decide),?_⟩;refine⟨_,rfl,b,CL,a,_,rfl,yB,T.l,T.term,(show 9<1000 by decide),?_⟩;rw[uO,uO,uO];exact q
theorem bXZ:yO ["way"] ["way"] (yH aYH):=scM
theorem bXp(F:Fun K "other_way" "other_way" aYH f fd):xD P w K mg base CX0 (n+1) f fd ["way"] bQj:=by
 have c:=bXZ;refine F.ok (k:=n) c (λb A outer s H e Q E g h=>?_);obtain⟨a,rfl,q⟩:=h;refine⟨_,(yF (yP (aVu (yM x8 (pv 0) yQ) yQ yQ))),?_⟩;unfold Bk.jG at q;have d:decide (V.str a=V.str "in")=decide (a="in"):=by rw[Bool.eq_iff_iff];simp
 refine⟨_,rfl,rfl,_,rfl,?_⟩;rw[d];by_cases hw:a="in"
 ·rw[if_pos hw]at q;exact onT (decide_eq_true hw) q
 ·rw[if_neg hw]at q;exact onF (decide_eq_false hw) q
end
end Desk
namespace L2
open PySem PySem.Spec PyProof.Rows
section
variable {κ:Type} [DecidableEq κ]
def Q0(kvs:List (κ×V))(k:κ):Option V:=(kvs.find? λa=>decide (a.1=k)).map (·.2)
def aJF(kvs:List (κ×V))(k:κ)(v:V):List (κ×V):=
 if(kvs.any λa=>decide (a.1=k))=true then kvs.map (λa=>if a.1=k then(a.1,v)else a)else kvs++ [(k,v)]
theorem zZ{p:κ×V}{r:List (κ×V)}{k:κ}(e:p.1=k):Q0 (p::r) k=some p.2:=by simp[Q0,cXA,e]
theorem zY{p:κ×V}{r:List (κ×V)}{k:κ}(e:¬p.1=k):Q0 (p::r) k=Q0 r k:=by simp[Q0,cXA,e]
theorem Q1(k:κ):∀kvs:List (κ×V),(kvs.any λa=>decide (a.1=k))=(Q0 kvs k).isSome
 |[]=>rfl
 |p::r=>by
  rw[cXs];by_cases e:p.1=k
  ·simp only[zZ e,decide_eq_true e,Bool.true_or,Option.isSome_some]
  ·rw[zY e,decide_eq_false e,Bool.false_or];exact Q1 k r
theorem aVU(k j:κ)(y:V):∀kvs:List (κ×V),Q0 (kvs.map λa=>if a.1=k then(a.1,y)else a) j=(Q0 kvs j).map λx=>if j=k then y else x
 |[]=>rfl
 |p::r=>by
  have b:=aVU k j y r;rw[bY0];by_cases h:p.1=k
  ·rw[if_pos h];by_cases e:p.1=j
   ·rw[zZ (p:=(p.1,y)) e,zZ e,Option.map_some,if_pos (e.symm.trans h)]
   ·rw[zY (p:=(p.1,y)) e,zY e,b]
  ·rw[if_neg h];by_cases e:p.1=j
   ·rw[zZ (p:=p) e,zZ e,Option.map_some,if_neg (λz=>h (e.trans z))]
   ·rw[zY (p:=p) e,zY e,b]
theorem aZY(k j:κ)(y:V):∀kvs:List (κ×V),Q0 kvs k=none->Q0 (kvs++ [(k,y)]) j=if j=k then some y else Q0 kvs j
 |[],_=>by
  by_cases e:k=j
  ·rw[if_pos e.symm];exact zZ (p:=(k,y)) e
  ·rw[if_neg (λz=>e z.symm)];exact zY (p:=(k,y)) e
 |p::r,hn=>by
  rw[cZJ];have a:¬p.1=k:=λz=>by rw[zZ z]at hn;cases hn
  rw[zY a]at hn;have b:=aZY k j y r hn;by_cases e:p.1=j
  ·rw[zZ e,zZ e,if_neg (λz=>a (e.trans z))]
  ·rw[zY e,zY e,b]
theorem bZr(kvs:List (κ×V))(k j:κ)(y:V):Q0 (aJF kvs k y) j=if j=k then some y else Q0 kvs j:=by
 unfold aJF;by_cases a:(kvs.any λb=>decide (b.1=k))=true
 ·rw[if_pos a,aVU];rw[Q1]at a;by_cases e:j=k
  ·obtain⟨x,c⟩:=Option.isSome_iff_exists.mp a;rw[if_pos e,e,c,Option.map_some,if_pos rfl]
  ·rw[if_neg e];cases Q0 kvs j with
   |none=>rfl
   |some x=>rw[Option.map_some,if_neg e]
 ·rw[if_neg a];refine aZY k j y kvs ?_;rw[Q1]at a;cases q:Q0 kvs k with
  |none=>rfl
  |some x=>rw[q]at a;exact(a rfl).elim
theorem jQ(kvs:List (κ×V))(k:κ)(v:V):(aJF kvs k v).length<=kvs.length+1:=by
 unfold aJF;split
 ·rw[bYe];omega
 ·rw[bYy,bY8,cXj];omega
theorem aX0.isSome_eq{o:Option V}{u:Option bYa}(r:aX0 o u):o.isSome=u.isSome:=by
 cases o with
 |none=>cases u with
  |none=>rfl
  |some _=>exact(show False from r).elim
 |some _=>cases u with
  |none=>exact(show False from r).elim
  |some _=>rfl
theorem KV.val{kvs:List (κ×V)}{vs:List (κ×bYa)}(r:KV kvs vs)(k:κ):aX0 (Q0 kvs k) (cZu vs k):=by
 unfold KV at r;induction r with
 |nil=>exact cQw
 |@cons p q i c h t f=>
  obtain⟨d,g⟩:=h;by_cases e:p.1=k
  ·have a:q.1=k:=d.symm.trans e;have b:cZu (q::c) k=some q.2:=by simp[cZu,cXA,a]
   rw[zZ e,b];exact g
  ·have a:¬q.1=k:=λz=>e (d.trans z);have b:cZu (q::c) k=cZu c k:=by simp[cZu,cXA,a]
   rw[zY e,b];exact f
theorem KV.any{kvs:List (κ×V)}{vs:List (κ×bYa)}(r:KV kvs vs)(k:κ):(kvs.any λa=>decide (a.1=k))=vs.any λa=>decide (a.1=k):=by
 unfold KV at r;induction r with
 |nil=>rfl
 |cons h t b=>rw[cXs,cXs,b,h.1]
theorem KV.repl{kvs:List (κ×V)}{vs:List (κ×bYa)}(r:KV kvs vs)(k:κ){y:V}{u:bYa}(d:zH y u): KV (kvs.map λa=>if a.1=k then(a.1,y)else a) (vs.map λa=>if a.1=k then(a.1,u)else a):=by
 unfold KV at r ⊢;induction r with
 |nil=>exact .nil
 |@cons p q g i h t f=>
  rw[bY0,bY0];refine .cons ?_ f;obtain⟨b,c⟩:=h;by_cases e:p.1=k
  ·rw[if_pos e,if_pos (b.symm.trans e)];exact⟨b,d⟩
  ·rw[if_neg e,if_neg (λz=>e (b.trans z))];exact⟨b,c⟩
theorem KV.put{kvs:List (κ×V)}{vs:List (κ×bYa)}(r:KV kvs vs)(k:κ){y:V}{u:bYa}(a:zH y u):KV (aJF kvs k y) (stored vs k u):=by
 unfold aJF stored;rw[r.any k];by_cases e:(vs.any λb=>decide (b.1=k))=true
 ·rw[if_pos e,if_pos e];exact r.repl k a
 ·rw[if_neg e,if_neg e];exact Paired.snoc r ⟨rfl,a⟩
theorem KV.length{kvs:List (κ×V)}{vs:List (κ×bYa)}(r:KV kvs vs):kvs.length=vs.length:=cXt r
end
theorem bQU{P:bYx}{w:bYD}{k:Key}{u:bYa}(r:zH (kV k) u):(x6 P w).is k u=true:=by
 cases k with
 |inl i=>obtain⟨t,e⟩:=(show ∃t,u=Value.int i t from r);subst e;exact aJn P w i t
 |inr x=>obtain⟨t,e⟩:=(show ∃t,u=Value.str x t from r);subst e;exact jR P w x t
theorem aZj{P:bYx}{w:bYD}:∀ {a:List Key} {us:List bYa},xV (a.map kV) us->ItemsAre (x6 P w) a us
 |[],_,r=>by rw[List.map_nil]at r;cases r;exact .nil
 |k::a,_,r=>by
  rw[bY0]at r;cases r with
  |cons h t=>exact .cons (bQU h) (aZj t)
abbrev KT(H:Hp):List (List Key×V)->List (List Key×Addr×bYa)->Prop:=bY3 λp q=>p.1=q.1/\H q.2.1=some (.tup (p.1.map kV))/\zH p.2 q.2.2
theorem KT.val{H:Hp}{kvs:List (List Key×V)}{xs:List (List Key×Addr×bYa)}(r:KT H kvs xs)(k:List Key):aX0 (Q0 kvs k) ((atKey xs k).map (·.2)):=by
 induction r with
 |nil=>exact cQw
 |@cons p q i a h t g=>
  obtain⟨d,_,f⟩:=h;by_cases e:p.1=k
  ·have c:q.1=k:=d.symm.trans e;have b:atKey (q::a) k=some q.2:=by simp[atKey,cXA,c]
   rw[zZ e,b];exact f
  ·have c:¬q.1=k:=λz=>e (d.trans z);have b:atKey (q::a) k=atKey a k:=by simp[atKey,cXA,c]
   rw[zY e,b];exact g
theorem KT.repl{H:Hp}{kvs:List (List Key×V)}{xs:List (List Key×Addr×bYa)}(r:KT H kvs xs)(k:List Key){y:V}{u:bYa}(f:zH y u): KT H (kvs.map λb=>if b.1=k then(b.1,y)else b) (xs.map (putAt k u)):=by
 induction r with
 |nil=>exact .nil
 |@cons p q i j h t g=>
  rw[bY0,bY0];refine .cons ?_ g;obtain⟨a,c,d⟩:=h;unfold putAt;by_cases e:p.1=k
  ·rw[if_pos e,if_pos (a.symm.trans e)];exact⟨a,c,f⟩
  ·rw[if_neg e,if_neg (λz=>e (a.trans z))];exact⟨a,c,d⟩
theorem KT.put{H:Hp}{kvs:List (List Key×V)}{xs:List (List Key×Addr×bYa)}(r:KT H kvs xs)(k:List Key){b:Addr}{y:V}{u:bYa}(d:H b=some (.tup (k.map kV)))(a:zH y u): KT H (aJF kvs k y) (storedH xs k b u):=by
 have e:(kvs.any λc=>decide (c.1=k))=(atKey xs k).isSome:=by rw[Q1,(r.val k).isSome_eq,Option.isSome_map]
 unfold aJF storedH;rw[e];by_cases q:(atKey xs k).isSome=true
 ·rw[if_pos q,if_pos q];exact r.repl k a
 ·rw[if_neg q,if_neg q];exact Paired.snoc r ⟨rfl,d,a⟩
theorem KT.keeps{H c:Hp}{kvs:List (List Key×V)}{xs:List (List Key×Addr×bYa)}(r:KT H kvs xs)(d:∀b a,H b=some (.tup a)->c b=some (.tup a)):KT c kvs xs:=
 Paired.mapP r λ_ _ z=>⟨z.1,d _ _ z.2.1,z.2.2⟩
section
variable {P:bYx}{w:bYD}{H:Hp}{h:Heap}{a:Addr}
theorem bWJ{u:HO}(ok:HOk P w H h)(e:Rd H a u):zA P w H h a u:=e.ok ok
theorem bWd{kvs:List (Key×V)}(ok:HOk P w H h)(e:Rd H a (.dK kvs)):kvs.length<=bYB/\(a==cX2)=false/\∃b,KV kvs b/\h.DictOf (x6 P w) a b:=
 show zA P w H h a (.dK kvs)from bWJ ok e
theorem bKn{kvs:List (Key×V)}(ok:HOk P w H h)(e:H a=some (.dK kvs)):kvs.length<=bYB/\(a==cX2)=false/\∃b,KV kvs b/\h.DictOf (x6 P w) a b:=bWd ok (.inl e)
theorem aKL{b:List Key}(ok:HOk P w H h)(e:H a=some (.tup (b.map kV))):(tupleKind (x6 P w)).is h b a:=by
 obtain⟨_,c,r,o,f,g,n,d⟩:=(show zA P w H h a (.tup (b.map kV))from ok a _ e);exact⟨o,c.toArray,n,f,g,d,by simpa using aZj r⟩
theorem bWe{kvs:List (List Key×V)}(ok:HOk P w H h)(e:Rd H a (.dT kvs)):kvs.length<=bYB/\(a==cX2)=false/\ ∃c,KT H kvs c/\h.DictOfH (tupleKind (x6 P w)) a c:=by
 obtain⟨z,y,c,r,o,n,f,g,i,k,u,j⟩:=(show zA P w H h a (.dT kvs)from bWJ ok e);refine⟨z,y,c,r,o,n,f,g,i,k,u,λx b=>?_,j⟩;have all:∀ {l:List (List Key×V)} {m:List (List Key×Addr×bYa)},KT H l m->∀x∈m,(tupleKind (x6 P w)).is h x.1 x.2.1:=by
  intro l m q;induction q with
  |nil=>intro x b;exact nomatch b
  |@cons p q v A d t s=>
   intro x b;rcases bYj.mp b with e|b
   ·subst e;exact aKL ok (by rw[<- d.1];exact d.2.1)
   ·exact s x b
 exact all r x b
theorem vB{kvs:List (List Key×V)}(ok:HOk P w H h)(e:H a=some (.dT kvs)):kvs.length<=bYB/\(a==cX2)=false/\
  ∃b,KT H kvs b/\h.DictOfH (tupleKind (x6 P w)) a b:=bWe ok (.inl e)
end
def bVX(H:Hp)(a:Addr)(y:V)(r:Option V):Prop:=
 (∃kvs k,Rd H a (.dK kvs)/\y=kV k/\r=Q0 kvs k)\/∃kvs k b,Rd H a (.dT kvs)/\y= .ref b/\H b=some (.tup (k.map kV))/\r=Q0 kvs k
def bVY(H:Hp)(a:Addr)(y v:V)(c:Hp):Prop:=
 (∃kvs k,H a=some (.dK kvs)/\y=kV k/\kvs.length<bYB/\c=upd H a (.dK (aJF kvs k v)))\/
 ∃kvs k b,H a=some (.dT kvs)/\y= .ref b/\H b=some (.tup (k.map kV))/\kvs.length<bYB/\c=upd H a (.dT (aJF kvs k v))
theorem bVX.k{H:Hp}{a:Addr}{kvs:List (Key×V)}{k:Key}(e:H a=some (.dK kvs)):bVX H a (kV k) (Q0 kvs k):= .inl ⟨kvs,k,.inl e,rfl,rfl⟩
theorem bVY.k{H:Hp}{a:Addr}{kvs:List (Key×V)}{k:Key}{v:V}(e:H a=some (.dK kvs))(hl:kvs.length<bYB):bVY H a (kV k) v (upd H a (.dK (aJF kvs k v))):= .inl ⟨kvs,k,e,rfl,hl,rfl⟩
section
variable {X:Cx}{pins:List (Addr×Obj)}{σ:St}{H:Hp}{s:bYd}{a:Addr}{y v:V}{u r:bYa}{o:Option V}{A:bYO}{E:bYa->bYd->Prop}
theorem Inv.big(I:Inv X pins σ H s):cX2<s.heap.objs.size:=by
 have h:bYG<s.heap.objs.size:=(I.mod.glob.keeps I.bk).lt;exact Nat.lt_trans (by decide) h
theorem bJl{Q:bYa->bYd->Prop}(n:A.units+1<cLine)(I:Inv X pins σ H s)(g:bVX H a y o)(m:zH y u)(h:∀j,Inv X pins σ H j->Q (.bool (!o.isSome)) j): bYi (bYk X.prog X.w) A (cQE .NotIn u (.ref a)) Q E s:=by
 rcases g with⟨kvs,k,e,d,l⟩|⟨kvs,k,b,e,d,p,l⟩
 ·subst d;obtain⟨z,f,r,c,i⟩:=bWd I.hok e;refine wpAny_notIn_of (bQU m) f i.mapOf ?_;rw[<- (c.val k).isSome_eq,<- l];exact h _ (I.tok _)
 ·subst d;cases (show u=Value.ref b from m);obtain⟨z,f,t,c,i⟩:=bWe I.hok e;refine wpAny_notIn_heap (tupleKind_room_in1 n) (aKL I.hok p) f i ?_;have q:=(c.val k).isSome_eq;rw[Option.isSome_map]at q;rw[<- q,<- l];exact h _ (I.tok _)
theorem aKr{h':Heap}{t':Nat}{d:HO}(I:Inv X pins σ H s)(f:Mut (H a))(i:cXe a s.heap h')(h:∃q,h'.get? a=some q)(c:zA X.prog X.w (upd H a d) h' a d): Inv X pins σ (upd H a d) {s with heap:=h',toks:=t'}:=
 I.write (x:=a) (e:=a) f (.inl rfl) (λb q g z=>(i.2 b g).trans z) h c
theorem bWc{P:bYx}{w:bYD}{e:Hp}{h':Heap}{kvs:List (Key×V)}{vs:List (Key×bYa)}(z:kvs.length<=bYB)(d:(a==cX2)=false)(b:KV kvs vs)(c:h'.DictOf (x6 P w) a vs):
  zA P w e h' a (.dK kvs):=⟨z,d,vs,b,c⟩
theorem aKq{F:Hp}{Q:Unit->bYd->Prop}(M:A.units+1<cLine)(I:Inv X pins σ H s)(g:bVY H a y v F)(J:zH y u)(G:zH v r)(h:∀C,Inv X pins σ F C->Q () C): bYi (bYk X.prog X.w) A (setItem (.ref a) u r) Q E s:=by
 rcases g with⟨kvs,k,e,j,l,m⟩|⟨kvs,k,b,e,j,B,l,m⟩
 ·subst j m;obtain⟨z,n,K,d,o⟩:=bKn I.hok e;have p:K.length<=bYB:=by rw[<- d.length];exact z
  have hl:(aJF kvs k v).length<=bYB:=by have:=jQ kvs k v;omega
  refine wpAny_setItem_pairs (hsz:=p) (bQU J) o λx f t=>h _ ?_;have S:∃q,x.get? a=some q:=let ⟨q,_,_,i,_⟩:=f;⟨q,i⟩;exact aKr I (by rw[e];exact cQw) t S (bWc hl n (d.put k G) f)
 ·subst j m;cases (show u=Value.ref b from J);obtain⟨z,n,N,d,o⟩:=vB I.hok e;have p:N.length<=bYB:=by rw[<- cXt d];exact z
  have hl:(aJF kvs k v).length<=bYB:=by have:=jQ kvs k v;omega
  refine wpAny_setItem_heap (hsz:=p) (tupleKind_room_in1 M) (aKL I.hok B) o λx f t=>h _ ?_;obtain⟨q,T,L,i,O,R,U,_,P⟩:=f;refine aKr I (by rw[e];exact cQw) t ⟨q,i⟩ ⟨hl,n,_,(d.put k B G).keeps λc V D=>?_,q,T,L,i,O,R,U,P⟩;rw[yJ (aQY D e (λz=>nomatch z))];exact D
end
section
variable {X:Cx}{pins:List (Addr×Obj)}{σ:St}{H:Hp}{s:bYd}{a:Addr}{kvs:List (Key×V)}{k:Key}{u:bYa}{A:bYO}{E:bYa->bYd->Prop}
end
def bKH(i:Expr):Prop:=∀a b,subscripted i false a b=operate [a,b] (getItem a b)
theorem bVL{prog:bYx}{w:bYD}{A:bYO}{E:bYa->bYd->Prop}{s:bYd}{env:Env}{value a:Expr}{pos:Pos}{T id:String}{Q:bYa->bYd->Prop} (hl:typeLookup (.type T) "__getitem__"=pure (some (.builtin id))) (k:bKH a) (h:bYi (bYk prog w) A (eval value env) (λo e=>bYi (bYk prog w) A (eval a env) (λi b=>b.TypeIs o T/\bYi (bYk prog w) A (getItem o i) Q E b) E e) E s): bYi (bYk prog w) A (eval (.Subscript value a pos) env) Q E s:=by
 refine Subscript_ (cQc h (λo e g=>cQc g (λi b c=>?_) λ_ _ x=>x) λ_ _ x=>x);obtain⟨j,c⟩:=c;unfold subscriptTail;refine bYb ?_;rw[getitemInPython_of_ne j.not_modules];refine bYb (wpAny_specialOf j hl ?_);have fin:bYi (bYk prog w) A (subscripted a false o i) (λr d=>bYi (bYk prog w) A (letTemporaryGo value o r >>=λ_=>pure r) Q E d) E b:=by rw[k o i];exact wpAny_operating (cQc c (λr d f=>bYb (wpAny_letTemporaryGo (bYg f))) λ_ _ x=>x)
 first
  |exact bYg (bYb fin)
  |exact bYb (bYg (bYb fin))
  |exact bYb fin
def bVM(ty td:TE):TE:=λσ H Q=>ty σ H λy c=>td σ c λx b=>∃a o,x= .ref a/\bVX b a y o/\Q (.bl (!o.isSome)) b
def bKx(td ty tv:TE):TS:=λD σ H=>tv σ H λv e=>td σ e λx c=>ty σ c λy d=>∃a b,x= .ref a/\bVY d a y v b/\D.nx σ b
section
variable {X:Cx}{o i e value:Expr}{pos pos' tpos:Pos}{td ty tv:TE}
theorem aYm(c:X.A.units+1<cLine)(d:PE X i ty)(e:PE X o td):PC X .NotIn i o (bVM ty td):=by
 intro pins s σ H Q I h;refine thn (d pins s σ H _ I h) λiv s1 ⟨y,H1,I1,ry,q1⟩=>thn (e pins s1 σ H1 _ I1 q1) λu s2 ⟨x,H2,I2,rx,a,ov,ex,g,q2⟩=>?_;subst ex;obtain rfl:u=Value.ref a:=rx;exact bJl c I2 g ry λf b=>⟨.bl (!ov.isSome),H2,b,rfl,q2⟩
theorem bJ5(d:X.A.units+1<cLine)(f:PE X o td)(e:PE X i ty)(b:PE X value tv)(j:swapsWith value (some (.Subscript o i pos')) pos.line X.env=pure false): PS X (.Assign [.Subscript o i pos'] value pos) (bKx td ty tv):=by
 intro pins s σ H D I h;refine wpAny_Assign_Subscript (thn (b pins s σ H _ I h) λr s1 ⟨v,H1,I1,rv,q1⟩=>thn (f pins s1 σ H1 _ I1 q1) λu s2 ⟨x,H2,I2,rx,q2⟩=>thn (e pins s2 σ H2 _ I2 q2) λiv s3 ⟨y,H3,I3,ry,a,H4,ex,g,q3⟩=>?_) j;subst ex;obtain rfl:u=Value.ref a:=rx;exact aKq d I3 g ry rv λk c=>⟨σ,H4,c,q3⟩
end
theorem bQH{P:bYx}{w:bYD}{H:Hp}(h:Heap)(a:cX2<h.objs.size):zA P w H (h.push {cls:= .type "dict",data:= .dict #[] }) h.objs.size (.dK []):=
 ⟨bY7 _,beq_eq_false_iff_ne.mpr (bYU (bYA a)),[],.nil,Heap.DictOf.new h⟩
def bWX:TE:=λ_ H Q=>∀p,H p=none->Q (.ref p) (upd H p (.dK []))
section
variable {X:Cx}{pos:Pos}
theorem bXA:PE X (.Dict [] [] pos) bWX:=λpins s σ H Q I h=>
 wpAny_Dict_empty ⟨.ref s.heap.objs.size,_,I.laid (a:=s.heap.objs.size) (o:= .dK []) (t':=s.toks) (λ_ _ q=>bYf _ q) (bYh _) (bQH s.heap I.big),rfl,h _ (I.hok.fresh (bYh _))⟩
end
structure M1(X:Cx)(o:Expr)(m:Str)(apos:Pos)(e:Expr)(cpos:Pos):Prop where
 base:cXY o m X.env (eval o X.env)=eval o X.env
 few:((cQN cpos (bYN [e] X.env)).all (λx=> !x.1) && (cZk cpos (cXw [] X.env)).all (λx=>x.1.isSome)
  && decide (([e]:List Expr).length+([]:List Keyword).length+(if([]:List Keyword).isEmpty then 0 else 1)<30))=true
 line:(apos.endLine==cpos.line)=true
 trees:cQN cpos (bYN [e] X.env)= [(false,eval e X.env)]
structure M2(X:Cx)(o:Expr)(m:Str)(apos:Pos)(e f:Expr)(cpos:Pos):Prop where
 base:cXY o m X.env (eval o X.env)=eval o X.env
 few:((cQN cpos (bYN [e,f] X.env)).all (λx=> !x.1) && (cZk cpos (cXw [] X.env)).all (λx=>x.1.isSome)
  && decide (([e,f]:List Expr).length+([]:List Keyword).length+(if([]:List Keyword).isEmpty then 0 else 1)<30))=true
 line:(apos.endLine==cpos.line)=true
 trees:cQN cpos (bYN [e,f] X.env)= [(false,eval e X.env),(false,eval f X.env)]
section
variable {X:Cx}{pins:List (Addr×Obj)}{σ:St}{H:Hp}{s:bYd}{a:Addr}{y d:V}{u r:bYa}{o:Option V}{A:bYO}{E:bYa->bYd->Prop}
end
section
variable {X:Cx}{o e f:Expr}{apos cpos:Pos}{td ty tx:TE}
end
section
variable {X:Cx}{pins:List (Addr×Obj)}{σ:St}{H:Hp}{s:bYd}{a:Addr}{kvs:List (Key×V)}{A:bYO}{E:bYa->bYd->Prop}
end
section
variable {X:Cx}{pins:List (Addr×Obj)}{σ:St}{H:Hp}{s:bYd}{a:Addr}{y:V}{u:bYa}{A:bYO}{E:bYa->bYd->Prop}
end
end L2
namespace L2
open PySem PySem.Spec PyProof.Rows
section
variable {κ:Type} [DecidableEq κ]
end
end L2
namespace Days
open PySem L2 PyProof.Rows
def aZi(x:Str):Stmt->Bool
 |.FunctionDef n _ _ _ _ _ _ _ _ _=>n==x
 |_=>false
def xC(x:Str):Stmt:=(PySem.Challenge.pw_letterdesk_k05_whole_numbers_and_trees.main.body.find? (aZi x)).getD (.Pass ⟨0,0,0,0⟩)
abbrev aJM:Stmt:=xC "counts"
abbrev bVk:Stmt:=xC "open_by_rest"
abbrev aXE:Stmt:=xC "closed_days"
abbrev aYJ:Stmt:=xC "place_of"
theorem aKl:bYT "min"=some (.builtin "min"):=dk
theorem wZ:bYT "sorted"=some (.builtin "sorted"):=dk
theorem bWa:bYT "set"=some (.type "set"):=dk
structure vA(mg:Str->Option bYa):Prop where
 b_len:mg "len"=none
 b_min:mg "min"=none
 b_sum:mg "sum"=none
 b_sorted:mg "sorted"=none
 b_isinstance:mg "isinstance"=none
 b_int:mg "int"=none
 b_str:mg "str"=none
 b_bool:mg "bool"=none
 b_list:mg "list"=none
 b_tuple:mg "tuple"=none
 b_set:mg "set"=none
 b_range:mg "range"=none
 b_reversed:mg "reversed"=none
 week:∃t,mg "WEEK"=some (.int 7 t)
 opens:∃t,mg "OPEN_DAYS"=some (.int 5 t)
def bQi:Sp:=λa H Q _=>∃d,a= [.int d]/\Q (.bl (Dm.opn d)) H
def bQk:Sp:=λa H Q _=>∃d,a= [.int d]/\Q (.int (Dm.place d)) H
def aVH(K:bYc):Sp:=λe H Q _=>∃ (a:Nat)(b:List Int),e= [.ref a]/\SqL K H a (b.map V.int)/\b.length<64/\
 ∀ (r:Nat)(c:Hp)(C:List Int),xA H c->H r=none->C.Pairwise (·<·)->(∀d,d∈C↔d∈b/\Dm.opn d=true)->C.length<=b.length->c r=some (.lst (C.map V.int))->Q (.ref r) c
def aVJ(K:bYc):Sp:=λc H Q _=>∃ (a:Nat)(b:List Int)(d:Int),c= [.ref a,.int d]/\SqL K H a (b.map V.int)/\Q (.bl (Dm.cts b d)) H
abbrev bKy:Stmt:=xC "due_day"
abbrev aYB:Stmt:=xC "day_at"
def bQd:Sp:=λa H Q _=>∃d,a= [.int d]/\Q (.int (Dm.zI d)) H
def bWU(K:bYc):Sp:=λe H Q _=>∃ (a:Nat)(b:List Int)(d t:Int),e= [.ref a,.int d,.int t]/\SqL K H a (b.map V.int)/\b.length<64/\1<=t/\∀ (c:Hp)(D:Int),xA H c->Dm.Due b d t D->Q (.int D) c
section
variable {K:bYc}
theorem bVz:yO ["date"] ["date"] (yH bVk):=scM
theorem bJT(T:vA mg)(F:Fun K "open_by_rest" "open_by_rest" bVk f fd):xD P w K mg base CX0 1 f fd ["date"] bQi:=by
 obtain⟨j,b⟩:=T.week;obtain⟨l,a⟩:=T.opens;have c:=bVz;refine F.ok (k:=0) c (λe A outer s H g Q E i h=>?_);obtain⟨d,rfl,q⟩:=h;refine⟨_,(yF (yP (zE vC (yV y3 (pv 0) (vX (v:= .int 7) rfl b ⟨_,rfl⟩)) (vX (v:= .int 5) rfl a ⟨_,rfl⟩)))),?_⟩;exact⟨_,rfl,_,_,rfl,rfl,(show(0:Int)<7 by decide),_,_,rfl,rfl,q⟩
theorem bX1:yO ["date"] ["date"] (yH aYJ):=scM
theorem bXr(T:vA mg)(F:Fun K "place_of" "place_of" aYJ f fd):xD P w K mg base CX0 1 f fd ["date"] bQk:=by
 obtain⟨l,b⟩:=T.week;obtain⟨m,a⟩:=T.opens;have c:=bX1;refine F.ok (k:=0) c (λg A outer s H i Q E j h=>?_);obtain⟨d,rfl,q⟩:=h;refine⟨_,(yF (yP (yV x3 (yV aVp (yV Y4 (pv 0) (vX (v:= .int 7) rfl b ⟨_,rfl⟩)) (vX (v:= .int 5) rfl a ⟨_,rfl⟩)) (yT (aKn rfl) rfl T.b_min aKl (yA (yV y3 (pv 0) (vX (v:= .int 7) rfl b ⟨_,rfl⟩)) (yA (yV w7 (vX (v:= .int 5) rfl a ⟨_,rfl⟩) yE) yD)))))),?_⟩;refine⟨_,rfl,_,_,rfl,rfl,⟨by decide,by decide⟩,_,_,rfl,rfl,.inr ⟨by decide,by decide⟩,_,rfl,_,_,rfl,rfl,(show(0:Int)<7 by decide),_,_,rfl,rfl,_,_,rfl,_,_,rfl,rfl,?_⟩;have e:(if 5 - 1<d % 7 then 5 - 1 else d % 7:Int)=if 4<d % 7 then 4 else d % 7:=rfl;exact q
theorem aYX:yO ["shut","date"] ["shut","date"] (yH aJM):=scM
theorem uU(d:Int):∀ns:List Int,inV (.int d) (ns.map V.int)=ns.contains d
 |[]=>rfl
 |n::r=>by have a:=uU d r;unfold inV at a ⊢;rw[bY0,cXs,a,cXx];congr 1;show(n==d)=(d==n);rw[Bool.eq_iff_iff,beq_iff_eq,beq_iff_eq];exact eq_comm
theorem uI:∀ns:List Int,(ns.map V.int).all W0=true
 |[]=>rfl
 |n::r=>by rw[bY0,cZm,uI r];rfl
theorem aYb(T:vA mg)(b:FnG P w K mg base 1 "open_by_rest" ["date"] bQi)(F:Fun K "counts" "counts" aJM f fd):xD P w K mg base CX0 2 f fd ["shut","date"] (aVJ K):=by
 have g:=aYX;refine F.ok (k:=1) g (λl A outer s H m Q E i h=>?_);obtain⟨a,e,d,rfl,j,q⟩:=h;refine⟨_,(yF (yP (aVt (xK b i rfl (yA (pv 1) yD)) (aZB (zE Z4 (pv 1) (pv 0)))))),?_⟩;refine⟨_,rfl,d,rfl,_,rfl,?_⟩;unfold Dm.cts at q;cases c:Dm.opn d with
 |false=>rw[c]at q;exact q
 |true=>rw[c,Bool.true_and]at q;rw[if_pos rfl];refine⟨_,rfl,_,rfl,a,_,rfl,.inl j,rfl,uI e,?_⟩;rw[if_pos rfl,uU];exact q
theorem aYW:yO ["shut"] ["shut"] (yH aXE):=scM
theorem aKN:xJ ["shut"] (yH aXE) "date" [] [] {kind:= .function,names:= [(".0",.local),("date",.local),("open_by_rest",.globalImplicit)],isGenerator:=false,isCoroutine:=false,more:= [] }:=
 lcM
theorem Q6(p:Int->Bool):∀ns:List Int,((ns.map V.int).filter λv=>match v with|.int d=>p d|_=>false)=(ns.filter p).map V.int
 |[]=>rfl
 |n::r=>by have a:=Q6 p r;rw[bY0,List.filter_cons,List.filter_cons,a];show(if p n=true then _ else _)=_;split<;> rfl
theorem aYa(T:vA mg)(c:FnG P w K mg base 1 "open_by_rest" ["date"] bQi)(F:Fun K "closed_days" "closed_days" aXE f fd):xD P w K mg base CX0 2 f fd ["shut"] (aVH K):=by
 have B:=aYW;refine F.ok (k:=1) B (λN A outer s H Y Q E C h=>?_);obtain⟨a,z,rfl,J,X,q⟩:=h;refine⟨_,(yF (yP (W3 aKN rfl (xN (yT (aQW rfl) rfl T.b_sorted wZ (yA (x4 (bQA rfl) rfl T.b_set bWa (yA (pv 0) yD)) yD))) (λ_ _ _ _ _=>(wU (xP (xK c C rfl (yA (pv 0) yD))))) (λ_ _ _ _ _=>(pv 0))))),?_⟩;refine⟨_,rfl,a,z,rfl,J,by omega,λl x hl O y e=>?_⟩;refine⟨l,x,rfl,yB,by omega,λr S i g I=>?_⟩;refine⟨r,rfl,⟨_,SqL.of yB⟩,λD n=>?_⟩;have j:S.Pairwise (·<·):=by
  have m:S.Nodup:=(g.nodup_iff).mpr O;have t:S.Pairwise (λa b=>a<=b/\a≠b):=I.and m;exact t.imp λ⟨Z,t⟩=>by omega
 have G:(S.map V.int).length<=bYB:=by rw[bYe,g.length_eq,bYJ];omega
 refine aZr (λv=>match v with|.int d=>Dm.opn d|_=>false) id (SqL.of yB) n G ?_ ?_ ?_
 ·intro v u U R W hR;obtain⟨d,hd,rfl⟩:=cQa.mp u;exact⟨_,rfl,d,rfl,_,rfl,hR⟩
 ·intro v u L U R W hR;exact⟨_,rfl,hR⟩
 ·rw[Q6,List.map_id];have o:=yG hl (bWQ w l x);have p:=yG i (.lst (S.map V.int));have M:=yG n (.lst ((S.filter Dm.opn).map V.int));refine q D _ (S.filter Dm.opn) (o.trans (p.trans M)) ?_ (j.sublist cXd) ?_ ?_ yB
  ·exact(xA.trans o p).fresh n
  ·intro d;rw[cQg,g.mem_iff,e]
  ·have:=cQe Dm.opn S;rw[g.length_eq]at this;omega
theorem bXT:yO ["place"] ["place"] (yH aYB):=scM
theorem bXj(T:vA mg)(F:Fun K "day_at" "day_at" aYB f fd):xD P w K mg base CX0 1 f fd ["place"] bQd:=by
 obtain⟨j,b⟩:=T.week;obtain⟨l,a⟩:=T.opens;have c:=bXT;refine F.ok (k:=0) c (λe A outer s H g Q E i h=>?_);obtain⟨d,rfl,q⟩:=h;refine⟨_,(yF (yP (yV x3 (yV aVp (yV Y4 (pv 0) (vX (v:= .int 5) rfl a ⟨_,rfl⟩)) (vX (v:= .int 7) rfl b ⟨_,rfl⟩)) (yV y3 (pv 0) (vX (v:= .int 5) rfl a ⟨_,rfl⟩))))),?_⟩;exact⟨_,rfl,_,_,rfl,rfl,⟨by decide,by decide⟩,_,_,rfl,rfl,.inr ⟨by decide,by decide⟩,_,rfl,_,_,rfl,rfl,(show(0:Int)<5 by decide),_,_,rfl,rfl,q⟩
theorem bWM:yO ["shut","date","term","place","closed"] ["shut","date","term"] (yH bKy):=scM
theorem bQI(d p:Int)(C:List Int)(i:Nat)(c:Int)(h:C[i]? =some c):Dm.aXo d p (C.take (i+1))=Dm.uG d (Dm.aXo d p (C.take i)) c:=by
 unfold Dm.aXo;rw[cQh,h];show(C.take i++ [c]).foldl _ p=_;rw[cJj];rfl
theorem bWv(T:vA mg)(b:FnG P w K mg base 2 "closed_days" ["shut"] (aVH K))(j:FnG P w K mg base 2 "place_of" ["date"] bQk)(g:FnG P w K mg base 2 "day_at" ["place"] bQd) (F:Fun K "due_day" "due_day" bKy f fd):xD P w K mg base CX0 3 f fd ["shut","date","term"] (bWU K):=by
 have L:=bWM;refine F.ok (k:=2) L (λO A outer s H W Q E p h=>?_);obtain⟨a,I,d,t,rfl,N,D,J,q⟩:=h;refine⟨_,(yC (yU (i:=3) (yV x3 (xK j p rfl (yA (pv 1) yD)) (pv 2))) (yC (zL bYY rfl (xN (xK b p rfl (yA (pv 0) yD))) (xB (i:=4)) (yF (y0 (bXE vC aYj (pv 1) (pv 4) (xK g p rfl (yA (pv 3) yD))) (yF (yU (i:=3) (yV x3 (pv 3) yE))) yS))) (yF (yP (xK g p rfl (yA (pv 3) yD)))))),?_⟩;refine⟨_,rfl,d,rfl,_,rfl,_,_,rfl,rfl,?_⟩;refine⟨_,rfl,a,I,rfl,N,D,λr R C G M S U hl n=>⟨r,rfl,⟨_,SqL.of n⟩,?_⟩⟩;refine zM (xs:=C.map V.int) (λi σ H=>∃cl,σ= [some (.ref a),some (.int d),some (.int t),some (.int (Dm.aXo d (Dm.place d+t) (C.take i))),cl]/\H=R) ?_ ?_ ?_ ?_
 ·exact⟨none,rfl,rfl⟩
 ·rintro i σ H X ⟨cl,rfl,rfl⟩;exact SqL.of n
 ·rintro i x σ H o ⟨cl,rfl,rfl⟩;rw[bYu]at o;cases y:C[i]? with
  |none=>rw[y]at o;cases o
  |some c=>
   rw[y]at o;cases o;have u:=bQI d (Dm.place d+t) C i c y;generalize Dm.aXo d (Dm.place d+t) (C.take i)=pl at u ⊢;dsimp only[yW];refine⟨_,rfl,_,rfl,_,_,rfl,rfl,_,rfl,?_⟩;refine qB (λB=>?_) (λB=>?_)
   ·have l:d<c:=of_decide_eq_true B;refine⟨_,rfl,pl,rfl,_,_,rfl,rfl,_,rfl,?_⟩;refine qB (λv=>?_) (λv=>?_)
    ·have m:c<=Dm.zI pl:=of_decide_eq_true v;refine⟨_,rfl,_,_,rfl,rfl,some (.int c),?_,rfl⟩;have e:Dm.uG d pl c=pl+1:=if_pos ⟨l,m⟩;rw[u,e];rfl
    ·have m:¬c<=Dm.zI pl:=of_decide_eq_false (Bool.eq_false_iff.mpr v);refine⟨some (.int c),?_,rfl⟩;have e:Dm.uG d pl c=pl:=if_neg λz=>m z.2;rw[u,e];rfl
   ·have l:¬d<c:=of_decide_eq_false (Bool.eq_false_iff.mpr B);refine⟨_,rfl,?_⟩;refine onF rfl ⟨some (.int c),?_,rfl⟩;have e:Dm.uG d pl c=pl:=if_neg λz=>l z.1;rw[u,e];rfl
 ·rintro σ H ⟨cl,rfl,rfl⟩;rw[bYe,cQb];exact⟨_,rfl,_,rfl,q _ _ G (Dm.bZB J S U)⟩
end
end Days
namespace Desk
open PySem L2 PyProof.Rows
open Bk (Row Rows)
structure PB(CB CL:Nat)(H:Hp)(ba la sa:Nat)(ls cs:List Nat)(R:Rows)(S:List Int):Prop where
 book:∃dx,H ba=some (.ins CB dx [("letters",.ref la),("shut",.ref sa)])
 lst:H la=some (.lst (ls.map V.ref))
 sht:H sa=some (.lst (S.map V.int))
 len:ls.length=R.length
 clen:cs.length=R.length
 nd:ls.Nodup
 cnd:cs.Nodup
 las:la≠sa
 lac:la∉cs
 sac:sa∉cs
 row:∀ (i:Nat)(b c:Nat)(r:Row),ls[i]? =some b->cs[i]? =some c->R[i]? =some r->aVX CL H b i r c/\H c=some (.lst (r.copies.map V.str))
theorem PB.get{g CL:Nat}{H:Hp}{l la sa:Nat}{ls cs:List Nat}{R:Rows}{S:List Int}(h:PB g CL H l la sa ls cs R S){i:Nat}{r:Row}(d:R[i]? =some r): ∃b c,(ls.map V.ref)[i]? =some (.ref b)/\ls[i]? =some b/\cs[i]? =some c/\aVX CL H b i r c/\H c=some (.lst (r.copies.map V.str)):=by
 have f:i<R.length:=Bk.wB d;have a:=bK9 (show i<ls.length by rw[h.len];exact f);have e:=bK9 (show i<cs.length by rw[h.clen];exact f);obtain⟨j,k⟩:=h.row i _ _ r a e d;exact⟨_,_,by rw[bYu,a];rfl,a,e,j,k⟩
theorem PB.sameT{a CL:Nat}{H d:Hp}{f la sa:Nat}{ls cs:List Nat}{R:Rows}{S:List Int}(h:PB a CL H f la sa ls cs R S)(k:x0 H d):PB a CL d f la sa ls cs R S:=
 ⟨let ⟨dx,e⟩:=h.book;⟨dx,k _ _ (λ_ z=>nomatch z) e⟩,k.lst h.lst,k.lst h.sht,h.len,h.clen,h.nd,h.cnd,h.las,h.lac,h.sac,λi b c r g j l=>
  let ⟨⟨dx,e1⟩,e2⟩:=h.row i b c r g j l;⟨⟨dx,k _ _ (λ_ z=>nomatch z) e1⟩,k.lst e2⟩⟩
theorem PB.same{b CL:Nat}{H c:Hp}{a la sa:Nat}{ls cs:List Nat}{R:Rows}{S:List Int}(h:PB b CL H a la sa ls cs R S)(k:xA H c):PB b CL c a la sa ls cs R S:=h.sameT k.t
def aKe(T:Nat)(H a:Hp):Prop:=x0 H a/\(Thr.z6 T H->Thr.z6 T a)
theorem aKe.of{T:Nat}{H a:Hp}(k:xA H a):aKe T H a:=⟨k.t,λt=>by
 rcases t with t|⟨b,d,c⟩
 ·exact .inl (k _ _ t)
 ·exact .inr ⟨b,k _ _ d,k _ _ c⟩⟩
theorem aKe.trans{T:Nat}{H d c:Hp}(a:aKe T H d)(b:aKe T d c):aKe T H c:=⟨a.1.trans b.1,λt=>b.2 (a.2 t)⟩
def xG(K:bYc)(Rf:Nat×Nat)(H:Hp)(E:XK)(t:Str):Prop:=∀ (C b:Nat)(a:Hp),vU K C->cZn K C (.ref Rf.1)=some true->aKe Rf.2 H a->a b=some (.xd [("words",.str t)])->E (.ref C) (some b) a
theorem xG.go{K:bYc}{Rf:Nat×Nat}{H:Hp}{E:XK}{t:Str}(h:xG K Rf H E t){b:Hp}(k:aKe Rf.2 H b):xG K Rf b E t:=λC f a c m d e=>h C f a c m (k.trans d) e
theorem xG.raise{P:bYx}{w:bYD}{K:bYc}{mg:Str->Option bYa}{base:Heap}{k:Nat}{x:Str}{Rf:Nat×Nat}{C:Nat}{H:Hp}{E:XK}{t:Str}(h:xG K Rf H E t)(G:ExG P w K mg base k x Rf.1 C t){D:aKc}{σ:L2.St}:bZV C t E D σ H:=
 λb a=>h C b _ G.cl G.sub (aKe.of (yG a _)) yB
def bQa(K:bYc)(Rf:Nat×Nat)(e CL:Nat):Sp:=λd H Q E=>∃ (c h f:Nat)(a g:List Nat)(R:Rows)(S:List Int)(m:Int),d= [.ref c,.int m]/\PB e CL H c h f a g R S/\
 (∀ (k:Nat)(r:Row)(b:Nat),m=(k:Int)->R[k]? =some r->r.void=false->a[k]? =some b->Q (.ref b) H)/\(Bk.z9 R m=false->xG K Rf H E "no letter")
def aJ4(f CL:Nat):Sp:=λd H Q _=>∃ (c g h:Nat)(a e:List Nat)(R:Rows)(S:List Int)(i:Nat)(b:Nat),d= [.ref c,.ref b]/\PB f CL H c g h a e R S/\a[i]? =some b/\R.length<=100/\
 ∀l,H l=none->Q (.ref l) (upd H l (.lst ((Bk.z7 R i).map λk=>(a.map V.ref).getD k .non)))
def aVI(K:bYc)(Rf:Nat×Nat)(c CL:Nat):Sp:=λb H Q E=>∃ (a g d:Nat)(e f:List Nat)(R:Rows)(S:List Int)(m:Int),b= [.ref a,.int m]/\PB c CL H a g d e f R S/\
 (∀ (k:Nat)(r:Row)(l:Nat),m=(k:Int)->R[k]? =some r->r.void=false->H l=none->Q (.ref l) (upd H l (.lst (r.copies.map V.str))))/\(Bk.z9 R m=false->xG K Rf H E "no letter")
def aZV(K:bYc)(Rf:Nat×Nat)(c CL:Nat):Sp:=λb H Q E=>∃ (a g d:Nat)(e f:List Nat)(R:Rows)(S:List Int)(m:Int),b= [.ref a,.int m]/\PB c CL H a g d e f R S/\
 (∀ (k:Nat)(r:Row)(l:Nat),m=(k:Int)->R[k]? =some r->r.void=false->H l=none->Q (.ref l) (upd H l (.tup (stV r))))/\(Bk.z9 R m=false->xG K Rf H E "no letter")
section
variable {K:bYc}
abbrev aQw:Stmt:=xF "Book" "letter_at"
abbrev aVz:Stmt:=xF "Book" "answers_to"
abbrev aQv:Stmt:=xF "Book" "copies_of"
abbrev aXK:Stmt:=xF "Book" "state_of"
theorem bKA:yO ["self","number"] ["self","number"] (yH aQw):=scM
theorem bQP{R:Rows}{m:Int}(h:m<0):Bk.z9 R m=false:=by
 unfold Bk.z9;rw[decide_eq_false (by omega),Bool.false_and]
theorem bQO{R:Rows}{m:Int}(h:(R.length:Int)<=m):Bk.z9 R m=false:=by
 unfold Bk.z9;rw[bYL (by omega)];simp
theorem aZg{R:Rows}{k:Nat}{r:Row}(h:R[k]? =some r):Bk.z9 R (k:Int)= !r.void:=by
 unfold Bk.z9;rw[bYH,h];simp
theorem bKs(T:vA mg)(cl:Cl K CB CL)(a:ExG P w K mg base n "NoLetter" Rf.1 C1 "no letter")(F:Fun K "letter_at" "Book.letter_at" aQw f fd):xD P w K mg base (CXR P w) (n+2) f fd ["self","number"] (bQa K Rf CB CL):=by
 have v:=bKA;refine F.okX (k:=n+1) v (λD A outer s H G Q E x h=>?_);obtain⟨o,r,I,y,N,R,S,m,rfl,e,q,i⟩:=h;refine⟨_,(yC (y0 (PW.pt (vD (yM vC (pv 1) yE) (vD (yM bWy (pv 1) (yT yN rfl T.b_len y9 (yA (yZ (pv 0) rfl) yD))) (wM (xP (yZ (yL yI (yZ (pv 0) rfl) (pv 1)) rfl)))))) (yF (zU a x rfl)) yS) (yF (yP (yL yI (yZ (pv 0) rfl) (pv 1))))),?_⟩;obtain⟨g,j⟩:=e.book;have hl:(y.map V.ref).length=R.length:=by rw[bYe];exact e.len
 refine⟨_,rfl,_,_,rfl,rfl,_,rfl,?_⟩;refine qB (λc=>?_) (λc=>?_)
 ·exact onT rfl ((i (bQP (of_decide_eq_true c))).raise a)
 ·have O:¬m<0:=of_decide_eq_false (Bool.eq_false_iff.mpr c);refine⟨_,rfl,_,rfl,o,CB,g,_,_,rfl,j,cl.b,cl.letters,rfl,r,_,rfl,.inl (SqL.of e.lst),_,_,rfl,rfl,_,rfl,?_⟩;rw[hl];refine qB (λc=>?_) (λc=>?_)
  ·exact onT rfl ((i (bQO (of_decide_eq_true c))).raise a)
  ·have U:¬m≥(R.length:Nat):=of_decide_eq_false (Bool.eq_false_iff.mpr c);obtain⟨k,rfl⟩:∃k:Nat,m=(k:Int):=⟨m.toNat,by omega⟩;have B:k<R.length:=by omega
   have d:=bK9 B;obtain⟨b,J,t,C,L,⟨p,z⟩,M⟩:=e.get d;refine⟨_,rfl,o,CB,g,_,_,rfl,j,cl.b,cl.letters,rfl,_,rfl,r,_,_,_,rfl,rfl,SqL.of e.lst,yR t,b,CL,p,_,_,rfl,z,cl.l,cl.void,rfl,_,rfl,?_⟩;cases u:R[k].void with
   |true=>exact onT rfl ((i (by rw[aZg d,u];rfl)).raise a)
   |false=>exact onF rfl ⟨_,rfl,o,CB,g,_,_,rfl,j,cl.b,cl.letters,rfl,_,rfl,r,_,_,_,rfl,rfl,SqL.of e.lst,yR t,q k _ b rfl d u C⟩
theorem aWj{K:bYc}{a:Nat}{xs:List V}{n:List Nat}{l:TT}{q:TE}{σ:L2.St}{D:Nat}{Q:VK}{H:Hp}(p:Nat->Bool)(f:Nat->V)(hl:SqL K H a xs)(s:H D=none)(hz:xs.length<=bYB) (z:∀i v,xs[i]? =some v->∀ (c:Hp)(R:Bool->Hp->Prop),(∀b,b≠D->c b=H b)->R (p i) c->l (sub σ n (some v)) c R) (u:∀i v,xs[i]? =some v->p i=true->∀ (c:Hp)(R:VK),(∀b,b≠D->c b=H b)->R (f i) c->q (sub σ n (some v)) c R) (B:Q (.ref D) (upd H D (.lst (((bYn xs.length).filter p).map f)))):bJd (Itl K a) n l q σ D Q (upd H D (.lst [])):=by
 have e:∀g,SqL K (upd H D (.lst g)) a xs:=λg=>by
  rcases hl with(h|⟨o,h⟩)|h
  ·exact .inl (.inl (by rw[yJ (yK h s)];exact h))
  ·exact .inl (.inr ⟨o,by rw[yJ (yK h s)];exact h⟩)
  ·exact .inr h
 refine⟨λi m g c=>m=xs.length - i/\i<=xs.length/\g=((bYn i).filter p).map f/\c=upd H D (.lst g),⟨xs.length,by simp,bY7 _,by simp,rfl⟩,?_⟩;rintro i m g c ⟨rfl,F,rfl,rfl⟩;refine⟨yB,?_⟩;by_cases d:i<xs.length
 ·refine .inr ⟨⟨xs,xs[i],e _,bK9 d⟩,λv C x=>?_⟩;obtain⟨rfl,y⟩:=x;have t:xs[i]? =some v:=y xs (e _);have k:∀b,b≠D->upd H D (.lst (((bYn i).filter p).map f)) b=H b:=λb A=>yJ A;have j:(((bYn i).filter p).map f).length<bYB:=by
   rw[bYe];have w:=cQe p (bYn i);rw[bYW]at w;omega
  refine z i v t _ _ k ?_;cases r:p i with
  |false=>show ∃E,_;refine⟨xs.length - (i+1),by omega,rfl,d,?_,rfl⟩;rw[cXl,cQl,cQP (by rw[r];decide)];simp
  |true=>show q _ _ _;refine u i v t r _ _ k ⟨j,yB,xs.length - (i+1),by omega,rfl,d,?_,by rw[uO]⟩;rw[cXl,cQl,cQQ r];simp
 ·obtain rfl:i=xs.length:=by omega
  exact .inl ⟨⟨xs,e _,bYh _⟩,B⟩
theorem bXP:yO ["self","letter"] ["self","letter"] (yH aVz):=scM
theorem bQZ:xJ ["self","letter"] (yH aVz) "other" ["letter"] [1] {kind:= .function,names:= [(".0",.local),("other",.local),("letter",.free)],isGenerator:=false,isCoroutine:=false,more:= [] }:=
 lcM
theorem bXf(cl:Cl K CB CL)(a:MG P w K mg base CX0 n CL "is_answered_by" ["self","other"] (aY9 CL))(F:Fun K "answers_to" "Book.answers_to" aVz f fd):xD P w K mg base CX0 (n+1) f fd ["self","letter"] (aJ4 CB CL):=by
 have C:=bXP;refine F.ok (k:=n) C (λL A outer s H Y Q E G h=>?_);obtain⟨U,W,Z,r,cs,R,S,i,b,rfl,d,z,hR,q⟩:=h;refine⟨_,(yF (yP (W3 bQZ rfl (xN (yZ (pv 0) rfl)) (λ_ _ _ _ _=>(wU (xP (vR a G vQ (pv 1) (yA (pv 0) yD))))) (λ_ _ _ _ _=>(pv 0))))),?_⟩;obtain⟨I,O⟩:=d.book;have hl:(r.map V.ref).length=R.length:=by rw[bYe];exact d.len
 have u:i<R.length:=by rw[<- d.len];exact(bYl.mp z).1
 obtain⟨X,cc,g1,J,g3,⟨g,m⟩,g5⟩:=d.get (bK9 u);obtain rfl:b=X:=bYw (z.symm.trans J);refine⟨_,rfl,U,CB,I,_,_,rfl,O,cl.b,cl.letters,rfl,W,rfl,⟨_,SqL.of d.lst⟩,λD l=>?_⟩;refine aWj (λk=>decide (Bk.lk R k=some i)) (λk=>(r.map V.ref).getD k .non) (SqL.of d.lst) l (zn (by omega)) (λj v o N M p c=>?_) (λj v o _ N M p c=>?_) ?_
 ·have T:j<R.length:=by rw[<- hl];exact(bYl.mp o).1
  have e:=bK9 T;obtain⟨x,c2,B,k2,k3,⟨t,y⟩,k5⟩:=d.get e;obtain rfl:v= .ref x:=bYw (o.symm.trans B);rw[Bk.vP e]at c;exact⟨_,rfl,b,g,_,rfl,(p _ (yK m l)).trans m,rfl,_,rfl,b,x,i,j,_,_,_,_,rfl,⟨g,(p _ (yK m l)).trans m⟩,⟨t,(p _ (yK y l)).trans y⟩,_,rfl,c⟩
 ·have:(r.map V.ref).getD j .non=v:=by simp only[bYX,o];rfl
  rw[this]at c;exact⟨_,rfl,c⟩
 ·rw[hl];exact q D l
theorem aJV:yO ["self","number"] ["self","number"] (yH aQv):=scM
theorem aJt(T:vA mg)(cl:Cl K CB CL)(a:MG P w K mg base (CXR P w) n CB "letter_at" ["self","number"] (bQa K Rf CB CL))(F:Fun K "copies_of" "Book.copies_of" aQv f fd):xD P w K mg base (CXR P w) (n+1) f fd ["self","number"] (aVI K Rf CB CL):=by
 have j:=aJV;refine F.okX (k:=n) j (λC A outer s H N Q E o h=>?_);obtain⟨i,L,p,u,D,R,S,m,rfl,d,q,I⟩:=h;refine⟨_,(yF (yP (x4 uF rfl T.b_list wY (yA (yZ (vR a o zO (pv 0) (yA (pv 1) yD)) rfl) yD)))),?_⟩;obtain⟨t,J⟩:=d.book;refine⟨_,rfl,i,t,_,rfl,J,rfl,_,rfl,i,L,p,u,D,R,S,m,rfl,d,λk r b G g B c=>?_,I⟩;obtain⟨M,v,U,z,O,⟨e,x⟩,y⟩:=d.get g;obtain rfl:b=M:=bYw (c.symm.trans z);refine⟨b,CL,e,_,_,rfl,x,cl.l,cl.copies,rfl,?_⟩;exact⟨v,_,rfl,.inl (SqL.of y),λl hl=>q k r l G g B hl⟩
theorem aW1:yO ["self","number"] ["self","number"] (yH aXK):=scM
theorem aWG(cl:Cl K CB CL)(a:MG P w K mg base (CXR P w) n CB "letter_at" ["self","number"] (bQa K Rf CB CL))(c:MG P w K mg base CX0 n CL "state" ["self"] (aJ7 CL))(F:Fun K "state_of" "Book.state_of" aXK f fd): xD P w K mg base (CXR P w) (n+1) f fd ["self","number"] (aZV K Rf CB CL):=by
 have u:=aW1;refine F.okX (k:=n) u (λD A outer s H O Q E i h=>?_);obtain⟨o,M,v,y,G,R,S,m,rfl,g,q,J⟩:=h;refine⟨_,(yF (yP (bXB c i vQ (vR a i zO (pv 0) (yA (pv 1) yD))))),?_⟩;obtain⟨x,L⟩:=g.book;refine⟨_,rfl,o,x,_,rfl,L,rfl,_,rfl,o,M,v,y,G,R,S,m,rfl,g,λk r b I l C e=>?_,J⟩;obtain⟨N,z,V,B,T,⟨d,j⟩,U⟩:=g.get l;obtain rfl:b=N:=bYw (e.symm.trans B);exact⟨b,d,_,rfl,j,rfl,b,k,r,z,rfl,⟨d,j⟩,λt p=>q k r t I l C p⟩
end
end Desk
namespace Desk
open PySem L2 PyProof.Rows
open Bk (Row Rows)
open Law (aKd jI qQ bQx aXc aQR)
def X7(R:Rows)(w:Str):List Nat:=(bYn R.length).filter λk=>match R[k]? with|some r=> !r.void && decide (r.place=w)|none=>false
def aQL(e CL:Nat):Sp:=λb H Q _=>∃ (a f g:Nat)(c d:List Nat)(R:Rows)(S:List Int)(w:Str),b= [.ref a,.str w]/\PB e CL H a f g c d R S/\R.length<64/\
 ∀l,H l=none->Q (.ref l) (upd H l (.lst ((X7 R w).map λi=>V.int (i:Nat))))
def bZ9(R:Rows)(n:Nat)(d:Int)(a:List (Key×V)):Prop:=∀j:Nat,(Q0 a (Sum.inl (j:Int))).isSome=true↔∃k,k<n/\Bk.lk R k=some j/\Bk.dt R k<=d
def aXf(i CL:Nat):Sp:=λf H Q _=>∃ (e j k:Nat)(g h:List Nat)(R:Rows)(S:List Int)(d:Int),f= [.ref e,.int d]/\PB i CL H e j k g h R S/\R.length<64/\
 ∀ (a:Nat)(c:Hp)(b:List (Key×V)),xA H c->H a=none->c a=some (.dK b)->bZ9 R R.length d b->Q (.ref a) c
def aJ6(i CL:Nat):Sp:=λf H Q _=>∃ (b j k:Nat)(g h:List Nat)(R:Rows)(S:List Int)(d:Int),f= [.ref b,.int d]/\PB i CL H b j k g h R S/\R.length<64/\S.length<64/\
 ∀ (l:Nat)(a:Hp)(c:List Nat)(e:List V),xA H a->H l=none->a l=some (.lst e)->bY3 (aKd a (jI R S)) c e->Bk.bJb R S d false c->Q (.ref l) a
def bKb(g CL:Nat)(a:Bool):Sp:=λf H Q _=>∃ (e m h:Nat)(j k:List Nat)(R:Rows)(S:List Int)(d:Int),f= [.ref e,.int d]/\PB g CL H e m h j k R S/\R.length<64/\S.length<64/\
 ∀ (l:Nat)(b:Hp)(c:List Nat),xA H b->H l=none->b l=some (.lst (c.map λi=>V.int (i:Nat)))->Bk.bJb R S d a c->Q (.ref l) b
theorem aQq{X:Cx}{K:bYc}{e:Expr}{f:Str}{pos:Pos}{a:TE}(d:PE X e a)(b:cXY e f X.env (eval e X.env)=eval e X.env)(c:X.K=K:=by rfl):PE X (.Attribute e f pos) (bKM K a f):=c ▸ yZ d b
section
variable {K:bYc}
abbrev jA:Stmt:=xF "Book" "letters_in"
abbrev aQu:Stmt:=xF "Book" "answered_by"
abbrev aYI:Stmt:=xF "Book" "waiting_pairs"
abbrev J8:Stmt:=xF "Book" "waiting"
abbrev J7:Stmt:=xF "Book" "overdue"
theorem aZM:yO ["self","name"] ["self","name"] (yH jA):=scM
theorem aZq:xJ ["self","name"] (yH jA) "letter" ["name"] [1] {kind:= .function,names:= [(".0",.local),("letter",.local),("name",.free)],isGenerator:=false,isCoroutine:=false,more:= [] }:=
 lcM
theorem bJn{r:Row}{w:Str}:decide (qZ r=V.str w)=(!r.void && decide (r.place=w)):=by
 unfold qZ;cases r.void with
 |true=>rfl
 |false=>show decide (V.str r.place=V.str w)=(true && decide (r.place=w));rw[Bool.true_and,Bool.eq_iff_iff];simp
theorem aZz(cl:Cl K CB CL)(F:Fun K "letters_in" "Book.letters_in" jA f fd):xD P w K mg base CX0 (n+1) f fd ["self","name"] (aQL CB CL):=by
 have x:=aZM;refine F.ok (k:=n) x (λI A outer s H U Q E W h=>?_);obtain⟨O,T,X,z,Y,R,S,w,rfl,d,hR,q⟩:=h;refine⟨_,(yF (yP (W3 aZq rfl (xN (yZ (pv 0) rfl)) (λ_ _ _ _ _=>(wU (yM x8 (aQq (K:=K) (pv 0) rfl) (pv 1)))) (λ_ _ _ _ _=>(aQq (K:=K) (pv 0) rfl))))),?_⟩;obtain⟨y,N⟩:=d.book;have hl:(z.map V.ref).length=R.length:=by rw[bYe];exact d.len
 refine⟨_,rfl,O,CB,y,_,_,rfl,N,cl.b,cl.letters,rfl,T,rfl,⟨_,SqL.of d.lst⟩,λD o=>?_⟩;refine aWj (λk=>match R[k]? with|some r=> !r.void && decide (r.place=w)|none=>false) (λk=>V.int (k:Nat)) (SqL.of d.lst) o (zn (by omega)) (λj v m M L u a=>?_) (λj v m _ M L u a=>?_) ?_
 ·have t:j<R.length:=by rw[<- hl];exact(bYl.mp m).1
  have g:=bK9 t;obtain⟨e,J,p,C,G,⟨c,i⟩,B⟩:=d.get g;obtain rfl:v= .ref e:=bYw (m.symm.trans p);rw[g]at a;dsimp only at a;rw[<- bJn]at a;refine⟨_,rfl,e,CL,c,_,_,rfl,(u _ (yK i o)).trans i,cl.l,cl.file,rfl,_,rfl,?_,_,rfl,a⟩;unfold qZ;cases R[j].void<;> rfl
 ·have t:j<R.length:=by rw[<- hl];exact(bYl.mp m).1
  obtain⟨e,J,p,C,G,⟨c,i⟩,B⟩:=d.get (bK9 t);obtain rfl:v= .ref e:=bYw (m.symm.trans p);exact⟨_,rfl,e,CL,c,_,_,rfl,(u _ (yK i o)).trans i,cl.l,cl.number,rfl,a⟩
 ·rw[hl];exact q D o
theorem aJU:yO ["self","day","answered","letter"] ["self","day"] (yH aQu):=scM
theorem aX2{R:Rows}{t:Nat}{d:Int}{a:List (Key×V)}(h:bZ9 R t d a)(f:∀j,Bk.lk R t=some j->¬Bk.dt R t<=d):bZ9 R (t+1) d a:=λj=>by
 rw[h j];constructor
 ·rintro⟨k,g,b⟩;exact⟨k,by omega,b⟩
 ·rintro⟨k,g,b,c⟩;by_cases e:k=t
  ·subst e;exact absurd c (f j b)
  ·exact⟨k,by omega,b,c⟩
theorem bQz{R:Rows}{t:Nat}{d:Int}{a:List (Key×V)}(h:bZ9 R t d a){i:Nat}(hl:Bk.lk R t=some i)(f:Bk.dt R t<=d){v:V}:bZ9 R (t+1) d (aJF a (Sum.inl (i:Int)) v):=λj=>by
 rw[bZr];by_cases e:j=i
 ·subst e;rw[if_pos rfl];exact⟨λ_=>⟨t,by omega,hl,f⟩,λ_=>rfl⟩
 ·rw[if_neg (λz=>e (by have:=Sum.inl.inj z;omega)),h j];constructor
  ·rintro⟨k,l,b⟩;exact⟨k,by omega,b⟩
  ·rintro⟨k,l,b,g⟩;by_cases c:k=t
   ·subst c;rw[hl]at b;exact absurd (bYw b).symm e
   ·exact⟨k,by omega,b,g⟩
theorem aJs(cl:Cl K CB CL)(F:Fun K "answered_by" "Book.answered_by" aQu f fd):xD P w K mg base CX0 (n+1) f fd ["self","day"] (aXf CB CL):=by
 have X:=aJU;refine F.ok (k:=n) X (λa0 A outer s H vs Q E Y h=>?_);obtain⟨W,la,sa,T,cs,R,S,d,rfl,D,hR,q⟩:=h;refine⟨_,(yC (yU (i:=2) bXA) (yC (zL bYY rfl (xN (yZ (pv 0) rfl)) (xB (i:=3)) (yF (y0 (PW.pt (vJ (yM wC (yZ (pv 3) rfl) xY) (wP (yM aYj (yZ (pv 3) rfl) (pv 1))))) (yF (bJ5 (bWh Y) (pv 2) (yZ (pv 3) rfl) wO rfl)) yS))) (yF (yP (pv 2))))),?_⟩;obtain⟨Z,hb⟩:=D.book;have hl:(T.map V.ref).length=R.length:=by rw[bYe];exact D.len
 intro a J;dsimp only[yW];have G:=yG J (.dK []);refine⟨_,rfl,W,CB,Z,_,_,rfl,G _ _ hb,cl.b,cl.letters,rfl,la,rfl,⟨_,SqL.of (G _ _ D.lst)⟩,?_⟩;refine zM (xs:=T.map V.ref) (λt σ u=>∃ (e:List (Key×V))(o:Option V),σ= [some (.ref W),some (.int d),some (.ref a),o]/\xA H u/\u a=some (.dK e)/\e.length<=t/\bZ9 R t d e) ?_ ?_ ?_ ?_
 ·exact⟨[],none,rfl,G,yB,bY7 _,λj=>⟨λz=>(by cases z),λ⟨k,z,_⟩=>absurd z (cQX _)⟩⟩
 ·rintro t σ u N ⟨e,o,rfl,g,y,M,r⟩;exact SqL.of (g _ _ D.lst)
 ·rintro t x σ u U ⟨e,o,rfl,g,y,M,r⟩;have N:t<R.length:=by rw[<- hl];exact(bYl.mp U).1
  have v:=bK9 N;obtain⟨b,c,g1,g2,g3,⟨p,I⟩,g5⟩:=(D.same g).get v;obtain rfl:x= .ref b:=bYw (U.symm.trans g1);dsimp only[yW];refine⟨_,rfl,b,CL,p,_,_,rfl,I,cl.l,cl.link,rfl,rfl,_,rfl,?_⟩;have C:=Bk.vP v;have B:=Bk.vB v;cases m:R[t].link with
  |none=>exact onF rfl (onF rfl ⟨e,_,rfl,g,y,by omega,aX2 r λj L=>by rw[C,m]at L;cases L⟩)
  |some i=>
   refine onT rfl ⟨_,rfl,b,CL,p,_,_,rfl,I,cl.l,cl.day,rfl,_,rfl,_,_,rfl,rfl,_,rfl,?_⟩;cases O:decide (R[t].date<=d)with
   |false=>exact onF rfl ⟨e,_,rfl,g,y,by omega,aX2 r λj L=>by rw[B];exact of_decide_eq_false O⟩
   |true=>refine onT rfl ⟨_,rfl,_,rfl,b,CL,p,_,_,rfl,I,cl.l,cl.link,rfl,a,upd u a (.dK (aJF e (Sum.inl (i:Int)) (.bl true))),rfl,?_⟩;rw[m];refine⟨bVY.k (k:=Sum.inl (i:Int)) y (by rw[bYJ];omega),_,_,rfl,?_,yB,bYQ (jQ _ _ _) (by omega),bQz r (by rw[C,m]) (by rw[B];exact of_decide_eq_true O)⟩;exact aQR g J
 ·rintro σ u ⟨e,o,rfl,g,y,M,r⟩;rw[hl]at r;exact⟨_,rfl,q a u e g J y r⟩
theorem bZs{R:Rows}{i:Nat}{r:Row}{d:Int}{a:List (Key×V)}(l:R[i]? =some r)(j:bZ9 R R.length d a): Bk.W5 R i d=(decide (W4 r > 0) && (decide (r.date<=d) && !(Q0 a (Sum.inl (i:Int))).isSome)):=by
 have g:((Bk.z7 R i).all λk=>decide (d<Bk.dt R k))= !(Q0 a (Sum.inl (i:Int))).isSome:=by
  rw[Bool.eq_iff_iff,cZh,Bool.not_eq_true',Bool.eq_false_iff,ne_eq,j i];constructor
  ·rintro h ⟨k,c,f,m⟩;have:=of_decide_eq_true (h k (cQg.mpr ⟨bYI.mpr c,decide_eq_true f⟩));omega
  ·intro h k b;obtain⟨c,f⟩:=cQg.mp b;refine decide_eq_true ?_;by_cases z:Bk.dt R k<=d
   ·exact absurd ⟨k,bYI.mp c,of_decide_eq_true f,z⟩ h
   ·omega
 unfold Bk.W5;rw[l];dsimp only;rw[g];unfold W4;cases r.void with
 |true=>rfl
 |false=>
  rw[if_neg (by decide)];have e:decide (1<=r.term)=decide (r.term > 0):=by rw[Bool.eq_iff_iff];simp;omega
  rw[e];simp[Bool.and_assoc]
theorem bX0:yO ["self","day","answered","pairs","letter"] ["self","day"] (yH aYI):=scM
theorem bXq(T:vA mg)(cl:Cl K CB CL)(j:MG P w K mg base CX0 n CB "answered_by" ["self","day"] (aXf CB CL))(r:FnG P w K mg base n "due_day" ["shut","date","term"] (Days.bWU K)) (F:Fun K "waiting_pairs" "Book.waiting_pairs" aYI f fd):xD P w K mg base CX0 (n+1) f fd ["self","day"] (aJ6 CB CL):=by
 have sc:=bX0;refine F.ok (k:=n) sc (λc2 A outer s H vs Q E hr h=>?_);obtain⟨X,la,sa,ls,cs,R,S,d,rfl,hB,hR,hS,q⟩:=h;refine⟨_,(yC (yU (i:=2) (vR j hr vQ (pv 0) (yA (pv 1) yD))) (yC (yU (i:=3) (y6 yD)) (yC (zL bYY rfl (xN (yZ (pv 0) rfl)) (xB (i:=4)) (yF (y0 (PW.pt (vJ (yM aQl (yZ (pv 4) rfl) yE) (vJ (yM aYj (yZ (pv 4) rfl) (pv 1)) (wP (bWF (aYm (bWh hr) (yZ (pv 4) rfl) (pv 2))))))) (yF (yY (uC bYM bYR bYS xL (pv 3) (yA (xI (yA (xK r hr rfl (yA (yZ (pv 0) rfl) (yA (yZ (pv 4) rfl) (yA (yZ (pv 4) rfl) yD)))) (yA (yZ (pv 4) rfl) yD))) yD)))) yS))) (yF (yP (yT v7 rfl T.b_sorted wZ (yA (pv 3) yD))))))),?_⟩;obtain⟨dx,hb⟩:=hB.book;have hl:(ls.map V.ref).length=R.length:=by rw[bYe];exact hB.len
 refine⟨_,rfl,X,dx,_,rfl,hb,rfl,_,rfl,X,la,sa,ls,cs,R,S,d,rfl,hB,hR,λa H0 b0 k0 c3 a1 hA=>?_⟩;dsimp only[yW];refine⟨z0,λI J=>?_⟩;dsimp only[yW];have k1:xA H (upd H0 I (.lst [])):=k0.trans (yG J _);have c0:H I=none:=k0.fresh J;refine⟨_,rfl,X,CB,dx,_,_,rfl,k1 _ _ hb,cl.b,cl.letters,rfl,la,rfl,⟨_,SqL.of (k1 _ _ hB.lst)⟩,?_⟩;have c1:a≠I:=yK a1 J;refine zM (xs:=ls.map V.ref) (λt σ G=>∃ (g:List V)(o:Option V),σ= [some (.ref X),some (.int d),some (.ref a),some (.ref I),o]/\xA H0 G/\G I=some (.lst g)/\
  bY3 (aKd G (jI R S)) ((bYn t).filter (qQ R S d false)) g) ?_ ?_ ?_ ?_
 ·exact⟨[],none,rfl,yG J _,yB,.nil⟩
 ·rintro t σ G ht ⟨g,o,rfl,O,L,M⟩;exact SqL.of (O _ _ (k0 _ _ hB.lst))
 ·rintro t x σ G hx ⟨g,o,rfl,O,L,M⟩;have ht:t<R.length:=by rw[<- hl];exact(bYl.mp hx).1
  have N:=bK9 ht;have W:=(hB.same k0).same O;obtain⟨b8,b3⟩:=W.book;obtain⟨b,c,g1,g2,g3,⟨v,Y⟩,g5⟩:=W.get N;obtain rfl:x= .ref b:=bYw (hx.symm.trans g1);rw[cXl,cQl];dsimp only[yW];have hw:=bZs N hA;have u:qQ R S d false t=Bk.W5 R t d:=by unfold qQ;simp
  have stay:∀o',qQ R S d false t=false->∃ (g:List V)(p:Option V),[some (V.ref X),some (V.int d),some (V.ref a),some (V.ref I),o']= [some (.ref X),some (.int d),some (.ref a),some (.ref I),p]/\xA H0 G/\G I=some (.lst g)/\
    bY3 (aKd G (jI R S)) ((bYn t).filter (qQ R S d false)++ [t].filter (qQ R S d false)) g:=λo' e=>by
   have e3: [t].filter (qQ R S d false)= []:=by simp[e]
   rw[e3,cQf]
   exact⟨g,o',rfl,O,L,M⟩
  refine⟨_,rfl,b,CL,v,_,_,rfl,Y,cl.l,cl.term,rfl,_,_,rfl,rfl,_,rfl,?_⟩;cases h1:decide (W4 R[t] > 0)with
  |false=>exact onF rfl (onF rfl (stay _ (by rw[u,hw,h1];rfl)))
  |true=>
   refine onT rfl ⟨_,rfl,b,CL,v,_,_,rfl,Y,cl.l,cl.day,rfl,_,rfl,_,_,rfl,rfl,_,rfl,?_⟩;cases h2:decide (R[t].date<=d)with
   |false=>exact onF rfl (onF rfl (stay _ (by rw[u,hw,h1,h2];rfl)))
   |true=>
    refine onT rfl ⟨_,rfl,b,CL,v,_,_,rfl,Y,cl.l,cl.number,rfl,_,rfl,a,_,rfl,bVX.k (k:=Sum.inl (t:Int)) (O _ _ a1),_,rfl,?_⟩;cases h3:(Q0 b0 (Sum.inl (t:Int))).isSome with
    |true=>exact onF rfl (stay _ (by rw[u,hw,h1,h2,h3];rfl))
    |false=>
     have a0:Bk.W5 R t d=true:=by rw[hw,h1,h2,h3];rfl
     have b4:=Law.aXk ht a0;have hv:R[t].void=false:=by
      cases hv:R[t].void with
      |false=>rfl
      |true=>have:=of_decide_eq_true h1;unfold W4 at this;rw[hv]at this;simp at this
     have a8:W4 R[t]=R[t].term:=by unfold W4;rw[hv];rfl
     refine onT rfl ⟨_,rfl,.inl ⟨rfl,_,SqL.of L⟩,_,rfl,X,CB,b8,_,_,rfl,b3,cl.b,cl.shut,rfl,_,rfl,b,CL,v,_,_,rfl,Y,cl.l,cl.day,rfl,_,rfl,b,CL,v,_,_,rfl,Y,cl.l,cl.term,rfl,?_⟩;refine⟨sa,S,_,_,rfl,SqL.of W.sht,hS,by rw[a8];exact b4,λH2 D U hD=>?_⟩;have eD:D=jI R S t:=by unfold jI;rw[N,Bk.vB N];rw[a8]at hD;exact(Bk.bZA hD).symm
     subst eD;refine⟨_,rfl,b,CL,v,_,_,rfl,U _ _ Y,cl.l,cl.number,rfl,z2,λZ b9=>?_⟩;have b7:=U _ _ L;have k5:=yG b9 (.tup [V.int (jI R S t),V.int (t:Nat)]);have a2:=k5 _ _ b7;have il:g.length<=t:=by rw[<- M.length];exact bYQ (cQe _ _) (by simp)
     have t6:∀a xs,upd H2 Z (.tup [V.int (jI R S t),V.int (t:Nat)]) a=some (.tup xs)->upd (upd H2 Z (.tup [V.int (jI R S t),V.int (t:Nat)])) I (.lst (g++ [V.ref Z])) a=some (.tup xs):=λa xs e=>by rw[yJ (aQY e a2 (by intro z;cases z))];exact e
     have e3: [t].filter (qQ R S d false)= [t]:=by simp[u,a0]
     refine⟨I,g,.ref Z,rfl,rfl,a2,zlt (by omega),g++ [.ref Z],_,rfl,aQR (O.trans (U.trans k5)) J,yB,?_⟩;rw[e3];exact aXc ⟨Z,rfl,t6 _ _ yB⟩ (Paired.mapP M λ_ _ z=>z.tk λa xs e=>t6 _ _ (k5 _ _ (U _ _ e)))
 ·rintro σ G ⟨g,o,rfl,O,L,M⟩;rw[hl]at M;generalize B:(bYn R.length).filter (qQ R S d false)=fam at M;have a7:fam.length=g.length:=M.length;have fn:fam.length<=R.length:=by rw[<- B];exact bYQ (cQe _ _) (by simp)
  have a5:∀k,k∈fam↔k<R.length/\qQ R S d false k=true:=λk=>by rw[<- B,cQg,bYI]
  have b6:fam.Nodup:=by rw[<- B];exact cZi.sublist cXd
  refine⟨_,rfl,I,g,λm=>(jI R S (fam.getD m 0),((fam.getD m 0:Nat):Int)),rfl,L,by omega,λa b ha hb e=>?_,λm x hx=>?_,λl y a6 a9 b5=>?_⟩
  ·have e2:fam.getD a 0=fam.getD b 0:=by have:=congrArg Prod.snd e;simp only at this;omega
   have a4:a<fam.length:=by omega
   have a3:b<fam.length:=by omega
   simp[bYX,bK9 a4,bK9 a3]at e2;exact(cQ0 (h₀:=a4) (h₁:=a3) b6).mp e2
  ·obtain⟨k,hk,p,L,e2⟩:=bQx M hx;have:fam.getD m 0=k:=by simp[bYX,hk]
   show ∃a,x=V.ref a/\G a=some (.tup [V.int (jI R S (fam.getD m 0)),V.int ((fam.getD m 0:Nat):Int)]);rw[this];exact⟨p,L,e2⟩
  ·have hm:∀m∈y,m<g.length:=λm hm=>bYI.mp (a9.mem_iff.mp hm);have U:=yG a6 (.lst (y.map λi=>g.getD i .non));refine q l _ (y.map λm=>fam.getD m 0) _ (k0.trans (O.trans U)) ((k0.trans O).fresh a6) yB ?_ ⟨λk=>?_,?_⟩
   ·have go:∀o:List Nat,(∀m∈o,m<g.length)->bY3 (aKd (upd G l (.lst (y.map λi=>g.getD i .non))) (jI R S)) (o.map λm=>fam.getD m 0) (o.map λi=>g.getD i .non):=by
     intro o;induction o with
     |nil=>intro _;exact .nil
     |cons m o ih=>
      intro h;refine .cons ?_ (ih λx hx=>h x (bYm _ hx));have C:=h m bYp;have hg:g[m]? =some (g.getD m .non):=by simp[bYX,bK9 C]
      obtain⟨k,hk,p,L,e2⟩:=bQx M hg;have:fam.getD m 0=k:=by simp[bYX,hk]
      show aKd _ _ (fam.getD m 0) (g.getD m .non);rw[this];exact⟨p,L,U _ _ e2⟩
    exact go y hm
   ·have b1:k∈y.map (λm=>fam.getD m 0)↔k∈fam:=by
     constructor
     ·intro h;obtain⟨m,b2,rfl⟩:=cQa.mp h;have C:m<fam.length:=by rw[a7];exact hm m b2
      simp[bYX,bK9 C]
     ·intro h;obtain⟨m,C,e⟩:=bY1 h;refine cQa.mpr ⟨m,a9.mem_iff.mpr (bYI.mpr (by omega)),?_⟩;simp[bYX,bK9 C,e]
    rw[b1,a5 k];unfold qQ;simp
   ·rw[cZC];exact b5
theorem bJ2{α β:Type}{F:α->β->Prop}:∀ {l:List α} {m:List β} {i:Nat} {y:β},bY3 F l m->m[i]? =some y->∃x,l[i]? =some x/\F x y:=λh e=>bQx h e
theorem aZk{α:Type}(a:List Nat)(g:Nat->Bool)(h:Nat->α):((bYn a.length).filter λm=>g (a.getD m 0)).map (λm=>h (a.getD m 0))=(a.filter g).map h:=by
 have e:(bYn a.length).map (λm=>a.getD m 0)=a:=by
  apply cXq;intro i;rw[bYu];by_cases b:i<a.length
  ·rw[cQU b];simp[bK9 b]
  ·rw[bYL (by simpa using b),bYL (by omega)];rfl
 conv=>rhs;rw[<- e,List.filter_map,cXy]
 rfl
theorem aW2:yO ["self","day"] ["self","day"] (yH J8):=scM
theorem aWl:xJ ["self","day"] (yH J8) "pair" [] [] {kind:= .function,names:= [(".0",.local),("pair",.local)],isGenerator:=false,isCoroutine:=false,more:= [] }:=
 lcM
theorem aWH(cl:Cl K CB CL)(a:MG P w K mg base CX0 n CB "waiting_pairs" ["self","day"] (aJ6 CB CL))(F:Fun K "waiting" "Book.waiting" J8 f fd):xD P w K mg base CX0 (n+1) f fd ["self","day"] (bKb CB CL false):=by
 have N:=aW2;refine F.ok (k:=n) N (λa0 A outer s H vs Q E T h=>?_);obtain⟨J,la,U,X,cs,R,S,d,rfl,I,hR,hS,q⟩:=h;refine⟨_,(yF (yP (W3 aWl rfl (xN (vR a T vQ (pv 0) (yA (pv 1) yD))) (λ_ _ _ _ _=>zT) (λ_ _ _ _ _=>(yL (show IxR _ (bZT K)from yX) (pv 0) yE))))),?_⟩;obtain⟨W,hb⟩:=I.book;refine⟨_,rfl,J,W,_,rfl,hb,rfl,_,rfl,J,la,U,X,cs,R,S,d,rfl,I,hR,hS,λl H1 g O u a1 o G c=>?_⟩;have r:g.length=O.length:=G.length;have Z:g.length<=R.length:=Fm.wK (c.ord.imp λ{x y} e z=>by rw[z,Stree.vH]at e;cases e) λx hx=>((c.mem x).mp hx).1;refine⟨l,rfl,⟨_,SqL.of o⟩,λD t=>?_⟩;refine aWj (λ_=>true) (λm=>V.int (g.getD m 0:Nat)) (SqL.of o) t (zn (by omega)) (λj v C H' R' L b=>b) (λj v C _ H' R' L b=>?_) ?_
 ·obtain⟨k,Y,p,M,B⟩:=bQx G C;subst M;have:g.getD j 0=k:=by simp[bYX,Y]
  rw[this]at b;exact⟨_,rfl,p,_,1,_,rfl,rfl,SqT.of ((L p (yK B t)).trans B),rfl,b⟩
 ·have e:=aZk g (λ_=>true) λi=>V.int (i:Nat);rw[r]at e;rw[e,cXV.mpr λ_ _=>rfl];exact q D _ g (u.trans (yG t _)) (u.fresh t) yB c
theorem aWY:yO ["self","day"] ["self","day"] (yH J7):=scM
theorem aWk:xJ ["self","day"] (yH J7) "pair" ["day"] [1] {kind:= .function,names:= [(".0",.local),("pair",.local),("day",.free)],isGenerator:=false,isCoroutine:=false,more:= [] }:=
 lcM
theorem aWD(cl:Cl K CB CL)(g:MG P w K mg base CX0 n CB "waiting_pairs" ["self","day"] (aJ6 CB CL))(F:Fun K "overdue" "Book.overdue" J7 f fd):xD P w K mg base CX0 (n+1) f fd ["self","day"] (bKb CB CL true):=by
 have W:=aWY;refine F.ok (k:=n) W (λa1 A outer s H vs Q E Y h=>?_);obtain⟨U,la,Z,ls,cs,R,S,d,rfl,T,hR,hS,q⟩:=h;refine⟨_,(yF (yP (W3 aWk rfl (xN (vR g Y vQ (pv 0) (yA (pv 1) yD))) (λ_ _ _ _ _=>(wU (yM vC (yL (show IxR _ (bZT K)from yX) (pv 0) yE) (pv 1)))) (λ_ _ _ _ _=>(yL (show IxR _ (bZT K)from yX) (pv 0) yE))))),?_⟩;obtain⟨dx,hb⟩:=T.book;refine⟨_,rfl,U,dx,_,rfl,hb,rfl,_,rfl,U,la,Z,ls,cs,R,S,d,rfl,T,hR,hS,λl H1 t X O a2 B M r=>?_⟩;have C:t.length=X.length:=M.length;have a0:t.length<=R.length:=Fm.wK (r.ord.imp λ{x y} e z=>by rw[z,Stree.vH]at e;cases e) λx hx=>((r.mem x).mp hx).1;refine⟨l,rfl,⟨_,SqL.of B⟩,λD G=>?_⟩;refine aWj (λm=>decide (jI R S (t.getD m 0)<d)) (λm=>V.int (t.getD m 0:Nat)) (SqL.of B) G (zn (by omega)) (λj v L H' R' N o=>?_) (λj v L _ H' R' N o=>?_) ?_
 ·obtain⟨k,J,p,I,u⟩:=bQx M L;subst I;have:t.getD j 0=k:=by simp[bYX,J]
  rw[this]at o;exact⟨_,rfl,p,_,0,_,rfl,rfl,SqT.of ((N p (yK u G)).trans u),rfl,_,rfl,_,_,rfl,rfl,_,rfl,o⟩
 ·obtain⟨k,J,p,I,u⟩:=bQx M L;subst I;have:t.getD j 0=k:=by simp[bYX,J]
  rw[this]at o;exact⟨_,rfl,p,_,1,_,rfl,rfl,SqT.of ((N p (yK u G)).trans u),rfl,o⟩
 ·have e:=aZk t (λk=>decide (jI R S k<d)) λi=>V.int (i:Nat);rw[C]at e;rw[e];refine q D _ (t.filter λk=>decide (jI R S k<d)) (O.trans (yG G _)) (O.fresh G) yB ⟨λk=>?_,r.ord.sublist cXd⟩;rw[cQg,r.mem k,decide_eq_true_eq];unfold jI;constructor
  ·rintro⟨⟨a,b,_⟩,c⟩;exact⟨a,b,λ_=>c⟩
  ·rintro⟨a,b,c⟩;exact⟨⟨a,b,λz=>by cases z⟩,c rfl⟩
end
end Desk
namespace Desk
open PySem L2 PyProof.Rows
open Bk (Row Rows)
def own(la sa:Nat)(ls cs:List Nat):List Nat:=la::sa::(ls++cs)
def qT(o:List Nat)(H c:Hp):Prop:=∀b u,b∉o->(∀a,u≠ .tbl a)->H b=some u->c b=some u
theorem qT.of{o:List Nat}{H a:Hp}(k:x0 H a):qT o H a:=λb u _ n e=>k b u n e
theorem qT.trans{o:List Nat}{H f d:Hp}(a:qT o H f)(b:qT o f d):qT o H d:=λc u n t e=>b c u n t (a c u n t e)
theorem qT.upd{o:List Nat}{H:Hp}{b:Nat}(a:b∈o)(u:HO):qT o H (upd H b u):=λc v n _ e=>by
 rw[yJ (λz=>n (by rw[z];exact a))];exact e
theorem aVr{la sa:Nat}{ls cs:List Nat}:la∈own la sa ls cs:=bYp
theorem aYk{la sa:Nat}{ls cs:List Nat}:sa∈own la sa ls cs:=bYm _ bYp
theorem aJA{la sa b:Nat}{ls cs:List Nat}(h:b∈ls):b∈own la sa ls cs:=bYm _ (bYm _ (cXk _ h))
theorem bJ1{la sa b:Nat}{ls cs:List Nat}(h:b∈cs):b∈own la sa ls cs:=bYm _ (bYm _ (bYz _ h))
section
variable {CB CL:Nat}{H:Hp}{ba la sa:Nat}{ls cs:List Nat}{R:Rows}{S:List Int}
theorem PB.l_ne(h:PB CB CL H ba la sa ls cs R S){b a:Nat}{xs:List V}(g:b∈ls)(c:H a=some (.lst xs)):a≠b:=λz=>by
 obtain⟨i,d,e⟩:=bY1 g;obtain⟨l,n,o,f,k,⟨p,j⟩,m⟩:=h.get (bK9 (show i<R.length by rw[<- h.len];exact d));rw[bK9 d,e]at f;cases f;rw[z,j]at c;cases c
theorem PB.ba_ne(h:PB CB CL H ba la sa ls cs R S):ba∉ls:=λz=>by
 obtain⟨i,b,e⟩:=bY1 z;obtain⟨j,l,m,c,g,⟨n,f⟩,k⟩:=h.get (bK9 (show i<R.length by rw[<- h.len];exact b));rw[bK9 b,e]at c;cases c;obtain⟨d,a⟩:=h.book;rw[f]at a;cases a
theorem PB.set(h:PB CB CL H ba la sa ls cs R S){k:Nat}{b c dx:Nat}{r:Row}(m:ls[k]? =some b)(t:cs[k]? =some c)(s:R[k]? =some r)(f:Row->Row)(B:(f r).copies=r.copies): PB CB CL (upd H b (.ins CL dx (aZs k (f r) c))) ba la sa ls cs (Bk.xR R k f) S:=by
 have a:=bYt m;refine⟨?_,?_,?_,by rw[Bk.x9];exact h.len,by rw[Bk.x9];exact h.clen,h.nd,h.cnd,h.las,h.lac,h.sac,λi u x w l o j=>?_⟩
 ·obtain⟨d,e⟩:=h.book;exact⟨d,by rw[yJ (λz=>h.ba_ne (by rw[z];exact a))];exact e⟩
 ·rw[yJ (h.l_ne a h.lst)];exact h.lst
 ·rw[yJ (h.l_ne a h.sht)];exact h.sht
 ·rw[Bk.zF]at j;by_cases e:i=k
  ·subst e;rw[if_pos rfl,s]at j;cases j;rw[m]at l;cases l;rw[t]at o;cases o;obtain⟨_,g⟩:=h.row i b c r m t s;refine⟨⟨dx,yB⟩,?_⟩;rw[yJ (h.l_ne a g),B];exact g
  ·rw[if_neg e]at j;obtain⟨⟨d,y⟩,g⟩:=h.row i u x w l o j;have p:u≠b:=λz=>by
    subst z;obtain⟨v,n⟩:=bYl.mp l;obtain⟨A,q⟩:=bYl.mp m;exact e ((cQ0 h.nd).mp (n.trans q.symm))
   exact⟨⟨d,by rw[yJ p];exact y⟩,by rw[yJ (h.l_ne a g)];exact g⟩
theorem PB.copy(h:PB CB CL H ba la sa ls cs R S){k:Nat}{c:Nat}{r:Row}(f:cs[k]? =some c)(o:R[k]? =some r)(j:Str): PB CB CL (upd H c (.lst ((r.copies++ [j]).map V.str))) ba la sa ls cs (Bk.xR R k λr=>{r with copies:=r.copies++ [j] }) S:=by
 have d:=bYt f;obtain⟨b0,J,I,G,x,⟨B,K⟩,F⟩:=h.get o;rw[f]at x;cases x;have n:∀ {a C dx fs},H a=some (.ins C dx fs)->a≠c:=λq z=>by rw[z,F]at q;cases q
 refine⟨?_,?_,?_,by rw[Bk.x9];exact h.len,by rw[Bk.x9];exact h.clen,h.nd,h.cnd,h.las,h.lac,h.sac,λi y v D u m l=>?_⟩
 ·obtain⟨b,e⟩:=h.book;exact⟨b,by rw[yJ (n e)];exact e⟩
 ·rw[yJ (λz=>h.lac (by rw[z];exact d))];exact h.lst
 ·rw[yJ (λz=>h.sac (by rw[z];exact d))];exact h.sht
 ·rw[Bk.zF]at l;by_cases e:i=k
  ·subst e;rw[if_pos rfl,o]at l;cases l;rw[f]at m;cases m;obtain⟨⟨b,g⟩,w⟩:=h.row i y c r u f o;exact⟨⟨b,by rw[yJ (n g)];exact g⟩,yB⟩
  ·rw[if_neg e]at l;obtain⟨⟨b,g⟩,w⟩:=h.row i y v D u m l;have p:v≠c:=λz=>by
    subst z;obtain⟨A,s⟩:=bYl.mp m;obtain⟨E,t⟩:=bYl.mp f;exact e ((cQ0 h.cnd).mp (s.trans t.symm))
   exact⟨⟨b,by rw[yJ (n g)];exact g⟩,by rw[yJ p];exact w⟩
theorem PB.shutD(h:PB CB CL H ba la sa ls cs R S)(d:Int):PB CB CL (upd H sa (.lst ((S++ [d]).map V.int))) ba la sa ls cs R (S++ [d]):=by
 have c:∀ {a C dx fs},H a=some (.ins C dx fs)->a≠sa:=λq z=>by rw[z,h.sht]at q;cases q
 refine⟨?_,?_,yB,h.len,h.clen,h.nd,h.cnd,h.las,h.lac,h.sac,λi k l m n g j=>?_⟩
 ·obtain⟨b,e⟩:=h.book;exact⟨b,by rw[yJ (c e)];exact e⟩
 ·rw[yJ h.las];exact h.lst
 ·obtain⟨⟨b,f⟩,o⟩:=h.row i k l m n g j;exact⟨⟨b,by rw[yJ (c f)];exact f⟩,by rw[yJ (λz=>h.sac (by rw[<- z];exact bYt g))];exact o⟩
theorem PB.enter(h:PB CB CL H ba la sa ls cs R S){l c dx:Nat}{r:Row}{u:Hp}(hl:H l=none)(g:H c=none)(N:l≠c)(L:r.copies= [])(J:u l=some (.ins CL dx (aZs R.length r c)))(I:u c=some (.lst [])) (k:∀b o,H b=some o->u b=some o):PB CB CL (upd u la (.lst ((ls++ [l]).map V.ref))) ba la sa (ls++ [l]) (cs++ [c]) (R++ [r]) S:=by
 have y:l≠la:=λz=>by rw[z,h.lst]at hl;cases hl
 have j:c≠la:=λz=>by rw[z,h.lst]at g;cases g
 have E:∀ {a C dx fs},H a=some (.ins C dx fs)->a≠la:=λq z=>by rw[z,h.lst]at q;cases q
 have O:∀i b,ls[i]? =some b->i<R.length:=λi b q=>by rw[<- h.len];exact(bYl.mp q).1
 have nl:l∉ls:=λz=>by obtain⟨i,f,e⟩:=bY1 z;obtain⟨D,w,t,m,v,⟨d,F⟩,G⟩:=h.get (bK9 (show i<R.length by rw[<- h.len];exact f));rw[bK9 f,e]at m;cases m;rw[F]at hl;cases hl
 have M:c∉cs:=λz=>by obtain⟨i,f,e⟩:=bY1 z;obtain⟨D,w,t,m,v,F,G⟩:=h.get (bK9 (show i<R.length by rw[<- h.clen];exact f));rw[bK9 f,e]at v;cases v;rw[G]at g;cases g
 refine⟨?_,yB,?_,by simp[h.len],by simp[h.clen],?_,?_,h.las,?_,?_,λi D w K s n p=>?_⟩
 ·obtain⟨d,e⟩:=h.book;exact⟨d,by rw[yJ (E e)];exact k _ _ e⟩
 ·rw[yJ (bYU h.las)];exact k _ _ h.sht
 ·exact cXD.mpr ⟨h.nd,cQy _ _,λa A b B z=>nl (by rw[<- bYr.mp B,<- z];exact A)⟩
 ·exact cXD.mpr ⟨h.cnd,cQy _ _,λa A b B z=>M (by rw[<- bYr.mp B,<- z];exact A)⟩
 ·intro z;rcases bYP.mp z with z|z
  ·exact h.lac z
  ·exact j (bYr.mp z).symm
 ·intro z;rcases bYP.mp z with z|z
  ·exact h.sac z
  ·rw[<- bYr.mp z,h.sht]at g;cases g
 ·by_cases f:i<R.length
  ·rw[bYF (by rw[h.len];exact f)]at s;rw[bYF (by rw[h.clen];exact f)]at n;rw[bYF f]at p;obtain⟨⟨d,t⟩,m⟩:=h.row i D w K s n p;exact⟨⟨d,by rw[yJ (E t)];exact k _ _ t⟩,by rw[yJ (λz=>h.lac (by rw[<- z];exact bYt n))];exact k _ _ m⟩
  ·have x:i=R.length:=by
    have:=(bYl.mp p).1;simp at this;omega
   subst x;rw[bYv (by rw[h.len];exact bYh _),h.len,cQt]at s;rw[bYv (by rw[h.clen];exact bYh _),h.clen,cQt]at n;rw[bYv (bYh _),cQt]at p;cases s;cases n;cases p;exact⟨⟨dx,by rw[yJ y];exact J⟩,by rw[yJ j,I,L];rfl⟩
end
def aJ5(CB:Nat):Sp:=λd H Q _=>∃ (x c:Nat),d= [.ref x]/\H x=some (.ins CB c [])/\
 ∀ (la sa:Nat)(a:Hp),H la=none->H sa=none->la≠sa->a x=some (.ins CB c [("letters",.ref la),("shut",.ref sa)])->a la=some (.lst [])->a sa=some (.lst [])->(∀b,b≠x->b≠la->b≠sa->a b=H b)->Q .non a
def bVI(CB CL:Nat):Sp:=λg H Q _=>∃ (ba la sa:Nat)(ls cs:List Nat)(R:Rows)(S:List Int)(e:Str)(d:Int)(a:Str)(t:Int),g= [.ref ba,.str e,.int d,.str a,.int t]/\PB CB CL H ba la sa ls cs R S/\R.length<=1000/\
 ∀ (l c:Nat)(f:Hp),H l=none->H c=none->PB CB CL f ba la sa (ls++ [l]) (cs++ [c]) (R++ [⟨e,d,a,t,none,"",false,[]⟩]) S->(∀b o,b≠la->H b=some o->f b=some o)->Q (.ref l) f
def aXT(K:bYc)(Rf:Nat×Nat):Sp:=λa H Q E=>∃t:Int,a= [.int t]/\(0<=t->Q .non H)/\(t<0->xG K Rf H E "no term")
def aXS(K:bYc)(Rf:Nat×Nat):Sp:=λc H Q E=>∃a b:Int,c= [.int a,.int b]/\(a<=b->Q .non H)/\(b<a->xG K Rf H E "too early")
section
variable {K:bYc}
abbrev aYy:Stmt:=xF "Book" "__init__"
abbrev bKw:Stmt:=xF "Book" "add_letter"
abbrev aYM:Stmt:=xC "check_term"
abbrev aYC:Stmt:=xC "check_days"
theorem bXQ:yO ["self"] ["self"] (yH aYy):=scM
theorem bXg(cl:Cl K CB CL)(F:Fun K "__init__" "Book.__init__" aYy f fd):xD P w K mg base CX0 (n+1) f fd ["self"] (aJ5 CB):=by
 have o:=bXQ;refine F.ok (k:=n) o (λr A outer s H u Q E v h=>?_);obtain⟨x,l,rfl,m,q⟩:=h;refine⟨_,(yC (zJ (pv 0) (y6 yD) rfl) (yF (zJ (pv 0) (y6 yD) rfl))),?_⟩;refine⟨z0,λla g=>?_⟩;have c:x≠la:=yK m g;refine⟨_,rfl,x,CB,l,_,rfl,(yJ c).trans m,cl.b,cl.letters,(show 0<1000 by decide),?_⟩;refine⟨z0,λsa a=>?_⟩;have e:x≠sa:=yK yB a;have d:la≠sa:=λz=>by rw[<- z,yJ (bYU c),yB]at a;cases a
 refine⟨_,rfl,x,CB,l,_,rfl,(yJ e).trans yB,cl.b,cl.shut,(show 1<1000 by decide),?_⟩;have i:H sa=none:=by rw[yJ (bYU e),yJ (bYU d)]at a;exact a
 refine q la sa _ g i d yB ?_ ?_ λb j p t=>?_
 ·rw[yJ (bYU c),yJ d,yJ (bYU c),yB]
 ·rw[yJ (bYU e),yB]
 ·rw[yJ j,yJ t,yJ j,yJ p]
theorem bWK:yO ["self","way","day","partner","term","letter"] ["self","way","day","partner","term"] (yH bKw):=scM
theorem bWt(T:vA mg)(cl:Cl K CB CL)(a:MkG P w K mg base n "Letter" CL ["self","number","way","day","partner","term"] (bQh CL))(F:Fun K "add_letter" "Book.add_letter" bKw f fd): xD P w K mg base CX0 (n+2) f fd ["self","way","day","partner","term"] (bVI CB CL):=by
 have L:=bWK;refine F.ok (k:=n+1) L (λW A outer s H vs Q E N h=>?_);obtain⟨ba,la,sa,ls,cs,R,S,C,d,y,t,rfl,l,hR,q⟩:=h;refine⟨_,(yC (yU (i:=5) (bKt a N rfl (yA (yT yN rfl T.b_len y9 (yA (yZ (pv 0) rfl) yD)) (yA (pv 1) (yA (pv 2) (yA (pv 3) (yA (pv 4) yD))))))) (yC (yY (uC bYM bYR bYS xL (yZ (pv 0) rfl) (yA (pv 5) yD))) (yF (yP (pv 5))))),?_⟩;obtain⟨I,J⟩:=l.book;have hl:(ls.map V.ref).length=R.length:=by rw[bYe];exact l.len
 refine⟨_,rfl,ba,CB,I,_,_,rfl,J,cl.b,cl.letters,rfl,la,_,rfl,.inl (SqL.of l.lst),?_⟩;rw[hl];refine⟨_,rfl,_,rfl,_,rfl,_,rfl,λx xd G B v=>?_⟩;refine⟨x,xd,R.length,C,d,y,t,rfl,yB,λc Y j M U X=>⟨rfl,?_⟩⟩;dsimp only[yW];have p:c≠x:=λz=>by rw[z,yB]at j;cases j
 have u:c≠xd:=λz=>by rw[z,yJ v,yB]at j;cases j
 have g:H c=none:=by rw[yJ p,yJ u]at j;exact j
 have m:∀b o,H b=some o->Y b=some o:=λb o e=>by have b1:=yK e G;have O:=yK e g;have Z:=yK e B;rw[X b b1 O,yJ b1,yJ Z];exact e
 refine⟨_,rfl,ba,CB,I,_,_,rfl,m _ _ J,cl.b,cl.letters,rfl,.inl ⟨rfl,_,SqL.of (m _ _ l.lst)⟩,_,rfl,la,_,_,rfl,rfl,m _ _ l.lst,zlt (by omega),?_⟩;refine⟨_,rfl,?_⟩;have r:=l.enter G g (bYU p) rfl M U m;rw[cQW]at r;refine q x c _ G g r λb o D e=>?_;rw[yJ D];exact m b o e
theorem bX5:yO ["term"] ["term"] (yH aYM):=scM
theorem bXv(a:ExG P w K mg base n "NoTerm" Rf.1 C1 "no term")(F:Fun K "check_term" "check_term" aYM f fd):xD P w K mg base (CXR P w) (n+2) f fd ["term"] (aXT K Rf):=by
 have e:=bX5;refine F.okX (k:=n+1) e (λb A outer s H i Q E g h=>?_);obtain⟨t,rfl,q,d⟩:=h;refine⟨_,(yF (y0 (yM vC (pv 0) yE) (yF (zU a g rfl)) yS)),?_⟩;refine⟨_,rfl,_,_,rfl,rfl,_,rfl,?_⟩;refine qB (λc=>?_) (λc=>?_)
 ·exact(d (of_decide_eq_true c)).raise a
 ·exact q (by have:=of_decide_eq_false (Bool.eq_false_iff.mpr c);omega)
theorem bXU:yO ["asked_day","reply_day"] ["asked_day","reply_day"] (yH aYC):=scM
theorem bXk(d:ExG P w K mg base n "TooEarly" Rf.1 C1 "too early")(F:Fun K "check_days" "check_days" aYC f fd):xD P w K mg base (CXR P w) (n+2) f fd ["asked_day","reply_day"] (aXS K Rf):=by
 have e:=bXU;refine F.okX (k:=n+1) e (λi A outer s H l Q E g h=>?_);obtain⟨a,b,rfl,q,j⟩:=h;refine⟨_,(yF (y0 (yM vC (pv 1) (pv 0)) (yF (zU d g rfl)) yS)),?_⟩;refine⟨_,rfl,_,rfl,_,_,rfl,rfl,_,rfl,?_⟩;refine qB (λc=>?_) (λc=>?_)
 ·exact(j (of_decide_eq_true c)).raise d
 ·exact q (by have:=of_decide_eq_false (Bool.eq_false_iff.mpr c);omega)
end
end Desk
namespace Desk
open PySem L2 PyProof.Rows
open Bk (Row Rows)
def vF(o:List Nat)(H a:Hp):Prop:=∀b u,b∉o->H b=some u->a b=some u
theorem vF.of{o:List Nat}{H a:Hp}(k:xA H a):vF o H a:=λb u _ e=>k b u e
theorem vF.trans{o:List Nat}{H f d:Hp}(a:vF o H f)(b:vF o f d):vF o H d:=λc u n e=>b c u n (a c u n e)
theorem vF.upd{o:List Nat}{H:Hp}{b:Nat}(a:b∈o)(u:HO):vF o H (upd H b u):=λc v n e=>by
 rw[yJ (λz=>n (by rw[z];exact a))];exact e
theorem vF.t{o:List Nat}{H a:Hp}(k:vF o H a):qT o H a:=λb u n _ e=>k b u n e
def qA(H:Hp)(o a:List Nat):Prop:=∀b∈a,b∈o\/H b=none
theorem qA.refl{H:Hp}{o:List Nat}:qA H o o:=λb h=> .inl h
theorem qA.snoc{H:Hp}{la sa l c:Nat}{ls cs:List Nat}(hl:H l=none)(a:H c=none):qA H (own la sa ls cs) (own la sa (ls++ [l]) (cs++ [c])):=λb h=>by
 rcases bYj.mp h with e|h
 ·exact .inl (by rw[e];exact aVr)
 rcases bYj.mp h with e|h
 ·exact .inl (by rw[e];exact aYk)
 rcases bYP.mp h with h|h
 ·rcases bYP.mp h with h|h
  ·exact .inl (aJA h)
  ·exact .inr (by rw[bYr.mp h];exact hl)
 ·rcases bYP.mp h with h|h
  ·exact .inl (bJ1 h)
  ·exact .inr (by rw[bYr.mp h];exact a)
def aXY(f CL d la sa:Nat)(ls cs:List Nat)(H:Hp)(g:Rows)(e:List Int)(q:Hp->Prop):Prop:=∀ (c:Hp)(b a:List Nat),PB f CL c d la sa b a g e->vF (own la sa ls cs) H c->qA H (own la sa ls cs) (own la sa b a)->q c
def bWp(i:Nat)(r:Row)(c:Nat)(t:Int):List (Str×V):=
 [("number",.int (i:Nat)),("way",.str r.way),("day",.int r.date),("partner",.str r.partner),("term",.int t),("link",wN r.link),("file",qZ r),("copies",.ref c),("void",.bl r.void)]
def bQf(K:bYc)(Rf:Nat×Nat)(e CL:Nat):Sp:=λj H Q E=>∃ (c i f:Nat)(g h:List Nat)(R:Rows)(S:List Int)(b:Str)(d:Int)(a:Str)(t:Int),j= [.ref c,.str b,.int d,.str a,.int t]/\PB e CL H c i f g h R S/\R.length<=1000/\
 (0<=t->aXY e CL c i f g h H (R++ [⟨b,d,a,t,none,"",false,[]⟩]) S (Q (.int (R.length:Nat))))/\(t<0->xG K Rf H E "no term")
def bQl(K:bYc)(Rf:Nat×Nat)(b CL:Nat):Sp:=λh H Q E=>∃ (a g c:Nat)(e f:List Nat)(R:Rows)(S:List Int)(m d t:Int),h= [.ref a,.int m,.int d,.int t]/\PB b CL H a g c e f R S/\R.length<=1000/\
 (Bk.z9 R m=false->xG K Rf H E "no letter")/\(Bk.z9 R m=true->t<0->xG K Rf H E "no term")/\
 ∀ (k:Nat)(r:Row),m=(k:Int)->R[k]? =some r->r.void=false->0<=t->(d<r.date->xG K Rf H E "too early")/\(r.date<=d->aXY b CL a g c e f H (R++ [⟨Bk.jG r.way,d,r.partner,t,some k,r.place,false,[]⟩]) S (Q (.int (R.length:Nat))))
def aVN(K:bYc)(Rf:Nat×Nat)(d CL:Nat):Sp:=λg H Q E=>∃ (a e f:Nat)(b c:List Nat)(R:Rows)(S:List Int)(m:Int),g= [.ref a,.int m]/\PB d CL H a e f b c R S/\
 (Bk.z9 R m=false->xG K Rf H E "no letter")/\∀ (k:Nat)(r:Row),m=(k:Int)->R[k]? =some r->r.void=false->(r.link=none->xG K Rf H E "has none")/\(r.link≠none->aXY d CL a e f b c H (Bk.xR R k λr=>{r with link:=none}) S (Q .non))
def aZT(K:bYc)(Rf:Nat×Nat)(b CL:Nat):Sp:=λg H Q E=>∃ (a f c:Nat)(d e:List Nat)(R:Rows)(S:List Int)(m t:Int),g= [.ref a,.int m,.int t]/\PB b CL H a f c d e R S/\
 (Bk.z9 R m=false->xG K Rf H E "no letter")/\∀ (k:Nat)(r:Row),m=(k:Int)->R[k]? =some r->r.void=false->(t<0->xG K Rf H E "no term")/\(0<=t->aXY b CL a f c d e H (Bk.xR R k λr=>{r with term:=t}) S (Q .non))
def bZ3(K:bYc)(Rf:Nat×Nat)(c CL:Nat):Sp:=λh H Q E=>∃ (b g d:Nat)(e f:List Nat)(R:Rows)(S:List Int)(m:Int)(a:Str),h= [.ref b,.int m,.str a]/\PB c CL H b g d e f R S/\(∀r∈R,r.copies.length<=1000)/\
 (Bk.z9 R m=false->xG K Rf H E "no letter")/\∀ (k:Nat)(r:Row),m=(k:Int)->R[k]? =some r->r.void=false->(a=r.partner\/a∈r.copies->xG K Rf H E "copied")/\
  (a≠r.partner->a∉r.copies->aXY c CL b g d e f H (Bk.xR R k λr=>{r with copies:=r.copies++ [a] }) S (Q (.int ((r.copies.length:Nat)+1))))
def aVG(K:bYc)(Rf:Nat×Nat)(d CL:Nat):Sp:=λg H Q E=>∃ (a e f:Nat)(b c:List Nat)(R:Rows)(S:List Int)(m:Int),g= [.ref a,.int m]/\PB d CL H a e f b c R S/\R.length<=100/\
 (Bk.z9 R m=false->xG K Rf H E "no letter")/\∀ (k:Nat)(r:Row),m=(k:Int)->R[k]? =some r->r.void=false->(Bk.z7 R k≠ []->xG K Rf H E "answered")/\(Bk.z7 R k= []->aXY d CL a e f b c H (Bk.xR R k λr=>{r with link:=none,void:=true}) S (Q .non))
def bZ4(K:bYc)(Rf:Nat×Nat)(e CL:Nat):Sp:=λh H Q E=>∃ (a f g:Nat)(b c:List Nat)(R:Rows)(S:List Int)(d:Int),h= [.ref a,.int d]/\PB e CL H a f g b c R S/\S.length<=1000/\
 (Dm.cts S d=false->xG K Rf H E "counts not")/\(Dm.cts S d=true->aXY e CL a f g b c H R (S++ [d]) (Q .non))
def aVO(K:bYc)(Rf:Nat×Nat)(b CL:Nat):Sp:=λi H Q E=>∃ (a h e:Nat)(f g:List Nat)(R:Rows)(S:List Int)(m d:Int),i= [.ref a,.int m,.int d]/\PB b CL H a h e f g R S/\R.length<=100/\Bk.qR R/\
 (Bk.z9 R m=false->xG K Rf H E "no letter")/\∀ (k:Nat)(r:Row),m=(k:Int)->R[k]? =some r->r.void=false->(((∃j,r.link=some j/\d<Bk.dt R j)\/∃c∈Bk.z7 R k,Bk.dt R c<d)->xG K Rf H E "too early")/\
  ((∀j,r.link=some j->Bk.dt R j<=d)->(∀c∈Bk.z7 R k,d<=Bk.dt R c)->aXY b CL a h e f g H (Bk.xR R k λr=>{r with date:=d}) S (Q .non))
theorem aW3(R:Rows)(r:Row)(f:Row->Row):Bk.xR (R++ [r]) R.length f=R++ [f r]:=by
 apply cXq;intro i;rw[Bk.zF];by_cases e:i=R.length
 ·subst e;rw[if_pos rfl,bYv (bYh _),bYv (bYh _),cQt];rfl
 ·rw[if_neg e];by_cases h:i<R.length
  ·rw[bYF h,bYF h]
  ·rw[bYL (by simp;omega),bYL (by simp;omega)]
section
variable {K:bYc}
abbrev aYE:Stmt:=xF "Book" "enter"
abbrev aYK:Stmt:=xF "Book" "reply"
abbrev aJO:Stmt:=xF "Book" "loosen"
abbrev aXI:Stmt:=xF "Book" "put_term"
abbrev bVm:Stmt:=xF "Book" "send_copy"
abbrev aJL:Stmt:=xF "Book" "cancel"
abbrev bVn:Stmt:=xF "Book" "shut_day"
abbrev aJP:Stmt:=xF "Book" "put_day"
theorem bXW:yO ["self","way","day","partner","term"] ["self","way","day","partner","term"] (yH aYE):=scM
theorem bXm(cl:Cl K CB CL)(a:FnX P w K mg base n "check_term" ["term"] (aXT K Rf))(g:MG P w K mg base CX0 n CB "add_letter" ["self","way","day","partner","term"] (bVI CB CL)) (F:Fun K "enter" "Book.enter" aYE f fd):xD P w K mg base (CXR P w) (n+1) f fd ["self","way","day","partner","term"] (bQf K Rf CB CL):=by
 have D:=bXW;refine F.okX (k:=n) D (λO A outer s H X Q E r h=>?_);obtain⟨y,W,I,v,x,R,S,o,d,m,t,rfl,j,hR,q,U⟩:=h;refine⟨_,(yC (yY (aQr a r rfl (yA (pv 4) yD))) (yF (yP (yZ (vR g r vQ (pv 0) (yA (pv 1) (yA (pv 2) (yA (pv 3) (yA (pv 4) yD))))) rfl)))),?_⟩;obtain⟨L,V⟩:=j.book;refine⟨_,rfl,t,rfl,λC=>?_,U⟩;refine⟨_,rfl,y,L,_,rfl,V,rfl,_,rfl,_,rfl,_,rfl,_,rfl,y,W,I,v,x,R,S,o,d,m,t,rfl,j,hR,λl c T hl J i B=>?_⟩;have G:(v++ [l])[R.length]? =some l:=by rw[<- j.len,bYv (bYh _),cQt];rfl
 have N:(x++ [c])[R.length]? =some c:=by rw[<- j.clen,bYv (bYh _),cQt];rfl
 obtain⟨⟨p,M⟩,Y⟩:=i.row R.length l c _ G N (by rw[bYv (bYh _),cQt];rfl);exact⟨l,CL,p,_,_,rfl,M,cl.l,cl.number,rfl,q C T _ _ i (λb u n e=>B b u (λz=>n (by rw[z];exact aVr)) e) (qA.snoc hl J)⟩
theorem bX2:yO ["self","number","day","term","asked","letter"] ["self","number","day","term"] (yH aYK):=scM
theorem qI{R:Rows}{k:Nat}{r:Row}(b:R[k]? =some r)(a:r.void=false):Bk.z9 R (k:Int)=true:=by rw[aZg b,a];rfl
theorem aXq{r:Row}(a:r.void=false):qZ r= .str r.place:=by unfold qZ;rw[a];rfl
theorem bZk{r:Row}(a:r.void=false):W4 r=r.term:=by unfold W4;rw[a];rfl
theorem bXs(cl:Cl K CB CL)(p:MG P w K mg base (CXR P w) n CB "letter_at" ["self","number"] (bQa K Rf CB CL))(g:FnX P w K mg base n "check_term" ["term"] (aXT K Rf)) (a:FnX P w K mg base n "check_days" ["asked_day","reply_day"] (aXS K Rf)) (o:FnG P w K mg base n "other_way" ["way"] bQj) (j:MG P w K mg base CX0 n CB "add_letter" ["self","way","day","partner","term"] (bVI CB CL)) (F:Fun K "reply" "Book.reply" aYK f fd):xD P w K mg base (CXR P w) (n+1) f fd ["self","number","day","term"] (bQl K Rf CB CL):=by
 have sc:=bX2;refine F.okX (k:=n) sc (λa0 A outer s H vs Q E C h=>?_);obtain⟨J,N,sa,L,I,R,S,m,d,t,rfl,B,hR,q1,q2,q3⟩:=h;refine⟨_,(yC (yU (i:=4) (vR p C zO (pv 0) (yA (pv 1) yD))) (yC (yY (aQr g C rfl (yA (pv 3) yD))) (yC (yY (aQr a C rfl (yA (yZ (pv 4) rfl) (yA (pv 2) yD)))) (yC (yU (i:=5) (vR j C vQ (pv 0) (yA (xK o C rfl (yA (yZ (pv 4) rfl) yD)) (yA (pv 2) (yA (yZ (pv 4) rfl) (yA (pv 3) yD)))))) (yC (zJ (pv 5) (pv 1) rfl) (yC (zJ (pv 5) (yZ (pv 4) rfl) rfl) (yF (yP (yZ (pv 5) rfl))))))))),?_⟩;obtain⟨M,hb⟩:=B.book;refine⟨_,rfl,J,M,_,rfl,hb,rfl,_,rfl,J,N,sa,L,I,R,S,m,rfl,B,λk r b em V X W=>?_,q1⟩;subst em;obtain⟨U,cc,g1,g2,g3,⟨v,y⟩,g5⟩:=B.get V;obtain rfl:b=U:=bYw (W.symm.trans g2);dsimp only[yW];refine⟨_,rfl,t,rfl,λT=>?_,λT=>q2 (qI V X) T⟩;obtain⟨q4,q5⟩:=q3 k r rfl V X T;refine⟨_,rfl,b,CL,v,_,_,rfl,y,cl.l,cl.day,rfl,_,rfl,r.date,d,rfl,λhd=>?_,q4⟩;refine⟨_,rfl,J,M,_,rfl,hb,rfl,_,rfl,b,CL,v,_,_,rfl,y,cl.l,cl.way,rfl,r.way,rfl,_,rfl,_,rfl,b,CL,v,_,_,rfl,y,cl.l,cl.partner,rfl,_,rfl,J,N,sa,L,I,R,S,Bk.jG r.way,d,r.partner,t,rfl,B,hR,λl c H1 hl hc D k1=>?_⟩;dsimp only[yW];have h1:(L++ [l])[R.length]? =some l:=by rw[<- B.len,bYv (bYh _),cQt];rfl
 have h2:(I++ [c])[R.length]? =some c:=by rw[<- B.clen,bYv (bYh _),cQt];rfl
 have h3:(R++ [(⟨Bk.jG r.way,d,r.partner,t,none,"",false,[]⟩:Row)])[R.length]? =some ⟨Bk.jG r.way,d,r.partner,t,none,"",false,[]⟩:=by rw[bYv (bYh _),cQt];rfl
 obtain⟨⟨q,f1⟩,f2⟩:=D.row R.length l c _ h1 h2 h3;refine⟨_,rfl,_,rfl,l,CL,q,_,rfl,f1,cl.l,cl.link,(show 9<1000 by decide),?_⟩;have O:b≠l:=yK y hl;have Y:b≠N:=λz=>by rw[z,B.lst]at y;cases y
 have Z:upd H1 l (.ins CL q (aQ2 "link" (.int (k:Nat)) (aZs R.length ⟨Bk.jG r.way,d,r.partner,t,none,"",false,[]⟩ c))) b=some (.ins CL v (aZs k r cc)):=(yJ O).trans (k1 _ _ Y y);refine⟨_,rfl,b,CL,v,_,_,rfl,Z,cl.l,cl.file,rfl,_,rfl,l,CL,q,_,rfl,yB,cl.l,cl.file,(show 9<1000 by decide),?_⟩;rw[uO];refine⟨_,rfl,l,CL,q,_,_,rfl,yB,cl.l,cl.number,rfl,?_⟩;have G:=D.set (dx:=q) h1 h2 h3 (λx=>{x with link:=some k,place:=r.place}) rfl;rw[aW3]at G;have e9:aQ2 "file" (qZ r) (aQ2 "link" (.int (k:Nat)) (aZs R.length ⟨Bk.jG r.way,d,r.partner,t,none,"",false,[]⟩ c))=aZs R.length ⟨Bk.jG r.way,d,r.partner,t,some k,r.place,false,[]⟩ c:=by rw[aXq X];rfl
 refine q5 hd _ (L++ [l]) (I++ [c]) ?_ (λU u nb e=>?_) (qA.snoc hl hc)
 ·rw[e9];exact G
 ·rw[yJ (λz=>by rw[z]at e;rw[hl]at e;cases e)];exact k1 U u (λz=>nb (by rw[z];exact aVr)) e
theorem aY1:yO ["self","number","letter"] ["self","number"] (yH aJO):=scM
theorem aYf(cl:Cl K CB CL)(c:MG P w K mg base (CXR P w) (n+1) CB "letter_at" ["self","number"] (bQa K Rf CB CL))(a:ExG P w K mg base n "HasNone" Rf.1 C1 "has none") (F:Fun K "loosen" "Book.loosen" aJO f fd):xD P w K mg base (CXR P w) (n+2) f fd ["self","number"] (aVN K Rf CB CL):=by
 have x:=aY1;refine F.okX (k:=n+1) x (λI A outer s H W Q E t h=>?_);obtain⟨v,T,y,B,J,R,S,m,rfl,g,N,G⟩:=h;refine⟨_,(yC (yU (i:=2) (vR c t zO (pv 0) (yA (pv 1) yD))) (yC (y0 (yM aQm (yZ (pv 2) rfl) xY) (yF (zU a t rfl)) yS) (yF (zJ (pv 2) xY rfl)))),?_⟩;obtain⟨z,O⟩:=g.book;refine⟨_,rfl,v,z,_,rfl,O,rfl,_,rfl,v,T,y,B,J,R,S,m,rfl,g,λk r b L o D p=>?_,N⟩;obtain⟨U,X,Z,q,C,⟨e,u⟩,Y⟩:=g.get o;obtain rfl:b=U:=bYw (p.symm.trans q);obtain⟨M,V⟩:=G k r L o D;dsimp only[yW];refine⟨_,rfl,b,CL,e,_,_,rfl,u,cl.l,cl.link,rfl,rfl,_,rfl,?_⟩;cases d:r.link with
 |none=>exact onT rfl ((M d).raise a)
 |some j=>refine onF rfl ⟨_,rfl,b,CL,e,_,rfl,u,cl.l,cl.link,(show 9<1000 by decide),?_⟩;exact V (by rw[d];simp) _ _ _ (g.set q C o (λr=>{r with link:=none}) rfl) (vF.upd (aJA (bYt q)) _) qA.refl
theorem aWZ:yO ["self","number","term","letter"] ["self","number","term"] (yH aXI):=scM
theorem aWE(cl:Cl K CB CL)(c:MG P w K mg base (CXR P w) n CB "letter_at" ["self","number"] (bQa K Rf CB CL))(a:FnX P w K mg base n "check_term" ["term"] (aXT K Rf)) (F:Fun K "put_term" "Book.put_term" aXI f fd):xD P w K mg base (CXR P w) (n+1) f fd ["self","number","term"] (aZT K Rf CB CL):=by
 have y:=aWZ;refine F.okX (k:=n) y (λJ A outer s H Y Q E q h=>?_);obtain⟨v,U,z,C,L,R,S,m,t,rfl,d,O,I⟩:=h;refine⟨_,(yC (yU (i:=3) (vR c q zO (pv 0) (yA (pv 1) yD))) (yC (yY (aQr a q rfl (yA (pv 2) yD))) (yF (zJ (pv 3) (pv 2) rfl)))),?_⟩;obtain⟨B,T⟩:=d.book;refine⟨_,rfl,v,B,_,rfl,T,rfl,_,rfl,v,U,z,C,L,R,S,m,rfl,d,λk r b M g u j=>?_,O⟩;obtain⟨V,e,g1,o,G,⟨p,D⟩,Z⟩:=d.get g;obtain rfl:b=V:=bYw (j.symm.trans o);obtain⟨N,W⟩:=I k r M g u;dsimp only[yW];refine⟨_,rfl,t,rfl,λx=>?_,N⟩;refine⟨_,rfl,_,rfl,b,CL,p,_,rfl,D,cl.l,cl.term,(show 9<1000 by decide),?_⟩;have X:aQ2 "term" (.int t) (aZs k r e)=aZs k {r with term:=t} e:=by show bWp k {r with term:=t} e t=_;unfold bWp aZs;rw[bZk (r:={r with term:=t}) u]
 rw[X];exact W x _ _ _ (d.set o G g (λr=>{r with term:=t}) rfl) (vF.upd (aJA (bYt o)) _) qA.refl
theorem bVB:yO ["self","number","person","letter"] ["self","number","person"] (yH bVm):=scM
theorem bJV(T:vA mg)(cl:Cl K CB CL)(e:MG P w K mg base (CXR P w) (n+1) CB "letter_at" ["self","number"] (bQa K Rf CB CL))(a:MG P w K mg base CX0 (n+1) CL "has_gone_to" ["self","person"] (bZX CL))(d:ExG P w K mg base n "Copied" Rf.1 C1 "copied") (F:Fun K "send_copy" "Book.send_copy" bVm f fd):xD P w K mg base (CXR P w) (n+2) f fd ["self","number","person"] (bZ3 K Rf CB CL):=by
 have I:=bVB;refine F.okX (k:=n+1) I (λW A outer s H vs Q E x h=>?_);obtain⟨G,la,J,M,X,R,S,m,g,rfl,u,B,q1,U⟩:=h;refine⟨_,(yC (yU (i:=3) (vR e x zO (pv 0) (yA (pv 1) yD))) (yC (y0 (xP (vR a x vQ (pv 3) (yA (pv 2) yD))) (yF (zU d x rfl)) yS) (yC (yY (uC bYM bYR bYS xL (yZ (pv 3) rfl) (yA (pv 2) yD))) (yF (yP (yT yN rfl T.b_len y9 (yA (yZ (pv 3) rfl) yD))))))),?_⟩;obtain⟨L,hb⟩:=u.book;refine⟨_,rfl,G,L,_,rfl,hb,rfl,_,rfl,G,la,J,M,X,R,S,m,rfl,u,λk r b Y q O y=>?_,q1⟩;obtain⟨b',p,g1,N,C,⟨j,o⟩,t⟩:=u.get q;obtain rfl:b=b':=bYw (y.symm.trans N);obtain⟨Z,q4⟩:=U k r Y q O;have D:=B r (bYt q);dsimp only[yW];refine⟨_,rfl,b,j,_,rfl,o,rfl,_,rfl,b,k,r,p,g,rfl,⟨j,o⟩,t,_,rfl,?_⟩;refine qB (λc=>?_) (λc=>?_)
 ·refine(Z ?_).raise d;rw[Bool.or_eq_true,decide_eq_true_eq,cQK]at c;exact c
 ·rw[Bool.or_eq_true,decide_eq_true_eq,cQK,not_or]at c;have v:b≠p:=λz=>by rw[z,t]at o;cases o
  refine⟨_,rfl,b,CL,j,_,_,rfl,o,cl.l,cl.copies,rfl,.inl ⟨rfl,_,SqL.of t⟩,_,rfl,p,_,_,rfl,rfl,t,zlt (by rw[bYe];omega),?_⟩;refine⟨_,rfl,b,CL,j,_,_,rfl,(yJ v).trans o,cl.l,cl.copies,rfl,p,_,rfl,.inl (SqL.of yB),?_⟩;have e9:r.copies.map V.str++ [V.str g]=(r.copies++ [g]).map V.str:=by simp
  rw[e9];have e8:((r.copies++ [g]).map V.str).length=r.copies.length+1:=by simp
  rw[e8];exact q4 c.1 c.2 _ _ _ (u.copy C q g) (vF.upd (bJ1 (bYt C)) _) qA.refl
theorem aYV:yO ["self","number","letter"] ["self","number"] (yH aJL):=scM
theorem aK9(T:vA mg)(cl:Cl K CB CL)(e:MG P w K mg base (CXR P w) (n+1) CB "letter_at" ["self","number"] (bQa K Rf CB CL))(d:MG P w K mg base CX0 (n+1) CB "answers_to" ["self","letter"] (aJ4 CB CL))(g:MG P w K mg base CX0 (n+1) CL "make_void" ["self"] (bZ5 CL))(a:ExG P w K mg base n "Answered" Rf.1 C1 "answered") (F:Fun K "cancel" "Book.cancel" aJL f fd):xD P w K mg base (CXR P w) (n+2) f fd ["self","number"] (aVG K Rf CB CL):=by
 have M:=aYV;refine F.okX (k:=n+1) M (λX A outer s H vs Q E q h=>?_);obtain⟨u,L,C,x,I,R,S,m,rfl,o,hR,q1,W⟩:=h;refine⟨_,(yC (yU (i:=2) (vR e q zO (pv 0) (yA (pv 1) yD))) (yC (y0 (yM aQl (yT yN rfl T.b_len y9 (yA (vR d q vQ (pv 0) (yA (pv 2) yD)) yD)) yE) (yF (zU a q rfl)) yS) (yF (yY (bXB g q vQ (pv 2)))))),?_⟩;obtain⟨D,J⟩:=o.book;refine⟨_,rfl,u,D,_,rfl,J,rfl,_,rfl,u,L,C,x,I,R,S,m,rfl,o,λk r b Y y U B=>?_,q1⟩;obtain⟨b',N,g1,t,O,⟨p,G⟩,g5⟩:=o.get y;obtain rfl:b=b':=bYw (B.symm.trans t);obtain⟨Z,q4⟩:=W k r Y y U;dsimp only[yW];refine⟨_,rfl,u,D,_,rfl,J,rfl,_,rfl,u,L,C,x,I,R,S,k,b,rfl,o,t,hR,λl hl=>?_⟩;refine⟨l,_,rfl,.inl (SqL.of yB),_,_,rfl,rfl,_,rfl,?_⟩;have j:=yG hl (.lst ((Bk.z7 R k).map λk=>(x.map V.ref).getD k .non));rw[bYe];refine qB (λc=>?_) (λc=>?_)
 ·refine((Z λz=>?_).go (aKe.of j)).raise a;have:=of_decide_eq_true c;rw[z]at this;simp at this
 ·have v:Bk.z7 R k= []:=by
   have:=of_decide_eq_false (Bool.eq_false_iff.mpr c);exact cQZ (by omega)
  refine⟨_,rfl,b,p,_,rfl,j _ _ G,rfl,b,p,k,r,N,rfl,j _ _ G,?_⟩;exact q4 v _ _ _ ((o.same j).set t O y (λr=>{r with link:=none,void:=true}) rfl) ((vF.of j).trans (vF.upd (aJA (bYt t)) _)) qA.refl
theorem bVC:yO ["self","day"] ["self","day"] (yH bVn):=scM
theorem bJW(cl:Cl K CB CL)(c:FnG P w K mg base (n+1) "counts" ["shut","date"] (Days.aVJ K))(a:ExG P w K mg base n "CountsNot" Rf.1 C1 "counts not") (F:Fun K "shut_day" "Book.shut_day" bVn f fd):xD P w K mg base (CXR P w) (n+2) f fd ["self","day"] (bZ4 K Rf CB CL):=by
 have p:=bVC;refine F.okX (k:=n+1) p (λr A outer s H v Q E g h=>?_);obtain⟨o,B,i,x,z,R,S,d,rfl,e,y,t,q⟩:=h;refine⟨_,(yC (y0 (wA (xP (xK c g rfl (yA (yZ (pv 0) rfl) (yA (pv 1) yD))))) (yF (zU a g rfl)) yS) (yF (yY (uC bYM bYR bYS xL (yZ (pv 0) rfl) (yA (pv 1) yD))))),?_⟩;obtain⟨l,m⟩:=e.book;refine⟨_,rfl,o,CB,l,_,_,rfl,m,cl.b,cl.shut,rfl,_,rfl,i,S,d,rfl,SqL.of e.sht,_,rfl,?_⟩;cases j:Dm.cts S d with
 |false=>exact onT rfl ((t j).raise a)
 |true=>
  refine onF rfl ⟨_,rfl,o,CB,l,_,_,rfl,m,cl.b,cl.shut,rfl,.inl ⟨rfl,_,SqL.of e.sht⟩,_,rfl,i,_,_,rfl,rfl,e.sht,zlt (by rw[bYe];omega),?_⟩;have u:S.map V.int++ [V.int d]=(S++ [d]).map V.int:=by simp
  rw[u];exact q j _ _ _ (e.shutD d) (vF.upd aYk _) qA.refl
theorem aY2:yO ["self","number","day","letter","reply"] ["self","number","day"] (yH aJP):=scM
theorem aYg(cl:Cl K CB CL)(g:MG P w K mg base (CXR P w) n CB "letter_at" ["self","number"] (bQa K Rf CB CL))(p:MG P w K mg base CX0 n CB "answers_to" ["self","letter"] (aJ4 CB CL))(a:FnX P w K mg base n "check_days" ["asked_day","reply_day"] (aXS K Rf)) (F:Fun K "put_day" "Book.put_day" aJP f fd):xD P w K mg base (CXR P w) (n+1) f fd ["self","number","day"] (aVO K Rf CB CL):=by
 have sc:=aY2;refine F.okX (k:=n) sc (λa6 A outer s H vs Q E M h=>?_);obtain⟨y,la,sa,I,cs,R,S,m,d,rfl,B,hR,a2,q1,q2⟩:=h;refine⟨_,(yC (yU (i:=3) (vR g M zO (pv 0) (yA (pv 1) yD))) (yC (y0 (yM wC (yZ (pv 3) rfl) xY) (yF (yY (aQr a M rfl (yA (yZ (vR g M zO (pv 0) (yA (yZ (pv 3) rfl) yD)) rfl) (yA (pv 2) yD))))) yS) (yC (zL PassesOwn.leaving rfl (xN (vR p M vQ (pv 0) (yA (pv 3) yD))) (xB (i:=4)) (yF (yY (aQr a M rfl (yA (pv 2) (yA (yZ (pv 4) rfl) yD)))))) (yF (zJ (pv 3) (pv 2) rfl))))),?_⟩;obtain⟨dx,hb⟩:=B.book;refine⟨_,rfl,y,dx,_,rfl,hb,rfl,_,rfl,y,la,sa,I,cs,R,S,m,rfl,B,λk r b em hk hv a4=>?_,q1⟩;obtain⟨b',cc,g1,g2,g3,⟨D,g4⟩,g5⟩:=B.get hk;obtain rfl:b=b':=bYw (a4.symm.trans g2);obtain⟨q3,q4⟩:=q2 k r em hk hv;dsimp only[yW];refine zB (λW H'=>W= [some (.ref y),some (.int m),some (.int d),some (.ref b),none]/\H'=H/\∀j,r.link=some j->Bk.dt R j<=d) ?_ λjn=>?_
 ·rintro W H' ⟨rfl,rfl,hj⟩;refine⟨_,rfl,y,dx,_,rfl,hb,rfl,_,rfl,y,la,sa,I,cs,R,S,k,b,rfl,B,g2,hR,λl hl=>?_⟩;have L:=yG hl (.lst ((Bk.z7 R k).map λk=>(I.map V.ref).getD k .non));refine⟨l,rfl,⟨_,SqL.of yB⟩,?_⟩;refine zM (xs:=(Bk.z7 R k).map λk=>(I.map V.ref).getD k .non) (λt σ H1=>∃o:Option V,σ= [some (.ref y),some (.int m),some (.int d),some (.ref b),o]/\H1=upd H' l (.lst ((Bk.z7 R k).map λk=>(I.map V.ref).getD k .non))/\∀i c,i<t->(Bk.z7 R k)[i]? =some c->d<=Bk.dt R c) ?_ ?_ ?_ ?_
  ·exact⟨none,rfl,rfl,λi c z=>absurd z (cQX _)⟩
  ·rintro t σ H1 ht ⟨o,rfl,rfl,Z⟩;exact SqL.of yB
  ·rintro t x σ H1 X ⟨o,rfl,rfl,Z⟩;rw[bYu]at X;cases J:(Bk.z7 R k)[t]? with
   |none=>rw[J]at X;cases X
   |some c=>
    rw[J]at X;have U:=bYt J;have a5:c<R.length:=bYI.mp (cQg.mp U).1;have G:=bK9 a5;obtain⟨bc,c2,f1,f2,f3,⟨a3,f4⟩,f5⟩:=(B.same L).get G;have ex:(I.map V.ref).getD c .non= .ref bc:=by simp only[bYX,f1];rfl
    obtain rfl:x= .ref bc:=by have z:=bYw X;rw[<- z];exact ex
    dsimp only[yW];refine⟨_,rfl,_,rfl,bc,CL,a3,_,_,rfl,f4,cl.l,cl.day,rfl,d,R[c].date,rfl,λq=>?_,λq=>?_⟩
    ·refine⟨_,rfl,rfl,λi c' hi C=>?_⟩;by_cases e:i=t
     ·subst e;rw[J]at C;cases C;rw[Bk.vB G];exact q
     ·exact Z i c' (by omega) C
    ·exact(q3 (.inr ⟨c,U,by rw[Bk.vB G];exact q⟩)).go (aKe.of L)
  ·rintro σ H1 ⟨o,rfl,rfl,Z⟩;have T:∀c∈Bk.z7 R k,d<=Bk.dt R c:=λc J=>by
    obtain⟨i,hi,e⟩:=bY1 J;exact Z i c (by rw[bYe];exact hi) (by rw[bK9 hi,e])
   refine⟨_,rfl,_,rfl,b,CL,D,_,rfl,L _ _ g4,cl.l,cl.day,(show 9<1000 by decide),?_⟩;exact q4 hj T _ _ _ ((B.same L).set g2 g3 hk (λr=>{r with date:=d}) rfl) ((vF.of L).trans (vF.upd (aJA (bYt g2)) _)) qA.refl
 ·refine⟨_,rfl,b,CL,D,_,_,rfl,g4,cl.l,cl.link,rfl,rfl,_,rfl,?_⟩;cases u:r.link with
  |none=>exact onF rfl (jn _ _ ⟨rfl,rfl,λj hj=>by rw[u]at hj;cases hj⟩)
  |some j=>
   obtain⟨qj,v,a1⟩:=a2.ans k j r hk u;obtain⟨bj,cj,f1,f2,f3,⟨a0,f4⟩,f5⟩:=B.get v;refine onT rfl ⟨_,rfl,y,dx,_,rfl,hb,rfl,_,rfl,b,CL,D,_,_,rfl,g4,cl.l,cl.link,rfl,?_⟩;rw[u];refine⟨y,la,sa,I,cs,R,S,(j:Nat),rfl,B,λk2 r2 b2 e2 Y a7 O=>?_,λhg=>?_⟩
   ·obtain rfl:j=k2:=by omega
    rw[v]at Y;cases Y;rw[f2]at O;cases O;refine⟨bj,CL,a0,_,_,rfl,f4,cl.l,cl.day,rfl,_,rfl,qj.date,d,rfl,λq=>?_,λq=>?_⟩
    ·refine jn _ _ ⟨rfl,rfl,λj' N=>?_⟩;rw[u]at N;cases N;rw[Bk.vB v];exact q
    ·exact q3 (.inl ⟨j,u,by rw[Bk.vB v];exact q⟩)
   ·rw[qI v a1.2.1]at hg;cases hg
end
end Desk
namespace Desk
open PySem L2 PyProof.Rows
open Bk (Row Rows)
open Thr (z6 vO qH)
theorem bQw{R:Rows}(b:Bk.qR R){rk:Nat->Nat}(o:Fm.Ok R.length (Bk.lk R) rk){i:Nat}(f:i<R.length):∀r q,R[i]? =some r->R[Fm.tp (Bk.lk R) rk i]? =some q->r.void=q.void:=
 Fm.aXj o (P:=λi=>∀r q,R[i]? =some r->R[Fm.tp (Bk.lk R) rk i]? =some q->r.void=q.void)
  (λi _ h r q c d=>by rw[Fm.zX h,c]at d;cases d;rfl)
  (λi j f h k r q c d=>by
   rw[Bk.vP c]at h;obtain⟨g,e,a⟩:=b.ans i j r c h;rw[Fm.v6 o f (by rw[Bk.vP c];exact h)]at d;rw[a.1,<- k g q e d,a.2.1]) (rk i) i (bYh _) f
theorem bZl{R:Rows}(b:Bk.qR R){k j:Nat}{r:Row}(e:R[k]? =some r)(h:r.void=false)(i:j∈Bk.thr R k):∃q,R[j]? =some q/\q.void=false:=by
 obtain⟨l,o,_,g⟩:=Bk.Z7 b.tree k;obtain⟨a,d⟩:=(g j).mp i;have c:=Bk.wB e;have f:=(Fm.bQu o c).1;refine⟨_,bK9 a,?_⟩;rw[bQw b o a _ _ (bK9 a) (by rw[d];exact bK9 f),<- bQw b o c _ _ e (bK9 f)];exact h
theorem bVR{R:Rows}(t:Bk.uQ R){i j:Nat}{r:Row}(f:R[i]? =some r)(hl:r.link=none)(a:j<R.length):j∈Bk.thr R i↔(Bk.thr R j).head? =some i:=by
 obtain⟨h,o,e⟩:=Bk.jE t a;obtain⟨b,d,_,c⟩:=Bk.Z7 t i;rw[c j,e];have g:Fm.tp (Bk.lk R) b i=i:=Fm.zX (by rw[Bk.vP f];exact hl);rw[g,Fm.jY d o a];exact⟨λz=>by rw[z.2],λz=>⟨a,bYw z⟩⟩
def jC(K:bYc)(Rf:Nat×Nat)(e CL:Nat):Sp:=λd H Q E=>∃ (c n g:Nat)(h j:List Nat)(R:Rows)(S:List Int)(m:Int),d= [.ref c,.int m]/\PB e CL H c n g h j R S/\R.length<64/\Bk.uQ R/\z6 Rf.2 H/\
 (Bk.z9 R m=false->xG K Rf H E "no letter")/\∀ (k:Nat)(r:Row),m=(k:Int)->R[k]? =some r->r.void=false->∀ (a:Hp)(l:Nat),(∀b u,(∀f,u≠HO.tbl f)->H b=some u->b≠l)->x0 H a->z6 Rf.2 a->a l=some (.lst ((Bk.thr R k).map λi=>V.int (i:Nat)))->Q (.ref l) a
def bVV(T f CL d la sa:Nat)(ls cs:List Nat)(H:Hp)(g:Rows)(e:List Int)(q:Hp->Prop):Prop:=∀ (c:Hp)(b a:List Nat),PB f CL c d la sa b a g e->qT (own la sa ls cs) H c->qA H (own la sa ls cs) (own la sa b a)->z6 T c->q c
def bVK(K:bYc)(Rf:Nat×Nat)(h CL:Nat):Sp:=λi H Q E=>∃ (f g c:Nat)(d e:List Nat)(R:Rows)(S:List Int)(m:Int)(a:Str),i= [.ref f,.int m,.str a]/\PB h CL H f g c d e R S/\R.length<64/\Bk.qR R/\z6 Rf.2 H/\
 (Bk.z9 R m=false->xG K Rf H E "no letter")/\∀ (k:Nat)(r:Row),m=(k:Int)->R[k]? =some r->r.void=false->∀ (b:Hp),PB h CL b f g c d e (Bk.laid R (Bk.thr R k) a) S->qT (own g c d e) H b->z6 Rf.2 b->Q (.int ((Bk.thr R k).length:Nat)) b
section
variable {K:bYc}
abbrev qP:Stmt:=xF "Book" "thread_of"
abbrev bKz:Stmt:=xF "Book" "lay_thread"
theorem aJ0:yO ["self","number","links","dates"] ["self","number"] (yH qP):=scM
theorem aQf:xJ ["self","number","links","dates"] (yH qP) "letter" [] [] {kind:= .function,names:= [(".0",.local),("letter",.local)],isGenerator:=false,isCoroutine:=false,more:= [] }:=
 lcM
theorem aJy(cl:Cl K CB CL)(c:MG P w K mg base (CXR P w) n CB "letter_at" ["self","number"] (bQa K Rf CB CL))(d:FnG P w K mg base n "thread" ["links","dates","number"] (Thr.aVQ Rf.2)) (F:Fun K "thread_of" "Book.thread_of" qP f fd):xD P w K mg base (CXR P w) (n+1) f fd ["self","number"] (jC K Rf CB CL):=by
 have Y:=aJ0;refine F.okX (k:=n) Y (λa1 A outer s H vs Q E hr h=>?_);obtain⟨N,X,sa,ls,cs,R,S,m,rfl,C,hR,hT,tb,q1,q2⟩:=h;refine⟨_,(yC (yY (vR c hr zO (pv 0) (yA (pv 1) yD))) (yC (aZE (i:=2) aQf rfl Y.nd rfl rfl (xN (yZ (pv 0) rfl)) (λ_ _ _ _ _=>zT) (λ_ _ _ _ _=>(aQq (K:=K) (pv 0) rfl))) (yC (aZE (i:=3) aQf rfl Y.nd rfl rfl (xN (yZ (pv 0) rfl)) (λ_ _ _ _ _=>zT) (λ_ _ _ _ _=>(aQq (K:=K) (pv 0) rfl))) (yF (yP (xK d hr rfl (yA (pv 2) (yA (pv 3) (yA (pv 1) yD))))))))),?_⟩;obtain⟨O,hb⟩:=C.book;have hl:(ls.map V.ref).length=R.length:=by rw[bYe];exact C.len
 refine⟨_,rfl,N,O,_,rfl,hb,rfl,_,rfl,N,X,sa,ls,cs,R,S,m,rfl,C,λk r b em hk q a2=>?_,q1⟩;subst em;have L:=Bk.wB hk;have x:(bYn R.length).filter (λ_=>true)=bYn R.length:=cXV.mpr λ_ _=>rfl;refine⟨_,rfl,N,CB,O,_,_,rfl,hb,cl.b,cl.letters,rfl,X,rfl,⟨_,SqL.of C.lst⟩,λD hD=>?_⟩;refine aWj (λ_=>true) (λi=>Thr.wN (Bk.lk R i)) (SqL.of C.lst) hD (zn (by omega)) (λj v q U R' J a=>a) (λj v q _ U R' J a=>?_) ?_
 ·have hj:j<R.length:=by rw[<- hl];exact(bYl.mp q).1
  have g:=bK9 hj;obtain⟨M,c2,p,G,T,⟨B,I⟩,k5⟩:=C.get g;obtain rfl:v= .ref M:=bYw (q.symm.trans p);rw[Bk.vP g]at a;exact⟨_,rfl,M,CL,B,_,_,rfl,(J _ (yK I hD)).trans I,cl.l,cl.link,rfl,a⟩
 rw[hl,x];dsimp only[yW];have p:=yG hD (.lst ((bYn R.length).map λi=>Thr.wN (Bk.lk R i)));have z:=C.same p;refine⟨_,rfl,N,CB,O,_,_,rfl,p _ _ hb,cl.b,cl.letters,rfl,X,rfl,⟨_,SqL.of z.lst⟩,λD2 y=>?_⟩;refine aWj (λ_=>true) (λi=>V.int (Bk.dt R i)) (SqL.of z.lst) y (zn (by omega)) (λj v q U R' J a=>a) (λj v q _ U R' J a=>?_) ?_
 ·have hj:j<R.length:=by rw[<- hl];exact(bYl.mp q).1
  have g:=bK9 hj;obtain⟨M,c2,p,G,T,⟨B,I⟩,k5⟩:=z.get g;obtain rfl:v= .ref M:=bYw (q.symm.trans p);rw[Bk.vB g]at a;exact⟨_,rfl,M,CL,B,_,_,rfl,(J _ (yK I y)).trans I,cl.l,cl.day,rfl,a⟩
 rw[hl,x];dsimp only[yW];have G:=yG y (.lst ((bYn R.length).map λi=>V.int (Bk.dt R i)));obtain⟨rk,o⟩:=hT;have Z:z6 Rf.2 (upd (upd H D (.lst ((bYn R.length).map λi=>Thr.wN (Bk.lk R i)))) D2 (.lst ((bYn R.length).map λi=>V.int (Bk.dt R i)))):=by
  have W:=p.trans G;rcases tb with t|⟨c',t1,t2⟩
  ·exact .inl (W _ _ t)
  ·exact .inr ⟨c',W _ _ t1,W _ _ t2⟩
 refine⟨_,rfl,_,rfl,_,rfl,D,D2,R.length,Bk.lk R,rk,Bk.dt R,k,rfl,G _ _ yB,yB,o,by omega,L,Z,λH3 r3 a0 n3 T t3 h3 hp hm=>?_⟩;have e:=Bk.aXi L ⟨rk,o,hp,hm⟩;refine q2 k r rfl hk q H3 r3 (λb u nt e=>n3 b u nt ((p.trans G) _ _ e)) ((p.trans G).t.trans T) t3 ?_;rw[e];exact h3
end
end Desk
namespace Desk
open PySem L2 PyProof.Rows
open Bk (Row Rows)
open Thr (z6 vO qH)
theorem xT{T:Nat}{o:List Nat}{H f:Hp}(t:z6 T H)(k:vF o H f)(h:∀b∈o,∀u,H b=some u->(∃c,u= .lst c)\/∃C a fs,u= .ins C a fs):z6 T f:=by
 have no:∀b u,H b=some u->(∀c,u≠ .lst c)->(∀C a fs,u≠ .ins C a fs)->b∉o:=λb u e j l z=>by
  rcases h b z u e with⟨c,q⟩|⟨C,a,fs,q⟩
  ·exact j _ q
  ·exact l _ _ _ q
 rcases t with t|⟨i,g,d⟩
 ·exact .inl (k _ _ (no _ _ t (by intro _ z;cases z) (by intro _ _ _ z;cases z)) t)
 ·exact .inr ⟨i,k _ _ (no _ _ g (by intro _ z;cases z) (by intro _ _ _ z;cases z)) g,k _ _ (no _ _ d (by intro _ z;cases z) (by intro _ _ _ z;cases z)) d⟩
theorem PB.kinds{l CL:Nat}{H:Hp}{p la sa:Nat}{ls cs:List Nat}{R:Rows}{S:List Int}(h:PB l CL H p la sa ls cs R S):∀b∈own la sa ls cs,∀u,H b=some u->(∃m,u= .lst m)\/∃C g fs,u= .ins C g fs:=λb a u e=>by
 rcases bYj.mp a with rfl|a
 ·rw[h.lst]at e;cases e;exact .inl ⟨_,rfl⟩
 rcases bYj.mp a with rfl|a
 ·rw[h.sht]at e;cases e;exact .inl ⟨_,rfl⟩
 rcases bYP.mp a with a|a
 ·obtain⟨i,c,q⟩:=bY1 a;obtain⟨r,n,o,f,d,⟨g,j⟩,k⟩:=h.get (bK9 (show i<R.length by rw[<- h.len];exact c));rw[bK9 c,q]at f;cases f;rw[j]at e;cases e;exact .inr ⟨_,_,_,rfl⟩
 ·obtain⟨i,c,q⟩:=bY1 a;obtain⟨r,n,o,f,d,j,k⟩:=h.get (bK9 (show i<R.length by rw[<- h.clen];exact c));rw[bK9 c,q]at d;cases d;rw[k]at e;cases e;exact .inl ⟨_,rfl⟩
theorem PB.notown{k CL:Nat}{H:Hp}{r la sa:Nat}{ls cs:List Nat}{R:Rows}{S:List Int}(h:PB k CL H r la sa ls cs R S){l:Nat}(n:∀b u,(∀m,u≠HO.tbl m)->H b=some u->b≠l):l∉own la sa ls cs:=λa=>by
 rcases bYj.mp a with e|a
 ·exact n la _ (by intro _ z;cases z) h.lst e.symm
 rcases bYj.mp a with e|a
 ·exact n sa _ (by intro _ z;cases z) h.sht e.symm
 rcases bYP.mp a with a|a
 ·obtain⟨i,c,q⟩:=bY1 a;obtain⟨s,o,p,f,d,⟨t,g⟩,j⟩:=h.get (bK9 (show i<R.length by rw[<- h.len];exact c));rw[bK9 c,q]at f;cases f;exact n l _ (by intro _ z;cases z) g rfl
 ·obtain⟨i,c,q⟩:=bY1 a;obtain⟨s,o,p,f,d,g,j⟩:=h.get (bK9 (show i<R.length by rw[<- h.clen];exact c));rw[bK9 c,q]at d;cases d;exact n l _ (by intro _ z;cases z) j rfl
theorem PB.notnone{c CL:Nat}{H:Hp}{a la sa:Nat}{ls cs:List Nat}{R:Rows}{S:List Int}(h:PB c CL H a la sa ls cs R S){l:Nat}(n:H l=none):l∉own la sa ls cs:=h.notown λb u _ e=>yK e n
theorem bXF{j:Nat}{q:Row}{c:Nat}{name:Str}(a:q.void=false):aQ2 "file" (.str name) (aZs j q c)=aZs j {q with place:=name} c:=by
 have b:qZ {q with place:=name}= .str name:=aXq (r:={q with place:=name}) a;unfold aZs;rw[b];rfl
theorem aQe(R:Rows)(l:List Nat)(k:Nat)(name:Str):Bk.laid R (l++ [k]) name=Bk.xR (Bk.laid R l name) k λr=>{r with place:=name}:=by
 unfold Bk.laid;rw[cJj];rfl
theorem aZp{R:Rows}{l:List Nat}{name:Str}{j:Nat}{q:Row}(h:R[j]? =some q):∃a,(Bk.laid R l name)[j]? =some a/\a.void=q.void:=by
 rw[Bk.vW,h];by_cases e:j∈l
 ·rw[if_pos e];exact⟨_,rfl,rfl⟩
 ·rw[if_neg e];exact⟨q,rfl,rfl⟩
def bQb(K:bYc)(Rf:Nat×Nat)(g CL:Nat):Sp:=λf H Q E=>∃ (e l h:Nat)(a k:List Nat)(R:Rows)(S:List Int)(i j:Nat)(b d:Nat)(r q:Row),f= [.ref e,.ref b,.ref d]/\PB g CL H e l h a k R S/\R.length<64/\Bk.uQ R/\z6 Rf.2 H/\
 R[i]? =some r/\r.void=false/\R[j]? =some q/\q.void=false/\a[i]? =some b/\a[j]? =some d/\(r.link≠none->xG K Rf H E "has one")/\(r.link=none->(Bk.thr R j).head? =some i->xG K Rf H E "own thread")/\
 (r.link=none->(Bk.thr R j).head? ≠some i->(r.way=q.way->xG K Rf H E "same way")/\(r.way≠q.way->(r.partner≠q.partner->xG K Rf H E "other partner")/\(r.partner=q.partner->(r.date<q.date->xG K Rf H E "too early")/\(q.date<=r.date->∀c,x0 H c->z6 Rf.2 c->Q .non c))))
section
variable {K:bYc}
theorem bWO:yO ["self","number","name","numbers","member","letter"] ["self","number","name"] (yH bKz):=scM
theorem bWx(T:vA mg)(cl:Cl K CB CL)(a:MG P w K mg base (CXR P w) n CB "thread_of" ["self","number"] (jC K Rf CB CL))(F:Fun K "lay_thread" "Book.lay_thread" bKz f fd):xD P w K mg base (CXR P w) (n+1) f fd ["self","number","name"] (bVK K Rf CB CL):=by
 have sc:=bWO;refine F.okX (k:=n) sc (λa2 A outer s H vs Q E hr h=>?_);obtain⟨G,J,N,Z,W,R,S,m,d,rfl,hB,hR,y,tb,q1,q2⟩:=h;refine⟨_,(yC (yU (i:=3) (vR a hr zO (pv 0) (yA (pv 1) yD))) (yC (zL PassesOwn.leaving rfl (xN (pv 3)) (xB (i:=4)) (yC (yU (i:=5) (yL yI (yZ (pv 0) rfl) (pv 4))) (yF (zJ (pv 5) (pv 2) rfl)))) (yF (yP (yT yN rfl T.b_len y9 (yA (pv 3) yD)))))),?_⟩;obtain⟨dx,hb⟩:=hB.book;refine⟨_,rfl,G,dx,_,rfl,hb,rfl,_,rfl,G,J,N,Z,W,R,S,m,rfl,hB,hR,y.tree,tb,q1,λk r em hk hv H1 l _ k1 t1 hl=>?_⟩;dsimp only[yW];have B:=hB.sameT k1;have a1:=Bk.wB hk;refine⟨_,rfl,l,rfl,⟨_,SqL.of hl⟩,?_⟩;refine zM (xs:=(Bk.thr R k).map λi=>V.int (i:Nat)) (λt σ p=>∃I L:Option V,σ= [some (.ref G),some (.int m),some (.str d),some (.ref l),I,L]/\PB CB CL p G J N Z W (Bk.laid R ((Bk.thr R k).take t) d) S/\vF (own J N Z W) H1 p/\p l=some (.lst ((Bk.thr R k).map λi=>V.int (i:Nat)))) ?_ ?_ ?_ ?_
 ·exact⟨none,none,rfl,B,λb u _ e=>e,hl⟩
 ·rintro t σ p ht ⟨I,L,rfl,g,C,o⟩;exact SqL.of o
 ·rintro t x σ p D ⟨I,L,rfl,g,C,o⟩;rw[bYu]at D;cases M:(Bk.thr R k)[t]? with
  |none=>rw[M]at D;cases D
  |some j=>
   rw[M]at D;cases D;obtain⟨qj,Y,X⟩:=bZl y hk hv (bYt M);obtain⟨q',q,v⟩:=aZp (l:=(Bk.thr R k).take t) (name:=d) Y;rw[X]at v;obtain⟨b,c,g1,g2,g3,⟨U,g4⟩,g5⟩:=g.get q;obtain⟨a0,O⟩:=g.book;dsimp only[yW];refine⟨_,rfl,G,CB,a0,_,_,rfl,O,cl.b,cl.letters,rfl,_,rfl,J,_,_,_,rfl,rfl,SqL.of g.lst,yR g1,?_⟩;dsimp only[yW];refine⟨_,rfl,_,rfl,b,CL,U,_,rfl,g4,cl.l,cl.file,(show 9<1000 by decide),_,_,rfl,?_,C.trans (vF.upd (aJA (bYt g2)) _),?_⟩
   ·rw[bXF v,show(Bk.thr R k).take (t+1)=(Bk.thr R k).take t++ [j]from by rw[cQh,M];rfl,aQe];exact g.set g2 g3 q (λr=>{r with place:=d}) rfl
   ·rw[yJ (λz=>by rw[z,g4]at o;cases o)];exact o
 ·rintro σ p ⟨I,L,rfl,g,C,o⟩;rw[bYe,cQb]at g;refine⟨_,rfl,l,_,rfl,.inl (SqL.of o),?_⟩;rw[bYe];exact q2 k r em hk hv p g ((qT.of k1).trans C.t) (xT t1 C B.kinds)
abbrev aYz:Stmt:=xF "Book" "check_hanging"
abbrev bVf:Stmt:=xF "Book" "hang"
theorem bXR:yO ["self","letter","asked"] ["self","letter","asked"] (yH aYz):=scM
theorem aVg(d:Nat):∀ns:List Nat,inV (.int (d:Nat)) (ns.map λi=>V.int (i:Nat))=ns.contains d
 |[]=>rfl
 |n::r=>by have a:=aVg d r;unfold inV at a ⊢;rw[bY0,cXs,a,cXx];congr 1;show((n:Int)==(d:Int))=(d==n);rw[Bool.eq_iff_iff,beq_iff_eq,beq_iff_eq];omega
theorem aZc:∀ns:List Nat,(ns.map λi=>V.int (i:Nat)).all W0=true
 |[]=>rfl
 |n::r=>by rw[bY0,cZm,aZc r];rfl
theorem bXh(cl:Cl K CB CL)(o:MG P w K mg base (CXR P w) (n+1) CB "thread_of" ["self","number"] (jC K Rf CB CL))(g:FnX P w K mg base (n+1) "check_days" ["asked_day","reply_day"] (aXS K Rf)) (m:ExG P w K mg base n "HasOne" Rf.1 C1 "has one") (d:ExG P w K mg base n "OwnThread" Rf.1 C2 "own thread") (e:ExG P w K mg base n "SameWay" Rf.1 C3 "same way") (a:ExG P w K mg base n "OtherPartner" Rf.1 C4 "other partner") (F:Fun K "check_hanging" "Book.check_hanging" aYz f fd):xD P w K mg base (CXR P w) (n+2) f fd ["self","letter","asked"] (bQb K Rf CB CL):=by
 have sc:=bXR;refine F.okX (k:=n+1) sc (λa0 A outer s H vs Q E C h=>?_);obtain⟨ba,la,sa,ls,cs,R,S,i,j,b,G,r,q,rfl,I,hR,hT,tb,T,hv,hj,hw,U,Y,q1,q2,q3⟩:=h;refine⟨_,(yC (y0 (yM wC (yZ (pv 1) rfl) xY) (yF (zU m C rfl)) yS) (yC (y0 (yM wL (yZ (pv 2) rfl) (vR o C zO (pv 0) (yA (yZ (pv 1) rfl) yD))) (yF (zU d C rfl)) yS) (yC (y0 (yM x8 (yZ (pv 1) rfl) (yZ (pv 2) rfl)) (yF (zU e C rfl)) yS) (yC (y0 (yM Y5 (yZ (pv 1) rfl) (yZ (pv 2) rfl)) (yF (zU a C rfl)) yS) (yF (yY (aQr g C rfl (yA (yZ (pv 2) rfl) (yA (yZ (pv 1) rfl) yD))))))))),?_⟩;obtain⟨dx,hb⟩:=I.book;obtain⟨b',c1,g1,g2,g3,⟨p,M⟩,g5⟩:=I.get T;obtain rfl:b=b':=bYw (U.symm.trans g2);obtain⟨X,c2,f1,f2,f3,⟨u,f4⟩,f5⟩:=I.get hj;obtain rfl:G=X:=bYw (Y.symm.trans f2);refine⟨_,rfl,b,CL,p,_,_,rfl,M,cl.l,cl.link,rfl,rfl,_,rfl,?_⟩;cases t:r.link with
 |some x=>exact onT rfl ((q1 (by rw[t];simp)).raise m)
 |none=>
  have O:=q2 t;have N:=q3 t;refine onF rfl ⟨_,rfl,G,CL,u,_,_,rfl,f4,cl.l,cl.number,rfl,_,rfl,ba,dx,_,rfl,hb,rfl,_,rfl,b,CL,p,_,_,rfl,M,cl.l,cl.number,rfl,?_⟩;refine⟨ba,la,sa,ls,cs,R,S,(i:Nat),rfl,I,hR,hT,tb,(λZ=>by rw[qI T hv]at Z;cases Z),λk r' em hk a1 H1 l _ v D hl=>?_⟩;obtain rfl:i=k:=by omega
  refine⟨l,_,rfl,.inl (SqL.of hl),rfl,aZc _,_,rfl,?_⟩;rw[if_neg (by decide),aVg];have L:=Bk.wB hj;have own:=bVR hT T t L;have B:=v _ _ (λ_ z=>by cases z) M;have y:=v _ _ (λ_ z=>by cases z) f4;refine qB (λc=>?_) (λc=>?_)
  ·exact((O (own.mp (cQK.mp c))).go ⟨v,λ_=>D⟩).raise d
  ·have W:(Bk.thr R j).head? ≠some i:=λz=>c (cQK.mpr (own.mpr z));obtain⟨q4,q5⟩:=N W;refine⟨_,rfl,b,CL,p,_,_,rfl,B,cl.l,cl.way,rfl,_,rfl,G,CL,u,_,_,rfl,y,cl.l,cl.way,rfl,rfl,_,rfl,?_⟩;have e1:decide (V.str r.way=V.str q.way)=decide (r.way=q.way):=by rw[Bool.eq_iff_iff];simp
   rw[e1];refine qB (λc=>?_) (λc=>?_)
   ·exact((q4 (of_decide_eq_true c)).go ⟨v,λ_=>D⟩).raise e
   ·obtain⟨q6,q7⟩:=q5 (of_decide_eq_false (Bool.eq_false_iff.mpr c));refine⟨_,rfl,b,CL,p,_,_,rfl,B,cl.l,cl.partner,rfl,_,rfl,G,CL,u,_,_,rfl,y,cl.l,cl.partner,rfl,rfl,_,rfl,?_⟩;have e2:decide (V.str r.partner=V.str q.partner)=decide (r.partner=q.partner):=by rw[Bool.eq_iff_iff];simp
    rw[e2];cases hp:decide (r.partner=q.partner)with
    |false=>exact onT rfl (((q6 (of_decide_eq_false hp)).go ⟨v,λ_=>D⟩).raise a)
    |true=>obtain⟨q8,q9⟩:=q7 (of_decide_eq_true hp);refine onF rfl ⟨_,rfl,G,CL,u,_,_,rfl,y,cl.l,cl.day,rfl,_,rfl,b,CL,p,_,_,rfl,B,cl.l,cl.day,rfl,q.date,r.date,rfl,λJ=>q9 J H1 v D,λJ=>(q8 J).go ⟨v,λ_=>D⟩⟩
def bZY(K:bYc)(Rf:Nat×Nat)(b CL:Nat):Sp:=λg H Q E=>∃ (a f c:Nat)(d e:List Nat)(R:Rows)(S:List Int)(m o:Int),g= [.ref a,.int m,.int o]/\PB b CL H a f c d e R S/\R.length<64/\Bk.qR R/\z6 Rf.2 H/\
 (Bk.z9 R m=false\/Bk.z9 R o=false->xG K Rf H E "no letter")/\∀ (i j:Nat)(r q:Row),m=(i:Int)->o=(j:Int)->R[i]? =some r->r.void=false->R[j]? =some q->q.void=false->
 (r.link≠none->xG K Rf H E "has one")/\(r.link=none->(Bk.thr R j).head? =some i->xG K Rf H E "own thread")/\
 (r.link=none->(Bk.thr R j).head? ≠some i->(r.way=q.way->xG K Rf H E "same way")/\(r.way≠q.way->(r.partner≠q.partner->xG K Rf H E "other partner")/\(r.partner=q.partner->(r.date<q.date->xG K Rf H E "too early")/\ (q.date<=r.date->bVV Rf.2 b CL a f c d e H (Bk.xR (Bk.laid R (Bk.thr R i) q.place) i λr=>{r with link:=some j}) S (Q .non)))))
theorem bVu:yO ["self","number","other","letter","asked"] ["self","number","other"] (yH bVf):=scM
theorem bJN(cl:Cl K CB CL)(a:MG P w K mg base (CXR P w) n CB "letter_at" ["self","number"] (bQa K Rf CB CL))(c:MG P w K mg base (CXR P w) n CB "check_hanging" ["self","letter","asked"] (bQb K Rf CB CL))(d:MG P w K mg base (CXR P w) n CB "lay_thread" ["self","number","name"] (bVK K Rf CB CL)) (F:Fun K "hang" "Book.hang" bVf f fd):xD P w K mg base (CXR P w) (n+1) f fd ["self","number","other"] (bZY K Rf CB CL):=by
 have sc:=bVu;refine F.okX (k:=n) sc (λa1 A outer s H vs Q E L h=>?_);obtain⟨e,v,u,M,y,R,S,m,o,rfl,I,hR,B,tb,q1,q2⟩:=h;refine⟨_,(yC (yU (i:=3) (vR a L zO (pv 0) (yA (pv 1) yD))) (yC (yU (i:=4) (vR a L zO (pv 0) (yA (pv 2) yD))) (yC (yY (vR c L zO (pv 0) (yA (pv 3) (yA (pv 4) yD)))) (yC (yY (vR d L zO (pv 0) (yA (pv 1) (yA (yZ (pv 4) rfl) yD)))) (yF (zJ (pv 3) (pv 2) rfl)))))),?_⟩;obtain⟨N,W⟩:=I.book;refine⟨_,rfl,e,N,_,rfl,W,rfl,_,rfl,e,v,u,M,y,R,S,m,rfl,I,λi r b em C hv D=>?_,λx=>q1 (.inl x)⟩;dsimp only[yW];refine⟨_,rfl,e,N,_,rfl,W,rfl,_,rfl,e,v,u,M,y,R,S,o,rfl,I,λj q T eo X hw G=>?_,λx=>q1 (.inr x)⟩;dsimp only[yW];obtain⟨q3,q4,q5⟩:=q2 i j r q em eo C hv X hw;refine⟨_,rfl,e,N,_,rfl,W,rfl,_,rfl,_,rfl,e,v,u,M,y,R,S,i,j,b,T,r,q,rfl,I,hR,B.tree,tb,C,hv,X,hw,D,G,q3,q4,λh1 h2=>?_⟩;obtain⟨q6,q7⟩:=q5 h1 h2;refine⟨q6,λh3=>?_⟩;obtain⟨q8,q9⟩:=q7 h3;refine⟨q8,λh4=>?_⟩;obtain⟨U,V⟩:=q9 h4;refine⟨U,λh5 H1 k1 t1=>?_⟩;have g:=I.sameT k1;obtain⟨Z,O⟩:=g.book;obtain⟨Y,c2,f1,f2,f3,⟨a0,f4⟩,f5⟩:=g.get X;obtain rfl:T=Y:=bYw (G.symm.trans f2);refine⟨_,rfl,e,Z,_,rfl,O,rfl,_,rfl,_,rfl,T,CL,a0,_,_,rfl,f4,cl.l,cl.file,rfl,?_⟩;rw[aXq hw];refine⟨e,v,u,M,y,R,S,m,q.place,rfl,g,hR,B,t1,(λx=>by rw[em,qI C hv]at x;cases x),λk r' a4 hk a2 H2 p k2 t2=>?_⟩;obtain rfl:i=k:=by omega
 rw[C]at hk;cases hk;obtain⟨r2,z,a3⟩:=aZp (l:=Bk.thr R i) (name:=q.place) C;obtain⟨b',c1,g1,g2,g3,⟨J,g4⟩,g5⟩:=p.get z;obtain rfl:b=b':=bYw (D.symm.trans g2);subst eo;refine⟨_,rfl,_,rfl,b,CL,J,_,rfl,g4,cl.l,cl.link,(show 9<1000 by decide),?_⟩;have kk:=vF.upd (H:=H2) (aJA (la:=v) (sa:=u) (cs:=y) (bYt g2)) (.ins CL J (aZs i {r2 with link:=some j} c1));exact V h5 _ _ _ (p.set g2 g3 z (λr=>{r with link:=some j}) rfl) (((qT.of k1).trans k2).trans kk.t) qA.refl (xT t2 kk p.kinds)
end
end Desk
namespace Desk
open PySem L2 PyProof.Rows
open Bk (Row Rows xM Ans xU)
open Thr (z6 vO qH)
def xE:xM->List V
 |.enter e d b t=> [.str e,.int d,.str b,.int t]
 |.reply m d t=> [.str "reply",.int m,.int d,.int t]
 |.hang m o=> [.str "hang",.int m,.int o]
 |.loose m=> [.str "loose",.int m]
 |.date m d=> [.str "date",.int m,.int d]
 |.term m t=> [.str "term",.int m,.int t]
 |.copy m b=> [.str "copy",.int m,.str b]
 |.file m a=> [.str "file",.int m,.str a]
 |.void m=> [.str "void",.int m]
 |.shut d=> [.str "shut",.int d]
 |.state m=> [.str "state",.int m]
 |.thread m=> [.str "thread",.int m]
 |.copies m=> [.str "copies",.int m]
 |.letters a=> [.str "letters",.str a]
 |.on c d=> [.str (if c then "overdue" else "waiting"),.int d]
def wX(o:List Nat)(H:Hp):Ans->V->Prop
 |.num n,v=>v= .int n
 |.txt x,v=>v= .str x
 |.nums l,v=>∃p,v= .ref p/\p∉o/\H p=some (.lst (l.map λi=>V.int (i:Nat)))
 |.txts l,v=>∃p,v= .ref p/\p∉o/\H p=some (.lst (l.map V.str))
 |.row r,v=>∃p,v= .ref p/\p∉o/\H p=some (.tup (stV r))
def uD(H:Hp)(v:V):Prop:=∀p,v= .ref p->∀u,(∀a,u≠HO.tbl a)->H p≠some u
theorem uD.none{H:Hp}{l:Nat}(h:H l=none):uD H (.ref l):=λp z u _ e=>by cases z;rw[h]at e;cases e
theorem uD.nl{H:Hp}{l:Nat}(h:∀b u,(∀c,u≠HO.tbl c)->H b=some u->b≠l):uD H (.ref l):=λp z u a e=>by cases z;exact h _ u a e rfl
structure Sz(R:Rows)(S:List Int):Prop where
 r:R.length<64
 s:S.length<64
 c:∀r∈R,r.copies.length<=1000
def aZR(K:bYc)(Rf:Nat×Nat)(k CL:Nat)(p:xM->Prop):Sp:=λo H Q E=>∃ (j m f d:Nat)(h i:List Nat)(R:Rows)(S:List Int)(e:xM),o= [.ref j,.ref m]/\p e/\H m=some (.tup (xE e))/\PB k CL H j f d h i R S/\Sz R S/\Bk.qR R/\z6 Rf.2 H/\
 (∀ (a:Ans)(n:Rows)(l:List Int)(v:V)(g:Hp)(b c:List Nat),xU R S e a n l->PB k CL g j f d b c n l->qT (own f d h i) H g->qA H (own f d h i) (own f d b c)->z6 Rf.2 g->wX (own f d b c) g a v->uD H v->Q v g)/\(∀t,xU R S e (.txt t) R S->xG K Rf H E t)
section
variable {K:bYc}
abbrev X2:Stmt:=xC "do_enter"
theorem aJW:yO ["book","deed"] ["book","deed"] (yH X2):=scM
theorem aJu(a:MG P w K mg base (CXR P w) n CB "enter" ["self","way","day","partner","term"] (bQf K Rf CB CL))(F:Fun K "do_enter" "do_enter" X2 f fd):xD P w K mg base (CXR P w) (n+1) f fd ["book","deed"] (aZR K Rf CB CL λe=>∃ (c:Str)(d:Int)(b:Str)(t:Int),e= .enter c d b t):=by
 have D:=aJW;refine F.okX (k:=n) D (λN A outer s H U Q E G h=>?_);obtain⟨B,i,C,v,x,y,R,S,e,rfl,⟨c,d,b,t,rfl⟩,g,o,L,M,tb,q,O⟩:=h;refine⟨_,(yF (yP (vR a G zO (pv 0) (yA (yL yX (pv 1) yE) (yA (yL yX (pv 1) yE) (yA (yL yX (pv 1) yE) (yA (yL yX (pv 1) yE) yD))))))),?_⟩;obtain⟨I,T⟩:=o.book;have tk:∀ {j},vF (own C v x y) H j->z6 Rf.2 j:=λk=>xT tb k o.kinds;have g:H i=some (.tup _):=g;refine⟨_,rfl,B,I,_,rfl,T,rfl,_,rfl,i,_,0,_,rfl,rfl,SqT.of g,rfl,_,rfl,i,_,1,_,rfl,rfl,SqT.of g,rfl,_,rfl,i,_,2,_,rfl,rfl,SqT.of g,rfl,_,rfl,i,_,3,_,rfl,rfl,SqT.of g,rfl,?_⟩;refine⟨B,C,v,x,y,R,S,c,d,b,t,rfl,o,by have:=L.r;omega,λl j p u m k J=>?_,λl=>O _ (.enterT l)⟩;exact q (.num R.length) _ _ _ j p u (.enter l) m k.t J (tk k) rfl (λ_ z=>nomatch z)
abbrev X4:Stmt:=xC "do_reply"
theorem aJY:yO ["book","deed"] ["book","deed"] (yH X4):=scM
theorem aJw(a:MG P w K mg base (CXR P w) n CB "reply" ["self","number","day","term"] (bQl K Rf CB CL))(F:Fun K "do_reply" "do_reply" X4 f fd):xD P w K mg base (CXR P w) (n+1) f fd ["book","deed"] (aZR K Rf CB CL λe=>∃ (m:Int)(d:Int)(t:Int),e= .reply m d t):=by
 have I:=aJY;refine F.okX (k:=n) I (λT A outer s H W Q E J h=>?_);obtain⟨D,g,G,v,x,C,R,S,e,rfl,⟨m,d,t,rfl⟩,b,o,N,O,tb,q,l⟩:=h;refine⟨_,(yF (yP (vR a J zO (pv 0) (yA (yL yX (pv 1) yE) (yA (yL yX (pv 1) yE) (yA (yL yX (pv 1) yE) yD)))))),?_⟩;obtain⟨L,V⟩:=o.book;have tk:∀ {i},vF (own G v x C) H i->z6 Rf.2 i:=λk=>xT tb k o.kinds;have b:H g=some (.tup _):=b;refine⟨_,rfl,D,L,_,rfl,V,rfl,_,rfl,g,_,1,_,rfl,rfl,SqT.of b,rfl,_,rfl,g,_,2,_,rfl,rfl,SqT.of b,rfl,_,rfl,g,_,3,_,rfl,rfl,SqT.of b,rfl,?_⟩;refine⟨D,G,v,x,C,R,S,m,d,t,rfl,o,by have:=N.r;omega,λh=>l _ (.replyN h),λh c=>l _ (.replyT h c),λk r U y B c=>?_⟩;subst U;exact⟨λb=>l _ (.replyE y B c b),λb i p u j k M=>q (.num R.length) _ _ _ i p u (.reply y B c b) j k.t M (tk k) rfl (λ_ z=>nomatch z)⟩
abbrev aQF:Stmt:=xC "do_hang"
theorem aWS:yO ["book","deed"] ["book","deed"] (yH aQF):=scM
theorem aWx(a:MG P w K mg base (CXR P w) n CB "hang" ["self","number","other"] (bZY K Rf CB CL))(F:Fun K "do_hang" "do_hang" aQF f fd):xD P w K mg base (CXR P w) (n+1) f fd ["book","deed"] (aZR K Rf CB CL λe=>∃ (m:Int)(o:Int),e= .hang m o):=by
 have U:=aWS;refine F.okX (k:=n) U (λa0 A outer s H vs Q E V h=>?_);obtain⟨O,B,T,L,M,N,R,S,e,rfl,⟨m,o,rfl⟩,u,D,Z,C,tb,q,g⟩:=h;refine⟨_,(yC (yY (vR a V zO (pv 0) (yA (yL yX (pv 1) yE) (yA (yL yX (pv 1) yE) yD)))) (yF (yP yQ))),?_⟩;obtain⟨X,hb⟩:=D.book;have tk:∀ {x},vF (own T L M N) H x->z6 Rf.2 x:=λk=>xT tb k D.kinds;have u:H B=some (.tup _):=u;refine⟨_,rfl,O,X,_,rfl,hb,rfl,_,rfl,B,_,1,_,rfl,rfl,SqT.of u,rfl,_,rfl,B,_,2,_,rfl,rfl,SqT.of u,rfl,?_⟩;refine⟨O,T,L,M,N,R,S,m,o,rfl,D,Z.r,C,tb,λh=>g _ (.hangN h),λi j r q' em W d c l hw=>?_⟩;subst em;subst W;refine⟨λh=>g _ (.hangH d c l hw h),λh b=>g _ (.hangO d c l hw h b),λh b=>⟨λp=>g _ (.hangW d c l hw h b p),λp=>⟨λv=>g _ (.hangP d c l hw h b p v),λv=>⟨λJ=>g _ (.hangE d c l hw h b p v J),λJ x G I y k Y t=>?_⟩⟩⟩⟩;exact q (.txt "hung") _ _ _ x G I (.hang d c l hw h b p v J) y k Y t rfl (λ_ z=>nomatch z)
abbrev X3:Stmt:=xC "do_loose"
theorem aJX:yO ["book","deed"] ["book","deed"] (yH X3):=scM
theorem aJv(a:MG P w K mg base (CXR P w) n CB "loosen" ["self","number"] (aVN K Rf CB CL))(F:Fun K "do_loose" "do_loose" X3 f fd):xD P w K mg base (CXR P w) (n+1) f fd ["book","deed"] (aZR K Rf CB CL λe=>∃ (m:Int),e= .loose m):=by
 have D:=aJX;refine F.okX (k:=n) D (λM A outer s H T Q E G h=>?_);obtain⟨B,u,C,l,o,x,R,S,e,rfl,⟨m,rfl⟩,c,g,U,L,tb,q,y⟩:=h;refine⟨_,(yC (yY (vR a G zO (pv 0) (yA (yL yX (pv 1) yE) yD))) (yF (yP yQ))),?_⟩;obtain⟨I,O⟩:=g.book;have tk:∀ {b},vF (own C l o x) H b->z6 Rf.2 b:=λk=>xT tb k g.kinds;have c:H u=some (.tup _):=c;refine⟨_,rfl,B,I,_,rfl,O,rfl,_,rfl,u,_,1,_,rfl,rfl,SqT.of c,rfl,?_⟩;refine⟨B,C,l,o,x,R,S,m,rfl,g,λh=>y _ (.oneN h (.inl rfl)),λk r N p v=>?_⟩;subst N;exact⟨λh=>y _ (.looseN p v h),λh b i j d k J=>q (.txt "loose") _ _ _ b i j (.loose p v h) d k.t J (tk k) rfl (λ_ z=>nomatch z)⟩
abbrev aQD:Stmt:=xC "do_date"
theorem aWQ:yO ["book","deed"] ["book","deed"] (yH aQD):=scM
theorem aWv(a:MG P w K mg base (CXR P w) n CB "put_day" ["self","number","day"] (aVO K Rf CB CL))(F:Fun K "do_date" "do_date" aQD f fd):xD P w K mg base (CXR P w) (n+1) f fd ["book","deed"] (aZR K Rf CB CL λe=>∃ (m:Int)(d:Int),e= .date m d):=by
 have I:=aWQ;refine F.okX (k:=n) I (λU A outer s H X Q E L h=>?_);obtain⟨D,i,G,u,v,B,R,S,e,rfl,⟨m,d,rfl⟩,b,l,O,j,tb,q,C⟩:=h;refine⟨_,(yC (yY (vR a L zO (pv 0) (yA (yL yX (pv 1) yE) (yA (yL yX (pv 1) yE) yD)))) (yF (yP yQ))),?_⟩;obtain⟨M,W⟩:=l.book;have tk:∀ {c},vF (own G u v B) H c->z6 Rf.2 c:=λk=>xT tb k l.kinds;have b:H i=some (.tup _):=b;refine⟨_,rfl,D,M,_,rfl,W,rfl,_,rfl,i,_,1,_,rfl,rfl,SqT.of b,rfl,_,rfl,i,_,2,_,rfl,rfl,SqT.of b,rfl,?_⟩;refine⟨D,G,u,v,B,R,S,m,d,rfl,l,by have:=O.r;omega,j,λh=>C _ (.oneN h (.inr (.inl ⟨d,rfl⟩))),λk r V x y=>?_⟩;subst V;exact⟨λh=>C _ (.dateE x y h),λJ T c o p g k N=>q (.txt "dated") _ _ _ c o p (.date x y J T) g k.t N (tk k) rfl (λ_ z=>nomatch z)⟩
abbrev aQH:Stmt:=xC "do_term"
theorem aWU:yO ["book","deed"] ["book","deed"] (yH aQH):=scM
theorem aWz(a:MG P w K mg base (CXR P w) n CB "put_term" ["self","number","term"] (aZT K Rf CB CL))(F:Fun K "do_term" "do_term" aQH f fd):xD P w K mg base (CXR P w) (n+1) f fd ["book","deed"] (aZR K Rf CB CL λe=>∃ (m:Int)(t:Int),e= .term m t):=by
 have D:=aWU;refine F.okX (k:=n) D (λM A outer s H T Q E G h=>?_);obtain⟨B,g,C,o,p,x,R,S,e,rfl,⟨m,t,rfl⟩,b,i,U,L,tb,q,y⟩:=h;refine⟨_,(yC (yY (vR a G zO (pv 0) (yA (yL yX (pv 1) yE) (yA (yL yX (pv 1) yE) yD)))) (yF (yP yQ))),?_⟩;obtain⟨I,O⟩:=i.book;have tk:∀ {c},vF (own C o p x) H c->z6 Rf.2 c:=λk=>xT tb k i.kinds;have b:H g=some (.tup _):=b;refine⟨_,rfl,B,I,_,rfl,O,rfl,_,rfl,g,_,1,_,rfl,rfl,SqT.of b,rfl,_,rfl,g,_,2,_,rfl,rfl,SqT.of b,rfl,?_⟩;refine⟨B,C,o,p,x,R,S,m,t,rfl,i,λh=>y _ (.oneN h (.inr (.inr (.inl ⟨t,rfl⟩)))),λk r N u v=>?_⟩;subst N;exact⟨λh=>y _ (.termN u v h),λh c j l d k J=>q (.txt "set") _ _ _ c j l (.term u v h) d k.t J (tk k) rfl (λ_ z=>nomatch z)⟩
abbrev aQC:Stmt:=xC "do_copy"
theorem aWP:yO ["book","deed"] ["book","deed"] (yH aQC):=scM
theorem aWu(a:MG P w K mg base (CXR P w) n CB "send_copy" ["self","number","person"] (bZ3 K Rf CB CL))(F:Fun K "do_copy" "do_copy" aQC f fd):xD P w K mg base (CXR P w) (n+1) f fd ["book","deed"] (aZR K Rf CB CL λe=>∃ (m:Int)(b:Str),e= .copy m b):=by
 have I:=aWP;refine F.okX (k:=n) I (λV A outer s H Y Q E L h=>?_);obtain⟨D,j,G,u,v,B,R,S,e,rfl,⟨m,b,rfl⟩,d,l,O,T,tb,q,C⟩:=h;refine⟨_,(yF (yP (vR a L zO (pv 0) (yA (yL yX (pv 1) yE) (yA (yL yX (pv 1) yE) yD))))),?_⟩;obtain⟨M,X⟩:=l.book;have tk:∀ {g},vF (own G u v B) H g->z6 Rf.2 g:=λk=>xT tb k l.kinds;have d:H j=some (.tup _):=d;refine⟨_,rfl,D,M,_,rfl,X,rfl,_,rfl,j,_,1,_,rfl,rfl,SqT.of d,rfl,_,rfl,j,_,2,_,rfl,rfl,SqT.of d,rfl,?_⟩;refine⟨D,G,u,v,B,R,S,m,b,rfl,l,O.c,λh=>C _ (.oneN h (.inr (.inr (.inr (.inl ⟨b,rfl⟩))))),λk r W x y=>?_⟩;subst W;exact⟨λh=>C _ (.copyC x y h),λJ U g o p i k N=>q (.num (r.copies.length+1)) _ _ _ g o p (.copy x y J U) i k.t N (tk k) rfl (λ_ z=>nomatch z)⟩
abbrev aQE:Stmt:=xC "do_file"
theorem aWR:yO ["book","deed"] ["book","deed"] (yH aQE):=scM
theorem aWw(a:MG P w K mg base (CXR P w) n CB "lay_thread" ["self","number","name"] (bVK K Rf CB CL))(F:Fun K "do_file" "do_file" aQE f fd):xD P w K mg base (CXR P w) (n+1) f fd ["book","deed"] (aZR K Rf CB CL λe=>∃ (m:Int)(name:Str),e= .file m name):=by
 have x:=aWR;refine F.okX (k:=n) x (λI A outer s H O Q E y h=>?_);obtain⟨t,i,u,p,g,l,R,S,e,rfl,⟨m,name,rfl⟩,b,o,D,j,tb,q,L⟩:=h;refine⟨_,(yF (yP (vR a y zO (pv 0) (yA (yL yX (pv 1) yE) (yA (yL yX (pv 1) yE) yD))))),?_⟩;obtain⟨B,M⟩:=o.book;have tk:∀ {c},vF (own u p g l) H c->z6 Rf.2 c:=λk=>xT tb k o.kinds;have b:H i=some (.tup _):=b;refine⟨_,rfl,t,B,_,rfl,M,rfl,_,rfl,i,_,1,_,rfl,rfl,SqT.of b,rfl,_,rfl,i,_,2,_,rfl,rfl,SqT.of b,rfl,?_⟩;refine⟨t,u,p,g,l,R,S,m,name,rfl,o,D.r,j,tb,λh=>L _ (.oneN h (.inr (.inr (.inr (.inr (.inl ⟨name,rfl⟩)))))),λk r J C G c d v N=>?_⟩;subst J;exact q (.num (Bk.thr R k).length) _ _ _ c g l (.file C G) d v qA.refl N rfl (λ_ z=>nomatch z)
abbrev aQI:Stmt:=xC "do_void"
theorem aWV:yO ["book","deed"] ["book","deed"] (yH aQI):=scM
theorem aWA(a:MG P w K mg base (CXR P w) n CB "cancel" ["self","number"] (aVG K Rf CB CL))(F:Fun K "do_void" "do_void" aQI f fd):xD P w K mg base (CXR P w) (n+1) f fd ["book","deed"] (aZR K Rf CB CL λe=>∃ (m:Int),e= .void m):=by
 have D:=aWV;refine F.okX (k:=n) D (λN A outer s H U Q E G h=>?_);obtain⟨B,u,C,l,o,x,R,S,e,rfl,⟨m,rfl⟩,c,g,L,M,tb,q,y⟩:=h;refine⟨_,(yC (yY (vR a G zO (pv 0) (yA (yL yX (pv 1) yE) yD))) (yF (yP yQ))),?_⟩;obtain⟨I,T⟩:=g.book;have tk:∀ {b},vF (own C l o x) H b->z6 Rf.2 b:=λk=>xT tb k g.kinds;have c:H u=some (.tup _):=c;refine⟨_,rfl,B,I,_,rfl,T,rfl,_,rfl,u,_,1,_,rfl,rfl,SqT.of c,rfl,?_⟩;refine⟨B,C,l,o,x,R,S,m,rfl,g,by have:=L.r;omega,λh=>y _ (.oneN h (.inr (.inr (.inr (.inr (.inr (.inl rfl))))))),λk r O p v=>?_⟩;subst O;exact⟨λh=>y _ (.voidA p v h),λh b i j d k J=>q (.txt "void") _ _ _ b i j (.void p v h) d k.t J (tk k) rfl (λ_ z=>nomatch z)⟩
abbrev aQG:Stmt:=xC "do_shut"
theorem aWT:yO ["book","deed"] ["book","deed"] (yH aQG):=scM
theorem aWy(a:MG P w K mg base (CXR P w) n CB "shut_day" ["self","day"] (bZ4 K Rf CB CL))(F:Fun K "do_shut" "do_shut" aQG f fd):xD P w K mg base (CXR P w) (n+1) f fd ["book","deed"] (aZR K Rf CB CL λe=>∃ (d:Int),e= .shut d):=by
 have x:=aWT;refine F.okX (k:=n) x (λI A outer s H M Q E y h=>?_);obtain⟨u,p,v,m,o,r,R,S,e,rfl,⟨d,rfl⟩,c,i,D,G,tb,q,J⟩:=h;refine⟨_,(yC (yY (vR a y zO (pv 0) (yA (yL yX (pv 1) yE) yD))) (yF (yP yQ))),?_⟩;obtain⟨B,L⟩:=i.book;have tk:∀ {b},vF (own v m o r) H b->z6 Rf.2 b:=λk=>xT tb k i.kinds;have c:H p=some (.tup _):=c;refine⟨_,rfl,u,B,_,rfl,L,rfl,_,rfl,p,_,1,_,rfl,rfl,SqT.of c,rfl,?_⟩;refine⟨u,v,m,o,r,R,S,d,rfl,i,by have:=D.s;omega,λh=>J _ (.shutN h),λh b j l g k C=>?_⟩;exact q (.txt "shut") _ _ _ b j l (.shut h) g k.t C (tk k) rfl (λ_ z=>nomatch z)
abbrev jW:Stmt:=xC "ask_state"
theorem aZL:yO ["book","deed"] ["book","deed"] (yH jW):=scM
theorem aZy(a:MG P w K mg base (CXR P w) n CB "state_of" ["self","number"] (aZV K Rf CB CL))(F:Fun K "ask_state" "ask_state" jW f fd):xD P w K mg base (CXR P w) (n+1) f fd ["book","deed"] (aZR K Rf CB CL λe=>∃ (m:Int),e= .state m):=by
 have v:=aZL;refine F.okX (k:=n) v (λD A outer s H L Q E x h=>?_);obtain⟨p,o,u,j,g,i,R,S,e,rfl,⟨m,rfl⟩,d,b,M,B,tb,q,I⟩:=h;refine⟨_,(yF (yP (vR a x zO (pv 0) (yA (yL yX (pv 1) yE) yD)))),?_⟩;obtain⟨y,J⟩:=b.book;have tk:∀ {H'},vF (own u j g i) H H'->z6 Rf.2 H':=λk=>xT tb k b.kinds;have d:H o=some (.tup _):=d;refine⟨_,rfl,p,y,_,rfl,J,rfl,_,rfl,o,_,1,_,rfl,rfl,SqT.of d,rfl,?_⟩;refine⟨p,u,j,g,i,R,S,m,rfl,b,λk r l G z C hl=>?_,λh=>I _ (.oneN h (.inr (.inr (.inr (.inr (.inr (.inr (.inl rfl))))))))⟩;subst G;have c:=yG hl (.tup (stV r));exact q (.row r) _ _ _ _ g i (.state z C) (b.same c) (qT.of c.t) qA.refl (tk (vF.of c)) ⟨l,rfl,b.notnone hl,yB⟩ (uD.none hl)
abbrev uN:Stmt:=xC "ask_thread"
theorem aXQ:yO ["book","deed"] ["book","deed"] (yH uN):=scM
theorem aXy(a:MG P w K mg base (CXR P w) n CB "thread_of" ["self","number"] (jC K Rf CB CL))(F:Fun K "ask_thread" "ask_thread" uN f fd):xD P w K mg base (CXR P w) (n+1) f fd ["book","deed"] (aZR K Rf CB CL λe=>∃ (m:Int),e= .thread m):=by
 have x:=aXQ;refine F.okX (k:=n) x (λG A outer s H N Q E y h=>?_);obtain⟨u,t,v,p,g,j,R,S,e,rfl,⟨m,rfl⟩,d,b,C,i,tb,q,J⟩:=h;refine⟨_,(yF (yP (vR a y zO (pv 0) (yA (yL yX (pv 1) yE) yD)))),?_⟩;obtain⟨z,L⟩:=b.book;have tk:∀ {c},vF (own v p g j) H c->z6 Rf.2 c:=λk=>xT tb k b.kinds;have d:H t=some (.tup _):=d;refine⟨_,rfl,u,z,_,rfl,L,rfl,_,rfl,t,_,1,_,rfl,rfl,SqT.of d,rfl,?_⟩;refine⟨u,v,p,g,j,R,S,m,rfl,b,C.r,i.tree,tb,λh=>J _ (.oneN h (.inr (.inr (.inr (.inr (.inr (.inr (.inr (.inl rfl))))))))),λk r I B D c l nl o M hl=>?_⟩;subst I;exact q (.nums (Bk.thr R k)) _ _ _ c g j (.thread B D) (b.sameT o) (qT.of o) qA.refl M ⟨l,rfl,b.notown nl,hl⟩ (uD.nl nl)
abbrev uM:Stmt:=xC "ask_copies"
theorem aXP:yO ["book","deed"] ["book","deed"] (yH uM):=scM
theorem aXx(a:MG P w K mg base (CXR P w) n CB "copies_of" ["self","number"] (aVI K Rf CB CL))(F:Fun K "ask_copies" "ask_copies" uM f fd):xD P w K mg base (CXR P w) (n+1) f fd ["book","deed"] (aZR K Rf CB CL λe=>∃ (m:Int),e= .copies m):=by
 have v:=aXP;refine F.okX (k:=n) v (λD A outer s H L Q E x h=>?_);obtain⟨p,o,u,j,g,i,R,S,e,rfl,⟨m,rfl⟩,d,b,M,B,tb,q,I⟩:=h;refine⟨_,(yF (yP (vR a x zO (pv 0) (yA (yL yX (pv 1) yE) yD)))),?_⟩;obtain⟨y,J⟩:=b.book;have tk:∀ {H'},vF (own u j g i) H H'->z6 Rf.2 H':=λk=>xT tb k b.kinds;have d:H o=some (.tup _):=d;refine⟨_,rfl,p,y,_,rfl,J,rfl,_,rfl,o,_,1,_,rfl,rfl,SqT.of d,rfl,?_⟩;refine⟨p,u,j,g,i,R,S,m,rfl,b,λk r l G z C hl=>?_,λh=>I _ (.oneN h (.inr (.inr (.inr (.inr (.inr (.inr (.inr (.inr rfl)))))))))⟩;subst G;have c:=yG hl (.lst (r.copies.map V.str));exact q (.txts r.copies) _ _ _ _ g i (.copies z C) (b.same c) (qT.of c.t) qA.refl (tk (vF.of c)) ⟨l,rfl,b.notnone hl,yB⟩ (uD.none hl)
abbrev vZ:Stmt:=xC "ask_letters"
theorem aQ3:yO ["book","deed"] ["book","deed"] (yH vZ):=scM
theorem aQZ(a:MG P w K mg base CX0 n CB "letters_in" ["self","name"] (aQL CB CL))(F:Fun K "ask_letters" "ask_letters" vZ f fd):xD P w K mg base (CXR P w) (n+1) f fd ["book","deed"] (aZR K Rf CB CL λe=>∃ (name:Str),e= .letters name):=by
 have v:=aQ3;refine F.okX (k:=n) v (λC A outer s H G Q E x h=>?_);obtain⟨p,o,u,m,g,j,R,S,e,rfl,⟨name,rfl⟩,d,b,z,B,tb,q,I⟩:=h;refine⟨_,(yF (yP (vR a x vQ (pv 0) (yA (yL yX (pv 1) yE) yD)))),?_⟩;obtain⟨y,D⟩:=b.book;have tk:∀ {H'},vF (own u m g j) H H'->z6 Rf.2 H':=λk=>xT tb k b.kinds;have d:H o=some (.tup _):=d;refine⟨_,rfl,p,y,_,rfl,D,rfl,_,rfl,o,_,1,_,rfl,rfl,SqT.of d,rfl,?_⟩;refine⟨p,u,m,g,j,R,S,name,rfl,b,z.r,λl hl=>?_⟩;have c:=yG hl (.lst ((X7 R name).map λi=>V.int (i:Nat)));exact q (.nums (X7 R name)) _ _ _ _ g j .letters (b.same c) (qT.of c.t) qA.refl (tk (vF.of c)) ⟨l,rfl,b.notnone hl,yB⟩ (uD.none hl)
abbrev v1:Stmt:=xC "ask_waiting"
theorem aQ5:yO ["book","deed"] ["book","deed"] (yH v1):=scM
theorem aQ1(a:MG P w K mg base CX0 n CB "waiting" ["self","day"] (bKb CB CL false))(F:Fun K "ask_waiting" "ask_waiting" v1 f fd):xD P w K mg base (CXR P w) (n+1) f fd ["book","deed"] (aZR K Rf CB CL λe=>∃ (d:Int),e= .on false d):=by
 have B:=aQ5;refine F.okX (k:=n) B (λI A outer s H M Q E C h=>?_);obtain⟨y,v,z,u,j,m,R,S,e,rfl,⟨d,rfl⟩,i,b,x,G,tb,q,N⟩:=h;refine⟨_,(yF (yP (vR a C vQ (pv 0) (yA (yL yX (pv 1) yE) yD)))),?_⟩;obtain⟨D,L⟩:=b.book;have tk:∀ {c},vF (own z u j m) H c->z6 Rf.2 c:=λk=>xT tb k b.kinds;have i:H v=some (.tup _):=i;refine⟨_,rfl,y,D,_,rfl,L,rfl,_,rfl,v,_,1,_,rfl,rfl,SqT.of i,rfl,?_⟩;refine⟨y,z,u,j,m,R,S,d,rfl,b,x.r,x.s,λl c J g hl o p=>?_⟩;exact q (.nums J) _ _ _ c j m (.on p) (b.same g) (qT.of g.t) qA.refl (tk (vF.of g)) ⟨l,rfl,b.notnone hl,o⟩ (uD.none hl)
abbrev v0:Stmt:=xC "ask_overdue"
theorem aQ4:yO ["book","deed"] ["book","deed"] (yH v0):=scM
theorem aQ0(a:MG P w K mg base CX0 n CB "overdue" ["self","day"] (bKb CB CL true))(F:Fun K "ask_overdue" "ask_overdue" v0 f fd):xD P w K mg base (CXR P w) (n+1) f fd ["book","deed"] (aZR K Rf CB CL λe=>∃ (d:Int),e= .on true d):=by
 have B:=aQ4;refine F.okX (k:=n) B (λI A outer s H M Q E C h=>?_);obtain⟨y,v,z,u,j,m,R,S,e,rfl,⟨d,rfl⟩,i,b,x,G,tb,q,N⟩:=h;refine⟨_,(yF (yP (vR a C vQ (pv 0) (yA (yL yX (pv 1) yE) yD)))),?_⟩;obtain⟨D,L⟩:=b.book;have tk:∀ {c},vF (own z u j m) H c->z6 Rf.2 c:=λk=>xT tb k b.kinds;have i:H v=some (.tup _):=i;refine⟨_,rfl,y,D,_,rfl,L,rfl,_,rfl,v,_,1,_,rfl,rfl,SqT.of i,rfl,?_⟩;refine⟨y,z,u,j,m,R,S,d,rfl,b,x.r,x.s,λl c J g hl o p=>?_⟩;exact q (.nums J) _ _ _ c j m (.on p) (b.same g) (qT.of g.t) qA.refl (tk (vF.of g)) ⟨l,rfl,b.notnone hl,o⟩ (uD.none hl)
end
end Desk
namespace Desk
open PySem L2 PyProof.Rows
open Bk (Row Rows xM Ans xU)
open Thr (z6 vO qH)
structure bKk(P:bYx)(w:bYD)(K:bYc)(D:Nat)(kvs:List (Key×bYa)):Prop where
 at_:∃o es ep,K.lookup D=some o/\o.ExactDict/\o.data= .dict es ep/\KeysOf (x6 P w) es/\Pairs (x6 P w) es.toList kvs/\(kvs.map (·.1)).Nodup
def bK8(a:List (Key×bYa))(c:TE):TE:=λσ H Q=>c σ H λy b=>∃ (x:Str)(f:Nat),y= .str x/\cZu a (Sum.inr x)=some (.ref f)/\Q (.ref f) b
theorem bWC{X:Cx}{x:Str}{D:Nat}{a:List (Key×bYa)}{i:Expr}{e:TE}{p pos:Pos}(l:Gl X x)(u:X.mg x=some (.ref D))(T:bKk X.prog X.w X.K D a)(t:PE X i e)(m:bKH i)(c:(x==("__debug__":Str))=false:=by decide):
  PE X (.Subscript (.Name x p) i pos) (bK8 a e):=by
 intro b s σ H Q I h
 refine bVL PySem.F.slot_dict_getitem.lookup m (uK I l u (thn (t b s σ H _ I h) λiv s2 ⟨y,H2,I2,ry,x',f,ex,hv,q2⟩=>?_) c)
 subst ex
 obtain⟨o,v,g,j,n,r,A,q,z⟩:=T.at_
 have d:s2.heap.DictOf (x6 X.prog X.w) D a:=⟨o,v,g,I2.kIn _ _ j,n,r,A,q,z⟩
 exact⟨d.typeIs,wpAny_getItem_of (bQU (k:=Sum.inr x') ry) d.mapOf hv ⟨.ref f,H2,I2.tok _,rfl,q2⟩⟩
def bZ6(P:bYx)(w:bYD)(K:bYc)(mg:Str->Option bYa)(base:Heap)(k i:Nat)(E:XK)(t:TA):TE:=λσ H Q=>∃f,σ[i]? =some (some (.ref f))/\bY6 K (.ref f)=true/\
 t σ H λd e=>∃a b c,xD P w K mg base (CXR P w) k f a b c/\vT K a b []/\c d e Q E
theorem bXz{X:Cx}{k i:Nat}{x:Str}{e:Expr}{c:List Expr}{t:TA}{E:XK}{p pos:Pos}(m:vM k X.A)(n:X.N[i]? =some x)(z:Vis X.env.scope x)(J:vG (CXR X.prog X.w) X E)(D:PA X (e::c) t)
  (j:(x==("__debug__":Str))=false:=by decide) (g:(x==("__classdict__":Str))=false:=by decide) (B:bYN (e::c) X.env=(false,eval e X.env)::bYN c X.env:=by rfl) (d:(cQN pos (bYN c X.env)).any (·.1)=false:=by rfl):
  PE X (.Call (.Name x p) (e::c) [] pos) (bZ6 X.prog X.w X.K X.mg X.base k i E t):=by
 intro a s σ H Q I h
 obtain⟨f,y,o,q⟩:=h
 refine cQO (thn (bZS (pos:=p) n z j g a s σ H (λv l=>v= .ref f/\l=H) I ⟨_,y,rfl,rfl⟩) ?_)
 rintro u L ⟨v,l,C,G,rfl,rfl⟩
 obtain rfl:u=Value.ref f:=G
 refine cX0 (h₀:=X.base) I.ok.mod.kin o (thn (D pos a L σ l _ C q) λus s2 ⟨vs,H2,I2,r,fd,ps,sp,F,b,q2⟩=>⟨I2.kIn,?_⟩) B d
 exact aZH F m b .nil J I2 r (by rw[cQf];exact q2)
def aWc:xM->Str
 |.enter b _ _ _=>b
 |.reply _ _ _=>"reply"
 |.hang _ _=>"hang"
 |.loose _=>"loose"
 |.date _ _=>"date"
 |.term _ _=>"term"
 |.copy _ _=>"copy"
 |.file _ _=>"file"
 |.void _=>"void"
 |.shut _=>"shut"
 |.state _=>"state"
 |.thread _=>"thread"
 |.copies _=>"copies"
 |.letters _=>"letters"
 |.on a _=>if a then "overdue" else "waiting"
def Wf:xM->Prop
 |.enter a _ _ _=>a="in"\/a="out"
 |_=>True
theorem bQG(e:xM):atI (xE e) 0=some (.str (aWc e)):=by cases e<;> rfl
def bVW(P:bYx)(w:bYD)(K:bYc)(mg:Str->Option bYa)(base:Heap)(n:Nat)(Rf:Nat×Nat)(c CL:Nat)(a:List (Key×bYa)):Prop:=∀e:xM,Wf e->∃ (f:Nat)(b:cQ9)(p:xM->Prop),cZu a (Sum.inr (aWc e))=some (.ref f)/\
 xD P w K mg base (CXR P w) n f b ["book","deed"] (aZR K Rf c CL p)/\p e/\vT K b ["book","deed"] []/\bY6 K (.ref f)=true
def J9(Rf:Nat×Nat)(k CL:Nat):Sp:=λo H Q _=>∃ (j m f d:Nat)(h i:List Nat)(R:Rows)(S:List Int)(e:xM),o= [.ref j,.ref m]/\Wf e/\H m=some (.tup (xE e))/\PB k CL H j f d h i R S/\Sz R S/\Bk.qR R/\z6 Rf.2 H/\
 ∀ (a:Ans)(n:Rows)(l:List Int)(v:V)(g:Hp)(b c:List Nat),xU R S e a n l->PB k CL g j f d b c n l->qT (own f d h i) H g->qA H (own f d h i) (own f d b c)->z6 Rf.2 g->wX (own f d b c) g a v->uD H v->Q v g
section
variable {K:bYc}
abbrev aJJ:Stmt:=xC "answer"
theorem aYT:yO ["book","deed","do","refusal"] ["book","deed"] (yH aJJ):=scM
theorem aK7(hD:mg "DEEDS"=some (.ref D))(J:bKk P w K D kvs)(hR:mg "Refused"=some (.ref Rf.1))(N:vU K Rf.1)(all:bVW P w K mg base n Rf CB CL kvs)(F:Fun K "answer" "answer" aJJ f fd): xD P w K mg base CX0 (n+1) f fd ["book","deed"] (J9 Rf CB CL):=by
 have m:=aYT;refine F.ok (k:=n) m (λM A outer s H vs Q E y h=>?_);obtain⟨X,r,Y,B,p,v,R,S,e,rfl,b,o,x,I,g,tb,q⟩:=h;refine⟨_,(yC (yU (i:=2) (bWC rfl hD J (yL yX (pv 1) yE) (λ_ _=>rfl))) (yF (bWE (i:=3) m.nd rfl rfl rfl hR N rfl rfl rfl (by decide) (by decide) (by decide) (λ_=>rfl) (tb:=λE=>bKO (bZ6 P w K mg base n 2 E (aW7 (bVO 0) (aW7 (bVO 1) bZh)))) (λpn xe E V=>yF (yP (bXz y rfl (Or.inl rfl) V (yA (pv 0) (yA (pv 1) yD)))))))),?_⟩;obtain⟨u,a,pe,L,Z,j,c,d⟩:=all e b;refine⟨_,rfl,r,_,0,_,rfl,rfl,SqT.of o,bQG e,aWc e,u,rfl,L,?_⟩;dsimp only[yW];refine⟨u,rfl,d,_,rfl,_,rfl,a,_,_,Z,c,X,r,Y,B,p,v,R,S,e,rfl,j,o,x,I,g,tb,q,λt l=>?_⟩;intro C G O U T k W;exact⟨C,G,t,rfl,rfl,U,T,W,q (.txt t) R S _ O p v l (x.sameT k.1) (qT.of k.1) qA.refl (k.2 tb) rfl (λ_ z=>nomatch z)⟩
inductive Run:Rows->List Int->List xM->List Ans->Rows->List Int->Prop
 |nil {R:Rows} {S:List Int}:Run R S [] [] R S
 |snoc {R R' R'':Rows} {S S' S'':List Int} {es:List xM} {as:List Ans} {e:xM} {a:Ans} (h:Run R S es as R' S') (d:xU R' S' e a R'' S''):Run R S (es++ [e]) (as++ [a]) R'' S''
theorem Run.len{R e:Rows}{S c:List Int}{a:List xM}{b:List Ans}(h:Run R S a b e c):a.length=b.length:=by
 induction h with
 |nil=>rfl
 |snoc h d f=>simp[f]
structure Up(t:Nat)(R:Rows)(S:List Int):Prop where
 r:R.length<=t
 s:S.length<=t
 c:∀r∈R,r.copies.length<=t
theorem Up.set{t:Nat}{R:Rows}{S:List Int}(u:Up t R S)(k:Nat)(f:Row->Row)(a:∀r,(f r).copies.length<=r.copies.length+1):Up (t+1) (Bk.xR R k f) S:=
 ⟨by rw[Bk.x9];exact cQH u.r,cQH u.s,λr b=>by
  rcases Bk.aQj b with h|⟨q,h,rfl⟩
  ·exact cQH (u.c r h)
  ·exact bYQ (a q) (Nat.succ_le_succ (u.c q h))⟩
theorem aQc{name:Str}:∀ (l:List Nat)(R:Rows)(t:Nat),(∀r∈R,r.copies.length<=t)->∀r∈Bk.laid R l name,r.copies.length<=t
 |[],R,t,h,r,hr=>h r hr
 |k::l,R,t,h,r,hr=>aQc l (Bk.xR R k λr=>{r with place:=name}) t (λq b=>by
   rcases Bk.aQj b with z|⟨a,z,rfl⟩
   ·exact h q z
   ·exact h a z) r hr
theorem Up.laid{t:Nat}{R:Rows}{S:List Int}(u:Up t R S)(l:List Nat)(name:Str):Up t (Bk.laid R l name) S:=⟨by rw[Bk.zR];exact u.r,u.s,aQc l R t u.c⟩
theorem Up.le{t:Nat}{R:Rows}{S:List Int}(u:Up t R S):Up (t+1) R S:=⟨cQH u.r,cQH u.s,λr h=>cQH (u.c r h)⟩
theorem Up.snoc{t:Nat}{R:Rows}{S:List Int}(u:Up t R S)(r:Row)(h:r.copies= []):Up (t+1) (R++ [r]) S:=⟨by simpa using u.r,cQH u.s,λq a=>by
 rcases bYP.mp a with z|z
 ·exact cQH (u.c q z)
 ·rw[bYr.mp z,h];exact bY7 _⟩
theorem Up.done{t:Nat}{R d:Rows}{S b:List Int}{e:xM}{a:Ans}(u:Up t R S)(h:xU R S e a d b):Up (t+1) d b:=by
 cases h with
 |enter _=>exact u.snoc _ rfl
 |reply _ _ _ _=>exact u.snoc _ rfl
 |hang _ _ _ _ _ _ _ _ _=>exact(u.laid _ _).set _ _ λ_=>cXi _
 |loose _ _ _=>exact u.set _ _ λ_=>cXi _
 |date _ _ _ _=>exact u.set _ _ λ_=>cXi _
 |term _ _ _=>exact u.set _ _ λ_=>cXi _
 |copy _ _ _ _=>exact u.set _ _ λr=>by simp
 |file _ _=>exact(u.laid _ _).le
 |void _ _ _=>exact u.set _ _ λ_=>cXi _
 |shut _=>exact⟨cQH u.r,by simpa using u.s,λr h=>cQH (u.c r h)⟩
 |_=>exact u.le
theorem Up.sz{t:Nat}{R:Rows}{S:List Int}(u:Up t R S)(h:t<64):Sz R S:=⟨by have:=u.r;omega,by have:=u.s;omega,λr a=>by have:=u.c r a;omega⟩
end
end Desk
namespace Law
open PySem L2 PyProof.Rows
open Bk (Row Rows xU xM Ans)
open Desk (xE wX uD Wf)
abbrev aXF:Stmt:=xC "_law_entered"
def aQU(e:Nat)(c a:List Nat)(H d:Hp):Prop:=(∀x o,x∉e::c->H x=some o->d x=some o)/\(∀b∈a,b∈c\/H b=none)/\∀s u,H s=some u->NoC c H s->NoC a d s
theorem But.step{d:Nat}{a:List Nat}{H c:Hp}(k:But a H c):aQU d a a H c:=⟨λx o n e=>k.1 x o (λz=>n (bYm _ z)) e,λb h=> .inl h,k.2.2⟩
theorem aQU.pre{g:Nat}{c a:List Nat}{H d f:Hp}(i:∀b∈c,∃o,H b=some o)(k:xA H d)(s:aQU g c a d f):aQU g c a H f:=
 ⟨λx o n e=>s.1 x o n (k _ _ e),λb h=>(s.2.1 b h).imp id λz=>k.fresh z,λx u e n=>s.2.2 x u (k _ _ e) ((But.of i k).2.2 x u e n)⟩
def aQK:Sp:=λl H Q _=>∃ (c j:Nat)(i:List Nat)(R:Rows)(e:xM),l= [.ref c,.ref j]/\H j=some (.tup (xE e))/\Wf e/\((∃h d g t,e= .enter h d g t)\/∃m d t,e= .reply m d t)/\y8 H c i R/\R.length<=60/\
 ∀ (f:Hp)(a:Ans)(v:V)(k:Rows)(b:List Nat),aQU c i b H f->y8 f c b k->(∀S,xU R S e a k S)->wX [] f a v->uD H v->Q v f
theorem aV1{H:Hp}{f:Nat}{p:List Nat}{R:Rows}(h:y8 H f p R){r:Row}(O:r.copies= []){g b:Nat}(v:H g=none)(G:upd H g (.lst []) b=none): y8 (upd (upd (upd H g (.lst [])) b (.lst (v9 r g))) f (.lst ((p++ [b]).map V.ref))) f (p++ [b]) (R++ [r])/\aQU f p (p++ [b]) H (upd (upd (upd H g (.lst [])) b (.lst (v9 r g))) f (.lst ((p++ [b]).map V.ref))):=by
 have M:=yG v (.lst []);have P:=yG G (.lst (v9 r g));have F:=M.trans P;have m:H b=none:=M.fresh G;have B:b≠f:=λz=>by rw[z,h.lst]at m;cases m
 have L:g≠f:=λz=>by rw[z,h.lst]at v;cases v
 have I:g≠b:=λz=>by rw[<- z,yB]at G;cases G
 have U:b∉p:=λz=>by obtain⟨o,e⟩:=h.dom b z;rw[m]at e;cases e
 have rne:∀ {a r' k},H a=some (.lst (v9 r' k))->a≠f:=λq z=>by rw[z,h.lst]at q;exact aQt (bYw q).symm
 refine⟨⟨yB,by simp[h.len],?_,λi c q j d=>?_⟩,λx o n e=>?_,λc t=>?_,λs u e n c t l E=>?_⟩
 ·exact cXD.mpr ⟨h.nd,cQy _ _,λa T c v z=>U (by rw[<- bYr.mp v,<- z];exact T)⟩
 ·by_cases C:i<R.length
  ·rw[bYF (by rw[h.len];exact C)]at j;rw[bYF C]at d;obtain⟨k,D,w⟩:=h.row i c q j d;have J:k≠f:=λz=>by
    rw[z,h.lst]at w;have hl:=congrArg cXH (HO.lst.inj (bYw w));have:=bYt j;cases p with
    |nil=>cases this
    |cons x W=>
     cases A:q.copies with
     |nil=>rw[A]at hl;simp at hl
     |cons y X=>rw[A]at w;have:=HO.lst.inj (bYw w);simp at this
   exact⟨k,by rw[yJ (rne D)];exact F _ _ D,by rw[yJ J];exact F _ _ w⟩
  ·have K:i=R.length:=by
    have:=(bYl.mp d).1;simp at this;omega
   subst K;rw[bYv (by rw[h.len];exact bYh _),h.len,cQt]at j;rw[bYv (bYh _),cQt]at d;cases j;cases d;exact⟨g,by rw[yJ B,yB];rfl,by rw[yJ L,yJ I,yB,O];rfl⟩
 ·have S:x≠f:=λz=>n (by rw[z];exact bYp);rw[yJ S];exact F _ _ e
 ·rcases bYP.mp t with z|z
  ·exact .inl z
  ·exact .inr (by rw[bYr.mp z];exact m)
 ·rcases bYP.mp t with z|z
  ·have z2:c≠f:=λy=>by
    obtain⟨i,C,Q⟩:=bY1 z;obtain⟨k,D,_⟩:=h.row i c _ (by rw[bK9 C,Q]) (bK9 (show i<R.length by rw[<- h.len];exact C));exact rne D y
   obtain⟨o,N⟩:=h.dom c z;rw[yJ z2,F _ _ N]at E;exact n c z l (by rw[N];exact E)
  ·rw[bYr.mp z,yJ B,yB]at E;cases E;intro y;have:g=s:=by injection y with y;injection y
   rw[<- this,v]at e;cases e
section
variable {K:bYc}
theorem uE:bYT "int"=some (.type "int"):=dk
theorem aWW:yO ["_law_rows","_law_deed","_law_way","_law_date","_law_partner","_law_link","_law_place","_law_one"] ["_law_rows","_law_deed"] (yH aXF):=scM
theorem aWB(T:vA mg)(a1:mg "int"=none)(C:FnG P w K mg base 2 "_law_good" ["_law_rows","_law_number"] Z6)(F:Fun K "_law_entered" "_law_entered" aXF f fd):xD P w K mg base CX0 3 f fd ["_law_rows","_law_deed"] aQK:=by
 have sc:=aWW;refine F.ok (k:=2) sc (λb6 A outer s H vs Q E hr h=>?_);obtain⟨U,o,W,R,e,rfl,y,b3,v,J,hR,q⟩:=h;refine⟨_,(yC (v8 (xI (yA (yL yX (pv 1) yE) (yA (yL yX (pv 1) yE) (yA (yL yX (pv 1) yE) (yA xY (yA yQ yD)))))) (aYp rfl (zS (xB (i:=2)) (zS (xB (i:=3)) (zS (xB (i:=4)) (zS (xB (i:=5)) (zS (xB (i:=6)) aJB))))))) (yC (y0 (yM x8 (pv 2) yQ) (yC (y0 (wA (xP (xK C hr rfl (yA (pv 0) (yA (yL yX (pv 1) yE) yD))))) (yF (yP yQ)) yS) (yC (yU (i:=7) (yL yI (pv 0) (yL yX (pv 1) yE))) (yC (yU (i:=2) (yL yI (y6 (yA yQ (yA yQ yD))) (x4 w3 rfl a1 uE (yA (zE x8 (yL yI (pv 7) yE) yQ) yD)))) (yF (v8 (xI (yA (yL yX (pv 1) yE) (yA (yL yI (pv 7) yE) (yA (yL yX (pv 1) yE) (yA (yL yI (pv 7) yE) yD))))) (aYp rfl (zS (xB (i:=3)) (zS (xB (i:=4)) (zS (xB (i:=5)) (zS (xB (i:=6)) aJB)))))))))) yS) (yC (y0 (yM vC (yL yX (pv 1) yE) yE) (yF (yP yQ)) yS) (yC (y0 (PW.pt (vJ (yM wC (pv 5) xY) (wP (yM vC (pv 3) (yL yI (yL yI (pv 0) (pv 5)) yE))))) (yF (yP yQ)) yS) (yC (yY (uC bYM bYR bYS xL (pv 0) (yA (y6 (yA (pv 2) (yA (pv 3) (yA (pv 4) (yA (yL yX (pv 1) yE) (yA (pv 5) (yA (pv 6) (yA wO (yA (y6 yD) yD))))))))) yD))) (yF (yP (yV w7 (yT yN rfl T.b_len y9 (yA (pv 0) yD)) yE)))))))),?_⟩;have h0:∃a b c,(xE e)[0]? =some (.str a)/\(xE e)[1]? =some (.int b)/\(xE e)[2]? =some c/\a=Desk.aWc e:=by
  rcases v with⟨g,d,l,t,rfl⟩|⟨m,d,t,rfl⟩
  ·exact⟨_,_,_,rfl,rfl,rfl,rfl⟩
  ·exact⟨_,_,_,rfl,rfl,rfl,rfl⟩
 obtain⟨O,b0,I,d0,d1,d2,ea⟩:=h0;refine⟨_,rfl,o,_,0,_,rfl,rfl,SqT.of y,yR (j:=0) d0,_,rfl,o,_,1,_,rfl,rfl,SqT.of y,yR (j:=1) d1,_,rfl,o,_,2,_,rfl,rfl,SqT.of y,yR (j:=2) d2,z5,λtp a8=>?_⟩;have X:=yG a8 (.tup [.str O,.int b0,I,.non,.str ""]);refine⟨tp,[.str O,.int b0,I,.non,.str ""],rfl,SqT.of yB,rfl,.str O,[.int b0,I,.non,.str ""],rfl,.int b0,[I,.non,.str ""],rfl,I,[.non,.str ""],rfl,.non,[.str ""],rfl,.str "",[],rfl,rfl,?_⟩;generalize upd H tp (.tup [.str O,.int b0,I,.non,.str ""])=H1 at X ⊢;dsimp only[yW];refine zB (λp H'=>∃ (g l place:Str)(d t:Int)(lk:Option Nat)(o7:Option V),p= [some (.ref U),some (.ref o),some (.str g),some (.int d),some (.str l),some (wN lk),some (.str place),o7]/\xA H H'/\(xE e)[3]? =some (.int t)/\(∀k,lk=some k->k<R.length)/\
  (t<0->∀S,xU R S e (.txt "no term") R S)/\(0<=t->(∃k,lk=some k/\d<Bk.dt R k)->∀S,xU R S e (.txt "too early") R S)/\(0<=t->(∀k,lk=some k->Bk.dt R k<=d)->∀S,xU R S e (.num R.length) (R++ [⟨g,d,l,t,lk,place,false,[]⟩]) S)) ?jS (λn=>?_)
 case jS=>
  rintro p H2 ⟨g,l,place,d,t,lk,o7,rfl,B,d3,b2,t1,t2,t3⟩;have u:=J.same B;have a6:=B _ _ y;have stay:∀ {H3:Hp} {x:Str},xA H H3->(∀S,xU R S e (.txt x) R S)->Q (.str x) H3:=λ{H3 x} k dn=>q H3 (.txt x) _ R W (But.of J.dom k).step (J.same k) dn rfl (λ_ z=>nomatch z);refine⟨_,rfl,o,_,3,_,rfl,rfl,SqT.of a6,yR (j:=3) d3,_,_,rfl,rfl,_,rfl,?_⟩;refine qB (λc=>?_) (λc=>?_)
  ·exact stay B (t1 (of_decide_eq_true c))
  have ht:0<=t:=by have:=of_decide_eq_false (Bool.eq_false_iff.mpr c);omega
  dsimp only[aW8];refine zB (λp H'=>p= [some (.ref U),some (.ref o),some (.str g),some (.int d),some (.str l),some (wN lk),some (.str place),o7]/\H'=H2/\∀k,lk=some k->Bk.dt R k<=d) ?rest2 (λn=>?_);case rest2=>
   rintro p H' ⟨rfl,rfl,h1⟩;refine⟨_,rfl,.inl ⟨rfl,_,SqL.of u.lst⟩,_,rfl,_,rfl,_,rfl,_,rfl,o,_,3,_,rfl,rfl,SqT.of a6,yR (j:=3) d3,_,rfl,_,rfl,z0,λcp a2=>⟨zn (by show 8<=100000;omega),λb hb=>?_⟩⟩;have hE:=aV1 u (r:=⟨g,d,l,t,lk,place,false,[]⟩) rfl a2 hb;have k3:=(yG a2 (.lst [])).trans (yG hb (.lst (v9 ⟨g,d,l,t,lk,place,false,[]⟩ cp)));refine⟨U,_,_,rfl,rfl,k3 _ _ u.lst,zlt (by rw[bYe,J.len];omega),?_⟩;have el:W.map V.ref++ [V.ref b]=(W++ [b]).map V.ref:=by simp
   rw[el];refine⟨_,rfl,U,_,rfl,.inl (SqL.of yB),?_⟩;refine⟨_,_,rfl,rfl,?_⟩;have en:(((((W++ [b]).map V.ref).length:Nat):Int) - 1)=(R.length:Int):=by rw[bYe,bYy,J.len];simp
   show Q (V.int _) _;rw[en];exact q _ (.num R.length) _ _ _ (hE.2.pre J.dom B) hE.1 (t3 ht h1) rfl (λ_ z=>nomatch z)
  cases lk with
  |none=>exact⟨_,rfl,rfl,_,rfl,onF rfl (onF rfl (n _ _ ⟨rfl,rfl,λk z=>nomatch z⟩))⟩
  |some j=>
   have a9:=b2 j rfl;have L:=bK9 a9;obtain⟨bj,j1,j2,cj,j3,j4⟩:=u.get L;refine⟨_,rfl,rfl,_,rfl,onT rfl ⟨_,rfl,_,rfl,_,rfl,U,_,_,_,rfl,rfl,SqL.of u.lst,yR j1,bj,_,1,_,rfl,rfl,SqL.of j3,rfl,_,_,rfl,rfl,_,rfl,?_⟩⟩;cases a3:decide (d<R[j].date)with
   |true=>exact onT rfl (stay B (t2 ht ⟨j,rfl,by rw[Bk.vB L];exact of_decide_eq_true a3⟩))
   |false=>exact onF rfl (n _ _ ⟨rfl,rfl,λi N=>by cases N;rw[Bk.vB L];have:=of_decide_eq_false a3;omega⟩)
 refine⟨_,rfl,rfl,_,rfl,?_⟩;rcases v with⟨g,d,l,t,rfl⟩|⟨m,d,t,rfl⟩
 ·have a4:g="in"\/g="out":=b3;obtain rfl:O=g:=by cases d0;rfl
  obtain rfl:b0=d:=by cases d1;rfl
  obtain rfl:I= .str l:=by cases d2;rfl
  refine onF (by rcases a4 with rfl|rfl<;> decide) ?_;exact n _ _ ⟨O,l,"",b0,t,none,none,rfl,X,rfl,(λk z=>nomatch z),(λh S=> .enterT h),(λh ⟨k,z,_⟩=>nomatch z),λh _ S=> .enter h⟩
 ·obtain rfl:O="reply":=by cases d0;rfl
  obtain rfl:b0=m:=by cases d1;rfl
  obtain rfl:I= .int d:=by cases d2;rfl
  refine onT rfl ?_;have M:H1 o=some (.tup [.str "reply",.int b0,.int d,.int t]):=X _ _ y;have D:=J.same X;refine⟨_,rfl,_,rfl,o,_,1,_,rfl,rfl,SqT.of M,rfl,U,W,R,b0,rfl,D,_,rfl,?_⟩;cases h1:Bk.z9 R b0 with
  |false=>exact onT rfl (q H1 (.txt "no letter") _ R W (But.of J.dom X).step D (λS=> .replyN h1) rfl (λ_ z=>nomatch z))
  |true=>
  obtain⟨i,r,rfl,b1,N,hv⟩:=Bk.wF h1;obtain⟨b,g1,g2,cp,g3,g4⟩:=D.get N;refine onF rfl ⟨_,rfl,_,rfl,o,_,1,_,rfl,rfl,SqT.of M,rfl,U,_,_,_,rfl,rfl,SqL.of D.lst,yR g1,?_⟩;dsimp only[yW];refine⟨z2,λl2 a7=>⟨_,rfl,b,_,0,_,rfl,rfl,SqL.of (yG a7 (.lst [.str "in",.str "out"]) _ _ g3),rfl,rfl,.inr ⟨_,rfl,?_⟩⟩⟩;have B:=yG a7 (.lst [.str "in",.str "out"]);have Y:=X.trans B;have G:upd H1 l2 (.lst [.str "in",.str "out"]) l2=some (.lst [.str "in",.str "out"]):=yB;generalize upd H1 l2 (.lst [.str "in",.str "out"])=H3 at B Y G ⊢;have b4:atI [V.str "in",V.str "out"] (if decide (V.str r.way=V.str "in")=true then 1 else 0)=some (.str (Bk.jG r.way)):=by
   rw[wV];unfold Bk.jG;by_cases z:r.way="in"
   ·rw[if_pos z,decide_eq_true z];rfl
   ·rw[if_neg z,decide_eq_false z];rfl
  have Z:=B _ _ M;have a5:=B _ _ g3;refine⟨l2,_,_,_,rfl,rfl,SqL.of G,b4,?_⟩;dsimp only[yW];refine⟨_,rfl,o,_,2,_,rfl,rfl,SqT.of Z,rfl,_,rfl,b,_,2,_,rfl,rfl,SqL.of a5,rfl,_,rfl,o,_,1,_,rfl,rfl,SqT.of Z,rfl,_,rfl,b,_,5,_,rfl,rfl,SqL.of a5,rfl,z4,λt4 b5=>?_⟩;have k4:=yG b5 (.tup [.int d,.str r.partner,.int (i:Nat),.str r.place]);refine⟨t4,[.int d,.str r.partner,.int (i:Nat),.str r.place],rfl,SqT.of yB,rfl,.int d,[.str r.partner,.int (i:Nat),.str r.place],rfl,.str r.partner,[.int (i:Nat),.str r.place],rfl,.int (i:Nat),[.str r.place],rfl,.str r.place,[],rfl,rfl,?_⟩;refine n _ _ ⟨Bk.jG r.way,r.partner,r.place,d,t,some i,_,rfl,Y.trans k4,rfl,(λk z=>by cases z;exact b1),(λh S=> .replyT h1 h),(λh ⟨k,z,y⟩ S=>?_),(λh y S=>?_)⟩
  ·cases z;rw[Bk.vB N]at y;exact .replyE N hv h y
  ·have:=y i rfl;rw[Bk.vB N]at this;exact .reply N hv h this
end
end Law
namespace Law
open PySem L2 PyProof.Rows
open Bk (Row Rows xU xM Ans)
open Desk (xE wX uD Wf wS)
abbrev bVp:Stmt:=xC "_law_with_one"
theorem y8.tupNo{H:Hp}{d:Nat}{c:List Nat}{R:Rows}(h:y8 H d c R){x:Nat}{ys:List V}(e:H x=some (.tup ys)):x∉c:=λz=>by
 obtain⟨i,a,f⟩:=bY1 z;obtain⟨g,b,_⟩:=h.row i x _ (by rw[bK9 a,f]) (bK9 (show i<R.length by rw[<- h.len];exact a));rw[e]at b;cases b
theorem aZ6{H:Hp}{m:Nat}{d:List Nat}{R:Rows}{k:Nat}{b:Nat}{r:Row}(h:y8 H m d R)(q:d[k]? =some b)(v:R[k]? =some r){A a:Nat}(B:H b=some (.lst (v9 r A)))(w:List Str)(g:H a=none): y8 (upd (upd H a (.lst (w.map V.str))) b (.lst (v9 r a))) m d (Bk.xR R k λr=>{r with copies:=w})/\aQU m d d H (upd (upd H a (.lst (w.map V.str))) b (.lst (v9 r a))):=by
 have j:=yG g (.lst (w.map V.str));have t:=h.same j;refine⟨t.upd q v (λr=>{r with copies:=w}) yB,λx o n e=>?_,λc i=> .inl i,λs u e n c i l f=>?_⟩
 ·rw[yJ (λz=>n (bYm _ (by rw[z];exact bYt q)))];exact j _ _ e
 ·by_cases z:c=b
  ·subst z;rw[yB]at f;cases f;intro y;have:a=s:=by injection y with y;injection y
   rw[<- this,g]at e;cases e
  ·rw[yJ z]at f;obtain⟨o,p⟩:=h.dom c i;rw[j _ _ p]at f;exact n c i l (by rw[p];exact f)
def qU(e:xM)(m:Int):Prop:=e= .loose m\/(∃d,e= .date m d)\/(∃t,e= .term m t)\/(∃w,e= .copy m w)\/(∃w,e= .file m w)\/e= .void m
def bQp:Sp:=λh H Q _=>∃ (c f:Nat)(b:List Nat)(R:Rows)(e:xM)(m:Int),h= [.ref c,.ref f]/\H f=some (.tup (xE e))/\qU e m/\y8 H c b R/\R.length<=60/\Bk.qR R/\(∀r∈R,r.copies.length<=1000)/\
 ∀ (d:Hp)(a:Ans)(v:V)(g:Rows),aQU c b b H d->y8 d c b g->(∀S,xU R S e a g S)->wX [] d a v->uD H v->Q v d
theorem qU.at1{e:xM}{m:Int}(h:qU e m):(xE e)[1]? =some (.int m):=by
 rcases h with rfl|⟨d,rfl⟩|⟨d,rfl⟩|⟨d,rfl⟩|⟨d,rfl⟩|rfl<;> rfl
theorem qU.no{e:xM}{m:Int}{R:Rows}(h:qU e m)(g:Bk.z9 R m=false)(S:List Int):xU R S e (.txt "no letter") R S:=by
 refine .oneN g ?_;rcases h with rfl|⟨d,rfl⟩|⟨d,rfl⟩|⟨d,rfl⟩|⟨d,rfl⟩|rfl<;> simp
section
variable {K:bYc}
theorem bVF:yO ["_law_rows","_law_deed","_law_one","_law_numbers","_law_k","_law_row"] ["_law_rows","_law_deed"] (yH bVp):=scM
theorem bJZ(T:vA mg)(U:FnG P w K mg base 2 "_law_good" ["_law_rows","_law_number"] Z6)(M:FnG P w K mg base 2 "_law_dated" ["_law_rows","_law_number","_law_date"] bQc)(W:FnG P w K mg base 2 "_law_lost" ["_law_rows","_law_number"] bZ0) (G:FnG P w K mg base 2 "_law_family" ["_law_rows","_law_number"] jB) (F:Fun K "_law_with_one" "_law_with_one" bVp f fd):xD P w K mg base CX0 3 f fd ["_law_rows","_law_deed"] bQp:=by
 have sc:=bVF;refine F.ok (k:=2) sc (λc3 A outer s H vs Q E hr h=>?_);obtain⟨X,l,Z,R,e,m,rfl,n,C,y,hR,a4,b0,q⟩:=h;refine⟨_,(yC (y0 (wA (xP (xK U hr rfl (yA (pv 0) (yA (yL yX (pv 1) yE) yD))))) (yF (yP yQ)) yS) (yC (yU (i:=2) (yL yI (pv 0) (yL yX (pv 1) yE))) (yC (y0 (yM x8 (yL yX (pv 1) yE) yQ) (yF (yP (xK M hr rfl (yA (pv 0) (yA (yL yX (pv 1) yE) (yA (yL yX (pv 1) yE) yD)))))) yS) (yC (y0 (yM x8 (yL yX (pv 1) yE) yQ) (yF (yP (xK W hr rfl (yA (pv 0) (yA (yL yX (pv 1) yE) yD))))) yS) (yC (y0 (yM x8 (yL yX (pv 1) yE) yQ) (yC (y0 (yM aQm (yL yI (pv 2) yE) xY) (yF (yP yQ)) yS) (yC (v8 xY (qO (pv 2) yE zV)) (yF (yP yQ)))) yS) (yC (y0 (yM x8 (yL yX (pv 1) yE) yQ) (yC (y0 (yM vC (yL yX (pv 1) yE) yE) (yF (yP yQ)) yS) (yC (v8 (yL yX (pv 1) yE) (qO (pv 2) yE zV)) (yF (yP yQ)))) yS) (yC (y0 (yM x8 (yL yX (pv 1) yE) yQ) (yC (y0 (PW.pt (vD (yM x8 (yL yX (pv 1) yE) (yL yI (pv 2) yE)) (wM (yM wL (yL yX (pv 1) yE) (yL yI (pv 2) yE))))) (yF (yP yQ)) yS) (yC (v8 (yV aVn (yL yI (pv 2) yE) (y6 (yA (yL yX (pv 1) yE) yD))) (qO (pv 2) yE zV)) (yF (yP (yT yN rfl T.b_len y9 (yA (yL yI (pv 2) yE) yD)))))) yS) (yC (yU (i:=3) (xK G hr rfl (yA (pv 0) (yA (yL yX (pv 1) yE) yD)))) (yC (zL bYY rfl (xN (pv 3)) (xB (i:=4)) (yC (yU (i:=5) (yL yI (pv 0) (pv 4))) (yF (v8 (yL yX (pv 1) yE) (qO (pv 5) yE zV))))) (yF (yP (yT yN rfl T.b_len y9 (yA (pv 3) yD))))))))))))),?_⟩;have b5:aQU X Z Z H H:=(But.of y.dom (xA.refl _)).step;have txt:∀ {x:Str},(∀S,xU R S e (.txt x) R S)->Q (.str x) H:=λ{x} dn=>q H (.txt x) _ R b5 y dn rfl (λ_ z=>nomatch z);refine⟨_,rfl,_,rfl,l,_,1,_,rfl,rfl,SqT.of n,yR (j:=1) C.at1,X,Z,R,m,rfl,y,_,rfl,?_⟩;cases h1:Bk.z9 R m with
 |false=>exact onT rfl (txt λS=>C.no h1 S)
 |true=>
 obtain⟨i,r,rfl,a2,u,D⟩:=Bk.wF h1;obtain⟨b,g1,g2,cp,O,g4⟩:=y.get u;refine onF rfl ⟨_,rfl,_,rfl,l,_,1,_,rfl,rfl,SqT.of n,yR (j:=1) C.at1,X,_,_,_,rfl,rfl,SqL.of y.lst,yR g1,?_⟩;dsimp only[yW];have a6:∀j,r.link=some j->j<R.length:=λj hj=>by obtain⟨p,hp,_⟩:=a4.ans i j r u hj;exact(bYl.mp hp).1
 have up:∀ {x:Str} (g:Row->Row),(∀r,(g r).copies=r.copies)->(∀S,xU R S e (.txt x) (Bk.xR R i g) S)->Q (.str x) (upd H b (.lst (v9 (g r) cp))):=λ{x} g hg dn=>
  q _ (.txt x) _ _ (But.upd (l':=v9 (g r) cp) y.dom g2 O rfl).step (y.upd g2 u g (by rw[hg];exact g4)) dn rfl (λ_ z=>nomatch z)
 rcases C with rfl|⟨d,rfl⟩|⟨t,rfl⟩|⟨o,rfl⟩|⟨Y,rfl⟩|rfl
 ·refine⟨_,rfl,l,_,0,_,rfl,rfl,SqT.of n,rfl,rfl,_,rfl,onF (by decide) ⟨_,rfl,l,_,0,_,rfl,rfl,SqT.of n,rfl,rfl,_,rfl,onF (by decide) ⟨_,rfl,l,_,0,_,rfl,rfl,SqT.of n,rfl,rfl,_,rfl,onT (by decide) ⟨_,rfl,b,_,4,_,rfl,rfl,SqL.of O,rfl,rfl,_,rfl,?_⟩⟩⟩⟩;cases a7:r.link with
  |none=>exact onT rfl (txt λS=> .looseN u D a7)
  |some j=>refine onF rfl ⟨_,rfl,b,_,4,4,rfl,rfl,O,rfl,?_⟩;exact up (λr=>{r with link:=none}) (λ_=>rfl) λS=> .loose u D (by rw[a7];simp)
 ·refine⟨_,rfl,l,_,0,_,rfl,rfl,SqT.of n,rfl,rfl,_,rfl,onT (by decide) ⟨_,rfl,_,rfl,l,_,1,_,rfl,rfl,SqT.of n,rfl,_,rfl,l,_,2,_,rfl,rfl,SqT.of n,rfl,X,Z,R,i,r,d,rfl,y,by omega,u,a6,λH' a R' L a0 N=>?_⟩⟩;refine q H' (.txt a) _ R' L.step a0 (λS=>?_) rfl (λ_ z=>nomatch z);rcases N with⟨he,rfl,rfl⟩|⟨he,rfl,rfl⟩
  ·exact .dateE u D he
  ·refine .date u D (λj hj=>?_) (λc N=>?_)
   ·exact Int.not_lt.mp λz=>he (.inl ⟨j,hj,z⟩)
   ·exact Int.not_lt.mp λz=>he (.inr ⟨c,N,z⟩)
 ·refine⟨_,rfl,l,_,0,_,rfl,rfl,SqT.of n,rfl,rfl,_,rfl,onF (by decide) ⟨_,rfl,l,_,0,_,rfl,rfl,SqT.of n,rfl,rfl,_,rfl,onF (by decide) ⟨_,rfl,l,_,0,_,rfl,rfl,SqT.of n,rfl,rfl,_,rfl,onF (by decide) ⟨_,rfl,l,_,0,_,rfl,rfl,SqT.of n,rfl,rfl,_,rfl,onT (by decide) ⟨_,rfl,l,_,2,_,rfl,rfl,SqT.of n,rfl,_,_,rfl,rfl,_,rfl,?_⟩⟩⟩⟩⟩;refine qB (λc=>?_) (λc=>?_)
  ·exact txt λS=> .termN u D (of_decide_eq_true c)
  ·refine⟨_,rfl,l,_,2,_,rfl,rfl,SqT.of n,rfl,_,rfl,b,_,3,3,rfl,rfl,O,rfl,?_⟩;exact up (λr=>{r with term:=t}) (λ_=>rfl) λS=> .term u D (by have:=of_decide_eq_false (Bool.eq_false_iff.mpr c);omega)
 ·refine⟨_,rfl,l,_,0,_,rfl,rfl,SqT.of n,rfl,rfl,_,rfl,onF (by decide) ⟨_,rfl,l,_,0,_,rfl,rfl,SqT.of n,rfl,rfl,_,rfl,onF (by decide) ⟨_,rfl,l,_,0,_,rfl,rfl,SqT.of n,rfl,rfl,_,rfl,onF (by decide) ⟨_,rfl,l,_,0,_,rfl,rfl,SqT.of n,rfl,rfl,_,rfl,onF (by decide) ⟨_,rfl,l,_,0,_,rfl,rfl,SqT.of n,rfl,rfl,_,rfl,onT (by decide) ⟨_,rfl,l,_,2,_,rfl,rfl,SqT.of n,rfl,_,rfl,b,_,2,_,rfl,rfl,SqL.of O,rfl,rfl,_,rfl,?_⟩⟩⟩⟩⟩⟩;rw[wV];cases a3:decide (o=r.partner)with
  |true=>exact onT rfl (onT rfl (txt λS=> .copyC u D (.inl (of_decide_eq_true a3))))
  |false=>
  refine onF rfl ⟨_,rfl,l,_,2,_,rfl,rfl,SqT.of n,rfl,_,rfl,b,_,7,_,rfl,rfl,SqL.of O,rfl,cp,_,rfl,.inl (SqL.of g4),rfl,cZh.mpr (λv D=>by obtain⟨x,_,rfl⟩:=cQa.mp D;rfl),?_⟩;rw[if_neg (by decide),wS];refine⟨_,rfl,?_⟩;cases a8:r.copies.contains o with
  |true=>exact onT rfl (txt λS=> .copyC u D (.inr (by simpa using a8)))
  |false=>
  have c1:r.copies.length<=1000:=b0 r (bYt u);refine onF rfl ⟨_,rfl,b,_,7,_,rfl,rfl,SqL.of O,rfl,_,rfl,l,_,2,_,rfl,rfl,SqT.of n,rfl,z1,λl1 b7=>?_⟩;have k1:=yG b7 (.lst [.str o]);refine⟨cp,l1,_,_,rfl,rfl,k1 _ _ g4,yB,by rw[bYe,bYJ];simp;omega,λc2 B=>?_⟩;have a1:=aZ6 (y.same k1) g2 u (k1 _ _ O) (r.copies++ [o]) B;have e5:r.copies.map V.str++ [V.str o]=(r.copies++ [o]).map V.str:=by simp
  rw[e5];have k2:=yG B (.lst ((r.copies++ [o]).map V.str));have b3:c2≠b:=λz=>by rw[z,k1 _ _ O]at B;cases B
  refine⟨_,rfl,b,_,7,7,rfl,rfl,k2 _ _ (k1 _ _ O),rfl,?_⟩;refine⟨_,rfl,b,_,7,_,rfl,rfl,SqL.of yB,rfl,c2,(r.copies++ [o]).map V.str,rfl,.inl (SqL.of (by rw[yJ b3];exact yB)),?_⟩;have en:(((((r.copies++ [o]).map V.str).length:Nat)):Int)=(r.copies.length+1:Nat):=by simp
  rw[en];have hE:Bk.xR R i (λq=>{q with copies:=r.copies++ [o] })=Bk.xR R i (λq=>{q with copies:=q.copies++ [o] }):=by unfold Bk.xR;rw[u]
  rw[hE]at a1;exact q _ (.num _) _ _ (a1.2.pre y.dom k1) a1.1 (λS=> .copy u D (of_decide_eq_false a3) (by simpa using a8)) rfl (λ_ z=>nomatch z)
 ·obtain⟨rk,ok⟩:=a4.tree;refine⟨_,rfl,l,_,0,_,rfl,rfl,SqT.of n,rfl,rfl,_,rfl,onF (by decide) ⟨_,rfl,l,_,0,_,rfl,rfl,SqT.of n,rfl,rfl,_,rfl,onF (by decide) ⟨_,rfl,l,_,0,_,rfl,rfl,SqT.of n,rfl,rfl,_,rfl,onF (by decide) ⟨_,rfl,l,_,0,_,rfl,rfl,SqT.of n,rfl,rfl,_,rfl,onF (by decide) ⟨_,rfl,l,_,0,_,rfl,rfl,SqT.of n,rfl,rfl,_,rfl,onF (by decide) ⟨_,rfl,_,rfl,l,_,1,_,rfl,rfl,SqT.of n,rfl,X,Z,R.length,Bk.lk R,rk,Bk.dt R,i,rfl,y.rows,ok,hR,a2,λH2 l2 c0 k2 c4 a9 b2 b1=>?_⟩⟩⟩⟩⟩⟩;have b8:=Bk.aXi a2 ⟨rk,ok,b2,b1⟩;subst b8;dsimp only[yW];have a5:=y.same k2;have b6:H2 l=some (.tup [.str "file",.int (i:Nat),.str Y]):=k2 _ _ n;have b9:=y.tupNo n;refine⟨_,rfl,l2,rfl,⟨_,SqL.of a9⟩,?_⟩;refine zM (xs:=(Bk.thr R i).map λi=>V.int (i:Nat)) (λt σ H3=>∃o5 o6:Option V,σ= [some (.ref X),some (.ref l),some (.ref b),some (.ref l2),o5,o6]/\y8 H3 X Z (Bk.laid R ((Bk.thr R i).take t) Y)/\But Z H2 H3/\H3 l2=some (.lst ((Bk.thr R i).map λi=>V.int (i:Nat)))) ?_ ?_ ?_ ?_
  ·exact⟨none,none,rfl,a5,But.of a5.dom (xA.refl _),a9⟩
  ·rintro t σ H3 ht ⟨o5,o6,rfl,I,k3,J⟩;exact SqL.of J
  ·rintro t x σ H3 hx ⟨o5,o6,rfl,I,k3,J⟩;rw[bYu]at hx;cases N:(Bk.thr R i)[t]? with
   |none=>rw[N]at hx;cases hx
   |some k=>rw[N]at hx;cases hx;have b4:k<R.length:=((b1 k).mp (bYt N)).1;obtain⟨bk,ck,c5,e1,e2,e3,e4,e5,e6⟩:=aVi (K:=K) I N b4 J;dsimp only[yW];refine⟨_,rfl,_,rfl,X,_,_,_,rfl,rfl,SqL.of I.lst,yR e1,?_⟩;dsimp only[yW];exact⟨_,rfl,l,_,2,_,rfl,rfl,SqT.of (k3.1 _ _ b9 b6),rfl,_,rfl,bk,_,5,5,rfl,rfl,e2,rfl,_,_,rfl,e3,k3.trans e4,e5⟩
  ·rintro σ H3 ⟨o5,o6,rfl,I,k3,J⟩;rw[bYe,cQb]at I;refine⟨_,rfl,l2,_,rfl,.inl (SqL.of J),?_⟩;rw[bYe];exact q _ (.num _) _ _ (((But.of y.dom k2).trans k3).step) I (λS=> .file u D) rfl (λ_ z=>nomatch z)
 ·refine⟨_,rfl,l,_,0,_,rfl,rfl,SqT.of n,rfl,rfl,_,rfl,onF (by decide) ⟨_,rfl,l,_,0,_,rfl,rfl,SqT.of n,rfl,rfl,_,rfl,onT (by decide) ⟨_,rfl,_,rfl,l,_,1,_,rfl,rfl,SqT.of n,rfl,X,Z,R,i,r,rfl,y,by omega,u,λH' a R' L a0 N=>?_⟩⟩⟩;refine q H' (.txt a) _ R' L.step a0 (λS=>?_) rfl (λ_ z=>nomatch z);rcases N with⟨he,rfl,rfl⟩|⟨he,rfl,rfl⟩
  ·exact .voidA u D he
  ·exact .void u D he
end
end Law
namespace Law
open PySem L2 PyProof.Rows
open Bk (Row Rows xU xM Ans)
open Desk (xE wX uD Wf wS stV)
abbrev aYN:Stmt:=xC "_law_told_of"
def aKf(e:xM):Prop:=(∃m,e= .state m)\/(∃m,e= .thread m)\/(∃m,e= .copies m)\/(∃w,e= .letters w)\/∃a d,e= .on a d
def bQm:Sp:=λg H Q _=>∃ (d f c:Nat)(h:List Nat)(R:Rows)(S:List Int)(e:xM),g= [.ref d,.ref f,.ref c]/\H c=some (.tup (xE e))/\aKf e/\y8 H d h R/\H f=some (.lst (S.map V.int))/\R.length<=60/\Bk.qR R/\
 ∀ (b:Hp)(a:Ans)(v:V),xA H b->xU R S e a R S->wX [] b a v->uD H v->Q v b
theorem wY:bYT "list"=some (.type "list"):=dk
theorem uS:bYT "tuple"=some (.type "tuple"):=dk
section
variable {K:bYc}
theorem bVD:yO ["_law_rows","_law_shut","_law_deed","_law_here"] ["_law_rows","_law_shut","_law_deed"] (yH aYN):=scM
theorem bQ2:xJ ["_law_rows","_law_shut","_law_deed","_law_here"] (yH aYN) "_law_k" ["_law_rows"] [0] {kind:= .function,names:= [(".0",.local),("_law_k",.local),("_law_rows",.free)],isGenerator:=false,isCoroutine:=false,more:= [] }:=
 lcM
theorem bQ3:xJ ["_law_rows","_law_shut","_law_deed","_law_here"] (yH aYN) "_law_k" ["_law_deed","_law_rows"] [2,0] {kind:= .function,names:= [(".0",.local),("_law_k",.local),("_law_deed",.free),("_law_rows",.free)],isGenerator:=false,isCoroutine:=false,more:= [] }:=
 lcM
def X7(R:Rows)(w:Str):V->Bool
 |.int n=>match R[n.toNat]? with|some r=>decide (r.place=w)|none=>false
 |_=>false
theorem bJX(T:vA mg)(a2:mg "list"=none)(a6:mg "tuple"=none)(M:FnG P w K mg base 2 "_law_good" ["_law_rows","_law_number"] Z6)(t:FnG P w K mg base 3 "_law_list_on" ["_law_rows","_law_shut","_law_date","_law_late"] aVM) (G:FnG P w K mg base 2 "_law_family" ["_law_rows","_law_number"] jB) (F:Fun K "_law_told_of" "_law_told_of" aYN f fd):xD P w K mg base CX0 4 f fd ["_law_rows","_law_shut","_law_deed"] bQm:=by
 have sc:=bVD;refine F.ok (k:=3) sc (λc0 A outer s H vs Q E hr h=>?_);obtain⟨C,sa,g,Y,R,S,e,rfl,y,a5,L,a7,hR,b2,q⟩:=h;have a3:vM 2 _:=hr.mono (by omega);refine⟨_,(yC (y0 (yM x8 (yL yX (pv 2) yE) yQ) (yC (aZE (i:=3) bQ2 rfl sc.nd rfl rfl (xW rfl T.b_range (yA (yT yN rfl T.b_len y9 (yA (pv 0) yD)) yD)) (λ_ _ _ _ _=>(wU (wA (xP (yL (show IxR _ (aXW K)from yI) (yL (show IxR _ (aXW K)from yI) (pv 1) (pv 0)) yE))))) (λ_ _ _ _ _=>(pv 0))) (yF (yP (W3 bQ3 rfl (xN (pv 3)) (λ_ _ _ _ _=>(wU (yM x8 (yL (show IxR _ (aXW K)from yI) (yL (show IxR _ (aXW K)from yI) (pv 2) (pv 0)) yE) (yL (show IxR _ (bZT K)from yX) (pv 1) yE)))) (λ_ _ _ _ _=>(pv 0)))))) yS) (yC (y0 (yM wL (yL yX (pv 2) yE) (y6 (yA yQ (yA yQ yD)))) (yF (yP (xK t hr rfl (yA (pv 0) (yA (pv 1) (yA (yL yX (pv 2) yE) (yA (zE x8 (yL yX (pv 2) yE) yQ) yD))))))) yS) (yC (y0 (wA (xP (xK M a3 rfl (yA (pv 0) (yA (yL yX (pv 2) yE) yD))))) (yF (yP yQ)) yS) (yC (y0 (yM x8 (yL yX (pv 2) yE) yQ) (yF (yP (xK G a3 rfl (yA (pv 0) (yA (yL yX (pv 2) yE) yD))))) yS) (yC (y0 (yM x8 (yL yX (pv 2) yE) yQ) (yF (yP (x4 uF rfl a2 wY (yA (yL yI (yL yI (pv 0) (yL yX (pv 2) yE)) yE) yD)))) yS) (yF (yP (x4 qF rfl a6 uS (yA (aXz aJ2 (yL yI (pv 0) (yL yX (pv 2) yE)) aJD (aJE yE)) yD))))))))),?_⟩;have txt:∀ {B:Hp} {x:Str},xA H B->xU R S e (.txt x) R S->Q (.str x) B:=λ{B x} k dn=>q B (.txt x) _ k dn rfl (λ_ z=>nomatch z);have one:∀ {m:Int} {x:Str},xE e= [.str x,.int m]->True:=λ_=>trivial;rcases a5 with⟨m,rfl⟩|⟨m,rfl⟩|⟨m,rfl⟩|⟨j,rfl⟩|⟨o,d,rfl⟩
 ·refine⟨_,rfl,g,_,0,_,rfl,rfl,SqT.of y,rfl,rfl,_,rfl,onF (by decide) ?_⟩;refine⟨_,rfl,g,_,0,_,rfl,rfl,SqT.of y,rfl,z2,λJ u=>⟨J,_,rfl,.inl (SqL.of yB),rfl,rfl,_,rfl,onF (by decide) ?_⟩⟩;have n:=yG u (.lst [.str "waiting",.str "overdue"]);generalize upd H J (.lst [.str "waiting",.str "overdue"])=H1 at n ⊢;have a:H1 g=some (.tup [.str "state",.int m]):=n _ _ y;have c:=L.same n;refine⟨_,rfl,_,rfl,g,_,1,_,rfl,rfl,SqT.of a,rfl,C,Y,R,m,rfl,c,_,rfl,?_⟩;cases Z:Bk.z9 R m with
  |false=>exact onT rfl (txt n (.oneN Z (by simp)))
  |true=>
  obtain⟨i,r,rfl,N,hi,W⟩:=Bk.wF Z;obtain⟨b,g1,g2,cp,U,g4⟩:=c.get hi;refine onF rfl ⟨_,rfl,g,_,0,_,rfl,rfl,SqT.of a,rfl,rfl,_,rfl,onF (by decide) ⟨_,rfl,g,_,0,_,rfl,rfl,SqT.of a,rfl,rfl,_,rfl,onF (by decide) ?_⟩⟩;refine⟨_,rfl,_,rfl,g,_,1,_,rfl,rfl,SqT.of a,rfl,C,_,_,_,rfl,rfl,SqL.of c.lst,yR g1,_,rfl,b,_,rfl,SqL.of U,λp2 O=>⟨p2,_,rfl,.inl ⟨SqL.of yB,λp3 a4=>?_⟩⟩⟩;have b1:aXm (v9 r cp) none (some 6)=stV r:=by unfold stV Desk.W4 Desk.qZ;rw[W];cases b3:r.link<;> (unfold v9;rw[b3];rfl)
  have k2:=yG O (.lst (aXm (v9 r cp) none (some 6)));have k3:=yG a4 (.tup (aXm (v9 r cp) none (some 6)));exact q _ (.row r) _ ((n.trans k2).trans k3) (.state hi W) ⟨p3,rfl,by simp,by rw[<- b1];exact yB⟩ (.none ((n.trans k2).fresh a4))
 ·refine⟨_,rfl,g,_,0,_,rfl,rfl,SqT.of y,rfl,rfl,_,rfl,onF (by decide) ?_⟩;refine⟨_,rfl,g,_,0,_,rfl,rfl,SqT.of y,rfl,z2,λJ u=>⟨J,_,rfl,.inl (SqL.of yB),rfl,rfl,_,rfl,onF (by decide) ?_⟩⟩;have n:=yG u (.lst [.str "waiting",.str "overdue"]);generalize upd H J (.lst [.str "waiting",.str "overdue"])=H1 at n ⊢;have a:H1 g=some (.tup [.str "thread",.int m]):=n _ _ y;have c:=L.same n;refine⟨_,rfl,_,rfl,g,_,1,_,rfl,rfl,SqT.of a,rfl,C,Y,R,m,rfl,c,_,rfl,?_⟩;cases Z:Bk.z9 R m with
  |false=>exact onT rfl (txt n (.oneN Z (by simp)))
  |true=>
  obtain⟨i,r,rfl,N,hi,W⟩:=Bk.wF Z;obtain⟨rk,ok⟩:=b2.tree;refine onF rfl ⟨_,rfl,g,_,0,_,rfl,rfl,SqT.of a,rfl,rfl,_,rfl,onT (by decide) ?_⟩;refine⟨_,rfl,_,rfl,g,_,1,_,rfl,rfl,SqT.of a,rfl,C,Y,R.length,Bk.lk R,rk,Bk.dt R,i,rfl,c.rows,ok,hR,N,λH2 l2 b9 k2 b4 b6 a9 b8=>?_⟩;have b7:=Bk.aXi N ⟨rk,ok,a9,b8⟩;subst b7;exact q _ (.nums (Bk.thr R i)) _ (n.trans k2) (.thread hi W) ⟨l2,rfl,by simp,b6⟩ (.none (n.fresh b4))
 ·refine⟨_,rfl,g,_,0,_,rfl,rfl,SqT.of y,rfl,rfl,_,rfl,onF (by decide) ?_⟩;refine⟨_,rfl,g,_,0,_,rfl,rfl,SqT.of y,rfl,z2,λJ u=>⟨J,_,rfl,.inl (SqL.of yB),rfl,rfl,_,rfl,onF (by decide) ?_⟩⟩;have n:=yG u (.lst [.str "waiting",.str "overdue"]);generalize upd H J (.lst [.str "waiting",.str "overdue"])=H1 at n ⊢;have a:H1 g=some (.tup [.str "copies",.int m]):=n _ _ y;have c:=L.same n;refine⟨_,rfl,_,rfl,g,_,1,_,rfl,rfl,SqT.of a,rfl,C,Y,R,m,rfl,c,_,rfl,?_⟩;cases Z:Bk.z9 R m with
  |false=>exact onT rfl (txt n (.oneN Z (by simp)))
  |true=>
  obtain⟨i,r,rfl,N,hi,W⟩:=Bk.wF Z;obtain⟨b,g1,g2,cp,U,g4⟩:=c.get hi;refine onF rfl ⟨_,rfl,g,_,0,_,rfl,rfl,SqT.of a,rfl,rfl,_,rfl,onF (by decide) ⟨_,rfl,g,_,0,_,rfl,rfl,SqT.of a,rfl,rfl,_,rfl,onT (by decide) ?_⟩⟩;refine⟨_,rfl,_,rfl,g,_,1,_,rfl,rfl,SqT.of a,rfl,C,_,_,_,rfl,rfl,SqL.of c.lst,yR g1,b,_,7,_,rfl,rfl,SqL.of U,rfl,cp,_,rfl,.inl (SqL.of g4),λp2 O=>?_⟩;have k2:=yG O (.lst (r.copies.map V.str));exact q _ (.txts r.copies) _ (n.trans k2) (.copies hi W) ⟨p2,rfl,by simp,yB⟩ (.none (n.fresh O))
 ·have b0:H g=some (.tup [.str "letters",.str j]):=y;refine⟨_,rfl,g,_,0,_,rfl,rfl,SqT.of y,rfl,rfl,_,rfl,onT (by decide) ?_⟩;have hl:(Y.map V.ref).length=R.length:=by rw[bYe];exact L.len
  refine⟨_,rfl,C,_,rfl,.inl (SqL.of L.lst),?_⟩;rw[hl];refine⟨_,rfl,by omega,by omega,λD hD=>?_⟩;rw[bYH];refine W7 (λk=>match R[k]? with|some r=> !r.void|none=>false) (λk=>V.int (k:Nat)) hD (by rw[bYJ];omega) (λk I B R' X p=>?_) (λk I _ B R' X p=>⟨_,rfl,p⟩) ?_
  ·obtain⟨b,g1,g2,cp,U,g4⟩:=L.get (bK9 I);have a1:B C=some (.lst (Y.map V.ref)):=by rw[X C (yK L.lst hD)];exact L.lst
   have hb:B b=_:=(X b (yK U hD)).trans U;rw[bK9 I]at p;exact⟨_,rfl,_,rfl,C,_,_,_,rfl,rfl,SqL.of a1,yR g1,b,_,6,_,rfl,rfl,SqL.of hb,rfl,_,rfl,p⟩
  have k1:=yG hD (.lst (((bYn R.length).filter λk=>match R[k]? with|some r=> !r.void|none=>false).map λk=>V.int (k:Nat)));have a0:upd H D (.lst (((bYn R.length).filter λk=>match R[k]? with|some r=> !r.void|none=>false).map λk=>V.int (k:Nat))) D=some (.lst (((bYn R.length).filter λk=>match R[k]? with|some r=> !r.void|none=>false).map λk=>V.int (k:Nat))):=yB;generalize upd H D (.lst (((bYn R.length).filter λk=>match R[k]? with|some r=> !r.void|none=>false).map λk=>V.int (k:Nat)))=H1 at k1 a0 ⊢;have c:=L.same k1;have a:=k1 _ _ b0;dsimp only[yW];refine⟨_,rfl,D,rfl,⟨_,SqL.of a0⟩,λE hE=>?_⟩;refine aZr (X7 R j) id (SqL.of a0) hE ?_ (λv W B R' X p=>?_) (λv W _ B R' X p=>⟨_,rfl,p⟩) ?_
  ·rw[bYe,bYJ];have:=cQe (λk=>match R[k]? with|some r=> !r.void|none=>false) (bYn R.length);rw[bYW]at this;omega
  ·obtain⟨k,I,rfl⟩:=cQa.mp W;have I:k<R.length:=bYI.mp (cQg.mp I).1;obtain⟨b,g1,g2,cp,U,g4⟩:=c.get (bK9 I);have a1:B C=some (.lst (Y.map V.ref)):=by rw[X C (yK c.lst hE)];exact c.lst
   have hb:B b=_:=(X b (yK U hE)).trans U;have b5:B g=_:=(X g (yK a hE)).trans a;have e1:X7 R j (V.int (k:Nat))=decide (R[k].place=j):=by show(match R[((k:Nat):Int).toNat]? with|some r=>decide (r.place=j)|none=>false)=_;rw[bYH,bK9 I]
   rw[e1]at p;refine⟨_,rfl,_,rfl,C,_,_,_,rfl,rfl,SqL.of a1,yR g1,b,_,5,_,rfl,rfl,SqL.of hb,rfl,_,rfl,g,_,1,_,rfl,rfl,SqT.of b5,rfl,rfl,_,rfl,?_⟩;rw[wV];exact p
  ·have ef:(((((bYn R.length).filter λk=>match R[k]? with|some r=> !r.void|none=>false).map λk=>V.int (k:Nat)).filter (X7 R j)).map id)=((bYn R.length).filter λk=>match R[k]? with|some r=> !r.void && decide (r.place=j)|none=>false).map λk=>V.int (k:Nat):=by
    rw[List.map_id,List.filter_map,List.filter_filter];congr 1;refine cJi λk I=>?_;have I:k<R.length:=bYI.mp I;show(X7 R j (V.int (k:Nat)) && _)=_;show((match R[((k:Nat):Int).toNat]? with|some r=>decide (r.place=j)|none=>false) && _)=_;rw[bYH,bK9 I];exact Bool.and_comm _ _
   rw[ef];exact q _ (.nums _) _ (k1.trans (yG hE _)) .letters ⟨E,rfl,by simp,yB⟩ (.none (k1.fresh hE))
 ·refine⟨_,rfl,g,_,0,_,rfl,rfl,SqT.of y,rfl,rfl,_,rfl,onF (by cases o<;> decide) ?_⟩;refine⟨_,rfl,g,_,0,_,rfl,rfl,SqT.of y,rfl,z2,λJ u=>⟨J,_,rfl,.inl (SqL.of yB),rfl,rfl,_,rfl,onT (by cases o<;> decide) ?_⟩⟩;have n:=yG u (.lst [.str "waiting",.str "overdue"]);generalize upd H J (.lst [.str "waiting",.str "overdue"])=H1 at n ⊢;have a:H1 g=some (.tup [.str (if o then "overdue" else "waiting"),.int d]):=n _ _ y;have c:=L.same n;have e1:decide (V.str (if o then "overdue" else "waiting")=V.str "overdue")=o:=by cases o<;> decide
  refine⟨_,rfl,_,rfl,_,rfl,g,_,1,_,rfl,rfl,SqT.of a,rfl,_,rfl,g,_,0,_,rfl,rfl,SqT.of a,rfl,rfl,?_⟩;rw[e1];refine⟨C,sa,Y,R,S,d,o,rfl,c,n _ _ a7,by omega,λr B l k nl hl a8=>?_⟩;exact q _ (.nums l) _ (n.trans k) (.on a8) ⟨r,rfl,by simp,hl⟩ (.none (n.fresh nl))
end
end Law
namespace Law
open PySem L2 PyProof.Rows
open Bk (Row Rows xU xM Ans)
open Desk (xE wX uD Wf wS stV)
abbrev bVb:Stmt:=xC "_law_done_by"
structure LBk(H:Hp)(ra sa:Nat)(rs:List Nat)(R:Rows)(S:List Int):Prop where
 book:y8 H ra rs R
 shut:H sa=some (.lst (S.map V.int))
 ne:sa≠ra
 no:sa∉rs
 noC:NoC rs H sa
def aXZ(e sa:Nat)(c a:List Nat)(H d:Hp):Prop:=(∀x o,x≠sa->x≠e->x∉c->H x=some o->d x=some o)/\(∀b∈a,b∈c\/H b=none)/\∀s u,H s=some u->NoC c H s->NoC a d s
theorem LBk.same{H c:Hp}{b sa:Nat}{a:List Nat}{R:Rows}{S:List Int}(h:LBk H b sa a R S)(k:xA H c):LBk c b sa a R S:=
 ⟨h.book.same k,k _ _ h.shut,h.ne,h.no,(But.of h.book.dom k).2.2 sa _ h.shut h.noC⟩
theorem LBk.step{H c:Hp}{b sa:Nat}{d a:List Nat}{R f:Rows}{S:List Int}(h:LBk H b sa d R S)(k:aQU b d a H c)(j:y8 c b a f):LBk c b sa a f S/\aXZ b sa d a H c:=
 ⟨⟨j,k.1 sa _ (λz=>(bYj.mp z).elim h.ne h.no) h.shut,h.ne,λz=>(k.2.1 sa z).elim h.no (λy=>by have:=h.shut;rw[y]at this;cases this),k.2.2 sa _ h.shut h.noC⟩,λx o _ g i e=>k.1 x o (λz=>(bYj.mp z).elim g i) e,k.2.1,k.2.2⟩
theorem LBk.put{H:Hp}{g sa:Nat}{f:List Nat}{R:Rows}{S:List Int}(h:LBk H g sa f R S)(d:Int):LBk (upd H sa (.lst ((S++ [d]).map V.int))) g sa f R (S++ [d])/\aXZ g sa f f H (upd H sa (.lst ((S++ [d]).map V.int))):=by
 refine⟨⟨⟨by rw[yJ (bYU h.ne)];exact h.book.lst,h.book.len,h.book.nd,λi b r a p=>?_⟩,yB,h.ne,h.no,λb a l c=>?_⟩,λx o n _ _ e=>by rw[yJ n];exact e,λb a=> .inl a,λs u e n b a l c=>n b a l (by rw[yJ (λz=>h.no (by rw[<- z];exact a))]at c;exact c)⟩
 ·obtain⟨k,j,m⟩:=h.book.row i b r a p;have q:b≠sa:=λz=>h.no (by rw[<- z];exact bYt a);have t:k≠sa:=λz=>h.noC b (bYt a) _ j (by rw[<- z];rfl);exact⟨k,by rw[yJ q];exact j,by rw[yJ t];exact m⟩
 ·rw[yJ (λz=>h.no (by rw[<- z];exact a))]at c;exact h.noC b a l c
def aXg:Sp:=λk H Q _=>∃ (c d h:Nat)(i:List Nat)(R:Rows)(S:List Int)(e:xM),k= [.ref c,.ref d,.ref h]/\H h=some (.tup (xE e))/\Wf e/\LBk H c d i R S/\R.length<=60/\S.length<=60/\Bk.qR R/\(∀r∈R,r.copies.length<=1000)/\
 ∀ (f:Hp)(a:Ans)(v:V)(j:Rows)(g:List Int)(b:List Nat),aXZ c d i b H f->LBk f c d b j g->xU R S e a j g->wX [] f a v->uD H v->Q v f
theorem uD.pre{H a:Hp}(k:xA H a){v:V}(h:uD a v):uD H v:=λp e u b z=>h p e u b (k _ _ z)
theorem aXZ.pre{g sa:Nat}{c a:List Nat}{H d f:Hp}(i:∀b∈c,∃o,H b=some o)(k:xA H d)(s:aXZ g sa c a d f):aXZ g sa c a H f:=
 ⟨λx o l m j e=>s.1 x o l m j (k _ _ e),λb h=>(s.2.1 b h).imp id λz=>k.fresh z,λx u e n=>s.2.2 x u (k _ _ e) ((But.of i k).2.2 x u e n)⟩
section
variable {K:bYc}
theorem bVq:yO ["_law_rows","_law_shut","_law_deed"] ["_law_rows","_law_shut","_law_deed"] (yH bVb):=scM
theorem bJJ(y:FnG P w K mg base 4 "_law_entered" ["_law_rows","_law_deed"] aQK)(I:FnG P w K mg base 4 "_law_hung" ["_law_rows","_law_number","_law_goal"] bZZ) (u:FnG P w K mg base 4 "_law_told_of" ["_law_rows","_law_shut","_law_deed"] bQm) (r:FnG P w K mg base 4 "_law_with_one" ["_law_rows","_law_deed"] bQp) (F:Fun K "_law_done_by" "_law_done_by" bVb f fd):xD P w K mg base CX0 5 f fd ["_law_rows","_law_shut","_law_deed"] aXg:=by
 have sc:=bVq;refine F.ok (k:=4) sc (λa6 A outer s H vs Q E hr h=>?_);obtain⟨X,sa,g,J,R,S,e,rfl,hd,a0,L,hR,hS,T,a1,q⟩:=h;refine⟨_,(yC (y0 (yM wL (yL yX (pv 2) yE) (y6 (yA yQ (yA yQ (yA yQ yD))))) (yF (yP (xK y hr rfl (yA (pv 0) (yA (pv 2) yD))))) yS) (yC (y0 (yM x8 (yL yX (pv 2) yE) yQ) (yF (yP (xK I hr rfl (yA (pv 0) (yA (yL yX (pv 2) yE) (yA (yL yX (pv 2) yE) yD)))))) yS) (yC (y0 (yM x8 (yL yX (pv 2) yE) yQ) (yC (y0 (PW.pt (vD (yM aQl (yV y3 (yL yX (pv 2) yE) yE) yE) (wM (yM wL (yL yX (pv 2) yE) (pv 1))))) (yF (yP yQ)) yS) (yC (yY (uC bYM bYR bYS xL (pv 1) (yA (yL yX (pv 2) yE) yD))) (yF (yP yQ)))) yS) (yC (y0 (yM wL (yL yX (pv 2) yE) (y6 (yA yQ (yA yQ (yA yQ (yA yQ (yA yQ (yA yQ yD)))))))) (yF (yP (xK u hr rfl (yA (pv 0) (yA (pv 1) (yA (pv 2) yD)))))) yS) (yF (yP (xK r hr rfl (yA (pv 0) (yA (pv 2) yD))))))))),?_⟩;have h0:(xE e)[0]? =some (.str (Desk.aWc e)):=by cases e<;> rfl
 refine⟨_,rfl,g,_,0,_,rfl,rfl,SqT.of hd,yR (j:=0) h0,z3,λl0 a5=>⟨l0,_,rfl,.inl (SqL.of yB),rfl,rfl,_,rfl,?_⟩⟩;have n:=yG a5 (.lst [.str "in",.str "out",.str "reply"]);generalize upd H l0 (.lst [.str "in",.str "out",.str "reply"])=H1 at n ⊢;have c:=n _ _ hd;have p:=L.same n;have Z:((∃M d U t,e= .enter M d U t)\/∃m d t,e= .reply m d t)->aQK [.ref X,.ref g] H1 Q E0:=λhf=>by refine⟨X,g,J,R,e,rfl,c,a0,hf,p.book,hR,λW a v R' a4 st D O av Y=>?_⟩;have:=p.step st D;exact q W a v R' S a4 (this.2.pre L.book.dom n) this.1 (O S) av (uD.pre n Y)
 have one:∀ {N:Hp} {m:Int},xA H N->qU e m->bQp [.ref X,.ref g] N Q E0:=λ{N m} k hf=>by have C:=L.same k;refine⟨X,g,J,R,e,m,rfl,k _ _ hd,hf,C.book,hR,T,a1,λW a v R' st D O av Y=>?_⟩;have:=C.step st D;exact q W a v R' S J (this.2.pre L.book.dom k) this.1 (O S) av (uD.pre k Y)
 have G:∀ {N:Hp},xA H N->aKf e->bQm [.ref X,.ref sa,.ref g] N Q E0:=λ{N} k hf=>by have C:=L.same k;refine⟨X,sa,g,J,R,S,e,rfl,k _ _ hd,hf,C.book,C.shut,hR,T,λW a v k2 O av Y=>?_⟩;exact q W a v R S J ⟨λx o _ _ _ e=>k2 _ _ (k _ _ e),λb hb=> .inl hb,(But.of L.book.dom (k.trans k2)).2.2⟩ (C.same k2) O av (uD.pre k Y)
 cases e with
 |enter M d U t=>have a3:M="in"\/M="out":=a0;refine onT (by rcases a3 with rfl|rfl<;> rfl) ⟨_,rfl,_,rfl,Z (.inl ⟨_,_,_,_,rfl⟩)⟩
 |reply m d t=>exact onT rfl ⟨_,rfl,_,rfl,Z (.inr ⟨_,_,_,rfl⟩)⟩
 |hang m o=>refine onF rfl ⟨_,rfl,g,_,0,_,rfl,rfl,SqT.of c,rfl,rfl,_,rfl,onT rfl ⟨_,rfl,_,rfl,g,_,1,_,rfl,rfl,SqT.of c,rfl,_,rfl,g,_,2,_,rfl,rfl,SqT.of c,rfl,?_⟩⟩;refine⟨X,J,R,m,o,rfl,p.book,hR,T.tree,λW a R' st D O=>?_⟩;have:=p.step st.step D;exact q W (.txt a) _ R' S J (this.2.pre L.book.dom n) this.1 (O S) rfl (λ_ z=>nomatch z)
 |shut d=>
  refine onF rfl ⟨_,rfl,g,_,0,_,rfl,rfl,SqT.of c,rfl,rfl,_,rfl,onF rfl ⟨_,rfl,g,_,0,_,rfl,rfl,SqT.of c,rfl,rfl,_,rfl,onT rfl ?_⟩⟩;refine⟨_,rfl,g,_,1,_,rfl,rfl,SqT.of c,rfl,_,_,rfl,rfl,(show(0:Int)<7 by decide),_,_,rfl,rfl,_,rfl,?_⟩;have no:Dm.cts S d=false->Q (.str "counts not") H1:=λh=>q H1 (.txt "counts not") _ R S J ⟨λx o _ _ _ e=>n _ _ e,λb hb=> .inl hb,(But.of L.book.dom n).2.2⟩ p (.shutN h) rfl (λ_ z=>nomatch z);cases h1:decide (d % 7 > 4)with
  |true=>exact onT rfl (onT rfl (no (by unfold Dm.cts Dm.opn;rw[decide_eq_false (by have:=of_decide_eq_true h1;omega)];rfl)))
  |false=>
  refine onF rfl ⟨_,rfl,g,_,1,_,rfl,rfl,SqT.of c,rfl,_,rfl,sa,_,rfl,.inl (SqL.of p.shut),rfl,cZh.mpr (λv hv=>by obtain⟨x,_,rfl⟩:=cQa.mp hv;rfl),?_⟩;rw[if_neg (by decide),uU];refine⟨_,rfl,?_⟩;cases h2:S.contains d with
  |true=>exact onT rfl (no (by unfold Dm.cts;rw[h2];simp))
  |false=>
  refine onF rfl ⟨_,rfl,.inl ⟨rfl,_,SqL.of p.shut⟩,_,rfl,g,_,1,_,rfl,rfl,SqT.of c,rfl,sa,_,_,rfl,rfl,p.shut,zlt (by rw[bYe];omega),?_⟩;have e5:S.map V.int++ [V.int d]=(S++ [d]).map V.int:=by simp
  rw[e5];have:=p.put d;exact q _ (.txt "shut") _ R (S++ [d]) J (this.2.pre L.book.dom n) this.1 (.shut (by unfold Dm.cts Dm.opn;rw[h2,decide_eq_true (by have:=of_decide_eq_false h1;omega)];rfl)) rfl (λ_ z=>nomatch z)
 |loose m=>exact onF rfl ⟨_,rfl,g,_,0,_,rfl,rfl,SqT.of c,rfl,rfl,_,rfl,onF rfl ⟨_,rfl,g,_,0,_,rfl,rfl,SqT.of c,rfl,rfl,_,rfl,onF rfl ⟨_,rfl,g,_,0,_,rfl,rfl,SqT.of c,rfl,zn (by show 6<=100000;omega),λl i=>⟨l,_,rfl,.inl (SqL.of yB),rfl,rfl,_,rfl,onF rfl ⟨_,rfl,_,rfl,one (n.trans (yG i _)) (.inl rfl)⟩⟩⟩⟩⟩
 |date m d=>exact onF rfl ⟨_,rfl,g,_,0,_,rfl,rfl,SqT.of c,rfl,rfl,_,rfl,onF rfl ⟨_,rfl,g,_,0,_,rfl,rfl,SqT.of c,rfl,rfl,_,rfl,onF rfl ⟨_,rfl,g,_,0,_,rfl,rfl,SqT.of c,rfl,zn (by show 6<=100000;omega),λl i=>⟨l,_,rfl,.inl (SqL.of yB),rfl,rfl,_,rfl,onF rfl ⟨_,rfl,_,rfl,one (n.trans (yG i _)) (.inr (.inl ⟨_,rfl⟩))⟩⟩⟩⟩⟩
 |term m t=>exact onF rfl ⟨_,rfl,g,_,0,_,rfl,rfl,SqT.of c,rfl,rfl,_,rfl,onF rfl ⟨_,rfl,g,_,0,_,rfl,rfl,SqT.of c,rfl,rfl,_,rfl,onF rfl ⟨_,rfl,g,_,0,_,rfl,rfl,SqT.of c,rfl,zn (by show 6<=100000;omega),λl i=>⟨l,_,rfl,.inl (SqL.of yB),rfl,rfl,_,rfl,onF rfl ⟨_,rfl,_,rfl,one (n.trans (yG i _)) (.inr (.inr (.inl ⟨_,rfl⟩)))⟩⟩⟩⟩⟩
 |copy m U=>exact onF rfl ⟨_,rfl,g,_,0,_,rfl,rfl,SqT.of c,rfl,rfl,_,rfl,onF rfl ⟨_,rfl,g,_,0,_,rfl,rfl,SqT.of c,rfl,rfl,_,rfl,onF rfl ⟨_,rfl,g,_,0,_,rfl,rfl,SqT.of c,rfl,zn (by show 6<=100000;omega),λl i=>⟨l,_,rfl,.inl (SqL.of yB),rfl,rfl,_,rfl,onF rfl ⟨_,rfl,_,rfl,one (n.trans (yG i _)) (.inr (.inr (.inr (.inl ⟨_,rfl⟩))))⟩⟩⟩⟩⟩
 |file m a2=>exact onF rfl ⟨_,rfl,g,_,0,_,rfl,rfl,SqT.of c,rfl,rfl,_,rfl,onF rfl ⟨_,rfl,g,_,0,_,rfl,rfl,SqT.of c,rfl,rfl,_,rfl,onF rfl ⟨_,rfl,g,_,0,_,rfl,rfl,SqT.of c,rfl,zn (by show 6<=100000;omega),λl i=>⟨l,_,rfl,.inl (SqL.of yB),rfl,rfl,_,rfl,onF rfl ⟨_,rfl,_,rfl,one (n.trans (yG i _)) (.inr (.inr (.inr (.inr (.inl ⟨_,rfl⟩)))))⟩⟩⟩⟩⟩
 |void m=>exact onF rfl ⟨_,rfl,g,_,0,_,rfl,rfl,SqT.of c,rfl,rfl,_,rfl,onF rfl ⟨_,rfl,g,_,0,_,rfl,rfl,SqT.of c,rfl,rfl,_,rfl,onF rfl ⟨_,rfl,g,_,0,_,rfl,rfl,SqT.of c,rfl,zn (by show 6<=100000;omega),λl i=>⟨l,_,rfl,.inl (SqL.of yB),rfl,rfl,_,rfl,onF rfl ⟨_,rfl,_,rfl,one (n.trans (yG i _)) (.inr (.inr (.inr (.inr (.inr rfl)))))⟩⟩⟩⟩⟩
 |state m=>exact onF rfl ⟨_,rfl,g,_,0,_,rfl,rfl,SqT.of c,rfl,rfl,_,rfl,onF rfl ⟨_,rfl,g,_,0,_,rfl,rfl,SqT.of c,rfl,rfl,_,rfl,onF rfl ⟨_,rfl,g,_,0,_,rfl,rfl,SqT.of c,rfl,zn (by show 6<=100000;omega),λl i=>⟨l,_,rfl,.inl (SqL.of yB),rfl,rfl,_,rfl,onT rfl ⟨_,rfl,_,rfl,_,rfl,G (n.trans (yG i _)) (.inl ⟨_,rfl⟩)⟩⟩⟩⟩⟩
 |thread m=>exact onF rfl ⟨_,rfl,g,_,0,_,rfl,rfl,SqT.of c,rfl,rfl,_,rfl,onF rfl ⟨_,rfl,g,_,0,_,rfl,rfl,SqT.of c,rfl,rfl,_,rfl,onF rfl ⟨_,rfl,g,_,0,_,rfl,rfl,SqT.of c,rfl,zn (by show 6<=100000;omega),λl i=>⟨l,_,rfl,.inl (SqL.of yB),rfl,rfl,_,rfl,onT rfl ⟨_,rfl,_,rfl,_,rfl,G (n.trans (yG i _)) (.inr (.inl ⟨_,rfl⟩))⟩⟩⟩⟩⟩
 |copies m=>exact onF rfl ⟨_,rfl,g,_,0,_,rfl,rfl,SqT.of c,rfl,rfl,_,rfl,onF rfl ⟨_,rfl,g,_,0,_,rfl,rfl,SqT.of c,rfl,rfl,_,rfl,onF rfl ⟨_,rfl,g,_,0,_,rfl,rfl,SqT.of c,rfl,zn (by show 6<=100000;omega),λl i=>⟨l,_,rfl,.inl (SqL.of yB),rfl,rfl,_,rfl,onT rfl ⟨_,rfl,_,rfl,_,rfl,G (n.trans (yG i _)) (.inr (.inr (.inl ⟨_,rfl⟩)))⟩⟩⟩⟩⟩
 |letters a2=>exact onF rfl ⟨_,rfl,g,_,0,_,rfl,rfl,SqT.of c,rfl,rfl,_,rfl,onF rfl ⟨_,rfl,g,_,0,_,rfl,rfl,SqT.of c,rfl,rfl,_,rfl,onF rfl ⟨_,rfl,g,_,0,_,rfl,rfl,SqT.of c,rfl,zn (by show 6<=100000;omega),λl i=>⟨l,_,rfl,.inl (SqL.of yB),rfl,rfl,_,rfl,onT rfl ⟨_,rfl,_,rfl,_,rfl,G (n.trans (yG i _)) (.inr (.inr (.inr (.inl ⟨_,rfl⟩))))⟩⟩⟩⟩⟩
 |on B d=>exact onF (by cases B<;> rfl) ⟨_,rfl,g,_,0,_,rfl,rfl,SqT.of c,rfl,rfl,_,rfl,onF (by cases B<;> rfl) ⟨_,rfl,g,_,0,_,rfl,rfl,SqT.of c,rfl,rfl,_,rfl,onF (by cases B<;> rfl) ⟨_,rfl,g,_,0,_,rfl,rfl,SqT.of c,rfl,zn (by show 6<=100000;omega),λl i=>⟨l,_,rfl,.inl (SqL.of yB),rfl,rfl,_,rfl,onT (by cases B<;> rfl) ⟨_,rfl,_,rfl,_,rfl,G (n.trans (yG i _)) (.inr (.inr (.inr (.inr ⟨_,_,rfl⟩))))⟩⟩⟩⟩⟩
end
end Law
namespace Desk
open PySem L2 PyProof.Rows
open Bk (Row Rows xM Ans xU)
open Thr (z6 vO qH)
def xZ(H:Hp)(c:Nat)(a:List Nat)(b:List xM):Prop:=H c=some (.lst (a.map V.ref))/\a.length=b.length/\∀ (i:Nat)(d:Nat)(e:xM),a[i]? =some d->b[i]? =some e->H d=some (.tup (xE e))
theorem xZ.same{H f:Hp}{c:Nat}{a:List Nat}{b:List xM}(h:xZ H c a b)(k:x0 H f):xZ f c a b:=⟨k.lst h.1,h.2.1,λi d e g j=>k.tup (h.2.2 i d e g j)⟩
theorem wX.kept{o c:List Nat}{H d:Hp}{a:Ans}{v:V}(h:wX o H a v)(k:qT o H d)(g:qA H o c):wX c d a v:=by
 have b:∀p u,p∉o->H p=some u->p∉c:=λp u n e z=>by
  rcases g p z with q|q
  ·exact n q
  ·rw[q]at e;cases e
 cases a with
 |num n=>exact h
 |txt x=>exact h
 |nums l=>obtain⟨p,e,n,q⟩:=h;exact⟨p,e,b p _ n q,k _ _ n (by intro _ z;cases z) q⟩
 |txts l=>obtain⟨p,e,n,q⟩:=h;exact⟨p,e,b p _ n q,k _ _ n (by intro _ z;cases z) q⟩
 |row r=>obtain⟨p,e,n,q⟩:=h;exact⟨p,e,b p _ n q,k _ _ n (by intro _ z;cases z) q⟩
theorem wX.bare{o:List Nat}{H:Hp}{a:Ans}{v:V}(h:wX o H a v):wX [] H a v:=by
 cases a with
 |num n=>exact h
 |txt x=>exact h
 |nums l=>obtain⟨p,e,n,q⟩:=h;exact⟨p,e,by simp,q⟩
 |txts l=>obtain⟨p,e,n,q⟩:=h;exact⟨p,e,by simp,q⟩
 |row r=>obtain⟨p,e,n,q⟩:=h;exact⟨p,e,by simp,q⟩
theorem wX.more{o:List Nat}{D:Nat}{H:Hp}{a:Ans}{v:V}(h:wX o H a v)(n:∀p,v= .ref p->p≠D):wX (D::o) H a v:=by
 have b:∀p,v= .ref p->p∉o->p∉D::o:=λp e q z=>(bYj.mp z).elim (n p e) q;cases a with
 |num n=>exact h
 |txt x=>exact h
 |nums l=>obtain⟨p,e,q⟩:=h;exact⟨p,e,b p e q.1,q.2⟩
 |txts l=>obtain⟨p,e,q⟩:=h;exact⟨p,e,b p e q.1,q.2⟩
 |row r=>obtain⟨p,e,q⟩:=h;exact⟨p,e,b p e q.1,q.2⟩
def xQ(H:Hp)(r:Row)(v:V):Prop:=if r.void then v= .str "void" else ∃p,v= .ref p/\H p=some (.tup (stV r))
theorem xQ.same{H a:Hp}{r:Row}{v:V}(h:xQ H r v)(k:x0 H a):xQ a r v:=by
 unfold xQ at h ⊢;split
 ·rename_i e;rw[if_pos e]at h;exact h
 ·rename_i e;rw[if_neg e]at h;obtain⟨p,e,q⟩:=h;exact⟨p,e,k.tup q⟩
structure Z8(H0:Hp)(CB CL T:Nat)(ba:Nat)(es:List xM)(as:List Ans)(H:Hp)(o:List Nat):Prop where
 ex:∃ (la sa:Nat)(ls cs:List Nat)(R:Rows)(S:List Int),o=own la sa ls cs/\PB CB CL H ba la sa ls cs R S/\Up es.length R S/\Bk.qR R/\Run [] [] es as R S
 tab:z6 T H
 keep:x0 H0 H
 new:∀b∈o,∀u,(∀ps,u≠HO.tbl ps)->H0 b≠some u
def vS(Rf:Nat×Nat):Sp:=λc H Q _=>∃ (g:Nat)(f:List Nat)(d:List xM),c= [.ref g]/\xZ H g f d/\d.length<60/\(∀e∈d,Wf e)/\z6 Rf.2 H/\
 ∀ (l:Nat)(b:Hp)(c:List V)(i:List Ans)(h:Rows)(j:List Int),x0 H b->z6 Rf.2 b->Run [] [] d i h j->Bk.qR h->b l=some (.lst c)->bY3 (λv a=>wX [] b a v) c i->Q (.ref l) b
def aVP(f CL:Nat):Sp:=λa H Q _=>∃ (c g h:Nat)(d e:List Nat)(R:Rows)(S:List Int),a= [.ref c]/\PB f CL H c g h d e R S/\R.length<64/\
 ∀ (l:Nat)(b:Hp)(a:List V),xA H b->b l=some (.lst a)->bY3 (λv r=>xQ b r v) a R->Q (.ref l) b
def wW(Rf:Nat×Nat):Sp:=λb H Q _=>∃ (g:Nat)(d:List Nat)(c:List xM),b= [.ref g]/\xZ H g d c/\c.length<60/\(∀e∈c,Wf e)/\z6 Rf.2 H/\
 ∀ (l:Nat)(a:Hp)(b:List V)(i:List Ans)(f:Rows)(h:List Int),x0 H a->z6 Rf.2 a->Run [] [] c i f h->Bk.qR f->a l=some (.lst b)->bY3 (λv r=>xQ a r v) b f->Q (.ref l) a
theorem jD{T:Nat}{H a:Hp}(t:z6 T H)(k:xA H a):z6 T a:=(aKe.of k).2 t
theorem Z8.start{H:Hp}{n CL T x dx la sa:Nat}{g a:Hp}(tb:z6 T H)(v:H x=none)(f:H dx=none)(B:dx≠x)(q:g=upd (upd H dx (.own x)) x (.ins n dx []))(l:g la=none)(d:g sa=none)(p:la≠sa) (w:a x=some (.ins n dx [("letters",.ref la),("shut",.ref sa)])) (C:a la=some (.lst [])) (D:a sa=some (.lst [])) (E:∀b,b≠x->b≠la->b≠sa->a b=g b):Z8 H n CL T x [] [] a (own la sa [] [])/\xA H a:=by
 have m:∀b,g b=none->H b=none:=λb e=>by
  subst q;by_cases z:b=x
  ·rw[z];exact v
  ·rw[yJ z]at e;by_cases z2:b=dx
   ·rw[z2];exact f
   ·rw[yJ z2]at e;exact e
 have k:xA H a:=λb o e=>by have b1:=yK e v;have A:=yK e f;rw[E b b1 (yK e (m _ l)) (yK e (m _ d)),q,yJ b1,yJ A];exact e
 refine⟨⟨⟨la,sa,[],[],[],[],rfl,⟨⟨dx,w⟩,C,D,rfl,rfl,.nil,.nil,p,by simp,by simp,λi b c r e=>by simp at e⟩,⟨bYh _,bYh _,λr h=>by simp at h⟩,Bk.aVb,.nil⟩,jD tb k,k.t,λb j u _ z=>?_⟩,k⟩;have s:H b=none->False:=λy=>by rw[y]at z;cases z
 rcases bYj.mp j with e|j
 ·exact s (by rw[e];exact m _ l)
 rcases bYj.mp j with e|j
 ·exact s (by rw[e];exact m _ d)
 ·simp at j
theorem Z8.step{D:Hp}{m CL T l:Nat}{x:List xM}{F:List Ans}{H:Hp}{o:List Nat}{e:xM}(g:Z8 D m CL T l x F H o)(hw:Wf e)(hz:x.length<60){p:Nat}(J:H p=some (.tup (xE e))){Q:VK}{Rf:Nat×Nat}(P:Rf.2=T) (q:∀ (a:Ans)(v:V)(h:Hp)(r:List Nat),Z8 D m CL T l (x++ [e]) (F++ [a]) h r->wX r h a v->uD H v->qT o H h->qA H o r->Q v h):J9 Rf m CL [.ref l,.ref p] H Q E0:=by
 subst P;obtain⟨E,B,K,N,R,S,rfl,U,A,j,i⟩:=g.ex;refine⟨l,p,E,B,K,N,R,S,e,rfl,hw,J,U,A.sz (by omega),j,g.tab,λa W L v h s y c n k C G M I=>?_⟩;refine q a v h _ ⟨⟨E,B,s,y,W,L,rfl,n,?_,Bk.xU.book j ?_ c,.snoc i c⟩,G,λb u f e=>k b u (λz=>g.new b z u f e) f (g.keep b u f e),λb X u f z0=>?_⟩ M I k C
 ·rw[bYy,cQm];exact A.done c
 ·intro O d w t Y;subst Y;exact hw
 ·rcases C b X with z|z
  ·exact g.new b z u f z0
  ·rw[g.keep b u f z0]at z;cases z
theorem Z8.write{l:Hp}{m CL T w:Nat}{x:List xM}{y:List Ans}{H:Hp}{o:List Nat}(g:Z8 l m CL T w x y H o){D:Nat}{xs ys:List V}(M:H D=some (.lst xs))(nD:D∉o)(h0:l D=none):Z8 l m CL T w x y (upd H D (.lst ys)) o:=by
 have f:∀ {a u},H a=some u->(∀xs,u≠ .lst xs)->a≠D:=λq n z=>by rw[z,M]at q;cases q;exact n _ rfl
 obtain⟨N,E,F,K,R,S,rfl,d,B,k,h⟩:=g.ex;refine⟨⟨N,E,F,K,R,S,rfl,⟨?_,?_,?_,d.len,d.clen,d.nd,d.cnd,d.las,d.lac,d.sac,λi b c r C v L=>?_⟩,B,k,h⟩,?_,λb u J e=>?_,g.new⟩
 ·obtain⟨j,e⟩:=d.book;exact⟨j,by rw[yJ (f e (by intro _ z;cases z))];exact e⟩
 ·rw[yJ (λz=>nD (by rw[<- z];exact aVr))];exact d.lst
 ·rw[yJ (λz=>nD (by rw[<- z];exact aYk))];exact d.sht
 ·obtain⟨⟨j,s⟩,I⟩:=d.row i b c r C v L;exact⟨⟨j,by rw[yJ (f s (by intro _ z;cases z))];exact s⟩,by rw[yJ (λz=>nD (by rw[<- z];exact bJ1 (bYt v)))];exact I⟩
 ·rcases g.tab with t|⟨G,A,p⟩
  ·exact .inl (by rw[yJ (f t (by intro _ z;cases z))];exact t)
  ·exact .inr ⟨G,by rw[yJ (f A (by intro _ z;cases z))];exact A,by rw[yJ (f p (by intro _ z;cases z))];exact p⟩
 ·rw[yJ (yK e h0)];exact g.keep b u J e
section
variable {K:bYc}
abbrev W9:Stmt:=xC "answers"
abbrev aQx:Stmt:=xC "standing"
abbrev aXL:Stmt:=xF "Book" "standing_states"
theorem aWO:yO ["deeds","book"] ["deeds"] (yH W9):=scM
theorem aWg:xJ ["deeds","book"] (yH W9) "deed" ["book"] [1] {kind:= .function,names:= [(".0",.local),("deed",.local),("answer",.globalImplicit),("book",.free)],isGenerator:=false,isCoroutine:=false,more:= [] }:=
 lcM
theorem qM{α β:Type}{F G:α->β->Prop}(h:∀a b,F a b->G a b):∀ {l:List α} {m:List β},bY3 F l m->bY3 G l m
 |_,_,.nil=> .nil
 |_,_,.cons r t=> .cons (h _ _ r) (qM h t)
theorem aWt(C:MkG P w K mg base n "Book" CB ["self"] (aJ5 CB))(j:FnG P w K mg base (n+1) "answer" ["book","deed"] (J9 Rf CB CL))(F:Fun K "answers" "answers" W9 f fd): xD P w K mg base CX0 (n+2) f fd ["deeds"] (vS Rf):=by
 have sc:=aWO;refine F.ok (k:=n+1) sc (λb6 A outer s H vs Q E hr h=>?_);obtain⟨ds,c,r,rfl,hD,b4,a8,tb,q⟩:=h;refine⟨_,(yC (yU (i:=1) (bZQ C hr rfl)) (yF (yP (W3 aWg rfl (xN (pv 0)) (λ_ _ _ _ _=>zT) (λ_ _ _ _ _=>(xK j hr rfl (yA (pv 1) (yA (pv 0) yD)))))))),?_⟩;intro x dx hx a7 a9;refine⟨x,dx,rfl,yB,λla sa H1 a5 a1 b0 h1 h2 h3 h4=>⟨rfl,?_⟩⟩;dsimp only[yW];obtain⟨g0,k0⟩:=Z8.start (CL:=CL) tb hx a7 a9 rfl a5 a1 b0 h1 h2 h3 h4;have a4:=hD.same k0.t;refine⟨_,rfl,ds,rfl,⟨_,SqL.of a4.1⟩,λD d=>?_⟩;have a3:(c.map V.ref).length=r.length:=by rw[bYe];exact hD.2.1
 have b3:H D=none:=k0.fresh d;refine⟨λi m I X=>m=r.length - i/\i<=r.length/\X D=some (.lst I)/\∃ (as:List Ans)(o:List Nat),Z8 H CB CL Rf.2 x (r.take i) as X o/\D∉o/\bY3 (λv a=>wX (D::o) X a v) I as,⟨r.length,by simp,bY7 _,yB,[],own la sa [] [],?_,?_,.nil⟩,?_⟩
 ·have kD:=yG d (.lst []);obtain⟨O,N,J,L,R,S,e1,e2,e3,e4,U⟩:=g0.ex;exact⟨⟨O,N,J,L,R,S,e1,e2.same kD,e3,e4,U⟩,jD g0.tab kD,λb u nt e=>kD _ _ (g0.keep b u nt e),g0.new⟩
 ·intro z;rcases bYj.mp z with e|z
  ·rw[e,h2]at d;cases d
  rcases bYj.mp z with e|z
  ·rw[e,h3]at d;cases d
  ·simp at z
 ·rintro i m I X ⟨rfl,hi,l,as,o,g,nD,hP⟩;have B:=hD.same g.keep;refine⟨l,?_⟩;by_cases G:i<r.length
  ·have a6:i<c.length:=by rw[hD.2.1];exact G
   have M:=bK9 a6;have a0:=bK9 G;refine .inr ⟨⟨c.map V.ref,.ref c[i],SqL.of B.1,by rw[bYu,M];rfl⟩,λv H2 yl=>?_⟩;obtain⟨rfl,y⟩:=yl;have hv:(c.map V.ref)[i]? =some v:=y _ (SqL.of B.1);rw[bYu,M]at hv;cases hv;refine⟨_,rfl,_,rfl,?_⟩;refine g.step (a8 _ (cQR G)) (by rw[cQn];omega) (B.2.2 i _ _ M a0) rfl λa v W T g3 av nv k3 gr=>?_;have b2:r.take (i+1)=r.take i++ [r[i]]:=by rw[cQh,a0];rfl
   have b5:I.length<=i:=by obtain⟨O,N,J,L,R,S,e1,e2,e3,e4,U⟩:=g.ex;have:=U.len;rw[hP.length,<- this,cQn];omega
   have Z:W D=some (.lst I):=k3 _ _ nD (by intro _ z;cases z) l;have Y:D∉T:=λz=>by
    rcases gr D z with y|y
    ·exact nD y
    ·rw[l]at y;cases y
   refine⟨by rw[bYJ];omega,Z,r.length - (i+1),by omega,rfl,G,yB,as++ [a],T,?_,Y,?_⟩
   ·rw[b2];exact g3.write Z Y b3
   ·have k4:qT (D::T) W (upd W D (.lst (I++ [v]))):=qT.upd bYp _;have k5:qT (D::o) H2 W:=λb u nb nt e=>k3 b u (λz=>nb (bYm _ z)) nt e;have a2:qA H2 (D::o) (D::T):=λb hb=>by
     rcases bYj.mp hb with e|hb
     ·exact .inl (by rw[e];exact bYp)
     ·exact(gr b hb).imp (bYm _) id
    have b1:wX (D::T) W a v:=av.more λp e z=>by rw[z]at e;exact nv D e _ (by intro _ z;cases z) l
    exact Law.aXc (F:=λv' a'=>wX (D::T) (upd W D (.lst (I++ [v]))) a' v') (b1.kept k4 qA.refl) (qM (λv a (h:wX (D::o) H2 a v)=>(h.kept k5 a2).kept k4 qA.refl) hP)
  ·obtain rfl:i=r.length:=by omega
   obtain⟨O,N,J,L,R,S,e1,e2,e3,e4,U⟩:=g.ex;rw[cQb]at U;exact .inl ⟨⟨c.map V.ref,SqL.of B.1,by rw[a3];exact bYh _⟩,q D X I as R S g.keep g.tab U e4 l (qM (λv a h=>h.bare) hP)⟩
theorem aY3:yO ["self"] ["self"] (yH aXL):=scM
theorem aKQ:xJ ["self"] (yH aXL) "letter" [] [] {kind:= .function,names:= [(".0",.local),("letter",.local)],isGenerator:=false,isCoroutine:=false,more:= [] }:=
 lcM
theorem aYh(cl:Cl K CB CL)(d:MG P w K mg base CX0 n CL "state" ["self"] (aJ7 CL))(F:Fun K "standing_states" "Book.standing_states" aXL f fd):xD P w K mg base CX0 (n+1) f fd ["self"] (aVP CB CL):=by
 have sc:=aY3;refine F.ok (k:=n) sc (λa1 A outer s H vs Q E hr h=>?_);obtain⟨ba,la,sa,L,cs,R,S,rfl,N,hR,q⟩:=h;refine⟨_,(yF (yP (W3 aKQ rfl (xN (yZ (pv 0) rfl)) (λ_ _ _ _ _=>zT) (λ_ _ _ _ _=>(aVu (xP (aQq (K:=K) (pv 0) rfl)) yQ (bXB d hr vQ (pv 0))))))),?_⟩;obtain⟨dx,hb⟩:=N.book;have hl:(L.map V.ref).length=R.length:=by rw[bYe];exact N.len
 refine⟨_,rfl,ba,CB,dx,_,_,rfl,hb,cl.b,cl.letters,rfl,la,rfl,⟨_,SqL.of N.lst⟩,λD hD=>?_⟩;refine⟨λi m a I=>m=R.length - i/\i<=R.length/\xA H I/\I D=some (.lst a)/\bY3 (λv r=>xQ I r v) a (R.take i),⟨R.length,by simp,bY7 _,yG hD _,yB,.nil⟩,?_⟩;rintro i m a I ⟨rfl,hi,O,x,M⟩;have o:=N.same O;refine⟨x,?_⟩;by_cases B:i<R.length
 ·have J:=bK9 B;obtain⟨b,c,Y,g2,g3,⟨u,U⟩,g5⟩:=o.get J;refine .inr ⟨⟨L.map V.ref,.ref b,SqL.of o.lst,Y⟩,λv X yl=>?_⟩;obtain⟨rfl,y⟩:=yl;have C:(L.map V.ref)[i]? =some v:=y _ (SqL.of o.lst);rw[Y]at C;cases C;have T:R.take (i+1)=R.take i++ [R[i]]:=by rw[cQh,J];rfl
  have a0:a.length<=i:=by rw[M.length,cQn];omega
  refine⟨_,rfl,b,CL,u,_,_,rfl,U,cl.l,cl.void,rfl,_,rfl,?_⟩;have fin:∀ (v:V)(g:Hp),xA X g->xQ g R[i] v->a.length<bYB/\g D=some (.lst a)/\∃Z,Z<R.length - i/\(Z=R.length - (i+1)/\i+1<=R.length/\xA H (upd g D (.lst (a++ [v])))/\upd g D (.lst (a++ [v])) D=some (.lst (a++ [v]))/\bY3 (λj r=>xQ (upd g D (.lst (a++ [v]))) r j) (a++ [v]) (R.take (i+1))):=λv g W sv=>by
   have G:=W _ _ x;have tu:∀ (j:V)(r:Row),xQ g r j->xQ (upd g D (.lst (a++ [v]))) r j:=λj r h=>by
    unfold xQ at h ⊢;split
    ·rename_i e;rw[if_pos e]at h;exact h
    ·rename_i e;rw[if_neg e]at h;obtain⟨p,e,q⟩:=h;exact⟨p,e,by rw[yJ (aQY q G (by intro z;cases z))];exact q⟩
   refine⟨by rw[bYJ];omega,G,R.length - (i+1),by omega,rfl,B,Law.aQR (O.trans W) hD,yB,?_⟩;rw[T];exact Law.aXc (F:=λj r=>xQ (upd g D (.lst (a++ [v]))) r j) (tu _ _ sv) (qM (λj r (h:xQ X r j)=>tu j r (h.same W.t)) M)
  cases C:R[i].void with
  |true=>exact onT rfl (fin _ _ (xA.refl _) (by unfold xQ;rw[C];rfl))
  |false=>refine onF rfl ⟨_,rfl,b,u,_,rfl,U,rfl,b,i,_,c,rfl,⟨u,U⟩,λt ht=>?_⟩;exact fin _ _ (yG ht _) (by unfold xQ;rw[C];exact⟨t,rfl,yB⟩)
 ·obtain rfl:i=R.length:=by omega
  rw[cQb]at M;exact .inl ⟨⟨L.map V.ref,SqL.of o.lst,by rw[hl];exact bYh _⟩,q D I a O x M⟩
theorem aJZ:yO ["deeds","book","deed"] ["deeds"] (yH aQx):=scM
theorem aJx(d:MkG P w K mg base n "Book" CB ["self"] (aJ5 CB))(c:FnG P w K mg base (n+1) "answer" ["book","deed"] (J9 Rf CB CL))(b:MG P w K mg base CX0 (n+1) CB "standing_states" ["self"] (aVP CB CL)) (F:Fun K "standing" "standing" aQx f fd):xD P w K mg base CX0 (n+2) f fd ["deeds"] (wW Rf):=by
 have sc:=aJZ;refine F.ok (k:=n+1) sc (λa4 A outer s H vs Q E I h=>?_);obtain⟨ds,e,m,rfl,y,a3,U,tb,q⟩:=h;refine⟨_,(yC (yU (i:=1) (bZQ d I rfl)) (yC (zL bYY rfl (xN (pv 0)) (xB (i:=2)) (yF (yY (xK c I rfl (yA (pv 1) (yA (pv 2) yD)))))) (yF (yP (bXB b I vQ (pv 1)))))),?_⟩;intro x dx hx O X;refine⟨x,dx,rfl,yB,λla sa H1 N G Z h1 h2 h3 h4=>⟨rfl,?_⟩⟩;dsimp only[yW];obtain⟨g0,k0⟩:=Z8.start (CL:=CL) tb hx O X rfl N G Z h1 h2 h3 h4;have L:=y.same k0.t;have p:(e.map V.ref).length=m.length:=by rw[bYe];exact y.2.1
 refine⟨_,rfl,ds,rfl,⟨_,SqL.of L.1⟩,?_⟩;refine zM (xs:=e.map V.ref) (λi σ C=>∃ (D:Option V)(B:List Ans)(o:List Nat),σ= [some (.ref ds),some (.ref x),D]/\Z8 H CB CL Rf.2 x (m.take i) B C o) ?_ ?_ ?_ ?_
 ·exact⟨none,[],_,rfl,g0⟩
 ·rintro i σ C hi ⟨D,B,o,rfl,g⟩;exact SqL.of (y.same g.keep).1
 ·rintro i v σ C hv ⟨D,B,o,rfl,g⟩;have j:i<m.length:=by rw[<- p];exact(bYl.mp hv).1
  have u:=bK9 (show i<e.length by rw[y.2.1];exact j);have z:=bK9 j;rw[bYu,u]at hv;cases hv;have W:=y.same g.keep;have a2:m.take (i+1)=m.take i++ [m[i]]:=by rw[cQh,z];rfl
  dsimp only[yW];refine⟨_,rfl,_,rfl,?_⟩;refine g.step (U _ (cQR j)) (by rw[cQn];omega) (W.2.2 i _ _ u z) rfl λa v H3 o' g3 av nv k3 gr=>?_;rw[<- a2]at g3;exact⟨_,_,o',rfl,g3⟩
 ·rintro σ C ⟨D,B,o,rfl,g⟩;rw[p,cQb]at g;obtain⟨a0,Y,J,M,R,S,e1,e2,e3,e4,e5⟩:=g.ex;obtain⟨T,hb⟩:=e2.book;refine⟨_,rfl,x,T,_,rfl,hb,rfl,x,a0,Y,J,M,R,S,rfl,e2,by have:=e3.r;omega,λl H5 vs k5 a1 hP=>?_⟩;exact q l H5 vs B R S (g.keep.trans k5.t) (jD g.tab k5) e5 e4 a1 hP
end
end Desk
namespace Law
open PySem L2 PyProof.Rows
open Bk (Row Rows xU xM Ans)
open Desk (xE wX uD Wf Up Run xZ qM)
structure LGo(H0:Hp)(ra sa:Nat)(es:List xM)(as:List Ans)(H:Hp)(rs:List Nat):Prop where
 ex:∃ (R:Rows)(S:List Int),LBk H ra sa rs R S/\Up es.length R S/\Bk.qR R/\Run [] [] es as R S
 keep:xA H0 H
 newR:H0 ra=none
 newS:H0 sa=none
 newB:∀b∈rs,H0 b=none
theorem LGo.same{i H f:Hp}{e sa:Nat}{c:List xM}{h:List Ans}{d:List Nat}(g:LGo i e sa c h H d)(k:xA H f):LGo i e sa c h f d:=
 ⟨let ⟨R,S,a,b⟩:=g.ex;⟨R,S,a.same k,b⟩,g.keep.trans k,g.newR,g.newS,g.newB⟩
theorem LGo.start{H:Hp}{a sa:Nat}(g:H a=none)(c:upd H a (.lst []) sa=none):LGo H a sa [] [] (upd (upd H a (.lst [])) sa (.lst [])) []:=by
 have e:=yG g (.lst []);have f:=yG c (.lst []);have ne:sa≠a:=λz=>by rw[z,yB]at c;cases c
 exact⟨⟨[],[],⟨⟨f _ _ yB,rfl,.nil,λi b r h=>by simp at h⟩,yB,ne,by simp,λb d=>by simp at d⟩,⟨bYh _,bYh _,λr h=>by simp at h⟩,Bk.aVb,.nil⟩,e.trans f,g,e.fresh c,λb d=>by simp at d⟩
theorem bV7{H g:Hp}{j sa:Nat}{c:List Nat}{t:Rows}{w:List Int}{a:Ans}{v:V}(q:LBk g j sa c t w)(k:∃b,H j=some (.lst b))(m:∃b,H sa=some (.lst b))(f:wX [] g a v)(o:uD H v):wX (sa::j::c) g a v:=by
 have no:∀p,v= .ref p->(∀r d,g p≠some (.lst (v9 r d)))->p∉sa::j::c:=λp e n z=>by
  rcases bYj.mp z with z|z
  ·obtain⟨b,h⟩:=m;exact o p e (.lst b) (by intro _ y;cases y) (by rw[z];exact h)
  rcases bYj.mp z with z|z
  ·obtain⟨b,h⟩:=k;exact o p e (.lst b) (by intro _ y;cases y) (by rw[z];exact h)
  ·obtain⟨i,s,A⟩:=bY1 z;obtain⟨d,u,_⟩:=q.book.row i p _ (by rw[bK9 s,A]) (bK9 (show i<t.length by rw[<- q.book.len];exact s));exact n _ d u
 cases a with
 |num n=>exact f
 |txt x=>exact f
 |nums l=>obtain⟨p,e,_,h⟩:=f;exact⟨p,e,no p e λr d z=>by rw[h]at z;exact aQs (bYw z).symm,h⟩
 |txts l=>obtain⟨p,e,_,h⟩:=f;exact⟨p,e,no p e λr d z=>by rw[h]at z;exact jT (bYw z).symm,h⟩
 |row r=>obtain⟨p,e,_,h⟩:=f;exact⟨p,e,no p e λr d z=>(by rw[h]at z;cases z),h⟩
theorem LGo.step{F H:Hp}{i sa:Nat}{C:List xM}{E:List Ans}{p:List Nat}{e:xM}(g:LGo F i sa C E H p)(hw:Wf e)(hz:C.length<60){A:Nat}(I:H A=some (.tup (xE e))){Q:VK} (q:∀ (a:Ans)(v:V)(j:Hp)(f:List Nat),LGo F i sa (C++ [e]) (E++ [a]) j f->aXZ i sa p f H j->wX (sa::i::f) j a v->uD H v->Q v j):aXg [.ref i,.ref sa,.ref A] H Q E0:=by
 obtain⟨R,S,u,n,m,l⟩:=g.ex;refine⟨i,sa,A,p,R,S,e,rfl,I,hw,u,by have:=n.r;omega,by have:=n.s;omega,m,λr G=>by have:=n.c r G;omega,λj a v M J f B k y K D=>?_⟩;refine q a v j f ⟨⟨M,J,k,?_,Bk.xU.book m ?_ y,.snoc l y⟩,λx o h=>?_,g.newR,g.newS,λb N=>?_⟩ B (bV7 k ⟨_,u.book.lst⟩ ⟨_,u.shut⟩ K D) D
 ·rw[bYy,cQm];exact n.done y
 ·intro L d w t O;subst O;exact hw
 ·exact B.1 x o (yK h g.newS) (yK h g.newR) (λz=>by rw[g.newB x z]at h;cases h) (g.keep _ _ h)
 ·rcases B.2.1 b N with z|z
  ·exact g.newB b z
  ·exact g.keep.fresh z
structure aVY(H0:Hp)(ra sa:Nat)(H:Hp)(rs:List Nat)(D:Nat)(xs:List V):Prop where
 at_:H D=some (.lst xs)
 new:H0 D=none
 nr:D≠ra
 ns:D≠sa
 nb:D∉rs
 nc:NoC rs H D
theorem aVY.step{e H d:Hp}{b sa D:Nat}{c a:List Nat}{xs:List V}(h:aVY e b sa H c D xs)(st:aXZ b sa c a H d):aVY e b sa d a D xs:=
 ⟨st.1 D _ h.ns h.nr h.nb h.at_,h.new,h.nr,h.ns,λz=>(st.2.1 D z).elim h.nb (λy=>by have:=h.at_;rw[y]at this;cases this),st.2.2 D _ h.at_ h.nc⟩
theorem aVY.same{e H d:Hp}{c sa D:Nat}{a:List Nat}{xs:List V}(h:aVY e c sa H a D xs)(f:∀b∈a,∃o,H b=some o)(k:xA H d):aVY e c sa d a D xs:=
 ⟨k _ _ h.at_,h.new,h.nr,h.ns,h.nb,(But.of f k).2.2 D _ h.at_ h.nc⟩
theorem LGo.dom{f H:Hp}{d sa:Nat}{c:List xM}{e:List Ans}{a:List Nat}(g:LGo f d sa c e H a):∀b∈a,∃o,H b=some o:=let ⟨R,S,h,_⟩:=g.ex;h.book.dom
theorem LGo.write{m H:Hp}{n sa D:Nat}{u:List xM}{t:List Ans}{d:List Nat}{xs:List V}(g:LGo m n sa u t H d)(h:aVY m n sa H d D xs)(ys:List V):LGo m n sa u t (upd H D (.lst ys)) d/\aVY m n sa (upd H D (.lst ys)) d D ys:=by
 obtain⟨R,S,c,w,p,f⟩:=g.ex;have q:∀b∈d,b≠D:=λb a z=>h.nb (by rw[<- z];exact a);refine⟨⟨⟨R,S,⟨⟨by rw[yJ (bYU h.nr)];exact c.book.lst,c.book.len,c.book.nd,λi b r a y=>?_⟩,by rw[yJ (bYU h.ns)];exact c.shut,c.ne,c.no,λb a l k=>c.noC b a l (by rw[yJ (q b a)]at k;exact k)⟩,w,p,f⟩,λx o e=>?_,g.newR,g.newS,g.newB⟩,yB,h.new,h.nr,h.ns,h.nb,λb a l k=>h.nc b a l (by rw[yJ (q b a)]at k;exact k)⟩
 ·obtain⟨A,s,v⟩:=c.book.row i b r a y;have j:=bYt a;exact⟨A,by rw[yJ (q b j)];exact s,by rw[yJ (λz=>h.nc b j _ s (by rw[<- z];rfl))];exact v⟩
 ·rw[yJ (yK e h.new)];exact g.keep _ _ e
theorem aVY.write{f H:Hp}{d sa D E:Nat}{a:List Nat}{xs:List V}(h:aVY f d sa H a D xs)(ne:D≠E)(g:E∉a)(u:HO):aVY f d sa (upd H E u) a D xs:=
 ⟨by rw[yJ ne];exact h.at_,h.new,h.nr,h.ns,h.nb,λb c l e=>h.nc b c l (by rw[yJ (λz=>g (by rw[<- z];exact c))]at e;exact e)⟩
end Law
namespace Bk
open PySem (Str)
theorem zN{R:Rows}{k:Nat}{r:Row}(b:R[k]? =some r)(a:r.void=false):z9 R (k:Int)=true:=by
 unfold z9;rw[bYH,b];simp[a]
theorem xU.noOne{R R2:Rows}{S f:List Int}{m:Int}{e:xM}{g:Ans}(h:z9 R m=false)(a:e= .loose m\/(∃d,e= .date m d)\/(∃t,e= .term m t)\/(∃w,e= .copy m w)\/(∃w,e= .file m w)\/e= .void m\/e= .state m\/e= .thread m\/e= .copies m) (j:xU R S e g R2 f):g= .txt "no letter"/\R2=R/\f=S:=by
 cases j with
 |oneN k i=>exact⟨rfl,rfl,rfl⟩
 |enter _=>simp at a
 |enterT _=>simp at a
 |replyN _=>simp at a
 |replyT _ _=>simp at a
 |replyE _ _ _ _=>simp at a
 |reply _ _ _ _=>simp at a
 |hangN _=>simp at a
 |hangH _ _ _ _ _=>simp at a
 |hangO _ _ _ _ _ _=>simp at a
 |hangW _ _ _ _ _ _ _=>simp at a
 |hangP _ _ _ _ _ _ _ _=>simp at a
 |hangE _ _ _ _ _ _ _ _ _=>simp at a
 |hang _ _ _ _ _ _ _ _ _=>simp at a
 |shutN _=>simp at a
 |shut _=>simp at a
 |letters=>simp at a
 |on _=>simp at a
 |looseN c b _=>simp at a;rw[<- a,zN c b]at h;cases h
 |loose c b _=>simp at a;rw[<- a,zN c b]at h;cases h
 |dateE c b _=>simp at a;rw[<- a,zN c b]at h;cases h
 |date c b _ _=>simp at a;rw[<- a,zN c b]at h;cases h
 |termN c b _=>simp at a;rw[<- a,zN c b]at h;cases h
 |term c b _=>simp at a;rw[<- a,zN c b]at h;cases h
 |copyC c b _=>simp at a;rw[<- a,zN c b]at h;cases h
 |copy c b _ _=>simp at a;rw[<- a,zN c b]at h;cases h
 |file c b=>simp at a;rw[<- a,zN c b]at h;cases h
 |voidA c b _=>simp at a;rw[<- a,zN c b]at h;cases h
 |void c b _=>simp at a;rw[<- a,zN c b]at h;cases h
 |state c b=>simp at a;rw[<- a,zN c b]at h;cases h
 |thread c b=>simp at a;rw[<- a,zN c b]at h;cases h
 |copies c b=>simp at a;rw[<- a,zN c b]at h;cases h
def aXX(R:Rows)(e:xM):Prop:=∃m,z9 R m=false/\(e= .loose m\/(∃d,e= .date m d)\/(∃t,e= .term m t)\/(∃w,e= .copy m w)\/(∃w,e= .file m w)\/e= .void m\/e= .state m\/e= .thread m\/e= .copies m)
theorem Y1{R:Rows}{m:Int}{k:Nat}{r:Row}(h:z9 R m=false)(e:m=(k:Int))(b:R[k]? =some r)(a:r.void=false):False:=by
 rw[e,zN b a]at h;cases h
theorem xU.det{R B R2:Rows}{S x E:List Int}{e n:xM}{a y:Ans}(b:n=e)(h:xU R S e a B x)(i:xU R S n y R2 E):a=y/\B=R2/\x=E:=by
 by_cases o:aXX R e
 ·obtain⟨m,A,C⟩:=o;obtain⟨rfl,rfl,rfl⟩:=xU.noOne A C h;subst b;obtain⟨rfl,rfl,rfl⟩:=xU.noOne A C i;exact⟨rfl,rfl,rfl⟩
 have I:¬aXX R n:=by rw[b];exact o
 cases e<;> cases n<;> try (cases b;done)
 all_goals simp only[xM.loose.injEq,xM.date.injEq,xM.term.injEq,xM.copy.injEq,xM.file.injEq,xM.void.injEq,xM.state.injEq,xM.thread.injEq,xM.copies.injEq,xM.letters.injEq,xM.shut.injEq,xM.enter.injEq,xM.reply.injEq,xM.hang.injEq,xM.on.injEq]at b
 all_goals cases h<;> cases i<;> first
  |(exfalso;exact o ⟨_,‹z9 R _=false›,‹_›⟩)
  |(exfalso;exact I ⟨_,‹z9 R _=false›,‹_›⟩)
  |(simp_all [cZP];done)
  |(simp_all [cZP];omega)
  |skip
 all_goals first
  |exact(Y1 ‹z9 R _=false› b.1.symm ‹R[_]? =some _› ‹_›).elim
  |exact(Y1 ‹z9 R _=false› b.1 ‹R[_]? =some _› ‹_›).elim
  |(rcases ‹z9 R _=false\/z9 R _=false› with z|z
    ·exact(Y1 z b.1.symm ‹R[_]? =some _› ‹_›).elim
    ·exact(Y1 z b.2.symm ‹R[_]? =some _› ‹_›).elim)
  |(rcases ‹z9 R _=false\/z9 R _=false› with z|z
    ·exact(Y1 z b.1 ‹R[_]? =some _› ‹_›).elim
    ·exact(Y1 z b.2 ‹R[_]? =some _› ‹_›).elim)
  |skip
 case date.date.dateE.date=>
  rename_i d D k r u H h J F f q s i;exfalso;obtain⟨p,rfl⟩:=b;cases cZP.mp p;rw[u]at f;cases f;rcases h with⟨j,g,v⟩|⟨c,g,v⟩
  ·have:=s j g;omega
  ·have:=i c g;omega
 case date.date.date.dateE=>
  rename_i d D k r u H s i J F f q h;exfalso;obtain⟨p,rfl⟩:=b;cases cZP.mp p;rw[u]at f;cases f;rcases h with⟨j,g,v⟩|⟨c,g,v⟩
  ·have:=s j g;omega
  ·have:=i c g;omega
 case on.on.on.on=>
  rename_i w d t D l h K G;obtain⟨rfl,rfl⟩:=b;cases h.uniq G;exact⟨rfl,rfl,rfl⟩
end Bk
namespace Desk
open Bk (Row Rows xU xM Ans)
theorem Run.inv{R c:Rows}{S b:List Int}{l:List xM}{bs:List Ans}(h:Run R S l bs c b):(l= []/\bs= []/\c=R/\b=S)\/∃g e j a i f,l=g++ [e]/\bs=j++ [a]/\Run R S g j i f/\xU i f e a c b:=by
 cases h with
 |nil=>exact .inl ⟨rfl,rfl,rfl,rfl⟩
 |snoc h d=>exact .inr ⟨_,_,_,_,_,_,rfl,rfl,h,d⟩
theorem Run.det{R:Rows}{S:List Int}:∀ (n:Nat) {b:List xM} {j bs:List Ans} {f R2:Rows} {c i:List Int},b.length=n->Run R S b j f c->Run R S b bs R2 i->j=bs/\f=R2/\c=i
 |0,b,j,bs,f,R2,c,i,hn,h,h2=>by
  rcases h.inv with⟨rfl,rfl,rfl,rfl⟩|⟨_,_,_,_,_,_,rfl,_⟩
  ·rcases h2.inv with⟨_,rfl,rfl,rfl⟩|⟨p,r,_,_,_,_,z,_⟩
   ·exact⟨rfl,rfl,rfl⟩
   ·exact absurd (congrArg cXH z) (by simp)
  ·simp at hn
 |n+1,b,j,bs,f,R2,c,i,hn,h,h2=>by
  rcases h.inv with⟨rfl,_⟩|⟨t,e,k,a,w,v,rfl,rfl,g,d⟩
  ·simp at hn
  ·rcases h2.inv with⟨z,_⟩|⟨o,r,m,x,l,u,z,rfl,s,q⟩
   ·exact absurd (congrArg cXH z) (by simp)
   ·obtain⟨rfl,z2⟩:=cXu z rfl;cases z2;obtain⟨rfl,rfl,rfl⟩:=Run.det n (by simpa using hn) g s;obtain⟨rfl,rfl,rfl⟩:=Bk.xU.det rfl d q;exact⟨rfl,rfl,rfl⟩
end Desk
namespace Law
open PySem L2 PyProof.Rows
open Bk (Row Rows xU xM Ans)
open Desk (xE wX uD Wf Up Run xZ qM)
theorem qD{o b:List Nat}{H c:Hp}{a:Ans}{v:V}(h:wX o H a v)(k:∀p u,p∉o->H p=some u->p∉b/\c p=some u):wX b c a v:=by
 cases a with
 |num n=>exact h
 |txt x=>exact h
 |nums l=>obtain⟨p,e,n,q⟩:=h;exact⟨p,e,k p _ n q⟩
 |txts l=>obtain⟨p,e,n,q⟩:=h;exact⟨p,e,k p _ n q⟩
 |row r=>obtain⟨p,e,n,q⟩:=h;exact⟨p,e,k p _ n q⟩
structure Mid(H0:Hp)(ra sa ds us:Nat)(es:List xM)(das:List Nat)(i:Nat)(H:Hp):Prop where
 ne:ds≠us
 wf:∀e∈es,Wf e
 len:das.length=es.length
 at_:∀ (j:Nat)(d:Nat)(e:xM),das[j]? =some d->es[j]? =some e->H d=some (.tup (xE e))
 ex:∃ (rs:List Nat)(as:List Ans)(vs:List V),LGo H0 ra sa (es.take i) as H rs/\aVY H0 ra sa H rs ds (das.map V.ref)/\aVY H0 ra sa H rs us vs/\bY3 (λv a=>wX (us::ds::sa::ra::rs) H a v) vs as
theorem Mid.same{f H l:Hp}{c sa h us:Nat}{o:List xM}{b:List Nat}{i:Nat}(m:Mid f c sa h us o b i H)(k:xA H l):Mid f c sa h us o b i l:=by
 obtain⟨r,x,q,g,y,w,p⟩:=m.ex;exact⟨m.ne,m.wf,m.len,λj d e s t=>k _ _ (m.at_ j d e s t),r,x,q,g.same k,y.same g.dom k,w.same g.dom k,qM (λv a z=>qD z λp u n e=>⟨n,k _ _ e⟩) p⟩
theorem Mid.keep{b H:Hp}{e sa d us:Nat}{c:List xM}{a:List Nat}{i:Nat}(m:Mid b e sa d us c a i H):xA b H:=let ⟨rs,as,vs,g,_⟩:=m.ex;g.keep
theorem Mid.push{t H:Hp}{s sa o us:Nat}{k:List xM}{b:List Nat}{i:Nat}(m:Mid t s sa o us k b i H)(A:i=k.length){d:Nat}{e:xM}(E:H d=some (.tup (xE e)))(hw:Wf e):Mid t s sa o us (k++ [e]) (b++ [d]) i (upd H o (.lst ((b++ [d]).map V.ref))):=by
 obtain⟨D,G,C,g,r,F,p⟩:=m.ex;have w:=g.write r ((b++ [d]).map V.ref);have tk:∀ {x ys},H x=some (.tup ys)->upd H o (.lst ((b++ [d]).map V.ref)) x=some (.tup ys):=λ{x ys} h=>by rw[yJ (λz=>by rw[z,r.at_]at h;cases h)];exact h
 refine⟨m.ne,λx f=>?_,by simp[m.len],λj x y l c=>?_,D,G,C,?_,w.2,F.write (bYU m.ne) r.nb _,qM (λv a z=>qD z λp u n h=>⟨n,?_⟩) p⟩
 ·rcases bYP.mp f with f|f
  ·exact m.wf x f
  ·rw[bYr.mp f];exact hw
 ·by_cases B:j<k.length
  ·rw[bYF (by rw[m.len];exact B)]at l;rw[bYF B]at c;exact tk (m.at_ j x y l c)
  ·have q:j=k.length:=by
    have:=(bYl.mp c).1;simp at this;omega
   subst q;rw[bYv (by rw[m.len];exact bYh _),m.len,cQt]at l;rw[bYv (bYh _),cQt]at c;cases l;cases c;exact tk E
 ·rw[A,List.take_left' rfl];have:=w.1;rw[A,cQb]at this;exact this
 ·rw[yJ (λz=>n (by rw[z];exact bYm _ bYp))];exact h
theorem Mid.next{X H:Hp}{c sa o us:Nat}{s:List xM}{k:List Nat}{i:Nat}(m:Mid X c sa o us s k i H)(hz:i<60){d:Nat}{e:xM}(hd:k[i]? =some d)(G:s[i]? =some e){Q:VK} (q:∀ (v:V)(b:Hp)(vs:List V),H us=some (.lst vs)->b us=some (.lst vs)->vs.length=i->Mid X c sa o us s k (i+1) (upd b us (.lst (vs++ [v])))->Q v b):aXg [.ref c,.ref sa,.ref d] H Q E0:=by
 obtain⟨P,as,vs,g,Y,L,p⟩:=m.ex;have a0:i<s.length:=(bYl.mp G).1;have A:(s.take i).length=i:=by rw[cQn];omega
 have N:vs.length=i:=by obtain⟨R,S,_,_,_,hr⟩:=g.ex;rw[cXt p,<- hr.len,A]
 have hw:Wf e:=m.wf e (bYt G);refine g.step hw (by rw[A];exact hz) (m.at_ i d e hd G) λa v b f g2 D C O=>?_;have t1:=Y.step D;have E:=L.step D;refine q v b vs L.at_ E.at_ N ?_;have w:=g2.write E (vs++ [v]);obtain⟨R,S,I,_⟩:=g.ex;have tk:∀ {x ys},H x=some (.tup ys)->upd b us (.lst (vs++ [v])) x=some (.tup ys):=λ{x ys} h=>by
  have F:x≠sa:=λz=>by rw[z,I.shut]at h;cases h
  have M:x≠c:=λz=>by rw[z,I.book.lst]at h;cases h
  have B:=D.1 x _ F M (I.book.tupNo h) h;rw[yJ (λz=>by rw[z,E.at_]at B;cases B)];exact B
 have o2:∀p u,p∉us::o::sa::c::P->H p=some u->p∉us::o::sa::c::f/\upd b us (.lst (vs++ [v])) p=some u:=λp u n h=>by
  have F:p≠us:=λz=>n (by rw[z];exact bYp);have M:p≠o:=λz=>n (by rw[z];simp);have W:p≠sa:=λz=>n (by rw[z];simp);have T:p≠c:=λz=>n (by rw[z];simp);have U:p∉P:=λz=>n (by simp[z]);refine⟨λz=>?_,by rw[yJ F];exact D.1 p u W T U h⟩;simp only[bYj,F,M,W,T,false_or]at z;rcases D.2.1 p z with y|y
  ·exact U y
  ·rw[h]at y;cases y
 have et:s.take (i+1)=s.take i++ [e]:=by rw[cQh,G];rfl
 refine⟨m.ne,m.wf,m.len,λj x y Z B=>tk (m.at_ j x y Z B),f,as++ [a],vs++ [v],by rw[et];exact w.1,t1.write m.ne E.nb _,w.2,?_⟩;refine Paired.snoc (qM (λv a z=>qD z o2) p) ?_;have t:∀x,v= .ref x->x≠us:=λx ex z=>O x ex (.lst vs) (by intro _ y;cases y) (by rw[z];exact L.at_);have J:∀x,v= .ref x->x≠o:=λx ex z=>O x ex (.lst (k.map V.ref)) (by intro _ y;cases y) (by rw[z];exact Y.at_);have K:∀x u,v= .ref x->x∉sa::c::f->b x=some u->x∉us::o::sa::c::f/\upd b us (.lst (vs++ [v])) x=some u:=λx u ex n h=>
  ⟨λz=>(bYj.mp z).elim (t x ex) λz=>(bYj.mp z).elim (J x ex) n,by rw[yJ (t x ex)];exact h⟩
 cases a with
 |num n=>exact C
 |txt x=>exact C
 |nums l=>obtain⟨x,ex,n,h⟩:=C;exact⟨x,ex,K x _ ex n h⟩
 |txts l=>obtain⟨x,ex,n,h⟩:=C;exact⟨x,ex,K x _ ex n h⟩
 |row r=>obtain⟨x,ex,n,h⟩:=C;exact⟨x,ex,K x _ ex n h⟩
end Law
namespace Law
open PySem L2 PyProof.Rows
open Bk (Row Rows xU xM Ans)
open Desk (xE wX uD Wf wS stV)
theorem aZf(a:Array Nat):∀ (m:Nat)(b:Array Nat),((cXJ m a).foldl (·++·) b).size=b.size+m*a.size
 |0,b=>by simp
 |m+1,b=>by rw[List.replicate_succ,List.foldl_cons,aZf a m,Array.size_append,Nat.succ_mul];omega
theorem bJF{x:Str}{n:Int}(a:x.length<=1)(c:n<=100):(Txt.mul x n).length<=100:=by
 unfold Txt.mul;split
 ·decide
 ·split
  ·omega
  ·rename_i e _;show((cXJ n.toNat x.cps).foldl (·++·) #[]).size<=100;rw[aZf];have b:x.cps.size<=1:=a;have d:n.toNat*x.cps.size<=n.toNat*1:=Nat.mul_le_mul_left _ b;have f:(#[]:Array Nat).size=0:=rfl;omega
theorem aQn{X:Cx}:OpR X (cXS .Mult) (λx y H Q=>∃i n,x= .str i/\y= .int n/\i.length<=1/\0<=n/\n<=100/\∀z:Str,z.length<=100->Q (.str z) H):=by
 intro b s σ H x y v u Q I d f h;obtain⟨i,n,rfl,rfl,a,j,e,q⟩:=h;obtain⟨t,rfl⟩:=d;obtain⟨c,rfl⟩:=f;refine SB.mul ⟨?_,λg _=>?_,λg _=>?_⟩ λc k=>⟨.str (Txt.mul i n),H,I.tok _,⟨_,rfl⟩,q _ (bJF a e)⟩
 ·rw[decide_eq_false (by omega),decide_eq_false (by omega)];rfl
 ·have:(1:Int)<=(2 ^ 63 - 1) / n:=Int.le_ediv_of_mul_le (by omega) (by omega);omega
 ·have:i.length*n.toNat<=1*n.toNat:=Nat.mul_le_mul_right _ a;unfold Builtin.Str.tooLong;simp only[decide_eq_false_iff_not,bYJ];omega
theorem bZx{l:List V}(h:0<l.length)(x:Int):∃v∈l,atI l (x % (l.length:Nat))=some v:=by
 have c:=Int.emod_nonneg x (show((l.length:Nat):Int)≠0 by omega);have d:=Int.emod_lt_of_pos x (show(0:Int)<((l.length:Nat):Int) by omega);obtain⟨k,b⟩:∃k:Nat,x % (l.length:Nat)=(k:Int):=⟨(x % (l.length:Nat)).toNat,by omega⟩;have a:k<l.length:=by omega
 refine⟨l[k],cQR a,?_⟩;rw[b];exact yR (bK9 a)
theorem qX{a:List Int}(h:a≠ [])(x:Int):∃n,atI (a.map V.int) (x % ((a.map V.int).length:Nat))=some (.int n):=by
 obtain⟨v,b,e⟩:=bZx (l:=a.map V.int) (by rw[bYe];exact cQr.mpr h) x;obtain⟨n,_,rfl⟩:=cQa.mp b;exact⟨n,e⟩
theorem aZ4{l:List Nat}(h:l≠ [])(x:Int):∃n,atI (l.map λi=>V.int (i:Nat)) (x % ((l.map λi=>V.int (i:Nat)).length:Nat))=some (.int n):=by
 obtain⟨v,a,e⟩:=bZx (l:=l.map λi=>V.int (i:Nat)) (by rw[bYe];exact cQr.mpr h) x;obtain⟨n,_,rfl⟩:=cQa.mp a;exact⟨n,e⟩
def vE(H:Hp)(v:V):Prop:=∃p e,v= .ref p/\H p=some (.tup (xE e))/\Wf e
theorem vE.same{H d:Hp}{v:V}(h:vE H v)(k:xA H d):vE d v:=let ⟨p,e,a,b,c⟩:=h;⟨p,e,a,k _ _ b,c⟩
abbrev J2:Stmt:=xC "_law_hanging"
def aZS:Sp:=λe H Q _=>∃ (c d:Nat)(f:List Nat)(R:Rows)(b:List Int)(k:Nat)(m:Int),e= [.ref c,.ref d,.int (k:Nat),.int m]/\y8 H c f R/\R.length<=60/\H d=some (.lst (b.map V.int))/\b≠ []/\
 ∀ (a:Hp)(v:V),xA H a->vE a v->Q v a
section
variable {K:bYc}
theorem aWX:yO ["_law_rows","_law_cells","_law_k","_law_number","_law_near","_law_far","_law_free","_law_goal","_law_fits","_law_j","_law_one"] ["_law_rows","_law_cells","_law_k","_law_number"] (yH J2):=scM
theorem aWi:xJ ["_law_rows","_law_cells","_law_k","_law_number","_law_near","_law_far","_law_free","_law_goal","_law_fits","_law_j","_law_one"] (yH J2) "_law_j" ["_law_rows"] [0] {kind:= .function,names:= [(".0",.local),("_law_j",.local),("_law_rows",.free)],isGenerator:=false,isCoroutine:=false,more:= [] }:=
 lcM
theorem aWC(T:vA mg)(a6:mg "int"=none)(J:FnG P w K mg base 1 "_law_good" ["_law_rows","_law_number"] Z6)(F:Fun K "_law_hanging" "_law_hanging" J2 f fd):xD P w K mg base CX0 2 f fd ["_law_rows","_law_cells","_law_k","_law_number"] aZS:=by
 have sc:=aWX;refine F.ok (k:=1) sc (λb1 A outer s H vs Q E hr h=>?_);obtain⟨v,Z,rs,R,ns,k,m,rfl,hB,hR,hc,a1,q⟩:=h;refine⟨_,(yC (yU (i:=4) (yL yI (pv 1) (yV y3 (yV x3 (pv 2) yE) (yT yN rfl T.b_len y9 (yA (pv 1) yD))))) (yC (yU (i:=5) (yL yI (pv 1) (yV y3 (yV x3 (pv 2) yE) (yT yN rfl T.b_len y9 (yA (pv 1) yD))))) (yC (aZE (i:=6) aWi rfl sc.nd rfl rfl (xW rfl T.b_range (yA (yT yN rfl T.b_len y9 (yA (pv 0) yD)) yD)) (λ_ _ _ _ _=>(wU (yM aQm (yL (show IxR _ (aXW K)from yI) (yL (show IxR _ (aXW K)from yI) (pv 1) (pv 0)) yE) xY))) (λ_ _ _ _ _=>(pv 0))) (yC (y0 (PW.pt (vJ (yM (uZ hr.units0) (pv 6) (y6 yD)) (wP (yM aQl (yV y3 (pv 4) yE) yE)))) (yF (yU (i:=3) (yL yI (pv 6) (yV y3 (pv 5) (yT yN rfl T.b_len y9 (yA (pv 6) yD)))))) yS) (yC (yU (i:=7) (yV w7 (yV y3 (yV x3 (pv 4) (pv 2)) (yV x3 (yT yN rfl T.b_len y9 (yA (pv 0) yD)) yE)) (x4 w3 rfl a6 uE (yA (zE x8 (yV y3 (pv 4) yE) yE) yD)))) (yC (yU (i:=8) (y6 yD)) (yC (zL bYY rfl (xW rfl T.b_range (yA (yT yN rfl T.b_len y9 (yA (pv 0) yD)) yD)) (xB (i:=9)) (yF (y0 (PW.pt (vJ (xP (xK J hr rfl (yA (pv 0) (yA (pv 3) yD)))) (wP (yM Y5 (yL yI (yL yI (pv 0) (pv 9)) yE) (yL yI (yL yI (pv 0) (pv 3)) yE))))) (yC (yU (i:=10) (yL yI (pv 0) (pv 9))) (yF (y0 (PW.pt (vJ (yM x8 (yL yI (pv 10) yE) (yL yI (yL yI (pv 0) (pv 3)) yE)) (wP (yM aYj (yL yI (pv 10) yE) (yL yI (yL yI (pv 0) (pv 3)) yE))))) (yF (yY (uC bYM bYR bYS xL (pv 8) (yA (pv 9) yD)))) yS))) yS))) (yC (y0 (PW.pt (vJ (yM (uZ hr.units0) (pv 8) (y6 yD)) (wP (yM aQl (yV y3 (pv 4) yE) yE)))) (yF (yU (i:=7) (yL yI (pv 8) (yV y3 (yV x3 (yV Y4 (pv 4) yE) (pv 2)) (yT yN rfl T.b_len y9 (yA (pv 8) yD)))))) yS) (yF (yP (xI (yA yQ (yA (pv 3) (yA (pv 7) yD)))))))))))))),?_⟩;have hl:(rs.map V.ref).length=R.length:=by rw[bYe];exact hB.len
 have U:(0:Int)<((ns.map V.int).length:Nat):=by rw[bYe];have:=cQr.mpr a1;omega
 obtain⟨g,a2⟩:=qX a1 ((k:Nat)+1);obtain⟨O,a4⟩:=qX a1 ((k:Nat)+2);refine⟨_,rfl,_,rfl,_,_,rfl,rfl,_,rfl,Z,_,rfl,.inl (SqL.of hc),_,_,rfl,rfl,U,Z,_,_,_,rfl,rfl,SqL.of hc,a2,?_⟩;dsimp only[yW];refine⟨_,rfl,_,rfl,_,_,rfl,rfl,_,rfl,Z,_,rfl,.inl (SqL.of hc),_,_,rfl,rfl,U,Z,_,_,_,rfl,rfl,SqL.of hc,a4,?_⟩;dsimp only[yW];refine⟨_,rfl,v,_,rfl,.inl (SqL.of hB.lst),?_⟩;rw[hl];refine⟨_,rfl,by omega,by omega,λD hD=>?_⟩;rw[bYH];refine W7 (λj=>decide (wN (Bk.lk R j)=V.non)) (λk=>V.int (k:Nat)) hD (by rw[bYJ];omega) (λj hj W R' hH N=>?_) (λk hk _ W R' hH N=>⟨_,rfl,N⟩) ?_
 ·have L:=bK9 hj;obtain⟨b,g1,g2,cp,g3,g4⟩:=hB.get L;have a9:W v=some (.lst (rs.map V.ref)):=by rw[hH v (yK hB.lst hD)];exact hB.lst
  have hb:W b=_:=(hH b (yK g3 hD)).trans g3;rw[Bk.vP L]at N;exact⟨_,rfl,_,rfl,v,_,_,_,rfl,rfl,SqL.of a9,yR g1,b,_,4,_,rfl,rfl,SqL.of hb,rfl,rfl,_,rfl,N⟩
 generalize b2:(bYn R.length).filter (λj=>decide (wN (Bk.lk R j)=V.non))=free;have k1:=yG hD (.lst (free.map λi=>V.int (i:Nat)));have X:upd H D (.lst (free.map λi=>V.int (i:Nat))) D=some (.lst (free.map λi=>V.int (i:Nat))):=yB;generalize upd H D (.lst (free.map λi=>V.int (i:Nat)))=H1 at k1 X ⊢;dsimp only[yW];refine zB (λB W=>∃m':Int,B= [some (.ref v),some (.ref Z),some (.int (k:Nat)),some (.int m'),some (.int g),some (.int O),some (.ref D),none,none,none,none]/\xA H W) ?jS (λd=>?_);case jS=>
  rintro B H2 ⟨m',rfl,k2⟩;have a8:=hB.same k2;refine⟨_,rfl,_,rfl,_,_,rfl,rfl,_,rfl,v,_,rfl,.inl (SqL.of a8.lst),_,_,rfl,rfl,_,_,rfl,rfl,(show(0:Int)<(((rs.map V.ref).length:Nat):Int)+1 by omega),_,rfl,_,_,rfl,rfl,(show(0:Int)<11 by decide),rfl,.inr ⟨_,rfl,_,_,rfl,rfl,?_⟩⟩;dsimp only[yW];refine⟨z0,λS a3=>?_⟩;dsimp only[yW];refine⟨_,rfl,v,_,rfl,.inl (SqL.of ((yG a3 (.lst [])) _ _ a8.lst)),?_⟩;rw[hl];refine⟨_,rfl,by omega,by omega,?_⟩;rw[bYH];have a5:H S=none:=k2.fresh a3;generalize ((g+(k:Nat)) % ((R.length:Nat)+1) - if decide (V.int (g % 11)=V.int 5)=true then 1 else 0)=goal;refine zK (λt σ H3=>∃ (a:List Nat)(o9 M:Option V),σ= [some (.ref v),some (.ref Z),some (.int (k:Nat)),some (.int m'),some (.int g),some (.int O),some (.ref D),some (.int goal),some (.ref S),o9,M]/\xA H H3/\H3 S=some (.lst (a.map λi=>V.int (i:Nat)))/\a.length<=t) ?_ ?_ ?_
  ·exact⟨[],none,none,rfl,k2.trans (yG a3 _),yB,bYh _⟩
  ·rintro j σ H3 hj ⟨a,o9,M,rfl,I,l,a7⟩;rw[cXf];dsimp only[yW];have u:=hB.same I;have L:=bK9 hj;obtain⟨bj,j1,j2,cj,j3,j4⟩:=u.get L;refine⟨_,rfl,_,rfl,v,rs,R,m',rfl,u,_,rfl,?_⟩;cases h1:Bk.z9 R m' with
   |false=>exact onF rfl (onF rfl ⟨a,_,_,rfl,I,l,by omega⟩)
   |true=>
   obtain⟨i,r,rfl,b0,hi,hv⟩:=Bk.wF h1;obtain⟨b,g1,g2,cp,g3,g4⟩:=u.get hi;refine onT rfl ⟨_,rfl,_,rfl,v,_,_,_,rfl,rfl,SqL.of u.lst,yR j1,bj,_,0,_,rfl,rfl,SqL.of j3,rfl,_,rfl,_,rfl,v,_,_,_,rfl,rfl,SqL.of u.lst,yR g1,b,_,0,_,rfl,rfl,SqL.of g3,rfl,rfl,_,rfl,?_⟩;refine qB (λc1=>?_) (λc1=>?_)
   ·refine⟨_,rfl,_,rfl,v,_,_,_,rfl,rfl,SqL.of u.lst,yR j1,?_⟩;dsimp only[yW];refine⟨_,rfl,bj,_,2,_,rfl,rfl,SqL.of j3,rfl,_,rfl,_,rfl,v,_,_,_,rfl,rfl,SqL.of u.lst,yR g1,b,_,2,_,rfl,rfl,SqL.of g3,rfl,rfl,_,rfl,?_⟩;rw[wV];cases h2:decide (R[j].partner=r.partner)with
    |false=>exact onF rfl (onF rfl ⟨a,_,_,rfl,I,l,by omega⟩)
    |true=>
    refine onT rfl ⟨_,rfl,bj,_,1,_,rfl,rfl,SqL.of j3,rfl,_,rfl,_,rfl,v,_,_,_,rfl,rfl,SqL.of u.lst,yR g1,b,_,1,_,rfl,rfl,SqL.of g3,rfl,_,_,rfl,rfl,_,rfl,?_⟩;refine qB (λc2=>?_) (λc2=>?_)
    ·refine⟨_,rfl,.inl ⟨rfl,_,SqL.of l⟩,_,rfl,S,_,_,rfl,rfl,l,zlt (by rw[bYe];omega),?_⟩;have e5:(a.map λi=>V.int (i:Nat))++ [V.int (j:Nat)]=(a++ [j]).map λi=>V.int (i:Nat):=by simp
     rw[e5];refine⟨a++ [j],_,_,rfl,λx o e=>?_,yB,by rw[bYy];simp;omega⟩;rw[yJ (λz=>by rw[z,a5]at e;cases e)];exact I _ _ e
    ·exact⟨a,_,_,rfl,I,l,by omega⟩
   ·exact⟨a,_,_,rfl,I,l,by omega⟩
  ·rintro σ H3 ⟨a,o9,M,rfl,I,l,a7⟩;dsimp only[aW8];refine zB (λB W=>∃g':Int,B= [some (.ref v),some (.ref Z),some (.int (k:Nat)),some (.int m'),some (.int g),some (.int O),some (.ref D),some (.int g'),some (.ref S),o9,M]/\xA H W) ?rest2 (λd=>?_);case rest2=>
    rintro B H4 ⟨g',rfl,k4⟩;refine⟨_,rfl,_,rfl,z3,λp hp=>?_⟩;exact q _ _ (k4.trans (yG hp _)) ⟨p,.hang m' g',rfl,yB,trivial⟩
   refine⟨_,rfl,z0,λpn G=>⟨S,pn,_,rfl,rfl,SqL.of ((yG G (.lst [])) _ _ l),SqL.of yB,_,rfl,?_⟩⟩;have C:=yG G (.lst []);generalize upd H3 pn (.lst [])=H4 at C ⊢;by_cases n:a= []
   ·subst n;exact onF rfl (onF rfl (d _ _ ⟨goal,rfl,I.trans C⟩))
   refine onT (by cases a with|nil=>exact absurd rfl n|cons=>rfl) ⟨_,rfl,_,_,rfl,rfl,(show(0:Int)<7 by decide),_,_,rfl,rfl,_,rfl,?_⟩;refine qB (λc=>?_) (λc=>d _ _ ⟨goal,rfl,I.trans C⟩);obtain⟨g',a0⟩:=aZ4 n (g / 7+(k:Nat));have y:=C _ _ l;have Y:(0:Int)<((a.map λi=>V.int (i:Nat)).length:Nat):=by rw[bYe];have:=cQr.mpr n;omega
   refine⟨_,rfl,_,rfl,_,_,rfl,rfl,⟨by decide,by decide⟩,_,rfl,_,_,rfl,rfl,_,rfl,S,_,rfl,.inl (SqL.of y),_,_,rfl,rfl,Y,S,_,_,_,rfl,rfl,SqL.of y,a0,?_⟩;dsimp only[yW];exact d _ _ ⟨g',rfl,I.trans C⟩
 refine⟨_,rfl,z0,λpn G=>⟨D,pn,_,rfl,rfl,SqL.of ((yG G (.lst [])) _ _ X),SqL.of yB,_,rfl,?_⟩⟩;have C:=yG G (.lst []);generalize upd H1 pn (.lst [])=H4 at C ⊢;by_cases n:free= []
 ·subst n;exact onF rfl (onF rfl (d _ _ ⟨m,rfl,k1.trans C⟩))
 refine onT (by cases free with|nil=>exact absurd rfl n|cons=>rfl) ⟨_,rfl,_,_,rfl,rfl,(show(0:Int)<5 by decide),_,_,rfl,rfl,_,rfl,?_⟩;refine qB (λc=>?_) (λc=>d _ _ ⟨m,rfl,k1.trans C⟩);obtain⟨g',a0⟩:=aZ4 n O;have y:=C _ _ X;have Y:(0:Int)<((free.map λi=>V.int (i:Nat)).length:Nat):=by rw[bYe];have:=cQr.mpr n;omega
 refine⟨_,rfl,_,rfl,_,rfl,D,_,rfl,.inl (SqL.of y),_,_,rfl,rfl,Y,D,_,_,_,rfl,rfl,SqL.of y,a0,?_⟩;dsimp only[yW];exact d _ _ ⟨g',rfl,k1.trans C⟩
end
end Law
namespace Law
open PySem L2 PyProof.Rows
open Bk (Row Rows xU xM Ans)
open Desk (xE wX uD Wf wS stV)
theorem bQT{K:bYc}{x i:V}{H:Hp}{Q:VK}{a:Nat}{xs:List V}{j:Int}(c:x= .ref a)(d:i= .int j)(e:SqL K H a xs)(h0:0<=j)(f:j<(xs.length:Nat))(q:∀v∈xs,Q v H):aXW K x i H Q:=by
 obtain⟨k,rfl⟩:∃k:Nat,j=(k:Int):=⟨j.toNat,by omega⟩;have b:k<xs.length:=by omega
 exact⟨a,xs,_,_,c,d,e,yR (bK9 b),q _ (cQR b)⟩
theorem jK{K:bYc}{x i:V}{H:Hp}{Q:VK}{a:Nat}{xs:List V}{j:Int}(f:x= .ref a)(e:i= .int j)(c:SqL K H a xs)(h0:0<=j)(b:j<(xs.length:Nat))(d:∀v∈xs,∃n,v= .int n)(q:∀n,V.int n∈xs->Q (.int n) H):aXW K x i H Q:=
 bQT f e c h0 b λv m=>by obtain⟨n,rfl⟩:=d v m;exact q n m
theorem Q9{K:bYc}{x i:V}{H:Hp}{Q:VK}{a:Nat}{xs:List V}{j:Int}(f:x= .ref a)(e:i= .int j)(c:SqL K H a xs)(h0:0<=j)(b:j<(xs.length:Nat))(d:∀v∈xs,∃n,v= .str n)(q:∀n,V.str n∈xs->Q (.str n) H):aXW K x i H Q:=
 bQT f e c h0 b λv m=>by obtain⟨n,rfl⟩:=d v m;exact q n m
theorem b0{b:Bool}:(0:Int)<=(if b=true then 1 else 0):=by split<;> decide
theorem b1{b:Bool}:(if b=true then(1:Int)else 0)<2:=by split<;> decide
theorem md0{x n:Int}(h:0<n):0<=x % n:=Int.emod_nonneg x (by omega)
theorem md1{x n:Int}(h:0<n):x % n<n:=Int.emod_lt_of_pos x h
structure jH(H0 H:Hp)(ma:Nat)(n:Nat):Prop where
 k:xA H0 H
 new:H0 ma=none
 ex:∃vs,H ma=some (.lst vs)/\vs.length=n/\∀v∈vs,vE H v
theorem jH.same{f H e:Hp}{d:Nat}{n:Nat}(m:jH f H d n)(k:xA H e):jH f e d n:=
 ⟨m.k.trans k,m.new,let ⟨vs,a,b,c⟩:=m.ex;⟨vs,k _ _ a,b,λv g=>(c v g).same k⟩⟩
theorem jH.push{j H:Hp}{d:Nat}{n:Nat}(m:jH j H d n){vs:List V}(e:H d=some (.lst vs)){v:V}(l:vE H v):jH j (upd H d (.lst (vs++ [v]))) d (n+1):=by
 obtain⟨k,i,q,a,b,c⟩:=m;rw[e]at a;cases a;have r:∀v,vE H v->vE (upd H d (.lst (vs++ [v]))) v:=λv ⟨p,e',h1,h2,h3⟩=>⟨p,e',h1,by rw[yJ (λz=>by rw[z,e]at h2;cases h2)];exact h2,h3⟩;have g:∀v x,vE H v->vE (upd H d x) v:=λv x ⟨p,e',h1,h2,h3⟩=>⟨p,e',h1,by rw[yJ (λz=>by rw[z,e]at h2;cases h2)];exact h2,h3⟩;refine⟨λx o h=>by rw[yJ (λz=>by rw[z,i]at h;cases h)];exact k _ _ h,i,_,yB,by simp[b],λu f=>?_⟩;rcases bYP.mp f with f|f
 ·exact g _ _ (c u f)
 ·rw[bYr.mp f];exact g _ _ l
theorem bX9{v:V}{i:Nat}{u:TS}{D:aKc}{σ:L2.St}{H:Hp}(h:u D (σ.set i (some v)) H):bKe (bKc (tC v) (yW i)) u D σ H:=h
abbrev aVy:Stmt:=xC "_law_about"
def aY8:Sp:=λe H Q _=>∃ (c d:Nat)(f:List Nat)(R:Rows)(b:List Int)(k:Nat)(m turn:Int),e= [.ref c,.ref d,.int (k:Nat),.int m,.int turn]/\y8 H c f R/\R.length<=60/\H d=some (.lst (b.map V.int))/\k<b.length/\15<=turn/\turn<24/\
 ∀ (a:Hp)(v:V),xA H a->vE a v->Q v a
section
variable {K:bYc}
theorem bXN:yO ["_law_rows","_law_cells","_law_k","_law_number","_law_turn","_law_near","_law_far","_law_base","_law_tied","_law_name","_law_way","_law_further","_law_menu","_law_stop","_law_asks"] ["_law_rows","_law_cells","_law_k","_law_number","_law_turn"] (yH aVy):=scM
theorem bQY:xJ ["_law_rows","_law_cells","_law_k","_law_number","_law_turn","_law_near","_law_far","_law_base","_law_tied","_law_name","_law_way","_law_further","_law_menu","_law_stop","_law_asks"] (yH aVy) "_law_j" ["_law_rows"] [0] {kind:= .function,names:= [(".0",.local),("_law_j",.local),("_law_rows",.free)],isGenerator:=false,isCoroutine:=false,more:= [] }:=
 lcM
seal PE PA PS PSs PT in
theorem bXd(T:vA mg)(Y:mg "int"=none)(u:FnG P w K mg base 1 "_law_good" ["_law_rows","_law_number"] Z6)(F:Fun K "_law_about" "_law_about" aVy f fd):xD P w K mg base CX0 2 f fd ["_law_rows","_law_cells","_law_k","_law_number","_law_turn"] aY8:=by
 have sc:=bXN;refine F.ok (k:=1) sc (λj2 A outer s H vs Q E hr h=>?_);obtain⟨ra,X,rs,R,ns,k,m,turn,rfl,hB,hR,hc,a4,j0,j3,q⟩:=h;refine⟨_,(yC (yU (i:=5) (yL yI (pv 1) (yV y3 (yV x3 (pv 2) yE) (yT yN rfl T.b_len y9 (yA (pv 1) yD))))) (yC (yU (i:=6) (yL yI (pv 1) (yV y3 (yV x3 (pv 2) yE) (yT yN rfl T.b_len y9 (yA (pv 1) yD))))) (yC (yU (i:=7) yE) (yC (y0 (xP (xK u hr rfl (yA (pv 0) (yA (pv 3) yD)))) (yF (yU (i:=7) (yL yI (yL yI (pv 0) (pv 3)) yE))) yS) (yC (aZE (i:=8) bQY rfl sc.nd rfl rfl (xW rfl T.b_range (yA (yT yN rfl T.b_len y9 (yA (pv 0) yD)) yD)) (λ_ _ _ _ _=>(wU (yM wC (yL (show IxR _ (aXW K)from yI) (yL (show IxR _ (aXW K)from yI) (pv 1) (pv 0)) yE) xY))) (λ_ _ _ _ _=>(pv 0))) (yC (y0 (PW.pt (vJ (yM x8 (pv 4) yE) (vJ (yM (uZ hr.units0) (pv 8) (y6 yD)) (wP (yM aQl (yV y3 (pv 5) yE) yE))))) (yF (yU (i:=3) (yL yI (pv 8) (yV y3 (pv 6) (yT yN rfl T.b_len y9 (yA (pv 8) yD)))))) yS) (yC (yU (i:=9) (yL yI (y6 (yA yQ (yA yQ (yA yQ (yA yQ (yA yQ (yA (yV aQn yQ yE) yD))))))) (yV y3 (pv 5) (yL yI (y6 (yA yE (yA yE yD))) (yV y3 (yL yI (pv 1) (pv 2)) yE))))) (yC (yU (i:=10) (x4 w3 rfl Y uE (yA (zE x8 (yV y3 (yL yI (pv 1) (pv 2)) yE) yE) yD))) (yC (yU (i:=11) (yV w7 (yV x3 (pv 7) (yV y3 (pv 5) (yL yI (y6 (yA yE (yA yE yD))) (pv 10)))) (yL yI (y6 (yA yE (yA yE yD))) (pv 10)))) (yC (yU (i:=12) (y6 (yA (xI (yA yQ (yA (pv 3) yD))) (yA (xI (yA yQ (yA (pv 3) (yA (pv 11) yD)))) yD)))) (yC (yY (uC bYM bYR bYS xL (pv 12) (yA (xI (yA yQ (yA (pv 3) (yA (yL yI (y6 (yA yE (yA yE (yA yE (yA yE (yA (aYo aZX yE) yD)))))) (yV y3 (pv 5) yE)) yD)))) yD))) (yC (yY (uC bYM bYR bYS xL (pv 12) (yA (xI (yA yQ (yA (pv 3) (yA (yL yI (y6 (yA yQ (yA yQ (yA yQ (yA yQ (yA yQ (yA (yV aQn yQ yE) yD))))))) (yV y3 (pv 5) yE)) yD)))) yD))) (yC (yU (i:=13) (yL yI (y6 (yA (yV w7 (yV y3 (pv 5) yE) yE) (yA (yV x3 (pv 7) (yV y3 (pv 5) yE)) yD))) (x4 w3 rfl Y uE (yA (zE x8 (yV y3 (pv 6) yE) yE) yD)))) (yC (yU (i:=12) (yV aVn (pv 12) (y6 (yA (xI (yA yQ (yA (pv 3) (yA (pv 9) yD)))) (yA (xI (yA yQ (yA (pv 3) yD))) (yA (xI (yA yQ (yA (pv 13) yD))) yD)))))) (yC (yU (i:=14) (y6 (yA (xI (yA yQ (yA (pv 3) yD))) (yA (xI (yA yQ (yA (pv 3) yD))) (yA (xI (yA yQ (yA (yV w7 (yV y3 (pv 6) yE) yE) yD))) yD))))) (yC (yU (i:=14) (yV aVn (pv 14) (y6 (yA (xI (yA yQ (yA (pv 9) yD))) (yA (xI (yA yQ (yA (yV w7 (yV y3 (pv 6) yE) yE) yD))) (yA (xI (yA yQ (yA (pv 3) yD))) yD)))))) (yC (y0 (yM vC (pv 4) yE) (yF (yP (yL yI (pv 12) (yV w7 (pv 4) yE)))) yS) (yF (yP (yL yI (pv 14) (yV y3 (yV x3 (yV Y4 (pv 5) yE) (pv 4)) yE))))))))))))))))))))),?_⟩;have b5:ns≠ []:=λz=>by rw[z]at a4;simp at a4
 have hl:(rs.map V.ref).length=R.length:=by rw[bYe];exact hB.len
 have a0:(0:Int)<((ns.map V.int).length:Nat):=by rw[bYe];have:=cQr.mpr b5;omega
 have d2:(ns.map V.int)[k]? =some (.int ns[k]):=by rw[bYu,bK9 a4];rfl
 obtain⟨d,b8⟩:=qX b5 ((k:Nat)+1);obtain⟨l,c6⟩:=qX b5 ((k:Nat)+2);refine⟨_,rfl,_,rfl,_,_,rfl,rfl,_,rfl,X,_,rfl,.inl (SqL.of hc),_,_,rfl,rfl,a0,X,_,_,_,rfl,rfl,SqL.of hc,b8,?_⟩;dsimp only[yW];refine⟨_,rfl,_,rfl,_,_,rfl,rfl,_,rfl,X,_,rfl,.inl (SqL.of hc),_,_,rfl,rfl,a0,X,_,_,_,rfl,rfl,SqL.of hc,c6,?_⟩;dsimp only[yW];refine bX9 ?_;refine zB (λo t=>∃bs:Int,o= [some (.ref ra),some (.ref X),some (.int (k:Nat)),some (.int m),some (.int turn),some (.int d),some (.int l),some (.int bs),none,none,none,none,none,none,none]/\t=H) ?jS (λg=>?_);case jS=>
  rintro o t ⟨bs,rfl,rfl⟩;refine⟨_,rfl,ra,_,rfl,.inl (SqL.of hB.lst),?_⟩;rw[hl];refine⟨_,rfl,by omega,by omega,λD hD=>?_⟩;rw[bYH];refine W7 (λj=> !decide (wN (Bk.lk R j)=V.non)) (λk=>V.int (k:Nat)) hD (by rw[bYJ];omega) (λj hj H1 R' hH J=>?_) (λk hk _ t R' hH J=>⟨_,rfl,J⟩) ?_
  ·have c0:=bK9 hj;obtain⟨b,U,g2,cp,p,x⟩:=hB.get c0;have h0:H1 ra=some (.lst (rs.map V.ref)):=by rw[hH ra (yK hB.lst hD)];exact hB.lst
   have hb:H1 b=_:=(hH b (yK p hD)).trans p;rw[Bk.vP c0]at J;exact⟨_,rfl,_,rfl,ra,_,_,_,rfl,rfl,SqL.of h0,yR U,b,_,4,_,rfl,rfl,SqL.of hb,rfl,rfl,_,rfl,J⟩
  generalize j6:(bYn R.length).filter (λj=> !decide (wN (Bk.lk R j)=V.non))=free;have k1:=yG hD (.lst (free.map λi=>V.int (i:Nat)));have a8:upd t D (.lst (free.map λi=>V.int (i:Nat))) D=some (.lst (free.map λi=>V.int (i:Nat))):=yB;generalize upd t D (.lst (free.map λi=>V.int (i:Nat)))=H1 at k1 a8 ⊢;dsimp only[yW];refine zB (λo H2=>∃m:Int,o= [some (.ref ra),some (.ref X),some (.int (k:Nat)),some (.int m),some (.int turn),some (.int d),some (.int l),some (.int bs),some (.ref D),none,none,none,none,none,none]/\xA t H2) ?rest2 (λg=>?_);case rest2=>
   rintro o H2 ⟨m,rfl,k2⟩;refine⟨_,_,rfl,rfl,by decide,by decide,by decide,λI i6=>⟨zn (by show 6<=100000;omega),λl6 h5=>?_⟩⟩;have e6:=yG h5 (.lst [.str "old",.str "",.str "new",.str "old files",.str "Old, ~",.str I]);have h6:upd H2 l6 (.lst [.str "old",.str "",.str "new",.str "old files",.str "Old, ~",.str I]) l6=some (.lst [.str "old",.str "",.str "new",.str "old files",.str "Old, ~",.str I]):=yB;generalize upd H2 l6 (.lst [.str "old",.str "",.str "new",.str "old files",.str "Old, ~",.str I])=H3 at e6 h6 ⊢;refine⟨_,rfl,z2,λl2 i1=>?_⟩;have e7:=yG i1 (.lst [.int 3,.int 6]);have h7:upd H3 l2 (.lst [.int 3,.int 6]) l2=some (.lst [.int 3,.int 6]):=yB;have c9:=e7 _ _ h6;have k4:=(k2.trans e6).trans e7;generalize upd H3 l2 (.lst [.int 3,.int 6])=H4 at e7 h7 c9 k4 ⊢;have b9:=k4 _ _ hc;refine⟨_,rfl,_,rfl,X,_,_,_,rfl,rfl,SqL.of b9,yR d2,_,_,rfl,rfl,(show(0:Int)<2 by decide),?_⟩;refine jK rfl rfl (SqL.of h7) (md0 (by decide)) (md1 (by decide)) (by simp) λj hj=>?_;have i5:j=3\/j=6:=by simpa using hj
   refine⟨_,_,rfl,rfl,(show(0:Int)<j by omega),?_⟩;refine Q9 rfl rfl (SqL.of c9) (md0 (by omega)) (Int.lt_of_lt_of_le (md1 (by omega)) (show j<=6 by omega)) (by simp) λe _=>?_;dsimp only[yW];refine⟨_,rfl,_,rfl,X,_,_,_,rfl,rfl,SqL.of b9,yR d2,_,_,rfl,rfl,(show(0:Int)<11 by decide),rfl,.inr ⟨_,rfl,?_⟩⟩;generalize i7:decide (V.int (ns[k] % 11)=V.int 4)=wb;dsimp only[yW];refine⟨_,rfl,_,rfl,z2,λl9 f6=>⟨_,rfl,?_⟩⟩;have e9:=yG f6 (.lst [.int 9,.int 3001]);refine jK rfl rfl (SqL.of yB) b0 b1 (by simp) λj hj=>?_;have j5:j=9\/j=3001:=by simpa using hj
   refine⟨_,_,rfl,rfl,(show(0:Int)<j by omega),_,_,rfl,rfl,z2,λl4 g7=>⟨_,rfl,?_⟩⟩;have M:=(k4.trans e9).trans (yG g7 (.lst [.int 4,.int 1500]));refine jK rfl rfl (SqL.of yB) b0 b1 (by simp) λj4 _=>?_;refine⟨_,_,rfl,rfl,?_⟩;generalize upd (upd H4 l9 (.lst [.int 9,.int 3001])) l4 (.lst [.int 4,.int 1500])=H5 at M ⊢;dsimp only[yW];refine⟨_,rfl,z2,λp1 i3=>⟨_,rfl,_,rfl,z3,λp2 a9=>⟨z2,λZ d8=>?_⟩⟩⟩;have M1:jH t (upd (upd (upd H5 p1 (.tup [.str "loose",.int m])) p2 (.tup [.str "date",.int m,.int (bs+d % j - j4)])) Z (.lst [.ref p1,.ref p2])) Z 2:=by
    have a1:=yG i3 (.tup [.str "loose",.int m]);have a2:=yG a9 (.tup [.str "date",.int m,.int (bs+d % j - j4)]);have a3:=yG d8 (.lst [.ref p1,.ref p2]);refine⟨((M.trans a1).trans a2).trans a3,((M.trans a1).trans a2).fresh d8,_,yB,rfl,λv a=>?_⟩;rcases bYj.mp a with rfl|a
    ·exact⟨p1,.loose m,rfl,a3 _ _ (a2 _ _ yB),trivial⟩
    ·rw[bYr.mp a];exact⟨p2,.date m (bs+d % j - j4),rfl,a3 _ _ yB,trivial⟩
   generalize upd (upd (upd H5 p1 (.tup [.str "loose",.int m])) p2 (.tup [.str "date",.int m,.int (bs+d % j - j4)])) Z (.lst [.ref p1,.ref p2])=H6 at M1 ⊢;dsimp only[yW];obtain⟨h9,d3, -, -⟩:=M1.ex;refine⟨_,rfl,.inl ⟨rfl,_,SqL.of d3⟩,_,rfl,_,rfl,zn (by show 5<=100000;omega),λl5 i2=>⟨_,rfl,_,_,rfl,rfl,(show(0:Int)<5 by decide),?_⟩⟩;refine jK rfl rfl (SqL.of yB) (md0 (by decide)) (md1 (by decide)) (by simp) λtm _=>⟨z3,λp3 f5=>?_⟩;have a5:=(yG i2 (.lst [.int 0,.int 2,.int 6,.int 1,.int (-1)])).trans (yG f5 (.tup [.str "term",.int m,.int tm]));have d5:vE (upd (upd H6 l5 (.lst [.int 0,.int 2,.int 6,.int 1,.int (-1)])) p3 (.tup [.str "term",.int m,.int tm])) (.ref p3):=⟨p3,.term m tm,rfl,yB,trivial⟩;generalize upd (upd H6 l5 (.lst [.int 0,.int 2,.int 6,.int 1,.int (-1)])) p3 (.tup [.str "term",.int m,.int tm])=H7 at a5 d5 ⊢;have M2:=M1.same a5;have b7:=a5 _ _ d3;refine⟨Z,_,_,rfl,rfl,b7,?_,?_⟩
   ·obtain⟨ws,w1,w2,_⟩:=M2.ex;rw[b7]at w1;cases w1;exact zlt (by omega)
   have M3:=M2.push b7 d5;generalize upd H7 Z (.lst (h9++ [.ref p3]))=H8 at M3 ⊢;obtain⟨i4,c8, -, -⟩:=M3.ex;refine⟨_,rfl,.inl ⟨rfl,_,SqL.of c8⟩,_,rfl,_,_,rfl,rfl,by decide,by decide,by decide,λz4 i8=>⟨zn (by show 6<=100000;omega),λl7 h3=>⟨_,rfl,_,_,rfl,rfl,(show(0:Int)<6 by decide),?_⟩⟩⟩;refine Q9 rfl rfl (SqL.of yB) (md0 (by decide)) (md1 (by decide)) (by simp) λC _=>⟨z3,λp4 f0=>?_⟩;have a7:=(yG h3 (.lst [.str "ann",.str "cy",.str "bo",.str "",.str "ann lee",.str z4])).trans (yG f0 (.tup [.str "copy",.int m,.str C]));have d7:vE (upd (upd H8 l7 (.lst [.str "ann",.str "cy",.str "bo",.str "",.str "ann lee",.str z4])) p4 (.tup [.str "copy",.int m,.str C])) (.ref p4):=⟨p4,.copy m C,rfl,yB,trivial⟩;generalize upd (upd H8 l7 (.lst [.str "ann",.str "cy",.str "bo",.str "",.str "ann lee",.str z4])) p4 (.tup [.str "copy",.int m,.str C])=H9 at a7 d7 ⊢;have M4:=M3.same a7;have a6:=a7 _ _ c8;refine⟨Z,_,_,rfl,rfl,a6,?_,?_⟩
   ·obtain⟨ws,w1,w2,_⟩:=M4.ex;rw[a6]at w1;cases w1;exact zlt (by omega)
   have M5:=M4.push a6 d7;generalize upd H9 Z (.lst (i4++ [.ref p4]))=H10 at M5 ⊢;refine⟨_,rfl,_,_,rfl,rfl,(show(0:Int)<24 by decide),_,_,rfl,rfl,_,rfl,_,rfl,_,_,rfl,rfl,(show(0:Int)<12 by decide),_,_,rfl,rfl,z2,λl8 g6=>⟨_,rfl,_,_,rfl,rfl,(show(0:Int)<3 by decide),rfl,.inr ⟨_,rfl,?_⟩⟩⟩;refine jK rfl rfl (SqL.of yB) b0 b1 (by simp) λn _=>?_;have M6:=M5.same (yG g6 (.lst [.int (d % 24 - 2),.int (bs+d % 12)]));generalize upd H10 l8 (.lst [.int (d % 24 - 2),.int (bs+d % 12)])=H11 at M6 ⊢;dsimp only[yW];obtain⟨b3,g8,d6,h4⟩:=M6.ex;refine⟨_,rfl,_,rfl,_,rfl,z3,λL e5=>⟨_,rfl,z2,λG g0=>⟨_,rfl,z2,λy i0=>⟨z3,λb6 d9=>?_⟩⟩⟩⟩;have c1:=yG e5 (.tup [.str "file",.int m,.str e]);have c2:=yG g0 (.tup [.str "void",.int m]);have c3:=yG i0 (.tup [.str "shut",.int n]);have c4:=yG d9 (.lst [.ref L,.ref G,.ref y]);refine⟨Z,b6,_,_,rfl,rfl,c4 _ _ (c3 _ _ (c2 _ _ (c1 _ _ g8))),yB,by rw[d6,bYJ];show 7<=16777216;omega,λmb c7=>?_⟩;have c5:=yG c7 (.lst (b3++ [.ref L,.ref G,.ref y]));have M7:jH t (upd (upd (upd (upd (upd H11 L (.tup [.str "file",.int m,.str e])) G (.tup [.str "void",.int m])) y (.tup [.str "shut",.int n])) b6 (.lst [.ref L,.ref G,.ref y])) mb (.lst (b3++ [.ref L,.ref G,.ref y]))) mb 7:=by
    have W:=(((M6.k.trans c1).trans c2).trans c3).trans c4;refine⟨W.trans c5,W.fresh c7,_,yB,by rw[bYy,d6];rfl,λv a=>?_⟩;rcases bYP.mp a with a|a
    ·exact(h4 v a).same ((((c1.trans c2).trans c3).trans c4).trans c5)
    ·rcases bYj.mp a with rfl|a
     ·exact⟨L,.file m e,rfl,c5 _ _ (c4 _ _ (c3 _ _ (c2 _ _ yB))),trivial⟩
     ·rcases bYj.mp a with rfl|a
      ·exact⟨G,.void m,rfl,c5 _ _ (c4 _ _ (c3 _ _ yB)),trivial⟩
      ·rw[bYr.mp a];exact⟨y,.shut n,rfl,c5 _ _ (c4 _ _ yB),trivial⟩
   generalize upd (upd (upd (upd (upd H11 L (.tup [.str "file",.int m,.str e])) G (.tup [.str "void",.int m])) y (.tup [.str "shut",.int n])) b6 (.lst [.ref L,.ref G,.ref y])) mb (.lst (b3++ [.ref L,.ref G,.ref y]))=H12 at M7 ⊢;dsimp only[yW];refine⟨_,rfl,z2,λr1 f7=>⟨_,rfl,z2,λr2 e4=>⟨_,rfl,_,_,rfl,rfl,(show(0:Int)<26 by decide),_,_,rfl,rfl,z2,λr3 g9=>⟨z3,λna d1=>?_⟩⟩⟩⟩;have f1:=yG f7 (.tup [.str "state",.int m]);have f2:=yG e4 (.tup [.str "thread",.int m]);have f3:=yG g9 (.tup [.str "overdue",.int (l % 26 - 1)]);have f4:=yG d1 (.lst [.ref r1,.ref r2,.ref r3]);have M8:=(((M7.same f1).same f2).same f3).same f4;have N1:jH t (upd (upd (upd (upd H12 r1 (.tup [.str "state",.int m])) r2 (.tup [.str "thread",.int m])) r3 (.tup [.str "overdue",.int (l % 26 - 1)])) na (.lst [.ref r1,.ref r2,.ref r3])) na 3:=by
    have W:=((M7.k.trans f1).trans f2).trans f3;refine⟨W.trans f4,W.fresh d1,_,yB,rfl,λv a=>?_⟩;rcases bYj.mp a with rfl|a
    ·exact⟨r1,.state m,rfl,f4 _ _ (f3 _ _ (f2 _ _ yB)),trivial⟩
    ·rcases bYj.mp a with rfl|a
     ·exact⟨r2,.thread m,rfl,f4 _ _ (f3 _ _ yB),trivial⟩
     ·rw[bYr.mp a];exact⟨r3,.on true (l % 26 - 1),rfl,f4 _ _ yB,trivial⟩
   generalize upd (upd (upd (upd H12 r1 (.tup [.str "state",.int m])) r2 (.tup [.str "thread",.int m])) r3 (.tup [.str "overdue",.int (l % 26 - 1)])) na (.lst [.ref r1,.ref r2,.ref r3])=H13 at M8 N1 ⊢;dsimp only[yW];obtain⟨b2,h8,d4,e8⟩:=N1.ex;refine⟨_,rfl,_,rfl,z2,λO h2=>⟨_,rfl,_,_,rfl,rfl,(show(0:Int)<26 by decide),_,_,rfl,rfl,z2,λB e3=>⟨_,rfl,z2,λN f8=>⟨z3,λb4 e1=>?_⟩⟩⟩⟩;have U:=yG h2 (.tup [.str "letters",.str e]);have g2:=yG e3 (.tup [.str "waiting",.int (l % 26 - 1)]);have p:=yG f8 (.tup [.str "copies",.int m]);have x:=yG e1 (.lst [.ref O,.ref B,.ref N]);refine⟨na,b4,_,_,rfl,rfl,x _ _ (p _ _ (g2 _ _ (U _ _ h8))),yB,by rw[d4,bYJ];show 6<=16777216;omega,λnb e2=>?_⟩;have g5:=yG e2 (.lst (b2++ [.ref O,.ref B,.ref N]));have M9:=((((M8.same U).same g2).same p).same x).same g5;have N2:jH t (upd (upd (upd (upd (upd H13 O (.tup [.str "letters",.str e])) B (.tup [.str "waiting",.int (l % 26 - 1)])) N (.tup [.str "copies",.int m])) b4 (.lst [.ref O,.ref B,.ref N])) nb (.lst (b2++ [.ref O,.ref B,.ref N]))) nb 6:=by
    have W:=(((M8.k.trans U).trans g2).trans p).trans x;refine⟨W.trans g5,W.fresh e2,_,yB,by rw[bYy,d4];rfl,λv a=>?_⟩;rcases bYP.mp a with a|a
    ·exact(e8 v a).same ((((U.trans g2).trans p).trans x).trans g5)
    ·rcases bYj.mp a with rfl|a
     ·exact⟨O,.letters e,rfl,g5 _ _ (x _ _ (p _ _ (g2 _ _ yB))),trivial⟩
     ·rcases bYj.mp a with rfl|a
      ·exact⟨B,.on false (l % 26 - 1),rfl,g5 _ _ (x _ _ (p _ _ yB)),trivial⟩
      ·rw[bYr.mp a];exact⟨N,.copies m,rfl,g5 _ _ (x _ _ yB),trivial⟩
   generalize upd (upd (upd (upd (upd H13 O (.tup [.str "letters",.str e])) B (.tup [.str "waiting",.int (l % 26 - 1)])) N (.tup [.str "copies",.int m])) b4 (.lst [.ref O,.ref B,.ref N])) nb (.lst (b2++ [.ref O,.ref B,.ref N]))=H14 at M9 N2 ⊢;dsimp only[yW];refine⟨_,rfl,_,_,rfl,rfl,_,rfl,?_⟩;refine qB (λc=>?_) (λc=>?_)
   ·have c:turn<22:=of_decide_eq_true c;obtain⟨us,u1,u2,u3⟩:=M9.ex;refine⟨_,rfl,_,rfl,_,_,rfl,rfl,?_⟩;exact bQT rfl rfl (SqL.of u1) (by omega) (by rw[u2];show turn - 15<7;omega) λv a=>q _ _ M9.k (u3 v a)
   ·obtain⟨us,u1,u2,u3⟩:=N2.ex;refine⟨_,rfl,_,rfl,_,_,rfl,rfl,⟨by decide,by decide⟩,_,rfl,_,_,rfl,rfl,_,_,rfl,rfl,(show(0:Int)<6 by decide),?_⟩;exact bQT rfl rfl (SqL.of u1) (md0 (by decide)) (by rw[u2];exact md1 (by decide)) λv a=>q _ _ N2.k (u3 v a)
  refine⟨_,rfl,rfl,_,rfl,?_⟩;cases j1:decide (V.int turn=V.int 15)with
  |false=>exact onF rfl (onF rfl (g _ _ ⟨m,rfl,k1⟩))
  |true=>
  refine onT rfl ⟨_,rfl,z0,λpn e0=>⟨D,pn,_,rfl,rfl,SqL.of ((yG e0 (.lst [])) _ _ a8),SqL.of yB,_,rfl,?_⟩⟩;have M:=yG e0 (.lst []);generalize upd H1 pn (.lst [])=H4 at M ⊢;by_cases S:free= []
  ·subst S;exact onF rfl (onF rfl (g _ _ ⟨m,rfl,k1.trans M⟩))
  refine onT (by cases free with|nil=>exact absurd rfl S|cons=>rfl) ⟨_,rfl,_,_,rfl,rfl,(show(0:Int)<4 by decide),_,_,rfl,rfl,_,rfl,?_⟩;refine qB (λc=>?_) (λc=>g _ _ ⟨m,rfl,k1.trans M⟩);obtain⟨g',f9⟩:=aZ4 S l;have d0:=M _ _ a8;have a9:(0:Int)<((free.map λi=>V.int (i:Nat)).length:Nat):=by rw[bYe];have:=cQr.mpr S;omega
  refine⟨_,rfl,_,rfl,_,rfl,D,_,rfl,.inl (SqL.of d0),_,_,rfl,rfl,a9,D,_,_,_,rfl,rfl,SqL.of d0,f9,?_⟩;dsimp only[yW];exact g _ _ ⟨g',rfl,k1.trans M⟩
 refine⟨_,rfl,_,rfl,ra,rs,R,m,rfl,hB,_,rfl,?_⟩;cases h1:Bk.z9 R m with
 |false=>exact onF rfl (g _ _ ⟨0,rfl,rfl⟩)
 |true=>
 obtain⟨i,r,rfl,i9,hi,a⟩:=Bk.wF h1;obtain⟨b,U,g2,cp,p,x⟩:=hB.get hi;refine onT rfl ⟨_,rfl,_,rfl,ra,_,_,_,rfl,rfl,SqL.of hB.lst,yR U,b,_,1,_,rfl,rfl,SqL.of p,rfl,?_⟩;dsimp only[yW];exact g _ _ ⟨r.date,rfl,rfl⟩
end
end Law
namespace Law
open PySem L2 PyProof.Rows
open Bk (Row Rows xU xM Ans)
open Desk (xE wX uD Wf wS stV)
theorem bV9:bYT "max"=some (.builtin "max"):=dk
theorem bJx{c:TT}{t u:TS}{D:aKc}{σ:L2.St}{H:Hp}(I:Bool->Hp->Prop)(h:∀Kk:Bool->Hp->Prop,(∀b a,I b a->Kk b a)->c σ H Kk)(e:∀a,I true a->t D σ a)(d:∀a,I false a->u D σ a):bKd c t u D σ H:=
 h _ λb a i=>by
  cases b with
  |true=>exact onT rfl (e a i)
  |false=>exact onF rfl (d a i)
theorem bWP{c:TT}{t u r:TS}{D:aKc}{σ:L2.St}{H:Hp}(h:bKd c t u {D with nx:=r D} σ H):bKe (bKd c t u) r D σ H:=h
theorem p60:(0:Int)<10 ^ (60:Int).toNat:=dk
theorem c60:bKF 10 60:=⟨by decide,by decide,by decide⟩
abbrev aJN:Stmt:=xC "_law_deed_at"
def aVK:Sp:=λe H Q _=>∃ (c d:Nat)(f:List Nat)(R:Rows)(b:List Int)(k:Nat),e= [.ref c,.ref d,.int (k:Nat)]/\y8 H c f R/\R.length<=60/\H d=some (.lst (b.map V.int))/\k<b.length/\
 ∀ (a:Hp)(v:V),xA H a->vE a v->Q v a
section
variable {K:bYc}
theorem aYY:yO ["_law_rows","_law_cells","_law_k","_law_near","_law_far","_law_turn","_law_number","_law_term","_law_date","_law_who","_law_twin","_law_base"] ["_law_rows","_law_cells","_law_k"] (yH aJN):=scM
seal PE PA PS PSs PT in
theorem aYc(T:vA mg)(Y:mg "int"=none)(b5:mg "max"=none)(W:FnG P w K mg base 2 "_law_good" ["_law_rows","_law_number"] Z6)(u:FnG P w K mg base 2 "_law_hanging" ["_law_rows","_law_cells","_law_k","_law_number"] aZS) (I:FnG P w K mg base 2 "_law_about" ["_law_rows","_law_cells","_law_k","_law_number","_law_turn"] aY8) (F:Fun K "_law_deed_at" "_law_deed_at" aJN f fd):xD P w K mg base CX0 3 f fd ["_law_rows","_law_cells","_law_k"] aVK:=by
 have sc:=aYY;refine F.ok (k:=2) sc (λc7 A outer s H vs Q E hr h=>?_);obtain⟨G,g,rs,R,D,k,rfl,hB,hR,L,S,q⟩:=h;refine⟨_,(yC (yU (i:=3) (yL yI (pv 1) (yV y3 (yV x3 (pv 2) yE) (yT yN rfl T.b_len y9 (yA (pv 1) yD))))) (yC (yU (i:=4) (yL yI (pv 1) (yV y3 (yV x3 (pv 2) yE) (yT yN rfl T.b_len y9 (yA (pv 1) yD))))) (yC (yU (i:=5) (yV y3 (yV x3 (yL yI (pv 1) (pv 2)) (yV aVp yE (pv 2))) yE)) (yC (yU (i:=6) (yV y3 (yV x3 (pv 4) (pv 2)) (yT (aKm rfl) rfl b5 bV9 (yA yE (yA (yT yN rfl T.b_len y9 (yA (pv 0) yD)) yD))))) (yC (y0 (yM x8 (yV y3 (yL yI (pv 1) (pv 2)) yE) yE) (yF (yU (i:=6) (yL yI (y6 (yA (aYo aZX yE) (yA (yT yN rfl T.b_len y9 (yA (pv 0) yD)) (yA (yV aQo yE yE) (yA (yV w7 (aYo aZX yE) (yV y3 (pv 3) (yV aQo yE yE))) (yA (yV x3 (yT yN rfl T.b_len y9 (yA (pv 0) yD)) (yV y3 (pv 3) (yV aQo yE yE))) yD)))))) (yV y3 (pv 3) yE)))) yS) (yC (yU (i:=7) (yL yI (y6 (yA yE (yA yE (yA yE (yA yE (yA yE (yA yE yD))))))) (yV y3 (yV Y4 (pv 3) yE) yE))) (yC (y0 (yM x8 (yV y3 (yL yI (pv 1) (pv 2)) yE) yE) (yF (yU (i:=7) (yL yI (y6 (yA (aYo aZX yE) (yA yE (yA (yV w7 (aYo aZX yE) (yV y3 (pv 4) (yV aQo yE yE))) (yA (yV y3 (pv 4) yE) yD))))) (yV y3 (pv 4) yE)))) yS) (yC (y0 (PW.pt (vD (yM vC (pv 5) yE) (wM (yM (aVo hr.units0) (pv 0) (y6 yD))))) (yC (yU (i:=8) (yV x3 (yV w7 (yV y3 (pv 3) yE) yE) (yV aVp (yV aQo yE yE) (x4 w3 rfl Y uE (yA (zE x8 (yV y3 (yL yI (pv 1) (pv 2)) yE) yE) yD))))) (yC (y0 (yM x8 (yV y3 (yL yI (pv 1) (pv 2)) yE) yE) (yF (yU (i:=8) (yL yI (y6 (yA (yV w7 (yV y3 (pv 3) yE) yE) (yA (yV y3 (pv 3) (yV aQo yE yE)) (yA (yV w7 yE (yV y3 (pv 3) (yV aQo yE yE))) yD)))) (yV y3 (pv 4) yE)))) yS) (yC (yU (i:=9) (yL yI (y6 (yA yQ (yA yQ (yA yQ (yA yQ yD))))) (yV y3 (pv 4) yE))) (yC (y0 (yM x8 (yV y3 (yL yI (pv 1) (pv 2)) yE) yE) (yC (yU (i:=10) (yV aXb (yV aXb (yV aQn yQ (yV y3 (yL yI (pv 1) yE) yE)) yQ) (yV aQn yQ (yV w7 yE (yV y3 (yL yI (pv 1) yE) yE))))) (yF (yU (i:=9) (yL yI (y6 (yA yQ (yA (pv 10) (yA (yV aQn yQ yE) yD)))) (yV y3 (pv 4) yE))))) yS) (yF (yP (xI (yA (yL yI (y6 (yA yQ (yA yQ yD))) (yV y3 (yV Y4 (pv 4) yE) yE)) (yA (pv 8) (yA (pv 9) (yA (pv 7) yD))))))))))) yS) (yC (y0 (yM vC (pv 5) yE) (yC (yU (i:=11) (yV y3 (pv 3) yE)) (yC (y0 (xP (xK W hr rfl (yA (pv 0) (yA (pv 6) yD)))) (yF (yU (i:=11) (yV w7 (yV x3 (yL yI (yL yI (pv 0) (pv 6)) yE) (yV y3 (pv 3) (yL yI (y6 (yA yE (yA yE yD))) (x4 w3 rfl Y uE (yA (zE x8 (yV y3 (yL yI (pv 1) (pv 2)) yE) yE) yD))))) yE))) yS) (yF (yP (xI (yA yQ (yA (pv 6) (yA (pv 11) (yA (pv 7) yD))))))))) yS) (yC (y0 (yM vC (pv 5) yE) (yF (yP (xK u hr rfl (yA (pv 0) (yA (pv 1) (yA (pv 2) (yA (pv 6) yD))))))) yS) (yF (yP (xK I hr rfl (yA (pv 0) (yA (pv 1) (yA (pv 2) (yA (pv 6) (yA (pv 5) yD)))))))))))))))))),?_⟩;have X:D≠ []:=λz=>by rw[z]at S;simp at S
 have Z:(0:Int)<((D.map V.int).length:Nat):=by rw[bYe];have:=cQr.mpr X;omega
 have o:(D.map V.int)[k]? =some (.int D[k]):=by rw[bYu,bK9 S];rfl
 have b4:(D.map V.int)[0]? =some (.int (D[0]'(by omega))):=by rw[bYu,bK9 (by omega:0<D.length)];rfl
 obtain⟨l,a4⟩:=qX X ((k:Nat)+1);obtain⟨N,a8⟩:=qX X ((k:Nat)+2);refine⟨_,rfl,_,rfl,_,_,rfl,rfl,_,rfl,g,_,rfl,.inl (SqL.of L),_,_,rfl,rfl,Z,g,_,_,_,rfl,rfl,SqL.of L,a4,?_⟩;dsimp only[yW];refine⟨_,rfl,_,rfl,_,_,rfl,rfl,_,rfl,g,_,rfl,.inl (SqL.of L),_,_,rfl,rfl,Z,g,_,_,_,rfl,rfl,SqL.of L,a8,?_⟩;dsimp only[yW];refine⟨_,rfl,_,rfl,g,_,_,_,rfl,rfl,SqL.of L,yR o,_,rfl,_,_,rfl,rfl,.inl ⟨by decide,by decide⟩,_,_,rfl,rfl,_,_,rfl,rfl,(show(0:Int)<24 by decide),?_⟩;dsimp only[yW];obtain⟨turn,y⟩:∃turn:Int,turn=(D[k]+5*(k:Nat)) % 24:=⟨_,rfl⟩;have d0:0<=turn:=by rw[y];exact md0 (by decide)
 have a9:turn<24:=by rw[y];exact md1 (by decide)
 rw[<- y];refine⟨_,rfl,_,rfl,_,_,rfl,rfl,_,rfl,G,_,rfl,.inl (SqL.of hB.lst),_,_,rfl,_,_,rfl,rfl,?_,?_⟩
 ·show(0:Int)<(if _ then _ else _);split<;> omega
 dsimp only[yW];refine zB (λe C=>∃m:Int,e= [some (.ref G),some (.ref g),some (.int (k:Nat)),some (.int l),some (.int N),some (.int turn),some (.int m),none,none,none,none,none]/\xA H C) ?jS (λa=>?_);case jS=>
  rintro e H1 ⟨m,rfl,k1⟩;refine⟨zn (by show 6<=100000;omega),λl6 b9=>⟨_,rfl,_,_,rfl,rfl,⟨by decide,by decide⟩,_,_,rfl,rfl,(show(0:Int)<6 by decide),?_⟩⟩;refine jK rfl rfl (SqL.of yB) (md0 (by decide)) (md1 (by decide)) (by simp) λt0 _=>?_;have k2:=k1.trans (yG b9 (.lst [.int 0,.int 2,.int 1,.int 5,.int 3,.int 7]));generalize upd H1 l6 (.lst [.int 0,.int 2,.int 1,.int 5,.int 3,.int 7])=H2 at k2 ⊢;have b8:=k2 _ _ L;dsimp only[yW];refine zB (λe C=>∃t:Int,e= [some (.ref G),some (.ref g),some (.int (k:Nat)),some (.int l),some (.int N),some (.int turn),some (.int m),some (.int t),none,none,none,none]/\xA H C) ?rest2 (λa=>?_);case rest2=>
   rintro e H3 ⟨t,rfl,k3⟩;have c8:=k3 _ _ L;have c3:=hB.same k3;refine bWP (bJx (λb C=>xA H C) ?_ ?_ ?_)
   ·intro Kk hK;refine⟨_,rfl,_,_,rfl,rfl,_,rfl,?_⟩;refine qB (λc=>hK _ _ k3) (λc=>?_);exact⟨_,rfl,z0,λpn b3=>⟨G,pn,_,rfl,rfl,SqL.of ((yG b3 (.lst [])) _ _ c3.lst),SqL.of yB,_,rfl,hK _ _ (k3.trans (yG b3 _))⟩⟩
   ·intro H4 O;have B:=O _ _ L;refine⟨_,rfl,_,_,rfl,rfl,(show(0:Int)<20 by decide),_,_,rfl,rfl,_,_,rfl,rfl,⟨by decide,by decide,by decide⟩,_,rfl,_,rfl,g,_,_,_,rfl,rfl,SqL.of B,yR o,_,_,rfl,rfl,(show(0:Int)<37 by decide),rfl,.inr ⟨_,rfl,_,_,rfl,rfl,.inl ⟨dk,dk⟩,_,_,rfl,rfl,?_⟩⟩;dsimp only[yW];refine zB (λe C=>∃d:Int,e= [some (.ref G),some (.ref g),some (.int (k:Nat)),some (.int l),some (.int N),some (.int turn),some (.int m),some (.int t),some (.int d),none,none,none]/\xA H C) ?rest3 (λa=>?_);case rest3=>
     rintro e H5 ⟨d,rfl,k5⟩;refine⟨zn (by show 4<=100000;omega),λl4 b7=>⟨_,rfl,_,_,rfl,rfl,(show(0:Int)<4 by decide),?_⟩⟩;refine Q9 rfl rfl (SqL.of yB) (md0 (by decide)) (md1 (by decide)) (by simp) λa7 _=>?_;have k6:=k5.trans (yG b7 (.lst [.str "ann",.str "bo",.str "ann",.str ""]));generalize upd H5 l4 (.lst [.str "ann",.str "bo",.str "ann",.str ""])=H6 at k6 ⊢;have a2:=k6 _ _ L;dsimp only[yW];refine zB (λe C=>∃ (a0:Str)(a5:Option V),e= [some (.ref G),some (.ref g),some (.int (k:Nat)),some (.int l),some (.int N),some (.int turn),some (.int m),some (.int t),some (.int d),some (.str a0),a5,none]/\xA H C) ?rest4 (λa=>?_);case rest4=>
      rintro e H7 ⟨a0,a5,rfl,k7⟩;refine⟨z2,λl2 a3=>⟨_,rfl,_,_,rfl,rfl,⟨by decide,by decide⟩,_,_,rfl,rfl,(show(0:Int)<2 by decide),?_⟩⟩;refine Q9 rfl rfl (SqL.of yB) (md0 (by decide)) (md1 (by decide)) (by simp) λa1 b2=>?_;have hw:a1="in"\/a1="out":=by simpa using b2
      refine⟨_,rfl,_,rfl,_,rfl,z4,λp hp=>?_⟩;exact q _ _ ((k7.trans (yG a3 _)).trans (yG hp _)) ⟨p,.enter a1 d a0 t,rfl,yB,hw⟩
     refine⟨_,rfl,_,rfl,g,_,_,_,rfl,rfl,SqL.of a2,yR o,_,_,rfl,rfl,(show(0:Int)<13 by decide),rfl,_,rfl,?_⟩;refine qB (λc=>?_) (λc=>a _ _ ⟨a7,none,rfl,k6⟩);have U:∀x:Int,0<=x % 40/\x % 40<=39:=λx=>⟨md0 (by decide),by have:=md1 (x:=x) (n:=40) (by decide);omega⟩;refine⟨_,rfl,g,_,_,_,rfl,rfl,SqL.of a2,yR (j:=0) b4,_,_,rfl,rfl,(show(0:Int)<40 by decide),_,_,rfl,rfl,by decide,(U _).1,by have:=(U (D[0]'(by omega))).2;omega,λza c0=>?_⟩;refine⟨_,_,rfl,rfl,by rw[bYJ];show za.length+1<=_;omega,?_⟩;refine⟨_,rfl,g,_,_,_,rfl,rfl,SqL.of a2,yR (j:=0) b4,_,_,rfl,rfl,(show(0:Int)<40 by decide),_,_,rfl,rfl,_,_,rfl,rfl,by decide,by have:=(U (D[0]'(by omega))).2;omega,by have:=(U (D[0]'(by omega))).1;omega,λzb c5=>?_⟩;have c4:(za++("y":Str)).length<=101:=by
      show(za.cps++_).size<=101;rw[Array.size_append];have:za.cps.size<=100:=c0;have:("y":Str).cps.size=1:=by decide
      omega
     refine⟨_,_,rfl,rfl,by rw[bYJ];omega,?_⟩;dsimp only[yW];refine⟨_,rfl,_,_,rfl,rfl,by decide,by decide,by decide,λzc d2=>⟨z3,λl3 M=>⟨_,rfl,_,_,rfl,rfl,(show(0:Int)<3 by decide),?_⟩⟩⟩;refine Q9 rfl rfl (SqL.of yB) (md0 (by decide)) (md1 (by decide)) (by simp) λa6 _=>?_;dsimp only[yW];exact a _ _ ⟨a6,_,rfl,k6.trans (yG M _)⟩
    refine⟨_,rfl,_,rfl,g,_,_,_,rfl,rfl,SqL.of B,yR o,_,_,rfl,rfl,(show(0:Int)<37 by decide),rfl,_,rfl,?_⟩;refine qB (λc=>?_) (λc=>a _ _ ⟨_,rfl,O⟩);refine⟨_,rfl,_,_,rfl,rfl,(show(0:Int)<2001 by decide),_,_,rfl,rfl,_,rfl,_,_,rfl,rfl,c60,_,_,rfl,rfl,p60,_,rfl,_,_,rfl,rfl,c60,_,_,rfl,rfl,p60,_,_,rfl,rfl,z3,λl3 M=>⟨_,rfl,_,_,rfl,rfl,(show(0:Int)<3 by decide),?_⟩⟩;refine jK rfl rfl (SqL.of yB) (md0 (by decide)) (md1 (by decide)) (by simp) λd1 _=>?_;dsimp only[yW];exact a _ _ ⟨d1,rfl,O.trans (yG M _)⟩
   ·intro H4 O;have B:=O _ _ L;have J:=hB.same O;dsimp only[aW8];refine⟨_,rfl,_,_,rfl,rfl,_,rfl,?_⟩;refine qB (λc=>?_) (λc=>?_)
    ·refine⟨_,rfl,_,_,rfl,rfl,(show(0:Int)<20 by decide),?_⟩;dsimp only[yW];refine zB (λe C=>∃bs:Int,e= [some (.ref G),some (.ref g),some (.int (k:Nat)),some (.int l),some (.int N),some (.int turn),some (.int m),some (.int t),none,none,none,some (.int bs)]/\xA H C) ?rest5 (λa=>?_);case rest5=>
      rintro e H5 ⟨bs,rfl,k5⟩;refine⟨_,rfl,_,rfl,_,rfl,z4,λp hp=>?_⟩;exact q _ _ (k5.trans (yG hp _)) ⟨p,.reply m bs t,rfl,yB,trivial⟩
     refine⟨_,rfl,_,rfl,G,rs,R,m,rfl,J,_,rfl,?_⟩;cases h1:Bk.z9 R m with
     |false=>exact onF rfl (a _ _ ⟨_,rfl,O⟩)
     |true=>
     obtain⟨i,r,rfl,c6,hi,hv⟩:=Bk.wF h1;obtain⟨b,g1,g2,cp,g3,g4⟩:=J.get hi;refine onT rfl ⟨_,rfl,_,rfl,G,_,_,_,rfl,rfl,SqL.of J.lst,yR g1,b,_,1,_,rfl,rfl,SqL.of g3,rfl,_,rfl,z2,λl2 a3=>?_⟩;have e2:=yG a3 (.lst [.int 7,.int 3000]);have b6:=e2 _ _ B;refine⟨_,rfl,_,rfl,g,_,_,_,rfl,rfl,SqL.of b6,yR o,_,_,rfl,rfl,(show(0:Int)<11 by decide),rfl,.inr ⟨_,rfl,?_⟩⟩;refine jK rfl rfl (SqL.of yB) b0 b1 (by simp) λj hj=>?_;have c9:j=7\/j=3000:=by simpa using hj
     refine⟨_,_,rfl,rfl,(show(0:Int)<j by omega),_,_,rfl,rfl,_,_,rfl,rfl,?_⟩;dsimp only[yW];exact a _ _ ⟨_,rfl,O.trans e2⟩
    ·have c:¬turn<12:=of_decide_eq_false (Bool.eq_false_iff.mpr c);refine⟨_,rfl,_,_,rfl,rfl,_,rfl,?_⟩;refine qB (λc2=>?_) (λc2=>?_)
     ·exact⟨_,rfl,_,rfl,_,rfl,_,rfl,G,g,rs,R,D,k,m,rfl,J,hR,B,X,λC v k5 hd=>q _ _ (O.trans k5) hd⟩
     ·have c2:¬turn<15:=of_decide_eq_false (Bool.eq_false_iff.mpr c2);exact⟨_,rfl,_,rfl,_,rfl,_,rfl,_,rfl,G,g,rs,R,D,k,m,turn,rfl,J,hR,B,S,by omega,a9,λC v k5 hd=>q _ _ (O.trans k5) hd⟩
  refine⟨_,rfl,_,rfl,g,_,_,_,rfl,rfl,SqL.of b8,yR o,_,_,rfl,rfl,(show(0:Int)<29 by decide),rfl,_,rfl,?_⟩;refine qB (λc=>?_) (λc=>a _ _ ⟨t0,rfl,k2⟩);refine⟨_,rfl,_,rfl,_,rfl,_,_,rfl,rfl,c60,_,_,rfl,rfl,p60,_,_,rfl,rfl,_,rfl,_,_,rfl,rfl,(show(0:Int)<990 by decide),z4,λl3 M=>⟨_,rfl,_,_,rfl,rfl,(show(0:Int)<4 by decide),?_⟩⟩;refine jK rfl rfl (SqL.of yB) (md0 (by decide)) (md1 (by decide)) (by simp) λt1 _=>?_;dsimp only[yW];exact a _ _ ⟨t1,rfl,k2.trans (yG M _)⟩
 refine⟨_,rfl,_,rfl,g,_,_,_,rfl,rfl,SqL.of L,yR o,_,_,rfl,rfl,(show(0:Int)<23 by decide),rfl,_,rfl,?_⟩;refine qB (λc=>?_) (λc=>a _ _ ⟨_,rfl,xA.refl _⟩);refine⟨_,rfl,_,rfl,G,_,rfl,.inl (SqL.of hB.lst),_,_,rfl,rfl,⟨by decide,by decide,by decide⟩,_,rfl,_,rfl,_,_,rfl,rfl,c60,_,_,rfl,rfl,p60,_,_,rfl,rfl,_,rfl,G,_,rfl,.inl (SqL.of hB.lst),_,rfl,_,_,rfl,rfl,c60,_,_,rfl,rfl,p60,_,_,rfl,rfl,zn (by show 5<=100000;omega),λl5 c1=>⟨_,rfl,_,_,rfl,rfl,(show(0:Int)<5 by decide),?_⟩⟩;refine jK rfl rfl (SqL.of yB) (md0 (by decide)) (md1 (by decide)) (by simp) λm1 _=>?_;dsimp only[yW];exact a _ _ ⟨m1,rfl,yG c1 _⟩
end
end Law
namespace Law
open PySem L2 PyProof.Rows
open Bk (Row Rows xU xM Ans)
open Desk (xE wX uD Wf Up Run xZ qM)
abbrev aVA:Stmt:=xC "_law_story"
def aQM:Sp:=λc H Q _=>∃ (k:Nat)(f:List Int),c= [.ref k]/\H k=some (.lst (f.map V.int))/\f.length<=40/\
 ∀ (b:Hp)(t i h:Nat)(g:List Nat)(d:List xM)(c:List V)(j:List Ans)(R:Rows)(S:List Int),xA H b->b t=some (.tup [.ref i,.ref h])->xZ b i g d->b h=some (.lst c)->bY3 (λv a=>wX [] b a v) c j->Run [] [] d j R S->(∀e∈d,Wf e)->d.length<=f.length+3->Q (.ref t) b
theorem Mid.start{H i f n:Hp}{s sa l us:Nat}(g:LGo H s sa [] [] i [])(m:List xM)(a:List Nat)(k:xA i f)(o:i l=none)(u:f l=some (.lst (a.map V.ref)))(p:xA f n)(c:f us=none)(w:n us=some (.lst []))(A:∀e∈m,Wf e)(len:a.length=m.length) (q:∀ (j:Nat)(d:Nat)(e:xM),a[j]? =some d->m[j]? =some e->f d=some (.tup (xE e))):Mid H s sa l us m a 0 n:=by
 have ne:l≠us:=λz=>by rw[<- z,u]at c;cases c
 obtain⟨R,S,t,_⟩:=g.ex;have d1:∀ {x},i x=none->x≠s/\x≠sa:=λ{x} h=>⟨λz=>(by rw[z,t.book.lst]at h;cases h),λz=>(by rw[z,t.shut]at h;cases h)⟩;refine⟨ne,A,len,λj d e v y=>p _ _ (q j d e v y),[],[],[],(g.same k).same p,⟨p _ _ u,g.keep.fresh o,(d1 o).1,(d1 o).2,by simp,λb r=>by simp at r⟩,⟨w,g.keep.fresh (k.fresh c),(d1 (k.fresh c)).1,(d1 (k.fresh c)).2,by simp,λb r=>by simp at r⟩,.nil⟩
section
variable {K:bYc}
theorem bX4:yO ["_law_cells","_law_rows","_law_shut","_law_deeds","_law_dues","_law_k","_law_deed"] ["_law_cells"] (yH aVA):=scM
theorem bQ1:xJ ["_law_cells","_law_rows","_law_shut","_law_deeds","_law_dues","_law_k","_law_deed"] (yH aVA) "_law_deed" ["_law_rows","_law_shut"] [1,2] {kind:= .function,names:= [(".0",.local),("_law_deed",.local),("_law_done_by",.globalImplicit),("_law_rows",.free),("_law_shut",.free)],isGenerator:=false,isCoroutine:=false,more:= [] }:=
 lcM
seal PE PA PS PSs PT in
theorem bXu(T:vA mg)(l:FnG P w K mg base 5 "_law_done_by" ["_law_rows","_law_shut","_law_deed"] aXg)(B:FnG P w K mg base 5 "_law_deed_at" ["_law_rows","_law_cells","_law_k"] aVK)(F:Fun K "_law_story" "_law_story" aVA f fd):xD P w K mg base CX0 6 f fd ["_law_cells"] aQM:=by
 have sc:=bX4;refine F.ok (k:=5) sc (λd1 A outer s H vs Q E hr h=>?_);obtain⟨ca,ns,rfl,hc,hn,q⟩:=h;refine⟨_,(yC (yU (i:=1) (y6 yD)) (yC (yU (i:=2) (y6 yD)) (yC (yU (i:=3) (y6 yD)) (yC (yU (i:=4) (y6 yD)) (yC (y0 (PW.pt (vJ (yM (uZ hr.units0) (pv 0) (y6 yD)) (wP (yM x8 (yV y3 (yL yI (pv 0) yE) yE) yE)))) (yC (yU (i:=3) (y6 (yA (xI (yA yQ (yA yE (yA yQ (yA yE yD))))) (yA (xI (yA yQ (yA yE (yA yE (yA yE yD))))) (yA (xI (yA yQ (yA yE (yA yE yD)))) yD))))) (yF (aZE (i:=4) bQ1 rfl sc.nd rfl rfl (xN (pv 3)) (λ_ _ _ _ _=>zT) (λ_ _ _ _ _=>(xK l hr rfl (yA (pv 1) (yA (pv 2) (yA (pv 0) yD)))))))) yS) (yC (zL bYY rfl (xW rfl T.b_range (yA (yT yN rfl T.b_len y9 (yA (pv 0) yD)) yD)) (xB (i:=5)) (yC (yU (i:=6) (xK B hr rfl (yA (pv 1) (yA (pv 0) (yA (pv 5) yD))))) (yC (yY (uC bYM bYR bYS xL (pv 3) (yA (pv 6) yD))) (yF (yY (uC bYM bYR bYS xL (pv 4) (yA (xK l hr rfl (yA (pv 1) (yA (pv 2) (yA (pv 6) yD)))) yD))))))) (yF (yP (xI (yA (pv 3) (yA (pv 4) yD))))))))))),?_⟩;refine⟨z0,λU c3=>?_⟩;dsimp only[yW];refine⟨z0,λW b6=>?_⟩;dsimp only[yW];have g0:=LGo.start c3 b6;generalize upd (upd H U (.lst [])) W (.lst [])=H2 at g0 ⊢;refine⟨z0,λC b0=>?_⟩;dsimp only[yW];refine⟨z0,λG b3=>?_⟩;dsimp only[yW];have k3:=yG b0 (.lst []);have k4:=yG b3 (.lst []);have M0:Mid H U W C G [] [] 0 (upd (upd H2 C (.lst [])) G (.lst [])):=Mid.start g0 [] [] k3 b0 yB k4 b3 yB (λe h=>by simp at h) rfl (λj d e h=>by simp at h);have gk:=g0.same (k3.trans k4);generalize upd (upd H2 C (.lst [])) G (.lst [])=H4 at M0 gk k4 ⊢;have b1:=M0.keep _ _ hc;refine zB (λσ' Y=>∃ (C G:Nat)(x:List xM)(b:List Nat),σ'= [some (.ref ca),some (.ref U),some (.ref W),some (.ref C),some (.ref G),none,none]/\Mid H U W C G x b x.length Y/\x.length<=3) ?jS (λa6=>?_);case jS=>
  rintro σ' H5 ⟨C,G,x,b,rfl,M5,h3⟩;refine⟨_,rfl,ca,_,rfl,.inl (SqL.of (M5.keep _ _ hc)),?_⟩;rw[bYe];refine⟨_,rfl,by omega,by omega,?_⟩;rw[bYH];refine zK (λt σ H6=>∃ (x:List xM)(b:List Nat)(o5 o6:Option V),σ= [some (.ref ca),some (.ref U),some (.ref W),some (.ref C),some (.ref G),o5,o6]/\Mid H U W C G x b x.length H6/\x.length<=3+t) ?_ ?_ ?_
  ·exact⟨x,b,none,none,rfl,M5,by omega⟩
  ·rintro k σ H6 hk ⟨x,b,o5,o6,rfl,X,c5⟩;rw[cXf];dsimp only[yW];obtain⟨rs,as,vs,g6,s6,u6,p6⟩:=X.ex;obtain⟨R,S,hL,hu,c2,N⟩:=g6.ex;have c4:=hu.r;rw[cQb]at c4;refine⟨_,rfl,_,rfl,_,rfl,U,ca,rs,R,ns,k,rfl,hL.book,by omega,X.keep _ _ hc,hk,λH7 v k7 c6=>?_⟩;obtain⟨p,e,rfl,hp,hw⟩:=c6;dsimp only[yW];have M7:=X.same k7;have b4:=k7 _ _ s6.at_;refine⟨_,rfl,.inl ⟨rfl,_,SqL.of b4⟩,_,rfl,C,_,_,rfl,rfl,b4,zlt (by rw[bYe,X.len];omega),?_⟩;have el:b.map V.ref++ [V.ref p]=(b++ [p]).map V.ref:=by simp
   rw[el];have M8:=M7.push rfl hp hw;generalize upd H7 C (.lst ((b++ [p]).map V.ref))=H8 at M8 ⊢;obtain⟨d0,d2,d3,g8,s8,u8,p8⟩:=M8.ex;have Z:(b++ [p])[x.length]? =some p:=by rw[<- X.len,bYv (bYh _),cQt];rfl
   have h2:(x++ [e])[x.length]? =some e:=by rw[bYv (bYh _),cQt];rfl
   refine⟨_,rfl,.inl ⟨rfl,_,SqL.of u8.at_⟩,_,rfl,_,rfl,_,rfl,M8.next (by omega) Z h2 λv H9 ws _ a8 c0 M9=>⟨G,_,_,rfl,rfl,a8,zlt (by omega),x++ [e],b++ [p],_,_,rfl,?_,by rw[bYy];simp;omega⟩⟩;rw[bYy];exact M9
  ·rintro σ H6 ⟨x,b,o5,o6,rfl,X,c5⟩;refine⟨_,rfl,_,rfl,z2,λt ht=>?_⟩;have k6:=yG ht (.tup [.ref C,.ref G]);have M7:=X.same k6;obtain⟨rs,as,vs,g7,s7,u7,p7⟩:=M7.ex;obtain⟨R,S,hL,hu,c2,N⟩:=g7.ex;rw[cQb]at N;exact q _ t C G b x vs as R S M7.keep yB ⟨s7.at_,M7.len,M7.at_⟩ u7.at_ (qM (λv a z=>qD z λp u n e=>⟨by simp,e⟩) p7) N M7.wf (by omega)
 refine⟨_,rfl,z0,λpn b5=>⟨ca,pn,_,rfl,rfl,SqL.of ((yG b5 (.lst [])) _ _ b1),SqL.of yB,_,rfl,?_⟩⟩;have k5:=yG b5 (.lst []);generalize upd H4 pn (.lst [])=H5 at k5 ⊢;have a5:∀Y,xA H4 Y->_:=λY k=>a6 [some (.ref ca),some (.ref U),some (.ref W),some (.ref C),some (.ref G),none,none] Y ⟨C,G,[],[],rfl,M0.same k,by simp⟩;by_cases a0:ns= []
 ·subst a0;exact onF rfl (onF rfl (a5 _ k5))
 have c7:(ns.map V.int)[0]? =some (.int (ns[0]'(cQr.mpr a0))):=by rw[bYu,bK9 (cQr.mpr a0)];rfl
 refine onT (by cases ns with|nil=>exact absurd rfl a0|cons=>rfl) ⟨_,rfl,ca,_,_,_,rfl,rfl,SqL.of (k5 _ _ b1),yR (j:=0) c7,_,_,rfl,rfl,(show(0:Int)<5 by decide),rfl,_,rfl,?_⟩;refine qB (λc=>?_) (λc=>a5 _ k5);refine⟨z4,λI c9=>⟨z4,λJ c1=>⟨z3,λL b9=>⟨z3,λdl b2=>?_⟩⟩⟩⟩;have a1:=yG c9 (.tup (xE (.enter "in" 4 "ann" 2)));have a2:=yG c1 (.tup (xE (.reply 0 4 1)));have a3:=yG b9 (.tup (xE (.hang 0 1)));have a4:=yG b2 (.lst ([I,J,L].map V.ref));have g5:=((gk.same k5).same a1).same (a2.trans a3);have e1:=a4 _ _ (a3 _ _ (a2 _ _ (yB (H:=H5) (a:=I) (o:= .tup (xE (.enter "in" 4 "ann" 2))))));have e2:=a4 _ _ (a3 _ _ (yB (H:=upd H5 I (.tup (xE (.enter "in" 4 "ann" 2)))) (a:=J) (o:= .tup (xE (.reply 0 4 1)))));have e3:=a4 _ _ (yB (H:=upd (upd H5 I (.tup (xE (.enter "in" 4 "ann" 2)))) J (.tup (xE (.reply 0 4 1)))) (a:=L) (o:= .tup (xE (.hang 0 1))));have e4:=yB (H:=upd (upd (upd H5 I (.tup (xE (.enter "in" 4 "ann" 2)))) J (.tup (xE (.reply 0 4 1)))) L (.tup (xE (.hang 0 1)))) (a:=dl) (o:= .lst ([I,J,L].map V.ref));have b7:∀D,upd (upd (upd (upd H5 I (.tup (xE (.enter "in" 4 "ann" 2)))) J (.tup (xE (.reply 0 4 1)))) L (.tup (xE (.hang 0 1)))) dl (.lst ([I,J,L].map V.ref)) D=none->Mid H U W dl D [.enter "in" 4 "ann" 2,.reply 0 4 1,.hang 0 1] [I,J,L] 0 (upd (upd (upd (upd (upd H5 I (.tup (xE (.enter "in" 4 "ann" 2)))) J (.tup (xE (.reply 0 4 1)))) L (.tup (xE (.hang 0 1)))) dl (.lst ([I,J,L].map V.ref))) D (.lst [])):=λD hD=>by
  refine Mid.start g5 _ _ a4 b2 e4 (yG hD (.lst [])) hD yB (λe he=>?_) rfl (λj d e Z h2=>?_)
  ·simp only[bYj,List.mem_nil_iff,or_false]at he;rcases he with rfl|rfl|rfl
   ·exact .inl rfl
   ·trivial
   ·trivial
  ·match j,Z,h2 with
   |0,Z,h2=>cases Z;cases h2;exact e1
   |1,Z,h2=>cases Z;cases h2;exact e2
   |2,Z,h2=>cases Z;cases h2;exact e3
 dsimp only[yW];refine⟨_,rfl,dl,rfl,⟨_,SqL.of e4⟩,λD hD=>?_⟩;have X:=b7 D hD;refine⟨λi m ys Y=>m=3 - i/\i<=3/\Y D=some (.lst ys)/\Mid H U W dl D [.enter "in" 4 "ann" 2,.reply 0 4 1,.hang 0 1] [I,J,L] i Y,⟨3,rfl,by omega,yB,X⟩,?_⟩;rintro i m ys Y ⟨rfl,hi,a9,M⟩;refine⟨a9,?_⟩;obtain⟨rs,as,vs,g,s1,s2,p⟩:=M.ex;by_cases O:i<3
 ·have a7:([I,J,L]:List Nat)[i]? =some ([I,J,L][i]'(by simpa using O)):=bK9 (by simpa using O);have c8:([.enter "in" 4 "ann" 2,.reply 0 4 1,.hang 0 1]:List xM)[i]? =some (([.enter "in" 4 "ann" 2,.reply 0 4 1,.hang 0 1]:List xM)[i]'(by simpa using O)):=bK9 (by simpa using O);refine .inr ⟨⟨_,_,SqL.of s1.at_,by rw[bYu,a7];rfl⟩,λv H7 yl=>?_⟩;obtain⟨rfl,y⟩:=yl;have hv:=y _ (SqL.of s1.at_);rw[bYu,a7]at hv;cases hv;refine⟨_,rfl,_,rfl,_,rfl,?_⟩;refine M.next (by omega) a7 c8 λv H8 ws b8 a8 c0 M8=>?_;have ey:ys=ws:=by rw[b8]at a9;cases a9;rfl
  subst ey;exact⟨by rw[bYJ];omega,a8,3 - (i+1),by omega,rfl,O,yB,M8⟩
 ·have:i=3:=by omega
  subst this;refine .inl ⟨⟨_,SqL.of s1.at_,by simp⟩,?_⟩;exact a6 _ _ ⟨dl,D,_,_,rfl,M,by simp⟩
end
end Law
namespace Alike
open PySem L2 PyProof.Rows
open Law (xC)
abbrev bVl:Stmt:=xC "_law_room"
abbrev aYP:Stmt:=xC "_law_whole"
theorem y9:bYT "len"=some (.builtin "len"):=dk
theorem y7:bYT "isinstance"=some (.builtin "isinstance"):=dk
theorem uE:bYT "int"=some (.type "int"):=dk
theorem aQ6:bYT "str"=some (.type "str"):=dk
theorem aZ7:bYT "bool"=some (.type "bool"):=dk
theorem wY:bYT "list"=some (.type "list"):=dk
theorem uS:bYT "tuple"=some (.type "tuple"):=dk
structure vA(mg:Str->Option bYa):Prop where
 b_len:mg "len"=none
 b_sorted:mg "sorted"=none
 b_isinstance:mg "isinstance"=none
 b_int:mg "int"=none
 b_str:mg "str"=none
 b_bool:mg "bool"=none
 b_list:mg "list"=none
 b_tuple:mg "tuple"=none
 b_range:mg "range"=none
def bQo:Sp:=λa H Q _=>∃n,a= [.int n]/\Q (.bl true) H
def bZ2(K:bYc):Sp:=λc H Q _=>∃ (a:Nat)(b:List Int)(x y:Int),c= [.ref a,.int x,.int y]/\SqL K H a (b.map V.int)/\b.length<=63/\Q (.int x) H
section
variable {K:bYc}
theorem bX8:yO ["_law_found"] ["_law_found"] (yH aYP):=scM
theorem bXy(T:vA mg)(F:Fun K "_law_whole" "_law_whole" aYP f fd):xD P w K mg base CX0 1 f fd ["_law_found"] bQo:=by
 have b:=bX8;refine F.ok (k:=0) b (λa A outer s H c Q E d h=>?_);obtain⟨n,rfl,q⟩:=h;refine⟨_,(yF (yP (aVt (yT zP rfl T.b_isinstance y7 (yA (pv 0) (yA (zD (v:= .ty "int") rfl T.b_int uE rfl) yD))) (aZB (bZR (yT zP rfl T.b_isinstance y7 (yA (pv 0) (yA (zD (v:= .ty "bool") rfl T.b_bool aZ7 rfl) yD)))))))),?_⟩;refine⟨_,rfl,_,"int",_,_,rfl,.int n,aQ9 _,_,rfl,onT rfl ?_⟩;exact⟨_,rfl,_,"bool",_,_,rfl,.int n,jP _,_,rfl,q⟩
theorem bVA:yO ["_law_script","_law_most","_law_bound"] ["_law_script","_law_most","_law_bound"] (yH bVl):=scM
theorem bJU(T:vA mg)(F:Fun K "_law_room" "_law_room" bVl f fd):xD P w K mg base CX0 1 f fd ["_law_script","_law_most","_law_bound"] (bZ2 K):=by
 have b:=bVA;refine F.ok (k:=0) b (λe A outer s H g Q E j h=>?_);obtain⟨a,i,x,y,rfl,d,c,q⟩:=h;refine⟨_,(yC (y0 (yM aQl (yT yN rfl T.b_len y9 (yA (pv 0) yD)) yE) (yF (yP (pv 2))) yS) (yF (yP (pv 1)))),?_⟩;refine⟨_,rfl,a,_,rfl,.inl d,_,_,rfl,rfl,_,rfl,onF ?_ ⟨_,rfl,q⟩⟩;rw[bYe];exact decide_eq_false (by omega)
end
def Sq(K:bYc)(H:Hp)(a:Nat)(xs:List V):Prop:=H a=some (.lst xs)\/H a=some (.tup xs)
theorem Sq.same{K:bYc}{H b:Hp}{a:Nat}{xs:List V}(k:xA H b)(h:Sq K H a xs):Sq K b a xs:=h.imp (k _ _) (k _ _)
theorem Sq.ix{K:bYc}{H:Hp}{a:Nat}{xs:List V}{i:Nat}{v:V}{Q:VK}(h:Sq K H a xs)(e:xs[i]? =some v)(q:Q v H):rIx K (.ref a) (.int (i:Int)) H Q:=by
 rcases h with h|h
 ·exact .inl ⟨a,xs,_,v,rfl,rfl,SqL.of h,yR e,q⟩
 ·exact .inr (.inl ⟨a,xs,_,v,rfl,rfl,SqT.of h,yR e,q⟩)
def zW:List (Nat×Dt)->Nat
 |[]=>0
 |q::r=>q.2.size+zW r
theorem xX:∀a b:List (Nat×Dt),zW (a++b)=zW a+zW b
 |[],b=>by simp[zW]
 |q::r,b=>by rw[cZJ];show q.2.size+zW (r++b)=q.2.size+zW r+zW b;rw[xX r b];omega
theorem jX:∀ {b:List (Nat×Dt)} {a:List Dt},b.map (·.2)=a->zW b=wQ a
 |[],[],_=>by simp[zW,wQ]
 |q::r,d::a,h=>by rw[bY0]at h;cases h;show q.2.size+zW r=q.2.size+wQ (r.map (·.2));rw[jX rfl]
 |[],_::_,h=>by cases h
 |_::_,[],h=>by cases h
theorem aQQ:∀qs:List (Nat×Dt),qs.length<=zW qs
 |[]=>bYh _
 |q::r=>by
  have:=aQQ r;have a:1<=q.2.size:=by cases q.2<;> simp[Dt.size]
  show r.length+1<=q.2.size+zW r;omega
theorem aQg:∀ds:List Dt,ds.length<=wQ ds
 |[]=>bYh _
 |d::r=>by
  have:=aQg r;have a:1<=d.size:=by cases d<;> simp[Dt.size]
  show r.length+1<=d.size+wQ r;omega
theorem aJ3{α:Type}:∀ {l:List α},l≠ []->∃b a,l=b++ [a]
 |[],h=>absurd rfl h
 |[x],_=>⟨[],x,rfl⟩
 |x::y::r,_=>by obtain⟨i,l,e⟩:=aJ3 (l:=y::r) (by simp);exact⟨x::i,l,by rw[e];rfl⟩
theorem w8{a H:Hp}{c:Nat}{o:HO}(k:xA a H)(h:a c=none):xA a (upd H c o):=λb u q=>by rw[yJ (yK q h)];exact k b u q
theorem aXV{H:Hp}{p:Nat}{o:HO}(h:H p=none):∀a b,H a=some (.tup b)->upd H p o a=some (.tup b):=λa b e=>by rw[yJ (yK e h)];exact e
theorem jZ{H:Hp}{p:Nat}{c:List V}{o:HO}(h:H p=some (.lst c)):∀a b,H a=some (.tup b)->upd H p o a=some (.tup b):=λa b e=>by rw[yJ (aQY e h (by intro z;cases z))];exact e
end Alike
namespace Alike
open PySem L2 PyProof.Rows
open Bk (Row Rows xU xM Ans)
open Desk (xE wX stV xQ)
def vDt:V->Dt
 |.int n=> .int n
 |.str x=> .str x
 |_=> .non
def aKh(v:V):Prop:=v= .non\/(∃n,v= .int n)\/∃x,v= .str x
theorem aKh.is{H:Hp}{v:V}(h:aKh v):Is H v (vDt v):=by
 rcases h with rfl|⟨n,rfl⟩|⟨x,rfl⟩
 ·show Is H .non .non;unfold Is;rfl
 ·show Is H (.int n) (.int n);unfold Is;rfl
 ·show Is H (.str x) (.str x);unfold Is;rfl
theorem vV{H:Hp}:∀ {xs:List V},(∀v∈xs,aKh v)->wG H xs (xs.map vDt)
 |[],_=>by show wG H [] [];unfold wG;trivial
 |x::xs,h=>by show wG H (x::xs) (vDt x::xs.map vDt);unfold wG;exact⟨(h x bYp).is,vV λv a=>h v (bYm _ a)⟩
theorem uJ{H:Hp}{α:Type}{F:V->α->Prop}{g:α->Dt}(b:∀v a,F v a->Is H v (g a)):∀ {vs:List V} {c:List α},bY3 F vs c->wG H vs (c.map g)
 |_,_,.nil=>by show wG H [] [];unfold wG;trivial
 |_,_,.cons r t=>by rw[bY0];unfold wG;exact⟨b _ _ r,uJ b t⟩
theorem aVR(r:Row):∀v∈stV r,aKh v:=by
 intro v a;unfold stV at a;simp only[bYj,List.mem_nil_iff,or_false]at a;rcases a with rfl|rfl|rfl|rfl|rfl|rfl
 ·exact .inr (.inr ⟨_,rfl⟩)
 ·exact .inr (.inl ⟨_,rfl⟩)
 ·exact .inr (.inr ⟨_,rfl⟩)
 ·exact .inr (.inl ⟨_,rfl⟩)
 ·cases r.link with
  |none=>exact .inl rfl
  |some j=>exact .inr (.inl ⟨_,rfl⟩)
 ·unfold Desk.qZ;split
  ·exact .inl rfl
  ·exact .inr (.inr ⟨_,rfl⟩)
def aKj:Ans->Dt
 |.num n=> .int n
 |.txt x=> .str x
 |.nums l=> .lst (l.map λi=> .int (i:Nat))
 |.txts l=> .lst (l.map .str)
 |.row r=> .tup ((stV r).map vDt)
def aQN(r:Row):Dt:=if r.void then .str "void" else .tup ((stV r).map vDt)
theorem bZH{H:Hp}{p:Nat}{xs:List V}(h:H p=some (.tup xs))(k:∀v∈xs,aKh v):Is H (.ref p) (.tup (xs.map vDt)):=by
 unfold Is;exact⟨p,xs,rfl,h,vV k⟩
theorem bZF{o:List Nat}{H:Hp}{a:Ans}{v:V}(h:wX o H a v):Is H v (aKj a):=by
 cases a with
 |num n=>show Is H v (.int n);unfold Is;exact h
 |txt x=>show Is H v (.str x);unfold Is;exact h
 |nums l=>
  obtain⟨p,e,_,q⟩:=h;show Is H v (.lst (l.map λi=> .int (i:Nat)));unfold Is;refine⟨p,_,e,q,?_⟩;have:=vV (H:=H) (xs:=l.map λi=>V.int (i:Nat)) λv b=>by obtain⟨i,_,rfl⟩:=cQa.mp b;exact .inr (.inl ⟨_,rfl⟩)
  rw[cXy]at this;exact this
 |txts l=>
  obtain⟨p,e,_,q⟩:=h;show Is H v (.lst (l.map .str));unfold Is;refine⟨p,_,e,q,?_⟩;have:=vV (H:=H) (xs:=l.map V.str) λv b=>by obtain⟨i,_,rfl⟩:=cQa.mp b;exact .inr (.inr ⟨_,rfl⟩)
  rw[cXy]at this;exact this
 |row r=>obtain⟨p,e,_,q⟩:=h;subst e;exact bZH q (aVR r)
theorem aVh{H:Hp}{r:Row}{v:V}(h:xQ H r v):Is H v (aQN r):=by
 unfold xQ at h;unfold aQN;split
 ·rename_i e;rw[if_pos e]at h;unfold Is;exact h
 ·rename_i e;rw[if_neg e]at h;obtain⟨p,e,q⟩:=h;subst e;exact bZH q (aVR r)
end Alike
namespace Alike
open PySem L2 PyProof.Rows
open Bk (Row Rows xU xM Ans)
open Desk (xE wX stV xQ Up Run)
theorem W8:∀ (n:Nat)(l:List Nat),l.Nodup->(∀k∈l,k<n)->l.length<=n
 |0,l,_,h=>by
  cases l with
  |nil=>exact bYh _
  |cons a r=>exact absurd (h a bYp) (cQX _)
 |n+1,l,nd,h=>by
  by_cases c:n∈l
  ·have:=W8 n (l.erase n) (nd.erase n) λk b=>by
    have d:=(cJu nd).mp b;have f:=h k d.2;have e:=d.1;omega
   rw[cJv c]at this;omega
  ·have:=W8 n l nd λk b=>by
    have f:=h k b;have e:k≠n:=λz=>c (by rw[<- z];exact b);omega
   omega
theorem X5{α:Type}{g:α->Dt}(h:∀a,(g a).size=1):∀l:List α,wQ (l.map g)=l.length
 |[]=>by simp[wQ]
 |a::l=>by rw[bY0];show(g a).size+wQ (l.map g)=l.length+1;rw[h a,X5 h l];omega
theorem aVC{α:Type}{g:α->Dt}{c:Nat}:∀ (l:List α),(∀a∈l,(g a).size<=c)->wQ (l.map g)<=l.length*c
 |[],_=>by simp[wQ]
 |a::l,h=>by rw[bY0,bY8,Nat.succ_mul];show(g a).size+wQ (l.map g)<=_;have f:=h a bYp;have e:=aVC l λb d=>h b (bYm _ d);omega
theorem bW2(v:V):(vDt v).size=1:=by cases v<;> simp[vDt,Dt.size]
theorem aW6(r:Row):(aQN r).size<=7:=by
 unfold aQN;split
 ·simp[Dt.size]
 ·have h:Dt.size (.tup ((stV r).map vDt))=1+wQ ((stV r).map vDt):=by simp[Dt.size]
  rw[h,X5 bW2];simp[stV]
theorem bVQ{R:Rows}(t:Bk.uQ R){k:Nat}:(Bk.thr R k).length<=R.length:=by
 obtain⟨d,o,b,a⟩:=Bk.Z7 t k;refine W8 _ _ (b.imp λ{x y} h z=>?_) λj c=>((a j).mp c).1;rw[z,Stree.vI]at h;cases h
theorem aK1(l:List Nat):(aKj (.nums l)).size=1+l.length:=by
 have h:(aKj (.nums l)).size=1+wQ (l.map λi=>Dt.int (i:Nat)):=by unfold aKj;simp[Dt.size]
 rw[h,X5 (λi=>by simp[Dt.size])]
end Alike
namespace Alike
open PySem L2 PyProof.Rows
open Law (xC)
abbrev aQy:Stmt:=xC "_law_unturned"
def aZ1(a H:Hp)(q:Nat×Dt):Prop:=∃x y,H q.1=some (.tup [x,y])/\Is a x q.2/\Is a y q.2
theorem aZ1.keep{d H c:Hp}{q:Nat×Dt}(p:aZ1 d H q)(k:∀a b,H a=some (.tup b)->c a=some (.tup b)):aZ1 d c q:=let ⟨x,y,h,r⟩:=p;⟨x,y,k _ _ h,r⟩
def WUU(c:Hp)(v u:V)(b:Nat)(m:Nat)(σ:L2.St)(H:Hp):Prop:=∃a l r k,σ= [some v,some u,some (.ref b),l,r,k]/\xA c H/\H b=some (.lst (a.map λq=> .ref q.1))/\(∀q∈a,aZ1 c H q)/\m=zW a/\zW a<=1000
def aXh:Sp:=λb H Q _=>∃v u d,b= [v,u]/\Is H v d/\Is H u d/\d.size<=1000/\∀a,xA H a->Q (.bl true) a
section
variable {K:bYc}
theorem aJ1:yO ["_law_found","_law_due","_law_todo","_law_left","_law_right","_law_k"] ["_law_found","_law_due"] (yH aQy):=scM
seal PE PA PS PSs PT in
theorem aJz(T:vA mg)(F:Fun K "_law_unturned" "_law_unturned" aQy f fd):xD P w K mg base CX0 1 f fd ["_law_found","_law_due"] aXh:=by
 have sc:=aJ1;refine F.ok (k:=0) sc (λc7 A outer s H0 vs Q E hr h=>?_);obtain⟨v,u,d,rfl,hv,hu,hd,q⟩:=h;refine⟨_,(yC (yU (i:=2) (y6 (yA (xI (yA (pv 0) (yA (pv 1) yD))) yD))) (yC (u4 bYY (yM (uZ hr.units0) (pv 2) (y6 yD)) (yC (v8 (bZP bYM PySem.F.slot_list_pop PySem.F.type_list_pop bZN (pv 2)) (aYp rfl (zS (xB (i:=3)) (zS (xB (i:=4)) aJB)))) (yF (y0 (xP (yT Q3 rfl T.b_isinstance y7 (yA (pv 4) (yA (xI (yA (zD (v:= .ty "list") rfl T.b_list wY rfl) (yA (zD (v:= .ty "tuple") rfl T.b_tuple uS rfl) yD))) yD)))) (yC (y0 (yM Y5 (yT zP rfl T.b_isinstance y7 (yA (pv 3) (yA (zD (v:= .ty "list") rfl T.b_list wY rfl) yD))) (yT zP rfl T.b_isinstance y7 (yA (pv 4) (yA (zD (v:= .ty "list") rfl T.b_list wY rfl) yD)))) (yF (yP wO)) yS) (yC (y0 (PW.pt (vD (wA (xP (yT Q3 rfl T.b_isinstance y7 (yA (pv 3) (yA (xI (yA (zD (v:= .ty "list") rfl T.b_list wY rfl) (yA (zD (v:= .ty "tuple") rfl T.b_tuple uS rfl) yD))) yD))))) (wM (yM Y5 (yT yN rfl T.b_len y9 (yA (pv 3) yD)) (yT yN rfl T.b_len y9 (yA (pv 4) yD)))))) (yF (yP wO)) yS) (yF (zL bYY rfl (xW rfl T.b_range (yA (yT yN rfl T.b_len y9 (yA (pv 4) yD)) yD)) (xB (i:=5)) (yF (yY (uC bYM bYR bYS xL (pv 2) (yA (xI (yA (yL bZI (pv 3) (pv 5)) (yA (yL bZI (pv 4) (pv 5)) yD))) yD)))))))) (yF (y0 (PW.pt (vD (yM aQm (pv 3) xY) (wM (yM aQm (pv 4) xY)))) (yF (y0 (PW.pt (vD (yM wC (pv 3) xY) (wM (yM wC (pv 4) xY)))) (yF (yP wO)) yS)) (yF (y0 (yM Y5 (yT zP rfl T.b_isinstance y7 (yA (pv 3) (yA (zD (v:= .ty "bool") rfl T.b_bool aZ7 rfl) yD))) (yT zP rfl T.b_isinstance y7 (yA (pv 4) (yA (zD (v:= .ty "bool") rfl T.b_bool aZ7 rfl) yD)))) (yF (yP wO)) (yF (y0 (yM Y5 (yT zP rfl T.b_isinstance y7 (yA (pv 3) (yA (zD (v:= .ty "str") rfl T.b_str aQ6 rfl) yD))) (yT zP rfl T.b_isinstance y7 (yA (pv 4) (yA (zD (v:= .ty "str") rfl T.b_str aQ6 rfl) yD)))) (yF (yP wO)) (yF (y0 (PW.pt (vD (wA (xP (yT Q3 rfl T.b_isinstance y7 (yA (pv 3) (yA (xI (yA (zD (v:= .ty "str") rfl T.b_str aQ6 rfl) (yA (zD (v:= .ty "int") rfl T.b_int uE rfl) yD))) yD))))) (wM (yM Y5 (pv 3) (pv 4))))) (yF (yP wO)) yS)))))))))))) (yF (yP wO)))),?_⟩;refine⟨_,rfl,_,rfl,z2,λp0 b5=>⟨z1,λt b4=>?_⟩⟩;have a6:H0 t=none:=(yG b5 _).fresh b4;refine⟨WUU H0 v u t,⟨d.size,[(p0,d)],none,none,none,rfl,w8 (yG b5 _) a6,yB,?_,by simp[zW],by simpa[zW]using hd⟩,?_⟩
 ·intro q j;rw[bYr.mp j];exact⟨v,u,aXV b4 _ _ yB,hv,hu⟩
 rintro m σ H ⟨qs,l,r,k,rfl,hk,hT,hP,rfl,a9⟩;refine⟨_,rfl,z0,λpn a8=>?_⟩;have c0:pn≠t:=bYU (yK hT a8);have a4:upd H pn (.lst []) t=some (.lst (qs.map λq=> .ref q.1)):=by rw[yJ (bYU c0)];exact hT
 refine⟨t,pn,_,rfl,rfl,SqL.of a4,SqL.of yB,_,rfl,?_⟩;by_cases b7:qs= []
 ·subst b7;rw[if_neg (by decide)];exact q _ (hk.trans (yG a8 _))
 obtain⟨c,⟨lp,d⟩,rfl⟩:=aJ3 b7;rw[if_pos (by simp)];refine⟨λC D=>∃m',m'<zW (c++ [(lp,d)])/\WUU H0 v u t m' C D,λC D z=>z,?_⟩;obtain⟨x,y,c3,S,O⟩:=hP (lp,d) (by simp);have b1:((c++ [(lp,d)]).map λq=>V.ref q.1)[((c++ [(lp,d)]).map λq=>V.ref q.1).length - 1]? =some (.ref lp):=by simp
 have b3:((c++ [(lp,d)]).map λq=>V.ref q.1).dropLast=c.map λq=>V.ref q.1:=by simp
 have b6:∀a R,H a=some (.tup R)->upd (upd H pn (.lst [])) t (.lst (c.map λq=>V.ref q.1)) a=some (.tup R):=λa R e=>jZ a4 _ _ (aXV a8 _ _ e);refine⟨_,rfl,.inl ⟨rfl,_,SqL.of a4⟩,t,_,.ref lp,rfl,rfl,a4,b1,?_⟩;rw[b3];have J:xA H0 (upd (upd H pn (.lst [])) t (.lst (c.map λq=>V.ref q.1))):=w8 (hk.trans (yG a8 _)) a6;have a5:upd (upd H pn (.lst [])) t (.lst (c.map λq=>V.ref q.1)) t=some (.lst (c.map λq=> .ref q.1)):=yB;have a7:∀q∈c,aZ1 H0 (upd (upd H pn (.lst [])) t (.lst (c.map λq=>V.ref q.1))) q:=λq j=>(hP q (by simp[j])).keep b6;have b0:=b6 _ _ c3;generalize c6:upd (upd H pn (.lst [])) t (.lst (c.map λq=>V.ref q.1))=H2 at J a5 a7 b0 ⊢;refine⟨lp,[x,y],rfl,SqT.of b0,rfl,x,[y],rfl,y,[],rfl,rfl,?_⟩;have c9:1<=d.size:=by cases d<;> simp[Dt.size]
 have c8:zW c+d.size<=1000:=by rw[xX]at a9;simpa[zW]using a9
 have hm:zW c<zW (c++ [(lp,d)]):=by rw[xX];simp[zW];omega
 have fin:∀H3,(∀b o,H2 b=some o->H3 b=some o)->∃m',m'<zW (c++ [(lp,d)])/\WUU H0 v u t m' [some v,some u,some (.ref t),some x,some y,k] H3:=λH3 k3=>
  ⟨zW c,hm,c,some x,some y,k,rfl,J.trans k3,k3 _ _ a5,λq j=>(a7 q j).keep λa R e=>k3 _ _ e,rfl,by omega⟩
 refine⟨_,rfl,z2,λp1 c5=>?_⟩;have N:xA H2 (upd H2 p1 (.tup [.ty "list",.ty "tuple"])):=yG c5 _;cases d with
 |non=>
  have ex:x= .non:=by unfold Is at S;exact S
  have X:y= .non:=by unfold Is at O;exact O
  subst ex;subst X;refine⟨_,p1,"list","tuple",_,_,_,rfl,SqT.of yB,.non,W1 _,Y2 _,_,rfl,onF rfl ?_⟩;refine⟨_,rfl,rfl,_,rfl,onT rfl (onT rfl ?_)⟩;refine⟨_,rfl,rfl,_,rfl,onF rfl ?_⟩;refine⟨_,rfl,rfl,_,rfl,onF rfl ?_⟩;exact fin _ N
 |bl b=>
  have ex:x= .bl b:=by unfold Is at S;exact S
  have X:y= .bl b:=by unfold Is at O;exact O
  subst ex;subst X;refine⟨_,p1,"list","tuple",_,_,_,rfl,SqT.of yB,.bl b,aZm _,aXt _,_,rfl,onF rfl ?_⟩;refine⟨_,rfl,rfl,_,rfl,onF rfl ?_⟩;refine⟨_,rfl,rfl,_,rfl,onF rfl ?_⟩;refine⟨_,rfl,_,"bool",_,_,rfl,.bl b,Z0 _,_,rfl,_,"bool",_,_,rfl,.bl b,Z0 _,rfl,_,rfl,onF rfl ?_⟩;refine⟨_,rfl,_,"str",_,_,rfl,.bl b,jO _,_,rfl,_,"str",_,_,rfl,.bl b,jO _,rfl,_,rfl,onF rfl ?_⟩;refine⟨_,rfl,z2,λU G=>?_⟩;refine⟨_,U,"str","int",_,_,_,rfl,SqT.of yB,.bl b,jO _,aJi _,_,rfl,onF rfl ?_⟩;refine⟨_,rfl,_,rfl,rfl,_,rfl,onF (by simp) ?_⟩;exact fin _ (N.trans (yG G _))
 |int n=>
  have ex:x= .int n:=by unfold Is at S;exact S
  have X:y= .int n:=by unfold Is at O;exact O
  subst ex;subst X;refine⟨_,p1,"list","tuple",_,_,_,rfl,SqT.of yB,.int n,aJj _,aZn _,_,rfl,onF rfl ?_⟩;refine⟨_,rfl,rfl,_,rfl,onF rfl ?_⟩;refine⟨_,rfl,rfl,_,rfl,onF rfl ?_⟩;refine⟨_,rfl,_,"bool",_,_,rfl,.int n,jP _,_,rfl,_,"bool",_,_,rfl,.int n,jP _,rfl,_,rfl,onF rfl ?_⟩;refine⟨_,rfl,_,"str",_,_,rfl,.int n,uV _,_,rfl,_,"str",_,_,rfl,.int n,uV _,rfl,_,rfl,onF rfl ?_⟩;refine⟨_,rfl,z2,λU G=>?_⟩;refine⟨_,U,"str","int",_,_,_,rfl,SqT.of yB,.int n,uV _,aQ9 _,_,rfl,onF rfl ?_⟩;refine⟨_,rfl,_,rfl,rfl,_,rfl,onF (by simp) ?_⟩;exact fin _ (N.trans (yG G _))
 |str z=>
  have ex:x= .str z:=by unfold Is at S;exact S
  have X:y= .str z:=by unfold Is at O;exact O
  subst ex;subst X;refine⟨_,p1,"list","tuple",_,_,_,rfl,SqT.of yB,.str z,aJk _,aZo _,_,rfl,onF rfl ?_⟩;refine⟨_,rfl,rfl,_,rfl,onF rfl ?_⟩;refine⟨_,rfl,rfl,_,rfl,onF rfl ?_⟩;refine⟨_,rfl,_,"bool",_,_,rfl,.str z,aQb _,_,rfl,_,"bool",_,_,rfl,.str z,aQb _,rfl,_,rfl,onF rfl ?_⟩;refine⟨_,rfl,_,"str",_,_,rfl,.str z,vN _,_,rfl,_,"str",_,_,rfl,.str z,vN _,rfl,_,rfl,onF rfl ?_⟩;refine⟨_,rfl,z2,λU G=>?_⟩;refine⟨_,U,"str","int",_,_,_,rfl,SqT.of yB,.str z,vN _,aWd _,_,rfl,onF rfl ?_⟩;refine⟨_,rfl,_,rfl,rfl,_,rfl,onF (by simp) ?_⟩;exact fin _ (N.trans (yG G _))
 |lst g=>
  unfold Is at S O;obtain⟨a,R,rfl,ha,a1⟩:=S;obtain⟨b,ys,rfl,hb,a3⟩:=O;have lx:=a1.length;have ly:=a3.length;have a2:=J _ _ ha;have b2:=J _ _ hb;have b8:wQ g+1<=1000:=by
   have:Dt.size (.lst g)=1+wQ g:=by simp[Dt.size]
   omega
  have b9:g.length<=wQ g:=aQg g;refine⟨_,p1,"list","tuple",_,_,_,rfl,SqT.of yB,.lst (N _ _ b2),wJ _,qJ _,_,rfl,onT rfl ?_⟩;refine⟨_,rfl,_,"list",_,_,rfl,.lst (N _ _ a2),wJ _,_,rfl,_,"list",_,_,rfl,.lst (N _ _ b2),wJ _,rfl,_,rfl,onF rfl ?_⟩;refine⟨_,rfl,z2,λU G=>?_⟩;have I:=N.trans (yG G (.tup [.ty "list",.ty "tuple"]));refine⟨_,U,"list","tuple",_,_,_,rfl,SqT.of yB,.lst (I _ _ a2),wJ _,qJ _,_,rfl,onF rfl ?_⟩;refine⟨_,rfl,a,_,rfl,.inl (SqL.of (I _ _ a2)),_,rfl,b,_,rfl,.inl (SqL.of (I _ _ b2)),rfl,_,rfl,onF (by simp[lx,ly]) ?_⟩;refine⟨_,rfl,b,_,rfl,.inl (SqL.of (I _ _ b2)),_,rfl,by omega,by omega,?_⟩;have a0:Dt.size (.lst g)=1+wQ g:=by simp[Dt.size]
  generalize c1:upd (upd H2 p1 (.tup [.ty "list",.ty "tuple"])) U (.tup [.ty "list",.ty "tuple"])=H3 at I ⊢;refine zK (λi C D=>∃ (B:List (Nat×Dt))(kk:Option V),C= [some v,some u,some (.ref t),some (.ref a),some (.ref b),kk]/\xA H0 D/\D t=some (.lst ((c++B).map λq=> .ref q.1))/\(∀q∈c++B,aZ1 H0 D q)/\B.map (·.2)=g.take i) ?_ ?_ ?_
  ·exact⟨[],k,rfl,J.trans I,by rw[cQf];exact I _ _ a5,λq j=>(a7 q (by simpa using j)).keep λa R e=>I _ _ e,rfl⟩
  ·rintro i C D hi ⟨B,kk,rfl,Y,Z,h3,W⟩;have M:i<g.length:=by rw[<- ly];omega
   obtain⟨xi,ex,ix⟩:=a1.get (bK9 M);obtain⟨yi,X,iy⟩:=a3.get (bK9 M);show bQr _ _ _ _;have sa:Sq K D a R:=Sq.same Y (.inl ha);have sb:Sq K D b ys:=Sq.same Y (.inl hb);refine⟨_,rfl,.inl ⟨rfl,_,SqL.of Z⟩,_,rfl,_,rfl,?_⟩;rw[cXf];refine sa.ix ex ⟨_,rfl,_,rfl,?_⟩;refine sb.ix X ⟨z2,λp hp=>?_⟩;have c2:B.length=i:=by have:=congrArg cXH W;simp at this;omega
   have c4:=aQQ c;have L:upd D p (.tup [xi,yi]) t=some (.lst ((c++B).map λq=> .ref q.1)):=by rw[yJ (yK Z hp)];exact Z
   refine⟨t,_,.ref p,rfl,rfl,L,zlt (by simp;omega),B++ [(p,g[i])],_,rfl,w8 (Y.trans (yG hp _)) a6,?_,?_,?_⟩
   ·rw[yB];simp
   ·intro q j;rw[<- cQG,bYP]at j;rcases j with j|j
    ·exact(h3 q j).keep λa R e=>jZ L _ _ (aXV hp _ _ e)
    ·rw[bYr.mp j];exact⟨xi,yi,jZ L _ _ yB,ix,iy⟩
   ·rw[cQW,W,cQh,bK9 M];rfl
  ·rintro C D ⟨B,kk,rfl,Y,Z,h3,W⟩;have e1:g.take ((ys.length:Nat):Int).toNat=g:=by rw[bYH,ly,cQb]
   rw[e1]at W;have e2:=jX W;refine⟨zW (c++B),?_,c++B,some (.ref a),some (.ref b),kk,rfl,Y,Z,h3,rfl,?_⟩
   ·rw[xX,xX,e2];simp[zW,a0]
   ·rw[xX,e2];omega
 |tup g=>
  unfold Is at S O;obtain⟨a,R,rfl,ha,a1⟩:=S;obtain⟨b,ys,rfl,hb,a3⟩:=O;have lx:=a1.length;have ly:=a3.length;have a2:=J _ _ ha;have b2:=J _ _ hb;have b8:wQ g+1<=1000:=by
   have:Dt.size (.tup g)=1+wQ g:=by simp[Dt.size]
   omega
  have b9:g.length<=wQ g:=aQg g;refine⟨_,p1,"list","tuple",_,_,_,rfl,SqT.of yB,.tup (N _ _ b2),wT _,jL _,_,rfl,onT rfl ?_⟩;refine⟨_,rfl,_,"list",_,_,rfl,.tup (N _ _ a2),wT _,_,rfl,_,"list",_,_,rfl,.tup (N _ _ b2),wT _,rfl,_,rfl,onF rfl ?_⟩;refine⟨_,rfl,z2,λU G=>?_⟩;have I:=N.trans (yG G (.tup [.ty "list",.ty "tuple"]));refine⟨_,U,"list","tuple",_,_,_,rfl,SqT.of yB,.tup (I _ _ a2),wT _,jL _,_,rfl,onF rfl ?_⟩;refine⟨_,rfl,a,_,rfl,.inr (SqT.of (I _ _ a2)),_,rfl,b,_,rfl,.inr (SqT.of (I _ _ b2)),rfl,_,rfl,onF (by simp[lx,ly]) ?_⟩;refine⟨_,rfl,b,_,rfl,.inr (SqT.of (I _ _ b2)),_,rfl,by omega,by omega,?_⟩;have a0:Dt.size (.tup g)=1+wQ g:=by simp[Dt.size]
  generalize c1:upd (upd H2 p1 (.tup [.ty "list",.ty "tuple"])) U (.tup [.ty "list",.ty "tuple"])=H3 at I ⊢;refine zK (λi C D=>∃ (B:List (Nat×Dt))(kk:Option V),C= [some v,some u,some (.ref t),some (.ref a),some (.ref b),kk]/\xA H0 D/\D t=some (.lst ((c++B).map λq=> .ref q.1))/\(∀q∈c++B,aZ1 H0 D q)/\B.map (·.2)=g.take i) ?_ ?_ ?_
  ·exact⟨[],k,rfl,J.trans I,by rw[cQf];exact I _ _ a5,λq j=>(a7 q (by simpa using j)).keep λa R e=>I _ _ e,rfl⟩
  ·rintro i C D hi ⟨B,kk,rfl,Y,Z,h3,W⟩;have M:i<g.length:=by rw[<- ly];omega
   obtain⟨xi,ex,ix⟩:=a1.get (bK9 M);obtain⟨yi,X,iy⟩:=a3.get (bK9 M);show bQr _ _ _ _;have sa:Sq K D a R:=Sq.same Y (.inr ha);have sb:Sq K D b ys:=Sq.same Y (.inr hb);refine⟨_,rfl,.inl ⟨rfl,_,SqL.of Z⟩,_,rfl,_,rfl,?_⟩;rw[cXf];refine sa.ix ex ⟨_,rfl,_,rfl,?_⟩;refine sb.ix X ⟨z2,λp hp=>?_⟩;have c2:B.length=i:=by have:=congrArg cXH W;simp at this;omega
   have c4:=aQQ c;have L:upd D p (.tup [xi,yi]) t=some (.lst ((c++B).map λq=> .ref q.1)):=by rw[yJ (yK Z hp)];exact Z
   refine⟨t,_,.ref p,rfl,rfl,L,zlt (by simp;omega),B++ [(p,g[i])],_,rfl,w8 (Y.trans (yG hp _)) a6,?_,?_,?_⟩
   ·rw[yB];simp
   ·intro q j;rw[<- cQG,bYP]at j;rcases j with j|j
    ·exact(h3 q j).keep λa R e=>jZ L _ _ (aXV hp _ _ e)
    ·rw[bYr.mp j];exact⟨xi,yi,jZ L _ _ yB,ix,iy⟩
   ·rw[cQW,W,cQh,bK9 M];rfl
  ·rintro C D ⟨B,kk,rfl,Y,Z,h3,W⟩;have e1:g.take ((ys.length:Nat):Int).toNat=g:=by rw[bYH,ly,cQb]
   rw[e1]at W;have e2:=jX W;refine⟨zW (c++B),?_,c++B,some (.ref a),some (.ref b),kk,rfl,Y,Z,h3,rfl,?_⟩
   ·rw[xX,xX,e2];simp[zW,a0]
   ·rw[xX,e2];omega
end
end Alike
namespace Alike
open PySem L2 PyProof.Rows
open Bk (Row Rows xU xM Ans)
open Desk (xE wX stV xQ Up Run xZ Wf vS wW)
open Law (xC LGo LBk y8 aXg v9)
open Thr (z6)
theorem bZG{H:Hp}{p:Nat}{vs:List V}{a:List Dt}(h:H p=some (.lst vs))(k:wG H vs a):Is H (.ref p) (.lst a):=by
 unfold Is;exact⟨p,vs,rfl,h,k⟩
theorem bZa{α:Type}{g:α->Dt}{c n:Nat}{l:List α}(h:∀a∈l,(g a).size<=c)(hl:l.length<=n):Dt.size (.lst (l.map g))<=1+n*c:=by
 have e:Dt.size (.lst (l.map g))=1+wQ (l.map g):=by simp[Dt.size]
 have b:=aVC l h;have d:l.length*c<=n*c:=Nat.mul_le_mul_right _ hl;omega
theorem Run.cut:∀ (n:Nat) {R c:Rows} {S b:List Int} {d fs:List xM} {cs:List Ans},fs.length=n->Run R S (d++fs) cs c b->∃f bs j i,cs=f++bs/\Run R S d f j i/\Run j i fs bs c b
 |0,R,c,S,b,d,fs,cs,hn,h=>by have e:fs= []:=cQZ hn;subst e;rw[cQf]at h;exact⟨cs,[],c,b,by rw[cQf],h,.nil⟩
 |n+1,R,c,S,b,d,fs,cs,hn,h=>by
  obtain⟨x,g,rfl⟩:=aJ3 (l:=fs) (by intro z;rw[z]at hn;cases hn);rcases Desk.Run.inv h with⟨z,_⟩|⟨l,e,p,a,j,i,k,m,o,q⟩
  ·rw[<- cQG]at z;simp at z
  ·rw[<- cQG]at k;obtain⟨u,r⟩:=cXu k rfl;cases r;subst u;obtain⟨f,bs,R2,v,s,t,w⟩:=Run.cut n (by simpa using hn) o;exact⟨f,bs++ [a],R2,v,by rw[m,s,cQG],t,.snoc w q⟩
abbrev aJK:Stmt:=xC "_law_book_of"
abbrev aXJ:Stmt:=xC "_law_standing_of"
def aVF:Sp:=λh H Q _=>∃ (f:Nat)(b:List Nat)(a:List xM),h= [.ref f]/\xZ H f b a/\a.length<=60/\(∀e∈a,Wf e)/\
 ∀ (t d g:Nat)(c:Hp)(i:List Nat)(j:List Ans),LGo H d g a j c i->c t=some (.tup [.ref d,.ref g])->Q (.ref t) c
def aZU:Sp:=λe H Q _=>∃ (c:Nat)(f:List Nat)(R:Rows),e= [.ref c]/\y8 H c f R/\R.length<=60/\
 ∀ (d:Nat)(a:Hp)(b:List V),xA H a->H d=none->a d=some (.lst b)->bY3 (λv r=>xQ a r v) b R->Q (.ref d) a
section
variable {K:bYc}
theorem aYU:yO ["_law_deeds","_law_rows","_law_shut","_law_deed"] ["_law_deeds"] (yH aJK):=scM
seal PE PA PS PSs PT in
theorem aK8(a:FnG P w K mg base n "_law_done_by" ["_law_rows","_law_shut","_law_deed"] aXg)(F:Fun K "_law_book_of" "_law_book_of" aJK f fd):xD P w K mg base CX0 (n+1) f fd ["_law_deeds"] aVF:=by
 have O:=aYU;refine F.ok (k:=n) O (λT A outer s L W Q E R h=>?_);obtain⟨M,l,o,rfl,p,hl,G,q⟩:=h;refine⟨_,(yC (yU (i:=1) (y6 yD)) (yC (yU (i:=2) (y6 yD)) (yC (zL bYY rfl (xN (pv 0)) (xB (i:=3)) (yF (yY (xK a R rfl (yA (pv 1) (yA (pv 2) (yA (pv 3) yD))))))) (yF (yP (xI (yA (pv 1) (yA (pv 2) yD)))))))),?_⟩;refine⟨z0,λy C=>?_⟩;dsimp only[yW];refine⟨z0,λr D=>?_⟩;dsimp only[yW];have H:=LGo.start C D;generalize upd (upd L y (.lst [])) r (.lst [])=H6 at H ⊢;refine⟨_,rfl,M,rfl,⟨_,SqL.of (H.keep _ _ p.1)⟩,?_⟩;refine zM (xs:=l.map V.ref) (λt σ B=>∃ (e:List Nat)(c:List Ans)(z:Option V),σ= [some (.ref M),some (.ref y),some (.ref r),z]/\LGo L y r (o.take t) c B e) ?_ ?_ ?_ ?_
 ·exact⟨[],[],none,rfl,H⟩
 ·rintro t σ B J ⟨e,c,z,rfl,g⟩;exact SqL.of (g.keep _ _ p.1)
 ·rintro t x σ B m ⟨e,c,z,rfl,g⟩;rw[bYu]at m;cases u:l[t]? with
  |none=>rw[u]at m;cases m
  |some d=>
   rw[u]at m;cases m;have j:t<o.length:=by rw[<- p.2.1];exact(bYl.mp u).1
   have N:=bK9 j;dsimp only[yW];refine⟨_,rfl,_,rfl,_,rfl,g.step (G _ (cQR j)) (by rw[cQn];omega) (g.keep _ _ (p.2.2 t d _ u N)) λb v Y I U st Z X=>?_⟩;have S:o.take (t+1)=o.take t++ [o[t]]:=by rw[cQh,N];rfl
   exact⟨I,c++ [b],_,rfl,by rw[S];exact U⟩
 rintro σ B ⟨e,c,z,rfl,g⟩;rw[bYe,p.2.1,cQb]at g;dsimp only[aW8];refine⟨_,rfl,_,rfl,z2,λt J=>?_⟩;exact q t y r _ e c (g.same (yG J _)) yB
theorem aW0:yO ["_law_rows","_law_made","_law_row"] ["_law_rows"] (yH aXJ):=scM
seal PE PA PS PSs PT in
theorem aWF(T:vA mg)(F:Fun K "_law_standing_of" "_law_standing_of" aXJ f fd):xD P w K mg base CX0 1 f fd ["_law_rows"] aZU:=by
 have sc:=aW0;refine F.ok (k:=0) sc (λa7 A outer s H7 vs Q E hr h=>?_);obtain⟨ra,rs,R,rfl,J,a8,q⟩:=h;refine⟨_,(yC (yU (i:=1) (y6 yD)) (yC (zL bYY rfl (xN (pv 0)) (xB (i:=2)) (yF (yY (uC bYM bYR bYS xL (pv 1) (yA (yL yI (y6 (yA (x4 qF rfl T.b_tuple uS (yA (aXz aJ2 (pv 2) aJD (aJE yE)) yD)) (yA yQ yD))) (x4 w3 rfl T.b_int uE (yA (yL yI (pv 2) yE) yD))) yD))))) (yF (yP (pv 1))))),?_⟩;refine⟨z0,λu n=>?_⟩;dsimp only[yW];have k8:=yG n (.lst []);refine⟨_,rfl,ra,rfl,⟨_,SqL.of (k8 _ _ J.lst)⟩,?_⟩;refine zM (xs:=rs.map V.ref) (λt σ g=>∃ (m:List V)(O:Option V),σ= [some (.ref ra),some (.ref u),O]/\xA H7 g/\g u=some (.lst m)/\bY3 (λv r=>xQ g r v) m (R.take t)) ?_ ?_ ?_ ?_
 ·exact⟨[],none,rfl,k8,yB,.nil⟩
 ·rintro t σ g ht ⟨m,O,rfl,B,c,d⟩;exact SqL.of (B _ _ J.lst)
 ·rintro t x σ g L ⟨m,O,rfl,B,c,d⟩;rw[bYu]at L;cases S:rs[t]? with
  |none=>rw[S]at L;cases L
  |some b=>
   rw[S]at L;cases L;have X:t<R.length:=by rw[<- J.len];exact(bYl.mp S).1
   have D:=bK9 X;obtain⟨l,e1,e2⟩:=J.row t b _ S D;have b9:g b=some (.lst (v9 R[t] l)):=B _ _ e1;have a9:m.length=t:=by rw[cXt d,cQn];omega
   dsimp only[yW];refine⟨_,rfl,.inl ⟨rfl,_,SqL.of c⟩,_,rfl,_,rfl,b,_,rfl,SqL.of b9,λM a6=>⟨M,_,rfl,.inl ⟨SqL.of yB,λj a1=>⟨z2,λN U=>?_⟩⟩⟩⟩;have a2:=yG a6 (.lst (aXm (v9 R[t] l) none (some 6)));have a3:=yG a1 (.tup (aXm (v9 R[t] l) none (some 6)));have a4:=yG U (.lst [.ref j,.str "void"]);have y:=(a2.trans a3).trans a4;have I:=a4 _ _ (yB (H:=upd g M (.lst (aXm (v9 R[t] l) none (some 6)))) (a:=j) (o:= .tup (aXm (v9 R[t] l) none (some 6))));have e4:upd (upd (upd g M (.lst (aXm (v9 R[t] l) none (some 6)))) j (.tup (aXm (v9 R[t] l) none (some 6)))) N (.lst [.ref j,.str "void"]) N=some (.lst [.ref j,.str "void"]):=yB;generalize upd (upd (upd g M (.lst (aXm (v9 R[t] l) none (some 6)))) j (.tup (aXm (v9 R[t] l) none (some 6)))) N (.lst [.ref j,.str "void"])=H10 at y I e4 ⊢;have Z:=y _ _ b9;have a5:atI [V.ref j,V.str "void"] (if R[t].void=true then 1 else 0)=some (if R[t].void=true then .str "void" else .ref j):=by cases R[t].void<;> rfl
   refine⟨_,rfl,b,_,6,_,rfl,rfl,SqL.of Z,rfl,.inr ⟨_,rfl,N,_,_,_,rfl,rfl,SqL.of e4,a5,u,_,_,rfl,rfl,y _ _ c,zlt (by omega),?_⟩⟩;have C:H7 u=none:=n;have Y:∀G,xA H7 (upd H10 u (.lst G)):=λG x o e=>by rw[yJ (yK e C)];exact y _ _ (B _ _ e)
   have tk:∀ {x zs G},g x=some (.tup zs)->upd H10 u (.lst G) x=some (.tup zs):=λ{x zs G} e=>by rw[yJ (λz=>by rw[z,c]at e;cases e)];exact y _ _ e
   refine⟨m++ [if R[t].void=true then .str "void" else .ref j],_,rfl,Y _,yB,?_⟩;have et:R.take (t+1)=R.take t++ [R[t]]:=by rw[cQh,D];rfl
   rw[et];refine Paired.snoc (Desk.qM (λv r z=>?_) d) ?_
   ·unfold xQ at z ⊢;split
    ·rename_i e;rw[if_pos e]at z;exact z
    ·rename_i e;rw[if_neg e]at z;obtain⟨p,e,q⟩:=z;exact⟨p,e,tk q⟩
   ·unfold xQ;cases hv:R[t].void with
    |true=>exact rfl
    |false=>
     have a0:aXm (v9 R[t] l) none (some 6)=stV R[t]:=by unfold stV Desk.W4 Desk.qZ;rw[hv];cases W:R[t].link<;> (unfold v9;rw[W];rfl)
     rw[a0]at I;refine⟨j,rfl,?_⟩;rw[yJ (λz=>by rw[z,y _ _ c]at I;cases I)];exact I
 rintro σ g ⟨m,O,rfl,B,c,d⟩;rw[bYe,J.len,cQb]at d;exact⟨_,rfl,q u g m B n c d⟩
end
end Alike
namespace Alike
open PySem L2 PyProof.Rows
open Bk (Row Rows xU xM Ans)
open Desk (xE wX stV xQ Up Run xZ Wf vS wW)
open Law (xC LGo LBk y8 aQM v9)
open Thr (z6)
theorem bJ2{α β:Type}{F:α->β->Prop}{xs:List α}{ys:List β}(h:bY3 F xs ys):∀ {i:Nat} {y:β},ys[i]? =some y->∃x,xs[i]? =some x/\F x y:=by
 induction h with
 |nil=>intro i y e;simp at e
 |@cons a b d c f l j=>
  intro i y e;cases i with
  |zero=>cases e;exact⟨a,rfl,f⟩
  |succ i=>obtain⟨u,g,k⟩:=j (i:=i) (by simpa using e);exact⟨u,by simpa using g,k⟩
theorem aKv{H:Hp}{das a:List Nat}{es b:List xM}(g:das.length=es.length)(h:∀ (i:Nat)(d:Nat)(e:xM),das[i]? =some d->es[i]? =some e->H d=some (.tup (xE e))) (l:a.length=b.length) (m:∀ (i:Nat)(d:Nat)(e:xM),a[i]? =some d->b[i]? =some e->H d=some (.tup (xE e))) {p:Nat} (j:H p=some (.lst (das.map V.ref++a.map V.ref))):xZ H p (das++a) (es++b):=by
 refine⟨by rw[cQW];exact j,by rw[bYy,bYy,g,l],λi d e c f=>?_⟩;by_cases k:i<das.length
 ·rw[bYF k]at c;rw[bYF (by omega)]at f;exact h i d e c f
 ·rw[bYv (by omega)]at c f;rw[g]at c;exact m _ d e c f
structure Has(K:bYc)(Tb a ds ra sa:Nat)(ns:List Int)(das:List Nat)(es:List xM)(rs:List Nat)(R:Rows)(S:List Int)(H:Hp):Prop where
 s:SqL K H a (ns.map V.int)
 d:xZ H ds das es
 b:y8 H ra rs R
 sh:H sa=some (.lst (S.map V.int))
 t:z6 Tb H
theorem bV8{H H':Hp}{ra:Nat}{rs:List Nat}{R:Rows}(h:y8 H ra rs R)(k:x0 H H'):y8 H' ra rs R:=
 ⟨k.lst h.lst,h.len,h.nd,λi b r a c=>let ⟨cp,e1,e2⟩:=h.row i b r a c;⟨cp,k.lst e1,k.lst e2⟩⟩
section
variable {K:bYc}{Tb a ds ra sa:Nat}{ns:List Int}{das:List Nat}{es:List xM}{rs:List Nat}{R:Rows}{S:List Int}{H H':Hp}
theorem Has.sameT(h:Has K Tb a ds ra sa ns das es rs R S H)(k:x0 H H')(t:z6 Tb H'):Has K Tb a ds ra sa ns das es rs R S H':=
 ⟨k.seq h.s,h.d.same k,bV8 h.b k,k.lst h.sh,t⟩
theorem Has.same(h:Has K Tb a ds ra sa ns das es rs R S H)(k:xA H H'):Has K Tb a ds ra sa ns das es rs R S H':=h.sameT k.t (Desk.jD h.t k)
end
end Alike
namespace Alike
open PySem L2 PyProof.Rows
open Bk (Row Rows xU xM Ans)
open Desk (xE wX stV xQ Up Run xZ Wf vS wW)
open Law (xC LGo LBk y8 aQM v9 wN)
open Thr (z6)
abbrev aYF:Stmt:=xC "_law_hangs_right"
abbrev bVc:Stmt:=xC "_law_ends"
abbrev bVj:Stmt:=xC "_law_numbered"
def bWi:xM->Bool
 |.enter _ _ _ _=>true
 |.reply _ _ _=>true
 |_=>false
theorem bJm{R b:Rows}{S c:List Int}{e:xM}{a:Ans}(h:xU R S e a b c):(bWi e=true/\((∃x,a= .txt x)/\b.length=R.length\/a= .num R.length/\b.length=R.length+1))\/(bWi e=false/\b.length=R.length):=by
 cases h;case oneN he=>
  refine .inr ⟨?_,rfl⟩;rcases he with rfl|⟨_,rfl⟩|⟨_,rfl⟩|⟨_,rfl⟩|⟨_,rfl⟩|rfl|rfl|rfl|rfl<;> rfl
 all_goals first
  |exact .inl ⟨rfl,.inl ⟨⟨_,rfl⟩,rfl⟩⟩
  |exact .inl ⟨rfl,.inr ⟨rfl,by simp⟩⟩
  |exact .inr ⟨rfl,rfl⟩
  |exact .inr ⟨rfl,by rw[Bk.x9,Bk.zR]⟩
  |exact .inr ⟨rfl,Bk.x9 _ _ _⟩
  |exact .inr ⟨rfl,by rw[Bk.zR]⟩
theorem bXK{R S es as}(t:Nat){j:Rows}{g:List Int}(h:Run R S es as j g):∃c b,Run R S (es.take t) (as.take t) c b:=by
 have e:=h;rw[<- List.take_append_drop t es]at e;obtain⟨a,bs,c,b,rfl,d,l⟩:=Run.cut _ rfl e;refine⟨c,b,?_⟩;have k:=d.len;have f:=l.len;rw[cQn]at k;rw[List.length_drop]at f;have i:(a++bs).take t=a:=by
  by_cases m:t<=es.length
  ·rw[List.take_append_of_le_length (by omega),cX5 (by omega)]
  ·have:bs= []:=cQZ (by omega);rw[this,cQf,cX5 (by omega)]
 rw[i];exact d
theorem bXJ{R S es as e a}{f:Rows}{d:List Int}(h:Run R S (es++ [e]) (as++ [a]) f d):∃c b,Run R S es as c b/\xU c b e a f d:=by
 rcases Desk.Run.inv h with⟨z,_⟩|⟨p,s,i,r,c,b,g,m,j,k⟩
 ·simp at z
 ·obtain⟨o,l⟩:=cXu g rfl;obtain⟨n,q⟩:=cXu m rfl;cases l;cases q;subst o;subst n;exact⟨c,b,j,k⟩
def bKS(a:List xM)(b:List Ans)(t m:Nat):Prop:=∃R S,Run [] [] (a.take t) (b.take t) R S/\R.length=m
def bQg:Sp:=λb H Q _=>∃ (a:Nat)(c:List Nat)(R:Rows)(k:Nat),b= [.ref a,.int (k:Nat)]/\y8 H a c R/\Bk.qR R/\k<R.length/\Q (.bl true) H
def bZW:Sp:=λb H Q _=>∃ (a:Nat)(c:List Nat)(R:Rows)(k:Nat),b= [.ref a,.int (k:Nat)]/\y8 H a c R/\Bk.qR R/\R.length<=60/\k<R.length/\Q (.bl true) H
def bZ1:Sp:=λj H Q _=>∃ (f l:Nat)(c:List Nat)(b:List xM)(d:List V)(h:List Ans)(R:Rows)(S:List Int),j= [.ref f,.ref l]/\xZ H f c b/\b.length<=60/\(∀e∈b,Wf e)/\H l=some (.lst d)/\(∀ (i:Nat)(a:Ans),h[i]? =some a->∃v,d[i]? =some v/\wX [] H a v)/\Run [] [] b h R S/\
 ∀g,xA H g->Q (.int (R.length:Nat)) g
section
variable {K:bYc}
theorem bXX:yO ["_law_rows","_law_k","_law_one","_law_link","_law_other"] ["_law_rows","_law_k"] (yH aYF):=scM
seal PE PA PS PSs PT in
theorem bXn(T:vA mg)(F:Fun K "_law_hangs_right" "_law_hangs_right" aYF f fd):xD P w K mg base CX0 1 f fd ["_law_rows","_law_k"] bQg:=by
 have r:=bXX;refine F.ok (k:=0) r (λx A outer s H G Q E N h=>?_);obtain⟨l,I,R,k,rfl,a,u,t,q⟩:=h;refine⟨_,(yC (yU (i:=2) (yL yI (pv 0) (pv 1))) (yC (yU (i:=3) (yL yI (pv 2) yE)) (yC (y0 (yM aQm (pv 3) xY) (yF (yP wO)) yS) (yC (y0 (PW.pt (vD (yM vC (pv 3) yE) (vD (yM bWy (pv 3) (yT yN rfl T.b_len y9 (yA (pv 0) yD))) (vD (xP (yL yI (yL yI (pv 0) (pv 3)) yE)) (wM (xP (yL yI (pv 2) yE))))))) (yF (yP wO)) yS) (yC (yU (i:=4) (yL yI (pv 0) (pv 3))) (yC (y0 (PW.pt (vD (yM x8 (yL yI (pv 4) yE) (yL yI (pv 2) yE)) (vD (yM Y5 (yL yI (pv 4) yE) (yL yI (pv 2) yE)) (wM (yM aQl (yL yI (pv 4) yE) (yL yI (pv 2) yE)))))) (yF (yP wO)) yS) (yF (yP (zE x8 (yL yI (pv 4) yE) (yL yI (pv 2) yE)))))))))),?_⟩;have e:=bK9 t;obtain⟨b,v,W,U,d,O⟩:=a.get e;refine⟨_,rfl,_,rfl,l,_,_,_,rfl,rfl,SqL.of a.lst,yR v,?_⟩;dsimp only[yW];refine⟨_,rfl,b,_,4,_,rfl,rfl,SqL.of d,rfl,?_⟩;dsimp only[yW];cases hl:R[k].link with
 |none=>exact⟨_,rfl,rfl,_,rfl,onT rfl q⟩
 |some j=>obtain⟨o,n,C,y,D,p,J,B⟩:=u.ans k j _ e hl;have X:j<R.length:=Bk.wB n;obtain⟨c,m,L,M,g,S⟩:=a.get n;refine⟨_,rfl,rfl,_,rfl,onF rfl ?_⟩;refine⟨_,rfl,_,_,rfl,rfl,_,rfl,onF (decide_eq_false (by omega)) ?_⟩;refine⟨_,rfl,_,rfl,l,_,rfl,.inl (SqL.of a.lst),_,_,rfl,rfl,_,rfl,onF (decide_eq_false (by rw[bYe,a.len];omega)) ?_⟩;refine⟨_,rfl,_,rfl,l,_,_,_,rfl,rfl,SqL.of a.lst,yR m,c,_,6,_,rfl,rfl,SqL.of g,rfl,_,rfl,onF y ?_⟩;refine⟨_,rfl,b,_,6,_,rfl,rfl,SqL.of d,rfl,_,rfl,onF C ?_⟩;refine⟨_,rfl,_,rfl,l,_,_,_,rfl,rfl,SqL.of a.lst,yR m,?_⟩;dsimp only[yW];refine⟨_,rfl,c,_,0,_,rfl,rfl,SqL.of g,rfl,_,rfl,b,_,0,_,rfl,rfl,SqL.of d,rfl,rfl,_,rfl,onF (decide_eq_false (λz=>D (V.str.inj z).symm)) ?_⟩;refine⟨_,rfl,c,_,2,_,rfl,rfl,SqL.of g,rfl,_,rfl,b,_,2,_,rfl,rfl,SqL.of d,rfl,rfl,_,rfl,onF (by rw[p];simp) ?_⟩;refine⟨_,rfl,c,_,1,_,rfl,rfl,SqL.of g,rfl,_,rfl,b,_,1,_,rfl,rfl,SqL.of d,rfl,_,_,rfl,rfl,_,rfl,onF (decide_eq_false (by omega)) ?_⟩;refine⟨_,rfl,c,_,5,_,rfl,rfl,SqL.of g,rfl,_,rfl,b,_,5,_,rfl,rfl,SqL.of d,rfl,rfl,?_⟩;rw[B];simpa using q
theorem bVr:yO ["_law_rows","_law_k","_law_step"] ["_law_rows","_law_k"] (yH bVc):=scM
seal PE PA PS PSs PT in
theorem bJK(T:vA mg)(F:Fun K "_law_ends" "_law_ends" bVc f fd):xD P w K mg base CX0 1 f fd ["_law_rows","_law_k"] bZW:=by
 have J:=bVr;refine F.ok (k:=0) J (λS A outer s H X Q E Y h=>?_);obtain⟨x,L,R,k,rfl,p,N,U,M,q⟩:=h;refine⟨_,(yC (zL bYY rfl (xW rfl T.b_range (yA (yV x3 (yT yN rfl T.b_len y9 (yA (pv 0) yD)) yE) yD)) (xB (i:=2)) (yC (y0 (yM aQm (yL yI (yL yI (pv 0) (pv 1)) yE) xY) (yF (yP wO)) yS) (yF (yU (i:=1) (yL yI (yL yI (pv 0) (pv 1)) yE))))) (yF (yP wO))),?_⟩;obtain⟨I,o⟩:=N.tree;have hl:(L.map V.ref).length=R.length:=by rw[bYe];exact p.len
 refine⟨_,rfl,x,_,rfl,.inl (SqL.of p.lst),_,_,rfl,rfl,?_⟩;rw[hl];refine⟨_,rfl,by omega,by omega,?_⟩;have O:((R.length:Nat):Int)+1=((R.length+1:Nat):Int):=by omega
 rw[O];refine zK (n:=R.length+1) (λt σ B=>∃ (j:Nat)(a:List Nat)(C:Option V),σ= [some (.ref x),some (.int (j:Nat)),C]/\B=H/\j<R.length/\a.Nodup/\a.length=t/\∀v∈a,v<R.length/\I j<I v) ?_ ?_ ?_
 ·exact⟨k,[],none,rfl,rfl,M,.nil,rfl,λv h=>nomatch h⟩
 ·rintro i σ B hi ⟨j,a,C,rfl,rfl,u,y,r,l⟩;have d:=bK9 u;obtain⟨b,G,g2,cp,D,Z⟩:=p.get d;dsimp only[yW];refine⟨_,rfl,_,rfl,x,_,_,_,rfl,rfl,SqL.of p.lst,yR G,b,_,4,_,rfl,rfl,SqL.of D,rfl,?_⟩;cases c:R[j].link with
  |none=>exact⟨rfl,_,rfl,onT rfl q⟩
  |some m=>
   have g:Bk.lk R j=some m:=by rw[Bk.vP d];exact c
   obtain⟨W,e⟩:=o.lt j m u g;refine⟨rfl,_,rfl,onF rfl ?_⟩;refine⟨_,rfl,_,rfl,x,_,_,_,rfl,rfl,SqL.of p.lst,yR G,b,_,4,_,rfl,rfl,SqL.of D,rfl,?_⟩;refine⟨m,j::a,_,by rw[c];rfl,rfl,W,cXc.mpr ⟨λz=>cQi _ (l j z).2,y⟩,by rw[bY8,r],λv h=>?_⟩;rcases bYj.mp h with rfl|h
   ·exact⟨u,e⟩
   ·exact⟨(l v h).1,Nat.lt_trans e (l v h).2⟩
 ·rintro σ B ⟨j,a,C,rfl,rfl,u,y,r,l⟩;have:=W8 R.length a y λv h=>(l v h).1;omega
theorem bVy:yO ["_law_deeds","_law_told","_law_many","_law_k"] ["_law_deeds","_law_told"] (yH bVj):=scM
seal PE PA PS PSs PT in
theorem bJS(T:vA mg)(c:FnG P w K mg base n "_law_whole" ["_law_found"] bQo)(F:Fun K "_law_numbered" "_law_numbered" bVj f fd):xD P w K mg base CX0 (n+1) f fd ["_law_deeds","_law_told"] bZ1:=by
 have sc:=bVy;refine F.ok (k:=n) sc (λa2 A outer s H0 vs Q E hr h=>?_);obtain⟨Z,l,r,b,ws,C,R,S,rfl,J,a1,B,hl,hA,a,q⟩:=h;refine⟨_,(yC (yU (i:=2) yE) (yC (zL bYY rfl (xW rfl T.b_range (yA (yT yN rfl T.b_len y9 (yA (pv 0) yD)) yD)) (xB (i:=3)) (yF (y0 (PW.pt (vJ (yM wL (yL yX (yL yI (pv 0) (pv 3)) yE) (y6 (yA yQ (yA yQ (yA yQ yD))))) (wP (wA (xP (yT zP rfl T.b_isinstance y7 (yA (yL yI (pv 1) (pv 3)) (yA (zD (v:= .ty "str") rfl T.b_str aQ6 rfl) yD)))))))) (yC (y0 (PW.pt (vD (wA (xP (xK c hr rfl (yA (yL yI (pv 1) (pv 3)) yD)))) (wM (yM Y5 (yL yI (pv 1) (pv 3)) (pv 2))))) (yF (yP xY)) yS) (yF (yU (i:=2) (yV x3 (pv 2) yE)))) yS))) (yF (yP (pv 2))))),?_⟩;dsimp only[yW];refine⟨_,rfl,Z,_,rfl,.inl (SqL.of J.1),?_⟩;rw[bYe,J.2.1];refine⟨_,rfl,by omega,by omega,?_⟩;refine zK (n:=b.length) (λt σ H=>∃ (m:Nat)(o3:Option V),σ= [some (.ref Z),some (.ref l),some (.int (m:Nat)),o3]/\xA H0 H/\bKS b C t m) ?_ ?_ ?_
 ·exact⟨0,none,rfl,xA.refl _,[],[],.nil,rfl⟩
 ·rintro i σ H N ⟨m,o3,rfl,u,G,S1,M,rfl⟩;rw[cXf];dsimp only[yW];have a3:=a.len;have he:=bK9 N;have ha:=bK9 (show i<C.length by omega);obtain⟨R2,S2,L⟩:=bXK (i+1) a;have et:b.take (i+1)=b.take i++ [b[i]]:=by rw[cQh,he];rfl
  have Y:C.take (i+1)=C.take i++ [C[i]]:=by rw[cQh,ha];rfl
  have D:=L;rw[et,Y]at D;obtain⟨R3,S3,r3,dn⟩:=bXJ D;obtain⟨-,rfl,rfl⟩:=Run.det _ rfl M r3;have U:i<r.length:=by rw[J.2.1];exact N
  have hd:=bK9 U;have W:=J.2.2 i _ _ hd he;obtain⟨v,p,o⟩:=hA i _ ha;have h0:(xE b[i])[0]? =some (.str (Desk.aWc b[i])):=by cases b[i]<;> rfl
  have O:(r.map V.ref)[i]? =some (.ref r[i]):=by rw[bYu,hd];rfl
  refine⟨_,rfl,_,rfl,Z,_,_,_,rfl,rfl,SqL.of (u _ _ J.1),yR O,r[i],_,0,_,rfl,rfl,SqT.of (u _ _ W),yR (j:=0) h0,z3,λl0 a0=>⟨l0,_,rfl,.inl (SqL.of yB),rfl,rfl,_,rfl,?_⟩⟩;have I:=yG a0 (.lst [.str "in",.str "out",.str "reply"]);generalize upd H l0 (.lst [.str "in",.str "out",.str "reply"])=H1 at I ⊢;have g:=I _ _ (u _ _ hl);rcases bJm dn with⟨e,⟨⟨x,hx⟩,z⟩|⟨hx,z⟩⟩|⟨e,z⟩
  ·have X:v= .str x:=by rw[hx]at o;exact o
   subst X;refine onT (by have hw:=B b[i] (cQR N);cases y:b[i]with|enter way d who t=>(rw[y]at hw;rcases(show way="in"\/way="out" from hw)with rfl|rfl<;> rfl)|reply=>rfl|_=>(rw[y]at e;cases e)) ?_;refine⟨_,rfl,_,rfl,l,_,_,_,rfl,rfl,SqL.of g,yR p,_,"str",_,_,rfl,.str _,vN _,_,rfl,onF rfl ?_⟩;exact⟨G.length,_,rfl,u.trans I,R2,S2,L,z⟩
  ·have X:v= .int (G.length:Nat):=by rw[hx]at o;exact o
   subst X;refine onT (by have hw:=B b[i] (cQR N);cases y:b[i]with|enter way d who t=>(rw[y]at hw;rcases(show way="in"\/way="out" from hw)with rfl|rfl<;> rfl)|reply=>rfl|_=>(rw[y]at e;cases e)) ?_;refine⟨_,rfl,_,rfl,l,_,_,_,rfl,rfl,SqL.of g,yR p,_,"str",_,_,rfl,.int _,uV _,_,rfl,onT rfl ?_⟩;refine⟨_,rfl,_,rfl,l,_,_,_,rfl,rfl,SqL.of g,yR p,_,rfl,_,rfl,onF rfl ?_⟩;refine⟨_,rfl,_,rfl,l,_,_,_,rfl,rfl,SqL.of g,yR p,_,rfl,rfl,_,rfl,onF (by simp) ?_⟩;refine⟨_,rfl,_,_,rfl,rfl,?_⟩;exact⟨G.length+1,_,rfl,u.trans I,R2,S2,L,z⟩
  ·refine onF (by cases y:b[i]with|enter=>(rw[y]at e;cases e)|reply=>(rw[y]at e;cases e)|on late d=>(cases late<;> rfl)|_=>rfl) ?_;exact⟨G.length,_,rfl,u.trans I,R2,S2,L,z⟩
 ·rintro σ H ⟨m,o3,rfl,u,G,S1,M,rfl⟩;rw[cQb,a.len,cQb]at M;obtain⟨-,rfl,rfl⟩:=Run.det _ rfl a M;exact⟨_,rfl,q _ u⟩
end
end Alike
namespace Alike
open PySem L2 PyProof.Rows
open Bk (Row Rows xU xM Ans)
open Desk (xE wX stV xQ Up Run xZ Wf vS wW)
open Law (xC LGo LBk y8 aQM v9 jB)
open Thr (z6)
theorem bWq{α:Type}{l:List α}{i:Nat}{x:α}(h:l[i]? =some x):i<l.length:=(bYl.mp h).1
theorem bWA{α β:Type}{F:α->β->Prop}{xs:List α}{ys:List β}(h:bY3 F xs ys):∀ {i:Nat} {x:α},xs[i]? =some x->∃y,ys[i]? =some y/\F x y:=by
 induction h with
 |nil=>intro i y e;simp at e
 |@cons a b d c f l j=>
  intro i y e;cases i with
  |zero=>cases e;exact⟨b,rfl,f⟩
  |succ i=>obtain⟨u,g,k⟩:=j (i:=i) (by simpa using e);exact⟨u,by simpa using g,k⟩
theorem aZI{R f:Rows}{S d:List Int}:∀ (n:Nat) {fs:List xM} {bs:List Ans},fs.length=n->(∀e∈fs,∀a c b,xU R S e a c b->c=R/\b=S)->Run R S fs bs f d->f=R/\d=S/\bY3 (λe a=>xU R S e a R S) fs bs
 |0,fs,bs,hn,hf,h=>by
  rcases Desk.Run.inv h with⟨rfl,rfl,rfl,rfl⟩|⟨_,_,_,_,_,_,rfl,_⟩
  ·exact⟨rfl,rfl,.nil⟩
  ·simp at hn
 |n+1,fs,bs,hn,hf,h=>by
  rcases Desk.Run.inv h with⟨rfl,rfl,rfl,rfl⟩|⟨l,e,j,a,c,b,rfl,rfl,k,g⟩
  ·simp at hn
  ·obtain⟨rfl,rfl,i⟩:=aZI n (by simpa using hn) (λe m=>hf e (by simp[m])) k;obtain⟨rfl,rfl⟩:=hf e (by simp) _ _ _ g;exact⟨rfl,rfl,Paired.snoc i g⟩
theorem Q5{R i:Rows}{S f:List Int}{k:Nat}{r:Row}{a:Ans}(e:R[k]? =some r)(h:xU R S (.thread (k:Int)) a i f):a=(if r.void then .txt "no letter" else .nums (Bk.thr R k))/\i=R/\f=S:=by
 cases d:r.void with
 |true=>
  have g:Bk.z9 R (k:Int)=false:=by unfold Bk.z9;rw[bYH,e];simp[d]
  have:=Bk.xU.noOne g (.inr (.inr (.inr (.inr (.inr (.inr (.inr (.inl rfl)))))))) h;exact this
 |false=>obtain⟨a,b,c⟩:=Bk.xU.det rfl h (.thread e d);exact⟨a,b,c⟩
theorem bQ0{n:Nat}{C:List Nat}{u:TE}{σ:L2.St}{D:Nat}{Q:VK}{H:Hp}(g:Nat->xM)(E:H D=none)(hz:n<=1000) (G:∀i,i<n->∀ (b:Hp)(R:VK),(∀t,b t=none->R (.ref t) (upd b t (.tup (xE (g i)))))->u (sub σ C (some (.int (i:Nat)))) b R) (M:∀ (b:Hp)(a:List Nat),xA H b->xZ b D a ((bYn n).map g)->Q (.ref D) b):bJd (Itr 0 n) C bKE u σ D Q (upd H D (.lst [])):=by
 refine⟨λi m F b=>m=n - i/\i<=n/\∃a:List Nat,F=a.map V.ref/\xA H b/\xZ b D a ((bYn i).map g),⟨n,by simp,bY7 _,[],rfl,yG E _,yB,rfl,λi d e h=>by simp at h⟩,?_⟩;rintro i m F b ⟨rfl,N,a,rfl,A,p⟩;refine⟨p.1,?_⟩;by_cases f:i<n
 ·refine .inr ⟨f,λv B J=>?_⟩;obtain⟨I,s⟩:=J;subst I;subst s;rw[cXf];have w:a.length=i:=by rw[p.2.1,bYe,bYW]
  show u _ _ _;refine G i f _ _ λt l=>?_;have r:=yG l (.tup (xE (g i)));have L:t≠D:=λz=>by rw[z,p.1]at l;cases l
  refine⟨zlt (by rw[bYe];omega),r _ _ p.1,n - (i+1),by omega,rfl,f,a++ [t],by simp,λx o e=>?_,yB.trans (by simp),by simp[w],λj d e c k=>?_⟩
  ·rw[yJ (yK e E)];exact r _ _ (A _ _ e)
  ·rw[cXl,cQW]at k;have q:∀ {x:Nat} {y:List V},upd B t (.tup (xE (g i))) x=some (.tup y)->upd (upd B t (.tup (xE (g i)))) D (.lst (a.map V.ref++ [.ref t])) x=some (.tup y):=λ{x y} e=>by
    rw[yJ (λz=>by rw[z,r _ _ p.1]at e;cases e)];exact e
   by_cases K:j<a.length
   ·rw[bYF K]at c;rw[bYF (by simp;omega)]at k;exact q (r _ _ (p.2.2 j d e c k))
   ·rw[bYv (by omega)]at c;rw[bYv (by simp;omega)]at k;have:j - a.length=0:=by
     have:=(bYl.mp c).1;simp at this;omega
    rw[this]at c;simp at c;subst c;have s:j - ((bYn i).map g).length=0:=by simp;omega
    rw[s]at k;simp at k;subst k;exact q yB
 ·obtain rfl:i=n:=by omega
  exact .inl ⟨bYh _,M _ _ A p⟩
theorem bWb(a:List Int)(b:Nat):aXm (a.map V.int) none (some (b:Int))=(a.take b).map V.int:=by
 unfold aXm;rw[HT.bXL,bVh,List.drop_zero,Nat.sub_zero,List.map_take];by_cases c:b<=(a.map V.int).length
 ·rw[Nat.min_eq_left c]
 ·rw[Nat.min_eq_right (by omega),cX5 (bYh _),cX5 (by omega)]
abbrev bW9:Stmt:=xC "law"
def bZd(d:Nat)(K:bYc):Sp:=λc H Q _=>∃ (a:Nat)(b:List Int),c= [.ref a]/\SqL K H a (b.map V.int)/\b.length<=63/\z6 d H/\∀e,Q (.bl true) e
section
variable {K:bYc}
theorem bWN:yO ["_law_script","_law_deeds","_law_rows","_law_due","_law_found","_law_told","_law_k","_law_one"] ["_law_script"] (yH bW9):=scM
theorem bWo:xJ ["_law_script","_law_deeds","_law_rows","_law_due","_law_found","_law_told","_law_k","_law_one"] (yH bW9) "_law_k" [] [] {kind:= .function,names:= [(".0",.local),("_law_k",.local)],isGenerator:=false,isCoroutine:=false,more:= [] }:=
 lcM
seal PE PA PS PSs PT in
theorem bWw(T:vA mg)(a0:FnG P w K mg base n "_law_story" ["_law_cells"] aQM)(a2:FnG P w K mg base n "_law_room" ["_law_script","_law_most","_law_bound"] (bZ2 K))(N:FnG P w K mg base n "_law_book_of" ["_law_deeds"] aVF) (G:FnG P w K mg base n "_law_standing_of" ["_law_rows"] aZU) (B:FnG P w K mg base n "_law_unturned" ["_law_found","_law_due"] aXh) (I:FnG P w K mg base n "_law_numbered" ["_law_deeds","_law_told"] bZ1) (C:FnG P w K mg base n "_law_hangs_right" ["_law_rows","_law_k"] bQg) (a4:FnG P w K mg base n "_law_ends" ["_law_rows","_law_k"] bZW) (W:FnG P w K mg base n "_law_family" ["_law_rows","_law_number"] jB) (M:FnG P w K mg base n "answers" ["deeds"] (vS Rf)) (L:FnG P w K mg base n "standing" ["deeds"] (wW Rf)) (F:Fun K "law" "law" bW9 f fd):xD P w K mg base CX0 (n+1) f fd ["_law_script"] (bZd Rf.2 K):=by
 have sc:=bWN;refine F.ok (k:=n) sc (λh6 A outer s H0 vs Q E Y h=>?_);obtain⟨a,ns,rfl,hS,e9,hT,q⟩:=h;refine⟨_,(yC (yU (i:=1) (yL yX (xK a0 Y rfl (yA (aXz aJ2 (pv 0) aJD (aJE (xK a2 Y rfl (yA (pv 0) (yA yE (yA yE yD)))))) yD)) yE)) (yC (yU (i:=2) (yL yX (xK N Y rfl (yA (pv 1) yD)) yE)) (yC (yU (i:=3) (xK G Y rfl (yA (pv 2) yD))) (yC (yU (i:=4) (xK L Y rfl (yA (x4 uF rfl T.b_list wY (yA (pv 1) yD)) yD))) (yC (y0 (wA (xP (xK B Y rfl (yA (pv 4) (yA (pv 3) yD))))) (yF (yP wO)) yS) (yC (yU (i:=4) (pv 3)) (yC (yU (i:=5) (xK M Y rfl (yA (yV aVn (pv 1) (W3 bWo rfl (xW rfl T.b_range (yA (yT yN rfl T.b_len y9 (yA (pv 4) yD)) yD)) (λ_ _ _ _ _=>zT) (λ_ _ _ _ _=>(xI (yA yQ (yA (pv 0) yD)))))) yD))) (yC (y0 (PW.pt (vD (wA (xP (yT zP rfl T.b_isinstance y7 (yA (pv 5) (yA (zD (v:= .ty "list") rfl T.b_list wY rfl) yD))))) (wM (yM Y5 (yT yN rfl T.b_len y9 (yA (pv 5) yD)) (yV x3 (yT yN rfl T.b_len y9 (yA (pv 1) yD)) (yT yN rfl T.b_len y9 (yA (pv 4) yD))))))) (yF (yP wO)) yS) (yC (y0 (yM Y5 (xK I Y rfl (yA (pv 1) (yA (pv 5) yD))) (yT yN rfl T.b_len y9 (yA (pv 4) yD))) (yF (yP wO)) yS) (yC (zL bYY rfl (xW rfl T.b_range (yA (yT yN rfl T.b_len y9 (yA (pv 2) yD)) yD)) (xB (i:=6)) (yF (y0 (wA (xP (xK C Y rfl (yA (pv 2) (yA (pv 6) yD))))) (yF (yP wO)) yS))) (yC (zL bYY rfl (xW rfl T.b_range (yA (yT yN rfl T.b_len y9 (yA (pv 2) yD)) yD)) (xB (i:=6)) (yC (yU (i:=7) (yL yI (pv 5) (yV x3 (yT yN rfl T.b_len y9 (yA (pv 1) yD)) (pv 6)))) (yF (y0 (xP (yL yI (yL yI (pv 2) (pv 6)) yE)) (yF (y0 (PW.pt (vD (wA (xP (yT zP rfl T.b_isinstance y7 (yA (pv 7) (yA (zD (v:= .ty "str") rfl T.b_str aQ6 rfl) yD))))) (wM (yM Y5 (pv 7) yQ)))) (yF (yP wO)) yS)) (yF (y0 (PW.pt (vD (wA (xP (xK a4 Y rfl (yA (pv 2) (yA (pv 6) yD))))) (wM (wA (xP (xK B Y rfl (yA (pv 7) (yA (xK W Y rfl (yA (pv 2) (yA (pv 6) yD))) yD)))))))) (yF (yP wO)) yS)))))) (yF (yP wO))))))))))))),?_⟩;refine⟨_,rfl,_,rfl,a,ns,24,60,rfl,hS,e9,_,rfl,a,_,rfl,hS,λp hp=>?_⟩;have k0:=yG hp (.lst (aXm (ns.map V.int) none (some 24)));refine⟨p,ns.take 24,rfl,yB.trans (by rw[show(24:Int)=((24:Nat):Int)from rfl,bWb]),by rw[cQn];omega,λH1 t ds us j Z vs as R S k1 ht hD f7 hP J a3 c8=>?_⟩;have b9:Z.length<=27:=by rw[cQn]at c8;omega
 have c1:=(k0.trans k1).t.seq hS;have T1:=Desk.jD hT (k0.trans k1);refine⟨t,_,0,_,rfl,rfl,SqT.of ht,rfl,?_⟩;dsimp only[yW];refine⟨_,rfl,ds,j,Z,rfl,hD,by omega,a3,λt2 ra sa H2 rs cs g d2=>?_⟩;obtain⟨R2,S2,hL,e1,a5,c7⟩:=g.ex;obtain⟨rfl,rfl,rfl⟩:=Run.det Z.length rfl J c7;have f1:R.length<=27:=bYQ e1.r b9;have A2:Has K Rf.2 a ds ra sa ns j Z rs R S H2:=⟨g.keep.t.seq c1,hD.same g.keep.t,hL.book,hL.shut,Desk.jD T1 g.keep⟩;clear hD f7 hP ht c1 T1 g hL k1;refine⟨t2,_,0,_,rfl,rfl,SqT.of d2,rfl,?_⟩;dsimp only[yW];refine⟨_,rfl,ra,rs,R,rfl,A2.b,by omega,λd1 H3 e5 k3 h0 c6 b0=>?_⟩;have A3:=A2.same k3;dsimp only[yW];refine⟨_,rfl,ds,_,rfl,.inl (SqL.of A3.d.1),λhl c0=>?_⟩;have k4:=yG c0 (.lst (j.map V.ref));have A4:=A3.same k4;have D4:xZ (upd H3 hl (.lst (j.map V.ref))) hl j Z:=⟨yB,A3.d.2.1,λi d e h1 h2=>k4 _ _ (A3.d.2.2 i d e h1 h2)⟩;have b4:=k4 _ _ c6;have a9:=Desk.qM (λv r (z:xQ H3 r v)=>z.same k4.t) b0;generalize upd H3 hl (.lst (j.map V.ref))=H4 at A4 D4 b4 a9 ⊢;refine⟨hl,j,Z,rfl,D4,by omega,a3,A4.t,λl H5 ws bs R2 S2 k5 T5 d4 h4 d8 c2=>?_⟩;obtain⟨-,rfl, -⟩:=Run.det Z.length rfl J d4;have A5:=A4.sameT k5 T5;have b5:=k5.lst b4;have a6:=Desk.qM (λv r (z:xQ H4 r v)=>z.same k5) a9;dsimp only[yW];refine⟨_,rfl,_,rfl,.ref l,.ref d1,.lst (R.map aQN),rfl,bZG d8 (uJ (F:=λv r=>xQ H5 r v) (λv r z=>aVh z) c2),bZG b5 (uJ (F:=λv r=>xQ H5 r v) (λv r z=>aVh z) a6),bYQ (bZa (n:=27) (c:=7) (λr _=>aW6 r) f1) (by decide),λH6 k6=>⟨_,rfl,onF rfl ?_⟩⟩;have A6:=A5.same k6;have d3:=k6 _ _ b5;have b2:e5.length=R.length:=b0.length;clear A2 A3 A4 A5 D4 a9 c2 a6 d8 b4 b5 k4 k5 k3 k6 c0 d2 c6 b0;refine⟨_,rfl,?_⟩;dsimp only[yW];refine⟨_,rfl,_,rfl,d1,_,rfl,.inl (SqL.of d3),?_⟩;rw[b2];refine⟨_,rfl,by omega,by omega,λD hD=>?_⟩;rw[bYH];refine bQ0 (λk=> .thread (k:Nat)) hD (by omega) (λi hi H' R' e6=>⟨_,rfl,z2,λt ht=>e6 t ht⟩) λH7 a1 k7 hq=>?_;have A7:=A6.same k7;have f3:=k7 _ _ d3;have h8:a1.length=R.length:=by rw[hq.2.1,bYe,bYW]
 have h3:j.length<=27:=by rw[A7.d.2.1];exact b9
 refine⟨ds,D,_,_,rfl,rfl,A7.d.1,hq.1,by rw[bYe,bYe,bYJ];omega,λp1 g0=>?_⟩;have b1:=yG g0 (.lst (j.map V.ref++a1.map V.ref));have D8:=aKv A7.d.2.1 (λi d e h1 h2=>b1 _ _ (A7.d.2.2 i d e h1 h2)) hq.2.1 (λi d e h1 h2=>b1 _ _ (hq.2.2 i d e h1 h2)) (yB (H:=H7) (a:=p1) (o:= .lst (j.map V.ref++a1.map V.ref)));have e8:∀e∈Z++(bYn R.length).map (λk=>xM.thread (k:Nat)),Wf e:=λe he=>by
  rcases bYP.mp he with z|z
  ·exact a3 e z
  ·obtain⟨k,_,rfl⟩:=cQa.mp z;exact cQw
 have g6:(Z++(bYn R.length).map (λk=>xM.thread (k:Nat))).length<=54:=by rw[bYy,bYe,bYW];omega
 refine⟨p1,j++a1,_,rfl,D8,by omega,e8,(A7.same b1).t,λm H8 b6 g7 R' S' k8 T8 d0 g9 hm a8=>?_⟩;obtain⟨h5,e4,R1,S1,rfl,c5,a7⟩:=Run.cut _ rfl d0;obtain⟨rfl,rfl,rfl⟩:=Run.det Z.length rfl J c5;obtain⟨q1,q2,c9⟩:=aZI _ rfl (λe he a R1 S1 h=>by
  obtain⟨k,hk,rfl⟩:=cQa.mp he;exact(Q5 (bK9 (bYI.mp hk)) h).2) a7
 have q1:=q1.symm;have q2:=q2.symm;subst q1;subst q2;have A8:=(A7.same b1).sameT k8 T8;have e0:=k8.lst (b1 _ _ f3);have f8:e4.length=R.length:=by rw[<- cXt c9,bYe,bYW]
 have d6:as.length=Z.length:=J.len.symm;have f9:b6.length=j.length+R.length:=by rw[a8.length,bYy,f8,d6,A8.d.2.1]
 dsimp only[yW];refine⟨_,rfl,_,"list",_,_,rfl,.lst hm,wJ _,_,rfl,onF rfl ?_⟩;refine⟨_,rfl,m,_,rfl,.inl (SqL.of hm),_,rfl,ds,_,rfl,.inl (SqL.of A8.d.1),_,rfl,d1,_,rfl,.inl (SqL.of e0),_,_,rfl,rfl,rfl,_,rfl,onF ?_ ?_⟩
 ·rw[f9,bYe,b2];simp
 refine⟨_,rfl,_,rfl,ds,m,j,Z,b6,as,R,S,rfl,A8.d,by omega,a3,hm,λi x hx=>?_,J,λH9 k9=>?_⟩
 ·exact bJ2 a8 (by rw[bYF (bWq hx)];exact hx)
 have A9:=A8.same k9;have b3:=k9 _ _ hm;refine⟨_,rfl,d1,_,rfl,.inl (SqL.of (k9 _ _ e0)),rfl,_,rfl,onF (by rw[b2];simp) ?_⟩;have c4:(rs.map V.ref).length=R.length:=by rw[bYe];exact A9.b.len
 refine⟨_,rfl,ra,_,rfl,.inl (SqL.of A9.b.lst),?_⟩;rw[c4];refine⟨_,rfl,by omega,by omega,?_⟩;rw[bYH];refine zK (λt σ H=>∃ (o6:Option V),σ= [some (.ref a),some (.ref ds),some (.ref ra),some (.ref d1),some (.ref d1),some (.ref m),o6,none]/\xA H9 H) ?_ ?_ ?_
 ·exact⟨none,rfl,xA.refl _⟩
 ·rintro i σ H hi ⟨o6,rfl,kH⟩;rw[cXf];dsimp only[yW];exact⟨_,rfl,_,rfl,ra,rs,R,i,rfl,(A9.same kH).b,a5,hi,_,rfl,onF rfl ⟨_,rfl,kH⟩⟩
 rintro σ H ⟨o6,rfl,kH⟩;have A9:=A9.same kH;have b3:=kH _ _ b3;have k9:=k9.trans kH;dsimp only[aW8];refine⟨_,rfl,ra,_,rfl,.inl (SqL.of A9.b.lst),?_⟩;rw[c4];refine⟨_,rfl,by omega,by omega,?_⟩;rw[bYH];refine zK (λt σ H'=>∃ (o6 o7:Option V),σ= [some (.ref a),some (.ref ds),some (.ref ra),some (.ref d1),some (.ref d1),some (.ref m),o6,o7]/\xA H H') ?_ ?_ ?_
 ·exact⟨_,_,rfl,xA.refl _⟩
 ·rintro i σ H' hi ⟨o6,o7,rfl,U⟩;rw[cXf];dsimp only[yW];have X:=A9.same U;have b7:=U _ _ b3;have d5:=bK9 hi;obtain⟨e,f0,f6⟩:=bWA c9 (i:=i) (x:= .thread (i:Nat)) (by rw[bYu,cQU hi];rfl);have O:=(Q5 d5 f6).1;obtain⟨v,e2,d9⟩:=bJ2 a8 (i:=as.length+i) (y:=e) (by rw[bYv (by omega),Nat.add_sub_cancel_left];exact f0);have e3:atI b6 ((((j.map V.ref).length:Nat):Int)+(i:Nat))=some v:=by
   rw[bYe,X.d.2.1,<- d6,<- Int.natCast_add];exact yR e2
  obtain⟨b,g1,g2,cp,g3,g4⟩:=X.b.get d5;refine⟨_,rfl,_,rfl,ds,_,rfl,.inl (SqL.of X.d.1),_,rfl,_,_,rfl,rfl,m,_,_,_,rfl,rfl,SqL.of b7,e3,?_⟩;dsimp only[yW];refine⟨_,rfl,_,rfl,ra,_,_,_,rfl,rfl,SqL.of X.b.lst,yR g1,b,_,6,_,rfl,rfl,SqL.of g3,rfl,_,rfl,?_⟩;cases hv:R[i].void with
  |true=>rw[hv,if_pos rfl]at O;subst O;have ev:v= .str "no letter":=d9;subst ev;exact onT rfl ⟨_,rfl,_,"str",_,_,rfl,.str _,vN _,_,rfl,onF rfl ⟨_,rfl,rfl,_,rfl,onF (by simp) ⟨_,_,rfl,U⟩⟩⟩
  |false=>rw[hv,if_neg (by decide)]at O;subst O;refine onF rfl ⟨_,rfl,_,rfl,ra,rs,R,i,rfl,X.b,a5,by omega,hi,_,rfl,onF rfl ?_⟩;obtain⟨rk,o⟩:=a5.tree;refine⟨_,rfl,_,rfl,_,rfl,ra,rs,R.length,Bk.lk R,rk,Bk.dt R,i,rfl,X.b.rows,o,by omega,hi,λg5 r f4 c3 g8 b8 f2 d7=>?_⟩;have eo:Bk.thr R i=f4:=Bk.aXi hi ⟨rk,o,f2,d7⟩;have e7:wX [] g5 (.nums (Bk.thr R i)) v:=Law.qD d9 λp u n e=>⟨n,(k9.trans (U.trans c3)) _ _ e⟩;refine⟨v,.ref r,aKj (.nums (Bk.thr R i)),rfl,bZF e7,bZF (o:= []) ⟨r,rfl,(λz=>nomatch z),by rw[eo];exact b8⟩,?_,λh7 f5=>⟨_,rfl,onF rfl ⟨_,_,rfl,U.trans (c3.trans f5)⟩⟩⟩;rw[aK1];have:=bVQ a5.tree (k:=i);omega
 ·rintro σ H' ⟨o6,o7,rfl,U⟩;exact q _
end
end Alike
namespace Desk
open PySem L2 PyProof.Rows
section
variable {K:bYc}
abbrev aQA:Stmt:=xF "Refused" "__init__"
theorem aWM:yO ["self","words"] ["self","words"] (yH aQA):=scM
theorem aWr(F:Fun K "__init__" "Refused.__init__" aQA f fd):xD P w K mg base CX0 (n+1) f fd ["self","words"] (wR K):=by
 have b:=aWM;refine F.ok (k:=n) b (λd A outer s H j Q E l h=>?_);obtain⟨e,C,tp,y,rfl,g,i,q⟩:=h;refine⟨_,(yF (bWD (pv 0) (pv 1) rfl)),?_⟩;exact⟨_,rfl,_,rfl,e,C,tp,rfl,g,i,λc a=>q c a⟩
abbrev X0:Stmt:=xF "NoLetter" "__init__"
theorem aJS:yO ["self"] ["self"] (yH X0):=scM
theorem aJq(a:aVW P w K mg base n "Refused" "__init__" ["self","words"] (wR K))(l:vU K C)(F:Fun K "__init__" "NoLetter.__init__" X0 f fd):xD P w K mg base CX0 (n+1) f fd ["self"] (wD K C "no letter"):=by
 have c:=aJS;refine F.ok (k:=n) c (λi A outer s H m Q E d h=>?_);obtain⟨e,tp,rfl,j,q⟩:=h;refine⟨_,(yF (yY (uL a d rfl (yA (pv 0) (yA yQ yD))))),?_⟩;exact⟨_,rfl,e,C,tp,_,rfl,j,l,λg b=>q g b⟩
abbrev aXO:Stmt:=xF "NoTerm" "__init__"
theorem aYS:yO ["self"] ["self"] (yH aXO):=scM
theorem aK6(a:aVW P w K mg base n "Refused" "__init__" ["self","words"] (wR K))(l:vU K C)(F:Fun K "__init__" "NoTerm.__init__" aXO f fd):xD P w K mg base CX0 (n+1) f fd ["self"] (wD K C "no term"):=by
 have c:=aYS;refine F.ok (k:=n) c (λi A outer s H m Q E d h=>?_);obtain⟨e,tp,rfl,j,q⟩:=h;refine⟨_,(yF (yY (uL a d rfl (yA (pv 0) (yA yQ yD))))),?_⟩;exact⟨_,rfl,e,C,tp,_,rfl,j,l,λg b=>q g b⟩
abbrev aXN:Stmt:=xF "HasOne" "__init__"
theorem aYR:yO ["self"] ["self"] (yH aXN):=scM
theorem aK5(a:aVW P w K mg base n "Refused" "__init__" ["self","words"] (wR K))(l:vU K C)(F:Fun K "__init__" "HasOne.__init__" aXN f fd):xD P w K mg base CX0 (n+1) f fd ["self"] (wD K C "has one"):=by
 have c:=aYR;refine F.ok (k:=n) c (λi A outer s H m Q E d h=>?_);obtain⟨e,tp,rfl,j,q⟩:=h;refine⟨_,(yF (yY (uL a d rfl (yA (pv 0) (yA yQ yD))))),?_⟩;exact⟨_,rfl,e,C,tp,_,rfl,j,l,λg b=>q g b⟩
abbrev aQz:Stmt:=xF "HasNone" "__init__"
theorem aWL:yO ["self"] ["self"] (yH aQz):=scM
theorem aWq(a:aVW P w K mg base n "Refused" "__init__" ["self","words"] (wR K))(l:vU K C)(F:Fun K "__init__" "HasNone.__init__" aQz f fd):xD P w K mg base CX0 (n+1) f fd ["self"] (wD K C "has none"):=by
 have c:=aWL;refine F.ok (k:=n) c (λi A outer s H m Q E d h=>?_);obtain⟨e,tp,rfl,j,q⟩:=h;refine⟨_,(yF (yY (uL a d rfl (yA (pv 0) (yA yQ yD))))),?_⟩;exact⟨_,rfl,e,C,tp,_,rfl,j,l,λg b=>q g b⟩
abbrev jV:Stmt:=xF "OwnThread" "__init__"
theorem aZK:yO ["self"] ["self"] (yH jV):=scM
theorem aZx(a:aVW P w K mg base n "Refused" "__init__" ["self","words"] (wR K))(l:vU K C)(F:Fun K "__init__" "OwnThread.__init__" jV f fd):xD P w K mg base CX0 (n+1) f fd ["self"] (wD K C "own thread"):=by
 have c:=aZK;refine F.ok (k:=n) c (λi A outer s H m Q E d h=>?_);obtain⟨e,tp,rfl,j,q⟩:=h;refine⟨_,(yF (yY (uL a d rfl (yA (pv 0) (yA yQ yD))))),?_⟩;exact⟨_,rfl,e,C,tp,_,rfl,j,l,λg b=>q g b⟩
abbrev aQB:Stmt:=xF "SameWay" "__init__"
theorem aWN:yO ["self"] ["self"] (yH aQB):=scM
theorem aWs(a:aVW P w K mg base n "Refused" "__init__" ["self","words"] (wR K))(l:vU K C)(F:Fun K "__init__" "SameWay.__init__" aQB f fd):xD P w K mg base CX0 (n+1) f fd ["self"] (wD K C "same way"):=by
 have c:=aWN;refine F.ok (k:=n) c (λi A outer s H m Q E d h=>?_);obtain⟨e,tp,rfl,j,q⟩:=h;refine⟨_,(yF (yY (uL a d rfl (yA (pv 0) (yA yQ yD))))),?_⟩;exact⟨_,rfl,e,C,tp,_,rfl,j,l,λg b=>q g b⟩
abbrev vK:Stmt:=xF "OtherPartner" "__init__"
theorem aQJ:yO ["self"] ["self"] (yH vK):=scM
theorem aQk(a:aVW P w K mg base n "Refused" "__init__" ["self","words"] (wR K))(l:vU K C)(F:Fun K "__init__" "OtherPartner.__init__" vK f fd):xD P w K mg base CX0 (n+1) f fd ["self"] (wD K C "other partner"):=by
 have c:=aQJ;refine F.ok (k:=n) c (λi A outer s H m Q E d h=>?_);obtain⟨e,tp,rfl,j,q⟩:=h;refine⟨_,(yF (yY (uL a d rfl (yA (pv 0) (yA yQ yD))))),?_⟩;exact⟨_,rfl,e,C,tp,_,rfl,j,l,λg b=>q g b⟩
abbrev X1:Stmt:=xF "TooEarly" "__init__"
theorem aJT:yO ["self"] ["self"] (yH X1):=scM
theorem aJr(a:aVW P w K mg base n "Refused" "__init__" ["self","words"] (wR K))(l:vU K C)(F:Fun K "__init__" "TooEarly.__init__" X1 f fd):xD P w K mg base CX0 (n+1) f fd ["self"] (wD K C "too early"):=by
 have c:=aJT;refine F.ok (k:=n) c (λi A outer s H m Q E d h=>?_);obtain⟨e,tp,rfl,j,q⟩:=h;refine⟨_,(yF (yY (uL a d rfl (yA (pv 0) (yA yQ yD))))),?_⟩;exact⟨_,rfl,e,C,tp,_,rfl,j,l,λg b=>q g b⟩
abbrev aXM:Stmt:=xF "Copied" "__init__"
theorem aYQ:yO ["self"] ["self"] (yH aXM):=scM
theorem aK4(a:aVW P w K mg base n "Refused" "__init__" ["self","words"] (wR K))(l:vU K C)(F:Fun K "__init__" "Copied.__init__" aXM f fd):xD P w K mg base CX0 (n+1) f fd ["self"] (wD K C "copied"):=by
 have c:=aYQ;refine F.ok (k:=n) c (λi A outer s H m Q E d h=>?_);obtain⟨e,tp,rfl,j,q⟩:=h;refine⟨_,(yF (yY (uL a d rfl (yA (pv 0) (yA yQ yD))))),?_⟩;exact⟨_,rfl,e,C,tp,_,rfl,j,l,λg b=>q g b⟩
abbrev Y9:Stmt:=xF "Answered" "__init__"
theorem aJR:yO ["self"] ["self"] (yH Y9):=scM
theorem aJp(a:aVW P w K mg base n "Refused" "__init__" ["self","words"] (wR K))(l:vU K C)(F:Fun K "__init__" "Answered.__init__" Y9 f fd):xD P w K mg base CX0 (n+1) f fd ["self"] (wD K C "answered"):=by
 have c:=aJR;refine F.ok (k:=n) c (λi A outer s H m Q E d h=>?_);obtain⟨e,tp,rfl,j,q⟩:=h;refine⟨_,(yF (yY (uL a d rfl (yA (pv 0) (yA yQ yD))))),?_⟩;exact⟨_,rfl,e,C,tp,_,rfl,j,l,λg b=>q g b⟩
abbrev jU:Stmt:=xF "CountsNot" "__init__"
theorem aZJ:yO ["self"] ["self"] (yH jU):=scM
theorem aZw(a:aVW P w K mg base n "Refused" "__init__" ["self","words"] (wR K))(l:vU K C)(F:Fun K "__init__" "CountsNot.__init__" jU f fd):xD P w K mg base CX0 (n+1) f fd ["self"] (wD K C "counts not"):=by
 have c:=aZJ;refine F.ok (k:=n) c (λi A outer s H m Q E d h=>?_);obtain⟨e,tp,rfl,j,q⟩:=h;refine⟨_,(yF (yY (uL a d rfl (yA (pv 0) (yA yQ yD))))),?_⟩;exact⟨_,rfl,e,C,tp,_,rfl,j,l,λg b=>q g b⟩
end
end Desk
namespace End4
open PySem L2 PyProof.Rows
section
variable {K:bYc}{x m qual t:Str}{st:Stmt}{f C R CB CL:Nat}{oc:bYa}{od an:Option Nat}{osl:Array (Option bYa)}{kV doc pm cdv ct:bYa}
structure vL(K:bYc)(x:Str)(st:Stmt)(f:Nat):Prop where
 ns:bY5 K bYG x=some (some (.ref f))
 ex:∃fd,Fun K x x st f fd
def Def(K:bYc)(x:Str)(st:Stmt):Prop:=∃f,vL K x st f
theorem xS(a:bY5 K bYG x=some (some (.ref f)))(l:K.lookup f=some ⟨oc,od,.func (cQu x x (zQ st) (zC st) (yH st) .none kV doc pm an cdv ct),osl⟩)
  (c:cQS K cdv x=true) (k:bY6 K (.ref f)=true):vL K x st f:=⟨a,_,aQ7 l c k⟩
theorem xH(a:bY5 K bYG x=some (some (.ref f)))(l:K.lookup f=some ⟨oc,od,.func (cQu x x (zQ st) (zC st) (yH st) .none kV doc pm an cdv ct),osl⟩)
  (c:cQS K cdv x=true) (k:bY6 K (.ref f)=true):Def K x st:=⟨f,xS a l c k⟩
structure Mtd(K:bYc)(C:Nat)(m qual:Str)(st:Stmt):Prop where
 ex:∃f fd,bVU K C m f/\Fun K m qual st f fd
theorem x2(a:bYV K (.ref C) m=some (some (.ref f)))(i:cXQ K (.ref f)=true)(l:K.lookup f=some ⟨oc,od,.func (cQu m qual (zQ st) (zC st) (yH st) .none kV doc pm an cdv ct),osl⟩)
  (c:cQS K cdv qual=true) (k:bY6 K (.ref f)=true):Mtd K C m qual st:=⟨f,_,⟨a,i,k⟩,aQ7 l c k⟩
structure MkD(K:bYc)(x:Str)(C:Nat)(qual:Str)(st:Stmt):Prop where
 ns:bY5 K bYG x=some (some (.ref C))
 ex:∃f fd,Mk K C f/\Fun K "__init__" qual st f fd
theorem bZM(a:bY5 K bYG x=some (some (.ref C)))(mk:PySem.W.makesIn K C=true)(b:bY6 K (.ref C)=true)(d:bYV K (.ref C) "__init__"=some (some (.ref f)))(i:cXQ K (.ref f)=true) (l:K.lookup f=some ⟨oc,od,.func (cQu "__init__" qual (zQ st) (zC st) (yH st) .none kV doc pm an cdv ct),osl⟩) (c:cQS K cdv qual=true) (k:bY6 K (.ref f)=true):MkD K x C qual st:=
 ⟨a,f,_,⟨mk,d,i,b⟩,aQ7 l c k⟩
structure Exc(K:bYc)(R:Nat)(x qual:Str)(st:Stmt):Prop where
 ex:∃C f fd,bY5 K bYG x=some (some (.ref C))/\vU K C/\cZn K C (.ref R)=some true/\bYV K (.ref C) "__init__"=some (some (.ref f))/\cXQ K (.ref f)=true/\bY6 K (.ref C)=true/\Fun K "__init__" qual st f fd
theorem uH(a:bY5 K bYG x=some (some (.ref C)))(e:bQL K C=true)(d:cZn K C (.ref R)=some true)(b:bY6 K (.ref C)=true)(g:bYV K (.ref C) "__init__"=some (some (.ref f)))(i:cXQ K (.ref f)=true) (l:K.lookup f=some ⟨oc,od,.func (cQu "__init__" qual (zQ st) (zC st) (yH st) .none kV doc pm an cdv ct),osl⟩) (c:cQS K cdv qual=true) (k:bY6 K (.ref f)=true):Exc K R x qual st:=
 ⟨C,f,_,a,aKz e,d,g,i,b,aQ7 l c k⟩
structure bKi(K:bYc)(x:Str)(R:Nat)(qual:Str)(st:Stmt):Prop where
 ns:bY5 K bYG x=some (some (.ref R))
 cl:vU K R
 ex:∃f fd,PySem.W.readsIn K R (.type "type")=true/\PySem.W.findCls K (.ref R) (.type "type") "__init__"=some (.val (.ref f))/\cZG K (.ref R) "__getattribute__"=some (some (.builtin "type.__getattribute__"))/\Fun K "__init__" qual st f fd
theorem bJ9(a:bY5 K bYG x=some (some (.ref R)))(e:bQL K R=true)(rd:PySem.W.readsIn K R (.type "type")=true)(b:PySem.W.findCls K (.ref R) (.type "type") "__init__"=some (.val (.ref f))) (sp:cZG K (.ref R) "__getattribute__"=some (some (.builtin "type.__getattribute__"))) (l:K.lookup f=some ⟨oc,od,.func (cQu "__init__" qual (zQ st) (zC st) (yH st) .none kV doc pm an cdv ct),osl⟩) (c:cQS K cdv qual=true) (k:bY6 K (.ref f)=true):bKi K x R qual st:=
 ⟨a,aKz e,f,_,rd,b,sp,aQ7 l c k⟩
theorem bKm(b1:cXR K CB Str.empty=true)(f:cX7 K CB=true)(r:cZF K CB=true)(c:bYV K (.ref CB) "__setattr__"=some (some (.builtin "object.__setattr__")))
  (p:cXR K CL Str.empty=true) (l:cX7 K CL=true) (j:cZF K CL=true) (k:bYV K (.ref CL) "__setattr__"=some (some (.builtin "object.__setattr__")))
  (m:bYV K (.ref CB) "letters"=some none) (n:bYV K (.ref CB) "shut"=some none)
  (i:bYV K (.ref CL) "number"=some none) (g:bYV K (.ref CL) "way"=some none) (h:bYV K (.ref CL) "day"=some none) (q:bYV K (.ref CL) "partner"=some none)
  (o:bYV K (.ref CL) "term"=some none) (d:bYV K (.ref CL) "link"=some none) (e:bYV K (.ref CL) "file"=some none) (b:bYV K (.ref CL) "copies"=some none) (a:bYV K (.ref CL) "void"=some none):
  Desk.Cl K CB CL:=⟨⟨b1,f,r,c⟩,⟨p,l,j,k⟩,m,n,i,g,h,q,o,d,e,b,a⟩
end
section
variable {P:bYx}{w:bYD}{K:bYc}{h:Heap}{mg:Str->Option bYa}{base:Heap}{x m qual t:Str}{st:Stmt}{f C R:Nat}{k:Nat}{ps:List Str}{sp:Sp}{CX:CXT}
def aQT(x qual:Str)(st:Stmt)(ps:List Str):Prop:=∀ (kV doc pm:bYa)(an:Option Nat)(cdv ct:bYa)(a:List bYa),a.length=ps.length->bindArgs (cQu x qual (zQ st) (zC st) (yH st) .none kV doc pm an cdv ct) ⟨a,[]⟩=pure (ps.zip a)
theorem W6{a:cQ9}(F:Fun K x qual st f a):bY6 K (.ref f)=true:=F.2
theorem gOf(P:bYx)(w:bYD)(base:Heap)(k:Nat)(X:K.In h)(G:h.Ns bYG mg)(D:Def K x st)(b:aQT x x st ps)(ok:∀f c,Fun K x x st f c->xD P w K mg base CX0 k f c ps sp):FnG P w K mg base k x ps sp:=by
 obtain⟨f,a,c,F⟩:=D;exact⟨f,c,ok f c F,F.binds b,W6 F,cQ6 X G a⟩
theorem xOf(P:bYx)(w:bYD)(base:Heap)(k:Nat)(X:K.In h)(G:h.Ns bYG mg)(D:Def K x st)(b:aQT x x st ps)(ok:∀f c,Fun K x x st f c->xD P w K mg base (CXR P w) k f c ps sp):FnX P w K mg base k x ps sp:=by
 obtain⟨f,a,c,F⟩:=D;exact⟨f,c,ok f c F,F.binds b,W6 F,cQ6 X G a⟩
structure DoG(P:bYx)(w:bYD)(K:bYc)(mg:Str->Option bYa)(base:Heap)(k:Nat)(f:Nat)(ps:List Str)(sp:Sp):Prop where
 ex:∃fd,xD P w K mg base (CXR P w) k f fd ps sp/\vT K fd ps []/\bY6 K (.ref f)=true
theorem dOf(mg:Str->Option bYa)(P:bYx)(w:bYD)(base:Heap)(k:Nat)(D:vL K x st f)(b:aQT x x st ps)(ok:∀f c,Fun K x x st f c->xD P w K mg base (CXR P w) k f c ps sp):DoG P w K mg base k f ps sp:=by
 obtain⟨a,c,F⟩:=D;exact⟨c,ok f c F,F.binds b,W6 F⟩
theorem mOf(mg:Str->Option bYa)(P:bYx)(w:bYD)(base:Heap)(k:Nat)(c:Cls K C)(D:Mtd K C m qual st)(b:aQT m qual st ps)(ok:∀f a,Fun K m qual st f a->xD P w K mg base CX0 k f a ps sp):MG P w K mg base CX0 k C m ps sp:=by
 obtain⟨f,a,M,F⟩:=D.ex;exact⟨⟨f,a,ok f a F,F.binds b,M⟩,c⟩
theorem aJo(mg:Str->Option bYa)(P:bYx)(w:bYD)(base:Heap)(k:Nat)(c:Cls K C)(D:Mtd K C m qual st)(b:aQT m qual st ps)(ok:∀f a,Fun K m qual st f a->xD P w K mg base (CXR P w) k f a ps sp):MG P w K mg base (CXR P w) k C m ps sp:=by
 obtain⟨f,a,M,F⟩:=D.ex;exact⟨⟨f,a,ok f a F,F.binds b,M⟩,c⟩
theorem kOf(P:bYx)(w:bYD)(base:Heap)(k:Nat)(X:K.In h)(G:h.Ns bYG mg)(D:MkD K x C qual st)(b:aQT "__init__" qual st ps)(ok:∀f a,Fun K "__init__" qual st f a->xD P w K mg base CX0 k f a ps sp):MkG P w K mg base k x C ps sp:=by
 obtain⟨f,a,M,F⟩:=D.ex;exact⟨⟨f,a,ok f a F,F.binds b,M,cQ6 X G D.ns⟩⟩
theorem eOf(P:bYx)(w:bYD)(base:Heap)(k:Nat)(t:Str)(X:K.In h)(G:h.Ns bYG mg)(D:Exc K R x qual st)(b:aQT "__init__" qual st ["self"])(ok:∀C f c,vU K C->Fun K "__init__" qual st f c->xD P w K mg base CX0 k f c ["self"] (wD K C t)):∃C,ExG P w K mg base k x R C t:=by
 obtain⟨C,f,c,a,e,g,d,i,j,F⟩:=D.ex;exact⟨C,⟨f,c,ok C f c e F,F.binds b,d,i,j,cQ6 X G a⟩,e,g⟩
theorem rOf(P:bYx)(w:bYD)(base:Heap)(k:Nat)(X:K.In h)(G:h.Ns bYG mg)(D:bKi K x R qual st)(b:aQT "__init__" qual st ps)(ok:∀f a,Fun K "__init__" qual st f a->xD P w K mg base CX0 k f a ps sp):aVW P w K mg base k x "__init__" ps sp:=by
 obtain⟨f,a,rd,c,s,F⟩:=D.ex;exact⟨⟨R,f,a,ok f a F,F.binds b,rd,c,s,W6 F,cQ6 X G D.ns⟩⟩
end
def Pr(w:bYD):List DictEntry->List (Str×Nat)->Prop
 |[],[]=>True
 |e::es,(x,f)::r=>(∃t,e.key= .str x t)/\e.hash=hashStr w x/\e.val= .ref f/\Pr w es r
 |_,_=>False
abbrev bZJ(r:List (Str×Nat)):List (Key×bYa):=r.map λp=>(Sum.inr p.1,.ref p.2)
theorem aVv{P:bYx}{w:bYD}:∀ {a:List DictEntry} {r:List (Str×Nat)},Pr w a r->Pairs (x6 P w) a (bZJ r)
 |[],[],_=> .nil
 |e::a,(x,f)::r,⟨⟨t,h1⟩,h2,h3,h4⟩=> .cons (by rw[h1];exact jR P w x t) h3 (aVv h4)
 |[],_::_,h=>nomatch h
 |_::_,[],h=>nomatch h
theorem aYr{P:bYx}{w:bYD}:∀ {a:List DictEntry} {r:List (Str×Nat)},Pr w a r->∀e∈a,∃k,(x6 P w).is k e.key=true/\e.hash=(x6 P w).hash k
 |[],_,_,e,he=>nomatch he
 |e::a,(x,f)::r,⟨⟨t,h1⟩,h2,h3,h4⟩,e',he=>by
  rcases bYj.mp he with rfl|z
  ·exact⟨Sum.inr x,by rw[h1];exact jR P w x t,h2⟩
  ·exact aYr h4 e' z
 |_::_,[],h,_,_=>nomatch h
theorem bVP{P:bYx}{w:bYD}{K:bYc}{D:Nat}{d:Array DictEntry}{f:Nat}{r:List (Str×Nat)}(l:K.lookup D=some ⟨.type "dict",none,.dict d f, #[]⟩)(p:Pr w d.toList r)(g:(r.map (·.1)).Nodup):Desk.bKk P w K D (bZJ r):=by
 refine⟨⟨_,d,f,l,⟨rfl,rfl,rfl⟩,rfl,λe h=>aYr p e (Array.mem_toList_iff.mpr h),aVv p,?_⟩⟩;have e:(bZJ r).map (·.1)=(r.map (·.1)).map Sum.inr:=by simp[bZJ,Function.comp_def]
 rw[e];exact List.Pairwise.map _ (λa b c z=>c (Sum.inr.inj z)) g
theorem uA:∀ {r:List (Str×Nat)} {x:Str} {f:Nat},(r.map (·.1)).Nodup->∀i:Nat,r[i]? =some (x,f)->cZu (bZJ r) (Sum.inr x:Key)=some (.ref f)
 |[],_,_,_,_,h=>by simp at h
 |(y,g)::r,x,f,nd,0,h=>by cases h;simp[cZu,bZJ]
 |(y,g)::r,x,f,nd,i+1,h=>by
  have c:r[i]? =some (x,f):=by simpa using h
  have a:=cXc.mp nd;have d:¬ ((Sum.inr y:Key)=Sum.inr x):=λz=>a.1 (by
   rw[Sum.inr.inj z];exact cQa.mpr ⟨(x,f),bYt c,rfl⟩)
  have b:=uA a.2 i c;unfold cZu at b ⊢;simp only[bZJ,bY0,cXA,decide_eq_false d]at b ⊢;exact b
end End4
namespace L2
open PySem
section
variable {P:bYx}{w:bYD}{K:bYc}{mg:Str->Option bYa}{base:Heap}{j k:Nat}{x t:Str}{ps:List Str}{sp:Sp}{C Rf:Nat}{CX:CXT}
theorem FnG.up(G:FnG P w K mg base j x ps sp)(h:j<=k:=by decide):FnG P w K mg base k x ps sp:=G.mono h
theorem FnX.up(G:FnX P w K mg base j x ps sp)(h:j<=k:=by decide):FnX P w K mg base k x ps sp:=G.mono h
theorem MG.up(G:MG P w K mg base CX j C x ps sp)(h:j<=k:=by decide):MG P w K mg base CX k C x ps sp:=G.mono h
theorem MkG.up(G:MkG P w K mg base j x C ps sp)(h:j<=k:=by decide):MkG P w K mg base k x C ps sp:=G.mono h
theorem ExG.up(G:ExG P w K mg base j x Rf C t)(h:j<=k:=by decide):ExG P w K mg base k x Rf C t:=G.mono h
end
end L2
namespace End4
open PySem L2 PyProof.Rows
theorem bdA{x qual:Str}{st:Stmt}{ps:List Str}(h:aQT x qual st ps:=by
  intro a b c d e f u h;rcases u with _|⟨_,_|⟨_,_|⟨_,_|⟨_,_|⟨_,_|⟨_,_|⟨_,_⟩⟩⟩⟩⟩⟩⟩<;> first|(cases h;done)|kernel_rfl):aQT x qual st ps:=h
end End4
namespace End4
open PySem L2 PyProof.Rows
set_option maxHeartbeats 0 in
theorem all_mk{l:PySem.W.OpenLaw}{w:bYD}{K:bYc}{h:Heap}{mg:Str->Option bYa}{fa R L CL cA J fA fL DD i y A x D z B H I E u q r k p j:Nat}{j8 e5:Option Nat}{c6:Array (Option bYa)}{c3 k9 b6 b4 j6:bYa}{a8:Array DictEntry}{i4:Nat}{tW tO:Tok} (X:K.In h) (G:h.Ns bYG mg) (c8:mg "law"=some (.ref fa)) (d60:bKi K "Refused" R "Refused.__init__" Desk.aQA) (d61:Exc K R "NoLetter" "NoLetter.__init__" Desk.X0) (d62:Exc K R "NoTerm" "NoTerm.__init__" Desk.aXO) (d63:Exc K R "HasOne" "HasOne.__init__" Desk.aXN) (d64:Exc K R "HasNone" "HasNone.__init__" Desk.aQz) (d65:Exc K R "OwnThread" "OwnThread.__init__" Desk.jV) (d66:Exc K R "SameWay" "SameWay.__init__" Desk.aQB) (d67:Exc K R "OtherPartner" "OtherPartner.__init__" Desk.vK) (d68:Exc K R "TooEarly" "TooEarly.__init__" Desk.X1) (d69:Exc K R "Copied" "Copied.__init__" Desk.aXM) (d70:Exc K R "Answered" "Answered.__init__" Desk.Y9) (d71:Exc K R "CountsNot" "CountsNot.__init__" Desk.jU) (d9:MkD K "Letter" CL "Letter.__init__" Desk.aYG) (d24:MkD K "Book" L "Book.__init__" Desk.aYy) (cl:Desk.Cl K L CL) (d10:Mtd K CL "state" "Letter.state" Desk.aYL) (d11:Mtd K CL "is_answered_by" "Letter.is_answered_by" Desk.aYx) (d12:Mtd K CL "has_gone_to" "Letter.has_gone_to" Desk.bVd) (d13:Mtd K CL "make_void" "Letter.make_void" Desk.bVo) (d15:Mtd K L "letter_at" "Book.letter_at" Desk.aQw) (d16:Mtd K L "answers_to" "Book.answers_to" Desk.aVz) (d17:Mtd K L "copies_of" "Book.copies_of" Desk.aQv) (d18:Mtd K L "state_of" "Book.state_of" Desk.aXK) (d19:Mtd K L "letters_in" "Book.letters_in" Desk.jA) (d20:Mtd K L "answered_by" "Book.answered_by" Desk.aQu) (d21:Mtd K L "waiting_pairs" "Book.waiting_pairs" Desk.aYI) (d22:Mtd K L "waiting" "Book.waiting" Desk.J8) (d23:Mtd K L "overdue" "Book.overdue" Desk.J7) (d25:Mtd K L "add_letter" "Book.add_letter" Desk.bKw) (d28:Mtd K L "enter" "Book.enter" Desk.aYE) (d29:Mtd K L "reply" "Book.reply" Desk.aYK) (d30:Mtd K L "loosen" "Book.loosen" Desk.aJO) (d31:Mtd K L "put_term" "Book.put_term" Desk.aXI) (d32:Mtd K L "send_copy" "Book.send_copy" Desk.bVm) (d33:Mtd K L "cancel" "Book.cancel" Desk.aJL) (d34:Mtd K L "shut_day" "Book.shut_day" Desk.bVn) (d35:Mtd K L "put_day" "Book.put_day" Desk.aJP) (d36:Mtd K L "thread_of" "Book.thread_of" Desk.qP) (d37:Mtd K L "lay_thread" "Book.lay_thread" Desk.bKz) (d38:Mtd K L "check_hanging" "Book.check_hanging" Desk.aYz) (d39:Mtd K L "hang" "Book.hang" Desk.bVf) (d58:Mtd K L "standing_states" "Book.standing_states" Desk.aXL) (d1:Def K "open_by_rest" Days.bVk) (d2:Def K "place_of" Days.aYJ) (d3:Def K "counts" Days.aJM) (d4:Def K "closed_days" Days.aXE) (d5:Def K "day_at" Days.aYB) (d6:Def K "due_day" Days.bKy) (d7:Def K "top_of" Thr.aYO) (d8:Def K "thread" Thr.aJQ) (d14:Def K "other_way" Desk.aYH) (d26:Def K "check_term" Desk.aYM) (d27:Def K "check_days" Desk.aYC) (d56:Def K "answer" Desk.aJJ) (d57:Def K "answers" Desk.W9) (d59:Def K "standing" Desk.aQx) (d72:Def K "_law_good" Law.bVe) (d73:Def K "_law_kids_of" Law.bXM) (d74:Def K "_law_waits_on" Law.aVB) (d75:Def K "_law_due_by" Law.aYD) (d76:Def K "_law_list_on" Law.aXH) (d77:Def K "_law_family" Law.aXG) (d78:Def K "_law_lost" Law.bVi) (d79:Def K "_law_dated" Law.aYA) (d80:Def K "_law_hung" Law.bVg) (d81:Def K "_law_entered" Law.aXF) (d82:Def K "_law_with_one" Law.bVp) (d83:Def K "_law_told_of" Law.aYN) (d84:Def K "_law_done_by" Law.bVb) (d85:Def K "_law_hanging" Law.J2) (d86:Def K "_law_about" Law.aVy) (d87:Def K "_law_deed_at" Law.aJN) (d88:Def K "_law_story" Law.aVA) (d89:Def K "_law_whole" Alike.aYP) (d90:Def K "_law_room" Alike.bVl) (d91:Def K "_law_unturned" Alike.aQy) (d92:Def K "_law_book_of" Alike.aJK) (d93:Def K "_law_standing_of" Alike.aXJ) (d94:Def K "_law_hangs_right" Alike.aYF) (d95:Def K "_law_ends" Alike.bVc) (d96:Def K "_law_numbered" Alike.bVj) (d40:vL K "do_enter" Desk.X2 i) (d41:vL K "do_reply" Desk.X4 y) (d42:vL K "do_hang" Desk.aQF A) (d43:vL K "do_loose" Desk.X3 x) (d44:vL K "do_date" Desk.aQD D) (d45:vL K "do_term" Desk.aQH z) (d46:vL K "do_copy" Desk.aQC B) (d47:vL K "do_file" Desk.aQE H) (d48:vL K "do_void" Desk.aQI I) (d49:vL K "do_shut" Desk.aQG E) (d50:vL K "ask_state" Desk.jW u) (d51:vL K "ask_thread" Desk.uN q) (d52:vL K "ask_copies" Desk.uM r) (d53:vL K "ask_letters" Desk.vZ k) (d54:vL K "ask_waiting" Desk.v1 p) (d55:vL K "ask_overdue" Desk.v0 j) (dL:vL K "law" Alike.bW9 fL) (aA:bY5 K bYG "answers_to_each"=some (some (.ref fA))) (lA:K.lookup fA=some ⟨c3,j8,.func (cQu "answers_to_each" "answers_to_each" (zQ Thr.aJI) (zC Thr.aJI) (yH Thr.aJI) .none k9 b6 b4 e5 (.ref cA) j6),c6⟩) (cA1:cQS K (.ref cA) "answers_to_each"=true) (kA:bY6 K (.ref fA)=true) (nD:bY5 K bYG "DEEDS"=some (some (.ref DD))) (lD:K.lookup DD=some ⟨.type "dict",none,.dict a8 i4, #[]⟩) (pD:Pr w a8.toList [("in",i),("out",i),("reply",y),("hang",A),("loose",x),("date",D),("term",z),("copy",B),("file",H),("void",I),("shut",E),("state",u),("thread",q),("copies",r),("letters",k),("waiting",p),("overdue",j)]) (z_len:bY5 K bYG "len"=some none) (z_min:bY5 K bYG "min"=some none) (z_sum:bY5 K bYG "sum"=some none) (z_sorted:bY5 K bYG "sorted"=some none) (z_isinstance:bY5 K bYG "isinstance"=some none) (z_int:bY5 K bYG "int"=some none) (z_str:bY5 K bYG "str"=some none) (z_bool:bY5 K bYG "bool"=some none) (z_list:bY5 K bYG "list"=some none) (z_tuple:bY5 K bYG "tuple"=some none) (z_set:bY5 K bYG "set"=some none) (z_range:bY5 K bYG "range"=some none) (z_reversed:bY5 K bYG "reversed"=some none) (z_max:bY5 K bYG "max"=some none) (y_week:bY5 K bYG "WEEK"=some (some (.int 7 tW))) (y_open:bY5 K bYG "OPEN_DAYS"=some (some (.int 5 tO))) (tb:cZL K cA J=true) (tn:K.lookup J=none) :∃ (g:cQ9)(c:Nat),cZL K c J=true/\K.lookup J=none/\(∀ (s:bYd)(v:bYa),BindsTo s g ⟨[v],[]⟩ [("_law_script",v)])/\∀base:Heap,K.In base->base.Ns bYG mg->cXg base c J->base.BuiltinsAt mg J->xD l.prog w K mg base CX0 11 fa g ["_law_script"] (Alike.bZd J K):=by
 obtain⟨aL,a9,Q⟩:=dL;have e:=c8.symm.trans (cQ6 X G aL);cases e;have TD:Days.vA mg:=⟨bYq X G z_len,bYq X G z_min,bYq X G z_sum,bYq X G z_sorted,bYq X G z_isinstance,bYq X G z_int,bYq X G z_str,bYq X G z_bool,bYq X G z_list,bYq X G z_tuple,bYq X G z_set,bYq X G z_range,bYq X G z_reversed,⟨_,cQ6 X G y_week⟩,⟨_,cQ6 X G y_open⟩⟩;have TT:Thr.vA mg:=⟨bYq X G z_len,bYq X G z_sorted,bYq X G z_isinstance,bYq X G z_int,bYq X G z_str,bYq X G z_bool,bYq X G z_list,bYq X G z_tuple,bYq X G z_range⟩;have TB:Desk.vA mg:=⟨bYq X G z_len,bYq X G z_sorted,bYq X G z_list⟩;have T:Law.vA mg:=⟨bYq X G z_len,bYq X G z_range⟩;have TA:Alike.vA mg:=⟨bYq X G z_len,bYq X G z_sorted,bYq X G z_isinstance,bYq X G z_int,bYq X G z_str,bYq X G z_bool,bYq X G z_list,bYq X G z_tuple,bYq X G z_range⟩;have bL:∀ (s:bYd)(v:bYa),BindsTo s a9 ⟨[v],[]⟩ [("_law_script",v)]:=by obtain⟨oc,od,kV,l8,pm,an,l6,ct,l9,rfl,lk,l5⟩:=Q.ex;exact λs v=> .of_eq rfl
 refine⟨a9,cA,tb,tn,bL,λbase _ _ M hB=>?_⟩;have g0:FnG l.prog w K mg base 2 "answers_to_each" ["links","dates"] (Thr.bVJ J):=⟨fA,_,Thr.bWu TT M hB lA cA1,(aQ7 (st:=Thr.aJI) lA cA1 kA).binds bdA,kA,cQ6 X G aA⟩;have g1:=gOf l.prog w base 1 X G d1 bdA λf g F=>Days.bJT TD F;have g2:=gOf l.prog w base 1 X G d2 bdA λf g F=>Days.bXr TD F;have g3:=gOf l.prog w base 2 X G d3 bdA λf g F=>Days.aYb TD g1.up F;have g4:=gOf l.prog w base 2 X G d4 bdA λf g F=>Days.aYa TD g1.up F;have g5:=gOf l.prog w base 1 X G d5 bdA λf g F=>Days.bXj TD F;have g6:=gOf l.prog w base 3 X G d6 bdA λf g F=>Days.bWv TD g4.up g2.up g5.up F;have g7:=gOf l.prog w base 1 X G d7 bdA λf g F=>Thr.bXw TT F;have g8:=gOf l.prog w base 3 X G d8 bdA λf g F=>Thr.aYi TT g0.up g7.up F;have g9:=kOf l.prog w base 1 X G d9 bdA λf g F=>Desk.bXo (n:=0) cl F;have b0:=mOf mg l.prog w base 1 cl.l d10 bdA λf g F=>Desk.bXt (n:=0) cl F;have d0:=mOf mg l.prog w base 1 cl.l d11 bdA λf g F=>Desk.bXe (n:=0) cl F;have l2:=mOf mg l.prog w base 1 cl.l d12 bdA λf g F=>Desk.bJL (n:=0) cl F;have h5:=mOf mg l.prog w base 1 cl.l d13 bdA λf g F=>Desk.bJY (n:=0) cl F;have i1:=gOf l.prog w base 1 X G d14 bdA λf g F=>Desk.bXp (n:=0) F;have b2:=mOf mg l.prog w base 2 cl.b d16 bdA λf g F=>Desk.bXf (n:=1) cl d0.up F;have l1:=mOf mg l.prog w base 1 cl.b d19 bdA λf g F=>Desk.aZz (n:=0) cl F;have i3:=mOf mg l.prog w base 1 cl.b d20 bdA λf g F=>Desk.aJs (n:=0) cl F;have a7:=mOf mg l.prog w base 4 cl.b d21 bdA λf g F=>Desk.bXq (n:=3) TB cl i3.up g6.up F;have e6:=mOf mg l.prog w base 5 cl.b d22 bdA λf g F=>Desk.aWH (n:=4) cl a7.up F;have h6:=mOf mg l.prog w base 5 cl.b d23 bdA λf g F=>Desk.aWD (n:=4) cl a7.up F;have a3:=kOf l.prog w base 1 X G d24 bdA λf g F=>Desk.bXg (n:=0) cl F;have b1:=mOf mg l.prog w base 3 cl.b d25 bdA λf g F=>Desk.bWt (n:=1) TB cl g9.up F;have b9:=dOf mg l.prog w base 2 d53 bdA λf g F=>Desk.aQZ (n:=1) (Rf:=(R,J)) l1.up F;have i2:=dOf mg l.prog w base 6 d54 bdA λf g F=>Desk.aQ1 (n:=5) (Rf:=(R,J)) e6.up F;have e9:=dOf mg l.prog w base 6 d55 bdA λf g F=>Desk.aQ0 (n:=5) (Rf:=(R,J)) h6.up F;have k2:=mOf mg l.prog w base 2 cl.b d58 bdA λf g F=>Desk.aYh (n:=1) cl b0.up F;have N:=rOf l.prog w base 1 X G d60 bdA λf g F=>Desk.aWr (n:=0) F;obtain⟨_,k1⟩:=eOf l.prog w base 2 "no letter" X G d61 bdA λC f g M F=>Desk.aJq (n:=1) N M F;obtain⟨_,c2⟩:=eOf l.prog w base 2 "no term" X G d62 bdA λC f g M F=>Desk.aK6 (n:=1) N M F;obtain⟨_,f8⟩:=eOf l.prog w base 2 "has one" X G d63 bdA λC f g M F=>Desk.aK5 (n:=1) N M F;obtain⟨_,c1⟩:=eOf l.prog w base 2 "has none" X G d64 bdA λC f g M F=>Desk.aWq (n:=1) N M F;obtain⟨_,e8⟩:=eOf l.prog w base 2 "own thread" X G d65 bdA λC f g M F=>Desk.aZx (n:=1) N M F;obtain⟨_,h3⟩:=eOf l.prog w base 2 "same way" X G d66 bdA λC f g M F=>Desk.aWs (n:=1) N M F;obtain⟨_,i8⟩:=eOf l.prog w base 2 "other partner" X G d67 bdA λC f g M F=>Desk.aQk (n:=1) N M F;obtain⟨_,l4⟩:=eOf l.prog w base 2 "too early" X G d68 bdA λC f g M F=>Desk.aJr (n:=1) N M F;obtain⟨_,j9⟩:=eOf l.prog w base 2 "copied" X G d69 bdA λC f g M F=>Desk.aK4 (n:=1) N M F;obtain⟨_,h8⟩:=eOf l.prog w base 2 "answered" X G d70 bdA λC f g M F=>Desk.aJp (n:=1) N M F;obtain⟨_,f1⟩:=eOf l.prog w base 2 "counts not" X G d71 bdA λC f g M F=>Desk.aZw (n:=1) N M F;have S:=gOf l.prog w base 1 X G d72 bdA λf g F=>Law.bJM T F;have a2:=gOf l.prog w base 1 X G d73 bdA λf g F=>Law.bJP T F;have f4:=gOf l.prog w base 2 X G d74 bdA λf g F=>Law.bXx T (bYq X G z_min) a2.up F;have b7:=gOf l.prog w base 1 X G d75 bdA λf g F=>Law.bXl T F;have h2:=gOf l.prog w base 3 X G d76 bdA λf g F=>Law.aYe T (bYq X G z_sorted) f4.up b7.up F;have Y:=gOf l.prog w base 2 X G d77 bdA λf g F=>Law.aYd T (bYq X G z_sorted) F;have h4:=gOf l.prog w base 2 X G d78 bdA λf g F=>Law.bJQ a2.up F;have e7:=gOf l.prog w base 2 X G d79 bdA λf g F=>Law.bXi a2.up F;have k3:=gOf l.prog w base 3 X G d80 bdA λf g F=>Law.bJO S.up Y.up F;have f6:=gOf l.prog w base 3 X G d81 bdA λf g F=>Law.aWB T (bYq X G z_int) S.up F;have b5:=gOf l.prog w base 3 X G d82 bdA λf g F=>Law.bJZ T S.up e7.up h4.up Y.up F;have f9:=gOf l.prog w base 4 X G d83 bdA λf g F=>Law.bJX T (bYq X G z_list) (bYq X G z_tuple) S.up h2.up Y.up F;have b3:=gOf l.prog w base 5 X G d84 bdA λf g F=>Law.bJJ f6.up k3.up f9.up b5.up F;have l0:=gOf l.prog w base 2 X G d85 bdA λf g F=>Law.aWC T (bYq X G z_int) S.up F;have c9:=gOf l.prog w base 2 X G d86 bdA λf g F=>Law.bXd T (bYq X G z_int) S.up F;have i6:=gOf l.prog w base 3 X G d87 bdA λf g F=>Law.aYc T (bYq X G z_int) (bYq X G z_max) S.up l0.up c9.up F;have j1:=gOf l.prog w base 6 X G d88 bdA λf g F=>Law.bXu T b3.up i6.up F;have j3:=gOf l.prog w base 1 X G d89 bdA λf g F=>Alike.bXy TA F;have f3:=gOf l.prog w base 1 X G d90 bdA λf g F=>Alike.bJU TA F;have h9:=gOf l.prog w base 1 X G d91 bdA λf g F=>Alike.aJz TA F;have l3:=gOf l.prog w base 6 X G d92 bdA λf g F=>Alike.aK8 (n:=5) b3.up F;have f7:=gOf l.prog w base 1 X G d93 bdA λf g F=>Alike.aWF TA F;have j2:=gOf l.prog w base 1 X G d94 bdA λf g F=>Alike.bXn TA F;have b8:=gOf l.prog w base 1 X G d95 bdA λf g F=>Alike.bJK TA F;have k5:=gOf l.prog w base 2 X G d96 bdA λf g F=>Alike.bJS (n:=1) TA j3.up F;have O:=aJo mg l.prog w base 4 cl.b d15 bdA λf g F=>Desk.bKs (n:=2) (Rf:=(R,J)) TB cl k1.up F;have i0:=aJo mg l.prog w base 5 cl.b d17 bdA λf g F=>Desk.aJt (n:=4) (Rf:=(R,J)) TB cl O.up F;have c7:=aJo mg l.prog w base 5 cl.b d18 bdA λf g F=>Desk.aWG (n:=4) (Rf:=(R,J)) cl O.up b0.up F;have a1:=xOf l.prog w base 4 X G d26 bdA λf g F=>Desk.bXv (n:=2) (Rf:=(R,J)) c2.up F;have a0:=xOf l.prog w base 4 X G d27 bdA λf g F=>Desk.bXk (n:=2) (Rf:=(R,J)) l4.up F;have k6:=aJo mg l.prog w base 5 cl.b d28 bdA λf g F=>Desk.bXm (n:=4) (Rf:=(R,J)) cl a1.up b1.up F;have j5:=aJo mg l.prog w base 5 cl.b d29 bdA λf g F=>Desk.bXs (n:=4) (Rf:=(R,J)) cl O.up a1.up a0.up i1.up b1.up F
 have j4:=aJo mg l.prog w base 5 cl.b d30 bdA λf g F=>Desk.aYf (n:=3) (Rf:=(R,J)) cl O.up c1.up F;have e4:=aJo mg l.prog w base 5 cl.b d31 bdA λf g F=>Desk.aWE (n:=4) (Rf:=(R,J)) cl O.up a1.up F;have f0:=aJo mg l.prog w base 5 cl.b d32 bdA λf g F=>Desk.bJV (n:=3) (Rf:=(R,J)) TB cl O.up l2.up j9.up F;have h7:=aJo mg l.prog w base 5 cl.b d33 bdA λf g F=>Desk.aK9 (n:=3) (Rf:=(R,J)) TB cl O.up b2.up h5.up h8.up F;have i9:=aJo mg l.prog w base 4 cl.b d34 bdA λf g F=>Desk.bJW (n:=2) (Rf:=(R,J)) cl g3.up f1.up F;have e0:=aJo mg l.prog w base 5 cl.b d35 bdA λf g F=>Desk.aYg (n:=4) (Rf:=(R,J)) cl O.up b2.up a0.up F;have Z:=aJo mg l.prog w base 5 cl.b d36 bdA λf g F=>Desk.aJy (n:=4) (Rf:=(R,J)) cl O.up g8.up F;have a5:=aJo mg l.prog w base 6 cl.b d37 bdA λf g F=>Desk.bWx (n:=5) (Rf:=(R,J)) TB cl Z.up F;have k7:=aJo mg l.prog w base 6 cl.b d38 bdA λf g F=>Desk.bXh (n:=4) (Rf:=(R,J)) cl Z.up a0.up f8.up e8.up h3.up i8.up F;have h1:=aJo mg l.prog w base 7 cl.b d39 bdA λf g F=>Desk.bJN (n:=6) (Rf:=(R,J)) cl O.up k7.up a5.up F;have i7:=dOf mg l.prog w base 6 d40 bdA λf g F=>Desk.aJu (n:=5) (Rf:=(R,J)) k6.up F;have f5:=dOf mg l.prog w base 6 d41 bdA λf g F=>Desk.aJw (n:=5) (Rf:=(R,J)) j5.up F;have c5:=dOf mg l.prog w base 8 d42 bdA λf g F=>Desk.aWx (n:=7) (Rf:=(R,J)) h1.up F;have i5:=dOf mg l.prog w base 6 d43 bdA λf g F=>Desk.aJv (n:=5) (Rf:=(R,J)) j4.up F;have h0:=dOf mg l.prog w base 6 d44 bdA λf g F=>Desk.aWv (n:=5) (Rf:=(R,J)) e0.up F;have e3:=dOf mg l.prog w base 6 d45 bdA λf g F=>Desk.aWz (n:=5) (Rf:=(R,J)) e4.up F;have c0:=dOf mg l.prog w base 6 d46 bdA λf g F=>Desk.aWu (n:=5) (Rf:=(R,J)) f0.up F;have c4:=dOf mg l.prog w base 7 d47 bdA λf g F=>Desk.aWw (n:=6) (Rf:=(R,J)) a5.up F;have k8:=dOf mg l.prog w base 6 d48 bdA λf g F=>Desk.aWA (n:=5) (Rf:=(R,J)) h7.up F;have e1:=dOf mg l.prog w base 5 d49 bdA λf g F=>Desk.aWy (n:=4) (Rf:=(R,J)) i9.up F;have j7:=dOf mg l.prog w base 6 d50 bdA λf g F=>Desk.aZy (n:=5) (Rf:=(R,J)) c7.up F;have j0:=dOf mg l.prog w base 6 d51 bdA λf g F=>Desk.aXy (n:=5) (Rf:=(R,J)) Z.up F;have e2:=dOf mg l.prog w base 6 d52 bdA λf g F=>Desk.aXx (n:=5) (Rf:=(R,J)) i0.up F;have P:(([("in",i),("out",i),("reply",y),("hang",A),("loose",x),("date",D),("term",z),("copy",B),("file",H),("void",I),("shut",E),("state",u),("thread",q),("copies",r),("letters",k),("waiting",p),("overdue",j)]:List (Str×Nat)).map (·.1)).Nodup:=show(["in","out","reply","hang","loose","date","term","copy","file","void","shut","state","thread","copies","letters","waiting","overdue"]:List Str).Nodup from dk;have all:Desk.bVW l.prog w K mg base 8 (R,J) L CL (bZJ [("in",i),("out",i),("reply",y),("hang",A),("loose",x),("date",D),("term",z),("copy",B),("file",H),("void",I),("shut",E),("state",u),("thread",q),("copies",r),("letters",k),("waiting",p),("overdue",j)]):=by
  intro e k0;cases e with
  |enter l7 d V t=>
   obtain⟨g,a,b,c⟩:=i7.ex;rcases k0 with rfl|rfl
   ·exact⟨i,g,_,uA P 0 rfl,a.mono (by decide),⟨_,d,V,t,rfl⟩,b,c⟩
   ·exact⟨i,g,_,uA P 1 rfl,a.mono (by decide),⟨_,d,V,t,rfl⟩,b,c⟩
  |reply m d t=>obtain⟨g,a,b,c⟩:=f5.ex;exact⟨y,g,_,uA P 2 rfl,a.mono (by decide),⟨m,d,t,rfl⟩,b,c⟩
  |hang m o=>obtain⟨g,a,b,c⟩:=c5.ex;exact⟨A,g,_,uA P 3 rfl,a.mono (by decide),⟨m,o,rfl⟩,b,c⟩
  |loose m=>obtain⟨g,a,b,c⟩:=i5.ex;exact⟨x,g,_,uA P 4 rfl,a.mono (by decide),⟨m,rfl⟩,b,c⟩
  |date m d=>obtain⟨g,a,b,c⟩:=h0.ex;exact⟨D,g,_,uA P 5 rfl,a.mono (by decide),⟨m,d,rfl⟩,b,c⟩
  |term m t=>obtain⟨g,a,b,c⟩:=e3.ex;exact⟨z,g,_,uA P 6 rfl,a.mono (by decide),⟨m,t,rfl⟩,b,c⟩
  |copy m V=>obtain⟨g,a,b,c⟩:=c0.ex;exact⟨B,g,_,uA P 7 rfl,a.mono (by decide),⟨m,V,rfl⟩,b,c⟩
  |file m U=>obtain⟨g,a,b,c⟩:=c4.ex;exact⟨H,g,_,uA P 8 rfl,a.mono (by decide),⟨m,U,rfl⟩,b,c⟩
  |void m=>obtain⟨g,a,b,c⟩:=k8.ex;exact⟨I,g,_,uA P 9 rfl,a.mono (by decide),⟨m,rfl⟩,b,c⟩
  |shut d=>obtain⟨g,a,b,c⟩:=e1.ex;exact⟨E,g,_,uA P 10 rfl,a.mono (by decide),⟨d,rfl⟩,b,c⟩
  |state m=>obtain⟨g,a,b,c⟩:=j7.ex;exact⟨u,g,_,uA P 11 rfl,a.mono (by decide),⟨m,rfl⟩,b,c⟩
  |thread m=>obtain⟨g,a,b,c⟩:=j0.ex;exact⟨q,g,_,uA P 12 rfl,a.mono (by decide),⟨m,rfl⟩,b,c⟩
  |copies m=>obtain⟨g,a,b,c⟩:=e2.ex;exact⟨r,g,_,uA P 13 rfl,a.mono (by decide),⟨m,rfl⟩,b,c⟩
  |letters U=>obtain⟨g,a,b,c⟩:=b9.ex;exact⟨k,g,_,uA P 14 rfl,a.mono (by decide),⟨U,rfl⟩,b,c⟩
  |on a6 d=>
   cases a6
   ·obtain⟨g,a,b,c⟩:=i2.ex;exact⟨p,g,_,uA P 15 rfl,a.mono (by decide),⟨d,rfl⟩,b,c⟩
   ·obtain⟨g,a,b,c⟩:=e9.ex;exact⟨j,g,_,uA P 16 rfl,a.mono (by decide),⟨d,rfl⟩,b,c⟩
 have a4:=gOf l.prog w base 9 X G d56 bdA λf g F=>Desk.aK7 (n:=8) (Rf:=(R,J)) (cQ6 X G nD) (bVP lD pD P) (cQ6 X G d60.ns) d60.cl all F;have k4:=gOf l.prog w base 10 X G d57 bdA λf g F=>Desk.aWt (n:=8) (Rf:=(R,J)) a3.up a4.up F;have f2:=gOf l.prog w base 10 X G d59 bdA λf g F=>Desk.aJx (n:=8) (Rf:=(R,J)) a3.up a4.up k2.up F;exact Alike.bWw (n:=10) (Rf:=(R,J)) TA j1.up f3.up l3.up f7.up h9.up k5.up j2.up b8.up Y.up k4.up f2.up Q
end End4
namespace End4
open PySem L2 PyProof.Rows
theorem walk{l:PySem.W.OpenLaw}{q:bYx}{loose:List Str}{r:(Str->Option bYa)->Heap->Prop}{g:bYD->Heap->Prop}{d:DefRec}{K:Params->bYc}{T:Nat}(t:l.most=some 63)(b:d.params.defaults= []) (p:∀ (w:bYD)(h:Heap),g w h->(K w.params).In h) (e:∀ (w:bYD)(h:Heap),g w h->h.get? T=some (cXK #[])) (F:∀ (w:bYD)(mg:Str->Option bYa)(i:Nat)(h:Heap),(K w.params).In h->h.Ns bYG mg->mg d.name=some (.ref i)-> ∃ (j:cQ9)(c:Nat),cZL (K w.params) c T=true/\(K w.params).lookup T=none/\(∀ (s:bYd)(u:bYa),BindsTo s j ⟨[u],[]⟩ [("_law_script",u)])/\∀base:Heap,(K w.params).In base->base.Ns bYG mg->cXg base c T->base.BuiltinsAt mg T->xD l.prog w (K w.params) mg base CX0 11 i j ["_law_script"] (Alike.bZd T (K w.params))): PySem.W.WalkO q loose r g l.row.toRowW d [] (λf m=>PySem.call f m):=
 L2.bZu (n:=63) (k:=11) (x:="_law_script") (CX:=CX0) (sp:=Alike.bZd) t (by decide) b ⟨rfl,by decide,by decide⟩ p e F (λ_ _ a o hl y v=>⟨a,o,rfl,v,hl,.inl y,λ_=>rfl⟩) λ_ _ _ _ z=>z
end End4
open PySem PySem.W PyProof.Rows
set_option maxRecDepth 100000 in
set_option maxHeartbeats 0 in
theorem PySem.Challenge.cw_letterdesk_k05_whole_numbers_and_trees_holds : PySem.Challenge.rw_letterdesk_k05_whole_numbers_and_trees.Holds := by
 w_on;o_law;k_head;(case hw=>w_witness2);k_fill;refine End4.walk (l:=PySem.Challenge.rw_letterdesk_k05_whole_numbers_and_trees) rfl rfl (λw h Y=>PySem.W.km_in_of Y) (λw h Y=>PySem.W.km_tabs_of Y _ (bYp ..)) ?F;case F=>
  intro w d c h b G a;refine' End4.all_mk b G a ?d60 ?d61 ?d62 ?d63 ?d64 ?d65 ?d66 ?d67 ?d68 ?d69 ?d70 ?d71 ?d9 ?d24 ?cl ?d10 ?d11 ?d12 ?d13 ?d15 ?d16 ?d17 ?d18 ?d19 ?d20 ?d21 ?d22 ?d23 ?d25 ?d28 ?d29 ?d30 ?d31 ?d32 ?d33 ?d34 ?d35 ?d36 ?d37 ?d38 ?d39 ?d58 ?d1 ?d2 ?d3 ?d4 ?d5 ?d6 ?d7 ?d8 ?d14 ?d26 ?d27 ?d56 ?d57 ?d59 ?d72 ?d73 ?d74 ?d75 ?d76 ?d77 ?d78 ?d79 ?d80 ?d81 ?d82 ?d83 ?d84 ?d85 ?d86 ?d87 ?d88 ?d89 ?d90 ?d91 ?d92 ?d93 ?d94 ?d95 ?d96 ?d40 ?d41 ?d42 ?d43 ?d44 ?d45 ?d46 ?d47 ?d48 ?d49 ?d50 ?d51 ?d52 ?d53 ?d54 ?d55 ?dL ?aA ?lA ?cA1 ?kA ?nD ?lD ?pD ?z_len ?z_min ?z_sum ?z_sorted ?z_isinstance ?z_int ?z_str ?z_bool ?z_list ?z_tuple ?z_set ?z_range ?z_reversed ?z_max ?y_week ?y_open ?tb ?tn;(case d60=>apply End4.bJ9<;> first|k_is|kernel_rfl);(case d61=>apply End4.uH<;> first|k_is|kernel_rfl);(case d62=>apply End4.uH<;> first|k_is|kernel_rfl);(case d63=>apply End4.uH<;> first|k_is|kernel_rfl);(case d64=>apply End4.uH<;> first|k_is|kernel_rfl);(case d65=>apply End4.uH<;> first|k_is|kernel_rfl);(case d66=>apply End4.uH<;> first|k_is|kernel_rfl);(case d67=>apply End4.uH<;> first|k_is|kernel_rfl);(case d68=>apply End4.uH<;> first|k_is|kernel_rfl);(case d69=>apply End4.uH<;> first|k_is|kernel_rfl);(case d70=>apply End4.uH<;> first|k_is|kernel_rfl);(case d71=>apply End4.uH<;> first|k_is|kernel_rfl);(case d9=>apply End4.bZM<;> k_is);(case d24=>apply End4.bZM<;> k_is);(case cl=>apply End4.bKm<;> k_is);(case d10=>apply End4.x2<;> k_is);(case d11=>apply End4.x2<;> k_is);(case d12=>apply End4.x2<;> k_is);(case d13=>apply End4.x2<;> k_is);(case d15=>apply End4.x2<;> k_is);(case d16=>apply End4.x2<;> k_is);(case d17=>apply End4.x2<;> k_is);(case d18=>apply End4.x2<;> k_is);(case d19=>apply End4.x2<;> k_is);(case d20=>apply End4.x2<;> k_is);(case d21=>apply End4.x2<;> k_is);(case d22=>apply End4.x2<;> k_is);(case d23=>apply End4.x2<;> k_is);(case d25=>apply End4.x2<;> k_is);(case d28=>apply End4.x2<;> k_is);(case d29=>apply End4.x2<;> k_is);(case d30=>apply End4.x2<;> k_is);(case d31=>apply End4.x2<;> k_is);(case d32=>apply End4.x2<;> k_is);(case d33=>apply End4.x2<;> k_is);(case d34=>apply End4.x2<;> k_is);(case d35=>apply End4.x2<;> k_is);(case d36=>apply End4.x2<;> k_is);(case d37=>apply End4.x2<;> k_is);(case d38=>apply End4.x2<;> k_is);(case d39=>apply End4.x2<;> k_is);(case d58=>apply End4.x2<;> k_is);(case d1=>apply End4.xH<;> k_is);(case d2=>apply End4.xH<;> k_is);(case d3=>apply End4.xH<;> k_is);(case d4=>apply End4.xH<;> k_is);(case d5=>apply End4.xH<;> k_is);(case d6=>apply End4.xH<;> k_is);(case d7=>apply End4.xH<;> k_is);(case d8=>apply End4.xH<;> k_is);(case d14=>apply End4.xH<;> k_is);(case d26=>apply End4.xH<;> k_is);(case d27=>apply End4.xH<;> k_is);(case d56=>apply End4.xH<;> k_is);(case d57=>apply End4.xH<;> k_is);(case d59=>apply End4.xH<;> k_is);(case d72=>apply End4.xH<;> k_is);(case d73=>apply End4.xH<;> k_is);(case d74=>apply End4.xH<;> k_is);(case d75=>apply End4.xH<;> k_is);(case d76=>apply End4.xH<;> k_is);(case d77=>apply End4.xH<;> k_is);(case d78=>apply End4.xH<;> k_is);(case d79=>apply End4.xH<;> k_is);(case d80=>apply End4.xH<;> k_is);(case d81=>apply End4.xH<;> k_is);(case d82=>apply End4.xH<;> k_is);(case d83=>apply End4.xH<;> k_is);(case d84=>apply End4.xH<;> k_is);(case d85=>apply End4.xH<;> k_is);(case d86=>apply End4.xH<;> k_is);(case d87=>apply End4.xH<;> k_is);(case d88=>apply End4.xH<;> k_is);(case d89=>apply End4.xH<;> k_is);(case d90=>apply End4.xH<;> k_is);(case d91=>apply End4.xH<;> k_is);(case d92=>apply End4.xH<;> k_is);(case d93=>apply End4.xH<;> k_is);(case d94=>apply End4.xH<;> k_is);(case d95=>apply End4.xH<;> k_is);(case d96=>apply End4.xH<;> k_is);(case d40=>apply End4.xS<;> k_is);(case d41=>apply End4.xS<;> k_is);(case d42=>apply End4.xS<;> k_is);(case d43=>apply End4.xS<;> k_is);(case d44=>apply End4.xS<;> k_is);(case d45=>apply End4.xS<;> k_is);(case d46=>apply End4.xS<;> k_is);(case d47=>apply End4.xS<;> k_is);(case d48=>apply End4.xS<;> k_is);(case d49=>apply End4.xS<;> k_is);(case d50=>apply End4.xS<;> k_is);(case d51=>apply End4.xS<;> k_is);(case d52=>apply End4.xS<;> k_is);(case d53=>apply End4.xS<;> k_is);(case d54=>apply End4.xS<;> k_is);(case d55=>apply End4.xS<;> k_is);(case dL=>apply End4.xS<;> k_is);(case aA=>k_is);(case lA=>k_is);(case cA1=>k_is);(case kA=>k_is);(case nD=>k_is);(case lD=>k_is);(case pD=>exact⟨⟨_,rfl⟩,rfl,rfl,⟨_,rfl⟩,rfl,rfl,⟨_,rfl⟩,rfl,rfl,⟨_,rfl⟩,rfl,rfl,⟨_,rfl⟩,rfl,rfl,⟨_,rfl⟩,rfl,rfl,⟨_,rfl⟩,rfl,rfl,⟨_,rfl⟩,rfl,rfl,⟨_,rfl⟩,rfl,rfl,⟨_,rfl⟩,rfl,rfl,⟨_,rfl⟩,rfl,rfl,⟨_,rfl⟩,rfl,rfl,⟨_,rfl⟩,rfl,rfl,⟨_,rfl⟩,rfl,rfl,⟨_,rfl⟩,rfl,rfl,⟨_,rfl⟩,rfl,rfl,⟨_,rfl⟩,rfl,rfl,cQw⟩);(case z_len=>k_is);(case z_min=>k_is);(case z_sum=>k_is);(case z_sorted=>k_is);(case z_isinstance=>k_is);(case z_int=>k_is);(case z_str=>k_is);(case z_bool=>k_is);(case z_list=>k_is);(case z_tuple=>k_is);(case z_set=>k_is);(case z_range=>k_is);(case z_reversed=>k_is);(case z_max=>k_is);(case y_week=>k_is);(case y_open=>k_is);(case tb=>kernel_rfl);(case tn=>kernel_rfl)
