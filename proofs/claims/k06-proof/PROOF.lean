import PyProof.Rows.All
import Wide.All
import OpenK.AllK
import Wide.FinOn
import KE.KLam
import KE.KNestM
import KE.KSortTup
import Lean
import OpenK.KCls
import PyProof.CollectWalk
import PyProof.CompMap
import PyProof.DictStraight
import PyProof.EqAt
import PyProof.EqKinds
import PyProof.ExcArgs
import PyProof.ExcBaseAll.Exception
import PyProof.FactsAll.set
import PyProof.FactsBase
import PyProof.InstStoreFacts
import PyProof.ListRange
import PyProof.LongRange
import PyProof.MakeMany
import PyProof.MinMaxWalk
import PyProof.NeKinds
import PyProof.Rows.SetFrom
import PyProof.Rows.SortWalk
import PyProof.SeqI3
import PyProof.SetKind
import PyProof.SetNew
import PyProof.SetScanFacts
import PyProof.StationsW
import PyProof.TupleCall
import PyProof.WalkInts
import PyProof.Walks
import PySem.Challenge.RW_letterdesk_k06_whole_waiting_and_overdue
set_option Elab.async false
set_option linter.all false
set_option maxRecDepth 100000
set_option maxHeartbeats 4000000
open Array renaming length_toList → cQE, getElem?_eq_getElem → cQK, getElem?_toList → cQQ, getElem?_eq_some_iff → cXJ, getD → cXM, getElem?_eq_none → cX9, getElem?_extract_of_lt → cJe, getElem?_append_left → cJo, perm_iff_toList_perm → cJp
open False renaming elim → cQO
open ForInStep renaming yield → cZX
open Int renaming toNat_natCast → bYW, zero_add → cXr, natCast_inj → cZY
open List renaming getElem?_eq_getElem → bYg, length_map → bYl, mem_cons → bYq, getElem?_eq_some_iff → bYs, mem_cons_of_mem → bYt, range → bYu, mem_cons_self → bYw, mem_singleton → bYy, mem_of_getElem? → bYz, size_toArray → bYA, getElem?_map → bYB, length_append → bYE, mem_append_right → bYF, getElem?_append_right → bYH, getElem?_eq_none → bYR, mem_range → bYS, mem_append → bYU, getElem?_append_left → bYY, getD → bY1, map_cons → bY4, getElem_of_mem → bY8, length_range → cQa, take_length → cQe, length_cons → cQg, length_filter_le → cQh, take_add_one → cQj, append_nil → cQk, mem_map → cQm, mem_filter → cQo, toArray → cQp, filter_append → cQr, length_singleton → cQt, length_pos_iff → cQu, append_assoc → cQw, length_take → cQz, map_append → cQA, pairwise_singleton → cQH, pairwise_cons → cQI, contains_iff_mem → cQS, filter_cons_of_neg → cQX, filter_cons_of_pos → cQY, eq_nil_of_length_eq_zero → cQ5, getElem_inj → cQ6, lookup_cons → cQ7, mem_append_left → cXe, filter_sublist → cXj, getElem?_range → cXk, getElem_mem → cXm, length → cXp, length_nil → cXs, map_map → cXt, nodup_cons → cXu, ext_getElem? → cXz, any_cons → cXB, lookup → cXC, contains_cons → cXE, find?_cons → cXG, range_succ → cXH, nodup_append → cXK, pairwise_iff_getElem → cXN, replicate → cXP, not_mem_nil → cXS, filterMap_cons → cX0, filter_eq_self → cX1, getElem?_set_self → cZa, all_eq_true → cZn, append_inj' → cZo, nodup_range → cZp, all_cons → cZt, pairwise_map → cZJ, cons_append → cZQ, countP_cons → cZR, forIn_cons → cZZ, getElem?_set_ne → cZ0, pairwise_append → cZ1, map_congr_left → cJa, toList_toArray → cJb, Perm → cJk, filter_congr → cJr, foldl_append → cJs, getElem?_eq_none_iff → cJz, length_erase_of_mem → cJE
open List.Nodup renaming mem_erase_iff → cJD
open Nat renaming le_refl → bYo, ne_of_lt → bYI, lt_of_lt_of_le → bYK, le_trans → bYT, zero_le → cQf, lt_succ_of_lt → cQq, lt_irrefl → cQs, sub_self → cQC, le_succ_of_le → cQP, not_lt_zero → cQ3, lt_succ_self → cQ8, le_succ → cXq, le_of_eq → cXT, le_of_lt → cXU, ne_of_gt → cXV, lt_or_ge → cZg
open Ne renaming symm → bY0
open Option.some renaming inj → bYC, injEq → cJt
open PyProof.Rows renaming seqObj → bY7, envOfC → cXf, IntsAre → cXO, get?_update_seq → cX7, IsTup → cZc, callWith_type1 → cZj, listUpdate_at → cZv, entry_list_sort → cJf, args_list_sort → cJm, slot_list_sort → cJn
open PyProof.Rows.F renaming plain_set_update_loop → cXF, entry_set_update_loop → cZE
open PyProof.Rows.IntsAre renaming int_at → cJl
open PySem renaming Value → bYh, wpAny_bind → bYi, Shared → bYk, wpAny_pure → bYn, wpAny → bYp, model → bYr, Program → bYD, sizeLine → bYJ, World → bYL, mainGlobals → bYP, sizeLine_eq → bYQ, starEach → bYX, Around → bYZ, bootBuiltins → bY2, Paired → bY6, wpAny_mono → cQl, rawInt → cQy, wpAny_holding → cQB, mem_of_lookup → cQM, compareOp → cQN, backTo → cQV, wpAny_Call_Name_kw → cQW, SetTable → cQ2, Builtin → cQ4, codeAny_mono → cXa, wpAny_call_entry → cXb, FuncData → cXg, wpAny_newObj_type → cXh, wpAny_truthy_bool → cXi, wpAny_setField → cXo, Scope → cXx, codeAny_builtin → cXy, codeAny → cXA, keywordEach → cXD, wpAny_passesOwn → cXI, wpAny_setState_of → cXL, binaryOp → cXY, wpAny_askSetting → cXZ, wpAny_setEntries_of → cX2, wpAny_callSpecial?_slot → cX3, attributeBase → cX4, behindInMarks → cX5, sysModules → cX8, isSubtype → cZk, pickOrder → cZl, setFlight → cZm, NameKind → cZq, backToKw → cZr, wpAny_call → cZs, plainId_quiet → cZw, wpAny_attempt → cZx, wpAny_newList → cZy, holding → cZz, sliceBounds → cZA, valueAt → cZB, getMethod → cZG, noteFrame → cZH, scanBound → cZI, wpAny_standAt → cZP, builtinLookup_eq_fast → cZV, plainObj_wpAny_Assign_Attribute → cZW, assignEach → cZ3, codeAny_call_builtin → cZ4, isInstance → cZ5, letOwnedTupleGo → cZ6, wpAny_execs_nil → cZ7, wpAny_ite_split → cZ8, wpAny_fieldsOf → cJh, fits_of_scanBound → cJw, foldedSetIterable → cJx, wpAny_pyIter_list → cJy, wpAny_comprehension_free → cJG
open PySem.Around renaming under_plainId → cXd
open PySem.Builtin.List renaming listExtendWith → cZi, listTooLong → cZD, listLengthHint → cJi, listSameRef → cJC
open PySem.Calls renaming call_function_entry → cZC, Name_function_global → cJq
open PySem.Code renaming quiet_builtin → cJj
open PySem.F renaming plainAttrs_list → bYG, slot_list_append → bYN, type_list_append → bYO, called_set → cQ9, slot_list_pop → cZT, type_list_pop → cZU, excBase_Exception → cJA, plain_extend_loop → cJB, args_tuple_add_2 → cJF
open PySem.Heap renaming get?_push_of_some → bYm, lt_size → bYv, get?_push_size → bYM, get?_update_other → bYV, get?_update_self → cQn, size_push → cQR, SameBut → cXl, ExtBut → cZO, get?_update_ne → cZ9
open PySem.Heap.SameBut renaming update → cQL
open PySem.Obj renaming mapSeq → cQb, mapFields → cQx, isFreed_of_fields → cQG, data_mapFields → cQJ
open PySem.Paired renaming length → cQZ, snoc → cZb
open PySem.PassesOwn renaming never → bY5
open PySem.SeqAt renaming EqAt → cJI
open PySem.SetTable renaming below → cQi, grown → cXR, insertAt → cZf
open PySem.SetTable.below renaming go → cZe
open PySem.SetTable.probe renaming go → cJv
open PySem.Str renaming ofString → cZF
open PySem.W renaming Frag → bYj, mg_none_of → bYx, findIn → bY3, kitOne → bY9, nsIn → cQc, keepIn → cQd, katRev → cQv, fnOf → cQD, kia_one → cQT, kia_tup → cQU, codeIn → cQ0, emptyDict → cQ1, mg_of → cXc, CodeHd → cXn, instObj → cXv, kla_obj → cXw, tabObj → cXQ, isFn → cXW, plainGet → cXX, callWith_K → cX6, hasDictIn → cZd, methodCall_KW → cZh, mroIn → cZu, kitx_dict → cZK, kitx_list → cZL, plainOver → cZM, specialIn → cZN, codeHdIn → cZS, callWith_K0 → cJc, plainGet_of → cJd, lookIn → cJg, methodObj → cJu, KatTups → cJH
open PySem.W.KatTups renaming cons → cZ2
open True renaming intro → cQF
theorem dk {p:Prop}[Decidable p](h:decide p=true:=by decide +kernel):p:=of_decide_eq_true h
namespace L2
open PySem PySem.Spec PyProof.Rows
abbrev Key:=Sum Int Str
def aWC:Key->bYh->Bool
 |.inl k,v=>Value.isInt k v
 |.inr x,v=>Value.isStrOf x v
def bK3(w:bYL):Key->Int
 |.inl k=>hashInt k
 |.inr x=>hashStr w x
theorem x8:∀ {k:Key} {v:bYh},aWC k v=true->(∃i t,k=Sum.inl i/\v=Value.int i t)\/(∃x t,k=Sum.inr x/\v=Value.str x t)
 |.inl i,v,h=>by obtain⟨t,e⟩:=Value.isInt_shape (k:=i) (v:=v) h;exact .inl ⟨i,t,rfl,e⟩
 |.inr x,v,h=>by obtain⟨t,e⟩:=Value.isStrOf_shape (x:=x) (v:=v) h;exact .inr ⟨x,t,rfl,e⟩
theorem aK8(i:Int)(t:Tok):aWC (.inl i) (.int i t)=true:=by simp[aWC,Value.isInt]
theorem aK9(x:Str)(t:Tok):aWC (.inr x) (.str x t)=true:=by simp[aWC,Value.isStrOf]
theorem bWt(a b:Int):decide ((Sum.inl a:Key)=Sum.inl b)=(a==b):=by
 by_cases e:a=b
 ·subst e;simp
 ·have h:¬ (Sum.inl a:Key)=Sum.inl b:=λq=>e (Sum.inl.inj q);rw[decide_eq_false h];exact(beq_eq_false_iff_ne.mpr e).symm
theorem bWw(a b:Str):decide ((Sum.inr a:Key)=Sum.inr b)=decide (a=b):=by
 by_cases e:a=b
 ·subst e;simp
 ·have h:¬ (Sum.inr a:Key)=Sum.inr b:=λq=>e (Sum.inr.inj q);rw[decide_eq_false h,decide_eq_false e]
theorem bWu(a:Int)(b:Str):decide ((Sum.inl a:Key)=Sum.inr b)=false:=decide_eq_false (λq=>nomatch q)
theorem bWv(a:Str)(b:Int):decide ((Sum.inr a:Key)=Sum.inl b)=false:=decide_eq_false (λq=>nomatch q)
def zA(prog:bYD)(w:bYL):PySem.KeyKind prog w Key where
 is:=aWC
 hash:=bK3 w
 inj:=λv a b ha hb=>by
  rcases x8 ha with⟨i,t,rfl,rfl⟩|⟨x,t,rfl,rfl⟩
  ·rcases x8 hb with⟨j,u,rfl,e⟩|⟨y,u,rfl,e⟩
   ·injection e with e1 _;rw[e1]
   ·exact nomatch e
  ·rcases x8 hb with⟨j,u,rfl,e⟩|⟨y,u,rfl,e⟩
   ·exact nomatch e
   ·injection e with e1 _;rw[e1]
 byValue:=λk v h=>by
  rcases x8 h with⟨i,t,rfl,rfl⟩|⟨x,t,rfl,rfl⟩<;> rfl
 pyHash:=λhv h=>by
  rcases x8 hv with⟨i,t,rfl,rfl⟩|⟨x,t,rfl,rfl⟩
  ·exact wpAny_pyHash_int h
  ·exact wpAny_pyHash_str h
 eqBool:=λhu hv h=>by
  rcases x8 hu with⟨i,t,rfl,rfl⟩|⟨x,t,rfl,rfl⟩
  ·rcases x8 hv with⟨j,u,rfl,rfl⟩|⟨y,u,rfl,rfl⟩
   ·rw[bWt]at h;exact wpAny_eqBool_int h
   ·rw[bWu]at h;exact SeqAt.EqAt.int_str i t y u _ _ _ _ h
  ·rcases x8 hv with⟨j,u,rfl,rfl⟩|⟨y,u,rfl,rfl⟩
   ·rw[bWv]at h;exact SeqAt.EqAt.str_int x t j u _ _ _ _ h
   ·rw[bWw]at h;exact wpAny_eqBool_str h
 «strs»:=λk x t v h=>by
  rcases x8 h with⟨i,u,rfl,e⟩|⟨y,u,rfl,e⟩
  ·exact nomatch e
  ·injection e with e1 _
   subst e1
   cases v<;> rfl
theorem aJK(prog:bYD)(w:bYL)(i:Int)(t:Tok):(zA prog w).is (.inl i) (.int i t)=true:=aK8 i t
theorem qI(prog:bYD)(w:bYL)(x:Str)(t:Tok):(zA prog w).is (.inr x) (.str x t)=true:=aK9 x t
end L2
namespace L2
open PySem PySem.Spec PyProof.Rows
inductive V where
 |non|bl (b:Bool)|int (i:Int)|str (x:Str)|byt (b:Array UInt8)|flt (b:UInt64)|ref (a:Addr)|ty (n:String)
 deriving DecidableEq
def zM:V->bYh->Prop
 |.non,u=>u=Value.none
 |.bl b,u=>u=Value.bool b
 |.int i,u=>∃t,u=Value.int i t
 |.str x,u=>∃t,u=Value.str x t
 |.byt b,u=>∃t,u=Value.bytes b t
 |.flt b,u=>∃t,u=Value.float b t
 |.ref a,u=>u=Value.ref a
 |.ty n,u=>u=Value.type n
abbrev xV:List V->List bYh->Prop:=bY6 zM
theorem xV.length{xs:List V}{us:List bYh}(r:xV xs us):xs.length=us.length:=cQZ r
theorem xV.get:∀ {xs:List V} {us:List bYh} {i:Nat} {x:V},xV xs us->xs[i]? =some x->∃u,us[i]? =some u/\zM x u
 |_,_,_,_,.nil,e=>by simp at e
 |_,_,0,_,.cons r _,e=>by simp at e;subst e;exact⟨_,rfl,r⟩
 |_,_,i+1,x,.cons _ t,e=>by obtain⟨u,h1,h2⟩:=xV.get (i:=i) (x:=x) t (by simpa using e);exact⟨u,by simpa using h1,h2⟩
theorem xV.set{x:V}{u:bYh}(r:zM x u):∀ {xs:List V} {us:List bYh} (i:Nat),xV xs us->xV (xs.set i x) (us.set i u)
 |_,_,_,.nil=> .nil
 |_,_,0,.cons _ t=> .cons r t
 |_,_,i+1,.cons q t=> .cons q (xV.set r i t)
theorem xV.append:∀ {xs ys:List V} {us a:List bYh},xV xs us->xV ys a->xV (xs++ys) (us++a)
 |_,_,_,_,.nil,s=>s
 |_,_,_,_,.cons r t,s=> .cons r (xV.append t s)
theorem xV.take:∀ {xs:List V} {us:List bYh} (n:Nat),xV xs us->xV (xs.take n) (us.take n)
 |_,_,0,_=> .nil
 |_,_,_+1,.nil=> .nil
 |_,_,n+1,.cons r t=> .cons r (xV.take n t)
theorem xV.drop:∀ {xs:List V} {us:List bYh} (n:Nat),xV xs us->xV (xs.drop n) (us.drop n)
 |_,_,0,r=>r
 |_,_,_+1,.nil=> .nil
 |_,_,n+1,.cons _ t=>xV.drop n t
def aZh:Option V->Option bYh->Prop
 |some v,some u=>zM v u
 |none,none=>True
 |_,_=>False
def KV{κ:Type}:List (κ×V)->List (κ×bYh)->Prop:=bY6 λ(p:κ×V)(q:κ×bYh)=>p.1=q.1/\zM p.2 q.2
def kV:Key->V
 |.inl i=> .int i
 |.inr x=> .str x
inductive HO where
 |lst (xs:List V)
 |tup (xs:List V)
 |dK (kvs:List (Key×V))|dT (kvs:List (List Key×V))
 |set (S:Int->Bool) (n:Nat)
 |ins (C dx:Addr) (fs:List (Str×V))
 |own (x:Addr)
 |xd (fs:List (Str×V))
 |met (f x:Addr)
 |rng (lo hi:Int)
 |frz (o:Obj) (u:HO)
 |tbl (ps:Array bYh)
 |ext (φ:Heap->Prop)
abbrev Hp:=Addr->Option HO
def upd(H:Hp)(a:Addr)(o:HO):Hp:=λb=>if b=a then some o else H b
theorem yB{H:Hp}{a:Addr}{o:HO}:upd H a o a=some o:=by unfold upd;rw[if_pos rfl]
theorem yI{H:Hp}{a b:Addr}{o:HO}(h:b≠a):upd H a o b=H b:=by unfold upd;rw[if_neg h]
theorem jB{H:Hp}{a:Addr}{o u:HO}:upd (upd H a o) a u=upd H a u:=by
 funext b;unfold upd;split<;> rfl
theorem aXc{H:Hp}{a b:Addr}{o u:HO}(h:H a=some o)(h':H b=some u)(d:o≠u):a≠b:=by
 intro e;subst e;rw[h]at h';exact d (bYC h')
theorem yJ{H:Hp}{a b:Addr}{o:HO}(h:H a=some o)(h':H b=none):a≠b:=by
 intro e;subst e;rw[h]at h';cases h'
section
variable (P:bYD)(w:bYL)
def zE(H:Hp)(h:Heap)(a:Addr):HO->Prop
 |.lst xs=>xs.length<=bYJ/\∃ (b:List bYh)(n:Nat),xV xs b/\h.get? a=some {cls:= .type "list",data:= .seq b.toArray n}
 |.tup xs=>xs.length<=bYJ/\∃b:List bYh,xV xs b/\cZc h a b.toArray
 |.dK c=>c.length<=bYJ/\(a==cX8)=false/\∃d,KV c d/\h.DictOf (zA P w) a d
 |.dT c=>c.length<=bYJ/\(a==cX8)=false/\∃xs:List (List Key×Addr×bYh),
   bY6 (λ(p:List Key×V)(q:List Key×Addr×bYh)=>p.1=q.1/\H q.2.1=some (.tup (p.1.map kV))/\zM p.2 q.2.2) c xs/\
   ∃o es e,h.get? a=some o/\o.ExactDict/\o.data= .dict es e/\es.toList=xs.map (entryOfKey (tupleKind (zA P w)))/\(xs.map (·.1)).Nodup
 |.set S n=>h.SetOf (intKind P w) a S n
 |.ins C dx fs=>H dx=some (.own a)/\fs.length<=1000/\dx≠a/\h.get? a=some (cXv C dx)/\
   ∃mA,h.Ns1 dx mA/\(∀f,aZh (fs.lookup f) (mA f))/\PySem.Within mA (fs.map (·.1))
 |.own _=>∃o,h.get? a=some o
 |.xd fs=>∃mA,h.Ns1 a mA/\∀f,aZh (fs.lookup f) (mA f)
 |.rng lo hi=>∃t u v,h.get? a=some {cls:= .type "range",data:= .fields #[.int lo t,.int hi u,.int 1 v] }
 |.frz o u=>h.get? a=some o/\zE H h a u
 |.tbl ps=>h.get? a=some {cls:= .none,data:= .fields ps}
 |.met f x=>h.get? a=some (cJu (.ref f) (.ref x))
 |.ext φ=>φ h/\(∃o,h.get? a=some o)/\∀h1 h2:Heap,φ h1->(∀o,h1.get? a=some o->h2.get? a=some o)->φ h2
def HOk(H:Hp)(h:Heap):Prop:=∀a o,H a=some o->zE P w H h a o
end
section
variable {P:bYD}{w:bYL}{H H':Hp}{h h':Heap}{a:Addr}{o:HO}
theorem zE.lt(x:zE P w H h a o):a<h.objs.size:=by
 cases o with
 |lst xs=>obtain⟨_,_,_,_,e⟩:=x;exact bYv e
 |tup xs=>obtain⟨_,_,_,p⟩:=x;exact p.lt
 |dK b=>obtain⟨_,_,_,_,o,_,_,e,_⟩:=x;exact bYv e
 |dT b=>obtain⟨_,_,_,_,o,_,_,e,_⟩:=x;exact bYv e
 |set S n=>obtain⟨o,_,_,_,e,_⟩:=x;exact bYv e
 |ins C dx fs=>obtain⟨_,_,_,e,_⟩:=x;exact bYv e
 |own y=>obtain⟨_,e⟩:=x;exact bYv e
 |xd fs=>obtain⟨_,⟨_,_,_,e,_⟩,_⟩:=x;exact bYv e
 |rng lo hi=>obtain⟨_,_,_,e⟩:=x;exact bYv e
 |frz c u=>obtain⟨e,_⟩:=x;exact bYv e
 |tbl ps=>exact bYv (show h.get? a=some _ from x)
 |met f y=>exact bYv (show h.get? a=some _ from x)
 |ext φ=>obtain⟨_,⟨_,e⟩,_⟩:=x;exact bYv e
theorem Paired.mapP{α β:Type}{F G:α->β->Prop}:∀ {d:List α} {c:List β},bY6 F d c->(∀a b,F a b->G a b)->bY6 G d c
 |_,_,.nil,_=> .nil
 |_,_,.cons r t,f=> .cons (f _ _ r) (Paired.mapP t f)
theorem zE.stay(x:zE P w H h a o)(k:∀b u,(b=a\/H b=some (.own a))->h.get? b=some u->h'.get? b=some u) (s:∀b,H b=some (.own a)->H' b=some (.own a)) (D:∀b xs,H b=some (.tup xs)->H' b=some (.tup xs)):zE P w H' h' a o:=by
 induction o with
 |lst xs=>obtain⟨z,j,n,r,e⟩:=x;exact⟨z,j,n,r,k _ _ (.inl rfl) e⟩
 |tup xs=>obtain⟨z,j,r,g,e,c⟩:=x;exact⟨z,j,r,g,k _ _ (.inl rfl) e,c⟩
 |dK m=>obtain⟨z,y,B,r,g,es,i,e,c⟩:=x;exact⟨z,y,B,r,g,es,i,k _ _ (.inl rfl) e,c⟩
 |dT m=>obtain⟨z,y,xs,r,g,es,i,e,c⟩:=x;exact⟨z,y,xs,Paired.mapP r λp q z=>⟨z.1,D _ _ z.2.1,z.2.2⟩,g,es,i,k _ _ (.inl rfl) e,c⟩
 |set S n=>obtain⟨g,es,i,t,e,c⟩:=x;exact⟨g,es,i,t,k _ _ (.inl rfl) e,c⟩
 |ins C dx fs=>obtain⟨d,z,ne,e,mA,⟨l,es,i,A,c⟩,r⟩:=x;exact⟨s _ d,z,ne,k _ _ (.inl rfl) e,mA,⟨l,es,i,k _ _ (.inr d) A,c⟩,r⟩
 |own y=>obtain⟨g,e⟩:=x;exact⟨g,k _ _ (.inl rfl) e⟩
 |xd fs=>obtain⟨mA,⟨l,es,i,e,c⟩,r⟩:=x;exact⟨mA,⟨l,es,i,k _ _ (.inl rfl) e,c⟩,r⟩
 |rng lo hi=>obtain⟨t,u,v,e⟩:=x;exact⟨t,u,v,k _ _ (.inl rfl) e⟩
 |frz g u E=>obtain⟨e,q⟩:=x;exact⟨k _ _ (.inl rfl) e,E q⟩
 |tbl ps=>have e:h.get? a=some {cls:= .none,data:= .fields ps}:=x;show h'.get? a=some {cls:= .none,data:= .fields ps};exact k a _ (.inl rfl) e
 |met f y=>have e:h.get? a=some (cJu (.ref f) (.ref y)):=x;show h'.get? a=some (cJu (.ref f) (.ref y));exact k a _ (.inl rfl) e
 |ext φ=>obtain⟨p,⟨o,e⟩,st⟩:=x;exact⟨st _ _ p λo q=>k _ _ (.inl rfl) q,⟨o,k _ _ (.inl rfl) e⟩,st⟩
theorem HOk.lt(x:HOk P w H h)(e:H a=some o):a<h.objs.size:=(x a o e).lt
theorem HOk.fresh(x:HOk P w H h)(e:h.objs.size<=a):H a=none:=by
 cases q:H a with
 |none=>rfl
 |some u=>exact absurd (bYK (x.lt q) e) (cQs _)
theorem HOk.kept(x:HOk P w H h)(k:∀b u,h.get? b=some u->h'.get? b=some u):HOk P w H h':=λa o e=>
 (x a o e).stay (λb u _ q=>k b u q) (λ_ q=>q) λ_ _ q=>q
theorem HOk.laid(x:HOk P w H h)(k:∀b u,h.get? b=some u->h'.get? b=some u)(i:h.objs.size<=a)(d:zE P w (upd H a o) h' a o):HOk P w (upd H a o) h':=λb u e=>by
 have g:=x.fresh i;by_cases f:b=a
 ·subst f;rw[yB]at e;cases e;exact d
 ·rw[yI f]at e;exact(x b u e).stay (λc v _ q=>k c v q) (λc q=>by rw[yI (yJ q g)];exact q) λc xs q=>by rw[yI (yJ q g)];exact q
end
def Rd(H:Hp)(a:Addr)(u:HO):Prop:=H a=some u\/∃o,H a=some (.frz o u)
theorem Rd.ok{P:bYD}{w:bYL}{H:Hp}{h:Heap}{a:Addr}{u:HO}(r:Rd H a u)(x:HOk P w H h):zE P w H h a u:=by
 rcases r with r|⟨o,r⟩
 ·exact x a u r
 ·obtain⟨_,q⟩:=x a _ r;exact q
def Mut:Option HO->Prop
 |some (.lst _)=>True
 |some (.dK _)=>True
 |some (.dT _)=>True
 |some (.set _ _)=>True
 |some (.ins _ _ _)=>True
 |some (.ext _)=>True
 |_=>False
section
variable {P:bYD}{w:bYL}{H:Hp}{h h':Heap}{x e:Addr}{o':HO}
theorem HOk.write(ok:HOk P w H h)(j:Mut (H x))(n:e=x\/H e=some (.own x))(k:∀b u,b≠e->h.get? b=some u->h'.get? b=some u)(m:∃u,h'.get? e=some u)
  (l:zE P w (upd H x o') h' x o'):HOk P w (upd H x o') h':=λb u q=>by
 have d:∀c y,H c=some (.own y)->c≠x:=λc y r z=>by subst z;rw[r]at j;exact j
 have f:∀c xs,H c=some (.tup xs)->c≠x:=λc xs r z=>by subst z;rw[r]at j;exact j
 by_cases i:b=x
 ·subst i;rw[yB]at q;cases q;exact l
 ·rw[yI i]at q;by_cases a:b=e
  ·have o:H b=some (.own x):=by
    rcases n with z|z
    ·exact absurd (a.trans z) i
    ·rw[a];exact z
   rw[q]at o;cases o;obtain⟨v,p⟩:=m;exact⟨v,by rw[a];exact p⟩
  ·refine(ok b u q).stay (λc v g r=>k c v ?_ r) (λc r=>by rw[yI (d c b r)];exact r) λc xs r=>by rw[yI (f c xs r)];exact r
   rcases g with rfl|g
   ·exact a
   ·rintro rfl;rcases n with z|z
    ·exact d c b g z
    ·rw[g]at z;cases z;exact i rfl
end
structure Un(fs ex:List Addr)(H H':Hp)(h h':Heap):Prop where
 keep:∀b o,h.get? b=some o->H b=none->b∉fs->b∉ex->h'.get? b=some o
 slot:∀b o,h.get? b=some o->H b=none->b∈fs->b∉ex->∃sl,h'.get? b=some {o with slots:=sl}
 free:∀b o,h.get? b=some o->H b=none->b∉ex->H' b=none
 there:∀b o,h.get? b=some o->b∉ex->∃o',h'.get? b=some o'
 tups:∀b xs,H b=some (.tup xs)->H' b=some (.tup xs)
 frzs:∀b o u,H b=some (.frz o u)->H' b=some (.frz o u)
 tbls:∀b ps,H b=some (.tbl ps)->∃more,H' b=some (.tbl (ps++more))
section
variable {fs fs' ex ex':List Addr}{H H1 H2:Hp}{h h1 h2 h':Heap}{a x e:Addr}{o:HO}
theorem Un.any(u:Un fs ex H H1 h h1){b:Addr}{a:Obj}(q:h.get? b=some a)(n:H b=none)(c:b∉ex):∃e,h1.get? b=some {a with slots:=e}:=by
 by_cases d:b∈fs
 ·exact u.slot b a q n d c
 ·exact⟨a.slots,u.keep b a q n d c⟩
theorem Un.kept(k:∀b u,h.get? b=some u->h'.get? b=some u):Un fs ex H H h h':=
 ⟨λb a q _ _ _=>k b a q,λb a q _ _ _=>⟨a.slots,k b a q⟩,λ_ _ _ n _=>n,λb a q _=>⟨a,k b a q⟩,λ_ _ q=>q,λ_ _ _ q=>q,λ_ ps q=>⟨#[],by rw[q];simp⟩⟩
theorem Un.refl:Un fs ex H H h h:=Un.kept λ_ _ q=>q
theorem Un.laid(k:∀b u,h.get? b=some u->h'.get? b=some u)(hp:h.objs.size<=a)(hn:H a=none):Un fs ex H (upd H a o) h h' where
 keep:=λb u q _ _ _=>k b u q
 slot:=λb u q _ _ _=>⟨u.slots,k b u q⟩
 free:=λb u q n _=>by rw[yI (bYI (bYK (bYv q) hp))];exact n
 there:=λb u q _=>⟨u,k b u q⟩
 tups:=λb xs q=>by rw[yI (yJ q hn)];exact q
 frzs:=λb u xs q=>by rw[yI (yJ q hn)];exact q
 tbls:=λb ps q=>⟨#[],by rw[yI (yJ q hn),q];simp⟩
theorem Un.write(c:Mut (H x))(j:e=x\/H e=some (.own x))(k:∀b u,b≠e->h.get? b=some u->h'.get? b=some u)(f:∃u,h'.get? e=some u):Un fs ex H (upd H x o) h h':=by
 have g:∀b,H b=none->b≠x:=λb n z=>by subst z;rw[n]at c;exact c
 have i:∀b,H b=none->b≠e:=λb n z=>by
  subst z;rcases j with r|r
  ·exact g b n r
  ·rw[n]at r;cases r
 have d:∀b u,H b=some u->¬Mut (some u)->b≠x:=λb u q nm z=>by subst z;rw[q]at c;exact nm c
 refine⟨λb u q n _ _=>k b u (i b n) q,λb u q n _ _=>⟨u.slots,k b u (i b n) q⟩,λb u q n _=>by rw[yI (g b n)];exact n,λb u q _=>?_,
  λb xs q=>by rw[yI (d b _ q λz=>z)];exact q,λb u xs q=>by rw[yI (d b _ q λz=>z)];exact q,λb ps q=>⟨#[],by rw[yI (d b _ q λz=>z),q];simp⟩⟩
 by_cases a:b=e
 ·subst a;exact f
 ·exact⟨u,k b u a q⟩
end
def trk(h:Heap)(H:Hp):List Addr:=(bYu h.objs.size).filter λa=>(H a).isSome
def aK2(h:Heap)(H:Hp):Heap:=PySem.W.hideAll h (trk h H)
theorem aK3(h:Heap)(H:Hp):(aK2 h H).objs.size=h.objs.size:=PySem.W.hideAll_size _ _
theorem bXi{h:Heap}{H:Hp}{b:Addr}{o:Obj}(e:h.get? b=some o)(n:H b=none):(aK2 h H).get? b=some o:=
 PySem.W.hideAll_get _ e λa=>by have q:(H b).isSome=true:=(cQo.mp a).2;rw[n]at q;simp at q
theorem bJY{h:Heap}{H:Hp}{b:Addr}{o:Obj}(e:(aK2 h H).get? b=some o):h.get? b=some o/\H b=none:=by
 have a:h.get? b=some o:=PySem.W.of_hideAll (trk h H) e;refine⟨a,?_⟩;cases q:H b with
 |none=>rfl
 |some x=>have c:b∈trk h H:=cQo.mpr ⟨bYS.mpr (bYv a),by simp[q]⟩;have z:(aK2 h H).get? b=none:=PySem.W.hideAll_none (trk h H) c;rw[z]at e;cases e
def bJy(g h:Heap)(L:Addr):List (Addr×Obj):=(bYu h.objs.size).filterMap λa=>if a=L\/(g.get? a).isSome=true then none else(h.get? a).map λo=>(a,o)
def jW(g h:Heap)(L d:Addr):List (Addr×Obj):=(bJy g h L).filter λp=>decide (p.1≠d)
end L2
namespace L2
open PySem PySem.Spec PyProof.Rows
structure Mod(K:bYj)(mg:Str->Option bYh)(base:Heap):Prop where
 kin:K.In base
 glob:base.Ns bYP mg
 blt:∃mb,base.Ns builtinsNs mb/\∀x:Str,x≠"__name__"->mb x=bY2 x
 nolimit:base.NoLimit
structure Cx where
 prog:bYD
 w:bYL
 K:bYj
 mg:Str->Option bYh
 base:Heap
 A:bYZ
 N:List Str
 s₀:bYk
 H₀:Hp
 env:Env
 outer:List Env
 stack:List Env
 ex:List Addr
 fn:Str->Bool
 calm:Bool
 pn:List (Addr×Obj)
 xe:bYh->bYk->Prop
def frs(l:List Env):List Addr:=l.filterMap (·.frame)
abbrev Cx.fs(X:Cx):List Addr:=frs X.outer
def Vis(a:cXx)(x:Str):Prop:=a.names.lookup x=some .local\/a.names.lookup x=some .cell\/a.names.lookup x=some .free
def Loc(a:cXx)(x:Str):Prop:=a.names.lookup x=some .local\/a.names.lookup x=some .cell
def bKY(env:Env)(h:Heap)(m:Str->Option bYh)(x:Str)(u:bYh):Prop:=
 (env.kindOf x=some .local/\m x=some u)\/((env.kindOf x=some .cell\/env.kindOf x=some .free)/\∃c,env.cells.lookup x=some c/\h.IsCell c (some u))
structure Cx.Ok(X:Cx):Prop where
 mod:Mod X.K X.mg X.base
 kind:X.env.scope.kind= .function
 glob:X.env.globals=bYP
 blt:X.env.builtins=builtinsNs
 above:X.s₀.heap.objs.size<=X.env.locals
 inj:∀x y c,X.env.cells.lookup x=some c->X.env.cells.lookup y=some c->x=y
 has:∀x,(X.env.kindOf x=some .cell\/X.env.kindOf x=some .free)->∃c,X.env.cells.lookup x=some c
 cab:∀x c,X.fn x=true->X.env.cells.lookup x=some c->X.s₀.heap.objs.size<=c
 hd:X.calm=true->X.A.handled=none
 frames:X.A.frames=some X.stack
 stk:X.stack=X.outer\/(X.stack=X.env::X.outer/\X.env.frame=some X.env.locals)
 exf:∀b∈X.ex,b≠X.env.locals/\∀x c,X.env.cells.lookup x=some c->c≠b
 bs:∀b o,X.base.get? b=some o->X.s₀.heap.get? b=some o/\X.H₀ b=none
 bsz:X.base.objs.size<=X.s₀.heap.objs.size
 noex:∀b o,X.base.get? b=some o->b∉X.ex
 exfs:∀b∈X.ex,b∉X.fs
 funs:X.s₀.heap.FunFrames X.base X.outer
 frf:∀b∈X.fs,X.H₀ b=none
structure Inv(X:Cx)(pins:List (Addr×Obj))(σ:List (Option V))(H:Hp)(s:bYk):Prop where
 ok:X.Ok
 os:s.os=X.s₀.os
 bare:AllBare s.gens
 base:Un X.fs X.ex X.H₀ H X.s₀.heap s.heap
 loc:∃m,s.heap.Ns X.env.locals m/\∀ (i:Nat)(x:Str)(v:V),X.N[i]? =some x->σ[i]? =some (some v)->Vis X.env.scope x->∃u,zM v u/\bKY X.env s.heap m x u
 cell:∀x c,X.env.cells.lookup x=some c->∃v,s.heap.IsCell c v
 free:H X.env.locals=none
 freeC:∀x c,X.env.cells.lookup x=some c->H c=none
 pin:∀p∈X.pn++pins,s.heap.get? p.1=some p.2/\H p.1=none/\p.1≠X.env.locals/\p.1∉X.fs/\∀v,p.2.data≠ .cell v
 hok:HOk X.prog X.w H s.heap
 len:σ.length=X.N.length
section
variable {X:Cx}{pins:List (Addr×Obj)}{σ:List (Option V)}{H H':Hp}{s:bYk}{h':Heap}
theorem Cx.Ok.nofr(ok:X.Ok){b:Addr}{o:Obj}(e:X.base.get? b=some o):b∉X.fs:=λa=>by
 have:=(ok.funs.mem a).1;rw[e]at this;cases this
theorem Inv.bs(I:Inv X pins σ H s):∀b o,X.base.get? b=some o->s.heap.get? b=some o/\H b=none:=λb o e=>
 ⟨I.base.keep b o (I.ok.bs b o e).1 (I.ok.bs b o e).2 (I.ok.nofr e) (I.ok.noex b o e),I.base.free b o (I.ok.bs b o e).1 (I.ok.bs b o e).2 (I.ok.noex b o e)⟩
theorem Inv.bk(I:Inv X pins σ H s):∀b o,X.base.get? b=some o->s.heap.get? b=some o:=λb o e=>(I.bs b o e).1
theorem Inv.mod(I:Inv X pins σ H s):Mod X.K X.mg X.base:=I.ok.mod
theorem Inv.kIn(I:Inv X pins σ H s):X.K.In s.heap:=I.ok.mod.kin.keeps I.bk
theorem Inv.nolimit(I:Inv X pins σ H s):s.heap.NoLimit:=I.ok.mod.nolimit.keeps I.bk
theorem Inv.lt(I:Inv X pins σ H s):X.env.locals<s.heap.objs.size:=let ⟨_,hn,_⟩:=I.loc;hn.lt
theorem Inv.sz(I:Inv X pins σ H s):X.s₀.heap.objs.size<=s.heap.objs.size:=bYT I.ok.above (cXU I.lt)
theorem Inv.nofs(I:Inv X pins σ H s){a:Addr}(h:s.heap.objs.size<=a):a∉X.fs:=λc=>by
 obtain⟨_,o,b,_⟩:=I.ok.funs.mem c;exact absurd (bYK (bYv b) (bYT I.sz h)) (cQs _)
theorem Inv.cne(I:Inv X pins σ H s):∀x c,X.env.cells.lookup x=some c->c≠X.env.locals:=λx c e z=>by
 obtain⟨v,o,f,d⟩:=I.cell x c e;obtain⟨m,⟨o',es,g,a,b,_⟩,_⟩:=I.loc;rw[z,a]at f;cases f;rw[b]at d;cases d
theorem Inv.funs(I:Inv X pins σ H s):s.heap.FunFrames X.base X.outer:=by
 have all:∀ (l:List Env),(∀b∈frs l,b∈X.fs)->X.s₀.heap.FunFrames X.base l->s.heap.FunFrames X.base l:=by
  intro l;induction l with
  |nil=>intro _ _;trivial
  |cons env r i=>intro f hl;obtain⟨m,⟨L,o,c,k,h,g⟩,j⟩:=hl;have a:L∈X.fs:=f L (by unfold frs;rw[cX0,c];exact bYw);obtain⟨n,e⟩:=I.base.slot L o h (I.ok.frf L a) a λz=>I.ok.exfs L z a;exact⟨m,⟨L,_,c,k,e,g⟩,i (λb d=>f b (by unfold frs;rw[cX0,c];exact bYt _ d)) j⟩
 exact all X.outer (λ_ d=>d) I.ok.funs
theorem Inv.stack(I:Inv X pins σ H s):s.heap.FunFrames X.base X.stack:=by
 rcases I.ok.stk with e|⟨e,b⟩
 ·rw[e];exact I.funs
 ·rw[e];obtain⟨m,a,_⟩:=I.loc;refine .cons (by rw[I.ok.kind];decide) b a ?_ I.funs;exact Heap.get?_none_of_le (bYT I.ok.bsz I.ok.above)
theorem Inv.stkSub(I:Inv X pins σ H s):∀b∈frs X.stack,b∈X.env.locals::X.fs:=λb a=>by
 rcases I.ok.stk with e|⟨e,c⟩
 ·rw[e]at a;exact bYt _ a
 ·rw[e]at a;unfold frs at a;rw[cX0,c]at a;exact a
theorem Inv.stkFree(I:Inv X pins σ H s):∀b∈frs X.stack,H b=none:=λb a=>by
 rcases bYq.mp (I.stkSub b a)with e|a
 ·rw[e];exact I.free
 ·obtain⟨_,o,c,_⟩:=I.ok.funs.mem a;exact I.base.free b o c (I.ok.frf b a) λz=>I.ok.exfs b z a
theorem Inv.step{g':Array GenState}{t':Nat}{d':Drawn}{ch:List Addr}(I:Inv X pins σ H s) (j:∀b∈ch,(b∈X.ex\/X.s₀.heap.objs.size<=b)/\b≠X.env.locals/\(∀x c,X.env.cells.lookup x=some c->c≠b)/\∀p∈X.pn++pins,p.1≠b) (keep:∀b o,b≠X.env.locals->b∉X.fs->b∉ch->s.heap.get? b=some o->H b=none->h'.get? b=some o) (A:∀b o,b≠X.env.locals->b∈X.fs->b∉ch->s.heap.get? b=some o->H b=none->∃M,h'.get? b=some {o with slots:=M}) (f:∀b o,b∉ch->s.heap.get? b=some o->H b=none->H' b=none) (there:∀b o,b∉ch->s.heap.get? b=some o->∃o',h'.get? b=some o') (F:∀b xs,H b=some (.tup xs)->H' b=some (.tup xs)) (E:∀b o u,H b=some (.frz o u)->H' b=some (.frz o u)) (J:∀b ps,H b=some (.tbl ps)->∃more,H' b=some (.tbl (ps++more))) (R:∀m,s.heap.Ns X.env.locals m->h'.Ns X.env.locals m) (N:HOk X.prog X.w H' h') (W:AllBare g'): Inv X pins σ H' {s with heap:=h',gens:=g',drawn:=d',toks:=t'}:=by
 have G:∀b o,X.s₀.heap.get? b=some o->b≠X.env.locals:=λb o e=>bYI (bYK (bYv e) I.ok.above);have t:∀b o,X.s₀.heap.get? b=some o->b∉X.ex->b∉ch:=λb o e a B=>by
  rcases(j b B).1 with z|z
  ·exact a z
  ·exact absurd (bYK (bYv e) z) (cQs _)
 have g:∀x c,X.env.cells.lookup x=some c->∀v,s.heap.IsCell c v->h'.IsCell c v:=λx c e v ⟨o,C,K⟩=>by
  have h:c∉ch:=λz=>(j c z).2.2.1 x c e rfl;by_cases P:c∈X.fs
  ·obtain⟨M,q⟩:=A c o (I.cne x c e) P h C (I.freeC x c e);exact⟨_,q,K⟩
  ·exact⟨o,keep c o (I.cne x c e) P h C (I.freeC x c e),K⟩
 refine⟨I.ok,I.os,W,⟨λb o e n B a=>?_,λb o e n B a=>?_,λb o e n a=>?_,λb o e a=>?_,λb xs e=>F b xs (I.base.tups b xs e),λb o xs e=>E b o xs (I.base.frzs b o xs e),λb ps e=>?_⟩,?_,λx c e=>?_,?_,λx c e=>?_,λp Q=>?_,N,I.len⟩
 ·exact keep b o (G b o e) B (t b o e a) (I.base.keep b o e n B a) (I.base.free b o e n a)
 ·obtain⟨M,y⟩:=I.base.slot b o e n B a;obtain⟨L,D⟩:=A b _ (G b o e) B (t b o e a) y (I.base.free b o e n a);exact⟨L,D⟩
 ·obtain⟨o',y⟩:=I.base.there b o e a;exact f b o' (t b o e a) y (I.base.free b o e n a)
 ·obtain⟨o',y⟩:=I.base.there b o e a;exact there b o' (t b o e a) y
 ·obtain⟨T,y⟩:=I.base.tbls b ps e;obtain⟨S,D⟩:=J b _ y;exact⟨T++S,by rw[D,Array.append_assoc]⟩
 ·obtain⟨m,U,hl⟩:=I.loc;refine⟨m,R m U,λi x v y D V=>?_⟩;obtain⟨u,r,l⟩:=hl i x v y D V;refine⟨u,r,?_⟩;rcases l with l|⟨k,c,e,z⟩
  ·exact .inl l
  ·exact .inr ⟨k,c,e,g x c e _ z⟩
 ·obtain⟨v,z⟩:=I.cell x c e;exact⟨v,g x c e v z⟩
 ·obtain⟨m,⟨o,_,_,C,_⟩,_⟩:=I.loc;exact f _ o (λz=>(j _ z).2.1 rfl) C I.free
 ·obtain⟨v,o,C,K⟩:=I.cell x c e;exact f c o (λz=>(j c z).2.2.1 x c e rfl) C (I.freeC x c e)
 ·obtain⟨e,n,ne,O,d⟩:=I.pin p Q;have h:p.1∉ch:=λz=>(j p.1 z).2.2.2 p Q rfl;exact⟨keep p.1 p.2 ne O h e n,f p.1 p.2 h e n,ne,O,d⟩
theorem Inv.un{t':Nat}(I:Inv X pins σ H s)(u:Un X.fs [] H H' s.heap h')(g:HOk X.prog X.w H' h'):Inv X pins σ H' {s with heap:=h',toks:=t'}:=by
 obtain⟨m,⟨o,es,l,h,r⟩,_⟩:=id I.loc;obtain⟨q,j⟩:=u.any h I.free (by simp);exact I.step (g':=s.gens) (d':=s.drawn) (ch:= []) (λ_ z=>nomatch z) (λb o _ f _ e n=>u.keep b o e n f (by simp)) (λb o _ f _ e n=>u.slot b o e n f (by simp)) (λb o _ e n=>u.free b o e n (by simp)) (λb o _ e=>u.there b o e (by simp)) u.tups u.frzs u.tbls (λp k=>by
  obtain⟨o',d,c,a,i⟩:=k;rw[h]at a;cases a;exact⟨_,d,c,j,i⟩) g I.bare
theorem Inv.call{g':Array GenState}{t':Nat}{d':Drawn}{ch:List Addr}(I:Inv X pins σ H s)(u:Un (frs X.stack) ch H H' s.heap h')(j:HOk X.prog X.w H' h')(v:AllBare g') (f:∀b∈ch,(b∈X.ex\/X.s₀.heap.objs.size<=b)/\b≠X.env.locals/\(∀x c,X.env.cells.lookup x=some c->c≠b)/\∀p∈X.pn++pins,p.1≠b): Inv X pins σ H' {s with heap:=h',gens:=g',drawn:=d',toks:=t'}:=by
 obtain⟨m,⟨o,es,y,k,r⟩,_⟩:=id I.loc;obtain⟨B,h⟩:=u.any k I.free λz=>(f _ z).2.1 rfl;exact I.step (ch:=ch) f (λb o h q a e n=>u.keep b o e n (λz=>(bYq.mp (I.stkSub b z)).elim h q) a) (λb o _ _ a e n=>u.any e n a) (λb o a e n=>u.free b o e n a) (λb o a e=>u.there b o e a) u.tups u.frzs u.tbls (λA t=>by
  obtain⟨o',i,g,d,l⟩:=t;rw[k]at d;cases d;exact⟨_,i,g,h,l⟩) j v
theorem Inv.turned{t':Nat}{it:Addr}(I:Inv X pins σ H s)(k:∀b o,b≠it->s.heap.get? b=some o->h'.get? b=some o)(j:H it=none)(f:it≠X.env.locals) (h1:it∈X.ex\/X.s₀.heap.objs.size<=it) (h2:∀x c,X.env.cells.lookup x=some c->c≠it) (i:∀p∈X.pn++pins,p.1≠it):Inv X pins σ H {s with heap:=h',toks:=t'}:=by
 have d:∀b u,H b=some u->b≠it:=λb u e z=>by rw[z,j]at e;cases e
 refine I.step (g':=s.gens) (d':=s.drawn) (ch:= [it]) (λb l=>?_) (λb o _ _ a e _=>k b o (λz=>a (by simp[z])) e) (λb o _ _ a e _=>⟨o.slots,k b o (λz=>a (by simp[z])) e⟩) (λ_ _ _ _ n=>n)
  (λb o a e=>⟨o,k b o (λz=>a (by simp[z])) e⟩) (λ_ _ e=>e) (λ_ _ _ e=>e) (λb ps e=>⟨#[],by rw[e];simp⟩) (λm t=>?_) (λb u e=>?_) I.bare
 ·have e:b=it:=by simpa using l
  subst e;exact⟨h1,f,h2,i⟩
 ·obtain⟨o,es,h,g,r⟩:=t;exact⟨o,es,h,k _ o (bY0 f) g,r⟩
 ·refine(I.hok b u e).stay (λc v a q=>k c v ?_ q) (λ_ q=>q) λ_ _ q=>q;rcases a with z|z
  ·rw[z];exact d b u e
  ·exact d c _ z
theorem Inv.tok(I:Inv X pins σ H s)(t:Nat):Inv X pins σ H {s with toks:=t}:=I.un (h':=s.heap) (t':=t) Un.refl I.hok
theorem Inv.kept{t':Nat}(I:Inv X pins σ H s)(k:∀b u,s.heap.get? b=some u->h'.get? b=some u):Inv X pins σ H {s with heap:=h',toks:=t'}:=I.un (Un.kept k) (I.hok.kept k)
theorem Inv.laid{a:Addr}{o:HO}{t':Nat}(I:Inv X pins σ H s)(k:∀b u,s.heap.get? b=some u->h'.get? b=some u)(c:s.heap.objs.size<=a)(d:zE X.prog X.w (upd H a o) h' a o):
  Inv X pins σ (upd H a o) {s with heap:=h',toks:=t'}:=I.un (Un.laid k c (I.hok.fresh c)) (I.hok.laid k c d)
theorem Inv.write{x e:Addr}{o:HO}{t':Nat}(I:Inv X pins σ H s)(d:Mut (H x))(f:e=x\/H e=some (.own x))(k:∀b u,b≠e->s.heap.get? b=some u->h'.get? b=some u)(a:∃u,h'.get? e=some u)
  (c:zE X.prog X.w (upd H x o) h' x o):Inv X pins σ (upd H x o) {s with heap:=h',toks:=t'}:=I.un (Un.write d f k a) (I.hok.write d f k a c)
theorem Inv.pins_of{a:List (Addr×Obj)}(I:Inv X pins σ H s)(h:∀p∈a,s.heap.get? p.1=some p.2/\H p.1=none/\p.1≠X.env.locals/\p.1∉X.fs/\∀v,p.2.data≠ .cell v):Inv X a σ H s:=
 ⟨I.ok,I.os,I.bare,I.base,I.loc,I.cell,I.free,I.freeC,λp b=>(bYU.mp b).elim (λz=>I.pin p (cXe _ z)) (h p),I.hok,I.len⟩
theorem aVK{N:List Str}(c:N.Nodup){i j:Nat}{x:Str}(a:N[i]? =some x)(b:N[j]? =some x):i=j:=by
 obtain⟨h1,e⟩:=bYs.mp a;obtain⟨h2,d⟩:=bYs.mp b;exact(cQ6 c).mp (e.trans d.symm)
theorem aQ3{M:Model}{A:bYZ}{E:bYh->bYk->Prop}{i:Nat}{x:Str}{v:V}{u:bYh}{Q:Unit->bYk->Prop}(I:Inv X pins σ H s)(hN:X.N.Nodup)(hi:X.N[i]? =some x)(B:Loc X.env.scope x)(r:zM v u) (h:∀s',Inv X pins (σ.set i (some v)) H s'->(∃a,cXl a s.heap s'.heap/\(a=X.env.locals\/X.env.cells.lookup x=some a))->Q () s') (hf:X.fn x=true\/X.env.scope.names.lookup x=some .local:=by first|exact .inl rfl|exact .inr rfl|assumption):bYp M A (storeName X.env x u) Q E s:=by
 obtain⟨m,hn,hl⟩:=id I.loc;have L:(X.env.scope.kind== .class || (X.env.scope.kind== .module && X.env.locals !=X.env.globals))=false:=by rw[I.ok.kind];rfl
 have hiσ:i<σ.length:=by rw[I.len];exact(bYs.mp hi).1
 have cne:=I.cne;have g:∀ {a:Addr} {h':Heap},(∃o,s.heap.get? a=some o/\H a=none)->cXl a s.heap h'->HOk X.prog X.w H h':=λ{a h'} ha f b ob e=>by
  obtain⟨_,_,C⟩:=ha;refine(I.hok b ob e).stay (λc T t q=>(f.2 c ?_).trans q) (λ_ q=>q) λ_ _ q=>q;rintro rfl;rcases t with rfl|t
  ·rw[C]at e;cases e
  ·rw[C]at t;cases t
 rcases B with F|F
 ·refine wpAny_storeName_local F hn (λh' a0 f=>?_) L;obtain⟨oL,_,_,a1,_⟩:=id hn;refine h _ ⟨I.ok,I.os,I.bare,⟨λb o e n K B=>?_,λb o e n K B=>?_,I.base.free,λb o e B=>?_,I.base.tups,I.base.frzs,I.base.tbls⟩,⟨_,a0,λj y W l D e3=>?_⟩,λy c e=>?_,I.free,I.freeC,λp hp=>?_,g ⟨oL,a1,I.free⟩ f,by simpa using I.len⟩ ⟨_,f,.inl rfl⟩
  ·exact(f.2 b (bYI (bYK (bYv e) I.ok.above))).trans (I.base.keep b o e n K B)
  ·obtain⟨sl,l⟩:=I.base.slot b o e n K B;exact⟨sl,(f.2 b (bYI (bYK (bYv e) I.ok.above))).trans l⟩
  ·obtain⟨o',l⟩:=I.base.there b o e B;exact⟨o',(f.2 b (bYI (bYK (bYv e) I.ok.above))).trans l⟩
  ·by_cases J:j=i
   ·subst J;rw[hi]at l;cases l;rw[cZa hiσ]at D;cases D;exact⟨u,r,.inl ⟨F,by simp⟩⟩
   ·rw[cZ0 (bY0 J)]at D;obtain⟨u',Z,q⟩:=hl j y W l D e3;refine⟨u',Z,?_⟩;rcases q with⟨k,e⟩|⟨k,c,e,z⟩
    ·refine .inl ⟨k,?_⟩;have:y≠x:=λe=>J (aVK hN l (e ▸ hi));simp[this,e]
    ·exact .inr ⟨k,c,e,z.sameBut f (cne y c e)⟩
  ·obtain⟨T,z⟩:=I.cell y c e;exact⟨T,z.sameBut f (cne y c e)⟩
  ·obtain⟨e,n,ne,Y,d⟩:=I.pin p hp;exact⟨(f.2 p.1 ne).trans e,n,ne,Y,d⟩
 ·have G:X.fn x=true:=by
   rcases hf with z|z
   ·exact z
   ·rw[z]at F;cases F
  obtain⟨c,t⟩:=I.ok.has x (.inl F);obtain⟨T,z⟩:=I.cell x c t;refine wpAny_storeName_cell I.ok.kind F t z (λh' S f=>?_);obtain⟨oc,P,O⟩:=id z;refine h {s with heap:=h'} ⟨I.ok,I.os,I.bare,⟨λb o e n K B=>?_,λb o e n K B=>?_,I.base.free,λb o e B=>?_,I.base.tups,I.base.frzs,I.base.tbls⟩,⟨m,hn.sameBut f (bY0 (cne x c t)),λj y W l D e3=>?_⟩,λy U e=>?_,I.free,I.freeC,λp hp=>?_,g ⟨oc,P,I.freeC x c t⟩ f,by simpa using I.len⟩ ⟨c,f,.inr t⟩
  ·exact(f.2 b (bYI (bYK (bYv e) (I.ok.cab x c G t)))).trans (I.base.keep b o e n K B)
  ·obtain⟨sl,l⟩:=I.base.slot b o e n K B;exact⟨sl,(f.2 b (bYI (bYK (bYv e) (I.ok.cab x c G t)))).trans l⟩
  ·obtain⟨o',l⟩:=I.base.there b o e B;exact⟨o',(f.2 b (bYI (bYK (bYv e) (I.ok.cab x c G t)))).trans l⟩
  ·by_cases J:j=i
   ·subst J;rw[hi]at l;cases l;rw[cZa hiσ]at D;cases D;exact⟨u,r,.inr ⟨.inl F,c,t,S⟩⟩
   ·rw[cZ0 (bY0 J)]at D;obtain⟨u',Z,q⟩:=hl j y W l D e3;refine⟨u',Z,?_⟩;rcases q with q|⟨k,U,e,z'⟩
    ·exact .inl q
    ·refine .inr ⟨k,U,e,z'.sameBut f ?_⟩;rintro rfl;exact J (aVK hN l (I.ok.inj _ _ _ e t ▸ hi))
  ·by_cases R:U=c
   ·subst R;exact⟨_,S⟩
   ·obtain⟨w2,z2⟩:=I.cell y U e;exact⟨w2,z2.sameBut f R⟩
  ·obtain⟨e,n,ne,Y,d⟩:=I.pin p hp;refine⟨(f.2 p.1 ?_).trans e,n,ne,Y,d⟩;intro q;rw[q,P]at e;have q':oc=p.2:=bYC e;exact d T (by rw[<- q'];exact O)
theorem aWh{M:Model}{A:bYZ}{E:bYh->bYk->Prop}{i:Nat}{x:Str}{v:V}{u:bYh}{Q:Unit->bYk->Prop}(I:Inv X pins σ H s)(d:X.N.Nodup)(hi:X.N[i]? =some x)(c:Loc X.env.scope x)(r:zM v u) (h:∀s',Inv X pins (σ.set i (some v)) H s'->Q () s') (b:X.fn x=true\/X.env.scope.names.lookup x=some .local:=by first|exact .inl rfl|exact .inr rfl|assumption):bYp M A (storeName X.env x u) Q E s:=
 aQ3 I d hi c r (λs' a _=>h s' a) b
theorem Inv.call'{s':bYk}{ch:List Addr}(I:Inv X pins σ H s)(i:s'.os=s.os)(u:Un (frs X.stack) ch H H' s.heap s'.heap)(d:HOk X.prog X.w H' s'.heap)(j:AllBare s'.gens) (a:∀b∈ch,(b∈X.ex\/X.s₀.heap.objs.size<=b)/\b≠X.env.locals/\(∀x c,X.env.cells.lookup x=some c->c≠b)/\∀p∈X.pn++pins,p.1≠b):Inv X pins σ H' s':=by
 obtain⟨h',h,g,f,o'⟩:=s';have e:o'=s.os:=i;subst e;exact I.call (g':=h) (t':=f) (d':=g) u d j a
end
abbrev XK:=bYh->Option Addr->Hp->Prop
abbrev St:=List (Option V)
abbrev VK:=V->Hp->Prop
abbrev TE:=St->Hp->VK->Prop
abbrev TT:=St->Hp->(Bool->Hp->Prop)->Prop
abbrev TA:=St->Hp->(List V->Hp->Prop)->Prop
structure aKB where
 nx:St->Hp->Prop
 rt:VK
 bk:St->Hp->Prop:=λ_ _=>False
 ct:St->Hp->Prop:=λ_ _=>False
abbrev TS:=aKB->St->Hp->Prop
def EP(X:Cx)(pins:List (Addr×Obj))(σ:St)(Q:VK)(u:bYh)(s':bYk):Prop:=∃v H',Inv X pins σ H' s'/\zM v u/\Q v H'
def TP(X:Cx)(pins:List (Addr×Obj))(σ:St)(Q:Bool->Hp->Prop)(b:Bool)(s':bYk):Prop:=∃H',Inv X pins σ H' s'/\Q b H'
def AP(X:Cx)(pins:List (Addr×Obj))(σ:St)(Q:List V->Hp->Prop)(us:List bYh)(s':bYk):Prop:=∃a H',Inv X pins σ H' s'/\xV a us/\Q a H'
def SP(X:Cx)(pins:List (Addr×Obj))(D:aKB)(f:Flow)(s':bYk):Prop:=
 match f with
 |.next=>∃a H',Inv X pins a H' s'/\D.nx a H'
 |.brk=>∃a H',Inv X pins a H' s'/\D.bk a H'
 |.cont=>∃a H',Inv X pins a H' s'/\D.ct a H'
 |.ret u=>∃v a H',Inv X pins a H' s'/\zM v u/\D.rt v H'
def PE(X:Cx)(e:Expr)(t:TE):Prop:=
 ∀ (pins:List (Addr×Obj))(s:bYk)(σ:St)(H:Hp)(Q:VK),Inv X pins σ H s->t σ H Q->bYp (bYr X.prog X.w) X.A (eval e X.env) (EP X pins σ Q) X.xe s
def PT(X:Cx)(e:Expr)(t:TT):Prop:=
 ∀ (pins:List (Addr×Obj))(s:bYk)(σ:St)(H:Hp)(Q:Bool->Hp->Prop),Inv X pins σ H s->t σ H Q->bYp (bYr X.prog X.w) X.A (isTrue e X.env (eval e X.env)) (TP X pins σ Q) X.xe s
def PW(X:Cx)(e:Expr)(t:TT):Prop:=
 ∀ (a:Sem bYh)(pins:List (Addr×Obj))(s:bYk)(σ:St)(H:Hp)(Q:Bool->Hp->Prop),Inv X pins σ H s->t σ H Q->bYp (bYr X.prog X.w) X.A (isTrue e X.env a) (TP X pins σ Q) X.xe s
theorem PW.pt{X:Cx}{e:Expr}{t:TT}(h:PW X e t):PT X e t:=h _
def PA(X:Cx)(es:List Expr)(t:TA):Prop:=
 ∀ (pos:Pos)(pins:List (Addr×Obj))(s:bYk)(σ:St)(H:Hp)(Q:List V->Hp->Prop),Inv X pins σ H s->t σ H Q->bYp (bYr X.prog X.w) X.A (spliced (cQV pos (bYX es X.env))) (AP X pins σ Q) X.xe s
def PS(X:Cx)(st:Stmt)(t:TS):Prop:=
 ∀ (pins:List (Addr×Obj))(s:bYk)(σ:St)(H:Hp)(D:aKB),Inv X pins σ H s->t D σ H->bYp (bYr X.prog X.w) X.A (exec st X.env) (SP X pins D) X.xe s
def PSs(X:Cx)(st:List Stmt)(t:TS):Prop:=
 ∀ (pins:List (Addr×Obj))(s:bYk)(σ:St)(H:Hp)(D:aKB),Inv X pins σ H s->t D σ H->bYp (bYr X.prog X.w) X.A (execs st X.env) (SP X pins D) X.xe s
theorem thn{α:Type}{t:Sem α}{Q b:α->bYk->Prop}{M:Model}{A:bYZ}{E:bYh->bYk->Prop}{s:bYk}(h:bYp M A t Q E s)(c:∀a s,Q a s->b a s):bYp M A t b E s:=cQl h c λ_ _ x=>x
end L2
namespace L2
open PySem PySem.Spec PyProof.Rows
section
variable {X:Cx}
theorem bin{a b:Expr}{ta tb:TE}(g:PE X a ta)(j:PE X b tb){pins:List (Addr×Obj)}{s:bYk}{σ:St}{H:Hp}{R:V->V->Hp->Prop}(I:Inv X pins σ H s)(h:ta σ H λx H1=>tb σ H1 λy H2=>R x y H2) {α:Type} {Q:α->bYk->Prop} {f:bYh->bYh->Sem α} (i:∀v u e x y H2,Inv X pins σ H2 e->zM x v->zM y u->R x y H2->bYp (bYr X.prog X.w) X.A (f v u) Q X.xe e): bYp (bYr X.prog X.w) X.A (eval a X.env) (λv d=>bYp (bYr X.prog X.w) X.A (eval b X.env) (λu c=>bYp (bYr X.prog X.w) X.A (f v u) Q X.xe c) X.xe d) X.xe s:=by
 refine thn (g pins s σ H _ I h) λv s1 ⟨x,H1,I1,r1,q1⟩=>?_;refine thn (j pins s1 σ H1 _ I1 q1) λu e ⟨y,H2,I2,r2,q2⟩=>?_;exact i v u e x y H2 I2 r1 r2 q2
def bVZ(i:Nat):TE:=λσ H Q=>∃v,σ[i]? =some (some v)/\Q v H
def tC(v:V):TE:=λ_ H Q=>Q v H
theorem bJb{i:Nat}{x:Str}{pos:Pos}(j:X.N[i]? =some x)(o:Vis X.env.scope x)(d:(x==("__debug__":Str))=false:=by decide)(f:(x==("__classdict__":Str))=false:=by decide):PE X (.Name x pos) (bVZ i):=by
 intro pins s σ H Q I h;obtain⟨v,e,h⟩:=h;obtain⟨m,k,hl⟩:=I.loc;obtain⟨u,r,l⟩:=hl i x v j e o;have fin:EP X pins σ Q u s:=⟨v,H,I,r,h⟩;rcases l with⟨b,n⟩|⟨b,c,g,a⟩
 ·exact wpAny_Name (wpAny_loadName_local I.ok.kind b k n fin) d
 ·rcases b with b|b
  ·exact wpAny_Name (wpAny_loadName_cell I.ok.kind b g a fin) d
  ·exact wpAny_Name (wpAny_loadName_free I.ok.kind b g a fin f) d
theorem yE{i j pos}:PE X (.Constant (.int i) j pos) (tC (.int i)):=λ_ _ _ H _ I h=>wpAny_Constant_int ⟨.int i,H,I.tok _,⟨_,rfl⟩,h⟩
theorem wQ{b j pos}:PE X (.Constant (.bool b) j pos) (tC (.bl b)):=λ_ _ _ H _ I h=>Constant_bool ⟨.bl b,H,I,rfl,h⟩
theorem x3{j pos}:PE X (.Constant .none j pos) (tC .non):=λ_ _ _ H _ I h=>Constant_none ⟨.non,H,I,rfl,h⟩
theorem yR{x j pos}:PE X (.Constant (.str x) j pos) (tC (.str x)):=λ_ _ _ H _ I h=>Calls.Constant_str ⟨.str x,H,I.tok _,⟨_,rfl⟩,h⟩
def Gl(X:Cx)(x:Str):Prop:=X.env.kindOf x=some .globalImplicit
theorem uV{E:bYh->bYk->Prop}{pins:List (Addr×Obj)}{s:bYk}{σ:St}{H:Hp}{x:Str}{u:bYh}{pos:Pos}{Q:bYh->bYk->Prop}(I:Inv X pins σ H s)(c:Gl X x)(a:X.mg x=some u)(h:Q u s) (b:(x==("__debug__":Str))=false:=by decide):bYp (bYr X.prog X.w) X.A (eval (.Name x pos) X.env) Q E s:=
 cJq I.ok.kind c (Calls.loadGlobal_global (by rw[I.ok.glob];exact I.mod.glob.keeps I.bk) a h) b
theorem aXp{E:bYh->bYk->Prop}{pins:List (Addr×Obj)}{s:bYk}{σ:St}{H:Hp}{x:Str}{u:bYh}{pos:Pos}{Q:bYh->bYk->Prop}(I:Inv X pins σ H s)(e:Gl X x)(c:X.mg x=none)(d:bY2 x=some u)(h:Q u s) (b:x≠"__name__":=by decide) (a:(x==("__debug__":Str))=false:=by decide):bYp (bYr X.prog X.w) X.A (eval (.Name x pos) X.env) Q E s:=by
 obtain⟨f,h1,h2⟩:=I.mod.blt;exact cJq I.ok.kind e (Calls.loadGlobal_builtin (by rw[I.ok.glob];exact I.mod.glob.keeps I.bk) c (by rw[I.ok.blt];exact h1.keeps I.bk) ((h2 x b).trans d) h) a
theorem uB{x:Str}{v:V}{u:bYh}{pos:Pos}(c:Gl X x)(a:X.mg x=some u)(r:zM v u)(b:(x==("__debug__":Str))=false:=by decide):PE X (.Name x pos) (tC v):=
 λ_ _ _ H _ I h=>uV I c a ⟨v,H,I,r,h⟩ b
theorem xQ{x:Str}{v:V}{u:bYh}{pos:Pos}(d:Gl X x)(a:X.mg x=none)(c:bY2 x=some u)(r:zM v u)(e:x≠"__name__":=by decide)(b:(x==("__debug__":Str))=false:=by decide):PE X (.Name x pos) (tC v):=
 λ_ _ _ H _ I h=>aXp I d a c ⟨v,H,I,r,h⟩ e b
variable {a b:Expr}{ta tb:TE}{pos:Pos}
def PC(X:Cx)(op:CmpOp)(a b:Expr)(t:TE):Prop:=
 ∀ (pins:List (Addr×Obj))(s:bYk)(σ:St)(H:Hp)(Q:VK),Inv X pins σ H s->t σ H Q->
  bYp (bYr X.prog X.w) X.A (eval a X.env) (λv c=>bYp (bYr X.prog X.w) X.A (eval b X.env) (λu d=>bYp (bYr X.prog X.w) X.A (cQN op v u) (EP X pins σ Q) X.xe d) X.xe c) X.xe s
theorem bXB(b:Expr){op:CmpOp}(h:op≠ .In)(h2:op≠ .NotIn):cX5 op b=false:=by
 have c:(op==CmpOp.In)=false:=by cases op<;> first|rfl|exact absurd rfl h
 have a:(op==CmpOp.NotIn)=false:=by cases op<;> first|rfl|exact absurd rfl h2
 cases b<;> simp[cX5,c,a]
def tB(t:TE):TT:=λσ H Q=>t σ H λx H1=>∃c,x= .bl c/\Q c H1
theorem bWP{op:CmpOp}{t:TE}(h:PC X op a b t)(h1:cX5 op b=false:=by first|exact bXB _ (by decide) (by decide)|rfl):PT X (.Compare a [op] [b] pos) (tB t):=by
 intro pins s σ H Q I hw;refine wpAny_isTrue_Compare1 (thn (h pins s σ H _ I hw) λv e h1=>thn h1 λu f h2=>thn h2 λc s3 ⟨x,H1,I1,r1,q1⟩=>?_) h1;obtain⟨d,rfl,q⟩:=q1;cases r1;exact cXi ⟨H1,I1,q⟩
theorem xX{e:Expr}{t:TE}(h:PE X e t)(b:∀a,isTrue e X.env a=(do let v <- a;standAt e.pos;cZz [v] (truthy v)):=by intro _;rfl):PT X e (tB t):=by
 intro pins s σ H Q I hw;refine isTrue_plain (thn (h pins s σ H _ I hw) λv s1 ⟨x,H1,I1,r1,q1⟩=>?_) (b _);obtain⟨d,rfl,q⟩:=q1;cases r1;exact cXi ⟨H1,I1,q⟩
variable {tA tB':TT}{jW:List Expr}
def bYa(t u:TT):TT:=λσ H Q=>t σ H λc H1=>if c=true then u σ H1 Q else Q false H1
def tOr(t u:TT):TT:=λσ H Q=>t σ H λc H1=>if c=true then Q true H1 else u σ H1 Q
def bYd(t:TT):TT:=λσ H Q=>t σ H λc H1=>Q (!c) H1
theorem wR(b:PT X a tA):PW X (.BoolOp .And [a] pos) tA:=by
 intro f pins s σ H Q I h;refine isTrue_and (thn (b pins s σ H Q I h) λc d e=>?_);cases c with
 |true=>exact isTrue_and_nil e
 |false=>exact e
theorem vT(b:PT X a tA):PW X (.BoolOp .Or [a] pos) tA:=by
 intro f pins s σ H Q I h;refine isTrue_or (thn (b pins s σ H Q I h) λc d e=>?_);cases c with
 |false=>exact isTrue_or_nil e
 |true=>exact e
theorem vS(d:PT X a tA)(f:PW X (.BoolOp .And (b::jW) pos) tB'):PW X (.BoolOp .And (a::b::jW) pos) (bYa tA tB'):=by
 intro e pins s σ H Q I h;refine isTrue_and (thn (d pins s σ H _ I h) λc s1 ⟨H1,I1,q1⟩=>?_);cases c with
 |true=>exact f e pins s1 σ H1 Q I1 q1
 |false=>exact⟨H1,I1,q1⟩
theorem jV(d:PT X a tA)(f:PW X (.BoolOp .Or (b::jW) pos) tB'):PW X (.BoolOp .Or (a::b::jW) pos) (tOr tA tB'):=by
 intro e pins s σ H Q I h;refine isTrue_or (thn (d pins s σ H _ I h) λc s1 ⟨H1,I1,q1⟩=>?_);cases c with
 |true=>exact⟨H1,I1,q1⟩
 |false=>exact f e pins s1 σ H1 Q I1 q1
theorem vF(b:PT X a tA):PT X (.UnaryOp .Not a pos) (bYd tA):=by
 intro pins s σ H Q I h;exact isTrue_not (b pins s σ H (λc H1=>Q (!c) H1) I h)
def bKI(ta tb:TE):TE:=λσ H Q=>ta σ H λx H1=>∃c,x= .bl c/\if c=true then tb σ H1 Q else Q (.bl false) H1
def bYe(ta tb:TE):TE:=λσ H Q=>ta σ H λx H1=>∃c,x= .bl c/\if c=true then Q (.bl true) H1 else tb σ H1 Q
def bKJ(ta:TE):TE:=λσ H Q=>ta σ H λx H1=>∃c,x= .bl c/\Q (.bl (!c)) H1
theorem aZU{op}{t:TE}(h:PE X a t):PE X (.BoolOp op [a] pos) t:=λpins s σ H Q I hw=>BoolOp_one (h pins s σ H Q I hw)
theorem aVR(e:PE X a ta)(f:PE X (.BoolOp .And (b::jW) pos) tb):PE X (.BoolOp .And (a::b::jW) pos) (bKI ta tb):=by
 intro pins s σ H Q I h;refine BoolOp_and (thn (e pins s σ H _ I h) λv s1 ⟨x,H1,I1,r1,d⟩=>?_);obtain⟨c,rfl,d⟩:=d;cases r1;refine cXi ?_;cases c with
 |true=>exact f pins s1 σ H1 Q I1 d
 |false=>exact⟨.bl false,H1,I1,rfl,d⟩
theorem bWL(e:PE X a ta)(f:PE X (.BoolOp .Or (b::jW) pos) tb):PE X (.BoolOp .Or (a::b::jW) pos) (bYe ta tb):=by
 intro pins s σ H Q I h;refine BoolOp_or (thn (e pins s σ H _ I h) λv s1 ⟨x,H1,I1,r1,d⟩=>?_);obtain⟨c,rfl,d⟩:=d;cases r1;refine cXi ?_;cases c with
 |false=>exact f pins s1 σ H1 Q I1 d
 |true=>exact⟨.bl true,H1,I1,rfl,d⟩
theorem bJa(d:PE X a ta):PE X (.UnaryOp .Not a pos) (bKJ ta):=by
 intro pins s σ H Q I h;refine UnaryOp_ (thn (d pins s σ H _ I h) λv s1 ⟨x,H1,I1,r1,b⟩=>?_);obtain⟨c,rfl,b⟩:=b;cases r1;exact not_of (cXi ⟨.bl (!c),H1,I1,rfl,b⟩)
def tIf(t:TT)(ta tb:TE):TE:=λσ H Q=>t σ H λc H1=>if c=true then ta σ H1 Q else tb σ H1 Q
theorem aVS{c:Expr}(f:PT X c tA)(e:PE X a ta)(g:PE X b tb):PE X (.IfExp c a b pos) (tIf tA ta tb):=by
 intro pins s σ H Q I h;refine wpAny_IfExp (thn (f pins s σ H _ I h) λd s1 ⟨H1,I1,q1⟩=>?_);cases d with
 |true=>exact e pins s1 σ H1 Q I1 q1
 |false=>exact g pins s1 σ H1 Q I1 q1
end
end L2
namespace L2
open PySem PySem.Spec PyProof.Rows
def SqL(K:bYj)(H:Hp)(a:Addr)(xs:List V):Prop:=
 Rd H a (.lst xs)\/
  ∃ (o:Obj)(b:Array bYh)(n:Nat),K.lookup a=some o/\o.cls= .type "list"/\o.dict=none/\o.data= .seq b n/\b.size<=bYJ/\xV xs b.toList
def SqT(K:bYj)(H:Hp)(a:Addr)(xs:List V):Prop:=
 Rd H a (.tup xs)\/
  ∃ (o:Obj)(b:Array bYh)(n:Nat),K.lookup a=some o/\o.cls= .type "tuple"/\o.data= .seq b n/\b.size<=bYJ/\xV xs b.toList
def bKZ:bYh->Option V
 |.none=>some .non
 |.bool b=>some (.bl b)
 |.int i _=>some (.int i)
 |.str x _=>some (.str x)
 |.bytes b _=>some (.byt b)
 |.float b _=>some (.flt b)
 |.ref a=>some (.ref a)
 |.type n=>some (.ty n)
 |_=>none
theorem zM.abs{x:V}{u:bYh}(r:zM x u):bKZ u=some x:=by
 cases x with
 |non=>cases r;rfl
 |bl _=>cases r;rfl
 |int _=>obtain⟨t,rfl⟩:=r;rfl
 |str _=>obtain⟨t,rfl⟩:=r;rfl
 |byt _=>obtain⟨t,rfl⟩:=r;rfl
 |flt _=>obtain⟨t,rfl⟩:=r;rfl
 |ref _=>cases r;rfl
 |ty _=>cases r;rfl
theorem zM.inj{x y:V}{u:bYh}(r:zM x u)(q:zM y u):x=y:=bYC (r.abs.symm.trans q.abs)
theorem xV.inj:∀ {xs ys:List V} {us:List bYh},xV xs us->xV ys us->xs=ys
 |_,_,_,.nil,.nil=>rfl
 |_,_,_,.cons r t,.cons r' t'=>by rw[r.inj r',xV.inj t t']
section
variable {X:Cx}{pins:List (Addr×Obj)}{σ:St}{H:Hp}{s:bYk}{a:Addr}{xs ys:List V}
theorem SqL.of{K:bYj}(h:H a=some (.lst xs)):SqL K H a xs:= .inl (.inl h)
theorem SqT.of{K:bYj}(h:H a=some (.tup xs)):SqT K H a xs:= .inl (.inl h)
theorem Inv.list(I:Inv X pins σ H s)(h:SqL X.K H a xs):∃b:List bYh,xV xs b/\PlainL s.heap a b.toArray/\xs.length<=bYJ:=by
 rcases h with h|⟨o,b,n,g,d,c,f,i,r⟩
 ·obtain⟨z,b,n,r,e⟩:=h.ok I.hok;exact⟨b,r,⟨_,n,e,rfl,rfl,rfl⟩,z⟩
 ·refine⟨b.toList,r,⟨o,n,I.kIn a o g,d,c,by simpa using f⟩,?_⟩;have e:=r.length;simp only[cQE]at e;omega
theorem Inv.tuple(I:Inv X pins σ H s)(h:SqT X.K H a xs):∃b:List bYh,xV xs b/\cZc s.heap a b.toArray/\xs.length<=bYJ:=by
 rcases h with h|⟨o,b,n,f,c,d,g,r⟩
 ·obtain⟨z,b,r,p⟩:=h.ok I.hok;exact⟨b,r,p,z⟩
 ·refine⟨b.toList,r,⟨o,I.kIn a o f,c,n,by simpa using d⟩,?_⟩;have e:=r.length;simp only[cQE]at e;omega
theorem Inv.list_inj(I:Inv X pins σ H s)(h:SqL X.K H a xs)(h':SqL X.K H a ys):xs=ys:=by
 obtain⟨c,r,⟨o,n,e,_,_,d⟩,_⟩:=I.list h;obtain⟨b,i,⟨o',j,g,_,_,f⟩,_⟩:=I.list h';rw[e]at g;cases g;rw[d]at f;injection f with d1 _;have:c=b:=by simpa using congrArg Array.toList d1
 subst this;exact r.inj i
end
abbrev Cx.wish(X:Cx)(E:bYh->bYk->Prop):Cx:={X with xe:=E}
abbrev Cx.nox(X:Cx):Cx:=X.wish λ_ _=>False
theorem Cx.Ok.wish{X:Cx}(ok:X.Ok)(E:bYh->bYk->Prop):(X.wish E).Ok:=
 ⟨ok.mod,ok.kind,ok.glob,ok.blt,ok.above,ok.inj,ok.has,ok.cab,ok.hd,ok.frames,ok.stk,ok.exf,ok.bs,ok.bsz,ok.noex,ok.exfs,ok.funs,ok.frf⟩
theorem Cx.Ok.unwish{X:Cx}{E:bYh->bYk->Prop}(ok:(X.wish E).Ok):X.Ok:=
 ⟨ok.mod,ok.kind,ok.glob,ok.blt,ok.above,ok.inj,ok.has,ok.cab,ok.hd,ok.frames,ok.stk,ok.exf,ok.bs,ok.bsz,ok.noex,ok.exfs,ok.funs,ok.frf⟩
section
variable {X:Cx}{pins:List (Addr×Obj)}{σ:St}{H:Hp}{s:bYk}{E:bYh->bYk->Prop}
theorem Inv.wish(I:Inv X pins σ H s)(E:bYh->bYk->Prop):Inv (X.wish E) pins σ H s:=⟨I.ok.wish E,I.os,I.bare,I.base,I.loc,I.cell,I.free,I.freeC,I.pin,I.hok,I.len⟩
theorem Inv.unwish(I:Inv (X.wish E) pins σ H s):Inv X pins σ H s:=⟨I.ok.unwish,I.os,I.bare,I.base,I.loc,I.cell,I.free,I.freeC,I.pin,I.hok,I.len⟩
theorem SP.unwish{D:aKB}{f:Flow}{s':bYk}(h:SP (X.wish E) pins D f s'):SP X pins D f s':=by
 cases f with
 |next=>obtain⟨a,H',I,q⟩:=h;exact⟨a,H',I.unwish,q⟩
 |brk=>obtain⟨a,H',I,q⟩:=h;exact⟨a,H',I.unwish,q⟩
 |cont=>obtain⟨a,H',I,q⟩:=h;exact⟨a,H',I.unwish,q⟩
 |ret u=>obtain⟨v,a,H',I,r,q⟩:=h;exact⟨v,a,H',I.unwish,r,q⟩
theorem PSs.nox{st:List Stmt}{t:TS}(h:PSs X.nox st t):PSs X st t:=λpins s σ H D I hw=>
 cQl (h pins s σ H D (I.wish _) hw) (λ_ _ q=>q.unwish) λ_ _ z=>cQO z
end
section
variable {X:Cx}{st:Stmt}{jW:List Stmt}{t u:TS}{e:Expr}{te:TE}{pos:Pos}
def aJg:TS:=λD σ H=>D.nx σ H
def bKl(t u:TS):TS:=λD σ H=>t {D with nx:=u D} σ H
theorem yS:PSs X [] aJg:=λ_ _ σ H _ I h=>cZ7 ⟨σ,H,I,h⟩
theorem yC(h1:PS X st t)(h2:PSs X jW u):PSs X (st::jW) (bKl t u):=by
 intro pins s σ H D I h;refine wpAny_execs_cons (thn (h1 pins s σ H {D with nx:=u D} I h) λf c q=>?_);cases f with
 |next=>obtain⟨a,H',b,q⟩:=q;exact h2 pins c a H' D b q
 |ret v=>exact q
 |brk=>exact q
 |cont=>exact q
theorem yF(h1:PS X st t):PSs X [st] t:=by
 intro pins s σ H D I h;refine wpAny_execs_cons (thn (h1 pins s σ H D I h) λf a q=>?_);cases f with
 |next=>exact cZ7 q
 |ret v=>exact q
 |brk=>exact q
 |cont=>exact q
theorem Inv.quiet{pins:List (Addr×Obj)}{σ:St}{H:Hp}{s:bYk}(I:Inv X pins σ H s):interactive X.env=false:=by simp[interactive,I.ok.kind]
def aVt(te:TE):TS:=λD σ H=>te σ H λ_ H1=>D.nx σ H1
theorem yY(b:PE X e te)(a:swapsWith e none pos.line X.env=pure false:=by rfl):PS X (.Expr e pos) (aVt te):=by
 intro pins s σ H D I h;exact wpAny_Expr_any (thn (b pins s σ H _ I h) λv s1 ⟨x,H1,I1,r1,q1⟩=>⟨σ,H1,I1,q1⟩) I.quiet a
def bKU(te:TE):TS:=λD σ H=>te σ H D.rt
theorem yP(a:PE X e te):PS X (.Return (some e) pos) (bKU te):=by
 intro pins s σ H D I h;exact wpAny_Return_some (thn (a pins s σ H _ I h) λv s1 ⟨x,H1,I1,r1,q1⟩=>⟨x,σ,H1,I1,r1,q1⟩)
def bKk(c:TT)(t u:TS):TS:=λD σ H=>c σ H λb H1=>if b=true then t D σ H1 else u D σ H1
theorem y7{c:Expr}{a b:List Stmt}{tc:TT}(f:PT X c tc)(e:PSs X a t)(g:PSs X b u):PS X (.If c a b pos) (bKk tc t u):=by
 intro pins s σ H D I h;refine wpAny_If (thn (f pins s σ H _ I h) λd s1 ⟨H1,I1,q1⟩=>?_);cases d with
 |true=>exact e pins s1 σ H1 D I1 q1
 |false=>exact g pins s1 σ H1 D I1 q1
end
abbrev TG:=V->St->Hp->(St->Hp->Prop)->Prop
abbrev TGs:=List V->St->Hp->(St->Hp->Prop)->Prop
def PG(X:Cx)(a:Expr)(t:TG):Prop:=
 ∀ (pins:List (Addr×Obj))(s:bYk)(σ:St)(H:Hp)(v:V)(u:bYh)(Q:St->Hp->Prop),Inv X pins σ H s->zM v u->t v σ H Q->
  bYp (bYr X.prog X.w) X.A (assign a X.env u) (λ_ s'=>∃b H',Inv X pins b H' s'/\Q b H') X.xe s
def PGs(X:Cx)(d:List Expr)(t:TGs):Prop:=
 ∀ (pins:List (Addr×Obj))(s:bYk)(σ:St)(H:Hp)(b:List V)(c:List bYh)(Q:St->Hp->Prop),Inv X pins σ H s->xV b c->t b σ H Q->
  bYp (bYr X.prog X.w) X.A (assignInOrder ((cZ3 d X.env).map (·.2)) c) (λ_ s'=>∃a H',Inv X pins a H' s'/\Q a H') X.xe s
abbrev bKq:=V->V->V->Hp->(Hp->Prop)->Prop
def bKO(X:Cx)(t:bKq):Prop:=
 ∀ (pins:List (Addr×Obj))(s:bYk)(σ:St)(H:Hp)(o i v:V)(a b u:bYh)(Q:Hp->Prop),Inv X pins σ H s->zM o a->zM i b->zM v u->t o i v H Q->
  bYp (bYr X.prog X.w) X.A (setItem a b u) (λ_ s'=>∃H',Inv X pins σ H' s'/\Q H') X.xe s
section
variable {X:Cx}{pos:Pos}
def yW(i:Nat):TG:=λv σ H Q=>Q (σ.set i (some v)) H
theorem y9{i:Nat}{x:Str}(d:X.N.Nodup:=by exact ‹yN _ _ _›.nd)(hi:X.N[i]? =some x:=by rfl)(c:Loc X.env.scope x:=by first|exact Or.inl rfl|exact Or.inr rfl)(b:X.fn x=true\/X.env.scope.names.lookup x=some .local:=by first|exact .inl rfl|exact .inr rfl|assumption):PG X (.Name x pos) (yW i):=by
 intro pins s σ H v u Q I r h;exact wpAny_assign_Name (aWh I d hi c r (λs' a=>⟨_,H,a,h⟩) b)
def bK0:TGs:=λa σ H Q=>a= []/\Q σ H
def bKv(t:TG)(u:TGs):TGs:=λb σ H Q=>∃v r,b=v::r/\t v σ H λa H'=>u r a H' Q
theorem aQG:PGs X [] bK0:=by
 intro pins s σ H a b Q I r h;obtain⟨e,h⟩:=h;subst e;cases r;exact assignInOrder_nil ⟨σ,H,I,h⟩
theorem zB{e:Expr}{es:List Expr}{t:TG}{u:TGs}(h1:PG X e t)(h2:PGs X es u) (a:(cZ3 (e::es) X.env).map (·.2)=assign e X.env::(cZ3 es X.env).map (·.2):=by rfl):PGs X (e::es) (bKv t u):=by
 intro pins s σ H d g Q I r h;obtain⟨v,f,c,h⟩:=h;subst c;cases r with
 |cons r b=>rw[a];refine assignInOrder_cons (thn (h1 pins s σ H _ _ _ I r h) λ_ s1 ⟨σ1,H1,I1,q1⟩=>?_);exact h2 pins s1 σ1 H1 _ _ Q I1 b q1
def bK2(K:bYj)(n:Nat)(t:TGs):TG:=λv σ H Q=>∃a xs,v= .ref a/\SqT K H a xs/\xs.length=n/\t xs σ H Q
theorem aZV{es:List Expr}{k:Nat}{t:TGs}{n:Nat}(l:X.calm=true)(h:PGs X es t) (m:(cZ3 es X.env).length=n:=by rfl) (c:(cZ3 es X.env).findIdx? (·.1)=none:=by rfl):PG X (.Tuple es k pos) (bK2 X.K n t):=by
 intro pins s σ H v u Q I r hw;obtain⟨a,xs,q,j,hl,hw⟩:=hw;subst q;cases r;obtain⟨g,d,i,w⟩:=I.tuple j;refine assign_Tuple_tuple (I.ok.hd l) i (by simp[m,<- hl,d.length]) c λh' f=>?_;have p:Inv X pins σ H {s with heap:=h'}:=I.kept (t':=s.toks) λb o e=>f b o (bYI (bYv e)) e;exact h pins _ σ H xs _ Q p (by simpa using d) hw
def bK1(to b:TE)(t:bKq):TG:=λv σ H Q=>to σ H λo H1=>b σ H1 λi H2=>t o i v H2 λa=>Q σ a
theorem qC{o i:Expr}{to a:TE}{t:bKq}(c:PE X o to)(hi:PE X i a)(d:bKO X t)
  (b:∀v,assign (.Subscript o i pos) X.env v=(do
   let ov <- cZz [v] (eval o X.env)
   let iv <- cZz [v,ov] (eval i X.env)
   standAt pos
   cZz [v,ov,iv] (setItem ov iv v)
   release [v,ov,iv] []):=by intro _;rfl):PG X (.Subscript o i pos) (bK1 to a t):=by
 intro pins s σ H v u Q I r h
 rw[b]
 refine bYi (cQB (thn (c pins s σ H _ I h) λov s1 ⟨x,H1,I1,r1,q1⟩=>?_))
 refine bYi (cQB (thn (hi pins s1 σ H1 _ I1 q1) λiv s2 ⟨y,H2,I2,r2,q2⟩=>?_))
 refine bYi (cZP (bYi (cQB (thn (d pins s2 σ H2 x y v ov iv u _ I2 r1 r2 r q2) λ_ s3 ⟨H3,I3,q3⟩=>?_))))
 exact wpAny_release ⟨σ,H3,I3,q3⟩
def bKj(te:TE)(g:TG):TS:=λD σ H=>te σ H λx H1=>g x σ H1 D.nx
theorem vE{tg e:Expr}{te:TE}{g:TG}(a:PE X e te)(c:PG X tg g)(b:swapsWithSole [tg] e pos.line X.env=pure false:=by rfl)(hw:swappedStores [tg] e X.env=pure none:=by rfl)
  (h1:(cZ3 [tg] X.env).map (·.2)= [assign tg X.env]:=by rfl):PS X (.Assign [tg] e pos) (bKj te g):=by
 intro pins s σ H D I h
 refine wpAny_Assign_stores (thn (a pins s σ H _ I h) λv s1 ⟨x,H1,I1,r1,q1⟩=>?_) b hw
 rw[h1]
 exact thn (c pins s1 σ H1 x v _ I1 r1 q1) λ_ d q=>q
theorem yU{i:Nat}{x:Str}{e:Expr}{te:TE}{pos':Pos}(d:PE X e te)(b:X.N.Nodup:=by exact ‹yN _ _ _›.nd)(hi:X.N[i]? =some x:=by rfl)(a:Loc X.env.scope x:=by first|exact Or.inl rfl|exact Or.inr rfl)(f:swapsWith e (some (.Name x pos')) pos.line X.env=pure false:=by rfl)(g:X.fn x=true\/X.env.scope.names.lookup x=some .local:=by first|exact .inl rfl|exact .inr rfl|assumption):
  PS X (.Assign [.Name x pos'] e pos) (bKj te (yW i)):=by
 intro pins s σ H D I h
 refine wpAny_Assign_Name (thn (d pins s σ H _ I h) λv s1 ⟨y,H1,I1,r1,q1⟩=>?_) f
 exact aWh I1 b hi a r1 (λj c=>⟨_,H1,c,q1⟩) g
end
section
variable {X:Cx}{pos:Pos}
def bW8(c:TT)(tb:TS):TS:=λD σ H=>∃W:Nat->St->Hp->Prop,(∃m,W m σ H)/\∀m σ H,W m σ H->
 c σ H λb H1=>if b=true then ∃N:St->Hp->Prop,(∀a H',N a H'->∃d,d<m/\W d a H')/\tb {D with nx:=N,ct:=N,bk:=D.nx} σ H1 else D.nx σ H1
theorem uC{c:Expr}{body:List Stmt}{tc:TT}{tb:TS}(r:PassesOwn (bYr X.prog X.w) X.A X.env X.xe)(y:PT X c tc)(z:PSs X body tb):PS X (.While c body [] pos) (bW8 tc tb):=by
 intro pins s σ H D I h;obtain⟨W,⟨x,t⟩,turn⟩:=h;refine wpAny_While (codeAny_whileLoop (λn s'=>∃e H',Inv X pins e H' s'/\W n e H') ?_ x ⟨σ,H,I,t⟩);rintro n B ⟨d,H1,C,u⟩;refine cXI r (thn (y pins B d H1 _ C (turn n d H1 u)) λb s2 ⟨H2,I2,i⟩=>?_);cases b with
 |true=>
  obtain⟨N,q,i⟩:=i;rw[if_pos rfl];refine cXI r (thn (z pins s2 d H2 _ I2 i) λf E j=>?_);cases f with
  |next=>obtain⟨a,g,p,o⟩:=j;obtain⟨l,m,k⟩:=q a g o;exact⟨l,m,a,g,p,k⟩
  |cont=>obtain⟨a,g,p,o⟩:=j;obtain⟨l,m,k⟩:=q a g o;exact⟨l,m,a,g,p,k⟩
  |brk=>exact j
  |ret v=>exact j
 |false=>rw[if_neg Bool.false_ne_true];exact cZ7 ⟨d,H2,I2,i⟩
end
structure It where
 go:Nat->Hp->Prop
 yld:Nat->Hp->V->Hp->Prop
 stop:Nat->Hp->Prop
def bZT(X:Cx)(pins:List (Addr×Obj))(H:Hp)(b:Addr):Prop:=
 H b=none/\b≠X.env.locals/\b∉X.fs/\(b∈X.ex\/X.s₀.heap.objs.size<=b)/\(∀x c,X.env.cells.lookup x=some c->c≠b)/\∀p∈X.pn++pins,p.1≠b
theorem Inv.fpOk{X:Cx}{pins:List (Addr×Obj)}{σ:St}{H H':Hp}{s:bYk}{b:Addr}(I:Inv X pins σ H s)(a:s.heap.objs.size<=b)(f:H' b=none):bZT X pins H' b:=by
 refine⟨f,cXV (bYK I.lt a),I.nofs a,.inr (bYT I.sz a),λx c e z=>?_,λp d z=>?_⟩
 ·obtain⟨v,q⟩:=I.cell x c e;exact absurd (bYK q.lt (by rw[z];exact a)) (cQs _)
 ·exact absurd (bYK (bYv (I.pin p d).1) (by rw[z];exact a)) (cQs _)
structure bKe(P:bYD)(w:bYL)(K:bYj)(tg:Expr)(J:It)(fp:List Addr)(it:Addr)(tn:Nat->Heap->Prop):Prop where
 mem:it∈fp
 obj:∀i h,tn i h->∀b∈fp,∃o,h.get? b=some o/\∀v,o.data≠ .cell v
 keep:∀i h h',tn i h->(∀b∈fp,∀o,h.get? b=some o->h'.get? b=some o)->tn i h'
 item:∀ (X:Cx),X.prog=P->X.w=w->X.K=K->X.calm=true->∀ (i:Nat)(pins:List (Addr×Obj))(s:bYk)(σ:St)(H:Hp)(E:bYh->bYk->Prop),Inv X pins σ H s->(∀b∈fp,bZT X pins H b)->tn i s.heap->J.go i H->
  bYp (bYr P w) X.A (pyNext (.ref it)) (λr s1=>∃u,r=some u/\
   bYp (bYr P w) X.A (cZ6 tg (.ref it) u) (λ_ s2=>∃x H',Inv X pins σ H' s2/\zM x u/\J.yld i H x H'/\tn (i+1) s2.heap/\∀b∈fp,H' b=none) E s1) E s
 done:∀ (X:Cx),X.prog=P->X.w=w->X.K=K->X.calm=true->∀ (i:Nat)(pins:List (Addr×Obj))(s:bYk)(σ:St)(H:Hp)(E:bYh->bYk->Prop),Inv X pins σ H s->(∀b∈fp,bZT X pins H b)->tn i s.heap->J.stop i H->
  bYp (bYr P w) X.A (pyNext (.ref it)) (λr s1=>r=none/\Inv X pins σ H s1) E s
 self:∀ (A:bYZ)(i:Nat)(s:bYk)(Q:bYh->bYk->Prop)(E:bYh->bYk->Prop),tn i s.heap->Q (.ref it) s->bYp (bYr P w) A (pyIter (.ref it)) Q E s
abbrev TI:=St->Hp->(It->Hp->Prop)->Prop
def PIE(X:Cx)(pins:List (Addr×Obj))(σ:St)(tg:Expr)(R:It->Hp->Prop)(a:bYh)(d:bYk):Prop:=
 ∃ (c:Addr)(e:List Addr)(tn:Nat->Heap->Prop)(J:It)(H':Hp),a= .ref c/\Inv X pins σ H' d/\bKe X.prog X.w X.K tg J e c tn/\tn 0 d.heap/\(∀b∈e,bZT X pins H' b)/\R J H'
def PI(X:Cx)(tg a:Expr)(b:TI):Prop:=
 ∀ (pins:List (Addr×Obj))(s:bYk)(σ:St)(H:Hp)(R:It->Hp->Prop),Inv X pins σ H s->b σ H R->
  bYp (bYr X.prog X.w) X.A (eval a X.env) (λv c=>bYp (bYr X.prog X.w) X.A (pyIter v) (PIE X pins σ tg R) X.xe c) X.xe s
theorem bWr{M:Model}{A:bYZ}{E:bYh->bYk->Prop}{s:bYk}{tg:Expr}{it:Addr}{u:bYh}{o:Obj}{n:String}{vs:Array bYh}{Q:Unit->bYk->Prop}(e:s.heap.get? it=some o)(c:o.cls= .type n)(b:o.data= .fields vs) (d: ["enumerate","zip","dict_itemiterator","dict_reverseitemiterator","odict_iterator","itertools.zip_longest","itertools.pairwise"].contains n=false) (a:Q () s):bYp M A (cZ6 tg (.ref it) u) Q E s:=by
 unfold cZ6;cases tg<;> first
  |exact bYn a
  |(cases u<;> first
    |exact bYn a
    |(refine bYi (wpAny_load e ?_)
      rw[c,b]
      show bYp M A (if(["enumerate","zip","dict_itemiterator","dict_reverseitemiterator","odict_iterator","itertools.zip_longest","itertools.pairwise"].contains n && vs[0]? ==some (cQy _))=true then _ else _) Q E s
      rw[if_neg (by intro h;rw[d,Bool.false_and]at h;cases h)]
      exact bYn a))
def Itl(K:bYj)(a:Addr):It:=
 ⟨λi H=>∃xs x,SqL K H a xs/\xs[i]? =some x,λi H x H'=>H'=H/\∀xs,SqL K H a xs->xs[i]? =some x,λi H=>∃xs,SqL K H a xs/\xs.length<=i⟩
def Itr(lo:Int)(n:Nat):It:=⟨λi _=>i<n,λi H x H'=>H'=H/\x= .int (lo+i),λi _=>n<=i⟩
theorem bQU{P:bYD}{w:bYL}{K:bYj}{tg:Expr}(a it:Addr):bKe P w K tg (Itl K a) [it] it (λi h=>h.IsListIter it a i) where
 mem:=by simp
 obj:=λi h st b hb=>by
  have e:b=it:=by simpa using hb
  subst e
  obtain⟨o,e,c,d⟩:=st
  exact⟨o,e,λv z=>by rw[d]at z;cases z⟩
 keep:=λi h h' st k=>st.at λo e=>k it (by simp) o e
 item:=by
  intro X hP hw hK hc i pins s σ H E I hf st hg
  subst hP hw hK
  obtain⟨xs,x,hq,hx⟩:=hg
  obtain⟨its,rv,p,hz⟩:=I.list hq
  obtain⟨u,hu,ru⟩:=rv.get hx
  obtain⟨f0,f1,f2,f3,f4,f5⟩:=hf it (by simp)
  refine wpAny_pyNext_list_item st p.isList (x:=u) (by simpa using hu) λh' st' sb=>?_
  have I1:Inv X pins σ H {s with heap:=h'}:=I.turned (t':=s.toks) (λb o hb e=>(sb.2 b hb).trans e) f0 f1 f3 f4 f5
  obtain⟨o,e,c,d⟩:=id st'
  exact⟨u,rfl,bWr (s:={s with heap:=h'}) e c d (by decide) ⟨x,H,I1,ru,⟨rfl,λys hy=>by rw[I.list_inj hy hq];exact hx⟩,st',λb hb=>(hf b hb).1⟩⟩
 done:=by
  intro X hP hw hK hc i pins s σ H E I hf st hg
  subst hP hw hK
  obtain⟨xs,hq,hx⟩:=hg
  obtain⟨its,rv,p,hz⟩:=I.list hq
  obtain⟨f0,f1,f2,f3,f4,f5⟩:=hf it (by simp)
  have hl:=rv.length
  exact wpAny_pyNext_list_end (I.ok.hd hc) st p.isList (by simp;omega) λh' eb=>⟨rfl,I.turned (t':=s.toks) (λb o hb e=>eb b o hb e) f0 f1 f3 f4 f5⟩
 self:=λ_ _ _ _ _ st h=>wpAny_pyIter_listiter st h
theorem aKz{P:bYD}{w:bYL}{K:bYj}{tg:Expr}(it:Addr)(lo:Int)(n:Nat):bKe P w K tg (Itr lo n) [it] it (λi h=>IsRangeIter h it (lo+(i:Nat)*1) ((n:Int) - (i:Nat)) 1) where
 mem:=by simp
 obj:=λi h st b hb=>by
  have e:b=it:=by simpa using hb
  subst e
  exact⟨_,st,λv z=>by
   have z':Data.fields _=Data.cell v:=z
   cases z'⟩
 keep:=λi h h' st k=>k it (by simp) _ st
 item:=by
  intro X hP hw hK hc i pins s σ H E I hf st hg
  subst hP hw hK
  obtain⟨f0,f1,f2,f3,f4,f5⟩:=hf it (by simp)
  have W:=Walks.range (prog:=X.prog) (w:=X.w) (I.ok.hd hc) it lo 1 n
  refine W.item i s _ _ hg st λv h' tk hv st' kk=>?_
  obtain⟨t,rfl⟩:=hv
  have I1:Inv X pins σ H {s with heap:=h',toks:=tk}:=I.turned (λb o hb e=>kk b o (by simpa using hb) e) f0 f1 f3 f4 f5
  refine⟨_,rfl,bWr (s:={s with heap:=h',toks:=tk}) (n:="range_iterator") st' rfl rfl (by decide) ⟨.int (lo+i),H,I1,⟨t,?_⟩,⟨rfl,rfl⟩,st',λb hb=>(hf b hb).1⟩⟩
  rw[Int.mul_one]
 done:=by
  intro X hP hw hK hc i pins s σ H E I hf st hg
  subst hP hw hK
  obtain⟨f0,f1,f2,f3,f4,f5⟩:=hf it (by simp)
  exact wpAny_pyNext_range_end (I.ok.hd hc) st (by have:n<=i:=hg;omega) λh' eb=>⟨rfl,I.turned (t':=s.toks) (λb o hb e=>eb b o hb e) f0 f1 f3 f4 f5⟩
 self:=λ_ _ _ _ _ st h=>wpAny_pyIter_rangeiter st h
end L2
namespace L2
open PySem PySem.Spec PyProof.Rows
section
variable {X:Cx}{tg:Expr}
def bKw(K:bYj)(tl:TE):TI:=λσ H R=>tl σ H λx H1=>∃a,x= .ref a/\(∃xs,SqL K H1 a xs)/\R (Itl K a) H1
theorem xL{l:Expr}{tl:TE}(hl:PE X l tl):PI X tg l (bKw X.K tl):=by
 intro pins s σ H R I h;refine thn (hl pins s σ H _ I h) λv s1 ⟨x,H1,I1,r1,q1⟩=>?_;obtain⟨a,e,⟨xs,d⟩,q⟩:=q1;subst e;cases r1;obtain⟨c,g,p,i⟩:=I1.list d;refine cJy p.isList ?_;refine⟨s1.heap.objs.size,[s1.heap.objs.size],_,_,H1,rfl,I1.kept (t':=s1.toks) λb o e=>bYm _ e,bQU a _,⟨_,bYM _ rfl,rfl,rfl⟩,λb f=>?_,q⟩;have e:b=s1.heap.objs.size:=by simpa using f
 subst e;exact I1.fpOk (bYo _) (I1.hok.fresh (bYo _))
theorem bX7{pins:List (Addr×Obj)}{σ:St}{H:Hp}{s:bYk}{R:It->Hp->Prop}{E:bYh->bYk->Prop}{lo hi:Int}{t u v:Tok}{tk:Nat}(I:Inv X pins σ H s)(h1: -(2 ^ 62)<=lo)(h2:lo<2 ^ 62)(d: -(2 ^ 62)<=hi)(f:hi<2 ^ 62) (q:R (Itr lo (hi - lo).toNat) H):bYp (bYr X.prog X.w) X.A (pyIter (.ref s.heap.objs.size)) (PIE X pins σ tg R) E {s with heap:=s.heap.push {cls:= .type "range",data:= .fields #[.int lo t,.int hi u,.int 1 v] },toks:=tk}:=by
 refine wpAny_pyIter_range (IsRange.new ..) (small_one h1 h2 d f) ?_;have a:Inv X pins σ H {s with heap:=s.heap.push {cls:= .type "range",data:= .fields #[.int lo t,.int hi u,.int 1 v] },toks:=tk}:=I.kept λb o e=>bYm _ e;refine⟨(s.heap.push {cls:= .type "range",data:= .fields #[.int lo t,.int hi u,.int 1 v] }).objs.size,[(s.heap.push {cls:= .type "range",data:= .fields #[.int lo t,.int hi u,.int 1 v] }).objs.size],_,_,H,rfl,a.kept (t':=tk) λb o e=>bYm _ e,aKz _ lo (hi - lo).toNat,?_,λb g=>?_,q⟩
 ·have h:lo+((0:Nat):Int)*1=lo:=by simp
  have c:(((hi - lo).toNat:Nat):Int) - ((0:Nat):Int)=Builtin.Range.rangeSize lo hi 1:=by rw[rangeSize_one];split<;> omega
  show IsRangeIter _ _ (lo+((0:Nat):Int)*1) ((((hi - lo).toNat:Nat):Int) - ((0:Nat):Int)) 1;rw[h,c];exact bYM _ rfl
 ·have e:b=(s.heap.push {cls:= .type "range",data:= .fields #[.int lo t,.int hi u,.int 1 v] }).objs.size:=by simpa using g
  subst e;exact a.fpOk (bYo _) (a.hok.fresh (bYo _))
def bKx(ta:TA):TI:=λσ H R=>ta σ H λa H1=>∃j:Int,a= [.int j]/\ -(2 ^ 62)<=j/\j<2 ^ 62/\R (Itr 0 j.toNat) H1
theorem zJ{a:Expr}{ta:TA}{p pos:Pos}(k:Gl X "range")(i:X.mg "range"=none)(c:PA X [a] ta)(f:bYX [a] X.env= [(false,eval a X.env)]:=by rfl):PI X tg (.Call (.Name "range" p) [a] [] pos) (bKx ta):=by
 intro pins s σ H R I h;refine Call_ (aXp I k i boot_range (cZj (thn (c pos pins s σ H _ I h) λus s1 ⟨vs,H1,I1,r1,b⟩=>?_) f rfl));obtain⟨j,e,b,d,q⟩:=b;subst e;cases r1 with
 |cons r g=>cases g;obtain⟨t,rfl⟩:=r;exact call_range_1 (bX7 I1 (by omega) (by omega) b d (by simpa using q))
def bYc(d:TI)(g:TG)(tb:TS):TS:=λD σ H=>d σ H λJ H1=>∃W:Nat->Nat->St->Hp->Prop,(∃m,W 0 m σ H1)/\∀i m σ H,W i m σ H->
 (J.stop i H/\D.nx σ H)\/(J.go i H/\∃N:St->Hp->Prop,(∀a H',N a H'->∃c,c<m/\W (i+1) c a H')/\∀x H',J.yld i H x H'->g x σ H' λb H2=>tb {D with nx:=N,ct:=N,bk:=D.nx} b H2)
def aZX(a:List Addr)(h:Heap):List (Addr×Obj):=a.filterMap λb=>(h.get? b).map λo=>(b,o)
theorem jL{a:List Addr}{h:Heap}{b:Addr}{o:Obj}(c:b∈a)(e:h.get? b=some o):(b,o)∈aZX a h:=List.mem_filterMap.mpr ⟨b,c,by rw[e];rfl⟩
theorem aYt{a:List Addr}{h:Heap}{p:Addr×Obj}(c:p∈aZX a h):p.1∈a/\h.get? p.1=some p.2:=by
 obtain⟨b,f,e⟩:=List.mem_filterMap.mp c;cases q:h.get? b with
 |none=>rw[q]at e;cases e
 |some o=>rw[q]at e;have d:(b,o)=p:=bYC e;subst d;exact⟨f,q⟩
theorem Inv.pinned{pins:List (Addr×Obj)}{σ:St}{H:Hp}{s:bYk}{a:List Addr}(I:Inv X pins σ H s)(h:∀b∈a,bZT X pins H b)(g:∀b∈a,∃o,s.heap.get? b=some o/\∀v,o.data≠ .cell v):Inv X (pins++aZX a s.heap) σ H s:=
 I.pins_of λp j=>(bYU.mp j).elim (λz=>I.pin p (bYF _ z)) λz=>by obtain⟨c,e⟩:=aYt z;obtain⟨i,l,k,_⟩:=h p.1 c;obtain⟨o,f,d⟩:=g p.1 c;rw[e]at f;cases f;exact⟨e,i,l,k,d⟩
theorem Inv.unpinned{pins pl:List (Addr×Obj)}{σ:St}{H:Hp}{s:bYk}(I:Inv X (pins++pl) σ H s):Inv X pins σ H s:=I.pins_of λp a=>I.pin p (bYF _ (cXe _ a))
theorem zR{p:Expr}{body:List Stmt}{S:TI}{g:TG}{tb:TS}{pos:Pos}(F:PassesOwn (bYr X.prog X.w) X.A X.env X.xe)(Q:X.calm=true)(hi:PI X tg p S)(hg:PG X tg g)(l:PSs X body tb) (hs:∀x,cJx p X.env x=pure x:=by intro _;rfl):PS X (.For tg p body [] pos) (bYc S g tb):=by
 intro pins s σ H D I h;refine wpAny_For (thn (hi pins s σ H _ I h) λv s1 h1=>thn h1 λa0 s2 h2=>?_) hs;obtain⟨it,C,tn,J,H2,e,Y,T,P,U,W,⟨m0,w0⟩,turn⟩:=h2;subst e;have q:∀ {H':Hp},(∀b∈C,H' b=none)->∀b∈C,bZT X pins H' b:=λhn b l=>⟨hn b l,(U b l).2⟩;refine codeAny_forLoop_any (λn s'=>∃i t H',Inv X pins t H' s'/\tn i s'.heap/\(∀b∈C,H' b=none)/\W i n t H') ?_ m0 ⟨0,σ,H2,Y,P,λb l=>(U b l).1,w0⟩;rintro n R ⟨i,k,L,V,E,K,w3⟩;rcases turn i n k L w3 with⟨B,qn⟩|⟨go,N,hN,step⟩
 ·refine cXI F (thn (T.done X rfl rfl rfl Q i pins R k L X.xe V (q K) E B) λr s4 ⟨hr,I4⟩=>?_);subst hr;exact cZ7 ⟨k,L,I4,qn⟩
 ·refine cXI F (thn (T.item X rfl rfl rfl Q i pins R k L X.xe V (q K) E go) λr s4 ⟨u,hr,h4⟩=>?_);subst hr;refine cXI F (thn h4 λ_ s5 ⟨x,H5,I5,r5,y5,st5,fr5⟩=>?_);have M:=I5.pinned (q fr5) (T.obj _ _ st5);refine cXI F (thn (hg _ s5 k H5 x u _ M r5 (step x H5 y5)) λ_ s6 ⟨σ6,H6,I6,q6⟩=>?_);refine cXI F (thn (l _ s6 σ6 H6 _ I6 q6) λf O z=>?_);have y:∀ {a:St} {j:Hp},Inv X (pins++aZX C s5.heap) a j O->N a j->∃m,m<n/\∃i t H',Inv X pins t H' O/\tn i O.heap/\(∀b∈C,H' b=none)/\W i m t H':=λ{a j} c G=>by
   obtain⟨Z,hm,w7⟩:=hN a j G;refine⟨Z,hm,i+1,a,j,c.unpinned,T.keep _ _ _ st5 λb l o e=>(c.pin (b,o) (bYF _ (bYF _ (jL l e)))).1,λb l=>?_,w7⟩;obtain⟨o,e,d⟩:=T.obj _ _ st5 b l;exact(c.pin (b,o) (bYF _ (bYF _ (jL l e)))).2.1
  cases f with
  |next=>obtain⟨a,j,c,G⟩:=z;exact y c G
  |cont=>obtain⟨a,j,c,G⟩:=z;exact y c G
  |brk=>obtain⟨a,j,c,z⟩:=z;exact⟨a,j,c.unpinned,z⟩
  |ret v=>obtain⟨x7,a,j,c,r7,z⟩:=z;exact⟨x7,a,j,c.unpinned,r7,z⟩
end
theorem zG{K:bYj}{a:Addr}{xs:List V}{g:TG}{tb:TS}{D:aKB}{σ:St}{H:Hp}(b:Nat->St->Hp->Prop)(h0:b 0 σ H)(hl:∀i σ H,i<=xs.length->b i σ H->SqL K H a xs) (k:∀i x σ H,xs[i]? =some x->b i σ H->g x σ H λc H2=>tb {D with nx:=b (i+1),ct:=b (i+1),bk:=D.nx} c H2) (j:∀σ H,b xs.length σ H->D.nx σ H): ∃W:Nat->Nat->St->Hp->Prop,(∃m,W 0 m σ H)/\∀i m σ H,W i m σ H-> ((Itl K a).stop i H/\D.nx σ H)\/((Itl K a).go i H/\∃N:St->Hp->Prop,(∀d H',N d H'->∃h,h<m/\W (i+1) h d H')/\∀x H',(Itl K a).yld i H x H'->g x σ H' λc H2=>tb {D with nx:=N,ct:=N,bk:=D.nx} c H2):=by
 refine⟨λi m σ H=>m=xs.length - i/\i<=xs.length/\b i σ H,⟨xs.length,by simp,cQf _,h0⟩,?_⟩;rintro i m σ H ⟨rfl,hi,p⟩;have q:=hl i σ H hi p;by_cases f:i<xs.length
 ·refine .inr ⟨⟨xs,xs[i],q,by simp[f]⟩,b (i+1),λd H' l=>⟨xs.length - (i+1),by omega,rfl,f,l⟩,λx H' y=>?_⟩;obtain⟨e,y⟩:=y;subst e;exact k i x σ _ (y xs q) p
 ·have e:i=xs.length:=by omega
  subst e;exact .inl ⟨⟨xs,q,bYo _⟩,j σ H p⟩
theorem z6{lo:Int}{n:Nat}{g:TG}{tb:TS}{D:aKB}{σ:St}{H:Hp}(d:Nat->St->Hp->Prop)(h0:d 0 σ H) (j:∀i σ H,i<n->d i σ H->g (.int (lo+i)) σ H λa H2=>tb {D with nx:=d (i+1),ct:=d (i+1),bk:=D.nx} a H2) (h:∀σ H,d n σ H->D.nx σ H): ∃W:Nat->Nat->St->Hp->Prop,(∃m,W 0 m σ H)/\∀i m σ H,W i m σ H-> ((Itr lo n).stop i H/\D.nx σ H)\/((Itr lo n).go i H/\∃N:St->Hp->Prop,(∀b H',N b H'->∃f,f<m/\W (i+1) f b H')/\∀x H',(Itr lo n).yld i H x H'->g x σ H' λa H2=>tb {D with nx:=N,ct:=N,bk:=D.nx} a H2):=by
 refine⟨λi m σ H=>m=n - i/\i<=n/\d i σ H,⟨n,by simp,cQf _,h0⟩,?_⟩;rintro i m σ H ⟨rfl,hi,p⟩;by_cases c:i<n
 ·refine .inr ⟨c,d (i+1),λb H' k=>⟨n - (i+1),by omega,rfl,c,k⟩,λx H' y=>?_⟩;obtain⟨e,y⟩:=y;subst e y;exact j i σ _ c p
 ·have e:i=n:=by omega
  subst e;exact .inl ⟨bYo _,h σ H p⟩
end L2
namespace L2
open PySem PySem.Spec PyProof.Rows
abbrev R2:=V->V->Hp->VK->Prop
def OpR(X:Cx)(f:bYh->bYh->Sem bYh)(r:R2):Prop:=
 ∀ (pins:List (Addr×Obj))(s:bYk)(σ:St)(H:Hp)(x y:V)(v u:bYh)(Q:VK),Inv X pins σ H s->zM x v->zM y u->r x y H Q->
  bYp (bYr X.prog X.w) X.A (f v u) (EP X pins σ Q) X.xe s
def UnR(X:Cx)(f:bYh->Sem bYh)(r:V->Hp->VK->Prop):Prop:=
 ∀ (pins:List (Addr×Obj))(s:bYk)(σ:St)(H:Hp)(x:V)(v:bYh)(Q:VK),Inv X pins σ H s->zM x v->r x H Q->
  bYp (bYr X.prog X.w) X.A (f v) (EP X pins σ Q) X.xe s
def qD(X:Cx)(f:bYh)(r:List V->Hp->VK->Prop):Prop:=
 ∀ (pins:List (Addr×Obj))(s:bYk)(σ:St)(H:Hp)(xs:List V)(a:List bYh)(Q:VK),Inv X pins σ H s->xV xs a->r xs H Q->
  bYp (bYr X.prog X.w) X.A (call f a) (EP X pins σ Q) X.xe s
def tOp(r:R2)(ta tb:TE):TE:=λσ H Q=>ta σ H λx H1=>tb σ H1 λy H2=>r x y H2 Q
def tUn(r:V->Hp->VK->Prop)(ta:TE):TE:=λσ H Q=>ta σ H λx H1=>r x H1 Q
def rI(C:Int->Int->Prop)(g:Int->Int->V):R2:=λx y H Q=>∃i j,x= .int i/\y= .int j/\C i j/\Q (g i j) H
def rI0(g:Int->Int->V):R2:=λx y H Q=>∃i j,x= .int i/\y= .int j/\Q (g i j) H
def rU(g:Int->V):V->Hp->VK->Prop:=λx H Q=>∃i,x= .int i/\Q (g i) H
section
variable {X:Cx}{a b c:Expr}{ta tb tc:TE}{pos:Pos}
theorem bKs(g:PE X a ta)(j:PE X b tb){pins:List (Addr×Obj)}{s:bYk}{σ:St}{H:Hp}{R:V->V->Hp->Prop}(I:Inv X pins σ H s) (h:ta σ H λx H1=>tb σ H1 λy H2=>R x y H2) {Q:bYh->bYk->Prop} {f:bYh->bYh->Sem bYh} (i:∀v u e x y H2,Inv X pins σ H2 e->zM x v->zM y u->R x y H2->bYp (bYr X.prog X.w) X.A (f v u) Q X.xe e): bYp (bYr X.prog X.w) X.A (eval a X.env) (λv d=>bYp (bYr X.prog X.w) X.A (eval b X.env) (λu c=>bYp (bYr X.prog X.w) X.A (f v u) Q X.xe c) X.xe d) X.xe s:=by
 refine thn (g pins s σ H _ I h) λv s1 ⟨x,H1,I1,r1,q1⟩=>?_;refine thn (j pins s1 σ H1 _ I1 q1) λu e ⟨y,H2,I2,r2,q2⟩=>?_;exact i v u e x y H2 I2 r1 r2 q2
theorem yV{op:Operator}{r:R2}(e:OpR X (cXY op) r)(d:PE X a ta)(i:PE X b tb):PE X (.BinOp a op b pos) (tOp r ta tb):=by
 intro pins s σ H Q I h;exact wpAny_BinOp (bKs d i I h λv u j x y H2 c f g q=>e pins j σ H2 x y v u Q c f g q)
theorem aYQ{op:UnaryOp}{r:V->Hp->VK->Prop}(c:UnR X (unaryOp op) r)(b:PE X a ta):PE X (.UnaryOp op a pos) (tUn r ta):=by
 intro pins s σ H Q I h;exact UnaryOp_ (thn (b pins s σ H _ I h) λv s1 ⟨x,H1,I1,r1,q1⟩=>c pins s1 σ H1 x v Q I1 r1 q1)
theorem opI{f:bYh->bYh->Sem bYh}{C:Int->Int->Prop}{g:Int->Int->Int} (a:∀ (i j:Int)(t u:Tok)(s:bYk)(Q:bYh->bYk->Prop)(E:bYh->bYk->Prop),C i j->Q (.int (g i j) s.toks) {s with toks:=s.toks+1}->bYp (bYr X.prog X.w) X.A (f (.int i t) (.int j u)) Q E s): OpR X f (rI C λi j=> .int (g i j)):=by
 intro pins s σ H x y v u Q I b d h;obtain⟨i,j,rfl,rfl,c,q⟩:=h;obtain⟨t,rfl⟩:=b;obtain⟨e,rfl⟩:=d;exact a i j t e s _ _ c ⟨.int (g i j),H,I.tok _,⟨_,rfl⟩,q⟩
theorem bKP{f:bYh->bYh->Sem bYh}{g:Int->Int->Int} (a:∀ (i j:Int)(t u:Tok)(s:bYk)(Q:bYh->bYk->Prop)(E:bYh->bYk->Prop),Q (.int (g i j) s.toks) {s with toks:=s.toks+1}->bYp (bYr X.prog X.w) X.A (f (.int i t) (.int j u)) Q E s): OpR X f (rI0 λi j=> .int (g i j)):=by
 intro pins s σ H x y v u Q I b c h;obtain⟨i,j,rfl,rfl,q⟩:=h;obtain⟨t,rfl⟩:=b;obtain⟨d,rfl⟩:=c;exact a i j t d s _ _ ⟨.int (g i j),H,I.tok _,⟨_,rfl⟩,q⟩
theorem bKg{f:bYh->bYh->Sem bYh}{g:Int->Int->Bool} (a:∀ (i j:Int)(t u:Tok)(s:bYk)(Q:bYh->bYk->Prop)(E:bYh->bYk->Prop),Q (.bool (g i j)) s->bYp (bYr X.prog X.w) X.A (f (.int i t) (.int j u)) Q E s): OpR X f (rI0 λi j=> .bl (g i j)):=by
 intro pins s σ H x y v u Q I b c h;obtain⟨i,j,rfl,rfl,q⟩:=h;obtain⟨t,rfl⟩:=b;obtain⟨d,rfl⟩:=c;exact a i j t d s _ _ ⟨.bl (g i j),H,I,rfl,q⟩
def bKX(i j:Int):Prop:=0<j/\j<1073741824
def bKL(i j:Int):Prop:=0<=j/\j<=1000000/\i.natAbs<2 ^ 64
def bKm(i j:Int):Prop:=(-(2 ^ 64)<i/\i<2 ^ 64)\/(-(2 ^ 64)<j/\j<2 ^ 64)
theorem bKm.ok{i j:Int}(h:bKm i j):IntMulOk i j:=by
 rcases h with⟨h1,h2⟩|⟨h1,h2⟩
 ·exact .of_left (intBits_le_64 h1 h2)
 ·exact .of_right (intBits_le_64 h1 h2)
theorem x5:OpR X (cXY .Add) (rI0 λi j=> .int (i+j)):=bKP λ_ _ _ _ _ _ _ q=>add_int q
theorem wU:OpR X (cXY .Sub) (rI0 λi j=> .int (i - j)):=bKP λ_ _ _ _ _ _ _ q=>sub_int q
theorem aVN:OpR X (cXY .Mult) (rI bKm λi j=> .int (i*j)):=opI λ_ _ _ _ _ _ _ a q=>mul_int q a.ok
theorem X5:OpR X (cXY .FloorDiv) (rI bKX λi j=> .int (i / j)):=opI λi j _ _ _ _ _ a q=>by
 have h1:(0:Int)<j:=a.1;have h2:j<1073741824:=a.2;exact floordiv_int (by omega) (by rw[Int.fdiv_eq_ediv_of_nonneg i (by omega)];exact q) (.inl (PyProof.noPylong_small (by omega)))
theorem y0:OpR X (cXY .Mod) (rI (λ_ j=>0<j) λi j=> .int (i % j)):=opI λi j _ _ _ _ _ a q=>by
 have h1:(0:Int)<j:=a;exact mod_int' (by omega) (by rw[Int.fmod_eq_emod_of_nonneg i (by omega)];exact q)
theorem aQB:OpR X (cXY .Pow) (rI bKL λi j=> .int (i ^ j.toNat)):=opI λ_ _ _ _ _ _ _ a q=>pow_int_small a.1 a.2.1 a.2.2 q
theorem unI{f:bYh->Sem bYh}{g:Int->Int} (a:∀ (i:Int)(t:Tok)(s:bYk)(Q:bYh->bYk->Prop)(E:bYh->bYk->Prop),Q (.int (g i) s.toks) {s with toks:=s.toks+1}->bYp (bYr X.prog X.w) X.A (f (.int i t)) Q E s): UnR X f (rU λi=> .int (g i)):=by
 intro pins s σ H x v Q I b h;obtain⟨i,rfl,q⟩:=h;obtain⟨t,rfl⟩:=b;exact a i t s _ _ ⟨.int (g i),H,I.tok _,⟨_,rfl⟩,q⟩
theorem aJj:UnR X (unaryOp .USub) (rU λi=> .int (-i)):=unI λ_ _ _ _ _ q=>neg_int q
end
def bKR:V->V->Bool
 |.non,.non=>true|.non,.int _=>true|.int _,.non=>true|.non,.bl _=>true|.bl _,.non=>true|.non,.str _=>true|.str _,.non=>true
 |.int _,.int _=>true|.bl _,.bl _=>true|.str _,.str _=>true|.byt _,.byt _=>true
 |.int _,.str _=>true|.str _,.int _=>true|.bl _,.str _=>true|.str _,.bl _=>true
 |_,_=>false
def rEq:R2:=λx y H Q=>bKR x y=true/\Q (.bl (decide (x=y))) H
def rNe:R2:=λx y H Q=>bKR x y=true/\Q (.bl (!decide (x=y))) H
theorem aKR{i j:Int}:decide (V.int i=V.int j)=(i==j):=by
 rw[Bool.eq_iff_iff];simp
theorem bZX{i j:Bool}:decide (V.bl i=V.bl j)=(i==j):=by
 rw[Bool.eq_iff_iff];simp
theorem aKS{i j:Str}:decide (V.str i=V.str j)=(i==j):=by
 rw[Bool.eq_iff_iff];simp
theorem aKQ{i j:Array UInt8}:decide (V.byt i=V.byt j)=(i.toList==j.toList):=by
 rw[Bool.eq_iff_iff];cases i;cases j;simp
section
variable {X:Cx}{a b c:Expr}{ta tb tc:TE}{pos:Pos}
theorem xP{pins:List (Addr×Obj)}{σ:St}{H:Hp}{s:bYk}{Q:VK}{k a:Bool}(I:Inv X pins σ H s)(q:Q (.bl k) H)(e:k=a):EP X pins σ Q (.bool a) s:=by
 subst e;exact⟨.bl k,H,I,rfl,q⟩
theorem zF:OpR X (cQN .Eq) rEq:=by
 intro pins s σ H x y v u Q I d a h;obtain⟨c,q⟩:=h;cases x with
 |non=>
  cases d;cases y with
  |non=>cases a;exact PySem.EqNone.eq_none_none (xP I q (by simp))
  |bl j=>cases a;exact PySem.EqNone.eq_none_bool (xP I q (by simp))
  |int j=>obtain⟨b,rfl⟩:=a;exact PySem.EqNone.eq_none_int (xP I q (by simp))
  |str j=>obtain⟨b,rfl⟩:=a;exact PySem.EqNone.eq_none_str (xP I q (by simp))
  |_=>exact absurd (show false=true from c) Bool.false_ne_true
 |bl i=>
  cases d;cases y with
  |non=>cases a;exact PySem.EqNone.eq_bool_none (xP I q (by simp))
  |bl j=>cases a;exact eq_bool (xP I q bZX)
  |str j=>obtain⟨b,rfl⟩:=a;exact PySem.EqMixed.eq_bool_str (xP I q (by simp))
  |_=>exact absurd (show false=true from c) Bool.false_ne_true
 |int i=>
  obtain⟨t,rfl⟩:=d;cases y with
  |non=>cases a;exact PySem.EqNone.eq_int_none (xP I q (by simp))
  |int j=>obtain⟨b,rfl⟩:=a;exact eq_int (xP I q aKR)
  |str j=>obtain⟨b,rfl⟩:=a;exact PySem.EqMixed.eq_int_str (xP I q (by simp))
  |_=>exact absurd (show false=true from c) Bool.false_ne_true
 |str i=>
  obtain⟨t,rfl⟩:=d;cases y with
  |non=>cases a;exact PySem.EqNone.eq_str_none (xP I q (by simp))
  |bl j=>cases a;exact PySem.EqMixed.eq_str_bool (xP I q (by simp))
  |int j=>obtain⟨b,rfl⟩:=a;exact PySem.EqMixed.eq_str_int (xP I q (by simp))
  |str j=>obtain⟨b,rfl⟩:=a;exact eq_str (xP I q aKS)
  |_=>exact absurd (show false=true from c) Bool.false_ne_true
 |byt i=>
  obtain⟨t,rfl⟩:=d;cases y with
  |byt j=>obtain⟨b,rfl⟩:=a;exact PySem.W.eq_bytes (xP I q aKQ)
  |_=>exact absurd (show false=true from c) Bool.false_ne_true
 |_=>cases y<;> exact absurd (show false=true from c) Bool.false_ne_true
theorem qZ:OpR X (cQN .NotEq) rNe:=by
 intro pins s σ H x y v u Q I d a h;obtain⟨c,q⟩:=h;cases x with
 |non=>
  cases d;cases y with
  |non=>cases a;exact PySem.EqNone.ne_none_none (xP I q (by simp))
  |bl j=>cases a;exact PySem.EqNone.ne_none_bool (xP I q (by simp))
  |int j=>obtain⟨b,rfl⟩:=a;exact PySem.EqNone.ne_none_int (xP I q (by simp))
  |str j=>obtain⟨b,rfl⟩:=a;exact PySem.EqNone.ne_none_str (xP I q (by simp))
  |_=>exact absurd (show false=true from c) Bool.false_ne_true
 |bl i=>
  cases d;cases y with
  |non=>cases a;exact PySem.EqNone.ne_bool_none (xP I q (by simp))
  |bl j=>cases a;exact ne_bool (xP I q (congrArg not bZX))
  |str j=>obtain⟨b,rfl⟩:=a;exact PySem.EqMixed.ne_bool_str (xP I q (by simp))
  |_=>exact absurd (show false=true from c) Bool.false_ne_true
 |int i=>
  obtain⟨t,rfl⟩:=d;cases y with
  |non=>cases a;exact PySem.EqNone.ne_int_none (xP I q (by simp))
  |int j=>obtain⟨b,rfl⟩:=a;exact ne_int (xP I q (congrArg not aKR))
  |str j=>obtain⟨b,rfl⟩:=a;exact PySem.EqMixed.ne_int_str (xP I q (by simp))
  |_=>exact absurd (show false=true from c) Bool.false_ne_true
 |str i=>
  obtain⟨t,rfl⟩:=d;cases y with
  |non=>cases a;exact PySem.EqNone.ne_str_none (xP I q (by simp))
  |bl j=>cases a;exact PySem.EqMixed.ne_str_bool (xP I q (by simp))
  |int j=>obtain⟨b,rfl⟩:=a;exact PySem.EqMixed.ne_str_int (xP I q (by simp))
  |str j=>obtain⟨b,rfl⟩:=a;exact ne_str (xP I q (congrArg not aKS))
  |_=>exact absurd (show false=true from c) Bool.false_ne_true
 |byt i=>
  obtain⟨t,rfl⟩:=d;cases y with
  |byt j=>obtain⟨b,rfl⟩:=a;exact PySem.W.ne_bytes (xP I q (congrArg not aKQ))
  |_=>exact absurd (show false=true from c) Bool.false_ne_true
 |_=>cases y<;> exact absurd (show false=true from c) Bool.false_ne_true
theorem vL:OpR X (cQN .Lt) (rI0 λi j=> .bl (decide (i<j))):=bKg λ_ _ _ _ _ _ _ q=>lt_int q
theorem aYK:OpR X (cQN .LtE) (rI0 λi j=> .bl (decide (i<=j))):=bKg λ_ _ _ _ _ _ _ q=>le_int q
theorem aXg:OpR X (cQN .Gt) (rI0 λi j=> .bl (decide (j<i))):=bKg λ_ _ _ _ _ _ _ q=>gt_int q
theorem bKz:OpR X (cQN .GtE) (rI0 λi j=> .bl (decide (j<=i))):=bKg λ_ _ _ _ _ _ _ q=>ge_int q
theorem aXr:OpR X (cQN .Is) (λx y H Q=>y= .non/\Q (.bl (decide (x= .non))) H):=by
 intro pins s σ H x y v u Q I a b h;obtain⟨rfl,q⟩:=h;cases b;refine is_none_gen (xP I q ?_);cases x<;> first
  |(cases a;rfl)
  |(obtain⟨t,rfl⟩:=a;rfl)
theorem z8:OpR X (cQN .IsNot) (λx y H Q=>y= .non/\Q (.bl (!decide (x= .non))) H):=by
 intro pins s σ H x y v u Q I a b h;obtain⟨rfl,q⟩:=h;cases b;refine isnot_none_gen (xP I q ?_);cases x<;> first
  |(cases a;rfl)
  |(obtain⟨t,rfl⟩:=a;rfl)
theorem bZ8(b:Expr){op:CmpOp}(h:op≠ .In:=by decide)(h2:op≠ .NotIn:=by decide):cX5 op b=false:=by
 have c:(op==CmpOp.In)=false:=by cases op<;> first|rfl|exact absurd rfl h
 have a:(op==CmpOp.NotIn)=false:=by cases op<;> first|rfl|exact absurd rfl h2
 cases b<;> simp[cX5,c,a]
theorem zP{op:CmpOp}{r:R2}(e:OpR X (cQN op) r)(d:PE X a ta)(i:PE X b tb)(j:cX5 op b=false:=by first|exact bZ8 _|with_unfolding_all rfl):PE X (.Compare a [op] [b] pos) (tOp r ta tb):=by
 intro pins s σ H Q I h;exact wpAny_Compare1 (bKs d i I h λv u k x y H2 c f g q=>e pins k σ H2 x y v u Q c f g q) j
def bW7(t:TE):TT:=λσ H Q=>t σ H λx H'=>∃k,x= .bl k/\Q k H'
theorem yM{op:CmpOp}{r:R2}(g:OpR X (cQN op) r)(f:PE X a ta)(i:PE X b tb)(d:cX5 op b=false:=by first|exact bZ8 _|with_unfolding_all rfl):PT X (.Compare a [op] [b] pos) (bW7 (tOp r ta tb)):=by
 intro pins s σ H Q I h;refine wpAny_isTrue_Compare1 (thn (f pins s σ H _ I h) λv s1 ⟨x,H1,I1,r1,q1⟩=>thn (i pins s1 σ H1 _ I1 q1) λu s2 ⟨y,H2,I2,r2,q2⟩=>
  thn (g pins s2 σ H2 x y v u _ I2 r1 r2 q2) λc s3 ⟨z,H3,I3,r3,k,e,q3⟩=>?_) d
 subst e;cases r3;exact cXi ⟨H3,I3,q3⟩
def bW5(r b:R2)(ta tb tc:TE):TE:=λσ H Q=>ta σ H λx H1=>tb σ H1 λy H2=>r x y H2 λz a=>∃k,z= .bl k/\
 (if k=true then tc σ a λd c=>b y d c Q else Q (.bl false) a)
theorem bX5{op f:CmpOp}{r i:R2}(l:OpR X (cQN op) r)(g:OpR X (cQN f) i)(j:PE X a ta)(o:PE X b tb)(n:PE X c tc) (p:lastMarks [op,f] [b,c]=false:=by with_unfolding_all rfl):PT X (.Compare a [op,f] [b,c] pos) (bW7 (bW5 r i ta tb tc)):=by
 intro pins s σ H Q I h;refine isTrue_chain (thn (j pins s σ H _ I h) λv s1 ⟨x,H1,I1,r1,q1⟩=>test_link (thn (o pins s1 σ H1 _ I1 q1) λu s2 ⟨y,H2,I2,r2,q2⟩=>
  thn (l pins s2 σ H2 x y v u _ I2 r1 r2 q2) λd s3 ⟨z,H3,I3,r3,k,e,q3⟩=>?_)) p
 subst e;cases r3;refine cXi ?_;cases k with
 |false=>obtain⟨t,q,m⟩:=q3;cases q;exact ite_ff ⟨H3,I3,m⟩
 |true=>refine ite_tt (test_last (thn (n pins s3 σ H3 _ I3 q3) λw' s4 ⟨z',H4,I4,r4,q4⟩=>thn (g pins s4 σ H4 y z' u w' _ I4 r2 r4 q4) λd' s5 ⟨z2,H5,I5,r5,k2,e2,q5⟩=>?_));subst e2;cases r5;exact cXi ⟨H5,I5,q5⟩
theorem aZM:(bYJ:Nat)<2 ^ 63:=by rw[bYQ];decide
theorem aXq:OpR X (cXY .Add) (λx y H Q=>∃i j,x= .str i/\y= .str j/\i.length+j.length<=bYJ/\Q (.str (i++j)) H):=by
 intro pins s σ H x y v u Q I a b h;obtain⟨i,j,rfl,rfl,d,q⟩:=h;obtain⟨t,rfl⟩:=a;obtain⟨c,rfl⟩:=b;exact add_str (λc tk=>⟨.str (i++j),H,I.tok _,⟨_,rfl⟩,q⟩) d
theorem aQ6{x:V}{us:List bYh}(r:xV [x] us):∃u,us= [u]/\zM x u:=by
 cases r with
 |cons a b=>cases b;exact⟨_,rfl,a⟩
theorem bKb{x y:V}{us:List bYh}(r:xV [x,y] us):∃u a,us= [u,a]/\zM x u/\zM y a:=by
 cases r with
 |cons b e=>
  cases e with
  |cons c d=>cases d;exact⟨_,_,rfl,b,c⟩
theorem aKJ(b:X.calm=true):qD X (.builtin "max") (λxs H Q=>∃i j,xs= [.int i,.int j]/\Q (.int (if j > i then j else i)) H):=by
 intro pins s σ H xs e Q I r h;obtain⟨i,j,rfl,q⟩:=h;obtain⟨u,c,rfl,⟨t,rfl⟩,⟨d,rfl⟩⟩:=bKb r;refine max_two_ints (I.ok.hd b) λh' tk k=>⟨_,H,I.kept k,?_,q⟩;by_cases a:j > i
 ·rw[if_pos a,if_pos a];exact⟨_,rfl⟩
 ·rw[if_neg a,if_neg a];exact⟨_,rfl⟩
theorem aKK(b:X.calm=true):qD X (.builtin "min") (λxs H Q=>∃i j,xs= [.int i,.int j]/\Q (.int (if j<i then j else i)) H):=by
 intro pins s σ H xs e Q I r h;obtain⟨i,j,rfl,q⟩:=h;obtain⟨u,c,rfl,⟨t,rfl⟩,⟨d,rfl⟩⟩:=bKb r;refine min_two_ints (I.ok.hd b) λh' tk k=>⟨_,H,I.kept k,?_,q⟩;by_cases a:j<i
 ·rw[if_pos a,if_pos a];exact⟨_,rfl⟩
 ·rw[if_neg a,if_neg a];exact⟨_,rfl⟩
theorem vB:qD X (.type "int") (λxs H Q=>(∃i,xs= [.int i]/\Q (.int i) H)\/∃k,xs= [.bl k]/\Q (.int (if k then 1 else 0)) H):=by
 intro pins s σ H xs b Q I r h;rcases h with⟨i,rfl,q⟩|⟨k,rfl,q⟩
 ·obtain⟨u,rfl,t,rfl⟩:=aQ6 r;exact call_int_int ⟨.int i,H,I,⟨_,rfl⟩,q⟩
 ·obtain⟨u,rfl,a⟩:=aQ6 r;cases a;exact call_int_bool ⟨.int (if k then 1 else 0),H,I.tok _,⟨_,rfl⟩,q⟩
end
end L2
namespace L2
open PySem PySem.Spec PyProof.Rows
structure bJu(h:Heap)(x dx C:Addr)(mA:Str->Option bYh):Prop where
 obj:h.get? x=some (cXv C dx)
 ns:h.Ns1 dx mA
 ne:dx≠x
theorem aZN{h:Heap}{dx:Addr}{mA:Str->Option bYh}(n:h.Ns1 dx mA):∃c,h.get? dx=some c/\∀name,cJg name c=some (mA name):=by
 obtain⟨o,es,l,f,d,k,_,i⟩:=n;refine⟨o,f,λname=>?_⟩;have e:=i name;unfold nsFind findBy at e;rw[<- Array.find?_toList]at e;unfold cJg;rw[d];dsimp only;split
 ·rename_i y q;rw[q]at e;exact congrArg some e
 ·rename_i q;rw[q]at e;have a:es.toList.any (·.refKey)=false:=by
   rw[List.any_eq_false];intro y j;obtain⟨z,t,b⟩:=k y (Array.mem_toList_iff.mp j);simp[DictEntry.refKey,b]
  have g:¬es.toList.any (·.refKey)=true:=by rw[a];exact Bool.false_ne_true
  rw[if_neg g];exact congrArg some e
theorem bJu.look{h:Heap}{x dx C:Addr}{mA:Str->Option bYh}(I:bJu h x dx C mA):∃a,PySem.W.InstAt h x (cXv C dx) C (some a)/\∀name,cJg name a=some (mA name):=
 let ⟨a,ho,hl⟩:=aZN I.ns
 ⟨a,⟨I.obj,rfl,rfl,ho⟩,hl⟩
section
variable {prog:bYD}{w:bYL}{A:bYZ}{E:bYh->bYk->Prop}{s:bYk}{K:bYj}{x dx C f:Addr}{mA:Str->Option bYh}{name:Str}{v:bYh}
theorem bJL{a:Bool}{Q:bYh->bYk->Prop}(X:K.In s.heap)(I:bJu s.heap x dx C mA)(f:cXX K C name=true)(c:cZd K C=true) (d:bY3 K (.ref C) name=some none) (e:mA name=some v) (b:PySem.W.handedIn v=true) (h:Q v {s with toks:=s.toks+1}): bYp (bYr prog w) A (getAttr (.ref x) name a) Q E s:=by
 obtain⟨g,J,hl⟩:=I.look;exact PySem.W.get_value X J (cJd f).1 (PySem.W.findObj_own c d rfl (by rw[hl,e])) b h
theorem bXf{pl:Sem Bool}{Q:bYh×List bYh->bYk->Prop}(X:K.In s.heap)(I:bJu s.heap x dx C mA)(a:cXX K C name=true) (e:bY3 K (.ref C) name=some (some (.ref f))) (c:cXW K (.ref f)=true) (d:mA name=none) (h:Q (.ref f,[.ref x]) s): bYp (bYr prog w) A (cZG (.ref x) name pl) Q E s:=by
 obtain⟨b,J,hl⟩:=I.look;exact PySem.W.method_fn X J (cJd a).1 (cJd a).2 e (beq_iff_eq.mp c) (by show(cJg name b).map (·.isSome)=some false;rw[hl,d];rfl) h
theorem bVR{j:List Str}{Q:Unit->bYk->Prop}(X:K.In s.heap)(I:bJu s.heap x dx C mA) (m:bY3 K (.ref C) "__setattr__"=some (some (.builtin "object.__setattr__"))) (t:cZM K C=true) (l:PySem.W.takerIn K C name=some none) (q:cZd K C=true) (hw:PySem.Within mA j) (hsz:j.length<=bYJ) (h:∀h',bJu h' x dx C (λy=>if y=name then some v else mA y)->cXl dx s.heap h'->Q () {s with heap:=h',toks:=s.toks+2}): bYp (bYr prog w) A (setAttr (.ref x) name v) Q E s:=by
 obtain⟨z,J,hl⟩:=I.look;refine PySem.W.set_plain X J m (PySem.W.osa_open (s:={s with toks:=s.toks+1}) (r:=none) X J t l λb=>?_);obtain⟨B,n,f⟩:=PySem.W.any_some q;have k:s.heap.get? x=some ⟨.ref C,some dx,.plain, #[]⟩:=I.obj;refine bYi (bYn (bYi (bYi (wpAny_loadPart k (bYi (PySem.W.Looks.here (s:={s with toks:=s.toks+1}) (PySem.W.looks_clsIn X n) ?_))))));rw[f];refine bYn (a:=some dx) (bYi (bYn (bYi ?_)));refine wpAny_nsSet1 (s:={s with toks:=s.toks+1}) I.ns λh' d c=>?_;obtain⟨u,o,p,i,g,e⟩:=d.count (PySem.Within.cons name v hw);refine bYi (wpAny_lookBehind i (by rw[g];exact pastItsLine_dict (bYT e (by rw[cQg];omega))) ?_);exact bYn (h _ ⟨(c.2 _ (bY0 I.ne)).trans I.obj,d,I.ne⟩ c)
theorem bXy{R:Result->bYk->Prop}{vs:List bYh}{a:List (Str×bYh)}(X:K.In s.heap)(b:PySem.W.makesIn K C=true) (hi:bY3 K (.ref C) "__init__"=some (some (.ref f))) (c:PySem.W.typeIn K (.ref f)=some (.type "function")) (h:cXA (bYr prog w) (A.under (.builtin "type.__call__" ⟨.ref C::vs,a⟩)) (.call (.ref f) ⟨.ref (s.heap.objs.size+1)::vs,a⟩) (PySem.W.InitBack (s.heap.objs.size+1) R) {s with heap:=(s.heap.push cQ1).push (cXv C s.heap.objs.size) }): cXA (bYr prog w) A (.call (.ref C) ⟨vs,a⟩) R s:=by
 obtain⟨e,g,d,t,i⟩:=s;exact PySem.W.make_core (PySem.W.makes_of X b) (PySem.W.looks_findIn X hi) (λself=>PySem.W.bind_fn X self c) (.inl rfl) h
end
def aXh(f:Str)(v:V):List (Str×V)->List (Str×V)
 |[]=> [(f,v)]
 |(g,x)::r=>if g=f then(g,v)::r else(g,x)::aXh f v r
theorem aQv(f g:Str)(v:V):∀fs:List (Str×V),(aXh f v fs).lookup g=if g=f then some v else fs.lookup g
 |[]=>by
  show cXC g [(f,v)]=_;by_cases h:g=f
  ·have a:(g==f)=true:=beq_iff_eq.mpr h;simp only[cXC,a,if_pos h]
  ·have a:(g==f)=false:=beq_eq_false_iff_ne.mpr h;simp only[cXC,a,if_neg h]
 |(k,x)::r=>by
  have c:=aQv f g v r;rw[show aXh f v ((k,x)::r)=(if k=f then(k,v)::r else(k,x)::aXh f v r)from rfl];by_cases b:k=f
  ·rw[if_pos b];by_cases h:g=k
   ·have a:(g==k)=true:=beq_iff_eq.mpr h;simp only[cXC,a,if_pos (h.trans b)]
   ·have a:(g==k)=false:=beq_eq_false_iff_ne.mpr h;simp only[cXC,a,if_neg (λe:g=f=>h (e.trans b.symm))]
  ·rw[if_neg b];by_cases h:g=k
   ·have a:(g==k)=true:=beq_iff_eq.mpr h;simp only[cXC,a,if_neg (λe:g=f=>b (h.symm.trans e))]
   ·have a:(g==k)=false:=beq_eq_false_iff_ne.mpr h;simp only[cXC,a];exact c
theorem aQm(f:Str)(v:V):∀fs:List (Str×V),f∈(aXh f v fs).map (·.1)/\∀g,g∈fs.map (·.1)->g∈(aXh f v fs).map (·.1)
 |[]=>⟨by simp[aXh],λg h=>by simp at h⟩
 |(k,x)::r=>by
  obtain⟨c,b⟩:=aQm f v r;rw[show aXh f v ((k,x)::r)=(if k=f then(k,v)::r else(k,x)::aXh f v r)from rfl];by_cases a:k=f
  ·rw[if_pos a];subst a;exact⟨by simp,λg h=>by simpa using h⟩
  ·rw[if_neg a];refine⟨?_,λg h=>?_⟩
   ·rw[bY4];exact bYt _ c
   ·rw[bY4]at h ⊢;rcases bYq.mp h with e|e
    ·exact bYq.mpr (.inl e)
    ·exact bYt _ (b g e)
theorem aQu(f:Str)(v:V):∀fs:List (Str×V),(aXh f v fs).length<=fs.length+1
 |[]=>by simp[aXh]
 |(k,x)::r=>by
  have b:=aQu f v r;rw[show aXh f v ((k,x)::r)=(if k=f then(k,v)::r else(k,x)::aXh f v r)from rfl];by_cases a:k=f
  ·rw[if_pos a,cQg,cQg];omega
  ·rw[if_neg a,cQg,cQg];omega
theorem aZh.some_of{v:V}{o:Option bYh}(r:aZh (some v) o):∃u,o=some u/\zM v u:=by
 cases o with
 |none=>exact(show False from r).elim
 |some u=>exact⟨u,rfl,r⟩
theorem aZh.none_of{o:Option bYh}(r:aZh none o):o=none:=by
 cases o with
 |none=>rfl
 |some u=>exact(show False from r).elim
theorem aZA{v:V}{u:bYh}(r:zM v u):PySem.W.handedIn u=true:=by
 cases v with
 |non=>cases (show u=Value.none from r);rfl
 |bl b=>cases (show u=Value.bool b from r);rfl
 |int i=>obtain⟨t,e⟩:=(show ∃t,u=Value.int i t from r);cases e;rfl
 |str x=>obtain⟨t,e⟩:=(show ∃t,u=Value.str x t from r);cases e;rfl
 |byt b=>obtain⟨t,e⟩:=(show ∃t,u=Value.bytes b t from r);cases e;rfl
 |flt b=>obtain⟨t,e⟩:=(show ∃t,u=Value.float b t from r);cases e;rfl
 |ref a=>cases (show u=Value.ref a from r);rfl
 |ty n=>cases (show u=Value.type n from r);rfl
section
variable {P:bYD}{w:bYL}{H H':Hp}{h h':Heap}{a C dx:Addr}{fs fs':List (Str×V)}
theorem aQj(b:HOk P w H h)(e:H a=some (.ins C dx fs)):∃mA,bJu h a dx C mA/\(∀f,aZh (fs.lookup f) (mA f))/\PySem.Within mA (fs.map (·.1))/\fs.length<=1000/\H dx=some (.own a):=by
 obtain⟨d,z,ne,c,mA,n,r,q⟩:=(show zE P w H h a (.ins C dx fs)from b a _ e);exact⟨mA,⟨c,n,ne⟩,r,q,z,d⟩
end
structure Cls(K:bYj)(C:Addr):Prop where
 pg:cXX K C Str.empty=true
 hd:cZd K C=true
 po:cZM K C=true
 sa:bY3 K (.ref C) "__setattr__"=some (some (.builtin "object.__setattr__"))
theorem Cls.get{K:bYj}{C:Addr}(c:Cls K C)(f:Str):cXX K C f=true:=c.pg
def wL(K:bYj)(C:Addr)(f:Str):Prop:=bY3 K (.ref C) f=some none
theorem wL.taker{K:bYj}{C:Addr}{f:Str}(n:wL K C f):PySem.W.takerIn K C f=some none:=by
 unfold PySem.W.takerIn;rw[show bY3 K (.ref C) f=some none from n];rfl
structure bV6(K:bYj)(C:Addr)(m:Str)(f:Addr):Prop where
 at_:bY3 K (.ref C) m=some (some (.ref f))
 fn:cXW K (.ref f)=true
 kp:cQd K (.ref f)=true
section
variable {X:Cx}{pins:List (Addr×Obj)}{σ:St}{H:Hp}{s:bYk}{a C dx:Addr}{fs:List (Str×V)}{f:Str}{v:V}{A:bYZ}{E:bYh->bYk->Prop}
theorem aWz{b:Bool}{Q:bYh->bYk->Prop}(I:Inv X pins σ H s)(e:H a=some (.ins C dx fs))(c:Cls X.K C)(n:wL X.K C f)(l:fs.lookup f=some v) (h:∀u s',Inv X pins σ H s'->zM v u->Q u s'):bYp (bYr X.prog X.w) A (getAttr (.ref a) f b) Q E s:=by
 obtain⟨mA,O,r,_,_,_⟩:=aQj I.hok e;obtain⟨u,g,d⟩:=aZh.some_of (v:=v) (o:=mA f) (by rw[<- l];exact r f);exact bJL I.kIn O (c.get f) c.hd n g (aZA d) (h u _ (I.tok _) d)
theorem X2{m:Str}{g:Addr}{pl:Sem Bool}{Q:bYh×List bYh->bYk->Prop}(I:Inv X pins σ H s)(e:H a=some (.ins C dx fs))(c:Cls X.K C)(k:bV6 X.K C m g)(l:fs.lookup m=none) (h:Q (.ref g,[.ref a]) s):bYp (bYr X.prog X.w) A (cZG (.ref a) m pl) Q E s:=by
 obtain⟨mA,O,r,_,_,_⟩:=aQj I.hok e;have b:mA m=none:=aZh.none_of (by rw[<- l];exact r m);exact bXf I.kIn O (c.get m) k.at_ k.fn b h
theorem aKu{y:V}{u:bYh}{Q:Unit->bYk->Prop}(I:Inv X pins σ H s)(e:H a=some (.ins C dx fs))(c:Cls X.K C)(n:wL X.K C f)(hl:fs.length<1000)(m:zM y u) (h:∀s',Inv X pins σ (upd H a (.ins C dx (aXh f y fs))) s'->Q () s'):bYp (bYr X.prog X.w) A (setAttr (.ref a) f u) Q E s:=by
 obtain⟨mA,O,r,j,_,i⟩:=aQj I.hok e;have t:(fs.map (·.1)).length<=bYJ:=by rw[bYl,bYQ];omega
 refine bVR I.kIn O c.sa c.po n.taker c.hd j t λh' d l=>h _ ?_;have k:∃o,h'.get? dx=some o:=let ⟨o,_,_,e',_⟩:=d.ns;⟨o,e'⟩;refine I.write (x:=a) (e:=dx) (by rw[e];exact cQF) (.inr i) (λb q p z=>(l.2 b p).trans z) k ?_;refine⟨by rw[yI O.ne];exact i,?_,O.ne,d.obj,_,d.ns,λg=>?_,λg v=>?_⟩
 ·have:=aQu f y fs;omega
 ·show aZh ((aXh f y fs).lookup g) (if g=f then some u else mA g);rw[aQv];by_cases q:g=f
  ·rw[if_pos q,if_pos q];exact m
  ·rw[if_neg q,if_neg q];exact r g
 ·by_cases q:g=f
  ·rw[q];exact(aQm f y fs).1
  ·refine(aQm f y fs).2 g (j g λz=>v ?_);show(if g=f then some u else mA g)=none;rw[if_neg q];exact z
theorem Inv.made(I:Inv X pins σ H s):Inv X pins σ (upd (upd H s.heap.objs.size (.own (s.heap.objs.size+1))) (s.heap.objs.size+1) (.ins C s.heap.objs.size [])) {s with heap:=(s.heap.push cQ1).push (cXv C s.heap.objs.size) }:=by
 have c:(s.heap.push cQ1).get? s.heap.objs.size=some cQ1:=bYM s.heap rfl;have h:((s.heap.push cQ1).push (cXv C s.heap.objs.size)).get? (s.heap.objs.size+1)=some (cXv C s.heap.objs.size):=by have:=bYM (s.heap.push cQ1) (o:=cXv C s.heap.objs.size) rfl;rwa [cQR]at this
 have f:(s.heap.push cQ1).Ns s.heap.objs.size (λ_=>none):=⟨cQ1, #[],_,c,rfl,(λe g=>absurd g (by simp)),λ_=>rfl⟩;have i:=I.laid (a:=s.heap.objs.size) (o:= .own (s.heap.objs.size+1)) (h':=s.heap.push cQ1) (t':=s.toks) (λb u q=>bYm _ q) (bYo _) ⟨_,c⟩;refine i.laid (a:=s.heap.objs.size+1) (o:= .ins C s.heap.objs.size []) (t':=s.toks) (λb u q=>bYm _ q) (cXT (cQR _ _)) ?_;have ne:s.heap.objs.size≠s.heap.objs.size+1:=bYI (cQ8 _);refine⟨by rw[yI ne,yB],cQf _,ne,h,λ_=>none,(Heap.Ns1.of_empty f).at λo q=>bYm _ q,λ_=>cQF,λy d=>absurd rfl d⟩
theorem aKH{prog:bYD}{w:bYL}{env:Env}{e:Expr}{f:Str}{pos:Pos}{s:bYk}{Q:bYh->bYk->Prop}(b:cX4 e f env (eval e env)=eval e env) (h:bYp (bYr prog w) A (eval e env) (λo a=>bYp (bYr prog w) A (getAttr o f true) Q E a) E s):bYp (bYr prog w) A (eval (.Attribute e f pos) env) Q E s:=
 Attribute_any_ h (by rw[arm_eval_Attribute,b])
end
def bKS(K:bYj)(ta:TE)(f:Str):TE:=λσ H Q=>ta σ H λx H1=>∃a C dx fs v,x= .ref a/\H1 a=some (.ins C dx fs)/\Cls K C/\wL K C f/\fs.lookup f=some v/\Q v H1
def bK9(K:bYj)(ta tv:TE)(f:Str):TS:=λD σ H=>tv σ H λy H1=>ta σ H1 λx H2=>∃a C dx fs,x= .ref a/\H2 a=some (.ins C dx fs)/\Cls K C/\wL K C f/\fs.length<1000/\
 D.nx σ (upd H2 a (.ins C dx (aXh f y fs)))
section
variable {X:Cx}{o e value:Expr}{f:Str}{pos pos' tpos:Pos}{ta tv:TE}
theorem y3(g:PE X e ta)(i:cX4 e f X.env (eval e X.env)=eval e X.env):PE X (.Attribute e f pos) (bKS X.K ta f):=by
 intro pins s σ H Q I h;refine aKH i (thn (g pins s σ H _ I h) λu s1 ⟨x,H1,I1,rx,a,C,dx,fs,v,ex,ea,c,n,l,q⟩=>?_);subst ex;obtain rfl:u=Value.ref a:=rx;exact aWz I1 ea c n l λk j d b=>⟨v,H1,d,b,q⟩
theorem zO(d:PE X o ta)(e:PE X value tv)(b:swapsWith value (some (.Attribute o f pos')) pos.line X.env=pure false):PS X (.Assign [.Attribute o f pos'] value pos) (bK9 X.K ta tv f):=by
 intro pins s σ H D I h;refine cZW (thn (e pins s σ H _ I h) λu s1 ⟨y,H1,I1,ry,q⟩=>thn (d pins s1 σ H1 _ I1 q) λov s2 ⟨x,H2,I2,rx,a,C,dx,fs,ex,ea,c,n,l,q2⟩=>?_) b;subst ex;obtain rfl:ov=Value.ref a:=rx;exact aKu I2 ea c n l ry λi g=>⟨σ,_,g,q2⟩
theorem bJV{pl:Sem Bool}{m:Str}{apos:Pos}{args:List Expr}{pins:List (Addr×Obj)}{s:bYk}{σ:St}{H:Hp}{Q:bYh->bYk->Prop}{te:TE}(d:PE X e te)(I:Inv X pins σ H s)
  (h:te σ H λx H1=>∃a C dx fs g,x= .ref a/\H1 a=some (.ins C dx fs)/\Cls X.K C/\bV6 X.K C m g/\fs.lookup m=none/\
   ∀b,Inv X pins σ H1 b->bYp (bYr X.prog X.w) X.A (callWith pos (.ref g) [.ref a] (cQV pos (bYX args X.env)) (cZr pos (cXD [] X.env))) Q X.xe b)
  (i:eval (.Call (.Attribute e m apos) args [] pos) X.env=(do
   let ov <- eval e X.env
   standAt apos.atName
   let (f,first) <- cZz [ov] (cZG ov m pl)
   callWith pos f first (cQV pos (bYX args X.env)) (cZr pos (cXD [] X.env)))):
  bYp (bYr X.prog X.w) X.A (eval (.Call (.Attribute e m apos) args [] pos) X.env) Q X.xe s:=by
 refine cZh (pl:=pl) (thn (d pins s σ H _ I h) λu b ⟨x,H1,I1,rx,a,C,dx,fs,g,ex,ea,c,k,l,q⟩=>?_) i
 subst ex
 obtain rfl:u=Value.ref a:=rx
 exact X2 I1 ea c k l (q b I1)
end
section
variable {X:Cx}{pins:List (Addr×Obj)}{σ:St}{H:Hp}{s:bYk}{A:bYZ}{E:bYh->bYk->Prop}{Q:bYh->bYk->Prop}{c:bYh}{b:Bool}
inductive aJp(K:bYj)(H:Hp):V->bYh->Prop where
 |non:aJp K H .non (.type "NoneType")
 |bl (x:Bool):aJp K H (.bl x) (.type "bool")
 |int (i:Int):aJp K H (.int i) (.type "int")
 |str (x:Str):aJp K H (.str x) (.type "str")
 |flt (x:UInt64):aJp K H (.flt x) (.type "float")
 |lst {a:Addr} {xs:List V} (e:H a=some (.lst xs)):aJp K H (.ref a) (.type "list")
 |frz {a:Addr} {o:Obj} {xs:List V} (e:H a=some (.frz o (.lst xs))):aJp K H (.ref a) (.type "list")
 |tup {a:Addr} {xs:List V} (e:H a=some (.tup xs)):aJp K H (.ref a) (.type "tuple")
 |dK {a:Addr} {kvs:List (Key×V)} (e:H a=some (.dK kvs)):aJp K H (.ref a) (.type "dict")
 |dT {a:Addr} {kvs:List (List Key×V)} (e:H a=some (.dT kvs)):aJp K H (.ref a) (.type "dict")
 |ins {a C dx:Addr} {fs:List (Str×V)} (e:H a=some (.ins C dx fs)) (cl:Cls K C) (ha:bY3 K (.ref C) "__class__"=some (some (.builtin "object.__class__")))
   (hn:cZN K (.builtin "object.__class__") "__get__"=some (some (.builtin "getset_descriptor.__get__"))) (htk:PySem.W.takesIn K (.builtin "object.__class__")=some true)
   (hm:cZu K C (.type "object")=some true):aJp K H (.ref a) (.ref C)
theorem aK6{x:V}{u t:bYh}(I:Inv X pins σ H s)(f:zM x u)(ty:aJp X.K H x t)(e:bY9 X.K t c=some b)(h:∀tk,Q (.bool b) {s with toks:=tk}): bYp (bYr X.prog X.w) A (call (.builtin "isinstance") [u,c]) Q E s:=by
 cases ty with
 |non=>cases (show u=Value.none from f);exact cQT PySem.W.kitx_none I.kIn cQF e (λz=>nomatch z) h
 |bl y=>cases (show u=Value.bool y from f);exact cQT PySem.W.kitx_bool I.kIn cQF e (λz=>nomatch z) h
 |int i=>obtain⟨t,q⟩:=(show ∃t,u=Value.int i t from f);cases q;exact cQT PySem.W.kitx_int I.kIn cQF e (λz=>nomatch z) h
 |str y=>obtain⟨t,q⟩:=(show ∃t,u=Value.str y t from f);cases q;exact cQT PySem.W.kitx_str I.kIn cQF e (λz=>nomatch z) h
 |flt y=>obtain⟨t,q⟩:=(show ∃t,u=Value.float y t from f);cases q;exact cQT PySem.W.kitx_float I.kIn cQF e (λz=>nomatch z) h
 |@lst a xs d=>cases (show u=Value.ref a from f);obtain⟨_,_,n,_,h1⟩:=(show zE X.prog X.w H s.heap a (.lst xs)from I.hok a _ d);exact cQT cZL I.kIn ⟨_,h1,rfl⟩ e (λz=>nomatch z) h
 |@frz a r xs d=>cases (show u=Value.ref a from f);obtain⟨_,_,_,n,_,h1⟩:=(show zE X.prog X.w H s.heap a (.frz r (.lst xs))from I.hok a _ d);exact cQT cZL I.kIn ⟨_,h1,rfl⟩ e (λz=>nomatch z) h
 |@tup a xs d=>cases (show u=Value.ref a from f);obtain⟨_,_,_,p⟩:=(show zE X.prog X.w H s.heap a (.tup xs)from I.hok a _ d);obtain⟨o,h1,h2,_⟩:=p;exact cQT PySem.W.kitx_tuple I.kIn ⟨o,h1,h2⟩ e (λz=>nomatch z) h
 |@dK a g d=>cases (show u=Value.ref a from f);obtain⟨_,_,B,_,p⟩:=(show zE X.prog X.w H s.heap a (.dK g)from I.hok a _ d);obtain⟨o,es,l,h1,h2,_⟩:=p;exact cQT cZK I.kIn ⟨o,h1,h2.1⟩ e (λz=>nomatch z) h
 |@dT a g d=>cases (show u=Value.ref a from f);obtain⟨_,_,xs,_,o,es,l,h1,h2,_⟩:=(show zE X.prog X.w H s.heap a (.dT g)from I.hok a _ d);exact cQT cZK I.kIn ⟨o,h1,h2.1⟩ e (λz=>nomatch z) h
 |@ins a C dx fs d cl k m j v=>cases (show u=Value.ref a from f);obtain⟨mA,O,_⟩:=aQj I.hok d;obtain⟨D,J,_⟩:=O.look;exact cQT (PySem.W.kitx_own (cl.get _) cl.hd k m j v) I.kIn J e (λz=>nomatch z) h
end
end L2
namespace L2
open PySem PySem.Spec PyProof.Rows
structure vW(k:Nat)(A:bYZ):Prop where
 hd:A.handled=none
 dp:A.depth+3*k+5<recursionLimit
 un:A.units+16*k+200<cLine
theorem vW.mono{j k:Nat}{A:bYZ}(r:vW k A)(h:j<=k):vW j A:=⟨r.hd,by have:=r.dp;omega,by have:=r.un;omega⟩
theorem vW.deeper{k:Nat}{A:bYZ}(r:vW (k+1) A)(env:Env):vW k (A.deeper env):=
 ⟨r.hd,by have:=r.dp;show A.depth+1+3*k+5<_;omega,by have:=r.un;show A.units+3+16*k+200<_;omega⟩
theorem aWM{A:bYZ}{C:Addr}{us:List bYh}{a:List (Str×bYh)}:(A.under (.builtin "type.__call__" ⟨.ref C::us,a⟩)).depth=A.depth+1:=by
 first|rfl|simp[Around.under,Code.weight,Code.isCreation,Code.isGuard,Code.isCaller,Code.frames,Code.isFrame,guardIds]
theorem aWN{A:bYZ}{C:Addr}{us:List bYh}{a:List (Str×bYh)}:(A.under (.builtin "type.__call__" ⟨.ref C::us,a⟩)).units=A.units+1:=by
 first|rfl|simp[Around.under,Code.cUnits,Code.frames,Code.isFrame]
theorem vW.make{k:Nat}{A:bYZ}(r:vW (k+1) A)(C:Addr)(us:List bYh)(a:List (Str×bYh)):vW k (A.under (.builtin "type.__call__" ⟨.ref C::us,a⟩)):=
 ⟨r.hd,by have:=r.dp;rw[aWM];omega,by have:=r.un;rw[aWN];omega⟩
theorem vW.depth{k:Nat}{A:bYZ}(r:vW k A):A.depth<recursionLimit:=by have:=r.dp;omega
theorem vW.units{k:Nat}{A:bYZ}(r:vW k A):A.units+64<cLine:=by have:=r.un;omega
theorem vW.units0{k:Nat}{A:bYZ}(r:vW k A):A.units<cLine:=by have:=r.un;omega
def bZF:TA:=λ_ H Q=>Q [] H
def aKx(ta:TE)(a:TA):TA:=λσ H Q=>ta σ H λx H1=>a σ H1 λxs H2=>Q (x::xs) H2
section
variable {X:Cx}{e:Expr}{es:List Expr}{te:TE}{t:TA}{pos:Pos}
theorem yD:PA X [] bZF:=λ_ _ _ _ H Q I h=>Calls.spliced_nil ⟨[],H,I,.nil,h⟩
theorem yA(c:PE X e te)(a:PA X es t)(b:bYX (e::es) X.env=(false,eval e X.env)::bYX es X.env:=by rfl):PA X (e::es) (aKx te t):=by
 intro pos pins s σ H Q I h;rw[b];show bYp _ _ (spliced ((false,eval e X.env)::cQV pos (bYX es X.env))) _ _ s;refine Calls.spliced_cons (thn (c pins s σ H _ I h) λu s1 ⟨x,H1,I1,r1,q1⟩=>?_);exact thn (a pos pins s1 σ H1 _ I1 q1) λus s2 ⟨xs,H2,I2,r2,q2⟩=>⟨x::xs,H2,I2,.cons r1 r2,q2⟩
def bKV(t:TA):TE:=λσ H Q=>t σ H λxs H1=>xs.length<=bYJ/\∀p,H1 p=none->Q (.ref p) (upd H1 p (.tup xs))
def bKT(t:TA):TE:=λσ H Q=>t σ H λxs H1=>xs.length<=bYJ/\∀p,H1 p=none->Q (.ref p) (upd H1 p (.lst xs))
theorem xG{x1}(h:PA X es t):PE X (.Tuple es x1 pos) (bKV t):=by
 intro pins s σ H Q I c;refine wpAny_Tuple_spliced (thn (h pos pins s σ H _ I c) λus s1 ⟨xs,H1,I1,r,z,q⟩=>⟨by rw[<- r.length];exact z,?_⟩);have a:H1 s1.heap.objs.size=none:=I1.hok.fresh (bYo _);refine⟨.ref s1.heap.objs.size,upd H1 s1.heap.objs.size (.tup xs),I1.laid (t':=s1.toks) (λb u e=>bYm _ e) (bYo _) ?_,rfl,q _ a⟩;exact⟨z,us,r,⟨_,bYM _ rfl,rfl,_,rfl⟩⟩
theorem y6(h:PA X es t):PE X (.List es pos) (bKT t):=by
 intro pins s σ H Q I c;refine wpAny_List_spliced (thn (h pos pins s σ H _ I c) λus s1 ⟨xs,H1,I1,r,z,q⟩=>⟨by rw[<- r.length];exact z,?_⟩);have a:H1 s1.heap.objs.size=none:=I1.hok.fresh (bYo _);refine⟨.ref s1.heap.objs.size,upd H1 s1.heap.objs.size (.lst xs),I1.laid (t':=s1.toks) (λb u e=>bYm _ e) (bYo _) ?_,rfl,q _ a⟩;exact⟨z,us,0,r,bYM _ rfl⟩
end
abbrev Sp:=List V->Hp->VK->XK->Prop
abbrev CXT:=List Env->Hp->bYk->XK->bYh->bYk->Prop
structure bJs(P:bYD)(w:bYL)(K:bYj)(mg:Str->Option bYh)(base:Heap)(A:bYZ)(outer:List Env)(s:bYk)(H:Hp):Prop where
 frames:A.frames=some outer
 mod:Mod K mg base
 bs:∀b o,base.get? b=some o->s.heap.get? b=some o/\H b=none
 bsz:base.objs.size<=s.heap.objs.size
 funs:s.heap.FunFrames base outer
 frf:∀b∈frs outer,H b=none
 hok:HOk P w H s.heap
 bare:AllBare s.gens
def CE(outer:List Env)(P:bYD)(w:bYL)(H:Hp)(s:bYk)(Q:VK)(u:bYh)(s':bYk):Prop:=
 ∃v H',s'.os=s.os/\AllBare s'.gens/\Un (frs outer) [] H H' s.heap s'.heap/\HOk P w H' s'.heap/\zM v u/\Q v H'
def CR(CX:CXT)(outer:List Env)(P:bYD)(w:bYL)(H:Hp)(s:bYk)(Q:VK)(E:XK)(r:Result)(s':bYk):Prop:=
 match r with
 |.ok (.ret u)=>CE outer P w H s Q u s'
 |.ok _=>False
 |.error e=>CX outer H s E e s'
structure xE(P:bYD)(w:bYL)(K:bYj)(mg:Str->Option bYh)(base:Heap)(CX:CXT)(k:Nat)(f:Addr)(fd:cXg)(ps:List Str)(sp:Sp):Prop where
 len:∀vs H Q E,sp vs H Q E->vs.length=ps.length
 run:∀ (A:bYZ)(outer:List Env)(s:bYk)(H:Hp)(args:Args)(us:List bYh)(vs:List V)(Q:VK)(E:XK),vW k A->bJs P w K mg base A outer s H->BindsTo s fd args (ps.zip us)->xV vs us->sp vs H Q E->
  cXA (bYr P w) A (.call (.ref f) args) (CR CX outer P w H s Q E) s
theorem xE.mono{P:bYD}{w:bYL}{K:bYj}{mg:Str->Option bYh}{base:Heap}{CX:CXT}{j k:Nat}{f:Addr}{fd:cXg}{ps:List Str}{sp:Sp}(F:xE P w K mg base CX j f fd ps sp)(h:j<=k):
  xE P w K mg base CX k f fd ps sp:=⟨F.len,λA outer s H args c a Q E b=>F.run A outer s H args c a Q E (b.mono h)⟩
theorem bJs.make{P:bYD}{w:bYL}{K:bYj}{mg:Str->Option bYh}{base:Heap}{A:bYZ}{outer:List Env}{s:bYk}{H:Hp}(e:bJs P w K mg base A outer s H)(C:Addr)(us:List bYh)(a:List (Str×bYh)):
  bJs P w K mg base (A.under (.builtin "type.__call__" ⟨.ref C::us,a⟩)) outer s H:=⟨by first|exact e.frames|(simpa[Around.under,Code.envs,Code.isFrame,pushEnvs]using e.frames),e.mod,e.bs,e.bsz,e.funs,e.frf,e.hok,e.bare⟩
section
variable {X:Cx}{pins:List (Addr×Obj)}{σ:St}{H:Hp}{s s':bYk}
theorem Inv.env0(I:Inv X pins σ H s):bJs X.prog X.w X.K X.mg X.base X.A X.stack s H:=
 ⟨I.ok.frames,I.ok.mod,I.bs,bYT I.ok.bsz I.sz,I.stack,I.stkFree,I.hok,I.bare⟩
theorem Inv.after{Q:VK}{u:bYh}(I:Inv X pins σ H s)(h:CE X.stack X.prog X.w H s Q u s'):EP X pins σ Q u s':=by
 obtain⟨v,H',f,bare,un,c,r,q⟩:=h;obtain⟨e,g,d,t,a⟩:=s';obtain rfl:a=s.os:=f;exact⟨v,H',I.call (h':=e) (g':=g) (d':=d) (t':=t) (ch:= []) un c bare (λb z=>absurd z (by simp)),r,q⟩
end
def bZC(sp:Sp)(dvs:List V)(E:XK)(t:TA):TE:=λσ H Q=>t σ H λa H1=>sp (a++dvs) H1 Q E
def bZE(C:Addr)(m:Str)(sp:Sp)(dvs:List V)(E:XK)(ta:TE)(t:TA):TE:=λσ H Q=>ta σ H λx H1=>∃a dx fs,x= .ref a/\H1 a=some (.ins C dx fs)/\fs.lookup m=none/\
 t σ H1 λb H2=>sp (x::(b++dvs)) H2 Q E
def bZD(C:Addr)(sp:Sp)(dvs:List V)(E:XK)(t:TA):TE:=λσ H Q=>t σ H λa H1=>∀x dx,H1 x=none->H1 dx=none->dx≠x->
 sp (.ref x::(a++dvs)) (upd (upd H1 dx (.own x)) x (.ins C dx [])) (λv H2=>v= .non/\Q (.ref x) H2) E
def v6(K:bYj)(fd:cXg)(ps:List Str)(ds:List bYh):Prop:=
 ∀ (s:bYk)(a:List bYh),K.In s.heap->(a++ds).length=ps.length->BindsTo s fd ⟨a,[]⟩ (ps.zip (a++ds))
theorem v6.all{K:bYj}{fd:cXg}{ps:List Str}(h:∀a:List bYh,a.length=ps.length->bindArgs fd ⟨a,[]⟩=pure (ps.zip a)):v6 K fd ps []:=λs a _ hl=>by
 rw[cQk]at hl ⊢;exact .of_eq (h a hl)
def vP(CX:CXT)(X:Cx)(E:XK):Prop:=∀ (pins:List (Addr×Obj))(σ:St)(H:Hp)(s:bYk)(e:bYh)(s':bYk),Inv X pins σ H s->CX X.stack H s E e s'->X.xe e s'
section
variable {X:Cx}{CX:CXT}{k:Nat}{f C:Addr}{fd:cXg}{ps:List Str}{sp:Sp}{dvs:List V}{ds:List bYh}{E:XK}{x m:Str}{p pos apos:Pos}{e o:Expr}{es:List Expr}{ta:TE}{t:TA}
theorem aZ1{pins:List (Addr×Obj)}{σ:St}{H:Hp}{s:bYk}{Q:VK}{us:List bYh}{vs:List V}(F:xE X.prog X.w X.K X.mg X.base CX k f fd ps sp)(i:vW k X.A)(j:v6 X.K fd ps ds)(c:xV dvs ds)(d:vP CX X E) (I:Inv X pins σ H s) (r:xV vs us) (h:sp (vs++dvs) H Q E):bYp (bYr X.prog X.w) X.A (call (.ref f) us) (EP X pins σ Q) X.xe s:=by
 have b:xV (vs++dvs) (us++ds):=r.append c;have hl:(us++ds).length=ps.length:=by rw[<- b.length];exact F.len _ _ _ _ h
 refine cZs (cXa (F.run X.A X.stack s H ⟨us,[]⟩ (us++ds) (vs++dvs) Q E i I.env0 (j s us I.kIn hl) b h) λr s' a=>?_);cases r with
 |error e=>exact d pins σ H s e s' I a
 |ok g=>
  cases g with
  |ret u=>exact I.after a
  |next=>exact cQO a
  |brk=>exact cQO a
  |cont=>exact cQO a
theorem aYP(F:xE X.prog X.w X.K X.mg X.base CX k f fd ps sp)(j:vW k X.A)(n:Gl X x)(m:X.mg x=some (.ref f))(o:cQd X.K (.ref f)=true)(l:v6 X.K fd ps ds)(c:xV dvs ds)(d:vP CX X E)
  (g:PA X (e::es) t) (a:(x==("__debug__":Str))=false:=by decide) (i:bYX (e::es) X.env=(false,eval e X.env)::bYX es X.env:=by rfl) (b:(cQV pos (bYX es X.env)).any (·.1)=false:=by rfl):
  PE X (.Call (.Name x p) (e::es) [] pos) (bZC sp dvs E t):=by
 intro pins s σ H Q I h
 refine cQW (uV I n m ?_ a)
 refine cX6 (h₀:=X.base) I.ok.mod.kin o (thn (g pos pins s σ H _ I h) λus s1 ⟨vs,H1,I1,r,q⟩=>⟨I1.kIn,?_⟩) i b
 exact aZ1 F j l c d I1 r q
theorem bVj{pl:Sem Bool}(p:PE X o ta)(c:Cls X.K C)(g:bV6 X.K C m f)(F:xE X.prog X.w X.K X.mg X.base CX k f fd ps sp)(y:vW k X.A)(z:v6 X.K fd ps ds)(i:xV dvs ds)(j:vP CX X E)(n:PA X (e::es) t)
  (b:bYX (e::es) X.env=(false,eval e X.env)::bYX es X.env:=by rfl) (d:(cQV pos (bYX es X.env)).any (·.1)=false:=by rfl)
  (v:eval (.Call (.Attribute o m apos) (e::es) [] pos) X.env=(do
   let ov <- eval o X.env
   standAt apos.atName
   let (f,first) <- cZz [ov] (cZG ov m pl)
   callWith pos f first (cQV pos (bYX (e::es) X.env)) (cZr pos (cXD [] X.env))):=by rfl):
  PE X (.Call (.Attribute o m apos) (e::es) [] pos) (bZE C m sp dvs E ta t):=by
 intro pins s σ H Q I h
 refine cZh (pl:=pl) (thn (p pins s σ H _ I h) λu s1 ⟨x,H1,I1,rx,a,dx,fs,ex,ea,l,q⟩=>?_) v
 subst ex
 obtain rfl:u=Value.ref a:=rx
 refine X2 I1 ea c g l ?_
 refine cX6 (first:= [.ref a]) (h₀:=X.base) I.ok.mod.kin g.kp (thn (n pos pins s1 σ H1 _ I1 q) λus s2 ⟨vs,H2,I2,r,q2⟩=>⟨I2.kIn,?_⟩) b d
 exact aZ1 (us:= .ref a::us) (vs:= .ref a::vs) F y z i j I2 (.cons rfl r) q2
theorem bX4{pl:Sem Bool}(j:PE X o ta)(c:Cls X.K C)(b:bV6 X.K C m f)(F:xE X.prog X.w X.K X.mg X.base CX k f fd ps sp)(d:vW k X.A)(n:v6 X.K fd ps ds)(e:xV dvs ds)(g:vP CX X E)
  (i:eval (.Call (.Attribute o m apos) [] [] pos) X.env=(do
   let ov <- eval o X.env
   standAt apos.atName
   let (f,first) <- cZz [ov] (cZG ov m pl)
   callWith pos f first (cQV pos (bYX [] X.env)) (cZr pos (cXD [] X.env))):=by rfl):
  PE X (.Call (.Attribute o m apos) [] [] pos) (bZE C m sp dvs E ta bZF):=by
 intro pins s σ H Q I h
 refine cZh (pl:=pl) (thn (j pins s σ H _ I h) λu s1 ⟨x,H1,I1,rx,a,dx,fs,ex,ea,l,q⟩=>?_) i
 subst ex
 obtain rfl:u=Value.ref a:=rx
 refine X2 I1 ea c b l ?_
 exact cJc (first:= [.ref a]) I1.kIn b.kp (aZ1 (us:= [.ref a]) (vs:= [.ref a]) F d n e g I1 (.cons rfl .nil) q)
structure Mk(K:bYj)(C f:Addr):Prop where
 makes:PySem.W.makesIn K C=true
 init:bY3 K (.ref C) "__init__"=some (some (.ref f))
 fn:cXW K (.ref f)=true
 kp:cQd K (.ref C)=true
theorem aVW{pins:List (Addr×Obj)}{σ:St}{H:Hp}{s:bYk}{Q:VK}{us:List bYh}{vs:List V}(M:Mk X.K C f)(F:xE X.prog X.w X.K X.mg X.base CX k f fd ps sp)(m:vW (k+1) X.A)(p:v6 X.K fd ps ds)(g:xV dvs ds) (i:vP CX X E) (I:Inv X pins σ H s) (r:xV vs us) (h:∀x dx,H x=none->H dx=none->dx≠x->sp (.ref x::(vs++dvs)) (upd (upd H dx (.own x)) x (.ins C dx [])) (λv H2=>v= .non/\Q (.ref x) H2) E): bYp (bYr X.prog X.w) X.A (call (.ref C) us) (EP X pins σ Q) X.xe s:=by
 have d:=h (s.heap.objs.size+1) s.heap.objs.size (I.hok.fresh (cXq _)) (I.hok.fresh (bYo _)) (bYI (cQ8 _));have b:=Inv.made (C:=C) I;have c:xV (V.ref (s.heap.objs.size+1)::(vs++dvs)) (Value.ref (s.heap.objs.size+1)::(us++ds)):= .cons rfl (r.append g);have hl:(Value.ref (s.heap.objs.size+1)::us++ds).length=ps.length:=by have e:=c.length;rw[F.len _ _ _ _ d]at e;exact e.symm
 refine cZs (bXy (f:=f) I.kIn M.makes M.init (beq_iff_eq.mp M.fn) (cXa (F.run _ X.stack _ _ ⟨Value.ref (s.heap.objs.size+1)::us,[]⟩ (Value.ref (s.heap.objs.size+1)::(us++ds)) _ _ E (m.make C us []) (b.env0.make C us []) (p _ (Value.ref (s.heap.objs.size+1)::us) b.kIn hl) c d) λr s' a=>?_));cases r with
 |error e=>exact i pins σ _ _ e s' b a
 |ok l=>
  cases l with
  |ret u=>obtain⟨v,H',q,j,o,n⟩:=b.after a;subst o;exact⟨j,⟨V.ref (s.heap.objs.size+1),H',q,rfl,n⟩⟩
  |next=>exact cQO a
  |brk=>exact cQO a
  |cont=>exact cQO a
theorem bVi(M:Mk X.K C f)(F:xE X.prog X.w X.K X.mg X.base CX k f fd ps sp)(j:vW (k+1) X.A)(n:Gl X x)(m:X.mg x=some (.ref C))(l:v6 X.K fd ps ds)(c:xV dvs ds)(d:vP CX X E)
  (g:PA X (e::es) t) (a:(x==("__debug__":Str))=false:=by decide) (i:bYX (e::es) X.env=(false,eval e X.env)::bYX es X.env:=by rfl) (b:(cQV pos (bYX es X.env)).any (·.1)=false:=by rfl):
  PE X (.Call (.Name x p) (e::es) [] pos) (bZD C sp dvs E t):=by
 intro pins s σ H Q I h
 refine cQW (uV I n m ?_ a)
 refine cX6 (h₀:=X.base) I.ok.mod.kin M.kp (thn (g pos pins s σ H _ I h) λus s1 ⟨vs,H1,I1,r,q⟩=>⟨I1.kIn,?_⟩) i b
 exact aVW M F j l c d I1 r q
theorem bX3(M:Mk X.K C f)(F:xE X.prog X.w X.K X.mg X.base CX k f fd ps sp)(b:vW (k+1) X.A)(g:Gl X x)(c:X.mg x=some (.ref C))(i:v6 X.K fd ps ds)(d:xV dvs ds)(e:vP CX X E) (a:(x==("__debug__":Str))=false:=by decide):PE X (.Call (.Name x p) [] [] pos) (bZD C sp dvs E bZF):=by
 intro pins s σ H Q I h;refine cQW (uV I g c ?_ a);exact cJc I.kIn M.kp (aVW (us:= []) M F b i d e I .nil h)
end
section
variable {X:Cx}{CX:CXT}{k:Nat}{f C:Addr}{fd:cXg}{ps ks:List Str}{sp:Sp}{E:XK}{x m:Str}{p pos apos kpos:Pos}{e o:Expr}{es:List Expr}{kws:List Keyword}{te ta:TE}{t tk:TA}{nm:Option Str}
variable {g:List bYh->List bYh->List bYh}{gV:List V->List V->List V}
end
structure yN(N P:List Str)(sc:cXx):Prop where
 kind:sc.kind= .function
 co:sc.isCoroutine=false
 gen:sc.isGenerator=false
 nd:N.Nodup
 pre:N.take P.length=P
 par:∀x∈P,sc.names.lookup x=some .local\/sc.names.lookup x=some .cell
 nofree:∀y∈sc.names,y.2≠ .free
theorem aZp{a:Str->Option cZq}{x:Str}:∀ {binds:List (Str×bYh)} {m:Str->Option bYh},(∀v,(x,v)∉binds)->bindL a binds m x=m x
 |[],_,_=>rfl
 |(n,v)::r,m,h=>by
  unfold bindL;rw[aZp λw hw=>h w (bYt _ hw)];split
  ·have:x≠n:=by rintro rfl;exact h v bYw
   simp[this]
  ·rfl
theorem aZn{a:Str->Option cZq}{x:Str}:∀ {binds:List (Str×bYh)} {m:Str->Option bYh},(∀v,(x,v)∉binds)->bindC a binds m x=m x
 |[],_,_=>rfl
 |(n,v)::r,m,h=>by
  unfold bindC;rw[aZn λw hw=>h w (bYt _ hw)];split
  ·rfl
  ·have:x≠n:=by rintro rfl;exact h v bYw
   simp[this]
theorem aZo{a:Str->Option cZq}{x:Str}{v:bYh}:∀ {P:List Str} {vs:List bYh} {i:Nat} {m:Str->Option bYh},P.Nodup->P[i]? =some x->vs[i]? =some v->a x=some .local->
  bindL a (P.zip vs) m x=some v
 |[],_,_,_,_,h,_,_=>by simp at h
 |_::_,[],_,_,_,_,h,_=>by simp at h
 |p::P,w::vs,0,m,nd,h1,h2,hk=>by simp at h1 h2;subst h1;subst h2;show bindL a ((p,w)::P.zip vs) m p=_;unfold bindL;rw[aZp λv b=>(cXu.mp nd).1 (List.of_mem_zip b).1,if_pos hk];simp
 |p::P,w::vs,i+1,m,nd,h1,h2,hk=>by show bindL a ((p,w)::P.zip vs) m x=_;unfold bindL;exact aZo (i:=i) (cXu.mp nd).2 (by simpa using h1) (by simpa using h2) hk
theorem aZm{a:Str->Option cZq}{x:Str}{v:bYh}:∀ {P:List Str} {vs:List bYh} {i:Nat} {m:Str->Option bYh},P.Nodup->P[i]? =some x->vs[i]? =some v->a x≠some .local->
  bindC a (P.zip vs) m x=some v
 |[],_,_,_,_,h,_,_=>by simp at h
 |_::_,[],_,_,_,_,h,_=>by simp at h
 |p::P,w::vs,0,m,nd,h1,h2,hk=>by simp at h1 h2;subst h1;subst h2;show bindC a ((p,w)::P.zip vs) m p=_;unfold bindC;rw[aZn λv b=>(cXu.mp nd).1 (List.of_mem_zip b).1,if_neg hk];simp
 |p::P,w::vs,i+1,m,nd,h1,h2,hk=>by show bindC a ((p,w)::P.zip vs) m x=_;unfold bindC;exact aZm (i:=i) (cXu.mp nd).2 (by simpa using h1) (by simpa using h2) hk
def start(N:List Str)(vs:List V):St:=vs.map some++cXP (N.length - vs.length) none
def aXC(CX:CXT)(P:bYD)(w:bYL)(K:bYj)(mg:Str->Option bYh)(base:Heap)(N:List Str)(qual:Str)(scope:cXx)(f:Addr)(cd:bYh)(A:bYZ)(outer:List Env)(s:bYk)(H:Hp)(E:XK):Cx where
 prog:=P
 w:=w
 K:=K
 mg:=mg
 base:=base
 A:=A.deeper (cXf qual scope s.heap.objs.size f cd)
 N:=N
 s₀:=s
 H₀:=H
 env:=cXf qual scope s.heap.objs.size f cd
 outer:=outer
 stack:=cXf qual scope s.heap.objs.size f cd::outer
 ex:= []
 calm:=true
 fn:=λ_=>true
 pn:= []
 xe:=λe s'=>bYp (bYr P w) (A.deeper (cXf qual scope s.heap.objs.size f cd)) (leaving (cXf qual scope s.heap.objs.size f cd) e) (λ_ s''=>CX outer H s E e s'') (λe' s''=>CX outer H s E e' s'') s'
theorem aVy{a:cXx}{n:Nat}{x:Str}(h:a.names.lookup x=some .cell):∃c,(cellsFrom n a.names []).lookup x=some c:=by
 have q:=PySem.W.cellsFrom_some a.names n [] (.inl h);exact Option.isSome_iff_exists.mp q
theorem aK4{CX:CXT}{P:bYD}{w:bYL}{K:bYj}{mg:Str->Option bYh}{base:Heap}{N ps:List Str}{qual:Str}{scope:cXx}{f:Addr}{o:bYh}{A:bYZ}{outer:List Env}{s B:bYk}{H:Hp}{E:XK}{us:List bYh}{vs:List V} (S:yN N ps scope) (D:A.handled=none) (d:bJs P w K mg base A outer s H) (hl:vs.length=ps.length) (r:xV vs us) (x:InCallC s s.heap.objs.size (bindL (cXf qual scope s.heap.objs.size f o).kindOf (ps.zip us) λ_=>none) (cellsFrom (s.heap.objs.size+1) scope.names []) (bindC (cXf qual scope s.heap.objs.size f o).kindOf (ps.zip us) λ_=>none) B): Inv (aXC CX P w K mg base N qual scope f o A outer s H E) [] (start N vs) H B:=by
 have I:ps.length<=N.length:=by have:=congrArg cXp S.pre;rw[cQz]at this;omega
 obtain⟨h1,tk,rfl,C⟩:=x.done;have g:∀b:Addr,b∉(aXC CX P w K mg base N qual scope f o A outer s H E).ex:=λb z=>absurd (show b∈([]:List Addr)from z) (by simp);refine⟨⟨d.mod,S.kind,rfl,rfl,bYo _,λy z c h1 h2=>?_,λy j=>?_,λy c _ h=>?_,λ_=>D,Around.frames_deeper d.frames,.inr ⟨rfl,rfl⟩,λb z=>absurd z (g b),d.bs,d.bsz,λb _ _=>g b,λb z=>absurd z (g b),d.funs,d.frf⟩,rfl,d.bare,Un.kept C,⟨_,x.toInCall.ns,λi y v h1 h2 J=>?_⟩,λy c h=>⟨_,x.cell y c h⟩,d.hok.fresh (bYo _),λy c h=>?_,λp l=>absurd (show p∈([]:List (Addr×Obj))from l) (by simp),d.hok.kept C,?_⟩
 ·exact name_of_addr x.apart (cQM h1) (cQM h2)
 ·have j:scope.names.lookup y=some .cell\/scope.names.lookup y=some .free:=j;rcases j with j|j
  ·exact aVy j
  ·exact absurd rfl (S.nofree _ (cQM j))
 ·exact cXU (x.above y c (cQM h))
 ·have hi:i<vs.length:=by
   unfold start at h2;by_cases hi:i<vs.length
   ·exact hi
   ·rw[bYH (by simpa using hi)]at h2;rw[List.getElem?_replicate]at h2;split at h2<;> cases h2
  have F:vs[i]? =some v:=by
   unfold start at h2;rw[bYY (by simpa using hi),bYB]at h2;cases e:vs[i]? with
   |none=>rw[e]at h2;cases h2
   |some a=>rw[e]at h2;cases h2;rfl
  obtain⟨u,t,G⟩:=r.get F;have l:ps[i]? =some y:=by rw[<- S.pre,List.getElem?_take_of_lt (by omega)];exact h1
  have m:ps.Nodup:=by rw[<- S.pre];exact S.nd.sublist (List.take_sublist _ _)
  refine⟨u,G,?_⟩;rcases S.par y (bYz l)with k|k
  ·exact .inl ⟨k,aZo m l t k⟩
  ·obtain⟨c,e⟩:=aVy (n:=s.heap.objs.size+1) k;refine .inr ⟨.inl k,c,e,?_⟩;have q:=x.cell y c e;rw[aZm m l t (by show scope.names.lookup y≠_;rw[k];decide)]at q;exact q
 ·exact d.hok.fresh (cXU (x.above y c (cQM h)))
 ·unfold start;show _=N.length;rw[bYE,bYl,List.length_replicate];omega
theorem bJJ{CX:CXT}{P:bYD}{w:bYL}{K:bYj}{mg:Str->Option bYh}{base:Heap}{k:Nat}{f:Addr}{name qual:Str}{c:Arguments}{body:List Stmt}{scope:cXx}{F kV l O a ct oc:bYh}{L T:Option Addr} {p:Array (Option bYh)} {N ps:List Str} {sp:Sp} (lk:K.lookup f=some ⟨oc,T,.func (cQD name qual c body scope F kV l O L a ct),p⟩) (D:cQ0 K a qual=true) (S:yN N ps scope) (len:∀vs H Q E,sp vs H Q E->vs.length=ps.length) (h:∀ (A:bYZ)(outer:List Env)(s:bYk)(H:Hp)(vs:List V)(Q:VK)(E:XK),vW k (A.deeper (cXf qual scope s.heap.objs.size f a))->sp vs H Q E-> ∃t,PSs (aXC CX P w K mg base N qual scope f a A outer s H E) body t/\t {nx:=λ_ H'=>Q .non H',rt:=Q} (start N vs) H): xE P w K mg base CX (k+1) f (cQD name qual c body scope F kV l O L a ct) ps sp:=by
 refine⟨len,λA outer s H args us vs Q E C j Z r m=>?_⟩;have hl:=len _ _ _ _ m;have G:K.In s.heap:=j.mod.kin.keeps λb o e=>(j.bs b o e).1;have B:s.heap.NoLimit:=j.mod.nolimit.keeps λb o e=>(j.bs b o e).1;have g:∀y∈ps.zip us,scope.names.lookup y.1=some .local\/(scope.names.lookup y.1=some .cell/\((cellsFrom (s.heap.objs.size+1) scope.names []).lookup y.1).isSome=true):=λ⟨n,v⟩ hy=>by
  rcases S.par n (List.of_mem_zip hy).1 with q|q
  ·exact .inl q
  ·exact .inr ⟨q,PySem.W.cellsFrom_some _ _ _ (.inl q)⟩
 refine codeAny_call_function C.depth (G _ _ lk) rfl S.co S.gen rfl (PySem.W.codeRec_of G D) (Z _ _ _ _ ?_);refine wpAny_newFunctionEnv_cells S.kind g λenv R M x=>?_;subst R;refine⟨B.keeps x.toInCall.keep,codeAny_func ?_⟩;obtain⟨t,X,Y⟩:=h A outer s H vs Q E (C.deeper _) m;have I:Inv (aXC CX P w K mg base N qual scope f a A outer s H E) [] (start N vs) H M:=aK4 S C.hd j hl r x;refine cQl (X [] M (start N vs) H _ I Y) (λU s' i=>?_) λe s' i=>i;have fin:∀ {d:St} {H':Hp} {v:V} {u:bYh},Inv (aXC CX P w K mg base N qual scope f a A outer s H E) [] d H' s'->zM v u->Q v H'->CE outer P w H s Q u s':=
  λ{d H' v u} J z q=>⟨v,H',J.os,J.bare,J.base,J.hok,z,q⟩
 cases U with
 |ret u=>obtain⟨v,d,H',J,z,q⟩:=i;exact fin J z q
 |next=>obtain⟨d,H',J,q⟩:=i;exact fin (v:=V.non) (u:=Value.none) J rfl q
 |brk=>obtain⟨_,_,_,q⟩:=i;exact cQO q
 |cont=>obtain⟨_,_,_,q⟩:=i;exact cQO q
end L2
namespace L2
open PySem PySem.Spec PyProof.Rows
section
variable {X:Cx}{x:Str}{p pos:Pos}{e:Expr}{es:List Expr}{t:TA}{id T:String}{r:List V->Hp->VK->Prop}
def tCB(r:List V->Hp->VK->Prop)(t:TA):TE:=λσ H Q=>t σ H λa H1=>r a H1 Q
theorem yQ(g:qD X (.builtin id) r)(i:Gl X x)(c:X.mg x=none)(d:bY2 x=some (.builtin id))(f:PA X (e::es) t)(j:x≠"__name__":=by decide)(b:(x==("__debug__":Str))=false:=by decide)
  (k:bYX (e::es) X.env=(false,eval e X.env)::bYX es X.env:=by rfl) (a:(cQV pos (bYX es X.env)).any (·.1)=false:=by rfl):PE X (.Call (.Name x p) (e::es) [] pos) (tCB r t):=by
 intro pins s σ H Q I h
 refine cQW (aXp I i c d ?_ j b)
 exact PyProof.Rows.callWith_builtin1 (thn (f pos pins s σ H _ I h) λus s1 ⟨vs,H1,I1,r1,q1⟩=>g pins s1 σ H1 vs us Q I1 r1 q1) k a
theorem x2(g:qD X (.type T) r)(i:Gl X x)(c:X.mg x=none)(d:bY2 x=some (.type T))(f:PA X (e::es) t)(j:x≠"__name__":=by decide)(b:(x==("__debug__":Str))=false:=by decide)
  (k:bYX (e::es) X.env=(false,eval e X.env)::bYX es X.env:=by rfl) (a:(cQV pos (bYX es X.env)).any (·.1)=false:=by rfl):PE X (.Call (.Name x p) (e::es) [] pos) (tCB r t):=by
 intro pins s σ H Q I h
 refine cQW (aXp I i c d ?_ j b)
 exact cZj (thn (f pos pins s σ H _ I h) λus s1 ⟨vs,H1,I1,r1,q1⟩=>g pins s1 σ H1 vs us Q I1 r1 q1) k a
end
end L2
namespace HT
open PySem PyProof.Rows
theorem bX8(A:bYZ)(s:bYk)(a:Int)(t:Tok)(c:Int)(u:Tok)(prog:bYD)(w:bYL)(E:bYh->bYk->Prop)(Q:bYh->bYk->Prop)(h:Q (.bool (decide (a<c))) s): bYp (bYr prog w) A (richCompare .Lt (.int a t) (.int c u)) Q E s:=
 (PyProof.Rows.lt_int h:bYp (bYr prog w) A (cQN .Lt (.int a t) (.int c u)) Q E s)
section
open PySem.SeqAt
open PySem.AutoSeq1 (wpAny_loadPart')
open PySem.MeetsSeq PySem.MeetsSeq2 PySem.MeetsSeq3
end
section
variable {prog:bYD}{w:bYL}{A:bYZ}{E:bYh->bYk->Prop}{s:bYk}
theorem bJz{t b:Addr}{vs a:List bYh}{Q:bYh->bYk->Prop}(v:cZc s.heap t vs.toArray)(x:cZc s.heap b a.toArray)(r:vs≠ []) (h1:a= []->Q (.ref t) s) (h2:a≠ []->Q (.ref s.heap.objs.size) {s with heap:=s.heap.push {cls:= .type "tuple",data:= .seq (vs++a).toArray} }) (j:vs.length+a.length<=bYJ):bYp (bYr prog w) A (cXY .Add (.ref t) (.ref b)) Q E s:=by
 obtain⟨⟨cls,q,data,p⟩,i,o,n,l⟩:=id v;obtain⟨⟨u,f,k,h⟩,c,d,m,g⟩:=id x;simp only at o l d g;subst o l d g;have e:vs.toArray++a.toArray=(vs++a).toArray:=by simp
 by_cases hw:a= []
 ·exact concat_meets ⟨_,i,rfl⟩ ⟨_,c,rfl⟩ noFill_tuple_add seq_tuple_add PySem.F.slot_tuple_add PySem.F.entry_tuple_add (cJF _ _)
   (tuple_addW1 t b vs.toArray a.toArray n m q f p h (by simpa using r) (by simp[hw])) ⟨i,c,h1 hw⟩
 ·refine concat_meets ⟨_,i,rfl⟩ ⟨_,c,rfl⟩ noFill_tuple_add seq_tuple_add PySem.F.slot_tuple_add PySem.F.entry_tuple_add (cJF _ _)
   (tuple_addW2 t b vs.toArray a.toArray n m q f p h (by simpa using r) (by simpa using hw) (by rw[bYA,bYA];exact j)) ⟨i,c,?_⟩
  rw[e];exact h2 hw
def sIx(n d:Nat):Option Int->Nat
 |none=>d
 |some v=>if v<0 then(v+(n:Int)).toNat else min v.toNat n
theorem bZa(n d:Nat):sIx n d none=d:=rfl
end
end HT
namespace L2
open PySem PySem.Spec PyProof.Rows
abbrev TO:=St->Hp->(Option Int->Hp->Prop)->Prop
def PO(X:Cx)(e:Option Expr)(t:TO):Prop:=
 ∀ (pins:List (Addr×Obj))(s:bYk)(σ:St)(H:Hp)(Q:Option Int->Hp->Prop),Inv X pins σ H s->t σ H Q->
  bYp (bYr X.prog X.w) X.A (evalPart e X.env) (λu s'=>∃o H',Inv X pins σ H' s'/\IsPart u o/\Q o H') X.xe s
def bVY:TO:=λ_ H Q=>Q none H
def bKK(t:TE):TO:=λσ H Q=>t σ H λx H1=>∃i,x= .int i/\Q (some i) H1
theorem aXn{a:List Int}:∀ {us:List bYh},xV (a.map V.int) us->cXO us a:=by
 induction a with
 |nil=>intro us r;rw[List.map_nil]at r;cases r;exact .nil
 |cons n a c=>
  intro us r;rw[bY4]at r;cases r with
  |cons b d=>obtain⟨t,e⟩:=b;subst e;exact .cons n t (c d)
section
variable {X:Cx}{e:Expr}{te:TE}{lo hi:Option Expr}{tl th:TO}{pos p2:Pos}
theorem aJ0:PO X none bVY:=by
 intro pins s σ H Q I h;rw[evalPart_none];exact bYn ⟨none,H,I,.none,h⟩
theorem aQH(h:PE X e te):PO X (some e) (bKK te):=by
 intro pins s σ H Q I hw;rw[evalPart_some];refine thn (h pins s σ H _ I hw) λu s1 ⟨x,H1,I1,r1,q1⟩=>?_;obtain⟨i,rfl,q⟩:=q1;obtain⟨t,rfl⟩:=r1;exact⟨some i,H1,I1,.int i t,q⟩
def SlR(X:Cx)(r:V->Option Int->Option Int->Hp->VK->Prop):Prop:=
 ∀ (pins:List (Addr×Obj))(s:bYk)(σ:St)(H:Hp)(x:V)(v b a:bYh)(lo hi:Option Int)(c:Addr)(Q:VK),Inv X pins σ H s->zM x v->s.heap.IsSliceOf c b a .none->IsPart b lo->IsPart a hi->r x lo hi H Q->
  ∃T id,typeLookup (.type T) "__getitem__"=pure (some (.builtin id))/\s.TypeIs v T/\bYp (bYr X.prog X.w) X.A (getItem v (.ref c)) (EP X pins σ Q) X.xe s
def tSl(r:V->Option Int->Option Int->Hp->VK->Prop)(te:TE)(tl th:TO):TE:=λσ H Q=>te σ H λx H1=>tl σ H1 λl H2=>th σ H2 λu a=>r x l u a Q
theorem Q5{r:V->Option Int->Option Int->Hp->VK->Prop}(g:SlR X r)(a:PE X e te)(hl:PO X lo tl)(i:PO X hi th):PE X (.Subscript e (.Slice lo hi none p2) pos) (tSl r te tl th):=by
 intro pins s σ H Q I h;refine Subscript_ (thn (a pins s σ H _ I h) λv s1 ⟨x,H1,I1,r1,q1⟩=>?_);refine wpAny_Slice (thn (hl pins s1 σ H1 _ I1 q1) λvl s2 ⟨l,H2,I2,pl,q2⟩=>thn (i pins s2 σ H2 _ I2 q2) λvu s3 ⟨u,H3,I3,pu,q3⟩=>?_);rw[evalPart_none];refine bYn ?_;have c:Inv X pins σ H3 {s3 with heap:=s3.heap.push {cls:= .type "slice",data:= .fields #[vl,vu,.none] } }:=I3.kept (t':=s3.toks) λb k q=>bYm _ q;obtain⟨T,id,f,d,j⟩:=g pins {s3 with heap:=s3.heap.push {cls:= .type "slice",data:= .fields #[vl,vu,.none] } } σ H3 x v vl vu l u s3.heap.objs.size Q c r1 (Heap.IsSliceOf.new ..) pl pu q3;show bYp (bYr X.prog X.w) X.A (subscriptTail e (.Slice lo hi none p2) v (.ref s3.heap.objs.size)) (EP X pins σ Q) X.xe {s3 with heap:=s3.heap.push {cls:= .type "slice",data:= .fields #[vl,vu,.none] } };exact tail_any (ops:= [.ref s3.heap.objs.size,v]) d f j (by with_unfolding_all rfl)
def Z5(xs:List V)(lo hi:Option Int):List V:=(xs.drop (HT.sIx xs.length 0 lo)).take (HT.sIx xs.length xs.length hi - HT.sIx xs.length 0 lo)
theorem aJz(xs:List V)(lo hi:Option Int):(Z5 xs lo hi).length<=xs.length:=by
 unfold Z5;rw[cQz,List.length_drop];omega
def bKB(K:bYj):R2:=λx y H Q=>∃a b xs ys,x= .ref a/\y= .ref b/\SqT K H a xs/\SqT K H b ys/\xs≠ []/\xs.length+ys.length<=bYJ/\
 (ys= []->Q (.ref a) H)/\(ys≠ []->∀p,H p=none->Q (.ref p) (upd H p (.tup (xs++ys))))
theorem xV.nil_iff{xs:List V}{us:List bYh}(r:xV xs us):us= []↔xs= []:=by
 cases r with
 |nil=>simp
 |cons _ _=>simp
theorem bVg:OpR X (cXY .Add) (bKB X.K):=by
 intro pins s σ H x y v u Q I l p h;obtain⟨a,b,xs,ys,rfl,rfl,i,r,g,e,j,m⟩:=h;cases l;cases p;obtain⟨k,d,n,_⟩:=I.tuple i;obtain⟨f,c,p2,_⟩:=I.tuple r;refine HT.bJz n p2 (λz=>g (d.nil_iff.mp z)) (λz=>⟨.ref a,H,I,rfl,j (c.nil_iff.mp z)⟩) (λz=>?_) (by rw[<- d.length,<- c.length];exact e);refine⟨.ref s.heap.objs.size,_,I.laid (t':=s.toks) (o:= .tup (xs++ys)) (λb t q=>bYm _ q) (bYo _) ?_,rfl,m (λw=>z (c.nil_iff.mpr w)) _ (I.hok.fresh (bYo _))⟩;exact⟨by rw[bYE];exact e,_,d.append c,IsTup.new _ _⟩
end
end L2
namespace L2
open PySem PySem.Spec PyProof.Rows
def ixN(n:Nat)(i:Int):Option Nat:=if 0<=i then(if i<n then some i.toNat else none)else if -(n:Int)<=i then some (i+n).toNat else none
def atI{α:Type}(xs:List α)(i:Int):Option α:=(ixN xs.length i).bind λj=>xs[j]?
theorem aK7{n:Nat}{i:Int}{j:Nat}(h:ixN n i=some j):seqIndex? i n=some j/\j<n/\ -(n:Int)<=i/\i<n:=by
 unfold ixN at h;by_cases h0:0<=i
 ·rw[if_pos h0]at h;by_cases h1:i<n
  ·rw[if_pos h1]at h;have e:i.toNat=j:=bYC h;exact⟨by rw[seqIndex_of h0 h1,e],by omega,by omega,h1⟩
  ·rw[if_neg h1]at h;cases h
 ·rw[if_neg h0]at h;by_cases h1: -(n:Int)<=i
  ·rw[if_pos h1]at h;have e:(i+n).toNat=j:=bYC h;exact⟨by rw[seqIndex_neg (by omega) h1,e],by omega,h1,by omega⟩
  ·rw[if_neg h1]at h;cases h
theorem aJr{α:Type}{xs:List α}{i:Int}{v:α}(h:atI xs i=some v):∃j,seqIndex? i xs.length=some j/\xs[j]? =some v/\j<xs.length/\ -(xs.length:Int)<=i/\i<xs.length:=by
 unfold atI at h;cases e:ixN xs.length i with
 |none=>rw[e]at h;cases h
 |some j=>rw[e]at h;obtain⟨h1,h2,b,a⟩:=aK7 e;exact⟨j,h1,h,h2,b,a⟩
theorem yT{α:Type}{xs:List α}{j:Nat}{v:α}(h:xs[j]? =some v):atI xs (j:Int)=some v:=by
 have a:j<xs.length:=(bYs.mp h).1;have e:ixN xs.length (j:Int)=some j:=by unfold ixN;rw[if_pos (by omega),if_pos (by omega)];simp
 unfold atI;rw[e];exact h
def bJx(b:Expr):Prop:=∀o i,subscripted b false o i=operate [o,i] (getItem o i)
def IxR(X:Cx)(r:R2):Prop:=
 ∀ (value a:Expr)(pins:List (Addr×Obj))(s:bYk)(σ:St)(H:Hp)(x y:V)(v u:bYh)(Q:VK),Inv X pins σ H s->zM x v->zM y u->r x y H Q->
  subscripted a false v u=operate [v,u] (getItem v u)->bYp (bYr X.prog X.w) X.A (subscriptTail value a v u) (EP X pins σ Q) X.xe s
def MtR(X:Cx)(id:String)(r:V->List V->Hp->VK->Prop):Prop:=
 ∀ (pins:List (Addr×Obj))(s:bYk)(σ:St)(H:Hp)(x:V)(xs:List V)(v:bYh)(a:List bYh)(Q:VK),Inv X pins σ H s->zM x v->xV xs a->r x xs H Q->
  bYp (bYr X.prog X.w) X.A (call (.builtin id) (v::a)) (EP X pins σ Q) X.xe s
section
variable {X:Cx}{a b:Expr}{ta tb:TE}{pos:Pos}
theorem IxR.or{r b:R2}(h:IxR X r)(h':IxR X b):IxR X (λx y H Q=>r x y H Q\/b x y H Q):=by
 intro value a pins s σ H x y v u Q I c e q d;rcases q with q|q
 ·exact h value a pins s σ H x y v u Q I c e q d
 ·exact h' value a pins s σ H x y v u Q I c e q d
theorem yL{r:R2}(g:IxR X r)(d:PE X a ta)(j:PE X b tb)(f:bJx b:=by exact λ_ _=>rfl):PE X (.Subscript a b pos) (tOp r ta tb):=by
 intro pins s σ H Q I h;exact Subscript_ (bKs d j I h λv u k x y H2 c e i q=>g a b pins k σ H2 x y v u Q c e i q (f _ _))
def aZd(K:bYj):R2:=λx y H Q=>∃p xs i v,x= .ref p/\y= .int i/\SqL K H p xs/\atI xs i=some v/\Q v H
def bJc(K:bYj):R2:=λx y H Q=>∃p xs i v,x= .ref p/\y= .int i/\SqT K H p xs/\atI xs i=some v/\Q v H
def bKQ:R2:=λx y H Q=>∃z i c,x= .str z/\y= .int i/\z.length<=bYJ/\atI z.cps.toList i=some c/\Q (.str ⟨#[c]⟩) H
theorem yK:IxR X (aZd X.K):=by
 intro value c pins s σ H x y v u Q I m A h g;obtain⟨p,xs,i,z,rfl,rfl,n,k,q⟩:=h;cases m;obtain⟨t,rfl⟩:=A;obtain⟨a,r,e,D⟩:=I.list n;obtain⟨j,h1,h2,B,o,l⟩:=aJr k;obtain⟨w,f,b⟩:=r.get h2;have hl:=r.length;have C:=aZM;have fin:EP X pins σ Q w s:=⟨z,H,I,b,q⟩;by_cases h0:0<=i
 ·have d:i.toNat=j:=by
   rw[seqIndex_of h0 l]at h1;exact bYC h1
  exact item_listR e.isList h0 (by omega) (by rw[d];simpa using f) fin g
 ·have d:(i+(a.toArray.size:Int)).toNat=j:=by
   rw[seqIndex_neg (by omega) o]at h1;rw[bYA,<- hl];exact bYC h1
  exact subscriptTail_builtinR (x:=w) e.isList.typeIs slot_list_getitem.lookup
   (wpAny_getItem_list_neg (Q:=λr s'=>r=w/\EP X pins σ Q r s') e.isList (by omega) (by rw[bYA]<;> omega) (by omega) (by rw[d];simpa using f) ⟨rfl,fin⟩) g
theorem yX:IxR X (bJc X.K):=by
 intro value b pins s σ H x y v u Q I f m h l;obtain⟨p,xs,i,z,rfl,rfl,k,d,q⟩:=h;cases f;obtain⟨t,rfl⟩:=m;obtain⟨e,r,c,C⟩:=I.tuple k;obtain⟨j,h1,h2,o,A,n⟩:=aJr d;obtain⟨w,g,a⟩:=r.get h2;have hl:=r.length;have B:=aZM;have fin:EP X pins σ Q w s:=⟨z,H,I,a,q⟩;exact subscriptTail_builtinR (x:=w) c.typeIs slot_tuple_getitem.lookup
  (getItem_tuple (j:=j) (Q:=λr s'=>r=w/\EP X pins σ Q r s') c (by omega) (by omega) (by rw[bYA,<- hl];exact h1) (by simpa using g) ⟨rfl,fin⟩) l
theorem aQl:IxR X bKQ:=by
 intro value a pins s σ H x y v u Q I f l h g;obtain⟨z,i,c,rfl,rfl,r,b,q⟩:=h;obtain⟨t,rfl⟩:=f;obtain⟨p,rfl⟩:=l;obtain⟨j,h1,h2,n,k,d⟩:=aJr b;have hl:z.cps.toList.length=z.length:=by simp[Str.length]
 rw[hl]at h1 k d;have o:=aZM;exact tail_any (typeIs_str s z t) slot_str_getitem.lookup (getItem_str (c:=c) (by
  have m:decide (i< -(2 ^ 63:Int))=false:=decide_eq_false (by omega);have e:decide (i≥2 ^ 63)=false:=decide_eq_false (by omega);rw[m,e,Bool.or_false]) (by rw[h1];simpa using h2) ⟨.str ⟨#[c]⟩,H,I.tok _,⟨_,rfl⟩,q⟩) g
def rIx(K:bYj):R2:=λx y H Q=>aZd K x y H Q\/bJc K x y H Q\/bKQ x y H Q
theorem aVG:IxR X (rIx X.K):=yK.or (yX.or aQl)
theorem aWO(its:List bYh)(n j:Nat)(u:bYh):cQb (·.setIfInBounds j u) {cls:= .type "list",data:= .seq its.toArray n}= {cls:= .type "list",data:= .seq (its.set j u).toArray n}:=by
 simp[cQb]
theorem Inv.lst{pins:List (Addr×Obj)}{σ:St}{H:Hp}{s:bYk}{p:Addr}{xs:List V}(I:Inv X pins σ H s)(h:H p=some (.lst xs)): ∃ (its:List bYh)(n:Nat),xV xs its/\s.heap.get? p=some {cls:= .type "list",data:= .seq its.toArray n}/\xs.length<=bYJ:=by
 obtain⟨z,its,n,r,e⟩:=I.hok p _ h;exact⟨its,n,r,e,z⟩
theorem Inv.lstUpd{pins:List (Addr×Obj)}{σ:St}{H:Hp}{s:bYk}{p:Addr}{xs ys:List V}{its its':List bYh}{n a:Nat}{f:Obj->Obj}(I:Inv X pins σ H s)(h:H p=some (.lst xs)) (d:s.heap.get? p=some {cls:= .type "list",data:= .seq its.toArray n}) (c:f {cls:= .type "list",data:= .seq its.toArray n}= {cls:= .type "list",data:= .seq its'.toArray a}) (r:xV ys its') (i:ys.length<=bYJ) (t:Nat): Inv X pins σ (upd H p (.lst ys)) {s with heap:=s.heap.update p f,toks:=t}:=by
 have e:(s.heap.update p f).get? p=some {cls:= .type "list",data:= .seq its'.toArray a}:=by rw[cQn f d (by rw[c]<;> rfl),c]
 refine I.write (x:=p) (e:=p) (by rw[h];trivial) (.inl rfl) (λb u g q=>(bYV _ _ (bY0 g)).trans q) ⟨_,e⟩ ?_;exact⟨i,its',a,r,e⟩
def bKC:V->V->V->Hp->(Hp->Prop)->Prop:=λo i v H Q=>∃p xs k j,o= .ref p/\i= .int k/\H p=some (.lst xs)/\ixN xs.length k=some j/\Q (upd H p (.lst (xs.set j v)))
theorem zT:bKO X bKC:=by
 intro pins s σ H o i v z B u Q I x y l h;obtain⟨p,xs,k,j,rfl,rfl,g,m,q⟩:=h;cases x;obtain⟨t,rfl⟩:=y;obtain⟨a,n,r,b,w⟩:=I.lst g;obtain⟨h1,h2,e,f⟩:=aK7 m;have hl:=r.length;have A:=aZM;have d:Inv X pins σ (upd H p (.lst (xs.set j v))) {s with heap:=s.heap.update p (cQb (·.setIfInBounds j u)) }:=
  I.lstUpd g b (aWO a n j u) (r.set l j) (by rw[List.length_set];exact w) s.toks
 by_cases h0:0<=k
 ·have c:k.toNat=j:=by
   rw[seqIndex_of h0 f]at h1;exact bYC h1
  exact PySem.W.ki_setAt b h0 (by omega) (by rw[bYA,<- hl];exact f) (by rw[c];exact⟨_,d,q⟩)
 ·have c:(k+(a.toArray.size:Int)).toNat=j:=by
   rw[seqIndex_neg (by omega) e]at h1;rw[bYA,<- hl];exact bYC h1
  exact PySem.W.ki_setBack b (by omega) (by rw[bYA,<- hl];exact e) (by omega) (by rw[c];exact⟨_,d,q⟩)
theorem aZ7(lo hi:Option Int)(n:Nat):(cZA lo hi none n).1=((HT.sIx n 0 lo:Nat):Int)/\(cZA lo hi none n).2.1=((HT.sIx n n hi:Nat):Int)/\(cZA lo hi none n).2.2=1:=by
 refine⟨?_,?_,rfl⟩
 ·cases lo with
  |none=>simp[cZA,HT.sIx]
  |some i=>
   simp only[cZA,HT.sIx,Option.getD_none,show(1:Int) > 0 by decide,if_true];by_cases h:i<0
   ·simp only[h,if_true]<;> omega
   ·simp only[h,if_false]<;> omega
 ·cases hi with
  |none=>simp[cZA,HT.sIx]
  |some i=>
   simp only[cZA,HT.sIx,Option.getD_none,show(1:Int) > 0 by decide,if_true];by_cases h:i<0
   ·simp only[h,if_true]<;> omega
   ·simp only[h,if_false]<;> omega
theorem aX7(its:List bYh)(lo hi:Option Int):slicePick its.toArray lo hi none=((its.drop (HT.sIx its.length 0 lo)).take (HT.sIx its.length its.length hi - HT.sIx its.length 0 lo)).toArray:=by
 obtain⟨h1,h2,a⟩:=aZ7 lo hi its.toArray.size;unfold slicePick;rw[h1,h2,a];simp only[sliceRange_one,pick_run,bYA]<;> rfl
def bK7(K:bYj):V->Option Int->Option Int->Hp->VK->Prop:=λx lo hi H Q=>∃a xs,x= .ref a/\SqL K H a xs/\∀p,H p=none->Q (.ref p) (upd H p (.lst (Z5 xs lo hi)))
theorem aX6:SlR X (bK7 X.K):=by
 intro pins s σ H x v n m lo hi p Q I g i k j h;obtain⟨a,xs,rfl,e,q⟩:=h;cases g;obtain⟨f,r,d,l⟩:=I.list e;have c:=r.length;refine⟨"list",_,slot_list_getitem.lookup,d.isList.typeIs,?_⟩;refine wpAny_getItem_list_slice d.isList i k j .none (by simp) ?_ (by rw[bYA]<;> omega);rw[aX7,<- c];refine⟨.ref s.heap.objs.size,_,I.laid (t':=s.toks) (o:= .lst (Z5 xs lo hi)) (λb t q=>bYm _ q) (bYo _) ?_,rfl,q _ (I.hok.fresh (bYo _))⟩;exact⟨bYT (aJz xs lo hi) l,_,0,(r.drop (HT.sIx xs.length 0 lo)).take (HT.sIx xs.length xs.length hi - HT.sIx xs.length 0 lo),bYM _ rfl⟩
def J9:V->Bool
 |.non=>true
 |.bl _=>true
 |.int _=>true
 |.str _=>true
 |_=>false
def eqV:V->V->Bool
 |.non,.non=>true
 |.bl a,.bl b=>a==b
 |.bl a,.int b=>(if a then 1 else 0)==b
 |.int a,.bl b=>a==(if b then 1 else 0)
 |.int a,.int b=>a==b
 |.str a,.str b=>a==b
 |_,_=>false
theorem bZ0{A:bYZ}{s:bYk}{y x:V}{u v:bYh}(e:zM y u)(c:zM x v)(g:J9 y=true)(f:J9 x=true):cJI A s u v (eqV y x):=by
 cases y with
 |non=>
  cases e;cases x with
  |non=>cases c;exact SeqAt.EqAt.same _
  |bl b=>cases c;exact SeqAt.EqAt.none_bool b
  |int b=>obtain⟨t,rfl⟩:=c;exact SeqAt.EqAt.none_int b t
  |str b=>obtain⟨t,rfl⟩:=c;exact SeqAt.EqAt.none_str b t
  |_=>exact absurd (show false=true from f) Bool.false_ne_true
 |bl a=>
  cases e;cases x with
  |non=>cases c;exact SeqAt.EqAt.bool_none a
  |bl b=>cases c;exact SeqAt.EqAt.bool_bool a b
  |int b=>obtain⟨t,rfl⟩:=c;exact SeqAt.EqAt.bool_int a b t
  |str b=>obtain⟨t,rfl⟩:=c;exact SeqAt.EqAt.bool_str a b t
  |_=>exact absurd (show false=true from f) Bool.false_ne_true
 |int a=>
  obtain⟨d,rfl⟩:=e;cases x with
  |non=>cases c;exact SeqAt.EqAt.int_none a d
  |bl b=>cases c;exact SeqAt.EqAt.int_bool a d b
  |int b=>obtain⟨t,rfl⟩:=c;exact SeqAt.EqAt.int_int a d b t
  |str b=>obtain⟨t,rfl⟩:=c;exact SeqAt.EqAt.int_str a d b t
  |_=>exact absurd (show false=true from f) Bool.false_ne_true
 |str a=>
  obtain⟨d,rfl⟩:=e;cases x with
  |non=>cases c;exact SeqAt.EqAt.str_none a d
  |bl b=>cases c;exact SeqAt.EqAt.str_bool a d b
  |int b=>obtain⟨t,rfl⟩:=c;exact SeqAt.EqAt.str_int a d b t
  |str b=>obtain⟨t,rfl⟩:=c;exact SeqAt.EqAt.str_str a d b t
  |_=>exact absurd (show false=true from f) Bool.false_ne_true
 |_=>exact absurd (show false=true from g) Bool.false_ne_true
def eqU(x:V)(u:bYh):Bool:=match u with
 |.none=>eqV .non x
 |.bool b=>eqV (.bl b) x
 |.int i _=>eqV (.int i) x
 |.str z _=>eqV (.str z) x
 |_=>false
theorem bZ1{x y:V}{u:bYh}(r:zM y u)(f:J9 y=true):eqU x u=eqV y x:=by
 cases y with
 |non=>cases r;rfl
 |bl b=>cases r;rfl
 |int i=>obtain⟨t,rfl⟩:=r;rfl
 |str z=>obtain⟨t,rfl⟩:=r;rfl
 |_=>exact absurd (show false=true from f) Bool.false_ne_true
theorem aQf{x:V}:∀ {xs:List V} {us:List bYh},xV xs us->xs.all J9=true->us.any (eqU x)=xs.any λy=>eqV y x
 |_,_,.nil,_=>rfl
 |y::xs,u::us,.cons r t,f=>by rw[cZt,Bool.and_eq_true]at f;rw[cXB,cXB,bZ1 r f.1,aQf t f.2]
theorem qY{A:bYZ}{s:bYk}{x:V}{v:bYh}(b:zM x v)(c:J9 x=true):∀ {xs:List V} {us:List bYh},xV xs us->xs.all J9=true->∀u∈us,cJI A s u v (eqU x u)
 |_,_,.nil,_=>λu a=>by cases a
 |y::xs,u::us,.cons r t,f=>λd a=>by
  rw[cZt,Bool.and_eq_true]at f;rcases bYq.mp a with rfl|a
  ·rw[bZ1 r f.1];exact bZ0 r b f.1 c
  ·exact qY b c t f.2 d a
def inV(x:V)(xs:List V):Bool:=xs.any λy=>eqV y x
def rIn(K:bYj)(a:Bool):R2:=λx y H Q=>∃p xs,y= .ref p/\(SqL K H p xs\/SqT K H p xs)/\J9 x=true/\xs.all J9=true/\Q (.bl (if a then !inV x xs else inV x xs)) H
theorem vD:OpR X (cQN .In) (rIn X.K false):=by
 intro pins s σ H x y v u Q I d f h;obtain⟨p,xs,rfl,b,e,fs,q⟩:=h;cases f;rcases b with b|b
 ·obtain⟨a,r,c,g⟩:=I.list b;refine SeqAt.in_listAt (eqU x) c.isList (λw hw=>qY d e r fs w (by simpa using hw)) ⟨.bl _,H,I,rfl,?_⟩;rw[show a.toArray.any (eqU x)=a.any (eqU x) by simp,aQf r fs];exact q
 ·obtain⟨a,r,c,g⟩:=I.tuple b;refine SeqAt.in_tupleAt (eqU x) c (λw hw=>qY d e r fs w (by simpa using hw)) ⟨.bl _,H,I,rfl,?_⟩;rw[show a.toArray.any (eqU x)=a.any (eqU x) by simp,aQf r fs];exact q
theorem W7:OpR X (cQN .NotIn) (rIn X.K true):=by
 intro pins s σ H x y v u Q I d f h;obtain⟨p,xs,rfl,b,e,fs,q⟩:=h;cases f;rcases b with b|b
 ·obtain⟨a,r,c,g⟩:=I.list b;refine SeqAt.notIn_listAt (eqU x) c.isList (λw hw=>qY d e r fs w (by simpa using hw)) ⟨.bl _,H,I,rfl,?_⟩;rw[show a.toArray.any (eqU x)=a.any (eqU x) by simp,aQf r fs];exact q
 ·obtain⟨a,r,c,g⟩:=I.tuple b;refine SeqAt.notIn_tupleAt (eqU x) c (λw hw=>qY d e r fs w (by simpa using hw)) ⟨.bl _,H,I,rfl,?_⟩;rw[show a.toArray.any (eqU x)=a.any (eqU x) by simp,aQf r fs];exact q
theorem yO:qD X (.builtin "len") (λxs H Q=>∃p ys,xs= [.ref p]/\(SqL X.K H p ys\/SqT X.K H p ys)/\Q (.int ys.length) H):=by
 intro pins s σ H xs j Q I r h;obtain⟨p,ys,rfl,b,q⟩:=h;obtain⟨u,rfl,f⟩:=aQ6 r;cases f;have i:=aZM;rcases b with b|b
 ·obtain⟨c,d,e,g⟩:=I.list b;have a:=d.length;exact Calls.call_len_list e.isList (by simp only[bYA]<;> omega) ⟨.int ys.length,H,I.tok _,⟨s.toks+1,by rw[bYA,a]⟩,q⟩
 ·obtain⟨c,d,e,g⟩:=I.tuple b;have a:=d.length;exact len_tuple e (by simp only[bYA]<;> omega) ⟨.int ys.length,H,I.tok _,⟨s.toks+1,by rw[bYA,a]⟩,q⟩
theorem uR:qD X (.type "list") (λxs H Q=>∃p ys,xs= [.ref p]/\(SqL X.K H p ys\/SqT X.K H p ys)/\∀l,H l=none->Q (.ref l) (upd H l (.lst ys))):=by
 intro pins s σ H xs y Q I r h;obtain⟨p,ys,rfl,i,q⟩:=h;obtain⟨u,rfl,x⟩:=aQ6 r;cases x;have fin:∀ (a:List bYh),xV ys a->ys.length<=bYJ->∀ (h':Heap)(d:Nat),(∀b o',s.heap.get? b=some o'->h'.get? b=some o')->
   h'.get? s.heap.objs.size=some {cls:= .type "list",dict:=none,data:= .seq a.toArray d,slots:= #[] }->EP X pins σ Q (.ref s.heap.objs.size) {s with heap:=h'}:=λa c j h' d f e=>
  ⟨.ref s.heap.objs.size,_,I.laid (t':=s.toks) f (bYo _) (show zE X.prog X.w _ h' _ (.lst ys)from⟨j,a,d,c,e⟩),rfl,q _ (I.hok.fresh (bYo _))⟩
 rcases i with i|i
 ·obtain⟨a,c,t,j⟩:=I.list i;have g:=c.length;obtain⟨o,m,v,n,k⟩:=t.isList;exact call_list_seq p (.inl rfl) m v k (λh' d f e=>fin a c j h' d f e) (by simp only[bYA]<;> omega)
 ·obtain⟨a,c,t,j⟩:=I.tuple i;have g:=c.length;obtain⟨o,m,v,n,k⟩:=t;exact call_list_seq p (.inr rfl) m v k (λh' d f e=>fin a c j h' d f e) (by simp only[bYA]<;> omega)
theorem qT:qD X (.type "tuple") (λxs H Q=>∃p ys,xs= [.ref p]/\((SqL X.K H p ys/\∀l,H l=none->Q (.ref l) (upd H l (.tup ys)))\/(SqT X.K H p ys/\Q (.ref p) H))):=by
 intro pins s σ H xs t Q I r h;obtain⟨p,ys,rfl,h⟩:=h;obtain⟨u,rfl,n⟩:=aQ6 r;cases n;rcases h with⟨d,q⟩|⟨d,q⟩
 ·obtain⟨a,c,f,i⟩:=I.list d;have g:=c.length;refine call_tuple_list f.isList (λh' k=>?_) (by simp only[bYA]<;> omega);have j:Inv X pins σ H {s with heap:=h'}:=I.kept (t':=s.toks) k;have m:Inv X pins σ (upd H h'.objs.size (.tup ys)) {s with heap:=h'.push {cls:= .type "tuple",data:= .seq a.toArray} }:=
   j.laid (t':=s.toks) (λb o e=>bYm _ e) (bYo _) (show zE X.prog X.w _ _ _ (.tup ys)from⟨i,a,c,IsTup.new _ _⟩)
  exact⟨.ref h'.objs.size,_,m,rfl,q _ (j.hok.fresh (bYo _))⟩
 ·obtain⟨a,c,f,i⟩:=I.tuple d;exact call_tuple_same f ⟨.ref p,H,I,rfl,q⟩
def tyV(K:bYj)(T:String)(x:V)(H:Hp):Prop:=match x with
 |.str _=>T="str"
 |.int _=>T="int"
 |.ref p=>(T="list"/\∃xs,SqL K H p xs)\/(T="tuple"/\∃o,K.lookup p=some o/\o.cls= .type "tuple"/\o.dict=none)\/
   (T="dict"/\((∃a,H p=some (.dK a))\/∃a,H p=some (.dT a)))\/(T="set"/\∃S n,H p=some (.set S n))
 |_=>False
theorem bJp{pins:List (Addr×Obj)}{σ:St}{H:Hp}{s:bYk}{T:String}{x:V}{v:bYh}(I:Inv X pins σ H s)(r:zM x v)(ty:tyV X.K T x H): s.TypeIs v T/\∀a,v= .ref a->∃j,s.heap.get? a=some j/\j.dict=none:=by
 cases x with
 |str z=>obtain⟨t,rfl⟩:=r;cases (show T="str" from ty);exact⟨typeIs_str s z t,λ_ e=>nomatch e⟩
 |int i=>obtain⟨t,rfl⟩:=r;cases (show T="int" from ty);exact⟨typeIs_int s i t,λ_ e=>nomatch e⟩
 |ref p=>
  cases r;rcases ty with⟨rfl,xs,l⟩|⟨rfl,o,b,m,d⟩|⟨rfl,b⟩|⟨rfl,S,n,b⟩
  ·obtain⟨k,_,h,_⟩:=I.list l;refine⟨h.isList.typeIs,λa e=>?_⟩;cases e;obtain⟨o,n,e,c,d,_⟩:=h;exact⟨o,e,d⟩
  ·refine⟨⟨o,I.kIn p o b,m⟩,λa e=>?_⟩;cases e;exact⟨o,I.kIn _ o b,d⟩
  ·have z:∃o,s.heap.get? p=some o/\o.ExactDict:=by
    rcases b with⟨g,b⟩|⟨g,b⟩
    ·obtain⟨_,_,_,_,o,_,_,e,ex,_⟩:=I.hok p _ b;exact⟨o,e,ex⟩
    ·obtain⟨_,_,_,_,o,_,_,e,ex,_⟩:=I.hok p _ b;exact⟨o,e,ex⟩
   obtain⟨o,e,ex⟩:=z;refine⟨⟨o,e,ex.1⟩,λa f=>?_⟩;cases f;exact⟨o,e,ex.2.1⟩
  ·obtain⟨o,_,_,_,e,ex,_⟩:=I.hok p _ b;refine⟨⟨o,e,ex.1⟩,λa f=>?_⟩;cases f;exact⟨o,e,ex.2.1⟩
 |_=>exact cQO ty
def bYb(K:bYj)(T:String)(r:V->List V->Hp->VK->Prop)(to:TE):TE:=λσ H Q=>to σ H λx H1=>tyV K T x H1/\r x [] H1 Q
def tBM(K:bYj)(T:String)(r:V->List V->Hp->VK->Prop)(to:TE)(t:TA):TE:=λσ H Q=>to σ H λx H1=>tyV K T x H1/\t σ H1 λxs H2=>r x xs H2 Q
variable {o e:Expr}{es:List Expr}{to:TE}{t:TA}{name:Str}{apos cpos:Pos}{T id:String}{r:V->List V->Hp->VK->Prop}
theorem aYO(e:PlainAttrs T)(c:Slot T name id)(d:typeOf (.builtin id)=pure (.type "method_descriptor"))(f:MtR X id r)(g:PE X o to) (a:cX4 o name X.env (eval o X.env)=eval o X.env:=by rfl) (b:(apos.endLine==cpos.line)=true:=by rfl):PE X (.Call (.Attribute o name apos) [] [] cpos) (bYb X.K T r to):=by
 intro pins s σ H Q I h;refine wpAny_Call_method0_late a b (thn (g pins s σ H _ I h) λv s1 ⟨x,H1,I1,r1,ty,q1⟩=>?_);obtain⟨h1,h2⟩:=bJp I1 r1 ty;exact⟨T,id,e,c,d,h1,h2,Calls.callWith_builtin rfl (PySem.evalArgs_none (f pins s1 σ H1 x [] v [] Q I1 r1 .nil q1))⟩
theorem vM(m:PlainAttrs T)(f:Slot T name id)(g:typeOf (.builtin id)=pure (.type "method_descriptor"))(n:MtR X id r)(k:PE X o to)(j:PA X (e::es) t)
  (b:cX4 o name X.env (eval o X.env)=eval o X.env:=by rfl)
  (d:((cQV cpos (bYX (e::es) X.env)).all (λx=> !x.1) && (cZr cpos (cXD [] X.env)).all (λx=>x.1.isSome) && decide ((e::es).length+([]:List Keyword).length+(if([]:List Keyword).isEmpty then 0 else 1)<30))=true:=by rfl)
  (c:(apos.endLine==cpos.line)=true:=by rfl) (l:bYX (e::es) X.env=(false,eval e X.env)::bYX es X.env:=by rfl) (a:(cQV cpos (bYX es X.env)).any (·.1)=false:=by rfl):
  PE X (.Call (.Attribute o name apos) (e::es) [] cpos) (tBM X.K T r to t):=by
 intro pins s σ H Q I h
 refine wpAny_Call_method_late b d c rfl (thn (k pins s σ H _ I h) λv s1 ⟨x,H1,I1,r1,ty,q1⟩=>?_)
 obtain⟨h1,h2⟩:=bJp I1 r1 ty
 refine⟨T,id,m,f,g,h1,h2,?_⟩
 have i:=j cpos pins s1 σ H1 _ I1 q1
 rw[l]at i ⊢
 refine Calls.callWith_builtin (by show(false || (cQV cpos (bYX es X.env)).any (·.1))=false;rw[a]<;> rfl) (Calls.evalArgs_plain ?_)
 exact thn i λus s2 ⟨vs,H2,I2,r2,q2⟩=>n pins s2 σ H2 x vs v us Q I2 r1 r2 q2
end
end L2
namespace L2
open PySem PySem.Spec PyProof.Rows
def MtM(X:Cx)(id:String)(r:V->List V->Hp->VK->Prop):Prop:=
 ∀ (pins:List (Addr×Obj))(s:bYk)(σ:St)(H:Hp)(x:V)(xs:List V)(v:bYh)(a:List bYh)(Q:VK),Inv X pins σ H s->zM x v->xV xs a->r x xs H Q->
  bYp (bYr X.prog X.w) X.A (call (.builtin id) (v::a)) (EP X pins σ Q) X.xe s
theorem xV.one:∀ {x:V} {us:List bYh},xV [x] us->∃u,us= [u]/\zM x u
 |_,_,.cons r .nil=>⟨_,rfl,r⟩
theorem xV.two:∀ {x y:V} {us:List bYh},xV [x,y] us->∃u v,us= [u,v]/\zM x u/\zM y v
 |_,_,_,.cons r (.cons q .nil)=>⟨_,_,rfl,r,q⟩
theorem xV.zero:∀ {us:List bYh},xV [] us->us= []
 |_,.nil=>rfl
theorem xV.dropLast{xs:List V}{us:List bYh}(h:xV xs us):xV xs.dropLast us.dropLast:=by
 induction h with
 |nil=>exact .nil
 |cons r t a=>
  cases t with
  |nil=>exact .nil
  |cons q b=>exact .cons r a
theorem xV.reverse{xs:List V}{us:List bYh}(h:xV xs us):xV xs.reverse us.reverse:=by
 induction h with
 |nil=>exact .nil
 |cons r t a=>rw[List.reverse_cons,List.reverse_cons];exact xV.append a (.cons r .nil)
theorem aWy{α:Type}(l:List α):l.eraseIdx (l.length - 1)=l.dropLast:=by
 induction l with
 |nil=>rfl
 |cons a r c=>
  cases r with
  |nil=>rfl
  |cons b r=>
   have e:(a::b::r).length - 1=((b::r).length - 1)+1:=by have h1:(a::b::r).length=r.length+2:=rfl;have h2:(b::r).length=r.length+1:=rfl;omega
   rw[e,List.eraseIdx_cons_succ,c];all_goals rfl
section
variable {X:Cx}{pins:List (Addr×Obj)}{σ:St}{H:Hp}{s:bYk}{l b:Addr}{xs ys zs:List V}
theorem Inv.lset{its its':List bYh}{n:Nat}{f:Array bYh->Array bYh}{t':Nat}(I:Inv X pins σ H s)(g:H l=some (.lst xs)) (e:s.heap.get? l=some {cls:= .type "list",data:= .seq its.toArray n}) (b:f its.toArray=its'.toArray) (d:xV ys its') (c:ys.length<=bYJ): Inv X pins σ (upd H l (.lst ys)) {s with heap:=s.heap.update l (cQb f),toks:=t'}:=by
 have q:=PySem.IsL.update e f;rw[b]at q;refine I.write (x:=l) (e:=l) (by rw[g];exact trivial) (.inl rfl) (λi u h a=>(bYV s.heap (cQb f) (bY0 h)).trans a) ⟨_,q⟩ ?_;exact⟨c,its',_,d,q⟩
theorem Inv.lnew{its:List bYh}{t':Nat}(I:Inv X pins σ H s)(a:xV ys its)(hz:ys.length<=bYJ): Inv X pins σ (upd H s.heap.objs.size (.lst ys)) {s with heap:=s.heap.push {cls:= .type "list",data:= .seq its.toArray},toks:=t'}:=
 I.laid (λ_ _ q=>bYm _ q) (bYo _) ⟨hz,its,0,a,bYM _ rfl⟩
theorem Inv.fresh(I:Inv X pins σ H s):H s.heap.objs.size=none:=I.hok.fresh (bYo _)
theorem Inv.lstM(I:Inv X pins σ H s)(a:H l=some (.lst xs)):xs.length<=bYJ/\∃ (its:List bYh)(n:Nat),xV xs its/\xs.length=its.length/\s.heap.get? l=some {cls:= .type "list",data:= .seq its.toArray n}:=by
 obtain⟨z,its,n,r,e⟩:=I.hok l _ a;exact⟨z,its,n,r,r.length,e⟩
theorem bXC{n:Nat}(h:n<=bYJ):cZD n=false:=by
 unfold cZD;exact decide_eq_false (by omega)
end
section
variable {X:Cx}
def aYU:V->List V->Hp->VK->Prop:=λx a H Q=>∃l xs y,x= .ref l/\a= [y]/\H l=some (.lst xs)/\xs.length<bYJ/\Q .non (upd H l (.lst (xs++ [y])))
theorem xD:MtM X "list.append" aYU:=by
 intro pins s σ H x g v j Q I f d h;obtain⟨l,xs,y,rfl,rfl,b,i,q⟩:=h;cases f;obtain⟨u,rfl,c⟩:=d.one;obtain⟨z,a,n,r,hl,e⟩:=I.lstM b;refine call_meets F.slot_list_append ⟨_,e,rfl⟩ F.entry_list_append (F.args_list_append_2 _ _) (PySem.list_append l a.toArray n u (by rw[bYA];omega)) ⟨e,?_⟩;refine⟨.non,_,I.lset (its':=a++ [u]) b e (by simp) (r.append (.cons c .nil)) ?_,rfl,q⟩;rw[bYE,cQt];omega
def bVl:V->List V->Hp->VK->Prop:=λx a H Q=>∃l b xs zs,x= .ref l/\a= [.ref b]/\H l=some (.lst xs)/\H b=some (.lst zs)/\xs.length+zs.length<=bYJ/\Q .non (upd H l (.lst (xs++zs)))
theorem aYn:MtM X "list.extend" bVl:=by
 intro pins s σ H x y v B Q I p m h;obtain⟨l,b,xs,zs,rfl,rfl,g,j,A,q⟩:=h;cases p;obtain⟨u,rfl,i⟩:=m.one;cases i;obtain⟨z,c,n,r,hl,e⟩:=I.lstM g;obtain⟨z2,a,t,o,w,k⟩:=I.lstM j;have f:c.toArray.size+a.toArray.size<=bYJ:=by rw[bYA,bYA];omega
 have d:¬ (!c.toArray.isEmpty && cZD (c.toArray.size+a.toArray.size))=true:=by rw[bXC f,Bool.and_false];exact Bool.false_ne_true
 refine call_meets F.slot_list_extend ⟨_,e,rfl⟩ F.entry_list_extend (F.args_list_extend_2 _ _)
  (AutoSeq1.list_extend_list_list_0 l c.toArray n b a.toArray t d (by rw[bYA];omega) (by omega)) ⟨e,k,?_⟩
 refine⟨.non,_,I.lset (its':=c++a) g e (by simp) (r.append o) ?_,rfl,q⟩;rw[bYE];omega
def bK6:V->List V->Hp->VK->Prop:=λx a H Q=>∃l xs y,x= .ref l/\a= []/\H l=some (.lst xs)/\xs[xs.length - 1]? =some y/\Q y (upd H l (.lst xs.dropLast))
theorem aYo:MtM X "list.pop" bK6:=by
 intro pins s σ H x m v o Q I i g h;obtain⟨l,xs,y,rfl,rfl,d,j,q⟩:=h;cases i;have b:=g.zero;subst b;obtain⟨z,a,n,r,hl,e⟩:=I.lstM d;obtain⟨u,k,f⟩:=r.get j;have c:a.toArray[a.toArray.size - 1]? =some u:=by show a.toArray[a.length - 1]? =some u;rw[<- cQQ,<- hl];exact k
 refine call_meets F.slot_list_pop ⟨_,e,rfl⟩ F.entry_list_pop (F.args_list_pop_1 _) (MeetsSeq.list_pop_last l a.toArray n u c (by rw[bYA];omega)) ⟨e,?_⟩;refine⟨y,_,I.lset (its':=a.dropLast) d e ?_ r.dropLast ?_,f,q⟩
 ·show a.toArray.eraseIdxIfInBounds (a.toArray.size - 1)=a.dropLast.toArray;rw[bYA,List.eraseIdxIfInBounds_toArray,aWy]
 ·rw[List.length_dropLast];omega
def bK5:R2:=λx y H Q=>∃l b xs zs,x= .ref l/\y= .ref b/\H l=some (.lst xs)/\H b=some (.lst zs)/\xs.length+zs.length<=bYJ/\∀p,H p=none->Q (.ref p) (upd H p (.lst (xs++zs)))
theorem aZS:OpR X (cXY .Add) bK5:=by
 intro pins s σ H x y v u Q I j o h;obtain⟨l,b,xs,zs,rfl,rfl,k,f,t,q⟩:=h;cases j;cases o;obtain⟨z,c,n,r,hl,e⟩:=I.lstM k;obtain⟨z2,a,p,i,m,g⟩:=I.lstM f;refine PySem.P.add_list e g ?_ (by rw[bYA,bYA];omega);have d:c.toArray++a.toArray=(c++a).toArray:=by simp
 rw[d];exact⟨.ref _,_,I.lnew (t':=s.toks) (r.append i) (by rw[bYE];omega),rfl,q _ I.fresh⟩
end
section
variable {prog:bYD}{w:bYL}{A:bYZ}{E:bYh->bYk->Prop}{s:bYk}
end
section
variable {X:Cx}
end
end L2
namespace Att
open PySem PySem.W PySem.Calls PyProof.Rows
theorem aQk{P:Params}{h:Heap}:∀ (c:List Int)(vs:List bYh),WellAll P h vs (c.map WData.int)->cXO vs c:=by
 intro c;induction c with
 |nil=>intro vs w;rw[List.map_nil]at w;cases w;exact .nil
 |cons n c d=>
  intro vs w;rw[bY4]at w;cases w with
  |cons a b=>cases a;exact .cons _ _ (d _ b)
theorem bQw{l:OpenLaw}{n:Nat}(w:l.most=some n){P:Params}{h:Heap}{args:List WData}{vals:List bYh} (c:l.row.toRowW.claim.pre args=true) (k:WellAll P h vals args): ∃a m b,vals= [Value.ref a]/\args= [WData.list (b.map WData.int)]/\h.get? a=some {cls:= .type "list",data:= .seq m.toArray}/\cXO m b/\b.length<=n:=by
 have j:WShape.hasAll [] args [.list .int]=true:=(pre_splitW c).1;have o:l.pre.holds [] {args:=args}=true:=(pre_splitW c).2;obtain⟨d,r,rfl,h1,h2⟩:=hasAllW_cons j;obtain rfl:=hasAllW_nil h2;obtain⟨xs,rfl,u⟩:=hasW_list h1;obtain⟨b,rfl⟩:=items_int u;have e:b.length<=n:=by
  unfold OpenLaw.pre at o;have i:(WTm.not (.lt (.lit (.int (n:Int))) (.len (.arg 0)))).holds [] {args:= [.list (b.map .int)] }=true:=by have i:=(holds_andW o).1;rw[w]at i;exact i
  have g:=condW_of i (w_not (w_lt w_lit (w_len_list (w_arg rfl))));rw[bYl]at g;refine Nat.le_of_not_lt λq=>?_;have t:(n:Int)<((b.length:Nat):Int):=by omega
  first
   |(rw[decide_eq_true t]at g;exact absurd g (by decide))
   |(simp at g;omega)
 cases k with
 |cons s v=>
  cases v;cases s with
  |list p f=>exact⟨_,_,b,rfl,rfl,p,aQk b _ f,e⟩
theorem aYR(l:OpenLaw)(args:List WData):l.row.toRowW.claim.post args (.bool true) args=true:=
 postW_of (r:=l.row.toRowW) (X:=(true==true))
  (show WShape.has [] (.bool true) .bool=true by first|rfl|decide|simp[WShape.has,WShape.arms,WShape.armsAll])
  (show(WTm.eq .res (.lit (.bool true))).value [] {args:=args,res:=some (.bool true),after:=args}=some (.bool (true==true))from w_eq_bool (w_res rfl) w_lit) rfl
theorem aJt{l:OpenLaw}{n:Nat}{q:bYD}{loose:List Str}{A:(Str->Option bYh)->Heap->Prop}{B:bYL->Heap->Prop}{d:DefRec} (J:l.most=some n) (v:d.params.defaults= []) (call:∀ (w:bYL)(s₀ b:bYk)(mg s:Str->Option bYh)(g:Addr)(o:Obj)(x m c:bYh)(a:Addr)(vs:List bYh)(k:List Int), Ground q loose [] A w s₀ mg s b.heap->B w b.heap-> b.heap.get? g=some o->o.data= .func (docDef d.name d.params d.body d.scope x m c)->b.heap.CodeRec m d.name->mg d.name=some (.ref g)-> b.heap.get? a=some {cls:= .type "list",data:= .seq vs.toArray}->cXO vs k->k.length<=n->b.gens= #[]-> cXA (bYr l.prog w) callerA (.call (.ref g) ⟨[.ref a],[]⟩) (λr s'=>r= .ok (.ret (.bool true))/\OldK b.heap s'.heap/\s'.os=b.os/\AllBare s'.gens) b): WalkO q loose A B l.row.toRowW d [] (λf vs=>PySem.call f vs):=by
 intro w s₀ b mg s G Y g o x m c D kV E C u y p N args vals O h z M t K;obtain rfl:D= .none:=Dflts.none y v;obtain rfl:kV= .none:=Dflts.noKw y;obtain⟨a,vs,k,rfl,rfl,j,e,i⟩:=bQw J h t;refine enter_call (cXa (call w s₀ b mg s g o x m c a vs k G Y E (fd_plain C) u p j e i N) λr s' H=>?_);obtain⟨rfl,h2,F,I⟩:=H;exact⟨.inl ⟨.bool true,.bool true,[],rfl,λ_=>rfl,.bool true,aYR l _,λ_=>⟨List.Pairwise.nil,λ_ L=>(nomatch L)⟩⟩,h2,F,I⟩
section
variable {prog:bYD}{w:bYL}{A:bYZ}{E:bYh->bYk->Prop}{s:bYk}{K:Frag}
end
end Att
namespace L2
open PySem PySem.Spec PyProof.Rows
theorem jC:∀ {vs:List bYh} {a:List Int},cXO vs a->xV (a.map V.int) vs
 |_,_,.nil=> .nil
 |_,_,.cons n t h=> .cons ⟨t,rfl⟩ (jC h)
end L2
namespace L2
open PySem PySem.Spec PyProof.Rows
end L2
namespace L2
open PySem PySem.Spec PyProof.Rows
def zZ(s:Stmt):Arguments:=match s with
 |.FunctionDef _ a _ _ _ _ _ _ _ _=>a
 |_=>{posonlyargs:= [],args:= [],vararg:=none,kwonlyargs:= [],kw_defaults:= [],kwarg:=none,defaults:= [] }
def zI(s:Stmt):List Stmt:=match s with
 |.FunctionDef _ _ b _ _ _ _ _ _ _=>b
 |_=> []
def yH(s:Stmt):cXx:=match s with
 |.FunctionDef _ _ _ _ _ _ a _ _ _=>a
 |_=>{kind:= .function,names:= [],isGenerator:=false,isCoroutine:=false}
abbrev CX0:CXT:=λ_ _ _ _ _ _=>False
abbrev E0:XK:=λ_ _ _=>False
theorem v0{X:Cx}:vP CX0 X E0:=λ_ _ _ _ _ _ _ h=>h.elim
structure Fun(K:bYj)(x qual:Str)(st:Stmt)(f:Addr)(fd:cXg):Prop where
 ex:∃ (oc:bYh)(od:Option Addr)(kV doc pm:bYh)(an:Option Addr)(cdv ct:bYh)(osl:Array (Option bYh)),
  fd=cQD x qual (zZ st) (zI st) (yH st) .none kV doc pm an cdv ct/\K.lookup f=some ⟨oc,od,.func fd,osl⟩/\cQ0 K cdv qual=true
 kp:cQd K (.ref f)=true
section
variable {P:bYD}{w:bYL}{K:bYj}{mg:Str->Option bYh}{base:Heap}
theorem Fun.ok{x qual:Str}{st:Stmt}{f:Addr}{fd:cXg}{N ps:List Str}{k:Nat}{sp:Sp}(F:Fun K x qual st f fd)(S:yN N ps (yH st)) (b:∀ (a:bYh)(A:bYZ)(outer:List Env)(s:bYk)(H:Hp)(vs:List V)(Q:VK)(E:XK),vW k (A.deeper (cXf qual (yH st) s.heap.objs.size f a))->sp vs H Q E-> ∃t,PSs (aXC CX0 P w K mg base N qual (yH st) f a A outer s H E).nox (zI st) t/\t {nx:=λ_ H'=>Q .non H',rt:=Q} (start N vs) H) (len:∀vs H Q E,sp vs H Q E->vs.length=ps.length:=by intro _ _ _ _ h;repeat (first|(obtain⟨rfl,_⟩:=h;exact rfl)|(obtain⟨_,h⟩:=h))):xE P w K mg base CX0 (k+1) f fd ps sp:=by
 obtain⟨n,j,kV,g,m,l,a,ct,e,rfl,lk,d⟩:=F.ex;refine bJJ lk d S len λA outer s H vs Q E i c=>?_;obtain⟨t,h,q⟩:=b a A outer s H vs Q E i c;exact⟨t,h.nox,q⟩
theorem Fun.binds{x qual:Str}{st:Stmt}{f:Addr}{fd:cXg}{ps:List Str}(F:Fun K x qual st f fd) (h:∀ (kV a d:bYh)(c:Option Addr)(b ct:bYh)(us:List bYh),us.length=ps.length->bindArgs (cQD x qual (zZ st) (zI st) (yH st) .none kV a d c b ct) ⟨us,[]⟩=pure (ps.zip us)):v6 K fd ps []:=by
 obtain⟨j,i,kV,a,d,c,b,ct,e,rfl,lk,g⟩:=F.ex;exact .all (h kV a d c b ct)
theorem aXm{x qual:Str}{st:Stmt}{f:Addr}{i:bYh}{h g:Option Addr}{d:Array (Option bYh)}{kV b e a ct:bYh}(l:K.lookup f=some ⟨i,h,.func (cQD x qual (zZ st) (zI st) (yH st) .none kV b e g a ct),d⟩)
  (c:cQ0 K a qual=true) (k:cQd K (.ref f)=true):Fun K x qual st f (cQD x qual (zZ st) (zI st) (yH st) .none kV b e g a ct):=⟨⟨i,h,kV,b,e,g,a,ct,d,rfl,l,c⟩,k⟩
end
theorem bWs{A:bYZ}{k:Nat}(a:vW k A):A.units+1<cLine:=Nat.lt_of_le_of_lt (Nat.add_le_add_left (by decide:1<=64) _) a.units
section
variable {X:Cx}
theorem pv(i:Nat){x:Str}{pos:Pos}(c:X.N[i]? =some x:=by rfl)(d:Vis X.env.scope x:=by first|exact Or.inl rfl|exact Or.inr (Or.inl rfl)|exact Or.inr (Or.inr rfl))(b:(x==("__debug__":Str))=false:=by decide)
  (a:(x==("__classdict__":Str))=false:=by decide):PE X (.Name x pos) (bVZ i):=bJb c d b a
end
theorem qA{c A B:Prop} [Decidable c] (h1:c->A)(h2:¬c->B):if c then A else B:=by
 by_cases h:c
 ·rw[if_pos h];exact h1 h
 ·rw[if_neg h];exact h2 h
def xC(H H':Hp):Prop:=∀b o,H b=some o->H' b=some o
theorem xC.refl(H:Hp):xC H H:=λ_ _ h=>h
theorem xC.trans{H H1 H2:Hp}(a:xC H H1)(b:xC H1 H2):xC H H2:=λc o h=>b c o (a c o h)
theorem xC.seq{K:bYj}{H H':Hp}{a:Addr}{xs:List V}(e:xC H H')(h:SqL K H a xs):SqL K H' a xs:=by
 rcases h with(h|⟨o,h⟩)|h
 ·exact .inl (.inl (e _ _ h))
 ·exact .inl (.inr ⟨o,e _ _ h⟩)
 ·exact .inr h
end L2
namespace L2
open PySem
theorem scM{N P:List Str}{sc:Scope}(h:decide (sc.kind=.function/\sc.isCoroutine=false/\sc.isGenerator=false/\N.Nodup/\N.take P.length=P/\(∀x∈P,sc.names.lookup x=some .local\/sc.names.lookup x=some .cell)/\∀y∈sc.names,y.2≠.free)=true:=by decide +kernel):yN N P sc:=
 have z:=of_decide_eq_true h;⟨z.1,z.2.1,z.2.2.1,z.2.2.2.1,z.2.2.2.2.1,z.2.2.2.2.2.1,z.2.2.2.2.2.2⟩
end L2
namespace L2
open PySem PySem.Spec PyProof.Rows
def qU(env:Env)(l:List (Str×cZq))(cs:List (Str×Nat)):Sem (List (Str×Nat)):=do
 let mut cs:=cs
 for (name,kind)in l do
  if kind== .free then cs:=(name,<- cellOf env name)::cs
 return cs
theorem aWr(env:Env)(cs:List (Str×Nat)):qU env [] cs=pure cs:=by simp[qU]
theorem aJx{env:Env}{n:Str}{c:Nat}{r:List (Str×cZq)}{cs:List (Str×Nat)}(h:env.cells.lookup n=some c):qU env ((n,.free)::r) cs=qU env r ((n,c)::cs):=by
 have e:cellOf env n=pure c:=by unfold cellOf;rw[h]
 simp[qU,e]
theorem aZr{env:Env}{n:Str}{k:cZq}{r:List (Str×cZq)}{cs:List (Str×Nat)}(h:k≠ .free):qU env ((n,k)::r) cs=qU env r cs:=by
 simp[qU,h]
theorem aJy{env:Env}:∀ (l:List (Str×cZq))(cs:List (Str×Nat)),(∀y∈l,y.2= .free->∃c,env.cells.lookup y.1=some c)->(∀y c,cs.lookup y=some c->env.cells.lookup y=some c)->
  ∃cl,qU env l cs=pure cl/\(∀y c,cl.lookup y=some c->env.cells.lookup y=some c)/\(∀y,(∃c,cs.lookup y=some c)->∃c,cl.lookup y=some c)/\(∀y,(y,NameKind.free)∈l->∃c,cl.lookup y=some c)
 |[],cs,_,h=>⟨cs,aWr env cs,h,λ_ z=>z,λ_ z=>by cases z⟩
 |(n,k)::r,cs,hl,h=>by
  by_cases f:k= .free
  ·subst f;obtain⟨c,o⟩:=hl (n,.free) bYw rfl;obtain⟨cl,i,j,d,g⟩:=aJy r ((n,c)::cs) (λy a=>hl y (bYt _ a)) (λy b e=>by
    rw[cQ7]at e;split at e
    ·rename_i z;cases e;rw[beq_iff_eq.mp z];exact o
    ·exact h y b e)
   have m:∀y,(∃c,cs.lookup y=some c)->∃b,((n,c)::cs).lookup y=some b:=λy ⟨b,e⟩=>by
    rw[cQ7];split
    ·exact⟨_,rfl⟩
    ·exact⟨b,e⟩
   refine⟨cl,by rw[aJx o];exact i,j,λy z=>d y (m y z),λy a=>?_⟩;rcases bYq.mp a with e|a
   ·cases e;exact d _ ⟨c,by rw[cQ7,beq_self_eq_true]⟩
   ·exact g y a
  ·obtain⟨cl,i,j,d,g⟩:=aJy r cs (λy a=>hl y (bYt _ a)) h;refine⟨cl,by rw[aZr f];exact i,j,d,λy a=>?_⟩;rcases bYq.mp a with e|a
   ·cases e;exact absurd rfl f
   ·exact g y a
abbrev blk(X:Cx)(N:List Str)(sc:cXx)(cl:List (Str×Nat))(C:Nat)(s:bYk)(H:Hp)(ex:List Nat):Cx:=
 {X with N:=N,s₀:=s,H₀:=H,env:=compEnvC sc cl C X.env,outer:=X.stack,ex:=ex,fn:=λ_=>false,pn:= [],xe:=λ_ _=>False}
def sub(σ:St)(fr:List Nat)(o:Option V):St:=o::fr.map λi=>(σ[i]?).join
structure xO(N:List Str)(osc:cXx)(x:Str)(names:List Str)(fr:List Nat)(sc:cXx):Prop where
 kind:sc.kind= .function
 nocell:∀y∈sc.names,y.2≠ .cell
 loc:∀y∈sc.names,y.2= .local->sc.names.lookup y.1=some .local
 var:sc.names.lookup x=some .local
 free:∀y∈sc.names,y.2= .free->osc.names.lookup y.1=some .cell\/osc.names.lookup y.1=some .free
 flk:∀y∈sc.names,y.2= .free->sc.names.lookup y.1=some .free
 nd:(x::names).Nodup
 len:fr.length=names.length
 taken:∀p∈names.zip fr,N[p.2]? =some p.1/\(p.1,NameKind.free)∈sc.names
theorem xO.from_{N:List Str}{b sc:cXx}{x:Str}{names:List Str}{fr:List Nat}(S:xO N b x names fr sc)(j:Nat)(y:Str)(h:names[j]? =some y):∃i,fr[j]? =some i/\N[i]? =some y/\(y,NameKind.free)∈sc.names:=by
 have e:j<names.length:=(bYs.mp h).1;have a:j<fr.length:=by rw[S.len];exact e
 have z:(names.zip fr)[j]? =some (y,fr[j]):=by rw[List.getElem?_zip_eq_some];exact⟨h,bYg a⟩
 obtain⟨c,d⟩:=S.taken _ (bYz z);exact⟨fr[j],bYg a,c,d⟩
def bWd(X:Cx)(ifs:List Expr)(t:TT):Prop:=
 ∀ (pins:List (Nat×Obj))(s:bYk)(σ:St)(H:Hp)(Q:Bool->Hp->Prop),Inv X pins σ H s->t σ H Q->
  bYp (bYr X.prog X.w) X.A (forIn ifs true λc r=>if r=true then do let ok <- isTrue c X.env (eval c X.env);pure (cZX ok)else pure (cZX r)) (TP X pins σ Q) X.xe s
def bKW:TT:=λ_ H Q=>Q true H
theorem wK{X:Cx}:bWd X [] bKW:=λpins s σ H Q I h=>by
 simp only[List.forIn_nil];exact bYn ⟨H,I,h⟩
theorem w6{X:Cx}{c:Expr}{a:TT}(d:PT X c a):bWd X [c] a:=λpins s σ H Q I h=>by
 simp only[cZZ,List.forIn_nil,if_true,bind_assoc,pure_bind];refine bYi (thn (d pins s σ H Q I h) λb e z=>?_);exact bYn z
def bV5(J:It)(fr:List Nat)(tif:TT)(te:TE)(σ:St)(D:Nat)(Q:VK)(g:Hp):Prop:=
 ∃W:Nat->Nat->List V->Hp->Prop,(∃m,W 0 m [] g)/\∀i m a H,W i m a H->H D=some (.lst a)/\
  ((J.stop i H/\Q (.ref D) H)\/(J.go i H/\∀v f,J.yld i H v f->tif (sub σ fr (some v)) f λb e=>
   if b=true then te (sub σ fr (some v)) e λy d=>a.length<bYJ/\d D=some (.lst a)/\∃c,c<m/\W (i+1) c (a++ [y]) (upd d D (.lst (a++ [y])))
   else ∃c,c<m/\W (i+1) c a e))
def tLc(wi:TI)(fr:List Nat)(tif:TT)(te:TE):TE:=λσ H Q=>wi σ H λJ a=>∀D,a D=none->bV5 J fr tif te σ D Q (upd a D (.lst []))
theorem aXu{env:Env}:∀ {names:List (Str×cZq)} {y:Str},names.lookup y=some .free->
  (names.map λ(n,k)=>if(k==NameKind.free && env.scope.kind== .function && env.kindOf n==some .cell)then(n,NameKind.cell)else(n,k)).lookup y=some .cell\/
  (names.map λ(n,k)=>if(k==NameKind.free && env.scope.kind== .function && env.kindOf n==some .cell)then(n,NameKind.cell)else(n,k)).lookup y=some .free
 |[],_,h=>by simp at h
 |(n,k)::r,y,h=>by
  have b:= @aXu env r y;rw[bY4];dsimp only;cases a:y==n with
  |true=>
   rw[cQ7,a]at h;cases h;split
   ·left;rw[cQ7,a]
   ·right;rw[cQ7,a]
  |false=>
   rw[cQ7,a]at h;split
   ·rw[cQ7,a];exact b h
   ·rw[cQ7,a];exact b h
theorem aZZ{env:Env}{sc:cXx}{y:Str}(h:sc.names.lookup y=some .free):(relabel sc env).names.lookup y=some .cell\/(relabel sc env).names.lookup y=some .free:=aXu h
section
variable {X:Cx}{pins:List (Nat×Obj)}{σ:St}{H:Hp}{s:bYk}
theorem bXw{prog:bYD}{w:bYL}{A:bYZ}{R:Result->bYk->Prop}{s:bYk}{elt a iter:Expr}{ifs:List Expr}{scope:cXx}{pos:Pos}{it o:bYh}{env:Env}(I:Nat->bYk->Prop)
  (turn:∀n s,I n s->bYp (bYr prog w) A (pyNext it) (λr e=>match r with
   |none=>R (.ok .next) e
   |some v=>bYp (bYr prog w) A (cZ6 a it v) (λ_ d=>bYp (bYr prog w) A (assign a env v) (λ_ i=>
     bYp (bYr prog w) A (forIn ifs true λc r=>if r=true then do let ok <- isTrue c env (eval c env);pure (cZX ok)else pure (cZX r)) (λok b=>
      if ok=true then bYp (bYr prog w) A (eval elt env) (λx f=>
       bYp (bYr prog w) A (call (.builtin "list.append") [o,x]) (λ_ g=>∃m,m<n/\I m g) (λ_ _=>False) f) (λ_ _=>False) b
      else ∃m,m<n/\I m b) (λ_ _=>False) i) (λ_ _=>False) d) (λ_ _=>False) e) (λ_ _=>False) s)
  (n:Nat) (h:I n s):cXA (bYr prog w) A (.compLoop (.ListComp elt [⟨a,iter,ifs,0⟩] scope pos) 0 it o env) R s:=by
 refine codeAny_loop rfl I (λn s u=>?_) n h
 show bYp _ A ((compTurn (.ListComp elt [⟨a,iter,ifs,0⟩] scope pos) 0 it o env).onRaise (λx=>do cZH x env;theTreesLotGoes x)) _ _ s
 refine wpAny_noted ?_
 rw[compTurn_list]
 refine bYi (cZP (bYi (cQl (turn n s u) (λr e j=>?_) λ_ _ z=>z.elim)))
 cases r with
 |none=>exact bYn j
 |some v=>
  refine bYi (cQl j (λ_ d l=>?_) λ_ _ z=>z.elim);refine bYi (cQl l (λ_ i t=>bYi (cQl t (λok b k=>?_) λ_ _ z=>z.elim)) λ_ _ z=>z.elim);cases ok with
  |false=>exact bYn ⟨rfl,k⟩
  |true=>refine bYi (bYi (cQl k (λx f q=>bYi (cQl q (λ_ g p=>?_) λ_ _ z=>z.elim)) λ_ _ z=>z.elim));exact bYn (bYn ⟨rfl,p⟩)
theorem bZ5{elt iter:Expr}{x:Str}{px:Pos}{ifs:List Expr}{sc:cXx}{pos:Pos}{names:List Str}{fr:List Nat}{tif:TT}{te:TE}{cl:List (Str×Nat)}{E:bYh->bYk->Prop}(S:xO X.N X.env.scope x names fr sc)(hc:X.calm=true)
  (d:∀y c,cl.lookup y=some c->X.env.cells.lookup y=some c) (a0:∀y,(y,NameKind.free)∈sc.names->∃c,cl.lookup y=some c)
  (c4:∀cl C s H ex,bWd (blk X (x::names) sc cl C s H ex) ifs tif) (he:∀cl C s H ex,PE (blk X (x::names) sc cl C s H ex) elt te)
  {J:It} {it:Nat} {f:List Nat} {tn:Nat->Heap->Prop} {Q:VK} (I:Inv X pins σ H s) (T:bKe X.prog X.w X.K (.Name x px) J f it tn) (st:tn 0 s.heap) (hf:∀b∈f,bZT X pins H b)
  (q:∀D,H D=none->bV5 J fr tif te σ D Q (upd H D (.lst []))) {RR:bYh->Nat->Result->bYk->Prop}
  (c7:∀D C B g,Inv X pins σ g B->g C=none->C≠X.env.locals->X.s₀.heap.objs.size<=C->(∀y c,X.env.cells.lookup y=some c->c≠C)->(∀p∈X.pn++pins,p.1≠C)->(∃m,B.heap.Ns C m)->Q (.ref D) g->RR (.ref D) C (.ok .next) B):
  bYp (bYr X.prog X.w) X.A (newList []) (λb5 s₃=>bYp (bYr X.prog X.w) X.A (newFunctionEnv sc X.env.globals cl [] X.env.qual none .none (some X.env)) (λZ s₄=>
   cXA (bYr X.prog X.w) X.A (.compStart (.ListComp elt [⟨.Name x px,iter,ifs,0⟩] sc pos) 0 (.ref it) b5 {Z with scope:=relabel sc X.env}) (RR b5 Z.locals) s₄) E s₃) E s:=by
 refine cXh (wpAny_newFunctionEnv S.nocell (by intro y hy;simp at hy) (λt a5 a2=>?_) S.kind)
 dsimp only at a5 a2 ⊢
 have l:Inv X pins σ (upd H s.heap.objs.size (.lst [])) {s with heap:=s.heap.push {cls:= .type "list",dict:=none,data:= .seq ([]:List bYh).toArray} }:=I.lnew (t':=s.toks) (ys:= []) (its:= []) .nil (cQf _)
 have a6:=I.fresh
 obtain⟨W,⟨m0,w0⟩,turn⟩:=q s.heap.objs.size a6
 have a1:∀b∈f,∃o,s.heap.get? b=some o/\∀v,o.data≠ .cell v:=T.obj 0 _ st
 have hG:(s.heap.push {cls:= .type "list",dict:=none,data:= .seq ([]:List bYh).toArray}).objs.size=s.heap.objs.size+1:=cQR ..
 have kG:∀b o,s.heap.get? b=some o->(s.heap.push {cls:= .type "list",dict:=none,data:= .seq ([]:List bYh).toArray}).get? b=some o:=λb o e=>bYm _ e
 generalize d0:s.heap.push {cls:= .type "list",dict:=none,data:= .seq ([]:List bYh).toArray}=G at a5 a2 l hG kG ⊢
 generalize b7:s.heap.objs.size=D at a6 turn w0 hG l ⊢
 have keep:∀b o,G.get? b=some o->t.get? b=some o:=λb o e=>a2.extBut b o (bYI (bYv e)) (bYm _ e)
 have a7:∀b∈f,b≠G.objs.size:=λb a=>by obtain⟨o,e,_⟩:=a1 b a;exact bYI (bYv (kG b o e))
 have a3:∀y c,X.env.cells.lookup y=some c->c≠G.objs.size:=λy c e=>by obtain⟨v,z⟩:=l.cell y c e;exact bYI z.lt
 have c5:(blk X (x::names) sc cl G.objs.size {s with heap:=G} (upd H D (.lst [])) f).Ok:=by
  refine⟨I.ok.mod,?_,I.ok.glob,I.ok.blt,bYo _,?_,?_,?_,I.ok.hd,I.ok.frames,.inl rfl,?_,l.bs,bYT I.ok.bsz l.sz,?_,?_,l.stack,l.stkFree⟩
  ·show(relabel sc X.env).kind= .function;exact S.kind
  ·exact λy z c h1 h2=>I.ok.inj y z c (d y c h1) (d z c h2)
  ·intro y hy;have c1:(relabel sc X.env).names.lookup y=some .cell\/(relabel sc X.env).names.lookup y=some .free:=hy;have U:(y,NameKind.cell)∈(relabel sc X.env).names\/(y,NameKind.free)∈(relabel sc X.env).names:=c1.imp cQM cQM;have c6:(y,NameKind.free)∈sc.names:=by
    rcases U with U|U
    ·obtain⟨⟨n,k⟩,Y,e⟩:=cQm.mp (show(y,NameKind.cell)∈sc.names.map _ from U);dsimp only at e;split at e
     ·rename_i M;cases e;have:k= .free:=by
       simp only[Bool.and_eq_true,beq_iff_eq]at M;exact M.1.1
      rw[this]at Y;exact Y
     ·cases e;exact absurd rfl (S.nocell _ Y)
    ·obtain⟨⟨n,k⟩,Y,e⟩:=cQm.mp (show(y,NameKind.free)∈sc.names.map _ from U);dsimp only at e;split at e
     ·cases e
     ·cases e;exact Y
   exact a0 y c6
  ·exact λy c h _=>by cases h
  ·intro b a;exact⟨a7 b a,λy c e=>(hf b a).2.2.2.2.1 y c (d y c e)⟩
  ·intro b o e a;obtain⟨f0,f1,f2,f3,f4,f5⟩:=hf b a;rcases f3 with z|z
   ·exact I.ok.noex b o e z
   ·exact absurd (bYK (bYv e) (bYT I.ok.bsz z)) (cQs _)
  ·intro b a z;obtain⟨f0,f1,f2,f3,f4,f5⟩:=hf b a;rcases bYq.mp (I.stkSub b z)with z|z
   ·exact f1 z
   ·exact f2 z
 have IY:Inv (blk X (x::names) sc cl G.objs.size {s with heap:=G} (upd H D (.lst [])) f) [] (sub σ fr none) (upd H D (.lst [])) {s with heap:=t,toks:=s.toks+([]:List (Str×bYh)).length}:=by
  refine⟨c5,rfl,I.bare,Un.kept keep,⟨_,a5,?_⟩,?_,l.hok.fresh (bYo _),λy c e=>l.freeC y c (d y c e),λp hp=>absurd (show p∈([]:List (Nat×Obj))from hp) (by simp),l.hok.kept keep,?_⟩
  ·intro i y v h1 h2 h3;cases i with
   |zero=>cases h2
   |succ j=>
    have c9:names[j]? =some y:=h1;obtain⟨i',e1,e2,e3⟩:=S.from_ j y c9;have b9:σ[i']? =some (some v):=by
     have z:(fr.map λi=>(σ[i]?).join)[j]? =some (some v):=h2;rw[bYB,e1]at z;have P:(σ[i']?).join=some v:=bYC z;cases q:σ[i']? with
     |none=>rw[q]at P;cases P
     |some o=>rw[q]at P;rw[show o=some v from P]
    obtain⟨m,Y,hl⟩:=l.loc;have b2:Vis X.env.scope y:= .inr (S.free _ e3 rfl);obtain⟨u,ru,lk⟩:=hl i' y v e2 b9 b2;refine⟨u,ru,.inr ⟨?_,?_⟩⟩
    ·exact aZZ (S.flk _ e3 rfl)
    ·rcases lk with⟨k,_⟩|⟨k,c,e,z⟩
     ·rcases S.free _ e3 rfl with z|z
      ·have P:X.env.kindOf y=some .cell:=z;rw[k]at P;cases P
      ·have P:X.env.kindOf y=some .free:=z;rw[k]at P;cases P
     ·obtain⟨c',e'⟩:=a0 y e3;have:=d y c' e';rw[e]at this;cases this;exact⟨c,e',z.keeps keep⟩
  ·intro y c e;obtain⟨v,z⟩:=l.cell y c (d y c e);exact⟨v,z.keeps keep⟩
  ·show(sub σ fr none).length=(x::names).length;simp[sub,S.len]
 have b3:∀ {o:Option V} {g:Hp} {B:bYk} {pl:List (Nat×Obj)},Inv (blk X (x::names) sc cl G.objs.size {s with heap:=G} (upd H D (.lst [])) f) pl (sub σ fr o) g B->Inv X pins σ g B:=λ{o g B pl} I'=>
  l.call' (ch:=f) I'.os I'.base I'.hok I'.bare λb a=>by obtain⟨f0,f1,f2,f3,f4,f5⟩:=hf b a;exact⟨f3,f1,f4,f5⟩
 have O:∀ {g:Hp},(∀b∈f,g b=none)->∀b∈f,bZT (blk X (x::names) sc cl G.objs.size {s with heap:=G} (upd H D (.lst [])) f) [] g b:=λ{g} Y b a=>by
  obtain⟨f0,f1,f2,f3,f4,f5⟩:=hf b a;refine⟨Y b a,a7 b a,λz=>?_,.inl a,λy c e=>f4 y c (d y c e),λp hp=>absurd (show p∈([]:List (Nat×Obj))from hp) (by simp)⟩;rcases bYq.mp (I.stkSub b z)with z|z
  ·exact f1 z
  ·exact f2 z
 have c8:∀b∈f,upd H D (.lst []) b=none:=λb a=>by
  obtain⟨o,e,_⟩:=a1 b a;have c0:b≠D:=by rw[<- b7];exact bYI (bYv e)
  rw[yI c0];exact(hf b a).1
 have b4:tn 0 t:=T.keep 0 _ _ st λb a o e=>keep b o (kG b o e)
 have a8:cXA (bYr X.prog X.w) X.A (.compLoop (.ListComp elt [⟨.Name x px,iter,ifs,0⟩] sc pos) 0 (.ref it) (.ref D) (compEnvC sc cl G.objs.size X.env)) (RR (.ref D) G.objs.size) {s with heap:=t,toks:=s.toks+([]:List (Str×bYh)).length}:=by
  refine bXw (λn B=>∃i F o g,Inv (blk X (x::names) sc cl G.objs.size {s with heap:=G} (upd H D (.lst [])) f) [] (sub σ fr o) g B/\tn i B.heap/\(∀b∈f,g b=none)/\W i n F g) ?_ m0
   ⟨0,[],none,_,IY,b4,c8,w0⟩
  rintro n B ⟨i,F,o,g,I',a9,b1,w'⟩;obtain⟨hD,b8⟩:=turn i n F g w';rcases b8 with⟨b0,qn⟩|⟨go,step⟩
  ·refine thn (T.done (blk X (x::names) sc cl G.objs.size {s with heap:=G} (upd H D (.lst [])) f) rfl rfl rfl hc i [] B _ g (λ_ _=>False) I' (O b1) a9 b0) λr s1 ⟨hr,I1⟩=>?_;subst hr;obtain⟨mC,b6,_⟩:=I1.loc;exact c7 D G.objs.size s1 g (b3 I1) I1.free (cXV l.lt) l.sz a3 (λp hp=>bYI (bYv (l.pin p hp).1)) ⟨mC,b6⟩ qn
  ·refine thn (T.item (blk X (x::names) sc cl G.objs.size {s with heap:=G} (upd H D (.lst [])) f) rfl rfl rfl hc i [] B _ g (λ_ _=>False) I' (O b1) a9 go) λr s1 ⟨u,hr,h1⟩=>?_;subst hr;refine thn h1 λ_ s2 ⟨v,H2,I2,rv,yl,st2,fr2⟩=>?_;have c3:=I2.pinned (O fr2) (T.obj _ _ st2);have pg:PG (blk X (x::names) sc cl G.objs.size {s with heap:=G} (upd H D (.lst [])) f) (.Name x px) (yW 0):=y9 S.nd rfl (.inl (lookup_relabel_local S.var)) (.inr (lookup_relabel_local S.var));have L:∀ {o:Option V} {H3:Hp} {s3:bYk},Inv (blk X (x::names) sc cl G.objs.size {s with heap:=G} (upd H D (.lst [])) f) ([]++aZX f s2.heap) (sub σ fr o) H3 s3->tn (i+1) s3.heap/\∀b∈f,H3 b=none:=λ{o H3 s3} J3=>by
    refine⟨T.keep _ _ _ st2 λb a ob e=>(J3.pin (b,ob) (bYF _ (bYF _ (jL a e)))).1,λb a=>?_⟩;obtain⟨ob,e,_⟩:=T.obj _ _ st2 b a;exact(J3.pin (b,ob) (bYF _ (bYF _ (jL a e)))).2.1
   refine thn (pg _ s2 _ H2 v u (λσ' c2=>σ'=sub σ fr (some v)/\c2=H2) c3 rv ⟨rfl,rfl⟩) λ_ s3 ⟨σ3,H3,I3',e3,e3'⟩=>?_;subst e3;subst e3';refine thn (c4 cl G.objs.size {s with heap:=G} (upd H D (.lst [])) f _ s3 _ _ _ I3' (step v _ yl)) λb s4 ⟨H4,I4,q4⟩=>?_;cases b with
   |false=>have a4:∃R,R<n/\W (i+1) R F H4:=q4;obtain⟨R,U,w4⟩:=a4;obtain⟨z1,z2⟩:=L I4;show ∃m,m<n/\_;exact⟨R,U,i+1,F,some v,H4,I4.unpinned,z1,z2,w4⟩
   |true=>have a4:te (sub σ fr (some v)) H4 λy H5=>F.length<bYJ/\H5 D=some (.lst F)/\∃R,R<n/\W (i+1) R (F++ [y]) (upd H5 D (.lst (F++ [y]))):=q4;show bYp _ _ _ _ _ _;refine thn (he cl G.objs.size {s with heap:=G} (upd H D (.lst [])) f _ s4 _ _ _ I4 a4) λue s5 ⟨y,H5,I5,r5,hl,hD5,R,U,w5⟩=>?_;refine thn (xD _ s5 _ H5 (.ref D) [y] (.ref D) [ue] (λ_ H6=>H6=upd H5 D (.lst (F++ [y]))) I5 rfl (.cons r5 .nil) ⟨D,F,y,rfl,rfl,hD5,hl,rfl⟩) λ_ s6 ⟨_,H6,I6,_,e6⟩=>?_;subst e6;obtain⟨z1,z2⟩:=L I6;exact⟨R,U,i+1,F++ [y],some v,_,I6.unpinned,z1,z2,w5⟩
 exact codeAny_compStart_list a8 (T.self _ 0 _ _ _ b4 a8)
theorem aJI{sc:cXx}{x:Str}{names:List Str}{fr:List Nat}(S:xO X.N X.env.scope x names fr sc)(I:Inv X pins σ H s): ∃cl,closureFor sc X.env=pure cl/\(∀y c,cl.lookup y=some c->X.env.cells.lookup y=some c)/\(∀y,(y,NameKind.free)∈sc.names->∃c,cl.lookup y=some c):=by
 obtain⟨cl,a,b,_,d⟩:=aJy (env:=X.env) sc.names [] (λy f g=>I.ok.has y.1 (S.free y f g)) (λy c e=>by simp at e);exact⟨cl,a,b,d⟩
end
section
variable {X:Cx}{elt iter:Expr}{x:Str}{px:Pos}{ifs:List Expr}{sc:cXx}{pos:Pos}{names:List Str}{fr:List Nat}{wi:TI}{tif:TT}{te:TE}
theorem aQF(S:xO X.N X.env.scope x names fr sc)(L:X.calm=true)(r:PI X (.Name x px) iter wi)(a:∀cl C s H ex,bWd (blk X (x::names) sc cl C s H ex) ifs tif) (n:∀cl C s H ex,PE (blk X (x::names) sc cl C s H ex) elt te) (F:∀v,cJx iter X.env v=pure v:=by intro _;rfl):PE X (.ListComp elt [⟨.Name x px,iter,ifs,0⟩] sc pos) (tLc wi fr tif te):=by
 intro pins s σ H Q I h;obtain⟨cl,i,j,G⟩:=aJI S I;rw[eval_ListComp];refine cJG (use:=none) rfl F i S.kind S.loc (thn (r pins s σ H _ I h) λv V c=>thn c λk W d=>?_);obtain⟨R,Y,tn,J,Z,rfl,P,T,y,E,q⟩:=d;refine bZ5 (RR:=λg C=>compPost (bYr X.prog X.w) X.A X.xe none (EP X pins σ Q) g C) S L j G a n P T y E q ?_;intro D C t M u c d z K l f B;obtain⟨m,f⟩:=f;exact⟨m,f,λU p=>⟨.ref D,M,u.turned (t':=t.toks) (λb o O e=>(p.2 b O).trans e) c (bY0 (bY0 d)) (.inr z) K l,rfl,B⟩⟩
theorem aZY{i:Nat}{y:Str}{f c:Pos}(S:xO X.N X.env.scope x names fr sc)(hc:X.calm=true)(G:X.N.Nodup)(hy:X.N[i]? =some y)(hl:X.env.scope.names.lookup y=some .local)(P:PI X (.Name x px) iter wi)
  (k:∀cl C s H ex,bWd (blk X (x::names) sc cl C s H ex) ifs tif) (O:∀cl C s H ex,PE (blk X (x::names) sc cl C s H ex) elt te)
  (p:swapsWith (.ListComp elt [⟨.Name x px,iter,ifs,0⟩] sc pos) (some (.Name y f)) c.line X.env=pure true:=by rfl) (Y:∀v,cJx iter X.env v=pure v:=by intro _;rfl):
  PS X (.Assign [.Name y f] (.ListComp elt [⟨.Name x px,iter,ifs,0⟩] sc pos) c) (bKj (tLc wi fr tif te) (yW i)):=by
 intro pins s σ H D I h
 obtain⟨cl,E,F,Z⟩:=aJI S I
 rw[exec_Assign_Name_used _ _ _ _ p]
 refine bYi (cZP (bYi ?_))
 show bYp _ X.A (do let _ <- comprehension (.ListComp elt [⟨.Name x px,iter,ifs,0⟩] sc pos) sc X.env _ (newList []) false (eval iter X.env) (some (assign (.Name y f) X.env))) _ _ s
 refine bYi (cQl (cJG (use:=some (assign (.Name y f) X.env)) (Q:=λ_ d=>SP X pins D .next d) rfl Y E S.kind S.loc (thn (P pins s σ H _ I h) λv s1 l=>thn l λK s2 g=>?_)) (λ_ d n=>bYn (bYn n)) λ_ _ e=>e)
 obtain⟨it,fp,tn,J,H1,rfl,I1,T,U,W,q⟩:=g
 refine bZ5 (RR:=λt C=>compPost (bYr X.prog X.w) X.A X.xe (some (assign (.Name y f) X.env)) (λ_ d=>SP X pins D .next d) t C) S hc F Z k O I1 T U W q ?_
 intro L C d H' R l g V B M r n
 obtain⟨m,r⟩:=r
 show bYp _ X.A (assign (.Name y f) X.env (.ref L)) _ _ d
 refine wpAny_assign_Name (aQ3 R G hy (.inl hl) (v:= .ref L) rfl (λs'' I'' ⟨a,sb,j⟩=>?_) (.inr hl))
 have u:C≠a:=by
  rcases j with rfl|j
  ·exact g
  ·exact bY0 (B y a j)
 exact⟨m,r.sameBut sb u,λh' z=>⟨_,H',I''.turned (t':=s''.toks) (λb o hb e=>(z.2 b hb).trans e) l g (.inr V) B M,n⟩⟩
end
theorem aZJ{K:bYj}{a:Nat}{xs:List V}{fr:List Nat}{tif:TT}{te:TE}{σ:St}{D:Nat}{Q:VK}{H:Hp}(p:V->Bool)(f:V->V)(hl:SqL K H a xs)(r:H D=none)(hz:xs.length<=bYJ) (x:∀v∈xs,∀ (c:Hp)(R:Bool->Hp->Prop),(∀b,b≠D->c b=H b)->R (p v) c->tif (sub σ fr (some v)) c R) (t:∀v∈xs,p v=true->∀ (c:Hp)(R:VK),(∀b,b≠D->c b=H b)->R (f v) c->te (sub σ fr (some v)) c R) (z:Q (.ref D) (upd H D (.lst ((xs.filter p).map f)))):bV5 (Itl K a) fr tif te σ D Q (upd H D (.lst [])):=by
 have d:∀g,SqL K (upd H D (.lst g)) a xs:=λg=>by
  rcases hl with(h|⟨o,h⟩)|h
  ·exact .inl (.inl (by rw[yI (yJ h r)];exact h))
  ·exact .inl (.inr ⟨o,by rw[yI (yJ h r)];exact h⟩)
  ·exact .inr h
 refine⟨λi m g c=>m=xs.length - i/\i<=xs.length/\g=((xs.take i).filter p).map f/\c=upd H D (.lst g),⟨xs.length,by simp,cQf _,by simp,rfl⟩,?_⟩;rintro i m g c ⟨rfl,C,rfl,rfl⟩;refine⟨yB,?_⟩;by_cases e:i<xs.length
 ·refine .inr ⟨⟨xs,xs[i],d _,bYg e⟩,λv B w=>?_⟩;obtain⟨rfl,y⟩:=w;have s:xs[i]? =some v:=y xs (d _);have j:v∈xs:=bYz s;have l:xs.take (i+1)=xs.take i++ [v]:=by rw[cQj,s];rfl
  have n:∀b,b≠D->upd H D (.lst (((xs.take i).filter p).map f)) b=H b:=λb A=>yI A;have k:(((xs.take i).filter p).map f).length<bYJ:=by rw[bYl];have u:=cQh p (xs.take i);rw[cQz]at u;omega
  refine x v j _ _ n ?_;cases q:p v with
  |false=>show ∃E,_;refine⟨xs.length - (i+1),by omega,rfl,e,?_,rfl⟩;rw[l,cQr,cQX (by rw[q];decide)];simp
  |true=>show te _ _ _;refine t v j q _ _ n ⟨k,yB,xs.length - (i+1),by omega,rfl,e,?_,by rw[jB]⟩;rw[l,cQr,cQY q];simp
 ·obtain rfl:i=xs.length:=by omega
  refine .inl ⟨⟨xs,d _,bYo _⟩,?_⟩;rw[cQe];exact z
end L2
namespace L2
open PySem
theorem lcM{N:List Str}{osc:Scope}{x:Str}{names:List Str}{fr:List Nat}{sc:Scope}(h:decide (sc.kind=.function/\(∀y∈sc.names,y.2≠.cell)/\(∀y∈sc.names,y.2=.local->sc.names.lookup y.1=some .local)/\sc.names.lookup x=some .local/\(∀y∈sc.names,y.2=.free->osc.names.lookup y.1=some .cell\/osc.names.lookup y.1=some .free)/\(∀y∈sc.names,y.2=.free->sc.names.lookup y.1=some .free)/\(x::names).Nodup/\fr.length=names.length/\∀p∈names.zip fr,N[p.2]?=some p.1/\(p.1,NameKind.free)∈sc.names)=true:=by decide +kernel):xO N osc x names fr sc:=
 have z:=of_decide_eq_true h;⟨z.1,z.2.1,z.2.2.1,z.2.2.2.1,z.2.2.2.2.1,z.2.2.2.2.2.1,z.2.2.2.2.2.2.1,z.2.2.2.2.2.2.2.1,z.2.2.2.2.2.2.2.2⟩
end L2
namespace Stb
open PySem
def bQY(xs:Array Nat):Prop:=∀i j:Nat,i<j->j<xs.size->xs.getD i 0<xs.getD j 0
theorem bJK{xs:Array Nat}{i:Nat}(h:i<xs.size)(d e:Nat):xs.getD i d=xs.getD i e:=by
 simp[cXM,h]
theorem aJF{xs:Array Nat}{j:Nat}(f:bQY xs):∀ (a c b:Nat),b<=xs.size->c<=b->b - c<=a->
  (∀k,k<c->xs.getD k 0<j)->(∀k,b<=k->k<xs.size->j<=xs.getD k 0)->
  (∀k,k<cZe xs j a c b->xs.getD k 0<j)/\(∀k,cZe xs j a c b<=k->k<xs.size->j<=xs.getD k 0)/\cZe xs j a c b<=xs.size
 |0,c,b,h1,h2,h3,h4,h5=>by
  have e:c=b:=by omega
  subst e;unfold cZe;exact⟨h4,h5,h1⟩
 |a+1,c,b,h1,h2,h3,h4,h5=>by
  unfold cZe;by_cases hl:c<b
  ·rw[if_pos hl];dsimp only;have h:(c+b) / 2<xs.size:=by omega
   have e:=bJK h j 0;by_cases i:xs.getD ((c+b) / 2) j<j
   ·rw[if_pos i];refine aJF f a _ _ h1 (by omega) (by omega) (λk l=>?_) h5;by_cases d:k=(c+b) / 2
    ·subst d;omega
    ·have:=f k ((c+b) / 2) (by omega) h;omega
   ·rw[if_neg i];refine aJF f a _ _ (by omega) (by omega) (by omega) h4 (λk l d=>?_);by_cases g:k=(c+b) / 2
    ·subst g;omega
    ·have:=f ((c+b) / 2) k (by omega) d;omega
  ·rw[if_neg hl];have e:c=b:=by omega
   subst e;exact⟨h4,h5,h1⟩
theorem jF{xs:Array Nat}(b:bQY xs)(j:Nat): (∀k,k<cQi xs j->xs.getD k 0<j)/\(∀k,cQi xs j<=k->k<xs.size->j<=xs.getD k 0)/\cQi xs j<=xs.size:=by
 unfold cQi;exact aJF b xs.size 0 xs.size (bYo _) (cQf _) (by omega) (λk a=>absurd a (cQ3 _)) (λk c d=>by omega)
theorem aWo{xs:Array Nat}(c:bQY xs){i:Nat}(d:i<xs.size):cQi xs (xs.getD i 0+1)=i+1:=by
 obtain⟨e,f,g⟩:=jF c (xs.getD i 0+1);have a:i<cQi xs (xs.getD i 0+1):=by apply Nat.lt_of_not_le;intro h;have:=f i h d;omega
 have b:¬i+1<cQi xs (xs.getD i 0+1):=λh=>by have q:=e (i+1) h;have:=c i (i+1) (by omega) (by omega);omega
 omega
theorem aWp{xs:Array Nat}(a:bQY xs):cQi xs 0=0:=by
 obtain⟨b,c,d⟩:=jF a 0;apply Nat.le_antisymm _ (cQf _);apply Nat.le_of_not_lt;intro h;have:=b 0 h;omega
theorem aXH{α:Type}(xs:Array α)(p:Nat)(x:α)(h:p<=xs.size):(cZf xs p x).size=xs.size+1:=by
 unfold cZf;simp;omega
theorem Z8{xs:Array Nat}{p x k:Nat}(h:p<=xs.size):(cZf xs p x).getD k 0=if k<p then xs.getD k 0 else if k=p then x else xs.getD (k - 1) 0:=by
 unfold cZf;have f:(xs.extract 0 p).size=p:=by simp;omega
 have d:((xs.extract 0 p).push x).size=p+1:=by rw[Array.size_push,f]
 simp only[Array.getD_eq_getD_getElem?];by_cases b:k<p
 ·rw[if_pos b,cJo (by omega),Array.getElem?_push,if_neg (by omega),cJe (by omega)];have a:k<xs.size:=by omega
  simp[a]
 ·rw[if_neg b];by_cases c:k=p
  ·subst c;rw[if_pos rfl,cJo (by omega),Array.getElem?_push,if_pos (by omega)];rfl
  ·rw[if_neg c,Array.getElem?_append_right (by omega),d];by_cases g:k - (p+1)<xs.size - p
   ·rw[cJe (by omega)];have a:k - 1<xs.size:=by omega
    have e:p+(k - (p+1))=k - 1:=by omega
    simp[a,e]
   ·rw[cX9 (by simp;omega),cX9 (by omega)]
theorem aJ3{xs:Array Nat}(b:bQY xs){j:Nat}(l:∀k,k<xs.size->xs.getD k 0≠j):bQY (cZf xs (cQi xs j) j):=by
 obtain⟨b1,g,d⟩:=jF b j;intro i k e h;rw[aXH _ _ _ d]at h;rw[Z8 d,Z8 d];by_cases c:i<cQi xs j
 ·rw[if_pos c];have v:=b1 i c;by_cases f:k<cQi xs j
  ·rw[if_pos f];exact b i k e (by omega)
  ·rw[if_neg f];by_cases a:k=cQi xs j
   ·rw[if_pos a];exact v
   ·rw[if_neg a];have:=g (k - 1) (by omega) (by omega);omega
 ·rw[if_neg c,if_neg (show ¬k<cQi xs j by omega),if_neg (show ¬k=cQi xs j by omega)];by_cases a:i=cQi xs j
  ·rw[if_pos a];have:=g (k - 1) (by omega) (by omega);have:=l (k - 1) (by omega);omega
  ·rw[if_neg a];exact b (i - 1) (k - 1) (by omega) (by omega)
theorem aKa(n:Nat):bQY (Array.range n):=by
 intro i j b a;rw[Array.size_range]at a;simp[cXM,a,Nat.lt_trans b a,b]
theorem aYX{l:List Nat}(h:l.Pairwise (·<·)):bQY l.toArray:=by
 intro i j b d;have a:j<l.length:=by simpa using d
 have c:i<l.length:=Nat.lt_trans b a;have:=cXN.mp h i j c a b;simp[cXM,a,c,this]
structure Tab(b:Bool)(t:cQ2):Prop where
 rise:bQY t.place
 dum:t.dummies= #[]
 led:b=true\/t.led=true
theorem aK1(j:Nat):SetTable.has #[] j=false:=by
 unfold SetTable.has;simp
theorem bZA{b:Bool}{t:cQ2}(T:Tab b t){j:Nat}(h:t.slot j= .empty):∀k,k<t.place.size->t.place.getD k 0≠j:=by
 intro k a e;obtain⟨b1,f,l⟩:=jF T.rise j;have c:cQi t.place j=k:=by
  have g:¬k<cQi t.place j:=λh=>by have:=b1 k h;omega
  have i:¬cQi t.place j<k:=λh=>by have:=f _ (bYo _) (by omega);have:=T.rise _ k h a;omega
  omega
 unfold SetTable.slot at h;dsimp only at h;rw[c]at h;have d:t.place[k]? =some j:=by
  rw[cQK a];have:t.place.getD k 0=t.place[k]:=by simp[cXM,a]
  rw[<- this,e]
 rw[d]at h;simp at h
theorem bZz{b:Bool}{t:cQ2}(T:Tab b t)(j:Nat):t.slot j≠ .dummy:=by
 unfold SetTable.slot;dsimp only;rw[T.dum,aK1];split<;> simp
theorem aXt{b:Bool}{t:cQ2}(T:Tab b t)(f:Nat->Int)(h:Int):∀ (a:Nat)(p:SetTable.Probe),p.dummy=none->∀j d,cJv t f h a p=some (.empty j d)->t.slot j= .empty/\d=none
 |0,p,_,j,d,e=>by unfold cJv at e;cases e
 |a+1,p,hp,j,d,e=>by
  have c:(t.advance p).dummy=none:=by
   unfold SetTable.advance;split
   ·exact hp
   ·exact hp
  unfold cJv at e;cases q:t.slot p.j with
  |empty=>rw[q]at e;simp only[cJt,SetTable.Met.empty.injEq]at e;obtain⟨rfl,rfl⟩:=e;exact⟨q,hp⟩
  |dummy=>exact absurd q (bZz T _)
  |live i=>
   rw[q]at e;dsimp only at e;split at e
   ·cases e
   ·exact aXt T f h a _ c j d e
theorem uH{b:Bool}{t:cQ2}(T:Tab b t)(n:Nat):Tab b (t.standIn n):=⟨aKa n,rfl,T.led⟩
theorem aWF{b:Bool}{t:cQ2}(T:Tab b t)(f:Array (Int×bYh))(h:Int)(x:bYh):Tab b (layNew t f h x).2.1:=by
 unfold layNew;cases q:t.freeSlot h with
 |none=>exact uH T _
 |some g=>
  obtain⟨a,m⟩:=g;dsimp only;have k:t.slot a= .empty:=by
   unfold SetTable.freeSlot at q;split at q
   ·rename_i j d e;simp only[cJt,Prod.mk.injEq]at q;obtain⟨l,i⟩:=aXt T _ h _ _ rfl j d e;rw[<- q.1,i];exact l
   ·cases q
  have c:Tab b (t.put a).1:=by unfold SetTable.put;dsimp only;refine⟨aJ3 T.rise (bZA T k),?_,T.led⟩;rw[T.dum,aK1];rfl
  unfold SetTable.orStandIn;split
  ·exact c
  ·exact uH c _
theorem aZ0{b:Bool}{t:cQ2}(T:Tab b t)(h:Array (Int×bYh))(c:Nat):Tab b (relayAll t h c).2.1:=by
 unfold relayAll;cases q:t.relaid (h.map (·.1)) c with
 |none=>exact uH T _
 |some r=>
  obtain⟨o,g⟩:=r;dsimp only;have m:Tab b o:=by
   unfold SetTable.relaid SetTable.laid at q;simp only[Option.bind_eq_bind,Option.bind_eq_some_iff]at q;obtain⟨d,_,e⟩:=q;simp only[Option.pure_def,cJt,Prod.mk.injEq]at e;obtain⟨rfl,_⟩:=e;refine⟨aYX ?_,rfl,T.led⟩;rw[List.map_filterMap];have sub:∀ (f:Nat->Option Nat),(∀j k,f j=some k->k=j)->∀l:List Nat,List.Sublist (l.filterMap f) l:=by
    intro f n l;induction l with
    |nil=>exact List.Sublist.slnil
    |cons a r i=>
     rw[cX0];cases e:f a with
     |none=>exact i.cons a
     |some k=>rw[n a k e];exact i.cons_cons a
   refine List.Pairwise.sublist (sub _ ?_ _) List.pairwise_lt_range;intro j k e;cases q:d.getD j none with
   |none=>rw[q]at e;cases e
   |some z=>rw[q]at e;simpa using e.symm
  split
  ·exact m
  ·exact uH T _
theorem bQR{b a:Bool}(h:b=true\/a=true):Tab b (.fresh 0 0 a):=⟨λi j d c=>absurd c (cQ3 _),rfl,h⟩
end Stb
namespace Stb
open PySem
def Ent(b:List Int)(a:List (Int×bYh)):Prop:=bY6 (λ(k:Int)(e:Int×bYh)=>e.1=hashInt k/\∃t,e.2=Value.int k t) b a
theorem Ent.mem_l:∀ {c:List Int} {b:List (Int×bYh)},Ent c b->∀k∈c,∃e∈b,∃t,e.2=Value.int k t
 |_,_,.nil,k,a=>by cases a
 |_,_,.cons r t,k,a=>by
  rcases bYq.mp a with rfl|a
  ·exact⟨_,bYw ..,r.2⟩
  ·obtain⟨e,d,z⟩:=Ent.mem_l t k a;exact⟨e,bYt _ d,z⟩
theorem Ent.mem_r:∀ {c:List Int} {b:List (Int×bYh)},Ent c b->∀e∈b,∃k∈c,e.1=hashInt k/\∃t,e.2=Value.int k t
 |_,_,.nil,e,a=>by cases a
 |_,_,.cons r t,e,a=>by
  rcases bYq.mp a with rfl|a
  ·exact⟨_,bYw ..,r⟩
  ·obtain⟨k,d,z⟩:=Ent.mem_r t e a;exact⟨k,bYt _ d,z⟩
theorem Ent.elems{prog:bYD}{w:bYL}{f:List Int}{b:List (Int×bYh)}(h:Ent f b):ElemsOf (intKind prog w) b:=λe d=>by
 obtain⟨k,_,c,t,a⟩:=h.mem_r e d;refine⟨⟨k,?_,c⟩,?_⟩
 ·rw[a];exact intKind_is prog w k t
 ·rw[a];rfl
theorem Ent.length{a:List Int}{b:List (Int×bYh)}(h:Ent a b):a.length=b.length:=cQZ h
theorem Ent.append:∀ {a ls:List Int} {b fs:List (Int×bYh)},Ent a b->Ent ls fs->Ent (a++ls) (b++fs)
 |_,_,_,_,.nil,s=>s
 |_,_,_,_,.cons r t,s=> .cons r (Ent.append t s)
theorem Ent.perm{g fs:List (Int×bYh)}(p:cJk g fs):∀ {a:List Int},Ent a g->∃b,Ent b fs/\b.Perm a:=by
 induction p with
 |nil=>exact λ{a} h=>⟨a,h,.rfl⟩
 |cons x p k=>
  intro a h;cases h with
  |cons r t=>obtain⟨b,c,d⟩:=k t;exact⟨_::b,.cons r c,d.cons _⟩
 |swap x y l=>
  intro a h;cases h with
  |cons r t=>
   cases t with
   |cons i n=>exact⟨_::_::_,.cons i (.cons r n),.swap ..⟩
 |trans p q e f=>intro a h;obtain⟨b,c,d⟩:=e h;obtain⟨o,j,m⟩:=f c;exact⟨o,j,m.trans d⟩
abbrev aJw(w:bYL):Bool:=w.params.followText "set-order"
def aQ9(w:bYL)(h:Heap)(a:Nat)(d:List Int):Prop:=
 ∃o b e t c,h.get? a=some o/\o.ExactSet/\o.data= .set b e t/\Ent c b.toList/\c.Perm d/\d.Nodup/\b.size<cZI/\t.fits b.size=true/\Tab (aJw w) t
theorem aQ9.at{w:bYL}{h h':Heap}{a:Nat}{b:List Int}(x:aQ9 w h a b)(k:∀o,h.get? a=some o->h'.get? a=some o):aQ9 w h' a b:=
 let ⟨o,es,ep,t,ls,ho,r⟩:=x;⟨o,es,ep,t,ls,k o ho,r⟩
theorem aQ9.there{w:bYL}{h:Heap}{a:Nat}{b:List Int}(x:aQ9 w h a b):∃o,h.get? a=some o:=
 let ⟨o,es,ep,t,ls,ho,r⟩:=x;⟨o,ho⟩
theorem aQ9.type{w:bYL}{s:bYk}{a:Nat}{b:List Int}(x:aQ9 w s.heap a b):s.TypeIs (.ref a) "set":=
 let ⟨o,es,ep,t,ls,ho,he,r⟩:=x;⟨o,ho,he.1⟩
theorem aYT{h:Heap}{a:Nat}{o:Obj}{f:Array (Int×bYh)}{d:Nat}{t:cQ2}(e:h.get? a=some o)(c:o.data= .set f d t)(b:Array (Int×bYh))(t':cQ2): (h.update a (Obj.putSet b t')).get? a=some {o with data:= .set b (d+1) t'}:=by
 have q:=cQn (Obj.putSet b t') e (by rw[putSet_of b t' c];rfl);rw[putSet_of b t' c]at q;exact q
section
variable {prog:bYD}{w:bYL}{A:bYZ}{E:bYh->bYk->Prop}{s:bYk}
theorem aK0{b:Bool}{Q:Unit->bYk->Prop}(h:Q () s):bYp (bYr prog w) A (match b with|true=>rule "set.scan.the-table-gave-way"|false=>pure ()) Q E s:=by
 cases b
 ·exact bYn h
 ·exact wpAny_rule h
theorem bWh{a:Nat}{p:List Int}{k:Int}{tk:Tok}{Q:Bool->bYk->Prop}(hS:aQ9 w s.heap a p)(a7:p.length+1<cZI) (h:∀m b,cXl a s.heap m->aQ9 w m a (if k∈p then p else p++ [k])->Q b {s with heap:=m}): bYp (bYr prog w) A (setAddHashed a (.int k tk) (hashInt k)) Q E s:=by
 obtain⟨o,G,ep,t,ls,T,I,R,n,W,U,hb,hf,hT⟩:=hS;have O:=n.elems (prog:=prog) (w:=w);have a9:G.size=p.length:=by rw[<- cQE,<- n.length,W.length_eq]
 unfold setAddHashed setAddHashedIn;refine cQB (bYi (cXL T R hf ?_));dsimp only;rw[byScan_of (knd:=intKind prog w) rfl hb O];simp only[↓reduceIte];unfold setAddByScan;refine bYi ?_;refine bYi (wpAny_rule ?_);refine bYi (wpAny_setScan_of (knd:=intKind prog w) (k:=k) (intKind_is prog w k tk) T R hf O ?_);cases hr:List.findIdx? (λe=>(intKind prog w).is k e.2) G.toList with
 |some j=>
  dsimp only;obtain⟨hj,Y,_⟩:=List.findIdx?_eq_some_iff_getElem.mp hr;have u:k∈p:=by
   obtain⟨k',a8,_,t',e'⟩:=n.mem_r _ (cXm hj);rw[e']at Y;have:k=k':=by have z:(k'==k)=true:=Y;exact(beq_iff_eq.mp z).symm
   rw[this];exact W.mem_iff.mp a8
  refine bYn (bYn ?_);have q:=h s.heap false (Heap.SameBut.refl a s.heap) (by rw[if_pos u];exact⟨o,G,ep,t,ls,T,I,R,n,W,U,hb,hf,hT⟩);exact q
 |none=>
  dsimp only;have u:k∉p:=λz=>by obtain⟨e,he,t',e'⟩:=n.mem_l k (W.mem_iff.mpr z);have q:=List.findIdx?_eq_none_iff.mp hr e he;rw[e',intKind_is]at q;cases q
  rw[if_neg u]at h;have a0:(p++ [k]).Nodup:=by rw[cXK];exact⟨U,cQH ..,λx hx y hy=>by rw[bYy.mp hy];rintro rfl;exact u hx⟩
  have d:=layNew_perm t G (hashInt k) (.int k tk);have f:=layNew_fits t G (hashInt k) (.int k tk);have i:=aWF hT G (hashInt k) (.int k tk);generalize hL:layNew t G (hashInt k) (.int k tk)=L at d f i ⊢;obtain⟨c,S,l,b0⟩:=L;dsimp only at d f i ⊢;rw[Array.toList_push]at d;obtain⟨V,C,a6⟩:=(n.append (ls:= [k]) (fs:= [(hashInt k,.int k tk)]) (.cons ⟨rfl,tk,rfl⟩ .nil)).perm d.symm;have H:V.Perm (p++ [k]):=a6.trans (W.append_right [k]);have B:c.size<cZI:=by rw[<- cQE,d.length_eq,bYE,cQE];simpa using (by omega:G.size+1<cZI)
  have F:∀g:cQ2,g.fits c.size=true->Tab (aJw w) g->
    bYp (bYr prog w) A (do
     storeSet a c g
     if(!l && g.tooFull)=true then do
       (match(relayAll g c (cXR c.size)).2.2 with|true=>rule "set.scan.the-table-gave-way"|false=>pure ())
       storeSet a (relayAll g c (cXR c.size)).1 (relayAll g c (cXR c.size)).2.1
       pure (some true)
      else pure (some true)) (λr P=>∃m,r=some true/\P= {s with heap:=m}/\cXl a s.heap m/\aQ9 w m a (p++ [k])) E s:=by
   intro g a4 a1
   refine bYi (wpAny_storeSet_of T R ?_ (cJw B))
   have D:=cQL s.heap a (Obj.putSet c g)
   have M:=aYT T R c g
   split
   ·have v:=relayAll_perm g c (cXR c.size);have K:=relayAll_fits g c (cXR c.size);have N:=aZ0 a1 c (cXR c.size);generalize b1:relayAll g c (cXR c.size)=Rl at v K N ⊢;obtain⟨J,t3,a3⟩:=Rl;dsimp only at v K N ⊢;obtain⟨a2,X,a5⟩:=C.perm v.symm;have Z:J.size=c.size:=by rw[<- cQE,v.length_eq,cQE]
    refine bYi (aK0 ?_);refine bYi (wpAny_storeSet_of M rfl ?_ (cJw (by rw[Z];exact B)));refine bYn ⟨_,rfl,rfl,D.trans (cQL _ a _),_,J,_,t3,a2,aYT M rfl J t3,I,rfl,X,a5.trans H,a0,by rw[Z];exact B,K,N⟩
   ·exact bYn ⟨_,rfl,rfl,D,_,c,_,g,V,M,I,rfl,C,H,a0,B,a4,a1⟩
  have done:∀ (r:Option Bool)(P:bYk),(∃m,r=some true/\P= {s with heap:=m}/\cXl a s.heap m/\aQ9 w m a (p++ [k]))->
    bYp (bYr prog w) A (match r with|some added=>pure added|none=>setAddHashedIn a (.int k tk) (hashInt k) 99999) Q E P:=by
   rintro r P ⟨m,rfl,rfl,h1,h2⟩
   exact bYn (h m true h1 h2)
  refine bYi (aK0 ?_);split
  ·refine bYi ?_;rw[hashByValue_scannable 8 (show(Value.int k tk).scannable=true from rfl)];refine bYn ?_;have e:(if plainKind (Value.int k tk)=true then S else {S with plain:=false})=S:=rfl;rw[e];exact cQl (F S f i) done λ_ _ z=>z
  ·refine bYi (bYn ?_);simp only[↓reduceIte];exact cQl (F S f i) done λ_ _ z=>z
end
end Stb
namespace Stb
open PySem
theorem zL:Slot "set_iterator" "__next__" "set_iterator.__next__":=
 .of (owner:="set_iterator") (n:="__next__") (by rw[typeLookup_type,cZV];kernel_rfl) dk dk dk
  (by first|exact .inl dk|exact .inr dk) (by rw[isSubtype_type];kernel_rfl)
theorem jG:entryFor table "set_iterator.__next__"=some cQ4.«set_iterator.__next__»:=entryFor_of_tree (by kernel_rfl)
theorem aVQ:Manifest.owners.lookup (String.ofList ['r', 'o', 't', 'a', 'r', 'e', 't', 'i', '_', 't', 'e', 's'].reverse)=some Manifest.sig_set_iterator:=by kernel_rfl
theorem qR(a:bYh):argsOk "set_iterator.__next__" ⟨[a],[]⟩:=by
 unfold argsOk;rw[signature?_of (id:="set_iterator.__next__") (n:= ['_', '_', 't', 'x', 'e', 'n', '_', '_']) (o:= ['r', 'o', 't', 'a', 'r', 'e', 't', 'i', '_', 't', 'e', 's']) (by kernel_rfl) aVQ];kernel_rfl
theorem aWx:entryFor table "set.__iter__"=some cQ4.«frozenset.__iter__»:=
 entryFor_alias (id':="frozenset.__iter__") (by kernel_rfl) rfl dk (by kernel_rfl)
theorem W8:Slot "set_iterator" "__iter__" "set_iterator.__iter__":=
 .of (owner:="set_iterator") (n:="__iter__") (by rw[typeLookup_type,cZV];kernel_rfl) dk dk dk
  (by first|exact .inl dk|exact .inr dk) (by rw[isSubtype_type];kernel_rfl)
def uN(first:bYh)(i:Nat)(a:Nat)(n b:Nat):Obj:={cls:= .type "set_iterator",data:= .fields #[first,.int i 0,.ref a,.int n 0,.int b 0] }
section
variable {prog:bYD}{w:bYL}{A:bYZ}{E:bYh->bYk->Prop}{s:bYk}
theorem bQQ{I:Nat}{Q:Option bYh->bYk->Prop}{h₁:Heap}(g:A.handled=none)(i:cZO I s.heap h₁)(h:∀d,cZO I s.heap d->Q none {s with heap:=d}):
  bYp (bYr prog w) A.in1 (do raiseNew (<- newExc (.type "StopIteration") []):Sem PySem.Fin) (λf c=>∃r,f= .done (.ret r)/\bYp (bYr prog w) A (pure (some r)) Q E c)
   (λe c=>bYp (bYr prog w) A (do if <- cZ5 e (.type "StopIteration")then pure none else throw e) Q E c) {s with heap:=h₁}:=by
 refine bYi ?_
 simp only[newExc,newTuple]
 refine bYi (cXh ?_ (by size_fits))
 refine bYi (m:=firstArgMember _ _) (wpAny_of_eq (a:=Value.none) (by first|rfl|(simp only[firstArgMember];rfl)) ?_)
 refine cXh ?_ (by size_fits)
 simp only[raiseNew]
 refine bYi (wpAny_handled ?_)
 rw[show A.in1.handled=none from g]
 refine bYi (bYn (wpAny_throw ?_))
 refine bYi (wpAny_isInstance (T:="StopIteration") (b:=true) ⟨_,bYM _ rfl,rfl⟩ isSubtype_stop ?_)
 exact bYn (h _ ((i.push _).push _))
theorem aYp{I a:Nat}{o:Obj}{f:Array (Int×bYh)}{c:Nat}{t:cQ2}{b i nx:Nat}{x:bYh}{Q:Option bYh->bYk->Prop} (n:s.heap.get? a=some o) (l:o.data= .set f c t) (q:t.fits f.size=true) (e:s.heap.get? I=some (uN (.int b 0) i a f.size c)) (m:∀ (k:Option (bYh×Nat)->bYk->Prop)(r:bYh->bYk->Prop)(u:bYZ),k (some (x,nx)) s->bYp (bYr prog w) u (setNext a b i c) k r s) (p:∀g,g.get? I=some (uN (.int nx 0) (i+1) a f.size c)->cXl I s.heap g->Q (some x) {s with heap:=g}):bYp (bYr prog w) A (pyNext (.ref I)) Q E s:=by
 have j:s.TypeIs (.ref I) "set_iterator":=⟨_,e,rfl⟩;unfold pyNext;refine bYi (cZx (cX3 (name:=cZF "__next__") j zL (cXb zL j jG ?_ (qR _))));unfold cQ4.«set_iterator.__next__»;refine bYi (bYn ?_);refine bYi (cJh e rfl ?_);show bYp _ _ (setEntries a >>=_) _ _ s;refine bYi (cX2 n l q ?_);rw[if_neg (by simp)];show bYp _ _ (setNext a ((b:Int)).toNat ((i:Int)).toNat ((c:Int)).toNat >>=_) _ _ s;rw[bYW,bYW,bYW];refine bYi (m _ _ _ ?_);show bYp _ _ (setField (.ref I) 0 (cQy nx) >>=_) _ _ s;refine bYi (cXo e rfl (by simp) ?_);have d:=cQn (cQx (·.setIfInBounds 0 (cQy (nx:Int)))) e (cQG (cQJ rfl _));refine bYi (cXo d rfl (by simp) (bYn ⟨x,rfl,bYn (p _ ?_ ((cQL ..).trans (cQL ..)))⟩));have h:=cQn (cQx (·.setIfInBounds 1 (cQy ((i:Int)+1)))) d (cQG (cQJ rfl _));exact h
end
end Stb
namespace Stb
open PySem
section
variable {prog:bYD}{w:bYL}{A:bYZ}{E:bYh->bYk->Prop}{s:bYk}
theorem bXb{I a:Nat}{o:Obj}{e:Array (Int×bYh)}{c:Nat}{t:cQ2}{b i:Nat}{Q:Option bYh->bYk->Prop}(r:A.handled=none) (l:s.heap.get? a=some o) (j:o.data= .set e c t) (n:t.fits e.size=true) (d:s.heap.get? I=some (uN (.int b 0) i a e.size c)) (k:∀ (h:Option (bYh×Nat)->bYk->Prop)(p:bYh->bYk->Prop)(q:bYZ),h none s->bYp (bYr prog w) q (setNext a b i c) h p s) (m:∀f,cZO I s.heap f->Q none {s with heap:=f}):bYp (bYr prog w) A (pyNext (.ref I)) Q E s:=by
 have g:s.TypeIs (.ref I) "set_iterator":=⟨_,d,rfl⟩;unfold pyNext;refine bYi (cZx (cX3 (name:=cZF "__next__") g zL (cXb zL g jG ?_ (qR _))));unfold cQ4.«set_iterator.__next__»;refine bYi (bYn ?_);refine bYi (cJh d rfl ?_);show bYp _ _ (setEntries a >>=_) _ _ s;refine bYi (cX2 l j n ?_);rw[if_neg (by simp)];show bYp _ _ (setNext a ((b:Int)).toNat ((i:Int)).toNat ((c:Int)).toNat >>=_) _ _ s;rw[bYW,bYW,bYW];refine bYi (k _ _ _ ?_);show bYp _ _ (setField (.ref I) 2 .none >>=_) _ _ s;refine bYi (cXo d rfl (by simp) ?_);exact bQQ r (cQL ..).extBut m
theorem bXk{h:Heap}{I:Nat}{f:bYh}{i:Nat}{a:Nat}{n b:Nat}(c:h.get? I=some (uN f i a n b)): (h.update I (cQx (·.setIfInBounds 1 (cQy ((i:Int)+1))))).get? I=some (uN f (i+1) a n b):=by
 have q:=cQn (cQx (·.setIfInBounds 1 (cQy ((i:Int)+1)))) c (cQG (cQJ (o:=uN f i a n b) rfl _));rw[q];rfl
theorem bXj{h:Heap}{I:Nat}{f:bYh}{i:Nat}{a:Nat}{n b:Nat}(c:h.get? I=some (uN f i a n b)): (h.update I (cQx (·.setIfInBounds 0 (cQy (0:Int))))).get? I=some (uN (.int 0 0) i a n b):=by
 have q:=cQn (cQx (·.setIfInBounds 0 (cQy (0:Int)))) c (cQG (cQJ (o:=uN f i a n b) rfl _));rw[q];rfl
theorem aWP{I a p:Nat}{o:Obj}{b:Array (Int×bYh)}{f:Nat}{t:cQ2}{i j:Nat}{pl:Array bYh}{op:Obj}{c:Nat}{e:Int×bYh}{Q:Option bYh->bYk->Prop} (m:s.heap.get? a=some o) (l:o.data= .set b f t) (q:t.fits b.size=true) (d:s.heap.get? I=some (uN (.ref p) i a b.size f)) (x:s.heap.get? p=some op) (k:op.data= .seq pl c) (v:pl[i]? =some (.int j 0)) (r:b[j]? =some e) (u:∀h,h.get? I=some (uN (.ref p) (i+1) a b.size f)->cXl I s.heap h->Q (some e.2) {s with heap:=h}):bYp (bYr prog w) A (pyNext (.ref I)) Q E s:=by
 have n:s.TypeIs (.ref I) "set_iterator":=⟨_,d,rfl⟩;unfold pyNext;refine bYi (cZx (cX3 (name:=cZF "__next__") n zL (cXb zL n jG ?_ (qR _))));unfold cQ4.«set_iterator.__next__»;refine bYi (bYn ?_);refine bYi (cJh d rfl ?_);show bYp _ _ (setEntries a >>=_) _ _ s;refine bYi (cX2 m l q ?_);rw[if_neg (by simp)];show bYp _ _ (seqItems? (.ref p) >>=_) _ _ s;refine bYi (wpAny_seqItems x k ?_);dsimp only;simp only[bYW,v];refine bYi ?_;unfold setNextDrawn;refine bYi (cXL m l q ?_);dsimp only;rw[if_neg (by simp)];obtain⟨y,ex⟩:=e;rw[r];refine bYn ?_;have g:=bXk d;refine bYi (cXo d rfl (by simp) ?_);refine bYn ⟨ex,rfl,?_⟩;refine bYn ?_;exact u _ g (cQL s.heap I _)
theorem aKW{I a p:Nat}{o:Obj}{d:Array (Int×bYh)}{g:Nat}{t:cQ2}{i:Nat}{pl:Array bYh}{op:Obj}{c:Nat}{Q:Option bYh->bYk->Prop}(u:A.handled=none) (l:s.heap.get? a=some o) (k:o.data= .set d g t) (q:t.fits d.size=true) (b:s.heap.get? I=some (uN (.ref p) i a d.size g)) (v:s.heap.get? p=some op) (f:op.data= .seq pl c) (r:pl[i]? =none) (n:∀h,cZO I s.heap h->Q none {s with heap:=h}):bYp (bYr prog w) A (pyNext (.ref I)) Q E s:=by
 have j:s.TypeIs (.ref I) "set_iterator":=⟨_,b,rfl⟩;unfold pyNext;refine bYi (cZx (cX3 (name:=cZF "__next__") j zL (cXb zL j jG ?_ (qR _))));unfold cQ4.«set_iterator.__next__»;refine bYi (bYn ?_);refine bYi (cJh b rfl ?_);show bYp _ _ (setEntries a >>=_) _ _ s;refine bYi (cX2 l k q ?_);rw[if_neg (by simp)];show bYp _ _ (seqItems? (.ref p) >>=_) _ _ s;refine bYi (wpAny_seqItems v f ?_);dsimp only;simp only[bYW,r];refine bYi (cXo b rfl (by simp) ?_);have e:=bXj b;refine bYi (cXo e rfl (by simp) ?_);have m:=(cQL s.heap I (cQx (·.setIfInBounds 0 (cQy (0:Int))))).trans (cQL _ I (cQx (·.setIfInBounds 2 Value.none)));exact bQQ (s:=s) u m.extBut n
theorem X0{α:Type}:∀ {l:List α} {i:Nat} (h:i<l.length),cJk (l[i]::l.eraseIdx i) l
 |x::r,0,_=> .rfl
 |x::r,i+1,h=>by have a:=X0 (l:=r) (i:=i) (by simpa using h);exact(List.Perm.swap ..).trans (a.cons x)
theorem aZW{α:Type}(f:Nat->Nat):∀ (a k:Nat)(left:List α)(out:Array α),left.length=a->cJk (cZl.go f a k left out).toList (out.toList++left)
 |0,k,left,out,h=>by have e:left= []:=List.length_eq_zero_iff.mp h;subst e;unfold cZl.go;rw[cQk]
 |a+1,k,left,out,h=>by unfold cZl.go;have b:f k % left.length<left.length:=Nat.mod_lt _ (by omega);rw[bYg b];dsimp only;refine(aZW f a (k+1) _ _ (by rw[List.length_eraseIdx,if_pos b];omega)).trans ?_;rw[Array.toList_push,cQw,List.singleton_append];exact(X0 b).append_left _
theorem bZR{a:Nat}{o:Obj}{b:Array (Int×bYh)}{c:Nat}{t:cQ2}{Q:Array (Int×bYh)->bYk->Prop}(e:s.heap.get? a=some o)(d:o.data= .set b c t)(f:t.fits b.size=true) (g:aJw w=true) (h:Q (cZl (w.params.setOrder a c) b) s):bYp (bYr prog w) A (setWalk a) Q E s:=by
 unfold setWalk setsByText;refine bYi (cXL e d f ?_);dsimp only;refine bYi (bYi (cXZ (bYn ?_)));show bYp (bYr prog w) A (if aJw w=true then _ else _) Q E s;rw[if_pos g];exact bYi (cXZ (bYn h))
theorem aYq{a:Nat}{o:Obj}{c:Array (Int×bYh)}{d:Nat}{t:cQ2}{b i:Nat}{Q:Option (bYh×Nat)->bYk->Prop}(j:s.heap.get? a=some o)(g:o.data= .set c d t) (k:t.fits c.size=true) (f:aJw w=true) (h:Q (((cZl (w.params.setOrder a d) c)[i]?).map λe=>(e.2,b)) s):bYp (bYr prog w) A (setNext a b i d) Q E s:=by
 unfold setNext setsByText;refine bYi (cXL j g k ?_);dsimp only;refine bYi (bYi (cXZ (bYn ?_)));show bYp (bYr prog w) A (if aJw w=true then _ else _) Q E s;rw[if_pos f];rw[if_neg (by simp)];exact bYi (bZR j g k f (bYn h))
theorem bXA{a:Nat}{o:Obj}{c:Array (Int×bYh)}{e:Nat}{t:cQ2}{b i:Nat}{Q:Option (bYh×Nat)->bYk->Prop}(g:s.heap.get? a=some o)(f:o.data= .set c e t)
  (k:t.fits c.size=true) (l:aJw w=false) (d:(!t.plain && decide (c.size > 1))=false) (hl:t.led=true)
  (h:Q (match c[cQi t.place b]?,t.place[cQi t.place b]? with|some (_,x),some j=>some (x,j+1)|_,_=>none) s):bYp (bYr prog w) A (setNext a b i e) Q E s:=by
 unfold setNext setsByText
 refine bYi (cXL g f k ?_)
 dsimp only
 refine bYi (bYi (cXZ (bYn ?_)))
 show bYp (bYr prog w) A (if aJw w=true then _ else _) Q E s
 rw[l,if_neg (by decide)]
 show bYp (bYr prog w) A (if(!t.plain && decide (c.size > 1))=true then _ else _) Q E s
 rw[d,if_neg (by decide)]
 refine bYi ?_
 show bYp (bYr prog w) A (if(!t.led && !c.isEmpty)=true then _ else _) _ E s
 rw[hl]
 simp only[Bool.not_true,Bool.false_and,Bool.false_eq_true,↓reduceIte]
 exact bYn (bYn h)
end
end Stb
namespace Stb
open PySem
def aZi(a:List Int)(vs:List bYh):Prop:=bY6 (λ(k:Int)(v:bYh)=>∃t,v=Value.int k t) a vs
theorem Ent.vals:∀ {a:List Int} {b:List (Int×bYh)},Ent a b->aZi a (b.map (·.2))
 |_,_,.nil=> .nil
 |_,_,.cons r t=> .cons r.2 (Ent.vals t)
theorem bXv{α:Type}{xs ys:List α}(hl:xs.length=ys.length)(h:∀ (j:Nat)(x:α),xs[j]? =some x->ys[j]? =some x):xs=ys:=by
 apply cXz;intro i;cases e:xs[i]? with
 |some x=>exact(h i x e).symm
 |none=>have:=cJz.mp e;exact(cJz.mpr (by omega)).symm
theorem Z6{α β:Type}{f:α->Option β}:∀ {l:List α} (h:∀x∈l,(f x).isSome=true) (i:Nat),(l.filterMap f)[i]? =l[i]?.bind f
 |[],_,i=>by simp
 |x::r,h,i=>by
  obtain⟨y,e⟩:=Option.isSome_iff_exists.mp (h x (bYw ..));rw[List.filterMap_cons_some e];cases i with
  |zero=>simp[e]
  |succ i=>simpa using Z6 (λz a=>h z (bYt _ a)) i
theorem aXE:entryFor table "set_iterator.__iter__"=some cQ4.«dict_keyiterator.__iter__»:=
 entryFor_alias (id':="dict_keyiterator.__iter__") (by kernel_rfl) rfl dk (by kernel_rfl)
theorem aZk(a:bYh):argsOk "set_iterator.__iter__" ⟨[a],[]⟩:=by
 unfold argsOk;rw[signature?_of (id:="set_iterator.__iter__") (n:= ['_', '_', 'r', 'e', 't', 'i', '_', '_']) (o:= ['r', 'o', 't', 'a', 'r', 'e', 't', 'i', '_', 't', 'e', 's']) (by kernel_rfl) aVQ];kernel_rfl
section
variable {prog:bYD}{w:bYL}{A:bYZ}{E:bYh->bYk->Prop}{s:bYk}
theorem aKV{α:Type}:∀ (n:Nat)(xs:List α)(s:bYk)(Q:List α->bYk->Prop),xs.length=n->(∀c d,cJk c xs->Q c {s with drawn:=d})->bYp (bYr prog w) A (drawOrder n xs) Q E s
 |0,xs,s,Q,hl,h=>by have e:xs= []:=List.length_eq_zero_iff.mp hl;subst e;unfold drawOrder;exact bYn (h [] s.drawn .rfl)
 |n+1,[],s,Q,hl,h=>by cases hl
 |n+1,x::r,s,Q,hl,h=>by
  unfold drawOrder;have a:w.draws .order (s.drawn.get .order) % (x::r).length<(x::r).length:=Nat.mod_lt _ (Nat.succ_pos _);refine bYi (m:=choose .order (x::r).length) ?_;have g:∀ (b:Nat->bYk->Prop),b (w.draws .order (s.drawn.get .order) % (x::r).length) {s with drawn:=s.drawn.bump .order}->bYp (bYr prog w) A (choose .order (x::r).length) b E s:=by intro b j Γ p hΓ;show Sem.wp _ _ (.choose .order (x::r).length .pure) _ _ _ _;rw[Sem.wp_choose];exact⟨Nat.succ_ne_zero _,j⟩
  refine g _ ?_;generalize k:w.draws .order (s.drawn.get .order) % (x::r).length=i at a ⊢;rw[bYg a];dsimp only;refine bYi (aKV n _ _ _ (by rw[List.length_eraseIdx,if_pos a];simpa using hl) λc d f=>?_);exact bYn (h _ _ ((f.cons _).trans (X0 a)))
theorem bQx{I a:Nat}{f:bYh}{i n d:Nat}{Q:bYh->bYk->Prop}(c:s.heap.get? I=some (uN f i a n d))(h:Q (.ref I) s):bYp (bYr prog w) A (pyIter (.ref I)) Q E s:=by
 have b:s.TypeIs (.ref I) "set_iterator":=⟨_,c,rfl⟩;refine wpAny_pyIter_slot b W8 (cXb W8 b aXE ?_ (aZk _));show bYp _ _ (ret (.ref I)) _ _ s;exact bYn ⟨_,rfl,"set_iterator",_,b,zL.lookup,h⟩
theorem aKA{I a:Nat}{o:Obj}{es:Array (Int×bYh)}{ep:Nat}{t:cQ2}{vs:List bYh}{g:Nat->Nat}(hd:o.data= .set es ep t)(hf:t.fits es.size=true)(hv:vs.length=es.size)(hne:a≠I)
  (hx:∀ (s:bYk)(i:Nat)(A':bYZ)(E':bYh->bYk->Prop)(Q':Option (bYh×Nat)->bYk->Prop),s.heap.get? a=some o->i<=es.size->Q' ((vs[i]?).map λx=>(x,g (i+1))) s->bYp (bYr prog w) A' (setNext a (g i) i ep) Q' E' s)
  (hh:A.handled=none):Walks prog w A I [I,a] [I] es.size (λi v=>vs[i]? =some v) (λi h=>i<=es.size/\h.get? a=some o/\h.get? I=some (uN (.int (g i) 0) i a es.size ep)) where
 sub:=λb hb=>by simp at hb;simp[hb]
 frame:=λi h h' st k=>⟨st.1,k a (by simp) o st.2.1,k I (by simp) _ st.2.2⟩
 item:=λi s Q E hi st hQ=>by
  obtain⟨h1,h2,h3⟩:=st
  have hlt:i<vs.length:=by omega
  refine aYp (nx:=g (i+1)) (x:=vs[i]) h2 hd hf h3 (λQ' E' A' hq=>hx s i A' E' Q' h2 h1 (by rw[bYg hlt];exact hq)) λh' hI' sb=>?_
  exact hQ _ h' s.toks (bYg hlt) ⟨by omega,sb.extBut a o hne h2,hI'⟩ λb ob hb e=>sb.extBut b ob (λz=>hb (by simp[z])) e
 done:=λs Q E st hQ=>by
  obtain⟨h1,h2,h3⟩:=st
  refine bXb hh h2 hd hf h3 (λQ' E' A' hq=>hx s es.size A' E' Q' h2 h1 (by rw[bYR (by omega)];exact hq)) λh' sb=>?_
  exact hQ h' s.toks λb ob hb e=>sb b ob (λz=>hb (by simp[z])) e
 self:=λi s Q E st hQ=>bQx st.2.2 hQ
theorem aVw{I a p:Nat}{o op:Obj}{es:Array (Int×bYh)}{ep c:Nat}{t:cQ2}{vs:List bYh}{ys:List Nat}(hd:o.data= .set es ep t)(hf:t.fits es.size=true)(hv:ys.length=es.size)
  (hpd:op.data= .seq (ys.map λ(j:Nat)=>Value.int j 0).toArray c) (hne:a≠I) (hnp:p≠I) (hx:∀ (i j:Nat),ys[i]? =some j->∃e,es[j]? =some e/\vs[i]? =some e.2)
  (hh:A.handled=none):Walks prog w A I [I,a,p] [I] es.size (λi v=>vs[i]? =some v) (λi h=>i<=es.size/\h.get? a=some o/\h.get? p=some op/\h.get? I=some (uN (.ref p) i a es.size ep)) where
 sub:=λb hb=>by simp at hb;simp[hb]
 frame:=λi h h' st k=>⟨st.1,k a (by simp) o st.2.1,k p (by simp) op st.2.2.1,k I (by simp) _ st.2.2.2⟩
 item:=λi s Q E hi st hQ=>by
  obtain⟨h1,h2,h3,h4⟩:=st
  have hlt:i<ys.length:=by omega
  obtain⟨e,he,hve⟩:=hx i ys[i] (bYg hlt)
  refine aWP (j:=ys[i]) (e:=e) h2 hd hf h4 h3 hpd (by simp[hlt]) he λh' hI' sb=>?_
  exact hQ _ h' s.toks hve ⟨by omega,sb.extBut a o hne h2,sb.extBut p op hnp h3,hI'⟩ λb ob hb e=>sb.extBut b ob (λz=>hb (by simp[z])) e
 done:=λs Q E st hQ=>by
  obtain⟨h1,h2,h3,h4⟩:=st
  refine aKW hh h2 hd hf h4 h3 hpd (by simp[hv]) λh' sb=>?_
  exact hQ h' s.toks λb ob hb e=>sb b ob (λz=>hb (by simp[z])) e
 self:=λi s Q E st hQ=>bQx st.2.2.2 hQ
theorem bJP{a:Nat}{T:List Int}{Q:bYh->bYk->Prop}(hS:aQ9 w s.heap a T) (h:∀ (I:Nat)(h':Heap)(d:Drawn)(fp:List Nat)(St:Nat->Heap->Prop)(vs:List bYh)(ls:List Int),s.heap.objs.size<=I->(∀b∈fp,b=a\/s.heap.objs.size<=b)->(∀b∈fp,b<h'.objs.size)->aZi ls vs->ls.Perm T-> (∀ (A:bYZ),A.handled=none->Walks prog w A I fp [I] T.length (λi v=>vs[i]? =some v) St)->St 0 h'->(∀b o,s.heap.get? b=some o->h'.get? b=some o)-> Q (.ref I) {s with heap:=h',drawn:=d}):bYp (bYr prog w) A (pyIter (.ref a)) Q E s:=by
 have hT:=hS.type;obtain⟨o,f,B,t,ls,M,a8,J,G,Y,a9,l,C,P⟩:=hS;have K:f.size=T.length:=by rw[<- cQE,<- G.length,Y.length_eq]
 have u:a<s.heap.objs.size:=bYv M;refine wpAny_pyIter_slot hT F.slot_set_iter (cXb F.slot_set_iter hT aWx ?_ (F.args_set_iter_1 _));unfold cQ4.«frozenset.__iter__» Builtin.Frozenset.slot0 slotArgs;simp only[List.isEmpty_nil,Bool.not_true,Bool.false_eq_true,↓reduceIte,bind_assoc,cXs,bne_self_eq_false];unfold Builtin.Frozenset.addrOf Builtin.Frozenset.sizeOf;refine bYi (bYn ?_);try dsimp only
 refine bYi (bYn ?_);refine bYi (bYi (cX2 M J C (bYn ?_)));refine bYi ?_;unfold setDrawn setsByText;refine bYi (cXL M J C ?_);dsimp only;refine bYi (bYi (cXZ (bYn ?_)));refine bYn ?_;refine cZ8 (λc=>?_) (λc=>?_)
 ·refine bYi (aKV f.size (bYu f.size) s _ cQa λq d N=>?_);have V:q.length=f.size:=by rw[N.length_eq,cQa]
  have S:∀j∈q,j<f.size:=λj X=>bYS.mp (N.mem_iff.mp X);refine bYi (wpAny_newTuple ?_ (by rw[bYl,V];exact cJw l));have a0:=bYm {cls:= .type "tuple",data:= .seq (q.map λ(i:Nat)=>cQy (i:Int)).toArray} M;refine bYi (wpAny_setEpoch_of a0 J C ?_);refine bYi (cXh (bYn ⟨_,rfl,"set_iterator",_,⟨_,bYM _ rfl,rfl⟩,zL.lookup,?_⟩));have R:cJk (q.filterMap λj=>f[j]?) f.toList:=(N.filterMap _).trans (by rw[filterMap_getElem?_range]);obtain⟨k,m,n⟩:=G.perm R.symm;have a1:∀ (i j:Nat),q[i]? =some j->∃e,f[j]? =some e/\((q.filterMap λj=>f[j]?).map (·.2))[i]? =some e.2:=λi j e=>by have X:j<f.size:=S j (bYz e);refine⟨f[j],cQK X,?_⟩;rw[bYB,Z6 (λx hx=>by rw[cQK (S x hx)];rfl),e,Option.bind_some,cQK X];rfl
  have fin:∀ (r:Heap)(W:Obj),W.data= .seq (q.map λ(i:Nat)=>Value.int i 0).toArray 0->r.objs.size=s.heap.objs.size+1->r.get? s.heap.objs.size=some W->(∀b o,s.heap.get? b=some o->r.get? b=some o)->
    Q (.ref r.objs.size) {s with heap:=r.push (uN (.ref s.heap.objs.size) 0 a f.size B),drawn:=d}:=by
   intro r W a5 y a2 hk
   refine h r.objs.size _ d [r.objs.size,a,s.heap.objs.size] (λi h=>i<=f.size/\h.get? a=some o/\h.get? s.heap.objs.size=some W/\h.get? r.objs.size=some (uN (.ref s.heap.objs.size) i a f.size B)) _ k ?_ ?_ ?_ m.vals (n.trans Y)
    (λA hh=>by rw[<- K];exact aVw (o:=o) (ys:=q) (c:=0) J C V a5 (bYI (by rw[y];exact cQq u)) (bYI (by rw[y];exact cQ8 _)) a1 hh) ⟨cQf _,bYm _ (hk _ _ M),bYm _ a2,bYM _ rfl⟩ λb ob e=>bYm _ (hk _ _ e)
   ·omega
   ·intro b l;simp only[bYq,cXS,or_false]at l;rcases l with rfl|rfl|rfl
    ·right;omega
    ·left;rfl
    ·right;exact bYo _
   ·intro b l;rw[cQR];simp only[bYq,cXS,or_false]at l;rcases l with rfl|rfl|rfl
    ·exact cQ8 _
    ·rw[y];exact cQq (cQq u)
    ·rw[y];exact cQq (cQ8 _)
  exact fin _ _ rfl (cQR ..) (bYM _ rfl) λb ob e=>bYm _ e
 ·refine bYi (bYn ?_);refine bYi (wpAny_setEpoch_of M J C ?_);refine bYi (cXh (bYn ⟨_,rfl,"set_iterator",_,⟨_,bYM _ rfl,rfl⟩,zL.lookup,?_⟩));have fin:∀ (vs:List bYh)(g:Nat->Nat)(k:List Int),g 0=0->vs.length=f.size->aZi k vs->k.Perm T->
    (∀ (s:bYk)(i:Nat)(A':bYZ)(E':bYh->bYk->Prop)(Z:Option (bYh×Nat)->bYk->Prop),s.heap.get? a=some o->i<=f.size->Z ((vs[i]?).map λx=>(x,g (i+1))) s->bYp (bYr prog w) A' (setNext a (g i) i B) Z E' s)->
    Q (.ref s.heap.objs.size) {s with heap:=s.heap.push {cls:= .type "set_iterator",dict:=none,data:= .fields [cQy 0,cQy 0,Value.ref a,cQy (f.size:Int),cQy (B:Int)].toArray} }:=by
   intro vs g k g0 a6 hv n hx
   refine h s.heap.objs.size _ s.drawn [s.heap.objs.size,a] (λi h=>i<=f.size/\h.get? a=some o/\h.get? s.heap.objs.size=some (uN (.int (g i) 0) i a f.size B)) vs k (bYo _) ?_ ?_ hv n
    (λA hh=>by rw[<- K];exact aKA (o:=o) (g:=g) J C a6 (bYI u) hx hh) ⟨cQf _,bYm _ M,?_⟩ λb ob e=>bYm _ e
   ·intro b l;simp only[bYq,cXS,or_false]at l;rcases l with rfl|rfl
    ·right;exact bYo _
    ·left;rfl
   ·intro b l;rw[cQR];simp only[bYq,cXS,or_false]at l;rcases l with rfl|rfl
    ·exact cQ8 _
    ·exact cQq u
   ·rw[g0];exact bYM _ rfl
  cases D:aJw w with
  |true=>
   have pp:cJk (cZl (w.params.setOrder a B) f).toList f.toList:=by have:=aZW (w.params.setOrder a B) f.size 0 f.toList #[] (by simp);simpa[cZl]using this
   obtain⟨k,m,n⟩:=G.perm pp.symm;refine fin ((cZl (w.params.setOrder a B) f).toList.map (·.2)) (λ_=>0) k rfl (by rw[bYl,pp.length_eq];simp) m.vals (n.trans Y) λs i A' E' Z O hi p=>?_;refine aYq O J C D ?_;rw[bYB,cQQ]at p;cases e:(cZl (w.params.setOrder a B) f)[i]? with
   |none=>rw[e]at p;exact p
   |some z=>rw[e]at p;exact p
  |false=>
   have a3:(!t.plain && decide (f.size > 1))=false:=by have c':¬ ((!aJw w && (!t.plain && decide (f.size > 1)))=true):=c;rw[D]at c';simpa using c'
   have U:t.led=true:=P.led.resolve_left (by rw[D];decide);have a7:t.place.size=f.size:=by have:=C;simp only[SetTable.fits,Bool.and_eq_true,beq_iff_eq]at this;exact this.1
   refine fin (f.toList.map (·.2)) (λi=>if i=0 then 0 else t.place.getD (i - 1) 0+1) ls (by simp) (by simp) G.vals Y λs i A' E' Z O hi p=>?_;refine bXA O J C D a3 U ?_;have a4:cQi t.place (if i=0 then 0 else t.place.getD (i - 1) 0+1)=i:=by
    by_cases h0:i=0
    ·rw[if_pos h0,aWp P.rise,h0]
    ·rw[if_neg h0,aWo P.rise (by omega)];omega
   rw[a4];by_cases H:i<f.size
   ·have L:i<t.place.size:=by omega
    rw[cQK H,cQK L];rw[bYB,cQQ,cQK H]at p;have e1:t.place.getD i 0=t.place[i]:=by simp[cXM,L]
    simpa[e1]using p
   ·rw[cX9 (by omega)];rw[bYB,cQQ,cX9 (by omega)]at p;exact p
end
end Stb
namespace Stb
open PySem PyProof.Rows
section
variable {prog:bYD}{w:bYL}{A:bYZ}{E:bYh->bYk->Prop}{s:bYk}
theorem bJN{r:Nat}{Q:Bool->bYk->Prop}(c:s.TypeIs (.ref r) "set")(h:Q false s):bYp (bYr prog w) A (cJi (.ref r)) Q E s:=by
 unfold cJi;refine bYi (wpAny_specialOf c PySem.F.slot_set_len.lookup ?_);generalize a:("set.__len__":String)=q;wp_delta;rw[show splitId q=some ("set","__len__")from by subst a;decide+kernel];subst a;refine bYi (wpAny_isInstance (T:="set") (b:=true) c sub_set_self ?_);refine cZ8 (λz=>absurd z (by decide)) (λ_=>?_);refine cZ8 (λ_=>?_) (λz=>absurd dk z);exact bYi (wpAny_typeOf c (bYn h))
theorem aWs{a:Nat}{n:List Int}{R:List bYh->bYk->Prop}(hh:A.handled=none)(hS:aQ9 w s.heap a n)(hn:n.length<=bYJ) (h:∀ (h':Heap)(tk:Nat)(d:Drawn)(vs:List bYh)(ls:List Int),s.heap.objs.size<h'.objs.size->(∀b o,s.heap.get? b=some o->h'.get? b=some o)->aZi ls vs->ls.Perm n->R vs {s with heap:=h',toks:=tk,drawn:=d}): bYp (bYr prog w) A (collect (.ref a)) R E s:=by
 have hT:=hS.type;obtain⟨oa,a2⟩:=hS.there;have O:a<s.heap.objs.size:=bYv a2;unfold collect;refine bYi (wpAny_runValue (cXy entry_proto_collect' ?_));rw[cXd PySem.F.plain_proto_collect _];show bYp _ A.in1 (newList [] >>=λl=>again (.builtin "list.__iadd__" ⟨[l,.ref a],[]⟩)) _ _ s;refine bYi (cXh ?_);refine bYn ⟨cZw PySem.F.plain_list_iadd _,cXy entry_list_iadd' ?_⟩;rw[cXd PySem.F.plain_list_iadd _];have hL:(s.heap.push {cls:= .type "list",data:= .seq ([]:List bYh).toArray}).get? s.heap.objs.size=some {cls:= .type "list",data:= .seq #[] }:=bYM _ rfl;have y:aQ9 w (s.heap.push {cls:= .type "list",data:= .seq ([]:List bYh).toArray}) a n:=hS.at λo e=>bYm _ e;have k:(s.heap.push {cls:= .type "list",data:= .seq ([]:List bYh).toArray}).objs.size=s.heap.objs.size+1:=cQR ..;generalize V:s.heap.push {cls:= .type "list",data:= .seq ([]:List bYh).toArray}=H1 at hL y k ⊢;have U:∀b o,s.heap.get? b=some o->H1.get? b=some o:=λb o e=>by rw[<- V];exact bYm _ e
 show bYp _ A.in1 (cZi (.ref s.heap.objs.size) (.ref a) (.ref s.heap.objs.size)) _ _ {s with heap:=H1};have L:Shared.TypeIs {s with heap:=H1} (.ref a) "set":=y.type (s:={s with heap:=H1});unfold cZi;refine bYi (wpAny_typeOf (T:="set") L ?_);have q1:cJC (.ref s.heap.objs.size) (.ref a)=false:=by simp[cJC,cXV O]
 have q2:(Value.type "set"==Value.type "list")=false:=by decide
 have q3:(Value.type "set"==Value.type "tuple")=false:=by decide
 simp only[q1,q2,q3,Bool.or_false,Bool.false_eq_true,if_false];refine bYi (bJP (s:={s with heap:=H1}) y ?_);intro I h2 d fp St vs ls hI a1 a9 hv hp W C u;have K:s.heap.objs.size∉fp:=λz=>by
  rcases a1 _ z with e|e
  ·exact cXV O e
  ·have e':H1.objs.size<=s.heap.objs.size:=e;rw[k]at e';exact absurd e' (Nat.not_succ_le_self _)
 have t:=u _ _ hL;have G:∀ (J:Heap)(c:Nat),St 0 J->(∀b o,b≠s.heap.objs.size->h2.get? b=some o->J.get? b=some o)->J.get? s.heap.objs.size=some {cls:= .type "list",data:= .seq #[] c}->
   cXA (bYr prog w) A (.builtin "list.extend.loop" ⟨[.ref s.heap.objs.size,.ref I,.ref s.heap.objs.size],[]⟩)
    (λq g=>∃ (h':Heap)(tk:Nat)(f:Array bYh)(B:Nat),q= .ok (.ret (.ref s.heap.objs.size))/\g= {s with heap:=h',toks:=tk,drawn:=d}/\
     (∀b o,s.heap.get? b=some o->h'.get? b=some o)/\h'.get? s.heap.objs.size=some {cls:= .type "list",dict:=none,data:= .seq f B,slots:= #[] }/\ItemsOf (λi v=>vs[i]? =some v) f n.length) {s with heap:=J,drawn:=d}:=by
  intro J c D Y m
  refine codeAny_extend_loopS (W A.in1 hh).toS hn s.heap.objs.size K (.ref s.heap.objs.size) n.length 0 _ #[] c rfl (cQf _) D m (ItemsOf.nil _) λg H B S a3 P=>?_
  obtain⟨a5,g',d',a4,a0⟩:=g
  have eg:g'=s.gens:=S.gens
  have ed:d'=d:=S.drawn
  have eo:a0=s.os:=S.os
  subst eg ed eo
  refine⟨a5,a4,H,B,rfl,rfl,λb o e=>?_,a3,P⟩
  have p:b<s.heap.objs.size:=bYv e
  refine S.heap b o (λz=>?_) (Y b o (bYI p) (u b o (U b o e)))
  rcases bYq.mp z with z|z
  ·exact bYI p z
  ·have z':b=I:=bYy.mp z;have M:H1.objs.size<=I:=hI;rw[k,<- z']at M;exact absurd (bYK p (Nat.le_of_succ_le M)) (cQs _)
 have r:∀ (q:Result)(g:bYk),(∃ (h':Heap)(tk:Nat)(f:Array bYh)(B:Nat),q= .ok (.ret (.ref s.heap.objs.size))/\g= {s with heap:=h',toks:=tk,drawn:=d}/\ (∀b o,s.heap.get? b=some o->h'.get? b=some o)/\h'.get? s.heap.objs.size=some {cls:= .type "list",dict:=none,data:= .seq f B,slots:= #[] }/\ItemsOf (λi v=>vs[i]? =some v) f n.length)->
   ∃tk h',q= .ok (.ret (.ref s.heap.objs.size))/\g= {s with heap:=h',toks:=tk,drawn:=d}/\bYp (bYr prog w) A (do
    let o <- load s.heap.objs.size
    match o.data with
    |.seq xs _=>pure xs.toList
    |_=>unsupported "internal:collect") R E {s with heap:=h',toks:=tk,drawn:=d}:=by
  rintro q g ⟨h',tk,f,B,rfl,rfl,hk,hg,N⟩
  refine⟨tk,h',rfl,rfl,bYi (wpAny_load hg (bYn ?_))⟩
  have a7:vs.length=n.length:=by rw[<- cQZ hv,hp.length_eq]
  have e:f.toList=vs:=bXv (by rw[cQE,N.1,a7]) λj x hx=>N.2 j x (by rw[<- cQQ];exact hx)
  show R f.toList _
  rw[e]
  exact h h' tk d vs ls (bYv hg) hk hv hp
 have a8:Shared.TypeIs {s with heap:=h2,drawn:=d} (.ref a) "set":=by obtain⟨o',Z,X⟩:=L;exact⟨o',u _ _ Z,X⟩
 refine bYi (cQB (bJN a8 ?_));refine cZ8 (λ_=>?_) (λ_=>?_)
 ·refine bYi (wpAny_rule ?_);refine bYi ?_;show bYp _ _ (updateSeq s.heap.objs.size (·.push .none) >>=λ_=>updateSeq s.heap.objs.size (·.pop)) _ _ _;refine bYi (wpAny_updateSeq t rfl ?_);have m:=cQn (cQb (·.push Value.none)) t rfl;refine wpAny_updateSeq (hz:=by seq_fits) m rfl ?_;have a6:=cQn (cQb (·.pop)) m rfl;refine bYn ⟨cZw cJB _,cXa (G _ _ ?_ (λb o p e=>?_) a6) λq g z=>?_⟩
  ·refine(W A.in1 hh).frame 0 _ _ C λb p o e=>?_;have Q:b≠s.heap.objs.size:=λz=>K (z ▸ p);exact(bYV _ _ (bY0 Q)).trans ((bYV _ _ (bY0 Q)).trans e)
  ·exact(bYV _ _ (bY0 p)).trans ((bYV _ _ (bY0 p)).trans e)
  ·obtain⟨tk,h',rfl,rfl,zz⟩:=r q g z;exact zz
 ·refine bYn ⟨cZw cJB _,cXa (G _ _ C (λb o _ e=>e) t) λq g z=>?_⟩;obtain⟨tk,h',rfl,rfl,zz⟩:=r q g z;exact zz
theorem Z9:∀ {a:List Int} {vs:List bYh},aZi a vs->cXO vs a
 |_,_,.nil=> .nil
 |_,_,.cons ⟨t,e⟩ r=>by subst e;exact .cons _ t (Z9 r)
theorem aKv{a:Nat}{f:List Int}{Q:bYh->bYk->Prop}(C:A.handled=none)(D:aQ9 w s.heap a f)(B:f.length<64) (h:∀ (l:Nat)(h':Heap)(tk:Nat)(d:Drawn)(out:List bYh)(k:List Int)(n:Nat),s.heap.objs.size<=l->(∀b o,s.heap.get? b=some o->h'.get? b=some o)->h'.get? l=some {cls:= .type "list",data:= .seq out.toArray n}-> cXO out k->k.Perm f->k.Pairwise (·<=·)->Q (.ref l) {s with heap:=h',toks:=tk,drawn:=d}):bYp (bYr prog w) A (call (.builtin "sorted") [.ref a]) Q E s:=by
 refine cZC kind_sorted plain_sorted entry_sorted (args_sorted1 _) ?_;unfold cQ4.«sorted»;refine bYi (m:=checkCount "sorted" 1 1 _) (bYn ?_);refine bYi (aWs (A:=A.in1) C D (by rw[bYQ];omega) λj tk d i G g F u t=>?_);have v:=Z9 u;have q:i.length=f.length:=by rw[<- cQZ u,t.length_eq]
 refine bYi (cZy ?_ (by rw[q,bYQ];omega));have c:(j.push {cls:= .type "list",data:= .seq i.toArray}).get? j.objs.size=some (bY7 "list" i.toArray 0):=bYM _ rfl;refine bYi (cQB (cXb slot_list_sort ⟨_,c,rfl⟩ entry_list_sort (list_sort_tree c v (by omega) λout p z y x=>⟨_,rfl,?_⟩) (args_list_sort _)));obtain⟨n,e⟩:=sortedHeap_at (out:=out) c;refine bYn ⟨_,rfl,h j.objs.size _ tk d out.toList p n (cXU g) (λb o e=>?_) (by simpa using e) z (y.trans t) x⟩;have r:=F b o e;rw[sortedHeap_old (bYI (bYv r)) (by rw[cQR];exact cQq (bYv r))];exact bYm _ r
end
end Stb
namespace Stb
open PySem PyProof.Rows
def met(val:Nat->Int):Nat->List Int
 |0=> []
 |i+1=>if val i∈met val i then met val i else met val i++ [val i]
theorem aJJ(val:Nat->Int):∀i,(met val i).length<=i
 |0=>bYo _
 |i+1=>by
  have a:=aJJ val i;unfold met;split
  ·omega
  ·rw[bYE,cQt];omega
theorem aYm(val:Nat->Int)(d:Int):∀i,d∈met val i↔∃j,j<i/\val j=d
 |0=>by simp[met]
 |i+1=>by
  have b:=aYm val d i;have step:d∈met val (i+1)↔d∈met val i\/d=val i:=by
   show d∈(if val i∈met val i then met val i else met val i++ [val i])↔_;split
   ·rename_i a;constructor
    ·exact .inl
    ·rintro(z|rfl)
     ·exact z
     ·exact a
   ·simp
  rw[step,b];constructor
  ·rintro(⟨j,c,e⟩|rfl)
   ·exact⟨j,by omega,e⟩
   ·exact⟨i,by omega,rfl⟩
  ·rintro⟨j,c,e⟩;by_cases h:j=i
   ·subst h;exact .inr e.symm
   ·exact .inl ⟨j,by omega,e⟩
section
variable {prog:bYD}{w:bYL}{A:bYZ}
theorem bJI{R:Result->bYk->Prop}{I:Nat}{K C:List Nat}{n:Nat}{P:Nat->bYh->Prop}{St:Nat->Heap->Prop}(W:Walks prog w A.in1 I K C n P St)(S:Nat)(g:S∉K) (val:Nat->Int) (l:∀i v,P i v->∃t,v= .int (val i) t) (a:n+1<cZI): ∀ (k i:Nat)(s:bYk),n - i=k->i<=n->St i s.heap->aQ9 w s.heap S (met val i)-> (∀f tk,(∀b o,b∉S::C->s.heap.get? b=some o->f.get? b=some o)->aQ9 w f S (met val n)->R (.ok (.ret .none)) {s with heap:=f,toks:=tk})-> cXA (bYr prog w) A (.builtin "set.update.loop" ⟨[.ref S,.ref I],[]⟩) R s:=by
 have u:S∉C:=λh=>g (W.sub _ h);intro k;induction k with
 |zero=>
  intro i s Q L d G hR;obtain rfl:i=n:=by omega
  refine cXy cZE ?_;rw[cXd cXF _];refine bYi (m:=pyNext (.ref I)) (W.done s _ _ d λf tk j=>?_);exact bYn (hR f tk (λb o a e=>j b o (λz=>a (bYt _ z)) e) (G.at λo e=>j S o u e))
 |succ k N=>
  intro i s Q L d G hR;have x:i<n:=by omega
  refine cXy cZE ?_;rw[cXd cXF _];refine bYi (m:=pyNext (.ref I)) (W.item i s _ _ x d λv D q O p r=>?_);obtain⟨t,rfl⟩:=l i v O;show bYp _ A.in1 (cZz [Value.int (val i) t] (setAdd S (.int (val i) t)) >>=_) _ _ {s with heap:=D,toks:=q};refine bYi (cQB ?_);unfold setAdd;refine cQB ?_;refine bYi ((intKind prog w).pyHash (k:=val i) (intKind_is _ _ _ _) ?_);have c:(met val i).length+1<cZI:=by have:=aJJ val i;omega
  refine bWh (s:={s with heap:=D,toks:=q+1}) (G.at λo e=>r S o u e) c λT b J H=>?_;refine bYn ⟨cZw cXF _,N (i+1) _ (by omega) x (W.frame _ D _ p λb a o e=>?_) H λM y E B=>?_⟩
  ·exact J.extBut b o (λz=>g (z ▸ a)) e
  ·refine hR M y (λb o a e=>E b o a (J.extBut b o (λz=>a (by rw[z];exact bYw)) (r b o (λz=>a (bYt _ z)) e))) B
variable {E:bYh->bYk->Prop}{s:bYk}
theorem bWB(a:bYh){Q₁:bYh->bYk->Prop} (h:Q₁ (.ref s.heap.objs.size) {s with heap:=s.heap.push {cls:= .type "set",dict:=none,data:= .set #[] 0 (.fresh 0 0 (!aJw w)) } }): cXA (bYr prog w) A (.call (.builtin "set.__new__") ⟨[.type "set",a],[]⟩) (wants Q₁ E) s:=by
 refine codeAny_of_tree ?_;show bYp _ A.in1 (do checkBuiltinCall "set.__new__" ⟨[.type "set",a],[]⟩;again (.builtin "set.__new__" ⟨[.type "set",a],[]⟩)) _ _ s;refine bYi (wpAny_of_eq (PySem.F.newCall_set_1 a) (bYn ⟨cZw PySem.F.plain_set_new _,cXy PySem.F.entry_set_new ?_⟩));rw[cXd PySem.F.plain_set_new _];unfold cQ4.«set.__new__» Builtin.Frozenset.newClass;have b:=sub_set_self;obtain⟨c,g,d,tk,e⟩:=s;dsimp only;wp_walk;refine cXZ (bYn ?_);dsimp only;simp only[newObj];refine bYi (wpAny_alloc (bYn ?_));exact bYn h
set_option maxHeartbeats 3200000 in
theorem zT{l:Nat}{items:Array bYh}{u:List Int}{Q:bYh->bYk->Prop}(hh:A.handled=none)(hl:s.heap.IsList l items)(hi:cXO items.toList u)(K:items.size+1<cZI) (h:∀ (h':Heap)(tk:Nat),aQ9 w h' s.heap.objs.size (met (λi=>u.getD i 0) items.size)->(∀b o,s.heap.get? b=some o->h'.get? b=some o)->Q (.ref s.heap.objs.size) {s with heap:=h',toks:=tk}): bYp (bYr prog w) A (call (.type "set") [.ref l]) Q E s:=by
 obtain⟨c,tl,a2⟩:=cQ9.mro;have Y:=cQ9.made;have a0:=cQ9.sub;refine cZs (codeAny_of_tree ?_);show bYp _ _ (callAny (.type "set") _) _ _ _;refine bYn ⟨cJj _ dk,cXy PySem.F.entry_type_call ?_⟩;rw[Around.under_plain (weight_type_call_type "set" [.ref l] []) rfl];have h1:=cQ9.notType;have h2:=cQ9.canCreate;have a8:=PySem.F.typeCall_set_1 (.ref l);repeat (any_goals (first|assumption|wp_step))
 refine cXa (bWB (.ref l) (E:=E) (Q₁:=λP j=>P= .ref s.heap.objs.size/\j= {s with heap:=s.heap.push {cls:= .type "set",dict:=none,data:= .set #[] 0 (.fresh 0 0 (!aJw w)) } }) ⟨rfl,rfl⟩) λr j V=>?_;cases r with
 |error e=>exact V
 |ok fl=>
  cases fl with
  |ret P=>
   obtain⟨rfl,rfl⟩:=V;generalize G:({cls:= .type "set",dict:=none,data:= .set #[] 0 (.fresh 0 0 (!aJw w)) }:Obj)=O;have Z:(s.heap.push O).get? s.heap.objs.size=some O:=bYM _ (by rw[<- G];rfl);have hT:Shared.TypeIs {s with heap:=s.heap.push O} (.ref s.heap.objs.size) "set":=⟨_,Z,by rw[<- G]⟩;have J:aQ9 w (s.heap.push O) s.heap.objs.size []:=by
    refine⟨O, #[],0,.fresh 0 0 (!aJw w),[],Z,?_,?_,.nil,.rfl,List.nodup_nil,by decide,rfl,bQR ?_⟩
    ·rw[<- G];exact⟨rfl,rfl,rfl⟩
    ·rw[<- G]
    ·cases aJw w<;> simp
   have d:(s.heap.push O).objs.size=s.heap.objs.size+1:=cQR ..;have k:∀b o,s.heap.get? b=some o->(s.heap.push O).get? b=some o:=λb o e=>bYm _ e;generalize hH:s.heap.push O=H at Z hT J d k ⊢;have a5:=cQ9.init.lookup;have a7:=cQ9.init.bind (.ref s.heap.objs.size);repeat (any_goals (first|assumption|wp_step))
   refine cXa (cZ4 (R:=wants (λr g=>r= .none/\∃h' tk,g= {s with heap:=h',toks:=tk}/\aQ9 w h' s.heap.objs.size (met (λi=>u.getD i 0) items.size)/\
     (∀b o,s.heap.get? b=some o->h'.get? b=some o)) E) cQ9.init.plain PySem.F.entry_set_init (check_set_init_1 hT ?_)) λM g a=>?_
   ·obtain⟨ol,x,N,nl,y⟩:=hl;obtain⟨a1,m,W,f⟩:=ol;simp only at N y;subst N;subst y;have B:H.get? l=some {cls:= .type "list",dict:=m,data:= .seq items nl,slots:=f}:=k _ _ x;have a4:=PySem.F.sub_list_set;have a3:=PySem.F.sub_list_frozenset;have a6:(Value.type "list"==Value.type "dict")=false:=by decide
    have L:H.IsList l items:=⟨_,B,rfl,nl,rfl⟩;subst G;unfold cQ4.«set.__init__» noKeywords Builtin.Frozenset.updateFrom;generalize S:pyIter=PI;wp_walk;subst S;refine cJy (l:=l) (items:=items) ?hl ?_;case hl=>exact L
    refine bYi (wpAny_runValue ?_);have C:l<s.heap.objs.size:=bYv x;have T:A.in1.in1.in1.handled=none:=by simp[hh]
    have I:l≠H.objs.size:=by rw[d];exact bYI (cQq C)
    have U:s.heap.objs.size∉ [H.objs.size,l]:=by rw[d];simp only[bYq,cXS,or_false,not_or];exact⟨bYI (cQ8 _),cXV C⟩
    have D:∀ (i:Nat)(v:bYh),items[i]? =some v->∃t,v= .int ((λi=>u.getD i 0) i) t:=λi v hv=>
     cJl hi i v (by rw[cQQ];exact hv)
    refine bJI (Walks.list T _ l I items) s.heap.objs.size U (λi=>u.getD i 0) D K (items.size - 0) 0 _ (by omega) (cQf _) ⟨⟨_,bYM _ rfl,rfl,rfl⟩,L.push _⟩ ?hS0 ?hR;case hS0=>exact J.at λo e=>bYm _ e
    case hR=>
     intro h' tk hk p;show bYp _ _ _ _ _ _;refine bYn ?_;show bYp _ _ (ret Value.none) _ _ _;refine bYn ⟨rfl,h',tk,rfl,p,λb o e=>?_⟩;have K:=bYv e;refine hk b o (λz=>?_) (bYm _ (k _ _ e));simp only[bYq,cXS,or_false]at z;rcases z with z|z
     ·exact bYI K z
     ·rw[z]at K;have q:H.objs.size<s.heap.objs.size:=K;rw[d]at q;exact absurd q (Nat.not_lt.mpr (cXq _))
   ·cases M with
    |error e=>exact a
    |ok n=>
     cases n with
     |ret r=>
      obtain⟨rfl,h',tk,rfl,p,X⟩:=a;repeat (any_goals (first|assumption|wp_step))
      exact h _ _ p X
     |_=>exact a.elim
  |_=>exact V.elim
end
end Stb
namespace L2
open PySem PySem.Spec PyProof.Rows
section
variable {X:Cx}{tg:Expr}
end
section
variable {X:Cx}
theorem x6:qD X (.builtin "isinstance") (λa H Q=>∃x c t b,a= [x,.ty c]/\aJp X.K H x t/\bY9 X.K t (.type c)=some b/\Q (.bl b) H):=by
 intro d s σ H a i Q I r h;obtain⟨x,c,t,b,rfl,ty,e,q⟩:=h;obtain⟨u,v,rfl,f,g⟩:=xV.two r;cases g;exact aK6 I f ty e λtk=>⟨.bl b,H,I.tok tk,rfl,q⟩
def bWZ(w:bYL)(a:Nat)(b:List Int):HO:= .ext λh=>Stb.aQ9 w h a b
theorem bQ1(G:X.calm=true):qD X (.type "set") (λn H Q=>∃ (p:Nat)(b:List Int),n= [.ref p]/\SqL X.K H p (b.map V.int)/\b.length<4000/\∀ (l:Nat)(c:List Int),H l=none->c.Nodup->c.length<=b.length->(∀d,d∈c↔d∈b)->Q (.ref l) (upd H l (bWZ X.w l c))):=by
 intro y s σ H n U Q I r h;obtain⟨p,b,rfl,E,R,q⟩:=h;obtain⟨u,rfl,B⟩:=aQ6 r;cases B;obtain⟨a,D,F,S⟩:=I.list E;have v:cXO a b:=aXn D;have x:a.length=b.length:=v.length;refine Stb.zT (I.ok.hd G) F.isList (by simpa using v) (by rw[bYA];unfold cZI;omega) λO tk f J=>?_;rw[bYA]at f;have g:(Stb.met (λi=>b.getD i 0) a.length).Nodup:=by obtain⟨o,L,M,t,T,_,_,_,_,_,g,_⟩:=f;exact g
 have hl:=Stb.aJJ (λi=>b.getD i 0) a.length;refine⟨.ref s.heap.objs.size,_,I.laid (t':=tk) (o:=bWZ X.w s.heap.objs.size (Stb.met (λi=>b.getD i 0) a.length)) J (bYo _) ⟨f,f.there,λN P z k=>z.at k⟩,rfl,q _ _ I.fresh g (by omega) λd=>?_⟩;rw[Stb.aYm];constructor
 ·rintro⟨j,A,rfl⟩;have m:j<b.length:=by omega
  simp[bY1,bYg m]
 ·intro C;obtain⟨j,A,e⟩:=bY8 C;exact⟨j,by omega,by simp[bY1,bYg A,e]⟩
theorem aXa(z:X.calm=true):qD X (.builtin "sorted") (λm H Q=>∃ (p:Nat)(f:List Int),m= [.ref p]/\H p=some (bWZ X.w p f)/\f.length<64/\∀ (l:Nat)(b:List Int),H l=none->b.Perm f->b.Pairwise (·<=·)->Q (.ref l) (upd H l (.lst (b.map V.int)))):=by
 intro c s σ H m E Q I r h;obtain⟨p,f,rfl,A,i,q⟩:=h;obtain⟨u,rfl,t⟩:=aQ6 r;cases t;obtain⟨B,_,_⟩:=(show zE X.prog X.w H s.heap p (bWZ X.w p f)from I.hok p _ A);refine Stb.aKv (I.ok.hd z) B i λl o tk d g b n hl D C x e k=>?_;have y:H l=none:=I.hok.fresh hl;have j:b.length<=bYJ:=by rw[e.length_eq,bYQ];omega
 have a:Inv X c σ (upd H l (.lst (b.map V.int))) {s with heap:=o,toks:=tk}:=I.laid D hl ⟨by rw[bYl];exact j,g,n,jC x,C⟩;have v:Inv X c σ (upd H l (.lst (b.map V.int))) {s with heap:=o,toks:=tk,drawn:=d}:=by refine⟨a.ok,a.os,a.bare,a.base,a.loc,a.cell,a.free,a.freeC,a.pin,a.hok,a.len⟩
 exact⟨.ref l,_,v,rfl,q l b y e k⟩
theorem aVa(n d:Nat)(a:Nat):HT.sIx n d (some (a:Int))=min a n:=by
 unfold HT.sIx;simp only;split<;> omega
end
end L2
namespace L2
open PySem PySem.Spec PyProof.Rows
theorem uL(K:bYj):bY9 K (.type "NoneType") (.type "list")=some false:=by kernel_rfl
theorem vX(K:bYj):bY9 K (.type "NoneType") (.type "tuple")=some false:=by kernel_rfl
theorem W0(K:bYj):bY9 K (.type "bool") (.type "bool")=some true:=by kernel_rfl
theorem aJH(K:bYj):bY9 K (.type "bool") (.type "int")=some true:=by kernel_rfl
theorem qF(K:bYj):bY9 K (.type "bool") (.type "str")=some false:=by kernel_rfl
theorem aZG(K:bYj):bY9 K (.type "bool") (.type "list")=some false:=by kernel_rfl
theorem aXI(K:bYj):bY9 K (.type "bool") (.type "tuple")=some false:=by kernel_rfl
theorem qG(K:bYj):bY9 K (.type "int") (.type "bool")=some false:=by kernel_rfl
theorem aXo(K:bYj):bY9 K (.type "int") (.type "int")=some true:=by kernel_rfl
theorem jI(K:bYj):bY9 K (.type "int") (.type "str")=some false:=by kernel_rfl
theorem aQn(K:bYj):bY9 K (.type "int") (.type "list")=some false:=by kernel_rfl
theorem W1(K:bYj):bY9 K (.type "int") (.type "tuple")=some false:=by kernel_rfl
theorem aQo(K:bYj):bY9 K (.type "str") (.type "bool")=some false:=by kernel_rfl
theorem aWD(K:bYj):bY9 K (.type "str") (.type "int")=some false:=by kernel_rfl
theorem vY(K:bYj):bY9 K (.type "str") (.type "str")=some true:=by kernel_rfl
theorem aQp(K:bYj):bY9 K (.type "str") (.type "list")=some false:=by kernel_rfl
theorem W3(K:bYj):bY9 K (.type "str") (.type "tuple")=some false:=by kernel_rfl
theorem x4(K:bYj):bY9 K (.type "list") (.type "list")=some true:=by kernel_rfl
theorem z7(K:bYj):bY9 K (.type "list") (.type "tuple")=some false:=by kernel_rfl
theorem x9(K:bYj):bY9 K (.type "tuple") (.type "list")=some false:=by kernel_rfl
theorem zQ(K:bYj):bY9 K (.type "tuple") (.type "tuple")=some true:=by kernel_rfl
section
variable {X:Cx}{pins:List (Nat×Obj)}{σ:St}{H:Hp}{s:bYk}
theorem aWA{A:bYZ}{E:bYh->bYk->Prop}{Q:bYh->bYk->Prop}{x:V}{u t:bYh}{tp:Nat}{cs:List bYh}{b:Bool}(I:Inv X pins σ H s)(f:zM x u)(ty:aJp X.K H x t) (m:cZc s.heap tp cs.toArray) (e:PySem.W.kitAny X.K t cs=some b) (h:∀tk,Q (.bool b) {s with toks:=tk}):bYp (bYr X.prog X.w) A (call (.builtin "isinstance") [u,.ref tp]) Q E s:=by
 obtain⟨⟨cls,Y,data,U⟩,d,B,n,v⟩:=m;simp only at B v;subst B v;cases ty with
 |non=>cases (show u=Value.none from f);exact cQU PySem.W.kitx_none I.kIn cQF d e (λz=>nomatch z) h
 |bl y=>cases (show u=Value.bool y from f);exact cQU PySem.W.kitx_bool I.kIn cQF d e (λz=>nomatch z) h
 |int i=>obtain⟨t,q⟩:=(show ∃t,u=Value.int i t from f);cases q;exact cQU PySem.W.kitx_int I.kIn cQF d e (λz=>nomatch z) h
 |str y=>obtain⟨t,q⟩:=(show ∃t,u=Value.str y t from f);cases q;exact cQU PySem.W.kitx_str I.kIn cQF d e (λz=>nomatch z) h
 |flt y=>obtain⟨t,q⟩:=(show ∃t,u=Value.float y t from f);cases q;exact cQU PySem.W.kitx_float I.kIn cQF d e (λz=>nomatch z) h
 |@lst a k c=>cases (show u=Value.ref a from f);obtain⟨_,_,n,_,g⟩:=(show zE X.prog X.w H s.heap a (.lst k)from I.hok a _ c);exact cQU cZL I.kIn ⟨_,g,rfl⟩ d e (λz=>nomatch z) h
 |@frz a M k c=>cases (show u=Value.ref a from f);obtain⟨_,_,_,n,_,g⟩:=(show zE X.prog X.w H s.heap a (.frz M (.lst k))from I.hok a _ c);exact cQU cZL I.kIn ⟨_,g,rfl⟩ d e (λz=>nomatch z) h
 |@tup a k c=>cases (show u=Value.ref a from f);obtain⟨_,_,_,p⟩:=(show zE X.prog X.w H s.heap a (.tup k)from I.hok a _ c);obtain⟨o,g,l,_⟩:=p;exact cQU PySem.W.kitx_tuple I.kIn ⟨o,g,l⟩ d e (λz=>nomatch z) h
 |@dK a j c=>cases (show u=Value.ref a from f);obtain⟨_,_,P,_,p⟩:=(show zE X.prog X.w H s.heap a (.dK j)from I.hok a _ c);obtain⟨o,D,G,g,l,_⟩:=p;exact cQU cZK I.kIn ⟨o,g,l.1⟩ d e (λz=>nomatch z) h
 |@dT a j c=>cases (show u=Value.ref a from f);obtain⟨_,_,k,_,o,D,G,g,l,_⟩:=(show zE X.prog X.w H s.heap a (.dT j)from I.hok a _ c);exact cQU cZK I.kIn ⟨o,g,l.1⟩ d e (λz=>nomatch z) h
 |@ins a C T fs c cl F L r N=>cases (show u=Value.ref a from f);obtain⟨S,O,_⟩:=aQj I.hok c;obtain⟨R,J,_⟩:=O.look;exact cQU (PySem.W.kitx_own (cl.get _) cl.hd F L r N) I.kIn J d e (λz=>nomatch z) h
end
section
variable {X:Cx}
theorem qS:qD X (.builtin "isinstance") (λe H Q=>∃x p c d t b a,e= [x,.ref p]/\SqT X.K H p [.ty c,.ty d]/\aJp X.K H x t/\bY9 X.K t (.type c)=some b/\bY9 X.K t (.type d)=some a/\Q (.bl (b || a)) H):=by
 intro pins s σ H e A Q I r h;obtain⟨x,p,c,d,t,b,a,rfl,o,ty,w,g,q⟩:=h;obtain⟨u,v,rfl,f,i⟩:=xV.two r;cases i;obtain⟨k,j,n,_⟩:=I.tuple o;obtain⟨z,y,rfl,l,m⟩:=xV.two j;cases l;cases m;refine aWA I f ty n (b:=b || a) ?_ λtk=>⟨.bl (b || a),H,I.tok tk,rfl,q⟩;unfold PySem.W.kitAny;rw[w];cases b
 ·simp only[Bool.false_or];unfold PySem.W.kitAny;rw[g];cases a<;> rfl
 ·rfl
def bWQ(K:bYj):R2:=λx y H Q=>∃a b c,x= .ref a/\y= .ref b/\SqL K H a c/\SqL K H b []/\Q (.bl c.isEmpty) H
def bWR(K:bYj):R2:=λx y H Q=>∃a b c,x= .ref a/\y= .ref b/\SqL K H a c/\SqL K H b []/\Q (.bl (!c.isEmpty)) H
theorem aVM(f:X.A.units<cLine):OpR X (cQN .Eq) (bWQ X.K):=by
 intro pins s σ H x y v u Q I k n h;obtain⟨a,b,r,rfl,rfl,g,o,q⟩:=h;cases k;cases n;obtain⟨w,m,d,_⟩:=I.list g;obtain⟨p,i,c,_⟩:=I.list o;cases i;cases m with
 |nil=>exact SeqAt.eq_listAt (e:=λ_=>true) d.isList c.isList rfl f (λj l t=>absurd l (cQ3 _)) ⟨.bl true,H,I,rfl,q⟩
 |cons _ _=>exact SeqAt.eq_list_lengthsAt d.isList c.isList (by simp) f ⟨.bl false,H,I,rfl,q⟩
theorem vR(f:X.A.units<cLine):OpR X (cQN .NotEq) (bWR X.K):=by
 intro pins s σ H x y v u Q I k n h;obtain⟨a,b,r,rfl,rfl,g,o,q⟩:=h;cases k;cases n;obtain⟨B,m,d,_⟩:=I.list g;obtain⟨p,i,c,_⟩:=I.list o;cases i;cases m with
 |nil=>have z:=SeqAt.RcNeAt.lists (A:=X.A) (s:=s) (e:=λ_=>true) d.isList c.isList rfl f (λj l t=>absurd l (cQ3 _));exact z X.prog X.w X.xe _ ⟨.bl false,H,I,rfl,q⟩
 |cons _ _=>exact(SeqAt.RcNeAt.lists_lengths d.isList c.isList (by simp) f) X.prog X.w X.xe _ ⟨.bl true,H,I,rfl,q⟩
structure FnG(P:bYD)(w:bYL)(K:bYj)(mg:Str->Option bYh)(base:Heap)(k:Nat)(x:Str)(ps:List Str)(sp:Sp):Prop where
 ex:∃f fd,xE P w K mg base CX0 k f fd ps sp/\v6 K fd ps []/\cQd K (.ref f)=true/\mg x=some (.ref f)
theorem FnG.mono{P:bYD}{w:bYL}{K:bYj}{mg:Str->Option bYh}{base:Heap}{j k:Nat}{x:Str}{c:List Str}{sp:Sp}(G:FnG P w K mg base j x c sp)(h:j<=k):FnG P w K mg base k x c sp:=
 let ⟨f,fd,a,b⟩:=G.ex;⟨f,fd,a.mono h,b⟩
theorem xJ{k:Nat}{x:Str}{l:List Str}{sp:Sp}{e:Expr}{a:List Expr}{t:TA}{p pos:Pos}(G:FnG X.prog X.w X.K X.mg X.base k x l sp)(j:vW k X.A)(n:Gl X x)(h:PA X (e::a) t)
  (c:(x==("__debug__":Str))=false:=by decide) (i:bYX (e::a) X.env=(false,eval e X.env)::bYX a X.env:=by rfl) (d:(cQV pos (bYX a X.env)).any (·.1)=false:=by rfl):
  PE X (.Call (.Name x p) (e::a) [] pos) (bZC sp [] E0 t):=by
 obtain⟨f,o,F,b,g,m⟩:=G.ex
 exact aYP F j n m g b .nil v0 h c i d
end
inductive Dt where
 |non|bl (b:Bool)|int (n:Int)|str (x:Str)|lst (ds:List Dt)|tup (ds:List Dt)
mutual
def Is(H:Hp):V->Dt->Prop
 |v,.non=>v= .non
 |v,.bl b=>v= .bl b
 |v,.int n=>v= .int n
 |v,.str x=>v= .str x
 |v,.lst ds=>∃a c,v= .ref a/\H a=some (.lst c)/\zW H c ds
 |v,.tup ds=>∃a c,v= .ref a/\H a=some (.tup c)/\zW H c ds
def zW(H:Hp):List V->List Dt->Prop
 |[],[]=>True
 |x::xs,d::ds=>Is H x d/\zW H xs ds
 |_,_=>False
end
mutual
def Dt.size:Dt->Nat
 |.lst a=>1+zH a
 |.tup a=>1+zH a
 |_=>1
def zH:List Dt->Nat
 |[]=>0
 |d::ds=>d.size+zH ds
end
theorem zW.length{H:Hp}:∀ {xs:List V} {ds:List Dt},zW H xs ds->xs.length=ds.length
 |[],[],_=>rfl
 |_::xs,_::ds,h=>by unfold zW at h;simp[zW.length h.2]
 |[],_::_,h=>by unfold zW at h;exact h.elim
 |_::_,[],h=>by unfold zW at h;exact h.elim
theorem zW.get{H:Hp}:∀ {xs:List V} {ds:List Dt} {i:Nat} {d:Dt},zW H xs ds->ds[i]? =some d->∃x,xs[i]? =some x/\Is H x d
 |x::xs,d::ds,0,_,h,e=>by unfold zW at h;simp at e;subst e;exact⟨x,rfl,h.1⟩
 |_::xs,_::ds,i+1,d,h,e=>by unfold zW at h;simpa using zW.get (i:=i) (d:=d) h.2 (by simpa using e)
 |[],[],_,_,_,e=>by simp at e
 |[],_::_,_,_,h,_=>by unfold zW at h;exact h.elim
 |_::_,[],_,_,h,_=>by unfold zW at h;exact h.elim
theorem zC{t u:TS}{D:aKB}{σ:L2.St}{H:Hp}(R:L2.St->Hp->Prop)(d:∀a b,R a b->u D a b)(c:(∀a b,R a b->u D a b)->t {D with nx:=u D} σ H):bKl t u D σ H:=c d
theorem onT{c:Bool}{A B:Prop}(e:c=true)(h:A):if c=true then A else B:=by rw[e];exact h
theorem onF{c:Bool}{A B:Prop}(e:c=false)(h:B):if c=true then A else B:=by rw[e];exact h
theorem z0:([]:List V).length<=bYJ:=by decide
theorem z1{a:V}: [a].length<=bYJ:=by show 1<=bYJ;decide
theorem z2{a b:V}: [a,b].length<=bYJ:=by show 2<=bYJ;decide
theorem z3{a b c:V}: [a,b,c].length<=bYJ:=by show 3<=bYJ;decide
theorem z4{a b c d:V}: [a,b,c,d].length<=bYJ:=by show 4<=bYJ;decide
theorem z5{a b c d e:V}: [a,b,c,d,e].length<=bYJ:=by show 5<=bYJ;decide
theorem zn{l:List V}(h:l.length<=100000):l.length<=bYJ:=by rw[bYQ];omega
theorem zlt{l:List V}(h:l.length<=100000):l.length<bYJ:=by rw[bYQ];omega
theorem xC.fresh{H a:Hp}(k:xC H a){p:Nat}(h:a p=none):H p=none:=by
 cases e:H p with
 |none=>rfl
 |some o=>rw[k _ _ e]at h;cases h
theorem yG{H:Hp}{p:Nat}(h:H p=none)(o:HO):xC H (upd H p o):=λb u q=>by rw[yI (yJ q h)];exact q
end L2
namespace Rvl
open PySem PyProof.Rows
section
variable {prog:bYD}{w:bYL}{A:bYZ}{E:bYh->bYk->Prop}{s:bYk}
end
end Rvl
namespace L2
open PySem PySem.Spec PyProof.Rows
section
variable {X:Cx}
end
end L2
namespace L2
open PySem PySem.Spec PyProof.Rows
theorem Q3{n:Nat}{h:List Nat}{d:TT}{k:TE}{σ:St}{D:Nat}{Q:VK}{H:Hp}(p:Nat->Bool)(f:Nat->V)(B:H D=none)(hz:n<=bYJ) (t:∀i,i<n->∀ (c:Hp)(R:Bool->Hp->Prop),(∀b,b≠D->c b=H b)->R (p i) c->d (sub σ h (some (.int (i:Nat)))) c R) (q:∀i,i<n->p i=true->∀ (c:Hp)(R:VK),(∀b,b≠D->c b=H b)->R (f i) c->k (sub σ h (some (.int (i:Nat)))) c R) (u:Q (.ref D) (upd H D (.lst (((bYu n).filter p).map f)))):bV5 (Itr 0 n) h d k σ D Q (upd H D (.lst [])):=by
 refine⟨λi m j c=>m=n - i/\i<=n/\j=((bYu i).filter p).map f/\c=upd H D (.lst j),⟨n,by simp,cQf _,by simp,rfl⟩,?_⟩;rintro i m j c ⟨rfl,z,rfl,rfl⟩;refine⟨yB,?_⟩;by_cases a:i<n
 ·refine .inr ⟨a,λv y s=>?_⟩;obtain⟨x,o⟩:=s;subst x;subst o;rw[cXr];have g:∀b,b≠D->upd H D (.lst (((bYu i).filter p).map f)) b=H b:=λb w=>yI w;have e:(((bYu i).filter p).map f).length<bYJ:=by
   rw[bYl];have r:=cQh p (bYu i);rw[cQa]at r;omega
  refine t i a _ _ g ?_;cases l:p i with
  |false=>show ∃A,_;refine⟨n - (i+1),by omega,rfl,a,?_,rfl⟩;rw[cXH,cQr,cQX (by rw[l];decide)];simp
  |true=>show k _ _ _;refine q i a l _ _ g ⟨e,yB,n - (i+1),by omega,rfl,a,?_,by rw[jB]⟩;rw[cXH,cQr,cQY l];simp
 ·obtain rfl:i=n:=by omega
  exact .inl ⟨bYo _,u⟩
end L2
namespace Stree
open PySem PySem.W PyProof.Rows
def Asks{α:Type}(n:Nat)(lt:Nat->Nat->Bool):KasT α->(α->Prop)->Prop
 |.ret a,Q=>Q a
 |.ask i j k,Q=>i<n/\j<n/\Asks n lt (k (lt i j)) Q
theorem Asks.bind{α β:Type}{n:Nat}{lt:Nat->Nat->Bool}{f:α->KasT β}{Q:β->Prop}:∀ {t:KasT α} {R:α->Prop},Asks n lt t R->(∀a,R a->Asks n lt (f a) Q)->Asks n lt (t.bind f) Q
 |.ret a,R,h,hf=>hf a h
 |.ask i j k,R,h,hf=>⟨h.1,h.2.1,Asks.bind (t:=k (lt i j)) h.2.2 hf⟩
theorem Asks.wp{α:Type}{n:Nat}{lt:Nat->Nat->Bool}{b:Nat->Nat->(Bool->bYk->Prop)->bYk->Prop}{s:bYk}{G:α->bYk->Prop}(c:∀i j C,i<n->j<n->C (lt i j) s->b i j C s):
  ∀ {t:KasT α} {R:α->Prop},Asks n lt t R->(∀a,R a->G a s)->t.kasWp b G s
 |.ret a,R,h,hf=>hf a h
 |.ask i j k,R,h,hf=>c i j _ h.1 h.2.1 (Asks.wp c (t:=k (lt i j)) h.2.2 hf)
section
variable {n:Nat}{r:Nat->Int}{p:Array Nat}
abbrev W5(r:Nat->Int):Nat->Nat->Bool:=λi j=>decide (r i<r j)
abbrev R(r:Nat->Int)(p:Array Nat)(k:Nat):Int:=r (p.getD k 0)
structure Ok(n:Nat)(p:Array Nat):Prop where
 perm:p.toList.Perm (bYu n)
theorem Ok.size(h:Ok n p):p.size=n:=by have:=h.perm.length_eq;simpa using this
theorem Ok.lt(h:Ok n p)(h0:0<n)(k:Nat):p.getD k 0<n:=by
 by_cases a:k<p.size
 ·have:p.toList[k]'(by simpa using a)∈p.toList:=cXm _;have:=bYS.mp (h.perm.mem_iff.mp this);simpa[cXM,a]using this
 ·simpa[cXM,a]using h0
theorem Ok.ne(h:Ok n p){i j:Nat}(f:i<n)(k:j<n)(c:i≠j):p.getD i 0≠p.getD j 0:=by
 have g:=h.size;have d:p.toList.Nodup:=h.perm.nodup_iff.mpr cZp;intro e;have a:i<p.size:=by omega
 have b:j<p.size:=by omega
 simp[cXM,a,b]at e;have:=(cQ6 (xs:=p.toList) (h₀:=by simpa using a) (h₁:=by simpa using b) d).mp (by simpa using e);exact c this
def Inj(n:Nat)(r:Nat->Int):Prop:=∀i j,i<n->j<n->r i=r j->i=j
theorem Ok.rne(h:Ok n p)(c:Inj n r){i j:Nat}(b:i<n)(d:j<n)(a:i≠j):R r p i≠R r p j:=λe=>
 h.ne b d a (c _ _ (h.lt (by omega) i) (h.lt (by omega) j) e)
def Srt(r:Nat->Int)(p:Array Nat)(k:Nat):Prop:=∀i j,i<j->j<k->R r p i<R r p j
def Dsc(r:Nat->Int)(p:Array Nat)(k:Nat):Prop:=∀i j,i<j->j<k->R r p j<R r p i
theorem Srt.one:Srt r p 1:=λi j a b=>by omega
theorem aXG(p:Array Nat)(k:Nat):p.getD k 0=(p[k]?).getD 0:=by simp[cXM,cXJ];split<;> simp_all
theorem aZl(h:Ok n p)(hr:Inj n r):∀ (f m:Nat),1<=m->m+f<=n->Srt r p m->Asks n (W5 r) (kas_asc p f m) (λm'=>m<=m'/\m'<=m+f/\Srt r p m'/\(m'<m+f->R r p m'<R r p (m' - 1)))
 |0,m,h1,h2,hs=>⟨bYo _,bYo _,hs,λz=>absurd z (by omega)⟩
 |f+1,m,h1,h2,hs=>by
  refine⟨h.lt (by omega) _,h.lt (by omega) _,?_⟩
  by_cases c:r (p.getD m 0)<r (p.getD (m - 1) 0)
  ·have e:W5 r (p.getD m 0) (p.getD (m - 1) 0)=true:=decide_eq_true c
   rw[e];show Asks n (W5 r) (ite _ _ _) _;rw[if_pos rfl]
   exact⟨bYo _,by omega,hs,λ_=>c⟩
  ·have e:W5 r (p.getD m 0) (p.getD (m - 1) 0)=false:=decide_eq_false c
   rw[e];show Asks n (W5 r) (ite _ _ _) _;rw[if_neg (by decide)]
   have hne:=h.rne hr (i:=m) (j:=m - 1) (by omega) (by omega) (by omega)
   have hlt:R r p (m - 1)<R r p m:=by
    have:¬R r p m<R r p (m - 1):=c
    omega
   have hs':Srt r p (m+1):=λi j hij hj=>by
    by_cases hjm:j<m
    ·exact hs i j hij hjm
    ·have:j=m:=by omega
     subst this
     by_cases hi:i=j - 1
     ·rw[hi];exact hlt
     ·have:=hs i (j - 1) (by omega) (by omega);omega
   have z:=aZl h hr f (m+1) (by omega) (by omega) hs'
   have e2:m+1+f=m+(f+1):=by omega
   rw[e2]at z
   exact Asks.mono z λm' ⟨a,b,c,d⟩=>⟨by omega,b,c,d⟩
where
 Asks.mono {α:Type} {n:Nat} {lt:Nat->Nat->Bool} {Q Q':α->Prop}:∀ {t:KasT α},Asks n lt t Q->(∀a,Q a->Q' a)->Asks n lt t Q'
  |.ret a,h,hf=>hf a h
  |.ask i j k,h,hf=>⟨h.1,h.2.1,Asks.mono (t:=k (lt i j)) h.2.2 hf⟩
theorem aKU(h:Ok n p)(q:Inj n r):∀ (f m:Nat),1<=m->m+f<=n->Dsc r p m->Asks n (W5 r) (kas_desc f p m 0) (λz=>z.1=p/\z.2.2=0/\m<=z.2.1/\z.2.1<=m+f/\Dsc r p z.2.1)
 |0,m,h1,h2,hs=>⟨rfl,rfl,bYo _,bYo _,hs⟩
 |f+1,m,h1,h2,hs=>by
  refine⟨h.lt (by omega) _,h.lt (by omega) _,?_⟩;by_cases c:r (p.getD m 0)<r (p.getD (m - 1) 0)
  ·have e:W5 r (p.getD m 0) (p.getD (m - 1) 0)=true:=decide_eq_true c;rw[e];show Asks n (W5 r) (ite _ _ _) _;rw[if_pos rfl,if_neg (by omega)];have g:Dsc r p (m+1):=λi j o w=>by
    by_cases l:j<m
    ·exact hs i j o l
    ·have:j=m:=by omega
     subst this;have t:R r p j<R r p (j - 1):=c;by_cases s:i=j - 1
     ·rw[s];exact t
     ·have:=hs i (j - 1) (by omega) (by omega);omega
   have z:=aKU h q f (m+1) (by omega) (by omega) g;have u:m+1+f=m+(f+1):=by omega
   rw[u]at z;exact aZl.Asks.mono z λz ⟨a,b,c,d,e⟩=>⟨a,b,by omega,d,e⟩
  ·have e:W5 r (p.getD m 0) (p.getD (m - 1) 0)=false:=decide_eq_false c;rw[e];show Asks n (W5 r) (ite _ _ _) _;rw[if_neg (by decide)];refine⟨h.lt (by omega) _,h.lt (by omega) _,?_⟩;have v:=h.rne q (i:=m) (j:=m - 1) (by omega) (by omega) (by omega);have k:R r p (m - 1)<R r p m:=by
    have:¬R r p m<R r p (m - 1):=c;omega
   have e:W5 r (p.getD (m - 1) 0) (p.getD m 0)=true:=decide_eq_true k;rw[e];show Asks n (W5 r) (ite _ _ _) _;rw[if_pos rfl];exact⟨rfl,rfl,bYo _,Nat.le_add_right _ _,hs⟩
theorem bWf{m:Nat}(a:m<=p.size)(k:Nat)(b:k<m):R r (kas_rev p 0 m) k=R r p (m - 1 - k):=by
 unfold R kas_rev;rw[aXG,aXG,getElem?_mirror_all a,if_pos ⟨cQf _,b⟩,Nat.zero_add]
theorem bJd(h:Ok n p)(m:Nat):Ok n (kas_rev p 0 m):=⟨(cJp.mp (mirror_perm p 0 m _)).trans h.perm⟩
theorem bZH(h:Ok n p)(f:Inj n r){m:Nat}(g:1<=m)(e:m<=n)(k:Dsc r p m):Asks n (W5 r) (kas_tail3 m n p) (λz=>1<=z.1/\z.1<=n/\Ok n z.2/\Srt r z.2 z.1):=by
 have d:Srt r (kas_rev p 0 m) m:=λi j l o=>by rw[bWf (by rw[h.size];exact e) i (by omega),bWf (by rw[h.size];exact e) j o];exact k _ _ (by omega) (by omega)
 refine Asks.bind (aZl (bJd h m) f (n - m) m g (by omega) d) λm' ⟨a,b,c,_⟩=>?_;exact⟨by omega,by omega,bJd h m,c⟩
theorem bQ4(h:Ok n p)(f:Inj n r)(y:1<=n):Asks n (W5 r) (kas_count n p) (λz=>1<=z.1/\z.1<=n/\Ok n z.2/\Srt r z.2 z.1):=by
 refine Asks.bind (aZl h f (n - 1) 1 (bYo _) (by omega) Srt.one) λm ⟨a,b,c,d⟩=>?_;by_cases e:m=n
 ·rw[if_pos (by simpa using e)];exact⟨a,by omega,h,c⟩
 ·rw[if_neg (by simpa using e)];by_cases k:m > 1
  ·rw[if_pos k];refine⟨h.lt (by omega) _,h.lt (by omega) _,?_⟩;have g:R r p 0<R r p (m - 1):=c 0 (m - 1) (by omega) (by omega);have w:W5 r (p.getD 0 0) (p.getD (m - 1) 0)=true:=decide_eq_true g;rw[w];show Asks n (W5 r) (ite _ _ _) _;rw[if_pos rfl];exact⟨a,by omega,h,c⟩
  ·rw[if_neg k];have u:m=1:=by omega
   subst u;have v:=d (by omega);refine Asks.bind (aKU h f (n - 2) 2 (by omega) (by omega) ?_) λz ⟨z1,z2,z3,z4,z5⟩=>?_
   ·intro i j x o;have s:i=0:=by omega
    have o:j=1:=by omega
    subst s;subst o;exact v
   ·obtain⟨q,l,t⟩:=z;simp only at z1 z2 z3 z4 z5;subst z1;subst z2;rw[if_neg (by simp)];exact bZH h f (by show 1<=l;omega) (by show l<=n;omega) z5
theorem aXO(h:Ok n p)(o:Inj n r){k:Nat}(t:k<n)(b:Srt r p k):∀ (f l u:Nat),l<=u->u<=k->u - l<=f->(∀i,i<l->R r p i<R r p k)->(∀i,u<=i->i<k->R r p k<R r p i)->
  Asks n (W5 r) (kas_place p k f l u) (λq=>q<=k/\(∀i,i<q->R r p i<R r p k)/\∀i,q<=i->i<k->R r p k<R r p i)
 |0,l,u,h1,h2,h3,h4,h5=>⟨by omega,h4,λi g a=>h5 i (by omega) a⟩
 |f+1,l,u,h1,h2,h3,h4,h5=>by
  unfold kas_place;by_cases c:l≥u
  ·rw[if_pos c];exact⟨by omega,h4,λi g a=>h5 i (by omega) a⟩
  ·rw[if_neg c];refine⟨h.lt (by omega) _,h.lt (by omega) _,?_⟩;have w:(l+u) / 2<u:=by omega
   have hl:l<=(l+u) / 2:=by omega
   by_cases d:r (p.getD k 0)<r (p.getD ((l+u) / 2) 0)
   ·have e:W5 r (p.getD k 0) (p.getD ((l+u) / 2) 0)=true:=decide_eq_true d;rw[e];show Asks n (W5 r) (ite _ _ _) _;rw[if_pos rfl];refine aXO h o t b f l _ hl (by omega) (by omega) h4 λi g a=>?_;have s:R r p k<R r p ((l+u) / 2):=d;by_cases m:i=(l+u) / 2
    ·rw[m];exact s
    ·have:=b ((l+u) / 2) i (by omega) a;omega
   ·have e:W5 r (p.getD k 0) (p.getD ((l+u) / 2) 0)=false:=decide_eq_false d;rw[e];show Asks n (W5 r) (ite _ _ _) _;rw[if_neg (by decide)];have s:¬R r p k<R r p ((l+u) / 2):=d;have v:=h.rne o (i:=k) (j:=(l+u) / 2) (by omega) (by omega) (by omega);refine aXO h o t b f _ u (by omega) h2 (by omega) (λi g=>?_) h5;by_cases m:i=(l+u) / 2
    ·rw[m];omega
    ·have:=b i ((l+u) / 2) (by omega) (by omega);omega
theorem bWe{k l:Nat}(h:k<p.size)(hl:l<=k)(i:Nat):R r (bubble p k (k - l)) i=if i=l then R r p k else if l<i/\i<=k then R r p (i - 1)else R r p i:=by
 have e:=getElem?_bubble h (k - l) (by omega) i;rw[show k - (k - l)=l by omega]at e;have d:∀q:Array Nat,∀a b:Nat,∀c:Array Nat,q[a]? =c[b]? ->R r q a=R r c b:=λq a b c z=>by unfold R;rw[aXG,aXG,z]
 by_cases f:i=l
 ·rw[if_pos f]at e ⊢;exact d _ _ _ _ e
 ·rw[if_neg f]at e ⊢;by_cases g:l<i/\i<=k
  ·rw[if_pos g]at e ⊢;exact d _ _ _ _ e
  ·rw[if_neg g]at e ⊢;exact d _ _ _ _ e
theorem bZW(g:Inj n r):∀ (f k:Nat)(p:Array Nat),Ok n p->k+f=n->Srt r p k->Asks n (W5 r) (kas_bin f p k) (λc=>Ok n c/\Srt r c n)
 |0,k,p,h,e,hs=>⟨h,by rw[<- e];exact hs⟩
 |f+1,k,p,h,e,hs=>by
  refine Asks.bind (aXO h g (k:=k) (by omega) hs k 0 k (by omega) (bYo _) (by omega) (λi d=>absurd d (by omega)) (λi d b=>absurd b (by omega))) λl ⟨h1,h2,h3⟩=>?_;refine bZW g f (k+1) _ ⟨(cJp.mp (bubble_perm p k _)).trans h.perm⟩ (by omega) λi j t u=>?_;have s:k<p.size:=by rw[h.size];omega
  rw[bWe s h1,bWe s h1];by_cases q:i=l
  ·rw[if_pos q];by_cases a:j=l
   ·omega
   ·rw[if_neg a,if_pos ⟨by omega,by omega⟩];exact h3 _ (by omega) (by omega)
  ·rw[if_neg q];by_cases a:j=l
   ·rw[if_pos a,if_neg (by omega)];exact h2 i (by omega)
   ·rw[if_neg a];by_cases m:l<i/\i<=k
    ·rw[if_pos m,if_pos ⟨by omega,by omega⟩];exact hs _ _ (by omega) (by omega)
    ·rw[if_neg m];by_cases o:l<j/\j<=k
     ·rw[if_pos o];by_cases cl:i=j - 1
      ·omega
      ·exact hs _ _ (by omega) (by omega)
     ·rw[if_neg o];exact hs _ _ (by omega) (by omega)
theorem bVS(a:Inj n r)(b:1<=n):Asks n (W5 r) (kas_sort n) (λp=>Ok n p/\Srt r p n):=by
 have h0:Ok n (cQp (bYu n)):=⟨by simp⟩;refine Asks.bind (bQ4 h0 a b) λz ⟨h1,h2,h3,h4⟩=>?_;by_cases c:z.1<n
 ·rw[if_pos c,Nat.max_eq_left h1];exact bZW a _ _ _ h3 (by omega) h4
 ·rw[if_neg c];exact⟨h3,by rw[show n=z.1 by omega];exact h4⟩
theorem aZ9(e:Inj n r)(f:1<=n):Asks n (W5 r) (kas_sort n) (λp=>p.toList.Perm (bYu n)/\p.toList.Pairwise (λi j=>r i<r j)):=by
 refine aZl.Asks.mono (bVS e f) λp ⟨h1,h2⟩=>⟨h1.perm,?_⟩;rw[cXN];intro i j d g c;have b:i<p.size:=by simpa using d
 have a:j<p.size:=by simpa using g
 have z:=h2 i j c (by rw[<- h1.size];exact a);simpa[R,cXM,b,a]using z
end
end Stree
namespace Stree
open PySem PySem.W PySem.Calls PyProof.Rows
section
variable {prog:bYD}{w:bYL}{A:bYZ}{E:bYh->bYk->Prop}
theorem aZx{f:bYh}{vs:List bYh}{kS:Nat}{J:List bYh->bYk->Prop}{body:bYh->PUnit->Sem (ForInStep PUnit)}
  (e:∀a s v,J a s->vs[a.length]? =some v->bYp (bYr prog w) A (body v ⟨⟩) (λr b=>r= .yield ⟨⟩/\∃k,J (a++ [k]) b) E s):
  ∀ (r a:List bYh)(s:bYk),vs.drop a.length=r->a.length<=vs.length->J a s->bYp (bYr prog w) A (forIn r PUnit.unit body) (λ_ b=>∃a,a.length=vs.length/\J a b) E s
 |[],a,s,hr,hle,hJ=>by rw[List.forIn_nil];refine bYn ⟨a,?_,hJ⟩;have:=congrArg cXp hr;rw[List.length_drop]at this;simp at this;omega
 |v::r,a,s,hr,hle,hJ=>by
  rw[cZZ];have d:vs[a.length]? =some v:=by have:=congrArg (λl=>l[0]?) hr;simpa using this
  have i:a.length<vs.length:=by
   rcases cZg a.length vs.length with h|h
   ·exact h
   ·rw[bYR h]at d;cases d
  refine bYi (cQl (e a s v hJ d) (λq b g=>?_) λ_ _ x=>x);obtain⟨rfl,k,c⟩:=g;show bYp (bYr prog w) A (forIn r PUnit.unit body) _ E b;refine aZx (kS:=kS) (f:=f) e r (a++ [k]) b ?_ (by rw[bYE,cQt];omega) c;rw[bYE,cQt,List.drop_add_one_eq_tail_drop,hr];rfl
theorem bW2{s:bYk}{a:Nat}{vs:List bYh}{f:bYh}{b:Bool}{P:PySem.Fin->bYk->Prop}{n0:Nat}(W:s.heap.get? a=some (bY7 "list" vs.toArray n0))(a8:vs.length<64)(J:Nat->List bYh->bYk->Prop) (h0:∀n q,(∀c o,c≠a->s.heap.get? c=some o->q.get? c=some o)->q.get? a=some (bY7 "list" #[] n)->q.get? (s.heap.objs.size+1)=some (bY7 "list" #[] 0)->J n [] {s with heap:=q}) (hget:∀n g l,J n g l->(∃e,l.heap.get? (s.heap.objs.size+1)=some (bY7 "list" g.toArray e))/\l.heap.get? a=some (bY7 "list" #[] n)) (hcall:∀n g l v,J n g l->vs[g.length]? =some v->bYp (bYr prog w) A (call f [v]) (λk m=>(∃e,m.heap.get? (s.heap.objs.size+1)=some (bY7 "list" g.toArray e))/\ ∀q c,cXl (s.heap.objs.size+1) m.heap q->q.get? (s.heap.objs.size+1)=some (bY7 "list" (g++ [k]).toArray c)->J n (g++ [k]) {m with heap:=q}) (λ_ _=>False) l) (hend:∀n g l,J n g l->g.length=vs.length->∃r:Nat->Int,Inj vs.length r/\ (2<=vs.length->∃κ,(∀Q:SortKind->bYk->Prop,Q κ l->bYp (bYr prog w) A (keyKind' g.toArray) Q (λ_ _=>False) l)/\∀i j C,i<vs.length->j<vs.length->C (decide (r i<r j)) l->kas_ask prog w A κ (katRev b g) i j C l)/\ ∀ (p:List Nat) q c z,p.Perm (bYu vs.length)->p.Pairwise (λi j=>r i<r j)->(∀d,d≠a->d≠s.heap.objs.size+1->q.get? d=l.heap.get? d)->q.get? (s.heap.objs.size+1)=some (bY7 "list" #[] c)-> q.get? a=some (bY7 "list" (katRev b (p.map λi=>(katRev b vs).getD i Value.none)).toArray z)->P (.done (.ret .none)) {l with heap:=q}): bYp (bYr prog w) A (ksk_tree a f b) P E s:=by
 have ha:a<s.heap.objs.size:=bYv W;have M:a≠s.heap.objs.size+1:=bYI (cQq ha);obtain⟨n,O⟩:∃n,(s.heap.update a (cQb λ_=>(#[]:Array bYh))).get? a=some (bY7 "list" #[] n):=⟨_,cX7 W λ_=> #[]⟩;have N:((s.heap.update a (cQb λ_=>(#[]:Array bYh))).push (bY7 "tuple" vs.toArray 0)).objs.size=s.heap.objs.size+1:=by rw[size_push',Heap.size_update]
 unfold ksk_tree;refine bYi (listItems_at W rfl ?_);refine bYi (cZv W rfl ?_ (by rw[bYA,bYQ];omega) (cQf _));refine bYi (seqEpoch_at O rfl ?_);refine bYi (wpAny_newTuple ?_ (by show vs.length<=_;rw[bYQ];omega));refine bYi (cZy ?_ (cQf _));refine cQB ?_;have J0:=h0 n (((s.heap.update a (cQb λ_=>(#[]:Array bYh))).push (bY7 "tuple" vs.toArray 0)).push (bY7 "list" #[] 0))
  (λc o hc e=>bYm _ (bYm _ ((bYV _ _ (bY0 hc)).trans e)))
  (bYm _ (bYm _ O)) (by rw[<- N];exact bYM _ rfl)
 show bYp _ _ (ksk_rest a f b vs.toArray n (.ref ((s.heap.update a (cQb λ_=>(#[]:Array bYh))).push (bY7 "tuple" vs.toArray 0)).objs.size)) _ _ _;rw[N];unfold ksk_rest;refine bYi (wpAny_rule ?_);first
  |rw[List.forIn_toArray]
  |(rw[<- Array.forIn_toList];simp only[cJb])
  |rw[<- Array.forIn_toList]
 refine bYi (cQl (aZx (f:=f) (kS:=s.heap.objs.size+1) (J:=J n) (vs:=vs) (λg l v X hv=>?_) vs [] _ (by simp) (cQf _) J0) (λ_ l hd=>?_) λ_ _ x=>x)
 ·have b1:g.length<vs.length:=by
   rcases cZg g.length vs.length with h|h
   ·exact h
   ·rw[bYR h]at hv;cases hv
  refine bYi (cZx (cQl (hcall n g l v X hv) (λk m hk=>?_) λ_ _ hF=>hF.elim));obtain⟨⟨e,nk⟩,c⟩:=hk;have s1:=cQL m.heap (s.heap.objs.size+1) (cQb (·.push k));have ea:(cQp g).push k=cQp (g++ [k]):=by simp
  obtain⟨z,I⟩:∃z,(m.heap.update (s.heap.objs.size+1) (cQb (·.push k))).get? (s.heap.objs.size+1)=some (bY7 "list" (cQp (g++ [k])) z):=⟨_,by rw[<- ea];exact cX7 nk (·.push k)⟩;try dsimp only
  refine bYi (cZv nk rfl ?_ (by rw[bYA,bYQ];omega) (bYT (cXT (Array.size_push ..)) (by rw[bYA,bYQ];omega)));exact bYn ⟨rfl,k,c _ z s1 I⟩
 ·obtain⟨g,hl,X⟩:=hd;obtain⟨⟨e,L⟩,a6⟩:=hget n g l X;try dsimp only
  refine bYi (listItems_at L rfl ?_);obtain⟨r,hr,U,T⟩:=hend n g l X hl;have step:∀t:Sem PySem.Fin,bYp (bYr prog w) A t P E l->bYp (bYr prog w) A (if b=true then(do let _ <- rule "list.sort.reverse";t)else t) P E l:=by
   intro t ht;split
   ·exact bYi (wpAny_rule ht)
   ·exact ht
  have F:(katRev b g).length=(katRev b vs).length:=by rw[kat_len,kat_len,hl]
  have D:∀ (Z:SortSt)(p:List Nat),p.Perm (bYu vs.length)->p.Pairwise (λi j=>r i<r j)->(arrOf Z).map (·.2)=cQp (p.map λi=>(katRev b vs).getD i Value.none)->failedOf Z=none->
    bYp (bYr prog w) A (ksk_tail a b n (.ref (s.heap.objs.size+1)) Z) P E l:=by
   intro Z p B K R hf
   have b0:p.length=vs.length:=by rw[B.length_eq,cQa]
   obtain⟨ck,a0⟩:∃ck,(l.heap.update (s.heap.objs.size+1) (cQb λ_=>(#[]:Array bYh))).get? (s.heap.objs.size+1)=some (bY7 "list" #[] ck):=⟨_,cX7 L λ_=> #[]⟩
   have na:(l.heap.update (s.heap.objs.size+1) (cQb λ_=>(#[]:Array bYh))).get? a=some (bY7 "list" #[] n):=(bYV _ _ (bY0 M)).trans a6
   obtain⟨z,I⟩:∃z,((l.heap.update (s.heap.objs.size+1) (cQb λ_=>(#[]:Array bYh))).update a (cQb λ_=>cQp (katRev b (p.map λi=>(katRev b vs).getD i Value.none)))).get? a=some (bY7 "list" (cQp (katRev b (p.map λi=>(katRev b vs).getD i Value.none))) z):=
    ⟨_,cX7 na λ_=>cQp (katRev b (p.map λi=>(katRev b vs).getD i Value.none))⟩
   have a9:(cQp (katRev b (p.map λi=>(katRev b vs).getD i Value.none))).size=vs.length:=by rw[bYA,kat_len,bYl,b0]
   unfold ksk_tail
   try dsimp only
   rw[R,kat_outs]
   refine bYi (cZv L rfl ?_ (by rw[bYA,bYQ];omega) (cQf _))
   refine bYi (wpAny_letGo ?_)
   refine bYi (seqEpoch_at na rfl ?_)
   refine bYi (cZv na rfl ?_ (cQf _) (bYT (cXT a9) (by rw[bYQ];omega)))
   rw[hf]
   simp only[bne_self_eq_false,Bool.false_eq_true,if_false]
   refine bYn (T p _ ck z B K (λd h1 y=>?_) ?_ I)
   ·exact(bYV _ _ (bY0 h1)).trans (bYV _ _ (bY0 y))
   ·exact(bYV _ _ M).trans a0
  unfold ksk_end;try dsimp only
  refine step _ ?_;rw[kat_pairs b hl];by_cases y:vs.toArray.size<2
  ·rw[if_pos y,if_pos y];refine bYi (bYn ?_);refine bYi (bYn ?_);have H:vs.length<2:=by rw[bYA]at y;exact y
   refine D _ (bYu vs.length) (List.Perm.refl _) ?_ ?_ rfl
   ·rw[cXN];intro i j Y hj b2;rw[cQa]at Y hj;omega
   ·show((cQp (katRev b g)).zip (cQp (katRev b vs))).map (·.2)=_;apply Array.toList_inj.mp;rw[Array.toList_map,Array.toList_zip];simp only[cJb];have n:(List.zip (katRev b g) (katRev b vs)).map (·.2)=katRev b vs:=List.map_snd_zip (cXT F.symm);rw[n];apply cXz;intro i;rw[bYB];by_cases Y:i<vs.length
    ·have G:i<(katRev b vs).length:=by rw[kat_len];exact Y
     rw[cXk Y];simp[bY1,bYg G]
    ·have G:(katRev b vs).length<=i:=by rw[kat_len];omega
     rw[bYR G,bYR (by rw[cQa];omega)];rfl
  ·have H:2<=vs.length:=by rw[bYA]at y;omega
   rw[if_neg y,if_neg y];obtain⟨κ,hκ,V⟩:=U H;refine bYi (cQl (hκ (λk m=>k=κ/\m=l) ⟨rfl,rfl⟩) (λk m hq=>?_) λ_ _ x=>x.elim);obtain⟨rfl,rfl⟩:=hq;have a7:(kas_sort (katRev b vs).length).kasWp (kas_ask prog w A k (katRev b g)) (λp S=>S=m/\p.toList.Perm (bYu vs.length)/\p.toList.Pairwise (λi j=>r i<r j)) m:=by rw[kat_len];exact Asks.wp (lt:=W5 r) V (aZ9 hr (by omega)) λp hp=>⟨rfl,hp⟩
   refine bYi (cQl (kat_run (Q:=λu S=>∃p:Array Nat,arrOf u=p.map (kas_item ((cQp (katRev b g)).zip (cQp (katRev b vs))))/\failedOf u=none/\
     S=m/\p.toList.Perm (bYu vs.length)/\p.toList.Pairwise (λi j=>r i<r j))
    F (by rw[kat_len];exact H) (by rw[kat_len];exact a8) (λp' u S a1 a2 a3 a4=>⟨p',a2,a3,a4⟩) a7) ?_ λ_ _ x=>x)
   rintro⟨⟨⟩,u⟩ S ⟨p,a5,hf,rfl,B,K⟩;try dsimp only
   exact D _ p.toList B K (kat_snds F a5) hf
end
end Stree
namespace L2
open PySem PySem.Spec PyProof.Rows
abbrev bKf(X:Cx)(A:bYZ)(N:List Str)(qual:Str)(sc:cXx)(L q:Nat)(cd:bYh)(cl:List (Str×Nat))(s:bYk)(H:Hp):Cx:=
 {X with A:=A.deeper (PySem.W.envX qual sc L q cd cl),N:=N,s₀:=s,H₀:=H,env:=PySem.W.envX qual sc L q cd cl,outer:=X.stack,stack:=PySem.W.envX qual sc L q cd cl::X.stack,ex:= [],fn:=λ_=>false,calm:=true,pn:= [],xe:=λ_ _=>False}
section
variable {X:Cx}{pins:List (Nat×Obj)}{σ:St}{H:Hp}{s:bYk}
theorem bXm{A:bYZ}{x:Str}{names:List Str}{M:List Nat}{f:cXx}{cl:List (Str×Nat)}{name qual:Str}{d:Arguments}{body:Expr}{pm R:bYh}{q t:Nat}{te:TE}{v:V}{u:bYh}{Q:VK} (I:Inv X pins σ H s) (hA:A.frames=some X.stack) (hd:A.handled=none) (G:A.depth<recursionLimit) (S:xO X.N X.env.scope x names M f) (a1:f.isCoroutine=false) (P:f.isGenerator=false) (a:∀y c,cl.lookup y=some c->X.env.cells.lookup y=some c) (C:∀y,(y,NameKind.free)∈f.names->∃c,cl.lookup y=some c) (ho:s.heap.get? q=some (cXw name qual d body f cl pm t R)) (a4:s.heap.CodeRec (.ref t) qual) (F:∀u:bYh,bindArgs (PySem.W.kla_fn name qual d body f cl pm (.ref t) R) ⟨[u],[]⟩=pure [(x,u)]) (he:∀A L cd s H,PE (bKf X A (x::names) qual f L q cd cl s H) body te) (r:zM v u) (h:te (sub σ M (some v)) H Q): bYp (bYr X.prog X.w) A (call (.ref q) [u]) (EP X pins σ Q) (λ_ _=>False) s:=by
 have a0:cXA (bYr X.prog X.w) A (.call (.ref q) ⟨[u],[]⟩) (λr s'=>match r with|.ok (.ret u)=>EP X pins σ Q u s'|_=>False) s:=by
  refine PySem.W.kla_callFunE G ho rfl a1 P rfl a4 ?_;rw[F u];refine bYn (wpAny_newFunctionEnv S.nocell (λy hy=>by rw[bYy.mp hy];exact S.var) (λB a5 a2=>?_) S.kind);have keep:∀b o,s.heap.get? b=some o->B.get? b=some o:=λb o e=>a2.extBut b o (bYI (bYv e)) (bYm _ e);refine⟨I.nolimit.keeps keep,?_⟩;show cXA _ _ (.expr body (PySem.W.envX qual f s.heap.objs.size q (.ref t) cl)) _ _;have a3:(bKf X A (x::names) qual f s.heap.objs.size q (.ref t) cl s H).Ok:=by
   refine⟨I.ok.mod,S.kind,rfl,rfl,bYo _,?_,?_,?_,λ_=>hd,Around.frames_deeper hA,.inr ⟨rfl,rfl⟩,?_,I.bs,bYT I.ok.bsz I.sz,?_,?_,I.stack,I.stkFree⟩
   ·exact λy z c Y T=>I.ok.inj y z c (a y c Y) (a z c T)
   ·intro y hy;have g:f.names.lookup y=some .cell\/f.names.lookup y=some .free:=hy;rcases g with g|g
    ·exact absurd rfl (S.nocell _ (cQM g))
    ·exact C y (cQM g)
   ·exact λy c h _=>by cases h
   ·exact λb F=>absurd (show b∈([]:List Nat)from F) (by simp)
   ·exact λb o _ F=>absurd (show b∈([]:List Nat)from F) (by simp)
   ·exact λb F=>absurd (show b∈([]:List Nat)from F) (by simp)
  have IY:Inv (bKf X A (x::names) qual f s.heap.objs.size q (.ref t) cl s H) [] (sub σ M (some v)) H {s with heap:=B,toks:=s.toks+ [(x,u)].length}:=by
   refine⟨a3,rfl,I.bare,Un.kept keep,⟨_,a5,?_⟩,?_,I.hok.fresh (bYo _),λy c e=>I.freeC y c (a y c e),λp hp=>absurd (show p∈([]:List (Nat×Obj))from hp) (by simp),I.hok.kept keep,?_⟩
   ·intro i y n Y T h3;cases i with
    |zero=>
     have K:x=y:=by simpa using Y
     have E:v=n:=by have z:(some (some v):Option (Option V))=some (some n):=T;cases z;rfl
     subst K;subst E;exact⟨u,r,.inl ⟨S.var,by simp[cXC]⟩⟩
    |succ j=>
     have K:names[j]? =some y:=Y;obtain⟨U,e1,e2,Z⟩:=S.from_ j y K;have E:σ[U]? =some (some n):=by
      have z:(M.map λi=>(σ[i]?).join)[j]? =some (some n):=T;rw[bYB,e1]at z;have l:(σ[U]?).join=some n:=bYC z;cases q:σ[U]? with
      |none=>rw[q]at l;cases l
      |some o=>rw[q]at l;rw[show o=some n from l]
     obtain⟨m,hn,hl⟩:=I.loc;have O:Vis X.env.scope y:= .inr (S.free _ Z rfl);obtain⟨u',ru,lk⟩:=hl U y n e2 E O;refine⟨u',ru,.inr ⟨?_,?_⟩⟩
     ·exact .inr (S.flk _ Z rfl)
     ·rcases lk with⟨k,_⟩|⟨k,c,e,z⟩
      ·rcases S.free _ Z rfl with z|z
       ·have l:X.env.kindOf y=some .cell:=z;rw[k]at l;cases l
       ·have l:X.env.kindOf y=some .free:=z;rw[k]at l;cases l
      ·obtain⟨t,e'⟩:=C y Z;have:=a y t e';rw[e]at this;cases this;exact⟨c,e',z.keeps keep⟩
   ·intro y c e;obtain⟨v,z⟩:=I.cell y c (a y c e);exact⟨v,z.keeps keep⟩
   ·show(sub σ M (some v)).length=(x::names).length;simp[sub,S.len]
  refine PySem.W.kla_codeExpr (cQl (he A s.heap.objs.size (.ref t) s H [] _ (sub σ M (some v)) H Q IY h) (λw s' D=>?_) (λ_ _ z=>z.elim));obtain⟨n,H',J,rv,q⟩:=D;exact I.after ⟨n,H',J.os,J.bare,J.base,J.hok,rv,q⟩
 refine cZs (cXa a0 λr s' D=>?_);cases r with
 |error e=>exact D
 |ok fl=>
  cases fl with
  |ret u=>exact D
  |next=>exact D
  |brk=>exact D
  |cont=>exact D
end
end L2
namespace L2
open PySem PySem.Spec PyProof.Rows
def aKM(c:Nat)(qual:Str):HO:= .ext λh=>h.CodeRec (.ref c) qual
def bWC(q:Nat)(o:Obj):HO:= .ext λh=>h.get? q=some o
theorem bQ3{P:bYD}{w:bYL}{H:Hp}{h:Heap}{c:Nat}{qual:Str}(r:h.CodeRec (.ref c) qual):zE P w H h c (aKM c qual):=by
 obtain⟨n,o,p,t,e,b,g,q⟩:=id r;cases e;refine⟨r,⟨o,b⟩,λb g z k=>?_⟩;obtain⟨s,j,a,l,m,i,f,d⟩:=z;cases m;exact⟨_,j,a,l,rfl,k _ i,f,d⟩
theorem aYs{P:bYD}{w:bYL}{H:Hp}{h:Heap}{q:Nat}{o:Obj}(r:h.get? q=some o):zE P w H h q (bWC q o):=⟨r,⟨o,r⟩,λa b z k=>k _ z⟩
def Y8(pos:Pos)(qual:Str)(P:Nat)(H:Hp):Prop:=
 H P=some (.tbl #[])\/∃a,H P=some (.tbl (#[]++ #[cQy pos.line,cQy pos.col,.ref a]))/\H a=some (aKM a qual)
def xZ(H c:Hp):Prop:=∀b o,(∀a,o≠ .tbl a)->H b=some o->c b=some o
theorem xC.t{H a:Hp}(k:xC H a):xZ H a:=λb o _ e=>k b o e
theorem xZ.refl(H:Hp):xZ H H:=λ_ _ _ e=>e
theorem xZ.trans{H f d:Hp}(a:xZ H f)(b:xZ f d):xZ H d:=λc o n e=>b c o n (a c o n e)
theorem xZ.lst{H b:Hp}(k:xZ H b){a:Nat}{xs:List V}(h:H a=some (.lst xs)):b a=some (.lst xs):=k a _ (λ_ z=>nomatch z) h
theorem xZ.tup{H b:Hp}(k:xZ H b){a:Nat}{xs:List V}(h:H a=some (.tup xs)):b a=some (.tup xs):=k a _ (λ_ z=>nomatch z) h
theorem xZ.ext{H b:Hp}(k:xZ H b){a:Nat}{φ:Heap->Prop}(h:H a=some (.ext φ)):b a=some (.ext φ):=k a _ (λ_ z=>nomatch z) h
theorem xZ.seq{K:bYj}{H b:Hp}{a:Nat}{xs:List V}(k:xZ H b)(h:SqL K H a xs):SqL K b a xs:=by
 rcases h with h|h
 ·rcases h with h|⟨o,h⟩
  ·exact .inl (.inl (k.lst h))
  ·exact .inl (.inr ⟨o,k a _ (λ_ z=>nomatch z) h⟩)
 ·exact .inr h
theorem aVu:PySem.TriplesOk (#[]:Array bYh).toList:=trivial
theorem aVv{a b:Int}{v:bYh}:PySem.TriplesOk ((#[]++ #[cQy a,cQy b,v]:Array bYh)).toList:=trivial
theorem aKG{pos:Pos}{v:bYh}:codeAmong pos ((#[]++ #[cQy pos.line,cQy pos.col,v]:Array bYh)).toList=some v:=by
 show(if((pos.line:Int)==pos.line && (pos.col:Int)==pos.col)=true then some v else _)=some v;simp
section
variable {X:Cx}{pins:List (Nat×Obj)}{σ:St}{H:Hp}{s:bYk}
theorem Inv.tab{P:Nat}{d more:Array bYh}{h':Heap}{t':Nat}(I:Inv X pins σ H s)(h:H P=some (.tbl d))(f:cZO P s.heap h')(j:h'.get? P=some {cls:= .none,data:= .fields (d++more) }): Inv X pins σ (upd H P (.tbl (d++more))) {s with heap:=h',toks:=t'}:=by
 have g:∀b,H b=none->b≠P:=λb n z=>by rw[z,h]at n;cases n
 have ne:∀b o,H b=some o->(∀d,o≠ .tbl d)->b≠P:=λb o e n z=>by subst z;rw[h]at e;cases e;exact n _ rfl
 refine I.un (t':=t') ⟨λb o e n _ _=>f b o (g b n) e,λb o e n _ _=>⟨o.slots,f b o (g b n) e⟩,λb o e n _=>by rw[yI (g b n)];exact n,λb o e _=>?_,λb k e=>?_,λb o u e=>?_,λb l e=>?_⟩ λb u e=>?_
 ·by_cases a:b=P
  ·exact⟨_,by rw[a];exact j⟩
  ·exact⟨o,f b o a e⟩
 ·rw[yI (ne b _ e λ_ z=>nomatch z)];exact e
 ·rw[yI (ne b _ e λ_ z=>nomatch z)];exact e
 ·by_cases a:b=P
  ·subst a;rw[h]at e;cases e;exact⟨more,yB⟩
  ·exact⟨#[],by rw[yI a,e];simp⟩
 ·by_cases a:b=P
  ·subst a;rw[yB]at e;cases e;exact j
  ·rw[yI a]at e;refine(I.hok b u e).stay (λc v i q=>f c v ?_ q) (λc q=>?_) λc k q=>?_
   ·rcases i with rfl|i
    ·exact a
    ·exact ne c _ i λ_ z=>nomatch z
   ·rw[yI (ne c _ q λ_ z=>nomatch z)];exact q
   ·rw[yI (ne c _ q λ_ z=>nomatch z)];exact q
theorem bXn{name qual:Str}{d:Arguments}{body:Expr}{r:cXx}{c P:Nat}{pos:Pos}{fl:Nat}{cl:List (Str×Nat)}{E:bYh->bYk->Prop}{Q:bYh->bYk->Prop}(I:Inv X pins σ H s)(R:closureFor r X.env=pure cl)(j:X.env.code= .ref c) (C:cXn X.base c P) (hB:X.base.BuiltinsAt X.mg P) (hT:Y8 pos qual P H) (hq:∀ (q f:Nat)(g:bYh)(J:Hp)(s':bYk),Inv X pins σ J s'->H q=none->J q=some (bWC q (cXw name qual d body r cl ((X.mg "__name__").getD .none) f g))->J f=some (aKM f qual)->Y8 pos qual P J->xZ H J->Q (.ref q) s'): bYp (bYr X.prog X.w) X.A (makeFunction name qual d (.expr body) r X.env [] [] [] pos fl) Q E s:=by
 have V:s.heap.Ns bYP X.mg:=I.ok.mod.glob.keeps I.bk;have hC:=C.keeps I.bk;obtain⟨bm,ob,b1,b2,b3,b4,b5,b6⟩:=hB;have M:s.heap.BuiltinsAt X.mg P:=⟨bm,ob,b1,b2,b3,b4,I.bk _ _ b5,b6⟩;rcases hT with p|⟨f,p,F⟩
 ·have l:s.heap.get? P=some (cXQ #[]):=I.hok P _ p;have a1:bYP≠P:=λz=>by
   obtain⟨o,es,ep,e,hd,_⟩:=V;rw[z,l]at e;cases e;cases hd
  refine PySem.W.kla_makeFunction (mg:=X.mg) R I.ok.glob V j hC l aVu rfl a1 M λf g h tk G m O B y=>?_;have T:=I.tab (t':=tk) p G y;have x:P≠f:=bYI (bYK (bYv l) m);have Y:H f=none:=I.hok.fresh m;have K:upd H P (.tbl (#[]++ #[cQy pos.line,cQy pos.col,.ref f])) f=none:=by rw[yI (bY0 x)];exact Y
  have I2:Inv X pins σ (upd (upd H P (.tbl (#[]++ #[cQy pos.line,cQy pos.col,.ref f]))) f (aKM f qual)) {s with heap:=h,toks:=tk}:=by
   have a2:cZO P s.heap h:=G;have U:∀b,H b=none->b≠P:=λb n z=>by rw[z,p]at n;cases n
   have ne:∀b o,H b=some o->(∀ps,o≠ .tbl ps)->b≠P:=λb o e n z=>by subst z;rw[p]at e;cases e;exact n _ rfl
   have a0:∀b o,s.heap.get? b=some o->b≠f:=λb o e=>bYI (bYK (bYv e) m);have S:∀b,b≠P->b≠f->upd (upd H P (.tbl (#[]++ #[cQy pos.line,cQy pos.col,.ref f]))) f (aKM f qual) b=H b:=λb h1 h2=>by rw[yI h2,yI h1]
   have hl:∀b u,H b=some u->b≠f:=λb u e=>yJ e Y;refine I.un (t':=tk) ⟨λb o e n _ _=>G b o (U b n) e,λb o e n _ _=>⟨o.slots,G b o (U b n) e⟩,λb o e n _=>by rw[S b (U b n) (a0 b o e)];exact n,λb o e _=>?_,λb xs e=>?_,λb o u e=>?_,λb qs e=>?_⟩ λb u e=>?_
   ·by_cases N:b=P
    ·exact⟨_,by rw[N];exact y⟩
    ·exact⟨o,G b o N e⟩
   ·rw[S b (ne b _ e λ_ z=>nomatch z) (hl b _ e)];exact e
   ·rw[S b (ne b _ e λ_ z=>nomatch z) (hl b _ e)];exact e
   ·by_cases N:b=P
    ·subst N;rw[p]at e;cases e;exact⟨_,by rw[yI x];exact yB⟩
    ·exact⟨#[],by rw[S b N (hl b _ e),e];simp⟩
   ·by_cases D:b=f
    ·subst D;rw[yB]at e;cases e;exact bQ3 B
    ·rw[yI D]at e;refine(T.hok b u e).stay (λc v _ q=>q) (λc q=>?_) λc xs q=>?_
     ·rw[yI (yJ q K)];exact q
     ·rw[yI (yJ q K)];exact q
  have i:H h.objs.size=none:=I.hok.fresh (bYT m (cXU O));have I3:=I2.laid (a:=h.objs.size) (o:=bWC h.objs.size (cXw name qual d body r cl ((X.mg "__name__").getD .none) f g)) (t':=tk) (h':=h.push (cXw name qual d body r cl ((X.mg "__name__").getD .none) f g))
   (λb o e=>bYm _ e) (bYo _) (aYs (bYM _ rfl))
  have L:f≠h.objs.size:=bYI O;have Z:P≠h.objs.size:=bYI (bYv y);refine hq h.objs.size f g _ _ I3 i yB (by rw[yI L];exact yB) (.inr ⟨f,by rw[yI Z,yI x];exact yB,by rw[yI L];exact yB⟩) λb o n e=>?_;have h1:b≠P:=λz=>by subst z;rw[p]at e;cases e;exact n _ rfl
  rw[yI (yJ e i),yI (yJ e Y),yI h1];exact e
 ·have l:s.heap.get? P=some (cXQ (#[]++ #[cQy pos.line,cQy pos.col,.ref f])):=I.hok P _ p;refine PySem.W.kla_makeFunctionHit (mg:=X.mg) R I.ok.glob V j hC l aVv aKG M λg h tk hk m=>?_;have T:Inv X pins σ H {s with heap:=h,toks:=tk}:=I.kept hk;have i:H h.objs.size=none:=T.hok.fresh (bYo _);have I3:=T.laid (a:=h.objs.size) (o:=bWC h.objs.size (cXw name qual d body r cl ((X.mg "__name__").getD .none) f g)) (t':=tk) (h':=h.push (cXw name qual d body r cl ((X.mg "__name__").getD .none) f g))
   (λb o e=>bYm _ e) (bYo _) (aYs (bYM _ rfl))
  have k:=yG i (bWC h.objs.size (cXw name qual d body r cl ((X.mg "__name__").getD .none) f g));exact hq h.objs.size f g _ _ I3 i yB (k _ _ F) (.inr ⟨f,k _ _ p,k _ _ F⟩) k.t
end
end L2
namespace Stree
open PySem PySem.W PySem.Calls PyProof.Rows
theorem aQh{α:Type}(p q:α->Bool):∀ (l:List α),(∀a∈l,p a=true->q a=true)->(∃a∈l,p a=false/\q a=true)->l.countP p<l.countP q
 |[],_,h=>by obtain⟨a,b,_⟩:=h;cases b
 |x::r,hs,h=>by
  have f:r.countP p<=r.countP q:=List.countP_mono_left λa b=>hs a (bYt _ b);obtain⟨a,b,c,d⟩:=h;rcases bYq.mp b with rfl|b
  ·rw[cZR,cZR,c,d];simp;omega
  ·have g:=aQh p q r (λa b=>hs a (bYt _ b)) ⟨a,b,c,d⟩;rw[cZR,cZR];have:=hs x bYw;cases e:p x with
   |false=>cases q x<;> simp<;> omega
   |true=>rw[this e];simp;omega
theorem aJ2{n:Nat}(lt:Nat->Nat->Bool)(g:∀i,i<n->lt i i=false)(p:∀i j k,i<n->j<n->k<n->lt i j=true->lt j k=true->lt i k=true)(f:∀i j,i<n->j<n->i≠j->lt i j=true\/lt j i=true): ∃r:Nat->Int,Inj n r/\∀i j,i<n->j<n->decide (r i<r j)=lt i j:=by
 refine⟨λi=>((bYu n).countP λm=>lt m i:Nat),?_,?_⟩
 ·have up:∀i j,i<n->j<n->lt i j=true->((bYu n).countP λm=>lt m i)<((bYu n).countP λm=>lt m j):=λi j a b h=>
   aQh _ _ _ (λm o d=>p m i j (bYS.mp o) a b d h) ⟨i,bYS.mpr a,g i a,h⟩
  intro i j a b e;by_cases c:i=j
  ·exact c
  ·exfalso;have q:(((bYu n).countP λm=>lt m i:Nat):Int)=((bYu n).countP λm=>lt m j:Nat):=e;rcases f i j a b c with h|h
   ·have:=up i j a b h;omega
   ·have:=up j i b a h;omega
 ·intro i j a b;have up:∀i j,i<n->j<n->lt i j=true->((bYu n).countP λm=>lt m i)<((bYu n).countP λm=>lt m j):=λi j a b h=>
   aQh _ _ _ (λm o d=>p m i j (bYS.mp o) a b d h) ⟨i,bYS.mpr a,g i a,h⟩
  cases h:lt i j with
  |true=>have:=up i j a b h;exact decide_eq_true (by show(((bYu n).countP λm=>lt m i:Nat):Int)<((bYu n).countP λm=>lt m j:Nat);omega)
  |false=>
   refine decide_eq_false ?_;show ¬ (((bYu n).countP λm=>lt m i:Nat):Int)<((bYu n).countP λm=>lt m j:Nat);by_cases c:i=j
   ·subst c;omega
   ·rcases f i j a b c with l|l
    ·rw[h]at l;cases l
    ·have:=up j i b a l;omega
section
variable {prog:bYD}{w:bYL}{A:bYZ}{E:bYh->bYk->Prop}{s:bYk}
theorem aXB{r:Nat}{n:Nat}{t u v:Tok}{Q:List bYh->bYk->Prop}(P:A.handled=none)(M:IsRange s.heap r 0 n 1 t u v)(V:n<64) (K:∀j tk G,(∀b o,s.heap.get? b=some o->j.get? b=some o)->s.heap.objs.size<j.objs.size->cXO G ((bYu n).map Int.ofNat)->Q G {s with heap:=j,toks:=tk}):bYp (bYr prog w) A (collect (.ref r)) Q E s:=by
 have S:Builtin.Range.rangeSize 0 n 1=(n:Int):=by rw[rangeSize_one];split<;> omega
 have B:Builtin.Range.small 0 n 1=true:=small_one (by decide) (by decide) (by omega) (by omega);unfold collect;refine bYi (wpAny_runValue (cXy F.entry_proto_collect ?_));rw[cXd F.plain_proto_collect _];show bYp _ A.in1 (newList [] >>=λl=>again (.builtin "list.__iadd__" ⟨[l,.ref r],[]⟩)) _ _ s;refine bYi (cXh ?_);refine bYn ⟨cZw F.plain_list_iadd _,cXy F.entry_list_iadd ?_⟩;rw[cXd F.plain_list_iadd _];have d:(s.heap.push {cls:= .type "list",data:= .seq ([]:List bYh).toArray}).get? s.heap.objs.size=some {cls:= .type "list",data:= .seq ([]:List bYh).toArray}:=bYM _ rfl;show bYp _ A.in1 (cZi (.ref s.heap.objs.size) (.ref r) (.ref s.heap.objs.size)) _ _ _;refine cQl (wpAny_extend_range (A:=A) (R:=λq y=>q= .ok (.ret (.ref s.heap.objs.size))/\∃a g,y.heap.get? s.heap.objs.size=some {cls:= .type "list",dict:=none,data:= .seq a g,slots:= #[] }/\Q a.toList y) (s:={s with heap:=s.heap.push {cls:= .type "list",data:= .seq ([]:List bYh).toArray} }) P (bYm _ M) B S (by omega) s.heap.objs.size (.ref s.heap.objs.size) 0 d λj tk a g U p c=>⟨rfl,a,g,p,?_⟩) (λfin y C=>?_) λe y I=>by obtain⟨z,_⟩:=I;cases z
 rotate_left
 ·cases fin with
  |done f=>
   obtain⟨e,a,g,h,m⟩:=C;have T:f= .ret (.ref s.heap.objs.size):=by cases e;rfl
   subst T;exact bYi (wpAny_load h (bYn m))
  |again g=>
   exact⟨C.1,cXa C.2 λq N J=>by
    obtain⟨rfl,a,g,h,m⟩:=J;exact bYi (wpAny_load h (bYn m))⟩
 refine K j tk a.toList (λb o e=>U b o (bYI (bYv e)) (bYm _ e)) (bYv p) ?_;have len:a.toList.length=n:=by rw[cQE];exact c.1
 have all:∀ (k:Nat)(l:List bYh),l.length<=n->k+l.length=n->(∀i v,l[i]? =some v->∃t,v=Value.int ((k+i:Nat):Int) t)->cXO l ((List.range' k l.length).map Int.ofNat):=by
  intro k l;induction l generalizing k with
  |nil=>intro _ _ _;exact .nil
  |cons x l L=>
   intro h m H;obtain⟨t,rfl⟩:=H 0 x rfl;rw[cQg,List.range'_succ,bY4];exact .cons _ _ (L (k+1) (by rw[cQg]at h;omega) (by rw[cQg]at m;omega) λi v D=>by
    obtain⟨O,e⟩:=H (i+1) v D;exact⟨O,by rw[e,show k+(i+1)=k+1+i by omega]⟩)
 have z:=all 0 a.toList (by omega) (by omega) λi v D=>by obtain⟨t,e⟩:=c.2 i v (by rw[<- cQQ];exact D);exact⟨t,by rw[e,show(0:Int)+(i:Int)*1=((0+i:Nat):Int) by omega]⟩
 rw[len]at z;rw[List.range_eq_range'];exact z
theorem aJa{r:Nat}{n:Nat}{t u v:Tok}{b:Bool}{f:bYh}{g:List (Str×bYh)}{Q:bYh->bYk->Prop}(G:A.handled=none)(C:IsRange s.heap r 0 n 1 t u v)(F:n<64) (l:argsOk "sorted" ⟨[.ref r],g⟩) (j:∀x,argsOk "list.sort" ⟨[.ref x],g⟩) (B:∀x,cQ4.«list.sort» ⟨[.ref x],g⟩=ksk_tree x f b) (h:∀a c tk d,(∀b o,s.heap.get? b=some o->c.get? b=some o)->s.heap.objs.size<=a->c.get? a=some (bY7 "list" d.toArray 0)->cXO d ((bYu n).map Int.ofNat)-> bYp (bYr prog w) A.in1.in1 (ksk_tree a f b) (λfin z=>fin= .done (.ret .none)/\Q (.ref a) z) (λ_ _=>False) {s with heap:=c,toks:=tk}): bYp (bYr prog w) A (call (.builtin "sorted") [.ref r] g) Q E s:=by
 refine call_function_entry_kw kind_sorted plain_sorted entry_sorted l ?_;unfold cQ4.«sorted»;refine bYi (m:=checkCount "sorted" 1 1 _) (bYn ?_);refine bYi (aXB (A:=A.in1) (by simpa using G) C F λc tk d H p y=>?_);have D:d.length=n:=by rw[y.length];simp
 refine bYi (cZy ?_ (by rw[bYQ];omega));have i:(c.push (bY7 "list" d.toArray 0)).get? c.objs.size=some (bY7 "list" d.toArray 0):=bYM _ rfl;have q:s.heap.objs.size<=c.objs.size:=cXU p;refine bYi (cQB (wpAny_call_entry_kw slot_list_sort ⟨_,i,rfl⟩ entry_list_sort ?body (j _)));case body=>
  show bYp (bYr prog w) A.in1.in1 (cQ4.«list.sort» ⟨[.ref c.objs.size],g⟩) _ _ _;rw[B c.objs.size];refine cQl (h c.objs.size (c.push (bY7 "list" d.toArray 0)) tk d (λb o e=>bYm _ (H b o e)) q i y) (λfin z k=>?_) λ_ _ x=>x.elim;obtain⟨rfl,k⟩:=k;exact⟨_,rfl,bYn ⟨_,rfl,k⟩⟩
end
end Stree
namespace Stree
open PySem PySem.W PySem.Calls PyProof.Rows
def wF(a b:Int×Int):Bool:=decide (a.1<b.1) || (decide (a.1=b.1) && decide (a.2<b.2))
theorem wY(a:Int×Int):wF a a=false:=by simp[wF]
theorem aXK{a b c:Int×Int}(d:wF a b=true)(e:wF b c=true):wF a c=true:=by
 simp only[wF,Bool.or_eq_true,Bool.and_eq_true,decide_eq_true_eq]at d e ⊢;omega
theorem aXJ{a b:Int×Int}(h:a≠b):wF a b=true\/wF b a=true:=by
 have c:¬ (a.1=b.1/\a.2=b.2):=λ⟨x,y⟩=>h (Prod.ext x y);simp only[wF,Bool.or_eq_true,Bool.and_eq_true,decide_eq_true_eq];omega
section
variable {prog:bYD}{w:bYL}{A:bYZ}{E:bYh->bYk->Prop}{s:bYk}
theorem aJB{a c:Int}{t t':Tok}{Q:Bool->bYk->Prop}(h:Q (a==c) s):bYp (bYr prog w) A (eqBool (.int a t) (.int c t')) Q E s:=
 (L2.bZ0 (A:=A) (s:=s) (y:= .int a) (x:= .int c) ⟨t,rfl⟩ ⟨t',rfl⟩ rfl rfl) prog w E Q h
theorem aYl{x y:Nat}{i g:Obj}{n k:Nat}{a b c d:Int}{j m o q:Tok}{Q:Bool->bYk->Prop}(l:s.heap.get? x=some i)(dx:i.data= .seq #[.int a j,.int b m] n)(r:s.heap.get? y=some g)(t:g.data= .seq #[.int c o,.int d q] k) (h:Q (wF (a,b) (c,d)) s):bYp (bYr prog w) A (keyLt' (tuples' true) (.ref x) (.ref y)) Q E s:=by
 refine kat_lt l dx r t ?_;refine kat_cons (aJB ?_);unfold wF at h;by_cases e:a=c
 ·subst e;simp only[Int.lt_irrefl,decide_false,Bool.false_or,decide_true,Bool.true_and]at h;rw[beq_self_eq_true];refine kat_yes (kat_cons (aJB ?_));by_cases f:b=d
  ·subst f;rw[beq_self_eq_true];refine kat_yes (kat_nil ?_);simpa using h
  ·rw[beq_eq_false_iff_ne.mpr f];refine kat_no (kat_one _ _ ?_);exact lt_int h
 ·rw[beq_eq_false_iff_ne.mpr e];have p:Q (decide (a<c)) s:=by
   have:decide (a=c)=false:=decide_eq_false e;simpa[this]using h
  refine kat_no ?_;exact oneLt_int p
end
end Stree
namespace L2
open PySem PySem.Spec PyProof.Rows
def ixb(b:Bool)(n i:Nat):Nat:=if b=true then n - 1 - i else i
theorem aZF{b:Bool}{n i:Nat}(h:i<n):ixb b n i<n:=by unfold ixb;split<;> omega
theorem bJQ{b:Bool}{n i j:Nat}(a:i<n)(c:j<n)(h:ixb b n i=ixb b n j):i=j:=by unfold ixb at h;split at h<;> omega
theorem aXR{α:Type}{b:Bool}{l:List α}{n i:Nat}{d:α}(a:l.length=n)(c:i<n):(cQv b l).getD i d=l.getD (ixb b n i) d:=by
 unfold cQv ixb;split
 ·simp only[bY1];rw[List.getElem?_reverse (by omega),a]
 ·rfl
theorem bWJ{n:Nat}{b:Bool}{a:Nat->Int×Int}{r:Nat->Int}{p:List Nat}(m:p.Perm (bYu n))(k:p.Pairwise λi j=>r i<r j)(g:∀i j,i<n->j<n->decide (r i<r j)=Stree.wF (a (ixb b n i)) (a (ixb b n j))): (cQv b (p.map (ixb b n))).Perm (bYu n)/\(cQv b (p.map (ixb b n))).Pairwise λi j=>Stree.wF (if b=true then a j else a i) (if b=true then a i else a j)=true:=by
 have f:(p.map (ixb b n)).Pairwise λi j=>Stree.wF (a i) (a j)=true:=by rw[cZJ];have l:∀i∈p,i<n:=λi c=>bYS.mp (m.mem_iff.mp c);refine k.imp_of_mem λ{i j} c hj h=>?_;rw[<- g i j (l i c) (l j hj)];exact decide_eq_true h
 have d:=m.map (ixb b n);cases b with
 |false=>
  have e:ixb false n=id:=by funext i;rfl
  rw[e]at d f ⊢;rw[List.map_id,List.map_id]at d;rw[List.map_id]at f ⊢;exact⟨d,f⟩
 |true=>
  have e:(bYu n).map (ixb true n)=(bYu n).reverse:=by
   apply cXz;intro i;by_cases c:i<n
   ·rw[bYB,cXk c,List.getElem?_reverse (by simpa using c),cQa,cXk (by omega)];rfl
   ·rw[bYR (by simp;omega),bYR (by simp;omega)]
  rw[e]at d;refine⟨(List.reverse_perm _).trans (d.trans (List.reverse_perm _)),?_⟩;show((p.map (ixb true n)).reverse).Pairwise _;rw[List.pairwise_reverse];exact f
def bJt(H:Hp)(b:Nat->Int×Int)(c:List bYh):Prop:=∀i v,c[i]? =some v->∃a,v= .ref a/\H a=some (.tup [.int (b i).1,.int (b i).2])
def bZG(te:TE)(fr:List Nat)(tb:TE)(P:Nat)(lpos:Pos)(qual:Str)(b:Bool):TE:=λσ H Q=>te σ H λv f=>∃n:Nat,v= .int n/\n<64/\Y8 lpos qual P f/\∃kz:Nat->Int×Int,
 (∀i j,i<n->j<n->kz i=kz j->i=j)/\
 (∀i d,i<n->xZ f d->Y8 lpos qual P d->∀R:VK,(∀a e,xZ d e->e P=d P->e a=some (.tup [.int (kz i).1,.int (kz i).2])->R (.ref a) e)->tb (sub σ fr (some (.int i))) d R)/\
 ∀H5 l (c:List Nat),xZ f H5->Y8 lpos qual P H5->f l=none->c.Perm (bYu n)->(c.Pairwise λi j=>Stree.wF (if b=true then kz j else kz i) (if b=true then kz i else kz j)=true)->H5 l=some (.lst (c.map λi=> .int (i:Nat)))->Q (.ref l) H5
theorem Y8.keep{lpos:Pos}{qual:Str}{P:Nat}{H a:Hp}(t:Y8 lpos qual P H)(k:xZ H a)(e:a P=H P):Y8 lpos qual P a:=by
 rcases t with t|⟨c,d,b⟩
 ·exact .inl (e.trans t)
 ·exact .inr ⟨c,e.trans d,k.ext b⟩
section
variable {X:Cx}{e body:Expr}{te tb:TE}{x:Str}{names:List Str}{fr:List Nat}{sc:cXx}{params:Arguments}{qual:Str}{p p2 p3 pos lpos kp kp2 bp:Pos}{j:Nat}{b:Bool}{c P:Nat}{k:Nat}
theorem aW8(e7:Gl X "sorted")(g6:X.mg "sorted"=none)(d5:Gl X "range")(d7:X.mg "range"=none)(he:PE X e te)(S:xO X.N X.env.scope x names fr sc)(d9:sc.isCoroutine=false)(c9:sc.isGenerator=false)
  (a7:X.env.code= .ref c) (C:cXn X.base c P) (hB:X.base.BuiltinsAt X.mg P) (hr:vW (k+1) X.A) (b8:defaultsOf params X.env=([],[])) (hq:X.env.qual++"<lambda>"=qual)
  (hb:∀ (cl:List (Str×Nat))(pm g7 b3 u:bYh),bindArgs (PySem.W.kla_fn "<lambda>" qual params body sc cl pm g7 b3) ⟨[u],[]⟩=pure [(x,u)])
  (a9:∀A L q cd cl s H,PE (bKf X A (x::names) qual sc L q cd cl s H) body tb) (b1:bY2 "sorted"=some (.builtin "sorted"):=dk)
  (s2:bYX [e] X.env= [(false,eval e X.env)]:=by rfl):
  PE X (.Call (.Name "sorted" p) [.Call (.Name "range" p2) [e] [] p3] [⟨some "key",.Lambda params body sc lpos,kp⟩,⟨some "reverse",.Constant (.bool b) j bp,kp2⟩] pos) (bZG te fr tb P lpos qual b):=by
 intro g s σ H Q I h
 refine cQW (aXp I e7 g6 b1 ?_)
 refine callWith_kw ?_
 show bYp _ _ (spliced ((false,eval (.Call (.Name "range" p2) [e] [] p3) X.env):: [])) _ _ s
 refine Calls.spliced_cons ?_
 refine cQW (aXp I d5 d7 boot_range ?_)
 refine cZj ?_ s2 rfl
 refine thn (yA he yD s2 p3 g s σ H (λvs H1=>match vs with|[v]=>(∃n:Nat,v= .int n/\n<64/\Y8 lpos qual P H1/\∃kz:Nat->Int×Int,
   (∀i j,i<n->j<n->kz i=kz j->i=j)/\
   (∀i B,i<n->xZ H1 B->Y8 lpos qual P B->∀R:VK,(∀a Z,xZ B Z->Z P=B P->Z a=some (.tup [.int (kz i).1,.int (kz i).2])->R (.ref a) Z)->tb (sub σ fr (some (.int i))) B R)/\
   ∀H5 l (a5:List Nat),xZ H1 H5->Y8 lpos qual P H5->H1 l=none->a5.Perm (bYu n)->(a5.Pairwise λi j=>Stree.wF (if b=true then kz j else kz i) (if b=true then kz i else kz j)=true)->H5 l=some (.lst (a5.map λi=> .int (i:Nat)))->Q (.ref l) H5)|_=>False) I h) λus s1 ⟨vs,H1,I1,r1,z⟩=>?_
 match vs,z with
 |[v],⟨n,e2,hn,hT,kz,hinj,hkey,hfin⟩=>
  subst e2;obtain⟨u,rfl,ru⟩:=aQ6 r1;obtain⟨t,rfl⟩:=ru;refine call_range_1 (Calls.spliced_nil ?_);have fR:=I1.fpOk (b:=s1.heap.objs.size) (bYo _) I1.fresh;have I2:Inv X ((s1.heap.objs.size,{cls:= .type "range",data:= .fields #[.int 0 s1.toks,.int (n:Int) t,.int 1 (s1.toks+1)] })::g) σ H1 {s1 with heap:=s1.heap.push {cls:= .type "range",data:= .fields #[.int 0 s1.toks,.int (n:Int) t,.int 1 (s1.toks+1)] },toks:=s1.toks+1+1}:=by
   have I0:Inv X g σ H1 {s1 with heap:=s1.heap.push {cls:= .type "range",data:= .fields #[.int 0 s1.toks,.int (n:Int) t,.int 1 (s1.toks+1)] },toks:=s1.toks+1+1}:=I1.kept λb o e=>bYm _ e;refine I0.pins_of λq hq=>?_;rcases bYq.mp hq with rfl|hq
   ·exact⟨bYM _ rfl,fR.1,fR.2.1,fR.2.2.1,λv z=>by cases z⟩
   ·exact I0.pin q (bYF _ hq)
  obtain⟨cl,c1,c2,c4⟩:=aJI S I2;refine kws_cons (PySem.W.kla_eval b8 ?_);rw[hq];refine bXn I2 c1 a7 C hB hT λq c' b3 H' s' I3 g8 f7 a8 d8 c0=>?_;refine kws_cons (Constant_bool (kws_nil ?_));show bYp _ _ (call (.builtin "sorted") [.ref s1.heap.objs.size] [(cZF "key",.ref q),(cZF "reverse",.bool b)]) _ _ s';have a3:IsRange s'.heap s1.heap.objs.size 0 n 1 s1.toks t (s1.toks+1):=(I3.pin _ (bYF _ (bYw ..))).1;have I4:Inv X g σ H' s':=I3.pins_of λp G=>I3.pin p (bYF _ (bYt _ G));refine Stree.aJa hr.hd a3 hn (ksk_s2 _ _ _) (λx=>ksk_l2 _ _ _) (λx=>ksk_t2 q x b) λa M tk vs hk a1 ha hI=>?_;have a0:vs.length=n:=by rw[hI.length];simp
  have I5:Inv X g σ H' {s' with heap:=M,toks:=tk}:=I4.kept hk;have Y:=I4.fpOk (b:=a) a1 (I4.hok.fresh a1);have b6:a<M.objs.size:=bYv ha;have c8:s'.heap.objs.size<=M.objs.size+1:=bYT a1 (cXU (cQq b6));have U:=I4.fpOk (b:=M.objs.size+1) c8 (I4.hok.fresh c8);refine Stree.bW2 (s:={s' with heap:=M,toks:=tk}) ha (by rw[a0];exact hn) (λe1 w O=>∃ (B:Hp)(e:Nat),Inv X ((a,bY7 "list" #[] e1)::(M.objs.size+1,bY7 "list" w.toArray e)::g) σ B O/\xZ H' B/\Y8 lpos qual P B/\bJt B kz w) ?h0 ?hget ?hcall ?hend;case h0=>
   intro e1 h2 k2 a2 q2;have I6:Inv X g σ H' {s' with heap:=h2,toks:=tk}:=I5.turned (t':=tk) (h':=h2) (λb o hb e=>k2 b o hb e) Y.1 Y.2.1 Y.2.2.2.1 Y.2.2.2.2.1 Y.2.2.2.2.2;refine⟨H',0,I6.pins_of λp G=>?_,xZ.refl _,d8,λi v D=>by simp at D⟩;rcases bYq.mp G with rfl|G
   ·exact⟨a2,Y.1,Y.2.1,Y.2.2.1,λv z=>by cases z⟩
   ·rcases bYq.mp G with rfl|G
    ·exact⟨q2,U.1,U.2.1,U.2.2.1,λv z=>by cases z⟩
    ·exact I6.pin p (bYF _ G)
  case hget=>
   rintro e1 w O ⟨B,e,J,_,_,_⟩;exact⟨⟨e,(J.pin _ (bYF _ (bYt _ (bYw ..)))).1⟩,(J.pin _ (bYF _ (bYw ..))).1⟩
  case hcall=>
   rintro e1 w O v ⟨B,e,J,k3,t3,z3⟩ D;have F:w.length<n:=by
    rcases cZg w.length vs.length with h|h
    ·omega
    ·rw[bYR h]at D;cases D
   obtain⟨t',rfl⟩:∃t',v=Value.int (w.length:Nat) t':=by
    have r:=jC hI;have e3:((((bYu n).map Int.ofNat)).map V.int)[w.length]? =some (V.int (w.length:Nat)):=by simp[F]
    obtain⟨u,hu,ru⟩:=r.get e3;rw[D]at hu;cases hu;exact ru
   have f0:O.heap.get? q=some (cXw "<lambda>" qual params body sc cl ((X.mg "__name__").getD .none) c' b3):=(J.hok q _ (k3.ext f7)).1;have b9:O.heap.CodeRec (.ref c') qual:=(J.hok c' _ (k3.ext a8)).1;refine cQl (bXm (A:=X.A.in1.in1) J I.ok.frames hr.hd (by have:=hr.dp;show X.A.depth<_;omega) S d9 c9 c2 c4 f0 b9 (λu=>hb cl _ _ _ u) (λA L cd s H=>a9 A L q cd cl s H) (v:= .int (w.length:Nat)) ⟨t',rfl⟩ (Q:=λv Z=>∃a4,v= .ref a4/\xZ B Z/\Z P=B P/\Z a4=some (.tup [.int (kz w.length).1,.int (kz w.length).2])) (hkey w.length B F (c0.trans k3) t3 _ λa4 Z k4 p4 e4=>⟨a4,rfl,k4,p4,e4⟩)) (λkv s4 f9=>?_) λ_ _ x=>x;obtain⟨v4,Z,J4,d6,a4,rfl,k4,p4,e4⟩:=f9;cases d6;refine⟨⟨e,(J4.pin _ (bYF _ (bYt _ (bYw ..)))).1⟩,λh5 c5 sb f6=>?_⟩;have g4:Inv X g σ Z s4:=J4.pins_of λp G=>J4.pin p (bYF _ (bYt _ (bYt _ G)));have pa:=J4.pin _ (bYF _ (bYw ..));have pk:=J4.pin _ (bYF _ (bYt _ (bYw ..)));have J5:Inv X g σ Z {s4 with heap:=h5,toks:=s4.toks}:=g4.turned (t':=s4.toks) (h':=h5) (it:=M.objs.size+1) (λb o hb e=>(sb.2 b hb).trans e) pk.2.1 U.2.1 U.2.2.2.1 U.2.2.2.2.1 U.2.2.2.2.2;refine⟨Z,c5,J5.pins_of λp G=>?_,k3.trans k4,t3.keep k4 p4,λi v D=>?_⟩
   ·rcases bYq.mp G with rfl|G
    ·exact⟨(sb.2 _ (bYI (cQq b6))).trans pa.1,pa.2⟩
    ·rcases bYq.mp G with rfl|G
     ·exact⟨f6,pk.2.1,U.2.1,U.2.2.1,λv z=>by cases z⟩
     ·exact J5.pin p (bYF _ G)
   ·by_cases e5:i<w.length
    ·rw[bYY e5]at D;obtain⟨a6,e6,h6⟩:=z3 i v D;exact⟨a6,e6,k4.tup h6⟩
    ·rw[bYH (by omega)]at D;have:i - w.length=0:=by
      rcases cZg (i - w.length) 1 with h|h
      ·omega
      ·rw[bYR (by simpa using h)]at D;cases D
     have ei:i=w.length:=by omega
     subst ei;simp at D;exact⟨a4,D.symm,e4⟩
  case hend=>
   rintro e1 w O ⟨B,e,J,k3,t3,z3⟩ hl;have J':Inv X g σ B O:=J.pins_of λp G=>J.pin p (bYF _ (bYt _ (bYt _ G)));have c3:w.length=n:=by omega
   obtain⟨r,f5,c7⟩:=Stree.aJ2 (n:=n) (λi j=>Stree.wF (kz (ixb b n i)) (kz (ixb b n j))) (λi _=>Stree.wY _) (λi j k _ _ _ M h2=>Stree.aXK M h2)
    (λi j F hj f8=>Stree.aXJ λz=>f8 (bJQ F hj (hinj _ _ (aZF F) (aZF hj) z)))
   have ob:∀i,i<n->∃a o t1 t2 m,w.getD i Value.none= .ref a/\O.heap.get? a=some o/\o.cls= .type "tuple"/\o.data= .seq #[.int (kz i).1 t1,.int (kz i).2 t2] m:=λi F=>by obtain⟨a6,e6,h6⟩:=z3 i (w.getD i Value.none) (by simp[bY1,bYg (show i<w.length by omega)]);obtain⟨g9,rv,pl,_⟩:=J'.tuple (SqT.of h6);obtain⟨u1,u2,rfl,r1,r2⟩:=xV.two rv;obtain⟨t1,rfl⟩:=r1;obtain⟨t2,rfl⟩:=r2;obtain⟨o,g1,g2,m,g3⟩:=pl;exact⟨a6,o,t1,t2,m,e6,g1,g2,g3⟩
   refine⟨r,by rw[a0];exact f5,λ_=>⟨tuples' true,λQ' e0=>?_,λi j C' F hj hC=>?_⟩,λp h5 c5 c6 b0 f4 k5 g5 o5=>?_⟩
   ·have b4:∀ (l:List bYh)(k:Nat),(∀ (i:Nat)(v:bYh),l[i]? =some v->∃a o t1 t2 m x y,v=Value.ref a/\O.heap.get? a=some o/\o.cls= .type "tuple"/\o.data= .seq #[.int x t1,.int y t2] m)->
      ∃fs,cJH O.heap l fs/\fs.length=l.length/\∀f∈fs,∃x t,f=Value.int x t:=by
     intro l
     induction l with
     |nil=>intro _ _;exact⟨[],trivial,rfl,λf hf=>by cases hf⟩
     |cons v l ih=>
      intro k D;obtain⟨a,o,t1,t2,m,x,y,rfl,g1,g2,g3⟩:=D 0 v rfl;obtain⟨fs,f1,f2,f3⟩:=ih (k+1) λi v h=>D (i+1) v h;refine⟨.int x t1::fs,cZ2 g1 g2 g3 rfl f1,by simp[f2],λf hf=>?_⟩;rcases bYq.mp hf with rfl|hf
      ·exact⟨x,t1,rfl⟩
      ·exact f3 f hf
    obtain⟨fs,f1,f2,f3⟩:=b4 w 0 λi v D=>by
     have F:i<n:=by
      rcases cZg i w.length with h|h
      ·omega
      ·rw[bYR h]at D;cases D
     obtain⟨a,o,t1,t2,m,g0,g1,g2,g3⟩:=ob i F;have:w.getD i Value.none=v:=by simp[bY1,D]
     rw[this]at g0;exact⟨a,o,t1,t2,m,_,_,g0,g1,g2,g3⟩
    refine PySem.W.kat_kind (T:= .type "int") f1 (by omega) (λv D=>?_) rfl e0;obtain⟨x,t,rfl⟩:=f3 v D;exact .now
   ·rw[a0]at F hj;obtain⟨ai,oi,t1,t2,m1,g0,g1,g2,g3⟩:=ob _ (aZF (b:=b) F);obtain⟨aj,oj,t3,t4,m2,d0,d1,d2,d3⟩:=ob _ (aZF (b:=b) hj);show bYp _ _ (keyLt' _ ((cQv b w).getD i Value.none) ((cQv b w).getD j Value.none)) _ _ _;rw[aXR c3 F,aXR c3 hj,g0,d0];refine Stree.aYl g1 g3 d1 d3 ?_;have:=c7 i j F hj;rw[this]at hC;exact hC
   ·rw[a0]at b0;obtain⟨q1,q2⟩:=bWJ b0 f4 c7;have hm:∀i∈p,i<n:=λi F=>bYS.mp (b0.mem_iff.mp F);have vv:∀l:List Nat,(∀i∈l,i<n)->xV ((l.map (ixb b n)).map λi=>V.int (i:Nat)) (l.map λi=>(cQv b vs).getD i Value.none):=by
     intro l;induction l with
     |nil=>intro _;exact .nil
     |cons i l ih=>
      intro h;refine .cons ?_ (ih λj hj=>h j (bYt _ hj));have F:=h i bYw;show zM (V.int (ixb b n i:Nat)) ((cQv b vs).getD i Value.none);rw[aXR a0 F];have hx:=aZF (b:=b) F;have e3:((((bYu n).map Int.ofNat)).map V.int)[ixb b n i]? =some (V.int (ixb b n i:Nat)):=by simp[hx]
      obtain⟨u,hu,ru⟩:=(jC hI).get e3;have:vs.getD (ixb b n i) Value.none=u:=by simp[bY1,hu]
      rw[this];exact ru
    have v2:=vv p hm;have v3:xV ((cQv b (p.map (ixb b n))).map λi=>V.int (i:Nat)) (cQv b (p.map λi=>(cQv b vs).getD i Value.none)):=by
     unfold cQv at v2 ⊢;split
     ·rw[List.map_reverse];rename_i b2;simp only[b2]at v2 ⊢;exact v2.reverse
     ·rename_i b2;simp only[b2]at v2 ⊢;exact v2
    have na:B a=none:=(J.pin _ (bYF _ (bYw ..))).2.1;have nk:B (M.objs.size+1)=none:=(J.pin _ (bYF _ (bYt _ (bYw ..)))).2.1;have b5:(cQv b (p.map (ixb b n))).length=n:=by rw[q1.length_eq,cQa]
    have d4:Inv X g σ (upd B a (.lst ((cQv b (p.map (ixb b n))).map λi=>V.int (i:Nat)))) {O with heap:=h5,gens:=O.gens,drawn:=O.drawn,toks:=O.toks}:=by
     have K:∀d,d∉ [a,M.objs.size+1]->d≠a/\d≠M.objs.size+1:=λd E=>⟨λz=>E (by simp[z]),λz=>E (by simp[z])⟩;refine J'.step (ch:= [a,M.objs.size+1]) (λd E=>?_) (λd o _ _ E e _=>?_) (λd o _ _ E e _=>?_) (λd o E e n=>?_) (λd o E e=>?_) (λd xs e=>?_) (λd o u e=>?_) (λd qs e=>?_) (λm e8=>?_) (λd u e=>?_) J'.bare
     ·rcases bYq.mp E with rfl|E
      ·exact⟨Y.2.2.2.1,Y.2.1,Y.2.2.2.2.1,Y.2.2.2.2.2⟩
      ·rw[bYy.mp E];exact⟨U.2.2.2.1,U.2.1,U.2.2.2.2.1,U.2.2.2.2.2⟩
     ·exact(k5 d (K d E).1 (K d E).2).trans e
     ·exact⟨o.slots,(k5 d (K d E).1 (K d E).2).trans e⟩
     ·rw[yI (K d E).1];exact n
     ·exact⟨o,(k5 d (K d E).1 (K d E).2).trans e⟩
     ·rw[yI (yJ e na)];exact e
     ·rw[yI (yJ e na)];exact e
     ·exact⟨#[],by rw[yI (yJ e na),e];simp⟩
     ·obtain⟨o,es,ep,ho,r⟩:=e8;exact⟨o,es,ep,(k5 _ (bY0 Y.2.1) (bY0 U.2.1)).trans ho,r⟩
     ·by_cases E:d=a
      ·subst E;rw[yB]at e;cases e;exact⟨by rw[bYl,b5,bYQ];omega,_,c6,v3,o5⟩
      ·rw[yI E]at e;refine(J'.hok d u e).stay (λc v hc q=>?_) (λc q=>by rw[yI (yJ q na)];exact q) λc xs q=>by rw[yI (yJ q na)];exact q
       have a8:c≠a:=by
        rcases hc with rfl|hc
        ·exact E
        ·exact yJ hc na
       have e9:c≠M.objs.size+1:=by
        rcases hc with rfl|hc
        ·exact yJ e nk
        ·exact yJ hc nk
       exact(k5 c a8 e9).trans q
    have b7:=yG na (.lst ((cQv b (p.map (ixb b n))).map λi=>V.int (i:Nat)));have hP:upd B a (.lst ((cQv b (p.map (ixb b n))).map λi=>V.int (i:Nat))) P=B P:=by
     rcases t3 with t|⟨_,t,_⟩
     ·rw[yI (yJ t na)]
     ·rw[yI (yJ t na)]
    have nl:H1 a=none:=by
     cases hz:H1 a with
     |none=>rfl
     |some o=>exact absurd (I1.hok.lt hz) (Nat.not_lt.mpr (bYT (cXU (bYv a3)) a1))
    exact⟨rfl,.ref a,_,d4,rfl,hfin _ a _ (c0.trans (k3.trans b7.t)) (t3.keep b7.t hP) nl q1 q2 yB⟩
end
end L2
namespace Stree
open PySem PySem.W PySem.Calls PyProof.Rows
open PySem.SeqAt
open PySem.AutoSeq1 (wpAny_loadPart')
open PySem.MeetsSeq PySem.MeetsSeq2 PySem.MeetsSeq3
def W4{α:Type} [DecidableEq α] (lt:α->α->Bool):List α->List α->Bool
 |[],[]=>false
 |[],_::_=>true
 |_::_,[]=>false
 |x::xs,y::ys=>if x=y then W4 lt xs ys else lt x y
theorem aYj{α:Type} [DecidableEq α] {lt:α->α->Bool}(x y:α)(xs ys:List α):W4 lt (x::xs) (y::ys)=if x=y then W4 lt xs ys else lt x y:=rfl
theorem aJi{α:Type} [DecidableEq α] {lt:α->α->Bool}{rep:α->bYh->Prop}(l b:Nat)(items items2:Array bYh)(n T:Nat)(Y G:Option Nat)(U I:Array (Option bYh))(xs ys:List α)(K:bY6 rep xs items.toList)(L:bY6 rep ys items2.toList): Meets (cQ4.«tuple.__lt__» ⟨[.ref l,.ref b],[]⟩) (λA R s=>s.heap.get? l=some {cls:= .type "tuple",dict:=Y,data:= .seq items n,slots:=U}/\s.heap.get? b=some {cls:= .type "tuple",dict:=G,data:= .seq items2 T,slots:=I}/\ (∀x y u v,rep x u->rep y v->EqAt A.in1 s u v (decide (x=y)))/\(∀x y u v,x≠y->rep x u->rep y v->∀ (prog:bYD)(w:bYL)(E:bYh->bYk->Prop)(Q:bYh->bYk->Prop),Q (.bool (lt x y)) s->bYp (bYr prog w) A.in1 (richCompare .Lt u v) Q E s)/\ R (.ok (.ret (.bool (W4 lt xs ys)))) s):=
 .of_wp λprog w A R s h=>by
  obtain⟨M,g,d,tk,O⟩:=s;obtain⟨hl,V,F,H,h⟩:=h;have f2:=AutoSeq1.sub_tuple_tuple;have z1:items.size=xs.length:=by have:=K.length;simpa using this.symm
  have z2:items2.size=ys.length:=by have:=L.length;simpa using this.symm
  wp_walk using wpAny_loadPart' hl,wpAny_loadPart' V,wpAny_forIn_list _ (λjW b C=>b.1=none/\C=⟨M,g,d,tk,O⟩/\∃ (B z:List bYh)(j i:List α),jW=B.zip z/\
   bY6 rep j B/\bY6 rep i z/\j.length+items2.size=i.length+items.size/\R (.ok (.ret (.bool (W4 lt j i)))) ⟨M,g,d,tk,O⟩) _
  case turn=>
   rintro⟨y,x⟩ jW b C ⟨o,rfl,B,z,j,i,k,p,m,f,hR⟩;cases p with
   |nil=>rw[List.zip_nil_left]at k;cases k
   |@cons a y' P W D r=>
    cases m with
    |nil=>rw[List.zip_nil_right]at k;cases k
    |@cons c Z S X t q=>
     rw[List.zip_cons_cons]at k;injection k with hyx hrest
     injection hyx with hy hx
     subst hy hx;rw[aYj]at hR;simp only[cQg]at f;refine bYi (F a c _ _ D t prog w _ _ ?_);by_cases e:a=c
     ·rw[if_pos e]at hR;rw[decide_eq_true e];wp_walk;exact⟨rfl,rfl,_,_,_,_,hrest,r,q,by omega,hR⟩
     ·rw[if_neg e]at hR;rw[decide_eq_false e];have J:=H a c _ _ e D t prog w;wp_walk using J;exact⟨_,rfl,by simpa using hR⟩
  case fin=>
   rintro⟨b1,b2⟩ C ⟨o,rfl,B,z,j,i,k,p,m,f,hR⟩;simp only at o;subst o;have N:W4 lt j i=decide (items.size<items2.size):=by
    cases p with
    |nil=>
     cases m with
     |nil=>simp only[cXs]at f;exact(decide_eq_false (by omega)).symm
     |cons t hw=>simp only[cXs,cQg]at f;exact(decide_eq_true (by omega)).symm
    |cons D N=>
     cases m with
     |nil=>simp only[cXs,cQg]at f;exact(decide_eq_false (by omega)).symm
     |cons t hw=>rw[List.zip_cons_cons]at k;cases k
   rw[N]at hR;wp_walk;exact⟨_,rfl,by simpa[Builtin.Tuple.tupleCompareSizes]using hR⟩
  case h=>
   exact⟨rfl,rfl,items.toList,items2.toList,xs,ys,rfl,K,L,by omega,h⟩
section
variable {A:bYZ}{s:bYk}{α:Type} [DecidableEq α] {lt:α->α->Bool}{rep:α->bYh->Prop}{l b:Nat}{items items2:List bYh}{xs ys:List α}
def bWc(A:bYZ)(s:bYk)(u v:bYh)(c:Bool):Prop:=∀ (prog:bYD)(w:bYL)(E:bYh->bYk->Prop)(Q:bYh->bYk->Prop),Q (.bool c) s->bYp (bYr prog w) A (richCompare .Lt u v) Q E s
theorem bZ6(hl:cZc s.heap l items.toArray)(B:cZc s.heap b items2.toArray)(q:bY6 rep xs items)(t:bY6 rep ys items2)(C:A.units<cLine)
  (f:∀x y u v,rep x u->rep y v->EqAt A.in1 s u v (decide (x=y))) (i:∀x y u v,x≠y->rep x u->rep y v->bWc A.in1 s u v (lt x y)):bWc A s (.ref l) (.ref b) (W4 lt xs ys):=λprog w E Q h=>by
 obtain⟨⟨cls,D,data,z⟩,m,o,n,k⟩:=id hl
 obtain⟨⟨p,g,e,j⟩,a,c,r,d⟩:=id B
 simp only at o k c d
 subst o k c d
 exact richCompare_meets_room (op:= .Lt) ⟨_,m,rfl⟩ ⟨_,a,rfl⟩ PySem.F.slot_tuple_lt PySem.F.entry_tuple_lt (PySem.F.args_tuple_lt_2 _ _) (aJi (lt:=lt) l b items.toArray items2.toArray n r D g z j xs ys q t)
  ⟨m,a,f,i,show Value.bool (W4 lt xs ys)≠Value.notImplemented/\Q (.bool (W4 lt xs ys)) s from⟨(λx=>nomatch x),h⟩⟩ C
theorem bWi:∀ {xs ys:List α},((bYu (min xs.length ys.length)).all (λj=>decide (xs[j]? =ys[j]?)) && xs.length==ys.length)=decide (xs=ys):=by
 intro xs ys;rw[Bool.eq_iff_iff];simp only[Bool.and_eq_true,cZn,bYS,decide_eq_true_eq,beq_iff_eq];constructor
 ·rintro⟨a,c⟩;apply cXz;intro i;by_cases b:i<xs.length
  ·exact a i (by omega)
  ·rw[bYR (by omega),bYR (by omega)]
 ·rintro rfl;exact⟨λ_ _=>rfl,rfl⟩
theorem X7{rep:α->bYh->Prop}:∀ {xs:List α} {us:List bYh} {i:Nat} {u:bYh},bY6 rep xs us->us[i]? =some u->∃x,xs[i]? =some x/\rep x u
 |_,_,0,_,.cons r _,h=>by simp at h;subst h;exact⟨_,rfl,r⟩
 |_,_,i+1,_,.cons _ t,h=>by simpa using X7 (i:=i) t (by simpa using h)
 |_,_,i,_,.nil,h=>by simp at h
theorem X6{rep:α->bYh->Prop}(a:∀x y u,rep x u->rep y u->x=y):∀ {xs ys:List α} {us:List bYh},bY6 rep xs us->bY6 rep ys us->xs=ys
 |_,_,_,.nil,.nil=>rfl
 |_,_,_,.cons r t,.cons r' t'=>by rw[a _ _ _ r r',X6 a t t']
theorem bZ2(hl:cZc s.heap l items.toArray)(m:cZc s.heap b items2.toArray)(c:bY6 rep xs items)(g:bY6 rep ys items2)(D:A.units<cLine)(t:∀x y u,rep x u->rep y u->x=y) (f:∀x y u v,rep x u->rep y v->EqAt A.in1 s u v (decide (x=y))):EqAt A s (.ref l) (.ref b) (decide (xs=ys)):=by
 by_cases e:l=b
 ·subst e;obtain⟨o,d,_,n,h⟩:=hl;obtain⟨H,i,_,G,k⟩:=m;rw[d]at i;cases i;rw[h]at k;have a:items=items2:=by
   have:items.toArray=items2.toArray:=by injection k
   simpa using congrArg Array.toList this
  subst a;rw[decide_eq_true (X6 t c g)];exact EqAt.same _
 ·refine EqAt.of_refs e ?_;have z:=RcAt.tuples (A:=A) (s:=s) (e:=λj=>decide (xs[j]? =ys[j]?)) (show s.heap.IsTuple l items.toArray from hl) (show s.heap.IsTuple b items2.toArray from m) D λj d h=>?_
  ·have F:items.toArray.size=xs.length:=by rw[bYA];exact c.length.symm
   have a:items2.toArray.size=ys.length:=by rw[bYA];exact g.length.symm
   rw[F,a,bWi]at z;exact z
  ·have w:items[j]? =some items[j]:=bYg (by simpa using d);have E:items2[j]? =some items2[j]:=bYg (by simpa using h);obtain⟨x,p,r⟩:=X7 c w;obtain⟨y,C,B⟩:=X7 g E;have q:=f x y _ _ r B;show EqAt A.in1 s items[j] items2[j] (decide (xs[j]? =ys[j]?));rw[p,C];have:decide (some x=some y)=decide (x=y):=by simp
   rw[this];exact q
end
def bVp(i:Int)(u:bYh):Prop:=∃t,u= .int i t
def rep2(h:Heap)(p:Int×Int)(u:bYh):Prop:=∃a b,u= .ref a/\cZc h a b.toArray/\bY6 bVp [p.1,p.2] b
def rep3(h:Heap)(c:List (Int×Int))(u:bYh):Prop:=∃a b,u= .ref a/\cZc h a b.toArray/\bY6 (rep2 h) c b
theorem aVU(x y:Int)(u:bYh)(a:bVp x u)(b:bVp y u):x=y:=by
 obtain⟨t,rfl⟩:=a;obtain⟨c,e⟩:=b;cases e;rfl
theorem bZN{h:Heap}{a:Nat}{i j:List bYh}(e:cZc h a i.toArray)(g:cZc h a j.toArray):i=j:=by
 obtain⟨o,d,_,n,f⟩:=e;obtain⟨l,c,_,k,b⟩:=g;rw[d]at c;cases c;rw[f]at b;have:i.toArray=j.toArray:=by injection b
 simpa using congrArg Array.toList this
theorem bX9{h:Heap}(x y:Int×Int)(u:bYh)(f:rep2 h x u)(g:rep2 h y u):x=y:=by
 obtain⟨a,i,rfl,c,b⟩:=f;obtain⟨l,j,e,d,k⟩:=g;cases e;rw[bZN c d]at b;have:=X6 aVU b k;injection this with e1 e2;injection e2 with e2 _;exact Prod.ext e1 e2
section
variable {A:bYZ}{s:bYk}
theorem eq1(x y:Int)(u v:bYh)(b:bVp x u)(c:bVp y v):EqAt A s u v (decide (x=y)):=by
 obtain⟨t,rfl⟩:=b;obtain⟨a,rfl⟩:=c;have:decide (x=y)=(x==y):=by rw[Bool.eq_iff_iff];simp
 rw[this];exact EqAt.int_int x t y a
theorem lt1(x y:Int)(u v:bYh)(d:x≠y)(b:bVp x u)(c:bVp y v):bWc A s u v (decide (x<y)):=by
 obtain⟨t,rfl⟩:=b;obtain⟨a,rfl⟩:=c;exact λprog w E Q h=>HT.bX8 A s x t y a prog w E Q h
theorem eq2(c:A.units<cLine)(x y:Int×Int)(u v:bYh)(h:rep2 s.heap x u)(k:rep2 s.heap y v):EqAt A s u v (decide (x=y)):=by
 obtain⟨a,i,rfl,d,f⟩:=h;obtain⟨b,j,rfl,g,l⟩:=k;have z:=bZ2 d g f l c aVU λx y u v=>eq1 x y u v;have:decide ([x.1,x.2]= [y.1,y.2])=decide (x=y):=by
  rw[Bool.eq_iff_iff,decide_eq_true_eq,decide_eq_true_eq];constructor
  ·intro e;injection e with e1 e2;injection e2 with e2 _;exact Prod.ext e1 e2
  ·rintro rfl;rfl
 rw[this]at z;exact z
theorem aYi(x y:Int×Int):W4 (λa b:Int=>decide (a<b)) [x.1,x.2] [y.1,y.2]=wF x y:=by
 unfold wF W4 W4 W4;by_cases c:x.1=y.1
 ·by_cases d:x.2=y.2<;> simp[c,d]
 ·simp[c]
theorem lt2(c:A.units<cLine)(x y:Int×Int)(u v:bYh)(k:x≠y)(g:rep2 s.heap x u)(h:rep2 s.heap y v):bWc A s u v (wF x y):=by
 obtain⟨a,i,rfl,d,e⟩:=g;obtain⟨b,j,rfl,f,l⟩:=h;have z:=bZ6 (lt:=λa b:Int=>decide (a<b)) d f e l c (λx y u v=>eq1 x y u v) (λx y u v=>lt1 x y u v);rw[aYi]at z;exact z
theorem eq3(c:A.units+1<cLine)(x y:List (Int×Int))(u v:bYh)(g:rep3 s.heap x u)(h:rep3 s.heap y v):EqAt A s u v (decide (x=y)):=by
 obtain⟨a,i,rfl,d,e⟩:=g;obtain⟨b,j,rfl,f,k⟩:=h;exact bZ2 d f e k (by omega) bX9 λx y u v=>eq2 (A:=A.in1) c x y u v
theorem lt3(c:A.units+1<cLine)(x y:List (Int×Int))(u v:bYh)(k:x≠y)(g:rep3 s.heap x u)(h:rep3 s.heap y v):bWc A s u v (W4 wF x y):=by
 obtain⟨a,i,rfl,d,e⟩:=g;obtain⟨b,j,rfl,f,l⟩:=h;exact bZ6 d f e l (by omega) (λx y u v=>eq2 (A:=A.in1) c x y u v) (λx y u v=>lt2 (A:=A.in1) c x y u v)
end
section
variable {prog:bYD}{w:bYL}{A:bYZ}{E:bYh->bYk->Prop}{s:bYk}
theorem bJU{x y:Nat}{m g:Obj}{n k:Nat}{u v:bYh}{a c:List (Int×Int)}{i j:Int}{o q:Tok}{Q:Bool->bYk->Prop}(l:A.units+1<cLine)(p:s.heap.get? x=some m)(dx:m.data= .seq #[u,.int i o] n)(t:s.heap.get? y=some g)(z:g.data= .seq #[v,.int j q] k) (d:rep3 s.heap a u) (f:rep3 s.heap c v) (b:a=c->i=j) (h:Q (decide (a≠c) && W4 wF a c) s):bYp (bYr prog w) A (keyLt' (tuples' false) (.ref x) (.ref y)) Q E s:=by
 refine kat_lt p dx t z ?_;refine kat_cons (eq3 l a c u v d f prog w _ _ ?_);by_cases e:a=c
 ·rw[decide_eq_true e];refine kat_yes (kat_cons (aJB ?_));rw[beq_iff_eq.mpr (b e)];refine kat_yes (kat_nil ?_);simpa[e]using h
 ·rw[decide_eq_false e];have r:Q (W4 wF a c) s:=by simpa[e]using h
  exact kat_no (kat_one _ _ (lt3 l a c u v e d f prog w _ _ r))
theorem aZ8{a:Nat}{vs:List bYh}{P:PySem.Fin->bYk->Prop}{n0:Nat}(H:s.heap.get? a=some (bY7 "list" vs.toArray n0))(U:vs.length<64)(r:Nat->Int)(hr:Inj vs.length r) (F:2<=vs.length->∃κ,∀g,(∀c o,c≠a->s.heap.get? c=some o->g.get? c=some o)->(∀Q:SortKind->bYk->Prop,Q κ {s with heap:=g}->bYp (bYr prog w) A (keyKind' vs.toArray) Q (λ_ _=>False) {s with heap:=g})/\ ∀i j C,i<vs.length->j<vs.length->C (decide (r i<r j)) {s with heap:=g}->kas_ask prog w A κ vs i j C {s with heap:=g}) (u:∀ (p:List Nat) g c,p.Perm (bYu vs.length)->p.Pairwise (λi j=>r i<r j)->(∀d o,d≠a->s.heap.get? d=some o->g.get? d=some o)->g.get? a=some (bY7 "list" (p.map λi=>vs.getD i Value.none).toArray c)->P (.done (.ret .none)) {s with heap:=g}): bYp (bYr prog w) A (cQ4.«list.sort» ⟨[.ref a],[]⟩) P E s:=by
 have ha:a<s.heap.objs.size:=bYv H;obtain⟨t,D⟩:∃t,(s.heap.update a (cQb λ_=>(#[]:Array bYh))).get? a=some (bY7 "list" #[] t):=⟨_,cX7 H λ_=> #[]⟩;rw[list_sort_plain];refine bYi (listItems_at H rfl ?_);refine bYi (cZv H rfl ?_ (by rw[bYA,bYQ];omega) (cQf _));refine bYi (seqEpoch_at D rfl ?_);refine bYi (wpAny_newTuple ?_ (by show vs.length<=_;rw[bYQ];omega));refine bYi (cZy ?_ (cQf _));refine cQB ?_;have L:∀c o,c≠a->s.heap.get? c=some o->(((s.heap.update a (cQb λ_=>(#[]:Array bYh))).push (bY7 "tuple" vs.toArray 0)).push (bY7 "list" #[] 0)).get? c=some o:=λc o hc e=>
  bYm _ (bYm _ ((bYV _ _ (bY0 hc)).trans e))
 have J:(((s.heap.update a (cQb λ_=>(#[]:Array bYh))).push (bY7 "tuple" vs.toArray 0)).push (bY7 "list" #[] 0)).get? a=some (bY7 "list" #[] t):=bYm _ (bYm _ D);show bYp (bYr prog w) A _ P E {s with heap:=((s.heap.update a (cQb λ_=>(#[]:Array bYh))).push (bY7 "tuple" vs.toArray 0)).push (bY7 "list" #[] 0) };generalize ((s.heap.update a (cQb λ_=>(#[]:Array bYh))).push (bY7 "tuple" vs.toArray 0)).push (bY7 "list" #[] 0)=h1 at L J ⊢;dsimp only;have l:∀ (v:SortSt)(p:List Nat),p.Perm (bYu vs.length)->p.Pairwise (λi j=>r i<r j)->(arrOf v).map (·.2)=cQp (p.map λi=>vs.getD i Value.none)->failedOf v=none->
   bYp (bYr prog w) A (do
    let b:=(<- seqEpoch a) !=t
    Builtin.List.listUpdate (.ref a) λ_=>(arrOf v).map (·.2)
    if let some e:=failedOf v then rule "list.sort.comparison-raised";throw e
    if b then rule "list.sort.modified";raiseError "ValueError" "list modified during sort"
    ret .none) P E {s with heap:=h1}:=by
  intro v p f n y S
  have T:p.length=vs.length:=by rw[f.length_eq,cQa]
  rw[y]
  obtain⟨K,R⟩:∃K,(h1.update a (cQb λ_=>cQp (p.map λi=>vs.getD i Value.none))).get? a=some (bY7 "list" (cQp (p.map λi=>vs.getD i Value.none)) K):=⟨_,cX7 J λ_=>cQp (p.map λi=>vs.getD i Value.none)⟩
  have N:(cQp (p.map λi=>vs.getD i Value.none)).size=vs.length:=by rw[bYA,bYl,T]
  refine bYi (seqEpoch_at J rfl ?_)
  refine bYi (cZv J rfl ?_ (cQf _) (bYT (cXT N) (by rw[bYQ];omega)))
  rw[S]
  simp only[bne_self_eq_false,Bool.false_eq_true,if_false]
  exact bYn (u p _ K f n (λd o V e=>(bYV _ _ (bY0 V)).trans (L d o V e)) R)
 by_cases q:vs.toArray.size<2
 ·rw[if_pos q,if_pos q];refine bYi (bYn ?_);refine bYi (bYn ?_);have m:vs.length<2:=by rw[bYA]at q;exact q
  refine l (SortSt.mk' general' (vs.toArray.zip vs.toArray) #[] 7 none) (bYu vs.length) (List.Perm.refl _) ?_ ?_ rfl
  ·rw[cXN];intro i j I hj a0;rw[cQa]at I hj;omega
  ·show((cQp vs).zip (cQp vs)).map (·.2)=_;apply Array.toList_inj.mp;rw[Array.toList_map,Array.toList_zip];simp only[cJb];have t:(List.zip vs vs).map (·.2)=vs:=List.map_snd_zip (bYo _);rw[t];apply cXz;intro i;rw[bYB];by_cases I:i<vs.length
   ·rw[cXk I];simp[bY1,bYg I]
   ·rw[bYR (by omega),bYR (by rw[cQa];omega)];rfl
 ·have m:2<=vs.length:=by rw[bYA]at q;omega
  rw[if_neg q,if_neg q];obtain⟨κ,hκ⟩:=F m;obtain⟨hκ,G⟩:=hκ h1 L;refine bYi (cQl (hκ (λk B=>k=κ/\B= {s with heap:=h1}) ⟨rfl,rfl⟩) (λk B Y=>?_) λ_ _ x=>x.elim);obtain⟨rfl,rfl⟩:=Y;have M:(kas_sort vs.length).kasWp (kas_ask prog w A k vs) (λp z=>z= {s with heap:=h1}/\p.toList.Perm (bYu vs.length)/\p.toList.Pairwise (λi j=>r i<r j)) {s with heap:=h1}:=
   Asks.wp (lt:=W5 r) G (aZ9 hr (by omega)) λp hp=>⟨rfl,hp⟩
  refine bYi (cQl (kat_run (Q:=λh z=>∃p:Array Nat,arrOf h=p.map (kas_item (vs.toArray.zip vs.toArray))/\failedOf h=none/\
    z= {s with heap:=h1}/\p.toList.Perm (bYu vs.length)/\p.toList.Pairwise (λi j=>r i<r j))
   rfl m U (λp' h z a1 Z X W=>⟨p',Z,X,W⟩) M) ?_ λ_ _ x=>x)
  rintro⟨⟨⟩,h⟩ z ⟨p,O,S,rfl,f,n⟩;dsimp only;exact l _ p.toList f n (kat_snds rfl O) S
end
end Stree
namespace Stree
open PySem PySem.W PySem.Calls PyProof.Rows
abbrev qP:=List (Int×Int)
abbrev jJ:qP->qP->Bool:=W4 wF
theorem vQ:∀a:qP,jJ a a=false
 |[]=>rfl
 |x::r=>by show(if x=x then W4 wF r r else wF x x)=false;rw[if_pos rfl];exact vQ r
theorem X4:∀ {a b c:qP},jJ a b=true->jJ b c=true->jJ a c=true
 |[],[],_,h,_=>by cases h
 |[],_::_,[],_,h=>by cases h
 |[],_::_,_::_,_,_=>rfl
 |_::_,[],_,h,_=>by cases h
 |_::_,_::_,[],_,h=>by cases h
 |x::a,y::b,z::c,h1,h2=>by
  have f:(if x=y then W4 wF a b else wF x y)=true:=h1;have d:(if y=z then W4 wF b c else wF y z)=true:=h2;show(if x=z then W4 wF a c else wF x z)=true;by_cases i:x=y
  ·rw[if_pos i]at f;subst i;by_cases g:x=z
   ·rw[if_pos g]at d ⊢;exact X4 f d
   ·rw[if_neg g]at d ⊢;exact d
  ·rw[if_neg i]at f;by_cases g:y=z
   ·rw[if_pos g]at d;subst g;rw[if_neg i];exact f
   ·rw[if_neg g]at d;have j:=aXK f d;have:x≠z:=λe=>by rw[e,wY]at j;cases j
    rw[if_neg this];exact j
theorem aXL:∀ {a b:qP},a≠b->jJ a b=true\/jJ b a=true
 |[],[],h=>absurd rfl h
 |[],_::_,_=> .inl rfl
 |_::_,[],_=> .inr rfl
 |x::a,y::b,h=>by
  show(if x=y then W4 wF a b else wF x y)=true\/(if y=x then W4 wF b a else wF y x)=true;by_cases e:x=y
  ·subst e;rw[if_pos rfl,if_pos rfl];exact aXL λz=>h (by rw[z])
  ·rw[if_neg e,if_neg (bY0 e)];exact aXJ e
theorem aVI:∀ (a:qP) {b:qP},b≠ []->jJ a (a++b)=true
 |[],[],h=>absurd rfl h
 |[],_::_,_=>rfl
 |x::a,b,h=>by show(if x=x then W4 wF a (a++b)else _)=true;rw[if_pos rfl];exact aVI a h
theorem aZL:∀ (a:qP) {x y:Int×Int} {b c:qP},wF x y=true->jJ (a++x::b) (a++y::c)=true
 |[],x,y,b,c,h=>by
  show(if x=y then W4 wF b c else wF x y)=true;have:x≠y:=λe=>by rw[e,wY]at h;cases h
  rw[if_neg this];exact h
 |z::a,x,y,b,c,h=>by show(if z=z then W4 wF (a++x::b) (a++y::c)else _)=true;rw[if_pos rfl];exact aZL a h
theorem uniq{α:Type}{lt:α->α->Prop}(d:∀a,¬lt a a)(i:∀a b c,lt a b->lt b c->lt a c):∀ {l m:List α},l.Pairwise lt->m.Pairwise lt->(∀a,a∈l↔a∈m)->l=m
 |[],[],_,_,_=>rfl
 |[],y::m,_,_,h=>by have:=(h y).mpr bYw;cases this
 |x::l,[],_,_,h=>by have:=(h x).mp bYw;cases this
 |x::l,y::m,h1,h2,h=>by
  obtain⟨j,k⟩:=cQI.mp h1;obtain⟨b1,n⟩:=cQI.mp h2;have e:x=y:=by
   rcases bYq.mp ((h x).mp bYw)with e|e
   ·exact e
   ·rcases bYq.mp ((h y).mpr bYw)with g|g
    ·exact g.symm
    ·exact absurd (i _ _ _ (j y g) (b1 x e)) (d x)
  subst e;rw[uniq d i k n λa=>?_];constructor
  ·intro f;rcases bYq.mp ((h a).mp (bYt _ f))with e|e
   ·subst e;exact absurd (j a f) (d a)
   ·exact e
  ·intro f;rcases bYq.mp ((h a).mpr (bYt _ f))with e|e
   ·subst e;exact absurd (b1 a f) (d a)
   ·exact e
theorem IsTup.keep{h h':Heap}{a x:Nat}{vs its:Array bYh}{n:Nat}(f:h.get? a=some (bY7 "list" vs n))(k:∀c o,c≠a->h.get? c=some o->h'.get? c=some o)(t:cZc h x its):cZc h' x its:=by
 obtain⟨o,e,c,m,d⟩:=t;refine⟨o,k x o (λz=>?_) e,c,m,d⟩;rw[z,f]at e;cases e;have b:Value.type "list"=Value.type "tuple":=c;injection b with c'';exact absurd c'' (by decide)
theorem rep2.keep{h h':Heap}{a:Nat}{vs:Array bYh}{n:Nat}(b:h.get? a=some (bY7 "list" vs n))(k:∀c o,c≠a->h.get? c=some o->h'.get? c=some o){p:Int×Int}{u:bYh}(t:rep2 h p u):rep2 h' p u:=
 let ⟨x,its,e,t1,t2⟩:=t;⟨x,its,e,IsTup.keep b k t1,t2⟩
theorem rep3.keep{h h':Heap}{a:Nat}{vs:Array bYh}{n:Nat}(b:h.get? a=some (bY7 "list" vs n))(k:∀c o,c≠a->h.get? c=some o->h'.get? c=some o){p:qP}{u:bYh}(t:rep3 h p u):rep3 h' p u:=
 let ⟨x,its,e,t1,t2⟩:=t;⟨x,its,e,IsTup.keep b k t1,L2.Paired.mapP t2 λ_ _ z=>rep2.keep b k z⟩
end Stree
namespace L2
open PySem PySem.Spec PyProof.Rows
open Stree (qP jJ)
def bJw(H:Hp)(p:Int×Int)(x:V):Prop:=∃c,x= .ref c/\H c=some (.tup [.int p.1,.int p.2])
def Y7(H:Hp)(b:Nat)(c:qP):Prop:=∃a,H b=some (.tup a)/\bY6 (bJw H) c a
section
variable {X:Cx}{pins:List (Nat×Obj)}{σ:St}{H:Hp}{s:bYk}{k:Nat}
theorem aYM{α β γ:Type}{F:α->β->Prop}{G:β->γ->Prop}{K:α->γ->Prop}(h:∀a b c,F a b->G b c->K a c):∀ {l:List α} {m:List β} {n:List γ},bY6 F l m->bY6 G m n->bY6 K l n
 |_,_,_,.nil,.nil=> .nil
 |_,_,_,.cons a r,.cons b t=> .cons (h _ _ _ a b) (aYM h r t)
theorem Inv.rep2(I:Inv X pins σ H s){p:Int×Int}{x:V}{u:bYh}(h:bJw H p x)(r:zM x u):Stree.rep2 s.heap p u:=by
 obtain⟨c,rfl,e⟩:=h;cases r;obtain⟨a,f,b,_⟩:=I.tuple (SqT.of e);obtain⟨j,i,rfl,d,g⟩:=xV.two f;exact⟨c,_,rfl,b,.cons d (.cons g .nil)⟩
theorem Inv.rep3(I:Inv X pins σ H s){b:Nat}{f:qP}(h:Y7 H b f):Stree.rep3 s.heap f (.ref b):=by
 obtain⟨j,e,z⟩:=h;obtain⟨d,i,g,_⟩:=I.tuple (SqT.of e);exact⟨b,d,rfl,g,aYM (F:=bJw H) (G:=zM) (K:=Stree.rep2 s.heap) (λ_ _ _ a c=>I.rep2 a c) z i⟩
theorem J8(hr:vW k X.A):qD X (.builtin "sorted") (λxs H Q=>∃ (p:Nat)(its:List V)(d:Nat->qP)(kn:Nat->Int),xs= [.ref p]/\H p=some (.lst its)/\its.length<64/\ (∀i j,i<its.length->j<its.length->d i=d j->i=j)/\(∀i x,its[i]? =some x->∃a b,x= .ref a/\H a=some (.tup [.ref b,.int (kn i)])/\Y7 H b (d i))/\ ∀l (out:List Nat),H l=none->out.Perm (bYu its.length)->(out.Pairwise λi j=>jJ (d i) (d j)=true)->Q (.ref l) (upd H l (.lst (out.map λi=>its.getD i .non)))):=by
 intro pins s σ H xs us Q I r h;obtain⟨p,its,d,kn,rfl,hp,b1,K,a4,q⟩:=h;obtain⟨u,rfl,ru⟩:=aQ6 r;cases ru;obtain⟨g,rv,pl,hz⟩:=I.list (SqL.of hp);have a0:g.length=its.length:=rv.length.symm;refine cZC kind_sorted plain_sorted entry_sorted (args_sorted1 _) ?_;unfold cQ4.«sorted»;refine bYi (m:=checkCount "sorted" 1 1 _) (bYn ?_);refine bYi (collect_list pl.isList ?_ (by rw[bYQ];omega));refine bYi (cZy ?_ (by rw[bYQ];omega));have U:((s.heap.push (bY7 "list" #[] 0)).update s.heap.objs.size (cQb (·++g.toArray))).objs.size=s.heap.objs.size+1:=by rw[Heap.size_update,size_push']
 have y:(((s.heap.push (bY7 "list" #[] 0)).update s.heap.objs.size (cQb (·++g.toArray))).push (bY7 "list" g.toArray 0)).get? (s.heap.objs.size+1)=some (bY7 "list" g.toArray 0):=by rw[<- U];exact bYM _ rfl
 have keep:∀b o,s.heap.get? b=some o->(((s.heap.push (bY7 "list" #[] 0)).update s.heap.objs.size (cQb (·++g.toArray))).push (bY7 "list" g.toArray 0)).get? b=some o:=λb o q=>by have G:b<s.heap.objs.size:=bYv q;rw[Heap.get?_push_ne _ _ _ (by rw[U];exact bYI (cQq G)),cZ9 _ _ _ _ (bYI G),Heap.get?_push_ne _ _ _ (bYI G)];exact q
 show bYp _ _ _ _ _ {s with heap:=((s.heap.push (bY7 "list" #[] 0)).update s.heap.objs.size (cQb (·++g.toArray))).push (bY7 "list" g.toArray 0) };rw[U];generalize a9:((s.heap.push (bY7 "list" #[] 0)).update s.heap.objs.size (cQb (·++g.toArray))).push (bY7 "list" g.toArray 0)=L at y keep ⊢;refine bYi (cQB (cXb cJn ⟨_,y,rfl⟩ cJf ?body (cJm _)));case body=>
  have I1:Inv X pins σ H {s with heap:=L}:=I.kept (t':=s.toks) keep;have R:s.heap.objs.size<=s.heap.objs.size+1:=cXq _;have fa:=I.fpOk (b:=s.heap.objs.size+1) R (I.hok.fresh R);obtain⟨r,a7,a1⟩:=Stree.aJ2 (n:=g.length) (λi j=>jJ (d i) (d j)) (λi _=>Stree.vQ _) (λi j k _ _ _ L D=>Stree.X4 L D)
   (λi j C P a8=>Stree.aXL λz=>a8 (K i j (by omega) (by omega) z))
  have ob:∀i,i<g.length->∃a o u t m,g.getD i Value.none= .ref a/\L.get? a=some o/\o.cls= .type "tuple"/\o.data= .seq #[u,.int (kn i) t] m/\Stree.rep3 L (d i) u:=λi C=>by
   have B:i<its.length:=by omega
   obtain⟨a,b,e1,e2,e3⟩:=a4 i its[i] (bYg B);obtain⟨u0,O,J⟩:=rv.get (bYg B);rw[e1]at J;cases J;obtain⟨b0,rj,pj,_⟩:=I1.tuple (SqT.of e2);obtain⟨u1,u2,rfl,q1,q2⟩:=xV.two rj;cases q1;obtain⟨t,rfl⟩:=q2;obtain⟨o,F,E,m,N⟩:=pj;exact⟨a,o,_,t,m,by simp[bY1,O],F,E,N,I1.rep3 e3⟩
  refine Stree.aZ8 (s:={s with heap:=L}) y (by omega) r a7 (λD=>⟨tuples' false,λD Z=>⟨λQ' a3=>?_,λi j C' C P hC=>?_⟩⟩) λp h5 c5 S a6 k5 o5=>?_
  ·have kt:∀ {x:Nat} {o:Obj},L.get? x=some o->o.cls= .type "tuple"->D.get? x=some o:=λ{x o} e c=>Z x o (λz=>by rw[z,y]at e;cases e;have c':Value.type "list"=Value.type "tuple":=c;injection c' with c'';exact absurd c'' (by decide)) e;have Y:∀ (l:List bYh),(∀ (i:Nat)(v:bYh),l[i]? =some v->∃a o u w m,v=Value.ref a/\D.get? a=some o/\o.cls= .type "tuple"/\o.data= .seq #[u,w] m/\∃c its,u= .ref c/\cZc D c its)->
     ∃fs,cJH D l fs/\fs.length=l.length/\∀f∈fs,∃c its,f=Value.ref c/\cZc D c its:=by
    intro l
    induction l with
    |nil=>intro _;exact⟨[],trivial,rfl,λf hf=>by cases hf⟩
    |cons v l ih=>
     intro M;obtain⟨a,o,u,w,m,rfl,F,E,N,c,its,rfl,g4⟩:=M 0 v rfl;obtain⟨fs,f1,f2,f3⟩:=ih λi v h=>M (i+1) v h;refine⟨.ref c::fs,cZ2 F E N rfl f1,by simp[f2],λf hf=>?_⟩;rcases bYq.mp hf with rfl|hf
     ·exact⟨c,its,rfl,g4⟩
     ·exact f3 f hf
   obtain⟨fs,f1,f2,f3⟩:=Y g λi v M=>by
    have C:i<g.length:=by
     rcases cZg i g.length with h|h
     ·exact h
     ·rw[bYR h]at M;cases M
    obtain⟨a,o,u,t,m,g0,F,E,N,g4⟩:=ob i C;have:g.getD i Value.none=v:=by simp[bY1,M]
    rw[this]at g0;obtain⟨c,its,e,g5,_⟩:=g4;exact⟨a,o,u,_,m,g0,kt F E,E,N,c,_,e,Stree.IsTup.keep y Z g5⟩
   refine PySem.W.kat_kind (T:= .type "tuple") f1 (by omega) (λv M=>?_) rfl a3;obtain⟨c,its,rfl,o,F,E,_⟩:=f3 v M;have z:PySem.W.Looks (bYr X.prog X.w) D (typeOf (.ref c)) o.cls:=(PySem.W.Looks.ld F).andThen .now;rw[E]at z;exact z
  ·obtain⟨ai,oi,ui,t1,m1,g0,F,E,N,g4⟩:=ob i C;obtain⟨aj,oj,uj,t3,m2,d0,d1,d2,d3,d4⟩:=ob j P;have kt:∀ {x:Nat} {o:Obj},L.get? x=some o->o.cls= .type "tuple"->D.get? x=some o:=λ{x o} e c=>Z x o (λz=>by rw[z,y]at e;cases e;have c':Value.type "list"=Value.type "tuple":=c;injection c' with c'';exact absurd c'' (by decide)) e;show bYp _ _ (keyLt' _ (g.getD i Value.none) (g.getD j Value.none)) _ _ _;rw[g0,d0];refine Stree.bJU (by have:=hr.un;show X.A.units+1+1+1<cLine;omega) (kt F E) N (kt d1 d2) d3 (Stree.rep3.keep y Z g4) (Stree.rep3.keep y Z d4) (λz=>by rw[K i j (by omega) (by omega) z]) ?_;have e1:=a1 i j C P;rw[e1]at hC;by_cases z:d i=d j
   ·have:jJ (d i) (d j)=false:=by rw[z];exact Stree.vQ _
    rw[this]at hC;simpa[z]using hC
   ·have:decide (d i≠d j)=true:=decide_eq_true z;rw[this,Bool.true_and];exact hC
  ·have hm:∀i∈p,i<g.length:=λi C=>bYS.mp (S.mem_iff.mp C);have vv:∀l:List Nat,(∀i∈l,i<g.length)->xV (l.map λi=>its.getD i .non) (l.map λi=>g.getD i Value.none):=by
    intro l;induction l with
    |nil=>intro _;exact .nil
    |cons i l ih=>
     intro h;refine .cons ?_ (ih λj P=>h j (bYt _ P));have C:=h i bYw;have B:i<its.length:=by omega
     obtain⟨u0,O,J⟩:=rv.get (bYg B);show zM (its.getD i .non) (g.getD i Value.none);have e1:g.getD i Value.none=u0:=by simp[bY1,O]
     have e2:its.getD i .non=its[i]:=by simp[bY1,bYg B]
     rw[e1,e2];exact J
   have v2:=vv p hm;have a5:p.Perm (bYu its.length):=by rw[<- a0];exact S
   have G:p.length=g.length:=by rw[S.length_eq,cQa]
   have a2:p.Pairwise λi j=>jJ (d i) (d j)=true:=a6.imp_of_mem λ{i j} C P h=>by have:=a1 i j (hm i C) (hm j P);rw[<- this];exact decide_eq_true h
   have I5:Inv X pins σ (upd H (s.heap.objs.size+1) (.lst (p.map λi=>its.getD i .non))) {s with heap:=h5}:=
    I.laid (t':=s.toks) (λb o e=>k5 b o (bYI (cQq (bYv e))) (keep b o e)) R ⟨by rw[bYl,bYQ];omega,_,c5,v2,o5⟩
   exact⟨_,rfl,bYn ⟨_,rfl,⟨.ref _,_,I5,rfl,q _ p fa.1 a5 a2⟩⟩⟩
end
end L2
namespace L2
open PySem PySem.Spec PyProof.Rows
section
variable {X:Cx}
theorem uK:qD X (.builtin "sorted") (λxs H Q=>∃ (p:Nat)(its:List V)(g:Nat->Int×Int),xs= [.ref p]/\H p=some (.lst its)/\its.length<64/\ (∀i j,i<its.length->j<its.length->g i=g j->i=j)/\(∀i x,its[i]? =some x->∃a,x= .ref a/\H a=some (.tup [.int (g i).1,.int (g i).2]))/\ ∀l (out:List Nat),H l=none->out.Perm (bYu its.length)->(out.Pairwise λi j=>Stree.wF (g i) (g j)=true)->Q (.ref l) (upd H l (.lst (out.map λi=>its.getD i .non)))):=by
 intro G s σ H xs us Q I r h;obtain⟨p,its,g,rfl,hp,b2,Y,a5,q⟩:=h;obtain⟨u,rfl,ru⟩:=aQ6 r;cases ru;obtain⟨d,rv,pl,hz⟩:=I.list (SqL.of hp);have Z:d.length=its.length:=rv.length.symm;refine cZC kind_sorted plain_sorted entry_sorted (args_sorted1 _) ?_;unfold cQ4.«sorted»;refine bYi (m:=checkCount "sorted" 1 1 _) (bYn ?_);refine bYi (collect_list pl.isList ?_ (by rw[bYQ];omega));refine bYi (cZy ?_ (by rw[bYQ];omega));have a2:((s.heap.push (bY7 "list" #[] 0)).update s.heap.objs.size (cQb (·++d.toArray))).objs.size=s.heap.objs.size+1:=by rw[Heap.size_update,size_push']
 have w:(((s.heap.push (bY7 "list" #[] 0)).update s.heap.objs.size (cQb (·++d.toArray))).push (bY7 "list" d.toArray 0)).get? (s.heap.objs.size+1)=some (bY7 "list" d.toArray 0):=by rw[<- a2];exact bYM _ rfl
 have keep:∀b o,s.heap.get? b=some o->(((s.heap.push (bY7 "list" #[] 0)).update s.heap.objs.size (cQb (·++d.toArray))).push (bY7 "list" d.toArray 0)).get? b=some o:=λb o q=>by have a1:b<s.heap.objs.size:=bYv q;refine bYm _ ?_;exact(bYV _ _ (cXV a1)).trans (bYm _ q)
 show bYp _ _ _ _ _ {s with heap:=((s.heap.push (bY7 "list" #[] 0)).update s.heap.objs.size (cQb (·++d.toArray))).push (bY7 "list" d.toArray 0) };rw[a2];generalize b0:((s.heap.push (bY7 "list" #[] 0)).update s.heap.objs.size (cQb (·++d.toArray))).push (bY7 "list" d.toArray 0)=S at w keep ⊢;refine bYi (cQB (cXb cJn ⟨_,w,rfl⟩ cJf ?body (cJm _)));case body=>
  have I1:Inv X G σ H {s with heap:=S}:=I.kept (t':=s.toks) keep;have P:s.heap.objs.size<=s.heap.objs.size+1:=cXq _;have fa:=I.fpOk (b:=s.heap.objs.size+1) P (I.hok.fresh P);obtain⟨r,a8,a0⟩:=Stree.aJ2 (n:=d.length) (λi j=>Stree.wF (g i) (g j)) (λi _=>Stree.wY _) (λi j k _ _ _ S O=>Stree.aXK S O)
   (λi j C N a9=>Stree.aXJ λz=>a9 (Y i j (by omega) (by omega) z))
  have ob:∀i,i<d.length->∃a o B D m,d.getD i Value.none= .ref a/\S.get? a=some o/\o.cls= .type "tuple"/\o.data= .seq #[.int (g i).1 B,.int (g i).2 D] m:=λi C=>by
   have A:i<its.length:=by omega
   obtain⟨a,e1,e2⟩:=a5 i its[i] (bYg A);obtain⟨u0,L,E⟩:=rv.get (bYg A);rw[e1]at E;cases E;obtain⟨b1,rj,pj,_⟩:=I1.tuple (SqT.of e2);obtain⟨u1,u2,rfl,q1,q2⟩:=xV.two rj;obtain⟨B,rfl⟩:=q1;obtain⟨D,rfl⟩:=q2;obtain⟨o,M,J,m,K⟩:=pj;exact⟨a,o,B,D,m,by simp[bY1,L],M,J,K⟩
  refine Stree.aZ8 (s:={s with heap:=S}) w (by omega) r a8 (λO=>⟨tuples' true,λO k2=>⟨λQ' a4=>?_,λi j C' C N hC=>?_⟩⟩) λp h5 c5 R a7 k5 o5=>?_
  ·have kt:∀ {x:Nat} {o:Obj},S.get? x=some o->o.cls= .type "tuple"->O.get? x=some o:=λ{x o} e c=>k2 x o (λz=>by rw[z,w]at e;cases e;have c':Value.type "list"=Value.type "tuple":=c;injection c' with c'';exact absurd c'' (by decide)) e;have U:∀ (l:List bYh),(∀ (i:Nat)(v:bYh),l[i]? =some v->∃a o B D m x y,v=Value.ref a/\O.get? a=some o/\o.cls= .type "tuple"/\o.data= .seq #[.int x B,.int y D] m)->
     ∃fs,cJH O l fs/\fs.length=l.length/\∀f∈fs,∃x t,f=Value.int x t:=by
    intro l
    induction l with
    |nil=>intro _;exact⟨[],trivial,rfl,λf hf=>by cases hf⟩
    |cons v l ih=>
     intro F;obtain⟨a,o,B,D,m,x,y,rfl,M,J,K⟩:=F 0 v rfl;obtain⟨fs,f1,f2,f3⟩:=ih λi v h=>F (i+1) v h;refine⟨.int x B::fs,cZ2 M J K rfl f1,by simp[f2],λf hf=>?_⟩;rcases bYq.mp hf with rfl|hf
     ·exact⟨x,B,rfl⟩
     ·exact f3 f hf
   obtain⟨fs,f1,f2,f3⟩:=U d λi v F=>by
    have C:i<d.length:=by
     rcases cZg i d.length with h|h
     ·exact h
     ·rw[bYR h]at F;cases F
    obtain⟨a,o,B,D,m,g0,M,J,K⟩:=ob i C;have:d.getD i Value.none=v:=by simp[bY1,F]
    rw[this]at g0;exact⟨a,o,B,D,m,_,_,g0,kt M J,J,K⟩
   refine PySem.W.kat_kind (T:= .type "int") f1 (by omega) (λv F=>?_) rfl a4;obtain⟨x,t,rfl⟩:=f3 v F;exact .now
  ·obtain⟨ai,oi,B,D,m1,g0,M,J,K⟩:=ob i C;obtain⟨aj,oj,t3,t4,m2,d0,d1,d2,d3⟩:=ob j N;have kt:∀ {x:Nat} {o:Obj},S.get? x=some o->o.cls= .type "tuple"->O.get? x=some o:=λ{x o} e c=>k2 x o (λz=>by rw[z,w]at e;cases e;have c':Value.type "list"=Value.type "tuple":=c;injection c' with c'';exact absurd c'' (by decide)) e;show bYp _ _ (keyLt' _ (d.getD i Value.none) (d.getD j Value.none)) _ _ _;rw[g0,d0];refine Stree.aYl (kt M J) K (kt d1 d2) d3 ?_;have e1:=a0 i j C N;rw[e1]at hC;exact hC
  ·have hm:∀i∈p,i<d.length:=λi C=>bYS.mp (R.mem_iff.mp C);have vv:∀l:List Nat,(∀i∈l,i<d.length)->xV (l.map λi=>its.getD i .non) (l.map λi=>d.getD i Value.none):=by
    intro l;induction l with
    |nil=>intro _;exact .nil
    |cons i l ih=>
     intro h;refine .cons ?_ (ih λj N=>h j (bYt _ N));have C:=h i bYw;have A:i<its.length:=by omega
     obtain⟨u0,L,E⟩:=rv.get (bYg A);show zM (its.getD i .non) (d.getD i Value.none);have e1:d.getD i Value.none=u0:=by simp[bY1,L]
     have e2:its.getD i .non=its[i]:=by simp[bY1,bYg A]
     rw[e1,e2];exact E
   have v2:=vv p hm;have a6:p.Perm (bYu its.length):=by rw[<- Z];exact R
   have a1:p.length=d.length:=by rw[R.length_eq,cQa]
   have a3:p.Pairwise λi j=>Stree.wF (g i) (g j)=true:=a7.imp_of_mem λ{i j} C N h=>by have:=a0 i j (hm i C) (hm j N);rw[<- this];exact decide_eq_true h
   have I5:Inv X G σ (upd H (s.heap.objs.size+1) (.lst (p.map λi=>its.getD i .non))) {s with heap:=h5}:=
    I.laid (t':=s.toks) (λb o e=>k5 b o (bYI (cQq (bYv e))) (keep b o e)) P ⟨by rw[bYl,bYQ];omega,_,c5,v2,o5⟩
   exact⟨_,rfl,bYn ⟨_,rfl,⟨.ref _,_,I5,rfl,q _ p fa.1 a6 a3⟩⟩⟩
end
end L2
namespace Fm
open Stree (qP jJ wF)
structure Ok(n:Nat)(L:Nat->Option Nat)(rk:Nat->Nat):Prop where
 lt:∀i j,i<n->L i=some j->j<n/\rk j<rk i
def rdF(L:Nat->Option Nat)(D:Nat->Int):Nat->Nat->qP
 |0,i=> [(D i,(i:Int))]
 |f+1,i=>match L i with
  |none=> [(D i,(i:Int))]
  |some j=>rdF L D f j++ [(D i,(i:Int))]
def tpF(L:Nat->Option Nat):Nat->Nat->Nat
 |0,i=>i
 |f+1,i=>match L i with
  |none=>i
  |some j=>tpF L f j
section
variable {n:Nat}{L:Nat->Option Nat}{D:Nat->Int}{rk:Nat->Nat}
theorem aXP{i:Nat}(h:L i=none):∀f,rdF L D f i= [(D i,(i:Int))]
 |0=>rfl
 |f+1=>by unfold rdF;rw[h]
theorem aZc{i:Nat}(h:L i=none):∀f,tpF L f i=i
 |0=>rfl
 |f+1=>by unfold tpF;rw[h]
theorem jM(o:Ok n L rk):∀ (f g i:Nat),i<n->rk i<=f->rk i<=g->rdF L D f i=rdF L D g i
 |f,g,i,hi,hf,hg=>by
  cases h:L i with
  |none=>rw[aXP h,aXP h]
  |some j=>
   obtain⟨a,b⟩:=o.lt i j hi h;cases f with
   |zero=>omega
   |succ f=>
    cases g with
    |zero=>omega
    |succ g=>show(match L i with|none=>_|some j=>rdF L D f j++ [(D i,(i:Int))])=(match L i with|none=>_|some j=>rdF L D g j++ [(D i,(i:Int))]);rw[h];show rdF L D f j++_=rdF L D g j++_;rw[jM o f g j a (by omega) (by omega)]
theorem jR(o:Ok n L rk):∀ (f g i:Nat),i<n->rk i<=f->rk i<=g->tpF L f i=tpF L g i
 |f,g,i,hi,hf,hg=>by
  cases h:L i with
  |none=>rw[aZc h,aZc h]
  |some j=>
   obtain⟨a,b⟩:=o.lt i j hi h;cases f with
   |zero=>omega
   |succ f=>
    cases g with
    |zero=>omega
    |succ g=>show(match L i with|none=>_|some j=>tpF L f j)=(match L i with|none=>_|some j=>tpF L g j);rw[h];exact jR o f g j a (by omega) (by omega)
def rd(L:Nat->Option Nat)(D:Nat->Int)(rk:Nat->Nat)(i:Nat):qP:=rdF L D (rk i) i
def tp(L:Nat->Option Nat)(rk:Nat->Nat)(i:Nat):Nat:=tpF L (rk i) i
theorem X8{i:Nat}(h:L i=none):rd L D rk i= [(D i,(i:Int))]:=aXP h _
theorem wA{i:Nat}(h:L i=none):tp L rk i=i:=aZc h _
theorem uD(o:Ok n L rk){i j:Nat}(a:i<n)(h:L i=some j):rd L D rk i=rd L D rk j++ [(D i,(i:Int))]:=by
 obtain⟨b,c⟩:=o.lt i j a h;unfold rd;cases d:rk i with
 |zero=>omega
 |succ m=>show(match L i with|none=>_|some j=>rdF L D m j++ [(D i,(i:Int))])=_;rw[h];show rdF L D m j++_=_;rw[jM o m (rk j) j b (by omega) (bYo _)]
theorem uI(o:Ok n L rk){i j:Nat}(a:i<n)(h:L i=some j):tp L rk i=tp L rk j:=by
 obtain⟨b,c⟩:=o.lt i j a h;unfold tp;cases d:rk i with
 |zero=>omega
 |succ m=>show(match L i with|none=>_|some j=>tpF L m j)=_;rw[h];exact jR o m (rk j) j b (by omega) (bYo _)
theorem aXy(o:Ok n L rk){P:Nat->Prop}(h0:∀i,i<n->L i=none->P i)(a:∀i j,i<n->L i=some j->P j->P i):∀ (m i:Nat),rk i<=m->i<n->P i
 |m,i,hm,hi=>by
  cases h:L i with
  |none=>exact h0 i hi h
  |some j=>
   obtain⟨b,c⟩:=o.lt i j hi h;cases m with
   |zero=>omega
   |succ m=>exact a i j hi h (aXy o h0 a m j (by omega) b)
theorem bQT(o:Ok n L rk){i:Nat}(a:i<n):tp L rk i<n/\L (tp L rk i)=none:=
 aXy o (P:=λi=>tp L rk i<n/\L (tp L rk i)=none) (λi a h=>by rw[wA h];exact⟨a,h⟩) (λi j a h b=>by rw[uI o a h];exact b) (rk i) i (bYo _) a
theorem aXQ(o:Ok n L rk){i:Nat}(a:i<n):∃r,rd L D rk i=r++ [(D i,(i:Int))]:=by
 cases h:L i with
 |none=>exact⟨[],X8 h⟩
 |some j=>exact⟨_,uD o a h⟩
theorem aYV(o:Ok n L rk){i j:Nat}(a:i<n)(c:j<n)(h:rd L D rk i=rd L D rk j):i=j:=by
 obtain⟨r,e⟩:=aXQ (D:=D) o a;obtain⟨d,b⟩:=aXQ (D:=D) o c;rw[e,b]at h;have:=(cZo h rfl).2;injection this with z _;have:=congrArg Prod.snd z;simp only at this;omega
theorem bVm(o:Ok n L rk){i:Nat}(a:i<n):∃r,rd L D rk i=(D (tp L rk i),((tp L rk i:Nat):Int))::r:=
 aXy o (P:=λi=>∃r,rd L D rk i=(D (tp L rk i),((tp L rk i:Nat):Int))::r) (λi a h=>⟨[],by rw[X8 h,wA h]⟩)
  (λi j a h ⟨r,e⟩=>⟨r++ [(D i,(i:Int))],by rw[uD o a h,uI o a h,e];rfl⟩) (rk i) i (bYo _) a
def Un(L:Nat->Option Nat)(D:Nat->Int)(rk:Nat->Nat)(v z:Nat):Prop:=rd L D rk v<+:rd L D rk z
theorem bKa(o:Ok n L rk){i:Nat}(a:i<n):Un L D rk (tp L rk i) i:=by
 obtain⟨r,e⟩:=bVm (D:=D) o a;have h:=(bQT o a).2;unfold Un;rw[X8 h,e];exact⟨r,rfl⟩
theorem bZO(o:Ok n L rk){v:Nat}(q:v<n):∀ {k:Nat},k<n->Un L D rk v k->k≠v->∃c,c<n/\L c=some v/\Un L D rk c k:=λ{k} d i a=>by
 refine aXy o (P:=λk=>Un L D rk v k->k≠v->∃c,c<n/\L c=some v/\Un L D rk c k) (λk d h i a=>?_) (λk p d h t i a=>?_) (rk k) k (bYo _) d i a
 ·obtain⟨r,e⟩:=i;obtain⟨j,m⟩:=aXQ (D:=D) o q;rw[X8 h,m]at e;have hl:=congrArg cXp e;simp only[bYE,cQg,cXs]at hl;have s:j= []:=cQ5 (by omega);have u:r= []:=cQ5 (by omega);rw[s,u]at e;injection e with z _;have:=congrArg Prod.snd z;simp only at this;omega
 ·obtain⟨y,_⟩:=o.lt k p d h;have b:=i;unfold Un at b;rw[uD o d h]at b;by_cases g:p=v
  ·subst g;exact⟨k,d,h,List.prefix_refl _⟩
  ·have f:Un L D rk v p:=by
    obtain⟨r,e⟩:=b;rcases List.eq_nil_or_concat r with rfl|⟨j,x,rfl⟩
    ·rw[cQk]at e;obtain⟨j,m⟩:=aXQ (D:=D) o q;rw[m]at e;have:=(cZo e rfl).2;injection this with z _;have:=congrArg Prod.snd z;simp only at this;omega
    ·rw[List.concat_eq_append,<- cQw]at e;exact⟨j,(cZo e rfl).1⟩
   obtain⟨c,w,hl,l⟩:=t f g;refine⟨c,w,hl,?_⟩;unfold Un;rw[uD o d h];exact List.IsPrefix.trans l (List.prefix_append _ _)
theorem bW9(o:Ok n L rk){v z:Nat}(c:v<n)(hz:z<n)(h:Un L D rk v z)(a:z≠v):jJ (rd L D rk v) (rd L D rk z)=true:=by
 obtain⟨r,e⟩:=h;rw[<- e];refine Stree.aVI _ λb=>a ?_;rw[b,cQk]at e;exact(aYV o c hz e).symm
theorem bW0(o:Ok n L rk){v c d z:Nat}(i:c<n)(f:d<n)(g:L c=some v)(h:L d=some v)(a:wF (D c,(c:Int)) (D d,(d:Int))=true)(b:Un L D rk c z):jJ (rd L D rk z) (rd L D rk d)=true:=by
 obtain⟨r,e⟩:=b;rw[<- e,uD o i g,uD o f h,cQw];exact Stree.aZL _ a
structure aJm(n:Nat)(L:Nat->Option Nat)(D:Nat->Int)(rk:Nat->Nat)(root:Nat)(told nx:List Nat):Prop where
 tl:∀x∈told,x<n/\tp L rk x=root
 al:∀x∈nx,x<n/\tp L rk x=root
 tt:told.Pairwise λx y=>jJ (rd L D rk x) (rd L D rk y)=true
 ta:∀x∈told,∀y∈nx,jJ (rd L D rk x) (rd L D rk y)=true
 aa:nx.Pairwise λx y=>∀z,Un L D rk x z->jJ (rd L D rk z) (rd L D rk y)=true
 all:∀k,k<n->tp L rk k=root->k∈told\/∃a∈nx,Un L D rk a k
theorem aJm.start(o:Ok n L rk){i:Nat}(b:i<n):aJm n L D rk (tp L rk i) [] [tp L rk i]:=by
 have h:=bQT o b;refine⟨λx a=>(nomatch a),λx a=>?_,.nil,λx a=>(nomatch a),cQH _ _,λk c e=> .inr ⟨_,bYy.mpr rfl,?_⟩⟩
 ·rw[bYy.mp a];exact⟨h.1,by rw[wA h.2]⟩
 ·have z:=bKa (D:=D) o c;rw[e]at z;exact z
theorem aJm.step(o:Ok n L rk){j v:Nat}{m jW wE:List Nat}(W:aJm n L D rk j m (v::jW))(G:∀i,i∈wE↔i<n/\L i=some v)(I:wE.Pairwise λx y=>wF (D x,(x:Int)) (D y,(y:Int))=true):aJm n L D rk j (m++ [v]) (wE++jW):=by
 obtain⟨C,q⟩:=W.al v bYw;obtain⟨F,H⟩:=cQI.mp W.aa;have b:∀c∈wE,c<n/\L c=some v/\tp L rk c=j/\Un L D rk v c/\c≠v:=λc l=>by
  obtain⟨s,t⟩:=(G c).mp l;refine⟨s,t,by rw[uI o s t];exact q,?_,λz=>?_⟩
  ·unfold Un;rw[uD o s t];exact List.prefix_append _ _
  ·have:=(o.lt c v s t).2;rw[z]at this;omega
 have self:∀x,Un L D rk x x:=λx=>List.prefix_refl _;refine⟨λx f=>?_,λx f=>?_,?_,λx f y g=>?_,?_,λk p A=>?_⟩
 ·rcases bYU.mp f with f|f
  ·exact W.tl x f
  ·rw[bYy.mp f];exact⟨C,q⟩
 ·rcases bYU.mp f with f|f
  ·exact⟨(b x f).1,(b x f).2.2.1⟩
  ·exact W.al x (bYt _ f)
 ·refine cZ1.mpr ⟨W.tt,cQH _ _,λx f y g=>?_⟩;rw[bYy.mp g];exact W.ta x f v bYw
 ·have r:∀y∈wE++jW,jJ (rd L D rk v) (rd L D rk y)=true:=λy g=>by
   rcases bYU.mp g with g|g
   ·exact bW9 o C (b y g).1 (b y g).2.2.2.1 (b y g).2.2.2.2
   ·exact F y g v (self v)
  rcases bYU.mp f with f|f
  ·exact Stree.X4 (W.ta x f v bYw) (r y g)
  ·rw[bYy.mp f];exact r y g
 ·refine cZ1.mpr ⟨I.imp_of_mem λ{c d} l hd h z B=>bW0 o (b c l).1 (b d hd).1 (b c l).2.1 (b d hd).2.1 h B,H,λc l y g z B=>?_⟩;exact F y g z (List.IsPrefix.trans (b c l).2.2.2.1 B)
 ·rcases W.all k p A with h|⟨a,u,E⟩
  ·exact .inl (cXe _ h)
  ·rcases bYq.mp u with rfl|u
   ·by_cases e:k=a
    ·exact .inl (bYF _ (bYy.mpr e))
    ·obtain⟨c,l,hl,w⟩:=bZO o C p E e;exact .inr ⟨c,cXe _ ((G c).mpr ⟨l,hl⟩),w⟩
   ·exact .inr ⟨a,bYF _ u,E⟩
theorem aJm.nodup{b:Nat}{a nx:List Nat}(W:aJm n L D rk b a nx):a.Nodup:=
 W.tt.imp λ{x y} h z=>by rw[z,Stree.vQ]at h;cases h
theorem wP:∀ {n:Nat} {l:List Nat},l.Nodup->(∀x∈l,x<n)->l.length<=n
 |0,[],_,_=>bYo _
 |0,x::_,_,h=>absurd (h x bYw) (cQ3 _)
 |n+1,l,nd,h=>by
  by_cases b:n∈l
  ·have c:=wP (n:=n) (l:=l.erase n) (nd.erase n) λx a=>by
    have:=(cJD nd).mp a;have:=h x this.2;omega
   rw[cJE b]at c;omega
  ·have c:=wP (n:=n) (l:=l) nd λx a=>by
    have:=h x a;have:x≠n:=λz=>b (z ▸ a);omega
   omega
theorem aJm.len{b:Nat}{a nx:List Nat}(W:aJm n L D rk b a nx):a.length<=n:=wP W.nodup λx c=>(W.tl x c).1
theorem aJm.done{c:Nat}{b:List Nat}(W:aJm n L D rk c b [])(k:Nat):k∈b↔k<n/\tp L rk k=c:=
 ⟨λh=>W.tl k h,λ⟨d,f⟩=>(W.all k d f).elim id λ⟨a,e,_⟩=>nomatch e⟩
end
end Fm
namespace Fm
open Stree (qP jJ wF)
section
variable {n:Nat}{L:Nat->Option Nat}{D:Nat->Int}{rk rk':Nat->Nat}
theorem aYW(o:Ok n L rk)(b:Ok n L rk'){i:Nat}(a:i<n):rd L D rk i=rd L D rk' i:=by
 unfold rd;rw[jM o (rk i) (max (rk i) (rk' i)) i a (bYo _) (Nat.le_max_left _ _),jM b (rk' i) (max (rk i) (rk' i)) i a (bYo _) (Nat.le_max_right _ _)]
theorem qN(o:Ok n L rk)(b:Ok n L rk'){i:Nat}(a:i<n):tp L rk i=tp L rk' i:=by
 unfold tp;rw[jR o (rk i) (max (rk i) (rk' i)) i a (bYo _) (Nat.le_max_left _ _),jR b (rk' i) (max (rk i) (rk' i)) i a (bYo _) (Nat.le_max_right _ _)]
theorem bVn(o:Ok n L rk){i:Nat}(c:i<n):∃l:List Nat,(rd L D rk i).map (·.2)=l.map (λk:Nat=>(k:Int))/\l.Nodup/\(∀k∈l,k<n/\rk k<=rk i):=
 aXy o (P:=λi=>∃l:List Nat,(rd L D rk i).map (·.2)=l.map (λk:Nat=>(k:Int))/\l.Nodup/\(∀k∈l,k<n/\rk k<=rk i)) (λi c h=>⟨[i],by rw[X8 h];rfl,by simp,λk d=>by rw[bYy.mp d];exact⟨c,bYo _⟩⟩)
  (λi j c h ⟨l,e,nd,hl⟩=>by
   obtain⟨p,m⟩:=o.lt i j c h;refine⟨l++ [i],by rw[uD o c h,cQA,cQA,e];rfl,?_,λk d=>?_⟩
   ·rw[cXK];refine⟨nd,by simp,λa f b g z=>?_⟩;rw[bYy.mp g]at z;have:=(hl a f).2;rw[z]at this;omega
   ·rcases bYU.mp d with d|d
    ·have:=hl k d;exact⟨this.1,by omega⟩
    ·rw[bYy.mp d];exact⟨c,bYo _⟩) (rk i) i (bYo _) c
theorem bWS(o:Ok n L rk){i:Nat}(b:i<n):(rd L D rk i).length<=n:=by
 obtain⟨l,e,c,hl⟩:=bVn (D:=D) o b;have h:=congrArg cXp e;rw[bYl,bYl]at h;rw[h];exact wP c λk a=>(hl k a).1
theorem bJM(o:Ok n L rk){a b:Nat}(ha:a<n)(hb:b<n)(h0:L a=none)(hne:tp L rk b≠a):Ok n (λi=>if i=a then some b else L i) (λi=>if tp L rk i=a then rk i+rk b+1 else rk i) where
 lt:=λi j hi h=>by
  by_cases e:i=a
  ·subst e
   rw[if_pos rfl]at h
   cases h
   rw[if_neg hne,if_pos (wA h0)]
   exact⟨hb,by omega⟩
  ·rw[if_neg e]at h
   obtain⟨hj,hr⟩:=o.lt i j hi h
   have et:=uI o hi h
   refine⟨hj,?_⟩
   rw[et]
   split<;> omega
theorem bXx(o:Ok n L rk)(a:Nat):Ok n (λi=>if i=a then none else L i) rk where
 lt:=λi j hi h=>by
  by_cases e:i=a
  ·rw[if_pos e]at h;cases h
  ·rw[if_neg e]at h;exact o.lt i j hi h
def bJq(rk:Nat->Nat):Option Nat->Nat
 |none=>0
 |some j=>rk j+1
theorem bXc(o:Ok n L rk)(l:Option Nat)(hl:∀j,l=some j->j<n):Ok (n+1) (λi=>if i=n then l else L i) (λi=>if i=n then bJq rk l else rk i) where
 lt:=λi j hi h=>by
  by_cases e:i=n
  ·rw[if_pos e]at h
   have hj:=hl j h
   rw[if_pos e,if_neg (by omega),h]
   exact⟨by omega,cQ8 _⟩
  ·rw[if_neg e]at h
   obtain⟨hj,hr⟩:=o.lt i j (by omega) h
   rw[if_neg e,if_neg (by omega)]
   exact⟨by omega,hr⟩
theorem bV3(o:Ok n L rk){i:Nat}(a:i<n):tp L rk (tp L rk i)=tp L rk i:=wA (bQT o a).2
theorem Ok.congr{b:Nat->Option Nat}(o:Ok n L rk)(h:∀i,i<n->L i=b i):Ok n b rk:=⟨λi j a e=>o.lt i j a ((h i a).trans e)⟩
end
end Fm
namespace Dm
def opn(d:Int):Bool:=decide (d % 7<5)
def cts(a:List Int)(d:Int):Bool:=opn d && !(a.contains d)
def cnt(b:List Int)(a:Int):Nat->Nat
 |0=>0
 |n+1=>cnt b a n+(if cts b (a+n)then 1 else 0)
def place(d:Int):Int:=d / 7*5+(if 4<d % 7 then 4 else d % 7)
def zN(p:Int):Int:=p / 5*7+p % 5
theorem aW9(d:Int):place d=place (d - 1)+(if opn d then 1 else 0):=by
 unfold place opn;simp only[decide_eq_true_eq];split<;> split<;> split<;> omega
theorem bJB(b:List Int)(a:Int)(n m:Nat):cnt b a (n+m)=cnt b a n+cnt b (a+n) m:=by
 induction m with
 |zero=>rfl
 |succ m d=>have e:cnt b a (n+(m+1))=cnt b a (n+m)+(if cts b (a+((n+m:Nat):Int))then 1 else 0):=rfl;have c:cnt b (a+n) (m+1)=cnt b (a+n) m+(if cts b (a+n+(m:Int))then 1 else 0):=rfl;rw[e,c,d,show a+((n+m:Nat):Int)=a+n+(m:Int) by omega];omega
def vC(a b:Int)(d:Int):Bool:=decide (a<=d) && decide (d<=b)
theorem aJE{S:List Int}(k:S.Nodup)(a b:Int)(g:a<=b+1): (S.filter (vC a (b+1))).length=(S.filter (vC a b)).length+(if S.contains (b+1)then 1 else 0):=by
 induction S with
 |nil=>rfl
 |cons x r d=>
  have c:=cXu.mp k;have d:=d c.2;by_cases i:x=b+1
  ·subst i;have j:r.contains (b+1)=false:=by
    rw[<- Bool.not_eq_true,cQS];exact c.1
   rw[j]at d;have f:vC a (b+1) (b+1)=true:=by simp[vC,g]
   have h:vC a b (b+1)=false:=by simp[vC];omega
   rw[cQY f,cQX (by rw[h];decide)];simp at d ⊢;omega
  ·have f:vC a (b+1) x=vC a b x:=by
    unfold vC;have:decide (x<=b+1)=decide (x<=b):=by rw[decide_eq_decide];omega
    rw[this]
   have h:(x::r).contains (b+1)=r.contains (b+1):=by
    rw[cXE];have:(b+1==x)=false:=by simp;omega
    rw[this,Bool.false_or]
   rw[h];by_cases e:vC a b x=true
   ·rw[cQY (by rw[f];exact e),cQY e];simp only[cQg];omega
   ·rw[cQX (by rw[f];exact e),cQX e];exact d
theorem aWt{b S:List Int}(i:S.Nodup)(g:∀d,d∈S↔d∈b/\opn d=true)(a:Int)(n:Nat): (cnt b a n:Int)=place (a+n - 1) - place (a - 1) - ((S.filter (vC a (a+n - 1))).length:Nat):=by
 induction n with
 |zero=>
  have:S.filter (vC a (a+(0:Nat) - 1))= []:=by rw[List.filter_eq_nil_iff];intro x _;simp[vC];omega
  rw[this];simp[cnt]
 |succ n j=>
  have f:=aJE i a (a+n - 1) (by omega);rw[show a+(n:Int) - 1+1=a+n by omega]at f;have p:=aW9 (a+n);rw[show a+((n+1:Nat):Int) - 1=a+n by omega];show((cnt b a n+(if cts b (a+n)then 1 else 0):Nat):Int)=_;have c:(if cts b (a+n)then 1 else 0:Nat)+(if S.contains (a+n)then 1 else 0:Nat)=(if opn (a+n)then 1 else 0:Nat):=by
   have h:S.contains (a+n)=(b.contains (a+n) && opn (a+n)):=by rw[Bool.eq_iff_iff,cQS,Bool.and_eq_true,cQS];exact g _
   rw[h];unfold cts;cases opn (a+↑n)<;> cases b.contains (a+↑n)<;> rfl
  have e:place (a+n)=place (a+n - 1)+((if opn (a+n)then 1 else 0:Nat):Int):=by rw[p];cases opn (a+↑n)<;> rfl
  rw[e,f];push_cast;omega
theorem aJZ(p:Int):place (zN p)=p:=by
 unfold place zN;split<;> omega
theorem aZT(p:Int):opn (zN p)=true:=by
 unfold opn zN;rw[decide_eq_true_eq];omega
theorem bQ7{p q:Int}(h:p<q):zN p<zN q:=by
 unfold zN;omega
theorem bQ6{p q:Int}(h:p<=q):zN p<=zN q:=by
 unfold zN;omega
theorem aJA(d:Int):d<zN (place d+1):=by
 unfold place zN;split<;> omega
def uS(date:Int)(p c:Int):Int:=if date<c/\c<=zN p then p+1 else p
def aXD(date:Int)(p:Int)(C:List Int):Int:=C.foldl (uS date) p
def vG(date e:Int)(c:Int):Bool:=decide (date<c) && decide (c<=e)
theorem aVz{date:Int}(g:Int):∀ (d b:List Int)(p:Int),(b++d).Pairwise (·<·)->
  p=g+((b.filter (vG date (zN p))).length:Nat)->(∀c∈b,date<c->c≠zN p)->g<=p->
  ∃q,aXD date p d=q/\q=g+(((b++d).filter (vG date (zN q))).length:Nat)/\(∀c∈b++d,date<c->c≠zN q)/\g<=q
 |[],b,p,_,h1,h2,h3=>⟨p,rfl,by rw[cQk];exact h1,by rw[cQk];exact h2,h3⟩
 |c::d,b,p,hs,h1,h2,h3=>by
  have f:((b++ [c])++d).Pairwise (·<·):=by rw[cQw];exact hs
  have lt:∀x∈b,x<c:=λx a=>(cZ1.mp hs).2.2 x a c (bYw ..);have fin:=aVz (date:=date) g d (b++ [c]);have step:aXD date p (c::d)=aXD date (uS date p c) d:=rfl;rw[step,show b++c::d=(b++ [c])++d by simp];by_cases j:date<c/\c<=zN p
  ·have e:uS date p c=p+1:=if_pos j;rw[e];have up:=bQ7 (show p<p+1 by omega);refine fin (p+1) f ?_ ?_ (by omega)
   ·have k:b.filter (vG date (zN (p+1)))=b.filter (vG date (zN p)):=by
     refine cJr λx a=>?_;have:=lt x a;unfold vG;have q:decide (x<=zN (p+1))=decide (x<=zN p):=by rw[decide_eq_decide];omega
     rw[q]
    have h:vG date (zN (p+1)) c=true:=by simp[vG];omega
    rw[cQr,k,cQY h,bYE];simp only[List.filter_nil,cQg,cXs];omega
   ·intro x a i;rcases bYU.mp a with a|a
    ·have:=lt x a;omega
    ·have:x=c:=by simpa using a
     omega
  ·have e:uS date p c=p:=if_neg j;rw[e];refine fin p f ?_ ?_ h3
   ·have h:vG date (zN p) c=false:=by simp[vG];omega
    rw[cQr,cQX (by rw[h];decide)];simpa using h1
   ·intro x a i;rcases bYU.mp a with a|a
    ·exact h2 x a i
    ·have:x=c:=by simpa using a
     omega
structure Due(sh:List Int)(date term D:Int):Prop where
 later:date<D
 cts:cts sh D=true
 cnt:(cnt sh (date+1) (D - date).toNat:Int)=term
theorem bZZ{c C:List Int}{date term:Int}(o:1<=term)(b:C.Pairwise (·<·))(f:∀d,d∈C↔d∈c/\opn d=true): Due c date term (zN (aXD date (place date+term) C)):=by
 obtain⟨q,e,j,g,p⟩:=aVz (date:=date) (place date+term) C [] (place date+term) (by simpa using b) (by simp) (by simp) (Int.le_refl _);rw[e];rw[List.nil_append]at j g;have a:date<zN q:=Int.lt_of_lt_of_le (aJA date) (bQ6 (by omega));refine⟨a,?_,?_⟩
 ·unfold Dm.cts;rw[aZT,Bool.true_and,Bool.not_eq_true'];rw[<- Bool.not_eq_true,cQS];exact λz=>g _ ((f _).mpr ⟨z,aZT q⟩) a rfl
 ·have l:C.Nodup:=b.imp λh=>by omega
  have k:=aWt l f (date+1) (zN q - date).toNat;have n:date+1+((zN q - date).toNat:Int) - 1=zN q:=by omega
  have i:date+1 - 1=date:=by omega
  rw[n,i,aJZ]at k;have m:C.filter (vC (date+1) (zN q))=C.filter (vG date (zN q)):=by
   refine cJr λx _=>?_;unfold vC vG;have:decide (date+1<=x)=decide (date<x):=by rw[decide_eq_decide];omega
   rw[this]
  rw[m]at k;omega
theorem bQ2(b:List Int)(a:Int){n m:Nat}(h:n<=m):cnt b a n<=cnt b a m:=by
 obtain⟨k,rfl⟩:=Nat.le.dest h;rw[bJB];omega
theorem Due.less{a:List Int}{date term D:Int}(u:Due a date term D){n:Nat}(h:date+n<D):(Dm.cnt a (date+1) n:Int)<term:=by
 have e:(D - date).toNat=((D - date).toNat - 1)+1:=by have:=u.later;omega
 have k:=u.cnt;rw[e]at k;have b:Dm.cnt a (date+1) (((D - date).toNat - 1)+1)=Dm.cnt a (date+1) ((D - date).toNat - 1)+(if Dm.cts a (date+1+(((D - date).toNat - 1:Nat):Int))then 1 else 0):=rfl;have c:date+1+(((D - date).toNat - 1:Nat):Int)=D:=by have:=u.later;omega
 rw[c,u.cts]at b;have m:=bQ2 a (date+1) (show n<=(D - date).toNat - 1 by omega);simp only[if_true]at b;omega
theorem Due.uniq{d:List Int}{date term D c:Int}(u:Due d date term D)(v:Due d date term c):D=c:=by
 have a:=u.later;have b:=v.later;have e:¬D<c:=λh=>by have:=v.less (n:=(D - date).toNat) (by omega);have:=u.cnt;omega
 have f:¬c<D:=λh=>by have:=u.less (n:=(c - date).toNat) (by omega);have:=v.cnt;omega
 omega
end Dm
namespace Bk
open PySem (Str)
open Stree (qP jJ wF)
structure Row where
 way:Str
 date:Int
 partner:Str
 term:Int
 link:Option Nat
 place:Str
 void:Bool
 copies:List Str
abbrev Rows:=List Row
def lk(R:Rows)(i:Nat):Option Nat:=(R[i]?).bind (·.link)
def dt(R:Rows)(i:Nat):Int:=((R[i]?).map (·.date)).getD 0
def wI(R:Rows)(m:Int):Bool:=decide (0<=m) && (match R[m.toNat]? with|some r=> !r.void|none=>false)
theorem wJ{R:Rows}{m:Int}(h:wI R m=true):∃ (k:Nat)(r:Row),m=(k:Int)/\k<R.length/\R[k]? =some r/\r.void=false:=by
 unfold wI at h;rw[Bool.and_eq_true,decide_eq_true_eq]at h;obtain⟨c,a⟩:=h;cases e:R[m.toNat]? with
 |none=>rw[e]at a;cases a
 |some r=>rw[e]at a;refine⟨m.toNat,r,by omega,(bYs.mp e).1,e,?_⟩;have b:(!r.void)=true:=a;simpa using b
def jD(R:Rows):Prop:=∃a,Fm.Ok R.length (lk R) a
def wH(R:Rows)(i:Nat)(l:List Nat):Prop:=∃a,Fm.Ok R.length (lk R) a/\(l.Pairwise λx y=>jJ (Fm.rd (lk R) (dt R) a x) (Fm.rd (lk R) (dt R) a y)=true)/\∀k,k∈l↔k<R.length/\Fm.tp (lk R) a k=Fm.tp (lk R) a i
theorem wH.uniq{R:Rows}{i:Nat}{l m:List Nat}(q:i<R.length)(f:wH R i l)(g:wH R i m):l=m:=by
 obtain⟨n,o,p,e⟩:=f;obtain⟨r,d,s,j⟩:=g;refine Stree.uniq (lt:=λx y=>jJ (Fm.rd (lk R) (dt R) n x) (Fm.rd (lk R) (dt R) n y)=true) (λa h=>by rw[Stree.vQ]at h;cases h) (λa b c f g=>Stree.X4 f g) p ?_ λk=>?_
 ·refine s.imp_of_mem λ{x y} hx hy h=>?_;rw[Fm.aYW o d ((j x).mp hx).1,Fm.aYW o d ((j y).mp hy).1];exact h
 ·rw[e k,j k];constructor
  ·rintro⟨a,b⟩;exact⟨a,by rw[<- Fm.qN o d a,<- Fm.qN o d q];exact b⟩
  ·rintro⟨a,b⟩;exact⟨a,by rw[Fm.qN o d a,Fm.qN o d q];exact b⟩
def wE(R:Rows)(i:Nat):List Nat:=(bYu R.length).filter λk=>decide (lk R k=some i)
def Q1(R:Rows)(i:Nat)(d:Int):Bool:=match R[i]? with
 |none=>false
 |some r=> !r.void && decide (1<=r.term) && decide (r.date<=d) && (wE R i).all λk=>decide (d<dt R k)
def xR(R:Rows)(i:Nat)(f:Row->Row):Rows:=match R[i]? with
 |some r=>R.set i (f r)
 |none=>R
theorem zS(R:Rows)(i:Nat)(f:Row->Row):(xR R i f).length=R.length:=by unfold xR;split<;> simp
theorem zK(R:Rows)(i j:Nat)(f:Row->Row):(xR R i f)[j]? =if j=i then(R[j]?).map f else R[j]? :=by
 unfold xR;by_cases e:j=i
 ·subst e;rw[if_pos rfl];cases h:R[j]? with
  |none=>simp[h]
  |some r=>have a:j<R.length:=(bYs.mp h).1;simp[cZa a]
 ·rw[if_neg e];cases h:R[i]? with
  |none=>rfl
  |some r=>simp[cZ0 (bY0 e)]
def laid(R:Rows)(l:List Nat)(name:Str):Rows:=l.foldl (λR k=>xR R k λr=>{r with place:=name}) R
theorem qX(R:Rows)(i:Nat)(f:Row->Row)(h:∀r,(f r).link=r.link):lk (xR R i f)=lk R:=by
 funext j;unfold lk;rw[zK];by_cases e:j=i
 ·rw[if_pos e];cases R[j]? with
  |none=>rfl
  |some r=>exact h r
 ·rw[if_neg e]
theorem wX(name:Str):∀ (l:List Nat)(R:Rows),(laid R l name).length=R.length
 |[],R=>rfl
 |k::l,R=>by show(laid (xR R k _) l name).length=_;rw[wX name l,zS]
theorem aQr(name:Str):∀ (l:List Nat)(R:Rows),lk (laid R l name)=lk R
 |[],R=>rfl
 |k::l,R=>by show lk (laid (xR R k _) l name)=_;rw[aQr name l,qX R k (λr=>{r with place:=name}) λ_=>rfl]
theorem v9(name:Str):∀ (l:List Nat)(R:Rows)(j:Nat),(laid R l name)[j]? =if j∈l then(R[j]?).map (λr=>{r with place:=name})else R[j]?
 |[],R,j=>by simp[laid]
 |k::l,R,j=>by
  show(laid (xR R k _) l name)[j]? =_;rw[v9 name l,zK];by_cases e:j=k
  ·subst e;rw[if_pos rfl,if_pos bYw];split
   ·cases R[j]? <;> rfl
   ·rfl
  ·rw[if_neg e];by_cases hl:j∈l
   ·rw[if_pos hl,if_pos (bYt _ hl)]
   ·rw[if_neg hl,if_neg (by simp[e,hl])]
theorem jD.laid{R:Rows}(t:jD R)(l:List Nat)(name:Str):jD (laid R l name):=by
 obtain⟨a,o⟩:=t;refine⟨a,?_⟩;rw[wX,aQr];exact o
theorem jD.same{R:Rows}(t:jD R)(i:Nat)(f:Row->Row)(h:∀r,(f r).link=r.link):jD (xR R i f):=by
 obtain⟨a,o⟩:=t;refine⟨a,?_⟩;rw[zS,qX R i f h];exact o
theorem aVJ(R:Rows){i:Nat}(a:i<R.length)(f:Row->Row)(l:Option Nat)(h:∀r,(f r).link=l):lk (xR R i f)=λj=>if j=i then l else lk R j:=by
 funext j;unfold lk;rw[zK];by_cases e:j=i
 ·subst e;rw[if_pos rfl,if_pos rfl,bYg a];exact h _
 ·rw[if_neg e,if_neg e]
theorem jD.loose{R:Rows}(t:jD R){i:Nat}(a:i<R.length)(f:Row->Row)(h:∀r,(f r).link=none):jD (xR R i f):=by
 obtain⟨b,o⟩:=t;refine⟨b,?_⟩;rw[zS,aVJ R a f none h];exact Fm.bXx o i
theorem jD.hang{R:Rows}{rk:Nat->Nat}(o:Fm.Ok R.length (lk R) rk){i j:Nat}(b:i<R.length)(c:j<R.length)(h0:lk R i=none)(a:Fm.tp (lk R) rk j≠i)(f:Row->Row)(h:∀r,(f r).link=some j):jD (xR R i f):=by
 refine⟨λk=>if Fm.tp (lk R) rk k=i then rk k+rk j+1 else rk k,?_⟩;rw[zS,aVJ R b f (some j) h];exact Fm.bJM o b c h0 a
theorem bJT(R:Rows)(r:Row):∀i,i<R.length+1->lk (R++ [r]) i=if i=R.length then r.link else lk R i:=λi a=>by
 unfold lk;by_cases e:i=R.length
 ·subst e;rw[if_pos rfl,bYH (bYo _)];simp
 ·rw[if_neg e,bYY (by omega)]
theorem jD.enter{R:Rows}(t:jD R)(r:Row)(h:∀j,r.link=some j->j<R.length):jD (R++ [r]):=by
 obtain⟨a,o⟩:=t;have z:=Fm.bXc o r.link h;refine⟨λi=>if i=R.length then Fm.bJq a r.link else a i,?_⟩;rw[bYE,cQt];exact z.congr λi b=>(bJT R r i b).symm
end Bk
namespace Bk
open PySem (Str)
open Stree (qP jJ wF)
theorem bQy{n:Nat}{L:Nat->Option Nat}{D:Nat->Int}{rk:Nat->Nat}(o:Fm.Ok n L rk):∀l:List Nat,l.Nodup->(∀k∈l,k<n)->∃m:List Nat,m.Perm l/\m.Pairwise λx y=>jJ (Fm.rd L D rk x) (Fm.rd L D rk y)=true
 |[],_,_=>⟨[],.refl _,.nil⟩
 |x::l,nd,h=>by
  obtain⟨m,i,t⟩:=bQy (D:=D) o l (cXu.mp nd).2 λk c=>h k (bYt _ c);have r:x<n:=h x bYw;have f:∀k∈m,k<n/\k≠x:=λk c=>⟨h k (bYt _ (i.mem_iff.mp c)),λz=>(cXu.mp nd).1 (by rw[<- z];exact i.mem_iff.mp c)⟩;have ins:∀m:List Nat,(∀k∈m,k<n/\k≠x)->(m.Pairwise λx y=>jJ (Fm.rd L D rk x) (Fm.rd L D rk y)=true)->∃d:List Nat,d.Perm (x::m)/\d.Pairwise λx y=>jJ (Fm.rd L D rk x) (Fm.rd L D rk y)=true:=by
   intro m;induction m with
   |nil=>intro _ _;exact⟨[x],.refl _,cQH _ _⟩
   |cons y m s=>
    intro j p;obtain⟨a,b⟩:=cQI.mp p;have q:=j y bYw;rcases Stree.aXL (λz=>q.2 (Fm.aYV o q.1 r z):Fm.rd L D rk y≠Fm.rd L D rk x)with z|z
    ·obtain⟨d,e,g⟩:=s (λk c=>j k (bYt _ c)) b;refine⟨y::d,(List.Perm.cons _ e).trans (List.Perm.swap _ _ _),cQI.mpr ⟨λk c=>?_,g⟩⟩;rcases bYq.mp (e.mem_iff.mp c)with rfl|c
     ·exact z
     ·exact a k c
    ·refine⟨x::y::m,.refl _,cQI.mpr ⟨λk c=>?_,p⟩⟩;rcases bYq.mp c with rfl|c
     ·exact z
     ·exact Stree.X4 z (a k c)
  obtain⟨d,e,g⟩:=ins m f t;exact⟨d,e.trans (List.Perm.cons _ i),g⟩
theorem bQS{R:Rows}(t:jD R)(i:Nat):∃l,wH R i l:=by
 obtain⟨a,o⟩:=t;obtain⟨m,c,b⟩:=bQy (D:=dt R) o ((bYu R.length).filter λk=>decide (Fm.tp (lk R) a k=Fm.tp (lk R) a i)) (cZp.sublist cXj) λk d=>bYS.mp (cQo.mp d).1;refine⟨m,a,o,b,λk=>?_⟩;rw[c.mem_iff,cQo,bYS,decide_eq_true_eq]
open Classical in
noncomputable def thr (R:Rows) (i:Nat):List Nat:=if h:∃l,wH R i l then choose h else []
theorem J2{R:Rows}(t:jD R)(i:Nat):wH R i (thr R i):=by
 have h:=bQS t i;unfold thr;rw[dif_pos h];exact Classical.choose_spec h
theorem aJh{R:Rows}{i:Nat}(a:i<R.length){l:List Nat}(h:wH R i l):thr R i=l:=
 wH.uniq a (by obtain⟨b,o,_⟩:=h;exact J2 ⟨b,o⟩ i) h
open Classical in
noncomputable def due (shut:List Int) (d t:Int):Int:=if h:∃D,Dm.Due shut d t D then choose h else d
theorem bZY{shut:List Int}{d t D:Int}(h:Dm.Due shut d t D):due shut d t=D:=by
 have a:∃D,Dm.Due shut d t D:=⟨D,h⟩;unfold due;rw[dif_pos a];exact(Classical.choose_spec a).uniq h
structure bQX(R:Rows)(shut:List Int)(d:Int)(late:Bool)(l:List Nat):Prop where
 mem:∀k,k∈l↔k<R.length/\Q1 R k d=true/\(late=true->due shut (dt R k) (((R[k]?).map (·.term)).getD 0)<d)
 ord:l.Pairwise λx y=>wF (due shut (dt R x) (((R[x]?).map (·.term)).getD 0),(x:Int)) (due shut (dt R y) (((R[y]?).map (·.term)).getD 0),(y:Int))=true
theorem bQX.uniq{R:Rows}{shut:List Int}{d:Int}{e:Bool}{l m:List Nat}(f:bQX R shut d e l)(g:bQX R shut d e m):l=m:=
 Stree.uniq (lt:=λx y=>wF (due shut (dt R x) (((R[x]?).map (·.term)).getD 0),(x:Int)) (due shut (dt R y) (((R[y]?).map (·.term)).getD 0),(y:Int))=true) (λa h=>by rw[Stree.wY]at h;cases h) (λa b c f g=>Stree.aXK f g) f.ord g.ord λk=>by rw[f.mem k,g.mem k]
inductive Ans where
 |num (n:Int)|txt (x:Str)|nums (l:List Nat)|txts (l:List Str)|row (r:Row)
inductive xN where
 |enter (way:Str) (day:Int) (who:Str) (term:Int)|reply (m:Int) (day term:Int)|hang (m o:Int)|loose (m:Int)|date (m d:Int)|term (m t:Int)
 |copy (m:Int) (who:Str)|file (m:Int) (name:Str)|void (m:Int)|shut (d:Int)|state (m:Int)|thread (m:Int)|copies (m:Int)|letters (name:Str)|on (late:Bool) (d:Int)
def jT(a:Str):Str:=if a="in" then "out" else "in"
inductive xW(R:Rows)(S:List Int):xN->Ans->Rows->List Int->Prop
 |enter {way who:Str} {d t:Int} (h:0<=t):xW R S (.enter way d who t) (.num R.length) (R++ [⟨way,d,who,t,none,"",false,[]⟩]) S
 |enterT {way who:Str} {d t:Int} (h:t<0):xW R S (.enter way d who t) (.txt "no term") R S
 |replyN {m d t:Int} (h:wI R m=false):xW R S (.reply m d t) (.txt "no letter") R S
 |replyT {m d t:Int} (h:wI R m=true) (ht:t<0):xW R S (.reply m d t) (.txt "no term") R S
 |replyE {k:Nat} {d t:Int} {r:Row} (hk:R[k]? =some r) (h:r.void=false) (ht:0<=t) (hd:d<r.date):xW R S (.reply k d t) (.txt "too early") R S
 |reply {k:Nat} {d t:Int} {r:Row} (hk:R[k]? =some r) (h:r.void=false) (ht:0<=t) (hd:r.date<=d):xW R S (.reply k d t) (.num R.length) (R++ [⟨jT r.way,d,r.partner,t,some k,r.place,false,[]⟩]) S
 |hangN {m o:Int} (h:wI R m=false\/wI R o=false):xW R S (.hang m o) (.txt "no letter") R S
 |hangH {i j:Nat} {r q:Row} (hi:R[i]? =some r) (hv:r.void=false) (hj:R[j]? =some q) (hw:q.void=false) (h:r.link≠none):xW R S (.hang i j) (.txt "has one") R S
 |hangO {i j:Nat} {r q:Row} (hi:R[i]? =some r) (hv:r.void=false) (hj:R[j]? =some q) (hw:q.void=false) (h:r.link=none) (ho:(thr R j).head? =some i):xW R S (.hang i j) (.txt "own thread") R S
 |hangW {i j:Nat} {r q:Row} (hi:R[i]? =some r) (hv:r.void=false) (hj:R[j]? =some q) (hw:q.void=false) (h:r.link=none) (ho:(thr R j).head? ≠some i) (h1:r.way=q.way):xW R S (.hang i j) (.txt "same way") R S
 |hangP {i j:Nat} {r q:Row} (hi:R[i]? =some r) (hv:r.void=false) (hj:R[j]? =some q) (hw:q.void=false) (h:r.link=none) (ho:(thr R j).head? ≠some i) (h1:r.way≠q.way) (h2:r.partner≠q.partner):xW R S (.hang i j) (.txt "other partner") R S
 |hangE {i j:Nat} {r q:Row} (hi:R[i]? =some r) (hv:r.void=false) (hj:R[j]? =some q) (hw:q.void=false) (h:r.link=none) (ho:(thr R j).head? ≠some i) (h1:r.way≠q.way) (h2:r.partner=q.partner) (h3:r.date<q.date):xW R S (.hang i j) (.txt "too early") R S
 |hang {i j:Nat} {r q:Row} (hi:R[i]? =some r) (hv:r.void=false) (hj:R[j]? =some q) (hw:q.void=false) (h:r.link=none) (ho:(thr R j).head? ≠some i) (h1:r.way≠q.way) (h2:r.partner=q.partner) (h3:q.date<=r.date):
   xW R S (.hang i j) (.txt "hung") (xR (laid R (thr R i) q.place) i λr=>{r with link:=some j}) S
 |oneN {m:Int} {e:xN} (h:wI R m=false) (he:e= .loose m\/(∃d,e= .date m d)\/(∃t,e= .term m t)\/(∃w,e= .copy m w)\/(∃w,e= .file m w)\/e= .void m\/e= .state m\/e= .thread m\/e= .copies m):xW R S e (.txt "no letter") R S
 |looseN {k:Nat} {r:Row} (hk:R[k]? =some r) (hv:r.void=false) (h:r.link=none):xW R S (.loose k) (.txt "has none") R S
 |loose {k:Nat} {r:Row} (hk:R[k]? =some r) (hv:r.void=false) (h:r.link≠none):xW R S (.loose k) (.txt "loose") (xR R k λr=>{r with link:=none}) S
 |dateE {k:Nat} {r:Row} {d:Int} (hk:R[k]? =some r) (hv:r.void=false) (h:(∃j,r.link=some j/\d<dt R j)\/∃c∈wE R k,dt R c<d):xW R S (.date k d) (.txt "too early") R S
 |date {k:Nat} {r:Row} {d:Int} (hk:R[k]? =some r) (hv:r.void=false) (h1:∀j,r.link=some j->dt R j<=d) (h2:∀c∈wE R k,d<=dt R c):xW R S (.date k d) (.txt "dated") (xR R k λr=>{r with date:=d}) S
 |termN {k:Nat} {r:Row} {t:Int} (hk:R[k]? =some r) (hv:r.void=false) (h:t<0):xW R S (.term k t) (.txt "no term") R S
 |term {k:Nat} {r:Row} {t:Int} (hk:R[k]? =some r) (hv:r.void=false) (h:0<=t):xW R S (.term k t) (.txt "set") (xR R k λr=>{r with term:=t}) S
 |copyC {k:Nat} {r:Row} {w:Str} (hk:R[k]? =some r) (hv:r.void=false) (h:w=r.partner\/w∈r.copies):xW R S (.copy k w) (.txt "copied") R S
 |copy {k:Nat} {r:Row} {w:Str} (hk:R[k]? =some r) (hv:r.void=false) (h:w≠r.partner) (h2:w∉r.copies):xW R S (.copy k w) (.num (r.copies.length+1)) (xR R k λr=>{r with copies:=r.copies++ [w] }) S
 |file {k:Nat} {r:Row} {w:Str} (hk:R[k]? =some r) (hv:r.void=false):xW R S (.file k w) (.num (thr R k).length) (laid R (thr R k) w) S
 |voidA {k:Nat} {r:Row} (hk:R[k]? =some r) (hv:r.void=false) (h:wE R k≠ []):xW R S (.void k) (.txt "answered") R S
 |void {k:Nat} {r:Row} (hk:R[k]? =some r) (hv:r.void=false) (h:wE R k= []):xW R S (.void k) (.txt "void") (xR R k λr=>{r with link:=none,void:=true}) S
 |shutN {d:Int} (h:Dm.cts S d=false):xW R S (.shut d) (.txt "counts not") R S
 |shut {d:Int} (h:Dm.cts S d=true):xW R S (.shut d) (.txt "shut") R (S++ [d])
 |state {k:Nat} {r:Row} (hk:R[k]? =some r) (hv:r.void=false):xW R S (.state k) (.row r) R S
 |thread {k:Nat} {r:Row} (hk:R[k]? =some r) (hv:r.void=false):xW R S (.thread k) (.nums (thr R k)) R S
 |copies {k:Nat} {r:Row} (hk:R[k]? =some r) (hv:r.void=false):xW R S (.copies k) (.txts r.copies) R S
 |letters {w:Str}:xW R S (.letters w) (.nums ((bYu R.length).filter λk=>match R[k]? with|some r=> !r.void && decide (r.place=w)|none=>false)) R S
 |on {late:Bool} {d:Int} {l:List Nat} (h:bQX R S d late l):xW R S (.on late d) (.nums l) R S
end Bk
namespace Bk
open PySem (Str)
open Stree (qP jJ wF)
theorem wH.head{R:Rows}{j:Nat}(i:j<R.length){l:List Nat}(h:wH R j l):∃c,Fm.Ok R.length (lk R) c/\l.head? =some (Fm.tp (lk R) c j):=by
 obtain⟨c,o,p,e⟩:=h;refine⟨c,o,?_⟩;have g:=Fm.bQT o i;have k:Fm.tp (lk R) c j∈l:=(e _).mpr ⟨g.1,Fm.bV3 o i⟩;cases l with
 |nil=>cases k
 |cons x r=>
  by_cases z:x=Fm.tp (lk R) c j
  ·rw[z];rfl
  ·exfalso;obtain⟨a,b⟩:=cQI.mp p;have d:=(e x).mp bYw;have m:Fm.tp (lk R) c j∈r:=by
    rcases bYq.mp k with w|w
    ·exact absurd w.symm z
    ·exact w
   have s:=a _ m;have n:Fm.Un (lk R) (dt R) c (Fm.tp (lk R) c j) x:=by have:=Fm.bKa (D:=dt R) o d.1;rw[d.2]at this;exact this
   have q:=Fm.bW9 o g.1 d.1 n z;have f:=Stree.X4 s q;rw[Stree.vQ]at f;cases f
theorem jQ{R:Rows}(t:jD R){j:Nat}(b:j<R.length):∃a,Fm.Ok R.length (lk R) a/\(thr R j).head? =some (Fm.tp (lk R) a j):=(J2 t j).head b
theorem wO{R:Rows}{k:Nat}{r:Row}(h:R[k]? =some r):k<R.length:=(bYs.mp h).1
theorem uA{R:Rows}{k:Nat}{r:Row}(h:R[k]? =some r):lk R k=r.link:=by unfold lk;rw[h];rfl
theorem vK{R:Rows}{k:Nat}{r:Row}(h:R[k]? =some r):dt R k=r.date:=by unfold dt;rw[h];rfl
theorem xW.tree{R k:Rows}{S p:List Int}{e:xN}{a:Ans}(t:jD R)(h:xW R S e a k p):jD k:=by
 cases h with
 |enter h=>exact t.enter _ λj c=>nomatch c
 |reply b h w v=>exact t.enter _ λj c=>by cases c;exact wO b
 |@hang i j r q l d c hw h n s m x=>
  obtain⟨f,o,u⟩:=jQ t (wO c);have g:Fm.tp (lk R) f j≠i:=λz=>n (by rw[u,z]);refine jD.hang (R:=laid R (thr R i) q.place) (rk:=f) (i:=i) (j:=j) ?_ ?_ ?_ ?_ ?_ _ λ_=>rfl
  ·rw[wX,aQr];exact o
  ·rw[wX];exact wO l
  ·rw[wX];exact wO c
  ·rw[aQr,uA l];exact h
  ·rw[aQr];exact g
 |loose b d h=>exact t.loose (wO b) _ λ_=>rfl
 |date b d s m=>exact t.same _ _ λ_=>rfl
 |term b d h=>exact t.same _ _ λ_=>rfl
 |copy b d h m=>exact t.same _ _ λ_=>rfl
 |file b d=>exact t.laid _ _
 |void b d h=>exact t.loose (wO b) _ λ_=>rfl
 |_=>exact t
theorem bZM:jD []:=⟨λ_=>0,⟨λi j a=>absurd a (cQ3 _)⟩⟩
end Bk
namespace Bk
open PySem (Str)
open Stree (qP jJ wF)
def bWb(r q:Row):Prop:=r.void=false/\q.void=false/\r.way≠q.way/\r.partner=q.partner/\q.date<=r.date/\r.place=q.place
structure Y3(R:Rows):Prop where
 tree:jD R
 way:∀r∈R,r.way="in"\/r.way="out"
 ans:∀ (i j:Nat)(r:Row),R[i]? =some r->r.link=some j->∃q,R[j]? =some q/\bWb r q
theorem aXA:Y3 [] where
 tree:=bZM
 way:=λr h=>absurd h (by simp)
 ans:=λi j r h=>by simp at h
theorem aVO{w:Str}(h:w="in"\/w="out"):jT w≠w/\(jT w="in"\/jT w="out"):=by
 rcases h with rfl|rfl
 ·exact⟨by decide,.inr rfl⟩
 ·exact⟨by decide,.inl rfl⟩
theorem aQw{R:Rows}{i:Nat}{f:Row->Row}{r:Row}(h:r∈xR R i f):r∈R\/∃q∈R,r=f q:=by
 unfold xR at h;split at h
 ·rename_i q a;rcases List.mem_or_eq_of_mem_set h with h|h
  ·exact .inl h
  ·exact .inr ⟨q,bYz a,h⟩
 ·exact .inl h
theorem aJl{R:Rows}(h:∀r∈R,r.way="in"\/r.way="out")(i:Nat)(f:Row->Row)(b:∀r,(f r).way=r.way):∀r∈xR R i f,r.way="in"\/r.way="out":=λr a=>by
 rcases aQw a with a|⟨q,c,rfl⟩
 ·exact h r a
 ·rw[b];exact h q c
theorem aWk{name:Str}:∀ (l:List Nat) {R:Rows},(∀r∈R,r.way="in"\/r.way="out")->∀r∈laid R l name,r.way="in"\/r.way="out"
 |[],R,h=>h
 |k::l,R,h=>aWk l (aJl h k (λr=>{r with place:=name}) λ_=>rfl)
theorem bJX{R:Rows}{k i:Nat}{r:Row}(h:wE R k= [])(a:R[i]? =some r):r.link≠some k:=λe=>by
 have:i∈wE R k:=cQo.mpr ⟨bYS.mpr (wO a),decide_eq_true (by rw[uA a];exact e)⟩;rw[h]at this;cases this
theorem bXz{R:Rows}{k i:Nat}{r:Row}(a:R[i]? =some r)(e:r.link=some k):i∈wE R k:=
 cQo.mpr ⟨bYS.mpr (wO a),decide_eq_true (by rw[uA a];exact e)⟩
theorem bZK{R:Rows}(t:jD R){i a b:Nat}{r:Row}(c:R[a]? =some r)(e:r.link=some b)(d:b<R.length):a∈thr R i↔b∈thr R i:=by
 obtain⟨f,o,_,h⟩:=J2 t i;rw[h a,h b,Fm.uI o (wO c) (by rw[uA c];exact e)];exact⟨λz=>⟨d,z.2⟩,λz=>⟨wO c,z.2⟩⟩
theorem bZL{R:Rows}(t:jD R){i:Nat}(a:i<R.length):i∈thr R i:=by
 obtain⟨b,o,_,h⟩:=J2 t i;exact(h i).mpr ⟨a,rfl⟩
theorem Y3.laid{R:Rows}(b:Y3 R)(i:Nat)(name:Str):Y3 (laid R (thr R i) name) where
 tree:=b.tree.laid _ _
 way:=aWk _ b.way
 ans:=λx j r hx hl=>by
  rw[v9]at hx
  have back:∃r0,R[x]? =some r0/\r=(if x∈thr R i then {r0 with place:=name}else r0):=by
   by_cases hm:x∈thr R i
   ·rw[if_pos hm]at hx
    cases e:R[x]? with
    |none=>rw[e]at hx;cases hx
    |some r0=>rw[e]at hx;cases hx;exact⟨r0,rfl,by rw[if_pos hm]⟩
   ·rw[if_neg hm]at hx
    exact⟨r,hx,by rw[if_neg hm]⟩
  obtain⟨r0,h0,e0⟩:=back
  have hl0:r0.link=some j:=by rw[e0]at hl;split at hl<;> exact hl
  obtain⟨q0,hq0,f1,f2,f3,f4,f5,f6⟩:=b.ans x j r0 h0 hl0
  have hiff:=bZK (i:=i) b.tree h0 hl0 (wO hq0)
  refine⟨if j∈thr R i then {q0 with place:=name}else q0,by rw[v9,hq0];split<;> rfl,?_⟩
  by_cases hm:x∈thr R i
  ·rw[if_pos (hiff.mp hm),e0,if_pos hm]
   exact⟨f1,f2,f3,f4,f5,rfl⟩
  ·rw[if_neg (λz=>hm (hiff.mpr z)),e0,if_neg hm]
   exact⟨f1,f2,f3,f4,f5,f6⟩
theorem Y3.set{R:Rows}(b:Y3 R){k:Nat}{f:Row->Row}(t:jD (xR R k f))(hw:∀r,(f r).way=r.way)(h1:∀r j q,R[k]? =some r->(f r).link=some j->j≠k->R[j]? =some q->bWb (f r) q/\True)(h0:∀r j,R[k]? =some r->(f r).link=some j->j≠k/\j<R.length)
  (h2:∀r i q,R[k]? =some r->R[i]? =some q->i≠k->q.link=some k->bWb q (f r)):Y3 (xR R k f) where
 tree:=t
 way:=aJl b.way k f hw
 ans:=λi j r hi hl=>by
  rw[zK]at hi
  by_cases e:i=k
  ·subst e
   rw[if_pos rfl]at hi
   cases e0:R[i]? with
   |none=>rw[e0]at hi;cases hi
   |some r0=>
    rw[e0]at hi
    cases hi
    obtain⟨hjk,hjl⟩:=h0 r0 j e0 hl
    have hq:=bYg hjl
    exact⟨R[j],by rw[zK,if_neg hjk];exact hq,(h1 r0 j _ e0 hl hjk hq).1⟩
  ·rw[if_neg e]at hi
   obtain⟨q,hq,hf⟩:=b.ans i j r hi hl
   by_cases ej:j=k
   ·subst ej
    exact⟨f q,by rw[zK,if_pos rfl,hq];rfl,h2 q i r hq hi e hl⟩
   ·exact⟨q,by rw[zK,if_neg ej];exact hq,hf⟩
theorem aYk{R:Rows}(t:jD R){k j:Nat}{r:Row}(h:R[k]? =some r)(e:r.link=some j):j≠k:=λz=>by
 obtain⟨a,o⟩:=t;have:=(o.lt k j (wO h) (by rw[uA h];exact e)).2;rw[z]at this;omega
theorem xW.book{R R':Rows}{S S':List Int}{e:xN}{a:Ans}(b:Y3 R)(hw:∀E d w t,e= .enter E d w t->E="in"\/E="out")(h:xW R S e a R' S'):Y3 R':=by
 have C:=h.tree b.tree;have a4:∀ (r:Row)(j:Nat) {i:Nat} {x:Row},R[i]? =some x->x.link=some j->∃q,(R++ [r])[j]? =some q/\bWb x q:=λr j {i x} m hl=>by obtain⟨q,n,B⟩:=b.ans i j x m hl;exact⟨q,by rw[bYY (wO n)];exact n,B⟩
 have snoc:∀r:Row,(r.way="in"\/r.way="out")->(∀j,r.link=some j->∃q,R[j]? =some q/\bWb r q)->jD (R++ [r])->Y3 (R++ [r]):=λr v p t=>⟨t,λx g=>by
   rcases bYU.mp g with g|g
   ·exact b.way x g
   ·rw[bYy.mp g];exact v,λi j x m hl=>by
   by_cases V:i<R.length
   ·rw[bYY V]at m;exact a4 r j m hl
   ·have a3:i<(R++ [r]).length:=(bYs.mp m).1;rw[bYE,cQt]at a3;have:i=R.length:=by omega
    subst this;rw[bYH (bYo _)]at m;simp at m;subst m;obtain⟨q,n,B⟩:=p j hl;exact⟨q,by rw[bYY (wO n)];exact n,B⟩⟩
 have plain:∀ (k:Nat)(f:Row->Row),(∀r,(f r).way=r.way/\(f r).date=r.date/\(f r).partner=r.partner/\(f r).link=r.link/\(f r).place=r.place/\(f r).void=r.void)->jD (xR R k f)->Y3 (xR R k f):=λk f B t=>by
  refine b.set t (λr=>(B r).1) (λr j q l hl a5 n=>?_) (λr j l hl=>?_) (λr i q l m a6 hl=>?_)
  ·obtain⟨T,g2,Q,g4,X,U⟩:=B r;rw[g4]at hl;obtain⟨O,c,v,p,N,Y,h5,Z⟩:=b.ans k j r l hl;rw[n]at c;cases c;exact⟨⟨by rw[U];exact v,p,by rw[T];exact N,by rw[Q];exact Y,by rw[g2];exact h5,by rw[X];exact Z⟩,trivial⟩
  ·rw[(B r).2.2.2.1]at hl;obtain⟨q,n,_⟩:=b.ans k j r l hl;exact⟨aYk b.tree l hl,wO n⟩
  ·obtain⟨T,g2,Q,g4,X,U⟩:=B r;obtain⟨O,c,v,p,N,Y,h5,Z⟩:=b.ans i k q m hl;rw[l]at c;cases c;exact⟨v,by rw[U];exact p,by rw[T];exact N,by rw[Q];exact Y,by rw[g2];exact h5,by rw[X];exact Z⟩
 cases h with
 |enter h=>exact snoc _ (hw _ _ _ _ rfl) (λj A=>nomatch A) C
 |@reply k d t r l h ht hd=>have P:=b.way r (bYz l);exact snoc _ (aVO P).2 (λj A=>by cases A;exact⟨r,l,rfl,h,(aVO P).1,rfl,hd,rfl⟩) C
 |@hang i j r q m H A a0 h ho v p N=>
  have bl:=b.laid i q.place;obtain⟨rk,o,hh⟩:=jQ b.tree (wO A);have M:Fm.tp (lk R) rk j≠i:=λz=>ho (by rw[hh,z]);have W:j∉thr R i:=λz=>by obtain⟨a1,o',_,hm⟩:=J2 b.tree i;have z2:=((hm j).mp z).2;have z3:Fm.tp (lk R) a1 i=i:=Fm.wA (by rw[uA m];exact h);rw[z3,Fm.qN o' o (wO A)]at z2;exact M z2
  have a2:=bZL b.tree (wO m);have gi:(laid R (thr R i) q.place)[i]? =some {r with place:=q.place}:=by rw[v9,if_pos a2,m];rfl
  have gj:(laid R (thr R i) q.place)[j]? =some q:=by rw[v9,if_neg W];exact A
  refine bl.set C (λ_=>rfl) (λx y z g hl s L=>?_) (λx y g hl=>?_) (λx y z g s u hl=>?_)
  ·rw[gi]at g;cases g;cases hl;rw[gj]at L;cases L;exact⟨⟨H,a0,v,p,N,rfl⟩,trivial⟩
  ·cases hl;exact⟨λz=>M (by rw[z,Fm.wA (by rw[uA m];exact h)]),by rw[wX];exact wO A⟩
  ·obtain⟨O,c,J,G,I,D,K,F⟩:=bl.ans y i z s hl;rw[g]at c;cases c;exact⟨J,G,I,D,K,F⟩
 |@loose k r l H h=>refine b.set C (λ_=>rfl) (λx y z g hl=>nomatch hl) (λx y g hl=>nomatch hl) (λx y z g s u hl=>?_);obtain⟨O,c,J,G,I,D,K,F⟩:=b.ans y k z s hl;rw[g]at c;cases c;exact⟨J,G,I,D,K,F⟩
 |@date k r d l H v p=>
  refine b.set C (λ_=>rfl) (λx y z g hl u L=>?_) (λx y g hl=>?_) (λx y z g s u hl=>?_)
  ·rw[l]at g;cases g;obtain⟨O,c,J,G,I,D,K,F⟩:=b.ans k y r l hl;rw[L]at c;cases c;exact⟨⟨J,G,I,D,by rw[<- vK L];exact v y hl,F⟩,trivial⟩
  ·obtain⟨q,n,_⟩:=b.ans k y x g hl;exact⟨aYk b.tree g hl,wO n⟩
  ·obtain⟨O,c,J,G,I,D,K,F⟩:=b.ans y k z s hl;rw[g]at c;cases c;exact⟨J,G,I,D,by rw[<- vK s];exact p y (bXz s hl),F⟩
 |term l H h=>exact plain _ _ (λr=>⟨rfl,rfl,rfl,rfl,rfl,rfl⟩) C
 |copy l H h p=>exact plain _ _ (λr=>⟨rfl,rfl,rfl,rfl,rfl,rfl⟩) C
 |file l H=>exact b.laid _ _
 |void l H h=>exact b.set C (λ_=>rfl) (λx y z g hl=>nomatch hl) (λx y g hl=>nomatch hl) (λx y z g s u hl=>absurd hl (bJX h s))
 |_=>exact b
end Bk
namespace Law
open PySem L2 PyProof.Rows
open Bk (Row Rows)
def aZB(x:Str):Stmt->Bool
 |.FunctionDef n _ _ _ _ _ _ _ _ _=>n==x
 |_=>false
def xF(x:Str):Stmt:=(PySem.Challenge.pw_letterdesk_k06_whole_waiting_and_overdue.main.body.find? (aZB x)).getD (.Pass ⟨0,0,0,0⟩)
abbrev bVs:Stmt:=xF "_law_good"
abbrev bZb:Stmt:=xF "_law_kids_of"
theorem xB:bY2 "len"=some (.builtin "len"):=dk
structure vJ(mg:Str->Option bYh):Prop where
 b_len:mg "len"=none
 b_range:mg "range"=none
def wZ:Option Nat->V
 |none=> .non
 |some j=> .int (j:Nat)
def bWg(H:Hp)(b:Nat)(r:Row):Prop:=∃a,H b=some (.lst [.str r.way,.int r.date,.str r.partner,.int r.term,wZ r.link,.str r.place,.bl r.void,.ref a])/\H a=some (.lst (r.copies.map V.str))
structure xA(H:Hp)(ra:Nat)(rs:List Nat)(R:Rows):Prop where
 lst:H ra=some (.lst (rs.map V.ref))
 len:rs.length=R.length
 nd:rs.Nodup
 row:∀ (i:Nat)(b:Nat)(r:Row),rs[i]? =some b->R[i]? =some r->bWg H b r
theorem xA.get{H:Hp}{f:Nat}{a:List Nat}{R:Rows}(h:xA H f a R){i:Nat}{r:Row}(d:R[i]? =some r):∃b,(a.map V.ref)[i]? =some (.ref b)/\a[i]? =some b/\bWg H b r:=by
 have e:i<a.length:=by rw[h.len];exact Bk.wO d
 have c:=bYg e;exact⟨a[i],by rw[bYB,c];rfl,c,h.row i _ r c d⟩
def W9:Sp:=λc H Q _=>∃ (a:Nat)(b:List Nat)(R:Rows)(m:Int),c= [.ref a,.int m]/\xA H a b R/\Q (.bl (Bk.wI R m)) H
section
variable {K:bYj}
theorem bVF:yN ["_law_rows","_law_number"] ["_law_rows","_law_number"] (yH bVs):=scM
theorem bJ3(T:vJ mg)(F:Fun K "_law_good" "_law_good" bVs f fd):xE P w K mg base CX0 1 f fd ["_law_rows","_law_number"] W9:=by
 have j:=bVF;refine F.ok (k:=0) j (λo A outer s H p Q E r h=>?_);obtain⟨e,i,R,m,rfl,a,q⟩:=h;refine⟨_,(yF (yP (aVR (zP aYK yE (pv 1)) (aVR (zP vL (pv 1) (yQ yO rfl T.b_len xB (yA (pv 0) yD))) (aZU (bJa (yL yK (yL yK (pv 0) (pv 1)) yE))))))),?_⟩;refine⟨_,rfl,_,_,rfl,rfl,_,rfl,?_⟩;unfold Bk.wI at q;cases d:decide (0<=m)with
 |false=>rw[d,Bool.false_and]at q;exact onF rfl q
 |true=>
  rw[d,Bool.true_and]at q;have h0:0<=m:=of_decide_eq_true d;refine onT rfl ⟨_,rfl,_,rfl,e,_,rfl,.inl (SqL.of a.lst),_,_,rfl,rfl,_,rfl,?_⟩;have hl:(i.map V.ref).length=R.length:=by rw[bYl];exact a.len
  rw[hl];obtain⟨k,rfl⟩:∃k:Nat,m=(k:Int):=⟨m.toNat,by omega⟩;rw[bYW]at q;cases g:decide ((k:Int)<(R.length:Nat))with
  |false=>
   have c:R.length<=k:=by have:=of_decide_eq_false g;omega
   rw[bYR c]at q;exact onF rfl q
  |true=>
   have c:k<R.length:=by have:=of_decide_eq_true g;omega
   obtain⟨b,n,u,v,l,t⟩:=a.get (bYg c);rw[bYg c]at q;refine onT rfl ⟨_,rfl,_,rfl,e,_,_,_,rfl,rfl,SqL.of a.lst,yT n,b,_,6,_,rfl,rfl,SqL.of l,rfl,_,rfl,q⟩
theorem bVI:yN ["_law_rows","_law_number"] ["_law_rows","_law_number"] (yH bZb):=scM
theorem bJS:xO ["_law_rows","_law_number"] (yH bZb) "_law_k" ["_law_number","_law_rows"] [1,0] {kind:= .function,names:= [(".0",.local),("_law_k",.local),("_law_number",.free),("_law_rows",.free)],isGenerator:=false,isCoroutine:=false,more:= [] }:=
 lcM
def aWb:Sp:=λc H Q _=>∃ (a:Nat)(b:List Nat)(R:Rows)(m:Nat),c= [.ref a,.int (m:Nat)]/\xA H a b R/\R.length<=100/\∀r,H r=none->Q (.ref r) (upd H r (.lst ((Bk.wE R m).map λi=>V.int (i:Nat))))
theorem aJC{o:Option Nat}{m:Nat}:decide (wZ o=V.int (m:Nat))=decide (o=some m):=by
 cases o with
 |none=>rfl
 |some j=>show decide (V.int (j:Nat)=V.int (m:Nat))=decide (some j=some m);rw[Bool.eq_iff_iff];simp;omega
theorem bJ6(T:vJ mg)(F:Fun K "_law_kids_of" "_law_kids_of" bZb f fd):xE P w K mg base CX0 1 f fd ["_law_rows","_law_number"] aWb:=by
 have p:=bVI;refine F.ok (k:=0) p (λv A outer s H x Q E y h=>?_);obtain⟨e,n,R,m,rfl,c,hR,q⟩:=h;refine⟨_,(yF (yP (aQF bJS rfl (zJ rfl T.b_range (yA (yQ yO rfl T.b_len xB (yA (pv 0) yD)) yD)) (λ_ _ _ _ _=>(w6 (yM zF (yL (show IxR _ (aZd K)from yK) (yL (show IxR _ (aZd K)from yK) (pv 2) (pv 0)) yE) (pv 1)))) (λ_ _ _ _ _=>(pv 0))))),?_⟩;have hl:(n.map V.ref).length=R.length:=by rw[bYl];exact c.len
 refine⟨_,rfl,e,_,rfl,.inl (SqL.of c.lst),?_⟩;rw[hl];refine⟨_,rfl,by omega,by omega,λD d=>?_⟩;rw[bYW];refine Q3 (λk=>decide (Bk.lk R k=some m)) (λk=>V.int (k:Nat)) d (by rw[bYQ];omega) (λk l j r g a=>?_) (λk l _ j r g a=>⟨_,rfl,a⟩) (q D d);obtain⟨b,t,B,C,o,z⟩:=c.get (bYg l);have i:j e=some (.lst (n.map V.ref)):=by rw[g e (yJ c.lst d)];exact c.lst
 have u:j b=_:=(g b (yJ o d)).trans o;refine⟨_,rfl,_,rfl,e,_,_,_,rfl,rfl,SqL.of i,yT t,b,_,4,_,rfl,rfl,SqL.of u,rfl,_,rfl,?_,_,rfl,?_⟩
 ·cases R[k].link<;> rfl
 ·rw[aJC,<- Bk.uA (bYg l)];exact a
end
end Law
namespace L2
open PySem PySem.Spec PyProof.Rows
section
variable {X:Cx}
theorem aKL(S:X.calm=true):qD X (.builtin "min") (λC H Q=>∃ (p:Nat)(c:List Int),C= [.ref p]/\SqL X.K H p (c.map V.int)/\c≠ []/\∀m,m∈c->(∀x∈c,m<=x)->Q (.int m) H):=by
 intro E s σ H C us Q I r h;obtain⟨p,c,rfl,O,w,q⟩:=h;obtain⟨u,rfl,F⟩:=aQ6 r;cases F;obtain⟨a,N,y,Z⟩:=I.list O;have D:cXO a c:=aXn N;have d:a.length=c.length:=D.length;have l:0<a.length:=by rw[d];exact cQu.mpr w
 obtain⟨o,L,_⟩:=id y.isList;have n:p<s.heap.objs.size:=bYv L;have f:∀ (i:Nat)(v:bYh),a.toArray[i]? =some v->∃t,v=Value.int (c.getD i 0) t:=λi v B=>cJl D i v (by simpa using B);refine call_min_walk (cJy y.isList ?_);refine⟨s.heap.objs.size,[s.heap.objs.size,p],[s.heap.objs.size],a.toArray.size,_,_,_,rfl,Walks.list (A:=X.A.in1) (by simpa using I.ok.hd S) _ p (bYI n) a.toArray,⟨⟨_,bYM _ rfl,rfl,rfl⟩,y.isList.push _⟩,λb g=>?_,by rw[bYA];exact l,CmpOf.ints_lt (λi=>c.getD i 0) f,λv Y tk B U=>?_⟩
 ·show b<(s.heap.push _).objs.size;rw[cQR];rcases bYq.mp g with rfl|g
  ·exact cQ8 _
  ·rw[bYy.mp g];exact cQq n
 ·obtain⟨t,rfl⟩:=f _ _ B;obtain⟨W,R⟩:=argBest_lt (λi=>c.getD i 0) (a.toArray.size - 1);have J:a.toArray.size=c.length:=by rw[bYA];exact d
  have g:argBest (λi j=>decide (c.getD i 0<c.getD j 0)) (a.toArray.size - 1)<c.length:=by omega
  refine⟨.int _,H,I.kept (t':=tk) λb T e=>U b T (λz=>by rw[bYy.mp z]at e;exact cQs _ (bYv e)) (bYm _ e),⟨t,rfl⟩,q _ ?_ λx G=>?_⟩
  ·generalize argBest (λi j=>decide (c.getD i 0<c.getD j 0)) (a.toArray.size - 1)=k at g;simp[bY1,bYg g]
  ·obtain⟨j,P,e⟩:=bY8 G;have:=R j (by omega);have M:c.getD j 0=x:=by simp[bY1,bYg P,e]
   rw[M]at this;exact this
end
end L2
namespace Law
open PySem L2 PyProof.Rows
open Bk (Row Rows)
abbrev aV0:Stmt:=xF "_law_waits_on"
theorem aKI:bY2 "min"=some (.builtin "min"):=dk
theorem bWg.same{H a:Hp}{b:Nat}{r:Row}(h:bWg H b r)(k:xC H a):bWg a b r:=let ⟨cp,e1,e2⟩:=h;⟨cp,k _ _ e1,k _ _ e2⟩
theorem xA.same{H c:Hp}{d:Nat}{a:List Nat}{R:Rows}(h:xA H d a R)(k:xC H c):xA c d a R:=
 ⟨k _ _ h.lst,h.len,h.nd,λi b r f e=>(h.row i b r f e).same k⟩
def bQN:Sp:=λe H Q _=>∃ (b:Nat)(c:List Nat)(R:Rows)(k:Nat)(d:Int),e= [.ref b,.int (k:Nat),.int d]/\xA H b c R/\R.length<=100/\k<R.length/\∀a,xC H a->Q (.bl (Bk.Q1 R k d)) a
section
variable {K:bYj}
theorem bZw:yN ["_law_rows","_law_number","_law_date","_law_one","_law_dates"] ["_law_rows","_law_number","_law_date"] (yH aV0):=scM
theorem bXu:xO ["_law_rows","_law_number","_law_date","_law_one","_law_dates"] (yH aV0) "_law_k" ["_law_rows"] [0] {kind:= .function,names:= [(".0",.local),("_law_k",.local),("_law_rows",.free)],isGenerator:=false,isCoroutine:=false,more:= [] }:=
 lcM
def dtV(R:Rows):V->V
 |.int n=> .int (Bk.dt R n.toNat)
 |_=> .non
theorem bXX(T:vJ mg)(z:mg "min"=none)(a:FnG P w K mg base 1 "_law_kids_of" ["_law_rows","_law_number"] aWb)(F:Fun K "_law_waits_on" "_law_waits_on" aV0 f fd):xE P w K mg base CX0 2 f fd ["_law_rows","_law_number","_law_date"] bQN:=by
 have sc:=bZw;refine F.ok (k:=1) sc (λa1 A outer s W vs Q E hr h=>?_);obtain⟨x,rs,R,k,d,rfl,B,hR,hk,q⟩:=h;refine⟨_,(yC (yU (i:=3) (yL yK (pv 0) (pv 1))) (yC (y7 (PW.pt (jV (xX (yL yK (pv 3) yE)) (jV (yM vL (yL yK (pv 3) yE) yE) (vT (yM aXg (yL yK (pv 3) yE) (pv 2)))))) (yF (yP wQ)) yS) (yC (aZY (i:=4) bXu rfl sc.nd rfl rfl (xL (xJ a hr rfl (yA (pv 0) (yA (pv 1) yD)))) (λ_ _ _ _ _=>wK) (λ_ _ _ _ _=>(yL (show IxR _ (aZd K)from yK) (yL (show IxR _ (aZd K)from yK) (pv 1) (pv 0)) yE))) (yF (yP (bWL (zP (aVM hr.units0) (pv 4) (y6 yD)) (aZU (zP aXg (yQ (aKL rfl) rfl z aKI (yA (pv 4) yD)) (pv 2))))))))),?_⟩;have y:=bYg hk;obtain⟨b,g1,g2,cp,I,g4⟩:=B.get y;have qw:Bk.Q1 R k d=(!R[k].void && decide (1<=R[k].term) && decide (R[k].date<=d) && (Bk.wE R k).all λj=>decide (d<Bk.dt R j)):=by unfold Bk.Q1;rw[y]
 rw[qw]at q;refine⟨_,rfl,_,rfl,x,_,_,_,rfl,rfl,SqL.of B.lst,yT g1,?_⟩;dsimp only[yW];refine⟨_,rfl,b,_,6,_,rfl,rfl,SqL.of I,rfl,_,rfl,?_⟩;cases t:R[k].void with
 |true=>rw[t]at q;exact onT rfl (onT rfl (q _ (xC.refl _)))
 |false=>
  rw[t]at q;refine onF rfl ⟨_,rfl,b,_,3,_,rfl,rfl,SqL.of I,rfl,_,_,rfl,rfl,_,rfl,?_⟩;cases Y:decide (R[k].term<1)with
  |true=>have:decide (1<=R[k].term)=false:=decide_eq_false (by have:=of_decide_eq_true Y;omega);rw[this]at q;exact onT rfl (onT rfl (q _ (xC.refl _)))
  |false=>
   have:decide (1<=R[k].term)=true:=decide_eq_true (by have:=of_decide_eq_false Y;omega);rw[this]at q;refine onF rfl ⟨_,rfl,b,_,1,_,rfl,rfl,SqL.of I,rfl,_,rfl,_,_,rfl,rfl,_,rfl,?_⟩;cases X:decide (R[k].date > d)with
   |true=>have:decide (R[k].date<=d)=false:=decide_eq_false (by have:=of_decide_eq_true X;omega);rw[this]at q;exact onT rfl (q _ (xC.refl _))
   |false=>
    have:decide (R[k].date<=d)=true:=decide_eq_true (by have:=of_decide_eq_false X;omega);rw[this]at q;refine onF rfl ?_;refine⟨_,rfl,_,rfl,x,rs,R,k,rfl,B,hR,λr H=>⟨r,rfl,⟨_,SqL.of yB⟩,λD C=>?_⟩⟩;have Z:=yG H (.lst ((Bk.wE R k).map λi=>V.int (i:Nat)));have c:=B.same Z;have a0:(Bk.wE R k).length<=R.length:=by have:=cQh (λj=>decide (Bk.lk R j=some k)) (bYu R.length);rw[cQa]at this;exact this
    refine aZJ (λ_=>true) (dtV R) (SqL.of yB) C (zn (by rw[bYl];omega)) (λv t H' R' _ h=>h) (λv t _ H' R' hH o=>?_) ?_
    ·obtain⟨j,hj,rfl⟩:=cQm.mp t;have G:j<R.length:=bYS.mp (cQo.mp hj).1;have u:=bYg G;obtain⟨U,j1,j2,cj,j3,j4⟩:=c.get u;have S:H' x=some (.lst (rs.map V.ref)):=by rw[hH x (yJ c.lst C)];exact c.lst
     have J:=(hH U (yJ j3 C)).trans j3;have e:dtV R (V.int (j:Nat))=V.int R[j].date:=by show V.int (Bk.dt R (j:Int).toNat)=_;rw[bYW,Bk.vK u]
     rw[e]at o;exact⟨_,rfl,_,rfl,x,_,_,_,rfl,rfl,SqL.of S,yT j1,U,_,1,_,rfl,rfl,SqL.of J,rfl,o⟩
    ·have ff:((Bk.wE R k).map λi=>V.int (i:Nat)).filter (λ_=>true)=(Bk.wE R k).map λi=>V.int (i:Nat):=cX1.mpr λ_ _=>rfl;have em:((Bk.wE R k).map λi=>V.int (i:Nat)).map (dtV R)=((Bk.wE R k).map (Bk.dt R)).map V.int:=by
      rw[cXt,cXt];refine cJa λj _=>?_;show V.int (Bk.dt R (j:Int).toNat)=V.int (Bk.dt R j);rw[bYW]
     rw[ff,em];dsimp only[yW];have k2:=yG C (.lst (((Bk.wE R k).map (Bk.dt R)).map V.int));have n:upd (upd W r (.lst ((Bk.wE R k).map λi=>V.int (i:Nat)))) D (.lst (((Bk.wE R k).map (Bk.dt R)).map V.int)) D=some (.lst (((Bk.wE R k).map (Bk.dt R)).map V.int)):=yB;have kA:=Z.trans k2;generalize upd (upd W r (.lst ((Bk.wE R k).map λi=>V.int (i:Nat)))) D (.lst (((Bk.wE R k).map (Bk.dt R)).map V.int))=H2 at n kA ⊢;refine⟨_,rfl,z0,λpn L=>?_⟩;have O:=yG L (.lst []);refine⟨D,pn,_,rfl,rfl,SqL.of (O _ _ n),SqL.of yB,_,rfl,?_⟩;have p:=q _ (kA.trans O);cases g:Bk.wE R k with
     |nil=>rw[g]at p;exact onT rfl p
     |cons j l=>
      rw[g]at p;refine onF rfl ⟨_,rfl,D,(j::l).map (Bk.dt R),rfl,SqL.of (by rw[<- g];exact O _ _ n),by simp,λm hm M=>?_⟩;refine⟨_,rfl,_,_,rfl,rfl,?_⟩;have e:((!false && true && true && (j::l).all λj=>decide (d<Bk.dt R j)):Bool)=decide (m > d):=by
       rw[Bool.eq_iff_iff];simp only[Bool.not_false,Bool.true_and,cZn,decide_eq_true_eq];constructor
       ·intro h;obtain⟨i,N,rfl⟩:=cQm.mp hm;exact h i N
       ·intro h i N;have:=M _ (cQm.mpr ⟨i,N,rfl⟩);omega
      rw[e]at p;exact p
end
end Law
namespace Bk
theorem aZs:∀shut:List Int,∃C:List Int,C.Pairwise (·<·)/\∀d,d∈C↔d∈shut/\Dm.opn d=true
 |[]=>⟨[],.nil,λd=>by simp⟩
 |x::l=>by
  obtain⟨C,n,o⟩:=aZs l;have ins:∀C:List Int,C.Pairwise (·<·)->∃g:List Int,g.Pairwise (·<·)/\∀d,d∈g↔d=x\/d∈C:=by
   intro C;induction C with
   |nil=>intro _;exact⟨[x],cQH _ _,λd=>by simp⟩
   |cons y C p=>
    intro h;obtain⟨a,b⟩:=cQI.mp h;by_cases e:x=y
    ·subst e;exact⟨x::C,h,λd=>by simp⟩
    ·by_cases k:x<y
     ·refine⟨x::y::C,cQI.mpr ⟨λd f=>?_,h⟩,λd=>by simp⟩;rcases bYq.mp f with rfl|f
      ·exact k
      ·have:=a d f;omega
     ·obtain⟨g,j,i⟩:=p b;refine⟨y::g,cQI.mpr ⟨λd f=>?_,j⟩,λd=>?_⟩
      ·rcases(i d).mp f with rfl|f
       ·omega
       ·exact a d f
      ·rw[bYq,i d,bYq];constructor
       ·rintro(h|h|h)
        ·exact .inr (.inl h)
        ·exact .inl h
        ·exact .inr (.inr h)
       ·rintro(h|h|h)
        ·exact .inr (.inl h)
        ·exact .inl h
        ·exact .inr (.inr h)
  by_cases m:Dm.opn x=true
  ·obtain⟨g,j,i⟩:=ins C n;refine⟨g,j,λd=>?_⟩;rw[i d,o d,bYq];constructor
   ·rintro(rfl|⟨h,c⟩)
    ·exact⟨.inl rfl,m⟩
    ·exact⟨.inr h,c⟩
   ·rintro⟨h|h,c⟩
    ·exact .inl h
    ·exact .inr ⟨h,c⟩
  ·refine⟨C,n,λd=>?_⟩;rw[o d,bYq];constructor
   ·rintro⟨h,c⟩;exact⟨.inr h,c⟩
   ·rintro⟨h|h,c⟩
    ·rw[h]at c;exact absurd c m
    ·exact⟨h,c⟩
theorem bWq(shut:List Int)(d:Int){t:Int}(b:1<=t):Dm.Due shut d t (due shut d t):=by
 obtain⟨C,c,a⟩:=aZs shut;have h:=Dm.bZZ (date:=d) b c a;rw[bZY h];exact h
end Bk
namespace Law
open PySem L2 PyProof.Rows
open Bk (Row Rows)
abbrev aY5:Stmt:=xF "_law_due_by"
abbrev aXV:Stmt:=xF "_law_list_on"
theorem vA:bY2 "sorted"=some (.builtin "sorted"):=dk
def bQF(K:bYj):Sp:=λc H Q _=>∃ (a:Nat)(b:List Int)(d t D:Int),c= [.ref a,.int d,.int t]/\SqL K H a (b.map V.int)/\Dm.Due b d t D/\Q (.int D) H
section
variable {K:bYj}
theorem jH(d:Int):∀ns:List Int,inV (.int d) (ns.map V.int)=ns.contains d
 |[]=>rfl
 |n::r=>by have a:=jH d r;unfold inV at a ⊢;rw[bY4,cXB,a,cXE];congr 1;show(n==d)=(d==n);rw[Bool.eq_iff_iff,beq_iff_eq,beq_iff_eq];exact eq_comm
theorem uU:∀ns:List Int,(ns.map V.int).all J9=true
 |[]=>rfl
 |n::r=>by rw[bY4,cZt,uU r];rfl
theorem bZl:yN ["_law_shut","_law_date","_law_term","_law_many"] ["_law_shut","_law_date","_law_term"] (yH aY5):=scM
theorem bXM(T:vJ mg)(F:Fun K "_law_due_by" "_law_due_by" aY5 f fd):xE P w K mg base CX0 1 f fd ["_law_shut","_law_date","_law_term"] (bQF K):=by
 have C:=bZl;refine F.ok (k:=0) C (λG A outer s L M Q E N h=>?_);obtain⟨a,g,d,t,D,rfl,J,p,q⟩:=h;refine⟨_,(yC (yU (i:=3) yE) (yC (uC bY5 (yM vL (pv 3) (pv 2)) (yC (yU (i:=1) (yV x5 (pv 1) yE)) (yF (y7 (PW.pt (vS (yM vL (yV y0 (pv 1) yE) yE) (wR (yM W7 (pv 1) (pv 0))))) (yF (yU (i:=3) (yV x5 (pv 3) yE))) yS)))) (yF (yP (pv 1))))),?_⟩;refine⟨λm σ H=>∃n:Nat,σ= [some (.ref a),some (.int (d+n)),some (.int t),some (.int (Dm.cnt g (d+1) n))]/\H=L/\d+n<=D/\m=(D - (d+n)).toNat,⟨(D - d).toNat,0,?_,rfl,by have:=p.later;omega,by simp⟩,?_⟩
 ·rw[show d+((0:Nat):Int)=d by simp];rfl
 rintro m σ H ⟨n,rfl,rfl,r,rfl⟩;refine⟨_,rfl,_,rfl,_,_,rfl,rfl,_,rfl,?_⟩;refine qA (λc=>?_) (λc=>?_)
 ·have y:((Dm.cnt g (d+1) n:Nat):Int)<t:=of_decide_eq_true c;have I:d+n<D:=by
   by_cases e:d+n=D
   ·have:=p.cnt;rw[<- e,show(d+n - d).toNat=n by omega]at this;omega
   ·omega
  refine⟨λo B=>∃v,v<(D - (d+n)).toNat/\∃n:Nat,o= [some (.ref a),some (.int (d+n)),some (.int t),some (.int (Dm.cnt g (d+1) n))]/\B=H/\d+n<=D/\v=(D - (d+n)).toNat,λo B z=>z,?_⟩;refine⟨_,rfl,_,_,rfl,rfl,?_⟩;dsimp only[yW];have l:Dm.cnt g (d+1) (n+1)=Dm.cnt g (d+1) n+(if Dm.cts g (d+1+n)then 1 else 0):=rfl;have j:d+((n+1:Nat):Int)=d+n+1:=by omega
  refine⟨_,rfl,_,_,rfl,rfl,(show(0:Int)<7 by decide),_,_,rfl,rfl,_,rfl,?_⟩;have b:Dm.cts g (d+1+n)=(decide ((d+n+1) % 7<5) && !(g.contains (d+n+1))):=by rw[show d+1+(n:Int)=d+n+1 by omega];rfl
  cases u:decide ((d+(n:Int)+1) % 7<5)with
  |false=>rw[u,Bool.false_and]at b;rw[b]at l;refine onF rfl (onF rfl ⟨(D - (d+(n+1:Nat))).toNat,by omega,n+1,?_,rfl,by omega,rfl⟩);rw[l,j];rfl
  |true=>
   rw[u,Bool.true_and]at b;refine onT rfl ⟨_,rfl,_,rfl,a,_,rfl,.inl J,rfl,uU g,_,rfl,?_⟩;rw[if_pos rfl,jH];cases x:g.contains (d+(n:Int)+1)with
   |true=>rw[x]at b;rw[b]at l;refine onF rfl ⟨(D - (d+(n+1:Nat))).toNat,by omega,n+1,?_,rfl,by omega,rfl⟩;rw[l,j];rfl
   |false=>rw[x]at b;rw[b]at l;refine onT rfl ⟨_,rfl,_,_,rfl,rfl,(D - (d+(n+1:Nat))).toNat,by omega,n+1,?_,rfl,by omega,rfl⟩;rw[l,j];simp
 ·have y:¬ ((Dm.cnt g (d+1) n:Nat):Int)<t:=of_decide_eq_false (Bool.eq_false_iff.mpr c);have e:d+n=D:=by
   refine Int.le_antisymm r (Int.not_lt.mp λz=>y (p.less z))
  refine⟨_,rfl,?_⟩;rw[e];exact q
noncomputable def jY (R:Rows) (shut:List Int) (k:Nat):Int:=Bk.due shut (Bk.dt R k) (((R[k]?).map (·.term)).getD 0)
noncomputable def Y2 (R:Rows) (shut:List Int) (d:Int) (a:Bool) (k:Nat):Bool:=Bk.Q1 R k d && (!a || decide (jY R shut k<d))
def aQc:Sp:=λg H Q _=>∃ (e c:Nat)(f:List Nat)(R:Rows)(shut:List Int)(d:Int)(a:Bool),g= [.ref e,.ref c,.int d,.bl a]/\xA H e f R/\H c=some (.lst (shut.map V.int))/\R.length<64/\
 ∀ (r:Nat)(b:Hp)(l:List Nat),xC H b->H r=none->b r=some (.lst (l.map λi=>V.int (i:Nat)))->Bk.bQX R shut d a l->Q (.ref r) b
def aKC(H:Hp)(g:Nat->Int)(k:Nat)(x:V):Prop:=∃p,x= .ref p/\H p=some (.tup [.int (g k),.int (k:Nat)])
theorem aKC.tk{H c:Hp}{g:Nat->Int}(t:∀a b,H a=some (.tup b)->c a=some (.tup b)){k:Nat}{x:V}(h:aKC H g k x):aKC c g k x:=let ⟨p,e,a⟩:=h;⟨p,e,t _ _ a⟩
theorem aXz{R:Rows}{k:Nat}{d:Int}(a:k<R.length)(h:Bk.Q1 R k d=true):1<=R[k].term:=by
 unfold Bk.Q1 at h;rw[bYg a]at h;simp only[Bool.and_eq_true,decide_eq_true_eq]at h;exact h.1.1.2
theorem bQr:yN ["_law_rows","_law_shut","_law_date","_law_late","_law_made","_law_k","_law_last"] ["_law_rows","_law_shut","_law_date","_law_late"] (yH aXV):=scM
theorem aYf:xO ["_law_rows","_law_shut","_law_date","_law_late","_law_made","_law_k","_law_last"] (yH aXV) "_law_pair" [] [] {kind:= .function,names:= [(".0",.local),("_law_pair",.local)],isGenerator:=false,isCoroutine:=false,more:= [] }:=
 lcM
theorem bXZ{α β:Type}{F:α->β->Prop}:∀ {l:List α} {m:List β} {i:Nat} {y:β},bY6 F l m->m[i]? =some y->∃x,l[i]? =some x/\F x y
 |_,_,0,_,.cons r _,h=>by simp at h;subst h;exact⟨_,rfl,r⟩
 |_,_,i+1,_,.cons _ t,h=>by simpa using bXZ (i:=i) t (by simpa using h)
 |_,_,i,_,.nil,h=>by simp at h
theorem aXs{α β:Type}{F:α->β->Prop}{x:α}{y:β}(r:F x y):∀ {l:List α} {m:List β},bY6 F l m->bY6 F (l++ [x]) (m++ [y])
 |_,_,.nil=> .cons r .nil
 |_,_,.cons a t=> .cons a (aXs r t)
theorem aQ5{a H:Hp}{c:Nat}{o:HO}(k:xC a H)(h:a c=none):xC a (upd H c o):=λb u q=>by rw[yI (yJ q h)];exact k b u q
def bKh(H:Hp):V->V
 |.ref p=>match H p with
  |some (.tup [_,y])=>y
  |_=> .non
 |_=> .non
theorem aV2{H:Hp}{p:Nat}{x y:V}(h:H p=some (.tup [x,y])):bKh H (.ref p)=y:=by
 show(match H p with|some (.tup [_,y])=>y|_=>V.non)=y;rw[h]
theorem aYE(T:vJ mg)(L:mg "sorted"=none)(o:FnG P w K mg base 2 "_law_waits_on" ["_law_rows","_law_number","_law_date"] bQN)(C:FnG P w K mg base 2 "_law_due_by" ["_law_shut","_law_date","_law_term"] (bQF K)) (F:Fun K "_law_list_on" "_law_list_on" aXV f fd):xE P w K mg base CX0 3 f fd ["_law_rows","_law_shut","_law_date","_law_late"] aQc:=by
 have sc:=bQr;refine F.ok (k:=2) sc (λc1 A outer s H0 vs Q E hr h=>?_);obtain⟨U,sa,rs,R,shut,d,c,rfl,hB,b7,hR,q⟩:=h;refine⟨_,(yC (yU (i:=4) (y6 yD)) (yC (zR bY5 rfl (zJ rfl T.b_range (yA (yQ yO rfl T.b_len xB (yA (pv 0) yD)) yD)) (y9 (i:=5)) (yF (y7 (xX (xJ o hr rfl (yA (pv 0) (yA (pv 5) (yA (pv 2) yD))))) (yC (yU (i:=6) (xJ C hr rfl (yA (pv 1) (yA (yL yK (yL yK (pv 0) (pv 5)) yE) (yA (yL yK (yL yK (pv 0) (pv 5)) yE) yD))))) (yF (y7 (PW.pt (jV (vF (xX (pv 3))) (vT (yM vL (pv 6) (pv 2))))) (yF (yY (vM bYG bYN bYO xD (pv 4) (yA (xG (yA (pv 6) (yA (pv 5) yD))) yD)))) yS))) yS))) (yF (yP (aQF aYf rfl (xL (yQ uK rfl L vA (yA (pv 4) yD))) (λ_ _ _ _ _=>wK) (λ_ _ _ _ _=>(yL (show IxR _ (bJc K)from yX) (pv 0) yE))))))),?_⟩;refine⟨z0,λI a7=>?_⟩;dsimp only[yW];have k1:=yG a7 (.lst []);have hl:(rs.map V.ref).length=R.length:=by rw[bYl];exact hB.len
 refine⟨_,rfl,U,_,rfl,.inl (SqL.of (k1 _ _ hB.lst)),?_⟩;rw[hl];refine⟨_,rfl,by omega,by omega,?_⟩;rw[bYW];refine z6 (λt σ H=>∃ (g:List V)(S O:Option V),σ= [some (.ref U),some (.ref sa),some (.int d),some (.bl c),some (.ref I),S,O]/\xC H0 H/\H I=some (.lst g)/\
  bY6 (aKC H (jY R shut)) ((bYu t).filter (Y2 R shut d c)) g) ?_ ?_ ?_
 ·exact⟨[],none,none,rfl,k1,yB,.nil⟩
 ·rintro k σ H Y ⟨g,S,O,rfl,u,B,W⟩;rw[cXr];dsimp only[yW];have a8:=hB.same u;have a2:=bYg Y;rw[cXH,cQr];have stay:∀Z S O,xC H Z->Y2 R shut d c k=false->∃ (g:List V)(p5 p6:Option V),[some (V.ref U),some (V.ref sa),some (V.int d),some (V.bl c),some (V.ref I),S,O]= [some (.ref U),some (.ref sa),some (.int d),some (.bl c),some (.ref I),p5,p6]/\xC H0 Z/\Z I=some (.lst g)/\
    bY6 (aKC Z (jY R shut)) ((bYu k).filter (Y2 R shut d c)++ [k].filter (Y2 R shut d c)) g:=λZ S O kk e=>by
   have e3: [k].filter (Y2 R shut d c)= []:=by simp[e]
   rw[e3,cQk]
   exact⟨g,S,O,rfl,u.trans kk,kk _ _ B,Paired.mapP W λ_ _ z=>z.tk λa xs e=>kk _ _ e⟩
  refine⟨_,rfl,_,rfl,_,rfl,U,rs,R,k,d,rfl,a8,by omega,Y,λH2 D=>⟨_,rfl,?_⟩⟩;cases hw:Bk.Q1 R k d with
  |false=>exact onF rfl (stay H2 _ _ D (by unfold Y2;rw[hw];rfl))
  |true=>
   have b9:=aXz Y hw;have a1:=a8.same D;obtain⟨b,g1,g2,cp,g3,g4⟩:=a1.get a2;have hD:=Bk.bWq shut (Bk.dt R k) b9;have eD:jY R shut k=Bk.due shut (Bk.dt R k) R[k].term:=by unfold jY;rw[a2];rfl
   rw[<- eD,Bk.vK a2]at hD;refine onT rfl ?_;refine⟨_,rfl,_,rfl,_,rfl,U,_,_,_,rfl,rfl,SqL.of a1.lst,yT g1,b,_,1,_,rfl,rfl,SqL.of g3,rfl,_,rfl,_,rfl,U,_,_,_,rfl,rfl,SqL.of a1.lst,yT g1,b,_,3,_,rfl,rfl,SqL.of g3,rfl,?_⟩;refine⟨sa,shut,_,_,jY R shut k,rfl,SqL.of (D _ _ (u _ _ b7)),hD,?_⟩;dsimp only[yW];have a5:Y2 R shut d c k=true->aVt (tBM K "list" aYU (bVZ 4) (aKx (bKV (aKx (bVZ 6) (aKx (bVZ 5) bZF))) bZF)) {nx:=λσ H=>∃ (g:List V)(S O:Option V),σ= [some (.ref U),some (.ref sa),some (.int d),some (.bl c),some (.ref I),S,O]/\xC H0 H/\H I=some (.lst g)/\bY6 (aKC H (jY R shut)) ((bYu k).filter (Y2 R shut d c)++ [k].filter (Y2 R shut d c)) g,rt:=Q} [some (.ref U),some (.ref sa),some (.int d),some (.bl c),some (.ref I),some (.int (k:Nat)),some (.int (jY R shut k))] H2:=λe=>by
    have a6:=D _ _ B;refine⟨_,rfl,.inl ⟨rfl,_,SqL.of a6⟩,_,rfl,_,rfl,z2,λq3 b4=>?_⟩;have k5:=yG b4 (.tup [V.int (jY R shut k),V.int (k:Nat)]);have a9:=k5 _ _ a6;have il:g.length<=k:=by rw[<- W.length];exact bYT (cQh _ _) (by simp)
    have t6:∀a xs,upd H2 q3 (.tup [V.int (jY R shut k),V.int (k:Nat)]) a=some (.tup xs)->upd (upd H2 q3 (.tup [V.int (jY R shut k),V.int (k:Nat)])) I (.lst (g++ [V.ref q3])) a=some (.tup xs):=λa xs e=>by rw[yI (aXc e a9 (by intro z;cases z))];exact e
    have e3: [k].filter (Y2 R shut d c)= [k]:=by simp[e]
    refine⟨I,g,.ref q3,rfl,rfl,a9,zlt (by omega),g++ [.ref q3],_,_,rfl,aQ5 (u.trans (D.trans k5)) a7,yB,?_⟩;rw[e3];exact aXs ⟨q3,rfl,t6 _ _ yB⟩ (Paired.mapP W λ_ _ z=>z.tk λa xs e=>t6 _ _ (k5 _ _ (D _ _ e)))
   refine⟨_,rfl,_,rfl,?_⟩;by_cases n:c=true
   ·refine onF (by rw[n];rfl) ⟨_,rfl,_,rfl,_,_,rfl,rfl,_,rfl,?_⟩;cases b0:decide (jY R shut k<d)with
    |true=>exact onT rfl (a5 (by unfold Y2;rw[hw,n,b0];rfl))
    |false=>exact onF rfl (stay H2 _ _ D (by unfold Y2;rw[hw,n,b0];rfl))
   ·have hf:c=false:=by simpa using n
    exact onT (by rw[hf];rfl) (onT rfl (a5 (by unfold Y2;rw[hw,hf];rfl)))
 ·rintro σ H1 ⟨g,S,O,rfl,u,B,W⟩;generalize J:(bYu R.length).filter (Y2 R shut d c)=fam at W;have b2:fam.length=g.length:=W.length;have fn:fam.length<=R.length:=by rw[<- J];exact bYT (cQh _ _) (by simp)
  have a4:∀k,k∈fam↔k<R.length/\Y2 R shut d c k=true:=λk=>by rw[<- J,cQo,bYS]
  have b5:fam.Nodup:=by rw[<- J];exact cZp.sublist cXj
  refine⟨_,rfl,I,g,λm=>(jY R shut (fam.getD m 0),((fam.getD m 0:Nat):Int)),rfl,B,by omega,λa b ha hb e=>?_,λm x hx=>?_,λl j hl a0 b6=>?_⟩
  ·have G:fam.getD a 0=fam.getD b 0:=by have:=congrArg Prod.snd e;simp only at this;omega
   have b3:a<fam.length:=by omega
   have b1:b<fam.length:=by omega
   simp[bY1,bYg b3,bYg b1]at G;exact(cQ6 (h₀:=b3) (h₁:=b1) b5).mp G
  ·obtain⟨k,Y,p,e1,G⟩:=bXZ W hx;have:fam.getD m 0=k:=by simp[bY1,Y]
   show ∃a,x=V.ref a/\H1 a=some (.tup [V.int (jY R shut (fam.getD m 0)),V.int ((fam.getD m 0:Nat):Int)]);rw[this];exact⟨p,e1,G⟩
  ·have hm:∀m∈j,m<g.length:=λm hm=>bYS.mp (a0.mem_iff.mp hm);have D:=yG hl (.lst (j.map λi=>g.getD i .non));refine⟨l,rfl,⟨_,SqL.of yB⟩,λr N=>?_⟩;have c0:j.length=g.length:=by rw[a0.length_eq,cQa]
   have a3:∀m∈j,∃p,g.getD m .non= .ref p/\H1 p=some (.tup [.int (jY R shut (fam.getD m 0)),.int ((fam.getD m 0:Nat):Int)]):=λm y=>by
    have M:=hm m y;have hg:g[m]? =some (g.getD m .non):=by simp[bY1,bYg M]
    obtain⟨k,Y,p,e1,G⟩:=bXZ W hg;have:fam.getD m 0=k:=by simp[bY1,Y]
    rw[this];exact⟨p,e1,G⟩
   refine aZJ (λ_=>true) (bKh H1) (SqL.of yB) N (zn (by rw[bYl];omega)) (λv hv Z R' _ h=>h) (λv hv _ Z R' hH X=>?_) ?_
   ·obtain⟨m,y,rfl⟩:=cQm.mp hv;obtain⟨p,e1,G⟩:=a3 m y;rw[e1]at X ⊢;have e4:=D _ _ G;have e5:=(hH p (yJ e4 N)).trans e4;rw[aV2 G]at X;exact⟨_,rfl,p,_,1,_,rfl,rfl,SqT.of e5,rfl,X⟩
   ·have ff:(j.map λi=>g.getD i .non).filter (λ_=>true)=j.map λi=>g.getD i .non:=cX1.mpr λ_ _=>rfl;have e6:((j.map λi=>g.getD i .non).map (bKh H1))=(j.map λm=>fam.getD m 0).map λi=>V.int (i:Nat):=by
     rw[cXt,cXt];refine cJa λm y=>?_;obtain⟨p,e1,G⟩:=a3 m y;show bKh H1 (g.getD m .non)=V.int (fam.getD m 0:Nat);rw[e1];exact aV2 G
    rw[ff,e6];refine q r _ (j.map λm=>fam.getD m 0) (u.trans (D.trans (yG N _))) ((u.trans D).fresh N) yB ⟨λk=>?_,?_⟩
    ·have b8:k∈j.map (λm=>fam.getD m 0)↔k∈fam:=by
      constructor
      ·intro h;obtain⟨m,y,rfl⟩:=cQm.mp h;have M:m<fam.length:=by rw[b2];exact hm m y
       simp[bY1,bYg M]
      ·intro h;obtain⟨m,M,e⟩:=bY8 h;refine cQm.mpr ⟨m,a0.mem_iff.mpr (bYS.mpr (by omega)),?_⟩;simp[bY1,bYg M,e]
     rw[b8,a4 k];unfold Y2;rw[Bool.and_eq_true,Bool.or_eq_true,decide_eq_true_eq];refine and_congr Iff.rfl (and_congr Iff.rfl ?_);cases c<;> simp[jY]
    ·rw[cZJ];exact b6
end
end Law
namespace Law
open PySem L2 PyProof.Rows
open Bk (Row Rows)
open Stree (qP jJ wF)
abbrev aXU:Stmt:=xF "_law_family"
theorem zV{a H:Hp}{c:Nat}{o:HO}(k:xC a H)(h:a c=none):xC a (upd H c o):=λb u q=>by rw[yI (yJ q h)];exact k b u q
theorem wT{H:Hp}{p:Nat}{c:List V}{o:HO}(h:H p=some (.lst c)):∀a b,H a=some (.tup b)->upd H p o a=some (.tup b):=λa b e=>by rw[yI (aXc e h (by intro z;cases z))];exact e
structure bZU(H:Hp)(ra:Nat)(rs:List Nat)(n:Nat)(L:Nat->Option Nat)(D:Nat->Int):Prop where
 lst:H ra=some (.lst (rs.map V.ref))
 len:rs.length=n
 row:∀i b,rs[i]? =some b->∃xs,H b=some (.lst xs)/\xs[1]? =some (.int (D i))/\xs[4]? =some (wZ (L i))
def aQb:Sp:=λf H Q _=>∃ (d:Nat)(e:List Nat)(n:Nat)(L:Nat->Option Nat)(b:Nat->Nat)(D:Nat->Int)(i:Nat),f= [.ref d,.int (i:Nat)]/\bZU H d e n L D/\Fm.Ok n L b/\n<=60/\i<n/\
 ∀ (c:Hp)(r:Nat)(a:List Nat),xC H c->H r=none->c r=some (.lst (a.map λi=>V.int (i:Nat)))->(a.Pairwise λx y=>jJ (Fm.rd L D b x) (Fm.rd L D b y)=true)->(∀k,k∈a↔k<n/\Fm.tp L b k=Fm.tp L b i)->Q (.ref r) c
def Tk(H c:Hp):Prop:=∀a b,H a=some (.tup b)->c a=some (.tup b)
theorem xC.tk{H b:Hp}(k:xC H b):Tk H b:=λa c e=>k a _ e
theorem Tk.trans{H g d:Hp}(a:Tk H g)(b:Tk g d):Tk H d:=λc f e=>b c f (a c f e)
theorem Y7.tk{H d:Hp}(k:Tk H d){b:Nat}{a:qP}(h:Y7 H b a):Y7 d b a:=let ⟨xs,e,z⟩:=h;⟨xs,k _ _ e,Paired.mapP z λ_ _ ⟨c,w1,w2⟩=>⟨c,w1,k _ _ w2⟩⟩
def bKd(H:Hp)(rd:Nat->qP)(k:Nat)(x:V):Prop:=∃p b,x= .ref p/\H p=some (.tup [.ref b,.int (k:Nat)])/\Y7 H b (rd k)
theorem bKd.tk{H d:Hp}{rd:Nat->qP}(t:Tk H d){k:Nat}{x:V}(h:bKd H rd k x):bKd d rd k x:=let ⟨p,b,e,a,c⟩:=h;⟨p,b,e,t _ _ a,Y7.tk t c⟩
theorem Y0{α β:Type}{F:α->β->Prop}:∀ {l:List α} {m:List β} {i:Nat} {y:β},bY6 F l m->m[i]? =some y->∃x,l[i]? =some x/\F x y
 |_,_,0,_,.cons r _,h=>by simp at h;subst h;exact⟨_,rfl,r⟩
 |_,_,i+1,_,.cons _ t,h=>by simpa using Y0 (i:=i) t (by simpa using h)
 |_,_,i,_,.nil,h=>by simp at h
theorem aQC{α β:Type}{F:α->β->Prop}{x:α}{y:β}(r:F x y):∀ {l:List α} {m:List β},bY6 F l m->bY6 F (l++ [x]) (m++ [y])
 |_,_,.nil=> .cons r .nil
 |_,_,.cons a t=> .cons a (aQC r t)
section
variable {K:bYj}
theorem bQq:yN ["_law_rows","_law_number","_law_root","_law_keys","_law_k","_law_key","_law_top"] ["_law_rows","_law_number"] (yH aXU):=scM
theorem aYe:xO ["_law_rows","_law_number","_law_root","_law_keys","_law_k","_law_key","_law_top"] (yH aXU) "_law_pair" [] [] {kind:= .function,names:= [(".0",.local),("_law_pair",.local)],isGenerator:=false,isCoroutine:=false,more:= [] }:=
 lcM
def bW1(H:Hp):V->V
 |.ref p=>match H p with
  |some (.tup [_,y])=>y
  |_=> .non
 |_=> .non
theorem aV3{H:Hp}{p:Nat}{x y:V}(h:H p=some (.tup [x,y])):bW1 H (.ref p)=y:=by
 show(match H p with|some (.tup [_,y])=>y|_=>V.non)=y;rw[h]
theorem aYD(T:vJ mg)(a4:mg "sorted"=none)(F:Fun K "_law_family" "_law_family" aXU f fd):xE P w K mg base CX0 2 f fd ["_law_rows","_law_number"] aQb:=by
 have sc:=bQq;refine F.ok (k:=1) sc (λf3 A outer s H0 vs Q E hr h=>?_);obtain⟨X,rs,n,L,g,D,i,rfl,hR,ho,hn,hi,q⟩:=h;refine⟨_,(yC (yU (i:=2) (pv 1)) (yC (uC bY5 (yM z8 (yL yK (yL yK (pv 0) (pv 2)) yE) x3) (yF (yU (i:=2) (yL yK (yL yK (pv 0) (pv 2)) yE)))) (yC (yU (i:=3) (y6 yD)) (yC (zR bY5 rfl (zJ rfl T.b_range (yA (yQ yO rfl T.b_len xB (yA (pv 0) yD)) yD)) (y9 (i:=4)) (yC (yU (i:=5) (xG (yA (xG (yA (yL yK (yL yK (pv 0) (pv 4)) yE) (yA (pv 4) yD))) yD))) (yC (yU (i:=6) (pv 4)) (yC (uC bY5 (yM z8 (yL yK (yL yK (pv 0) (pv 6)) yE) x3) (yC (yU (i:=6) (yL yK (yL yK (pv 0) (pv 6)) yE)) (yF (yU (i:=5) (yV bVg (xG (yA (xG (yA (yL yK (yL yK (pv 0) (pv 6)) yE) (yA (pv 6) yD))) yD)) (pv 5)))))) (yF (y7 (yM zF (pv 6) (pv 2)) (yF (yY (vM bYG bYN bYO xD (pv 3) (yA (xG (yA (pv 5) (yA (pv 4) yD))) yD)))) yS)))))) (yF (yP (aQF aYe rfl (xL (yQ (J8 hr) rfl a4 vA (yA (pv 3) yD))) (λ_ _ _ _ _=>wK) (λ_ _ _ _ _=>(yL (show IxR _ (bJc K)from yX) (pv 0) yE))))))))),?_⟩;have row:∀ {H:Hp} {t:Nat},xC H0 H->t<n->∃b I,(rs.map V.ref)[t]? =some (.ref b)/\H b=some (.lst I)/\I[1]? =some (.int (D t))/\I[4]? =some (wZ (L t)):=λ{H t} k ht=>by
  have e9:t<rs.length:=by rw[hR.len];exact ht
  have hb:=bYg e9;obtain⟨I,h1,h2,h3⟩:=hR.row t _ hb;exact⟨rs[t],I,by rw[bYB,hb];rfl,k _ _ h1,h2,h3⟩
 refine⟨_,rfl,?_⟩;dsimp only[yW];refine⟨λm σ H=>∃t:Nat,σ= [some (.ref X),some (.int (i:Nat)),some (.int (t:Nat)),none,none,none,none]/\H=H0/\t<n/\Fm.tp L g t=Fm.tp L g i/\m=g t,⟨g i,i,rfl,rfl,hi,rfl,rfl⟩,?_⟩;rintro m σ H ⟨t,rfl,rfl,ht,c4,rfl⟩;obtain⟨b,I,g1,g2,g3,g4⟩:=row (xC.refl H) ht;refine⟨_,rfl,_,rfl,X,_,_,_,rfl,rfl,SqL.of hR.lst,yT g1,b,I,4,_,rfl,rfl,SqL.of g2,yT (j:=4) g4,rfl,_,rfl,?_⟩;cases hl:L t with
 |some j=>obtain⟨hj,b6⟩:=ho.lt t j ht hl;refine onT rfl ⟨λσ' H'=>∃m',m'<g t/\∃t:Nat,σ'= [some (.ref X),some (.int (i:Nat)),some (.int (t:Nat)),none,none,none,none]/\H'=H/\t<n/\Fm.tp L g t=Fm.tp L g i/\m'=g t,λσ' H' z=>z,?_⟩;refine⟨_,rfl,_,rfl,X,_,_,_,rfl,rfl,SqL.of hR.lst,yT g1,b,I,4,_,rfl,rfl,SqL.of g2,yT (j:=4) g4,?_⟩;rw[hl];exact⟨g j,b6,j,rfl,rfl,hj,by rw[<- c4,Fm.uI ho ht hl],rfl⟩
 |none=>
  have c0:t=Fm.tp L g i:=by rw[<- c4,Fm.wA hl]
  subst c0;refine onF rfl ?_;refine⟨z0,λka c2=>?_⟩;dsimp only[yW];have k1:=yG c2 (.lst []);have c5:(rs.map V.ref).length=n:=by rw[bYl];exact hR.len
  refine⟨_,rfl,X,_,rfl,.inl (SqL.of (k1 _ _ hR.lst)),?_⟩;rw[c5];refine⟨_,rfl,by omega,by omega,?_⟩;rw[bYW];refine z6 (λt σ H'=>∃ (d:List V)(o4 o5 o6:Option V),σ= [some (.ref X),some (.int (i:Nat)),some (.int (Fm.tp L g i:Nat)),some (.ref ka),o4,o5,o6]/\xC H H'/\H' ka=some (.lst d)/\
   bY6 (bKd H' (Fm.rd L D g)) ((bYu t).filter λk=>decide (Fm.tp L g k=Fm.tp L g i)) d) ?_ ?_ ?_
  ·exact⟨[],none,none,none,rfl,k1,yB,.nil⟩
  ·rintro k σ U hk ⟨d,o4,o5,o6,rfl,B,J,hP⟩;rw[cXr];dsimp only[yW];obtain⟨b,I,g1,g2,g3,g4⟩:=row B hk;have f0:=B _ _ hR.lst;refine⟨_,rfl,_,rfl,X,_,_,_,rfl,rfl,SqL.of f0,yT g1,b,I,1,_,rfl,rfl,SqL.of g2,yT (j:=1) g3,_,rfl,z2,λp1 a2=>⟨z1,λp2 b5=>?_⟩⟩;dsimp only[yW];have e8:=yG a2 (.tup [V.int (D k),V.int (k:Nat)]);have c3:=yG b5 (.tup [V.ref p1]);have a0:Y7 (upd (upd U p1 (.tup [V.int (D k),V.int (k:Nat)])) p2 (.tup [V.ref p1])) p2 [(D k,(k:Int))]:=⟨[.ref p1],yB,.cons ⟨p1,rfl,c3 _ _ yB⟩ .nil⟩;have c7:xC U (upd (upd U p1 (.tup [V.int (D k),V.int (k:Nat)])) p2 (.tup [V.ref p1])):=e8.trans c3;generalize upd (upd U p1 (.tup [V.int (D k),V.int (k:Nat)])) p2 (.tup [V.ref p1])=H2 at a0 c7 ⊢;refine⟨_,rfl,?_⟩;dsimp only[yW];refine⟨λm σ N=>∃ (o:Nat)(S:qP)(kb:Nat),σ= [some (.ref X),some (.int (i:Nat)),some (.int (Fm.tp L g i:Nat)),some (.ref ka),some (.int (k:Nat)),some (.ref kb),some (.int (o:Nat))]/\xC U N/\o<n/\
     Y7 N kb ((D o,(o:Int))::S)/\Fm.rd L D g k=Fm.rd L D g o++S/\Fm.tp L g o=Fm.tp L g k/\m=g o,⟨g k,k,[],p2,rfl,c7,hk,a0,by rw[cQk],rfl,rfl⟩,?_⟩
   rintro m σ N ⟨o,S,kb,rfl,C,a9,a1,b7,b9,rfl⟩;have u:=B.trans C;obtain⟨b,I,g1,g2,g3,g4⟩:=row u a9;refine⟨_,rfl,_,rfl,X,_,_,_,rfl,rfl,SqL.of (u _ _ hR.lst),yT g1,b,I,4,_,rfl,rfl,SqL.of g2,yT (j:=4) g4,rfl,_,rfl,?_⟩;cases M:L o with
   |some j=>
    obtain⟨hj,b6⟩:=ho.lt o j a9 M;refine onT rfl ⟨λσ N=>∃m',m'<g o/\∃ (o:Nat)(S:qP)(kb:Nat),σ= [some (.ref X),some (.int (i:Nat)),some (.int (Fm.tp L g i:Nat)),some (.ref ka),some (.int (k:Nat)),some (.ref kb),some (.int (o:Nat))]/\xC U N/\o<n/\
     Y7 N kb ((D o,(o:Int))::S)/\Fm.rd L D g k=Fm.rd L D g o++S/\Fm.tp L g o=Fm.tp L g k/\m'=g o,λσ' H' z=>z,?_⟩
    refine⟨_,rfl,_,rfl,X,_,_,_,rfl,rfl,SqL.of (u _ _ hR.lst),yT g1,b,I,4,_,rfl,rfl,SqL.of g2,yT (j:=4) g4,?_⟩;rw[M];dsimp only[yW,wZ];obtain⟨b',d1,d2,e0,d9,f4⟩:=row u hj;refine⟨_,rfl,_,rfl,X,_,_,_,rfl,rfl,SqL.of (u _ _ hR.lst),yT d2,b',d1,1,_,rfl,rfl,SqL.of e0,yT (j:=1) d9,_,rfl,z2,λO e7=>⟨z1,λq2 d7=>?_⟩⟩;have d0:=yG e7 (.tup [V.int (D j),V.int (j:Nat)]);have c9:=yG d7 (.tup [V.ref O]);have b8:xC N (upd (upd N O (.tup [V.int (D j),V.int (j:Nat)])) q2 (.tup [V.ref O])):=d0.trans c9;have e1:upd (upd N O (.tup [V.int (D j),V.int (j:Nat)])) q2 (.tup [V.ref O]) O=some (.tup [V.int (D j),V.int (j:Nat)]):=c9 _ _ yB;have W:upd (upd N O (.tup [V.int (D j),V.int (j:Nat)])) q2 (.tup [V.ref O]) q2=some (.tup [V.ref O]):=yB;generalize upd (upd N O (.tup [V.int (D j),V.int (j:Nat)])) q2 (.tup [V.ref O])=H4 at b8 e1 W ⊢;obtain⟨ys,y1,y2⟩:=Y7.tk (xC.tk b8) a1;have b0:ys.length=S.length+1:=by have:=y2.length;simpa using this.symm
    have c1:(Fm.rd L D g k).length<=n:=Fm.bWS ho hk;rw[b7,bYE]at c1;have d5:ys≠ []:=λz=>by rw[z]at b0;simp at b0
    refine⟨_,rfl,q2,kb,_,ys,rfl,rfl,SqT.of W,SqT.of y1,by simp,by rw[bYQ];show 1+ys.length<=_;omega,λz=>absurd z d5,λ_ q3 b3=>?_⟩;have G:=yG b3 (.tup ([V.ref O]++ys));refine⟨g j,b6,j,(D o,(o:Int))::S,q3,rfl,C.trans (b8.trans G),hj,⟨_,yB,.cons ⟨O,rfl,G _ _ e1⟩ (Paired.mapP y2 λ_ _ ⟨c,w1,w2⟩=>⟨c,w1,G _ _ w2⟩)⟩,?_,?_,rfl⟩
    ·rw[b7,Fm.uD ho a9 M,cQw];rfl
    ·rw[<- b9,Fm.uI ho a9 M]
   |none=>
    have b4:o=Fm.tp L g k:=by rw[<- b9,Fm.wA M]
    have d4:Fm.rd L D g k=(D o,(o:Int))::S:=by rw[b7,Fm.X8 M];rfl
    refine onF rfl ?_;refine⟨_,rfl,_,rfl,rfl,_,rfl,?_⟩;rw[cXH,cQr];by_cases ec:Fm.tp L g k=Fm.tp L g i
    ·have hd:decide ((V.int (o:Nat))=V.int (Fm.tp L g i:Nat))=true:=by rw[b4,ec];simp
     refine onT (by rw[b4,ec];simp) ?_;have b1:=C _ _ J;refine⟨_,rfl,.inl ⟨rfl,_,SqL.of b1⟩,_,rfl,_,rfl,z2,λq3 b3=>?_⟩;have G:=yG b3 (.tup [V.ref kb,V.int (k:Nat)]);have b2:=G _ _ b1;have il:d.length<=k:=by have:=hP.length;rw[<- this];exact bYT (cQh _ _) (by simp)
     have t6:Tk (upd N q3 (.tup [V.ref kb,V.int (k:Nat)])) (upd (upd N q3 (.tup [V.ref kb,V.int (k:Nat)])) ka (.lst (d++ [V.ref q3]))):=λa I e=>wT b2 a I e;refine⟨ka,d,.ref q3,rfl,rfl,b2,zlt (by omega),d++ [.ref q3],_,_,_,rfl,zV (B.trans (C.trans G)) c2,yB,?_⟩;have e3: [k].filter (λk=>decide (Fm.tp L g k=Fm.tp L g i))= [k]:=by simp[ec]
     rw[e3];refine aQC ⟨q3,kb,rfl,t6 _ _ yB,?_⟩ (Paired.mapP hP λ_ _ z=>z.tk ((xC.tk (C.trans G)).trans t6));rw[d4];exact Y7.tk ((xC.tk G).trans t6) a1
    ·refine onF ?_ ⟨d,_,_,_,rfl,B.trans C,C _ _ J,?_⟩
     ·rw[b4];simp;omega
     ·have e3: [k].filter (λk=>decide (Fm.tp L g k=Fm.tp L g i))= []:=by simp[ec]
      rw[e3,cQk];exact Paired.mapP hP λ_ _ z=>z.tk (xC.tk C)
  ·rintro σ U ⟨d,o4,o5,o6,rfl,B,J,hP⟩;generalize a3:(bYu n).filter (λk=>decide (Fm.tp L g k=Fm.tp L g i))=fam at hP;have f2:fam.length=d.length:=hP.length;have fn:fam.length<=n:=by rw[<- a3];exact bYT (cQh _ _) (by simp)
   have Z:∀k,k∈fam↔k<n/\Fm.tp L g k=Fm.tp L g i:=λk=>by rw[<- a3,cQo,bYS,decide_eq_true_eq]
   have d3:fam.Nodup:=by rw[<- a3];exact cZp.sublist cXj
   have a5:∀m,m<d.length->fam.getD m 0∈fam:=λm hm=>by
    have d8:m<fam.length:=by omega
    simp[bY1,bYg d8]
   refine⟨_,rfl,ka,d,λm=>Fm.rd L D g (fam.getD m 0),λm=>((fam.getD m 0:Nat):Int),rfl,J,by omega,λa b ha hb e=>?_,λm x hx=>?_,λl y hl a2 b5=>?_⟩
   ·have W:=Fm.aYV ho ((Z _).mp (a5 a ha)).1 ((Z _).mp (a5 b hb)).1 e;have c8:a<fam.length:=by omega
    have c6:b<fam.length:=by omega
    simp[bY1,bYg c8,bYg c6]at W;exact(cQ6 (h₀:=c8) (h₁:=c6) d3).mp W
   ·obtain⟨k,hk,p,b,e1,W,e3⟩:=Y0 hP hx;have:fam.getD m 0=k:=by simp[bY1,hk]
    show ∃a b,x=V.ref a/\U a=some (.tup [V.ref b,V.int ((fam.getD m 0:Nat):Int)])/\Y7 U b (Fm.rd L D g (fam.getD m 0));rw[this];exact⟨p,b,e1,W,e3⟩
   ·have hm:∀m∈y,m<d.length:=λm hm=>bYS.mp (a2.mem_iff.mp hm);have k2:=yG hl (.lst (y.map λi=>d.getD i .non));refine⟨l,rfl,⟨_,SqL.of yB⟩,λr a8=>?_⟩;have f1:y.length=d.length:=by rw[a2.length_eq,cQa]
    refine aZJ (λ_=>true) (bW1 U) (SqL.of yB) a8 (zn (by rw[bYl];omega)) ?_ ?_ ?_
    ·intro v hv H' R hH Y;exact Y
    ·intro v hv _ H' R hH Y;obtain⟨m,a7,rfl⟩:=cQm.mp hv;have a6:=hm m a7;have hg:d[m]? =some (d.getD m .non):=by simp[bY1,bYg a6]
     obtain⟨k,hk,p,b,e1,W,e3⟩:=Y0 hP hg;rw[e1]at Y ⊢;have e4:=k2 _ _ W;have d6:p≠r:=yJ e4 a8;have e5:H' p=some (.tup [.ref b,.int (k:Nat)]):=by rw[hH p d6];exact e4
     refine⟨_,rfl,p,_,1,.int (k:Nat),rfl,rfl,SqT.of e5,rfl,?_⟩;have:bW1 U (.ref p)= .int (k:Nat):=aV3 W;rw[this]at Y;exact Y
    ·have ff:(y.map λi=>d.getD i .non).filter (λ_=>true)=y.map λi=>d.getD i .non:=cX1.mpr λ_ _=>rfl;rw[ff,cXt];have e6:(y.map (bW1 U∘λi=>d.getD i .non))=(y.map λm=>fam.getD m 0).map λi=>V.int (i:Nat):=by
      rw[cXt];refine cJa λm a7=>?_;have a6:=hm m a7;have hg:d[m]? =some (d.getD m .non):=by simp[bY1,bYg a6]
      obtain⟨k,hk,p,b,e1,W,e3⟩:=Y0 hP hg;show bW1 U (d.getD m .non)=V.int (fam.getD m 0:Nat);have:fam.getD m 0=k:=by simp[bY1,hk]
      rw[e1,this];exact aV3 W
     rw[e6];refine q _ r (y.map λm=>fam.getD m 0) (B.trans (k2.trans (yG a8 _))) ((B.trans k2).fresh a8) yB ?_ λk=>?_
     ·rw[cZJ];exact b5
     ·rw[<- Z k];constructor
      ·intro h;obtain⟨m,a7,rfl⟩:=cQm.mp h;exact a5 m (hm m a7)
      ·intro h;obtain⟨m,a6,e⟩:=bY8 h;refine cQm.mpr ⟨m,a2.mem_iff.mpr (bYS.mpr (by omega)),?_⟩;simp[bY1,bYg a6,e]
end
theorem xA.rows{H:Hp}{e:Nat}{c:List Nat}{R:Rows}(h:xA H e c R):bZU H e c R.length (Bk.lk R) (Bk.dt R):=
 ⟨h.lst,h.len,λi b d=>by
  have f:i<R.length:=by rw[<- h.len];exact(bYs.mp d).1
  have a:=bYg f;obtain⟨j,g,k⟩:=h.row i b _ d a;exact⟨_,g,by rw[Bk.vK a];rfl,by rw[Bk.uA a];rfl⟩⟩
end Law
namespace Law
open PySem L2 PyProof.Rows
open Bk (Row Rows)
def uO(r:Row)(a:Nat):List V:= [.str r.way,.int r.date,.str r.partner,.int r.term,wZ r.link,.str r.place,.bl r.void,.ref a]
theorem qJ{r:Row}{a:Nat}{l:List Str}:HO.lst (uO r a)≠HO.lst (l.map V.str):=λz=>by
 injection z with z
 match l,z with
 |[],z=>cases z
 |[_],z=>injection z with _ z;cases z
 |_::_::_,z=>injection z with _ z;injection z with z _;cases z
theorem aQJ{r:Row}{a:Nat}{l:List Nat}:HO.lst (uO r a)≠HO.lst (l.map V.ref):=λz=>by
 injection z with z
 match l,z with
 |[],z=>cases z
 |_::_,z=>injection z with z _;cases z
theorem xA.upd{H:Hp}{l:Nat}{j:List Nat}{R:Rows}{k:Nat}{b:Nat}{r:Row}(h:xA H l j R)(p:j[k]? =some b)(u:R[k]? =some r)(f:Row->Row){s:Nat}(d:H s=some (.lst ((f r).copies.map V.str))):xA (upd H b (.lst (uO (f r) s))) l j (Bk.xR R k f):=by
 obtain⟨A,m,_⟩:=h.row k b r p u;have n:l≠b:=aXc h.lst m (bY0 aQJ);refine⟨by rw[yI n];exact h.lst,by rw[Bk.zS];exact h.len,h.nd,λi c q g a=>?_⟩;rw[Bk.zK]at a;by_cases e:i=k
 ·subst e;rw[p]at g;cases g;rw[if_pos rfl,u]at a;cases a;exact⟨s,yB,by rw[yI (aXc d m (bY0 qJ))];exact d⟩
 ·rw[if_neg e]at a;obtain⟨x,y,w⟩:=h.row i c q g a;have o:c≠b:=λz=>by
   have t:=bYs.mp g;have v:=bYs.mp p;exact e ((cQ6 (h₀:=t.1) (h₁:=v.1) h.nd).mp (by rw[t.2,v.2];exact z))
  exact⟨x,by rw[yI o];exact y,by rw[yI (aXc w m (bY0 qJ))];exact w⟩
def NoC(a:List Nat)(H:Hp)(s:Nat):Prop:=∀b∈a,∀l,H b=some (.lst l)->l[7]? ≠some (.ref s)
def But(a:List Nat)(H c:Hp):Prop:=(∀b o,b∉a->H b=some o->c b=some o)/\(∀b∈a,∃o,c b=some o)/\∀s u,H s=some u->NoC a H s->NoC a c s
theorem xA.dom{H:Hp}{j:Nat}{c:List Nat}{R:Rows}(h:xA H j c R):∀b∈c,∃o,H b=some o:=λb d=>by
 obtain⟨i,a,e⟩:=bY8 d;have f:=bYg (show i<R.length by rw[<- h.len];exact a);obtain⟨k,g,_⟩:=h.row i b _ (by rw[bYg a,e]) f;exact⟨_,g⟩
theorem But.of{c:List Nat}{H f:Hp}(d:∀b∈c,∃o,H b=some o)(k:xC H f):But c H f:=⟨λb o _ e=>k b o e,λb a=>let ⟨o,e⟩:=d b a;⟨o,k _ _ e⟩,λs u e n b a l h=>by
 obtain⟨o,g⟩:=d b a;have:=k _ _ g;rw[h]at this;cases this;exact n b a l g⟩
theorem But.trans{d:List Nat}{H h g:Hp}(a:But d H h)(b:But d h g):But d H g:=⟨λc o n e=>b.1 c o n (a.1 c o n e),b.2.1,λs u e n=>by
 by_cases f:s∈d
 ·obtain⟨o,i⟩:=a.2.1 s f;exact b.2.2 s o i (a.2.2 s u e n)
 ·exact b.2.2 s u (a.1 s u f e) (a.2.2 s u e n)⟩
theorem But.upd{d:List Nat}{H:Hp}{k:Nat}{b:Nat}{l l':List V}(f:∀b∈d,∃o,H b=some o)(h:d[k]? =some b)(hl:H b=some (.lst l))(g:l'[7]? =l[7]?):But d H (upd H b (.lst l')):=
 ⟨λc u n e=>by rw[yI (λz=>n (by rw[z];exact bYz h))];exact e,λc a=>by
  by_cases z:c=b
  ·rw[z];exact⟨_,yB⟩
  ·rw[yI z];exact f c a,λs u e n c a x ex=>by
  by_cases z:c=b
  ·subst z;rw[yB]at ex;cases ex;rw[g];exact n c a l hl
  ·rw[yI z]at ex;exact n c a x ex⟩
abbrev bVv:Stmt:=xF "_law_lost"
def bJj:Sp:=λf H Q _=>∃ (e:Nat)(b:List Nat)(R:Rows)(k:Nat)(r:Row),f= [.ref e,.int (k:Nat)]/\xA H e b R/\R.length<=100/\R[k]? =some r/\
 ∀ (d:Hp)(a:Str)(c:Rows),But b H d->xA d e b c->((Bk.wE R k≠ []/\a="answered"/\c=R)\/(Bk.wE R k= []/\a="void"/\c=Bk.xR R k λr=>{r with link:=none,void:=true}))->Q (.str a) d
section
variable {K:bYj}
theorem bVJ:yN ["_law_rows","_law_number","_law_one"] ["_law_rows","_law_number"] (yH bVv):=scM
theorem bJ7(a:FnG P w K mg base 1 "_law_kids_of" ["_law_rows","_law_number"] aWb)(F:Fun K "_law_lost" "_law_lost" bVv f fd):xE P w K mg base CX0 2 f fd ["_law_rows","_law_number"] bJj:=by
 have z:=bVJ;refine F.ok (k:=1) z (λI A outer s H J Q E u h=>?_);obtain⟨p,y,R,k,r,rfl,d,hR,x,q⟩:=h;refine⟨_,(yC (yU (i:=2) (yL yK (pv 0) (pv 1))) (yC (y7 (yM (vR u.units0) (xJ a u rfl (yA (pv 0) (yA (pv 1) yD))) (y6 yD)) (yF (yP yR)) yS) (yC (vE x3 (qC (pv 2) yE zT)) (yC (vE wQ (qC (pv 2) yE zT)) (yF (yP yR)))))),?_⟩;obtain⟨b,D,v,L,B,G⟩:=d.get x;refine⟨_,rfl,_,rfl,p,_,_,_,rfl,rfl,SqL.of d.lst,yT D,?_⟩;dsimp only[yW];refine⟨_,rfl,_,rfl,p,y,R,k,rfl,d,hR,λo m=>⟨z0,λpn n=>?_⟩⟩;have C:=yG m (.lst ((Bk.wE R k).map λi=>V.int (i:Nat)));have t:=yG n (.lst []);refine⟨o,pn,_,rfl,rfl,SqL.of (t _ _ yB),SqL.of yB,_,rfl,?_⟩;have kA:=C.trans t;generalize upd (upd H o (.lst ((Bk.wE R k).map λi=>V.int (i:Nat)))) pn (.lst [])=H2 at kA ⊢;have c:=d.same kA;cases g:Bk.wE R k with
 |cons j l=>exact onT rfl (q H2 _ R (But.of d.dom kA) c (.inl ⟨by rw[g];simp,rfl,rfl⟩))
 |nil=>refine onF rfl ?_;have e:=kA _ _ B;refine⟨_,rfl,b,_,4,4,rfl,rfl,e,rfl,?_⟩;refine⟨_,rfl,b,_,6,6,rfl,rfl,yB,rfl,?_⟩;rw[jB];exact q _ _ _ ((But.of d.dom kA).trans (But.upd c.dom v e rfl)) (c.upd v x (λr=>{r with link:=none,void:=true}) (kA _ _ G)) (.inr ⟨g,rfl,rfl⟩)
end
end Law
namespace Law
open PySem L2 PyProof.Rows
open Bk (Row Rows)
abbrev aY2:Stmt:=xF "_law_dated"
def aKF(R:Rows)(k:Nat)(r:Row)(d:Int):Prop:=(∃j,r.link=some j/\d<Bk.dt R j)\/∃c∈Bk.wE R k,Bk.dt R c<d
def bQD:Sp:=λg H Q _=>∃ (f:Nat)(b:List Nat)(R:Rows)(k:Nat)(r:Row)(d:Int),g= [.ref f,.int (k:Nat),.int d]/\xA H f b R/\R.length<=100/\R[k]? =some r/\(∀j,r.link=some j->j<R.length)/\
 ∀ (e:Hp)(a:Str)(c:Rows),But b H e->xA e f b c->((aKF R k r d/\a="too early"/\c=R)\/(¬aKF R k r d/\a="dated"/\c=Bk.xR R k λr=>{r with date:=d}))->Q (.str a) e
section
variable {K:bYj}
theorem bZi:yN ["_law_rows","_law_number","_law_date","_law_one","_law_k"] ["_law_rows","_law_number","_law_date"] (yH aY2):=scM
theorem bXJ(a:FnG P w K mg base 1 "_law_kids_of" ["_law_rows","_law_number"] aWb)(F:Fun K "_law_dated" "_law_dated" aY2 f fd):xE P w K mg base CX0 2 f fd ["_law_rows","_law_number","_law_date"] bQD:=by
 have sc:=bZi;refine F.ok (k:=1) sc (λa0 A outer s H vs Q E hr h=>?_);obtain⟨y,rs,R,k,r,d,rfl,n,hR,hk,X,q⟩:=h;refine⟨_,(yC (yU (i:=3) (yL yK (pv 0) (pv 1))) (yC (y7 (PW.pt (vS (yM z8 (yL yK (pv 3) yE) x3) (wR (yM vL (pv 2) (yL yK (yL yK (pv 0) (yL yK (pv 3) yE)) yE))))) (yF (yP yR)) yS) (yC (zR bY5 rfl (xL (xJ a hr rfl (yA (pv 0) (yA (pv 1) yD)))) (y9 (i:=4)) (yF (y7 (yM vL (yL yK (yL yK (pv 0) (pv 4)) yE) (pv 2)) (yF (yP yR)) yS))) (yC (vE (pv 2) (qC (pv 3) yE zT)) (yF (yP yR)))))),?_⟩;obtain⟨b,g1,g2,cp,U,g4⟩:=n.get hk;refine⟨_,rfl,_,rfl,y,_,_,_,rfl,rfl,SqL.of n.lst,yT g1,?_⟩;dsimp only[yW];refine zC (λG S=>G= [some (.ref y),some (.int (k:Nat)),some (.int d),some (.ref b),none]/\S=H/\∀j,r.link=some j->Bk.dt R j<=d) ?jW (λp=>?_);case jW=>
  rintro G S ⟨rfl,rfl,h1⟩;refine⟨_,rfl,_,rfl,y,rs,R,k,rfl,n,hR,λL W=>⟨L,rfl,⟨_,SqL.of yB⟩,?_⟩⟩;have kA:=yG W (.lst ((Bk.wE R k).map λi=>V.int (i:Nat)));have o:upd S L (.lst ((Bk.wE R k).map λi=>V.int (i:Nat))) L=some (.lst ((Bk.wE R k).map λi=>V.int (i:Nat))):=yB;generalize upd S L (.lst ((Bk.wE R k).map λi=>V.int (i:Nat)))=H2 at kA o ⊢;have m:=n.same kA;refine zG (xs:=(Bk.wE R k).map λi=>V.int (i:Nat)) (λt σ N=>∃O,σ= [some (.ref y),some (.int (k:Nat)),some (.int d),some (.ref b),O]/\N=H2/\∀u j,u<t->(Bk.wE R k)[u]? =some j->d<=Bk.dt R j) ?_ ?_ ?_ ?_
  ·exact⟨_,rfl,rfl,λu j I=>absurd I (cQ3 _)⟩
  ·rintro t σ N _ ⟨O,rfl,rfl,_⟩;exact SqL.of o
  ·rintro t x σ N C ⟨O,rfl,rfl,l⟩;rw[bYB]at C;cases M:(Bk.wE R k)[t]? with
   |none=>rw[M]at C;cases C
   |some j=>
    rw[M]at C;cases C;have J:=bYz M;have v:j<R.length:=bYS.mp (cQo.mp J).1;have g:=bYg v;obtain⟨T,Y,j2,cj,Z,j4⟩:=m.get g;dsimp only[yW];refine⟨_,rfl,_,rfl,y,_,_,_,rfl,rfl,SqL.of m.lst,yT Y,T,_,1,_,rfl,rfl,SqL.of Z,rfl,_,rfl,_,_,rfl,rfl,_,rfl,?_⟩;cases B:decide (R[j].date<d)with
    |true=>exact onT rfl (q _ _ R (But.of n.dom kA) m (.inl ⟨.inr ⟨j,J,by rw[Bk.vK g];exact of_decide_eq_true B⟩,rfl,rfl⟩))
    |false=>
     refine onF rfl ⟨_,rfl,rfl,λu i I z=>?_⟩;by_cases e:u=t
     ·subst e;rw[M]at z;cases z;rw[Bk.vK g];have:=of_decide_eq_false B;omega
     ·exact l u i (by omega) z
  ·rintro σ N ⟨O,rfl,rfl,l⟩;rw[bYl]at l;have D:=kA _ _ U;refine⟨_,rfl,_,rfl,b,_,1,1,rfl,rfl,D,rfl,?_⟩;refine q _ _ _ ((But.of n.dom kA).trans (But.upd m.dom g2 D rfl)) (m.upd g2 hk (λr=>{r with date:=d}) (kA _ _ g4)) (.inr ⟨?_,rfl,rfl⟩);rintro(⟨j,e1,e2⟩|⟨c,hc,e2⟩)
   ·have:=h1 j e1;omega
   ·obtain⟨u,I,e⟩:=bY8 hc;have:=l u c I (by rw[bYg I,e]);omega
 refine⟨_,rfl,b,_,4,_,rfl,rfl,SqL.of U,rfl,rfl,_,rfl,?_⟩;cases hl:r.link with
 |none=>exact onF rfl (onF rfl (p _ _ ⟨rfl,rfl,λj hj=>by rw[hl]at hj;cases hj⟩))
 |some j=>
  have v:=X j hl;have g:=bYg v;obtain⟨T,Y,j2,cj,Z,j4⟩:=n.get g;refine onT rfl ⟨_,rfl,_,rfl,_,rfl,b,_,4,_,rfl,rfl,SqL.of U,rfl,?_⟩;rw[hl];refine⟨y,_,_,_,rfl,rfl,SqL.of n.lst,yT Y,T,_,1,_,rfl,rfl,SqL.of Z,rfl,_,_,rfl,rfl,_,rfl,?_⟩;cases B:decide (d<R[j].date)with
  |true=>exact onT rfl (q _ _ R (But.of n.dom (xC.refl _)) n (.inl ⟨.inl ⟨j,hl,by rw[Bk.vK g];exact of_decide_eq_true B⟩,rfl,rfl⟩))
  |false=>exact onF rfl (p _ _ ⟨rfl,rfl,λi z=>by rw[hl]at z;cases z;rw[Bk.vK g];have:=of_decide_eq_false B;omega⟩)
end
end Law
namespace Law
open PySem L2 PyProof.Rows
open Bk (Row Rows xW xN Ans)
abbrev bVu:Stmt:=xF "_law_hung"
def bJi:Sp:=λf H Q _=>∃ (d:Nat)(b:List Nat)(R:Rows)(m o:Int),f= [.ref d,.int m,.int o]/\xA H d b R/\R.length<=60/\Bk.jD R/\
 ∀ (c:Hp)(a:Str)(e:Rows),But b H c->xA c d b e->(∀S,xW R S (.hang m o) (.txt a) e S)->Q (.str a) c
theorem aQI{r:Row}{b:Nat}{l:List Nat}:HO.lst (uO r b)≠HO.lst (l.map λi=>V.int (i:Nat)):=λz=>by
 injection z with z
 cases l with
 |nil=>cases z
 |cons a l=>cases z
theorem aQs(R:Rows)(l:List Nat)(k:Nat)(name:Str):Bk.laid R (l++ [k]) name=Bk.xR (Bk.laid R l name) k λr=>{r with place:=name}:=by
 unfold Bk.laid;rw[cJs];rfl
theorem w8{a b:Str}:decide (V.str a=V.str b)=decide (a=b):=by rw[Bool.eq_iff_iff];simp
theorem aWv{a b:Nat}:decide (V.int (a:Nat)=V.int (b:Nat))=decide (a=b):=by rw[Bool.eq_iff_iff];simp;omega
section
variable {K:bYj}
theorem aVH{K:bYj}{H:Hp}{m l:Nat}{d:List Nat}{R:Rows}{a:List Nat}{name:Str}{t:Nat}{k:Nat}(e:xA H m d (Bk.laid R (a.take t) name))(q:a[t]? =some k)(g:k<R.length)(hl:H l=some (.lst (a.map λi=>V.int (i:Nat)))): ∃ (b c:Nat)(r:Row),(d.map V.ref)[k]? =some (.ref b)/\H b=some (.lst (uO r c))/\xA (upd H b (.lst (uO {r with place:=name} c))) m d (Bk.laid R (a.take (t+1)) name)/\But d H (upd H b (.lst (uO {r with place:=name} c)))/\upd H b (.lst (uO {r with place:=name} c)) l=some (.lst (a.map λi=>V.int (i:Nat)))/\b∈d:=by
 have j:k<(Bk.laid R (a.take t) name).length:=by rw[Bk.wX];exact g
 have n:=bYg j;obtain⟨b,o,h,c,f,p⟩:=e.get n;refine⟨b,c,_,o,f,?_,But.upd e.dom h f rfl,?_,bYz h⟩
 ·rw[show a.take (t+1)=a.take t++ [k]from by rw[cQj,q];rfl,aQs];exact e.upd h n (λr=>{r with place:=name}) p
 ·rw[yI (aXc hl f (bY0 aQI))];exact hl
theorem bVH:yN ["_law_rows","_law_number","_law_goal","_law_one","_law_other","_law_k","_law_row"] ["_law_rows","_law_number","_law_goal"] (yH bVu):=scM
theorem bJ5(y:FnG P w K mg base 2 "_law_good" ["_law_rows","_law_number"] W9)(a:FnG P w K mg base 2 "_law_family" ["_law_rows","_law_number"] aQb)(F:Fun K "_law_hung" "_law_hung" bVu f fd):xE P w K mg base CX0 3 f fd ["_law_rows","_law_number","_law_goal"] bJi:=by
 have sc:=bVH;refine F.ok (k:=2) sc (λb9 A outer s H vs Q E hr h=>?_);obtain⟨I,N,R,m,o,rfl,C,hR,hT,q⟩:=h;refine⟨_,(yC (y7 (PW.pt (jV (vF (xX (xJ y hr rfl (yA (pv 0) (yA (pv 1) yD))))) (vT (vF (xX (xJ y hr rfl (yA (pv 0) (yA (pv 2) yD)))))))) (yF (yP yR)) yS) (yC (yU (i:=3) (yL yK (pv 0) (pv 1))) (yC (yU (i:=4) (yL yK (pv 0) (pv 2))) (yC (y7 (yM z8 (yL yK (pv 3) yE) x3) (yF (yP yR)) yS) (yC (y7 (yM zF (yL yK (xJ a hr rfl (yA (pv 0) (yA (pv 2) yD))) yE) (pv 1)) (yF (yP yR)) yS) (yC (y7 (yM zF (yL yK (pv 3) yE) (yL yK (pv 4) yE)) (yF (yP yR)) yS) (yC (y7 (yM qZ (yL yK (pv 3) yE) (yL yK (pv 4) yE)) (yF (yP yR)) yS) (yC (y7 (yM vL (yL yK (pv 3) yE) (yL yK (pv 4) yE)) (yF (yP yR)) yS) (yC (zR bY5 rfl (xL (xJ a hr rfl (yA (pv 0) (yA (pv 1) yD)))) (y9 (i:=5)) (yC (yU (i:=6) (yL yK (pv 0) (pv 5))) (yF (vE (yL yK (pv 4) yE) (qC (pv 6) yE zT))))) (yC (vE (pv 2) (qC (pv 3) yE zT)) (yF (yP yR)))))))))))),?_⟩;have v:But N H H:=But.of C.dom (xC.refl _);refine⟨_,rfl,_,rfl,I,N,R,m,rfl,C,_,rfl,?_⟩;cases h1:Bk.wI R m with
 |false=>exact onT rfl (onT rfl (q H _ R v C λS=> .hangN (.inl h1)))
 |true=>
 refine onF rfl ⟨_,rfl,_,rfl,I,N,R,o,rfl,C,_,rfl,?_⟩;cases h2:Bk.wI R o with
 |false=>exact onT rfl (q H _ R v C λS=> .hangN (.inr h2))
 |true=>
 obtain⟨i,r,rfl,G,J,hv⟩:=Bk.wJ h1;obtain⟨j,p,rfl,D,M,hw⟩:=Bk.wJ h2;obtain⟨b,g1,g2,cp,g3,g4⟩:=C.get J;obtain⟨Z,f1,f2,c0,f3,f4⟩:=C.get M;refine onF rfl ⟨_,rfl,_,rfl,I,_,_,_,rfl,rfl,SqL.of C.lst,yT g1,?_⟩;dsimp only[yW];refine⟨_,rfl,_,rfl,I,_,_,_,rfl,rfl,SqL.of C.lst,yT f1,?_⟩;dsimp only[yW];refine⟨_,rfl,b,_,4,_,rfl,rfl,SqL.of g3,rfl,rfl,_,rfl,?_⟩;cases n:r.link with
 |some x=>exact onT rfl (q H _ R v C λS=> .hangH J hv M hw (by rw[n];simp))
 |none=>
 obtain⟨rk,ok⟩:=hT;have hT:Bk.jD R:=⟨rk,ok⟩;refine onF rfl ⟨_,rfl,_,rfl,I,N,R.length,Bk.lk R,rk,Bk.dt R,j,rfl,C.rows,ok,hR,D,λH1 l b5 k1 nl hl hp hm=>?_⟩;have et:=Bk.aJh D ⟨rk,ok,hp,hm⟩;subst et;obtain⟨_,_,a8⟩:=Bk.jQ hT D;obtain⟨hd,X⟩:∃hd,(Bk.thr R j).head? =some hd:=⟨_,a8⟩;have e0:(((Bk.thr R j).map λi=>V.int (i:Nat)))[0]? =some (.int (hd:Nat)):=by rw[bYB,<- List.head?_eq_getElem?,X];rfl
 have u:=C.same k1;have W:=k1 _ _ g3;have U:=k1 _ _ f3;have g:But N H H1:=But.of C.dom k1;refine⟨l,_,0,_,rfl,rfl,SqL.of hl,yT e0,_,rfl,rfl,_,rfl,?_⟩;rw[aWv];refine qA (λc=>?_) (λc=>?_)
 ·have e:hd=i:=of_decide_eq_true c;exact q H1 _ R g u λS=> .hangO J hv M hw n (by rw[X,e])
 have B:(Bk.thr R j).head? ≠some i:=λz=>c (decide_eq_true (by rw[X]at z;exact bYC z));refine⟨_,rfl,b,_,0,_,rfl,rfl,SqL.of W,rfl,_,rfl,Z,_,0,_,rfl,rfl,SqL.of U,rfl,rfl,_,rfl,?_⟩;rw[w8];refine qA (λc1=>?_) (λc1=>?_)
 ·exact q H1 _ R g u λS=> .hangW J hv M hw n B (of_decide_eq_true c1)
 have h3:=of_decide_eq_false (Bool.eq_false_iff.mpr c1);refine⟨_,rfl,b,_,2,_,rfl,rfl,SqL.of W,rfl,_,rfl,Z,_,2,_,rfl,rfl,SqL.of U,rfl,rfl,_,rfl,?_⟩;rw[w8];cases a2:decide (r.partner=p.partner)with
 |false=>exact onT rfl (q H1 _ R g u λS=> .hangP J hv M hw n B h3 (of_decide_eq_false a2))
 |true=>
 have h4:=of_decide_eq_true a2;refine onF rfl ⟨_,rfl,b,_,1,_,rfl,rfl,SqL.of W,rfl,_,rfl,Z,_,1,_,rfl,rfl,SqL.of U,rfl,_,_,rfl,rfl,_,rfl,?_⟩;refine qA (λc2=>?_) (λc2=>?_)
 ·exact q H1 _ R g u λS=> .hangE J hv M hw n B h3 h4 (of_decide_eq_true c2)
 have h5:p.date<=r.date:=by have:=of_decide_eq_false (Bool.eq_false_iff.mpr c2);omega
 refine⟨_,rfl,_,rfl,I,N,R.length,Bk.lk R,rk,Bk.dt R,i,rfl,u.rows,ok,hR,G,λH2 l2 b4 k2 b7 a0 a9 T=>⟨l2,rfl,⟨_,SqL.of a0⟩,?_⟩⟩;have a7:=Bk.aJh G ⟨rk,ok,a9,T⟩;subst a7;have b6:i≠j:=λz=>by subst z;have e1:=Bk.jQ hT G;obtain⟨a3,o2,O⟩:=e1;rw[Fm.wA (by rw[Bk.uA J];exact n)]at O;exact B O
 have a4:j∉Bk.thr R i:=λz=>by have e1:=(T j).mp z;rw[Fm.wA (i:=i) (by rw[Bk.uA J];exact n)]at e1;obtain⟨a3,o2,O⟩:=Bk.jQ hT D;rw[Fm.qN o2 ok D,e1.2]at O;exact B O
 refine zG (xs:=(Bk.thr R i).map λi=>V.int (i:Nat)) (λt σ Y=>∃o5 o6:Option V,σ= [some (.ref I),some (.int (i:Nat)),some (.int (j:Nat)),some (.ref b),some (.ref Z),o5,o6]/\xA Y I N (Bk.laid R ((Bk.thr R i).take t) p.place)/\But N H2 Y/\Y l2=some (.lst ((Bk.thr R i).map λi=>V.int (i:Nat)))) ?_ ?_ ?_ ?_
 ·exact⟨none,none,rfl,u.same k2,But.of (u.same k2).dom (xC.refl _),a0⟩
 ·rintro t σ Y ht ⟨o5,o6,rfl,d,k3,L⟩;exact SqL.of L
 ·rintro t x σ Y hx ⟨o5,o6,rfl,d,k3,L⟩;rw[bYB]at hx;cases hc:(Bk.thr R i)[t]? with
  |none=>rw[hc]at hx;cases hx
  |some k=>
   rw[hc]at hx;cases hx;have a5:k<R.length:=((T k).mp (bYz hc)).1;obtain⟨bk,ck,b8,e1,O,e3,e4,e5,e6⟩:=aVH (K:=K) d hc a5 L;have b1:(Bk.laid R ((Bk.thr R i).take t) p.place)[j]? =some p:=by rw[Bk.v9,if_neg (λz=>a4 (List.mem_of_mem_take z))];exact M
   obtain⟨b3,d1,d2,a6,d3,d4⟩:=d.get b1;obtain rfl:Z=b3:=bYC (f2.symm.trans d2);dsimp only[yW];refine⟨_,rfl,_,rfl,I,_,_,_,rfl,rfl,SqL.of d.lst,yT e1,?_⟩;dsimp only[yW];exact⟨_,rfl,Z,_,5,_,rfl,rfl,SqL.of d3,rfl,_,rfl,bk,_,5,5,rfl,rfl,O,rfl,_,_,rfl,e3,k3.trans e4,e5⟩
 ·rintro σ Y ⟨o5,o6,rfl,d,k3,L⟩;rw[bYl,cQe]at d;have b0:i<(Bk.laid R (Bk.thr R i) p.place).length:=by rw[Bk.wX];exact G
  have a1:=bYg b0;obtain⟨b',d1,d2,a6,d3,d4⟩:=d.get a1;obtain rfl:b=b':=bYC (g2.symm.trans d2);refine⟨_,rfl,_,rfl,b,_,4,4,rfl,rfl,d3,rfl,?_⟩;refine q _ _ _ ((g.trans ((But.of u.dom k2).trans k3)).trans (But.upd d.dom d2 d3 rfl)) (d.upd d2 a1 (λr=>{r with link:=some j}) d4) λS=> .hang J hv M hw n B h3 h4 h5
end
end Law
namespace L2
open PySem
def tbV:Option Nat->bYh
 |none=> .none
 |some T=> .ref T
structure Y4(h:Heap)(e:Nat)(cls:bYh)(dx:Option Nat)(tb:Option Nat):Prop where
 obj:∃oe vs,h.get? e=some oe/\oe.cls=cls/\oe.dict=dx/\oe.data= .fields vs/\vs[1]? =some (tbV tb)
 ent:∀T,tb=some T->T≠e/\∃oT ts,h.get? T=some oT/\oT.data= .fields ts/\ts[3]? =some .none
theorem Y4.keeps{h h':Heap}{e:Nat}{cls:bYh}{dx tb:Option Nat}(x:Y4 h e cls dx tb)(k:∀b o,(b=e\/tb=some b)->h.get? b=some o->h'.get? b=some o):Y4 h' e cls dx tb:=by
 obtain⟨c,g,j,q,l,p,f⟩:=x.obj;refine⟨⟨c,g,k e c (.inl rfl) j,q,l,p,f⟩,λT a=>?_⟩;obtain⟨ne,d,m,n,r,i⟩:=x.ent T a;exact⟨ne,d,m,k T d (.inr a) n,r,i⟩
structure bKo(fs:List Nat)(e:Nat)(tb:Option Nat)(h h':Heap):Prop where
 keep:∀b o,b≠e->tb≠some b->b∉fs->h.get? b=some o->h'.get? b=some o
 slot:∀b o,b≠e->tb≠some b->h.get? b=some o->∃sl,h'.get? b=some {o with slots:=sl}
 there:∀b o,h.get? b=some o->∃o',h'.get? b=some o'
theorem aXb(f:Array bYh->Array bYh)(o:Obj):(o.mapFields f).dict=o.dict:=by
 obtain⟨c,d,dt,a⟩:=o;cases dt<;> rfl
section
variable {M:Model}{A:bYZ}{E:bYh->bYk->Prop}{s:bYk}{base:Heap}{env:Env}{outer:List Env}{L e:Nat}{cls:bYh}{dx tb:Option Nat}
theorem aYr{a:Obj}{vs:Array bYh}(hl:s.heap.FunFrames base (env::outer))(f:s.heap.get? e=some a)(d:a.data= .fields vs):e∉(env::outer).filterMap (·.frame):=λc=>by
 obtain⟨_,o,b,g⟩:=hl.mem c;rw[f]at b;cases b;exact g vs d
theorem aZu{head:bYh}{p:Bool}{Q:Unit->bYk->Prop}{i:Obj}{vs:Array bYh}(u:A.frames=some (env::outer))(hl:s.heap.FunFrames base (env::outer))(H:env.frame=some L)
  (z:s.heap.get? e=some i) (n:i.data= .fields vs) (hz:1<vs.size)
  (h:∀t T,Y4 t e i.cls i.dict (some T)->s.heap.objs.size<=T->bKo ((env::outer).filterMap (·.frame)) e none s.heap t->Q () {s with heap:=t}):
  bYp M A (do let fr <- frameOf env;let place <- entryPlaceOf L p;let en <- EntryCells.newEntry head fr .none (cQy L) .none place;setField (.ref e) 1 en) (λ_ K=>bYp M A (cZm (.ref e) none) Q E K) E s:=by
 have r:=aYr hl z n
 refine bYi (wpAny_frameOf_fun u hl H λa d=>?_)
 refine bYi (wpAny_entryPlaceOf λplace J=>?_)
 unfold EntryCells.newEntry newFields
 refine bYi (cXh ?_ (J.sizeOk5 _ _ _ _ _))
 have F:a.get? e=some i:=(d.2.1 e r).trans z
 generalize y:({cls:= .type "traceback",dict:=none,data:= .fields ([head,.ref L,.none,cQy L,.none]++(if place.isEmpty then cXP 6 Value.none else place)).toArray}:Obj)=ob
 have c:ob.data= .fields ([head,.ref L,.none,cQy L,.none]++(if place.isEmpty then cXP 6 Value.none else place)).toArray:=by rw[<- y]
 have j:ob.isFreed=false:=cQG c
 have B:(a.push ob).get? e=some i:=bYm ob F
 have l:a.objs.size≠e:=cXV (bYv F)
 refine cXo B n hz ?_
 have d3:=cQJ n (·.setIfInBounds 1 (Value.ref a.objs.size))
 have v:=cQn (cQx (·.setIfInBounds 1 (Value.ref a.objs.size))) B (cQG d3)
 have C:=(bYV (a.push ob) (cQx (·.setIfInBounds 1 (Value.ref a.objs.size))) (bY0 l)).trans (bYM a j)
 have k:3<([head,.ref L,.none,cQy L,.none]++(if place.isEmpty then cXP 6 Value.none else place)).toArray.size:=by simp
 unfold cZm
 refine bYi (wpAny_field v d3 (x:= .ref a.objs.size) (by simp[hz]) ?_)
 rw[if_pos (show(Value.ref a.objs.size !=Value.none)=true from by simp)]
 refine cXo C c k (h _ a.objs.size ?_ ?_ ?_)
 ·refine⟨⟨_,_,(bYV _ _ l).trans v,Obj.cls_mapFields _ _,aXb _ _,d3,by simp[tbV,hz]⟩,λT G=>?_⟩;cases G;refine⟨l,_,_,cQn _ C (cQG (cQJ c _)),cQJ c _,?_⟩;rw[Array.getElem?_setIfInBounds_self_of_lt k];rfl
 ·exact cXT d.1.symm
 ·have m:∀b o,b≠e->a.get? b=some o->(((a.push ob).update e (cQx (·.setIfInBounds 1 (Value.ref a.objs.size)))).update a.objs.size (cQx (·.setIfInBounds 3 ((none:Option Nat).elim Value.none λf=>cQy f)))).get? b=some o:=λb o g q=>by
   rw[bYV _ _ (cXV (bYv q)),bYV _ _ (bY0 g)];exact bYm _ q
  refine⟨λb o g _ I q=>m b o g ((d.2.1 b I).trans q),λb o g _ q=>?_,λb o q=>?_⟩
  ·obtain⟨D,w⟩:=d.2.2 b o q;exact⟨D,m b _ g w⟩
  ·by_cases g:b=e
   ·subst g;exact⟨_,(bYV _ _ l).trans v⟩
   ·obtain⟨D,w⟩:=d.2.2 b o q;exact⟨_,m b _ g w⟩
theorem aVL{Q:Unit->bYk->Prop}(i:A.frames=some (env::outer))(hl:s.heap.FunFrames base (env::outer))(r:env.frame=some L)(x:Y4 s.heap e cls dx tb) (h:∀g T,Y4 g e cls dx (some T)->s.heap.objs.size<=T->bKo ((env::outer).filterMap (·.frame)) e tb s.heap g->Q () {s with heap:=g}): bYp M A (cZH (.ref e) env) (λ_ J=>bYp M A (cZm (.ref e) none) Q E J) E s:=by
 obtain⟨K,w,n,I,F,t,v⟩:=x.obj;subst I F;have C:=(cXJ.mp v).1;unfold cZH;simp only[r];refine bYi (wpAny_field n t v ?_);cases tb with
 |none=>rw[if_neg (by decide)];exact aZu i hl r n t C h
 |some T=>
  obtain⟨ne,N,G,j,l,B⟩:=x.ent T rfl;rw[if_pos (show(tbV (some T) !=Value.none)=true from by simp[tbV])];refine bYi (wpAny_field j l B ?_);rw[if_neg (show ¬ ((Value.none==cQy L)=true)from by simp[cQy])];refine bYi (cXo j l (cXJ.mp B).1 ?_);have f:∀b,b≠T->(s.heap.update T (cQx (·.setIfInBounds 3 Value.none))).get? b=s.heap.get? b:=λb k=>bYV _ _ (bY0 k);have m:∀b o,s.heap.get? b=some o->(∀w,o.data≠ .fields w)->b≠T:=λb o q u z=>by rw[z,j]at q;cases q;exact u G l
  refine aZu (s:={s with heap:=s.heap.update T (cQx (·.setIfInBounds 3 Value.none)) }) i (hl.of_keeps λb o q u=>⟨o,(f b (m b o q u)).trans q,rfl⟩) r ((f e (bY0 ne)).trans n) t C λg H y D p=>h g H y ?_ ⟨λb o a c d q=>?_,λb o a c q=>?_,λb o q=>?_⟩
  ·rw[<- Heap.size_after_update s.heap T (cQx (·.setIfInBounds 3 Value.none))];exact D
  ·exact p.keep b o a (by simp) d ((f b λz=>c (by rw[z])).trans q)
  ·exact p.slot b o a (by simp) ((f b λz=>c (by rw[z])).trans q)
  ·by_cases k:b=T
   ·subst k;exact p.there _ _ (cQn _ j (cQG (cQJ l _)))
   ·exact p.there b o ((f b k).trans q)
theorem aYh{Q:Unit->bYk->Prop}(a:A.frames=some (env::outer))(hl:s.heap.FunFrames base (env::outer))(c:env.frame=some L)(x:Y4 s.heap e cls dx tb) (h:∀b T,Y4 b e cls dx (some T)->s.heap.objs.size<=T->bKo ((env::outer).filterMap (·.frame)) e tb s.heap b->Q () {s with heap:=b}):bYp M A (leaving env (.ref e)) Q E s:=by
 unfold leaving;exact bYi (aVL a hl c x h)
theorem bXo{T:Nat}{Q:Unit->bYk->Prop}(x:Y4 s.heap e cls dx (some T)) (h:∀d,Y4 d e cls dx (some T)->(∀b o,b≠T->s.heap.get? b=some o->d.get? b=some o)->(∀b o,s.heap.get? b=some o->∃v,d.get? b=some v)->Q () {s with heap:=d}):bYp M A (cZm (.ref e) none) Q E s:=by
 obtain⟨w,n,j,u,r,l,i⟩:=x.obj;obtain⟨ne,B,y,k,f,p⟩:=x.ent T rfl;have m:=(cXJ.mp p).1;have g:=cQn (cQx (·.setIfInBounds 3 Value.none)) k (cQG (cQJ f _));have a:∀b,b≠T->(s.heap.update T (cQx (·.setIfInBounds 3 Value.none))).get? b=s.heap.get? b:=λb c=>bYV _ _ (bY0 c);refine wpAny_setFlight_none j l i k f m (h _ ⟨⟨w,n,(a e (bY0 ne)).trans j,u,r,l,i⟩,λz t=>?_⟩ (λb o c q=>(a b c).trans q) λb o q=>?_)
 ·cases t;exact⟨ne,_,_,g,cQJ f _,by simp[m]⟩
 ·by_cases c:b=T
  ·subst c;exact⟨_,g⟩
  ·exact⟨o,(a b c).trans q⟩
end
end L2
namespace L2
open PySem PySem.W PySem.Calls PyProof.Rows Builtin Builtin.ObjectAttr
def jZ:List bYh:= [.type "Exception",.type "BaseException",.type "object"]
def aJD:List bYh->Bool
 |.ref _::r=>aJD r
 |l=>l==jZ
theorem aKy:∀l:List bYh,aJD l=true->∃a:List Nat,l=a.map Value.ref++jZ:=by
 intro l;induction l with
 |nil=>intro e;cases e
 |cons v r b=>
  intro e;cases v with
  |ref c=>obtain⟨a,h⟩:=b e;exact⟨c::a,by rw[h];rfl⟩
  |_=>exact⟨[],beq_iff_eq.mp e⟩
theorem aQ4(self:bYh):∀rs:List Nat,refuseLoop self "__setattr__" (rs.map Value.ref++jZ)=pure ()
 |[]=>PySem.F.store_Exception.passes self
 |c::rs=>by rw[bY4,cZQ,refuseLoop_ref];exact aQ4 self rs
theorem aWi{T:String}{b:Bool}(h:jZ.contains (.type T)=b):∀rs:List Nat,(rs.map Value.ref++jZ).contains (.type T)=b
 |[]=>h
 |c::rs=>by rw[bY4,cZQ,cXE,aWi h rs];rfl
def bXd(K:Frag)(C:Nat):Bool:=match K.lookup C with
 |some ⟨_,_,.cls cd,sl⟩=> !cd.hasDel && cd.hasDict && (sl.toList[4]?).join==some (.builtin "Exception.__new__") && aJD cd.mro && cd.mro.contains (.ref C) &&
   specialIn K (.ref C) "__call__"==some (some (.builtin "type.__call__")) && instIn K (.ref C) (.type "type")==some true && typeIn K (.ref C)==some (.type "type") &&
   findIn K (.ref C) "__setattr__"==some (some (.builtin "object.__setattr__")) && findIn K (.ref C) "__getattribute__"==some (some (.builtin "BaseException.__getattribute__")) &&
   findIn K (.ref C) "__getattr__"==some none && findIn K (.ref C) "words"==some none
 |_=>false
structure v7(K:Frag)(C:Nat):Prop where
 cls:∃oc od cd sl,K.lookup C=some ⟨oc,od,.cls cd,sl⟩/\cd.hasDel=false/\cd.hasDict=true/\(sl.toList[4]?).join=some (.builtin "Exception.__new__")/\(∃rs:List Nat,cd.mro=rs.map Value.ref++jZ)/\cd.mro.contains (.ref C)=true
 call:specialIn K (.ref C) "__call__"=some (some (.builtin "type.__call__"))
 typ:instIn K (.ref C) (.type "type")=some true
 ty:typeIn K (.ref C)=some (.type "type")
 sa:findIn K (.ref C) "__setattr__"=some (some (.builtin "object.__setattr__"))
 ga:findIn K (.ref C) "__getattribute__"=some (some (.builtin "BaseException.__getattribute__"))
 gh:findIn K (.ref C) "__getattr__"=some none
 wd:findIn K (.ref C) "words"=some none
theorem aKX{K:Frag}{C:Nat}(e:bXd K C=true):v7 K C:=by
 unfold bXd at e;split at e
 ·rename_i q h n m f;simp only[Bool.and_eq_true,Bool.not_eq_true',beq_iff_eq]at e;obtain⟨⟨⟨⟨⟨⟨⟨⟨⟨⟨⟨r,g⟩,o⟩,j⟩,i⟩,p⟩,l⟩,k⟩,d⟩,b⟩,a⟩,c⟩:=e;exact⟨⟨q,h,n,m,f,r,g,o,aKy _ j,i⟩,p,l,k,d,b,a,c⟩
 ·cases e
abbrev wM(C t:Nat)(dx:Option Nat):Obj:={cls:= .ref C,dict:=dx,data:= .fields #[.ref t,.none,.none,.none,.bool false,.none] }
abbrev W6:Obj:={cls:= .type "tuple",data:= .seq #[] }
section
variable {M:Model}{K:Frag}{C:Nat}{h:Heap}
theorem v7.sub(X:K.In h)(c:v7 K C){T:String}{b:Bool}(a:jZ.contains (.type T)=b):Looks M h (cZk (.ref C) (.type T)) b:=by
 obtain⟨n,i,d,l,g,p,o,m,⟨j,f⟩,k⟩:=c.cls;have e:clsIn K C=some d:=by unfold clsIn;rw[g]
 refine looks_mroIn X ?_;unfold mroIn;rw[e,Option.bind_some,f,if_neg (by simp[jZ]),aWi a]
theorem v7.self(X:K.In h)(c:v7 K C):Looks M h (cZk (.ref C) (.ref C)) true:=by
 obtain⟨l,g,a,j,f,n,m,k,⟨i,e⟩,b⟩:=c.cls;have d:clsIn K C=some a:=by unfold clsIn;rw[f]
 refine looks_mroIn X ?_;unfold mroIn;rw[d,Option.bind_some,if_neg (by rw[e];simp[jZ]),b]
theorem v7.made(X:K.In h)(c:v7 K C):Looks M h (Bind.madeBy (.ref C)) (some "Exception.__new__"):=by
 obtain⟨p,m,a,o,b,r,j,g,⟨i,n⟩,d⟩:=c.cls;have e:clsIn K C=some a:=by unfold clsIn;rw[b]
 have f:Looks M h (mroOf (.ref C)) a.mro:=(looks_clsIn X e).andThen .now;obtain⟨v,l,hl⟩:∃v l,a.mro=v::l:=by
  cases q:a.mro with
  |nil=>rw[q]at d;cases d
  |cons v l=>exact⟨v,l,rfl⟩
 intro A Q E s k q;unfold Bind.madeBy;refine bYi (f A _ E s k ?_);rw[hl,cZZ];refine bYi (bYi (bYi (bYi (wpAny_loadPart (k _ _ (X _ _ b)) (bYn ?_)))));dsimp only;rw[<- cQQ,g];exact bYn (bYn (bYn q))
theorem v7.base(X:K.In h)(c:v7 K C):Looks M h (Bind.staticBase (.ref C)) (.ref C):=by
 have made:=c.made (M:=M) X;obtain⟨p,j,a,n,d,r,i,o,⟨g,m⟩,b⟩:=c.cls;have e:clsIn K C=some a:=by unfold clsIn;rw[d]
 have f:Looks M h (mroOf (.ref C)) a.mro:=(looks_clsIn X e).andThen .now;obtain⟨v,l,hl⟩:∃v l,a.mro=v::l:=by
  cases q:a.mro with
  |nil=>rw[q]at b;cases b
  |cons v l=>exact⟨v,l,rfl⟩
 intro A Q E s k q;unfold Bind.staticBase;refine bYi (f A _ E s k ?_);rw[hl,cZZ];exact bYi (bYi (bYi (made A _ E s k (bYn (bYn (bYn q))))))
theorem v7.here(X:K.In h)(c:v7 K C):Looks M h (Bind.madeHere "BaseException.__new__" (.ref C)) ():=
 (c.base X).andThen ((c.made X).andThen (Looks.of_pure (by simp only[Option.map_some,cJA.canon,bne_self_eq_false,Bool.false_eq_true,if_false])))
end
section
variable {prog:bYD}{w:bYL}{A:bYZ}{R:Result->bYk->Prop}{K:Frag}{C f:Nat}{h:Heap}{g:Array GenState}{d:Drawn}{t:Nat}{os:OsState}
theorem bJG(X:K.In h)(c:v7 K C)(j:R (.ok (.ret (.ref (h.objs.size+1)))) ⟨(h.push W6).push (wM C h.objs.size none),g,d,t,os⟩): cXA (bYr prog w) A (.call (.builtin "Exception.__new__") ⟨[.ref C],[]⟩) R ⟨h,g,d,t,os⟩:=by
 have F:=cJA;have made:=c.made (M:=bYr prog w) X;have e:=c.base (M:=bYr prog w) X;have here:=c.here (M:=bYr prog w) X;have v:Looks (bYr prog w) h (cZk (.ref C) (.type "Exception")) true:=c.sub X dk;have y:Looks (bYr prog w) h (cZk (.ref C) (.type "AttributeError")) false:=c.sub X dk;have x:Looks (bYr prog w) h (cZk (.ref C) (.type "NameError")) false:=c.sub X dk;obtain⟨n,i,m,l,f,o,r,z,⟨q,u⟩,s⟩:=c.cls;have k:h.get? C=some ⟨n,i,.cls m,l⟩:=X _ _ f;refine codeAny_call_builtin_code (cJj _ F.quiet) ?_;simp only[checkBuiltinCall,F.newKind,F.newSplit,F.newRow];have args:Bind.checkArgs "Exception.__new__" ⟨.any,"Exception","Exception",.cls,[⟨"args",.varPos,false⟩,⟨"kwargs",.varKw,false⟩]⟩ ⟨[.ref C],[]⟩=pure ():=by kernel_rfl
 rw[args];repeat (first|simp only[bne_self_eq_false,Bool.false_eq_true,if_false]|lk)
 have b:=F.ends;refine codeAny_builtinAt F.entry ?_;unfold cQ4.«BaseException.__new__»;refine PySem.wpAt_bind ?_;show PySem.wpAt _ _ _ (stack >>=_) _ _ _;refine PySem.wpAt_bind (PySem.wpAt_stack λp a=>PySem.wpAt_of_wpAny ?_);wp_walk;refine PySem.wpAt_of_wpAny ?_;rw[F.owner];repeat (first|simp only[Bool.not_true,Bool.false_eq_true,if_false]|lk)
 refine nd_load (bYm _ (bYm _ k)) (bYn ?_);dsimp only;refine bYn ?_;rw[o];refine bYn (bYn ?_);show R _ _;rw[cQR];exact j
theorem bXe(X:K.In h)(c:v7 K C)(s:findIn K (.ref C) "__init__"=some (some (.ref f)))(x:typeIn K (.ref f)=some (.type "function")) (u:cXA (bYr prog w) (A.under (.builtin "type.__call__" ⟨[.ref C],[]⟩)) (.call (.ref f) ⟨[.ref (h.objs.size+1)],[]⟩) (InitBack (h.objs.size+1) R) ⟨(h.push W6).push (wM C h.objs.size none),g,d,t,os⟩): cXA (bYr prog w) A (.call (.ref C) ⟨[],[]⟩) R ⟨h,g,d,t,os⟩:=by
 obtain⟨D,q,j,B,n,P,G,N,⟨E,y⟩,I⟩:=c.cls;have l:h.get? C=some ⟨D,q,.cls j,B⟩:=X _ _ n;have call:=looks_specialIn (M:=bYr prog w) X c.call;have i:=looks_instIn (M:=bYr prog w) X c.typ;have made:=c.made (M:=bYr prog w) X;have p:j.mro.isEmpty=false:=by rw[y];simp[jZ]
 refine codeAny_of_tree ?_;show bYp _ _ (callAny (.ref C) _) _ _ _;refine nd_load l ?_;show bYp _ _ (callAny.viaDunder (.ref C) _) _ _ _;unfold callAny.viaDunder;refine bYi (call.at ?_);dsimp only;rw[tc_bind];refine bYi (bYn (bYi (bYn ?_)));refine bYn (a:=Fin.again (.call (.builtin "type.__call__") ⟨[.ref C],[]⟩)) (And.intro rfl ?_);refine codeAny_call_builtin_at (cJj _ dk) entry_typeCall (check_slot tc_kind tc_split i (tc_args _ _ _) ?_);unfold cQ4.«type.__call__»;have J:Looks (bYr prog w) h (mroOf (.ref C)) j.mro:=((Looks.ld (part:=none) l).andThen .now).andThen .now;repeat (first|simp only[p,Bool.false_eq_true,if_false]|with_reducible refine cZs ?_|lk)
 refine bJG X c ?_;have k:∀b o,h.get? b=some o->((h.push W6).push (wM C h.objs.size none)).get? b=some o:=λb o e=>bYm _ (bYm _ e);have m:((h.push W6).push (wM C h.objs.size none)).get? (h.objs.size+1)=some (wM C h.objs.size none):=by heap_get
 have F:Looks (bYr prog w) ((h.push W6).push (wM C h.objs.size none)) (typeOf (.ref (h.objs.size+1))) (.ref C):=(Looks.ld m).andThen .now;have L:=(c.self (M:=bYr prog w) X).keeps k;have O:=(looks_findIn (M:=bYr prog w) X s).keeps k;have b1:=(bind_fn (M:=bYr prog w) X (.ref (h.objs.size+1)) x).keeps k;unfold cZ5 callSpecial? specialOf;repeat (first|with_reducible refine cZs ?_|lk)
 refine cXa u λr H z=>?_;rcases r with e|(v|_|_|_)<;> first|exact z|exact z.elim|skip
 obtain⟨rfl,z⟩:=z;exact bYn (bYn z)
end
section
variable {prog:bYD}{w:bYL}{A:bYZ}{E:bYh->bYk->Prop}{K:Frag}{C e tp:Nat}{s:bYk}{v:bYh}
theorem bJH{Q:Unit->bYk->Prop}(X:K.In s.heap)(c:v7 K C)(k:s.heap.get? e=some (wM C tp none)) (H:∀d tk,d.get? e=some (wM C tp (some s.heap.objs.size))->d.Ns1 s.heap.objs.size (λy=>if y="words" then some v else none)->(∀b o,b≠e->s.heap.get? b=some o->d.get? b=some o)->Q () {s with heap:=d,toks:=tk}): bYp (bYr prog w) A (setAttr (.ref e) "words" v) Q E s:=by
 have I:InstAt s.heap e (wM C tp none) C none:=⟨k,rfl,rfl,cQF⟩;refine set_plain X I c.sa ?_;have g:=PySem.F.store_object;obtain⟨W,S,z,U,B,Y,G,V,⟨P,J⟩,T⟩:=c.cls;have x:clsIn K C=some z:=by unfold clsIn;rw[B]
 have sub:Looks (bYr prog w) s.heap (cZ5 (.ref e) (.type "object")) true:=I.type.andThen (c.sub X dk);have O:Looks (bYr prog w) s.heap (mroOf (.ref C)) z.mro:=(looks_clsIn X x).andThen .now;refine cZ4 g.slot.plain g.entry (@check_slot (bYr prog w) _ _ {s with toks:=s.toks+1} "object.__setattr__" "object" "__setattr__" (.ref e) [.str "words" s.toks,v] [] _ g.kind g.split sub (g.args (.ref e) (.str "words" s.toks) v) ?_);rw[osa_eq,refuse_eq];have h:∀ (b:Nat)(o:Obj),s.heap.get? b=some o->s.heap.get? b=some o:=λ_ _ e=>e;refine bYi (bYi (I.type _ _ _ _ h (bYi (O _ _ _ _ h ?_))));rw[J,aQ4];refine bYn (bYi (I.type _ _ _ _ h (bYi ((looks_findIn X c.wd) _ _ _ _ h (bYi (bYn ?_))))));have j:e≠s.heap.objs.size:=bYI (bYv k);have f:(s.heap.push emptyDict).get? e=some (wM C tp none):=bYm _ k;refine bYi (bYn (bYi (bYi (wpAny_loadPart k (bYi ((looks_clsIn X x) _ _ _ _ h ?_))))));rw[G];refine bYi (wpAny_alloc ?_);refine bYi (wpAny_update f ?_);refine bYn (a:=some s.heap.objs.size) ?_;show bYp _ _ (storeInDict s.heap.objs.size (.str "words" s.toks) "words" v) _ _ _;have r:((s.heap.push emptyDict).update e λo=>{o with dict:=some s.heap.objs.size}).get? s.heap.objs.size=some emptyDict:=(cZ9 _ _ _ _ j.symm).trans (Heap.get?_push_at rfl rfl);have n:((s.heap.push emptyDict).update e λo=>{o with dict:=some s.heap.objs.size}).Ns s.heap.objs.size (λ_=>none):=⟨_, #[],_,r,rfl,λe D=>absurd D (by simp),λ_=>rfl⟩;have m:=cQn (λo=>{o with dict:=some s.heap.objs.size}) f rfl;unfold storeInDict newKeyGuard;refine bYi (bYn (bYi (wpAny_nsSet1 (Heap.Ns1.of_empty n) λd i u=>?_)));obtain⟨R,L,N,t,p,l⟩:=i.count (Within.cons "words" v Within.nil);refine bYi (wpAny_lookBehind t (by rw[p];exact pastItsLine_dict (bYT l (by rw[cQg,cXs,bYQ];omega))) ?_);refine bYn ?_;refine H d _ ((u.2 e j).trans m) i λb o M q=>?_;exact(u.2 b (bYI (bYv q))).trans ((cZ9 _ _ _ _ M).trans (bYm _ q))
theorem bga:Slot "Exception" "__getattribute__" "BaseException.__getattribute__":=
 .of (owner:="BaseException") (n:="__getattribute__") (by rw[typeLookup_type,cZV];kernel_rfl) dk dk dk (by first|exact .inl dk|exact .inr dk) (by rw[isSubtype_type];kernel_rfl)
theorem bJF{a:Bool}{Q:bYh->bYk->Prop}{b d:Obj}{dx:Nat}(X:K.In s.heap)(c:v7 K C)(j:s.heap.get? e=some b)(q:b.cls= .ref C)(i:b.dict=some dx)(r:notCls b=true)(l:s.heap.get? dx=some d) (hl:lookIn "words" d=some (some v)) (x:handedIn v=true) (n:Q v {s with toks:=s.toks+1}):bYp (bYr prog w) A (getAttr (.ref e) "words" a) Q E s:=by
 have I:InstAt s.heap e b C (some d):=⟨j,q,r,by rw[i];exact l⟩;obtain⟨H,k,u,D,g,J,m,G,⟨y,B⟩,z⟩:=c.cls;have f:clsIn K C=some u:=by unfold clsIn;rw[g]
 have o:findObj K C (some d) "words"=some (.value v):=by unfold findObj;rw[f,Option.bind_some,c.wd];simp only[Option.bind_some];unfold W.ownOf;rw[m,if_pos rfl];dsimp only;rw[hl];rfl
 have h:=I.type (M:=bYr prog w);have p:=looks_find (M:=bYr prog w) X I o;have sub:Looks (bYr prog w) s.heap (cZ5 (.ref e) (.type "BaseException")) true:=I.type.andThen (c.sub X dk);refine bYi (wpAny_mkText (cQB (bYi (h _ _ _ _ (λ_ _ e=>e) (bYi (looks_findIn X c.ga _ _ _ _ (λ_ _ e=>e) ?_))))));dsimp only;rw[show(onTheHeap (Value.ref C) && Value.builtin "BaseException.__getattribute__"==Value.builtin "object.__getattribute__")=false from by rw[show(Value.builtin "BaseException.__getattribute__"==Value.builtin "object.__getattribute__")=false from dk,Bool.and_false],if_neg (by decide)];have t:Looks (bYr prog w) s.heap (hookBefore (.ref C)) none:=looks_hook (mc:= .ref C) X (by rw[if_pos (show onTheHeap (Value.ref C)=true from rfl)];exact c.gh);refine bYi (t _ _ _ _ (λ_ _ e=>e) (bYi (cZx (cQB ?_))));unfold callGetattribute;rw[show(a && onTheHeap (Value.builtin "BaseException.__getattribute__"))=false from Bool.and_false _,if_neg (by decide)];unfold boundAndCalled;rw[bga.bind];refine bYi (bYn ?_);show bYp _ _ (call (.builtin "BaseException.__getattribute__") [.ref e,.str "words" s.toks]) _ _ _;refine cZs (cZ4 bga.plain F.entry_bexc_ga ?_);refine @check_slot (bYr prog w) _ _ {s with toks:=s.toks+1} "BaseException.__getattribute__" "BaseException" "__getattribute__" (.ref e) [.str "words" s.toks] [] _ dk dk sub (F.args_bexc_ga (.ref e) (.str "words" s.toks)) ?_;unfold cQ4.«object.__getattribute__»;refine bYi (bYn (bYi (bYn ?_)));refine bYi (h _ _ _ _ (λ_ _ e=>e) (bYi (p _ _ _ _ (λ_ _ e=>e) (bYn ?_))));show bYp _ _ (handedOut v) _ _ _;rw[handedOut_of x];exact bYn n
theorem aKY{M:Model}{Q:Bool->bYk->Prop}{h:Obj}{Rf:Nat}(X:K.In s.heap)(c:v7 K C)(b:v7 K Rf)(l:mroIn K C (.ref Rf)=some true)(f:s.heap.get? e=some h)(m:h.cls= .ref C)(k:Q true s): bYp M A (excMatches (.ref e) (.ref Rf)) Q E s:=by
 obtain⟨a,g,d,t,os⟩:=s;dsimp only at X f;have r:Looks M a (typeOf (.ref e)) (.ref C):=m ▸ (Looks.ld f).andThen .now;have w:Looks M a (cZk (.ref C) (.ref Rf)) true:=looks_mroIn X l;have y:Looks M a (cZ5 (.ref Rf) (.type "tuple")) false:=(looks_typeIn X b.ty).andThen (Looks.of_pure tc_notTuple);have D:Looks M a (cZk (.ref Rf) (.type "BaseException")) true:=b.sub X dk;have u:Looks M a (typeOf (.ref Rf)) (.type "type"):=looks_typeIn X b.ty;have F:Looks M a (cZk (.type "type") (.type "type")) true:=Looks.of_pure tc_sub;obtain⟨p,j,o,n,i,H,v,G,⟨q,z⟩,x⟩:=b.cls;have B:a.get? Rf=some ⟨p,j,.cls o,n⟩:=X _ _ i;unfold excMatches isExcClass;repeat (first|simp only[Bool.not_true,Bool.false_eq_true,if_false,if_true]|lk)
 exact k
theorem aKZ{M:Model}{env:Env}{x:Sem bYh}{Q:Flow->bYk->Prop}(l:A.handled=none) (h:bYp M A x (λv a=>∃e tp i C,v= .ref e/\K.In a.heap/\v7 K C/\a.heap.get? e=some (wM C tp i)/\E (.ref e) a) E s):bYp M A (raiseStmt env (some x) none) Q E s:=by
 unfold raiseStmt;refine bYi (cQl h (λv a k=>?_) λ_ _ x=>x);obtain⟨e,tp,i,C,rfl,X,c,f,j⟩:=k;obtain⟨b,g,d,tk,os⟩:=a;dsimp only at X f;have m:Looks M b (typeOf (.ref e)) (.ref C):=(Looks.ld f).andThen .now;have n:Looks M b (cZk (.ref C) (.type "BaseException")) true:=c.sub X dk;have o:Looks M b (typeOf (.ref C)) (.type "type"):=looks_typeIn X c.ty;unfold excFromValue isExcClass cZ5;repeat (first|simp only[Bool.false_eq_true,if_false,if_true]|lk)
 show bYp M A handled _ _ _;refine wpAny_handled ?_;rw[l];exact wpAny_throw j
end
end L2
namespace L2
open PySem PySem.Spec PyProof.Rows
def CXR(P:bYD)(w:bYL):CXT:=λouter H s E d a=>∃ (e C c tb:Nat)(b:Hp),d= .ref e/\a.os=s.os/\AllBare a.gens/\Un (frs outer) [] H b s.heap a.heap/\HOk P w b a.heap/\
 Y4 a.heap e (.ref C) (some c) (some tb)/\b e=none/\b tb=none/\s.heap.objs.size<=e/\s.heap.objs.size<=tb/\E (.ref C) (some c) b
section
variable {P:bYD}{w:bYL}{K:bYj}{mg:Str->Option bYh}{base:Heap}{N:List Str}{qual:Str}{scope:cXx}{f:Nat}{cd:bYh}{A:bYZ}{outer:List Env}{s₀:bYk}{H₀:Hp}{E:XK}
 {pins:List (Nat×Obj)} {σ:St} {H:Hp} {s:bYk}
theorem bKc{e C dx:Nat}{tb:Option Nat}(I:Inv (aXC (CXR P w) P w K mg base N qual scope f cd A outer s₀ H₀ E) pins σ H s)(x:Y4 s.heap e (.ref C) (some dx) tb)(m:H e=none)(B:s₀.heap.objs.size<=e) (t:∀T,tb=some T->H T=none/\s₀.heap.objs.size<=T) (q:E (.ref C) (some dx) H):(aXC (CXR P w) P w K mg base N qual scope f cd A outer s₀ H₀ E).xe (.ref e) s:=by
 have ne:∀b o,s₀.heap.get? b=some o->b≠e:=λb o a=>bYI (bYK (bYv a) B);have D:∀b o,s₀.heap.get? b=some o->tb≠some b:=λb o a z=>absurd (bYK (bYv a) (t b z).2) (cQs _);have F:∀b,b∈(cXf qual scope s₀.heap.objs.size f cd::outer).filterMap (·.frame)->b=s₀.heap.objs.size\/b∈frs outer:=λb d=>by rw[cX0,show(cXf qual scope s₀.heap.objs.size f cd).frame=some s₀.heap.objs.size from rfl]at d;exact bYq.mp d
 have i:∀b o,s₀.heap.get? b=some o->b∉frs outer->b∉(cXf qual scope s₀.heap.objs.size f cd::outer).filterMap (·.frame):=λb o a d z=>
  (F b z).elim (bYI (bYv a)) d
 show bYp (bYr P w) (A.deeper (cXf qual scope s₀.heap.objs.size f cd)) (leaving (cXf qual scope s₀.heap.objs.size f cd) (.ref e)) _ _ s;refine aYh (base:=base) (outer:=outer) (L:=s₀.heap.objs.size) I.ok.frames I.stack rfl x λO T y l p=>?_;refine⟨e,C,dx,T,H,rfl,I.os,I.bare,?_,?_,y,m,I.hok.fresh l,B,bYT I.sz l,q⟩
 ·refine⟨λb o a n d g=>?_,λb o a n d g=>?_,λb o a n g=>I.base.free b o a n g,λb o a g=>?_,I.base.tups,I.base.frzs,I.base.tbls⟩
  ·exact p.keep b o (ne b o a) (D b o a) (i b o a d) (I.base.keep b o a n d g)
  ·obtain⟨Q,k⟩:=I.base.slot b o a n d g;obtain⟨j,G⟩:=p.slot b _ (ne b o a) (D b o a) k;exact⟨j,G⟩
  ·obtain⟨M,k⟩:=I.base.there b o a g;exact p.there b M k
 ·refine λb u a=>(I.hok b u a).stay (λc v J r=>?_) (λ_ r=>r) λ_ _ r=>r;have h:H c≠none:=by
   rcases J with z|z
   ·rw[z,a];simp
   ·rw[z];simp
  refine p.keep c v (λz=>h (by rw[z];exact m)) (λz=>h (t c z).1) (λz=>h (I.stkFree c z)) r
theorem zX:vP (CXR P w) (aXC (CXR P w) P w K mg base N qual scope f cd A outer s₀ H₀ E) E:=by
 intro a σ H s p k I h;obtain⟨e,C,q,tb,n,rfl,o,bare,un,g,x,j,m,d,c,i⟩:=h;have l:Inv (aXC (CXR P w) P w K mg base N qual scope f cd A outer s₀ H₀ E) a σ n k:=I.call' o un g bare λb z=>absurd z (by simp);exact bKc l x j (bYT I.sz d) (λT z=>by cases z;exact⟨m,bYT I.sz c⟩) i
theorem Fun.okX{x:Str}{st:Stmt}{e:cXg}{ps:List Str}{k:Nat}{sp:Sp}(F:Fun K x qual st f e)(S:yN N ps (yH st)) (b:∀ (a:bYh)(A:bYZ)(outer:List Env)(s:bYk)(H:Hp)(vs:List V)(Q:VK)(E:XK),vW k (A.deeper (cXf qual (yH st) s.heap.objs.size f a))->sp vs H Q E-> ∃t,PSs (aXC (CXR P w) P w K mg base N qual (yH st) f a A outer s H E) (zI st) t/\t {nx:=λ_ l=>Q .non l,rt:=Q} (start N vs) H) (len:∀vs H Q E,sp vs H Q E->vs.length=ps.length:=by intro _ _ _ _ h;repeat (first|(obtain⟨rfl,_⟩:=h;exact rfl)|(obtain⟨_,h⟩:=h))):xE P w K mg base (CXR P w) (k+1) f e ps sp:=by
 obtain⟨p,m,kV,i,o,n,a,ct,g,rfl,lk,d⟩:=F.ex;exact bJJ lk d S len λA outer s H vs Q E j c=>b a A outer s H vs Q E j c
end
structure FnX(P:bYD)(w:bYL)(K:bYj)(mg:Str->Option bYh)(base:Heap)(k:Nat)(x:Str)(ps:List Str)(sp:Sp):Prop where
 ex:∃f fd,xE P w K mg base (CXR P w) k f fd ps sp/\v6 K fd ps []/\cQd K (.ref f)=true/\mg x=some (.ref f)
theorem FnX.mono{P:bYD}{w:bYL}{K:bYj}{mg:Str->Option bYh}{base:Heap}{j k:Nat}{x:Str}{ps:List Str}{sp:Sp}(G:FnX P w K mg base j x ps sp)(h:j<=k):FnX P w K mg base k x ps sp:=
 let ⟨f,fd,a,b⟩:=G.ex;⟨f,fd,a.mono h,b⟩
structure MG(P:bYD)(w:bYL)(K:bYj)(mg:Str->Option bYh)(base:Heap)(CX:CXT)(k:Nat)(C:Nat)(m:Str)(ps:List Str)(sp:Sp):Prop where
 ex:∃f fd,xE P w K mg base CX k f fd ps sp/\v6 K fd ps []/\bV6 K C m f
 cl:Cls K C
theorem MG.mono{P:bYD}{w:bYL}{K:bYj}{mg:Str->Option bYh}{base:Heap}{CX:CXT}{j k:Nat}{C:Nat}{m:Str}{ps:List Str}{sp:Sp}(G:MG P w K mg base CX j C m ps sp)(h:j<=k):MG P w K mg base CX k C m ps sp:=
 let ⟨f,fd,a,b⟩:=G.ex;⟨⟨f,fd,a.mono h,b⟩,G.cl⟩
structure MkG(P:bYD)(w:bYL)(K:bYj)(mg:Str->Option bYh)(base:Heap)(k:Nat)(x:Str)(C:Nat)(ps:List Str)(sp:Sp):Prop where
 ex:∃f fd,xE P w K mg base CX0 k f fd ps sp/\v6 K fd ps []/\Mk K C f/\mg x=some (.ref C)
theorem MkG.mono{P:bYD}{w:bYL}{K:bYj}{mg:Str->Option bYh}{base:Heap}{j k:Nat}{x:Str}{C:Nat}{ps:List Str}{sp:Sp}(G:MkG P w K mg base j x C ps sp)(h:j<=k):MkG P w K mg base k x C ps sp:=
 let ⟨f,fd,a,b⟩:=G.ex;⟨f,fd,a.mono h,b⟩
section
variable {X:Cx}{k:Nat}{x m:Str}{C:Nat}{ps:List Str}{sp:Sp}{e o:Expr}{es:List Expr}{ta:TE}{t:TA}{p pos apos:Pos}{E:XK}{CX:CXT}
theorem aQE{P:bYD}{w:bYL}{K:bYj}{mg:Str->Option bYh}{base:Heap}{N:List Str}{qual:Str}{scope:cXx}{f:Nat}{cd:bYh}{A:bYZ}{outer:List Env}{s₀:bYk}{H₀:Hp}
  (G:FnX P w K mg base k x ps sp) (j:vW k (A.deeper (cXf qual scope s₀.heap.objs.size f cd))) (m:Gl (aXC (CXR P w) P w K mg base N qual scope f cd A outer s₀ H₀ E) x) (h:PA (aXC (CXR P w) P w K mg base N qual scope f cd A outer s₀ H₀ E) (e::es) t)
  (a:(x==("__debug__":Str))=false:=by decide) (i:bYX (e::es) (cXf qual scope s₀.heap.objs.size f cd)=(false,eval e (cXf qual scope s₀.heap.objs.size f cd))::bYX es (cXf qual scope s₀.heap.objs.size f cd):=by rfl)
  (c:(cQV pos (bYX es (cXf qual scope s₀.heap.objs.size f cd))).any (·.1)=false:=by rfl):
  PE (aXC (CXR P w) P w K mg base N qual scope f cd A outer s₀ H₀ E) (.Call (.Name x p) (e::es) [] pos) (bZC sp [] E t):=by
 obtain⟨g,n,F,b,d,l⟩:=G.ex
 exact aYP F j m l d b .nil zX h a i c
theorem v1{pl:Sem Bool}(G:MG X.prog X.w X.K X.mg X.base CX k C m ps sp)(d:vW k X.A)(i:vP CX X E)(n:PE X o ta)(l:PA X (e::es) t)
  (a:bYX (e::es) X.env=(false,eval e X.env)::bYX es X.env:=by rfl) (c:(cQV pos (bYX es X.env)).any (·.1)=false:=by rfl)
  (j:eval (.Call (.Attribute o m apos) (e::es) [] pos) X.env=(do
   let ov <- eval o X.env
   standAt apos.atName
   let (f,first) <- cZz [ov] (cZG ov m pl)
   callWith pos f first (cQV pos (bYX (e::es) X.env)) (cZr pos (cXD [] X.env))):=by rfl):
  PE X (.Call (.Attribute o m apos) (e::es) [] pos) (bZE C m sp [] E ta t):=by
 obtain⟨g,p,F,b,h⟩:=G.ex
 exact bVj n G.cl h F d b .nil i l a c j
theorem bX2{pl:Sem Bool}(G:MG X.prog X.w X.K X.mg X.base CX k C m ps sp)(a:vW k X.A)(d:vP CX X E)(h:PE X o ta)
  (e:eval (.Call (.Attribute o m apos) [] [] pos) X.env=(do
   let ov <- eval o X.env
   standAt apos.atName
   let (f,first) <- cZz [ov] (cZG ov m pl)
   callWith pos f first (cQV pos (bYX [] X.env)) (cZr pos (cXD [] X.env))):=by rfl):
  PE X (.Call (.Attribute o m apos) [] [] pos) (bZE C m sp [] E ta bZF):=by
 obtain⟨g,i,F,b,c⟩:=G.ex
 exact bX4 h G.cl c F a b .nil d e
theorem bKA(G:MkG X.prog X.w X.K X.mg X.base k x C ps sp)(d:vW (k+1) X.A)(j:Gl X x)(i:PA X (e::es) t)(c:(x==("__debug__":Str))=false:=by decide)
  (l:bYX (e::es) X.env=(false,eval e X.env)::bYX es X.env:=by rfl) (a:(cQV pos (bYX es X.env)).any (·.1)=false:=by rfl):PE X (.Call (.Name x p) (e::es) [] pos) (bZD C sp [] E0 t):=by
 obtain⟨g,m,F,b,f,h⟩:=G.ex
 exact bVi f F d j h b .nil v0 i c l a
theorem bZ9(G:MkG X.prog X.w X.K X.mg X.base k x C ps sp)(c:vW (k+1) X.A)(f:Gl X x)(a:(x==("__debug__":Str))=false:=by decide):PE X (.Call (.Name x p) [] [] pos) (bZD C sp [] E0 bZF):=by
 obtain⟨g,h,F,b,d,e⟩:=G.ex;exact bX3 d F c f e b .nil v0 a
end
end L2
namespace L2
open PySem PySem.Spec PyProof.Rows
def qE(e C tp:Nat)(dx:Option Nat):HO:= .ext λh=>h.get? e=some (wM C tp dx)
theorem aVB{P:bYD}{w:bYL}{H:Hp}{h:Heap}{e C tp:Nat}{dx:Option Nat}(b:h.get? e=some (wM C tp dx)):zE P w H h e (qE e C tp dx):=⟨b,⟨_,b⟩,λc d a k=>k _ a⟩
theorem aVA{P:bYD}{w:bYL}{H:Hp}{h:Heap}{e C tp:Nat}{dx:Option Nat}(ok:HOk P w H h)(a:H e=some (qE e C tp dx)):h.get? e=some (wM C tp dx):=(ok e _ a).1
section
variable {X:Cx}{pins:List (Nat×Obj)}{σ:St}{H:Hp}{s:bYk}
theorem Inv.forget{e:Nat}{φ:Heap->Prop}(I:Inv X pins σ H s)(i:H e=some (.ext φ)):Inv X pins σ (λb=>if b=e then none else H b) s:=by
 have ne:∀b u,H b=some u->(∀φ,u≠ .ext φ)->b≠e:=λb u q n z=>by rw[z,i]at q;cases q;exact n _ rfl
 refine⟨I.ok,I.os,I.bare,⟨I.base.keep,I.base.slot,λb o q n g=>?_,I.base.there,λb d q=>?_,λb o u q=>?_,λb ps q=>?_⟩,I.loc,I.cell,?_,λx c q=>?_,λp l=>?_,λb u q=>?_,I.len⟩
 ·show(if b=e then none else H b)=none;rw[I.base.free b o q n g];split<;> rfl
 ·have z:=I.base.tups b d q;show(if b=e then none else H b)=_;rw[if_neg (ne b _ z λ_ y=>by cases y),z]
 ·have z:=I.base.frzs b o u q;show(if b=e then none else H b)=_;rw[if_neg (ne b _ z λ_ y=>by cases y),z]
 ·obtain⟨m,z⟩:=I.base.tbls b ps q;refine⟨m,?_⟩;show(if b=e then none else H b)=_;rw[if_neg (ne b _ z λ_ y=>by cases y),z]
 ·show(if _=e then none else H _)=none;rw[I.free];split<;> rfl
 ·show(if c=e then none else H c)=none;rw[I.freeC x c q];split<;> rfl
 ·obtain⟨k,j,h⟩:=I.pin p l;refine⟨k,?_,h⟩;show(if p.1=e then none else H p.1)=none;rw[j];split<;> rfl
 ·have a:(if b=e then none else H b)=some u:=q;by_cases f:b=e
  ·rw[if_pos f]at a;cases a
  ·rw[if_neg f]at a;refine(I.hok b u a).stay (λc v _ r=>r) (λc r=>?_) λc d r=>?_
   ·show(if c=e then none else H c)=_;rw[if_neg (ne c _ r λ_ y=>by cases y),r]
   ·show(if c=e then none else H c)=_;rw[if_neg (ne c _ r λ_ y=>by cases y),r]
def bK8(K:bYj)(d c:TE):TS:=λD σ H=>c σ H λy f=>d σ f λx a=>∃e C tp,x= .ref e/\a e=some (qE e C tp none)/\v7 K C/\∀b,a b=none->D.nx σ (upd (upd a b (.xd [("words",y)])) e (qE e C tp (some b)))
theorem bWN{o a:Expr}{E B:TE}{pos i:Pos}(G:PE X o E)(P:PE X a B)(L:swapsWith a (some (.Attribute o "words" i)) pos.line X.env=pure false): PS X (.Assign [.Attribute o "words" i] a pos) (bK8 X.K E B):=by
 intro pins s σ H D I h;refine cZW (thn (P pins s σ H _ I h) λu s1 ⟨y,H1,I1,ry,q⟩=>thn (G pins s1 σ H1 _ I1 q) λov s2 ⟨x,H2,I2,rx,e,C,tp,ex,ea,c,q2⟩=>?_) L;subst ex;obtain rfl:ov=Value.ref e:=rx;have F:=aVA I2.hok ea;have g:H2 s2.heap.objs.size=none:=I2.hok.fresh (bYo _);have N:=q2 _ g;refine bJH I2.kIn c F λQ tk A O k=>⟨σ,_,I2.un (t':=tk) ?_ ?_,N⟩
 ·have nb:∀b,H2 b=none->b≠e:=λb n z=>by rw[z,ea]at n;cases n
  have M:∀b o,s2.heap.get? b=some o->b≠s2.heap.objs.size:=λb o r=>bYI (bYv r);have m:∀b u,H2 b=some u->(∀φ,u≠ .ext φ)->upd (upd H2 s2.heap.objs.size (.xd [("words",y)])) e (qE e C tp (some s2.heap.objs.size)) b=some u:=λb u r n=>by rw[yI (λz=>by rw[z,ea]at r;cases r;exact n _ rfl),yI (yJ r g)];exact r
  refine⟨λb o r n _ _=>k b o (nb b n) r,λb o r n _ _=>⟨o.slots,k b o (nb b n) r⟩,λb o r n _=>?_,λb o r _=>?_,λb J r=>m b _ r (λ_ z=>by cases z),λb o u r=>m b _ r (λ_ z=>by cases z),λb ps r=>⟨#[],by rw[m b _ r (λ_ z=>by cases z)];simp⟩⟩
  ·rw[yI (nb b n),yI (M b o r)];exact n
  ·by_cases j:b=e
   ·subst j;exact⟨_,A⟩
   ·exact⟨o,k b o j r⟩
 ·intro b v r;by_cases j:b=e
  ·subst j;rw[yB]at r;cases r;exact aVB A
  ·rw[yI j]at r;by_cases w:b=s2.heap.objs.size
   ·subst w;rw[yB]at r;cases r;refine⟨_,O,λf=>?_⟩;show aZh (cXC f [("words",y)]) (if f="words" then some u else none);by_cases l:f="words"
    ·subst l;exact ry
    ·rw[if_neg l];have:(f==("words":Str))=false:=by simpa using l
     simp[cXC,this,aZh]
   ·rw[yI w]at r;have ne:∀c t,H2 c=some t->(∀φ,t≠ .ext φ)->c≠e:=λc t d n z=>by rw[z,ea]at d;cases d;exact n _ rfl
    refine(I2.hok b v r).stay (λc o p d=>k c o ?_ d) (λc d=>?_) λc J d=>?_
    ·rcases p with rfl|p
     ·exact j
     ·exact ne c _ p λ_ z=>by cases z
    ·rw[yI (ne c _ d λ_ z=>by cases z),yI (yJ d g)];exact d
    ·rw[yI (ne c _ d λ_ z=>by cases z),yI (yJ d g)];exact d
end
def wS(K:bYj):Sp:=λb H Q _=>∃ (e C tp:Nat)(y:V),b= [.ref e,y]/\H e=some (qE e C tp none)/\v7 K C/\∀a,H a=none->Q .non (upd (upd H a (.xd [("words",y)])) e (qE e C tp (some a)))
def wG(K:bYj)(C:Nat)(t:Str):Sp:=λb H Q _=>∃e tp:Nat,b= [.ref e]/\H e=some (qE e C tp none)/\∀a,H a=none->Q .non (upd (upd H a (.xd [("words",.str t)])) e (qE e C tp (some a)))
structure aWl(P:bYD)(w:bYL)(K:bYj)(mg:Str->Option bYh)(base:Heap)(k:Nat)(x m:Str)(ps:List Str)(sp:Sp):Prop where
 ex:∃ (R f:Nat)(fd:cXg),xE P w K mg base CX0 k f fd ps sp/\v6 K fd ps []/\PySem.W.readsIn K R (.type "type")=true/\PySem.W.findCls K (.ref R) (.type "type") m=some (.val (.ref f))/\
  cZN K (.ref R) "__getattribute__"=some (some (.builtin "type.__getattribute__"))/\cQd K (.ref f)=true/\mg x=some (.ref R)
section
variable {X:Cx}{k:Nat}{x m:Str}{ps:List Str}{sp:Sp}{e:Expr}{es:List Expr}{t:TA}{p pos apos:Pos}
theorem uX{pl:Sem Bool}(G:aWl X.prog X.w X.K X.mg X.base k x m ps sp)(q:vW k X.A)(y:Gl X x)(i:PA X (e::es) t)(a:(x==("__debug__":Str))=false:=by decide)
  (c:bYX (e::es) X.env=(false,eval e X.env)::bYX es X.env:=by rfl) (d:(cQV pos (bYX es X.env)).any (·.1)=false:=by rfl)
  (l:eval (.Call (.Attribute (.Name x p) m apos) (e::es) [] pos) X.env=(do
   let ov <- eval (.Name x p) X.env
   standAt apos.atName
   let (f,first) <- cZz [ov] (cZG ov m pl)
   callWith pos f first (cQV pos (bYX (e::es) X.env)) (cZr pos (cXD [] X.env))):=by rfl):
  PE X (.Call (.Attribute (.Name x p) m apos) (e::es) [] pos) (bZC sp [] E0 t):=by
 obtain⟨R,f,z,F,b,n,u,o,g,v⟩:=G.ex
 intro pins s σ H Q I h
 refine cZh (pl:=pl) (uV I y v ?_ a) l
 refine PySem.W.method_cls I.kIn o (PySem.W.cls_value I.kIn n u rfl ?_)
 have j:=I.tok (s.toks+1)
 refine cX6 (first:= []) (h₀:=X.base) I.ok.mod.kin g (thn (i pos pins _ σ H _ j h) λus s2 ⟨vs,H2,I2,r,q2⟩=>⟨I2.kIn,?_⟩) c d
 exact aZ1 F q b .nil v0 I2 r q2
end
structure ExG(P:bYD)(w:bYL)(K:bYj)(mg:Str->Option bYh)(base:Heap)(k:Nat)(x:Str)(Rf:Nat)(C:Nat)(t:Str):Prop where
 ex:∃f fd,xE P w K mg base CX0 k f fd ["self"] (wG K C t)/\v6 K fd ["self"] []/\bY3 K (.ref C) "__init__"=some (some (.ref f))/\cXW K (.ref f)=true/\cQd K (.ref C)=true/\mg x=some (.ref C)
 cl:v7 K C
 sub:cZu K C (.ref Rf)=some true
theorem ExG.mono{P:bYD}{w:bYL}{K:bYj}{mg:Str->Option bYh}{base:Heap}{j k:Nat}{x:Str}{Rf C:Nat}{t:Str}(G:ExG P w K mg base j x Rf C t)(h:j<=k):ExG P w K mg base k x Rf C t:=
 let ⟨f,fd,a,b⟩:=G.ex;⟨⟨f,fd,a.mono h,b⟩,G.cl,G.sub⟩
def bJe(C:Nat)(t:Str)(E:XK):TS:=λ_ _ H=>∀a,H a=none->E (.ref C) (some a) (upd H a (.xd [("words",.str t)]))
section
variable {P:bYD}{w:bYL}{K:bYj}{mg:Str->Option bYh}{base:Heap}{N:List Str}{qual:Str}{scope:cXx}{f:Nat}{cd:bYh}{A:bYZ}{outer:List Env}{s₀:bYk}{H₀:Hp}{E:XK}{k:Nat}{x t:Str}{Rf C:Nat}{np cpos pos:Pos}
theorem z9(G:ExG P w K mg base k x Rf C t)(Y:vW (k+1) (A.deeper (cXf qual scope s₀.heap.objs.size f cd)))(hg:Gl (aXC (CXR P w) P w K mg base N qual scope f cd A outer s₀ H₀ E) x)(q:(x==("__debug__":Str))=false:=by decide):
  PS (aXC (CXR P w) P w K mg base N qual scope f cd A outer s₀ H₀ E) (.Raise (some (.Call (.Name x np) [] [] cpos)) none pos) (bJe C t E):=by
 intro pins s σ H D I h
 obtain⟨fi,fd,F,b,U,X,Q,hm⟩:=G.ex
 rw[arm_exec_Raise]
 refine bYi (cZP ?_)
 show bYp _ _ (raiseStmt _ (some (do let v <- eval (.Call (.Name x np) [] [] cpos) (cXf qual scope s₀.heap.objs.size f cd);standAt pos;pure v)) none) _ _ _
 refine aKZ (K:=K) (I.ok.hd rfl) (bYi ?_)
 refine cQW (uV I hg hm ?_ q)
 refine cJc I.kIn Q (cZs ?_)
 obtain⟨a,g,d,tk,O⟩:=s
 have Z:Inv (aXC (CXR P w) P w K mg base N qual scope f cd A outer s₀ H₀ E) pins σ H ⟨a.push W6,g,d,tk,O⟩:=I.kept (t':=tk) λb u e=>bYm _ e
 have R:((a.push W6).push (wM C a.objs.size none)).get? (a.objs.size+1)=some (wM C a.objs.size none):=by heap_get
 have y:Inv (aXC (CXR P w) P w K mg base N qual scope f cd A outer s₀ H₀ E) pins σ (upd H (a.objs.size+1) (qE (a.objs.size+1) C a.objs.size none)) ⟨(a.push W6).push (wM C a.objs.size none),g,d,tk,O⟩:=
  Z.laid (t':=tk) (λb u e=>bYm _ e) (cXT (cQR _ _)) (aVB R)
 have o:H (a.objs.size+1)=none:=I.hok.fresh (cXq _)
 refine bXe I.kIn G.cl U (beq_iff_eq.mp X) (cXa (F.run _ (cXf qual scope s₀.heap.objs.size f cd::outer) _ _ ⟨[.ref (a.objs.size+1)],[]⟩ [.ref (a.objs.size+1)] [.ref (a.objs.size+1)] (λv M=>v= .non/\∃c,upd H (a.objs.size+1) (qE (a.objs.size+1) C a.objs.size none) c=none/\M=upd (upd (upd H (a.objs.size+1) (qE (a.objs.size+1) C a.objs.size none)) c (.xd [("words",.str t)])) (a.objs.size+1) (qE (a.objs.size+1) C a.objs.size (some c))) E0 (Y.make C [] []) (y.env0.make C [] []) (b _ [.ref (a.objs.size+1)] y.kIn rfl) (.cons rfl .nil) ⟨a.objs.size+1,a.objs.size,rfl,yB,λc j=>⟨rfl,c,j,rfl⟩⟩) λr s' i=>?_)
 cases r with
 |error e=>exact cQO i
 |ok V=>
  cases V with
  |next=>exact cQO i
  |brk=>exact cQO i
  |cont=>exact cQO i
  |ret u=>
   obtain⟨v,M,J,S,rfl,c,j,rfl⟩:=y.after i;have l:a.objs.size+1≠c:=yJ yB j;have B:H c=none:=by rw[yI (bY0 l)]at j;exact j
   have m:=aVA J.hok yB;have L:=J.forget (e:=a.objs.size+1) yB;have eq:(λb=>if b=a.objs.size+1 then none else upd (upd (upd H (a.objs.size+1) (qE (a.objs.size+1) C a.objs.size none)) c (.xd [("words",.str t)])) (a.objs.size+1) (qE (a.objs.size+1) C a.objs.size (some c)) b)=upd H c (.xd [("words",.str t)]):=by
    funext b;by_cases n:b=a.objs.size+1
    ·rw[if_pos n,n,yI l,o]
    ·rw[if_neg n,yI n];by_cases p:b=c
     ·rw[p,yB,yB]
     ·rw[yI p,yI p,yI n]
   rw[eq]at L;refine⟨S,bYi (cZP (bYn ⟨a.objs.size+1,a.objs.size,some c,C,rfl,J.kIn,G.cl,m,?_⟩))⟩;refine bKc (tb:=none) L ⟨⟨_,_,m,rfl,rfl,rfl,rfl⟩,λT z=>by cases z⟩ (by rw[yI l];exact o) (bYT I.sz (cXq _)) (λT z=>by cases z) (h c B)
end
end L2
namespace L2
open PySem PySem.Spec PyProof.Rows
theorem bJ8{X:Cx}{A:bYZ}{a:Bool}{pn:List (Nat×Obj)}{xe:bYh->bYk->Prop}(o:X.Ok)(c:A.frames=X.A.frames)(b:a=true->A.handled=none):Cx.Ok {X with A:=A,calm:=a,pn:=pn,xe:=xe}:=
 ⟨o.mod,o.kind,o.glob,o.blt,o.above,o.inj,o.has,o.cab,b,c.trans o.frames,o.stk,o.exf,o.bs,o.bsz,o.noex,o.exfs,o.funs,o.frf⟩
theorem Inv.mark{X:Cx}{A:bYZ}{b:Bool}{pn pins a:List (Nat×Obj)}{xe:bYh->bYk->Prop}{σ:St}{H:Hp}{s:bYk}(I:Inv X pins σ H s)(e:A.frames=X.A.frames)(c:b=true->A.handled=none) (d:∀p∈pn++a,p∈X.pn++pins):Inv {X with A:=A,calm:=b,pn:=pn,xe:=xe} a σ H s:=
 ⟨bJ8 I.ok e c,I.os,I.bare,I.base,I.loc,I.cell,I.free,I.freeC,λp h=>I.pin p (d p h),I.hok,I.len⟩
theorem bJ0{X:Cx}{pn:List (Nat×Obj)}{xe:bYh->bYk->Prop}(o:Cx.Ok {X with A:=X.A,calm:=X.calm,pn:=pn,xe:=xe}):X.Ok:=
 ⟨o.mod,o.kind,o.glob,o.blt,o.above,o.inj,o.has,o.cab,o.hd,o.frames,o.stk,o.exf,o.bs,o.bsz,o.noex,o.exfs,o.funs,o.frf⟩
theorem Inv.names{X:Cx}{pins:List (Nat×Obj)}{σ:St}{H:Hp}{s:bYk}{h':Heap}{j:Str->Option bYh}{t':Nat}(I:Inv X pins σ H s)(t:h'.Ns X.env.locals j)(d:cXl X.env.locals s.heap h'): Inv X pins (cXP X.N.length none) H {s with heap:=h',toks:=t'}:=by
 have a:∀b o,X.s₀.heap.get? b=some o->b≠X.env.locals:=λb o q=>bYI (bYK (bYv q) I.ok.above);refine⟨I.ok,I.os,I.bare,⟨λb o q n g e=>(d.2 b (a b o q)).trans (I.base.keep b o q n g e),λb o q n g e=>?_,I.base.free,λb o q e=>?_,I.base.tups,I.base.frzs,I.base.tbls⟩,⟨j,t,λi x v _ f _=>?_⟩,λx c q=>?_,I.free,I.freeC,λp B=>?_,λb u q=>?_,by simp⟩
 ·obtain⟨w,z⟩:=I.base.slot b o q n g e;exact⟨w,(d.2 b (a b o q)).trans z⟩
 ·obtain⟨y,z⟩:=I.base.there b o q e;exact⟨y,(d.2 b (a b o q)).trans z⟩
 ·rw[List.getElem?_replicate]at f;split at f<;> cases f
 ·obtain⟨v,z⟩:=I.cell x c q;exact⟨v,z.sameBut d (I.cne x c q)⟩
 ·obtain⟨l,k,h,C,A⟩:=I.pin p B;exact⟨(d.2 p.1 h).trans l,k,h,C,A⟩
 ·refine(I.hok b u q).stay (λc v m r=>(d.2 c ?_).trans r) (λ_ r=>r) λ_ _ r=>r;rintro rfl;rcases m with z|z
  ·rw[<- z,I.free]at q;cases q
  ·rw[I.free]at z;cases z
def bKn(K:bYj)(Rf:Nat)(Q:VK):XK:=λcls b a=>∃ (C d:Nat)(t:Str),cls= .ref C/\b=some d/\v7 K C/\cZu K C (.ref Rf)=some true/\a d=some (.xd [("words",.str t)])/\Q (.str t) a
section
variable {X:Cx}{pins:List (Nat×Obj)}{σ:St}{H:Hp}{s:bYk}
theorem Inv.recs{h':Heap}{ch:List Nat}(I:Inv X pins σ H s)(i:∀b∈ch,s.heap.objs.size<=b\/(X.s₀.heap.objs.size<=b/\b≠X.env.locals/\(∀x c,X.env.cells.lookup x=some c->c≠b)/\∀p∈X.pn++pins,p.1≠b))(m:∀b∈ch,H b=none) (keep:∀b o,b∉frs X.stack->b∉ch->s.heap.get? b=some o->h'.get? b=some o) (a:∀b o,b∉ch->s.heap.get? b=some o->∃k,h'.get? b=some {o with slots:=k}):Inv X pins σ H {s with heap:=h'}:=by
 have j:HOk X.prog X.w H h':=λb u q=>(I.hok b u q).stay (λc v l r=>by
  have g:H c≠none:=by
   rcases l with z|z
   ·rw[z,q];simp
   ·rw[z];simp
  exact keep c v (λz=>g (I.stkFree c z)) (λz=>g (m c z)) r) (λ_ r=>r) λ_ _ r=>r
 refine I.call (g':=s.gens) (t':=s.toks) (d':=s.drawn) (ch:=ch) ⟨λb o q _ h d=>keep b o h d q,λb o q _ _ d=>a b o d q,λ_ _ _ n _=>n,λb o q d=>?_,λ_ _ q=>q,λ_ _ _ q=>q,λ_ y q=>⟨#[],by rw[q];simp⟩⟩ j I.bare λb h=>?_
 ·obtain⟨k,z⟩:=a b o d q;exact⟨_,z⟩
 ·rcases i b h with z|⟨z1,z2,z3,z4⟩
  ·refine⟨.inr (bYT I.sz z),λe=>?_,λx c q e=>?_,λp t e=>?_⟩
   ·rw[e]at z;exact absurd (bYK I.lt z) (cQs _)
   ·obtain⟨v,o,f,_⟩:=I.cell x c q;rw[e]at f;exact absurd (bYK (bYv f) z) (cQs _)
   ·have f:=(I.pin p t).1;rw[e]at f;exact absurd (bYK (bYv f) z) (cQs _)
  ·exact⟨.inr z1,z2,z3,z4⟩
theorem bWO{body:List Stmt}{tb:XK->TS}{U n:Str}{i:Nat}{Rf:Nat}{cp p1 p2 p3 F tp:Pos}(hN:X.N.Nodup)(hi:X.N[i]? =some n)(hl:X.env.scope.names.lookup n=some .local)(hg:Gl X U)(hm:X.mg U=some (.ref Rf))(cr:v7 X.K Rf) (a0:X.stack=X.env::X.outer) (b8:X.env.frame=some X.env.locals) (c8:X.calm=true) (c6:(n==("__debug__":Str))=false) (b0:(U==("__debug__":Str))=false) (c9:(n==("__classdict__":Str))=false) (hA:∀e,(X.A.mark (some (.ref e))).frames=X.A.frames) (j:∀ (pn:List (Nat×Obj))(xe:bYh->bYk->Prop)(E:XK),vP (CXR X.prog X.w) {X with A:=X.A,calm:=X.calm,pn:=pn,xe:=xe} E->PSs {X with A:=X.A,calm:=X.calm,pn:=pn,xe:=xe} body (tb E)): PS X (.Try body [.ExceptHandler (some (.Name U cp)) (some n) [.Return (some (.Attribute (.Name n p1) "words" p2)) p3] F] [] [] tp) (λD σ H=>tb (bKn X.K Rf D.rt) D σ H):=by
 intro pins s σ H D I h;refine wpAny_Try_except ?_;have l:X.calm=true->X.A.handled=none:=I.ok.hd;have go:∀ (a1:List (Nat×Obj))(m:St)(M:Hp)(Z:bYk)(g:bYh)(k:bYk),Inv X pins m M Z->CXR X.prog X.w X.stack M Z (bKn X.K Rf D.rt) g k->
   bYp (bYr X.prog X.w) X.A (cZH g X.env) (λ_ S=>bYp (bYr X.prog X.w) X.A (cZm g none) (λ_ W=>bYp (bYr X.prog X.w) X.A (handleBy g X.env [.ExceptHandler (some (.Name U cp)) (some n) [.Return (some (.Attribute (.Name n p1) "words" p2)) p3] F]) (SP X pins D) X.xe W) X.xe S) X.xe k:=by
  intro _ m M Z g k J1 hx
  obtain⟨e,C',dx,b6,H',rfl,os,bare,un,c7,x,he,ht,a2,a4,hE⟩:=hx
  obtain⟨C,d,t,ec,ed,cC,hs,hd,hq⟩:=hE
  have eC:C'=C:=by cases ec;rfl
  subst eC
  have eD:dx=d:=by cases ed;rfl
  subst eD
  have Y:Inv X pins m H' k:=J1.call' os un c7 bare λb z=>absurd z (by simp)
  have big:∀b,Z.heap.objs.size<=b->X.s₀.heap.objs.size<=b/\b≠X.env.locals/\(∀x c,X.env.cells.lookup x=some c->c≠b)/\∀p∈X.pn++pins,p.1≠b:=λb z=>by
   refine⟨bYT J1.sz z,λe=>?_,λx c q e=>?_,λp F e=>?_⟩
   ·rw[e]at z;exact absurd (bYK J1.lt z) (cQs _)
   ·obtain⟨v,o,O,_⟩:=J1.cell x c q;rw[e]at O;exact absurd (bYK (bYv O) z) (cQs _)
   ·have O:=(J1.pin p F).1;rw[e]at O;exact absurd (bYK (bYv O) z) (cQs _)
  refine aVL (base:=X.base) (outer:=X.outer) (L:=X.env.locals) (a0 ▸ Y.ok.frames) (a0 ▸ Y.stack) b8 x λh3 T y nT p=>?_
  have b2:frs X.stack=(X.env::X.outer).filterMap (·.frame):=by rw[a0];rfl
  have J3:Inv X pins m H' {k with heap:=h3}:=Y.recs (ch:= [e,b6]) (λb j=>by
    rcases bYq.mp j with rfl|j
    ·exact .inr (big _ a2)
    ·rw[bYy.mp j];exact .inr (big _ a4)) (λb j=>by
    rcases bYq.mp j with rfl|j
    ·exact he
    ·rw[bYy.mp j];exact ht)
   (λb o j R q=>p.keep b o (λz=>R (by simp[z])) (λz=>R (by cases z;simp)) (b2 ▸ j) q)
   (λb o R q=>p.slot b o (λz=>R (by simp[z])) (λz=>R (by cases z;simp)) q)
  have a6:H' T=none:=Y.hok.fresh nT
  have P:X.s₀.heap.objs.size<=T/\T≠X.env.locals/\(∀x c,X.env.cells.lookup x=some c->c≠T)/\∀p∈X.pn++pins,p.1≠T:=by
   refine⟨bYT Y.sz nT,λe=>?_,λx c q e=>?_,λp F e=>?_⟩
   ·rw[e]at nT;exact absurd (bYK Y.lt nT) (cQs _)
   ·obtain⟨v,o,O,_⟩:=Y.cell x c q;rw[e]at O;exact absurd (bYK (bYv O) nT) (cQs _)
   ·have O:=(Y.pin p F).1;rw[e]at O;exact absurd (bYK (bYv O) nT) (cQs _)
  have mk:∀ {σ:St} {H:Hp} {s:bYk},Inv X pins σ H s->Inv {X with A:=X.A.mark (some (.ref e)),calm:=false,pn:=X.pn,xe:=λ_ _=>True} pins σ H s:=λJ=>J.mark (hA e) (λz=>by cases z) λp F=>F
  have un:∀ {σ:St} {H:Hp} {s:bYk},Inv {X with A:=X.A.mark (some (.ref e)),calm:=false,pn:=X.pn,xe:=λ_ _=>True} pins σ H s->Inv X pins σ H s:=λ{σ H s} J=>Inv.mark (X:={X with A:=X.A.mark (some (.ref e)),calm:=false,pn:=X.pn,xe:=λ_ _=>True}) J (hA e).symm l λp F=>F
  refine wpAny_handleBy_cons (codeAny_handlers_test ?_) (by intro q;cases q)
  refine uV (X:={X with A:=X.A.mark (some (.ref e)),calm:=false,pn:=X.pn,xe:=λ_ _=>True}) (mk J3) hg hm ?_ b0
  obtain⟨oe,vs,g1,g2,g3,g4,g5⟩:=y.obj
  refine aKY J3.kIn cC cr hs g1 g2 ?_
  refine codeAny_handlers_suite_as ?_
  refine bXo (s:={k with heap:=h3}) y λh4 y4 k4 t4=>?_
  have J4:Inv X pins m H' {k with heap:=h4}:=Inv.recs (s:={k with heap:=h3}) (h':=h4) (ch:= [T]) J3 (λb j=>by rw[bYy.mp j];exact .inr P) (λb j=>by rw[bYy.mp j];exact a6)
   (λb o _ R q=>k4 b o (λz=>R (by simp[z])) q) (λb o R q=>⟨o.slots,k4 b o (λz=>R (by simp[z])) q⟩)
  refine aQ3 (X:={X with A:=X.A.mark (some (.ref e)),calm:=false,pn:=X.pn,xe:=λ_ _=>True}) (v:= .ref e) (u:= .ref e) (mk J4) hN hi (.inl hl) rfl (λs5 J5 ⟨a,sb,ha⟩=>?_) (.inr hl)
  have a3:e≠a/\T≠a:=by
   rcases ha with z|z
   ·rw[z];exact⟨(big _ a2).2.1,P.2.1⟩
   ·exact⟨λq=>(big _ a2).2.2.1 n a z q.symm,λq=>P.2.2.1 n a z q.symm⟩
  have y5:Y4 s5.heap e (.ref C') (some dx) (some T):=y4.keeps λb o j q=>(sb.2 b (by
   rcases j with rfl|j
   ·exact a3.1
   ·cases j;exact a3.2)).trans q
  obtain⟨a7,d0,f1,f2,f3,f4,f5⟩:=y5.obj
  obtain⟨mA,c5,a5⟩:=J5.hok dx _ hd
  obtain⟨od,a8,b3⟩:=aZN c5
  obtain⟨u,hu,ru⟩:=aZh.some_of (v:=V.str t) (o:=mA "words") (a5 "words")
  obtain⟨m5,b7,c0⟩:=J5.loc
  obtain⟨u5,r5,l5⟩:=c0 i n (.ref e) hi (cZa (by rw[J4.len];exact(bYs.mp hi).1)) (.inl hl)
  obtain rfl:u5=Value.ref e:=r5
  have b1:m5 n=some (.ref e):=by
   rcases l5 with⟨_,z⟩|⟨z,_⟩
   ·exact z
   ·rw[show X.env.kindOf n=some .local from hl]at z;rcases z with z|z<;> cases z
  refine wpAny_execs_cons (wpAny_Return_some (aKH rfl ?_))
  refine wpAny_Name (wpAny_loadName_local J5.ok.kind hl b7 b1 ?_) c6
  refine bJF J5.kIn cC f1 f2 f3 (by obtain⟨c1,c2,c3,c4⟩:=a7;cases f4;rfl) a8 (by rw[b3,hu]) (aZA ru) ?_
  have J6:=(un J5).tok (s5.toks+1)
  obtain⟨m6,b4,_⟩:=J6.loc
  refine wpAny_nameGoes hl b4 (by rw[J6.ok.kind];rfl) λh7 m7 a9 b9=>?_
  exact⟨.str t,_,H',J6.names (t':=s5.toks+1+1) a9 b9,ru,hq⟩
 have b5:vP (CXR X.prog X.w) {X with A:=X.A,calm:=X.calm,pn:=X.pn++pins,xe:=λg k=>bYp (bYr X.prog X.w) X.A (cZH g X.env) (λ_ S=>bYp (bYr X.prog X.w) X.A (cZm g none) (λ_ W=>bYp (bYr X.prog X.w) X.A (handleBy g X.env [.ExceptHandler (some (.Name U cp)) (some n) [.Return (some (.Attribute (.Name n p1) "words" p2)) p3] F]) (SP X pins D) X.xe W) X.xe S) X.xe k} (bKn X.K Rf D.rt):=
  λa1 m M Z g k J hx=>go [] m M Z g k (Inv.mark (X:={X with A:=X.A,calm:=X.calm,pn:=X.pn++pins,xe:=λg k=>bYp (bYr X.prog X.w) X.A (cZH g X.env) (λ_ S=>bYp (bYr X.prog X.w) X.A (cZm g none) (λ_ W=>bYp (bYr X.prog X.w) X.A (handleBy g X.env [.ExceptHandler (some (.Name U cp)) (some n) [.Return (some (.Attribute (.Name n p1) "words" p2)) p3] F]) (SP X pins D) X.xe W) X.xe S) X.xe k}) J rfl l λp Q=>cXe _ Q) hx
 have I':Inv {X with A:=X.A,calm:=X.calm,pn:=X.pn++pins,xe:=λg k=>bYp (bYr X.prog X.w) X.A (cZH g X.env) (λ_ S=>bYp (bYr X.prog X.w) X.A (cZm g none) (λ_ W=>bYp (bYr X.prog X.w) X.A (handleBy g X.env [.ExceptHandler (some (.Name U cp)) (some n) [.Return (some (.Attribute (.Name n p1) "words" p2)) p3] F]) (SP X pins D) X.xe W) X.xe S) X.xe k} [] σ H s:=
  I.mark rfl l λp Q=>by simpa using Q
 have G:∀ {σ:St} {H:Hp} {s:bYk},Inv {X with A:=X.A,calm:=X.calm,pn:=X.pn++pins,xe:=λg k=>bYp (bYr X.prog X.w) X.A (cZH g X.env) (λ_ S=>bYp (bYr X.prog X.w) X.A (cZm g none) (λ_ W=>bYp (bYr X.prog X.w) X.A (handleBy g X.env [.ExceptHandler (some (.Name U cp)) (some n) [.Return (some (.Attribute (.Name n p1) "words" p2)) p3] F]) (SP X pins D) X.xe W) X.xe S) X.xe k} [] σ H s->Inv X pins σ H s:=
  λ{σ H s} J=>⟨bJ0 J.ok,J.os,J.bare,J.base,J.loc,J.cell,J.free,J.freeC,λp Q=>J.pin p (by simpa using Q),J.hok,J.len⟩
 refine cQl (j _ _ _ b5 [] s σ H D I' h) (λf Z q=>?_) λ_ _ q=>q;cases f with
 |next=>obtain⟨B,M,J,q⟩:=q;exact yS pins Z B M D (G J) q
 |ret v=>obtain⟨u,B,M,J,r,q⟩:=q;exact⟨u,B,M,G J,r,q⟩
 |brk=>obtain⟨B,M,J,q⟩:=q;exact⟨B,M,G J,q⟩
 |cont=>obtain⟨B,M,J,q⟩:=q;exact⟨B,M,G J,q⟩
end
end L2
namespace L2
open PySem PySem.Spec PyProof.Rows
theorem aYc{P:bYD}{w:bYL}{K:bYj}{mg mb:Str->Option bYh}{CX:CXT}{k:Nat}{fa a c T:Nat}{fd:cXg}{x:Str}{sp:Sp}{f:bYk}{vs:List bYh}{U:List Int} (KX:K.In f.heap) (I:f.heap.Ns bYP mg) (p:f.heap.Ns builtinsNs mb) (a8:∀x:Str,x≠"__name__"->mb x=bY2 x) (Y:f.heap.NoLimit) (hg:f.gens= #[]) (J:f.heap.get? a=some {cls:= .type "list",data:= .seq vs.toArray}) (hi:cXO vs U) (hl:U.length<=bYJ) (hr:vW k callerA) (hC:cXn f.heap c T) (L:f.heap.get? T=some (cXQ #[])) (a5:K.lookup T=none) (a4:∃O D,mg "__builtins__"=some (.ref O)/\O≠builtinsNs/\f.heap.get? O=some D/\D.cls= .type "module"/\D.dict=some builtinsNs/\D.data= .plain) (F:∀base:Heap,K.In base->base.Ns bYP mg->cXn base c T->base.BuiltinsAt mg T->xE P w K mg base CX k fa fd [x] sp) (E:∀ (s:bYk)(u:bYh),BindsTo s fd ⟨[u],[]⟩ [(x,u)]) (a3:∀H:Hp,H T=some (.tbl #[])->SqL K H a (U.map V.int)->sp [.ref a] H (λv _=>v= .bl true) λ_ _ _=>False) (a9:∀H e j,CX [] H f (λ_ _ _=>False) e j->False): cXA (bYr P w) callerA (.call (.ref fa) ⟨[.ref a],[]⟩) (λr j=>r= .ok (.ret (.bool true))/\OldK f.heap j.heap/\j.os=f.os/\AllBare j.gens) f:=by
 have rv:=jC hi;have X:=hi.length;have Z:a≠T:=λz=>by rw[z,L]at J;cases J
 have C:∀H:Hp,H T=some (.tbl #[])->SqL K H a (U.map V.int)->HOk P w H f.heap->(∀b,H b≠none->b=T\/(b=a/\∃o xs,H b=some (.frz o (.lst xs))))->(H a≠none->K.lookup a=none)->
   cXA (bYr P w) callerA (.call (.ref fa) ⟨[.ref a],[]⟩) (λr j=>r= .ok (.ret (.bool true))/\OldK f.heap j.heap/\j.os=f.os/\AllBare j.gens) f:=by
  intro H hH hS a1 hA hK
  have i:∀ {b:Nat} {o:Obj},f.heap.get? b=some o->H b=none->(aK2 f.heap H).get? b=some o:=λe n=>bXi e n
  have l:∀ {b:Nat} {o:Obj},f.heap.get? b=some o->(∀ps,o≠cXQ ps)->(∀A,o≠ {cls:= .type "list",data:= .seq A})->H b=none:=λ{b o} e n1 n2=>by
   cases q:H b with
   |none=>rfl
   |some u=>
    rcases hA b (by rw[q];simp)with z|⟨z,_⟩
    ·rw[z,L]at e;cases e;exact absurd rfl (n1 _)
    ·rw[z,J]at e;cases e;exact absurd rfl (n2 _)
  have y:∀ {b:Nat} {m:Str->Option bYh},f.heap.Ns b m->(aK2 f.heap H).Ns b m:=λ{b m} ⟨o,es,ep,e,d,r⟩=>⟨o,es,ep,i e (l e (λps z=>by rw[z]at d;cases d) (λA z=>by rw[z]at d;cases d)),d,r⟩
  have N:K.In (aK2 f.heap H):=λb o e=>i (KX b o e) (by
   cases q:H b with
   |none=>rfl
   |some u=>
    rcases hA b (by rw[q];simp)with z|⟨z,_⟩
    ·rw[z,a5]at e;cases e
    ·subst z;rw[hK (by rw[q];simp)]at e;cases e)
  have hM:Mod K mg (aK2 f.heap H):=⟨N,y I,⟨mb,y p,a8⟩,let ⟨mc,h1,h2⟩:=Y;⟨mc,y h1,h2⟩⟩
  have e0:bJs P w K mg (aK2 f.heap H) callerA [] f H:=⟨rfl,hM,λb o e=>bJY e,cXT (aK3 _ _),trivial,λb p=>absurd (show b∈([]:List Nat)from p) (by simp),a1,.of_eq hg⟩
  have a2:cXn (aK2 f.heap H) c T:=by
   obtain⟨o,vs,file,tf,G,tg,a6,text,tt,e,S,r⟩:=hC;exact⟨o,vs,file,tf,G,tg,a6,text,tt,i e (l e (λps z=>by rw[z]at S;cases S) (λA z=>by
    rw[z]at S;have c':Value.type "list"=Value.type "code":=S;injection c' with c''
    exact absurd c'' (by decide))),S,r⟩
  have a7:(aK2 f.heap H).BuiltinsAt mg T:=by
   obtain⟨O,D,b1,b2,M,b4,b5,Q⟩:=a4;refine⟨O,D,b1,b2,λz=>?_,λz=>?_,i M (l M (λps z=>by rw[z]at b4;cases b4) (λA z=>by rw[z]at Q;cases Q)),b4,b5,Q⟩
   ·obtain⟨o,es,ep,e,d,_⟩:=I;rw[z,e]at M;cases M;rw[d]at Q;cases Q
   ·rw[z,L]at M;cases M;cases b4
  refine cXa ((F _ N (y I) a2 a7).run callerA [] f H ⟨[.ref a],[]⟩ [.ref a] [.ref a] _ _ hr e0 (E f (.ref a)) (.cons rfl .nil) (a3 H hH hS)) λr j h=>?_
  cases r with
  |error e=>exact(a9 H e j h).elim
  |ok fl=>
   cases fl with
   |next=>exact cQO h
   |brk=>exact cQO h
   |cont=>exact cQO h
   |ret u=>
    obtain⟨v,H',os,bare,un,B,r',q⟩:=h;have q':v= .bl true:=q;subst q';obtain rfl:u=Value.bool true:=r';obtain⟨more,hm⟩:=un.tbls T _ hH;have R:j.heap.get? T=some (cXQ (#[]++more)):=B T _ hm;have get:∀b o,b≠T->f.heap.get? b=some o->j.heap.get? b=some o:=λb o g e=>by
     cases q:H b with
     |none=>exact un.keep b o e q (by intro z;exact absurd (show b∈([]:List Nat)from z) (by simp)) (by simp)
     |some u=>
      rcases hA b (by rw[q];simp)with z|⟨_,D,xs,z⟩
      ·exact absurd z g
      ·have z2:=un.frzs b D _ z;obtain⟨e1,_⟩:=a1 b _ z;obtain⟨e2,_⟩:=B b _ z2;rw[e]at e1;cases e1;exact e2
    refine⟨rfl,⟨λb o e=>?_,λb o e=>?_⟩,os,bare⟩
    ·by_cases g:b=T
     ·subst g;rw[L]at e;cases e;exact .inr (.inl ⟨(hC.tab L).isCodeTable,rfl, #[],more,rfl,R⟩)
     ·exact .inl (get b o g e)
    ·by_cases g:b=T
     ·exact⟨_,by rw[g];exact R⟩
     ·exact⟨o,get b o g e⟩
 have a0:∀H:Hp,zE P w H f.heap T (.tbl #[]):=λH=>L;cases hk:K.lookup a with
 |some o=>
  have e:=KX a o hk;rw[J]at e;cases e;refine C (λb=>if b=T then some (.tbl #[])else none) (if_pos rfl) (.inr ⟨_,vs.toArray,_,hk,rfl,rfl,rfl,by rw[bYA,X];exact hl,by simpa using rv⟩) (λb u z=>?_) (λb z=>?_) λz=>absurd (if_neg Z) z
  ·by_cases g:b=T
   ·have t:=(if_pos g).symm.trans z;cases t;subst g;exact a0 _
   ·have t:=(if_neg g).symm.trans z;cases t
  ·by_cases g:b=T
   ·exact .inl g
   ·exact absurd (if_neg g) z
 |none=>
  refine C (λb=>if b=T then some (.tbl #[])else if b=a then some (.frz {cls:= .type "list",data:= .seq vs.toArray} (.lst (U.map V.int)))else none) (if_pos rfl)
   (.inl (.inr ⟨{cls:= .type "list",data:= .seq vs.toArray},by show(if a=T then _ else _)=_;rw[if_neg Z,if_pos rfl]⟩)) (λb u z=>?_) (λb z=>?_) λ_=>hk
  ·by_cases g:b=T
   ·have t:=(if_pos g).symm.trans z;cases t;subst g;exact a0 _
   ·have z1:=(if_neg g).symm.trans z;by_cases p:b=a
    ·have t:=(if_pos p).symm.trans z1;cases t;subst p;exact⟨J,by rw[bYl];exact hl,vs,_,rv,J⟩
    ·have t:=(if_neg p).symm.trans z1;cases t
  ·by_cases g:b=T
   ·exact .inl g
   ·by_cases p:b=a
    ·exact .inr ⟨p,_,_,by show(if b=T then _ else _)=_;rw[if_neg g,if_pos p]⟩
    ·exact absurd (by show(if b=T then _ else _)=_;rw[if_neg g,if_neg p]) z
theorem bZS{l:PySem.W.OpenLaw}{n k:Nat}{q:bYD}{loose:List Str}{Q:(Str->Option bYh)->Heap->Prop}{D:bYL->Heap->Prop}{d:DefRec}{K:Params->bYj}{CX:CXT}{sp:Nat->bYj->Sp}{x:Str}{T:Nat} (X:l.most=some n) (C:n<=bYJ) (L:d.params.defaults= []) (R:vW k callerA) (Z:∀ (w:bYL)(h:Heap),D w h->(K w.params).In h) (z:∀ (w:bYL)(h:Heap),D w h->h.get? T=some (cXQ #[])) (F:∀ (w:bYL)(mg:Str->Option bYh)(r:Nat)(h:Heap),(K w.params).In h->h.Ns bYP mg->mg d.name=some (.ref r)-> ∃ (M:cXg)(c:Nat),cZS (K w.params) c T=true/\(K w.params).lookup T=none/\(∀ (s:bYk)(u:bYh),BindsTo s M ⟨[u],[]⟩ [(x,u)])/\ ∀base:Heap,(K w.params).In base->base.Ns bYP mg->cXn base c T->base.BuiltinsAt mg T->xE l.prog w (K w.params) mg base CX k r M [x] (sp T (K w.params))) (B:∀ (K:bYj)(H:Hp)(a:Nat)(t:List Int),t.length<=n->H T=some (.tbl #[])->SqL K H a (t.map V.int)->sp T K [.ref a] H (λv _=>v= .bl true) λ_ _ _=>False) (I:∀ (H:Hp)(s:bYk)(e:bYh)(A:bYk),CX [] H s (λ_ _ _=>False) e A->False): PySem.W.WalkO q loose Q D l.row.toRowW d [] (λf N=>PySem.call f N):=by
 refine Att.aJt X L λw s₀ m mg mb r o pm cd P a N t G Y ho hd S y p j i hg=>?_;have J:=Z w _ Y;obtain⟨M,c,O,E,hb,hF⟩:=F w mg r _ J G.T.g y;exact aYc J G.T.g G.T.b G.T.builtins G.T.nolimit hg p j (bYT i C) R (PySem.W.codeHd_of_K J O) (z w _ Y) E G.T.bmain hF hb (λH U hS=>B _ H a t i U hS) λH e A=>I H m e A
end L2
namespace Thr
open PySem L2 PyProof.Rows
open Stree (qP jJ wF)
def aZB(x:Str):Stmt->Bool
 |.FunctionDef n _ _ _ _ _ _ _ _ _=>n==x
 |_=>false
def xF(x:Str):Stmt:=(PySem.Challenge.pw_letterdesk_k06_whole_waiting_and_overdue.main.body.find? (aZB x)).getD (.Pass ⟨0,0,0,0⟩)
abbrev aVd:Stmt:=xF "thread"
abbrev bQf:Stmt:=xF "top_of"
abbrev aJ4:Stmt:=xF "answers_to_each"
theorem xB:bY2 "len"=some (.builtin "len"):=dk
theorem vA:bY2 "sorted"=some (.builtin "sorted"):=dk
theorem yZ:bY2 "isinstance"=some (.builtin "isinstance"):=dk
theorem uQ:bY2 "int"=some (.type "int"):=dk
theorem zY:bY2 "list"=some (.type "list"):=dk
theorem wV:bY2 "tuple"=some (.type "tuple"):=dk
structure vJ(mg:Str->Option bYh):Prop where
 b_len:mg "len"=none
 b_sorted:mg "sorted"=none
 b_isinstance:mg "isinstance"=none
 b_int:mg "int"=none
 b_str:mg "str"=none
 b_bool:mg "bool"=none
 b_list:mg "list"=none
 b_tuple:mg "tuple"=none
 b_range:mg "range"=none
theorem zV{a H:Hp}{c:Nat}{o:HO}(k:xC a H)(h:a c=none):xC a (upd H c o):=λb u q=>by rw[yI (yJ q h)];exact k b u q
theorem aWH{K:bYj}{a:Nat}{xs:List V}{B:List Nat}{σ:L2.St}{D:Nat}{Q:VK}{H:Hp}(hl:SqL K H a xs)(u:H D=none)(hz:xs.length<=1000) (E:∀ (d:Hp)(c:List Nat),xC H d->d D=some (.lst (c.map V.ref))->c.length=xs.length->c.Nodup->(∀b∈c,d b=some (.lst [])/\H b=none/\b≠D)->Q (.ref D) d):bV5 (Itl K a) B bKW (bKT bZF) σ D Q (upd H D (.lst [])):=by
 refine⟨λi m l d=>m=xs.length - i/\i<=xs.length/\∃c:List Nat,l=c.map V.ref/\c.length=i/\c.Nodup/\xC H d/\d D=some (.lst l)/\∀b∈c,d b=some (.lst [])/\H b=none/\b≠D,
  ⟨xs.length,by simp,cQf _,[],rfl,rfl,.nil,yG u _,yB,λb f=>nomatch f⟩,?_⟩
 rintro i m l d ⟨rfl,J,c,rfl,n,t,k,j,g⟩;refine⟨j,?_⟩;have w:=xC.seq k hl;by_cases q:i<xs.length
 ·refine .inr ⟨⟨xs,xs[i],w,bYg q⟩,λv I C=>?_⟩;obtain⟨rfl,y⟩:=C;refine⟨z0,λp h=>?_⟩;have e:p≠D:=bY0 (yJ j h);have o:p∉c:=λz=>by rw[(g p z).1]at h;cases h
  refine⟨zlt (by rw[bYl];omega),by rw[yI (bY0 e)];exact j,xs.length - (i+1),by omega,rfl,by omega,c++ [p],by simp,by simp[n],?_,?_,yB,λb f=>?_⟩
  ·rw[cXK];exact⟨t,by simp,λx A y G z=>by rw[bYy.mp G]at z;exact o (z ▸ A)⟩
  ·exact zV (k.trans (yG h _)) u
  ·rcases bYU.mp f with f|f
   ·obtain⟨r,F,s⟩:=g b f;exact⟨by rw[yI s,yI (yJ r h)];exact r,F,s⟩
   ·rw[bYy.mp f];exact⟨by rw[yI e];exact yB,k.fresh h,e⟩
 ·refine .inl ⟨⟨xs,w,by omega⟩,E d c k j (by omega) t g⟩
def wZ:Option Nat->V
 |none=> .non
 |some j=> .int (j:Nat)
def vZ(n:Nat)(L:Nat->Option Nat):List V:=(bYu n).map λi=>wZ (L i)
def qV(n:Nat)(D:Nat->Int):List V:=(bYu n).map λi=> .int (D i)
theorem jK{n i:Nat}{L:Nat->Option Nat}(h:i<n):(vZ n L)[i]? =some (wZ (L i)):=by unfold vZ;rw[bYB,cXk h];rfl
theorem aWu{n i:Nat}{D:Nat->Int}(h:i<n):(qV n D)[i]? =some (.int (D i)):=by unfold qV;rw[bYB,cXk h];rfl
def bW4(K:bYj):Sp:=λc H Q _=>∃ (a:Nat)(n:Nat)(L:Nat->Option Nat)(b:Nat->Nat)(i:Nat),c= [.ref a,.int (i:Nat)]/\SqL K H a (vZ n L)/\Fm.Ok n L b/\i<n/\Q (.int (Fm.tp L b i:Nat)) H
def wD(T:Nat):Hp->Prop:=Y8 ⟨116,48,116,71⟩ "answers_to_each.<locals>.<lambda>" T
structure bKM(n:Nat)(L:Nat->Option Nat)(D:Nat->Int)(kd:Nat->List Nat):Prop where
 mem:∀j i,i∈kd j↔i<n/\L i=some j
 ord:∀j,(kd j).Pairwise λx y=>wF (D y,(y:Int)) (D x,(x:Int))=true
def bVU(T:Nat):Sp:=λk H Q _=>∃ (g e:Nat)(n:Nat)(L:Nat->Option Nat)(h:Nat->Nat)(D:Nat->Int),k= [.ref g,.ref e]/\H g=some (.lst (vZ n L))/\H e=some (.lst (qV n D))/\Fm.Ok n L h/\n<=63/\wD T H/\
 ∀ (c:Hp)(a:Nat)(d:List Nat)(f:Nat->List Nat),xZ H c->wD T c->c a=some (.lst (d.map V.ref))->d.length=n->(∀j b,d[j]? =some b->c b=some (.lst ((f j).map λi=>V.int (i:Nat))))->bKM n L D f->Q (.ref a) c
def aWf(T:Nat):Sp:=λg H Q _=>∃ (f e:Nat)(n:Nat)(L:Nat->Option Nat)(c:Nat->Nat)(D:Nat->Int)(i:Nat),g= [.ref f,.ref e,.int (i:Nat)]/\H f=some (.lst (vZ n L))/\H e=some (.lst (qV n D))/\Fm.Ok n L c/\n<=63/\i<n/\wD T H/\
 ∀ (d:Hp)(r:Nat)(a:List Nat),(∀b u,(∀h,u≠HO.tbl h)->H b=some u->b≠r)->xZ H d->wD T d->d r=some (.lst (a.map λi=>V.int (i:Nat)))->(a.Pairwise λx y=>jJ (Fm.rd L D c x) (Fm.rd L D c y)=true)->(∀k,k∈a↔k<n/\Fm.tp L c k=Fm.tp L c i)->Q (.ref r) d
section
variable {K:bYj}
theorem bZv:yN ["links","number","top"] ["links","number"] (yH bQf):=scM
theorem bXW(T:vJ mg)(F:Fun K "top_of" "top_of" bQf f fd):xE P w K mg base CX0 1 f fd ["links","number"] (bW4 K):=by
 have u:=bZv;refine F.ok (k:=0) u (λy A outer s B C Q E D h=>?_);obtain⟨a,n,L,b,i,rfl,p,l,v,q⟩:=h;refine⟨_,(yC (yU (i:=2) (pv 1)) (yC (uC bY5 (yM z8 (yL yK (pv 0) (pv 2)) x3) (yF (yU (i:=2) (yL yK (pv 0) (pv 2))))) (yF (yP (pv 2))))),?_⟩;refine⟨_,rfl,?_⟩;refine⟨λm σ H=>∃t:Nat,σ= [some (.ref a),some (.int (i:Nat)),some (.int (t:Nat))]/\H=B/\t<n/\Fm.tp L b t=Fm.tp L b i/\m=b t,⟨b i,i,rfl,rfl,v,rfl,rfl⟩,?_⟩;rintro m σ H ⟨t,rfl,rfl,e,c,rfl⟩;refine⟨_,rfl,_,rfl,a,_,_,_,rfl,rfl,p,yT (jK e),rfl,_,rfl,?_⟩;cases hl:L t with
 |none=>refine onF rfl ⟨_,rfl,?_⟩;rw[Fm.wA hl]at c;rw[c];exact q
 |some j=>obtain⟨x,g⟩:=l.lt t j e hl;refine onT rfl ⟨λd r=>∃o,o<b t/\∃t:Nat,d= [some (.ref a),some (.int (i:Nat)),some (.int (t:Nat))]/\r=H/\t<n/\Fm.tp L b t=Fm.tp L b i/\o=b t,λd r z=>z,?_⟩;refine⟨_,rfl,_,rfl,a,_,_,_,rfl,rfl,p,yT (jK e),?_⟩;rw[hl];exact⟨b j,g,j,rfl,rfl,x,by rw[<- c,Fm.uI l e hl],rfl⟩
theorem bWV:yN ["links","dates","answers","letter"] ["links","dates"] (yH aJ4):=scM
theorem bWx:xO ["links","dates","answers","letter"] (yH aJ4) "link" [] [] {kind:= .function,names:= [(".0",.local),("link",.local)],isGenerator:=false,isCoroutine:=false,more:= [] }:=
 lcM
theorem bJR:xO ["links","dates","answers","letter"] (yH aJ4) "n" ["dates"] [1] {kind:= .function,names:= [("n",.local),("dates",.free)],isGenerator:=false,isCoroutine:=false,more:= [] }:=
 lcM
theorem bWE{oc:bYh}{od an:Option Nat}{a9:Array (Option bYh)}{kV Z pm ct:bYh}(T:vJ mg)(C:cXn base c Tb)(hB:base.BuiltinsAt mg Tb) (lk:K.lookup f=some ⟨oc,od,.func (cQD "answers_to_each" "answers_to_each" (zZ aJ4) (zI aJ4) (yH aJ4) .none kV Z pm an (.ref c) ct),a9⟩) (b3:cQ0 K (.ref c) "answers_to_each"=true): xE P w K mg base CX0 2 f (cQD "answers_to_each" "answers_to_each" (zZ aJ4) (zI aJ4) (yH aJ4) .none kV Z pm an (.ref c) ct) ["links","dates"] (bVU Tb):=by
 have sc:=bWV;refine bJJ (k:=1) lk b3 sc (λvs H Q E h=>by obtain⟨U,da,n,L,rk,D,rfl,_⟩:=h;rfl) λA outer s H0 vs Q E hr h=>?_;suffices J:∃t,PSs (aXC CX0 P w K mg base ["links","dates","answers","letter"] "answers_to_each" (yH aJ4) f (.ref c) A outer s H0 E).nox (zI aJ4) t/\t {nx:=λ_ H'=>Q .non H',rt:=Q} (start ["links","dates","answers","letter"] vs) H0 by obtain⟨t,m,v⟩:=J;exact⟨t,m.nox,v⟩
 obtain⟨U,da,n,L,rk,D,rfl,r,b5,ho,hn,hT,q⟩:=h;refine⟨_,(yC (aZY (i:=2) bWx rfl sc.nd rfl rfl (xL (pv 0)) (λ_ _ _ _ _=>wK) (λ_ _ _ _ _=>(y6 yD))) (yC (zR bY5 rfl (xL (aW8 (qual:="answers_to_each.<locals>.<lambda>") rfl T.b_sorted rfl T.b_range (yQ yO rfl T.b_len xB (yA (pv 0) yD)) bJR rfl rfl rfl C hB hr rfl rfl (λ_ _ _ _ _=>rfl) (λ_ _ _ _ _ _ _=>xG (yA (yL (show IxR _ (aZd K)from yK) (pv 1) (pv 0)) (yA (pv 0) yD))))) (y9 (i:=3)) (yF (y7 (yM z8 (yL yK (pv 0) (pv 3)) x3) (yF (yY (vM bYG bYN bYO xD (yL yK (pv 2) (yL yK (pv 0) (pv 3))) (yA (pv 3) yD)))) yS))) (yF (yP (pv 2))))),?_⟩;have I:(vZ n L).length=n:=by simp[vZ]
 refine⟨_,rfl,U,rfl,⟨_,SqL.of r⟩,λa ha=>aWH (SqL.of r) ha (by omega) λH1 g X hD a2 nd B=>?_⟩;rw[I]at a2;dsimp only[yW];have a5:=X _ _ r;have a1:=X _ _ b5;have b1:wD Tb H1:=by
  rcases hT with t|⟨c',t1,t2⟩
  ·exact .inl (X _ _ t)
  ·exact .inr ⟨c',X _ _ t1,X _ _ t2⟩
 refine⟨_,rfl,U,_,rfl,.inl (SqL.of a5),?_⟩;rw[I];refine⟨n,rfl,by omega,b1,λi=>(D i,(i:Int)),λi j _ _ z=>?_,λi H3 O k3 t3 R hR=>?_,λH5 l d k5 t5 nl N b2 h5=>⟨l,rfl,⟨_,SqL.of h5⟩,?_⟩⟩
 ·have:=congrArg Prod.snd z;simp only at this;omega
 ·refine⟨_,rfl,_,rfl,da,_,_,_,rfl,rfl,SqL.of (k3.lst a1),yT (aWu O),_,rfl,z2,λp hp=>hR p _ (yG hp _).t ?_ yB⟩;rcases t3 with t|⟨_,t,_⟩
  ·rw[yI (yJ t hp)]
  ·rw[yI (yJ t hp)]
 ·have hm:∀i∈d,i<n:=λi O=>bYS.mp (N.mem_iff.mp O);have kk:xZ H0 H5:=X.t.trans k5;have nr:∀b o,H0 b=some o->b∉g:=λb o e z=>by rw[(B b z).2.1]at e;cases e
  have r5:∀b∈g,H5 b=some (.lst []):=λb y=>k5.lst (B b y).1;have nT:Tb∉g:=λz=>by
   have e:=r5 _ z;rcases t5 with t|⟨_,t,_⟩
   ·rw[t]at e;cases e
   ·rw[t]at e;cases e
  have b4:l∉g:=λz=>by rw[(B l z).1]at nl;cases nl
  have a3:a∉g:=λz=>(B a z).2.2 rfl;have a7:H5 a=some (.lst (g.map V.ref)):=k5.lst hD;refine zG (xs:=d.map λi=>V.int (i:Nat)) (λt σ H=>∃lt,σ= [some (.ref U),some (.ref da),some (.ref a),lt]/\(∀b o,H5 b=some o->b∉g->H b=some o)/\
   ∀j b,g[j]? =some b->H b=some (.lst (((d.take t).filter λi=>decide (L i=some j)).map λi=>V.int (i:Nat)))) ?_ ?_ ?_ ?_
  ·exact⟨none,rfl,λb o e _=>e,λj b y=>r5 b (bYz y)⟩
  ·rintro t σ H ht ⟨lt,rfl,m,v⟩;exact SqL.of (m _ _ h5 b4)
  ·rintro t x σ H J ⟨lt,rfl,m,v⟩;rw[bYB]at J;cases he:d[t]? with
   |none=>rw[he]at J;cases J
   |some i=>
    rw[he]at J;cases J;have O:=hm i (bYz he);have a4:d.take (t+1)=d.take t++ [i]:=by rw[cQj,he];rfl
    have G:H U=some (.lst (vZ n L)):=m _ _ (kk.lst r) (nr _ _ r);have a8:H a=some (.lst (g.map V.ref)):=m _ _ a7 a3;dsimp only[yW];refine⟨_,rfl,_,rfl,U,_,_,_,rfl,rfl,SqL.of G,yT (jK O),rfl,_,rfl,?_⟩;cases hl:L i with
    |none=>
     refine onF rfl ⟨_,rfl,m,λj b y=>?_⟩;rw[v j b y,a4,cQr];have: [i].filter (λi=>decide (L i=some j))= []:=by simp[hl]
     rw[this,cQk]
    |some j=>
     obtain⟨hj,_⟩:=ho.lt i j O hl;have M:j<g.length:=by omega
     have y:=bYg M;have a0:=v j _ y;refine onT rfl ?_;refine⟨_,rfl,_,rfl,_,rfl,U,_,_,_,rfl,rfl,SqL.of G,yT (jK O),?_⟩;rw[hl];refine⟨a,_,_,.ref g[j],rfl,rfl,SqL.of a8,yT (by rw[bYB,y];rfl),.inl ⟨rfl,_,SqL.of a0⟩,_,rfl,g[j],_,_,rfl,rfl,a0,zlt ?_,_,rfl,λb o e a6=>?_,λY b u=>?_⟩
     ·rw[bYl];have:=cQh (λi=>decide (L i=some j)) (d.take t);have h3:=List.length_take_le t d;have h4:d.length=n:=by rw[N.length_eq,cQa]
      have h5:(d.take t).length<=d.length:=by rw[cQz];omega
      omega
     ·rw[yI (λz=>a6 (by rw[z];exact cXm M))];exact m b o e a6
     ·rw[a4,cQr];by_cases S:Y=j
      ·subst S;rw[y]at u;cases u;rw[yB];have: [i].filter (λi=>decide (L i=some Y))= [i]:=by simp[hl]
       rw[this,cQA];rfl
      ·have b0:b≠g[j]:=λz=>by
        have h6:Y<g.length:=(bYs.mp u).1;have h7:g[Y]=b:=(bYs.mp u).2;exact S ((cQ6 (h₀:=h6) (h₁:=M) nd).mp (h7.trans z))
       rw[yI b0,v Y b u];have: [i].filter (λi=>decide (L i=some Y))= []:=by simp[hl,bY0 S]
       rw[this,cQk]
  ·rintro σ H ⟨lt,rfl,m,v⟩;rw[bYl,cQe]at v;refine⟨_,rfl,q H a g (λj=>d.filter λi=>decide (L i=some j)) (λb o nt e=>m b o (kk b o nt e) (nr b o e)) ?_ (m _ _ a7 a3) a2 v ⟨λj i=>?_,λj=>?_⟩⟩
   ·rcases t5 with t|⟨c',t1,t2⟩
    ·exact .inl (m _ _ t nT)
    ·exact .inr ⟨c',m _ _ t1 nT,m _ _ t2 λz=>by rw[r5 _ z]at t2;cases t2⟩
   ·rw[cQo,N.mem_iff,bYS,decide_eq_true_eq]
   ·exact(b2.imp λh=>by simpa using h).sublist cXj
end
theorem aWE{n:Nat}{L:Nat->Option Nat}{D:Nat->Int}{a:Nat->List Nat}(h:bKM n L D a)(j:Nat):(a j).length<=n:=
 Fm.wP ((h.ord j).imp λ{x y} e z=>by rw[z,Stree.wY]at e;cases e) λx b=>((h.mem j x).mp b).1
theorem bV4{n:Nat}{L:Nat->Option Nat}{D:Nat->Int}{rk:Nat->Nat}{b:Nat}{a nx:List Nat}(W:Fm.aJm n L D rk b a nx):nx.length<=n:=
 Fm.wP (W.aa.imp λ{x y} e z=>by have:=e x (List.prefix_refl _);rw[z,Stree.vQ]at this;cases this) λx c=>(W.al x c).1
section
variable {K:bYj}
theorem bQv:yN ["links","dates","number","answers","told","ahead","letter"] ["links","dates","number"] (yH aVd):=scM
theorem aYI(T:vJ mg)(g:FnG P w K mg base 2 "answers_to_each" ["links","dates"] (bVU Tb))(p:FnG P w K mg base 2 "top_of" ["links","number"] (bW4 K))(F:Fun K "thread" "thread" aVd f fd): xE P w K mg base CX0 3 f fd ["links","dates","number"] (aWf Tb):=by
 have sc:=bQv;refine F.ok (k:=2) sc (λa6 A outer s H0 vs Q E hr h=>?_);obtain⟨la,da,n,L,y,D,i,rfl,S,a4,ho,hn,hi,hT,q⟩:=h;refine⟨_,(yC (yU (i:=3) (xJ g hr rfl (yA (pv 0) (yA (pv 1) yD)))) (yC (yU (i:=4) (y6 yD)) (yC (yU (i:=5) (y6 (yA (xJ p hr rfl (yA (pv 0) (yA (pv 2) yD))) yD))) (yC (uC bY5 (yM aXg (yQ yO rfl T.b_len xB (yA (pv 5) yD)) yE) (yC (yU (i:=6) (aYO bYG cZT cZU aYo (pv 5))) (yC (yY (vM bYG bYN bYO xD (pv 4) (yA (pv 6) yD))) (yF (yY (vM bYG PySem.F.slot_list_extend PySem.F.type_list_extend aYn (pv 5) (yA (yL yK (pv 3) (pv 6)) yD))))))) (yF (yP (pv 4))))))),?_⟩;refine⟨_,rfl,_,rfl,la,da,n,L,y,D,rfl,S,a4,ho,hn,hT,λO a rs kd k1 t1 ha a5 a3 hk=>?_⟩;dsimp only[yW];refine⟨z0,λx I=>?_⟩;dsimp only[yW];have k2:=yG I (.lst []);refine⟨_,rfl,_,rfl,la,n,L,y,i,rfl,SqL.of (k2 _ _ (k1.lst S)),ho,hi,z1,λo N=>?_⟩;dsimp only[yW];have R:O o=none:=k2.fresh N;have B:x≠o:=yJ yB N;have k3:xC O (upd (upd O x (.lst [])) o (.lst [V.int (Fm.tp L y i:Nat)])):=k2.trans (yG N _);refine⟨λm σ H=>∃ (c M:List Nat)(lt:Option V),σ= [some (.ref la),some (.ref da),some (.int (i:Nat)),some (.ref a),some (.ref x),some (.ref o),lt]/\xC O H/\H x=some (.lst (c.map λi=>V.int (i:Nat)))/\
   H o=some (.lst (M.map λi=>V.int (i:Nat)))/\Fm.aJm n L D y (Fm.tp L y i) c M.reverse/\m=n - c.length,
  ⟨n,[],[Fm.tp L y i],none,rfl,k3,by rw[yI B];exact yB,yB,Fm.aJm.start ho hi,by simp⟩,?_⟩
 rintro m σ H ⟨c,M,lt,rfl,r,X,C,W,rfl⟩;refine⟨_,rfl,o,_,rfl,.inl (SqL.of C),_,_,rfl,rfl,_,rfl,?_⟩;rcases List.eq_nil_or_concat M with rfl|⟨d,v,rfl⟩
 ·refine onF rfl ⟨_,rfl,q H x c (λb u n e=>yJ (k1 b u n e) I) (k1.trans r.t) ?_ X W.tt λk=>W.done k⟩;rcases t1 with t|⟨c',t1,t2⟩
  ·exact .inl (r _ _ t)
  ·exact .inr ⟨c',r _ _ t1,r _ _ t2⟩
 ·rw[List.concat_eq_append]at C W ⊢;have U:decide ((((d++ [v]).map λi=>V.int (i:Nat)).length:Int) > 0)=true:=by
   refine decide_eq_true ?_;rw[bYl,bYE,cQt];omega
  refine onT U ⟨λY H'=>∃m',m'<n - c.length/\∃ (c M:List Nat)(lt:Option V),Y= [some (.ref la),some (.ref da),some (.int (i:Nat)),some (.ref a),some (.ref x),some (.ref o),lt]/\xC O H'/\H' x=some (.lst (c.map λi=>V.int (i:Nat)))/\
   H' o=some (.lst (M.map λi=>V.int (i:Nat)))/\Fm.aJm n L D y (Fm.tp L y i) c M.reverse/\m'=n - c.length,λY H' z=>z,?_⟩
  have G:((d++ [v]).map λi=>V.int (i:Nat))[((d++ [v]).map λi=>V.int (i:Nat)).length - 1]? =some (V.int (v:Nat)):=by simp
  have J:((d++ [v]).map λi=>V.int (i:Nat)).dropLast=d.map λi=>V.int (i:Nat):=by simp
  refine⟨_,rfl,.inl ⟨rfl,_,SqL.of C⟩,o,_,_,rfl,rfl,C,G,?_⟩;rw[J];dsimp only[yW];have W':Fm.aJm n L D y (Fm.tp L y i) c (v::d.reverse):=by
   have:(d++ [v]).reverse=v::d.reverse:=by simp
   rw[this]at W;exact W
  have hv:=(W'.al v bYw).1;have W2:=W'.step ho (wE:=(kd v).reverse) (λj=>by rw[List.mem_reverse];exact hk.mem v j) (by rw[List.pairwise_reverse];exact hk.ord v);have l1:=W'.len;have l2:=bV4 W';have l3:=aWE hk v;have l4:=W2.len;rw[cQg,List.length_reverse]at l2;rw[bYE,cQt]at l4;have Z:upd H o (.lst (d.map λi=>V.int (i:Nat))) x=some (.lst (c.map λi=>V.int (i:Nat))):=by rw[yI B];exact X
  show aVt _ _ _ _;refine⟨_,rfl,.inl ⟨rfl,_,SqL.of Z⟩,_,rfl,x,_,_,rfl,rfl,Z,zlt (by rw[bYl];omega),?_⟩;have a0:upd (upd H o (.lst (d.map λi=>V.int (i:Nat)))) x (.lst ((c.map λi=>V.int (i:Nat))++ [V.int (v:Nat)])) o=some (.lst (d.map λi=>V.int (i:Nat))):=by rw[yI (bY0 B)];exact yB
  have k6:xC O (upd (upd H o (.lst (d.map λi=>V.int (i:Nat)))) x (.lst ((c.map λi=>V.int (i:Nat))++ [V.int (v:Nat)]))):=zV (zV r R) I;have a2:v<rs.length:=by omega
  have hb:=bYg a2;have a1:=k6 _ _ (a3 v _ hb);refine⟨_,rfl,.inl ⟨rfl,_,SqL.of a0⟩,_,rfl,_,rfl,a,_,_,.ref rs[v],rfl,rfl,SqL.of (k6 _ _ ha),yT (by rw[bYB,hb];rfl),o,rs[v],_,_,rfl,rfl,a0,a1,zn (l:=(d.map λi=>V.int (i:Nat))++((kd v).map λi=>V.int (i:Nat))) (by rw[bYE,bYl,bYl];omega) |> λz=>by rw[bYE]at z;exact z,?_⟩;refine⟨n - (c.length+1),by omega,c++ [v],d++kd v,some (.int (v:Nat)),rfl,zV k6 R,?_,?_,?_,by rw[bYE,cQt]⟩
  ·rw[yI B,yB,cQA];rfl
  ·rw[yB,cQA]
  ·rw[List.reverse_append];exact W2
end
end Thr
namespace Desk
open PySem L2 PyProof.Rows
open Bk (Row Rows)
def aZB(x:Str):Stmt->Bool
 |.FunctionDef n _ _ _ _ _ _ _ _ _=>n==x
 |_=>false
def bKy(x:Str):Stmt->Bool
 |.ClassDef n _ _ _ _ _ _ _ _ _ _=>n==x
 |_=>false
def bJA:Stmt->List Stmt
 |.ClassDef _ _ _ b _ _ _ _ _ _ _=>b
 |_=> []
abbrev text:List Stmt:=PySem.Challenge.pw_letterdesk_k06_whole_waiting_and_overdue.main.body
def xF(x:Str):Stmt:=(text.find? (aZB x)).getD (.Pass ⟨0,0,0,0⟩)
def xI(c m:Str):Stmt:=((bJA ((text.find? (bKy c)).getD (.Pass ⟨0,0,0,0⟩))).find? (aZB m)).getD (.Pass ⟨0,0,0,0⟩)
theorem xB:bY2 "len"=some (.builtin "len"):=dk
theorem vA:bY2 "sorted"=some (.builtin "sorted"):=dk
theorem zY:bY2 "list"=some (.type "list"):=dk
structure vJ(mg:Str->Option bYh):Prop where
 b_len:mg "len"=none
 b_sorted:mg "sorted"=none
 b_list:mg "list"=none
structure Cl(K:bYj)(CB CL:Nat):Prop where
 b:Cls K CB
 l:Cls K CL
 letters:wL K CB "letters"
 shut:wL K CB "shut"
 number:wL K CL "number"
 way:wL K CL "way"
 day:wL K CL "day"
 partner:wL K CL "partner"
 term:wL K CL "term"
 link:wL K CL "link"
 file:wL K CL "file"
 copies:wL K CL "copies"
 void:wL K CL "void"
abbrev wZ:Option Nat->V:=Thr.wZ
def Q0(r:Row):Int:=if r.void then 0 else r.term
def X1(r:Row):V:=if r.void then .non else .str r.place
def aZK(i:Nat)(r:Row)(c:Nat):List (Str×V):=
 [("number",.int (i:Nat)),("way",.str r.way),("day",.int r.date),("partner",.str r.partner),("term",.int (Q0 r)),("link",wZ r.link),("file",X1 r),("copies",.ref c),("void",.bl r.void)]
def aWm(CL:Nat)(H:Hp)(b:Nat)(i:Nat)(r:Row)(c:Nat):Prop:=∃a,H b=some (.ins CL a (aZK i r c))
def stV(r:Row):List V:= [.str r.way,.int r.date,.str r.partner,.int (Q0 r),wZ r.link,X1 r]
def bQH(CL:Nat):Sp:=λh H Q _=>∃ (x g:Nat)(i:Nat)(e:Str)(d:Int)(a:Str)(t:Int),h= [.ref x,.int (i:Nat),.str e,.int d,.str a,.int t]/\H x=some (.ins CL g [])/\
 ∀ (c:Nat)(f:Hp),H c=none->f x=some (.ins CL g (aZK i ⟨e,d,a,t,none,"",false,[]⟩ c))->f c=some (.lst [])->(∀b,b≠x->b≠c->f b=H b)->Q .non f
def aVs(CL:Nat):Sp:=λa H Q _=>∃ (b:Nat)(i:Nat)(r:Row)(c:Nat),a= [.ref b]/\aWm CL H b i r c/\∀t,H t=none->Q (.ref t) (upd H t (.tup (stV r)))
def bQB(CL:Nat):Sp:=λf H Q _=>∃ (b a:Nat)(i j:Nat)(r d:Row)(c e:Nat),f= [.ref b,.ref a]/\aWm CL H b i r c/\aWm CL H a j d e/\Q (.bl (decide (d.link=some i))) H
def bJg(CL:Nat):Sp:=λd H Q _=>∃ (b:Nat)(i:Nat)(r:Row)(c:Nat)(a:Str),d= [.ref b,.str a]/\aWm CL H b i r c/\H c=some (.lst (r.copies.map V.str))/\Q (.bl (decide (a=r.partner) || r.copies.contains a)) H
def bJn(CL:Nat):Sp:=λd H Q _=>∃ (b a:Nat)(i:Nat)(r:Row)(c:Nat),d= [.ref b]/\H b=some (.ins CL a (aZK i r c))/\Q .non (upd H b (.ins CL a (aZK i {r with link:=none,void:=true} c)))
def bQJ:Sp:=λa H Q _=>∃way:Str,a= [.str way]/\Q (.str (Bk.jT way)) H
section
variable {K:bYj}
abbrev aY7:Stmt:=xI "Letter" "__init__"
abbrev bQc:Stmt:=xI "Letter" "state"
abbrev aYZ:Stmt:=xI "Letter" "is_answered_by"
abbrev bVr:Stmt:=xI "Letter" "has_gone_to"
abbrev bVA:Stmt:=xI "Letter" "make_void"
abbrev aY8:Stmt:=xF "other_way"
theorem bZn:yN ["self","number","way","day","partner","term"] ["self","number","way","day","partner","term"] (yH aY7):=scM
theorem bXO(T:Cl K CB CL)(F:Fun K "__init__" "Letter.__init__" aY7 f fd):xE P w K mg base CX0 (n+1) f fd ["self","number","way","day","partner","term"] (bQH CL):=by
 have o:=bZn;refine F.ok (k:=n) o (λv A outer s H z Q E B h=>?_);obtain⟨x,a,i,r,d,y,t,rfl,m,q⟩:=h;refine⟨_,(yC (zO (pv 0) (pv 1) rfl) (yC (zO (pv 0) (pv 2) rfl) (yC (zO (pv 0) (pv 3) rfl) (yC (zO (pv 0) (pv 4) rfl) (yC (zO (pv 0) (pv 5) rfl) (yC (zO (pv 0) x3 rfl) (yC (zO (pv 0) yR rfl) (yC (zO (pv 0) (y6 yD) rfl) (yF (zO (pv 0) wQ rfl)))))))))),?_⟩;refine⟨_,rfl,_,rfl,x,CL,a,_,rfl,m,T.l,T.number,(show 0<1000 by decide),?_⟩;refine⟨_,rfl,_,rfl,x,CL,a,_,rfl,yB,T.l,T.way,(show 1<1000 by decide),?_⟩;refine⟨_,rfl,_,rfl,x,CL,a,_,rfl,yB,T.l,T.day,(show 2<1000 by decide),?_⟩;refine⟨_,rfl,_,rfl,x,CL,a,_,rfl,yB,T.l,T.partner,(show 3<1000 by decide),?_⟩;refine⟨_,rfl,_,rfl,x,CL,a,_,rfl,yB,T.l,T.term,(show 4<1000 by decide),?_⟩;refine⟨_,rfl,x,CL,a,_,rfl,yB,T.l,T.link,(show 5<1000 by decide),?_⟩;refine⟨_,rfl,x,CL,a,_,rfl,yB,T.l,T.file,(show 6<1000 by decide),?_⟩;refine⟨z0,λc j=>?_⟩;have e:x≠c:=yJ yB j;refine⟨_,rfl,x,CL,a,_,rfl,(yI e).trans yB,T.l,T.copies,(show 7<1000 by decide),?_⟩;refine⟨_,rfl,x,CL,a,_,rfl,yB,T.l,T.void,(show 8<1000 by decide),?_⟩;have g:H c=none:=by simp only[yI (bY0 e)]at j;exact j
 refine q c _ g yB (by rw[yI (bY0 e),yI (bY0 e),yB]) λb p u=>?_;simp only[yI p,yI u]
theorem bZs:yN ["self"] ["self"] (yH bQc):=scM
theorem bXT(T:Cl K CB CL)(F:Fun K "state" "Letter.state" bQc f fd):xE P w K mg base CX0 (n+1) f fd ["self"] (aVs CL):=by
 have e:=bZs;refine F.ok (k:=n) e (λj A outer s H m Q E o h=>?_);obtain⟨b,i,r,c,rfl,⟨a,d⟩,q⟩:=h;refine⟨_,(yF (yP (xG (yA (y3 (pv 0) rfl) (yA (y3 (pv 0) rfl) (yA (y3 (pv 0) rfl) (yA (y3 (pv 0) rfl) (yA (y3 (pv 0) rfl) (yA (y3 (pv 0) rfl) yD))))))))),?_⟩;refine⟨_,rfl,b,CL,a,_,_,rfl,d,T.l,T.way,rfl,?_⟩;refine⟨_,rfl,b,CL,a,_,_,rfl,d,T.l,T.day,rfl,?_⟩;refine⟨_,rfl,b,CL,a,_,_,rfl,d,T.l,T.partner,rfl,?_⟩;refine⟨_,rfl,b,CL,a,_,_,rfl,d,T.l,T.term,rfl,?_⟩;refine⟨_,rfl,b,CL,a,_,_,rfl,d,T.l,T.link,rfl,?_⟩;refine⟨_,rfl,b,CL,a,_,_,rfl,d,T.l,T.file,rfl,?_⟩;exact⟨by show 6<=bYJ;decide,λt g=>q t g⟩
theorem aJC{o:Option Nat}{m:Nat}:decide (wZ o=V.int (m:Nat))=decide (o=some m):=by
 cases o with
 |none=>rfl
 |some j=>show decide (V.int (j:Nat)=V.int (m:Nat))=decide (some j=some m);rw[Bool.eq_iff_iff];simp;omega
theorem bZe:yN ["self","other"] ["self","other"] (yH aYZ):=scM
theorem bXF(T:Cl K CB CL)(F:Fun K "is_answered_by" "Letter.is_answered_by" aYZ f fd):xE P w K mg base CX0 (n+1) f fd ["self","other"] (bQB CL):=by
 have e:=bZe;refine F.ok (k:=n) e (λp A outer s H v Q E x h=>?_);obtain⟨b,t,i,j,r,g,c,u,rfl,⟨m,o⟩,⟨d,a⟩,q⟩:=h;refine⟨_,(yF (yP (zP zF (y3 (pv 1) rfl) (y3 (pv 0) rfl)))),?_⟩;refine⟨_,rfl,t,CL,d,_,_,rfl,a,T.l,T.link,rfl,?_⟩;refine⟨_,rfl,b,CL,m,_,_,rfl,o,T.l,T.number,rfl,?_⟩;rw[<- aJC]at q;refine⟨?_,q⟩;cases g.link<;> rfl
theorem wW(x:Str):∀ns:List Str,inV (.str x) (ns.map V.str)=ns.contains x
 |[]=>rfl
 |n::r=>by have a:=wW x r;unfold inV at a ⊢;rw[bY4,cXB,a,cXE];congr 1;show(n==x)=(x==n);rw[Bool.eq_iff_iff,beq_iff_eq,beq_iff_eq];exact eq_comm
theorem aZw:∀ns:List Str,(ns.map V.str).all J9=true
 |[]=>rfl
 |n::r=>by rw[bY4,cZt,aZw r];rfl
theorem bVE:yN ["self","person"] ["self","person"] (yH bVr):=scM
theorem bJ2(T:Cl K CB CL)(F:Fun K "has_gone_to" "Letter.has_gone_to" bVr f fd):xE P w K mg base CX0 (n+1) f fd ["self","person"] (bJg CL):=by
 have j:=bVE;refine F.ok (k:=n) j (λo A outer s H t Q E u h=>?_);obtain⟨b,i,r,c,a,rfl,⟨e,g⟩,m,q⟩:=h;refine⟨_,(yF (yP (bWL (zP zF (pv 1) (y3 (pv 0) rfl)) (aZU (zP vD (pv 1) (y3 (pv 0) rfl)))))),?_⟩;refine⟨_,rfl,_,rfl,b,CL,e,_,_,rfl,g,T.l,T.partner,rfl,rfl,?_⟩;have p:decide (V.str a=V.str r.partner)=decide (a=r.partner):=by rw[Bool.eq_iff_iff];simp
 refine⟨_,rfl,?_⟩;rw[p];cases d:decide (a=r.partner)with
 |true=>rw[d,Bool.true_or]at q;exact onT rfl q
 |false=>rw[d,Bool.false_or]at q;refine onF rfl ⟨_,rfl,_,rfl,b,CL,e,_,_,rfl,g,T.l,T.copies,rfl,c,_,rfl,.inl (SqL.of m),rfl,aZw _,?_⟩;rw[if_neg (by decide),wW];exact q
theorem bVP:yN ["self"] ["self"] (yH bVA):=scM
theorem bVe(T:Cl K CB CL)(F:Fun K "make_void" "Letter.make_void" bVA f fd):xE P w K mg base CX0 (n+1) f fd ["self"] (bJn CL):=by
 have d:=bVP;refine F.ok (k:=n) d (λg A outer s H j Q E m h=>?_);obtain⟨b,a,i,r,c,rfl,e,q⟩:=h;refine⟨_,(yC (zO (pv 0) wQ rfl) (yC (zO (pv 0) x3 rfl) (yC (zO (pv 0) x3 rfl) (yF (zO (pv 0) yE rfl))))),?_⟩;refine⟨_,rfl,b,CL,a,_,rfl,e,T.l,T.void,(show 9<1000 by decide),?_⟩;refine⟨_,rfl,b,CL,a,_,rfl,yB,T.l,T.link,(show 9<1000 by decide),?_⟩;refine⟨_,rfl,b,CL,a,_,rfl,yB,T.l,T.file,(show 9<1000 by decide),?_⟩;refine⟨_,rfl,b,CL,a,_,rfl,yB,T.l,T.term,(show 9<1000 by decide),?_⟩;rw[jB,jB,jB];exact q
theorem bZo:yN ["way"] ["way"] (yH aY8):=scM
theorem bXP(F:Fun K "other_way" "other_way" aY8 f fd):xE P w K mg base CX0 (n+1) f fd ["way"] bQJ:=by
 have d:=bZo;refine F.ok (k:=n) d (λb A outer s H g Q E e h=>?_);obtain⟨a,rfl,q⟩:=h;refine⟨_,(yF (yP (aVS (yM zF (pv 0) yR) yR yR))),?_⟩;unfold Bk.jT at q;have c:decide (V.str a=V.str "in")=decide (a="in"):=by rw[Bool.eq_iff_iff];simp
 refine⟨_,rfl,rfl,_,rfl,?_⟩;rw[c];by_cases hw:a="in"
 ·rw[if_pos hw]at q;exact onT (decide_eq_true hw) q
 ·rw[if_neg hw]at q;exact onF (decide_eq_false hw) q
end
end Desk
namespace L2
open PySem PySem.Spec PyProof.Rows
section
variable {κ:Type} [DecidableEq κ]
def aQd(kvs:List (κ×V))(k:κ):Option V:=(kvs.find? λa=>decide (a.1=k)).map (·.2)
def aJ1(kvs:List (κ×V))(k:κ)(v:V):List (κ×V):=
 if(kvs.any λa=>decide (a.1=k))=true then kvs.map (λa=>if a.1=k then(a.1,v)else a)else kvs++ [(k,v)]
theorem wC{p:κ×V}{r:List (κ×V)}{k:κ}(e:p.1=k):aQd (p::r) k=some p.2:=by simp[aQd,cXG,e]
theorem wB{p:κ×V}{r:List (κ×V)}{k:κ}(e:¬p.1=k):aQd (p::r) k=aQd r k:=by simp[aQd,cXG,e]
theorem aQe(k:κ):∀kvs:List (κ×V),(kvs.any λa=>decide (a.1=k))=(aQd kvs k).isSome
 |[]=>rfl
 |p::r=>by
  rw[cXB];by_cases e:p.1=k
  ·simp only[wC e,decide_eq_true e,Bool.true_or,Option.isSome_some]
  ·rw[wB e,decide_eq_false e,Bool.false_or];exact aQe k r
theorem aWj(k j:κ)(y:V):∀kvs:List (κ×V),aQd (kvs.map λa=>if a.1=k then(a.1,y)else a) j=(aQd kvs j).map λx=>if j=k then y else x
 |[]=>rfl
 |p::r=>by
  have b:=aWj k j y r;rw[bY4];by_cases h:p.1=k
  ·rw[if_pos h];by_cases e:p.1=j
   ·rw[wC (p:=(p.1,y)) e,wC e,Option.map_some,if_pos (e.symm.trans h)]
   ·rw[wB (p:=(p.1,y)) e,wB e,b]
  ·rw[if_neg h];by_cases e:p.1=j
   ·rw[wC (p:=p) e,wC e,Option.map_some,if_neg (λz=>h (e.trans z))]
   ·rw[wB (p:=p) e,wB e,b]
theorem aJk(k j:κ)(y:V):∀kvs:List (κ×V),aQd kvs k=none->aQd (kvs++ [(k,y)]) j=if j=k then some y else aQd kvs j
 |[],_=>by
  by_cases e:k=j
  ·rw[if_pos e.symm];exact wC (p:=(k,y)) e
  ·rw[if_neg (λz=>e z.symm)];exact wB (p:=(k,y)) e
 |p::r,hn=>by
  rw[cZQ];have a:¬p.1=k:=λz=>by rw[wC z]at hn;cases hn
  rw[wB a]at hn;have b:=aJk k j y r hn;by_cases e:p.1=j
  ·rw[wC e,wC e,if_neg (λz=>a (e.trans z))]
  ·rw[wB e,wB e,b]
theorem bZP(kvs:List (κ×V))(k j:κ)(y:V):aQd (aJ1 kvs k y) j=if j=k then some y else aQd kvs j:=by
 unfold aJ1;by_cases a:(kvs.any λc=>decide (c.1=k))=true
 ·rw[if_pos a,aWj];rw[aQe]at a;by_cases e:j=k
  ·obtain⟨x,b⟩:=Option.isSome_iff_exists.mp a;rw[if_pos e,e,b,Option.map_some,if_pos rfl]
  ·rw[if_neg e];cases aQd kvs j with
   |none=>rfl
   |some x=>rw[Option.map_some,if_neg e]
 ·rw[if_neg a];refine aJk k j y kvs ?_;rw[aQe]at a;cases q:aQd kvs k with
  |none=>rfl
  |some x=>rw[q]at a;exact(a rfl).elim
theorem qH(kvs:List (κ×V))(k:κ)(v:V):(aJ1 kvs k v).length<=kvs.length+1:=by
 unfold aJ1;split
 ·rw[bYl];omega
 ·rw[bYE,cQg,cXs];omega
theorem aZh.isSome_eq{o:Option V}{u:Option bYh}(r:aZh o u):o.isSome=u.isSome:=by
 cases o with
 |none=>cases u with
  |none=>rfl
  |some _=>exact(show False from r).elim
 |some _=>cases u with
  |none=>exact(show False from r).elim
  |some _=>rfl
theorem KV.val{kvs:List (κ×V)}{vs:List (κ×bYh)}(r:KV kvs vs)(k:κ):aZh (aQd kvs k) (cZB vs k):=by
 unfold KV at r;induction r with
 |nil=>exact cQF
 |@cons p q i c h t g=>
  obtain⟨d,f⟩:=h;by_cases e:p.1=k
  ·have a:q.1=k:=d.symm.trans e;have b:cZB (q::c) k=some q.2:=by simp[cZB,cXG,a]
   rw[wC e,b];exact f
  ·have a:¬q.1=k:=λz=>e (d.trans z);have b:cZB (q::c) k=cZB c k:=by simp[cZB,cXG,a]
   rw[wB e,b];exact g
theorem KV.any{kvs:List (κ×V)}{vs:List (κ×bYh)}(r:KV kvs vs)(k:κ):(kvs.any λa=>decide (a.1=k))=vs.any λa=>decide (a.1=k):=by
 unfold KV at r;induction r with
 |nil=>rfl
 |cons h t b=>rw[cXB,cXB,b,h.1]
theorem KV.repl{kvs:List (κ×V)}{vs:List (κ×bYh)}(r:KV kvs vs)(k:κ){y:V}{u:bYh}(f:zM y u): KV (kvs.map λa=>if a.1=k then(a.1,y)else a) (vs.map λa=>if a.1=k then(a.1,u)else a):=by
 unfold KV at r ⊢;induction r with
 |nil=>exact .nil
 |@cons p q i g h t c=>
  rw[bY4,bY4];refine .cons ?_ c;obtain⟨b,d⟩:=h;by_cases e:p.1=k
  ·rw[if_pos e,if_pos (b.symm.trans e)];exact⟨b,f⟩
  ·rw[if_neg e,if_neg (λz=>e (b.trans z))];exact⟨b,d⟩
theorem KV.put{kvs:List (κ×V)}{vs:List (κ×bYh)}(r:KV kvs vs)(k:κ){y:V}{u:bYh}(a:zM y u):KV (aJ1 kvs k y) (stored vs k u):=by
 unfold aJ1 stored;rw[r.any k];by_cases e:(vs.any λb=>decide (b.1=k))=true
 ·rw[if_pos e,if_pos e];exact r.repl k a
 ·rw[if_neg e,if_neg e];exact cZb r ⟨rfl,a⟩
theorem KV.length{kvs:List (κ×V)}{vs:List (κ×bYh)}(r:KV kvs vs):kvs.length=vs.length:=cQZ r
end
theorem bXl{P:bYD}{w:bYL}{k:Key}{u:bYh}(r:zM (kV k) u):(zA P w).is k u=true:=by
 cases k with
 |inl i=>obtain⟨t,e⟩:=(show ∃t,u=Value.int i t from r);subst e;exact aJK P w i t
 |inr x=>obtain⟨t,e⟩:=(show ∃t,u=Value.str x t from r);subst e;exact qI P w x t
theorem aZD{P:bYD}{w:bYL}:∀ {a:List Key} {us:List bYh},xV (a.map kV) us->ItemsAre (zA P w) a us
 |[],_,r=>by rw[List.map_nil]at r;cases r;exact .nil
 |k::a,_,r=>by
  rw[bY4]at r;cases r with
  |cons h t=>exact .cons (bXl h) (aZD t)
abbrev KT(H:Hp):List (List Key×V)->List (List Key×Addr×bYh)->Prop:=bY6 λp q=>p.1=q.1/\H q.2.1=some (.tup (p.1.map kV))/\zM p.2 q.2.2
theorem KT.val{H:Hp}{kvs:List (List Key×V)}{xs:List (List Key×Addr×bYh)}(r:KT H kvs xs)(k:List Key):aZh (aQd kvs k) ((atKey xs k).map (·.2)):=by
 induction r with
 |nil=>exact cQF
 |@cons p q i a h t f=>
  obtain⟨d,_,g⟩:=h;by_cases e:p.1=k
  ·have c:q.1=k:=d.symm.trans e;have b:atKey (q::a) k=some q.2:=by simp[atKey,cXG,c]
   rw[wC e,b];exact g
  ·have c:¬q.1=k:=λz=>e (d.trans z);have b:atKey (q::a) k=atKey a k:=by simp[atKey,cXG,c]
   rw[wB e,b];exact f
theorem KT.repl{H:Hp}{kvs:List (List Key×V)}{xs:List (List Key×Addr×bYh)}(r:KT H kvs xs)(k:List Key){y:V}{u:bYh}(g:zM y u): KT H (kvs.map λb=>if b.1=k then(b.1,y)else b) (xs.map (putAt k u)):=by
 induction r with
 |nil=>exact .nil
 |@cons p q j i h t f=>
  rw[bY4,bY4];refine .cons ?_ f;obtain⟨a,c,d⟩:=h;unfold putAt;by_cases e:p.1=k
  ·rw[if_pos e,if_pos (a.symm.trans e)];exact⟨a,c,g⟩
  ·rw[if_neg e,if_neg (λz=>e (a.trans z))];exact⟨a,c,d⟩
theorem KT.put{H:Hp}{kvs:List (List Key×V)}{xs:List (List Key×Addr×bYh)}(r:KT H kvs xs)(k:List Key){b:Addr}{y:V}{u:bYh}(d:H b=some (.tup (k.map kV)))(a:zM y u): KT H (aJ1 kvs k y) (storedH xs k b u):=by
 have e:(kvs.any λc=>decide (c.1=k))=(atKey xs k).isSome:=by rw[aQe,(r.val k).isSome_eq,Option.isSome_map]
 unfold aJ1 storedH;rw[e];by_cases q:(atKey xs k).isSome=true
 ·rw[if_pos q,if_pos q];exact r.repl k a
 ·rw[if_neg q,if_neg q];exact cZb r ⟨rfl,d,a⟩
theorem KT.keeps{H c:Hp}{kvs:List (List Key×V)}{xs:List (List Key×Addr×bYh)}(r:KT H kvs xs)(d:∀b a,H b=some (.tup a)->c b=some (.tup a)):KT c kvs xs:=
 Paired.mapP r λ_ _ z=>⟨z.1,d _ _ z.2.1,z.2.2⟩
section
variable {P:bYD}{w:bYL}{H:Hp}{h:Heap}{a:Addr}
theorem bWT{u:HO}(ok:HOk P w H h)(e:Rd H a u):zE P w H h a u:=e.ok ok
theorem bWo{kvs:List (Key×V)}(ok:HOk P w H h)(e:Rd H a (.dK kvs)):kvs.length<=bYJ/\(a==cX8)=false/\∃b,KV kvs b/\h.DictOf (zA P w) a b:=
 show zE P w H h a (.dK kvs)from bWT ok e
theorem bKu{kvs:List (Key×V)}(ok:HOk P w H h)(e:H a=some (.dK kvs)):kvs.length<=bYJ/\(a==cX8)=false/\∃b,KV kvs b/\h.DictOf (zA P w) a b:=bWo ok (.inl e)
theorem aYb{c:List Key}(ok:HOk P w H h)(e:H a=some (.tup (c.map kV))):(tupleKind (zA P w)).is h c a:=by
 obtain⟨_,b,r,o,d,f,n,g⟩:=(show zE P w H h a (.tup (c.map kV))from ok a _ e);exact⟨o,b.toArray,n,d,f,g,by simpa using aZD r⟩
theorem bWp{kvs:List (List Key×V)}(ok:HOk P w H h)(e:Rd H a (.dT kvs)):kvs.length<=bYJ/\(a==cX8)=false/\ ∃c,KT H kvs c/\h.DictOfH (tupleKind (zA P w)) a c:=by
 obtain⟨z,y,c,r,o,f,i,j,u,k,s,g⟩:=(show zE P w H h a (.dT kvs)from bWT ok e);refine⟨z,y,c,r,o,f,i,j,u,k,s,λx b=>?_,g⟩;have all:∀ {l:List (List Key×V)} {m:List (List Key×Addr×bYh)},KT H l m->∀x∈m,(tupleKind (zA P w)).is h x.1 x.2.1:=by
  intro l m q;induction q with
  |nil=>intro x b;exact nomatch b
  |@cons p q A v d t n=>
   intro x b;rcases bYq.mp b with e|b
   ·subst e;exact aYb ok (by rw[<- d.1];exact d.2.1)
   ·exact n x b
 exact all r x b
theorem vK{kvs:List (List Key×V)}(ok:HOk P w H h)(e:H a=some (.dT kvs)):kvs.length<=bYJ/\(a==cX8)=false/\
  ∃b,KT H kvs b/\h.DictOfH (tupleKind (zA P w)) a b:=bWp ok (.inl e)
end
def bV9(H:Hp)(a:Addr)(y:V)(r:Option V):Prop:=
 (∃kvs k,Rd H a (.dK kvs)/\y=kV k/\r=aQd kvs k)\/∃kvs k b,Rd H a (.dT kvs)/\y= .ref b/\H b=some (.tup (k.map kV))/\r=aQd kvs k
def bWa(H:Hp)(a:Addr)(y v:V)(c:Hp):Prop:=
 (∃kvs k,H a=some (.dK kvs)/\y=kV k/\kvs.length<bYJ/\c=upd H a (.dK (aJ1 kvs k v)))\/
 ∃kvs k b,H a=some (.dT kvs)/\y= .ref b/\H b=some (.tup (k.map kV))/\kvs.length<bYJ/\c=upd H a (.dT (aJ1 kvs k v))
theorem bV9.k{H:Hp}{a:Addr}{kvs:List (Key×V)}{k:Key}(e:H a=some (.dK kvs)):bV9 H a (kV k) (aQd kvs k):= .inl ⟨kvs,k,.inl e,rfl,rfl⟩
theorem bWa.k{H:Hp}{a:Addr}{kvs:List (Key×V)}{k:Key}{v:V}(e:H a=some (.dK kvs))(hl:kvs.length<bYJ):bWa H a (kV k) v (upd H a (.dK (aJ1 kvs k v))):= .inl ⟨kvs,k,e,rfl,hl,rfl⟩
section
variable {X:Cx}{pins:List (Addr×Obj)}{σ:St}{H:Hp}{s:bYk}{a:Addr}{y v:V}{u r:bYh}{o:Option V}{A:bYZ}{E:bYh->bYk->Prop}
theorem Inv.big(I:Inv X pins σ H s):cX8<s.heap.objs.size:=by
 have h:bYP<s.heap.objs.size:=(I.mod.glob.keeps I.bk).lt;exact Nat.lt_trans (by decide) h
theorem bJD{Q:bYh->bYk->Prop}(n:A.units+1<cLine)(I:Inv X pins σ H s)(g:bV9 H a y o)(m:zM y u)(h:∀j,Inv X pins σ H j->Q (.bool (!o.isSome)) j): bYp (bYr X.prog X.w) A (cQN .NotIn u (.ref a)) Q E s:=by
 rcases g with⟨kvs,k,e,f,l⟩|⟨kvs,k,b,e,f,p,l⟩
 ·subst f;obtain⟨z,d,t,c,i⟩:=bWo I.hok e;refine wpAny_notIn_of (bXl m) d i.mapOf ?_;rw[<- (c.val k).isSome_eq,<- l];exact h _ (I.tok _)
 ·subst f;cases (show u=Value.ref b from m);obtain⟨z,d,r,c,i⟩:=bWp I.hok e;refine wpAny_notIn_heap (tupleKind_room_in1 n) (aYb I.hok p) d i ?_;have q:=(c.val k).isSome_eq;rw[Option.isSome_map]at q;rw[<- q,<- l];exact h _ (I.tok _)
theorem aKP{h':Heap}{t':Nat}{c:HO}(I:Inv X pins σ H s)(f:Mut (H a))(h:cXl a s.heap h')(g:∃q,h'.get? a=some q)(d:zE X.prog X.w (upd H a c) h' a c): Inv X pins σ (upd H a c) {s with heap:=h',toks:=t'}:=
 I.write (x:=a) (e:=a) f (.inl rfl) (λb q i z=>(h.2 b i).trans z) g d
theorem bWn{P:bYD}{w:bYL}{e:Hp}{h':Heap}{kvs:List (Key×V)}{vs:List (Key×bYh)}(z:kvs.length<=bYJ)(c:(a==cX8)=false)(b:KV kvs vs)(d:h'.DictOf (zA P w) a vs):
  zE P w e h' a (.dK kvs):=⟨z,c,vs,b,d⟩
theorem aKO{J:Hp}{Q:Unit->bYk->Prop}(U:A.units+1<cLine)(I:Inv X pins σ H s)(g:bWa H a y v J)(F:zM y u)(x:zM v r)(h:∀C,Inv X pins σ J C->Q () C): bYp (bYr X.prog X.w) A (setItem (.ref a) u r) Q E s:=by
 rcases g with⟨kvs,k,e,m,l,n⟩|⟨kvs,k,b,e,m,G,l,n⟩
 ·subst m n;obtain⟨z,j,P,d,p⟩:=bKu I.hok e;have t:P.length<=bYJ:=by rw[<- d.length];exact z
  have hl:(aJ1 kvs k v).length<=bYJ:=by have:=qH kvs k v;omega
  refine wpAny_setItem_pairs (hsz:=t) (bXl F) p λD f o=>h _ ?_;have L:∃q,D.get? a=some q:=let ⟨q,_,_,i,_⟩:=f;⟨q,i⟩;exact aKP I (by rw[e];exact cQF) o L (bWn hl j (d.put k x) f)
 ·subst m n;cases (show u=Value.ref b from F);obtain⟨z,j,O,d,p⟩:=vK I.hok e;have t:O.length<=bYJ:=by rw[<- cQZ d];exact z
  have hl:(aJ1 kvs k v).length<=bYJ:=by have:=qH kvs k v;omega
  refine wpAny_setItem_heap (hsz:=t) (tupleKind_room_in1 U) (aYb I.hok G) p λD f o=>h _ ?_;obtain⟨q,K,N,i,T,R,S,_,M⟩:=f;refine aKP I (by rw[e];exact cQF) o ⟨q,i⟩ ⟨hl,j,_,(d.put k G x).keeps λc V B=>?_,q,K,N,i,T,R,S,M⟩;rw[yI (aXc B e (λz=>nomatch z))];exact B
end
section
variable {X:Cx}{pins:List (Addr×Obj)}{σ:St}{H:Hp}{s:bYk}{a:Addr}{kvs:List (Key×V)}{k:Key}{u:bYh}{A:bYZ}{E:bYh->bYk->Prop}
end
def bKN(i:Expr):Prop:=∀b a,subscripted i false b a=operate [b,a] (getItem b a)
theorem bVW{prog:bYD}{w:bYL}{A:bYZ}{E:bYh->bYk->Prop}{s:bYk}{env:Env}{value a:Expr}{pos:Pos}{T id:String}{Q:bYh->bYk->Prop} (hl:typeLookup (.type T) "__getitem__"=pure (some (.builtin id))) (k:bKN a) (h:bYp (bYr prog w) A (eval value env) (λo e=>bYp (bYr prog w) A (eval a env) (λi b=>b.TypeIs o T/\bYp (bYr prog w) A (getItem o i) Q E b) E e) E s): bYp (bYr prog w) A (eval (.Subscript value a pos) env) Q E s:=by
 refine Subscript_ (cQl h (λo e f=>cQl f (λi b c=>?_) λ_ _ x=>x) λ_ _ x=>x);obtain⟨j,c⟩:=c;unfold subscriptTail;refine bYi ?_;rw[getitemInPython_of_ne j.not_modules];refine bYi (wpAny_specialOf j hl ?_);have fin:bYp (bYr prog w) A (subscripted a false o i) (λr d=>bYp (bYr prog w) A (letTemporaryGo value o r >>=λ_=>pure r) Q E d) E b:=by rw[k o i];exact wpAny_operating (cQl c (λr d g=>bYi (wpAny_letTemporaryGo (bYn g))) λ_ _ x=>x)
 first
  |exact bYn (bYi fin)
  |exact bYi (bYn (bYi fin))
  |exact bYi fin
def bVX(ty td:TE):TE:=λσ H Q=>ty σ H λy c=>td σ c λx b=>∃a o,x= .ref a/\bV9 b a y o/\Q (.bl (!o.isSome)) b
def bKE(td ty tv:TE):TS:=λD σ H=>tv σ H λv e=>td σ e λx d=>ty σ d λy c=>∃a b,x= .ref a/\bWa c a y v b/\D.nx σ b
section
variable {X:Cx}{o i e value:Expr}{pos pos' tpos:Pos}{td ty tv:TE}
theorem aYN(c:X.A.units+1<cLine)(b:PE X i ty)(e:PE X o td):PC X .NotIn i o (bVX ty td):=by
 intro pins s σ H Q I h;refine thn (b pins s σ H _ I h) λiv s1 ⟨y,H1,I1,ry,q1⟩=>thn (e pins s1 σ H1 _ I1 q1) λu s2 ⟨x,H2,I2,rx,a,ov,ex,g,q2⟩=>?_;subst ex;obtain rfl:u=Value.ref a:=rx;exact bJD c I2 g ry λf d=>⟨.bl (!ov.isSome),H2,d,rfl,q2⟩
theorem bVk(e:X.A.units+1<cLine)(j:PE X o td)(b:PE X i ty)(f:PE X value tv)(c:swapsWith value (some (.Subscript o i pos')) pos.line X.env=pure false): PS X (.Assign [.Subscript o i pos'] value pos) (bKE td ty tv):=by
 intro pins s σ H D I h;refine wpAny_Assign_Subscript (thn (f pins s σ H _ I h) λr s1 ⟨v,H1,I1,rv,q1⟩=>thn (j pins s1 σ H1 _ I1 q1) λu s2 ⟨x,H2,I2,rx,q2⟩=>thn (b pins s2 σ H2 _ I2 q2) λiv s3 ⟨y,H3,I3,ry,a,H4,ex,g,q3⟩=>?_) c;subst ex;obtain rfl:u=Value.ref a:=rx;exact aKO e I3 g ry rv λk d=>⟨σ,H4,d,q3⟩
end
theorem bQ9{P:bYD}{w:bYL}{H:Hp}(h:Heap)(a:cX8<h.objs.size):zE P w H (h.push {cls:= .type "dict",data:= .dict #[] }) h.objs.size (.dK []):=
 ⟨cQf _,beq_eq_false_iff_ne.mpr (bY0 (bYI a)),[],.nil,Heap.DictOf.new h⟩
def bW6:TE:=λ_ H Q=>∀p,H p=none->Q (.ref p) (upd H p (.dK []))
section
variable {X:Cx}{pos:Pos}
theorem bX1:PE X (.Dict [] [] pos) bW6:=λpins s σ H Q I h=>
 wpAny_Dict_empty ⟨.ref s.heap.objs.size,_,I.laid (a:=s.heap.objs.size) (o:= .dK []) (t':=s.toks) (λ_ _ q=>bYm _ q) (bYo _) (bQ9 s.heap I.big),rfl,h _ (I.hok.fresh (bYo _))⟩
end
structure M1(X:Cx)(o:Expr)(m:Str)(apos:Pos)(e:Expr)(cpos:Pos):Prop where
 base:cX4 o m X.env (eval o X.env)=eval o X.env
 few:((cQV cpos (bYX [e] X.env)).all (λx=> !x.1) && (cZr cpos (cXD [] X.env)).all (λx=>x.1.isSome)
  && decide (([e]:List Expr).length+([]:List Keyword).length+(if([]:List Keyword).isEmpty then 0 else 1)<30))=true
 line:(apos.endLine==cpos.line)=true
 trees:cQV cpos (bYX [e] X.env)= [(false,eval e X.env)]
structure M2(X:Cx)(o:Expr)(m:Str)(apos:Pos)(e f:Expr)(cpos:Pos):Prop where
 base:cX4 o m X.env (eval o X.env)=eval o X.env
 few:((cQV cpos (bYX [e,f] X.env)).all (λx=> !x.1) && (cZr cpos (cXD [] X.env)).all (λx=>x.1.isSome)
  && decide (([e,f]:List Expr).length+([]:List Keyword).length+(if([]:List Keyword).isEmpty then 0 else 1)<30))=true
 line:(apos.endLine==cpos.line)=true
 trees:cQV cpos (bYX [e,f] X.env)= [(false,eval e X.env),(false,eval f X.env)]
section
variable {X:Cx}{pins:List (Addr×Obj)}{σ:St}{H:Hp}{s:bYk}{a:Addr}{y d:V}{u r:bYh}{o:Option V}{A:bYZ}{E:bYh->bYk->Prop}
end
section
variable {X:Cx}{o e f:Expr}{apos cpos:Pos}{td ty tx:TE}
end
section
variable {X:Cx}{pins:List (Addr×Obj)}{σ:St}{H:Hp}{s:bYk}{a:Addr}{kvs:List (Key×V)}{A:bYZ}{E:bYh->bYk->Prop}
end
section
variable {X:Cx}{pins:List (Addr×Obj)}{σ:St}{H:Hp}{s:bYk}{a:Addr}{y:V}{u:bYh}{A:bYZ}{E:bYh->bYk->Prop}
end
end L2
namespace L2
open PySem PySem.Spec PyProof.Rows
section
variable {κ:Type} [DecidableEq κ]
end
end L2
namespace Days
open PySem L2 PyProof.Rows
def aZB(x:Str):Stmt->Bool
 |.FunctionDef n _ _ _ _ _ _ _ _ _=>n==x
 |_=>false
def xF(x:Str):Stmt:=(PySem.Challenge.pw_letterdesk_k06_whole_waiting_and_overdue.main.body.find? (aZB x)).getD (.Pass ⟨0,0,0,0⟩)
abbrev aJ8:Stmt:=xF "counts"
abbrev bVw:Stmt:=xF "open_by_rest"
abbrev aXS:Stmt:=xF "closed_days"
abbrev bQa:Stmt:=xF "place_of"
theorem aKI:bY2 "min"=some (.builtin "min"):=dk
theorem vA:bY2 "sorted"=some (.builtin "sorted"):=dk
theorem bWm:bY2 "set"=some (.type "set"):=dk
structure vJ(mg:Str->Option bYh):Prop where
 b_len:mg "len"=none
 b_min:mg "min"=none
 b_sum:mg "sum"=none
 b_sorted:mg "sorted"=none
 b_isinstance:mg "isinstance"=none
 b_int:mg "int"=none
 b_str:mg "str"=none
 b_bool:mg "bool"=none
 b_list:mg "list"=none
 b_tuple:mg "tuple"=none
 b_set:mg "set"=none
 b_range:mg "range"=none
 b_reversed:mg "reversed"=none
 week:∃t,mg "WEEK"=some (.int 7 t)
 opens:∃t,mg "OPEN_DAYS"=some (.int 5 t)
def bQI:Sp:=λa H Q _=>∃d,a= [.int d]/\Q (.bl (Dm.opn d)) H
def bQK:Sp:=λa H Q _=>∃d,a= [.int d]/\Q (.int (Dm.place d)) H
def aV7(K:bYj):Sp:=λe H Q _=>∃ (a:Nat)(b:List Int),e= [.ref a]/\SqL K H a (b.map V.int)/\b.length<64/\
 ∀ (r:Nat)(c:Hp)(C:List Int),xC H c->H r=none->C.Pairwise (·<·)->(∀d,d∈C↔d∈b/\Dm.opn d=true)->C.length<=b.length->c r=some (.lst (C.map V.int))->Q (.ref r) c
def aV9(K:bYj):Sp:=λc H Q _=>∃ (a:Nat)(b:List Int)(d:Int),c= [.ref a,.int d]/\SqL K H a (b.map V.int)/\Q (.bl (Dm.cts b d)) H
abbrev bKF:Stmt:=xF "due_day"
abbrev aY3:Stmt:=xF "day_at"
def bQE:Sp:=λa H Q _=>∃d,a= [.int d]/\Q (.int (Dm.zN d)) H
def bW3(K:bYj):Sp:=λe H Q _=>∃ (a:Nat)(b:List Int)(d t:Int),e= [.ref a,.int d,.int t]/\SqL K H a (b.map V.int)/\b.length<64/\1<=t/\∀ (c:Hp)(D:Int),xC H c->Dm.Due b d t D->Q (.int D) c
section
variable {K:bYj}
theorem bVK:yN ["date"] ["date"] (yH bVw):=scM
theorem bJ9(T:vJ mg)(F:Fun K "open_by_rest" "open_by_rest" bVw f fd):xE P w K mg base CX0 1 f fd ["date"] bQI:=by
 obtain⟨j,b⟩:=T.week;obtain⟨l,a⟩:=T.opens;have c:=bVK;refine F.ok (k:=0) c (λe A outer s H g Q E i h=>?_);obtain⟨d,rfl,q⟩:=h;refine⟨_,(yF (yP (zP vL (yV y0 (pv 0) (uB (v:= .int 7) rfl b ⟨_,rfl⟩)) (uB (v:= .int 5) rfl a ⟨_,rfl⟩)))),?_⟩;exact⟨_,rfl,_,_,rfl,rfl,(show(0:Int)<7 by decide),_,_,rfl,rfl,q⟩
theorem bZq:yN ["date"] ["date"] (yH bQa):=scM
theorem bXR(T:vJ mg)(F:Fun K "place_of" "place_of" bQa f fd):xE P w K mg base CX0 1 f fd ["date"] bQK:=by
 obtain⟨l,b⟩:=T.week;obtain⟨m,a⟩:=T.opens;have c:=bZq;refine F.ok (k:=0) c (λg A outer s H i Q E j h=>?_);obtain⟨d,rfl,q⟩:=h;refine⟨_,(yF (yP (yV x5 (yV aVN (yV X5 (pv 0) (uB (v:= .int 7) rfl b ⟨_,rfl⟩)) (uB (v:= .int 5) rfl a ⟨_,rfl⟩)) (yQ (aKK rfl) rfl T.b_min aKI (yA (yV y0 (pv 0) (uB (v:= .int 7) rfl b ⟨_,rfl⟩)) (yA (yV wU (uB (v:= .int 5) rfl a ⟨_,rfl⟩) yE) yD)))))),?_⟩;refine⟨_,rfl,_,_,rfl,rfl,⟨by decide,by decide⟩,_,_,rfl,rfl,.inr ⟨by decide,by decide⟩,_,rfl,_,_,rfl,rfl,(show(0:Int)<7 by decide),_,_,rfl,rfl,_,_,rfl,_,_,rfl,rfl,?_⟩;have e:(if 5 - 1<d % 7 then 5 - 1 else d % 7:Int)=if 4<d % 7 then 4 else d % 7:=rfl;exact q
theorem bQo:yN ["shut","date"] ["shut","date"] (yH aJ8):=scM
theorem jH(d:Int):∀ns:List Int,inV (.int d) (ns.map V.int)=ns.contains d
 |[]=>rfl
 |n::r=>by have a:=jH d r;unfold inV at a ⊢;rw[bY4,cXB,a,cXE];congr 1;show(n==d)=(d==n);rw[Bool.eq_iff_iff,beq_iff_eq,beq_iff_eq];exact eq_comm
theorem uU:∀ns:List Int,(ns.map V.int).all J9=true
 |[]=>rfl
 |n::r=>by rw[bY4,cZt,uU r];rfl
theorem aYB(T:vJ mg)(b:FnG P w K mg base 1 "open_by_rest" ["date"] bQI)(F:Fun K "counts" "counts" aJ8 f fd):xE P w K mg base CX0 2 f fd ["shut","date"] (aV9 K):=by
 have e:=bQo;refine F.ok (k:=1) e (λj A outer s H m Q E i h=>?_);obtain⟨a,g,d,rfl,l,q⟩:=h;refine⟨_,(yF (yP (aVR (xJ b i rfl (yA (pv 1) yD)) (aZU (zP W7 (pv 1) (pv 0)))))),?_⟩;refine⟨_,rfl,d,rfl,_,rfl,?_⟩;unfold Dm.cts at q;cases c:Dm.opn d with
 |false=>rw[c]at q;exact q
 |true=>rw[c,Bool.true_and]at q;rw[if_pos rfl];refine⟨_,rfl,_,rfl,a,_,rfl,.inl l,rfl,uU g,?_⟩;rw[if_pos rfl,jH];exact q
theorem bQn:yN ["shut"] ["shut"] (yH aXS):=scM
theorem aYd:xO ["shut"] (yH aXS) "date" [] [] {kind:= .function,names:= [(".0",.local),("date",.local),("open_by_rest",.globalImplicit)],isGenerator:=false,isCoroutine:=false,more:= [] }:=
 lcM
theorem aQi(p:Int->Bool):∀ns:List Int,((ns.map V.int).filter λv=>match v with|.int d=>p d|_=>false)=(ns.filter p).map V.int
 |[]=>rfl
 |n::r=>by have a:=aQi p r;rw[bY4,List.filter_cons,List.filter_cons,a];show(if p n=true then _ else _)=_;split<;> rfl
theorem aYA(T:vJ mg)(c:FnG P w K mg base 1 "open_by_rest" ["date"] bQI)(F:Fun K "closed_days" "closed_days" aXS f fd):xE P w K mg base CX0 2 f fd ["shut"] (aV7 K):=by
 have z:=bQn;refine F.ok (k:=1) z (λO A outer s H Z Q E L h=>?_);obtain⟨a,C,rfl,W,N,q⟩:=h;refine⟨_,(yF (yP (aQF aYd rfl (xL (yQ (aXa rfl) rfl T.b_sorted vA (yA (x2 (bQ1 rfl) rfl T.b_set bWm (yA (pv 0) yD)) yD))) (λ_ _ _ _ _=>(w6 (xX (xJ c L rfl (yA (pv 0) yD))))) (λ_ _ _ _ _=>(pv 0))))),?_⟩;refine⟨_,rfl,a,C,rfl,W,by omega,λl x hl I p e=>?_⟩;refine⟨l,x,rfl,yB,by omega,λr S m g J=>?_⟩;refine⟨r,rfl,⟨_,SqL.of yB⟩,λD i=>?_⟩;have n:S.Pairwise (·<·):=by
  have j:S.Nodup:=(g.nodup_iff).mpr I;have u:S.Pairwise (λa b=>a<=b/\a≠b):=J.and j;exact u.imp λ⟨h1,u⟩=>by omega
 have U:(S.map V.int).length<=bYJ:=by rw[bYl,g.length_eq,bYQ];omega
 refine aZJ (λv=>match v with|.int d=>Dm.opn d|_=>false) id (SqL.of yB) i U ?_ ?_ ?_
 ·intro v y X R G hR;obtain⟨d,Y,rfl⟩:=cQm.mp y;exact⟨_,rfl,d,rfl,_,rfl,hR⟩
 ·intro v y B X R G hR;exact⟨_,rfl,hR⟩
 ·rw[aQi,List.map_id];have o:=yG hl (bWZ w l x);have t:=yG m (.lst (S.map V.int));have M:=yG i (.lst ((S.filter Dm.opn).map V.int));refine q D _ (S.filter Dm.opn) (o.trans (t.trans M)) ?_ (n.sublist cXj) ?_ ?_ yB
  ·exact(xC.trans o t).fresh i
  ·intro d;rw[cQo,g.mem_iff,e]
  ·have:=cQh Dm.opn S;rw[g.length_eq]at this;omega
theorem bZj:yN ["place"] ["place"] (yH aY3):=scM
theorem bXK(T:vJ mg)(F:Fun K "day_at" "day_at" aY3 f fd):xE P w K mg base CX0 1 f fd ["place"] bQE:=by
 obtain⟨j,b⟩:=T.week;obtain⟨l,a⟩:=T.opens;have c:=bZj;refine F.ok (k:=0) c (λe A outer s H g Q E i h=>?_);obtain⟨d,rfl,q⟩:=h;refine⟨_,(yF (yP (yV x5 (yV aVN (yV X5 (pv 0) (uB (v:= .int 5) rfl a ⟨_,rfl⟩)) (uB (v:= .int 7) rfl b ⟨_,rfl⟩)) (yV y0 (pv 0) (uB (v:= .int 5) rfl a ⟨_,rfl⟩))))),?_⟩;exact⟨_,rfl,_,_,rfl,rfl,⟨by decide,by decide⟩,_,_,rfl,rfl,.inr ⟨by decide,by decide⟩,_,rfl,_,_,rfl,rfl,(show(0:Int)<5 by decide),_,_,rfl,rfl,q⟩
theorem bWW:yN ["shut","date","term","place","closed"] ["shut","date","term"] (yH bKF):=scM
theorem bXa(d p:Int)(C:List Int)(i:Nat)(c:Int)(h:C[i]? =some c):Dm.aXD d p (C.take (i+1))=Dm.uS d (Dm.aXD d p (C.take i)) c:=by
 unfold Dm.aXD;rw[cQj,h];show(C.take i++ [c]).foldl _ p=_;rw[cJs];rfl
theorem bWF(T:vJ mg)(b:FnG P w K mg base 2 "closed_days" ["shut"] (aV7 K))(j:FnG P w K mg base 2 "place_of" ["date"] bQK)(g:FnG P w K mg base 2 "day_at" ["place"] bQE) (F:Fun K "due_day" "due_day" bKF f fd):xE P w K mg base CX0 3 f fd ["shut","date","term"] (bW3 K):=by
 have G:=bWW;refine F.ok (k:=2) G (λO A outer s H W Q E u h=>?_);obtain⟨a,L,d,t,rfl,S,D,J,q⟩:=h;refine⟨_,(yC (yU (i:=3) (yV x5 (xJ j u rfl (yA (pv 1) yD)) (pv 2))) (yC (zR bY5 rfl (xL (xJ b u rfl (yA (pv 0) yD))) (y9 (i:=4)) (yF (y7 (bX5 vL aYK (pv 1) (pv 4) (xJ g u rfl (yA (pv 3) yD))) (yF (yU (i:=3) (yV x5 (pv 3) yE))) yS))) (yF (yP (xJ g u rfl (yA (pv 3) yD)))))),?_⟩;refine⟨_,rfl,d,rfl,_,rfl,_,_,rfl,rfl,?_⟩;refine⟨_,rfl,a,L,rfl,S,D,λr U C M I N R hl o=>⟨r,rfl,⟨_,SqL.of o⟩,?_⟩⟩;refine zG (xs:=C.map V.int) (λi σ H=>∃cl,σ= [some (.ref a),some (.int d),some (.int t),some (.int (Dm.aXD d (Dm.place d+t) (C.take i))),cl]/\H=U) ?_ ?_ ?_ ?_
 ·exact⟨none,rfl,rfl⟩
 ·rintro i σ H X ⟨cl,rfl,rfl⟩;exact SqL.of o
 ·rintro i x σ H n ⟨cl,rfl,rfl⟩;rw[bYB]at n;cases B:C[i]? with
  |none=>rw[B]at n;cases n
  |some c=>
   rw[B]at n;cases n;have p:=bXa d (Dm.place d+t) C i c B;generalize Dm.aXD d (Dm.place d+t) (C.take i)=pl at p ⊢;dsimp only[yW];refine⟨_,rfl,_,rfl,_,_,rfl,rfl,_,rfl,?_⟩;refine qA (λv=>?_) (λv=>?_)
   ·have l:d<c:=of_decide_eq_true v;refine⟨_,rfl,pl,rfl,_,_,rfl,rfl,_,rfl,?_⟩;refine qA (λy=>?_) (λy=>?_)
    ·have m:c<=Dm.zN pl:=of_decide_eq_true y;refine⟨_,rfl,_,_,rfl,rfl,some (.int c),?_,rfl⟩;have e:Dm.uS d pl c=pl+1:=if_pos ⟨l,m⟩;rw[p,e];rfl
    ·have m:¬c<=Dm.zN pl:=of_decide_eq_false (Bool.eq_false_iff.mpr y);refine⟨some (.int c),?_,rfl⟩;have e:Dm.uS d pl c=pl:=if_neg λz=>m z.2;rw[p,e];rfl
   ·have l:¬d<c:=of_decide_eq_false (Bool.eq_false_iff.mpr v);refine⟨_,rfl,?_⟩;refine onF rfl ⟨some (.int c),?_,rfl⟩;have e:Dm.uS d pl c=pl:=if_neg λz=>l z.1;rw[p,e];rfl
 ·rintro σ H ⟨cl,rfl,rfl⟩;rw[bYl,cQe];exact⟨_,rfl,_,rfl,q _ _ M (Dm.bZZ J N R)⟩
end
end Days
namespace Desk
open PySem L2 PyProof.Rows
open Bk (Row Rows)
structure PB(CB CL:Nat)(H:Hp)(ba la sa:Nat)(ls cs:List Nat)(R:Rows)(S:List Int):Prop where
 book:∃dx,H ba=some (.ins CB dx [("letters",.ref la),("shut",.ref sa)])
 lst:H la=some (.lst (ls.map V.ref))
 sht:H sa=some (.lst (S.map V.int))
 len:ls.length=R.length
 clen:cs.length=R.length
 nd:ls.Nodup
 cnd:cs.Nodup
 las:la≠sa
 lac:la∉cs
 sac:sa∉cs
 row:∀ (i:Nat)(b c:Nat)(r:Row),ls[i]? =some b->cs[i]? =some c->R[i]? =some r->aWm CL H b i r c/\H c=some (.lst (r.copies.map V.str))
theorem PB.get{g CL:Nat}{H:Hp}{j la sa:Nat}{ls cs:List Nat}{R:Rows}{S:List Int}(h:PB g CL H j la sa ls cs R S){i:Nat}{r:Row}(e:R[i]? =some r): ∃b c,(ls.map V.ref)[i]? =some (.ref b)/\ls[i]? =some b/\cs[i]? =some c/\aWm CL H b i r c/\H c=some (.lst (r.copies.map V.str)):=by
 have d:i<R.length:=Bk.wO e;have a:=bYg (show i<ls.length by rw[h.len];exact d);have f:=bYg (show i<cs.length by rw[h.clen];exact d);obtain⟨k,l⟩:=h.row i _ _ r a f e;exact⟨_,_,by rw[bYB,a];rfl,a,f,k,l⟩
theorem PB.sameT{a CL:Nat}{H f:Hp}{d la sa:Nat}{ls cs:List Nat}{R:Rows}{S:List Int}(h:PB a CL H d la sa ls cs R S)(k:xZ H f):PB a CL f d la sa ls cs R S:=
 ⟨let ⟨dx,e⟩:=h.book;⟨dx,k _ _ (λ_ z=>nomatch z) e⟩,k.lst h.lst,k.lst h.sht,h.len,h.clen,h.nd,h.cnd,h.las,h.lac,h.sac,λi b c r g l j=>
  let ⟨⟨dx,e1⟩,e2⟩:=h.row i b c r g l j;⟨⟨dx,k _ _ (λ_ z=>nomatch z) e1⟩,k.lst e2⟩⟩
theorem PB.same{b CL:Nat}{H c:Hp}{a la sa:Nat}{ls cs:List Nat}{R:Rows}{S:List Int}(h:PB b CL H a la sa ls cs R S)(k:xC H c):PB b CL c a la sa ls cs R S:=h.sameT k.t
def aKD(T:Nat)(H a:Hp):Prop:=xZ H a/\(Thr.wD T H->Thr.wD T a)
theorem aKD.of{T:Nat}{H a:Hp}(k:xC H a):aKD T H a:=⟨k.t,λt=>by
 rcases t with t|⟨d,c,b⟩
 ·exact .inl (k _ _ t)
 ·exact .inr ⟨d,k _ _ c,k _ _ b⟩⟩
theorem aKD.trans{T:Nat}{H d c:Hp}(a:aKD T H d)(b:aKD T d c):aKD T H c:=⟨a.1.trans b.1,λt=>b.2 (a.2 t)⟩
def xK(K:bYj)(Rf:Nat×Nat)(H:Hp)(E:XK)(t:Str):Prop:=∀ (C b:Nat)(a:Hp),v7 K C->cZu K C (.ref Rf.1)=some true->aKD Rf.2 H a->a b=some (.xd [("words",.str t)])->E (.ref C) (some b) a
theorem xK.go{K:bYj}{Rf:Nat×Nat}{H:Hp}{E:XK}{t:Str}(h:xK K Rf H E t){b:Hp}(k:aKD Rf.2 H b):xK K Rf b E t:=λC f a c m d e=>h C f a c m (k.trans d) e
theorem xK.raise{P:bYD}{w:bYL}{K:bYj}{mg:Str->Option bYh}{base:Heap}{k:Nat}{x:Str}{Rf:Nat×Nat}{C:Nat}{H:Hp}{E:XK}{t:Str}(h:xK K Rf H E t)(G:ExG P w K mg base k x Rf.1 C t){D:aKB}{σ:L2.St}:bJe C t E D σ H:=
 λb a=>h C b _ G.cl G.sub (aKD.of (yG a _)) yB
def aV4(K:bYj)(Rf:Nat×Nat)(d CL:Nat):Sp:=λf H Q E=>∃ (a h g:Nat)(c e:List Nat)(R:Rows)(S:List Int)(m:Int),f= [.ref a,.int m]/\PB d CL H a h g c e R S/\
 (∀ (k:Nat)(r:Row)(b:Nat),m=(k:Int)->R[k]? =some r->r.void=false->c[k]? =some b->Q (.ref b) H)/\(Bk.wI R m=false->xK K Rf H E "no letter")
def aVp(e CL:Nat):Sp:=λh H Q _=>∃ (c d g:Nat)(a f:List Nat)(R:Rows)(S:List Int)(i:Nat)(b:Nat),h= [.ref c,.ref b]/\PB e CL H c d g a f R S/\a[i]? =some b/\R.length<=100/\
 ∀l,H l=none->Q (.ref l) (upd H l (.lst ((Bk.wE R i).map λk=>(a.map V.ref).getD k .non)))
def aV8(K:bYj)(Rf:Nat×Nat)(b CL:Nat):Sp:=λd H Q E=>∃ (a f e:Nat)(g c:List Nat)(R:Rows)(S:List Int)(m:Int),d= [.ref a,.int m]/\PB b CL H a f e g c R S/\
 (∀ (k:Nat)(r:Row)(l:Nat),m=(k:Int)->R[k]? =some r->r.void=false->H l=none->Q (.ref l) (upd H l (.lst (r.copies.map V.str))))/\(Bk.wI R m=false->xK K Rf H E "no letter")
def aJf(K:bYj)(Rf:Nat×Nat)(b CL:Nat):Sp:=λd H Q E=>∃ (a f e:Nat)(g c:List Nat)(R:Rows)(S:List Int)(m:Int),d= [.ref a,.int m]/\PB b CL H a f e g c R S/\
 (∀ (k:Nat)(r:Row)(l:Nat),m=(k:Int)->R[k]? =some r->r.void=false->H l=none->Q (.ref l) (upd H l (.tup (stV r))))/\(Bk.wI R m=false->xK K Rf H E "no letter")
section
variable {K:bYj}
abbrev aQM:Stmt:=xI "Book" "letter_at"
abbrev aVY:Stmt:=xI "Book" "answers_to"
abbrev aQL:Stmt:=xI "Book" "copies_of"
abbrev aXY:Stmt:=xI "Book" "state_of"
theorem bVC:yN ["self","number"] ["self","number"] (yH aQM):=scM
theorem bXh{R:Rows}{m:Int}(h:m<0):Bk.wI R m=false:=by
 unfold Bk.wI;rw[decide_eq_false (by omega),Bool.false_and]
theorem bXg{R:Rows}{m:Int}(h:(R.length:Int)<=m):Bk.wI R m=false:=by
 unfold Bk.wI;rw[bYR (by omega)];simp
theorem aZz{R:Rows}{k:Nat}{r:Row}(h:R[k]? =some r):Bk.wI R (k:Int)= !r.void:=by
 unfold Bk.wI;rw[bYW,h];simp
theorem bJZ(T:vJ mg)(cl:Cl K CB CL)(a:ExG P w K mg base n "NoLetter" Rf.1 C1 "no letter")(F:Fun K "letter_at" "Book.letter_at" aQM f fd):xE P w K mg base (CXR P w) (n+2) f fd ["self","number"] (aV4 K Rf CB CL):=by
 have v:=bVC;refine F.okX (k:=n+1) v (λz A outer s H L Q E x h=>?_);obtain⟨g,i,N,C,I,R,S,m,rfl,e,q,r⟩:=h;refine⟨_,(yC (y7 (PW.pt (jV (yM vL (pv 1) yE) (jV (yM bKz (pv 1) (yQ yO rfl T.b_len xB (yA (y3 (pv 0) rfl) yD))) (vT (xX (y3 (yL yK (y3 (pv 0) rfl) (pv 1)) rfl)))))) (yF (z9 a x rfl)) yS) (yF (yP (yL yK (y3 (pv 0) rfl) (pv 1))))),?_⟩;obtain⟨o,p⟩:=e.book;have hl:(C.map V.ref).length=R.length:=by rw[bYl];exact e.len
 refine⟨_,rfl,_,_,rfl,rfl,_,rfl,?_⟩;refine qA (λc=>?_) (λc=>?_)
 ·exact onT rfl ((r (bXh (of_decide_eq_true c))).raise a)
 ·have J:¬m<0:=of_decide_eq_false (Bool.eq_false_iff.mpr c);refine⟨_,rfl,_,rfl,g,CB,o,_,_,rfl,p,cl.b,cl.letters,rfl,i,_,rfl,.inl (SqL.of e.lst),_,_,rfl,rfl,_,rfl,?_⟩;rw[hl];refine qA (λc=>?_) (λc=>?_)
  ·exact onT rfl ((r (bXg (of_decide_eq_true c))).raise a)
  ·have G:¬m≥(R.length:Nat):=of_decide_eq_false (Bool.eq_false_iff.mpr c);obtain⟨k,rfl⟩:∃k:Nat,m=(k:Int):=⟨m.toNat,by omega⟩;have D:k<R.length:=by omega
   have d:=bYg D;obtain⟨b,U,t,B,M,⟨j,y⟩,O⟩:=e.get d;refine⟨_,rfl,g,CB,o,_,_,rfl,p,cl.b,cl.letters,rfl,_,rfl,i,_,_,_,rfl,rfl,SqL.of e.lst,yT t,b,CL,j,_,_,rfl,y,cl.l,cl.void,rfl,_,rfl,?_⟩;cases u:R[k].void with
   |true=>exact onT rfl ((r (by rw[aZz d,u];rfl)).raise a)
   |false=>exact onF rfl ⟨_,rfl,g,CB,o,_,_,rfl,p,cl.b,cl.letters,rfl,_,rfl,i,_,_,_,rfl,rfl,SqL.of e.lst,yT t,q k _ b rfl d u B⟩
theorem aWJ{K:bYj}{a:Nat}{xs:List V}{n:List Nat}{j:TT}{q:TE}{σ:L2.St}{D:Nat}{Q:VK}{H:Hp}(p:Nat->Bool)(f:Nat->V)(hl:SqL K H a xs)(s:H D=none)(hz:xs.length<=bYJ) (z:∀i v,xs[i]? =some v->∀ (c:Hp)(R:Bool->Hp->Prop),(∀b,b≠D->c b=H b)->R (p i) c->j (sub σ n (some v)) c R) (u:∀i v,xs[i]? =some v->p i=true->∀ (c:Hp)(R:VK),(∀b,b≠D->c b=H b)->R (f i) c->q (sub σ n (some v)) c R) (A:Q (.ref D) (upd H D (.lst (((bYu xs.length).filter p).map f)))):bV5 (Itl K a) n j q σ D Q (upd H D (.lst [])):=by
 have d:∀g,SqL K (upd H D (.lst g)) a xs:=λg=>by
  rcases hl with(h|⟨o,h⟩)|h
  ·exact .inl (.inl (by rw[yI (yJ h s)];exact h))
  ·exact .inl (.inr ⟨o,by rw[yI (yJ h s)];exact h⟩)
  ·exact .inr h
 refine⟨λi m g c=>m=xs.length - i/\i<=xs.length/\g=((bYu i).filter p).map f/\c=upd H D (.lst g),⟨xs.length,by simp,cQf _,by simp,rfl⟩,?_⟩;rintro i m g c ⟨rfl,E,rfl,rfl⟩;refine⟨yB,?_⟩;by_cases e:i<xs.length
 ·refine .inr ⟨⟨xs,xs[i],d _,bYg e⟩,λv C x=>?_⟩;obtain⟨rfl,y⟩:=x;have t:xs[i]? =some v:=y xs (d _);have l:∀b,b≠D->upd H D (.lst (((bYu i).filter p).map f)) b=H b:=λb B=>yI B;have k:(((bYu i).filter p).map f).length<bYJ:=by
   rw[bYl];have w:=cQh p (bYu i);rw[cQa]at w;omega
  refine z i v t _ _ l ?_;cases r:p i with
  |false=>show ∃F,_;refine⟨xs.length - (i+1),by omega,rfl,e,?_,rfl⟩;rw[cXH,cQr,cQX (by rw[r];decide)];simp
  |true=>show q _ _ _;refine u i v t r _ _ l ⟨k,yB,xs.length - (i+1),by omega,rfl,e,?_,by rw[jB]⟩;rw[cXH,cQr,cQY r];simp
 ·obtain rfl:i=xs.length:=by omega
  exact .inl ⟨⟨xs,d _,bYo _⟩,A⟩
theorem bZf:yN ["self","letter"] ["self","letter"] (yH aVY):=scM
theorem bXq:xO ["self","letter"] (yH aVY) "other" ["letter"] [1] {kind:= .function,names:= [(".0",.local),("other",.local),("letter",.free)],isGenerator:=false,isCoroutine:=false,more:= [] }:=
 lcM
theorem bXG(cl:Cl K CB CL)(a:MG P w K mg base CX0 n CL "is_answered_by" ["self","other"] (bQB CL))(F:Fun K "answers_to" "Book.answers_to" aVY f fd):xE P w K mg base CX0 (n+1) f fd ["self","letter"] (aVp CB CL):=by
 have B:=bZf;refine F.ok (k:=n) B (λW A outer s H vs Q E N h=>?_);obtain⟨I,M,sa,t,Z,R,S,i,b,rfl,d,x,hR,q⟩:=h;refine⟨_,(yF (yP (aQF bXq rfl (xL (y3 (pv 0) rfl)) (λ_ _ _ _ _=>(w6 (xX (v1 a N v0 (pv 1) (yA (pv 0) yD))))) (λ_ _ _ _ _=>(pv 0))))),?_⟩;obtain⟨O,U⟩:=d.book;have hl:(t.map V.ref).length=R.length:=by rw[bYl];exact d.len
 have r:i<R.length:=by rw[<- d.len];exact(bYs.mp x).1
 obtain⟨C,cc,g1,X,g3,⟨g,o⟩,g5⟩:=d.get (bYg r);obtain rfl:b=C:=bYC (x.symm.trans X);refine⟨_,rfl,I,CB,O,_,_,rfl,U,cl.b,cl.letters,rfl,M,rfl,⟨_,SqL.of d.lst⟩,λD e=>?_⟩;refine aWJ (λk=>decide (Bk.lk R k=some i)) (λk=>(t.map V.ref).getD k .non) (SqL.of d.lst) e (zn (by omega)) (λj v p T G m c=>?_) (λj v p _ T G m c=>?_) ?_
 ·have L:j<R.length:=by rw[<- hl];exact(bYs.mp p).1
  have l:=bYg L;obtain⟨z,Y,J,k2,k3,⟨u,y⟩,k5⟩:=d.get l;obtain rfl:v= .ref z:=bYC (p.symm.trans J);rw[Bk.uA l]at c;exact⟨_,rfl,b,g,_,rfl,(m _ (yJ o e)).trans o,rfl,_,rfl,b,z,i,j,_,_,_,_,rfl,⟨g,(m _ (yJ o e)).trans o⟩,⟨u,(m _ (yJ y e)).trans y⟩,_,rfl,c⟩
 ·have:(t.map V.ref).getD j .non=v:=by simp only[bY1,p];rfl
  rw[this]at c;exact⟨_,rfl,c⟩
 ·rw[hl];exact q D e
theorem aVi:yN ["self","number"] ["self","number"] (yH aQL):=scM
theorem aJR(T:vJ mg)(cl:Cl K CB CL)(a:MG P w K mg base (CXR P w) n CB "letter_at" ["self","number"] (aV4 K Rf CB CL))(F:Fun K "copies_of" "Book.copies_of" aQL f fd):xE P w K mg base (CXR P w) (n+1) f fd ["self","number"] (aV8 K Rf CB CL):=by
 have j:=aVi;refine F.okX (k:=n) j (λC A outer s H N Q E x h=>?_);obtain⟨g,v,u,J,o,R,S,m,rfl,c,q,D⟩:=h;refine⟨_,(yF (yP (x2 uR rfl T.b_list zY (yA (y3 (v1 a x zX (pv 0) (yA (pv 1) yD)) rfl) yD)))),?_⟩;obtain⟨z,B⟩:=c.book;refine⟨_,rfl,g,z,_,rfl,B,rfl,_,rfl,g,v,u,J,o,R,S,m,rfl,c,λk r b t i L e=>?_,D⟩;obtain⟨p,M,U,I,O,⟨d,y⟩,G⟩:=c.get i;obtain rfl:b=p:=bYC (e.symm.trans I);refine⟨b,CL,d,_,_,rfl,y,cl.l,cl.copies,rfl,?_⟩;exact⟨M,_,rfl,.inl (SqL.of G),λl hl=>q k r l t i L hl⟩
theorem aKr:yN ["self","number"] ["self","number"] (yH aXY):=scM
theorem aW6(cl:Cl K CB CL)(a:MG P w K mg base (CXR P w) n CB "letter_at" ["self","number"] (aV4 K Rf CB CL))(c:MG P w K mg base CX0 n CL "state" ["self"] (aVs CL))(F:Fun K "state_of" "Book.state_of" aXY f fd): xE P w K mg base (CXR P w) (n+1) f fd ["self","number"] (aJf K Rf CB CL):=by
 have p:=aKr;refine F.okX (k:=n) p (λG A outer s H O Q E j h=>?_);obtain⟨i,B,z,L,u,R,S,m,rfl,e,q,I⟩:=h;refine⟨_,(yF (yP (bX2 c j v0 (v1 a j zX (pv 0) (yA (pv 1) yD))))),?_⟩;obtain⟨C,D⟩:=e.book;refine⟨_,rfl,i,C,_,rfl,D,rfl,_,rfl,i,B,z,L,u,R,S,m,rfl,e,λk r b x o M g=>?_,I⟩;obtain⟨v,N,U,J,T,⟨d,l⟩,V⟩:=e.get o;obtain rfl:b=v:=bYC (g.symm.trans J);exact⟨b,d,_,rfl,l,rfl,b,k,r,N,rfl,⟨d,l⟩,λt y=>q k r t x o M y⟩
end
end Desk
namespace Desk
open PySem L2 PyProof.Rows
open Bk (Row Rows)
open Law (aKC jY Y2 bXZ aXs aQ5)
def Z7(R:Rows)(w:Str):List Nat:=(bYu R.length).filter λk=>match R[k]? with|some r=> !r.void && decide (r.place=w)|none=>false
def aQ1(c CL:Nat):Sp:=λg H Q _=>∃ (a b f:Nat)(d e:List Nat)(R:Rows)(S:List Int)(w:Str),g= [.ref a,.str w]/\PB c CL H a b f d e R S/\R.length<64/\
 ∀l,H l=none->Q (.ref l) (upd H l (.lst ((Z7 R w).map λi=>V.int (i:Nat))))
def bJr(R:Rows)(n:Nat)(d:Int)(a:List (Key×V)):Prop:=∀j:Nat,(aQd a (Sum.inl (j:Int))).isSome=true↔∃k,k<n/\Bk.lk R k=some j/\Bk.dt R k<=d
def aXv(g CL:Nat):Sp:=λk H Q _=>∃ (e f j:Nat)(h i:List Nat)(R:Rows)(S:List Int)(d:Int),k= [.ref e,.int d]/\PB g CL H e f j h i R S/\R.length<64/\
 ∀ (a:Nat)(c:Hp)(b:List (Key×V)),xC H c->H a=none->c a=some (.dK b)->bJr R R.length d b->Q (.ref a) c
def aVr(g CL:Nat):Sp:=λk H Q _=>∃ (b f j:Nat)(h i:List Nat)(R:Rows)(S:List Int)(d:Int),k= [.ref b,.int d]/\PB g CL H b f j h i R S/\R.length<64/\S.length<64/\
 ∀ (l:Nat)(a:Hp)(e:List Nat)(c:List V),xC H a->H l=none->a l=some (.lst c)->bY6 (aKC a (jY R S)) e c->Bk.bQX R S d false e->Q (.ref l) a
def bKi(f CL:Nat)(a:Bool):Sp:=λh H Q _=>∃ (c k j:Nat)(m g:List Nat)(R:Rows)(S:List Int)(d:Int),h= [.ref c,.int d]/\PB f CL H c k j m g R S/\R.length<64/\S.length<64/\
 ∀ (l:Nat)(b:Hp)(e:List Nat),xC H b->H l=none->b l=some (.lst (e.map λi=>V.int (i:Nat)))->Bk.bQX R S d a e->Q (.ref l) b
theorem aQD{X:Cx}{K:bYj}{e:Expr}{f:Str}{pos:Pos}{a:TE}(c:PE X e a)(b:cX4 e f X.env (eval e X.env)=eval e X.env)(d:X.K=K:=by rfl):PE X (.Attribute e f pos) (bKS K a f):=d ▸ y3 c b
section
variable {K:bYj}
abbrev jN:Stmt:=xI "Book" "letters_in"
abbrev aQK:Stmt:=xI "Book" "answered_by"
abbrev aY9:Stmt:=xI "Book" "waiting_pairs"
abbrev Q9:Stmt:=xI "Book" "waiting"
abbrev Q8:Stmt:=xI "Book" "overdue"
theorem aZ6:yN ["self","name"] ["self","name"] (yH jN):=scM
theorem aZI:xO ["self","name"] (yH jN) "letter" ["name"] [1] {kind:= .function,names:= [(".0",.local),("letter",.local),("name",.free)],isGenerator:=false,isCoroutine:=false,more:= [] }:=
 lcM
theorem bJE{r:Row}{w:Str}:decide (X1 r=V.str w)=(!r.void && decide (r.place=w)):=by
 unfold X1;cases r.void with
 |true=>rfl
 |false=>show decide (V.str r.place=V.str w)=(true && decide (r.place=w));rw[Bool.true_and,Bool.eq_iff_iff];simp
theorem aZR(cl:Cl K CB CL)(F:Fun K "letters_in" "Book.letters_in" jN f fd):xE P w K mg base CX0 (n+1) f fd ["self","name"] (aQ1 CB CL):=by
 have y:=aZ6;refine F.ok (k:=n) y (λO A outer s H W Q E Y h=>?_);obtain⟨B,I,X,T,U,R,S,w,rfl,d,hR,q⟩:=h;refine⟨_,(yF (yP (aQF aZI rfl (xL (y3 (pv 0) rfl)) (λ_ _ _ _ _=>(w6 (yM zF (aQD (K:=K) (pv 0) rfl) (pv 1)))) (λ_ _ _ _ _=>(aQD (K:=K) (pv 0) rfl))))),?_⟩;obtain⟨L,N⟩:=d.book;have hl:(T.map V.ref).length=R.length:=by rw[bYl];exact d.len
 refine⟨_,rfl,B,CB,L,_,_,rfl,N,cl.b,cl.letters,rfl,I,rfl,⟨_,SqL.of d.lst⟩,λD o=>?_⟩;refine aWJ (λk=>match R[k]? with|some r=> !r.void && decide (r.place=w)|none=>false) (λk=>V.int (k:Nat)) (SqL.of d.lst) o (zn (by omega)) (λj v g M z t a=>?_) (λj v g _ M z t a=>?_) ?_
 ·have u:j<R.length:=by rw[<- hl];exact(bYs.mp g).1
  have i:=bYg u;obtain⟨m,x,p,C,J,⟨c,e⟩,G⟩:=d.get i;obtain rfl:v= .ref m:=bYC (g.symm.trans p);rw[i]at a;dsimp only at a;rw[<- bJE]at a;refine⟨_,rfl,m,CL,c,_,_,rfl,(t _ (yJ e o)).trans e,cl.l,cl.file,rfl,_,rfl,?_,_,rfl,a⟩;unfold X1;cases R[j].void<;> rfl
 ·have u:j<R.length:=by rw[<- hl];exact(bYs.mp g).1
  obtain⟨m,x,p,C,J,⟨c,e⟩,G⟩:=d.get (bYg u);obtain rfl:v= .ref m:=bYC (g.symm.trans p);exact⟨_,rfl,m,CL,c,_,_,rfl,(t _ (yJ e o)).trans e,cl.l,cl.number,rfl,a⟩
 ·rw[hl];exact q D o
theorem aVh:yN ["self","day","answered","letter"] ["self","day"] (yH aQK):=scM
theorem aZj{R:Rows}{t:Nat}{d:Int}{a:List (Key×V)}(h:bJr R t d a)(g:∀j,Bk.lk R t=some j->¬Bk.dt R t<=d):bJr R (t+1) d a:=λj=>by
 rw[h j];constructor
 ·rintro⟨k,f,b⟩;exact⟨k,by omega,b⟩
 ·rintro⟨k,f,b,c⟩;by_cases e:k=t
  ·subst e;exact absurd c (g j b)
  ·exact⟨k,by omega,b,c⟩
theorem bQZ{R:Rows}{t:Nat}{d:Int}{b:List (Key×V)}(h:bJr R t d b){i:Nat}(hl:Bk.lk R t=some i)(c:Bk.dt R t<=d){v:V}:bJr R (t+1) d (aJ1 b (Sum.inl (i:Int)) v):=λj=>by
 rw[bZP];by_cases e:j=i
 ·subst e;rw[if_pos rfl];exact⟨λ_=>⟨t,by omega,hl,c⟩,λ_=>rfl⟩
 ·rw[if_neg (λz=>e (by have:=Sum.inl.inj z;omega)),h j];constructor
  ·rintro⟨k,f,a⟩;exact⟨k,by omega,a⟩
  ·rintro⟨k,f,a,l⟩;by_cases g:k=t
   ·subst g;rw[hl]at a;exact absurd (bYC a).symm e
   ·exact⟨k,by omega,a,l⟩
theorem aJQ(cl:Cl K CB CL)(F:Fun K "answered_by" "Book.answered_by" aQK f fd):xE P w K mg base CX0 (n+1) f fd ["self","day"] (aXv CB CL):=by
 have X:=aVh;refine F.ok (k:=n) X (λa0 A outer s H vs Q E hr h=>?_);obtain⟨T,Z,sa,W,cs,R,S,d,rfl,C,hR,q⟩:=h;refine⟨_,(yC (yU (i:=2) bX1) (yC (zR bY5 rfl (xL (y3 (pv 0) rfl)) (y9 (i:=3)) (yF (y7 (PW.pt (vS (yM z8 (y3 (pv 3) rfl) x3) (wR (yM aYK (y3 (pv 3) rfl) (pv 1))))) (yF (bVk (bWs hr) (pv 2) (y3 (pv 3) rfl) wQ rfl)) yS))) (yF (yP (pv 2))))),?_⟩;obtain⟨dx,hb⟩:=C.book;have hl:(W.map V.ref).length=R.length:=by rw[bYl];exact C.len
 intro a G;dsimp only[yW];have I:=yG G (.dK []);refine⟨_,rfl,T,CB,dx,_,_,rfl,I _ _ hb,cl.b,cl.letters,rfl,Z,rfl,⟨_,SqL.of (I _ _ C.lst)⟩,?_⟩;refine zG (xs:=W.map V.ref) (λt σ v=>∃ (e:List (Key×V))(o:Option V),σ= [some (.ref T),some (.int d),some (.ref a),o]/\xC H v/\v a=some (.dK e)/\e.length<=t/\bJr R t d e) ?_ ?_ ?_ ?_
 ·exact⟨[],none,rfl,I,yB,cQf _,λj=>⟨λz=>(by cases z),λ⟨k,z,_⟩=>absurd z (cQ3 _)⟩⟩
 ·rintro t σ v U ⟨e,o,rfl,g,y,O,u⟩;exact SqL.of (g _ _ C.lst)
 ·rintro t x σ v N ⟨e,o,rfl,g,y,O,u⟩;have U:t<R.length:=by rw[<- hl];exact(bYs.mp N).1
  have p:=bYg U;obtain⟨b,c,Y,g2,g3,⟨m,L⟩,g5⟩:=(C.same g).get p;obtain rfl:x= .ref b:=bYC (N.symm.trans Y);dsimp only[yW];refine⟨_,rfl,b,CL,m,_,_,rfl,L,cl.l,cl.link,rfl,rfl,_,rfl,?_⟩;have B:=Bk.uA p;have D:=Bk.vK p;cases r:R[t].link with
  |none=>exact onF rfl (onF rfl ⟨e,_,rfl,g,y,by omega,aZj u λj J=>by rw[B,r]at J;cases J⟩)
  |some i=>
   refine onT rfl ⟨_,rfl,b,CL,m,_,_,rfl,L,cl.l,cl.day,rfl,_,rfl,_,_,rfl,rfl,_,rfl,?_⟩;cases M:decide (R[t].date<=d)with
   |false=>exact onF rfl ⟨e,_,rfl,g,y,by omega,aZj u λj J=>by rw[D];exact of_decide_eq_false M⟩
   |true=>refine onT rfl ⟨_,rfl,_,rfl,b,CL,m,_,_,rfl,L,cl.l,cl.link,rfl,a,upd v a (.dK (aJ1 e (Sum.inl (i:Int)) (.bl true))),rfl,?_⟩;rw[r];refine⟨bWa.k (k:=Sum.inl (i:Int)) y (by rw[bYQ];omega),_,_,rfl,?_,yB,bYT (qH _ _ _) (by omega),bQZ u (by rw[B,r]) (by rw[D];exact of_decide_eq_true M)⟩;exact aQ5 g G
 ·rintro σ v ⟨e,o,rfl,g,y,O,u⟩;rw[hl]at u;exact⟨_,rfl,q a v e g G y u⟩
theorem bZQ{R:Rows}{i:Nat}{r:Row}{d:Int}{a:List (Key×V)}(g:R[i]? =some r)(j:bJr R R.length d a): Bk.Q1 R i d=(decide (Q0 r > 0) && (decide (r.date<=d) && !(aQd a (Sum.inl (i:Int))).isSome)):=by
 have l:((Bk.wE R i).all λk=>decide (d<Bk.dt R k))= !(aQd a (Sum.inl (i:Int))).isSome:=by
  rw[Bool.eq_iff_iff,cZn,Bool.not_eq_true',Bool.eq_false_iff,ne_eq,j i];constructor
  ·rintro h ⟨k,b,c,m⟩;have:=of_decide_eq_true (h k (cQo.mpr ⟨bYS.mpr b,decide_eq_true c⟩));omega
  ·intro h k f;obtain⟨b,c⟩:=cQo.mp f;refine decide_eq_true ?_;by_cases z:Bk.dt R k<=d
   ·exact absurd ⟨k,bYS.mp b,of_decide_eq_true c,z⟩ h
   ·omega
 unfold Bk.Q1;rw[g];dsimp only;rw[l];unfold Q0;cases r.void with
 |true=>rfl
 |false=>
  rw[if_neg (by decide)];have e:decide (1<=r.term)=decide (r.term > 0):=by rw[Bool.eq_iff_iff];simp;omega
  rw[e];simp[Bool.and_assoc]
theorem bZp:yN ["self","day","answered","pairs","letter"] ["self","day"] (yH aY9):=scM
theorem bXQ(T:vJ mg)(cl:Cl K CB CL)(j:MG P w K mg base CX0 n CB "answered_by" ["self","day"] (aXv CB CL))(r:FnG P w K mg base n "due_day" ["shut","date","term"] (Days.bW3 K)) (F:Fun K "waiting_pairs" "Book.waiting_pairs" aY9 f fd):xE P w K mg base CX0 (n+1) f fd ["self","day"] (aVr CB CL):=by
 have sc:=bZp;refine F.ok (k:=n) sc (λc3 A outer s H vs Q E hr h=>?_);obtain⟨W,la,sa,ls,cs,R,S,d,rfl,hB,hR,hS,q⟩:=h;refine⟨_,(yC (yU (i:=2) (v1 j hr v0 (pv 0) (yA (pv 1) yD))) (yC (yU (i:=3) (y6 yD)) (yC (zR bY5 rfl (xL (y3 (pv 0) rfl)) (y9 (i:=4)) (yF (y7 (PW.pt (vS (yM aXg (y3 (pv 4) rfl) yE) (vS (yM aYK (y3 (pv 4) rfl) (pv 1)) (wR (bWP (aYN (bWs hr) (y3 (pv 4) rfl) (pv 2))))))) (yF (yY (vM bYG bYN bYO xD (pv 3) (yA (xG (yA (xJ r hr rfl (yA (y3 (pv 0) rfl) (yA (y3 (pv 4) rfl) (yA (y3 (pv 4) rfl) yD)))) (yA (y3 (pv 4) rfl) yD))) yD)))) yS))) (yF (yP (yQ uK rfl T.b_sorted vA (yA (pv 3) yD))))))),?_⟩;obtain⟨dx,hb⟩:=hB.book;have hl:(ls.map V.ref).length=R.length:=by rw[bYl];exact hB.len
 refine⟨_,rfl,W,dx,_,rfl,hb,rfl,_,rfl,W,la,sa,ls,cs,R,S,d,rfl,hB,hR,λa H0 b4 k0 c2 a3 hA=>?_⟩;dsimp only[yW];refine⟨z0,λB C=>?_⟩;dsimp only[yW];have k1:xC H (upd H0 B (.lst [])):=k0.trans (yG C _);have c0:H B=none:=k0.fresh C;refine⟨_,rfl,W,CB,dx,_,_,rfl,k1 _ _ hb,cl.b,cl.letters,rfl,la,rfl,⟨_,SqL.of (k1 _ _ hB.lst)⟩,?_⟩;have c1:a≠B:=yJ a3 C;refine zG (xs:=ls.map V.ref) (λt σ I=>∃ (g:List V)(o:Option V),σ= [some (.ref W),some (.int d),some (.ref a),some (.ref B),o]/\xC H0 I/\I B=some (.lst g)/\
  bY6 (aKC I (jY R S)) ((bYu t).filter (Y2 R S d false)) g) ?_ ?_ ?_ ?_
 ·exact⟨[],none,rfl,yG C _,yB,.nil⟩
 ·rintro t σ I ht ⟨g,o,rfl,N,M,L⟩;exact SqL.of (N _ _ (k0 _ _ hB.lst))
 ·rintro t x σ I Z ⟨g,o,rfl,N,M,L⟩;have ht:t<R.length:=by rw[<- hl];exact(bYs.mp Z).1
  have O:=bYg ht;have U:=(hB.same k0).same N;obtain⟨b8,b7⟩:=U.book;obtain⟨b,c,g1,g2,g3,⟨y,g4⟩,g5⟩:=U.get O;obtain rfl:x= .ref b:=bYC (Z.symm.trans g1);rw[cXH,cQr];dsimp only[yW];have hw:=bZQ O hA;have u:Y2 R S d false t=Bk.Q1 R t d:=by unfold Y2;simp
  have stay:∀o',Y2 R S d false t=false->∃ (g:List V)(p:Option V),[some (V.ref W),some (V.int d),some (V.ref a),some (V.ref B),o']= [some (.ref W),some (.int d),some (.ref a),some (.ref B),p]/\xC H0 I/\I B=some (.lst g)/\
    bY6 (aKC I (jY R S)) ((bYu t).filter (Y2 R S d false)++ [t].filter (Y2 R S d false)) g:=λo' e=>by
   have e3: [t].filter (Y2 R S d false)= []:=by simp[e]
   rw[e3,cQk]
   exact⟨g,o',rfl,N,M,L⟩
  refine⟨_,rfl,b,CL,y,_,_,rfl,g4,cl.l,cl.term,rfl,_,_,rfl,rfl,_,rfl,?_⟩;cases h1:decide (Q0 R[t] > 0)with
  |false=>exact onF rfl (onF rfl (stay _ (by rw[u,hw,h1];rfl)))
  |true=>
   refine onT rfl ⟨_,rfl,b,CL,y,_,_,rfl,g4,cl.l,cl.day,rfl,_,rfl,_,_,rfl,rfl,_,rfl,?_⟩;cases h2:decide (R[t].date<=d)with
   |false=>exact onF rfl (onF rfl (stay _ (by rw[u,hw,h1,h2];rfl)))
   |true=>
    refine onT rfl ⟨_,rfl,b,CL,y,_,_,rfl,g4,cl.l,cl.number,rfl,_,rfl,a,_,rfl,bV9.k (k:=Sum.inl (t:Int)) (N _ _ a3),_,rfl,?_⟩;cases h3:(aQd b4 (Sum.inl (t:Int))).isSome with
    |true=>exact onF rfl (stay _ (by rw[u,hw,h1,h2,h3];rfl))
    |false=>
     have a8:Bk.Q1 R t d=true:=by rw[hw,h1,h2,h3];rfl
     have b9:=Law.aXz ht a8;have hv:R[t].void=false:=by
      cases hv:R[t].void with
      |false=>rfl
      |true=>have:=of_decide_eq_true h1;unfold Q0 at this;rw[hv]at this;simp at this
     have a2:Q0 R[t]=R[t].term:=by unfold Q0;rw[hv];rfl
     refine onT rfl ⟨_,rfl,.inl ⟨rfl,_,SqL.of M⟩,_,rfl,W,CB,b8,_,_,rfl,b7,cl.b,cl.shut,rfl,_,rfl,b,CL,y,_,_,rfl,g4,cl.l,cl.day,rfl,_,rfl,b,CL,y,_,_,rfl,g4,cl.l,cl.term,rfl,?_⟩;refine⟨sa,S,_,_,rfl,SqL.of U.sht,hS,by rw[a2];exact b9,λH2 D X hD=>?_⟩;have eD:D=jY R S t:=by unfold jY;rw[O,Bk.vK O];rw[a2]at hD;exact(Bk.bZY hD).symm
     subst eD;refine⟨_,rfl,b,CL,y,_,_,rfl,X _ _ g4,cl.l,cl.number,rfl,z2,λY b0=>?_⟩;have b2:=X _ _ M;have k5:=yG b0 (.tup [V.int (jY R S t),V.int (t:Nat)]);have a4:=k5 _ _ b2;have il:g.length<=t:=by rw[<- L.length];exact bYT (cQh _ _) (by simp)
     have t6:∀a xs,upd H2 Y (.tup [V.int (jY R S t),V.int (t:Nat)]) a=some (.tup xs)->upd (upd H2 Y (.tup [V.int (jY R S t),V.int (t:Nat)])) B (.lst (g++ [V.ref Y])) a=some (.tup xs):=λa xs e=>by rw[yI (aXc e a4 (by intro z;cases z))];exact e
     have e3: [t].filter (Y2 R S d false)= [t]:=by simp[u,a8]
     refine⟨B,g,.ref Y,rfl,rfl,a4,zlt (by omega),g++ [.ref Y],_,rfl,aQ5 (N.trans (X.trans k5)) C,yB,?_⟩;rw[e3];exact aXs ⟨Y,rfl,t6 _ _ yB⟩ (Paired.mapP L λ_ _ z=>z.tk λa xs e=>t6 _ _ (k5 _ _ (X _ _ e)))
 ·rintro σ I ⟨g,o,rfl,N,M,L⟩;rw[hl]at L;generalize G:(bYu R.length).filter (Y2 R S d false)=fam at L;have a6:fam.length=g.length:=L.length;have fn:fam.length<=R.length:=by rw[<- G];exact bYT (cQh _ _) (by simp)
  have a0:∀k,k∈fam↔k<R.length/\Y2 R S d false k=true:=λk=>by rw[<- G,cQo,bYS]
  have b1:fam.Nodup:=by rw[<- G];exact cZp.sublist cXj
  refine⟨_,rfl,B,g,λm=>(jY R S (fam.getD m 0),((fam.getD m 0:Nat):Int)),rfl,M,by omega,λa b ha hb e=>?_,λm x Z=>?_,λl v a9 a1 b3=>?_⟩
  ·have e2:fam.getD a 0=fam.getD b 0:=by have:=congrArg Prod.snd e;simp only at this;omega
   have a7:a<fam.length:=by omega
   have a5:b<fam.length:=by omega
   simp[bY1,bYg a7,bYg a5]at e2;exact(cQ6 (h₀:=a7) (h₁:=a5) b1).mp e2
  ·obtain⟨k,hk,p,M,e2⟩:=bXZ L Z;have:fam.getD m 0=k:=by simp[bY1,hk]
   show ∃a,x=V.ref a/\I a=some (.tup [V.int (jY R S (fam.getD m 0)),V.int ((fam.getD m 0:Nat):Int)]);rw[this];exact⟨p,M,e2⟩
  ·have hm:∀m∈v,m<g.length:=λm hm=>bYS.mp (a1.mem_iff.mp hm);have X:=yG a9 (.lst (v.map λi=>g.getD i .non));refine q l _ (v.map λm=>fam.getD m 0) _ (k0.trans (N.trans X)) ((k0.trans N).fresh a9) yB ?_ ⟨λk=>?_,?_⟩
   ·have go:∀o:List Nat,(∀m∈o,m<g.length)->bY6 (aKC (upd I l (.lst (v.map λi=>g.getD i .non))) (jY R S)) (o.map λm=>fam.getD m 0) (o.map λi=>g.getD i .non):=by
     intro o;induction o with
     |nil=>intro _;exact .nil
     |cons m o ih=>
      intro h;refine .cons ?_ (ih λx Z=>h x (bYt _ Z));have J:=h m bYw;have hg:g[m]? =some (g.getD m .non):=by simp[bY1,bYg J]
      obtain⟨k,hk,p,M,e2⟩:=bXZ L hg;have:fam.getD m 0=k:=by simp[bY1,hk]
      show aKC _ _ (fam.getD m 0) (g.getD m .non);rw[this];exact⟨p,M,X _ _ e2⟩
    exact go v hm
   ·have b5:k∈v.map (λm=>fam.getD m 0)↔k∈fam:=by
     constructor
     ·intro h;obtain⟨m,b6,rfl⟩:=cQm.mp h;have J:m<fam.length:=by rw[a6];exact hm m b6
      simp[bY1,bYg J]
     ·intro h;obtain⟨m,J,e⟩:=bY8 h;refine cQm.mpr ⟨m,a1.mem_iff.mpr (bYS.mpr (by omega)),?_⟩;simp[bY1,bYg J,e]
    rw[b5,a0 k];unfold Y2;simp
   ·rw[cZJ];exact b3
theorem aZE{α:Type}(a:List Nat)(g:Nat->Bool)(h:Nat->α):((bYu a.length).filter λm=>g (a.getD m 0)).map (λm=>h (a.getD m 0))=(a.filter g).map h:=by
 have e:(bYu a.length).map (λm=>a.getD m 0)=a:=by
  apply cXz;intro i;rw[bYB];by_cases b:i<a.length
  ·rw[cXk b];simp[bYg b]
  ·rw[bYR (by simpa using b),bYR (by omega)];rfl
 conv=>rhs;rw[<- e,List.filter_map,cXt]
 rfl
theorem aKs:yN ["self","day"] ["self","day"] (yH Q9):=scM
theorem aWL:xO ["self","day"] (yH Q9) "pair" [] [] {kind:= .function,names:= [(".0",.local),("pair",.local)],isGenerator:=false,isCoroutine:=false,more:= [] }:=
 lcM
theorem aW7(cl:Cl K CB CL)(a:MG P w K mg base CX0 n CB "waiting_pairs" ["self","day"] (aVr CB CL))(F:Fun K "waiting" "Book.waiting" Q9 f fd):xE P w K mg base CX0 (n+1) f fd ["self","day"] (bKi CB CL false):=by
 have N:=aKs;refine F.ok (k:=n) N (λa0 A outer s H vs Q E X h=>?_);obtain⟨C,Y,W,ls,O,R,S,d,rfl,u,hR,hS,q⟩:=h;refine⟨_,(yF (yP (aQF aWL rfl (xL (v1 a X v0 (pv 0) (yA (pv 1) yD))) (λ_ _ _ _ _=>wK) (λ_ _ _ _ _=>(yL (show IxR _ (bJc K)from yX) (pv 0) yE))))),?_⟩;obtain⟨dx,hb⟩:=u.book;refine⟨_,rfl,C,dx,_,rfl,hb,rfl,_,rfl,C,Y,W,ls,O,R,S,d,rfl,u,hR,hS,λl H1 g Z G U r J c=>?_⟩;have o:g.length=Z.length:=J.length;have a1:g.length<=R.length:=Fm.wP (c.ord.imp λ{x y} e z=>by rw[z,Stree.wY]at e;cases e) λx M=>((c.mem x).mp M).1;refine⟨l,rfl,⟨_,SqL.of r⟩,λD t=>?_⟩;refine aWJ (λ_=>true) (λm=>V.int (g.getD m 0:Nat)) (SqL.of r) t (zn (by omega)) (λj v L H' T I b=>b) (λj v L _ H' T I b=>?_) ?_
 ·obtain⟨k,hk,p,e1,B⟩:=bXZ J L;subst e1;have:g.getD j 0=k:=by simp[bY1,hk]
  rw[this]at b;exact⟨_,rfl,p,_,1,_,rfl,rfl,SqT.of ((I p (yJ B t)).trans B),rfl,b⟩
 ·have e:=aZE g (λ_=>true) λi=>V.int (i:Nat);rw[o]at e;rw[e,cX1.mpr λ_ _=>rfl];exact q D _ g (G.trans (yG t _)) (G.fresh t) yB c
theorem aKo:yN ["self","day"] ["self","day"] (yH Q8):=scM
theorem aWK:xO ["self","day"] (yH Q8) "pair" ["day"] [1] {kind:= .function,names:= [(".0",.local),("pair",.local),("day",.free)],isGenerator:=false,isCoroutine:=false,more:= [] }:=
 lcM
theorem aW3(cl:Cl K CB CL)(g:MG P w K mg base CX0 n CB "waiting_pairs" ["self","day"] (aVr CB CL))(F:Fun K "overdue" "Book.overdue" Q8 f fd):xE P w K mg base CX0 (n+1) f fd ["self","day"] (bKi CB CL true):=by
 have X:=aKo;refine F.ok (k:=n) X (λa1 A outer s H vs Q E hr h=>?_);obtain⟨T,la,sa,ls,Y,R,S,d,rfl,O,hR,hS,q⟩:=h;refine⟨_,(yF (yP (aQF aWK rfl (xL (v1 g hr v0 (pv 0) (yA (pv 1) yD))) (λ_ _ _ _ _=>(w6 (yM vL (yL (show IxR _ (bJc K)from yX) (pv 0) yE) (pv 1)))) (λ_ _ _ _ _=>(yL (show IxR _ (bJc K)from yX) (pv 0) yE))))),?_⟩;obtain⟨dx,hb⟩:=O.book;refine⟨_,rfl,T,dx,_,rfl,hb,rfl,_,rfl,T,la,sa,ls,Y,R,S,d,rfl,O,hR,hS,λl H1 t ps U a0 G J r=>?_⟩;have C:t.length=ps.length:=J.length;have a2:t.length<=R.length:=Fm.wP (r.ord.imp λ{x y} e z=>by rw[z,Stree.wY]at e;cases e) λx W=>((r.mem x).mp W).1;refine⟨l,rfl,⟨_,SqL.of G⟩,λD B=>?_⟩;refine aWJ (λm=>decide (jY R S (t.getD m 0)<d)) (λm=>V.int (t.getD m 0:Nat)) (SqL.of G) B (zn (by omega)) (λj v L H' Z I o=>?_) (λj v L _ H' Z I o=>?_) ?_
 ·obtain⟨k,M,p,N,u⟩:=bXZ J L;subst N;have:t.getD j 0=k:=by simp[bY1,M]
  rw[this]at o;exact⟨_,rfl,p,_,0,_,rfl,rfl,SqT.of ((I p (yJ u B)).trans u),rfl,_,rfl,_,_,rfl,rfl,_,rfl,o⟩
 ·obtain⟨k,M,p,N,u⟩:=bXZ J L;subst N;have:t.getD j 0=k:=by simp[bY1,M]
  rw[this]at o;exact⟨_,rfl,p,_,1,_,rfl,rfl,SqT.of ((I p (yJ u B)).trans u),rfl,o⟩
 ·have e:=aZE t (λk=>decide (jY R S k<d)) λi=>V.int (i:Nat);rw[C]at e;rw[e];refine q D _ (t.filter λk=>decide (jY R S k<d)) (U.trans (yG B _)) (U.fresh B) yB ⟨λk=>?_,r.ord.sublist cXj⟩;rw[cQo,r.mem k,decide_eq_true_eq];unfold jY;constructor
  ·rintro⟨⟨a,b,_⟩,c⟩;exact⟨a,b,λ_=>c⟩
  ·rintro⟨a,b,c⟩;exact⟨⟨a,b,λz=>by cases z⟩,c rfl⟩
end
end Desk
namespace Desk
open PySem L2 PyProof.Rows
open Bk (Row Rows)
def own(la sa:Nat)(ls cs:List Nat):List Nat:=la::sa::(ls++cs)
def Y5(o:List Nat)(H c:Hp):Prop:=∀b u,b∉o->(∀a,u≠ .tbl a)->H b=some u->c b=some u
theorem Y5.of{o:List Nat}{H a:Hp}(k:xZ H a):Y5 o H a:=λb u _ n e=>k b u n e
theorem Y5.trans{o:List Nat}{H f d:Hp}(a:Y5 o H f)(b:Y5 o f d):Y5 o H d:=λc u n t e=>b c u n t (a c u n t e)
theorem Y5.upd{o:List Nat}{H:Hp}{b:Nat}(a:b∈o)(u:HO):Y5 o H (upd H b u):=λc v n _ e=>by
 rw[yI (λz=>n (by rw[z];exact a))];exact e
theorem aVP{la sa:Nat}{ls cs:List Nat}:la∈own la sa ls cs:=bYw
theorem aYL{la sa:Nat}{ls cs:List Nat}:sa∈own la sa ls cs:=bYt _ bYw
theorem aJY{la sa b:Nat}{ls cs:List Nat}(h:b∈ls):b∈own la sa ls cs:=bYt _ (bYt _ (cXe _ h))
theorem bVh{la sa b:Nat}{ls cs:List Nat}(h:b∈cs):b∈own la sa ls cs:=bYt _ (bYt _ (bYF _ h))
section
variable {CB CL:Nat}{H:Hp}{ba la sa:Nat}{ls cs:List Nat}{R:Rows}{S:List Int}
theorem PB.l_ne(h:PB CB CL H ba la sa ls cs R S){b a:Nat}{xs:List V}(g:b∈ls)(f:H a=some (.lst xs)):a≠b:=λz=>by
 obtain⟨i,c,e⟩:=bY8 g;obtain⟨o,m,k,d,p,⟨n,j⟩,l⟩:=h.get (bYg (show i<R.length by rw[<- h.len];exact c));rw[bYg c,e]at d;cases d;rw[z,j]at f;cases f
theorem PB.ba_ne(h:PB CB CL H ba la sa ls cs R S):ba∉ls:=λz=>by
 obtain⟨i,a,e⟩:=bY8 z;obtain⟨m,k,g,c,n,⟨l,f⟩,j⟩:=h.get (bYg (show i<R.length by rw[<- h.len];exact a));rw[bYg a,e]at c;cases c;obtain⟨d,b⟩:=h.book;rw[f]at b;cases b
theorem PB.set(h:PB CB CL H ba la sa ls cs R S){k:Nat}{b c dx:Nat}{r:Row}(m:ls[k]? =some b)(u:cs[k]? =some c)(t:R[k]? =some r)(f:Row->Row)(x:(f r).copies=r.copies): PB CB CL (upd H b (.ins CL dx (aZK k (f r) c))) ba la sa ls cs (Bk.xR R k f) S:=by
 have a:=bYz m;refine⟨?_,?_,?_,by rw[Bk.zS];exact h.len,by rw[Bk.zS];exact h.clen,h.nd,h.cnd,h.las,h.lac,h.sac,λi s B v l p g=>?_⟩
 ·obtain⟨d,e⟩:=h.book;exact⟨d,by rw[yI (λz=>h.ba_ne (by rw[z];exact a))];exact e⟩
 ·rw[yI (h.l_ne a h.lst)];exact h.lst
 ·rw[yI (h.l_ne a h.sht)];exact h.sht
 ·rw[Bk.zK]at g;by_cases e:i=k
  ·subst e;rw[if_pos rfl,t]at g;cases g;rw[m]at l;cases l;rw[u]at p;cases p;obtain⟨_,j⟩:=h.row i b c r m u t;refine⟨⟨dx,yB⟩,?_⟩;rw[yI (h.l_ne a j),x];exact j
  ·rw[if_neg e]at g;obtain⟨⟨d,y⟩,j⟩:=h.row i s B v l p g;have q:s≠b:=λz=>by
    subst z;obtain⟨A,o⟩:=bYs.mp l;obtain⟨w,n⟩:=bYs.mp m;exact e ((cQ6 h.nd).mp (o.trans n.symm))
   exact⟨⟨d,by rw[yI q];exact y⟩,by rw[yI (h.l_ne a j)];exact j⟩
theorem PB.copy(h:PB CB CL H ba la sa ls cs R S){k:Nat}{c:Nat}{r:Row}(g:cs[k]? =some c)(o:R[k]? =some r)(j:Str): PB CB CL (upd H c (.lst ((r.copies++ [j]).map V.str))) ba la sa ls cs (Bk.xR R k λr=>{r with copies:=r.copies++ [j] }) S:=by
 have l:=bYz g;obtain⟨b0,G,K,I,y,⟨A,J⟩,D⟩:=h.get o;rw[g]at y;cases y;have p:∀ {a C dx fs},H a=some (.ins C dx fs)->a≠c:=λq z=>by rw[z,D]at q;cases q
 refine⟨?_,?_,?_,by rw[Bk.zS];exact h.len,by rw[Bk.zS];exact h.clen,h.nd,h.cnd,h.las,h.lac,h.sac,λi u x B v m d=>?_⟩
 ·obtain⟨b,e⟩:=h.book;exact⟨b,by rw[yI (p e)];exact e⟩
 ·rw[yI (λz=>h.lac (by rw[z];exact l))];exact h.lst
 ·rw[yI (λz=>h.sac (by rw[z];exact l))];exact h.sht
 ·rw[Bk.zK]at d;by_cases e:i=k
  ·subst e;rw[if_pos rfl,o]at d;cases d;rw[g]at m;cases m;obtain⟨⟨b,f⟩,w⟩:=h.row i u c r v g o;exact⟨⟨b,by rw[yI (p f)];exact f⟩,yB⟩
  ·rw[if_neg e]at d;obtain⟨⟨b,f⟩,w⟩:=h.row i u x B v m d;have t:x≠c:=λz=>by
    subst z;obtain⟨F,s⟩:=bYs.mp m;obtain⟨E,n⟩:=bYs.mp g;exact e ((cQ6 h.cnd).mp (s.trans n.symm))
   exact⟨⟨b,by rw[yI (p f)];exact f⟩,by rw[yI t];exact w⟩
theorem PB.shutD(h:PB CB CL H ba la sa ls cs R S)(d:Int):PB CB CL (upd H sa (.lst ((S++ [d]).map V.int))) ba la sa ls cs R (S++ [d]):=by
 have f:∀ {a C dx fs},H a=some (.ins C dx fs)->a≠sa:=λq z=>by rw[z,h.sht]at q;cases q
 refine⟨?_,?_,yB,h.len,h.clen,h.nd,h.cnd,h.las,h.lac,h.sac,λi o m j k g n=>?_⟩
 ·obtain⟨b,e⟩:=h.book;exact⟨b,by rw[yI (f e)];exact e⟩
 ·rw[yI h.las];exact h.lst
 ·obtain⟨⟨b,c⟩,l⟩:=h.row i o m j k g n;exact⟨⟨b,by rw[yI (f c)];exact c⟩,by rw[yI (λz=>h.sac (by rw[<- z];exact bYz g))];exact l⟩
theorem PB.enter(h:PB CB CL H ba la sa ls cs R S){l c dx:Nat}{r:Row}{u:Hp}(hl:H l=none)(g:H c=none)(I:l≠c)(M:r.copies= [])(O:u l=some (.ins CL dx (aZK R.length r c)))(K:u c=some (.lst [])) (k:∀b o,H b=some o->u b=some o):PB CB CL (upd u la (.lst ((ls++ [l]).map V.ref))) ba la sa (ls++ [l]) (cs++ [c]) (R++ [r]) S:=by
 have B:l≠la:=λz=>by rw[z,h.lst]at hl;cases hl
 have j:c≠la:=λz=>by rw[z,h.lst]at g;cases g
 have E:∀ {a C dx fs},H a=some (.ins C dx fs)->a≠la:=λq z=>by rw[z,h.lst]at q;cases q
 have N:∀i b,ls[i]? =some b->i<R.length:=λi b q=>by rw[<- h.len];exact(bYs.mp q).1
 have nl:l∉ls:=λz=>by obtain⟨i,d,e⟩:=bY8 z;obtain⟨w,D,t,p,x,⟨f,F⟩,G⟩:=h.get (bYg (show i<R.length by rw[<- h.len];exact d));rw[bYg d,e]at p;cases p;rw[F]at hl;cases hl
 have J:c∉cs:=λz=>by obtain⟨i,d,e⟩:=bY8 z;obtain⟨w,D,t,p,x,F,G⟩:=h.get (bYg (show i<R.length by rw[<- h.clen];exact d));rw[bYg d,e]at x;cases x;rw[G]at g;cases g
 refine⟨?_,yB,?_,by simp[h.len],by simp[h.clen],?_,?_,h.las,?_,?_,λi w D L s n m=>?_⟩
 ·obtain⟨f,e⟩:=h.book;exact⟨f,by rw[yI (E e)];exact k _ _ e⟩
 ·rw[yI (bY0 h.las)];exact k _ _ h.sht
 ·exact cXK.mpr ⟨h.nd,cQH _ _,λa v b A z=>nl (by rw[<- bYy.mp A,<- z];exact v)⟩
 ·exact cXK.mpr ⟨h.cnd,cQH _ _,λa v b A z=>J (by rw[<- bYy.mp A,<- z];exact v)⟩
 ·intro z;rcases bYU.mp z with z|z
  ·exact h.lac z
  ·exact j (bYy.mp z).symm
 ·intro z;rcases bYU.mp z with z|z
  ·exact h.sac z
  ·rw[<- bYy.mp z,h.sht]at g;cases g
 ·by_cases d:i<R.length
  ·rw[bYY (by rw[h.len];exact d)]at s;rw[bYY (by rw[h.clen];exact d)]at n;rw[bYY d]at m;obtain⟨⟨f,t⟩,p⟩:=h.row i w D L s n m;exact⟨⟨f,by rw[yI (E t)];exact k _ _ t⟩,by rw[yI (λz=>h.lac (by rw[<- z];exact bYz n))];exact k _ _ p⟩
  ·have y:i=R.length:=by
    have:=(bYs.mp m).1;simp at this;omega
   subst y;rw[bYH (by rw[h.len];exact bYo _),h.len,cQC]at s;rw[bYH (by rw[h.clen];exact bYo _),h.clen,cQC]at n;rw[bYH (bYo _),cQC]at m;cases s;cases n;cases m;exact⟨⟨dx,by rw[yI B];exact O⟩,by rw[yI j,K,M];rfl⟩
end
def aVq(CB:Nat):Sp:=λd H Q _=>∃ (x c:Nat),d= [.ref x]/\H x=some (.ins CB c [])/\
 ∀ (la sa:Nat)(a:Hp),H la=none->H sa=none->la≠sa->a x=some (.ins CB c [("letters",.ref la),("shut",.ref sa)])->a la=some (.lst [])->a sa=some (.lst [])->(∀b,b≠x->b≠la->b≠sa->a b=H b)->Q .non a
def bVT(CB CL:Nat):Sp:=λg H Q _=>∃ (ba la sa:Nat)(ls cs:List Nat)(R:Rows)(S:List Int)(a:Str)(d:Int)(e:Str)(t:Int),g= [.ref ba,.str a,.int d,.str e,.int t]/\PB CB CL H ba la sa ls cs R S/\R.length<=1000/\
 ∀ (l c:Nat)(f:Hp),H l=none->H c=none->PB CB CL f ba la sa (ls++ [l]) (cs++ [c]) (R++ [⟨a,d,e,t,none,"",false,[]⟩]) S->(∀b o,b≠la->H b=some o->f b=some o)->Q (.ref l) f
def aZb(K:bYj)(Rf:Nat×Nat):Sp:=λa H Q E=>∃t:Int,a= [.int t]/\(0<=t->Q .non H)/\(t<0->xK K Rf H E "no term")
def aX9(K:bYj)(Rf:Nat×Nat):Sp:=λc H Q E=>∃a b:Int,c= [.int a,.int b]/\(a<=b->Q .non H)/\(b<a->xK K Rf H E "too early")
section
variable {K:bYj}
abbrev aY0:Stmt:=xI "Book" "__init__"
abbrev bKD:Stmt:=xI "Book" "add_letter"
abbrev bQd:Stmt:=xF "check_term"
abbrev aY4:Stmt:=xF "check_days"
theorem bZg:yN ["self"] ["self"] (yH aY0):=scM
theorem bXH(cl:Cl K CB CL)(F:Fun K "__init__" "Book.__init__" aY0 f fd):xE P w K mg base CX0 (n+1) f fd ["self"] (aVq CB):=by
 have o:=bZg;refine F.ok (k:=n) o (λt A outer s H u Q E v h=>?_);obtain⟨x,m,rfl,j,q⟩:=h;refine⟨_,(yC (zO (pv 0) (y6 yD) rfl) (yF (zO (pv 0) (y6 yD) rfl))),?_⟩;refine⟨z0,λla g=>?_⟩;have c:x≠la:=yJ j g;refine⟨_,rfl,x,CB,m,_,rfl,(yI c).trans j,cl.b,cl.letters,(show 0<1000 by decide),?_⟩;refine⟨z0,λsa a=>?_⟩;have d:x≠sa:=yJ yB a;have e:la≠sa:=λz=>by rw[<- z,yI (bY0 c),yB]at a;cases a
 refine⟨_,rfl,x,CB,m,_,rfl,(yI d).trans yB,cl.b,cl.shut,(show 1<1000 by decide),?_⟩;have i:H sa=none:=by rw[yI (bY0 d),yI (bY0 e)]at a;exact a
 refine q la sa _ g i e yB ?_ ?_ λb l r p=>?_
 ·rw[yI (bY0 c),yI e,yI (bY0 c),yB]
 ·rw[yI (bY0 d),yB]
 ·rw[yI l,yI p,yI l,yI r]
theorem bWU:yN ["self","way","day","partner","term","letter"] ["self","way","day","partner","term"] (yH bKD):=scM
theorem bWD(T:vJ mg)(cl:Cl K CB CL)(a:MkG P w K mg base n "Letter" CL ["self","number","way","day","partner","term"] (bQH CL))(F:Fun K "add_letter" "Book.add_letter" bKD f fd): xE P w K mg base CX0 (n+2) f fd ["self","way","day","partner","term"] (bVT CB CL):=by
 have L:=bWU;refine F.ok (k:=n+1) L (λX A outer s H vs Q E U h=>?_);obtain⟨ba,la,sa,ls,cs,R,S,D,d,G,t,rfl,j,hR,q⟩:=h;refine⟨_,(yC (yU (i:=5) (bKA a U rfl (yA (yQ yO rfl T.b_len xB (yA (y3 (pv 0) rfl) yD)) (yA (pv 1) (yA (pv 2) (yA (pv 3) (yA (pv 4) yD))))))) (yC (yY (vM bYG bYN bYO xD (y3 (pv 0) rfl) (yA (pv 5) yD))) (yF (yP (pv 5))))),?_⟩;obtain⟨I,J⟩:=j.book;have hl:(ls.map V.ref).length=R.length:=by rw[bYl];exact j.len
 refine⟨_,rfl,ba,CB,I,_,_,rfl,J,cl.b,cl.letters,rfl,la,_,rfl,.inl (SqL.of j.lst),?_⟩;rw[hl];refine⟨_,rfl,_,rfl,_,rfl,_,rfl,λx xd u v y=>?_⟩;refine⟨x,xd,R.length,D,d,G,t,rfl,yB,λc Z l N W O=>⟨rfl,?_⟩⟩;dsimp only[yW];have p:c≠x:=λz=>by rw[z,yB]at l;cases l
 have C:c≠xd:=λz=>by rw[z,yI y,yB]at l;cases l
 have g:H c=none:=by rw[yI p,yI C]at l;exact l
 have m:∀b o,H b=some o->Z b=some o:=λb o e=>by have b1:=yJ e u;have Y:=yJ e g;have M:=yJ e v;rw[O b b1 Y,yI b1,yI M];exact e
 refine⟨_,rfl,ba,CB,I,_,_,rfl,m _ _ J,cl.b,cl.letters,rfl,.inl ⟨rfl,_,SqL.of (m _ _ j.lst)⟩,_,rfl,la,_,_,rfl,rfl,m _ _ j.lst,zlt (by omega),?_⟩;refine⟨_,rfl,?_⟩;have r:=j.enter u g (bY0 p) rfl N W m;rw[cQA]at r;refine q x c _ u g r λb o B e=>?_;rw[yI B];exact m b o e
theorem bZu:yN ["term"] ["term"] (yH bQd):=scM
theorem bXV(a:ExG P w K mg base n "NoTerm" Rf.1 C1 "no term")(F:Fun K "check_term" "check_term" bQd f fd):xE P w K mg base (CXR P w) (n+2) f fd ["term"] (aZb K Rf):=by
 have g:=bZu;refine F.okX (k:=n+1) g (λb A outer s H i Q E d h=>?_);obtain⟨t,rfl,q,e⟩:=h;refine⟨_,(yF (y7 (yM vL (pv 0) yE) (yF (z9 a d rfl)) yS)),?_⟩;refine⟨_,rfl,_,_,rfl,rfl,_,rfl,?_⟩;refine qA (λc=>?_) (λc=>?_)
 ·exact(e (of_decide_eq_true c)).raise a
 ·exact q (by have:=of_decide_eq_false (Bool.eq_false_iff.mpr c);omega)
theorem bZk:yN ["asked_day","reply_day"] ["asked_day","reply_day"] (yH aY4):=scM
theorem bXL(d:ExG P w K mg base n "TooEarly" Rf.1 C1 "too early")(F:Fun K "check_days" "check_days" aY4 f fd):xE P w K mg base (CXR P w) (n+2) f fd ["asked_day","reply_day"] (aX9 K Rf):=by
 have e:=bZk;refine F.okX (k:=n+1) e (λi A outer s H l Q E g h=>?_);obtain⟨a,b,rfl,q,j⟩:=h;refine⟨_,(yF (y7 (yM vL (pv 1) (pv 0)) (yF (z9 d g rfl)) yS)),?_⟩;refine⟨_,rfl,_,rfl,_,_,rfl,rfl,_,rfl,?_⟩;refine qA (λc=>?_) (λc=>?_)
 ·exact(j (of_decide_eq_true c)).raise d
 ·exact q (by have:=of_decide_eq_false (Bool.eq_false_iff.mpr c);omega)
end
end Desk
namespace Desk
open PySem L2 PyProof.Rows
open Bk (Row Rows)
def vO(o:List Nat)(H a:Hp):Prop:=∀b u,b∉o->H b=some u->a b=some u
theorem vO.of{o:List Nat}{H a:Hp}(k:xC H a):vO o H a:=λb u _ e=>k b u e
theorem vO.trans{o:List Nat}{H f d:Hp}(a:vO o H f)(b:vO o f d):vO o H d:=λc u n e=>b c u n (a c u n e)
theorem vO.upd{o:List Nat}{H:Hp}{b:Nat}(a:b∈o)(u:HO):vO o H (upd H b u):=λc v n e=>by
 rw[yI (λz=>n (by rw[z];exact a))];exact e
theorem vO.t{o:List Nat}{H a:Hp}(k:vO o H a):Y5 o H a:=λb u n _ e=>k b u n e
def qO(H:Hp)(o a:List Nat):Prop:=∀b∈a,b∈o\/H b=none
theorem qO.refl{H:Hp}{o:List Nat}:qO H o o:=λb h=> .inl h
theorem qO.snoc{H:Hp}{la sa l c:Nat}{ls cs:List Nat}(hl:H l=none)(a:H c=none):qO H (own la sa ls cs) (own la sa (ls++ [l]) (cs++ [c])):=λb h=>by
 rcases bYq.mp h with e|h
 ·exact .inl (by rw[e];exact aVP)
 rcases bYq.mp h with e|h
 ·exact .inl (by rw[e];exact aYL)
 rcases bYU.mp h with h|h
 ·rcases bYU.mp h with h|h
  ·exact .inl (aJY h)
  ·exact .inr (by rw[bYy.mp h];exact hl)
 ·rcases bYU.mp h with h|h
  ·exact .inl (bVh h)
  ·exact .inr (by rw[bYy.mp h];exact a)
def aZf(e CL d la sa:Nat)(ls cs:List Nat)(H:Hp)(f:Rows)(g:List Int)(q:Hp->Prop):Prop:=∀ (c:Hp)(b a:List Nat),PB e CL c d la sa b a f g->vO (own la sa ls cs) H c->qO H (own la sa ls cs) (own la sa b a)->q c
def bWy(i:Nat)(r:Row)(c:Nat)(t:Int):List (Str×V):=
 [("number",.int (i:Nat)),("way",.str r.way),("day",.int r.date),("partner",.str r.partner),("term",.int t),("link",wZ r.link),("file",X1 r),("copies",.ref c),("void",.bl r.void)]
def bQG(K:bYj)(Rf:Nat×Nat)(e CL:Nat):Sp:=λj H Q E=>∃ (c h g:Nat)(i f:List Nat)(R:Rows)(S:List Int)(a:Str)(d:Int)(b:Str)(t:Int),j= [.ref c,.str a,.int d,.str b,.int t]/\PB e CL H c h g i f R S/\R.length<=1000/\
 (0<=t->aZf e CL c h g i f H (R++ [⟨a,d,b,t,none,"",false,[]⟩]) S (Q (.int (R.length:Nat))))/\(t<0->xK K Rf H E "no term")
def bQL(K:bYj)(Rf:Nat×Nat)(b CL:Nat):Sp:=λh H Q E=>∃ (a f e:Nat)(g c:List Nat)(R:Rows)(S:List Int)(m d t:Int),h= [.ref a,.int m,.int d,.int t]/\PB b CL H a f e g c R S/\R.length<=1000/\
 (Bk.wI R m=false->xK K Rf H E "no letter")/\(Bk.wI R m=true->t<0->xK K Rf H E "no term")/\
 ∀ (k:Nat)(r:Row),m=(k:Int)->R[k]? =some r->r.void=false->0<=t->(d<r.date->xK K Rf H E "too early")/\(r.date<=d->aZf b CL a f e g c H (R++ [⟨Bk.jT r.way,d,r.partner,t,some k,r.place,false,[]⟩]) S (Q (.int (R.length:Nat))))
def aWc(K:bYj)(Rf:Nat×Nat)(c CL:Nat):Sp:=λg H Q E=>∃ (a b e:Nat)(d f:List Nat)(R:Rows)(S:List Int)(m:Int),g= [.ref a,.int m]/\PB c CL H a b e d f R S/\
 (Bk.wI R m=false->xK K Rf H E "no letter")/\∀ (k:Nat)(r:Row),m=(k:Int)->R[k]? =some r->r.void=false->(r.link=none->xK K Rf H E "has none")/\(r.link≠none->aZf c CL a b e d f H (Bk.xR R k λr=>{r with link:=none}) S (Q .non))
def aJd(K:bYj)(Rf:Nat×Nat)(b CL:Nat):Sp:=λg H Q E=>∃ (a e d:Nat)(f c:List Nat)(R:Rows)(S:List Int)(m t:Int),g= [.ref a,.int m,.int t]/\PB b CL H a e d f c R S/\
 (Bk.wI R m=false->xK K Rf H E "no letter")/\∀ (k:Nat)(r:Row),m=(k:Int)->R[k]? =some r->r.void=false->(t<0->xK K Rf H E "no term")/\(0<=t->aZf b CL a e d f c H (Bk.xR R k λr=>{r with term:=t}) S (Q .non))
def bJl(K:bYj)(Rf:Nat×Nat)(c CL:Nat):Sp:=λh H Q E=>∃ (b f e:Nat)(g d:List Nat)(R:Rows)(S:List Int)(m:Int)(a:Str),h= [.ref b,.int m,.str a]/\PB c CL H b f e g d R S/\(∀r∈R,r.copies.length<=1000)/\
 (Bk.wI R m=false->xK K Rf H E "no letter")/\∀ (k:Nat)(r:Row),m=(k:Int)->R[k]? =some r->r.void=false->(a=r.partner\/a∈r.copies->xK K Rf H E "copied")/\
  (a≠r.partner->a∉r.copies->aZf c CL b f e g d H (Bk.xR R k λr=>{r with copies:=r.copies++ [a] }) S (Q (.int ((r.copies.length:Nat)+1))))
def aV6(K:bYj)(Rf:Nat×Nat)(c CL:Nat):Sp:=λg H Q E=>∃ (a b e:Nat)(d f:List Nat)(R:Rows)(S:List Int)(m:Int),g= [.ref a,.int m]/\PB c CL H a b e d f R S/\R.length<=100/\
 (Bk.wI R m=false->xK K Rf H E "no letter")/\∀ (k:Nat)(r:Row),m=(k:Int)->R[k]? =some r->r.void=false->(Bk.wE R k≠ []->xK K Rf H E "answered")/\(Bk.wE R k= []->aZf c CL a b e d f H (Bk.xR R k λr=>{r with link:=none,void:=true}) S (Q .non))
def bJm(K:bYj)(Rf:Nat×Nat)(c CL:Nat):Sp:=λh H Q E=>∃ (a b f:Nat)(e g:List Nat)(R:Rows)(S:List Int)(d:Int),h= [.ref a,.int d]/\PB c CL H a b f e g R S/\S.length<=1000/\
 (Dm.cts S d=false->xK K Rf H E "counts not")/\(Dm.cts S d=true->aZf c CL a b f e g H R (S++ [d]) (Q .non))
def aWd(K:bYj)(Rf:Nat×Nat)(b CL:Nat):Sp:=λi H Q E=>∃ (a g f:Nat)(h e:List Nat)(R:Rows)(S:List Int)(m d:Int),i= [.ref a,.int m,.int d]/\PB b CL H a g f h e R S/\R.length<=100/\Bk.Y3 R/\
 (Bk.wI R m=false->xK K Rf H E "no letter")/\∀ (k:Nat)(r:Row),m=(k:Int)->R[k]? =some r->r.void=false->(((∃j,r.link=some j/\d<Bk.dt R j)\/∃c∈Bk.wE R k,Bk.dt R c<d)->xK K Rf H E "too early")/\
  ((∀j,r.link=some j->Bk.dt R j<=d)->(∀c∈Bk.wE R k,d<=Bk.dt R c)->aZf b CL a g f h e H (Bk.xR R k λr=>{r with date:=d}) S (Q .non))
theorem aKt(R:Rows)(r:Row)(f:Row->Row):Bk.xR (R++ [r]) R.length f=R++ [f r]:=by
 apply cXz;intro i;rw[Bk.zK];by_cases e:i=R.length
 ·subst e;rw[if_pos rfl,bYH (bYo _),bYH (bYo _),cQC];rfl
 ·rw[if_neg e];by_cases h:i<R.length
  ·rw[bYY h,bYY h]
  ·rw[bYR (by simp;omega),bYR (by simp;omega)]
section
variable {K:bYj}
abbrev aY6:Stmt:=xI "Book" "enter"
abbrev bQb:Stmt:=xI "Book" "reply"
abbrev aVb:Stmt:=xI "Book" "loosen"
abbrev aXW:Stmt:=xI "Book" "put_term"
abbrev bVy:Stmt:=xI "Book" "send_copy"
abbrev aJ7:Stmt:=xI "Book" "cancel"
abbrev bVz:Stmt:=xI "Book" "shut_day"
abbrev aVc:Stmt:=xI "Book" "put_day"
theorem bZm:yN ["self","way","day","partner","term"] ["self","way","day","partner","term"] (yH aY6):=scM
theorem bXN(cl:Cl K CB CL)(a:FnX P w K mg base n "check_term" ["term"] (aZb K Rf))(g:MG P w K mg base CX0 n CB "add_letter" ["self","way","day","partner","term"] (bVT CB CL)) (F:Fun K "enter" "Book.enter" aY6 f fd):xE P w K mg base (CXR P w) (n+1) f fd ["self","way","day","partner","term"] (bQG K Rf CB CL):=by
 have B:=bZm;refine F.okX (k:=n) B (λU A outer s H X Q E x h=>?_);obtain⟨v,L,I,y,r,R,S,m,d,p,t,rfl,j,hR,q,V⟩:=h;refine⟨_,(yC (yY (aQE a x rfl (yA (pv 4) yD))) (yF (yP (y3 (v1 g x v0 (pv 0) (yA (pv 1) (yA (pv 2) (yA (pv 3) (yA (pv 4) yD))))) rfl)))),?_⟩;obtain⟨O,T⟩:=j.book;refine⟨_,rfl,t,rfl,λC=>?_,V⟩;refine⟨_,rfl,v,O,_,rfl,T,rfl,_,rfl,_,rfl,_,rfl,_,rfl,v,L,I,y,r,R,S,m,d,p,t,rfl,j,hR,λl c W hl N i G=>?_⟩;have D:(y++ [l])[R.length]? =some l:=by rw[<- j.len,bYH (bYo _),cQC];rfl
 have M:(r++ [c])[R.length]? =some c:=by rw[<- j.clen,bYH (bYo _),cQC];rfl
 obtain⟨⟨o,J⟩,Y⟩:=i.row R.length l c _ D M (by rw[bYH (bYo _),cQC];rfl);exact⟨l,CL,o,_,_,rfl,J,cl.l,cl.number,rfl,q C W _ _ i (λb u n e=>G b u (λz=>n (by rw[z];exact aVP)) e) (qO.snoc hl N)⟩
theorem bZr:yN ["self","number","day","term","asked","letter"] ["self","number","day","term"] (yH bQb):=scM
theorem qW{R:Rows}{k:Nat}{r:Row}(b:R[k]? =some r)(a:r.void=false):Bk.wI R (k:Int)=true:=by rw[aZz b,a];rfl
theorem aXF{r:Row}(a:r.void=false):X1 r= .str r.place:=by unfold X1;rw[a];rfl
theorem bZI{r:Row}(a:r.void=false):Q0 r=r.term:=by unfold Q0;rw[a];rfl
theorem bXS(cl:Cl K CB CL)(o:MG P w K mg base (CXR P w) n CB "letter_at" ["self","number"] (aV4 K Rf CB CL))(g:FnX P w K mg base n "check_term" ["term"] (aZb K Rf)) (a:FnX P w K mg base n "check_days" ["asked_day","reply_day"] (aX9 K Rf)) (p:FnG P w K mg base n "other_way" ["way"] bQJ) (j:MG P w K mg base CX0 n CB "add_letter" ["self","way","day","partner","term"] (bVT CB CL)) (F:Fun K "reply" "Book.reply" bQb f fd):xE P w K mg base (CXR P w) (n+1) f fd ["self","number","day","term"] (bQL K Rf CB CL):=by
 have sc:=bZr;refine F.okX (k:=n) sc (λa0 A outer s H vs Q E C h=>?_);obtain⟨L,X,sa,J,I,R,S,m,d,t,rfl,y,hR,q1,q2,q3⟩:=h;refine⟨_,(yC (yU (i:=4) (v1 o C zX (pv 0) (yA (pv 1) yD))) (yC (yY (aQE g C rfl (yA (pv 3) yD))) (yC (yY (aQE a C rfl (yA (y3 (pv 4) rfl) (yA (pv 2) yD)))) (yC (yU (i:=5) (v1 j C v0 (pv 0) (yA (xJ p C rfl (yA (y3 (pv 4) rfl) yD)) (yA (pv 2) (yA (y3 (pv 4) rfl) (yA (pv 3) yD)))))) (yC (zO (pv 5) (pv 1) rfl) (yC (zO (pv 5) (y3 (pv 4) rfl) rfl) (yF (yP (y3 (pv 5) rfl))))))))),?_⟩;obtain⟨Y,hb⟩:=y.book;refine⟨_,rfl,L,Y,_,rfl,hb,rfl,_,rfl,L,X,sa,J,I,R,S,m,rfl,y,λk r b em N V T=>?_,q1⟩;subst em;obtain⟨W,cc,g1,g2,g3,⟨q,B⟩,g5⟩:=y.get N;obtain rfl:b=W:=bYC (T.symm.trans g2);dsimp only[yW];refine⟨_,rfl,t,rfl,λO=>?_,λO=>q2 (qW N V) O⟩;obtain⟨q4,q5⟩:=q3 k r rfl N V O;refine⟨_,rfl,b,CL,q,_,_,rfl,B,cl.l,cl.day,rfl,_,rfl,r.date,d,rfl,λhd=>?_,q4⟩;refine⟨_,rfl,L,Y,_,rfl,hb,rfl,_,rfl,b,CL,q,_,_,rfl,B,cl.l,cl.way,rfl,r.way,rfl,_,rfl,_,rfl,b,CL,q,_,_,rfl,B,cl.l,cl.partner,rfl,_,rfl,L,X,sa,J,I,R,S,Bk.jT r.way,d,r.partner,t,rfl,y,hR,λl c H1 hl hc D k1=>?_⟩;dsimp only[yW];have h1:(J++ [l])[R.length]? =some l:=by rw[<- y.len,bYH (bYo _),cQC];rfl
 have h2:(I++ [c])[R.length]? =some c:=by rw[<- y.clen,bYH (bYo _),cQC];rfl
 have h3:(R++ [(⟨Bk.jT r.way,d,r.partner,t,none,"",false,[]⟩:Row)])[R.length]? =some ⟨Bk.jT r.way,d,r.partner,t,none,"",false,[]⟩:=by rw[bYH (bYo _),cQC];rfl
 obtain⟨⟨v,f1⟩,f2⟩:=D.row R.length l c _ h1 h2 h3;refine⟨_,rfl,_,rfl,l,CL,v,_,rfl,f1,cl.l,cl.link,(show 9<1000 by decide),?_⟩;have U:b≠l:=yJ B hl;have M:b≠X:=λz=>by rw[z,y.lst]at B;cases B
 have Z:upd H1 l (.ins CL v (aXh "link" (.int (k:Nat)) (aZK R.length ⟨Bk.jT r.way,d,r.partner,t,none,"",false,[]⟩ c))) b=some (.ins CL q (aZK k r cc)):=(yI U).trans (k1 _ _ M B);refine⟨_,rfl,b,CL,q,_,_,rfl,Z,cl.l,cl.file,rfl,_,rfl,l,CL,v,_,rfl,yB,cl.l,cl.file,(show 9<1000 by decide),?_⟩;rw[jB];refine⟨_,rfl,l,CL,v,_,_,rfl,yB,cl.l,cl.number,rfl,?_⟩;have G:=D.set (dx:=v) h1 h2 h3 (λx=>{x with link:=some k,place:=r.place}) rfl;rw[aKt]at G;have e9:aXh "file" (X1 r) (aXh "link" (.int (k:Nat)) (aZK R.length ⟨Bk.jT r.way,d,r.partner,t,none,"",false,[]⟩ c))=aZK R.length ⟨Bk.jT r.way,d,r.partner,t,some k,r.place,false,[]⟩ c:=by rw[aXF V];rfl
 refine q5 hd _ (J++ [l]) (I++ [c]) ?_ (λW u nb e=>?_) (qO.snoc hl hc)
 ·rw[e9];exact G
 ·rw[yI (λz=>by rw[z]at e;rw[hl]at e;cases e)];exact k1 W u (λz=>nb (by rw[z];exact aVP)) e
theorem bQs:yN ["self","number","letter"] ["self","number"] (yH aVb):=scM
theorem aYF(cl:Cl K CB CL)(c:MG P w K mg base (CXR P w) (n+1) CB "letter_at" ["self","number"] (aV4 K Rf CB CL))(a:ExG P w K mg base n "HasNone" Rf.1 C1 "has none") (F:Fun K "loosen" "Book.loosen" aVb f fd):xE P w K mg base (CXR P w) (n+2) f fd ["self","number"] (aWc K Rf CB CL):=by
 have x:=bQs;refine F.okX (k:=n+1) x (λN A outer s H W Q E u h=>?_);obtain⟨t,I,D,T,y,R,S,m,rfl,g,V,G⟩:=h;refine⟨_,(yC (yU (i:=2) (v1 c u zX (pv 0) (yA (pv 1) yD))) (yC (y7 (yM aXr (y3 (pv 2) rfl) x3) (yF (z9 a u rfl)) yS) (yF (zO (pv 2) x3 rfl)))),?_⟩;obtain⟨L,M⟩:=g.book;refine⟨_,rfl,t,L,_,rfl,M,rfl,_,rfl,t,I,D,T,y,R,S,m,rfl,g,λk r b C q U o=>?_,V⟩;obtain⟨z,Z,X,p,B,⟨d,v⟩,Y⟩:=g.get q;obtain rfl:b=z:=bYC (o.symm.trans p);obtain⟨J,O⟩:=G k r C q U;dsimp only[yW];refine⟨_,rfl,b,CL,d,_,_,rfl,v,cl.l,cl.link,rfl,rfl,_,rfl,?_⟩;cases e:r.link with
 |none=>exact onT rfl ((J e).raise a)
 |some j=>refine onF rfl ⟨_,rfl,b,CL,d,_,rfl,v,cl.l,cl.link,(show 9<1000 by decide),?_⟩;exact O (by rw[e];simp) _ _ _ (g.set p B q (λr=>{r with link:=none}) rfl) (vO.upd (aJY (bYz p)) _) qO.refl
theorem aKp:yN ["self","number","term","letter"] ["self","number","term"] (yH aXW):=scM
theorem aW4(cl:Cl K CB CL)(c:MG P w K mg base (CXR P w) n CB "letter_at" ["self","number"] (aV4 K Rf CB CL))(a:FnX P w K mg base n "check_term" ["term"] (aZb K Rf)) (F:Fun K "put_term" "Book.put_term" aXW f fd):xE P w K mg base (CXR P w) (n+1) f fd ["self","number","term"] (aJd K Rf CB CL):=by
 have x:=aKp;refine F.okX (k:=n) x (λU A outer s H Y Q E u h=>?_);obtain⟨q,L,I,W,y,R,S,m,t,rfl,d,X,J⟩:=h;refine⟨_,(yC (yU (i:=3) (v1 c u zX (pv 0) (yA (pv 1) yD))) (yC (yY (aQE a u rfl (yA (pv 2) yD))) (yF (zO (pv 3) (pv 2) rfl)))),?_⟩;obtain⟨O,T⟩:=d.book;refine⟨_,rfl,q,O,_,rfl,T,rfl,_,rfl,q,L,I,W,y,R,S,m,rfl,d,λk r b D p v g=>?_,X⟩;obtain⟨B,o,Z,j,C,⟨e,N⟩,g5⟩:=d.get p;obtain rfl:b=B:=bYC (g.symm.trans j);obtain⟨M,V⟩:=J k r D p v;dsimp only[yW];refine⟨_,rfl,t,rfl,λG=>?_,M⟩;refine⟨_,rfl,_,rfl,b,CL,e,_,rfl,N,cl.l,cl.term,(show 9<1000 by decide),?_⟩;have z:aXh "term" (.int t) (aZK k r o)=aZK k {r with term:=t} o:=by show bWy k {r with term:=t} o t=_;unfold bWy aZK;rw[bZI (r:={r with term:=t}) v]
 rw[z];exact V G _ _ _ (d.set j C p (λr=>{r with term:=t}) rfl) (vO.upd (aJY (bYz j)) _) qO.refl
theorem bVM:yN ["self","number","person","letter"] ["self","number","person"] (yH bVy):=scM
theorem bVb(T:vJ mg)(cl:Cl K CB CL)(e:MG P w K mg base (CXR P w) (n+1) CB "letter_at" ["self","number"] (aV4 K Rf CB CL))(a:MG P w K mg base CX0 (n+1) CL "has_gone_to" ["self","person"] (bJg CL))(d:ExG P w K mg base n "Copied" Rf.1 C1 "copied") (F:Fun K "send_copy" "Book.send_copy" bVy f fd):xE P w K mg base (CXR P w) (n+2) f fd ["self","number","person"] (bJl K Rf CB CL):=by
 have I:=bVM;refine F.okX (k:=n+1) I (λa0 A outer s H vs Q E x h=>?_);obtain⟨D,W,O,ls,J,R,S,m,g,rfl,p,B,q1,U⟩:=h;refine⟨_,(yC (yU (i:=3) (v1 e x zX (pv 0) (yA (pv 1) yD))) (yC (y7 (xX (v1 a x v0 (pv 3) (yA (pv 2) yD))) (yF (z9 d x rfl)) yS) (yC (yY (vM bYG bYN bYO xD (y3 (pv 3) rfl) (yA (pv 2) yD))) (yF (yP (yQ yO rfl T.b_len xB (yA (y3 (pv 3) rfl) yD))))))),?_⟩;obtain⟨Z,hb⟩:=p.book;refine⟨_,rfl,D,Z,_,rfl,hb,rfl,_,rfl,D,W,O,ls,J,R,S,m,rfl,p,λk r b N u hv y=>?_,q1⟩;obtain⟨M,t,g1,g2,C,⟨j,o⟩,q⟩:=p.get u;obtain rfl:b=M:=bYC (y.symm.trans g2);obtain⟨X,q4⟩:=U k r N u hv;have G:=B r (bYz u);dsimp only[yW];refine⟨_,rfl,b,j,_,rfl,o,rfl,_,rfl,b,k,r,t,g,rfl,⟨j,o⟩,q,_,rfl,?_⟩;refine qA (λc=>?_) (λc=>?_)
 ·refine(X ?_).raise d;rw[Bool.or_eq_true,decide_eq_true_eq,cQS]at c;exact c
 ·rw[Bool.or_eq_true,decide_eq_true_eq,cQS,not_or]at c;have v:b≠t:=λz=>by rw[z,q]at o;cases o
  refine⟨_,rfl,b,CL,j,_,_,rfl,o,cl.l,cl.copies,rfl,.inl ⟨rfl,_,SqL.of q⟩,_,rfl,t,_,_,rfl,rfl,q,zlt (by rw[bYl];omega),?_⟩;refine⟨_,rfl,b,CL,j,_,_,rfl,(yI v).trans o,cl.l,cl.copies,rfl,t,_,rfl,.inl (SqL.of yB),?_⟩;have L:r.copies.map V.str++ [V.str g]=(r.copies++ [g]).map V.str:=by simp
  rw[L];have Y:((r.copies++ [g]).map V.str).length=r.copies.length+1:=by simp
  rw[Y];exact q4 c.1 c.2 _ _ _ (p.copy C u g) (vO.upd (bVh (bYz C)) _) qO.refl
theorem bQm:yN ["self","number","letter"] ["self","number"] (yH aJ7):=scM
theorem aYz(T:vJ mg)(cl:Cl K CB CL)(e:MG P w K mg base (CXR P w) (n+1) CB "letter_at" ["self","number"] (aV4 K Rf CB CL))(d:MG P w K mg base CX0 (n+1) CB "answers_to" ["self","letter"] (aVp CB CL))(g:MG P w K mg base CX0 (n+1) CL "make_void" ["self"] (bJn CL))(a:ExG P w K mg base n "Answered" Rf.1 C1 "answered") (F:Fun K "cancel" "Book.cancel" aJ7 f fd):xE P w K mg base (CXR P w) (n+2) f fd ["self","number"] (aV6 K Rf CB CL):=by
 have M:=bQm;refine F.okX (k:=n+1) M (λZ A outer s H vs Q E t h=>?_);obtain⟨q,G,D,y,C,R,S,m,rfl,j,hR,q1,W⟩:=h;refine⟨_,(yC (yU (i:=2) (v1 e t zX (pv 0) (yA (pv 1) yD))) (yC (y7 (yM aXg (yQ yO rfl T.b_len xB (yA (v1 d t v0 (pv 0) (yA (pv 2) yD)) yD)) yE) (yF (z9 a t rfl)) yS) (yF (yY (bX2 g t v0 (pv 2)))))),?_⟩;obtain⟨J,L⟩:=j.book;refine⟨_,rfl,q,J,_,rfl,L,rfl,_,rfl,q,G,D,y,C,R,S,m,rfl,j,λk r b U B hv x=>?_,q1⟩;obtain⟨N,cc,g1,u,O,⟨p,I⟩,g5⟩:=j.get B;obtain rfl:b=N:=bYC (x.symm.trans u);obtain⟨X,Y⟩:=W k r U B hv;dsimp only[yW];refine⟨_,rfl,q,J,_,rfl,L,rfl,_,rfl,q,G,D,y,C,R,S,k,b,rfl,j,u,hR,λl hl=>?_⟩;refine⟨l,_,rfl,.inl (SqL.of yB),_,_,rfl,rfl,_,rfl,?_⟩;have o:=yG hl (.lst ((Bk.wE R k).map λk=>(y.map V.ref).getD k .non));rw[bYl];refine qA (λc=>?_) (λc=>?_)
 ·refine((X λz=>?_).go (aKD.of o)).raise a;have:=of_decide_eq_true c;rw[z]at this;simp at this
 ·have v:Bk.wE R k= []:=by
   have:=of_decide_eq_false (Bool.eq_false_iff.mpr c);exact cQ5 (by omega)
  refine⟨_,rfl,b,p,_,rfl,o _ _ I,rfl,b,p,k,r,cc,rfl,o _ _ I,?_⟩;exact Y v _ _ _ ((j.same o).set u O B (λr=>{r with link:=none,void:=true}) rfl) ((vO.of o).trans (vO.upd (aJY (bYz u)) _)) qO.refl
theorem bVN:yN ["self","day"] ["self","day"] (yH bVz):=scM
theorem bVc(cl:Cl K CB CL)(c:FnG P w K mg base (n+1) "counts" ["shut","date"] (Days.aV9 K))(a:ExG P w K mg base n "CountsNot" Rf.1 C1 "counts not") (F:Fun K "shut_day" "Book.shut_day" bVz f fd):xE P w K mg base (CXR P w) (n+2) f fd ["self","day"] (bJm K Rf CB CL):=by
 have p:=bVN;refine F.okX (k:=n+1) p (λt A outer s H x Q E j h=>?_);obtain⟨g,y,i,z,v,R,S,d,rfl,e,B,u,r⟩:=h;refine⟨_,(yC (y7 (vF (xX (xJ c j rfl (yA (y3 (pv 0) rfl) (yA (pv 1) yD))))) (yF (z9 a j rfl)) yS) (yF (yY (vM bYG bYN bYO xD (y3 (pv 0) rfl) (yA (pv 1) yD))))),?_⟩;obtain⟨m,o⟩:=e.book;refine⟨_,rfl,g,CB,m,_,_,rfl,o,cl.b,cl.shut,rfl,_,rfl,i,S,d,rfl,SqL.of e.sht,_,rfl,?_⟩;cases l:Dm.cts S d with
 |false=>exact onT rfl ((u l).raise a)
 |true=>
  refine onF rfl ⟨_,rfl,g,CB,m,_,_,rfl,o,cl.b,cl.shut,rfl,.inl ⟨rfl,_,SqL.of e.sht⟩,_,rfl,i,_,_,rfl,rfl,e.sht,zlt (by rw[bYl];omega),?_⟩;have q:S.map V.int++ [V.int d]=(S++ [d]).map V.int:=by simp
  rw[q];exact r l _ _ _ (e.shutD d) (vO.upd aYL _) qO.refl
theorem bQt:yN ["self","number","day","letter","reply"] ["self","number","day"] (yH aVc):=scM
theorem aYG(cl:Cl K CB CL)(g:MG P w K mg base (CXR P w) n CB "letter_at" ["self","number"] (aV4 K Rf CB CL))(p:MG P w K mg base CX0 n CB "answers_to" ["self","letter"] (aVp CB CL))(a:FnX P w K mg base n "check_days" ["asked_day","reply_day"] (aX9 K Rf)) (F:Fun K "put_day" "Book.put_day" aVc f fd):xE P w K mg base (CXR P w) (n+1) f fd ["self","number","day"] (aWd K Rf CB CL):=by
 have sc:=bQt;refine F.okX (k:=n) sc (λa7 A outer s H vs Q E T h=>?_);obtain⟨B,la,sa,D,cs,R,S,m,d,rfl,y,hR,a3,q1,q2⟩:=h;refine⟨_,(yC (yU (i:=3) (v1 g T zX (pv 0) (yA (pv 1) yD))) (yC (y7 (yM z8 (y3 (pv 3) rfl) x3) (yF (yY (aQE a T rfl (yA (y3 (v1 g T zX (pv 0) (yA (y3 (pv 3) rfl) yD)) rfl) (yA (pv 2) yD))))) yS) (yC (zR PassesOwn.leaving rfl (xL (v1 p T v0 (pv 0) (yA (pv 3) yD))) (y9 (i:=4)) (yF (yY (aQE a T rfl (yA (pv 2) (yA (y3 (pv 4) rfl) yD)))))) (yF (zO (pv 3) (pv 2) rfl))))),?_⟩;obtain⟨dx,hb⟩:=y.book;refine⟨_,rfl,B,dx,_,rfl,hb,rfl,_,rfl,B,la,sa,D,cs,R,S,m,rfl,y,λk r b em Z hv a0=>?_,q1⟩;obtain⟨b',cc,g1,g2,g3,⟨I,g4⟩,g5⟩:=y.get Z;obtain rfl:b=b':=bYC (a0.symm.trans g2);obtain⟨q3,q4⟩:=q2 k r em Z hv;dsimp only[yW];refine zC (λX H'=>X= [some (.ref B),some (.int m),some (.int d),some (.ref b),none]/\H'=H/\∀j,r.link=some j->Bk.dt R j<=d) ?_ λjn=>?_
 ·rintro X H' ⟨rfl,rfl,hj⟩;refine⟨_,rfl,B,dx,_,rfl,hb,rfl,_,rfl,B,la,sa,D,cs,R,S,k,b,rfl,y,g2,hR,λl hl=>?_⟩;have O:=yG hl (.lst ((Bk.wE R k).map λk=>(D.map V.ref).getD k .non));refine⟨l,rfl,⟨_,SqL.of yB⟩,?_⟩;refine zG (xs:=(Bk.wE R k).map λk=>(D.map V.ref).getD k .non) (λt σ H1=>∃o:Option V,σ= [some (.ref B),some (.int m),some (.int d),some (.ref b),o]/\H1=upd H' l (.lst ((Bk.wE R k).map λk=>(D.map V.ref).getD k .non))/\∀i c,i<t->(Bk.wE R k)[i]? =some c->d<=Bk.dt R c) ?_ ?_ ?_ ?_
  ·exact⟨none,rfl,rfl,λi c z=>absurd z (cQ3 _)⟩
  ·rintro t σ H1 ht ⟨o,rfl,rfl,hd⟩;exact SqL.of yB
  ·rintro t x σ H1 N ⟨o,rfl,rfl,hd⟩;rw[bYB]at N;cases J:(Bk.wE R k)[t]? with
   |none=>rw[J]at N;cases N
   |some c=>
    rw[J]at N;have M:=bYz J;have a1:c<R.length:=bYS.mp (cQo.mp M).1;have C:=bYg a1;obtain⟨bc,c2,f1,f2,f3,⟨a2,f4⟩,f5⟩:=(y.same O).get C;have ex:(D.map V.ref).getD c .non= .ref bc:=by simp only[bY1,f1];rfl
    obtain rfl:x= .ref bc:=by have z:=bYC N;rw[<- z];exact ex
    dsimp only[yW];refine⟨_,rfl,_,rfl,bc,CL,a2,_,_,rfl,f4,cl.l,cl.day,rfl,d,R[c].date,rfl,λq=>?_,λq=>?_⟩
    ·refine⟨_,rfl,rfl,λi c' hi G=>?_⟩;by_cases e:i=t
     ·subst e;rw[J]at G;cases G;rw[Bk.vK C];exact q
     ·exact hd i c' (by omega) G
    ·exact(q3 (.inr ⟨c,M,by rw[Bk.vK C];exact q⟩)).go (aKD.of O)
  ·rintro σ H1 ⟨o,rfl,rfl,hd⟩;have Y:∀c∈Bk.wE R k,d<=Bk.dt R c:=λc J=>by
    obtain⟨i,hi,e⟩:=bY8 J;exact hd i c (by rw[bYl];exact hi) (by rw[bYg hi,e])
   refine⟨_,rfl,_,rfl,b,CL,I,_,rfl,O _ _ g4,cl.l,cl.day,(show 9<1000 by decide),?_⟩;exact q4 hj Y _ _ _ ((y.same O).set g2 g3 Z (λr=>{r with date:=d}) rfl) ((vO.of O).trans (vO.upd (aJY (bYz g2)) _)) qO.refl
 ·refine⟨_,rfl,b,CL,I,_,_,rfl,g4,cl.l,cl.link,rfl,rfl,_,rfl,?_⟩;cases u:r.link with
  |none=>exact onF rfl (jn _ _ ⟨rfl,rfl,λj hj=>by rw[u]at hj;cases hj⟩)
  |some j=>
   obtain⟨qj,v,a4⟩:=a3.ans k j r Z u;obtain⟨bj,cj,f1,f2,f3,⟨a5,f4⟩,f5⟩:=y.get v;refine onT rfl ⟨_,rfl,B,dx,_,rfl,hb,rfl,_,rfl,b,CL,I,_,_,rfl,g4,cl.l,cl.link,rfl,?_⟩;rw[u];refine⟨B,la,sa,D,cs,R,S,(j:Nat),rfl,y,λk2 r2 b2 e2 U a6 W=>?_,λhg=>?_⟩
   ·obtain rfl:j=k2:=by omega
    rw[v]at U;cases U;rw[f2]at W;cases W;refine⟨bj,CL,a5,_,_,rfl,f4,cl.l,cl.day,rfl,_,rfl,qj.date,d,rfl,λq=>?_,λq=>?_⟩
    ·refine jn _ _ ⟨rfl,rfl,λj' L=>?_⟩;rw[u]at L;cases L;rw[Bk.vK v];exact q
    ·exact q3 (.inl ⟨j,u,by rw[Bk.vK v];exact q⟩)
   ·rw[qW v a4.2.1]at hg;cases hg
end
end Desk
namespace Desk
open PySem L2 PyProof.Rows
open Bk (Row Rows)
open Thr (wD vZ qV)
theorem bQW{R:Rows}(b:Bk.Y3 R){rk:Nat->Nat}(o:Fm.Ok R.length (Bk.lk R) rk){i:Nat}(e:i<R.length):∀r q,R[i]? =some r->R[Fm.tp (Bk.lk R) rk i]? =some q->r.void=q.void:=
 Fm.aXy o (P:=λi=>∀r q,R[i]? =some r->R[Fm.tp (Bk.lk R) rk i]? =some q->r.void=q.void)
  (λi _ h r q a c=>by rw[Fm.wA h,a]at c;cases c;rfl)
  (λi j e h k r q a c=>by
   rw[Bk.uA a]at h;obtain⟨g,f,d⟩:=b.ans i j r a h;rw[Fm.uI o e (by rw[Bk.uA a];exact h)]at c;rw[d.1,<- k g q f c,d.2.1]) (rk i) i (bYo _) e
theorem bZJ{R:Rows}(b:Bk.Y3 R){k j:Nat}{r:Row}(f:R[k]? =some r)(h:r.void=false)(i:j∈Bk.thr R k):∃q,R[j]? =some q/\q.void=false:=by
 obtain⟨l,o,_,g⟩:=Bk.J2 b.tree k;obtain⟨a,d⟩:=(g j).mp i;have c:=Bk.wO f;have e:=(Fm.bQT o c).1;refine⟨_,bYg a,?_⟩;rw[bQW b o a _ _ (bYg a) (by rw[d];exact bYg e),<- bQW b o c _ _ f (bYg e)];exact h
theorem bV2{R:Rows}(t:Bk.jD R){i j:Nat}{r:Row}(c:R[i]? =some r)(hl:r.link=none)(b:j<R.length):j∈Bk.thr R i↔(Bk.thr R j).head? =some i:=by
 obtain⟨h,o,d⟩:=Bk.jQ t b;obtain⟨a,g,_,e⟩:=Bk.J2 t i;rw[e j,d];have f:Fm.tp (Bk.lk R) a i=i:=Fm.wA (by rw[Bk.uA c];exact hl);rw[f,Fm.qN g o b];exact⟨λz=>by rw[z.2],λz=>⟨b,bYC z⟩⟩
def jO(K:bYj)(Rf:Nat×Nat)(d CL:Nat):Sp:=λf H Q E=>∃ (c h g:Nat)(n e:List Nat)(R:Rows)(S:List Int)(m:Int),f= [.ref c,.int m]/\PB d CL H c h g n e R S/\R.length<64/\Bk.jD R/\wD Rf.2 H/\
 (Bk.wI R m=false->xK K Rf H E "no letter")/\∀ (k:Nat)(r:Row),m=(k:Int)->R[k]? =some r->r.void=false->∀ (a:Hp)(l:Nat),(∀b u,(∀j,u≠HO.tbl j)->H b=some u->b≠l)->xZ H a->wD Rf.2 a->a l=some (.lst ((Bk.thr R k).map λi=>V.int (i:Nat)))->Q (.ref l) a
def bV7(T e CL d la sa:Nat)(ls cs:List Nat)(H:Hp)(f:Rows)(g:List Int)(q:Hp->Prop):Prop:=∀ (c:Hp)(b a:List Nat),PB e CL c d la sa b a f g->Y5 (own la sa ls cs) H c->qO H (own la sa ls cs) (own la sa b a)->wD T c->q c
def bVV(K:bYj)(Rf:Nat×Nat)(h CL:Nat):Sp:=λi H Q E=>∃ (d f e:Nat)(g c:List Nat)(R:Rows)(S:List Int)(m:Int)(a:Str),i= [.ref d,.int m,.str a]/\PB h CL H d f e g c R S/\R.length<64/\Bk.Y3 R/\wD Rf.2 H/\
 (Bk.wI R m=false->xK K Rf H E "no letter")/\∀ (k:Nat)(r:Row),m=(k:Int)->R[k]? =some r->r.void=false->∀ (b:Hp),PB h CL b d f e g c (Bk.laid R (Bk.thr R k) a) S->Y5 (own f e g c) H b->wD Rf.2 b->Q (.int ((Bk.thr R k).length:Nat)) b
section
variable {K:bYj}
abbrev Y1:Stmt:=xI "Book" "thread_of"
abbrev bKH:Stmt:=xI "Book" "lay_thread"
theorem aVn:yN ["self","number","links","dates"] ["self","number"] (yH Y1):=scM
theorem aQt:xO ["self","number","links","dates"] (yH Y1) "letter" [] [] {kind:= .function,names:= [(".0",.local),("letter",.local)],isGenerator:=false,isCoroutine:=false,more:= [] }:=
 lcM
theorem aJW(cl:Cl K CB CL)(c:MG P w K mg base (CXR P w) n CB "letter_at" ["self","number"] (aV4 K Rf CB CL))(d:FnG P w K mg base n "thread" ["links","dates","number"] (Thr.aWf Rf.2)) (F:Fun K "thread_of" "Book.thread_of" Y1 f fd):xE P w K mg base (CXR P w) (n+1) f fd ["self","number"] (jO K Rf CB CL):=by
 have Z:=aVn;refine F.okX (k:=n) Z (λa3 A outer s H vs Q E hr h=>?_);obtain⟨N,la,sa,ls,cs,R,S,m,rfl,B,hR,hT,tb,q1,q2⟩:=h;refine⟨_,(yC (yY (v1 c hr zX (pv 0) (yA (pv 1) yD))) (yC (aZY (i:=2) aQt rfl Z.nd rfl rfl (xL (y3 (pv 0) rfl)) (λ_ _ _ _ _=>wK) (λ_ _ _ _ _=>(aQD (K:=K) (pv 0) rfl))) (yC (aZY (i:=3) aQt rfl Z.nd rfl rfl (xL (y3 (pv 0) rfl)) (λ_ _ _ _ _=>wK) (λ_ _ _ _ _=>(aQD (K:=K) (pv 0) rfl))) (yF (yP (xJ d hr rfl (yA (pv 2) (yA (pv 3) (yA (pv 1) yD))))))))),?_⟩;obtain⟨dx,Y⟩:=B.book;have hl:(ls.map V.ref).length=R.length:=by rw[bYl];exact B.len
 refine⟨_,rfl,N,dx,_,rfl,Y,rfl,_,rfl,N,la,sa,ls,cs,R,S,m,rfl,B,λk r b em hk q a2=>?_,q1⟩;subst em;have J:=Bk.wO hk;have x:(bYu R.length).filter (λ_=>true)=bYu R.length:=cX1.mpr λ_ _=>rfl;refine⟨_,rfl,N,CB,dx,_,_,rfl,Y,cl.b,cl.letters,rfl,la,rfl,⟨_,SqL.of B.lst⟩,λD T=>?_⟩;refine aWJ (λ_=>true) (λi=>Thr.wZ (Bk.lk R i)) (SqL.of B.lst) T (zn (by omega)) (λj v q W O M a=>a) (λj v q _ W O M a=>?_) ?_
 ·have U:j<R.length:=by rw[<- hl];exact(bYs.mp q).1
  have g:=bYg U;obtain⟨L,c2,p,G,k3,⟨y,I⟩,k5⟩:=B.get g;obtain rfl:v= .ref L:=bYC (q.symm.trans p);rw[Bk.uA g]at a;exact⟨_,rfl,L,CL,y,_,_,rfl,(M _ (yJ I T)).trans I,cl.l,cl.link,rfl,a⟩
 rw[hl,x];dsimp only[yW];have p:=yG T (.lst ((bYu R.length).map λi=>Thr.wZ (Bk.lk R i)));have C:=B.same p;refine⟨_,rfl,N,CB,dx,_,_,rfl,p _ _ Y,cl.b,cl.letters,rfl,la,rfl,⟨_,SqL.of C.lst⟩,λD2 z=>?_⟩;refine aWJ (λ_=>true) (λi=>V.int (Bk.dt R i)) (SqL.of C.lst) z (zn (by omega)) (λj v q W O M a=>a) (λj v q _ W O M a=>?_) ?_
 ·have U:j<R.length:=by rw[<- hl];exact(bYs.mp q).1
  have g:=bYg U;obtain⟨L,c2,p,G,k3,⟨y,I⟩,k5⟩:=C.get g;obtain rfl:v= .ref L:=bYC (q.symm.trans p);rw[Bk.vK g]at a;exact⟨_,rfl,L,CL,y,_,_,rfl,(M _ (yJ I z)).trans I,cl.l,cl.day,rfl,a⟩
 rw[hl,x];dsimp only[yW];have G:=yG z (.lst ((bYu R.length).map λi=>V.int (Bk.dt R i)));obtain⟨rk,o⟩:=hT;have a0:wD Rf.2 (upd (upd H D (.lst ((bYu R.length).map λi=>Thr.wZ (Bk.lk R i)))) D2 (.lst ((bYu R.length).map λi=>V.int (Bk.dt R i)))):=by
  have X:=p.trans G;rcases tb with t|⟨c',t1,t2⟩
  ·exact .inl (X _ _ t)
  ·exact .inr ⟨c',X _ _ t1,X _ _ t2⟩
 refine⟨_,rfl,_,rfl,_,rfl,D,D2,R.length,Bk.lk R,rk,Bk.dt R,k,rfl,G _ _ yB,yB,o,by omega,J,a0,λH3 r3 a1 n3 k3 t3 h3 hp hm=>?_⟩;have e:=Bk.aJh J ⟨rk,o,hp,hm⟩;refine q2 k r rfl hk q H3 r3 (λb u nt e=>n3 b u nt ((p.trans G) _ _ e)) ((p.trans G).t.trans k3) t3 ?_;rw[e];exact h3
end
end Desk
namespace Desk
open PySem L2 PyProof.Rows
open Bk (Row Rows)
open Thr (wD vZ qV)
theorem xT{T:Nat}{o:List Nat}{H g:Hp}(t:wD T H)(k:vO o H g)(i:∀b∈o,∀u,H b=some u->(∃a,u= .lst a)\/∃C c fs,u= .ins C c fs):wD T g:=by
 have no:∀b u,H b=some u->(∀a,u≠ .lst a)->(∀C c fs,u≠ .ins C c fs)->b∉o:=λb u e j h z=>by
  rcases i b z u e with⟨a,q⟩|⟨C,c,fs,q⟩
  ·exact j _ q
  ·exact h _ _ _ q
 rcases t with t|⟨l,d,f⟩
 ·exact .inl (k _ _ (no _ _ t (by intro _ z;cases z) (by intro _ _ _ z;cases z)) t)
 ·exact .inr ⟨l,k _ _ (no _ _ d (by intro _ z;cases z) (by intro _ _ _ z;cases z)) d,k _ _ (no _ _ f (by intro _ z;cases z) (by intro _ _ _ z;cases z)) f⟩
theorem PB.kinds{l CL:Nat}{H:Hp}{o la sa:Nat}{ls cs:List Nat}{R:Rows}{S:List Int}(h:PB l CL H o la sa ls cs R S):∀b∈own la sa ls cs,∀u,H b=some u->(∃n,u= .lst n)\/∃C j fs,u= .ins C j fs:=λb a u e=>by
 rcases bYq.mp a with rfl|a
 ·rw[h.lst]at e;cases e;exact .inl ⟨_,rfl⟩
 rcases bYq.mp a with rfl|a
 ·rw[h.sht]at e;cases e;exact .inl ⟨_,rfl⟩
 rcases bYU.mp a with a|a
 ·obtain⟨i,c,q⟩:=bY8 a;obtain⟨m,r,p,f,d,⟨j,g⟩,k⟩:=h.get (bYg (show i<R.length by rw[<- h.len];exact c));rw[bYg c,q]at f;cases f;rw[g]at e;cases e;exact .inr ⟨_,_,_,rfl⟩
 ·obtain⟨i,c,q⟩:=bY8 a;obtain⟨m,r,p,f,d,g,k⟩:=h.get (bYg (show i<R.length by rw[<- h.clen];exact c));rw[bYg c,q]at d;cases d;rw[k]at e;cases e;exact .inl ⟨_,rfl⟩
theorem PB.notown{k CL:Nat}{H:Hp}{o la sa:Nat}{ls cs:List Nat}{R:Rows}{S:List Int}(h:PB k CL H o la sa ls cs R S){l:Nat}(n:∀b u,(∀r,u≠HO.tbl r)->H b=some u->b≠l):l∉own la sa ls cs:=λa=>by
 rcases bYq.mp a with e|a
 ·exact n la _ (by intro _ z;cases z) h.lst e.symm
 rcases bYq.mp a with e|a
 ·exact n sa _ (by intro _ z;cases z) h.sht e.symm
 rcases bYU.mp a with a|a
 ·obtain⟨i,c,q⟩:=bY8 a;obtain⟨m,s,p,f,d,⟨t,g⟩,j⟩:=h.get (bYg (show i<R.length by rw[<- h.len];exact c));rw[bYg c,q]at f;cases f;exact n l _ (by intro _ z;cases z) g rfl
 ·obtain⟨i,c,q⟩:=bY8 a;obtain⟨m,s,p,f,d,g,j⟩:=h.get (bYg (show i<R.length by rw[<- h.clen];exact c));rw[bYg c,q]at d;cases d;exact n l _ (by intro _ z;cases z) j rfl
theorem PB.notnone{c CL:Nat}{H:Hp}{a la sa:Nat}{ls cs:List Nat}{R:Rows}{S:List Int}(h:PB c CL H a la sa ls cs R S){l:Nat}(n:H l=none):l∉own la sa ls cs:=h.notown λb u _ e=>yJ e n
theorem bX6{j:Nat}{q:Row}{c:Nat}{name:Str}(b:q.void=false):aXh "file" (.str name) (aZK j q c)=aZK j {q with place:=name} c:=by
 have a:X1 {q with place:=name}= .str name:=aXF (r:={q with place:=name}) b;unfold aZK;rw[a];rfl
theorem aQs(R:Rows)(l:List Nat)(k:Nat)(name:Str):Bk.laid R (l++ [k]) name=Bk.xR (Bk.laid R l name) k λr=>{r with place:=name}:=by
 unfold Bk.laid;rw[cJs];rfl
theorem aZH{R:Rows}{l:List Nat}{name:Str}{j:Nat}{q:Row}(h:R[j]? =some q):∃a,(Bk.laid R l name)[j]? =some a/\a.void=q.void:=by
 rw[Bk.v9,h];by_cases e:j∈l
 ·rw[if_pos e];exact⟨_,rfl,rfl⟩
 ·rw[if_neg e];exact⟨q,rfl,rfl⟩
def bQC(K:bYj)(Rf:Nat×Nat)(f CL:Nat):Sp:=λh H Q E=>∃ (d l k:Nat)(c g:List Nat)(R:Rows)(S:List Int)(i j:Nat)(b e:Nat)(r q:Row),h= [.ref d,.ref b,.ref e]/\PB f CL H d l k c g R S/\R.length<64/\Bk.jD R/\wD Rf.2 H/\
 R[i]? =some r/\r.void=false/\R[j]? =some q/\q.void=false/\c[i]? =some b/\c[j]? =some e/\(r.link≠none->xK K Rf H E "has one")/\(r.link=none->(Bk.thr R j).head? =some i->xK K Rf H E "own thread")/\
 (r.link=none->(Bk.thr R j).head? ≠some i->(r.way=q.way->xK K Rf H E "same way")/\(r.way≠q.way->(r.partner≠q.partner->xK K Rf H E "other partner")/\(r.partner=q.partner->(r.date<q.date->xK K Rf H E "too early")/\(q.date<=r.date->∀a,xZ H a->wD Rf.2 a->Q .non a))))
section
variable {K:bYj}
theorem bWY:yN ["self","number","name","numbers","member","letter"] ["self","number","name"] (yH bKH):=scM
theorem bWH(T:vJ mg)(cl:Cl K CB CL)(a:MG P w K mg base (CXR P w) n CB "thread_of" ["self","number"] (jO K Rf CB CL))(F:Fun K "lay_thread" "Book.lay_thread" bKH f fd):xE P w K mg base (CXR P w) (n+1) f fd ["self","number","name"] (bVV K Rf CB CL):=by
 have sc:=bWY;refine F.okX (k:=n) sc (λa4 A outer s H vs Q E hr h=>?_);obtain⟨G,M,O,U,N,R,S,m,d,rfl,X,hR,D,tb,q1,q2⟩:=h;refine⟨_,(yC (yU (i:=3) (v1 a hr zX (pv 0) (yA (pv 1) yD))) (yC (zR PassesOwn.leaving rfl (xL (pv 3)) (y9 (i:=4)) (yC (yU (i:=5) (yL yK (y3 (pv 0) rfl) (pv 4))) (yF (zO (pv 5) (pv 2) rfl)))) (yF (yP (yQ yO rfl T.b_len xB (yA (pv 3) yD)))))),?_⟩;obtain⟨dx,hb⟩:=X.book;refine⟨_,rfl,G,dx,_,rfl,hb,rfl,_,rfl,G,M,O,U,N,R,S,m,rfl,X,hR,D.tree,tb,q1,λk r em W hv H1 l _ k1 t1 hl=>?_⟩;dsimp only[yW];have B:=X.sameT k1;have a3:=Bk.wO W;refine⟨_,rfl,l,rfl,⟨_,SqL.of hl⟩,?_⟩;refine zG (xs:=(Bk.thr R k).map λi=>V.int (i:Nat)) (λt σ p=>∃L J:Option V,σ= [some (.ref G),some (.int m),some (.str d),some (.ref l),L,J]/\PB CB CL p G M O U N (Bk.laid R ((Bk.thr R k).take t) d) S/\vO (own M O U N) H1 p/\p l=some (.lst ((Bk.thr R k).map λi=>V.int (i:Nat)))) ?_ ?_ ?_ ?_
 ·exact⟨none,none,rfl,B,λb u _ e=>e,hl⟩
 ·rintro t σ p ht ⟨L,J,rfl,g,q,o⟩;exact SqL.of o
 ·rintro t x σ p y ⟨L,J,rfl,g,q,o⟩;rw[bYB]at y;cases I:(Bk.thr R k)[t]? with
  |none=>rw[I]at y;cases y
  |some j=>
   rw[I]at y;cases y;obtain⟨qj,Z,a2⟩:=bZJ D W hv (bYz I);obtain⟨q',C,v⟩:=aZH (l:=(Bk.thr R k).take t) (name:=d) Z;rw[a2]at v;obtain⟨b,c,g1,g2,g3,⟨a0,g4⟩,g5⟩:=g.get C;obtain⟨a1,Y⟩:=g.book;dsimp only[yW];refine⟨_,rfl,G,CB,a1,_,_,rfl,Y,cl.b,cl.letters,rfl,_,rfl,M,_,_,_,rfl,rfl,SqL.of g.lst,yT g1,?_⟩;dsimp only[yW];refine⟨_,rfl,_,rfl,b,CL,a0,_,rfl,g4,cl.l,cl.file,(show 9<1000 by decide),_,_,rfl,?_,q.trans (vO.upd (aJY (bYz g2)) _),?_⟩
   ·rw[bX6 v,show(Bk.thr R k).take (t+1)=(Bk.thr R k).take t++ [j]from by rw[cQj,I];rfl,aQs];exact g.set g2 g3 C (λr=>{r with place:=d}) rfl
   ·rw[yI (λz=>by rw[z,g4]at o;cases o)];exact o
 ·rintro σ p ⟨L,J,rfl,g,q,o⟩;rw[bYl,cQe]at g;refine⟨_,rfl,l,_,rfl,.inl (SqL.of o),?_⟩;rw[bYl];exact q2 k r em W hv p g ((Y5.of k1).trans q.t) (xT t1 q B.kinds)
abbrev aY1:Stmt:=xI "Book" "check_hanging"
abbrev bVt:Stmt:=xI "Book" "hang"
theorem bZh:yN ["self","letter","asked"] ["self","letter","asked"] (yH aY1):=scM
theorem aVC(d:Nat):∀ns:List Nat,inV (.int (d:Nat)) (ns.map λi=>V.int (i:Nat))=ns.contains d
 |[]=>rfl
 |n::r=>by have a:=aVC d r;unfold inV at a ⊢;rw[bY4,cXB,a,cXE];congr 1;show((n:Int)==(d:Int))=(d==n);rw[Bool.eq_iff_iff,beq_iff_eq,beq_iff_eq];omega
theorem aZv:∀ns:List Nat,(ns.map λi=>V.int (i:Nat)).all J9=true
 |[]=>rfl
 |n::r=>by rw[bY4,cZt,aZv r];rfl
theorem bXI(cl:Cl K CB CL)(o:MG P w K mg base (CXR P w) (n+1) CB "thread_of" ["self","number"] (jO K Rf CB CL))(g:FnX P w K mg base (n+1) "check_days" ["asked_day","reply_day"] (aX9 K Rf)) (m:ExG P w K mg base n "HasOne" Rf.1 C1 "has one") (d:ExG P w K mg base n "OwnThread" Rf.1 C2 "own thread") (e:ExG P w K mg base n "SameWay" Rf.1 C3 "same way") (a:ExG P w K mg base n "OtherPartner" Rf.1 C4 "other partner") (F:Fun K "check_hanging" "Book.check_hanging" aY1 f fd):xE P w K mg base (CXR P w) (n+2) f fd ["self","letter","asked"] (bQC K Rf CB CL):=by
 have sc:=bZh;refine F.okX (k:=n+1) sc (λa1 A outer s H vs Q E C h=>?_);obtain⟨ba,la,sa,ls,cs,R,S,i,j,b,G,r,q,rfl,I,hR,Z,tb,U,hv,hj,hw,X,J,q1,q2,q3⟩:=h;refine⟨_,(yC (y7 (yM z8 (y3 (pv 1) rfl) x3) (yF (z9 m C rfl)) yS) (yC (y7 (yM vD (y3 (pv 2) rfl) (v1 o C zX (pv 0) (yA (y3 (pv 1) rfl) yD))) (yF (z9 d C rfl)) yS) (yC (y7 (yM zF (y3 (pv 1) rfl) (y3 (pv 2) rfl)) (yF (z9 e C rfl)) yS) (yC (y7 (yM qZ (y3 (pv 1) rfl) (y3 (pv 2) rfl)) (yF (z9 a C rfl)) yS) (yF (yY (aQE g C rfl (yA (y3 (pv 2) rfl) (yA (y3 (pv 1) rfl) yD))))))))),?_⟩;obtain⟨dx,hb⟩:=I.book;obtain⟨b',c1,g1,g2,g3,⟨p,N⟩,g5⟩:=I.get U;obtain rfl:b=b':=bYC (X.symm.trans g2);obtain⟨Y,c2,f1,f2,f3,⟨u,f4⟩,f5⟩:=I.get hj;obtain rfl:G=Y:=bYC (J.symm.trans f2);refine⟨_,rfl,b,CL,p,_,_,rfl,N,cl.l,cl.link,rfl,rfl,_,rfl,?_⟩;cases t:r.link with
 |some x=>exact onT rfl ((q1 (by rw[t];simp)).raise m)
 |none=>
  have W:=q2 t;have T:=q3 t;refine onF rfl ⟨_,rfl,G,CL,u,_,_,rfl,f4,cl.l,cl.number,rfl,_,rfl,ba,dx,_,rfl,hb,rfl,_,rfl,b,CL,p,_,_,rfl,N,cl.l,cl.number,rfl,?_⟩;refine⟨ba,la,sa,ls,cs,R,S,(i:Nat),rfl,I,hR,Z,tb,(λhg=>by rw[qW U hv]at hg;cases hg),λk r' em hk a0 H1 l _ y D hl=>?_⟩;obtain rfl:i=k:=by omega
  refine⟨l,_,rfl,.inl (SqL.of hl),rfl,aZv _,_,rfl,?_⟩;rw[if_neg (by decide),aVC];have O:=Bk.wO hj;have own:=bV2 Z U t O;have B:=y _ _ (λ_ z=>by cases z) N;have v:=y _ _ (λ_ z=>by cases z) f4;refine qA (λc=>?_) (λc=>?_)
  ·exact((W (own.mp (cQS.mp c))).go ⟨y,λ_=>D⟩).raise d
  ·have M:(Bk.thr R j).head? ≠some i:=λz=>c (cQS.mpr (own.mpr z));obtain⟨q4,q5⟩:=T M;refine⟨_,rfl,b,CL,p,_,_,rfl,B,cl.l,cl.way,rfl,_,rfl,G,CL,u,_,_,rfl,v,cl.l,cl.way,rfl,rfl,_,rfl,?_⟩;have e1:decide (V.str r.way=V.str q.way)=decide (r.way=q.way):=by rw[Bool.eq_iff_iff];simp
   rw[e1];refine qA (λc=>?_) (λc=>?_)
   ·exact((q4 (of_decide_eq_true c)).go ⟨y,λ_=>D⟩).raise e
   ·obtain⟨q6,q7⟩:=q5 (of_decide_eq_false (Bool.eq_false_iff.mpr c));refine⟨_,rfl,b,CL,p,_,_,rfl,B,cl.l,cl.partner,rfl,_,rfl,G,CL,u,_,_,rfl,v,cl.l,cl.partner,rfl,rfl,_,rfl,?_⟩;have e2:decide (V.str r.partner=V.str q.partner)=decide (r.partner=q.partner):=by rw[Bool.eq_iff_iff];simp
    rw[e2];cases hp:decide (r.partner=q.partner)with
    |false=>exact onT rfl (((q6 (of_decide_eq_false hp)).go ⟨y,λ_=>D⟩).raise a)
    |true=>obtain⟨q8,q9⟩:=q7 (of_decide_eq_true hp);refine onF rfl ⟨_,rfl,G,CL,u,_,_,rfl,v,cl.l,cl.day,rfl,_,rfl,b,CL,p,_,_,rfl,B,cl.l,cl.day,rfl,q.date,r.date,rfl,λL=>q9 L H1 y D,λL=>(q8 L).go ⟨y,λ_=>D⟩⟩
def bJh(K:bYj)(Rf:Nat×Nat)(b CL:Nat):Sp:=λg H Q E=>∃ (a e d:Nat)(f c:List Nat)(R:Rows)(S:List Int)(m o:Int),g= [.ref a,.int m,.int o]/\PB b CL H a e d f c R S/\R.length<64/\Bk.Y3 R/\wD Rf.2 H/\
 (Bk.wI R m=false\/Bk.wI R o=false->xK K Rf H E "no letter")/\∀ (i j:Nat)(r q:Row),m=(i:Int)->o=(j:Int)->R[i]? =some r->r.void=false->R[j]? =some q->q.void=false->
 (r.link≠none->xK K Rf H E "has one")/\(r.link=none->(Bk.thr R j).head? =some i->xK K Rf H E "own thread")/\
 (r.link=none->(Bk.thr R j).head? ≠some i->(r.way=q.way->xK K Rf H E "same way")/\(r.way≠q.way->(r.partner≠q.partner->xK K Rf H E "other partner")/\(r.partner=q.partner->(r.date<q.date->xK K Rf H E "too early")/\ (q.date<=r.date->bV7 Rf.2 b CL a e d f c H (Bk.xR (Bk.laid R (Bk.thr R i) q.place) i λr=>{r with link:=some j}) S (Q .non)))))
theorem bVG:yN ["self","number","other","letter","asked"] ["self","number","other"] (yH bVt):=scM
theorem bJ4(cl:Cl K CB CL)(a:MG P w K mg base (CXR P w) n CB "letter_at" ["self","number"] (aV4 K Rf CB CL))(c:MG P w K mg base (CXR P w) n CB "check_hanging" ["self","letter","asked"] (bQC K Rf CB CL))(d:MG P w K mg base (CXR P w) n CB "lay_thread" ["self","number","name"] (bVV K Rf CB CL)) (F:Fun K "hang" "Book.hang" bVt f fd):xE P w K mg base (CXR P w) (n+1) f fd ["self","number","other"] (bJh K Rf CB CL):=by
 have sc:=bVG;refine F.okX (k:=n) sc (λa5 A outer s H vs Q E M h=>?_);obtain⟨e,y,v,L,u,R,S,m,o,rfl,B,hR,C,tb,q1,q2⟩:=h;refine⟨_,(yC (yU (i:=3) (v1 a M zX (pv 0) (yA (pv 1) yD))) (yC (yU (i:=4) (v1 a M zX (pv 0) (yA (pv 2) yD))) (yC (yY (v1 c M zX (pv 0) (yA (pv 3) (yA (pv 4) yD)))) (yC (yY (v1 d M zX (pv 0) (yA (pv 1) (yA (y3 (pv 4) rfl) yD)))) (yF (zO (pv 3) (pv 2) rfl)))))),?_⟩;obtain⟨Y,U⟩:=B.book;refine⟨_,rfl,e,Y,_,rfl,U,rfl,_,rfl,e,y,v,L,u,R,S,m,rfl,B,λi r b em G V I=>?_,λx=>q1 (.inl x)⟩;dsimp only[yW];refine⟨_,rfl,e,Y,_,rfl,U,rfl,_,rfl,e,y,v,L,u,R,S,o,rfl,B,λj q O eo N hw z=>?_,λx=>q1 (.inr x)⟩;dsimp only[yW];obtain⟨q3,q4,q5⟩:=q2 i j r q em eo G V N hw;refine⟨_,rfl,e,Y,_,rfl,U,rfl,_,rfl,_,rfl,e,y,v,L,u,R,S,i,j,b,O,r,q,rfl,B,hR,C.tree,tb,G,V,N,hw,I,z,q3,q4,λh1 h2=>?_⟩;obtain⟨q6,q7⟩:=q5 h1 h2;refine⟨q6,λh3=>?_⟩;obtain⟨q8,q9⟩:=q7 h3;refine⟨q8,λh4=>?_⟩;obtain⟨a0,T⟩:=q9 h4;refine⟨a0,λh5 H1 k1 t1=>?_⟩;have g:=B.sameT k1;obtain⟨X,W⟩:=g.book;obtain⟨Z,c2,f1,f2,f3,⟨a1,f4⟩,f5⟩:=g.get N;obtain rfl:O=Z:=bYC (z.symm.trans f2);refine⟨_,rfl,e,X,_,rfl,W,rfl,_,rfl,_,rfl,O,CL,a1,_,_,rfl,f4,cl.l,cl.file,rfl,?_⟩;rw[aXF hw];refine⟨e,y,v,L,u,R,S,m,q.place,rfl,g,hR,C,t1,(λx=>by rw[em,qW G V]at x;cases x),λk r' a3 hk a4 H2 p k2 t2=>?_⟩;obtain rfl:i=k:=by omega
 rw[G]at hk;cases hk;obtain⟨r2,D,a2⟩:=aZH (l:=Bk.thr R i) (name:=q.place) G;obtain⟨b',c1,g1,g2,g3,⟨J,g4⟩,g5⟩:=p.get D;obtain rfl:b=b':=bYC (I.symm.trans g2);subst eo;refine⟨_,rfl,_,rfl,b,CL,J,_,rfl,g4,cl.l,cl.link,(show 9<1000 by decide),?_⟩;have kk:=vO.upd (H:=H2) (aJY (la:=y) (sa:=v) (cs:=u) (bYz g2)) (.ins CL J (aZK i {r2 with link:=some j} c1));exact T h5 _ _ _ (p.set g2 g3 D (λr=>{r with link:=some j}) rfl) (((Y5.of k1).trans k2).trans kk.t) qO.refl (xT t2 kk p.kinds)
end
end Desk
namespace Desk
open PySem L2 PyProof.Rows
open Bk (Row Rows xN Ans xW)
open Thr (wD vZ qV)
def xH:xN->List V
 |.enter e d b t=> [.str e,.int d,.str b,.int t]
 |.reply m d t=> [.str "reply",.int m,.int d,.int t]
 |.hang m o=> [.str "hang",.int m,.int o]
 |.loose m=> [.str "loose",.int m]
 |.date m d=> [.str "date",.int m,.int d]
 |.term m t=> [.str "term",.int m,.int t]
 |.copy m b=> [.str "copy",.int m,.str b]
 |.file m a=> [.str "file",.int m,.str a]
 |.void m=> [.str "void",.int m]
 |.shut d=> [.str "shut",.int d]
 |.state m=> [.str "state",.int m]
 |.thread m=> [.str "thread",.int m]
 |.copies m=> [.str "copies",.int m]
 |.letters a=> [.str "letters",.str a]
 |.on c d=> [.str (if c then "overdue" else "waiting"),.int d]
def vI(o:List Nat)(H:Hp):Ans->V->Prop
 |.num n,v=>v= .int n
 |.txt x,v=>v= .str x
 |.nums l,v=>∃p,v= .ref p/\p∉o/\H p=some (.lst (l.map λi=>V.int (i:Nat)))
 |.txts l,v=>∃p,v= .ref p/\p∉o/\H p=some (.lst (l.map V.str))
 |.row r,v=>∃p,v= .ref p/\p∉o/\H p=some (.tup (stV r))
def uP(H:Hp)(v:V):Prop:=∀p,v= .ref p->∀u,(∀a,u≠HO.tbl a)->H p≠some u
theorem uP.none{H:Hp}{l:Nat}(h:H l=none):uP H (.ref l):=λp z u _ e=>by cases z;rw[h]at e;cases e
theorem uP.nl{H:Hp}{l:Nat}(h:∀b u,(∀c,u≠HO.tbl c)->H b=some u->b≠l):uP H (.ref l):=λp z u a e=>by cases z;exact h _ u a e rfl
structure Sz(R:Rows)(S:List Int):Prop where
 r:R.length<64
 s:S.length<64
 c:∀r∈R,r.copies.length<=1000
def aJb(K:bYj)(Rf:Nat×Nat)(k CL:Nat)(p:xN->Prop):Sp:=λo H Q E=>∃ (i n f d:Nat)(j h:List Nat)(R:Rows)(S:List Int)(e:xN),o= [.ref i,.ref n]/\p e/\H n=some (.tup (xH e))/\PB k CL H i f d j h R S/\Sz R S/\Bk.Y3 R/\wD Rf.2 H/\
 (∀ (a:Ans)(l:Rows)(m:List Int)(v:V)(g:Hp)(c b:List Nat),xW R S e a l m->PB k CL g i f d c b l m->Y5 (own f d j h) H g->qO H (own f d j h) (own f d c b)->wD Rf.2 g->vI (own f d c b) g a v->uP H v->Q v g)/\(∀t,xW R S e (.txt t) R S->xK K Rf H E t)
section
variable {K:bYj}
abbrev Z2:Stmt:=xF "do_enter"
theorem aVj:yN ["book","deed"] ["book","deed"] (yH Z2):=scM
theorem aJS(a:MG P w K mg base (CXR P w) n CB "enter" ["self","way","day","partner","term"] (bQG K Rf CB CL))(F:Fun K "do_enter" "do_enter" Z2 f fd):xE P w K mg base (CXR P w) (n+1) f fd ["book","deed"] (aJb K Rf CB CL λe=>∃ (b:Str)(d:Int)(c:Str)(t:Int),e= .enter b d c t):=by
 have D:=aVj;refine F.okX (k:=n) D (λN A outer s H U Q E I h=>?_);obtain⟨x,i,B,y,C,v,R,S,e,rfl,⟨b,d,c,t,rfl⟩,g,o,T,M,tb,q,O⟩:=h;refine⟨_,(yF (yP (v1 a I zX (pv 0) (yA (yL yX (pv 1) yE) (yA (yL yX (pv 1) yE) (yA (yL yX (pv 1) yE) (yA (yL yX (pv 1) yE) yD))))))),?_⟩;obtain⟨J,L⟩:=o.book;have tk:∀ {j},vO (own B y C v) H j->wD Rf.2 j:=λk=>xT tb k o.kinds;have g:H i=some (.tup _):=g;refine⟨_,rfl,x,J,_,rfl,L,rfl,_,rfl,i,_,0,_,rfl,rfl,SqT.of g,rfl,_,rfl,i,_,1,_,rfl,rfl,SqT.of g,rfl,_,rfl,i,_,2,_,rfl,rfl,SqT.of g,rfl,_,rfl,i,_,3,_,rfl,rfl,SqT.of g,rfl,?_⟩;refine⟨x,B,y,C,v,R,S,b,d,c,t,rfl,o,by have:=T.r;omega,λp j m l u k G=>?_,λp=>O _ (.enterT p)⟩;exact q (.num R.length) _ _ _ j m l (.enter p) u k.t G (tk k) rfl (λ_ z=>nomatch z)
abbrev Z4:Stmt:=xF "do_reply"
theorem aVl:yN ["book","deed"] ["book","deed"] (yH Z4):=scM
theorem aJU(a:MG P w K mg base (CXR P w) n CB "reply" ["self","number","day","term"] (bQL K Rf CB CL))(F:Fun K "do_reply" "do_reply" Z4 f fd):xE P w K mg base (CXR P w) (n+1) f fd ["book","deed"] (aJb K Rf CB CL λe=>∃ (m:Int)(d:Int)(t:Int),e= .reply m d t):=by
 have I:=aVl;refine F.okX (k:=n) I (λU A outer s H W Q E M h=>?_);obtain⟨x,g,B,y,C,v,R,S,e,rfl,⟨m,d,t,rfl⟩,b,o,V,T,tb,q,u⟩:=h;refine⟨_,(yF (yP (v1 a M zX (pv 0) (yA (yL yX (pv 1) yE) (yA (yL yX (pv 1) yE) (yA (yL yX (pv 1) yE) yD)))))),?_⟩;obtain⟨N,O⟩:=o.book;have tk:∀ {i},vO (own B y C v) H i->wD Rf.2 i:=λk=>xT tb k o.kinds;have b:H g=some (.tup _):=b;refine⟨_,rfl,x,N,_,rfl,O,rfl,_,rfl,g,_,1,_,rfl,rfl,SqT.of b,rfl,_,rfl,g,_,2,_,rfl,rfl,SqT.of b,rfl,_,rfl,g,_,3,_,rfl,rfl,SqT.of b,rfl,?_⟩;refine⟨x,B,y,C,v,R,S,m,d,t,rfl,o,by have:=V.r;omega,λh=>u _ (.replyN h),λh c=>u _ (.replyT h c),λk r J G D c=>?_⟩;subst J;exact⟨λb=>u _ (.replyE G D c b),λb i l j p k L=>q (.num R.length) _ _ _ i l j (.reply G D c b) p k.t L (tk k) rfl (λ_ z=>nomatch z)⟩
abbrev aQV:Stmt:=xF "do_hang"
theorem aKi:yN ["book","deed"] ["book","deed"] (yH aQV):=scM
theorem aWX(a:MG P w K mg base (CXR P w) n CB "hang" ["self","number","other"] (bJh K Rf CB CL))(F:Fun K "do_hang" "do_hang" aQV f fd):xE P w K mg base (CXR P w) (n+1) f fd ["book","deed"] (aJb K Rf CB CL λe=>∃ (m:Int)(o:Int),e= .hang m o):=by
 have U:=aKi;refine F.okX (k:=n) U (λa0 A outer s H vs Q E X h=>?_);obtain⟨M,D,O,N,T,L,R,S,e,rfl,⟨m,o,rfl⟩,u,C,hz,I,tb,q,g⟩:=h;refine⟨_,(yC (yY (v1 a X zX (pv 0) (yA (yL yX (pv 1) yE) (yA (yL yX (pv 1) yE) yD)))) (yF (yP yR))),?_⟩;obtain⟨Y,Z⟩:=C.book;have tk:∀ {x},vO (own O N T L) H x->wD Rf.2 x:=λk=>xT tb k C.kinds;have u:H D=some (.tup _):=u;refine⟨_,rfl,M,Y,_,rfl,Z,rfl,_,rfl,D,_,1,_,rfl,rfl,SqT.of u,rfl,_,rfl,D,_,2,_,rfl,rfl,SqT.of u,rfl,?_⟩;refine⟨M,O,N,T,L,R,S,m,o,rfl,C,hz.r,I,tb,λh=>g _ (.hangN h),λi j r q' V eo b l d hw=>?_⟩;subst V;subst eo;refine⟨λh=>g _ (.hangH b l d hw h),λh c=>g _ (.hangO b l d hw h c),λh c=>⟨λp=>g _ (.hangW b l d hw h c p),λp=>⟨λv=>g _ (.hangP b l d hw h c p v),λv=>⟨λG=>g _ (.hangE b l d hw h c p v G),λG x B y J k W t=>?_⟩⟩⟩⟩;exact q (.txt "hung") _ _ _ x B y (.hang b l d hw h c p v G) J k W t rfl (λ_ z=>nomatch z)
abbrev Z3:Stmt:=xF "do_loose"
theorem aVk:yN ["book","deed"] ["book","deed"] (yH Z3):=scM
theorem aJT(a:MG P w K mg base (CXR P w) n CB "loosen" ["self","number"] (aWc K Rf CB CL))(F:Fun K "do_loose" "do_loose" Z3 f fd):xE P w K mg base (CXR P w) (n+1) f fd ["book","deed"] (aJb K Rf CB CL λe=>∃ (m:Int),e= .loose m):=by
 have D:=aVk;refine F.okX (k:=n) D (λO A outer s H T Q E J h=>?_);obtain⟨o,u,v,p,y,l,R,S,e,rfl,⟨m,rfl⟩,d,i,U,N,tb,q,x⟩:=h;refine⟨_,(yC (yY (v1 a J zX (pv 0) (yA (yL yX (pv 1) yE) yD))) (yF (yP yR))),?_⟩;obtain⟨L,M⟩:=i.book;have tk:∀ {b},vO (own v p y l) H b->wD Rf.2 b:=λk=>xT tb k i.kinds;have d:H u=some (.tup _):=d;refine⟨_,rfl,o,L,_,rfl,M,rfl,_,rfl,u,_,1,_,rfl,rfl,SqT.of d,rfl,?_⟩;refine⟨o,v,p,y,l,R,S,m,rfl,i,λh=>x _ (.oneN h (.inl rfl)),λk r G C B=>?_⟩;subst G;exact⟨λh=>x _ (.looseN C B h),λh b g c j k I=>q (.txt "loose") _ _ _ b g c (.loose C B h) j k.t I (tk k) rfl (λ_ z=>nomatch z)⟩
abbrev aQT:Stmt:=xF "do_date"
theorem aKg:yN ["book","deed"] ["book","deed"] (yH aQT):=scM
theorem aWV(a:MG P w K mg base (CXR P w) n CB "put_day" ["self","number","day"] (aWd K Rf CB CL))(F:Fun K "do_date" "do_date" aQT f fd):xE P w K mg base (CXR P w) (n+1) f fd ["book","deed"] (aJb K Rf CB CL λe=>∃ (m:Int)(d:Int),e= .date m d):=by
 have I:=aKg;refine F.okX (k:=n) I (λV A outer s H X Q E N h=>?_);obtain⟨v,l,y,x,C,u,R,S,e,rfl,⟨m,d,rfl⟩,b,j,W,o,tb,q,B⟩:=h;refine⟨_,(yC (yY (v1 a N zX (pv 0) (yA (yL yX (pv 1) yE) (yA (yL yX (pv 1) yE) yD)))) (yF (yP yR))),?_⟩;obtain⟨T,U⟩:=j.book;have tk:∀ {c},vO (own y x C u) H c->wD Rf.2 c:=λk=>xT tb k j.kinds;have b:H l=some (.tup _):=b;refine⟨_,rfl,v,T,_,rfl,U,rfl,_,rfl,l,_,1,_,rfl,rfl,SqT.of b,rfl,_,rfl,l,_,2,_,rfl,rfl,SqT.of b,rfl,?_⟩;refine⟨v,y,x,C,u,R,S,m,d,rfl,j,by have:=W.r;omega,o,λh=>B _ (.oneN h (.inr (.inl ⟨d,rfl⟩))),λk r J G D=>?_⟩;subst J;exact⟨λh=>B _ (.dateE G D h),λL O c i g p k M=>q (.txt "dated") _ _ _ c i g (.date G D L O) p k.t M (tk k) rfl (λ_ z=>nomatch z)⟩
abbrev aQX:Stmt:=xF "do_term"
theorem aKk:yN ["book","deed"] ["book","deed"] (yH aQX):=scM
theorem aWZ(a:MG P w K mg base (CXR P w) n CB "put_term" ["self","number","term"] (aJd K Rf CB CL))(F:Fun K "do_term" "do_term" aQX f fd):xE P w K mg base (CXR P w) (n+1) f fd ["book","deed"] (aJb K Rf CB CL λe=>∃ (m:Int)(t:Int),e= .term m t):=by
 have D:=aKk;refine F.okX (k:=n) D (λO A outer s H T Q E J h=>?_);obtain⟨p,j,v,u,y,o,R,S,e,rfl,⟨m,t,rfl⟩,b,i,U,N,tb,q,x⟩:=h;refine⟨_,(yC (yY (v1 a J zX (pv 0) (yA (yL yX (pv 1) yE) (yA (yL yX (pv 1) yE) yD)))) (yF (yP yR))),?_⟩;obtain⟨L,M⟩:=i.book;have tk:∀ {c},vO (own v u y o) H c->wD Rf.2 c:=λk=>xT tb k i.kinds;have b:H j=some (.tup _):=b;refine⟨_,rfl,p,L,_,rfl,M,rfl,_,rfl,j,_,1,_,rfl,rfl,SqT.of b,rfl,_,rfl,j,_,2,_,rfl,rfl,SqT.of b,rfl,?_⟩;refine⟨p,v,u,y,o,R,S,m,t,rfl,i,λh=>x _ (.oneN h (.inr (.inr (.inl ⟨t,rfl⟩)))),λk r G C B=>?_⟩;subst G;exact⟨λh=>x _ (.termN C B h),λh c g d l k I=>q (.txt "set") _ _ _ c g d (.term C B h) l k.t I (tk k) rfl (λ_ z=>nomatch z)⟩
abbrev aQS:Stmt:=xF "do_copy"
theorem aKf:yN ["book","deed"] ["book","deed"] (yH aQS):=scM
theorem aWU(a:MG P w K mg base (CXR P w) n CB "send_copy" ["self","number","person"] (bJl K Rf CB CL))(F:Fun K "do_copy" "do_copy" aQS f fd):xE P w K mg base (CXR P w) (n+1) f fd ["book","deed"] (aJb K Rf CB CL λe=>∃ (m:Int)(b:Str),e= .copy m b):=by
 have I:=aKf;refine F.okX (k:=n) I (λW A outer s H Y Q E N h=>?_);obtain⟨v,o,y,x,C,u,R,S,e,rfl,⟨m,b,rfl⟩,d,l,X,V,tb,q,B⟩:=h;refine⟨_,(yF (yP (v1 a N zX (pv 0) (yA (yL yX (pv 1) yE) (yA (yL yX (pv 1) yE) yD))))),?_⟩;obtain⟨T,U⟩:=l.book;have tk:∀ {g},vO (own y x C u) H g->wD Rf.2 g:=λk=>xT tb k l.kinds;have d:H o=some (.tup _):=d;refine⟨_,rfl,v,T,_,rfl,U,rfl,_,rfl,o,_,1,_,rfl,rfl,SqT.of d,rfl,_,rfl,o,_,2,_,rfl,rfl,SqT.of d,rfl,?_⟩;refine⟨v,y,x,C,u,R,S,m,b,rfl,l,X.c,λh=>B _ (.oneN h (.inr (.inr (.inr (.inl ⟨b,rfl⟩))))),λk r J G D=>?_⟩;subst J;exact⟨λh=>B _ (.copyC G D h),λL O g j i p k M=>q (.num (r.copies.length+1)) _ _ _ g j i (.copy G D L O) p k.t M (tk k) rfl (λ_ z=>nomatch z)⟩
abbrev aQU:Stmt:=xF "do_file"
theorem aKh:yN ["book","deed"] ["book","deed"] (yH aQU):=scM
theorem aWW(a:MG P w K mg base (CXR P w) n CB "lay_thread" ["self","number","name"] (bVV K Rf CB CL))(F:Fun K "do_file" "do_file" aQU f fd):xE P w K mg base (CXR P w) (n+1) f fd ["book","deed"] (aJb K Rf CB CL λe=>∃ (m:Int)(name:Str),e= .file m name):=by
 have x:=aKh;refine F.okX (k:=n) x (λI A outer s H O Q E C h=>?_);obtain⟨p,i,u,t,o,d,R,S,e,rfl,⟨m,name,rfl⟩,b,g,L,j,tb,q,J⟩:=h;refine⟨_,(yF (yP (v1 a C zX (pv 0) (yA (yL yX (pv 1) yE) (yA (yL yX (pv 1) yE) yD))))),?_⟩;obtain⟨D,G⟩:=g.book;have tk:∀ {c},vO (own u t o d) H c->wD Rf.2 c:=λk=>xT tb k g.kinds;have b:H i=some (.tup _):=b;refine⟨_,rfl,p,D,_,rfl,G,rfl,_,rfl,i,_,1,_,rfl,rfl,SqT.of b,rfl,_,rfl,i,_,2,_,rfl,rfl,SqT.of b,rfl,?_⟩;refine⟨p,u,t,o,d,R,S,m,name,rfl,g,L.r,j,tb,λh=>J _ (.oneN h (.inr (.inr (.inr (.inr (.inl ⟨name,rfl⟩)))))),λk r y N M c l B v=>?_⟩;subst y;exact q (.num (Bk.thr R k).length) _ _ _ c o d (.file N M) l B qO.refl v rfl (λ_ z=>nomatch z)
abbrev aQY:Stmt:=xF "do_void"
theorem aKl:yN ["book","deed"] ["book","deed"] (yH aQY):=scM
theorem aW0(a:MG P w K mg base (CXR P w) n CB "cancel" ["self","number"] (aV6 K Rf CB CL))(F:Fun K "do_void" "do_void" aQY f fd):xE P w K mg base (CXR P w) (n+1) f fd ["book","deed"] (aJb K Rf CB CL λe=>∃ (m:Int),e= .void m):=by
 have D:=aKl;refine F.okX (k:=n) D (λO A outer s H U Q E J h=>?_);obtain⟨o,u,v,p,y,l,R,S,e,rfl,⟨m,rfl⟩,d,i,T,N,tb,q,x⟩:=h;refine⟨_,(yC (yY (v1 a J zX (pv 0) (yA (yL yX (pv 1) yE) yD))) (yF (yP yR))),?_⟩;obtain⟨L,M⟩:=i.book;have tk:∀ {b},vO (own v p y l) H b->wD Rf.2 b:=λk=>xT tb k i.kinds;have d:H u=some (.tup _):=d;refine⟨_,rfl,o,L,_,rfl,M,rfl,_,rfl,u,_,1,_,rfl,rfl,SqT.of d,rfl,?_⟩;refine⟨o,v,p,y,l,R,S,m,rfl,i,by have:=T.r;omega,λh=>x _ (.oneN h (.inr (.inr (.inr (.inr (.inr (.inl rfl))))))),λk r G C B=>?_⟩;subst G;exact⟨λh=>x _ (.voidA C B h),λh b g c j k I=>q (.txt "void") _ _ _ b g c (.void C B h) j k.t I (tk k) rfl (λ_ z=>nomatch z)⟩
abbrev aQW:Stmt:=xF "do_shut"
theorem aKj:yN ["book","deed"] ["book","deed"] (yH aQW):=scM
theorem aWY(a:MG P w K mg base (CXR P w) n CB "shut_day" ["self","day"] (bJm K Rf CB CL))(F:Fun K "do_shut" "do_shut" aQW f fd):xE P w K mg base (CXR P w) (n+1) f fd ["book","deed"] (aJb K Rf CB CL λe=>∃ (d:Int),e= .shut d):=by
 have x:=aKj;refine F.okX (k:=n) x (λI A outer s H M Q E B h=>?_);obtain⟨o,r,u,p,v,m,R,S,e,rfl,⟨d,rfl⟩,g,j,L,G,tb,q,J⟩:=h;refine⟨_,(yC (yY (v1 a B zX (pv 0) (yA (yL yX (pv 1) yE) yD))) (yF (yP yR))),?_⟩;obtain⟨C,D⟩:=j.book;have tk:∀ {b},vO (own u p v m) H b->wD Rf.2 b:=λk=>xT tb k j.kinds;have g:H r=some (.tup _):=g;refine⟨_,rfl,o,C,_,rfl,D,rfl,_,rfl,r,_,1,_,rfl,rfl,SqT.of g,rfl,?_⟩;refine⟨o,u,p,v,m,R,S,d,rfl,j,by have:=L.s;omega,λh=>J _ (.shutN h),λh b i c l k y=>?_⟩;exact q (.txt "shut") _ _ _ b i c (.shut h) l k.t y (tk k) rfl (λ_ z=>nomatch z)
abbrev qM:Stmt:=xF "ask_state"
theorem aZ5:yN ["book","deed"] ["book","deed"] (yH qM):=scM
theorem aZQ(a:MG P w K mg base (CXR P w) n CB "state_of" ["self","number"] (aJf K Rf CB CL))(F:Fun K "ask_state" "ask_state" qM f fd):xE P w K mg base (CXR P w) (n+1) f fd ["book","deed"] (aJb K Rf CB CL λe=>∃ (m:Int),e= .state m):=by
 have v:=aZ5;refine F.okX (k:=n) v (λD A outer s H L Q E y h=>?_);obtain⟨j,p,u,o,i,d,R,S,e,rfl,⟨m,rfl⟩,c,b,M,C,tb,q,G⟩:=h;refine⟨_,(yF (yP (v1 a y zX (pv 0) (yA (yL yX (pv 1) yE) yD)))),?_⟩;obtain⟨z,B⟩:=b.book;have tk:∀ {H'},vO (own u o i d) H H'->wD Rf.2 H':=λk=>xT tb k b.kinds;have c:H p=some (.tup _):=c;refine⟨_,rfl,j,z,_,rfl,B,rfl,_,rfl,p,_,1,_,rfl,rfl,SqT.of c,rfl,?_⟩;refine⟨j,u,o,i,d,R,S,m,rfl,b,λk r l x J I hl=>?_,λh=>G _ (.oneN h (.inr (.inr (.inr (.inr (.inr (.inr (.inl rfl))))))))⟩;subst x;have g:=yG hl (.tup (stV r));exact q (.row r) _ _ _ _ i d (.state J I) (b.same g) (Y5.of g.t) qO.refl (tk (vO.of g)) ⟨l,rfl,b.notnone hl,yB⟩ (uP.none hl)
abbrev uZ:Stmt:=xF "ask_thread"
theorem aX4:yN ["book","deed"] ["book","deed"] (yH uZ):=scM
theorem aXN(a:MG P w K mg base (CXR P w) n CB "thread_of" ["self","number"] (jO K Rf CB CL))(F:Fun K "ask_thread" "ask_thread" uZ f fd):xE P w K mg base (CXR P w) (n+1) f fd ["book","deed"] (aJb K Rf CB CL λe=>∃ (m:Int),e= .thread m):=by
 have y:=aX4;refine F.okX (k:=n) y (λG A outer s H N Q E B h=>?_);obtain⟨o,u,v,t,j,g,R,S,e,rfl,⟨m,rfl⟩,d,b,J,i,tb,q,I⟩:=h;refine⟨_,(yF (yP (v1 a B zX (pv 0) (yA (yL yX (pv 1) yE) yD)))),?_⟩;obtain⟨C,D⟩:=b.book;have tk:∀ {c},vO (own v t j g) H c->wD Rf.2 c:=λk=>xT tb k b.kinds;have d:H u=some (.tup _):=d;refine⟨_,rfl,o,C,_,rfl,D,rfl,_,rfl,u,_,1,_,rfl,rfl,SqT.of d,rfl,?_⟩;refine⟨o,v,t,j,g,R,S,m,rfl,b,J.r,i.tree,tb,λh=>I _ (.oneN h (.inr (.inr (.inr (.inr (.inr (.inr (.inr (.inl rfl))))))))),λk r z M L c l nl p x hl=>?_⟩;subst z;exact q (.nums (Bk.thr R k)) _ _ _ c j g (.thread M L) (b.sameT p) (Y5.of p) qO.refl x ⟨l,rfl,b.notown nl,hl⟩ (uP.nl nl)
abbrev uY:Stmt:=xF "ask_copies"
theorem aX3:yN ["book","deed"] ["book","deed"] (yH uY):=scM
theorem aXM(a:MG P w K mg base (CXR P w) n CB "copies_of" ["self","number"] (aV8 K Rf CB CL))(F:Fun K "ask_copies" "ask_copies" uY f fd):xE P w K mg base (CXR P w) (n+1) f fd ["book","deed"] (aJb K Rf CB CL λe=>∃ (m:Int),e= .copies m):=by
 have v:=aX3;refine F.okX (k:=n) v (λD A outer s H L Q E y h=>?_);obtain⟨j,p,u,o,i,d,R,S,e,rfl,⟨m,rfl⟩,c,b,M,C,tb,q,G⟩:=h;refine⟨_,(yF (yP (v1 a y zX (pv 0) (yA (yL yX (pv 1) yE) yD)))),?_⟩;obtain⟨z,B⟩:=b.book;have tk:∀ {H'},vO (own u o i d) H H'->wD Rf.2 H':=λk=>xT tb k b.kinds;have c:H p=some (.tup _):=c;refine⟨_,rfl,j,z,_,rfl,B,rfl,_,rfl,p,_,1,_,rfl,rfl,SqT.of c,rfl,?_⟩;refine⟨j,u,o,i,d,R,S,m,rfl,b,λk r l x J I hl=>?_,λh=>G _ (.oneN h (.inr (.inr (.inr (.inr (.inr (.inr (.inr (.inr rfl)))))))))⟩;subst x;have g:=yG hl (.lst (r.copies.map V.str));exact q (.txts r.copies) _ _ _ _ i d (.copies J I) (b.same g) (Y5.of g.t) qO.refl (tk (vO.of g)) ⟨l,rfl,b.notnone hl,yB⟩ (uP.none hl)
abbrev uE:Stmt:=xF "ask_letters"
theorem aXi:yN ["book","deed"] ["book","deed"] (yH uE):=scM
theorem aXd(a:MG P w K mg base CX0 n CB "letters_in" ["self","name"] (aQ1 CB CL))(F:Fun K "ask_letters" "ask_letters" uE f fd):xE P w K mg base (CXR P w) (n+1) f fd ["book","deed"] (aJb K Rf CB CL λe=>∃ (name:Str),e= .letters name):=by
 have v:=aXi;refine F.okX (k:=n) v (λC A outer s H G Q E x h=>?_);obtain⟨m,p,u,o,j,d,R,S,e,rfl,⟨name,rfl⟩,c,b,D,B,tb,q,I⟩:=h;refine⟨_,(yF (yP (v1 a x v0 (pv 0) (yA (yL yX (pv 1) yE) yD)))),?_⟩;obtain⟨y,z⟩:=b.book;have tk:∀ {H'},vO (own u o j d) H H'->wD Rf.2 H':=λk=>xT tb k b.kinds;have c:H p=some (.tup _):=c;refine⟨_,rfl,m,y,_,rfl,z,rfl,_,rfl,p,_,1,_,rfl,rfl,SqT.of c,rfl,?_⟩;refine⟨m,u,o,j,d,R,S,name,rfl,b,D.r,λl hl=>?_⟩;have g:=yG hl (.lst ((Z7 R name).map λi=>V.int (i:Nat)));exact q (.nums (Z7 R name)) _ _ _ _ j d .letters (b.same g) (Y5.of g.t) qO.refl (tk (vO.of g)) ⟨l,rfl,b.notnone hl,yB⟩ (uP.none hl)
abbrev uG:Stmt:=xF "ask_waiting"
theorem aXk:yN ["book","deed"] ["book","deed"] (yH uG):=scM
theorem aXf(a:MG P w K mg base CX0 n CB "waiting" ["self","day"] (bKi CB CL false))(F:Fun K "ask_waiting" "ask_waiting" uG f fd):xE P w K mg base (CXR P w) (n+1) f fd ["book","deed"] (aJb K Rf CB CL λe=>∃ (d:Int),e= .on false d):=by
 have B:=aXk;refine F.okX (k:=n) B (λL A outer s H M Q E C h=>?_);obtain⟨u,x,y,v,p,i,R,S,e,rfl,⟨d,rfl⟩,g,b,z,J,tb,q,N⟩:=h;refine⟨_,(yF (yP (v1 a C v0 (pv 0) (yA (yL yX (pv 1) yE) yD)))),?_⟩;obtain⟨G,I⟩:=b.book;have tk:∀ {c},vO (own y v p i) H c->wD Rf.2 c:=λk=>xT tb k b.kinds;have g:H x=some (.tup _):=g;refine⟨_,rfl,u,G,_,rfl,I,rfl,_,rfl,x,_,1,_,rfl,rfl,SqT.of g,rfl,?_⟩;refine⟨u,y,v,p,i,R,S,d,rfl,b,z.r,z.s,λl c D m hl o j=>?_⟩;exact q (.nums D) _ _ _ c p i (.on j) (b.same m) (Y5.of m.t) qO.refl (tk (vO.of m)) ⟨l,rfl,b.notnone hl,o⟩ (uP.none hl)
abbrev uF:Stmt:=xF "ask_overdue"
theorem aXj:yN ["book","deed"] ["book","deed"] (yH uF):=scM
theorem aXe(a:MG P w K mg base CX0 n CB "overdue" ["self","day"] (bKi CB CL true))(F:Fun K "ask_overdue" "ask_overdue" uF f fd):xE P w K mg base (CXR P w) (n+1) f fd ["book","deed"] (aJb K Rf CB CL λe=>∃ (d:Int),e= .on true d):=by
 have B:=aXj;refine F.okX (k:=n) B (λL A outer s H M Q E C h=>?_);obtain⟨u,x,y,v,p,i,R,S,e,rfl,⟨d,rfl⟩,g,b,z,J,tb,q,N⟩:=h;refine⟨_,(yF (yP (v1 a C v0 (pv 0) (yA (yL yX (pv 1) yE) yD)))),?_⟩;obtain⟨G,I⟩:=b.book;have tk:∀ {c},vO (own y v p i) H c->wD Rf.2 c:=λk=>xT tb k b.kinds;have g:H x=some (.tup _):=g;refine⟨_,rfl,u,G,_,rfl,I,rfl,_,rfl,x,_,1,_,rfl,rfl,SqT.of g,rfl,?_⟩;refine⟨u,y,v,p,i,R,S,d,rfl,b,z.r,z.s,λl c D m hl o j=>?_⟩;exact q (.nums D) _ _ _ c p i (.on j) (b.same m) (Y5.of m.t) qO.refl (tk (vO.of m)) ⟨l,rfl,b.notnone hl,o⟩ (uP.none hl)
end
end Desk
namespace Desk
open PySem L2 PyProof.Rows
open Bk (Row Rows xN Ans xW)
open Thr (wD vZ qV)
structure bKr(P:bYD)(w:bYL)(K:bYj)(D:Nat)(kvs:List (Key×bYh)):Prop where
 at_:∃o es ep,K.lookup D=some o/\o.ExactDict/\o.data= .dict es ep/\KeysOf (zA P w) es/\Pairs (zA P w) es.toList kvs/\(kvs.map (·.1)).Nodup
def bYf(a:List (Key×bYh))(b:TE):TE:=λσ H Q=>b σ H λy c=>∃ (x:Str)(f:Nat),y= .str x/\cZB a (Sum.inr x)=some (.ref f)/\Q (.ref f) c
theorem bWM{X:Cx}{x:Str}{D:Nat}{a:List (Key×bYh)}{i:Expr}{d:TE}{p pos:Pos}(A:Gl X x)(z:X.mg x=some (.ref D))(T:bKr X.prog X.w X.K D a)(m:PE X i d)(r:bKN i)(c:(x==("__debug__":Str))=false:=by decide):
  PE X (.Subscript (.Name x p) i pos) (bYf a d):=by
 intro b s σ H Q I h
 refine bVW PySem.F.slot_dict_getitem.lookup r (uV I A z (thn (m b s σ H _ I h) λiv s2 ⟨y,H2,I2,ry,x',f,ex,hv,q2⟩=>?_) c)
 subst ex
 obtain⟨o,g,l,n,u,q,t,j,v⟩:=T.at_
 have e:s2.heap.DictOf (zA X.prog X.w) D a:=⟨o,g,l,I2.kIn _ _ n,u,q,t,j,v⟩
 exact⟨e.typeIs,wpAny_getItem_of (bXl (k:=Sum.inr x') ry) e.mapOf hv ⟨.ref f,H2,I2.tok _,rfl,q2⟩⟩
def bJo(P:bYD)(w:bYL)(K:bYj)(mg:Str->Option bYh)(base:Heap)(k i:Nat)(E:XK)(t:TA):TE:=λσ H Q=>∃f,σ[i]? =some (some (.ref f))/\cQd K (.ref f)=true/\
 t σ H λd e=>∃b a c,xE P w K mg base (CXR P w) k f b a c/\v6 K b a []/\c d e Q E
theorem bX0{X:Cx}{k i:Nat}{x:Str}{e:Expr}{c:List Expr}{t:TA}{E:XK}{p pos:Pos}(D:vW k X.A)(o:X.N[i]? =some x)(J:Vis X.env.scope x)(n:vP (CXR X.prog X.w) X E)(y:PA X (e::c) t)
  (d:(x==("__debug__":Str))=false:=by decide) (j:(x==("__classdict__":Str))=false:=by decide) (z:bYX (e::c) X.env=(false,eval e X.env)::bYX c X.env:=by rfl) (g:(cQV pos (bYX c X.env)).any (·.1)=false:=by rfl):
  PE X (.Call (.Name x p) (e::c) [] pos) (bJo X.prog X.w X.K X.mg X.base k i E t):=by
 intro a s σ H Q I h
 obtain⟨f,C,m,q⟩:=h
 refine cQW (thn (bJb (pos:=p) o J d j a s σ H (λv l=>v= .ref f/\l=H) I ⟨_,C,rfl,rfl⟩) ?_)
 rintro u G ⟨v,l,L,B,rfl,rfl⟩
 obtain rfl:u=Value.ref f:=B
 refine cX6 (h₀:=X.base) I.ok.mod.kin m (thn (y pos a G σ l _ L q) λus s2 ⟨vs,H2,I2,r,fd,ps,sp,F,b,q2⟩=>⟨I2.kIn,?_⟩) z g
 exact aZ1 F D b .nil n I2 r (by rw[cQk];exact q2)
def aYa:xN->Str
 |.enter b _ _ _=>b
 |.reply _ _ _=>"reply"
 |.hang _ _=>"hang"
 |.loose _=>"loose"
 |.date _ _=>"date"
 |.term _ _=>"term"
 |.copy _ _=>"copy"
 |.file _ _=>"file"
 |.void _=>"void"
 |.shut _=>"shut"
 |.state _=>"state"
 |.thread _=>"thread"
 |.copies _=>"copies"
 |.letters _=>"letters"
 |.on a _=>if a then "overdue" else "waiting"
def Wf:xN->Prop
 |.enter a _ _ _=>a="in"\/a="out"
 |_=>True
theorem bQ8(e:xN):atI (xH e) 0=some (.str (aYa e)):=by cases e<;> rfl
def bV8(P:bYD)(w:bYL)(K:bYj)(mg:Str->Option bYh)(base:Heap)(n:Nat)(Rf:Nat×Nat)(c CL:Nat)(a:List (Key×bYh)):Prop:=∀e:xN,Wf e->∃ (f:Nat)(b:cXg)(p:xN->Prop),cZB a (Sum.inr (aYa e))=some (.ref f)/\
 xE P w K mg base (CXR P w) n f b ["book","deed"] (aJb K Rf c CL p)/\p e/\v6 K b ["book","deed"] []/\cQd K (.ref f)=true
def aQa(Rf:Nat×Nat)(k CL:Nat):Sp:=λo H Q _=>∃ (i n f d:Nat)(j h:List Nat)(R:Rows)(S:List Int)(e:xN),o= [.ref i,.ref n]/\Wf e/\H n=some (.tup (xH e))/\PB k CL H i f d j h R S/\Sz R S/\Bk.Y3 R/\wD Rf.2 H/\
 ∀ (a:Ans)(l:Rows)(m:List Int)(v:V)(g:Hp)(c b:List Nat),xW R S e a l m->PB k CL g i f d c b l m->Y5 (own f d j h) H g->qO H (own f d j h) (own f d c b)->wD Rf.2 g->vI (own f d c b) g a v->uP H v->Q v g
section
variable {K:bYj}
abbrev aJ5:Stmt:=xF "answer"
theorem bQk:yN ["book","deed","do","refusal"] ["book","deed"] (yH aJ5):=scM
theorem aYx(B:mg "DEEDS"=some (.ref D))(I:bKr P w K D kvs)(hR:mg "Refused"=some (.ref Rf.1))(L:v7 K Rf.1)(all:bV8 P w K mg base n Rf CB CL kvs)(F:Fun K "answer" "answer" aJ5 f fd): xE P w K mg base CX0 (n+1) f fd ["book","deed"] (aQa Rf CB CL):=by
 have o:=bQk;refine F.ok (k:=n) o (λV A outer s H vs Q E M h=>?_);obtain⟨G,v,N,J,x,p,R,S,e,rfl,l,m,u,W,c,tb,q⟩:=h;refine⟨_,(yC (yU (i:=2) (bWM rfl B I (yL yX (pv 1) yE) (λ_ _=>rfl))) (yF (bWO (i:=3) o.nd rfl rfl rfl hR L rfl rfl rfl (by decide) (by decide) (by decide) (λ_=>rfl) (tb:=λE=>bKU (bJo P w K mg base n 2 E (aKx (bVZ 0) (aKx (bVZ 1) bZF)))) (λpn xe E X=>yF (yP (bX0 M rfl (Or.inl rfl) X (yA (pv 0) (yA (pv 1) yD)))))))),?_⟩;obtain⟨r,b,pe,Y,T,j,a,d⟩:=all e l;refine⟨_,rfl,v,_,0,_,rfl,rfl,SqT.of m,bQ8 e,aYa e,r,rfl,Y,?_⟩;dsimp only[yW];refine⟨r,rfl,d,_,rfl,_,rfl,b,_,_,T,a,G,v,N,J,x,p,R,S,e,rfl,j,m,u,W,c,tb,q,λt g=>?_⟩;intro C O Z cC U k y;exact⟨C,O,t,rfl,rfl,cC,U,y,q (.txt t) R S _ Z x p g (u.sameT k.1) (Y5.of k.1) qO.refl (k.2 tb) rfl (λ_ z=>nomatch z)⟩
inductive Run:Rows->List Int->List xN->List Ans->Rows->List Int->Prop
 |nil {R:Rows} {S:List Int}:Run R S [] [] R S
 |snoc {R R' R'':Rows} {S S' S'':List Int} {es:List xN} {as:List Ans} {e:xN} {a:Ans} (h:Run R S es as R' S') (d:xW R' S' e a R'' S''):Run R S (es++ [e]) (as++ [a]) R'' S''
theorem Run.len{R e:Rows}{S f:List Int}{a:List xN}{b:List Ans}(h:Run R S a b e f):a.length=b.length:=by
 induction h with
 |nil=>rfl
 |snoc h d c=>simp[c]
structure Up(t:Nat)(R:Rows)(S:List Int):Prop where
 r:R.length<=t
 s:S.length<=t
 c:∀r∈R,r.copies.length<=t
theorem Up.set{t:Nat}{R:Rows}{S:List Int}(u:Up t R S)(k:Nat)(f:Row->Row)(b:∀r,(f r).copies.length<=r.copies.length+1):Up (t+1) (Bk.xR R k f) S:=
 ⟨by rw[Bk.zS];exact cQP u.r,cQP u.s,λr a=>by
  rcases Bk.aQw a with h|⟨q,h,rfl⟩
  ·exact cQP (u.c r h)
  ·exact bYT (b q) (Nat.succ_le_succ (u.c q h))⟩
theorem aQq{name:Str}:∀ (l:List Nat)(R:Rows)(t:Nat),(∀r∈R,r.copies.length<=t)->∀r∈Bk.laid R l name,r.copies.length<=t
 |[],R,t,h,r,hr=>h r hr
 |k::l,R,t,h,r,hr=>aQq l (Bk.xR R k λr=>{r with place:=name}) t (λq b=>by
   rcases Bk.aQw b with z|⟨a,z,rfl⟩
   ·exact h q z
   ·exact h a z) r hr
theorem Up.laid{t:Nat}{R:Rows}{S:List Int}(u:Up t R S)(l:List Nat)(name:Str):Up t (Bk.laid R l name) S:=⟨by rw[Bk.wX];exact u.r,u.s,aQq l R t u.c⟩
theorem Up.le{t:Nat}{R:Rows}{S:List Int}(u:Up t R S):Up (t+1) R S:=⟨cQP u.r,cQP u.s,λr h=>cQP (u.c r h)⟩
theorem Up.snoc{t:Nat}{R:Rows}{S:List Int}(u:Up t R S)(r:Row)(h:r.copies= []):Up (t+1) (R++ [r]) S:=⟨by simpa using u.r,cQP u.s,λq a=>by
 rcases bYU.mp a with z|z
 ·exact cQP (u.c q z)
 ·rw[bYy.mp z,h];exact cQf _⟩
theorem Up.done{t:Nat}{R b:Rows}{S d:List Int}{e:xN}{a:Ans}(u:Up t R S)(h:xW R S e a b d):Up (t+1) b d:=by
 cases h with
 |enter _=>exact u.snoc _ rfl
 |reply _ _ _ _=>exact u.snoc _ rfl
 |hang _ _ _ _ _ _ _ _ _=>exact(u.laid _ _).set _ _ λ_=>cXq _
 |loose _ _ _=>exact u.set _ _ λ_=>cXq _
 |date _ _ _ _=>exact u.set _ _ λ_=>cXq _
 |term _ _ _=>exact u.set _ _ λ_=>cXq _
 |copy _ _ _ _=>exact u.set _ _ λr=>by simp
 |file _ _=>exact(u.laid _ _).le
 |void _ _ _=>exact u.set _ _ λ_=>cXq _
 |shut _=>exact⟨cQP u.r,by simpa using u.s,λr h=>cQP (u.c r h)⟩
 |_=>exact u.le
theorem Up.sz{t:Nat}{R:Rows}{S:List Int}(u:Up t R S)(h:t<64):Sz R S:=⟨by have:=u.r;omega,by have:=u.s;omega,λr a=>by have:=u.c r a;omega⟩
end
end Desk
namespace Law
open PySem L2 PyProof.Rows
open Bk (Row Rows xW xN Ans)
open Desk (xH vI uP Wf)
abbrev aXT:Stmt:=xF "_law_entered"
def aQ8(e:Nat)(c a:List Nat)(H d:Hp):Prop:=(∀x o,x∉e::c->H x=some o->d x=some o)/\(∀b∈a,b∈c\/H b=none)/\∀s u,H s=some u->NoC c H s->NoC a d s
theorem But.step{d:Nat}{a:List Nat}{H c:Hp}(k:But a H c):aQ8 d a a H c:=⟨λx o n e=>k.1 x o (λz=>n (bYt _ z)) e,λb h=> .inl h,k.2.2⟩
theorem aQ8.pre{f:Nat}{c a:List Nat}{H g d:Hp}(i:∀b∈c,∃o,H b=some o)(k:xC H g)(s:aQ8 f c a g d):aQ8 f c a H d:=
 ⟨λx o n e=>s.1 x o n (k _ _ e),λb h=>(s.2.1 b h).imp id λz=>k.fresh z,λx u e n=>s.2.2 x u (k _ _ e) ((But.of i k).2.2 x u e n)⟩
def aQ0:Sp:=λl H Q _=>∃ (c k:Nat)(i:List Nat)(R:Rows)(e:xN),l= [.ref c,.ref k]/\H k=some (.tup (xH e))/\Wf e/\((∃g d h t,e= .enter g d h t)\/∃m d t,e= .reply m d t)/\xA H c i R/\R.length<=60/\
 ∀ (f:Hp)(a:Ans)(v:V)(j:Rows)(b:List Nat),aQ8 c i b H f->xA f c b j->(∀S,xW R S e a j S)->vI [] f a v->uP H v->Q v f
theorem aWq{H:Hp}{f:Nat}{p:List Nat}{R:Rows}(h:xA H f p R){r:Row}(S:r.copies= []){k b:Nat}(v:H k=none)(F:upd H k (.lst []) b=none): xA (upd (upd (upd H k (.lst [])) b (.lst (uO r k))) f (.lst ((p++ [b]).map V.ref))) f (p++ [b]) (R++ [r])/\aQ8 f p (p++ [b]) H (upd (upd (upd H k (.lst [])) b (.lst (uO r k))) f (.lst ((p++ [b]).map V.ref))):=by
 have M:=yG v (.lst []);have P:=yG F (.lst (uO r k));have D:=M.trans P;have m:H b=none:=M.fresh F;have B:b≠f:=λz=>by rw[z,h.lst]at m;cases m
 have L:k≠f:=λz=>by rw[z,h.lst]at v;cases v
 have I:k≠b:=λz=>by rw[<- z,yB]at F;cases F
 have nb:b∉p:=λz=>by obtain⟨o,e⟩:=h.dom b z;rw[m]at e;cases e
 have rne:∀ {a r' g},H a=some (.lst (uO r' g))->a≠f:=λq z=>by rw[z,h.lst]at q;exact aQJ (bYC q).symm
 refine⟨⟨yB,by simp[h.len],?_,λi c q j d=>?_⟩,λx o n e=>?_,λc t=>?_,λs u e n c t l E=>?_⟩
 ·exact cXK.mpr ⟨h.nd,cQH _ _,λa O c v z=>nb (by rw[<- bYy.mp v,<- z];exact O)⟩
 ·by_cases C:i<R.length
  ·rw[bYY (by rw[h.len];exact C)]at j;rw[bYY C]at d;obtain⟨g,G,A⟩:=h.row i c q j d;have J:g≠f:=λz=>by
    rw[z,h.lst]at A;have hl:=congrArg cXp (HO.lst.inj (bYC A));have:=bYz j;cases p with
    |nil=>cases this
    |cons x U=>
     cases w:q.copies with
     |nil=>rw[w]at hl;simp at hl
     |cons y W=>rw[w]at A;have:=HO.lst.inj (bYC A);simp at this
   exact⟨g,by rw[yI (rne G)];exact D _ _ G,by rw[yI J];exact D _ _ A⟩
  ·have K:i=R.length:=by
    have:=(bYs.mp d).1;simp at this;omega
   subst K;rw[bYH (by rw[h.len];exact bYo _),h.len,cQC]at j;rw[bYH (bYo _),cQC]at d;cases j;cases d;exact⟨k,by rw[yI B,yB];rfl,by rw[yI L,yI I,yB,S];rfl⟩
 ·have T:x≠f:=λz=>n (by rw[z];exact bYw);rw[yI T];exact D _ _ e
 ·rcases bYU.mp t with z|z
  ·exact .inl z
  ·exact .inr (by rw[bYy.mp z];exact m)
 ·rcases bYU.mp t with z|z
  ·have z2:c≠f:=λy=>by
    obtain⟨i,C,Q⟩:=bY8 z;obtain⟨g,G,_⟩:=h.row i c _ (by rw[bYg C,Q]) (bYg (show i<R.length by rw[<- h.len];exact C));exact rne G y
   obtain⟨o,N⟩:=h.dom c z;rw[yI z2,D _ _ N]at E;exact n c z l (by rw[N];exact E)
  ·rw[bYy.mp z,yI B,yB]at E;cases E;intro y;have:k=s:=by injection y with y;injection y
   rw[<- this,v]at e;cases e
section
variable {K:bYj}
theorem uQ:bY2 "int"=some (.type "int"):=dk
theorem aKm:yN ["_law_rows","_law_deed","_law_way","_law_date","_law_partner","_law_link","_law_place","_law_one"] ["_law_rows","_law_deed"] (yH aXT):=scM
theorem aW1(T:vJ mg)(a1:mg "int"=none)(D:FnG P w K mg base 2 "_law_good" ["_law_rows","_law_number"] W9)(F:Fun K "_law_entered" "_law_entered" aXT f fd):xE P w K mg base CX0 3 f fd ["_law_rows","_law_deed"] aQ0:=by
 have sc:=aKm;refine F.ok (k:=2) sc (λb6 A outer s H vs Q E hr h=>?_);obtain⟨N,o,W,R,e,rfl,B,b5,p,I,hR,q⟩:=h;refine⟨_,(yC (vE (xG (yA (yL yX (pv 1) yE) (yA (yL yX (pv 1) yE) (yA (yL yX (pv 1) yE) (yA x3 (yA yR yD)))))) (aZV rfl (zB (y9 (i:=2)) (zB (y9 (i:=3)) (zB (y9 (i:=4)) (zB (y9 (i:=5)) (zB (y9 (i:=6)) aQG))))))) (yC (y7 (yM zF (pv 2) yR) (yC (y7 (vF (xX (xJ D hr rfl (yA (pv 0) (yA (yL yX (pv 1) yE) yD))))) (yF (yP yR)) yS) (yC (yU (i:=7) (yL yK (pv 0) (yL yX (pv 1) yE))) (yC (yU (i:=2) (yL yK (y6 (yA yR (yA yR yD))) (x2 vB rfl a1 uQ (yA (zP zF (yL yK (pv 7) yE) yR) yD)))) (yF (vE (xG (yA (yL yX (pv 1) yE) (yA (yL yK (pv 7) yE) (yA (yL yX (pv 1) yE) (yA (yL yK (pv 7) yE) yD))))) (aZV rfl (zB (y9 (i:=3)) (zB (y9 (i:=4)) (zB (y9 (i:=5)) (zB (y9 (i:=6)) aQG)))))))))) yS) (yC (y7 (yM vL (yL yX (pv 1) yE) yE) (yF (yP yR)) yS) (yC (y7 (PW.pt (vS (yM z8 (pv 5) x3) (wR (yM vL (pv 3) (yL yK (yL yK (pv 0) (pv 5)) yE))))) (yF (yP yR)) yS) (yC (yY (vM bYG bYN bYO xD (pv 0) (yA (y6 (yA (pv 2) (yA (pv 3) (yA (pv 4) (yA (yL yX (pv 1) yE) (yA (pv 5) (yA (pv 6) (yA wQ (yA (y6 yD) yD))))))))) yD))) (yF (yP (yV wU (yQ yO rfl T.b_len xB (yA (pv 0) yD)) yE)))))))),?_⟩;have h0:∃a b c,(xH e)[0]? =some (.str a)/\(xH e)[1]? =some (.int b)/\(xH e)[2]? =some c/\a=Desk.aYa e:=by
  rcases p with⟨g,d,l,t,rfl⟩|⟨m,d,t,rfl⟩
  ·exact⟨_,_,_,rfl,rfl,rfl,rfl⟩
  ·exact⟨_,_,_,rfl,rfl,rfl,rfl⟩
 obtain⟨L,b0,G,d0,d1,d2,ea⟩:=h0;refine⟨_,rfl,o,_,0,_,rfl,rfl,SqT.of B,yT (j:=0) d0,_,rfl,o,_,1,_,rfl,rfl,SqT.of B,yT (j:=1) d1,_,rfl,o,_,2,_,rfl,rfl,SqT.of B,yT (j:=2) d2,z5,λtp a9=>?_⟩;have X:=yG a9 (.tup [.str L,.int b0,G,.non,.str ""]);refine⟨tp,[.str L,.int b0,G,.non,.str ""],rfl,SqT.of yB,rfl,.str L,[.int b0,G,.non,.str ""],rfl,.int b0,[G,.non,.str ""],rfl,G,[.non,.str ""],rfl,.non,[.str ""],rfl,.str "",[],rfl,rfl,?_⟩;generalize upd H tp (.tup [.str L,.int b0,G,.non,.str ""])=H1 at X ⊢;dsimp only[yW];refine zC (λv H'=>∃ (g l place:Str)(d t:Int)(lk:Option Nat)(o7:Option V),v= [some (.ref N),some (.ref o),some (.str g),some (.int d),some (.str l),some (wZ lk),some (.str place),o7]/\xC H H'/\(xH e)[3]? =some (.int t)/\(∀k,lk=some k->k<R.length)/\
  (t<0->∀S,xW R S e (.txt "no term") R S)/\(0<=t->(∃k,lk=some k/\d<Bk.dt R k)->∀S,xW R S e (.txt "too early") R S)/\(0<=t->(∀k,lk=some k->Bk.dt R k<=d)->∀S,xW R S e (.num R.length) (R++ [⟨g,d,l,t,lk,place,false,[]⟩]) S)) ?jW (λn=>?_)
 case jW=>
  rintro v H2 ⟨g,l,place,d,t,lk,o7,rfl,y,d3,b3,t1,t2,t3⟩;have u:=I.same y;have a6:=y _ _ B;have stay:∀ {H3:Hp} {x:Str},xC H H3->(∀S,xW R S e (.txt x) R S)->Q (.str x) H3:=λ{H3 x} k dn=>q H3 (.txt x) _ R W (But.of I.dom k).step (I.same k) dn rfl (λ_ z=>nomatch z);refine⟨_,rfl,o,_,3,_,rfl,rfl,SqT.of a6,yT (j:=3) d3,_,_,rfl,rfl,_,rfl,?_⟩;refine qA (λc=>?_) (λc=>?_)
  ·exact stay y (t1 (of_decide_eq_true c))
  have ht:0<=t:=by have:=of_decide_eq_false (Bool.eq_false_iff.mpr c);omega
  dsimp only[aJg];refine zC (λv H'=>v= [some (.ref N),some (.ref o),some (.str g),some (.int d),some (.str l),some (wZ lk),some (.str place),o7]/\H'=H2/\∀k,lk=some k->Bk.dt R k<=d) ?rest2 (λn=>?_);case rest2=>
   rintro v H' ⟨rfl,rfl,h1⟩;refine⟨_,rfl,.inl ⟨rfl,_,SqL.of u.lst⟩,_,rfl,_,rfl,_,rfl,_,rfl,o,_,3,_,rfl,rfl,SqT.of a6,yT (j:=3) d3,_,rfl,_,rfl,z0,λcp Z=>⟨zn (by show 8<=100000;omega),λb hb=>?_⟩⟩;have hE:=aWq u (r:=⟨g,d,l,t,lk,place,false,[]⟩) rfl Z hb;have k3:=(yG Z (.lst [])).trans (yG hb (.lst (uO ⟨g,d,l,t,lk,place,false,[]⟩ cp)));refine⟨N,_,_,rfl,rfl,k3 _ _ u.lst,zlt (by rw[bYl,I.len];omega),?_⟩;have el:W.map V.ref++ [V.ref b]=(W++ [b]).map V.ref:=by simp
   rw[el];refine⟨_,rfl,N,_,rfl,.inl (SqL.of yB),?_⟩;refine⟨_,_,rfl,rfl,?_⟩;have en:(((((W++ [b]).map V.ref).length:Nat):Int) - 1)=(R.length:Int):=by rw[bYl,bYE,I.len];simp
   show Q (V.int _) _;rw[en];exact q _ (.num R.length) _ _ _ (hE.2.pre I.dom y) hE.1 (t3 ht h1) rfl (λ_ z=>nomatch z)
  cases lk with
  |none=>exact⟨_,rfl,rfl,_,rfl,onF rfl (onF rfl (n _ _ ⟨rfl,rfl,λk z=>nomatch z⟩))⟩
  |some j=>
   have a8:=b3 j rfl;have M:=bYg a8;obtain⟨bj,j1,j2,cj,j3,j4⟩:=u.get M;refine⟨_,rfl,rfl,_,rfl,onT rfl ⟨_,rfl,_,rfl,_,rfl,N,_,_,_,rfl,rfl,SqL.of u.lst,yT j1,bj,_,1,_,rfl,rfl,SqL.of j3,rfl,_,_,rfl,rfl,_,rfl,?_⟩⟩;cases a4:decide (d<R[j].date)with
   |true=>exact onT rfl (stay y (t2 ht ⟨j,rfl,by rw[Bk.vK M];exact of_decide_eq_true a4⟩))
   |false=>exact onF rfl (n _ _ ⟨rfl,rfl,λi O=>by cases O;rw[Bk.vK M];have:=of_decide_eq_false a4;omega⟩)
 refine⟨_,rfl,rfl,_,rfl,?_⟩;rcases p with⟨g,d,l,t,rfl⟩|⟨m,d,t,rfl⟩
 ·have a3:g="in"\/g="out":=b5;obtain rfl:L=g:=by cases d0;rfl
  obtain rfl:b0=d:=by cases d1;rfl
  obtain rfl:G= .str l:=by cases d2;rfl
  refine onF (by rcases a3 with rfl|rfl<;> decide) ?_;exact n _ _ ⟨L,l,"",b0,t,none,none,rfl,X,rfl,(λk z=>nomatch z),(λh S=> .enterT h),(λh ⟨k,z,_⟩=>nomatch z),λh _ S=> .enter h⟩
 ·obtain rfl:L="reply":=by cases d0;rfl
  obtain rfl:b0=m:=by cases d1;rfl
  obtain rfl:G= .int d:=by cases d2;rfl
  refine onT rfl ?_;have U:H1 o=some (.tup [.str "reply",.int b0,.int d,.int t]):=X _ _ B;have C:=I.same X;refine⟨_,rfl,_,rfl,o,_,1,_,rfl,rfl,SqT.of U,rfl,N,W,R,b0,rfl,C,_,rfl,?_⟩;cases h1:Bk.wI R b0 with
  |false=>exact onT rfl (q H1 (.txt "no letter") _ R W (But.of I.dom X).step C (λS=> .replyN h1) rfl (λ_ z=>nomatch z))
  |true=>
  obtain⟨i,r,rfl,b1,O,hv⟩:=Bk.wJ h1;obtain⟨b,g1,g2,cp,g3,g4⟩:=C.get O;refine onF rfl ⟨_,rfl,_,rfl,o,_,1,_,rfl,rfl,SqT.of U,rfl,N,_,_,_,rfl,rfl,SqL.of C.lst,yT g1,?_⟩;dsimp only[yW];refine⟨z2,λl2 Y=>⟨_,rfl,b,_,0,_,rfl,rfl,SqL.of (yG Y (.lst [.str "in",.str "out"]) _ _ g3),rfl,rfl,.inr ⟨_,rfl,?_⟩⟩⟩;have y:=yG Y (.lst [.str "in",.str "out"]);have a7:=X.trans y;have J:upd H1 l2 (.lst [.str "in",.str "out"]) l2=some (.lst [.str "in",.str "out"]):=yB;generalize upd H1 l2 (.lst [.str "in",.str "out"])=H3 at y a7 J ⊢;have b2:atI [V.str "in",V.str "out"] (if decide (V.str r.way=V.str "in")=true then 1 else 0)=some (.str (Bk.jT r.way)):=by
   rw[w8];unfold Bk.jT;by_cases z:r.way="in"
   ·rw[if_pos z,decide_eq_true z];rfl
   ·rw[if_neg z,decide_eq_false z];rfl
  have a2:=y _ _ U;have a5:=y _ _ g3;refine⟨l2,_,_,_,rfl,rfl,SqL.of J,b2,?_⟩;dsimp only[yW];refine⟨_,rfl,o,_,2,_,rfl,rfl,SqT.of a2,rfl,_,rfl,b,_,2,_,rfl,rfl,SqL.of a5,rfl,_,rfl,o,_,1,_,rfl,rfl,SqT.of a2,rfl,_,rfl,b,_,5,_,rfl,rfl,SqL.of a5,rfl,z4,λt4 b4=>?_⟩;have k4:=yG b4 (.tup [.int d,.str r.partner,.int (i:Nat),.str r.place]);refine⟨t4,[.int d,.str r.partner,.int (i:Nat),.str r.place],rfl,SqT.of yB,rfl,.int d,[.str r.partner,.int (i:Nat),.str r.place],rfl,.str r.partner,[.int (i:Nat),.str r.place],rfl,.int (i:Nat),[.str r.place],rfl,.str r.place,[],rfl,rfl,?_⟩;refine n _ _ ⟨Bk.jT r.way,r.partner,r.place,d,t,some i,_,rfl,a7.trans k4,rfl,(λk z=>by cases z;exact b1),(λh S=> .replyT h1 h),(λh ⟨k,z,B⟩ S=>?_),(λh B S=>?_)⟩
  ·cases z;rw[Bk.vK O]at B;exact .replyE O hv h B
  ·have:=B i rfl;rw[Bk.vK O]at this;exact .reply O hv h this
end
end Law
namespace Law
open PySem L2 PyProof.Rows
open Bk (Row Rows xW xN Ans)
open Desk (xH vI uP Wf wW)
abbrev bVB:Stmt:=xF "_law_with_one"
theorem xA.tupNo{H:Hp}{f:Nat}{b:List Nat}{R:Rows}(h:xA H f b R){x:Nat}{ys:List V}(e:H x=some (.tup ys)):x∉b:=λz=>by
 obtain⟨i,a,d⟩:=bY8 z;obtain⟨g,c,_⟩:=h.row i x _ (by rw[bYg a,d]) (bYg (show i<R.length by rw[<- h.len];exact a));rw[e]at c;cases c
theorem aJu{H:Hp}{j:Nat}{d:List Nat}{R:Rows}{k:Nat}{b:Nat}{r:Row}(h:xA H j d R)(p:d[k]? =some b)(A:R[k]? =some r){t a:Nat}(B:H b=some (.lst (uO r t)))(w:List Str)(f:H a=none): xA (upd (upd H a (.lst (w.map V.str))) b (.lst (uO r a))) j d (Bk.xR R k λr=>{r with copies:=w})/\aQ8 j d d H (upd (upd H a (.lst (w.map V.str))) b (.lst (uO r a))):=by
 have m:=yG f (.lst (w.map V.str));have v:=h.same m;refine⟨v.upd p A (λr=>{r with copies:=w}) yB,λx o n e=>?_,λc i=> .inl i,λs u e n c i l g=>?_⟩
 ·rw[yI (λz=>n (bYt _ (by rw[z];exact bYz p)))];exact m _ _ e
 ·by_cases z:c=b
  ·subst z;rw[yB]at g;cases g;intro y;have:a=s:=by injection y with y;injection y
   rw[<- this,f]at e;cases e
  ·rw[yI z]at g;obtain⟨o,q⟩:=h.dom c i;rw[m _ _ q]at g;exact n c i l (by rw[q];exact g)
def Y6(e:xN)(m:Int):Prop:=e= .loose m\/(∃d,e= .date m d)\/(∃t,e= .term m t)\/(∃w,e= .copy m w)\/(∃w,e= .file m w)\/e= .void m
def bQP:Sp:=λh H Q _=>∃ (d f:Nat)(b:List Nat)(R:Rows)(e:xN)(m:Int),h= [.ref d,.ref f]/\H f=some (.tup (xH e))/\Y6 e m/\xA H d b R/\R.length<=60/\Bk.Y3 R/\(∀r∈R,r.copies.length<=1000)/\
 ∀ (c:Hp)(a:Ans)(v:V)(g:Rows),aQ8 d b b H c->xA c d b g->(∀S,xW R S e a g S)->vI [] c a v->uP H v->Q v c
theorem Y6.at1{e:xN}{m:Int}(h:Y6 e m):(xH e)[1]? =some (.int m):=by
 rcases h with rfl|⟨d,rfl⟩|⟨d,rfl⟩|⟨d,rfl⟩|⟨d,rfl⟩|rfl<;> rfl
theorem Y6.no{e:xN}{m:Int}{R:Rows}(h:Y6 e m)(g:Bk.wI R m=false)(S:List Int):xW R S e (.txt "no letter") R S:=by
 refine .oneN g ?_;rcases h with rfl|⟨d,rfl⟩|⟨d,rfl⟩|⟨d,rfl⟩|⟨d,rfl⟩|rfl<;> simp
section
variable {K:bYj}
theorem bVQ:yN ["_law_rows","_law_deed","_law_one","_law_numbers","_law_k","_law_row"] ["_law_rows","_law_deed"] (yH bVB):=scM
theorem bVf(T:vJ mg)(W:FnG P w K mg base 2 "_law_good" ["_law_rows","_law_number"] W9)(L:FnG P w K mg base 2 "_law_dated" ["_law_rows","_law_number","_law_date"] bQD)(U:FnG P w K mg base 2 "_law_lost" ["_law_rows","_law_number"] bJj) (G:FnG P w K mg base 2 "_law_family" ["_law_rows","_law_number"] aQb) (F:Fun K "_law_with_one" "_law_with_one" bVB f fd):xE P w K mg base CX0 3 f fd ["_law_rows","_law_deed"] bQP:=by
 have sc:=bVQ;refine F.ok (k:=2) sc (λc5 A outer s H vs Q E hr h=>?_);obtain⟨X,l,Z,R,e,m,rfl,n,C,y,hR,b0,a6,q⟩:=h;refine⟨_,(yC (y7 (vF (xX (xJ W hr rfl (yA (pv 0) (yA (yL yX (pv 1) yE) yD))))) (yF (yP yR)) yS) (yC (yU (i:=2) (yL yK (pv 0) (yL yX (pv 1) yE))) (yC (y7 (yM zF (yL yX (pv 1) yE) yR) (yF (yP (xJ L hr rfl (yA (pv 0) (yA (yL yX (pv 1) yE) (yA (yL yX (pv 1) yE) yD)))))) yS) (yC (y7 (yM zF (yL yX (pv 1) yE) yR) (yF (yP (xJ U hr rfl (yA (pv 0) (yA (yL yX (pv 1) yE) yD))))) yS) (yC (y7 (yM zF (yL yX (pv 1) yE) yR) (yC (y7 (yM aXr (yL yK (pv 2) yE) x3) (yF (yP yR)) yS) (yC (vE x3 (qC (pv 2) yE zT)) (yF (yP yR)))) yS) (yC (y7 (yM zF (yL yX (pv 1) yE) yR) (yC (y7 (yM vL (yL yX (pv 1) yE) yE) (yF (yP yR)) yS) (yC (vE (yL yX (pv 1) yE) (qC (pv 2) yE zT)) (yF (yP yR)))) yS) (yC (y7 (yM zF (yL yX (pv 1) yE) yR) (yC (y7 (PW.pt (jV (yM zF (yL yX (pv 1) yE) (yL yK (pv 2) yE)) (vT (yM vD (yL yX (pv 1) yE) (yL yK (pv 2) yE))))) (yF (yP yR)) yS) (yC (vE (yV aZS (yL yK (pv 2) yE) (y6 (yA (yL yX (pv 1) yE) yD))) (qC (pv 2) yE zT)) (yF (yP (yQ yO rfl T.b_len xB (yA (yL yK (pv 2) yE) yD)))))) yS) (yC (yU (i:=3) (xJ G hr rfl (yA (pv 0) (yA (yL yX (pv 1) yE) yD)))) (yC (zR bY5 rfl (xL (pv 3)) (y9 (i:=4)) (yC (yU (i:=5) (yL yK (pv 0) (pv 4))) (yF (vE (yL yX (pv 1) yE) (qC (pv 5) yE zT))))) (yF (yP (yQ yO rfl T.b_len xB (yA (pv 3) yD))))))))))))),?_⟩;have b9:aQ8 X Z Z H H:=(But.of y.dom (xC.refl _)).step;have txt:∀ {x:Str},(∀S,xW R S e (.txt x) R S)->Q (.str x) H:=λ{x} dn=>q H (.txt x) _ R b9 y dn rfl (λ_ z=>nomatch z);refine⟨_,rfl,_,rfl,l,_,1,_,rfl,rfl,SqT.of n,yT (j:=1) C.at1,X,Z,R,m,rfl,y,_,rfl,?_⟩;cases h1:Bk.wI R m with
 |false=>exact onT rfl (txt λS=>C.no h1 S)
 |true=>
 obtain⟨i,r,rfl,a3,u,D⟩:=Bk.wJ h1;obtain⟨b,g1,g2,cp,N,g4⟩:=y.get u;refine onF rfl ⟨_,rfl,_,rfl,l,_,1,_,rfl,rfl,SqT.of n,yT (j:=1) C.at1,X,_,_,_,rfl,rfl,SqL.of y.lst,yT g1,?_⟩;dsimp only[yW];have a4:∀j,r.link=some j->j<R.length:=λj hj=>by obtain⟨p,hp,_⟩:=b0.ans i j r u hj;exact(bYs.mp hp).1
 have up:∀ {x:Str} (g:Row->Row),(∀r,(g r).copies=r.copies)->(∀S,xW R S e (.txt x) (Bk.xR R i g) S)->Q (.str x) (upd H b (.lst (uO (g r) cp))):=λ{x} g hg dn=>
  q _ (.txt x) _ _ (But.upd (l':=uO (g r) cp) y.dom g2 N rfl).step (y.upd g2 u g (by rw[hg];exact g4)) dn rfl (λ_ z=>nomatch z)
 rcases C with rfl|⟨d,rfl⟩|⟨t,rfl⟩|⟨o,rfl⟩|⟨Y,rfl⟩|rfl
 ·refine⟨_,rfl,l,_,0,_,rfl,rfl,SqT.of n,rfl,rfl,_,rfl,onF (by decide) ⟨_,rfl,l,_,0,_,rfl,rfl,SqT.of n,rfl,rfl,_,rfl,onF (by decide) ⟨_,rfl,l,_,0,_,rfl,rfl,SqT.of n,rfl,rfl,_,rfl,onT (by decide) ⟨_,rfl,b,_,4,_,rfl,rfl,SqL.of N,rfl,rfl,_,rfl,?_⟩⟩⟩⟩;cases a7:r.link with
  |none=>exact onT rfl (txt λS=> .looseN u D a7)
  |some j=>refine onF rfl ⟨_,rfl,b,_,4,4,rfl,rfl,N,rfl,?_⟩;exact up (λr=>{r with link:=none}) (λ_=>rfl) λS=> .loose u D (by rw[a7];simp)
 ·refine⟨_,rfl,l,_,0,_,rfl,rfl,SqT.of n,rfl,rfl,_,rfl,onT (by decide) ⟨_,rfl,_,rfl,l,_,1,_,rfl,rfl,SqT.of n,rfl,_,rfl,l,_,2,_,rfl,rfl,SqT.of n,rfl,X,Z,R,i,r,d,rfl,y,by omega,u,a4,λH' a R' J a1 O=>?_⟩⟩;refine q H' (.txt a) _ R' J.step a1 (λS=>?_) rfl (λ_ z=>nomatch z);rcases O with⟨he,rfl,rfl⟩|⟨he,rfl,rfl⟩
  ·exact .dateE u D he
  ·refine .date u D (λj hj=>?_) (λc O=>?_)
   ·exact Int.not_lt.mp λz=>he (.inl ⟨j,hj,z⟩)
   ·exact Int.not_lt.mp λz=>he (.inr ⟨c,O,z⟩)
 ·refine⟨_,rfl,l,_,0,_,rfl,rfl,SqT.of n,rfl,rfl,_,rfl,onF (by decide) ⟨_,rfl,l,_,0,_,rfl,rfl,SqT.of n,rfl,rfl,_,rfl,onF (by decide) ⟨_,rfl,l,_,0,_,rfl,rfl,SqT.of n,rfl,rfl,_,rfl,onF (by decide) ⟨_,rfl,l,_,0,_,rfl,rfl,SqT.of n,rfl,rfl,_,rfl,onT (by decide) ⟨_,rfl,l,_,2,_,rfl,rfl,SqT.of n,rfl,_,_,rfl,rfl,_,rfl,?_⟩⟩⟩⟩⟩;refine qA (λc=>?_) (λc=>?_)
  ·exact txt λS=> .termN u D (of_decide_eq_true c)
  ·refine⟨_,rfl,l,_,2,_,rfl,rfl,SqT.of n,rfl,_,rfl,b,_,3,3,rfl,rfl,N,rfl,?_⟩;exact up (λr=>{r with term:=t}) (λ_=>rfl) λS=> .term u D (by have:=of_decide_eq_false (Bool.eq_false_iff.mpr c);omega)
 ·refine⟨_,rfl,l,_,0,_,rfl,rfl,SqT.of n,rfl,rfl,_,rfl,onF (by decide) ⟨_,rfl,l,_,0,_,rfl,rfl,SqT.of n,rfl,rfl,_,rfl,onF (by decide) ⟨_,rfl,l,_,0,_,rfl,rfl,SqT.of n,rfl,rfl,_,rfl,onF (by decide) ⟨_,rfl,l,_,0,_,rfl,rfl,SqT.of n,rfl,rfl,_,rfl,onF (by decide) ⟨_,rfl,l,_,0,_,rfl,rfl,SqT.of n,rfl,rfl,_,rfl,onT (by decide) ⟨_,rfl,l,_,2,_,rfl,rfl,SqT.of n,rfl,_,rfl,b,_,2,_,rfl,rfl,SqL.of N,rfl,rfl,_,rfl,?_⟩⟩⟩⟩⟩⟩;rw[w8];cases a5:decide (o=r.partner)with
  |true=>exact onT rfl (onT rfl (txt λS=> .copyC u D (.inl (of_decide_eq_true a5))))
  |false=>
  refine onF rfl ⟨_,rfl,l,_,2,_,rfl,rfl,SqT.of n,rfl,_,rfl,b,_,7,_,rfl,rfl,SqL.of N,rfl,cp,_,rfl,.inl (SqL.of g4),rfl,cZn.mpr (λv D=>by obtain⟨x,_,rfl⟩:=cQm.mp D;rfl),?_⟩;rw[if_neg (by decide),wW];refine⟨_,rfl,?_⟩;cases a9:r.copies.contains o with
  |true=>exact onT rfl (txt λS=> .copyC u D (.inr (by simpa using a9)))
  |false=>
  have c1:r.copies.length<=1000:=a6 r (bYz u);refine onF rfl ⟨_,rfl,b,_,7,_,rfl,rfl,SqL.of N,rfl,_,rfl,l,_,2,_,rfl,rfl,SqT.of n,rfl,z1,λl1 b2=>?_⟩;have k1:=yG b2 (.lst [.str o]);refine⟨cp,l1,_,_,rfl,rfl,k1 _ _ g4,yB,by rw[bYl,bYQ];simp;omega,λc2 B=>?_⟩;have a0:=aJu (y.same k1) g2 u (k1 _ _ N) (r.copies++ [o]) B;have e5:r.copies.map V.str++ [V.str o]=(r.copies++ [o]).map V.str:=by simp
  rw[e5];have k2:=yG B (.lst ((r.copies++ [o]).map V.str));have b4:c2≠b:=λz=>by rw[z,k1 _ _ N]at B;cases B
  refine⟨_,rfl,b,_,7,7,rfl,rfl,k2 _ _ (k1 _ _ N),rfl,?_⟩;refine⟨_,rfl,b,_,7,_,rfl,rfl,SqL.of yB,rfl,c2,(r.copies++ [o]).map V.str,rfl,.inl (SqL.of (by rw[yI b4];exact yB)),?_⟩;have en:(((((r.copies++ [o]).map V.str).length:Nat)):Int)=(r.copies.length+1:Nat):=by simp
  rw[en];have hE:Bk.xR R i (λq=>{q with copies:=r.copies++ [o] })=Bk.xR R i (λq=>{q with copies:=q.copies++ [o] }):=by unfold Bk.xR;rw[u]
  rw[hE]at a0;exact q _ (.num _) _ _ (a0.2.pre y.dom k1) a0.1 (λS=> .copy u D (of_decide_eq_false a5) (by simpa using a9)) rfl (λ_ z=>nomatch z)
 ·obtain⟨rk,ok⟩:=b0.tree;refine⟨_,rfl,l,_,0,_,rfl,rfl,SqT.of n,rfl,rfl,_,rfl,onF (by decide) ⟨_,rfl,l,_,0,_,rfl,rfl,SqT.of n,rfl,rfl,_,rfl,onF (by decide) ⟨_,rfl,l,_,0,_,rfl,rfl,SqT.of n,rfl,rfl,_,rfl,onF (by decide) ⟨_,rfl,l,_,0,_,rfl,rfl,SqT.of n,rfl,rfl,_,rfl,onF (by decide) ⟨_,rfl,l,_,0,_,rfl,rfl,SqT.of n,rfl,rfl,_,rfl,onF (by decide) ⟨_,rfl,_,rfl,l,_,1,_,rfl,rfl,SqT.of n,rfl,X,Z,R.length,Bk.lk R,rk,Bk.dt R,i,rfl,y.rows,ok,hR,a3,λH2 l2 c0 k2 c3 a2 b8 a8=>?_⟩⟩⟩⟩⟩⟩;have b5:=Bk.aJh a3 ⟨rk,ok,b8,a8⟩;subst b5;dsimp only[yW];have b1:=y.same k2;have b6:H2 l=some (.tup [.str "file",.int (i:Nat),.str Y]):=k2 _ _ n;have b7:=y.tupNo n;refine⟨_,rfl,l2,rfl,⟨_,SqL.of a2⟩,?_⟩;refine zG (xs:=(Bk.thr R i).map λi=>V.int (i:Nat)) (λt σ H3=>∃o5 o6:Option V,σ= [some (.ref X),some (.ref l),some (.ref b),some (.ref l2),o5,o6]/\xA H3 X Z (Bk.laid R ((Bk.thr R i).take t) Y)/\But Z H2 H3/\H3 l2=some (.lst ((Bk.thr R i).map λi=>V.int (i:Nat)))) ?_ ?_ ?_ ?_
  ·exact⟨none,none,rfl,b1,But.of b1.dom (xC.refl _),a2⟩
  ·rintro t σ H3 ht ⟨o5,o6,rfl,I,k3,M⟩;exact SqL.of M
  ·rintro t x σ H3 hx ⟨o5,o6,rfl,I,k3,M⟩;rw[bYB]at hx;cases O:(Bk.thr R i)[t]? with
   |none=>rw[O]at hx;cases hx
   |some k=>rw[O]at hx;cases hx;have b3:k<R.length:=((a8 k).mp (bYz O)).1;obtain⟨bk,ck,c4,e1,e2,e3,e4,e5,e6⟩:=aVH (K:=K) I O b3 M;dsimp only[yW];refine⟨_,rfl,_,rfl,X,_,_,_,rfl,rfl,SqL.of I.lst,yT e1,?_⟩;dsimp only[yW];exact⟨_,rfl,l,_,2,_,rfl,rfl,SqT.of (k3.1 _ _ b7 b6),rfl,_,rfl,bk,_,5,5,rfl,rfl,e2,rfl,_,_,rfl,e3,k3.trans e4,e5⟩
  ·rintro σ H3 ⟨o5,o6,rfl,I,k3,M⟩;rw[bYl,cQe]at I;refine⟨_,rfl,l2,_,rfl,.inl (SqL.of M),?_⟩;rw[bYl];exact q _ (.num _) _ _ (((But.of y.dom k2).trans k3).step) I (λS=> .file u D) rfl (λ_ z=>nomatch z)
 ·refine⟨_,rfl,l,_,0,_,rfl,rfl,SqT.of n,rfl,rfl,_,rfl,onF (by decide) ⟨_,rfl,l,_,0,_,rfl,rfl,SqT.of n,rfl,rfl,_,rfl,onT (by decide) ⟨_,rfl,_,rfl,l,_,1,_,rfl,rfl,SqT.of n,rfl,X,Z,R,i,r,rfl,y,by omega,u,λH' a R' J a1 O=>?_⟩⟩⟩;refine q H' (.txt a) _ R' J.step a1 (λS=>?_) rfl (λ_ z=>nomatch z);rcases O with⟨he,rfl,rfl⟩|⟨he,rfl,rfl⟩
  ·exact .voidA u D he
  ·exact .void u D he
end
end Law
namespace Law
open PySem L2 PyProof.Rows
open Bk (Row Rows xW xN Ans)
open Desk (xH vI uP Wf wW stV)
abbrev bQe:Stmt:=xF "_law_told_of"
def aKE(e:xN):Prop:=(∃m,e= .state m)\/(∃m,e= .thread m)\/(∃m,e= .copies m)\/(∃w,e= .letters w)\/∃a d,e= .on a d
def bQM:Sp:=λh H Q _=>∃ (f d c:Nat)(g:List Nat)(R:Rows)(S:List Int)(e:xN),h= [.ref f,.ref d,.ref c]/\H c=some (.tup (xH e))/\aKE e/\xA H f g R/\H d=some (.lst (S.map V.int))/\R.length<=60/\Bk.Y3 R/\
 ∀ (b:Hp)(a:Ans)(v:V),xC H b->xW R S e a R S->vI [] b a v->uP H v->Q v b
theorem zY:bY2 "list"=some (.type "list"):=dk
theorem wV:bY2 "tuple"=some (.type "tuple"):=dk
section
variable {K:bYj}
theorem bVO:yN ["_law_rows","_law_shut","_law_deed","_law_here"] ["_law_rows","_law_shut","_law_deed"] (yH bQe):=scM
theorem bXs:xO ["_law_rows","_law_shut","_law_deed","_law_here"] (yH bQe) "_law_k" ["_law_rows"] [0] {kind:= .function,names:= [(".0",.local),("_law_k",.local),("_law_rows",.free)],isGenerator:=false,isCoroutine:=false,more:= [] }:=
 lcM
theorem bXt:xO ["_law_rows","_law_shut","_law_deed","_law_here"] (yH bQe) "_law_k" ["_law_deed","_law_rows"] [2,0] {kind:= .function,names:= [(".0",.local),("_law_k",.local),("_law_deed",.free),("_law_rows",.free)],isGenerator:=false,isCoroutine:=false,more:= [] }:=
 lcM
def Z7(R:Rows)(w:Str):V->Bool
 |.int n=>match R[n.toNat]? with|some r=>decide (r.place=w)|none=>false
 |_=>false
theorem bVd(T:vJ mg)(a0:mg "list"=none)(a3:mg "tuple"=none)(O:FnG P w K mg base 2 "_law_good" ["_law_rows","_law_number"] W9)(u:FnG P w K mg base 3 "_law_list_on" ["_law_rows","_law_shut","_law_date","_law_late"] aQc) (G:FnG P w K mg base 2 "_law_family" ["_law_rows","_law_number"] aQb) (F:Fun K "_law_told_of" "_law_told_of" bQe f fd):xE P w K mg base CX0 4 f fd ["_law_rows","_law_shut","_law_deed"] bQM:=by
 have sc:=bVO;refine F.ok (k:=3) sc (λc0 A outer s H vs Q E hr h=>?_);obtain⟨C,sa,g,X,R,S,e,rfl,y,a6,L,b2,hR,b3,q⟩:=h;have a5:vW 2 _:=hr.mono (by omega);refine⟨_,(yC (y7 (yM zF (yL yX (pv 2) yE) yR) (yC (aZY (i:=3) bXs rfl sc.nd rfl rfl (zJ rfl T.b_range (yA (yQ yO rfl T.b_len xB (yA (pv 0) yD)) yD)) (λ_ _ _ _ _=>(w6 (vF (xX (yL (show IxR _ (aZd K)from yK) (yL (show IxR _ (aZd K)from yK) (pv 1) (pv 0)) yE))))) (λ_ _ _ _ _=>(pv 0))) (yF (yP (aQF bXt rfl (xL (pv 3)) (λ_ _ _ _ _=>(w6 (yM zF (yL (show IxR _ (aZd K)from yK) (yL (show IxR _ (aZd K)from yK) (pv 2) (pv 0)) yE) (yL (show IxR _ (bJc K)from yX) (pv 1) yE)))) (λ_ _ _ _ _=>(pv 0)))))) yS) (yC (y7 (yM vD (yL yX (pv 2) yE) (y6 (yA yR (yA yR yD)))) (yF (yP (xJ u hr rfl (yA (pv 0) (yA (pv 1) (yA (yL yX (pv 2) yE) (yA (zP zF (yL yX (pv 2) yE) yR) yD))))))) yS) (yC (y7 (vF (xX (xJ O a5 rfl (yA (pv 0) (yA (yL yX (pv 2) yE) yD))))) (yF (yP yR)) yS) (yC (y7 (yM zF (yL yX (pv 2) yE) yR) (yF (yP (xJ G a5 rfl (yA (pv 0) (yA (yL yX (pv 2) yE) yD))))) yS) (yC (y7 (yM zF (yL yX (pv 2) yE) yR) (yF (yP (x2 uR rfl a0 zY (yA (yL yK (yL yK (pv 0) (yL yX (pv 2) yE)) yE) yD)))) yS) (yF (yP (x2 qT rfl a3 wV (yA (Q5 aX6 (yL yK (pv 0) (yL yX (pv 2) yE)) aJ0 (aQH yE)) yD))))))))),?_⟩;have txt:∀ {B:Hp} {x:Str},xC H B->xW R S e (.txt x) R S->Q (.str x) B:=λ{B x} k dn=>q B (.txt x) _ k dn rfl (λ_ z=>nomatch z);have one:∀ {m:Int} {x:Str},xH e= [.str x,.int m]->True:=λ_=>trivial;rcases a6 with⟨m,rfl⟩|⟨m,rfl⟩|⟨m,rfl⟩|⟨j,rfl⟩|⟨o,d,rfl⟩
 ·refine⟨_,rfl,g,_,0,_,rfl,rfl,SqT.of y,rfl,rfl,_,rfl,onF (by decide) ?_⟩;refine⟨_,rfl,g,_,0,_,rfl,rfl,SqT.of y,rfl,z2,λJ t=>⟨J,_,rfl,.inl (SqL.of yB),rfl,rfl,_,rfl,onF (by decide) ?_⟩⟩;have n:=yG t (.lst [.str "waiting",.str "overdue"]);generalize upd H J (.lst [.str "waiting",.str "overdue"])=H1 at n ⊢;have a:H1 g=some (.tup [.str "state",.int m]):=n _ _ y;have c:=L.same n;refine⟨_,rfl,_,rfl,g,_,1,_,rfl,rfl,SqT.of a,rfl,C,X,R,m,rfl,c,_,rfl,?_⟩;cases Y:Bk.wI R m with
  |false=>exact onT rfl (txt n (.oneN Y (by simp)))
  |true=>
  obtain⟨i,r,rfl,N,hi,W⟩:=Bk.wJ Y;obtain⟨b,g1,g2,cp,M,g4⟩:=c.get hi;refine onF rfl ⟨_,rfl,g,_,0,_,rfl,rfl,SqT.of a,rfl,rfl,_,rfl,onF (by decide) ⟨_,rfl,g,_,0,_,rfl,rfl,SqT.of a,rfl,rfl,_,rfl,onF (by decide) ?_⟩⟩;refine⟨_,rfl,_,rfl,g,_,1,_,rfl,rfl,SqT.of a,rfl,C,_,_,_,rfl,rfl,SqL.of c.lst,yT g1,_,rfl,b,_,rfl,SqL.of M,λp2 U=>⟨p2,_,rfl,.inl ⟨SqL.of yB,λp3 a4=>?_⟩⟩⟩;have b5:Z5 (uO r cp) none (some 6)=stV r:=by unfold stV Desk.Q0 Desk.X1;rw[W];cases a9:r.link<;> (unfold uO;rw[a9];rfl)
  have k2:=yG U (.lst (Z5 (uO r cp) none (some 6)));have k3:=yG a4 (.tup (Z5 (uO r cp) none (some 6)));exact q _ (.row r) _ ((n.trans k2).trans k3) (.state hi W) ⟨p3,rfl,by simp,by rw[<- b5];exact yB⟩ (.none ((n.trans k2).fresh a4))
 ·refine⟨_,rfl,g,_,0,_,rfl,rfl,SqT.of y,rfl,rfl,_,rfl,onF (by decide) ?_⟩;refine⟨_,rfl,g,_,0,_,rfl,rfl,SqT.of y,rfl,z2,λJ t=>⟨J,_,rfl,.inl (SqL.of yB),rfl,rfl,_,rfl,onF (by decide) ?_⟩⟩;have n:=yG t (.lst [.str "waiting",.str "overdue"]);generalize upd H J (.lst [.str "waiting",.str "overdue"])=H1 at n ⊢;have a:H1 g=some (.tup [.str "thread",.int m]):=n _ _ y;have c:=L.same n;refine⟨_,rfl,_,rfl,g,_,1,_,rfl,rfl,SqT.of a,rfl,C,X,R,m,rfl,c,_,rfl,?_⟩;cases Y:Bk.wI R m with
  |false=>exact onT rfl (txt n (.oneN Y (by simp)))
  |true=>
  obtain⟨i,r,rfl,N,hi,W⟩:=Bk.wJ Y;obtain⟨rk,ok⟩:=b3.tree;refine onF rfl ⟨_,rfl,g,_,0,_,rfl,rfl,SqT.of a,rfl,rfl,_,rfl,onT (by decide) ?_⟩;refine⟨_,rfl,_,rfl,g,_,1,_,rfl,rfl,SqT.of a,rfl,C,X,R.length,Bk.lk R,rk,Bk.dt R,i,rfl,c.rows,ok,hR,N,λH2 l2 b9 k2 b4 a7 b6 b0=>?_⟩;have b1:=Bk.aJh N ⟨rk,ok,b6,b0⟩;subst b1;exact q _ (.nums (Bk.thr R i)) _ (n.trans k2) (.thread hi W) ⟨l2,rfl,by simp,a7⟩ (.none (n.fresh b4))
 ·refine⟨_,rfl,g,_,0,_,rfl,rfl,SqT.of y,rfl,rfl,_,rfl,onF (by decide) ?_⟩;refine⟨_,rfl,g,_,0,_,rfl,rfl,SqT.of y,rfl,z2,λJ t=>⟨J,_,rfl,.inl (SqL.of yB),rfl,rfl,_,rfl,onF (by decide) ?_⟩⟩;have n:=yG t (.lst [.str "waiting",.str "overdue"]);generalize upd H J (.lst [.str "waiting",.str "overdue"])=H1 at n ⊢;have a:H1 g=some (.tup [.str "copies",.int m]):=n _ _ y;have c:=L.same n;refine⟨_,rfl,_,rfl,g,_,1,_,rfl,rfl,SqT.of a,rfl,C,X,R,m,rfl,c,_,rfl,?_⟩;cases Y:Bk.wI R m with
  |false=>exact onT rfl (txt n (.oneN Y (by simp)))
  |true=>
  obtain⟨i,r,rfl,N,hi,W⟩:=Bk.wJ Y;obtain⟨b,g1,g2,cp,M,g4⟩:=c.get hi;refine onF rfl ⟨_,rfl,g,_,0,_,rfl,rfl,SqT.of a,rfl,rfl,_,rfl,onF (by decide) ⟨_,rfl,g,_,0,_,rfl,rfl,SqT.of a,rfl,rfl,_,rfl,onT (by decide) ?_⟩⟩;refine⟨_,rfl,_,rfl,g,_,1,_,rfl,rfl,SqT.of a,rfl,C,_,_,_,rfl,rfl,SqL.of c.lst,yT g1,b,_,7,_,rfl,rfl,SqL.of M,rfl,cp,_,rfl,.inl (SqL.of g4),λp2 U=>?_⟩;have k2:=yG U (.lst (r.copies.map V.str));exact q _ (.txts r.copies) _ (n.trans k2) (.copies hi W) ⟨p2,rfl,by simp,yB⟩ (.none (n.fresh U))
 ·have b7:H g=some (.tup [.str "letters",.str j]):=y;refine⟨_,rfl,g,_,0,_,rfl,rfl,SqT.of y,rfl,rfl,_,rfl,onT (by decide) ?_⟩;have hl:(X.map V.ref).length=R.length:=by rw[bYl];exact L.len
  refine⟨_,rfl,C,_,rfl,.inl (SqL.of L.lst),?_⟩;rw[hl];refine⟨_,rfl,by omega,by omega,λD hD=>?_⟩;rw[bYW];refine Q3 (λk=>match R[k]? with|some r=> !r.void|none=>false) (λk=>V.int (k:Nat)) hD (by rw[bYQ];omega) (λk I B R' Z p=>?_) (λk I _ B R' Z p=>⟨_,rfl,p⟩) ?_
  ·obtain⟨b,g1,g2,cp,M,g4⟩:=L.get (bYg I);have a2:B C=some (.lst (X.map V.ref)):=by rw[Z C (yJ L.lst hD)];exact L.lst
   have hb:B b=_:=(Z b (yJ M hD)).trans M;rw[bYg I]at p;exact⟨_,rfl,_,rfl,C,_,_,_,rfl,rfl,SqL.of a2,yT g1,b,_,6,_,rfl,rfl,SqL.of hb,rfl,_,rfl,p⟩
  have k1:=yG hD (.lst (((bYu R.length).filter λk=>match R[k]? with|some r=> !r.void|none=>false).map λk=>V.int (k:Nat)));have a1:upd H D (.lst (((bYu R.length).filter λk=>match R[k]? with|some r=> !r.void|none=>false).map λk=>V.int (k:Nat))) D=some (.lst (((bYu R.length).filter λk=>match R[k]? with|some r=> !r.void|none=>false).map λk=>V.int (k:Nat))):=yB;generalize upd H D (.lst (((bYu R.length).filter λk=>match R[k]? with|some r=> !r.void|none=>false).map λk=>V.int (k:Nat)))=H1 at k1 a1 ⊢;have c:=L.same k1;have a:=k1 _ _ b7;dsimp only[yW];refine⟨_,rfl,D,rfl,⟨_,SqL.of a1⟩,λE hE=>?_⟩;refine aZJ (Z7 R j) id (SqL.of a1) hE ?_ (λv W B R' Z p=>?_) (λv W _ B R' Z p=>⟨_,rfl,p⟩) ?_
  ·rw[bYl,bYQ];have:=cQh (λk=>match R[k]? with|some r=> !r.void|none=>false) (bYu R.length);rw[cQa]at this;omega
  ·obtain⟨k,I,rfl⟩:=cQm.mp W;have I:k<R.length:=bYS.mp (cQo.mp I).1;obtain⟨b,g1,g2,cp,M,g4⟩:=c.get (bYg I);have a2:B C=some (.lst (X.map V.ref)):=by rw[Z C (yJ c.lst hE)];exact c.lst
   have hb:B b=_:=(Z b (yJ M hE)).trans M;have b8:B g=_:=(Z g (yJ a hE)).trans a;have e1:Z7 R j (V.int (k:Nat))=decide (R[k].place=j):=by show(match R[((k:Nat):Int).toNat]? with|some r=>decide (r.place=j)|none=>false)=_;rw[bYW,bYg I]
   rw[e1]at p;refine⟨_,rfl,_,rfl,C,_,_,_,rfl,rfl,SqL.of a2,yT g1,b,_,5,_,rfl,rfl,SqL.of hb,rfl,_,rfl,g,_,1,_,rfl,rfl,SqT.of b8,rfl,rfl,_,rfl,?_⟩;rw[w8];exact p
  ·have ef:(((((bYu R.length).filter λk=>match R[k]? with|some r=> !r.void|none=>false).map λk=>V.int (k:Nat)).filter (Z7 R j)).map id)=((bYu R.length).filter λk=>match R[k]? with|some r=> !r.void && decide (r.place=j)|none=>false).map λk=>V.int (k:Nat):=by
    rw[List.map_id,List.filter_map,List.filter_filter];congr 1;refine cJr λk I=>?_;have I:k<R.length:=bYS.mp I;show(Z7 R j (V.int (k:Nat)) && _)=_;show((match R[((k:Nat):Int).toNat]? with|some r=>decide (r.place=j)|none=>false) && _)=_;rw[bYW,bYg I];exact Bool.and_comm _ _
   rw[ef];exact q _ (.nums _) _ (k1.trans (yG hE _)) .letters ⟨E,rfl,by simp,yB⟩ (.none (k1.fresh hE))
 ·refine⟨_,rfl,g,_,0,_,rfl,rfl,SqT.of y,rfl,rfl,_,rfl,onF (by cases o<;> decide) ?_⟩;refine⟨_,rfl,g,_,0,_,rfl,rfl,SqT.of y,rfl,z2,λJ t=>⟨J,_,rfl,.inl (SqL.of yB),rfl,rfl,_,rfl,onT (by cases o<;> decide) ?_⟩⟩;have n:=yG t (.lst [.str "waiting",.str "overdue"]);generalize upd H J (.lst [.str "waiting",.str "overdue"])=H1 at n ⊢;have a:H1 g=some (.tup [.str (if o then "overdue" else "waiting"),.int d]):=n _ _ y;have c:=L.same n;have e1:decide (V.str (if o then "overdue" else "waiting")=V.str "overdue")=o:=by cases o<;> decide
  refine⟨_,rfl,_,rfl,_,rfl,g,_,1,_,rfl,rfl,SqT.of a,rfl,_,rfl,g,_,0,_,rfl,rfl,SqT.of a,rfl,rfl,?_⟩;rw[e1];refine⟨C,sa,X,R,S,d,o,rfl,c,n _ _ b2,by omega,λr B l k nl hl a8=>?_⟩;exact q _ (.nums l) _ (n.trans k) (.on a8) ⟨r,rfl,by simp,hl⟩ (.none (n.fresh nl))
end
end Law
namespace Law
open PySem L2 PyProof.Rows
open Bk (Row Rows xW xN Ans)
open Desk (xH vI uP Wf wW stV)
abbrev bVq:Stmt:=xF "_law_done_by"
structure LBk(H:Hp)(ra sa:Nat)(rs:List Nat)(R:Rows)(S:List Int):Prop where
 book:xA H ra rs R
 shut:H sa=some (.lst (S.map V.int))
 ne:sa≠ra
 no:sa∉rs
 noC:NoC rs H sa
def aZg(e sa:Nat)(c a:List Nat)(H d:Hp):Prop:=(∀x o,x≠sa->x≠e->x∉c->H x=some o->d x=some o)/\(∀b∈a,b∈c\/H b=none)/\∀s u,H s=some u->NoC c H s->NoC a d s
theorem LBk.same{H b:Hp}{c sa:Nat}{a:List Nat}{R:Rows}{S:List Int}(h:LBk H c sa a R S)(k:xC H b):LBk b c sa a R S:=
 ⟨h.book.same k,k _ _ h.shut,h.ne,h.no,(But.of h.book.dom k).2.2 sa _ h.shut h.noC⟩
theorem LBk.step{H c:Hp}{b sa:Nat}{d a:List Nat}{R f:Rows}{S:List Int}(h:LBk H b sa d R S)(k:aQ8 b d a H c)(g:xA c b a f):LBk c b sa a f S/\aZg b sa d a H c:=
 ⟨⟨g,k.1 sa _ (λz=>(bYq.mp z).elim h.ne h.no) h.shut,h.ne,λz=>(k.2.1 sa z).elim h.no (λy=>by have:=h.shut;rw[y]at this;cases this),k.2.2 sa _ h.shut h.noC⟩,λx o _ j i e=>k.1 x o (λz=>(bYq.mp z).elim j i) e,k.2.1,k.2.2⟩
theorem LBk.put{H:Hp}{g sa:Nat}{f:List Nat}{R:Rows}{S:List Int}(h:LBk H g sa f R S)(d:Int):LBk (upd H sa (.lst ((S++ [d]).map V.int))) g sa f R (S++ [d])/\aZg g sa f f H (upd H sa (.lst ((S++ [d]).map V.int))):=by
 refine⟨⟨⟨by rw[yI (bY0 h.ne)];exact h.book.lst,h.book.len,h.book.nd,λi b r a q=>?_⟩,yB,h.ne,h.no,λb a l c=>?_⟩,λx o n _ _ e=>by rw[yI n];exact e,λb a=> .inl a,λs u e n b a l c=>n b a l (by rw[yI (λz=>h.no (by rw[<- z];exact a))]at c;exact c)⟩
 ·obtain⟨j,k,m⟩:=h.book.row i b r a q;have t:b≠sa:=λz=>h.no (by rw[<- z];exact bYz a);have p:j≠sa:=λz=>h.noC b (bYz a) _ k (by rw[<- z];rfl);exact⟨j,by rw[yI t];exact k,by rw[yI p];exact m⟩
 ·rw[yI (λz=>h.no (by rw[<- z];exact a))]at c;exact h.noC b a l c
def aXw:Sp:=λk H Q _=>∃ (f c g:Nat)(h:List Nat)(R:Rows)(S:List Int)(e:xN),k= [.ref f,.ref c,.ref g]/\H g=some (.tup (xH e))/\Wf e/\LBk H f c h R S/\R.length<=60/\S.length<=60/\Bk.Y3 R/\(∀r∈R,r.copies.length<=1000)/\
 ∀ (d:Hp)(a:Ans)(v:V)(j:Rows)(i:List Int)(b:List Nat),aZg f c h b H d->LBk d f c b j i->xW R S e a j i->vI [] d a v->uP H v->Q v d
theorem uP.pre{H a:Hp}(k:xC H a){v:V}(h:uP a v):uP H v:=λp e u b z=>h p e u b (k _ _ z)
theorem aZg.pre{d sa:Nat}{c a:List Nat}{H g f:Hp}(i:∀b∈c,∃o,H b=some o)(k:xC H g)(s:aZg d sa c a g f):aZg d sa c a H f:=
 ⟨λx o l j m e=>s.1 x o l j m (k _ _ e),λb h=>(s.2.1 b h).imp id λz=>k.fresh z,λx u e n=>s.2.2 x u (k _ _ e) ((But.of i k).2.2 x u e n)⟩
section
variable {K:bYj}
theorem bVD:yN ["_law_rows","_law_shut","_law_deed"] ["_law_rows","_law_shut","_law_deed"] (yH bVq):=scM
theorem bJ1(u:FnG P w K mg base 4 "_law_entered" ["_law_rows","_law_deed"] aQ0)(M:FnG P w K mg base 4 "_law_hung" ["_law_rows","_law_number","_law_goal"] bJi) (y:FnG P w K mg base 4 "_law_told_of" ["_law_rows","_law_shut","_law_deed"] bQM) (r:FnG P w K mg base 4 "_law_with_one" ["_law_rows","_law_deed"] bQP) (F:Fun K "_law_done_by" "_law_done_by" bVq f fd):xE P w K mg base CX0 5 f fd ["_law_rows","_law_shut","_law_deed"] aXw:=by
 have sc:=bVD;refine F.ok (k:=4) sc (λa5 A outer s H vs Q E hr h=>?_);obtain⟨O,sa,g,I,R,S,e,rfl,hd,a2,J,hR,hS,T,a0,q⟩:=h;refine⟨_,(yC (y7 (yM vD (yL yX (pv 2) yE) (y6 (yA yR (yA yR (yA yR yD))))) (yF (yP (xJ u hr rfl (yA (pv 0) (yA (pv 2) yD))))) yS) (yC (y7 (yM zF (yL yX (pv 2) yE) yR) (yF (yP (xJ M hr rfl (yA (pv 0) (yA (yL yX (pv 2) yE) (yA (yL yX (pv 2) yE) yD)))))) yS) (yC (y7 (yM zF (yL yX (pv 2) yE) yR) (yC (y7 (PW.pt (jV (yM aXg (yV y0 (yL yX (pv 2) yE) yE) yE) (vT (yM vD (yL yX (pv 2) yE) (pv 1))))) (yF (yP yR)) yS) (yC (yY (vM bYG bYN bYO xD (pv 1) (yA (yL yX (pv 2) yE) yD))) (yF (yP yR)))) yS) (yC (y7 (yM vD (yL yX (pv 2) yE) (y6 (yA yR (yA yR (yA yR (yA yR (yA yR (yA yR yD)))))))) (yF (yP (xJ y hr rfl (yA (pv 0) (yA (pv 1) (yA (pv 2) yD)))))) yS) (yF (yP (xJ r hr rfl (yA (pv 0) (yA (pv 2) yD))))))))),?_⟩;have h0:(xH e)[0]? =some (.str (Desk.aYa e)):=by cases e<;> rfl
 refine⟨_,rfl,g,_,0,_,rfl,rfl,SqT.of hd,yT (j:=0) h0,z3,λl0 a3=>⟨l0,_,rfl,.inl (SqL.of yB),rfl,rfl,_,rfl,?_⟩⟩;have n:=yG a3 (.lst [.str "in",.str "out",.str "reply"]);generalize upd H l0 (.lst [.str "in",.str "out",.str "reply"])=H1 at n ⊢;have c:=n _ _ hd;have p:=J.same n;have a1:((∃L d W t,e= .enter L d W t)\/∃m d t,e= .reply m d t)->aQ0 [.ref O,.ref g] H1 Q E0:=λhf=>by refine⟨O,g,I,R,e,rfl,c,a2,hf,p.book,hR,λX a v R' a4 st D U av nv=>?_⟩;have:=p.step st D;exact q X a v R' S a4 (this.2.pre J.book.dom n) this.1 (U S) av (uP.pre n nv)
 have one:∀ {N:Hp} {m:Int},xC H N->Y6 e m->bQP [.ref O,.ref g] N Q E0:=λ{N m} k hf=>by have C:=J.same k;refine⟨O,g,I,R,e,m,rfl,k _ _ hd,hf,C.book,hR,T,a0,λX a v R' st D U av nv=>?_⟩;have:=C.step st D;exact q X a v R' S I (this.2.pre J.book.dom k) this.1 (U S) av (uP.pre k nv)
 have G:∀ {N:Hp},xC H N->aKE e->bQM [.ref O,.ref sa,.ref g] N Q E0:=λ{N} k hf=>by have C:=J.same k;refine⟨O,sa,g,I,R,S,e,rfl,k _ _ hd,hf,C.book,C.shut,hR,T,λX a v k2 U av nv=>?_⟩;exact q X a v R S I ⟨λx o _ _ _ e=>k2 _ _ (k _ _ e),λb hb=> .inl hb,(But.of J.book.dom (k.trans k2)).2.2⟩ (C.same k2) U av (uP.pre k nv)
 cases e with
 |enter L d W t=>have Z:L="in"\/L="out":=a2;refine onT (by rcases Z with rfl|rfl<;> rfl) ⟨_,rfl,_,rfl,a1 (.inl ⟨_,_,_,_,rfl⟩)⟩
 |reply m d t=>exact onT rfl ⟨_,rfl,_,rfl,a1 (.inr ⟨_,_,_,rfl⟩)⟩
 |hang m o=>refine onF rfl ⟨_,rfl,g,_,0,_,rfl,rfl,SqT.of c,rfl,rfl,_,rfl,onT rfl ⟨_,rfl,_,rfl,g,_,1,_,rfl,rfl,SqT.of c,rfl,_,rfl,g,_,2,_,rfl,rfl,SqT.of c,rfl,?_⟩⟩;refine⟨O,I,R,m,o,rfl,p.book,hR,T.tree,λX a R' st D U=>?_⟩;have:=p.step st.step D;exact q X (.txt a) _ R' S I (this.2.pre J.book.dom n) this.1 (U S) rfl (λ_ z=>nomatch z)
 |shut d=>
  refine onF rfl ⟨_,rfl,g,_,0,_,rfl,rfl,SqT.of c,rfl,rfl,_,rfl,onF rfl ⟨_,rfl,g,_,0,_,rfl,rfl,SqT.of c,rfl,rfl,_,rfl,onT rfl ?_⟩⟩;refine⟨_,rfl,g,_,1,_,rfl,rfl,SqT.of c,rfl,_,_,rfl,rfl,(show(0:Int)<7 by decide),_,_,rfl,rfl,_,rfl,?_⟩;have no:Dm.cts S d=false->Q (.str "counts not") H1:=λh=>q H1 (.txt "counts not") _ R S I ⟨λx o _ _ _ e=>n _ _ e,λb hb=> .inl hb,(But.of J.book.dom n).2.2⟩ p (.shutN h) rfl (λ_ z=>nomatch z);cases h1:decide (d % 7 > 4)with
  |true=>exact onT rfl (onT rfl (no (by unfold Dm.cts Dm.opn;rw[decide_eq_false (by have:=of_decide_eq_true h1;omega)];rfl)))
  |false=>
  refine onF rfl ⟨_,rfl,g,_,1,_,rfl,rfl,SqT.of c,rfl,_,rfl,sa,_,rfl,.inl (SqL.of p.shut),rfl,cZn.mpr (λv hv=>by obtain⟨x,_,rfl⟩:=cQm.mp hv;rfl),?_⟩;rw[if_neg (by decide),jH];refine⟨_,rfl,?_⟩;cases h2:S.contains d with
  |true=>exact onT rfl (no (by unfold Dm.cts;rw[h2];simp))
  |false=>
  refine onF rfl ⟨_,rfl,.inl ⟨rfl,_,SqL.of p.shut⟩,_,rfl,g,_,1,_,rfl,rfl,SqT.of c,rfl,sa,_,_,rfl,rfl,p.shut,zlt (by rw[bYl];omega),?_⟩;have e5:S.map V.int++ [V.int d]=(S++ [d]).map V.int:=by simp
  rw[e5];have:=p.put d;exact q _ (.txt "shut") _ R (S++ [d]) I (this.2.pre J.book.dom n) this.1 (.shut (by unfold Dm.cts Dm.opn;rw[h2,decide_eq_true (by have:=of_decide_eq_false h1;omega)];rfl)) rfl (λ_ z=>nomatch z)
 |loose m=>exact onF rfl ⟨_,rfl,g,_,0,_,rfl,rfl,SqT.of c,rfl,rfl,_,rfl,onF rfl ⟨_,rfl,g,_,0,_,rfl,rfl,SqT.of c,rfl,rfl,_,rfl,onF rfl ⟨_,rfl,g,_,0,_,rfl,rfl,SqT.of c,rfl,zn (by show 6<=100000;omega),λl i=>⟨l,_,rfl,.inl (SqL.of yB),rfl,rfl,_,rfl,onF rfl ⟨_,rfl,_,rfl,one (n.trans (yG i _)) (.inl rfl)⟩⟩⟩⟩⟩
 |date m d=>exact onF rfl ⟨_,rfl,g,_,0,_,rfl,rfl,SqT.of c,rfl,rfl,_,rfl,onF rfl ⟨_,rfl,g,_,0,_,rfl,rfl,SqT.of c,rfl,rfl,_,rfl,onF rfl ⟨_,rfl,g,_,0,_,rfl,rfl,SqT.of c,rfl,zn (by show 6<=100000;omega),λl i=>⟨l,_,rfl,.inl (SqL.of yB),rfl,rfl,_,rfl,onF rfl ⟨_,rfl,_,rfl,one (n.trans (yG i _)) (.inr (.inl ⟨_,rfl⟩))⟩⟩⟩⟩⟩
 |term m t=>exact onF rfl ⟨_,rfl,g,_,0,_,rfl,rfl,SqT.of c,rfl,rfl,_,rfl,onF rfl ⟨_,rfl,g,_,0,_,rfl,rfl,SqT.of c,rfl,rfl,_,rfl,onF rfl ⟨_,rfl,g,_,0,_,rfl,rfl,SqT.of c,rfl,zn (by show 6<=100000;omega),λl i=>⟨l,_,rfl,.inl (SqL.of yB),rfl,rfl,_,rfl,onF rfl ⟨_,rfl,_,rfl,one (n.trans (yG i _)) (.inr (.inr (.inl ⟨_,rfl⟩)))⟩⟩⟩⟩⟩
 |copy m W=>exact onF rfl ⟨_,rfl,g,_,0,_,rfl,rfl,SqT.of c,rfl,rfl,_,rfl,onF rfl ⟨_,rfl,g,_,0,_,rfl,rfl,SqT.of c,rfl,rfl,_,rfl,onF rfl ⟨_,rfl,g,_,0,_,rfl,rfl,SqT.of c,rfl,zn (by show 6<=100000;omega),λl i=>⟨l,_,rfl,.inl (SqL.of yB),rfl,rfl,_,rfl,onF rfl ⟨_,rfl,_,rfl,one (n.trans (yG i _)) (.inr (.inr (.inr (.inl ⟨_,rfl⟩))))⟩⟩⟩⟩⟩
 |file m Y=>exact onF rfl ⟨_,rfl,g,_,0,_,rfl,rfl,SqT.of c,rfl,rfl,_,rfl,onF rfl ⟨_,rfl,g,_,0,_,rfl,rfl,SqT.of c,rfl,rfl,_,rfl,onF rfl ⟨_,rfl,g,_,0,_,rfl,rfl,SqT.of c,rfl,zn (by show 6<=100000;omega),λl i=>⟨l,_,rfl,.inl (SqL.of yB),rfl,rfl,_,rfl,onF rfl ⟨_,rfl,_,rfl,one (n.trans (yG i _)) (.inr (.inr (.inr (.inr (.inl ⟨_,rfl⟩)))))⟩⟩⟩⟩⟩
 |void m=>exact onF rfl ⟨_,rfl,g,_,0,_,rfl,rfl,SqT.of c,rfl,rfl,_,rfl,onF rfl ⟨_,rfl,g,_,0,_,rfl,rfl,SqT.of c,rfl,rfl,_,rfl,onF rfl ⟨_,rfl,g,_,0,_,rfl,rfl,SqT.of c,rfl,zn (by show 6<=100000;omega),λl i=>⟨l,_,rfl,.inl (SqL.of yB),rfl,rfl,_,rfl,onF rfl ⟨_,rfl,_,rfl,one (n.trans (yG i _)) (.inr (.inr (.inr (.inr (.inr rfl)))))⟩⟩⟩⟩⟩
 |state m=>exact onF rfl ⟨_,rfl,g,_,0,_,rfl,rfl,SqT.of c,rfl,rfl,_,rfl,onF rfl ⟨_,rfl,g,_,0,_,rfl,rfl,SqT.of c,rfl,rfl,_,rfl,onF rfl ⟨_,rfl,g,_,0,_,rfl,rfl,SqT.of c,rfl,zn (by show 6<=100000;omega),λl i=>⟨l,_,rfl,.inl (SqL.of yB),rfl,rfl,_,rfl,onT rfl ⟨_,rfl,_,rfl,_,rfl,G (n.trans (yG i _)) (.inl ⟨_,rfl⟩)⟩⟩⟩⟩⟩
 |thread m=>exact onF rfl ⟨_,rfl,g,_,0,_,rfl,rfl,SqT.of c,rfl,rfl,_,rfl,onF rfl ⟨_,rfl,g,_,0,_,rfl,rfl,SqT.of c,rfl,rfl,_,rfl,onF rfl ⟨_,rfl,g,_,0,_,rfl,rfl,SqT.of c,rfl,zn (by show 6<=100000;omega),λl i=>⟨l,_,rfl,.inl (SqL.of yB),rfl,rfl,_,rfl,onT rfl ⟨_,rfl,_,rfl,_,rfl,G (n.trans (yG i _)) (.inr (.inl ⟨_,rfl⟩))⟩⟩⟩⟩⟩
 |copies m=>exact onF rfl ⟨_,rfl,g,_,0,_,rfl,rfl,SqT.of c,rfl,rfl,_,rfl,onF rfl ⟨_,rfl,g,_,0,_,rfl,rfl,SqT.of c,rfl,rfl,_,rfl,onF rfl ⟨_,rfl,g,_,0,_,rfl,rfl,SqT.of c,rfl,zn (by show 6<=100000;omega),λl i=>⟨l,_,rfl,.inl (SqL.of yB),rfl,rfl,_,rfl,onT rfl ⟨_,rfl,_,rfl,_,rfl,G (n.trans (yG i _)) (.inr (.inr (.inl ⟨_,rfl⟩)))⟩⟩⟩⟩⟩
 |letters Y=>exact onF rfl ⟨_,rfl,g,_,0,_,rfl,rfl,SqT.of c,rfl,rfl,_,rfl,onF rfl ⟨_,rfl,g,_,0,_,rfl,rfl,SqT.of c,rfl,rfl,_,rfl,onF rfl ⟨_,rfl,g,_,0,_,rfl,rfl,SqT.of c,rfl,zn (by show 6<=100000;omega),λl i=>⟨l,_,rfl,.inl (SqL.of yB),rfl,rfl,_,rfl,onT rfl ⟨_,rfl,_,rfl,_,rfl,G (n.trans (yG i _)) (.inr (.inr (.inr (.inl ⟨_,rfl⟩))))⟩⟩⟩⟩⟩
 |on B d=>exact onF (by cases B<;> rfl) ⟨_,rfl,g,_,0,_,rfl,rfl,SqT.of c,rfl,rfl,_,rfl,onF (by cases B<;> rfl) ⟨_,rfl,g,_,0,_,rfl,rfl,SqT.of c,rfl,rfl,_,rfl,onF (by cases B<;> rfl) ⟨_,rfl,g,_,0,_,rfl,rfl,SqT.of c,rfl,zn (by show 6<=100000;omega),λl i=>⟨l,_,rfl,.inl (SqL.of yB),rfl,rfl,_,rfl,onT (by cases B<;> rfl) ⟨_,rfl,_,rfl,_,rfl,G (n.trans (yG i _)) (.inr (.inr (.inr (.inr ⟨_,_,rfl⟩))))⟩⟩⟩⟩⟩
end
end Law
namespace Desk
open PySem L2 PyProof.Rows
open Bk (Row Rows xN Ans xW)
open Thr (wD vZ qV)
def zD(H:Hp)(ds:Nat)(a:List Nat)(b:List xN):Prop:=H ds=some (.lst (a.map V.ref))/\a.length=b.length/\∀ (i:Nat)(d:Nat)(e:xN),a[i]? =some d->b[i]? =some e->H d=some (.tup (xH e))
theorem zD.same{H c:Hp}{ds:Nat}{a:List Nat}{b:List xN}(h:zD H ds a b)(k:xZ H c):zD c ds a b:=⟨k.lst h.1,h.2.1,λi d e f g=>k.tup (h.2.2 i d e f g)⟩
theorem vI.kept{o b:List Nat}{H d:Hp}{a:Ans}{v:V}(h:vI o H a v)(k:Y5 o H d)(g:qO H o b):vI b d a v:=by
 have c:∀p u,p∉o->H p=some u->p∉b:=λp u n e z=>by
  rcases g p z with q|q
  ·exact n q
  ·rw[q]at e;cases e
 cases a with
 |num n=>exact h
 |txt x=>exact h
 |nums l=>obtain⟨p,e,n,q⟩:=h;exact⟨p,e,c p _ n q,k _ _ n (by intro _ z;cases z) q⟩
 |txts l=>obtain⟨p,e,n,q⟩:=h;exact⟨p,e,c p _ n q,k _ _ n (by intro _ z;cases z) q⟩
 |row r=>obtain⟨p,e,n,q⟩:=h;exact⟨p,e,c p _ n q,k _ _ n (by intro _ z;cases z) q⟩
theorem vI.bare{o:List Nat}{H:Hp}{a:Ans}{v:V}(h:vI o H a v):vI [] H a v:=by
 cases a with
 |num n=>exact h
 |txt x=>exact h
 |nums l=>obtain⟨p,e,n,q⟩:=h;exact⟨p,e,by simp,q⟩
 |txts l=>obtain⟨p,e,n,q⟩:=h;exact⟨p,e,by simp,q⟩
 |row r=>obtain⟨p,e,n,q⟩:=h;exact⟨p,e,by simp,q⟩
theorem vI.more{o:List Nat}{D:Nat}{H:Hp}{a:Ans}{v:V}(h:vI o H a v)(n:∀p,v= .ref p->p≠D):vI (D::o) H a v:=by
 have b:∀p,v= .ref p->p∉o->p∉D::o:=λp e q z=>(bYq.mp z).elim (n p e) q;cases a with
 |num n=>exact h
 |txt x=>exact h
 |nums l=>obtain⟨p,e,q⟩:=h;exact⟨p,e,b p e q.1,q.2⟩
 |txts l=>obtain⟨p,e,q⟩:=h;exact⟨p,e,b p e q.1,q.2⟩
 |row r=>obtain⟨p,e,q⟩:=h;exact⟨p,e,b p e q.1,q.2⟩
def xY(H:Hp)(r:Row)(v:V):Prop:=if r.void then v= .str "void" else ∃p,v= .ref p/\H p=some (.tup (stV r))
theorem xY.same{H a:Hp}{r:Row}{v:V}(h:xY H r v)(k:xZ H a):xY a r v:=by
 unfold xY at h ⊢;split
 ·rename_i e;rw[if_pos e]at h;exact h
 ·rename_i e;rw[if_neg e]at h;obtain⟨p,e,q⟩:=h;exact⟨p,e,k.tup q⟩
structure J7(H0:Hp)(CB CL T:Nat)(ba:Nat)(es:List xN)(as:List Ans)(H:Hp)(o:List Nat):Prop where
 ex:∃ (la sa:Nat)(ls cs:List Nat)(R:Rows)(S:List Int),o=own la sa ls cs/\PB CB CL H ba la sa ls cs R S/\Up es.length R S/\Bk.Y3 R/\Run [] [] es as R S
 tab:wD T H
 keep:xZ H0 H
 new:∀b∈o,∀u,(∀ps,u≠HO.tbl ps)->H0 b≠some u
def u4(Rf:Nat×Nat):Sp:=λd H Q _=>∃ (i:Nat)(f:List Nat)(c:List xN),d= [.ref i]/\zD H i f c/\c.length<60/\(∀e∈c,Wf e)/\wD Rf.2 H/\
 ∀ (l:Nat)(b:Hp)(d:List V)(h:List Ans)(g:Rows)(j:List Int),xZ H b->wD Rf.2 b->Run [] [] c h g j->Bk.Y3 g->b l=some (.lst d)->bY6 (λv a=>vI [] b a v) d h->Q (.ref l) b
def aWe(e CL:Nat):Sp:=λb H Q _=>∃ (c d h:Nat)(f g:List Nat)(R:Rows)(S:List Int),b= [.ref c]/\PB e CL H c d h f g R S/\R.length<64/\
 ∀ (l:Nat)(a:Hp)(b:List V),xC H a->a l=some (.lst b)->bY6 (λv r=>xY a r v) b R->Q (.ref l) a
def v5(Rf:Nat×Nat):Sp:=λc H Q _=>∃ (g:Nat)(d:List Nat)(b:List xN),c= [.ref g]/\zD H g d b/\b.length<60/\(∀e∈b,Wf e)/\wD Rf.2 H/\
 ∀ (l:Nat)(a:Hp)(c:List V)(i:List Ans)(f:Rows)(h:List Int),xZ H a->wD Rf.2 a->Run [] [] b i f h->Bk.Y3 f->a l=some (.lst c)->bY6 (λv r=>xY a r v) c f->Q (.ref l) a
theorem jP{T:Nat}{H a:Hp}(t:wD T H)(k:xC H a):wD T a:=(aKD.of k).2 t
theorem J7.start{H:Hp}{n CL T x dx la sa:Nat}{l a:Hp}(tb:wD T H)(q:H x=none)(d:H dx=none)(w:dx≠x)(v:l=upd (upd H dx (.own x)) x (.ins n dx []))(j:l la=none)(f:l sa=none)(p:la≠sa) (A:a x=some (.ins n dx [("letters",.ref la),("shut",.ref sa)])) (D:a la=some (.lst [])) (B:a sa=some (.lst [])) (C:∀b,b≠x->b≠la->b≠sa->a b=l b):J7 H n CL T x [] [] a (own la sa [] [])/\xC H a:=by
 have m:∀b,l b=none->H b=none:=λb e=>by
  subst v;by_cases z:b=x
  ·rw[z];exact q
  ·rw[yI z]at e;by_cases z2:b=dx
   ·rw[z2];exact d
   ·rw[yI z2]at e;exact e
 have k:xC H a:=λb o e=>by have b1:=yJ e q;have E:=yJ e d;rw[C b b1 (yJ e (m _ j)) (yJ e (m _ f)),v,yI b1,yI E];exact e
 refine⟨⟨⟨la,sa,[],[],[],[],rfl,⟨⟨dx,A⟩,D,B,rfl,rfl,.nil,.nil,p,by simp,by simp,λi b c r e=>by simp at e⟩,⟨bYo _,bYo _,λr h=>by simp at h⟩,Bk.aXA,.nil⟩,jP tb k,k.t,λb g u _ z=>?_⟩,k⟩;have s:H b=none->False:=λy=>by rw[y]at z;cases z
 rcases bYq.mp g with e|g
 ·exact s (by rw[e];exact m _ j)
 rcases bYq.mp g with e|g
 ·exact s (by rw[e];exact m _ f)
 ·simp at g
theorem J7.step{F:Hp}{n CL T l:Nat}{p:List xN}{C:List Ans}{H:Hp}{o:List Nat}{e:xN}(g:J7 F n CL T l p C H o)(hw:Wf e)(hz:p.length<60){s:Nat}(G:H s=some (.tup (xH e))){Q:VK}{Rf:Nat×Nat}(N:Rf.2=T) (q:∀ (a:Ans)(v:V)(h:Hp)(x:List Nat),J7 F n CL T l (p++ [e]) (C++ [a]) h x->vI x h a v->uP H v->Y5 o H h->qO H o x->Q v h):aQa Rf n CL [.ref l,.ref s] H Q E0:=by
 subst N;obtain⟨D,B,Y,I,R,S,rfl,J,E,j,i⟩:=g.ex;refine⟨l,s,D,B,Y,I,R,S,e,rfl,hw,G,J,E.sz (by omega),j,g.tab,λa K L v h r m c y k A W M X=>?_⟩;refine q a v h _ ⟨⟨D,B,r,m,K,L,rfl,y,?_,Bk.xW.book j ?_ c,.snoc i c⟩,W,λb u f e=>k b u (λz=>g.new b z u f e) f (g.keep b u f e),λb U u f z0=>?_⟩ M X k A
 ·rw[bYE,cQt];exact E.done c
 ·intro P d w t O;subst O;exact hw
 ·rcases A b U with z|z
  ·exact g.new b z u f z0
  ·rw[g.keep b u f z0]at z;cases z
theorem J7.write{l:Hp}{p CL T v:Nat}{s:List xN}{x:List Ans}{H:Hp}{o:List Nat}(g:J7 l p CL T v s x H o){D:Nat}{xs ys:List V}(C:H D=some (.lst xs))(nD:D∉o)(h0:l D=none):J7 l p CL T v s x (upd H D (.lst ys)) o:=by
 have h:∀ {a u},H a=some u->(∀xs,u≠ .lst xs)->a≠D:=λq n z=>by rw[z,C]at q;cases q;exact n _ rfl
 obtain⟨I,F,M,B,R,S,rfl,d,K,k,f⟩:=g.ex;refine⟨⟨I,F,M,B,R,S,rfl,⟨?_,?_,?_,d.len,d.clen,d.nd,d.cnd,d.las,d.lac,d.sac,λi b c r E A G=>?_⟩,K,k,f⟩,?_,λb u J e=>?_,g.new⟩
 ·obtain⟨j,e⟩:=d.book;exact⟨j,by rw[yI (h e (by intro _ z;cases z))];exact e⟩
 ·rw[yI (λz=>nD (by rw[<- z];exact aVP))];exact d.lst
 ·rw[yI (λz=>nD (by rw[<- z];exact aYL))];exact d.sht
 ·obtain⟨⟨j,y⟩,L⟩:=d.row i b c r E A G;exact⟨⟨j,by rw[yI (h y (by intro _ z;cases z))];exact y⟩,by rw[yI (λz=>nD (by rw[<- z];exact bVh (bYz A)))];exact L⟩
 ·rcases g.tab with t|⟨N,m,w⟩
  ·exact .inl (by rw[yI (h t (by intro _ z;cases z))];exact t)
  ·exact .inr ⟨N,by rw[yI (h m (by intro _ z;cases z))];exact m,by rw[yI (h w (by intro _ z;cases z))];exact w⟩
 ·rw[yI (yJ e h0)];exact g.keep b u J e
section
variable {K:bYj}
abbrev Q6:Stmt:=xF "answers"
abbrev aQN:Stmt:=xF "standing"
abbrev aXZ:Stmt:=xI "Book" "standing_states"
theorem aKe:yN ["deeds","book"] ["deeds"] (yH Q6):=scM
theorem aWG:xO ["deeds","book"] (yH Q6) "deed" ["book"] [1] {kind:= .function,names:= [(".0",.local),("deed",.local),("answer",.globalImplicit),("book",.free)],isGenerator:=false,isCoroutine:=false,more:= [] }:=
 lcM
theorem jU{α β:Type}{F G:α->β->Prop}(h:∀a b,F a b->G a b):∀ {l:List α} {m:List β},bY6 F l m->bY6 G l m
 |_,_,.nil=> .nil
 |_,_,.cons r t=> .cons (h _ _ r) (jU h t)
theorem aWT(B:MkG P w K mg base n "Book" CB ["self"] (aVq CB))(j:FnG P w K mg base (n+1) "answer" ["book","deed"] (aQa Rf CB CL))(F:Fun K "answers" "answers" Q6 f fd): xE P w K mg base CX0 (n+2) f fd ["deeds"] (u4 Rf):=by
 have sc:=aKe;refine F.ok (k:=n+1) sc (λb6 A outer s H vs Q E hr h=>?_);obtain⟨ds,c,l,rfl,hD,b4,b3,tb,q⟩:=h;refine⟨_,(yC (yU (i:=1) (bZ9 B hr rfl)) (yF (yP (aQF aWG rfl (xL (pv 0)) (λ_ _ _ _ _=>wK) (λ_ _ _ _ _=>(xJ j hr rfl (yA (pv 1) (yA (pv 0) yD)))))))),?_⟩;intro x dx hx b1 a4;refine⟨x,dx,rfl,yB,λla sa H1 a6 a9 a3 h1 h2 h3 h4=>⟨rfl,?_⟩⟩;dsimp only[yW];obtain⟨g0,k0⟩:=J7.start (CL:=CL) tb hx b1 a4 rfl a6 a9 a3 h1 h2 h3 h4;have a5:=hD.same k0.t;refine⟨_,rfl,ds,rfl,⟨_,SqL.of a5.1⟩,λD d=>?_⟩;have b0:(c.map V.ref).length=l.length:=by rw[bYl];exact hD.2.1
 have a7:H D=none:=k0.fresh d;refine⟨λi m I Z=>m=l.length - i/\i<=l.length/\Z D=some (.lst I)/\∃ (as:List Ans)(o:List Nat),J7 H CB CL Rf.2 x (l.take i) as Z o/\D∉o/\bY6 (λv a=>vI (D::o) Z a v) I as,⟨l.length,by simp,cQf _,yB,[],own la sa [] [],?_,?_,.nil⟩,?_⟩
 ·have kD:=yG d (.lst []);obtain⟨M,N,J,L,R,S,e1,e2,e3,e4,T⟩:=g0.ex;exact⟨⟨M,N,J,L,R,S,e1,e2.same kD,e3,e4,T⟩,jP g0.tab kD,λb u nt e=>kD _ _ (g0.keep b u nt e),g0.new⟩
 ·intro z;rcases bYq.mp z with e|z
  ·rw[e,h2]at d;cases d
  rcases bYq.mp z with e|z
  ·rw[e,h3]at d;cases d
  ·simp at z
 ·rintro i m I Z ⟨rfl,hi,r,as,o,g,nD,hP⟩;have C:=hD.same g.keep;refine⟨r,?_⟩;by_cases G:i<l.length
  ·have a2:i<c.length:=by rw[hD.2.1];exact G
   have O:=bYg a2;have X:=bYg G;refine .inr ⟨⟨c.map V.ref,.ref c[i],SqL.of C.1,by rw[bYB,O];rfl⟩,λv H2 yl=>?_⟩;obtain⟨rfl,y⟩:=yl;have hv:(c.map V.ref)[i]? =some v:=y _ (SqL.of C.1);rw[bYB,O]at hv;cases hv;refine⟨_,rfl,_,rfl,?_⟩;refine g.step (b3 _ (cXm G)) (by rw[cQz];omega) (C.2.2 i _ _ O X) rfl λa v U W g3 av nv k3 gr=>?_;have a8:l.take (i+1)=l.take i++ [l[i]]:=by rw[cQj,X];rfl
   have b5:I.length<=i:=by obtain⟨M,N,J,L,R,S,e1,e2,e3,e4,T⟩:=g.ex;have:=T.len;rw[hP.length,<- this,cQz];omega
   have a0:U D=some (.lst I):=k3 _ _ nD (by intro _ z;cases z) r;have Y:D∉W:=λz=>by
    rcases gr D z with y|y
    ·exact nD y
    ·rw[r]at y;cases y
   refine⟨by rw[bYQ];omega,a0,l.length - (i+1),by omega,rfl,G,yB,as++ [a],W,?_,Y,?_⟩
   ·rw[a8];exact g3.write a0 Y a7
   ·have k4:Y5 (D::W) U (upd U D (.lst (I++ [v]))):=Y5.upd bYw _;have k5:Y5 (D::o) H2 U:=λb u nb nt e=>k3 b u (λz=>nb (bYt _ z)) nt e;have a1:qO H2 (D::o) (D::W):=λb hb=>by
     rcases bYq.mp hb with e|hb
     ·exact .inl (by rw[e];exact bYw)
     ·exact(gr b hb).imp (bYt _) id
    have b2:vI (D::W) U a v:=av.more λp e z=>by rw[z]at e;exact nv D e _ (by intro _ z;cases z) r
    exact Law.aXs (F:=λv' a'=>vI (D::W) (upd U D (.lst (I++ [v]))) a' v') (b2.kept k4 qO.refl) (jU (λv a (h:vI (D::o) H2 a v)=>(h.kept k5 a1).kept k4 qO.refl) hP)
  ·obtain rfl:i=l.length:=by omega
   obtain⟨M,N,J,L,R,S,e1,e2,e3,e4,T⟩:=g.ex;rw[cQe]at T;exact .inl ⟨⟨c.map V.ref,SqL.of C.1,by rw[b0];exact bYo _⟩,q D Z I as R S g.keep g.tab T e4 r (jU (λv a h=>h.bare) hP)⟩
theorem bQu:yN ["self"] ["self"] (yH aXZ):=scM
theorem aYg:xO ["self"] (yH aXZ) "letter" [] [] {kind:= .function,names:= [(".0",.local),("letter",.local)],isGenerator:=false,isCoroutine:=false,more:= [] }:=
 lcM
theorem aYH(cl:Cl K CB CL)(d:MG P w K mg base CX0 n CL "state" ["self"] (aVs CL))(F:Fun K "standing_states" "Book.standing_states" aXZ f fd):xE P w K mg base CX0 (n+1) f fd ["self"] (aWe CB CL):=by
 have sc:=bQu;refine F.ok (k:=n) sc (λa1 A outer s H vs Q E hr h=>?_);obtain⟨ba,la,sa,N,cs,R,S,rfl,L,hR,q⟩:=h;refine⟨_,(yF (yP (aQF aYg rfl (xL (y3 (pv 0) rfl)) (λ_ _ _ _ _=>wK) (λ_ _ _ _ _=>(aVS (xX (aQD (K:=K) (pv 0) rfl)) yR (bX2 d hr v0 (pv 0))))))),?_⟩;obtain⟨dx,hb⟩:=L.book;have hl:(N.map V.ref).length=R.length:=by rw[bYl];exact L.len
 refine⟨_,rfl,ba,CB,dx,_,_,rfl,hb,cl.b,cl.letters,rfl,la,rfl,⟨_,SqL.of L.lst⟩,λD Y=>?_⟩;refine⟨λi m a J=>m=R.length - i/\i<=R.length/\xC H J/\J D=some (.lst a)/\bY6 (λv r=>xY J r v) a (R.take i),⟨R.length,by simp,cQf _,yG Y _,yB,.nil⟩,?_⟩;rintro i m a J ⟨rfl,hi,O,x,M⟩;have o:=L.same O;refine⟨x,?_⟩;by_cases I:i<R.length
 ·have B:=bYg I;obtain⟨b,c,g1,g2,g3,⟨u,U⟩,g5⟩:=o.get B;refine .inr ⟨⟨N.map V.ref,.ref b,SqL.of o.lst,g1⟩,λv X yl=>?_⟩;obtain⟨rfl,y⟩:=yl;have G:(N.map V.ref)[i]? =some v:=y _ (SqL.of o.lst);rw[g1]at G;cases G;have T:R.take (i+1)=R.take i++ [R[i]]:=by rw[cQj,B];rfl
  have a0:a.length<=i:=by rw[M.length,cQz];omega
  refine⟨_,rfl,b,CL,u,_,_,rfl,U,cl.l,cl.void,rfl,_,rfl,?_⟩;have fin:∀ (v:V)(j:Hp),xC X j->xY j R[i] v->a.length<bYJ/\j D=some (.lst a)/\∃Z,Z<R.length - i/\(Z=R.length - (i+1)/\i+1<=R.length/\xC H (upd j D (.lst (a++ [v])))/\upd j D (.lst (a++ [v])) D=some (.lst (a++ [v]))/\bY6 (λg r=>xY (upd j D (.lst (a++ [v]))) r g) (a++ [v]) (R.take (i+1))):=λv j W sv=>by
   have C:=W _ _ x;have tu:∀ (g:V)(r:Row),xY j r g->xY (upd j D (.lst (a++ [v]))) r g:=λg r h=>by
    unfold xY at h ⊢;split
    ·rename_i e;rw[if_pos e]at h;exact h
    ·rename_i e;rw[if_neg e]at h;obtain⟨p,e,q⟩:=h;exact⟨p,e,by rw[yI (aXc q C (by intro z;cases z))];exact q⟩
   refine⟨by rw[bYQ];omega,C,R.length - (i+1),by omega,rfl,I,Law.aQ5 (O.trans W) Y,yB,?_⟩;rw[T];exact Law.aXs (F:=λg r=>xY (upd j D (.lst (a++ [v]))) r g) (tu _ _ sv) (jU (λg r (h:xY X r g)=>tu g r (h.same W.t)) M)
  cases G:R[i].void with
  |true=>exact onT rfl (fin _ _ (xC.refl _) (by unfold xY;rw[G];rfl))
  |false=>refine onF rfl ⟨_,rfl,b,u,_,rfl,U,rfl,b,i,_,c,rfl,⟨u,U⟩,λt ht=>?_⟩;exact fin _ _ (yG ht _) (by unfold xY;rw[G];exact⟨t,rfl,yB⟩)
 ·obtain rfl:i=R.length:=by omega
  rw[cQe]at M;exact .inl ⟨⟨N.map V.ref,SqL.of o.lst,by rw[hl];exact bYo _⟩,q D J a O x M⟩
theorem aVm:yN ["deeds","book","deed"] ["deeds"] (yH aQN):=scM
theorem aJV(d:MkG P w K mg base n "Book" CB ["self"] (aVq CB))(c:FnG P w K mg base (n+1) "answer" ["book","deed"] (aQa Rf CB CL))(b:MG P w K mg base CX0 (n+1) CB "standing_states" ["self"] (aWe CB CL)) (F:Fun K "standing" "standing" aQN f fd):xE P w K mg base CX0 (n+2) f fd ["deeds"] (v5 Rf):=by
 have sc:=aVm;refine F.ok (k:=n+1) sc (λa5 A outer s H vs Q E N h=>?_);obtain⟨ds,e,m,rfl,p,a4,a3,tb,q⟩:=h;refine⟨_,(yC (yU (i:=1) (bZ9 d N rfl)) (yC (zR bY5 rfl (xL (pv 0)) (y9 (i:=2)) (yF (yY (xJ c N rfl (yA (pv 1) (yA (pv 2) yD)))))) (yF (yP (bX2 b N v0 (pv 1)))))),?_⟩;intro x dx hx a2 L;refine⟨x,dx,rfl,yB,λla sa H1 O X G h1 h2 h3 h4=>⟨rfl,?_⟩⟩;dsimp only[yW];obtain⟨g0,k0⟩:=J7.start (CL:=CL) tb hx a2 L rfl O X G h1 h2 h3 h4;have M:=p.same k0.t;have y:(e.map V.ref).length=m.length:=by rw[bYl];exact p.2.1
 refine⟨_,rfl,ds,rfl,⟨_,SqL.of M.1⟩,?_⟩;refine zG (xs:=e.map V.ref) (λi σ D=>∃ (C:Option V)(B:List Ans)(o:List Nat),σ= [some (.ref ds),some (.ref x),C]/\J7 H CB CL Rf.2 x (m.take i) B D o) ?_ ?_ ?_ ?_
 ·exact⟨none,[],_,rfl,g0⟩
 ·rintro i σ D hi ⟨C,B,o,rfl,g⟩;exact SqL.of (p.same g.keep).1
 ·rintro i v σ D Y ⟨C,B,o,rfl,g⟩;have j:i<m.length:=by rw[<- y];exact(bYs.mp Y).1
  have z:=bYg (show i<e.length by rw[p.2.1];exact j);have u:=bYg j;rw[bYB,z]at Y;cases Y;have I:=p.same g.keep;have W:m.take (i+1)=m.take i++ [m[i]]:=by rw[cQj,u];rfl
  dsimp only[yW];refine⟨_,rfl,_,rfl,?_⟩;refine g.step (a3 _ (cXm j)) (by rw[cQz];omega) (I.2.2 i _ _ z u) rfl λa v H3 o' g3 av nv k3 gr=>?_;rw[<- W]at g3;exact⟨_,_,o',rfl,g3⟩
 ·rintro σ D ⟨C,B,o,rfl,g⟩;rw[y,cQe]at g;obtain⟨U,Z,J,T,R,S,e1,e2,e3,e4,e5⟩:=g.ex;obtain⟨a1,hb⟩:=e2.book;refine⟨_,rfl,x,a1,_,rfl,hb,rfl,x,U,Z,J,T,R,S,rfl,e2,by have:=e3.r;omega,λl H5 vs k5 a0 hP=>?_⟩;exact q l H5 vs B R S (g.keep.trans k5.t) (jP g.tab k5) e5 e4 a0 hP
end
end Desk
namespace Law
open PySem L2 PyProof.Rows
open Bk (Row Rows xW xN Ans)
open Desk (xH vI uP Wf Up Run zD jU)
structure LGo(H0:Hp)(ra sa:Nat)(es:List xN)(as:List Ans)(H:Hp)(rs:List Nat):Prop where
 ex:∃ (R:Rows)(S:List Int),LBk H ra sa rs R S/\Up es.length R S/\Bk.Y3 R/\Run [] [] es as R S
 keep:xC H0 H
 newR:H0 ra=none
 newS:H0 sa=none
 newB:∀b∈rs,H0 b=none
theorem LGo.same{f H h:Hp}{i sa:Nat}{d:List xN}{e:List Ans}{c:List Nat}(g:LGo f i sa d e H c)(k:xC H h):LGo f i sa d e h c:=
 ⟨let ⟨R,S,a,b⟩:=g.ex;⟨R,S,a.same k,b⟩,g.keep.trans k,g.newR,g.newS,g.newB⟩
theorem LGo.start{H:Hp}{a sa:Nat}(e:H a=none)(c:upd H a (.lst []) sa=none):LGo H a sa [] [] (upd (upd H a (.lst [])) sa (.lst [])) []:=by
 have f:=yG e (.lst []);have g:=yG c (.lst []);have ne:sa≠a:=λz=>by rw[z,yB]at c;cases c
 exact⟨⟨[],[],⟨⟨g _ _ yB,rfl,.nil,λi b r h=>by simp at h⟩,yB,ne,by simp,λb d=>by simp at d⟩,⟨bYo _,bYo _,λr h=>by simp at h⟩,Bk.aXA,.nil⟩,f.trans g,e,f.fresh c,λb d=>by simp at d⟩
theorem bWj{H j:Hp}{g sa:Nat}{c:List Nat}{o:Rows}{u:List Int}{a:Ans}{v:V}(s:LBk j g sa c o u)(m:∃b,H g=some (.lst b))(k:∃b,H sa=some (.lst b))(f:vI [] j a v)(t:uP H v):vI (sa::g::c) j a v:=by
 have no:∀p,v= .ref p->(∀r d,j p≠some (.lst (uO r d)))->p∉sa::g::c:=λp e n z=>by
  rcases bYq.mp z with z|z
  ·obtain⟨b,h⟩:=k;exact t p e (.lst b) (by intro _ y;cases y) (by rw[z];exact h)
  rcases bYq.mp z with z|z
  ·obtain⟨b,h⟩:=m;exact t p e (.lst b) (by intro _ y;cases y) (by rw[z];exact h)
  ·obtain⟨i,q,w⟩:=bY8 z;obtain⟨d,A,_⟩:=s.book.row i p _ (by rw[bYg q,w]) (bYg (show i<o.length by rw[<- s.book.len];exact q));exact n _ d A
 cases a with
 |num n=>exact f
 |txt x=>exact f
 |nums l=>obtain⟨p,e,_,h⟩:=f;exact⟨p,e,no p e λr d z=>by rw[h]at z;exact aQI (bYC z).symm,h⟩
 |txts l=>obtain⟨p,e,_,h⟩:=f;exact⟨p,e,no p e λr d z=>by rw[h]at z;exact qJ (bYC z).symm,h⟩
 |row r=>obtain⟨p,e,_,h⟩:=f;exact⟨p,e,no p e λr d z=>(by rw[h]at z;cases z),h⟩
theorem LGo.step{F H:Hp}{i sa:Nat}{u:List xN}{D:List Ans}{p:List Nat}{e:xN}(g:LGo F i sa u D H p)(hw:Wf e)(hz:u.length<60){B:Nat}(G:H B=some (.tup (xH e))){Q:VK} (q:∀ (a:Ans)(v:V)(j:Hp)(f:List Nat),LGo F i sa (u++ [e]) (D++ [a]) j f->aZg i sa p f H j->vI (sa::i::f) j a v->uP H v->Q v j):aXw [.ref i,.ref sa,.ref B] H Q E0:=by
 obtain⟨R,S,A,n,m,k⟩:=g.ex;refine⟨i,sa,B,p,R,S,e,rfl,G,hw,A,by have:=n.r;omega,by have:=n.s;omega,m,λr M=>by have:=n.c r M;omega,λj a v I J f y l C K E=>?_⟩;refine q a v j f ⟨⟨I,J,l,?_,Bk.xW.book m ?_ C,.snoc k C⟩,λx o h=>?_,g.newR,g.newS,λb O=>?_⟩ y (bWj l ⟨_,A.book.lst⟩ ⟨_,A.shut⟩ K E) E
 ·rw[bYE,cQt];exact n.done C
 ·intro N d w t L;subst L;exact hw
 ·exact y.1 x o (yJ h g.newS) (yJ h g.newR) (λz=>by rw[g.newB x z]at h;cases h) (g.keep _ _ h)
 ·rcases y.2.1 b O with z|z
  ·exact g.newB b z
  ·exact g.keep.fresh z
structure aWn(H0:Hp)(ra sa:Nat)(H:Hp)(rs:List Nat)(D:Nat)(xs:List V):Prop where
 at_:H D=some (.lst xs)
 new:H0 D=none
 nr:D≠ra
 ns:D≠sa
 nb:D∉rs
 nc:NoC rs H D
theorem aWn.step{d H e:Hp}{b sa D:Nat}{c a:List Nat}{xs:List V}(h:aWn d b sa H c D xs)(st:aZg b sa c a H e):aWn d b sa e a D xs:=
 ⟨st.1 D _ h.ns h.nr h.nb h.at_,h.new,h.nr,h.ns,λz=>(st.2.1 D z).elim h.nb (λy=>by have:=h.at_;rw[y]at this;cases this),st.2.2 D _ h.at_ h.nc⟩
theorem aWn.same{c H d:Hp}{e sa D:Nat}{a:List Nat}{xs:List V}(h:aWn c e sa H a D xs)(f:∀b∈a,∃o,H b=some o)(k:xC H d):aWn c e sa d a D xs:=
 ⟨k _ _ h.at_,h.new,h.nr,h.ns,h.nb,(But.of f k).2.2 D _ h.at_ h.nc⟩
theorem LGo.dom{e H:Hp}{f sa:Nat}{c:List xN}{d:List Ans}{a:List Nat}(g:LGo e f sa c d H a):∀b∈a,∃o,H b=some o:=let ⟨R,S,h,_⟩:=g.ex;h.book.dom
theorem LGo.write{n H:Hp}{m sa D:Nat}{q:List xN}{s:List Ans}{d:List Nat}{xs:List V}(g:LGo n m sa q s H d)(h:aWn n m sa H d D xs)(ys:List V):LGo n m sa q s (upd H D (.lst ys)) d/\aWn n m sa (upd H D (.lst ys)) d D ys:=by
 obtain⟨R,S,c,w,p,f⟩:=g.ex;have nb:∀b∈d,b≠D:=λb a z=>h.nb (by rw[<- z];exact a);refine⟨⟨⟨R,S,⟨⟨by rw[yI (bY0 h.nr)];exact c.book.lst,c.book.len,c.book.nd,λi b r a v=>?_⟩,by rw[yI (bY0 h.ns)];exact c.shut,c.ne,c.no,λb a l k=>c.noC b a l (by rw[yI (nb b a)]at k;exact k)⟩,w,p,f⟩,λx o e=>?_,g.newR,g.newS,g.newB⟩,yB,h.new,h.nr,h.ns,h.nb,λb a l k=>h.nc b a l (by rw[yI (nb b a)]at k;exact k)⟩
 ·obtain⟨y,t,u⟩:=c.book.row i b r a v;have j:=bYz a;exact⟨y,by rw[yI (nb b j)];exact t,by rw[yI (λz=>h.nc b j _ t (by rw[<- z];rfl))];exact u⟩
 ·rw[yI (yJ e h.new)];exact g.keep _ _ e
theorem aWn.write{d H:Hp}{f sa D E:Nat}{a:List Nat}{xs:List V}(h:aWn d f sa H a D xs)(ne:D≠E)(g:E∉a)(u:HO):aWn d f sa (upd H E u) a D xs:=
 ⟨by rw[yI ne];exact h.at_,h.new,h.nr,h.ns,h.nb,λb e l c=>h.nc b e l (by rw[yI (λz=>g (by rw[<- z];exact e))]at c;exact c)⟩
end Law
namespace Bk
open PySem (Str)
theorem zU{R:Rows}{k:Nat}{r:Row}(b:R[k]? =some r)(a:r.void=false):wI R (k:Int)=true:=by
 unfold wI;rw[bYW,b];simp[a]
theorem xW.noOne{R R2:Rows}{S f:List Int}{m:Int}{e:xN}{g:Ans}(h:wI R m=false)(a:e= .loose m\/(∃d,e= .date m d)\/(∃t,e= .term m t)\/(∃w,e= .copy m w)\/(∃w,e= .file m w)\/e= .void m\/e= .state m\/e= .thread m\/e= .copies m) (i:xW R S e g R2 f):g= .txt "no letter"/\R2=R/\f=S:=by
 cases i with
 |oneN k j=>exact⟨rfl,rfl,rfl⟩
 |enter _=>simp at a
 |enterT _=>simp at a
 |replyN _=>simp at a
 |replyT _ _=>simp at a
 |replyE _ _ _ _=>simp at a
 |reply _ _ _ _=>simp at a
 |hangN _=>simp at a
 |hangH _ _ _ _ _=>simp at a
 |hangO _ _ _ _ _ _=>simp at a
 |hangW _ _ _ _ _ _ _=>simp at a
 |hangP _ _ _ _ _ _ _ _=>simp at a
 |hangE _ _ _ _ _ _ _ _ _=>simp at a
 |hang _ _ _ _ _ _ _ _ _=>simp at a
 |shutN _=>simp at a
 |shut _=>simp at a
 |letters=>simp at a
 |on _=>simp at a
 |looseN c b _=>simp at a;rw[<- a,zU c b]at h;cases h
 |loose c b _=>simp at a;rw[<- a,zU c b]at h;cases h
 |dateE c b _=>simp at a;rw[<- a,zU c b]at h;cases h
 |date c b _ _=>simp at a;rw[<- a,zU c b]at h;cases h
 |termN c b _=>simp at a;rw[<- a,zU c b]at h;cases h
 |term c b _=>simp at a;rw[<- a,zU c b]at h;cases h
 |copyC c b _=>simp at a;rw[<- a,zU c b]at h;cases h
 |copy c b _ _=>simp at a;rw[<- a,zU c b]at h;cases h
 |file c b=>simp at a;rw[<- a,zU c b]at h;cases h
 |voidA c b _=>simp at a;rw[<- a,zU c b]at h;cases h
 |void c b _=>simp at a;rw[<- a,zU c b]at h;cases h
 |state c b=>simp at a;rw[<- a,zU c b]at h;cases h
 |thread c b=>simp at a;rw[<- a,zU c b]at h;cases h
 |copies c b=>simp at a;rw[<- a,zU c b]at h;cases h
def aZe(R:Rows)(e:xN):Prop:=∃m,wI R m=false/\(e= .loose m\/(∃d,e= .date m d)\/(∃t,e= .term m t)\/(∃w,e= .copy m w)\/(∃w,e= .file m w)\/e= .void m\/e= .state m\/e= .thread m\/e= .copies m)
theorem X3{R:Rows}{m:Int}{k:Nat}{r:Row}(h:wI R m=false)(e:m=(k:Int))(b:R[k]? =some r)(a:r.void=false):False:=by
 rw[e,zU b a]at h;cases h
theorem xW.det{R w R2:Rows}{S x B:List Int}{e n:xN}{a C:Ans}(b:n=e)(h:xW R S e a w x)(i:xW R S n C R2 B):a=C/\w=R2/\x=B:=by
 by_cases o:aZe R e
 ·obtain⟨m,D,E⟩:=o;obtain⟨rfl,rfl,rfl⟩:=xW.noOne D E h;subst b;obtain⟨rfl,rfl,rfl⟩:=xW.noOne D E i;exact⟨rfl,rfl,rfl⟩
 have H:¬aZe R n:=by rw[b];exact o
 cases e<;> cases n<;> try (cases b;done)
 all_goals simp only[xN.loose.injEq,xN.date.injEq,xN.term.injEq,xN.copy.injEq,xN.file.injEq,xN.void.injEq,xN.state.injEq,xN.thread.injEq,xN.copies.injEq,xN.letters.injEq,xN.shut.injEq,xN.enter.injEq,xN.reply.injEq,xN.hang.injEq,xN.on.injEq]at b
 all_goals cases h<;> cases i<;> first
  |(exfalso;exact o ⟨_,‹wI R _=false›,‹_›⟩)
  |(exfalso;exact H ⟨_,‹wI R _=false›,‹_›⟩)
  |(simp_all [cZY];done)
  |(simp_all [cZY];omega)
  |skip
 all_goals first
  |exact(X3 ‹wI R _=false› b.1.symm ‹R[_]? =some _› ‹_›).elim
  |exact(X3 ‹wI R _=false› b.1 ‹R[_]? =some _› ‹_›).elim
  |(rcases ‹wI R _=false\/wI R _=false› with z|z
    ·exact(X3 z b.1.symm ‹R[_]? =some _› ‹_›).elim
    ·exact(X3 z b.2.symm ‹R[_]? =some _› ‹_›).elim)
  |(rcases ‹wI R _=false\/wI R _=false› with z|z
    ·exact(X3 z b.1 ‹R[_]? =some _› ‹_›).elim
    ·exact(X3 z b.2 ‹R[_]? =some _› ‹_›).elim)
  |skip
 case date.date.dateE.date=>
  rename_i d A k r u J h I F f p s i;exfalso;obtain⟨v,rfl⟩:=b;cases cZY.mp v;rw[u]at f;cases f;rcases h with⟨j,g,t⟩|⟨c,g,t⟩
  ·have:=s j g;omega
  ·have:=i c g;omega
 case date.date.date.dateE=>
  rename_i d A k r u J s i I F f p h;exfalso;obtain⟨v,rfl⟩:=b;cases cZY.mp v;rw[u]at f;cases f;rcases h with⟨j,g,t⟩|⟨c,g,t⟩
  ·have:=s j g;omega
  ·have:=i c g;omega
 case on.on.on.on=>
  rename_i y d q A l h K G;obtain⟨rfl,rfl⟩:=b;cases h.uniq G;exact⟨rfl,rfl,rfl⟩
end Bk
namespace Desk
open Bk (Row Rows xW xN Ans)
theorem Run.inv{R b:Rows}{S c:List Int}{l:List xN}{bs:List Ans}(h:Run R S l bs b c):(l= []/\bs= []/\b=R/\c=S)\/∃f e g a i j,l=f++ [e]/\bs=g++ [a]/\Run R S f g i j/\xW i j e a b c:=by
 cases h with
 |nil=>exact .inl ⟨rfl,rfl,rfl,rfl⟩
 |snoc h d=>exact .inr ⟨_,_,_,_,_,_,rfl,rfl,h,d⟩
theorem Run.det{R:Rows}{S:List Int}:∀ (n:Nat) {b:List xN} {f bs:List Ans} {i R2:Rows} {j c:List Int},b.length=n->Run R S b f i j->Run R S b bs R2 c->f=bs/\i=R2/\j=c
 |0,b,f,bs,i,R2,j,c,hn,h,h2=>by
  rcases h.inv with⟨rfl,rfl,rfl,rfl⟩|⟨_,_,_,_,_,_,rfl,_⟩
  ·rcases h2.inv with⟨_,rfl,rfl,rfl⟩|⟨r,t,_,_,_,_,z,_⟩
   ·exact⟨rfl,rfl,rfl⟩
   ·exact absurd (congrArg cXp z) (by simp)
  ·simp at hn
 |n+1,b,f,bs,i,R2,j,c,hn,h,h2=>by
  rcases h.inv with⟨rfl,_⟩|⟨m,e,p,a,v,w,rfl,rfl,g,d⟩
  ·simp at hn
  ·rcases h2.inv with⟨z,_⟩|⟨k,t,l,x,q,u,z,rfl,s,o⟩
   ·exact absurd (congrArg cXp z) (by simp)
   ·obtain⟨rfl,z2⟩:=cZo z rfl;cases z2;obtain⟨rfl,rfl,rfl⟩:=Run.det n (by simpa using hn) g s;obtain⟨rfl,rfl,rfl⟩:=Bk.xW.det rfl d o;exact⟨rfl,rfl,rfl⟩
end Desk
namespace Law
open PySem L2 PyProof.Rows
open Bk (Row Rows xW xN Ans)
open Desk (xH vI uP Wf Up Run zD jU)
theorem qQ{o b:List Nat}{H c:Hp}{a:Ans}{v:V}(h:vI o H a v)(k:∀p u,p∉o->H p=some u->p∉b/\c p=some u):vI b c a v:=by
 cases a with
 |num n=>exact h
 |txt x=>exact h
 |nums l=>obtain⟨p,e,n,q⟩:=h;exact⟨p,e,k p _ n q⟩
 |txts l=>obtain⟨p,e,n,q⟩:=h;exact⟨p,e,k p _ n q⟩
 |row r=>obtain⟨p,e,n,q⟩:=h;exact⟨p,e,k p _ n q⟩
structure Mid(H0:Hp)(ra sa ds us:Nat)(es:List xN)(das:List Nat)(i:Nat)(H:Hp):Prop where
 ne:ds≠us
 wf:∀e∈es,Wf e
 len:das.length=es.length
 at_:∀ (j:Nat)(d:Nat)(e:xN),das[j]? =some d->es[j]? =some e->H d=some (.tup (xH e))
 ex:∃ (rs:List Nat)(as:List Ans)(vs:List V),LGo H0 ra sa (es.take i) as H rs/\aWn H0 ra sa H rs ds (das.map V.ref)/\aWn H0 ra sa H rs us vs/\bY6 (λv a=>vI (us::ds::sa::ra::rs) H a v) vs as
theorem Mid.same{h H l:Hp}{f sa ds us:Nat}{c:List xN}{b:List Nat}{i:Nat}(m:Mid h f sa ds us c b i H)(k:xC H l):Mid h f sa ds us c b i l:=by
 obtain⟨o,s,q,g,w,x,p⟩:=m.ex;exact⟨m.ne,m.wf,m.len,λj d e r t=>k _ _ (m.at_ j d e r t),o,s,q,g.same k,w.same g.dom k,x.same g.dom k,jU (λv a z=>qQ z λp u n e=>⟨n,k _ _ e⟩) p⟩
theorem Mid.keep{b H:Hp}{d sa ds us:Nat}{c:List xN}{a:List Nat}{i:Nat}(m:Mid b d sa ds us c a i H):xC b H:=let ⟨rs,as,vs,g,_⟩:=m.ex;g.keep
theorem Mid.push{A H:Hp}{r sa ds us:Nat}{f:List xN}{b:List Nat}{i:Nat}(m:Mid A r sa ds us f b i H)(s:i=f.length){d:Nat}{e:xN}(C:H d=some (.tup (xH e)))(hw:Wf e):Mid A r sa ds us (f++ [e]) (b++ [d]) i (upd H ds (.lst ((b++ [d]).map V.ref))):=by
 obtain⟨B,E,D,g,q,F,p⟩:=m.ex;have w:=g.write q ((b++ [d]).map V.ref);have tk:∀ {x ys},H x=some (.tup ys)->upd H ds (.lst ((b++ [d]).map V.ref)) x=some (.tup ys):=λ{x ys} h=>by rw[yI (λz=>by rw[z,q.at_]at h;cases h)];exact h
 refine⟨m.ne,λx c=>?_,by simp[m.len],λj x y l k=>?_,B,E,D,?_,w.2,F.write (bY0 m.ne) q.nb _,jU (λv a z=>qQ z λp u n h=>⟨n,?_⟩) p⟩
 ·rcases bYU.mp c with c|c
  ·exact m.wf x c
  ·rw[bYy.mp c];exact hw
 ·by_cases t:j<f.length
  ·rw[bYY (by rw[m.len];exact t)]at l;rw[bYY t]at k;exact tk (m.at_ j x y l k)
  ·have o:j=f.length:=by
    have:=(bYs.mp k).1;simp at this;omega
   subst o;rw[bYH (by rw[m.len];exact bYo _),m.len,cQC]at l;rw[bYH (bYo _),cQC]at k;cases l;cases k;exact tk C
 ·rw[s,List.take_left' rfl];have:=w.1;rw[s,cQe]at this;exact this
 ·rw[yI (λz=>n (by rw[z];exact bYt _ bYw))];exact h
theorem Mid.next{T H:Hp}{c sa ds us:Nat}{o:List xN}{k:List Nat}{i:Nat}(m:Mid T c sa ds us o k i H)(hz:i<60){d:Nat}{e:xN}(Z:k[i]? =some d)(D:o[i]? =some e){Q:VK} (q:∀ (v:V)(b:Hp)(vs:List V),H us=some (.lst vs)->b us=some (.lst vs)->vs.length=i->Mid T c sa ds us o k (i+1) (upd b us (.lst (vs++ [v])))->Q v b):aXw [.ref c,.ref sa,.ref d] H Q E0:=by
 obtain⟨N,as,vs,g,P,M,p⟩:=m.ex;have a0:i<o.length:=(bYs.mp D).1;have C:(o.take i).length=i:=by rw[cQz];omega
 have L:vs.length=i:=by obtain⟨R,S,_,_,_,hr⟩:=g.ex;rw[cQZ p,<- hr.len,C]
 have hw:Wf e:=m.wf e (bYz D);refine g.step hw (by rw[C];exact hz) (m.at_ i d e Z D) λa v b f g2 t A O=>?_;have t1:=P.step t;have E:=M.step t;refine q v b vs M.at_ E.at_ L ?_;have w:=g2.write E (vs++ [v]);obtain⟨R,S,J,_⟩:=g.ex;have tk:∀ {x ys},H x=some (.tup ys)->upd b us (.lst (vs++ [v])) x=some (.tup ys):=λ{x ys} h=>by
  have F:x≠sa:=λz=>by rw[z,J.shut]at h;cases h
  have K:x≠c:=λz=>by rw[z,J.book.lst]at h;cases h
  have B:=t.1 x _ F K (J.book.tupNo h) h;rw[yI (λz=>by rw[z,E.at_]at B;cases B)];exact B
 have o2:∀p u,p∉us::ds::sa::c::N->H p=some u->p∉us::ds::sa::c::f/\upd b us (.lst (vs++ [v])) p=some u:=λp u n h=>by
  have F:p≠us:=λz=>n (by rw[z];exact bYw);have K:p≠ds:=λz=>n (by rw[z];simp);have U:p≠sa:=λz=>n (by rw[z];simp);have X:p≠c:=λz=>n (by rw[z];simp);have W:p∉N:=λz=>n (by simp[z]);refine⟨λz=>?_,by rw[yI F];exact t.1 p u U X W h⟩;simp only[bYq,F,K,U,X,false_or]at z;rcases t.2.1 p z with y|y
  ·exact W y
  ·rw[h]at y;cases y
 have Y:o.take (i+1)=o.take i++ [e]:=by rw[cQj,D];rfl
 refine⟨m.ne,m.wf,m.len,λj x y h1 B=>tk (m.at_ j x y h1 B),f,as++ [a],vs++ [v],by rw[Y];exact w.1,t1.write m.ne E.nb _,w.2,?_⟩;refine cZb (jU (λv a z=>qQ z o2) p) ?_;have s:∀x,v= .ref x->x≠us:=λx ex z=>O x ex (.lst vs) (by intro _ y;cases y) (by rw[z];exact M.at_);have G:∀x,v= .ref x->x≠ds:=λx ex z=>O x ex (.lst (k.map V.ref)) (by intro _ y;cases y) (by rw[z];exact P.at_);have I:∀x u,v= .ref x->x∉sa::c::f->b x=some u->x∉us::ds::sa::c::f/\upd b us (.lst (vs++ [v])) x=some u:=λx u ex n h=>
  ⟨λz=>(bYq.mp z).elim (s x ex) λz=>(bYq.mp z).elim (G x ex) n,by rw[yI (s x ex)];exact h⟩
 cases a with
 |num n=>exact A
 |txt x=>exact A
 |nums l=>obtain⟨x,ex,n,h⟩:=A;exact⟨x,ex,I x _ ex n h⟩
 |txts l=>obtain⟨x,ex,n,h⟩:=A;exact⟨x,ex,I x _ ex n h⟩
 |row r=>obtain⟨x,ex,n,h⟩:=A;exact⟨x,ex,I x _ ex n h⟩
end Law
namespace Law
open PySem L2 PyProof.Rows
open Bk (Row Rows xW xN Ans)
open Desk (xH vI uP Wf wW stV)
theorem aZy(a:Array Nat):∀ (m:Nat)(b:Array Nat),((cXP m a).foldl (·++·) b).size=b.size+m*a.size
 |0,b=>by simp
 |m+1,b=>by rw[List.replicate_succ,List.foldl_cons,aZy a m,Array.size_append,Nat.succ_mul];omega
theorem bJW{x:Str}{n:Int}(a:x.length<=1)(f:n<=100):(Txt.mul x n).length<=100:=by
 unfold Txt.mul;split
 ·decide
 ·split
  ·omega
  ·rename_i d _;show((cXP n.toNat x.cps).foldl (·++·) #[]).size<=100;rw[aZy];have b:x.cps.size<=1:=a;have e:n.toNat*x.cps.size<=n.toNat*1:=Nat.mul_le_mul_left _ b;have c:(#[]:Array Nat).size=0:=rfl;omega
theorem aQA{X:Cx}:OpR X (cXY .Mult) (λx y H Q=>∃i n,x= .str i/\y= .int n/\i.length<=1/\0<=n/\n<=100/\∀z:Str,z.length<=100->Q (.str z) H):=by
 intro b s σ H x y v u Q I c f h;obtain⟨i,n,rfl,rfl,a,j,d,q⟩:=h;obtain⟨t,rfl⟩:=c;obtain⟨g,rfl⟩:=f;refine SB.mul ⟨?_,λe _=>?_,λe _=>?_⟩ λg k=>⟨.str (Txt.mul i n),H,I.tok _,⟨_,rfl⟩,q _ (bJW a d)⟩
 ·rw[decide_eq_false (by omega),decide_eq_false (by omega)];rfl
 ·have:(1:Int)<=(2 ^ 63 - 1) / n:=Int.le_ediv_of_mul_le (by omega) (by omega);omega
 ·have:i.length*n.toNat<=1*n.toNat:=Nat.mul_le_mul_right _ a;unfold Builtin.Str.tooLong;simp only[decide_eq_false_iff_not,bYQ];omega
theorem bZV{l:List V}(h:0<l.length)(x:Int):∃v∈l,atI l (x % (l.length:Nat))=some v:=by
 have c:=Int.emod_nonneg x (show((l.length:Nat):Int)≠0 by omega);have d:=Int.emod_lt_of_pos x (show(0:Int)<((l.length:Nat):Int) by omega);obtain⟨k,b⟩:∃k:Nat,x % (l.length:Nat)=(k:Int):=⟨(x % (l.length:Nat)).toNat,by omega⟩;have a:k<l.length:=by omega
 refine⟨l[k],cXm a,?_⟩;rw[b];exact yT (bYg a)
theorem Y9{a:List Int}(h:a≠ [])(x:Int):∃n,atI (a.map V.int) (x % ((a.map V.int).length:Nat))=some (.int n):=by
 obtain⟨v,b,e⟩:=bZV (l:=a.map V.int) (by rw[bYl];exact cQu.mpr h) x;obtain⟨n,_,rfl⟩:=cQm.mp b;exact⟨n,e⟩
theorem aJs{l:List Nat}(h:l≠ [])(x:Int):∃n,atI (l.map λi=>V.int (i:Nat)) (x % ((l.map λi=>V.int (i:Nat)).length:Nat))=some (.int n):=by
 obtain⟨v,a,e⟩:=bZV (l:=l.map λi=>V.int (i:Nat)) (by rw[bYl];exact cQu.mpr h) x;obtain⟨n,_,rfl⟩:=cQm.mp a;exact⟨n,e⟩
def vN(H:Hp)(v:V):Prop:=∃p e,v= .ref p/\H p=some (.tup (xH e))/\Wf e
theorem vN.same{H d:Hp}{v:V}(h:vN H v)(k:xC H d):vN d v:=let ⟨p,e,a,b,c⟩:=h;⟨p,e,a,k _ _ b,c⟩
abbrev Q7:Stmt:=xF "_law_hanging"
def aJc:Sp:=λf H Q _=>∃ (d b:Nat)(e:List Nat)(R:Rows)(c:List Int)(k:Nat)(m:Int),f= [.ref d,.ref b,.int (k:Nat),.int m]/\xA H d e R/\R.length<=60/\H b=some (.lst (c.map V.int))/\c≠ []/\
 ∀ (a:Hp)(v:V),xC H a->vN a v->Q v a
section
variable {K:bYj}
theorem aKn:yN ["_law_rows","_law_cells","_law_k","_law_number","_law_near","_law_far","_law_free","_law_goal","_law_fits","_law_j","_law_one"] ["_law_rows","_law_cells","_law_k","_law_number"] (yH Q7):=scM
theorem aWI:xO ["_law_rows","_law_cells","_law_k","_law_number","_law_near","_law_far","_law_free","_law_goal","_law_fits","_law_j","_law_one"] (yH Q7) "_law_j" ["_law_rows"] [0] {kind:= .function,names:= [(".0",.local),("_law_j",.local),("_law_rows",.free)],isGenerator:=false,isCoroutine:=false,more:= [] }:=
 lcM
theorem aW2(T:vJ mg)(a4:mg "int"=none)(M:FnG P w K mg base 1 "_law_good" ["_law_rows","_law_number"] W9)(F:Fun K "_law_hanging" "_law_hanging" Q7 f fd):xE P w K mg base CX0 2 f fd ["_law_rows","_law_cells","_law_k","_law_number"] aJc:=by
 have sc:=aKn;refine F.ok (k:=1) sc (λb2 A outer s H vs Q E hr h=>?_);obtain⟨v,ca,rs,R,ns,k,m,rfl,Z,hR,hc,Y,q⟩:=h;refine⟨_,(yC (yU (i:=4) (yL yK (pv 1) (yV y0 (yV x5 (pv 2) yE) (yQ yO rfl T.b_len xB (yA (pv 1) yD))))) (yC (yU (i:=5) (yL yK (pv 1) (yV y0 (yV x5 (pv 2) yE) (yQ yO rfl T.b_len xB (yA (pv 1) yD))))) (yC (aZY (i:=6) aWI rfl sc.nd rfl rfl (zJ rfl T.b_range (yA (yQ yO rfl T.b_len xB (yA (pv 0) yD)) yD)) (λ_ _ _ _ _=>(w6 (yM aXr (yL (show IxR _ (aZd K)from yK) (yL (show IxR _ (aZd K)from yK) (pv 1) (pv 0)) yE) x3))) (λ_ _ _ _ _=>(pv 0))) (yC (y7 (PW.pt (vS (yM (vR hr.units0) (pv 6) (y6 yD)) (wR (yM aXg (yV y0 (pv 4) yE) yE)))) (yF (yU (i:=3) (yL yK (pv 6) (yV y0 (pv 5) (yQ yO rfl T.b_len xB (yA (pv 6) yD)))))) yS) (yC (yU (i:=7) (yV wU (yV y0 (yV x5 (pv 4) (pv 2)) (yV x5 (yQ yO rfl T.b_len xB (yA (pv 0) yD)) yE)) (x2 vB rfl a4 uQ (yA (zP zF (yV y0 (pv 4) yE) yE) yD)))) (yC (yU (i:=8) (y6 yD)) (yC (zR bY5 rfl (zJ rfl T.b_range (yA (yQ yO rfl T.b_len xB (yA (pv 0) yD)) yD)) (y9 (i:=9)) (yF (y7 (PW.pt (vS (xX (xJ M hr rfl (yA (pv 0) (yA (pv 3) yD)))) (wR (yM qZ (yL yK (yL yK (pv 0) (pv 9)) yE) (yL yK (yL yK (pv 0) (pv 3)) yE))))) (yC (yU (i:=10) (yL yK (pv 0) (pv 9))) (yF (y7 (PW.pt (vS (yM zF (yL yK (pv 10) yE) (yL yK (yL yK (pv 0) (pv 3)) yE)) (wR (yM aYK (yL yK (pv 10) yE) (yL yK (yL yK (pv 0) (pv 3)) yE))))) (yF (yY (vM bYG bYN bYO xD (pv 8) (yA (pv 9) yD)))) yS))) yS))) (yC (y7 (PW.pt (vS (yM (vR hr.units0) (pv 8) (y6 yD)) (wR (yM aXg (yV y0 (pv 4) yE) yE)))) (yF (yU (i:=7) (yL yK (pv 8) (yV y0 (yV x5 (yV X5 (pv 4) yE) (pv 2)) (yQ yO rfl T.b_len xB (yA (pv 8) yD)))))) yS) (yF (yP (xG (yA yR (yA (pv 3) (yA (pv 7) yD)))))))))))))),?_⟩;have hl:(rs.map V.ref).length=R.length:=by rw[bYl];exact Z.len
 have U:(0:Int)<((ns.map V.int).length:Nat):=by rw[bYl];have:=cQu.mpr Y;omega
 obtain⟨g,a1⟩:=Y9 Y ((k:Nat)+1);obtain⟨J,a8⟩:=Y9 Y ((k:Nat)+2);refine⟨_,rfl,_,rfl,_,_,rfl,rfl,_,rfl,ca,_,rfl,.inl (SqL.of hc),_,_,rfl,rfl,U,ca,_,_,_,rfl,rfl,SqL.of hc,a1,?_⟩;dsimp only[yW];refine⟨_,rfl,_,rfl,_,_,rfl,rfl,_,rfl,ca,_,rfl,.inl (SqL.of hc),_,_,rfl,rfl,U,ca,_,_,_,rfl,rfl,SqL.of hc,a8,?_⟩;dsimp only[yW];refine⟨_,rfl,v,_,rfl,.inl (SqL.of Z.lst),?_⟩;rw[hl];refine⟨_,rfl,by omega,by omega,λD hD=>?_⟩;rw[bYW];refine Q3 (λj=>decide (wZ (Bk.lk R j)=V.non)) (λk=>V.int (k:Nat)) hD (by rw[bYQ];omega) (λj hj H' R' hH L=>?_) (λk hk _ H' R' hH L=>⟨_,rfl,L⟩) ?_
 ·have N:=bYg hj;obtain⟨b,g1,g2,cp,g3,g4⟩:=Z.get N;have a9:H' v=some (.lst (rs.map V.ref)):=by rw[hH v (yJ Z.lst hD)];exact Z.lst
  have hb:H' b=_:=(hH b (yJ g3 hD)).trans g3;rw[Bk.uA N]at L;exact⟨_,rfl,_,rfl,v,_,_,_,rfl,rfl,SqL.of a9,yT g1,b,_,4,_,rfl,rfl,SqL.of hb,rfl,rfl,_,rfl,L⟩
 generalize b1:(bYu R.length).filter (λj=>decide (wZ (Bk.lk R j)=V.non))=free;have k1:=yG hD (.lst (free.map λi=>V.int (i:Nat)));have a0:upd H D (.lst (free.map λi=>V.int (i:Nat))) D=some (.lst (free.map λi=>V.int (i:Nat))):=yB;generalize upd H D (.lst (free.map λi=>V.int (i:Nat)))=H1 at k1 a0 ⊢;dsimp only[yW];refine zC (λG H'=>∃W:Int,G= [some (.ref v),some (.ref ca),some (.int (k:Nat)),some (.int W),some (.int g),some (.int J),some (.ref D),none,none,none,none]/\xC H H') ?jW (λd=>?_);case jW=>
  rintro G H2 ⟨W,rfl,k2⟩;have a6:=Z.same k2;refine⟨_,rfl,_,rfl,_,_,rfl,rfl,_,rfl,v,_,rfl,.inl (SqL.of a6.lst),_,_,rfl,rfl,_,_,rfl,rfl,(show(0:Int)<(((rs.map V.ref).length:Nat):Int)+1 by omega),_,rfl,_,_,rfl,rfl,(show(0:Int)<11 by decide),rfl,.inr ⟨_,rfl,_,_,rfl,rfl,?_⟩⟩;dsimp only[yW];refine⟨z0,λS X=>?_⟩;dsimp only[yW];refine⟨_,rfl,v,_,rfl,.inl (SqL.of ((yG X (.lst [])) _ _ a6.lst)),?_⟩;rw[hl];refine⟨_,rfl,by omega,by omega,?_⟩;rw[bYW];have a7:H S=none:=k2.fresh X;generalize ((g+(k:Nat)) % ((R.length:Nat)+1) - if decide (V.int (g % 11)=V.int 5)=true then 1 else 0)=goal;refine z6 (λt σ H3=>∃ (a:List Nat)(o9 O:Option V),σ= [some (.ref v),some (.ref ca),some (.int (k:Nat)),some (.int W),some (.int g),some (.int J),some (.ref D),some (.int goal),some (.ref S),o9,O]/\xC H H3/\H3 S=some (.lst (a.map λi=>V.int (i:Nat)))/\a.length<=t) ?_ ?_ ?_
  ·exact⟨[],none,none,rfl,k2.trans (yG X _),yB,bYo _⟩
  ·rintro j σ H3 hj ⟨a,o9,O,rfl,I,n,a5⟩;rw[cXr];dsimp only[yW];have u:=Z.same I;have N:=bYg hj;obtain⟨bj,j1,j2,cj,j3,j4⟩:=u.get N;refine⟨_,rfl,_,rfl,v,rs,R,W,rfl,u,_,rfl,?_⟩;cases h1:Bk.wI R W with
   |false=>exact onF rfl (onF rfl ⟨a,_,_,rfl,I,n,by omega⟩)
   |true=>
   obtain⟨i,r,rfl,b0,hi,hv⟩:=Bk.wJ h1;obtain⟨b,g1,g2,cp,g3,g4⟩:=u.get hi;refine onT rfl ⟨_,rfl,_,rfl,v,_,_,_,rfl,rfl,SqL.of u.lst,yT j1,bj,_,0,_,rfl,rfl,SqL.of j3,rfl,_,rfl,_,rfl,v,_,_,_,rfl,rfl,SqL.of u.lst,yT g1,b,_,0,_,rfl,rfl,SqL.of g3,rfl,rfl,_,rfl,?_⟩;refine qA (λc1=>?_) (λc1=>?_)
   ·refine⟨_,rfl,_,rfl,v,_,_,_,rfl,rfl,SqL.of u.lst,yT j1,?_⟩;dsimp only[yW];refine⟨_,rfl,bj,_,2,_,rfl,rfl,SqL.of j3,rfl,_,rfl,_,rfl,v,_,_,_,rfl,rfl,SqL.of u.lst,yT g1,b,_,2,_,rfl,rfl,SqL.of g3,rfl,rfl,_,rfl,?_⟩;rw[w8];cases h2:decide (R[j].partner=r.partner)with
    |false=>exact onF rfl (onF rfl ⟨a,_,_,rfl,I,n,by omega⟩)
    |true=>
    refine onT rfl ⟨_,rfl,bj,_,1,_,rfl,rfl,SqL.of j3,rfl,_,rfl,_,rfl,v,_,_,_,rfl,rfl,SqL.of u.lst,yT g1,b,_,1,_,rfl,rfl,SqL.of g3,rfl,_,_,rfl,rfl,_,rfl,?_⟩;refine qA (λc2=>?_) (λc2=>?_)
    ·refine⟨_,rfl,.inl ⟨rfl,_,SqL.of n⟩,_,rfl,S,_,_,rfl,rfl,n,zlt (by rw[bYl];omega),?_⟩;have e5:(a.map λi=>V.int (i:Nat))++ [V.int (j:Nat)]=(a++ [j]).map λi=>V.int (i:Nat):=by simp
     rw[e5];refine⟨a++ [j],_,_,rfl,λx o e=>?_,yB,by rw[bYE];simp;omega⟩;rw[yI (λz=>by rw[z,a7]at e;cases e)];exact I _ _ e
    ·exact⟨a,_,_,rfl,I,n,by omega⟩
   ·exact⟨a,_,_,rfl,I,n,by omega⟩
  ·rintro σ H3 ⟨a,o9,O,rfl,I,n,a5⟩;dsimp only[aJg];refine zC (λG H'=>∃g':Int,G= [some (.ref v),some (.ref ca),some (.int (k:Nat)),some (.int W),some (.int g),some (.int J),some (.ref D),some (.int g'),some (.ref S),o9,O]/\xC H H') ?rest2 (λd=>?_);case rest2=>
    rintro G H4 ⟨g',rfl,k4⟩;refine⟨_,rfl,_,rfl,z3,λp hp=>?_⟩;exact q _ _ (k4.trans (yG hp _)) ⟨p,.hang W g',rfl,yB,trivial⟩
   refine⟨_,rfl,z0,λpn y=>⟨S,pn,_,rfl,rfl,SqL.of ((yG y (.lst [])) _ _ n),SqL.of yB,_,rfl,?_⟩⟩;have C:=yG y (.lst []);generalize upd H3 pn (.lst [])=H4 at C ⊢;by_cases l:a= []
   ·subst l;exact onF rfl (onF rfl (d _ _ ⟨goal,rfl,I.trans C⟩))
   refine onT (by cases a with|nil=>exact absurd rfl l|cons=>rfl) ⟨_,rfl,_,_,rfl,rfl,(show(0:Int)<7 by decide),_,_,rfl,rfl,_,rfl,?_⟩;refine qA (λc=>?_) (λc=>d _ _ ⟨goal,rfl,I.trans C⟩);obtain⟨g',a3⟩:=aJs l (g / 7+(k:Nat));have B:=C _ _ n;have a2:(0:Int)<((a.map λi=>V.int (i:Nat)).length:Nat):=by rw[bYl];have:=cQu.mpr l;omega
   refine⟨_,rfl,_,rfl,_,_,rfl,rfl,⟨by decide,by decide⟩,_,rfl,_,_,rfl,rfl,_,rfl,S,_,rfl,.inl (SqL.of B),_,_,rfl,rfl,a2,S,_,_,_,rfl,rfl,SqL.of B,a3,?_⟩;dsimp only[yW];exact d _ _ ⟨g',rfl,I.trans C⟩
 refine⟨_,rfl,z0,λpn y=>⟨D,pn,_,rfl,rfl,SqL.of ((yG y (.lst [])) _ _ a0),SqL.of yB,_,rfl,?_⟩⟩;have C:=yG y (.lst []);generalize upd H1 pn (.lst [])=H4 at C ⊢;by_cases l:free= []
 ·subst l;exact onF rfl (onF rfl (d _ _ ⟨m,rfl,k1.trans C⟩))
 refine onT (by cases free with|nil=>exact absurd rfl l|cons=>rfl) ⟨_,rfl,_,_,rfl,rfl,(show(0:Int)<5 by decide),_,_,rfl,rfl,_,rfl,?_⟩;refine qA (λc=>?_) (λc=>d _ _ ⟨m,rfl,k1.trans C⟩);obtain⟨g',a3⟩:=aJs l J;have B:=C _ _ a0;have a2:(0:Int)<((free.map λi=>V.int (i:Nat)).length:Nat):=by rw[bYl];have:=cQu.mpr l;omega
 refine⟨_,rfl,_,rfl,_,rfl,D,_,rfl,.inl (SqL.of B),_,_,rfl,rfl,a2,D,_,_,_,rfl,rfl,SqL.of B,a3,?_⟩;dsimp only[yW];exact d _ _ ⟨g',rfl,k1.trans C⟩
end
end Law
namespace Law
open PySem L2 PyProof.Rows
open Bk (Row Rows xW xN Ans)
open Desk (xH vI uP Wf wW stV)
theorem aWB{K:bYj}{x i:V}{H:Hp}{Q:VK}{a:Nat}{xs:List V}{j:Int}(e:x= .ref a)(c:i= .int j)(d:SqL K H a xs)(h0:0<=j)(f:j<(xs.length:Nat))(q:∀v∈xs,Q v H):aZd K x i H Q:=by
 obtain⟨k,rfl⟩:∃k:Nat,j=(k:Int):=⟨j.toNat,by omega⟩;have b:k<xs.length:=by omega
 exact⟨a,xs,_,_,e,c,d,yT (bYg b),q _ (cXm b)⟩
theorem qB{K:bYj}{x i:V}{H:Hp}{Q:VK}{a:Nat}{xs:List V}{j:Int}(b:x= .ref a)(c:i= .int j)(e:SqL K H a xs)(h0:0<=j)(d:j<(xs.length:Nat))(f:∀v∈xs,∃n,v= .int n)(q:∀n,V.int n∈xs->Q (.int n) H):aZd K x i H Q:=
 aWB b c e h0 d λv m=>by obtain⟨n,rfl⟩:=f v m;exact q n m
theorem aQl{K:bYj}{x i:V}{H:Hp}{Q:VK}{a:Nat}{xs:List V}{j:Int}(b:x= .ref a)(c:i= .int j)(e:SqL K H a xs)(h0:0<=j)(d:j<(xs.length:Nat))(f:∀v∈xs,∃n,v= .str n)(q:∀n,V.str n∈xs->Q (.str n) H):aZd K x i H Q:=
 aWB b c e h0 d λv m=>by obtain⟨n,rfl⟩:=f v m;exact q n m
theorem b0{b:Bool}:(0:Int)<=(if b=true then 1 else 0):=by split<;> decide
theorem b1{b:Bool}:(if b=true then(1:Int)else 0)<2:=by split<;> decide
theorem md0{x n:Int}(h:0<n):0<=x % n:=Int.emod_nonneg x (by omega)
theorem md1{x n:Int}(h:0<n):x % n<n:=Int.emod_lt_of_pos x h
structure jX(H0 H:Hp)(ma:Nat)(n:Nat):Prop where
 k:xC H0 H
 new:H0 ma=none
 ex:∃vs,H ma=some (.lst vs)/\vs.length=n/\∀v∈vs,vN H v
theorem jX.same{e H f:Hp}{d:Nat}{n:Nat}(m:jX e H d n)(k:xC H f):jX e f d n:=
 ⟨m.k.trans k,m.new,let ⟨vs,a,b,c⟩:=m.ex;⟨vs,k _ _ a,b,λv g=>(c v g).same k⟩⟩
theorem jX.push{j H:Hp}{d:Nat}{n:Nat}(m:jX j H d n){vs:List V}(e:H d=some (.lst vs)){v:V}(l:vN H v):jX j (upd H d (.lst (vs++ [v]))) d (n+1):=by
 obtain⟨k,f,q,a,b,c⟩:=m;rw[e]at a;cases a;have r:∀v,vN H v->vN (upd H d (.lst (vs++ [v]))) v:=λv ⟨p,e',h1,h2,h3⟩=>⟨p,e',h1,by rw[yI (λz=>by rw[z,e]at h2;cases h2)];exact h2,h3⟩;have i:∀v x,vN H v->vN (upd H d x) v:=λv x ⟨p,e',h1,h2,h3⟩=>⟨p,e',h1,by rw[yI (λz=>by rw[z,e]at h2;cases h2)];exact h2,h3⟩;refine⟨λx o h=>by rw[yI (λz=>by rw[z,f]at h;cases h)];exact k _ _ h,f,_,yB,by simp[b],λu g=>?_⟩;rcases bYU.mp g with g|g
 ·exact i _ _ (c u g)
 ·rw[bYy.mp g];exact i _ _ l
theorem bZy{v:V}{i:Nat}{u:TS}{D:aKB}{σ:L2.St}{H:Hp}(h:u D (σ.set i (some v)) H):bKl (bKj (tC v) (yW i)) u D σ H:=h
abbrev aVX:Stmt:=xF "_law_about"
def bQz:Sp:=λf H Q _=>∃ (d b:Nat)(e:List Nat)(R:Rows)(c:List Int)(k:Nat)(m turn:Int),f= [.ref d,.ref b,.int (k:Nat),.int m,.int turn]/\xA H d e R/\R.length<=60/\H b=some (.lst (c.map V.int))/\k<c.length/\15<=turn/\turn<24/\
 ∀ (a:Hp)(v:V),xC H a->vN a v->Q v a
section
variable {K:bYj}
theorem bZc:yN ["_law_rows","_law_cells","_law_k","_law_number","_law_turn","_law_near","_law_far","_law_base","_law_tied","_law_name","_law_way","_law_further","_law_menu","_law_stop","_law_asks"] ["_law_rows","_law_cells","_law_k","_law_number","_law_turn"] (yH aVX):=scM
theorem bXp:xO ["_law_rows","_law_cells","_law_k","_law_number","_law_turn","_law_near","_law_far","_law_base","_law_tied","_law_name","_law_way","_law_further","_law_menu","_law_stop","_law_asks"] (yH aVX) "_law_j" ["_law_rows"] [0] {kind:= .function,names:= [(".0",.local),("_law_j",.local),("_law_rows",.free)],isGenerator:=false,isCoroutine:=false,more:= [] }:=
 lcM
seal PE PA PS PSs PT in
theorem bXD(T:vJ mg)(Y:mg "int"=none)(I:FnG P w K mg base 1 "_law_good" ["_law_rows","_law_number"] W9)(F:Fun K "_law_about" "_law_about" aVX f fd):xE P w K mg base CX0 2 f fd ["_law_rows","_law_cells","_law_k","_law_number","_law_turn"] bQz:=by
 have sc:=bZc;refine F.ok (k:=1) sc (λj5 A outer s H vs Q E hr h=>?_);obtain⟨ra,ca,rs,R,ns,k,m,turn,rfl,W,hR,hc,a4,j3,j2,q⟩:=h;refine⟨_,(yC (yU (i:=5) (yL yK (pv 1) (yV y0 (yV x5 (pv 2) yE) (yQ yO rfl T.b_len xB (yA (pv 1) yD))))) (yC (yU (i:=6) (yL yK (pv 1) (yV y0 (yV x5 (pv 2) yE) (yQ yO rfl T.b_len xB (yA (pv 1) yD))))) (yC (yU (i:=7) yE) (yC (y7 (xX (xJ I hr rfl (yA (pv 0) (yA (pv 3) yD)))) (yF (yU (i:=7) (yL yK (yL yK (pv 0) (pv 3)) yE))) yS) (yC (aZY (i:=8) bXp rfl sc.nd rfl rfl (zJ rfl T.b_range (yA (yQ yO rfl T.b_len xB (yA (pv 0) yD)) yD)) (λ_ _ _ _ _=>(w6 (yM z8 (yL (show IxR _ (aZd K)from yK) (yL (show IxR _ (aZd K)from yK) (pv 1) (pv 0)) yE) x3))) (λ_ _ _ _ _=>(pv 0))) (yC (y7 (PW.pt (vS (yM zF (pv 4) yE) (vS (yM (vR hr.units0) (pv 8) (y6 yD)) (wR (yM aXg (yV y0 (pv 5) yE) yE))))) (yF (yU (i:=3) (yL yK (pv 8) (yV y0 (pv 6) (yQ yO rfl T.b_len xB (yA (pv 8) yD)))))) yS) (yC (yU (i:=9) (yL yK (y6 (yA yR (yA yR (yA yR (yA yR (yA yR (yA (yV aQA yR yE) yD))))))) (yV y0 (pv 5) (yL yK (y6 (yA yE (yA yE yD))) (yV y0 (yL yK (pv 1) (pv 2)) yE))))) (yC (yU (i:=10) (x2 vB rfl Y uQ (yA (zP zF (yV y0 (yL yK (pv 1) (pv 2)) yE) yE) yD))) (yC (yU (i:=11) (yV wU (yV x5 (pv 7) (yV y0 (pv 5) (yL yK (y6 (yA yE (yA yE yD))) (pv 10)))) (yL yK (y6 (yA yE (yA yE yD))) (pv 10)))) (yC (yU (i:=12) (y6 (yA (xG (yA yR (yA (pv 3) yD))) (yA (xG (yA yR (yA (pv 3) (yA (pv 11) yD)))) yD)))) (yC (yY (vM bYG bYN bYO xD (pv 12) (yA (xG (yA yR (yA (pv 3) (yA (yL yK (y6 (yA yE (yA yE (yA yE (yA yE (yA (aYQ aJj yE) yD)))))) (yV y0 (pv 5) yE)) yD)))) yD))) (yC (yY (vM bYG bYN bYO xD (pv 12) (yA (xG (yA yR (yA (pv 3) (yA (yL yK (y6 (yA yR (yA yR (yA yR (yA yR (yA yR (yA (yV aQA yR yE) yD))))))) (yV y0 (pv 5) yE)) yD)))) yD))) (yC (yU (i:=13) (yL yK (y6 (yA (yV wU (yV y0 (pv 5) yE) yE) (yA (yV x5 (pv 7) (yV y0 (pv 5) yE)) yD))) (x2 vB rfl Y uQ (yA (zP zF (yV y0 (pv 6) yE) yE) yD)))) (yC (yU (i:=12) (yV aZS (pv 12) (y6 (yA (xG (yA yR (yA (pv 3) (yA (pv 9) yD)))) (yA (xG (yA yR (yA (pv 3) yD))) (yA (xG (yA yR (yA (pv 13) yD))) yD)))))) (yC (yU (i:=14) (y6 (yA (xG (yA yR (yA (pv 3) yD))) (yA (xG (yA yR (yA (pv 3) yD))) (yA (xG (yA yR (yA (yV wU (yV y0 (pv 6) yE) yE) yD))) yD))))) (yC (yU (i:=14) (yV aZS (pv 14) (y6 (yA (xG (yA yR (yA (pv 9) yD))) (yA (xG (yA yR (yA (yV wU (yV y0 (pv 6) yE) yE) yD))) (yA (xG (yA yR (yA (pv 3) yD))) yD)))))) (yC (y7 (yM vL (pv 4) yE) (yF (yP (yL yK (pv 12) (yV wU (pv 4) yE)))) yS) (yF (yP (yL yK (pv 14) (yV y0 (yV x5 (yV X5 (pv 5) yE) (pv 4)) yE))))))))))))))))))))),?_⟩;have a6:ns≠ []:=λz=>by rw[z]at a4;simp at a4
 have hl:(rs.map V.ref).length=R.length:=by rw[bYl];exact W.len
 have Z:(0:Int)<((ns.map V.int).length:Nat):=by rw[bYl];have:=cQu.mpr a6;omega
 have b8:(ns.map V.int)[k]? =some (.int ns[k]):=by rw[bYB,bYg a4];rfl
 obtain⟨d,b4⟩:=Y9 a6 ((k:Nat)+1);obtain⟨g,e1⟩:=Y9 a6 ((k:Nat)+2);refine⟨_,rfl,_,rfl,_,_,rfl,rfl,_,rfl,ca,_,rfl,.inl (SqL.of hc),_,_,rfl,rfl,Z,ca,_,_,_,rfl,rfl,SqL.of hc,b4,?_⟩;dsimp only[yW];refine⟨_,rfl,_,rfl,_,_,rfl,rfl,_,rfl,ca,_,rfl,.inl (SqL.of hc),_,_,rfl,rfl,Z,ca,_,_,_,rfl,rfl,SqL.of hc,e1,?_⟩;dsimp only[yW];refine bZy ?_;refine zC (λp t=>∃bs:Int,p= [some (.ref ra),some (.ref ca),some (.int (k:Nat)),some (.int m),some (.int turn),some (.int d),some (.int g),some (.int bs),none,none,none,none,none,none,none]/\t=H) ?jW (λl=>?_);case jW=>
  rintro p t ⟨bs,rfl,rfl⟩;refine⟨_,rfl,ra,_,rfl,.inl (SqL.of W.lst),?_⟩;rw[hl];refine⟨_,rfl,by omega,by omega,λD hD=>?_⟩;rw[bYW];refine Q3 (λj=> !decide (wZ (Bk.lk R j)=V.non)) (λk=>V.int (k:Nat)) hD (by rw[bYQ];omega) (λj hj H1 R' hH u=>?_) (λk hk _ t R' hH u=>⟨_,rfl,u⟩) ?_
  ·have d8:=bYg hj;obtain⟨b,U,g2,cp,o,B⟩:=W.get d8;have h5:H1 ra=some (.lst (rs.map V.ref)):=by rw[hH ra (yJ W.lst hD)];exact W.lst
   have hb:H1 b=_:=(hH b (yJ o hD)).trans o;rw[Bk.uA d8]at u;exact⟨_,rfl,_,rfl,ra,_,_,_,rfl,rfl,SqL.of h5,yT U,b,_,4,_,rfl,rfl,SqL.of hb,rfl,rfl,_,rfl,u⟩
  generalize i9:(bYu R.length).filter (λj=> !decide (wZ (Bk.lk R j)=V.non))=free;have k1:=yG hD (.lst (free.map λi=>V.int (i:Nat)));have a9:upd t D (.lst (free.map λi=>V.int (i:Nat))) D=some (.lst (free.map λi=>V.int (i:Nat))):=yB;generalize upd t D (.lst (free.map λi=>V.int (i:Nat)))=H1 at k1 a9 ⊢;dsimp only[yW];refine zC (λp H2=>∃m:Int,p= [some (.ref ra),some (.ref ca),some (.int (k:Nat)),some (.int m),some (.int turn),some (.int d),some (.int g),some (.int bs),some (.ref D),none,none,none,none,none,none]/\xC t H2) ?rest2 (λl=>?_);case rest2=>
   rintro p H2 ⟨m,rfl,k2⟩;refine⟨_,_,rfl,rfl,by decide,by decide,by decide,λJ i6=>⟨zn (by show 6<=100000;omega),λl6 i2=>?_⟩⟩;have e6:=yG i2 (.lst [.str "old",.str "",.str "new",.str "old files",.str "Old, ~",.str J]);have h6:upd H2 l6 (.lst [.str "old",.str "",.str "new",.str "old files",.str "Old, ~",.str J]) l6=some (.lst [.str "old",.str "",.str "new",.str "old files",.str "Old, ~",.str J]):=yB;generalize upd H2 l6 (.lst [.str "old",.str "",.str "new",.str "old files",.str "Old, ~",.str J])=H3 at e6 h6 ⊢;refine⟨_,rfl,z2,λl2 e3=>?_⟩;have e7:=yG e3 (.lst [.int 3,.int 6]);have h7:upd H3 l2 (.lst [.int 3,.int 6]) l2=some (.lst [.int 3,.int 6]):=yB;have d3:=e7 _ _ h6;have k4:=(k2.trans e6).trans e7;generalize upd H3 l2 (.lst [.int 3,.int 6])=H4 at e7 h7 d3 k4 ⊢;have d0:=k4 _ _ hc;refine⟨_,rfl,_,rfl,ca,_,_,_,rfl,rfl,SqL.of d0,yT b8,_,_,rfl,rfl,(show(0:Int)<2 by decide),?_⟩;refine qB rfl rfl (SqL.of h7) (md0 (by decide)) (md1 (by decide)) (by simp) λj hj=>?_;have i4:j=3\/j=6:=by simpa using hj
   refine⟨_,_,rfl,rfl,(show(0:Int)<j by omega),?_⟩;refine aQl rfl rfl (SqL.of d3) (md0 (by omega)) (Int.lt_of_lt_of_le (md1 (by omega)) (show j<=6 by omega)) (by simp) λe _=>?_;dsimp only[yW];refine⟨_,rfl,_,rfl,ca,_,_,_,rfl,rfl,SqL.of d0,yT b8,_,_,rfl,rfl,(show(0:Int)<11 by decide),rfl,.inr ⟨_,rfl,?_⟩⟩;generalize i5:decide (V.int (ns[k] % 11)=V.int 4)=wb;dsimp only[yW];refine⟨_,rfl,_,rfl,z2,λl9 h4=>⟨_,rfl,?_⟩⟩;have e9:=yG h4 (.lst [.int 9,.int 3001]);refine qB rfl rfl (SqL.of yB) b0 b1 (by simp) λj hj=>?_;have j0:j=9\/j=3001:=by simpa using hj
   refine⟨_,_,rfl,rfl,(show(0:Int)<j by omega),_,_,rfl,rfl,z2,λl4 e2=>⟨_,rfl,?_⟩⟩;have L:=(k4.trans e9).trans (yG e2 (.lst [.int 4,.int 1500]));refine qB rfl rfl (SqL.of yB) b0 b1 (by simp) λj4 _=>?_;refine⟨_,_,rfl,rfl,?_⟩;generalize upd (upd H4 l9 (.lst [.int 9,.int 3001])) l4 (.lst [.int 4,.int 1500])=H5 at L ⊢;dsimp only[yW];refine⟨_,rfl,z2,λp1 g0=>⟨_,rfl,_,rfl,z3,λp2 b7=>⟨z2,λX c7=>?_⟩⟩⟩;have M1:jX t (upd (upd (upd H5 p1 (.tup [.str "loose",.int m])) p2 (.tup [.str "date",.int m,.int (bs+d % j - j4)])) X (.lst [.ref p1,.ref p2])) X 2:=by
    have a1:=yG g0 (.tup [.str "loose",.int m]);have a2:=yG b7 (.tup [.str "date",.int m,.int (bs+d % j - j4)]);have a3:=yG c7 (.lst [.ref p1,.ref p2]);refine⟨((L.trans a1).trans a2).trans a3,((L.trans a1).trans a2).fresh c7,_,yB,rfl,λv a=>?_⟩;rcases bYq.mp a with rfl|a
    ·exact⟨p1,.loose m,rfl,a3 _ _ (a2 _ _ yB),trivial⟩
    ·rw[bYy.mp a];exact⟨p2,.date m (bs+d % j - j4),rfl,a3 _ _ yB,trivial⟩
   generalize upd (upd (upd H5 p1 (.tup [.str "loose",.int m])) p2 (.tup [.str "date",.int m,.int (bs+d % j - j4)])) X (.lst [.ref p1,.ref p2])=H6 at M1 ⊢;dsimp only[yW];obtain⟨e4,d4, -, -⟩:=M1.ex;refine⟨_,rfl,.inl ⟨rfl,_,SqL.of d4⟩,_,rfl,_,rfl,zn (by show 5<=100000;omega),λl5 h3=>⟨_,rfl,_,_,rfl,rfl,(show(0:Int)<5 by decide),?_⟩⟩;refine qB rfl rfl (SqL.of yB) (md0 (by decide)) (md1 (by decide)) (by simp) λtm _=>⟨z3,λp3 g8=>?_⟩;have a5:=(yG h3 (.lst [.int 0,.int 2,.int 6,.int 1,.int (-1)])).trans (yG g8 (.tup [.str "term",.int m,.int tm]));have d5:vN (upd (upd H6 l5 (.lst [.int 0,.int 2,.int 6,.int 1,.int (-1)])) p3 (.tup [.str "term",.int m,.int tm])) (.ref p3):=⟨p3,.term m tm,rfl,yB,trivial⟩;generalize upd (upd H6 l5 (.lst [.int 0,.int 2,.int 6,.int 1,.int (-1)])) p3 (.tup [.str "term",.int m,.int tm])=H7 at a5 d5 ⊢;have M2:=M1.same a5;have a8:=a5 _ _ d4;refine⟨X,_,_,rfl,rfl,a8,?_,?_⟩
   ·obtain⟨ws,w1,w2,_⟩:=M2.ex;rw[a8]at w1;cases w1;exact zlt (by omega)
   have M3:=M2.push a8 d5;generalize upd H7 X (.lst (e4++ [.ref p3]))=H8 at M3 ⊢;obtain⟨f9,d6, -, -⟩:=M3.ex;refine⟨_,rfl,.inl ⟨rfl,_,SqL.of d6⟩,_,rfl,_,_,rfl,rfl,by decide,by decide,by decide,λz4 i8=>⟨zn (by show 6<=100000;omega),λl7 f6=>⟨_,rfl,_,_,rfl,rfl,(show(0:Int)<6 by decide),?_⟩⟩⟩;refine aQl rfl rfl (SqL.of yB) (md0 (by decide)) (md1 (by decide)) (by simp) λG _=>⟨z3,λp4 f7=>?_⟩;have a7:=(yG f6 (.lst [.str "ann",.str "cy",.str "bo",.str "",.str "ann lee",.str z4])).trans (yG f7 (.tup [.str "copy",.int m,.str G]));have d7:vN (upd (upd H8 l7 (.lst [.str "ann",.str "cy",.str "bo",.str "",.str "ann lee",.str z4])) p4 (.tup [.str "copy",.int m,.str G])) (.ref p4):=⟨p4,.copy m G,rfl,yB,trivial⟩;generalize upd (upd H8 l7 (.lst [.str "ann",.str "cy",.str "bo",.str "",.str "ann lee",.str z4])) p4 (.tup [.str "copy",.int m,.str G])=H9 at a7 d7 ⊢;have M4:=M3.same a7;have b5:=a7 _ _ d6;refine⟨X,_,_,rfl,rfl,b5,?_,?_⟩
   ·obtain⟨ws,w1,w2,_⟩:=M4.ex;rw[b5]at w1;cases w1;exact zlt (by omega)
   have M5:=M4.push b5 d7;generalize upd H9 X (.lst (f9++ [.ref p4]))=H10 at M5 ⊢;refine⟨_,rfl,_,_,rfl,rfl,(show(0:Int)<24 by decide),_,_,rfl,rfl,_,rfl,_,rfl,_,_,rfl,rfl,(show(0:Int)<12 by decide),_,_,rfl,rfl,z2,λl8 g6=>⟨_,rfl,_,_,rfl,rfl,(show(0:Int)<3 by decide),rfl,.inr ⟨_,rfl,?_⟩⟩⟩;refine qB rfl rfl (SqL.of yB) b0 b1 (by simp) λn _=>?_;have M6:=M5.same (yG g6 (.lst [.int (d % 24 - 2),.int (bs+d % 12)]));generalize upd H10 l8 (.lst [.int (d % 24 - 2),.int (bs+d % 12)])=H11 at M6 ⊢;dsimp only[yW];obtain⟨a0,h8,d1,e8⟩:=M6.ex;refine⟨_,rfl,_,rfl,_,rfl,z3,λC f0=>⟨_,rfl,z2,λN f5=>⟨_,rfl,z2,λO e5=>⟨z3,λb3 b9=>?_⟩⟩⟩⟩;have c1:=yG f0 (.tup [.str "file",.int m,.str e]);have c2:=yG f5 (.tup [.str "void",.int m]);have c3:=yG e5 (.tup [.str "shut",.int n]);have c4:=yG b9 (.lst [.ref C,.ref N,.ref O]);refine⟨X,b3,_,_,rfl,rfl,c4 _ _ (c3 _ _ (c2 _ _ (c1 _ _ h8))),yB,by rw[d1,bYQ];show 7<=16777216;omega,λmb c9=>?_⟩;have c5:=yG c9 (.lst (a0++ [.ref C,.ref N,.ref O]));have M7:jX t (upd (upd (upd (upd (upd H11 C (.tup [.str "file",.int m,.str e])) N (.tup [.str "void",.int m])) O (.tup [.str "shut",.int n])) b3 (.lst [.ref C,.ref N,.ref O])) mb (.lst (a0++ [.ref C,.ref N,.ref O]))) mb 7:=by
    have kk:=(((M6.k.trans c1).trans c2).trans c3).trans c4;refine⟨kk.trans c5,kk.fresh c9,_,yB,by rw[bYE,d1];rfl,λv a=>?_⟩;rcases bYU.mp a with a|a
    ·exact(e8 v a).same ((((c1.trans c2).trans c3).trans c4).trans c5)
    ·rcases bYq.mp a with rfl|a
     ·exact⟨C,.file m e,rfl,c5 _ _ (c4 _ _ (c3 _ _ (c2 _ _ yB))),trivial⟩
     ·rcases bYq.mp a with rfl|a
      ·exact⟨N,.void m,rfl,c5 _ _ (c4 _ _ (c3 _ _ yB)),trivial⟩
      ·rw[bYy.mp a];exact⟨O,.shut n,rfl,c5 _ _ (c4 _ _ yB),trivial⟩
   generalize upd (upd (upd (upd (upd H11 C (.tup [.str "file",.int m,.str e])) N (.tup [.str "void",.int m])) O (.tup [.str "shut",.int n])) b3 (.lst [.ref C,.ref N,.ref O])) mb (.lst (a0++ [.ref C,.ref N,.ref O]))=H12 at M7 ⊢;dsimp only[yW];refine⟨_,rfl,z2,λr1 g9=>⟨_,rfl,z2,λr2 h0=>⟨_,rfl,_,_,rfl,rfl,(show(0:Int)<26 by decide),_,_,rfl,rfl,z2,λr3 h2=>⟨z3,λna d9=>?_⟩⟩⟩⟩;have f1:=yG g9 (.tup [.str "state",.int m]);have f2:=yG h0 (.tup [.str "thread",.int m]);have f3:=yG h2 (.tup [.str "overdue",.int (g % 26 - 1)]);have f4:=yG d9 (.lst [.ref r1,.ref r2,.ref r3]);have M8:=(((M7.same f1).same f2).same f3).same f4;have N1:jX t (upd (upd (upd (upd H12 r1 (.tup [.str "state",.int m])) r2 (.tup [.str "thread",.int m])) r3 (.tup [.str "overdue",.int (g % 26 - 1)])) na (.lst [.ref r1,.ref r2,.ref r3])) na 3:=by
    have kk:=((M7.k.trans f1).trans f2).trans f3;refine⟨kk.trans f4,kk.fresh d9,_,yB,rfl,λv a=>?_⟩;rcases bYq.mp a with rfl|a
    ·exact⟨r1,.state m,rfl,f4 _ _ (f3 _ _ (f2 _ _ yB)),trivial⟩
    ·rcases bYq.mp a with rfl|a
     ·exact⟨r2,.thread m,rfl,f4 _ _ (f3 _ _ yB),trivial⟩
     ·rw[bYy.mp a];exact⟨r3,.on true (g % 26 - 1),rfl,f4 _ _ yB,trivial⟩
   generalize upd (upd (upd (upd H12 r1 (.tup [.str "state",.int m])) r2 (.tup [.str "thread",.int m])) r3 (.tup [.str "overdue",.int (g % 26 - 1)])) na (.lst [.ref r1,.ref r2,.ref r3])=H13 at M8 N1 ⊢;dsimp only[yW];obtain⟨b2,g7,c0,i1⟩:=N1.ex;refine⟨_,rfl,_,rfl,z2,λS i0=>⟨_,rfl,_,_,rfl,rfl,(show(0:Int)<26 by decide),_,_,rfl,rfl,z2,λx f8=>⟨_,rfl,z2,λM i3=>⟨z3,λb6 c6=>?_⟩⟩⟩⟩;have U:=yG i0 (.tup [.str "letters",.str e]);have g2:=yG f8 (.tup [.str "waiting",.int (g % 26 - 1)]);have o:=yG i3 (.tup [.str "copies",.int m]);have B:=yG c6 (.lst [.ref S,.ref x,.ref M]);refine⟨na,b6,_,_,rfl,rfl,B _ _ (o _ _ (g2 _ _ (U _ _ g7))),yB,by rw[c0,bYQ];show 6<=16777216;omega,λnb e0=>?_⟩;have g5:=yG e0 (.lst (b2++ [.ref S,.ref x,.ref M]));have M9:=((((M8.same U).same g2).same o).same B).same g5;have N2:jX t (upd (upd (upd (upd (upd H13 S (.tup [.str "letters",.str e])) x (.tup [.str "waiting",.int (g % 26 - 1)])) M (.tup [.str "copies",.int m])) b6 (.lst [.ref S,.ref x,.ref M])) nb (.lst (b2++ [.ref S,.ref x,.ref M]))) nb 6:=by
    have kk:=(((M8.k.trans U).trans g2).trans o).trans B;refine⟨kk.trans g5,kk.fresh e0,_,yB,by rw[bYE,c0];rfl,λv a=>?_⟩;rcases bYU.mp a with a|a
    ·exact(i1 v a).same ((((U.trans g2).trans o).trans B).trans g5)
    ·rcases bYq.mp a with rfl|a
     ·exact⟨S,.letters e,rfl,g5 _ _ (B _ _ (o _ _ (g2 _ _ yB))),trivial⟩
     ·rcases bYq.mp a with rfl|a
      ·exact⟨x,.on false (g % 26 - 1),rfl,g5 _ _ (B _ _ (o _ _ yB)),trivial⟩
      ·rw[bYy.mp a];exact⟨M,.copies m,rfl,g5 _ _ (B _ _ yB),trivial⟩
   generalize upd (upd (upd (upd (upd H13 S (.tup [.str "letters",.str e])) x (.tup [.str "waiting",.int (g % 26 - 1)])) M (.tup [.str "copies",.int m])) b6 (.lst [.ref S,.ref x,.ref M])) nb (.lst (b2++ [.ref S,.ref x,.ref M]))=H14 at M9 N2 ⊢;dsimp only[yW];refine⟨_,rfl,_,_,rfl,rfl,_,rfl,?_⟩;refine qA (λc=>?_) (λc=>?_)
   ·have c:turn<22:=of_decide_eq_true c;obtain⟨us,u1,u2,u3⟩:=M9.ex;refine⟨_,rfl,_,rfl,_,_,rfl,rfl,?_⟩;exact aWB rfl rfl (SqL.of u1) (by omega) (by rw[u2];show turn - 15<7;omega) λv a=>q _ _ M9.k (u3 v a)
   ·obtain⟨us,u1,u2,u3⟩:=N2.ex;refine⟨_,rfl,_,rfl,_,_,rfl,rfl,⟨by decide,by decide⟩,_,rfl,_,_,rfl,rfl,_,_,rfl,rfl,(show(0:Int)<6 by decide),?_⟩;exact aWB rfl rfl (SqL.of u1) (md0 (by decide)) (by rw[u2];exact md1 (by decide)) λv a=>q _ _ N2.k (u3 v a)
  refine⟨_,rfl,rfl,_,rfl,?_⟩;cases j1:decide (V.int turn=V.int 15)with
  |false=>exact onF rfl (onF rfl (l _ _ ⟨m,rfl,k1⟩))
  |true=>
  refine onT rfl ⟨_,rfl,z0,λpn c8=>⟨D,pn,_,rfl,rfl,SqL.of ((yG c8 (.lst [])) _ _ a9),SqL.of yB,_,rfl,?_⟩⟩;have L:=yG c8 (.lst []);generalize upd H1 pn (.lst [])=H4 at L ⊢;by_cases y:free= []
  ·subst y;exact onF rfl (onF rfl (l _ _ ⟨m,rfl,k1.trans L⟩))
  refine onT (by cases free with|nil=>exact absurd rfl y|cons=>rfl) ⟨_,rfl,_,_,rfl,rfl,(show(0:Int)<4 by decide),_,_,rfl,rfl,_,rfl,?_⟩;refine qA (λc=>?_) (λc=>l _ _ ⟨m,rfl,k1.trans L⟩);obtain⟨g',h9⟩:=aJs y g;have d2:=L _ _ a9;have b7:(0:Int)<((free.map λi=>V.int (i:Nat)).length:Nat):=by rw[bYl];have:=cQu.mpr y;omega
  refine⟨_,rfl,_,rfl,_,rfl,D,_,rfl,.inl (SqL.of d2),_,_,rfl,rfl,b7,D,_,_,_,rfl,rfl,SqL.of d2,h9,?_⟩;dsimp only[yW];exact l _ _ ⟨g',rfl,k1.trans L⟩
 refine⟨_,rfl,_,rfl,ra,rs,R,m,rfl,W,_,rfl,?_⟩;cases h1:Bk.wI R m with
 |false=>exact onF rfl (l _ _ ⟨0,rfl,rfl⟩)
 |true=>
 obtain⟨i,r,rfl,i7,hi,a⟩:=Bk.wJ h1;obtain⟨b,U,g2,cp,o,B⟩:=W.get hi;refine onT rfl ⟨_,rfl,_,rfl,ra,_,_,_,rfl,rfl,SqL.of W.lst,yT U,b,_,1,_,rfl,rfl,SqL.of o,rfl,?_⟩;dsimp only[yW];exact l _ _ ⟨r.date,rfl,rfl⟩
end
end Law
namespace Law
open PySem L2 PyProof.Rows
open Bk (Row Rows xW xN Ans)
open Desk (xH vI uP Wf wW stV)
theorem bWl:bY2 "max"=some (.builtin "max"):=dk
theorem aJG{c:TT}{t u:TS}{D:aKB}{σ:L2.St}{H:Hp}(I:Bool->Hp->Prop)(h:∀Kk:Bool->Hp->Prop,(∀b a,I b a->Kk b a)->c σ H Kk)(e:∀a,I true a->t D σ a)(d:∀a,I false a->u D σ a):bKk c t u D σ H:=
 h _ λb a i=>by
  cases b with
  |true=>exact onT rfl (e a i)
  |false=>exact onF rfl (d a i)
theorem bJf{c:TT}{t u r:TS}{D:aKB}{σ:L2.St}{H:Hp}(h:bKk c t u {D with nx:=r D} σ H):bKl (bKk c t u) r D σ H:=h
theorem p60:(0:Int)<10 ^ (60:Int).toNat:=dk
theorem c60:bKL 10 60:=⟨by decide,by decide,by decide⟩
abbrev aJ9:Stmt:=xF "_law_deed_at"
def aWa:Sp:=λf H Q _=>∃ (d b:Nat)(e:List Nat)(R:Rows)(c:List Int)(k:Nat),f= [.ref d,.ref b,.int (k:Nat)]/\xA H d e R/\R.length<=60/\H b=some (.lst (c.map V.int))/\k<c.length/\
 ∀ (a:Hp)(v:V),xC H a->vN a v->Q v a
section
variable {K:bYj}
theorem bQp:yN ["_law_rows","_law_cells","_law_k","_law_near","_law_far","_law_turn","_law_number","_law_term","_law_date","_law_who","_law_twin","_law_base"] ["_law_rows","_law_cells","_law_k"] (yH aJ9):=scM
seal PE PA PS PSs PT in
theorem aYC(T:vJ mg)(Y:mg "int"=none)(b4:mg "max"=none)(X:FnG P w K mg base 2 "_law_good" ["_law_rows","_law_number"] W9)(u:FnG P w K mg base 2 "_law_hanging" ["_law_rows","_law_cells","_law_k","_law_number"] aJc) (M:FnG P w K mg base 2 "_law_about" ["_law_rows","_law_cells","_law_k","_law_number","_law_turn"] bQz) (F:Fun K "_law_deed_at" "_law_deed_at" aJ9 f fd):xE P w K mg base CX0 3 f fd ["_law_rows","_law_cells","_law_k"] aWa:=by
 have sc:=bQp;refine F.ok (k:=2) sc (λd2 A outer s H vs Q E hr h=>?_);obtain⟨G,g,rs,R,B,k,rfl,hB,hR,L,S,q⟩:=h;refine⟨_,(yC (yU (i:=3) (yL yK (pv 1) (yV y0 (yV x5 (pv 2) yE) (yQ yO rfl T.b_len xB (yA (pv 1) yD))))) (yC (yU (i:=4) (yL yK (pv 1) (yV y0 (yV x5 (pv 2) yE) (yQ yO rfl T.b_len xB (yA (pv 1) yD))))) (yC (yU (i:=5) (yV y0 (yV x5 (yL yK (pv 1) (pv 2)) (yV aVN yE (pv 2))) yE)) (yC (yU (i:=6) (yV y0 (yV x5 (pv 4) (pv 2)) (yQ (aKJ rfl) rfl b4 bWl (yA yE (yA (yQ yO rfl T.b_len xB (yA (pv 0) yD)) yD))))) (yC (y7 (yM zF (yV y0 (yL yK (pv 1) (pv 2)) yE) yE) (yF (yU (i:=6) (yL yK (y6 (yA (aYQ aJj yE) (yA (yQ yO rfl T.b_len xB (yA (pv 0) yD)) (yA (yV aQB yE yE) (yA (yV wU (aYQ aJj yE) (yV y0 (pv 3) (yV aQB yE yE))) (yA (yV x5 (yQ yO rfl T.b_len xB (yA (pv 0) yD)) (yV y0 (pv 3) (yV aQB yE yE))) yD)))))) (yV y0 (pv 3) yE)))) yS) (yC (yU (i:=7) (yL yK (y6 (yA yE (yA yE (yA yE (yA yE (yA yE (yA yE yD))))))) (yV y0 (yV X5 (pv 3) yE) yE))) (yC (y7 (yM zF (yV y0 (yL yK (pv 1) (pv 2)) yE) yE) (yF (yU (i:=7) (yL yK (y6 (yA (aYQ aJj yE) (yA yE (yA (yV wU (aYQ aJj yE) (yV y0 (pv 4) (yV aQB yE yE))) (yA (yV y0 (pv 4) yE) yD))))) (yV y0 (pv 4) yE)))) yS) (yC (y7 (PW.pt (jV (yM vL (pv 5) yE) (vT (yM (aVM hr.units0) (pv 0) (y6 yD))))) (yC (yU (i:=8) (yV x5 (yV wU (yV y0 (pv 3) yE) yE) (yV aVN (yV aQB yE yE) (x2 vB rfl Y uQ (yA (zP zF (yV y0 (yL yK (pv 1) (pv 2)) yE) yE) yD))))) (yC (y7 (yM zF (yV y0 (yL yK (pv 1) (pv 2)) yE) yE) (yF (yU (i:=8) (yL yK (y6 (yA (yV wU (yV y0 (pv 3) yE) yE) (yA (yV y0 (pv 3) (yV aQB yE yE)) (yA (yV wU yE (yV y0 (pv 3) (yV aQB yE yE))) yD)))) (yV y0 (pv 4) yE)))) yS) (yC (yU (i:=9) (yL yK (y6 (yA yR (yA yR (yA yR (yA yR yD))))) (yV y0 (pv 4) yE))) (yC (y7 (yM zF (yV y0 (yL yK (pv 1) (pv 2)) yE) yE) (yC (yU (i:=10) (yV aXq (yV aXq (yV aQA yR (yV y0 (yL yK (pv 1) yE) yE)) yR) (yV aQA yR (yV wU yE (yV y0 (yL yK (pv 1) yE) yE))))) (yF (yU (i:=9) (yL yK (y6 (yA yR (yA (pv 10) (yA (yV aQA yR yE) yD)))) (yV y0 (pv 4) yE))))) yS) (yF (yP (xG (yA (yL yK (y6 (yA yR (yA yR yD))) (yV y0 (yV X5 (pv 4) yE) yE)) (yA (pv 8) (yA (pv 9) (yA (pv 7) yD))))))))))) yS) (yC (y7 (yM vL (pv 5) yE) (yC (yU (i:=11) (yV y0 (pv 3) yE)) (yC (y7 (xX (xJ X hr rfl (yA (pv 0) (yA (pv 6) yD)))) (yF (yU (i:=11) (yV wU (yV x5 (yL yK (yL yK (pv 0) (pv 6)) yE) (yV y0 (pv 3) (yL yK (y6 (yA yE (yA yE yD))) (x2 vB rfl Y uQ (yA (zP zF (yV y0 (yL yK (pv 1) (pv 2)) yE) yE) yD))))) yE))) yS) (yF (yP (xG (yA yR (yA (pv 6) (yA (pv 11) (yA (pv 7) yD))))))))) yS) (yC (y7 (yM vL (pv 5) yE) (yF (yP (xJ u hr rfl (yA (pv 0) (yA (pv 1) (yA (pv 2) (yA (pv 6) yD))))))) yS) (yF (yP (xJ M hr rfl (yA (pv 0) (yA (pv 1) (yA (pv 2) (yA (pv 6) (yA (pv 5) yD)))))))))))))))))),?_⟩;have U:B≠ []:=λz=>by rw[z]at S;simp at S
 have Z:(0:Int)<((B.map V.int).length:Nat):=by rw[bYl];have:=cQu.mpr U;omega
 have o:(B.map V.int)[k]? =some (.int B[k]):=by rw[bYB,bYg S];rfl
 have a7:(B.map V.int)[0]? =some (.int (B[0]'(by omega))):=by rw[bYB,bYg (by omega:0<B.length)];rfl
 obtain⟨l,a3⟩:=Y9 U ((k:Nat)+1);obtain⟨I,b3⟩:=Y9 U ((k:Nat)+2);refine⟨_,rfl,_,rfl,_,_,rfl,rfl,_,rfl,g,_,rfl,.inl (SqL.of L),_,_,rfl,rfl,Z,g,_,_,_,rfl,rfl,SqL.of L,a3,?_⟩;dsimp only[yW];refine⟨_,rfl,_,rfl,_,_,rfl,rfl,_,rfl,g,_,rfl,.inl (SqL.of L),_,_,rfl,rfl,Z,g,_,_,_,rfl,rfl,SqL.of L,b3,?_⟩;dsimp only[yW];refine⟨_,rfl,_,rfl,g,_,_,_,rfl,rfl,SqL.of L,yT o,_,rfl,_,_,rfl,rfl,.inl ⟨by decide,by decide⟩,_,_,rfl,rfl,_,_,rfl,rfl,(show(0:Int)<24 by decide),?_⟩;dsimp only[yW];obtain⟨turn,y⟩:∃turn:Int,turn=(B[k]+5*(k:Nat)) % 24:=⟨_,rfl⟩;have c6:0<=turn:=by rw[y];exact md0 (by decide)
 have b5:turn<24:=by rw[y];exact md1 (by decide)
 rw[<- y];refine⟨_,rfl,_,rfl,_,_,rfl,rfl,_,rfl,G,_,rfl,.inl (SqL.of hB.lst),_,_,rfl,_,_,rfl,rfl,?_,?_⟩
 ·show(0:Int)<(if _ then _ else _);split<;> omega
 dsimp only[yW];refine zC (λe C=>∃m:Int,e= [some (.ref G),some (.ref g),some (.int (k:Nat)),some (.int l),some (.int I),some (.int turn),some (.int m),none,none,none,none,none]/\xC H C) ?jW (λa=>?_);case jW=>
  rintro e H1 ⟨m,rfl,k1⟩;refine⟨zn (by show 6<=100000;omega),λl6 c1=>⟨_,rfl,_,_,rfl,rfl,⟨by decide,by decide⟩,_,_,rfl,rfl,(show(0:Int)<6 by decide),?_⟩⟩;refine qB rfl rfl (SqL.of yB) (md0 (by decide)) (md1 (by decide)) (by simp) λt0 _=>?_;have k2:=k1.trans (yG c1 (.lst [.int 0,.int 2,.int 1,.int 5,.int 3,.int 7]));generalize upd H1 l6 (.lst [.int 0,.int 2,.int 1,.int 5,.int 3,.int 7])=H2 at k2 ⊢;have b9:=k2 _ _ L;dsimp only[yW];refine zC (λe C=>∃t:Int,e= [some (.ref G),some (.ref g),some (.int (k:Nat)),some (.int l),some (.int I),some (.int turn),some (.int m),some (.int t),none,none,none,none]/\xC H C) ?rest2 (λa=>?_);case rest2=>
   rintro e H3 ⟨t,rfl,k3⟩;have c7:=k3 _ _ L;have c3:=hB.same k3;refine bJf (aJG (λb C=>xC H C) ?_ ?_ ?_)
   ·intro Kk hK;refine⟨_,rfl,_,_,rfl,rfl,_,rfl,?_⟩;refine qA (λc=>hK _ _ k3) (λc=>?_);exact⟨_,rfl,z0,λpn a8=>⟨G,pn,_,rfl,rfl,SqL.of ((yG a8 (.lst [])) _ _ c3.lst),SqL.of yB,_,rfl,hK _ _ (k3.trans (yG a8 _))⟩⟩
   ·intro H4 O;have D:=O _ _ L;refine⟨_,rfl,_,_,rfl,rfl,(show(0:Int)<20 by decide),_,_,rfl,rfl,_,_,rfl,rfl,⟨by decide,by decide,by decide⟩,_,rfl,_,rfl,g,_,_,_,rfl,rfl,SqL.of D,yT o,_,_,rfl,rfl,(show(0:Int)<37 by decide),rfl,.inr ⟨_,rfl,_,_,rfl,rfl,.inl ⟨dk,dk⟩,_,_,rfl,rfl,?_⟩⟩;dsimp only[yW];refine zC (λe C=>∃d:Int,e= [some (.ref G),some (.ref g),some (.int (k:Nat)),some (.int l),some (.int I),some (.int turn),some (.int m),some (.int t),some (.int d),none,none,none]/\xC H C) ?rest3 (λa=>?_);case rest3=>
     rintro e H5 ⟨d,rfl,k5⟩;refine⟨zn (by show 4<=100000;omega),λl4 b6=>⟨_,rfl,_,_,rfl,rfl,(show(0:Int)<4 by decide),?_⟩⟩;refine aQl rfl rfl (SqL.of yB) (md0 (by decide)) (md1 (by decide)) (by simp) λa6 _=>?_;have k6:=k5.trans (yG b6 (.lst [.str "ann",.str "bo",.str "ann",.str ""]));generalize upd H5 l4 (.lst [.str "ann",.str "bo",.str "ann",.str ""])=H6 at k6 ⊢;have a2:=k6 _ _ L;dsimp only[yW];refine zC (λe C=>∃ (a1:Str)(b2:Option V),e= [some (.ref G),some (.ref g),some (.int (k:Nat)),some (.int l),some (.int I),some (.int turn),some (.int m),some (.int t),some (.int d),some (.str a1),b2,none]/\xC H C) ?rest4 (λa=>?_);case rest4=>
      rintro e H7 ⟨a1,b2,rfl,k7⟩;refine⟨z2,λl2 a0=>⟨_,rfl,_,_,rfl,rfl,⟨by decide,by decide⟩,_,_,rfl,rfl,(show(0:Int)<2 by decide),?_⟩⟩;refine aQl rfl rfl (SqL.of yB) (md0 (by decide)) (md1 (by decide)) (by simp) λa4 a9=>?_;have hw:a4="in"\/a4="out":=by simpa using a9
      refine⟨_,rfl,_,rfl,_,rfl,z4,λp hp=>?_⟩;exact q _ _ ((k7.trans (yG a0 _)).trans (yG hp _)) ⟨p,.enter a4 d a1 t,rfl,yB,hw⟩
     refine⟨_,rfl,_,rfl,g,_,_,_,rfl,rfl,SqL.of a2,yT o,_,_,rfl,rfl,(show(0:Int)<13 by decide),rfl,_,rfl,?_⟩;refine qA (λc=>?_) (λc=>a _ _ ⟨a6,none,rfl,k6⟩);have W:∀x:Int,0<=x % 40/\x % 40<=39:=λx=>⟨md0 (by decide),by have:=md1 (x:=x) (n:=40) (by decide);omega⟩;refine⟨_,rfl,g,_,_,_,rfl,rfl,SqL.of a2,yT (j:=0) a7,_,_,rfl,rfl,(show(0:Int)<40 by decide),_,_,rfl,rfl,by decide,(W _).1,by have:=(W (B[0]'(by omega))).2;omega,λza b8=>?_⟩;refine⟨_,_,rfl,rfl,by rw[bYQ];show za.length+1<=_;omega,?_⟩;refine⟨_,rfl,g,_,_,_,rfl,rfl,SqL.of a2,yT (j:=0) a7,_,_,rfl,rfl,(show(0:Int)<40 by decide),_,_,rfl,rfl,_,_,rfl,rfl,by decide,by have:=(W (B[0]'(by omega))).2;omega,by have:=(W (B[0]'(by omega))).1;omega,λzb c4=>?_⟩;have d0:(za++("y":Str)).length<=101:=by
      show(za.cps++_).size<=101;rw[Array.size_append];have:za.cps.size<=100:=b8;have:("y":Str).cps.size=1:=by decide
      omega
     refine⟨_,_,rfl,rfl,by rw[bYQ];omega,?_⟩;dsimp only[yW];refine⟨_,rfl,_,_,rfl,rfl,by decide,by decide,by decide,λzc c8=>⟨z3,λl3 N=>⟨_,rfl,_,_,rfl,rfl,(show(0:Int)<3 by decide),?_⟩⟩⟩;refine aQl rfl rfl (SqL.of yB) (md0 (by decide)) (md1 (by decide)) (by simp) λa5 _=>?_;dsimp only[yW];exact a _ _ ⟨a5,_,rfl,k6.trans (yG N _)⟩
    refine⟨_,rfl,_,rfl,g,_,_,_,rfl,rfl,SqL.of D,yT o,_,_,rfl,rfl,(show(0:Int)<37 by decide),rfl,_,rfl,?_⟩;refine qA (λc=>?_) (λc=>a _ _ ⟨_,rfl,O⟩);refine⟨_,rfl,_,_,rfl,rfl,(show(0:Int)<2001 by decide),_,_,rfl,rfl,_,rfl,_,_,rfl,rfl,c60,_,_,rfl,rfl,p60,_,rfl,_,_,rfl,rfl,c60,_,_,rfl,rfl,p60,_,_,rfl,rfl,z3,λl3 N=>⟨_,rfl,_,_,rfl,rfl,(show(0:Int)<3 by decide),?_⟩⟩;refine qB rfl rfl (SqL.of yB) (md0 (by decide)) (md1 (by decide)) (by simp) λd1 _=>?_;dsimp only[yW];exact a _ _ ⟨d1,rfl,O.trans (yG N _)⟩
   ·intro H4 O;have D:=O _ _ L;have J:=hB.same O;dsimp only[aJg];refine⟨_,rfl,_,_,rfl,rfl,_,rfl,?_⟩;refine qA (λc=>?_) (λc=>?_)
    ·refine⟨_,rfl,_,_,rfl,rfl,(show(0:Int)<20 by decide),?_⟩;dsimp only[yW];refine zC (λe C=>∃bs:Int,e= [some (.ref G),some (.ref g),some (.int (k:Nat)),some (.int l),some (.int I),some (.int turn),some (.int m),some (.int t),none,none,none,some (.int bs)]/\xC H C) ?rest5 (λa=>?_);case rest5=>
      rintro e H5 ⟨bs,rfl,k5⟩;refine⟨_,rfl,_,rfl,_,rfl,z4,λp hp=>?_⟩;exact q _ _ (k5.trans (yG hp _)) ⟨p,.reply m bs t,rfl,yB,trivial⟩
     refine⟨_,rfl,_,rfl,G,rs,R,m,rfl,J,_,rfl,?_⟩;cases h1:Bk.wI R m with
     |false=>exact onF rfl (a _ _ ⟨_,rfl,O⟩)
     |true=>
     obtain⟨i,r,rfl,c5,hi,hv⟩:=Bk.wJ h1;obtain⟨b,g1,g2,cp,g3,g4⟩:=J.get hi;refine onT rfl ⟨_,rfl,_,rfl,G,_,_,_,rfl,rfl,SqL.of J.lst,yT g1,b,_,1,_,rfl,rfl,SqL.of g3,rfl,_,rfl,z2,λl2 a0=>?_⟩;have e2:=yG a0 (.lst [.int 7,.int 3000]);have b7:=e2 _ _ D;refine⟨_,rfl,_,rfl,g,_,_,_,rfl,rfl,SqL.of b7,yT o,_,_,rfl,rfl,(show(0:Int)<11 by decide),rfl,.inr ⟨_,rfl,?_⟩⟩;refine qB rfl rfl (SqL.of yB) b0 b1 (by simp) λj hj=>?_;have c9:j=7\/j=3000:=by simpa using hj
     refine⟨_,_,rfl,rfl,(show(0:Int)<j by omega),_,_,rfl,rfl,_,_,rfl,rfl,?_⟩;dsimp only[yW];exact a _ _ ⟨_,rfl,O.trans e2⟩
    ·have c:¬turn<12:=of_decide_eq_false (Bool.eq_false_iff.mpr c);refine⟨_,rfl,_,_,rfl,rfl,_,rfl,?_⟩;refine qA (λc2=>?_) (λc2=>?_)
     ·exact⟨_,rfl,_,rfl,_,rfl,_,rfl,G,g,rs,R,B,k,m,rfl,J,hR,D,U,λC v k5 hd=>q _ _ (O.trans k5) hd⟩
     ·have c2:¬turn<15:=of_decide_eq_false (Bool.eq_false_iff.mpr c2);exact⟨_,rfl,_,rfl,_,rfl,_,rfl,_,rfl,G,g,rs,R,B,k,m,turn,rfl,J,hR,D,S,by omega,b5,λC v k5 hd=>q _ _ (O.trans k5) hd⟩
  refine⟨_,rfl,_,rfl,g,_,_,_,rfl,rfl,SqL.of b9,yT o,_,_,rfl,rfl,(show(0:Int)<29 by decide),rfl,_,rfl,?_⟩;refine qA (λc=>?_) (λc=>a _ _ ⟨t0,rfl,k2⟩);refine⟨_,rfl,_,rfl,_,rfl,_,_,rfl,rfl,c60,_,_,rfl,rfl,p60,_,_,rfl,rfl,_,rfl,_,_,rfl,rfl,(show(0:Int)<990 by decide),z4,λl3 N=>⟨_,rfl,_,_,rfl,rfl,(show(0:Int)<4 by decide),?_⟩⟩;refine qB rfl rfl (SqL.of yB) (md0 (by decide)) (md1 (by decide)) (by simp) λt1 _=>?_;dsimp only[yW];exact a _ _ ⟨t1,rfl,k2.trans (yG N _)⟩
 refine⟨_,rfl,_,rfl,g,_,_,_,rfl,rfl,SqL.of L,yT o,_,_,rfl,rfl,(show(0:Int)<23 by decide),rfl,_,rfl,?_⟩;refine qA (λc=>?_) (λc=>a _ _ ⟨_,rfl,xC.refl _⟩);refine⟨_,rfl,_,rfl,G,_,rfl,.inl (SqL.of hB.lst),_,_,rfl,rfl,⟨by decide,by decide,by decide⟩,_,rfl,_,rfl,_,_,rfl,rfl,c60,_,_,rfl,rfl,p60,_,_,rfl,rfl,_,rfl,G,_,rfl,.inl (SqL.of hB.lst),_,rfl,_,_,rfl,rfl,c60,_,_,rfl,rfl,p60,_,_,rfl,rfl,zn (by show 5<=100000;omega),λl5 c0=>⟨_,rfl,_,_,rfl,rfl,(show(0:Int)<5 by decide),?_⟩⟩;refine qB rfl rfl (SqL.of yB) (md0 (by decide)) (md1 (by decide)) (by simp) λm1 _=>?_;dsimp only[yW];exact a _ _ ⟨m1,rfl,yG c0 _⟩
end
end Law
namespace Law
open PySem L2 PyProof.Rows
open Bk (Row Rows xW xN Ans)
open Desk (xH vI uP Wf Up Run zD jU)
abbrev aVZ:Stmt:=xF "_law_story"
def aZa:Sp:=λd H Q _=>∃ (h:Nat)(g:List Int),d= [.ref h]/\H h=some (.lst (g.map V.int))/\g.length<=40/\
 ∀ (b:Hp)(t j k:Nat)(f:List Nat)(c:List xN)(d:List V)(i:List Ans)(R:Rows)(S:List Int),xC H b->b t=some (.tup [.ref j,.ref k])->zD b j f c->b k=some (.lst d)->bY6 (λv a=>vI [] b a v) d i->Run [] [] c i R S->(∀e∈c,Wf e)->c.length<=g.length+3->Q (.ref t) b
theorem Mid.start{H k c n:Hp}{o sa ds us:Nat}(g:LGo H o sa [] [] k [])(i:List xN)(a:List Nat)(l:xC k c)(m:k ds=none)(t:c ds=some (.lst (a.map V.ref)))(q:xC c n)(f:c us=none)(u:n us=some (.lst []))(y:∀e∈i,Wf e)(len:a.length=i.length) (p:∀ (j:Nat)(d:Nat)(e:xN),a[j]? =some d->i[j]? =some e->c d=some (.tup (xH e))):Mid H o sa ds us i a 0 n:=by
 have ne:ds≠us:=λz=>by rw[<- z,t]at f;cases f
 obtain⟨R,S,s,_⟩:=g.ex;have d1:∀ {x},k x=none->x≠o/\x≠sa:=λ{x} h=>⟨λz=>(by rw[z,s.book.lst]at h;cases h),λz=>(by rw[z,s.shut]at h;cases h)⟩;refine⟨ne,y,len,λj d e v w=>q _ _ (p j d e v w),[],[],[],(g.same l).same q,⟨q _ _ t,g.keep.fresh m,(d1 m).1,(d1 m).2,by simp,λb r=>by simp at r⟩,⟨u,g.keep.fresh (l.fresh f),(d1 (l.fresh f)).1,(d1 (l.fresh f)).2,by simp,λb r=>by simp at r⟩,.nil⟩
section
variable {K:bYj}
theorem bZt:yN ["_law_cells","_law_rows","_law_shut","_law_deeds","_law_dues","_law_k","_law_deed"] ["_law_cells"] (yH aVZ):=scM
theorem bXr:xO ["_law_cells","_law_rows","_law_shut","_law_deeds","_law_dues","_law_k","_law_deed"] (yH aVZ) "_law_deed" ["_law_rows","_law_shut"] [1,2] {kind:= .function,names:= [(".0",.local),("_law_deed",.local),("_law_done_by",.globalImplicit),("_law_rows",.free),("_law_shut",.free)],isGenerator:=false,isCoroutine:=false,more:= [] }:=
 lcM
seal PE PA PS PSs PT in
theorem bXU(T:vJ mg)(l:FnG P w K mg base 5 "_law_done_by" ["_law_rows","_law_shut","_law_deed"] aXw)(C:FnG P w K mg base 5 "_law_deed_at" ["_law_rows","_law_cells","_law_k"] aWa)(F:Fun K "_law_story" "_law_story" aVZ f fd):xE P w K mg base CX0 6 f fd ["_law_cells"] aZa:=by
 have sc:=bZt;refine F.ok (k:=5) sc (λd2 A outer s H vs Q E hr h=>?_);obtain⟨ca,ns,rfl,hc,hn,q⟩:=h;refine⟨_,(yC (yU (i:=1) (y6 yD)) (yC (yU (i:=2) (y6 yD)) (yC (yU (i:=3) (y6 yD)) (yC (yU (i:=4) (y6 yD)) (yC (y7 (PW.pt (vS (yM (vR hr.units0) (pv 0) (y6 yD)) (wR (yM zF (yV y0 (yL yK (pv 0) yE) yE) yE)))) (yC (yU (i:=3) (y6 (yA (xG (yA yR (yA yE (yA yR (yA yE yD))))) (yA (xG (yA yR (yA yE (yA yE (yA yE yD))))) (yA (xG (yA yR (yA yE (yA yE yD)))) yD))))) (yF (aZY (i:=4) bXr rfl sc.nd rfl rfl (xL (pv 3)) (λ_ _ _ _ _=>wK) (λ_ _ _ _ _=>(xJ l hr rfl (yA (pv 1) (yA (pv 2) (yA (pv 0) yD)))))))) yS) (yC (zR bY5 rfl (zJ rfl T.b_range (yA (yQ yO rfl T.b_len xB (yA (pv 0) yD)) yD)) (y9 (i:=5)) (yC (yU (i:=6) (xJ C hr rfl (yA (pv 1) (yA (pv 0) (yA (pv 5) yD))))) (yC (yY (vM bYG bYN bYO xD (pv 3) (yA (pv 6) yD))) (yF (yY (vM bYG bYN bYO xD (pv 4) (yA (xJ l hr rfl (yA (pv 1) (yA (pv 2) (yA (pv 6) yD)))) yD))))))) (yF (yP (xG (yA (pv 3) (yA (pv 4) yD))))))))))),?_⟩;refine⟨z0,λU c8=>?_⟩;dsimp only[yW];refine⟨z0,λW c3=>?_⟩;dsimp only[yW];have g0:=LGo.start c8 c3;generalize upd (upd H U (.lst [])) W (.lst [])=H2 at g0 ⊢;refine⟨z0,λB b4=>?_⟩;dsimp only[yW];refine⟨z0,λI b1=>?_⟩;dsimp only[yW];have k3:=yG b4 (.lst []);have k4:=yG b1 (.lst []);have M0:Mid H U W B I [] [] 0 (upd (upd H2 B (.lst [])) I (.lst [])):=Mid.start g0 [] [] k3 b4 yB k4 b1 yB (λe h=>by simp at h) rfl (λj d e h=>by simp at h);have gk:=g0.same (k3.trans k4);generalize upd (upd H2 B (.lst [])) I (.lst [])=H4 at M0 gk k4 ⊢;have b3:=M0.keep _ _ hc;refine zC (λσ' Z=>∃ (B I:Nat)(x:List xN)(b:List Nat),σ'= [some (.ref ca),some (.ref U),some (.ref W),some (.ref B),some (.ref I),none,none]/\Mid H U W B I x b x.length Z/\x.length<=3) ?jW (λa0=>?_);case jW=>
  rintro σ' H5 ⟨B,I,x,b,rfl,M5,h3⟩;refine⟨_,rfl,ca,_,rfl,.inl (SqL.of (M5.keep _ _ hc)),?_⟩;rw[bYl];refine⟨_,rfl,by omega,by omega,?_⟩;rw[bYW];refine z6 (λt σ H6=>∃ (x:List xN)(b:List Nat)(o5 o6:Option V),σ= [some (.ref ca),some (.ref U),some (.ref W),some (.ref B),some (.ref I),o5,o6]/\Mid H U W B I x b x.length H6/\x.length<=3+t) ?_ ?_ ?_
  ·exact⟨x,b,none,none,rfl,M5,by omega⟩
  ·rintro k σ H6 hk ⟨x,b,o5,o6,rfl,M6,c7⟩;rw[cXr];dsimp only[yW];obtain⟨rs,as,vs,g6,s6,u6,p6⟩:=M6.ex;obtain⟨R,S,hL,hu,c4,N⟩:=g6.ex;have c5:=hu.r;rw[cQe]at c5;refine⟨_,rfl,_,rfl,_,rfl,U,ca,rs,R,ns,k,rfl,hL.book,by omega,M6.keep _ _ hc,hk,λH7 v k7 c6=>?_⟩;obtain⟨p,e,rfl,hp,hw⟩:=c6;dsimp only[yW];have M7:=M6.same k7;have b0:=k7 _ _ s6.at_;refine⟨_,rfl,.inl ⟨rfl,_,SqL.of b0⟩,_,rfl,B,_,_,rfl,rfl,b0,zlt (by rw[bYl,M6.len];omega),?_⟩;have el:b.map V.ref++ [V.ref p]=(b++ [p]).map V.ref:=by simp
   rw[el];have M8:=M7.push rfl hp hw;generalize upd H7 B (.lst ((b++ [p]).map V.ref))=H8 at M8 ⊢;obtain⟨d1,d0,c9,g8,s8,u8,p8⟩:=M8.ex;have h1:(b++ [p])[x.length]? =some p:=by rw[<- M6.len,bYH (bYo _),cQC];rfl
   have Y:(x++ [e])[x.length]? =some e:=by rw[bYH (bYo _),cQC];rfl
   refine⟨_,rfl,.inl ⟨rfl,_,SqL.of u8.at_⟩,_,rfl,_,rfl,_,rfl,M8.next (by omega) h1 Y λv H9 ws _ a7 c1 M9=>⟨I,_,_,rfl,rfl,a7,zlt (by omega),x++ [e],b++ [p],_,_,rfl,?_,by rw[bYE];simp;omega⟩⟩;rw[bYE];exact M9
  ·rintro σ H6 ⟨x,b,o5,o6,rfl,M6,c7⟩;refine⟨_,rfl,_,rfl,z2,λt ht=>?_⟩;have k6:=yG ht (.tup [.ref B,.ref I]);have M7:=M6.same k6;obtain⟨rs,as,vs,g7,s7,u7,p7⟩:=M7.ex;obtain⟨R,S,hL,hu,c4,N⟩:=g7.ex;rw[cQe]at N;exact q _ t B I b x vs as R S M7.keep yB ⟨s7.at_,M7.len,M7.at_⟩ u7.at_ (jU (λv a z=>qQ z λp u n e=>⟨by simp,e⟩) p7) N M7.wf (by omega)
 refine⟨_,rfl,z0,λpn b2=>⟨ca,pn,_,rfl,rfl,SqL.of ((yG b2 (.lst [])) _ _ b3),SqL.of yB,_,rfl,?_⟩⟩;have k5:=yG b2 (.lst []);generalize upd H4 pn (.lst [])=H5 at k5 ⊢;have a5:∀Z,xC H4 Z->_:=λZ k=>a0 [some (.ref ca),some (.ref U),some (.ref W),some (.ref B),some (.ref I),none,none] Z ⟨B,I,[],[],rfl,M0.same k,by simp⟩;by_cases X:ns= []
 ·subst X;exact onF rfl (onF rfl (a5 _ k5))
 have b6:(ns.map V.int)[0]? =some (.int (ns[0]'(cQu.mpr X))):=by rw[bYB,bYg (cQu.mpr X)];rfl
 refine onT (by cases ns with|nil=>exact absurd rfl X|cons=>rfl) ⟨_,rfl,ca,_,_,_,rfl,rfl,SqL.of (k5 _ _ b3),yT (j:=0) b6,_,_,rfl,rfl,(show(0:Int)<5 by decide),rfl,_,rfl,?_⟩;refine qA (λc=>?_) (λc=>a5 _ k5);refine⟨z4,λG b9=>⟨z4,λJ c2=>⟨z3,λL c0=>⟨z3,λdl a9=>?_⟩⟩⟩⟩;have a1:=yG b9 (.tup (xH (.enter "in" 4 "ann" 2)));have a2:=yG c2 (.tup (xH (.reply 0 4 1)));have a3:=yG c0 (.tup (xH (.hang 0 1)));have a4:=yG a9 (.lst ([G,J,L].map V.ref));have g5:=((gk.same k5).same a1).same (a2.trans a3);have e1:=a4 _ _ (a3 _ _ (a2 _ _ (yB (H:=H5) (a:=G) (o:= .tup (xH (.enter "in" 4 "ann" 2))))));have e2:=a4 _ _ (a3 _ _ (yB (H:=upd H5 G (.tup (xH (.enter "in" 4 "ann" 2)))) (a:=J) (o:= .tup (xH (.reply 0 4 1)))));have e3:=a4 _ _ (yB (H:=upd (upd H5 G (.tup (xH (.enter "in" 4 "ann" 2)))) J (.tup (xH (.reply 0 4 1)))) (a:=L) (o:= .tup (xH (.hang 0 1))));have e4:=yB (H:=upd (upd (upd H5 G (.tup (xH (.enter "in" 4 "ann" 2)))) J (.tup (xH (.reply 0 4 1)))) L (.tup (xH (.hang 0 1)))) (a:=dl) (o:= .lst ([G,J,L].map V.ref));have b8:∀D,upd (upd (upd (upd H5 G (.tup (xH (.enter "in" 4 "ann" 2)))) J (.tup (xH (.reply 0 4 1)))) L (.tup (xH (.hang 0 1)))) dl (.lst ([G,J,L].map V.ref)) D=none->Mid H U W dl D [.enter "in" 4 "ann" 2,.reply 0 4 1,.hang 0 1] [G,J,L] 0 (upd (upd (upd (upd (upd H5 G (.tup (xH (.enter "in" 4 "ann" 2)))) J (.tup (xH (.reply 0 4 1)))) L (.tup (xH (.hang 0 1)))) dl (.lst ([G,J,L].map V.ref))) D (.lst [])):=λD hD=>by
  refine Mid.start g5 _ _ a4 a9 e4 (yG hD (.lst [])) hD yB (λe he=>?_) rfl (λj d e h1 Y=>?_)
  ·simp only[bYq,List.mem_nil_iff,or_false]at he;rcases he with rfl|rfl|rfl
   ·exact .inl rfl
   ·trivial
   ·trivial
  ·match j,h1,Y with
   |0,h1,Y=>cases h1;cases Y;exact e1
   |1,h1,Y=>cases h1;cases Y;exact e2
   |2,h1,Y=>cases h1;cases Y;exact e3
 dsimp only[yW];refine⟨_,rfl,dl,rfl,⟨_,SqL.of e4⟩,λD hD=>?_⟩;have M6:=b8 D hD;refine⟨λi m ys Z=>m=3 - i/\i<=3/\Z D=some (.lst ys)/\Mid H U W dl D [.enter "in" 4 "ann" 2,.reply 0 4 1,.hang 0 1] [G,J,L] i Z,⟨3,rfl,by omega,yB,M6⟩,?_⟩;rintro i m ys Z ⟨rfl,hi,a6,M⟩;refine⟨a6,?_⟩;obtain⟨rs,as,vs,g,s1,s2,p⟩:=M.ex;by_cases O:i<3
 ·have a8:([G,J,L]:List Nat)[i]? =some ([G,J,L][i]'(by simpa using O)):=bYg (by simpa using O);have b7:([.enter "in" 4 "ann" 2,.reply 0 4 1,.hang 0 1]:List xN)[i]? =some (([.enter "in" 4 "ann" 2,.reply 0 4 1,.hang 0 1]:List xN)[i]'(by simpa using O)):=bYg (by simpa using O);refine .inr ⟨⟨_,_,SqL.of s1.at_,by rw[bYB,a8];rfl⟩,λv H7 yl=>?_⟩;obtain⟨rfl,y⟩:=yl;have hv:=y _ (SqL.of s1.at_);rw[bYB,a8]at hv;cases hv;refine⟨_,rfl,_,rfl,_,rfl,?_⟩;refine M.next (by omega) a8 b7 λv H8 ws b5 a7 c1 M8=>?_;have ey:ys=ws:=by rw[b5]at a6;cases a6;rfl
  subst ey;exact⟨by rw[bYQ];omega,a7,3 - (i+1),by omega,rfl,O,yB,M8⟩
 ·have:i=3:=by omega
  subst this;refine .inl ⟨⟨_,SqL.of s1.at_,by simp⟩,?_⟩;exact a0 _ _ ⟨dl,D,_,_,rfl,M,by simp⟩
end
end Law
namespace Alike
open PySem L2 PyProof.Rows
open Law (xF)
abbrev aYY:Stmt:=xF "_law_alike"
abbrev bVx:Stmt:=xF "_law_room"
abbrev bQg:Stmt:=xF "_law_whole"
theorem xB:bY2 "len"=some (.builtin "len"):=dk
theorem yZ:bY2 "isinstance"=some (.builtin "isinstance"):=dk
theorem uQ:bY2 "int"=some (.type "int"):=dk
theorem aZq:bY2 "str"=some (.type "str"):=dk
theorem aJv:bY2 "bool"=some (.type "bool"):=dk
theorem zY:bY2 "list"=some (.type "list"):=dk
theorem wV:bY2 "tuple"=some (.type "tuple"):=dk
structure vJ(mg:Str->Option bYh):Prop where
 b_len:mg "len"=none
 b_sorted:mg "sorted"=none
 b_isinstance:mg "isinstance"=none
 b_int:mg "int"=none
 b_str:mg "str"=none
 b_bool:mg "bool"=none
 b_list:mg "list"=none
 b_tuple:mg "tuple"=none
 b_range:mg "range"=none
def bQO:Sp:=λa H Q _=>∃n,a= [.int n]/\Q (.bl true) H
def bJk(K:bYj):Sp:=λc H Q _=>∃ (a:Nat)(b:List Int)(x y:Int),c= [.ref a,.int x,.int y]/\SqL K H a (b.map V.int)/\b.length<=63/\Q (.int x) H
section
variable {K:bYj}
theorem bZx:yN ["_law_found"] ["_law_found"] (yH bQg):=scM
theorem bXY(T:vJ mg)(F:Fun K "_law_whole" "_law_whole" bQg f fd):xE P w K mg base CX0 1 f fd ["_law_found"] bQO:=by
 have b:=bZx;refine F.ok (k:=0) b (λa A outer s H d Q E c h=>?_);obtain⟨n,rfl,q⟩:=h;refine⟨_,(yF (yP (aVR (yQ x6 rfl T.b_isinstance yZ (yA (pv 0) (yA (xQ (v:= .ty "int") rfl T.b_int uQ rfl) yD))) (aZU (bJa (yQ x6 rfl T.b_isinstance yZ (yA (pv 0) (yA (xQ (v:= .ty "bool") rfl T.b_bool aJv rfl) yD)))))))),?_⟩;refine⟨_,rfl,_,"int",_,_,rfl,.int n,aXo _,_,rfl,onT rfl ?_⟩;exact⟨_,rfl,_,"bool",_,_,rfl,.int n,qG _,_,rfl,q⟩
theorem bVL:yN ["_law_script","_law_most","_law_bound"] ["_law_script","_law_most","_law_bound"] (yH bVx):=scM
theorem bVa(T:vJ mg)(F:Fun K "_law_room" "_law_room" bVx f fd):xE P w K mg base CX0 1 f fd ["_law_script","_law_most","_law_bound"] (bJk K):=by
 have b:=bVL;refine F.ok (k:=0) b (λd A outer s H g Q E j h=>?_);obtain⟨a,i,x,y,rfl,e,c,q⟩:=h;refine⟨_,(yC (y7 (yM aXg (yQ yO rfl T.b_len xB (yA (pv 0) yD)) yE) (yF (yP (pv 2))) yS) (yF (yP (pv 1)))),?_⟩;refine⟨_,rfl,a,_,rfl,.inl e,_,_,rfl,rfl,_,rfl,onF ?_ ⟨_,rfl,q⟩⟩;rw[bYl];exact decide_eq_false (by omega)
end
def Sq(K:bYj)(H:Hp)(a:Nat)(xs:List V):Prop:=H a=some (.lst xs)\/H a=some (.tup xs)
theorem Sq.same{K:bYj}{H b:Hp}{a:Nat}{xs:List V}(k:xC H b)(h:Sq K H a xs):Sq K b a xs:=h.imp (k _ _) (k _ _)
theorem Sq.ix{K:bYj}{H:Hp}{a:Nat}{xs:List V}{i:Nat}{v:V}{Q:VK}(h:Sq K H a xs)(e:xs[i]? =some v)(q:Q v H):rIx K (.ref a) (.int (i:Int)) H Q:=by
 rcases h with h|h
 ·exact .inl ⟨a,xs,_,v,rfl,rfl,SqL.of h,yT e,q⟩
 ·exact .inr (.inl ⟨a,xs,_,v,rfl,rfl,SqT.of h,yT e,q⟩)
def xU:List (Nat×Dt)->Nat
 |[]=>0
 |q::r=>q.2.size+xU r
theorem y8:∀a b:List (Nat×Dt),xU (a++b)=xU a+xU b
 |[],b=>by simp[xU]
 |q::r,b=>by rw[cZQ];show q.2.size+xU (r++b)=q.2.size+xU r+xU b;rw[y8 r b];omega
theorem vH:∀ {a:List (Nat×Dt)} {ds:List Dt},a.map (·.2)=ds->xU a=zH ds
 |[],[],_=>by simp[xU,zH]
 |q::r,d::ds,h=>by rw[bY4]at h;cases h;show q.2.size+xU r=q.2.size+zH (r.map (·.2));rw[vH rfl]
 |[],_::_,h=>by cases h
 |_::_,[],h=>by cases h
theorem u9:∀qs:List (Nat×Dt),qs.length<=xU qs
 |[]=>bYo _
 |q::r=>by
  have:=u9 r;have a:1<=q.2.size:=by cases q.2<;> simp[Dt.size]
  show r.length+1<=q.2.size+xU r;omega
theorem uW:∀ds:List Dt,ds.length<=zH ds
 |[]=>bYo _
 |d::r=>by
  have:=uW r;have a:1<=d.size:=by cases d<;> simp[Dt.size]
  show r.length+1<=d.size+zH r;omega
theorem aX8{α:Type}:∀ {l:List α},l≠ []->∃b a,l=b++ [a]
 |[],h=>absurd rfl h
 |[x],_=>⟨[],x,rfl⟩
 |x::y::r,_=>by obtain⟨i,l,e⟩:=aX8 (l:=y::r) (by simp);exact⟨x::i,l,by rw[e];rfl⟩
theorem zV{a H:Hp}{c:Nat}{o:HO}(k:xC a H)(h:a c=none):xC a (upd H c o):=λb u q=>by rw[yI (yJ q h)];exact k b u q
mutual
def nb:Dt->Bool
 |.bl _=>false
 |.lst a=>nbs a
 |.tup a=>nbs a
 |.non=>true
 |.int _=>true
 |.str _=>true
def nbs:List Dt->Bool
 |[]=>true
 |d::r=>nb d && nbs r
end
theorem aJM:∀ {ds:List Dt} {i:Nat} (h:i<ds.length),nbs ds=true->nb ds[i]=true
 |d::r,0,h,e=>by unfold nbs at e;rw[Bool.and_eq_true]at e;exact e.1
 |d::r,i+1,h,e=>by unfold nbs at e;rw[Bool.and_eq_true]at e;exact aJM (ds:=r) (by simpa using h) e.2
def bJv(a H:Hp)(q:Nat×Dt):Prop:=∃x y,H q.1=some (.tup [x,y])/\Is a x q.2/\Is a y q.2/\nb q.2=true
theorem bJv.keep{b H c:Hp}{q:Nat×Dt}(p:bJv b H q)(k:∀a d,H a=some (.tup d)->c a=some (.tup d)):bJv b c q:=let ⟨x,y,h,r⟩:=p;⟨x,y,k _ _ h,r⟩
theorem jA{H:Hp}{p:Nat}{o:HO}(h:H p=none):∀a b,H a=some (.tup b)->upd H p o a=some (.tup b):=λa b e=>by rw[yI (yJ e h)];exact e
theorem wT{H:Hp}{p:Nat}{c:List V}{o:HO}(h:H p=some (.lst c)):∀a b,H a=some (.tup b)->upd H p o a=some (.tup b):=λa b e=>by rw[yI (aXc e h (by intro z;cases z))];exact e
def WU(c:Hp)(v u:V)(b:Nat)(m:Nat)(σ:L2.St)(H:Hp):Prop:=∃a l r k,σ= [some v,some u,some (.ref b),l,r,k]/\xC c H/\H b=some (.lst (a.map λq=> .ref q.1))/\(∀q∈a,bJv c H q)/\m=xU a/\xU a<=50000
def bQA:Sp:=λb H Q _=>∃v u d,b= [v,u]/\Is H v d/\Is H u d/\nb d=true/\d.size<=50000/\∀a,xC H a->Q (.bl true) a
section
variable {K:bYj}
theorem bZd:yN ["_law_found","_law_due","_law_todo","_law_one","_law_other","_law_k"] ["_law_found","_law_due"] (yH aYY):=scM
seal PE PA PS PSs PT in
theorem bXE(T:vJ mg)(O:FnG P w K mg base 1 "_law_whole" ["_law_found"] bQO)(F:Fun K "_law_alike" "_law_alike" aYY f fd):xE P w K mg base CX0 2 f fd ["_law_found","_law_due"] bQA:=by
 have sc:=bZd;refine F.ok (k:=1) sc (λc7 A outer s H0 vs Q E hr h=>?_);obtain⟨v,u,d,rfl,hv,hu,c0,hd,q⟩:=h;refine⟨_,(yC (yU (i:=2) (y6 (yA (xG (yA (pv 0) (yA (pv 1) yD))) yD))) (yC (uC bY5 (yM (vR hr.units0) (pv 2) (y6 yD)) (yC (vE (aYO bYG cZT cZU aYo (pv 2)) (aZV rfl (zB (y9 (i:=3)) (zB (y9 (i:=4)) aQG)))) (yF (y7 (xX (yQ qS rfl T.b_isinstance yZ (yA (pv 4) (yA (xG (yA (xQ (v:= .ty "list") rfl T.b_list zY rfl) (yA (xQ (v:= .ty "tuple") rfl T.b_tuple wV rfl) yD))) yD)))) (yC (y7 (yM qZ (yQ x6 rfl T.b_isinstance yZ (yA (pv 3) (yA (xQ (v:= .ty "list") rfl T.b_list zY rfl) yD))) (yQ x6 rfl T.b_isinstance yZ (yA (pv 4) (yA (xQ (v:= .ty "list") rfl T.b_list zY rfl) yD)))) (yF (yP wQ)) yS) (yC (y7 (yM qZ (yQ x6 rfl T.b_isinstance yZ (yA (pv 3) (yA (xQ (v:= .ty "tuple") rfl T.b_tuple wV rfl) yD))) (yQ x6 rfl T.b_isinstance yZ (yA (pv 4) (yA (xQ (v:= .ty "tuple") rfl T.b_tuple wV rfl) yD)))) (yF (yP wQ)) yS) (yC (y7 (yM qZ (yQ yO rfl T.b_len xB (yA (pv 3) yD)) (yQ yO rfl T.b_len xB (yA (pv 4) yD))) (yF (yP wQ)) yS) (yF (zR bY5 rfl (zJ rfl T.b_range (yA (yQ yO rfl T.b_len xB (yA (pv 4) yD)) yD)) (y9 (i:=5)) (yF (yY (vM bYG bYN bYO xD (pv 2) (yA (xG (yA (yL aVG (pv 3) (pv 5)) (yA (yL aVG (pv 4) (pv 5)) yD))) yD))))))))) (yF (y7 (yM aXr (pv 4) x3) (yF (y7 (yM z8 (pv 3) x3) (yF (yP wQ)) yS)) (yF (y7 (xX (yQ x6 rfl T.b_isinstance yZ (yA (pv 4) (yA (xQ (v:= .ty "str") rfl T.b_str aZq rfl) yD)))) (yF (y7 (PW.pt (jV (vF (xX (yQ x6 rfl T.b_isinstance yZ (yA (pv 3) (yA (xQ (v:= .ty "str") rfl T.b_str aZq rfl) yD))))) (vT (yM qZ (pv 3) (pv 4))))) (yF (yP wQ)) yS)) (yF (y7 (PW.pt (jV (vF (xX (xJ O hr rfl (yA (pv 3) yD)))) (vT (yM qZ (pv 3) (pv 4))))) (yF (yP wQ)) yS)))))))))) (yF (yP wQ)))),?_⟩;refine⟨_,rfl,_,rfl,z2,λp0 b4=>⟨z1,λB b3=>?_⟩⟩;have a4:H0 B=none:=(yG b4 _).fresh b3;refine⟨WU H0 v u B,⟨d.size,[(p0,d)],none,none,none,rfl,zV (yG b4 _) a4,yB,?_,by simp[xU],by simpa[xU]using hd⟩,?_⟩
 ·intro q t;rw[bYy.mp t];exact⟨v,u,jA b3 _ _ yB,hv,hu,c0⟩
 rintro m σ H ⟨qs,l,r,k,rfl,hk,hT,hP,rfl,a7⟩;refine⟨_,rfl,z0,λpn a3=>?_⟩;have b7:pn≠B:=bY0 (yJ hT a3);have a1:upd H pn (.lst []) B=some (.lst (qs.map λq=> .ref q.1)):=by rw[yI (bY0 b7)];exact hT
 refine⟨B,pn,_,rfl,rfl,SqL.of a1,SqL.of yB,_,rfl,?_⟩;by_cases b1:qs= []
 ·subst b1;rw[if_neg (by decide)];exact q _ (hk.trans (yG a3 _))
 obtain⟨c,⟨lp,d⟩,rfl⟩:=aX8 b1;rw[if_pos (by simp)];refine⟨λG I=>∃m',m'<xU (c++ [(lp,d)])/\WU H0 v u B m' G I,λG I z=>z,?_⟩;obtain⟨x,y,c2,hx,hy,C⟩:=hP (lp,d) (by simp);have a8:((c++ [(lp,d)]).map λq=>V.ref q.1)[((c++ [(lp,d)]).map λq=>V.ref q.1).length - 1]? =some (.ref lp):=by simp
 have a9:((c++ [(lp,d)]).map λq=>V.ref q.1).dropLast=c.map λq=>V.ref q.1:=by simp
 have b0:∀a N,H a=some (.tup N)->upd (upd H pn (.lst [])) B (.lst (c.map λq=>V.ref q.1)) a=some (.tup N):=λa N e=>wT a1 _ _ (jA a3 _ _ e);refine⟨_,rfl,.inl ⟨rfl,_,SqL.of a1⟩,B,_,.ref lp,rfl,rfl,a1,a8,?_⟩;rw[a9];have L:xC H0 (upd (upd H pn (.lst [])) B (.lst (c.map λq=>V.ref q.1))):=zV (hk.trans (yG a3 _)) a4;have a5:upd (upd H pn (.lst [])) B (.lst (c.map λq=>V.ref q.1)) B=some (.lst (c.map λq=> .ref q.1)):=yB;have a0:∀q∈c,bJv H0 (upd (upd H pn (.lst [])) B (.lst (c.map λq=>V.ref q.1))) q:=λq t=>(hP q (by simp[t])).keep b0;have a6:=b0 _ _ c2;generalize c5:upd (upd H pn (.lst [])) B (.lst (c.map λq=>V.ref q.1))=H2 at L a5 a0 a6 ⊢;refine⟨lp,[x,y],rfl,SqT.of a6,rfl,x,[y],rfl,y,[],rfl,rfl,?_⟩;have c6:1<=d.size:=by cases d<;> simp[Dt.size]
 have c4:xU c+d.size<=50000:=by rw[y8]at a7;simpa[xU]using a7
 have hm:xU c<xU (c++ [(lp,d)]):=by rw[y8];simp[xU];omega
 have fin:∀H3,(∀b o,H2 b=some o->H3 b=some o)->∃m',m'<xU (c++ [(lp,d)])/\WU H0 v u B m' [some v,some u,some (.ref B),some x,some y,k] H3:=λH3 k3=>
  ⟨xU c,hm,c,some x,some y,k,rfl,L.trans k3,k3 _ _ a5,λq t=>(a0 q t).keep λa N e=>k3 _ _ e,rfl,by omega⟩
 refine⟨_,rfl,z2,λp1 b8=>?_⟩;have j:xC H2 (upd H2 p1 (.tup [.ty "list",.ty "tuple"])):=yG b8 _;cases d with
 |non=>
  have ex:x= .non:=by unfold Is at hx;exact hx
  have ey:y= .non:=by unfold Is at hy;exact hy
  subst ex;subst ey;refine⟨_,p1,"list","tuple",_,_,_,rfl,SqT.of yB,.non,uL _,vX _,_,rfl,onF rfl ?_⟩;refine⟨_,rfl,rfl,_,rfl,onT rfl ?_⟩;refine⟨_,rfl,rfl,_,rfl,onF rfl ?_⟩;exact fin _ j
 |bl b=>unfold nb at C;cases C
 |int n=>
  have ex:x= .int n:=by unfold Is at hx;exact hx
  have ey:y= .int n:=by unfold Is at hy;exact hy
  subst ex;subst ey;refine⟨_,p1,"list","tuple",_,_,_,rfl,SqT.of yB,.int n,aQn _,W1 _,_,rfl,onF rfl ?_⟩;refine⟨_,rfl,rfl,_,rfl,onF rfl ?_⟩;refine⟨_,rfl,_,"str",_,_,rfl,.int n,jI _,_,rfl,onF rfl ?_⟩;refine⟨_,rfl,n,rfl,_,rfl,onF rfl ⟨_,rfl,_,rfl,rfl,_,rfl,onF (by simp) ?_⟩⟩;exact fin _ j
 |str z=>
  have ex:x= .str z:=by unfold Is at hx;exact hx
  have ey:y= .str z:=by unfold Is at hy;exact hy
  subst ex;subst ey;refine⟨_,p1,"list","tuple",_,_,_,rfl,SqT.of yB,.str z,aQp _,W3 _,_,rfl,onF rfl ?_⟩;refine⟨_,rfl,rfl,_,rfl,onF rfl ?_⟩;refine⟨_,rfl,_,"str",_,_,rfl,.str z,vY _,_,rfl,onT rfl ?_⟩;refine⟨_,rfl,_,"str",_,_,rfl,.str z,vY _,_,rfl,onF rfl ⟨_,rfl,_,rfl,rfl,_,rfl,onF (by simp) ?_⟩⟩;exact fin _ j
 |lst g=>
  unfold Is at hx hy;obtain⟨a,N,rfl,ha,Z⟩:=hx;obtain⟨b,ys,rfl,hb,R⟩:=hy;have lx:=Z.length;have ly:=R.length;have a2:=L _ _ ha;have W:=L _ _ hb;have b9:zH g+1<=50000:=by
   have:Dt.size (.lst g)=1+zH g:=by simp[Dt.size]
   omega
  have b6:g.length<=zH g:=uW g;have C:nbs g=true:=by unfold nb at C;exact C
  refine⟨_,p1,"list","tuple",_,_,_,rfl,SqT.of yB,.lst (j _ _ W),x4 _,z7 _,_,rfl,onT rfl ?_⟩;refine⟨_,rfl,_,"list",_,_,rfl,.lst (j _ _ a2),x4 _,_,rfl,_,"list",_,_,rfl,.lst (j _ _ W),x4 _,rfl,_,rfl,onF rfl ?_⟩;refine⟨_,rfl,_,"tuple",_,_,rfl,.lst (j _ _ a2),z7 _,_,rfl,_,"tuple",_,_,rfl,.lst (j _ _ W),z7 _,rfl,_,rfl,onF rfl ?_⟩;refine⟨_,rfl,a,_,rfl,.inl (SqL.of (j _ _ a2)),_,rfl,b,_,rfl,.inl (SqL.of (j _ _ W)),rfl,_,rfl,onF (by simp[lx,ly]) ?_⟩;refine⟨_,rfl,b,_,rfl,.inl (SqL.of (j _ _ W)),_,rfl,by omega,by omega,?_⟩;have U:Dt.size (.lst g)=1+zH g:=by simp[Dt.size]
  generalize c1:upd H2 p1 (.tup [.ty "list",.ty "tuple"])=H3 at j ⊢;refine z6 (λi G I=>∃ (D:List (Nat×Dt))(kk:Option V),G= [some v,some u,some (.ref B),some (.ref a),some (.ref b),kk]/\xC H0 I/\I B=some (.lst ((c++D).map λq=> .ref q.1))/\(∀q∈c++D,bJv H0 I q)/\D.map (·.2)=g.take i) ?_ ?_ ?_
  ·exact⟨[],k,rfl,L.trans j,by rw[cQk];exact j _ _ a5,λq t=>(a0 q (by simpa using t)).keep λa N e=>j _ _ e,rfl⟩
  ·rintro i G I hi ⟨D,kk,rfl,X,S,h3,Y⟩;have J:i<g.length:=by rw[<- ly];omega
   obtain⟨xi,ex,ix⟩:=Z.get (bYg J);obtain⟨yi,ey,iy⟩:=R.get (bYg J);show aVt _ _ _ _;have sa:Sq K I a N:=Sq.same X (.inl ha);have sb:Sq K I b ys:=Sq.same X (.inl hb);refine⟨_,rfl,.inl ⟨rfl,_,SqL.of S⟩,_,rfl,_,rfl,?_⟩;rw[cXr];refine sa.ix ex ⟨_,rfl,_,rfl,?_⟩;refine sb.ix ey ⟨z2,λp hp=>?_⟩;have b5:D.length=i:=by have:=congrArg cXp Y;simp at this;omega
   have c3:=u9 c;have M:upd I p (.tup [xi,yi]) B=some (.lst ((c++D).map λq=> .ref q.1)):=by rw[yI (yJ S hp)];exact S
   refine⟨B,_,.ref p,rfl,rfl,M,zlt (by simp;omega),D++ [(p,g[i])],_,rfl,zV (X.trans (yG hp _)) a4,?_,?_,?_⟩
   ·rw[yB];simp
   ·intro q t;rw[<- cQw,bYU]at t;rcases t with t|t
    ·exact(h3 q t).keep λa N e=>wT M _ _ (jA hp _ _ e)
    ·rw[bYy.mp t];exact⟨xi,yi,wT M _ _ yB,ix,iy,aJM J C⟩
   ·rw[cQA,Y,cQj,bYg J];rfl
  ·rintro G I ⟨D,kk,rfl,X,S,h3,Y⟩;have e1:g.take ((ys.length:Nat):Int).toNat=g:=by rw[bYW,ly,cQe]
   rw[e1]at Y;have e2:=vH Y;refine⟨xU (c++D),?_,c++D,some (.ref a),some (.ref b),kk,rfl,X,S,h3,rfl,?_⟩
   ·rw[y8,y8,e2];simp[xU,U]
   ·rw[y8,e2];omega
 |tup g=>
  unfold Is at hx hy;obtain⟨a,N,rfl,ha,Z⟩:=hx;obtain⟨b,ys,rfl,hb,R⟩:=hy;have lx:=Z.length;have ly:=R.length;have a2:=L _ _ ha;have W:=L _ _ hb;have b9:zH g+1<=50000:=by
   have:Dt.size (.tup g)=1+zH g:=by simp[Dt.size]
   omega
  have b6:g.length<=zH g:=uW g;have C:nbs g=true:=by unfold nb at C;exact C
  refine⟨_,p1,"list","tuple",_,_,_,rfl,SqT.of yB,.tup (j _ _ W),x9 _,zQ _,_,rfl,onT rfl ?_⟩;refine⟨_,rfl,_,"list",_,_,rfl,.tup (j _ _ a2),x9 _,_,rfl,_,"list",_,_,rfl,.tup (j _ _ W),x9 _,rfl,_,rfl,onF rfl ?_⟩;refine⟨_,rfl,_,"tuple",_,_,rfl,.tup (j _ _ a2),zQ _,_,rfl,_,"tuple",_,_,rfl,.tup (j _ _ W),zQ _,rfl,_,rfl,onF rfl ?_⟩;refine⟨_,rfl,a,_,rfl,.inr (SqT.of (j _ _ a2)),_,rfl,b,_,rfl,.inr (SqT.of (j _ _ W)),rfl,_,rfl,onF (by simp[lx,ly]) ?_⟩;refine⟨_,rfl,b,_,rfl,.inr (SqT.of (j _ _ W)),_,rfl,by omega,by omega,?_⟩;have U:Dt.size (.tup g)=1+zH g:=by simp[Dt.size]
  generalize c1:upd H2 p1 (.tup [.ty "list",.ty "tuple"])=H3 at j ⊢;refine z6 (λi G I=>∃ (D:List (Nat×Dt))(kk:Option V),G= [some v,some u,some (.ref B),some (.ref a),some (.ref b),kk]/\xC H0 I/\I B=some (.lst ((c++D).map λq=> .ref q.1))/\(∀q∈c++D,bJv H0 I q)/\D.map (·.2)=g.take i) ?_ ?_ ?_
  ·exact⟨[],k,rfl,L.trans j,by rw[cQk];exact j _ _ a5,λq t=>(a0 q (by simpa using t)).keep λa N e=>j _ _ e,rfl⟩
  ·rintro i G I hi ⟨D,kk,rfl,X,S,h3,Y⟩;have J:i<g.length:=by rw[<- ly];omega
   obtain⟨xi,ex,ix⟩:=Z.get (bYg J);obtain⟨yi,ey,iy⟩:=R.get (bYg J);show aVt _ _ _ _;have sa:Sq K I a N:=Sq.same X (.inr ha);have sb:Sq K I b ys:=Sq.same X (.inr hb);refine⟨_,rfl,.inl ⟨rfl,_,SqL.of S⟩,_,rfl,_,rfl,?_⟩;rw[cXr];refine sa.ix ex ⟨_,rfl,_,rfl,?_⟩;refine sb.ix ey ⟨z2,λp hp=>?_⟩;have b5:D.length=i:=by have:=congrArg cXp Y;simp at this;omega
   have c3:=u9 c;have M:upd I p (.tup [xi,yi]) B=some (.lst ((c++D).map λq=> .ref q.1)):=by rw[yI (yJ S hp)];exact S
   refine⟨B,_,.ref p,rfl,rfl,M,zlt (by simp;omega),D++ [(p,g[i])],_,rfl,zV (X.trans (yG hp _)) a4,?_,?_,?_⟩
   ·rw[yB];simp
   ·intro q t;rw[<- cQw,bYU]at t;rcases t with t|t
    ·exact(h3 q t).keep λa N e=>wT M _ _ (jA hp _ _ e)
    ·rw[bYy.mp t];exact⟨xi,yi,wT M _ _ yB,ix,iy,aJM J C⟩
   ·rw[cQA,Y,cQj,bYg J];rfl
  ·rintro G I ⟨D,kk,rfl,X,S,h3,Y⟩;have e1:g.take ((ys.length:Nat):Int).toNat=g:=by rw[bYW,ly,cQe]
   rw[e1]at Y;have e2:=vH Y;refine⟨xU (c++D),?_,c++D,some (.ref a),some (.ref b),kk,rfl,X,S,h3,rfl,?_⟩
   ·rw[y8,y8,e2];simp[xU,U]
   ·rw[y8,e2];omega
end
end Alike
namespace Alike
open PySem L2 PyProof.Rows
open Bk (Row Rows xW xN Ans)
open Desk (xH vI stV xY)
def vDt:V->Dt
 |.int n=> .int n
 |.str x=> .str x
 |_=> .non
def aJo(v:V):Prop:=v= .non\/(∃n,v= .int n)\/∃x,v= .str x
theorem aJo.is{H:Hp}{v:V}(h:aJo v):Is H v (vDt v):=by
 rcases h with rfl|⟨n,rfl⟩|⟨x,rfl⟩
 ·show Is H .non .non;unfold Is;rfl
 ·show Is H (.int n) (.int n);unfold Is;rfl
 ·show Is H (.str x) (.str x);unfold Is;rfl
theorem v8{H:Hp}:∀ {xs:List V},(∀v∈xs,aJo v)->zW H xs (xs.map vDt)
 |[],_=>by show zW H [] [];unfold zW;trivial
 |x::xs,h=>by show zW H (x::xs) (vDt x::xs.map vDt);unfold zW;exact⟨(h x bYw).is,v8 λv a=>h v (bYt _ a)⟩
theorem wN{H:Hp}{α:Type}{F:V->α->Prop}{g:α->Dt}(b:∀v a,F v a->Is H v (g a)):∀ {vs:List V} {c:List α},bY6 F vs c->zW H vs (c.map g)
 |_,_,.nil=>by show zW H [] [];unfold zW;trivial
 |_,_,.cons r t=>by rw[bY4];unfold zW;exact⟨b _ _ r,wN b t⟩
theorem bK4(v:V):nb (vDt v)=true:=by cases v<;> (unfold vDt;unfold nb;rfl)
theorem aQx{α:Type}{g:α->Dt}(h:∀a,nb (g a)=true):∀l:List α,nbs (l.map g)=true
 |[]=>by show nbs []=true;unfold nbs;rfl
 |a::l=>by rw[bY4];unfold nbs;rw[h a,aQx h l];rfl
theorem aWw(e:xN):∀v∈xH e,aJo v:=by cases e<;> simp[xH,aJo]
theorem aWg(r:Row):∀v∈stV r,aJo v:=by
 intro v a;unfold stV at a;simp only[bYq,List.mem_nil_iff,or_false]at a;rcases a with rfl|rfl|rfl|rfl|rfl|rfl
 ·exact .inr (.inr ⟨_,rfl⟩)
 ·exact .inr (.inl ⟨_,rfl⟩)
 ·exact .inr (.inr ⟨_,rfl⟩)
 ·exact .inr (.inl ⟨_,rfl⟩)
 ·cases r.link with
  |none=>exact .inl rfl
  |some j=>exact .inr (.inl ⟨_,rfl⟩)
 ·unfold Desk.X1;split
  ·exact .inl rfl
  ·exact .inr (.inr ⟨_,rfl⟩)
def aXl(e:xN):Dt:= .tup ((xH e).map vDt)
def jS:Ans->Dt
 |.num n=> .int n
 |.txt x=> .str x
 |.nums l=> .lst (l.map λi=> .int (i:Nat))
 |.txts l=> .lst (l.map .str)
 |.row r=> .tup ((stV r).map vDt)
def aQ2(r:Row):Dt:=if r.void then .str "void" else .tup ((stV r).map vDt)
theorem aK5{H:Hp}{p:Nat}{xs:List V}(h:H p=some (.tup xs))(k:∀v∈xs,aJo v):Is H (.ref p) (.tup (xs.map vDt)):=by
 unfold Is;exact⟨p,xs,rfl,h,v8 k⟩
theorem bJO{H:Hp}{p:Nat}{e:xN}(h:H p=some (.tup (xH e))):Is H (.ref p) (aXl e):=aK5 h (aWw e)
theorem bZ3{o:List Nat}{H:Hp}{a:Ans}{v:V}(h:vI o H a v):Is H v (jS a):=by
 cases a with
 |num n=>show Is H v (.int n);unfold Is;exact h
 |txt x=>show Is H v (.str x);unfold Is;exact h
 |nums l=>
  obtain⟨p,e,_,q⟩:=h;show Is H v (.lst (l.map λi=> .int (i:Nat)));unfold Is;refine⟨p,_,e,q,?_⟩;have:=v8 (H:=H) (xs:=l.map λi=>V.int (i:Nat)) λv b=>by obtain⟨i,_,rfl⟩:=cQm.mp b;exact .inr (.inl ⟨_,rfl⟩)
  rw[cXt]at this;exact this
 |txts l=>
  obtain⟨p,e,_,q⟩:=h;show Is H v (.lst (l.map .str));unfold Is;refine⟨p,_,e,q,?_⟩;have:=v8 (H:=H) (xs:=l.map V.str) λv b=>by obtain⟨i,_,rfl⟩:=cQm.mp b;exact .inr (.inr ⟨_,rfl⟩)
  rw[cXt]at this;exact this
 |row r=>obtain⟨p,e,_,q⟩:=h;subst e;exact aK5 q (aWg r)
theorem aVF{H:Hp}{r:Row}{v:V}(h:xY H r v):Is H v (aQ2 r):=by
 unfold xY at h;unfold aQ2;split
 ·rename_i e;rw[if_pos e]at h;unfold Is;exact h
 ·rename_i e;rw[if_neg e]at h;obtain⟨p,e,q⟩:=h;subst e;exact aK5 q (aWg r)
theorem bWz(a:Ans):nb (jS a)=true:=by
 cases a with
 |num n=>show nb (.int n)=true;unfold nb;rfl
 |txt x=>show nb (.str x)=true;unfold nb;rfl
 |nums l=>show nb (.lst (l.map λi=> .int (i:Nat)))=true;unfold nb;exact aQx (λi=>by unfold nb;rfl) l
 |txts l=>show nb (.lst (l.map .str))=true;unfold nb;exact aQx (λi=>by unfold nb;rfl) l
 |row r=>show nb (.tup ((stV r).map vDt))=true;unfold nb;exact aQx bK4 _
end Alike
namespace Alike
open PySem L2 PyProof.Rows
open Bk (Row Rows xW xN Ans)
open Desk (xH vI stV xY Up Run)
theorem Q4:∀ (n:Nat)(l:List Nat),l.Nodup->(∀k∈l,k<n)->l.length<=n
 |0,l,_,h=>by
  cases l with
  |nil=>exact bYo _
  |cons a r=>exact absurd (h a bYw) (cQ3 _)
 |n+1,l,nd,h=>by
  by_cases c:n∈l
  ·have:=Q4 n (l.erase n) (nd.erase n) λk b=>by
    have d:=(cJD nd).mp b;have e:=h k d.2;have f:=d.1;omega
   rw[cJE c]at this;omega
  ·have:=Q4 n l nd λk b=>by
    have e:=h k b;have f:k≠n:=λz=>c (by rw[<- z];exact b);omega
   omega
theorem w9{α:Type}{g:α->Dt}(h:∀a,(g a).size=1):∀l:List α,zH (l.map g)=l.length
 |[]=>by simp[zH]
 |a::l=>by rw[bY4];show(g a).size+zH (l.map g)=l.length+1;rw[h a,w9 h l];omega
theorem aV1{α:Type}{g:α->Dt}{c:Nat}:∀ (l:List α),(∀a∈l,(g a).size<=c)->zH (l.map g)<=l.length*c
 |[],_=>by simp[zH]
 |a::l,h=>by rw[bY4,cQg,Nat.succ_mul];show(g a).size+zH (l.map g)<=_;have e:=h a bYw;have f:=aV1 l λb d=>h b (bYt _ d);omega
theorem bQV(v:V):(vDt v).size=1:=by cases v<;> simp[vDt,Dt.size]
theorem aKT(e:xN):(aXl e).size<=5:=by
 have h:(aXl e).size=1+zH ((xH e).map vDt):=by unfold aXl;simp[Dt.size]
 rw[h,w9 bQV];cases e<;> simp[xH]
theorem aKw(r:Row):(aQ2 r).size<=7:=by
 unfold aQ2;split
 ·simp[Dt.size]
 ·have h:Dt.size (.tup ((stV r).map vDt))=1+zH ((stV r).map vDt):=by simp[Dt.size]
  rw[h,w9 bQV];simp[stV]
theorem bV1{R:Rows}(t:Bk.jD R){k:Nat}:(Bk.thr R k).length<=R.length:=by
 obtain⟨d,o,b,a⟩:=Bk.J2 t k;refine Q4 _ _ (b.imp λ{x y} h z=>?_) λj c=>((a j).mp c).1;rw[z,Stree.vQ]at h;cases h
theorem bWI{R:Rows}{S:List Int}{d:Int}{a:Bool}{l:List Nat}(h:Bk.bQX R S d a l):l.length<=R.length:=by
 refine Q4 _ _ (h.ord.imp λ{x y} h z=>?_) λj b=>((h.mem j).mp b).1;rw[z,Stree.wY]at h;cases h
theorem aQy(l:List Nat):(jS (.nums l)).size=1+l.length:=by
 have h:(jS (.nums l)).size=1+zH (l.map λi=>Dt.int (i:Nat)):=by unfold jS;simp[Dt.size]
 rw[h,w9 (λi=>by simp[Dt.size])]
theorem bQ0{t:Nat}{R j:Rows}{S l:List Int}{e:xN}{a:Ans}(h:xW R S e a j l)(g:Bk.Y3 R)(f:Up t R S):(jS a).size<=t+7:=by
 have b:∀x:Str,(jS (.txt x)).size=1:=λx=>by unfold jS;simp[Dt.size]
 have d:∀n:Int,(jS (.num n)).size=1:=λn=>by unfold jS;simp[Dt.size]
 have m:=f.r;cases h<;> (try rw[b])<;> (try rw[d])<;> try omega
 case state hk hv=>
  rename_i k r;have h:(jS (.row r)).size=1+zH ((stV r).map vDt):=by unfold jS;simp[Dt.size]
  rw[h,w9 bQV];simp[stV]
 case thread hk hv=>
  rename_i k r;rw[aQy];have:=bV1 g.tree (k:=k);omega
 case copies hk hv=>
  rename_i k r;have h:(jS (.txts r.copies)).size=1+zH (r.copies.map Dt.str):=by unfold jS;simp[Dt.size]
  rw[h,w9 (λi=>by simp[Dt.size])];have:=f.c r (bYz hk);omega
 case letters=>
  rw[aQy];refine bYT (Nat.add_le_add_left (cQh _ _) 1) ?_;rw[cQa];omega
 case on h=>
  rw[aQy];have:=bWI h;omega
theorem aZ2:∀ (n:Nat) {c:List xN} {j:List Ans} {f:Rows} {i:List Int},c.length=n->(∀e∈c,Desk.Wf e)->Run [] [] c j f i->Up n f i/\Bk.Y3 f/\∀a∈j,(jS a).size<=n+7
 |0,c,j,f,i,hn,hw,h=>by
  rcases h.inv with⟨_,rfl,rfl,rfl⟩|⟨_,_,_,_,_,_,rfl,_⟩
  ·exact⟨⟨bYo _,bYo _,λr h=>by simp at h⟩,Bk.aXA,λa h=>by simp at h⟩
  ·simp at hn
 |n+1,c,j,f,i,hn,hw,h=>by
  rcases h.inv with⟨rfl,_⟩|⟨p,e,q,a,y,z,rfl,rfl,g,d⟩
  ·simp at hn
  ·obtain⟨m,l,s⟩:=aZ2 n (by simpa using hn) (λe o=>hw e (cXe _ o)) g;have k:=hw e (by simp);refine⟨m.done d,Bk.xW.book l (λv d w t u=>by subst u;exact k) d,λx b=>?_⟩;rcases bYU.mp b with b|b
   ·have:=s x b;omega
   ·rw[bYy.mp b];have:=bQ0 d l m;omega
end Alike
namespace Alike
open PySem L2 PyProof.Rows
open Law (xF)
abbrev aQO:Stmt:=xF "_law_unturned"
abbrev sAt:Stmt:=xF "_law_at"
def aV4(K:bYj):Sp:=λc H Q _=>∃ (a:Nat)(b:List Int)(k:Nat),c= [.ref a,.int (k:Int)]/\SqL K H a (b.map V.int)/\Q (.int (b.getD k 0)) H
section
variable {K:bYj}
theorem bVC:yN ["_law_script","_law_k"] ["_law_script","_law_k"] (yH sAt):=scM
seal PE PA PS PSs PT in
theorem bJZ(T:vJ mg)(F:Fun K "_law_at" "_law_at" sAt f fd):xE P w K mg base CX0 1 f fd ["_law_script","_law_k"] (aV4 K):=by
 have j:=bVC;refine F.ok (k:=0) j (λl A outer s H m Q E n h=>?_);obtain⟨a,b,k,rfl,g,q⟩:=h;refine⟨_,(yC (y7 (yM vL (pv 1) (yQ yO rfl T.b_len xB (yA (pv 0) yD))) (yF (yP (yL yK (pv 0) (pv 1)))) yS) (yF (yP yE))),?_⟩;refine⟨_,rfl,_,rfl,a,_,rfl,.inl g,_,_,rfl,rfl,_,rfl,?_⟩;refine qA (λc=>?_) (λc=>?_)
 ·have d:=of_decide_eq_true c;have i:k<b.length:=by rw[bYl]at d;omega
  refine⟨_,rfl,_,rfl,a,_,_,.int (b.getD k 0),rfl,rfl,g,yT ?_,q⟩;simp[bYB,bY1,bYg i]
 ·have d:=of_decide_eq_false (Bool.eq_false_iff.mpr c);have i:¬k<b.length:=by rw[bYl]at d;omega
  have e:b.getD k 0=0:=by simp[bY1,bYR (show b.length<=k by omega)]
  rw[e]at q;exact q
end
def aJn(a H:Hp)(q:Nat×Dt):Prop:=∃x y,H q.1=some (.tup [x,y])/\Is a x q.2/\Is a y q.2
theorem aJn.keep{b H c:Hp}{q:Nat×Dt}(p:aJn b H q)(k:∀a d,H a=some (.tup d)->c a=some (.tup d)):aJn b c q:=let ⟨x,y,h,r⟩:=p;⟨x,y,k _ _ h,r⟩
def WUU(c:Hp)(v u:V)(b:Nat)(m:Nat)(σ:L2.St)(H:Hp):Prop:=∃a l r k,σ= [some v,some u,some (.ref b),l,r,k]/\xC c H/\H b=some (.lst (a.map λq=> .ref q.1))/\(∀q∈a,aJn c H q)/\m=xU a/\xU a<=1000
def aXx:Sp:=λb H Q _=>∃v u d,b= [v,u]/\Is H v d/\Is H u d/\d.size<=1000/\∀a,xC H a->Q (.bl true) a
section
variable {K:bYj}
theorem aVo:yN ["_law_found","_law_due","_law_todo","_law_left","_law_right","_law_k"] ["_law_found","_law_due"] (yH aQO):=scM
seal PE PA PS PSs PT in
theorem aJX(T:vJ mg)(F:Fun K "_law_unturned" "_law_unturned" aQO f fd):xE P w K mg base CX0 1 f fd ["_law_found","_law_due"] aXx:=by
 have sc:=aVo;refine F.ok (k:=0) sc (λc7 A outer s H0 vs Q E hr h=>?_);obtain⟨v,u,d,rfl,hv,hu,hd,q⟩:=h;refine⟨_,(yC (yU (i:=2) (y6 (yA (xG (yA (pv 0) (yA (pv 1) yD))) yD))) (yC (uC bY5 (yM (vR hr.units0) (pv 2) (y6 yD)) (yC (vE (aYO bYG cZT cZU aYo (pv 2)) (aZV rfl (zB (y9 (i:=3)) (zB (y9 (i:=4)) aQG)))) (yF (y7 (xX (yQ qS rfl T.b_isinstance yZ (yA (pv 4) (yA (xG (yA (xQ (v:= .ty "list") rfl T.b_list zY rfl) (yA (xQ (v:= .ty "tuple") rfl T.b_tuple wV rfl) yD))) yD)))) (yC (y7 (yM qZ (yQ x6 rfl T.b_isinstance yZ (yA (pv 3) (yA (xQ (v:= .ty "list") rfl T.b_list zY rfl) yD))) (yQ x6 rfl T.b_isinstance yZ (yA (pv 4) (yA (xQ (v:= .ty "list") rfl T.b_list zY rfl) yD)))) (yF (yP wQ)) yS) (yC (y7 (PW.pt (jV (vF (xX (yQ qS rfl T.b_isinstance yZ (yA (pv 3) (yA (xG (yA (xQ (v:= .ty "list") rfl T.b_list zY rfl) (yA (xQ (v:= .ty "tuple") rfl T.b_tuple wV rfl) yD))) yD))))) (vT (yM qZ (yQ yO rfl T.b_len xB (yA (pv 3) yD)) (yQ yO rfl T.b_len xB (yA (pv 4) yD)))))) (yF (yP wQ)) yS) (yF (zR bY5 rfl (zJ rfl T.b_range (yA (yQ yO rfl T.b_len xB (yA (pv 4) yD)) yD)) (y9 (i:=5)) (yF (yY (vM bYG bYN bYO xD (pv 2) (yA (xG (yA (yL aVG (pv 3) (pv 5)) (yA (yL aVG (pv 4) (pv 5)) yD))) yD)))))))) (yF (y7 (PW.pt (jV (yM aXr (pv 3) x3) (vT (yM aXr (pv 4) x3)))) (yF (y7 (PW.pt (jV (yM z8 (pv 3) x3) (vT (yM z8 (pv 4) x3)))) (yF (yP wQ)) yS)) (yF (y7 (yM qZ (yQ x6 rfl T.b_isinstance yZ (yA (pv 3) (yA (xQ (v:= .ty "bool") rfl T.b_bool aJv rfl) yD))) (yQ x6 rfl T.b_isinstance yZ (yA (pv 4) (yA (xQ (v:= .ty "bool") rfl T.b_bool aJv rfl) yD)))) (yF (yP wQ)) (yF (y7 (yM qZ (yQ x6 rfl T.b_isinstance yZ (yA (pv 3) (yA (xQ (v:= .ty "str") rfl T.b_str aZq rfl) yD))) (yQ x6 rfl T.b_isinstance yZ (yA (pv 4) (yA (xQ (v:= .ty "str") rfl T.b_str aZq rfl) yD)))) (yF (yP wQ)) (yF (y7 (PW.pt (jV (vF (xX (yQ qS rfl T.b_isinstance yZ (yA (pv 3) (yA (xG (yA (xQ (v:= .ty "str") rfl T.b_str aZq rfl) (yA (xQ (v:= .ty "int") rfl T.b_int uQ rfl) yD))) yD))))) (vT (yM qZ (pv 3) (pv 4))))) (yF (yP wQ)) yS)))))))))))) (yF (yP wQ)))),?_⟩;refine⟨_,rfl,_,rfl,z2,λp0 b5=>⟨z1,λt b4=>?_⟩⟩;have a5:H0 t=none:=(yG b5 _).fresh b4;refine⟨WUU H0 v u t,⟨d.size,[(p0,d)],none,none,none,rfl,zV (yG b5 _) a5,yB,?_,by simp[xU],by simpa[xU]using hd⟩,?_⟩
 ·intro q j;rw[bYy.mp j];exact⟨v,u,jA b4 _ _ yB,hv,hu⟩
 rintro m σ H ⟨qs,l,r,k,rfl,hk,hT,hP,rfl,a8⟩;refine⟨_,rfl,z0,λpn a4=>?_⟩;have b8:pn≠t:=bY0 (yJ hT a4);have a3:upd H pn (.lst []) t=some (.lst (qs.map λq=> .ref q.1)):=by rw[yI (bY0 b8)];exact hT
 refine⟨t,pn,_,rfl,rfl,SqL.of a3,SqL.of yB,_,rfl,?_⟩;by_cases b3:qs= []
 ·subst b3;rw[if_neg (by decide)];exact q _ (hk.trans (yG a4 _))
 obtain⟨c,⟨lp,d⟩,rfl⟩:=aX8 b3;rw[if_pos (by simp)];refine⟨λC D=>∃m',m'<xU (c++ [(lp,d)])/\WUU H0 v u t m' C D,λC D z=>z,?_⟩;obtain⟨x,y,c2,N,S⟩:=hP (lp,d) (by simp);have a9:((c++ [(lp,d)]).map λq=>V.ref q.1)[((c++ [(lp,d)]).map λq=>V.ref q.1).length - 1]? =some (.ref lp):=by simp
 have b0:((c++ [(lp,d)]).map λq=>V.ref q.1).dropLast=c.map λq=>V.ref q.1:=by simp
 have b1:∀a O,H a=some (.tup O)->upd (upd H pn (.lst [])) t (.lst (c.map λq=>V.ref q.1)) a=some (.tup O):=λa O e=>wT a3 _ _ (jA a4 _ _ e);refine⟨_,rfl,.inl ⟨rfl,_,SqL.of a3⟩,t,_,.ref lp,rfl,rfl,a3,a9,?_⟩;rw[b0];have J:xC H0 (upd (upd H pn (.lst [])) t (.lst (c.map λq=>V.ref q.1))):=zV (hk.trans (yG a4 _)) a5;have a6:upd (upd H pn (.lst [])) t (.lst (c.map λq=>V.ref q.1)) t=some (.lst (c.map λq=> .ref q.1)):=yB;have a1:∀q∈c,aJn H0 (upd (upd H pn (.lst [])) t (.lst (c.map λq=>V.ref q.1))) q:=λq j=>(hP q (by simp[j])).keep b1;have a7:=b1 _ _ c2;generalize c5:upd (upd H pn (.lst [])) t (.lst (c.map λq=>V.ref q.1))=H2 at J a6 a1 a7 ⊢;refine⟨lp,[x,y],rfl,SqT.of a7,rfl,x,[y],rfl,y,[],rfl,rfl,?_⟩;have c6:1<=d.size:=by cases d<;> simp[Dt.size]
 have c4:xU c+d.size<=1000:=by rw[y8]at a8;simpa[xU]using a8
 have hm:xU c<xU (c++ [(lp,d)]):=by rw[y8];simp[xU];omega
 have fin:∀H3,(∀b o,H2 b=some o->H3 b=some o)->∃m',m'<xU (c++ [(lp,d)])/\WUU H0 v u t m' [some v,some u,some (.ref t),some x,some y,k] H3:=λH3 k3=>
  ⟨xU c,hm,c,some x,some y,k,rfl,J.trans k3,k3 _ _ a6,λq j=>(a1 q j).keep λa O e=>k3 _ _ e,rfl,by omega⟩
 refine⟨_,rfl,z2,λp1 b9=>?_⟩;have R:xC H2 (upd H2 p1 (.tup [.ty "list",.ty "tuple"])):=yG b9 _;cases d with
 |non=>
  have ex:x= .non:=by unfold Is at N;exact N
  have Z:y= .non:=by unfold Is at S;exact S
  subst ex;subst Z;refine⟨_,p1,"list","tuple",_,_,_,rfl,SqT.of yB,.non,uL _,vX _,_,rfl,onF rfl ?_⟩;refine⟨_,rfl,rfl,_,rfl,onT rfl (onT rfl ?_)⟩;refine⟨_,rfl,rfl,_,rfl,onF rfl ?_⟩;refine⟨_,rfl,rfl,_,rfl,onF rfl ?_⟩;exact fin _ R
 |bl b=>
  have ex:x= .bl b:=by unfold Is at N;exact N
  have Z:y= .bl b:=by unfold Is at S;exact S
  subst ex;subst Z;refine⟨_,p1,"list","tuple",_,_,_,rfl,SqT.of yB,.bl b,aZG _,aXI _,_,rfl,onF rfl ?_⟩;refine⟨_,rfl,rfl,_,rfl,onF rfl ?_⟩;refine⟨_,rfl,rfl,_,rfl,onF rfl ?_⟩;refine⟨_,rfl,_,"bool",_,_,rfl,.bl b,W0 _,_,rfl,_,"bool",_,_,rfl,.bl b,W0 _,rfl,_,rfl,onF rfl ?_⟩;refine⟨_,rfl,_,"str",_,_,rfl,.bl b,qF _,_,rfl,_,"str",_,_,rfl,.bl b,qF _,rfl,_,rfl,onF rfl ?_⟩;refine⟨_,rfl,z2,λW G=>?_⟩;refine⟨_,W,"str","int",_,_,_,rfl,SqT.of yB,.bl b,qF _,aJH _,_,rfl,onF rfl ?_⟩;refine⟨_,rfl,_,rfl,rfl,_,rfl,onF (by simp) ?_⟩;exact fin _ (R.trans (yG G _))
 |int n=>
  have ex:x= .int n:=by unfold Is at N;exact N
  have Z:y= .int n:=by unfold Is at S;exact S
  subst ex;subst Z;refine⟨_,p1,"list","tuple",_,_,_,rfl,SqT.of yB,.int n,aQn _,W1 _,_,rfl,onF rfl ?_⟩;refine⟨_,rfl,rfl,_,rfl,onF rfl ?_⟩;refine⟨_,rfl,rfl,_,rfl,onF rfl ?_⟩;refine⟨_,rfl,_,"bool",_,_,rfl,.int n,qG _,_,rfl,_,"bool",_,_,rfl,.int n,qG _,rfl,_,rfl,onF rfl ?_⟩;refine⟨_,rfl,_,"str",_,_,rfl,.int n,jI _,_,rfl,_,"str",_,_,rfl,.int n,jI _,rfl,_,rfl,onF rfl ?_⟩;refine⟨_,rfl,z2,λW G=>?_⟩;refine⟨_,W,"str","int",_,_,_,rfl,SqT.of yB,.int n,jI _,aXo _,_,rfl,onF rfl ?_⟩;refine⟨_,rfl,_,rfl,rfl,_,rfl,onF (by simp) ?_⟩;exact fin _ (R.trans (yG G _))
 |str z=>
  have ex:x= .str z:=by unfold Is at N;exact N
  have Z:y= .str z:=by unfold Is at S;exact S
  subst ex;subst Z;refine⟨_,p1,"list","tuple",_,_,_,rfl,SqT.of yB,.str z,aQp _,W3 _,_,rfl,onF rfl ?_⟩;refine⟨_,rfl,rfl,_,rfl,onF rfl ?_⟩;refine⟨_,rfl,rfl,_,rfl,onF rfl ?_⟩;refine⟨_,rfl,_,"bool",_,_,rfl,.str z,aQo _,_,rfl,_,"bool",_,_,rfl,.str z,aQo _,rfl,_,rfl,onF rfl ?_⟩;refine⟨_,rfl,_,"str",_,_,rfl,.str z,vY _,_,rfl,_,"str",_,_,rfl,.str z,vY _,rfl,_,rfl,onF rfl ?_⟩;refine⟨_,rfl,z2,λW G=>?_⟩;refine⟨_,W,"str","int",_,_,_,rfl,SqT.of yB,.str z,vY _,aWD _,_,rfl,onF rfl ?_⟩;refine⟨_,rfl,_,rfl,rfl,_,rfl,onF (by simp) ?_⟩;exact fin _ (R.trans (yG G _))
 |lst g=>
  unfold Is at N S;obtain⟨a,O,rfl,ha,a0⟩:=N;obtain⟨b,ys,rfl,hb,U⟩:=S;have lx:=a0.length;have ly:=U.length;have a2:=J _ _ ha;have b2:=J _ _ hb;have c0:zH g+1<=1000:=by
   have:Dt.size (.lst g)=1+zH g:=by simp[Dt.size]
   omega
  have b7:g.length<=zH g:=uW g;refine⟨_,p1,"list","tuple",_,_,_,rfl,SqT.of yB,.lst (R _ _ b2),x4 _,z7 _,_,rfl,onT rfl ?_⟩;refine⟨_,rfl,_,"list",_,_,rfl,.lst (R _ _ a2),x4 _,_,rfl,_,"list",_,_,rfl,.lst (R _ _ b2),x4 _,rfl,_,rfl,onF rfl ?_⟩;refine⟨_,rfl,z2,λW G=>?_⟩;have I:=R.trans (yG G (.tup [.ty "list",.ty "tuple"]));refine⟨_,W,"list","tuple",_,_,_,rfl,SqT.of yB,.lst (I _ _ a2),x4 _,z7 _,_,rfl,onF rfl ?_⟩;refine⟨_,rfl,a,_,rfl,.inl (SqL.of (I _ _ a2)),_,rfl,b,_,rfl,.inl (SqL.of (I _ _ b2)),rfl,_,rfl,onF (by simp[lx,ly]) ?_⟩;refine⟨_,rfl,b,_,rfl,.inl (SqL.of (I _ _ b2)),_,rfl,by omega,by omega,?_⟩;have Y:Dt.size (.lst g)=1+zH g:=by simp[Dt.size]
  generalize c1:upd (upd H2 p1 (.tup [.ty "list",.ty "tuple"])) W (.tup [.ty "list",.ty "tuple"])=H3 at I ⊢;refine z6 (λi C D=>∃ (B:List (Nat×Dt))(kk:Option V),C= [some v,some u,some (.ref t),some (.ref a),some (.ref b),kk]/\xC H0 D/\D t=some (.lst ((c++B).map λq=> .ref q.1))/\(∀q∈c++B,aJn H0 D q)/\B.map (·.2)=g.take i) ?_ ?_ ?_
  ·exact⟨[],k,rfl,J.trans I,by rw[cQk];exact I _ _ a6,λq j=>(a1 q (by simpa using j)).keep λa O e=>I _ _ e,rfl⟩
  ·rintro i C D hi ⟨B,kk,rfl,h1,X,h3,h4⟩;have L:i<g.length:=by rw[<- ly];omega
   obtain⟨xi,ex,ix⟩:=a0.get (bYg L);obtain⟨yi,Z,iy⟩:=U.get (bYg L);show aVt _ _ _ _;have sa:Sq K D a O:=Sq.same h1 (.inl ha);have sb:Sq K D b ys:=Sq.same h1 (.inl hb);refine⟨_,rfl,.inl ⟨rfl,_,SqL.of X⟩,_,rfl,_,rfl,?_⟩;rw[cXr];refine sa.ix ex ⟨_,rfl,_,rfl,?_⟩;refine sb.ix Z ⟨z2,λp hp=>?_⟩;have b6:B.length=i:=by have:=congrArg cXp h4;simp at this;omega
   have c3:=u9 c;have M:upd D p (.tup [xi,yi]) t=some (.lst ((c++B).map λq=> .ref q.1)):=by rw[yI (yJ X hp)];exact X
   refine⟨t,_,.ref p,rfl,rfl,M,zlt (by simp;omega),B++ [(p,g[i])],_,rfl,zV (h1.trans (yG hp _)) a5,?_,?_,?_⟩
   ·rw[yB];simp
   ·intro q j;rw[<- cQw,bYU]at j;rcases j with j|j
    ·exact(h3 q j).keep λa O e=>wT M _ _ (jA hp _ _ e)
    ·rw[bYy.mp j];exact⟨xi,yi,wT M _ _ yB,ix,iy⟩
   ·rw[cQA,h4,cQj,bYg L];rfl
  ·rintro C D ⟨B,kk,rfl,h1,X,h3,h4⟩;have e1:g.take ((ys.length:Nat):Int).toNat=g:=by rw[bYW,ly,cQe]
   rw[e1]at h4;have e2:=vH h4;refine⟨xU (c++B),?_,c++B,some (.ref a),some (.ref b),kk,rfl,h1,X,h3,rfl,?_⟩
   ·rw[y8,y8,e2];simp[xU,Y]
   ·rw[y8,e2];omega
 |tup g=>
  unfold Is at N S;obtain⟨a,O,rfl,ha,a0⟩:=N;obtain⟨b,ys,rfl,hb,U⟩:=S;have lx:=a0.length;have ly:=U.length;have a2:=J _ _ ha;have b2:=J _ _ hb;have c0:zH g+1<=1000:=by
   have:Dt.size (.tup g)=1+zH g:=by simp[Dt.size]
   omega
  have b7:g.length<=zH g:=uW g;refine⟨_,p1,"list","tuple",_,_,_,rfl,SqT.of yB,.tup (R _ _ b2),x9 _,zQ _,_,rfl,onT rfl ?_⟩;refine⟨_,rfl,_,"list",_,_,rfl,.tup (R _ _ a2),x9 _,_,rfl,_,"list",_,_,rfl,.tup (R _ _ b2),x9 _,rfl,_,rfl,onF rfl ?_⟩;refine⟨_,rfl,z2,λW G=>?_⟩;have I:=R.trans (yG G (.tup [.ty "list",.ty "tuple"]));refine⟨_,W,"list","tuple",_,_,_,rfl,SqT.of yB,.tup (I _ _ a2),x9 _,zQ _,_,rfl,onF rfl ?_⟩;refine⟨_,rfl,a,_,rfl,.inr (SqT.of (I _ _ a2)),_,rfl,b,_,rfl,.inr (SqT.of (I _ _ b2)),rfl,_,rfl,onF (by simp[lx,ly]) ?_⟩;refine⟨_,rfl,b,_,rfl,.inr (SqT.of (I _ _ b2)),_,rfl,by omega,by omega,?_⟩;have Y:Dt.size (.tup g)=1+zH g:=by simp[Dt.size]
  generalize c1:upd (upd H2 p1 (.tup [.ty "list",.ty "tuple"])) W (.tup [.ty "list",.ty "tuple"])=H3 at I ⊢;refine z6 (λi C D=>∃ (B:List (Nat×Dt))(kk:Option V),C= [some v,some u,some (.ref t),some (.ref a),some (.ref b),kk]/\xC H0 D/\D t=some (.lst ((c++B).map λq=> .ref q.1))/\(∀q∈c++B,aJn H0 D q)/\B.map (·.2)=g.take i) ?_ ?_ ?_
  ·exact⟨[],k,rfl,J.trans I,by rw[cQk];exact I _ _ a6,λq j=>(a1 q (by simpa using j)).keep λa O e=>I _ _ e,rfl⟩
  ·rintro i C D hi ⟨B,kk,rfl,h1,X,h3,h4⟩;have L:i<g.length:=by rw[<- ly];omega
   obtain⟨xi,ex,ix⟩:=a0.get (bYg L);obtain⟨yi,Z,iy⟩:=U.get (bYg L);show aVt _ _ _ _;have sa:Sq K D a O:=Sq.same h1 (.inr ha);have sb:Sq K D b ys:=Sq.same h1 (.inr hb);refine⟨_,rfl,.inl ⟨rfl,_,SqL.of X⟩,_,rfl,_,rfl,?_⟩;rw[cXr];refine sa.ix ex ⟨_,rfl,_,rfl,?_⟩;refine sb.ix Z ⟨z2,λp hp=>?_⟩;have b6:B.length=i:=by have:=congrArg cXp h4;simp at this;omega
   have c3:=u9 c;have M:upd D p (.tup [xi,yi]) t=some (.lst ((c++B).map λq=> .ref q.1)):=by rw[yI (yJ X hp)];exact X
   refine⟨t,_,.ref p,rfl,rfl,M,zlt (by simp;omega),B++ [(p,g[i])],_,rfl,zV (h1.trans (yG hp _)) a5,?_,?_,?_⟩
   ·rw[yB];simp
   ·intro q j;rw[<- cQw,bYU]at j;rcases j with j|j
    ·exact(h3 q j).keep λa O e=>wT M _ _ (jA hp _ _ e)
    ·rw[bYy.mp j];exact⟨xi,yi,wT M _ _ yB,ix,iy⟩
   ·rw[cQA,h4,cQj,bYg L];rfl
  ·rintro C D ⟨B,kk,rfl,h1,X,h3,h4⟩;have e1:g.take ((ys.length:Nat):Int).toNat=g:=by rw[bYW,ly,cQe]
   rw[e1]at h4;have e2:=vH h4;refine⟨xU (c++B),?_,c++B,some (.ref a),some (.ref b),kk,rfl,h1,X,h3,rfl,?_⟩
   ·rw[y8,y8,e2];simp[xU,Y]
   ·rw[y8,e2];omega
end
end Alike
namespace Alike
open PySem L2 PyProof.Rows
open Bk (Row Rows xW xN Ans)
open Desk (xH vI stV xY Up Run zD Wf u4 v5)
open Law (xF LGo LBk xA aXw uO)
open Thr (wD)
theorem aVD{H:Hp}{α:Type}{g:α->Dt}:∀ {vs:List V} {b:List α},vs.length=b.length->(∀ (i:Nat) v a,vs[i]? =some v->b[i]? =some a->Is H v (g a))->zW H vs (b.map g)
 |[],[],_,_=>by show zW H [] [];unfold zW;trivial
 |v::vs,a::b,hl,h=>by rw[bY4];unfold zW;exact⟨h 0 v a rfl rfl,aVD (by simpa using hl) λi v a c d=>h (i+1) v a c d⟩
 |[],_::_,hl,_=>by simp at hl
 |_::_,[],hl,_=>by simp at hl
theorem aZC{H:Hp}{p:Nat}{vs:List V}{ds:List Dt}(h:H p=some (.lst vs))(k:zW H vs ds):Is H (.ref p) (.lst ds):=by
 unfold Is;exact⟨p,vs,rfl,h,k⟩
theorem aVE{H:Hp}{ds:Nat}{a:List Nat}{f:List xN}(h:zD H ds a f):Is H (.ref ds) (.lst (f.map aXl)):=
 aZC h.1 (aVD (by rw[bYl];exact h.2.1) λi v e b g=>by
  rw[bYB]at b;cases c:a[i]? with
  |none=>rw[c]at b;cases b
  |some d=>
   rw[c]at b;cases b;exact bJO (h.2.2 i d e c g))
theorem bWA{α:Type}{g:α->Dt}(h:∀a,nb (g a)=true)(l:List α):nb (.lst (l.map g))=true:=by unfold nb;exact aQx h l
theorem aX5{α:Type}{g:α->Dt}{c n:Nat}{l:List α}(h:∀a∈l,(g a).size<=c)(hl:l.length<=n):Dt.size (.lst (l.map g))<=1+n*c:=by
 have b:Dt.size (.lst (l.map g))=1+zH (l.map g):=by simp[Dt.size]
 have d:=aV1 l h;have e:l.length*c<=n*c:=Nat.mul_le_mul_right _ hl;omega
theorem Run.cut:∀ (n:Nat) {R b:Rows} {S c:List Int} {d fs:List xN} {cs:List Ans},fs.length=n->Run R S (d++fs) cs b c->∃f bs i j,cs=f++bs/\Run R S d f i j/\Run i j fs bs b c
 |0,R,b,S,c,d,fs,cs,hn,h=>by have e:fs= []:=cQ5 hn;subst e;rw[cQk]at h;exact⟨cs,[],b,c,by rw[cQk],h,.nil⟩
 |n+1,R,b,S,c,d,fs,cs,hn,h=>by
  obtain⟨x,g,rfl⟩:=aX8 (l:=fs) (by intro z;rw[z]at hn;cases hn);rcases Desk.Run.inv h with⟨z,_⟩|⟨l,e,m,a,i,j,k,o,q,u⟩
  ·rw[<- cQw]at z;simp at z
  ·rw[<- cQw]at k;obtain⟨w,r⟩:=cZo k rfl;cases r;subst w;obtain⟨f,bs,R2,p,v,s,t⟩:=Run.cut n (by simpa using hn) q;exact⟨f,bs++ [a],R2,p,by rw[o,v,cQw],s,.snoc t u⟩
abbrev aJ6:Stmt:=xF "_law_book_of"
abbrev aXX:Stmt:=xF "_law_standing_of"
def aV5:Sp:=λj H Q _=>∃ (f:Nat)(b:List Nat)(a:List xN),j= [.ref f]/\zD H f b a/\a.length<=60/\(∀e∈a,Wf e)/\
 ∀ (t g d:Nat)(c:Hp)(h:List Nat)(i:List Ans),LGo H g d a i c h->c t=some (.tup [.ref g,.ref d])->Q (.ref t) c
def aJe:Sp:=λf H Q _=>∃ (c:Nat)(e:List Nat)(R:Rows),f= [.ref c]/\xA H c e R/\R.length<=60/\
 ∀ (d:Nat)(a:Hp)(b:List V),xC H a->H d=none->a d=some (.lst b)->bY6 (λv r=>xY a r v) b R->Q (.ref d) a
section
variable {K:bYj}
theorem bQl:yN ["_law_deeds","_law_rows","_law_shut","_law_deed"] ["_law_deeds"] (yH aJ6):=scM
seal PE PA PS PSs PT in
theorem aYy(a:FnG P w K mg base n "_law_done_by" ["_law_rows","_law_shut","_law_deed"] aXw)(F:Fun K "_law_book_of" "_law_book_of" aJ6 f fd):xE P w K mg base CX0 (n+1) f fd ["_law_deeds"] aV5:=by
 have R:=bQl;refine F.ok (k:=n) R (λU A outer s N W Q E S h=>?_);obtain⟨M,p,l,rfl,m,hl,I,q⟩:=h;refine⟨_,(yC (yU (i:=1) (y6 yD)) (yC (yU (i:=2) (y6 yD)) (yC (zR bY5 rfl (xL (pv 0)) (y9 (i:=3)) (yF (yY (xJ a S rfl (yA (pv 1) (yA (pv 2) (yA (pv 3) yD))))))) (yF (yP (xG (yA (pv 1) (yA (pv 2) yD)))))))),?_⟩;refine⟨z0,λy H=>?_⟩;dsimp only[yW];refine⟨z0,λz D=>?_⟩;dsimp only[yW];have G:=LGo.start H D;generalize upd (upd N y (.lst [])) z (.lst [])=H6 at G ⊢;refine⟨_,rfl,M,rfl,⟨_,SqL.of (G.keep _ _ m.1)⟩,?_⟩;refine zG (xs:=p.map V.ref) (λt σ r=>∃ (e:List Nat)(c:List Ans)(B:Option V),σ= [some (.ref M),some (.ref y),some (.ref z),B]/\LGo N y z (l.take t) c r e) ?_ ?_ ?_ ?_
 ·exact⟨[],[],none,rfl,G⟩
 ·rintro t σ r L ⟨e,c,B,rfl,g⟩;exact SqL.of (g.keep _ _ m.1)
 ·rintro t x σ r j ⟨e,c,B,rfl,g⟩;rw[bYB]at j;cases u:p[t]? with
  |none=>rw[u]at j;cases j
  |some d=>
   rw[u]at j;cases j;have o:t<l.length:=by rw[<- m.2.1];exact(bYs.mp u).1
   have J:=bYg o;dsimp only[yW];refine⟨_,rfl,_,rfl,_,rfl,g.step (I _ (cXm o)) (by rw[cQz];omega) (g.keep _ _ (m.2.2 t d _ u J)) λb v X C T Y Z nv=>?_⟩;have O:l.take (t+1)=l.take t++ [l[t]]:=by rw[cQj,J];rfl
   exact⟨C,c++ [b],_,rfl,by rw[O];exact T⟩
 rintro σ r ⟨e,c,B,rfl,g⟩;rw[bYl,m.2.1,cQe]at g;dsimp only[aJg];refine⟨_,rfl,_,rfl,z2,λt L=>?_⟩;exact q t y z _ e c (g.same (yG L _)) yB
theorem aKq:yN ["_law_rows","_law_made","_law_row"] ["_law_rows"] (yH aXX):=scM
seal PE PA PS PSs PT in
theorem aW5(T:vJ mg)(F:Fun K "_law_standing_of" "_law_standing_of" aXX f fd):xE P w K mg base CX0 1 f fd ["_law_rows"] aJe:=by
 have sc:=aKq;refine F.ok (k:=0) sc (λb0 A outer s U vs Q E hr h=>?_);obtain⟨ra,rs,R,rfl,G,a8,q⟩:=h;refine⟨_,(yC (yU (i:=1) (y6 yD)) (yC (zR bY5 rfl (xL (pv 0)) (y9 (i:=2)) (yF (yY (vM bYG bYN bYO xD (pv 1) (yA (yL yK (y6 (yA (x2 qT rfl T.b_tuple wV (yA (Q5 aX6 (pv 2) aJ0 (aQH yE)) yD)) (yA yR yD))) (x2 vB rfl T.b_int uQ (yA (yL yK (pv 2) yE) yD))) yD))))) (yF (yP (pv 1))))),?_⟩;refine⟨z0,λu n=>?_⟩;dsimp only[yW];have k8:=yG n (.lst []);refine⟨_,rfl,ra,rfl,⟨_,SqL.of (k8 _ _ G.lst)⟩,?_⟩;refine zG (xs:=rs.map V.ref) (λt σ g=>∃ (m:List V)(S:Option V),σ= [some (.ref ra),some (.ref u),S]/\xC U g/\g u=some (.lst m)/\bY6 (λv r=>xY g r v) m (R.take t)) ?_ ?_ ?_ ?_
 ·exact⟨[],none,rfl,k8,yB,.nil⟩
 ·rintro t σ g ht ⟨m,S,rfl,y,c,d⟩;exact SqL.of (y _ _ G.lst)
 ·rintro t x σ g C ⟨m,S,rfl,y,c,d⟩;rw[bYB]at C;cases O:rs[t]? with
  |none=>rw[O]at C;cases C
  |some b=>
   rw[O]at C;cases C;have a6:t<R.length:=by rw[<- G.len];exact(bYs.mp O).1
   have J:=bYg a6;obtain⟨l,e1,e2⟩:=G.row t b _ O J;have b9:g b=some (.lst (uO R[t] l)):=y _ _ e1;have a9:m.length=t:=by rw[cQZ d,cQz];omega
   dsimp only[yW];refine⟨_,rfl,.inl ⟨rfl,_,SqL.of c⟩,_,rfl,_,rfl,b,_,rfl,SqL.of b9,λM a5=>⟨M,_,rfl,.inl ⟨SqL.of yB,λj Z=>⟨z2,λN a1=>?_⟩⟩⟩⟩;have a2:=yG a5 (.lst (Z5 (uO R[t] l) none (some 6)));have a3:=yG Z (.tup (Z5 (uO R[t] l) none (some 6)));have a4:=yG a1 (.lst [.ref j,.str "void"]);have B:=(a2.trans a3).trans a4;have L:=a4 _ _ (yB (H:=upd g M (.lst (Z5 (uO R[t] l) none (some 6)))) (a:=j) (o:= .tup (Z5 (uO R[t] l) none (some 6))));have e4:upd (upd (upd g M (.lst (Z5 (uO R[t] l) none (some 6)))) j (.tup (Z5 (uO R[t] l) none (some 6)))) N (.lst [.ref j,.str "void"]) N=some (.lst [.ref j,.str "void"]):=yB;generalize upd (upd (upd g M (.lst (Z5 (uO R[t] l) none (some 6)))) j (.tup (Z5 (uO R[t] l) none (some 6)))) N (.lst [.ref j,.str "void"])=H10 at B L e4 ⊢;have a0:=B _ _ b9;have W:atI [V.ref j,V.str "void"] (if R[t].void=true then 1 else 0)=some (if R[t].void=true then .str "void" else .ref j):=by cases R[t].void<;> rfl
   refine⟨_,rfl,b,_,6,_,rfl,rfl,SqL.of a0,rfl,.inr ⟨_,rfl,N,_,_,_,rfl,rfl,SqL.of e4,W,u,_,_,rfl,rfl,B _ _ c,zlt (by omega),?_⟩⟩;have D:U u=none:=n;have X:∀I,xC U (upd H10 u (.lst I)):=λI x o e=>by rw[yI (yJ e D)];exact B _ _ (y _ _ e)
   have tk:∀ {x zs I},g x=some (.tup zs)->upd H10 u (.lst I) x=some (.tup zs):=λ{x zs I} e=>by rw[yI (λz=>by rw[z,c]at e;cases e)];exact B _ _ e
   refine⟨m++ [if R[t].void=true then .str "void" else .ref j],_,rfl,X _,yB,?_⟩;have et:R.take (t+1)=R.take t++ [R[t]]:=by rw[cQj,J];rfl
   rw[et];refine cZb (Desk.jU (λv r z=>?_) d) ?_
   ·unfold xY at z ⊢;split
    ·rename_i e;rw[if_pos e]at z;exact z
    ·rename_i e;rw[if_neg e]at z;obtain⟨p,e,q⟩:=z;exact⟨p,e,tk q⟩
   ·unfold xY;cases hv:R[t].void with
    |true=>exact rfl
    |false=>
     have Y:Z5 (uO R[t] l) none (some 6)=stV R[t]:=by unfold stV Desk.Q0 Desk.X1;rw[hv];cases a7:R[t].link<;> (unfold uO;rw[a7];rfl)
     rw[Y]at L;refine⟨j,rfl,?_⟩;rw[yI (λz=>by rw[z,B _ _ c]at L;cases L)];exact L
 rintro σ g ⟨m,S,rfl,y,c,d⟩;rw[bYl,G.len,cQe]at d;exact⟨_,rfl,q u g m y n c d⟩
end
end Alike
namespace Alike
open PySem L2 PyProof.Rows
open Bk (Row Rows xW xN Ans)
open Desk (xH vI stV xY Up Run zD Wf u4 v5)
open Law (xF LGo LBk xA aZa uO)
open Thr (wD)
theorem bJC(ns:List Int)(a b:Option Int):∃ms:List Int,Z5 (ns.map V.int) a b=ms.map V.int/\ms.length<=HT.sIx ns.length ns.length b - HT.sIx ns.length 0 a:=by
 refine⟨(ns.drop (HT.sIx ns.length 0 a)).take (HT.sIx ns.length ns.length b - HT.sIx ns.length 0 a),?_,?_⟩
 ·unfold Z5;rw[bYl,List.map_take,List.map_drop]
 ·rw[cQz];exact Nat.min_le_left _ _
theorem aKN(ns:List Int)(a b:Nat):∃c:List Int,Z5 (ns.map V.int) (some (a:Int)) (some (b:Int))=c.map V.int/\c.length<=b - a:=by
 obtain⟨c,d,e⟩:=bJC ns (some (a:Int)) (some (b:Int));refine⟨c,d,bYT e ?_⟩;rw[aVa,aVa];omega
theorem bQ5(xs:List V)(m:Nat):Z5 xs (some (m:Int)) none=xs.drop m:=by
 unfold Z5;rw[HT.bZa,aVa];by_cases h:m<=xs.length
 ·rw[Nat.min_eq_left h,List.take_of_length_le (by rw[List.length_drop];exact bYo _)]
 ·rw[Nat.min_eq_right (by omega),List.drop_of_length_le (bYo _),List.drop_of_length_le (by omega)];simp
theorem bWK{α β:Type}{F:α->β->Prop}:∀ {xs:List α} {d bs:List β},bY6 F xs (d++bs)->∃c b,xs=c++b/\bY6 F c d/\bY6 F b bs
 |xs,[],bs,h=>⟨[],xs,rfl,.nil,h⟩
 |x::xs,a::d,bs,.cons h1 h2=>by obtain⟨c,b,e,f,g⟩:=bWK h2;exact⟨x::c,b,by rw[e];rfl,.cons h1 f,g⟩
theorem aZt{H:Hp}{das a:List Nat}{es b:List xN}(g:das.length=es.length)(k:∀ (i:Nat)(d:Nat)(e:xN),das[i]? =some d->es[i]? =some e->H d=some (.tup (xH e))) (l:a.length=b.length) (m:∀ (i:Nat)(d:Nat)(e:xN),a[i]? =some d->b[i]? =some e->H d=some (.tup (xH e))) {p:Nat} (j:H p=some (.lst (das.map V.ref++a.map V.ref))):zD H p (das++a) (es++b):=by
 refine⟨by rw[cQA];exact j,by rw[bYE,bYE,g,l],λi d e c f=>?_⟩;by_cases h:i<das.length
 ·rw[bYY h]at c;rw[bYY (by omega)]at f;exact k i d e c f
 ·rw[bYH (by omega)]at c f;rw[g]at c;exact m _ d e c f
structure Has(K:bYj)(Tb a ds ra sa:Nat)(ns:List Int)(das:List Nat)(es:List xN)(rs:List Nat)(R:Rows)(S:List Int)(H:Hp):Prop where
 s:SqL K H a (ns.map V.int)
 d:zD H ds das es
 b:xA H ra rs R
 sh:H sa=some (.lst (S.map V.int))
 t:wD Tb H
theorem bWk{H H':Hp}{ra:Nat}{rs:List Nat}{R:Rows}(h:xA H ra rs R)(k:xZ H H'):xA H' ra rs R:=
 ⟨k.lst h.lst,h.len,h.nd,λi b r a c=>let ⟨cp,e1,e2⟩:=h.row i b r a c;⟨cp,k.lst e1,k.lst e2⟩⟩
section
variable {K:bYj}{Tb a ds ra sa:Nat}{ns:List Int}{das:List Nat}{es:List xN}{rs:List Nat}{R:Rows}{S:List Int}{H H':Hp}
theorem Has.sameT(h:Has K Tb a ds ra sa ns das es rs R S H)(k:xZ H H')(t:wD Tb H'):Has K Tb a ds ra sa ns das es rs R S H':=
 ⟨k.seq h.s,h.d.same k,bWk h.b k,k.lst h.sh,t⟩
theorem Has.same(h:Has K Tb a ds ra sa ns das es rs R S H)(k:xC H H'):Has K Tb a ds ra sa ns das es rs R S H':=h.sameT k.t (Desk.jP h.t k)
end
def OnE(R:Rows)(S:List Int)(e:xN)(l:List Nat):Prop:=∃a d,e= .on a d/\Bk.bQX R S d a l
theorem aVV{R g:Rows}{S i:List Int}:∀ (n:Nat) {fs:List xN} {bs:List Ans},fs.length=n->(∀e∈fs,∃b d,e= .on b d)->Run R S fs bs g i->g=R/\i=S/\∃c,bs=c.map .nums/\bY6 (OnE R S) fs c
 |0,fs,bs,hn,hf,h=>by
  rcases Desk.Run.inv h with⟨rfl,rfl,rfl,rfl⟩|⟨_,_,_,_,_,_,rfl,_⟩
  ·exact⟨rfl,rfl,[],rfl,.nil⟩
  ·simp at hn
 |n+1,fs,bs,hn,hf,h=>by
  rcases Desk.Run.inv h with⟨rfl,rfl,rfl,rfl⟩|⟨l,e,k,a,q,r,rfl,rfl,m,o⟩
  ·simp at hn
  ·obtain⟨rfl,rfl,c,rfl,p⟩:=aVV n (by simpa using hn) (λe f=>hf e (by simp[f])) m;obtain⟨b,d,rfl⟩:=hf e (by simp);cases o with
   |on j=>exact⟨rfl,rfl,c++ [_],by rw[cQA];rfl,cZb p ⟨b,d,rfl,j⟩⟩
   |oneN _ f=>rcases f with z|⟨_,z⟩|⟨_,z⟩|⟨_,z⟩|⟨_,z⟩|z|z|z|z<;> cases z
theorem aYJ{R:Rows}{S:List Int}:∀ {fs:List xN} {ls a:List (List Nat)},bY6 (OnE R S) fs ls->bY6 (OnE R S) fs a->ls=a
 |_,_,_,.nil,.nil=>rfl
 |_,_,_,.cons ⟨late,d,e,h⟩ r,.cons ⟨late',d',e',h'⟩ r'=>by rw[e]at e';cases e';rw[h.uniq h',aYJ r r']
end Alike
namespace Alike
open PySem L2 PyProof.Rows
open Bk (Row Rows xW xN Ans)
open Desk (xH vI stV xY Up Run zD Wf u4 v5)
open Law (xF LGo LBk xA aZa uO aQc aWB aJG bJf md0 md1)
open Thr (wD)
def uJ:List Int->List xN
 |[]=> []
 |d::r=> .on false d:: .on true d::uJ r
theorem aQg:∀ (xs:List Int)(d:Int),uJ (xs++ [d])=uJ xs++ [.on false d,.on true d]
 |[],d=>rfl
 |x::r,d=>by show _::_::uJ (r++ [d])=_;rw[aQg r d];rfl
theorem aJq:∀ (xs:List Int),∀e∈uJ xs,∃a d,e= .on a d
 |[],e,h=>nomatch h
 |x::r,e,h=>by
  rcases bYq.mp h with rfl|h
  ·exact⟨_,_,rfl⟩
  ·rcases bYq.mp h with rfl|h
   ·exact⟨_,_,rfl⟩
   ·exact aJq r e h
theorem jE:∀xs:List Int,(uJ xs).length=2*xs.length
 |[]=>rfl
 |x::r=>by show(uJ r).length+1+1=_;rw[jE r,cQg];omega
def aVx(a:Nat)(H:Hp)(v:V)(l:List Nat):Prop:=∃p,v= .ref p/\p≠a/\H p=some (.lst (l.map λi=>V.int (i:Nat)))
abbrev bKG:Stmt:=xF "law"
def bZB(c:Nat)(K:bYj):Sp:=λe H Q _=>∃ (a:Nat)(b:List Int),e= [.ref a]/\SqL K H a (b.map V.int)/\b.length<=63/\wD c H/\∀d,Q (.bl true) d
section
variable {K:bYj}
theorem bWX:yN ["_law_script","_law_deeds","_law_rows","_law_shut","_law_handed","_law_found","_law_dates","_law_k","_law_asks","_law_date","_law_told","_law_due"] ["_law_script"] (yH bKG):=scM
seal PE PA PS PSs PT in
theorem bWG(T:vJ mg)(a7:FnG P w K mg base n "_law_story" ["_law_cells"] aZa)(b5:FnG P w K mg base n "_law_room" ["_law_script","_law_most","_law_bound"] (bJk K))(Z:FnG P w K mg base n "_law_book_of" ["_law_deeds"] aV5) (M:FnG P w K mg base n "_law_standing_of" ["_law_rows"] aJe) (C:FnG P w K mg base n "_law_unturned" ["_law_found","_law_due"] aXx) (a0:FnG P w K mg base n "_law_at" ["_law_script","_law_k"] (aV4 K)) (a5:FnG P w K mg base n "_law_alike" ["_law_found","_law_due"] bQA) (L:FnG P w K mg base n "_law_list_on" ["_law_rows","_law_shut","_law_date","_law_late"] aQc) (X:FnG P w K mg base n "answers" ["deeds"] (u4 Rf)) (W:FnG P w K mg base n "standing" ["deeds"] (v5 Rf)) (F:Fun K "law" "law" bKG f fd):xE P w K mg base CX0 (n+1) f fd ["_law_script"] (bZB Rf.2 K):=by
 have sc:=bWX;refine F.ok (k:=n) sc (λm1 A outer s H0 vs Q E N h=>?_);obtain⟨a,ns,rfl,hS,i3,hT,q⟩:=h;refine⟨_,(yC (yU (i:=1) (yL yX (xJ a7 N rfl (yA (Q5 aX6 (pv 0) (aQH yE) (aQH (yV x5 yE (xJ b5 N rfl (yA (pv 0) (yA yE (yA yE yD))))))) yD)) yE)) (yC (vE (xJ Z N rfl (yA (pv 1) yD)) (aZV rfl (zB (y9 (i:=2)) (zB (y9 (i:=3)) aQG)))) (yC (yU (i:=4) (x2 uR rfl T.b_list zY (yA (pv 1) yD))) (yC (yU (i:=5) (xJ W N rfl (yA (pv 4) yD))) (yC (y7 (vF (xX (xJ C N rfl (yA (pv 4) (yA (pv 1) yD))))) (yF (yP wQ)) yS) (yC (y7 (vF (xX (xJ C N rfl (yA (pv 5) (yA (xJ M N rfl (yA (pv 2) yD)) yD))))) (yF (yP wQ)) yS) (yC (yU (i:=6) (y6 yD)) (yC (zR bY5 rfl (zJ rfl T.b_range (yA yE yD)) (y9 (i:=7)) (yF (yY (vM bYG bYN bYO xD (pv 6) (yA (yV wU (yV y0 (xJ a0 N rfl (yA (pv 0) (yA (pv 7) yD))) yE) yE) yD))))) (yC (y7 (PW.pt (vS (yM (vR N.units0) (pv 2) (y6 yD)) (wR (yM zF (yV y0 (xJ a0 N rfl (yA (pv 0) (yA yE yD))) yE) yE)))) (yF (vE (yV x5 (yL yK (yL yK (pv 2) (yV y0 (xJ a0 N rfl (yA (pv 0) (yA yE yD))) (yQ yO rfl T.b_len xB (yA (pv 2) yD)))) yE) (yV y0 (xJ a0 N rfl (yA (pv 0) (yA yE yD))) yE)) (qC (pv 6) yE zT))) yS) (yC (yU (i:=8) (y6 yD)) (yC (zR bY5 rfl (xL (pv 6)) (y9 (i:=9)) (yF (yU (i:=8) (yV aZS (pv 8) (y6 (yA (xG (yA yR (yA (pv 9) yD))) (yA (xG (yA yR (yA (pv 9) yD))) yD))))))) (yC (yU (i:=10) (xJ X N rfl (yA (yV aZS (pv 1) (pv 8)) yD))) (yC (y7 (PW.pt (jV (vF (xX (yQ x6 rfl T.b_isinstance yZ (yA (pv 10) (yA (xQ (v:= .ty "list") rfl T.b_list zY rfl) yD))))) (vT (yM qZ (yQ yO rfl T.b_len xB (yA (pv 10) yD)) (yV x5 (yQ yO rfl T.b_len xB (yA (pv 1) yD)) (yQ yO rfl T.b_len xB (yA (pv 8) yD))))))) (yF (yP wQ)) yS) (yC (yU (i:=11) (y6 yD)) (yC (zR bY5 rfl (xL (pv 6)) (y9 (i:=9)) (yC (yY (vM bYG bYN bYO xD (pv 11) (yA (xJ L N rfl (yA (pv 2) (yA (pv 3) (yA (pv 9) (yA wQ yD))))) yD))) (yF (yY (vM bYG bYN bYO xD (pv 11) (yA (xJ L N rfl (yA (pv 2) (yA (pv 3) (yA (pv 9) (yA wQ yD))))) yD)))))) (yF (yP (xJ a5 N rfl (yA (Q5 aX6 (pv 10) (aQH (yQ yO rfl T.b_len xB (yA (pv 1) yD))) aJ0) (yA (pv 11) yD)))))))))))))))))))),?_⟩;refine⟨_,rfl,_,rfl,_,rfl,a,ns,20,60,rfl,hS,i3,_,_,rfl,rfl,_,rfl,a,_,rfl,hS,λp hp=>?_⟩;obtain⟨ms,j1,l7⟩:=aKN ns 3 23;have k0:=yG hp (.lst (Z5 (ns.map V.int) (some 3) (some (3+20))));refine⟨p,ms,rfl,yB.trans (congrArg (λz=>some (HO.lst z)) j1),by omega,λH1 t ds us y es vs as R S k1 ht hD h5 hP a4 d4 j4=>?_⟩;have c4:es.length<=23:=by omega
 have f5:=(k0.trans k1).t.seq hS;have T1:=Desk.jP hT (k0.trans k1);refine⟨t,_,0,_,rfl,rfl,SqT.of ht,rfl,?_⟩;dsimp only[yW];refine⟨_,rfl,ds,y,es,rfl,hD,by omega,d4,λt2 ra sa H2 rs cs g g1=>?_⟩;obtain⟨R2,S2,hL,i6,l3,d6⟩:=g.ex;obtain⟨rfl,rfl,rfl⟩:=Run.det es.length rfl a4 d6;have i7:R.length<=23:=bYT i6.r c4;have A2:Has K Rf.2 a ds ra sa ns y es rs R S H2:=⟨g.keep.t.seq f5,hD.same g.keep.t,hL.book,hL.shut,Desk.jP T1 g.keep⟩;clear hD h5 hP ht f5 T1 g hL k1;refine⟨t2,[.ref ra,.ref sa],rfl,SqT.of g1,rfl,.ref ra,[.ref sa],rfl,.ref sa,[],rfl,rfl,?_⟩;dsimp only[yW];refine⟨_,rfl,ds,_,rfl,.inl (SqL.of A2.d.1),λhl e9=>?_⟩;have k2:=yG e9 (.lst (y.map V.ref));have A3:=A2.same k2;have D3:zD (upd H2 hl (.lst (y.map V.ref))) hl y es:=⟨yB,A2.d.2.1,λi d e G U=>k2 _ _ (A2.d.2.2 i d e G U)⟩;generalize upd H2 hl (.lst (y.map V.ref))=H3 at A3 D3 ⊢;dsimp only[yW];refine⟨_,rfl,hl,y,es,rfl,D3,by omega,d4,A3.t,λl H4 ws bs R2 S2 k4 T4 f8 l5 d5 f3=>?_⟩;obtain⟨-,rfl, -⟩:=Run.det es.length rfl a4 f8;have A4:=A3.sameT k4 T4;have D4:=D3.same k4;dsimp only[yW];refine⟨_,rfl,_,rfl,.ref hl,.ref ds,.lst (es.map aXl),rfl,aVE D4,aVE A4.d,bYT (aX5 (n:=23) (c:=5) (λe _=>aKT e) c4) (by decide),λH5 k5=>⟨_,rfl,onF rfl ?_⟩⟩;have A5:=A4.same k5;refine⟨_,rfl,_,rfl,ra,rs,R,rfl,A5.b,by omega,λd1 H6 l4 k6 l9 d9 e6=>?_⟩;have A6:=A5.same k6;refine⟨.ref l,.ref d1,.lst (R.map aQ2),rfl,aZC (k6 _ _ (k5 _ _ d5)) (wN (F:=λv r=>xY H6 r v) (λv r z=>aVF z) (Desk.jU (λv r z=>(z.same k5.t).same k6.t) f3)),aZC d9 (wN (λv r z=>aVF z) e6),bYT (aX5 (n:=23) (c:=7) (λr _=>aKw r) i7) (by decide),λH7 k7=>⟨_,rfl,onF rfl ?_⟩⟩;have A7:=A6.same k7;clear A2 A3 A4 A5 A6 D3 D4 f3 e6 d5 d9 k4 k5 k6 k7 k2 e9 g1;refine⟨z0,λda d2=>?_⟩;dsimp only[yW];have k8:=yG d2 (.lst []);refine⟨_,rfl,by decide,by decide,?_⟩;refine z6 (n:=3) (λt σ H=>∃ (B:List Int)(o7:Option V),σ= [some (.ref a),some (.ref ds),some (.ref ra),some (.ref sa),some (.ref hl),some (.ref l),some (.ref da),o7,none,none,none,none]/\xC H7 H/\H da=some (.lst (B.map V.int))/\B.length=t) ?_ ?_ ?_
 ·exact⟨[],none,rfl,k8,yB,rfl⟩
 ·rintro i σ H hi ⟨B,o7,rfl,k9,hx,a1⟩;rw[cXr];dsimp only[yW];refine⟨_,rfl,.inl ⟨rfl,_,SqL.of hx⟩,_,rfl,_,rfl,a,ns,i,rfl,k9.t.seq A7.s,_,_,rfl,rfl,(show(0:Int)<34 by decide),_,_,rfl,rfl,da,_,_,rfl,rfl,hx,zlt (by rw[bYl];omega),?_⟩;exact⟨B++ [ns.getD i 0 % 34 - 2],_,rfl,λx o e=>by rw[yI (yJ e d2)];exact k9 _ _ e,by rw[yB,cQA];rfl,by rw[bYE,a1];rfl⟩
 rintro σ H8 ⟨f2,o7,rfl,k9,e7,a9⟩;dsimp only[aJg];refine zC (λσ' H'=>∃B:List Int,σ'= [some (.ref a),some (.ref ds),some (.ref ra),some (.ref sa),some (.ref hl),some (.ref l),some (.ref da),o7,none,none,none,none]/\xC H7 H'/\H' da=some (.lst (B.map V.int))/\B.length=3) ?jW (λb6=>?_);case jW=>
  rintro σ' H9 ⟨B,rfl,D,hx,a1⟩;have A9:=A7.same D;refine⟨z0,λq0 g9=>?_⟩;dsimp only[yW];have f1:=yG g9 (.lst []);refine⟨_,rfl,da,rfl,⟨_,SqL.of (f1 _ _ hx)⟩,?_⟩;refine zG (xs:=B.map V.int) (λt σ H=>∃ (qa:Nat)(I:List Nat)(o9:Option V),σ= [some (.ref a),some (.ref ds),some (.ref ra),some (.ref sa),some (.ref hl),some (.ref l),some (.ref da),o7,some (.ref qa),o9,none,none]/\xC H9 H/\zD H qa I (uJ (B.take t))) ?_ ?_ ?_ ?_
  ·exact⟨q0,[],none,rfl,f1,yB,rfl,λi d e h=>by simp at h⟩
  ·rintro t σ H ht ⟨qa,I,o9,rfl,a3,hq⟩;exact SqL.of (a3 _ _ hx)
  ·rintro t x σ H J ⟨qa,I,o9,rfl,a3,hq⟩;rw[bYB]at J;cases hd:B[t]? with
   |none=>rw[hd]at J;cases J
   |some d=>
    rw[hd]at J;cases J;have j0:t<B.length:=(bYs.mp hd).1;have et:B.take (t+1)=B.take t++ [d]:=by rw[cQj,hd];rfl
    have c6:I.length=2*t:=by rw[hq.2.1,jE,cQz];omega
    dsimp only[yW];refine⟨_,rfl,_,rfl,z2,λp1 c8=>⟨_,rfl,z2,λp2 c9=>⟨z2,λl2 b9=>?_⟩⟩⟩;have b1:=yG c8 (.tup [.str "waiting",.int d]);have b2:=yG c9 (.tup [.str "overdue",.int d]);have b3:=yG b9 (.lst [.ref p1,.ref p2]);have c1:=b3 _ _ (b2 _ _ (yB (H:=H) (a:=p1) (o:= .tup [.str "waiting",.int d])));have c2:=b3 _ _ (yB (H:=upd H p1 (.tup [.str "waiting",.int d])) (a:=p2) (o:= .tup [.str "overdue",.int d]));have bb:=(b1.trans b2).trans b3;refine⟨qa,l2,_,_,rfl,rfl,bb _ _ hq.1,yB,by rw[bYl,c6,bYQ];simp;omega,λp3 i1=>?_⟩;have b4:=yG i1 (.lst (I.map V.ref++ [.ref p1,.ref p2]));refine⟨p3,I++ [p1,p2],_,rfl,a3.trans (bb.trans b4),?_⟩;rw[et,aQg];refine aZt hq.2.1 (λi d' e G U=>b4 _ _ (bb _ _ (hq.2.2 i d' e G U))) rfl (λi d' e G U=>?_) yB;match i,G,U with
    |0,G,U=>cases G;cases U;exact b4 _ _ c1
    |1,G,U=>cases G;cases U;exact b4 _ _ c2
    |i+2,G,U=>cases G
  rintro σ h9 ⟨qa,I,o9,rfl,a3,hq⟩;rw[bYl,cQe]at hq;have Y:=A9.same a3;have g5:=a3 _ _ hx;dsimp only[aJg];have c6:I.length=6:=by rw[hq.2.1,jE,a1]
  have j9:y.length<=23:=by rw[Y.d.2.1];exact c4
  refine⟨_,rfl,_,rfl,ds,qa,_,_,rfl,rfl,Y.d.1,hq.1,by rw[bYl,bYl,bYQ];omega,λp1 c8=>?_⟩;have b1:=yG c8 (.lst (y.map V.ref++I.map V.ref));have h7:=aZt Y.d.2.1 (λi d e G U=>b1 _ _ (Y.d.2.2 i d e G U)) hq.2.1 (λi d e G U=>b1 _ _ (hq.2.2 i d e G U)) (yB (H:=h9) (a:=p1) (o:= .lst (y.map V.ref++I.map V.ref)));have f9:∀e∈es++uJ B,Wf e:=λe he=>by
   rcases bYU.mp he with z|z
   ·exact d4 e z
   ·obtain⟨j3,d,rfl⟩:=aJq B e z;exact cQF
  have j5:(es++uJ B).length<=29:=by rw[bYE,jE,a1];omega
  refine⟨p1,y++I,es++uJ B,rfl,h7,by omega,f9,(Y.same b1).t,λm d3 j8 j7 R' S' c7 j2 a8 j6 hm f6=>?_⟩;obtain⟨_,_,i8⟩:=aZ2 _ rfl f9 a8;obtain⟨l8,l0,R1,S1,rfl,a6,d0⟩:=Run.cut _ rfl a8;obtain⟨-,rfl,rfl⟩:=Run.det es.length rfl a4 a6;obtain⟨-, -,ls,rfl,c5⟩:=aVV _ rfl (aJq B) d0;obtain⟨ys,zs,rfl,g6,b8⟩:=bWK f6;have b0:=(Y.same b1).sameT c7 j2;have b7:=c7.lst (b1 _ _ g5);have f4:=hq.same (b1.t.trans c7);have g2:ys.length=y.length:=by rw[cQZ g6,<- a6.len,Y.d.2.1]
  have i2:zs.length=6:=by rw[cQZ b8,bYl,<- cQZ c5,jE,a1]
  dsimp only[yW];refine⟨_,rfl,_,"list",_,_,rfl,.lst hm,x4 _,_,rfl,onF rfl ?_⟩;refine⟨_,rfl,m,_,rfl,.inl (SqL.of hm),_,rfl,ds,_,rfl,.inl (SqL.of b0.d.1),_,rfl,qa,_,rfl,.inl (SqL.of f4.1),_,_,rfl,rfl,rfl,_,rfl,onF ?_ ?_⟩
  ·rw[bYE,bYl,bYl,g2,i2,c6];simp
  refine⟨z0,λdu e0=>?_⟩;dsimp only[yW];have g0:=yG e0 (.lst []);refine⟨_,rfl,da,rfl,⟨_,SqL.of (g0 _ _ b7)⟩,?_⟩;refine zG (xs:=B.map V.int) (λt σ H=>∃ (us:List V)(ks:List (List Nat))(o9:Option V),σ= [some (.ref a),some (.ref ds),some (.ref ra),some (.ref sa),some (.ref hl),some (.ref l),some (.ref da),o7,some (.ref qa),o9,some (.ref m),some (.ref du)]/\xC d3 H/\H du=some (.lst us)/\us.length=2*t/\bY6 (aVx du H) us ks/\bY6 (OnE R S) (uJ (B.take t)) ks) ?_ ?_ ?_ ?_
  ·exact⟨[],[],_,rfl,g0,yB,rfl,.nil,.nil⟩
  ·rintro t σ H ht ⟨us,ks,o9,rfl,O,G,U,h3,h4⟩;exact SqL.of (O _ _ b7)
  ·rintro t x σ H J ⟨us,ks,o9,rfl,O,G,U,h3,h4⟩;rw[bYB]at J;cases hd:B[t]? with
   |none=>rw[hd]at J;cases J
   |some d=>
    rw[hd]at J;cases J;have j0:t<B.length:=(bYs.mp hd).1;have et:B.take (t+1)=B.take t++ [d]:=by rw[cQj,hd];rfl
    have f0:=b0.same O;dsimp only[yW];have one:∀ (H:Hp)(us:List V)(ks:List (List Nat))(l:List Nat)(r:Nat)(H':Hp),xC d3 H->H du=some (.lst us)->bY6 (aVx du H) us ks->xC H H'->H r=none->H' r=some (.lst (l.map λi=>V.int (i:Nat)))->
      xC d3 (upd H' du (.lst (us++ [.ref r])))/\bY6 (aVx du (upd H' du (.lst (us++ [.ref r])))) (us++ [.ref r]) (ks++ [l]):=λH us ks l r H' k G h3 k' N hl=>by
     refine⟨λx o e=>by rw[yI (yJ e e0)];exact k' _ _ (k _ _ e),cZb (Desk.jU (λv l z=>?_) h3) ⟨r,rfl,(λz=>by rw[z,G]at N;cases N),?_⟩⟩
     ·obtain⟨p,e,n,q⟩:=z;exact⟨p,e,n,by rw[yI n];exact k' _ _ q⟩
     ·rw[yI (λz=>by rw[z,G]at N;cases N)];exact hl
    refine⟨_,rfl,.inl ⟨rfl,_,SqL.of G⟩,_,rfl,_,rfl,_,rfl,ra,sa,rs,R,S,d,false,rfl,f0.b,f0.sh,by omega,λr1 k3 l1 a2 i4 h0 i9=>⟨du,_,_,rfl,rfl,a2 _ _ G,zlt (by omega),?_⟩⟩;obtain⟨e1,e2⟩:=one _ _ _ _ _ _ O G h3 a2 i4 h0;have f7:=b0.same e1;refine⟨_,rfl,.inl ⟨rfl,_,SqL.of yB⟩,_,rfl,_,rfl,_,rfl,ra,sa,rs,R,S,d,true,rfl,f7.b,f7.sh,by omega,λr2 m0 l2 d8 i5 b9 h6=>⟨du,_,_,rfl,rfl,d8 _ _ yB,zlt (by rw[bYE];simp;omega),?_⟩⟩;obtain⟨e3,e4⟩:=one _ _ _ _ _ _ e1 yB e2 d8 i5 b9;refine⟨_,_,_,rfl,e3,yB,by simp;omega,e4,?_⟩;rw[et,aQg];have e5:=cZb (cZb h4 ⟨false,d,rfl,i9⟩) (⟨true,d,rfl,h6⟩:OnE R S (.on true d) l2);rw[cQw]at e5;exact e5
  rintro σ d7 ⟨us,ks,l6,rfl,O,G,U,h3,h4⟩;rw[bYl,cQe]at h4;obtain rfl:=aYJ c5 h4;dsimp only[aJg];have i0:=b0.same O;refine⟨_,rfl,_,rfl,ds,_,rfl,.inl (SqL.of i0.d.1),_,rfl,m,_,rfl,SqL.of (O _ _ hm),λp2 c9=>?_⟩;have a2:=yG c9 (.lst (Z5 (ys++zs) (some ((y.map V.ref).length:Nat)) none));have e1:Z5 (ys++zs) (some ((y.map V.ref).length:Nat)) none=zs:=by rw[bQ5,bYl,<- g2,List.drop_left]
  refine⟨_,rfl,.ref p2,.ref du,.lst (ls.map λl=>jS (.nums l)),rfl,aZC (yB.trans (by rw[e1])) ?_,aZC (a2 _ _ G) ?_,bWA (λl=>bWz (.nums l)) _,bYT (aX5 (n:=6) (c:=40) (λl hl=>?_) (by rw[<- cQZ c5,jE,a1];decide)) (by decide),λg7 _=>q g7⟩
  ·have e2:=wN (F:=λv a=>vI [] (upd d7 p2 (.lst (Z5 (ys++zs) (some ((y.map V.ref).length:Nat)) none))) a v) (λv a z=>bZ3 z) (Desk.jU (λv a z=>Law.qQ z λp u n e=>⟨n,a2 _ _ (O _ _ e)⟩) b8);rw[cXt]at e2;exact e2
  ·exact wN (F:=λv l=>aVx du (upd d7 p2 (.lst (Z5 (ys++zs) (some ((y.map V.ref).length:Nat)) none))) v l) (λv l z=>by obtain⟨p,rfl,_,e⟩:=z;exact bZ3 (a:= .nums l) (o:= []) ⟨p,rfl,(λz=>nomatch z),e⟩) (Desk.jU (λv l z=>by obtain⟨p,e,n,z⟩:=z;exact⟨p,e,n,a2 _ _ z⟩) h3)
  ·have:=i8 (.nums l) (bYF _ (List.mem_map_of_mem hl));omega
 have A8:=A7.same k9;refine aJG (λb H'=>xC H8 H'/\(b=true->R≠ [])) ?_ ?_ ?_
 ·intro Kk hK;refine⟨_,rfl,z0,λpn e8=>⟨ra,pn,_,rfl,rfl,SqL.of ((yG e8 (.lst [])) _ _ A8.b.lst),SqL.of yB,_,rfl,?_⟩⟩;have D:=yG e8 (.lst []);refine qA (λc=>?_) (λc=>hK _ _ ⟨D,λz=>nomatch z⟩);refine⟨_,rfl,a,ns,0,rfl,D.t.seq A8.s,_,_,rfl,rfl,(show(0:Int)<7 by decide),rfl,_,rfl,hK _ _ ⟨D,λ_ z=>?_⟩⟩;have e:=A8.b.len;rw[z]at e;rw[cQ5 e]at c;simp at c
 ·rintro H9 ⟨D,c0⟩;have c0:=c0 rfl;have A9:=A8.same D;have g8:=D _ _ e7;have c3:(0:Int)<((rs.map V.ref).length:Nat):=by
   rw[bYl,A9.b.len];have:=cQu.mpr c0;omega
  refine⟨_,rfl,_,rfl,a,ns,1,rfl,A9.s,_,rfl,ra,_,rfl,.inl (SqL.of A9.b.lst),_,_,rfl,rfl,c3,?_⟩;refine aWB rfl rfl (SqL.of A9.b.lst) (md0 c3) (md1 c3) λv hv=>?_;obtain⟨b,hb,rfl⟩:=cQm.mp hv;obtain⟨j,hj,ej⟩:=List.mem_iff_getElem.mp hb;have h8:j<R.length:=by rw[<- A9.b.len];exact hj
  obtain⟨cp,g3,g4⟩:=A9.b.row j b R[j] (by rw[bYg hj,ej]) (bYg h8);refine⟨b,_,1,_,rfl,rfl,SqL.of g3,rfl,_,rfl,a,ns,2,rfl,A9.s,_,_,rfl,rfl,(show(0:Int)<9 by decide),_,_,rfl,rfl,_,rfl,da,_,0,0,rfl,rfl,g8,?_,?_⟩
  ·rw[bYl,a9];rfl
  ·refine b6 _ _ ⟨f2.set 0 (R[j].date+ns.getD 2 0 % 9),rfl,λx o e=>by rw[yI (yJ e d2)];exact D _ _ (k9 _ _ e),by rw[yB,List.map_set],by rw[List.length_set];exact a9⟩
 ·rintro H9 ⟨D,_⟩;exact b6 _ _ ⟨f2,rfl,k9.trans D,D _ _ e7,a9⟩
end
end Alike
namespace Desk
open PySem L2 PyProof.Rows
section
variable {K:bYj}
abbrev aQQ:Stmt:=xI "Refused" "__init__"
theorem aKc:yN ["self","words"] ["self","words"] (yH aQQ):=scM
theorem aWR(F:Fun K "__init__" "Refused.__init__" aQQ f fd):xE P w K mg base CX0 (n+1) f fd ["self","words"] (wS K):=by
 have b:=aKc;refine F.ok (k:=n) b (λi A outer s H j Q E l h=>?_);obtain⟨e,C,tp,y,rfl,c,d,q⟩:=h;refine⟨_,(yF (bWN (pv 0) (pv 1) rfl)),?_⟩;exact⟨_,rfl,_,rfl,e,C,tp,rfl,c,d,λg a=>q g a⟩
abbrev Z0:Stmt:=xI "NoLetter" "__init__"
theorem aVf:yN ["self"] ["self"] (yH Z0):=scM
theorem aJO(a:aWl P w K mg base n "Refused" "__init__" ["self","words"] (wS K))(i:v7 K C)(F:Fun K "__init__" "NoLetter.__init__" Z0 f fd):xE P w K mg base CX0 (n+1) f fd ["self"] (wG K C "no letter"):=by
 have c:=aVf;refine F.ok (k:=n) c (λl A outer s H m Q E g h=>?_);obtain⟨e,tp,rfl,d,q⟩:=h;refine⟨_,(yF (yY (uX a g rfl (yA (pv 0) (yA yR yD))))),?_⟩;exact⟨_,rfl,e,C,tp,_,rfl,d,i,λj b=>q j b⟩
abbrev aX2:Stmt:=xI "NoTerm" "__init__"
theorem bQj:yN ["self"] ["self"] (yH aX2):=scM
theorem aYw(a:aWl P w K mg base n "Refused" "__init__" ["self","words"] (wS K))(i:v7 K C)(F:Fun K "__init__" "NoTerm.__init__" aX2 f fd):xE P w K mg base CX0 (n+1) f fd ["self"] (wG K C "no term"):=by
 have c:=bQj;refine F.ok (k:=n) c (λl A outer s H m Q E g h=>?_);obtain⟨e,tp,rfl,d,q⟩:=h;refine⟨_,(yF (yY (uX a g rfl (yA (pv 0) (yA yR yD))))),?_⟩;exact⟨_,rfl,e,C,tp,_,rfl,d,i,λj b=>q j b⟩
abbrev aX1:Stmt:=xI "HasOne" "__init__"
theorem bQi:yN ["self"] ["self"] (yH aX1):=scM
theorem aYv(a:aWl P w K mg base n "Refused" "__init__" ["self","words"] (wS K))(i:v7 K C)(F:Fun K "__init__" "HasOne.__init__" aX1 f fd):xE P w K mg base CX0 (n+1) f fd ["self"] (wG K C "has one"):=by
 have c:=bQi;refine F.ok (k:=n) c (λl A outer s H m Q E g h=>?_);obtain⟨e,tp,rfl,d,q⟩:=h;refine⟨_,(yF (yY (uX a g rfl (yA (pv 0) (yA yR yD))))),?_⟩;exact⟨_,rfl,e,C,tp,_,rfl,d,i,λj b=>q j b⟩
abbrev aQP:Stmt:=xI "HasNone" "__init__"
theorem aKb:yN ["self"] ["self"] (yH aQP):=scM
theorem aWQ(a:aWl P w K mg base n "Refused" "__init__" ["self","words"] (wS K))(i:v7 K C)(F:Fun K "__init__" "HasNone.__init__" aQP f fd):xE P w K mg base CX0 (n+1) f fd ["self"] (wG K C "has none"):=by
 have c:=aKb;refine F.ok (k:=n) c (λl A outer s H m Q E g h=>?_);obtain⟨e,tp,rfl,d,q⟩:=h;refine⟨_,(yF (yY (uX a g rfl (yA (pv 0) (yA yR yD))))),?_⟩;exact⟨_,rfl,e,C,tp,_,rfl,d,i,λj b=>q j b⟩
abbrev qL:Stmt:=xI "OwnThread" "__init__"
theorem aZ4:yN ["self"] ["self"] (yH qL):=scM
theorem aZP(a:aWl P w K mg base n "Refused" "__init__" ["self","words"] (wS K))(i:v7 K C)(F:Fun K "__init__" "OwnThread.__init__" qL f fd):xE P w K mg base CX0 (n+1) f fd ["self"] (wG K C "own thread"):=by
 have c:=aZ4;refine F.ok (k:=n) c (λl A outer s H m Q E g h=>?_);obtain⟨e,tp,rfl,d,q⟩:=h;refine⟨_,(yF (yY (uX a g rfl (yA (pv 0) (yA yR yD))))),?_⟩;exact⟨_,rfl,e,C,tp,_,rfl,d,i,λj b=>q j b⟩
abbrev aQR:Stmt:=xI "SameWay" "__init__"
theorem aKd:yN ["self"] ["self"] (yH aQR):=scM
theorem aWS(a:aWl P w K mg base n "Refused" "__init__" ["self","words"] (wS K))(i:v7 K C)(F:Fun K "__init__" "SameWay.__init__" aQR f fd):xE P w K mg base CX0 (n+1) f fd ["self"] (wG K C "same way"):=by
 have c:=aKd;refine F.ok (k:=n) c (λl A outer s H m Q E g h=>?_);obtain⟨e,tp,rfl,d,q⟩:=h;refine⟨_,(yF (yY (uX a g rfl (yA (pv 0) (yA yR yD))))),?_⟩;exact⟨_,rfl,e,C,tp,_,rfl,d,i,λj b=>q j b⟩
abbrev vU:Stmt:=xI "OtherPartner" "__init__"
theorem aQZ:yN ["self"] ["self"] (yH vU):=scM
theorem aQz(a:aWl P w K mg base n "Refused" "__init__" ["self","words"] (wS K))(i:v7 K C)(F:Fun K "__init__" "OtherPartner.__init__" vU f fd):xE P w K mg base CX0 (n+1) f fd ["self"] (wG K C "other partner"):=by
 have c:=aQZ;refine F.ok (k:=n) c (λl A outer s H m Q E g h=>?_);obtain⟨e,tp,rfl,d,q⟩:=h;refine⟨_,(yF (yY (uX a g rfl (yA (pv 0) (yA yR yD))))),?_⟩;exact⟨_,rfl,e,C,tp,_,rfl,d,i,λj b=>q j b⟩
abbrev Z1:Stmt:=xI "TooEarly" "__init__"
theorem aVg:yN ["self"] ["self"] (yH Z1):=scM
theorem aJP(a:aWl P w K mg base n "Refused" "__init__" ["self","words"] (wS K))(i:v7 K C)(F:Fun K "__init__" "TooEarly.__init__" Z1 f fd):xE P w K mg base CX0 (n+1) f fd ["self"] (wG K C "too early"):=by
 have c:=aVg;refine F.ok (k:=n) c (λl A outer s H m Q E g h=>?_);obtain⟨e,tp,rfl,d,q⟩:=h;refine⟨_,(yF (yY (uX a g rfl (yA (pv 0) (yA yR yD))))),?_⟩;exact⟨_,rfl,e,C,tp,_,rfl,d,i,λj b=>q j b⟩
abbrev aX0:Stmt:=xI "Copied" "__init__"
theorem bQh:yN ["self"] ["self"] (yH aX0):=scM
theorem aYu(a:aWl P w K mg base n "Refused" "__init__" ["self","words"] (wS K))(i:v7 K C)(F:Fun K "__init__" "Copied.__init__" aX0 f fd):xE P w K mg base CX0 (n+1) f fd ["self"] (wG K C "copied"):=by
 have c:=bQh;refine F.ok (k:=n) c (λl A outer s H m Q E g h=>?_);obtain⟨e,tp,rfl,d,q⟩:=h;refine⟨_,(yF (yY (uX a g rfl (yA (pv 0) (yA yR yD))))),?_⟩;exact⟨_,rfl,e,C,tp,_,rfl,d,i,λj b=>q j b⟩
abbrev X9:Stmt:=xI "Answered" "__init__"
theorem aVe:yN ["self"] ["self"] (yH X9):=scM
theorem aJN(a:aWl P w K mg base n "Refused" "__init__" ["self","words"] (wS K))(i:v7 K C)(F:Fun K "__init__" "Answered.__init__" X9 f fd):xE P w K mg base CX0 (n+1) f fd ["self"] (wG K C "answered"):=by
 have c:=aVe;refine F.ok (k:=n) c (λl A outer s H m Q E g h=>?_);obtain⟨e,tp,rfl,d,q⟩:=h;refine⟨_,(yF (yY (uX a g rfl (yA (pv 0) (yA yR yD))))),?_⟩;exact⟨_,rfl,e,C,tp,_,rfl,d,i,λj b=>q j b⟩
abbrev qK:Stmt:=xI "CountsNot" "__init__"
theorem aZ3:yN ["self"] ["self"] (yH qK):=scM
theorem aZO(a:aWl P w K mg base n "Refused" "__init__" ["self","words"] (wS K))(i:v7 K C)(F:Fun K "__init__" "CountsNot.__init__" qK f fd):xE P w K mg base CX0 (n+1) f fd ["self"] (wG K C "counts not"):=by
 have c:=aZ3;refine F.ok (k:=n) c (λl A outer s H m Q E g h=>?_);obtain⟨e,tp,rfl,d,q⟩:=h;refine⟨_,(yF (yY (uX a g rfl (yA (pv 0) (yA yR yD))))),?_⟩;exact⟨_,rfl,e,C,tp,_,rfl,d,i,λj b=>q j b⟩
end
end Desk
namespace End4
open PySem L2 PyProof.Rows
section
variable {K:bYj}{x m qual t:Str}{st:Stmt}{f C R CB CL:Nat}{oc:bYh}{od an:Option Nat}{osl:Array (Option bYh)}{kV doc pm cdv ct:bYh}
structure vV(K:bYj)(x:Str)(st:Stmt)(f:Nat):Prop where
 ns:cQc K bYP x=some (some (.ref f))
 ex:∃fd,Fun K x x st f fd
def Def(K:bYj)(x:Str)(st:Stmt):Prop:=∃f,vV K x st f
theorem xS(a:cQc K bYP x=some (some (.ref f)))(l:K.lookup f=some ⟨oc,od,.func (cQD x x (zZ st) (zI st) (yH st) .none kV doc pm an cdv ct),osl⟩)
  (c:cQ0 K cdv x=true) (k:cQd K (.ref f)=true):vV K x st f:=⟨a,_,aXm l c k⟩
theorem xM(a:cQc K bYP x=some (some (.ref f)))(l:K.lookup f=some ⟨oc,od,.func (cQD x x (zZ st) (zI st) (yH st) .none kV doc pm an cdv ct),osl⟩)
  (c:cQ0 K cdv x=true) (k:cQd K (.ref f)=true):Def K x st:=⟨f,xS a l c k⟩
structure Mtd(K:bYj)(C:Nat)(m qual:Str)(st:Stmt):Prop where
 ex:∃f fd,bV6 K C m f/\Fun K m qual st f fd
theorem x0(a:bY3 K (.ref C) m=some (some (.ref f)))(i:cXW K (.ref f)=true)(l:K.lookup f=some ⟨oc,od,.func (cQD m qual (zZ st) (zI st) (yH st) .none kV doc pm an cdv ct),osl⟩)
  (c:cQ0 K cdv qual=true) (k:cQd K (.ref f)=true):Mtd K C m qual st:=⟨f,_,⟨a,i,k⟩,aXm l c k⟩
structure MkD(K:bYj)(x:Str)(C:Nat)(qual:Str)(st:Stmt):Prop where
 ns:cQc K bYP x=some (some (.ref C))
 ex:∃f fd,Mk K C f/\Fun K "__init__" qual st f fd
theorem bZ7(a:cQc K bYP x=some (some (.ref C)))(mk:PySem.W.makesIn K C=true)(b:cQd K (.ref C)=true)(d:bY3 K (.ref C) "__init__"=some (some (.ref f)))(i:cXW K (.ref f)=true) (l:K.lookup f=some ⟨oc,od,.func (cQD "__init__" qual (zZ st) (zI st) (yH st) .none kV doc pm an cdv ct),osl⟩) (c:cQ0 K cdv qual=true) (k:cQd K (.ref f)=true):MkD K x C qual st:=
 ⟨a,f,_,⟨mk,d,i,b⟩,aXm l c k⟩
structure Exc(K:bYj)(R:Nat)(x qual:Str)(st:Stmt):Prop where
 ex:∃C f fd,cQc K bYP x=some (some (.ref C))/\v7 K C/\cZu K C (.ref R)=some true/\bY3 K (.ref C) "__init__"=some (some (.ref f))/\cXW K (.ref f)=true/\cQd K (.ref C)=true/\Fun K "__init__" qual st f fd
theorem uT(a:cQc K bYP x=some (some (.ref C)))(e:bXd K C=true)(b:cZu K C (.ref R)=some true)(d:cQd K (.ref C)=true)(g:bY3 K (.ref C) "__init__"=some (some (.ref f)))(i:cXW K (.ref f)=true) (l:K.lookup f=some ⟨oc,od,.func (cQD "__init__" qual (zZ st) (zI st) (yH st) .none kV doc pm an cdv ct),osl⟩) (c:cQ0 K cdv qual=true) (k:cQd K (.ref f)=true):Exc K R x qual st:=
 ⟨C,f,_,a,aKX e,b,g,i,d,aXm l c k⟩
structure bKp(K:bYj)(x:Str)(R:Nat)(qual:Str)(st:Stmt):Prop where
 ns:cQc K bYP x=some (some (.ref R))
 cl:v7 K R
 ex:∃f fd,PySem.W.readsIn K R (.type "type")=true/\PySem.W.findCls K (.ref R) (.type "type") "__init__"=some (.val (.ref f))/\cZN K (.ref R) "__getattribute__"=some (some (.builtin "type.__getattribute__"))/\Fun K "__init__" qual st f fd
theorem bVo(a:cQc K bYP x=some (some (.ref R)))(e:bXd K R=true)(rd:PySem.W.readsIn K R (.type "type")=true)(b:PySem.W.findCls K (.ref R) (.type "type") "__init__"=some (.val (.ref f))) (sp:cZN K (.ref R) "__getattribute__"=some (some (.builtin "type.__getattribute__"))) (l:K.lookup f=some ⟨oc,od,.func (cQD "__init__" qual (zZ st) (zI st) (yH st) .none kV doc pm an cdv ct),osl⟩) (c:cQ0 K cdv qual=true) (k:cQd K (.ref f)=true):bKp K x R qual st:=
 ⟨a,aKX e,f,_,rd,b,sp,aXm l c k⟩
theorem bKt(b1:cXX K CB Str.empty=true)(q:cZd K CB=true)(c:cZM K CB=true)(m:bY3 K (.ref CB) "__setattr__"=some (some (.builtin "object.__setattr__")))
  (j:cXX K CL Str.empty=true) (i:cZd K CL=true) (e:cZM K CL=true) (g:bY3 K (.ref CL) "__setattr__"=some (some (.builtin "object.__setattr__")))
  (k:bY3 K (.ref CB) "letters"=some none) (f:bY3 K (.ref CB) "shut"=some none)
  (n:bY3 K (.ref CL) "number"=some none) (r:bY3 K (.ref CL) "way"=some none) (o:bY3 K (.ref CL) "day"=some none) (d:bY3 K (.ref CL) "partner"=some none)
  (p:bY3 K (.ref CL) "term"=some none) (h:bY3 K (.ref CL) "link"=some none) (l:bY3 K (.ref CL) "file"=some none) (b:bY3 K (.ref CL) "copies"=some none) (a:bY3 K (.ref CL) "void"=some none):
  Desk.Cl K CB CL:=⟨⟨b1,q,c,m⟩,⟨j,i,e,g⟩,k,f,n,r,o,d,p,h,l,b,a⟩
end
section
variable {P:bYD}{w:bYL}{K:bYj}{h:Heap}{mg:Str->Option bYh}{base:Heap}{x m qual t:Str}{st:Stmt}{f C R:Nat}{k:Nat}{ps:List Str}{sp:Sp}{CX:CXT}
def aQ7(x qual:Str)(st:Stmt)(ps:List Str):Prop:=∀ (kV doc pm:bYh)(an:Option Nat)(cdv ct:bYh)(a:List bYh),a.length=ps.length->bindArgs (cQD x qual (zZ st) (zI st) (yH st) .none kV doc pm an cdv ct) ⟨a,[]⟩=pure (ps.zip a)
theorem Q2{a:cXg}(F:Fun K x qual st f a):cQd K (.ref f)=true:=F.2
theorem gOf(P:bYD)(w:bYL)(base:Heap)(k:Nat)(X:K.In h)(G:h.Ns bYP mg)(D:Def K x st)(b:aQ7 x x st ps)(ok:∀f c,Fun K x x st f c->xE P w K mg base CX0 k f c ps sp):FnG P w K mg base k x ps sp:=by
 obtain⟨f,a,c,F⟩:=D;exact⟨f,c,ok f c F,F.binds b,Q2 F,cXc X G a⟩
theorem xOf(P:bYD)(w:bYL)(base:Heap)(k:Nat)(X:K.In h)(G:h.Ns bYP mg)(D:Def K x st)(b:aQ7 x x st ps)(ok:∀f c,Fun K x x st f c->xE P w K mg base (CXR P w) k f c ps sp):FnX P w K mg base k x ps sp:=by
 obtain⟨f,a,c,F⟩:=D;exact⟨f,c,ok f c F,F.binds b,Q2 F,cXc X G a⟩
structure DoG(P:bYD)(w:bYL)(K:bYj)(mg:Str->Option bYh)(base:Heap)(k:Nat)(f:Nat)(ps:List Str)(sp:Sp):Prop where
 ex:∃fd,xE P w K mg base (CXR P w) k f fd ps sp/\v6 K fd ps []/\cQd K (.ref f)=true
theorem dOf(mg:Str->Option bYh)(P:bYD)(w:bYL)(base:Heap)(k:Nat)(D:vV K x st f)(b:aQ7 x x st ps)(ok:∀f c,Fun K x x st f c->xE P w K mg base (CXR P w) k f c ps sp):DoG P w K mg base k f ps sp:=by
 obtain⟨a,c,F⟩:=D;exact⟨c,ok f c F,F.binds b,Q2 F⟩
theorem mOf(mg:Str->Option bYh)(P:bYD)(w:bYL)(base:Heap)(k:Nat)(c:Cls K C)(D:Mtd K C m qual st)(b:aQ7 m qual st ps)(ok:∀f a,Fun K m qual st f a->xE P w K mg base CX0 k f a ps sp):MG P w K mg base CX0 k C m ps sp:=by
 obtain⟨f,a,M,F⟩:=D.ex;exact⟨⟨f,a,ok f a F,F.binds b,M⟩,c⟩
theorem aJL(mg:Str->Option bYh)(P:bYD)(w:bYL)(base:Heap)(k:Nat)(c:Cls K C)(D:Mtd K C m qual st)(b:aQ7 m qual st ps)(ok:∀f a,Fun K m qual st f a->xE P w K mg base (CXR P w) k f a ps sp):MG P w K mg base (CXR P w) k C m ps sp:=by
 obtain⟨f,a,M,F⟩:=D.ex;exact⟨⟨f,a,ok f a F,F.binds b,M⟩,c⟩
theorem kOf(P:bYD)(w:bYL)(base:Heap)(k:Nat)(X:K.In h)(G:h.Ns bYP mg)(D:MkD K x C qual st)(b:aQ7 "__init__" qual st ps)(ok:∀f a,Fun K "__init__" qual st f a->xE P w K mg base CX0 k f a ps sp):MkG P w K mg base k x C ps sp:=by
 obtain⟨f,a,M,F⟩:=D.ex;exact⟨⟨f,a,ok f a F,F.binds b,M,cXc X G D.ns⟩⟩
theorem eOf(P:bYD)(w:bYL)(base:Heap)(k:Nat)(t:Str)(X:K.In h)(G:h.Ns bYP mg)(D:Exc K R x qual st)(b:aQ7 "__init__" qual st ["self"])(ok:∀C f c,v7 K C->Fun K "__init__" qual st f c->xE P w K mg base CX0 k f c ["self"] (wG K C t)):∃C,ExG P w K mg base k x R C t:=by
 obtain⟨C,f,c,a,e,j,g,i,d,F⟩:=D.ex;exact⟨C,⟨f,c,ok C f c e F,F.binds b,g,i,d,cXc X G a⟩,e,j⟩
theorem rOf(P:bYD)(w:bYL)(base:Heap)(k:Nat)(X:K.In h)(G:h.Ns bYP mg)(D:bKp K x R qual st)(b:aQ7 "__init__" qual st ps)(ok:∀f a,Fun K "__init__" qual st f a->xE P w K mg base CX0 k f a ps sp):aWl P w K mg base k x "__init__" ps sp:=by
 obtain⟨f,a,rd,c,s,F⟩:=D.ex;exact⟨⟨R,f,a,ok f a F,F.binds b,rd,c,s,Q2 F,cXc X G D.ns⟩⟩
end
def Pr(w:bYL):List DictEntry->List (Str×Nat)->Prop
 |[],[]=>True
 |e::es,(x,f)::r=>(∃t,e.key= .str x t)/\e.hash=hashStr w x/\e.val= .ref f/\Pr w es r
 |_,_=>False
abbrev bZ4(r:List (Str×Nat)):List (Key×bYh):=r.map λp=>(Sum.inr p.1,.ref p.2)
theorem aVT{P:bYD}{w:bYL}:∀ {a:List DictEntry} {r:List (Str×Nat)},Pr w a r->Pairs (zA P w) a (bZ4 r)
 |[],[],_=> .nil
 |e::a,(x,f)::r,⟨⟨t,h1⟩,h2,h3,h4⟩=> .cons (by rw[h1];exact qI P w x t) h3 (aVT h4)
 |[],_::_,h=>nomatch h
 |_::_,[],h=>nomatch h
theorem aYS{P:bYD}{w:bYL}:∀ {a:List DictEntry} {r:List (Str×Nat)},Pr w a r->∀e∈a,∃k,(zA P w).is k e.key=true/\e.hash=(zA P w).hash k
 |[],_,_,e,he=>nomatch he
 |e::a,(x,f)::r,⟨⟨t,h1⟩,h2,h3,h4⟩,e',he=>by
  rcases bYq.mp he with rfl|z
  ·exact⟨Sum.inr x,by rw[h1];exact qI P w x t,h2⟩
  ·exact aYS h4 e' z
 |_::_,[],h,_,_=>nomatch h
theorem bV0{P:bYD}{w:bYL}{K:bYj}{D:Nat}{c:Array DictEntry}{f:Nat}{r:List (Str×Nat)}(l:K.lookup D=some ⟨.type "dict",none,.dict c f, #[]⟩)(p:Pr w c.toList r)(g:(r.map (·.1)).Nodup):Desk.bKr P w K D (bZ4 r):=by
 refine⟨⟨_,c,f,l,⟨rfl,rfl,rfl⟩,rfl,λe h=>aYS p e (Array.mem_toList_iff.mpr h),aVT p,?_⟩⟩;have e:(bZ4 r).map (·.1)=(r.map (·.1)).map Sum.inr:=by simp[bZ4,Function.comp_def]
 rw[e];exact List.Pairwise.map _ (λa b d z=>d (Sum.inr.inj z)) g
theorem uM:∀ {r:List (Str×Nat)} {x:Str} {f:Nat},(r.map (·.1)).Nodup->∀i:Nat,r[i]? =some (x,f)->cZB (bZ4 r) (Sum.inr x:Key)=some (.ref f)
 |[],_,_,_,_,h=>by simp at h
 |(y,g)::r,x,f,nd,0,h=>by cases h;simp[cZB,bZ4]
 |(y,g)::r,x,f,nd,i+1,h=>by
  have c:r[i]? =some (x,f):=by simpa using h
  have a:=cXu.mp nd;have d:¬ ((Sum.inr y:Key)=Sum.inr x):=λz=>a.1 (by
   rw[Sum.inr.inj z];exact cQm.mpr ⟨(x,f),bYz c,rfl⟩)
  have b:=uM a.2 i c;unfold cZB at b ⊢;simp only[bZ4,bY4,cXG,decide_eq_false d]at b ⊢;exact b
end End4
namespace L2
open PySem
section
variable {P:bYD}{w:bYL}{K:bYj}{mg:Str->Option bYh}{base:Heap}{j k:Nat}{x t:Str}{ps:List Str}{sp:Sp}{C Rf:Nat}{CX:CXT}
theorem FnG.up(G:FnG P w K mg base j x ps sp)(h:j<=k:=by decide):FnG P w K mg base k x ps sp:=G.mono h
theorem FnX.up(G:FnX P w K mg base j x ps sp)(h:j<=k:=by decide):FnX P w K mg base k x ps sp:=G.mono h
theorem MG.up(G:MG P w K mg base CX j C x ps sp)(h:j<=k:=by decide):MG P w K mg base CX k C x ps sp:=G.mono h
theorem MkG.up(G:MkG P w K mg base j x C ps sp)(h:j<=k:=by decide):MkG P w K mg base k x C ps sp:=G.mono h
theorem ExG.up(G:ExG P w K mg base j x Rf C t)(h:j<=k:=by decide):ExG P w K mg base k x Rf C t:=G.mono h
end
end L2
namespace End4
open PySem L2 PyProof.Rows
theorem bdA{x qual:Str}{st:Stmt}{ps:List Str}(h:aQ7 x qual st ps:=by
  intro a b c d e f u h;rcases u with _|⟨_,_|⟨_,_|⟨_,_|⟨_,_|⟨_,_|⟨_,_|⟨_,_⟩⟩⟩⟩⟩⟩⟩<;> first|(cases h;done)|kernel_rfl):aQ7 x qual st ps:=h
end End4
namespace End4
open PySem L2 PyProof.Rows
set_option maxHeartbeats 0 in
theorem all_mk{l:PySem.W.OpenLaw}{w:bYL}{K:bYj}{h:Heap}{mg:Str->Option bYh}{fa R L CL cA J fA fL DD i y A x B I E z D H u r q p k j:Nat}{j4 e1:Option Nat}{e2:Array (Option bYh)}{i1 h5 k2 f8 j5:bYh}{b1:Array DictEntry}{k7:Nat}{tW tO:Tok} (X:K.In h) (G:h.Ns bYP mg) (b9:mg "law"=some (.ref fa)) (d60:bKp K "Refused" R "Refused.__init__" Desk.aQQ) (d61:Exc K R "NoLetter" "NoLetter.__init__" Desk.Z0) (d62:Exc K R "NoTerm" "NoTerm.__init__" Desk.aX2) (d63:Exc K R "HasOne" "HasOne.__init__" Desk.aX1) (d64:Exc K R "HasNone" "HasNone.__init__" Desk.aQP) (d65:Exc K R "OwnThread" "OwnThread.__init__" Desk.qL) (d66:Exc K R "SameWay" "SameWay.__init__" Desk.aQR) (d67:Exc K R "OtherPartner" "OtherPartner.__init__" Desk.vU) (d68:Exc K R "TooEarly" "TooEarly.__init__" Desk.Z1) (d69:Exc K R "Copied" "Copied.__init__" Desk.aX0) (d70:Exc K R "Answered" "Answered.__init__" Desk.X9) (d71:Exc K R "CountsNot" "CountsNot.__init__" Desk.qK) (d9:MkD K "Letter" CL "Letter.__init__" Desk.aY7) (d24:MkD K "Book" L "Book.__init__" Desk.aY0) (cl:Desk.Cl K L CL) (d10:Mtd K CL "state" "Letter.state" Desk.bQc) (d11:Mtd K CL "is_answered_by" "Letter.is_answered_by" Desk.aYZ) (d12:Mtd K CL "has_gone_to" "Letter.has_gone_to" Desk.bVr) (d13:Mtd K CL "make_void" "Letter.make_void" Desk.bVA) (d15:Mtd K L "letter_at" "Book.letter_at" Desk.aQM) (d16:Mtd K L "answers_to" "Book.answers_to" Desk.aVY) (d17:Mtd K L "copies_of" "Book.copies_of" Desk.aQL) (d18:Mtd K L "state_of" "Book.state_of" Desk.aXY) (d19:Mtd K L "letters_in" "Book.letters_in" Desk.jN) (d20:Mtd K L "answered_by" "Book.answered_by" Desk.aQK) (d21:Mtd K L "waiting_pairs" "Book.waiting_pairs" Desk.aY9) (d22:Mtd K L "waiting" "Book.waiting" Desk.Q9) (d23:Mtd K L "overdue" "Book.overdue" Desk.Q8) (d25:Mtd K L "add_letter" "Book.add_letter" Desk.bKD) (d28:Mtd K L "enter" "Book.enter" Desk.aY6) (d29:Mtd K L "reply" "Book.reply" Desk.bQb) (d30:Mtd K L "loosen" "Book.loosen" Desk.aVb) (d31:Mtd K L "put_term" "Book.put_term" Desk.aXW) (d32:Mtd K L "send_copy" "Book.send_copy" Desk.bVy) (d33:Mtd K L "cancel" "Book.cancel" Desk.aJ7) (d34:Mtd K L "shut_day" "Book.shut_day" Desk.bVz) (d35:Mtd K L "put_day" "Book.put_day" Desk.aVc) (d36:Mtd K L "thread_of" "Book.thread_of" Desk.Y1) (d37:Mtd K L "lay_thread" "Book.lay_thread" Desk.bKH) (d38:Mtd K L "check_hanging" "Book.check_hanging" Desk.aY1) (d39:Mtd K L "hang" "Book.hang" Desk.bVt) (d58:Mtd K L "standing_states" "Book.standing_states" Desk.aXZ) (d1:Def K "open_by_rest" Days.bVw) (d2:Def K "place_of" Days.bQa) (d3:Def K "counts" Days.aJ8) (d4:Def K "closed_days" Days.aXS) (d5:Def K "day_at" Days.aY3) (d6:Def K "due_day" Days.bKF) (d7:Def K "top_of" Thr.bQf) (d8:Def K "thread" Thr.aVd) (d14:Def K "other_way" Desk.aY8) (d26:Def K "check_term" Desk.bQd) (d27:Def K "check_days" Desk.aY4) (d56:Def K "answer" Desk.aJ5) (d57:Def K "answers" Desk.Q6) (d59:Def K "standing" Desk.aQN) (d72:Def K "_law_good" Law.bVs) (d73:Def K "_law_kids_of" Law.bZb) (d74:Def K "_law_waits_on" Law.aV0) (d75:Def K "_law_due_by" Law.aY5) (d76:Def K "_law_list_on" Law.aXV) (d77:Def K "_law_family" Law.aXU) (d78:Def K "_law_lost" Law.bVv) (d79:Def K "_law_dated" Law.aY2) (d80:Def K "_law_hung" Law.bVu) (d81:Def K "_law_entered" Law.aXT) (d82:Def K "_law_with_one" Law.bVB) (d83:Def K "_law_told_of" Law.bQe) (d84:Def K "_law_done_by" Law.bVq) (d85:Def K "_law_hanging" Law.Q7) (d86:Def K "_law_about" Law.aVX) (d87:Def K "_law_deed_at" Law.aJ9) (d88:Def K "_law_story" Law.aVZ) (d89:Def K "_law_whole" Alike.bQg) (d90:Def K "_law_room" Alike.bVx) (d91:Def K "_law_alike" Alike.aYY) (d92:Def K "_law_at" Alike.sAt) (d93:Def K "_law_unturned" Alike.aQO) (d94:Def K "_law_book_of" Alike.aJ6) (d95:Def K "_law_standing_of" Alike.aXX) (d40:vV K "do_enter" Desk.Z2 i) (d41:vV K "do_reply" Desk.Z4 y) (d42:vV K "do_hang" Desk.aQV A) (d43:vV K "do_loose" Desk.Z3 x) (d44:vV K "do_date" Desk.aQT B) (d45:vV K "do_term" Desk.aQX I) (d46:vV K "do_copy" Desk.aQS E) (d47:vV K "do_file" Desk.aQU z) (d48:vV K "do_void" Desk.aQY D) (d49:vV K "do_shut" Desk.aQW H) (d50:vV K "ask_state" Desk.qM u) (d51:vV K "ask_thread" Desk.uZ r) (d52:vV K "ask_copies" Desk.uY q) (d53:vV K "ask_letters" Desk.uE p) (d54:vV K "ask_waiting" Desk.uG k) (d55:vV K "ask_overdue" Desk.uF j) (dL:vV K "law" Alike.bKG fL) (aA:cQc K bYP "answers_to_each"=some (some (.ref fA))) (lA:K.lookup fA=some ⟨i1,j4,.func (cQD "answers_to_each" "answers_to_each" (zZ Thr.aJ4) (zI Thr.aJ4) (yH Thr.aJ4) .none h5 k2 f8 e1 (.ref cA) j5),e2⟩) (cA1:cQ0 K (.ref cA) "answers_to_each"=true) (kA:cQd K (.ref fA)=true) (nD:cQc K bYP "DEEDS"=some (some (.ref DD))) (lD:K.lookup DD=some ⟨.type "dict",none,.dict b1 k7, #[]⟩) (pD:Pr w b1.toList [("in",i),("out",i),("reply",y),("hang",A),("loose",x),("date",B),("term",I),("copy",E),("file",z),("void",D),("shut",H),("state",u),("thread",r),("copies",q),("letters",p),("waiting",k),("overdue",j)]) (z_len:cQc K bYP "len"=some none) (z_min:cQc K bYP "min"=some none) (z_sum:cQc K bYP "sum"=some none) (z_sorted:cQc K bYP "sorted"=some none) (z_isinstance:cQc K bYP "isinstance"=some none) (z_int:cQc K bYP "int"=some none) (z_str:cQc K bYP "str"=some none) (z_bool:cQc K bYP "bool"=some none) (z_list:cQc K bYP "list"=some none) (z_tuple:cQc K bYP "tuple"=some none) (z_set:cQc K bYP "set"=some none) (z_range:cQc K bYP "range"=some none) (z_reversed:cQc K bYP "reversed"=some none) (z_max:cQc K bYP "max"=some none) (y_week:cQc K bYP "WEEK"=some (some (.int 7 tW))) (y_open:cQc K bYP "OPEN_DAYS"=some (some (.int 5 tO))) (tb:cZS K cA J=true) (tn:K.lookup J=none) :∃ (g:cXg)(c:Nat),cZS K c J=true/\K.lookup J=none/\(∀ (s:bYk)(v:bYh),BindsTo s g ⟨[v],[]⟩ [("_law_script",v)])/\∀base:Heap,K.In base->base.Ns bYP mg->cXn base c J->base.BuiltinsAt mg J->xE l.prog w K mg base CX0 11 fa g ["_law_script"] (Alike.bZB J K):=by
 obtain⟨aL,b2,Q⟩:=dL;have e:=b9.symm.trans (cXc X G aL);cases e;have TD:Days.vJ mg:=⟨bYx X G z_len,bYx X G z_min,bYx X G z_sum,bYx X G z_sorted,bYx X G z_isinstance,bYx X G z_int,bYx X G z_str,bYx X G z_bool,bYx X G z_list,bYx X G z_tuple,bYx X G z_set,bYx X G z_range,bYx X G z_reversed,⟨_,cXc X G y_week⟩,⟨_,cXc X G y_open⟩⟩;have TT:Thr.vJ mg:=⟨bYx X G z_len,bYx X G z_sorted,bYx X G z_isinstance,bYx X G z_int,bYx X G z_str,bYx X G z_bool,bYx X G z_list,bYx X G z_tuple,bYx X G z_range⟩;have TB:Desk.vJ mg:=⟨bYx X G z_len,bYx X G z_sorted,bYx X G z_list⟩;have T:Law.vJ mg:=⟨bYx X G z_len,bYx X G z_range⟩;have TA:Alike.vJ mg:=⟨bYx X G z_len,bYx X G z_sorted,bYx X G z_isinstance,bYx X G z_int,bYx X G z_str,bYx X G z_bool,bYx X G z_list,bYx X G z_tuple,bYx X G z_range⟩;have bL:∀ (s:bYk)(v:bYh),BindsTo s b2 ⟨[v],[]⟩ [("_law_script",v)]:=by obtain⟨oc,od,kV,l5,pm,an,l8,ct,l6,rfl,lk,l4⟩:=Q.ex;exact λs v=> .of_eq rfl
 refine⟨b2,cA,tb,tn,bL,λbase _ _ M hB=>?_⟩;have g0:FnG l.prog w K mg base 2 "answers_to_each" ["links","dates"] (Thr.bVU J):=⟨fA,_,Thr.bWE TT M hB lA cA1,(aXm (st:=Thr.aJ4) lA cA1 kA).binds bdA,kA,cXc X G aA⟩;have g1:=gOf l.prog w base 1 X G d1 bdA λf g F=>Days.bJ9 TD F;have g2:=gOf l.prog w base 1 X G d2 bdA λf g F=>Days.bXR TD F;have g3:=gOf l.prog w base 2 X G d3 bdA λf g F=>Days.aYB TD g1.up F;have g4:=gOf l.prog w base 2 X G d4 bdA λf g F=>Days.aYA TD g1.up F;have g5:=gOf l.prog w base 1 X G d5 bdA λf g F=>Days.bXK TD F;have g6:=gOf l.prog w base 3 X G d6 bdA λf g F=>Days.bWF TD g4.up g2.up g5.up F;have g7:=gOf l.prog w base 1 X G d7 bdA λf g F=>Thr.bXW TT F;have g8:=gOf l.prog w base 3 X G d8 bdA λf g F=>Thr.aYI TT g0.up g7.up F;have g9:=kOf l.prog w base 1 X G d9 bdA λf g F=>Desk.bXO (n:=0) cl F;have a6:=mOf mg l.prog w base 1 cl.l d10 bdA λf g F=>Desk.bXT (n:=0) cl F;have i2:=mOf mg l.prog w base 1 cl.l d11 bdA λf g F=>Desk.bXF (n:=0) cl F;have f9:=mOf mg l.prog w base 1 cl.l d12 bdA λf g F=>Desk.bJ2 (n:=0) cl F;have i0:=mOf mg l.prog w base 1 cl.l d13 bdA λf g F=>Desk.bVe (n:=0) cl F;have j2:=gOf l.prog w base 1 X G d14 bdA λf g F=>Desk.bXP (n:=0) F;have a7:=mOf mg l.prog w base 2 cl.b d16 bdA λf g F=>Desk.bXG (n:=1) cl i2.up F;have j9:=mOf mg l.prog w base 1 cl.b d19 bdA λf g F=>Desk.aZR (n:=0) cl F;have k4:=mOf mg l.prog w base 1 cl.b d20 bdA λf g F=>Desk.aJQ (n:=0) cl F;have a3:=mOf mg l.prog w base 4 cl.b d21 bdA λf g F=>Desk.bXQ (n:=3) TB cl k4.up g6.up F;have c6:=mOf mg l.prog w base 5 cl.b d22 bdA λf g F=>Desk.aW7 (n:=4) cl a3.up F;have l0:=mOf mg l.prog w base 5 cl.b d23 bdA λf g F=>Desk.aW3 (n:=4) cl a3.up F;have b4:=kOf l.prog w base 1 X G d24 bdA λf g F=>Desk.bXH (n:=0) cl F;have a8:=mOf mg l.prog w base 3 cl.b d25 bdA λf g F=>Desk.bWD (n:=1) TB cl g9.up F;have k1:=dOf mg l.prog w base 2 d53 bdA λf g F=>Desk.aXd (n:=1) (Rf:=(R,J)) j9.up F;have b6:=dOf mg l.prog w base 6 d54 bdA λf g F=>Desk.aXf (n:=5) (Rf:=(R,J)) c6.up F;have h2:=dOf mg l.prog w base 6 d55 bdA λf g F=>Desk.aXe (n:=5) (Rf:=(R,J)) l0.up F;have i3:=mOf mg l.prog w base 2 cl.b d58 bdA λf g F=>Desk.aYH (n:=1) cl a6.up F;have N:=rOf l.prog w base 1 X G d60 bdA λf g F=>Desk.aWR (n:=0) F;obtain⟨_,i4⟩:=eOf l.prog w base 2 "no letter" X G d61 bdA λC f g M F=>Desk.aJO (n:=1) N M F;obtain⟨_,k0⟩:=eOf l.prog w base 2 "no term" X G d62 bdA λC f g M F=>Desk.aYw (n:=1) N M F;obtain⟨_,k3⟩:=eOf l.prog w base 2 "has one" X G d63 bdA λC f g M F=>Desk.aYv (n:=1) N M F;obtain⟨_,j7⟩:=eOf l.prog w base 2 "has none" X G d64 bdA λC f g M F=>Desk.aWQ (n:=1) N M F;obtain⟨_,e8⟩:=eOf l.prog w base 2 "own thread" X G d65 bdA λC f g M F=>Desk.aZP (n:=1) N M F;obtain⟨_,j8⟩:=eOf l.prog w base 2 "same way" X G d66 bdA λC f g M F=>Desk.aWS (n:=1) N M F;obtain⟨_,f7⟩:=eOf l.prog w base 2 "other partner" X G d67 bdA λC f g M F=>Desk.aQz (n:=1) N M F;obtain⟨_,h8⟩:=eOf l.prog w base 2 "too early" X G d68 bdA λC f g M F=>Desk.aJP (n:=1) N M F;obtain⟨_,f1⟩:=eOf l.prog w base 2 "copied" X G d69 bdA λC f g M F=>Desk.aYu (n:=1) N M F;obtain⟨_,h1⟩:=eOf l.prog w base 2 "answered" X G d70 bdA λC f g M F=>Desk.aJN (n:=1) N M F;obtain⟨_,c4⟩:=eOf l.prog w base 2 "counts not" X G d71 bdA λC f g M F=>Desk.aZO (n:=1) N M F;have S:=gOf l.prog w base 1 X G d72 bdA λf g F=>Law.bJ3 T F;have a2:=gOf l.prog w base 1 X G d73 bdA λf g F=>Law.bJ6 T F;have f3:=gOf l.prog w base 2 X G d74 bdA λf g F=>Law.bXX T (bYx X G z_min) a2.up F;have j3:=gOf l.prog w base 1 X G d75 bdA λf g F=>Law.bXM T F;have b3:=gOf l.prog w base 3 X G d76 bdA λf g F=>Law.aYE T (bYx X G z_sorted) f3.up j3.up F;have a1:=gOf l.prog w base 2 X G d77 bdA λf g F=>Law.aYD T (bYx X G z_sorted) F;have f5:=gOf l.prog w base 2 X G d78 bdA λf g F=>Law.bJ7 a2.up F;have h9:=gOf l.prog w base 2 X G d79 bdA λf g F=>Law.bXJ a2.up F;have f6:=gOf l.prog w base 3 X G d80 bdA λf g F=>Law.bJ5 S.up a1.up F;have c9:=gOf l.prog w base 3 X G d81 bdA λf g F=>Law.aW1 T (bYx X G z_int) S.up F;have l1:=gOf l.prog w base 3 X G d82 bdA λf g F=>Law.bVf T S.up h9.up f5.up a1.up F;have h6:=gOf l.prog w base 4 X G d83 bdA λf g F=>Law.bVd T (bYx X G z_list) (bYx X G z_tuple) S.up b3.up a1.up F;have a9:=gOf l.prog w base 5 X G d84 bdA λf g F=>Law.bJ1 c9.up f6.up h6.up l1.up F;have h0:=gOf l.prog w base 2 X G d85 bdA λf g F=>Law.aW2 T (bYx X G z_int) S.up F;have j1:=gOf l.prog w base 2 X G d86 bdA λf g F=>Law.bXD T (bYx X G z_int) S.up F;have h4:=gOf l.prog w base 3 X G d87 bdA λf g F=>Law.aYC T (bYx X G z_int) (bYx X G z_max) S.up h0.up j1.up F;have c8:=gOf l.prog w base 6 X G d88 bdA λf g F=>Law.bXU T a9.up h4.up F;have c7:=gOf l.prog w base 1 X G d89 bdA λf g F=>Alike.bXY TA F;have b5:=gOf l.prog w base 1 X G d90 bdA λf g F=>Alike.bVa TA F;have f2:=gOf l.prog w base 2 X G d91 bdA λf g F=>Alike.bXE TA c7.up F;have h7:=gOf l.prog w base 1 X G d92 bdA λf g F=>Alike.bJZ TA F;have e7:=gOf l.prog w base 1 X G d93 bdA λf g F=>Alike.aJX TA F;have h3:=gOf l.prog w base 6 X G d94 bdA λf g F=>Alike.aYy (n:=5) a9.up F;have k9:=gOf l.prog w base 1 X G d95 bdA λf g F=>Alike.aW5 TA F;have O:=aJL mg l.prog w base 4 cl.b d15 bdA λf g F=>Desk.bJZ (n:=2) (Rf:=(R,J)) TB cl i4.up F;have c0:=aJL mg l.prog w base 5 cl.b d17 bdA λf g F=>Desk.aJR (n:=4) (Rf:=(R,J)) TB cl O.up F;have c2:=aJL mg l.prog w base 5 cl.b d18 bdA λf g F=>Desk.aW6 (n:=4) (Rf:=(R,J)) cl O.up a6.up F;have a0:=xOf l.prog w base 4 X G d26 bdA λf g F=>Desk.bXV (n:=2) (Rf:=(R,J)) k0.up F;have Y:=xOf l.prog w base 4 X G d27 bdA λf g F=>Desk.bXL (n:=2) (Rf:=(R,J)) h8.up F;have e3:=aJL mg l.prog w base 5 cl.b d28 bdA λf g F=>Desk.bXN (n:=4) (Rf:=(R,J)) cl a0.up a8.up F;have d0:=aJL mg l.prog w base 5 cl.b d29 bdA λf g F=>Desk.bXS (n:=4) (Rf:=(R,J)) cl O.up a0.up Y.up j2.up a8.up F;have k8:=aJL mg l.prog w base 5 cl.b d30 bdA λf g F=>Desk.aYF (n:=3) (Rf:=(R,J)) cl O.up j7.up F
 have i6:=aJL mg l.prog w base 5 cl.b d31 bdA λf g F=>Desk.aW4 (n:=4) (Rf:=(R,J)) cl O.up a0.up F;have e4:=aJL mg l.prog w base 5 cl.b d32 bdA λf g F=>Desk.bVb (n:=3) (Rf:=(R,J)) TB cl O.up f9.up f1.up F;have e0:=aJL mg l.prog w base 5 cl.b d33 bdA λf g F=>Desk.aYz (n:=3) (Rf:=(R,J)) TB cl O.up a7.up i0.up h1.up F;have j6:=aJL mg l.prog w base 4 cl.b d34 bdA λf g F=>Desk.bVc (n:=2) (Rf:=(R,J)) cl g3.up c4.up F;have e6:=aJL mg l.prog w base 5 cl.b d35 bdA λf g F=>Desk.aYG (n:=4) (Rf:=(R,J)) cl O.up a7.up Y.up F;have Z:=aJL mg l.prog w base 5 cl.b d36 bdA λf g F=>Desk.aJW (n:=4) (Rf:=(R,J)) cl O.up g8.up F;have a4:=aJL mg l.prog w base 6 cl.b d37 bdA λf g F=>Desk.bWH (n:=5) (Rf:=(R,J)) TB cl Z.up F;have e9:=aJL mg l.prog w base 6 cl.b d38 bdA λf g F=>Desk.bXI (n:=4) (Rf:=(R,J)) cl Z.up Y.up k3.up e8.up j8.up f7.up F;have b8:=aJL mg l.prog w base 7 cl.b d39 bdA λf g F=>Desk.bJ4 (n:=6) (Rf:=(R,J)) cl O.up e9.up a4.up F;have c3:=dOf mg l.prog w base 6 d40 bdA λf g F=>Desk.aJS (n:=5) (Rf:=(R,J)) e3.up F;have k6:=dOf mg l.prog w base 6 d41 bdA λf g F=>Desk.aJU (n:=5) (Rf:=(R,J)) d0.up F;have i9:=dOf mg l.prog w base 8 d42 bdA λf g F=>Desk.aWX (n:=7) (Rf:=(R,J)) b8.up F;have l2:=dOf mg l.prog w base 6 d43 bdA λf g F=>Desk.aJT (n:=5) (Rf:=(R,J)) k8.up F;have i8:=dOf mg l.prog w base 6 d44 bdA λf g F=>Desk.aWV (n:=5) (Rf:=(R,J)) e6.up F;have k5:=dOf mg l.prog w base 6 d45 bdA λf g F=>Desk.aWZ (n:=5) (Rf:=(R,J)) i6.up F;have j0:=dOf mg l.prog w base 6 d46 bdA λf g F=>Desk.aWU (n:=5) (Rf:=(R,J)) e4.up F;have b7:=dOf mg l.prog w base 7 d47 bdA λf g F=>Desk.aWW (n:=6) (Rf:=(R,J)) a4.up F;have l3:=dOf mg l.prog w base 6 d48 bdA λf g F=>Desk.aW0 (n:=5) (Rf:=(R,J)) e0.up F;have c1:=dOf mg l.prog w base 5 d49 bdA λf g F=>Desk.aWY (n:=4) (Rf:=(R,J)) j6.up F;have f4:=dOf mg l.prog w base 6 d50 bdA λf g F=>Desk.aZQ (n:=5) (Rf:=(R,J)) c2.up F;have i7:=dOf mg l.prog w base 6 d51 bdA λf g F=>Desk.aXN (n:=5) (Rf:=(R,J)) Z.up F;have e5:=dOf mg l.prog w base 6 d52 bdA λf g F=>Desk.aXM (n:=5) (Rf:=(R,J)) c0.up F;have P:(([("in",i),("out",i),("reply",y),("hang",A),("loose",x),("date",B),("term",I),("copy",E),("file",z),("void",D),("shut",H),("state",u),("thread",r),("copies",q),("letters",p),("waiting",k),("overdue",j)]:List (Str×Nat)).map (·.1)).Nodup:=show(["in","out","reply","hang","loose","date","term","copy","file","void","shut","state","thread","copies","letters","waiting","overdue"]:List Str).Nodup from dk;have all:Desk.bV8 l.prog w K mg base 8 (R,J) L CL (bZ4 [("in",i),("out",i),("reply",y),("hang",A),("loose",x),("date",B),("term",I),("copy",E),("file",z),("void",D),("shut",H),("state",u),("thread",r),("copies",q),("letters",p),("waiting",k),("overdue",j)]):=by
  intro e f0;cases e with
  |enter l7 d V t=>
   obtain⟨g,a,b,c⟩:=c3.ex;rcases f0 with rfl|rfl
   ·exact⟨i,g,_,uM P 0 rfl,a.mono (by decide),⟨_,d,V,t,rfl⟩,b,c⟩
   ·exact⟨i,g,_,uM P 1 rfl,a.mono (by decide),⟨_,d,V,t,rfl⟩,b,c⟩
  |reply m d t=>obtain⟨g,a,b,c⟩:=k6.ex;exact⟨y,g,_,uM P 2 rfl,a.mono (by decide),⟨m,d,t,rfl⟩,b,c⟩
  |hang m o=>obtain⟨g,a,b,c⟩:=i9.ex;exact⟨A,g,_,uM P 3 rfl,a.mono (by decide),⟨m,o,rfl⟩,b,c⟩
  |loose m=>obtain⟨g,a,b,c⟩:=l2.ex;exact⟨x,g,_,uM P 4 rfl,a.mono (by decide),⟨m,rfl⟩,b,c⟩
  |date m d=>obtain⟨g,a,b,c⟩:=i8.ex;exact⟨B,g,_,uM P 5 rfl,a.mono (by decide),⟨m,d,rfl⟩,b,c⟩
  |term m t=>obtain⟨g,a,b,c⟩:=k5.ex;exact⟨I,g,_,uM P 6 rfl,a.mono (by decide),⟨m,t,rfl⟩,b,c⟩
  |copy m V=>obtain⟨g,a,b,c⟩:=j0.ex;exact⟨E,g,_,uM P 7 rfl,a.mono (by decide),⟨m,V,rfl⟩,b,c⟩
  |file m U=>obtain⟨g,a,b,c⟩:=b7.ex;exact⟨z,g,_,uM P 8 rfl,a.mono (by decide),⟨m,U,rfl⟩,b,c⟩
  |void m=>obtain⟨g,a,b,c⟩:=l3.ex;exact⟨D,g,_,uM P 9 rfl,a.mono (by decide),⟨m,rfl⟩,b,c⟩
  |shut d=>obtain⟨g,a,b,c⟩:=c1.ex;exact⟨H,g,_,uM P 10 rfl,a.mono (by decide),⟨d,rfl⟩,b,c⟩
  |state m=>obtain⟨g,a,b,c⟩:=f4.ex;exact⟨u,g,_,uM P 11 rfl,a.mono (by decide),⟨m,rfl⟩,b,c⟩
  |thread m=>obtain⟨g,a,b,c⟩:=i7.ex;exact⟨r,g,_,uM P 12 rfl,a.mono (by decide),⟨m,rfl⟩,b,c⟩
  |copies m=>obtain⟨g,a,b,c⟩:=e5.ex;exact⟨q,g,_,uM P 13 rfl,a.mono (by decide),⟨m,rfl⟩,b,c⟩
  |letters U=>obtain⟨g,a,b,c⟩:=k1.ex;exact⟨p,g,_,uM P 14 rfl,a.mono (by decide),⟨U,rfl⟩,b,c⟩
  |on a5 d=>
   cases a5
   ·obtain⟨g,a,b,c⟩:=b6.ex;exact⟨k,g,_,uM P 15 rfl,a.mono (by decide),⟨d,rfl⟩,b,c⟩
   ·obtain⟨g,a,b,c⟩:=h2.ex;exact⟨j,g,_,uM P 16 rfl,a.mono (by decide),⟨d,rfl⟩,b,c⟩
 have b0:=gOf l.prog w base 9 X G d56 bdA λf g F=>Desk.aYx (n:=8) (Rf:=(R,J)) (cXc X G nD) (bV0 lD pD P) (cXc X G d60.ns) d60.cl all F;have c5:=gOf l.prog w base 10 X G d57 bdA λf g F=>Desk.aWT (n:=8) (Rf:=(R,J)) b4.up b0.up F;have i5:=gOf l.prog w base 10 X G d59 bdA λf g F=>Desk.aJV (n:=8) (Rf:=(R,J)) b4.up b0.up i3.up F;exact Alike.bWG (n:=10) (Rf:=(R,J)) TA c8.up b5.up h3.up k9.up e7.up h7.up f2.up b3.up c5.up i5.up Q
end End4
namespace End4
open PySem L2 PyProof.Rows
theorem walk{l:PySem.W.OpenLaw}{q:bYD}{loose:List Str}{r:(Str->Option bYh)->Heap->Prop}{e:bYL->Heap->Prop}{d:DefRec}{K:Params->bYj}{T:Nat}(v:l.most=some 63)(g:d.params.defaults= []) (t:∀ (w:bYL)(h:Heap),e w h->(K w.params).In h) (b:∀ (w:bYL)(h:Heap),e w h->h.get? T=some (cXQ #[])) (F:∀ (w:bYL)(mg:Str->Option bYh)(i:Nat)(h:Heap),(K w.params).In h->h.Ns bYP mg->mg d.name=some (.ref i)-> ∃ (j:cXg)(c:Nat),cZS (K w.params) c T=true/\(K w.params).lookup T=none/\(∀ (s:bYk)(u:bYh),BindsTo s j ⟨[u],[]⟩ [("_law_script",u)])/\∀base:Heap,(K w.params).In base->base.Ns bYP mg->cXn base c T->base.BuiltinsAt mg T->xE l.prog w (K w.params) mg base CX0 11 i j ["_law_script"] (Alike.bZB T (K w.params))): PySem.W.WalkO q loose r e l.row.toRowW d [] (λf m=>PySem.call f m):=
 L2.bZS (n:=63) (k:=11) (x:="_law_script") (CX:=CX0) (sp:=Alike.bZB) v (by decide) g ⟨rfl,by decide,by decide⟩ t b F (λ_ _ a o hl p y=>⟨a,o,rfl,y,hl,.inl p,λ_=>rfl⟩) λ_ _ _ _ z=>z
end End4
open PySem PySem.W PyProof.Rows
set_option maxRecDepth 100000 in
set_option maxHeartbeats 0 in
theorem PySem.Challenge.cw_letterdesk_k06_whole_waiting_and_overdue_holds : PySem.Challenge.rw_letterdesk_k06_whole_waiting_and_overdue.Holds := by
 w_on;o_law;k_head;(case hw=>w_witness2);k_fill;refine End4.walk (l:=PySem.Challenge.rw_letterdesk_k06_whole_waiting_and_overdue) rfl rfl (λw h Y=>PySem.W.km_in_of Y) (λw h Y=>PySem.W.km_tabs_of Y _ (bYw ..)) ?F;case F=>
  intro w d c h b G a;refine' End4.all_mk b G a ?d60 ?d61 ?d62 ?d63 ?d64 ?d65 ?d66 ?d67 ?d68 ?d69 ?d70 ?d71 ?d9 ?d24 ?cl ?d10 ?d11 ?d12 ?d13 ?d15 ?d16 ?d17 ?d18 ?d19 ?d20 ?d21 ?d22 ?d23 ?d25 ?d28 ?d29 ?d30 ?d31 ?d32 ?d33 ?d34 ?d35 ?d36 ?d37 ?d38 ?d39 ?d58 ?d1 ?d2 ?d3 ?d4 ?d5 ?d6 ?d7 ?d8 ?d14 ?d26 ?d27 ?d56 ?d57 ?d59 ?d72 ?d73 ?d74 ?d75 ?d76 ?d77 ?d78 ?d79 ?d80 ?d81 ?d82 ?d83 ?d84 ?d85 ?d86 ?d87 ?d88 ?d89 ?d90 ?d91 ?d92 ?d93 ?d94 ?d95 ?d40 ?d41 ?d42 ?d43 ?d44 ?d45 ?d46 ?d47 ?d48 ?d49 ?d50 ?d51 ?d52 ?d53 ?d54 ?d55 ?dL ?aA ?lA ?cA1 ?kA ?nD ?lD ?pD ?z_len ?z_min ?z_sum ?z_sorted ?z_isinstance ?z_int ?z_str ?z_bool ?z_list ?z_tuple ?z_set ?z_range ?z_reversed ?z_max ?y_week ?y_open ?tb ?tn;(case d60=>apply End4.bVo<;> first|k_is|kernel_rfl);(case d61=>apply End4.uT<;> first|k_is|kernel_rfl);(case d62=>apply End4.uT<;> first|k_is|kernel_rfl);(case d63=>apply End4.uT<;> first|k_is|kernel_rfl);(case d64=>apply End4.uT<;> first|k_is|kernel_rfl);(case d65=>apply End4.uT<;> first|k_is|kernel_rfl);(case d66=>apply End4.uT<;> first|k_is|kernel_rfl);(case d67=>apply End4.uT<;> first|k_is|kernel_rfl);(case d68=>apply End4.uT<;> first|k_is|kernel_rfl);(case d69=>apply End4.uT<;> first|k_is|kernel_rfl);(case d70=>apply End4.uT<;> first|k_is|kernel_rfl);(case d71=>apply End4.uT<;> first|k_is|kernel_rfl);(case d9=>apply End4.bZ7<;> k_is);(case d24=>apply End4.bZ7<;> k_is);(case cl=>apply End4.bKt<;> k_is);(case d10=>apply End4.x0<;> k_is);(case d11=>apply End4.x0<;> k_is);(case d12=>apply End4.x0<;> k_is);(case d13=>apply End4.x0<;> k_is);(case d15=>apply End4.x0<;> k_is);(case d16=>apply End4.x0<;> k_is);(case d17=>apply End4.x0<;> k_is);(case d18=>apply End4.x0<;> k_is);(case d19=>apply End4.x0<;> k_is);(case d20=>apply End4.x0<;> k_is);(case d21=>apply End4.x0<;> k_is);(case d22=>apply End4.x0<;> k_is);(case d23=>apply End4.x0<;> k_is);(case d25=>apply End4.x0<;> k_is);(case d28=>apply End4.x0<;> k_is);(case d29=>apply End4.x0<;> k_is);(case d30=>apply End4.x0<;> k_is);(case d31=>apply End4.x0<;> k_is);(case d32=>apply End4.x0<;> k_is);(case d33=>apply End4.x0<;> k_is);(case d34=>apply End4.x0<;> k_is);(case d35=>apply End4.x0<;> k_is);(case d36=>apply End4.x0<;> k_is);(case d37=>apply End4.x0<;> k_is);(case d38=>apply End4.x0<;> k_is);(case d39=>apply End4.x0<;> k_is);(case d58=>apply End4.x0<;> k_is);(case d1=>apply End4.xM<;> k_is);(case d2=>apply End4.xM<;> k_is);(case d3=>apply End4.xM<;> k_is);(case d4=>apply End4.xM<;> k_is);(case d5=>apply End4.xM<;> k_is);(case d6=>apply End4.xM<;> k_is);(case d7=>apply End4.xM<;> k_is);(case d8=>apply End4.xM<;> k_is);(case d14=>apply End4.xM<;> k_is);(case d26=>apply End4.xM<;> k_is);(case d27=>apply End4.xM<;> k_is);(case d56=>apply End4.xM<;> k_is);(case d57=>apply End4.xM<;> k_is);(case d59=>apply End4.xM<;> k_is);(case d72=>apply End4.xM<;> k_is);(case d73=>apply End4.xM<;> k_is);(case d74=>apply End4.xM<;> k_is);(case d75=>apply End4.xM<;> k_is);(case d76=>apply End4.xM<;> k_is);(case d77=>apply End4.xM<;> k_is);(case d78=>apply End4.xM<;> k_is);(case d79=>apply End4.xM<;> k_is);(case d80=>apply End4.xM<;> k_is);(case d81=>apply End4.xM<;> k_is);(case d82=>apply End4.xM<;> k_is);(case d83=>apply End4.xM<;> k_is);(case d84=>apply End4.xM<;> k_is);(case d85=>apply End4.xM<;> k_is);(case d86=>apply End4.xM<;> k_is);(case d87=>apply End4.xM<;> k_is);(case d88=>apply End4.xM<;> k_is);(case d89=>apply End4.xM<;> k_is);(case d90=>apply End4.xM<;> k_is);(case d91=>apply End4.xM<;> k_is);(case d92=>apply End4.xM<;> k_is);(case d93=>apply End4.xM<;> k_is);(case d94=>apply End4.xM<;> k_is);(case d95=>apply End4.xM<;> k_is);(case d40=>apply End4.xS<;> k_is);(case d41=>apply End4.xS<;> k_is);(case d42=>apply End4.xS<;> k_is);(case d43=>apply End4.xS<;> k_is);(case d44=>apply End4.xS<;> k_is);(case d45=>apply End4.xS<;> k_is);(case d46=>apply End4.xS<;> k_is);(case d47=>apply End4.xS<;> k_is);(case d48=>apply End4.xS<;> k_is);(case d49=>apply End4.xS<;> k_is);(case d50=>apply End4.xS<;> k_is);(case d51=>apply End4.xS<;> k_is);(case d52=>apply End4.xS<;> k_is);(case d53=>apply End4.xS<;> k_is);(case d54=>apply End4.xS<;> k_is);(case d55=>apply End4.xS<;> k_is);(case dL=>apply End4.xS<;> k_is);(case aA=>k_is);(case lA=>k_is);(case cA1=>k_is);(case kA=>k_is);(case nD=>k_is);(case lD=>k_is);(case pD=>exact⟨⟨_,rfl⟩,rfl,rfl,⟨_,rfl⟩,rfl,rfl,⟨_,rfl⟩,rfl,rfl,⟨_,rfl⟩,rfl,rfl,⟨_,rfl⟩,rfl,rfl,⟨_,rfl⟩,rfl,rfl,⟨_,rfl⟩,rfl,rfl,⟨_,rfl⟩,rfl,rfl,⟨_,rfl⟩,rfl,rfl,⟨_,rfl⟩,rfl,rfl,⟨_,rfl⟩,rfl,rfl,⟨_,rfl⟩,rfl,rfl,⟨_,rfl⟩,rfl,rfl,⟨_,rfl⟩,rfl,rfl,⟨_,rfl⟩,rfl,rfl,⟨_,rfl⟩,rfl,rfl,⟨_,rfl⟩,rfl,rfl,cQF⟩);(case z_len=>k_is);(case z_min=>k_is);(case z_sum=>k_is);(case z_sorted=>k_is);(case z_isinstance=>k_is);(case z_int=>k_is);(case z_str=>k_is);(case z_bool=>k_is);(case z_list=>k_is);(case z_tuple=>k_is);(case z_set=>k_is);(case z_range=>k_is);(case z_reversed=>k_is);(case z_max=>k_is);(case y_week=>k_is);(case y_open=>k_is);(case tb=>kernel_rfl);(case tn=>kernel_rfl)
