import PyProof.Rows.All
import Wide.All
import OpenK.AllK
import Wide.FinOn
import KE.KDictList
import KE.KEqSeq
import KE.KLam
import KE.KNestM
import KE.KRevIter
import KE.KSortTup
import Lean
import OpenK.KCls
import PyProof.CollectWalk
import PyProof.CompMap
import PyProof.DictStraight
import PyProof.EqAt
import PyProof.EqKinds
import PyProof.ExcArgs
import PyProof.ExcBaseAll.Exception
import PyProof.FactsAll.set
import PyProof.FactsBase
import PyProof.InstStoreFacts
import PyProof.ListRange
import PyProof.LongRange
import PyProof.MakeMany
import PyProof.MinMaxWalk
import PyProof.NeKinds
import PyProof.Rows.SetFrom
import PyProof.Rows.SortWalk
import PyProof.SeqI3
import PyProof.SetKind
import PyProof.SetNew
import PyProof.SetScanFacts
import PyProof.StationsW
import PyProof.TupleCall
import PyProof.WalkInts
import PyProof.Walks
import PySem.Challenge.RW_letterdesk_k07_whole_entered_whenever
set_option Elab.async false
set_option linter.all false
set_option maxRecDepth 100000
set_option maxHeartbeats 4000000
open Array renaming length_toList → bK0, getElem?_toList → bK5, getElem?_eq_getElem → bK9, getElem?_eq_some_iff → cQe, getD → cQg, getElem?_eq_none → cQz, getElem?_extract_of_lt → cXA, getElem?_append_left → cXM, perm_iff_toList_perm → cXN
open Classical renaming choose_spec → cXm
open False renaming elim → bYe
open ForInStep renaming yield → cXp
open Int renaming toNat_natCast → bKs, zero_add → cQk, not_lt → cXc, emod_nonneg → cXq, emod_lt_of_pos → cXG
open List renaming getElem?_eq_getElem → bWF, length_map → bWK, getElem?_eq_some_iff → bWP, mem_cons_of_mem → bWR, range → bWS, mem_cons → bWU, mem_cons_self → bWV, length_append → bWW, getElem?_map → bWY, size_toArray → bWZ, getElem?_append_right → bW0, mem_of_getElem? → bW1, mem_append_right → bW5, getElem?_append_left → bW7, mem_singleton → bW8, mem_range → bKc, getElem?_eq_none → bKf, mem_append → bKn, length_range → bKo, map_cons → bKv, length_take → bKz, mem_filter → bKA, getD → bKC, length_cons → bKH, append_nil → bKI, pairwise_cons → bKL, getElem_of_mem → bKM, toArray → bKO, append_assoc → bKQ, map_append → bKR, filter_append → bKV, contains_iff_mem → bKW, length_filter_le → bKX, length_singleton → bKY, mem_map → bK1, eq_nil_of_length_eq_zero → bK2, nodup_cons → bK4, getElem?_range → bYb, take_add_one → bYf, filter_cons_of_neg → bYl, filter_cons_of_pos → bYm, pairwise_singleton → bYn, getElem_inj → bYo, take_length → bYp, length_drop → bYu, lookup_cons → bYv, map_map → bYH, getElem_mem → bYI, contains_cons → bYJ, pairwise_iff_getElem → bYM, mem_append_left → bYO, range_succ → bYP, ext_getElem? → bYU, any_cons → bYX, filter_eq_self → bYY, filter_sublist → bYZ, nodup_range → bY0, getElem?_set_self → bY1, lookup → bY2, take_of_length_le → bY3, getElem?_take → bY4, find?_cons → cQb, take_append_drop → cQc, mem_iff_getElem → cQh, not_mem_nil → cQl, filterMap_cons → cQq, length_nil → cQu, pairwise_map → cQC, append_inj' → cQN, getElem?_set_ne → cQO, pairwise_append → cQP, all_cons → cQR, drop_eq_getElem_cons → cQ2, mem_or_eq_of_mem_set → cQ3, zip → cQ5, replicate → cXd, nodup_append → cXe, all_eq_true → cXj, countP_cons → cXk, forIn_cons → cXr, toList_toArray → cXx, Perm → cXH, perm_ext_iff_of_nodup → cXQ, flatMap_cons → cXR, getElem?_eq_none_iff → cXX
open Nat renaming le_refl → bWN, lt_of_lt_of_le → bW6, ne_of_lt → bW9, le_trans → bKh, zero_le → bKt, not_lt_zero → bKK, lt_irrefl → bKN, lt_succ_self → bKP, lt_succ_of_lt → bKT, sub_self → bK7, le_succ_of_le → bYg, le_succ → bYN, le_of_eq → bY5, le_of_lt → bY6, ne_of_gt → bY7, lt_or_ge → cQ6
open Ne renaming symm → bKl
open Option.some renaming inj → bWX, injEq → cXS
open PyProof.Rows renaming seqObj → bKr, envOfC → bYE, callWith_type1 → bY9, IntsAre → cQa, get?_update_seq → cQx, listUpdate_at → cQT, entry_list_sort → cXB, args_list_sort → cXJ, slot_list_sort → cXK
open PyProof.Rows.F renaming plain_set_update_loop → bY8, entry_set_update_loop → cQ7
open PyProof.Rows.IntsAre renaming int_at → cXI
open PySem renaming Value → bWG, wpAny_bind → bWH, Shared → bWJ, wpAny_pure → bWM, wpAny → bWO, model → bWQ, Program → bW3, World → bKa, sizeLine → bKb, mainGlobals → bKd, sizeLine_eq → bKg, starEach → bKi, Around → bKk, bootBuiltins → bKx, wpAny_mono → bKE, wpAny_holding → bKJ, rawInt → bKZ, mem_of_lookup → bYc, compareOp → bYd, Paired → bYi, wpAny_Call_Name_kw → bYk, SetTable → bYs, codeAny_mono → bYx, wpAny_call_entry → bYy, Builtin → bYC, backTo → bYD, FuncData → bYF, wpAny_newObj_type → bYG, wpAny_setField → bYL, Scope → bYS, codeAny_builtin → bYT, codeAny → bYV, wpAny_truthy_bool → bYW, wpAny_passesOwn → cQd, wpAny_setState_of → cQf, bindArgs → cQo, wpAny_askSetting → cQp, wpAny_setEntries_of → cQr, wpAny_callSpecial?_slot → cQs, behindInMarks → cQt, assignEach → cQw, sysModules → cQy, NameKind → cQA, keywordEach → cQB, pyNext → cQH, valueAt → cQI, isSubtype → cQK, pickOrder → cQL, setFlight → cQM, wpAny_call → cQQ, plainId_quiet → cQU, wpAny_attempt → cQV, wpAny_newList → cQW, wpAny_standAt → cQX, holding → cQZ, sliceBounds → cQ0, getMethod → cQ9, noteFrame → cXa, scanBound → cXb, wpAny_pyIter_list → cXh, attributeBase → cXi, builtinLookup_eq_fast → cXn, plainObj_wpAny_Assign_Attribute → cXo, codeAny_call_builtin → cXs, isInstance → cXt, letOwnedTupleGo → cXu, wpAny_execs_nil → cXv, wpAny_ite_split → cXw, wpAny_fieldsOf → cXD, tupleKind_room_in1 → cXL, fits_of_scanBound → cXV, foldedSetIterable → cXW, wpAny_comprehension_free → cX3
open PySem.Around renaming under_plainId → bYB
open PySem.Builtin.List renaming listExtendWith → cQJ, listTooLong → cQ4, listLengthHint → cXE, listFitsIndex → cXO, listSameRef → cX1
open PySem.Calls renaming call_function_entry → cQ1, Name_function_global → cXP
open PySem.Code renaming quiet_builtin → cXF
open PySem.F renaming plainAttrs_list → bKj, slot_list_append → bKp, type_list_append → bKq, called_set → bYw, excBase_Exception → cXY, plain_extend_loop → cXZ, slot_dict_getitem → cX0, slot_list_insert → cX2
open PySem.Heap renaming get?_push_of_some → bWL, lt_size → bWT, get?_push_size → bW4, get?_update_other → bKe, get?_update_self → bKG, size_push → bYh, SameBut → bYt, ExtBut → cQY
open PySem.Heap.SameBut renaming update → bYa
open PySem.Obj renaming mapSeq → bKu, mapFields → bKU, isFreed_of_fields → bK6, data_mapFields → bK8
open PySem.Paired renaming length → bYz
open PySem.PassesOwn renaming never → bKB
open PySem.SeqAt renaming EqAt → cX5
open PySem.SetTable renaming below → bKD, grown → cQj, insertAt → cQF
open PySem.SetTable.below renaming go → cQE
open PySem.SetTable.probe renaming go → cXU
open PySem.Str renaming ofString → cQ8
open PySem.W renaming Frag → bWI, mg_none_of → bW2, findIn → bKm, nsIn → bKw, keepIn → bKy, fnOf → bKF, katRev → bKS, kia_one → bYj, codeIn → bYq, emptyDict → bYr, mg_of → bYA, CodeHd → bYK, instObj → bYQ, kla_obj → bYR, tabObj → cQi, isFn → cQm, plainGet → cQn, callWith_K → cQv, hasDictIn → cQD, methodCall_KW → cQG, mroIn → cQS, plainOver → cXf, specialIn → cXg, codeHdIn → cXl, callWith_K0 → cXy, plainGet_of → cXz, lookIn → cXC, methodObj → cXT, KatTups → cX4
open True renaming intro → bK3
theorem dk {p:Prop}[Decidable p](h:decide p=true:=by decide +kernel):p:=of_decide_eq_true h
namespace L2
open PySem PySem.Spec PyProof.Rows
abbrev Key:=Sum Int Str
def aXs:Key->bWG->Bool
 |.inl k,v=>Value.isInt k v
 |.inr x,v=>Value.isStrOf x v
def bWr(w:bKa):Key->Int
 |.inl k=>hashInt k
 |.inr x=>hashStr w x
theorem xI:∀ {k:Key} {v:bWG},aXs k v=true->(∃i t,k=Sum.inl i/\v=Value.int i t)\/(∃x t,k=Sum.inr x/\v=Value.str x t)
 |.inl i,v,h=>by obtain⟨t,e⟩:=Value.isInt_shape (k:=i) (v:=v) h;exact .inl ⟨i,t,rfl,e⟩
 |.inr x,v,h=>by obtain⟨t,e⟩:=Value.isStrOf_shape (x:=x) (v:=v) h;exact .inr ⟨x,t,rfl,e⟩
theorem aWv(i:Int)(t:Tok):aXs (.inl i) (.int i t)=true:=by simp[aXs,Value.isInt]
theorem aWw(x:Str)(t:Tok):aXs (.inr x) (.str x t)=true:=by simp[aXs,Value.isStrOf]
theorem bJt(a b:Int):decide ((Sum.inl a:Key)=Sum.inl b)=(a==b):=by
 by_cases e:a=b
 ·subst e;simp
 ·have h:¬ (Sum.inl a:Key)=Sum.inl b:=λq=>e (Sum.inl.inj q);rw[decide_eq_false h];exact(beq_eq_false_iff_ne.mpr e).symm
theorem bJw(a b:Str):decide ((Sum.inr a:Key)=Sum.inr b)=decide (a=b):=by
 by_cases e:a=b
 ·subst e;simp
 ·have h:¬ (Sum.inr a:Key)=Sum.inr b:=λq=>e (Sum.inr.inj q);rw[decide_eq_false h,decide_eq_false e]
theorem bJu(a:Int)(b:Str):decide ((Sum.inl a:Key)=Sum.inr b)=false:=decide_eq_false (λq=>nomatch q)
theorem bJv(a:Str)(b:Int):decide ((Sum.inr a:Key)=Sum.inl b)=false:=decide_eq_false (λq=>nomatch q)
def xJ(prog:bW3)(w:bKa):PySem.KeyKind prog w Key where
 is:=aXs
 hash:=bWr w
 inj:=λv a b ha hb=>by
  rcases xI ha with⟨i,t,rfl,rfl⟩|⟨x,t,rfl,rfl⟩
  ·rcases xI hb with⟨j,u,rfl,e⟩|⟨y,u,rfl,e⟩
   ·injection e with e1 _;rw[e1]
   ·exact nomatch e
  ·rcases xI hb with⟨j,u,rfl,e⟩|⟨y,u,rfl,e⟩
   ·exact nomatch e
   ·injection e with e1 _;rw[e1]
 byValue:=λk v h=>by
  rcases xI h with⟨i,t,rfl,rfl⟩|⟨x,t,rfl,rfl⟩<;> rfl
 pyHash:=λhv h=>by
  rcases xI hv with⟨i,t,rfl,rfl⟩|⟨x,t,rfl,rfl⟩
  ·exact wpAny_pyHash_int h
  ·exact wpAny_pyHash_str h
 eqBool:=λhu hv h=>by
  rcases xI hu with⟨i,t,rfl,rfl⟩|⟨x,t,rfl,rfl⟩
  ·rcases xI hv with⟨j,u,rfl,rfl⟩|⟨y,u,rfl,rfl⟩
   ·rw[bJt]at h;exact wpAny_eqBool_int h
   ·rw[bJu]at h;exact SeqAt.EqAt.int_str i t y u _ _ _ _ h
  ·rcases xI hv with⟨j,u,rfl,rfl⟩|⟨y,u,rfl,rfl⟩
   ·rw[bJv]at h;exact SeqAt.EqAt.str_int x t j u _ _ _ _ h
   ·rw[bJw]at h;exact wpAny_eqBool_str h
 «strs»:=λk x t v h=>by
  rcases xI h with⟨i,u,rfl,e⟩|⟨y,u,rfl,e⟩
  ·exact nomatch e
  ·injection e with e1 _
   subst e1
   cases v<;> rfl
theorem aJ6(prog:bW3)(w:bKa)(k:Key)(v:bWG):(xJ prog w).is k v=aXs k v:=rfl
theorem aZj(prog:bW3)(w:bKa)(i:Int)(t:Tok):(xJ prog w).is (.inl i) (.int i t)=true:=aWv i t
theorem v5(prog:bW3)(w:bKa)(x:Str)(t:Tok):(xJ prog w).is (.inr x) (.str x t)=true:=aWw x t
end L2
namespace L2
open PySem PySem.Spec PyProof.Rows
inductive V where
 |non|bl (b:Bool)|int (i:Int)|str (x:Str)|byt (b:Array UInt8)|flt (b:UInt64)|ref (a:Addr)|ty (n:String)
 deriving DecidableEq
def xZ:V->bWG->Prop
 |.non,u=>u=Value.none
 |.bl b,u=>u=Value.bool b
 |.int i,u=>∃t,u=Value.int i t
 |.str x,u=>∃t,u=Value.str x t
 |.byt b,u=>∃t,u=Value.bytes b t
 |.flt b,u=>∃t,u=Value.float b t
 |.ref a,u=>u=Value.ref a
 |.ty n,u=>u=Value.type n
abbrev xK:List V->List bWG->Prop:=bYi xZ
theorem xK.length{xs:List V}{us:List bWG}(r:xK xs us):xs.length=us.length:=bYz r
theorem xK.get:∀ {xs:List V} {us:List bWG} {i:Nat} {x:V},xK xs us->xs[i]? =some x->∃u,us[i]? =some u/\xZ x u
 |_,_,_,_,.nil,e=>by simp at e
 |_,_,0,_,.cons r _,e=>by simp at e;subst e;exact⟨_,rfl,r⟩
 |_,_,i+1,x,.cons _ t,e=>by obtain⟨u,h1,h2⟩:=xK.get (i:=i) (x:=x) t (by simpa using e);exact⟨u,by simpa using h1,h2⟩
theorem xK.set{x:V}{u:bWG}(r:xZ x u):∀ {xs:List V} {us:List bWG} (i:Nat),xK xs us->xK (xs.set i x) (us.set i u)
 |_,_,_,.nil=> .nil
 |_,_,0,.cons _ t=> .cons r t
 |_,_,i+1,.cons q t=> .cons q (xK.set r i t)
theorem xK.append:∀ {xs ys:List V} {us a:List bWG},xK xs us->xK ys a->xK (xs++ys) (us++a)
 |_,_,_,_,.nil,s=>s
 |_,_,_,_,.cons r t,s=> .cons r (xK.append t s)
theorem xK.take:∀ {xs:List V} {us:List bWG} (n:Nat),xK xs us->xK (xs.take n) (us.take n)
 |_,_,0,_=> .nil
 |_,_,_+1,.nil=> .nil
 |_,_,n+1,.cons r t=> .cons r (xK.take n t)
theorem xK.drop:∀ {xs:List V} {us:List bWG} (n:Nat),xK xs us->xK (xs.drop n) (us.drop n)
 |_,_,0,r=>r
 |_,_,_+1,.nil=> .nil
 |_,_,n+1,.cons _ t=>xK.drop n t
def aQe:Option V->Option bWG->Prop
 |some v,some u=>xZ v u
 |none,none=>True
 |_,_=>False
def KV{κ:Type}:List (κ×V)->List (κ×bWG)->Prop:=bYi λ(p:κ×V)(q:κ×bWG)=>p.1=q.1/\xZ p.2 q.2
def kV:Key->V
 |.inl i=> .int i
 |.inr x=> .str x
inductive HO where
 |lst (xs:List V)
 |tup (xs:List V)
 |dK (kvs:List (Key×V))|dT (kvs:List (List Key×V))
 |set (S:Int->Bool) (n:Nat)
 |ins (C dx:Addr) (fs:List (Str×V))
 |own (x:Addr)
 |xd (fs:List (Str×V))
 |met (f x:Addr)
 |rng (lo hi:Int)
 |frz (o:Obj) (u:HO)
 |tbl (ps:Array bWG)
 |ext (φ:Heap->Prop)
abbrev Hp:=Addr->Option HO
def upd(H:Hp)(a:Addr)(o:HO):Hp:=λb=>if b=a then some o else H b
theorem yB{H:Hp}{a:Addr}{o:HO}:upd H a o a=some o:=by unfold upd;rw[if_pos rfl]
theorem yH{H:Hp}{a b:Addr}{o:HO}(h:b≠a):upd H a o b=H b:=by unfold upd;rw[if_neg h]
theorem uD{H:Hp}{a:Addr}{o u:HO}:upd (upd H a o) a u=upd H a u:=by
 funext b;unfold upd;split<;> rfl
theorem bZd{H:Hp}{a b:Addr}{o u:HO}(h:H a=some o)(h':H b=some u)(d:o≠u):a≠b:=by
 intro e;subst e;rw[h]at h';exact d (bWX h')
theorem yE{H:Hp}{a b:Addr}{o:HO}(h:H a=some o)(h':H b=none):a≠b:=by
 intro e;subst e;rw[h]at h';cases h'
section
variable (P:bW3)(w:bKa)
def x5(H:Hp)(h:Heap)(a:Addr):HO->Prop
 |.lst xs=>xs.length<=bKb/\∃ (c:List bWG)(n:Nat),xK xs c/\h.get? a=some {cls:= .type "list",data:= .seq c.toArray n}
 |.tup xs=>xs.length<=bKb/\∃c:List bWG,xK xs c/\IsTup h a c.toArray
 |.dK b=>b.length<=bKb/\(a==cQy)=false/\∃d,KV b d/\h.DictOf (xJ P w) a d
 |.dT b=>b.length<=bKb/\(a==cQy)=false/\∃xs:List (List Key×Addr×bWG),
   bYi (λ(p:List Key×V)(q:List Key×Addr×bWG)=>p.1=q.1/\H q.2.1=some (.tup (p.1.map kV))/\xZ p.2 q.2.2) b xs/\
   ∃o es e,h.get? a=some o/\o.ExactDict/\o.data= .dict es e/\es.toList=xs.map (entryOfKey (tupleKind (xJ P w)))/\(xs.map (·.1)).Nodup
 |.set S n=>h.SetOf (intKind P w) a S n
 |.ins C dx fs=>H dx=some (.own a)/\fs.length<=1000/\dx≠a/\h.get? a=some (bYQ C dx)/\
   ∃mA,h.Ns1 dx mA/\(∀f,aQe (fs.lookup f) (mA f))/\PySem.Within mA (fs.map (·.1))
 |.own _=>∃o,h.get? a=some o
 |.xd fs=>∃mA,h.Ns1 a mA/\∀f,aQe (fs.lookup f) (mA f)
 |.rng lo hi=>∃t u v,h.get? a=some {cls:= .type "range",data:= .fields #[.int lo t,.int hi u,.int 1 v] }
 |.frz o u=>h.get? a=some o/\x5 H h a u
 |.tbl ps=>h.get? a=some {cls:= .none,data:= .fields ps}
 |.met f x=>h.get? a=some (cXT (.ref f) (.ref x))
 |.ext φ=>φ h/\(∃o,h.get? a=some o)/\∀h1 h2:Heap,φ h1->(∀o,h1.get? a=some o->h2.get? a=some o)->φ h2
def HOk(H:Hp)(h:Heap):Prop:=∀a o,H a=some o->x5 P w H h a o
end
section
variable {P:bW3}{w:bKa}{H H':Hp}{h h':Heap}{a:Addr}{o:HO}
theorem x5.lt(x:x5 P w H h a o):a<h.objs.size:=by
 cases o with
 |lst xs=>obtain⟨_,_,_,_,e⟩:=x;exact bWT e
 |tup xs=>obtain⟨_,_,_,p⟩:=x;exact p.lt
 |dK b=>obtain⟨_,_,_,_,o,_,_,e,_⟩:=x;exact bWT e
 |dT b=>obtain⟨_,_,_,_,o,_,_,e,_⟩:=x;exact bWT e
 |set S n=>obtain⟨o,_,_,_,e,_⟩:=x;exact bWT e
 |ins C dx fs=>obtain⟨_,_,_,e,_⟩:=x;exact bWT e
 |own y=>obtain⟨_,e⟩:=x;exact bWT e
 |xd fs=>obtain⟨_,⟨_,_,_,e,_⟩,_⟩:=x;exact bWT e
 |rng lo hi=>obtain⟨_,_,_,e⟩:=x;exact bWT e
 |frz c u=>obtain⟨e,_⟩:=x;exact bWT e
 |tbl ps=>exact bWT (show h.get? a=some _ from x)
 |met f y=>exact bWT (show h.get? a=some _ from x)
 |ext φ=>obtain⟨_,⟨_,e⟩,_⟩:=x;exact bWT e
theorem Paired.mapP{α β:Type}{F G:α->β->Prop}:∀ {c:List α} {d:List β},bYi F c d->(∀a b,F a b->G a b)->bYi G c d
 |_,_,.nil,_=> .nil
 |_,_,.cons r t,f=> .cons (f _ _ r) (Paired.mapP t f)
theorem x5.stay(x:x5 P w H h a o)(k:∀b u,(b=a\/H b=some (.own a))->h.get? b=some u->h'.get? b=some u) (s:∀b,H b=some (.own a)->H' b=some (.own a)) (B:∀b xs,H b=some (.tup xs)->H' b=some (.tup xs)):x5 P w H' h' a o:=by
 induction o with
 |lst xs=>obtain⟨z,j,n,r,e⟩:=x;exact⟨z,j,n,r,k _ _ (.inl rfl) e⟩
 |tup xs=>obtain⟨z,j,r,g,e,c⟩:=x;exact⟨z,j,r,g,k _ _ (.inl rfl) e,c⟩
 |dK m=>obtain⟨z,y,A,r,g,es,i,e,c⟩:=x;exact⟨z,y,A,r,g,es,i,k _ _ (.inl rfl) e,c⟩
 |dT m=>obtain⟨z,y,xs,r,g,es,i,e,c⟩:=x;exact⟨z,y,xs,Paired.mapP r λp q z=>⟨z.1,B _ _ z.2.1,z.2.2⟩,g,es,i,k _ _ (.inl rfl) e,c⟩
 |set S n=>obtain⟨g,es,i,t,e,c⟩:=x;exact⟨g,es,i,t,k _ _ (.inl rfl) e,c⟩
 |ins C dx fs=>obtain⟨d,z,ne,e,mA,⟨l,es,i,D,c⟩,r⟩:=x;exact⟨s _ d,z,ne,k _ _ (.inl rfl) e,mA,⟨l,es,i,k _ _ (.inr d) D,c⟩,r⟩
 |own y=>obtain⟨g,e⟩:=x;exact⟨g,k _ _ (.inl rfl) e⟩
 |xd fs=>obtain⟨mA,⟨l,es,i,e,c⟩,r⟩:=x;exact⟨mA,⟨l,es,i,k _ _ (.inl rfl) e,c⟩,r⟩
 |rng lo hi=>obtain⟨t,u,v,e⟩:=x;exact⟨t,u,v,k _ _ (.inl rfl) e⟩
 |frz g u E=>obtain⟨e,q⟩:=x;exact⟨k _ _ (.inl rfl) e,E q⟩
 |tbl ps=>have e:h.get? a=some {cls:= .none,data:= .fields ps}:=x;show h'.get? a=some {cls:= .none,data:= .fields ps};exact k a _ (.inl rfl) e
 |met f y=>have e:h.get? a=some (cXT (.ref f) (.ref y)):=x;show h'.get? a=some (cXT (.ref f) (.ref y));exact k a _ (.inl rfl) e
 |ext φ=>obtain⟨p,⟨o,e⟩,st⟩:=x;exact⟨st _ _ p λo q=>k _ _ (.inl rfl) q,⟨o,k _ _ (.inl rfl) e⟩,st⟩
theorem HOk.lt(x:HOk P w H h)(e:H a=some o):a<h.objs.size:=(x a o e).lt
theorem HOk.fresh(x:HOk P w H h)(e:h.objs.size<=a):H a=none:=by
 cases q:H a with
 |none=>rfl
 |some u=>exact absurd (bW6 (x.lt q) e) (bKN _)
theorem HOk.kept(x:HOk P w H h)(k:∀b u,h.get? b=some u->h'.get? b=some u):HOk P w H h':=λa o e=>
 (x a o e).stay (λb u _ q=>k b u q) (λ_ q=>q) λ_ _ q=>q
theorem HOk.laid(x:HOk P w H h)(k:∀b u,h.get? b=some u->h'.get? b=some u)(i:h.objs.size<=a)(d:x5 P w (upd H a o) h' a o):HOk P w (upd H a o) h':=λb u e=>by
 have f:=x.fresh i;by_cases g:b=a
 ·subst g;rw[yB]at e;cases e;exact d
 ·rw[yH g]at e;exact(x b u e).stay (λc v _ q=>k c v q) (λc q=>by rw[yH (yE q f)];exact q) λc xs q=>by rw[yH (yE q f)];exact q
end
def Rd(H:Hp)(a:Addr)(u:HO):Prop:=H a=some u\/∃o,H a=some (.frz o u)
theorem Rd.ok{P:bW3}{w:bKa}{H:Hp}{h:Heap}{a:Addr}{u:HO}(r:Rd H a u)(x:HOk P w H h):x5 P w H h a u:=by
 rcases r with r|⟨o,r⟩
 ·exact x a u r
 ·obtain⟨_,q⟩:=x a _ r;exact q
def Mut:Option HO->Prop
 |some (.lst _)=>True
 |some (.dK _)=>True
 |some (.dT _)=>True
 |some (.set _ _)=>True
 |some (.ins _ _ _)=>True
 |some (.ext _)=>True
 |_=>False
section
variable {P:bW3}{w:bKa}{H:Hp}{h h':Heap}{x e:Addr}{o':HO}
theorem HOk.write(ok:HOk P w H h)(i:Mut (H x))(o:e=x\/H e=some (.own x))(k:∀b u,b≠e->h.get? b=some u->h'.get? b=some u)(m:∃u,h'.get? e=some u)
  (l:x5 P w (upd H x o') h' x o'):HOk P w (upd H x o') h':=λb u q=>by
 have d:∀c y,H c=some (.own y)->c≠x:=λc y r z=>by subst z;rw[r]at i;exact i
 have f:∀c xs,H c=some (.tup xs)->c≠x:=λc xs r z=>by subst z;rw[r]at i;exact i
 by_cases g:b=x
 ·subst g;rw[yB]at q;cases q;exact l
 ·rw[yH g]at q;by_cases a:b=e
  ·have n:H b=some (.own x):=by
    rcases o with z|z
    ·exact absurd (a.trans z) g
    ·rw[a];exact z
   rw[q]at n;cases n;obtain⟨v,p⟩:=m;exact⟨v,by rw[a];exact p⟩
  ·refine(ok b u q).stay (λc v j r=>k c v ?_ r) (λc r=>by rw[yH (d c b r)];exact r) λc xs r=>by rw[yH (f c xs r)];exact r
   rcases j with rfl|j
   ·exact a
   ·rintro rfl;rcases o with z|z
    ·exact d c b j z
    ·rw[j]at z;cases z;exact g rfl
end
structure Un(fs ex:List Addr)(H H':Hp)(h h':Heap):Prop where
 keep:∀b o,h.get? b=some o->H b=none->b∉fs->b∉ex->h'.get? b=some o
 slot:∀b o,h.get? b=some o->H b=none->b∈fs->b∉ex->∃sl,h'.get? b=some {o with slots:=sl}
 free:∀b o,h.get? b=some o->H b=none->b∉ex->H' b=none
 there:∀b o,h.get? b=some o->b∉ex->∃o',h'.get? b=some o'
 tups:∀b xs,H b=some (.tup xs)->H' b=some (.tup xs)
 frzs:∀b o u,H b=some (.frz o u)->H' b=some (.frz o u)
 tbls:∀b ps,H b=some (.tbl ps)->∃more,H' b=some (.tbl (ps++more))
section
variable {fs fs' ex ex':List Addr}{H H1 H2:Hp}{h h1 h2 h':Heap}{a x e:Addr}{o:HO}
theorem Un.any(u:Un fs ex H H1 h h1){b:Addr}{a:Obj}(q:h.get? b=some a)(n:H b=none)(c:b∉ex):∃e,h1.get? b=some {a with slots:=e}:=by
 by_cases d:b∈fs
 ·exact u.slot b a q n d c
 ·exact⟨a.slots,u.keep b a q n d c⟩
theorem Un.kept(k:∀b u,h.get? b=some u->h'.get? b=some u):Un fs ex H H h h':=
 ⟨λb a q _ _ _=>k b a q,λb a q _ _ _=>⟨a.slots,k b a q⟩,λ_ _ _ n _=>n,λb a q _=>⟨a,k b a q⟩,λ_ _ q=>q,λ_ _ _ q=>q,λ_ ps q=>⟨#[],by rw[q];simp⟩⟩
theorem Un.refl:Un fs ex H H h h:=Un.kept λ_ _ q=>q
theorem Un.laid(k:∀b u,h.get? b=some u->h'.get? b=some u)(hp:h.objs.size<=a)(hn:H a=none):Un fs ex H (upd H a o) h h' where
 keep:=λb u q _ _ _=>k b u q
 slot:=λb u q _ _ _=>⟨u.slots,k b u q⟩
 free:=λb u q n _=>by rw[yH (bW9 (bW6 (bWT q) hp))];exact n
 there:=λb u q _=>⟨u,k b u q⟩
 tups:=λb xs q=>by rw[yH (yE q hn)];exact q
 frzs:=λb u xs q=>by rw[yH (yE q hn)];exact q
 tbls:=λb ps q=>⟨#[],by rw[yH (yE q hn),q];simp⟩
theorem Un.write(c:Mut (H x))(j:e=x\/H e=some (.own x))(k:∀b u,b≠e->h.get? b=some u->h'.get? b=some u)(f:∃u,h'.get? e=some u):Un fs ex H (upd H x o) h h':=by
 have g:∀b,H b=none->b≠x:=λb n z=>by subst z;rw[n]at c;exact c
 have i:∀b,H b=none->b≠e:=λb n z=>by
  subst z;rcases j with r|r
  ·exact g b n r
  ·rw[n]at r;cases r
 have d:∀b u,H b=some u->¬Mut (some u)->b≠x:=λb u q nm z=>by subst z;rw[q]at c;exact nm c
 refine⟨λb u q n _ _=>k b u (i b n) q,λb u q n _ _=>⟨u.slots,k b u (i b n) q⟩,λb u q n _=>by rw[yH (g b n)];exact n,λb u q _=>?_,
  λb xs q=>by rw[yH (d b _ q λz=>z)];exact q,λb u xs q=>by rw[yH (d b _ q λz=>z)];exact q,λb ps q=>⟨#[],by rw[yH (d b _ q λz=>z),q];simp⟩⟩
 by_cases a:b=e
 ·subst a;exact f
 ·exact⟨u,k b u a q⟩
end
def trk(h:Heap)(H:Hp):List Addr:=(bWS h.objs.size).filter λa=>(H a).isSome
def aWo(h:Heap)(H:Hp):Heap:=PySem.W.hideAll h (trk h H)
theorem aWp(h:Heap)(H:Hp):(aWo h H).objs.size=h.objs.size:=PySem.W.hideAll_size _ _
theorem aYA{h:Heap}{H:Hp}{b:Addr}{o:Obj}(e:h.get? b=some o)(n:H b=none):(aWo h H).get? b=some o:=
 PySem.W.hideAll_get _ e λa=>by have q:(H b).isSome=true:=(bKA.mp a).2;rw[n]at q;simp at q
theorem bZf{h:Heap}{H:Hp}{b:Addr}{o:Obj}(e:(aWo h H).get? b=some o):h.get? b=some o/\H b=none:=by
 have a:h.get? b=some o:=PySem.W.of_hideAll (trk h H) e;refine⟨a,?_⟩;cases q:H b with
 |none=>rfl
 |some x=>have c:b∈trk h H:=bKA.mpr ⟨bKc.mpr (bWT a),by simp[q]⟩;have z:(aWo h H).get? b=none:=PySem.W.hideAll_none (trk h H) c;rw[z]at e;cases e
def bXH(g h:Heap)(L:Addr):List (Addr×Obj):=(bWS h.objs.size).filterMap λa=>if a=L\/(g.get? a).isSome=true then none else(h.get? a).map λo=>(a,o)
def qB(g h:Heap)(L d:Addr):List (Addr×Obj):=(bXH g h L).filter λp=>decide (p.1≠d)
end L2
namespace L2
open PySem PySem.Spec PyProof.Rows
structure Mod(K:bWI)(mg:Str->Option bWG)(base:Heap):Prop where
 kin:K.In base
 glob:base.Ns bKd mg
 blt:∃mb,base.Ns builtinsNs mb/\∀x:Str,x≠"__name__"->mb x=bKx x
 nolimit:base.NoLimit
structure Cx where
 prog:bW3
 w:bKa
 K:bWI
 mg:Str->Option bWG
 base:Heap
 A:bKk
 N:List Str
 s₀:bWJ
 H₀:Hp
 env:Env
 outer:List Env
 stack:List Env
 ex:List Addr
 fn:Str->Bool
 calm:Bool
 pn:List (Addr×Obj)
 xe:bWG->bWJ->Prop
def frs(l:List Env):List Addr:=l.filterMap (·.frame)
abbrev Cx.fs(X:Cx):List Addr:=frs X.outer
def Vis(a:bYS)(x:Str):Prop:=a.names.lookup x=some .local\/a.names.lookup x=some .cell\/a.names.lookup x=some .free
def Loc(a:bYS)(x:Str):Prop:=a.names.lookup x=some .local\/a.names.lookup x=some .cell
def bWl(env:Env)(h:Heap)(m:Str->Option bWG)(x:Str)(u:bWG):Prop:=
 (env.kindOf x=some .local/\m x=some u)\/((env.kindOf x=some .cell\/env.kindOf x=some .free)/\∃c,env.cells.lookup x=some c/\h.IsCell c (some u))
structure Cx.Ok(X:Cx):Prop where
 mod:Mod X.K X.mg X.base
 kind:X.env.scope.kind= .function
 glob:X.env.globals=bKd
 blt:X.env.builtins=builtinsNs
 above:X.s₀.heap.objs.size<=X.env.locals
 inj:∀x y c,X.env.cells.lookup x=some c->X.env.cells.lookup y=some c->x=y
 has:∀x,(X.env.kindOf x=some .cell\/X.env.kindOf x=some .free)->∃c,X.env.cells.lookup x=some c
 cab:∀x c,X.fn x=true->X.env.cells.lookup x=some c->X.s₀.heap.objs.size<=c
 hd:X.calm=true->X.A.handled=none
 frames:X.A.frames=some X.stack
 stk:X.stack=X.outer\/(X.stack=X.env::X.outer/\X.env.frame=some X.env.locals)
 exf:∀b∈X.ex,b≠X.env.locals/\∀x c,X.env.cells.lookup x=some c->c≠b
 bs:∀b o,X.base.get? b=some o->X.s₀.heap.get? b=some o/\X.H₀ b=none
 bsz:X.base.objs.size<=X.s₀.heap.objs.size
 noex:∀b o,X.base.get? b=some o->b∉X.ex
 exfs:∀b∈X.ex,b∉X.fs
 funs:X.s₀.heap.FunFrames X.base X.outer
 frf:∀b∈X.fs,X.H₀ b=none
structure Inv(X:Cx)(pins:List (Addr×Obj))(σ:List (Option V))(H:Hp)(s:bWJ):Prop where
 ok:X.Ok
 os:s.os=X.s₀.os
 bare:AllBare s.gens
 base:Un X.fs X.ex X.H₀ H X.s₀.heap s.heap
 loc:∃m,s.heap.Ns X.env.locals m/\∀ (i:Nat)(x:Str)(v:V),X.N[i]? =some x->σ[i]? =some (some v)->Vis X.env.scope x->∃u,xZ v u/\bWl X.env s.heap m x u
 cell:∀x c,X.env.cells.lookup x=some c->∃v,s.heap.IsCell c v
 free:H X.env.locals=none
 freeC:∀x c,X.env.cells.lookup x=some c->H c=none
 pin:∀p∈X.pn++pins,s.heap.get? p.1=some p.2/\H p.1=none/\p.1≠X.env.locals/\p.1∉X.fs/\∀v,p.2.data≠ .cell v
 hok:HOk X.prog X.w H s.heap
 len:σ.length=X.N.length
section
variable {X:Cx}{pins:List (Addr×Obj)}{σ:List (Option V)}{H H':Hp}{s:bWJ}{h':Heap}
theorem Cx.Ok.nofr(ok:X.Ok){b:Addr}{o:Obj}(e:X.base.get? b=some o):b∉X.fs:=λa=>by
 have:=(ok.funs.mem a).1;rw[e]at this;cases this
theorem Inv.bs(I:Inv X pins σ H s):∀b o,X.base.get? b=some o->s.heap.get? b=some o/\H b=none:=λb o e=>
 ⟨I.base.keep b o (I.ok.bs b o e).1 (I.ok.bs b o e).2 (I.ok.nofr e) (I.ok.noex b o e),I.base.free b o (I.ok.bs b o e).1 (I.ok.bs b o e).2 (I.ok.noex b o e)⟩
theorem Inv.bk(I:Inv X pins σ H s):∀b o,X.base.get? b=some o->s.heap.get? b=some o:=λb o e=>(I.bs b o e).1
theorem Inv.mod(I:Inv X pins σ H s):Mod X.K X.mg X.base:=I.ok.mod
theorem Inv.kIn(I:Inv X pins σ H s):X.K.In s.heap:=I.ok.mod.kin.keeps I.bk
theorem Inv.nolimit(I:Inv X pins σ H s):s.heap.NoLimit:=I.ok.mod.nolimit.keeps I.bk
theorem Inv.lt(I:Inv X pins σ H s):X.env.locals<s.heap.objs.size:=let ⟨_,hn,_⟩:=I.loc;hn.lt
theorem Inv.sz(I:Inv X pins σ H s):X.s₀.heap.objs.size<=s.heap.objs.size:=bKh I.ok.above (bY6 I.lt)
theorem Inv.nofs(I:Inv X pins σ H s){a:Addr}(h:s.heap.objs.size<=a):a∉X.fs:=λb=>by
 obtain⟨_,o,c,_⟩:=I.ok.funs.mem b;exact absurd (bW6 (bWT c) (bKh I.sz h)) (bKN _)
theorem Inv.cne(I:Inv X pins σ H s):∀x c,X.env.cells.lookup x=some c->c≠X.env.locals:=λx c e z=>by
 obtain⟨v,o,d,f⟩:=I.cell x c e;obtain⟨m,⟨o',es,g,b,a,_⟩,_⟩:=I.loc;rw[z,b]at d;cases d;rw[a]at f;cases f
theorem Inv.funs(I:Inv X pins σ H s):s.heap.FunFrames X.base X.outer:=by
 have all:∀ (l:List Env),(∀b∈frs l,b∈X.fs)->X.s₀.heap.FunFrames X.base l->s.heap.FunFrames X.base l:=by
  intro l;induction l with
  |nil=>intro _ _;trivial
  |cons env r m=>intro f hl;obtain⟨i,⟨L,o,d,g,j,h⟩,k⟩:=hl;have c:L∈X.fs:=f L (by unfold frs;rw[cQq,d];exact bWV);obtain⟨n,e⟩:=I.base.slot L o j (I.ok.frf L c) c λz=>I.ok.exfs L z c;exact⟨i,⟨L,_,d,g,e,h⟩,m (λb a=>f b (by unfold frs;rw[cQq,d];exact bWR _ a)) k⟩
 exact all X.outer (λ_ a=>a) I.ok.funs
theorem Inv.stack(I:Inv X pins σ H s):s.heap.FunFrames X.base X.stack:=by
 rcases I.ok.stk with e|⟨e,b⟩
 ·rw[e];exact I.funs
 ·rw[e];obtain⟨m,a,_⟩:=I.loc;refine .cons (by rw[I.ok.kind];decide) b a ?_ I.funs;exact Heap.get?_none_of_le (bKh I.ok.bsz I.ok.above)
theorem Inv.stkSub(I:Inv X pins σ H s):∀b∈frs X.stack,b∈X.env.locals::X.fs:=λb a=>by
 rcases I.ok.stk with e|⟨e,c⟩
 ·rw[e]at a;exact bWR _ a
 ·rw[e]at a;unfold frs at a;rw[cQq,c]at a;exact a
theorem Inv.stkFree(I:Inv X pins σ H s):∀b∈frs X.stack,H b=none:=λb a=>by
 rcases bWU.mp (I.stkSub b a)with e|a
 ·rw[e];exact I.free
 ·obtain⟨_,o,c,_⟩:=I.ok.funs.mem a;exact I.base.free b o c (I.ok.frf b a) λz=>I.ok.exfs b z a
theorem Inv.step{g':Array GenState}{t':Nat}{d':Drawn}{ch:List Addr}(I:Inv X pins σ H s) (h:∀b∈ch,(b∈X.ex\/X.s₀.heap.objs.size<=b)/\b≠X.env.locals/\(∀x c,X.env.cells.lookup x=some c->c≠b)/\∀p∈X.pn++pins,p.1≠b) (keep:∀b o,b≠X.env.locals->b∉X.fs->b∉ch->s.heap.get? b=some o->H b=none->h'.get? b=some o) (A:∀b o,b≠X.env.locals->b∈X.fs->b∉ch->s.heap.get? b=some o->H b=none->∃N,h'.get? b=some {o with slots:=N}) (f:∀b o,b∉ch->s.heap.get? b=some o->H b=none->H' b=none) (there:∀b o,b∉ch->s.heap.get? b=some o->∃o',h'.get? b=some o') (D:∀b xs,H b=some (.tup xs)->H' b=some (.tup xs)) (F:∀b o u,H b=some (.frz o u)->H' b=some (.frz o u)) (E:∀b ps,H b=some (.tbl ps)->∃more,H' b=some (.tbl (ps++more))) (T:∀m,s.heap.Ns X.env.locals m->h'.Ns X.env.locals m) (K:HOk X.prog X.w H' h') (V:AllBare g'): Inv X pins σ H' {s with heap:=h',gens:=g',drawn:=d',toks:=t'}:=by
 have J:∀b o,X.s₀.heap.get? b=some o->b≠X.env.locals:=λb o e=>bW9 (bW6 (bWT e) I.ok.above);have y:∀b o,X.s₀.heap.get? b=some o->b∉X.ex->b∉ch:=λb o e a B=>by
  rcases(h b B).1 with z|z
  ·exact a z
  ·exact absurd (bW6 (bWT e) z) (bKN _)
 have g:∀x c,X.env.cells.lookup x=some c->∀v,s.heap.IsCell c v->h'.IsCell c v:=λx c e v ⟨o,C,M⟩=>by
  have j:c∉ch:=λz=>(h c z).2.2.1 x c e rfl;by_cases Q:c∈X.fs
  ·obtain⟨N,q⟩:=A c o (I.cne x c e) Q j C (I.freeC x c e);exact⟨_,q,M⟩
  ·exact⟨o,keep c o (I.cne x c e) Q j C (I.freeC x c e),M⟩
 refine⟨I.ok,I.os,V,⟨λb o e n B a=>?_,λb o e n B a=>?_,λb o e n a=>?_,λb o e a=>?_,λb xs e=>D b xs (I.base.tups b xs e),λb o xs e=>F b o xs (I.base.frzs b o xs e),λb ps e=>?_⟩,?_,λx c e=>?_,?_,λx c e=>?_,λp O=>?_,K,I.len⟩
 ·exact keep b o (J b o e) B (y b o e a) (I.base.keep b o e n B a) (I.base.free b o e n a)
 ·obtain⟨N,t⟩:=I.base.slot b o e n B a;obtain⟨L,G⟩:=A b _ (J b o e) B (y b o e a) t (I.base.free b o e n a);exact⟨L,G⟩
 ·obtain⟨o',t⟩:=I.base.there b o e a;exact f b o' (y b o e a) t (I.base.free b o e n a)
 ·obtain⟨o',t⟩:=I.base.there b o e a;exact there b o' (y b o e a) t
 ·obtain⟨U,t⟩:=I.base.tbls b ps e;obtain⟨W,G⟩:=E b _ t;exact⟨U++W,by rw[G,Array.append_assoc]⟩
 ·obtain⟨m,R,hl⟩:=I.loc;refine⟨m,T m R,λi x v t G S=>?_⟩;obtain⟨u,r,l⟩:=hl i x v t G S;refine⟨u,r,?_⟩;rcases l with l|⟨k,c,e,z⟩
  ·exact .inl l
  ·exact .inr ⟨k,c,e,g x c e _ z⟩
 ·obtain⟨v,z⟩:=I.cell x c e;exact⟨v,g x c e v z⟩
 ·obtain⟨m,⟨o,_,_,C,_⟩,_⟩:=I.loc;exact f _ o (λz=>(h _ z).2.1 rfl) C I.free
 ·obtain⟨v,o,C,M⟩:=I.cell x c e;exact f c o (λz=>(h c z).2.2.1 x c e rfl) C (I.freeC x c e)
 ·obtain⟨e,n,ne,P,d⟩:=I.pin p O;have j:p.1∉ch:=λz=>(h p.1 z).2.2.2 p O rfl;exact⟨keep p.1 p.2 ne P j e n,f p.1 p.2 j e n,ne,P,d⟩
theorem Inv.un{t':Nat}(I:Inv X pins σ H s)(u:Un X.fs [] H H' s.heap h')(d:HOk X.prog X.w H' h'):Inv X pins σ H' {s with heap:=h',toks:=t'}:=by
 obtain⟨m,⟨o,es,p,h,r⟩,_⟩:=id I.loc;obtain⟨q,i⟩:=u.any h I.free (by simp);exact I.step (g':=s.gens) (d':=s.drawn) (ch:= []) (λ_ z=>nomatch z) (λb o _ c _ e n=>u.keep b o e n c (by simp)) (λb o _ c _ e n=>u.slot b o e n c (by simp)) (λb o _ e n=>u.free b o e n (by simp)) (λb o _ e=>u.there b o e (by simp)) u.tups u.frzs u.tbls (λl j=>by
  obtain⟨o',f,g,a,k⟩:=j;rw[h]at a;cases a;exact⟨_,f,g,i,k⟩) d I.bare
theorem Inv.call{g':Array GenState}{t':Nat}{d':Drawn}{ch:List Addr}(I:Inv X pins σ H s)(u:Un (frs X.stack) ch H H' s.heap h')(h:HOk X.prog X.w H' h')(q:AllBare g') (d:∀b∈ch,(b∈X.ex\/X.s₀.heap.objs.size<=b)/\b≠X.env.locals/\(∀x c,X.env.cells.lookup x=some c->c≠b)/\∀p∈X.pn++pins,p.1≠b): Inv X pins σ H' {s with heap:=h',gens:=g',drawn:=d',toks:=t'}:=by
 obtain⟨m,⟨o,es,A,k,r⟩,_⟩:=id I.loc;obtain⟨B,g⟩:=u.any k I.free λz=>(d _ z).2.1 rfl;exact I.step (ch:=ch) d (λb o g l a e n=>u.keep b o e n (λz=>(bWU.mp (I.stkSub b z)).elim g l) a) (λb o _ _ a e n=>u.any e n a) (λb o a e n=>u.free b o e n a) (λb o a e=>u.there b o e a) u.tups u.frzs u.tbls (λy t=>by
  obtain⟨o',i,j,f,v⟩:=t;rw[k]at f;cases f;exact⟨_,i,j,g,v⟩) h q
theorem Inv.turned{t':Nat}{it:Addr}(I:Inv X pins σ H s)(k:∀b o,b≠it->s.heap.get? b=some o->h'.get? b=some o)(g:H it=none)(f:it≠X.env.locals) (h1:it∈X.ex\/X.s₀.heap.objs.size<=it) (h2:∀x c,X.env.cells.lookup x=some c->c≠it) (i:∀p∈X.pn++pins,p.1≠it):Inv X pins σ H {s with heap:=h',toks:=t'}:=by
 have d:∀b u,H b=some u->b≠it:=λb u e z=>by rw[z,g]at e;cases e
 refine I.step (g':=s.gens) (d':=s.drawn) (ch:= [it]) (λb h=>?_) (λb o _ _ a e _=>k b o (λz=>a (by simp[z])) e) (λb o _ _ a e _=>⟨o.slots,k b o (λz=>a (by simp[z])) e⟩) (λ_ _ _ _ n=>n)
  (λb o a e=>⟨o,k b o (λz=>a (by simp[z])) e⟩) (λ_ _ e=>e) (λ_ _ _ e=>e) (λb ps e=>⟨#[],by rw[e];simp⟩) (λm l=>?_) (λb u e=>?_) I.bare
 ·have e:b=it:=by simpa using h
  subst e;exact⟨h1,f,h2,i⟩
 ·obtain⟨o,es,j,t,r⟩:=l;exact⟨o,es,j,k _ o (bKl f) t,r⟩
 ·refine(I.hok b u e).stay (λc v a q=>k c v ?_ q) (λ_ q=>q) λ_ _ q=>q;rcases a with z|z
  ·rw[z];exact d b u e
  ·exact d c _ z
theorem Inv.tok(I:Inv X pins σ H s)(t:Nat):Inv X pins σ H {s with toks:=t}:=I.un (h':=s.heap) (t':=t) Un.refl I.hok
theorem Inv.kept{t':Nat}(I:Inv X pins σ H s)(k:∀b u,s.heap.get? b=some u->h'.get? b=some u):Inv X pins σ H {s with heap:=h',toks:=t'}:=I.un (Un.kept k) (I.hok.kept k)
theorem Inv.laid{a:Addr}{o:HO}{t':Nat}(I:Inv X pins σ H s)(k:∀b u,s.heap.get? b=some u->h'.get? b=some u)(d:s.heap.objs.size<=a)(c:x5 X.prog X.w (upd H a o) h' a o):
  Inv X pins σ (upd H a o) {s with heap:=h',toks:=t'}:=I.un (Un.laid k d (I.hok.fresh d)) (I.hok.laid k d c)
theorem Inv.write{x e:Addr}{o:HO}{t':Nat}(I:Inv X pins σ H s)(d:Mut (H x))(f:e=x\/H e=some (.own x))(k:∀b u,b≠e->s.heap.get? b=some u->h'.get? b=some u)(a:∃u,h'.get? e=some u)
  (c:x5 X.prog X.w (upd H x o) h' x o):Inv X pins σ (upd H x o) {s with heap:=h',toks:=t'}:=I.un (Un.write d f k a) (I.hok.write d f k a c)
theorem Inv.pins_of{a:List (Addr×Obj)}(I:Inv X pins σ H s)(h:∀p∈a,s.heap.get? p.1=some p.2/\H p.1=none/\p.1≠X.env.locals/\p.1∉X.fs/\∀v,p.2.data≠ .cell v):Inv X a σ H s:=
 ⟨I.ok,I.os,I.bare,I.base,I.loc,I.cell,I.free,I.freeC,λp b=>(bKn.mp b).elim (λz=>I.pin p (bYO _ z)) (h p),I.hok,I.len⟩
theorem aJd{N:List Str}(c:N.Nodup){i j:Nat}{x:Str}(a:N[i]? =some x)(b:N[j]? =some x):i=j:=by
 obtain⟨h1,e⟩:=bWP.mp a;obtain⟨h2,d⟩:=bWP.mp b;exact(bYo c).mp (e.trans d.symm)
theorem Z2{M:Model}{A:bKk}{E:bWG->bWJ->Prop}{i:Nat}{x:Str}{v:V}{u:bWG}{Q:Unit->bWJ->Prop}(I:Inv X pins σ H s)(hN:X.N.Nodup)(hi:X.N[i]? =some x)(B:Loc X.env.scope x)(r:xZ v u) (h:∀s',Inv X pins (σ.set i (some v)) H s'->(∃a,bYt a s.heap s'.heap/\(a=X.env.locals\/X.env.cells.lookup x=some a))->Q () s') (hf:X.fn x=true\/X.env.scope.names.lookup x=some .local:=by first|exact .inl rfl|exact .inr rfl|assumption):bWO M A (storeName X.env x u) Q E s:=by
 obtain⟨m,W,hl⟩:=id I.loc;have P:(X.env.scope.kind== .class || (X.env.scope.kind== .module && X.env.locals !=X.env.globals))=false:=by rw[I.ok.kind];rfl
 have hiσ:i<σ.length:=by rw[I.len];exact(bWP.mp hi).1
 have cne:=I.cne;have l:∀ {a:Addr} {h':Heap},(∃o,s.heap.get? a=some o/\H a=none)->bYt a s.heap h'->HOk X.prog X.w H h':=λ{a h'} ha f b ob e=>by
  obtain⟨_,_,C⟩:=ha;refine(I.hok b ob e).stay (λc T t q=>(f.2 c ?_).trans q) (λ_ q=>q) λ_ _ q=>q;rintro rfl;rcases t with rfl|t
  ·rw[C]at e;cases e
  ·rw[C]at t;cases t
 rcases B with F|F
 ·refine wpAny_storeName_local F W (λh' a0 f=>?_) P;obtain⟨oL,_,_,a1,_⟩:=id W;refine h _ ⟨I.ok,I.os,I.bare,⟨λb o e n G B=>?_,λb o e n G B=>?_,I.base.free,λb o e B=>?_,I.base.tups,I.base.frzs,I.base.tbls⟩,⟨_,a0,λj y v' g D Y=>?_⟩,λy c e=>?_,I.free,I.freeC,λp hp=>?_,l ⟨oL,a1,I.free⟩ f,by simpa using I.len⟩ ⟨_,f,.inl rfl⟩
  ·exact(f.2 b (bW9 (bW6 (bWT e) I.ok.above))).trans (I.base.keep b o e n G B)
  ·obtain⟨sl,g⟩:=I.base.slot b o e n G B;exact⟨sl,(f.2 b (bW9 (bW6 (bWT e) I.ok.above))).trans g⟩
  ·obtain⟨o',g⟩:=I.base.there b o e B;exact⟨o',(f.2 b (bW9 (bW6 (bWT e) I.ok.above))).trans g⟩
  ·by_cases K:j=i
   ·subst K;rw[hi]at g;cases g;rw[bY1 hiσ]at D;cases D;exact⟨u,r,.inl ⟨F,by simp⟩⟩
   ·rw[cQO (bKl K)]at D;obtain⟨Z,r',q⟩:=hl j y v' g D Y;refine⟨Z,r',?_⟩;rcases q with⟨k,e⟩|⟨k,c,e,z⟩
    ·refine .inl ⟨k,?_⟩;have:y≠x:=λe=>K (aJd hN g (e ▸ hi));simp[this,e]
    ·exact .inr ⟨k,c,e,z.sameBut f (cne y c e)⟩
  ·obtain⟨T,z⟩:=I.cell y c e;exact⟨T,z.sameBut f (cne y c e)⟩
  ·obtain⟨e,n,ne,nf,d⟩:=I.pin p hp;exact⟨(f.2 p.1 ne).trans e,n,ne,nf,d⟩
 ·have J:X.fn x=true:=by
   rcases hf with z|z
   ·exact z
   ·rw[z]at F;cases F
  obtain⟨c,t⟩:=I.ok.has x (.inl F);obtain⟨T,z⟩:=I.cell x c t;refine wpAny_storeName_cell I.ok.kind F t z (λh' L f=>?_);obtain⟨oc,S,O⟩:=id z;refine h {s with heap:=h'} ⟨I.ok,I.os,I.bare,⟨λb o e n G B=>?_,λb o e n G B=>?_,I.base.free,λb o e B=>?_,I.base.tups,I.base.frzs,I.base.tbls⟩,⟨m,W.sameBut f (bKl (cne x c t)),λj y v' g D Y=>?_⟩,λy U e=>?_,I.free,I.freeC,λp hp=>?_,l ⟨oc,S,I.freeC x c t⟩ f,by simpa using I.len⟩ ⟨c,f,.inr t⟩
  ·exact(f.2 b (bW9 (bW6 (bWT e) (I.ok.cab x c J t)))).trans (I.base.keep b o e n G B)
  ·obtain⟨sl,g⟩:=I.base.slot b o e n G B;exact⟨sl,(f.2 b (bW9 (bW6 (bWT e) (I.ok.cab x c J t)))).trans g⟩
  ·obtain⟨o',g⟩:=I.base.there b o e B;exact⟨o',(f.2 b (bW9 (bW6 (bWT e) (I.ok.cab x c J t)))).trans g⟩
  ·by_cases K:j=i
   ·subst K;rw[hi]at g;cases g;rw[bY1 hiσ]at D;cases D;exact⟨u,r,.inr ⟨.inl F,c,t,L⟩⟩
   ·rw[cQO (bKl K)]at D;obtain⟨Z,r',q⟩:=hl j y v' g D Y;refine⟨Z,r',?_⟩;rcases q with q|⟨k,U,e,z'⟩
    ·exact .inl q
    ·refine .inr ⟨k,U,e,z'.sameBut f ?_⟩;rintro rfl;exact K (aJd hN g (I.ok.inj _ _ _ e t ▸ hi))
  ·by_cases R:U=c
   ·subst R;exact⟨_,L⟩
   ·obtain⟨w2,z2⟩:=I.cell y U e;exact⟨w2,z2.sameBut f R⟩
  ·obtain⟨e,n,ne,nf,d⟩:=I.pin p hp;refine⟨(f.2 p.1 ?_).trans e,n,ne,nf,d⟩;intro q;rw[q,S]at e;have q':oc=p.2:=bWX e;exact d T (by rw[<- q'];exact O)
theorem aJB{M:Model}{A:bKk}{E:bWG->bWJ->Prop}{i:Nat}{x:Str}{v:V}{u:bWG}{Q:Unit->bWJ->Prop}(I:Inv X pins σ H s)(a:X.N.Nodup)(hi:X.N[i]? =some x)(b:Loc X.env.scope x)(r:xZ v u) (h:∀s',Inv X pins (σ.set i (some v)) H s'->Q () s') (d:X.fn x=true\/X.env.scope.names.lookup x=some .local:=by first|exact .inl rfl|exact .inr rfl|assumption):bWO M A (storeName X.env x u) Q E s:=
 Z2 I a hi b r (λs' c _=>h s' c) d
theorem Inv.call'{s':bWJ}{ch:List Addr}(I:Inv X pins σ H s)(j:s'.os=s.os)(u:Un (frs X.stack) ch H H' s.heap s'.heap)(a:HOk X.prog X.w H' s'.heap)(i:AllBare s'.gens) (d:∀b∈ch,(b∈X.ex\/X.s₀.heap.objs.size<=b)/\b≠X.env.locals/\(∀x c,X.env.cells.lookup x=some c->c≠b)/\∀p∈X.pn++pins,p.1≠b):Inv X pins σ H' s':=by
 obtain⟨h',h,g,f,o'⟩:=s';have e:o'=s.os:=j;subst e;exact I.call (g':=h) (t':=f) (d':=g) u a i d
end
abbrev XK:=bWG->Option Addr->Hp->Prop
abbrev St:=List (Option V)
abbrev VK:=V->Hp->Prop
abbrev TE:=St->Hp->VK->Prop
abbrev TT:=St->Hp->(Bool->Hp->Prop)->Prop
abbrev TA:=St->Hp->(List V->Hp->Prop)->Prop
structure aJH where
 nx:St->Hp->Prop
 rt:VK
 bk:St->Hp->Prop:=λ_ _=>False
 ct:St->Hp->Prop:=λ_ _=>False
abbrev TS:=aJH->St->Hp->Prop
def EP(X:Cx)(pins:List (Addr×Obj))(σ:St)(Q:VK)(u:bWG)(s':bWJ):Prop:=∃v H',Inv X pins σ H' s'/\xZ v u/\Q v H'
def TP(X:Cx)(pins:List (Addr×Obj))(σ:St)(Q:Bool->Hp->Prop)(b:Bool)(s':bWJ):Prop:=∃H',Inv X pins σ H' s'/\Q b H'
def AP(X:Cx)(pins:List (Addr×Obj))(σ:St)(Q:List V->Hp->Prop)(us:List bWG)(s':bWJ):Prop:=∃a H',Inv X pins σ H' s'/\xK a us/\Q a H'
def SP(X:Cx)(pins:List (Addr×Obj))(D:aJH)(f:Flow)(s':bWJ):Prop:=
 match f with
 |.next=>∃a H',Inv X pins a H' s'/\D.nx a H'
 |.brk=>∃a H',Inv X pins a H' s'/\D.bk a H'
 |.cont=>∃a H',Inv X pins a H' s'/\D.ct a H'
 |.ret u=>∃v a H',Inv X pins a H' s'/\xZ v u/\D.rt v H'
def PE(X:Cx)(e:Expr)(t:TE):Prop:=
 ∀ (pins:List (Addr×Obj))(s:bWJ)(σ:St)(H:Hp)(Q:VK),Inv X pins σ H s->t σ H Q->bWO (bWQ X.prog X.w) X.A (eval e X.env) (EP X pins σ Q) X.xe s
def PT(X:Cx)(e:Expr)(t:TT):Prop:=
 ∀ (pins:List (Addr×Obj))(s:bWJ)(σ:St)(H:Hp)(Q:Bool->Hp->Prop),Inv X pins σ H s->t σ H Q->bWO (bWQ X.prog X.w) X.A (isTrue e X.env (eval e X.env)) (TP X pins σ Q) X.xe s
def PW(X:Cx)(e:Expr)(t:TT):Prop:=
 ∀ (a:Sem bWG)(pins:List (Addr×Obj))(s:bWJ)(σ:St)(H:Hp)(Q:Bool->Hp->Prop),Inv X pins σ H s->t σ H Q->bWO (bWQ X.prog X.w) X.A (isTrue e X.env a) (TP X pins σ Q) X.xe s
theorem PW.pt{X:Cx}{e:Expr}{t:TT}(h:PW X e t):PT X e t:=h _
def PA(X:Cx)(es:List Expr)(t:TA):Prop:=
 ∀ (pos:Pos)(pins:List (Addr×Obj))(s:bWJ)(σ:St)(H:Hp)(Q:List V->Hp->Prop),Inv X pins σ H s->t σ H Q->bWO (bWQ X.prog X.w) X.A (spliced (bYD pos (bKi es X.env))) (AP X pins σ Q) X.xe s
def PS(X:Cx)(st:Stmt)(t:TS):Prop:=
 ∀ (pins:List (Addr×Obj))(s:bWJ)(σ:St)(H:Hp)(D:aJH),Inv X pins σ H s->t D σ H->bWO (bWQ X.prog X.w) X.A (exec st X.env) (SP X pins D) X.xe s
def PSs(X:Cx)(st:List Stmt)(t:TS):Prop:=
 ∀ (pins:List (Addr×Obj))(s:bWJ)(σ:St)(H:Hp)(D:aJH),Inv X pins σ H s->t D σ H->bWO (bWQ X.prog X.w) X.A (execs st X.env) (SP X pins D) X.xe s
theorem thn{α:Type}{t:Sem α}{Q b:α->bWJ->Prop}{M:Model}{A:bKk}{E:bWG->bWJ->Prop}{s:bWJ}(h:bWO M A t Q E s)(c:∀a s,Q a s->b a s):bWO M A t b E s:=bKE h c λ_ _ x=>x
end L2
namespace L2
open PySem PySem.Spec PyProof.Rows
section
variable {X:Cx}
theorem bin{a b:Expr}{ta tb:TE}(i:PE X a ta)(g:PE X b tb){pins:List (Addr×Obj)}{s:bWJ}{σ:St}{H:Hp}{R:V->V->Hp->Prop}(I:Inv X pins σ H s)(h:ta σ H λx H1=>tb σ H1 λy H2=>R x y H2) {α:Type} {Q:α->bWJ->Prop} {f:bWG->bWG->Sem α} (j:∀v u e x y H2,Inv X pins σ H2 e->xZ x v->xZ y u->R x y H2->bWO (bWQ X.prog X.w) X.A (f v u) Q X.xe e): bWO (bWQ X.prog X.w) X.A (eval a X.env) (λv c=>bWO (bWQ X.prog X.w) X.A (eval b X.env) (λu d=>bWO (bWQ X.prog X.w) X.A (f v u) Q X.xe d) X.xe c) X.xe s:=by
 refine thn (i pins s σ H _ I h) λv s1 ⟨x,H1,I1,r1,q1⟩=>?_;refine thn (g pins s1 σ H1 _ I1 q1) λu e ⟨y,H2,I2,r2,q2⟩=>?_;exact j v u e x y H2 I2 r1 r2 q2
inductive bZ4(i:Nat)(σ:St)(H:Hp)(Q:VK):Prop|mk (v) (_:σ[i]? =some (some v)) (_:Q v H)
def tC(v:V):TE:=λ_ H Q=>Q v H
theorem bXh{i:Nat}{x:Str}{pos:Pos}(n:X.N[i]? =some x)(p:Vis X.env.scope x)(g:(x==("__debug__":Str))=false:=by decide)(f:(x==("__classdict__":Str))=false:=by decide):PE X (.Name x pos) (bZ4 i):=by
 intro pins s σ H Q I h;obtain⟨v,e,h⟩:=h;obtain⟨m,k,hl⟩:=I.loc;obtain⟨u,r,l⟩:=hl i x v n e p;have b:EP X pins σ Q u s:=⟨v,H,I,r,h⟩;rcases l with⟨d,o⟩|⟨d,c,j,a⟩
 ·exact wpAny_Name (wpAny_loadName_local I.ok.kind d k o b) g
 ·rcases d with d|d
  ·exact wpAny_Name (wpAny_loadName_cell I.ok.kind d j a b) g
  ·exact wpAny_Name (wpAny_loadName_free I.ok.kind d j a b f) g
theorem yK{i j pos}:PE X (.Constant (.int i) j pos) (tC (.int i)):=λ_ _ _ H _ I h=>wpAny_Constant_int ⟨.int i,H,I.tok _,⟨_,rfl⟩,h⟩
theorem qZ{b j pos}:PE X (.Constant (.bool b) j pos) (tC (.bl b)):=λ_ _ _ H _ I h=>Constant_bool ⟨.bl b,H,I,rfl,h⟩
theorem wG{j pos}:PE X (.Constant .none j pos) (tC .non):=λ_ _ _ H _ I h=>Constant_none ⟨.non,H,I,rfl,h⟩
theorem y1{x j pos}:PE X (.Constant (.str x) j pos) (tC (.str x)):=λ_ _ _ H _ I h=>Calls.Constant_str ⟨.str x,H,I.tok _,⟨_,rfl⟩,h⟩
def Gl(X:Cx)(x:Str):Prop:=X.env.kindOf x=some .globalImplicit
theorem vI{E:bWG->bWJ->Prop}{pins:List (Addr×Obj)}{s:bWJ}{σ:St}{H:Hp}{x:Str}{u:bWG}{pos:Pos}{Q:bWG->bWJ->Prop}(I:Inv X pins σ H s)(b:Gl X x)(a:X.mg x=some u)(h:Q u s) (c:(x==("__debug__":Str))=false:=by decide):bWO (bWQ X.prog X.w) X.A (eval (.Name x pos) X.env) Q E s:=
 cXP I.ok.kind b (Calls.loadGlobal_global (by rw[I.ok.glob];exact I.mod.glob.keeps I.bk) a h) c
theorem qR{E:bWG->bWJ->Prop}{pins:List (Addr×Obj)}{s:bWJ}{σ:St}{H:Hp}{x:Str}{u:bWG}{pos:Pos}{Q:bWG->bWJ->Prop}(I:Inv X pins σ H s)(b:Gl X x)(d:X.mg x=none)(e:bKx x=some u)(h:Q u s) (a:x≠"__name__":=by decide) (c:(x==("__debug__":Str))=false:=by decide):bWO (bWQ X.prog X.w) X.A (eval (.Name x pos) X.env) Q E s:=by
 obtain⟨f,h1,h2⟩:=I.mod.blt;exact cXP I.ok.kind b (Calls.loadGlobal_builtin (by rw[I.ok.glob];exact I.mod.glob.keeps I.bk) d (by rw[I.ok.blt];exact h1.keeps I.bk) ((h2 x a).trans e) h) c
theorem wW{x:Str}{v:V}{u:bWG}{pos:Pos}(b:Gl X x)(a:X.mg x=some u)(r:xZ v u)(c:(x==("__debug__":Str))=false:=by decide):PE X (.Name x pos) (tC v):=
 λ_ _ _ H _ I h=>vI I b a ⟨v,H,I,r,h⟩ c
theorem aW3{x:Str}{v:V}{u:bWG}{pos:Pos}(c:Gl X x)(b:X.mg x=none)(d:bKx x=some u)(r:xZ v u)(a:x≠"__name__":=by decide)(e:(x==("__debug__":Str))=false:=by decide):PE X (.Name x pos) (tC v):=
 λ_ _ _ H _ I h=>qR I c b d ⟨v,H,I,r,h⟩ a e
variable {a b:Expr}{ta tb:TE}{pos:Pos}
def PC(X:Cx)(e:CmpOp)(a b:Expr)(t:TE):Prop:=
 ∀ (pins:List (Addr×Obj))(s:bWJ)(σ:St)(H:Hp)(Q:VK),Inv X pins σ H s->t σ H Q->
  bWO (bWQ X.prog X.w) X.A (eval a X.env) (λv c=>bWO (bWQ X.prog X.w) X.A (eval b X.env) (λu d=>bWO (bWQ X.prog X.w) X.A (bYd e v u) (EP X pins σ Q) X.xe d) X.xe c) X.xe s
theorem aYO(b:Expr){a:CmpOp}(h:a≠ .In)(h2:a≠ .NotIn):cQt a b=false:=by
 have d:(a==CmpOp.In)=false:=by cases a<;> first|rfl|exact absurd rfl h
 have c:(a==CmpOp.NotIn)=false:=by cases a<;> first|rfl|exact absurd rfl h2
 cases b<;> simp[cQt,d,c]
inductive tBQ(Q:Bool->Hp->Prop)(x:V)(H1:Hp):Prop|mk (c) (_:x= .bl c) (_:Q c H1)
def tB(t:TE):TT:=λσ H Q=>t σ H λx H1=>tBQ Q x H1
theorem bJY{e:CmpOp}{t:TE}(h:PC X e a b t)(h1:cQt e b=false:=by first|exact aYO _ (by decide) (by decide)|rfl):PT X (.Compare a [e] [b] pos) (tB t):=by
 intro pins s σ H Q I hw;refine wpAny_isTrue_Compare1 (thn (h pins s σ H _ I hw) λv g h1=>thn h1 λu f h2=>thn h2 λc s3 ⟨x,H1,I1,r1,q1⟩=>?_) h1;obtain⟨d,rfl,q⟩:=q1;cases r1;exact bYW ⟨H1,I1,q⟩
theorem wH{e:Expr}{t:TE}(h:PE X e t)(b:∀a,isTrue e X.env a=(do let v <- a;standAt e.pos;cQZ [v] (truthy v)):=by intro _;rfl):PT X e (tB t):=by
 intro pins s σ H Q I hw;refine isTrue_plain (thn (h pins s σ H _ I hw) λv s1 ⟨x,H1,I1,r1,q1⟩=>?_) (b _);obtain⟨d,rfl,q⟩:=q1;cases r1;exact bYW ⟨H1,I1,q⟩
variable {tA tB':TT}{qB:List Expr}
def bWx(t u:TT):TT:=λσ H Q=>t σ H λc H1=>if c=true then u σ H1 Q else Q false H1
def tOr(t u:TT):TT:=λσ H Q=>t σ H λc H1=>if c=true then Q true H1 else u σ H1 Q
def bWC(t:TT):TT:=λσ H Q=>t σ H λc H1=>Q (!c) H1
theorem Y4(b:PT X a tA):PW X (.BoolOp .And [a] pos) tA:=by
 intro d pins s σ H Q I h;refine isTrue_and (thn (b pins s σ H Q I h) λc f e=>?_);cases c with
 |true=>exact isTrue_and_nil e
 |false=>exact e
theorem aXJ(b:PT X a tA):PW X (.BoolOp .Or [a] pos) tA:=by
 intro d pins s σ H Q I h;refine isTrue_or (thn (b pins s σ H Q I h) λc f e=>?_);cases c with
 |false=>exact isTrue_or_nil e
 |true=>exact e
theorem Q9(f:PT X a tA)(e:PW X (.BoolOp .And (b::qB) pos) tB'):PW X (.BoolOp .And (a::b::qB) pos) (bWx tA tB'):=by
 intro d pins s σ H Q I h;refine isTrue_and (thn (f pins s σ H _ I h) λc s1 ⟨H1,I1,q1⟩=>?_);cases c with
 |true=>exact e d pins s1 σ H1 Q I1 q1
 |false=>exact⟨H1,I1,q1⟩
theorem aZy(f:PT X a tA)(e:PW X (.BoolOp .Or (b::qB) pos) tB'):PW X (.BoolOp .Or (a::b::qB) pos) (tOr tA tB'):=by
 intro d pins s σ H Q I h;refine isTrue_or (thn (f pins s σ H _ I h) λc s1 ⟨H1,I1,q1⟩=>?_);cases c with
 |true=>exact⟨H1,I1,q1⟩
 |false=>exact e d pins s1 σ H1 Q I1 q1
theorem aXI(b:PT X a tA):PT X (.UnaryOp .Not a pos) (bWC tA):=by
 intro pins s σ H Q I h;exact isTrue_not (b pins s σ H (λc H1=>Q (!c) H1) I h)
inductive bVd(tb:TE)(σ:St)(Q:VK)(x:V)(H1:Hp):Prop|mk (c) (_:x= .bl c) (_:if c=true then tb σ H1 Q else Q (.bl false) H1)
def bVV(ta tb:TE):TE:=λσ H Q=>ta σ H λx H1=>bVd tb σ Q x H1
inductive bV2(tb:TE)(σ:St)(Q:VK)(x:V)(H1:Hp):Prop|mk (c) (_:x= .bl c) (_:if c=true then Q (.bl true) H1 else tb σ H1 Q)
def bWD(ta tb:TE):TE:=λσ H Q=>ta σ H λx H1=>bV2 tb σ Q x H1
theorem aW5{op}{t:TE}(h:PE X a t):PE X (.BoolOp op [a] pos) t:=λpins s σ H Q I hw=>BoolOp_one (h pins s σ H Q I hw)
theorem bJN(f:PE X a ta)(e:PE X (.BoolOp .And (b::qB) pos) tb):PE X (.BoolOp .And (a::b::qB) pos) (bVV ta tb):=by
 intro pins s σ H Q I h;refine BoolOp_and (thn (f pins s σ H _ I h) λv s1 ⟨x,H1,I1,r1,d⟩=>?_);obtain⟨c,rfl,d⟩:=d;cases r1;refine bYW ?_;cases c with
 |true=>exact e pins s1 σ H1 Q I1 d
 |false=>exact⟨.bl false,H1,I1,rfl,d⟩
theorem bJR(f:PE X a ta)(e:PE X (.BoolOp .Or (b::qB) pos) tb):PE X (.BoolOp .Or (a::b::qB) pos) (bWD ta tb):=by
 intro pins s σ H Q I h;refine BoolOp_or (thn (f pins s σ H _ I h) λv s1 ⟨x,H1,I1,r1,d⟩=>?_);obtain⟨c,rfl,d⟩:=d;cases r1;refine bYW ?_;cases c with
 |false=>exact e pins s1 σ H1 Q I1 d
 |true=>exact⟨.bl true,H1,I1,rfl,d⟩
def tIf(t:TT)(ta tb:TE):TE:=λσ H Q=>t σ H λc H1=>if c=true then ta σ H1 Q else tb σ H1 Q
theorem bQa{c:Expr}(g:PT X c tA)(f:PE X a ta)(e:PE X b tb):PE X (.IfExp c a b pos) (tIf tA ta tb):=by
 intro pins s σ H Q I h;refine wpAny_IfExp (thn (g pins s σ H _ I h) λd s1 ⟨H1,I1,q1⟩=>?_);cases d with
 |true=>exact f pins s1 σ H1 Q I1 q1
 |false=>exact e pins s1 σ H1 Q I1 q1
end
end L2
namespace L2
open PySem PySem.Spec PyProof.Rows
def SqL(K:bWI)(H:Hp)(a:Addr)(xs:List V):Prop:=
 Rd H a (.lst xs)\/
  ∃ (o:Obj)(b:Array bWG)(n:Nat),K.lookup a=some o/\o.cls= .type "list"/\o.dict=none/\o.data= .seq b n/\b.size<=bKb/\xK xs b.toList
def SqT(K:bWI)(H:Hp)(a:Addr)(xs:List V):Prop:=
 Rd H a (.tup xs)\/
  ∃ (o:Obj)(b:Array bWG)(n:Nat),K.lookup a=some o/\o.cls= .type "tuple"/\o.data= .seq b n/\b.size<=bKb/\xK xs b.toList
def bWm:bWG->Option V
 |.none=>some .non
 |.bool b=>some (.bl b)
 |.int i _=>some (.int i)
 |.str x _=>some (.str x)
 |.bytes b _=>some (.byt b)
 |.float b _=>some (.flt b)
 |.ref a=>some (.ref a)
 |.type n=>some (.ty n)
 |_=>none
theorem xZ.abs{x:V}{u:bWG}(r:xZ x u):bWm u=some x:=by
 cases x with
 |non=>cases r;rfl
 |bl _=>cases r;rfl
 |int _=>obtain⟨t,rfl⟩:=r;rfl
 |str _=>obtain⟨t,rfl⟩:=r;rfl
 |byt _=>obtain⟨t,rfl⟩:=r;rfl
 |flt _=>obtain⟨t,rfl⟩:=r;rfl
 |ref _=>cases r;rfl
 |ty _=>cases r;rfl
theorem xZ.inj{x y:V}{u:bWG}(r:xZ x u)(q:xZ y u):x=y:=bWX (r.abs.symm.trans q.abs)
theorem xK.inj:∀ {xs ys:List V} {us:List bWG},xK xs us->xK ys us->xs=ys
 |_,_,_,.nil,.nil=>rfl
 |_,_,_,.cons r t,.cons r' t'=>by rw[r.inj r',xK.inj t t']
section
variable {X:Cx}{pins:List (Addr×Obj)}{σ:St}{H:Hp}{s:bWJ}{a:Addr}{xs ys:List V}
theorem SqL.of{K:bWI}(h:H a=some (.lst xs)):SqL K H a xs:= .inl (.inl h)
theorem SqT.of{K:bWI}(h:H a=some (.tup xs)):SqT K H a xs:= .inl (.inl h)
theorem Inv.list(I:Inv X pins σ H s)(h:SqL X.K H a xs):∃b:List bWG,xK xs b/\PlainL s.heap a b.toArray/\xs.length<=bKb:=by
 rcases h with h|⟨o,b,n,c,f,g,d,i,r⟩
 ·obtain⟨z,b,n,r,e⟩:=h.ok I.hok;exact⟨b,r,⟨_,n,e,rfl,rfl,rfl⟩,z⟩
 ·refine⟨b.toList,r,⟨o,n,I.kIn a o c,f,g,by simpa using d⟩,?_⟩;have e:=r.length;simp only[bK0]at e;omega
theorem Inv.tuple(I:Inv X pins σ H s)(h:SqT X.K H a xs):∃b:List bWG,xK xs b/\IsTup s.heap a b.toArray/\xs.length<=bKb:=by
 rcases h with h|⟨o,b,n,c,f,d,g,r⟩
 ·obtain⟨z,b,r,p⟩:=h.ok I.hok;exact⟨b,r,p,z⟩
 ·refine⟨b.toList,r,⟨o,I.kIn a o c,f,n,by simpa using d⟩,?_⟩;have e:=r.length;simp only[bK0]at e;omega
theorem Inv.list_inj(I:Inv X pins σ H s)(h:SqL X.K H a xs)(h':SqL X.K H a ys):xs=ys:=by
 obtain⟨c,r,⟨o,n,e,_,_,d⟩,_⟩:=I.list h;obtain⟨b,i,⟨o',j,g,_,_,f⟩,_⟩:=I.list h';rw[e]at g;cases g;rw[d]at f;injection f with d1 _;have:c=b:=by simpa using congrArg Array.toList d1
 subst this;exact r.inj i
end
abbrev Cx.wish(X:Cx)(E:bWG->bWJ->Prop):Cx:={X with xe:=E}
abbrev Cx.nox(X:Cx):Cx:=X.wish λ_ _=>False
theorem Cx.Ok.wish{X:Cx}(ok:X.Ok)(E:bWG->bWJ->Prop):(X.wish E).Ok:=
 ⟨ok.mod,ok.kind,ok.glob,ok.blt,ok.above,ok.inj,ok.has,ok.cab,ok.hd,ok.frames,ok.stk,ok.exf,ok.bs,ok.bsz,ok.noex,ok.exfs,ok.funs,ok.frf⟩
theorem Cx.Ok.unwish{X:Cx}{E:bWG->bWJ->Prop}(ok:(X.wish E).Ok):X.Ok:=
 ⟨ok.mod,ok.kind,ok.glob,ok.blt,ok.above,ok.inj,ok.has,ok.cab,ok.hd,ok.frames,ok.stk,ok.exf,ok.bs,ok.bsz,ok.noex,ok.exfs,ok.funs,ok.frf⟩
section
variable {X:Cx}{pins:List (Addr×Obj)}{σ:St}{H:Hp}{s:bWJ}{E:bWG->bWJ->Prop}
theorem Inv.wish(I:Inv X pins σ H s)(E:bWG->bWJ->Prop):Inv (X.wish E) pins σ H s:=⟨I.ok.wish E,I.os,I.bare,I.base,I.loc,I.cell,I.free,I.freeC,I.pin,I.hok,I.len⟩
theorem Inv.unwish(I:Inv (X.wish E) pins σ H s):Inv X pins σ H s:=⟨I.ok.unwish,I.os,I.bare,I.base,I.loc,I.cell,I.free,I.freeC,I.pin,I.hok,I.len⟩
theorem SP.unwish{D:aJH}{f:Flow}{s':bWJ}(h:SP (X.wish E) pins D f s'):SP X pins D f s':=by
 cases f with
 |next=>obtain⟨a,H',I,q⟩:=h;exact⟨a,H',I.unwish,q⟩
 |brk=>obtain⟨a,H',I,q⟩:=h;exact⟨a,H',I.unwish,q⟩
 |cont=>obtain⟨a,H',I,q⟩:=h;exact⟨a,H',I.unwish,q⟩
 |ret u=>obtain⟨v,a,H',I,r,q⟩:=h;exact⟨v,a,H',I.unwish,r,q⟩
theorem PSs.nox{st:List Stmt}{t:TS}(h:PSs X.nox st t):PSs X st t:=λpins s σ H D I hw=>
 bKE (h pins s σ H D (I.wish _) hw) (λ_ _ q=>q.unwish) λ_ _ z=>bYe z
end
section
variable {X:Cx}{st:Stmt}{qB:List Stmt}{t u:TS}{e:Expr}{te:TE}{pos:Pos}
def bV1:TS:=λD σ H=>D.nx σ H
def bWi(t u:TS):TS:=λD σ H=>t {D with nx:=u D} σ H
theorem yY:PSs X [] bV1:=λ_ _ σ H _ I h=>cXv ⟨σ,H,I,h⟩
theorem yC(h1:PS X st t)(h2:PSs X qB u):PSs X (st::qB) (bWi t u):=by
 intro pins s σ H D I h;refine wpAny_execs_cons (thn (h1 pins s σ H {D with nx:=u D} I h) λf b q=>?_);cases f with
 |next=>obtain⟨a,H',c,q⟩:=q;exact h2 pins b a H' D c q
 |ret v=>exact q
 |brk=>exact q
 |cont=>exact q
theorem yG(h1:PS X st t):PSs X [st] t:=by
 intro pins s σ H D I h;refine wpAny_execs_cons (thn (h1 pins s σ H D I h) λf a q=>?_);cases f with
 |next=>exact cXv q
 |ret v=>exact q
 |brk=>exact q
 |cont=>exact q
theorem Inv.quiet{pins:List (Addr×Obj)}{σ:St}{H:Hp}{s:bWJ}(I:Inv X pins σ H s):interactive X.env=false:=by simp[interactive,I.ok.kind]
def bZ2(te:TE):TS:=λD σ H=>te σ H λ_ H1=>D.nx σ H1
theorem yQ(a:PE X e te)(b:swapsWith e none pos.line X.env=pure false:=by rfl):PS X (.Expr e pos) (bZ2 te):=by
 intro pins s σ H D I h;exact wpAny_Expr_any (thn (a pins s σ H _ I h) λv s1 ⟨x,H1,I1,r1,q1⟩=>⟨σ,H1,I1,q1⟩) I.quiet b
def bWh(te:TE):TS:=λD σ H=>te σ H D.rt
theorem yP(a:PE X e te):PS X (.Return (some e) pos) (bWh te):=by
 intro pins s σ H D I h;exact wpAny_Return_some (thn (a pins s σ H _ I h) λv s1 ⟨x,H1,I1,r1,q1⟩=>⟨x,σ,H1,I1,r1,q1⟩)
def bWB(c:TT)(t u:TS):TS:=λD σ H=>c σ H λb H1=>if b=true then t D σ H1 else u D σ H1
theorem zC{c:Expr}{a b:List Stmt}{tc:TT}(g:PT X c tc)(f:PSs X a t)(e:PSs X b u):PS X (.If c a b pos) (bWB tc t u):=by
 intro pins s σ H D I h;refine wpAny_If (thn (g pins s σ H _ I h) λd s1 ⟨H1,I1,q1⟩=>?_);cases d with
 |true=>exact f pins s1 σ H1 D I1 q1
 |false=>exact e pins s1 σ H1 D I1 q1
end
abbrev TG:=V->St->Hp->(St->Hp->Prop)->Prop
abbrev TGs:=List V->St->Hp->(St->Hp->Prop)->Prop
def PG(X:Cx)(a:Expr)(t:TG):Prop:=
 ∀ (pins:List (Addr×Obj))(s:bWJ)(σ:St)(H:Hp)(v:V)(u:bWG)(Q:St->Hp->Prop),Inv X pins σ H s->xZ v u->t v σ H Q->
  bWO (bWQ X.prog X.w) X.A (assign a X.env u) (λ_ s'=>∃b H',Inv X pins b H' s'/\Q b H') X.xe s
def PGs(X:Cx)(d:List Expr)(t:TGs):Prop:=
 ∀ (pins:List (Addr×Obj))(s:bWJ)(σ:St)(H:Hp)(b:List V)(c:List bWG)(Q:St->Hp->Prop),Inv X pins σ H s->xK b c->t b σ H Q->
  bWO (bWQ X.prog X.w) X.A (assignInOrder ((cQw d X.env).map (·.2)) c) (λ_ s'=>∃a H',Inv X pins a H' s'/\Q a H') X.xe s
abbrev bVB:=V->V->V->Hp->(Hp->Prop)->Prop
def bV9(X:Cx)(t:bVB):Prop:=
 ∀ (pins:List (Addr×Obj))(s:bWJ)(σ:St)(H:Hp)(o i v:V)(a b u:bWG)(Q:Hp->Prop),Inv X pins σ H s->xZ o a->xZ i b->xZ v u->t o i v H Q->
  bWO (bWQ X.prog X.w) X.A (setItem a b u) (λ_ s'=>∃H',Inv X pins σ H' s'/\Q H') X.xe s
section
variable {X:Cx}{pos:Pos}
def yS(i:Nat):TG:=λv σ H Q=>Q (σ.set i (some v)) H
theorem yZ{i:Nat}{x:Str}(a:X.N.Nodup:=by exact ‹yJ _ _ _›.nd)(hi:X.N[i]? =some x:=by rfl)(b:Loc X.env.scope x:=by first|exact Or.inl rfl|exact Or.inr rfl)(d:X.fn x=true\/X.env.scope.names.lookup x=some .local:=by first|exact .inl rfl|exact .inr rfl|assumption):PG X (.Name x pos) (yS i):=by
 intro pins s σ H v u Q I r h;exact wpAny_assign_Name (aJB I a hi b r (λs' c=>⟨_,H,c,h⟩) d)
inductive bWn(vs:List V)(σ:St)(H:Hp)(Q:St->Hp->Prop):Prop|mk (_:vs= []) (_:Q σ H)
inductive bVG(t:TG)(u:TGs)(vs:List V)(σ:St)(H:Hp)(Q:St->Hp->Prop):Prop|mk (v r) (_:vs=v::r) (_:t v σ H λσ' H'=>u r σ' H' Q)
theorem aZw:PGs X [] bWn:=by
 intro pins s σ H a b Q I r h;obtain⟨e,h⟩:=h;subst e;cases r;exact assignInOrder_nil ⟨σ,H,I,h⟩
theorem zY{e:Expr}{es:List Expr}{t:TG}{u:TGs}(h1:PG X e t)(h2:PGs X es u) (c:(cQw (e::es) X.env).map (·.2)=assign e X.env::(cQw es X.env).map (·.2):=by rfl):PGs X (e::es) (bVG t u):=by
 intro pins s σ H g f Q I r h;obtain⟨v,d,a,h⟩:=h;subst a;cases r with
 |cons r b=>rw[c];refine assignInOrder_cons (thn (h1 pins s σ H _ _ _ I r h) λ_ s1 ⟨σ1,H1,I1,q1⟩=>?_);exact h2 pins s1 σ1 H1 _ _ Q I1 b q1
inductive bWp(K:bWI)(n:Nat)(t:TGs)(v:V)(σ:St)(H:Hp)(Q:St->Hp->Prop):Prop|mk (a xs) (_:v= .ref a) (_:SqT K H a xs) (_:xs.length=n) (_:t xs σ H Q)
theorem bXi{es:List Expr}{k:Nat}{t:TGs}{n:Nat}(q:X.calm=true)(h:PGs X es t) (f:(cQw es X.env).length=n:=by rfl) (c:(cQw es X.env).findIdx? (·.1)=none:=by rfl):PG X (.Tuple es k pos) (bWp X.K n t):=by
 intro pins s σ H v u Q I r hw;obtain⟨a,xs,g,i,hl,hw⟩:=hw;subst g;cases r;obtain⟨m,d,p,w⟩:=I.tuple i;refine assign_Tuple_tuple (I.ok.hd q) p (by simp[f,<- hl,d.length]) c λh' j=>?_;have l:Inv X pins σ H {s with heap:=h'}:=I.kept (t':=s.toks) λb o e=>j b o (bW9 (bWT e)) e;exact h pins _ σ H xs _ Q l (by simpa using d) hw
def bWo(to a:TE)(t:bVB):TG:=λv σ H Q=>to σ H λo H1=>a σ H1 λi H2=>t o i v H2 λb=>Q σ b
theorem bJT{o i:Expr}{to a:TE}{t:bVB}(d:PE X o to)(hi:PE X i a)(c:bV9 X t)
  (b:∀v,assign (.Subscript o i pos) X.env v=(do
   let ov <- cQZ [v] (eval o X.env)
   let iv <- cQZ [v,ov] (eval i X.env)
   standAt pos
   cQZ [v,ov,iv] (setItem ov iv v)
   release [v,ov,iv] []):=by intro _;rfl):PG X (.Subscript o i pos) (bWo to a t):=by
 intro pins s σ H v u Q I r h
 rw[b]
 refine bWH (bKJ (thn (d pins s σ H _ I h) λov s1 ⟨x,H1,I1,r1,q1⟩=>?_))
 refine bWH (bKJ (thn (hi pins s1 σ H1 _ I1 q1) λiv s2 ⟨y,H2,I2,r2,q2⟩=>?_))
 refine bWH (cQX (bWH (bKJ (thn (c pins s2 σ H2 x y v ov iv u _ I2 r1 r2 r q2) λ_ s3 ⟨H3,I3,q3⟩=>?_))))
 exact wpAny_release ⟨σ,H3,I3,q3⟩
def bVW(te:TE)(g:TG):TS:=λD σ H=>te σ H λx H1=>g x σ H1 D.nx
theorem aJk{tg e:Expr}{te:TE}{g:TG}(c:PE X e te)(a:PG X tg g)(b:swapsWithSole [tg] e pos.line X.env=pure false:=by rfl)(hw:swappedStores [tg] e X.env=pure none:=by rfl)
  (h1:(cQw [tg] X.env).map (·.2)= [assign tg X.env]:=by rfl):PS X (.Assign [tg] e pos) (bVW te g):=by
 intro pins s σ H D I h
 refine wpAny_Assign_stores (thn (c pins s σ H _ I h) λv s1 ⟨x,H1,I1,r1,q1⟩=>?_) b hw
 rw[h1]
 exact thn (a pins s1 σ H1 x v _ I1 r1 q1) λ_ d q=>q
theorem yO{i:Nat}{x:Str}{e:Expr}{te:TE}{pos':Pos}(g:PE X e te)(c:X.N.Nodup:=by exact ‹yJ _ _ _›.nd)(hi:X.N[i]? =some x:=by rfl)(b:Loc X.env.scope x:=by first|exact Or.inl rfl|exact Or.inr rfl)(f:swapsWith e (some (.Name x pos')) pos.line X.env=pure false:=by rfl)(d:X.fn x=true\/X.env.scope.names.lookup x=some .local:=by first|exact .inl rfl|exact .inr rfl|assumption):
  PS X (.Assign [.Name x pos'] e pos) (bVW te (yS i)):=by
 intro pins s σ H D I h
 refine wpAny_Assign_Name (thn (g pins s σ H _ I h) λv s1 ⟨y,H1,I1,r1,q1⟩=>?_) f
 exact aJB I1 c hi b r1 (λj a=>⟨_,H1,a,q1⟩) d
end
section
variable {X:Cx}{pos:Pos}
def bVl(c:TT)(tb:TS):TS:=λD σ H=>∃W:Nat->St->Hp->Prop,(∃m,W m σ H)/\∀m σ H,W m σ H->
 c σ H λb H1=>if b=true then ∃N:St->Hp->Prop,(∀a H',N a H'->∃d,d<m/\W d a H')/\tb {D with nx:=N,ct:=N,bk:=D.nx} σ H1 else D.nx σ H1
theorem qA{c:Expr}{body:List Stmt}{tc:TT}{tb:TS}(r:PassesOwn (bWQ X.prog X.w) X.A X.env X.xe)(E:PT X c tc)(x:PSs X body tb):PS X (.While c body [] pos) (bVl tc tb):=by
 intro pins s σ H D I h;obtain⟨W,⟨C,y⟩,e⟩:=h;refine wpAny_While (codeAny_whileLoop (λn s'=>∃g H',Inv X pins g H' s'/\W n g H') ?_ C ⟨σ,H,I,y⟩);rintro n z ⟨d,H1,B,u⟩;refine cQd r (thn (E pins z d H1 _ B (e n d H1 u)) λb s2 ⟨H2,I2,j⟩=>?_);cases b with
 |true=>
  obtain⟨N,t,j⟩:=j;rw[if_pos rfl];refine cQd r (thn (x pins s2 d H2 _ I2 j) λf F k=>?_);cases f with
  |next=>obtain⟨a,i,p,l⟩:=k;obtain⟨m,o,q⟩:=t a i l;exact⟨m,o,a,i,p,q⟩
  |cont=>obtain⟨a,i,p,l⟩:=k;obtain⟨m,o,q⟩:=t a i l;exact⟨m,o,a,i,p,q⟩
  |brk=>exact k
  |ret v=>exact k
 |false=>rw[if_neg Bool.false_ne_true];exact cXv ⟨d,H2,I2,j⟩
end
structure It where
 go:Nat->Hp->Prop
 yld:Nat->Hp->V->Hp->Prop
 stop:Nat->Hp->Prop
def bQZ(X:Cx)(pins:List (Addr×Obj))(H:Hp)(b:Addr):Prop:=
 H b=none/\b≠X.env.locals/\b∉X.fs/\(b∈X.ex\/X.s₀.heap.objs.size<=b)/\(∀x c,X.env.cells.lookup x=some c->c≠b)/\∀p∈X.pn++pins,p.1≠b
theorem Inv.fpOk{X:Cx}{pins:List (Addr×Obj)}{σ:St}{H H':Hp}{s:bWJ}{b:Addr}(I:Inv X pins σ H s)(a:s.heap.objs.size<=b)(d:H' b=none):bQZ X pins H' b:=by
 refine⟨d,bY7 (bW6 I.lt a),I.nofs a,.inr (bKh I.sz a),λx c e z=>?_,λp f z=>?_⟩
 ·obtain⟨v,q⟩:=I.cell x c e;exact absurd (bW6 q.lt (by rw[z];exact a)) (bKN _)
 ·exact absurd (bW6 (bWT (I.pin p f).1) (by rw[z];exact a)) (bKN _)
structure bJi(P:bW3)(w:bKa)(K:bWI)(tg:Expr)(J:It)(fp:List Addr)(it:Addr)(tn:Nat->Heap->Prop):Prop where
 mem:it∈fp
 obj:∀i h,tn i h->∀b∈fp,∃o,h.get? b=some o/\∀v,o.data≠ .cell v
 keep:∀i h h',tn i h->(∀b∈fp,∀o,h.get? b=some o->h'.get? b=some o)->tn i h'
 item:∀ (X:Cx),X.prog=P->X.w=w->X.K=K->X.calm=true->∀ (i:Nat)(pins:List (Addr×Obj))(s:bWJ)(σ:St)(H:Hp)(E:bWG->bWJ->Prop),Inv X pins σ H s->(∀b∈fp,bQZ X pins H b)->tn i s.heap->J.go i H->
  bWO (bWQ P w) X.A (cQH (.ref it)) (λr s1=>∃u,r=some u/\
   bWO (bWQ P w) X.A (cXu tg (.ref it) u) (λ_ s2=>∃x H',Inv X pins σ H' s2/\xZ x u/\J.yld i H x H'/\tn (i+1) s2.heap/\∀b∈fp,H' b=none) E s1) E s
 done:∀ (X:Cx),X.prog=P->X.w=w->X.K=K->X.calm=true->∀ (i:Nat)(pins:List (Addr×Obj))(s:bWJ)(σ:St)(H:Hp)(E:bWG->bWJ->Prop),Inv X pins σ H s->(∀b∈fp,bQZ X pins H b)->tn i s.heap->J.stop i H->
  bWO (bWQ P w) X.A (cQH (.ref it)) (λr s1=>r=none/\Inv X pins σ H s1) E s
 self:∀ (A:bKk)(i:Nat)(s:bWJ)(Q:bWG->bWJ->Prop)(E:bWG->bWJ->Prop),tn i s.heap->Q (.ref it) s->bWO (bWQ P w) A (pyIter (.ref it)) Q E s
abbrev TI:=St->Hp->(It->Hp->Prop)->Prop
def PIE(X:Cx)(pins:List (Addr×Obj))(σ:St)(tg:Expr)(R:It->Hp->Prop)(a:bWG)(c:bWJ):Prop:=
 ∃ (d:Addr)(e:List Addr)(tn:Nat->Heap->Prop)(J:It)(H':Hp),a= .ref d/\Inv X pins σ H' c/\bJi X.prog X.w X.K tg J e d tn/\tn 0 c.heap/\(∀b∈e,bQZ X pins H' b)/\R J H'
def PI(X:Cx)(tg a:Expr)(c:TI):Prop:=
 ∀ (pins:List (Addr×Obj))(s:bWJ)(σ:St)(H:Hp)(R:It->Hp->Prop),Inv X pins σ H s->c σ H R->
  bWO (bWQ X.prog X.w) X.A (eval a X.env) (λv b=>bWO (bWQ X.prog X.w) X.A (pyIter v) (PIE X pins σ tg R) X.xe b) X.xe s
theorem bXW{M:Model}{A:bKk}{E:bWG->bWJ->Prop}{s:bWJ}{tg:Expr}{it:Addr}{u:bWG}{o:Obj}{n:String}{vs:Array bWG}{Q:Unit->bWJ->Prop}(d:s.heap.get? it=some o)(e:o.cls= .type n)(c:o.data= .fields vs) (b: ["enumerate","zip","dict_itemiterator","dict_reverseitemiterator","odict_iterator","itertools.zip_longest","itertools.pairwise"].contains n=false) (a:Q () s):bWO M A (cXu tg (.ref it) u) Q E s:=by
 unfold cXu;cases tg<;> first
  |exact bWM a
  |(cases u<;> first
    |exact bWM a
    |(refine bWH (wpAny_load d ?_)
      rw[e,c]
      show bWO M A (if(["enumerate","zip","dict_itemiterator","dict_reverseitemiterator","odict_iterator","itertools.zip_longest","itertools.pairwise"].contains n && vs[0]? ==some (bKZ _))=true then _ else _) Q E s
      rw[if_neg (by intro h;rw[b,Bool.false_and]at h;cases h)]
      exact bWM a))
def Itl(K:bWI)(a:Addr):It:=
 ⟨λi H=>∃xs x,SqL K H a xs/\xs[i]? =some x,λi H x H'=>H'=H/\∀xs,SqL K H a xs->xs[i]? =some x,λi H=>∃xs,SqL K H a xs/\xs.length<=i⟩
def Itr(lo:Int)(n:Nat):It:=⟨λi _=>i<n,λi H x H'=>H'=H/\x= .int (lo+i),λi _=>n<=i⟩
theorem aK6{P:bW3}{w:bKa}{K:bWI}{tg:Expr}(a it:Addr):bJi P w K tg (Itl K a) [it] it (λi h=>h.IsListIter it a i) where
 mem:=by simp
 obj:=λi h st b hb=>by
  have e:b=it:=by simpa using hb
  subst e
  obtain⟨o,e,c,d⟩:=st
  exact⟨o,e,λv z=>by rw[d]at z;cases z⟩
 keep:=λi h h' st k=>st.at λo e=>k it (by simp) o e
 item:=by
  intro X hP hw hK hc i pins s σ H E I hf st hg
  subst hP hw hK
  obtain⟨xs,x,hq,hx⟩:=hg
  obtain⟨its,rv,p,hz⟩:=I.list hq
  obtain⟨u,hu,ru⟩:=rv.get hx
  obtain⟨f0,f1,f2,f3,f4,f5⟩:=hf it (by simp)
  refine wpAny_pyNext_list_item st p.isList (x:=u) (by simpa using hu) λh' st' sb=>?_
  have I1:Inv X pins σ H {s with heap:=h'}:=I.turned (t':=s.toks) (λb o hb e=>(sb.2 b hb).trans e) f0 f1 f3 f4 f5
  obtain⟨o,e,c,d⟩:=id st'
  exact⟨u,rfl,bXW (s:={s with heap:=h'}) e c d (by decide) ⟨x,H,I1,ru,⟨rfl,λys hy=>by rw[I.list_inj hy hq];exact hx⟩,st',λb hb=>(hf b hb).1⟩⟩
 done:=by
  intro X hP hw hK hc i pins s σ H E I hf st hg
  subst hP hw hK
  obtain⟨xs,hq,hx⟩:=hg
  obtain⟨its,rv,p,hz⟩:=I.list hq
  obtain⟨f0,f1,f2,f3,f4,f5⟩:=hf it (by simp)
  have hl:=rv.length
  exact wpAny_pyNext_list_end (I.ok.hd hc) st p.isList (by simp;omega) λh' eb=>⟨rfl,I.turned (t':=s.toks) (λb o hb e=>eb b o hb e) f0 f1 f3 f4 f5⟩
 self:=λ_ _ _ _ _ st h=>wpAny_pyIter_listiter st h
theorem aVP{P:bW3}{w:bKa}{K:bWI}{tg:Expr}(it:Addr)(lo:Int)(n:Nat):bJi P w K tg (Itr lo n) [it] it (λi h=>IsRangeIter h it (lo+(i:Nat)*1) ((n:Int) - (i:Nat)) 1) where
 mem:=by simp
 obj:=λi h st b hb=>by
  have e:b=it:=by simpa using hb
  subst e
  exact⟨_,st,λv z=>by
   have z':Data.fields _=Data.cell v:=z
   cases z'⟩
 keep:=λi h h' st k=>k it (by simp) _ st
 item:=by
  intro X hP hw hK hc i pins s σ H E I hf st hg
  subst hP hw hK
  obtain⟨f0,f1,f2,f3,f4,f5⟩:=hf it (by simp)
  have W:=Walks.range (prog:=X.prog) (w:=X.w) (I.ok.hd hc) it lo 1 n
  refine W.item i s _ _ hg st λv h' tk hv st' kk=>?_
  obtain⟨t,rfl⟩:=hv
  have I1:Inv X pins σ H {s with heap:=h',toks:=tk}:=I.turned (λb o hb e=>kk b o (by simpa using hb) e) f0 f1 f3 f4 f5
  refine⟨_,rfl,bXW (s:={s with heap:=h',toks:=tk}) (n:="range_iterator") st' rfl rfl (by decide) ⟨.int (lo+i),H,I1,⟨t,?_⟩,⟨rfl,rfl⟩,st',λb hb=>(hf b hb).1⟩⟩
  rw[Int.mul_one]
 done:=by
  intro X hP hw hK hc i pins s σ H E I hf st hg
  subst hP hw hK
  obtain⟨f0,f1,f2,f3,f4,f5⟩:=hf it (by simp)
  exact wpAny_pyNext_range_end (I.ok.hd hc) st (by have:n<=i:=hg;omega) λh' eb=>⟨rfl,I.turned (t':=s.toks) (λb o hb e=>eb b o hb e) f0 f1 f3 f4 f5⟩
 self:=λ_ _ _ _ _ st h=>wpAny_pyIter_rangeiter st h
end L2
namespace L2
open PySem PySem.Spec PyProof.Rows
section
variable {X:Cx}{tg:Expr}
inductive bJr(K:bWI)(R:It->Hp->Prop)(x:V)(H1:Hp):Prop|mk (a) (_:x= .ref a) (_:(∃xs,SqL K H1 a xs)) (_:R (Itl K a) H1)
def bVI(K:bWI)(tl:TE):TI:=λσ H R=>tl σ H λx H1=>bJr K R x H1
theorem xB{l:Expr}{tl:TE}(hl:PE X l tl):PI X tg l (bVI X.K tl):=by
 intro pins s σ H R I h;refine thn (hl pins s σ H _ I h) λv s1 ⟨x,H1,I1,r1,q1⟩=>?_;obtain⟨a,e,⟨xs,d⟩,q⟩:=q1;subst e;cases r1;obtain⟨f,i,p,g⟩:=I1.list d;refine cXh p.isList ?_;refine⟨s1.heap.objs.size,[s1.heap.objs.size],_,_,H1,rfl,I1.kept (t':=s1.toks) λb o e=>bWL _ e,aK6 a _,⟨_,bW4 _ rfl,rfl,rfl⟩,λb c=>?_,q⟩;have e:b=s1.heap.objs.size:=by simpa using c
 subst e;exact I1.fpOk (bWN _) (I1.hok.fresh (bWN _))
theorem bQg{pins:List (Addr×Obj)}{σ:St}{H:Hp}{s:bWJ}{R:It->Hp->Prop}{E:bWG->bWJ->Prop}{lo hi:Int}{t u v:Tok}{tk:Nat}(I:Inv X pins σ H s)(h1: -(2 ^ 62)<=lo)(h2:lo<2 ^ 62)(f: -(2 ^ 62)<=hi)(g:hi<2 ^ 62) (q:R (Itr lo (hi - lo).toNat) H):bWO (bWQ X.prog X.w) X.A (pyIter (.ref s.heap.objs.size)) (PIE X pins σ tg R) E {s with heap:=s.heap.push {cls:= .type "range",data:= .fields #[.int lo t,.int hi u,.int 1 v] },toks:=tk}:=by
 refine wpAny_pyIter_range (IsRange.new ..) (small_one h1 h2 f g) ?_;have a:Inv X pins σ H {s with heap:=s.heap.push {cls:= .type "range",data:= .fields #[.int lo t,.int hi u,.int 1 v] },toks:=tk}:=I.kept λb o e=>bWL _ e;refine⟨(s.heap.push {cls:= .type "range",data:= .fields #[.int lo t,.int hi u,.int 1 v] }).objs.size,[(s.heap.push {cls:= .type "range",data:= .fields #[.int lo t,.int hi u,.int 1 v] }).objs.size],_,_,H,rfl,a.kept (t':=tk) λb o e=>bWL _ e,aVP _ lo (hi - lo).toNat,?_,λb c=>?_,q⟩
 ·have d:lo+((0:Nat):Int)*1=lo:=by simp
  have h:(((hi - lo).toNat:Nat):Int) - ((0:Nat):Int)=Builtin.Range.rangeSize lo hi 1:=by rw[rangeSize_one];split<;> omega
  show IsRangeIter _ _ (lo+((0:Nat):Int)*1) ((((hi - lo).toNat:Nat):Int) - ((0:Nat):Int)) 1;rw[d,h];exact bW4 _ rfl
 ·have e:b=(s.heap.push {cls:= .type "range",data:= .fields #[.int lo t,.int hi u,.int 1 v] }).objs.size:=by simpa using c
  subst e;exact a.fpOk (bWN _) (a.hok.fresh (bWN _))
inductive bJs(R:It->Hp->Prop)(vs:List V)(H1:Hp):Prop|mk (j:Int) (_:vs= [.int j]) (_: -(2 ^ 62)<=j) (_:j<2 ^ 62) (_:R (Itr 0 j.toNat) H1)
def bVJ(ta:TA):TI:=λσ H R=>ta σ H λa H1=>bJs R a H1
theorem zF{a:Expr}{ta:TA}{p pos:Pos}(f:Gl X "range")(k:X.mg "range"=none)(c:PA X [a] ta)(i:bKi [a] X.env= [(false,eval a X.env)]:=by rfl):PI X tg (.Call (.Name "range" p) [a] [] pos) (bVJ ta):=by
 intro pins s σ H R I h;refine Call_ (qR I f k boot_range (bY9 (thn (c pos pins s σ H _ I h) λus s1 ⟨vs,H1,I1,r1,b⟩=>?_) i rfl));obtain⟨j,e,b,d,q⟩:=b;subst e;cases r1 with
 |cons r g=>cases g;obtain⟨t,rfl⟩:=r;exact call_range_1 (bQg I1 (by omega) (by omega) b d (by simpa using q))
def bWA(d:TI)(g:TG)(tb:TS):TS:=λD σ H=>d σ H λJ H1=>∃W:Nat->Nat->St->Hp->Prop,(∃m,W 0 m σ H1)/\∀i m σ H,W i m σ H->
 (J.stop i H/\D.nx σ H)\/(J.go i H/\∃N:St->Hp->Prop,(∀a H',N a H'->∃c,c<m/\W (i+1) c a H')/\∀x H',J.yld i H x H'->g x σ H' λb H2=>tb {D with nx:=N,ct:=N,bk:=D.nx} b H2)
def aXH(a:List Addr)(h:Heap):List (Addr×Obj):=a.filterMap λb=>(h.get? b).map λo=>(b,o)
theorem vR{a:List Addr}{h:Heap}{b:Addr}{o:Obj}(c:b∈a)(e:h.get? b=some o):(b,o)∈aXH a h:=List.mem_filterMap.mpr ⟨b,c,by rw[e];rfl⟩
theorem aWO{a:List Addr}{h:Heap}{p:Addr×Obj}(f:p∈aXH a h):p.1∈a/\h.get? p.1=some p.2:=by
 obtain⟨b,c,e⟩:=List.mem_filterMap.mp f;cases q:h.get? b with
 |none=>rw[q]at e;cases e
 |some o=>rw[q]at e;have d:(b,o)=p:=bWX e;subst d;exact⟨c,q⟩
theorem Inv.pinned{pins:List (Addr×Obj)}{σ:St}{H:Hp}{s:bWJ}{a:List Addr}(I:Inv X pins σ H s)(j:∀b∈a,bQZ X pins H b)(l:∀b∈a,∃o,s.heap.get? b=some o/\∀v,o.data≠ .cell v):Inv X (pins++aXH a s.heap) σ H s:=
 I.pins_of λp h=>(bKn.mp h).elim (λz=>I.pin p (bW5 _ z)) λz=>by obtain⟨c,e⟩:=aWO z;obtain⟨i,g,k,_⟩:=j p.1 c;obtain⟨o,f,d⟩:=l p.1 c;rw[e]at f;cases f;exact⟨e,i,g,k,d⟩
theorem Inv.unpinned{pins pl:List (Addr×Obj)}{σ:St}{H:Hp}{s:bWJ}(I:Inv X (pins++pl) σ H s):Inv X pins σ H s:=I.pins_of λp a=>I.pin p (bW5 _ (bYO _ a))
theorem zK{t:Expr}{body:List Stmt}{S:TI}{g:TG}{tb:TS}{pos:Pos}(F:PassesOwn (bWQ X.prog X.w) X.A X.env X.xe)(U:X.calm=true)(hi:PI X tg t S)(hg:PG X tg g)(q:PSs X body tb) (hs:∀x,cXW t X.env x=pure x:=by intro _;rfl):PS X (.For tg t body [] pos) (bWA S g tb):=by
 intro pins s σ H D I h;refine wpAny_For (thn (hi pins s σ H _ I h) λv s1 h1=>thn h1 λa0 s2 h2=>?_) hs;obtain⟨it,B,tn,J,H2,e,I2,T,P,Y,W,⟨m0,w0⟩,G⟩:=h2;subst e;have c:∀ {H':Hp},(∀b∈B,H' b=none)->∀b∈B,bQZ X pins H' b:=λZ b q=>⟨Z b q,(Y b q).2⟩;refine codeAny_forLoop_any (λn s'=>∃i j H',Inv X pins j H' s'/\tn i s'.heap/\(∀b∈B,H' b=none)/\W i n j H') ?_ m0 ⟨0,σ,H2,I2,P,λb q=>(Y b q).1,w0⟩;rintro n V ⟨i,p,M,R,K,L,w3⟩;rcases G i n p M w3 with⟨C,qn⟩|⟨go,N,hN,step⟩
 ·refine cQd F (thn (T.done X rfl rfl rfl U i pins V p M X.xe R (c L) K C) λr s4 ⟨hr,I4⟩=>?_);subst hr;exact cXv ⟨p,M,I4,qn⟩
 ·refine cQd F (thn (T.item X rfl rfl rfl U i pins V p M X.xe R (c L) K go) λr s4 ⟨u,hr,h4⟩=>?_);subst hr;refine cQd F (thn h4 λ_ s5 ⟨x,H5,I5,r5,y5,st5,fr5⟩=>?_);have O:=I5.pinned (c fr5) (T.obj _ _ st5);refine cQd F (thn (hg _ s5 p H5 x u _ O r5 (step x H5 y5)) λ_ s6 ⟨σ6,H6,I6,q6⟩=>?_);refine cQd F (thn (q _ s6 σ6 H6 _ I6 q6) λf Q z=>?_);have l:∀ {a:St} {k:Hp},Inv X (pins++aXH B s5.heap) a k Q->N a k->∃m,m<n/\∃i j H',Inv X pins j H' Q/\tn i Q.heap/\(∀b∈B,H' b=none)/\W i m j H':=λ{a k} y E=>by
   obtain⟨m',hm,w7⟩:=hN a k E;refine⟨m',hm,i+1,a,k,y.unpinned,T.keep _ _ _ st5 λb q o e=>(y.pin (b,o) (bW5 _ (bW5 _ (vR q e)))).1,λb q=>?_,w7⟩;obtain⟨o,e,d⟩:=T.obj _ _ st5 b q;exact(y.pin (b,o) (bW5 _ (bW5 _ (vR q e)))).2.1
  cases f with
  |next=>obtain⟨a,k,y,E⟩:=z;exact l y E
  |cont=>obtain⟨a,k,y,E⟩:=z;exact l y E
  |brk=>obtain⟨a,k,y,z⟩:=z;exact⟨a,k,y.unpinned,z⟩
  |ret v=>obtain⟨x7,a,k,y,r7,z⟩:=z;exact⟨x7,a,k,y.unpinned,r7,z⟩
end
theorem zP{K:bWI}{a:Addr}{xs:List V}{g:TG}{tb:TS}{D:aJH}{σ:St}{H:Hp}(b:Nat->St->Hp->Prop)(h0:b 0 σ H)(hl:∀i σ H,i<=xs.length->b i σ H->SqL K H a xs) (j:∀i x σ H,xs[i]? =some x->b i σ H->g x σ H λd H2=>tb {D with nx:=b (i+1),ct:=b (i+1),bk:=D.nx} d H2) (k:∀σ H,b xs.length σ H->D.nx σ H): ∃W:Nat->Nat->St->Hp->Prop,(∃m,W 0 m σ H)/\∀i m σ H,W i m σ H-> ((Itl K a).stop i H/\D.nx σ H)\/((Itl K a).go i H/\∃N:St->Hp->Prop,(∀c H',N c H'->∃h,h<m/\W (i+1) h c H')/\∀x H',(Itl K a).yld i H x H'->g x σ H' λd H2=>tb {D with nx:=N,ct:=N,bk:=D.nx} d H2):=by
 refine⟨λi m σ H=>m=xs.length - i/\i<=xs.length/\b i σ H,⟨xs.length,by simp,bKt _,h0⟩,?_⟩;rintro i m σ H ⟨rfl,hi,p⟩;have q:=hl i σ H hi p;by_cases f:i<xs.length
 ·refine .inr ⟨⟨xs,xs[i],q,by simp[f]⟩,b (i+1),λc H' l=>⟨xs.length - (i+1),by omega,rfl,f,l⟩,λx H' y=>?_⟩;obtain⟨e,y⟩:=y;subst e;exact j i x σ _ (y xs q) p
 ·have e:i=xs.length:=by omega
  subst e;exact .inl ⟨⟨xs,q,bWN _⟩,k σ H p⟩
theorem z9{lo:Int}{n:Nat}{g:TG}{tb:TS}{D:aJH}{σ:St}{H:Hp}(a:Nat->St->Hp->Prop)(h0:a 0 σ H) (h:∀i σ H,i<n->a i σ H->g (.int (lo+i)) σ H λd H2=>tb {D with nx:=a (i+1),ct:=a (i+1),bk:=D.nx} d H2) (j:∀σ H,a n σ H->D.nx σ H): ∃W:Nat->Nat->St->Hp->Prop,(∃m,W 0 m σ H)/\∀i m σ H,W i m σ H-> ((Itr lo n).stop i H/\D.nx σ H)\/((Itr lo n).go i H/\∃N:St->Hp->Prop,(∀c H',N c H'->∃f,f<m/\W (i+1) f c H')/\∀x H',(Itr lo n).yld i H x H'->g x σ H' λd H2=>tb {D with nx:=N,ct:=N,bk:=D.nx} d H2):=by
 refine⟨λi m σ H=>m=n - i/\i<=n/\a i σ H,⟨n,by simp,bKt _,h0⟩,?_⟩;rintro i m σ H ⟨rfl,hi,p⟩;by_cases b:i<n
 ·refine .inr ⟨b,a (i+1),λc H' k=>⟨n - (i+1),by omega,rfl,b,k⟩,λx H' y=>?_⟩;obtain⟨e,y⟩:=y;subst e y;exact h i σ _ b p
 ·have e:i=n:=by omega
  subst e;exact .inl ⟨bWN _,j σ H p⟩
end L2
namespace L2
open PySem PySem.Spec PyProof.Rows
abbrev R2:=V->V->Hp->VK->Prop
def OpR(X:Cx)(f:bWG->bWG->Sem bWG)(r:R2):Prop:=
 ∀ (pins:List (Addr×Obj))(s:bWJ)(σ:St)(H:Hp)(x y:V)(v u:bWG)(Q:VK),Inv X pins σ H s->xZ x v->xZ y u->r x y H Q->
  bWO (bWQ X.prog X.w) X.A (f v u) (EP X pins σ Q) X.xe s
def uY(X:Cx)(f:bWG)(r:List V->Hp->VK->Prop):Prop:=
 ∀ (pins:List (Addr×Obj))(s:bWJ)(σ:St)(H:Hp)(xs:List V)(a:List bWG)(Q:VK),Inv X pins σ H s->xK xs a->r xs H Q->
  bWO (bWQ X.prog X.w) X.A (call f a) (EP X pins σ Q) X.xe s
def tOp(r:R2)(ta tb:TE):TE:=λσ H Q=>ta σ H λx H1=>tb σ H1 λy H2=>r x y H2 Q
inductive rI(C:Int->Int->Prop)(g:Int->Int->V)(x:V)(y:V)(H:Hp)(Q:VK):Prop|mk (i j) (_:x= .int i) (_:y= .int j) (_:C i j) (_:Q (g i j) H)
inductive rI0(g:Int->Int->V)(x:V)(y:V)(H:Hp)(Q:VK):Prop|mk (i j) (_:x= .int i) (_:y= .int j) (_:Q (g i j) H)
section
variable {X:Cx}{a b c:Expr}{ta tb tc:TE}{pos:Pos}
theorem bVD(i:PE X a ta)(g:PE X b tb){pins:List (Addr×Obj)}{s:bWJ}{σ:St}{H:Hp}{R:V->V->Hp->Prop}(I:Inv X pins σ H s) (h:ta σ H λx H1=>tb σ H1 λy H2=>R x y H2) {Q:bWG->bWJ->Prop} {f:bWG->bWG->Sem bWG} (j:∀v u e x y H2,Inv X pins σ H2 e->xZ x v->xZ y u->R x y H2->bWO (bWQ X.prog X.w) X.A (f v u) Q X.xe e): bWO (bWQ X.prog X.w) X.A (eval a X.env) (λv c=>bWO (bWQ X.prog X.w) X.A (eval b X.env) (λu d=>bWO (bWQ X.prog X.w) X.A (f v u) Q X.xe d) X.xe c) X.xe s:=by
 refine thn (i pins s σ H _ I h) λv s1 ⟨x,H1,I1,r1,q1⟩=>?_;refine thn (g pins s1 σ H1 _ I1 q1) λu e ⟨y,H2,I2,r2,q2⟩=>?_;exact j v u e x y H2 I2 r1 r2 q2
theorem y2{c:Operator}{r:R2}(k:OpR X (binaryOp c) r)(e:PE X a ta)(d:PE X b tb):PE X (.BinOp a c b pos) (tOp r ta tb):=by
 intro pins s σ H Q I h;exact wpAny_BinOp (bVD e d I h λv u f x y H2 g i j q=>k pins f σ H2 x y v u Q g i j q)
theorem opI{f:bWG->bWG->Sem bWG}{C:Int->Int->Prop}{g:Int->Int->Int} (a:∀ (i j:Int)(t u:Tok)(s:bWJ)(Q:bWG->bWJ->Prop)(E:bWG->bWJ->Prop),C i j->Q (.int (g i j) s.toks) {s with toks:=s.toks+1}->bWO (bWQ X.prog X.w) X.A (f (.int i t) (.int j u)) Q E s): OpR X f (rI C λi j=> .int (g i j)):=by
 intro pins s σ H x y v u Q I b c h;obtain⟨i,j,rfl,rfl,e,q⟩:=h;obtain⟨t,rfl⟩:=b;obtain⟨d,rfl⟩:=c;exact a i j t d s _ _ e ⟨.int (g i j),H,I.tok _,⟨_,rfl⟩,q⟩
theorem bWa{f:bWG->bWG->Sem bWG}{g:Int->Int->Int} (a:∀ (i j:Int)(t u:Tok)(s:bWJ)(Q:bWG->bWJ->Prop)(E:bWG->bWJ->Prop),Q (.int (g i j) s.toks) {s with toks:=s.toks+1}->bWO (bWQ X.prog X.w) X.A (f (.int i t) (.int j u)) Q E s): OpR X f (rI0 λi j=> .int (g i j)):=by
 intro pins s σ H x y v u Q I b c h;obtain⟨i,j,rfl,rfl,q⟩:=h;obtain⟨t,rfl⟩:=b;obtain⟨d,rfl⟩:=c;exact a i j t d s _ _ ⟨.int (g i j),H,I.tok _,⟨_,rfl⟩,q⟩
theorem bVt{f:bWG->bWG->Sem bWG}{g:Int->Int->Bool} (a:∀ (i j:Int)(t u:Tok)(s:bWJ)(Q:bWG->bWJ->Prop)(E:bWG->bWJ->Prop),Q (.bool (g i j)) s->bWO (bWQ X.prog X.w) X.A (f (.int i t) (.int j u)) Q E s): OpR X f (rI0 λi j=> .bl (g i j)):=by
 intro pins s σ H x y v u Q I b c h;obtain⟨i,j,rfl,rfl,q⟩:=h;obtain⟨t,rfl⟩:=b;obtain⟨d,rfl⟩:=c;exact a i j t d s _ _ ⟨.bl (g i j),H,I,rfl,q⟩
def bWk(i j:Int):Prop:=0<j/\j<1073741824
def bVw(i j:Int):Prop:=(-(2 ^ 64)<i/\i<2 ^ 64)\/(-(2 ^ 64)<j/\j<2 ^ 64)
theorem bVw.ok{i j:Int}(h:bVw i j):IntMulOk i j:=by
 rcases h with⟨h1,h2⟩|⟨h1,h2⟩
 ·exact .of_left (intBits_le_64 h1 h2)
 ·exact .of_right (intBits_le_64 h1 h2)
theorem wB:OpR X (binaryOp .Add) (rI0 λi j=> .int (i+j)):=bWa λ_ _ _ _ _ _ _ q=>add_int q
theorem Q7:OpR X (binaryOp .Sub) (rI0 λi j=> .int (i - j)):=bWa λ_ _ _ _ _ _ _ q=>sub_int q
theorem bXg:OpR X (binaryOp .Mult) (rI bVw λi j=> .int (i*j)):=opI λ_ _ _ _ _ _ _ a q=>mul_int q a.ok
theorem jB:OpR X (binaryOp .FloorDiv) (rI bWk λi j=> .int (i / j)):=opI λi j _ _ _ _ _ a q=>by
 have h1:(0:Int)<j:=a.1;have h2:j<1073741824:=a.2;exact floordiv_int (by omega) (by rw[Int.fdiv_eq_ediv_of_nonneg i (by omega)];exact q) (.inl (PyProof.noPylong_small (by omega)))
theorem zJ:OpR X (binaryOp .Mod) (rI (λ_ j=>0<j) λi j=> .int (i % j)):=opI λi j _ _ _ _ _ a q=>by
 have h1:(0:Int)<j:=a;exact mod_int' (by omega) (by rw[Int.fmod_eq_emod_of_nonneg i (by omega)];exact q)
end
def bWe:V->V->Bool
 |.non,.non=>true|.non,.int _=>true|.int _,.non=>true|.non,.bl _=>true|.bl _,.non=>true|.non,.str _=>true|.str _,.non=>true
 |.int _,.int _=>true|.bl _,.bl _=>true|.str _,.str _=>true|.byt _,.byt _=>true
 |.int _,.str _=>true|.str _,.int _=>true|.bl _,.str _=>true|.str _,.bl _=>true
 |_,_=>false
inductive rEq(x:V)(y:V)(H:Hp)(Q:VK):Prop|mk (_:bWe x y=true) (_:Q (.bl (decide (x=y))) H)
inductive rNe(x:V)(y:V)(H:Hp)(Q:VK):Prop|mk (_:bWe x y=true) (_:Q (.bl (!decide (x=y))) H)
theorem aV9{i j:Int}:decide (V.int i=V.int j)=(i==j):=by
 rw[Bool.eq_iff_iff];simp
theorem bQ3{i j:Bool}:decide (V.bl i=V.bl j)=(i==j):=by
 rw[Bool.eq_iff_iff];simp
theorem aWa{i j:Str}:decide (V.str i=V.str j)=(i==j):=by
 rw[Bool.eq_iff_iff];simp
theorem aV8{i j:Array UInt8}:decide (V.byt i=V.byt j)=(i.toList==j.toList):=by
 rw[Bool.eq_iff_iff];cases i;cases j;simp
section
variable {X:Cx}{a b c:Expr}{ta tb tc:TE}{pos:Pos}
theorem xC{pins:List (Addr×Obj)}{σ:St}{H:Hp}{s:bWJ}{Q:VK}{k a:Bool}(I:Inv X pins σ H s)(q:Q (.bl k) H)(e:k=a):EP X pins σ Q (.bool a) s:=by
 subst e;exact⟨.bl k,H,I,rfl,q⟩
theorem aQy:OpR X (bYd .Eq) rEq:=by
 intro pins s σ H x y v u Q I d a h;obtain⟨c,q⟩:=h;cases x with
 |non=>
  cases d;cases y with
  |non=>cases a;exact PySem.EqNone.eq_none_none (xC I q (by simp))
  |bl j=>cases a;exact PySem.EqNone.eq_none_bool (xC I q (by simp))
  |int j=>obtain⟨b,rfl⟩:=a;exact PySem.EqNone.eq_none_int (xC I q (by simp))
  |str j=>obtain⟨b,rfl⟩:=a;exact PySem.EqNone.eq_none_str (xC I q (by simp))
  |_=>exact absurd (show false=true from c) Bool.false_ne_true
 |bl i=>
  cases d;cases y with
  |non=>cases a;exact PySem.EqNone.eq_bool_none (xC I q (by simp))
  |bl j=>cases a;exact eq_bool (xC I q bQ3)
  |str j=>obtain⟨b,rfl⟩:=a;exact PySem.EqMixed.eq_bool_str (xC I q (by simp))
  |_=>exact absurd (show false=true from c) Bool.false_ne_true
 |int i=>
  obtain⟨t,rfl⟩:=d;cases y with
  |non=>cases a;exact PySem.EqNone.eq_int_none (xC I q (by simp))
  |int j=>obtain⟨b,rfl⟩:=a;exact eq_int (xC I q aV9)
  |str j=>obtain⟨b,rfl⟩:=a;exact PySem.EqMixed.eq_int_str (xC I q (by simp))
  |_=>exact absurd (show false=true from c) Bool.false_ne_true
 |str i=>
  obtain⟨t,rfl⟩:=d;cases y with
  |non=>cases a;exact PySem.EqNone.eq_str_none (xC I q (by simp))
  |bl j=>cases a;exact PySem.EqMixed.eq_str_bool (xC I q (by simp))
  |int j=>obtain⟨b,rfl⟩:=a;exact PySem.EqMixed.eq_str_int (xC I q (by simp))
  |str j=>obtain⟨b,rfl⟩:=a;exact eq_str (xC I q aWa)
  |_=>exact absurd (show false=true from c) Bool.false_ne_true
 |byt i=>
  obtain⟨t,rfl⟩:=d;cases y with
  |byt j=>obtain⟨b,rfl⟩:=a;exact PySem.W.eq_bytes (xC I q aV8)
  |_=>exact absurd (show false=true from c) Bool.false_ne_true
 |_=>cases y<;> exact absurd (show false=true from c) Bool.false_ne_true
theorem bJJ:OpR X (bYd .NotEq) rNe:=by
 intro pins s σ H x y v u Q I d a h;obtain⟨c,q⟩:=h;cases x with
 |non=>
  cases d;cases y with
  |non=>cases a;exact PySem.EqNone.ne_none_none (xC I q (by simp))
  |bl j=>cases a;exact PySem.EqNone.ne_none_bool (xC I q (by simp))
  |int j=>obtain⟨b,rfl⟩:=a;exact PySem.EqNone.ne_none_int (xC I q (by simp))
  |str j=>obtain⟨b,rfl⟩:=a;exact PySem.EqNone.ne_none_str (xC I q (by simp))
  |_=>exact absurd (show false=true from c) Bool.false_ne_true
 |bl i=>
  cases d;cases y with
  |non=>cases a;exact PySem.EqNone.ne_bool_none (xC I q (by simp))
  |bl j=>cases a;exact ne_bool (xC I q (congrArg not bQ3))
  |str j=>obtain⟨b,rfl⟩:=a;exact PySem.EqMixed.ne_bool_str (xC I q (by simp))
  |_=>exact absurd (show false=true from c) Bool.false_ne_true
 |int i=>
  obtain⟨t,rfl⟩:=d;cases y with
  |non=>cases a;exact PySem.EqNone.ne_int_none (xC I q (by simp))
  |int j=>obtain⟨b,rfl⟩:=a;exact ne_int (xC I q (congrArg not aV9))
  |str j=>obtain⟨b,rfl⟩:=a;exact PySem.EqMixed.ne_int_str (xC I q (by simp))
  |_=>exact absurd (show false=true from c) Bool.false_ne_true
 |str i=>
  obtain⟨t,rfl⟩:=d;cases y with
  |non=>cases a;exact PySem.EqNone.ne_str_none (xC I q (by simp))
  |bl j=>cases a;exact PySem.EqMixed.ne_str_bool (xC I q (by simp))
  |int j=>obtain⟨b,rfl⟩:=a;exact PySem.EqMixed.ne_str_int (xC I q (by simp))
  |str j=>obtain⟨b,rfl⟩:=a;exact ne_str (xC I q (congrArg not aWa))
  |_=>exact absurd (show false=true from c) Bool.false_ne_true
 |byt i=>
  obtain⟨t,rfl⟩:=d;cases y with
  |byt j=>obtain⟨b,rfl⟩:=a;exact PySem.W.ne_bytes (xC I q (congrArg not aV8))
  |_=>exact absurd (show false=true from c) Bool.false_ne_true
 |_=>cases y<;> exact absurd (show false=true from c) Bool.false_ne_true
theorem qY:OpR X (bYd .Lt) (rI0 λi j=> .bl (decide (i<j))):=bVt λ_ _ _ _ _ _ _ q=>lt_int q
theorem bZs:OpR X (bYd .LtE) (rI0 λi j=> .bl (decide (i<=j))):=bVt λ_ _ _ _ _ _ _ q=>le_int q
theorem aZu:OpR X (bYd .Gt) (rI0 λi j=> .bl (decide (j<i))):=bVt λ_ _ _ _ _ _ _ q=>gt_int q
theorem bVL:OpR X (bYd .GtE) (rI0 λi j=> .bl (decide (j<=i))):=bVt λ_ _ _ _ _ _ _ q=>ge_int q
theorem bXf:OpR X (bYd .Is) (λx y H Q=>y= .non/\Q (.bl (decide (x= .non))) H):=by
 intro pins s σ H x y v u Q I a b h;obtain⟨rfl,q⟩:=h;cases b;refine is_none_gen (xC I q ?_);cases x<;> first
  |(cases a;rfl)
  |(obtain⟨t,rfl⟩:=a;rfl)
theorem v6:OpR X (bYd .IsNot) (λx y H Q=>y= .non/\Q (.bl (!decide (x= .non))) H):=by
 intro pins s σ H x y v u Q I a b h;obtain⟨rfl,q⟩:=h;cases b;refine isnot_none_gen (xC I q ?_);cases x<;> first
  |(cases a;rfl)
  |(obtain⟨t,rfl⟩:=a;rfl)
theorem bXd(b:Expr){a:CmpOp}(h:a≠ .In:=by decide)(h2:a≠ .NotIn:=by decide):cQt a b=false:=by
 have d:(a==CmpOp.In)=false:=by cases a<;> first|rfl|exact absurd rfl h
 have c:(a==CmpOp.NotIn)=false:=by cases a<;> first|rfl|exact absurd rfl h2
 cases b<;> simp[cQt,d,c]
theorem wI{c:CmpOp}{r:R2}(l:OpR X (bYd c) r)(e:PE X a ta)(d:PE X b tb)(j:cQt c b=false:=by first|exact bXd _|with_unfolding_all rfl):PE X (.Compare a [c] [b] pos) (tOp r ta tb):=by
 intro pins s σ H Q I h;exact wpAny_Compare1 (bVD e d I h λv u f x y H2 g i k q=>l pins f σ H2 x y v u Q g i k q) j
inductive bVk(Q:Bool->Hp->Prop)(x:V)(H':Hp):Prop|mk (k) (_:x= .bl k) (_:Q k H')
def bVj(t:TE):TT:=λσ H Q=>t σ H λx H'=>bVk Q x H'
theorem yU{d:CmpOp}{r:R2}(j:OpR X (bYd d) r)(i:PE X a ta)(g:PE X b tb)(f:cQt d b=false:=by first|exact bXd _|with_unfolding_all rfl):PT X (.Compare a [d] [b] pos) (bVj (tOp r ta tb)):=by
 intro pins s σ H Q I h;refine wpAny_isTrue_Compare1 (thn (i pins s σ H _ I h) λv s1 ⟨x,H1,I1,r1,q1⟩=>thn (g pins s1 σ H1 _ I1 q1) λu s2 ⟨y,H2,I2,r2,q2⟩=>
  thn (j pins s2 σ H2 x y v u _ I2 r1 r2 q2) λc s3 ⟨z,H3,I3,r3,k,e,q3⟩=>?_) f
 subst e;cases r3;exact bYW ⟨H3,I3,q3⟩
inductive bZ0(r':R2)(tc:TE)(σ:St)(Q:VK)(y:V)(z:V)(H3:Hp):Prop|mk (k) (_:z= .bl k) (_:(if k=true then tc σ H3 λw' H4=>r' y w' H4 Q else Q (.bl false) H3))
def bVe(r b:R2)(ta tb tc:TE):TE:=λσ H Q=>ta σ H λx H1=>tb σ H1 λy H2=>r x y H2 λz a=>bZ0 b tc σ Q y z a
theorem bQd{g f:CmpOp}{r j:R2}(q:OpR X (bYd g) r)(i:OpR X (bYd f) j)(m:PE X a ta)(l:PE X b tb)(t:PE X c tc) (p:lastMarks [g,f] [b,c]=false:=by with_unfolding_all rfl):PT X (.Compare a [g,f] [b,c] pos) (bVj (bVe r j ta tb tc)):=by
 intro pins s σ H Q I h;refine isTrue_chain (thn (m pins s σ H _ I h) λv s1 ⟨x,H1,I1,r1,q1⟩=>test_link (thn (l pins s1 σ H1 _ I1 q1) λu s2 ⟨y,H2,I2,r2,q2⟩=>
  thn (q pins s2 σ H2 x y v u _ I2 r1 r2 q2) λd s3 ⟨z,H3,I3,r3,k,e,q3⟩=>?_)) p
 subst e;cases r3;refine bYW ?_;cases k with
 |false=>obtain⟨w,o,n⟩:=q3;cases o;exact ite_ff ⟨H3,I3,n⟩
 |true=>refine ite_tt (test_last (thn (t pins s3 σ H3 _ I3 q3) λw' s4 ⟨z',H4,I4,r4,q4⟩=>thn (i pins s4 σ H4 y z' u w' _ I4 r2 r4 q4) λd' s5 ⟨z2,H5,I5,r5,k2,e2,q5⟩=>?_));subst e2;cases r5;exact bYW ⟨H5,I5,q5⟩
theorem aJb:(bKb:Nat)<2 ^ 63:=by rw[bKg];decide
theorem jU{x:V}{us:List bWG}(r:xK [x] us):∃u,us= [u]/\xZ x u:=by
 cases r with
 |cons b a=>cases a;exact⟨_,rfl,b⟩
theorem bV7{x y:V}{us:List bWG}(r:xK [x,y] us):∃u a,us= [u,a]/\xZ x u/\xZ y a:=by
 cases r with
 |cons e c=>
  cases c with
  |cons d b=>cases b;exact⟨_,_,rfl,e,d⟩
inductive aJN(xs:List V)(H:Hp)(Q:VK):Prop|mk (i j) (_:xs= [.int i,.int j]) (_:Q (.int (if j<i then j else i)) H)
theorem aV1(b:X.calm=true):uY X (.builtin "min") aJN:=by
 intro pins s σ H xs d Q I r h;obtain⟨i,j,rfl,q⟩:=h;obtain⟨u,c,rfl,⟨t,rfl⟩,⟨e,rfl⟩⟩:=bV7 r;refine min_two_ints (I.ok.hd b) λh' tk k=>⟨_,H,I.kept k,?_,q⟩;by_cases a:j<i
 ·rw[if_pos a,if_pos a];exact⟨_,rfl⟩
 ·rw[if_neg a,if_neg a];exact⟨_,rfl⟩
theorem aVZ:uY X (.type "int") (λxs H Q=>(∃i,xs= [.int i]/\Q (.int i) H)\/∃k,xs= [.bl k]/\Q (.int (if k then 1 else 0)) H):=by
 intro pins s σ H xs b Q I r h;rcases h with⟨i,rfl,q⟩|⟨k,rfl,q⟩
 ·obtain⟨u,rfl,t,rfl⟩:=jU r;exact call_int_int ⟨.int i,H,I,⟨_,rfl⟩,q⟩
 ·obtain⟨u,rfl,a⟩:=jU r;cases a;exact call_int_bool ⟨.int (if k then 1 else 0),H,I.tok _,⟨_,rfl⟩,q⟩
end
end L2
namespace L2
open PySem PySem.Spec PyProof.Rows
structure bXF(h:Heap)(x dx C:Addr)(mA:Str->Option bWG):Prop where
 obj:h.get? x=some (bYQ C dx)
 ns:h.Ns1 dx mA
 ne:dx≠x
theorem aXx{h:Heap}{dx:Addr}{mA:Str->Option bWG}(n:h.Ns1 dx mA):∃c,h.get? dx=some c/\∀name,cXC name c=some (mA name):=by
 obtain⟨o,es,l,i,d,g,_,f⟩:=n;refine⟨o,i,λname=>?_⟩;have e:=f name;unfold nsFind findBy at e;rw[<- Array.find?_toList]at e;unfold cXC;rw[d];dsimp only;split
 ·rename_i y q;rw[q]at e;exact congrArg some e
 ·rename_i q;rw[q]at e;have a:es.toList.any (·.refKey)=false:=by
   rw[List.any_eq_false];intro y j;obtain⟨z,t,b⟩:=g y (Array.mem_toList_iff.mp j);simp[DictEntry.refKey,b]
  have k:¬es.toList.any (·.refKey)=true:=by rw[a];exact Bool.false_ne_true
  rw[if_neg k];exact congrArg some e
theorem bXF.look{h:Heap}{x dx C:Addr}{mA:Str->Option bWG}(I:bXF h x dx C mA):∃a,PySem.W.InstAt h x (bYQ C dx) C (some a)/\∀name,cXC name a=some (mA name):=
 let ⟨a,ho,hl⟩:=aXx I.ns
 ⟨a,⟨I.obj,rfl,rfl,ho⟩,hl⟩
section
variable {prog:bW3}{w:bKa}{A:bKk}{E:bWG->bWJ->Prop}{s:bWJ}{K:bWI}{x dx C f:Addr}{mA:Str->Option bWG}{name:Str}{v:bWG}
theorem bXV{a:Bool}{Q:bWG->bWJ->Prop}(X:K.In s.heap)(I:bXF s.heap x dx C mA)(c:cQn K C name=true)(f:cQD K C=true) (d:bKm K (.ref C) name=some none) (e:mA name=some v) (b:PySem.W.handedIn v=true) (h:Q v {s with toks:=s.toks+1}): bWO (bWQ prog w) A (getAttr (.ref x) name a) Q E s:=by
 obtain⟨g,J,hl⟩:=I.look;exact PySem.W.get_value X J (cXz c).1 (PySem.W.findObj_own f d rfl (by rw[hl,e])) b h
theorem aYw{pl:Sem Bool}{Q:bWG×List bWG->bWJ->Prop}(X:K.In s.heap)(I:bXF s.heap x dx C mA)(a:cQn K C name=true) (e:bKm K (.ref C) name=some (some (.ref f))) (c:cQm K (.ref f)=true) (d:mA name=none) (h:Q (.ref f,[.ref x]) s): bWO (bWQ prog w) A (cQ9 (.ref x) name pl) Q E s:=by
 obtain⟨b,J,hl⟩:=I.look;exact PySem.W.method_fn X J (cXz a).1 (cXz a).2 e (beq_iff_eq.mp c) (by show(cXC name b).map (·.isSome)=some false;rw[hl,d];rfl) h
theorem bZV{ns:List Str}{Q:Unit->bWJ->Prop}(X:K.In s.heap)(I:bXF s.heap x dx C mA) (m:bKm K (.ref C) "__setattr__"=some (some (.builtin "object.__setattr__"))) (j:cXf K C=true) (o:PySem.W.takerIn K C name=some none) (q:cQD K C=true) (hw:PySem.Within mA ns) (hsz:ns.length<=bKb) (h:∀h',bXF h' x dx C (λy=>if y=name then some v else mA y)->bYt dx s.heap h'->Q () {s with heap:=h',toks:=s.toks+2}): bWO (bWQ prog w) A (setAttr (.ref x) name v) Q E s:=by
 obtain⟨t,J,hl⟩:=I.look;refine PySem.W.set_plain X J m (PySem.W.osa_open (s:={s with toks:=s.toks+1}) (r:=none) X J j o λb=>?_);obtain⟨z,p,g⟩:=PySem.W.any_some q;have k:s.heap.get? x=some ⟨.ref C,some dx,.plain, #[]⟩:=I.obj;refine bWH (bWM (bWH (bWH (wpAny_loadPart k (bWH (PySem.W.Looks.here (s:={s with toks:=s.toks+1}) (PySem.W.looks_clsIn X p) ?_))))));rw[g];refine bWM (a:=some dx) (bWH (bWM (bWH ?_)));refine wpAny_nsSet1 (s:={s with toks:=s.toks+1}) I.ns λh' c d=>?_;obtain⟨u,l,n,f,i,e⟩:=c.count (PySem.Within.cons name v hw);refine bWH (wpAny_lookBehind f (by rw[i];exact pastItsLine_dict (bKh e (by rw[bKH];omega))) ?_);exact bWM (h _ ⟨(d.2 _ (bKl I.ne)).trans I.obj,c,I.ne⟩ d)
theorem aYL{R:Result->bWJ->Prop}{vs:List bWG}{a:List (Str×bWG)}(X:K.In s.heap)(b:PySem.W.makesIn K C=true) (hi:bKm K (.ref C) "__init__"=some (some (.ref f))) (c:PySem.W.typeIn K (.ref f)=some (.type "function")) (h:bYV (bWQ prog w) (A.under (.builtin "type.__call__" ⟨.ref C::vs,a⟩)) (.call (.ref f) ⟨.ref (s.heap.objs.size+1)::vs,a⟩) (PySem.W.InitBack (s.heap.objs.size+1) R) {s with heap:=(s.heap.push bYr).push (bYQ C s.heap.objs.size) }): bYV (bWQ prog w) A (.call (.ref C) ⟨vs,a⟩) R s:=by
 obtain⟨i,g,d,t,e⟩:=s;exact PySem.W.make_core (PySem.W.makes_of X b) (PySem.W.looks_findIn X hi) (λself=>PySem.W.bind_fn X self c) (.inl rfl) h
end
def J9(f:Str)(v:V):List (Str×V)->List (Str×V)
 |[]=> [(f,v)]
 |(g,x)::r=>if g=f then(g,v)::r else(g,x)::J9 f v r
theorem qU(f g:Str)(v:V):∀fs:List (Str×V),(J9 f v fs).lookup g=if g=f then some v else fs.lookup g
 |[]=>by
  show bY2 g [(f,v)]=_;by_cases h:g=f
  ·have a:(g==f)=true:=beq_iff_eq.mpr h;simp only[bY2,a,if_pos h]
  ·have a:(g==f)=false:=beq_eq_false_iff_ne.mpr h;simp only[bY2,a,if_neg h]
 |(k,x)::r=>by
  have c:=qU f g v r;rw[show J9 f v ((k,x)::r)=(if k=f then(k,v)::r else(k,x)::J9 f v r)from rfl];by_cases b:k=f
  ·rw[if_pos b];by_cases h:g=k
   ·have a:(g==k)=true:=beq_iff_eq.mpr h;simp only[bY2,a,if_pos (h.trans b)]
   ·have a:(g==k)=false:=beq_eq_false_iff_ne.mpr h;simp only[bY2,a,if_neg (λe:g=f=>h (e.trans b.symm))]
  ·rw[if_neg b];by_cases h:g=k
   ·have a:(g==k)=true:=beq_iff_eq.mpr h;simp only[bY2,a,if_neg (λe:g=f=>b (h.symm.trans e))]
   ·have a:(g==k)=false:=beq_eq_false_iff_ne.mpr h;simp only[bY2,a];exact c
theorem qN(f:Str)(v:V):∀fs:List (Str×V),f∈(J9 f v fs).map (·.1)/\∀g,g∈fs.map (·.1)->g∈(J9 f v fs).map (·.1)
 |[]=>⟨by simp[J9],λg h=>by simp at h⟩
 |(k,x)::r=>by
  obtain⟨c,b⟩:=qN f v r;rw[show J9 f v ((k,x)::r)=(if k=f then(k,v)::r else(k,x)::J9 f v r)from rfl];by_cases a:k=f
  ·rw[if_pos a];subst a;exact⟨by simp,λg h=>by simpa using h⟩
  ·rw[if_neg a];refine⟨?_,λg h=>?_⟩
   ·rw[bKv];exact bWR _ c
   ·rw[bKv]at h ⊢;rcases bWU.mp h with e|e
    ·exact bWU.mpr (.inl e)
    ·exact bWR _ (b g e)
theorem qS(f:Str)(v:V):∀fs:List (Str×V),(J9 f v fs).length<=fs.length+1
 |[]=>by simp[J9]
 |(k,x)::r=>by
  have b:=qS f v r;rw[show J9 f v ((k,x)::r)=(if k=f then(k,v)::r else(k,x)::J9 f v r)from rfl];by_cases a:k=f
  ·rw[if_pos a,bKH,bKH];omega
  ·rw[if_neg a,bKH,bKH];omega
theorem aQe.some_of{v:V}{o:Option bWG}(r:aQe (some v) o):∃u,o=some u/\xZ v u:=by
 cases o with
 |none=>exact(show False from r).elim
 |some u=>exact⟨u,rfl,r⟩
theorem aQe.none_of{o:Option bWG}(r:aQe none o):o=none:=by
 cases o with
 |none=>rfl
 |some u=>exact(show False from r).elim
theorem aXn{v:V}{u:bWG}(r:xZ v u):PySem.W.handedIn u=true:=by
 cases v with
 |non=>cases (show u=Value.none from r);rfl
 |bl b=>cases (show u=Value.bool b from r);rfl
 |int i=>obtain⟨t,e⟩:=(show ∃t,u=Value.int i t from r);cases e;rfl
 |str x=>obtain⟨t,e⟩:=(show ∃t,u=Value.str x t from r);cases e;rfl
 |byt b=>obtain⟨t,e⟩:=(show ∃t,u=Value.bytes b t from r);cases e;rfl
 |flt b=>obtain⟨t,e⟩:=(show ∃t,u=Value.float b t from r);cases e;rfl
 |ref a=>cases (show u=Value.ref a from r);rfl
 |ty n=>cases (show u=Value.type n from r);rfl
section
variable {P:bW3}{w:bKa}{H H':Hp}{h h':Heap}{a C dx:Addr}{fs fs':List (Str×V)}
theorem aQq(b:HOk P w H h)(e:H a=some (.ins C dx fs)):∃mA,bXF h a dx C mA/\(∀f,aQe (fs.lookup f) (mA f))/\PySem.Within mA (fs.map (·.1))/\fs.length<=1000/\H dx=some (.own a):=by
 obtain⟨d,z,ne,c,mA,n,r,q⟩:=(show x5 P w H h a (.ins C dx fs)from b a _ e);exact⟨mA,⟨c,n,ne⟩,r,q,z,d⟩
end
structure Cls(K:bWI)(C:Addr):Prop where
 pg:cQn K C Str.empty=true
 hd:cQD K C=true
 po:cXf K C=true
 sa:bKm K (.ref C) "__setattr__"=some (some (.builtin "object.__setattr__"))
theorem Cls.get{K:bWI}{C:Addr}(c:Cls K C)(f:Str):cQn K C f=true:=c.pg
def zR(K:bWI)(C:Addr)(f:Str):Prop:=bKm K (.ref C) f=some none
theorem zR.taker{K:bWI}{C:Addr}{f:Str}(n:zR K C f):PySem.W.takerIn K C f=some none:=by
 unfold PySem.W.takerIn;rw[show bKm K (.ref C) f=some none from n];rfl
structure bJa(K:bWI)(C:Addr)(m:Str)(f:Addr):Prop where
 at_:bKm K (.ref C) m=some (some (.ref f))
 fn:cQm K (.ref f)=true
 kp:bKy K (.ref f)=true
section
variable {X:Cx}{pins:List (Addr×Obj)}{σ:St}{H:Hp}{s:bWJ}{a C dx:Addr}{fs:List (Str×V)}{f:Str}{v:V}{A:bKk}{E:bWG->bWJ->Prop}
theorem aJV{b:Bool}{Q:bWG->bWJ->Prop}(I:Inv X pins σ H s)(e:H a=some (.ins C dx fs))(c:Cls X.K C)(n:zR X.K C f)(l:fs.lookup f=some v) (h:∀u s',Inv X pins σ H s'->xZ v u->Q u s'):bWO (bWQ X.prog X.w) A (getAttr (.ref a) f b) Q E s:=by
 obtain⟨mA,O,r,_,_,_⟩:=aQq I.hok e;obtain⟨u,g,d⟩:=aQe.some_of (v:=v) (o:=mA f) (by rw[<- l];exact r f);exact bXV I.kIn O (c.get f) c.hd n g (aXn d) (h u _ (I.tok _) d)
theorem u9{m:Str}{g:Addr}{pl:Sem Bool}{Q:bWG×List bWG->bWJ->Prop}(I:Inv X pins σ H s)(e:H a=some (.ins C dx fs))(c:Cls X.K C)(k:bJa X.K C m g)(l:fs.lookup m=none) (h:Q (.ref g,[.ref a]) s):bWO (bWQ X.prog X.w) A (cQ9 (.ref a) m pl) Q E s:=by
 obtain⟨mA,O,r,_,_,_⟩:=aQq I.hok e;have b:mA m=none:=aQe.none_of (by rw[<- l];exact r m);exact aYw I.kIn O (c.get m) k.at_ k.fn b h
theorem aVL{y:V}{u:bWG}{Q:Unit->bWJ->Prop}(I:Inv X pins σ H s)(e:H a=some (.ins C dx fs))(c:Cls X.K C)(n:zR X.K C f)(hl:fs.length<1000)(v:xZ y u) (h:∀s',Inv X pins σ (upd H a (.ins C dx (J9 f y fs))) s'->Q () s'):bWO (bWQ X.prog X.w) A (setAttr (.ref a) f u) Q E s:=by
 obtain⟨mA,O,r,i,_,j⟩:=aQq I.hok e;have l:(fs.map (·.1)).length<=bKb:=by rw[bWK,bKg];omega
 refine bZV I.kIn O c.sa c.po n.taker c.hd i l λh' d m=>h _ ?_;have t:∃o,h'.get? dx=some o:=let ⟨o,_,_,e',_⟩:=d.ns;⟨o,e'⟩;refine I.write (x:=a) (e:=dx) (by rw[e];exact bK3) (.inr j) (λb q k z=>(m.2 b k).trans z) t ?_;refine⟨by rw[yH O.ne];exact j,?_,O.ne,d.obj,_,d.ns,λg=>?_,λg p=>?_⟩
 ·have:=qS f y fs;omega
 ·show aQe ((J9 f y fs).lookup g) (if g=f then some u else mA g);rw[qU];by_cases q:g=f
  ·rw[if_pos q,if_pos q];exact v
  ·rw[if_neg q,if_neg q];exact r g
 ·by_cases q:g=f
  ·rw[q];exact(qN f y fs).1
  ·refine(qN f y fs).2 g (i g λz=>p ?_);show(if g=f then some u else mA g)=none;rw[if_neg q];exact z
theorem Inv.made(I:Inv X pins σ H s):Inv X pins σ (upd (upd H s.heap.objs.size (.own (s.heap.objs.size+1))) (s.heap.objs.size+1) (.ins C s.heap.objs.size [])) {s with heap:=(s.heap.push bYr).push (bYQ C s.heap.objs.size) }:=by
 have c:(s.heap.push bYr).get? s.heap.objs.size=some bYr:=bW4 s.heap rfl;have h:((s.heap.push bYr).push (bYQ C s.heap.objs.size)).get? (s.heap.objs.size+1)=some (bYQ C s.heap.objs.size):=by have:=bW4 (s.heap.push bYr) (o:=bYQ C s.heap.objs.size) rfl;rwa [bYh]at this
 have i:(s.heap.push bYr).Ns s.heap.objs.size (λ_=>none):=⟨bYr, #[],_,c,rfl,(λe g=>absurd g (by simp)),λ_=>rfl⟩;have d:=I.laid (a:=s.heap.objs.size) (o:= .own (s.heap.objs.size+1)) (h':=s.heap.push bYr) (t':=s.toks) (λb u q=>bWL _ q) (bWN _) ⟨_,c⟩;refine d.laid (a:=s.heap.objs.size+1) (o:= .ins C s.heap.objs.size []) (t':=s.toks) (λb u q=>bWL _ q) (bY5 (bYh _ _)) ?_;have ne:s.heap.objs.size≠s.heap.objs.size+1:=bW9 (bKP _);refine⟨by rw[yH ne,yB],bKt _,ne,h,λ_=>none,(Heap.Ns1.of_empty i).at λo q=>bWL _ q,λ_=>bK3,λy f=>absurd rfl f⟩
theorem aVX{prog:bW3}{w:bKa}{env:Env}{e:Expr}{f:Str}{pos:Pos}{s:bWJ}{Q:bWG->bWJ->Prop}(b:cXi e f env (eval e env)=eval e env) (h:bWO (bWQ prog w) A (eval e env) (λo a=>bWO (bWQ prog w) A (getAttr o f true) Q E a) E s):bWO (bWQ prog w) A (eval (.Attribute e f pos) env) Q E s:=
 Attribute_any_ h (by rw[arm_eval_Attribute,b])
end
inductive bVZ(K:bWI)(f:Str)(Q:VK)(x:V)(H1:Hp):Prop|mk (a C dx fs v) (_:x= .ref a) (_:H1 a=some (.ins C dx fs)) (_:Cls K C) (_:zR K C f) (_:fs.lookup f=some v) (_:Q v H1)
def bWf(K:bWI)(ta:TE)(f:Str):TE:=λσ H Q=>ta σ H λx H1=>bVZ K f Q x H1
inductive bVT(K:bWI)(f:Str)(D:aJH)(σ:St)(y:V)(x:V)(H2:Hp):Prop|mk (a C dx fs) (_:x= .ref a) (_:H2 a=some (.ins C dx fs)) (_:Cls K C) (_:zR K C f) (_:fs.length<1000) (_:D.nx σ (upd H2 a (.ins C dx (J9 f y fs))))
def bWw(K:bWI)(ta tv:TE)(f:Str):TS:=λD σ H=>tv σ H λy H1=>ta σ H1 λx H2=>bVT K f D σ y x H2
section
variable {X:Cx}{o e value:Expr}{f:Str}{pos pos' tpos:Pos}{ta tv:TE}
theorem yR(d:PE X e ta)(i:cXi e f X.env (eval e X.env)=eval e X.env):PE X (.Attribute e f pos) (bWf X.K ta f):=by
 intro pins s σ H Q I h;refine aVX i (thn (d pins s σ H _ I h) λu s1 ⟨x,H1,I1,rx,a,C,dx,fs,v,ex,ea,c,n,l,q⟩=>?_);subst ex;obtain rfl:u=Value.ref a:=rx;exact aJV I1 ea c n l λk j b g=>⟨v,H1,b,g,q⟩
theorem x4(b:PE X o ta)(d:PE X value tv)(g:swapsWith value (some (.Attribute o f pos')) pos.line X.env=pure false):PS X (.Assign [.Attribute o f pos'] value pos) (bWw X.K ta tv f):=by
 intro pins s σ H D I h;refine cXo (thn (d pins s σ H _ I h) λu s1 ⟨y,H1,I1,ry,q⟩=>thn (b pins s1 σ H1 _ I1 q) λov s2 ⟨x,H2,I2,rx,a,C,dx,fs,ex,ea,c,n,l,q2⟩=>?_) g;subst ex;obtain rfl:ov=Value.ref a:=rx;exact aVL I2 ea c n l ry λi e=>⟨σ,_,e,q2⟩
theorem bZc{pl:Sem Bool}{m:Str}{apos:Pos}{args:List Expr}{pins:List (Addr×Obj)}{s:bWJ}{σ:St}{H:Hp}{Q:bWG->bWJ->Prop}{te:TE}(d:PE X e te)(I:Inv X pins σ H s)
  (h:te σ H λx H1=>∃a C dx fs g,x= .ref a/\H1 a=some (.ins C dx fs)/\Cls X.K C/\bJa X.K C m g/\fs.lookup m=none/\
   ∀b,Inv X pins σ H1 b->bWO (bWQ X.prog X.w) X.A (callWith pos (.ref g) [.ref a] (bYD pos (bKi args X.env)) (backToKw pos (cQB [] X.env))) Q X.xe b)
  (i:eval (.Call (.Attribute e m apos) args [] pos) X.env=(do
   let ov <- eval e X.env
   standAt apos.atName
   let (f,first) <- cQZ [ov] (cQ9 ov m pl)
   callWith pos f first (bYD pos (bKi args X.env)) (backToKw pos (cQB [] X.env)))):
  bWO (bWQ X.prog X.w) X.A (eval (.Call (.Attribute e m apos) args [] pos) X.env) Q X.xe s:=by
 refine cQG (pl:=pl) (thn (d pins s σ H _ I h) λu b ⟨x,H1,I1,rx,a,C,dx,fs,g,ex,ea,c,k,l,q⟩=>?_) i
 subst ex
 obtain rfl:u=Value.ref a:=rx
 exact u9 I1 ea c k l (q b I1)
end
section
variable {X:Cx}{pins:List (Addr×Obj)}{σ:St}{H:Hp}{s:bWJ}{A:bKk}{E:bWG->bWJ->Prop}{Q:bWG->bWJ->Prop}{c:bWG}{b:Bool}
inductive aJK(K:bWI)(H:Hp):V->bWG->Prop where
 |non:aJK K H .non (.type "NoneType")
 |bl (x:Bool):aJK K H (.bl x) (.type "bool")
 |int (i:Int):aJK K H (.int i) (.type "int")
 |str (x:Str):aJK K H (.str x) (.type "str")
 |flt (x:UInt64):aJK K H (.flt x) (.type "float")
 |lst {a:Addr} {xs:List V} (e:H a=some (.lst xs)):aJK K H (.ref a) (.type "list")
 |frz {a:Addr} {o:Obj} {xs:List V} (e:H a=some (.frz o (.lst xs))):aJK K H (.ref a) (.type "list")
 |tup {a:Addr} {xs:List V} (e:H a=some (.tup xs)):aJK K H (.ref a) (.type "tuple")
 |dK {a:Addr} {kvs:List (Key×V)} (e:H a=some (.dK kvs)):aJK K H (.ref a) (.type "dict")
 |dT {a:Addr} {kvs:List (List Key×V)} (e:H a=some (.dT kvs)):aJK K H (.ref a) (.type "dict")
 |ins {a C dx:Addr} {fs:List (Str×V)} (e:H a=some (.ins C dx fs)) (cl:Cls K C) (ha:bKm K (.ref C) "__class__"=some (some (.builtin "object.__class__")))
   (hn:cXg K (.builtin "object.__class__") "__get__"=some (some (.builtin "getset_descriptor.__get__"))) (htk:PySem.W.takesIn K (.builtin "object.__class__")=some true)
   (hm:cQS K C (.type "object")=some true):aJK K H (.ref a) (.ref C)
theorem aWs{x:V}{u t:bWG}(I:Inv X pins σ H s)(d:xZ x u)(ty:aJK X.K H x t)(e:PySem.W.kitOne X.K t c=some b)(h:∀tk,Q (.bool b) {s with toks:=tk}): bWO (bWQ X.prog X.w) A (call (.builtin "isinstance") [u,c]) Q E s:=by
 cases ty with
 |non=>cases (show u=Value.none from d);exact bYj PySem.W.kitx_none I.kIn bK3 e (λz=>nomatch z) h
 |bl y=>cases (show u=Value.bool y from d);exact bYj PySem.W.kitx_bool I.kIn bK3 e (λz=>nomatch z) h
 |int i=>obtain⟨t,q⟩:=(show ∃t,u=Value.int i t from d);cases q;exact bYj PySem.W.kitx_int I.kIn bK3 e (λz=>nomatch z) h
 |str y=>obtain⟨t,q⟩:=(show ∃t,u=Value.str y t from d);cases q;exact bYj PySem.W.kitx_str I.kIn bK3 e (λz=>nomatch z) h
 |flt y=>obtain⟨t,q⟩:=(show ∃t,u=Value.float y t from d);cases q;exact bYj PySem.W.kitx_float I.kIn bK3 e (λz=>nomatch z) h
 |@lst a xs f=>cases (show u=Value.ref a from d);obtain⟨_,_,n,_,h1⟩:=(show x5 X.prog X.w H s.heap a (.lst xs)from I.hok a _ f);exact bYj PySem.W.kitx_list I.kIn ⟨_,h1,rfl⟩ e (λz=>nomatch z) h
 |@frz a r xs f=>cases (show u=Value.ref a from d);obtain⟨_,_,_,n,_,h1⟩:=(show x5 X.prog X.w H s.heap a (.frz r (.lst xs))from I.hok a _ f);exact bYj PySem.W.kitx_list I.kIn ⟨_,h1,rfl⟩ e (λz=>nomatch z) h
 |@tup a xs f=>cases (show u=Value.ref a from d);obtain⟨_,_,_,p⟩:=(show x5 X.prog X.w H s.heap a (.tup xs)from I.hok a _ f);obtain⟨o,h1,h2,_⟩:=p;exact bYj PySem.W.kitx_tuple I.kIn ⟨o,h1,h2⟩ e (λz=>nomatch z) h
 |@dK a g f=>cases (show u=Value.ref a from d);obtain⟨_,_,D,_,p⟩:=(show x5 X.prog X.w H s.heap a (.dK g)from I.hok a _ f);obtain⟨o,es,m,h1,h2,_⟩:=p;exact bYj PySem.W.kitx_dict I.kIn ⟨o,h1,h2.1⟩ e (λz=>nomatch z) h
 |@dT a g f=>cases (show u=Value.ref a from d);obtain⟨_,_,xs,_,o,es,m,h1,h2,_⟩:=(show x5 X.prog X.w H s.heap a (.dT g)from I.hok a _ f);exact bYj PySem.W.kitx_dict I.kIn ⟨o,h1,h2.1⟩ e (λz=>nomatch z) h
 |@ins a C dx fs f cl l k j v=>cases (show u=Value.ref a from d);obtain⟨mA,O,_⟩:=aQq I.hok f;obtain⟨B,J,_⟩:=O.look;exact bYj (PySem.W.kitx_own (cl.get _) cl.hd l k j v) I.kIn J e (λz=>nomatch z) h
end
end L2
namespace L2
open PySem PySem.Spec PyProof.Rows
structure wR(k:Nat)(A:bKk):Prop where
 hd:A.handled=none
 dp:A.depth+3*k+5<recursionLimit
 un:A.units+16*k+200<cLine
theorem wR.mono{j k:Nat}{A:bKk}(r:wR k A)(h:j<=k):wR j A:=⟨r.hd,by have:=r.dp;omega,by have:=r.un;omega⟩
theorem wR.deeper{k:Nat}{A:bKk}(r:wR (k+1) A)(env:Env):wR k (A.deeper env):=
 ⟨r.hd,by have:=r.dp;show A.depth+1+3*k+5<_;omega,by have:=r.un;show A.units+3+16*k+200<_;omega⟩
theorem aJ3{A:bKk}{C:Addr}{us:List bWG}{a:List (Str×bWG)}:(A.under (.builtin "type.__call__" ⟨.ref C::us,a⟩)).depth=A.depth+1:=by
 first|rfl|simp[Around.under,Code.weight,Code.isCreation,Code.isGuard,Code.isCaller,Code.frames,Code.isFrame,guardIds]
theorem aJ4{A:bKk}{C:Addr}{us:List bWG}{a:List (Str×bWG)}:(A.under (.builtin "type.__call__" ⟨.ref C::us,a⟩)).units=A.units+1:=by
 first|rfl|simp[Around.under,Code.cUnits,Code.frames,Code.isFrame]
theorem wR.make{k:Nat}{A:bKk}(r:wR (k+1) A)(C:Addr)(us:List bWG)(a:List (Str×bWG)):wR k (A.under (.builtin "type.__call__" ⟨.ref C::us,a⟩)):=
 ⟨r.hd,by have:=r.dp;rw[aJ3];omega,by have:=r.un;rw[aJ4];omega⟩
theorem wR.depth{k:Nat}{A:bKk}(r:wR k A):A.depth<recursionLimit:=by have:=r.dp;omega
theorem wR.units{k:Nat}{A:bKk}(r:wR k A):A.units+64<cLine:=by have:=r.un;omega
theorem wR.units0{k:Nat}{A:bKk}(r:wR k A):A.units<cLine:=by have:=r.un;omega
def bQJ:TA:=λ_ H Q=>Q [] H
def aVN(ta:TE)(a:TA):TA:=λσ H Q=>ta σ H λx H1=>a σ H1 λxs H2=>Q (x::xs) H2
section
variable {X:Cx}{e:Expr}{es:List Expr}{te:TE}{t:TA}{pos:Pos}
theorem yF:PA X [] bQJ:=λ_ _ _ _ H Q I h=>Calls.spliced_nil ⟨[],H,I,.nil,h⟩
theorem yA(a:PE X e te)(b:PA X es t)(c:bKi (e::es) X.env=(false,eval e X.env)::bKi es X.env:=by rfl):PA X (e::es) (aVN te t):=by
 intro pos pins s σ H Q I h;rw[c];show bWO _ _ (spliced ((false,eval e X.env)::bYD pos (bKi es X.env))) _ _ s;refine Calls.spliced_cons (thn (a pins s σ H _ I h) λu s1 ⟨x,H1,I1,r1,q1⟩=>?_);exact thn (b pos pins s1 σ H1 _ I1 q1) λus s2 ⟨xs,H2,I2,r2,q2⟩=>⟨x::xs,H2,I2,.cons r1 r2,q2⟩
inductive bV5(Q:VK)(xs:List V)(H1:Hp):Prop|mk (_:xs.length<=bKb) (_:∀p,H1 p=none->Q (.ref p) (upd H1 p (.tup xs)))
def bWj(t:TA):TE:=λσ H Q=>t σ H λxs H1=>bV5 Q xs H1
inductive bV0(Q:VK)(xs:List V)(H1:Hp):Prop|mk (_:xs.length<=bKb) (_:∀p,H1 p=none->Q (.ref p) (upd H1 p (.lst xs)))
def bWg(t:TA):TE:=λσ H Q=>t σ H λxs H1=>bV0 Q xs H1
theorem zW{x1}(h:PA X es t):PE X (.Tuple es x1 pos) (bWj t):=by
 intro pins s σ H Q I a;refine wpAny_Tuple_spliced (thn (h pos pins s σ H _ I a) λus s1 ⟨xs,H1,I1,r,z,q⟩=>⟨by rw[<- r.length];exact z,?_⟩);have c:H1 s1.heap.objs.size=none:=I1.hok.fresh (bWN _);refine⟨.ref s1.heap.objs.size,upd H1 s1.heap.objs.size (.tup xs),I1.laid (t':=s1.toks) (λb u e=>bWL _ e) (bWN _) ?_,rfl,q _ c⟩;exact⟨z,us,r,⟨_,bW4 _ rfl,rfl,_,rfl⟩⟩
theorem xR(h:PA X es t):PE X (.List es pos) (bWg t):=by
 intro pins s σ H Q I a;refine wpAny_List_spliced (thn (h pos pins s σ H _ I a) λus s1 ⟨xs,H1,I1,r,z,q⟩=>⟨by rw[<- r.length];exact z,?_⟩);have c:H1 s1.heap.objs.size=none:=I1.hok.fresh (bWN _);refine⟨.ref s1.heap.objs.size,upd H1 s1.heap.objs.size (.lst xs),I1.laid (t':=s1.toks) (λb u e=>bWL _ e) (bWN _) ?_,rfl,q _ c⟩;exact⟨z,us,0,r,bW4 _ rfl⟩
end
abbrev Sp:=List V->Hp->VK->XK->Prop
abbrev CXT:=List Env->Hp->bWJ->XK->bWG->bWJ->Prop
structure bXB(P:bW3)(w:bKa)(K:bWI)(mg:Str->Option bWG)(base:Heap)(A:bKk)(outer:List Env)(s:bWJ)(H:Hp):Prop where
 frames:A.frames=some outer
 mod:Mod K mg base
 bs:∀b o,base.get? b=some o->s.heap.get? b=some o/\H b=none
 bsz:base.objs.size<=s.heap.objs.size
 funs:s.heap.FunFrames base outer
 frf:∀b∈frs outer,H b=none
 hok:HOk P w H s.heap
 bare:AllBare s.gens
def CE(outer:List Env)(P:bW3)(w:bKa)(H:Hp)(s:bWJ)(Q:VK)(u:bWG)(s':bWJ):Prop:=
 ∃v H',s'.os=s.os/\AllBare s'.gens/\Un (frs outer) [] H H' s.heap s'.heap/\HOk P w H' s'.heap/\xZ v u/\Q v H'
def CR(CX:CXT)(outer:List Env)(P:bW3)(w:bKa)(H:Hp)(s:bWJ)(Q:VK)(E:XK)(r:Result)(s':bWJ):Prop:=
 match r with
 |.ok (.ret u)=>CE outer P w H s Q u s'
 |.ok _=>False
 |.error e=>CX outer H s E e s'
structure y0(P:bW3)(w:bKa)(K:bWI)(mg:Str->Option bWG)(base:Heap)(CX:CXT)(k:Nat)(f:Addr)(fd:bYF)(ps:List Str)(sp:Sp):Prop where
 len:∀vs H Q E,sp vs H Q E->vs.length=ps.length
 run:∀ (A:bKk)(outer:List Env)(s:bWJ)(H:Hp)(args:Args)(us:List bWG)(vs:List V)(Q:VK)(E:XK),wR k A->bXB P w K mg base A outer s H->BindsTo s fd args (ps.zip us)->xK vs us->sp vs H Q E->
  bYV (bWQ P w) A (.call (.ref f) args) (CR CX outer P w H s Q E) s
theorem y0.mono{P:bW3}{w:bKa}{K:bWI}{mg:Str->Option bWG}{base:Heap}{CX:CXT}{j k:Nat}{f:Addr}{fd:bYF}{ps:List Str}{sp:Sp}(F:y0 P w K mg base CX j f fd ps sp)(h:j<=k):
  y0 P w K mg base CX k f fd ps sp:=⟨F.len,λA outer s H args a c Q E b=>F.run A outer s H args a c Q E (b.mono h)⟩
theorem bXB.make{P:bW3}{w:bKa}{K:bWI}{mg:Str->Option bWG}{base:Heap}{A:bKk}{outer:List Env}{s:bWJ}{H:Hp}(e:bXB P w K mg base A outer s H)(C:Addr)(us:List bWG)(a:List (Str×bWG)):
  bXB P w K mg base (A.under (.builtin "type.__call__" ⟨.ref C::us,a⟩)) outer s H:=⟨by first|exact e.frames|(simpa[Around.under,Code.envs,Code.isFrame,pushEnvs]using e.frames),e.mod,e.bs,e.bsz,e.funs,e.frf,e.hok,e.bare⟩
section
variable {X:Cx}{pins:List (Addr×Obj)}{σ:St}{H:Hp}{s s':bWJ}
theorem Inv.env0(I:Inv X pins σ H s):bXB X.prog X.w X.K X.mg X.base X.A X.stack s H:=
 ⟨I.ok.frames,I.ok.mod,I.bs,bKh I.ok.bsz I.sz,I.stack,I.stkFree,I.hok,I.bare⟩
theorem Inv.after{Q:VK}{u:bWG}(I:Inv X pins σ H s)(h:CE X.stack X.prog X.w H s Q u s'):EP X pins σ Q u s':=by
 obtain⟨v,H',e,bare,un,a,r,q⟩:=h;obtain⟨f,g,d,t,c⟩:=s';obtain rfl:c=s.os:=e;exact⟨v,H',I.call (h':=f) (g':=g) (d':=d) (t':=t) (ch:= []) un a bare (λb z=>absurd z (by simp)),r,q⟩
end
def bQF(sp:Sp)(dvs:List V)(E:XK)(t:TA):TE:=λσ H Q=>t σ H λa H1=>sp (a++dvs) H1 Q E
inductive bVh(C:Addr)(m:Str)(sp:Sp)(dvs:List V)(E:XK)(t:TA)(σ:St)(Q:VK)(x:V)(H1:Hp):Prop|mk (a dx fs) (_:x= .ref a) (_:H1 a=some (.ins C dx fs)) (_:fs.lookup m=none) (_:t σ H1 λvs H2=>sp (x::(vs++dvs)) H2 Q E)
def bQI(C:Addr)(m:Str)(sp:Sp)(dvs:List V)(E:XK)(ta:TE)(t:TA):TE:=λσ H Q=>ta σ H λx H1=>bVh C m sp dvs E t σ Q x H1
def bQH(C:Addr)(sp:Sp)(dvs:List V)(E:XK)(t:TA):TE:=λσ H Q=>t σ H λa H1=>∀x dx,H1 x=none->H1 dx=none->dx≠x->
 sp (.ref x::(a++dvs)) (upd (upd H1 dx (.own x)) x (.ins C dx [])) (λv H2=>v= .non/\Q (.ref x) H2) E
def wP(K:bWI)(fd:bYF)(ps:List Str)(ds:List bWG):Prop:=
 ∀ (s:bWJ)(a:List bWG),K.In s.heap->(a++ds).length=ps.length->BindsTo s fd ⟨a,[]⟩ (ps.zip (a++ds))
theorem wP.all{K:bWI}{fd:bYF}{ps:List Str}(h:∀a:List bWG,a.length=ps.length->cQo fd ⟨a,[]⟩=pure (ps.zip a)):wP K fd ps []:=λs a _ hl=>by
 rw[bKI]at hl ⊢;exact .of_eq (h a hl)
def wF(CX:CXT)(X:Cx)(E:XK):Prop:=∀ (pins:List (Addr×Obj))(σ:St)(H:Hp)(s:bWJ)(e:bWG)(s':bWJ),Inv X pins σ H s->CX X.stack H s E e s'->X.xe e s'
section
variable {X:Cx}{CX:CXT}{k:Nat}{f C:Addr}{fd:bYF}{ps:List Str}{sp:Sp}{dvs:List V}{ds:List bWG}{E:XK}{x m:Str}{p pos apos:Pos}{e o:Expr}{es:List Expr}{ta:TE}{t:TA}
theorem aXO{pins:List (Addr×Obj)}{σ:St}{H:Hp}{s:bWJ}{Q:VK}{us:List bWG}{vs:List V}(F:y0 X.prog X.w X.K X.mg X.base CX k f fd ps sp)(j:wR k X.A)(c:wP X.K fd ps ds)(g:xK dvs ds)(d:wF CX X E) (I:Inv X pins σ H s) (r:xK vs us) (h:sp (vs++dvs) H Q E):bWO (bWQ X.prog X.w) X.A (call (.ref f) us) (EP X pins σ Q) X.xe s:=by
 have b:xK (vs++dvs) (us++ds):=r.append g;have hl:(us++ds).length=ps.length:=by rw[<- b.length];exact F.len _ _ _ _ h
 refine cQQ (bYx (F.run X.A X.stack s H ⟨us,[]⟩ (us++ds) (vs++dvs) Q E j I.env0 (c s us I.kIn hl) b h) λr s' a=>?_);cases r with
 |error e=>exact d pins σ H s e s' I a
 |ok i=>
  cases i with
  |ret u=>exact I.after a
  |next=>exact bYe a
  |brk=>exact bYe a
  |cont=>exact bYe a
theorem aW4(F:y0 X.prog X.w X.K X.mg X.base CX k f fd ps sp)(n:wR k X.A)(i:Gl X x)(l:X.mg x=some (.ref f))(m:bKy X.K (.ref f)=true)(c:wP X.K fd ps ds)(j:xK dvs ds)(g:wF CX X E)
  (d:PA X (e::es) t) (a:(x==("__debug__":Str))=false:=by decide) (o:bKi (e::es) X.env=(false,eval e X.env)::bKi es X.env:=by rfl) (b:(bYD pos (bKi es X.env)).any (·.1)=false:=by rfl):
  PE X (.Call (.Name x p) (e::es) [] pos) (bQF sp dvs E t):=by
 intro pins s σ H Q I h
 refine bYk (vI I i l ?_ a)
 refine cQv (h₀:=X.base) I.ok.mod.kin m (thn (d pos pins s σ H _ I h) λus s1 ⟨vs,H1,I1,r,q⟩=>⟨I1.kIn,?_⟩) o b
 exact aXO F n c j g I1 r q
theorem bZx{pl:Sem Bool}(y:PE X o ta)(c:Cls X.K C)(g:bJa X.K C m f)(F:y0 X.prog X.w X.K X.mg X.base CX k f fd ps sp)(v:wR k X.A)(i:wP X.K fd ps ds)(p:xK dvs ds)(n:wF CX X E)(j:PA X (e::es) t)
  (b:bKi (e::es) X.env=(false,eval e X.env)::bKi es X.env:=by rfl) (d:(bYD pos (bKi es X.env)).any (·.1)=false:=by rfl)
  (z:eval (.Call (.Attribute o m apos) (e::es) [] pos) X.env=(do
   let ov <- eval o X.env
   standAt apos.atName
   let (f,first) <- cQZ [ov] (cQ9 ov m pl)
   callWith pos f first (bYD pos (bKi (e::es) X.env)) (backToKw pos (cQB [] X.env))):=by rfl):
  PE X (.Call (.Attribute o m apos) (e::es) [] pos) (bQI C m sp dvs E ta t):=by
 intro pins s σ H Q I h
 refine cQG (pl:=pl) (thn (y pins s σ H _ I h) λu s1 ⟨x,H1,I1,rx,a,dx,fs,ex,ea,l,q⟩=>?_) z
 subst ex
 obtain rfl:u=Value.ref a:=rx
 refine u9 I1 ea c g l ?_
 refine cQv (first:= [.ref a]) (h₀:=X.base) I.ok.mod.kin g.kp (thn (j pos pins s1 σ H1 _ I1 q) λus s2 ⟨vs,H2,I2,r,q2⟩=>⟨I2.kIn,?_⟩) b d
 exact aXO (us:= .ref a::us) (vs:= .ref a::vs) F v i p n I2 (.cons rfl r) q2
theorem bQc{pl:Sem Bool}(g:PE X o ta)(c:Cls X.K C)(b:bJa X.K C m f)(F:y0 X.prog X.w X.K X.mg X.base CX k f fd ps sp)(n:wR k X.A)(e:wP X.K fd ps ds)(d:xK dvs ds)(i:wF CX X E)
  (j:eval (.Call (.Attribute o m apos) [] [] pos) X.env=(do
   let ov <- eval o X.env
   standAt apos.atName
   let (f,first) <- cQZ [ov] (cQ9 ov m pl)
   callWith pos f first (bYD pos (bKi [] X.env)) (backToKw pos (cQB [] X.env))):=by rfl):
  PE X (.Call (.Attribute o m apos) [] [] pos) (bQI C m sp dvs E ta bQJ):=by
 intro pins s σ H Q I h
 refine cQG (pl:=pl) (thn (g pins s σ H _ I h) λu s1 ⟨x,H1,I1,rx,a,dx,fs,ex,ea,l,q⟩=>?_) j
 subst ex
 obtain rfl:u=Value.ref a:=rx
 refine u9 I1 ea c b l ?_
 exact cXy (first:= [.ref a]) I1.kIn b.kp (aXO (us:= [.ref a]) (vs:= [.ref a]) F n e d i I1 (.cons rfl .nil) q)
structure Mk(K:bWI)(C f:Addr):Prop where
 makes:PySem.W.makesIn K C=true
 init:bKm K (.ref C) "__init__"=some (some (.ref f))
 fn:cQm K (.ref f)=true
 kp:bKy K (.ref C)=true
theorem aJn{pins:List (Addr×Obj)}{σ:St}{H:Hp}{s:bWJ}{Q:VK}{us:List bWG}{vs:List V}(M:Mk X.K C f)(F:y0 X.prog X.w X.K X.mg X.base CX k f fd ps sp)(p:wR (k+1) X.A)(g:wP X.K fd ps ds)(m:xK dvs ds) (l:wF CX X E) (I:Inv X pins σ H s) (r:xK vs us) (h:∀x dx,H x=none->H dx=none->dx≠x->sp (.ref x::(vs++dvs)) (upd (upd H dx (.own x)) x (.ins C dx [])) (λv H2=>v= .non/\Q (.ref x) H2) E): bWO (bWQ X.prog X.w) X.A (call (.ref C) us) (EP X pins σ Q) X.xe s:=by
 have d:=h (s.heap.objs.size+1) s.heap.objs.size (I.hok.fresh (bYN _)) (I.hok.fresh (bWN _)) (bW9 (bKP _));have b:=Inv.made (C:=C) I;have c:xK (V.ref (s.heap.objs.size+1)::(vs++dvs)) (Value.ref (s.heap.objs.size+1)::(us++ds)):= .cons rfl (r.append m);have hl:(Value.ref (s.heap.objs.size+1)::us++ds).length=ps.length:=by have e:=c.length;rw[F.len _ _ _ _ d]at e;exact e.symm
 refine cQQ (aYL (f:=f) I.kIn M.makes M.init (beq_iff_eq.mp M.fn) (bYx (F.run _ X.stack _ _ ⟨Value.ref (s.heap.objs.size+1)::us,[]⟩ (Value.ref (s.heap.objs.size+1)::(us++ds)) _ _ E (p.make C us []) (b.env0.make C us []) (g _ (Value.ref (s.heap.objs.size+1)::us) b.kIn hl) c d) λr s' a=>?_));cases r with
 |error e=>exact l pins σ _ _ e s' b a
 |ok n=>
  cases n with
  |ret u=>obtain⟨v,H',o,j,i,q⟩:=b.after a;subst i;exact⟨j,⟨V.ref (s.heap.objs.size+1),H',o,rfl,q⟩⟩
  |next=>exact bYe a
  |brk=>exact bYe a
  |cont=>exact bYe a
theorem bZw(M:Mk X.K C f)(F:y0 X.prog X.w X.K X.mg X.base CX k f fd ps sp)(m:wR (k+1) X.A)(i:Gl X x)(l:X.mg x=some (.ref C))(c:wP X.K fd ps ds)(j:xK dvs ds)(g:wF CX X E)
  (d:PA X (e::es) t) (a:(x==("__debug__":Str))=false:=by decide) (n:bKi (e::es) X.env=(false,eval e X.env)::bKi es X.env:=by rfl) (b:(bYD pos (bKi es X.env)).any (·.1)=false:=by rfl):
  PE X (.Call (.Name x p) (e::es) [] pos) (bQH C sp dvs E t):=by
 intro pins s σ H Q I h
 refine bYk (vI I i l ?_ a)
 refine cQv (h₀:=X.base) I.ok.mod.kin M.kp (thn (d pos pins s σ H _ I h) λus s1 ⟨vs,H1,I1,r,q⟩=>⟨I1.kIn,?_⟩) n b
 exact aJn M F m c j g I1 r q
theorem bQb(M:Mk X.K C f)(F:y0 X.prog X.w X.K X.mg X.base CX k f fd ps sp)(i:wR (k+1) X.A)(g:Gl X x)(c:X.mg x=some (.ref C))(d:wP X.K fd ps ds)(b:xK dvs ds)(e:wF CX X E) (a:(x==("__debug__":Str))=false:=by decide):PE X (.Call (.Name x p) [] [] pos) (bQH C sp dvs E bQJ):=by
 intro pins s σ H Q I h;refine bYk (vI I g c ?_ a);exact cXy I.kIn M.kp (aJn (us:= []) M F i d b e I .nil h)
end
section
variable {X:Cx}{CX:CXT}{k:Nat}{f C:Addr}{fd:bYF}{ps ks:List Str}{sp:Sp}{E:XK}{x m:Str}{p pos apos kpos:Pos}{e o:Expr}{es:List Expr}{kws:List Keyword}{te ta:TE}{t tk:TA}{nm:Option Str}
variable {g:List bWG->List bWG->List bWG}{gV:List V->List V->List V}
end
structure yJ(N P:List Str)(sc:bYS):Prop where
 kind:sc.kind= .function
 co:sc.isCoroutine=false
 gen:sc.isGenerator=false
 nd:N.Nodup
 pre:N.take P.length=P
 par:∀x∈P,sc.names.lookup x=some .local\/sc.names.lookup x=some .cell
 nofree:∀y∈sc.names,y.2≠ .free
theorem aXc{a:Str->Option cQA}{x:Str}:∀ {binds:List (Str×bWG)} {m:Str->Option bWG},(∀v,(x,v)∉binds)->bindL a binds m x=m x
 |[],_,_=>rfl
 |(n,v)::r,m,h=>by
  unfold bindL;rw[aXc λw hw=>h w (bWR _ hw)];split
  ·have:x≠n:=by rintro rfl;exact h v bWV
   simp[this]
  ·rfl
theorem aXa{a:Str->Option cQA}{x:Str}:∀ {binds:List (Str×bWG)} {m:Str->Option bWG},(∀v,(x,v)∉binds)->bindC a binds m x=m x
 |[],_,_=>rfl
 |(n,v)::r,m,h=>by
  unfold bindC;rw[aXa λw hw=>h w (bWR _ hw)];split
  ·rfl
  ·have:x≠n:=by rintro rfl;exact h v bWV
   simp[this]
theorem aXb{a:Str->Option cQA}{x:Str}{v:bWG}:∀ {P:List Str} {vs:List bWG} {i:Nat} {m:Str->Option bWG},P.Nodup->P[i]? =some x->vs[i]? =some v->a x=some .local->
  bindL a (P.zip vs) m x=some v
 |[],_,_,_,_,h,_,_=>by simp at h
 |_::_,[],_,_,_,_,h,_=>by simp at h
 |p::P,w::vs,0,m,nd,h1,h2,hk=>by simp at h1 h2;subst h1;subst h2;show bindL a ((p,w)::P.zip vs) m p=_;unfold bindL;rw[aXc λv b=>(bK4.mp nd).1 (List.of_mem_zip b).1,if_pos hk];simp
 |p::P,w::vs,i+1,m,nd,h1,h2,hk=>by show bindL a ((p,w)::P.zip vs) m x=_;unfold bindL;exact aXb (i:=i) (bK4.mp nd).2 (by simpa using h1) (by simpa using h2) hk
theorem aQ9{a:Str->Option cQA}{x:Str}{v:bWG}:∀ {P:List Str} {vs:List bWG} {i:Nat} {m:Str->Option bWG},P.Nodup->P[i]? =some x->vs[i]? =some v->a x≠some .local->
  bindC a (P.zip vs) m x=some v
 |[],_,_,_,_,h,_,_=>by simp at h
 |_::_,[],_,_,_,_,h,_=>by simp at h
 |p::P,w::vs,0,m,nd,h1,h2,hk=>by simp at h1 h2;subst h1;subst h2;show bindC a ((p,w)::P.zip vs) m p=_;unfold bindC;rw[aXa λv b=>(bK4.mp nd).1 (List.of_mem_zip b).1,if_neg hk];simp
 |p::P,w::vs,i+1,m,nd,h1,h2,hk=>by show bindC a ((p,w)::P.zip vs) m x=_;unfold bindC;exact aQ9 (i:=i) (bK4.mp nd).2 (by simpa using h1) (by simpa using h2) hk
def start(N:List Str)(vs:List V):St:=vs.map some++cXd (N.length - vs.length) none
def aQl(CX:CXT)(P:bW3)(w:bKa)(K:bWI)(mg:Str->Option bWG)(base:Heap)(N:List Str)(qual:Str)(scope:bYS)(f:Addr)(cd:bWG)(A:bKk)(outer:List Env)(s:bWJ)(H:Hp)(E:XK):Cx where
 prog:=P
 w:=w
 K:=K
 mg:=mg
 base:=base
 A:=A.deeper (bYE qual scope s.heap.objs.size f cd)
 N:=N
 s₀:=s
 H₀:=H
 env:=bYE qual scope s.heap.objs.size f cd
 outer:=outer
 stack:=bYE qual scope s.heap.objs.size f cd::outer
 ex:= []
 calm:=true
 fn:=λ_=>true
 pn:= []
 xe:=λe s'=>bWO (bWQ P w) (A.deeper (bYE qual scope s.heap.objs.size f cd)) (leaving (bYE qual scope s.heap.objs.size f cd) e) (λ_ s''=>CX outer H s E e s'') (λe' s''=>CX outer H s E e' s'') s'
theorem aZW{a:bYS}{n:Nat}{x:Str}(h:a.names.lookup x=some .cell):∃c,(cellsFrom n a.names []).lookup x=some c:=by
 have q:=PySem.W.cellsFrom_some a.names n [] (.inl h);exact Option.isSome_iff_exists.mp q
theorem aWr{CX:CXT}{P:bW3}{w:bKa}{K:bWI}{mg:Str->Option bWG}{base:Heap}{N ps:List Str}{qual:Str}{scope:bYS}{f:Addr}{o:bWG}{A:bKk}{outer:List Env}{s t:bWJ}{H:Hp}{E:XK}{us:List bWG}{vs:List V} (S:yJ N ps scope) (I:A.handled=none) (d:bXB P w K mg base A outer s H) (hl:vs.length=ps.length) (r:xK vs us) (x:InCallC s s.heap.objs.size (bindL (bYE qual scope s.heap.objs.size f o).kindOf (ps.zip us) λ_=>none) (cellsFrom (s.heap.objs.size+1) scope.names []) (bindC (bYE qual scope s.heap.objs.size f o).kindOf (ps.zip us) λ_=>none) t): Inv (aQl CX P w K mg base N qual scope f o A outer s H E) [] (start N vs) H t:=by
 have G:ps.length<=N.length:=by have:=congrArg List.length S.pre;rw[bKz]at this;omega
 obtain⟨h1,tk,rfl,B⟩:=x.done;have g:∀b:Addr,b∉(aQl CX P w K mg base N qual scope f o A outer s H E).ex:=λb z=>absurd (show b∈([]:List Addr)from z) (by simp);refine⟨⟨d.mod,S.kind,rfl,rfl,bWN _,λy z c h1 h2=>?_,λy j=>?_,λy c _ h=>?_,λ_=>I,Around.frames_deeper d.frames,.inr ⟨rfl,rfl⟩,λb z=>absurd z (g b),d.bs,d.bsz,λb _ _=>g b,λb z=>absurd z (g b),d.funs,d.frf⟩,rfl,d.bare,Un.kept B,⟨_,x.toInCall.ns,λi y v h1 h2 J=>?_⟩,λy c h=>⟨_,x.cell y c h⟩,d.hok.fresh (bWN _),λy c h=>?_,λp l=>absurd (show p∈([]:List (Addr×Obj))from l) (by simp),d.hok.kept B,?_⟩
 ·exact name_of_addr x.apart (bYc h1) (bYc h2)
 ·have j:scope.names.lookup y=some .cell\/scope.names.lookup y=some .free:=j;rcases j with j|j
  ·exact aZW j
  ·exact absurd rfl (S.nofree _ (bYc j))
 ·exact bY6 (x.above y c (bYc h))
 ·have hi:i<vs.length:=by
   unfold start at h2;by_cases hi:i<vs.length
   ·exact hi
   ·rw[bW0 (by simpa using hi)]at h2;rw[List.getElem?_replicate]at h2;split at h2<;> cases h2
  have D:vs[i]? =some v:=by
   unfold start at h2;rw[bW7 (by simpa using hi),bWY]at h2;cases e:vs[i]? with
   |none=>rw[e]at h2;cases h2
   |some a=>rw[e]at h2;cases h2;rfl
  obtain⟨u,C,F⟩:=r.get D;have l:ps[i]? =some y:=by rw[<- S.pre,List.getElem?_take_of_lt (by omega)];exact h1
  have m:ps.Nodup:=by rw[<- S.pre];exact S.nd.sublist (List.take_sublist _ _)
  refine⟨u,F,?_⟩;rcases S.par y (bW1 l)with k|k
  ·exact .inl ⟨k,aXb m l C k⟩
  ·obtain⟨c,e⟩:=aZW (n:=s.heap.objs.size+1) k;refine .inr ⟨.inl k,c,e,?_⟩;have q:=x.cell y c e;rw[aQ9 m l C (by show scope.names.lookup y≠_;rw[k];decide)]at q;exact q
 ·exact d.hok.fresh (bY6 (x.above y c (bYc h)))
 ·unfold start;show _=N.length;rw[bWW,bWK,List.length_replicate];omega
theorem bXS{CX:CXT}{P:bW3}{w:bKa}{K:bWI}{mg:Str->Option bWG}{base:Heap}{k:Nat}{f:Addr}{name qual:Str}{c:Arguments}{body:List Stmt}{scope:bYS}{M kV m G a ct Y:bWG}{R U:Option Addr} {F:Array (Option bWG)} {N ps:List Str} {sp:Sp} (lk:K.lookup f=some ⟨Y,U,.func (bKF name qual c body scope M kV m G R a ct),F⟩) (z:bYq K a qual=true) (S:yJ N ps scope) (len:∀vs H Q E,sp vs H Q E->vs.length=ps.length) (h:∀ (A:bKk)(outer:List Env)(s:bWJ)(H:Hp)(vs:List V)(Q:VK)(E:XK),wR k (A.deeper (bYE qual scope s.heap.objs.size f a))->sp vs H Q E-> ∃t,PSs (aQl CX P w K mg base N qual scope f a A outer s H E) body t/\t {nx:=λ_ H'=>Q .non H',rt:=Q} (start N vs) H): y0 P w K mg base CX (k+1) f (bKF name qual c body scope M kV m G R a ct) ps sp:=by
 refine⟨len,λA outer s H args us vs Q E D p T r l=>?_⟩;have hl:=len _ _ _ _ l;have O:K.In s.heap:=p.mod.kin.keeps λb o e=>(p.bs b o e).1;have C:s.heap.NoLimit:=p.mod.nolimit.keeps λb o e=>(p.bs b o e).1;have g:∀y∈ps.zip us,scope.names.lookup y.1=some .local\/(scope.names.lookup y.1=some .cell/\((cellsFrom (s.heap.objs.size+1) scope.names []).lookup y.1).isSome=true):=λ⟨n,v⟩ hy=>by
  rcases S.par n (List.of_mem_zip hy).1 with q|q
  ·exact .inl q
  ·exact .inr ⟨q,PySem.W.cellsFrom_some _ _ _ (.inl q)⟩
 refine codeAny_call_function D.depth (O _ _ lk) rfl S.co S.gen rfl (PySem.W.codeRec_of O z) (T _ _ _ _ ?_);refine wpAny_newFunctionEnv_cells S.kind g λenv he L x=>?_;subst he;refine⟨C.keeps x.toInCall.keep,codeAny_func ?_⟩;obtain⟨t,ht,X⟩:=h A outer s H vs Q E (D.deeper _) l;have I:Inv (aQl CX P w K mg base N qual scope f a A outer s H E) [] (start N vs) H L:=aWr S D.hd p hl r x;refine bKE (ht [] L (start N vs) H _ I X) (λZ s' i=>?_) λe s' i=>i;have j:∀ {d:St} {H':Hp} {v:V} {u:bWG},Inv (aQl CX P w K mg base N qual scope f a A outer s H E) [] d H' s'->xZ v u->Q v H'->CE outer P w H s Q u s':=
  λ{d H' v u} J B q=>⟨v,H',J.os,J.bare,J.base,J.hok,B,q⟩
 cases Z with
 |ret u=>obtain⟨v,d,H',J,B,q⟩:=i;exact j J B q
 |next=>obtain⟨d,H',J,q⟩:=i;exact j (v:=V.non) (u:=Value.none) J rfl q
 |brk=>obtain⟨_,_,_,q⟩:=i;exact bYe q
 |cont=>obtain⟨_,_,_,q⟩:=i;exact bYe q
end L2
namespace L2
open PySem PySem.Spec PyProof.Rows
section
variable {X:Cx}{x:Str}{p pos:Pos}{e:Expr}{es:List Expr}{t:TA}{id T:String}{r:List V->Hp->VK->Prop}
def tCB(r:List V->Hp->VK->Prop)(t:TA):TE:=λσ H Q=>t σ H λa H1=>r a H1 Q
theorem yT(k:uY X (.builtin id) r)(g:Gl X x)(d:X.mg x=none)(j:bKx x=some (.builtin id))(i:PA X (e::es) t)(c:x≠"__name__":=by decide)(b:(x==("__debug__":Str))=false:=by decide)
  (f:bKi (e::es) X.env=(false,eval e X.env)::bKi es X.env:=by rfl) (a:(bYD pos (bKi es X.env)).any (·.1)=false:=by rfl):PE X (.Call (.Name x p) (e::es) [] pos) (tCB r t):=by
 intro pins s σ H Q I h
 refine bYk (qR I g d j ?_ c b)
 exact PyProof.Rows.callWith_builtin1 (thn (i pos pins s σ H _ I h) λus s1 ⟨vs,H1,I1,r1,q1⟩=>k pins s1 σ H1 vs us Q I1 r1 q1) f a
theorem uO(k:uY X (.type T) r)(g:Gl X x)(d:X.mg x=none)(j:bKx x=some (.type T))(i:PA X (e::es) t)(c:x≠"__name__":=by decide)(b:(x==("__debug__":Str))=false:=by decide)
  (f:bKi (e::es) X.env=(false,eval e X.env)::bKi es X.env:=by rfl) (a:(bYD pos (bKi es X.env)).any (·.1)=false:=by rfl):PE X (.Call (.Name x p) (e::es) [] pos) (tCB r t):=by
 intro pins s σ H Q I h
 refine bYk (qR I g d j ?_ c b)
 exact bY9 (thn (i pos pins s σ H _ I h) λus s1 ⟨vs,H1,I1,r1,q1⟩=>k pins s1 σ H1 vs us Q I1 r1 q1) f a
end
end L2
namespace HT
open PySem PyProof.Rows
section
open PySem.SeqAt
open PySem.AutoSeq1 (wpAny_loadPart')
open PySem.MeetsSeq PySem.MeetsSeq2 PySem.MeetsSeq3
end
section
variable {prog:bW3}{w:bKa}{A:bKk}{E:bWG->bWJ->Prop}{s:bWJ}
def sIx(n d:Nat):Option Int->Nat
 |none=>d
 |some v=>if v<0 then(v+(n:Int)).toNat else min v.toNat n
theorem aJp(n d:Nat):sIx n d none=d:=rfl
end
end HT
namespace L2
open PySem PySem.Spec PyProof.Rows
abbrev TO:=St->Hp->(Option Int->Hp->Prop)->Prop
def PO(X:Cx)(e:Option Expr)(t:TO):Prop:=
 ∀ (pins:List (Addr×Obj))(s:bWJ)(σ:St)(H:Hp)(Q:Option Int->Hp->Prop),Inv X pins σ H s->t σ H Q->
  bWO (bWQ X.prog X.w) X.A (evalPart e X.env) (λu s'=>∃o H',Inv X pins σ H' s'/\IsPart u o/\Q o H') X.xe s
def bZ3:TO:=λ_ H Q=>Q none H
inductive bVi(Q:Option Int->Hp->Prop)(x:V)(H1:Hp):Prop|mk (i) (_:x= .int i) (_:Q (some i) H1)
def bV3(t:TE):TO:=λσ H Q=>t σ H λx H1=>bVi Q x H1
theorem zZ{ns:List Int}:∀ {us:List bWG},xK (ns.map V.int) us->cQa us ns:=by
 induction ns with
 |nil=>intro us r;rw[List.map_nil]at r;cases r;exact .nil
 |cons n ns b=>
  intro us r;rw[bKv]at r;cases r with
  |cons c a=>obtain⟨t,e⟩:=c;subst e;exact .cons n t (b a)
section
variable {X:Cx}{e:Expr}{te:TE}{lo hi:Option Expr}{tl th:TO}{pos p2:Pos}
theorem Y2:PO X none bZ3:=by
 intro pins s σ H Q I h;rw[evalPart_none];exact bWM ⟨none,H,I,.none,h⟩
theorem Y3(h:PE X e te):PO X (some e) (bV3 te):=by
 intro pins s σ H Q I hw;rw[evalPart_some];refine thn (h pins s σ H _ I hw) λu s1 ⟨x,H1,I1,r1,q1⟩=>?_;obtain⟨i,rfl,q⟩:=q1;obtain⟨t,rfl⟩:=r1;exact⟨some i,H1,I1,.int i t,q⟩
def SlR(X:Cx)(r:V->Option Int->Option Int->Hp->VK->Prop):Prop:=
 ∀ (pins:List (Addr×Obj))(s:bWJ)(σ:St)(H:Hp)(x:V)(v c b:bWG)(lo hi:Option Int)(a:Addr)(Q:VK),Inv X pins σ H s->xZ x v->s.heap.IsSliceOf a c b .none->IsPart c lo->IsPart b hi->r x lo hi H Q->
  ∃T id,typeLookup (.type T) "__getitem__"=pure (some (.builtin id))/\s.TypeIs v T/\bWO (bWQ X.prog X.w) X.A (getItem v (.ref a)) (EP X pins σ Q) X.xe s
def tSl(r:V->Option Int->Option Int->Hp->VK->Prop)(te:TE)(tl th:TO):TE:=λσ H Q=>te σ H λx H1=>tl σ H1 λl H2=>th σ H2 λu a=>r x l u a Q
theorem uP{r:V->Option Int->Option Int->Hp->VK->Prop}(f:SlR X r)(i:PE X e te)(hl:PO X lo tl)(d:PO X hi th):PE X (.Subscript e (.Slice lo hi none p2) pos) (tSl r te tl th):=by
 intro pins s σ H Q I h;refine Subscript_ (thn (i pins s σ H _ I h) λv s1 ⟨x,H1,I1,r1,q1⟩=>?_);refine wpAny_Slice (thn (hl pins s1 σ H1 _ I1 q1) λvl s2 ⟨l,H2,I2,pl,q2⟩=>thn (d pins s2 σ H2 _ I2 q2) λvu s3 ⟨u,H3,I3,pu,q3⟩=>?_);rw[evalPart_none];refine bWM ?_;have c:Inv X pins σ H3 {s3 with heap:=s3.heap.push {cls:= .type "slice",data:= .fields #[vl,vu,.none] } }:=I3.kept (t':=s3.toks) λb k q=>bWL _ q;obtain⟨T,id,j,g,a⟩:=f pins {s3 with heap:=s3.heap.push {cls:= .type "slice",data:= .fields #[vl,vu,.none] } } σ H3 x v vl vu l u s3.heap.objs.size Q c r1 (Heap.IsSliceOf.new ..) pl pu q3;show bWO (bWQ X.prog X.w) X.A (subscriptTail e (.Slice lo hi none p2) v (.ref s3.heap.objs.size)) (EP X pins σ Q) X.xe {s3 with heap:=s3.heap.push {cls:= .type "slice",data:= .fields #[vl,vu,.none] } };exact tail_any (ops:= [.ref s3.heap.objs.size,v]) g j a (by with_unfolding_all rfl)
def qK(xs:List V)(lo hi:Option Int):List V:=(xs.drop (HT.sIx xs.length 0 lo)).take (HT.sIx xs.length xs.length hi - HT.sIx xs.length 0 lo)
theorem aX8(xs:List V)(lo hi:Option Int):(qK xs lo hi).length<=xs.length:=by
 unfold qK;rw[bKz,bYu];omega
end
end L2
namespace L2
open PySem PySem.Spec PyProof.Rows
def ixN(n:Nat)(i:Int):Option Nat:=if 0<=i then(if i<n then some i.toNat else none)else if -(n:Int)<=i then some (i+n).toNat else none
def atI{α:Type}(xs:List α)(i:Int):Option α:=(ixN xs.length i).bind λj=>xs[j]?
theorem aWt{n:Nat}{i:Int}{j:Nat}(h:ixN n i=some j):seqIndex? i n=some j/\j<n/\ -(n:Int)<=i/\i<n:=by
 unfold ixN at h;by_cases h0:0<=i
 ·rw[if_pos h0]at h;by_cases h1:i<n
  ·rw[if_pos h1]at h;have e:i.toNat=j:=bWX h;exact⟨by rw[seqIndex_of h0 h1,e],by omega,by omega,h1⟩
  ·rw[if_neg h1]at h;cases h
 ·rw[if_neg h0]at h;by_cases h1: -(n:Int)<=i
  ·rw[if_pos h1]at h;have e:(i+n).toNat=j:=bWX h;exact⟨by rw[seqIndex_neg (by omega) h1,e],by omega,h1,by omega⟩
  ·rw[if_neg h1]at h;cases h
theorem aVW{α:Type}{xs:List α}{i:Int}{v:α}(h:atI xs i=some v):∃j,seqIndex? i xs.length=some j/\xs[j]? =some v/\j<xs.length/\ -(xs.length:Int)<=i/\i<xs.length:=by
 unfold atI at h;cases e:ixN xs.length i with
 |none=>rw[e]at h;cases h
 |some j=>rw[e]at h;obtain⟨h1,h2,b,a⟩:=aWt e;exact⟨j,h1,h,h2,b,a⟩
theorem yV{α:Type}{xs:List α}{j:Nat}{v:α}(h:xs[j]? =some v):atI xs (j:Int)=some v:=by
 have a:j<xs.length:=(bWP.mp h).1;have e:ixN xs.length (j:Int)=some j:=by unfold ixN;rw[if_pos (by omega),if_pos (by omega)];simp
 unfold atI;rw[e];exact h
def bXG(b:Expr):Prop:=∀o i,subscripted b false o i=operate [o,i] (getItem o i)
def IxR(X:Cx)(r:R2):Prop:=
 ∀ (value a:Expr)(pins:List (Addr×Obj))(s:bWJ)(σ:St)(H:Hp)(x y:V)(v u:bWG)(Q:VK),Inv X pins σ H s->xZ x v->xZ y u->r x y H Q->
  subscripted a false v u=operate [v,u] (getItem v u)->bWO (bWQ X.prog X.w) X.A (subscriptTail value a v u) (EP X pins σ Q) X.xe s
def MtR(X:Cx)(id:String)(r:V->List V->Hp->VK->Prop):Prop:=
 ∀ (pins:List (Addr×Obj))(s:bWJ)(σ:St)(H:Hp)(x:V)(xs:List V)(v:bWG)(a:List bWG)(Q:VK),Inv X pins σ H s->xZ x v->xK xs a->r x xs H Q->
  bWO (bWQ X.prog X.w) X.A (call (.builtin id) (v::a)) (EP X pins σ Q) X.xe s
section
variable {X:Cx}{a b:Expr}{ta tb:TE}{pos:Pos}
theorem yN{r:R2}(k:IxR X r)(d:PE X a ta)(c:PE X b tb)(i:bXG b:=by exact λ_ _=>rfl):PE X (.Subscript a b pos) (tOp r ta tb):=by
 intro pins s σ H Q I h;exact Subscript_ (bVD d c I h λv u e x y H2 f g j q=>k a b pins e σ H2 x y v u Q f g j q (i _ _))
inductive bWc(K:bWI)(x:V)(y:V)(H:Hp)(Q:VK):Prop|mk (p xs i v) (_:x= .ref p) (_:y= .int i) (_:SqL K H p xs) (_:atI xs i=some v) (_:Q v H)
inductive bWd(K:bWI)(x:V)(y:V)(H:Hp)(Q:VK):Prop|mk (p xs i v) (_:x= .ref p) (_:y= .int i) (_:SqT K H p xs) (_:atI xs i=some v) (_:Q v H)
theorem yL:IxR X (bWc X.K):=by
 intro value f pins s σ H x y v u Q I m n h g;obtain⟨p,xs,i,z,rfl,rfl,l,A,q⟩:=h;cases m;obtain⟨t,rfl⟩:=n;obtain⟨e,r,c,D⟩:=I.list l;obtain⟨j,h1,h2,E,o,B⟩:=aVW A;obtain⟨w,k,b⟩:=r.get h2;have hl:=r.length;have C:=aJb;have a:EP X pins σ Q w s:=⟨z,H,I,b,q⟩;by_cases h0:0<=i
 ·have d:i.toNat=j:=by
   rw[seqIndex_of h0 B]at h1;exact bWX h1
  exact item_listR c.isList h0 (by omega) (by rw[d];simpa using k) a g
 ·have d:(i+(e.toArray.size:Int)).toNat=j:=by
   rw[seqIndex_neg (by omega) o]at h1;rw[bWZ,<- hl];exact bWX h1
  exact subscriptTail_builtinR (x:=w) c.isList.typeIs slot_list_getitem.lookup
   (wpAny_getItem_list_neg (Q:=λr s'=>r=w/\EP X pins σ Q r s') c.isList (by omega) (by rw[bWZ]<;> omega) (by omega) (by rw[d];simpa using k) ⟨rfl,a⟩) g
theorem xG:IxR X (bWd X.K):=by
 intro value c pins s σ H x y v u Q I f k h g;obtain⟨p,xs,i,z,rfl,rfl,e,m,q⟩:=h;cases f;obtain⟨t,rfl⟩:=k;obtain⟨l,r,d,A⟩:=I.tuple e;obtain⟨j,h1,h2,B,C,D⟩:=aVW m;obtain⟨w,n,b⟩:=r.get h2;have hl:=r.length;have o:=aJb;have a:EP X pins σ Q w s:=⟨z,H,I,b,q⟩;exact subscriptTail_builtinR (x:=w) d.typeIs slot_tuple_getitem.lookup
  (getItem_tuple (j:=j) (Q:=λr s'=>r=w/\EP X pins σ Q r s') d (by omega) (by omega) (by rw[bWZ,<- hl];exact h1) (by simpa using n) ⟨rfl,a⟩) g
theorem aJ5(its:List bWG)(n j:Nat)(u:bWG):bKu (·.setIfInBounds j u) {cls:= .type "list",data:= .seq its.toArray n}= {cls:= .type "list",data:= .seq (its.set j u).toArray n}:=by
 simp[bKu]
theorem Inv.lst{pins:List (Addr×Obj)}{σ:St}{H:Hp}{s:bWJ}{p:Addr}{xs:List V}(I:Inv X pins σ H s)(h:H p=some (.lst xs)): ∃ (its:List bWG)(n:Nat),xK xs its/\s.heap.get? p=some {cls:= .type "list",data:= .seq its.toArray n}/\xs.length<=bKb:=by
 obtain⟨z,its,n,r,e⟩:=I.hok p _ h;exact⟨its,n,r,e,z⟩
theorem Inv.lstUpd{pins:List (Addr×Obj)}{σ:St}{H:Hp}{s:bWJ}{p:Addr}{xs ys:List V}{its its':List bWG}{n a:Nat}{f:Obj->Obj}(I:Inv X pins σ H s)(h:H p=some (.lst xs)) (i:s.heap.get? p=some {cls:= .type "list",data:= .seq its.toArray n}) (c:f {cls:= .type "list",data:= .seq its.toArray n}= {cls:= .type "list",data:= .seq its'.toArray a}) (r:xK ys its') (g:ys.length<=bKb) (t:Nat): Inv X pins σ (upd H p (.lst ys)) {s with heap:=s.heap.update p f,toks:=t}:=by
 have e:(s.heap.update p f).get? p=some {cls:= .type "list",data:= .seq its'.toArray a}:=by rw[bKG f i (by rw[c]<;> rfl),c]
 refine I.write (x:=p) (e:=p) (by rw[h];trivial) (.inl rfl) (λb u d q=>(bKe _ _ (bKl d)).trans q) ⟨_,e⟩ ?_;exact⟨g,its',a,r,e⟩
inductive bVO(o:V)(i:V)(v:V)(H:Hp)(Q:(Hp->Prop)):Prop|mk (p xs k j) (_:o= .ref p) (_:i= .int k) (_:H p=some (.lst xs)) (_:ixN xs.length k=some j) (_:Q (upd H p (.lst (xs.set j v))))
theorem aQT:bV9 X bVO:=by
 intro pins s σ H o i v A B u Q I w l x h;obtain⟨p,xs,k,j,rfl,rfl,e,y,q⟩:=h;cases w;obtain⟨t,rfl⟩:=l;obtain⟨a,n,r,c,m⟩:=I.lst e;obtain⟨h1,h2,d,f⟩:=aWt y;have hl:=r.length;have z:=aJb;have g:Inv X pins σ (upd H p (.lst (xs.set j v))) {s with heap:=s.heap.update p (bKu (·.setIfInBounds j u)) }:=
  I.lstUpd e c (aJ5 a n j u) (r.set x j) (by rw[List.length_set];exact m) s.toks
 by_cases h0:0<=k
 ·have b:k.toNat=j:=by
   rw[seqIndex_of h0 f]at h1;exact bWX h1
  exact PySem.W.ki_setAt c h0 (by omega) (by rw[bWZ,<- hl];exact f) (by rw[b];exact⟨_,g,q⟩)
 ·have b:(k+(a.toArray.size:Int)).toNat=j:=by
   rw[seqIndex_neg (by omega) d]at h1;rw[bWZ,<- hl];exact bWX h1
  exact PySem.W.ki_setBack c (by omega) (by rw[bWZ,<- hl];exact d) (by omega) (by rw[b];exact⟨_,g,q⟩)
theorem aXT(lo hi:Option Int)(n:Nat):(cQ0 lo hi none n).1=((HT.sIx n 0 lo:Nat):Int)/\(cQ0 lo hi none n).2.1=((HT.sIx n n hi:Nat):Int)/\(cQ0 lo hi none n).2.2=1:=by
 refine⟨?_,?_,rfl⟩
 ·cases lo with
  |none=>simp[cQ0,HT.sIx]
  |some i=>
   simp only[cQ0,HT.sIx,Option.getD_none,show(1:Int) > 0 by decide,if_true];by_cases h:i<0
   ·simp only[h,if_true]<;> omega
   ·simp only[h,if_false]<;> omega
 ·cases hi with
  |none=>simp[cQ0,HT.sIx]
  |some i=>
   simp only[cQ0,HT.sIx,Option.getD_none,show(1:Int) > 0 by decide,if_true];by_cases h:i<0
   ·simp only[h,if_true]<;> omega
   ·simp only[h,if_false]<;> omega
theorem aQU(its:List bWG)(lo hi:Option Int):slicePick its.toArray lo hi none=((its.drop (HT.sIx its.length 0 lo)).take (HT.sIx its.length its.length hi - HT.sIx its.length 0 lo)).toArray:=by
 obtain⟨h1,h2,a⟩:=aXT lo hi its.toArray.size;unfold slicePick;rw[h1,h2,a];simp only[sliceRange_one,pick_run,bWZ]<;> rfl
inductive bWu(K:bWI)(x:V)(lo:Option Int)(hi:Option Int)(H:Hp)(Q:VK):Prop|mk (a xs) (_:x= .ref a) (_:SqL K H a xs) (_:∀p,H p=none->Q (.ref p) (upd H p (.lst (qK xs lo hi))))
theorem Z0:SlR X (bWu X.K):=by
 intro pins s σ H x v p m lo hi t Q I i j k f h;obtain⟨a,xs,rfl,g,q⟩:=h;cases i;obtain⟨l,r,d,e⟩:=I.list g;have c:=r.length;refine⟨"list",_,slot_list_getitem.lookup,d.isList.typeIs,?_⟩;refine wpAny_getItem_list_slice d.isList j k f .none (by simp) ?_ (by rw[bWZ]<;> omega);rw[aQU,<- c];refine⟨.ref s.heap.objs.size,_,I.laid (t':=s.toks) (o:= .lst (qK xs lo hi)) (λb n q=>bWL _ q) (bWN _) ?_,rfl,q _ (I.hok.fresh (bWN _))⟩;exact⟨bKh (aX8 xs lo hi) e,_,0,(r.drop (HT.sIx xs.length 0 lo)).take (HT.sIx xs.length xs.length hi - HT.sIx xs.length 0 lo),bW4 _ rfl⟩
def jS:V->Bool
 |.non=>true
 |.bl _=>true
 |.int _=>true
 |.str _=>true
 |_=>false
def eqV:V->V->Bool
 |.non,.non=>true
 |.bl a,.bl b=>a==b
 |.bl a,.int b=>(if a then 1 else 0)==b
 |.int a,.bl b=>a==(if b then 1 else 0)
 |.int a,.int b=>a==b
 |.str a,.str b=>a==b
 |_,_=>false
theorem bQ8{A:bKk}{s:bWJ}{y x:V}{u v:bWG}(f:xZ y u)(c:xZ x v)(g:jS y=true)(e:jS x=true):cX5 A s u v (eqV y x):=by
 cases y with
 |non=>
  cases f;cases x with
  |non=>cases c;exact SeqAt.EqAt.same _
  |bl b=>cases c;exact SeqAt.EqAt.none_bool b
  |int b=>obtain⟨t,rfl⟩:=c;exact SeqAt.EqAt.none_int b t
  |str b=>obtain⟨t,rfl⟩:=c;exact SeqAt.EqAt.none_str b t
  |_=>exact absurd (show false=true from e) Bool.false_ne_true
 |bl a=>
  cases f;cases x with
  |non=>cases c;exact SeqAt.EqAt.bool_none a
  |bl b=>cases c;exact SeqAt.EqAt.bool_bool a b
  |int b=>obtain⟨t,rfl⟩:=c;exact SeqAt.EqAt.bool_int a b t
  |str b=>obtain⟨t,rfl⟩:=c;exact SeqAt.EqAt.bool_str a b t
  |_=>exact absurd (show false=true from e) Bool.false_ne_true
 |int a=>
  obtain⟨d,rfl⟩:=f;cases x with
  |non=>cases c;exact SeqAt.EqAt.int_none a d
  |bl b=>cases c;exact SeqAt.EqAt.int_bool a d b
  |int b=>obtain⟨t,rfl⟩:=c;exact SeqAt.EqAt.int_int a d b t
  |str b=>obtain⟨t,rfl⟩:=c;exact SeqAt.EqAt.int_str a d b t
  |_=>exact absurd (show false=true from e) Bool.false_ne_true
 |str a=>
  obtain⟨d,rfl⟩:=f;cases x with
  |non=>cases c;exact SeqAt.EqAt.str_none a d
  |bl b=>cases c;exact SeqAt.EqAt.str_bool a d b
  |int b=>obtain⟨t,rfl⟩:=c;exact SeqAt.EqAt.str_int a d b t
  |str b=>obtain⟨t,rfl⟩:=c;exact SeqAt.EqAt.str_str a d b t
  |_=>exact absurd (show false=true from e) Bool.false_ne_true
 |_=>exact absurd (show false=true from g) Bool.false_ne_true
def eqU(x:V)(u:bWG):Bool:=match u with
 |.none=>eqV .non x
 |.bool b=>eqV (.bl b) x
 |.int i _=>eqV (.int i) x
 |.str z _=>eqV (.str z) x
 |_=>false
theorem bQ9{x y:V}{u:bWG}(r:xZ y u)(f:jS y=true):eqU x u=eqV y x:=by
 cases y with
 |non=>cases r;rfl
 |bl b=>cases r;rfl
 |int i=>obtain⟨t,rfl⟩:=r;rfl
 |str z=>obtain⟨t,rfl⟩:=r;rfl
 |_=>exact absurd (show false=true from f) Bool.false_ne_true
theorem qH{x:V}:∀ {xs:List V} {us:List bWG},xK xs us->xs.all jS=true->us.any (eqU x)=xs.any λy=>eqV y x
 |_,_,.nil,_=>rfl
 |y::xs,u::us,.cons r t,f=>by rw[cQR,Bool.and_eq_true]at f;rw[bYX,bYX,bQ9 r f.1,qH t f.2]
theorem uN{A:bKk}{s:bWJ}{x:V}{v:bWG}(c:xZ x v)(b:jS x=true):∀ {xs:List V} {us:List bWG},xK xs us->xs.all jS=true->∀u∈us,cX5 A s u v (eqU x u)
 |_,_,.nil,_=>λu a=>by cases a
 |y::xs,u::us,.cons r t,f=>λd a=>by
  rw[cQR,Bool.and_eq_true]at f;rcases bWU.mp a with rfl|a
  ·rw[bQ9 r f.1];exact bQ8 r c f.1 b
  ·exact uN c b t f.2 d a
def inV(x:V)(xs:List V):Bool:=xs.any λy=>eqV y x
inductive rIn(K:bWI)(neg:Bool)(x:V)(y:V)(H:Hp)(Q:VK):Prop|mk (p xs) (_:y= .ref p) (_:(SqL K H p xs\/SqT K H p xs)) (_:jS x=true) (_:xs.all jS=true) (_:Q (.bl (if neg then !inV x xs else inV x xs)) H)
theorem aXD:OpR X (bYd .In) (rIn X.K false):=by
 intro pins s σ H x y v u Q I d g h;obtain⟨p,xs,rfl,b,e,fs,q⟩:=h;cases g;rcases b with b|b
 ·obtain⟨a,r,c,f⟩:=I.list b;refine SeqAt.in_listAt (eqU x) c.isList (λw hw=>uN d e r fs w (by simpa using hw)) ⟨.bl _,H,I,rfl,?_⟩;rw[show a.toArray.any (eqU x)=a.any (eqU x) by simp,qH r fs];exact q
 ·obtain⟨a,r,c,f⟩:=I.tuple b;refine SeqAt.in_tupleAt (eqU x) c (λw hw=>uN d e r fs w (by simpa using hw)) ⟨.bl _,H,I,rfl,?_⟩;rw[show a.toArray.any (eqU x)=a.any (eqU x) by simp,qH r fs];exact q
theorem jP:OpR X (bYd .NotIn) (rIn X.K true):=by
 intro pins s σ H x y v u Q I d g h;obtain⟨p,xs,rfl,b,e,fs,q⟩:=h;cases g;rcases b with b|b
 ·obtain⟨a,r,c,f⟩:=I.list b;refine SeqAt.notIn_listAt (eqU x) c.isList (λw hw=>uN d e r fs w (by simpa using hw)) ⟨.bl _,H,I,rfl,?_⟩;rw[show a.toArray.any (eqU x)=a.any (eqU x) by simp,qH r fs];exact q
 ·obtain⟨a,r,c,f⟩:=I.tuple b;refine SeqAt.notIn_tupleAt (eqU x) c (λw hw=>uN d e r fs w (by simpa using hw)) ⟨.bl _,H,I,rfl,?_⟩;rw[show a.toArray.any (eqU x)=a.any (eqU x) by simp,qH r fs];exact q
inductive aQh(K:bWI)(xs:List V)(H:Hp)(Q:VK):Prop|mk (p ys) (_:xs= [.ref p]) (_:(SqL K H p ys\/SqT K H p ys)) (_:Q (.int ys.length) H)
theorem yM:uY X (.builtin "len") (aQh X.K):=by
 intro pins s σ H xs j Q I r h;obtain⟨p,ys,rfl,b,q⟩:=h;obtain⟨u,rfl,g⟩:=jU r;cases g;have i:=aJb;rcases b with b|b
 ·obtain⟨e,d,c,f⟩:=I.list b;have a:=d.length;exact Calls.call_len_list c.isList (by simp only[bWZ]<;> omega) ⟨.int ys.length,H,I.tok _,⟨s.toks+1,by rw[bWZ,a]⟩,q⟩
 ·obtain⟨e,d,c,f⟩:=I.tuple b;have a:=d.length;exact len_tuple c (by simp only[bWZ]<;> omega) ⟨.int ys.length,H,I.tok _,⟨s.toks+1,by rw[bWZ,a]⟩,q⟩
inductive aQj(K:bWI)(xs:List V)(H:Hp)(Q:VK):Prop|mk (p ys) (_:xs= [.ref p]) (_:(SqL K H p ys\/SqT K H p ys)) (_:∀l,H l=none->Q (.ref l) (upd H l (.lst ys)))
theorem aXd:uY X (.type "list") (aQj X.K):=by
 intro pins s σ H xs y Q I r h;obtain⟨p,ys,rfl,i,q⟩:=h;obtain⟨u,rfl,x⟩:=jU r;cases x;have g:∀ (a:List bWG),xK ys a->ys.length<=bKb->∀ (h':Heap)(d:Nat),(∀b o',s.heap.get? b=some o'->h'.get? b=some o')->
   h'.get? s.heap.objs.size=some {cls:= .type "list",dict:=none,data:= .seq a.toArray d,slots:= #[] }->EP X pins σ Q (.ref s.heap.objs.size) {s with heap:=h'}:=λa c f h' d k e=>
  ⟨.ref s.heap.objs.size,_,I.laid (t':=s.toks) k (bWN _) (show x5 X.prog X.w _ h' _ (.lst ys)from⟨f,a,d,c,e⟩),rfl,q _ (I.hok.fresh (bWN _))⟩
 rcases i with i|i
 ·obtain⟨a,c,m,f⟩:=I.list i;have j:=c.length;obtain⟨o,t,v,n,l⟩:=m.isList;exact call_list_seq p (.inl rfl) t v l (λh' d k e=>g a c f h' d k e) (by simp only[bWZ]<;> omega)
 ·obtain⟨a,c,m,f⟩:=I.tuple i;have j:=c.length;obtain⟨o,t,v,n,l⟩:=m;exact call_list_seq p (.inr rfl) t v l (λh' d k e=>g a c f h' d k e) (by simp only[bWZ]<;> omega)
def tyV(K:bWI)(T:String)(x:V)(H:Hp):Prop:=match x with
 |.str _=>T="str"
 |.int _=>T="int"
 |.ref p=>(T="list"/\∃xs,SqL K H p xs)\/(T="tuple"/\∃o,K.lookup p=some o/\o.cls= .type "tuple"/\o.dict=none)\/
   (T="dict"/\((∃a,H p=some (.dK a))\/∃a,H p=some (.dT a)))\/(T="set"/\∃S n,H p=some (.set S n))
 |_=>False
theorem bXx{pins:List (Addr×Obj)}{σ:St}{H:Hp}{s:bWJ}{T:String}{x:V}{v:bWG}(I:Inv X pins σ H s)(r:xZ x v)(ty:tyV X.K T x H): s.TypeIs v T/\∀a,v= .ref a->∃h,s.heap.get? a=some h/\h.dict=none:=by
 cases x with
 |str z=>obtain⟨t,rfl⟩:=r;cases (show T="str" from ty);exact⟨typeIs_str s z t,λ_ e=>nomatch e⟩
 |int i=>obtain⟨t,rfl⟩:=r;cases (show T="int" from ty);exact⟨typeIs_int s i t,λ_ e=>nomatch e⟩
 |ref p=>
  cases r;rcases ty with⟨rfl,xs,k⟩|⟨rfl,o,b,m,f⟩|⟨rfl,b⟩|⟨rfl,S,n,b⟩
  ·obtain⟨l,_,j,_⟩:=I.list k;refine⟨j.isList.typeIs,λa e=>?_⟩;cases e;obtain⟨o,n,e,c,f,_⟩:=j;exact⟨o,e,f⟩
  ·refine⟨⟨o,I.kIn p o b,m⟩,λa e=>?_⟩;cases e;exact⟨o,I.kIn _ o b,f⟩
  ·have z:∃o,s.heap.get? p=some o/\o.ExactDict:=by
    rcases b with⟨d,b⟩|⟨d,b⟩
    ·obtain⟨_,_,_,_,o,_,_,e,ex,_⟩:=I.hok p _ b;exact⟨o,e,ex⟩
    ·obtain⟨_,_,_,_,o,_,_,e,ex,_⟩:=I.hok p _ b;exact⟨o,e,ex⟩
   obtain⟨o,e,ex⟩:=z;refine⟨⟨o,e,ex.1⟩,λa g=>?_⟩;cases g;exact⟨o,e,ex.2.1⟩
  ·obtain⟨o,_,_,_,e,ex,_⟩:=I.hok p _ b;refine⟨⟨o,e,ex.1⟩,λa g=>?_⟩;cases g;exact⟨o,e,ex.2.1⟩
 |_=>exact bYe ty
inductive bVX(K:bWI)(T:String)(r:V->List V->Hp->VK->Prop)(Q:VK)(x:V)(H1:Hp):Prop|mk (_:tyV K T x H1) (_:r x [] H1 Q)
def bWy(K:bWI)(T:String)(r:V->List V->Hp->VK->Prop)(to:TE):TE:=λσ H Q=>to σ H λx H1=>bVX K T r Q x H1
inductive bWz(K:bWI)(T:String)(r:V->List V->Hp->VK->Prop)(t:TA)(σ:St)(Q:VK)(x:V)(H1:Hp):Prop|mk (_:tyV K T x H1) (_:t σ H1 λxs H2=>r x xs H2 Q)
def tBM(K:bWI)(T:String)(r:V->List V->Hp->VK->Prop)(to:TE)(t:TA):TE:=λσ H Q=>to σ H λx H1=>bWz K T r t σ Q x H1
variable {o e:Expr}{es:List Expr}{to:TE}{t:TA}{name:Str}{apos cpos:Pos}{T id:String}{r:V->List V->Hp->VK->Prop}
theorem bJO(e:PlainAttrs T)(c:Slot T name id)(d:typeOf (.builtin id)=pure (.type "method_descriptor"))(f:MtR X id r)(g:PE X o to) (b:cXi o name X.env (eval o X.env)=eval o X.env:=by rfl) (a:(apos.endLine==cpos.line)=true:=by rfl):PE X (.Call (.Attribute o name apos) [] [] cpos) (bWy X.K T r to):=by
 intro pins s σ H Q I h;refine wpAny_Call_method0_late b a (thn (g pins s σ H _ I h) λv s1 ⟨x,H1,I1,r1,ty,q1⟩=>?_);obtain⟨h1,h2⟩:=bXx I1 r1 ty;exact⟨T,id,e,c,d,h1,h2,Calls.callWith_builtin rfl (PySem.evalArgs_none (f pins s1 σ H1 x [] v [] Q I1 r1 .nil q1))⟩
theorem vJ(n:PlainAttrs T)(f:Slot T name id)(g:typeOf (.builtin id)=pure (.type "method_descriptor"))(l:MtR X id r)(m:PE X o to)(j:PA X (e::es) t)
  (c:cXi o name X.env (eval o X.env)=eval o X.env:=by rfl)
  (d:((bYD cpos (bKi (e::es) X.env)).all (λx=> !x.1) && (backToKw cpos (cQB [] X.env)).all (λx=>x.1.isSome) && decide ((e::es).length+([]:List Keyword).length+(if([]:List Keyword).isEmpty then 0 else 1)<30))=true:=by rfl)
  (b:(apos.endLine==cpos.line)=true:=by rfl) (k:bKi (e::es) X.env=(false,eval e X.env)::bKi es X.env:=by rfl) (a:(bYD cpos (bKi es X.env)).any (·.1)=false:=by rfl):
  PE X (.Call (.Attribute o name apos) (e::es) [] cpos) (tBM X.K T r to t):=by
 intro pins s σ H Q I h
 refine wpAny_Call_method_late c d b rfl (thn (m pins s σ H _ I h) λv s1 ⟨x,H1,I1,r1,ty,q1⟩=>?_)
 obtain⟨h1,h2⟩:=bXx I1 r1 ty
 refine⟨T,id,n,f,g,h1,h2,?_⟩
 have i:=j cpos pins s1 σ H1 _ I1 q1
 rw[k]at i ⊢
 refine Calls.callWith_builtin (by show(false || (bYD cpos (bKi es X.env)).any (·.1))=false;rw[a]<;> rfl) (Calls.evalArgs_plain ?_)
 exact thn i λus s2 ⟨vs,H2,I2,r2,q2⟩=>l pins s2 σ H2 x vs v us Q I2 r1 r2 q2
end
end L2
namespace L2
open PySem PySem.Spec PyProof.Rows
def MtM(X:Cx)(id:String)(r:V->List V->Hp->VK->Prop):Prop:=
 ∀ (pins:List (Addr×Obj))(s:bWJ)(σ:St)(H:Hp)(x:V)(xs:List V)(v:bWG)(a:List bWG)(Q:VK),Inv X pins σ H s->xZ x v->xK xs a->r x xs H Q->
  bWO (bWQ X.prog X.w) X.A (call (.builtin id) (v::a)) (EP X pins σ Q) X.xe s
theorem xK.one:∀ {x:V} {us:List bWG},xK [x] us->∃u,us= [u]/\xZ x u
 |_,_,.cons r .nil=>⟨_,rfl,r⟩
theorem xK.two:∀ {x y:V} {us:List bWG},xK [x,y] us->∃u v,us= [u,v]/\xZ x u/\xZ y v
 |_,_,_,.cons r (.cons q .nil)=>⟨_,_,rfl,r,q⟩
theorem xK.zero:∀ {us:List bWG},xK [] us->us= []
 |_,.nil=>rfl
theorem xK.dropLast{xs:List V}{us:List bWG}(h:xK xs us):xK xs.dropLast us.dropLast:=by
 induction h with
 |nil=>exact .nil
 |cons r t a=>
  cases t with
  |nil=>exact .nil
  |cons q b=>exact .cons r a
theorem xK.reverse{xs:List V}{us:List bWG}(h:xK xs us):xK xs.reverse us.reverse:=by
 induction h with
 |nil=>exact .nil
 |cons r t a=>rw[List.reverse_cons,List.reverse_cons];exact xK.append a (.cons r .nil)
theorem aJU{α:Type}(l:List α):l.eraseIdx (l.length - 1)=l.dropLast:=by
 induction l with
 |nil=>rfl
 |cons a r c=>
  cases r with
  |nil=>rfl
  |cons b r=>
   have e:(a::b::r).length - 1=((b::r).length - 1)+1:=by have h1:(a::b::r).length=r.length+2:=rfl;have h2:(b::r).length=r.length+1:=rfl;omega
   rw[e,List.eraseIdx_cons_succ,c];all_goals rfl
section
variable {X:Cx}{pins:List (Addr×Obj)}{σ:St}{H:Hp}{s:bWJ}{l b:Addr}{xs ys zs:List V}
theorem Inv.lset{its its':List bWG}{n:Nat}{f:Array bWG->Array bWG}{t':Nat}(I:Inv X pins σ H s)(h:H l=some (.lst xs)) (e:s.heap.get? l=some {cls:= .type "list",data:= .seq its.toArray n}) (g:f its.toArray=its'.toArray) (d:xK ys its') (b:ys.length<=bKb): Inv X pins σ (upd H l (.lst ys)) {s with heap:=s.heap.update l (bKu f),toks:=t'}:=by
 have q:=PySem.IsL.update e f;rw[g]at q;refine I.write (x:=l) (e:=l) (by rw[h];exact trivial) (.inl rfl) (λi u a c=>(bKe s.heap (bKu f) (bKl a)).trans c) ⟨_,q⟩ ?_;exact⟨b,its',_,d,q⟩
theorem Inv.lnew{its:List bWG}{t':Nat}(I:Inv X pins σ H s)(a:xK ys its)(hz:ys.length<=bKb): Inv X pins σ (upd H s.heap.objs.size (.lst ys)) {s with heap:=s.heap.push {cls:= .type "list",data:= .seq its.toArray},toks:=t'}:=
 I.laid (λ_ _ q=>bWL _ q) (bWN _) ⟨hz,its,0,a,bW4 _ rfl⟩
theorem Inv.fresh(I:Inv X pins σ H s):H s.heap.objs.size=none:=I.hok.fresh (bWN _)
theorem Inv.lstM(I:Inv X pins σ H s)(a:H l=some (.lst xs)):xs.length<=bKb/\∃ (its:List bWG)(n:Nat),xK xs its/\xs.length=its.length/\s.heap.get? l=some {cls:= .type "list",data:= .seq its.toArray n}:=by
 obtain⟨z,its,n,r,e⟩:=I.hok l _ a;exact⟨z,its,n,r,r.length,e⟩
theorem aYP{n:Nat}(h:n<=bKb):cQ4 n=false:=by
 unfold cQ4;exact decide_eq_false (by omega)
end
section
variable {X:Cx}
inductive aW9(x:V)(vs:List V)(H:Hp)(Q:VK):Prop|mk (l xs y) (_:x= .ref l) (_:vs= [y]) (_:H l=some (.lst xs)) (_:xs.length<bKb) (_:Q .non (upd H l (.lst (xs++ [y]))))
theorem y8:MtM X "list.append" aW9:=by
 intro pins s σ H x j v i Q I d c h;obtain⟨l,xs,y,rfl,rfl,b,g,q⟩:=h;cases d;obtain⟨u,rfl,f⟩:=c.one;obtain⟨z,a,n,r,hl,e⟩:=I.lstM b;refine call_meets F.slot_list_append ⟨_,e,rfl⟩ F.entry_list_append (F.args_list_append_2 _ _) (PySem.list_append l a.toArray n u (by rw[bWZ];omega)) ⟨e,?_⟩;refine⟨.non,_,I.lset (its':=a++ [u]) b e (by simp) (r.append (.cons f .nil)) ?_,rfl,q⟩;rw[bWW,bKY];omega
inductive bZz(x:V)(vs:List V)(H:Hp)(Q:VK):Prop|mk (l b xs zs) (_:x= .ref l) (_:vs= [.ref b]) (_:H l=some (.lst xs)) (_:H b=some (.lst zs)) (_:xs.length+zs.length<=bKb) (_:Q .non (upd H l (.lst (xs++zs))))
theorem aWI:MtM X "list.extend" bZz:=by
 intro pins s σ H x B v A Q I m k h;obtain⟨l,b,xs,zs,rfl,rfl,g,w,y,q⟩:=h;cases m;obtain⟨u,rfl,o⟩:=k.one;cases o;obtain⟨z,c,n,r,hl,e⟩:=I.lstM g;obtain⟨z2,a,i,j,p,t⟩:=I.lstM w;have f:c.toArray.size+a.toArray.size<=bKb:=by rw[bWZ,bWZ];omega
 have d:¬ (!c.toArray.isEmpty && cQ4 (c.toArray.size+a.toArray.size))=true:=by rw[aYP f,Bool.and_false];exact Bool.false_ne_true
 refine call_meets F.slot_list_extend ⟨_,e,rfl⟩ F.entry_list_extend (F.args_list_extend_2 _ _)
  (AutoSeq1.list_extend_list_list_0 l c.toArray n b a.toArray i d (by rw[bWZ];omega) (by omega)) ⟨e,t,?_⟩
 refine⟨.non,_,I.lset (its':=c++a) g e (by simp) (r.append j) ?_,rfl,q⟩;rw[bWW];omega
inductive bWt(x:V)(vs:List V)(H:Hp)(Q:VK):Prop|mk (l xs y) (_:x= .ref l) (_:vs= []) (_:H l=some (.lst xs)) (_:xs[xs.length - 1]? =some y) (_:Q y (upd H l (.lst xs.dropLast)))
theorem bJz:MtM X "list.pop" bWt:=by
 intro pins s σ H x o v m Q I g f h;obtain⟨l,xs,y,rfl,rfl,d,j,q⟩:=h;cases g;have c:=f.zero;subst c;obtain⟨z,a,n,r,hl,e⟩:=I.lstM d;obtain⟨u,i,k⟩:=r.get j;have b:a.toArray[a.toArray.size - 1]? =some u:=by show a.toArray[a.length - 1]? =some u;rw[<- bK5,<- hl];exact i
 refine call_meets F.slot_list_pop ⟨_,e,rfl⟩ F.entry_list_pop (F.args_list_pop_1 _) (MeetsSeq.list_pop_last l a.toArray n u b (by rw[bWZ];omega)) ⟨e,?_⟩;refine⟨y,_,I.lset (its':=a.dropLast) d e ?_ r.dropLast ?_,k,q⟩
 ·show a.toArray.eraseIdxIfInBounds (a.toArray.size - 1)=a.dropLast.toArray;rw[bWZ,List.eraseIdxIfInBounds_toArray,aJU]
 ·rw[List.length_dropLast];omega
inductive bWs(x:V)(y:V)(H:Hp)(Q:VK):Prop|mk (l b xs zs) (_:x= .ref l) (_:y= .ref b) (_:H l=some (.lst xs)) (_:H b=some (.lst zs)) (_:xs.length+zs.length<=bKb) (_:∀p,H p=none->Q (.ref p) (upd H p (.lst (xs++zs))))
theorem qX:OpR X (binaryOp .Add) bWs:=by
 intro pins s σ H x y v u Q I f g h;obtain⟨l,b,xs,zs,rfl,rfl,o,m,p,q⟩:=h;cases f;cases g;obtain⟨z,c,n,r,hl,e⟩:=I.lstM o;obtain⟨z2,a,t,d,j,k⟩:=I.lstM m;refine PySem.P.add_list e k ?_ (by rw[bWZ,bWZ];omega);have i:c.toArray++a.toArray=(c++a).toArray:=by simp
 rw[i];exact⟨.ref _,_,I.lnew (t':=s.toks) (r.append d) (by rw[bWW];omega),rfl,q _ I.fresh⟩
end
section
variable {prog:bW3}{w:bKa}{A:bKk}{E:bWG->bWJ->Prop}{s:bWJ}
end
section
variable {X:Cx}
end
end L2
namespace Att
open PySem PySem.W PySem.Calls PyProof.Rows
theorem qM{P:Params}{h:Heap}:∀ (ns:List Int)(vs:List bWG),WellAll P h vs (ns.map WData.int)->cQa vs ns:=by
 intro ns;induction ns with
 |nil=>intro vs w;rw[List.map_nil]at w;cases w;exact .nil
 |cons n ns c=>
  intro vs w;rw[bKv]at w;cases w with
  |cons a b=>cases a;exact .cons _ _ (c _ b)
theorem aKH{l:OpenLaw}{n:Nat}(p:l.most=some n){P:Params}{h:Heap}{args:List WData}{vals:List bWG} (c:l.row.toRowW.claim.pre args=true) (k:WellAll P h vals args): ∃a m b,vals= [Value.ref a]/\args= [WData.list (b.map WData.int)]/\h.get? a=some {cls:= .type "list",data:= .seq m.toArray}/\cQa m b/\b.length<=n:=by
 have j:WShape.hasAll [] args [.list .int]=true:=(pre_splitW c).1;have o:l.pre.holds [] {args:=args}=true:=(pre_splitW c).2;obtain⟨d,r,rfl,h1,h2⟩:=hasAllW_cons j;obtain rfl:=hasAllW_nil h2;obtain⟨xs,rfl,t⟩:=hasW_list h1;obtain⟨b,rfl⟩:=items_int t;have e:b.length<=n:=by
  unfold OpenLaw.pre at o;have g:(WTm.not (.lt (.lit (.int (n:Int))) (.len (.arg 0)))).holds [] {args:= [.list (b.map .int)] }=true:=by have g:=(holds_andW o).1;rw[p]at g;exact g
  have i:=condW_of g (w_not (w_lt w_lit (w_len_list (w_arg rfl))));rw[bWK]at i;refine Nat.le_of_not_lt λq=>?_;have v:(n:Int)<((b.length:Nat):Int):=by omega
  first
   |(rw[decide_eq_true v]at i;exact absurd i (by decide))
   |(simp at i;omega)
 cases k with
 |cons s u=>
  cases u;cases s with
  |list w f=>exact⟨_,_,b,rfl,rfl,w,qM b _ f,e⟩
theorem aW6(l:OpenLaw)(args:List WData):l.row.toRowW.claim.post args (.bool true) args=true:=
 postW_of (r:=l.row.toRowW) (X:=(true==true))
  (show WShape.has [] (.bool true) .bool=true by first|rfl|decide|simp[WShape.has,WShape.arms,WShape.armsAll])
  (show(WTm.eq .res (.lit (.bool true))).value [] {args:=args,res:=some (.bool true),after:=args}=some (.bool (true==true))from w_eq_bool (w_res rfl) w_lit) rfl
theorem aX4{l:OpenLaw}{n:Nat}{q:bW3}{loose:List Str}{x:(Str->Option bWG)->Heap->Prop}{A:bKa->Heap->Prop}{d:DefRec} (B:l.most=some n) (s:d.params.defaults= []) (call:∀ (w:bKa)(s₀ b:bWJ)(mg v:Str->Option bWG)(h:Addr)(o:Obj)(p k e:bWG)(a:Addr)(vs:List bWG)(ns:List Int), Ground q loose [] x w s₀ mg v b.heap->A w b.heap-> b.heap.get? h=some o->o.data= .func (docDef d.name d.params d.body d.scope p k e)->b.heap.CodeRec k d.name->mg d.name=some (.ref h)-> b.heap.get? a=some {cls:= .type "list",data:= .seq vs.toArray}->cQa vs ns->ns.length<=n->b.gens= #[]-> bYV (bWQ l.prog w) callerA (.call (.ref h) ⟨[.ref a],[]⟩) (λr s'=>r= .ok (.ret (.bool true))/\OldK b.heap s'.heap/\s'.os=b.os/\AllBare s'.gens) b): WalkO q loose x A l.row.toRowW d [] (λf vs=>PySem.call f vs):=by
 intro w s₀ b mg v G Y h o p k e J kV K H m y t F args vals N i z C u M;obtain rfl:J= .none:=Dflts.none y s;obtain rfl:kV= .none:=Dflts.noKw y;obtain⟨a,vs,ns,rfl,rfl,g,c,j⟩:=aKH B i u;refine enter_call (bYx (call w s₀ b mg v h o p k e a vs ns G Y K (fd_plain H) m t g c j F) λr s' E=>?_);obtain⟨rfl,h2,D,L⟩:=E;exact⟨.inl ⟨.bool true,.bool true,[],rfl,λ_=>rfl,.bool true,aW6 l _,λ_=>⟨List.Pairwise.nil,λ_ I=>(nomatch I)⟩⟩,h2,D,L⟩
section
variable {prog:bW3}{w:bKa}{A:bKk}{E:bWG->bWJ->Prop}{s:bWJ}{K:Frag}
end
end Att
namespace L2
open PySem PySem.Spec PyProof.Rows
theorem wO:∀ {vs:List bWG} {ns:List Int},cQa vs ns->xK (ns.map V.int) vs
 |_,_,.nil=> .nil
 |_,_,.cons n t h=> .cons ⟨t,rfl⟩ (wO h)
end L2
namespace L2
open PySem PySem.Spec PyProof.Rows
end L2
namespace L2
open PySem PySem.Spec PyProof.Rows
def xH(s:Stmt):Arguments:=match s with
 |.FunctionDef _ a _ _ _ _ _ _ _ _=>a
 |_=>{posonlyargs:= [],args:= [],vararg:=none,kwonlyargs:= [],kw_defaults:= [],kwarg:=none,defaults:= [] }
def xA(s:Stmt):List Stmt:=match s with
 |.FunctionDef _ _ b _ _ _ _ _ _ _=>b
 |_=> []
def yD(s:Stmt):bYS:=match s with
 |.FunctionDef _ _ _ _ _ _ a _ _ _=>a
 |_=>{kind:= .function,names:= [],isGenerator:=false,isCoroutine:=false}
abbrev CX0:CXT:=λ_ _ _ _ _ _=>False
abbrev E0:XK:=λ_ _ _=>False
theorem vB{X:Cx}:wF CX0 X E0:=λ_ _ _ _ _ _ _ h=>h.elim
structure Fun(K:bWI)(x qual:Str)(st:Stmt)(f:Addr)(fd:bYF):Prop where
 ex:∃ (oc:bWG)(od:Option Addr)(kV doc pm:bWG)(an:Option Addr)(cdv ct:bWG)(osl:Array (Option bWG)),
  fd=bKF x qual (xH st) (xA st) (yD st) .none kV doc pm an cdv ct/\K.lookup f=some ⟨oc,od,.func fd,osl⟩/\bYq K cdv qual=true
 kp:bKy K (.ref f)=true
section
variable {P:bW3}{w:bKa}{K:bWI}{mg:Str->Option bWG}{base:Heap}
theorem Fun.ok{x qual:Str}{st:Stmt}{f:Addr}{fd:bYF}{N ps:List Str}{k:Nat}{sp:Sp}(F:Fun K x qual st f fd)(S:yJ N ps (yD st)) (b:∀ (a:bWG)(A:bKk)(outer:List Env)(s:bWJ)(H:Hp)(vs:List V)(Q:VK)(E:XK),wR k (A.deeper (bYE qual (yD st) s.heap.objs.size f a))->sp vs H Q E-> ∃t,PSs (aQl CX0 P w K mg base N qual (yD st) f a A outer s H E).nox (xA st) t/\t {nx:=λ_ H'=>Q .non H',rt:=Q} (start N vs) H) (len:∀vs H Q E,sp vs H Q E->vs.length=ps.length:=by intro _ _ _ _ h;first|(cases h;subst_vars;exact rfl)|repeat (first|(obtain⟨rfl,_⟩:=h;exact rfl)|(obtain⟨_,h⟩:=h))):y0 P w K mg base CX0 (k+1) f fd ps sp:=by
 obtain⟨m,j,kV,g,l,n,a,ct,i,rfl,lk,c⟩:=F.ex;refine bXS lk c S len λA outer s H vs Q E e d=>?_;obtain⟨t,h,q⟩:=b a A outer s H vs Q E e d;exact⟨t,h.nox,q⟩
theorem Fun.binds{x qual:Str}{st:Stmt}{f:Addr}{fd:bYF}{ps:List Str}(F:Fun K x qual st f fd) (h:∀ (kV b c:bWG)(d:Option Addr)(a ct:bWG)(us:List bWG),us.length=ps.length->cQo (bKF x qual (xH st) (xA st) (yD st) .none kV b c d a ct) ⟨us,[]⟩=pure (ps.zip us)):wP K fd ps []:=by
 obtain⟨j,i,kV,b,c,d,a,ct,g,rfl,lk,e⟩:=F.ex;exact .all (h kV b c d a ct)
theorem Q6{x qual:Str}{st:Stmt}{f:Addr}{h:bWG}{i e:Option Addr}{d:Array (Option bWG)}{kV b g a ct:bWG}(l:K.lookup f=some ⟨h,i,.func (bKF x qual (xH st) (xA st) (yD st) .none kV b g e a ct),d⟩)
  (c:bYq K a qual=true) (k:bKy K (.ref f)=true):Fun K x qual st f (bKF x qual (xH st) (xA st) (yD st) .none kV b g e a ct):=⟨⟨h,i,kV,b,g,e,a,ct,d,rfl,l,c⟩,k⟩
end
theorem W8{A:bKk}{k:Nat}(a:wR k A):A.units+1<cLine:=Nat.lt_of_le_of_lt (Nat.add_le_add_left (by decide:1<=64) _) a.units
section
variable {X:Cx}
theorem pv(i:Nat){x:Str}{pos:Pos}(b:X.N[i]? =some x:=by rfl)(c:Vis X.env.scope x:=by first|exact Or.inl rfl|exact Or.inr (Or.inl rfl)|exact Or.inr (Or.inr rfl))(d:(x==("__debug__":Str))=false:=by decide)
  (a:(x==("__classdict__":Str))=false:=by decide):PE X (.Name x pos) (bZ4 i):=bXh b c d a
end
theorem aJW{c A B:Prop} [Decidable c] (h1:c->A)(h2:¬c->B):if c then A else B:=by
 by_cases h:c
 ·rw[if_pos h];exact h1 h
 ·rw[if_neg h];exact h2 h
def xV(H H':Hp):Prop:=∀b o,H b=some o->H' b=some o
theorem xV.refl(H:Hp):xV H H:=λ_ _ h=>h
theorem xV.trans{H H1 H2:Hp}(a:xV H H1)(b:xV H1 H2):xV H H2:=λc o h=>b c o (a c o h)
theorem xV.seq{K:bWI}{H H':Hp}{a:Addr}{xs:List V}(e:xV H H')(h:SqL K H a xs):SqL K H' a xs:=by
 rcases h with(h|⟨o,h⟩)|h
 ·exact .inl (.inl (e _ _ h))
 ·exact .inl (.inr ⟨o,e _ _ h⟩)
 ·exact .inr h
end L2
namespace L2
open PySem
theorem scM{N P:List Str}{sc:Scope}(h:decide (sc.kind=.function/\sc.isCoroutine=false/\sc.isGenerator=false/\N.Nodup/\N.take P.length=P/\(∀x∈P,sc.names.lookup x=some .local\/sc.names.lookup x=some .cell)/\∀y∈sc.names,y.2≠.free)=true:=by decide +kernel):yJ N P sc:=
 have z:=of_decide_eq_true h;⟨z.1,z.2.1,z.2.2.1,z.2.2.2.1,z.2.2.2.2.1,z.2.2.2.2.2.1,z.2.2.2.2.2.2⟩
end L2
namespace L2
open PySem PySem.Spec PyProof.Rows
def uG(env:Env)(l:List (Str×cQA))(cs:List (Str×Nat)):Sem (List (Str×Nat)):=do
 let mut cs:=cs
 for (name,kind)in l do
  if kind== .free then cs:=(name,<- cellOf env name)::cs
 return cs
theorem aJP(env:Env)(cs:List (Str×Nat)):uG env [] cs=pure cs:=by simp[uG]
theorem aX6{env:Env}{n:Str}{c:Nat}{r:List (Str×cQA)}{cs:List (Str×Nat)}(h:env.cells.lookup n=some c):uG env ((n,.free)::r) cs=uG env r ((n,c)::cs):=by
 have e:cellOf env n=pure c:=by unfold cellOf;rw[h]
 simp[uG,e]
theorem aXe{env:Env}{n:Str}{k:cQA}{r:List (Str×cQA)}{cs:List (Str×Nat)}(h:k≠ .free):uG env ((n,k)::r) cs=uG env r cs:=by
 simp[uG,h]
theorem aX7{env:Env}:∀ (l:List (Str×cQA))(cs:List (Str×Nat)),(∀y∈l,y.2= .free->∃c,env.cells.lookup y.1=some c)->(∀y c,cs.lookup y=some c->env.cells.lookup y=some c)->
  ∃cl,uG env l cs=pure cl/\(∀y c,cl.lookup y=some c->env.cells.lookup y=some c)/\(∀y,(∃c,cs.lookup y=some c)->∃c,cl.lookup y=some c)/\(∀y,(y,NameKind.free)∈l->∃c,cl.lookup y=some c)
 |[],cs,_,h=>⟨cs,aJP env cs,h,λ_ z=>z,λ_ z=>by cases z⟩
 |(n,k)::r,cs,hl,h=>by
  by_cases i:k= .free
  ·subst i;obtain⟨c,o⟩:=hl (n,.free) bWV rfl;obtain⟨cl,g,m,d,f⟩:=aX7 r ((n,c)::cs) (λy a=>hl y (bWR _ a)) (λy b e=>by
    rw[bYv]at e;split at e
    ·rename_i z;cases e;rw[beq_iff_eq.mp z];exact o
    ·exact h y b e)
   have j:∀y,(∃c,cs.lookup y=some c)->∃b,((n,c)::cs).lookup y=some b:=λy ⟨b,e⟩=>by
    rw[bYv];split
    ·exact⟨_,rfl⟩
    ·exact⟨b,e⟩
   refine⟨cl,by rw[aX6 o];exact g,m,λy z=>d y (j y z),λy a=>?_⟩;rcases bWU.mp a with e|a
   ·cases e;exact d _ ⟨c,by rw[bYv,beq_self_eq_true]⟩
   ·exact f y a
  ·obtain⟨cl,g,m,d,f⟩:=aX7 r cs (λy a=>hl y (bWR _ a)) h;refine⟨cl,by rw[aXe i];exact g,m,d,λy a=>?_⟩;rcases bWU.mp a with e|a
   ·cases e;exact absurd rfl i
   ·exact f y a
abbrev blk(X:Cx)(N:List Str)(sc:bYS)(cl:List (Str×Nat))(C:Nat)(s:bWJ)(H:Hp)(ex:List Nat):Cx:=
 {X with N:=N,s₀:=s,H₀:=H,env:=compEnvC sc cl C X.env,outer:=X.stack,ex:=ex,fn:=λ_=>false,pn:= [],xe:=λ_ _=>False}
def sub(σ:St)(fr:List Nat)(o:Option V):St:=o::fr.map λi=>(σ[i]?).join
abbrev lsN(l:List (Str×cQA)):PySem.Scope:={kind:= .function,names:=l,isGenerator:=false,isCoroutine:=false,more:= [] }
theorem ixK{X:Cx}{K:bWI}(h:X.K=K:=by rfl):IxR X (bWc K):=by subst h;exact yL
theorem ixT{X:Cx}{K:bWI}(h:X.K=K:=by rfl):IxR X (bWd K):=by subst h;exact xG
structure y9(N:List Str)(osc:bYS)(x:Str)(names:List Str)(fr:List Nat)(sc:bYS):Prop where
 kind:sc.kind= .function
 nocell:∀y∈sc.names,y.2≠ .cell
 loc:∀y∈sc.names,y.2= .local->sc.names.lookup y.1=some .local
 var:sc.names.lookup x=some .local
 free:∀y∈sc.names,y.2= .free->osc.names.lookup y.1=some .cell\/osc.names.lookup y.1=some .free
 flk:∀y∈sc.names,y.2= .free->sc.names.lookup y.1=some .free
 nd:(x::names).Nodup
 len:fr.length=names.length
 taken:∀p∈names.zip fr,N[p.2]? =some p.1/\(p.1,NameKind.free)∈sc.names
theorem y9.from_{N:List Str}{b sc:bYS}{x:Str}{names:List Str}{fr:List Nat}(S:y9 N b x names fr sc)(j:Nat)(y:Str)(h:names[j]? =some y):∃i,fr[j]? =some i/\N[i]? =some y/\(y,NameKind.free)∈sc.names:=by
 have d:j<names.length:=(bWP.mp h).1;have a:j<fr.length:=by rw[S.len];exact d
 have z:(names.zip fr)[j]? =some (y,fr[j]):=by rw[List.getElem?_zip_eq_some];exact⟨h,bWF a⟩
 obtain⟨c,e⟩:=S.taken _ (bW1 z);exact⟨fr[j],bWF a,c,e⟩
def bJf(X:Cx)(ifs:List Expr)(t:TT):Prop:=
 ∀ (pins:List (Nat×Obj))(s:bWJ)(σ:St)(H:Hp)(Q:Bool->Hp->Prop),Inv X pins σ H s->t σ H Q->
  bWO (bWQ X.prog X.w) X.A (forIn ifs true λc r=>if r=true then do let ok <- isTrue c X.env (eval c X.env);pure (cXp ok)else pure (cXp r)) (TP X pins σ Q) X.xe s
def bV6:TT:=λ_ H Q=>Q true H
theorem zG{X:Cx}:bJf X [] bV6:=λpins s σ H Q I h=>by
 simp only[List.forIn_nil];exact bWM ⟨H,I,h⟩
theorem uQ{X:Cx}{c:Expr}{a:TT}(d:PT X c a):bJf X [c] a:=λpins s σ H Q I h=>by
 simp only[cXr,List.forIn_nil,if_true,bind_assoc,pure_bind];refine bWH (thn (d pins s σ H Q I h) λb e z=>?_);exact bWM z
def bXE(J:It)(fr:List Nat)(tif:TT)(te:TE)(σ:St)(D:Nat)(Q:VK)(g:Hp):Prop:=
 ∃W:Nat->Nat->List V->Hp->Prop,(∃m,W 0 m [] g)/\∀i m a H,W i m a H->H D=some (.lst a)/\
  ((J.stop i H/\Q (.ref D) H)\/(J.go i H/\∀v e,J.yld i H v e->tif (sub σ fr (some v)) e λb f=>
   if b=true then te (sub σ fr (some v)) f λy d=>a.length<bKb/\d D=some (.lst a)/\∃c,c<m/\W (i+1) c (a++ [y]) (upd d D (.lst (a++ [y])))
   else ∃c,c<m/\W (i+1) c a f))
def tLc(wi:TI)(fr:List Nat)(tif:TT)(te:TE):TE:=λσ H Q=>wi σ H λJ a=>∀D,a D=none->bXE J fr tif te σ D Q (upd a D (.lst []))
theorem aQa{env:Env}:∀ {names:List (Str×cQA)} {y:Str},names.lookup y=some .free->
  (names.map λ(n,k)=>if(k==NameKind.free && env.scope.kind== .function && env.kindOf n==some .cell)then(n,NameKind.cell)else(n,k)).lookup y=some .cell\/
  (names.map λ(n,k)=>if(k==NameKind.free && env.scope.kind== .function && env.kindOf n==some .cell)then(n,NameKind.cell)else(n,k)).lookup y=some .free
 |[],_,h=>by simp at h
 |(n,k)::r,y,h=>by
  have b:= @aQa env r y;rw[bKv];dsimp only;cases a:y==n with
  |true=>
   rw[bYv,a]at h;cases h;split
   ·left;rw[bYv,a]
   ·right;rw[bYv,a]
  |false=>
   rw[bYv,a]at h;split
   ·rw[bYv,a];exact b h
   ·rw[bYv,a];exact b h
theorem aXL{env:Env}{sc:bYS}{y:Str}(h:sc.names.lookup y=some .free):(relabel sc env).names.lookup y=some .cell\/(relabel sc env).names.lookup y=some .free:=aQa h
section
variable {X:Cx}{pins:List (Nat×Obj)}{σ:St}{H:Hp}{s:bWJ}
theorem aYJ{prog:bW3}{w:bKa}{A:bKk}{R:Result->bWJ->Prop}{s:bWJ}{elt a iter:Expr}{ifs:List Expr}{scope:bYS}{pos:Pos}{it o:bWG}{env:Env}(I:Nat->bWJ->Prop)
  (q:∀n s,I n s->bWO (bWQ prog w) A (cQH it) (λr d=>match r with
   |none=>R (.ok .next) d
   |some v=>bWO (bWQ prog w) A (cXu a it v) (λ_ b=>bWO (bWQ prog w) A (assign a env v) (λ_ g=>
     bWO (bWQ prog w) A (forIn ifs true λc r=>if r=true then do let ok <- isTrue c env (eval c env);pure (cXp ok)else pure (cXp r)) (λok e=>
      if ok=true then bWO (bWQ prog w) A (eval elt env) (λx f=>
       bWO (bWQ prog w) A (call (.builtin "list.append") [o,x]) (λ_ k=>∃m,m<n/\I m k) (λ_ _=>False) f) (λ_ _=>False) e
      else ∃m,m<n/\I m e) (λ_ _=>False) g) (λ_ _=>False) b) (λ_ _=>False) d) (λ_ _=>False) s)
  (n:Nat) (h:I n s):bYV (bWQ prog w) A (.compLoop (.ListComp elt [⟨a,iter,ifs,0⟩] scope pos) 0 it o env) R s:=by
 refine codeAny_loop rfl I (λn s y=>?_) n h
 show bWO _ A ((compTurn (.ListComp elt [⟨a,iter,ifs,0⟩] scope pos) 0 it o env).onRaise (λx=>do cXa x env;theTreesLotGoes x)) _ _ s
 refine wpAny_noted ?_
 rw[compTurn_list]
 refine bWH (cQX (bWH (bKE (q n s y) (λr d j=>?_) λ_ _ z=>z.elim)))
 cases r with
 |none=>exact bWM j
 |some v=>
  refine bWH (bKE j (λ_ b l=>?_) λ_ _ z=>z.elim);refine bWH (bKE l (λ_ g u=>bWH (bKE u (λok e i=>?_) λ_ _ z=>z.elim)) λ_ _ z=>z.elim);cases ok with
  |false=>exact bWM ⟨rfl,i⟩
  |true=>refine bWH (bWH (bKE i (λx f p=>bWH (bKE p (λ_ k t=>?_) λ_ _ z=>z.elim)) λ_ _ z=>z.elim));exact bWM (bWM ⟨rfl,t⟩)
theorem bXb{elt iter:Expr}{x:Str}{px:Pos}{ifs:List Expr}{sc:bYS}{pos:Pos}{names:List Str}{fr:List Nat}{tif:TT}{te:TE}{cl:List (Str×Nat)}{E:bWG->bWJ->Prop}(S:y9 X.N X.env.scope x names fr sc)(hc:X.calm=true)
  (d:∀y c,cl.lookup y=some c->X.env.cells.lookup y=some c) (a1:∀y,(y,NameKind.free)∈sc.names->∃c,cl.lookup y=some c)
  (c6:∀cl C s H ex,bJf (blk X (x::names) sc cl C s H ex) ifs tif) (he:∀cl C s H ex,PE (blk X (x::names) sc cl C s H ex) elt te)
  {J:It} {it:Nat} {f:List Nat} {tn:Nat->Heap->Prop} {Q:VK} (I:Inv X pins σ H s) (T:bJi X.prog X.w X.K (.Name x px) J f it tn) (st:tn 0 s.heap) (hf:∀b∈f,bQZ X pins H b)
  (q:∀D,H D=none->bXE J fr tif te σ D Q (upd H D (.lst []))) {RR:bWG->Nat->Result->bWJ->Prop}
  (b8:∀D C F g,Inv X pins σ g F->g C=none->C≠X.env.locals->X.s₀.heap.objs.size<=C->(∀y c,X.env.cells.lookup y=some c->c≠C)->(∀p∈X.pn++pins,p.1≠C)->(∃m,F.heap.Ns C m)->Q (.ref D) g->RR (.ref D) C (.ok .next) F):
  bWO (bWQ X.prog X.w) X.A (newList []) (λb2 s₃=>bWO (bWQ X.prog X.w) X.A (newFunctionEnv sc X.env.globals cl [] X.env.qual none .none (some X.env)) (λa0 s₄=>
   bYV (bWQ X.prog X.w) X.A (.compStart (.ListComp elt [⟨.Name x px,iter,ifs,0⟩] sc pos) 0 (.ref it) b2 {a0 with scope:=relabel sc X.env}) (RR b2 a0.locals) s₄) E s₃) E s:=by
 refine bYG (wpAny_newFunctionEnv S.nocell (by intro y hy;simp at hy) (λt a6 a5=>?_) S.kind)
 dsimp only at a6 a5 ⊢
 have l:Inv X pins σ (upd H s.heap.objs.size (.lst [])) {s with heap:=s.heap.push {cls:= .type "list",dict:=none,data:= .seq ([]:List bWG).toArray} }:=I.lnew (t':=s.toks) (ys:= []) (its:= []) .nil (bKt _)
 have b0:=I.fresh
 obtain⟨W,⟨m0,w0⟩,a2⟩:=q s.heap.objs.size b0
 have Z:∀b∈f,∃o,s.heap.get? b=some o/\∀v,o.data≠ .cell v:=T.obj 0 _ st
 have hG:(s.heap.push {cls:= .type "list",dict:=none,data:= .seq ([]:List bWG).toArray}).objs.size=s.heap.objs.size+1:=bYh ..
 have kG:∀b o,s.heap.get? b=some o->(s.heap.push {cls:= .type "list",dict:=none,data:= .seq ([]:List bWG).toArray}).get? b=some o:=λb o e=>bWL _ e
 generalize d1:s.heap.push {cls:= .type "list",dict:=none,data:= .seq ([]:List bWG).toArray}=G at a6 a5 l hG kG ⊢
 generalize b9:s.heap.objs.size=D at b0 a2 w0 hG l ⊢
 have keep:∀b o,G.get? b=some o->t.get? b=some o:=λb o e=>a5.extBut b o (bW9 (bWT e)) (bWL _ e)
 have b6:∀b∈f,b≠G.objs.size:=λb a=>by obtain⟨o,e,_⟩:=Z b a;exact bW9 (bWT (kG b o e))
 have a4:∀y c,X.env.cells.lookup y=some c->c≠G.objs.size:=λy c e=>by obtain⟨v,z⟩:=l.cell y c e;exact bW9 z.lt
 have c8:(blk X (x::names) sc cl G.objs.size {s with heap:=G} (upd H D (.lst [])) f).Ok:=by
  refine⟨I.ok.mod,?_,I.ok.glob,I.ok.blt,bWN _,?_,?_,?_,I.ok.hd,I.ok.frames,.inl rfl,?_,l.bs,bKh I.ok.bsz l.sz,?_,?_,l.stack,l.stkFree⟩
  ·show(relabel sc X.env).kind= .function;exact S.kind
  ·exact λy z c h1 h2=>I.ok.inj y z c (d y c h1) (d z c h2)
  ·intro y hy;have c5:(relabel sc X.env).names.lookup y=some .cell\/(relabel sc X.env).names.lookup y=some .free:=hy;have U:(y,NameKind.cell)∈(relabel sc X.env).names\/(y,NameKind.free)∈(relabel sc X.env).names:=c5.imp bYc bYc;have c1:(y,NameKind.free)∈sc.names:=by
    rcases U with U|U
    ·obtain⟨⟨n,k⟩,Y,e⟩:=bK1.mp (show(y,NameKind.cell)∈sc.names.map _ from U);dsimp only at e;split at e
     ·rename_i M;cases e;have:k= .free:=by
       simp only[Bool.and_eq_true,beq_iff_eq]at M;exact M.1.1
      rw[this]at Y;exact Y
     ·cases e;exact absurd rfl (S.nocell _ Y)
    ·obtain⟨⟨n,k⟩,Y,e⟩:=bK1.mp (show(y,NameKind.free)∈sc.names.map _ from U);dsimp only at e;split at e
     ·cases e
     ·cases e;exact Y
   exact a1 y c1
  ·exact λy c h _=>by cases h
  ·intro b a;exact⟨b6 b a,λy c e=>(hf b a).2.2.2.2.1 y c (d y c e)⟩
  ·intro b o e a;obtain⟨f0,f1,f2,f3,f4,f5⟩:=hf b a;rcases f3 with z|z
   ·exact I.ok.noex b o e z
   ·exact absurd (bW6 (bWT e) (bKh I.ok.bsz z)) (bKN _)
  ·intro b a z;obtain⟨f0,f1,f2,f3,f4,f5⟩:=hf b a;rcases bWU.mp (I.stkSub b z)with z|z
   ·exact f1 z
   ·exact f2 z
 have IY:Inv (blk X (x::names) sc cl G.objs.size {s with heap:=G} (upd H D (.lst [])) f) [] (sub σ fr none) (upd H D (.lst [])) {s with heap:=t,toks:=s.toks+([]:List (Str×bWG)).length}:=by
  refine⟨c8,rfl,I.bare,Un.kept keep,⟨_,a6,?_⟩,?_,l.hok.fresh (bWN _),λy c e=>l.freeC y c (d y c e),λp hp=>absurd (show p∈([]:List (Nat×Obj))from hp) (by simp),l.hok.kept keep,?_⟩
  ·intro i y v h1 h2 h3;cases i with
   |zero=>cases h2
   |succ j=>
    have c0:names[j]? =some y:=h1;obtain⟨i',e1,e2,e3⟩:=S.from_ j y c0;have c2:σ[i']? =some (some v):=by
     have z:(fr.map λi=>(σ[i]?).join)[j]? =some (some v):=h2;rw[bWY,e1]at z;have P:(σ[i']?).join=some v:=bWX z;cases q:σ[i']? with
     |none=>rw[q]at P;cases P
     |some o=>rw[q]at P;rw[show o=some v from P]
    obtain⟨m,Y,hl⟩:=l.loc;have b1:Vis X.env.scope y:= .inr (S.free _ e3 rfl);obtain⟨u,ru,lk⟩:=hl i' y v e2 c2 b1;refine⟨u,ru,.inr ⟨?_,?_⟩⟩
    ·exact aXL (S.flk _ e3 rfl)
    ·rcases lk with⟨k,_⟩|⟨k,c,e,z⟩
     ·rcases S.free _ e3 rfl with z|z
      ·have P:X.env.kindOf y=some .cell:=z;rw[k]at P;cases P
      ·have P:X.env.kindOf y=some .free:=z;rw[k]at P;cases P
     ·obtain⟨c',e'⟩:=a1 y e3;have:=d y c' e';rw[e]at this;cases this;exact⟨c,e',z.keeps keep⟩
  ·intro y c e;obtain⟨v,z⟩:=l.cell y c (d y c e);exact⟨v,z.keeps keep⟩
  ·show(sub σ fr none).length=(x::names).length;simp[sub,S.len]
 have a8:∀ {o:Option V} {g:Hp} {F:bWJ} {pl:List (Nat×Obj)},Inv (blk X (x::names) sc cl G.objs.size {s with heap:=G} (upd H D (.lst [])) f) pl (sub σ fr o) g F->Inv X pins σ g F:=λ{o g F pl} I'=>
  l.call' (ch:=f) I'.os I'.base I'.hok I'.bare λb a=>by obtain⟨f0,f1,f2,f3,f4,f5⟩:=hf b a;exact⟨f3,f1,f4,f5⟩
 have L:∀ {g:Hp},(∀b∈f,g b=none)->∀b∈f,bQZ (blk X (x::names) sc cl G.objs.size {s with heap:=G} (upd H D (.lst [])) f) [] g b:=λ{g} Y b a=>by
  obtain⟨f0,f1,f2,f3,f4,f5⟩:=hf b a;refine⟨Y b a,b6 b a,λz=>?_,.inl a,λy c e=>f4 y c (d y c e),λp hp=>absurd (show p∈([]:List (Nat×Obj))from hp) (by simp)⟩;rcases bWU.mp (I.stkSub b z)with z|z
  ·exact f1 z
  ·exact f2 z
 have c9:∀b∈f,upd H D (.lst []) b=none:=λb a=>by
  obtain⟨o,e,_⟩:=Z b a;have c4:b≠D:=by rw[<- b9];exact bW9 (bWT e)
  rw[yH c4];exact(hf b a).1
 have b4:tn 0 t:=T.keep 0 _ _ st λb a o e=>keep b o (kG b o e)
 have a7:bYV (bWQ X.prog X.w) X.A (.compLoop (.ListComp elt [⟨.Name x px,iter,ifs,0⟩] sc pos) 0 (.ref it) (.ref D) (compEnvC sc cl G.objs.size X.env)) (RR (.ref D) G.objs.size) {s with heap:=t,toks:=s.toks+([]:List (Str×bWG)).length}:=by
  refine aYJ (λn F=>∃i B o g,Inv (blk X (x::names) sc cl G.objs.size {s with heap:=G} (upd H D (.lst [])) f) [] (sub σ fr o) g F/\tn i F.heap/\(∀b∈f,g b=none)/\W i n B g) ?_ m0
   ⟨0,[],none,_,IY,b4,c9,w0⟩
  rintro n F ⟨i,B,o,g,I',b5,a9,w'⟩;obtain⟨hD,b7⟩:=a2 i n B g w';rcases b7 with⟨b3,qn⟩|⟨go,step⟩
  ·refine thn (T.done (blk X (x::names) sc cl G.objs.size {s with heap:=G} (upd H D (.lst [])) f) rfl rfl rfl hc i [] F _ g (λ_ _=>False) I' (L a9) b5 b3) λr s1 ⟨hr,I1⟩=>?_;subst hr;obtain⟨mC,c7,_⟩:=I1.loc;exact b8 D G.objs.size s1 g (a8 I1) I1.free (bY7 l.lt) l.sz a4 (λp hp=>bW9 (bWT (l.pin p hp).1)) ⟨mC,c7⟩ qn
  ·refine thn (T.item (blk X (x::names) sc cl G.objs.size {s with heap:=G} (upd H D (.lst [])) f) rfl rfl rfl hc i [] F _ g (λ_ _=>False) I' (L a9) b5 go) λr s1 ⟨u,hr,h1⟩=>?_;subst hr;refine thn h1 λ_ s2 ⟨v,H2,I2,rv,yl,st2,fr2⟩=>?_;have d0:=I2.pinned (L fr2) (T.obj _ _ st2);have pg:PG (blk X (x::names) sc cl G.objs.size {s with heap:=G} (upd H D (.lst [])) f) (.Name x px) (yS 0):=yZ S.nd rfl (.inl (lookup_relabel_local S.var)) (.inr (lookup_relabel_local S.var));have O:∀ {o:Option V} {H3:Hp} {s3:bWJ},Inv (blk X (x::names) sc cl G.objs.size {s with heap:=G} (upd H D (.lst [])) f) ([]++aXH f s2.heap) (sub σ fr o) H3 s3->tn (i+1) s3.heap/\∀b∈f,H3 b=none:=λ{o H3 s3} J3=>by
    refine⟨T.keep _ _ _ st2 λb a ob e=>(J3.pin (b,ob) (bW5 _ (bW5 _ (vR a e)))).1,λb a=>?_⟩;obtain⟨ob,e,_⟩:=T.obj _ _ st2 b a;exact(J3.pin (b,ob) (bW5 _ (bW5 _ (vR a e)))).2.1
   refine thn (pg _ s2 _ H2 v u (λσ' c3=>σ'=sub σ fr (some v)/\c3=H2) d0 rv ⟨rfl,rfl⟩) λ_ s3 ⟨σ3,H3,I3',e3,e3'⟩=>?_;subst e3;subst e3';refine thn (c6 cl G.objs.size {s with heap:=G} (upd H D (.lst [])) f _ s3 _ _ _ I3' (step v _ yl)) λb s4 ⟨H4,I4,q4⟩=>?_;cases b with
   |false=>have a3:∃R,R<n/\W (i+1) R B H4:=q4;obtain⟨R,U,w4⟩:=a3;obtain⟨z1,z2⟩:=O I4;show ∃m,m<n/\_;exact⟨R,U,i+1,B,some v,H4,I4.unpinned,z1,z2,w4⟩
   |true=>have a3:te (sub σ fr (some v)) H4 λy H5=>B.length<bKb/\H5 D=some (.lst B)/\∃R,R<n/\W (i+1) R (B++ [y]) (upd H5 D (.lst (B++ [y]))):=q4;show bWO _ _ _ _ _ _;refine thn (he cl G.objs.size {s with heap:=G} (upd H D (.lst [])) f _ s4 _ _ _ I4 a3) λue s5 ⟨y,H5,I5,r5,hl,hD5,R,U,w5⟩=>?_;refine thn (y8 _ s5 _ H5 (.ref D) [y] (.ref D) [ue] (λ_ H6=>H6=upd H5 D (.lst (B++ [y]))) I5 rfl (.cons r5 .nil) ⟨D,B,y,rfl,rfl,hD5,hl,rfl⟩) λ_ s6 ⟨_,H6,I6,_,e6⟩=>?_;subst e6;obtain⟨z1,z2⟩:=O I6;exact⟨R,U,i+1,B++ [y],some v,_,I6.unpinned,z1,z2,w5⟩
 exact codeAny_compStart_list a7 (T.self _ 0 _ _ _ b4 a7)
theorem aZh{sc:bYS}{x:Str}{names:List Str}{fr:List Nat}(S:y9 X.N X.env.scope x names fr sc)(I:Inv X pins σ H s): ∃cl,closureFor sc X.env=pure cl/\(∀y c,cl.lookup y=some c->X.env.cells.lookup y=some c)/\(∀y,(y,NameKind.free)∈sc.names->∃c,cl.lookup y=some c):=by
 obtain⟨cl,d,g,_,f⟩:=aX7 (env:=X.env) sc.names [] (λy a b=>I.ok.has y.1 (S.free y a b)) (λy c e=>by simp at e);exact⟨cl,d,g,f⟩
end
section
variable {X:Cx}{elt iter:Expr}{x:Str}{px:Pos}{ifs:List Expr}{sc:bYS}{pos:Pos}{names:List Str}{fr:List Nat}{wi:TI}{tif:TT}{te:TE}
theorem J8(S:y9 X.N X.env.scope x names fr sc)(P:X.calm=true)(n:PI X (.Name x px) iter wi)(f:∀cl C s H ex,bJf (blk X (x::names) sc cl C s H ex) ifs tif) (L:∀cl C s H ex,PE (blk X (x::names) sc cl C s H ex) elt te) (z:∀v,cXW iter X.env v=pure v:=by intro _;rfl):PE X (.ListComp elt [⟨.Name x px,iter,ifs,0⟩] sc pos) (tLc wi fr tif te):=by
 intro pins s σ H Q I h;obtain⟨cl,t,p,F⟩:=aZh S I;rw[eval_ListComp];refine cX3 (use:=none) rfl z t S.kind S.loc (thn (n pins s σ H _ I h) λv Y d=>thn d λj U a=>?_);obtain⟨R,Z,tn,J,V,rfl,y,T,B,u,q⟩:=a;refine bXb (RR:=λg C=>compPost (bWQ X.prog X.w) X.A X.xe none (EP X pins σ Q) g C) S P p F f L y T B u q ?_;intro D C G E M d a l K O c r;obtain⟨m,c⟩:=c;exact⟨m,c,λW k=>⟨.ref D,E,M.turned (t':=G.toks) (λb o i e=>(k.2 b i).trans e) d (bKl (bKl a)) (.inr l) K O,rfl,r⟩⟩
theorem aVq{i:Nat}{y:Str}{d c:Pos}(S:y9 X.N X.env.scope x names fr sc)(hc:X.calm=true)(O:X.N.Nodup)(hy:X.N[i]? =some y)(hl:X.env.scope.names.lookup y=some .local)(M:PI X (.Name x px) iter wi)
  (u:∀cl C s H ex,bJf (blk X (x::names) sc cl C s H ex) ifs tif) (he:∀cl C s H ex,PE (blk X (x::names) sc cl C s H ex) elt te)
  (j:swapsWith (.ListComp elt [⟨.Name x px,iter,ifs,0⟩] sc pos) (some (.Name y d)) c.line X.env=pure true:=by rfl) (V:∀v,cXW iter X.env v=pure v:=by intro _;rfl):
  PS X (.Assign [.Name y d] (.ListComp elt [⟨.Name x px,iter,ifs,0⟩] sc pos) c) (bVW (tLc wi fr tif te) (yS i)):=by
 intro pins s σ H D I h
 obtain⟨cl,P,K,Z⟩:=aZh S I
 rw[exec_Assign_Name_used _ _ _ _ j]
 refine bWH (cQX (bWH ?_))
 show bWO _ X.A (do let _ <- comprehension (.ListComp elt [⟨.Name x px,iter,ifs,0⟩] sc pos) sc X.env _ (newList []) false (eval iter X.env) (some (assign (.Name y d) X.env))) _ _ s
 refine bWH (bKE (cX3 (use:=some (assign (.Name y d) X.env)) (Q:=λ_ f=>SP X pins D .next f) rfl V P S.kind S.loc (thn (M pins s σ H _ I h) λv s1 t=>thn t λF s2 g=>?_)) (λ_ f n=>bWM (bWM n)) λ_ _ e=>e)
 obtain⟨it,fp,tn,J,H1,rfl,U,T,W,R,q⟩:=g
 refine bXb (RR:=λz C=>compPost (bWQ X.prog X.w) X.A X.xe (some (assign (.Name y d) X.env)) (λ_ f=>SP X pins D .next f) z C) S hc K Z u he U T W R q ?_
 intro L C f Y I' t g G B h5 r n
 obtain⟨m,r⟩:=r
 show bWO _ X.A (assign (.Name y d) X.env (.ref L)) _ _ f
 refine wpAny_assign_Name (Z2 I' O hy (.inl hl) (v:= .ref L) rfl (λs'' I'' ⟨a,sb,k⟩=>?_) (.inr hl))
 have l:C≠a:=by
  rcases k with rfl|k
  ·exact g
  ·exact bKl (B y a k)
 exact⟨m,r.sameBut sb l,λh' p=>⟨_,Y,I''.turned (t':=s''.toks) (λb o E e=>(p.2 b E).trans e) t g (.inr G) B h5,n⟩⟩
end
theorem aZ7{K:bWI}{a:Nat}{xs:List V}{fr:List Nat}{tif:TT}{te:TE}{σ:St}{D:Nat}{Q:VK}{H:Hp}(p:V->Bool)(f:V->V)(hl:SqL K H a xs)(r:H D=none)(hz:xs.length<=bKb) (x:∀v∈xs,∀ (c:Hp)(R:Bool->Hp->Prop),(∀b,b≠D->c b=H b)->R (p v) c->tif (sub σ fr (some v)) c R) (A:∀v∈xs,p v=true->∀ (c:Hp)(R:VK),(∀b,b≠D->c b=H b)->R (f v) c->te (sub σ fr (some v)) c R) (u:Q (.ref D) (upd H D (.lst ((xs.filter p).map f)))):bXE (Itl K a) fr tif te σ D Q (upd H D (.lst [])):=by
 have d:∀g,SqL K (upd H D (.lst g)) a xs:=λg=>by
  rcases hl with(h|⟨o,h⟩)|h
  ·exact .inl (.inl (by rw[yH (yE h r)];exact h))
  ·exact .inl (.inr ⟨o,by rw[yH (yE h r)];exact h⟩)
  ·exact .inr h
 refine⟨λi m g c=>m=xs.length - i/\i<=xs.length/\g=((xs.take i).filter p).map f/\c=upd H D (.lst g),⟨xs.length,by simp,bKt _,by simp,rfl⟩,?_⟩;rintro i m g c ⟨rfl,B,rfl,rfl⟩;refine⟨yB,?_⟩;by_cases e:i<xs.length
 ·refine .inr ⟨⟨xs,xs[i],d _,bWF e⟩,λv E w=>?_⟩;obtain⟨rfl,y⟩:=w;have s:xs[i]? =some v:=y xs (d _);have l:v∈xs:=bW1 s;have j:xs.take (i+1)=xs.take i++ [v]:=by rw[bYf,s];rfl
  have n:∀b,b≠D->upd H D (.lst (((xs.take i).filter p).map f)) b=H b:=λb t=>yH t;have k:(((xs.take i).filter p).map f).length<bKb:=by rw[bWK];have z:=bKX p (xs.take i);rw[bKz]at z;omega
  refine x v l _ _ n ?_;cases q:p v with
  |false=>show ∃C,_;refine⟨xs.length - (i+1),by omega,rfl,e,?_,rfl⟩;rw[j,bKV,bYl (by rw[q];decide)];simp
  |true=>show te _ _ _;refine A v l q _ _ n ⟨k,yB,xs.length - (i+1),by omega,rfl,e,?_,by rw[uD]⟩;rw[j,bKV,bYm q];simp
 ·obtain rfl:i=xs.length:=by omega
  refine .inl ⟨⟨xs,d _,bWN _⟩,?_⟩;rw[bYp];exact u
end L2
namespace L2
open PySem
theorem lcM{N:List Str}{osc:Scope}{x:Str}{names:List Str}{fr:List Nat}{sc:Scope}(h:decide (sc.kind=.function/\(∀y∈sc.names,y.2≠.cell)/\(∀y∈sc.names,y.2=.local->sc.names.lookup y.1=some .local)/\sc.names.lookup x=some .local/\(∀y∈sc.names,y.2=.free->osc.names.lookup y.1=some .cell\/osc.names.lookup y.1=some .free)/\(∀y∈sc.names,y.2=.free->sc.names.lookup y.1=some .free)/\(x::names).Nodup/\fr.length=names.length/\∀p∈names.zip fr,N[p.2]?=some p.1/\(p.1,NameKind.free)∈sc.names)=true:=by decide +kernel):y9 N osc x names fr sc:=
 have z:=of_decide_eq_true h;⟨z.1,z.2.1,z.2.2.1,z.2.2.2.1,z.2.2.2.2.1,z.2.2.2.2.2.1,z.2.2.2.2.2.2.1,z.2.2.2.2.2.2.2.1,z.2.2.2.2.2.2.2.2⟩
end L2
namespace Stb
open PySem
def aYb(xs:Array Nat):Prop:=∀i j:Nat,i<j->j<xs.size->xs.getD i 0<xs.getD j 0
theorem bXU{xs:Array Nat}{i:Nat}(h:i<xs.size)(d e:Nat):xs.getD i d=xs.getD i e:=by
 simp[cQg,h]
theorem aZf{xs:Array Nat}{j:Nat}(f:aYb xs):∀ (a c b:Nat),b<=xs.size->c<=b->b - c<=a->
  (∀k,k<c->xs.getD k 0<j)->(∀k,b<=k->k<xs.size->j<=xs.getD k 0)->
  (∀k,k<cQE xs j a c b->xs.getD k 0<j)/\(∀k,cQE xs j a c b<=k->k<xs.size->j<=xs.getD k 0)/\cQE xs j a c b<=xs.size
 |0,c,b,h1,h2,h3,h4,h5=>by
  have e:c=b:=by omega
  subst e;unfold cQE;exact⟨h4,h5,h1⟩
 |a+1,c,b,h1,h2,h3,h4,h5=>by
  unfold cQE;by_cases hl:c<b
  ·rw[if_pos hl];dsimp only;have h:(c+b) / 2<xs.size:=by omega
   have e:=bXU h j 0;by_cases i:xs.getD ((c+b) / 2) j<j
   ·rw[if_pos i];refine aZf f a _ _ h1 (by omega) (by omega) (λk l=>?_) h5;by_cases d:k=(c+b) / 2
    ·subst d;omega
    ·have:=f k ((c+b) / 2) (by omega) h;omega
   ·rw[if_neg i];refine aZf f a _ _ (by omega) (by omega) (by omega) h4 (λk l d=>?_);by_cases g:k=(c+b) / 2
    ·subst g;omega
    ·have:=f ((c+b) / 2) k (by omega) d;omega
  ·rw[if_neg hl];have e:c=b:=by omega
   subst e;exact⟨h4,h5,h1⟩
theorem vN{xs:Array Nat}(b:aYb xs)(j:Nat): (∀k,k<bKD xs j->xs.getD k 0<j)/\(∀k,bKD xs j<=k->k<xs.size->j<=xs.getD k 0)/\bKD xs j<=xs.size:=by
 unfold bKD;exact aZf b xs.size 0 xs.size (bWN _) (bKt _) (by omega) (λk a=>absurd a (bKK _)) (λk c d=>by omega)
theorem aJL{xs:Array Nat}(c:aYb xs){i:Nat}(f:i<xs.size):bKD xs (xs.getD i 0+1)=i+1:=by
 obtain⟨d,e,g⟩:=vN c (xs.getD i 0+1);have a:i<bKD xs (xs.getD i 0+1):=by apply Nat.lt_of_not_le;intro h;have:=e i h f;omega
 have b:¬i+1<bKD xs (xs.getD i 0+1):=λh=>by have q:=d (i+1) h;have:=c i (i+1) (by omega) (by omega);omega
 omega
theorem aJM{xs:Array Nat}(b:aYb xs):bKD xs 0=0:=by
 obtain⟨a,d,c⟩:=vN b 0;apply Nat.le_antisymm _ (bKt _);apply Nat.le_of_not_lt;intro h;have:=a 0 h;omega
theorem aQr{α:Type}(xs:Array α)(p:Nat)(x:α)(h:p<=xs.size):(cQF xs p x).size=xs.size+1:=by
 unfold cQF;simp;omega
theorem jK{xs:Array Nat}{p x k:Nat}(h:p<=xs.size):(cQF xs p x).getD k 0=if k<p then xs.getD k 0 else if k=p then x else xs.getD (k - 1) 0:=by
 unfold cQF;have f:(xs.extract 0 p).size=p:=by simp;omega
 have d:((xs.extract 0 p).push x).size=p+1:=by rw[Array.size_push,f]
 simp only[Array.getD_eq_getD_getElem?];by_cases b:k<p
 ·rw[if_pos b,cXM (by omega),Array.getElem?_push,if_neg (by omega),cXA (by omega)];have a:k<xs.size:=by omega
  simp[a]
 ·rw[if_neg b];by_cases c:k=p
  ·subst c;rw[if_pos rfl,cXM (by omega),Array.getElem?_push,if_pos (by omega)];rfl
  ·rw[if_neg c,Array.getElem?_append_right (by omega),d];by_cases g:k - (p+1)<xs.size - p
   ·rw[cXA (by omega)];have a:k - 1<xs.size:=by omega
    have e:p+(k - (p+1))=k - 1:=by omega
    simp[a,e]
   ·rw[cQz (by simp;omega),cQz (by omega)]
theorem aZz{xs:Array Nat}(e:aYb xs){j:Nat}(h:∀k,k<xs.size->xs.getD k 0≠j):aYb (cQF xs (bKD xs j) j):=by
 obtain⟨m,g,b⟩:=vN e j;intro i k d l;rw[aQr _ _ _ b]at l;rw[jK b,jK b];by_cases c:i<bKD xs j
 ·rw[if_pos c];have v:=m i c;by_cases f:k<bKD xs j
  ·rw[if_pos f];exact e i k d (by omega)
  ·rw[if_neg f];by_cases a:k=bKD xs j
   ·rw[if_pos a];exact v
   ·rw[if_neg a];have:=g (k - 1) (by omega) (by omega);omega
 ·rw[if_neg c,if_neg (show ¬k<bKD xs j by omega),if_neg (show ¬k=bKD xs j by omega)];by_cases a:i=bKD xs j
  ·rw[if_pos a];have:=g (k - 1) (by omega) (by omega);have:=h (k - 1) (by omega);omega
  ·rw[if_neg a];exact e (i - 1) (k - 1) (by omega) (by omega)
theorem aVt(n:Nat):aYb (Array.range n):=by
 intro i j b a;rw[Array.size_range]at a;simp[cQg,a,Nat.lt_trans b a,b]
theorem aKe{l:List Nat}(h:l.Pairwise (·<·)):aYb l.toArray:=by
 intro i j b d;have a:j<l.length:=by simpa using d
 have c:i<l.length:=Nat.lt_trans b a;have:=bYM.mp h i j c a b;simp[cQg,a,c,this]
structure Tab(b:Bool)(t:bYs):Prop where
 rise:aYb t.place
 dum:t.dummies= #[]
 led:b=true\/t.led=true
theorem aWm(j:Nat):SetTable.has #[] j=false:=by
 unfold SetTable.has;simp
theorem bQC{b:Bool}{t:bYs}(T:Tab b t){j:Nat}(h:t.slot j= .empty):∀k,k<t.place.size->t.place.getD k 0≠j:=by
 intro k a e;obtain⟨g,f,i⟩:=vN T.rise j;have d:bKD t.place j=k:=by
  have l:¬k<bKD t.place j:=λh=>by have:=g k h;omega
  have m:¬bKD t.place j<k:=λh=>by have:=f _ (bWN _) (by omega);have:=T.rise _ k h a;omega
  omega
 unfold SetTable.slot at h;dsimp only at h;rw[d]at h;have c:t.place[k]? =some j:=by
  rw[bK9 a];have:t.place.getD k 0=t.place[k]:=by simp[cQg,a]
  rw[<- this,e]
 rw[c]at h;simp at h
theorem bQB{b:Bool}{t:bYs}(T:Tab b t)(j:Nat):t.slot j≠ .dummy:=by
 unfold SetTable.slot;dsimp only;rw[T.dum,aWm];split<;> simp
theorem Q8{b:Bool}{t:bYs}(T:Tab b t)(f:Nat->Int)(h:Int):∀ (a:Nat)(p:SetTable.Probe),p.dummy=none->∀j d,cXU t f h a p=some (.empty j d)->t.slot j= .empty/\d=none
 |0,p,_,j,d,e=>by unfold cXU at e;cases e
 |a+1,p,hp,j,d,e=>by
  have c:(t.advance p).dummy=none:=by
   unfold SetTable.advance;split
   ·exact hp
   ·exact hp
  unfold cXU at e;cases q:t.slot p.j with
  |empty=>rw[q]at e;simp only[cXS,SetTable.Met.empty.injEq]at e;obtain⟨rfl,rfl⟩:=e;exact⟨q,hp⟩
  |dummy=>exact absurd q (bQB T _)
  |live i=>
   rw[q]at e;dsimp only at e;split at e
   ·cases e
   ·exact Q8 T f h a _ c j d e
theorem w6{b:Bool}{t:bYs}(T:Tab b t)(n:Nat):Tab b (t.standIn n):=⟨aVt n,rfl,T.led⟩
theorem aJY{b:Bool}{t:bYs}(T:Tab b t)(es:Array (Int×bWG))(h:Int)(x:bWG):Tab b (layNew t es h x).2.1:=by
 unfold layNew;cases q:t.freeSlot h with
 |none=>exact w6 T _
 |some f=>
  obtain⟨a,l⟩:=f;dsimp only;have k:t.slot a= .empty:=by
   unfold SetTable.freeSlot at q;split at q
   ·rename_i j d e;simp only[cXS,Prod.mk.injEq]at q;obtain⟨i,g⟩:=Q8 T _ h _ _ rfl j d e;rw[<- q.1,g];exact i
   ·cases q
  have c:Tab b (t.put a).1:=by unfold SetTable.put;dsimp only;refine⟨aZz T.rise (bQC T k),?_,T.led⟩;rw[T.dum,aWm];rfl
  unfold SetTable.orStandIn;split
  ·exact c
  ·exact w6 c _
theorem aXM{b:Bool}{t:bYs}(T:Tab b t)(es:Array (Int×bWG))(c:Nat):Tab b (relayAll t es c).2.1:=by
 unfold relayAll;cases q:t.relaid (es.map (·.1)) c with
 |none=>exact w6 T _
 |some r=>
  obtain⟨m,g⟩:=r;dsimp only;have n:Tab b m:=by
   unfold SetTable.relaid SetTable.laid at q;simp only[Option.bind_eq_bind,Option.bind_eq_some_iff]at q;obtain⟨d,_,e⟩:=q;simp only[Option.pure_def,cXS,Prod.mk.injEq]at e;obtain⟨rfl,_⟩:=e;refine⟨aKe ?_,rfl,T.led⟩;rw[List.map_filterMap];have sub:∀ (f:Nat->Option Nat),(∀j k,f j=some k->k=j)->∀l:List Nat,List.Sublist (l.filterMap f) l:=by
    intro f i l;induction l with
    |nil=>exact List.Sublist.slnil
    |cons a r h=>
     rw[cQq];cases e:f a with
     |none=>exact h.cons a
     |some k=>rw[i a k e];exact h.cons_cons a
   refine List.Pairwise.sublist (sub _ ?_ _) List.pairwise_lt_range;intro j k e;cases q:d.getD j none with
   |none=>rw[q]at e;cases e
   |some z=>rw[q]at e;simpa using e.symm
  split
  ·exact n
  ·exact w6 T _
theorem aK2{b a:Bool}(h:b=true\/a=true):Tab b (.fresh 0 0 a):=⟨λi j d c=>absurd c (bKK _),rfl,h⟩
end Stb
namespace Stb
open PySem
def Ent(ks:List Int)(es:List (Int×bWG)):Prop:=bYi (λ(k:Int)(e:Int×bWG)=>e.1=hashInt k/\∃t,e.2=Value.int k t) ks es
theorem Ent.mem_l:∀ {ks:List Int} {es:List (Int×bWG)},Ent ks es->∀k∈ks,∃e∈es,∃t,e.2=Value.int k t
 |_,_,.nil,k,a=>by cases a
 |_,_,.cons r t,k,a=>by
  rcases bWU.mp a with rfl|a
  ·exact⟨_,bWV ..,r.2⟩
  ·obtain⟨e,b,z⟩:=Ent.mem_l t k a;exact⟨e,bWR _ b,z⟩
theorem Ent.mem_r:∀ {ks:List Int} {es:List (Int×bWG)},Ent ks es->∀e∈es,∃k∈ks,e.1=hashInt k/\∃t,e.2=Value.int k t
 |_,_,.nil,e,a=>by cases a
 |_,_,.cons r t,e,a=>by
  rcases bWU.mp a with rfl|a
  ·exact⟨_,bWV ..,r⟩
  ·obtain⟨k,b,z⟩:=Ent.mem_r t e a;exact⟨k,bWR _ b,z⟩
theorem Ent.elems{prog:bW3}{w:bKa}{ks:List Int}{es:List (Int×bWG)}(h:Ent ks es):ElemsOf (intKind prog w) es:=λe c=>by
 obtain⟨k,_,b,t,a⟩:=h.mem_r e c;refine⟨⟨k,?_,b⟩,?_⟩
 ·rw[a];exact intKind_is prog w k t
 ·rw[a];rfl
theorem Ent.length{ks:List Int}{es:List (Int×bWG)}(h:Ent ks es):ks.length=es.length:=bYz h
theorem Ent.append:∀ {ks ls:List Int} {es fs:List (Int×bWG)},Ent ks es->Ent ls fs->Ent (ks++ls) (es++fs)
 |_,_,_,_,.nil,s=>s
 |_,_,_,_,.cons r t,s=> .cons r (Ent.append t s)
theorem Ent.perm{es fs:List (Int×bWG)}(p:cXH es fs):∀ {ks:List Int},Ent ks es->∃a,Ent a fs/\a.Perm ks:=by
 induction p with
 |nil=>exact λ{ks} h=>⟨ks,h,.rfl⟩
 |cons x p m=>
  intro ks h;cases h with
  |cons r t=>obtain⟨a,d,c⟩:=m t;exact⟨_::a,.cons r d,c.cons _⟩
 |swap x y l=>
  intro ks h;cases h with
  |cons r t=>
   cases t with
   |cons i k=>exact⟨_::_::_,.cons i (.cons r k),.swap ..⟩
 |trans p q e b=>intro ks h;obtain⟨a,d,c⟩:=e h;obtain⟨g,f,j⟩:=b d;exact⟨g,f,j.trans c⟩
abbrev aX5(w:bKa):Bool:=w.params.followText "set-order"
def Z8(w:bKa)(h:Heap)(a:Nat)(ks:List Int):Prop:=
 ∃o b d t c,h.get? a=some o/\o.ExactSet/\o.data= .set b d t/\Ent c b.toList/\c.Perm ks/\ks.Nodup/\b.size<cXb/\t.fits b.size=true/\Tab (aX5 w) t
theorem Z8.at{w:bKa}{h h':Heap}{a:Nat}{ks:List Int}(x:Z8 w h a ks)(k:∀o,h.get? a=some o->h'.get? a=some o):Z8 w h' a ks:=
 let ⟨o,es,ep,t,ls,ho,r⟩:=x;⟨o,es,ep,t,ls,k o ho,r⟩
theorem Z8.there{w:bKa}{h:Heap}{a:Nat}{ks:List Int}(x:Z8 w h a ks):∃o,h.get? a=some o:=
 let ⟨o,es,ep,t,ls,ho,r⟩:=x;⟨o,ho⟩
theorem Z8.type{w:bKa}{s:bWJ}{a:Nat}{ks:List Int}(x:Z8 w s.heap a ks):s.TypeIs (.ref a) "set":=
 let ⟨o,es,ep,t,ls,ho,he,r⟩:=x;⟨o,ho,he.1⟩
theorem aW8{h:Heap}{a:Nat}{o:Obj}{es:Array (Int×bWG)}{c:Nat}{t:bYs}(e:h.get? a=some o)(d:o.data= .set es c t)(b:Array (Int×bWG))(t':bYs): (h.update a (Obj.putSet b t')).get? a=some {o with data:= .set b (c+1) t'}:=by
 have q:=bKG (Obj.putSet b t') e (by rw[putSet_of b t' d];rfl);rw[putSet_of b t' d]at q;exact q
section
variable {prog:bW3}{w:bKa}{A:bKk}{E:bWG->bWJ->Prop}{s:bWJ}
theorem aWl{b:Bool}{Q:Unit->bWJ->Prop}(h:Q () s):bWO (bWQ prog w) A (match b with|true=>rule "set.scan.the-table-gave-way"|false=>pure ()) Q E s:=by
 cases b
 ·exact bWM h
 ·exact wpAny_rule h
theorem bJj{a:Nat}{ks:List Int}{k:Int}{tk:Tok}{Q:Bool->bWJ->Prop}(hS:Z8 w s.heap a ks)(a3:ks.length+1<cXb) (h:∀n b,bYt a s.heap n->Z8 w n a (if k∈ks then ks else ks++ [k])->Q b {s with heap:=n}): bWO (bWQ prog w) A (setAddHashed a (.int k tk) (hashInt k)) Q E s:=by
 obtain⟨o,F,ep,t,ls,T,M,S,m,Y,a0,hb,hf,hT⟩:=hS;have U:=m.elems (prog:=prog) (w:=w);have a8:F.size=ks.length:=by rw[<- bK0,<- m.length,Y.length_eq]
 unfold setAddHashed setAddHashedIn;refine bKJ (bWH (cQf T S hf ?_));dsimp only;rw[byScan_of (knd:=intKind prog w) rfl hb U];simp only[↓reduceIte];unfold setAddByScan;refine bWH ?_;refine bWH (wpAny_rule ?_);refine bWH (wpAny_setScan_of (knd:=intKind prog w) (k:=k) (intKind_is prog w k tk) T S hf U ?_);cases hr:List.findIdx? (λe=>(intKind prog w).is k e.2) F.toList with
 |some j=>
  dsimp only;obtain⟨hj,X,_⟩:=List.findIdx?_eq_some_iff_getElem.mp hr;have u:k∈ks:=by
   obtain⟨k',a4,_,t',e'⟩:=m.mem_r _ (bYI hj);rw[e']at X;have:k=k':=by have z:(k'==k)=true:=X;exact(beq_iff_eq.mp z).symm
   rw[this];exact Y.mem_iff.mp a4
  refine bWM (bWM ?_);have q:=h s.heap false (Heap.SameBut.refl a s.heap) (by rw[if_pos u];exact⟨o,F,ep,t,ls,T,M,S,m,Y,a0,hb,hf,hT⟩);exact q
 |none=>
  dsimp only;have u:k∉ks:=λz=>by obtain⟨e,he,t',e'⟩:=m.mem_l k (Y.mem_iff.mpr z);have q:=List.findIdx?_eq_none_iff.mp hr e he;rw[e',intKind_is]at q;cases q
  rw[if_neg u]at h;have W:(ks++ [k]).Nodup:=by rw[cXe];exact⟨a0,bYn ..,λx hx y hy=>by rw[bW8.mp hy];rintro rfl;exact u hx⟩
  have d:=layNew_perm t F (hashInt k) (.int k tk);have f:=layNew_fits t F (hashInt k) (.int k tk);have i:=aJY hT F (hashInt k) (.int k tk);generalize hL:layNew t F (hashInt k) (.int k tk)=L at d f i ⊢;obtain⟨c,R,l,a9⟩:=L;dsimp only at d f i ⊢;rw[Array.toList_push]at d;obtain⟨V,G,a7⟩:=(m.append (ls:= [k]) (fs:= [(hashInt k,.int k tk)]) (.cons ⟨rfl,tk,rfl⟩ .nil)).perm d.symm;have D:V.Perm (ks++ [k]):=a7.trans (Y.append_right [k]);have v:c.size<cXb:=by rw[<- bK0,d.length_eq,bWW,bK0];simpa using (by omega:F.size+1<cXb)
  have B:∀g:bYs,g.fits c.size=true->Tab (aX5 w) g->
    bWO (bWQ prog w) A (do
     storeSet a c g
     if(!l && g.tooFull)=true then do
       (match(relayAll g c (cQj c.size)).2.2 with|true=>rule "set.scan.the-table-gave-way"|false=>pure ())
       storeSet a (relayAll g c (cQj c.size)).1 (relayAll g c (cQj c.size)).2.1
       pure (some true)
      else pure (some true)) (λr Z=>∃n,r=some true/\Z= {s with heap:=n}/\bYt a s.heap n/\Z8 w n a (ks++ [k])) E s:=by
   intro g a1 P
   refine bWH (wpAny_storeSet_of T S ?_ (cXV v))
   have C:=bYa s.heap a (Obj.putSet c g)
   have J:=aW8 T S c g
   split
   ·have p:=relayAll_perm g c (cQj c.size);have I:=relayAll_fits g c (cQj c.size);have K:=aXM P c (cQj c.size);generalize b0:relayAll g c (cQj c.size)=Rl at p I K ⊢;obtain⟨H,t3,a2⟩:=Rl;dsimp only at p I K ⊢;obtain⟨a6,O,a5⟩:=G.perm p.symm;have N:H.size=c.size:=by rw[<- bK0,p.length_eq,bK0]
    refine bWH (aWl ?_);refine bWH (wpAny_storeSet_of J rfl ?_ (cXV (by rw[N];exact v)));refine bWM ⟨_,rfl,rfl,C.trans (bYa _ a _),_,H,_,t3,a6,aW8 J rfl H t3,M,rfl,O,a5.trans D,W,by rw[N];exact v,I,K⟩
   ·exact bWM ⟨_,rfl,rfl,C,_,c,_,g,V,J,M,rfl,G,D,W,v,a1,P⟩
  have done:∀ (r:Option Bool)(Z:bWJ),(∃n,r=some true/\Z= {s with heap:=n}/\bYt a s.heap n/\Z8 w n a (ks++ [k]))->
    bWO (bWQ prog w) A (match r with|some added=>pure added|none=>setAddHashedIn a (.int k tk) (hashInt k) 99999) Q E Z:=by
   rintro r Z ⟨n,rfl,rfl,h1,h2⟩
   exact bWM (h n true h1 h2)
  refine bWH (aWl ?_);split
  ·refine bWH ?_;rw[hashByValue_scannable 8 (show(Value.int k tk).scannable=true from rfl)];refine bWM ?_;have e:(if plainKind (Value.int k tk)=true then R else {R with plain:=false})=R:=rfl;rw[e];exact bKE (B R f i) done λ_ _ z=>z
  ·refine bWH (bWM ?_);simp only[↓reduceIte];exact bKE (B R f i) done λ_ _ z=>z
end
end Stb
namespace Stb
open PySem
theorem xY:Slot "set_iterator" "__next__" "set_iterator.__next__":=
 .of (owner:="set_iterator") (n:="__next__") (by rw[typeLookup_type,cXn];kernel_rfl) dk dk dk
  (by first|exact .inl dk|exact .inr dk) (by rw[isSubtype_type];kernel_rfl)
theorem vO:entryFor table "set_iterator.__next__"=some bYC.«set_iterator.__next__»:=entryFor_of_tree (by kernel_rfl)
theorem aJi:Manifest.owners.lookup (String.ofList ['r', 'o', 't', 'a', 'r', 'e', 't', 'i', '_', 't', 'e', 's'].reverse)=some Manifest.sig_set_iterator:=by kernel_rfl
theorem uF(a:bWG):argsOk "set_iterator.__next__" ⟨[a],[]⟩:=by
 unfold argsOk;rw[signature?_of (id:="set_iterator.__next__") (n:= ['_', '_', 't', 'x', 'e', 'n', '_', '_']) (o:= ['r', 'o', 't', 'a', 'r', 'e', 't', 'i', '_', 't', 'e', 's']) (by kernel_rfl) aJi];kernel_rfl
theorem aJT:entryFor table "set.__iter__"=some bYC.«frozenset.__iter__»:=
 entryFor_alias (id':="frozenset.__iter__") (by kernel_rfl) rfl dk (by kernel_rfl)
theorem jQ:Slot "set_iterator" "__iter__" "set_iterator.__iter__":=
 .of (owner:="set_iterator") (n:="__iter__") (by rw[typeLookup_type,cXn];kernel_rfl) dk dk dk
  (by first|exact .inl dk|exact .inr dk) (by rw[isSubtype_type];kernel_rfl)
def vA(first:bWG)(i:Nat)(a:Nat)(n b:Nat):Obj:={cls:= .type "set_iterator",data:= .fields #[first,.int i 0,.ref a,.int n 0,.int b 0] }
section
variable {prog:bW3}{w:bKa}{A:bKk}{E:bWG->bWJ->Prop}{s:bWJ}
theorem aK0{I:Nat}{Q:Option bWG->bWJ->Prop}{h₁:Heap}(h:A.handled=none)(g:cQY I s.heap h₁)(i:∀d,cQY I s.heap d->Q none {s with heap:=d}):
  bWO (bWQ prog w) A.in1 (do raiseNew (<- newExc (.type "StopIteration") []):Sem PySem.Fin) (λf c=>∃r,f= .done (.ret r)/\bWO (bWQ prog w) A (pure (some r)) Q E c)
   (λe c=>bWO (bWQ prog w) A (do if <- cXt e (.type "StopIteration")then pure none else throw e) Q E c) {s with heap:=h₁}:=by
 refine bWH ?_
 simp only[newExc,newTuple]
 refine bWH (bYG ?_ (by size_fits))
 refine bWH (m:=firstArgMember _ _) (wpAny_of_eq (a:=Value.none) (by first|rfl|(simp only[firstArgMember];rfl)) ?_)
 refine bYG ?_ (by size_fits)
 simp only[raiseNew]
 refine bWH (wpAny_handled ?_)
 rw[show A.in1.handled=none from h]
 refine bWH (bWM (wpAny_throw ?_))
 refine bWH (wpAny_isInstance (T:="StopIteration") (b:=true) ⟨_,bW4 _ rfl,rfl⟩ isSubtype_stop ?_)
 exact bWM (i _ ((g.push _).push _))
theorem aWK{I a:Nat}{o:Obj}{es:Array (Int×bWG)}{d:Nat}{t:bYs}{b i nx:Nat}{x:bWG}{Q:Option bWG->bWJ->Prop} (r:s.heap.get? a=some o) (q:o.data= .set es d t) (n:t.fits es.size=true) (e:s.heap.get? I=some (vA (.int b 0) i a es.size d)) (m:∀ (h:Option (bWG×Nat)->bWJ->Prop)(k:bWG->bWJ->Prop)(l:bKk),h (some (x,nx)) s->bWO (bWQ prog w) l (setNext a b i d) h k s) (p:∀f,f.get? I=some (vA (.int nx 0) (i+1) a es.size d)->bYt I s.heap f->Q (some x) {s with heap:=f}):bWO (bWQ prog w) A (cQH (.ref I)) Q E s:=by
 have j:s.TypeIs (.ref I) "set_iterator":=⟨_,e,rfl⟩;unfold cQH;refine bWH (cQV (cQs (name:=cQ8 "__next__") j xY (bYy xY j vO ?_ (uF _))));unfold bYC.«set_iterator.__next__»;refine bWH (bWM ?_);refine bWH (cXD e rfl ?_);show bWO _ _ (setEntries a >>=_) _ _ s;refine bWH (cQr r q n ?_);rw[if_neg (by simp)];show bWO _ _ (setNext a ((b:Int)).toNat ((i:Int)).toNat ((d:Int)).toNat >>=_) _ _ s;rw[bKs,bKs,bKs];refine bWH (m _ _ _ ?_);show bWO _ _ (setField (.ref I) 0 (bKZ nx) >>=_) _ _ s;refine bWH (bYL e rfl (by simp) ?_);have c:=bKG (bKU (·.setIfInBounds 0 (bKZ (nx:Int)))) e (bK6 (bK8 rfl _));refine bWH (bYL c rfl (by simp) (bWM ⟨x,rfl,bWM (p _ ?_ ((bYa ..).trans (bYa ..)))⟩));have g:=bKG (bKU (·.setIfInBounds 1 (bKZ ((i:Int)+1)))) c (bK6 (bK8 rfl _));exact g
end
end Stb
namespace Stb
open PySem
section
variable {prog:bW3}{w:bKa}{A:bKk}{E:bWG->bWJ->Prop}{s:bWJ}
theorem aYr{I a:Nat}{o:Obj}{es:Array (Int×bWG)}{c:Nat}{t:bYs}{b i:Nat}{Q:Option bWG->bWJ->Prop}(q:A.handled=none) (p:s.heap.get? a=some o) (n:o.data= .set es c t) (l:t.fits es.size=true) (d:s.heap.get? I=some (vA (.int b 0) i a es.size c)) (k:∀ (e:Option (bWG×Nat)->bWJ->Prop)(h:bWG->bWJ->Prop)(j:bKk),e none s->bWO (bWQ prog w) j (setNext a b i c) e h s) (m:∀f,cQY I s.heap f->Q none {s with heap:=f}):bWO (bWQ prog w) A (cQH (.ref I)) Q E s:=by
 have g:s.TypeIs (.ref I) "set_iterator":=⟨_,d,rfl⟩;unfold cQH;refine bWH (cQV (cQs (name:=cQ8 "__next__") g xY (bYy xY g vO ?_ (uF _))));unfold bYC.«set_iterator.__next__»;refine bWH (bWM ?_);refine bWH (cXD d rfl ?_);show bWO _ _ (setEntries a >>=_) _ _ s;refine bWH (cQr p n l ?_);rw[if_neg (by simp)];show bWO _ _ (setNext a ((b:Int)).toNat ((i:Int)).toNat ((c:Int)).toNat >>=_) _ _ s;rw[bKs,bKs,bKs];refine bWH (k _ _ _ ?_);show bWO _ _ (setField (.ref I) 2 .none >>=_) _ _ s;refine bWH (bYL d rfl (by simp) ?_);exact aK0 q (bYa ..).extBut m
theorem aYC{h:Heap}{I:Nat}{f:bWG}{i:Nat}{a:Nat}{n b:Nat}(c:h.get? I=some (vA f i a n b)): (h.update I (bKU (·.setIfInBounds 1 (bKZ ((i:Int)+1))))).get? I=some (vA f (i+1) a n b):=by
 have q:=bKG (bKU (·.setIfInBounds 1 (bKZ ((i:Int)+1)))) c (bK6 (bK8 (o:=vA f i a n b) rfl _));rw[q];rfl
theorem aYB{h:Heap}{I:Nat}{f:bWG}{i:Nat}{a:Nat}{n b:Nat}(c:h.get? I=some (vA f i a n b)): (h.update I (bKU (·.setIfInBounds 0 (bKZ (0:Int))))).get? I=some (vA (.int 0 0) i a n b):=by
 have q:=bKG (bKU (·.setIfInBounds 0 (bKZ (0:Int)))) c (bK6 (bK8 (o:=vA f i a n b) rfl _));rw[q];rfl
theorem aJ7{I a p:Nat}{o:Obj}{es:Array (Int×bWG)}{g:Nat}{t:bYs}{i j:Nat}{pl:Array bWG}{m:Obj}{c:Nat}{e:Int×bWG}{Q:Option bWG->bWJ->Prop} (n:s.heap.get? a=some o) (l:o.data= .set es g t) (k:t.fits es.size=true) (b:s.heap.get? I=some (vA (.ref p) i a es.size g)) (r:s.heap.get? p=some m) (f:m.data= .seq pl c) (v:pl[i]? =some (.int j 0)) (x:es[j]? =some e) (u:∀h,h.get? I=some (vA (.ref p) (i+1) a es.size g)->bYt I s.heap h->Q (some e.2) {s with heap:=h}):bWO (bWQ prog w) A (cQH (.ref I)) Q E s:=by
 have q:s.TypeIs (.ref I) "set_iterator":=⟨_,b,rfl⟩;unfold cQH;refine bWH (cQV (cQs (name:=cQ8 "__next__") q xY (bYy xY q vO ?_ (uF _))));unfold bYC.«set_iterator.__next__»;refine bWH (bWM ?_);refine bWH (cXD b rfl ?_);show bWO _ _ (setEntries a >>=_) _ _ s;refine bWH (cQr n l k ?_);rw[if_neg (by simp)];show bWO _ _ (seqItems? (.ref p) >>=_) _ _ s;refine bWH (wpAny_seqItems r f ?_);dsimp only;simp only[bKs,v];refine bWH ?_;unfold setNextDrawn;refine bWH (cQf n l k ?_);dsimp only;rw[if_neg (by simp)];obtain⟨y,ex⟩:=e;rw[x];refine bWM ?_;have d:=aYC b;refine bWH (bYL b rfl (by simp) ?_);refine bWM ⟨ex,rfl,?_⟩;refine bWM ?_;exact u _ d (bYa s.heap I _)
theorem aWg{I a p:Nat}{o:Obj}{es:Array (Int×bWG)}{f:Nat}{t:bYs}{i:Nat}{pl:Array bWG}{h:Obj}{c:Nat}{Q:Option bWG->bWJ->Prop}(v:A.handled=none) (u:s.heap.get? a=some o) (q:o.data= .set es f t) (m:t.fits es.size=true) (b:s.heap.get? I=some (vA (.ref p) i a es.size f)) (l:s.heap.get? p=some h) (e:h.data= .seq pl c) (r:pl[i]? =none) (n:∀g,cQY I s.heap g->Q none {s with heap:=g}):bWO (bWQ prog w) A (cQH (.ref I)) Q E s:=by
 have j:s.TypeIs (.ref I) "set_iterator":=⟨_,b,rfl⟩;unfold cQH;refine bWH (cQV (cQs (name:=cQ8 "__next__") j xY (bYy xY j vO ?_ (uF _))));unfold bYC.«set_iterator.__next__»;refine bWH (bWM ?_);refine bWH (cXD b rfl ?_);show bWO _ _ (setEntries a >>=_) _ _ s;refine bWH (cQr u q m ?_);rw[if_neg (by simp)];show bWO _ _ (seqItems? (.ref p) >>=_) _ _ s;refine bWH (wpAny_seqItems l e ?_);dsimp only;simp only[bKs,r];refine bWH (bYL b rfl (by simp) ?_);have d:=aYB b;refine bWH (bYL d rfl (by simp) ?_);have k:=(bYa s.heap I (bKU (·.setIfInBounds 0 (bKZ (0:Int))))).trans (bYa _ I (bKU (·.setIfInBounds 2 Value.none)));exact aK0 (s:=s) v k.extBut n
theorem u8{α:Type}:∀ {l:List α} {i:Nat} (h:i<l.length),cXH (l[i]::l.eraseIdx i) l
 |x::r,0,_=> .rfl
 |x::r,i+1,h=>by have a:=u8 (l:=r) (i:=i) (by simpa using h);exact(List.Perm.swap ..).trans (a.cons x)
theorem aXG{α:Type}(f:Nat->Nat):∀ (a k:Nat)(left:List α)(out:Array α),left.length=a->cXH (cQL.go f a k left out).toList (out.toList++left)
 |0,k,left,out,h=>by have e:left= []:=List.length_eq_zero_iff.mp h;subst e;unfold cQL.go;rw[bKI]
 |a+1,k,left,out,h=>by unfold cQL.go;have b:f k % left.length<left.length:=Nat.mod_lt _ (by omega);rw[bWF b];dsimp only;refine(aXG f a (k+1) _ _ (by rw[List.length_eraseIdx,if_pos b];omega)).trans ?_;rw[Array.toList_push,bKQ,List.singleton_append];exact(u8 b).append_left _
theorem bQV{a:Nat}{o:Obj}{es:Array (Int×bWG)}{b:Nat}{t:bYs}{Q:Array (Int×bWG)->bWJ->Prop}(e:s.heap.get? a=some o)(f:o.data= .set es b t)(d:t.fits es.size=true) (c:aX5 w=true) (h:Q (cQL (w.params.setOrder a b) es) s):bWO (bWQ prog w) A (setWalk a) Q E s:=by
 unfold setWalk setsByText;refine bWH (cQf e f d ?_);dsimp only;refine bWH (bWH (cQp (bWM ?_)));show bWO (bWQ prog w) A (if aX5 w=true then _ else _) Q E s;rw[if_pos c];exact bWH (cQp (bWM h))
theorem aWL{a:Nat}{o:Obj}{es:Array (Int×bWG)}{c:Nat}{t:bYs}{b i:Nat}{Q:Option (bWG×Nat)->bWJ->Prop}(f:s.heap.get? a=some o)(j:o.data= .set es c t) (g:t.fits es.size=true) (d:aX5 w=true) (h:Q (((cQL (w.params.setOrder a c) es)[i]?).map λe=>(e.2,b)) s):bWO (bWQ prog w) A (setNext a b i c) Q E s:=by
 unfold setNext setsByText;refine bWH (cQf f j g ?_);dsimp only;refine bWH (bWH (cQp (bWM ?_)));show bWO (bWQ prog w) A (if aX5 w=true then _ else _) Q E s;rw[if_pos d];rw[if_neg (by simp)];exact bWH (bQV f j g d (bWM h))
theorem aYN{a:Nat}{o:Obj}{es:Array (Int×bWG)}{d:Nat}{t:bYs}{b i:Nat}{Q:Option (bWG×Nat)->bWJ->Prop}(f:s.heap.get? a=some o)(k:o.data= .set es d t)
  (g:t.fits es.size=true) (e:aX5 w=false) (c:(!t.plain && decide (es.size > 1))=false) (hl:t.led=true)
  (h:Q (match es[bKD t.place b]?,t.place[bKD t.place b]? with|some (_,x),some j=>some (x,j+1)|_,_=>none) s):bWO (bWQ prog w) A (setNext a b i d) Q E s:=by
 unfold setNext setsByText
 refine bWH (cQf f k g ?_)
 dsimp only
 refine bWH (bWH (cQp (bWM ?_)))
 show bWO (bWQ prog w) A (if aX5 w=true then _ else _) Q E s
 rw[e,if_neg (by decide)]
 show bWO (bWQ prog w) A (if(!t.plain && decide (es.size > 1))=true then _ else _) Q E s
 rw[c,if_neg (by decide)]
 refine bWH ?_
 show bWO (bWQ prog w) A (if(!t.led && !es.isEmpty)=true then _ else _) _ E s
 rw[hl]
 simp only[Bool.not_true,Bool.false_and,Bool.false_eq_true,↓reduceIte]
 exact bWM (bWM h)
end
end Stb
namespace Stb
open PySem
def aQ3(ks:List Int)(vs:List bWG):Prop:=bYi (λ(k:Int)(v:bWG)=>∃t,v=Value.int k t) ks vs
theorem Ent.vals:∀ {ks:List Int} {es:List (Int×bWG)},Ent ks es->aQ3 ks (es.map (·.2))
 |_,_,.nil=> .nil
 |_,_,.cons r t=> .cons r.2 (Ent.vals t)
theorem aYI{α:Type}{xs ys:List α}(hl:xs.length=ys.length)(h:∀ (j:Nat)(x:α),xs[j]? =some x->ys[j]? =some x):xs=ys:=by
 apply bYU;intro i;cases e:xs[i]? with
 |some x=>exact(h i x e).symm
 |none=>have:=cXX.mp e;exact(cXX.mpr (by omega)).symm
theorem jJ{α β:Type}{f:α->Option β}:∀ {l:List α} (h:∀x∈l,(f x).isSome=true) (i:Nat),(l.filterMap f)[i]? =l[i]?.bind f
 |[],_,i=>by simp
 |x::r,h,i=>by
  obtain⟨y,e⟩:=Option.isSome_iff_exists.mp (h x (bWV ..));rw[List.filterMap_cons_some e];cases i with
  |zero=>simp[e]
  |succ i=>simpa using jJ (λz a=>h z (bWR _ a)) i
theorem aQn:entryFor table "set_iterator.__iter__"=some bYC.«dict_keyiterator.__iter__»:=
 entryFor_alias (id':="dict_keyiterator.__iter__") (by kernel_rfl) rfl dk (by kernel_rfl)
theorem aQ6(a:bWG):argsOk "set_iterator.__iter__" ⟨[a],[]⟩:=by
 unfold argsOk;rw[signature?_of (id:="set_iterator.__iter__") (n:= ['_', '_', 'r', 'e', 't', 'i', '_', '_']) (o:= ['r', 'o', 't', 'a', 'r', 'e', 't', 'i', '_', 't', 'e', 's']) (by kernel_rfl) aJi];kernel_rfl
section
variable {prog:bW3}{w:bKa}{A:bKk}{E:bWG->bWJ->Prop}{s:bWJ}
theorem aWd{α:Type}:∀ (n:Nat)(xs:List α)(s:bWJ)(Q:List α->bWJ->Prop),xs.length=n->(∀c d,cXH c xs->Q c {s with drawn:=d})->bWO (bWQ prog w) A (drawOrder n xs) Q E s
 |0,xs,s,Q,hl,h=>by have e:xs= []:=List.length_eq_zero_iff.mp hl;subst e;unfold drawOrder;exact bWM (h [] s.drawn .rfl)
 |n+1,[],s,Q,hl,h=>by cases hl
 |n+1,x::r,s,Q,hl,h=>by
  unfold drawOrder;have a:w.draws .order (s.drawn.get .order) % (x::r).length<(x::r).length:=Nat.mod_lt _ (Nat.succ_pos _);refine bWH (m:=choose .order (x::r).length) ?_;have g:∀ (b:Nat->bWJ->Prop),b (w.draws .order (s.drawn.get .order) % (x::r).length) {s with drawn:=s.drawn.bump .order}->bWO (bWQ prog w) A (choose .order (x::r).length) b E s:=by intro b f Γ p hΓ;show Sem.wp _ _ (.choose .order (x::r).length .pure) _ _ _ _;rw[Sem.wp_choose];exact⟨Nat.succ_ne_zero _,f⟩
  refine g _ ?_;generalize k:w.draws .order (s.drawn.get .order) % (x::r).length=i at a ⊢;rw[bWF a];dsimp only;refine bWH (aWd n _ _ _ (by rw[List.length_eraseIdx,if_pos a];simpa using hl) λc d j=>?_);exact bWM (h _ _ ((j.cons _).trans (u8 a)))
theorem aKI{I a:Nat}{f:bWG}{i n c:Nat}{Q:bWG->bWJ->Prop}(d:s.heap.get? I=some (vA f i a n c))(h:Q (.ref I) s):bWO (bWQ prog w) A (pyIter (.ref I)) Q E s:=by
 have b:s.TypeIs (.ref I) "set_iterator":=⟨_,d,rfl⟩;refine wpAny_pyIter_slot b jQ (bYy jQ b aQn ?_ (aQ6 _));show bWO _ _ (ret (.ref I)) _ _ s;exact bWM ⟨_,rfl,"set_iterator",_,b,xY.lookup,h⟩
theorem aVQ{I a:Nat}{o:Obj}{es:Array (Int×bWG)}{ep:Nat}{t:bYs}{vs:List bWG}{g:Nat->Nat}(hd:o.data= .set es ep t)(hf:t.fits es.size=true)(hv:vs.length=es.size)(hne:a≠I)
  (hx:∀ (s:bWJ)(i:Nat)(A':bKk)(E':bWG->bWJ->Prop)(Q':Option (bWG×Nat)->bWJ->Prop),s.heap.get? a=some o->i<=es.size->Q' ((vs[i]?).map λx=>(x,g (i+1))) s->bWO (bWQ prog w) A' (setNext a (g i) i ep) Q' E' s)
  (hh:A.handled=none):Walks prog w A I [I,a] [I] es.size (λi v=>vs[i]? =some v) (λi h=>i<=es.size/\h.get? a=some o/\h.get? I=some (vA (.int (g i) 0) i a es.size ep)) where
 sub:=λb hb=>by simp at hb;simp[hb]
 frame:=λi h h' st k=>⟨st.1,k a (by simp) o st.2.1,k I (by simp) _ st.2.2⟩
 item:=λi s Q E hi st hQ=>by
  obtain⟨h1,h2,h3⟩:=st
  have hlt:i<vs.length:=by omega
  refine aWK (nx:=g (i+1)) (x:=vs[i]) h2 hd hf h3 (λQ' E' A' hq=>hx s i A' E' Q' h2 h1 (by rw[bWF hlt];exact hq)) λh' hI' sb=>?_
  exact hQ _ h' s.toks (bWF hlt) ⟨by omega,sb.extBut a o hne h2,hI'⟩ λb ob hb e=>sb.extBut b ob (λz=>hb (by simp[z])) e
 done:=λs Q E st hQ=>by
  obtain⟨h1,h2,h3⟩:=st
  refine aYr hh h2 hd hf h3 (λQ' E' A' hq=>hx s es.size A' E' Q' h2 h1 (by rw[bKf (by omega)];exact hq)) λh' sb=>?_
  exact hQ h' s.toks λb ob hb e=>sb b ob (λz=>hb (by simp[z])) e
 self:=λi s Q E st hQ=>aKI st.2.2 hQ
theorem aZU{I a p:Nat}{o op:Obj}{es:Array (Int×bWG)}{ep c:Nat}{t:bYs}{vs:List bWG}{ys:List Nat}(hd:o.data= .set es ep t)(hf:t.fits es.size=true)(hv:ys.length=es.size)
  (hpd:op.data= .seq (ys.map λ(j:Nat)=>Value.int j 0).toArray c) (hne:a≠I) (hnp:p≠I) (hx:∀ (i j:Nat),ys[i]? =some j->∃e,es[j]? =some e/\vs[i]? =some e.2)
  (hh:A.handled=none):Walks prog w A I [I,a,p] [I] es.size (λi v=>vs[i]? =some v) (λi h=>i<=es.size/\h.get? a=some o/\h.get? p=some op/\h.get? I=some (vA (.ref p) i a es.size ep)) where
 sub:=λb hb=>by simp at hb;simp[hb]
 frame:=λi h h' st k=>⟨st.1,k a (by simp) o st.2.1,k p (by simp) op st.2.2.1,k I (by simp) _ st.2.2.2⟩
 item:=λi s Q E hi st hQ=>by
  obtain⟨h1,h2,h3,h4⟩:=st
  have hlt:i<ys.length:=by omega
  obtain⟨e,he,hve⟩:=hx i ys[i] (bWF hlt)
  refine aJ7 (j:=ys[i]) (e:=e) h2 hd hf h4 h3 hpd (by simp[hlt]) he λh' hI' sb=>?_
  exact hQ _ h' s.toks hve ⟨by omega,sb.extBut a o hne h2,sb.extBut p op hnp h3,hI'⟩ λb ob hb e=>sb.extBut b ob (λz=>hb (by simp[z])) e
 done:=λs Q E st hQ=>by
  obtain⟨h1,h2,h3,h4⟩:=st
  refine aWg hh h2 hd hf h4 h3 hpd (by simp[hv]) λh' sb=>?_
  exact hQ h' s.toks λb ob hb e=>sb b ob (λz=>hb (by simp[z])) e
 self:=λi s Q E st hQ=>aKI st.2.2.2 hQ
theorem bX1{a:Nat}{ks:List Int}{Q:bWG->bWJ->Prop}(hS:Z8 w s.heap a ks) (h:∀ (I:Nat)(h':Heap)(d:Drawn)(fp:List Nat)(St:Nat->Heap->Prop)(vs:List bWG)(ls:List Int),s.heap.objs.size<=I->(∀b∈fp,b=a\/s.heap.objs.size<=b)->(∀b∈fp,b<h'.objs.size)->aQ3 ls vs->ls.Perm ks-> (∀ (A:bKk),A.handled=none->Walks prog w A I fp [I] ks.length (λi v=>vs[i]? =some v) St)->St 0 h'->(∀b o,s.heap.get? b=some o->h'.get? b=some o)-> Q (.ref I) {s with heap:=h',drawn:=d}):bWO (bWQ prog w) A (pyIter (.ref a)) Q E s:=by
 have hT:=hS.type;obtain⟨o,f,u,t,ls,O,a8,K,G,Z,a9,l,C,N⟩:=hS;have L:f.size=ks.length:=by rw[<- bK0,<- G.length,Z.length_eq]
 have B:a<s.heap.objs.size:=bWT O;refine wpAny_pyIter_slot hT F.slot_set_iter (bYy F.slot_set_iter hT aJT ?_ (F.args_set_iter_1 _));unfold bYC.«frozenset.__iter__» Builtin.Frozenset.slot0 slotArgs;simp only[List.isEmpty_nil,Bool.not_true,Bool.false_eq_true,↓reduceIte,bind_assoc,cQu,bne_self_eq_false];unfold Builtin.Frozenset.addrOf Builtin.Frozenset.sizeOf;refine bWH (bWM ?_);try dsimp only
 refine bWH (bWM ?_);refine bWH (bWH (cQr O K C (bWM ?_)));refine bWH ?_;unfold setDrawn setsByText;refine bWH (cQf O K C ?_);dsimp only;refine bWH (bWH (cQp (bWM ?_)));refine bWM ?_;refine cXw (λc=>?_) (λc=>?_)
 ·refine bWH (aWd f.size (bWS f.size) s _ bKo λy d P=>?_);have U:y.length=f.size:=by rw[P.length_eq,bKo]
  have V:∀j∈y,j<f.size:=λj X=>bKc.mp (P.mem_iff.mp X);refine bWH (wpAny_newTuple ?_ (by rw[bWK,U];exact cXV l));have a4:=bWL {cls:= .type "tuple",data:= .seq (y.map λ(i:Nat)=>bKZ (i:Int)).toArray} O;refine bWH (wpAny_setEpoch_of a4 K C ?_);refine bWH (bYG (bWM ⟨_,rfl,"set_iterator",_,⟨_,bW4 _ rfl,rfl⟩,xY.lookup,?_⟩));have R:cXH (y.filterMap λj=>f[j]?) f.toList:=(P.filterMap _).trans (by rw[filterMap_getElem?_range]);obtain⟨k,m,n⟩:=G.perm R.symm;have a3:∀ (i j:Nat),y[i]? =some j->∃e,f[j]? =some e/\((y.filterMap λj=>f[j]?).map (·.2))[i]? =some e.2:=λi j e=>by have X:j<f.size:=V j (bW1 e);refine⟨f[j],bK9 X,?_⟩;rw[bWY,jJ (λx hx=>by rw[bK9 (V x hx)];rfl),e,Option.bind_some,bK9 X];rfl
  have q:∀ (H:Heap)(W:Obj),W.data= .seq (y.map λ(i:Nat)=>Value.int i 0).toArray 0->H.objs.size=s.heap.objs.size+1->H.get? s.heap.objs.size=some W->(∀b o,s.heap.get? b=some o->H.get? b=some o)->
    Q (.ref H.objs.size) {s with heap:=H.push (vA (.ref s.heap.objs.size) 0 a f.size u),drawn:=d}:=by
   intro H W a1 r a5 hk
   refine h H.objs.size _ d [H.objs.size,a,s.heap.objs.size] (λi h=>i<=f.size/\h.get? a=some o/\h.get? s.heap.objs.size=some W/\h.get? H.objs.size=some (vA (.ref s.heap.objs.size) i a f.size u)) _ k ?_ ?_ ?_ m.vals (n.trans Z)
    (λA hh=>by rw[<- L];exact aZU (o:=o) (ys:=y) (c:=0) K C U a1 (bW9 (by rw[r];exact bKT B)) (bW9 (by rw[r];exact bKP _)) a3 hh) ⟨bKt _,bWL _ (hk _ _ O),bWL _ a5,bW4 _ rfl⟩ λb ob e=>bWL _ (hk _ _ e)
   ·omega
   ·intro b l;simp only[bWU,cQl,or_false]at l;rcases l with rfl|rfl|rfl
    ·right;omega
    ·left;rfl
    ·right;exact bWN _
   ·intro b l;rw[bYh];simp only[bWU,cQl,or_false]at l;rcases l with rfl|rfl|rfl
    ·exact bKP _
    ·rw[r];exact bKT (bKT B)
    ·rw[r];exact bKT (bKP _)
  exact q _ _ rfl (bYh ..) (bW4 _ rfl) λb ob e=>bWL _ e
 ·refine bWH (bWM ?_);refine bWH (wpAny_setEpoch_of O K C ?_);refine bWH (bYG (bWM ⟨_,rfl,"set_iterator",_,⟨_,bW4 _ rfl,rfl⟩,xY.lookup,?_⟩));have q:∀ (vs:List bWG)(g:Nat->Nat)(k:List Int),g 0=0->vs.length=f.size->aQ3 k vs->k.Perm ks->
    (∀ (s:bWJ)(i:Nat)(A':bKk)(E':bWG->bWJ->Prop)(Y:Option (bWG×Nat)->bWJ->Prop),s.heap.get? a=some o->i<=f.size->Y ((vs[i]?).map λx=>(x,g (i+1))) s->bWO (bWQ prog w) A' (setNext a (g i) i u) Y E' s)->
    Q (.ref s.heap.objs.size) {s with heap:=s.heap.push {cls:= .type "set_iterator",dict:=none,data:= .fields [bKZ 0,bKZ 0,Value.ref a,bKZ (f.size:Int),bKZ (u:Int)].toArray} }:=by
   intro vs g k g0 a2 hv n hx
   refine h s.heap.objs.size _ s.drawn [s.heap.objs.size,a] (λi h=>i<=f.size/\h.get? a=some o/\h.get? s.heap.objs.size=some (vA (.int (g i) 0) i a f.size u)) vs k (bWN _) ?_ ?_ hv n
    (λA hh=>by rw[<- L];exact aVQ (o:=o) (g:=g) K C a2 (bW9 B) hx hh) ⟨bKt _,bWL _ O,?_⟩ λb ob e=>bWL _ e
   ·intro b l;simp only[bWU,cQl,or_false]at l;rcases l with rfl|rfl
    ·right;exact bWN _
    ·left;rfl
   ·intro b l;rw[bYh];simp only[bWU,cQl,or_false]at l;rcases l with rfl|rfl
    ·exact bKP _
    ·exact bKT B
   ·rw[g0];exact bW4 _ rfl
  cases D:aX5 w with
  |true=>
   have pp:cXH (cQL (w.params.setOrder a u) f).toList f.toList:=by have:=aXG (w.params.setOrder a u) f.size 0 f.toList #[] (by simp);simpa[cQL]using this
   obtain⟨k,m,n⟩:=G.perm pp.symm;refine q ((cQL (w.params.setOrder a u) f).toList.map (·.2)) (λ_=>0) k rfl (by rw[bWK,pp.length_eq];simp) m.vals (n.trans Z) λs i A' E' Y S hi p=>?_;refine aWL S K C D ?_;rw[bWY,bK5]at p;cases e:(cQL (w.params.setOrder a u) f)[i]? with
   |none=>rw[e]at p;exact p
   |some z=>rw[e]at p;exact p
  |false=>
   have a0:(!t.plain && decide (f.size > 1))=false:=by have c':¬ ((!aX5 w && (!t.plain && decide (f.size > 1)))=true):=c;rw[D]at c';simpa using c'
   have T:t.led=true:=N.led.resolve_left (by rw[D];decide);have a7:t.place.size=f.size:=by have:=C;simp only[SetTable.fits,Bool.and_eq_true,beq_iff_eq]at this;exact this.1
   refine q (f.toList.map (·.2)) (λi=>if i=0 then 0 else t.place.getD (i - 1) 0+1) ls (by simp) (by simp) G.vals Z λs i A' E' Y S hi p=>?_;refine aYN S K C D a0 T ?_;have a6:bKD t.place (if i=0 then 0 else t.place.getD (i - 1) 0+1)=i:=by
    by_cases h0:i=0
    ·rw[if_pos h0,aJM N.rise,h0]
    ·rw[if_neg h0,aJL N.rise (by omega)];omega
   rw[a6];by_cases J:i<f.size
   ·have M:i<t.place.size:=by omega
    rw[bK9 J,bK9 M];rw[bWY,bK5,bK9 J]at p;have e1:t.place.getD i 0=t.place[i]:=by simp[cQg,M]
    simpa[e1]using p
   ·rw[cQz (by omega)];rw[bWY,bK5,cQz (by omega)]at p;exact p
end
end Stb
namespace Stb
open PySem PyProof.Rows
section
variable {prog:bW3}{w:bKa}{A:bKk}{E:bWG->bWJ->Prop}{s:bWJ}
theorem bXZ{r:Nat}{Q:Bool->bWJ->Prop}(c:s.TypeIs (.ref r) "set")(h:Q false s):bWO (bWQ prog w) A (cXE (.ref r)) Q E s:=by
 unfold cXE;refine bWH (wpAny_specialOf c PySem.F.slot_set_len.lookup ?_);generalize a:("set.__len__":String)=q;wp_delta;rw[show splitId q=some ("set","__len__")from by subst a;decide+kernel];subst a;refine bWH (wpAny_isInstance (T:="set") (b:=true) c sub_set_self ?_);refine cXw (λz=>absurd z (by decide)) (λ_=>?_);refine cXw (λ_=>?_) (λz=>absurd dk z);exact bWH (wpAny_typeOf c (bWM h))
theorem aJQ{a:Nat}{ks:List Int}{R:List bWG->bWJ->Prop}(hh:A.handled=none)(hS:Z8 w s.heap a ks)(hn:ks.length<=bKb) (h:∀ (h':Heap)(tk:Nat)(d:Drawn)(vs:List bWG)(ls:List Int),s.heap.objs.size<h'.objs.size->(∀b o,s.heap.get? b=some o->h'.get? b=some o)->aQ3 ls vs->ls.Perm ks->R vs {s with heap:=h',toks:=tk,drawn:=d}): bWO (bWQ prog w) A (collect (.ref a)) R E s:=by
 have hT:=hS.type;obtain⟨oa,a6⟩:=hS.there;have G:a<s.heap.objs.size:=bWT a6;unfold collect;refine bWH (wpAny_runValue (bYT entry_proto_collect' ?_));rw[bYB PySem.F.plain_proto_collect _];show bWO _ A.in1 (newList [] >>=λl=>again (.builtin "list.__iadd__" ⟨[l,.ref a],[]⟩)) _ _ s;refine bWH (bYG ?_);refine bWM ⟨cQU PySem.F.plain_list_iadd _,bYT entry_list_iadd' ?_⟩;rw[bYB PySem.F.plain_list_iadd _];have hL:(s.heap.push {cls:= .type "list",data:= .seq ([]:List bWG).toArray}).get? s.heap.objs.size=some {cls:= .type "list",data:= .seq #[] }:=bW4 _ rfl;have t:Z8 w (s.heap.push {cls:= .type "list",data:= .seq ([]:List bWG).toArray}) a ks:=hS.at λo e=>bWL _ e;have g:(s.heap.push {cls:= .type "list",data:= .seq ([]:List bWG).toArray}).objs.size=s.heap.objs.size+1:=bYh ..;generalize V:s.heap.push {cls:= .type "list",data:= .seq ([]:List bWG).toArray}=H1 at hL t g ⊢;have U:∀b o,s.heap.get? b=some o->H1.get? b=some o:=λb o e=>by rw[<- V];exact bWL _ e
 show bWO _ A.in1 (cQJ (.ref s.heap.objs.size) (.ref a) (.ref s.heap.objs.size)) _ _ {s with heap:=H1};have C:Shared.TypeIs {s with heap:=H1} (.ref a) "set":=t.type (s:={s with heap:=H1});unfold cQJ;refine bWH (wpAny_typeOf (T:="set") C ?_);have q1:cX1 (.ref s.heap.objs.size) (.ref a)=false:=by simp[cX1,bY7 G]
 have q2:(Value.type "set"==Value.type "list")=false:=by decide
 have q3:(Value.type "set"==Value.type "tuple")=false:=by decide
 simp only[q1,q2,q3,Bool.or_false,Bool.false_eq_true,if_false];refine bWH (bX1 (s:={s with heap:=H1}) t ?_);intro I h2 d fp St vs ls hI Z a9 hv hp W J r;have K:s.heap.objs.size∉fp:=λz=>by
  rcases Z _ z with e|e
  ·exact bY7 G e
  ·have e':H1.objs.size<=s.heap.objs.size:=e;rw[g]at e';exact absurd e' (Nat.not_succ_le_self _)
 have u:=r _ _ hL;have D:∀ (M:Heap)(c:Nat),St 0 M->(∀b o,b≠s.heap.objs.size->h2.get? b=some o->M.get? b=some o)->M.get? s.heap.objs.size=some {cls:= .type "list",data:= .seq #[] c}->
   bYV (bWQ prog w) A (.builtin "list.extend.loop" ⟨[.ref s.heap.objs.size,.ref I,.ref s.heap.objs.size],[]⟩)
    (λq k=>∃ (h':Heap)(tk:Nat)(f:Array bWG)(y:Nat),q= .ok (.ret (.ref s.heap.objs.size))/\k= {s with heap:=h',toks:=tk,drawn:=d}/\
     (∀b o,s.heap.get? b=some o->h'.get? b=some o)/\h'.get? s.heap.objs.size=some {cls:= .type "list",dict:=none,data:= .seq f y,slots:= #[] }/\ItemsOf (λi v=>vs[i]? =some v) f ks.length) {s with heap:=M,drawn:=d}:=by
  intro M c L a4 m
  refine codeAny_extend_loopS (W A.in1 hh).toS hn s.heap.objs.size K (.ref s.heap.objs.size) ks.length 0 _ #[] c rfl (bKt _) L m (ItemsOf.nil _) λk O y Q a2 P=>?_
  obtain⟨a1,g',d',a7,a5⟩:=k
  have eg:g'=s.gens:=Q.gens
  have ed:d'=d:=Q.drawn
  have eo:a5=s.os:=Q.os
  subst eg ed eo
  refine⟨a1,a7,O,y,rfl,rfl,λb o e=>?_,a2,P⟩
  have p:b<s.heap.objs.size:=bWT e
  refine Q.heap b o (λz=>?_) (a4 b o (bW9 p) (r b o (U b o e)))
  rcases bWU.mp z with z|z
  ·exact bW9 p z
  ·have z':b=I:=bW8.mp z;have B:H1.objs.size<=I:=hI;rw[g,<- z']at B;exact absurd (bW6 p (Nat.le_of_succ_le B)) (bKN _)
 have n:∀ (q:Result)(k:bWJ),(∃ (h':Heap)(tk:Nat)(f:Array bWG)(y:Nat),q= .ok (.ret (.ref s.heap.objs.size))/\k= {s with heap:=h',toks:=tk,drawn:=d}/\ (∀b o,s.heap.get? b=some o->h'.get? b=some o)/\h'.get? s.heap.objs.size=some {cls:= .type "list",dict:=none,data:= .seq f y,slots:= #[] }/\ItemsOf (λi v=>vs[i]? =some v) f ks.length)->
   ∃tk h',q= .ok (.ret (.ref s.heap.objs.size))/\k= {s with heap:=h',toks:=tk,drawn:=d}/\bWO (bWQ prog w) A (do
    let o <- load s.heap.objs.size
    match o.data with
    |.seq xs _=>pure xs.toList
    |_=>unsupported "internal:collect") R E {s with heap:=h',toks:=tk,drawn:=d}:=by
  rintro q k ⟨h',tk,f,y,rfl,rfl,hk,hg,H⟩
  refine⟨tk,h',rfl,rfl,bWH (wpAny_load hg (bWM ?_))⟩
  have a0:vs.length=ks.length:=by rw[<- bYz hv,hp.length_eq]
  have e:f.toList=vs:=aYI (by rw[bK0,H.1,a0]) λj x hx=>H.2 j x (by rw[<- bK5];exact hx)
  show R f.toList _
  rw[e]
  exact h h' tk d vs ls (bWT hg) hk hv hp
 have X:Shared.TypeIs {s with heap:=h2,drawn:=d} (.ref a) "set":=by obtain⟨o',a8,S⟩:=C;exact⟨o',r _ _ a8,S⟩
 refine bWH (bKJ (bXZ X ?_));refine cXw (λ_=>?_) (λ_=>?_)
 ·refine bWH (wpAny_rule ?_);refine bWH ?_;show bWO _ _ (updateSeq s.heap.objs.size (·.push .none) >>=λ_=>updateSeq s.heap.objs.size (·.pop)) _ _ _;refine bWH (wpAny_updateSeq u rfl ?_);have m:=bKG (bKu (·.push Value.none)) u rfl;refine wpAny_updateSeq (hz:=by seq_fits) m rfl ?_;have a3:=bKG (bKu (·.pop)) m rfl;refine bWM ⟨cQU cXZ _,bYx (D _ _ ?_ (λb o p e=>?_) a3) λq k z=>?_⟩
  ·refine(W A.in1 hh).frame 0 _ _ J λb p o e=>?_;have N:b≠s.heap.objs.size:=λz=>K (z ▸ p);exact(bKe _ _ (bKl N)).trans ((bKe _ _ (bKl N)).trans e)
  ·exact(bKe _ _ (bKl p)).trans ((bKe _ _ (bKl p)).trans e)
  ·obtain⟨tk,h',rfl,rfl,Y⟩:=n q k z;exact Y
 ·refine bWM ⟨cQU cXZ _,bYx (D _ _ J (λb o _ e=>e) u) λq k z=>?_⟩;obtain⟨tk,h',rfl,rfl,Y⟩:=n q k z;exact Y
theorem jL:∀ {ks:List Int} {vs:List bWG},aQ3 ks vs->cQa vs ks
 |_,_,.nil=> .nil
 |_,_,.cons ⟨t,e⟩ r=>by subst e;exact .cons _ t (jL r)
theorem aVM{a:Nat}{ks:List Int}{Q:bWG->bWJ->Prop}(C:A.handled=none)(v:Z8 w s.heap a ks)(u:ks.length<64) (h:∀ (l:Nat)(h':Heap)(tk:Nat)(d:Drawn)(out:List bWG)(ns:List Int)(n:Nat),s.heap.objs.size<=l->(∀b o,s.heap.get? b=some o->h'.get? b=some o)->h'.get? l=some {cls:= .type "list",data:= .seq out.toArray n}-> cQa out ns->ns.Perm ks->ns.Pairwise (·<=·)->Q (.ref l) {s with heap:=h',toks:=tk,drawn:=d}):bWO (bWQ prog w) A (call (.builtin "sorted") [.ref a]) Q E s:=by
 refine cQ1 kind_sorted plain_sorted entry_sorted (args_sorted1 _) ?_;unfold bYC.«sorted»;refine bWH (m:=checkCount "sorted" 1 1 _) (bWM ?_);refine bWH (aJQ (A:=A.in1) C v (by rw[bKg];omega) λj tk d k D p x r q=>?_);have B:=jL r;have i:k.length=ks.length:=by rw[<- bYz r,q.length_eq]
 refine bWH (cQW ?_ (by rw[i,bKg];omega));have c:(j.push {cls:= .type "list",data:= .seq k.toArray}).get? j.objs.size=some (bKr "list" k.toArray 0):=bW4 _ rfl;refine bWH (bKJ (bYy slot_list_sort ⟨_,c,rfl⟩ entry_list_sort (list_sort_tree c B (by omega) λout g t y z=>⟨_,rfl,?_⟩) (args_list_sort _)));obtain⟨n,e⟩:=sortedHeap_at (out:=out) c;refine bWM ⟨_,rfl,h j.objs.size _ tk d out.toList g n (bY6 p) (λb o e=>?_) (by simpa using e) t (y.trans q) z⟩;have f:=x b o e;rw[sortedHeap_old (bW9 (bWT f)) (by rw[bYh];exact bKT (bWT f))];exact bWL _ f
end
end Stb
namespace Stb
open PySem PyProof.Rows
def met(val:Nat->Int):Nat->List Int
 |0=> []
 |i+1=>if val i∈met val i then met val i else met val i++ [val i]
theorem aZi(val:Nat->Int):∀i,(met val i).length<=i
 |0=>bWN _
 |i+1=>by
  have a:=aZi val i;unfold met;split
  ·omega
  ·rw[bWW,bKY];omega
theorem aWH(val:Nat->Int)(d:Int):∀i,d∈met val i↔∃j,j<i/\val j=d
 |0=>by simp[met]
 |i+1=>by
  have c:=aWH val d i;have step:d∈met val (i+1)↔d∈met val i\/d=val i:=by
   show d∈(if val i∈met val i then met val i else met val i++ [val i])↔_;split
   ·rename_i a;constructor
    ·exact .inl
    ·rintro(z|rfl)
     ·exact z
     ·exact a
   ·simp
  rw[step,c];constructor
  ·rintro(⟨j,b,e⟩|rfl)
   ·exact⟨j,by omega,e⟩
   ·exact⟨i,by omega,rfl⟩
  ·rintro⟨j,b,e⟩;by_cases h:j=i
   ·subst h;exact .inr e.symm
   ·exact .inl ⟨j,by omega,e⟩
section
variable {prog:bW3}{w:bKa}{A:bKk}
theorem bXR{R:Result->bWJ->Prop}{I:Nat}{K C:List Nat}{n:Nat}{P:Nat->bWG->Prop}{St:Nat->Heap->Prop}(W:Walks prog w A.in1 I K C n P St)(S:Nat)(x:S∉K) (val:Nat->Int) (j:∀i v,P i v->∃t,v= .int (val i) t) (a:n+1<cXb): ∀ (k i:Nat)(s:bWJ),n - i=k->i<=n->St i s.heap->Z8 w s.heap S (met val i)-> (∀p tk,(∀b o,b∉S::C->s.heap.get? b=some o->p.get? b=some o)->Z8 w p S (met val n)->R (.ok (.ret .none)) {s with heap:=p,toks:=tk})-> bYV (bWQ prog w) A (.builtin "set.update.loop" ⟨[.ref S,.ref I],[]⟩) R s:=by
 have r:S∉C:=λh=>x (W.sub _ h);intro k;induction k with
 |zero=>
  intro i s N M c E hR;obtain rfl:i=n:=by omega
  refine bYT cQ7 ?_;rw[bYB bY8 _];refine bWH (m:=cQH (.ref I)) (W.done s _ _ c λp tk u=>?_);exact bWM (hR p tk (λb o a e=>u b o (λz=>a (bWR _ z)) e) (E.at λo e=>u S o r e))
 |succ k Q=>
  intro i s N M c E hR;have l:i<n:=by omega
  refine bYT cQ7 ?_;rw[bYB bY8 _];refine bWH (m:=cQH (.ref I)) (W.item i s _ _ l c λv H f O q g=>?_);obtain⟨t,rfl⟩:=j i v O;show bWO _ A.in1 (cQZ [Value.int (val i) t] (setAdd S (.int (val i) t)) >>=_) _ _ {s with heap:=H,toks:=f};refine bWH (bKJ ?_);unfold setAdd;refine bKJ ?_;refine bWH ((intKind prog w).pyHash (k:=val i) (intKind_is _ _ _ _) ?_);have d:(met val i).length+1<cXb:=by have:=aZi val i;omega
  refine bJj (s:={s with heap:=H,toks:=f+1}) (E.at λo e=>g S o r e) d λT b J y=>?_;refine bWM ⟨cQU bY8 _,Q (i+1) _ (by omega) l (W.frame _ H _ q λb a o e=>?_) y λL B G D=>?_⟩
  ·exact J.extBut b o (λz=>x (z ▸ a)) e
  ·refine hR L B (λb o a e=>G b o a (J.extBut b o (λz=>a (by rw[z];exact bWV)) (g b o (λz=>a (bWR _ z)) e))) D
variable {E:bWG->bWJ->Prop}{s:bWJ}
theorem bJA(a:bWG){Q₁:bWG->bWJ->Prop} (h:Q₁ (.ref s.heap.objs.size) {s with heap:=s.heap.push {cls:= .type "set",dict:=none,data:= .set #[] 0 (.fresh 0 0 (!aX5 w)) } }): bYV (bWQ prog w) A (.call (.builtin "set.__new__") ⟨[.type "set",a],[]⟩) (wants Q₁ E) s:=by
 refine codeAny_of_tree ?_;show bWO _ A.in1 (do checkBuiltinCall "set.__new__" ⟨[.type "set",a],[]⟩;again (.builtin "set.__new__" ⟨[.type "set",a],[]⟩)) _ _ s;refine bWH (wpAny_of_eq (PySem.F.newCall_set_1 a) (bWM ⟨cQU PySem.F.plain_set_new _,bYT PySem.F.entry_set_new ?_⟩));rw[bYB PySem.F.plain_set_new _];unfold bYC.«set.__new__» Builtin.Frozenset.newClass;have b:=sub_set_self;obtain⟨e,g,d,tk,c⟩:=s;dsimp only;wp_walk;refine cQp (bWM ?_);dsimp only;simp only[newObj];refine bWH (wpAny_alloc (bWM ?_));exact bWM h
set_option maxHeartbeats 3200000 in
theorem aQT{l:Nat}{items:Array bWG}{ns:List Int}{Q:bWG->bWJ->Prop}(hh:A.handled=none)(hl:s.heap.IsList l items)(hi:cQa items.toList ns)(q:items.size+1<cXb) (h:∀ (h':Heap)(tk:Nat),Z8 w h' s.heap.objs.size (met (λi=>ns.getD i 0) items.size)->(∀b o,s.heap.get? b=some o->h'.get? b=some o)->Q (.ref s.heap.objs.size) {s with heap:=h',toks:=tk}): bWO (bWQ prog w) A (call (.type "set") [.ref l]) Q E s:=by
 obtain⟨c,tl,a2⟩:=bYw.mro;have T:=bYw.made;have Z:=bYw.sub;refine cQQ (codeAny_of_tree ?_);show bWO _ _ (callAny (.type "set") _) _ _ _;refine bWM ⟨cXF _ dk,bYT PySem.F.entry_type_call ?_⟩;rw[Around.under_plain (weight_type_call_type "set" [.ref l] []) rfl];have h1:=bYw.notType;have h2:=bYw.canCreate;have a6:=PySem.F.typeCall_set_1 (.ref l);repeat (any_goals (first|assumption|wp_step))
 refine bYx (bJA (.ref l) (E:=E) (Q₁:=λM g=>M= .ref s.heap.objs.size/\g= {s with heap:=s.heap.push {cls:= .type "set",dict:=none,data:= .set #[] 0 (.fresh 0 0 (!aX5 w)) } }) ⟨rfl,rfl⟩) λr g U=>?_;cases r with
 |error e=>exact U
 |ok fl=>
  cases fl with
  |ret M=>
   obtain⟨rfl,rfl⟩:=U;generalize y:({cls:= .type "set",dict:=none,data:= .set #[] 0 (.fresh 0 0 (!aX5 w)) }:Obj)=O;have P:(s.heap.push O).get? s.heap.objs.size=some O:=bW4 _ (by rw[<- y];rfl);have hT:Shared.TypeIs {s with heap:=s.heap.push O} (.ref s.heap.objs.size) "set":=⟨_,P,by rw[<- y]⟩;have C:Z8 w (s.heap.push O) s.heap.objs.size []:=by
    refine⟨O, #[],0,.fresh 0 0 (!aX5 w),[],P,?_,?_,.nil,.rfl,List.nodup_nil,by decide,rfl,aK2 ?_⟩
    ·rw[<- y];exact⟨rfl,rfl,rfl⟩
    ·rw[<- y]
    ·cases aX5 w<;> simp
   have d:(s.heap.push O).objs.size=s.heap.objs.size+1:=bYh ..;have p:∀b o,s.heap.get? b=some o->(s.heap.push O).get? b=some o:=λb o e=>bWL _ e;generalize hH:s.heap.push O=H at P hT C d p ⊢;have a5:=bYw.init.lookup;have a7:=bYw.init.bind (.ref s.heap.objs.size);repeat (any_goals (first|assumption|wp_step))
   refine bYx (cXs (R:=wants (λr j=>r= .none/\∃h' tk,j= {s with heap:=h',toks:=tk}/\Z8 w h' s.heap.objs.size (met (λi=>ns.getD i 0) items.size)/\
     (∀b o,s.heap.get? b=some o->h'.get? b=some o)) E) bYw.init.plain PySem.F.entry_set_init (check_set_init_1 hT ?_)) λI j a=>?_
   ·obtain⟨ol,K,L,nl,x⟩:=hl;obtain⟨a3,n,X,f⟩:=ol;simp only at L x;subst L;subst x;have G:H.get? l=some {cls:= .type "list",dict:=n,data:= .seq items nl,slots:=f}:=p _ _ K;have a1:=PySem.F.sub_list_set;have a0:=PySem.F.sub_list_frozenset;have a4:(Value.type "list"==Value.type "dict")=false:=by decide
    have N:H.IsList l items:=⟨_,G,rfl,nl,rfl⟩;subst y;unfold bYC.«set.__init__» noKeywords Builtin.Frozenset.updateFrom;generalize W:pyIter=PI;wp_walk;subst W;refine cXh (l:=l) (items:=items) ?hl ?_;case hl=>exact N
    refine bWH (wpAny_runValue ?_);have u:l<s.heap.objs.size:=bWT K;have S:A.in1.in1.in1.handled=none:=by simp[hh]
    have B:l≠H.objs.size:=by rw[d];exact bW9 (bKT u)
    have Y:s.heap.objs.size∉ [H.objs.size,l]:=by rw[d];simp only[bWU,cQl,or_false,not_or];exact⟨bW9 (bKP _),bY7 u⟩
    have D:∀ (i:Nat)(v:bWG),items[i]? =some v->∃t,v= .int ((λi=>ns.getD i 0) i) t:=λi v hv=>
     cXI hi i v (by rw[bK5];exact hv)
    refine bXR (Walks.list S _ l B items) s.heap.objs.size Y (λi=>ns.getD i 0) D q (items.size - 0) 0 _ (by omega) (bKt _) ⟨⟨_,bW4 _ rfl,rfl,rfl⟩,N.push _⟩ ?hS0 ?hR;case hS0=>exact C.at λo e=>bWL _ e
    case hR=>
     intro h' tk hk m;show bWO _ _ _ _ _ _;refine bWM ?_;show bWO _ _ (ret Value.none) _ _ _;refine bWM ⟨rfl,h',tk,rfl,m,λb o e=>?_⟩;have q:=bWT e;refine hk b o (λz=>?_) (bWL _ (p _ _ e));simp only[bWU,cQl,or_false]at z;rcases z with z|z
     ·exact bW9 q z
     ·rw[z]at q;have J:H.objs.size<s.heap.objs.size:=q;rw[d]at J;exact absurd J (Nat.not_lt.mpr (bYN _))
   ·cases I with
    |error e=>exact a
    |ok k=>
     cases k with
     |ret r=>
      obtain⟨rfl,h',tk,rfl,m,V⟩:=a;repeat (any_goals (first|assumption|wp_step))
      exact h _ _ m V
     |_=>exact a.elim
  |_=>exact U.elim
end
end Stb
namespace L2
open PySem PySem.Spec PyProof.Rows
section
variable {X:Cx}{tg:Expr}
end
section
variable {X:Cx}
inductive aV0(K:bWI)(xs:List V)(H:Hp)(Q:VK):Prop|mk (x c t b) (_:xs= [x,.ty c]) (_:aJK K H x t) (_:PySem.W.kitOne K t (.type c)=some b) (_:Q (.bl b) H)
theorem aZV:uY X (.builtin "isinstance") (aV0 X.K):=by
 intro a s σ H g i Q I r h;obtain⟨x,c,t,b,rfl,ty,e,q⟩:=h;obtain⟨u,v,rfl,f,d⟩:=xK.two r;cases d;exact aWs I f ty e λtk=>⟨.bl b,H,I.tok tk,rfl,q⟩
def bJ8(w:bKa)(a:Nat)(ks:List Int):HO:= .ext λh=>Stb.Z8 w h a ks
theorem aYf(F:X.calm=true):uY X (.type "set") (λn H Q=>∃ (p:Nat)(ns:List Int),n= [.ref p]/\SqL X.K H p (ns.map V.int)/\ns.length<4000/\∀ (l:Nat)(ks:List Int),H l=none->ks.Nodup->ks.length<=ns.length->(∀d,d∈ks↔d∈ns)->Q (.ref l) (upd H l (bJ8 X.w l ks))):=by
 intro g s σ H n R Q I r h;obtain⟨p,ns,rfl,y,G,q⟩:=h;obtain⟨u,rfl,E⟩:=jU r;cases E;obtain⟨a,A,D,J⟩:=I.list y;have m:cQa a ns:=zZ A;have v:a.length=ns.length:=m.length;refine Stb.aQT (I.ok.hd F) D.isList (by simpa using m) (by rw[bWZ];unfold cXb;omega) λN tk b C=>?_;rw[bWZ]at b;have f:(Stb.met (λi=>ns.getD i 0) a.length).Nodup:=by obtain⟨o,S,M,t,P,_,_,_,_,_,f,_⟩:=b;exact f
 have hl:=Stb.aZi (λi=>ns.getD i 0) a.length;refine⟨.ref s.heap.objs.size,_,I.laid (t':=tk) (o:=bJ8 X.w s.heap.objs.size (Stb.met (λi=>ns.getD i 0) a.length)) C (bWN _) ⟨b,b.there,λO L z k=>z.at k⟩,rfl,q _ _ I.fresh f (by omega) λd=>?_⟩;rw[Stb.aWH];constructor
 ·rintro⟨j,x,rfl⟩;have c:j<ns.length:=by omega
  simp[bKC,bWF c]
 ·intro B;obtain⟨j,x,e⟩:=bKM B;exact⟨j,by omega,by simp[bKC,bWF x,e]⟩
theorem W4(A:X.calm=true):uY X (.builtin "sorted") (λi H Q=>∃ (p:Nat)(ks:List Int),i= [.ref p]/\H p=some (bJ8 X.w p ks)/\ks.length<64/\∀ (l:Nat)(ns:List Int),H l=none->ns.Perm ks->ns.Pairwise (·<=·)->Q (.ref l) (upd H l (.lst (ns.map V.int)))):=by
 intro b s σ H i B Q I r h;obtain⟨p,ks,rfl,k,f,q⟩:=h;obtain⟨u,rfl,z⟩:=jU r;cases z;obtain⟨t,_,_⟩:=(show x5 X.prog X.w H s.heap p (bJ8 X.w p ks)from I.hok p _ k);refine Stb.aVM (I.ok.hd A) t f λl j tk d out ns n hl y v m c g=>?_;have x:H l=none:=I.hok.fresh hl;have e:ns.length<=bKb:=by rw[c.length_eq,bKg];omega
 have a:Inv X b σ (upd H l (.lst (ns.map V.int))) {s with heap:=j,toks:=tk}:=I.laid y hl ⟨by rw[bWK];exact e,out,n,wO m,v⟩;have o:Inv X b σ (upd H l (.lst (ns.map V.int))) {s with heap:=j,toks:=tk,drawn:=d}:=by refine⟨a.ok,a.os,a.bare,a.base,a.loc,a.cell,a.free,a.freeC,a.pin,a.hok,a.len⟩
 exact⟨.ref l,_,o,rfl,q l ns x c g⟩
theorem aKm(n d:Nat)(a:Nat):HT.sIx n d (some (a:Int))=min a n:=by
 unfold HT.sIx;simp only;split<;> omega
end
end L2
namespace L2
open PySem PySem.Spec PyProof.Rows
theorem jM(K:bWI):PySem.W.kitOne K (.type "list") (.type "list")=some true:=by kernel_rfl
section
variable {X:Cx}{pins:List (Nat×Obj)}{σ:St}{H:Hp}{s:bWJ}
end
section
variable {X:Cx}
inductive bJZ(K:bWI)(x:V)(y:V)(H:Hp)(Q:VK):Prop|mk (a b xs) (_:x= .ref a) (_:y= .ref b) (_:SqL K H a xs) (_:SqL K H b []) (_:Q (.bl xs.isEmpty) H)
theorem aY8(d:X.A.units<cLine):OpR X (bYd .Eq) (bJZ X.K):=by
 intro pins s σ H x y v u Q I l n h;obtain⟨a,b,t,rfl,rfl,k,g,q⟩:=h;cases l;cases n;obtain⟨w,o,f,_⟩:=I.list k;obtain⟨r,i,c,_⟩:=I.list g;cases i;cases o with
 |nil=>exact SeqAt.eq_listAt (e:=λ_=>true) f.isList c.isList rfl d (λj m p=>absurd m (bKK _)) ⟨.bl true,H,I,rfl,q⟩
 |cons _ _=>exact SeqAt.eq_list_lengthsAt f.isList c.isList (by simp) d ⟨.bl false,H,I,rfl,q⟩
structure FnG(P:bW3)(w:bKa)(K:bWI)(mg:Str->Option bWG)(base:Heap)(k:Nat)(x:Str)(ps:List Str)(sp:Sp):Prop where
 ex:∃f fd,y0 P w K mg base CX0 k f fd ps sp/\wP K fd ps []/\bKy K (.ref f)=true/\mg x=some (.ref f)
theorem FnG.mono{P:bW3}{w:bKa}{K:bWI}{mg:Str->Option bWG}{base:Heap}{j k:Nat}{x:Str}{c:List Str}{sp:Sp}(G:FnG P w K mg base j x c sp)(h:j<=k):FnG P w K mg base k x c sp:=
 let ⟨f,fd,a,b⟩:=G.ex;⟨f,fd,a.mono h,b⟩
theorem zE{k:Nat}{x:Str}{g:List Str}{sp:Sp}{e:Expr}{es:List Expr}{t:TA}{p pos:Pos}(G:FnG X.prog X.w X.K X.mg X.base k x g sp)(i:wR k X.A)(h:Gl X x)(d:PA X (e::es) t)
  (a:(x==("__debug__":Str))=false:=by decide) (j:bKi (e::es) X.env=(false,eval e X.env)::bKi es X.env:=by rfl) (c:(bYD pos (bKi es X.env)).any (·.1)=false:=by rfl):
  PE X (.Call (.Name x p) (e::es) [] pos) (bQF sp [] E0 t):=by
 obtain⟨f,n,F,b,l,m⟩:=G.ex
 exact aW4 F i h m l b .nil vB d a j c
end
inductive Dt where
 |non|bl (b:Bool)|int (n:Int)|str (x:Str)|lst (ds:List Dt)|tup (ds:List Dt)
mutual
def Is(H:Hp):V->Dt->Prop
 |v,.non=>v= .non
 |v,.bl b=>v= .bl b
 |v,.int n=>v= .int n
 |v,.str x=>v= .str x
 |v,.lst ds=>∃a c,v= .ref a/\H a=some (.lst c)/\bXC H c ds
 |v,.tup ds=>∃a c,v= .ref a/\H a=some (.tup c)/\bXC H c ds
def bXC(H:Hp):List V->List Dt->Prop
 |[],[]=>True
 |x::xs,d::ds=>Is H x d/\bXC H xs ds
 |_,_=>False
end
theorem w1{t u:TS}{D:aJH}{σ:L2.St}{H:Hp}(R:L2.St->Hp->Prop)(d:∀a b,R a b->u D a b)(c:(∀a b,R a b->u D a b)->t {D with nx:=u D} σ H):bWi t u D σ H:=c d
theorem onT{c:Bool}{A B:Prop}(e:c=true)(h:A):if c=true then A else B:=by rw[e];exact h
theorem onF{c:Bool}{A B:Prop}(e:c=false)(h:B):if c=true then A else B:=by rw[e];exact h
theorem z0:([]:List V).length<=bKb:=by decide
theorem z1{a:V}: [a].length<=bKb:=by show 1<=bKb;decide
theorem z2{a b:V}: [a,b].length<=bKb:=by show 2<=bKb;decide
theorem z3{a b c:V}: [a,b,c].length<=bKb:=by show 3<=bKb;decide
theorem z4{a b c d:V}: [a,b,c,d].length<=bKb:=by show 4<=bKb;decide
theorem z5{a b c d e:V}: [a,b,c,d,e].length<=bKb:=by show 5<=bKb;decide
theorem zn{l:List V}(h:l.length<=100000):l.length<=bKb:=by rw[bKg];omega
theorem zlt{l:List V}(h:l.length<=100000):l.length<bKb:=by rw[bKg];omega
theorem xV.fresh{H a:Hp}(k:xV H a){p:Nat}(h:a p=none):H p=none:=by
 cases e:H p with
 |none=>rfl
 |some o=>rw[k _ _ e]at h;cases h
theorem yI{H:Hp}{p:Nat}(h:H p=none)(o:HO):xV H (upd H p o):=λb u q=>by rw[yH (yE q h)];exact q
end L2
namespace L2
open PySem
def tbV:Option Nat->bWG
 |none=> .none
 |some T=> .ref T
structure uZ(h:Heap)(e:Nat)(cls:bWG)(dx:Option Nat)(tb:Option Nat):Prop where
 obj:∃oe vs,h.get? e=some oe/\oe.cls=cls/\oe.dict=dx/\oe.data= .fields vs/\vs[1]? =some (tbV tb)
 ent:∀T,tb=some T->T≠e/\∃oT ts,h.get? T=some oT/\oT.data= .fields ts/\ts[3]? =some .none
theorem uZ.keeps{h h':Heap}{e:Nat}{cls:bWG}{dx tb:Option Nat}(x:uZ h e cls dx tb)(k:∀b o,(b=e\/tb=some b)->h.get? b=some o->h'.get? b=some o):uZ h' e cls dx tb:=by
 obtain⟨c,j,i,g,f,l,q⟩:=x.obj;refine⟨⟨c,j,k e c (.inl rfl) i,g,f,l,q⟩,λT d=>?_⟩;obtain⟨ne,a,m,p,r,n⟩:=x.ent T d;exact⟨ne,a,m,k T a (.inr d) p,r,n⟩
structure bVz(fs:List Nat)(e:Nat)(tb:Option Nat)(h h':Heap):Prop where
 keep:∀b o,b≠e->tb≠some b->b∉fs->h.get? b=some o->h'.get? b=some o
 slot:∀b o,b≠e->tb≠some b->h.get? b=some o->∃sl,h'.get? b=some {o with slots:=sl}
 there:∀b o,h.get? b=some o->∃o',h'.get? b=some o'
theorem W5(f:Array bWG->Array bWG)(o:Obj):(o.mapFields f).dict=o.dict:=by
 obtain⟨c,d,dt,a⟩:=o;cases dt<;> rfl
section
variable {M:Model}{A:bKk}{E:bWG->bWJ->Prop}{s:bWJ}{base:Heap}{env:Env}{outer:List Env}{L e:Nat}{cls:bWG}{dx tb:Option Nat}
theorem aWM{a:Obj}{vs:Array bWG}(hl:s.heap.FunFrames base (env::outer))(f:s.heap.get? e=some a)(g:a.data= .fields vs):e∉(env::outer).filterMap (·.frame):=λd=>by
 obtain⟨_,o,b,c⟩:=hl.mem d;rw[f]at b;cases b;exact c vs g
theorem aXh{head:bWG}{p:Bool}{Q:Unit->bWJ->Prop}{i:Obj}{vs:Array bWG}(u:A.frames=some (env::outer))(hl:s.heap.FunFrames base (env::outer))(H:env.frame=some L)
  (D:s.heap.get? e=some i) (t:i.data= .fields vs) (hz:1<vs.size)
  (h:∀r T,uZ r e i.cls i.dict (some T)->s.heap.objs.size<=T->bVz ((env::outer).filterMap (·.frame)) e none s.heap r->Q () {s with heap:=r}):
  bWO M A (do let fr <- frameOf env;let place <- entryPlaceOf L p;let en <- EntryCells.newEntry head fr .none (bKZ L) .none place;setField (.ref e) 1 en) (λ_ I=>bWO M A (cQM (.ref e) none) Q E I) E s:=by
 have n:=aWM hl D t
 refine bWH (wpAny_frameOf_fun u hl H λa d=>?_)
 refine bWH (wpAny_entryPlaceOf λplace G=>?_)
 unfold EntryCells.newEntry newFields
 refine bWH (bYG ?_ (G.sizeOk5 _ _ _ _ _))
 have z:a.get? e=some i:=(d.2.1 e n).trans D
 generalize v:({cls:= .type "traceback",dict:=none,data:= .fields ([head,.ref L,.none,bKZ L,.none]++(if place.isEmpty then cXd 6 Value.none else place)).toArray}:Obj)=ob
 have c:ob.data= .fields ([head,.ref L,.none,bKZ L,.none]++(if place.isEmpty then cXd 6 Value.none else place)).toArray:=by rw[<- v]
 have j:ob.isFreed=false:=bK6 c
 have F:(a.push ob).get? e=some i:=bWL ob z
 have l:a.objs.size≠e:=bY7 (bWT z)
 refine bYL F t hz ?_
 have d3:=bK8 t (·.setIfInBounds 1 (Value.ref a.objs.size))
 have m:=bKG (bKU (·.setIfInBounds 1 (Value.ref a.objs.size))) F (bK6 d3)
 have B:=(bKe (a.push ob) (bKU (·.setIfInBounds 1 (Value.ref a.objs.size))) (bKl l)).trans (bW4 a j)
 have k:3<([head,.ref L,.none,bKZ L,.none]++(if place.isEmpty then cXd 6 Value.none else place)).toArray.size:=by simp
 unfold cQM
 refine bWH (wpAny_field m d3 (x:= .ref a.objs.size) (by simp[hz]) ?_)
 rw[if_pos (show(Value.ref a.objs.size !=Value.none)=true from by simp)]
 refine bYL B c k (h _ a.objs.size ?_ ?_ ?_)
 ·refine⟨⟨_,_,(bKe _ _ l).trans m,Obj.cls_mapFields _ _,W5 _ _,d3,by simp[tbV,hz]⟩,λT K=>?_⟩;cases K;refine⟨l,_,_,bKG _ B (bK6 (bK8 c _)),bK8 c _,?_⟩;rw[Array.getElem?_setIfInBounds_self_of_lt k];rfl
 ·exact bY5 d.1.symm
 ·have y:∀b o,b≠e->a.get? b=some o->(((a.push ob).update e (bKU (·.setIfInBounds 1 (Value.ref a.objs.size)))).update a.objs.size (bKU (·.setIfInBounds 3 ((none:Option Nat).elim Value.none λf=>bKZ f)))).get? b=some o:=λb o g q=>by
   rw[bKe _ _ (bY7 (bWT q)),bKe _ _ (bKl g)];exact bWL _ q
  refine⟨λb o g _ J q=>y b o g ((d.2.1 b J).trans q),λb o g _ q=>?_,λb o q=>?_⟩
  ·obtain⟨C,w⟩:=d.2.2 b o q;exact⟨C,y b _ g w⟩
  ·by_cases g:b=e
   ·subst g;exact⟨_,(bKe _ _ l).trans m⟩
   ·obtain⟨C,w⟩:=d.2.2 b o q;exact⟨_,y b _ g w⟩
theorem aJf{Q:Unit->bWJ->Prop}(i:A.frames=some (env::outer))(hl:s.heap.FunFrames base (env::outer))(n:env.frame=some L)(x:uZ s.heap e cls dx tb) (h:∀g T,uZ g e cls dx (some T)->s.heap.objs.size<=T->bVz ((env::outer).filterMap (·.frame)) e tb s.heap g->Q () {s with heap:=g}): bWO M A (cXa (.ref e) env) (λ_ I=>bWO M A (cQM (.ref e) none) Q E I) E s:=by
 obtain⟨N,w,r,G,F,t,C⟩:=x.obj;subst G F;have v:=(cQe.mp C).1;unfold cXa;simp only[n];refine bWH (wpAny_field r t C ?_);cases tb with
 |none=>rw[if_neg (by decide)];exact aXh i hl n r t v h
 |some T=>
  obtain⟨ne,K,J,k,l,B⟩:=x.ent T rfl;rw[if_pos (show(tbV (some T) !=Value.none)=true from by simp[tbV])];refine bWH (wpAny_field k l B ?_);rw[if_neg (show ¬ ((Value.none==bKZ L)=true)from by simp[bKZ])];refine bWH (bYL k l (cQe.mp B).1 ?_);have f:∀b,b≠T->(s.heap.update T (bKU (·.setIfInBounds 3 Value.none))).get? b=s.heap.get? b:=λb j=>bKe _ _ (bKl j);have u:∀b o,s.heap.get? b=some o->(∀w,o.data≠ .fields w)->b≠T:=λb o q m z=>by rw[z,k]at q;cases q;exact m J l
  refine aXh (s:={s with heap:=s.heap.update T (bKU (·.setIfInBounds 3 Value.none)) }) i (hl.of_keeps λb o q m=>⟨o,(f b (u b o q m)).trans q,rfl⟩) n ((f e (bKl ne)).trans r) t v λg D y H p=>h g D y ?_ ⟨λb o a c d q=>?_,λb o a c q=>?_,λb o q=>?_⟩
  ·rw[<- Heap.size_after_update s.heap T (bKU (·.setIfInBounds 3 Value.none))];exact H
  ·exact p.keep b o a (by simp) d ((f b λz=>c (by rw[z])).trans q)
  ·exact p.slot b o a (by simp) ((f b λz=>c (by rw[z])).trans q)
  ·by_cases j:b=T
   ·subst j;exact p.there _ _ (bKG _ k (bK6 (bK8 l _)))
   ·exact p.there b o ((f b j).trans q)
theorem aWD{Q:Unit->bWJ->Prop}(a:A.frames=some (env::outer))(hl:s.heap.FunFrames base (env::outer))(c:env.frame=some L)(x:uZ s.heap e cls dx tb) (h:∀b T,uZ b e cls dx (some T)->s.heap.objs.size<=T->bVz ((env::outer).filterMap (·.frame)) e tb s.heap b->Q () {s with heap:=b}):bWO M A (leaving env (.ref e)) Q E s:=by
 unfold leaving;exact bWH (aJf a hl c x h)
theorem aYF{T:Nat}{Q:Unit->bWJ->Prop}(x:uZ s.heap e cls dx (some T)) (h:∀d,uZ d e cls dx (some T)->(∀b o,b≠T->s.heap.get? b=some o->d.get? b=some o)->(∀b o,s.heap.get? b=some o->∃r,d.get? b=some r)->Q () {s with heap:=d}):bWO M A (cQM (.ref e) none) Q E s:=by
 obtain⟨t,u,i,p,n,j,m⟩:=x.obj;obtain⟨ne,z,B,l,f,v⟩:=x.ent T rfl;have g:=(cQe.mp v).1;have k:=bKG (bKU (·.setIfInBounds 3 Value.none)) l (bK6 (bK8 f _));have a:∀b,b≠T->(s.heap.update T (bKU (·.setIfInBounds 3 Value.none))).get? b=s.heap.get? b:=λb c=>bKe _ _ (bKl c);refine wpAny_setFlight_none i j m l f g (h _ ⟨⟨t,u,(a e (bKl ne)).trans i,p,n,j,m⟩,λy w=>?_⟩ (λb o c q=>(a b c).trans q) λb o q=>?_)
 ·cases w;exact⟨ne,_,_,k,bK8 f _,by simp[g]⟩
 ·by_cases c:b=T
  ·subst c;exact⟨_,k⟩
  ·exact⟨o,(a b c).trans q⟩
end
end L2
namespace L2
open PySem PySem.W PySem.Calls PyProof.Rows Builtin Builtin.ObjectAttr
def vX:List bWG:= [.type "Exception",.type "BaseException",.type "object"]
def aZc:List bWG->Bool
 |.ref _::r=>aZc r
 |l=>l==vX
theorem aVO:∀l:List bWG,aZc l=true->∃a:List Nat,l=a.map Value.ref++vX:=by
 intro l;induction l with
 |nil=>intro e;cases e
 |cons v r b=>
  intro e;cases v with
  |ref c=>obtain⟨a,h⟩:=b e;exact⟨c::a,by rw[h];rfl⟩
  |_=>exact⟨[],beq_iff_eq.mp e⟩
theorem Z3(self:bWG):∀rs:List Nat,refuseLoop self "__setattr__" (rs.map Value.ref++vX)=pure ()
 |[]=>PySem.F.store_Exception.passes self
 |c::rs=>by rw[bKv,List.cons_append,refuseLoop_ref];exact Z3 self rs
theorem aJC{T:String}{b:Bool}(h:vX.contains (.type T)=b):∀rs:List Nat,(rs.map Value.ref++vX).contains (.type T)=b
 |[]=>h
 |c::rs=>by rw[bKv,List.cons_append,bYJ,aJC h rs];rfl
def aYu(K:Frag)(C:Nat):Bool:=match K.lookup C with
 |some ⟨_,_,.cls cd,sl⟩=> !cd.hasDel && cd.hasDict && (sl.toList[4]?).join==some (.builtin "Exception.__new__") && aZc cd.mro && cd.mro.contains (.ref C) &&
   specialIn K (.ref C) "__call__"==some (some (.builtin "type.__call__")) && instIn K (.ref C) (.type "type")==some true && typeIn K (.ref C)==some (.type "type") &&
   findIn K (.ref C) "__setattr__"==some (some (.builtin "object.__setattr__")) && findIn K (.ref C) "__getattribute__"==some (some (.builtin "BaseException.__getattribute__")) &&
   findIn K (.ref C) "__getattr__"==some none && findIn K (.ref C) "words"==some none
 |_=>false
structure wQ(K:Frag)(C:Nat):Prop where
 cls:∃oc od cd sl,K.lookup C=some ⟨oc,od,.cls cd,sl⟩/\cd.hasDel=false/\cd.hasDict=true/\(sl.toList[4]?).join=some (.builtin "Exception.__new__")/\(∃rs:List Nat,cd.mro=rs.map Value.ref++vX)/\cd.mro.contains (.ref C)=true
 call:specialIn K (.ref C) "__call__"=some (some (.builtin "type.__call__"))
 typ:instIn K (.ref C) (.type "type")=some true
 ty:typeIn K (.ref C)=some (.type "type")
 sa:findIn K (.ref C) "__setattr__"=some (some (.builtin "object.__setattr__"))
 ga:findIn K (.ref C) "__getattribute__"=some (some (.builtin "BaseException.__getattribute__"))
 gh:findIn K (.ref C) "__getattr__"=some none
 wd:findIn K (.ref C) "words"=some none
theorem aWi{K:Frag}{C:Nat}(e:aYu K C=true):wQ K C:=by
 unfold aYu at e;split at e
 ·rename_i l d i q p;simp only[Bool.and_eq_true,Bool.not_eq_true',beq_iff_eq]at e;obtain⟨⟨⟨⟨⟨⟨⟨⟨⟨⟨⟨f,r⟩,g⟩,o⟩,m⟩,n⟩,k⟩,j⟩,h⟩,c⟩,b⟩,a⟩:=e;exact⟨⟨l,d,i,q,p,f,r,g,aVO _ o,m⟩,n,k,j,h,c,b,a⟩
 ·cases e
abbrev zS(C t:Nat)(dx:Option Nat):Obj:={cls:= .ref C,dict:=dx,data:= .fields #[.ref t,.none,.none,.none,.bool false,.none] }
abbrev jO:Obj:={cls:= .type "tuple",data:= .seq #[] }
section
variable {M:Model}{K:Frag}{C:Nat}{h:Heap}
theorem wQ.sub(X:K.In h)(c:wQ K C){T:String}{b:Bool}(d:vX.contains (.type T)=b):Looks M h (cQK (.ref C) (.type T)) b:=by
 obtain⟨j,k,a,i,g,n,m,o,⟨p,e⟩,l⟩:=c.cls;have f:clsIn K C=some a:=by unfold clsIn;rw[g]
 refine looks_mroIn X ?_;unfold mroIn;rw[f,Option.bind_some,e,if_neg (by simp[vX]),aJC d]
theorem wQ.self(X:K.In h)(c:wQ K C):Looks M h (cQK (.ref C) (.ref C)) true:=by
 obtain⟨i,j,a,g,f,l,k,m,⟨n,d⟩,b⟩:=c.cls;have e:clsIn K C=some a:=by unfold clsIn;rw[f]
 refine looks_mroIn X ?_;unfold mroIn;rw[e,Option.bind_some,if_neg (by rw[d];simp[vX]),b]
theorem wQ.made(X:K.In h)(c:wQ K C):Looks M h (Bind.madeBy (.ref C)) (some "Exception.__new__"):=by
 obtain⟨m,i,a,p,d,j,r,e,⟨n,o⟩,b⟩:=c.cls;have g:clsIn K C=some a:=by unfold clsIn;rw[d]
 have f:Looks M h (mroOf (.ref C)) a.mro:=(looks_clsIn X g).andThen .now;obtain⟨v,l,hl⟩:∃v l,a.mro=v::l:=by
  cases q:a.mro with
  |nil=>rw[q]at b;cases b
  |cons v l=>exact⟨v,l,rfl⟩
 intro A Q E s k q;unfold Bind.madeBy;refine bWH (f A _ E s k ?_);rw[hl,cXr];refine bWH (bWH (bWH (bWH (wpAny_loadPart (k _ _ (X _ _ d)) (bWM ?_)))));dsimp only;rw[<- bK5,e];exact bWM (bWM (bWM q))
theorem wQ.base(X:K.In h)(c:wQ K C):Looks M h (Bind.staticBase (.ref C)) (.ref C):=by
 have made:=c.made (M:=M) X;obtain⟨m,g,a,p,e,i,r,j,⟨n,o⟩,b⟩:=c.cls;have f:clsIn K C=some a:=by unfold clsIn;rw[e]
 have d:Looks M h (mroOf (.ref C)) a.mro:=(looks_clsIn X f).andThen .now;obtain⟨v,l,hl⟩:∃v l,a.mro=v::l:=by
  cases q:a.mro with
  |nil=>rw[q]at b;cases b
  |cons v l=>exact⟨v,l,rfl⟩
 intro A Q E s k q;unfold Bind.staticBase;refine bWH (d A _ E s k ?_);rw[hl,cXr];exact bWH (bWH (bWH (made A _ E s k (bWM (bWM (bWM q))))))
theorem wQ.here(X:K.In h)(c:wQ K C):Looks M h (Bind.madeHere "BaseException.__new__" (.ref C)) ():=
 (c.base X).andThen ((c.made X).andThen (Looks.of_pure (by simp only[Option.map_some,cXY.canon,bne_self_eq_false,Bool.false_eq_true,if_false])))
end
section
variable {prog:bW3}{w:bKa}{A:bKk}{R:Result->bWJ->Prop}{K:Frag}{C f:Nat}{h:Heap}{g:Array GenState}{d:Drawn}{t:Nat}{os:OsState}
theorem bXP(X:K.In h)(c:wQ K C)(j:R (.ok (.ret (.ref (h.objs.size+1)))) ⟨(h.push jO).push (zS C h.objs.size none),g,d,t,os⟩): bYV (bWQ prog w) A (.call (.builtin "Exception.__new__") ⟨[.ref C],[]⟩) R ⟨h,g,d,t,os⟩:=by
 have F:=cXY;have made:=c.made (M:=bWQ prog w) X;have k:=c.base (M:=bWQ prog w) X;have here:=c.here (M:=bWQ prog w) X;have s:Looks (bWQ prog w) h (cQK (.ref C) (.type "Exception")) true:=c.sub X dk;have r:Looks (bWQ prog w) h (cQK (.ref C) (.type "AttributeError")) false:=c.sub X dk;have y:Looks (bWQ prog w) h (cQK (.ref C) (.type "NameError")) false:=c.sub X dk;obtain⟨l,e,i,n,m,f,z,q,⟨v,x⟩,u⟩:=c.cls;have o:h.get? C=some ⟨l,e,.cls i,n⟩:=X _ _ m;refine codeAny_call_builtin_code (cXF _ F.quiet) ?_;simp only[checkBuiltinCall,F.newKind,F.newSplit,F.newRow];have args:Bind.checkArgs "Exception.__new__" ⟨.any,"Exception","Exception",.cls,[⟨"args",.varPos,false⟩,⟨"kwargs",.varKw,false⟩]⟩ ⟨[.ref C],[]⟩=pure ():=by kernel_rfl
 rw[args];repeat (first|simp only[bne_self_eq_false,Bool.false_eq_true,if_false]|lk)
 have b:=F.ends;refine codeAny_builtinAt F.entry ?_;unfold bYC.«BaseException.__new__»;refine PySem.wpAt_bind ?_;show PySem.wpAt _ _ _ (stack >>=_) _ _ _;refine PySem.wpAt_bind (PySem.wpAt_stack λp a=>PySem.wpAt_of_wpAny ?_);wp_walk;refine PySem.wpAt_of_wpAny ?_;rw[F.owner];repeat (first|simp only[Bool.not_true,Bool.false_eq_true,if_false]|lk)
 refine nd_load (bWL _ (bWL _ o)) (bWM ?_);dsimp only;refine bWM ?_;rw[f];refine bWM (bWM ?_);show R _ _;rw[bYh];exact j
theorem aYv(X:K.In h)(c:wQ K C)(n:findIn K (.ref C) "__init__"=some (some (.ref f)))(s:typeIn K (.ref f)=some (.type "function")) (p:bYV (bWQ prog w) (A.under (.builtin "type.__call__" ⟨[.ref C],[]⟩)) (.call (.ref f) ⟨[.ref (h.objs.size+1)],[]⟩) (InitBack (h.objs.size+1) R) ⟨(h.push jO).push (zS C h.objs.size none),g,d,t,os⟩): bYV (bWQ prog w) A (.call (.ref C) ⟨[],[]⟩) R ⟨h,g,d,t,os⟩:=by
 obtain⟨x,m,j,D,B,E,O,F,⟨L,y⟩,J⟩:=c.cls;have l:h.get? C=some ⟨x,m,.cls j,D⟩:=X _ _ B;have call:=looks_specialIn (M:=bWQ prog w) X c.call;have i:=looks_instIn (M:=bWQ prog w) X c.typ;have made:=c.made (M:=bWQ prog w) X;have u:j.mro.isEmpty=false:=by rw[y];simp[vX]
 refine codeAny_of_tree ?_;show bWO _ _ (callAny (.ref C) _) _ _ _;refine nd_load l ?_;show bWO _ _ (callAny.viaDunder (.ref C) _) _ _ _;unfold callAny.viaDunder;refine bWH (call.at ?_);dsimp only;rw[tc_bind];refine bWH (bWM (bWH (bWM ?_)));refine bWM (a:=Fin.again (.call (.builtin "type.__call__") ⟨[.ref C],[]⟩)) (And.intro rfl ?_);refine codeAny_call_builtin_at (cXF _ dk) entry_typeCall (check_slot tc_kind tc_split i (tc_args _ _ _) ?_);unfold bYC.«type.__call__»;have I:Looks (bWQ prog w) h (mroOf (.ref C)) j.mro:=((Looks.ld (part:=none) l).andThen .now).andThen .now;repeat (first|simp only[u,Bool.false_eq_true,if_false]|with_reducible refine cQQ ?_|lk)
 refine bXP X c ?_;have k:∀b o,h.get? b=some o->((h.push jO).push (zS C h.objs.size none)).get? b=some o:=λb o e=>bWL _ (bWL _ e);have q:((h.push jO).push (zS C h.objs.size none)).get? (h.objs.size+1)=some (zS C h.objs.size none):=by heap_get
 have G:Looks (bWQ prog w) ((h.push jO).push (zS C h.objs.size none)) (typeOf (.ref (h.objs.size+1))) (.ref C):=(Looks.ld q).andThen .now;have H:=(c.self (M:=bWQ prog w) X).keeps k;have P:=(looks_findIn (M:=bWQ prog w) X n).keeps k;have Q:=(bind_fn (M:=bWQ prog w) X (.ref (h.objs.size+1)) s).keeps k;unfold cXt callSpecial? specialOf;repeat (first|with_reducible refine cQQ ?_|lk)
 refine bYx p λr N z=>?_;rcases r with e|(v|_|_|_)<;> first|exact z|exact z.elim|skip
 obtain⟨rfl,z⟩:=z;exact bWM (bWM z)
end
section
variable {prog:bW3}{w:bKa}{A:bKk}{E:bWG->bWJ->Prop}{K:Frag}{C e tp:Nat}{s:bWJ}{v:bWG}
theorem bXQ{Q:Unit->bWJ->Prop}(X:K.In s.heap)(c:wQ K C)(k:s.heap.get? e=some (zS C tp none)) (D:∀d tk,d.get? e=some (zS C tp (some s.heap.objs.size))->d.Ns1 s.heap.objs.size (λy=>if y="words" then some v else none)->(∀b o,b≠e->s.heap.get? b=some o->d.get? b=some o)->Q () {s with heap:=d,toks:=tk}): bWO (bWQ prog w) A (setAttr (.ref e) "words" v) Q E s:=by
 have I:InstAt s.heap e (zS C tp none) C none:=⟨k,rfl,rfl,bK3⟩;refine set_plain X I c.sa ?_;have f:=PySem.F.store_object;obtain⟨U,P,u,Y,L,R,O,S,⟨W,J⟩,V⟩:=c.cls;have z:clsIn K C=some u:=by unfold clsIn;rw[L]
 have sub:Looks (bWQ prog w) s.heap (cXt (.ref e) (.type "object")) true:=I.type.andThen (c.sub X dk);have H:Looks (bWQ prog w) s.heap (mroOf (.ref C)) u.mro:=(looks_clsIn X z).andThen .now;refine cXs f.slot.plain f.entry (@check_slot (bWQ prog w) _ _ {s with toks:=s.toks+1} "object.__setattr__" "object" "__setattr__" (.ref e) [.str "words" s.toks,v] [] _ f.kind f.split sub (f.args (.ref e) (.str "words" s.toks) v) ?_);rw[osa_eq,refuse_eq];have g:∀ (b:Nat)(o:Obj),s.heap.get? b=some o->s.heap.get? b=some o:=λ_ _ e=>e;refine bWH (bWH (I.type _ _ _ _ g (bWH (H _ _ _ _ g ?_))));rw[J,Z3];refine bWM (bWH (I.type _ _ _ _ g (bWH ((looks_findIn X c.wd) _ _ _ _ g (bWH (bWM ?_))))));have i:e≠s.heap.objs.size:=bW9 (bWT k);have j:(s.heap.push emptyDict).get? e=some (zS C tp none):=bWL _ k;refine bWH (bWM (bWH (bWH (wpAny_loadPart k (bWH ((looks_clsIn X z) _ _ _ _ g ?_))))));rw[O];refine bWH (wpAny_alloc ?_);refine bWH (wpAny_update j ?_);refine bWM (a:=some s.heap.objs.size) ?_;show bWO _ _ (storeInDict s.heap.objs.size (.str "words" s.toks) "words" v) _ _ _;have n:((s.heap.push emptyDict).update e λo=>{o with dict:=some s.heap.objs.size}).get? s.heap.objs.size=some emptyDict:=(Heap.get?_update_ne _ _ _ _ i.symm).trans (Heap.get?_push_at rfl rfl);have p:((s.heap.push emptyDict).update e λo=>{o with dict:=some s.heap.objs.size}).Ns s.heap.objs.size (λ_=>none):=⟨_, #[],_,n,rfl,λe N=>absurd N (by simp),λ_=>rfl⟩;have r:=bKG (λo=>{o with dict:=some s.heap.objs.size}) j rfl;unfold storeInDict newKeyGuard;refine bWH (bWM (bWH (wpAny_nsSet1 (Heap.Ns1.of_empty p) λd h x=>?_)));obtain⟨T,G,M,m,t,l⟩:=h.count (Within.cons "words" v Within.nil);refine bWH (wpAny_lookBehind m (by rw[t];exact pastItsLine_dict (bKh l (by rw[bKH,cQu,bKg];omega))) ?_);refine bWM ?_;refine D d _ ((x.2 e i).trans r) h λb o B q=>?_;exact(x.2 b (bW9 (bWT q))).trans ((Heap.get?_update_ne _ _ _ _ B).trans (bWL _ q))
theorem bga:Slot "Exception" "__getattribute__" "BaseException.__getattribute__":=
 .of (owner:="BaseException") (n:="__getattribute__") (by rw[typeLookup_type,cXn];kernel_rfl) dk dk dk (by first|exact .inl dk|exact .inr dk) (by rw[isSubtype_type];kernel_rfl)
theorem bXO{a:Bool}{Q:bWG->bWJ->Prop}{b d:Obj}{dx:Nat}(X:K.In s.heap)(c:wQ K C)(n:s.heap.get? e=some b)(x:b.cls= .ref C)(p:b.dict=some dx)(i:notCls b=true)(t:s.heap.get? dx=some d) (hl:lookIn "words" d=some (some v)) (r:handedIn v=true) (m:Q v {s with toks:=s.toks+1}):bWO (bWQ prog w) A (getAttr (.ref e) "words" a) Q E s:=by
 have I:InstAt s.heap e b C (some d):=⟨n,x,i,by rw[p];exact t⟩;obtain⟨B,q,l,J,g,y,u,z,⟨G,H⟩,D⟩:=c.cls;have f:clsIn K C=some l:=by unfold clsIn;rw[g]
 have o:findObj K C (some d) "words"=some (.value v):=by unfold findObj;rw[f,Option.bind_some,c.wd];simp only[Option.bind_some];unfold W.ownOf;rw[u,if_pos rfl];dsimp only;rw[hl];rfl
 have h:=I.type (M:=bWQ prog w);have k:=looks_find (M:=bWQ prog w) X I o;have sub:Looks (bWQ prog w) s.heap (cXt (.ref e) (.type "BaseException")) true:=I.type.andThen (c.sub X dk);refine bWH (wpAny_mkText (bKJ (bWH (h _ _ _ _ (λ_ _ e=>e) (bWH (looks_findIn X c.ga _ _ _ _ (λ_ _ e=>e) ?_))))));dsimp only;rw[show(onTheHeap (Value.ref C) && Value.builtin "BaseException.__getattribute__"==Value.builtin "object.__getattribute__")=false from by rw[show(Value.builtin "BaseException.__getattribute__"==Value.builtin "object.__getattribute__")=false from dk,Bool.and_false],if_neg (by decide)];have j:Looks (bWQ prog w) s.heap (hookBefore (.ref C)) none:=looks_hook (mc:= .ref C) X (by rw[if_pos (show onTheHeap (Value.ref C)=true from rfl)];exact c.gh);refine bWH (j _ _ _ _ (λ_ _ e=>e) (bWH (cQV (bKJ ?_))));unfold callGetattribute;rw[show(a && onTheHeap (Value.builtin "BaseException.__getattribute__"))=false from Bool.and_false _,if_neg (by decide)];unfold boundAndCalled;rw[bga.bind];refine bWH (bWM ?_);show bWO _ _ (call (.builtin "BaseException.__getattribute__") [.ref e,.str "words" s.toks]) _ _ _;refine cQQ (cXs bga.plain F.entry_bexc_ga ?_);refine @check_slot (bWQ prog w) _ _ {s with toks:=s.toks+1} "BaseException.__getattribute__" "BaseException" "__getattribute__" (.ref e) [.str "words" s.toks] [] _ dk dk sub (F.args_bexc_ga (.ref e) (.str "words" s.toks)) ?_;unfold bYC.«object.__getattribute__»;refine bWH (bWM (bWH (bWM ?_)));refine bWH (h _ _ _ _ (λ_ _ e=>e) (bWH (k _ _ _ _ (λ_ _ e=>e) (bWM ?_))));show bWO _ _ (handedOut v) _ _ _;rw[handedOut_of r];exact bWM m
theorem aWj{M:Model}{Q:Bool->bWJ->Prop}{h:Obj}{Rf:Nat}(X:K.In s.heap)(c:wQ K C)(b:wQ K Rf)(l:mroIn K C (.ref Rf)=some true)(f:s.heap.get? e=some h)(p:h.cls= .ref C)(k:Q true s): bWO M A (excMatches (.ref e) (.ref Rf)) Q E s:=by
 obtain⟨a,g,d,t,os⟩:=s;dsimp only at X f;have u:Looks M a (typeOf (.ref e)) (.ref C):=p ▸ (Looks.ld f).andThen .now;have w:Looks M a (cQK (.ref C) (.ref Rf)) true:=looks_mroIn X l;have x:Looks M a (cXt (.ref Rf) (.type "tuple")) false:=(looks_typeIn X b.ty).andThen (Looks.of_pure tc_notTuple);have G:Looks M a (cQK (.ref Rf) (.type "BaseException")) true:=b.sub X dk;have D:Looks M a (typeOf (.ref Rf)) (.type "type"):=looks_typeIn X b.ty;have v:Looks M a (cQK (.type "type") (.type "type")) true:=Looks.of_pure tc_sub;obtain⟨m,i,j,o,n,q,F,r,⟨z,B⟩,y⟩:=b.cls;have H:a.get? Rf=some ⟨m,i,.cls j,o⟩:=X _ _ n;unfold excMatches isExcClass;repeat (first|simp only[Bool.not_true,Bool.false_eq_true,if_false,if_true]|lk)
 exact k
theorem aWk{M:Model}{env:Env}{x:Sem bWG}{Q:Flow->bWJ->Prop}(l:A.handled=none) (h:bWO M A x (λv a=>∃e tp f C,v= .ref e/\K.In a.heap/\wQ K C/\a.heap.get? e=some (zS C tp f)/\E (.ref e) a) E s):bWO M A (raiseStmt env (some x) none) Q E s:=by
 unfold raiseStmt;refine bWH (bKE h (λv a j=>?_) λ_ _ x=>x);obtain⟨e,tp,f,C,rfl,X,c,i,k⟩:=j;obtain⟨b,g,d,tk,os⟩:=a;dsimp only at X i;have m:Looks M b (typeOf (.ref e)) (.ref C):=(Looks.ld i).andThen .now;have n:Looks M b (cQK (.ref C) (.type "BaseException")) true:=c.sub X dk;have o:Looks M b (typeOf (.ref C)) (.type "type"):=looks_typeIn X c.ty;unfold excFromValue isExcClass cXt;repeat (first|simp only[Bool.false_eq_true,if_false,if_true]|lk)
 show bWO M A handled _ _ _;refine wpAny_handled ?_;rw[l];exact wpAny_throw k
end
end L2
namespace L2
open PySem PySem.Spec PyProof.Rows
def CXR(P:bW3)(w:bKa):CXT:=λouter H s E d b=>∃ (e C c tb:Nat)(a:Hp),d= .ref e/\b.os=s.os/\AllBare b.gens/\Un (frs outer) [] H a s.heap b.heap/\HOk P w a b.heap/\
 uZ b.heap e (.ref C) (some c) (some tb)/\a e=none/\a tb=none/\s.heap.objs.size<=e/\s.heap.objs.size<=tb/\E (.ref C) (some c) a
section
variable {P:bW3}{w:bKa}{K:bWI}{mg:Str->Option bWG}{base:Heap}{N:List Str}{qual:Str}{scope:bYS}{f:Nat}{cd:bWG}{A:bKk}{outer:List Env}{s₀:bWJ}{H₀:Hp}{E:XK}
 {pins:List (Nat×Obj)} {σ:St} {H:Hp} {s:bWJ}
theorem bVq{e C dx:Nat}{tb:Option Nat}(I:Inv (aQl (CXR P w) P w K mg base N qual scope f cd A outer s₀ H₀ E) pins σ H s)(x:uZ s.heap e (.ref C) (some dx) tb)(t:H e=none)(l:s₀.heap.objs.size<=e) (B:∀T,tb=some T->H T=none/\s₀.heap.objs.size<=T) (q:E (.ref C) (some dx) H):(aQl (CXR P w) P w K mg base N qual scope f cd A outer s₀ H₀ E).xe (.ref e) s:=by
 have ne:∀b o,s₀.heap.get? b=some o->b≠e:=λb o a=>bW9 (bW6 (bWT a) l);have D:∀b o,s₀.heap.get? b=some o->tb≠some b:=λb o a z=>absurd (bW6 (bWT a) (B b z).2) (bKN _);have F:∀b,b∈(bYE qual scope s₀.heap.objs.size f cd::outer).filterMap (·.frame)->b=s₀.heap.objs.size\/b∈frs outer:=λb d=>by rw[cQq,show(bYE qual scope s₀.heap.objs.size f cd).frame=some s₀.heap.objs.size from rfl]at d;exact bWU.mp d
 have k:∀b o,s₀.heap.get? b=some o->b∉frs outer->b∉(bYE qual scope s₀.heap.objs.size f cd::outer).filterMap (·.frame):=λb o a d z=>
  (F b z).elim (bW9 (bWT a)) d
 show bWO (bWQ P w) (A.deeper (bYE qual scope s₀.heap.objs.size f cd)) (leaving (bYE qual scope s₀.heap.objs.size f cd) (.ref e)) _ _ s;refine aWD (base:=base) (outer:=outer) (L:=s₀.heap.objs.size) I.ok.frames I.stack rfl x λO T y m p=>?_;refine⟨e,C,dx,T,H,rfl,I.os,I.bare,?_,?_,y,t,I.hok.fresh m,l,bKh I.sz m,q⟩
 ·refine⟨λb o a n d g=>?_,λb o a n d g=>?_,λb o a n g=>I.base.free b o a n g,λb o a g=>?_,I.base.tups,I.base.frzs,I.base.tbls⟩
  ·exact p.keep b o (ne b o a) (D b o a) (k b o a d) (I.base.keep b o a n d g)
  ·obtain⟨Q,i⟩:=I.base.slot b o a n d g;obtain⟨j,J⟩:=p.slot b _ (ne b o a) (D b o a) i;exact⟨j,J⟩
  ·obtain⟨G,i⟩:=I.base.there b o a g;exact p.there b G i
 ·refine λb u a=>(I.hok b u a).stay (λc v M r=>?_) (λ_ r=>r) λ_ _ r=>r;have h:H c≠none:=by
   rcases M with z|z
   ·rw[z,a];simp
   ·rw[z];simp
  refine p.keep c v (λz=>h (by rw[z];exact t)) (λz=>h (B c z).1) (λz=>h (I.stkFree c z)) r
theorem zB:wF (CXR P w) (aQl (CXR P w) P w K mg base N qual scope f cd A outer s₀ H₀ E) E:=by
 intro a σ H s q k I h;obtain⟨e,C,p,tb,j,rfl,i,bare,un,c,x,l,m,d,g,o⟩:=h;have n:Inv (aQl (CXR P w) P w K mg base N qual scope f cd A outer s₀ H₀ E) a σ j k:=I.call' i un c bare λb z=>absurd z (by simp);exact bVq n x l (bKh I.sz d) (λT z=>by cases z;exact⟨m,bKh I.sz g⟩) o
theorem Fun.okX{x:Str}{st:Stmt}{e:bYF}{ps:List Str}{k:Nat}{sp:Sp}(F:Fun K x qual st f e)(S:yJ N ps (yD st)) (b:∀ (a:bWG)(A:bKk)(outer:List Env)(s:bWJ)(H:Hp)(vs:List V)(Q:VK)(E:XK),wR k (A.deeper (bYE qual (yD st) s.heap.objs.size f a))->sp vs H Q E-> ∃t,PSs (aQl (CXR P w) P w K mg base N qual (yD st) f a A outer s H E) (xA st) t/\t {nx:=λ_ g=>Q .non g,rt:=Q} (start N vs) H) (len:∀vs H Q E,sp vs H Q E->vs.length=ps.length:=by intro _ _ _ _ h;first|(cases h;subst_vars;exact rfl)|repeat (first|(obtain⟨rfl,_⟩:=h;exact rfl)|(obtain⟨_,h⟩:=h))):y0 P w K mg base (CXR P w) (k+1) f e ps sp:=by
 obtain⟨o,m,kV,j,n,p,a,ct,l,rfl,lk,c⟩:=F.ex;exact bXS lk c S len λA outer s H vs Q E i d=>b a A outer s H vs Q E i d
end
structure FnX(P:bW3)(w:bKa)(K:bWI)(mg:Str->Option bWG)(base:Heap)(k:Nat)(x:Str)(ps:List Str)(sp:Sp):Prop where
 ex:∃f fd,y0 P w K mg base (CXR P w) k f fd ps sp/\wP K fd ps []/\bKy K (.ref f)=true/\mg x=some (.ref f)
theorem FnX.mono{P:bW3}{w:bKa}{K:bWI}{mg:Str->Option bWG}{base:Heap}{j k:Nat}{x:Str}{ps:List Str}{sp:Sp}(G:FnX P w K mg base j x ps sp)(h:j<=k):FnX P w K mg base k x ps sp:=
 let ⟨f,fd,a,b⟩:=G.ex;⟨f,fd,a.mono h,b⟩
structure MG(P:bW3)(w:bKa)(K:bWI)(mg:Str->Option bWG)(base:Heap)(CX:CXT)(k:Nat)(C:Nat)(m:Str)(ps:List Str)(sp:Sp):Prop where
 ex:∃f fd,y0 P w K mg base CX k f fd ps sp/\wP K fd ps []/\bJa K C m f
 cl:Cls K C
theorem MG.mono{P:bW3}{w:bKa}{K:bWI}{mg:Str->Option bWG}{base:Heap}{CX:CXT}{j k:Nat}{C:Nat}{m:Str}{ps:List Str}{sp:Sp}(G:MG P w K mg base CX j C m ps sp)(h:j<=k):MG P w K mg base CX k C m ps sp:=
 let ⟨f,fd,a,b⟩:=G.ex;⟨⟨f,fd,a.mono h,b⟩,G.cl⟩
structure MkG(P:bW3)(w:bKa)(K:bWI)(mg:Str->Option bWG)(base:Heap)(k:Nat)(x:Str)(C:Nat)(ps:List Str)(sp:Sp):Prop where
 ex:∃f fd,y0 P w K mg base CX0 k f fd ps sp/\wP K fd ps []/\Mk K C f/\mg x=some (.ref C)
theorem MkG.mono{P:bW3}{w:bKa}{K:bWI}{mg:Str->Option bWG}{base:Heap}{j k:Nat}{x:Str}{C:Nat}{ps:List Str}{sp:Sp}(G:MkG P w K mg base j x C ps sp)(h:j<=k):MkG P w K mg base k x C ps sp:=
 let ⟨f,fd,a,b⟩:=G.ex;⟨f,fd,a.mono h,b⟩
section
variable {X:Cx}{k:Nat}{x m:Str}{C:Nat}{ps:List Str}{sp:Sp}{e o:Expr}{es:List Expr}{ta:TE}{t:TA}{p pos apos:Pos}{E:XK}{CX:CXT}
theorem Y1{P:bW3}{w:bKa}{K:bWI}{mg:Str->Option bWG}{base:Heap}{N:List Str}{qual:Str}{scope:bYS}{f:Nat}{cd:bWG}{A:bKk}{outer:List Env}{s₀:bWJ}{H₀:Hp}
  (G:FnX P w K mg base k x ps sp) (j:wR k (A.deeper (bYE qual scope s₀.heap.objs.size f cd))) (h:Gl (aQl (CXR P w) P w K mg base N qual scope f cd A outer s₀ H₀ E) x) (d:PA (aQl (CXR P w) P w K mg base N qual scope f cd A outer s₀ H₀ E) (e::es) t)
  (a:(x==("__debug__":Str))=false:=by decide) (l:bKi (e::es) (bYE qual scope s₀.heap.objs.size f cd)=(false,eval e (bYE qual scope s₀.heap.objs.size f cd))::bKi es (bYE qual scope s₀.heap.objs.size f cd):=by rfl)
  (c:(bYD pos (bKi es (bYE qual scope s₀.heap.objs.size f cd))).any (·.1)=false:=by rfl):
  PE (aQl (CXR P w) P w K mg base N qual scope f cd A outer s₀ H₀ E) (.Call (.Name x p) (e::es) [] pos) (bQF sp [] E t):=by
 obtain⟨g,n,F,b,m,i⟩:=G.ex
 exact aW4 F j h i m b .nil zB d a l c
theorem wN{pl:Sem Bool}(G:MG X.prog X.w X.K X.mg X.base CX k C m ps sp)(n:wR k X.A)(h:wF CX X E)(l:PE X o ta)(j:PA X (e::es) t)
  (a:bKi (e::es) X.env=(false,eval e X.env)::bKi es X.env:=by rfl) (c:(bYD pos (bKi es X.env)).any (·.1)=false:=by rfl)
  (i:eval (.Call (.Attribute o m apos) (e::es) [] pos) X.env=(do
   let ov <- eval o X.env
   standAt apos.atName
   let (f,first) <- cQZ [ov] (cQ9 ov m pl)
   callWith pos f first (bYD pos (bKi (e::es) X.env)) (backToKw pos (cQB [] X.env))):=by rfl):
  PE X (.Call (.Attribute o m apos) (e::es) [] pos) (bQI C m sp [] E ta t):=by
 obtain⟨g,p,F,b,d⟩:=G.ex
 exact bZx l G.cl d F n b .nil h j a c i
theorem bJP{pl:Sem Bool}(G:MG X.prog X.w X.K X.mg X.base CX k C m ps sp)(h:wR k X.A)(c:wF CX X E)(e:PE X o ta)
  (d:eval (.Call (.Attribute o m apos) [] [] pos) X.env=(do
   let ov <- eval o X.env
   standAt apos.atName
   let (f,first) <- cQZ [ov] (cQ9 ov m pl)
   callWith pos f first (bYD pos (bKi [] X.env)) (backToKw pos (cQB [] X.env))):=by rfl):
  PE X (.Call (.Attribute o m apos) [] [] pos) (bQI C m sp [] E ta bQJ):=by
 obtain⟨g,i,F,b,a⟩:=G.ex
 exact bQc e G.cl a F h b .nil c d
theorem bVM(G:MkG X.prog X.w X.K X.mg X.base k x C ps sp)(l:wR (k+1) X.A)(i:Gl X x)(j:PA X (e::es) t)(c:(x==("__debug__":Str))=false:=by decide)
  (h:bKi (e::es) X.env=(false,eval e X.env)::bKi es X.env:=by rfl) (a:(bYD pos (bKi es X.env)).any (·.1)=false:=by rfl):PE X (.Call (.Name x p) (e::es) [] pos) (bQH C sp [] E0 t):=by
 obtain⟨g,m,F,b,d,f⟩:=G.ex
 exact bZw d F l i f b .nil vB j c h a
theorem bJQ(G:MkG X.prog X.w X.K X.mg X.base k x C ps sp)(f:wR (k+1) X.A)(e:Gl X x)(a:(x==("__debug__":Str))=false:=by decide):PE X (.Call (.Name x p) [] [] pos) (bQH C sp [] E0 bQJ):=by
 obtain⟨g,h,F,b,c,d⟩:=G.ex;exact bQb c F f e d b .nil vB a
end
end L2
namespace L2
open PySem PySem.Spec PyProof.Rows
def v0(e C tp:Nat)(dx:Option Nat):HO:= .ext λh=>h.get? e=some (zS C tp dx)
theorem aZ2{P:bW3}{w:bKa}{H:Hp}{h:Heap}{e C tp:Nat}{dx:Option Nat}(b:h.get? e=some (zS C tp dx)):x5 P w H h e (v0 e C tp dx):=⟨b,⟨_,b⟩,λc d a k=>k _ a⟩
theorem aZ1{P:bW3}{w:bKa}{H:Hp}{h:Heap}{e C tp:Nat}{dx:Option Nat}(ok:HOk P w H h)(a:H e=some (v0 e C tp dx)):h.get? e=some (zS C tp dx):=(ok e _ a).1
section
variable {X:Cx}{pins:List (Nat×Obj)}{σ:St}{H:Hp}{s:bWJ}
theorem Inv.forget{e:Nat}{φ:Heap->Prop}(I:Inv X pins σ H s)(k:H e=some (.ext φ)):Inv X pins σ (λb=>if b=e then none else H b) s:=by
 have ne:∀b u,H b=some u->(∀φ,u≠ .ext φ)->b≠e:=λb u q n z=>by rw[z,k]at q;cases q;exact n _ rfl
 refine⟨I.ok,I.os,I.bare,⟨I.base.keep,I.base.slot,λb o q n i=>?_,I.base.there,λb f q=>?_,λb o u q=>?_,λb ps q=>?_⟩,I.loc,I.cell,?_,λx c q=>?_,λp h=>?_,λb u q=>?_,I.len⟩
 ·show(if b=e then none else H b)=none;rw[I.base.free b o q n i];split<;> rfl
 ·have z:=I.base.tups b f q;show(if b=e then none else H b)=_;rw[if_neg (ne b _ z λ_ y=>by cases y),z]
 ·have z:=I.base.frzs b o u q;show(if b=e then none else H b)=_;rw[if_neg (ne b _ z λ_ y=>by cases y),z]
 ·obtain⟨m,z⟩:=I.base.tbls b ps q;refine⟨m,?_⟩;show(if b=e then none else H b)=_;rw[if_neg (ne b _ z λ_ y=>by cases y),z]
 ·show(if _=e then none else H _)=none;rw[I.free];split<;> rfl
 ·show(if c=e then none else H c)=none;rw[I.freeC x c q];split<;> rfl
 ·obtain⟨l,g,j⟩:=I.pin p h;refine⟨l,?_,j⟩;show(if p.1=e then none else H p.1)=none;rw[g];split<;> rfl
 ·have a:(if b=e then none else H b)=some u:=q;by_cases d:b=e
  ·rw[if_pos d]at a;cases a
  ·rw[if_neg d]at a;refine(I.hok b u a).stay (λc v _ r=>r) (λc r=>?_) λc f r=>?_
   ·show(if c=e then none else H c)=_;rw[if_neg (ne c _ r λ_ y=>by cases y),r]
   ·show(if c=e then none else H c)=_;rw[if_neg (ne c _ r λ_ y=>by cases y),r]
inductive bVS(K:bWI)(D:aJH)(σ:St)(y:V)(x:V)(H2:Hp):Prop|mk (e C tp) (_:x= .ref e) (_:H2 e=some (v0 e C tp none)) (_:wQ K C) (_:∀dx,H2 dx=none->D.nx σ (upd (upd H2 dx (.xd [("words",y)])) e (v0 e C tp (some dx))))
def bWv(K:bWI)(b a:TE):TS:=λD σ H=>a σ H λy c=>b σ c λx d=>bVS K D σ y x d
theorem bJW{o a:Expr}{B A:TE}{pos i:Pos}(G:PE X o B)(O:PE X a A)(M:swapsWith a (some (.Attribute o "words" i)) pos.line X.env=pure false): PS X (.Assign [.Attribute o "words" i] a pos) (bWv X.K B A):=by
 intro pins s σ H D I h;refine cXo (thn (O pins s σ H _ I h) λu s1 ⟨y,H1,I1,ry,q⟩=>thn (G pins s1 σ H1 _ I1 q) λov s2 ⟨x,H2,I2,rx,e,C,tp,ex,ea,c,q2⟩=>?_) M;subst ex;obtain rfl:ov=Value.ref e:=rx;have J:=aZ1 I2.hok ea;have g:H2 s2.heap.objs.size=none:=I2.hok.fresh (bWN _);have P:=q2 _ g;refine bXQ I2.kIn c J λR tk F Q k=>⟨σ,_,I2.un (t':=tk) ?_ ?_,P⟩
 ·have p:∀b,H2 b=none->b≠e:=λb n z=>by rw[z,ea]at n;cases n
  have N:∀b o,s2.heap.get? b=some o->b≠s2.heap.objs.size:=λb o r=>bW9 (bWT r);have t:∀b u,H2 b=some u->(∀φ,u≠ .ext φ)->upd (upd H2 s2.heap.objs.size (.xd [("words",y)])) e (v0 e C tp (some s2.heap.objs.size)) b=some u:=λb u r n=>by rw[yH (λz=>by rw[z,ea]at r;cases r;exact n _ rfl),yH (yE r g)];exact r
  refine⟨λb o r n _ _=>k b o (p b n) r,λb o r n _ _=>⟨o.slots,k b o (p b n) r⟩,λb o r n _=>?_,λb o r _=>?_,λb L r=>t b _ r (λ_ z=>by cases z),λb o u r=>t b _ r (λ_ z=>by cases z),λb ps r=>⟨#[],by rw[t b _ r (λ_ z=>by cases z)];simp⟩⟩
  ·rw[yH (p b n),yH (N b o r)];exact n
  ·by_cases j:b=e
   ·subst j;exact⟨_,F⟩
   ·exact⟨o,k b o j r⟩
 ·intro b v r;by_cases j:b=e
  ·subst j;rw[yB]at r;cases r;exact aZ2 F
  ·rw[yH j]at r;by_cases E:b=s2.heap.objs.size
   ·subst E;rw[yB]at r;cases r;refine⟨_,Q,λf=>?_⟩;show aQe (bY2 f [("words",y)]) (if f="words" then some u else none);by_cases m:f="words"
    ·subst m;exact ry
    ·rw[if_neg m];have:(f==("words":Str))=false:=by simpa using m
     simp[bY2,this,aQe]
   ·rw[yH E]at r;have ne:∀c l,H2 c=some l->(∀φ,l≠ .ext φ)->c≠e:=λc l d n z=>by rw[z,ea]at d;cases d;exact n _ rfl
    refine(I2.hok b v r).stay (λc o w d=>k c o ?_ d) (λc d=>?_) λc L d=>?_
    ·rcases w with rfl|w
     ·exact j
     ·exact ne c _ w λ_ z=>by cases z
    ·rw[yH (ne c _ d λ_ z=>by cases z),yH (yE d g)];exact d
    ·rw[yH (ne c _ d λ_ z=>by cases z),yH (yE d g)];exact d
end
inductive zV(K:bWI)(vs:List V)(H:Hp)(Q:VK)(_:XK):Prop|mk (e C tp:Nat) (y:V) (_:vs= [.ref e,y]) (_:H e=some (v0 e C tp none)) (_:wQ K C) (_:∀dx,H dx=none->Q .non (upd (upd H dx (.xd [("words",y)])) e (v0 e C tp (some dx))))
inductive bQD(C:Nat)(t:Str)(vs:List V)(H:Hp)(Q:VK):Prop|mk (e tp:Nat) (_:vs= [.ref e]) (_:H e=some (v0 e C tp none)) (_:∀dx,H dx=none->Q .non (upd (upd H dx (.xd [("words",.str t)])) e (v0 e C tp (some dx))))
def zL(K:bWI)(C:Nat)(t:Str):Sp:=λa H Q _=>bQD C t a H Q
structure aJF(P:bW3)(w:bKa)(K:bWI)(mg:Str->Option bWG)(base:Heap)(k:Nat)(x m:Str)(ps:List Str)(sp:Sp):Prop where
 ex:∃ (R f:Nat)(fd:bYF),y0 P w K mg base CX0 k f fd ps sp/\wP K fd ps []/\PySem.W.readsIn K R (.type "type")=true/\PySem.W.findCls K (.ref R) (.type "type") m=some (.val (.ref f))/\
  cXg K (.ref R) "__getattribute__"=some (some (.builtin "type.__getattribute__"))/\bKy K (.ref f)=true/\mg x=some (.ref R)
section
variable {X:Cx}{k:Nat}{x m:Str}{ps:List Str}{sp:Sp}{e:Expr}{es:List Expr}{t:TA}{p pos apos:Pos}
theorem vK{pl:Sem Bool}(G:aJF X.prog X.w X.K X.mg X.base k x m ps sp)(q:wR k X.A)(l:Gl X x)(g:PA X (e::es) t)(a:(x==("__debug__":Str))=false:=by decide)
  (c:bKi (e::es) X.env=(false,eval e X.env)::bKi es X.env:=by rfl) (d:(bYD pos (bKi es X.env)).any (·.1)=false:=by rfl)
  (u:eval (.Call (.Attribute (.Name x p) m apos) (e::es) [] pos) X.env=(do
   let ov <- eval (.Name x p) X.env
   standAt apos.atName
   let (f,first) <- cQZ [ov] (cQ9 ov m pl)
   callWith pos f first (bYD pos (bKi (e::es) X.env)) (backToKw pos (cQB [] X.env))):=by rfl):
  PE X (.Call (.Attribute (.Name x p) m apos) (e::es) [] pos) (bQF sp [] E0 t):=by
 obtain⟨R,f,z,F,b,o,j,i,y,n⟩:=G.ex
 intro pins s σ H Q I h
 refine cQG (pl:=pl) (vI I l n ?_ a) u
 refine PySem.W.method_cls I.kIn i (PySem.W.cls_value I.kIn o j rfl ?_)
 have v:=I.tok (s.toks+1)
 refine cQv (first:= []) (h₀:=X.base) I.ok.mod.kin y (thn (g pos pins _ σ H _ v h) λus s2 ⟨vs,H2,I2,r,q2⟩=>⟨I2.kIn,?_⟩) c d
 exact aXO F q b .nil vB I2 r q2
end
structure ExG(P:bW3)(w:bKa)(K:bWI)(mg:Str->Option bWG)(base:Heap)(k:Nat)(x:Str)(Rf:Nat)(C:Nat)(t:Str):Prop where
 ex:∃f fd,y0 P w K mg base CX0 k f fd ["self"] (zL K C t)/\wP K fd ["self"] []/\bKm K (.ref C) "__init__"=some (some (.ref f))/\cQm K (.ref f)=true/\bKy K (.ref C)=true/\mg x=some (.ref C)
 cl:wQ K C
 sub:cQS K C (.ref Rf)=some true
theorem ExG.mono{P:bW3}{w:bKa}{K:bWI}{mg:Str->Option bWG}{base:Heap}{j k:Nat}{x:Str}{Rf C:Nat}{t:Str}(G:ExG P w K mg base j x Rf C t)(h:j<=k):ExG P w K mg base k x Rf C t:=
 let ⟨f,fd,a,b⟩:=G.ex;⟨⟨f,fd,a.mono h,b⟩,G.cl,G.sub⟩
def bXn(C:Nat)(t:Str)(E:XK):TS:=λ_ _ H=>∀a,H a=none->E (.ref C) (some a) (upd H a (.xd [("words",.str t)]))
section
variable {P:bW3}{w:bKa}{K:bWI}{mg:Str->Option bWG}{base:Heap}{N:List Str}{qual:Str}{scope:bYS}{f:Nat}{cd:bWG}{A:bKk}{outer:List Env}{s₀:bWJ}{H₀:Hp}{E:XK}{k:Nat}{x t:Str}{Rf C:Nat}{np cpos pos:Pos}
theorem zH(G:ExG P w K mg base k x Rf C t)(Z:wR (k+1) (A.deeper (bYE qual scope s₀.heap.objs.size f cd)))(U:Gl (aQl (CXR P w) P w K mg base N qual scope f cd A outer s₀ H₀ E) x)(q:(x==("__debug__":Str))=false:=by decide):
  PS (aQl (CXR P w) P w K mg base N qual scope f cd A outer s₀ H₀ E) (.Raise (some (.Call (.Name x np) [] [] cpos)) none pos) (bXn C t E):=by
 intro pins s σ H D I h
 obtain⟨fi,fd,F,b,Q,V,kp,X⟩:=G.ex
 rw[arm_exec_Raise]
 refine bWH (cQX ?_)
 show bWO _ _ (raiseStmt _ (some (do let v <- eval (.Call (.Name x np) [] [] cpos) (bYE qual scope s₀.heap.objs.size f cd);standAt pos;pure v)) none) _ _ _
 refine aWk (K:=K) (I.ok.hd rfl) (bWH ?_)
 refine bYk (vI I U X ?_ q)
 refine cXy I.kIn kp (cQQ ?_)
 obtain⟨a,g,d,tk,L⟩:=s
 have I0:Inv (aQl (CXR P w) P w K mg base N qual scope f cd A outer s₀ H₀ E) pins σ H ⟨a.push jO,g,d,tk,L⟩:=I.kept (t':=tk) λb u e=>bWL _ e
 have S:((a.push jO).push (zS C a.objs.size none)).get? (a.objs.size+1)=some (zS C a.objs.size none):=by heap_get
 have y:Inv (aQl (CXR P w) P w K mg base N qual scope f cd A outer s₀ H₀ E) pins σ (upd H (a.objs.size+1) (v0 (a.objs.size+1) C a.objs.size none)) ⟨(a.push jO).push (zS C a.objs.size none),g,d,tk,L⟩:=
  I0.laid (t':=tk) (λb u e=>bWL _ e) (bY5 (bYh _ _)) (aZ2 S)
 have o:H (a.objs.size+1)=none:=I.hok.fresh (bYN _)
 refine aYv I.kIn G.cl Q (beq_iff_eq.mp V) (bYx (F.run _ (bYE qual scope s₀.heap.objs.size f cd::outer) _ _ ⟨[.ref (a.objs.size+1)],[]⟩ [.ref (a.objs.size+1)] [.ref (a.objs.size+1)] (λv O=>v= .non/\∃c,upd H (a.objs.size+1) (v0 (a.objs.size+1) C a.objs.size none) c=none/\O=upd (upd (upd H (a.objs.size+1) (v0 (a.objs.size+1) C a.objs.size none)) c (.xd [("words",.str t)])) (a.objs.size+1) (v0 (a.objs.size+1) C a.objs.size (some c))) E0 (Z.make C [] []) (y.env0.make C [] []) (b _ [.ref (a.objs.size+1)] y.kIn rfl) (.cons rfl .nil) ⟨a.objs.size+1,a.objs.size,rfl,yB,λc i=>⟨rfl,c,i,rfl⟩⟩) λr s' j=>?_)
 cases r with
 |error e=>exact bYe j
 |ok Y=>
  cases Y with
  |next=>exact bYe j
  |brk=>exact bYe j
  |cont=>exact bYe j
  |ret u=>
   obtain⟨v,O,J,R,rfl,c,i,rfl⟩:=y.after j;have l:a.objs.size+1≠c:=yE yB i;have p:H c=none:=by rw[yH (bKl l)]at i;exact i
   have m:=aZ1 J.hok yB;have M:=J.forget (e:=a.objs.size+1) yB;have eq:(λb=>if b=a.objs.size+1 then none else upd (upd (upd H (a.objs.size+1) (v0 (a.objs.size+1) C a.objs.size none)) c (.xd [("words",.str t)])) (a.objs.size+1) (v0 (a.objs.size+1) C a.objs.size (some c)) b)=upd H c (.xd [("words",.str t)]):=by
    funext b;by_cases n:b=a.objs.size+1
    ·rw[if_pos n,n,yH l,o]
    ·rw[if_neg n,yH n];by_cases B:b=c
     ·rw[B,yB,yB]
     ·rw[yH B,yH B,yH n]
   rw[eq]at M;refine⟨R,bWH (cQX (bWM ⟨a.objs.size+1,a.objs.size,some c,C,rfl,J.kIn,G.cl,m,?_⟩))⟩;refine bVq (tb:=none) M ⟨⟨_,_,m,rfl,rfl,rfl,rfl⟩,λT z=>by cases z⟩ (by rw[yH l];exact o) (bKh I.sz (bYN _)) (λT z=>by cases z) (h c p)
end
end L2
namespace L2
open PySem PySem.Spec PyProof.Rows
theorem bZn{X:Cx}{A:bKk}{a:Bool}{pn:List (Nat×Obj)}{xe:bWG->bWJ->Prop}(o:X.Ok)(b:A.frames=X.A.frames)(c:a=true->A.handled=none):Cx.Ok {X with A:=A,calm:=a,pn:=pn,xe:=xe}:=
 ⟨o.mod,o.kind,o.glob,o.blt,o.above,o.inj,o.has,o.cab,c,b.trans o.frames,o.stk,o.exf,o.bs,o.bsz,o.noex,o.exfs,o.funs,o.frf⟩
theorem Inv.mark{X:Cx}{A:bKk}{b:Bool}{pn pins a:List (Nat×Obj)}{xe:bWG->bWJ->Prop}{σ:St}{H:Hp}{s:bWJ}(I:Inv X pins σ H s)(c:A.frames=X.A.frames)(e:b=true->A.handled=none) (d:∀p∈pn++a,p∈X.pn++pins):Inv {X with A:=A,calm:=b,pn:=pn,xe:=xe} a σ H s:=
 ⟨bZn I.ok c e,I.os,I.bare,I.base,I.loc,I.cell,I.free,I.freeC,λp h=>I.pin p (d p h),I.hok,I.len⟩
theorem bZh{X:Cx}{pn:List (Nat×Obj)}{xe:bWG->bWJ->Prop}(o:Cx.Ok {X with A:=X.A,calm:=X.calm,pn:=pn,xe:=xe}):X.Ok:=
 ⟨o.mod,o.kind,o.glob,o.blt,o.above,o.inj,o.has,o.cab,o.hd,o.frames,o.stk,o.exf,o.bs,o.bsz,o.noex,o.exfs,o.funs,o.frf⟩
theorem Inv.names{X:Cx}{pins:List (Nat×Obj)}{σ:St}{H:Hp}{s:bWJ}{h':Heap}{h:Str->Option bWG}{t':Nat}(I:Inv X pins σ H s)(k:h'.Ns X.env.locals h)(d:bYt X.env.locals s.heap h'): Inv X pins (cXd X.N.length none) H {s with heap:=h',toks:=t'}:=by
 have a:∀b o,X.s₀.heap.get? b=some o->b≠X.env.locals:=λb o q=>bW9 (bW6 (bWT q) I.ok.above);refine⟨I.ok,I.os,I.bare,⟨λb o q n f e=>(d.2 b (a b o q)).trans (I.base.keep b o q n f e),λb o q n f e=>?_,I.base.free,λb o q e=>?_,I.base.tups,I.base.frzs,I.base.tbls⟩,⟨h,k,λi x v _ g _=>?_⟩,λx c q=>?_,I.free,I.freeC,λp m=>?_,λb u q=>?_,by simp⟩
 ·obtain⟨y,z⟩:=I.base.slot b o q n f e;exact⟨y,(d.2 b (a b o q)).trans z⟩
 ·obtain⟨t,z⟩:=I.base.there b o q e;exact⟨t,(d.2 b (a b o q)).trans z⟩
 ·rw[List.getElem?_replicate]at g;split at g<;> cases g
 ·obtain⟨v,z⟩:=I.cell x c q;exact⟨v,z.sameBut d (I.cne x c q)⟩
 ·obtain⟨C,l,j,w,A⟩:=I.pin p m;exact⟨(d.2 p.1 j).trans C,l,j,w,A⟩
 ·refine(I.hok b u q).stay (λc v B r=>(d.2 c ?_).trans r) (λ_ r=>r) λ_ _ r=>r;rintro rfl;rcases B with z|z
  ·rw[<- z,I.free]at q;cases q
  ·rw[I.free]at z;cases z
def bVx(K:bWI)(Rf:Nat)(Q:VK):XK:=λcls b a=>∃ (C d:Nat)(t:Str),cls= .ref C/\b=some d/\wQ K C/\cQS K C (.ref Rf)=some true/\a d=some (.xd [("words",.str t)])/\Q (.str t) a
section
variable {X:Cx}{pins:List (Nat×Obj)}{σ:St}{H:Hp}{s:bWJ}
theorem Inv.recs{h':Heap}{ch:List Nat}(I:Inv X pins σ H s)(j:∀b∈ch,s.heap.objs.size<=b\/(X.s₀.heap.objs.size<=b/\b≠X.env.locals/\(∀x c,X.env.cells.lookup x=some c->c≠b)/\∀p∈X.pn++pins,p.1≠b))(l:∀b∈ch,H b=none) (keep:∀b o,b∉frs X.stack->b∉ch->s.heap.get? b=some o->h'.get? b=some o) (a:∀b o,b∉ch->s.heap.get? b=some o->∃k,h'.get? b=some {o with slots:=k}):Inv X pins σ H {s with heap:=h'}:=by
 have i:HOk X.prog X.w H h':=λb u q=>(I.hok b u q).stay (λc v t r=>by
  have g:H c≠none:=by
   rcases t with z|z
   ·rw[z,q];simp
   ·rw[z];simp
  exact keep c v (λz=>g (I.stkFree c z)) (λz=>g (l c z)) r) (λ_ r=>r) λ_ _ r=>r
 refine I.call (g':=s.gens) (t':=s.toks) (d':=s.drawn) (ch:=ch) ⟨λb o q _ h d=>keep b o h d q,λb o q _ _ d=>a b o d q,λ_ _ _ n _=>n,λb o q d=>?_,λ_ _ q=>q,λ_ _ _ q=>q,λ_ y q=>⟨#[],by rw[q];simp⟩⟩ i I.bare λb h=>?_
 ·obtain⟨k,z⟩:=a b o d q;exact⟨_,z⟩
 ·rcases j b h with z|⟨z1,z2,z3,z4⟩
  ·refine⟨.inr (bKh I.sz z),λe=>?_,λx c q e=>?_,λp m e=>?_⟩
   ·rw[e]at z;exact absurd (bW6 I.lt z) (bKN _)
   ·obtain⟨v,o,f,_⟩:=I.cell x c q;rw[e]at f;exact absurd (bW6 (bWT f) z) (bKN _)
   ·have f:=(I.pin p m).1;rw[e]at f;exact absurd (bW6 (bWT f) z) (bKN _)
  ·exact⟨.inr z1,z2,z3,z4⟩
theorem bJX{body:List Stmt}{tb:XK->TS}{R n:Str}{i:Nat}{Rf:Nat}{cp p1 p2 p3 G tp:Pos}(hN:X.N.Nodup)(hi:X.N[i]? =some n)(hl:X.env.scope.names.lookup n=some .local)(hg:Gl X R)(hm:X.mg R=some (.ref Rf))(cr:wQ X.K Rf) (a0:X.stack=X.env::X.outer) (a8:X.env.frame=some X.env.locals) (c8:X.calm=true) (a7:(n==("__debug__":Str))=false) (a6:(R==("__debug__":Str))=false) (c9:(n==("__classdict__":Str))=false) (hA:∀e,(X.A.mark (some (.ref e))).frames=X.A.frames) (j:∀ (pn:List (Nat×Obj))(xe:bWG->bWJ->Prop)(E:XK),wF (CXR X.prog X.w) {X with A:=X.A,calm:=X.calm,pn:=pn,xe:=xe} E->PSs {X with A:=X.A,calm:=X.calm,pn:=pn,xe:=xe} body (tb E)): PS X (.Try body [.ExceptHandler (some (.Name R cp)) (some n) [.Return (some (.Attribute (.Name n p1) "words" p2)) p3] G] [] [] tp) (λD σ H=>tb (bVx X.K Rf D.rt) D σ H):=by
 intro pins s σ H D I h;refine wpAny_Try_except ?_;have B:X.calm=true->X.A.handled=none:=I.ok.hd;have go:∀ (a2:List (Nat×Obj))(l:St)(M:Hp)(Z:bWJ)(g:bWG)(k:bWJ),Inv X pins l M Z->CXR X.prog X.w X.stack M Z (bVx X.K Rf D.rt) g k->
   bWO (bWQ X.prog X.w) X.A (cXa g X.env) (λ_ U=>bWO (bWQ X.prog X.w) X.A (cQM g none) (λ_ W=>bWO (bWQ X.prog X.w) X.A (handleBy g X.env [.ExceptHandler (some (.Name R cp)) (some n) [.Return (some (.Attribute (.Name n p1) "words" p2)) p3] G]) (SP X pins D) X.xe W) X.xe U) X.xe k:=by
  intro _ l M Z g k J1 hx
  obtain⟨e,C',dx,c5,H',rfl,os,bare,un,a9,x,he,ht,a1,a5,hE⟩:=hx
  obtain⟨C,d,t,ec,ed,cC,hs,hd,hq⟩:=hE
  have eC:C'=C:=by cases ec;rfl
  subst eC
  have eD:dx=d:=by cases ed;rfl
  subst eD
  have Y:Inv X pins l H' k:=J1.call' os un a9 bare λb z=>absurd z (by simp)
  have big:∀b,Z.heap.objs.size<=b->X.s₀.heap.objs.size<=b/\b≠X.env.locals/\(∀x c,X.env.cells.lookup x=some c->c≠b)/\∀p∈X.pn++pins,p.1≠b:=λb z=>by
   refine⟨bKh J1.sz z,λe=>?_,λx c q e=>?_,λp G e=>?_⟩
   ·rw[e]at z;exact absurd (bW6 J1.lt z) (bKN _)
   ·obtain⟨v,o,P,_⟩:=J1.cell x c q;rw[e]at P;exact absurd (bW6 (bWT P) z) (bKN _)
   ·have P:=(J1.pin p G).1;rw[e]at P;exact absurd (bW6 (bWT P) z) (bKN _)
  refine aJf (base:=X.base) (outer:=X.outer) (L:=X.env.locals) (a0 ▸ Y.ok.frames) (a0 ▸ Y.stack) a8 x λh3 T y nT p=>?_
  have b8:frs X.stack=(X.env::X.outer).filterMap (·.frame):=by rw[a0];rfl
  have J3:Inv X pins l H' {k with heap:=h3}:=Y.recs (ch:= [e,c5]) (λb j=>by
    rcases bWU.mp j with rfl|j
    ·exact .inr (big _ a1)
    ·rw[bW8.mp j];exact .inr (big _ a5)) (λb j=>by
    rcases bWU.mp j with rfl|j
    ·exact he
    ·rw[bW8.mp j];exact ht)
   (λb o j S q=>p.keep b o (λz=>S (by simp[z])) (λz=>S (by cases z;simp)) (b8 ▸ j) q)
   (λb o S q=>p.slot b o (λz=>S (by simp[z])) (λz=>S (by cases z;simp)) q)
  have c0:H' T=none:=Y.hok.fresh nT
  have O:X.s₀.heap.objs.size<=T/\T≠X.env.locals/\(∀x c,X.env.cells.lookup x=some c->c≠T)/\∀p∈X.pn++pins,p.1≠T:=by
   refine⟨bKh Y.sz nT,λe=>?_,λx c q e=>?_,λp G e=>?_⟩
   ·rw[e]at nT;exact absurd (bW6 Y.lt nT) (bKN _)
   ·obtain⟨v,o,P,_⟩:=Y.cell x c q;rw[e]at P;exact absurd (bW6 (bWT P) nT) (bKN _)
   ·have P:=(Y.pin p G).1;rw[e]at P;exact absurd (bW6 (bWT P) nT) (bKN _)
  have mk:∀ {σ:St} {H:Hp} {s:bWJ},Inv X pins σ H s->Inv {X with A:=X.A.mark (some (.ref e)),calm:=false,pn:=X.pn,xe:=λ_ _=>True} pins σ H s:=λJ=>J.mark (hA e) (λz=>by cases z) λp G=>G
  have un:∀ {σ:St} {H:Hp} {s:bWJ},Inv {X with A:=X.A.mark (some (.ref e)),calm:=false,pn:=X.pn,xe:=λ_ _=>True} pins σ H s->Inv X pins σ H s:=λ{σ H s} J=>Inv.mark (X:={X with A:=X.A.mark (some (.ref e)),calm:=false,pn:=X.pn,xe:=λ_ _=>True}) J (hA e).symm B λp G=>G
  refine wpAny_handleBy_cons (codeAny_handlers_test ?_) (by intro q;cases q)
  refine vI (X:={X with A:=X.A.mark (some (.ref e)),calm:=false,pn:=X.pn,xe:=λ_ _=>True}) (mk J3) hg hm ?_ a6
  obtain⟨oe,vs,g1,g2,g3,g4,g5⟩:=y.obj
  refine aWj J3.kIn cC cr hs g1 g2 ?_
  refine codeAny_handlers_suite_as ?_
  refine aYF (s:={k with heap:=h3}) y λh4 y4 k4 t4=>?_
  have J4:Inv X pins l H' {k with heap:=h4}:=Inv.recs (s:={k with heap:=h3}) (h':=h4) (ch:= [T]) J3 (λb j=>by rw[bW8.mp j];exact .inr O) (λb j=>by rw[bW8.mp j];exact c0)
   (λb o _ S q=>k4 b o (λz=>S (by simp[z])) q) (λb o S q=>⟨o.slots,k4 b o (λz=>S (by simp[z])) q⟩)
  refine Z2 (X:={X with A:=X.A.mark (some (.ref e)),calm:=false,pn:=X.pn,xe:=λ_ _=>True}) (v:= .ref e) (u:= .ref e) (mk J4) hN hi (.inl hl) rfl (λs5 J5 ⟨a,sb,ha⟩=>?_) (.inr hl)
  have a4:e≠a/\T≠a:=by
   rcases ha with z|z
   ·rw[z];exact⟨(big _ a1).2.1,O.2.1⟩
   ·exact⟨λq=>(big _ a1).2.2.1 n a z q.symm,λq=>O.2.2.1 n a z q.symm⟩
  have y5:uZ s5.heap e (.ref C') (some dx) (some T):=y4.keeps λb o j q=>(sb.2 b (by
   rcases j with rfl|j
   ·exact a4.1
   ·cases j;exact a4.2)).trans q
  obtain⟨b2,d0,f1,f2,f3,f4,f5⟩:=y5.obj
  obtain⟨mA,b7,a3⟩:=J5.hok dx _ hd
  obtain⟨od,b3,b0⟩:=aXx b7
  obtain⟨u,hu,ru⟩:=aQe.some_of (v:=V.str t) (o:=mA "words") (a3 "words")
  obtain⟨m5,b4,b5⟩:=J5.loc
  obtain⟨u5,r5,l5⟩:=b5 i n (.ref e) hi (bY1 (by rw[J4.len];exact(bWP.mp hi).1)) (.inl hl)
  obtain rfl:u5=Value.ref e:=r5
  have b6:m5 n=some (.ref e):=by
   rcases l5 with⟨_,z⟩|⟨z,_⟩
   ·exact z
   ·rw[show X.env.kindOf n=some .local from hl]at z;rcases z with z|z<;> cases z
  refine wpAny_execs_cons (wpAny_Return_some (aVX rfl ?_))
  refine wpAny_Name (wpAny_loadName_local J5.ok.kind hl b4 b6 ?_) a7
  refine bXO J5.kIn cC f1 f2 f3 (by obtain⟨c1,c2,c3,c4⟩:=b2;cases f4;rfl) b3 (by rw[b0,hu]) (aXn ru) ?_
  have J6:=(un J5).tok (s5.toks+1)
  obtain⟨m6,c6,_⟩:=J6.loc
  refine wpAny_nameGoes hl c6 (by rw[J6.ok.kind];rfl) λh7 m7 b1 c7=>?_
  exact⟨.str t,_,H',J6.names (t':=s5.toks+1+1) b1 c7,ru,hq⟩
 have b9:wF (CXR X.prog X.w) {X with A:=X.A,calm:=X.calm,pn:=X.pn++pins,xe:=λg k=>bWO (bWQ X.prog X.w) X.A (cXa g X.env) (λ_ U=>bWO (bWQ X.prog X.w) X.A (cQM g none) (λ_ W=>bWO (bWQ X.prog X.w) X.A (handleBy g X.env [.ExceptHandler (some (.Name R cp)) (some n) [.Return (some (.Attribute (.Name n p1) "words" p2)) p3] G]) (SP X pins D) X.xe W) X.xe U) X.xe k} (bVx X.K Rf D.rt):=
  λa2 l M Z g k J hx=>go [] l M Z g k (Inv.mark (X:={X with A:=X.A,calm:=X.calm,pn:=X.pn++pins,xe:=λg k=>bWO (bWQ X.prog X.w) X.A (cXa g X.env) (λ_ U=>bWO (bWQ X.prog X.w) X.A (cQM g none) (λ_ W=>bWO (bWQ X.prog X.w) X.A (handleBy g X.env [.ExceptHandler (some (.Name R cp)) (some n) [.Return (some (.Attribute (.Name n p1) "words" p2)) p3] G]) (SP X pins D) X.xe W) X.xe U) X.xe k}) J rfl B λp Q=>bYO _ Q) hx
 have I':Inv {X with A:=X.A,calm:=X.calm,pn:=X.pn++pins,xe:=λg k=>bWO (bWQ X.prog X.w) X.A (cXa g X.env) (λ_ U=>bWO (bWQ X.prog X.w) X.A (cQM g none) (λ_ W=>bWO (bWQ X.prog X.w) X.A (handleBy g X.env [.ExceptHandler (some (.Name R cp)) (some n) [.Return (some (.Attribute (.Name n p1) "words" p2)) p3] G]) (SP X pins D) X.xe W) X.xe U) X.xe k} [] σ H s:=
  I.mark rfl B λp Q=>by simpa using Q
 have F:∀ {σ:St} {H:Hp} {s:bWJ},Inv {X with A:=X.A,calm:=X.calm,pn:=X.pn++pins,xe:=λg k=>bWO (bWQ X.prog X.w) X.A (cXa g X.env) (λ_ U=>bWO (bWQ X.prog X.w) X.A (cQM g none) (λ_ W=>bWO (bWQ X.prog X.w) X.A (handleBy g X.env [.ExceptHandler (some (.Name R cp)) (some n) [.Return (some (.Attribute (.Name n p1) "words" p2)) p3] G]) (SP X pins D) X.xe W) X.xe U) X.xe k} [] σ H s->Inv X pins σ H s:=
  λ{σ H s} J=>⟨bZh J.ok,J.os,J.bare,J.base,J.loc,J.cell,J.free,J.freeC,λp Q=>J.pin p (by simpa using Q),J.hok,J.len⟩
 refine bKE (j _ _ _ b9 [] s σ H D I' h) (λf Z q=>?_) λ_ _ q=>q;cases f with
 |next=>obtain⟨m,M,J,q⟩:=q;exact yY pins Z m M D (F J) q
 |ret v=>obtain⟨u,m,M,J,r,q⟩:=q;exact⟨u,m,M,F J,r,q⟩
 |brk=>obtain⟨m,M,J,q⟩:=q;exact⟨m,M,F J,q⟩
 |cont=>obtain⟨m,M,J,q⟩:=q;exact⟨m,M,F J,q⟩
end
end L2
namespace Rvl
open PySem PyProof.Rows
section
variable {prog:bW3}{w:bKa}{A:bKk}{E:bWG->bWJ->Prop}{s:bWJ}
end
end Rvl
namespace L2
open PySem PySem.Spec PyProof.Rows
section
variable {X:Cx}
end
end L2
namespace Stree
open PySem PySem.W PyProof.Rows
def Asks{α:Type}(n:Nat)(lt:Nat->Nat->Bool):KasT α->(α->Prop)->Prop
 |.ret a,Q=>Q a
 |.ask i j k,Q=>i<n/\j<n/\Asks n lt (k (lt i j)) Q
theorem Asks.bind{α β:Type}{n:Nat}{lt:Nat->Nat->Bool}{f:α->KasT β}{Q:β->Prop}:∀ {t:KasT α} {R:α->Prop},Asks n lt t R->(∀a,R a->Asks n lt (f a) Q)->Asks n lt (t.bind f) Q
 |.ret a,R,h,hf=>hf a h
 |.ask i j k,R,h,hf=>⟨h.1,h.2.1,Asks.bind (t:=k (lt i j)) h.2.2 hf⟩
theorem Asks.wp{α:Type}{n:Nat}{lt:Nat->Nat->Bool}{b:Nat->Nat->(Bool->bWJ->Prop)->bWJ->Prop}{s:bWJ}{G:α->bWJ->Prop}(c:∀i j C,i<n->j<n->C (lt i j) s->b i j C s):
  ∀ {t:KasT α} {R:α->Prop},Asks n lt t R->(∀a,R a->G a s)->t.kasWp b G s
 |.ret a,R,h,hf=>hf a h
 |.ask i j k,R,h,hf=>c i j _ h.1 h.2.1 (Asks.wp c (t:=k (lt i j)) h.2.2 hf)
section
variable {n:Nat}{r:Nat->Int}{p:Array Nat}
abbrev jN(r:Nat->Int):Nat->Nat->Bool:=λi j=>decide (r i<r j)
abbrev R(r:Nat->Int)(p:Array Nat)(k:Nat):Int:=r (p.getD k 0)
structure Ok(n:Nat)(p:Array Nat):Prop where
 perm:p.toList.Perm (bWS n)
theorem Ok.size(h:Ok n p):p.size=n:=by have:=h.perm.length_eq;simpa using this
theorem Ok.lt(h:Ok n p)(h0:0<n)(k:Nat):p.getD k 0<n:=by
 by_cases a:k<p.size
 ·have:p.toList[k]'(by simpa using a)∈p.toList:=bYI _;have:=bKc.mp (h.perm.mem_iff.mp this);simpa[cQg,a]using this
 ·simpa[cQg,a]using h0
theorem Ok.ne(h:Ok n p){i j:Nat}(g:i<n)(f:j<n)(c:i≠j):p.getD i 0≠p.getD j 0:=by
 have k:=h.size;have d:p.toList.Nodup:=h.perm.nodup_iff.mpr bY0;intro e;have b:i<p.size:=by omega
 have a:j<p.size:=by omega
 simp[cQg,b,a]at e;have:=(bYo (xs:=p.toList) (h₀:=by simpa using b) (h₁:=by simpa using a) d).mp (by simpa using e);exact c this
def Inj(n:Nat)(r:Nat->Int):Prop:=∀i j,i<n->j<n->r i=r j->i=j
theorem Ok.rne(h:Ok n p)(c:Inj n r){i j:Nat}(d:i<n)(b:j<n)(a:i≠j):R r p i≠R r p j:=λe=>
 h.ne d b a (c _ _ (h.lt (by omega) i) (h.lt (by omega) j) e)
def Srt(r:Nat->Int)(p:Array Nat)(k:Nat):Prop:=∀i j,i<j->j<k->R r p i<R r p j
def Dsc(r:Nat->Int)(p:Array Nat)(k:Nat):Prop:=∀i j,i<j->j<k->R r p j<R r p i
theorem Srt.one:Srt r p 1:=λi j b a=>by omega
theorem aQp(p:Array Nat)(k:Nat):p.getD k 0=(p[k]?).getD 0:=by simp[cQg,cQe];split<;> simp_all
theorem aQ7(h:Ok n p)(hr:Inj n r):∀ (f m:Nat),1<=m->m+f<=n->Srt r p m->Asks n (jN r) (kas_asc p f m) (λm'=>m<=m'/\m'<=m+f/\Srt r p m'/\(m'<m+f->R r p m'<R r p (m' - 1)))
 |0,m,h1,h2,hs=>⟨bWN _,bWN _,hs,λz=>absurd z (by omega)⟩
 |f+1,m,h1,h2,hs=>by
  refine⟨h.lt (by omega) _,h.lt (by omega) _,?_⟩
  by_cases c:r (p.getD m 0)<r (p.getD (m - 1) 0)
  ·have e:jN r (p.getD m 0) (p.getD (m - 1) 0)=true:=decide_eq_true c
   rw[e];show Asks n (jN r) (ite _ _ _) _;rw[if_pos rfl]
   exact⟨bWN _,by omega,hs,λ_=>c⟩
  ·have e:jN r (p.getD m 0) (p.getD (m - 1) 0)=false:=decide_eq_false c
   rw[e];show Asks n (jN r) (ite _ _ _) _;rw[if_neg (by decide)]
   have hne:=h.rne hr (i:=m) (j:=m - 1) (by omega) (by omega) (by omega)
   have hlt:R r p (m - 1)<R r p m:=by
    have:¬R r p m<R r p (m - 1):=c
    omega
   have hs':Srt r p (m+1):=λi j hij hj=>by
    by_cases hjm:j<m
    ·exact hs i j hij hjm
    ·have:j=m:=by omega
     subst this
     by_cases hi:i=j - 1
     ·rw[hi];exact hlt
     ·have:=hs i (j - 1) (by omega) (by omega);omega
   have z:=aQ7 h hr f (m+1) (by omega) (by omega) hs'
   have e2:m+1+f=m+(f+1):=by omega
   rw[e2]at z
   exact Asks.mono z λm' ⟨a,b,c,d⟩=>⟨by omega,b,c,d⟩
where
 Asks.mono {α:Type} {n:Nat} {lt:Nat->Nat->Bool} {Q Q':α->Prop}:∀ {t:KasT α},Asks n lt t Q->(∀a,Q a->Q' a)->Asks n lt t Q'
  |.ret a,h,hf=>hf a h
  |.ask i j k,h,hf=>⟨h.1,h.2.1,Asks.mono (t:=k (lt i j)) h.2.2 hf⟩
theorem aWc(h:Ok n p)(q:Inj n r):∀ (f m:Nat),1<=m->m+f<=n->Dsc r p m->Asks n (jN r) (kas_desc f p m 0) (λz=>z.1=p/\z.2.2=0/\m<=z.2.1/\z.2.1<=m+f/\Dsc r p z.2.1)
 |0,m,h1,h2,hs=>⟨rfl,rfl,bWN _,bWN _,hs⟩
 |f+1,m,h1,h2,hs=>by
  refine⟨h.lt (by omega) _,h.lt (by omega) _,?_⟩;by_cases c:r (p.getD m 0)<r (p.getD (m - 1) 0)
  ·have e:jN r (p.getD m 0) (p.getD (m - 1) 0)=true:=decide_eq_true c;rw[e];show Asks n (jN r) (ite _ _ _) _;rw[if_pos rfl,if_neg (by omega)];have g:Dsc r p (m+1):=λi j o w=>by
    by_cases k:j<m
    ·exact hs i j o k
    ·have:j=m:=by omega
     subst this;have s:R r p j<R r p (j - 1):=c;by_cases v:i=j - 1
     ·rw[v];exact s
     ·have:=hs i (j - 1) (by omega) (by omega);omega
   have z:=aWc h q f (m+1) (by omega) (by omega) g;have t:m+1+f=m+(f+1):=by omega
   rw[t]at z;exact aQ7.Asks.mono z λz ⟨a,b,c,d,e⟩=>⟨a,b,by omega,d,e⟩
  ·have e:jN r (p.getD m 0) (p.getD (m - 1) 0)=false:=decide_eq_false c;rw[e];show Asks n (jN r) (ite _ _ _) _;rw[if_neg (by decide)];refine⟨h.lt (by omega) _,h.lt (by omega) _,?_⟩;have u:=h.rne q (i:=m) (j:=m - 1) (by omega) (by omega) (by omega);have l:R r p (m - 1)<R r p m:=by
    have:¬R r p m<R r p (m - 1):=c;omega
   have e:jN r (p.getD (m - 1) 0) (p.getD m 0)=true:=decide_eq_true l;rw[e];show Asks n (jN r) (ite _ _ _) _;rw[if_pos rfl];exact⟨rfl,rfl,bWN _,Nat.le_add_right _ _,hs⟩
theorem bJh{m:Nat}(b:m<=p.size)(k:Nat)(a:k<m):R r (kas_rev p 0 m) k=R r p (m - 1 - k):=by
 unfold R kas_rev;rw[aQp,aQp,getElem?_mirror_all b,if_pos ⟨bKt _,a⟩,Nat.zero_add]
theorem bXm(h:Ok n p)(m:Nat):Ok n (kas_rev p 0 m):=⟨(cXN.mp (mirror_perm p 0 m _)).trans h.perm⟩
theorem bQL(h:Ok n p)(l:Inj n r){m:Nat}(f:1<=m)(e:m<=n)(o:Dsc r p m):Asks n (jN r) (kas_tail3 m n p) (λz=>1<=z.1/\z.1<=n/\Ok n z.2/\Srt r z.2 z.1):=by
 have d:Srt r (kas_rev p 0 m) m:=λi j k g=>by rw[bJh (by rw[h.size];exact e) i (by omega),bJh (by rw[h.size];exact e) j g];exact o _ _ (by omega) (by omega)
 refine Asks.bind (aQ7 (bXm h m) l (n - m) m f (by omega) d) λm' ⟨a,b,c,_⟩=>?_;exact⟨by omega,by omega,bXm h m,c⟩
theorem aYi(h:Ok n p)(g:Inj n r)(y:1<=n):Asks n (jN r) (kas_count n p) (λz=>1<=z.1/\z.1<=n/\Ok n z.2/\Srt r z.2 z.1):=by
 refine Asks.bind (aQ7 h g (n - 1) 1 (bWN _) (by omega) Srt.one) λm ⟨a,b,c,d⟩=>?_;by_cases e:m=n
 ·rw[if_pos (by simpa using e)];exact⟨a,by omega,h,c⟩
 ·rw[if_neg (by simpa using e)];by_cases l:m > 1
  ·rw[if_pos l];refine⟨h.lt (by omega) _,h.lt (by omega) _,?_⟩;have f:R r p 0<R r p (m - 1):=c 0 (m - 1) (by omega) (by omega);have s:jN r (p.getD 0 0) (p.getD (m - 1) 0)=true:=decide_eq_true f;rw[s];show Asks n (jN r) (ite _ _ _) _;rw[if_pos rfl];exact⟨a,by omega,h,c⟩
  ·rw[if_neg l];have u:m=1:=by omega
   subst u;have x:=d (by omega);refine Asks.bind (aWc h g (n - 2) 2 (by omega) (by omega) ?_) λz ⟨z1,z2,z3,z4,z5⟩=>?_
   ·intro i j v o;have w:i=0:=by omega
    have o:j=1:=by omega
    subst w;subst o;exact x
   ·obtain⟨q,k,t⟩:=z;simp only at z1 z2 z3 z4 z5;subst z1;subst z2;rw[if_neg (by simp)];exact bQL h g (by show 1<=k;omega) (by show k<=n;omega) z5
theorem aQA(h:Ok n p)(o:Inj n r){k:Nat}(s:k<n)(b:Srt r p k):∀ (f l u:Nat),l<=u->u<=k->u - l<=f->(∀i,i<l->R r p i<R r p k)->(∀i,u<=i->i<k->R r p k<R r p i)->
  Asks n (jN r) (kas_place p k f l u) (λq=>q<=k/\(∀i,i<q->R r p i<R r p k)/\∀i,q<=i->i<k->R r p k<R r p i)
 |0,l,u,h1,h2,h3,h4,h5=>⟨by omega,h4,λi g a=>h5 i (by omega) a⟩
 |f+1,l,u,h1,h2,h3,h4,h5=>by
  unfold kas_place;by_cases c:l≥u
  ·rw[if_pos c];exact⟨by omega,h4,λi g a=>h5 i (by omega) a⟩
  ·rw[if_neg c];refine⟨h.lt (by omega) _,h.lt (by omega) _,?_⟩;have w:(l+u) / 2<u:=by omega
   have hl:l<=(l+u) / 2:=by omega
   by_cases d:r (p.getD k 0)<r (p.getD ((l+u) / 2) 0)
   ·have e:jN r (p.getD k 0) (p.getD ((l+u) / 2) 0)=true:=decide_eq_true d;rw[e];show Asks n (jN r) (ite _ _ _) _;rw[if_pos rfl];refine aQA h o s b f l _ hl (by omega) (by omega) h4 λi g a=>?_;have t:R r p k<R r p ((l+u) / 2):=d;by_cases m:i=(l+u) / 2
    ·rw[m];exact t
    ·have:=b ((l+u) / 2) i (by omega) a;omega
   ·have e:jN r (p.getD k 0) (p.getD ((l+u) / 2) 0)=false:=decide_eq_false d;rw[e];show Asks n (jN r) (ite _ _ _) _;rw[if_neg (by decide)];have t:¬R r p k<R r p ((l+u) / 2):=d;have v:=h.rne o (i:=k) (j:=(l+u) / 2) (by omega) (by omega) (by omega);refine aQA h o s b f _ u (by omega) h2 (by omega) (λi g=>?_) h5;by_cases m:i=(l+u) / 2
    ·rw[m];omega
    ·have:=b i ((l+u) / 2) (by omega) (by omega);omega
theorem bJg{k l:Nat}(h:k<p.size)(hl:l<=k)(i:Nat):R r (bubble p k (k - l)) i=if i=l then R r p k else if l<i/\i<=k then R r p (i - 1)else R r p i:=by
 have e:=getElem?_bubble h (k - l) (by omega) i;rw[show k - (k - l)=l by omega]at e;have d:∀q:Array Nat,∀a b:Nat,∀c:Array Nat,q[a]? =c[b]? ->R r q a=R r c b:=λq a b c z=>by unfold R;rw[aQp,aQp,z]
 by_cases f:i=l
 ·rw[if_pos f]at e ⊢;exact d _ _ _ _ e
 ·rw[if_neg f]at e ⊢;by_cases g:l<i/\i<=k
  ·rw[if_pos g]at e ⊢;exact d _ _ _ _ e
  ·rw[if_neg g]at e ⊢;exact d _ _ _ _ e
theorem bQ1(g:Inj n r):∀ (f k:Nat)(p:Array Nat),Ok n p->k+f=n->Srt r p k->Asks n (jN r) (kas_bin f p k) (λs=>Ok n s/\Srt r s n)
 |0,k,p,h,e,hs=>⟨h,by rw[<- e];exact hs⟩
 |f+1,k,p,h,e,hs=>by
  refine Asks.bind (aQA h g (k:=k) (by omega) hs k 0 k (by omega) (bWN _) (by omega) (λi q=>absurd q (by omega)) (λi q b=>absurd b (by omega))) λl ⟨h1,h2,h3⟩=>?_;refine bQ1 g f (k+1) _ ⟨(cXN.mp (bubble_perm p k _)).trans h.perm⟩ (by omega) λi j t u=>?_;have d:k<p.size:=by rw[h.size];omega
  rw[bJg d h1,bJg d h1];by_cases m:i=l
  ·rw[if_pos m];by_cases a:j=l
   ·omega
   ·rw[if_neg a,if_pos ⟨by omega,by omega⟩];exact h3 _ (by omega) (by omega)
  ·rw[if_neg m];by_cases a:j=l
   ·rw[if_pos a,if_neg (by omega)];exact h2 i (by omega)
   ·rw[if_neg a];by_cases c:l<i/\i<=k
    ·rw[if_pos c,if_pos ⟨by omega,by omega⟩];exact hs _ _ (by omega) (by omega)
    ·rw[if_neg c];by_cases o:l<j/\j<=k
     ·rw[if_pos o];by_cases cl:i=j - 1
      ·omega
      ·exact hs _ _ (by omega) (by omega)
     ·rw[if_neg o];exact hs _ _ (by omega) (by omega)
theorem bZW(a:Inj n r)(b:1<=n):Asks n (jN r) (kas_sort n) (λp=>Ok n p/\Srt r p n):=by
 have h0:Ok n (bKO (bWS n)):=⟨by simp⟩;refine Asks.bind (aYi h0 a b) λz ⟨h1,h2,h3,h4⟩=>?_;by_cases c:z.1<n
 ·rw[if_pos c,Nat.max_eq_left h1];exact bQ1 a _ _ _ h3 (by omega) h4
 ·rw[if_neg c];exact⟨h3,by rw[show n=z.1 by omega];exact h4⟩
theorem aXU(e:Inj n r)(d:1<=n):Asks n (jN r) (kas_sort n) (λp=>p.toList.Perm (bWS n)/\p.toList.Pairwise (λi j=>r i<r j)):=by
 refine aQ7.Asks.mono (bZW e d) λp ⟨h1,h2⟩=>⟨h1.perm,?_⟩;rw[bYM];intro i j g f c;have b:i<p.size:=by simpa using g
 have a:j<p.size:=by simpa using f
 have z:=h2 i j c (by rw[<- h1.size];exact a);simpa[R,cQg,b,a]using z
end
end Stree
namespace Stree
open PySem PySem.W PySem.Calls PyProof.Rows
section
variable {prog:bW3}{w:bKa}{A:bKk}{E:bWG->bWJ->Prop}
theorem aXl{f:bWG}{vs:List bWG}{kS:Nat}{J:List bWG->bWJ->Prop}{body:bWG->PUnit->Sem (ForInStep PUnit)}
  (d:∀ks s v,J ks s->vs[ks.length]? =some v->bWO (bWQ prog w) A (body v ⟨⟩) (λr a=>r= .yield ⟨⟩/\∃k,J (ks++ [k]) a) E s):
  ∀ (r ks:List bWG)(s:bWJ),vs.drop ks.length=r->ks.length<=vs.length->J ks s->bWO (bWQ prog w) A (forIn r PUnit.unit body) (λ_ a=>∃ks,ks.length=vs.length/\J ks a) E s
 |[],ks,s,hr,hle,hJ=>by rw[List.forIn_nil];refine bWM ⟨ks,?_,hJ⟩;have:=congrArg List.length hr;rw[bYu]at this;simp at this;omega
 |v::r,ks,s,hr,hle,hJ=>by
  rw[cXr];have c:vs[ks.length]? =some v:=by have:=congrArg (λl=>l[0]?) hr;simpa using this
  have g:ks.length<vs.length:=by
   rcases cQ6 ks.length vs.length with h|h
   ·exact h
   ·rw[bKf h]at c;cases c
  refine bWH (bKE (d ks s v hJ c) (λq a e=>?_) λ_ _ x=>x);obtain⟨rfl,k,b⟩:=e;show bWO (bWQ prog w) A (forIn r PUnit.unit body) _ E a;refine aXl (kS:=kS) (f:=f) d r (ks++ [k]) a ?_ (by rw[bWW,bKY];omega) b;rw[bWW,bKY,List.drop_add_one_eq_tail_drop,hr];rfl
theorem bVa{s:bWJ}{a:Nat}{vs:List bWG}{f:bWG}{b:Bool}{P:PySem.Fin->bWJ->Prop}{n0:Nat}(X:s.heap.get? a=some (bKr "list" vs.toArray n0))(a8:vs.length<64)(J:Nat->List bWG->bWJ->Prop) (h0:∀n q,(∀c o,c≠a->s.heap.get? c=some o->q.get? c=some o)->q.get? a=some (bKr "list" #[] n)->q.get? (s.heap.objs.size+1)=some (bKr "list" #[] 0)->J n [] {s with heap:=q}) (hget:∀n g l,J n g l->(∃e,l.heap.get? (s.heap.objs.size+1)=some (bKr "list" g.toArray e))/\l.heap.get? a=some (bKr "list" #[] n)) (hcall:∀n g l v,J n g l->vs[g.length]? =some v->bWO (bWQ prog w) A (call f [v]) (λk m=>(∃e,m.heap.get? (s.heap.objs.size+1)=some (bKr "list" g.toArray e))/\ ∀q c,bYt (s.heap.objs.size+1) m.heap q->q.get? (s.heap.objs.size+1)=some (bKr "list" (g++ [k]).toArray c)->J n (g++ [k]) {m with heap:=q}) (λ_ _=>False) l) (hend:∀n g l,J n g l->g.length=vs.length->∃r:Nat->Int,Inj vs.length r/\ (2<=vs.length->∃κ,(∀Q:SortKind->bWJ->Prop,Q κ l->bWO (bWQ prog w) A (keyKind' g.toArray) Q (λ_ _=>False) l)/\∀i j C,i<vs.length->j<vs.length->C (decide (r i<r j)) l->kas_ask prog w A κ (katRev b g) i j C l)/\ ∀ (p:List Nat) q c y,p.Perm (bWS vs.length)->p.Pairwise (λi j=>r i<r j)->(∀d,d≠a->d≠s.heap.objs.size+1->q.get? d=l.heap.get? d)->q.get? (s.heap.objs.size+1)=some (bKr "list" #[] c)-> q.get? a=some (bKr "list" (katRev b (p.map λi=>(katRev b vs).getD i Value.none)).toArray y)->P (.done (.ret .none)) {l with heap:=q}): bWO (bWQ prog w) A (ksk_tree a f b) P E s:=by
 have ha:a<s.heap.objs.size:=bWT X;have O:a≠s.heap.objs.size+1:=bW9 (bKT ha);obtain⟨n,T⟩:∃n,(s.heap.update a (bKu λ_=>(#[]:Array bWG))).get? a=some (bKr "list" #[] n):=⟨_,cQx X λ_=> #[]⟩;have R:((s.heap.update a (bKu λ_=>(#[]:Array bWG))).push (bKr "tuple" vs.toArray 0)).objs.size=s.heap.objs.size+1:=by rw[size_push',Heap.size_update]
 unfold ksk_tree;refine bWH (listItems_at X rfl ?_);refine bWH (cQT X rfl ?_ (by rw[bWZ,bKg];omega) (bKt _));refine bWH (seqEpoch_at T rfl ?_);refine bWH (wpAny_newTuple ?_ (by show vs.length<=_;rw[bKg];omega));refine bWH (cQW ?_ (bKt _));refine bKJ ?_;have J0:=h0 n (((s.heap.update a (bKu λ_=>(#[]:Array bWG))).push (bKr "tuple" vs.toArray 0)).push (bKr "list" #[] 0))
  (λc o hc e=>bWL _ (bWL _ ((bKe _ _ (bKl hc)).trans e)))
  (bWL _ (bWL _ T)) (by rw[<- R];exact bW4 _ rfl)
 show bWO _ _ (ksk_rest a f b vs.toArray n (.ref ((s.heap.update a (bKu λ_=>(#[]:Array bWG))).push (bKr "tuple" vs.toArray 0)).objs.size)) _ _ _;rw[R];unfold ksk_rest;refine bWH (wpAny_rule ?_);first
  |rw[List.forIn_toArray]
  |(rw[<- Array.forIn_toList];simp only[cXx])
  |rw[<- Array.forIn_toList]
 refine bWH (bKE (aXl (f:=f) (kS:=s.heap.objs.size+1) (J:=J n) (vs:=vs) (λg l v Y hv=>?_) vs [] _ (by simp) (bKt _) J0) (λ_ l hd=>?_) λ_ _ x=>x)
 ·have b1:g.length<vs.length:=by
   rcases cQ6 g.length vs.length with h|h
   ·exact h
   ·rw[bKf h]at hv;cases hv
  refine bWH (cQV (bKE (hcall n g l v Y hv) (λk m hk=>?_) λ_ _ hF=>hF.elim));obtain⟨⟨e,nk⟩,c⟩:=hk;have s1:=bYa m.heap (s.heap.objs.size+1) (bKu (·.push k));have ea:(bKO g).push k=bKO (g++ [k]):=by simp
  obtain⟨y,I⟩:∃y,(m.heap.update (s.heap.objs.size+1) (bKu (·.push k))).get? (s.heap.objs.size+1)=some (bKr "list" (bKO (g++ [k])) y):=⟨_,by rw[<- ea];exact cQx nk (·.push k)⟩;try dsimp only
  refine bWH (cQT nk rfl ?_ (by rw[bWZ,bKg];omega) (bKh (bY5 (Array.size_push ..)) (by rw[bWZ,bKg];omega)));exact bWM ⟨rfl,k,c _ y s1 I⟩
 ·obtain⟨g,hl,Y⟩:=hd;obtain⟨⟨e,F⟩,a7⟩:=hget n g l Y;try dsimp only
  refine bWH (listItems_at F rfl ?_);obtain⟨r,hr,S,M⟩:=hend n g l Y hl;have step:∀t:Sem PySem.Fin,bWO (bWQ prog w) A t P E l->bWO (bWQ prog w) A (if b=true then(do let _ <- rule "list.sort.reverse";t)else t) P E l:=by
   intro t ht;split
   ·exact bWH (wpAny_rule ht)
   ·exact ht
  have K:(katRev b g).length=(katRev b vs).length:=by rw[kat_len,kat_len,hl]
  have D:∀ (Z:SortSt)(p:List Nat),p.Perm (bWS vs.length)->p.Pairwise (λi j=>r i<r j)->(arrOf Z).map (·.2)=bKO (p.map λi=>(katRev b vs).getD i Value.none)->failedOf Z=none->
    bWO (bWQ prog w) A (ksk_tail a b n (.ref (s.heap.objs.size+1)) Z) P E l:=by
   intro Z p z G N hf
   have a5:p.length=vs.length:=by rw[z.length_eq,bKo]
   obtain⟨ck,b0⟩:∃ck,(l.heap.update (s.heap.objs.size+1) (bKu λ_=>(#[]:Array bWG))).get? (s.heap.objs.size+1)=some (bKr "list" #[] ck):=⟨_,cQx F λ_=> #[]⟩
   have na:(l.heap.update (s.heap.objs.size+1) (bKu λ_=>(#[]:Array bWG))).get? a=some (bKr "list" #[] n):=(bKe _ _ (bKl O)).trans a7
   obtain⟨y,I⟩:∃y,((l.heap.update (s.heap.objs.size+1) (bKu λ_=>(#[]:Array bWG))).update a (bKu λ_=>bKO (katRev b (p.map λi=>(katRev b vs).getD i Value.none)))).get? a=some (bKr "list" (bKO (katRev b (p.map λi=>(katRev b vs).getD i Value.none))) y):=
    ⟨_,cQx na λ_=>bKO (katRev b (p.map λi=>(katRev b vs).getD i Value.none))⟩
   have a0:(bKO (katRev b (p.map λi=>(katRev b vs).getD i Value.none))).size=vs.length:=by rw[bWZ,kat_len,bWK,a5]
   unfold ksk_tail
   try dsimp only
   rw[N,kat_outs]
   refine bWH (cQT F rfl ?_ (by rw[bWZ,bKg];omega) (bKt _))
   refine bWH (wpAny_letGo ?_)
   refine bWH (seqEpoch_at na rfl ?_)
   refine bWH (cQT na rfl ?_ (bKt _) (bKh (bY5 a0) (by rw[bKg];omega)))
   rw[hf]
   simp only[bne_self_eq_false,Bool.false_eq_true,if_false]
   refine bWM (M p _ ck y z G (λd h1 u=>?_) ?_ I)
   ·exact(bKe _ _ (bKl h1)).trans (bKe _ _ (bKl u))
   ·exact(bKe _ _ O).trans b0
  unfold ksk_end;try dsimp only
  refine step _ ?_;rw[kat_pairs b hl];by_cases u:vs.toArray.size<2
  ·rw[if_pos u,if_pos u];refine bWH (bWM ?_);refine bWH (bWM ?_);have H:vs.length<2:=by rw[bWZ]at u;exact u
   refine D _ (bWS vs.length) (List.Perm.refl _) ?_ ?_ rfl
   ·rw[bYM];intro i j W hj b2;rw[bKo]at W hj;omega
   ·show((bKO (katRev b g)).zip (bKO (katRev b vs))).map (·.2)=_;apply Array.toList_inj.mp;rw[Array.toList_map,Array.toList_zip];simp only[cXx];have n:(cQ5 (katRev b g) (katRev b vs)).map (·.2)=katRev b vs:=List.map_snd_zip (bY5 K.symm);rw[n];apply bYU;intro i;rw[bWY];by_cases W:i<vs.length
    ·have L:i<(katRev b vs).length:=by rw[kat_len];exact W
     rw[bYb W];simp[bKC,bWF L]
    ·have L:(katRev b vs).length<=i:=by rw[kat_len];omega
     rw[bKf L,bKf (by rw[bKo];omega)];rfl
  ·have H:2<=vs.length:=by rw[bWZ]at u;omega
   rw[if_neg u,if_neg u];obtain⟨κ,hκ,V⟩:=S H;refine bWH (bKE (hκ (λk m=>k=κ/\m=l) ⟨rfl,rfl⟩) (λk m hq=>?_) λ_ _ x=>x.elim);obtain⟨rfl,rfl⟩:=hq;have a6:(kas_sort (katRev b vs).length).kasWp (kas_ask prog w A k (katRev b g)) (λp U=>U=m/\p.toList.Perm (bWS vs.length)/\p.toList.Pairwise (λi j=>r i<r j)) m:=by rw[kat_len];exact Asks.wp (lt:=jN r) V (aXU hr (by omega)) λp hp=>⟨rfl,hp⟩
   refine bWH (bKE (kat_run (Q:=λB U=>∃p:Array Nat,arrOf B=p.map (kas_item ((bKO (katRev b g)).zip (bKO (katRev b vs))))/\failedOf B=none/\
     U=m/\p.toList.Perm (bWS vs.length)/\p.toList.Pairwise (λi j=>r i<r j))
    K (by rw[kat_len];exact H) (by rw[kat_len];exact a8) (λp' B U a1 a2 a3 a4=>⟨p',a2,a3,a4⟩) a6) ?_ λ_ _ x=>x)
   rintro⟨⟨⟩,B⟩ U ⟨p,a9,hf,rfl,z,G⟩;try dsimp only
   exact D _ p.toList z G (kat_snds K a9) hf
end
end Stree
namespace L2
open PySem PySem.Spec PyProof.Rows
abbrev bVs(X:Cx)(A:bKk)(N:List Str)(qual:Str)(sc:bYS)(L q:Nat)(cd:bWG)(cl:List (Str×Nat))(s:bWJ)(H:Hp):Cx:=
 {X with A:=A.deeper (PySem.W.envX qual sc L q cd cl),N:=N,s₀:=s,H₀:=H,env:=PySem.W.envX qual sc L q cd cl,outer:=X.stack,stack:=PySem.W.envX qual sc L q cd cl::X.stack,ex:= [],fn:=λ_=>false,calm:=true,pn:= [],xe:=λ_ _=>False}
section
variable {X:Cx}{pins:List (Nat×Obj)}{σ:St}{H:Hp}{s:bWJ}
theorem aYD{A:bKk}{x:Str}{names:List Str}{M:List Nat}{f:bYS}{cl:List (Str×Nat)}{name qual:Str}{d:Arguments}{body:Expr}{pm R:bWG}{q t:Nat}{te:TE}{v:V}{u:bWG}{Q:VK} (I:Inv X pins σ H s) (hA:A.frames=some X.stack) (hd:A.handled=none) (F:A.depth<recursionLimit) (S:y9 X.N X.env.scope x names M f) (a1:f.isCoroutine=false) (P:f.isGenerator=false) (a:∀y c,cl.lookup y=some c->X.env.cells.lookup y=some c) (C:∀y,(y,NameKind.free)∈f.names->∃c,cl.lookup y=some c) (ho:s.heap.get? q=some (bYR name qual d body f cl pm t R)) (a3:s.heap.CodeRec (.ref t) qual) (K:∀u:bWG,cQo (PySem.W.kla_fn name qual d body f cl pm (.ref t) R) ⟨[u],[]⟩=pure [(x,u)]) (he:∀A L cd s H,PE (bVs X A (x::names) qual f L q cd cl s H) body te) (r:xZ v u) (h:te (sub σ M (some v)) H Q): bWO (bWQ X.prog X.w) A (call (.ref q) [u]) (EP X pins σ Q) (λ_ _=>False) s:=by
 have a0:bYV (bWQ X.prog X.w) A (.call (.ref q) ⟨[u],[]⟩) (λr s'=>match r with|.ok (.ret u)=>EP X pins σ Q u s'|_=>False) s:=by
  refine PySem.W.kla_callFunE F ho rfl a1 P rfl a3 ?_;rw[K u];refine bWM (wpAny_newFunctionEnv S.nocell (λy hy=>by rw[bW8.mp hy];exact S.var) (λB a5 a2=>?_) S.kind);have keep:∀b o,s.heap.get? b=some o->B.get? b=some o:=λb o e=>a2.extBut b o (bW9 (bWT e)) (bWL _ e);refine⟨I.nolimit.keeps keep,?_⟩;show bYV _ _ (.expr body (PySem.W.envX qual f s.heap.objs.size q (.ref t) cl)) _ _;have a4:(bVs X A (x::names) qual f s.heap.objs.size q (.ref t) cl s H).Ok:=by
   refine⟨I.ok.mod,S.kind,rfl,rfl,bWN _,?_,?_,?_,λ_=>hd,Around.frames_deeper hA,.inr ⟨rfl,rfl⟩,?_,I.bs,bKh I.ok.bsz I.sz,?_,?_,I.stack,I.stkFree⟩
   ·exact λy z c Z T=>I.ok.inj y z c (a y c Z) (a z c T)
   ·intro y hy;have g:f.names.lookup y=some .cell\/f.names.lookup y=some .free:=hy;rcases g with g|g
    ·exact absurd rfl (S.nocell _ (bYc g))
    ·exact C y (bYc g)
   ·exact λy c h _=>by cases h
   ·exact λb K=>absurd (show b∈([]:List Nat)from K) (by simp)
   ·exact λb o _ K=>absurd (show b∈([]:List Nat)from K) (by simp)
   ·exact λb K=>absurd (show b∈([]:List Nat)from K) (by simp)
  have IY:Inv (bVs X A (x::names) qual f s.heap.objs.size q (.ref t) cl s H) [] (sub σ M (some v)) H {s with heap:=B,toks:=s.toks+ [(x,u)].length}:=by
   refine⟨a4,rfl,I.bare,Un.kept keep,⟨_,a5,?_⟩,?_,I.hok.fresh (bWN _),λy c e=>I.freeC y c (a y c e),λp hp=>absurd (show p∈([]:List (Nat×Obj))from hp) (by simp),I.hok.kept keep,?_⟩
   ·intro i y n Z T h3;cases i with
    |zero=>
     have E:x=y:=by simpa using Z
     have G:v=n:=by have z:(some (some v):Option (Option V))=some (some n):=T;cases z;rfl
     subst E;subst G;exact⟨u,r,.inl ⟨S.var,by simp[bY2]⟩⟩
    |succ j=>
     have E:names[j]? =some y:=Z;obtain⟨Y,e1,e2,U⟩:=S.from_ j y E;have G:σ[Y]? =some (some n):=by
      have z:(M.map λi=>(σ[i]?).join)[j]? =some (some n):=T;rw[bWY,e1]at z;have l:(σ[Y]?).join=some n:=bWX z;cases q:σ[Y]? with
      |none=>rw[q]at l;cases l
      |some o=>rw[q]at l;rw[show o=some n from l]
     obtain⟨m,hn,hl⟩:=I.loc;have O:Vis X.env.scope y:= .inr (S.free _ U rfl);obtain⟨u',ru,lk⟩:=hl Y y n e2 G O;refine⟨u',ru,.inr ⟨?_,?_⟩⟩
     ·exact .inr (S.flk _ U rfl)
     ·rcases lk with⟨k,_⟩|⟨k,c,e,z⟩
      ·rcases S.free _ U rfl with z|z
       ·have l:X.env.kindOf y=some .cell:=z;rw[k]at l;cases l
       ·have l:X.env.kindOf y=some .free:=z;rw[k]at l;cases l
      ·obtain⟨t,e'⟩:=C y U;have:=a y t e';rw[e]at this;cases this;exact⟨c,e',z.keeps keep⟩
   ·intro y c e;obtain⟨v,z⟩:=I.cell y c (a y c e);exact⟨v,z.keeps keep⟩
   ·show(sub σ M (some v)).length=(x::names).length;simp[sub,S.len]
  refine PySem.W.kla_codeExpr (bKE (he A s.heap.objs.size (.ref t) s H [] _ (sub σ M (some v)) H Q IY h) (λw s' D=>?_) (λ_ _ z=>z.elim));obtain⟨n,H',J,rv,q⟩:=D;exact I.after ⟨n,H',J.os,J.bare,J.base,J.hok,rv,q⟩
 refine cQQ (bYx a0 λr s' D=>?_);cases r with
 |error e=>exact D
 |ok fl=>
  cases fl with
  |ret u=>exact D
  |next=>exact D
  |brk=>exact D
  |cont=>exact D
end
end L2
namespace L2
open PySem PySem.Spec PyProof.Rows
def aV3(c:Nat)(qual:Str):HO:= .ext λh=>h.CodeRec (.ref c) qual
def bJB(q:Nat)(o:Obj):HO:= .ext λh=>h.get? q=some o
theorem aYh{P:bW3}{w:bKa}{H:Hp}{h:Heap}{c:Nat}{qual:Str}(r:h.CodeRec (.ref c) qual):x5 P w H h c (aV3 c qual):=by
 obtain⟨p,o,s,t,e,b,f,n⟩:=id r;cases e;refine⟨r,⟨o,b⟩,λb f z k=>?_⟩;obtain⟨q,g,a,m,i,d,j,l⟩:=z;cases i;exact⟨_,g,a,m,rfl,k _ d,j,l⟩
theorem aWN{P:bW3}{w:bKa}{H:Hp}{h:Heap}{q:Nat}{o:Obj}(r:h.get? q=some o):x5 P w H h q (bJB q o):=⟨r,⟨o,r⟩,λa b z k=>k _ z⟩
def u6(pos:Pos)(qual:Str)(P:Nat)(H:Hp):Prop:=
 H P=some (.tbl #[])\/∃a,H P=some (.tbl (#[]++ #[bKZ pos.line,bKZ pos.col,.ref a]))/\H a=some (aV3 a qual)
def xO(H a:Hp):Prop:=∀b o,(∀c,o≠ .tbl c)->H b=some o->a b=some o
theorem xV.t{H a:Hp}(k:xV H a):xO H a:=λb o _ e=>k b o e
theorem xO.refl(H:Hp):xO H H:=λ_ _ _ e=>e
theorem xO.trans{H d f:Hp}(a:xO H d)(b:xO d f):xO H f:=λc o n e=>b c o n (a c o n e)
theorem xO.lst{H b:Hp}(k:xO H b){a:Nat}{xs:List V}(h:H a=some (.lst xs)):b a=some (.lst xs):=k a _ (λ_ z=>nomatch z) h
theorem xO.tup{H b:Hp}(k:xO H b){a:Nat}{xs:List V}(h:H a=some (.tup xs)):b a=some (.tup xs):=k a _ (λ_ z=>nomatch z) h
theorem xO.ext{H b:Hp}(k:xO H b){a:Nat}{φ:Heap->Prop}(h:H a=some (.ext φ)):b a=some (.ext φ):=k a _ (λ_ z=>nomatch z) h
theorem xO.seq{K:bWI}{H b:Hp}{a:Nat}{xs:List V}(k:xO H b)(h:SqL K H a xs):SqL K b a xs:=by
 rcases h with h|h
 ·rcases h with h|⟨o,h⟩
  ·exact .inl (.inl (k.lst h))
  ·exact .inl (.inr ⟨o,k a _ (λ_ z=>nomatch z) h⟩)
 ·exact .inr h
theorem aZS:PySem.TriplesOk (#[]:Array bWG).toList:=trivial
theorem aZT{a b:Int}{v:bWG}:PySem.TriplesOk ((#[]++ #[bKZ a,bKZ b,v]:Array bWG)).toList:=trivial
theorem aVV{pos:Pos}{v:bWG}:codeAmong pos ((#[]++ #[bKZ pos.line,bKZ pos.col,v]:Array bWG)).toList=some v:=by
 show(if((pos.line:Int)==pos.line && (pos.col:Int)==pos.col)=true then some v else _)=some v;simp
section
variable {X:Cx}{pins:List (Nat×Obj)}{σ:St}{H:Hp}{s:bWJ}
theorem Inv.tab{P:Nat}{d more:Array bWG}{h':Heap}{t':Nat}(I:Inv X pins σ H s)(g:H P=some (.tbl d))(f:cQY P s.heap h')(j:h'.get? P=some {cls:= .none,data:= .fields (d++more) }): Inv X pins σ (upd H P (.tbl (d++more))) {s with heap:=h',toks:=t'}:=by
 have h:∀b,H b=none->b≠P:=λb n z=>by rw[z,g]at n;cases n
 have ne:∀b o,H b=some o->(∀d,o≠ .tbl d)->b≠P:=λb o e n z=>by subst z;rw[g]at e;cases e;exact n _ rfl
 refine I.un (t':=t') ⟨λb o e n _ _=>f b o (h b n) e,λb o e n _ _=>⟨o.slots,f b o (h b n) e⟩,λb o e n _=>by rw[yH (h b n)];exact n,λb o e _=>?_,λb k e=>?_,λb o u e=>?_,λb l e=>?_⟩ λb u e=>?_
 ·by_cases a:b=P
  ·exact⟨_,by rw[a];exact j⟩
  ·exact⟨o,f b o a e⟩
 ·rw[yH (ne b _ e λ_ z=>nomatch z)];exact e
 ·rw[yH (ne b _ e λ_ z=>nomatch z)];exact e
 ·by_cases a:b=P
  ·subst a;rw[g]at e;cases e;exact⟨more,yB⟩
  ·exact⟨#[],by rw[yH a,e];simp⟩
 ·by_cases a:b=P
  ·subst a;rw[yB]at e;cases e;exact j
  ·rw[yH a]at e;refine(I.hok b u e).stay (λc v i q=>f c v ?_ q) (λc q=>?_) λc k q=>?_
   ·rcases i with rfl|i
    ·exact a
    ·exact ne c _ i λ_ z=>nomatch z
   ·rw[yH (ne c _ q λ_ z=>nomatch z)];exact q
   ·rw[yH (ne c _ q λ_ z=>nomatch z)];exact q
theorem aYE{name qual:Str}{d:Arguments}{body:Expr}{r:bYS}{c P:Nat}{pos:Pos}{fl:Nat}{cl:List (Str×Nat)}{E:bWG->bWJ->Prop}{Q:bWG->bWJ->Prop}(I:Inv X pins σ H s)(R:closureFor r X.env=pure cl)(j:X.env.code= .ref c) (C:bYK X.base c P) (hB:X.base.BuiltinsAt X.mg P) (hT:u6 pos qual P H) (hq:∀ (q f:Nat)(g:bWG)(G:Hp)(s':bWJ),Inv X pins σ G s'->H q=none->G q=some (bJB q (bYR name qual d body r cl ((X.mg "__name__").getD .none) f g))->G f=some (aV3 f qual)->u6 pos qual P G->xO H G->Q (.ref q) s'): bWO (bWQ X.prog X.w) X.A (makeFunction name qual d (.expr body) r X.env [] [] [] pos fl) Q E s:=by
 have V:s.heap.Ns bKd X.mg:=I.ok.mod.glob.keeps I.bk;have hC:=C.keeps I.bk;obtain⟨bm,ob,b1,b2,b3,b4,b5,b6⟩:=hB;have M:s.heap.BuiltinsAt X.mg P:=⟨bm,ob,b1,b2,b3,b4,I.bk _ _ b5,b6⟩;rcases hT with p|⟨f,p,B⟩
 ·have i:s.heap.get? P=some (cQi #[]):=I.hok P _ p;have a0:bKd≠P:=λz=>by
   obtain⟨o,es,ep,e,hd,_⟩:=V;rw[z,i]at e;cases e;cases hd
  refine PySem.W.kla_makeFunction (mg:=X.mg) R I.ok.glob V j hC i aZS rfl a0 M λf g h tk K l F O y=>?_;have S:=I.tab (t':=tk) p K y;have x:P≠f:=bW9 (bW6 (bWT i) l);have nc:H f=none:=I.hok.fresh l;have D:upd H P (.tbl (#[]++ #[bKZ pos.line,bKZ pos.col,.ref f])) f=none:=by rw[yH (bKl x)];exact nc
  have I2:Inv X pins σ (upd (upd H P (.tbl (#[]++ #[bKZ pos.line,bKZ pos.col,.ref f]))) f (aV3 f qual)) {s with heap:=h,toks:=tk}:=by
   have a2:cQY P s.heap h:=K;have nP:∀b,H b=none->b≠P:=λb n z=>by rw[z,p]at n;cases n
   have ne:∀b o,H b=some o->(∀ps,o≠ .tbl ps)->b≠P:=λb o e n z=>by subst z;rw[p]at e;cases e;exact n _ rfl
   have a1:∀b o,s.heap.get? b=some o->b≠f:=λb o e=>bW9 (bW6 (bWT e) l);have T:∀b,b≠P->b≠f->upd (upd H P (.tbl (#[]++ #[bKZ pos.line,bKZ pos.col,.ref f]))) f (aV3 f qual) b=H b:=λb Z h2=>by rw[yH h2,yH Z]
   have hl:∀b u,H b=some u->b≠f:=λb u e=>yE e nc;refine I.un (t':=tk) ⟨λb o e n _ _=>K b o (nP b n) e,λb o e n _ _=>⟨o.slots,K b o (nP b n) e⟩,λb o e n _=>by rw[T b (nP b n) (a1 b o e)];exact n,λb o e _=>?_,λb xs e=>?_,λb o u e=>?_,λb qs e=>?_⟩ λb u e=>?_
   ·by_cases N:b=P
    ·exact⟨_,by rw[N];exact y⟩
    ·exact⟨o,K b o N e⟩
   ·rw[T b (ne b _ e λ_ z=>nomatch z) (hl b _ e)];exact e
   ·rw[T b (ne b _ e λ_ z=>nomatch z) (hl b _ e)];exact e
   ·by_cases N:b=P
    ·subst N;rw[p]at e;cases e;exact⟨_,by rw[yH x];exact yB⟩
    ·exact⟨#[],by rw[T b N (hl b _ e),e];simp⟩
   ·by_cases J:b=f
    ·subst J;rw[yB]at e;cases e;exact aYh O
    ·rw[yH J]at e;refine(S.hok b u e).stay (λc v _ q=>q) (λc q=>?_) λc xs q=>?_
     ·rw[yH (yE q D)];exact q
     ·rw[yH (yE q D)];exact q
  have m:H h.objs.size=none:=I.hok.fresh (bKh l (bY6 F));have Y:=I2.laid (a:=h.objs.size) (o:=bJB h.objs.size (bYR name qual d body r cl ((X.mg "__name__").getD .none) f g)) (t':=tk) (h':=h.push (bYR name qual d body r cl ((X.mg "__name__").getD .none) f g))
   (λb o e=>bWL _ e) (bWN _) (aWN (bW4 _ rfl))
  have L:f≠h.objs.size:=bW9 F;have U:P≠h.objs.size:=bW9 (bWT y);refine hq h.objs.size f g _ _ Y m yB (by rw[yH L];exact yB) (.inr ⟨f,by rw[yH U,yH x];exact yB,by rw[yH L];exact yB⟩) λb o n e=>?_;have Z:b≠P:=λz=>by subst z;rw[p]at e;cases e;exact n _ rfl
  rw[yH (yE e m),yH (yE e nc),yH Z];exact e
 ·have i:s.heap.get? P=some (cQi (#[]++ #[bKZ pos.line,bKZ pos.col,.ref f])):=I.hok P _ p;refine PySem.W.kla_makeFunctionHit (mg:=X.mg) R I.ok.glob V j hC i aZT aVV M λg h tk hk l=>?_;have S:Inv X pins σ H {s with heap:=h,toks:=tk}:=I.kept hk;have m:H h.objs.size=none:=S.hok.fresh (bWN _);have Y:=S.laid (a:=h.objs.size) (o:=bJB h.objs.size (bYR name qual d body r cl ((X.mg "__name__").getD .none) f g)) (t':=tk) (h':=h.push (bYR name qual d body r cl ((X.mg "__name__").getD .none) f g))
   (λb o e=>bWL _ e) (bWN _) (aWN (bW4 _ rfl))
  have k:=yI m (bJB h.objs.size (bYR name qual d body r cl ((X.mg "__name__").getD .none) f g));exact hq h.objs.size f g _ _ Y m yB (k _ _ B) (.inr ⟨f,k _ _ p,k _ _ B⟩) k.t
end
end L2
namespace Stree
open PySem PySem.W PySem.Calls PyProof.Rows
theorem qJ{α:Type}(p q:α->Bool):∀ (l:List α),(∀a∈l,p a=true->q a=true)->(∃a∈l,p a=false/\q a=true)->l.countP p<l.countP q
 |[],_,h=>by obtain⟨a,b,_⟩:=h;cases b
 |x::r,hs,h=>by
  have e:r.countP p<=r.countP q:=List.countP_mono_left λa b=>hs a (bWR _ b);obtain⟨a,b,c,d⟩:=h;rcases bWU.mp b with rfl|b
  ·rw[cXk,cXk,c,d];simp;omega
  ·have g:=qJ p q r (λa b=>hs a (bWR _ b)) ⟨a,b,c,d⟩;rw[cXk,cXk];have:=hs x bWV;cases f:p x with
   |false=>cases q x<;> simp<;> omega
   |true=>rw[this f];simp;omega
theorem aKa{n:Nat}(lt:Nat->Nat->Bool)(f:∀i,i<n->lt i i=false)(p:∀i j k,i<n->j<n->k<n->lt i j=true->lt j k=true->lt i k=true)(g:∀i j,i<n->j<n->i≠j->lt i j=true\/lt j i=true): ∃r:Nat->Int,Inj n r/\∀i j,i<n->j<n->decide (r i<r j)=lt i j:=by
 refine⟨λi=>((bWS n).countP λm=>lt m i:Nat),?_,?_⟩
 ·have up:∀i j,i<n->j<n->lt i j=true->((bWS n).countP λm=>lt m i)<((bWS n).countP λm=>lt m j):=λi j a c h=>
   qJ _ _ _ (λm o d=>p m i j (bKc.mp o) a c d h) ⟨i,bKc.mpr a,f i a,h⟩
  intro i j a c e;by_cases b:i=j
  ·exact b
  ·exfalso;have q:(((bWS n).countP λm=>lt m i:Nat):Int)=((bWS n).countP λm=>lt m j:Nat):=e;rcases g i j a c b with h|h
   ·have:=up i j a c h;omega
   ·have:=up j i c a h;omega
 ·intro i j a c;have up:∀i j,i<n->j<n->lt i j=true->((bWS n).countP λm=>lt m i)<((bWS n).countP λm=>lt m j):=λi j a c h=>
   qJ _ _ _ (λm o d=>p m i j (bKc.mp o) a c d h) ⟨i,bKc.mpr a,f i a,h⟩
  cases h:lt i j with
  |true=>have:=up i j a c h;exact decide_eq_true (by show(((bWS n).countP λm=>lt m i:Nat):Int)<((bWS n).countP λm=>lt m j:Nat);omega)
  |false=>
   refine decide_eq_false ?_;show ¬ (((bWS n).countP λm=>lt m i:Nat):Int)<((bWS n).countP λm=>lt m j:Nat);by_cases b:i=j
   ·subst b;omega
   ·rcases g i j a c b with l|l
    ·rw[h]at l;cases l
    ·have:=up j i c a l;omega
section
variable {prog:bW3}{w:bKa}{A:bKk}{E:bWG->bWJ->Prop}{s:bWJ}
theorem aQk{r:Nat}{n:Nat}{t u v:Tok}{Q:List bWG->bWJ->Prop}(V:A.handled=none)(O:IsRange s.heap r 0 n 1 t u v)(W:n<64) (M:∀m tk I,(∀b o,s.heap.get? b=some o->m.get? b=some o)->s.heap.objs.size<m.objs.size->cQa I ((bWS n).map Int.ofNat)->Q I {s with heap:=m,toks:=tk}):bWO (bWQ prog w) A (collect (.ref r)) Q E s:=by
 have J:Builtin.Range.rangeSize 0 n 1=(n:Int):=by rw[rangeSize_one];split<;> omega
 have D:Builtin.Range.small 0 n 1=true:=small_one (by decide) (by decide) (by omega) (by omega);unfold collect;refine bWH (wpAny_runValue (bYT F.entry_proto_collect ?_));rw[bYB F.plain_proto_collect _];show bWO _ A.in1 (newList [] >>=λl=>again (.builtin "list.__iadd__" ⟨[l,.ref r],[]⟩)) _ _ s;refine bWH (bYG ?_);refine bWM ⟨cQU F.plain_list_iadd _,bYT F.entry_list_iadd ?_⟩;rw[bYB F.plain_list_iadd _];have d:(s.heap.push {cls:= .type "list",data:= .seq ([]:List bWG).toArray}).get? s.heap.objs.size=some {cls:= .type "list",data:= .seq ([]:List bWG).toArray}:=bW4 _ rfl;show bWO _ A.in1 (cQJ (.ref s.heap.objs.size) (.ref r) (.ref s.heap.objs.size)) _ _ _;refine bKE (wpAny_extend_range (A:=A) (R:=λq y=>q= .ok (.ret (.ref s.heap.objs.size))/\∃a g,y.heap.get? s.heap.objs.size=some {cls:= .type "list",dict:=none,data:= .seq a g,slots:= #[] }/\Q a.toList y) (s:={s with heap:=s.heap.push {cls:= .type "list",data:= .seq ([]:List bWG).toArray} }) V (bWL _ O) D J (by omega) s.heap.objs.size (.ref s.heap.objs.size) 0 d λm tk a g N h c=>⟨rfl,a,g,h,?_⟩) (λB y C=>?_) λe y P=>by obtain⟨z,_⟩:=P;cases z
 rotate_left
 ·cases B with
  |done f=>
   obtain⟨e,a,g,p,j⟩:=C;have L:f= .ret (.ref s.heap.objs.size):=by cases e;rfl
   subst L;exact bWH (wpAny_load p (bWM j))
  |again g=>
   exact⟨C.1,bYx C.2 λq S K=>by
    obtain⟨rfl,a,g,p,j⟩:=K;exact bWH (wpAny_load p (bWM j))⟩
 refine M m tk a.toList (λb o e=>N b o (bW9 (bWT e)) (bWL _ e)) (bWT h) ?_;have len:a.toList.length=n:=by rw[bK0];exact c.1
 have all:∀ (k:Nat)(l:List bWG),l.length<=n->k+l.length=n->(∀i v,l[i]? =some v->∃t,v=Value.int ((k+i:Nat):Int) t)->cQa l ((List.range' k l.length).map Int.ofNat):=by
  intro k l;induction l generalizing k with
  |nil=>intro _ _ _;exact .nil
  |cons x l U=>
   intro p j H;obtain⟨t,rfl⟩:=H 0 x rfl;rw[bKH,List.range'_succ,bKv];exact .cons _ _ (U (k+1) (by rw[bKH]at p;omega) (by rw[bKH]at j;omega) λi v G=>by
    obtain⟨T,e⟩:=H (i+1) v G;exact⟨T,by rw[e,show k+(i+1)=k+1+i by omega]⟩)
 have z:=all 0 a.toList (by omega) (by omega) λi v G=>by obtain⟨t,e⟩:=c.2 i v (by rw[<- bK5];exact G);exact⟨t,by rw[e,show(0:Int)+(i:Int)*1=((0+i:Nat):Int) by omega]⟩
 rw[len]at z;rw[List.range_eq_range'];exact z
theorem aXV{r:Nat}{n:Nat}{t u v:Tok}{b:Bool}{f:bWG}{i:List (Str×bWG)}{Q:bWG->bWJ->Prop}(I:A.handled=none)(G:IsRange s.heap r 0 n 1 t u v)(C:n<64) (q:argsOk "sorted" ⟨[.ref r],i⟩) (y:∀x,argsOk "list.sort" ⟨[.ref x],i⟩) (H:∀x,bYC.«list.sort» ⟨[.ref x],i⟩=ksk_tree x f b) (h:∀a c tk d,(∀b o,s.heap.get? b=some o->c.get? b=some o)->s.heap.objs.size<=a->c.get? a=some (bKr "list" d.toArray 0)->cQa d ((bWS n).map Int.ofNat)-> bWO (bWQ prog w) A.in1.in1 (ksk_tree a f b) (λg z=>g= .done (.ret .none)/\Q (.ref a) z) (λ_ _=>False) {s with heap:=c,toks:=tk}): bWO (bWQ prog w) A (call (.builtin "sorted") [.ref r] i) Q E s:=by
 refine call_function_entry_kw kind_sorted plain_sorted entry_sorted q ?_;unfold bYC.«sorted»;refine bWH (m:=checkCount "sorted" 1 1 _) (bWM ?_);refine bWH (aQk (A:=A.in1) (by simpa using I) G C λc tk d F p B=>?_);have D:d.length=n:=by rw[B.length];simp
 refine bWH (cQW ?_ (by rw[bKg];omega));have j:(c.push (bKr "list" d.toArray 0)).get? c.objs.size=some (bKr "list" d.toArray 0):=bW4 _ rfl;have k:s.heap.objs.size<=c.objs.size:=bY6 p;refine bWH (bKJ (wpAny_call_entry_kw slot_list_sort ⟨_,j,rfl⟩ entry_list_sort ?body (y _)));case body=>
  show bWO (bWQ prog w) A.in1.in1 (bYC.«list.sort» ⟨[.ref c.objs.size],i⟩) _ _ _;rw[H c.objs.size];refine bKE (h c.objs.size (c.push (bKr "list" d.toArray 0)) tk d (λb o e=>bWL _ (F b o e)) k j B) (λg z l=>?_) λ_ _ x=>x.elim;obtain⟨rfl,l⟩:=l;exact⟨_,rfl,bWM ⟨_,rfl,l⟩⟩
end
end Stree
namespace Stree
open PySem PySem.W PySem.Calls PyProof.Rows
def zT(a b:Int×Int):Bool:=decide (a.1<b.1) || (decide (a.1=b.1) && decide (a.2<b.2))
theorem zQ(a:Int×Int):zT a a=false:=by simp[zT]
theorem aQt{a b c:Int×Int}(d:zT a b=true)(e:zT b c=true):zT a c=true:=by
 simp only[zT,Bool.or_eq_true,Bool.and_eq_true,decide_eq_true_eq]at d e ⊢;omega
theorem aQs{a b:Int×Int}(h:a≠b):zT a b=true\/zT b a=true:=by
 have c:¬ (a.1=b.1/\a.2=b.2):=λ⟨x,y⟩=>h (Prod.ext x y);simp only[zT,Bool.or_eq_true,Bool.and_eq_true,decide_eq_true_eq];omega
section
variable {prog:bW3}{w:bKa}{A:bKk}{E:bWG->bWJ->Prop}{s:bWJ}
theorem aWh{a c:Int}{t t':Tok}{Q:Bool->bWJ->Prop}(h:Q (a==c) s):bWO (bWQ prog w) A (eqBool (.int a t) (.int c t')) Q E s:=
 (L2.bQ8 (A:=A) (s:=s) (y:= .int a) (x:= .int c) ⟨t,rfl⟩ ⟨t',rfl⟩ rfl rfl) prog w E Q h
theorem aWG{x y:Nat}{g i:Obj}{n k:Nat}{a b c d:Int}{l m p t:Tok}{Q:Bool->bWJ->Prop}(j:s.heap.get? x=some g)(dx:g.data= .seq #[.int a l,.int b m] n)(r:s.heap.get? y=some i)(q:i.data= .seq #[.int c p,.int d t] k) (h:Q (zT (a,b) (c,d)) s):bWO (bWQ prog w) A (keyLt' (tuples' true) (.ref x) (.ref y)) Q E s:=by
 refine kat_lt j dx r q ?_;refine kat_cons (aWh ?_);unfold zT at h;by_cases e:a=c
 ·subst e;simp only[Int.lt_irrefl,decide_false,Bool.false_or,decide_true,Bool.true_and]at h;rw[beq_self_eq_true];refine kat_yes (kat_cons (aWh ?_));by_cases f:b=d
  ·subst f;rw[beq_self_eq_true];refine kat_yes (kat_nil ?_);simpa using h
  ·rw[beq_eq_false_iff_ne.mpr f];refine kat_no (kat_one _ _ ?_);exact lt_int h
 ·rw[beq_eq_false_iff_ne.mpr e];have o:Q (decide (a<c)) s:=by
   have:decide (a=c)=false:=decide_eq_false e;simpa[this]using h
  refine kat_no ?_;exact oneLt_int o
end
end Stree
namespace L2
open PySem PySem.Spec PyProof.Rows
def ixb(b:Bool)(n i:Nat):Nat:=if b=true then n - 1 - i else i
theorem aXr{b:Bool}{n i:Nat}(h:i<n):ixb b n i<n:=by unfold ixb;split<;> omega
theorem bX2{b:Bool}{n i j:Nat}(c:i<n)(a:j<n)(h:ixb b n i=ixb b n j):i=j:=by unfold ixb at h;split at h<;> omega
theorem aQG{α:Type}{b:Bool}{l:List α}{n i:Nat}{d:α}(a:l.length=n)(c:i<n):(bKS b l).getD i d=l.getD (ixb b n i) d:=by
 unfold bKS ixb;split
 ·simp only[bKC];rw[List.getElem?_reverse (by omega),a]
 ·rfl
theorem bJL{n:Nat}{b:Bool}{a:Nat->Int×Int}{r:Nat->Int}{p:List Nat}(m:p.Perm (bWS n))(k:p.Pairwise λi j=>r i<r j)(g:∀i j,i<n->j<n->decide (r i<r j)=Stree.zT (a (ixb b n i)) (a (ixb b n j))): (bKS b (p.map (ixb b n))).Perm (bWS n)/\(bKS b (p.map (ixb b n))).Pairwise λi j=>Stree.zT (if b=true then a j else a i) (if b=true then a i else a j)=true:=by
 have f:(p.map (ixb b n)).Pairwise λi j=>Stree.zT (a i) (a j)=true:=by rw[cQC];have l:∀i∈p,i<n:=λi c=>bKc.mp (m.mem_iff.mp c);refine k.imp_of_mem λ{i j} c hj h=>?_;rw[<- g i j (l i c) (l j hj)];exact decide_eq_true h
 have d:=m.map (ixb b n);cases b with
 |false=>
  have e:ixb false n=id:=by funext i;rfl
  rw[e]at d f ⊢;rw[List.map_id,List.map_id]at d;rw[List.map_id]at f ⊢;exact⟨d,f⟩
 |true=>
  have e:(bWS n).map (ixb true n)=(bWS n).reverse:=by
   apply bYU;intro i;by_cases c:i<n
   ·rw[bWY,bYb c,List.getElem?_reverse (by simpa using c),bKo,bYb (by omega)];rfl
   ·rw[bKf (by simp;omega),bKf (by simp;omega)]
  rw[e]at d;refine⟨(List.reverse_perm _).trans (d.trans (List.reverse_perm _)),?_⟩;show((p.map (ixb true n)).reverse).Pairwise _;rw[List.pairwise_reverse];exact f
def bXD(H:Hp)(b:Nat->Int×Int)(ks:List bWG):Prop:=∀i v,ks[i]? =some v->∃a,v= .ref a/\H a=some (.tup [.int (b i).1,.int (b i).2])
def bQK(te:TE)(fr:List Nat)(tb:TE)(P:Nat)(lpos:Pos)(qual:Str)(b:Bool):TE:=λσ H Q=>te σ H λv e=>∃n:Nat,v= .int n/\n<64/\u6 lpos qual P e/\∃kz:Nat->Int×Int,
 (∀i j,i<n->j<n->kz i=kz j->i=j)/\
 (∀i c,i<n->xO e c->u6 lpos qual P c->∀R:VK,(∀a d,xO c d->d P=c P->d a=some (.tup [.int (kz i).1,.int (kz i).2])->R (.ref a) d)->tb (sub σ fr (some (.int i))) c R)/\
 ∀H5 l (out:List Nat),xO e H5->u6 lpos qual P H5->e l=none->out.Perm (bWS n)->(out.Pairwise λi j=>Stree.zT (if b=true then kz j else kz i) (if b=true then kz i else kz j)=true)->H5 l=some (.lst (out.map λi=> .int (i:Nat)))->Q (.ref l) H5
theorem u6.keep{lpos:Pos}{qual:Str}{P:Nat}{H a:Hp}(t:u6 lpos qual P H)(k:xO H a)(e:a P=H P):u6 lpos qual P a:=by
 rcases t with t|⟨c,b,d⟩
 ·exact .inl (e.trans t)
 ·exact .inr ⟨c,e.trans b,k.ext d⟩
section
variable {X:Cx}{e body:Expr}{te tb:TE}{x:Str}{names:List Str}{fr:List Nat}{sc:bYS}{params:Arguments}{qual:Str}{p p2 p3 pos lpos kp kp2 bp:Pos}{j:Nat}{b:Bool}{c P:Nat}{k:Nat}
theorem aVo(f8:Gl X "sorted")(d6:X.mg "sorted"=none)(d4:Gl X "range")(e5:X.mg "range"=none)(he:PE X e te)(S:y9 X.N X.env.scope x names fr sc)(e9:sc.isCoroutine=false)(c3:sc.isGenerator=false)
  (a5:X.env.code= .ref c) (C:bYK X.base c P) (hB:X.base.BuiltinsAt X.mg P) (hr:wR (k+1) X.A) (c0:defaultsOf params X.env=([],[])) (hq:X.env.qual++"<lambda>"=qual)
  (hb:∀ (cl:List (Str×Nat))(pm f7 b2 u:bWG),cQo (PySem.W.kla_fn "<lambda>" qual params body sc cl pm f7 b2) ⟨[u],[]⟩=pure [(x,u)])
  (a8:∀A L q cd cl s H,PE (bVs X A (x::names) qual sc L q cd cl s H) body tb) (b1:bKx "sorted"=some (.builtin "sorted"):=dk)
  (s2:bKi [e] X.env= [(false,eval e X.env)]:=by rfl):
  PE X (.Call (.Name "sorted" p) [.Call (.Name "range" p2) [e] [] p3] [⟨some "key",.Lambda params body sc lpos,kp⟩,⟨some "reverse",.Constant (.bool b) j bp,kp2⟩] pos) (bQK te fr tb P lpos qual b):=by
 intro g s σ H Q I h
 refine bYk (qR I f8 d6 b1 ?_)
 refine callWith_kw ?_
 show bWO _ _ (spliced ((false,eval (.Call (.Name "range" p2) [e] [] p3) X.env):: [])) _ _ s
 refine Calls.spliced_cons ?_
 refine bYk (qR I d4 e5 boot_range ?_)
 refine bY9 ?_ s2 rfl
 refine thn (yA he yF s2 p3 g s σ H (λvs H1=>match vs with|[v]=>(∃n:Nat,v= .int n/\n<64/\u6 lpos qual P H1/\∃kz:Nat->Int×Int,
   (∀i j,i<n->j<n->kz i=kz j->i=j)/\
   (∀i D,i<n->xO H1 D->u6 lpos qual P D->∀R:VK,(∀a Y,xO D Y->Y P=D P->Y a=some (.tup [.int (kz i).1,.int (kz i).2])->R (.ref a) Y)->tb (sub σ fr (some (.int i))) D R)/\
   ∀H5 l (out:List Nat),xO H1 H5->u6 lpos qual P H5->H1 l=none->out.Perm (bWS n)->(out.Pairwise λi j=>Stree.zT (if b=true then kz j else kz i) (if b=true then kz i else kz j)=true)->H5 l=some (.lst (out.map λi=> .int (i:Nat)))->Q (.ref l) H5)|_=>False) I h) λus s1 ⟨vs,H1,I1,r1,z⟩=>?_
 match vs,z with
 |[v],⟨n,e2,hn,hT,kz,hinj,hkey,hfin⟩=>
  subst e2;obtain⟨u,rfl,ru⟩:=jU r1;obtain⟨t,rfl⟩:=ru;refine call_range_1 (Calls.spliced_nil ?_);have fR:=I1.fpOk (b:=s1.heap.objs.size) (bWN _) I1.fresh;have I2:Inv X ((s1.heap.objs.size,{cls:= .type "range",data:= .fields #[.int 0 s1.toks,.int (n:Int) t,.int 1 (s1.toks+1)] })::g) σ H1 {s1 with heap:=s1.heap.push {cls:= .type "range",data:= .fields #[.int 0 s1.toks,.int (n:Int) t,.int 1 (s1.toks+1)] },toks:=s1.toks+1+1}:=by
   have I0:Inv X g σ H1 {s1 with heap:=s1.heap.push {cls:= .type "range",data:= .fields #[.int 0 s1.toks,.int (n:Int) t,.int 1 (s1.toks+1)] },toks:=s1.toks+1+1}:=I1.kept λb o e=>bWL _ e;refine I0.pins_of λq hq=>?_;rcases bWU.mp hq with rfl|hq
   ·exact⟨bW4 _ rfl,fR.1,fR.2.1,fR.2.2.1,λv z=>by cases z⟩
   ·exact I0.pin q (bW5 _ hq)
  obtain⟨cl,c1,c2,c4⟩:=aZh S I2;refine kws_cons (PySem.W.kla_eval c0 ?_);rw[hq];refine aYE I2 c1 a5 C hB hT λq c' b2 H' s' I3 g8 f9 a7 d7 c8=>?_;refine kws_cons (Constant_bool (kws_nil ?_));show bWO _ _ (call (.builtin "sorted") [.ref s1.heap.objs.size] [(cQ8 "key",.ref q),(cQ8 "reverse",.bool b)]) _ _ s';have a3:IsRange s'.heap s1.heap.objs.size 0 n 1 s1.toks t (s1.toks+1):=(I3.pin _ (bW5 _ (bWV ..))).1;have I4:Inv X g σ H' s':=I3.pins_of λp G=>I3.pin p (bW5 _ (bWR _ G));refine Stree.aXV hr.hd a3 hn (ksk_s2 _ _ _) (λx=>ksk_l2 _ _ _) (λx=>ksk_t2 q x b) λa O tk vs hk a1 ha hI=>?_;have a0:vs.length=n:=by rw[hI.length];simp
  have I5:Inv X g σ H' {s' with heap:=O,toks:=tk}:=I4.kept hk;have Z:=I4.fpOk (b:=a) a1 (I4.hok.fresh a1);have b8:a<O.objs.size:=bWT ha;have b7:s'.heap.objs.size<=O.objs.size+1:=bKh a1 (bY6 (bKT b8));have M:=I4.fpOk (b:=O.objs.size+1) b7 (I4.hok.fresh b7);refine Stree.bVa (s:={s' with heap:=O,toks:=tk}) ha (by rw[a0];exact hn) (λe1 w U=>∃ (D:Hp)(e:Nat),Inv X ((a,bKr "list" #[] e1)::(O.objs.size+1,bKr "list" w.toArray e)::g) σ D U/\xO H' D/\u6 lpos qual P D/\bXD D kz w) ?h0 ?hget ?hcall ?hend;case h0=>
   intro e1 h2 k2 a2 q2;have I6:Inv X g σ H' {s' with heap:=h2,toks:=tk}:=I5.turned (t':=tk) (h':=h2) (λb o hb e=>k2 b o hb e) Z.1 Z.2.1 Z.2.2.2.1 Z.2.2.2.2.1 Z.2.2.2.2.2;refine⟨H',0,I6.pins_of λp G=>?_,xO.refl _,d7,λi v B=>by simp at B⟩;rcases bWU.mp G with rfl|G
   ·exact⟨a2,Z.1,Z.2.1,Z.2.2.1,λv z=>by cases z⟩
   ·rcases bWU.mp G with rfl|G
    ·exact⟨q2,M.1,M.2.1,M.2.2.1,λv z=>by cases z⟩
    ·exact I6.pin p (bW5 _ G)
  case hget=>
   rintro e1 w U ⟨D,e,J,_,_,_⟩;exact⟨⟨e,(J.pin _ (bW5 _ (bWR _ (bWV ..)))).1⟩,(J.pin _ (bW5 _ (bWV ..))).1⟩
  case hcall=>
   rintro e1 w U v ⟨D,e,J,k3,t3,z3⟩ B;have F:w.length<n:=by
    rcases cQ6 w.length vs.length with h|h
    ·omega
    ·rw[bKf h]at B;cases B
   obtain⟨t',rfl⟩:∃t',v=Value.int (w.length:Nat) t':=by
    have r:=wO hI;have e3:((((bWS n).map Int.ofNat)).map V.int)[w.length]? =some (V.int (w.length:Nat)):=by simp[F]
    obtain⟨u,hu,ru⟩:=r.get e3;rw[B]at hu;cases hu;exact ru
   have e7:U.heap.get? q=some (bYR "<lambda>" qual params body sc cl ((X.mg "__name__").getD .none) c' b2):=(J.hok q _ (k3.ext f9)).1;have b6:U.heap.CodeRec (.ref c') qual:=(J.hok c' _ (k3.ext a7)).1;refine bKE (aYD (A:=X.A.in1.in1) J I.ok.frames hr.hd (by have:=hr.dp;show X.A.depth<_;omega) S e9 c3 c2 c4 e7 b6 (λu=>hb cl _ _ _ u) (λA L cd s H=>a8 A L q cd cl s H) (v:= .int (w.length:Nat)) ⟨t',rfl⟩ (Q:=λv Y=>∃a4,v= .ref a4/\xO D Y/\Y P=D P/\Y a4=some (.tup [.int (kz w.length).1,.int (kz w.length).2])) (hkey w.length D F (c8.trans k3) t3 _ λa4 Y k4 p4 e4=>⟨a4,rfl,k4,p4,e4⟩)) (λkv s4 g6=>?_) λ_ _ x=>x;obtain⟨v4,Y,J4,f4,a4,rfl,k4,p4,e4⟩:=g6;cases f4;refine⟨⟨e,(J4.pin _ (bW5 _ (bWR _ (bWV ..)))).1⟩,λh5 c5 sb c9=>?_⟩;have d5:Inv X g σ Y s4:=J4.pins_of λp G=>J4.pin p (bW5 _ (bWR _ (bWR _ G)));have pa:=J4.pin _ (bW5 _ (bWV ..));have pk:=J4.pin _ (bW5 _ (bWR _ (bWV ..)));have J5:Inv X g σ Y {s4 with heap:=h5,toks:=s4.toks}:=d5.turned (t':=s4.toks) (h':=h5) (it:=O.objs.size+1) (λb o hb e=>(sb.2 b hb).trans e) pk.2.1 M.2.1 M.2.2.2.1 M.2.2.2.2.1 M.2.2.2.2.2;refine⟨Y,c5,J5.pins_of λp G=>?_,k3.trans k4,t3.keep k4 p4,λi v B=>?_⟩
   ·rcases bWU.mp G with rfl|G
    ·exact⟨(sb.2 _ (bW9 (bKT b8))).trans pa.1,pa.2⟩
    ·rcases bWU.mp G with rfl|G
     ·exact⟨c9,pk.2.1,M.2.1,M.2.2.1,λv z=>by cases z⟩
     ·exact J5.pin p (bW5 _ G)
   ·by_cases f5:i<w.length
    ·rw[bW7 f5]at B;obtain⟨a6,e6,h6⟩:=z3 i v B;exact⟨a6,e6,k4.tup h6⟩
    ·rw[bW0 (by omega)]at B;have:i - w.length=0:=by
      rcases cQ6 (i - w.length) 1 with h|h
      ·omega
      ·rw[bKf (by simpa using h)]at B;cases B
     have ei:i=w.length:=by omega
     subst ei;simp at B;exact⟨a4,B.symm,e4⟩
  case hend=>
   rintro e1 w U ⟨D,e,J,k3,t3,z3⟩ hl;have J':Inv X g σ D U:=J.pins_of λp G=>J.pin p (bW5 _ (bWR _ (bWR _ G)));have b5:w.length=n:=by omega
   obtain⟨r,f6,b3⟩:=Stree.aKa (n:=n) (λi j=>Stree.zT (kz (ixb b n i)) (kz (ixb b n j))) (λi _=>Stree.zQ _) (λi j k _ _ _ O h2=>Stree.aQt O h2)
    (λi j F hj e8=>Stree.aQs λz=>e8 (bX2 F hj (hinj _ _ (aXr F) (aXr hj) z)))
   have ob:∀i,i<n->∃a o t1 t2 m,w.getD i Value.none= .ref a/\U.heap.get? a=some o/\o.cls= .type "tuple"/\o.data= .seq #[.int (kz i).1 t1,.int (kz i).2 t2] m:=λi F=>by obtain⟨a6,e6,h6⟩:=z3 i (w.getD i Value.none) (by simp[bKC,bWF (show i<w.length by omega)]);obtain⟨g7,rv,pl,_⟩:=J'.tuple (SqT.of h6);obtain⟨u1,u2,rfl,r1,r2⟩:=xK.two rv;obtain⟨t1,rfl⟩:=r1;obtain⟨t2,rfl⟩:=r2;obtain⟨o,g1,g2,m,g3⟩:=pl;exact⟨a6,o,t1,t2,m,e6,g1,g2,g3⟩
   refine⟨r,by rw[a0];exact f6,λ_=>⟨tuples' true,λQ' g4=>?_,λi j C' F hj hC=>?_⟩,λp h5 c5 c6 b0 e0 k5 g5 o5=>?_⟩
   ·have c7:∀ (l:List bWG)(k:Nat),(∀ (i:Nat)(v:bWG),l[i]? =some v->∃a o t1 t2 m x y,v=Value.ref a/\U.heap.get? a=some o/\o.cls= .type "tuple"/\o.data= .seq #[.int x t1,.int y t2] m)->
      ∃fs,cX4 U.heap l fs/\fs.length=l.length/\∀f∈fs,∃x t,f=Value.int x t:=by
     intro l
     induction l with
     |nil=>intro _ _;exact⟨[],trivial,rfl,λf hf=>by cases hf⟩
     |cons v l ih=>
      intro k B;obtain⟨a,o,t1,t2,m,x,y,rfl,g1,g2,g3⟩:=B 0 v rfl;obtain⟨fs,f1,f2,f3⟩:=ih (k+1) λi v h=>B (i+1) v h;refine⟨.int x t1::fs,PySem.W.KatTups.cons g1 g2 g3 rfl f1,by simp[f2],λf hf=>?_⟩;rcases bWU.mp hf with rfl|hf
      ·exact⟨x,t1,rfl⟩
      ·exact f3 f hf
    obtain⟨fs,f1,f2,f3⟩:=c7 w 0 λi v B=>by
     have F:i<n:=by
      rcases cQ6 i w.length with h|h
      ·omega
      ·rw[bKf h]at B;cases B
     obtain⟨a,o,t1,t2,m,g0,g1,g2,g3⟩:=ob i F;have:w.getD i Value.none=v:=by simp[bKC,B]
     rw[this]at g0;exact⟨a,o,t1,t2,m,_,_,g0,g1,g2,g3⟩
    refine PySem.W.kat_kind (T:= .type "int") f1 (by omega) (λv B=>?_) rfl g4;obtain⟨x,t,rfl⟩:=f3 v B;exact .now
   ·rw[a0]at F hj;obtain⟨ai,oi,t1,t2,m1,g0,g1,g2,g3⟩:=ob _ (aXr (b:=b) F);obtain⟨aj,oj,t3,t4,m2,d0,d1,d2,d3⟩:=ob _ (aXr (b:=b) hj);show bWO _ _ (keyLt' _ ((bKS b w).getD i Value.none) ((bKS b w).getD j Value.none)) _ _ _;rw[aQG b5 F,aQG b5 hj,g0,d0];refine Stree.aWG g1 g3 d1 d3 ?_;have:=b3 i j F hj;rw[this]at hC;exact hC
   ·rw[a0]at b0;obtain⟨q1,q2⟩:=bJL b0 e0 b3;have hm:∀i∈p,i<n:=λi F=>bKc.mp (b0.mem_iff.mp F);have vv:∀l:List Nat,(∀i∈l,i<n)->xK ((l.map (ixb b n)).map λi=>V.int (i:Nat)) (l.map λi=>(bKS b vs).getD i Value.none):=by
     intro l;induction l with
     |nil=>intro _;exact .nil
     |cons i l ih=>
      intro h;refine .cons ?_ (ih λj hj=>h j (bWR _ hj));have F:=h i bWV;show xZ (V.int (ixb b n i:Nat)) ((bKS b vs).getD i Value.none);rw[aQG a0 F];have hx:=aXr (b:=b) F;have e3:((((bWS n).map Int.ofNat)).map V.int)[ixb b n i]? =some (V.int (ixb b n i:Nat)):=by simp[hx]
      obtain⟨u,hu,ru⟩:=(wO hI).get e3;have:vs.getD (ixb b n i) Value.none=u:=by simp[bKC,hu]
      rw[this];exact ru
    have v2:=vv p hm;have v3:xK ((bKS b (p.map (ixb b n))).map λi=>V.int (i:Nat)) (bKS b (p.map λi=>(bKS b vs).getD i Value.none)):=by
     unfold bKS at v2 ⊢;split
     ·rw[List.map_reverse];rename_i a9;simp only[a9]at v2 ⊢;exact v2.reverse
     ·rename_i a9;simp only[a9]at v2 ⊢;exact v2
    have na:D a=none:=(J.pin _ (bW5 _ (bWV ..))).2.1;have nk:D (O.objs.size+1)=none:=(J.pin _ (bW5 _ (bWR _ (bWV ..)))).2.1;have b9:(bKS b (p.map (ixb b n))).length=n:=by rw[q1.length_eq,bKo]
    have d9:Inv X g σ (upd D a (.lst ((bKS b (p.map (ixb b n))).map λi=>V.int (i:Nat)))) {U with heap:=h5,gens:=U.gens,drawn:=U.drawn,toks:=U.toks}:=by
     have K:∀d,d∉ [a,O.objs.size+1]->d≠a/\d≠O.objs.size+1:=λd E=>⟨λz=>E (by simp[z]),λz=>E (by simp[z])⟩;refine J'.step (ch:= [a,O.objs.size+1]) (λd E=>?_) (λd o _ _ E e _=>?_) (λd o _ _ E e _=>?_) (λd o E e n=>?_) (λd o E e=>?_) (λd xs e=>?_) (λd o u e=>?_) (λd qs e=>?_) (λm d8=>?_) (λd u e=>?_) J'.bare
     ·rcases bWU.mp E with rfl|E
      ·exact⟨Z.2.2.2.1,Z.2.1,Z.2.2.2.2.1,Z.2.2.2.2.2⟩
      ·rw[bW8.mp E];exact⟨M.2.2.2.1,M.2.1,M.2.2.2.2.1,M.2.2.2.2.2⟩
     ·exact(k5 d (K d E).1 (K d E).2).trans e
     ·exact⟨o.slots,(k5 d (K d E).1 (K d E).2).trans e⟩
     ·rw[yH (K d E).1];exact n
     ·exact⟨o,(k5 d (K d E).1 (K d E).2).trans e⟩
     ·rw[yH (yE e na)];exact e
     ·rw[yH (yE e na)];exact e
     ·exact⟨#[],by rw[yH (yE e na),e];simp⟩
     ·obtain⟨o,es,ep,ho,r⟩:=d8;exact⟨o,es,ep,(k5 _ (bKl Z.2.1) (bKl M.2.1)).trans ho,r⟩
     ·by_cases E:d=a
      ·subst E;rw[yB]at e;cases e;exact⟨by rw[bWK,b9,bKg];omega,_,c6,v3,o5⟩
      ·rw[yH E]at e;refine(J'.hok d u e).stay (λc v hc q=>?_) (λc q=>by rw[yH (yE q na)];exact q) λc xs q=>by rw[yH (yE q na)];exact q
       have a7:c≠a:=by
        rcases hc with rfl|hc
        ·exact E
        ·exact yE hc na
       have f0:c≠O.objs.size+1:=by
        rcases hc with rfl|hc
        ·exact yE e nk
        ·exact yE hc nk
       exact(k5 c a7 f0).trans q
    have b4:=yI na (.lst ((bKS b (p.map (ixb b n))).map λi=>V.int (i:Nat)));have hP:upd D a (.lst ((bKS b (p.map (ixb b n))).map λi=>V.int (i:Nat))) P=D P:=by
     rcases t3 with t|⟨_,t,_⟩
     ·rw[yH (yE t na)]
     ·rw[yH (yE t na)]
    have nl:H1 a=none:=by
     cases hz:H1 a with
     |none=>rfl
     |some o=>exact absurd (I1.hok.lt hz) (Nat.not_lt.mpr (bKh (bY6 (bWT a3)) a1))
    exact⟨rfl,.ref a,_,d9,rfl,hfin _ a _ (c8.trans (k3.trans b4.t)) (t3.keep b4.t hP) nl q1 q2 yB⟩
end
end L2
namespace Stree
open PySem PySem.W PySem.Calls PyProof.Rows
open PySem.SeqAt
open PySem.AutoSeq1 (wpAny_loadPart')
open PySem.MeetsSeq PySem.MeetsSeq2 PySem.MeetsSeq3
def aWE{α:Type} [DecidableEq α] (lt:α->α->Bool):List α->List α->Bool
 |[],[]=>false
 |[],_::_=>true
 |_::_,[]=>false
 |x::xs,y::ys=>if x=y then aWE lt xs ys else lt x y
section
variable {A:bKk}{s:bWJ}{α:Type} [DecidableEq α] {lt:α->α->Bool}{rep:α->bWG->Prop}{l b:Nat}{items items2:List bWG}{xs ys:List α}
end
section
variable {A:bKk}{s:bWJ}
end
section
variable {prog:bW3}{w:bKa}{A:bKk}{E:bWG->bWJ->Prop}{s:bWJ}
theorem aKL{a:Nat}{vs:List bWG}{P:PySem.Fin->bWJ->Prop}{n0:Nat}(I:s.heap.get? a=some (bKr "list" vs.toArray n0))(M:vs.length<64)(r:Nat->Int)(hr:Inj vs.length r) (y:2<=vs.length->∃κ,∀f,(∀c o,c≠a->s.heap.get? c=some o->f.get? c=some o)->(∀Q:SortKind->bWJ->Prop,Q κ {s with heap:=f}->bWO (bWQ prog w) A (keyKind' vs.toArray) Q (λ_ _=>False) {s with heap:=f})/\ ∀i j C,i<vs.length->j<vs.length->C (decide (r i<r j)) {s with heap:=f}->kas_ask prog w A κ vs i j C {s with heap:=f}) (u:∀ (p:List Nat) f c,p.Perm (bWS vs.length)->p.Pairwise (λi j=>r i<r j)->(∀d o,d≠a->s.heap.get? d=some o->f.get? d=some o)->f.get? a=some (bKr "list" (p.map λi=>vs.getD i Value.none).toArray c)->P (.done (.ret .none)) {s with heap:=f}): bWO (bWQ prog w) A (bYC.«list.sort» ⟨[.ref a],[]⟩) P E s:=by
 have ha:a<s.heap.objs.size:=bWT I;obtain⟨t,D⟩:∃t,(s.heap.update a (bKu λ_=>(#[]:Array bWG))).get? a=some (bKr "list" #[] t):=⟨_,cQx I λ_=> #[]⟩;rw[list_sort_plain];refine bWH (listItems_at I rfl ?_);refine bWH (cQT I rfl ?_ (by rw[bWZ,bKg];omega) (bKt _));refine bWH (seqEpoch_at D rfl ?_);refine bWH (wpAny_newTuple ?_ (by show vs.length<=_;rw[bKg];omega));refine bWH (cQW ?_ (bKt _));refine bKJ ?_;have U:∀c o,c≠a->s.heap.get? c=some o->(((s.heap.update a (bKu λ_=>(#[]:Array bWG))).push (bKr "tuple" vs.toArray 0)).push (bKr "list" #[] 0)).get? c=some o:=λc o hc e=>
  bWL _ (bWL _ ((bKe _ _ (bKl hc)).trans e))
 have J:(((s.heap.update a (bKu λ_=>(#[]:Array bWG))).push (bKr "tuple" vs.toArray 0)).push (bKr "list" #[] 0)).get? a=some (bKr "list" #[] t):=bWL _ (bWL _ D);show bWO (bWQ prog w) A _ P E {s with heap:=((s.heap.update a (bKu λ_=>(#[]:Array bWG))).push (bKr "tuple" vs.toArray 0)).push (bKr "list" #[] 0) };generalize ((s.heap.update a (bKu λ_=>(#[]:Array bWG))).push (bKr "tuple" vs.toArray 0)).push (bKr "list" #[] 0)=h1 at U J ⊢;dsimp only;have l:∀ (B:SortSt)(p:List Nat),p.Perm (bWS vs.length)->p.Pairwise (λi j=>r i<r j)->(arrOf B).map (·.2)=bKO (p.map λi=>vs.getD i Value.none)->failedOf B=none->
   bWO (bWQ prog w) A (do
    let b:=(<- seqEpoch a) !=t
    Builtin.List.listUpdate (.ref a) λ_=>(arrOf B).map (·.2)
    if let some e:=failedOf B then rule "list.sort.comparison-raised";throw e
    if b then rule "list.sort.modified";raiseError "ValueError" "list modified during sort"
    ret .none) P E {s with heap:=h1}:=by
  intro B p g q z O
  have N:p.length=vs.length:=by rw[g.length_eq,bKo]
  rw[z]
  obtain⟨L,S⟩:∃L,(h1.update a (bKu λ_=>bKO (p.map λi=>vs.getD i Value.none))).get? a=some (bKr "list" (bKO (p.map λi=>vs.getD i Value.none)) L):=⟨_,cQx J λ_=>bKO (p.map λi=>vs.getD i Value.none)⟩
  have K:(bKO (p.map λi=>vs.getD i Value.none)).size=vs.length:=by rw[bWZ,bWK,N]
  refine bWH (seqEpoch_at J rfl ?_)
  refine bWH (cQT J rfl ?_ (bKt _) (bKh (bY5 K) (by rw[bKg];omega)))
  rw[O]
  simp only[bne_self_eq_false,Bool.false_eq_true,if_false]
  exact bWM (u p _ L g q (λd o V e=>(bKe _ _ (bKl V)).trans (U d o V e)) S)
 by_cases m:vs.toArray.size<2
 ·rw[if_pos m,if_pos m];refine bWH (bWM ?_);refine bWH (bWM ?_);have n:vs.length<2:=by rw[bWZ]at m;exact m
  refine l (SortSt.mk' general' (vs.toArray.zip vs.toArray) #[] 7 none) (bWS vs.length) (List.Perm.refl _) ?_ ?_ rfl
  ·rw[bYM];intro i j H hj Z;rw[bKo]at H hj;omega
  ·show((bKO vs).zip (bKO vs)).map (·.2)=_;apply Array.toList_inj.mp;rw[Array.toList_map,Array.toList_zip];simp only[cXx];have t:(cQ5 vs vs).map (·.2)=vs:=List.map_snd_zip (bWN _);rw[t];apply bYU;intro i;rw[bWY];by_cases H:i<vs.length
   ·rw[bYb H];simp[bKC,bWF H]
   ·rw[bKf (by omega),bKf (by rw[bKo];omega)];rfl
 ·have n:2<=vs.length:=by rw[bWZ]at m;omega
  rw[if_neg m,if_neg m];obtain⟨κ,hκ⟩:=y n;obtain⟨hκ,F⟩:=hκ h1 U;refine bWH (bKE (hκ (λk G=>k=κ/\G= {s with heap:=h1}) ⟨rfl,rfl⟩) (λk G Y=>?_) λ_ _ x=>x.elim);obtain⟨rfl,rfl⟩:=Y;have R:(kas_sort vs.length).kasWp (kas_ask prog w A k vs) (λp v=>v= {s with heap:=h1}/\p.toList.Perm (bWS vs.length)/\p.toList.Pairwise (λi j=>r i<r j)) {s with heap:=h1}:=
   Asks.wp (lt:=jN r) F (aXU hr (by omega)) λp X=>⟨rfl,X⟩
  refine bWH (bKE (kat_run (Q:=λh v=>∃p:Array Nat,arrOf h=p.map (kas_item (vs.toArray.zip vs.toArray))/\failedOf h=none/\
    v= {s with heap:=h1}/\p.toList.Perm (bWS vs.length)/\p.toList.Pairwise (λi j=>r i<r j))
   rfl n M (λp' h v a1 a2 a3 W=>⟨p',a2,a3,W⟩) R) ?_ λ_ _ x=>x)
  rintro⟨⟨⟩,h⟩ v ⟨p,T,O,rfl,g,q⟩;dsimp only;exact l _ p.toList g q (kat_snds rfl T) O
end
end Stree
namespace Stree
open PySem PySem.W PySem.Calls PyProof.Rows
abbrev aQf:=List (Int×Int)
abbrev uW:aQf->aQf->Bool:=aWE zT
theorem uL:∀a:aQf,uW a a=false
 |[]=>rfl
 |x::r=>by show(if x=x then aWE zT r r else zT x x)=false;rw[if_pos rfl];exact uL r
theorem qT:∀ {a b c:aQf},uW a b=true->uW b c=true->uW a c=true
 |[],[],_,h,_=>by cases h
 |[],_::_,[],_,h=>by cases h
 |[],_::_,_::_,_,_=>rfl
 |_::_,[],_,h,_=>by cases h
 |_::_,_::_,[],_,h=>by cases h
 |x::a,y::b,z::c,h1,h2=>by
  have f:(if x=y then aWE zT a b else zT x y)=true:=h1;have d:(if y=z then aWE zT b c else zT y z)=true:=h2;show(if x=z then aWE zT a c else zT x z)=true;by_cases i:x=y
  ·rw[if_pos i]at f;subst i;by_cases g:x=z
   ·rw[if_pos g]at d ⊢;exact qT f d
   ·rw[if_neg g]at d ⊢;exact d
  ·rw[if_neg i]at f;by_cases g:y=z
   ·rw[if_pos g]at d;subst g;rw[if_neg i];exact f
   ·rw[if_neg g]at d;have j:=aQt f d;have:x≠z:=λe=>by rw[e,zQ]at j;cases j
    rw[if_neg this];exact j
theorem aJa:∀ {a b:aQf},a≠b->uW a b=true\/uW b a=true
 |[],[],h=>absurd rfl h
 |[],_::_,_=> .inl rfl
 |_::_,[],_=> .inr rfl
 |x::a,y::b,h=>by
  show(if x=y then aWE zT a b else zT x y)=true\/(if y=x then aWE zT b a else zT y x)=true;by_cases e:x=y
  ·subst e;rw[if_pos rfl,if_pos rfl];exact aJa λz=>h (by rw[z])
  ·rw[if_neg e,if_neg (bKl e)];exact aQs e
theorem aZ9:∀ (a:aQf) {b:aQf},b≠ []->uW a (a++b)=true
 |[],[],h=>absurd rfl h
 |[],_::_,_=>rfl
 |x::a,b,h=>by show(if x=x then aWE zT a (a++b)else _)=true;rw[if_pos rfl];exact aZ9 a h
theorem aXw:∀ (a:aQf) {x y:Int×Int} {b c:aQf},zT x y=true->uW (a++x::b) (a++y::c)=true
 |[],x,y,b,c,h=>by
  show(if x=y then aWE zT b c else zT x y)=true;have:x≠y:=λe=>by rw[e,zQ]at h;cases h
  rw[if_neg this];exact h
 |z::a,x,y,b,c,h=>by show(if z=z then aWE zT (a++x::b) (a++y::c)else _)=true;rw[if_pos rfl];exact aXw a h
theorem uniq{α:Type}{lt:α->α->Prop}(d:∀a,¬lt a a)(j:∀a b c,lt a b->lt b c->lt a c):∀ {l m:List α},l.Pairwise lt->m.Pairwise lt->(∀a,a∈l↔a∈m)->l=m
 |[],[],_,_,_=>rfl
 |[],y::m,_,_,h=>by have:=(h y).mpr bWV;cases this
 |x::l,[],_,_,h=>by have:=(h x).mp bWV;cases this
 |x::l,y::m,h1,h2,h=>by
  obtain⟨i,n⟩:=bKL.mp h1;obtain⟨k,o⟩:=bKL.mp h2;have e:x=y:=by
   rcases bWU.mp ((h x).mp bWV)with e|e
   ·exact e
   ·rcases bWU.mp ((h y).mpr bWV)with g|g
    ·exact g.symm
    ·exact absurd (j _ _ _ (i y g) (k x e)) (d x)
  subst e;rw[uniq d j n o λa=>?_];constructor
  ·intro f;rcases bWU.mp ((h a).mp (bWR _ f))with e|e
   ·subst e;exact absurd (i a f) (d a)
   ·exact e
  ·intro f;rcases bWU.mp ((h a).mpr (bWR _ f))with e|e
   ·subst e;exact absurd (k a f) (d a)
   ·exact e
end Stree
namespace L2
open PySem PySem.Spec PyProof.Rows
open Stree (aQf uW)
section
variable {X:Cx}{pins:List (Nat×Obj)}{σ:St}{H:Hp}{s:bWJ}{k:Nat}
end
end L2
namespace Fm
open Stree (aQf uW zT)
structure Ok(n:Nat)(L:Nat->Option Nat)(rk:Nat->Nat):Prop where
 lt:∀i j,i<n->L i=some j->j<n/\rk j<rk i
def rdF(L:Nat->Option Nat)(D:Nat->Int):Nat->Nat->aQf
 |0,i=> [(D i,(i:Int))]
 |f+1,i=>match L i with
  |none=> [(D i,(i:Int))]
  |some j=>rdF L D f j++ [(D i,(i:Int))]
def tpF(L:Nat->Option Nat):Nat->Nat->Nat
 |0,i=>i
 |f+1,i=>match L i with
  |none=>i
  |some j=>tpF L f j
section
variable {n:Nat}{L:Nat->Option Nat}{D:Nat->Int}{rk:Nat->Nat}
theorem aQD{i:Nat}(h:L i=none):∀f,rdF L D f i= [(D i,(i:Int))]
 |0=>rfl
 |f+1=>by unfold rdF;rw[h]
theorem aQY{i:Nat}(h:L i=none):∀f,tpF L f i=i
 |0=>rfl
 |f+1=>by unfold tpF;rw[h]
theorem vS(o:Ok n L rk):∀ (f g i:Nat),i<n->rk i<=f->rk i<=g->rdF L D f i=rdF L D g i
 |f,g,i,hi,hf,hg=>by
  cases h:L i with
  |none=>rw[aQD h,aQD h]
  |some j=>
   obtain⟨a,b⟩:=o.lt i j hi h;cases f with
   |zero=>omega
   |succ f=>
    cases g with
    |zero=>omega
    |succ g=>show(match L i with|none=>_|some j=>rdF L D f j++ [(D i,(i:Int))])=(match L i with|none=>_|some j=>rdF L D g j++ [(D i,(i:Int))]);rw[h];show rdF L D f j++_=rdF L D g j++_;rw[vS o f g j a (by omega) (by omega)]
theorem vV(o:Ok n L rk):∀ (f g i:Nat),i<n->rk i<=f->rk i<=g->tpF L f i=tpF L g i
 |f,g,i,hi,hf,hg=>by
  cases h:L i with
  |none=>rw[aQY h,aQY h]
  |some j=>
   obtain⟨a,b⟩:=o.lt i j hi h;cases f with
   |zero=>omega
   |succ f=>
    cases g with
    |zero=>omega
    |succ g=>show(match L i with|none=>_|some j=>tpF L f j)=(match L i with|none=>_|some j=>tpF L g j);rw[h];exact vV o f g j a (by omega) (by omega)
def rd(L:Nat->Option Nat)(D:Nat->Int)(rk:Nat->Nat)(i:Nat):aQf:=rdF L D (rk i) i
def tp(L:Nat->Option Nat)(rk:Nat->Nat)(i:Nat):Nat:=tpF L (rk i) i
theorem aQF{i:Nat}(h:L i=none):rd L D rk i= [(D i,(i:Int))]:=aQD h _
theorem zM{i:Nat}(h:L i=none):tp L rk i=i:=aQY h _
theorem v7(o:Ok n L rk){i j:Nat}(b:i<n)(h:L i=some j):rd L D rk i=rd L D rk j++ [(D i,(i:Int))]:=by
 obtain⟨a,d⟩:=o.lt i j b h;unfold rd;cases c:rk i with
 |zero=>omega
 |succ m=>show(match L i with|none=>_|some j=>rdF L D m j++ [(D i,(i:Int))])=_;rw[h];show rdF L D m j++_=_;rw[vS o m (rk j) j a (by omega) (bWN _)]
theorem wD(o:Ok n L rk){i j:Nat}(b:i<n)(h:L i=some j):tp L rk i=tp L rk j:=by
 obtain⟨a,d⟩:=o.lt i j b h;unfold tp;cases c:rk i with
 |zero=>omega
 |succ m=>show(match L i with|none=>_|some j=>tpF L m j)=_;rw[h];exact vV o m (rk j) j a (by omega) (bWN _)
theorem aX0(o:Ok n L rk){P:Nat->Prop}(h0:∀i,i<n->L i=none->P i)(a:∀i j,i<n->L i=some j->P j->P i):∀ (m i:Nat),rk i<=m->i<n->P i
 |m,i,hm,hi=>by
  cases h:L i with
  |none=>exact h0 i hi h
  |some j=>
   obtain⟨b,c⟩:=o.lt i j hi h;cases m with
   |zero=>omega
   |succ m=>exact a i j hi h (aX0 o h0 a m j (by omega) b)
theorem aK5(o:Ok n L rk){i:Nat}(a:i<n):tp L rk i<n/\L (tp L rk i)=none:=
 aX0 o (P:=λi=>tp L rk i<n/\L (tp L rk i)=none) (λi a h=>by rw[zM h];exact⟨a,h⟩) (λi j a h b=>by rw[wD o a h];exact b) (rk i) i (bWN _) a
theorem aQE(o:Ok n L rk){i:Nat}(a:i<n):∃r,rd L D rk i=r++ [(D i,(i:Int))]:=by
 cases h:L i with
 |none=>exact⟨[],aQF h⟩
 |some j=>exact⟨_,v7 o a h⟩
theorem bXl(o:Ok n L rk){i j:Nat}(c:i<n)(a:j<n)(h:rd L D rk i=rd L D rk j):i=j:=by
 obtain⟨r,e⟩:=aQE (D:=D) o c;obtain⟨d,b⟩:=aQE (D:=D) o a;rw[e,b]at h;have:=(cQN h rfl).2;injection this with z _;have:=congrArg Prod.snd z;simp only at this;omega
theorem bZB(o:Ok n L rk){i:Nat}(a:i<n):∃r,rd L D rk i=(D (tp L rk i),((tp L rk i:Nat):Int))::r:=
 aX0 o (P:=λi=>∃r,rd L D rk i=(D (tp L rk i),((tp L rk i:Nat):Int))::r) (λi a h=>⟨[],by rw[aQF h,zM h]⟩)
  (λi j a h ⟨r,e⟩=>⟨r++ [(D i,(i:Int))],by rw[v7 o a h,wD o a h,e];rfl⟩) (rk i) i (bWN _) a
def Un(L:Nat->Option Nat)(D:Nat->Int)(rk:Nat->Nat)(v z:Nat):Prop:=rd L D rk v<+:rd L D rk z
theorem bVo(o:Ok n L rk){i:Nat}(a:i<n):Un L D rk (tp L rk i) i:=by
 obtain⟨r,e⟩:=bZB (D:=D) o a;have h:=(aK5 o a).2;unfold Un;rw[aQF h,e];exact⟨r,rfl⟩
theorem bQS(o:Ok n L rk){v:Nat}(q:v<n):∀ {k:Nat},k<n->Un L D rk v k->k≠v->∃c,c<n/\L c=some v/\Un L D rk c k:=λ{k} b i a=>by
 refine aX0 o (P:=λk=>Un L D rk v k->k≠v->∃c,c<n/\L c=some v/\Un L D rk c k) (λk b h i a=>?_) (λk p b h u i a=>?_) (rk k) k (bWN _) b i a
 ·obtain⟨r,e⟩:=i;obtain⟨j,m⟩:=aQE (D:=D) o q;rw[aQF h,m]at e;have hl:=congrArg List.length e;simp only[bWW,bKH,cQu]at hl;have t:j= []:=bK2 (by omega);have s:r= []:=bK2 (by omega);rw[t,s]at e;injection e with z _;have:=congrArg Prod.snd z;simp only at this;omega
 ·obtain⟨y,_⟩:=o.lt k p b h;have d:=i;unfold Un at d;rw[v7 o b h]at d;by_cases g:p=v
  ·subst g;exact⟨k,b,h,List.prefix_refl _⟩
  ·have f:Un L D rk v p:=by
    obtain⟨r,e⟩:=d;rcases List.eq_nil_or_concat r with rfl|⟨j,x,rfl⟩
    ·rw[bKI]at e;obtain⟨j,m⟩:=aQE (D:=D) o q;rw[m]at e;have:=(cQN e rfl).2;injection this with z _;have:=congrArg Prod.snd z;simp only at this;omega
    ·rw[List.concat_eq_append,<- bKQ]at e;exact⟨j,(cQN e rfl).1⟩
   obtain⟨c,w,hl,l⟩:=u f g;refine⟨c,w,hl,?_⟩;unfold Un;rw[v7 o b h];exact List.IsPrefix.trans l (List.prefix_append _ _)
theorem bVn(o:Ok n L rk){v z:Nat}(b:v<n)(hz:z<n)(h:Un L D rk v z)(a:z≠v):uW (rd L D rk v) (rd L D rk z)=true:=by
 obtain⟨r,e⟩:=h;rw[<- e];refine Stree.aZ9 _ λc=>a ?_;rw[c,bKI]at e;exact(bXl o b hz e).symm
theorem bJ9(o:Ok n L rk){v c d z:Nat}(h:c<n)(b:d<n)(f:L c=some v)(i:L d=some v)(a:zT (D c,(c:Int)) (D d,(d:Int))=true)(g:Un L D rk c z):uW (rd L D rk z) (rd L D rk d)=true:=by
 obtain⟨r,e⟩:=g;rw[<- e,v7 o h f,v7 o b i,bKQ];exact Stree.aXw _ a
structure aX3(n:Nat)(L:Nat->Option Nat)(D:Nat->Int)(rk:Nat->Nat)(root:Nat)(told nx:List Nat):Prop where
 tl:∀x∈told,x<n/\tp L rk x=root
 al:∀x∈nx,x<n/\tp L rk x=root
 tt:told.Pairwise λx y=>uW (rd L D rk x) (rd L D rk y)=true
 ta:∀x∈told,∀y∈nx,uW (rd L D rk x) (rd L D rk y)=true
 aa:nx.Pairwise λx y=>∀z,Un L D rk x z->uW (rd L D rk z) (rd L D rk y)=true
 all:∀k,k<n->tp L rk k=root->k∈told\/∃a∈nx,Un L D rk a k
theorem aX3.start(o:Ok n L rk){i:Nat}(c:i<n):aX3 n L D rk (tp L rk i) [] [tp L rk i]:=by
 have h:=aK5 o c;refine⟨λx a=>(nomatch a),λx a=>?_,.nil,λx a=>(nomatch a),bYn _ _,λk b e=> .inr ⟨_,bW8.mpr rfl,?_⟩⟩
 ·rw[bW8.mp a];exact⟨h.1,by rw[zM h.2]⟩
 ·have z:=bVo (D:=D) o b;rw[e]at z;exact z
theorem aX3.step(o:Ok n L rk){g v:Nat}{j qB zU:List Nat}(W:aX3 n L D rk g j (v::qB))(E:∀i,i∈zU↔i<n/\L i=some v)(H:zU.Pairwise λx y=>zT (D x,(x:Int)) (D y,(y:Int))=true):aX3 n L D rk g (j++ [v]) (zU++qB):=by
 obtain⟨B,q⟩:=W.al v bWV;obtain⟨C,G⟩:=bKL.mp W.aa;have kid:∀c∈zU,c<n/\L c=some v/\tp L rk c=g/\Un L D rk v c/\c≠v:=λc l=>by
  obtain⟨s,r⟩:=(E c).mp l;refine⟨s,r,by rw[wD o s r];exact q,?_,λz=>?_⟩
  ·unfold Un;rw[v7 o s r];exact List.prefix_append _ _
  ·have:=(o.lt c v s r).2;rw[z]at this;omega
 have self:∀x,Un L D rk x x:=λx=>List.prefix_refl _;refine⟨λx b=>?_,λx b=>?_,?_,λx b y f=>?_,?_,λk m u=>?_⟩
 ·rcases bKn.mp b with b|b
  ·exact W.tl x b
  ·rw[bW8.mp b];exact⟨B,q⟩
 ·rcases bKn.mp b with b|b
  ·exact⟨(kid x b).1,(kid x b).2.2.1⟩
  ·exact W.al x (bWR _ b)
 ·refine cQP.mpr ⟨W.tt,bYn _ _,λx b y f=>?_⟩;rw[bW8.mp f];exact W.ta x b v bWV
 ·have p:∀y∈zU++qB,uW (rd L D rk v) (rd L D rk y)=true:=λy f=>by
   rcases bKn.mp f with f|f
   ·exact bVn o B (kid y f).1 (kid y f).2.2.2.1 (kid y f).2.2.2.2
   ·exact C y f v (self v)
  rcases bKn.mp b with b|b
  ·exact Stree.qT (W.ta x b v bWV) (p y f)
  ·rw[bW8.mp b];exact p y f
 ·refine cQP.mpr ⟨H.imp_of_mem λ{c d} l hd h z t=>bJ9 o (kid c l).1 (kid d hd).1 (kid c l).2.1 (kid d hd).2.1 h t,G,λc l y f z t=>?_⟩;exact C y f z (List.IsPrefix.trans (kid c l).2.2.2.1 t)
 ·rcases W.all k m u with h|⟨a,w,F⟩
  ·exact .inl (bYO _ h)
  ·rcases bWU.mp w with rfl|w
   ·by_cases e:k=a
    ·exact .inl (bW5 _ (bW8.mpr e))
    ·obtain⟨c,l,hl,A⟩:=bQS o B m F e;exact .inr ⟨c,bYO _ ((E c).mpr ⟨l,hl⟩),A⟩
   ·exact .inr ⟨a,bW5 _ w,F⟩
theorem aX3.nodup{b:Nat}{a nx:List Nat}(W:aX3 n L D rk b a nx):a.Nodup:=
 W.tt.imp λ{x y} h z=>by rw[z,Stree.uL]at h;cases h
theorem zD:∀ {n:Nat} {l:List Nat},l.Nodup->(∀x∈l,x<n)->l.length<=n
 |0,[],_,_=>bWN _
 |0,x::_,_,h=>absurd (h x bWV) (bKK _)
 |n+1,l,nd,h=>by
  by_cases b:n∈l
  ·have c:=zD (n:=n) (l:=l.erase n) (nd.erase n) λx a=>by
    have:=(List.Nodup.mem_erase_iff nd).mp a;have:=h x this.2;omega
   rw[List.length_erase_of_mem b]at c;omega
  ·have c:=zD (n:=n) (l:=l) nd λx a=>by
    have:=h x a;have:x≠n:=λz=>b (z ▸ a);omega
   omega
theorem aX3.len{b:Nat}{a nx:List Nat}(W:aX3 n L D rk b a nx):a.length<=n:=zD W.nodup λx c=>(W.tl x c).1
theorem aX3.done{b:Nat}{c:List Nat}(W:aX3 n L D rk b c [])(k:Nat):k∈c↔k<n/\tp L rk k=b:=
 ⟨λh=>W.tl k h,λ⟨d,f⟩=>(W.all k d f).elim id λ⟨a,e,_⟩=>nomatch e⟩
end
end Fm
namespace Fm
open Stree (aQf uW zT)
section
variable {n:Nat}{L:Nat->Option Nat}{D:Nat->Int}{rk rk':Nat->Nat}
theorem aKb(o:Ok n L rk)(b:Ok n L rk'){i:Nat}(a:i<n):rd L D rk i=rd L D rk' i:=by
 unfold rd;rw[vS o (rk i) (max (rk i) (rk' i)) i a (bWN _) (Nat.le_max_left _ _),vS b (rk' i) (max (rk i) (rk' i)) i a (bWN _) (Nat.le_max_right _ _)]
theorem uC(o:Ok n L rk)(b:Ok n L rk'){i:Nat}(a:i<n):tp L rk i=tp L rk' i:=by
 unfold tp;rw[vV o (rk i) (max (rk i) (rk' i)) i a (bWN _) (Nat.le_max_left _ _),vV b (rk' i) (max (rk i) (rk' i)) i a (bWN _) (Nat.le_max_right _ _)]
theorem bXY(o:Ok n L rk){a b:Nat}(ha:a<n)(hb:b<n)(h0:L a=none)(hne:tp L rk b≠a):Ok n (λi=>if i=a then some b else L i) (λi=>if tp L rk i=a then rk i+rk b+1 else rk i) where
 lt:=λi j hi h=>by
  by_cases e:i=a
  ·subst e
   rw[if_pos rfl]at h
   cases h
   rw[if_neg hne,if_pos (zM h0)]
   exact⟨hb,by omega⟩
  ·rw[if_neg e]at h
   obtain⟨hj,hr⟩:=o.lt i j hi h
   have et:=wD o hi h
   refine⟨hj,?_⟩
   rw[et]
   split<;> omega
theorem aYK(o:Ok n L rk)(a:Nat):Ok n (λi=>if i=a then none else L i) rk where
 lt:=λi j hi h=>by
  by_cases e:i=a
  ·rw[if_pos e]at h;cases h
  ·rw[if_neg e]at h;exact o.lt i j hi h
def bXy(rk:Nat->Nat):Option Nat->Nat
 |none=>0
 |some j=>rk j+1
theorem aYt(o:Ok n L rk)(l:Option Nat)(hl:∀j,l=some j->j<n):Ok (n+1) (λi=>if i=n then l else L i) (λi=>if i=n then bXy rk l else rk i) where
 lt:=λi j hi h=>by
  by_cases e:i=n
  ·rw[if_pos e]at h
   have hj:=hl j h
   rw[if_pos e,if_neg (by omega),h]
   exact⟨by omega,bKP _⟩
  ·rw[if_neg e]at h
   obtain⟨hj,hr⟩:=o.lt i j (by omega) h
   rw[if_neg e,if_neg (by omega)]
   exact⟨by omega,hr⟩
theorem bZ7(o:Ok n L rk){i:Nat}(a:i<n):tp L rk (tp L rk i)=tp L rk i:=zM (aK5 o a).2
theorem Ok.congr{a:Nat->Option Nat}(o:Ok n L rk)(h:∀i,i<n->L i=a i):Ok n a rk:=⟨λi j b e=>o.lt i j b ((h i b).trans e)⟩
end
end Fm
namespace Dm
def opn(d:Int):Bool:=decide (d % 7<5)
def cts(a:List Int)(d:Int):Bool:=opn d && !(a.contains d)
def cnt(b:List Int)(a:Int):Nat->Nat
 |0=>0
 |n+1=>cnt b a n+(if cts b (a+n)then 1 else 0)
def place(d:Int):Int:=d / 7*5+(if 4<d % 7 then 4 else d % 7)
def x0(p:Int):Int:=p / 5*7+p % 5
theorem aVp(d:Int):place d=place (d - 1)+(if opn d then 1 else 0):=by
 unfold place opn;simp only[decide_eq_true_eq];split<;> split<;> split<;> omega
theorem bXK(b:List Int)(a:Int)(n m:Nat):cnt b a (n+m)=cnt b a n+cnt b (a+n) m:=by
 induction m with
 |zero=>rfl
 |succ m c=>have e:cnt b a (n+(m+1))=cnt b a (n+m)+(if cts b (a+((n+m:Nat):Int))then 1 else 0):=rfl;have d:cnt b (a+n) (m+1)=cnt b (a+n) m+(if cts b (a+n+(m:Int))then 1 else 0):=rfl;rw[e,d,c,show a+((n+m:Nat):Int)=a+n+(m:Int) by omega];omega
def wA(a b:Int)(d:Int):Bool:=decide (a<=d) && decide (d<=b)
theorem aZd{S:List Int}(i:S.Nodup)(a b:Int)(g:a<=b+1): (S.filter (wA a (b+1))).length=(S.filter (wA a b)).length+(if S.contains (b+1)then 1 else 0):=by
 induction S with
 |nil=>rfl
 |cons x r c=>
  have d:=bK4.mp i;have c:=c d.2;by_cases k:x=b+1
  ·subst k;have j:r.contains (b+1)=false:=by
    rw[<- Bool.not_eq_true,bKW];exact d.1
   rw[j]at c;have e:wA a (b+1) (b+1)=true:=by simp[wA,g]
   have h:wA a b (b+1)=false:=by simp[wA];omega
   rw[bYm e,bYl (by rw[h];decide)];simp at c ⊢;omega
  ·have e:wA a (b+1) x=wA a b x:=by
    unfold wA;have:decide (x<=b+1)=decide (x<=b):=by rw[decide_eq_decide];omega
    rw[this]
   have h:(x::r).contains (b+1)=r.contains (b+1):=by
    rw[bYJ];have:(b+1==x)=false:=by simp;omega
    rw[this,Bool.false_or]
   rw[h];by_cases f:wA a b x=true
   ·rw[bYm (by rw[e];exact f),bYm f];simp only[bKH];omega
   ·rw[bYl (by rw[e];exact f),bYl f];exact c
theorem aJR{b S:List Int}(e:S.Nodup)(g:∀d,d∈S↔d∈b/\opn d=true)(a:Int)(n:Nat): (cnt b a n:Int)=place (a+n - 1) - place (a - 1) - ((S.filter (wA a (a+n - 1))).length:Nat):=by
 induction n with
 |zero=>
  have:S.filter (wA a (a+(0:Nat) - 1))= []:=by rw[List.filter_eq_nil_iff];intro x _;simp[wA];omega
  rw[this];simp[cnt]
 |succ n j=>
  have f:=aZd e a (a+n - 1) (by omega);rw[show a+(n:Int) - 1+1=a+n by omega]at f;have p:=aVp (a+n);rw[show a+((n+1:Nat):Int) - 1=a+n by omega];show((cnt b a n+(if cts b (a+n)then 1 else 0):Nat):Int)=_;have c:(if cts b (a+n)then 1 else 0:Nat)+(if S.contains (a+n)then 1 else 0:Nat)=(if opn (a+n)then 1 else 0:Nat):=by
   have i:S.contains (a+n)=(b.contains (a+n) && opn (a+n)):=by rw[Bool.eq_iff_iff,bKW,Bool.and_eq_true,bKW];exact g _
   rw[i];unfold cts;cases opn (a+↑n)<;> cases b.contains (a+↑n)<;> rfl
  have h:place (a+n)=place (a+n - 1)+((if opn (a+n)then 1 else 0:Nat):Int):=by rw[p];cases opn (a+↑n)<;> rfl
  rw[h,f];push_cast;omega
theorem aZx(p:Int):place (x0 p)=p:=by
 unfold place x0;split<;> omega
theorem aXE(p:Int):opn (x0 p)=true:=by
 unfold opn x0;rw[decide_eq_true_eq];omega
theorem aYk{p q:Int}(h:p<q):x0 p<x0 q:=by
 unfold x0;omega
theorem aYj{p q:Int}(h:p<=q):x0 p<=x0 q:=by
 unfold x0;omega
theorem aX9(d:Int):d<x0 (place d+1):=by
 unfold place x0;split<;> omega
def vF(date:Int)(p c:Int):Int:=if date<c/\c<=x0 p then p+1 else p
def aQm(date:Int)(p:Int)(C:List Int):Int:=C.foldl (vF date) p
def wC(date e:Int)(c:Int):Bool:=decide (date<c) && decide (c<=e)
theorem aZZ{date:Int}(f:Int):∀ (d b:List Int)(p:Int),(b++d).Pairwise (·<·)->
  p=f+((b.filter (wC date (x0 p))).length:Nat)->(∀c∈b,date<c->c≠x0 p)->f<=p->
  ∃q,aQm date p d=q/\q=f+(((b++d).filter (wC date (x0 q))).length:Nat)/\(∀c∈b++d,date<c->c≠x0 q)/\f<=q
 |[],b,p,_,h1,h2,h3=>⟨p,rfl,by rw[bKI];exact h1,by rw[bKI];exact h2,h3⟩
 |c::d,b,p,hs,h1,h2,h3=>by
  have g:((b++ [c])++d).Pairwise (·<·):=by rw[bKQ];exact hs
  have lt:∀x∈b,x<c:=λx a=>(cQP.mp hs).2.2 x a c (bWV ..);have h:=aZZ (date:=date) f d (b++ [c]);have step:aQm date p (c::d)=aQm date (vF date p c) d:=rfl;rw[step,show b++c::d=(b++ [c])++d by simp];by_cases j:date<c/\c<=x0 p
  ·have e:vF date p c=p+1:=if_pos j;rw[e];have up:=aYk (show p<p+1 by omega);refine h (p+1) g ?_ ?_ (by omega)
   ·have l:b.filter (wC date (x0 (p+1)))=b.filter (wC date (x0 p)):=by
     refine List.filter_congr λx a=>?_;have:=lt x a;unfold wC;have q:decide (x<=x0 (p+1))=decide (x<=x0 p):=by rw[decide_eq_decide];omega
     rw[q]
    have i:wC date (x0 (p+1)) c=true:=by simp[wC];omega
    rw[bKV,l,bYm i,bWW];simp only[List.filter_nil,bKH,cQu];omega
   ·intro x a k;rcases bKn.mp a with a|a
    ·have:=lt x a;omega
    ·have:x=c:=by simpa using a
     omega
  ·have e:vF date p c=p:=if_neg j;rw[e];refine h p g ?_ ?_ h3
   ·have i:wC date (x0 p) c=false:=by simp[wC];omega
    rw[bKV,bYl (by rw[i];decide)];simpa using h1
   ·intro x a k;rcases bKn.mp a with a|a
    ·exact h2 x a k
    ·have:x=c:=by simpa using a
     omega
structure Due(sh:List Int)(date term D:Int):Prop where
 later:date<D
 cts:cts sh D=true
 cnt:(cnt sh (date+1) (D - date).toNat:Int)=term
theorem bQ6{c C:List Int}{date term:Int}(p:1<=term)(f:C.Pairwise (·<·))(g:∀d,d∈C↔d∈c/\opn d=true): Due c date term (x0 (aQm date (place date+term) C)):=by
 obtain⟨q,e,l,b,o⟩:=aZZ (date:=date) (place date+term) C [] (place date+term) (by simpa using f) (by simp) (by simp) (Int.le_refl _);rw[e];rw[List.nil_append]at l b;have a:date<x0 q:=Int.lt_of_lt_of_le (aX9 date) (aYj (by omega));refine⟨a,?_,?_⟩
 ·unfold Dm.cts;rw[aXE,Bool.true_and,Bool.not_eq_true'];rw[<- Bool.not_eq_true,bKW];exact λz=>b _ ((g _).mpr ⟨z,aXE q⟩) a rfl
 ·have m:C.Nodup:=f.imp λh=>by omega
  have k:=aJR m g (date+1) (x0 q - date).toNat;have i:date+1+((x0 q - date).toNat:Int) - 1=x0 q:=by omega
  have n:date+1 - 1=date:=by omega
  rw[i,n,aZx]at k;have j:C.filter (wA (date+1) (x0 q))=C.filter (wC date (x0 q)):=by
   refine List.filter_congr λx _=>?_;unfold wA wC;have:decide (date+1<=x)=decide (date<x):=by rw[decide_eq_decide];omega
   rw[this]
  rw[j]at k;omega
theorem aYg(b:List Int)(a:Int){n m:Nat}(h:n<=m):cnt b a n<=cnt b a m:=by
 obtain⟨k,rfl⟩:=Nat.le.dest h;rw[bXK];omega
theorem Due.less{a:List Int}{date term D:Int}(u:Due a date term D){n:Nat}(h:date+n<D):(Dm.cnt a (date+1) n:Int)<term:=by
 have e:(D - date).toNat=((D - date).toNat - 1)+1:=by have:=u.later;omega
 have k:=u.cnt;rw[e]at k;have b:Dm.cnt a (date+1) (((D - date).toNat - 1)+1)=Dm.cnt a (date+1) ((D - date).toNat - 1)+(if Dm.cts a (date+1+(((D - date).toNat - 1:Nat):Int))then 1 else 0):=rfl;have c:date+1+(((D - date).toNat - 1:Nat):Int)=D:=by have:=u.later;omega
 rw[c,u.cts]at b;have m:=aYg a (date+1) (show n<=(D - date).toNat - 1 by omega);simp only[if_true]at b;omega
theorem Due.uniq{d:List Int}{date term D c:Int}(u:Due d date term D)(v:Due d date term c):D=c:=by
 have a:=u.later;have b:=v.later;have e:¬D<c:=λh=>by have:=v.less (n:=(D - date).toNat) (by omega);have:=u.cnt;omega
 have f:¬c<D:=λh=>by have:=u.less (n:=(c - date).toNat) (by omega);have:=v.cnt;omega
 omega
end Dm
namespace Bk
open PySem (Str)
open Stree (aQf uW zT)
structure Row where
 way:Str
 date:Int
 partner:Str
 term:Int
 link:Option Nat
 place:Str
 void:Bool
 copies:List Str
abbrev Rows:=List Row
def lk(R:Rows)(i:Nat):Option Nat:=(R[i]?).bind (·.link)
def dt(R:Rows)(i:Nat):Int:=((R[i]?).map (·.date)).getD 0
def vP(R:Rows)(m:Int):Bool:=decide (0<=m) && (match R[m.toNat]? with|some r=> !r.void|none=>false)
def vY(R:Rows):Prop:=∃a,Fm.Ok R.length (lk R) a
def zN(R:Rows)(i:Nat)(l:List Nat):Prop:=∃a,Fm.Ok R.length (lk R) a/\(l.Pairwise λx y=>uW (Fm.rd (lk R) (dt R) a x) (Fm.rd (lk R) (dt R) a y)=true)/\∀k,k∈l↔k<R.length/\Fm.tp (lk R) a k=Fm.tp (lk R) a i
theorem zN.uniq{R:Rows}{i:Nat}{l m:List Nat}(n:i<R.length)(j:zN R i l)(f:zN R i m):l=m:=by
 obtain⟨q,o,p,e⟩:=j;obtain⟨r,d,s,g⟩:=f;refine Stree.uniq (lt:=λx y=>uW (Fm.rd (lk R) (dt R) q x) (Fm.rd (lk R) (dt R) q y)=true) (λa h=>by rw[Stree.uL]at h;cases h) (λa b c j f=>Stree.qT j f) p ?_ λk=>?_
 ·refine s.imp_of_mem λ{x y} hx hy h=>?_;rw[Fm.aKb o d ((g x).mp hx).1,Fm.aKb o d ((g y).mp hy).1];exact h
 ·rw[e k,g k];constructor
  ·rintro⟨a,b⟩;exact⟨a,by rw[<- Fm.uC o d a,<- Fm.uC o d n];exact b⟩
  ·rintro⟨a,b⟩;exact⟨a,by rw[Fm.uC o d a,Fm.uC o d n];exact b⟩
def zU(R:Rows)(i:Nat):List Nat:=(bWS R.length).filter λk=>decide (lk R k=some i)
def waits(R:Rows)(i:Nat)(d:Int):Bool:=match R[i]? with
 |none=>false
 |some r=> !r.void && decide (1<=r.term) && decide (r.date<=d) && (zU R i).all λk=>decide (d<dt R k)
def xD(R:Rows)(i:Nat)(f:Row->Row):Rows:=match R[i]? with
 |some r=>R.set i (f r)
 |none=>R
theorem xS(R:Rows)(i:Nat)(f:Row->Row):(xD R i f).length=R.length:=by unfold xD;split<;> simp
theorem xN(R:Rows)(i j:Nat)(f:Row->Row):(xD R i f)[j]? =if j=i then(R[j]?).map f else R[j]? :=by
 unfold xD;by_cases e:j=i
 ·subst e;rw[if_pos rfl];cases h:R[j]? with
  |none=>simp[h]
  |some r=>have a:j<R.length:=(bWP.mp h).1;simp[bY1 a]
 ·rw[if_neg e];cases h:R[i]? with
  |none=>rfl
  |some r=>simp[cQO (bKl e)]
def laid(R:Rows)(l:List Nat)(name:Str):Rows:=l.foldl (λR k=>xD R k λr=>{r with place:=name}) R
theorem uM(R:Rows)(i:Nat)(f:Row->Row)(h:∀r,(f r).link=r.link):lk (xD R i f)=lk R:=by
 funext j;unfold lk;rw[xN];by_cases e:j=i
 ·rw[if_pos e];cases R[j]? with
  |none=>rfl
  |some r=>exact h r
 ·rw[if_neg e]
theorem wV(name:Str):∀ (l:List Nat)(R:Rows),(laid R l name).length=R.length
 |[],R=>rfl
 |k::l,R=>by show(laid (xD R k _) l name).length=_;rw[wV name l,xS]
theorem qP(name:Str):∀ (l:List Nat)(R:Rows),lk (laid R l name)=lk R
 |[],R=>rfl
 |k::l,R=>by show lk (laid (xD R k _) l name)=_;rw[qP name l,uM R k (λr=>{r with place:=name}) λ_=>rfl]
theorem wU(name:Str):∀ (l:List Nat)(R:Rows)(j:Nat),(laid R l name)[j]? =if j∈l then(R[j]?).map (λr=>{r with place:=name})else R[j]?
 |[],R,j=>by simp[laid]
 |k::l,R,j=>by
  show(laid (xD R k _) l name)[j]? =_;rw[wU name l,xN];by_cases e:j=k
  ·subst e;rw[if_pos rfl,if_pos bWV];split
   ·cases R[j]? <;> rfl
   ·rfl
  ·rw[if_neg e];by_cases hl:j∈l
   ·rw[if_pos hl,if_pos (bWR _ hl)]
   ·rw[if_neg hl,if_neg (by simp[e,hl])]
theorem vY.laid{R:Rows}(t:vY R)(l:List Nat)(name:Str):vY (laid R l name):=by
 obtain⟨a,o⟩:=t;refine⟨a,?_⟩;rw[wV,qP];exact o
theorem vY.same{R:Rows}(t:vY R)(i:Nat)(f:Row->Row)(h:∀r,(f r).link=r.link):vY (xD R i f):=by
 obtain⟨a,o⟩:=t;refine⟨a,?_⟩;rw[xS,uM R i f h];exact o
theorem aJc(R:Rows){i:Nat}(a:i<R.length)(f:Row->Row)(l:Option Nat)(h:∀r,(f r).link=l):lk (xD R i f)=λj=>if j=i then l else lk R j:=by
 funext j;unfold lk;rw[xN];by_cases e:j=i
 ·subst e;rw[if_pos rfl,if_pos rfl,bWF a];exact h _
 ·rw[if_neg e,if_neg e]
theorem vY.loose{R:Rows}(t:vY R){i:Nat}(b:i<R.length)(f:Row->Row)(h:∀r,(f r).link=none):vY (xD R i f):=by
 obtain⟨a,o⟩:=t;refine⟨a,?_⟩;rw[xS,aJc R b f none h];exact Fm.aYK o i
theorem vY.hang{R:Rows}{rk:Nat->Nat}(o:Fm.Ok R.length (lk R) rk){i j:Nat}(b:i<R.length)(c:j<R.length)(h0:lk R i=none)(a:Fm.tp (lk R) rk j≠i)(f:Row->Row)(h:∀r,(f r).link=some j):vY (xD R i f):=by
 refine⟨λk=>if Fm.tp (lk R) rk k=i then rk k+rk j+1 else rk k,?_⟩;rw[xS,aJc R b f (some j) h];exact Fm.bXY o b c h0 a
theorem bZb(R:Rows)(r:Row):∀i,i<R.length+1->lk (R++ [r]) i=if i=R.length then r.link else lk R i:=λi a=>by
 unfold lk;by_cases e:i=R.length
 ·subst e;rw[if_pos rfl,bW0 (bWN _)];simp
 ·rw[if_neg e,bW7 (by omega)]
theorem vY.enter{R:Rows}(t:vY R)(r:Row)(h:∀j,r.link=some j->j<R.length):vY (R++ [r]):=by
 obtain⟨a,o⟩:=t;have z:=Fm.aYt o r.link h;refine⟨λi=>if i=R.length then Fm.bXy a r.link else a i,?_⟩;rw[bWW,bKY];exact z.congr λi b=>(bZb R r i b).symm
end Bk
namespace Bk
open PySem (Str)
open Stree (aQf uW zT)
theorem aKM{n:Nat}{L:Nat->Option Nat}{D:Nat->Int}{rk:Nat->Nat}(o:Fm.Ok n L rk):∀l:List Nat,l.Nodup->(∀k∈l,k<n)->∃m:List Nat,m.Perm l/\m.Pairwise λx y=>uW (Fm.rd L D rk x) (Fm.rd L D rk y)=true
 |[],_,_=>⟨[],.refl _,.nil⟩
 |x::l,nd,h=>by
  obtain⟨m,g,s⟩:=aKM (D:=D) o l (bK4.mp nd).2 λk c=>h k (bWR _ c);have r:x<n:=h x bWV;have i:∀k∈m,k<n/\k≠x:=λk c=>⟨h k (bWR _ (g.mem_iff.mp c)),λz=>(bK4.mp nd).1 (by rw[<- z];exact g.mem_iff.mp c)⟩;have ins:∀m:List Nat,(∀k∈m,k<n/\k≠x)->(m.Pairwise λx y=>uW (Fm.rd L D rk x) (Fm.rd L D rk y)=true)->∃d:List Nat,d.Perm (x::m)/\d.Pairwise λx y=>uW (Fm.rd L D rk x) (Fm.rd L D rk y)=true:=by
   intro m;induction m with
   |nil=>intro _ _;exact⟨[x],.refl _,bYn _ _⟩
   |cons y m t=>
    intro p j;obtain⟨a,b⟩:=bKL.mp j;have q:=p y bWV;rcases Stree.aJa (λz=>q.2 (Fm.bXl o q.1 r z):Fm.rd L D rk y≠Fm.rd L D rk x)with z|z
    ·obtain⟨d,e,f⟩:=t (λk c=>p k (bWR _ c)) b;refine⟨y::d,(List.Perm.cons _ e).trans (List.Perm.swap _ _ _),bKL.mpr ⟨λk c=>?_,f⟩⟩;rcases bWU.mp (e.mem_iff.mp c)with rfl|c
     ·exact z
     ·exact a k c
    ·refine⟨x::y::m,.refl _,bKL.mpr ⟨λk c=>?_,j⟩⟩;rcases bWU.mp c with rfl|c
     ·exact z
     ·exact Stree.qT z (a k c)
  obtain⟨d,e,f⟩:=ins m i s;exact⟨d,e.trans (List.Perm.cons _ g),f⟩
theorem aK3{R:Rows}(t:vY R)(i:Nat):∃l,zN R i l:=by
 obtain⟨a,o⟩:=t;obtain⟨m,d,b⟩:=aKM (D:=dt R) o ((bWS R.length).filter λk=>decide (Fm.tp (lk R) a k=Fm.tp (lk R) a i)) (bY0.sublist bYZ) λk c=>bKc.mp (bKA.mp c).1;refine⟨m,a,o,b,λk=>?_⟩;rw[d.mem_iff,bKA,bKc,decide_eq_true_eq]
open Classical in
noncomputable def thr (R:Rows) (i:Nat):List Nat:=if h:∃l,zN R i l then choose h else []
theorem Z4{R:Rows}(t:vY R)(i:Nat):zN R i (thr R i):=by
 have h:=aK3 t i;unfold thr;rw[dif_pos h];exact cXm h
theorem bVm{R:Rows}{i:Nat}(b:i<R.length){l:List Nat}(h:zN R i l):thr R i=l:=
 zN.uniq b (by obtain⟨a,o,_⟩:=h;exact Z4 ⟨a,o⟩ i) h
open Classical in
noncomputable def due (shut:List Int) (d t:Int):Int:=if h:∃D,Dm.Due shut d t D then choose h else d
theorem bQ4{shut:List Int}{d t D:Int}(h:Dm.Due shut d t D):due shut d t=D:=by
 have a:∃D,Dm.Due shut d t D:=⟨D,h⟩;unfold due;rw[dif_pos a];exact(cXm a).uniq h
structure aQ0(R:Rows)(shut:List Int)(d:Int)(late:Bool)(l:List Nat):Prop where
 mem:∀k,k∈l↔k<R.length/\waits R k d=true/\(late=true->due shut (dt R k) (((R[k]?).map (·.term)).getD 0)<d)
 ord:l.Pairwise λx y=>zT (due shut (dt R x) (((R[x]?).map (·.term)).getD 0),(x:Int)) (due shut (dt R y) (((R[y]?).map (·.term)).getD 0),(y:Int))=true
theorem aQ0.uniq{R:Rows}{shut:List Int}{d:Int}{e:Bool}{l m:List Nat}(f:aQ0 R shut d e l)(g:aQ0 R shut d e m):l=m:=
 Stree.uniq (lt:=λx y=>zT (due shut (dt R x) (((R[x]?).map (·.term)).getD 0),(x:Int)) (due shut (dt R y) (((R[y]?).map (·.term)).getD 0),(y:Int))=true) (λa h=>by rw[Stree.zQ]at h;cases h) (λa b c f g=>Stree.aQt f g) f.ord g.ord λk=>by rw[f.mem k,g.mem k]
inductive Ans where
 |num (n:Int)|txt (x:Str)|nums (l:List Nat)|txts (l:List Str)|row (r:Row)
inductive y3 where
 |enter (way:Str) (day:Int) (who:Str) (term:Int)|reply (m:Int) (day term:Int)|hang (m o:Int)|loose (m:Int)|date (m d:Int)|term (m t:Int)
 |copy (m:Int) (who:Str)|file (m:Int) (name:Str)|void (m:Int)|shut (d:Int)|state (m:Int)|thread (m:Int)|copies (m:Int)|letters (name:Str)|on (late:Bool) (d:Int)
def wM(way:Str):Str:=if way="in" then "out" else "in"
inductive xX(R:Rows)(S:List Int):y3->Ans->Rows->List Int->Prop
 |enter {way who:Str} {d t:Int} (h:0<=t):xX R S (.enter way d who t) (.num R.length) (R++ [⟨way,d,who,t,none,"",false,[]⟩]) S
 |enterT {way who:Str} {d t:Int} (h:t<0):xX R S (.enter way d who t) (.txt "no term") R S
 |replyN {m d t:Int} (h:vP R m=false):xX R S (.reply m d t) (.txt "no letter") R S
 |replyT {m d t:Int} (h:vP R m=true) (ht:t<0):xX R S (.reply m d t) (.txt "no term") R S
 |replyE {k:Nat} {d t:Int} {r:Row} (hk:R[k]? =some r) (h:r.void=false) (ht:0<=t) (hd:d<r.date):xX R S (.reply k d t) (.txt "too early") R S
 |reply {k:Nat} {d t:Int} {r:Row} (hk:R[k]? =some r) (h:r.void=false) (ht:0<=t) (hd:r.date<=d):xX R S (.reply k d t) (.num R.length) (R++ [⟨wM r.way,d,r.partner,t,some k,r.place,false,[]⟩]) S
 |hangN {m o:Int} (h:vP R m=false\/vP R o=false):xX R S (.hang m o) (.txt "no letter") R S
 |hangH {i j:Nat} {r q:Row} (hi:R[i]? =some r) (hv:r.void=false) (hj:R[j]? =some q) (hw:q.void=false) (h:r.link≠none):xX R S (.hang i j) (.txt "has one") R S
 |hangO {i j:Nat} {r q:Row} (hi:R[i]? =some r) (hv:r.void=false) (hj:R[j]? =some q) (hw:q.void=false) (h:r.link=none) (ho:(thr R j).head? =some i):xX R S (.hang i j) (.txt "own thread") R S
 |hangW {i j:Nat} {r q:Row} (hi:R[i]? =some r) (hv:r.void=false) (hj:R[j]? =some q) (hw:q.void=false) (h:r.link=none) (ho:(thr R j).head? ≠some i) (h1:r.way=q.way):xX R S (.hang i j) (.txt "same way") R S
 |hangP {i j:Nat} {r q:Row} (hi:R[i]? =some r) (hv:r.void=false) (hj:R[j]? =some q) (hw:q.void=false) (h:r.link=none) (ho:(thr R j).head? ≠some i) (h1:r.way≠q.way) (h2:r.partner≠q.partner):xX R S (.hang i j) (.txt "other partner") R S
 |hangE {i j:Nat} {r q:Row} (hi:R[i]? =some r) (hv:r.void=false) (hj:R[j]? =some q) (hw:q.void=false) (h:r.link=none) (ho:(thr R j).head? ≠some i) (h1:r.way≠q.way) (h2:r.partner=q.partner) (h3:r.date<q.date):xX R S (.hang i j) (.txt "too early") R S
 |hang {i j:Nat} {r q:Row} (hi:R[i]? =some r) (hv:r.void=false) (hj:R[j]? =some q) (hw:q.void=false) (h:r.link=none) (ho:(thr R j).head? ≠some i) (h1:r.way≠q.way) (h2:r.partner=q.partner) (h3:q.date<=r.date):
   xX R S (.hang i j) (.txt "hung") (xD (laid R (thr R i) q.place) i λr=>{r with link:=some j}) S
 |oneN {m:Int} {e:y3} (h:vP R m=false) (he:e= .loose m\/(∃d,e= .date m d)\/(∃t,e= .term m t)\/(∃w,e= .copy m w)\/(∃w,e= .file m w)\/e= .void m\/e= .state m\/e= .thread m\/e= .copies m):xX R S e (.txt "no letter") R S
 |looseN {k:Nat} {r:Row} (hk:R[k]? =some r) (hv:r.void=false) (h:r.link=none):xX R S (.loose k) (.txt "has none") R S
 |loose {k:Nat} {r:Row} (hk:R[k]? =some r) (hv:r.void=false) (h:r.link≠none):xX R S (.loose k) (.txt "loose") (xD R k λr=>{r with link:=none}) S
 |dateE {k:Nat} {r:Row} {d:Int} (hk:R[k]? =some r) (hv:r.void=false) (h:(∃j,r.link=some j/\d<dt R j)\/∃c∈zU R k,dt R c<d):xX R S (.date k d) (.txt "too early") R S
 |date {k:Nat} {r:Row} {d:Int} (hk:R[k]? =some r) (hv:r.void=false) (h1:∀j,r.link=some j->dt R j<=d) (h2:∀c∈zU R k,d<=dt R c):xX R S (.date k d) (.txt "dated") (xD R k λr=>{r with date:=d}) S
 |termN {k:Nat} {r:Row} {t:Int} (hk:R[k]? =some r) (hv:r.void=false) (h:t<0):xX R S (.term k t) (.txt "no term") R S
 |term {k:Nat} {r:Row} {t:Int} (hk:R[k]? =some r) (hv:r.void=false) (h:0<=t):xX R S (.term k t) (.txt "set") (xD R k λr=>{r with term:=t}) S
 |copyC {k:Nat} {r:Row} {w:Str} (hk:R[k]? =some r) (hv:r.void=false) (h:w=r.partner\/w∈r.copies):xX R S (.copy k w) (.txt "copied") R S
 |copy {k:Nat} {r:Row} {w:Str} (hk:R[k]? =some r) (hv:r.void=false) (h:w≠r.partner) (h2:w∉r.copies):xX R S (.copy k w) (.num (r.copies.length+1)) (xD R k λr=>{r with copies:=r.copies++ [w] }) S
 |file {k:Nat} {r:Row} {w:Str} (hk:R[k]? =some r) (hv:r.void=false):xX R S (.file k w) (.num (thr R k).length) (laid R (thr R k) w) S
 |voidA {k:Nat} {r:Row} (hk:R[k]? =some r) (hv:r.void=false) (h:zU R k≠ []):xX R S (.void k) (.txt "answered") R S
 |void {k:Nat} {r:Row} (hk:R[k]? =some r) (hv:r.void=false) (h:zU R k= []):xX R S (.void k) (.txt "void") (xD R k λr=>{r with link:=none,void:=true}) S
 |shutN {d:Int} (h:Dm.cts S d=false):xX R S (.shut d) (.txt "counts not") R S
 |shut {d:Int} (h:Dm.cts S d=true):xX R S (.shut d) (.txt "shut") R (S++ [d])
 |state {k:Nat} {r:Row} (hk:R[k]? =some r) (hv:r.void=false):xX R S (.state k) (.row r) R S
 |thread {k:Nat} {r:Row} (hk:R[k]? =some r) (hv:r.void=false):xX R S (.thread k) (.nums (thr R k)) R S
 |copies {k:Nat} {r:Row} (hk:R[k]? =some r) (hv:r.void=false):xX R S (.copies k) (.txts r.copies) R S
 |letters {w:Str}:xX R S (.letters w) (.nums ((bWS R.length).filter λk=>match R[k]? with|some r=> !r.void && decide (r.place=w)|none=>false)) R S
 |on {late:Bool} {d:Int} {l:List Nat} (h:aQ0 R S d late l):xX R S (.on late d) (.nums l) R S
end Bk
namespace Bk
open PySem (Str)
open Stree (aQf uW zT)
theorem zN.head{R:Rows}{j:Nat}(g:j<R.length){l:List Nat}(h:zN R j l):∃c,Fm.Ok R.length (lk R) c/\l.head? =some (Fm.tp (lk R) c j):=by
 obtain⟨c,o,p,e⟩:=h;refine⟨c,o,?_⟩;have i:=Fm.aK5 o g;have f:Fm.tp (lk R) c j∈l:=(e _).mpr ⟨i.1,Fm.bZ7 o g⟩;cases l with
 |nil=>cases f
 |cons x r=>
  by_cases z:x=Fm.tp (lk R) c j
  ·rw[z];rfl
  ·exfalso;obtain⟨a,b⟩:=bKL.mp p;have d:=(e x).mp bWV;have q:Fm.tp (lk R) c j∈r:=by
    rcases bWU.mp f with w|w
    ·exact absurd w.symm z
    ·exact w
   have n:=a _ q;have m:Fm.Un (lk R) (dt R) c (Fm.tp (lk R) c j) x:=by have:=Fm.bVo (D:=dt R) o d.1;rw[d.2]at this;exact this
   have s:=Fm.bVn o i.1 d.1 m z;have k:=Stree.qT n s;rw[Stree.uL]at k;cases k
theorem qF{R:Rows}(t:vY R){j:Nat}(b:j<R.length):∃a,Fm.Ok R.length (lk R) a/\(thr R j).head? =some (Fm.tp (lk R) a j):=(Z4 t j).head b
theorem xM{R:Rows}{k:Nat}{r:Row}(h:R[k]? =some r):k<R.length:=(bWP.mp h).1
theorem zX{R:Rows}{k:Nat}{r:Row}(h:R[k]? =some r):lk R k=r.link:=by unfold lk;rw[h];rfl
theorem zI{R:Rows}{k:Nat}{r:Row}(h:R[k]? =some r):dt R k=r.date:=by unfold dt;rw[h];rfl
theorem xX.tree{R m:Rows}{S u:List Int}{e:y3}{a:Ans}(t:vY R)(h:xX R S e a m u):vY m:=by
 cases h with
 |enter h=>exact t.enter _ λj d=>nomatch d
 |reply b h x w=>exact t.enter _ λj d=>by cases d;exact xM b
 |@hang i j r q k c d hw h p n l v=>
  obtain⟨g,o,s⟩:=qF t (xM d);have f:Fm.tp (lk R) g j≠i:=λz=>p (by rw[s,z]);refine vY.hang (R:=laid R (thr R i) q.place) (rk:=g) (i:=i) (j:=j) ?_ ?_ ?_ ?_ ?_ _ λ_=>rfl
  ·rw[wV,qP];exact o
  ·rw[wV];exact xM k
  ·rw[wV];exact xM d
  ·rw[qP,zX k];exact h
  ·rw[qP];exact f
 |loose b c h=>exact t.loose (xM b) _ λ_=>rfl
 |date b c n l=>exact t.same _ _ λ_=>rfl
 |term b c h=>exact t.same _ _ λ_=>rfl
 |copy b c h l=>exact t.same _ _ λ_=>rfl
 |file b c=>exact t.laid _ _
 |void b c h=>exact t.loose (xM b) _ λ_=>rfl
 |_=>exact t
theorem bQQ:vY []:=⟨λ_=>0,⟨λi j a=>absurd a (bKK _)⟩⟩
end Bk
namespace Bk
open PySem (Str)
open Stree (aQf uW zT)
def bJe(r q:Row):Prop:=r.void=false/\q.void=false/\r.way≠q.way/\r.partner=q.partner/\q.date<=r.date/\r.place=q.place
structure Q5(R:Rows):Prop where
 tree:vY R
 way:∀r∈R,r.way="in"\/r.way="out"
 ans:∀ (i j:Nat)(r:Row),R[i]? =some r->r.link=some j->∃q,R[j]? =some q/\bJe r q
theorem aYe:Q5 [] where
 tree:=bQQ
 way:=λr h=>absurd h (by simp)
 ans:=λi j r h=>by simp at h
theorem jY{w:Str}(h:w="in"\/w="out"):wM w≠w/\(wM w="in"\/wM w="out"):=by
 rcases h with rfl|rfl
 ·exact⟨by decide,.inr rfl⟩
 ·exact⟨by decide,.inl rfl⟩
theorem qV{R:Rows}{i:Nat}{f:Row->Row}{r:Row}(h:r∈xD R i f):r∈R\/∃q∈R,r=f q:=by
 unfold xD at h;split at h
 ·rename_i q a;rcases cQ3 h with h|h
  ·exact .inl h
  ·exact .inr ⟨q,bW1 a,h⟩
 ·exact .inl h
theorem aX2{R:Rows}(h:∀r∈R,r.way="in"\/r.way="out")(i:Nat)(f:Row->Row)(c:∀r,(f r).way=r.way):∀r∈xD R i f,r.way="in"\/r.way="out":=λr a=>by
 rcases qV a with a|⟨q,b,rfl⟩
 ·exact h r a
 ·rw[c];exact h q b
theorem aJE{name:Str}:∀ (l:List Nat) {R:Rows},(∀r∈R,r.way="in"\/r.way="out")->∀r∈laid R l name,r.way="in"\/r.way="out"
 |[],R,h=>h
 |k::l,R,h=>aJE l (aX2 h k (λr=>{r with place:=name}) λ_=>rfl)
theorem bZe{R:Rows}{k i:Nat}{r:Row}(h:zU R k= [])(a:R[i]? =some r):r.link≠some k:=λe=>by
 have:i∈zU R k:=bKA.mpr ⟨bKc.mpr (xM a),decide_eq_true (by rw[zX a];exact e)⟩;rw[h]at this;cases this
theorem aYM{R:Rows}{k i:Nat}{r:Row}(a:R[i]? =some r)(e:r.link=some k):i∈zU R k:=
 bKA.mpr ⟨bKc.mpr (xM a),decide_eq_true (by rw[zX a];exact e)⟩
theorem bQO{R:Rows}(t:vY R){i a b:Nat}{r:Row}(c:R[a]? =some r)(e:r.link=some b)(d:b<R.length):a∈thr R i↔b∈thr R i:=by
 obtain⟨f,o,_,h⟩:=Z4 t i;rw[h a,h b,Fm.wD o (xM c) (by rw[zX c];exact e)];exact⟨λz=>⟨d,z.2⟩,λz=>⟨xM c,z.2⟩⟩
theorem bQP{R:Rows}(t:vY R){i:Nat}(a:i<R.length):i∈thr R i:=by
 obtain⟨b,o,_,h⟩:=Z4 t i;exact(h i).mpr ⟨a,rfl⟩
theorem Q5.laid{R:Rows}(b:Q5 R)(i:Nat)(name:Str):Q5 (laid R (thr R i) name) where
 tree:=b.tree.laid _ _
 way:=aJE _ b.way
 ans:=λx j r hx hl=>by
  rw[wU]at hx
  have back:∃r0,R[x]? =some r0/\r=(if x∈thr R i then {r0 with place:=name}else r0):=by
   by_cases hm:x∈thr R i
   ·rw[if_pos hm]at hx
    cases e:R[x]? with
    |none=>rw[e]at hx;cases hx
    |some r0=>rw[e]at hx;cases hx;exact⟨r0,rfl,by rw[if_pos hm]⟩
   ·rw[if_neg hm]at hx
    exact⟨r,hx,by rw[if_neg hm]⟩
  obtain⟨r0,h0,e0⟩:=back
  have hl0:r0.link=some j:=by rw[e0]at hl;split at hl<;> exact hl
  obtain⟨q0,hq0,f1,f2,f3,f4,f5,f6⟩:=b.ans x j r0 h0 hl0
  have hiff:=bQO (i:=i) b.tree h0 hl0 (xM hq0)
  refine⟨if j∈thr R i then {q0 with place:=name}else q0,by rw[wU,hq0];split<;> rfl,?_⟩
  by_cases hm:x∈thr R i
  ·rw[if_pos (hiff.mp hm),e0,if_pos hm]
   exact⟨f1,f2,f3,f4,f5,rfl⟩
  ·rw[if_neg (λz=>hm (hiff.mpr z)),e0,if_neg hm]
   exact⟨f1,f2,f3,f4,f5,f6⟩
theorem Q5.set{R:Rows}(b:Q5 R){k:Nat}{f:Row->Row}(t:vY (xD R k f))(hw:∀r,(f r).way=r.way)(h1:∀r j q,R[k]? =some r->(f r).link=some j->j≠k->R[j]? =some q->bJe (f r) q/\True)(h0:∀r j,R[k]? =some r->(f r).link=some j->j≠k/\j<R.length)
  (h2:∀r i q,R[k]? =some r->R[i]? =some q->i≠k->q.link=some k->bJe q (f r)):Q5 (xD R k f) where
 tree:=t
 way:=aX2 b.way k f hw
 ans:=λi j r hi hl=>by
  rw[xN]at hi
  by_cases e:i=k
  ·subst e
   rw[if_pos rfl]at hi
   cases e0:R[i]? with
   |none=>rw[e0]at hi;cases hi
   |some r0=>
    rw[e0]at hi
    cases hi
    obtain⟨hjk,hjl⟩:=h0 r0 j e0 hl
    have hq:=bWF hjl
    exact⟨R[j],by rw[xN,if_neg hjk];exact hq,(h1 r0 j _ e0 hl hjk hq).1⟩
  ·rw[if_neg e]at hi
   obtain⟨q,hq,hf⟩:=b.ans i j r hi hl
   by_cases ej:j=k
   ·subst ej
    exact⟨f q,by rw[xN,if_pos rfl,hq];rfl,h2 q i r hq hi e hl⟩
   ·exact⟨q,by rw[xN,if_neg ej];exact hq,hf⟩
theorem aWF{R:Rows}(t:vY R){k j:Nat}{r:Row}(h:R[k]? =some r)(e:r.link=some j):j≠k:=λz=>by
 obtain⟨a,o⟩:=t;have:=(o.lt k j (xM h) (by rw[zX h];exact e)).2;rw[z]at this;omega
theorem xX.book{R R':Rows}{S S':List Int}{e:y3}{a:Ans}(b:Q5 R)(hw:∀H d w t,e= .enter H d w t->H="in"\/H="out")(h:xX R S e a R' S'):Q5 R':=by
 have C:=h.tree b.tree;have a2:∀ (r:Row)(j:Nat) {i:Nat} {x:Row},R[i]? =some x->x.link=some j->∃q,(R++ [r])[j]? =some q/\bJe x q:=λr j {i x} m hl=>by obtain⟨q,n,B⟩:=b.ans i j x m hl;exact⟨q,by rw[bW7 (xM n)];exact n,B⟩
 have snoc:∀r:Row,(r.way="in"\/r.way="out")->(∀j,r.link=some j->∃q,R[j]? =some q/\bJe r q)->vY (R++ [r])->Q5 (R++ [r]):=λr v p t=>⟨t,λx g=>by
   rcases bKn.mp g with g|g
   ·exact b.way x g
   ·rw[bW8.mp g];exact v,λi j x m hl=>by
   by_cases T:i<R.length
   ·rw[bW7 T]at m;exact a2 r j m hl
   ·have a0:i<(R++ [r]).length:=(bWP.mp m).1;rw[bWW,bKY]at a0;have:i=R.length:=by omega
    subst this;rw[bW0 (bWN _)]at m;simp at m;subst m;obtain⟨q,n,B⟩:=p j hl;exact⟨q,by rw[bW7 (xM n)];exact n,B⟩⟩
 have plain:∀ (k:Nat)(f:Row->Row),(∀r,(f r).way=r.way/\(f r).date=r.date/\(f r).partner=r.partner/\(f r).link=r.link/\(f r).place=r.place/\(f r).void=r.void)->vY (xD R k f)->Q5 (xD R k f):=λk f B t=>by
  refine b.set t (λr=>(B r).1) (λr j q l hl a5 n=>?_) (λr j l hl=>?_) (λr i q l m a6 hl=>?_)
  ·obtain⟨V,g2,Y,g4,Q,Z⟩:=B r;rw[g4]at hl;obtain⟨L,c,v,p,O,U,h5,X⟩:=b.ans k j r l hl;rw[n]at c;cases c;exact⟨⟨by rw[Z];exact v,p,by rw[V];exact O,by rw[Y];exact U,by rw[g2];exact h5,by rw[Q];exact X⟩,trivial⟩
  ·rw[(B r).2.2.2.1]at hl;obtain⟨q,n,_⟩:=b.ans k j r l hl;exact⟨aWF b.tree l hl,xM n⟩
  ·obtain⟨V,g2,Y,g4,Q,Z⟩:=B r;obtain⟨L,c,v,p,O,U,h5,X⟩:=b.ans i k q m hl;rw[l]at c;cases c;exact⟨v,by rw[Z];exact p,by rw[V];exact O,by rw[Y];exact U,by rw[g2];exact h5,by rw[Q];exact X⟩
 cases h with
 |enter h=>exact snoc _ (hw _ _ _ _ rfl) (λj A=>nomatch A) C
 |@reply k d t r l h ht hd=>have K:=b.way r (bW1 l);exact snoc _ (jY K).2 (λj A=>by cases A;exact⟨r,l,rfl,h,(jY K).1,rfl,hd,rfl⟩) C
 |@hang i j r q m D A a3 h ho v p O=>
  have bl:=b.laid i q.place;obtain⟨rk,o,hh⟩:=qF b.tree (xM A);have N:Fm.tp (lk R) rk j≠i:=λz=>ho (by rw[hh,z]);have a4:j∉thr R i:=λz=>by obtain⟨W,o',_,hm⟩:=Z4 b.tree i;have z2:=((hm j).mp z).2;have z3:Fm.tp (lk R) W i=i:=Fm.zM (by rw[zX m];exact h);rw[z3,Fm.uC o' o (xM A)]at z2;exact N z2
  have a1:=bQP b.tree (xM m);have gi:(laid R (thr R i) q.place)[i]? =some {r with place:=q.place}:=by rw[wU,if_pos a1,m];rfl
  have gj:(laid R (thr R i) q.place)[j]? =some q:=by rw[wU,if_neg a4];exact A
  refine bl.set C (λ_=>rfl) (λx y z g hl s M=>?_) (λx y g hl=>?_) (λx y z g s u hl=>?_)
  ·rw[gi]at g;cases g;cases hl;rw[gj]at M;cases M;exact⟨⟨D,a3,v,p,O,rfl⟩,trivial⟩
  ·cases hl;exact⟨λz=>N (by rw[z,Fm.zM (by rw[zX m];exact h)]),by rw[wV];exact xM A⟩
  ·obtain⟨L,c,G,J,F,I,P,E⟩:=bl.ans y i z s hl;rw[g]at c;cases c;exact⟨G,J,F,I,P,E⟩
 |@loose k r l D h=>refine b.set C (λ_=>rfl) (λx y z g hl=>nomatch hl) (λx y g hl=>nomatch hl) (λx y z g s u hl=>?_);obtain⟨L,c,G,J,F,I,P,E⟩:=b.ans y k z s hl;rw[g]at c;cases c;exact⟨G,J,F,I,P,E⟩
 |@date k r d l D v p=>
  refine b.set C (λ_=>rfl) (λx y z g hl u M=>?_) (λx y g hl=>?_) (λx y z g s u hl=>?_)
  ·rw[l]at g;cases g;obtain⟨L,c,G,J,F,I,P,E⟩:=b.ans k y r l hl;rw[M]at c;cases c;exact⟨⟨G,J,F,I,by rw[<- zI M];exact v y hl,E⟩,trivial⟩
  ·obtain⟨q,n,_⟩:=b.ans k y x g hl;exact⟨aWF b.tree g hl,xM n⟩
  ·obtain⟨L,c,G,J,F,I,P,E⟩:=b.ans y k z s hl;rw[g]at c;cases c;exact⟨G,J,F,I,by rw[<- zI s];exact p y (aYM s hl),E⟩
 |term l D h=>exact plain _ _ (λr=>⟨rfl,rfl,rfl,rfl,rfl,rfl⟩) C
 |copy l D h p=>exact plain _ _ (λr=>⟨rfl,rfl,rfl,rfl,rfl,rfl⟩) C
 |file l D=>exact b.laid _ _
 |void l D h=>exact b.set C (λ_=>rfl) (λx y z g hl=>nomatch hl) (λx y g hl=>nomatch hl) (λx y z g s u hl=>absurd hl (bZe h s))
 |_=>exact b
end Bk
namespace Bk
theorem aXf:∀shut:List Int,∃C:List Int,C.Pairwise (·<·)/\∀d,d∈C↔d∈shut/\Dm.opn d=true
 |[]=>⟨[],.nil,λd=>by simp⟩
 |x::l=>by
  obtain⟨C,o,m⟩:=aXf l;have ins:∀C:List Int,C.Pairwise (·<·)->∃g:List Int,g.Pairwise (·<·)/\∀d,d∈g↔d=x\/d∈C:=by
   intro C;induction C with
   |nil=>intro _;exact⟨[x],bYn _ _,λd=>by simp⟩
   |cons y C p=>
    intro h;obtain⟨a,b⟩:=bKL.mp h;by_cases e:x=y
    ·subst e;exact⟨x::C,h,λd=>by simp⟩
    ·by_cases j:x<y
     ·refine⟨x::y::C,bKL.mpr ⟨λd f=>?_,h⟩,λd=>by simp⟩;rcases bWU.mp f with rfl|f
      ·exact j
      ·have:=a d f;omega
     ·obtain⟨g,k,i⟩:=p b;refine⟨y::g,bKL.mpr ⟨λd f=>?_,k⟩,λd=>?_⟩
      ·rcases(i d).mp f with rfl|f
       ·omega
       ·exact a d f
      ·rw[bWU,i d,bWU];constructor
       ·rintro(h|h|h)
        ·exact .inr (.inl h)
        ·exact .inl h
        ·exact .inr (.inr h)
       ·rintro(h|h|h)
        ·exact .inr (.inl h)
        ·exact .inl h
        ·exact .inr (.inr h)
  by_cases n:Dm.opn x=true
  ·obtain⟨g,k,i⟩:=ins C o;refine⟨g,k,λd=>?_⟩;rw[i d,m d,bWU];constructor
   ·rintro(rfl|⟨h,c⟩)
    ·exact⟨.inl rfl,n⟩
    ·exact⟨.inr h,c⟩
   ·rintro⟨h|h,c⟩
    ·exact .inl h
    ·exact .inr ⟨h,c⟩
  ·refine⟨C,o,λd=>?_⟩;rw[m d,bWU];constructor
   ·rintro⟨h,c⟩;exact⟨.inr h,c⟩
   ·rintro⟨h|h,c⟩
    ·rw[h]at c;exact absurd c n
    ·exact⟨h,c⟩
theorem bQ5(shut:List Int)(d:Int){t:Int}(b:1<=t):Dm.Due shut d t (due shut d t):=by
 obtain⟨C,c,a⟩:=aXf shut;have h:=Dm.bQ6 (date:=d) b c a;rw[bQ4 h];exact h
end Bk
namespace L2
open PySem PySem.Spec PyProof.Rows
theorem aWy{P:bW3}{w:bKa}{K:bWI}{mg mb:Str->Option bWG}{CX:CXT}{k:Nat}{fa a c T:Nat}{fd:bYF}{x:Str}{sp:Sp}{f:bWJ}{vs:List bWG}{ns:List Int} (KX:K.In f.heap) (I:f.heap.Ns bKd mg) (l:f.heap.Ns builtinsNs mb) (a3:∀x:Str,x≠"__name__"->mb x=bKx x) (Q:f.heap.NoLimit) (hg:f.gens= #[]) (J:f.heap.get? a=some {cls:= .type "list",data:= .seq vs.toArray}) (hi:cQa vs ns) (hl:ns.length<=bKb) (hr:wR k callerA) (hC:bYK f.heap c T) (L:f.heap.get? T=some (cQi #[])) (a6:K.lookup T=none) (a1:∃U B,mg "__builtins__"=some (.ref U)/\U≠builtinsNs/\f.heap.get? U=some B/\B.cls= .type "module"/\B.dict=some builtinsNs/\B.data= .plain) (F:∀base:Heap,K.In base->base.Ns bKd mg->bYK base c T->base.BuiltinsAt mg T->y0 P w K mg base CX k fa fd [x] sp) (G:∀ (s:bWJ)(u:bWG),BindsTo s fd ⟨[u],[]⟩ [(x,u)]) (a7:∀H:Hp,H T=some (.tbl #[])->SqL K H a (ns.map V.int)->sp [.ref a] H (λv _=>v= .bl true) λ_ _ _=>False) (a8:∀H e j,CX [] H f (λ_ _ _=>False) e j->False): bYV (bWQ P w) callerA (.call (.ref fa) ⟨[.ref a],[]⟩) (λr j=>r= .ok (.ret (.bool true))/\OldK f.heap j.heap/\j.os=f.os/\AllBare j.gens) f:=by
 have rv:=wO hi;have X:=hi.length;have N:a≠T:=λz=>by rw[z,L]at J;cases J
 have C:∀H:Hp,H T=some (.tbl #[])->SqL K H a (ns.map V.int)->HOk P w H f.heap->(∀b,H b≠none->b=T\/(b=a/\∃o xs,H b=some (.frz o (.lst xs))))->(H a≠none->K.lookup a=none)->
   bYV (bWQ P w) callerA (.call (.ref fa) ⟨[.ref a],[]⟩) (λr j=>r= .ok (.ret (.bool true))/\OldK f.heap j.heap/\j.os=f.os/\AllBare j.gens) f:=by
  intro H hH hS R hA hK
  have i:∀ {b:Nat} {o:Obj},f.heap.get? b=some o->H b=none->(aWo f.heap H).get? b=some o:=λe n=>aYA e n
  have p:∀ {b:Nat} {o:Obj},f.heap.get? b=some o->(∀ps,o≠cQi ps)->(∀y,o≠ {cls:= .type "list",data:= .seq y})->H b=none:=λ{b o} e n1 n2=>by
   cases q:H b with
   |none=>rfl
   |some u=>
    rcases hA b (by rw[q];simp)with z|⟨z,_⟩
    ·rw[z,L]at e;cases e;exact absurd rfl (n1 _)
    ·rw[z,J]at e;cases e;exact absurd rfl (n2 _)
  have t:∀ {b:Nat} {m:Str->Option bWG},f.heap.Ns b m->(aWo f.heap H).Ns b m:=λ{b m} ⟨o,es,ep,e,d,r⟩=>⟨o,es,ep,i e (p e (λps z=>by rw[z]at d;cases d) (λy z=>by rw[z]at d;cases d)),d,r⟩
  have Y:K.In (aWo f.heap H):=λb o e=>i (KX b o e) (by
   cases q:H b with
   |none=>rfl
   |some u=>
    rcases hA b (by rw[q];simp)with z|⟨z,_⟩
    ·rw[z,a6]at e;cases e
    ·subst z;rw[hK (by rw[q];simp)]at e;cases e)
  have hM:Mod K mg (aWo f.heap H):=⟨Y,t I,⟨mb,t l,a3⟩,let ⟨mc,h1,h2⟩:=Q;⟨mc,t h1,h2⟩⟩
  have e0:bXB P w K mg (aWo f.heap H) callerA [] f H:=⟨rfl,hM,λb o e=>bZf e,bY5 (aWp _ _),trivial,λb l=>absurd (show b∈([]:List Nat)from l) (by simp),R,.of_eq hg⟩
  have a4:bYK (aWo f.heap H) c T:=by
   obtain⟨o,vs,file,tf,E,tg,a2,text,tt,e,O,r⟩:=hC;exact⟨o,vs,file,tf,E,tg,a2,text,tt,i e (p e (λps z=>by rw[z]at O;cases O) (λy z=>by
    rw[z]at O;have c':Value.type "list"=Value.type "code":=O;injection c' with c''
    exact absurd c'' (by decide))),O,r⟩
  have a5:(aWo f.heap H).BuiltinsAt mg T:=by
   obtain⟨U,B,b1,b2,M,b4,b5,S⟩:=a1;refine⟨U,B,b1,b2,λz=>?_,λz=>?_,i M (p M (λps z=>by rw[z]at b4;cases b4) (λy z=>by rw[z]at S;cases S)),b4,b5,S⟩
   ·obtain⟨o,es,ep,e,d,_⟩:=I;rw[z,e]at M;cases M;rw[d]at S;cases S
   ·rw[z,L]at M;cases M;cases b4
  refine bYx ((F _ Y (t I) a4 a5).run callerA [] f H ⟨[.ref a],[]⟩ [.ref a] [.ref a] _ _ hr e0 (G f (.ref a)) (.cons rfl .nil) (a7 H hH hS)) λr j h=>?_
  cases r with
  |error e=>exact(a8 H e j h).elim
  |ok fl=>
   cases fl with
   |next=>exact bYe h
   |brk=>exact bYe h
   |cont=>exact bYe h
   |ret u=>
    obtain⟨v,H',os,bare,un,D,r',q⟩:=h;have q':v= .bl true:=q;subst q';obtain rfl:u=Value.bool true:=r';obtain⟨more,hm⟩:=un.tbls T _ hH;have a0:j.heap.get? T=some (cQi (#[]++more)):=D T _ hm;have get:∀b o,b≠T->f.heap.get? b=some o->j.heap.get? b=some o:=λb o g e=>by
     cases q:H b with
     |none=>exact un.keep b o e q (by intro z;exact absurd (show b∈([]:List Nat)from z) (by simp)) (by simp)
     |some u=>
      rcases hA b (by rw[q];simp)with z|⟨_,B,xs,z⟩
      ·exact absurd z g
      ·have z2:=un.frzs b B _ z;obtain⟨e1,_⟩:=R b _ z;obtain⟨e2,_⟩:=D b _ z2;rw[e]at e1;cases e1;exact e2
    refine⟨rfl,⟨λb o e=>?_,λb o e=>?_⟩,os,bare⟩
    ·by_cases g:b=T
     ·subst g;rw[L]at e;cases e;exact .inr (.inl ⟨(hC.tab L).isCodeTable,rfl, #[],more,rfl,a0⟩)
     ·exact .inl (get b o g e)
    ·by_cases g:b=T
     ·exact⟨_,by rw[g];exact a0⟩
     ·exact⟨o,get b o g e⟩
 have Z:∀H:Hp,x5 P w H f.heap T (.tbl #[]):=λH=>L;cases hk:K.lookup a with
 |some o=>
  have e:=KX a o hk;rw[J]at e;cases e;refine C (λb=>if b=T then some (.tbl #[])else none) (if_pos rfl) (.inr ⟨_,vs.toArray,_,hk,rfl,rfl,rfl,by rw[bWZ,X];exact hl,by simpa using rv⟩) (λb u z=>?_) (λb z=>?_) λz=>absurd (if_neg N) z
  ·by_cases g:b=T
   ·have A:=(if_pos g).symm.trans z;cases A;subst g;exact Z _
   ·have A:=(if_neg g).symm.trans z;cases A
  ·by_cases g:b=T
   ·exact .inl g
   ·exact absurd (if_neg g) z
 |none=>
  refine C (λb=>if b=T then some (.tbl #[])else if b=a then some (.frz {cls:= .type "list",data:= .seq vs.toArray} (.lst (ns.map V.int)))else none) (if_pos rfl)
   (.inl (.inr ⟨{cls:= .type "list",data:= .seq vs.toArray},by show(if a=T then _ else _)=_;rw[if_neg N,if_pos rfl]⟩)) (λb u z=>?_) (λb z=>?_) λ_=>hk
  ·by_cases g:b=T
   ·have A:=(if_pos g).symm.trans z;cases A;subst g;exact Z _
   ·have z1:=(if_neg g).symm.trans z;by_cases l:b=a
    ·have A:=(if_pos l).symm.trans z1;cases A;subst l;exact⟨J,by rw[bWK];exact hl,vs,_,rv,J⟩
    ·have A:=(if_neg l).symm.trans z1;cases A
  ·by_cases g:b=T
   ·exact .inl g
   ·by_cases l:b=a
    ·exact .inr ⟨l,_,_,by show(if b=T then _ else _)=_;rw[if_neg g,if_pos l]⟩
    ·exact absurd (by show(if b=T then _ else _)=_;rw[if_neg g,if_neg l]) z
theorem bQW{l:PySem.W.OpenLaw}{n k:Nat}{q:bW3}{loose:List Str}{Q:(Str->Option bWG)->Heap->Prop}{D:bKa->Heap->Prop}{d:DefRec}{K:Params->bWI}{CX:CXT}{sp:Nat->bWI->Sp}{x:Str}{T:Nat} (N:l.most=some n) (t:n<=bKb) (y:d.params.defaults= []) (Z:wR k callerA) (hY:∀ (w:bKa)(h:Heap),D w h->(K w.params).In h) (E:∀ (w:bKa)(h:Heap),D w h->h.get? T=some (cQi #[])) (F:∀ (w:bKa)(mg:Str->Option bWG)(r:Nat)(h:Heap),(K w.params).In h->h.Ns bKd mg->mg d.name=some (.ref r)-> ∃ (L:bYF)(c:Nat),cXl (K w.params) c T=true/\(K w.params).lookup T=none/\(∀ (s:bWJ)(u:bWG),BindsTo s L ⟨[u],[]⟩ [(x,u)])/\ ∀base:Heap,(K w.params).In base->base.Ns bKd mg->bYK base c T->base.BuiltinsAt mg T->y0 l.prog w (K w.params) mg base CX k r L [x] (sp T (K w.params))) (C:∀ (K:bWI)(H:Hp)(a:Nat)(ns:List Int),ns.length<=n->H T=some (.tbl #[])->SqL K H a (ns.map V.int)->sp T K [.ref a] H (λv _=>v= .bl true) λ_ _ _=>False) (J:∀ (H:Hp)(s:bWJ)(e:bWG)(I:bWJ),CX [] H s (λ_ _ _=>False) e I->False): PySem.W.WalkO q loose Q D l.row.toRowW d [] (λf M=>PySem.call f M):=by
 refine Att.aX4 N y λw s₀ p mg mb r o pm cd a0 a M ns G Y ho hd O z m j i U=>?_;have B:=hY w _ Y;obtain⟨L,c,ht,A,P,X⟩:=F w mg r _ B G.T.g z;exact aWy B G.T.g G.T.b G.T.builtins G.T.nolimit U m j (bKh i t) Z (PySem.W.codeHd_of_K B ht) (E w _ Y) A G.T.bmain X P (λH R S=>C _ H a ns i R S) λH e I=>J H p e I
end L2
namespace Thr
open PySem L2 PyProof.Rows
open Stree (aQf uW zT)
def aXo(x:Str):Stmt->Bool
 |.FunctionDef n _ _ _ _ _ _ _ _ _=>n==x
 |_=>false
def y7(x:Str):Stmt:=(PySem.Challenge.pw_letterdesk_k07_whole_entered_whenever.main.body.find? (aXo x)).getD (.Pass ⟨0,0,0,0⟩)
abbrev aZG:Stmt:=y7 "thread"
abbrev aKu:Stmt:=y7 "top_of"
abbrev aZA:Stmt:=y7 "answers_to_each"
theorem xU:bKx "len"=some (.builtin "len"):=dk
theorem x6:bKx "sorted"=some (.builtin "sorted"):=dk
theorem wT:bKx "isinstance"=some (.builtin "isinstance"):=dk
theorem bQ2:bKx "int"=some (.type "int"):=dk
theorem u7:bKx "list"=some (.type "list"):=dk
structure vD(mg:Str->Option bWG):Prop where
 b_len:mg "len"=none
 b_sorted:mg "sorted"=none
 b_isinstance:mg "isinstance"=none
 b_int:mg "int"=none
 b_str:mg "str"=none
 b_bool:mg "bool"=none
 b_list:mg "list"=none
 b_tuple:mg "tuple"=none
 b_range:mg "range"=none
theorem xT{a H:Hp}{c:Nat}{o:HO}(k:xV a H)(h:a c=none):xV a (upd H c o):=λb u q=>by rw[yH (yE q h)];exact k b u q
theorem jA{K:bWI}{a:Nat}{xs:List V}{A:List Nat}{σ:L2.St}{D:Nat}{Q:VK}{H:Hp}(hl:SqL K H a xs)(r:H D=none)(hz:xs.length<=1000) (C:∀ (d:Hp)(c:List Nat),xV H d->d D=some (.lst (c.map V.ref))->c.length=xs.length->c.Nodup->(∀b∈c,d b=some (.lst [])/\H b=none/\b≠D)->Q (.ref D) d):bXE (Itl K a) A bV6 (bWg bQJ) σ D Q (upd H D (.lst [])):=by
 refine⟨λi m o d=>m=xs.length - i/\i<=xs.length/\∃c:List Nat,o=c.map V.ref/\c.length=i/\c.Nodup/\xV H d/\d D=some (.lst o)/\∀b∈c,d b=some (.lst [])/\H b=none/\b≠D,
  ⟨xs.length,by simp,bKt _,[],rfl,rfl,.nil,yI r _,yB,λb e=>nomatch e⟩,?_⟩
 rintro i m o d ⟨rfl,I,c,rfl,q,u,k,j,g⟩;refine⟨j,?_⟩;have t:=xV.seq k hl;by_cases n:i<xs.length
 ·refine .inr ⟨⟨xs,xs[i],t,bWF n⟩,λv J F=>?_⟩;obtain⟨rfl,y⟩:=F;refine⟨z0,λp h=>?_⟩;have f:p≠D:=bKl (yE j h);have l:p∉c:=λz=>by rw[(g p z).1]at h;cases h
  refine⟨zlt (by rw[bWK];omega),by rw[yH (bKl f)];exact j,xs.length - (i+1),by omega,rfl,by omega,c++ [p],by simp,by simp[q],?_,?_,yB,λb e=>?_⟩
  ·rw[cXe];exact⟨u,by simp,λx E y G z=>by rw[bW8.mp G]at z;exact l (z ▸ E)⟩
  ·exact xT (k.trans (yI h _)) r
  ·rcases bKn.mp e with e|e
   ·obtain⟨w,B,s⟩:=g b e;exact⟨by rw[yH s,yH (yE w h)];exact w,B,s⟩
   ·rw[bW8.mp e];exact⟨by rw[yH f];exact yB,k.fresh h,f⟩
 ·refine .inl ⟨⟨xs,t,by omega⟩,C d c k j (by omega) u g⟩
def xW:Option Nat->V
 |none=> .non
 |some j=> .int (j:Nat)
def wL(n:Nat)(L:Nat->Option Nat):List V:=(bWS n).map λi=>xW (L i)
def uH(n:Nat)(D:Nat->Int):List V:=(bWS n).map λi=> .int (D i)
theorem vQ{n i:Nat}{L:Nat->Option Nat}(h:i<n):(wL n L)[i]? =some (xW (L i)):=by unfold wL;rw[bWY,bYb h];rfl
theorem aJS{n i:Nat}{D:Nat->Int}(h:i<n):(uH n D)[i]? =some (.int (D i)):=by unfold uH;rw[bWY,bYb h];rfl
inductive bVc(K:bWI)(vs:List V)(H:Hp)(Q:VK)(_:XK):Prop|mk (a:Nat) (n:Nat) (L:Nat->Option Nat) (rk:Nat->Nat) (i:Nat) (_:vs= [.ref a,.int (i:Nat)]) (_:SqL K H a (wL n L)) (_:Fm.Ok n L rk) (_:i<n) (_:Q (.int (Fm.tp L rk i:Nat)) H)
def zO(T:Nat):Hp->Prop:=u6 ⟨119,48,119,71⟩ "answers_to_each.<locals>.<lambda>" T
structure bV8(n:Nat)(L:Nat->Option Nat)(D:Nat->Int)(kd:Nat->List Nat):Prop where
 mem:∀j i,i∈kd j↔i<n/\L i=some j
 ord:∀j,(kd j).Pairwise λx y=>zT (D y,(y:Int)) (D x,(x:Int))=true
inductive bZY(T:Nat)(vs:List V)(H:Hp)(Q:VK)(_:XK):Prop|mk (la da:Nat) (n:Nat) (L:Nat->Option Nat) (rk:Nat->Nat) (D:Nat->Int) (_:vs= [.ref la,.ref da]) (_:H la=some (.lst (wL n L))) (_:H da=some (.lst (uH n D))) (_:Fm.Ok n L rk) (_:n<=63) (_:zO T H) (_:∀ (H':Hp)(a:Nat)(rs:List Nat)(kd:Nat->List Nat),xO H H'->zO T H'->H' a=some (.lst (rs.map V.ref))->rs.length=n->(∀j b,rs[j]? =some b->H' b=some (.lst ((kd j).map λi=>V.int (i:Nat))))->bV8 n L D kd->Q (.ref a) H')
inductive aJA(T:Nat)(vs:List V)(H:Hp)(Q:VK)(_:XK):Prop|mk (la da:Nat) (n:Nat) (L:Nat->Option Nat) (rk:Nat->Nat) (D:Nat->Int) (i:Nat) (_:vs= [.ref la,.ref da,.int (i:Nat)]) (_:H la=some (.lst (wL n L))) (_:H da=some (.lst (uH n D))) (_:Fm.Ok n L rk) (_:n<=63) (_:i<n) (_:zO T H) (_:∀ (H':Hp)(r:Nat)(told:List Nat),(∀b u,(∀ps,u≠HO.tbl ps)->H b=some u->b≠r)->xO H H'->zO T H'->H' r=some (.lst (told.map λi=>V.int (i:Nat)))->(told.Pairwise λx y=>uW (Fm.rd L D rk x) (Fm.rd L D rk y)=true)->(∀k,k∈told↔k<n/\Fm.tp L rk k=Fm.tp L rk i)->Q (.ref r) H')
section
variable {K:bWI}
theorem bQz:yJ ["links","number","top"] ["links","number"] (yD aKu):=scM
theorem aY5(T:vD mg)(F:Fun K "top_of" "top_of" aKu f fd):y0 P w K mg base CX0 1 f fd ["links","number"] (bVc K):=by
 have B:=bQz;refine F.ok (k:=0) B (λx A outer s y D Q E C h=>?_);obtain⟨a,n,L,b,i,rfl,o,r,u,q⟩:=h;refine⟨_,(yC (yO (i:=2) (pv 1)) (yC (qA bKB (yU v6 (yN yL (pv 0) (pv 2)) wG) (yG (yO (i:=2) (yN yL (pv 0) (pv 2))))) (yG (yP (pv 2))))),?_⟩;refine⟨_,rfl,?_⟩;refine⟨λm σ H=>∃t:Nat,σ= [some (.ref a),some (.int (i:Nat)),some (.int (t:Nat))]/\H=y/\t<n/\Fm.tp L b t=Fm.tp L b i/\m=b t,⟨b i,i,rfl,rfl,u,rfl,rfl⟩,?_⟩;rintro m σ H ⟨t,rfl,rfl,e,c,rfl⟩;refine⟨_,rfl,_,rfl,a,_,_,_,rfl,rfl,o,yV (vQ e),rfl,_,rfl,?_⟩;cases hl:L t with
 |none=>refine onF rfl ⟨_,rfl,?_⟩;rw[Fm.zM hl]at c;rw[c];exact q
 |some j=>obtain⟨v,g⟩:=r.lt t j e hl;refine onT rfl ⟨λd p=>∃l,l<b t/\∃t:Nat,d= [some (.ref a),some (.int (i:Nat)),some (.int (t:Nat))]/\p=H/\t<n/\Fm.tp L b t=Fm.tp L b i/\l=b t,λd p z=>z,?_⟩;refine⟨_,rfl,_,rfl,a,_,_,_,rfl,rfl,o,yV (vQ e),?_⟩;rw[hl];exact⟨b j,g,j,rfl,rfl,v,by rw[<- c,Fm.wD r e hl],rfl⟩
theorem bJ4:yJ ["links","dates","answers","letter"] ["links","dates"] (yD aZA):=scM
theorem bJx:y9 ["links","dates","answers","letter"] (yD aZA) "link" [] [] (lsN [(".0",.local),("link",.local)]):=
 lcM
theorem bX6:y9 ["links","dates","answers","letter"] (yD aZA) "n" ["dates"] [1] (lsN [("n",.local),("dates",.free)]):=
 lcM
theorem bJD{oc:bWG}{od an:Option Nat}{a9:Array (Option bWG)}{kV a0 pm ct:bWG}(T:vD mg)(C:bYK base c Tb)(hB:base.BuiltinsAt mg Tb) (lk:K.lookup f=some ⟨oc,od,.func (bKF "answers_to_each" "answers_to_each" (xH aZA) (xA aZA) (yD aZA) .none kV a0 pm an (.ref c) ct),a9⟩) (b4:bYq K (.ref c) "answers_to_each"=true): y0 P w K mg base CX0 2 f (bKF "answers_to_each" "answers_to_each" (xH aZA) (xA aZA) (yD aZA) .none kV a0 pm an (.ref c) ct) ["links","dates"] (bZY Tb):=by
 have sc:=bJ4;refine bXS (k:=1) lk b4 sc (λvs H Q E h=>by obtain⟨J,da,n,L,rk,D,rfl,_⟩:=h;rfl) λA outer s H0 vs Q E hr h=>?_;suffices N:∃t,PSs (aQl CX0 P w K mg base ["links","dates","answers","letter"] "answers_to_each" (yD aZA) f (.ref c) A outer s H0 E).nox (xA aZA) t/\t {nx:=λ_ H'=>Q .non H',rt:=Q} (start ["links","dates","answers","letter"] vs) H0 by obtain⟨t,g,u⟩:=N;exact⟨t,g.nox,u⟩
 obtain⟨J,da,n,L,rk,D,rfl,m,b3,ho,hn,hT,q⟩:=h;refine⟨_,(yC (aVq (i:=2) bJx rfl sc.nd rfl rfl (xB (pv 0)) (λ_ _ _ _ _=>zG) (λ_ _ _ _ _=>(xR yF))) (yC (zK bKB rfl (xB (aVo (qual:="answers_to_each.<locals>.<lambda>") rfl T.b_sorted rfl T.b_range (yT yM rfl T.b_len xU (yA (pv 0) yF)) bX6 rfl rfl rfl C hB hr rfl rfl (λ_ _ _ _ _=>rfl) (λ_ _ _ _ _ _ _=>zW (yA (yN ixK (pv 1) (pv 0)) (yA (pv 0) yF))))) (yZ (i:=3)) (yG (zC (yU v6 (yN yL (pv 0) (pv 3)) wG) (yG (yQ (vJ bKj bKp bKq y8 (yN yL (pv 2) (yN yL (pv 0) (pv 3))) (yA (pv 3) yF)))) yY))) (yG (yP (pv 2))))),?_⟩;have G:(wL n L).length=n:=by simp[wL]
 refine⟨_,rfl,J,rfl,⟨_,SqL.of m⟩,λa ha=>jA (SqL.of m) ha (by omega) λH1 d U hD a6 nd v=>?_⟩;rw[G]at a6;dsimp only[yS];have a5:=U _ _ m;have Z:=U _ _ b3;have a7:zO Tb H1:=by
  rcases hT with t|⟨c',t1,t2⟩
  ·exact .inl (U _ _ t)
  ·exact .inr ⟨c',U _ _ t1,U _ _ t2⟩
 refine⟨_,rfl,J,_,rfl,.inl (SqL.of a5),?_⟩;rw[G];refine⟨n,rfl,by omega,a7,λi=>(D i,(i:Int)),λi j _ _ z=>?_,λi H3 I k3 t3 R hR=>?_,λH5 l out k5 t5 nl O a8 h5=>⟨l,rfl,⟨_,SqL.of h5⟩,?_⟩⟩
 ·have:=congrArg Prod.snd z;simp only at this;omega
 ·refine⟨_,rfl,_,rfl,da,_,_,_,rfl,rfl,SqL.of (k3.lst Z),yV (aJS I),_,rfl,z2,λp hp=>hR p _ (yI hp _).t ?_ yB⟩;rcases t3 with t|⟨_,t,_⟩
  ·rw[yH (yE t hp)]
  ·rw[yH (yE t hp)]
 ·have hm:∀i∈out,i<n:=λi I=>bKc.mp (O.mem_iff.mp I);have kk:xO H0 H5:=U.t.trans k5;have nr:∀b o,H0 b=some o->b∉d:=λb o e z=>by rw[(v b z).2.1]at e;cases e
  have r5:∀b∈d,H5 b=some (.lst []):=λb y=>k5.lst (v b y).1;have nT:Tb∉d:=λz=>by
   have e:=r5 _ z;rcases t5 with t|⟨_,t,_⟩
   ·rw[t]at e;cases e
   ·rw[t]at e;cases e
  have b2:l∉d:=λz=>by rw[(v l z).1]at nl;cases nl
  have a4:a∉d:=λz=>(v a z).2.2 rfl;have Y:H5 a=some (.lst (d.map V.ref)):=k5.lst hD;refine zP (xs:=out.map λi=>V.int (i:Nat)) (λt σ H=>∃lt,σ= [some (.ref J),some (.ref da),some (.ref a),lt]/\(∀b o,H5 b=some o->b∉d->H b=some o)/\
   ∀j b,d[j]? =some b->H b=some (.lst (((out.take t).filter λi=>decide (L i=some j)).map λi=>V.int (i:Nat)))) ?_ ?_ ?_ ?_
  ·exact⟨none,rfl,λb o e _=>e,λj b y=>r5 b (bW1 y)⟩
  ·rintro t σ H ht ⟨lt,rfl,g,u⟩;exact SqL.of (g _ _ h5 b2)
  ·rintro t x σ H N ⟨lt,rfl,g,u⟩;rw[bWY]at N;cases he:out[t]? with
   |none=>rw[he]at N;cases N
   |some i=>
    rw[he]at N;cases N;have I:=hm i (bW1 he);have a2:out.take (t+1)=out.take t++ [i]:=by rw[bYf,he];rfl
    have B:H J=some (.lst (wL n L)):=g _ _ (kk.lst m) (nr _ _ m);have b0:H a=some (.lst (d.map V.ref)):=g _ _ Y a4;dsimp only[yS];refine⟨_,rfl,_,rfl,J,_,_,_,rfl,rfl,SqL.of B,yV (vQ I),rfl,_,rfl,?_⟩;cases hl:L i with
    |none=>
     refine onF rfl ⟨_,rfl,g,λj b y=>?_⟩;rw[u j b y,a2,bKV];have: [i].filter (λi=>decide (L i=some j))= []:=by simp[hl]
     rw[this,bKI]
    |some j=>
     obtain⟨hj,_⟩:=ho.lt i j I hl;have S:j<d.length:=by omega
     have y:=bWF S;have a1:=u j _ y;refine onT rfl ?_;refine⟨_,rfl,_,rfl,_,rfl,J,_,_,_,rfl,rfl,SqL.of B,yV (vQ I),?_⟩;rw[hl];refine⟨a,_,_,.ref d[j],rfl,rfl,SqL.of b0,yV (by rw[bWY,y];rfl),.inl ⟨rfl,_,SqL.of a1⟩,_,rfl,d[j],_,_,rfl,rfl,a1,zlt ?_,_,rfl,λb o e a3=>?_,λX b r=>?_⟩
     ·rw[bWK];have:=bKX (λi=>decide (L i=some j)) (out.take t);have h3:=List.length_take_le t out;have h4:out.length=n:=by rw[O.length_eq,bKo]
      have h5:(out.take t).length<=out.length:=by rw[bKz];omega
      omega
     ·rw[yH (λz=>a3 (by rw[z];exact bYI S))];exact g b o e a3
     ·rw[a2,bKV];by_cases M:X=j
      ·subst M;rw[y]at r;cases r;rw[yB];have: [i].filter (λi=>decide (L i=some X))= [i]:=by simp[hl]
       rw[this,bKR];rfl
      ·have b1:b≠d[j]:=λz=>by
        have h6:X<d.length:=(bWP.mp r).1;have h7:d[X]=b:=(bWP.mp r).2;exact M ((bYo (h₀:=h6) (h₁:=S) nd).mp (h7.trans z))
       rw[yH b1,u X b r];have: [i].filter (λi=>decide (L i=some X))= []:=by simp[hl,bKl M]
       rw[this,bKI]
  ·rintro σ H ⟨lt,rfl,g,u⟩;rw[bWK,bYp]at u;refine⟨_,rfl,q H a d (λj=>out.filter λi=>decide (L i=some j)) (λb o nt e=>g b o (kk b o nt e) (nr b o e)) ?_ (g _ _ Y a4) a6 u ⟨λj i=>?_,λj=>?_⟩⟩
   ·rcases t5 with t|⟨c',t1,t2⟩
    ·exact .inl (g _ _ t nT)
    ·exact .inr ⟨c',g _ _ t1 nT,g _ _ t2 λz=>by rw[r5 _ z]at t2;cases t2⟩
   ·rw[bKA,O.mem_iff,bKc,decide_eq_true_eq]
   ·exact(a8.imp λh=>by simpa using h).sublist bYZ
end
theorem aJX{n:Nat}{L:Nat->Option Nat}{D:Nat->Int}{a:Nat->List Nat}(h:bV8 n L D a)(j:Nat):(a j).length<=n:=
 Fm.zD ((h.ord j).imp λ{x y} e z=>by rw[z,Stree.zQ]at e;cases e) λx b=>((h.mem j x).mp b).1
theorem bZ8{n:Nat}{L:Nat->Option Nat}{D:Nat->Int}{rk:Nat->Nat}{a:Nat}{b nx:List Nat}(W:Fm.aX3 n L D rk a b nx):nx.length<=n:=
 Fm.zD (W.aa.imp λ{x y} e z=>by have:=e x (List.prefix_refl _);rw[z,Stree.uL]at this;cases this) λx c=>(W.al x c).1
section
variable {K:bWI}
theorem aKG:yJ ["links","dates","number","answers","told","ahead","letter"] ["links","dates","number"] (yD aZG):=scM
theorem aW0(T:vD mg)(g:FnG P w K mg base 2 "answers_to_each" ["links","dates"] (bZY Tb))(p:FnG P w K mg base 2 "top_of" ["links","number"] (bVc K))(F:Fun K "thread" "thread" aZG f fd): y0 P w K mg base CX0 3 f fd ["links","dates","number"] (aJA Tb):=by
 have sc:=aKG;refine F.ok (k:=2) sc (λa5 A outer s H0 vs Q E hr h=>?_);obtain⟨la,da,n,L,y,D,i,rfl,Y,a4,ho,hn,hi,hT,q⟩:=h;refine⟨_,(yC (yO (i:=3) (zE g hr rfl (yA (pv 0) (yA (pv 1) yF)))) (yC (yO (i:=4) (xR yF)) (yC (yO (i:=5) (xR (yA (zE p hr rfl (yA (pv 0) (yA (pv 2) yF))) yF))) (yC (qA bKB (yU aZu (yT yM rfl T.b_len xU (yA (pv 5) yF)) yK) (yC (yO (i:=6) (bJO bKj PySem.F.slot_list_pop PySem.F.type_list_pop bJz (pv 5))) (yC (yQ (vJ bKj bKp bKq y8 (pv 4) (yA (pv 6) yF))) (yG (yQ (vJ bKj PySem.F.slot_list_extend PySem.F.type_list_extend aWI (pv 5) (yA (yN yL (pv 3) (pv 6)) yF))))))) (yG (yP (pv 4))))))),?_⟩;refine⟨_,rfl,_,rfl,la,da,n,L,y,D,rfl,Y,a4,ho,hn,hT,λO a rs kd k1 t1 ha a6 a2 hk=>?_⟩;dsimp only[yS];refine⟨z0,λx I=>?_⟩;dsimp only[yS];have k2:=yI I (.lst []);refine⟨_,rfl,_,rfl,la,n,L,y,i,rfl,SqL.of (k2 _ _ (k1.lst Y)),ho,hi,z1,λo N=>?_⟩;dsimp only[yS];have S:O o=none:=k2.fresh N;have B:x≠o:=yE yB N;have k3:xV O (upd (upd O x (.lst [])) o (.lst [V.int (Fm.tp L y i:Nat)])):=k2.trans (yI N _);refine⟨λm σ H=>∃ (c J:List Nat)(lt:Option V),σ= [some (.ref la),some (.ref da),some (.int (i:Nat)),some (.ref a),some (.ref x),some (.ref o),lt]/\xV O H/\H x=some (.lst (c.map λi=>V.int (i:Nat)))/\
   H o=some (.lst (J.map λi=>V.int (i:Nat)))/\Fm.aX3 n L D y (Fm.tp L y i) c J.reverse/\m=n - c.length,
  ⟨n,[],[Fm.tp L y i],none,rfl,k3,by rw[yH B];exact yB,yB,Fm.aX3.start ho hi,by simp⟩,?_⟩
 rintro m σ H ⟨c,J,lt,rfl,r,X,C,W,rfl⟩;refine⟨_,rfl,o,_,rfl,.inl (SqL.of C),_,_,rfl,rfl,_,rfl,?_⟩;rcases List.eq_nil_or_concat J with rfl|⟨d,v,rfl⟩
 ·refine onF rfl ⟨_,rfl,q H x c (λb u n e=>yE (k1 b u n e) I) (k1.trans r.t) ?_ X W.tt λk=>W.done k⟩;rcases t1 with t|⟨c',t1,t2⟩
  ·exact .inl (r _ _ t)
  ·exact .inr ⟨c',r _ _ t1,r _ _ t2⟩
 ·rw[List.concat_eq_append]at C W ⊢;have Z:decide ((((d++ [v]).map λi=>V.int (i:Nat)).length:Int) > 0)=true:=by
   refine decide_eq_true ?_;rw[bWK,bWW,bKY];omega
  refine onT Z ⟨λR H'=>∃m',m'<n - c.length/\∃ (c J:List Nat)(lt:Option V),R= [some (.ref la),some (.ref da),some (.int (i:Nat)),some (.ref a),some (.ref x),some (.ref o),lt]/\xV O H'/\H' x=some (.lst (c.map λi=>V.int (i:Nat)))/\
   H' o=some (.lst (J.map λi=>V.int (i:Nat)))/\Fm.aX3 n L D y (Fm.tp L y i) c J.reverse/\m'=n - c.length,λR H' z=>z,?_⟩
  have M:((d++ [v]).map λi=>V.int (i:Nat))[((d++ [v]).map λi=>V.int (i:Nat)).length - 1]? =some (V.int (v:Nat)):=by simp
  have G:((d++ [v]).map λi=>V.int (i:Nat)).dropLast=d.map λi=>V.int (i:Nat):=by simp
  refine⟨_,rfl,.inl ⟨rfl,_,SqL.of C⟩,o,_,_,rfl,rfl,C,M,?_⟩;rw[G];dsimp only[yS];have W':Fm.aX3 n L D y (Fm.tp L y i) c (v::d.reverse):=by
   have:(d++ [v]).reverse=v::d.reverse:=by simp
   rw[this]at W;exact W
  have hv:=(W'.al v bWV).1;have W2:=W'.step ho (zU:=(kd v).reverse) (λj=>by rw[List.mem_reverse];exact hk.mem v j) (by rw[List.pairwise_reverse];exact hk.ord v);have l1:=W'.len;have l2:=bZ8 W';have l3:=aJX hk v;have l4:=W2.len;rw[bKH,List.length_reverse]at l2;rw[bWW,bKY]at l4;have U:upd H o (.lst (d.map λi=>V.int (i:Nat))) x=some (.lst (c.map λi=>V.int (i:Nat))):=by rw[yH B];exact X
  show bZ2 _ _ _ _;refine⟨_,rfl,.inl ⟨rfl,_,SqL.of U⟩,_,rfl,x,_,_,rfl,rfl,U,zlt (by rw[bWK];omega),?_⟩;have a0:upd (upd H o (.lst (d.map λi=>V.int (i:Nat)))) x (.lst ((c.map λi=>V.int (i:Nat))++ [V.int (v:Nat)])) o=some (.lst (d.map λi=>V.int (i:Nat))):=by rw[yH (bKl B)];exact yB
  have k6:xV O (upd (upd H o (.lst (d.map λi=>V.int (i:Nat)))) x (.lst ((c.map λi=>V.int (i:Nat))++ [V.int (v:Nat)]))):=xT (xT r S) I;have a1:v<rs.length:=by omega
  have hb:=bWF a1;have a3:=k6 _ _ (a2 v _ hb);refine⟨_,rfl,.inl ⟨rfl,_,SqL.of a0⟩,_,rfl,_,rfl,a,_,_,.ref rs[v],rfl,rfl,SqL.of (k6 _ _ ha),yV (by rw[bWY,hb];rfl),o,rs[v],_,_,rfl,rfl,a0,a3,zn (l:=(d.map λi=>V.int (i:Nat))++((kd v).map λi=>V.int (i:Nat))) (by rw[bWW,bWK,bWK];omega) |> λz=>by rw[bWW]at z;exact z,?_⟩;refine⟨n - (c.length+1),by omega,c++ [v],d++kd v,some (.int (v:Nat)),rfl,xT k6 S,?_,?_,?_,by rw[bWW,bKY]⟩
  ·rw[yH B,yB,bKR];rfl
  ·rw[yB,bKR]
  ·rw[List.reverse_append];exact W2
end
end Thr
namespace Desk
open PySem L2 PyProof.Rows
open Bk (Row Rows)
def aXo(x:Str):Stmt->Bool
 |.FunctionDef n _ _ _ _ _ _ _ _ _=>n==x
 |_=>false
def bVK(x:Str):Stmt->Bool
 |.ClassDef n _ _ _ _ _ _ _ _ _ _=>n==x
 |_=>false
def bXJ:Stmt->List Stmt
 |.ClassDef _ _ _ b _ _ _ _ _ _ _=>b
 |_=> []
abbrev text:List Stmt:=PySem.Challenge.pw_letterdesk_k07_whole_entered_whenever.main.body
def y7(x:Str):Stmt:=(text.find? (aXo x)).getD (.Pass ⟨0,0,0,0⟩)
def yW(c m:Str):Stmt:=((bXJ ((text.find? (bVK c)).getD (.Pass ⟨0,0,0,0⟩))).find? (aXo m)).getD (.Pass ⟨0,0,0,0⟩)
theorem xU:bKx "len"=some (.builtin "len"):=dk
theorem x6:bKx "sorted"=some (.builtin "sorted"):=dk
theorem u7:bKx "list"=some (.type "list"):=dk
structure vD(mg:Str->Option bWG):Prop where
 b_len:mg "len"=none
 b_sorted:mg "sorted"=none
 b_list:mg "list"=none
structure Cl(K:bWI)(CB CL:Nat):Prop where
 b:Cls K CB
 l:Cls K CL
 letters:zR K CB "letters"
 shut:zR K CB "shut"
 number:zR K CL "number"
 way:zR K CL "way"
 day:zR K CL "day"
 partner:zR K CL "partner"
 term:zR K CL "term"
 link:zR K CL "link"
 file:zR K CL "file"
 copies:zR K CL "copies"
 void:zR K CL "void"
abbrev xW:Option Nat->V:=Thr.xW
def Q3(r:Row):Int:=if r.void then 0 else r.term
def W7(r:Row):V:=if r.void then .non else .str r.place
def aXv(i:Nat)(r:Row)(c:Nat):List (Str×V):=
 [("number",.int (i:Nat)),("way",.str r.way),("day",.int r.date),("partner",.str r.partner),("term",.int (Q3 r)),("link",xW r.link),("file",W7 r),("copies",.ref c),("void",.bl r.void)]
def aJI(CL:Nat)(H:Hp)(b:Nat)(i:Nat)(r:Row)(c:Nat):Prop:=∃a,H b=some (.ins CL a (aXv i r c))
def stV(r:Row):List V:= [.str r.way,.int r.date,.str r.partner,.int (Q3 r),xW r.link,W7 r]
inductive aKS(CL:Nat)(vs:List V)(H:Hp)(Q:VK)(_:XK):Prop|mk (x dx:Nat) (i:Nat) (way:Str) (d:Int) (who:Str) (t:Int) (_:vs= [.ref x,.int (i:Nat),.str way,.int d,.str who,.int t]) (_:H x=some (.ins CL dx [])) (_:∀ (c:Nat)(H':Hp),H c=none->H' x=some (.ins CL dx (aXv i ⟨way,d,who,t,none,"",false,[]⟩ c))->H' c=some (.lst [])->(∀b,b≠x->b≠c->H' b=H b)->Q .non H')
inductive aKX(CL:Nat)(vs:List V)(H:Hp)(Q:VK)(_:XK):Prop|mk (b:Nat) (i:Nat) (r:Row) (c:Nat) (_:vs= [.ref b]) (_:aJI CL H b i r c) (_:∀t,H t=none->Q (.ref t) (upd H t (.tup (stV r))))
inductive aKN(CL:Nat)(vs:List V)(H:Hp)(Q:VK)(_:XK):Prop|mk (b b2:Nat) (i j:Nat) (r r2:Row) (c c2:Nat) (_:vs= [.ref b,.ref b2]) (_:aJI CL H b i r c) (_:aJI CL H b2 j r2 c2) (_:Q (.bl (decide (r2.link=some i))) H)
inductive bXp(CL:Nat)(vs:List V)(H:Hp)(Q:VK)(_:XK):Prop|mk (b:Nat) (i:Nat) (r:Row) (c:Nat) (who:Str) (_:vs= [.ref b,.str who]) (_:aJI CL H b i r c) (_:H c=some (.lst (r.copies.map V.str))) (_:Q (.bl (decide (who=r.partner) || r.copies.contains who)) H)
inductive bXv(CL:Nat)(vs:List V)(H:Hp)(Q:VK)(_:XK):Prop|mk (b dx:Nat) (i:Nat) (r:Row) (c:Nat) (_:vs= [.ref b]) (_:H b=some (.ins CL dx (aXv i r c))) (_:Q .non (upd H b (.ins CL dx (aXv i {r with link:=none,void:=true} c))))
inductive aKU(vs:List V)(H:Hp)(Q:VK)(_:XK):Prop|mk (way:Str) (_:vs= [.str way]) (_:Q (.str (Bk.wM way)) H)
section
variable {K:bWI}
abbrev aKn:Stmt:=yW "Letter" "__init__"
abbrev aKs:Stmt:=yW "Letter" "state"
abbrev aKf:Stmt:=yW "Letter" "is_answered_by"
abbrev bZE:Stmt:=yW "Letter" "has_gone_to"
abbrev bZK:Stmt:=yW "Letter" "make_void"
abbrev aKo:Stmt:=y7 "other_way"
theorem bQs:yJ ["self","number","way","day","partner","term"] ["self","number","way","day","partner","term"] (yD aKn):=scM
theorem aYY(T:Cl K CB CL)(F:Fun K "__init__" "Letter.__init__" aKn f fd):y0 P w K mg base CX0 (n+1) f fd ["self","number","way","day","partner","term"] (aKS CL):=by
 have y:=bQs;refine F.ok (k:=n) y (λu A outer s H B Q E z h=>?_);obtain⟨x,a,i,m,d,v,t,rfl,p,q⟩:=h;refine⟨_,(yC (x4 (pv 0) (pv 1) rfl) (yC (x4 (pv 0) (pv 2) rfl) (yC (x4 (pv 0) (pv 3) rfl) (yC (x4 (pv 0) (pv 4) rfl) (yC (x4 (pv 0) (pv 5) rfl) (yC (x4 (pv 0) wG rfl) (yC (x4 (pv 0) y1 rfl) (yC (x4 (pv 0) (xR yF) rfl) (yG (x4 (pv 0) qZ rfl)))))))))),?_⟩;refine⟨_,rfl,_,rfl,x,CL,a,_,rfl,p,T.l,T.number,(show 0<1000 by decide),?_⟩;refine⟨_,rfl,_,rfl,x,CL,a,_,rfl,yB,T.l,T.way,(show 1<1000 by decide),?_⟩;refine⟨_,rfl,_,rfl,x,CL,a,_,rfl,yB,T.l,T.day,(show 2<1000 by decide),?_⟩;refine⟨_,rfl,_,rfl,x,CL,a,_,rfl,yB,T.l,T.partner,(show 3<1000 by decide),?_⟩;refine⟨_,rfl,_,rfl,x,CL,a,_,rfl,yB,T.l,T.term,(show 4<1000 by decide),?_⟩;refine⟨_,rfl,x,CL,a,_,rfl,yB,T.l,T.link,(show 5<1000 by decide),?_⟩;refine⟨_,rfl,x,CL,a,_,rfl,yB,T.l,T.file,(show 6<1000 by decide),?_⟩;refine⟨z0,λc j=>?_⟩;have e:x≠c:=yE yB j;refine⟨_,rfl,x,CL,a,_,rfl,(yH e).trans yB,T.l,T.copies,(show 7<1000 by decide),?_⟩;refine⟨_,rfl,x,CL,a,_,rfl,yB,T.l,T.void,(show 8<1000 by decide),?_⟩;have g:H c=none:=by simp only[yH (bKl e)]at j;exact j
 refine q c _ g yB (by rw[yH (bKl e),yH (bKl e),yB]) λb r o=>?_;simp only[yH r,yH o]
theorem bQx:yJ ["self"] ["self"] (yD aKs):=scM
theorem aY3(T:Cl K CB CL)(F:Fun K "state" "Letter.state" aKs f fd):y0 P w K mg base CX0 (n+1) f fd ["self"] (aKX CL):=by
 have j:=bQx;refine F.ok (k:=n) j (λe A outer s H o Q E m h=>?_);obtain⟨b,i,r,c,rfl,⟨d,a⟩,q⟩:=h;refine⟨_,(yG (yP (zW (yA (yR (pv 0) rfl) (yA (yR (pv 0) rfl) (yA (yR (pv 0) rfl) (yA (yR (pv 0) rfl) (yA (yR (pv 0) rfl) (yA (yR (pv 0) rfl) yF))))))))),?_⟩;refine⟨_,rfl,b,CL,d,_,_,rfl,a,T.l,T.way,rfl,?_⟩;refine⟨_,rfl,b,CL,d,_,_,rfl,a,T.l,T.day,rfl,?_⟩;refine⟨_,rfl,b,CL,d,_,_,rfl,a,T.l,T.partner,rfl,?_⟩;refine⟨_,rfl,b,CL,d,_,_,rfl,a,T.l,T.term,rfl,?_⟩;refine⟨_,rfl,b,CL,d,_,_,rfl,a,T.l,T.link,rfl,?_⟩;refine⟨_,rfl,b,CL,d,_,_,rfl,a,T.l,T.file,rfl,?_⟩;exact⟨by show 6<=bKb;decide,λt g=>q t g⟩
theorem aZb{o:Option Nat}{m:Nat}:decide (xW o=V.int (m:Nat))=decide (o=some m):=by
 cases o with
 |none=>rfl
 |some j=>show decide (V.int (j:Nat)=V.int (m:Nat))=decide (some j=some m);rw[Bool.eq_iff_iff];simp;omega
theorem bQk:yJ ["self","other"] ["self","other"] (yD aKf):=scM
theorem aYQ(T:Cl K CB CL)(F:Fun K "is_answered_by" "Letter.is_answered_by" aKf f fd):y0 P w K mg base CX0 (n+1) f fd ["self","other"] (aKN CL):=by
 have t:=bQk;refine F.ok (k:=n) t (λp A outer s H x Q E v h=>?_);obtain⟨b,o,i,j,r,m,c,u,rfl,⟨g,e⟩,⟨a,d⟩,q⟩:=h;refine⟨_,(yG (yP (wI aQy (yR (pv 1) rfl) (yR (pv 0) rfl)))),?_⟩;refine⟨_,rfl,o,CL,a,_,_,rfl,d,T.l,T.link,rfl,?_⟩;refine⟨_,rfl,b,CL,g,_,_,rfl,e,T.l,T.number,rfl,?_⟩;rw[<- aZb]at q;refine⟨?_,q⟩;cases m.link<;> rfl
theorem aZ4(x:Str):∀ns:List Str,inV (.str x) (ns.map V.str)=ns.contains x
 |[]=>rfl
 |n::r=>by have a:=aZ4 x r;unfold inV at a ⊢;rw[bKv,bYX,a,bYJ];congr 1;show(n==x)=(x==n);rw[Bool.eq_iff_iff,beq_iff_eq,beq_iff_eq];exact eq_comm
theorem aXk:∀ns:List Str,(ns.map V.str).all jS=true
 |[]=>rfl
 |n::r=>by rw[bKv,cQR,aXk r];rfl
theorem bZN:yJ ["self","person"] ["self","person"] (yD bZE):=scM
theorem bZj(T:Cl K CB CL)(F:Fun K "has_gone_to" "Letter.has_gone_to" bZE f fd):y0 P w K mg base CX0 (n+1) f fd ["self","person"] (bXp CL):=by
 have p:=bZN;refine F.ok (k:=n) p (λm A outer s H u Q E t h=>?_);obtain⟨b,i,r,c,a,rfl,⟨e,d⟩,o,q⟩:=h;refine⟨_,(yG (yP (bJR (wI aQy (pv 1) (yR (pv 0) rfl)) (aW5 (wI aXD (pv 1) (yR (pv 0) rfl)))))),?_⟩;refine⟨_,rfl,_,rfl,b,CL,e,_,_,rfl,d,T.l,T.partner,rfl,rfl,?_⟩;have j:decide (V.str a=V.str r.partner)=decide (a=r.partner):=by rw[Bool.eq_iff_iff];simp
 refine⟨_,rfl,?_⟩;rw[j];cases g:decide (a=r.partner)with
 |true=>rw[g,Bool.true_or]at q;exact onT rfl q
 |false=>rw[g,Bool.false_or]at q;refine onF rfl ⟨_,rfl,_,rfl,b,CL,e,_,_,rfl,d,T.l,T.copies,rfl,c,_,rfl,.inl (SqL.of o),rfl,aXk _,?_⟩;rw[if_neg (by decide),aZ4];exact q
theorem bZU:yJ ["self"] ["self"] (yD bZK):=scM
theorem bZr(T:Cl K CB CL)(F:Fun K "make_void" "Letter.make_void" bZK f fd):y0 P w K mg base CX0 (n+1) f fd ["self"] (bXv CL):=by
 have g:=bZU;refine F.ok (k:=n) g (λe A outer s H m Q E j h=>?_);obtain⟨b,a,i,r,c,rfl,d,q⟩:=h;refine⟨_,(yC (x4 (pv 0) qZ rfl) (yC (x4 (pv 0) wG rfl) (yC (x4 (pv 0) wG rfl) (yG (x4 (pv 0) yK rfl))))),?_⟩;refine⟨_,rfl,b,CL,a,_,rfl,d,T.l,T.void,(show 9<1000 by decide),?_⟩;refine⟨_,rfl,b,CL,a,_,rfl,yB,T.l,T.link,(show 9<1000 by decide),?_⟩;refine⟨_,rfl,b,CL,a,_,rfl,yB,T.l,T.file,(show 9<1000 by decide),?_⟩;refine⟨_,rfl,b,CL,a,_,rfl,yB,T.l,T.term,(show 9<1000 by decide),?_⟩;rw[uD,uD,uD];exact q
theorem bQt:yJ ["way"] ["way"] (yD aKo):=scM
theorem aYZ(F:Fun K "other_way" "other_way" aKo f fd):y0 P w K mg base CX0 (n+1) f fd ["way"] aKU:=by
 have d:=bQt;refine F.ok (k:=n) d (λc A outer s H e Q E g h=>?_);obtain⟨a,rfl,q⟩:=h;refine⟨_,(yG (yP (bQa (yU aQy (pv 0) y1) y1 y1))),?_⟩;unfold Bk.wM at q;have b:decide (V.str a=V.str "in")=decide (a="in"):=by rw[Bool.eq_iff_iff];simp
 refine⟨_,rfl,rfl,_,rfl,?_⟩;rw[b];by_cases hw:a="in"
 ·rw[if_pos hw]at q;exact onT (decide_eq_true hw) q
 ·rw[if_neg hw]at q;exact onF (decide_eq_false hw) q
end
end Desk
namespace L2
open PySem PySem.Spec PyProof.Rows
section
variable {κ:Type} [DecidableEq κ]
def jR(kvs:List (κ×V))(k:κ):Option V:=(kvs.find? λa=>decide (a.1=k)).map (·.2)
def aQC(kvs:List (κ×V))(k:κ)(v:V):List (κ×V):=
 if(kvs.any λa=>decide (a.1=k))=true then kvs.map (λa=>if a.1=k then(a.1,v)else a)else kvs++ [(k,v)]
theorem x9{p:κ×V}{r:List (κ×V)}{k:κ}(e:p.1=k):jR (p::r) k=some p.2:=by simp[jR,cQb,e]
theorem x8{p:κ×V}{r:List (κ×V)}{k:κ}(e:¬p.1=k):jR (p::r) k=jR r k:=by simp[jR,cQb,e]
theorem uV(k:κ):∀kvs:List (κ×V),(kvs.any λa=>decide (a.1=k))=(jR kvs k).isSome
 |[]=>rfl
 |p::r=>by
  rw[bYX];by_cases e:p.1=k
  ·simp only[x9 e,decide_eq_true e,Bool.true_or,Option.isSome_some]
  ·rw[x8 e,decide_eq_false e,Bool.false_or];exact uV k r
theorem aJD(k j:κ)(y:V):∀kvs:List (κ×V),jR (kvs.map λa=>if a.1=k then(a.1,y)else a) j=(jR kvs j).map λx=>if j=k then y else x
 |[]=>rfl
 |p::r=>by
  have b:=aJD k j y r;rw[bKv];by_cases h:p.1=k
  ·rw[if_pos h];by_cases e:p.1=j
   ·rw[x9 (p:=(p.1,y)) e,x9 e,Option.map_some,if_pos (e.symm.trans h)]
   ·rw[x8 (p:=(p.1,y)) e,x8 e,b]
  ·rw[if_neg h];by_cases e:p.1=j
   ·rw[x9 (p:=p) e,x9 e,Option.map_some,if_neg (λz=>h (e.trans z))]
   ·rw[x8 (p:=p) e,x8 e,b]
theorem aX1(k j:κ)(y:V):∀kvs:List (κ×V),jR kvs k=none->jR (kvs++ [(k,y)]) j=if j=k then some y else jR kvs j
 |[],_=>by
  by_cases e:k=j
  ·rw[if_pos e.symm];exact x9 (p:=(k,y)) e
  ·rw[if_neg (λz=>e z.symm)];exact x8 (p:=(k,y)) e
 |p::r,hn=>by
  rw[List.cons_append];have a:¬p.1=k:=λz=>by rw[x9 z]at hn;cases hn
  rw[x8 a]at hn;have b:=aX1 k j y r hn;by_cases e:p.1=j
  ·rw[x9 e,x9 e,if_neg (λz=>a (e.trans z))]
  ·rw[x8 e,x8 e,b]
theorem bQT(kvs:List (κ×V))(k j:κ)(y:V):jR (aQC kvs k y) j=if j=k then some y else jR kvs j:=by
 unfold aQC;by_cases a:(kvs.any λb=>decide (b.1=k))=true
 ·rw[if_pos a,aJD];rw[uV]at a;by_cases e:j=k
  ·obtain⟨x,c⟩:=Option.isSome_iff_exists.mp a;rw[if_pos e,e,c,Option.map_some,if_pos rfl]
  ·rw[if_neg e];cases jR kvs j with
   |none=>rfl
   |some x=>rw[Option.map_some,if_neg e]
 ·rw[if_neg a];refine aX1 k j y kvs ?_;rw[uV]at a;cases q:jR kvs k with
  |none=>rfl
  |some x=>rw[q]at a;exact(a rfl).elim
theorem v1(kvs:List (κ×V))(k:κ)(v:V):(aQC kvs k v).length<=kvs.length+1:=by
 unfold aQC;split
 ·rw[bWK];omega
 ·rw[bWW,bKH,cQu];omega
theorem bQe{kvs:List (κ×V)}{k:κ}(v:V)(h:jR kvs k=none):aQC kvs k v=kvs++ [(k,v)]:=by
 unfold aQC;rw[uV,h];exact if_neg (by decide)
theorem aQe.isSome_eq{o:Option V}{u:Option bWG}(r:aQe o u):o.isSome=u.isSome:=by
 cases o with
 |none=>cases u with
  |none=>rfl
  |some _=>exact(show False from r).elim
 |some _=>cases u with
  |none=>exact(show False from r).elim
  |some _=>rfl
theorem KV.val{kvs:List (κ×V)}{vs:List (κ×bWG)}(r:KV kvs vs)(k:κ):aQe (jR kvs k) (cQI vs k):=by
 unfold KV at r;induction r with
 |nil=>exact bK3
 |@cons p q i a h t f=>
  obtain⟨d,g⟩:=h;by_cases e:p.1=k
  ·have c:q.1=k:=d.symm.trans e;have b:cQI (q::a) k=some q.2:=by simp[cQI,cQb,c]
   rw[x9 e,b];exact g
  ·have c:¬q.1=k:=λz=>e (d.trans z);have b:cQI (q::a) k=cQI a k:=by simp[cQI,cQb,c]
   rw[x8 e,b];exact f
theorem KV.any{kvs:List (κ×V)}{vs:List (κ×bWG)}(r:KV kvs vs)(k:κ):(kvs.any λa=>decide (a.1=k))=vs.any λa=>decide (a.1=k):=by
 unfold KV at r;induction r with
 |nil=>rfl
 |cons h t b=>rw[bYX,bYX,b,h.1]
theorem KV.repl{kvs:List (κ×V)}{vs:List (κ×bWG)}(r:KV kvs vs)(k:κ){y:V}{u:bWG}(d:xZ y u): KV (kvs.map λa=>if a.1=k then(a.1,y)else a) (vs.map λa=>if a.1=k then(a.1,u)else a):=by
 unfold KV at r ⊢;induction r with
 |nil=>exact .nil
 |@cons p q g i h t f=>
  rw[bKv,bKv];refine .cons ?_ f;obtain⟨b,c⟩:=h;by_cases e:p.1=k
  ·rw[if_pos e,if_pos (b.symm.trans e)];exact⟨b,d⟩
  ·rw[if_neg e,if_neg (λz=>e (b.trans z))];exact⟨b,c⟩
theorem KV.put{kvs:List (κ×V)}{vs:List (κ×bWG)}(r:KV kvs vs)(k:κ){y:V}{u:bWG}(a:xZ y u):KV (aQC kvs k y) (stored vs k u):=by
 unfold aQC stored;rw[r.any k];by_cases e:(vs.any λb=>decide (b.1=k))=true
 ·rw[if_pos e,if_pos e];exact r.repl k a
 ·rw[if_neg e,if_neg e];exact Paired.snoc r ⟨rfl,a⟩
theorem KV.length{kvs:List (κ×V)}{vs:List (κ×bWG)}(r:KV kvs vs):kvs.length=vs.length:=bYz r
end
theorem aWu{P:bW3}{w:bKa}{k:Key}{u:bWG}(r:xZ (kV k) u):(xJ P w).is k u=true:=by
 cases k with
 |inl i=>obtain⟨t,e⟩:=(show ∃t,u=Value.int i t from r);subst e;exact aZj P w i t
 |inr x=>obtain⟨t,e⟩:=(show ∃t,u=Value.str x t from r);subst e;exact v5 P w x t
theorem aXp{P:bW3}{w:bKa}:∀ {ks:List Key} {us:List bWG},xK (ks.map kV) us->ItemsAre (xJ P w) ks us
 |[],_,r=>by rw[List.map_nil]at r;cases r;exact .nil
 |k::ks,_,r=>by
  rw[bKv]at r;cases r with
  |cons h t=>exact .cons (aWu h) (aXp t)
abbrev KT(H:Hp):List (List Key×V)->List (List Key×Addr×bWG)->Prop:=bYi λp q=>p.1=q.1/\H q.2.1=some (.tup (p.1.map kV))/\xZ p.2 q.2.2
theorem KT.val{H:Hp}{kvs:List (List Key×V)}{xs:List (List Key×Addr×bWG)}(r:KT H kvs xs)(k:List Key):aQe (jR kvs k) ((atKey xs k).map (·.2)):=by
 induction r with
 |nil=>exact bK3
 |@cons p q i c h t g=>
  obtain⟨d,_,f⟩:=h;by_cases e:p.1=k
  ·have a:q.1=k:=d.symm.trans e;have b:atKey (q::c) k=some q.2:=by simp[atKey,cQb,a]
   rw[x9 e,b];exact f
  ·have a:¬q.1=k:=λz=>e (d.trans z);have b:atKey (q::c) k=atKey c k:=by simp[atKey,cQb,a]
   rw[x8 e,b];exact g
theorem KT.repl{H:Hp}{kvs:List (List Key×V)}{xs:List (List Key×Addr×bWG)}(r:KT H kvs xs)(k:List Key){y:V}{u:bWG}(f:xZ y u): KT H (kvs.map λb=>if b.1=k then(b.1,y)else b) (xs.map (putAt k u)):=by
 induction r with
 |nil=>exact .nil
 |@cons p q i j h t g=>
  rw[bKv,bKv];refine .cons ?_ g;obtain⟨a,c,d⟩:=h;unfold putAt;by_cases e:p.1=k
  ·rw[if_pos e,if_pos (a.symm.trans e)];exact⟨a,c,f⟩
  ·rw[if_neg e,if_neg (λz=>e (a.trans z))];exact⟨a,c,d⟩
theorem KT.put{H:Hp}{kvs:List (List Key×V)}{xs:List (List Key×Addr×bWG)}(r:KT H kvs xs)(k:List Key){b:Addr}{y:V}{u:bWG}(d:H b=some (.tup (k.map kV)))(a:xZ y u): KT H (aQC kvs k y) (storedH xs k b u):=by
 have e:(kvs.any λc=>decide (c.1=k))=(atKey xs k).isSome:=by rw[uV,(r.val k).isSome_eq,Option.isSome_map]
 unfold aQC storedH;rw[e];by_cases q:(atKey xs k).isSome=true
 ·rw[if_pos q,if_pos q];exact r.repl k a
 ·rw[if_neg q,if_neg q];exact Paired.snoc r ⟨rfl,d,a⟩
theorem KT.keeps{H a:Hp}{kvs:List (List Key×V)}{xs:List (List Key×Addr×bWG)}(r:KT H kvs xs)(d:∀b c,H b=some (.tup c)->a b=some (.tup c)):KT a kvs xs:=
 Paired.mapP r λ_ _ z=>⟨z.1,d _ _ z.2.1,z.2.2⟩
section
variable {P:bW3}{w:bKa}{H:Hp}{h:Heap}{a:Addr}
theorem bJ0{u:HO}(ok:HOk P w H h)(e:Rd H a u):x5 P w H h a u:=e.ok ok
theorem aYn{kvs:List (Key×V)}(ok:HOk P w H h)(e:Rd H a (.dK kvs)):kvs.length<=bKb/\(a==cQy)=false/\∃b,KV kvs b/\h.DictOf (xJ P w) a b:=
 show x5 P w H h a (.dK kvs)from bJ0 ok e
theorem bVF{kvs:List (Key×V)}(ok:HOk P w H h)(e:H a=some (.dK kvs)):kvs.length<=bKb/\(a==cQy)=false/\∃b,KV kvs b/\h.DictOf (xJ P w) a b:=aYn ok (.inl e)
theorem aZ6{ks:List Key}(ok:HOk P w H h)(e:H a=some (.tup (ks.map kV))):(tupleKind (xJ P w)).is h ks a:=by
 obtain⟨_,b,r,o,c,f,n,d⟩:=(show x5 P w H h a (.tup (ks.map kV))from ok a _ e);exact⟨o,b.toArray,n,c,f,d,by simpa using aXp r⟩
theorem aYo{kvs:List (List Key×V)}(ok:HOk P w H h)(e:Rd H a (.dT kvs)):kvs.length<=bKb/\(a==cQy)=false/\ ∃c,KT H kvs c/\h.DictOfH (tupleKind (xJ P w)) a c:=by
 obtain⟨z,y,c,r,o,k,i,j,g,f,n,s⟩:=(show x5 P w H h a (.dT kvs)from bJ0 ok e);refine⟨z,y,c,r,o,k,i,j,g,f,n,λx b=>?_,s⟩;have all:∀ {l:List (List Key×V)} {m:List (List Key×Addr×bWG)},KT H l m->∀x∈m,(tupleKind (xJ P w)).is h x.1 x.2.1:=by
  intro l m q;induction q with
  |nil=>intro x b;exact nomatch b
  |@cons p q v A d t u=>
   intro x b;rcases bWU.mp b with e|b
   ·subst e;exact aZ6 ok (by rw[<- d.1];exact d.2.1)
   ·exact u x b
 exact all r x b
theorem zI{kvs:List (List Key×V)}(ok:HOk P w H h)(e:H a=some (.dT kvs)):kvs.length<=bKb/\(a==cQy)=false/\
  ∃b,KT H kvs b/\h.DictOfH (tupleKind (xJ P w)) a b:=aYo ok (.inl e)
end
def aJG(H:Hp)(a:Addr)(y:V)(r:Option V):Prop:=
 (∃kvs k,Rd H a (.dK kvs)/\y=kV k/\r=jR kvs k)\/∃kvs k b,Rd H a (.dT kvs)/\y= .ref b/\H b=some (.tup (k.map kV))/\r=jR kvs k
def bQY(H:Hp)(a:Addr)(y v:V)(c:Hp):Prop:=
 (∃kvs k,H a=some (.dK kvs)/\y=kV k/\kvs.length<bKb/\c=upd H a (.dK (aQC kvs k v)))\/
 ∃kvs k b,H a=some (.dT kvs)/\y= .ref b/\H b=some (.tup (k.map kV))/\kvs.length<bKb/\c=upd H a (.dT (aQC kvs k v))
theorem aJG.k{H:Hp}{a:Addr}{kvs:List (Key×V)}{k:Key}(e:H a=some (.dK kvs)):aJG H a (kV k) (jR kvs k):= .inl ⟨kvs,k,.inl e,rfl,rfl⟩
theorem bQY.k{H:Hp}{a:Addr}{kvs:List (Key×V)}{k:Key}{v:V}(e:H a=some (.dK kvs))(hl:kvs.length<bKb):bQY H a (kV k) v (upd H a (.dK (aQC kvs k v))):= .inl ⟨kvs,k,e,rfl,hl,rfl⟩
section
variable {X:Cx}{pins:List (Addr×Obj)}{σ:St}{H:Hp}{s:bWJ}{a:Addr}{y v:V}{u r:bWG}{o:Option V}{A:bKk}{E:bWG->bWJ->Prop}
theorem Inv.big(I:Inv X pins σ H s):cQy<s.heap.objs.size:=by
 have h:bKd<s.heap.objs.size:=(I.mod.glob.keeps I.bk).lt;exact Nat.lt_trans (by decide) h
theorem aV5{Q:bWG->bWJ->Prop}(B:A.units+1<cLine)(I:Inv X pins σ H s)(g:aJG H a y (some v))(n:xZ y u)(h:∀f q,Inv X pins σ H q->xZ v f->Q f q): bWO (bWQ X.prog X.w) A (getItem (.ref a) u) Q E s:=by
 rcases g with⟨kvs,k,e,i,l⟩|⟨kvs,k,b,e,i,D,l⟩
 ·subst i;obtain⟨z,x,C,c,j⟩:=aYn I.hok e;obtain⟨f,hw,d⟩:=aQe.some_of (v:=v) (o:=cQI C k) (by rw[l];exact c.val k);exact wpAny_getItem_of (aWu n) j.mapOf hw (h f _ (I.tok _) d)
 ·subst i;cases (show u=Value.ref b from n);obtain⟨z,x,t,c,j⟩:=aYo I.hok e;obtain⟨f,hw,d⟩:=aQe.some_of (v:=v) (o:=(atKey t k).map (·.2)) (by rw[l];exact c.val k);obtain⟨p,r,m⟩:=Option.map_eq_some_iff.mp hw;refine wpAny_getItem_heap (cXL B) (aZ6 I.hok D) j r ?_;rw[m];exact h f _ (I.tok _) d
theorem bXL{Q:bWG->bWJ->Prop}(n:A.units+1<cLine)(I:Inv X pins σ H s)(g:aJG H a y o)(j:xZ y u)(h:∀m,Inv X pins σ H m->Q (.bool (!o.isSome)) m): bWO (bWQ X.prog X.w) A (bYd .NotIn u (.ref a)) Q E s:=by
 rcases g with⟨kvs,k,e,d,l⟩|⟨kvs,k,b,e,d,p,l⟩
 ·subst d;obtain⟨z,f,t,c,i⟩:=aYn I.hok e;refine wpAny_notIn_of (aWu j) f i.mapOf ?_;rw[<- (c.val k).isSome_eq,<- l];exact h _ (I.tok _)
 ·subst d;cases (show u=Value.ref b from j);obtain⟨z,f,r,c,i⟩:=aYo I.hok e;refine wpAny_notIn_heap (cXL n) (aZ6 I.hok p) f i ?_;have q:=(c.val k).isSome_eq;rw[Option.isSome_map]at q;rw[<- q,<- l];exact h _ (I.tok _)
theorem aV7{h':Heap}{t':Nat}{c:HO}(I:Inv X pins σ H s)(g:Mut (H a))(i:bYt a s.heap h')(h:∃q,h'.get? a=some q)(d:x5 X.prog X.w (upd H a c) h' a c): Inv X pins σ (upd H a c) {s with heap:=h',toks:=t'}:=
 I.write (x:=a) (e:=a) g (.inl rfl) (λb q f z=>(i.2 b f).trans z) h d
theorem bJo{P:bW3}{w:bKa}{c:Hp}{h':Heap}{kvs:List (Key×V)}{vs:List (Key×bWG)}(z:kvs.length<=bKb)(e:(a==cQy)=false)(b:KV kvs vs)(d:h'.DictOf (xJ P w) a vs):
  x5 P w c h' a (.dK kvs):=⟨z,e,vs,b,d⟩
theorem aV6{D:Hp}{Q:Unit->bWJ->Prop}(O:A.units+1<cLine)(I:Inv X pins σ H s)(g:bQY H a y v D)(F:xZ y u)(x:xZ v r)(h:∀G,Inv X pins σ D G->Q () G): bWO (bWQ X.prog X.w) A (setItem (.ref a) u r) Q E s:=by
 rcases g with⟨kvs,k,e,m,l,n⟩|⟨kvs,k,b,e,m,J,l,n⟩
 ·subst m n;obtain⟨z,o,R,d,t⟩:=bVF I.hok e;have j:R.length<=bKb:=by rw[<- d.length];exact z
  have hl:(aQC kvs k v).length<=bKb:=by have:=v1 kvs k v;omega
  refine wpAny_setItem_pairs (hsz:=j) (aWu F) t λC f p=>h _ ?_;have T:∃q,C.get? a=some q:=let ⟨q,_,_,i,_⟩:=f;⟨q,i⟩;exact aV7 I (by rw[e];exact bK3) p T (bJo hl o (d.put k x) f)
 ·subst m n;cases (show u=Value.ref b from F);obtain⟨z,o,N,d,t⟩:=zI I.hok e;have j:N.length<=bKb:=by rw[<- bYz d];exact z
  have hl:(aQC kvs k v).length<=bKb:=by have:=v1 kvs k v;omega
  refine wpAny_setItem_heap (hsz:=j) (cXL O) (aZ6 I.hok J) t λC f p=>h _ ?_;obtain⟨q,P,M,i,L,K,S,_,U⟩:=f;refine aV7 I (by rw[e];exact bK3) p ⟨q,i⟩ ⟨hl,o,_,(d.put k J x).keeps λc V B=>?_,q,P,M,i,L,K,S,U⟩;rw[yH (bZd B e (λz=>nomatch z))];exact B
end
section
variable {X:Cx}{pins:List (Addr×Obj)}{σ:St}{H:Hp}{s:bWJ}{a:Addr}{kvs:List (Key×V)}{k:Key}{u:bWG}{A:bKk}{E:bWG->bWJ->Prop}
end
def bVy(i:Expr):Prop:=∀b a,subscripted i false b a=operate [b,a] (getItem b a)
theorem aK1{prog:bW3}{w:bKa}{A:bKk}{E:bWG->bWJ->Prop}{s:bWJ}{env:Env}{value a:Expr}{pos:Pos}{T id:String}{Q:bWG->bWJ->Prop} (hl:typeLookup (.type T) "__getitem__"=pure (some (.builtin id))) (l:bVy a) (h:bWO (bWQ prog w) A (eval value env) (λo d=>bWO (bWQ prog w) A (eval a env) (λi b=>b.TypeIs o T/\bWO (bWQ prog w) A (getItem o i) Q E b) E d) E s): bWO (bWQ prog w) A (eval (.Subscript value a pos) env) Q E s:=by
 refine Subscript_ (bKE h (λo d j=>bKE j (λi b c=>?_) λ_ _ x=>x) λ_ _ x=>x);obtain⟨k,c⟩:=c;unfold subscriptTail;refine bWH ?_;rw[getitemInPython_of_ne k.not_modules];refine bWH (wpAny_specialOf k hl ?_);have f:bWO (bWQ prog w) A (subscripted a false o i) (λr e=>bWO (bWQ prog w) A (letTemporaryGo value o r >>=λ_=>pure r) Q E e) E b:=by rw[l o i];exact wpAny_operating (bKE c (λr e g=>bWH (wpAny_letTemporaryGo (bWM g))) λ_ _ x=>x)
 first
  |exact bWM (bWH f)
  |exact bWH (bWM (bWH f))
  |exact bWH f
theorem aZa{X:Cx}{pins:List (Addr×Obj)}{σ:St}{H:Hp}{s:bWJ}{a:Addr}{y:V}{o:Option V}(I:Inv X pins σ H s)(g:aJG H a y o):s.TypeIs (.ref a) "dict":=by
 rcases g with⟨kvs,k,e,_,_⟩|⟨kvs,k,b,e,_,_,_⟩
 ·obtain⟨_,_,d,_,c⟩:=aYn I.hok e;exact c.typeIs
 ·obtain⟨_,_,f,_,c⟩:=aYo I.hok e;exact c.typeIs
inductive bVf(Q:VK)(x:V)(y:V)(H2:Hp):Prop|mk (a v) (_:x= .ref a) (_:aJG H2 a y (some v)) (_:Q v H2)
def bVY(td ty:TE):TE:=λσ H Q=>td σ H λx a=>ty σ a λy b=>bVf Q x y b
inductive bQG(Q:VK)(y:V)(x:V)(H2:Hp):Prop|mk (a o) (_:x= .ref a) (_:aJG H2 a y o) (_:Q (.bl (!o.isSome)) H2)
def bZ1(ty td:TE):TE:=λσ H Q=>ty σ H λy a=>td σ a λx b=>bQG Q y x b
inductive bJ1(D:aJH)(σ:St)(v:V)(x:V)(y:V)(H3:Hp):Prop|mk (a H4) (_:x= .ref a) (_:bQY H3 a y v H4) (_:D.nx σ H4)
def bVQ(td ty tv:TE):TS:=λD σ H=>tv σ H λv a=>td σ a λx c=>ty σ c λy b=>bJ1 D σ v x y b
section
variable {X:Cx}{o i e value:Expr}{pos pos' tpos:Pos}{td ty tv:TE}
theorem Y0(d:X.A.units+1<cLine)(e:PE X o td)(f:PE X i ty)(j:bVy i):PE X (.Subscript o i pos) (bVY td ty):=by
 intro pins s σ H Q I h;refine aK1 cX0.lookup j (thn (e pins s σ H _ I h) λu s1 ⟨x,H1,I1,rx,q1⟩=>thn (f pins s1 σ H1 _ I1 q1) λiv s2 ⟨y,H2,I2,ry,a,v,ex,g,q2⟩=>?_);subst ex;obtain rfl:u=Value.ref a:=rx;exact⟨aZa I2 g,aV5 d I2 g ry λk l c b=>⟨v,H2,c,b,q2⟩⟩
theorem aW2(c:X.A.units+1<cLine)(e:PE X i ty)(d:PE X o td):PC X .NotIn i o (bZ1 ty td):=by
 intro pins s σ H Q I h;refine thn (e pins s σ H _ I h) λiv s1 ⟨y,H1,I1,ry,q1⟩=>thn (d pins s1 σ H1 _ I1 q1) λu s2 ⟨x,H2,I2,rx,a,ov,ex,g,q2⟩=>?_;subst ex;obtain rfl:u=Value.ref a:=rx;exact bXL c I2 g ry λf b=>⟨.bl (!ov.isSome),H2,b,rfl,q2⟩
theorem aQB(c:X.A.units+1<cLine)(e:PE X o td)(f:PE X i ty)(d:PE X value tv)(j:swapsWith value (some (.Subscript o i pos')) pos.line X.env=pure false): PS X (.Assign [.Subscript o i pos'] value pos) (bVQ td ty tv):=by
 intro pins s σ H D I h;refine wpAny_Assign_Subscript (thn (d pins s σ H _ I h) λr s1 ⟨v,H1,I1,rv,q1⟩=>thn (e pins s1 σ H1 _ I1 q1) λu s2 ⟨x,H2,I2,rx,q2⟩=>thn (f pins s2 σ H2 _ I2 q2) λiv s3 ⟨y,H3,I3,ry,a,H4,ex,g,q3⟩=>?_) j;subst ex;obtain rfl:u=Value.ref a:=rx;exact aV6 c I3 g ry rv λk b=>⟨σ,H4,b,q3⟩
end
theorem aYm{P:bW3}{w:bKa}{H:Hp}(h:Heap)(a:cQy<h.objs.size):x5 P w H (h.push {cls:= .type "dict",data:= .dict #[] }) h.objs.size (.dK []):=
 ⟨bKt _,beq_eq_false_iff_ne.mpr (bKl (bW9 a)),[],.nil,Heap.DictOf.new h⟩
def bVg:TE:=λ_ H Q=>∀p,H p=none->Q (.ref p) (upd H p (.dK []))
section
variable {X:Cx}{pos:Pos}
theorem jZ:PE X (.Dict [] [] pos) bVg:=λpins s σ H Q I h=>
 wpAny_Dict_empty ⟨.ref s.heap.objs.size,_,I.laid (a:=s.heap.objs.size) (o:= .dK []) (t':=s.toks) (λ_ _ q=>bWL _ q) (bWN _) (aYm s.heap I.big),rfl,h _ (I.hok.fresh (bWN _))⟩
end
section
variable {X:Cx}{pins:List (Addr×Obj)}{σ:St}{H:Hp}{s:bWJ}{a:Addr}{y d:V}{u r:bWG}{o:Option V}{A:bKk}{E:bWG->bWJ->Prop}
end
section
variable {X:Cx}{o e f:Expr}{apos cpos:Pos}{td ty tx:TE}
end
section
variable {X:Cx}{pins:List (Addr×Obj)}{σ:St}{H:Hp}{s:bWJ}{a:Addr}{kvs:List (Key×V)}{A:bKk}{E:bWG->bWJ->Prop}
end
section
variable {X:Cx}{pins:List (Addr×Obj)}{σ:St}{H:Hp}{s:bWJ}{a:Addr}{y:V}{u:bWG}{A:bKk}{E:bWG->bWJ->Prop}
end
end L2
namespace L2
open PySem PySem.Spec PyProof.Rows
section
variable {κ:Type} [DecidableEq κ]
end
end L2
namespace L2
open PySem PySem.Spec PyProof.Rows
section
variable {X:Cx}
theorem w8:uY X (.builtin "sorted") (λxs H Q=>∃ (p:Nat)(its:List V)(g:Nat->Int×Int),xs= [.ref p]/\H p=some (.lst its)/\its.length<64/\ (∀i j,i<its.length->j<its.length->g i=g j->i=j)/\(∀i x,its[i]? =some x->∃a,x= .ref a/\H a=some (.tup [.int (g i).1,.int (g i).2]))/\ ∀l (out:List Nat),H l=none->out.Perm (bWS its.length)->(out.Pairwise λi j=>Stree.zT (g i) (g j)=true)->Q (.ref l) (upd H l (.lst (out.map λi=>its.getD i .non)))):=by
 intro G s σ H xs us Q I r h;obtain⟨p,its,g,rfl,hp,b2,Z,a7,q⟩:=h;obtain⟨u,rfl,ru⟩:=jU r;cases ru;obtain⟨d,rv,pl,hz⟩:=I.list (SqL.of hp);have a1:d.length=its.length:=rv.length.symm;refine cQ1 kind_sorted plain_sorted entry_sorted (args_sorted1 _) ?_;unfold bYC.«sorted»;refine bWH (m:=checkCount "sorted" 1 1 _) (bWM ?_);refine bWH (collect_list pl.isList ?_ (by rw[bKg];omega));refine bWH (cQW ?_ (by rw[bKg];omega));have Y:((s.heap.push (bKr "list" #[] 0)).update s.heap.objs.size (bKu (·++d.toArray))).objs.size=s.heap.objs.size+1:=by rw[Heap.size_update,size_push']
 have w:(((s.heap.push (bKr "list" #[] 0)).update s.heap.objs.size (bKu (·++d.toArray))).push (bKr "list" d.toArray 0)).get? (s.heap.objs.size+1)=some (bKr "list" d.toArray 0):=by rw[<- Y];exact bW4 _ rfl
 have keep:∀b o,s.heap.get? b=some o->(((s.heap.push (bKr "list" #[] 0)).update s.heap.objs.size (bKu (·++d.toArray))).push (bKr "list" d.toArray 0)).get? b=some o:=λb o q=>by have a0:b<s.heap.objs.size:=bWT q;refine bWL _ ?_;exact(bKe _ _ (bY7 a0)).trans (bWL _ q)
 show bWO _ _ _ _ _ {s with heap:=((s.heap.push (bKr "list" #[] 0)).update s.heap.objs.size (bKu (·++d.toArray))).push (bKr "list" d.toArray 0) };rw[Y];generalize b0:((s.heap.push (bKr "list" #[] 0)).update s.heap.objs.size (bKu (·++d.toArray))).push (bKr "list" d.toArray 0)=R at w keep ⊢;refine bWH (bKJ (bYy cXK ⟨_,w,rfl⟩ cXB ?body (cXJ _)));case body=>
  have I1:Inv X G σ H {s with heap:=R}:=I.kept (t':=s.toks) keep;have N:s.heap.objs.size<=s.heap.objs.size+1:=bYN _;have fa:=I.fpOk (b:=s.heap.objs.size+1) N (I.hok.fresh N);obtain⟨r,a8,U⟩:=Stree.aKa (n:=d.length) (λi j=>Stree.zT (g i) (g j)) (λi _=>Stree.zQ _) (λi j k _ _ _ R K=>Stree.aQt R K)
   (λi j A L a6=>Stree.aQs λz=>a6 (Z i j (by omega) (by omega) z))
  have ob:∀i,i<d.length->∃a o B D m,d.getD i Value.none= .ref a/\R.get? a=some o/\o.cls= .type "tuple"/\o.data= .seq #[.int (g i).1 B,.int (g i).2 D] m:=λi A=>by
   have C:i<its.length:=by omega
   obtain⟨a,e1,e2⟩:=a7 i its[i] (bWF C);obtain⟨u0,P,E⟩:=rv.get (bWF C);rw[e1]at E;cases E;obtain⟨b1,rj,pj,_⟩:=I1.tuple (SqT.of e2);obtain⟨u1,u2,rfl,q1,q2⟩:=xK.two rj;obtain⟨B,rfl⟩:=q1;obtain⟨D,rfl⟩:=q2;obtain⟨o,M,J,m,O⟩:=pj;exact⟨a,o,B,D,m,by simp[bKC,P],M,J,O⟩
  refine Stree.aKL (s:={s with heap:=R}) w (by omega) r a8 (λK=>⟨tuples' true,λK k2=>⟨λQ' a9=>?_,λi j C' A L hC=>?_⟩⟩) λp h5 c5 S a5 k5 o5=>?_
  ·have kt:∀ {x:Nat} {o:Obj},R.get? x=some o->o.cls= .type "tuple"->K.get? x=some o:=λ{x o} e c=>k2 x o (λz=>by rw[z,w]at e;cases e;have c':Value.type "list"=Value.type "tuple":=c;injection c' with c'';exact absurd c'' (by decide)) e;have a2:∀ (l:List bWG),(∀ (i:Nat)(v:bWG),l[i]? =some v->∃a o B D m x y,v=Value.ref a/\K.get? a=some o/\o.cls= .type "tuple"/\o.data= .seq #[.int x B,.int y D] m)->
     ∃fs,cX4 K l fs/\fs.length=l.length/\∀f∈fs,∃x t,f=Value.int x t:=by
    intro l
    induction l with
    |nil=>intro _;exact⟨[],trivial,rfl,λf hf=>by cases hf⟩
    |cons v l ih=>
     intro F;obtain⟨a,o,B,D,m,x,y,rfl,M,J,O⟩:=F 0 v rfl;obtain⟨fs,f1,f2,f3⟩:=ih λi v h=>F (i+1) v h;refine⟨.int x B::fs,PySem.W.KatTups.cons M J O rfl f1,by simp[f2],λf hf=>?_⟩;rcases bWU.mp hf with rfl|hf
     ·exact⟨x,B,rfl⟩
     ·exact f3 f hf
   obtain⟨fs,f1,f2,f3⟩:=a2 d λi v F=>by
    have A:i<d.length:=by
     rcases cQ6 i d.length with h|h
     ·exact h
     ·rw[bKf h]at F;cases F
    obtain⟨a,o,B,D,m,g0,M,J,O⟩:=ob i A;have:d.getD i Value.none=v:=by simp[bKC,F]
    rw[this]at g0;exact⟨a,o,B,D,m,_,_,g0,kt M J,J,O⟩
   refine PySem.W.kat_kind (T:= .type "int") f1 (by omega) (λv F=>?_) rfl a9;obtain⟨x,t,rfl⟩:=f3 v F;exact .now
  ·obtain⟨ai,oi,B,D,m1,g0,M,J,O⟩:=ob i A;obtain⟨aj,oj,t3,t4,m2,d0,d1,d2,d3⟩:=ob j L;have kt:∀ {x:Nat} {o:Obj},R.get? x=some o->o.cls= .type "tuple"->K.get? x=some o:=λ{x o} e c=>k2 x o (λz=>by rw[z,w]at e;cases e;have c':Value.type "list"=Value.type "tuple":=c;injection c' with c'';exact absurd c'' (by decide)) e;show bWO _ _ (keyLt' _ (d.getD i Value.none) (d.getD j Value.none)) _ _ _;rw[g0,d0];refine Stree.aWG (kt M J) O (kt d1 d2) d3 ?_;have e1:=U i j A L;rw[e1]at hC;exact hC
  ·have hm:∀i∈p,i<d.length:=λi A=>bKc.mp (S.mem_iff.mp A);have vv:∀l:List Nat,(∀i∈l,i<d.length)->xK (l.map λi=>its.getD i .non) (l.map λi=>d.getD i Value.none):=by
    intro l;induction l with
    |nil=>intro _;exact .nil
    |cons i l ih=>
     intro h;refine .cons ?_ (ih λj L=>h j (bWR _ L));have A:=h i bWV;have C:i<its.length:=by omega
     obtain⟨u0,P,E⟩:=rv.get (bWF C);show xZ (its.getD i .non) (d.getD i Value.none);have e1:d.getD i Value.none=u0:=by simp[bKC,P]
     have e2:its.getD i .non=its[i]:=by simp[bKC,bWF C]
     rw[e1,e2];exact E
   have v2:=vv p hm;have a3:p.Perm (bWS its.length):=by rw[<- a1];exact S
   have a0:p.length=d.length:=by rw[S.length_eq,bKo]
   have a4:p.Pairwise λi j=>Stree.zT (g i) (g j)=true:=a5.imp_of_mem λ{i j} A L h=>by have:=U i j (hm i A) (hm j L);rw[<- this];exact decide_eq_true h
   have I5:Inv X G σ (upd H (s.heap.objs.size+1) (.lst (p.map λi=>its.getD i .non))) {s with heap:=h5}:=
    I.laid (t':=s.toks) (λb o e=>k5 b o (bW9 (bKT (bWT e))) (keep b o e)) N ⟨by rw[bWK,bKg];omega,_,c5,v2,o5⟩
   exact⟨_,rfl,bWM ⟨_,rfl,⟨.ref _,_,I5,rfl,q _ p fa.1 a3 a4⟩⟩⟩
end
end L2
namespace L2
open PySem PySem.Spec PyProof.Rows
theorem aZ8{n:Nat}{h:List Nat}{d:TT}{l:TE}{σ:St}{D:Nat}{Q:VK}{H:Hp}(p:Nat->Bool)(f:Nat->V)(y:H D=none)(hz:n<=bKb) (t:∀i,i<n->∀ (c:Hp)(R:Bool->Hp->Prop),(∀b,b≠D->c b=H b)->R (p i) c->d (sub σ h (some (.int (i:Nat)))) c R) (w:∀i,i<n->p i=true->∀ (c:Hp)(R:VK),(∀b,b≠D->c b=H b)->R (f i) c->l (sub σ h (some (.int (i:Nat)))) c R) (r:Q (.ref D) (upd H D (.lst (((bWS n).filter p).map f)))):bXE (Itr 0 n) h d l σ D Q (upd H D (.lst [])):=by
 refine⟨λi m k c=>m=n - i/\i<=n/\k=((bWS i).filter p).map f/\c=upd H D (.lst k),⟨n,by simp,bKt _,by simp,rfl⟩,?_⟩;rintro i m k c ⟨rfl,z,rfl,rfl⟩;refine⟨yB,?_⟩;by_cases a:i<n
 ·refine .inr ⟨a,λv B s=>?_⟩;obtain⟨q,x⟩:=s;subst q;subst x;rw[cQk];have g:∀b,b≠D->upd H D (.lst (((bWS i).filter p).map f)) b=H b:=λb o=>yH o;have e:(((bWS i).filter p).map f).length<bKb:=by
   rw[bWK];have u:=bKX p (bWS i);rw[bKo]at u;omega
  refine t i a _ _ g ?_;cases j:p i with
  |false=>show ∃A,_;refine⟨n - (i+1),by omega,rfl,a,?_,rfl⟩;rw[bYP,bKV,bYl (by rw[j];decide)];simp
  |true=>show l _ _ _;refine w i a j _ _ g ⟨e,yB,n - (i+1),by omega,rfl,a,?_,by rw[uD]⟩;rw[bYP,bKV,bYm j];simp
 ·obtain rfl:i=n:=by omega
  exact .inl ⟨bWN _,r⟩
end L2
namespace Law
open PySem L2 PyProof.Rows
open Bk (Row Rows)
def aXo(x:Str):Stmt->Bool
 |.FunctionDef n _ _ _ _ _ _ _ _ _=>n==x
 |_=>false
def y7(x:Str):Stmt:=(PySem.Challenge.pw_letterdesk_k07_whole_entered_whenever.main.body.find? (aXo x)).getD (.Pass ⟨0,0,0,0⟩)
abbrev bQj:Stmt:=y7 "_law_kids_of"
theorem xU:bKx "len"=some (.builtin "len"):=dk
structure vD(mg:Str->Option bWG):Prop where
 b_len:mg "len"=none
 b_range:mg "range"=none
def xW:Option Nat->V
 |none=> .non
 |some j=> .int (j:Nat)
def aVS(H:Hp)(b:Nat)(r:Row):Prop:=∃cp:Nat,H b=some (.lst [.str r.way,.int r.date,.str r.partner,.int r.term,xW r.link,.str r.place,.bl r.void])/\cp=0
structure x2(H:Hp)(ra:Nat)(rs:List Nat)(R:Rows):Prop where
 lst:H ra=some (.lst (rs.map V.ref))
 len:rs.length=R.length
 nd:rs.Nodup
 row:∀ (i:Nat)(b:Nat)(r:Row),rs[i]? =some b->R[i]? =some r->aVS H b r
theorem x2.get{H:Hp}{e:Nat}{a:List Nat}{R:Rows}(h:x2 H e a R){i:Nat}{r:Row}(d:R[i]? =some r):∃b,(a.map V.ref)[i]? =some (.ref b)/\a[i]? =some b/\aVS H b r:=by
 have f:i<a.length:=by rw[h.len];exact Bk.xM d
 have c:=bWF f;exact⟨a[i],by rw[bWY,c];rfl,c,h.row i _ r c d⟩
section
variable {K:bWI}
theorem bZQ:yJ ["_law_rows","_law_number"] ["_law_rows","_law_number"] (yD bQj):=scM
theorem bX8:y9 ["_law_rows","_law_number"] (yD bQj) "_law_k" ["_law_number","_law_rows"] [1,0] (lsN [(".0",.local),("_law_k",.local),("_law_number",.free),("_law_rows",.free)]):=
 lcM
inductive bXs(vs:List V)(H:Hp)(Q:VK)(_:XK):Prop|mk (ra:Nat) (rs:List Nat) (R:Rows) (m:Nat) (_:vs= [.ref ra,.int (m:Nat)]) (_:x2 H ra rs R) (_:R.length<=100) (_:∀r,H r=none->Q (.ref r) (upd H r (.lst ((Bk.zU R m).map λi=>V.int (i:Nat)))))
theorem aZb{o:Option Nat}{m:Nat}:decide (xW o=V.int (m:Nat))=decide (o=some m):=by
 cases o with
 |none=>rfl
 |some j=>show decide (V.int (j:Nat)=V.int (m:Nat))=decide (some j=some m);rw[Bool.eq_iff_iff];simp;omega
theorem bZm(T:vD mg)(F:Fun K "_law_kids_of" "_law_kids_of" bQj f fd):y0 P w K mg base CX0 1 f fd ["_law_rows","_law_number"] bXs:=by
 have t:=bZQ;refine F.ok (k:=0) t (λu A outer s H B Q E z h=>?_);obtain⟨e,n,R,m,rfl,c,hR,q⟩:=h;refine⟨_,(yG (yP (J8 bX8 rfl (zF rfl T.b_range (yA (yT yM rfl T.b_len xU (yA (pv 0) yF)) yF)) (λ_ _ _ _ _=>(uQ (yU aQy (yN ixK (yN ixK (pv 2) (pv 0)) yK) (pv 1)))) (λ_ _ _ _ _=>(pv 0))))),?_⟩;have hl:(n.map V.ref).length=R.length:=by rw[bWK];exact c.len
 refine⟨_,rfl,e,_,rfl,.inl (SqL.of c.lst),?_⟩;rw[hl];refine⟨_,rfl,by omega,by omega,λD d=>?_⟩;rw[bKs];refine aZ8 (λk=>decide (Bk.lk R k=some m)) (λk=>V.int (k:Nat)) d (by rw[bKg];omega) (λk i j r l a=>?_) (λk i _ j r l a=>⟨_,rfl,a⟩) (q D d);obtain⟨b,v,C,x,o,y⟩:=c.get (bWF i);have g:j e=some (.lst (n.map V.ref)):=by rw[l e (yE c.lst d)];exact c.lst
 have p:j b=_:=(l b (yE o d)).trans o;refine⟨_,rfl,_,rfl,e,_,_,_,rfl,rfl,SqL.of g,yV v,b,_,4,_,rfl,rfl,SqL.of p,rfl,_,rfl,?_,_,rfl,?_⟩
 ·cases R[k].link<;> rfl
 ·rw[aZb,<- Bk.zX (bWF i)];exact a
end
end Law
namespace L2
open PySem PySem.Spec PyProof.Rows
section
variable {X:Cx}
inductive aJO(K:bWI)(xs:List V)(H:Hp)(Q:VK):Prop|mk (p:Nat) (ns:List Int) (_:xs= [.ref p]) (_:SqL K H p (ns.map V.int)) (_:ns≠ []) (_:∀m,m∈ns->(∀x∈ns,m<=x)->Q (.int m) H)
theorem aV2(S:X.calm=true):uY X (.builtin "min") (aJO X.K):=by
 intro B s σ H U Y Q I r h;obtain⟨p,c,rfl,F,n,q⟩:=h;obtain⟨u,rfl,P⟩:=jU r;cases P;obtain⟨a,G,w,T⟩:=I.list F;have C:cQa a c:=zZ G;have f:a.length=c.length:=C.length;have m:0<a.length:=by rw[f];exact List.length_pos_iff.mpr n
 obtain⟨o,O,_⟩:=id w.isList;have l:p<s.heap.objs.size:=bWT O;have d:∀ (i:Nat)(v:bWG),a.toArray[i]? =some v->∃t,v=Value.int (c.getD i 0) t:=λi v y=>cXI C i v (by simpa using y);refine call_min_walk (cXh w.isList ?_);refine⟨s.heap.objs.size,[s.heap.objs.size,p],[s.heap.objs.size],a.toArray.size,_,_,_,rfl,Walks.list (A:=X.A.in1) (by simpa using I.ok.hd S) _ p (bW9 l) a.toArray,⟨⟨_,bW4 _ rfl,rfl,rfl⟩,w.isList.push _⟩,λb g=>?_,by rw[bWZ];exact m,CmpOf.ints_lt (λi=>c.getD i 0) d,λv V tk y M=>?_⟩
 ·show b<(s.heap.push _).objs.size;rw[bYh];rcases bWU.mp g with rfl|g
  ·exact bKP _
  ·rw[bW8.mp g];exact bKT l
 ·obtain⟨t,rfl⟩:=d _ _ y;obtain⟨W,E⟩:=argBest_lt (λi=>c.getD i 0) (a.toArray.size - 1);have D:a.toArray.size=c.length:=by rw[bWZ];exact f
  have g:argBest (λi j=>decide (c.getD i 0<c.getD j 0)) (a.toArray.size - 1)<c.length:=by omega
  refine⟨.int _,H,I.kept (t':=tk) λb L e=>M b L (λz=>by rw[bW8.mp z]at e;exact bKN _ (bWT e)) (bWL _ e),⟨t,rfl⟩,q _ ?_ λx J=>?_⟩
  ·generalize argBest (λi j=>decide (c.getD i 0<c.getD j 0)) (a.toArray.size - 1)=k at g;simp[bKC,bWF g]
  ·obtain⟨j,N,e⟩:=bKM J;have:=E j (by omega);have R:c.getD j 0=x:=by simp[bKC,bWF N,e]
   rw[R]at this;exact this
end
end L2
namespace Law
open PySem L2 PyProof.Rows
open Bk (Row Rows)
abbrev aJq:Stmt:=y7 "_law_waits_on"
theorem aVY:bKx "min"=some (.builtin "min"):=dk
theorem aVS.same{H a:Hp}{b:Nat}{r:Row}(h:aVS H b r)(k:xV H a):aVS a b r:=let ⟨cp,e1,e2⟩:=h;⟨cp,k _ _ e1,e2⟩
theorem x2.same{H a:Hp}{d:Nat}{c:List Nat}{R:Rows}(h:x2 H d c R)(k:xV H a):x2 a d c R:=
 ⟨k _ _ h.lst,h.len,h.nd,λi b r f e=>(h.row i b r f e).same k⟩
inductive aKY(vs:List V)(H:Hp)(Q:VK)(_:XK):Prop|mk (ra:Nat) (rs:List Nat) (R:Rows) (k:Nat) (d:Int) (_:vs= [.ref ra,.int (k:Nat),.int d]) (_:x2 H ra rs R) (_:R.length<=100) (_:k<R.length) (_:∀H',xV H H'->Q (.bl (Bk.waits R k d)) H')
section
variable {K:bWI}
theorem bQA:yJ ["_law_rows","_law_number","_law_date","_law_one","_law_dates"] ["_law_rows","_law_number","_law_date"] (yD aJq):=scM
theorem aYH:y9 ["_law_rows","_law_number","_law_date","_law_one","_law_dates"] (yD aJq) "_law_k" ["_law_rows"] [0] (lsN [(".0",.local),("_law_k",.local),("_law_rows",.free)]):=
 lcM
def dtV(R:Rows):V->V
 |.int n=> .int (Bk.dt R n.toNat)
 |_=> .non
theorem aY6(T:vD mg)(y:mg "min"=none)(a:FnG P w K mg base 1 "_law_kids_of" ["_law_rows","_law_number"] bXs)(F:Fun K "_law_waits_on" "_law_waits_on" aJq f fd):y0 P w K mg base CX0 2 f fd ["_law_rows","_law_number","_law_date"] aKY:=by
 have sc:=bQA;refine F.ok (k:=1) sc (λa1 A outer s H0 vs Q E hr h=>?_);obtain⟨z,U,R,k,d,rfl,C,hR,hk,q⟩:=h;refine⟨_,(yC (yO (i:=3) (yN yL (pv 0) (pv 1))) (yC (zC (PW.pt (aZy (wH (yN yL (pv 3) yK)) (aZy (yU qY (yN yL (pv 3) yK) yK) (aXJ (yU aZu (yN yL (pv 3) yK) (pv 2)))))) (yG (yP qZ)) yY) (yC (aVq (i:=4) aYH rfl sc.nd rfl rfl (xB (zE a hr rfl (yA (pv 0) (yA (pv 1) yF)))) (λ_ _ _ _ _=>zG) (λ_ _ _ _ _=>(yN ixK (yN ixK (pv 1) (pv 0)) yK))) (yG (yP (bJR (wI (aY8 hr.units0) (pv 4) (xR yF)) (aW5 (wI aZu (yT (aV2 rfl) rfl y aVY (yA (pv 4) yF)) (pv 2))))))))),?_⟩;have u:=bWF hk;obtain⟨b,g1,g2,cp,N,g4⟩:=C.get u;have qw:Bk.waits R k d=(!R[k].void && decide (1<=R[k].term) && decide (R[k].date<=d) && (Bk.zU R k).all λj=>decide (d<Bk.dt R j)):=by unfold Bk.waits;rw[u]
 rw[qw]at q;refine⟨_,rfl,_,rfl,z,_,_,_,rfl,rfl,SqL.of C.lst,yV g1,?_⟩;dsimp only[yS];refine⟨_,rfl,b,_,6,_,rfl,rfl,SqL.of N,rfl,_,rfl,?_⟩;cases p:R[k].void with
 |true=>rw[p]at q;exact onT rfl (onT rfl (q _ (xV.refl _)))
 |false=>
  rw[p]at q;refine onF rfl ⟨_,rfl,b,_,3,_,rfl,rfl,SqL.of N,rfl,_,_,rfl,rfl,_,rfl,?_⟩;cases X:decide (R[k].term<1)with
  |true=>have:decide (1<=R[k].term)=false:=decide_eq_false (by have:=of_decide_eq_true X;omega);rw[this]at q;exact onT rfl (onT rfl (q _ (xV.refl _)))
  |false=>
   have:decide (1<=R[k].term)=true:=decide_eq_true (by have:=of_decide_eq_false X;omega);rw[this]at q;refine onF rfl ⟨_,rfl,b,_,1,_,rfl,rfl,SqL.of N,rfl,_,rfl,_,_,rfl,rfl,_,rfl,?_⟩;cases Y:decide (R[k].date > d)with
   |true=>have:decide (R[k].date<=d)=false:=decide_eq_false (by have:=of_decide_eq_true Y;omega);rw[this]at q;exact onT rfl (q _ (xV.refl _))
   |false=>
    have:decide (R[k].date<=d)=true:=decide_eq_true (by have:=of_decide_eq_false Y;omega);rw[this]at q;refine onF rfl ?_;refine⟨_,rfl,_,rfl,z,U,R,k,rfl,C,hR,λr I=>⟨r,rfl,⟨_,SqL.of yB⟩,λD B=>?_⟩⟩;have k1:=yI I (.lst ((Bk.zU R k).map λi=>V.int (i:Nat)));have n:=C.same k1;have a0:(Bk.zU R k).length<=R.length:=by have:=bKX (λj=>decide (Bk.lk R j=some k)) (bWS R.length);rw[bKo]at this;exact this
    refine aZ7 (λ_=>true) (dtV R) (SqL.of yB) B (zn (by rw[bWK];omega)) (λv p Z R' _ h=>h) (λv p _ Z R' hH t=>?_) ?_
    ·obtain⟨j,hj,rfl⟩:=bK1.mp p;have O:j<R.length:=bKc.mp (bKA.mp hj).1;have x:=bWF O;obtain⟨bj,j1,j2,cj,W,j4⟩:=n.get x;have S:Z z=some (.lst (U.map V.ref)):=by rw[hH z (yE n.lst B)];exact n.lst
     have J:=(hH bj (yE W B)).trans W;have e:dtV R (V.int (j:Nat))=V.int R[j].date:=by show V.int (Bk.dt R (j:Int).toNat)=_;rw[bKs,Bk.zI x]
     rw[e]at t;exact⟨_,rfl,_,rfl,z,_,_,_,rfl,rfl,SqL.of S,yV j1,bj,_,1,_,rfl,rfl,SqL.of J,rfl,t⟩
    ·have ff:((Bk.zU R k).map λi=>V.int (i:Nat)).filter (λ_=>true)=(Bk.zU R k).map λi=>V.int (i:Nat):=bYY.mpr λ_ _=>rfl;have em:((Bk.zU R k).map λi=>V.int (i:Nat)).map (dtV R)=((Bk.zU R k).map (Bk.dt R)).map V.int:=by
      rw[bYH,bYH];refine List.map_congr_left λj _=>?_;show V.int (Bk.dt R (j:Int).toNat)=V.int (Bk.dt R j);rw[bKs]
     rw[ff,em];dsimp only[yS];have k2:=yI B (.lst (((Bk.zU R k).map (Bk.dt R)).map V.int));have c:upd (upd H0 r (.lst ((Bk.zU R k).map λi=>V.int (i:Nat)))) D (.lst (((Bk.zU R k).map (Bk.dt R)).map V.int)) D=some (.lst (((Bk.zU R k).map (Bk.dt R)).map V.int)):=yB;have kA:=k1.trans k2;generalize upd (upd H0 r (.lst ((Bk.zU R k).map λi=>V.int (i:Nat)))) D (.lst (((Bk.zU R k).map (Bk.dt R)).map V.int))=H2 at c kA ⊢;refine⟨_,rfl,z0,λpn G=>?_⟩;have H:=yI G (.lst []);refine⟨D,pn,_,rfl,rfl,SqL.of (H _ _ c),SqL.of yB,_,rfl,?_⟩;have o:=q _ (kA.trans H);cases g:Bk.zU R k with
     |nil=>rw[g]at o;exact onT rfl o
     |cons j l=>
      rw[g]at o;refine onF rfl ⟨_,rfl,D,(j::l).map (Bk.dt R),rfl,SqL.of (by rw[<- g];exact H _ _ c),by simp,λm hm L=>?_⟩;refine⟨_,rfl,_,_,rfl,rfl,?_⟩;have e:((!false && true && true && (j::l).all λj=>decide (d<Bk.dt R j)):Bool)=decide (m > d):=by
       rw[Bool.eq_iff_iff];simp only[Bool.not_false,Bool.true_and,cXj,decide_eq_true_eq];constructor
       ·intro h;obtain⟨i,M,rfl⟩:=bK1.mp hm;exact h i M
       ·intro h i M;have:=L _ (bK1.mpr ⟨i,M,rfl⟩);omega
      rw[e]at o;exact o
end
end Law
namespace Law
open PySem L2 PyProof.Rows
open Bk (Row Rows)
abbrev aKk:Stmt:=y7 "_law_due_by"
abbrev aQL:Stmt:=y7 "_law_list_on"
theorem x6:bKx "sorted"=some (.builtin "sorted"):=dk
inductive jI(K:bWI)(vs:List V)(H:Hp)(Q:VK)(_:XK):Prop|mk (a:Nat) (ns:List Int) (d t D:Int) (_:vs= [.ref a,.int d,.int t]) (_:SqL K H a (ns.map V.int)) (_:Dm.Due ns d t D) (_:Q (.int D) H)
section
variable {K:bWI}
theorem uK(d:Int):∀ns:List Int,inV (.int d) (ns.map V.int)=ns.contains d
 |[]=>rfl
 |n::r=>by have a:=uK d r;unfold inV at a ⊢;rw[bKv,bYX,a,bYJ];congr 1;show(n==d)=(d==n);rw[Bool.eq_iff_iff,beq_iff_eq,beq_iff_eq];exact eq_comm
theorem vH:∀ns:List Int,(ns.map V.int).all jS=true
 |[]=>rfl
 |n::r=>by rw[bKv,cQR,vH r];rfl
theorem bQq:yJ ["_law_shut","_law_date","_law_term","_law_many"] ["_law_shut","_law_date","_law_term"] (yD aKk):=scM
theorem aYW(T:vD mg)(F:Fun K "_law_due_by" "_law_due_by" aKk f fd):y0 P w K mg base CX0 1 f fd ["_law_shut","_law_date","_law_term"] (jI K):=by
 have L:=bQq;refine F.ok (k:=0) L (λI A outer s J N Q E M h=>?_);obtain⟨a,g,d,t,D,rfl,C,p,q⟩:=h;refine⟨_,(yC (yO (i:=3) yK) (yC (qA bKB (yU qY (pv 3) (pv 2)) (yC (yO (i:=1) (y2 wB (pv 1) yK)) (yG (zC (PW.pt (Q9 (yU qY (y2 zJ (pv 1) yK) yK) (Y4 (yU jP (pv 1) (pv 0))))) (yG (yO (i:=3) (y2 wB (pv 3) yK))) yY)))) (yG (yP (pv 1))))),?_⟩;refine⟨λm σ H=>∃n:Nat,σ= [some (.ref a),some (.int (d+n)),some (.int t),some (.int (Dm.cnt g (d+1) n))]/\H=J/\d+n<=D/\m=(D - (d+n)).toNat,⟨(D - d).toNat,0,?_,rfl,by have:=p.later;omega,by simp⟩,?_⟩
 ·rw[show d+((0:Nat):Int)=d by simp];rfl
 rintro m σ H ⟨n,rfl,rfl,r,rfl⟩;refine⟨_,rfl,_,rfl,_,_,rfl,rfl,_,rfl,?_⟩;refine aJW (λc=>?_) (λc=>?_)
 ·have y:((Dm.cnt g (d+1) n:Nat):Int)<t:=of_decide_eq_true c;have G:d+n<D:=by
   by_cases e:d+n=D
   ·have:=p.cnt;rw[<- e,show(d+n - d).toNat=n by omega]at this;omega
   ·omega
  refine⟨λo v=>∃u,u<(D - (d+n)).toNat/\∃n:Nat,o= [some (.ref a),some (.int (d+n)),some (.int t),some (.int (Dm.cnt g (d+1) n))]/\v=H/\d+n<=D/\u=(D - (d+n)).toNat,λo v z=>z,?_⟩;refine⟨_,rfl,_,_,rfl,rfl,?_⟩;dsimp only[yS];have l:Dm.cnt g (d+1) (n+1)=Dm.cnt g (d+1) n+(if Dm.cts g (d+1+n)then 1 else 0):=rfl;have j:d+((n+1:Nat):Int)=d+n+1:=by omega
  refine⟨_,rfl,_,_,rfl,rfl,(show(0:Int)<7 by decide),_,_,rfl,rfl,_,rfl,?_⟩;have b:Dm.cts g (d+1+n)=(decide ((d+n+1) % 7<5) && !(g.contains (d+n+1))):=by rw[show d+1+(n:Int)=d+n+1 by omega];rfl
  cases x:decide ((d+(n:Int)+1) % 7<5)with
  |false=>rw[x,Bool.false_and]at b;rw[b]at l;refine onF rfl (onF rfl ⟨(D - (d+(n+1:Nat))).toNat,by omega,n+1,?_,rfl,by omega,rfl⟩);rw[l,j];rfl
  |true=>
   rw[x,Bool.true_and]at b;refine onT rfl ⟨_,rfl,_,rfl,a,_,rfl,.inl C,rfl,vH g,_,rfl,?_⟩;rw[if_pos rfl,uK];cases B:g.contains (d+(n:Int)+1)with
   |true=>rw[B]at b;rw[b]at l;refine onF rfl ⟨(D - (d+(n+1:Nat))).toNat,by omega,n+1,?_,rfl,by omega,rfl⟩;rw[l,j];rfl
   |false=>rw[B]at b;rw[b]at l;refine onT rfl ⟨_,rfl,_,_,rfl,rfl,(D - (d+(n+1:Nat))).toNat,by omega,n+1,?_,rfl,by omega,rfl⟩;rw[l,j];simp
 ·have y:¬ ((Dm.cnt g (d+1) n:Nat):Int)<t:=of_decide_eq_false (Bool.eq_false_iff.mpr c);have e:d+n=D:=by
   refine Int.le_antisymm r (cXc.mp λz=>y (p.less z))
  refine⟨_,rfl,?_⟩;rw[e];exact q
noncomputable def vW (R:Rows) (shut:List Int) (k:Nat):Int:=Bk.due shut (Bk.dt R k) (((R[k]?).map (·.term)).getD 0)
noncomputable def uX (R:Rows) (shut:List Int) (d:Int) (a:Bool) (k:Nat):Bool:=Bk.waits R k d && (!a || decide (vW R shut k<d))
inductive uT(vs:List V)(H:Hp)(Q:VK)(_:XK):Prop|mk (ra sa:Nat) (rs:List Nat) (R:Rows) (shut:List Int) (d:Int) (late:Bool) (_:vs= [.ref ra,.ref sa,.int d,.bl late]) (_:x2 H ra rs R) (_:H sa=some (.lst (shut.map V.int))) (_:R.length<64) (_:∀ (r:Nat)(H':Hp)(l:List Nat),xV H H'->H r=none->H' r=some (.lst (l.map λi=>V.int (i:Nat)))->Bk.aQ0 R shut d late l->Q (.ref r) H')
def aVR(H:Hp)(g:Nat->Int)(k:Nat)(x:V):Prop:=∃p,x= .ref p/\H p=some (.tup [.int (g k),.int (k:Nat)])
theorem aVR.tk{H b:Hp}{g:Nat->Int}(t:∀a c,H a=some (.tup c)->b a=some (.tup c)){k:Nat}{x:V}(h:aVR H g k x):aVR b g k x:=let ⟨p,e,a⟩:=h;⟨p,e,t _ _ a⟩
theorem aQd{R:Rows}{k:Nat}{d:Int}(a:k<R.length)(h:Bk.waits R k d=true):1<=R[k].term:=by
 unfold Bk.waits at h;rw[bWF a]at h;simp only[Bool.and_eq_true,decide_eq_true_eq]at h;exact h.1.1.2
theorem aKD:yJ ["_law_rows","_law_shut","_law_date","_law_late","_law_made","_law_k","_law_last"] ["_law_rows","_law_shut","_law_date","_law_late"] (yD aQL):=scM
theorem aWC:y9 ["_law_rows","_law_shut","_law_date","_law_late","_law_made","_law_k","_law_last"] (yD aQL) "_law_pair" [] [] (lsN [(".0",.local),("_law_pair",.local)]):=
 lcM
theorem aYa{α β:Type}{F:α->β->Prop}:∀ {l:List α} {m:List β} {i:Nat} {y:β},bYi F l m->m[i]? =some y->∃x,l[i]? =some x/\F x y
 |_,_,0,_,.cons r _,h=>by simp at h;subst h;exact⟨_,rfl,r⟩
 |_,_,i+1,_,.cons _ t,h=>by simpa using aYa (i:=i) t (by simpa using h)
 |_,_,i,_,.nil,h=>by simp at h
theorem aXF{α β:Type}{F:α->β->Prop}{x:α}{y:β}(r:F x y):∀ {l:List α} {m:List β},bYi F l m->bYi F (l++ [x]) (m++ [y])
 |_,_,.nil=> .cons r .nil
 |_,_,.cons a t=> .cons a (aXF r t)
theorem aQZ{a H:Hp}{c:Nat}{o:HO}(k:xV a H)(h:a c=none):xV a (upd H c o):=λb u q=>by rw[yH (yE q h)];exact k b u q
def bVu(H:Hp):V->V
 |.ref p=>match H p with
  |some (.tup [_,y])=>y
  |_=> .non
 |_=> .non
theorem aJr{H:Hp}{p:Nat}{x y:V}(h:H p=some (.tup [x,y])):bVu H (.ref p)=y:=by
 show(match H p with|some (.tup [_,y])=>y|_=>V.non)=y;rw[h]
theorem aWX(T:vD mg)(C:mg "sorted"=none)(n:FnG P w K mg base 2 "_law_waits_on" ["_law_rows","_law_number","_law_date"] aKY)(B:FnG P w K mg base 2 "_law_due_by" ["_law_shut","_law_date","_law_term"] (jI K)) (F:Fun K "_law_list_on" "_law_list_on" aQL f fd):y0 P w K mg base CX0 3 f fd ["_law_rows","_law_shut","_law_date","_law_late"] uT:=by
 have sc:=aKD;refine F.ok (k:=2) sc (λc0 A outer s H0 vs Q E hr h=>?_);obtain⟨S,sa,rs,R,shut,d,c,rfl,hB,b7,hR,q⟩:=h;refine⟨_,(yC (yO (i:=4) (xR yF)) (yC (zK bKB rfl (zF rfl T.b_range (yA (yT yM rfl T.b_len xU (yA (pv 0) yF)) yF)) (yZ (i:=5)) (yG (zC (wH (zE n hr rfl (yA (pv 0) (yA (pv 5) (yA (pv 2) yF))))) (yC (yO (i:=6) (zE B hr rfl (yA (pv 1) (yA (yN yL (yN yL (pv 0) (pv 5)) yK) (yA (yN yL (yN yL (pv 0) (pv 5)) yK) yF))))) (yG (zC (PW.pt (aZy (aXI (wH (pv 3))) (aXJ (yU qY (pv 6) (pv 2))))) (yG (yQ (vJ bKj bKp bKq y8 (pv 4) (yA (zW (yA (pv 6) (yA (pv 5) yF))) yF)))) yY))) yY))) (yG (yP (J8 aWC rfl (xB (yT w8 rfl C x6 (yA (pv 4) yF))) (λ_ _ _ _ _=>zG) (λ_ _ _ _ _=>(yN ixT (pv 0) yK))))))),?_⟩;refine⟨z0,λG a2=>?_⟩;dsimp only[yS];have k1:=yI a2 (.lst []);have hl:(rs.map V.ref).length=R.length:=by rw[bWK];exact hB.len
 refine⟨_,rfl,S,_,rfl,.inl (SqL.of (k1 _ _ hB.lst)),?_⟩;rw[hl];refine⟨_,rfl,by omega,by omega,?_⟩;rw[bKs];refine z9 (λt σ H=>∃ (g:List V)(N O:Option V),σ= [some (.ref S),some (.ref sa),some (.int d),some (.bl c),some (.ref G),N,O]/\xV H0 H/\H G=some (.lst g)/\
  bYi (aVR H (vW R shut)) ((bWS t).filter (uX R shut d c)) g) ?_ ?_ ?_
 ·exact⟨[],none,none,rfl,k1,yB,.nil⟩
 ·rintro k σ H Z ⟨g,N,O,rfl,o,y,U⟩;rw[cQk];dsimp only[yS];have a5:=hB.same o;have X:=bWF Z;rw[bYP,bKV];have stay:∀H' N O,xV H H'->uX R shut d c k=false->∃ (g:List V)(p5 p6:Option V),[some (V.ref S),some (V.ref sa),some (V.int d),some (V.bl c),some (V.ref G),N,O]= [some (.ref S),some (.ref sa),some (.int d),some (.bl c),some (.ref G),p5,p6]/\xV H0 H'/\H' G=some (.lst g)/\
    bYi (aVR H' (vW R shut)) ((bWS k).filter (uX R shut d c)++ [k].filter (uX R shut d c)) g:=λH' N O kk e=>by
   have e3: [k].filter (uX R shut d c)= []:=by simp[e]
   rw[e3,bKI]
   exact⟨g,N,O,rfl,o.trans kk,kk _ _ y,Paired.mapP U λ_ _ z=>z.tk λa xs e=>kk _ _ e⟩
  refine⟨_,rfl,_,rfl,_,rfl,S,rs,R,k,d,rfl,a5,by omega,Z,λH2 J=>⟨_,rfl,?_⟩⟩;cases hw:Bk.waits R k d with
  |false=>exact onF rfl (stay H2 _ _ J (by unfold uX;rw[hw];rfl))
  |true=>
   have b6:=aQd Z hw;have a0:=a5.same J;obtain⟨b,g1,g2,cp,g3,g4⟩:=a0.get X;have hD:=Bk.bQ5 shut (Bk.dt R k) b6;have eD:vW R shut k=Bk.due shut (Bk.dt R k) R[k].term:=by unfold vW;rw[X];rfl
   rw[<- eD,Bk.zI X]at hD;refine onT rfl ?_;refine⟨_,rfl,_,rfl,_,rfl,S,_,_,_,rfl,rfl,SqL.of a0.lst,yV g1,b,_,1,_,rfl,rfl,SqL.of g3,rfl,_,rfl,_,rfl,S,_,_,_,rfl,rfl,SqL.of a0.lst,yV g1,b,_,3,_,rfl,rfl,SqL.of g3,rfl,?_⟩;refine⟨sa,shut,_,_,vW R shut k,rfl,SqL.of (J _ _ (o _ _ b7)),hD,?_⟩;dsimp only[yS];have a3:uX R shut d c k=true->bZ2 (tBM K "list" aW9 (bZ4 4) (aVN (bWj (aVN (bZ4 6) (aVN (bZ4 5) bQJ))) bQJ)) {nx:=λσ H=>∃ (g:List V)(N O:Option V),σ= [some (.ref S),some (.ref sa),some (.int d),some (.bl c),some (.ref G),N,O]/\xV H0 H/\H G=some (.lst g)/\bYi (aVR H (vW R shut)) ((bWS k).filter (uX R shut d c)++ [k].filter (uX R shut d c)) g,rt:=Q} [some (.ref S),some (.ref sa),some (.int d),some (.bl c),some (.ref G),some (.int (k:Nat)),some (.int (vW R shut k))] H2:=λe=>by
    have a8:=J _ _ y;refine⟨_,rfl,.inl ⟨rfl,_,SqL.of a8⟩,_,rfl,_,rfl,z2,λq3 b5=>?_⟩;have k5:=yI b5 (.tup [V.int (vW R shut k),V.int (k:Nat)]);have b0:=k5 _ _ a8;have il:g.length<=k:=by rw[<- U.length];exact bKh (bKX _ _) (by simp)
    have t6:∀a xs,upd H2 q3 (.tup [V.int (vW R shut k),V.int (k:Nat)]) a=some (.tup xs)->upd (upd H2 q3 (.tup [V.int (vW R shut k),V.int (k:Nat)])) G (.lst (g++ [V.ref q3])) a=some (.tup xs):=λa xs e=>by rw[yH (bZd e b0 (by intro z;cases z))];exact e
    have e3: [k].filter (uX R shut d c)= [k]:=by simp[e]
    refine⟨G,g,.ref q3,rfl,rfl,b0,zlt (by omega),g++ [.ref q3],_,_,rfl,aQZ (o.trans (J.trans k5)) a2,yB,?_⟩;rw[e3];exact aXF ⟨q3,rfl,t6 _ _ yB⟩ (Paired.mapP U λ_ _ z=>z.tk λa xs e=>t6 _ _ (k5 _ _ (J _ _ e)))
   refine⟨_,rfl,_,rfl,?_⟩;by_cases j:c=true
   ·refine onF (by rw[j];rfl) ⟨_,rfl,_,rfl,_,_,rfl,rfl,_,rfl,?_⟩;cases a4:decide (vW R shut k<d)with
    |true=>exact onT rfl (a3 (by unfold uX;rw[hw,j,a4];rfl))
    |false=>exact onF rfl (stay H2 _ _ J (by unfold uX;rw[hw,j,a4];rfl))
   ·have hf:c=false:=by simpa using j
    exact onT (by rw[hf];rfl) (onT rfl (a3 (by unfold uX;rw[hw,hf];rfl)))
 ·rintro σ H1 ⟨g,N,O,rfl,o,y,U⟩;generalize L:(bWS R.length).filter (uX R shut d c)=fam at U;have a7:fam.length=g.length:=U.length;have fn:fam.length<=R.length:=by rw[<- L];exact bKh (bKX _ _) (by simp)
  have a6:∀k,k∈fam↔k<R.length/\uX R shut d c k=true:=λk=>by rw[<- L,bKA,bKc]
  have b8:fam.Nodup:=by rw[<- L];exact bY0.sublist bYZ
  refine⟨_,rfl,G,g,λm=>(vW R shut (fam.getD m 0),((fam.getD m 0:Nat):Int)),rfl,y,by omega,λa b ha hb e=>?_,λm x hx=>?_,λl out hl a1 b4=>?_⟩
  ·have D:fam.getD a 0=fam.getD b 0:=by have:=congrArg Prod.snd e;simp only at this;omega
   have a9:a<fam.length:=by omega
   have b1:b<fam.length:=by omega
   simp[bKC,bWF a9,bWF b1]at D;exact(bYo (h₀:=a9) (h₁:=b1) b8).mp D
  ·obtain⟨k,Z,p,Y,D⟩:=aYa U hx;have:fam.getD m 0=k:=by simp[bKC,Z]
   show ∃a,x=V.ref a/\H1 a=some (.tup [V.int (vW R shut (fam.getD m 0)),V.int ((fam.getD m 0:Nat):Int)]);rw[this];exact⟨p,Y,D⟩
  ·have hm:∀m∈out,m<g.length:=λm hm=>bKc.mp (a1.mem_iff.mp hm);have J:=yI hl (.lst (out.map λi=>g.getD i .non));refine⟨l,rfl,⟨_,SqL.of yB⟩,λr M=>?_⟩;have b9:out.length=g.length:=by rw[a1.length_eq,bKo]
   have b2:∀m∈out,∃p,g.getD m .non= .ref p/\H1 p=some (.tup [.int (vW R shut (fam.getD m 0)),.int ((fam.getD m 0:Nat):Int)]):=λm u=>by
    have I:=hm m u;have hg:g[m]? =some (g.getD m .non):=by simp[bKC,bWF I]
    obtain⟨k,Z,p,Y,D⟩:=aYa U hg;have:fam.getD m 0=k:=by simp[bKC,Z]
    rw[this];exact⟨p,Y,D⟩
   refine aZ7 (λ_=>true) (bVu H1) (SqL.of yB) M (zn (by rw[bWK];omega)) (λv hv H' R' _ h=>h) (λv hv _ H' R' hH W=>?_) ?_
   ·obtain⟨m,u,rfl⟩:=bK1.mp hv;obtain⟨p,Y,D⟩:=b2 m u;rw[Y]at W ⊢;have e4:=J _ _ D;have e5:=(hH p (yE e4 M)).trans e4;rw[aJr D]at W;exact⟨_,rfl,p,_,1,_,rfl,rfl,SqT.of e5,rfl,W⟩
   ·have ff:(out.map λi=>g.getD i .non).filter (λ_=>true)=out.map λi=>g.getD i .non:=bYY.mpr λ_ _=>rfl;have e6:((out.map λi=>g.getD i .non).map (bVu H1))=(out.map λm=>fam.getD m 0).map λi=>V.int (i:Nat):=by
     rw[bYH,bYH];refine List.map_congr_left λm u=>?_;obtain⟨p,Y,D⟩:=b2 m u;show bVu H1 (g.getD m .non)=V.int (fam.getD m 0:Nat);rw[Y];exact aJr D
    rw[ff,e6];refine q r _ (out.map λm=>fam.getD m 0) (o.trans (J.trans (yI M _))) ((o.trans J).fresh M) yB ⟨λk=>?_,?_⟩
    ·have b3:k∈out.map (λm=>fam.getD m 0)↔k∈fam:=by
      constructor
      ·intro h;obtain⟨m,u,rfl⟩:=bK1.mp h;have I:m<fam.length:=by rw[a7];exact hm m u
       simp[bKC,bWF I]
      ·intro h;obtain⟨m,I,e⟩:=bKM h;refine bK1.mpr ⟨m,a1.mem_iff.mpr (bKc.mpr (by omega)),?_⟩;simp[bKC,bWF I,e]
     rw[b3,a6 k];unfold uX;rw[Bool.and_eq_true,Bool.or_eq_true,decide_eq_true_eq];refine and_congr Iff.rfl (and_congr Iff.rfl ?_);cases c<;> simp[vW]
    ·rw[cQC];exact b4
end
end Law
namespace Days
open PySem L2 PyProof.Rows
def aXo(x:Str):Stmt->Bool
 |.FunctionDef n _ _ _ _ _ _ _ _ _=>n==x
 |_=>false
def y7(x:Str):Stmt:=(PySem.Challenge.pw_letterdesk_k07_whole_entered_whenever.main.body.find? (aXo x)).getD (.Pass ⟨0,0,0,0⟩)
abbrev aZD:Stmt:=y7 "counts"
abbrev bZH:Stmt:=y7 "open_by_rest"
abbrev aQI:Stmt:=y7 "closed_days"
abbrev aKq:Stmt:=y7 "place_of"
theorem aVY:bKx "min"=some (.builtin "min"):=dk
theorem x6:bKx "sorted"=some (.builtin "sorted"):=dk
theorem bJm:bKx "set"=some (.type "set"):=dk
structure vD(mg:Str->Option bWG):Prop where
 b_len:mg "len"=none
 b_min:mg "min"=none
 b_sum:mg "sum"=none
 b_sorted:mg "sorted"=none
 b_isinstance:mg "isinstance"=none
 b_int:mg "int"=none
 b_str:mg "str"=none
 b_bool:mg "bool"=none
 b_list:mg "list"=none
 b_tuple:mg "tuple"=none
 b_set:mg "set"=none
 b_range:mg "range"=none
 b_reversed:mg "reversed"=none
 week:∃t,mg "WEEK"=some (.int 7 t)
 opens:∃t,mg "OPEN_DAYS"=some (.int 5 t)
inductive aKT(vs:List V)(H:Hp)(Q:VK)(_:XK):Prop|mk (d) (_:vs= [.int d]) (_:Q (.bl (Dm.opn d)) H)
inductive aKV(vs:List V)(H:Hp)(Q:VK)(_:XK):Prop|mk (d) (_:vs= [.int d]) (_:Q (.int (Dm.place d)) H)
inductive aJu(K:bWI)(vs:List V)(H:Hp)(Q:VK)(_:XK):Prop|mk (a:Nat) (ns:List Int) (_:vs= [.ref a]) (_:SqL K H a (ns.map V.int)) (_:ns.length<64) (_:∀ (r:Nat)(H':Hp)(C:List Int),xV H H'->H r=none->C.Pairwise (·<·)->(∀d,d∈C↔d∈ns/\Dm.opn d=true)->C.length<=ns.length->H' r=some (.lst (C.map V.int))->Q (.ref r) H')
inductive aJw(K:bWI)(vs:List V)(H:Hp)(Q:VK)(_:XK):Prop|mk (a:Nat) (ns:List Int) (d:Int) (_:vs= [.ref a,.int d]) (_:SqL K H a (ns.map V.int)) (_:Q (.bl (Dm.cts ns d)) H)
abbrev bVR:Stmt:=y7 "due_day"
abbrev aKi:Stmt:=y7 "day_at"
inductive aKQ(vs:List V)(H:Hp)(Q:VK)(_:XK):Prop|mk (d) (_:vs= [.int d]) (_:Q (.int (Dm.x0 d)) H)
inductive bVb(K:bWI)(vs:List V)(H:Hp)(Q:VK)(_:XK):Prop|mk (a:Nat) (ns:List Int) (d t:Int) (_:vs= [.ref a,.int d,.int t]) (_:SqL K H a (ns.map V.int)) (_:ns.length<64) (_:1<=t) (_:∀ (H':Hp)(D:Int),xV H H'->Dm.Due ns d t D->Q (.int D) H')
section
variable {K:bWI}
theorem bZR:yJ ["date"] ["date"] (yD bZH):=scM
theorem bZo(T:vD mg)(F:Fun K "open_by_rest" "open_by_rest" bZH f fd):y0 P w K mg base CX0 1 f fd ["date"] aKT:=by
 obtain⟨g,b⟩:=T.week;obtain⟨i,a⟩:=T.opens;have e:=bZR;refine F.ok (k:=0) e (λc A outer s H l Q E j h=>?_);obtain⟨d,rfl,q⟩:=h;refine⟨_,(yG (yP (wI qY (y2 zJ (pv 0) (wW (v:= .int 7) rfl b ⟨_,rfl⟩)) (wW (v:= .int 5) rfl a ⟨_,rfl⟩)))),?_⟩;exact⟨_,rfl,_,_,rfl,rfl,(show(0:Int)<7 by decide),_,_,rfl,rfl,q⟩
theorem bQv:yJ ["date"] ["date"] (yD aKq):=scM
theorem aY1(T:vD mg)(F:Fun K "place_of" "place_of" aKq f fd):y0 P w K mg base CX0 1 f fd ["date"] aKV:=by
 obtain⟨i,b⟩:=T.week;obtain⟨j,a⟩:=T.opens;have g:=bQv;refine F.ok (k:=0) g (λc A outer s H m Q E l h=>?_);obtain⟨d,rfl,q⟩:=h;refine⟨_,(yG (yP (y2 wB (y2 bXg (y2 jB (pv 0) (wW (v:= .int 7) rfl b ⟨_,rfl⟩)) (wW (v:= .int 5) rfl a ⟨_,rfl⟩)) (yT (aV1 rfl) rfl T.b_min aVY (yA (y2 zJ (pv 0) (wW (v:= .int 7) rfl b ⟨_,rfl⟩)) (yA (y2 Q7 (wW (v:= .int 5) rfl a ⟨_,rfl⟩) yK) yF)))))),?_⟩;refine⟨_,rfl,_,_,rfl,rfl,⟨by decide,by decide⟩,_,_,rfl,rfl,.inr ⟨by decide,by decide⟩,_,rfl,_,_,rfl,rfl,(show(0:Int)<7 by decide),_,_,rfl,rfl,_,_,rfl,_,_,rfl,rfl,?_⟩;have e:(if 5 - 1<d % 7 then 5 - 1 else d % 7:Int)=if 4<d % 7 then 4 else d % 7:=rfl;exact q
theorem aKB:yJ ["shut","date"] ["shut","date"] (yD aZD):=scM
theorem uK(d:Int):∀ns:List Int,inV (.int d) (ns.map V.int)=ns.contains d
 |[]=>rfl
 |n::r=>by have a:=uK d r;unfold inV at a ⊢;rw[bKv,bYX,a,bYJ];congr 1;show(n==d)=(d==n);rw[Bool.eq_iff_iff,beq_iff_eq,beq_iff_eq];exact eq_comm
theorem vH:∀ns:List Int,(ns.map V.int).all jS=true
 |[]=>rfl
 |n::r=>by rw[bKv,cQR,vH r];rfl
theorem aWV(T:vD mg)(b:FnG P w K mg base 1 "open_by_rest" ["date"] aKT)(F:Fun K "counts" "counts" aZD f fd):y0 P w K mg base CX0 2 f fd ["shut","date"] (aJw K):=by
 have l:=aKB;refine F.ok (k:=1) l (λi A outer s H m Q E j h=>?_);obtain⟨a,e,d,rfl,g,q⟩:=h;refine⟨_,(yG (yP (bJN (zE b j rfl (yA (pv 1) yF)) (aW5 (wI jP (pv 1) (pv 0)))))),?_⟩;refine⟨_,rfl,d,rfl,_,rfl,?_⟩;unfold Dm.cts at q;cases c:Dm.opn d with
 |false=>rw[c]at q;exact q
 |true=>rw[c,Bool.true_and]at q;rw[if_pos rfl];refine⟨_,rfl,_,rfl,a,_,rfl,.inl g,rfl,vH e,?_⟩;rw[if_pos rfl,uK];exact q
theorem aKA:yJ ["shut"] ["shut"] (yD aQI):=scM
theorem aWz:y9 ["shut"] (yD aQI) "date" [] [] (lsN [(".0",.local),("date",.local),("open_by_rest",.globalImplicit)]):=
 lcM
theorem qL(p:Int->Bool):∀ns:List Int,((ns.map V.int).filter λv=>match v with|.int d=>p d|_=>false)=(ns.filter p).map V.int
 |[]=>rfl
 |n::r=>by have a:=qL p r;rw[bKv,List.filter_cons,List.filter_cons,a];show(if p n=true then _ else _)=_;split<;> rfl
theorem aWU(T:vD mg)(c:FnG P w K mg base 1 "open_by_rest" ["date"] aKT)(F:Fun K "closed_days" "closed_days" aQI f fd):y0 P w K mg base CX0 2 f fd ["shut"] (aJu K):=by
 have I:=aKA;refine F.ok (k:=1) I (λO A outer s H vs Q E U h=>?_);obtain⟨a,B,rfl,G,C,q⟩:=h;refine⟨_,(yG (yP (J8 aWz rfl (xB (yT (W4 rfl) rfl T.b_sorted x6 (yA (uO (aYf rfl) rfl T.b_set bJm (yA (pv 0) yF)) yF))) (λ_ _ _ _ _=>(uQ (wH (zE c U rfl (yA (pv 0) yF))))) (λ_ _ _ _ _=>(pv 0))))),?_⟩;refine⟨_,rfl,a,B,rfl,G,by omega,λl t hl M x e=>?_⟩;refine⟨l,t,rfl,yB,by omega,λr S m g J=>?_⟩;refine⟨r,rfl,⟨_,SqL.of yB⟩,λD i=>?_⟩;have j:S.Pairwise (·<·):=by
  have n:S.Nodup:=(g.nodup_iff).mpr M;have p:S.Pairwise (λa b=>a<=b/\a≠b):=J.and n;exact p.imp λ⟨Z,p⟩=>by omega
 have z:(S.map V.int).length<=bKb:=by rw[bWK,g.length_eq,bKg];omega
 refine aZ7 (λv=>match v with|.int d=>Dm.opn d|_=>false) id (SqL.of yB) i z ?_ ?_ ?_
 ·intro v y N R X hR;obtain⟨d,Y,rfl⟩:=bK1.mp y;exact⟨_,rfl,d,rfl,_,rfl,hR⟩
 ·intro v y W N R X hR;exact⟨_,rfl,hR⟩
 ·rw[qL,List.map_id];have u:=yI hl (bJ8 w l t);have o:=yI m (.lst (S.map V.int));have L:=yI i (.lst ((S.filter Dm.opn).map V.int));refine q D _ (S.filter Dm.opn) (u.trans (o.trans L)) ?_ (j.sublist bYZ) ?_ ?_ yB
  ·exact(xV.trans u o).fresh i
  ·intro d;rw[bKA,g.mem_iff,e]
  ·have:=bKX Dm.opn S;rw[g.length_eq]at this;omega
theorem bQo:yJ ["place"] ["place"] (yD aKi):=scM
theorem aYU(T:vD mg)(F:Fun K "day_at" "day_at" aKi f fd):y0 P w K mg base CX0 1 f fd ["place"] aKQ:=by
 obtain⟨g,b⟩:=T.week;obtain⟨i,a⟩:=T.opens;have e:=bQo;refine F.ok (k:=0) e (λc A outer s H l Q E j h=>?_);obtain⟨d,rfl,q⟩:=h;refine⟨_,(yG (yP (y2 wB (y2 bXg (y2 jB (pv 0) (wW (v:= .int 5) rfl a ⟨_,rfl⟩)) (wW (v:= .int 7) rfl b ⟨_,rfl⟩)) (y2 zJ (pv 0) (wW (v:= .int 5) rfl a ⟨_,rfl⟩))))),?_⟩;exact⟨_,rfl,_,_,rfl,rfl,⟨by decide,by decide⟩,_,_,rfl,rfl,.inr ⟨by decide,by decide⟩,_,rfl,_,_,rfl,rfl,(show(0:Int)<5 by decide),_,_,rfl,rfl,q⟩
theorem bJ5:yJ ["shut","date","term","place","closed"] ["shut","date","term"] (yD bVR):=scM
theorem aYp(d p:Int)(C:List Int)(i:Nat)(c:Int)(h:C[i]? =some c):Dm.aQm d p (C.take (i+1))=Dm.vF d (Dm.aQm d p (C.take i)) c:=by
 unfold Dm.aQm;rw[bYf,h];show(C.take i++ [c]).foldl _ p=_;rw[List.foldl_append];rfl
theorem bJE(T:vD mg)(b:FnG P w K mg base 2 "closed_days" ["shut"] (aJu K))(j:FnG P w K mg base 2 "place_of" ["date"] aKV)(g:FnG P w K mg base 2 "day_at" ["place"] aKQ) (F:Fun K "due_day" "due_day" bVR f fd):y0 P w K mg base CX0 3 f fd ["shut","date","term"] (bVb K):=by
 have U:=bJ5;refine F.ok (k:=2) U (λN A outer s H X Q E u h=>?_);obtain⟨a,G,d,t,rfl,I,y,O,q⟩:=h;refine⟨_,(yC (yO (i:=3) (y2 wB (zE j u rfl (yA (pv 1) yF)) (pv 2))) (yC (zK bKB rfl (xB (zE b u rfl (yA (pv 0) yF))) (yZ (i:=4)) (yG (zC (bQd qY bZs (pv 1) (pv 4) (zE g u rfl (yA (pv 3) yF))) (yG (yO (i:=3) (y2 wB (pv 3) yK))) yY))) (yG (yP (zE g u rfl (yA (pv 3) yF)))))),?_⟩;refine⟨_,rfl,d,rfl,_,rfl,_,_,rfl,rfl,?_⟩;refine⟨_,rfl,a,G,rfl,I,y,λr J C L R S M hl o=>⟨r,rfl,⟨_,SqL.of o⟩,?_⟩⟩;refine zP (xs:=C.map V.int) (λi σ H=>∃cl,σ= [some (.ref a),some (.int d),some (.int t),some (.int (Dm.aQm d (Dm.place d+t) (C.take i))),cl]/\H=J) ?_ ?_ ?_ ?_
 ·exact⟨none,rfl,rfl⟩
 ·rintro i σ H W ⟨cl,rfl,rfl⟩;exact SqL.of o
 ·rintro i x σ H n ⟨cl,rfl,rfl⟩;rw[bWY]at n;cases D:C[i]? with
  |none=>rw[D]at n;cases n
  |some c=>
   rw[D]at n;cases n;have p:=aYp d (Dm.place d+t) C i c D;generalize Dm.aQm d (Dm.place d+t) (C.take i)=pl at p ⊢;dsimp only[yS];refine⟨_,rfl,_,rfl,_,_,rfl,rfl,_,rfl,?_⟩;refine aJW (λB=>?_) (λB=>?_)
   ·have l:d<c:=of_decide_eq_true B;refine⟨_,rfl,pl,rfl,_,_,rfl,rfl,_,rfl,?_⟩;refine aJW (λv=>?_) (λv=>?_)
    ·have m:c<=Dm.x0 pl:=of_decide_eq_true v;refine⟨_,rfl,_,_,rfl,rfl,some (.int c),?_,rfl⟩;have e:Dm.vF d pl c=pl+1:=if_pos ⟨l,m⟩;rw[p,e];rfl
    ·have m:¬c<=Dm.x0 pl:=of_decide_eq_false (Bool.eq_false_iff.mpr v);refine⟨some (.int c),?_,rfl⟩;have e:Dm.vF d pl c=pl:=if_neg λz=>m z.2;rw[p,e];rfl
   ·have l:¬d<c:=of_decide_eq_false (Bool.eq_false_iff.mpr B);refine⟨_,rfl,?_⟩;refine onF rfl ⟨some (.int c),?_,rfl⟩;have e:Dm.vF d pl c=pl:=if_neg λz=>l z.1;rw[p,e];rfl
 ·rintro σ H ⟨cl,rfl,rfl⟩;rw[bWK,bYp];exact⟨_,rfl,_,rfl,q _ _ L (Dm.bQ6 O S M)⟩
end
end Days
namespace Desk
open PySem L2 PyProof.Rows
open Bk (Row Rows)
structure PB(CB CL:Nat)(H:Hp)(ba la sa:Nat)(ls cs:List Nat)(R:Rows)(S:List Int):Prop where
 book:∃dx,H ba=some (.ins CB dx [("letters",.ref la),("shut",.ref sa)])
 lst:H la=some (.lst (ls.map V.ref))
 sht:H sa=some (.lst (S.map V.int))
 len:ls.length=R.length
 clen:cs.length=R.length
 nd:ls.Nodup
 cnd:cs.Nodup
 las:la≠sa
 lac:la∉cs
 sac:sa∉cs
 row:∀ (i:Nat)(b c:Nat)(r:Row),ls[i]? =some b->cs[i]? =some c->R[i]? =some r->aJI CL H b i r c/\H c=some (.lst (r.copies.map V.str))
theorem PB.get{g CL:Nat}{H:Hp}{k la sa:Nat}{ls cs:List Nat}{R:Rows}{S:List Int}(h:PB g CL H k la sa ls cs R S){i:Nat}{r:Row}(e:R[i]? =some r): ∃b c,(ls.map V.ref)[i]? =some (.ref b)/\ls[i]? =some b/\cs[i]? =some c/\aJI CL H b i r c/\H c=some (.lst (r.copies.map V.str)):=by
 have d:i<R.length:=Bk.xM e;have a:=bWF (show i<ls.length by rw[h.len];exact d);have f:=bWF (show i<cs.length by rw[h.clen];exact d);obtain⟨l,j⟩:=h.row i _ _ r a f e;exact⟨_,_,by rw[bWY,a];rfl,a,f,l,j⟩
theorem PB.sameT{a CL:Nat}{H f:Hp}{d la sa:Nat}{ls cs:List Nat}{R:Rows}{S:List Int}(h:PB a CL H d la sa ls cs R S)(k:xO H f):PB a CL f d la sa ls cs R S:=
 ⟨let ⟨dx,e⟩:=h.book;⟨dx,k _ _ (λ_ z=>nomatch z) e⟩,k.lst h.lst,k.lst h.sht,h.len,h.clen,h.nd,h.cnd,h.las,h.lac,h.sac,λi b c r l j g=>
  let ⟨⟨dx,e1⟩,e2⟩:=h.row i b c r l j g;⟨⟨dx,k _ _ (λ_ z=>nomatch z) e1⟩,k.lst e2⟩⟩
theorem PB.same{a CL:Nat}{H b:Hp}{c la sa:Nat}{ls cs:List Nat}{R:Rows}{S:List Int}(h:PB a CL H c la sa ls cs R S)(k:xV H b):PB a CL b c la sa ls cs R S:=h.sameT k.t
def aVT(T:Nat)(H a:Hp):Prop:=xO H a/\(Thr.zO T H->Thr.zO T a)
theorem aVT.of{T:Nat}{H a:Hp}(k:xV H a):aVT T H a:=⟨k.t,λt=>by
 rcases t with t|⟨c,b,d⟩
 ·exact .inl (k _ _ t)
 ·exact .inr ⟨c,k _ _ b,k _ _ d⟩⟩
theorem aVT.trans{T:Nat}{H c d:Hp}(a:aVT T H c)(b:aVT T c d):aVT T H d:=⟨a.1.trans b.1,λt=>b.2 (a.2 t)⟩
def yX(K:bWI)(Rf:Nat×Nat)(H:Hp)(E:XK)(t:Str):Prop:=∀ (C b:Nat)(a:Hp),wQ K C->cQS K C (.ref Rf.1)=some true->aVT Rf.2 H a->a b=some (.xd [("words",.str t)])->E (.ref C) (some b) a
theorem yX.go{K:bWI}{Rf:Nat×Nat}{H:Hp}{E:XK}{t:Str}(h:yX K Rf H E t){b:Hp}(k:aVT Rf.2 H b):yX K Rf b E t:=λC d a c m f e=>h C d a c m (k.trans f) e
theorem yX.raise{P:bW3}{w:bKa}{K:bWI}{mg:Str->Option bWG}{base:Heap}{k:Nat}{x:Str}{Rf:Nat×Nat}{C:Nat}{H:Hp}{E:XK}{t:Str}(h:yX K Rf H E t)(G:ExG P w K mg base k x Rf.1 C t){D:aJH}{σ:L2.St}:bXn C t E D σ H:=
 λa b=>h C a _ G.cl G.sub (aVT.of (yI b _)) yB
inductive aJs(K:bWI)(Rf:Nat×Nat)(CB CL:Nat)(vs:List V)(H:Hp)(Q:VK)(E:XK):Prop|mk (ba la sa:Nat) (ls cs:List Nat) (R:Rows) (S:List Int) (m:Int) (_:vs= [.ref ba,.int m]) (_:PB CB CL H ba la sa ls cs R S) (_:(∀ (k:Nat)(r:Row)(b:Nat),m=(k:Int)->R[k]? =some r->r.void=false->ls[k]? =some b->Q (.ref b) H)) (_:(Bk.vP R m=false->yX K Rf H E "no letter"))
inductive aZQ(CB CL:Nat)(vs:List V)(H:Hp)(Q:VK)(_:XK):Prop|mk (ba la sa:Nat) (ls cs:List Nat) (R:Rows) (S:List Int) (i:Nat) (b:Nat) (_:vs= [.ref ba,.ref b]) (_:PB CB CL H ba la sa ls cs R S) (_:ls[i]? =some b) (_:R.length<=100) (_:∀l,H l=none->Q (.ref l) (upd H l (.lst ((Bk.zU R i).map λk=>(ls.map V.ref).getD k .non))))
inductive aJv(K:bWI)(Rf:Nat×Nat)(CB CL:Nat)(vs:List V)(H:Hp)(Q:VK)(E:XK):Prop|mk (ba la sa:Nat) (ls cs:List Nat) (R:Rows) (S:List Int) (m:Int) (_:vs= [.ref ba,.int m]) (_:PB CB CL H ba la sa ls cs R S) (_:(∀ (k:Nat)(r:Row)(l:Nat),m=(k:Int)->R[k]? =some r->r.void=false->H l=none->Q (.ref l) (upd H l (.lst (r.copies.map V.str))))) (_:(Bk.vP R m=false->yX K Rf H E "no letter"))
inductive aXZ(K:bWI)(Rf:Nat×Nat)(CB CL:Nat)(vs:List V)(H:Hp)(Q:VK)(E:XK):Prop|mk (ba la sa:Nat) (ls cs:List Nat) (R:Rows) (S:List Int) (m:Int) (_:vs= [.ref ba,.int m]) (_:PB CB CL H ba la sa ls cs R S) (_:(∀ (k:Nat)(r:Row)(l:Nat),m=(k:Int)->R[k]? =some r->r.void=false->H l=none->Q (.ref l) (upd H l (.tup (stV r))))) (_:(Bk.vP R m=false->yX K Rf H E "no letter"))
section
variable {K:bWI}
abbrev Y7:Stmt:=yW "Book" "letter_at"
abbrev aJo:Stmt:=yW "Book" "answers_to"
abbrev Y6:Stmt:=yW "Book" "copies_of"
abbrev aQN:Stmt:=yW "Book" "state_of"
theorem bZL:yJ ["self","number"] ["self","number"] (yD Y7):=scM
theorem aYy{R:Rows}{m:Int}(h:m<0):Bk.vP R m=false:=by
 unfold Bk.vP;rw[decide_eq_false (by omega),Bool.false_and]
theorem aYx{R:Rows}{m:Int}(h:(R.length:Int)<=m):Bk.vP R m=false:=by
 unfold Bk.vP;rw[bKf (by omega)];simp
theorem aXm{R:Rows}{k:Nat}{r:Row}(h:R[k]? =some r):Bk.vP R (k:Int)= !r.void:=by
 unfold Bk.vP;rw[bKs,h];simp
theorem bZg(T:vD mg)(cl:Cl K CB CL)(a:ExG P w K mg base n "NoLetter" Rf.1 C1 "no letter")(F:Fun K "letter_at" "Book.letter_at" Y7 f fd):y0 P w K mg base (CXR P w) (n+2) f fd ["self","number"] (aJs K Rf CB CL):=by
 have C:=bZL;refine F.okX (k:=n+1) C (λz A outer s H N Q E B h=>?_);obtain⟨j,p,U,y,M,R,S,m,rfl,e,q,o⟩:=h;refine⟨_,(yC (zC (PW.pt (aZy (yU qY (pv 1) yK) (aZy (yU bVL (pv 1) (yT yM rfl T.b_len xU (yA (yR (pv 0) rfl) yF))) (aXJ (wH (yR (yN yL (yR (pv 0) rfl) (pv 1)) rfl)))))) (yG (zH a B rfl)) yY) (yG (yP (yN yL (yR (pv 0) rfl) (pv 1))))),?_⟩;obtain⟨i,g⟩:=e.book;have hl:(y.map V.ref).length=R.length:=by rw[bWK];exact e.len
 refine⟨_,rfl,_,_,rfl,rfl,_,rfl,?_⟩;refine aJW (λc=>?_) (λc=>?_)
 ·exact onT rfl ((o (aYy (of_decide_eq_true c))).raise a)
 ·have I:¬m<0:=of_decide_eq_false (Bool.eq_false_iff.mpr c);refine⟨_,rfl,_,rfl,j,CB,i,_,_,rfl,g,cl.b,cl.letters,rfl,p,_,rfl,.inl (SqL.of e.lst),_,_,rfl,rfl,_,rfl,?_⟩;rw[hl];refine aJW (λc=>?_) (λc=>?_)
  ·exact onT rfl ((o (aYx (of_decide_eq_true c))).raise a)
  ·have L:¬m≥(R.length:Nat):=of_decide_eq_false (Bool.eq_false_iff.mpr c);obtain⟨k,rfl⟩:∃k:Nat,m=(k:Int):=⟨m.toNat,by omega⟩;have x:k<R.length:=by omega
   have d:=bWF x;obtain⟨b,J,u,D,O,⟨r,v⟩,G⟩:=e.get d;refine⟨_,rfl,j,CB,i,_,_,rfl,g,cl.b,cl.letters,rfl,_,rfl,p,_,_,_,rfl,rfl,SqL.of e.lst,yV u,b,CL,r,_,_,rfl,v,cl.l,cl.void,rfl,_,rfl,?_⟩;cases t:R[k].void with
   |true=>exact onT rfl ((o (by rw[aXm d,t];rfl)).raise a)
   |false=>exact onF rfl ⟨_,rfl,j,CB,i,_,_,rfl,g,cl.b,cl.letters,rfl,_,rfl,p,_,_,_,rfl,rfl,SqL.of e.lst,yV u,q k _ b rfl d t D⟩
theorem aJ0{K:bWI}{a:Nat}{xs:List V}{n:List Nat}{j:TT}{r:TE}{σ:L2.St}{D:Nat}{Q:VK}{H:Hp}(p:Nat->Bool)(f:Nat->V)(hl:SqL K H a xs)(s:H D=none)(hz:xs.length<=bKb) (z:∀i v,xs[i]? =some v->∀ (c:Hp)(R:Bool->Hp->Prop),(∀b,b≠D->c b=H b)->R (p i) c->j (sub σ n (some v)) c R) (B:∀i v,xs[i]? =some v->p i=true->∀ (c:Hp)(R:VK),(∀b,b≠D->c b=H b)->R (f i) c->r (sub σ n (some v)) c R) (w:Q (.ref D) (upd H D (.lst (((bWS xs.length).filter p).map f)))):bXE (Itl K a) n j r σ D Q (upd H D (.lst [])):=by
 have d:∀g,SqL K (upd H D (.lst g)) a xs:=λg=>by
  rcases hl with(h|⟨o,h⟩)|h
  ·exact .inl (.inl (by rw[yH (yE h s)];exact h))
  ·exact .inl (.inr ⟨o,by rw[yH (yE h s)];exact h⟩)
  ·exact .inr h
 refine⟨λi m g c=>m=xs.length - i/\i<=xs.length/\g=((bWS i).filter p).map f/\c=upd H D (.lst g),⟨xs.length,by simp,bKt _,by simp,rfl⟩,?_⟩;rintro i m g c ⟨rfl,C,rfl,rfl⟩;refine⟨yB,?_⟩;by_cases e:i<xs.length
 ·refine .inr ⟨⟨xs,xs[i],d _,bWF e⟩,λv F x=>?_⟩;obtain⟨rfl,y⟩:=x;have t:xs[i]? =some v:=y xs (d _);have l:∀b,b≠D->upd H D (.lst (((bWS i).filter p).map f)) b=H b:=λb u=>yH u;have k:(((bWS i).filter p).map f).length<bKb:=by
   rw[bWK];have A:=bKX p (bWS i);rw[bKo]at A;omega
  refine z i v t _ _ l ?_;cases q:p i with
  |false=>show ∃E,_;refine⟨xs.length - (i+1),by omega,rfl,e,?_,rfl⟩;rw[bYP,bKV,bYl (by rw[q];decide)];simp
  |true=>show r _ _ _;refine B i v t q _ _ l ⟨k,yB,xs.length - (i+1),by omega,rfl,e,?_,by rw[uD]⟩;rw[bYP,bKV,bYm q];simp
 ·obtain rfl:i=xs.length:=by omega
  exact .inl ⟨⟨xs,d _,bWN _⟩,w⟩
theorem bQl:yJ ["self","letter"] ["self","letter"] (yD aJo):=scM
theorem aYG:y9 ["self","letter"] (yD aJo) "other" ["letter"] [1] (lsN [(".0",.local),("other",.local),("letter",.free)]):=
 lcM
theorem aYR(cl:Cl K CB CL)(a:MG P w K mg base CX0 n CL "is_answered_by" ["self","other"] (aKN CL))(F:Fun K "answers_to" "Book.answers_to" aJo f fd):y0 P w K mg base CX0 (n+1) f fd ["self","letter"] (aZQ CB CL):=by
 have J:=bQl;refine F.ok (k:=n) J (λO A outer s H vs Q E W h=>?_);obtain⟨G,M,sa,u,cs,R,S,i,b,rfl,d,z,hR,q⟩:=h;refine⟨_,(yG (yP (J8 aYG rfl (xB (yR (pv 0) rfl)) (λ_ _ _ _ _=>(uQ (wH (wN a W vB (pv 1) (yA (pv 0) yF))))) (λ_ _ _ _ _=>(pv 0))))),?_⟩;obtain⟨C,B⟩:=d.book;have hl:(u.map V.ref).length=R.length:=by rw[bWK];exact d.len
 have t:i<R.length:=by rw[<- d.len];exact(bWP.mp z).1
 obtain⟨T,cc,g1,X,g3,⟨g,m⟩,Y⟩:=d.get (bWF t);obtain rfl:b=T:=bWX (z.symm.trans X);refine⟨_,rfl,G,CB,C,_,_,rfl,B,cl.b,cl.letters,rfl,M,rfl,⟨_,SqL.of d.lst⟩,λD e=>?_⟩;refine aJ0 (λk=>decide (Bk.lk R k=some i)) (λk=>(u.map V.ref).getD k .non) (SqL.of d.lst) e (zn (by omega)) (λj v o N I p c=>?_) (λj v o _ N I p c=>?_) ?_
 ·have U:j<R.length:=by rw[<- hl];exact(bWP.mp o).1
  have l:=bWF U;obtain⟨y,c2,L,Z,k3,⟨r,x⟩,k5⟩:=d.get l;obtain rfl:v= .ref y:=bWX (o.symm.trans L);rw[Bk.zX l]at c;exact⟨_,rfl,b,g,_,rfl,(p _ (yE m e)).trans m,rfl,_,rfl,b,y,i,j,_,_,_,_,rfl,⟨g,(p _ (yE m e)).trans m⟩,⟨r,(p _ (yE x e)).trans x⟩,_,rfl,c⟩
 ·have:(u.map V.ref).getD j .non=v:=by simp only[bKC,o];rfl
  rw[this]at c;exact⟨_,rfl,c⟩
 ·rw[hl];exact q D e
theorem aZL:yJ ["self","number"] ["self","number"] (yD Y6):=scM
theorem aZp(T:vD mg)(cl:Cl K CB CL)(a:MG P w K mg base (CXR P w) n CB "letter_at" ["self","number"] (aJs K Rf CB CL))(F:Fun K "copies_of" "Book.copies_of" Y6 f fd):y0 P w K mg base (CXR P w) (n+1) f fd ["self","number"] (aJv K Rf CB CL):=by
 have I:=aZL;refine F.okX (k:=n) I (λB A outer s H N Q E G h=>?_);obtain⟨g,v,M,x,y,R,S,m,rfl,d,q,t⟩:=h;refine⟨_,(yG (yP (uO aXd rfl T.b_list u7 (yA (yR (wN a G zB (pv 0) (yA (pv 1) yF)) rfl) yF)))),?_⟩;obtain⟨o,j⟩:=d.book;refine⟨_,rfl,g,o,_,rfl,j,rfl,_,rfl,g,v,M,x,y,R,S,m,rfl,d,λk r b z i D e=>?_,t⟩;obtain⟨C,L,U,J,O,⟨c,u⟩,p⟩:=d.get i;obtain rfl:b=C:=bWX (e.symm.trans J);refine⟨b,CL,c,_,_,rfl,u,cl.l,cl.copies,rfl,?_⟩;exact⟨L,_,rfl,.inl (SqL.of p),λl hl=>q k r l z i D hl⟩
theorem aVI:yJ ["self","number"] ["self","number"] (yD aQN):=scM
theorem aVm(cl:Cl K CB CL)(a:MG P w K mg base (CXR P w) n CB "letter_at" ["self","number"] (aJs K Rf CB CL))(c:MG P w K mg base CX0 n CL "state" ["self"] (aKX CL))(F:Fun K "state_of" "Book.state_of" aQN f fd): y0 P w K mg base (CXR P w) (n+1) f fd ["self","number"] (aXZ K Rf CB CL):=by
 have J:=aVI;refine F.okX (k:=n) J (λC A outer s H T Q E o h=>?_);obtain⟨i,x,N,y,z,R,S,m,rfl,e,q,v⟩:=h;refine⟨_,(yG (yP (bJP c o vB (wN a o zB (pv 0) (yA (pv 1) yF))))),?_⟩;obtain⟨u,p⟩:=e.book;refine⟨_,rfl,i,u,_,rfl,p,rfl,_,rfl,i,x,N,y,z,R,S,m,rfl,e,λk r b B l G g=>?_,v⟩;obtain⟨D,M,V,L,U,⟨d,j⟩,O⟩:=e.get l;obtain rfl:b=D:=bWX (g.symm.trans L);exact⟨b,d,_,rfl,j,rfl,b,k,r,M,rfl,⟨d,j⟩,λt I=>q k r t B l G I⟩
end
end Desk
namespace Desk
open PySem L2 PyProof.Rows
open Bk (Row Rows)
open Law (aVR vW uX aYa aXF aQZ)
def aWq(R:Rows)(w:Str):List Nat:=(bWS R.length).filter λk=>match R[k]? with|some r=> !r.void && decide (r.place=w)|none=>false
inductive Z1(CB CL:Nat)(vs:List V)(H:Hp)(Q:VK)(_:XK):Prop|mk (ba la sa:Nat) (ls cs:List Nat) (R:Rows) (S:List Int) (w:Str) (_:vs= [.ref ba,.str w]) (_:PB CB CL H ba la sa ls cs R S) (_:R.length<64) (_:∀l,H l=none->Q (.ref l) (upd H l (.lst ((aWq R w).map λi=>V.int (i:Nat)))))
def bXz(R:Rows)(n:Nat)(d:Int)(a:List (Key×V)):Prop:=∀j:Nat,(jR a (Sum.inl (j:Int))).isSome=true↔∃k,k<n/\Bk.lk R k=some j/\Bk.dt R k<=d
inductive aQc(CB CL:Nat)(vs:List V)(H:Hp)(Q:VK)(_:XK):Prop|mk (ba la sa:Nat) (ls cs:List Nat) (R:Rows) (S:List Int) (d:Int) (_:vs= [.ref ba,.int d]) (_:PB CB CL H ba la sa ls cs R S) (_:R.length<64) (_:∀ (a:Nat)(H':Hp)(kvs:List (Key×V)),xV H H'->H a=none->H' a=some (.dK kvs)->bXz R R.length d kvs->Q (.ref a) H')
inductive aZR(CB CL:Nat)(vs:List V)(H:Hp)(Q:VK)(_:XK):Prop|mk (ba la sa:Nat) (ls cs:List Nat) (R:Rows) (S:List Int) (d:Int) (_:vs= [.ref ba,.int d]) (_:PB CB CL H ba la sa ls cs R S) (_:R.length<64) (_:S.length<64) (_:∀ (l:Nat)(H':Hp)(ks:List Nat)(ps:List V),xV H H'->H l=none->H' l=some (.lst ps)->bYi (aVR H' (vW R S)) ks ps->Bk.aQ0 R S d false ks->Q (.ref l) H')
inductive bVv(CB CL:Nat)(late:Bool)(vs:List V)(H:Hp)(Q:VK)(_:XK):Prop|mk (ba la sa:Nat) (ls cs:List Nat) (R:Rows) (S:List Int) (d:Int) (_:vs= [.ref ba,.int d]) (_:PB CB CL H ba la sa ls cs R S) (_:R.length<64) (_:S.length<64) (_:∀ (l:Nat)(H':Hp)(ks:List Nat),xV H H'->H l=none->H' l=some (.lst (ks.map λi=>V.int (i:Nat)))->Bk.aQ0 R S d late ks->Q (.ref l) H')
theorem aQz{X:Cx}{K:bWI}{e:Expr}{f:Str}{pos:Pos}{a:TE}(c:PE X e a)(b:cXi e f X.env (eval e X.env)=eval e X.env)(d:X.K=K:=by rfl):PE X (.Attribute e f pos) (bWf K a f):=d ▸ yR c b
section
variable {K:bWI}
abbrev vT:Stmt:=yW "Book" "letters_in"
abbrev Y5:Stmt:=yW "Book" "answered_by"
abbrev aKp:Stmt:=yW "Book" "waiting_pairs"
abbrev qE:Stmt:=yW "Book" "waiting"
abbrev qD:Stmt:=yW "Book" "overdue"
theorem aXS:yJ ["self","name"] ["self","name"] (yD vT):=scM
theorem aXu:y9 ["self","name"] (yD vT) "letter" ["name"] [1] (lsN [(".0",.local),("letter",.local),("name",.free)]):=
 lcM
theorem bXN{r:Row}{w:Str}:decide (W7 r=V.str w)=(!r.void && decide (r.place=w)):=by
 unfold W7;cases r.void with
 |true=>rfl
 |false=>show decide (V.str r.place=V.str w)=(true && decide (r.place=w));rw[Bool.true_and,Bool.eq_iff_iff];simp
theorem aXC(cl:Cl K CB CL)(F:Fun K "letters_in" "Book.letters_in" vT f fd):y0 P w K mg base CX0 (n+1) f fd ["self","name"] (Z1 CB CL):=by
 have I:=aXS;refine F.ok (k:=n) I (λO A outer s H X Q E W h=>?_);obtain⟨C,L,Y,N,U,R,S,w,rfl,d,hR,q⟩:=h;refine⟨_,(yG (yP (J8 aXu rfl (xB (yR (pv 0) rfl)) (λ_ _ _ _ _=>(uQ (yU aQy (aQz (K:=K) (pv 0) rfl) (pv 1)))) (λ_ _ _ _ _=>(aQz (K:=K) (pv 0) rfl))))),?_⟩;obtain⟨y,x⟩:=d.book;have hl:(N.map V.ref).length=R.length:=by rw[bWK];exact d.len
 refine⟨_,rfl,C,CB,y,_,_,rfl,x,cl.b,cl.letters,rfl,L,rfl,⟨_,SqL.of d.lst⟩,λD o=>?_⟩;refine aJ0 (λk=>match R[k]? with|some r=> !r.void && decide (r.place=w)|none=>false) (λk=>V.int (k:Nat)) (SqL.of d.lst) o (zn (by omega)) (λj v i M G u a=>?_) (λj v i _ M G u a=>?_) ?_
 ·have t:j<R.length:=by rw[<- hl];exact(bWP.mp i).1
  have m:=bWF t;obtain⟨g,B,p,z,J,⟨c,e⟩,T⟩:=d.get m;obtain rfl:v= .ref g:=bWX (i.symm.trans p);rw[m]at a;dsimp only at a;rw[<- bXN]at a;refine⟨_,rfl,g,CL,c,_,_,rfl,(u _ (yE e o)).trans e,cl.l,cl.file,rfl,_,rfl,?_,_,rfl,a⟩;unfold W7;cases R[j].void<;> rfl
 ·have t:j<R.length:=by rw[<- hl];exact(bWP.mp i).1
  obtain⟨g,B,p,z,J,⟨c,e⟩,T⟩:=d.get (bWF t);obtain rfl:v= .ref g:=bWX (i.symm.trans p);exact⟨_,rfl,g,CL,c,_,_,rfl,(u _ (yE e o)).trans e,cl.l,cl.number,rfl,a⟩
 ·rw[hl];exact q D o
theorem aZK:yJ ["self","day","answered","letter"] ["self","day"] (yD Y5):=scM
theorem aQ5{R:Rows}{t:Nat}{d:Int}{a:List (Key×V)}(h:bXz R t d a)(f:∀j,Bk.lk R t=some j->¬Bk.dt R t<=d):bXz R (t+1) d a:=λj=>by
 rw[h j];constructor
 ·rintro⟨k,g,b⟩;exact⟨k,by omega,b⟩
 ·rintro⟨k,g,b,c⟩;by_cases e:k=t
  ·subst e;exact absurd c (f j b)
  ·exact⟨k,by omega,b,c⟩
theorem aYc{R:Rows}{t:Nat}{d:Int}{a:List (Key×V)}(h:bXz R t d a){i:Nat}(hl:Bk.lk R t=some i)(l:Bk.dt R t<=d){v:V}:bXz R (t+1) d (aQC a (Sum.inl (i:Int)) v):=λj=>by
 rw[bQT];by_cases e:j=i
 ·subst e;rw[if_pos rfl];exact⟨λ_=>⟨t,by omega,hl,l⟩,λ_=>rfl⟩
 ·rw[if_neg (λz=>e (by have:=Sum.inl.inj z;omega)),h j];constructor
  ·rintro⟨k,c,b⟩;exact⟨k,by omega,b⟩
  ·rintro⟨k,c,b,g⟩;by_cases f:k=t
   ·subst f;rw[hl]at b;exact absurd (bWX b).symm e
   ·exact⟨k,by omega,b,g⟩
theorem aZo(cl:Cl K CB CL)(F:Fun K "answered_by" "Book.answered_by" Y5 f fd):y0 P w K mg base CX0 (n+1) f fd ["self","day"] (aQc CB CL):=by
 have sc:=aZK;refine F.ok (k:=n) sc (λa0 A outer s H vs Q E hr h=>?_);obtain⟨M,Z,sa,T,cs,R,S,d,rfl,D,hR,q⟩:=h;refine⟨_,(yC (yO (i:=2) jZ) (yC (zK bKB rfl (xB (yR (pv 0) rfl)) (yZ (i:=3)) (yG (zC (PW.pt (Q9 (yU v6 (yR (pv 3) rfl) wG) (Y4 (yU bZs (yR (pv 3) rfl) (pv 1))))) (yG (aQB (W8 hr) (pv 2) (yR (pv 3) rfl) qZ rfl)) yY))) (yG (yP (pv 2))))),?_⟩;obtain⟨Y,X⟩:=D.book;have hl:(T.map V.ref).length=R.length:=by rw[bWK];exact D.len
 intro a G;dsimp only[yS];have I:=yI G (.dK []);refine⟨_,rfl,M,CB,Y,_,_,rfl,I _ _ X,cl.b,cl.letters,rfl,Z,rfl,⟨_,SqL.of (I _ _ D.lst)⟩,?_⟩;refine zP (xs:=T.map V.ref) (λt σ u=>∃ (e:List (Key×V))(o:Option V),σ= [some (.ref M),some (.int d),some (.ref a),o]/\xV H u/\u a=some (.dK e)/\e.length<=t/\bXz R t d e) ?_ ?_ ?_ ?_
 ·exact⟨[],none,rfl,I,yB,bKt _,λj=>⟨λz=>(by cases z),λ⟨k,z,_⟩=>absurd z (bKK _)⟩⟩
 ·rintro t σ u U ⟨e,o,rfl,g,y,W,m⟩;exact SqL.of (g _ _ D.lst)
 ·rintro t x σ u N ⟨e,o,rfl,g,y,W,m⟩;have U:t<R.length:=by rw[<- hl];exact(bWP.mp N).1
  have p:=bWF U;obtain⟨b,c,g1,g2,g3,⟨v,J⟩,g5⟩:=(D.same g).get p;obtain rfl:x= .ref b:=bWX (N.symm.trans g1);dsimp only[yS];refine⟨_,rfl,b,CL,v,_,_,rfl,J,cl.l,cl.link,rfl,rfl,_,rfl,?_⟩;have B:=Bk.zX p;have C:=Bk.zI p;cases r:R[t].link with
  |none=>exact onF rfl (onF rfl ⟨e,_,rfl,g,y,by omega,aQ5 m λj L=>by rw[B,r]at L;cases L⟩)
  |some i=>
   refine onT rfl ⟨_,rfl,b,CL,v,_,_,rfl,J,cl.l,cl.day,rfl,_,rfl,_,_,rfl,rfl,_,rfl,?_⟩;cases O:decide (R[t].date<=d)with
   |false=>exact onF rfl ⟨e,_,rfl,g,y,by omega,aQ5 m λj L=>by rw[C];exact of_decide_eq_false O⟩
   |true=>
    refine onT rfl ⟨_,rfl,_,rfl,b,CL,v,_,_,rfl,J,cl.l,cl.link,rfl,a,upd u a (.dK (aQC e (Sum.inl (i:Int)) (.bl true))),rfl,?_,?_⟩
    ·rw[r];exact bQY.k (k:=Sum.inl (i:Int)) y (by rw[bKg];omega)
    refine⟨_,_,rfl,?_,yB,bKh (v1 _ _ _) (by omega),aYc m (by rw[B,r]) (by rw[C];exact of_decide_eq_true O)⟩;exact aQZ g G
 ·rintro σ u ⟨e,o,rfl,g,y,W,m⟩;rw[hl]at m;exact⟨_,rfl,q a u e g G y m⟩
theorem bQU{R:Rows}{i:Nat}{r:Row}{d:Int}{a:List (Key×V)}(l:R[i]? =some r)(g:bXz R R.length d a): Bk.waits R i d=(decide (Q3 r > 0) && (decide (r.date<=d) && !(jR a (Sum.inl (i:Int))).isSome)):=by
 have j:((Bk.zU R i).all λk=>decide (d<Bk.dt R k))= !(jR a (Sum.inl (i:Int))).isSome:=by
  rw[Bool.eq_iff_iff,cXj,Bool.not_eq_true',Bool.eq_false_iff,ne_eq,g i];constructor
  ·rintro h ⟨k,b,c,m⟩;have:=of_decide_eq_true (h k (bKA.mpr ⟨bKc.mpr b,decide_eq_true c⟩));omega
  ·intro h k f;obtain⟨b,c⟩:=bKA.mp f;refine decide_eq_true ?_;by_cases z:Bk.dt R k<=d
   ·exact absurd ⟨k,bKc.mp b,of_decide_eq_true c,z⟩ h
   ·omega
 unfold Bk.waits;rw[l];dsimp only;rw[j];unfold Q3;cases r.void with
 |true=>rfl
 |false=>
  rw[if_neg (by decide)];have e:decide (1<=r.term)=decide (r.term > 0):=by rw[Bool.eq_iff_iff];simp;omega
  rw[e];simp[Bool.and_assoc]
theorem bQu:yJ ["self","day","answered","pairs","letter"] ["self","day"] (yD aKp):=scM
theorem aY0(T:vD mg)(cl:Cl K CB CL)(j:MG P w K mg base CX0 n CB "answered_by" ["self","day"] (aQc CB CL))(r:FnG P w K mg base n "due_day" ["shut","date","term"] (Days.bVb K)) (F:Fun K "waiting_pairs" "Book.waiting_pairs" aKp f fd):y0 P w K mg base CX0 (n+1) f fd ["self","day"] (aZR CB CL):=by
 have sc:=bQu;refine F.ok (k:=n) sc (λc3 A outer s H vs Q E hr h=>?_);obtain⟨O,la,sa,ls,cs,R,S,d,rfl,hB,hR,hS,q⟩:=h;refine⟨_,(yC (yO (i:=2) (wN j hr vB (pv 0) (yA (pv 1) yF))) (yC (yO (i:=3) (xR yF)) (yC (zK bKB rfl (xB (yR (pv 0) rfl)) (yZ (i:=4)) (yG (zC (PW.pt (Q9 (yU aZu (yR (pv 4) rfl) yK) (Q9 (yU bZs (yR (pv 4) rfl) (pv 1)) (Y4 (bJY (aW2 (W8 hr) (yR (pv 4) rfl) (pv 2))))))) (yG (yQ (vJ bKj bKp bKq y8 (pv 3) (yA (zW (yA (zE r hr rfl (yA (yR (pv 0) rfl) (yA (yR (pv 4) rfl) (yA (yR (pv 4) rfl) yF)))) (yA (yR (pv 4) rfl) yF))) yF)))) yY))) (yG (yP (yT w8 rfl T.b_sorted x6 (yA (pv 3) yF))))))),?_⟩;obtain⟨dx,hb⟩:=hB.book;have hl:(ls.map V.ref).length=R.length:=by rw[bWK];exact hB.len
 refine⟨_,rfl,O,dx,_,rfl,hb,rfl,_,rfl,O,la,sa,ls,cs,R,S,d,rfl,hB,hR,λa H0 b5 k0 c1 a0 hA=>?_⟩;dsimp only[yS];refine⟨z0,λB y=>?_⟩;dsimp only[yS];have k1:xV H (upd H0 B (.lst [])):=k0.trans (yI y _);have c0:H B=none:=k0.fresh y;refine⟨_,rfl,O,CB,dx,_,_,rfl,k1 _ _ hb,cl.b,cl.letters,rfl,la,rfl,⟨_,SqL.of (k1 _ _ hB.lst)⟩,?_⟩;have c2:a≠B:=yE a0 y;refine zP (xs:=ls.map V.ref) (λt σ G=>∃ (g:List V)(o:Option V),σ= [some (.ref O),some (.int d),some (.ref a),some (.ref B),o]/\xV H0 G/\G B=some (.lst g)/\
  bYi (aVR G (vW R S)) ((bWS t).filter (uX R S d false)) g) ?_ ?_ ?_ ?_
 ·exact⟨[],none,rfl,yI y _,yB,.nil⟩
 ·rintro t σ G ht ⟨g,o,rfl,M,J,L⟩;exact SqL.of (M _ _ (k0 _ _ hB.lst))
 ·rintro t x σ G hx ⟨g,o,rfl,M,J,L⟩;have ht:t<R.length:=by rw[<- hl];exact(bWP.mp hx).1
  have N:=bWF ht;have W:=(hB.same k0).same M;obtain⟨b0,b8⟩:=W.book;obtain⟨b,c,g1,g2,g3,⟨v,X⟩,g5⟩:=W.get N;obtain rfl:x= .ref b:=bWX (hx.symm.trans g1);rw[bYP,bKV];dsimp only[yS];have hw:=bQU N hA;have u:uX R S d false t=Bk.waits R t d:=by unfold uX;simp
  have stay:∀o',uX R S d false t=false->∃ (g:List V)(p:Option V),[some (V.ref O),some (V.int d),some (V.ref a),some (V.ref B),o']= [some (.ref O),some (.int d),some (.ref a),some (.ref B),p]/\xV H0 G/\G B=some (.lst g)/\
    bYi (aVR G (vW R S)) ((bWS t).filter (uX R S d false)++ [t].filter (uX R S d false)) g:=λo' e=>by
   have e3: [t].filter (uX R S d false)= []:=by simp[e]
   rw[e3,bKI]
   exact⟨g,o',rfl,M,J,L⟩
  refine⟨_,rfl,b,CL,v,_,_,rfl,X,cl.l,cl.term,rfl,_,_,rfl,rfl,_,rfl,?_⟩;cases h1:decide (Q3 R[t] > 0)with
  |false=>exact onF rfl (onF rfl (stay _ (by rw[u,hw,h1];rfl)))
  |true=>
   refine onT rfl ⟨_,rfl,b,CL,v,_,_,rfl,X,cl.l,cl.day,rfl,_,rfl,_,_,rfl,rfl,_,rfl,?_⟩;cases h2:decide (R[t].date<=d)with
   |false=>exact onF rfl (onF rfl (stay _ (by rw[u,hw,h1,h2];rfl)))
   |true=>
    refine onT rfl ⟨_,rfl,b,CL,v,_,_,rfl,X,cl.l,cl.number,rfl,_,rfl,a,_,rfl,aJG.k (k:=Sum.inl (t:Int)) (M _ _ a0),_,rfl,?_⟩;cases h3:(jR b5 (Sum.inl (t:Int))).isSome with
    |true=>exact onF rfl (stay _ (by rw[u,hw,h1,h2,h3];rfl))
    |false=>
     have a1:Bk.waits R t d=true:=by rw[hw,h1,h2,h3];rfl
     have b7:=Law.aQd ht a1;have hv:R[t].void=false:=by
      cases hv:R[t].void with
      |false=>rfl
      |true=>have:=of_decide_eq_true h1;unfold Q3 at this;rw[hv]at this;simp at this
     have a5:Q3 R[t]=R[t].term:=by unfold Q3;rw[hv];rfl
     refine onT rfl ⟨_,rfl,.inl ⟨rfl,_,SqL.of J⟩,_,rfl,O,CB,b0,_,_,rfl,b8,cl.b,cl.shut,rfl,_,rfl,b,CL,v,_,_,rfl,X,cl.l,cl.day,rfl,_,rfl,b,CL,v,_,_,rfl,X,cl.l,cl.term,rfl,?_⟩;refine⟨sa,S,_,_,rfl,SqL.of W.sht,hS,by rw[a5];exact b7,λH2 D U hD=>?_⟩;have eD:D=vW R S t:=by unfold vW;rw[N,Bk.zI N];rw[a5]at hD;exact(Bk.bQ4 hD).symm
     subst eD;refine⟨_,rfl,b,CL,v,_,_,rfl,U _ _ X,cl.l,cl.number,rfl,z2,λZ b3=>?_⟩;have b4:=U _ _ J;have k5:=yI b3 (.tup [V.int (vW R S t),V.int (t:Nat)]);have a7:=k5 _ _ b4;have il:g.length<=t:=by rw[<- L.length];exact bKh (bKX _ _) (by simp)
     have t6:∀a xs,upd H2 Z (.tup [V.int (vW R S t),V.int (t:Nat)]) a=some (.tup xs)->upd (upd H2 Z (.tup [V.int (vW R S t),V.int (t:Nat)])) B (.lst (g++ [V.ref Z])) a=some (.tup xs):=λa xs e=>by rw[yH (bZd e a7 (by intro z;cases z))];exact e
     have e3: [t].filter (uX R S d false)= [t]:=by simp[u,a1]
     refine⟨B,g,.ref Z,rfl,rfl,a7,zlt (by omega),g++ [.ref Z],_,rfl,aQZ (M.trans (U.trans k5)) y,yB,?_⟩;rw[e3];exact aXF ⟨Z,rfl,t6 _ _ yB⟩ (Paired.mapP L λ_ _ z=>z.tk λa xs e=>t6 _ _ (k5 _ _ (U _ _ e)))
 ·rintro σ G ⟨g,o,rfl,M,J,L⟩;rw[hl]at L;generalize I:(bWS R.length).filter (uX R S d false)=fam at L;have a3:fam.length=g.length:=L.length;have fn:fam.length<=R.length:=by rw[<- I];exact bKh (bKX _ _) (by simp)
  have a2:∀k,k∈fam↔k<R.length/\uX R S d false k=true:=λk=>by rw[<- I,bKA,bKc]
  have b9:fam.Nodup:=by rw[<- I];exact bY0.sublist bYZ
  refine⟨_,rfl,B,g,λm=>(vW R S (fam.getD m 0),((fam.getD m 0:Nat):Int)),rfl,J,by omega,λa b ha hb e=>?_,λm x hx=>?_,λl out a4 a8 b2=>?_⟩
  ·have Y:fam.getD a 0=fam.getD b 0:=by have:=congrArg Prod.snd e;simp only at this;omega
   have a6:a<fam.length:=by omega
   have a9:b<fam.length:=by omega
   simp[bKC,bWF a6,bWF a9]at Y;exact(bYo (h₀:=a6) (h₁:=a9) b9).mp Y
  ·obtain⟨k,hk,p,J,Y⟩:=aYa L hx;have:fam.getD m 0=k:=by simp[bKC,hk]
   show ∃a,x=V.ref a/\G a=some (.tup [V.int (vW R S (fam.getD m 0)),V.int ((fam.getD m 0:Nat):Int)]);rw[this];exact⟨p,J,Y⟩
  ·have hm:∀m∈out,m<g.length:=λm hm=>bKc.mp (a8.mem_iff.mp hm);have U:=yI a4 (.lst (out.map λi=>g.getD i .non));refine q l _ (out.map λm=>fam.getD m 0) _ (k0.trans (M.trans U)) ((k0.trans M).fresh a4) yB ?_ ⟨λk=>?_,?_⟩
   ·have go:∀o:List Nat,(∀m∈o,m<g.length)->bYi (aVR (upd G l (.lst (out.map λi=>g.getD i .non))) (vW R S)) (o.map λm=>fam.getD m 0) (o.map λi=>g.getD i .non):=by
     intro o;induction o with
     |nil=>intro _;exact .nil
     |cons m o ih=>
      intro h;refine .cons ?_ (ih λx hx=>h x (bWR _ hx));have C:=h m bWV;have hg:g[m]? =some (g.getD m .non):=by simp[bKC,bWF C]
      obtain⟨k,hk,p,J,Y⟩:=aYa L hg;have:fam.getD m 0=k:=by simp[bKC,hk]
      show aVR _ _ (fam.getD m 0) (g.getD m .non);rw[this];exact⟨p,J,U _ _ Y⟩
    exact go out hm
   ·have b1:k∈out.map (λm=>fam.getD m 0)↔k∈fam:=by
     constructor
     ·intro h;obtain⟨m,b6,rfl⟩:=bK1.mp h;have C:m<fam.length:=by rw[a3];exact hm m b6
      simp[bKC,bWF C]
     ·intro h;obtain⟨m,C,e⟩:=bKM h;refine bK1.mpr ⟨m,a8.mem_iff.mpr (bKc.mpr (by omega)),?_⟩;simp[bKC,bWF C,e]
    rw[b1,a2 k];unfold uX;simp
   ·rw[cQC];exact b2
theorem bZu{α β:Type}{F:α->β->Prop}:∀ {l:List α} {m:List β} {i:Nat} {y:β},bYi F l m->m[i]? =some y->∃x,l[i]? =some x/\F x y:=λh e=>aYa h e
theorem aXq{α:Type}(ks:List Nat)(g:Nat->Bool)(h:Nat->α):((bWS ks.length).filter λm=>g (ks.getD m 0)).map (λm=>h (ks.getD m 0))=(ks.filter g).map h:=by
 have e:(bWS ks.length).map (λm=>ks.getD m 0)=ks:=by
  apply bYU;intro i;rw[bWY];by_cases a:i<ks.length
  ·rw[bYb a];simp[bWF a]
  ·rw[bKf (by simpa using a),bKf (by omega)];rfl
 conv=>rhs;rw[<- e,List.filter_map,bYH]
 rfl
theorem aVJ:yJ ["self","day"] ["self","day"] (yD qE):=scM
theorem aJ2:y9 ["self","day"] (yD qE) "pair" [] [] (lsN [(".0",.local),("pair",.local)]):=
 lcM
theorem aVn(cl:Cl K CB CL)(a:MG P w K mg base CX0 n CB "waiting_pairs" ["self","day"] (aZR CB CL))(F:Fun K "waiting" "Book.waiting" qE f fd):y0 P w K mg base CX0 (n+1) f fd ["self","day"] (bVv CB CL false):=by
 have Z:=aVJ;refine F.ok (k:=n) Z (λa0 A outer s H vs Q E hr h=>?_);obtain⟨u,la,sa,ls,cs,R,S,d,rfl,J,hR,X,q⟩:=h;refine⟨_,(yG (yP (J8 aJ2 rfl (xB (wN a hr vB (pv 0) (yA (pv 1) yF))) (λ_ _ _ _ _=>zG) (λ_ _ _ _ _=>(yN ixT (pv 0) yK))))),?_⟩;obtain⟨N,M⟩:=J.book;refine⟨_,rfl,u,N,_,rfl,M,rfl,_,rfl,u,la,sa,ls,cs,R,S,d,rfl,J,hR,X,λl H1 g T B a1 r C c=>?_⟩;have o:g.length=T.length:=C.length;have Y:g.length<=R.length:=Fm.zD (c.ord.imp λ{x y} e z=>by rw[z,Stree.zQ]at e;cases e) λx W=>((c.mem x).mp W).1;refine⟨l,rfl,⟨_,SqL.of r⟩,λD t=>?_⟩;refine aJ0 (λ_=>true) (λm=>V.int (g.getD m 0:Nat)) (SqL.of r) t (zn (by omega)) (λj v G H' U L b=>b) (λj v G _ H' U L b=>?_) ?_
 ·obtain⟨k,hk,p,O,I⟩:=aYa C G;subst O;have:g.getD j 0=k:=by simp[bKC,hk]
  rw[this]at b;exact⟨_,rfl,p,_,1,_,rfl,rfl,SqT.of ((L p (yE I t)).trans I),rfl,b⟩
 ·have e:=aXq g (λ_=>true) λi=>V.int (i:Nat);rw[o]at e;rw[e,bYY.mpr λ_ _=>rfl];exact q D _ g (B.trans (yI t _)) (B.fresh t) yB c
theorem aVG:yJ ["self","day"] ["self","day"] (yD qD):=scM
theorem aJ1:y9 ["self","day"] (yD qD) "pair" ["day"] [1] (lsN [(".0",.local),("pair",.local),("day",.free)]):=
 lcM
theorem aVk(cl:Cl K CB CL)(g:MG P w K mg base CX0 n CB "waiting_pairs" ["self","day"] (aZR CB CL))(F:Fun K "overdue" "Book.overdue" qD f fd):y0 P w K mg base CX0 (n+1) f fd ["self","day"] (bVv CB CL true):=by
 have sc:=aVG;refine F.ok (k:=n) sc (λa1 A outer s H vs Q E hr h=>?_);obtain⟨O,la,sa,ls,cs,R,S,d,rfl,U,hR,hS,q⟩:=h;refine⟨_,(yG (yP (J8 aJ1 rfl (xB (wN g hr vB (pv 0) (yA (pv 1) yF))) (λ_ _ _ _ _=>(uQ (yU qY (yN ixT (pv 0) yK) (pv 1)))) (λ_ _ _ _ _=>(yN ixT (pv 0) yK))))),?_⟩;obtain⟨X,W⟩:=U.book;refine⟨_,rfl,O,X,_,rfl,W,rfl,_,rfl,O,la,sa,ls,cs,R,S,d,rfl,U,hR,hS,λl H1 t Y T a2 G L r=>?_⟩;have B:t.length=Y.length:=L.length;have a0:t.length<=R.length:=Fm.zD (r.ord.imp λ{x y} e z=>by rw[z,Stree.zQ]at e;cases e) λx hx=>((r.mem x).mp hx).1;refine⟨l,rfl,⟨_,SqL.of G⟩,λD u=>?_⟩;refine aJ0 (λm=>decide (vW R S (t.getD m 0)<d)) (λm=>V.int (t.getD m 0:Nat)) (SqL.of G) u (zn (by omega)) (λj v M H' Z N o=>?_) (λj v M _ H' Z N o=>?_) ?_
 ·obtain⟨k,J,p,I,C⟩:=aYa L M;subst I;have:t.getD j 0=k:=by simp[bKC,J]
  rw[this]at o;exact⟨_,rfl,p,_,0,_,rfl,rfl,SqT.of ((N p (yE C u)).trans C),rfl,_,rfl,_,_,rfl,rfl,_,rfl,o⟩
 ·obtain⟨k,J,p,I,C⟩:=aYa L M;subst I;have:t.getD j 0=k:=by simp[bKC,J]
  rw[this]at o;exact⟨_,rfl,p,_,1,_,rfl,rfl,SqT.of ((N p (yE C u)).trans C),rfl,o⟩
 ·have e:=aXq t (λk=>decide (vW R S k<d)) λi=>V.int (i:Nat);rw[B]at e;rw[e];refine q D _ (t.filter λk=>decide (vW R S k<d)) (T.trans (yI u _)) (T.fresh u) yB ⟨λk=>?_,r.ord.sublist bYZ⟩;rw[bKA,r.mem k,decide_eq_true_eq];unfold vW;constructor
  ·rintro⟨⟨a,b,_⟩,c⟩;exact⟨a,b,λ_=>c⟩
  ·rintro⟨a,b,c⟩;exact⟨⟨a,b,λz=>by cases z⟩,c rfl⟩
end
end Desk
namespace Desk
open PySem L2 PyProof.Rows
open Bk (Row Rows)
def own(la sa:Nat)(ls cs:List Nat):List Nat:=la::sa::(ls++cs)
def u4(o:List Nat)(H a:Hp):Prop:=∀b u,b∉o->(∀c,u≠ .tbl c)->H b=some u->a b=some u
theorem u4.of{o:List Nat}{H a:Hp}(k:xO H a):u4 o H a:=λb u _ n e=>k b u n e
theorem u4.trans{o:List Nat}{H f d:Hp}(a:u4 o H f)(b:u4 o f d):u4 o H d:=λc u n t e=>b c u n t (a c u n t e)
theorem u4.upd{o:List Nat}{H:Hp}{b:Nat}(a:b∈o)(u:HO):u4 o H (upd H b u):=λc v n _ e=>by
 rw[yH (λz=>n (by rw[z];exact a))];exact e
theorem aJh{la sa:Nat}{ls cs:List Nat}:la∈own la sa ls cs:=bWV
theorem aW1{la sa:Nat}{ls cs:List Nat}:sa∈own la sa ls cs:=bWR _ bWV
theorem aZv{la sa b:Nat}{ls cs:List Nat}(h:b∈ls):b∈own la sa ls cs:=bWR _ (bWR _ (bYO _ h))
theorem bZt{la sa b:Nat}{ls cs:List Nat}(h:b∈cs):b∈own la sa ls cs:=bWR _ (bWR _ (bW5 _ h))
section
variable {CB CL:Nat}{H:Hp}{ba la sa:Nat}{ls cs:List Nat}{R:Rows}{S:List Int}
theorem PB.l_ne(h:PB CB CL H ba la sa ls cs R S){b a:Nat}{xs:List V}(j:b∈ls)(d:H a=some (.lst xs)):a≠b:=λz=>by
 obtain⟨i,f,e⟩:=bKM j;obtain⟨p,n,o,c,m,⟨k,g⟩,l⟩:=h.get (bWF (show i<R.length by rw[<- h.len];exact f));rw[bWF f,e]at c;cases c;rw[z,g]at d;cases d
theorem PB.ba_ne(h:PB CB CL H ba la sa ls cs R S):ba∉ls:=λz=>by
 obtain⟨i,c,e⟩:=bKM z;obtain⟨n,l,m,a,k,⟨g,d⟩,j⟩:=h.get (bWF (show i<R.length by rw[<- h.len];exact c));rw[bWF c,e]at a;cases a;obtain⟨f,b⟩:=h.book;rw[d]at b;cases b
theorem PB.set(h:PB CB CL H ba la sa ls cs R S){k:Nat}{b c dx:Nat}{r:Row}(l:ls[k]? =some b)(u:cs[k]? =some c)(t:R[k]? =some r)(f:Row->Row)(w:(f r).copies=r.copies): PB CB CL (upd H b (.ins CL dx (aXv k (f r) c))) ba la sa ls cs (Bk.xD R k f) S:=by
 have a:=bW1 l;refine⟨?_,?_,?_,by rw[Bk.xS];exact h.len,by rw[Bk.xS];exact h.clen,h.nd,h.cnd,h.las,h.lac,h.sac,λi s y x m p g=>?_⟩
 ·obtain⟨d,e⟩:=h.book;exact⟨d,by rw[yH (λz=>h.ba_ne (by rw[z];exact a))];exact e⟩
 ·rw[yH (h.l_ne a h.lst)];exact h.lst
 ·rw[yH (h.l_ne a h.sht)];exact h.sht
 ·rw[Bk.xN]at g;by_cases e:i=k
  ·subst e;rw[if_pos rfl,t]at g;cases g;rw[l]at m;cases m;rw[u]at p;cases p;obtain⟨_,j⟩:=h.row i b c r l u t;refine⟨⟨dx,yB⟩,?_⟩;rw[yH (h.l_ne a j),w];exact j
  ·rw[if_neg e]at g;obtain⟨⟨d,B⟩,j⟩:=h.row i s y x m p g;have o:s≠b:=λz=>by
    subst z;obtain⟨v,q⟩:=bWP.mp m;obtain⟨A,n⟩:=bWP.mp l;exact e ((bYo h.nd).mp (q.trans n.symm))
   exact⟨⟨d,by rw[yH o];exact B⟩,by rw[yH (h.l_ne a j)];exact j⟩
theorem PB.copy(h:PB CB CL H ba la sa ls cs R S){k:Nat}{c:Nat}{r:Row}(j:cs[k]? =some c)(s:R[k]? =some r)(who:Str): PB CB CL (upd H c (.lst ((r.copies++ [who]).map V.str))) ba la sa ls cs (Bk.xD R k λr=>{r with copies:=r.copies++ [who] }) S:=by
 have f:=bW1 j;obtain⟨F,I,G,K,t,⟨y,J⟩,B⟩:=h.get s;rw[j]at t;cases t;have p:∀ {a C dx fs},H a=some (.ins C dx fs)->a≠c:=λq z=>by rw[z,B]at q;cases q
 refine⟨?_,?_,?_,by rw[Bk.xS];exact h.len,by rw[Bk.xS];exact h.clen,h.nd,h.cnd,h.las,h.lac,h.sac,λi v w D u l d=>?_⟩
 ·obtain⟨b,e⟩:=h.book;exact⟨b,by rw[yH (p e)];exact e⟩
 ·rw[yH (λz=>h.lac (by rw[z];exact f))];exact h.lst
 ·rw[yH (λz=>h.sac (by rw[z];exact f))];exact h.sht
 ·rw[Bk.xN]at d;by_cases e:i=k
  ·subst e;rw[if_pos rfl,s]at d;cases d;rw[j]at l;cases l;obtain⟨⟨b,g⟩,x⟩:=h.row i v c r u j s;exact⟨⟨b,by rw[yH (p g)];exact g⟩,yB⟩
  ·rw[if_neg e]at d;obtain⟨⟨b,g⟩,x⟩:=h.row i v w D u l d;have o:w≠c:=λz=>by
    subst z;obtain⟨A,n⟩:=bWP.mp l;obtain⟨E,m⟩:=bWP.mp j;exact e ((bYo h.cnd).mp (n.trans m.symm))
   exact⟨⟨b,by rw[yH (p g)];exact g⟩,by rw[yH o];exact x⟩
theorem PB.shutD(h:PB CB CL H ba la sa ls cs R S)(d:Int):PB CB CL (upd H sa (.lst ((S++ [d]).map V.int))) ba la sa ls cs R (S++ [d]):=by
 have f:∀ {a C dx fs},H a=some (.ins C dx fs)->a≠sa:=λq z=>by rw[z,h.sht]at q;cases q
 refine⟨?_,?_,yB,h.len,h.clen,h.nd,h.cnd,h.las,h.lac,h.sac,λi m k l j g n=>?_⟩
 ·obtain⟨b,e⟩:=h.book;exact⟨b,by rw[yH (f e)];exact e⟩
 ·rw[yH h.las];exact h.lst
 ·obtain⟨⟨b,c⟩,o⟩:=h.row i m k l j g n;exact⟨⟨b,by rw[yH (f c)];exact c⟩,by rw[yH (λz=>h.sac (by rw[<- z];exact bW1 g))];exact o⟩
theorem PB.enter(h:PB CB CL H ba la sa ls cs R S){l c dx:Nat}{r:Row}{t:Hp}(hl:H l=none)(g:H c=none)(K:l≠c)(N:r.copies= [])(I:t l=some (.ins CL dx (aXv R.length r c)))(O:t c=some (.lst [])) (k:∀b o,H b=some o->t b=some o):PB CB CL (upd t la (.lst ((ls++ [l]).map V.ref))) ba la sa (ls++ [l]) (cs++ [c]) (R++ [r]) S:=by
 have y:l≠la:=λz=>by rw[z,h.lst]at hl;cases hl
 have n:c≠la:=λz=>by rw[z,h.lst]at g;cases g
 have G:∀ {a C dx fs},H a=some (.ins C dx fs)->a≠la:=λq z=>by rw[z,h.lst]at q;cases q
 have J:∀i b,ls[i]? =some b->i<R.length:=λi b q=>by rw[<- h.len];exact(bWP.mp q).1
 have nl:l∉ls:=λz=>by obtain⟨i,f,e⟩:=bKM z;obtain⟨A,D,u,p,B,⟨d,F⟩,E⟩:=h.get (bWF (show i<R.length by rw[<- h.len];exact f));rw[bWF f,e]at p;cases p;rw[F]at hl;cases hl
 have M:c∉cs:=λz=>by obtain⟨i,f,e⟩:=bKM z;obtain⟨A,D,u,p,B,F,E⟩:=h.get (bWF (show i<R.length by rw[<- h.clen];exact f));rw[bWF f,e]at B;cases B;rw[E]at g;cases g
 refine⟨?_,yB,?_,by simp[h.len],by simp[h.clen],?_,?_,h.las,?_,?_,λi A D L s m j=>?_⟩
 ·obtain⟨d,e⟩:=h.book;exact⟨d,by rw[yH (G e)];exact k _ _ e⟩
 ·rw[yH (bKl h.las)];exact k _ _ h.sht
 ·exact cXe.mpr ⟨h.nd,bYn _ _,λa w b v z=>nl (by rw[<- bW8.mp v,<- z];exact w)⟩
 ·exact cXe.mpr ⟨h.cnd,bYn _ _,λa w b v z=>M (by rw[<- bW8.mp v,<- z];exact w)⟩
 ·intro z;rcases bKn.mp z with z|z
  ·exact h.lac z
  ·exact n (bW8.mp z).symm
 ·intro z;rcases bKn.mp z with z|z
  ·exact h.sac z
  ·rw[<- bW8.mp z,h.sht]at g;cases g
 ·by_cases f:i<R.length
  ·rw[bW7 (by rw[h.len];exact f)]at s;rw[bW7 (by rw[h.clen];exact f)]at m;rw[bW7 f]at j;obtain⟨⟨d,u⟩,p⟩:=h.row i A D L s m j;exact⟨⟨d,by rw[yH (G u)];exact k _ _ u⟩,by rw[yH (λz=>h.lac (by rw[<- z];exact bW1 m))];exact k _ _ p⟩
  ·have x:i=R.length:=by
    have:=(bWP.mp j).1;simp at this;omega
   subst x;rw[bW0 (by rw[h.len];exact bWN _),h.len,bK7]at s;rw[bW0 (by rw[h.clen];exact bWN _),h.clen,bK7]at m;rw[bW0 (bWN _),bK7]at j;cases s;cases m;cases j;exact⟨⟨dx,by rw[yH y];exact I⟩,by rw[yH n,O,N];rfl⟩
end
inductive aKO(CB:Nat)(vs:List V)(H:Hp)(Q:VK)(_:XK):Prop|mk (x dx:Nat) (_:vs= [.ref x]) (_:H x=some (.ins CB dx [])) (_:∀ (la sa:Nat)(H':Hp),H la=none->H sa=none->la≠sa->H' x=some (.ins CB dx [("letters",.ref la),("shut",.ref sa)])->H' la=some (.lst [])->H' sa=some (.lst [])->(∀b,b≠x->b≠la->b≠sa->H' b=H b)->Q .non H')
inductive bZX(CB CL:Nat)(vs:List V)(H:Hp)(Q:VK)(_:XK):Prop|mk (ba la sa:Nat) (ls cs:List Nat) (R:Rows) (S:List Int) (way:Str) (d:Int) (who:Str) (t:Int) (_:vs= [.ref ba,.str way,.int d,.str who,.int t]) (_:PB CB CL H ba la sa ls cs R S) (_:R.length<=1000) (_:∀ (l c:Nat)(H':Hp),H l=none->H c=none->PB CB CL H' ba la sa (ls++ [l]) (cs++ [c]) (R++ [⟨way,d,who,t,none,"",false,[]⟩]) S->(∀b o,b≠la->H b=some o->H' b=some o)->Q (.ref l) H')
inductive aQX(K:bWI)(Rf:Nat×Nat)(vs:List V)(H:Hp)(Q:VK)(E:XK):Prop|mk (t:Int) (_:vs= [.int t]) (_:(0<=t->Q .non H)) (_:(t<0->yX K Rf H E "no term"))
inductive aQW(K:bWI)(Rf:Nat×Nat)(vs:List V)(H:Hp)(Q:VK)(E:XK):Prop|mk (a b:Int) (_:vs= [.int a,.int b]) (_:(a<=b->Q .non H)) (_:(b<a->yX K Rf H E "too early"))
section
variable {K:bWI}
abbrev aKg:Stmt:=yW "Book" "__init__"
abbrev bVP:Stmt:=yW "Book" "add_letter"
abbrev aKt:Stmt:=y7 "check_term"
abbrev aKj:Stmt:=y7 "check_days"
theorem bQm:yJ ["self"] ["self"] (yD aKg):=scM
theorem aYS(cl:Cl K CB CL)(F:Fun K "__init__" "Book.__init__" aKg f fd):y0 P w K mg base CX0 (n+1) f fd ["self"] (aKO CB):=by
 have t:=bQm;refine F.ok (k:=n) t (λr A outer s H v Q E u h=>?_);obtain⟨x,j,rfl,l,q⟩:=h;refine⟨_,(yC (x4 (pv 0) (xR yF) rfl) (yG (x4 (pv 0) (xR yF) rfl))),?_⟩;refine⟨z0,λla g=>?_⟩;have c:x≠la:=yE l g;refine⟨_,rfl,x,CB,j,_,rfl,(yH c).trans l,cl.b,cl.letters,(show 0<1000 by decide),?_⟩;refine⟨z0,λsa a=>?_⟩;have e:x≠sa:=yE yB a;have d:la≠sa:=λz=>by rw[<- z,yH (bKl c),yB]at a;cases a
 refine⟨_,rfl,x,CB,j,_,rfl,(yH e).trans yB,cl.b,cl.shut,(show 1<1000 by decide),?_⟩;have i:H sa=none:=by rw[yH (bKl e),yH (bKl d)]at a;exact a
 refine q la sa _ g i d yB ?_ ?_ λb m p o=>?_
 ·rw[yH (bKl c),yH d,yH (bKl c),yB]
 ·rw[yH (bKl e),yB]
 ·rw[yH m,yH o,yH m,yH p]
theorem bJ3:yJ ["self","way","day","partner","term","letter"] ["self","way","day","partner","term"] (yD bVP):=scM
theorem bJC(T:vD mg)(cl:Cl K CB CL)(a:MkG P w K mg base n "Letter" CL ["self","number","way","day","partner","term"] (aKS CL))(F:Fun K "add_letter" "Book.add_letter" bVP f fd): y0 P w K mg base CX0 (n+2) f fd ["self","way","day","partner","term"] (bZX CB CL):=by
 have sc:=bJ3;refine F.ok (k:=n+1) sc (λY A outer s H vs Q E Z h=>?_);obtain⟨ba,la,sa,ls,cs,R,S,v,d,G,t,rfl,l,hR,q⟩:=h;refine⟨_,(yC (yO (i:=5) (bVM a Z rfl (yA (yT yM rfl T.b_len xU (yA (yR (pv 0) rfl) yF)) (yA (pv 1) (yA (pv 2) (yA (pv 3) (yA (pv 4) yF))))))) (yC (yQ (vJ bKj bKp bKq y8 (yR (pv 0) rfl) (yA (pv 5) yF))) (yG (yP (pv 5))))),?_⟩;obtain⟨J,I⟩:=l.book;have hl:(ls.map V.ref).length=R.length:=by rw[bWK];exact l.len
 refine⟨_,rfl,ba,CB,J,_,_,rfl,I,cl.b,cl.letters,rfl,la,_,rfl,.inl (SqL.of l.lst),?_⟩;rw[hl];refine⟨_,rfl,_,rfl,_,rfl,_,rfl,λx xd C y B=>?_⟩;refine⟨x,xd,R.length,v,d,G,t,rfl,yB,λc W j X U O=>⟨rfl,?_⟩⟩;dsimp only[yS];have r:c≠x:=λz=>by rw[z,yB]at j;cases j
 have u:c≠xd:=λz=>by rw[z,yH B,yB]at j;cases j
 have g:H c=none:=by rw[yH r,yH u]at j;exact j
 have p:∀b o,H b=some o->W b=some o:=λb o e=>by have L:=yE e C;have M:=yE e g;have N:=yE e y;rw[O b L M,yH L,yH N];exact e
 refine⟨_,rfl,ba,CB,J,_,_,rfl,p _ _ I,cl.b,cl.letters,rfl,.inl ⟨rfl,_,SqL.of (p _ _ l.lst)⟩,_,rfl,la,_,_,rfl,rfl,p _ _ l.lst,zlt (by omega),?_⟩;refine⟨_,rfl,?_⟩;have m:=l.enter C g (bKl r) rfl X U p;rw[bKR]at m;refine q x c _ C g m λb o D e=>?_;rw[yH D];exact p b o e
theorem bQy:yJ ["term"] ["term"] (yD aKt):=scM
theorem aY4(a:ExG P w K mg base n "NoTerm" Rf.1 C1 "no term")(F:Fun K "check_term" "check_term" aKt f fd):y0 P w K mg base (CXR P w) (n+2) f fd ["term"] (aQX K Rf):=by
 have e:=bQy;refine F.okX (k:=n+1) e (λd A outer s H i Q E g h=>?_);obtain⟨t,rfl,q,b⟩:=h;refine⟨_,(yG (zC (yU qY (pv 0) yK) (yG (zH a g rfl)) yY)),?_⟩;refine⟨_,rfl,_,_,rfl,rfl,_,rfl,?_⟩;refine aJW (λc=>?_) (λc=>?_)
 ·exact(b (of_decide_eq_true c)).raise a
 ·exact q (by have:=of_decide_eq_false (Bool.eq_false_iff.mpr c);omega)
theorem bQp:yJ ["asked_day","reply_day"] ["asked_day","reply_day"] (yD aKj):=scM
theorem aYV(d:ExG P w K mg base n "TooEarly" Rf.1 C1 "too early")(F:Fun K "check_days" "check_days" aKj f fd):y0 P w K mg base (CXR P w) (n+2) f fd ["asked_day","reply_day"] (aQW K Rf):=by
 have j:=bQp;refine F.okX (k:=n+1) j (λg A outer s H l Q E i h=>?_);obtain⟨a,b,rfl,q,e⟩:=h;refine⟨_,(yG (zC (yU qY (pv 1) (pv 0)) (yG (zH d i rfl)) yY)),?_⟩;refine⟨_,rfl,_,rfl,_,_,rfl,rfl,_,rfl,?_⟩;refine aJW (λc=>?_) (λc=>?_)
 ·exact(e (of_decide_eq_true c)).raise d
 ·exact q (by have:=of_decide_eq_false (Bool.eq_false_iff.mpr c);omega)
end
end Desk
namespace Desk
open PySem L2 PyProof.Rows
open Bk (Row Rows)
def wE(o:List Nat)(H a:Hp):Prop:=∀b u,b∉o->H b=some u->a b=some u
theorem wE.of{o:List Nat}{H a:Hp}(k:xV H a):wE o H a:=λb u _ e=>k b u e
theorem wE.trans{o:List Nat}{H f d:Hp}(a:wE o H f)(b:wE o f d):wE o H d:=λc u n e=>b c u n (a c u n e)
theorem wE.upd{o:List Nat}{H:Hp}{b:Nat}(a:b∈o)(u:HO):wE o H (upd H b u):=λc v n e=>by
 rw[yH (λz=>n (by rw[z];exact a))];exact e
theorem wE.t{o:List Nat}{H a:Hp}(k:wE o H a):u4 o H a:=λb u n _ e=>k b u n e
def uE(H:Hp)(o a:List Nat):Prop:=∀b∈a,b∈o\/H b=none
theorem uE.refl{H:Hp}{o:List Nat}:uE H o o:=λb h=> .inl h
theorem uE.snoc{H:Hp}{la sa l c:Nat}{ls cs:List Nat}(hl:H l=none)(a:H c=none):uE H (own la sa ls cs) (own la sa (ls++ [l]) (cs++ [c])):=λb h=>by
 rcases bWU.mp h with e|h
 ·exact .inl (by rw[e];exact aJh)
 rcases bWU.mp h with e|h
 ·exact .inl (by rw[e];exact aW1)
 rcases bKn.mp h with h|h
 ·rcases bKn.mp h with h|h
  ·exact .inl (aZv h)
  ·exact .inr (by rw[bW8.mp h];exact hl)
 ·rcases bKn.mp h with h|h
  ·exact .inl (bZt h)
  ·exact .inr (by rw[bW8.mp h];exact a)
def aQ2(d CL g la sa:Nat)(ls cs:List Nat)(H:Hp)(e:Rows)(f:List Int)(q:Hp->Prop):Prop:=∀ (c:Hp)(b a:List Nat),PB d CL c g la sa b a e f->wE (own la sa ls cs) H c->uE H (own la sa ls cs) (own la sa b a)->q c
def bJy(i:Nat)(r:Row)(c:Nat)(t:Int):List (Str×V):=
 [("number",.int (i:Nat)),("way",.str r.way),("day",.int r.date),("partner",.str r.partner),("term",.int t),("link",xW r.link),("file",W7 r),("copies",.ref c),("void",.bl r.void)]
inductive aKR(K:bWI)(Rf:Nat×Nat)(CB CL:Nat)(vs:List V)(H:Hp)(Q:VK)(E:XK):Prop|mk (ba la sa:Nat) (ls cs:List Nat) (R:Rows) (S:List Int) (way:Str) (d:Int) (who:Str) (t:Int) (_:vs= [.ref ba,.str way,.int d,.str who,.int t]) (_:PB CB CL H ba la sa ls cs R S) (_:R.length<=1000) (_:(0<=t->aQ2 CB CL ba la sa ls cs H (R++ [⟨way,d,who,t,none,"",false,[]⟩]) S (Q (.int (R.length:Nat))))) (_:(t<0->yX K Rf H E "no term"))
inductive aKW(K:bWI)(Rf:Nat×Nat)(CB CL:Nat)(vs:List V)(H:Hp)(Q:VK)(E:XK):Prop|mk (ba la sa:Nat) (ls cs:List Nat) (R:Rows) (S:List Int) (m d t:Int) (_:vs= [.ref ba,.int m,.int d,.int t]) (_:PB CB CL H ba la sa ls cs R S) (_:R.length<=1000) (_:(Bk.vP R m=false->yX K Rf H E "no letter")) (_:(Bk.vP R m=true->t<0->yX K Rf H E "no term")) (_:∀ (k:Nat)(r:Row),m=(k:Int)->R[k]? =some r->r.void=false->0<=t->(d<r.date->yX K Rf H E "too early")/\(r.date<=d->aQ2 CB CL ba la sa ls cs H (R++ [⟨Bk.wM r.way,d,r.partner,t,some k,r.place,false,[]⟩]) S (Q (.int (R.length:Nat)))))
inductive aJy(K:bWI)(Rf:Nat×Nat)(CB CL:Nat)(vs:List V)(H:Hp)(Q:VK)(E:XK):Prop|mk (ba la sa:Nat) (ls cs:List Nat) (R:Rows) (S:List Int) (m:Int) (_:vs= [.ref ba,.int m]) (_:PB CB CL H ba la sa ls cs R S) (_:(Bk.vP R m=false->yX K Rf H E "no letter")) (_:∀ (k:Nat)(r:Row),m=(k:Int)->R[k]? =some r->r.void=false->(r.link=none->yX K Rf H E "has none")/\(r.link≠none->aQ2 CB CL ba la sa ls cs H (Bk.xD R k λr=>{r with link:=none}) S (Q .non)))
inductive aXY(K:bWI)(Rf:Nat×Nat)(CB CL:Nat)(vs:List V)(H:Hp)(Q:VK)(E:XK):Prop|mk (ba la sa:Nat) (ls cs:List Nat) (R:Rows) (S:List Int) (m t:Int) (_:vs= [.ref ba,.int m,.int t]) (_:PB CB CL H ba la sa ls cs R S) (_:(Bk.vP R m=false->yX K Rf H E "no letter")) (_:∀ (k:Nat)(r:Row),m=(k:Int)->R[k]? =some r->r.void=false->(t<0->yX K Rf H E "no term")/\(0<=t->aQ2 CB CL ba la sa ls cs H (Bk.xD R k λr=>{r with term:=t}) S (Q .non)))
inductive bXt(K:bWI)(Rf:Nat×Nat)(CB CL:Nat)(vs:List V)(H:Hp)(Q:VK)(E:XK):Prop|mk (ba la sa:Nat) (ls cs:List Nat) (R:Rows) (S:List Int) (m:Int) (who:Str) (_:vs= [.ref ba,.int m,.str who]) (_:PB CB CL H ba la sa ls cs R S) (_:(∀r∈R,r.copies.length<=1000)) (_:(Bk.vP R m=false->yX K Rf H E "no letter")) (_:∀ (k:Nat)(r:Row),m=(k:Int)->R[k]? =some r->r.void=false->(who=r.partner\/who∈r.copies->yX K Rf H E "copied")/\(who≠r.partner->who∉r.copies->aQ2 CB CL ba la sa ls cs H (Bk.xD R k λr=>{r with copies:=r.copies++ [who] }) S (Q (.int ((r.copies.length:Nat)+1)))))
inductive aJt(K:bWI)(Rf:Nat×Nat)(CB CL:Nat)(vs:List V)(H:Hp)(Q:VK)(E:XK):Prop|mk (ba la sa:Nat) (ls cs:List Nat) (R:Rows) (S:List Int) (m:Int) (_:vs= [.ref ba,.int m]) (_:PB CB CL H ba la sa ls cs R S) (_:R.length<=100) (_:(Bk.vP R m=false->yX K Rf H E "no letter")) (_:∀ (k:Nat)(r:Row),m=(k:Int)->R[k]? =some r->r.void=false->(Bk.zU R k≠ []->yX K Rf H E "answered")/\(Bk.zU R k= []->aQ2 CB CL ba la sa ls cs H (Bk.xD R k λr=>{r with link:=none,void:=true}) S (Q .non)))
inductive bXu(K:bWI)(Rf:Nat×Nat)(CB CL:Nat)(vs:List V)(H:Hp)(Q:VK)(E:XK):Prop|mk (ba la sa:Nat) (ls cs:List Nat) (R:Rows) (S:List Int) (d:Int) (_:vs= [.ref ba,.int d]) (_:PB CB CL H ba la sa ls cs R S) (_:S.length<=1000) (_:(Dm.cts S d=false->yX K Rf H E "counts not")) (_:(Dm.cts S d=true->aQ2 CB CL ba la sa ls cs H R (S++ [d]) (Q .non)))
inductive aJz(K:bWI)(Rf:Nat×Nat)(CB CL:Nat)(vs:List V)(H:Hp)(Q:VK)(E:XK):Prop|mk (ba la sa:Nat) (ls cs:List Nat) (R:Rows) (S:List Int) (m d:Int) (_:vs= [.ref ba,.int m,.int d]) (_:PB CB CL H ba la sa ls cs R S) (_:R.length<=100) (_:Bk.Q5 R) (_:(Bk.vP R m=false->yX K Rf H E "no letter")) (_:∀ (k:Nat)(r:Row),m=(k:Int)->R[k]? =some r->r.void=false->(((∃j,r.link=some j/\d<Bk.dt R j)\/∃c∈Bk.zU R k,Bk.dt R c<d)->yX K Rf H E "too early")/\((∀j,r.link=some j->Bk.dt R j<=d)->(∀c∈Bk.zU R k,d<=Bk.dt R c)->aQ2 CB CL ba la sa ls cs H (Bk.xD R k λr=>{r with date:=d}) S (Q .non)))
theorem aVK(R:Rows)(r:Row)(f:Row->Row):Bk.xD (R++ [r]) R.length f=R++ [f r]:=by
 apply bYU;intro i;rw[Bk.xN];by_cases e:i=R.length
 ·subst e;rw[if_pos rfl,bW0 (bWN _),bW0 (bWN _),bK7];rfl
 ·rw[if_neg e];by_cases h:i<R.length
  ·rw[bW7 h,bW7 h]
  ·rw[bKf (by simp;omega),bKf (by simp;omega)]
section
variable {K:bWI}
abbrev aKl:Stmt:=yW "Book" "enter"
abbrev aKr:Stmt:=yW "Book" "reply"
abbrev aZE:Stmt:=yW "Book" "loosen"
abbrev aQM:Stmt:=yW "Book" "put_term"
abbrev bZI:Stmt:=yW "Book" "send_copy"
abbrev aZC:Stmt:=yW "Book" "cancel"
abbrev bZJ:Stmt:=yW "Book" "shut_day"
abbrev aZF:Stmt:=yW "Book" "put_day"
theorem bQr:yJ ["self","way","day","partner","term"] ["self","way","day","partner","term"] (yD aKl):=scM
theorem aYX(cl:Cl K CB CL)(g:FnX P w K mg base n "check_term" ["term"] (aQX K Rf))(a:MG P w K mg base CX0 n CB "add_letter" ["self","way","day","partner","term"] (bZX CB CL)) (F:Fun K "enter" "Book.enter" aKl f fd):y0 P w K mg base (CXR P w) (n+1) f fd ["self","way","day","partner","term"] (aKR K Rf CB CL):=by
 have V:=bQr;refine F.okX (k:=n) V (λN A outer s H X Q E y h=>?_);obtain⟨r,M,W,v,x,R,S,m,d,p,t,rfl,j,hR,q,J⟩:=h;refine⟨_,(yC (yQ (Y1 g y rfl (yA (pv 4) yF))) (yG (yP (yR (wN a y vB (pv 0) (yA (pv 1) (yA (pv 2) (yA (pv 3) (yA (pv 4) yF))))) rfl)))),?_⟩;obtain⟨C,B⟩:=j.book;refine⟨_,rfl,t,rfl,λO=>?_,J⟩;refine⟨_,rfl,r,C,_,rfl,B,rfl,_,rfl,_,rfl,_,rfl,_,rfl,r,M,W,v,x,R,S,m,d,p,t,rfl,j,hR,λl c G hl U i I=>?_⟩;have L:(v++ [l])[R.length]? =some l:=by rw[<- j.len,bW0 (bWN _),bK7];rfl
 have D:(x++ [c])[R.length]? =some c:=by rw[<- j.clen,bW0 (bWN _),bK7];rfl
 obtain⟨⟨o,T⟩,Y⟩:=i.row R.length l c _ L D (by rw[bW0 (bWN _),bK7];rfl);exact⟨l,CL,o,_,_,rfl,T,cl.l,cl.number,rfl,q O G _ _ i (λb u n e=>I b u (λz=>n (by rw[z];exact aJh)) e) (uE.snoc hl U)⟩
theorem bQw:yJ ["self","number","day","term","asked","letter"] ["self","number","day","term"] (yD aKr):=scM
theorem uJ{R:Rows}{k:Nat}{r:Row}(a:R[k]? =some r)(b:r.void=false):Bk.vP R (k:Int)=true:=by rw[aXm a,b];rfl
theorem aQo{r:Row}(a:r.void=false):W7 r= .str r.place:=by unfold W7;rw[a];rfl
theorem bQM{r:Row}(a:r.void=false):Q3 r=r.term:=by unfold Q3;rw[a];rfl
theorem aY2(cl:Cl K CB CL)(p:MG P w K mg base (CXR P w) n CB "letter_at" ["self","number"] (aJs K Rf CB CL))(a:FnX P w K mg base n "check_term" ["term"] (aQX K Rf)) (j:FnX P w K mg base n "check_days" ["asked_day","reply_day"] (aQW K Rf)) (o:FnG P w K mg base n "other_way" ["way"] aKU) (g:MG P w K mg base CX0 n CB "add_letter" ["self","way","day","partner","term"] (bZX CB CL)) (F:Fun K "reply" "Book.reply" aKr f fd):y0 P w K mg base (CXR P w) (n+1) f fd ["self","number","day","term"] (aKW K Rf CB CL):=by
 have sc:=bQw;refine F.okX (k:=n) sc (λa0 A outer s H vs Q E D h=>?_);obtain⟨I,W,sa,J,L,R,S,m,d,t,rfl,B,hR,q1,q2,q3⟩:=h;refine⟨_,(yC (yO (i:=4) (wN p D zB (pv 0) (yA (pv 1) yF))) (yC (yQ (Y1 a D rfl (yA (pv 3) yF))) (yC (yQ (Y1 j D rfl (yA (yR (pv 4) rfl) (yA (pv 2) yF)))) (yC (yO (i:=5) (wN g D vB (pv 0) (yA (zE o D rfl (yA (yR (pv 4) rfl) yF)) (yA (pv 2) (yA (yR (pv 4) rfl) (yA (pv 3) yF)))))) (yC (x4 (pv 5) (pv 1) rfl) (yC (x4 (pv 5) (yR (pv 4) rfl) rfl) (yG (yP (yR (pv 5) rfl))))))))),?_⟩;obtain⟨T,hb⟩:=B.book;refine⟨_,rfl,I,T,_,rfl,hb,rfl,_,rfl,I,W,sa,J,L,R,S,m,rfl,B,λk r b em U N Z=>?_,q1⟩;subst em;obtain⟨Y,cc,g1,g2,g3,⟨v,y⟩,g5⟩:=B.get U;obtain rfl:b=Y:=bWX (Z.symm.trans g2);dsimp only[yS];refine⟨_,rfl,t,rfl,λO=>?_,λO=>q2 (uJ U N) O⟩;obtain⟨q4,q5⟩:=q3 k r rfl U N O;refine⟨_,rfl,b,CL,v,_,_,rfl,y,cl.l,cl.day,rfl,_,rfl,r.date,d,rfl,λhd=>?_,q4⟩;refine⟨_,rfl,I,T,_,rfl,hb,rfl,_,rfl,b,CL,v,_,_,rfl,y,cl.l,cl.way,rfl,r.way,rfl,_,rfl,_,rfl,b,CL,v,_,_,rfl,y,cl.l,cl.partner,rfl,_,rfl,I,W,sa,J,L,R,S,Bk.wM r.way,d,r.partner,t,rfl,B,hR,λl c H1 hl hc C k1=>?_⟩;dsimp only[yS];have h1:(J++ [l])[R.length]? =some l:=by rw[<- B.len,bW0 (bWN _),bK7];rfl
 have h2:(L++ [c])[R.length]? =some c:=by rw[<- B.clen,bW0 (bWN _),bK7];rfl
 have h3:(R++ [(⟨Bk.wM r.way,d,r.partner,t,none,"",false,[]⟩:Row)])[R.length]? =some ⟨Bk.wM r.way,d,r.partner,t,none,"",false,[]⟩:=by rw[bW0 (bWN _),bK7];rfl
 obtain⟨⟨q,f1⟩,f2⟩:=C.row R.length l c _ h1 h2 h3;refine⟨_,rfl,_,rfl,l,CL,q,_,rfl,f1,cl.l,cl.link,(show 9<1000 by decide),?_⟩;have M:b≠l:=yE y hl;have V:b≠W:=λz=>by rw[z,B.lst]at y;cases y
 have X:upd H1 l (.ins CL q (J9 "link" (.int (k:Nat)) (aXv R.length ⟨Bk.wM r.way,d,r.partner,t,none,"",false,[]⟩ c))) b=some (.ins CL v (aXv k r cc)):=(yH M).trans (k1 _ _ V y);refine⟨_,rfl,b,CL,v,_,_,rfl,X,cl.l,cl.file,rfl,_,rfl,l,CL,q,_,rfl,yB,cl.l,cl.file,(show 9<1000 by decide),?_⟩;rw[uD];refine⟨_,rfl,l,CL,q,_,_,rfl,yB,cl.l,cl.number,rfl,?_⟩;have G:=C.set (dx:=q) h1 h2 h3 (λx=>{x with link:=some k,place:=r.place}) rfl;rw[aVK]at G;have e9:J9 "file" (W7 r) (J9 "link" (.int (k:Nat)) (aXv R.length ⟨Bk.wM r.way,d,r.partner,t,none,"",false,[]⟩ c))=aXv R.length ⟨Bk.wM r.way,d,r.partner,t,some k,r.place,false,[]⟩ c:=by rw[aQo N];rfl
 refine q5 hd _ (J++ [l]) (L++ [c]) ?_ (λY u nb e=>?_) (uE.snoc hl hc)
 ·rw[e9];exact G
 ·rw[yH (λz=>by rw[z]at e;rw[hl]at e;cases e)];exact k1 Y u (λz=>nb (by rw[z];exact aJh)) e
theorem aKE:yJ ["self","number","letter"] ["self","number"] (yD aZE):=scM
theorem aWY(cl:Cl K CB CL)(c:MG P w K mg base (CXR P w) (n+1) CB "letter_at" ["self","number"] (aJs K Rf CB CL))(a:ExG P w K mg base n "HasNone" Rf.1 C1 "has none") (F:Fun K "loosen" "Book.loosen" aZE f fd):y0 P w K mg base (CXR P w) (n+2) f fd ["self","number"] (aJy K Rf CB CL):=by
 have U:=aKE;refine F.okX (k:=n+1) U (λJ A outer s H X Q E v h=>?_);obtain⟨t,C,V,D,G,R,S,m,rfl,g,T,z⟩:=h;refine⟨_,(yC (yO (i:=2) (wN c v zB (pv 0) (yA (pv 1) yF))) (yC (zC (yU bXf (yR (pv 2) rfl) wG) (yG (zH a v rfl)) yY) (yG (x4 (pv 2) wG rfl)))),?_⟩;obtain⟨y,x⟩:=g.book;refine⟨_,rfl,t,y,_,rfl,x,rfl,_,rfl,t,C,V,D,G,R,S,m,rfl,g,λk r b I o M q=>?_,T⟩;obtain⟨L,Z,Y,p,N,⟨e,u⟩,W⟩:=g.get o;obtain rfl:b=L:=bWX (q.symm.trans p);obtain⟨O,B⟩:=z k r I o M;dsimp only[yS];refine⟨_,rfl,b,CL,e,_,_,rfl,u,cl.l,cl.link,rfl,rfl,_,rfl,?_⟩;cases d:r.link with
 |none=>exact onT rfl ((O d).raise a)
 |some j=>refine onF rfl ⟨_,rfl,b,CL,e,_,rfl,u,cl.l,cl.link,(show 9<1000 by decide),?_⟩;exact B (by rw[d];simp) _ _ _ (g.set p N o (λr=>{r with link:=none}) rfl) (wE.upd (aZv (bW1 p)) _) uE.refl
theorem aVH:yJ ["self","number","term","letter"] ["self","number","term"] (yD aQM):=scM
theorem aVl(cl:Cl K CB CL)(c:MG P w K mg base (CXR P w) n CB "letter_at" ["self","number"] (aJs K Rf CB CL))(a:FnX P w K mg base n "check_term" ["term"] (aQX K Rf)) (F:Fun K "put_term" "Book.put_term" aQM f fd):y0 P w K mg base (CXR P w) (n+1) f fd ["self","number","term"] (aXY K Rf CB CL):=by
 have W:=aVH;refine F.okX (k:=n) W (λM A outer s H Z Q E v h=>?_);obtain⟨q,G,X,I,J,R,S,m,t,rfl,d,V,B⟩:=h;refine⟨_,(yC (yO (i:=3) (wN c v zB (pv 0) (yA (pv 1) yF))) (yC (yQ (Y1 a v rfl (yA (pv 2) yF))) (yG (x4 (pv 3) (pv 2) rfl)))),?_⟩;obtain⟨y,x⟩:=d.book;refine⟨_,rfl,q,y,_,rfl,x,rfl,_,rfl,q,G,X,I,J,R,S,m,rfl,d,λk r b L e u p=>?_,V⟩;obtain⟨N,o,g1,j,O,⟨g,C⟩,Y⟩:=d.get e;obtain rfl:b=N:=bWX (p.symm.trans j);obtain⟨U,D⟩:=B k r L e u;dsimp only[yS];refine⟨_,rfl,t,rfl,λT=>?_,U⟩;refine⟨_,rfl,_,rfl,b,CL,g,_,rfl,C,cl.l,cl.term,(show 9<1000 by decide),?_⟩;have z:J9 "term" (.int t) (aXv k r o)=aXv k {r with term:=t} o:=by show bJy k {r with term:=t} o t=_;unfold bJy aXv;rw[bQM (r:={r with term:=t}) u]
 rw[z];exact D T _ _ _ (d.set j O e (λr=>{r with term:=t}) rfl) (wE.upd (aZv (bW1 j)) _) uE.refl
theorem bZS:yJ ["self","number","person","letter"] ["self","number","person"] (yD bZI):=scM
theorem bZp(T:vD mg)(cl:Cl K CB CL)(e:MG P w K mg base (CXR P w) (n+1) CB "letter_at" ["self","number"] (aJs K Rf CB CL))(a:MG P w K mg base CX0 (n+1) CL "has_gone_to" ["self","person"] (bXp CL))(d:ExG P w K mg base n "Copied" Rf.1 C1 "copied") (F:Fun K "send_copy" "Book.send_copy" bZI f fd):y0 P w K mg base (CXR P w) (n+2) f fd ["self","number","person"] (bXt K Rf CB CL):=by
 have O:=bZS;refine F.okX (k:=n+1) O (λa0 A outer s H vs Q E x h=>?_);obtain⟨C,W,sa,X,Y,R,S,m,g,rfl,t,y,q1,M⟩:=h;refine⟨_,(yC (yO (i:=3) (wN e x zB (pv 0) (yA (pv 1) yF))) (yC (zC (wH (wN a x vB (pv 3) (yA (pv 2) yF))) (yG (zH d x rfl)) yY) (yC (yQ (vJ bKj bKp bKq y8 (yR (pv 3) rfl) (yA (pv 2) yF))) (yG (yP (yT yM rfl T.b_len xU (yA (yR (pv 3) rfl) yF))))))),?_⟩;obtain⟨J,I⟩:=t.book;refine⟨_,rfl,C,J,_,rfl,I,rfl,_,rfl,C,W,sa,X,Y,R,S,m,rfl,t,λk r b Z q hv B=>?_,q1⟩;obtain⟨b',u,g1,g2,G,⟨j,o⟩,p⟩:=t.get q;obtain rfl:b=b':=bWX (B.symm.trans g2);obtain⟨q3,U⟩:=M k r Z q hv;have D:=y r (bW1 q);dsimp only[yS];refine⟨_,rfl,b,j,_,rfl,o,rfl,_,rfl,b,k,r,u,g,rfl,⟨j,o⟩,p,_,rfl,?_⟩;refine aJW (λc=>?_) (λc=>?_)
 ·refine(q3 ?_).raise d;rw[Bool.or_eq_true,decide_eq_true_eq,bKW]at c;exact c
 ·rw[Bool.or_eq_true,decide_eq_true_eq,bKW,not_or]at c;have v:b≠u:=λz=>by rw[z,p]at o;cases o
  refine⟨_,rfl,b,CL,j,_,_,rfl,o,cl.l,cl.copies,rfl,.inl ⟨rfl,_,SqL.of p⟩,_,rfl,u,_,_,rfl,rfl,p,zlt (by rw[bWK];omega),?_⟩;refine⟨_,rfl,b,CL,j,_,_,rfl,(yH v).trans o,cl.l,cl.copies,rfl,u,_,rfl,.inl (SqL.of yB),?_⟩;have L:r.copies.map V.str++ [V.str g]=(r.copies++ [g]).map V.str:=by simp
  rw[L];have N:((r.copies++ [g]).map V.str).length=r.copies.length+1:=by simp
  rw[N];exact U c.1 c.2 _ _ _ (t.copy G q g) (wE.upd (bZt (bW1 G)) _) uE.refl
theorem aKz:yJ ["self","number","letter"] ["self","number"] (yD aZC):=scM
theorem aWT(T:vD mg)(cl:Cl K CB CL)(e:MG P w K mg base (CXR P w) (n+1) CB "letter_at" ["self","number"] (aJs K Rf CB CL))(d:MG P w K mg base CX0 (n+1) CB "answers_to" ["self","letter"] (aZQ CB CL))(g:MG P w K mg base CX0 (n+1) CL "make_void" ["self"] (bXv CL))(a:ExG P w K mg base n "Answered" Rf.1 C1 "answered") (F:Fun K "cancel" "Book.cancel" aZC f fd):y0 P w K mg base (CXR P w) (n+2) f fd ["self","number"] (aJt K Rf CB CL):=by
 have sc:=aKz;refine F.okX (k:=n+1) sc (λU A outer s H vs Q E t h=>?_);obtain⟨q,I,L,y,J,R,S,m,rfl,p,hR,q1,M⟩:=h;refine⟨_,(yC (yO (i:=2) (wN e t zB (pv 0) (yA (pv 1) yF))) (yC (zC (yU aZu (yT yM rfl T.b_len xU (yA (wN d t vB (pv 0) (yA (pv 2) yF)) yF)) yK) (yG (zH a t rfl)) yY) (yG (yQ (bJP g t vB (pv 2)))))),?_⟩;obtain⟨D,C⟩:=p.book;refine⟨_,rfl,q,D,_,rfl,C,rfl,_,rfl,q,I,L,y,J,R,S,m,rfl,p,λk r b O x X B=>?_,q1⟩;obtain⟨W,cc,g1,u,Y,⟨o,G⟩,g5⟩:=p.get x;obtain rfl:b=W:=bWX (B.symm.trans u);obtain⟨Z,N⟩:=M k r O x X;dsimp only[yS];refine⟨_,rfl,q,D,_,rfl,C,rfl,_,rfl,q,I,L,y,J,R,S,k,b,rfl,p,u,hR,λl hl=>?_⟩;refine⟨l,_,rfl,.inl (SqL.of yB),_,_,rfl,rfl,_,rfl,?_⟩;have j:=yI hl (.lst ((Bk.zU R k).map λk=>(y.map V.ref).getD k .non));rw[bWK];refine aJW (λc=>?_) (λc=>?_)
 ·refine((Z λz=>?_).go (aVT.of j)).raise a;have:=of_decide_eq_true c;rw[z]at this;simp at this
 ·have v:Bk.zU R k= []:=by
   have:=of_decide_eq_false (Bool.eq_false_iff.mpr c);exact bK2 (by omega)
  refine⟨_,rfl,b,o,_,rfl,j _ _ G,rfl,b,o,k,r,cc,rfl,j _ _ G,?_⟩;exact N v _ _ _ ((p.same j).set u Y x (λr=>{r with link:=none,void:=true}) rfl) ((wE.of j).trans (wE.upd (aZv (bW1 u)) _)) uE.refl
theorem bZT:yJ ["self","day"] ["self","day"] (yD bZJ):=scM
theorem bZq(cl:Cl K CB CL)(c:FnG P w K mg base (n+1) "counts" ["shut","date"] (Days.aJw K))(a:ExG P w K mg base n "CountsNot" Rf.1 C1 "counts not") (F:Fun K "shut_day" "Book.shut_day" bZJ f fd):y0 P w K mg base (CXR P w) (n+2) f fd ["self","day"] (bXu K Rf CB CL):=by
 have u:=bZT;refine F.okX (k:=n+1) u (λr A outer s H B Q E l h=>?_);obtain⟨j,x,o,y,z,R,S,d,rfl,e,v,t,q⟩:=h;refine⟨_,(yC (zC (aXI (wH (zE c l rfl (yA (yR (pv 0) rfl) (yA (pv 1) yF))))) (yG (zH a l rfl)) yY) (yG (yQ (vJ bKj bKp bKq y8 (yR (pv 0) rfl) (yA (pv 1) yF))))),?_⟩;obtain⟨i,g⟩:=e.book;refine⟨_,rfl,j,CB,i,_,_,rfl,g,cl.b,cl.shut,rfl,_,rfl,o,S,d,rfl,SqL.of e.sht,_,rfl,?_⟩;cases m:Dm.cts S d with
 |false=>exact onT rfl ((t m).raise a)
 |true=>
  refine onF rfl ⟨_,rfl,j,CB,i,_,_,rfl,g,cl.b,cl.shut,rfl,.inl ⟨rfl,_,SqL.of e.sht⟩,_,rfl,o,_,_,rfl,rfl,e.sht,zlt (by rw[bWK];omega),?_⟩;have p:S.map V.int++ [V.int d]=(S++ [d]).map V.int:=by simp
  rw[p];exact q m _ _ _ (e.shutD d) (wE.upd aW1 _) uE.refl
theorem aKF:yJ ["self","number","day","letter","reply"] ["self","number","day"] (yD aZF):=scM
theorem aWZ(cl:Cl K CB CL)(g:MG P w K mg base (CXR P w) n CB "letter_at" ["self","number"] (aJs K Rf CB CL))(p:MG P w K mg base CX0 n CB "answers_to" ["self","letter"] (aZQ CB CL))(a:FnX P w K mg base n "check_days" ["asked_day","reply_day"] (aQW K Rf)) (F:Fun K "put_day" "Book.put_day" aZF f fd):y0 P w K mg base (CXR P w) (n+1) f fd ["self","number","day"] (aJz K Rf CB CL):=by
 have sc:=aKF;refine F.okX (k:=n) sc (λa7 A outer s H vs Q E U h=>?_);obtain⟨y,la,sa,D,cs,R,S,m,d,rfl,B,hR,a4,q1,q2⟩:=h;refine⟨_,(yC (yO (i:=3) (wN g U zB (pv 0) (yA (pv 1) yF))) (yC (zC (yU v6 (yR (pv 3) rfl) wG) (yG (yQ (Y1 a U rfl (yA (yR (wN g U zB (pv 0) (yA (yR (pv 3) rfl) yF)) rfl) (yA (pv 2) yF))))) yY) (yC (zK PassesOwn.leaving rfl (xB (wN p U vB (pv 0) (yA (pv 3) yF))) (yZ (i:=4)) (yG (yQ (Y1 a U rfl (yA (pv 2) (yA (yR (pv 4) rfl) yF)))))) (yG (x4 (pv 3) (pv 2) rfl))))),?_⟩;obtain⟨dx,hb⟩:=B.book;refine⟨_,rfl,y,dx,_,rfl,hb,rfl,_,rfl,y,la,sa,D,cs,R,S,m,rfl,B,λk r b em hk hv a5=>?_,q1⟩;obtain⟨b',cc,g1,g2,g3,⟨G,g4⟩,g5⟩:=B.get hk;obtain rfl:b=b':=bWX (a5.symm.trans g2);obtain⟨q3,q4⟩:=q2 k r em hk hv;dsimp only[yS];refine w1 (λN H'=>N= [some (.ref y),some (.int m),some (.int d),some (.ref b),none]/\H'=H/\∀j,r.link=some j->Bk.dt R j<=d) ?_ λjn=>?_
 ·rintro N H' ⟨rfl,rfl,Z⟩;refine⟨_,rfl,y,dx,_,rfl,hb,rfl,_,rfl,y,la,sa,D,cs,R,S,k,b,rfl,B,g2,hR,λl hl=>?_⟩;have X:=yI hl (.lst ((Bk.zU R k).map λk=>(D.map V.ref).getD k .non));refine⟨l,rfl,⟨_,SqL.of yB⟩,?_⟩;refine zP (xs:=(Bk.zU R k).map λk=>(D.map V.ref).getD k .non) (λt σ H1=>∃o:Option V,σ= [some (.ref y),some (.int m),some (.int d),some (.ref b),o]/\H1=upd H' l (.lst ((Bk.zU R k).map λk=>(D.map V.ref).getD k .non))/\∀i c,i<t->(Bk.zU R k)[i]? =some c->d<=Bk.dt R c) ?_ ?_ ?_ ?_
  ·exact⟨none,rfl,rfl,λi c z=>absurd z (bKK _)⟩
  ·rintro t σ H1 ht ⟨o,rfl,rfl,hd⟩;exact SqL.of yB
  ·rintro t x σ H1 W ⟨o,rfl,rfl,hd⟩;rw[bWY]at W;cases J:(Bk.zU R k)[t]? with
   |none=>rw[J]at W;cases W
   |some c=>
    rw[J]at W;have M:=bW1 J;have a3:c<R.length:=bKc.mp (bKA.mp M).1;have I:=bWF a3;obtain⟨bc,c2,f1,f2,f3,⟨a2,f4⟩,f5⟩:=(B.same X).get I;have ex:(D.map V.ref).getD c .non= .ref bc:=by simp only[bKC,f1];rfl
    obtain rfl:x= .ref bc:=by have z:=bWX W;rw[<- z];exact ex
    dsimp only[yS];refine⟨_,rfl,_,rfl,bc,CL,a2,_,_,rfl,f4,cl.l,cl.day,rfl,d,R[c].date,rfl,λq=>?_,λq=>?_⟩
    ·refine⟨_,rfl,rfl,λi c' hi C=>?_⟩;by_cases e:i=t
     ·subst e;rw[J]at C;cases C;rw[Bk.zI I];exact q
     ·exact hd i c' (by omega) C
    ·exact(q3 (.inr ⟨c,M,by rw[Bk.zI I];exact q⟩)).go (aVT.of X)
  ·rintro σ H1 ⟨o,rfl,rfl,hd⟩;have Y:∀c∈Bk.zU R k,d<=Bk.dt R c:=λc J=>by
    obtain⟨i,hi,e⟩:=bKM J;exact hd i c (by rw[bWK];exact hi) (by rw[bWF hi,e])
   refine⟨_,rfl,_,rfl,b,CL,G,_,rfl,X _ _ g4,cl.l,cl.day,(show 9<1000 by decide),?_⟩;exact q4 Z Y _ _ _ ((B.same X).set g2 g3 hk (λr=>{r with date:=d}) rfl) ((wE.of X).trans (wE.upd (aZv (bW1 g2)) _)) uE.refl
 ·refine⟨_,rfl,b,CL,G,_,_,rfl,g4,cl.l,cl.link,rfl,rfl,_,rfl,?_⟩;cases u:r.link with
  |none=>exact onF rfl (jn _ _ ⟨rfl,rfl,λj Z=>by rw[u]at Z;cases Z⟩)
  |some j=>
   obtain⟨qj,v,a1⟩:=a4.ans k j r hk u;obtain⟨bj,cj,f1,f2,f3,⟨a0,f4⟩,f5⟩:=B.get v;refine onT rfl ⟨_,rfl,y,dx,_,rfl,hb,rfl,_,rfl,b,CL,G,_,_,rfl,g4,cl.l,cl.link,rfl,?_⟩;rw[u];refine⟨y,la,sa,D,cs,R,S,(j:Nat),rfl,B,λk2 r2 b2 e2 T a6 L=>?_,λhg=>?_⟩
   ·obtain rfl:j=k2:=by omega
    rw[v]at T;cases T;rw[f2]at L;cases L;refine⟨bj,CL,a0,_,_,rfl,f4,cl.l,cl.day,rfl,_,rfl,qj.date,d,rfl,λq=>?_,λq=>?_⟩
    ·refine jn _ _ ⟨rfl,rfl,λj' O=>?_⟩;rw[u]at O;cases O;rw[Bk.zI v];exact q
    ·exact q3 (.inl ⟨j,u,by rw[Bk.zI v];exact q⟩)
   ·rw[uJ v a1.2.1]at hg;cases hg
end
end Desk
namespace Desk
open PySem L2 PyProof.Rows
open Bk (Row Rows)
open Thr (zO wL uH)
theorem aK8{R:Rows}(b:Bk.Q5 R){rk:Nat->Nat}(o:Fm.Ok R.length (Bk.lk R) rk){i:Nat}(f:i<R.length):∀r q,R[i]? =some r->R[Fm.tp (Bk.lk R) rk i]? =some q->r.void=q.void:=
 Fm.aX0 o (P:=λi=>∀r q,R[i]? =some r->R[Fm.tp (Bk.lk R) rk i]? =some q->r.void=q.void)
  (λi _ h r q c d=>by rw[Fm.zM h,c]at d;cases d;rfl)
  (λi j f h k r q c d=>by
   rw[Bk.zX c]at h;obtain⟨g,e,a⟩:=b.ans i j r c h;rw[Fm.wD o f (by rw[Bk.zX c];exact h)]at d;rw[a.1,<- k g q e d,a.2.1]) (rk i) i (bWN _) f
theorem bQN{R:Rows}(b:Bk.Q5 R){k j:Nat}{r:Row}(e:R[k]? =some r)(h:r.void=false)(i:j∈Bk.thr R k):∃q,R[j]? =some q/\q.void=false:=by
 obtain⟨l,o,_,g⟩:=Bk.Z4 b.tree k;obtain⟨a,d⟩:=(g j).mp i;have c:=Bk.xM e;have f:=(Fm.aK5 o c).1;refine⟨_,bWF a,?_⟩;rw[aK8 b o a _ _ (bWF a) (by rw[d];exact bWF f),<- aK8 b o c _ _ e (bWF f)];exact h
theorem bZ6{R:Rows}(t:Bk.vY R){i j:Nat}{r:Row}(g:R[i]? =some r)(hl:r.link=none)(a:j<R.length):j∈Bk.thr R i↔(Bk.thr R j).head? =some i:=by
 obtain⟨h,o,f⟩:=Bk.qF t a;obtain⟨b,c,_,d⟩:=Bk.Z4 t i;rw[d j,f];have e:Fm.tp (Bk.lk R) b i=i:=Fm.zM (by rw[Bk.zX g];exact hl);rw[e,Fm.uC c o a];exact⟨λz=>by rw[z.2],λz=>⟨a,bWX z⟩⟩
inductive vU(K:bWI)(Rf:Nat×Nat)(CB CL:Nat)(vs:List V)(H:Hp)(Q:VK)(E:XK):Prop|mk (ba la sa:Nat) (ls cs:List Nat) (R:Rows) (S:List Int) (m:Int) (_:vs= [.ref ba,.int m]) (_:PB CB CL H ba la sa ls cs R S) (_:R.length<64) (_:Bk.vY R) (_:zO Rf.2 H) (_:(Bk.vP R m=false->yX K Rf H E "no letter")) (_:∀ (k:Nat)(r:Row),m=(k:Int)->R[k]? =some r->r.void=false->∀ (H':Hp)(l:Nat),(∀b u,(∀ps,u≠HO.tbl ps)->H b=some u->b≠l)->xO H H'->zO Rf.2 H'->H' l=some (.lst ((Bk.thr R k).map λi=>V.int (i:Nat)))->Q (.ref l) H')
def bJc(T d CL g la sa:Nat)(ls cs:List Nat)(H:Hp)(e:Rows)(f:List Int)(q:Hp->Prop):Prop:=∀ (c:Hp)(b a:List Nat),PB d CL c g la sa b a e f->u4 (own la sa ls cs) H c->uE H (own la sa ls cs) (own la sa b a)->zO T c->q c
inductive bZZ(K:bWI)(Rf:Nat×Nat)(CB CL:Nat)(vs:List V)(H:Hp)(Q:VK)(E:XK):Prop|mk (ba la sa:Nat) (ls cs:List Nat) (R:Rows) (S:List Int) (m:Int) (name:Str) (_:vs= [.ref ba,.int m,.str name]) (_:PB CB CL H ba la sa ls cs R S) (_:R.length<64) (_:Bk.Q5 R) (_:zO Rf.2 H) (_:(Bk.vP R m=false->yX K Rf H E "no letter")) (_:∀ (k:Nat)(r:Row),m=(k:Int)->R[k]? =some r->r.void=false->∀ (H':Hp),PB CB CL H' ba la sa ls cs (Bk.laid R (Bk.thr R k) name) S->u4 (own la sa ls cs) H H'->zO Rf.2 H'->Q (.int ((Bk.thr R k).length:Nat)) H')
section
variable {K:bWI}
abbrev uR:Stmt:=yW "Book" "thread_of"
abbrev bVU:Stmt:=yW "Book" "lay_thread"
theorem aZP:yJ ["self","number","links","dates"] ["self","number"] (yD uR):=scM
theorem qQ:y9 ["self","number","links","dates"] (yD uR) "letter" [] [] (lsN [(".0",.local),("letter",.local)]):=
 lcM
theorem aZt(cl:Cl K CB CL)(c:MG P w K mg base (CXR P w) n CB "letter_at" ["self","number"] (aJs K Rf CB CL))(d:FnG P w K mg base n "thread" ["links","dates","number"] (Thr.aJA Rf.2)) (F:Fun K "thread_of" "Book.thread_of" uR f fd):y0 P w K mg base (CXR P w) (n+1) f fd ["self","number"] (vU K Rf CB CL):=by
 have sc:=aZP;refine F.okX (k:=n) sc (λa1 A outer s H vs Q E hr h=>?_);obtain⟨N,Y,sa,ls,cs,R,S,m,rfl,z,hR,hT,tb,q1,q2⟩:=h;refine⟨_,(yC (yQ (wN c hr zB (pv 0) (yA (pv 1) yF))) (yC (aVq (i:=2) qQ rfl sc.nd rfl rfl (xB (yR (pv 0) rfl)) (λ_ _ _ _ _=>zG) (λ_ _ _ _ _=>(aQz (K:=K) (pv 0) rfl))) (yC (aVq (i:=3) qQ rfl sc.nd rfl rfl (xB (yR (pv 0) rfl)) (λ_ _ _ _ _=>zG) (λ_ _ _ _ _=>(aQz (K:=K) (pv 0) rfl))) (yG (yP (zE d hr rfl (yA (pv 2) (yA (pv 3) (yA (pv 1) yF))))))))),?_⟩;obtain⟨W,hb⟩:=z.book;have hl:(ls.map V.ref).length=R.length:=by rw[bWK];exact z.len
 refine⟨_,rfl,N,W,_,rfl,hb,rfl,_,rfl,N,Y,sa,ls,cs,R,S,m,rfl,z,λk r b em hk p a2=>?_,q1⟩;subst em;have L:=Bk.xM hk;have x:(bWS R.length).filter (λ_=>true)=bWS R.length:=bYY.mpr λ_ _=>rfl;refine⟨_,rfl,N,CB,W,_,_,rfl,hb,cl.b,cl.letters,rfl,Y,rfl,⟨_,SqL.of z.lst⟩,λD X=>?_⟩;refine aJ0 (λ_=>true) (λi=>Thr.xW (Bk.lk R i)) (SqL.of z.lst) X (zn (by omega)) (λj v p Z R' M a=>a) (λj v p _ Z R' M a=>?_) ?_
 ·have T:j<R.length:=by rw[<- hl];exact(bWP.mp p).1
  have g:=bWF T;obtain⟨J,c2,q,G,O,⟨B,I⟩,k5⟩:=z.get g;obtain rfl:v= .ref J:=bWX (p.symm.trans q);rw[Bk.zX g]at a;exact⟨_,rfl,J,CL,B,_,_,rfl,(M _ (yE I X)).trans I,cl.l,cl.link,rfl,a⟩
 rw[hl,x];dsimp only[yS];have q:=yI X (.lst ((bWS R.length).map λi=>Thr.xW (Bk.lk R i)));have y:=z.same q;refine⟨_,rfl,N,CB,W,_,_,rfl,q _ _ hb,cl.b,cl.letters,rfl,Y,rfl,⟨_,SqL.of y.lst⟩,λD2 C=>?_⟩;refine aJ0 (λ_=>true) (λi=>V.int (Bk.dt R i)) (SqL.of y.lst) C (zn (by omega)) (λj v p Z R' M a=>a) (λj v p _ Z R' M a=>?_) ?_
 ·have T:j<R.length:=by rw[<- hl];exact(bWP.mp p).1
  have g:=bWF T;obtain⟨J,c2,q,G,O,⟨B,I⟩,k5⟩:=y.get g;obtain rfl:v= .ref J:=bWX (p.symm.trans q);rw[Bk.zI g]at a;exact⟨_,rfl,J,CL,B,_,_,rfl,(M _ (yE I C)).trans I,cl.l,cl.day,rfl,a⟩
 rw[hl,x];dsimp only[yS];have G:=yI C (.lst ((bWS R.length).map λi=>V.int (Bk.dt R i)));obtain⟨rk,o⟩:=hT;have U:zO Rf.2 (upd (upd H D (.lst ((bWS R.length).map λi=>Thr.xW (Bk.lk R i)))) D2 (.lst ((bWS R.length).map λi=>V.int (Bk.dt R i)))):=by
  have kk:=q.trans G;rcases tb with t|⟨c',t1,t2⟩
  ·exact .inl (kk _ _ t)
  ·exact .inr ⟨c',kk _ _ t1,kk _ _ t2⟩
 refine⟨_,rfl,_,rfl,_,rfl,D,D2,R.length,Bk.lk R,rk,Bk.dt R,k,rfl,G _ _ yB,yB,o,by omega,L,U,λH3 r3 a0 n3 O t3 h3 hp hm=>?_⟩;have e:=Bk.bVm L ⟨rk,o,hp,hm⟩;refine q2 k r rfl hk p H3 r3 (λb u nt e=>n3 b u nt ((q.trans G) _ _ e)) ((q.trans G).t.trans O) t3 ?_;rw[e];exact h3
end
end Desk
namespace Desk
open PySem L2 PyProof.Rows
open Bk (Row Rows)
open Thr (zO wL uH)
theorem xF{T:Nat}{o:List Nat}{H h:Hp}(t:zO T H)(k:wE o H h)(i:∀b∈o,∀u,H b=some u->(∃c,u= .lst c)\/∃C a fs,u= .ins C a fs):zO T h:=by
 have d:∀b u,H b=some u->(∀c,u≠ .lst c)->(∀C a fs,u≠ .ins C a fs)->b∉o:=λb u e l j z=>by
  rcases i b z u e with⟨c,q⟩|⟨C,a,fs,q⟩
  ·exact l _ q
  ·exact j _ _ _ q
 rcases t with t|⟨m,f,g⟩
 ·exact .inl (k _ _ (d _ _ t (by intro _ z;cases z) (by intro _ _ _ z;cases z)) t)
 ·exact .inr ⟨m,k _ _ (d _ _ f (by intro _ z;cases z) (by intro _ _ _ z;cases z)) f,k _ _ (d _ _ g (by intro _ z;cases z) (by intro _ _ _ z;cases z)) g⟩
theorem PB.kinds{l CL:Nat}{H:Hp}{m la sa:Nat}{ls cs:List Nat}{R:Rows}{S:List Int}(h:PB l CL H m la sa ls cs R S):∀b∈own la sa ls cs,∀u,H b=some u->(∃n,u= .lst n)\/∃C g fs,u= .ins C g fs:=λb a u e=>by
 rcases bWU.mp a with rfl|a
 ·rw[h.lst]at e;cases e;exact .inl ⟨_,rfl⟩
 rcases bWU.mp a with rfl|a
 ·rw[h.sht]at e;cases e;exact .inl ⟨_,rfl⟩
 rcases bKn.mp a with a|a
 ·obtain⟨i,c,q⟩:=bKM a;obtain⟨o,p,r,f,d,⟨g,k⟩,j⟩:=h.get (bWF (show i<R.length by rw[<- h.len];exact c));rw[bWF c,q]at f;cases f;rw[k]at e;cases e;exact .inr ⟨_,_,_,rfl⟩
 ·obtain⟨i,c,q⟩:=bKM a;obtain⟨o,p,r,f,d,k,j⟩:=h.get (bWF (show i<R.length by rw[<- h.clen];exact c));rw[bWF c,q]at d;cases d;rw[j]at e;cases e;exact .inl ⟨_,rfl⟩
theorem PB.notown{k CL:Nat}{H:Hp}{o la sa:Nat}{ls cs:List Nat}{R:Rows}{S:List Int}(h:PB k CL H o la sa ls cs R S){l:Nat}(n:∀b u,(∀m,u≠HO.tbl m)->H b=some u->b≠l):l∉own la sa ls cs:=λa=>by
 rcases bWU.mp a with e|a
 ·exact n la _ (by intro _ z;cases z) h.lst e.symm
 rcases bWU.mp a with e|a
 ·exact n sa _ (by intro _ z;cases z) h.sht e.symm
 rcases bKn.mp a with a|a
 ·obtain⟨i,c,q⟩:=bKM a;obtain⟨p,r,s,f,d,⟨t,j⟩,g⟩:=h.get (bWF (show i<R.length by rw[<- h.len];exact c));rw[bWF c,q]at f;cases f;exact n l _ (by intro _ z;cases z) j rfl
 ·obtain⟨i,c,q⟩:=bKM a;obtain⟨p,r,s,f,d,j,g⟩:=h.get (bWF (show i<R.length by rw[<- h.clen];exact c));rw[bWF c,q]at d;cases d;exact n l _ (by intro _ z;cases z) g rfl
theorem PB.notnone{a CL:Nat}{H:Hp}{c la sa:Nat}{ls cs:List Nat}{R:Rows}{S:List Int}(h:PB a CL H c la sa ls cs R S){l:Nat}(n:H l=none):l∉own la sa ls cs:=h.notown λb u _ e=>yE e n
theorem bQf{j:Nat}{q:Row}{c:Nat}{name:Str}(b:q.void=false):J9 "file" (.str name) (aXv j q c)=aXv j {q with place:=name} c:=by
 have a:W7 {q with place:=name}= .str name:=aQo (r:={q with place:=name}) b;unfold aXv;rw[a];rfl
theorem aWx(R:Rows)(l:List Nat)(k:Nat)(name:Str):Bk.laid R (l++ [k]) name=Bk.xD (Bk.laid R l name) k λr=>{r with place:=name}:=by
 unfold Bk.laid;rw[List.foldl_append];rfl
theorem aXt{R:Rows}{l:List Nat}{name:Str}{j:Nat}{q:Row}(h:R[j]? =some q):∃a,(Bk.laid R l name)[j]? =some a/\a.void=q.void:=by
 rw[Bk.wU,h];by_cases e:j∈l
 ·rw[if_pos e];exact⟨_,rfl,rfl⟩
 ·rw[if_neg e];exact⟨q,rfl,rfl⟩
inductive aKP(K:bWI)(Rf:Nat×Nat)(CB CL:Nat)(vs:List V)(H:Hp)(Q:VK)(E:XK):Prop|mk (ba la sa:Nat) (ls cs:List Nat) (R:Rows) (S:List Int) (i j:Nat) (b b2:Nat) (r q:Row) (_:vs= [.ref ba,.ref b,.ref b2]) (_:PB CB CL H ba la sa ls cs R S) (_:R.length<64) (_:Bk.vY R) (_:zO Rf.2 H) (_:R[i]? =some r) (_:r.void=false) (_:R[j]? =some q) (_:q.void=false) (_:ls[i]? =some b) (_:ls[j]? =some b2) (_:(r.link≠none->yX K Rf H E "has one")) (_:(r.link=none->(Bk.thr R j).head? =some i->yX K Rf H E "own thread")) (_:(r.link=none->(Bk.thr R j).head? ≠some i->(r.way=q.way->yX K Rf H E "same way")/\(r.way≠q.way->(r.partner≠q.partner->yX K Rf H E "other partner")/\(r.partner=q.partner->(r.date<q.date->yX K Rf H E "too early")/\(q.date<=r.date->∀H',xO H H'->zO Rf.2 H'->Q .non H')))))
section
variable {K:bWI}
theorem bJ7:yJ ["self","number","name","numbers","member","letter"] ["self","number","name"] (yD bVU):=scM
theorem bJG(T:vD mg)(cl:Cl K CB CL)(a:MG P w K mg base (CXR P w) n CB "thread_of" ["self","number"] (vU K Rf CB CL))(F:Fun K "lay_thread" "Book.lay_thread" bVU f fd):y0 P w K mg base (CXR P w) (n+1) f fd ["self","number","name"] (bZZ K Rf CB CL):=by
 have sc:=bJ7;refine F.okX (k:=n) sc (λa3 A outer s H vs Q E hr h=>?_);obtain⟨q,J,Y,W,cs,R,S,m,g,rfl,X,hR,D,tb,q1,q2⟩:=h;refine⟨_,(yC (yO (i:=3) (wN a hr zB (pv 0) (yA (pv 1) yF))) (yC (zK PassesOwn.leaving rfl (xB (pv 3)) (yZ (i:=4)) (yC (yO (i:=5) (yN yL (yR (pv 0) rfl) (pv 4))) (yG (x4 (pv 5) (pv 2) rfl)))) (yG (yP (yT yM rfl T.b_len xU (yA (pv 3) yF)))))),?_⟩;obtain⟨dx,hb⟩:=X.book;refine⟨_,rfl,q,dx,_,rfl,hb,rfl,_,rfl,q,J,Y,W,cs,R,S,m,rfl,X,hR,D.tree,tb,q1,λk r em U hv H1 l _ k1 t1 hl=>?_⟩;dsimp only[yS];have B:=X.sameT k1;have a2:=Bk.xM U;refine⟨_,rfl,l,rfl,⟨_,SqL.of hl⟩,?_⟩;refine zP (xs:=(Bk.thr R k).map λi=>V.int (i:Nat)) (λt σ p=>∃I L:Option V,σ= [some (.ref q),some (.int m),some (.str g),some (.ref l),I,L]/\PB CB CL p q J Y W cs (Bk.laid R ((Bk.thr R k).take t) g) S/\wE (own J Y W cs) H1 p/\p l=some (.lst ((Bk.thr R k).map λi=>V.int (i:Nat)))) ?_ ?_ ?_ ?_
 ·exact⟨none,none,rfl,B,λb u _ e=>e,hl⟩
 ·rintro t σ p ht ⟨I,L,rfl,d,G,o⟩;exact SqL.of o
 ·rintro t x σ p C ⟨I,L,rfl,d,G,o⟩;rw[bWY]at C;cases M:(Bk.thr R k)[t]? with
  |none=>rw[M]at C;cases C
  |some j=>
   rw[M]at C;cases C;obtain⟨qj,a1,a0⟩:=bQN D U hv (bW1 M);obtain⟨q',y,v⟩:=aXt (l:=(Bk.thr R k).take t) (name:=g) a1;rw[a0]at v;obtain⟨b,c,g1,g2,g3,⟨O,g4⟩,g5⟩:=d.get y;obtain⟨Z,N⟩:=d.book;dsimp only[yS];refine⟨_,rfl,q,CB,Z,_,_,rfl,N,cl.b,cl.letters,rfl,_,rfl,J,_,_,_,rfl,rfl,SqL.of d.lst,yV g1,?_⟩;dsimp only[yS];refine⟨_,rfl,_,rfl,b,CL,O,_,rfl,g4,cl.l,cl.file,(show 9<1000 by decide),_,_,rfl,?_,G.trans (wE.upd (aZv (bW1 g2)) _),?_⟩
   ·rw[bQf v,show(Bk.thr R k).take (t+1)=(Bk.thr R k).take t++ [j]from by rw[bYf,M];rfl,aWx];exact d.set g2 g3 y (λr=>{r with place:=g}) rfl
   ·rw[yH (λz=>by rw[z,g4]at o;cases o)];exact o
 ·rintro σ p ⟨I,L,rfl,d,G,o⟩;rw[bWK,bYp]at d;refine⟨_,rfl,l,_,rfl,.inl (SqL.of o),?_⟩;rw[bWK];exact q2 k r em U hv p d ((u4.of k1).trans G.t) (xF t1 G B.kinds)
abbrev aKh:Stmt:=yW "Book" "check_hanging"
abbrev bZF:Stmt:=yW "Book" "hang"
theorem bQn:yJ ["self","letter","asked"] ["self","letter","asked"] (yD aKh):=scM
theorem aZ3(d:Nat):∀ns:List Nat,inV (.int (d:Nat)) (ns.map λi=>V.int (i:Nat))=ns.contains d
 |[]=>rfl
 |n::r=>by have a:=aZ3 d r;unfold inV at a ⊢;rw[bKv,bYX,a,bYJ];congr 1;show((n:Int)==(d:Int))=(d==n);rw[Bool.eq_iff_iff,beq_iff_eq,beq_iff_eq];omega
theorem aXj:∀ns:List Nat,(ns.map λi=>V.int (i:Nat)).all jS=true
 |[]=>rfl
 |n::r=>by rw[bKv,cQR,aXj r];rfl
theorem aYT(cl:Cl K CB CL)(o:MG P w K mg base (CXR P w) (n+1) CB "thread_of" ["self","number"] (vU K Rf CB CL))(g:FnX P w K mg base (n+1) "check_days" ["asked_day","reply_day"] (aQW K Rf)) (m:ExG P w K mg base n "HasOne" Rf.1 C1 "has one") (d:ExG P w K mg base n "OwnThread" Rf.1 C2 "own thread") (e:ExG P w K mg base n "SameWay" Rf.1 C3 "same way") (a:ExG P w K mg base n "OtherPartner" Rf.1 C4 "other partner") (F:Fun K "check_hanging" "Book.check_hanging" aKh f fd):y0 P w K mg base (CXR P w) (n+2) f fd ["self","letter","asked"] (aKP K Rf CB CL):=by
 have sc:=bQn;refine F.okX (k:=n+1) sc (λa1 A outer s H vs Q E C h=>?_);obtain⟨Z,la,sa,ls,cs,R,S,i,j,b,D,r,q,rfl,I,hR,hT,tb,N,hv,hj,hw,Y,M,q1,q2,q3⟩:=h;refine⟨_,(yC (zC (yU v6 (yR (pv 1) rfl) wG) (yG (zH m C rfl)) yY) (yC (zC (yU aXD (yR (pv 2) rfl) (wN o C zB (pv 0) (yA (yR (pv 1) rfl) yF))) (yG (zH d C rfl)) yY) (yC (zC (yU aQy (yR (pv 1) rfl) (yR (pv 2) rfl)) (yG (zH e C rfl)) yY) (yC (zC (yU bJJ (yR (pv 1) rfl) (yR (pv 2) rfl)) (yG (zH a C rfl)) yY) (yG (yQ (Y1 g C rfl (yA (yR (pv 2) rfl) (yA (yR (pv 1) rfl) yF))))))))),?_⟩;obtain⟨dx,hb⟩:=I.book;obtain⟨b',c1,g1,g2,g3,⟨p,J⟩,g5⟩:=I.get N;obtain rfl:b=b':=bWX (Y.symm.trans g2);obtain⟨X,c2,f1,f2,f3,⟨u,f4⟩,f5⟩:=I.get hj;obtain rfl:D=X:=bWX (M.symm.trans f2);refine⟨_,rfl,b,CL,p,_,_,rfl,J,cl.l,cl.link,rfl,rfl,_,rfl,?_⟩;cases t:r.link with
 |some x=>exact onT rfl ((q1 (by rw[t];simp)).raise m)
 |none=>
  have T:=q2 t;have U:=q3 t;refine onF rfl ⟨_,rfl,D,CL,u,_,_,rfl,f4,cl.l,cl.number,rfl,_,rfl,Z,dx,_,rfl,hb,rfl,_,rfl,b,CL,p,_,_,rfl,J,cl.l,cl.number,rfl,?_⟩;refine⟨Z,la,sa,ls,cs,R,S,(i:Nat),rfl,I,hR,hT,tb,(λhg=>by rw[uJ N hv]at hg;cases hg),λk r' em hk a0 H1 l _ v G hl=>?_⟩;obtain rfl:i=k:=by omega
  refine⟨l,_,rfl,.inl (SqL.of hl),rfl,aXj _,_,rfl,?_⟩;rw[if_neg (show ¬ (false=true) by decide),aZ3];have W:=Bk.xM hj;have own:=bZ6 hT N t W;have y:=v _ _ (λ_ z=>by cases z) J;have B:=v _ _ (λ_ z=>by cases z) f4;refine aJW (λc=>?_) (λc=>?_)
  ·exact((T (own.mp (bKW.mp c))).go ⟨v,λ_=>G⟩).raise d
  ·have L:(Bk.thr R j).head? ≠some i:=λz=>c (bKW.mpr (own.mpr z));obtain⟨q4,q5⟩:=U L;refine⟨_,rfl,b,CL,p,_,_,rfl,y,cl.l,cl.way,rfl,_,rfl,D,CL,u,_,_,rfl,B,cl.l,cl.way,rfl,rfl,_,rfl,?_⟩;have e1:decide (V.str r.way=V.str q.way)=decide (r.way=q.way):=by rw[Bool.eq_iff_iff];simp
   rw[e1];refine aJW (λc=>?_) (λc=>?_)
   ·exact((q4 (of_decide_eq_true c)).go ⟨v,λ_=>G⟩).raise e
   ·obtain⟨q6,q7⟩:=q5 (of_decide_eq_false (Bool.eq_false_iff.mpr c));refine⟨_,rfl,b,CL,p,_,_,rfl,y,cl.l,cl.partner,rfl,_,rfl,D,CL,u,_,_,rfl,B,cl.l,cl.partner,rfl,rfl,_,rfl,?_⟩;have e2:decide (V.str r.partner=V.str q.partner)=decide (r.partner=q.partner):=by rw[Bool.eq_iff_iff];simp
    rw[e2];cases hp:decide (r.partner=q.partner)with
    |false=>exact onT rfl (((q6 (of_decide_eq_false hp)).go ⟨v,λ_=>G⟩).raise a)
    |true=>obtain⟨q8,q9⟩:=q7 (of_decide_eq_true hp);refine onF rfl ⟨_,rfl,D,CL,u,_,_,rfl,B,cl.l,cl.day,rfl,_,rfl,b,CL,p,_,_,rfl,y,cl.l,cl.day,rfl,q.date,r.date,rfl,λO=>q9 O H1 v G,λO=>(q8 O).go ⟨v,λ_=>G⟩⟩
inductive bXq(K:bWI)(Rf:Nat×Nat)(CB CL:Nat)(vs:List V)(H:Hp)(Q:VK)(E:XK):Prop|mk (ba la sa:Nat) (ls cs:List Nat) (R:Rows) (S:List Int) (m o:Int) (_:vs= [.ref ba,.int m,.int o]) (_:PB CB CL H ba la sa ls cs R S) (_:R.length<64) (_:Bk.Q5 R) (_:zO Rf.2 H) (_:(Bk.vP R m=false\/Bk.vP R o=false->yX K Rf H E "no letter")) (_:∀ (i j:Nat)(r q:Row),m=(i:Int)->o=(j:Int)->R[i]? =some r->r.void=false->R[j]? =some q->q.void=false->(r.link≠none->yX K Rf H E "has one")/\(r.link=none->(Bk.thr R j).head? =some i->yX K Rf H E "own thread")/\(r.link=none->(Bk.thr R j).head? ≠some i->(r.way=q.way->yX K Rf H E "same way")/\(r.way≠q.way->(r.partner≠q.partner->yX K Rf H E "other partner")/\(r.partner=q.partner->(r.date<q.date->yX K Rf H E "too early")/\(q.date<=r.date->bJc Rf.2 CB CL ba la sa ls cs H (Bk.xD (Bk.laid R (Bk.thr R i) q.place) i λr=>{r with link:=some j}) S (Q .non))))))
theorem bZO:yJ ["self","number","other","letter","asked"] ["self","number","other"] (yD bZF):=scM
theorem bZk(cl:Cl K CB CL)(a:MG P w K mg base (CXR P w) n CB "letter_at" ["self","number"] (aJs K Rf CB CL))(c:MG P w K mg base (CXR P w) n CB "check_hanging" ["self","letter","asked"] (aKP K Rf CB CL))(d:MG P w K mg base (CXR P w) n CB "lay_thread" ["self","number","name"] (bZZ K Rf CB CL)) (F:Fun K "hang" "Book.hang" bZF f fd):y0 P w K mg base (CXR P w) (n+1) f fd ["self","number","other"] (bXq K Rf CB CL):=by
 have sc:=bZO;refine F.okX (k:=n) sc (λa6 A outer s H vs Q E M h=>?_);obtain⟨e,v,x,L,y,R,S,m,o,rfl,G,hR,I,tb,q1,q2⟩:=h;refine⟨_,(yC (yO (i:=3) (wN a M zB (pv 0) (yA (pv 1) yF))) (yC (yO (i:=4) (wN a M zB (pv 0) (yA (pv 2) yF))) (yC (yQ (wN c M zB (pv 0) (yA (pv 3) (yA (pv 4) yF)))) (yC (yQ (wN d M zB (pv 0) (yA (pv 1) (yA (yR (pv 4) rfl) yF)))) (yG (x4 (pv 3) (pv 2) rfl)))))),?_⟩;obtain⟨V,Z⟩:=G.book;refine⟨_,rfl,e,V,_,rfl,Z,rfl,_,rfl,e,v,x,L,y,R,S,m,rfl,G,λi r b em D T J=>?_,λu=>q1 (.inl u)⟩;dsimp only[yS];refine⟨_,rfl,e,V,_,rfl,Z,rfl,_,rfl,e,v,x,L,y,R,S,o,rfl,G,λj q N eo U hw C=>?_,λu=>q1 (.inr u)⟩;dsimp only[yS];obtain⟨q3,q4,q5⟩:=q2 i j r q em eo D T U hw;refine⟨_,rfl,e,V,_,rfl,Z,rfl,_,rfl,_,rfl,e,v,x,L,y,R,S,i,j,b,N,r,q,rfl,G,hR,I.tree,tb,D,T,U,hw,J,C,q3,q4,λh1 h2=>?_⟩;obtain⟨q6,q7⟩:=q5 h1 h2;refine⟨q6,λh3=>?_⟩;obtain⟨q8,q9⟩:=q7 h3;refine⟨q8,λh4=>?_⟩;obtain⟨W,a1⟩:=q9 h4;refine⟨W,λh5 H1 k1 t1=>?_⟩;have g:=G.sameT k1;obtain⟨O,a2⟩:=g.book;obtain⟨a0,c2,f1,f2,f3,⟨X,f4⟩,f5⟩:=g.get U;obtain rfl:N=a0:=bWX (C.symm.trans f2);refine⟨_,rfl,e,O,_,rfl,a2,rfl,_,rfl,_,rfl,N,CL,X,_,_,rfl,f4,cl.l,cl.file,rfl,?_⟩;rw[aQo hw];refine⟨e,v,x,L,y,R,S,m,q.place,rfl,g,hR,I,t1,(λu=>by rw[em,uJ D T]at u;cases u),λk r' a3 hk a5 H2 p k2 t2=>?_⟩;obtain rfl:i=k:=by omega
 rw[D]at hk;cases hk;obtain⟨r2,B,a4⟩:=aXt (l:=Bk.thr R i) (name:=q.place) D;obtain⟨b',c1,g1,Y,g3,⟨z,g4⟩,g5⟩:=p.get B;obtain rfl:b=b':=bWX (J.symm.trans Y);subst eo;refine⟨_,rfl,_,rfl,b,CL,z,_,rfl,g4,cl.l,cl.link,(show 9<1000 by decide),?_⟩;have kk:=wE.upd (H:=H2) (aZv (la:=v) (sa:=x) (cs:=y) (bW1 Y)) (.ins CL z (aXv i {r2 with link:=some j} c1));exact a1 h5 _ _ _ (p.set Y g3 B (λr=>{r with link:=some j}) rfl) (((u4.of k1).trans k2).trans kk.t) uE.refl (xF t2 kk p.kinds)
end
end Desk
namespace Desk
open PySem L2 PyProof.Rows
open Bk (Row Rows y3 Ans xX)
open Thr (zO wL uH)
def z8:y3->List V
 |.enter e d b t=> [.str e,.int d,.str b,.int t]
 |.reply m d t=> [.str "reply",.int m,.int d,.int t]
 |.hang m o=> [.str "hang",.int m,.int o]
 |.loose m=> [.str "loose",.int m]
 |.date m d=> [.str "date",.int m,.int d]
 |.term m t=> [.str "term",.int m,.int t]
 |.copy m b=> [.str "copy",.int m,.str b]
 |.file m a=> [.str "file",.int m,.str a]
 |.void m=> [.str "void",.int m]
 |.shut d=> [.str "shut",.int d]
 |.state m=> [.str "state",.int m]
 |.thread m=> [.str "thread",.int m]
 |.copies m=> [.str "copies",.int m]
 |.letters a=> [.str "letters",.str a]
 |.on c d=> [.str (if c then "overdue" else "waiting"),.int d]
def Q4(o:List Nat)(H:Hp):Ans->V->Prop
 |.num n,v=>v= .int n
 |.txt x,v=>v= .str x
 |.nums l,v=>∃p,v= .ref p/\p∉o/\H p=some (.lst (l.map λi=>V.int (i:Nat)))
 |.txts l,v=>∃p,v= .ref p/\p∉o/\H p=some (.lst (l.map V.str))
 |.row r,v=>∃p,v= .ref p/\p∉o/\H p=some (.tup (stV r))
def aJJ(H:Hp)(v:V):Prop:=∀p,v= .ref p->∀u,(∀a,u≠HO.tbl a)->H p≠some u
theorem aJJ.none{H:Hp}{l:Nat}(h:H l=none):aJJ H (.ref l):=λp z u _ e=>by cases z;rw[h]at e;cases e
theorem aJJ.nl{H:Hp}{l:Nat}(h:∀b u,(∀c,u≠HO.tbl c)->H b=some u->b≠l):aJJ H (.ref l):=λp z u a e=>by cases z;exact h _ u a e rfl
structure Sz(R:Rows)(S:List Int):Prop where
 r:R.length<64
 s:S.length<64
 c:∀r∈R,r.copies.length<=1000
inductive aXW(K:bWI)(Rf:Nat×Nat)(CB CL:Nat)(p:y3->Prop)(vs:List V)(H:Hp)(Q:VK)(E:XK):Prop|mk (ba da la sa:Nat) (ls cs:List Nat) (R:Rows) (S:List Int) (e:y3) (_:vs= [.ref ba,.ref da]) (_:p e) (_:H da=some (.tup (z8 e))) (_:PB CB CL H ba la sa ls cs R S) (_:Sz R S) (_:Bk.Q5 R) (_:zO Rf.2 H) (_:(∀ (a:Ans)(R':Rows)(S':List Int)(v:V)(H':Hp)(ls' cs':List Nat),xX R S e a R' S'->PB CB CL H' ba la sa ls' cs' R' S'->u4 (own la sa ls cs) H H'->uE H (own la sa ls cs) (own la sa ls' cs')->zO Rf.2 H'->Q4 (own la sa ls' cs') H' a v->aJJ H v->Q v H')) (_:(∀t,xX R S e (.txt t) R S->yX K Rf H E t))
section
variable {K:bWI}
abbrev jF:Stmt:=y7 "do_enter"
theorem aZM:yJ ["book","deed"] ["book","deed"] (yD jF):=scM
theorem aZq(a:MG P w K mg base (CXR P w) n CB "enter" ["self","way","day","partner","term"] (aKR K Rf CB CL))(F:Fun K "do_enter" "do_enter" jF f fd):y0 P w K mg base (CXR P w) (n+1) f fd ["book","deed"] (aXW K Rf CB CL λe=>∃ (way:Str)(d:Int)(who:Str)(t:Int),e= .enter way d who t):=by
 have N:=aZM;refine F.okX (k:=n) N (λL A outer s H O Q E M h=>?_);obtain⟨p,c,u,y,v,x,R,S,e,rfl,⟨way,d,who,t,rfl⟩,b,o,C,J,tb,q,I⟩:=h;refine⟨_,(yG (yP (wN a M zB (pv 0) (yA (yN xG (pv 1) yK) (yA (yN xG (pv 1) yK) (yA (yN xG (pv 1) yK) (yA (yN xG (pv 1) yK) yF))))))),?_⟩;obtain⟨D,B⟩:=o.book;have tk:∀ {g},wE (own u y v x) H g->zO Rf.2 g:=λk=>xF tb k o.kinds;have b:H c=some (.tup _):=b;refine⟨_,rfl,p,D,_,rfl,B,rfl,_,rfl,c,_,0,_,rfl,rfl,SqT.of b,rfl,_,rfl,c,_,1,_,rfl,rfl,SqT.of b,rfl,_,rfl,c,_,2,_,rfl,rfl,SqT.of b,rfl,_,rfl,c,_,3,_,rfl,rfl,SqT.of b,rfl,?_⟩;refine⟨p,u,y,v,x,R,S,way,d,who,t,rfl,o,by have:=C.r;omega,λj g l i m k G=>?_,λj=>I _ (.enterT j)⟩;exact q (.num R.length) _ _ _ g l i (.enter j) m k.t G (tk k) rfl (λ_ z=>nomatch z)
abbrev jH:Stmt:=y7 "do_reply"
theorem aZO:yJ ["book","deed"] ["book","deed"] (yD jH):=scM
theorem aZs(a:MG P w K mg base (CXR P w) n CB "reply" ["self","number","day","term"] (aKW K Rf CB CL))(F:Fun K "do_reply" "do_reply" jH f fd):y0 P w K mg base (CXR P w) (n+1) f fd ["book","deed"] (aXW K Rf CB CL λe=>∃ (m:Int)(d:Int)(t:Int),e= .reply m d t):=by
 have V:=aZO;refine F.okX (k:=n) V (λO A outer s H W Q E U h=>?_);obtain⟨v,c,y,G,B,C,R,S,e,rfl,⟨m,d,t,rfl⟩,b,u,J,N,tb,q,l⟩:=h;refine⟨_,(yG (yP (wN a U zB (pv 0) (yA (yN xG (pv 1) yK) (yA (yN xG (pv 1) yK) (yA (yN xG (pv 1) yK) yF)))))),?_⟩;obtain⟨L,I⟩:=u.book;have tk:∀ {g},wE (own y G B C) H g->zO Rf.2 g:=λk=>xF tb k u.kinds;have b:H c=some (.tup _):=b;refine⟨_,rfl,v,L,_,rfl,I,rfl,_,rfl,c,_,1,_,rfl,rfl,SqT.of b,rfl,_,rfl,c,_,2,_,rfl,rfl,SqT.of b,rfl,_,rfl,c,_,3,_,rfl,rfl,SqT.of b,rfl,?_⟩;refine⟨v,y,G,B,C,R,S,m,d,t,rfl,u,by have:=J.r;omega,λh=>l _ (.replyN h),λh i=>l _ (.replyT h i),λk r T x D i=>?_⟩;subst T;exact⟨λb=>l _ (.replyE x D i b),λb g p j o k M=>q (.num R.length) _ _ _ g p j (.reply x D i b) o k.t M (tk k) rfl (λ_ z=>nomatch z)⟩
abbrev X4:Stmt:=y7 "do_hang"
theorem aVB:yJ ["book","deed"] ["book","deed"] (yD X4):=scM
theorem aVf(a:MG P w K mg base (CXR P w) n CB "hang" ["self","number","other"] (bXq K Rf CB CL))(F:Fun K "do_hang" "do_hang" X4 f fd):y0 P w K mg base (CXR P w) (n+1) f fd ["book","deed"] (aXW K Rf CB CL λe=>∃ (m:Int)(o:Int),e= .hang m o):=by
 have sc:=aVB;refine F.okX (k:=n) sc (λY A outer s H vs Q E hr h=>?_);obtain⟨L,y,M,T,N,O,R,S,e,rfl,⟨m,o,rfl⟩,v,J,U,C,tb,q,c⟩:=h;refine⟨_,(yC (yQ (wN a hr zB (pv 0) (yA (yN xG (pv 1) yK) (yA (yN xG (pv 1) yK) yF)))) (yG (yP y1))),?_⟩;obtain⟨V,W⟩:=J.book;have tk:∀ {x},wE (own M T N O) H x->zO Rf.2 x:=λk=>xF tb k J.kinds;have v:H y=some (.tup _):=v;refine⟨_,rfl,L,V,_,rfl,W,rfl,_,rfl,y,_,1,_,rfl,rfl,SqT.of v,rfl,_,rfl,y,_,2,_,rfl,rfl,SqT.of v,rfl,?_⟩;refine⟨L,M,T,N,O,R,S,m,o,rfl,J,U.r,C,tb,λh=>c _ (.hangN h),λi j r q' Z eo b g l hw=>?_⟩;subst Z;subst eo;refine⟨λh=>c _ (.hangH b g l hw h),λh d=>c _ (.hangO b g l hw h d),λh d=>⟨λp=>c _ (.hangW b g l hw h d p),λp=>⟨λu=>c _ (.hangP b g l hw h d p u),λu=>⟨λD=>c _ (.hangE b g l hw h d p u D),λD x I B G k X t=>?_⟩⟩⟩⟩;exact q (.txt "hung") _ _ _ x I B (.hang b g l hw h d p u D) G k X t rfl (λ_ z=>nomatch z)
abbrev jG:Stmt:=y7 "do_loose"
theorem aZN:yJ ["book","deed"] ["book","deed"] (yD jG):=scM
theorem aZr(a:MG P w K mg base (CXR P w) n CB "loosen" ["self","number"] (aJy K Rf CB CL))(F:Fun K "do_loose" "do_loose" jG f fd):y0 P w K mg base (CXR P w) (n+1) f fd ["book","deed"] (aXW K Rf CB CL λe=>∃ (m:Int),e= .loose m):=by
 have O:=aZN;refine F.okX (k:=n) O (λL A outer s H U Q E N h=>?_);obtain⟨o,l,v,C,x,y,R,S,e,rfl,⟨m,rfl⟩,d,j,T,J,tb,q,p⟩:=h;refine⟨_,(yC (yQ (wN a N zB (pv 0) (yA (yN xG (pv 1) yK) yF))) (yG (yP y1))),?_⟩;obtain⟨G,D⟩:=j.book;have tk:∀ {b},wE (own v C x y) H b->zO Rf.2 b:=λk=>xF tb k j.kinds;have d:H l=some (.tup _):=d;refine⟨_,rfl,o,G,_,rfl,D,rfl,_,rfl,l,_,1,_,rfl,rfl,SqT.of d,rfl,?_⟩;refine⟨o,v,C,x,y,R,S,m,rfl,j,λh=>p _ (.oneN h (.inl rfl)),λk r M u B=>?_⟩;subst M;exact⟨λh=>p _ (.looseN u B h),λh b i c g k I=>q (.txt "loose") _ _ _ b i c (.loose u B h) g k.t I (tk k) rfl (λ_ z=>nomatch z)⟩
abbrev X2:Stmt:=y7 "do_date"
theorem aVz:yJ ["book","deed"] ["book","deed"] (yD X2):=scM
theorem aVd(a:MG P w K mg base (CXR P w) n CB "put_day" ["self","number","day"] (aJz K Rf CB CL))(F:Fun K "do_date" "do_date" X2 f fd):y0 P w K mg base (CXR P w) (n+1) f fd ["book","deed"] (aXW K Rf CB CL λe=>∃ (m:Int)(d:Int),e= .date m d):=by
 have W:=aVz;refine F.okX (k:=n) W (λT A outer s H X Q E V h=>?_);obtain⟨u,g,y,G,B,C,R,S,e,rfl,⟨m,d,rfl⟩,b,p,J,j,tb,q,v⟩:=h;refine⟨_,(yC (yQ (wN a V zB (pv 0) (yA (yN xG (pv 1) yK) (yA (yN xG (pv 1) yK) yF)))) (yG (yP y1))),?_⟩;obtain⟨L,I⟩:=p.book;have tk:∀ {c},wE (own y G B C) H c->zO Rf.2 c:=λk=>xF tb k p.kinds;have b:H g=some (.tup _):=b;refine⟨_,rfl,u,L,_,rfl,I,rfl,_,rfl,g,_,1,_,rfl,rfl,SqT.of b,rfl,_,rfl,g,_,2,_,rfl,rfl,SqT.of b,rfl,?_⟩;refine⟨u,y,G,B,C,R,S,m,d,rfl,p,by have:=J.r;omega,j,λh=>v _ (.oneN h (.inr (.inl ⟨d,rfl⟩))),λk r U x D=>?_⟩;subst U;exact⟨λh=>v _ (.dateE x D h),λO N c o i l k M=>q (.txt "dated") _ _ _ c o i (.date x D O N) l k.t M (tk k) rfl (λ_ z=>nomatch z)⟩
abbrev X6:Stmt:=y7 "do_term"
theorem aVD:yJ ["book","deed"] ["book","deed"] (yD X6):=scM
theorem aVh(a:MG P w K mg base (CXR P w) n CB "put_term" ["self","number","term"] (aXY K Rf CB CL))(F:Fun K "do_term" "do_term" X6 f fd):y0 P w K mg base (CXR P w) (n+1) f fd ["book","deed"] (aXW K Rf CB CL λe=>∃ (m:Int)(t:Int),e= .term m t):=by
 have O:=aVD;refine F.okX (k:=n) O (λL A outer s H U Q E N h=>?_);obtain⟨o,d,v,C,x,y,R,S,e,rfl,⟨m,t,rfl⟩,b,l,T,J,tb,q,p⟩:=h;refine⟨_,(yC (yQ (wN a N zB (pv 0) (yA (yN xG (pv 1) yK) (yA (yN xG (pv 1) yK) yF)))) (yG (yP y1))),?_⟩;obtain⟨G,D⟩:=l.book;have tk:∀ {c},wE (own v C x y) H c->zO Rf.2 c:=λk=>xF tb k l.kinds;have b:H d=some (.tup _):=b;refine⟨_,rfl,o,G,_,rfl,D,rfl,_,rfl,d,_,1,_,rfl,rfl,SqT.of b,rfl,_,rfl,d,_,2,_,rfl,rfl,SqT.of b,rfl,?_⟩;refine⟨o,v,C,x,y,R,S,m,t,rfl,l,λh=>p _ (.oneN h (.inr (.inr (.inl ⟨t,rfl⟩)))),λk r M u B=>?_⟩;subst M;exact⟨λh=>p _ (.termN u B h),λh c j g i k I=>q (.txt "set") _ _ _ c j g (.term u B h) i k.t I (tk k) rfl (λ_ z=>nomatch z)⟩
abbrev X1:Stmt:=y7 "do_copy"
theorem aVy:yJ ["book","deed"] ["book","deed"] (yD X1):=scM
theorem aVc(a:MG P w K mg base (CXR P w) n CB "send_copy" ["self","number","person"] (bXt K Rf CB CL))(F:Fun K "do_copy" "do_copy" X1 f fd):y0 P w K mg base (CXR P w) (n+1) f fd ["book","deed"] (aXW K Rf CB CL λe=>∃ (m:Int)(who:Str),e= .copy m who):=by
 have W:=aVy;refine F.okX (k:=n) W (λT A outer s H X Q E V h=>?_);obtain⟨p,g,x,D,y,B,R,S,e,rfl,⟨m,who,rfl⟩,b,o,I,O,tb,q,u⟩:=h;refine⟨_,(yG (yP (wN a V zB (pv 0) (yA (yN xG (pv 1) yK) (yA (yN xG (pv 1) yK) yF))))),?_⟩;obtain⟨J,G⟩:=o.book;have tk:∀ {d},wE (own x D y B) H d->zO Rf.2 d:=λk=>xF tb k o.kinds;have b:H g=some (.tup _):=b;refine⟨_,rfl,p,J,_,rfl,G,rfl,_,rfl,g,_,1,_,rfl,rfl,SqT.of b,rfl,_,rfl,g,_,2,_,rfl,rfl,SqT.of b,rfl,?_⟩;refine⟨p,x,D,y,B,R,S,m,who,rfl,o,I.c,λh=>u _ (.oneN h (.inr (.inr (.inr (.inl ⟨who,rfl⟩))))),λk r U v C=>?_⟩;subst U;exact⟨λh=>u _ (.copyC v C h),λN M d j i l k L=>q (.num (r.copies.length+1)) _ _ _ d j i (.copy v C N M) l k.t L (tk k) rfl (λ_ z=>nomatch z)⟩
abbrev X3:Stmt:=y7 "do_file"
theorem aVA:yJ ["book","deed"] ["book","deed"] (yD X3):=scM
theorem aVe(a:MG P w K mg base (CXR P w) n CB "lay_thread" ["self","number","name"] (bZZ K Rf CB CL))(F:Fun K "do_file" "do_file" X3 f fd):y0 P w K mg base (CXR P w) (n+1) f fd ["book","deed"] (aXW K Rf CB CL λe=>∃ (m:Int)(name:Str),e= .file m name):=by
 have N:=aVA;refine F.okX (k:=n) N (λI A outer s H O Q E M h=>?_);obtain⟨p,d,t,u,g,j,R,S,e,rfl,⟨m,name,rfl⟩,b,o,x,i,tb,q,D⟩:=h;refine⟨_,(yG (yP (wN a M zB (pv 0) (yA (yN xG (pv 1) yK) (yA (yN xG (pv 1) yK) yF))))),?_⟩;obtain⟨y,v⟩:=o.book;have tk:∀ {c},wE (own t u g j) H c->zO Rf.2 c:=λk=>xF tb k o.kinds;have b:H d=some (.tup _):=b;refine⟨_,rfl,p,y,_,rfl,v,rfl,_,rfl,d,_,1,_,rfl,rfl,SqT.of b,rfl,_,rfl,d,_,2,_,rfl,rfl,SqT.of b,rfl,?_⟩;refine⟨p,t,u,g,j,R,S,m,name,rfl,o,x.r,i,tb,λh=>D _ (.oneN h (.inr (.inr (.inr (.inr (.inl ⟨name,rfl⟩)))))),λk r J G L c l C B=>?_⟩;subst J;exact q (.num (Bk.thr R k).length) _ _ _ c g j (.file G L) l C uE.refl B rfl (λ_ z=>nomatch z)
abbrev X7:Stmt:=y7 "do_void"
theorem aVE:yJ ["book","deed"] ["book","deed"] (yD X7):=scM
theorem aVi(a:MG P w K mg base (CXR P w) n CB "cancel" ["self","number"] (aJt K Rf CB CL))(F:Fun K "do_void" "do_void" X7 f fd):y0 P w K mg base (CXR P w) (n+1) f fd ["book","deed"] (aXW K Rf CB CL λe=>∃ (m:Int),e= .void m):=by
 have T:=aVE;refine F.okX (k:=n) T (λM A outer s H U Q E O h=>?_);obtain⟨o,l,v,C,x,y,R,S,e,rfl,⟨m,rfl⟩,d,j,G,L,tb,q,p⟩:=h;refine⟨_,(yC (yQ (wN a O zB (pv 0) (yA (yN xG (pv 1) yK) yF))) (yG (yP y1))),?_⟩;obtain⟨I,D⟩:=j.book;have tk:∀ {b},wE (own v C x y) H b->zO Rf.2 b:=λk=>xF tb k j.kinds;have d:H l=some (.tup _):=d;refine⟨_,rfl,o,I,_,rfl,D,rfl,_,rfl,l,_,1,_,rfl,rfl,SqT.of d,rfl,?_⟩;refine⟨o,v,C,x,y,R,S,m,rfl,j,by have:=G.r;omega,λh=>p _ (.oneN h (.inr (.inr (.inr (.inr (.inr (.inl rfl))))))),λk r N u B=>?_⟩;subst N;exact⟨λh=>p _ (.voidA u B h),λh b i c g k J=>q (.txt "void") _ _ _ b i c (.void u B h) g k.t J (tk k) rfl (λ_ z=>nomatch z)⟩
abbrev X5:Stmt:=y7 "do_shut"
theorem aVC:yJ ["book","deed"] ["book","deed"] (yD X5):=scM
theorem aVg(a:MG P w K mg base (CXR P w) n CB "shut_day" ["self","day"] (bXu K Rf CB CL))(F:Fun K "do_shut" "do_shut" X5 f fd):y0 P w K mg base (CXR P w) (n+1) f fd ["book","deed"] (aXW K Rf CB CL λe=>∃ (d:Int),e= .shut d):=by
 have L:=aVC;refine F.okX (k:=n) L (λI A outer s H M Q E J h=>?_);obtain⟨o,m,p,v,r,u,R,S,e,rfl,⟨d,rfl⟩,g,l,y,G,tb,q,D⟩:=h;refine⟨_,(yC (yQ (wN a J zB (pv 0) (yA (yN xG (pv 1) yK) yF))) (yG (yP y1))),?_⟩;obtain⟨B,x⟩:=l.book;have tk:∀ {b},wE (own p v r u) H b->zO Rf.2 b:=λk=>xF tb k l.kinds;have g:H m=some (.tup _):=g;refine⟨_,rfl,o,B,_,rfl,x,rfl,_,rfl,m,_,1,_,rfl,rfl,SqT.of g,rfl,?_⟩;refine⟨o,p,v,r,u,R,S,d,rfl,l,by have:=y.s;omega,λh=>D _ (.shutN h),λh b j c i k C=>?_⟩;exact q (.txt "shut") _ _ _ b j c (.shut h) i k.t C (tk k) rfl (λ_ z=>nomatch z)
abbrev uB:Stmt:=y7 "ask_state"
theorem aXR:yJ ["book","deed"] ["book","deed"] (yD uB):=scM
theorem aXB(a:MG P w K mg base (CXR P w) n CB "state_of" ["self","number"] (aXZ K Rf CB CL))(F:Fun K "ask_state" "ask_state" uB f fd):y0 P w K mg base (CXR P w) (n+1) f fd ["book","deed"] (aXW K Rf CB CL λe=>∃ (m:Int),e= .state m):=by
 have J:=aXR;refine F.okX (k:=n) J (λC A outer s H M Q E I h=>?_);obtain⟨o,j,p,u,g,i,R,S,e,rfl,⟨m,rfl⟩,d,b,L,B,tb,q,y⟩:=h;refine⟨_,(yG (yP (wN a I zB (pv 0) (yA (yN xG (pv 1) yK) yF)))),?_⟩;obtain⟨x,v⟩:=b.book;have tk:∀ {H'},wE (own p u g i) H H'->zO Rf.2 H':=λk=>xF tb k b.kinds;have d:H j=some (.tup _):=d;refine⟨_,rfl,o,x,_,rfl,v,rfl,_,rfl,j,_,1,_,rfl,rfl,SqT.of d,rfl,?_⟩;refine⟨o,p,u,g,i,R,S,m,rfl,b,λk r l D z G hl=>?_,λh=>y _ (.oneN h (.inr (.inr (.inr (.inr (.inr (.inr (.inl rfl))))))))⟩;subst D;have c:=yI hl (.tup (stV r));exact q (.row r) _ _ _ _ g i (.state z G) (b.same c) (u4.of c.t) uE.refl (tk (wE.of c)) ⟨l,rfl,b.notnone hl,yB⟩ (aJJ.none hl)
abbrev vM:Stmt:=y7 "ask_thread"
theorem aQS:yJ ["book","deed"] ["book","deed"] (yD vM):=scM
theorem aQx(a:MG P w K mg base (CXR P w) n CB "thread_of" ["self","number"] (vU K Rf CB CL))(F:Fun K "ask_thread" "ask_thread" vM f fd):y0 P w K mg base (CXR P w) (n+1) f fd ["book","deed"] (aXW K Rf CB CL λe=>∃ (m:Int),e= .thread m):=by
 have M:=aQS;refine F.okX (k:=n) M (λG A outer s H N Q E L h=>?_);obtain⟨p,o,u,v,g,j,R,S,e,rfl,⟨m,rfl⟩,d,b,y,i,tb,q,C⟩:=h;refine⟨_,(yG (yP (wN a L zB (pv 0) (yA (yN xG (pv 1) yK) yF)))),?_⟩;obtain⟨z,x⟩:=b.book;have tk:∀ {c},wE (own u v g j) H c->zO Rf.2 c:=λk=>xF tb k b.kinds;have d:H o=some (.tup _):=d;refine⟨_,rfl,p,z,_,rfl,x,rfl,_,rfl,o,_,1,_,rfl,rfl,SqT.of d,rfl,?_⟩;refine⟨p,u,v,g,j,R,S,m,rfl,b,y.r,i.tree,tb,λh=>C _ (.oneN h (.inr (.inr (.inr (.inr (.inr (.inr (.inr (.inl rfl))))))))),λk r I D J c l nl t B hl=>?_⟩;subst I;exact q (.nums (Bk.thr R k)) _ _ _ c g j (.thread D J) (b.sameT t) (u4.of t) uE.refl B ⟨l,rfl,b.notown nl,hl⟩ (aJJ.nl nl)
abbrev vL:Stmt:=y7 "ask_copies"
theorem aQR:yJ ["book","deed"] ["book","deed"] (yD vL):=scM
theorem aQw(a:MG P w K mg base (CXR P w) n CB "copies_of" ["self","number"] (aJv K Rf CB CL))(F:Fun K "ask_copies" "ask_copies" vL f fd):y0 P w K mg base (CXR P w) (n+1) f fd ["book","deed"] (aXW K Rf CB CL λe=>∃ (m:Int),e= .copies m):=by
 have J:=aQR;refine F.okX (k:=n) J (λC A outer s H M Q E I h=>?_);obtain⟨o,j,p,u,g,i,R,S,e,rfl,⟨m,rfl⟩,d,b,L,B,tb,q,y⟩:=h;refine⟨_,(yG (yP (wN a I zB (pv 0) (yA (yN xG (pv 1) yK) yF)))),?_⟩;obtain⟨x,v⟩:=b.book;have tk:∀ {H'},wE (own p u g i) H H'->zO Rf.2 H':=λk=>xF tb k b.kinds;have d:H j=some (.tup _):=d;refine⟨_,rfl,o,x,_,rfl,v,rfl,_,rfl,j,_,1,_,rfl,rfl,SqT.of d,rfl,?_⟩;refine⟨o,p,u,g,i,R,S,m,rfl,b,λk r l D z G hl=>?_,λh=>y _ (.oneN h (.inr (.inr (.inr (.inr (.inr (.inr (.inr (.inr rfl)))))))))⟩;subst D;have c:=yI hl (.lst (r.copies.map V.str));exact q (.txts r.copies) _ _ _ _ g i (.copies z G) (b.same c) (u4.of c.t) uE.refl (tk (wE.of c)) ⟨l,rfl,b.notnone hl,yB⟩ (aJJ.none hl)
abbrev wX:Stmt:=y7 "ask_letters"
theorem Q0:yJ ["book","deed"] ["book","deed"] (yD wX):=scM
theorem W9(a:MG P w K mg base CX0 n CB "letters_in" ["self","name"] (Z1 CB CL))(F:Fun K "ask_letters" "ask_letters" wX f fd):y0 P w K mg base (CXR P w) (n+1) f fd ["book","deed"] (aXW K Rf CB CL λe=>∃ (name:Str),e= .letters name):=by
 have D:=Q0;refine F.okX (k:=n) D (λB A outer s H I Q E C h=>?_);obtain⟨o,m,p,u,g,j,R,S,e,rfl,⟨name,rfl⟩,d,b,x,z,tb,q,G⟩:=h;refine⟨_,(yG (yP (wN a C vB (pv 0) (yA (yN xG (pv 1) yK) yF)))),?_⟩;obtain⟨y,v⟩:=b.book;have tk:∀ {H'},wE (own p u g j) H H'->zO Rf.2 H':=λk=>xF tb k b.kinds;have d:H m=some (.tup _):=d;refine⟨_,rfl,o,y,_,rfl,v,rfl,_,rfl,m,_,1,_,rfl,rfl,SqT.of d,rfl,?_⟩;refine⟨o,p,u,g,j,R,S,name,rfl,b,x.r,λl hl=>?_⟩;have c:=yI hl (.lst ((aWq R name).map λi=>V.int (i:Nat)));exact q (.nums (aWq R name)) _ _ _ _ g j .letters (b.same c) (u4.of c.t) uE.refl (tk (wE.of c)) ⟨l,rfl,b.notnone hl,yB⟩ (aJJ.none hl)
abbrev wZ:Stmt:=y7 "ask_waiting"
theorem Q2:yJ ["book","deed"] ["book","deed"] (yD wZ):=scM
theorem J7(a:MG P w K mg base CX0 n CB "waiting" ["self","day"] (bVv CB CL false))(F:Fun K "ask_waiting" "ask_waiting" wZ f fd):y0 P w K mg base (CXR P w) (n+1) f fd ["book","deed"] (aXW K Rf CB CL λe=>∃ (d:Int),e= .on false d):=by
 have L:=Q2;refine F.okX (k:=n) L (λI A outer s H N Q E J h=>?_);obtain⟨x,u,y,z,o,p,R,S,e,rfl,⟨d,rfl⟩,m,b,v,G,tb,q,M⟩:=h;refine⟨_,(yG (yP (wN a J vB (pv 0) (yA (yN xG (pv 1) yK) yF)))),?_⟩;obtain⟨C,B⟩:=b.book;have tk:∀ {c},wE (own y z o p) H c->zO Rf.2 c:=λk=>xF tb k b.kinds;have m:H u=some (.tup _):=m;refine⟨_,rfl,x,C,_,rfl,B,rfl,_,rfl,u,_,1,_,rfl,rfl,SqT.of m,rfl,?_⟩;refine⟨x,y,z,o,p,R,S,d,rfl,b,v.r,v.s,λl c D j hl g i=>?_⟩;exact q (.nums D) _ _ _ c o p (.on i) (b.same j) (u4.of j.t) uE.refl (tk (wE.of j)) ⟨l,rfl,b.notnone hl,g⟩ (aJJ.none hl)
abbrev wY:Stmt:=y7 "ask_overdue"
theorem Q1:yJ ["book","deed"] ["book","deed"] (yD wY):=scM
theorem J2(a:MG P w K mg base CX0 n CB "overdue" ["self","day"] (bVv CB CL true))(F:Fun K "ask_overdue" "ask_overdue" wY f fd):y0 P w K mg base (CXR P w) (n+1) f fd ["book","deed"] (aXW K Rf CB CL λe=>∃ (d:Int),e= .on true d):=by
 have L:=Q1;refine F.okX (k:=n) L (λI A outer s H N Q E J h=>?_);obtain⟨x,u,y,z,o,p,R,S,e,rfl,⟨d,rfl⟩,m,b,v,G,tb,q,M⟩:=h;refine⟨_,(yG (yP (wN a J vB (pv 0) (yA (yN xG (pv 1) yK) yF)))),?_⟩;obtain⟨C,B⟩:=b.book;have tk:∀ {c},wE (own y z o p) H c->zO Rf.2 c:=λk=>xF tb k b.kinds;have m:H u=some (.tup _):=m;refine⟨_,rfl,x,C,_,rfl,B,rfl,_,rfl,u,_,1,_,rfl,rfl,SqT.of m,rfl,?_⟩;refine⟨x,y,z,o,p,R,S,d,rfl,b,v.r,v.s,λl c D j hl g i=>?_⟩;exact q (.nums D) _ _ _ c o p (.on i) (b.same j) (u4.of j.t) uE.refl (tk (wE.of j)) ⟨l,rfl,b.notnone hl,g⟩ (aJJ.none hl)
end
end Desk
namespace Desk
open PySem L2 PyProof.Rows
open Bk (Row Rows y3 Ans xX)
open Thr (zO wL uH)
structure bVC(P:bW3)(w:bKa)(K:bWI)(D:Nat)(kvs:List (Key×bWG)):Prop where
 at_:∃o es ep,K.lookup D=some o/\o.ExactDict/\o.data= .dict es ep/\KeysOf (xJ P w) es/\Pairs (xJ P w) es.toList kvs/\(kvs.map (·.1)).Nodup
inductive bV4(kvs:List (Key×bWG))(Q:VK)(y:V)(H1:Hp):Prop|mk (x:Str) (f:Nat) (_:y= .str x) (_:cQI kvs (Sum.inr x)=some (.ref f)) (_:Q (.ref f) H1)
def bWE(a:List (Key×bWG))(c:TE):TE:=λσ H Q=>c σ H λy b=>bV4 a Q y b
theorem bJS{X:Cx}{x:Str}{D:Nat}{a:List (Key×bWG)}{i:Expr}{d:TE}{p pos:Pos}(m:Gl X x)(r:X.mg x=some (.ref D))(T:bVC X.prog X.w X.K D a)(l:PE X i d)(q:bVy i)(c:(x==("__debug__":Str))=false:=by decide):
  PE X (.Subscript (.Name x p) i pos) (bWE a d):=by
 intro b s σ H Q I h
 refine aK1 cX0.lookup q (vI I m r (thn (l b s σ H _ I h) λiv s2 ⟨y,H2,I2,ry,x',f,ex,hv,q2⟩=>?_) c)
 subst ex
 obtain⟨o,v,n,t,j,g,z,A,u⟩:=T.at_
 have e:s2.heap.DictOf (xJ X.prog X.w) D a:=⟨o,v,n,I2.kIn _ _ t,j,g,z,A,u⟩
 exact⟨e.typeIs,wpAny_getItem_of (aWu (k:=Sum.inr x') ry) e.mapOf hv ⟨.ref f,H2,I2.tok _,rfl,q2⟩⟩
inductive bXw(P:bW3)(w:bKa)(K:bWI)(mg:Str->Option bWG)(base:Heap)(k i:Nat)(E:XK)(t:TA)(σ:L2.St)(H:Hp)(Q:VK):Prop|mk (f) (_:σ[i]? =some (some (.ref f))) (_:bKy K (.ref f)=true) (_:t σ H λvs H1=>∃fd ps sp,y0 P w K mg base (CXR P w) k f fd ps sp/\wP K fd ps []/\sp vs H1 Q E)
theorem aY9{X:Cx}{k i:Nat}{x:Str}{e:Expr}{es:List Expr}{t:TA}{E:XK}{p pos:Pos}(D:wR k X.A)(o:X.N[i]? =some x)(C:Vis X.env.scope x)(n:wF (CXR X.prog X.w) X E)(l:PA X (e::es) t)
  (d:(x==("__debug__":Str))=false:=by decide) (c:(x==("__classdict__":Str))=false:=by decide) (G:bKi (e::es) X.env=(false,eval e X.env)::bKi es X.env:=by rfl) (j:(bYD pos (bKi es X.env)).any (·.1)=false:=by rfl):
  PE X (.Call (.Name x p) (e::es) [] pos) (bXw X.prog X.w X.K X.mg X.base k i E t):=by
 intro a s σ H Q I h
 obtain⟨f,y,J,q⟩:=h
 refine bYk (thn (bXh (pos:=p) o C d c a s σ H (λv g=>v= .ref f/\g=H) I ⟨_,y,rfl,rfl⟩) ?_)
 rintro u z ⟨v,g,B,m,rfl,rfl⟩
 obtain rfl:u=Value.ref f:=m
 refine cQv (h₀:=X.base) I.ok.mod.kin J (thn (l pos a z σ g _ B q) λus s2 ⟨vs,H2,I2,r,fd,ps,sp,F,b,q2⟩=>⟨I2.kIn,?_⟩) G j
 exact aXO F D b .nil n I2 r (by rw[bKI];exact q2)
def bX3:y3->Str
 |.enter b _ _ _=>b
 |.reply _ _ _=>"reply"
 |.hang _ _=>"hang"
 |.loose _=>"loose"
 |.date _ _=>"date"
 |.term _ _=>"term"
 |.copy _ _=>"copy"
 |.file _ _=>"file"
 |.void _=>"void"
 |.shut _=>"shut"
 |.state _=>"state"
 |.thread _=>"thread"
 |.copies _=>"copies"
 |.letters _=>"letters"
 |.on a _=>if a then "overdue" else "waiting"
def Wf:y3->Prop
 |.enter a _ _ _=>a="in"\/a="out"
 |_=>True
theorem aYl(e:y3):atI (z8 e) 0=some (.str (bX3 e)):=by cases e<;> rfl
def bJd(P:bW3)(w:bKa)(K:bWI)(mg:Str->Option bWG)(base:Heap)(n:Nat)(Rf:Nat×Nat)(c CL:Nat)(a:List (Key×bWG)):Prop:=∀e:y3,Wf e->∃ (f:Nat)(b:bYF)(p:y3->Prop),cQI a (Sum.inr (bX3 e))=some (.ref f)/\
 y0 P w K mg base (CXR P w) n f b ["book","deed"] (aXW K Rf c CL p)/\p e/\wP K b ["book","deed"] []/\bKy K (.ref f)=true
inductive aQV(Rf:Nat×Nat)(CB CL:Nat)(vs:List V)(H:Hp)(Q:VK)(_:XK):Prop|mk (ba da la sa:Nat) (ls cs:List Nat) (R:Rows) (S:List Int) (e:y3) (_:vs= [.ref ba,.ref da]) (_:Wf e) (_:H da=some (.tup (z8 e))) (_:PB CB CL H ba la sa ls cs R S) (_:Sz R S) (_:Bk.Q5 R) (_:zO Rf.2 H) (_:∀ (a:Ans)(R':Rows)(S':List Int)(v:V)(H':Hp)(ls' cs':List Nat),xX R S e a R' S'->PB CB CL H' ba la sa ls' cs' R' S'->u4 (own la sa ls cs) H H'->uE H (own la sa ls cs) (own la sa ls' cs')->zO Rf.2 H'->Q4 (own la sa ls' cs') H' a v->aJJ H v->Q v H')
section
variable {K:bWI}
abbrev aZB:Stmt:=y7 "answer"
theorem aKy:yJ ["book","deed","do","refusal"] ["book","deed"] (yD aZB):=scM
theorem aWS(G:mg "DEEDS"=some (.ref D))(Z:bVC P w K D kvs)(hR:mg "Refused"=some (.ref Rf.1))(Y:wQ K Rf.1)(all:bJd P w K mg base n Rf CB CL kvs)(F:Fun K "answer" "answer" aZB f fd): y0 P w K mg base CX0 (n+1) f fd ["book","deed"] (aQV Rf CB CL):=by
 have x:=aKy;refine F.ok (k:=n) x (λW A outer s H vs Q E X h=>?_);obtain⟨J,m,N,sa,p,r,R,S,e,rfl,j,o,v,y,g,tb,q⟩:=h;refine⟨_,(yC (yO (i:=2) (bJS rfl G Z (yN xG (pv 1) yK) (λ_ _=>rfl))) (yG (bJX (i:=3) x.nd rfl rfl rfl hR Y rfl rfl rfl (by decide) (by decide) (by decide) (λ_=>rfl) (tb:=λE=>bWh (bXw P w K mg base n 2 E (aVN (bZ4 0) (aVN (bZ4 1) bQJ)))) (λpn xe E I=>yG (yP (aY9 X rfl (Or.inl rfl) I (yA (pv 0) (yA (pv 1) yF)))))))),?_⟩;obtain⟨u,c,pe,V,T,d,l,b⟩:=all e j;refine⟨_,rfl,m,_,0,_,rfl,rfl,SqT.of o,aYl e,bX3 e,u,rfl,V,?_⟩;dsimp only[yS];refine⟨u,rfl,b,_,rfl,_,rfl,c,_,_,T,l,J,m,N,sa,p,r,R,S,e,rfl,d,o,v,y,g,tb,q,λt a=>?_⟩;intro C B O U M k L;exact⟨C,B,t,rfl,rfl,U,M,L,q (.txt t) R S _ O p r a (v.sameT k.1) (u4.of k.1) uE.refl (k.2 tb) rfl (λ_ z=>nomatch z)⟩
inductive Run:Rows->List Int->List y3->List Ans->Rows->List Int->Prop
 |nil {R:Rows} {S:List Int}:Run R S [] [] R S
 |snoc {R R' R'':Rows} {S S' S'':List Int} {es:List y3} {as:List Ans} {e:y3} {a:Ans} (h:Run R S es as R' S') (d:xX R' S' e a R'' S''):Run R S (es++ [e]) (as++ [a]) R'' S''
theorem Run.len{R e:Rows}{S c:List Int}{es:List y3}{a:List Ans}(h:Run R S es a e c):es.length=a.length:=by
 induction h with
 |nil=>rfl
 |snoc h d b=>simp[b]
structure Up(t:Nat)(R:Rows)(S:List Int):Prop where
 r:R.length<=t
 s:S.length<=t
 c:∀r∈R,r.copies.length<=t
theorem Up.set{t:Nat}{R:Rows}{S:List Int}(u:Up t R S)(k:Nat)(f:Row->Row)(a:∀r,(f r).copies.length<=r.copies.length+1):Up (t+1) (Bk.xD R k f) S:=
 ⟨by rw[Bk.xS];exact bYg u.r,bYg u.s,λr b=>by
  rcases Bk.qV b with h|⟨q,h,rfl⟩
  ·exact bYg (u.c r h)
  ·exact bKh (a q) (Nat.succ_le_succ (u.c q h))⟩
theorem qO{name:Str}:∀ (l:List Nat)(R:Rows)(t:Nat),(∀r∈R,r.copies.length<=t)->∀r∈Bk.laid R l name,r.copies.length<=t
 |[],R,t,h,r,hr=>h r hr
 |k::l,R,t,h,r,hr=>qO l (Bk.xD R k λr=>{r with place:=name}) t (λq a=>by
   rcases Bk.qV a with z|⟨b,z,rfl⟩
   ·exact h q z
   ·exact h b z) r hr
theorem Up.laid{t:Nat}{R:Rows}{S:List Int}(u:Up t R S)(l:List Nat)(name:Str):Up t (Bk.laid R l name) S:=⟨by rw[Bk.wV];exact u.r,u.s,qO l R t u.c⟩
theorem Up.le{t:Nat}{R:Rows}{S:List Int}(u:Up t R S):Up (t+1) R S:=⟨bYg u.r,bYg u.s,λr h=>bYg (u.c r h)⟩
theorem Up.snoc{t:Nat}{R:Rows}{S:List Int}(u:Up t R S)(r:Row)(h:r.copies= []):Up (t+1) (R++ [r]) S:=⟨by simpa using u.r,bYg u.s,λq a=>by
 rcases bKn.mp a with z|z
 ·exact bYg (u.c q z)
 ·rw[bW8.mp z,h];exact bKt _⟩
theorem Up.done{t:Nat}{R d:Rows}{S b:List Int}{e:y3}{a:Ans}(u:Up t R S)(h:xX R S e a d b):Up (t+1) d b:=by
 cases h with
 |enter _=>exact u.snoc _ rfl
 |reply _ _ _ _=>exact u.snoc _ rfl
 |hang _ _ _ _ _ _ _ _ _=>exact(u.laid _ _).set _ _ λ_=>bYN _
 |loose _ _ _=>exact u.set _ _ λ_=>bYN _
 |date _ _ _ _=>exact u.set _ _ λ_=>bYN _
 |term _ _ _=>exact u.set _ _ λ_=>bYN _
 |copy _ _ _ _=>exact u.set _ _ λr=>by simp
 |file _ _=>exact(u.laid _ _).le
 |void _ _ _=>exact u.set _ _ λ_=>bYN _
 |shut _=>exact⟨bYg u.r,by simpa using u.s,λr h=>bYg (u.c r h)⟩
 |_=>exact u.le
theorem Up.sz{t:Nat}{R:Rows}{S:List Int}(u:Up t R S)(h:t<64):Sz R S:=⟨by have:=u.r;omega,by have:=u.s;omega,λr a=>by have:=u.c r a;omega⟩
end
end Desk
namespace Desk
open PySem L2 PyProof.Rows
open Bk (Row Rows y3 Ans xX)
open Thr (zO wL uH)
def y6(H:Hp)(b:Nat)(a:List Nat)(es:List y3):Prop:=H b=some (.lst (a.map V.ref))/\a.length=es.length/\∀ (i:Nat)(d:Nat)(e:y3),a[i]? =some d->es[i]? =some e->H d=some (.tup (z8 e))
theorem y6.same{H b:Hp}{c:Nat}{a:List Nat}{es:List y3}(h:y6 H c a es)(k:xO H b):y6 b c a es:=⟨k.lst h.1,h.2.1,λi d e f g=>k.tup (h.2.2 i d e f g)⟩
theorem Q4.kept{o b:List Nat}{H d:Hp}{a:Ans}{v:V}(h:Q4 o H a v)(k:u4 o H d)(g:uE H o b):Q4 b d a v:=by
 have c:∀p u,p∉o->H p=some u->p∉b:=λp u n e z=>by
  rcases g p z with q|q
  ·exact n q
  ·rw[q]at e;cases e
 cases a with
 |num n=>exact h
 |txt x=>exact h
 |nums l=>obtain⟨p,e,n,q⟩:=h;exact⟨p,e,c p _ n q,k _ _ n (by intro _ z;cases z) q⟩
 |txts l=>obtain⟨p,e,n,q⟩:=h;exact⟨p,e,c p _ n q,k _ _ n (by intro _ z;cases z) q⟩
 |row r=>obtain⟨p,e,n,q⟩:=h;exact⟨p,e,c p _ n q,k _ _ n (by intro _ z;cases z) q⟩
theorem Q4.bare{o:List Nat}{H:Hp}{a:Ans}{v:V}(h:Q4 o H a v):Q4 [] H a v:=by
 cases a with
 |num n=>exact h
 |txt x=>exact h
 |nums l=>obtain⟨p,e,n,q⟩:=h;exact⟨p,e,by simp,q⟩
 |txts l=>obtain⟨p,e,n,q⟩:=h;exact⟨p,e,by simp,q⟩
 |row r=>obtain⟨p,e,n,q⟩:=h;exact⟨p,e,by simp,q⟩
theorem Q4.more{o:List Nat}{D:Nat}{H:Hp}{a:Ans}{v:V}(h:Q4 o H a v)(n:∀p,v= .ref p->p≠D):Q4 (D::o) H a v:=by
 have b:∀p,v= .ref p->p∉o->p∉D::o:=λp e q z=>(bWU.mp z).elim (n p e) q;cases a with
 |num n=>exact h
 |txt x=>exact h
 |nums l=>obtain⟨p,e,q⟩:=h;exact⟨p,e,b p e q.1,q.2⟩
 |txts l=>obtain⟨p,e,q⟩:=h;exact⟨p,e,b p e q.1,q.2⟩
 |row r=>obtain⟨p,e,q⟩:=h;exact⟨p,e,b p e q.1,q.2⟩
structure Z7(H0:Hp)(CB CL T:Nat)(ba:Nat)(es:List y3)(as:List Ans)(H:Hp)(o:List Nat):Prop where
 ex:∃ (la sa:Nat)(ls cs:List Nat)(R:Rows)(S:List Int),o=own la sa ls cs/\PB CB CL H ba la sa ls cs R S/\Up es.length R S/\Bk.Q5 R/\Run [] [] es as R S
 tab:zO T H
 keep:xO H0 H
 new:∀b∈o,∀u,(∀ps,u≠HO.tbl ps)->H0 b≠some u
inductive uS(Rf:Nat×Nat)(vs:List V)(H:Hp)(Q:VK)(_:XK):Prop|mk (ds:Nat) (das:List Nat) (es:List y3) (_:vs= [.ref ds]) (_:y6 H ds das es) (_:es.length<60) (_:(∀e∈es,Wf e)) (_:zO Rf.2 H) (_:∀ (l:Nat)(H':Hp)(vs:List V)(as:List Ans)(R':Rows)(S':List Int),xO H H'->zO Rf.2 H'->Run [] [] es as R' S'->Bk.Q5 R'->H' l=some (.lst vs)->bYi (λv a=>Q4 [] H' a v) vs as->Q (.ref l) H')
theorem uU{T:Nat}{H a:Hp}(t:zO T H)(k:xV H a):zO T a:=(aVT.of k).2 t
theorem Z7.start{H:Hp}{n CL T x dx la sa:Nat}{f a:Hp}(tb:zO T H)(s:H x=none)(l:H dx=none)(B:dx≠x)(q:f=upd (upd H dx (.own x)) x (.ins n dx []))(j:f la=none)(g:f sa=none)(p:la≠sa) (E:a x=some (.ins n dx [("letters",.ref la),("shut",.ref sa)])) (D:a la=some (.lst [])) (C:a sa=some (.lst [])) (F:∀b,b≠x->b≠la->b≠sa->a b=f b):Z7 H n CL T x [] [] a (own la sa [] [])/\xV H a:=by
 have m:∀b,f b=none->H b=none:=λb e=>by
  subst q;by_cases z:b=x
  ·rw[z];exact s
  ·rw[yH z]at e;by_cases z2:b=dx
   ·rw[z2];exact l
   ·rw[yH z2]at e;exact e
 have k:xV H a:=λb o e=>by have v:=yE e s;have A:=yE e l;rw[F b v (yE e (m _ j)) (yE e (m _ g)),q,yH v,yH A];exact e
 refine⟨⟨⟨la,sa,[],[],[],[],rfl,⟨⟨dx,E⟩,D,C,rfl,rfl,.nil,.nil,p,by simp,by simp,λi b c r e=>by simp at e⟩,⟨bWN _,bWN _,λr h=>by simp at h⟩,Bk.aYe,.nil⟩,uU tb k,k.t,λb d u _ z=>?_⟩,k⟩;have w:H b=none->False:=λy=>by rw[y]at z;cases z
 rcases bWU.mp d with e|d
 ·exact w (by rw[e];exact m _ j)
 rcases bWU.mp d with e|d
 ·exact w (by rw[e];exact m _ g)
 ·simp at d
theorem Z7.step{D:Hp}{m CL T l:Nat}{es:List y3}{B:List Ans}{H:Hp}{o:List Nat}{e:y3}(g:Z7 D m CL T l es B H o)(hw:Wf e)(hz:es.length<60){n:Nat}(K:H n=some (.tup (z8 e))){Q:VK}{Rf:Nat×Nat}(U:Rf.2=T) (q:∀ (a:Ans)(v:V)(f:Hp)(p:List Nat),Z7 D m CL T l (es++ [e]) (B++ [a]) f p->Q4 p f a v->aJJ H v->u4 o H f->uE H o p->Q v f):aQV Rf m CL [.ref l,.ref n] H Q E0:=by
 subst U;obtain⟨A,E,L,M,R,S,rfl,W,C,j,i⟩:=g.ex;refine⟨l,n,A,E,L,M,R,S,e,rfl,hw,K,W,C.sz (by omega),j,g.tab,λa I X v f x r c s k y O P J=>?_⟩;refine q a v f _ ⟨⟨A,E,x,r,I,X,rfl,s,?_,Bk.xX.book j ?_ c,.snoc i c⟩,O,λb u h e=>k b u (λz=>g.new b z u h e) h (g.keep b u h e),λb F u h z0=>?_⟩ P J k y
 ·rw[bWW,bKY];exact C.done c
 ·intro G d w t N;subst N;exact hw
 ·rcases y b F with z|z
  ·exact g.new b z u h z0
  ·rw[g.keep b u h z0]at z;cases z
theorem Z7.write{l:Hp}{m CL T s:Nat}{es:List y3}{x:List Ans}{H:Hp}{o:List Nat}(g:Z7 l m CL T s es x H o){D:Nat}{xs ys:List V}(A:H D=some (.lst xs))(nD:D∉o)(h0:l D=none):Z7 l m CL T s es x (upd H D (.lst ys)) o:=by
 have h:∀ {a u},H a=some u->(∀xs,u≠ .lst xs)->a≠D:=λq n z=>by rw[z,A]at q;cases q;exact n _ rfl
 obtain⟨E,M,F,I,R,S,rfl,d,G,k,f⟩:=g.ex;refine⟨⟨E,M,F,I,R,S,rfl,⟨?_,?_,?_,d.len,d.clen,d.nd,d.cnd,d.las,d.lac,d.sac,λi b c r C p B=>?_⟩,G,k,f⟩,?_,λb u K e=>?_,g.new⟩
 ·obtain⟨j,e⟩:=d.book;exact⟨j,by rw[yH (h e (by intro _ z;cases z))];exact e⟩
 ·rw[yH (λz=>nD (by rw[<- z];exact aJh))];exact d.lst
 ·rw[yH (λz=>nD (by rw[<- z];exact aW1))];exact d.sht
 ·obtain⟨⟨j,y⟩,L⟩:=d.row i b c r C p B;exact⟨⟨j,by rw[yH (h y (by intro _ z;cases z))];exact y⟩,by rw[yH (λz=>nD (by rw[<- z];exact bZt (bW1 p)))];exact L⟩
 ·rcases g.tab with t|⟨J,v,w⟩
  ·exact .inl (by rw[yH (h t (by intro _ z;cases z))];exact t)
  ·exact .inr ⟨J,by rw[yH (h v (by intro _ z;cases z))];exact v,by rw[yH (h w (by intro _ z;cases z))];exact w⟩
 ·rw[yH (yE e h0)];exact g.keep b u K e
section
variable {K:bWI}
abbrev qC:Stmt:=y7 "answers"
theorem aVx:yJ ["deeds","book"] ["deeds"] (yD qC):=scM
theorem aJZ:y9 ["deeds","book"] (yD qC) "deed" ["book"] [1] (lsN [(".0",.local),("deed",.local),("answer",.globalImplicit),("book",.free)]):=
 lcM
theorem bZv{α β:Type}{F G:α->β->Prop}(h:∀a b,F a b->G a b):∀ {l:List α} {m:List β},bYi F l m->bYi G l m
 |_,_,.nil=> .nil
 |_,_,.cons r t=> .cons (h _ _ r) (bZv h t)
theorem aVb(B:MkG P w K mg base n "Book" CB ["self"] (aKO CB))(j:FnG P w K mg base (n+1) "answer" ["book","deed"] (aQV Rf CB CL))(F:Fun K "answers" "answers" qC f fd): y0 P w K mg base CX0 (n+2) f fd ["deeds"] (uS Rf):=by
 have sc:=aVx;refine F.ok (k:=n+1) sc (λb5 A outer s H vs Q E hr h=>?_);obtain⟨ds,d,l,rfl,hD,b4,b0,tb,q⟩:=h;refine⟨_,(yC (yO (i:=1) (bJQ B hr rfl)) (yG (yP (J8 aJZ rfl (xB (pv 0)) (λ_ _ _ _ _=>zG) (λ_ _ _ _ _=>(zE j hr rfl (yA (pv 1) (yA (pv 0) yF)))))))),?_⟩;intro x dx hx a5 a6;refine⟨x,dx,rfl,yB,λla sa H1 a9 b3 a7 h1 h2 h3 h4=>⟨rfl,?_⟩⟩;dsimp only[yS];obtain⟨g0,k0⟩:=Z7.start (CL:=CL) tb hx a5 a6 rfl a9 b3 a7 h1 h2 h3 h4;have b1:=hD.same k0.t;refine⟨_,rfl,ds,rfl,⟨_,SqL.of b1.1⟩,λD c=>?_⟩;have a4:(d.map V.ref).length=l.length:=by rw[bWK];exact hD.2.1
 have a8:H D=none:=k0.fresh c;refine⟨λi m I X=>m=l.length - i/\i<=l.length/\X D=some (.lst I)/\∃ (as:List Ans)(o:List Nat),Z7 H CB CL Rf.2 x (l.take i) as X o/\D∉o/\bYi (λv a=>Q4 (D::o) X a v) I as,⟨l.length,by simp,bKt _,yB,[],own la sa [] [],?_,?_,.nil⟩,?_⟩
 ·have kD:=yI c (.lst []);obtain⟨N,O,M,L,R,S,e1,e2,e3,e4,T⟩:=g0.ex;exact⟨⟨N,O,M,L,R,S,e1,e2.same kD,e3,e4,T⟩,uU g0.tab kD,λb u nt e=>kD _ _ (g0.keep b u nt e),g0.new⟩
 ·intro z;rcases bWU.mp z with e|z
  ·rw[e,h2]at c;cases c
  rcases bWU.mp z with e|z
  ·rw[e,h3]at c;cases c
  ·simp at z
 ·rintro i m I X ⟨rfl,hi,r,as,o,g,nD,hP⟩;have G:=hD.same g.keep;refine⟨r,?_⟩;by_cases C:i<l.length
  ·have b2:i<d.length:=by rw[hD.2.1];exact C
   have J:=bWF b2;have a0:=bWF C;refine .inr ⟨⟨d.map V.ref,.ref d[i],SqL.of G.1,by rw[bWY,J];rfl⟩,λv H2 yl=>?_⟩;obtain⟨rfl,y⟩:=yl;have hv:(d.map V.ref)[i]? =some v:=y _ (SqL.of G.1);rw[bWY,J]at hv;cases hv;refine⟨_,rfl,_,rfl,?_⟩;refine g.step (b0 _ (bYI C)) (by rw[bKz];omega) (G.2.2 i _ _ J a0) rfl λa v U W g3 av nv k3 gr=>?_;have a3:l.take (i+1)=l.take i++ [l[i]]:=by rw[bYf,a0];rfl
   have b6:I.length<=i:=by obtain⟨N,O,M,L,R,S,e1,e2,e3,e4,T⟩:=g.ex;have:=T.len;rw[hP.length,<- this,bKz];omega
   have Y:U D=some (.lst I):=k3 _ _ nD (by intro _ z;cases z) r;have Z:D∉W:=λz=>by
    rcases gr D z with y|y
    ·exact nD y
    ·rw[r]at y;cases y
   refine⟨by rw[bKg];omega,Y,l.length - (i+1),by omega,rfl,C,yB,as++ [a],W,?_,Z,?_⟩
   ·rw[a3];exact g3.write Y Z a8
   ·have k4:u4 (D::W) U (upd U D (.lst (I++ [v]))):=u4.upd bWV _;have k5:u4 (D::o) H2 U:=λb u nb nt e=>k3 b u (λz=>nb (bWR _ z)) nt e;have a2:uE H2 (D::o) (D::W):=λb hb=>by
     rcases bWU.mp hb with e|hb
     ·exact .inl (by rw[e];exact bWV)
     ·exact(gr b hb).imp (bWR _) id
    have a1:Q4 (D::W) U a v:=av.more λp e z=>by rw[z]at e;exact nv D e _ (by intro _ z;cases z) r
    exact Law.aXF (F:=λv' a'=>Q4 (D::W) (upd U D (.lst (I++ [v]))) a' v') (a1.kept k4 uE.refl) (bZv (λv a (h:Q4 (D::o) H2 a v)=>(h.kept k5 a2).kept k4 uE.refl) hP)
  ·obtain rfl:i=l.length:=by omega
   obtain⟨N,O,M,L,R,S,e1,e2,e3,e4,T⟩:=g.ex;rw[bYp]at T;exact .inl ⟨⟨d.map V.ref,SqL.of G.1,by rw[a4];exact bWN _⟩,q D X I as R S g.keep g.tab T e4 r (bZv (λv a h=>h.bare) hP)⟩
end
end Desk
namespace Bk
open PySem (Str)
theorem bXX{R:Rows}{k:Nat}{r:Row}(a:R[k]? =some r)(b:r.void=false):vP R (k:Int)=true:=by
 unfold vP;rw[bKs,a];simp[b]
def one(R:Rows)(S:List Int)(m:Int)(f:Nat->Row->Ans×Rows×List Int):Ans×Rows×List Int:=if vP R m=false then(.txt "no letter",R,S)else match R[m.toNat]? with
 |some r=>f m.toNat r
 |none=>(.txt "no letter",R,S)
theorem bJH{R:Rows}{S:List Int}{m:Int}{f:Nat->Row->Ans×Rows×List Int}(h:vP R m=false):one R S m f=(.txt "no letter",R,S):=if_pos h
theorem zA{R:Rows}{k:Nat}{r:Row}(a:R[k]? =some r)(b:r.void=false):¬vP R (k:Int)=false:=by rw[bXX a b];exact Bool.noConfusion
theorem xL{R:Rows}{S:List Int}{k:Nat}{r:Row}{f:Nat->Row->Ans×Rows×List Int}(a:R[k]? =some r)(b:r.void=false):one R S (k:Int) f=f k r:=(if_neg (zA a b)).trans (by rw[bKs,a])
open Classical in
noncomputable def out (R:Rows) (S:List Int):y3->Ans×Rows×List Int
 |.enter e d b t=>if t<0 then(.txt "no term",R,S)else(.num R.length,R++ [⟨e,d,b,t,none,"",false,[]⟩],S)
 |.reply m d t=>if vP R m=false then(.txt "no letter",R,S)else if t<0 then(.txt "no term",R,S)else one R S m λk r=>if d<r.date then(.txt "too early",R,S)else(.num R.length,R++ [⟨wM r.way,d,r.partner,t,some k,r.place,false,[]⟩],S)
 |.hang m o=>if vP R m=false\/vP R o=false then(.txt "no letter",R,S)else one R S m λi r=>one R S o λj q=>if r.link≠none then(.txt "has one",R,S)else if(thr R j).head? =some i then(.txt "own thread",R,S)else
   if r.way=q.way then(.txt "same way",R,S)else if r.partner≠q.partner then(.txt "other partner",R,S)else if r.date<q.date then(.txt "too early",R,S)else(.txt "hung",xD (laid R (thr R i) q.place) i λr=>{r with link:=some j},S)
 |.loose m=>one R S m λk r=>if r.link=none then(.txt "has none",R,S)else(.txt "loose",xD R k λr=>{r with link:=none},S)
 |.date m d=>one R S m λk r=>if(∃j,r.link=some j/\d<dt R j)\/∃c∈zU R k,dt R c<d then(.txt "too early",R,S)else(.txt "dated",xD R k λr=>{r with date:=d},S)
 |.term m t=>one R S m λk r=>if t<0 then(.txt "no term",R,S)else(.txt "set",xD R k λr=>{r with term:=t},S)
 |.copy m w=>one R S m λk r=>if w=r.partner\/w∈r.copies then(.txt "copied",R,S)else(.num (r.copies.length+1),xD R k λr=>{r with copies:=r.copies++ [w] },S)
 |.file m w=>one R S m λk _=>(.num (thr R k).length,laid R (thr R k) w,S)
 |.void m=>one R S m λk r=>if zU R k= []then(.txt "void",xD R k λr=>{r with link:=none,void:=true},S)else(.txt "answered",R,S)
 |.shut d=>if Dm.cts S d=true then(.txt "shut",R,S++ [d])else(.txt "counts not",R,S)
 |.state m=>one R S m λ_ r=>(.row r,R,S)
 |.thread m=>one R S m λk _=>(.nums (thr R k),R,S)
 |.copies m=>one R S m λ_ r=>(.txts r.copies,R,S)
 |.letters w=>(.nums ((bWS R.length).filter λk=>match R[k]? with|some r=> !r.void && decide (r.place=w)|none=>false),R,S)
 |.on a d=>if h:∃l,aQ0 R S d a l then(.nums (choose h),R,S)else(.nums [],R,S)
theorem xX.out{R r:Rows}{S s:List Int}{e:y3}{a:Ans}(h:xX R S e a r s):out R S e=(a,r,s):=by
 cases h with
 |enter h=>exact if_neg (cXc.mpr h)
 |enterT h=>exact if_pos h
 |replyN h=>exact if_pos h
 |replyT h o=>exact(if_neg (by rw[h];exact Bool.noConfusion)).trans (if_pos o)
 |replyE f h o q=>exact(if_neg (zA f h)).trans ((if_neg (cXc.mpr o)).trans ((xL f h).trans (if_pos q)))
 |reply f h o q=>exact(if_neg (zA f h)).trans ((if_neg (cXc.mpr o)).trans ((xL f h).trans (if_neg (cXc.mpr q))))
 |hangN h=>exact if_pos h
 |hangH g d i hw h=>exact(if_neg (not_or.mpr ⟨zA g d,zA i hw⟩)).trans ((xL g d).trans ((xL i hw).trans (if_pos h)))
 |hangO g d i hw h n=>exact(if_neg (not_or.mpr ⟨zA g d,zA i hw⟩)).trans ((xL g d).trans ((xL i hw).trans ((if_neg (not_not_intro h)).trans (if_pos n))))
 |hangW g d i hw h n m=>exact(if_neg (not_or.mpr ⟨zA g d,zA i hw⟩)).trans ((xL g d).trans ((xL i hw).trans ((if_neg (not_not_intro h)).trans ((if_neg n).trans (if_pos m)))))
 |hangP g d i hw h n m k=>exact(if_neg (not_or.mpr ⟨zA g d,zA i hw⟩)).trans ((xL g d).trans ((xL i hw).trans ((if_neg (not_not_intro h)).trans ((if_neg n).trans ((if_neg m).trans (if_pos k))))))
 |hangE g d i hw h n m k p=>exact(if_neg (not_or.mpr ⟨zA g d,zA i hw⟩)).trans ((xL g d).trans ((xL i hw).trans ((if_neg (not_not_intro h)).trans ((if_neg n).trans ((if_neg m).trans ((if_neg (not_not_intro k)).trans (if_pos p)))))))
 |hang g d i hw h n m k p=>exact(if_neg (not_or.mpr ⟨zA g d,zA i hw⟩)).trans ((xL g d).trans ((xL i hw).trans ((if_neg (not_not_intro h)).trans ((if_neg n).trans ((if_neg m).trans ((if_neg (not_not_intro k)).trans (if_neg (cXc.mpr p))))))))
 |oneN h t=>rcases t with rfl|⟨_,rfl⟩|⟨_,rfl⟩|⟨_,rfl⟩|⟨_,rfl⟩|rfl|rfl|rfl|rfl<;> (unfold Bk.out;exact bJH h)
 |looseN f d h=>unfold Bk.out;exact(xL f d).trans (if_pos h)
 |loose f d h=>unfold Bk.out;exact(xL f d).trans (if_neg h)
 |dateE f d h=>unfold Bk.out;exact(xL f d).trans (if_pos h)
 |date f d m k=>unfold Bk.out;exact(xL f d).trans (if_neg (not_or.mpr ⟨λ⟨j,a,b⟩=>absurd (m j a) (Int.not_le.mpr b),λ⟨c,a,b⟩=>absurd (k c a) (Int.not_le.mpr b)⟩))
 |termN f d h=>unfold Bk.out;exact(xL f d).trans (if_pos h)
 |term f d h=>unfold Bk.out;exact(xL f d).trans (if_neg (cXc.mpr h))
 |copyC f d h=>unfold Bk.out;exact(xL f d).trans (if_pos h)
 |copy f d h k=>unfold Bk.out;exact(xL f d).trans (if_neg (not_or.mpr ⟨h,k⟩))
 |file f d=>unfold Bk.out;exact xL f d
 |voidA f d h=>unfold Bk.out;exact(xL f d).trans (if_neg h)
 |void f d h=>unfold Bk.out;exact(xL f d).trans (if_pos h)
 |shutN h=>exact if_neg (by rw[h];exact Bool.noConfusion)
 |shut h=>exact if_pos h
 |state f d=>unfold Bk.out;exact xL f d
 |thread f d=>unfold Bk.out;exact xL f d
 |copies f d=>unfold Bk.out;exact xL f d
 |letters=>rfl
 |on h=>exact(dif_pos ⟨_,h⟩).trans (by rw[(cXm (⟨_,h⟩:∃l,aQ0 R S _ _ l)).uniq h])
theorem xX.det{R g R2:Rows}{S f b:List Int}{e d:y3}{a c:Ans}(i:d=e)(h:xX R S e a g f)(j:xX R S d c R2 b):a=c/\g=R2/\f=b:=by
 subst i;have q:=h.out.symm.trans j.out;exact⟨congrArg (·.1) q,congrArg (·.2.1) q,congrArg (·.2.2) q⟩
end Bk
namespace Wh
open PySem (Str)
open Bk (Row Rows xX y3 Ans xD laid thr lk dt zU)
open Desk (Run)
theorem v8{R b R2:Rows}{S f a:List Int}{es fs:List y3}{e bs:List Ans}(c:Run R S es e b f)(i:Run b f fs bs R2 a):Run R S (es++fs) (e++bs) R2 a:=by
 induction i with
 |nil=>simpa using c
 |snoc h d g=>rw[<- bKQ,<- bKQ];exact .snoc (g c) d
theorem aQH{R b:Rows}{S c:List Int}{e:y3}{a:Ans}(d:xX R S e a b c):Run R S [e] [a] b c:=Run.snoc .nil d
theorem aJl{R Q:Rows}(h:∀j:Nat,R[j]? =Q[j]?):R=Q:=bYU h
theorem bX5{R:Rows}{l:List Nat}{p:Str}(h:∀k∈l,∀r,R[k]? =some r->r.place=p):laid R l p=R:=aJl λj=>by
 rw[Bk.wU];split
 ·rename_i a;cases b:R[j]? with
  |none=>rfl
  |some r=>simp[<- h j a r b]
 ·rfl
structure xP(ord:List Nat)(R:Rows):Prop where
 nd:ord.Nodup
 mem:∀k,k∈ord↔k<R.length
 row:∀ (s k:Nat)(r:Row),ord[s]? =some k->R[k]? =some r->r.void=false/\r.place=""/\r.copies= []/\0<=r.term/\(r.way="in"\/r.way="out")/\
  ∀u,r.link=some u->∃s' q,s'<s/\ord[s']? =some u/\R[u]? =some q/\r.way=Bk.wM q.way/\r.partner=q.partner/\q.date<=r.date
theorem aZe{α:Type}{l:List α}(f:l.Nodup){i j:Nat}{x:α}(h:l[i]? =some x)(g:l[j]? =some x):i=j:=by
 obtain⟨a,c⟩:=bWP.mp h;obtain⟨e,b⟩:=bWP.mp g;have d:=bYM.mp f;rcases Nat.lt_trichotomy i j with z|z|z
 ·exact absurd (c.trans b.symm) (d i j a e z)
 ·exact z
 ·exact absurd (b.trans c.symm) (d j i e a z)
def Pos(ord:List Nat)(pos:Nat->Nat):Prop:=∀s k:Nat,ord[s]? =some k->pos k=s
theorem xP.len{ord:List Nat}{R:Rows}(h:xP ord R):ord.length=R.length:=by
 have a:ord.Perm (bWS R.length):=(cXQ h.nd bY0).mpr λk=>by rw[h.mem,bKc]
 rw[a.length_eq,bKo]
theorem xP.spot{ord:List Nat}{R:Rows}(h:xP ord R){k:Nat}(a:k<R.length):∃s:Nat,ord[s]? =some k:=by
 obtain⟨s,b,e⟩:=cQh.mp ((h.mem k).mpr a);exact⟨s,by rw[bWF b,e]⟩
theorem xP.at_{ord:List Nat}{R:Rows}(h:xP ord R){s k:Nat}(a:ord[s]? =some k):∃r,R[k]? =some r:=⟨_,bWF ((h.mem k).mp (bW1 a))⟩
def bJb(pos:Nat->Nat)(r:Row):Row:={r with link:=r.link.map pos}
structure Img(ord:List Nat)(pos:Nat->Nat)(R:Rows)(t:Nat)(B:Rows):Prop where
 len:B.length=t
 at_:∀ (s k:Nat)(r:Row),s<t->ord[s]? =some k->R[k]? =some r->B[s]? =some (bJb pos r)
def bQ7(pos:Nat->Nat)(r:Row):y3:=match r.link with
 |none=> .enter r.way r.date r.partner r.term
 |some u=> .reply (pos u:Nat) r.date r.term
theorem aYs{ord:List Nat}{R B:Rows}{pos:Nat->Nat}{S:List Int}(h:xP ord R)(C:Pos ord pos){t k:Nat}{r:Row}(c:Img ord pos R t B)(p:ord[t]? =some k)(w:R[k]? =some r): ∃v,xX B S (bQ7 pos r) (.num (t:Nat)) v S/\Img ord pos R (t+1) v:=by
 obtain⟨o,l,j,x,M,F⟩:=h.row t k r p w;refine⟨B++ [bJb pos r],?_,?_⟩
 ·unfold bQ7 bJb;rw[<- c.len];cases hl:r.link with
  |none=>
   have d:=xX.enter (R:=B) (S:=S) (way:=r.way) (who:=r.partner) (d:=r.date) x;have e:({r with link:=Option.map pos none}:Row)=⟨r.way,r.date,r.partner,r.term,none,"",false,[]⟩:=by rw[<- o,<- l,<- j];rfl
   rw[e];exact d
  |some u=>
   obtain⟨g,q,n,i,m,z,H,A⟩:=F u hl;have y:=c.at_ g u q n i m;obtain⟨I,D,L,K,J,N⟩:=h.row g u q i m;have d:=xX.reply (S:=S) (d:=r.date) (t:=r.term) y I x A;have f:=C g u i;have e:({r with link:=Option.map pos (some u) }:Row)=⟨Bk.wM q.way,r.date,q.partner,r.term,some g,q.place,false,[]⟩:=by rw[<- z,<- H,D,<- l,<- o,<- j];show({r with link:=some (pos u) }:Row)=_;rw[f]
   rw[e];show xX B S (.reply ((pos u:Nat):Int) r.date r.term) _ _ S;rw[f];exact d
 ·refine⟨by rw[bWW,c.len];rfl,λs E G n b a=>?_⟩;by_cases e:s=t
  ·subst e;rw[p]at b;cases b;rw[w]at a;cases a;rw[bW0 (by rw[c.len];exact bWN _),c.len,bK7];rfl
  ·rw[bW7 (by rw[c.len];omega)];exact c.at_ s E G (by omega) b a
def bXA(ord:List Nat)(pos:Nat->Nat)(R:Rows)(t:Nat)(es:List y3):Prop:=es.length=t/\∀ (s k:Nat)(r:Row),s<t->ord[s]? =some k->R[k]? =some r->es[s]? =some (bQ7 pos r)
theorem aZ0{ord:List Nat}{R:Rows}{pos:Nat->Nat}{S:List Int}(h:xP ord R)(g:Pos ord pos):∀ (t:Nat) {es:List y3},t<=ord.length->bXA ord pos R t es->∃e B,Run [] S es e B S/\Img ord pos R t B
 |0,es,_,he=>by have:es= []:=bK2 he.1;subst this;exact⟨[],[],.nil,rfl,λs k r c=>absurd c (bKK _)⟩
 |t+1,es,ht,he=>by
  have a:=bWF (show t<ord.length by omega);obtain⟨r,b⟩:=h.at_ a;have hl:t<es.length:=by rw[he.1];exact bKP _
  have f:=he.2 t _ r (bKP _) a b;have m:es=es.take t++ [bQ7 pos r]:=by
   rw[bWF hl]at f;have i:=bWX f;rw[<- i];conv=>lhs;rw[<- cQc t es]
   rw[cQ2 hl,List.drop_eq_nil_of_le (by have:=he.1;omega)]
  obtain⟨e,B,o,n⟩:=aZ0 h g t (es:=es.take t) (by omega) ⟨by rw[bKz];omega,λs k r c a b=>by rw[bY4,if_pos c];exact he.2 s k r (by omega) a b⟩;obtain⟨l,d,j⟩:=aYs (S:=S) h g n a b;rw[m];exact⟨e++ [.num (t:Nat)],l,.snoc o d,j⟩
theorem aKJ(R:Rows)(S:List Int)(d:Int):∃a b,xX R S (.shut d) a R b/\∀z,Dm.cts b z=(Dm.cts S z && !(z==d)):=by
 cases h:Dm.cts S d with
 |false=>
  refine⟨_,S,.shutN h,λz=>?_⟩;by_cases e:z=d
  ·subst e;rw[h];rfl
  ·simp[e]
 |true=>refine⟨_,S++ [d],.shut h,λz=>?_⟩;unfold Dm.cts;rw[Bool.and_assoc];congr 1;rw[Bool.eq_iff_iff];simp[bKW]
structure Mix(dd:Nat->Int)(ord:List Nat)(pos:Nat->Nat)(R:Rows)(s:Nat)(B:Rows):Prop where
 len:B.length=ord.length
 at_:∀ (s' k:Nat)(r:Row),ord[s']? =some k->R[k]? =some r->B[s']? =some {bJb pos r with date:=if s'<s then dd k else r.date}
theorem aVs{l:Nat->Int}{ord:List Nat}{R B:Rows}{pos:Nat->Nat}{S:List Int}(h:xP ord R)(H:Pos ord pos)(d1:∀ (k u:Nat)(r:Row),R[k]? =some r->r.link=some u->l u=l k)(d2:∀ (k:Nat)(r:Row),R[k]? =some r->l k<=r.date) {s k:Nat} {r:Row} (o:Mix l ord pos R (s+1) B) (A:ord[s]? =some k) (n:R[k]? =some r):∃I,xX B S (.date (s:Nat) r.date) (.txt "dated") I S/\Mix l ord pos R s I:=by
 obtain⟨O,W,V,Y,Z,P⟩:=h.row s k r A n;have F:=o.at_ s k r A n;rw[if_pos (bKP _)]at F;refine⟨xD B s λD=>{D with date:=r.date},xX.date F O (λj Q=>?_) (λc J=>?_),by rw[Bk.xS];exact o.len,λf L D i d=>?_⟩
 ·have a:r.link.map pos=some j:=Q;cases hl:r.link with
  |none=>rw[hl]at a;cases a
  |some u=>
   rw[hl]at a;obtain⟨f,q,X,m,y,K,U,G⟩:=P u hl;have M:f=j:=by rw[<- H f u m];exact bWX a
   subst M;have v:=o.at_ f u q m y;rw[if_pos (by omega)]at v;rw[Bk.zI v];show l u<=r.date;rw[d1 k u r n hl];exact d2 k r n
 ·have x:=of_decide_eq_true (bKA.mp J).2;have E:c<B.length:=bKc.mp (bKA.mp J).1;have g:=bWF (show c<ord.length by rw[<- o.len];exact E);obtain⟨p,t⟩:=h.at_ g;have w:=o.at_ c _ p g t;rw[Bk.zX w]at x;have b:p.link.map pos=some s:=x;cases hl:p.link with
  |none=>rw[hl]at b;cases b
  |some u=>
   rw[hl]at b;obtain⟨C,q,N,m,y,K,U,G⟩:=(h.row c _ p g t).2.2.2.2.2 u hl;have T:C=s:=by rw[<- H C u m];exact bWX b
   subst T;rw[A]at m;cases m;rw[n]at y;cases y;rw[Bk.zI w];show r.date<=(if c<C+1 then l _ else p.date);rw[if_neg (by omega)];exact G
 ·rw[Bk.xN,o.at_ f L D i d];by_cases e:f=s
  ·subst e;rw[A]at i;cases i;rw[n]at d;cases d;rw[if_pos rfl,if_neg (bKN _)];rfl
  ·rw[if_neg e];by_cases z:f<s
   ·rw[if_pos (by omega),if_pos z]
   ·rw[if_neg (by omega),if_neg z]
def aVU(ord:List Nat)(R:Rows)(s:Nat)(es:List y3):Prop:=es.length=s/\∀ (i k:Nat)(r:Row),i<s->ord[s - 1 - i]? =some k->R[k]? =some r->es[i]? =some (.date ((s - 1 - i:Nat):Int) r.date)
theorem aQb{b:Nat->Int}{ord:List Nat}{R:Rows}{pos:Nat->Nat}{S:List Int}(h:xP ord R)(f:Pos ord pos)(d1:∀ (k u:Nat)(r:Row),R[k]? =some r->r.link=some u->b u=b k)(d2:∀ (k:Nat)(r:Row),R[k]? =some r->b k<=r.date):
  ∀ (s:Nat) {es:List y3} {B:Rows},s<=ord.length->aVU ord R s es->Mix b ord pos R s B->∃g c,Run B S es g c S/\Mix b ord pos R 0 c
 |0,es,B,_,he,hB=>by have:es= []:=bK2 he.1;subst this;exact⟨[],B,.nil,hB⟩
 |s+1,[],B,_,he,_=>by have:=he.1;simp at this
 |s+1,e::es,B,hs,he,hB=>by
  have a:=bWF (show s<ord.length by omega);obtain⟨r,d⟩:=h.at_ a;have j:=he.2 0 _ r (Nat.succ_pos _) (by simpa using a) d;have p:e= .date (s:Nat) r.date:=by simpa using j
  obtain⟨m,o,l⟩:=aVs (S:=S) h f d1 d2 hB a d;obtain⟨g,c,q,n⟩:=aQb h f d1 d2 s (es:=es) (B:=m) (by omega) ⟨by simpa using he.1,λi k r t a d=>by
   have:=he.2 (i+1) k r (by omega) (by rw[show s+1 - 1 - (i+1)=s - 1 - i by omega];exact a) d;rw[show s+1 - 1 - (i+1)=s - 1 - i by omega]at this;simpa using this⟩ l
  rw[p];exact⟨_,c,v8 (aQH o) q,n⟩
theorem Mix.img{b:Nat->Int}{ord:List Nat}{R B:Rows}{pos:Nat->Nat}(m:Mix b ord pos R 0 B):Img ord pos R ord.length B:=⟨m.len,λs k r d a c=>by
 rw[m.at_ s k r a c,if_neg (bKK _)];rfl⟩
theorem uI{ord:List Nat}{R:Rows}{pos:Nat->Nat}(h:xP ord R)(c:Pos ord pos):Fm.Ok R.length (lk R) pos:=⟨λk u a e=>by
 obtain⟨s,d⟩:=h.spot a;have b:=bWF a;rw[Bk.zX b]at e;obtain⟨j,q,f,i,g,_⟩:=(h.row s k _ d b).2.2.2.2.2 u e;exact⟨Bk.xM g,by rw[c s k d,c j u i];exact f⟩⟩
theorem aK4{ord:List Nat}{R:Rows}{pos:Nat->Nat}(h:xP ord R)(b:Pos ord pos):∀ (m k:Nat)(r:Row),pos k<m->R[k]? =some r->dt R (Fm.tp (lk R) pos k)<=r.date
 |0,k,r,hm,_=>absurd hm (bKK _)
 |m+1,k,r,hm,hr=>by
  have o:=uI h b;have a:=Bk.xM hr;cases hl:r.link with
  |none=>rw[Fm.zM (by rw[Bk.zX hr];exact hl),Bk.zI hr];exact Int.le_refl _
  |some u=>
   have e:lk R k=some u:=by rw[Bk.zX hr];exact hl
   obtain⟨s,d⟩:=h.spot a;obtain⟨j,q,i,g,c,_,_,f⟩:=(h.row s k _ d hr).2.2.2.2.2 u hl;rw[Fm.wD o a e];exact Int.le_trans (aK4 h b m u q (by have:=(o.lt k u a e).2;omega) c) f
end Wh
namespace Wh
open PySem (Str)
open Bk (Row Rows xX y3 Ans xD laid thr lk dt zU)
open Desk (Run)
structure bQ0(R:Rows)(dn:List Nat)(B:Rows):Prop where
 len:B.length=R.length
 at_:∀ (k:Nat)(r:Row),R[k]? =some r->B[k]? =some (if k∈dn then r else {r with link:=none,term:=0})
theorem aQ4{ord:List Nat}{R:Rows}{S:List Int}(h:xP ord R):∀ (t:Nat) {es:List y3},t<=R.length->es.length=t->(∀ (k:Nat)(r:Row),k<t->R[k]? =some r->es[k]? =some (.enter r.way r.date r.partner 0))->
  ∃i B,Run [] S es i B S/\B.length=t/\∀ (k:Nat)(r:Row),k<t->R[k]? =some r->B[k]? =some {r with link:=none,term:=0}
 |0,es,_,hl,_=>by have:es= []:=bK2 hl;subst this;exact⟨[],[],.nil,rfl,λk r d=>absurd d (bKK _)⟩
 |t+1,es,ht,hl,he=>by
  have c:=bWF (show t<R.length by omega);have b:t<es.length:=by omega
  have f:=he t _ (bKP _) c;rw[bWF b]at f;have l:=bWX f;have q:es=es.take t++ [.enter R[t].way R[t].date R[t].partner 0]:=by
   rw[<- l];conv=>lhs;rw[<- cQc t es]
   rw[cQ2 b,List.drop_eq_nil_of_le (by omega)]
  obtain⟨i,B,u,g,j⟩:=aQ4 (S:=S) h t (es:=es.take t) (by omega) (by rw[bKz];omega) (λk r d c=>by rw[bY4,if_pos d];exact he k r (by omega) c);rw[q];obtain⟨s,o⟩:=h.spot (show t<R.length by omega);obtain⟨p,n,m,w,x,v⟩:=h.row s t _ o c;refine⟨_,_,.snoc u (.enter (Int.le_refl 0)),by rw[bWW,g];rfl,λk r d a=>?_⟩;by_cases e:k=t
  ·subst e;rw[c]at a;cases a;rw[bW0 (by omega),g,bK7];show some _=some _;congr 1;rw[<- p,<- n,<- m]
  ·rw[bW7 (by omega)];exact j k r (by omega) a
theorem bXk{n:Nat}{L:Nat->Option Nat}{pos:Nat->Nat}(o:Fm.Ok n L pos):∀ (m u:Nat),pos u<m->u<n->pos (Fm.tp L pos u)<=pos u
 |0,u,h,_=>absurd h (bKK _)
 |m+1,u,h,hu=>by
  cases e:L u with
  |none=>rw[Fm.zM e];exact bWN _
  |some c=>obtain⟨a,b⟩:=o.lt u c hu e;rw[Fm.wD o hu e];exact bKh (bXk o m c (by omega) a) (bY6 b)
def hgD(k:Nat)(r:Row):List y3:=(match r.link with|none=> []|some u=> [.hang (k:Nat) (u:Nat)])++ [.term (k:Nat) r.term]
theorem bJp{ord:List Nat}{R B:Rows}{pos:Nat->Nat}{S:List Int}(h:xP ord R)(O:Pos ord pos){dn:List Nat}{k:Nat}{r:Row}(g:bQ0 R dn B)(K:k∉dn)(n:R[k]? =some r):∃as l,Run B S (hgD k r) as l S/\bQ0 R (dn++ [k]) l:=by
 have G:=Bk.xM n;obtain⟨s,J⟩:=h.spot G;obtain⟨X,h2,h3,h4,h5,h6⟩:=h.row s k r J n;have Y:=g.at_ k r n;rw[if_neg K]at Y;have t:∀E:Rows,E.length=R.length->(∀ (j:Nat)(q:Row),R[j]? =some q->E[j]? =some (if j=k then {q with term:=0}else if j∈dn then q else {q with link:=none,term:=0}))->
   ∃a l,xX E S (.term (k:Nat) r.term) a l S/\bQ0 R (dn++ [k]) l:=λE l1 U=>by
  have C:=U k r n
  rw[if_pos rfl]at C
  refine⟨_,_,xX.term C X h4,by rw[Bk.xS];exact l1,λj q f=>?_⟩
  rw[Bk.xN,U j q f]
  by_cases e:j=k
  ·subst e;rw[n]at f;cases f;rw[if_pos rfl,if_pos rfl,if_pos (by simp)];rfl
  ·rw[if_neg e,if_neg e];by_cases z:j∈dn
   ·rw[if_pos z,if_pos (by simp[z])]
   ·rw[if_neg z,if_neg (by simp[z,e])]
 cases hl:r.link with
 |none=>
  have e:hgD k r= [.term (k:Nat) r.term]:=by unfold hgD;rw[hl];rfl
  rw[e];obtain⟨a,l,d,x⟩:=t B g.len λj q f=>by
   rw[g.at_ j q f];by_cases z:j=k
   ·subst z;rw[n]at f;cases f;rw[if_neg K,if_pos rfl,<- hl]
   ·rw[if_neg z]
  exact⟨_,l,aQH d,x⟩
 |some u=>
  have e:hgD k r= [.hang (k:Nat) (u:Nat),.term (k:Nat) r.term]:=by unfold hgD;rw[hl];rfl
  rw[e];obtain⟨s',q,a2,P,f,e1,e2,e3⟩:=h6 u hl;obtain⟨W,V,q3,q4,q5,q6⟩:=h.row s' u q P f;have a0:u≠k:=λz=>by subst z;have:=aZe h.nd J P;omega
  have T:=g.at_ u q f;obtain⟨c,v,N,F,M,L,A⟩:∃c,B[u]? =some c/\c.void=false/\c.way=q.way/\c.partner=q.partner/\c.date=q.date/\c.place="":=by
   refine⟨_,T,?_⟩;split
   ·exact⟨W,rfl,rfl,rfl,V⟩
   ·exact⟨W,rfl,rfl,rfl,V⟩
  have Q:Fm.Ok B.length (lk B) pos:=⟨λi j H e=>by
   rw[g.len]at H ⊢;have D:=bWF H;rw[Bk.zX (g.at_ i _ D)]at e;have e':R[i].link=some j:=by
    split at e
    ·exact e
    ·cases e
   exact(uI h O).lt i j H (by rw[Bk.zX D];exact e')⟩
  have m:u<B.length:=Bk.xM v;have ho:(thr B u).head? ≠some k:=by obtain⟨rk,o',x⟩:=Bk.qF ⟨pos,Q⟩ m;rw[x,Fm.uC o' Q m];intro z;have z':=bWX z;have:=bXk Q _ u (bKP _) m;rw[z',O s k J,O s' u P]at this;omega
  have d:=xX.hang (S:=S) Y X v N rfl ho (by show r.way≠c.way;rw[F,e1];exact(Bk.jY q5).1) (by show r.partner=c.partner;rw[M];exact e2) (by show c.date<=r.date;rw[L];exact e3);have I:∀j∈thr B k,∀p,B[j]? =some p->p.place=c.place:=λj _ p b=>by
   have y:j<R.length:=by rw[<- g.len];exact Bk.xM b
   have o:=bWF y;obtain⟨Z,w⟩:=h.spot y;have:=g.at_ j _ o;rw[b]at this;rw[bWX this,A];split
   ·exact(h.row Z j _ w o).2.1
   ·exact(h.row Z j _ w o).2.1
  rw[bX5 I]at d;obtain⟨a,l,d2,x⟩:=t (xD B k λr'=>{r' with link:=some u}) (by rw[Bk.xS];exact g.len) λj p b=>by
   rw[Bk.xN,g.at_ j p b];by_cases z:j=k
   ·subst z;rw[n]at b;cases b;rw[if_pos rfl,if_pos rfl,if_neg K];show some _=some _;rw[<- hl]
   ·rw[if_neg z,if_neg z]
  exact⟨_,l,Run.snoc (aQH d) d2,x⟩
def hgs(R:Rows)(ks:List Nat):List y3:=ks.flatMap λk=>match R[k]? with|some r=>hgD k r|none=> []
theorem aWn{ord:List Nat}{R:Rows}{pos:Nat->Nat}{S:List Int}(h:xP ord R)(c:Pos ord pos):∀ (ks:List Nat) {dn:List Nat} {B:Rows},(dn++ks).Nodup->(∀k∈ks,k<R.length)->bQ0 R dn B->∃p f,Run B S (hgs R ks) p f S/\bQ0 R (dn++ks) f
 |[],dn,B,_,_,hB=>⟨[],B,.nil,by rw[bKI];exact hB⟩
 |k::ks,dn,B,nd,hk,hB=>by
  have a:=hk k bWV;have g:=bWF a;have b:k∉dn:=λz=>(cQP.mp nd).2.2 k z k bWV rfl;obtain⟨i,s,r,n⟩:=bJp (S:=S) h c hB b g;obtain⟨o,m,l,d⟩:=aWn (S:=S) h c ks (dn:=dn++ [k]) (by rw[bKQ];exact nd) (λj q=>hk j (bWR _ q)) n;refine⟨i++o,m,?_,by rw[bKQ]at d;exact d⟩;have e:hgs R (k::ks)=hgD k R[k]++hgs R ks:=by unfold hgs;rw[cXR,g]
  rw[e];exact v8 r l
theorem bQ0.all{R B:Rows}{dn:List Nat}(h:bQ0 R dn B)(b:∀k,k<R.length->k∈dn):B=R:=aJl λj=>by
 by_cases a:j<R.length
 ·rw[h.at_ j _ (bWF a),if_pos (b j a),bWF a]
 ·rw[bKf (by rw[h.len];omega),bKf (by omega)]
theorem qI{S T:List Int}(h:∀z,Dm.cts S z=Dm.cts T z)(a:Int):∀n,Dm.cnt S a n=Dm.cnt T a n
 |0=>rfl
 |n+1=>by unfold Dm.cnt;rw[qI h a n,h]
open Classical in
theorem aWe{S T:List Int}(h:∀z,Dm.cts S z=Dm.cts T z)(d t:Int):Bk.due S d t=Bk.due T d t:=by
 have e:Dm.Due S d t=Dm.Due T d t:=funext λD=>propext ⟨λz=>⟨z.later,by rw[<- h];exact z.cts,by rw[<- qI h];exact z.cnt⟩,λz=>⟨z.later,by rw[h];exact z.cts,by rw[qI h];exact z.cnt⟩⟩;have g:∀P Q:Int->Prop,P=Q->(if h:∃D,P D then choose h else d)=(if h:∃D,Q D then choose h else d):=λP Q e=>by subst e;rfl
 unfold Bk.due;exact g _ _ e
structure Cor(R:Rows)(pos:Nat->Nat)(B:Rows):Prop where
 len:B.length=R.length
 at_:∀ (k:Nat)(r:Row),R[k]? =some r->pos k<R.length/\B[pos k]? =some (bJb pos r)
 inj:∀j k,j<R.length->k<R.length->pos j=pos k->j=k
 onto:∀i,i<R.length->∃k,k<R.length/\pos k=i
 link:∀ (k u:Nat)(r:Row),R[k]? =some r->r.link=some u->u<R.length
theorem aV4{ord:List Nat}{R B:Rows}{pos:Nat->Nat}(h:xP ord R)(hp:Pos ord pos)(i:Img ord pos R ord.length B):Cor R pos B where
 len:=by rw[i.len,h.len]
 at_:=λk r hr=>by
  obtain⟨s,hs⟩:=h.spot (Bk.xM hr)
  have hsl:s<ord.length:=(bWP.mp hs).1
  rw[hp s k hs]
  exact⟨by rw[<- h.len];exact hsl,i.at_ s k r hsl hs hr⟩
 inj:=λj k hj hk e=>by
  obtain⟨s,hs⟩:=h.spot hj
  obtain⟨s',hs'⟩:=h.spot hk
  rw[hp s j hs,hp s' k hs']at e
  subst e
  rw[hs]at hs'
  exact bWX hs'
 onto:=λi hi=>by
  have hs:=bWF (show i<ord.length by rw[h.len];exact hi)
  exact⟨_,(h.mem _).mp (bW1 hs),hp i _ hs⟩
 link:=λk u r hr hl=>by
  obtain⟨s,hs⟩:=h.spot (Bk.xM hr)
  obtain⟨s',q,_,_,hq,_⟩:=(h.row s k r hs hr).2.2.2.2.2 u hl
  exact Bk.xM hq
theorem bJn{ord:List Nat}{R:Rows}(h:xP ord R):Cor R id R where
 len:=rfl
 at_:=λk r hr=>⟨Bk.xM hr,by rw[show id k=k from rfl,hr];unfold bJb;simp⟩
 inj:=λj k _ _ e=>e
 onto:=λi hi=>⟨i,hi,rfl⟩
 link:=λk u r hr hl=>by
  obtain⟨s,hs⟩:=h.spot (Bk.xM hr)
  obtain⟨s',q,_,_,hq,_⟩:=(h.row s k r hs hr).2.2.2.2.2 u hl
  exact Bk.xM hq
theorem Cor.kid{R B:Rows}{pos:Nat->Nat}(c:Cor R pos B){k j:Nat}(g:k<R.length)(d:j<R.length):pos j∈zU B (pos k)↔j∈zU R k:=by
 have b:=bWF d;obtain⟨f,h⟩:=c.at_ j _ b;unfold Bk.zU;rw[bKA,bKA,bKc,bKc,decide_eq_true_eq,decide_eq_true_eq,Bk.zX h,Bk.zX b,c.len];constructor
 ·rintro⟨_,e⟩;refine⟨d,?_⟩;have a:R[j].link.map pos=some (pos k):=e;cases hl:R[j].link with
  |none=>rw[hl]at a;cases a
  |some u=>rw[hl]at a;rw[c.inj u k (c.link j u _ b hl) g (bWX a)]
 ·rintro⟨_,e⟩;refine⟨f,?_⟩;show R[j].link.map pos=some (pos k);rw[e];rfl
theorem Cor.waits{R B:Rows}{pos:Nat->Nat}(c:Cor R pos B){k:Nat}(g:k<R.length)(d:Int):Bk.waits B (pos k) d=Bk.waits R k d:=by
 have m:=bWF g;obtain⟨o,n⟩:=c.at_ k _ m;unfold Bk.waits;rw[n,m];show(!R[k].void && decide (1<=R[k].term) && decide (R[k].date<=d) && _)=(!R[k].void && decide (1<=R[k].term) && decide (R[k].date<=d) && _);congr 1;rw[Bool.eq_iff_iff,cXj,cXj];constructor
 ·intro h j b;have e:j<R.length:=bKc.mp (bKA.mp b).1;have a:=bWF e;have:=h (pos j) ((c.kid g e).mpr b);rw[Bk.zI (c.at_ j _ a).2]at this;rw[Bk.zI a];exact this
 ·intro h i l;have f:i<R.length:=by rw[<- c.len];exact bKc.mp (bKA.mp l).1
  obtain⟨j,b,rfl⟩:=c.onto i f;have a:=bWF b;have:=h j ((c.kid g b).mp l);rw[Bk.zI a]at this;rw[Bk.zI (c.at_ j _ a).2];exact this
noncomputable def aQ1 (a:List Int) (R:Rows) (k:Nat):Int:=Bk.due a (dt R k) (((R[k]?).map (·.term)).getD 0)
theorem Cor.due{R B:Rows}{pos:Nat->Nat}(c:Cor R pos B){S T:List Int}(h:∀z,Dm.cts S z=Dm.cts T z){k:Nat}(d:k<R.length):aQ1 S B (pos k)=aQ1 T R k:=by
 have a:=bWF d;obtain⟨e,b⟩:=c.at_ k _ a;unfold aQ1;rw[Bk.zI b,Bk.zI a,b,a,aWe h];rfl
theorem Cor.on{R B:Rows}{pos:Nat->Nat}(c:Cor R pos B){S T:List Int}(h:∀z,Dm.cts S z=Dm.cts T z){d:Int}{a:Bool}{l n:List Nat}(f:Bk.aQ0 R T d a l)(j:Bk.aQ0 B S d a n):n.Perm (l.map pos):=by
 have m:∀ {R:Rows} {S:List Int} {l:List Nat},Bk.aQ0 R S d a l->l.Nodup:=λ{R S l} h=>h.ord.imp λ{x y} h z=>by rw[z,Stree.zQ]at h;cases h
 have q:(l.map pos).Nodup:=by unfold List.Nodup;rw[cQC];exact(m f).imp_of_mem λ{x y} hx hy ne e=>ne (c.inj x y ((f.mem x).mp hx).1 ((f.mem y).mp hy).1 e)
 refine(cXQ (m j) q).mpr λi=>?_;rw[j.mem,bK1,c.len];constructor
 ·rintro⟨o,hw,p⟩;obtain⟨k,b,rfl⟩:=c.onto i o;exact⟨k,(f.mem k).mpr ⟨b,by rw[<- c.waits b];exact hw,λz=>by have z2:aQ1 S B (pos k)<d:=p z;rw[c.due h b]at z2;exact z2⟩,rfl⟩
 ·rintro⟨k,b,rfl⟩;obtain⟨g,r,s⟩:=(f.mem k).mp b;exact⟨(c.at_ k _ (bWF g)).1,by rw[c.waits g];exact r,λz=>by show aQ1 S B (pos k)<d;rw[c.due h g];exact s z⟩
theorem Cor.lasts{R B:Rows}{pos:Nat->Nat}(c:Cor R pos B){S T:List Int}(h:∀z,Dm.cts S z=Dm.cts T z){d:Int}{e:Bool}{j:List Nat}(l:Bk.aQ0 B S d e j){a:Nat->Nat}(n:∀k,k<R.length->a (pos k)=k):(j.map λi=>aQ1 T R (a i)).Pairwise (·<=·):=by
 rw[cQC];refine l.ord.imp_of_mem λ{x y} g hy hl=>?_;have ex:∀x∈j,aQ1 T R (a x)=aQ1 S B x:=λx g=>by
  have f:x<R.length:=by rw[<- c.len];exact((l.mem x).mp g).1
  obtain⟨k,m,rfl⟩:=c.onto x f;rw[n k m,c.due h m]
 rw[ex x g,ex y hy];have:aQ1 S B x<aQ1 S B y\/aQ1 S B x=aQ1 S B y:=by have b:Stree.zT (aQ1 S B x,(x:Int)) (aQ1 S B y,(y:Int))=true:=hl;unfold Stree.zT at b;simp at b;omega
 omega
end Wh
namespace L2
open PySem PySem.Spec PyProof.Rows
def Itv(K:bWI)(a:Nat)(n:Nat):It:=
 ⟨λi H=>∃b,SqL K H a b/\b.length=n/\i<n,λi H x c=>c=H/\∀b,SqL K H a b->b[n - 1 - i]? =some x,λi H=>n<=i⟩
theorem bQR{P:bW3}{w:bKa}{K:bWI}{tg:Expr}(a it:Nat)(n:Nat):bJi P w K tg (Itv K a n) [it] it (λi h=>i<=n/\h.IsRevIter it a ((n:Int) - 1 - (i:Nat))) where
 mem:=by simp
 obj:=λi h st b hb=>by
  have e:b=it:=by simpa using hb
  subst e
  obtain⟨_,o,e,c,d⟩:=st
  exact⟨o,e,λv z=>by rw[d]at z;cases z⟩
 keep:=λi h h' st k=>⟨st.1,st.2.at λo e=>k it (by simp) o e⟩
 item:=by
  intro X hP hw hK hc i pins s σ H E I hf st hg
  subst hP hw hK
  obtain⟨xs,hq,hl,hi⟩:=hg
  obtain⟨its,rv,p,hz⟩:=I.list hq
  have hx:=bWF (show n - 1 - i<xs.length by omega)
  obtain⟨u,hu,ru⟩:=rv.get hx
  obtain⟨f0,f1,f2,f3,f4,f5⟩:=hf it (by simp)
  have st2:s.heap.IsRevIter it a ((n - 1 - i:Nat):Int):=by
   have:=st.2
   rw[show(n:Int) - 1 - (i:Nat)=((n - 1 - i:Nat):Int) by omega]at this
   exact this
  refine wpAny_pyNext_rev_item st2 p.isList (x:=u) (by simpa using hu) λh' st' sb=>?_
  have I1:Inv X pins σ H {s with heap:=h'}:=I.turned (t':=s.toks) (λb o hb e=>(sb.2 b hb).trans e) f0 f1 f3 f4 f5
  obtain⟨o,e,c,d⟩:=id st'
  refine⟨u,rfl,bXW (s:={s with heap:=h'}) e c d (by decide) ⟨xs[n - 1 - i]'(by omega),H,I1,ru,⟨rfl,λys hy=>by rw[I.list_inj hy hq];exact hx⟩,⟨hi,?_⟩,λb hb=>(hf b hb).1⟩⟩
  rw[show(n:Int) - 1 - ((i+1:Nat):Int)=((n - 1 - i:Nat):Int) - 1 by omega]
  exact st'
 done:=by
  intro X hP hw hK hc i pins s σ H E I hf st hg
  subst hP hw hK
  obtain⟨f0,f1,f2,f3,f4,f5⟩:=hf it (by simp)
  have hi:n<=i:=hg
  have st2:s.heap.IsRevIter it a (-1):=by
   have:=st.2
   have h1:=st.1
   rw[show(n:Int) - 1 - (i:Nat)= -1 by omega]at this
   exact this
  exact wpAny_pyNext_rev_end (I.ok.hd hc) st2 λh' eb=>⟨rfl,I.turned (t':=s.toks) (λb o hb e=>eb b o hb e) f0 f1 f3 f4 f5⟩
 self:=λ_ _ _ _ _ st h=>wpAny_pyIter_revIter st.2 h
section
variable {X:Cx}{tg:Expr}
def bWq(K:bWI)(d:TE):TI:=λσ H R=>d σ H λx c=>∃a b,x= .ref a/\SqL K c a b/\R (Itv K a b.length) c
theorem bJU{l:Expr}{m:TE}{p pos:Pos}(y:Gl X "reversed")(A:X.mg "reversed"=none)(hl:PE X l m)(t:bKx "reversed"=some (.type "reversed"):=dk)(k:bKi [l] X.env= [(false,eval l X.env)]:=by rfl):
  PI X tg (.Call (.Name "reversed" p) [l] [] pos) (bWq X.K m):=by
 intro c s σ H R I h
 refine Call_ (qR I y A t (bY9 ?_ k rfl))
 refine thn (yA hl yF k pos c s σ H (λj d=>match j with|[x]=>∃a n,x= .ref a/\SqL X.K d a n/\R (Itv X.K a n.length) d|_=>False) I h) λus s1 ⟨j,d,I1,r1,z⟩=>?_
 match j,z with
 |[x],⟨a,ys,e2,hq,q⟩=>
  subst e2;obtain⟨u,rfl,C⟩:=jU r1;cases C;obtain⟨i,w,B,D⟩:=I1.list hq;have f:i.toArray.size=ys.length:=by rw[bWZ];exact w.length.symm
  refine call_reversed_list B.isList ?_;rw[f];have v:Inv X c σ d {s1 with heap:=s1.heap.push (revObj a ((ys.length:Int) - 1)) }:=I1.kept (t':=s1.toks) λb o e=>bWL _ e;have g:(s1.heap.push (revObj a ((ys.length:Int) - 1))).IsRevIter s1.heap.objs.size a ((ys.length:Int) - 1):=⟨_,bW4 _ rfl,rfl,rfl⟩;refine wpAny_pyIter_revIter g ⟨_,[s1.heap.objs.size],_,_,d,rfl,v,bQR a _ ys.length,⟨bKt _,by simpa using g⟩,λb r=>?_,q⟩;rw[bW8.mp r];exact I1.fpOk (bWN _) (I1.hok.fresh (bWN _))
end
theorem bXT{K:bWI}{a:Nat}{xs:List V}{g:TG}{tb:TS}{D:aJH}{σ:St}{H:Hp}(b:Nat->St->Hp->Prop)(h0:b 0 σ H)(hl:∀i σ H,i<=xs.length->b i σ H->SqL K H a xs) (n:∀i x σ H,i<xs.length->xs[xs.length - 1 - i]? =some x->b i σ H->g x σ H λh j=>tb {D with nx:=b (i+1),ct:=b (i+1),bk:=D.nx} h j) (o:∀σ H,b xs.length σ H->D.nx σ H): ∃W:Nat->Nat->St->Hp->Prop,(∃m,W 0 m σ H)/\∀i m σ H,W i m σ H-> ((Itv K a xs.length).stop i H/\D.nx σ H)\/((Itv K a xs.length).go i H/\∃N:St->Hp->Prop,(∀f d,N f d->∃k,k<m/\W (i+1) k f d)/\∀x d,(Itv K a xs.length).yld i H x d->g x σ d λh j=>tb {D with nx:=N,ct:=N,bk:=D.nx} h j):=by
 refine⟨λi m σ H=>m=xs.length - i/\i<=xs.length/\b i σ H,⟨xs.length,by simp,bKt _,h0⟩,?_⟩;rintro i m σ H ⟨rfl,l,p⟩;have q:=hl i σ H l p;by_cases c:i<xs.length
 ·refine .inr ⟨⟨xs,q,rfl,c⟩,b (i+1),λf d r=>⟨xs.length - (i+1),by omega,rfl,c,r⟩,λx d y=>?_⟩;obtain⟨e,y⟩:=y;subst e;exact n i x σ _ c (y xs q) p
 ·have e:i=xs.length:=by omega
  subst e;exact .inl ⟨bWN _,o σ H p⟩
section
variable {X:Cx}
inductive bWb(K:bWI)(c:Bool->Bool)(x:V)(y:V)(H:Hp)(Q:VK):Prop|mk (a b:Nat) (ns ms:List Int) (_:x= .ref a) (_:y= .ref b) (_:SqL K H a (ns.map V.int)) (_:SqL K H b (ms.map V.int)) (_:Q (.bl (c (decide (ns=ms)))) H)
theorem bJI(j:X.A.units+64<cLine):OpR X (bYd .Eq) (bWb X.K id):=by
 intro c s σ H x y v u Q I i k h;obtain⟨a,b,n,o,rfl,rfl,g,d,q⟩:=h;cases i;cases k;obtain⟨r,m,l,_⟩:=I.list g;obtain⟨p,e,f,_⟩:=I.list d;exact PySem.W.ke_eq_ints l.isList f.isList (zZ m) (zZ e) j ⟨.bl _,H,I,rfl,q⟩
theorem bJK(j:X.A.units+64<cLine):OpR X (bYd .NotEq) (bWb X.K not):=by
 intro c s σ H x y v u Q I i k h;obtain⟨a,b,n,o,rfl,rfl,g,d,q⟩:=h;cases i;cases k;obtain⟨r,m,l,_⟩:=I.list g;obtain⟨p,e,f,_⟩:=I.list d;exact PySem.W.ke_ne_ints l.isList f.isList (zZ m) (zZ e) j ⟨.bl _,H,I,rfl,q⟩
end
section
variable {prog:bW3}{w:bKa}{A:bKk}{E:bWG->bWJ->Prop}{s:bWJ}
theorem aXg{it t:Nat}{items:Array bWG}(f:t≠it):∀ (n i:Nat)(s:bWJ)(Q:List bWG->bWJ->Prop),s.heap.IsListIter it t i->s.heap.IsList t items->i+n<=items.size->
  (∀j,j.IsListIter it t (i+n)->bYt it s.heap j->Q ((items.toList.drop i).take n) {s with heap:=j})->bWO (bWQ prog w) A (draw (.ref it) n) Q E s
 |0,i,s,Q,hit,_,_,hQ=>by show bWO _ _ (pure []) Q E s;exact bWM (by simpa using hQ s.heap hit (Heap.SameBut.refl ..))
 |n+1,i,s,Q,hit,ht,hle,hQ=>by
  have g:i<items.size:=by omega
  show bWO _ _ (cQH (.ref it) >>=_) Q E s;refine bWH (wpAny_pyNext_list_item hit ht (x:=items[i]) (by simp[g]) λk b a=>?_);refine bWH (bKJ (aXg f n (i+1) _ _ b (ht.at λo e=>(a.2 t f).trans e) (by omega) λh c d=>bWM ?_));have l:items.toList.drop i=items[i]::items.toList.drop (i+1):=by simp[cQ2,g]
  have:=hQ h (by rw[show i+(n+1)=i+1+n by omega];exact c) (a.trans d);rw[l,List.take_succ_cons]at this;exact this
theorem jT{t:Nat}{items:Array bWG}{Q:List bWG->bWJ->Prop}(q:A.handled=none)(j:s.heap.IsList t items) (n:∀m,cQY s.heap.objs.size s.heap m->Q items.toList {s with heap:=m}):bWO (bWQ prog w) A (unpackItems (.ref t) items.size none) Q E s:=by
 have g:t≠s.heap.objs.size:=by obtain⟨o,p,_⟩:=j;exact bW9 (bWT p)
 unfold unpackItems;refine bWH ?_
 ·unfold notIterableAtAll;refine bWH (wpAny_specialOf j.typeIs PySem.slot_list_iter.lookup ?_);refine bWM ?_;simp only[Bool.false_eq_true,if_false];refine bWH (bKJ (cXh j ?_));refine bWH (bKJ (aXg g items.size 0 _ _ ⟨_,bW4 _ rfl,rfl,rfl⟩ (j.at λo e=>bWL _ e) (by omega) λk c a=>?_));have h:List.take items.size (List.drop 0 items.toList)=items.toList:=by
   rw[List.drop_zero];exact bY3 (by simp)
  rw[h];rw[if_neg (by simp)];have f:k.IsList t items:=j.at λo e=>(a.2 t g).trans (bWL _ e);refine bWH (bKJ (wpAny_pyNext_list_end q c f (by simp) λi d=>?_));simp only[Option.isSome_none,Bool.false_eq_true,if_false];refine bWM (n i λb o l e=>d b o l (a.extBut b o l (bWL _ e)))
end
section
variable {X:Cx}{pos:Pos}
inductive bVH(K:bWI)(n:Nat)(t:TGs)(v:V)(σ:St)(H:Hp)(Q:St->Hp->Prop):Prop|mk (a xs) (_:v= .ref a) (_:SqL K H a xs) (_:xs.length=n) (_:t xs σ H Q)
theorem bZy{es:List Expr}{k:Nat}{t:TGs}{n:Nat}(z:X.calm=true)(h:PGs X es t) (j:(cQw es X.env).length=n:=by rfl) (f:(cQw es X.env).findIdx? (·.1)=none:=by rfl):PG X (.Tuple es k pos) (bVH X.K n t):=by
 intro c s σ H v u Q I r hw;obtain⟨a,w,l,m,hl,hw⟩:=hw;subst l;cases r;obtain⟨g,i,y,A⟩:=I.list m;have d:(cQw es X.env).length=g.toArray.size:=by simp[j,<- hl,i.length]
 rw[assign_Tuple];refine bWH (cQX ?_);unfold unpack;rw[d,f];refine bWH (bKJ (jT (I.ok.hd z) y.isList λq p=>?_));have x:Inv X c σ H {s with heap:=q}:=I.kept (t':=s.toks) λb o e=>p b o (bW9 (bWT e)) e;exact h c _ σ H w _ Q x (by simpa using i) hw
end
section
variable {X:Cx}
theorem bX4{k:Key}{v:bWG}(h:aXs k v=true):xZ (kV k) v:=by
 rcases xI h with⟨i,t,rfl,rfl⟩|⟨x,t,rfl,rfl⟩<;> exact⟨t,rfl⟩
theorem aK7:∀ {xs:List V} {us:List bWG},us.length=xs.length->(∀ (i:Nat) x u,xs[i]? =some x->us[i]? =some u->xZ x u)->xK xs us
 |[],[],_,_=> .nil
 |x::xs,u::us,hl,h=> .cons (h 0 x u rfl rfl) (aK7 (by simpa using hl) λi x u a b=>h (i+1) x u a b)
 |[],_::_,hl,_=>by simp at hl
 |_::_,[],hl,_=>by simp at hl
inductive W3(xs:List V)(H:Hp)(Q:VK):Prop|mk (d kvs) (_:xs= [.ref d]) (_:H d=some (.dK kvs)) (_:∀l,H l=none->Q (.ref l) (upd H l (.lst (kvs.map λp=>kV p.1))))
theorem aQi(hc:X.calm=true):uY X (.type "list") W3:=by
 intro F s σ H xs us Q I r h;obtain⟨d,f,rfl,T,q⟩:=h;obtain⟨u,rfl,ru⟩:=jU r;cases ru;obtain⟨M,A,D,m,o,es,S,N,e2,O,e4,U,Z⟩:=(show x5 X.prog X.w H s.heap d (.dK f)from I.hok d _ T);have E:s.heap.DictAt (xJ X.prog X.w) d D S:=⟨o,es,N,e2,O,e4,U,Z⟩;have t:D.length=f.length:=(bYz m).symm;refine PySem.W.kdl_call (PySem.W.kdl_dict A) (I.ok.hd hc) E (by omega) λh' tk l c Y hl g=>?_;have B:l.toList.length=(f.map λp=>kV p.1).length:=by rw[bK0,g.1,bWK,t]
 have hv:xK (f.map λp=>kV p.1) l.toList:=aK7 B λi x u j J=>by
  obtain⟨k,y,R,h4⟩:=g.2 i u (by rw[<- bK5];exact J);rw[bWY]at j;cases v:f[i]? with
  |none=>rw[v]at j;cases j
  |some p=>
   rw[v]at j;cases j;have P:i<f.length:=(bWP.mp v).1;obtain⟨z,n,C⟩:∃z,D[i]? =some z/\p.1=z.1:=by
    have:∀ {a:List (Key×V)} {b:List (Key×bWG)},KV a b->∀ (i:Nat)(p:Key×V),a[i]? =some p->∃z,b[i]? =some z/\p.1=z.1:=by
     intro a b h;induction h with
     |nil=>intro i p e;simp at e
     |@cons a b G K j J ih=>
      intro i p e;cases i with
      |zero=>cases e;exact⟨b,rfl,j.1⟩
      |succ i=>obtain⟨z,g1,g2⟩:=ih i p (by simpa using e);exact⟨z,by simpa using g1,g2⟩
    exact this m i p v
   rw[R]at n;cases n;show xZ (kV p.1) u;rw[C];exact bX4 (by rw[<- aJ6 X.prog X.w];exact h4)
 have L:(f.map λp=>kV p.1).length<=bKb:=by rw[bWK];exact M
 exact⟨.ref s.heap.objs.size,_,I.laid (o:= .lst (f.map λp=>kV p.1)) Y (bWN _) ⟨L,l.toList,c,hv,by simpa using hl⟩,rfl,q _ (I.hok.fresh (bWN _))⟩
end
end L2
namespace L2
open PySem PySem.Spec PyProof.Rows
section
variable {X:Cx}
inductive bZA(x:V)(vs:List V)(H:Hp)(Q:VK):Prop|mk (l:Nat) (xs:List V) (k:Nat) (y:V) (_:x= .ref l) (_:vs= [.int (k:Nat),y]) (_:H l=some (.lst xs)) (_:k<=xs.length) (_:xs.length<100000) (_:Q .non (upd H l (.lst (xs.take k++y::xs.drop k))))
theorem bX0(its:List bWG)(k:Nat)(y:bWG):(its.toArray.extract 0 k).push y++its.toArray.extract k=(its.take k++y::its.drop k).toArray:=by
 apply Array.toList_inj.mp;simp;exact bY3 (by simp)
theorem aWJ:MtM X "list.insert" bZA:=by
 intro i s σ H x K v J Q I u p h;obtain⟨l,E,k,y,rfl,rfl,j,G,D,q⟩:=h;cases u;obtain⟨A,d,rfl,C,m⟩:=xK.two p;obtain⟨b,c⟩:∃b:Int,b=(k:Int):=⟨_,rfl⟩;obtain⟨t,rfl⟩:∃t,A=Value.int b t:=by rw[c];exact C
 obtain⟨z,a,n,r,hl,e⟩:=I.lstM j;have w:cXO b=true:=fitsIndex_both (by omega) (by omega);have g:¬(!cXO b)=true:=by rw[w];exact Bool.false_ne_true
 have f:a.toArray.size<=bKb:=by rw[bWZ,<- hl];exact z
 have B:=PySem.AutoSeq1.list_insert_list_int_val_1 l a.toArray n b t d g f;refine call_meets cX2 ⟨_,e,rfl⟩ PySem.F.entry_list_insert (PySem.F.args_list_insert_3 _ _ _) B ⟨e,?_⟩;refine⟨.non,_,I.lset (its':=a.take k++d::a.drop k) j e ?_ ((r.take k).append (.cons m (r.drop k))) ?_,rfl,q⟩
 ·have o:(if b<0 then(b+(a.toArray.size:Nat)).toNat else min b.toNat a.toArray.size)=k:=by
   rw[if_neg (by omega),c,bKs,bWZ];omega
  show(a.toArray.extract 0 (if b<0 then(b+(a.toArray.size:Nat)).toNat else min b.toNat a.toArray.size)).push d++a.toArray.extract (if b<0 then(b+(a.toArray.size:Nat)).toNat else min b.toNat a.toArray.size)=_;rw[o];exact bX0 a k d
 ·rw[bWW,bKH,bKz,bYu,bKg];omega
end
end L2
namespace Wh
open PySem L2 PyProof.Rows
open Bk (Row Rows)
open Law (y7 xW x2 aVS)
open Thr (xT jA)
theorem xU:bKx "len"=some (.builtin "len"):=dk
theorem x6:bKx "sorted"=some (.builtin "sorted"):=dk
theorem wT:bKx "isinstance"=some (.builtin "isinstance"):=dk
theorem bQ2:bKx "int"=some (.type "int"):=dk
theorem u7:bKx "list"=some (.type "list"):=dk
structure vD(mg:Str->Option bWG):Prop where
 b_len:mg "len"=none
 b_sorted:mg "sorted"=none
 b_isinstance:mg "isinstance"=none
 b_int:mg "int"=none
 b_list:mg "list"=none
 b_range:mg "range"=none
 b_reversed:mg "reversed"=none
abbrev aQJ:Stmt:=y7 "_law_forest"
inductive aJx(vs:List V)(H:Hp)(Q:VK)(_:XK):Prop|mk (ca:Nat) (cs:List Int) (_:vs= [.ref ca]) (_:H ca=some (.lst (cs.map V.int))) (_:cs.length<=12) (_:∀ (H':Hp)(t oa ra:Nat)(rs:List Nat)(R:Rows)(ord:List Nat),xV H H'->H' t=some (.tup [.ref oa,.ref ra])->H' oa=some (.lst (ord.map λi=>V.int (i:Nat)))->x2 H' ra rs R->R.length=cs.length->xP ord R->Q (.ref t) H')
theorem bJV(x y:Str)(m:Int):∃z,(z=x\/z=y)/\atI [V.str x,V.str y] (m % 2)=some (.str z):=by
 have:m % 2=0\/m % 2=1:=by omega
 rcases this with e|e<;> rw[e]
 ·exact⟨x,.inl rfl,rfl⟩
 ·exact⟨y,.inr rfl,rfl⟩
theorem bVN(m:Int):∃z:Int,0<=z/\atI [V.int 0,V.int 1,V.int 4,V.int 2,V.int 6] (m % 5)=some (.int z):=by
 have:m % 5=0\/m % 5=1\/m % 5=2\/m % 5=3\/m % 5=4:=by omega
 rcases this with e|e|e|e|e<;> rw[e]
 ·exact⟨0,by decide,rfl⟩
 ·exact⟨1,by decide,rfl⟩
 ·exact⟨4,by decide,rfl⟩
 ·exact⟨2,by decide,rfl⟩
 ·exact⟨6,by decide,rfl⟩
theorem jV{ns:List Int}{k:Nat}(h:k<ns.length):∃c,atI (ns.map V.int) (k:Int)=some (.int c):=
 ⟨ns[k],yV (by rw[bWY,bWF h];rfl)⟩
theorem aYq(t n:Nat):((t:Int)+1) % (n:Int)=(((t+1) % n:Nat):Int):=by
 rw[Int.natCast_emod];rfl
theorem aWf(t n:Nat):((t:Int)+2) % (n:Int)=(((t+2) % n:Nat):Int):=by
 rw[Int.natCast_emod];rfl
def rw7(r:Row):List V:= [.str r.way,.int r.date,.str r.partner,.int r.term,xW r.link,.str "",.bl false]
def bVr(ord:List Nat)(G:Nat->Row)(s:Nat)(r:Row):Prop:=r.void=false/\r.place=""/\r.copies= []/\0<=r.term/\(r.way="in"\/r.way="out")/\
 ∀u,r.link=some u->∃a,a<s/\ord[a]? =some u/\r.way=Bk.wM (G u).way/\r.partner=(G u).partner/\(G u).date<=r.date
structure Rw(H0 H:Hp)(ra oa:Nat)(ord:List Nat)(t:Nat)(rs:List Nat)(G:Nat->Row):Prop where
 lst:H ra=some (.lst (rs.map V.ref))
 len:rs.length=ord.length
 nd:rs.Nodup
 ob:∀b∈rs,(∃xs,H b=some (.lst xs))/\H0 b=none/\b≠ra/\b≠oa
 row:∀s i,s<t->ord[s]? =some i->∃b,rs[i]? =some b/\H b=some (.lst (rw7 (G i)))
 up:∀s i,s<t->ord[s]? =some i->bVr ord G s (G i)
theorem Rw.same{a H c:Hp}{f g:Nat}{ord:List Nat}{t:Nat}{d:List Nat}{G:Nat->Row}(h:Rw a H f g ord t d G)(k:xV H c):Rw a c f g ord t d G:=
 ⟨k _ _ h.lst,h.len,h.nd,λb j=>let ⟨⟨xs,e⟩,r⟩:=h.ob b j;⟨⟨xs,k _ _ e⟩,r⟩,λs i m l=>let ⟨b,e1,e2⟩:=h.row s i m l;⟨b,e1,k _ _ e2⟩,h.up⟩
theorem aXy{α:Type}{p:α}:∀ {l:List α} {i:Nat},l.Nodup->p∉l->(l.set i p).Nodup
 |[],_,h,_=>h
 |x::r,0,h,hp=>by rw[List.set_cons_zero,bK4];exact⟨λz=>hp (bWR _ z),(bK4.mp h).2⟩
 |x::r,i+1,h,hp=>by
  rw[List.set_cons_succ,bK4];refine⟨λz=>?_,aXy (bK4.mp h).2 λz=>hp (bWR _ z)⟩;rcases cQ3 z with z|z
  ·exact(bK4.mp h).1 z
  ·exact hp (by rw[<- z];exact bWV)
theorem bJk{ord:List Nat}{t:Nat}(g:t<=ord.length)(h0:0<t)(x:Int):∃j c,c<t/\ord[c]? =some j/\atI (ord.map λi=>V.int (i:Nat)) (x % (t:Int))=some (V.int (j:Nat)):=by
 have f:=cXq x (show(t:Int)≠0 by omega);have e:=cXG x (show(0:Int)<(t:Int) by omega);obtain⟨m,d⟩:∃m:Nat,x % (t:Int)=(m:Int):=⟨(x % (t:Int)).toNat,by omega⟩;have b:m<t:=by omega
 have a:m<ord.length:=by omega
 refine⟨ord[m],m,b,bWF a,?_⟩;rw[d];exact yV (by rw[bWY,bWF a];rfl)
section
variable {K:bWI}
theorem aKC:yJ ["_law_cells","_law_order","_law_k","_law_rows","_law_spot","_law_near","_law_far","_law_term","_law_way","_law_row","_law_up","_law_base"] ["_law_cells"] (yD aQJ):=⟨rfl,rfl,rfl,dk,rfl,dk,dk⟩
theorem aWB:y9 ["_law_cells","_law_order","_law_k","_law_rows","_law_spot","_law_near","_law_far","_law_term","_law_way","_law_row","_law_up","_law_base"] (yD aQJ) "_law_k" [] [] (lsN [(".0",.local),("_law_k",.local)]):=
 lcM
theorem aWW(T:vD mg)(F:Fun K "_law_forest" "_law_forest" aQJ f fd):y0 P w K mg base CX0 1 f fd ["_law_cells"] aJx:=by
 have sc:=aKC;refine F.ok (k:=0) sc (λh8 A outer s H0 vs Q E hr h=>?_);obtain⟨X,g,rfl,b4,h9,q⟩:=h;refine⟨_,(yC (yO (i:=1) (xR yF)) (yC (zK bKB rfl (zF rfl T.b_range (yA (yT yM rfl T.b_len xU (yA (pv 0) yF)) yF)) (yZ (i:=2)) (yG (yQ (vJ bKj cX2 PySem.F.type_list_insert aWJ (pv 1) (yA (y2 zJ (yN yL (pv 0) (pv 2)) (y2 wB (pv 2) yK)) (yA (pv 2) yF)))))) (yC (aVq (i:=3) aWB rfl sc.nd rfl rfl (xB (pv 1)) (λ_ _ _ _ _=>zG) (λ_ _ _ _ _=>(xR yF))) (yC (zK bKB rfl (zF rfl T.b_range (yA (yT yM rfl T.b_len xU (yA (pv 1) yF)) yF)) (yZ (i:=4)) (yC (yO (i:=5) (yN yL (pv 0) (y2 zJ (y2 wB (pv 4) yK) (yT yM rfl T.b_len xU (yA (pv 0) yF))))) (yC (yO (i:=6) (yN yL (pv 0) (y2 zJ (y2 wB (pv 4) yK) (yT yM rfl T.b_len xU (yA (pv 0) yF))))) (yC (yO (i:=7) (yN yL (xR (yA yK (yA yK (yA yK (yA yK (yA yK yF)))))) (y2 zJ (pv 6) yK))) (yC (yO (i:=8) (yN yL (xR (yA y1 (yA y1 yF))) (y2 zJ (y2 jB (pv 6) yK) yK))) (yC (yO (i:=9) (xR (yA (pv 8) (yA (y2 Q7 (y2 zJ (y2 jB (pv 5) yK) yK) yK) (yA (yN yL (xR (yA y1 (yA y1 yF))) (y2 zJ (pv 6) yK)) (yA (pv 7) (yA wG yF))))))) (yC (zC (PW.pt (Q9 (yU aZu (pv 4) yK) (Y4 (yU aZu (y2 zJ (pv 5) yK) yK)))) (yC (yO (i:=10) (yN yL (pv 1) (y2 zJ (y2 jB (yN yL (pv 0) (pv 4)) yK) (pv 4)))) (yC (yO (i:=11) (yN yL (pv 3) (pv 10))) (yC (yO (i:=8) (yN yL (xR (yA y1 (yA y1 yF))) (uO aVZ rfl T.b_int bQ2 (yA (wI aQy (yN yL (pv 11) yK) y1) yF)))) (yG (yO (i:=9) (xR (yA (pv 8) (yA (y2 wB (yN yL (pv 11) yK) (y2 zJ (y2 jB (pv 5) yK) yK)) (yA (yN yL (pv 11) yK) (yA (pv 7) (yA (pv 10) yF))))))))))) yY) (yG (aJk (y2 qX (pv 9) (xR (yA y1 (yA qZ yF)))) (bJT (pv 3) (yN yL (pv 1) (pv 4)) aQT)))))))))) (yG (yP (zW (yA (pv 1) (yA (pv 3) yF))))))))),?_⟩;refine⟨z0,λN c9=>?_⟩;dsimp only[yS];have k1:=yI c9 (.lst []);have O:(g.map V.int).length=g.length:=bWK _;refine⟨_,rfl,X,_,rfl,.inl (SqL.of (k1 _ _ b4)),?_⟩;rw[O];refine⟨_,rfl,by omega,by omega,?_⟩;rw[bKs];refine z9 (λt σ H=>∃ (a:List Nat)(o2:Option V),σ= [some (.ref X),some (.ref N),o2,none,none,none,none,none,none,none,none,none]/\xV H0 H/\H N=some (.lst (a.map λi=>V.int (i:Nat)))/\a.Perm (bWS t)) ?_ ?_ ?_
 ·exact⟨[],none,rfl,k1,yB,.refl _⟩
 ·rintro k σ H hk ⟨a,o2,rfl,W,ho,hp⟩;rw[cQk];dsimp only[yS];have h5:a.length=k:=by rw[hp.length_eq,bKo]
  obtain⟨c,hc⟩:=jV (ns:=g) hk;refine⟨_,rfl,.inl ⟨rfl,_,SqL.of ho⟩,_,rfl,_,rfl,X,_,_,_,rfl,rfl,SqL.of (W _ _ b4),hc,_,rfl,_,_,rfl,rfl,_,_,rfl,rfl,(show(0:Int)<(k:Int)+1 by omega),_,rfl,?_⟩;obtain⟨m,e,h7⟩:∃m:Nat,c % ((k:Int)+1)=(m:Int)/\m<=k:=by have L:=cXq c (show(k:Int)+1≠0 by omega);have C:=cXG c (show(0:Int)<(k:Int)+1 by omega);exact⟨(c % ((k:Int)+1)).toNat,by omega,by omega⟩
  refine⟨N,_,m,V.int (k:Nat),rfl,?_,ho,by rw[bWK];omega,by rw[bWK];omega,a.take m++k::a.drop m,_,rfl,xT W c9,?_,?_⟩
  ·show [V.int (c % ((k:Int)+1)),V.int (k:Nat)]=_;rw[e]
  ·rw[yB,bKR,bKv,List.map_take,List.map_drop]
  ·rw[bYP];refine List.Perm.trans List.perm_middle ?_;rw[cQc];exact List.Perm.trans (List.Perm.cons _ hp) (List.perm_append_singleton k _).symm
 rintro σ H1 ⟨a,o2,rfl,W,d,y⟩;have B:a.length=g.length:=by rw[y.length_eq,bKo]
 have b0:∀i∈a,i<g.length:=λi x=>bKc.mp (y.mem_iff.mp x);have v:a.Nodup:=y.nodup_iff.mpr bY0;refine⟨_,rfl,N,rfl,⟨_,SqL.of d⟩,λra b7=>jA (SqL.of d) b7 (by rw[bWK];omega) λH2 d3 k2 hD h4 nd d6=>?_⟩;rw[bWK,B]at h4;dsimp only[yS];have d0:=k2 _ _ d;have h6:ra≠N:=bKl (yE d b7);refine⟨_,rfl,N,_,rfl,.inl (SqL.of d0),?_⟩;rw[bWK,B];refine⟨_,rfl,by omega,by omega,?_⟩;rw[bKs];refine z9 (λt σ H=>∃ (rs:List Nat)(G:Nat->Row)(o2 o4 o5 o6 o7 o8 o9 I D:Option V),σ= [some (.ref X),some (.ref N),o2,some (.ref ra),o4,o5,o6,o7,o8,o9,I,D]/\xV H1 H/\Rw H1 H ra N a t rs G) ?_ ?_ ?_
 ·refine⟨d3,λ_=>⟨"",0,"",0,none,"",false,[]⟩,_,none,none,none,none,none,none,none,none,rfl,k2,hD,by omega,nd,λb hb=>?_,λs i M=>absurd M (bKK _),λs i M=>absurd M (bKK _)⟩;obtain⟨L,C,h3⟩:=d6 b hb;exact⟨⟨_,L⟩,C,h3,bKl (yE d C)⟩
 ·rintro t σ H ht ⟨rs,G,o2,o4,o5,o6,o7,o8,o9,I,D,rfl,n,J⟩;rw[cQk];dsimp only[yS];have b1:0<g.length:=by omega
  have a9:∀ {H'},xV H H'->H' X=some (.lst (g.map V.int)):=λ{H'} k=>k _ _ (n _ _ (W _ _ b4));have hS:=SqL.of (K:=K) (a9 (xV.refl H));have c5:(0:Int)<(((g.map V.int).length:Nat):Int):=by rw[O];omega
  obtain⟨U,d8⟩:∃U,atI (g.map V.int) (((t:Int)+1) % (((g.map V.int).length:Nat):Int))=some (.int U):=by rw[O,aYq];exact jV (Nat.mod_lt _ b1)
  obtain⟨c2,e3⟩:∃c2,atI (g.map V.int) (((t:Int)+2) % (((g.map V.int).length:Nat):Int))=some (.int c2):=by rw[O,aWf];exact jV (Nat.mod_lt _ b1)
  refine⟨_,rfl,_,rfl,_,_,rfl,rfl,_,rfl,X,_,rfl,.inl hS,_,_,rfl,rfl,c5,X,_,_,_,rfl,rfl,hS,d8,?_⟩;dsimp only[yS];refine⟨_,rfl,_,rfl,_,_,rfl,rfl,_,rfl,X,_,rfl,.inl hS,_,_,rfl,rfl,c5,X,_,_,_,rfl,rfl,hS,e3,?_⟩;dsimp only[yS];obtain⟨tm,a8,e8⟩:=bVN c2;refine⟨z5,λp1 g9=>⟨_,rfl,_,_,rfl,rfl,(show(0:Int)<5 by decide),p1,_,_,_,rfl,rfl,SqL.of yB,e8,?_⟩⟩;dsimp only[yS];obtain⟨wy,c4,d2⟩:=bJV "in" "out" (c2 / 5);refine⟨z2,λp2 d9=>⟨_,rfl,_,_,rfl,rfl,⟨by decide,by decide⟩,_,_,rfl,rfl,(show(0:Int)<2 by decide),p2,_,_,_,rfl,rfl,SqL.of yB,d2,?_⟩⟩;dsimp only[yS];obtain⟨pt,_,h0⟩:=bJV "ann" "bo" c2;refine⟨_,rfl,_,rfl,_,_,rfl,rfl,⟨by decide,by decide⟩,_,_,rfl,rfl,(show(0:Int)<14 by decide),_,_,rfl,rfl,z2,λp3 d1=>⟨_,rfl,_,_,rfl,rfl,(show(0:Int)<2 by decide),p3,_,_,_,rfl,rfl,SqL.of yB,h0,_,rfl,z5,λp4 f9=>?_⟩⟩;dsimp only[yS];have ka:=(yI g9 (.lst [V.int 0,V.int 1,V.int 4,V.int 2,V.int 6])).trans ((yI d9 (.lst [V.str "in",V.str "out"])).trans ((yI d1 (.lst [V.str "ann",V.str "bo"])).trans (yI f9 (.lst [V.str wy,V.int (U / 4 % 14 - 3),V.str pt,V.int tm,V.non]))));have er:upd (upd (upd (upd H p1 (.lst [V.int 0,V.int 1,V.int 4,V.int 2,V.int 6])) p2 (.lst [V.str "in",V.str "out"])) p3 (.lst [V.str "ann",V.str "bo"])) p4 (.lst [V.str wy,V.int (U / 4 % 14 - 3),V.str pt,V.int tm,V.non]) p4=some (.lst [V.str wy,V.int (U / 4 % 14 - 3),V.str pt,V.int tm,V.non]):=yB;refine w1 (λσ' H'=>∃ (r9:Nat)(l:Row)(o5 o6 o7 o8 I D:Option V),σ'= [some (.ref X),some (.ref N),o2,some (.ref ra),some (.int (t:Nat)),o5,o6,o7,o8,some (.ref r9),I,D]/\xV H H'/\
   H' r9=some (.lst [.str l.way,.int l.date,.str l.partner,.int l.term,xW l.link])/\bVr a G t l) ?qB (λa6=>?_)
  case qB=>
   rintro σ' H' ⟨r9,l,o5,o6,o7,o8,I,D,rfl,kH,c7,e7⟩;have a1:t<a.length:=by omega
   have a2:=bWF a1;have g6:a[t]<g.length:=b0 _ (bYI a1);generalize Y:a[t]=i0 at a2 g6;refine⟨_,rfl,z2,λp5 a4=>⟨r9,p5,_,_,rfl,rfl,by rw[yH (yE c7 a4)];exact c7,yB,by rw[bKg];show 5+2<=16777216;decide,λS a5=>?_⟩⟩;have k5:=yI a4 (.lst [V.str "",V.bl false]);have k6:=yI a5 (.lst ([V.str l.way,V.int l.date,V.str l.partner,V.int l.term,xW l.link]++ [V.str "",V.bl false]));have R:=kH.trans (k5.trans k6);have e6:upd (upd H' p5 (.lst [V.str "",V.bl false])) S (.lst ([V.str l.way,V.int l.date,V.str l.partner,V.int l.term,xW l.link]++ [V.str "",V.bl false])) S=some (.lst (rw7 l)):=yB;have n6:H S=none:=(kH.trans k5).fresh a5;generalize upd (upd H' p5 (.lst [V.str "",V.bl false])) S (.lst ([V.str l.way,V.int l.date,V.str l.partner,V.int l.term,xW l.link]++ [V.str "",V.bl false]))=H6 at R e6 ⊢;have W6:=J.same R;have c6:=R _ _ (n _ _ d);have a7:rs.length=g.length:=by rw[J.len];exact B
   refine⟨_,rfl,_,rfl,_,rfl,N,_,_,V.int (i0:Nat),rfl,rfl,SqL.of c6,yV (by rw[bWY,a2];rfl),ra,_,_,i0,rfl,rfl,W6.lst,?_,?_⟩
   ·unfold ixN;rw[if_pos (by omega),if_pos (by rw[bWK];omega),bKs]
   ·have pr:S∉rs:=λz=>by
     obtain⟨⟨xs,e⟩,_⟩:=J.ob S z;rw[n6]at e;cases e
    have b6:S≠ra:=bKl (yE J.lst n6);have e9:S≠N:=bKl (yE (n _ _ d) n6);have a0:∀ {s:Nat} {r:Row},s<=t->bVr a G s r->bVr a (λi=>if i=i0 then l else G i) s r:=λ{s r} hst h=>⟨h.1,h.2.1,h.2.2.1,h.2.2.2.1,h.2.2.2.2.1,λu hu=>by
      obtain⟨s',g1,g2,g3,g4,g5⟩:=h.2.2.2.2.2 u hu;have e4:u≠i0:=λz=>by have L:s'<a.length:=(bWP.mp g2).1;have C:a[s']=u:=(bWP.mp g2).2;have:=(bYo (h₀:=L) (h₁:=a1) v).mp (by rw[C,Y];exact z);omega
      refine⟨s',g1,g2,?_⟩;dsimp only;rw[if_neg e4];exact⟨g3,g4,g5⟩⟩
    have p:∀b o,b≠ra->H6 b=some o->upd H6 ra (.lst ((rs.map V.ref).set i0 (V.ref S))) b=some o:=λb o hb e=>by rw[yH hb];exact e
    refine⟨rs.set i0 S,λi=>if i=i0 then l else G i,_,_,_,_,_,_,_,_,_,rfl,xT (n.trans R) b7,?_,?_,?_,λb hb=>?_,λs i M x=>?_,λs i M x=>?_⟩
    ·rw[yB,List.map_set]
    ·rw[List.length_set];exact J.len
    ·exact aXy J.nd pr
    ·rcases cQ3 hb with hb|rfl
     ·obtain⟨⟨xs,e⟩,L,C,h3⟩:=W6.ob b hb;exact⟨⟨xs,p _ _ C e⟩,L,C,h3⟩
     ·exact⟨⟨_,p _ _ b6 e6⟩,n.fresh n6,b6,e9⟩
    ·by_cases Z:s=t
     ·subst Z;rw[a2]at x;cases x;refine⟨S,by rw[bY1 (by omega)],?_⟩;rw[if_pos rfl];exact p _ _ b6 e6
     ·have a3:i≠i0:=λz=>by
       have L:s<a.length:=(bWP.mp x).1;have C:a[s]=i:=(bWP.mp x).2;exact Z ((bYo (h₀:=L) (h₁:=a1) v).mp (by rw[C,Y];exact z))
      obtain⟨b,L,C⟩:=W6.row s i (by omega) x;refine⟨b,by rw[cQO (bKl a3)];exact L,?_⟩;rw[if_neg a3];exact p _ _ (W6.ob b (bW1 L)).2.2.1 C
    ·by_cases Z:s=t
     ·subst Z;rw[a2]at x;cases x;rw[if_pos rfl];exact a0 (bWN _) e7
     ·have a3:i≠i0:=λz=>by
       have L:s<a.length:=(bWP.mp x).1;have C:a[s]=i:=(bWP.mp x).2;exact Z ((bYo (h₀:=L) (h₁:=a1) v).mp (by rw[C,Y];exact z))
      rw[if_neg a3];exact a0 (by omega) (W6.up s i (by omega) x)
  generalize upd (upd (upd (upd H p1 (.lst [V.int 0,V.int 1,V.int 4,V.int 2,V.int 6])) p2 (.lst [V.str "in",V.str "out"])) p3 (.lst [V.str "ann",V.str "bo"])) p4 (.lst [V.str wy,V.int (U / 4 % 14 - 3),V.str pt,V.int tm,V.non])=Ha at ka er ⊢;have c0:=a6 _ Ha ⟨p4,⟨wy,U / 4 % 14 - 3,pt,tm,none,"",false,[]⟩,some (.int U),some (.int c2),some (.int tm),some (.str wy),I,D,rfl,ka,er,rfl,rfl,rfl,a8,c4,λj hj=>nomatch hj⟩;refine⟨_,rfl,_,_,rfl,rfl,_,rfl,?_⟩;cases L:decide ((t:Int) > 0)with
  |false=>exact onF rfl (onF rfl c0)
  |true=>
   have d5:0<t:=by have:=of_decide_eq_true L;omega
   refine onT rfl ⟨_,rfl,_,_,rfl,rfl,(show(0:Int)<4 by decide),_,_,rfl,rfl,_,rfl,?_⟩;cases C:decide (U % 4 > 0)with
   |false=>exact onF rfl c0
   |true=>
    refine onT rfl ?_;have g7:=SqL.of (K:=K) (a9 ka);obtain⟨c3,f0⟩:=jV (ns:=g) ht;obtain⟨j,s',b5,hj,e5⟩:=bJk (ord:=a) (t:=t) (by omega) d5 (c3 / 3);have c8:=ka _ _ (n _ _ d);refine⟨_,rfl,_,rfl,_,rfl,X,_,_,_,rfl,rfl,g7,f0,_,_,rfl,rfl,⟨by decide,by decide⟩,_,rfl,_,_,rfl,rfl,(show(0:Int)<(t:Int) by omega),N,_,_,_,rfl,rfl,SqL.of c8,e5,?_⟩;dsimp only[yS];have Wa:=J.same ka;obtain⟨b,f8,d4⟩:=Wa.row s' j b5 hj;obtain⟨f1,f2,f3,f4,f5,f6⟩:=Wa.up s' j b5 hj;refine⟨_,rfl,_,rfl,ra,_,_,V.ref b,rfl,rfl,SqL.of Wa.lst,yV (by rw[bWY,f8];rfl),?_⟩;dsimp only[yS];refine⟨z2,λp5 a4=>?_⟩;have k5:=yI a4 (.lst [V.str "in",V.str "out"]);have b8:=k5 _ _ d4;refine⟨_,rfl,b,_,0,_,rfl,rfl,SqL.of b8,rfl,rfl,.inr ⟨_,rfl,?_⟩⟩;have pk:atI [V.str "in",V.str "out"] (if decide (V.str (G j).way=V.str "in")=true then 1 else 0)=some (V.str (Bk.wM (G j).way)):=by
     unfold Bk.wM;by_cases z:(G j).way="in"
     ·rw[z];rfl
     ·rw[if_neg z,if_neg (by simpa using z)];rfl
    refine⟨p5,_,_,_,rfl,rfl,SqL.of yB,pk,?_⟩;dsimp only[yS];refine⟨_,rfl,_,rfl,b,_,1,_,rfl,rfl,SqL.of b8,rfl,_,rfl,_,_,rfl,rfl,⟨by decide,by decide⟩,_,_,rfl,rfl,(show(0:Int)<6 by decide),_,_,rfl,rfl,_,rfl,b,_,2,_,rfl,rfl,SqL.of b8,rfl,_,rfl,_,rfl,z5,λS a5=>?_⟩;exact a6 _ _ ⟨S,⟨Bk.wM (G j).way,(G j).date+U / 4 % 6,(G j).partner,tm,some j,"",false,[]⟩,_,_,_,_,_,_,rfl,ka.trans (k5.trans (yI a5 _)),yB,rfl,rfl,rfl,a8,(Bk.jY f5).2,λj' e0=>by cases e0;exact⟨s',b5,hj,rfl,rfl,by show(G j).date<=(G j).date+U / 4 % 6;have:=cXq (U / 4) (show(6:Int)≠0 by decide);omega⟩⟩
 ·rintro σ H ⟨rs,G,o2,o4,o5,o6,o7,o8,o9,I,D,rfl,n,J⟩;refine⟨_,rfl,_,rfl,z2,λtp g0=>?_⟩;have kt:=yI g0 (.tup [V.ref N,V.ref ra]);have a7:rs.length=g.length:=by rw[J.len];exact B
  have f7:∀i,i<g.length->∃s,s<g.length/\a[s]? =some i:=λi x=>by have hm:i∈a:=y.mem_iff.mpr (bKc.mpr x);obtain⟨s,M,e⟩:=cQh.mp hm;exact⟨s,by omega,by rw[bWF M,e]⟩
  have gR:∀ (k:Nat)(r:Row),((bWS g.length).map G)[k]? =some r->k<g.length/\G k=r:=λk r h=>by
   rw[bWY]at h;by_cases hk:k<g.length
   ·rw[bYb hk]at h;exact⟨hk,bWX h⟩
   ·rw[bKf (by simp;omega)]at h;cases h
  have b3:((bWS g.length).map G).length=g.length:=by simp
  have d7:∀k,k<g.length->((bWS g.length).map G)[k]? =some (G k):=λk hk=>by rw[bWY,bYb hk];rfl
  refine q _ tp N ra rs ((bWS g.length).map G) a (W.trans (n.trans kt)) yB (kt _ _ (n _ _ d)) ⟨kt _ _ J.lst,by rw[b3];exact a7,J.nd,λi b r hb b2=>?_⟩ b3 ⟨v,λk=>by rw[y.mem_iff,bKc,b3],λs k r M b2=>?_⟩
  ·obtain⟨x,rfl⟩:=gR i r b2;obtain⟨s,M,b9⟩:=f7 i x;obtain⟨b',e1,e2⟩:=J.row s i M b9;obtain⟨_,f2,_⟩:=J.up s i M b9;have f1:=(J.up s i M b9).1;rw[hb]at e1;cases e1;refine⟨0,?_,rfl⟩;rw[f1,f2];exact kt _ _ e2
  ·obtain⟨x,rfl⟩:=gR k r b2;have g8:s<g.length:=by rw[<- B];exact(bWP.mp M).1
   obtain⟨f1,f2,f3,f4,f5,f6⟩:=J.up s k g8 M;refine⟨f1,f2,f3,f4,f5,λu hu=>?_⟩;obtain⟨s',g1,g2,g3,g4,g5⟩:=f6 u hu;exact⟨s',G u,g1,g2,d7 u (b0 u (bW1 g2)),g3,g4,g5⟩
end
end Wh
namespace L2
open PySem PySem.Spec PyProof.Rows
theorem aZ5:∀ {ks:List Int} {vs:List bWG},xK (ks.map V.int) vs->cQa vs ks
 |[],_,.nil=> .nil
 |k::ks,_,.cons ⟨t,e⟩ r=>by subst e;exact .cons _ t (aZ5 r)
section
variable {X:Cx}
theorem z7:uY X (.builtin "sorted") (λv H Q=>∃ (p:Nat)(ks:List Int),v= [.ref p]/\H p=some (.lst (ks.map V.int))/\ks.length<64/\ ∀ (l:Nat)(ns:List Int),H l=none->ns.Perm ks->ns.Pairwise (·<=·)->Q (.ref l) (upd H l (.lst (ns.map V.int)))):=by
 intro k s σ H v N Q I r h;obtain⟨p,ks,rfl,B,C,q⟩:=h;obtain⟨u,rfl,J⟩:=jU r;cases J;obtain⟨a,t,G,M⟩:=I.list (SqL.of B);have x:a.length=ks.length:=by rw[<- t.length,bWK]
 have L:=aZ5 t;refine cQ1 kind_sorted plain_sorted entry_sorted (args_sorted1 _) ?_;unfold bYC.«sorted»;refine bWH (m:=checkCount "sorted" 1 1 _) (bWM ?_);refine bWH (collect_list G.isList ?_ (by rw[bKg];omega));refine bWH (cQW ?_ (by rw[bKg];omega));have g:((s.heap.push (bKr "list" #[] 0)).update s.heap.objs.size (bKu (·++a.toArray))).objs.size=s.heap.objs.size+1:=by rw[Heap.size_update,size_push']
 have d:(((s.heap.push (bKr "list" #[] 0)).update s.heap.objs.size (bKu (·++a.toArray))).push (bKr "list" a.toArray 0)).get? (s.heap.objs.size+1)=some (bKr "list" a.toArray 0):=by rw[<- g];exact bW4 _ rfl
 have keep:∀b o,s.heap.get? b=some o->(((s.heap.push (bKr "list" #[] 0)).update s.heap.objs.size (bKu (·++a.toArray))).push (bKr "list" a.toArray 0)).get? b=some o:=λb o q=>by have c:b<s.heap.objs.size:=bWT q;refine bWL _ ?_;exact(bKe _ _ (bY7 c)).trans (bWL _ q)
 show bWO _ _ _ _ _ {s with heap:=((s.heap.push (bKr "list" #[] 0)).update s.heap.objs.size (bKu (·++a.toArray))).push (bKr "list" a.toArray 0) };rw[g];have f:(((s.heap.push (bKr "list" #[] 0)).update s.heap.objs.size (bKu (·++a.toArray))).push (bKr "list" a.toArray 0)).objs.size=s.heap.objs.size+2:=by rw[size_push',g]
 generalize D:((s.heap.push (bKr "list" #[] 0)).update s.heap.objs.size (bKu (·++a.toArray))).push (bKr "list" a.toArray 0)=h1 at d keep f ⊢;refine bWH (bKJ (bYy cXK ⟨_,d,rfl⟩ cXB (list_sort_tree d L (by omega) λout i y w F=>⟨_,rfl,?_⟩) (cXJ _)));obtain⟨n,e⟩:=sortedHeap_at (out:=out) d;have hl:s.heap.objs.size<=s.heap.objs.size+1:=bYN _;have E:H (s.heap.objs.size+1)=none:=I.hok.fresh hl;have j:i.length<=bKb:=by rw[w.length_eq,bKg];omega
 refine bWM ⟨_,rfl,.ref (s.heap.objs.size+1),_,I.laid (o:= .lst (i.map V.int)) (λb o e=>?_) hl ⟨by rw[bWK];exact j,out.toList,n,wO y,by simpa using e⟩,rfl,q _ i E w F⟩;have z:=keep b o e;have c:b<s.heap.objs.size:=bWT e;have A:b≠s.heap.objs.size+1:=bW9 (bKT c);have K:b<h1.objs.size:=by rw[f];exact bW6 c (Nat.le_add_right _ 2)
 rw[sortedHeap_old A K];exact z
end
end L2
namespace Wh
open PySem L2 PyProof.Rows
open Bk (Row Rows xX y3 Ans lk dt)
open Law (y7 xW x2 aVS)
open Thr (xT)
open Desk (z8 y6 Wf Run)
abbrev sAt:Stmt:=y7 "_law_at"
inductive aJs(K:bWI)(vs:List V)(H:Hp)(Q:VK)(_:XK):Prop|mk (a:Nat) (ns:List Int) (k:Nat) (_:vs= [.ref a,.int (k:Int)]) (_:SqL K H a (ns.map V.int)) (_:Q (.int (ns.getD k 0)) H)
section
variable {K:bWI}
theorem bZL:yJ ["_law_script","_law_k"] ["_law_script","_law_k"] (yD sAt):=scM
seal PE PA PS PSs PT in
theorem bZg(T:vD mg)(F:Fun K "_law_at" "_law_at" sAt f fd):y0 P w K mg base CX0 1 f fd ["_law_script","_law_k"] (aJs K):=by
 have l:=bZL;refine F.ok (k:=0) l (λj A outer s H n Q E m h=>?_);obtain⟨a,b,k,rfl,g,q⟩:=h;refine⟨_,(yC (zC (yU qY (pv 1) (yT yM rfl T.b_len xU (yA (pv 0) yF))) (yG (yP (yN yL (pv 0) (pv 1)))) yY) (yG (yP yK))),?_⟩;refine⟨_,rfl,_,rfl,a,_,rfl,.inl g,_,_,rfl,rfl,_,rfl,?_⟩;refine aJW (λc=>?_) (λc=>?_)
 ·have d:=of_decide_eq_true c;have i:k<b.length:=by rw[bWK]at d;omega
  refine⟨_,rfl,_,rfl,a,_,_,.int (b.getD k 0),rfl,rfl,g,yV ?_,q⟩;simp[bWY,bKC,bWF i]
 ·have d:=of_decide_eq_false (Bool.eq_false_iff.mpr c);have i:¬k<b.length:=by rw[bWK]at d;omega
  have e:b.getD k 0=0:=by simp[bKC,bKf (show b.length<=k by omega)]
  rw[e]at q;exact q
end
def Z6(ks:List Nat)(pos:Nat->Nat):List (Key×V):=ks.map λk:Nat=>(Sum.inl (k:Int),V.int (pos k:Nat))
theorem jX{pos:Nat->Nat}{k:Nat}:∀ {ks:List Nat},jR (Z6 ks pos) (Sum.inl (k:Int))=if k∈ks then some (V.int (pos k:Nat))else none
 |[]=>rfl
 |j::ks=>by
  have a:=jX (pos:=pos) (k:=k) (ks:=ks);unfold Z6 at a ⊢;rw[bKv];by_cases e:j=k
  ·subst e;rw[x9 rfl,if_pos (bWV ..)]
  ·rw[x8 (λz=>e (by have:=Sum.inl.inj (show(Sum.inl (j:Int):Key)=Sum.inl (k:Int)from z);omega)),a];simp[bKl e]
theorem aJg{ks:List Nat}{pos:Nat->Nat}{k:Nat}(h:k∉ks):aQC (Z6 ks pos) (Sum.inl (k:Int)) (V.int (pos k:Nat))=Z6 (ks++ [k]) pos:=by
 rw[bQe _ (by rw[jX,if_neg h])];unfold Z6;rw[bKR];rfl
theorem bXj{ord:List Nat}(b:ord.Nodup):∃a,Pos ord a:=
 ⟨λk=>Classical.epsilon λs:Nat=>ord[s]? =some k,λs k h=>aZe b (Classical.epsilon_spec (p:=λs:Nat=>ord[s]? =some k) ⟨s,h⟩) h⟩
def rdt(R:Rows)(a:Nat->Int):Rows:=R.mapIdx λk r=>{r with date:=a k}
theorem aKc{R:Rows}{a:Nat->Int}{k:Nat}:(rdt R a)[k]? =(R[k]?).map λr=>{r with date:=a k}:=by unfold rdt;rw[List.getElem?_mapIdx]
theorem bZC{R:Rows}{a:Nat->Int}:(rdt R a).length=R.length:=by unfold rdt;rw[List.length_mapIdx]
theorem aXK{R:Rows}{a:Nat->Int}{k:Nat}{r:Row}(h:R[k]? =some r):(rdt R a)[k]? =some {r with date:=a k}:=by rw[aKc,h];rfl
theorem bQh{R:Rows}{a:Nat->Int}{k:Nat}{q:Row}(h:(rdt R a)[k]? =some q):∃r,R[k]? =some r/\q= {r with date:=a k}:=by
 rw[aKc]at h;cases b:R[k]? with
 |none=>rw[b]at h;cases h
 |some r=>rw[b]at h;exact⟨r,rfl,(bWX h).symm⟩
theorem aVr{ord:List Nat}{R:Rows}{a:Nat->Int}(h:xP ord R)(j:∀ (k u:Nat)(r:Row),R[k]? =some r->r.link=some u->a u<=a k):xP ord (rdt R a):=
 ⟨h.nd,λk=>by rw[h.mem,bZC],λs k q i g=>by
  obtain⟨r,c,rfl⟩:=bQh g;obtain⟨m,f,e,p,w,n⟩:=h.row s k r i c;refine⟨m,f,e,p,w,λu b=>?_⟩;obtain⟨o,q,v,x,t,l,d,y⟩:=n u b;exact⟨o,_,v,x,aXK t,l,d,j k u r c b⟩⟩
structure Way(R:Rows)(ks:List Nat)(pos:Nat->Nat)(es:List y3):Prop where
 run:∀S,∃as B,Run [] S es as B S/\Cor R pos B
 wf:∀e∈es,Wf e
 len:es.length<=3*R.length
 nd:ks.Nodup
 key:∀k,k∈ks↔k<R.length
theorem bXM{ord:List Nat}{R:Rows}{pos:Nat->Nat}{es:List y3}(h:xP ord R)(c:bXA ord pos R ord.length es):∀e∈es,Wf e:=λe i=>by
 obtain⟨s,g,rfl⟩:=cQh.mp i;have a:s<ord.length:=by rw[<- c.1];exact g
 have b:=bWF a;obtain⟨r,f⟩:=h.at_ b;have d:=c.2 s _ r a b f;rw[bWF g]at d;rw[bWX d];unfold bQ7;split
 ·exact(h.row s _ r b f).2.2.2.2.1
 ·exact bK3
theorem aKd{ord:List Nat}{R:Rows}{es:List y3}(h:xP ord R)(c:aVU ord R ord.length es):∀e∈es,Wf e:=λe g=>by
 obtain⟨i,f,rfl⟩:=cQh.mp g;have a:i<ord.length:=by rw[<- c.1];exact f
 have b:=bWF (show ord.length - 1 - i<ord.length by omega);obtain⟨r,j⟩:=h.at_ b;have d:=c.2 i _ r a b j;rw[bWF f]at d;rw[bWX d];exact bK3
def vZ(R:Rows)(pos:Nat->Nat)(a:Bool)(k:Nat):Int:=if a then dt R (Fm.tp (lk R) pos k)else dt R k
theorem bVp{ord:List Nat}{R:Rows}{pos:Nat->Nat}{es b:List y3}(h:xP ord R)(f:Pos ord pos)(a:Bool)(p:bXA ord pos (rdt R (vZ R pos a)) ord.length es)(g:if a then aVU ord R ord.length b else b= []):Way R ord pos (es++b):=by
 have o:=uI h f;have d1:∀ (k u:Nat)(r:Row),R[k]? =some r->r.link=some u->dt R (Fm.tp (lk R) pos u)=dt R (Fm.tp (lk R) pos k):=λk u r c hl=>by rw[Fm.wD o (Bk.xM c) (by rw[Bk.zX c];exact hl)]
 have A:∀ (k u:Nat)(r:Row),R[k]? =some r->r.link=some u->vZ R pos a u<=vZ R pos a k:=λk u r c hl=>by
  unfold vZ;cases a with
  |true=>exact Int.le_of_eq (d1 k u r c hl)
  |false=>obtain⟨s,n⟩:=h.spot (Bk.xM c);obtain⟨t,q,_,_,F,_,_,x⟩:=(h.row s k r n c).2.2.2.2.2 u hl;show dt R u<=dt R k;rw[Bk.zI F,Bk.zI c];exact x
 have v:=aVr h A;refine⟨λS=>?_,λe d=>?_,?_,h.nd,h.mem⟩
 ·obtain⟨C,B,w,l⟩:=aZ0 (S:=S) v f ord.length (bWN _) p;cases a with
  |true=>
   have E:Mix (λk=>dt R (Fm.tp (lk R) pos k)) ord pos R ord.length B:=⟨l.len,λt k r j c=>by
    have i:t<ord.length:=(bWP.mp j).1;rw[l.at_ t k _ i j (aXK c),if_pos i];rfl⟩
   obtain⟨bs,D,y,z⟩:=aQb (S:=S) h f d1 (λk r c=>aK4 h f (pos k+1) k r (bKP _) c) ord.length (bWN _) g E;exact⟨_,D,v8 w y,aV4 h f z.img⟩
  |false=>have m:b= []:=g;subst m;rw[bKI];refine⟨C,B,w,aV4 h f ⟨l.len,λs k r n j c=>?_⟩⟩;rw[l.at_ s k _ n j (aXK c)];have e:vZ R pos false k=r.date:=Bk.zI c;rw[e]
 ·rcases bKn.mp d with d|d
  ·exact bXM v p e d
  ·cases a with
   |true=>exact aKd h g e d
   |false=>rw[show b= []from g]at d;cases d
 ·have G:=p.1;have H:b.length<=ord.length:=by
   cases a with
   |true=>exact bY5 g.1
   |false=>rw[show b= []from g];exact bKt _
  rw[bWW,<- h.len];omega
structure Acc(H0 H:Hp)(na ds:Nat)(ks:List Nat)(pos:Nat->Nat)(das:List Nat)(es:List y3):Prop where
 k:xV H0 H
 d:y6 H ds das es
 n:H na=some (.dK (Z6 ks pos))
theorem aWb{H:Hp}{f p:Nat}{a:List Nat}{es:List y3}{e:y3}(h:y6 H f a es)(k:H p=none):y6 (upd (upd H p (.tup (z8 e))) f (.lst (a.map V.ref++ [.ref p]))) f (a++ [p]) (es++ [e]):=by
 have n:p≠f:=bKl (yE h.1 k);refine⟨by rw[yB,bKR];rfl,by rw[bWW,bWW,h.2.1];rfl,λi d o b c=>?_⟩;by_cases l:i<a.length
 ·rw[bW7 l]at b;rw[bW7 (by rw[<- h.2.1];exact l)]at c;have g:=h.2.2 i d o b c;have q:d≠f:=λz=>by rw[z,h.1]at g;cases g
  rw[yH q,yH (yE g k)];exact g
 ·have hl:a.length<=i:=by omega
  rw[bW0 hl]at b;rw[bW0 (by rw[<- h.2.1];exact hl)]at c;cases j:i - a.length with
  |succ m=>rw[j]at b;cases b
  |zero=>rw[j]at b;rw[<- h.2.1,j]at c;cases b;cases c;rw[yH n,yB]
theorem Acc.push{f H:Hp}{g c p:Nat}{ks:List Nat}{pos:Nat->Nat}{b:List Nat}{es:List y3}(a:Acc f H g c ks pos b es)(h0:f c=none)(h:H p=none)(e:y3): Acc f (upd (upd H p (.tup (z8 e))) c (.lst (b.map V.ref++ [.ref p]))) g c ks pos (b++ [p]) (es++ [e]):=
 ⟨xT (a.k.trans (yI h _)) h0,aWb a.d h,by
  have i:g≠c:=λz=>by have:=a.n;rw[z,a.d.1]at this;cases this
  rw[yH i,yH (yE a.n h)];exact a.n⟩
theorem Acc.put{h H:Hp}{c g:Nat}{ks:List Nat}{pos:Nat->Nat}{b:List Nat}{es:List y3}(a:Acc h H c g ks pos b es)(h0:h c=none){k:Nat}(o:k∉ks): Acc h (upd H c (.dK (aQC (Z6 ks pos) (Sum.inl (k:Int)) (V.int (pos k:Nat))))) c g (ks++ [k]) pos b es:=by
 have l:g≠c:=λz=>by have:=a.n;rw[<- z,a.d.1]at this;cases this
 refine⟨xT a.k h0,⟨by rw[yH l];exact a.d.1,a.d.2.1,λi d e m j=>?_⟩,by rw[yB,aJg o]⟩;have f:=a.d.2.2 i d e m j;rw[yH (λz=>by rw[z,a.n]at f;cases f)];exact f
theorem Acc.same{c H f:Hp}{e g:Nat}{ks:List Nat}{pos:Nat->Nat}{b:List Nat}{es:List y3}(a:Acc c H e g ks pos b es)(k:xV H f):Acc c f e g ks pos b es:=
 ⟨a.k.trans k,a.d.same k.t,k _ _ a.n⟩
theorem Acc.get{f H:Hp}{c g:Nat}{ks:List Nat}{pos:Nat->Nat}{b:List Nat}{es:List y3}(a:Acc f H c g ks pos b es){k:Nat}(d:k∈ks):aJG H c (.int (k:Nat)) (some (.int (pos k:Nat))):=by
 have e:=aJG.k (k:=Sum.inl (k:Int)) a.n;rw[jX,if_pos d]at e;exact e
theorem aQv{ks:List Nat}{pos:Nat->Nat}:(Z6 ks pos).length=ks.length:=bWK _
end Wh
namespace Wh
open PySem L2 PyProof.Rows
open Bk (Row Rows xX y3 Ans lk dt)
open Law (y7 xW x2 aVS)
open Thr (xT)
open Desk (z8 y6 Wf Run)
abbrev aQK:Stmt:=y7 "_law_in_order"
inductive aXX(vs:List V)(H:Hp)(Q:VK)(_:XK):Prop|mk (oa ra:Nat) (rs:List Nat) (R:Rows) (ord:List Nat) (pl0:Bool) (_:vs= [.ref oa,.ref ra,.bl pl0]) (_:H oa=some (.lst (ord.map λi=>V.int (i:Nat)))) (_:x2 H ra rs R) (_:xP ord R) (_:R.length<=12) (_:∀ (H':Hp)(t ds na:Nat)(das:List Nat)(es:List y3)(ks:List Nat)(pos:Nat->Nat),xV H H'->H ds=none->H' t=some (.tup [.ref ds,.ref na])->y6 H' ds das es->H' na=some (.dK (Z6 ks pos))->Way R ks pos es->Q (.ref t) H')
theorem aXi{ord:List Nat}{R:Rows}{pos:Nat->Nat}{t k:Nat}{r:Row}{es:List y3}(h:bXA ord pos R t es)(c:ord[t]? =some k)(f:R[k]? =some r):bXA ord pos R (t+1) (es++ [bQ7 pos r]):=
 ⟨by rw[bWW,h.1];rfl,λs g d i a b=>by
  by_cases e:s=t
  ·subst e;rw[c]at a;cases a;rw[f]at b;cases b;rw[bW0 (by rw[h.1];exact bWN _),h.1,bK7];rfl
  ·rw[bW7 (by rw[h.1];omega)];exact h.2 s g d (by omega) a b⟩
def qG(ord:List Nat)(R:Rows)(i:Nat)(es:List y3):Prop:=es.length=i/\∀ (j k:Nat)(r:Row),j<i->ord[ord.length - 1 - j]? =some k->R[k]? =some r->es[j]? =some (.date ((ord.length - 1 - j:Nat):Int) r.date)
theorem aXN{ord:List Nat}{R:Rows}{i k:Nat}{r:Row}{es:List y3}(h:qG ord R i es)(c:ord[ord.length - 1 - i]? =some k)(f:R[k]? =some r):qG ord R (i+1) (es++ [.date ((ord.length - 1 - i:Nat):Int) r.date]):=
 ⟨by rw[bWW,h.1];rfl,λj g d l a b=>by
  by_cases e:j=i
  ·subst e;rw[c]at a;cases a;rw[f]at b;cases b;rw[bW0 (by rw[h.1];exact bWN _),h.1,bK7];rfl
  ·rw[bW7 (by rw[h.1];omega)];exact h.2 j g d (by omega) a b⟩
theorem aJe{ord:List Nat}(b:ord.Nodup){t k:Nat}(c:ord[t]? =some k):k∉ord.take t:=λz=>by
 obtain⟨s,a⟩:=List.mem_iff_getElem?.mp z;rw[bY4]at a;split at a
 ·have:=aZe b a c;omega
 ·cases a
section
variable {K:bWI}
theorem aVF:yJ ["_law_order","_law_rows","_law_plain","_law_numbers","_law_deeds","_law_k","_law_way","_law_date","_law_who","_law_term","_law_link","_law_top"] ["_law_order","_law_rows","_law_plain"] (yD aQK):=scM
seal PE PA PS PSs PT in
theorem aVj(T:vD mg)(F:Fun K "_law_in_order" "_law_in_order" aQK f fd):y0 P w K mg base CX0 1 f fd ["_law_order","_law_rows","_law_plain"] aXX:=by
 have sc:=aVF;refine F.ok (k:=0) sc (λc3 A outer s H0 vs Q E hr h=>?_);obtain⟨oa,U,rs,R,l,g,rfl,ho,hB,hF,c4,q⟩:=h;refine⟨_,(yC (yO (i:=3) jZ) (yC (yO (i:=4) (xR yF)) (yC (zK bKB rfl (xB (pv 0)) (yZ (i:=5)) (yC (aJk (uP Z0 (yN yL (pv 1) (pv 5)) Y2 (Y3 yK)) (bZy rfl (zY (yZ (i:=6)) (zY (yZ (i:=7)) (zY (yZ (i:=8)) (zY (yZ (i:=9)) (zY (yZ (i:=10)) aZw))))))) (yC (yO (i:=11) (pv 5)) (yC (qA bKB (PW.pt (Q9 (wH (pv 2)) (Y4 (yU v6 (yN yL (yN yL (pv 1) (pv 11)) yK) wG)))) (yG (yO (i:=11) (yN yL (yN yL (pv 1) (pv 11)) yK)))) (yC (zC (wH (pv 2)) (yG (yO (i:=7) (yN yL (yN yL (pv 1) (pv 11)) yK))) yY) (yC (zC (yU bXf (pv 10) wG) (yG (yQ (vJ bKj bKp bKq y8 (pv 4) (yA (zW (yA (pv 6) (yA (pv 7) (yA (pv 8) (yA (pv 9) yF))))) yF)))) (yG (yQ (vJ bKj bKp bKq y8 (pv 4) (yA (zW (yA y1 (yA (Y0 (W8 hr) (pv 3) (pv 10) (λ_ _=>rfl)) (yA (pv 7) (yA (pv 9) yF))))) yF))))) (yG (aQB (W8 hr) (pv 3) (pv 5) (y2 Q7 (yT yM rfl T.b_len xU (yA (pv 4) yF)) yK) rfl)))))))) (yC (zK bKB rfl (bJU rfl T.b_reversed (pv 0)) (yZ (i:=5)) (yG (zC (wH (pv 2)) (yG (yQ (vJ bKj bKp bKq y8 (pv 4) (yA (zW (yA y1 (yA (Y0 (W8 hr) (pv 3) (pv 5) (λ_ _=>rfl)) (yA (yN yL (yN yL (pv 1) (pv 5)) yK) yF)))) yF)))) yY))) (yG (yP (zW (yA (pv 4) (yA (pv 3) yF))))))))),?_⟩;obtain⟨c,hp⟩:=bXj hF.nd;have c2:l.length=R.length:=hF.len;intro N b7;dsimp only[yS];refine⟨z0,λM a9=>?_⟩;dsimp only[yS];have k0:=yI b7 (.dK []);have k1:=k0.trans (yI a9 (.lst []));have S:H0 M=none:=k0.fresh a9;refine⟨_,rfl,oa,rfl,⟨_,SqL.of (k1 _ _ ho)⟩,?_⟩;refine zP (xs:=l.map λi=>V.int (i:Nat)) (λt σ H=>∃ (G:List Nat)(es:List y3)(o5 o6 o7 o8 o9 a0 X:Option V),σ= [some (.ref oa),some (.ref U),some (.bl g),some (.ref N),some (.ref M),o5,o6,o7,o8,o9,a0,X]/\Acc H0 H N M (l.take t) c G es/\bXA l c (rdt R (vZ R c g)) t es) ?_ ?_ ?_ ?_
 ·refine⟨[],[],none,none,none,none,none,none,none,rfl,⟨k1,⟨yB,rfl,λi d e h=>by simp at h⟩,?_⟩,rfl,λs k r hs=>absurd hs (bKK _)⟩;rw[yH (yE yB a9),yB];rfl
 ·rintro t σ H ht ⟨G,es,o5,o6,o7,o8,o9,a0,X,rfl,a,hE⟩;exact SqL.of (a.k _ _ ho)
 ·rintro t x σ H hx ⟨G,es,o5,o6,o7,o8,o9,a0,X,rfl,a,hE⟩;rw[bWY]at hx;cases J:l[t]? with
  |none=>rw[J]at hx;cases hx
  |some k=>
   rw[J]at hx;cases hx;have ht:t<l.length:=(bWP.mp J).1;obtain⟨r,D⟩:=hF.at_ J;have b9:k<R.length:=Bk.xM D;have b0:=hB.same a.k;obtain⟨b,g1,g2,cp,g3,g4⟩:=b0.get D;dsimp only[yS];refine⟨_,rfl,_,rfl,U,_,_,V.ref b,rfl,rfl,SqL.of b0.lst,yV g1,_,rfl,b,_,rfl,SqL.of g3,λp5 b8=>?_⟩;have k5:=yI b8 (.lst (qK [.str r.way,.int r.date,.str r.partner,.int r.term,xW r.link,.str r.place,.bl r.void] none (some 5)));have a1:upd H p5 (.lst (qK [.str r.way,.int r.date,.str r.partner,.int r.term,xW r.link,.str r.place,.bl r.void] none (some 5))) p5=some (.lst [.str r.way,.int r.date,.str r.partner,.int r.term,xW r.link]):=yB;refine⟨p5,[.str r.way,.int r.date,.str r.partner,.int r.term,xW r.link],rfl,SqL.of a1,rfl,_,_,rfl,_,_,rfl,_,_,rfl,_,_,rfl,_,_,rfl,rfl,?_⟩;generalize upd H p5 (.lst (qK [.str r.way,.int r.date,.str r.partner,.int r.term,xW r.link,.str r.place,.bl r.void] none (some 5)))=H5 at k5 a1 ⊢;have a5:=a.same k5;have W:=hB.same a5.k;clear a1 b8 k5 g3 g4 b0 a;dsimp only[yS];refine⟨_,rfl,?_⟩;dsimp only[yS];refine w1 (λy H'=>∃B:Nat,y= [some (.ref oa),some (.ref U),some (.bl g),some (.ref N),some (.ref M),some (.int (k:Nat)),some (.str r.way),some (.int r.date),some (.str r.partner),some (.int r.term),some (xW r.link),some (.int (B:Nat))]/\H'=H5/\B<R.length/\(g=true->B=Fm.tp (lk R) c k)) ?qB (λa8=>?_);case qB=>
    rintro y H' ⟨B,rfl,rfl,I,b1⟩;obtain⟨bt,t1,t2,ct,t3,t4⟩:=W.get (bWF I);refine w1 (λy b4=>y= [some (.ref oa),some (.ref U),some (.bl g),some (.ref N),some (.ref M),some (.int (k:Nat)),some (.str r.way),some (.int (vZ R c g k)),some (.str r.partner),some (.int r.term),some (xW r.link),some (.int (B:Nat))]/\b4=H') ?rest2 (λZ=>?_);case rest2=>
     rintro y b4 ⟨rfl,rfl⟩;refine w1 (λy H3=>∃O a4,y= [some (.ref oa),some (.ref U),some (.bl g),some (.ref N),some (.ref M),some (.int (k:Nat)),some (.str r.way),some (.int (vZ R c g k)),some (.str r.partner),some (.int r.term),some (xW r.link),some (.int (B:Nat))]/\Acc H0 H3 N M (l.take t) c O a4/\bXA l c (rdt R (vZ R c g)) (t+1) a4) ?rest3 (λY=>?_);case rest3=>
      rintro y H3 ⟨O,a4,rfl,a',b3⟩;have ev:(((O.map V.ref).length:Nat):Int) - 1=((c k:Nat):Int):=by rw[bWK,a'.d.2.1,b3.1,hp t k J];omega
      refine⟨_,rfl,M,_,rfl,.inl (SqL.of a'.d.1),_,_,rfl,rfl,?_⟩;rw[ev];refine⟨_,rfl,_,rfl,N,_,rfl,bQY.k (k:=Sum.inl (k:Int)) a'.n (by rw[aQv,bKg,bKz];omega),?_⟩;refine⟨O,a4,_,_,_,_,_,_,_,rfl,?_,b3⟩;rw[show l.take (t+1)=l.take t++ [k] by rw[bYf,J];rfl];exact a'.put b7 (aJe hF.nd J)
     have c1:G.length=t:=by rw[a5.d.2.1,hE.1]
     have a6:((G.map V.ref).length)<=100000:=by rw[bWK];omega
     refine⟨_,rfl,rfl,_,rfl,?_⟩;cases hl:r.link with
     |none=>refine onT rfl ⟨_,rfl,.inl ⟨rfl,_,SqL.of a5.d.1⟩,_,rfl,_,rfl,_,rfl,_,rfl,z4,λp L=>⟨M,_,_,rfl,rfl,yI L _ _ _ a5.d.1,zlt a6,?_⟩⟩;refine Y _ _ ⟨G++ [p],es++ [y3.enter r.way (vZ R c g k) r.partner r.term],by rw[hl],a5.push S L (.enter r.way (vZ R c g k) r.partner r.term),?_⟩;have z:=aXi hE J (aXK D);unfold bQ7 at z;dsimp only at z;rw[hl]at z;exact z
     |some u=>obtain⟨s',q',u1,u2,u3,_⟩:=(hF.row t k r J D).2.2.2.2.2 u hl;have hm:u∈l.take t:=bW1 (i:=s') (by rw[bY4,if_pos u1];exact u2);refine onF rfl ⟨_,rfl,.inl ⟨rfl,_,SqL.of a5.d.1⟩,_,rfl,_,rfl,N,_,rfl,a5.get hm,_,rfl,_,rfl,z4,λp L=>⟨M,_,_,rfl,rfl,yI L _ _ _ a5.d.1,zlt a6,?_⟩⟩;refine Y _ _ ⟨G++ [p],es++ [y3.reply (c u:Nat) (vZ R c g k) r.term],by rw[hl],a5.push S L (.reply (c u:Nat) (vZ R c g k) r.term),?_⟩;have z:=aXi hE J (aXK D);unfold bQ7 at z;dsimp only at z;rw[hl]at z;exact z
    refine⟨_,rfl,_,rfl,?_⟩;cases g with
    |false=>exact onF rfl (Z _ _ ⟨by rw[show vZ R c false k=r.date from Bk.zI D],rfl⟩)
    |true=>
     refine onT rfl ⟨_,rfl,_,rfl,U,_,_,V.ref bt,rfl,rfl,SqL.of W.lst,yV t1,bt,_,1,_,rfl,rfl,SqL.of t3,rfl,?_⟩;refine Z _ _ ⟨?_,rfl⟩;have e:vZ R c true k=R[B].date:=by show dt R (Fm.tp (lk R) c k)=_;rw[<- b1 rfl,Bk.zI (bWF I)]
     rw[e];rfl
   refine⟨λm σ H=>∃B:Nat,σ= [some (.ref oa),some (.ref U),some (.bl g),some (.ref N),some (.ref M),some (.int (k:Nat)),some (.str r.way),some (.int r.date),some (.str r.partner),some (.int r.term),some (xW r.link),some (.int (B:Nat))]/\H=H5/\B<R.length/\Fm.tp (lk R) c B=Fm.tp (lk R) c k/\m=c B,⟨c k,k,rfl,rfl,b9,rfl,rfl⟩,?_⟩;rintro m σ H6 ⟨B,rfl,rfl,I,b5,rfl⟩;obtain⟨bt,t1,t2,ct,t3,t4⟩:=W.get (bWF I);refine⟨_,rfl,_,rfl,?_⟩;cases g with
   |false=>exact onF rfl (onF rfl (a8 _ _ ⟨B,rfl,rfl,I,λz=>nomatch z⟩))
   |true=>
    refine onT rfl ⟨_,rfl,_,rfl,U,_,_,V.ref bt,rfl,rfl,SqL.of W.lst,yV t1,bt,_,4,_,rfl,rfl,SqL.of t3,rfl,rfl,_,rfl,?_⟩;have a7:=Bk.zX (bWF I);have o:=uI hF hp;cases hl:R[B].link with
    |none=>refine onF rfl (a8 _ _ ⟨B,rfl,rfl,I,λ_=>?_⟩);rw[<- b5,Fm.zM (by rw[a7];exact hl)]
    |some u=>rw[hl]at a7;obtain⟨hu,c0⟩:=o.lt B u I a7;refine onT rfl ⟨λy H'=>∃m',m'<c B/\∃B:Nat,y= [some (.ref oa),some (.ref U),some (.bl true),some (.ref N),some (.ref M),some (.int (k:Nat)),some (.str r.way),some (.int r.date),some (.str r.partner),some (.int r.term),some (xW r.link),some (.int (B:Nat))]/\H'=H6/\B<R.length/\Fm.tp (lk R) c B=Fm.tp (lk R) c k/\m'=c B,λy H' z=>z,?_⟩;refine⟨_,rfl,_,rfl,U,_,_,V.ref bt,rfl,rfl,SqL.of W.lst,yV t1,bt,_,4,_,rfl,rfl,SqL.of t3,rfl,?_⟩;rw[hl];exact⟨c u,c0,u,rfl,rfl,hu,by rw[<- b5,Fm.wD o I a7],rfl⟩
 rintro σ H1 ⟨G,es,o5,o6,o7,o8,o9,a0,X,rfl,a,hE⟩;rw[bWK]at a hE;rw[bYp]at a;refine⟨_,rfl,oa,_,rfl,SqL.of (a.k _ _ ho),?_⟩;refine bXT (xs:=l.map λi=>V.int (i:Nat)) (λi σ H=>∃ (v:List Nat)(C:List y3)(o5:Option V),σ= [some (.ref oa),some (.ref U),some (.bl g),some (.ref N),some (.ref M),o5,o6,o7,o8,o9,a0,X]/\Acc H0 H N M l c v (es++C)/\(if g then qG l R i C else C= [])) ?_ ?_ ?_ ?_
 ·refine⟨G,[],_,rfl,by rw[bKI];exact a,?_⟩;cases g with
  |false=>rfl
  |true=>exact⟨rfl,λj k r hj=>absurd hj (bKK _)⟩
 ·rintro i σ H hi ⟨v,C,o5,rfl,a2,h2⟩;exact SqL.of (a2.k _ _ ho)
 ·rintro i x σ H hi hx ⟨v,C,o5,rfl,a2,h2⟩;rw[bWK]at hi;rw[bWK,bWY]at hx;cases J:l[l.length - 1 - i]? with
  |none=>rw[J]at hx;cases hx
  |some k=>
   rw[J]at hx;cases hx;obtain⟨r,D⟩:=hF.at_ J;have b6:=hB.same a2.k;obtain⟨b,g1,g2,cp,g3,g4⟩:=b6.get D;dsimp only[yS];refine⟨_,rfl,_,rfl,?_⟩;cases g with
   |false=>exact onF rfl ⟨v,C,_,rfl,a2,h2⟩
   |true=>
    have b2:qG l R i C:=h2;have a6:((v.map V.ref).length)<=100000:=by rw[bWK,a2.d.2.1,bWW,hE.1,b2.1];omega
    refine onT rfl ⟨_,rfl,.inl ⟨rfl,_,SqL.of a2.d.1⟩,_,rfl,_,rfl,N,_,rfl,a2.get (bW1 J),_,rfl,_,rfl,U,_,_,V.ref b,rfl,rfl,SqL.of b6.lst,yV g1,b,_,1,_,rfl,rfl,SqL.of g3,rfl,z3,λp L=>⟨M,_,_,rfl,rfl,yI L _ _ _ a2.d.1,zlt a6,?_⟩⟩;refine⟨v++ [p],C++ [y3.date (c k:Nat) r.date],_,rfl,?_,?_⟩
    ·rw[<- bKQ];exact a2.push S L (.date (c k:Nat) r.date)
    ·show qG l R (i+1) _;rw[hp _ k J];exact aXN b2 J D
 rintro σ H2 ⟨v,C,c5,rfl,a2,h2⟩;rw[bWK]at h2;refine⟨_,rfl,_,rfl,z2,λtp b1=>?_⟩;have a3:=a2.same (yI b1 (.tup [.ref M,.ref N]));exact q _ tp M N v (es++C) l c a3.k S yB a3.d a3.n (bVp hF hp g hE h2)
end
end Wh
namespace Wh
open PySem L2 PyProof.Rows
open Bk (Row Rows xX y3 Ans lk dt)
open Law (y7 xW x2 aVS)
open Thr (xT)
open Desk (z8 y6 Wf Run)
abbrev bZG:Stmt:=y7 "_law_hung_late"
inductive bXr(vs:List V)(H:Hp)(Q:VK)(_:XK):Prop|mk (oa ra:Nat) (rs:List Nat) (R:Rows) (ord:List Nat) (_:vs= [.ref oa,.ref ra]) (_:H oa=some (.lst (ord.map λi=>V.int (i:Nat)))) (_:x2 H ra rs R) (_:xP ord R) (_:R.length<=12) (_:∀ (H':Hp)(t ds na:Nat)(das:List Nat)(es:List y3)(ks:List Nat)(pos:Nat->Nat),xV H H'->H ds=none->H' t=some (.tup [.ref ds,.ref na])->y6 H' ds das es->H' na=some (.dK (Z6 ks pos))->Way R ks pos es->Q (.ref t) H')
theorem aZX(xs:List V)(m:Nat):qK xs (some (m:Int)) none=xs.drop m:=by
 unfold qK;rw[HT.aJp,aKm];by_cases h:m<=xs.length
 ·rw[Nat.min_eq_left h,bY3 (by rw[bYu];exact bWN _)]
 ·rw[Nat.min_eq_right (by omega),List.drop_of_length_le (bWN _),List.drop_of_length_le (by omega)];simp
theorem aZY(xs:List V)(m:Nat):qK xs none (some (m:Int))=xs.take m:=by
 unfold qK;rw[HT.aJp,aKm,Nat.sub_zero,List.drop_zero];by_cases h:m<=xs.length
 ·rw[Nat.min_eq_left h]
 ·rw[Nat.min_eq_right (by omega),bY3 (bWN _),bY3 (by omega)]
def turned(ord:List Nat):List Nat:=ord.drop 1++ord.take 1
theorem Z5(ord:List Nat):(turned ord).Perm ord:=by
 unfold turned;have h:(ord.drop 1++ord.take 1).Perm (ord.take 1++ord.drop 1):=List.perm_append_comm;rwa [cQc]at h
theorem aYz{R:Rows}{ks:List Nat}{k:Nat}{r:Row}(a:R[k]? =some r):hgs R (ks++ [k])=hgs R ks++hgD k r:=by
 unfold hgs;rw[List.flatMap_append,cXR,a];simp
theorem aZg(R:Rows):∀ks:List Nat,(hgs R ks).length<=2*ks.length
 |[]=>bWN _
 |k::ks=>by
  have a:=aZg R ks;unfold hgs at a ⊢;rw[cXR,bWW,bKH];cases b:R[k]? with
  |none=>dsimp only;rw[cQu];omega
  |some r=>
   dsimp only;have h:(hgD k r).length<=2:=by unfold hgD;cases r.link<;> simp
   omega
theorem bJq(R:Rows):∀ (ks:List Nat),∀e∈hgs R ks,Wf e:=λks e a=>by
 unfold hgs at a;obtain⟨k,_,a⟩:=List.mem_flatMap.mp a;cases c:R[k]? with
 |none=>rw[c]at a;cases a
 |some r=>
  rw[c]at a;have b:e∈hgD k r:=a;unfold hgD at b;rcases bKn.mp b with z|z
  ·cases hl:r.link with
   |none=>rw[hl]at z;cases z
   |some u=>rw[hl]at z;rw[bW8.mp z];exact bK3
  ·rw[bW8.mp z];exact bK3
theorem bQX{ord:List Nat}{R:Rows}{pos:Nat->Nat}{es:List y3}(h:xP ord R)(o:Pos ord pos)(hl:es.length=R.length)(m:∀ (k:Nat)(r:Row),k<R.length->R[k]? =some r->es[k]? =some (.enter r.way r.date r.partner 0)):Way R (bWS R.length) id (es++hgs R (turned ord)):=by
 have a:=Z5 ord;have g:∀k∈turned ord,k<R.length:=λk b=>(h.mem k).mp (a.mem_iff.mp b);refine⟨λS=>?_,λe d=>?_,?_,bY0,λk=>bKc⟩
 ·obtain⟨x,B,w,t,v⟩:=aQ4 (S:=S) h R.length (bWN _) hl m;have u:bQ0 R [] B:=⟨t,λk r c=>by rw[v k r (Bk.xM c) c,if_neg (λz=>nomatch z)]⟩;obtain⟨bs,l,n,p⟩:=aWn (S:=S) h o (turned ord) (dn:= []) (by rw[List.nil_append];exact a.nodup_iff.mpr h.nd) g u;have e:l=R:=p.all λk b=>by rw[List.nil_append];exact a.mem_iff.mpr ((h.mem k).mpr b)
  subst e;exact⟨_,l,v8 w n,bJn h⟩
 ·rcases bKn.mp d with d|d
  ·obtain⟨s,j,rfl⟩:=cQh.mp d;have b:s<R.length:=by rw[<- hl];exact j
   have c:=bWF b;have f:=m s _ b c;rw[bWF j]at f;rw[bWX f];obtain⟨i,q⟩:=h.spot b;exact(h.row i s _ q c).2.2.2.2.1
  ·exact bJq R _ e d
 ·have f:=aZg R (turned ord);have y:(turned ord).length=R.length:=by rw[a.length_eq,h.len]
  rw[bWW];omega
section
variable {K:bWI}
theorem bZP:yJ ["_law_order","_law_rows","_law_numbers","_law_deeds","_law_k"] ["_law_order","_law_rows"] (yD bZG):=scM
seal PE PA PS PSs PT in
theorem bZl(T:vD mg)(F:Fun K "_law_hung_late" "_law_hung_late" bZG f fd):y0 P w K mg base CX0 1 f fd ["_law_order","_law_rows"] bXr:=by
 have sc:=bZP;refine F.ok (k:=0) sc (λc6 A outer s H0 vs Q E hr h=>?_);obtain⟨oa,G,rs,R,g,rfl,ho,hB,hF,c8,q⟩:=h;refine⟨_,(yC (yO (i:=2) jZ) (yC (yO (i:=3) (xR yF)) (yC (zK bKB rfl (zF rfl T.b_range (yA (yT yM rfl T.b_len xU (yA (pv 1) yF)) yF)) (yZ (i:=4)) (yC (yQ (vJ bKj bKp bKq y8 (pv 3) (yA (zW (yA (yN yL (yN yL (pv 1) (pv 4)) yK) (yA (yN yL (yN yL (pv 1) (pv 4)) yK) (yA (yN yL (yN yL (pv 1) (pv 4)) yK) (yA yK yF))))) yF))) (yG (aQB (W8 hr) (pv 2) (pv 4) (pv 4) rfl)))) (yC (zK bKB rfl (xB (y2 qX (uP Z0 (pv 0) (Y3 yK) Y2) (uP Z0 (pv 0) Y2 (Y3 yK)))) (yZ (i:=4)) (yC (zC (yU v6 (yN yL (yN yL (pv 1) (pv 4)) yK) wG) (yG (yQ (vJ bKj bKp bKq y8 (pv 3) (yA (zW (yA y1 (yA (pv 4) (yA (yN yL (yN yL (pv 1) (pv 4)) yK) yF)))) yF)))) yY) (yG (yQ (vJ bKj bKp bKq y8 (pv 3) (yA (zW (yA y1 (yA (pv 4) (yA (yN yL (yN yL (pv 1) (pv 4)) yK) yF)))) yF)))))) (yG (yP (zW (yA (pv 3) (yA (pv 2) yF))))))))),?_⟩;obtain⟨c4,hp⟩:=bXj hF.nd;have b5:g.length=R.length:=hF.len;have b8:(rs.map V.ref).length=R.length:=by rw[bWK];exact hB.len
 intro L a9;dsimp only[yS];refine⟨z0,λB W=>?_⟩;dsimp only[yS];have k0:=yI a9 (.dK []);have k1:=k0.trans (yI W (.lst []));have v:H0 B=none:=k0.fresh W;refine⟨_,rfl,G,_,rfl,.inl (SqL.of (k1 _ _ hB.lst)),?_⟩;rw[b8];refine⟨_,rfl,by omega,by omega,?_⟩;rw[bKs];refine z9 (λt σ H=>∃ (j:List Nat)(J:List y3)(X:Option V),σ= [some (.ref oa),some (.ref G),some (.ref L),some (.ref B),X]/\Acc H0 H L B (bWS t) id j J/\J.length=t/\∀ (k:Nat)(r:Row),k<t->R[k]? =some r->J[k]? =some (.enter r.way r.date r.partner 0)) ?_ ?_ ?_
 ·refine⟨[],[],none,rfl,⟨k1,⟨yB,rfl,λi d e h=>by simp at h⟩,?_⟩,rfl,λk r O=>absurd O (bKK _)⟩;rw[yH (yE yB W),yB];rfl
 ·rintro t σ H ht ⟨j,J,X,rfl,a,C,hE⟩;rw[cQk];have y:=bWF ht;have m:=hB.same a.k;obtain⟨b,M,g2,cp,I,g4⟩:=m.get y;have Y:((j.map V.ref).length)<=100000:=by rw[bWK,a.d.2.1];omega
  dsimp only[yS];refine⟨_,rfl,.inl ⟨rfl,_,SqL.of a.d.1⟩,_,rfl,_,rfl,G,_,_,V.ref b,rfl,rfl,SqL.of m.lst,yV M,b,_,0,_,rfl,rfl,SqL.of I,rfl,_,rfl,_,rfl,G,_,_,V.ref b,rfl,rfl,SqL.of m.lst,yV M,b,_,1,_,rfl,rfl,SqL.of I,rfl,_,rfl,_,rfl,G,_,_,V.ref b,rfl,rfl,SqL.of m.lst,yV M,b,_,2,_,rfl,rfl,SqL.of I,rfl,z4,λp l=>⟨B,_,_,rfl,rfl,yI l _ _ _ a.d.1,zlt Y,?_⟩⟩;have a1:=a.push v l (.enter R[t].way R[t].date R[t].partner 0);refine⟨_,rfl,_,rfl,_,rfl,L,_,rfl,bQY.k (k:=Sum.inl (t:Int)) a1.n (by rw[aQv,bKg,bKo];omega),?_⟩;refine⟨j++ [p],J++ [.enter R[t].way R[t].date R[t].partner 0],_,rfl,?_,by rw[bWW,C];rfl,λk r O hr=>?_⟩
  ·rw[bYP];exact a1.put a9 (by simp)
  ·by_cases e:k=t
   ·subst e;rw[y]at hr;cases hr;rw[bW0 (by rw[C];exact bWN _),C,bK7];rfl
   ·rw[bW7 (by omega)];exact hE k r (by omega) hr
 rintro σ H1 ⟨j,J,X,rfl,a,C,hE⟩;have b0:=a.k _ _ ho;refine⟨_,rfl,_,rfl,oa,_,rfl,SqL.of b0,λp1 b7=>?_⟩;have b1:=yI b7 (.lst (qK (g.map λi=>V.int (i:Nat)) (some 1) none));have c1:upd H1 p1 (.lst (qK (g.map λi=>V.int (i:Nat)) (some 1) none)) p1=some (.lst ((g.map λi=>V.int (i:Nat)).drop 1)):=yB.trans (congrArg (λz=>some (HO.lst z)) (aZX _ 1));refine⟨_,rfl,_,rfl,oa,_,rfl,SqL.of (b1 _ _ b0),λp2 a0=>?_⟩;generalize upd H1 p1 (.lst (qK (g.map λi=>V.int (i:Nat)) (some 1) none))=H2 at b1 c1 a0 ⊢;have b2:=yI a0 (.lst (qK (g.map λi=>V.int (i:Nat)) none (some 1)));have c2:upd H2 p2 (.lst (qK (g.map λi=>V.int (i:Nat)) none (some 1))) p2=some (.lst ((g.map λi=>V.int (i:Nat)).take 1)):=yB.trans (congrArg (λz=>some (HO.lst z)) (aZY _ 1));refine⟨p1,p2,_,_,rfl,rfl,b2 _ _ c1,c2,by rw[bYu,bKz,bWK,bKg];omega,λU S=>?_⟩;generalize upd H2 p2 (.lst (qK (g.map λi=>V.int (i:Nat)) none (some 1)))=H3 at b2 c2 S ⊢;have b3:=yI S (.lst ((g.map λi=>V.int (i:Nat)).drop 1++(g.map λi=>V.int (i:Nat)).take 1));have a3:=((a.same b1).same b2);have D:U≠B:=bKl (yE a3.d.1 S);have a4:=a3.same b3;have c3:upd H3 U (.lst ((g.map λi=>V.int (i:Nat)).drop 1++(g.map λi=>V.int (i:Nat)).take 1)) U=some (.lst ((turned g).map λi=>V.int (i:Nat))):=by rw[yB];unfold turned;rw[bKR,List.map_drop,List.map_take]
 generalize upd H3 U (.lst ((g.map λi=>V.int (i:Nat)).drop 1++(g.map λi=>V.int (i:Nat)).take 1))=H4 at a4 c3 ⊢;have a7:=Z5 g;have c9:(turned g).length=R.length:=by rw[a7.length_eq,b5]
 refine⟨U,rfl,⟨_,SqL.of c3⟩,?_⟩;refine zP (xs:=(turned g).map λi=>V.int (i:Nat)) (λt σ H=>∃ (j:List Nat)(X:Option V),σ= [some (.ref oa),some (.ref G),some (.ref L),some (.ref B),X]/\Acc H0 H L B (bWS R.length) id j (J++hgs R ((turned g).take t))/\H U=some (.lst ((turned g).map λi=>V.int (i:Nat)))) ?_ ?_ ?_ ?_
 ·exact⟨j,_,rfl,by simpa[hgs]using a4,c3⟩
 ·rintro t σ H ht ⟨j,X,rfl,a,c⟩;exact SqL.of c
 ·rintro t x σ H hx ⟨j,X,rfl,a,c⟩;rw[bWY]at hx;cases O:(turned g)[t]? with
  |none=>rw[O]at hx;cases hx
  |some k=>
   rw[O]at hx;cases hx;have d0:t<(turned g).length:=(bWP.mp O).1;have b4:k<R.length:=(hF.mem k).mp (a7.mem_iff.mp (bW1 O));have y:=bWF b4;have m:=hB.same a.k;obtain⟨b,M,g2,cp,I,g4⟩:=m.get y;have c0:(J++hgs R ((turned g).take t)).length<=40:=by have e1:=aZg R ((turned g).take t);rw[bKz]at e1;rw[bWW];omega
   have Y:((j.map V.ref).length)<=100000:=by rw[bWK,a.d.2.1];omega
   dsimp only[yS];refine w1 (λσ' H'=>∃o:List Nat,σ'= [some (.ref oa),some (.ref G),some (.ref L),some (.ref B),some (.int (k:Nat))]/\Acc H0 H' L B (bWS R.length) id o (J++hgs R ((turned g).take t)++(match R[k].link with|none=> []|some u=> [.hang (k:Nat) (u:Nat)]))/\H' U=some (.lst ((turned g).map λi=>V.int (i:Nat)))/\o.length<=41) ?qB (λN=>?_);case qB=>
    rintro σ' H' ⟨o,rfl,a',c',c7⟩;have a8:=hB.same a'.k;obtain⟨b,M,g2,cp,I,g4⟩:=a8.get y;refine⟨_,rfl,.inl ⟨rfl,_,SqL.of a'.d.1⟩,_,rfl,_,rfl,_,rfl,G,_,_,V.ref b,rfl,rfl,SqL.of a8.lst,yV M,b,_,3,_,rfl,rfl,SqL.of I,rfl,z3,λp l=>⟨B,_,_,rfl,rfl,yI l _ _ _ a'.d.1,zlt (by rw[bWK];omega),?_⟩⟩;refine⟨o++ [p],_,rfl,?_,by rw[yH D,yH (yE c' l)];exact c'⟩;have a2:=a'.push v l (.term (k:Nat) R[k].term);have e:(turned g).take (t+1)=(turned g).take t++ [k]:=by rw[bYf,O];rfl
    rw[e,aYz y];unfold hgD;rw[<- bKQ,<- bKQ];exact a2
   refine⟨_,rfl,_,rfl,G,_,_,V.ref b,rfl,rfl,SqL.of m.lst,yV M,b,_,4,_,rfl,rfl,SqL.of I,rfl,rfl,_,rfl,?_⟩;cases hl:R[k].link with
   |none=>
    refine onF rfl (N _ _ ⟨j,rfl,?_,c,?_⟩)
    ·rw[hl,bKI];exact a
    ·rw[a.d.2.1];omega
   |some u=>
    rw[hl]at I;refine onT rfl ⟨_,rfl,.inl ⟨rfl,_,SqL.of a.d.1⟩,_,rfl,_,rfl,_,rfl,G,_,_,V.ref b,rfl,rfl,SqL.of m.lst,yV M,b,_,4,_,rfl,rfl,SqL.of I,rfl,z3,λp l=>⟨B,_,_,rfl,rfl,yI l _ _ _ a.d.1,zlt Y,?_⟩⟩;refine N _ _ ⟨j++ [p],rfl,?_,by rw[yH D,yH (yE c l)];exact c,?_⟩
    ·rw[hl];exact a.push v l (.hang (k:Nat) (u:Nat))
    ·rw[bWW,a.d.2.1];show _+1<=41;omega
 rintro σ H5 ⟨Z,b9,rfl,a5,c5⟩;rw[bWK,bYp]at a5;refine⟨_,rfl,_,rfl,z2,λtp b6=>?_⟩;have a6:=a5.same (yI b6 (.tup [.ref B,.ref L]));exact q _ tp B L Z _ (bWS R.length) id a6.k v yB a6.d a6.n (bQX hF hp C hE)
end
end Wh
namespace Wh
open PySem L2 PyProof.Rows
open Bk (Row Rows xX y3 Ans lk dt)
open Law (y7 xW x2 aVS uT jI)
open Thr (xT)
open Desk (z8 y6 Wf Run)
abbrev bQi:Stmt:=y7 "_law_fits"
inductive bXo(vs:List V)(H:Hp)(Q:VK)(_:XK):Prop|mk (fa ra sa na ka:Nat) (rs:List Nat) (R B:Rows) (T S:List Int) (ks l':List Nat) (pos:Nat->Nat) (d:Int) (late:Bool) (_:vs= [.ref fa,.ref ra,.ref sa,.ref na,.ref ka]) (_:H fa=some (.lst (l'.map λi=>V.int (i:Nat)))) (_:x2 H ra rs R) (_:H sa=some (.lst (T.map V.int))) (_:H na=some (.dK (Z6 ks pos))) (_:ks.Nodup) (_:(∀k,k∈ks↔k<R.length)) (_:H ka=some (.tup (z8 (.on late d)))) (_:Cor R pos B) (_:(∀z,Dm.cts S z=Dm.cts T z)) (_:Bk.aQ0 B S d late l') (_:R.length<=12) (_:∀H',xV H H'->Q (.bl true) H')
theorem aKZ:∀ {ns c:List Int},ns.Perm c->ns.Pairwise (·<=·)->c.Pairwise (·<=·)->ns=c
 |[],c,hp,_,_=>(List.nil_perm.mp hp).symm
 |x::ns,[],hp,_,_=>absurd hp.length_eq (by simp)
 |x::ns,y::c,hp,h1,h2=>by
  have e:x=y:=by
   have f:x∈y::c:=hp.mem_iff.mp bWV;have d:y∈x::ns:=hp.mem_iff.mpr bWV;rcases bWU.mp f with z|z
   ·exact z
   ·rcases bWU.mp d with z2|z2
    ·exact z2.symm
    ·have a:=(bKL.mp h1).1 y z2;have b:=(bKL.mp h2).1 x z;omega
  subst e;rw[aKZ ((List.perm_cons x).mp hp) (bKL.mp h1).2 (bKL.mp h2).2]
theorem bXI{R B:Rows}{pos:Nat->Nat}(c:Cor R pos B):∃back:Nat->Nat,∀k,k<R.length->back (pos k)=k:=by
 refine⟨λi=>Classical.epsilon λk:Nat=>k<R.length/\pos k=i,λk a=>?_⟩;have e:=Classical.epsilon_spec (p:=λj:Nat=>j<R.length/\pos j=pos k) ⟨k,a,rfl⟩;exact c.inj _ _ e.1 a e.2
theorem aQu{H:Hp}{a:Nat}{ks:List Nat}{pos:Nat->Nat}(h:H a=some (.dK (Z6 ks pos))){k:Nat}(b:k∈ks):aJG H a (.int (k:Nat)) (some (.int (pos k:Nat))):=by
 have e:=aJG.k (k:=Sum.inl (k:Int)) h;rw[jX,if_pos b]at e;exact e
theorem aY7{R:Rows}{S:List Int}{d:Int}{a:Bool}{l:List Nat}(h:Bk.aQ0 R S d a l):l.Nodup:=h.ord.imp λ{x y} h z=>by rw[z,Stree.zQ]at h;cases h
theorem bXe{R:Rows}{S:List Int}{d:Int}{a:Bool}{l:List Nat}(h:Bk.aQ0 R S d a l):l.length<=R.length:=Fm.zD (aY7 h) λk b=>((h.mem k).mp b).1
theorem aK9{R:Rows}{k:Nat}{d:Int}{r:Row}(a:R[k]? =some r)(h:Bk.waits R k d=true):1<=r.term:=by
 unfold Bk.waits at h;rw[a]at h;simp at h;exact h.1.1.2
def mapP(pos:Nat->Nat)(v:V):V:=match v with|.int i=> .int (pos i.toNat:Nat)|v=>v
section
variable {K:bWI}
theorem bZM:yJ ["_law_found","_law_rows","_law_shut","_law_numbers","_law_ask","_law_due","_law_mine","_law_back","_law_k","_law_lasts","_law_one","_law_row"] ["_law_found","_law_rows","_law_shut","_law_numbers","_law_ask"] (yD bQi):=scM
theorem bX7:y9 ["_law_found","_law_rows","_law_shut","_law_numbers","_law_ask","_law_due","_law_mine","_law_back","_law_k","_law_lasts","_law_one","_law_row"] (yD bQi) "_law_k" ["_law_numbers"] [3] (lsN [(".0",.local),("_law_k",.local),("_law_numbers",.free)]):=
 lcM
seal PE PA PS PSs PT in
theorem bZi(T:vD mg)(o:FnG P w K mg base n "_law_list_on" ["_law_rows","_law_shut","_law_date","_law_late"] uT)(I:FnG P w K mg base n "_law_due_by" ["_law_shut","_law_date","_law_term"] (jI K)) (F:Fun K "_law_fits" "_law_fits" bQi f fd):y0 P w K mg base CX0 (n+1) f fd ["_law_found","_law_rows","_law_shut","_law_numbers","_law_ask"] bXo:=by
 have sc:=bZM;refine F.ok (k:=n) sc (λe5 A outer s H0 vs Q E hr h=>?_);obtain⟨fa,ra,sa,na,ka,rs,R,B,T',S,m,l',a,d,y,rfl,a9,hB,c8,Y,d3,M,b6,hC,a2,u,b3,q⟩:=h;refine⟨_,(yC (yO (i:=5) (zE o hr rfl (yA (pv 1) (yA (pv 2) (yA (yN xG (pv 4) yK) (yA (wI aQy (yN xG (pv 4) yK) y1) yF)))))) (yC (yO (i:=6) (yT z7 rfl T.b_sorted x6 (yA (J8 bX7 rfl (xB (pv 5)) (λ_ _ _ _ _=>zG) (λ_ _ _ _ _=>(Y0 (W8 hr) (pv 1) (pv 0) (λ_ _=>rfl)))) yF))) (yC (zC (PW.pt (aZy (aXI (wH (yT aZV rfl T.b_isinstance wT (yA (pv 0) (yA (aW3 (v:= .ty "list") rfl T.b_list u7 rfl) yF))))) (aXJ (yU (bJK hr.units) (pv 6) (yT z7 rfl T.b_sorted x6 (yA (pv 0) yF)))))) (yG (yP qZ)) yY) (yC (yO (i:=7) jZ) (yC (zK bKB rfl (xB (uO (aQi rfl) rfl T.b_list u7 (yA (pv 3) yF))) (yZ (i:=8)) (yG (aQB (W8 hr) (pv 7) (Y0 (W8 hr) (pv 3) (pv 8) (λ_ _=>rfl)) (pv 8) rfl))) (yC (yO (i:=9) (xR yF)) (yC (zK bKB rfl (xB (pv 0)) (yZ (i:=10)) (yC (yO (i:=11) (yN yL (pv 1) (Y0 (W8 hr) (pv 7) (pv 10) (λ_ _=>rfl)))) (yG (yQ (vJ bKj bKp bKq y8 (pv 9) (yA (zE I hr rfl (yA (pv 2) (yA (yN yL (pv 11) yK) (yA (yN yL (pv 11) yK) yF)))) yF)))))) (yG (yP (wI (bJI hr.units) (pv 9) (yT z7 rfl T.b_sorted x6 (yA (pv 9) yF)))))))))))),?_⟩;have el:decide (V.str (if y then "overdue" else "waiting")=V.str "overdue")=y:=by cases y<;> decide
 refine⟨_,rfl,_,rfl,_,rfl,ka,_,1,_,rfl,rfl,SqT.of b6,rfl,_,rfl,ka,_,0,_,rfl,rfl,SqT.of b6,rfl,rfl,?_⟩;rw[el];refine⟨ra,sa,rs,R,T',d,y,rfl,hB,c8,by omega,λdu H1 l k1 e3 b7 b2=>?_⟩;dsimp only[yS];have e2:l.length<=12:=bKh (bXe b2) b3;have d5:l'.length<=12:=bKh (bXe u) (by rw[hC.len];exact b3);obtain⟨c,g⟩:=bXI hC;refine⟨_,rfl,du,rfl,⟨_,SqL.of b7⟩,λD hD=>?_⟩;refine aZ7 (λ_=>true) (mapP a) (SqL.of b7) hD (by rw[bWK,bKg];omega) (λv _ H' R _ h=>h) (λv hv _ H' R hH hR=>?_) ?_
 ·obtain⟨k,hk,rfl⟩:=bK1.mp hv;have d0:H' na=some (.dK (Z6 m a)):=(hH na (yE (k1 _ _ Y) hD)).trans (k1 _ _ Y);exact⟨_,rfl,_,rfl,na,_,rfl,aQu d0 ((M k).mpr ((b2.mem k).mp hk).1),hR⟩
 have k2:=yI hD (.lst (((l.map λi=>V.int (i:Nat)).filter λ_=>true).map (mapP a)));have d1:upd H1 D (.lst (((l.map λi=>V.int (i:Nat)).filter λ_=>true).map (mapP a))) D=some (.lst ((l.map λk=>((a k:Nat):Int)).map V.int)):=by rw[yB,bYY.mpr (λ_ _=>rfl),bYH,bYH];rfl
 generalize upd H1 D (.lst (((l.map λi=>V.int (i:Nat)).filter λ_=>true).map (mapP a)))=H2 at k2 d1 ⊢;refine⟨D,l.map λk=>((a k:Nat):Int),rfl,d1,by rw[bWK];omega,λma ms d4 d7 e0=>?_⟩;have k3:=(k1.trans k2).trans (yI d4 (.lst (ms.map V.int)));have a0:upd H2 ma (.lst (ms.map V.int)) ma=some (.lst (ms.map V.int)):=yB;generalize upd H2 ma (.lst (ms.map V.int))=H3 at k3 a0 ⊢;dsimp only[yS];have a4:=k3 _ _ a9;refine⟨_,rfl,_,"list",_,_,rfl,.lst a4,jM _,_,rfl,onF rfl ?_⟩;have a8:H3 fa=some (.lst ((l'.map λi=>((i:Nat):Int)).map V.int)):=by rw[bYH];exact a4
 refine⟨_,rfl,_,rfl,fa,l'.map λi=>((i:Nat):Int),rfl,a8,by rw[bWK];omega,λmb r c0 c4 c2=>?_⟩;have k4:=k3.trans (yI c0 (.lst (r.map V.int)));have a6:=(yI c0 (.lst (r.map V.int))) _ _ a0;have a5:upd H3 mb (.lst (r.map V.int)) mb=some (.lst (r.map V.int)):=yB;generalize upd H3 mb (.lst (r.map V.int))=H4 at k4 a6 a5 ⊢;have b1:=hC.on a2 b2 u;have eM:ms=r:=by refine aKZ (d7.trans (List.Perm.trans ?_ c4.symm)) e0 c2;have z:=(b1.map (λi:Nat=>(i:Int))).symm;rw[bYH]at z;exact z
 refine⟨ma,mb,ms,r,rfl,rfl,SqL.of a6,SqL.of a5,_,rfl,onF ?_ ?_⟩
 ·rw[eM];simp
 intro C b4;dsimp only[yS];have k5:=k4.trans (yI b4 (.dK []));have L:upd H4 C (.dK []) C=some (.dK (Z6 [] c)):=yB;have d2:H0 C=none:=k4.fresh b4;generalize upd H4 C (.dK [])=H5 at k5 L ⊢;have b8:=k5 _ _ Y;refine⟨_,rfl,na,_,rfl,b8,λla b0=>?_⟩;have k6:=k5.trans (yI b0 (.lst ((Z6 m a).map λp=>kV p.1)));have a3:=(yI b0 (.lst ((Z6 m a).map λp=>kV p.1))) _ _ L;have N:upd H5 la (.lst ((Z6 m a).map λp=>kV p.1)) la=some (.lst (m.map λk=>V.int (k:Nat))):=by rw[yB];unfold Z6;rw[bYH];rfl
 have d8:la≠C:=bKl (yE L b0);generalize upd H5 la (.lst ((Z6 m a).map λp=>kV p.1))=H6 at k6 a3 N ⊢;refine⟨la,rfl,⟨_,SqL.of N⟩,?_⟩;refine zP (xs:=m.map λk=>V.int (k:Nat)) (λt σ H=>∃o8:Option V,σ= [some (.ref fa),some (.ref ra),some (.ref sa),some (.ref na),some (.ref ka),some (.ref du),some (.ref ma),some (.ref C),o8,none,none,none]/\xV H0 H/\H la=some (.lst (m.map λk=>V.int (k:Nat)))/\H C=some (.dK (Z6 ((m.take t).map a) c))) ?_ ?_ ?_ ?_
 ·exact⟨none,rfl,k6,N,a3⟩
 ·rintro t σ H ht ⟨o8,rfl,k,h1,h2⟩;exact SqL.of h1
 ·rintro t x σ H G ⟨o8,rfl,k,h1,h2⟩;rw[bWY]at G;cases hk:m[t]? with
  |none=>rw[hk]at G;cases G
  |some j=>
   rw[hk]at G;cases G;have hj:j∈m:=bW1 hk;have c6:j<R.length:=(M j).mp hj;dsimp only[yS];have e4:m.length<=12:=bKh (Fm.zD d3 λx G=>(M x).mp G) b3;have c3:a j∉(m.take t).map a:=λz=>by obtain⟨i,hi,e⟩:=bK1.mp z;have:=hC.inj i j ((M i).mp (List.mem_of_mem_take hi)) c6 e;subst this;exact aJe d3 hk hi
   refine⟨_,rfl,_,rfl,_,rfl,_,rfl,na,_,rfl,aQu (k _ _ Y) hj,C,_,rfl,bQY.k (k:=Sum.inl ((a j:Nat):Int)) h2 (by rw[aQv,bKg,bWK,bKz];omega),?_⟩;refine⟨_,rfl,xT k d2,by rw[yH d8];exact h1,?_⟩;have z:=aJg (pos:=c) c3;rw[g j c6]at z;rw[yB,z,show m.take (t+1)=m.take t++ [j] by rw[bYf,hk];rfl,bKR];rfl
 rintro σ H7 ⟨o8,rfl,k7,h1,J⟩;rw[bWK,bYp]at J;refine⟨z0,λO Z=>?_⟩;dsimp only[yS];have c9:H0 O=none:=k7.fresh Z;have bl:C≠O:=yE J Z;have k8:=k7.trans (yI Z (.lst []));have a7:=(yI Z (.lst [])) _ _ J;have a1:upd H7 O (.lst []) O=some (.lst []):=yB;generalize upd H7 O (.lst [])=H8 at k8 a7 a1 ⊢;refine⟨_,rfl,fa,rfl,⟨_,SqL.of (k8 _ _ a9)⟩,?_⟩;refine zP (xs:=l'.map λi=>V.int (i:Nat)) (λt σ H=>∃W U:Option V,σ= [some (.ref fa),some (.ref ra),some (.ref sa),some (.ref na),some (.ref ka),some (.ref du),some (.ref ma),some (.ref C),o8,some (.ref O),W,U]/\xV H0 H/\H C=some (.dK (Z6 (m.map a) c))/\H O=some (.lst (((l'.take t).map λi=>aQ1 T' R (c i)).map V.int))) ?_ ?_ ?_ ?_
 ·exact⟨none,none,rfl,k8,a7,a1⟩
 ·rintro t σ H ht ⟨W,U,rfl,k,h2,h3⟩;exact SqL.of (k _ _ a9)
 ·rintro t x σ H G ⟨W,U,rfl,k,h2,h3⟩;rw[bWY]at G;cases hi:l'[t]? with
  |none=>rw[hi]at G;cases G
  |some i=>
   rw[hi]at G;cases G;obtain⟨m1,m2,m3⟩:=(u.mem i).mp (bW1 hi);rw[hC.len]at m1;obtain⟨j,hj,rfl⟩:=hC.onto i m1;rw[hC.waits hj]at m2;have X:=bWF hj;have d9:=aK9 X m2;have b9:=hB.same k;obtain⟨b,g1,g2,cp,g3,g4⟩:=b9.get X;dsimp only[yS];have hg:aJG H C (.int ((a j:Nat):Int)) (some (.int (j:Nat))):=by have z:=aQu h2 (List.mem_map_of_mem (f:=a) ((M j).mpr hj));rw[g j hj]at z;exact z
   refine⟨_,rfl,_,rfl,_,rfl,C,_,rfl,hg,ra,_,_,V.ref b,rfl,rfl,SqL.of b9.lst,yV g1,?_⟩;dsimp only[yS];refine⟨_,rfl,.inl ⟨rfl,_,SqL.of h3⟩,_,rfl,_,rfl,b,_,1,_,rfl,rfl,SqL.of g3,rfl,_,rfl,b,_,3,_,rfl,rfl,SqL.of g3,rfl,sa,T',_,_,Bk.due T' R[j].date R[j].term,rfl,SqL.of (k _ _ c8),Bk.bQ5 T' R[j].date d9,O,_,_,rfl,rfl,h3,zlt (by rw[bWK,bWK,bKz];omega),?_⟩;refine⟨_,_,rfl,xT k c9,by rw[yH bl];exact h2,?_⟩;rw[yB,show l'.take (t+1)=l'.take t++ [a j] by rw[bYf,hi];rfl,bKR,bKR];have e:aQ1 T' R (c (a j))=Bk.due T' R[j].date R[j].term:=by rw[g j hj];unfold aQ1;rw[Bk.zI X,X];rfl
   show _=some (HO.lst (_++ [V.int (aQ1 T' R (c (a j)))]));rw[e]
 rintro σ H9 ⟨W,U,rfl,k9,h2,h3⟩;rw[bWK,bYp]at h3;have e1:=hC.lasts a2 u g;refine⟨_,rfl,_,rfl,O,_,rfl,h3,by rw[bWK];omega,λmc c5 d6 b5 c7=>?_⟩;have c1:=yI d6 (.lst (c5.map V.int));refine⟨O,mc,_,c5,rfl,rfl,SqL.of (c1 _ _ h3),SqL.of yB,?_⟩;have e:=aKZ b5 c7 e1;subst e;simp only[id_eq,decide_true];exact q _ (k9.trans c1)
end
end Wh
namespace Desk
open Bk (Row Rows xX y3 Ans)
theorem Run.inv{R b:Rows}{S c:List Int}{l:List y3}{bs:List Ans}(h:Run R S l bs b c):(l= []/\bs= []/\b=R/\c=S)\/∃f e g a j i,l=f++ [e]/\bs=g++ [a]/\Run R S f g j i/\xX j i e a b c:=by
 cases h with
 |nil=>exact .inl ⟨rfl,rfl,rfl,rfl⟩
 |snoc h d=>exact .inr ⟨_,_,_,_,_,_,rfl,rfl,h,d⟩
theorem Run.det{R:Rows}{S:List Int}:∀ (n:Nat) {es:List y3} {c bs:List Ans} {i R2:Rows} {f b:List Int},es.length=n->Run R S es c i f->Run R S es bs R2 b->c=bs/\i=R2/\f=b
 |0,es,c,bs,i,R2,f,b,hn,h,h2=>by
  rcases h.inv with⟨rfl,rfl,rfl,rfl⟩|⟨_,_,_,_,_,_,rfl,_⟩
  ·rcases h2.inv with⟨_,rfl,rfl,rfl⟩|⟨m,p,_,_,_,_,z,_⟩
   ·exact⟨rfl,rfl,rfl⟩
   ·exact absurd (congrArg List.length z) (by simp)
  ·simp at hn
 |n+1,es,c,bs,i,R2,f,b,hn,h,h2=>by
  rcases h.inv with⟨rfl,_⟩|⟨k,e,s,a,u,w,rfl,rfl,g,d⟩
  ·simp at hn
  ·rcases h2.inv with⟨z,_⟩|⟨j,p,o,v,q,l,z,rfl,r,t⟩
   ·exact absurd (congrArg List.length z) (by simp)
   ·obtain⟨rfl,z2⟩:=cQN z rfl;cases z2;obtain⟨rfl,rfl,rfl⟩:=Run.det n (by simpa using hn) g r;obtain⟨rfl,rfl,rfl⟩:=Bk.xX.det rfl d t;exact⟨rfl,rfl,rfl⟩
end Desk
namespace Wh
open PySem L2 PyProof.Rows
open Bk (Row Rows xX y3 Ans lk dt)
open Law (y7 xW x2 aVS uT jI)
open Thr (xT zO)
open Desk (z8 y6 Wf Run Q4 uS)
theorem aKK{α:Type}:∀ {l:List α},l≠ []->∃a b,l=a++ [b]
 |[],h=>absurd rfl h
 |[x],_=>⟨[],x,rfl⟩
 |x::y::r,_=>by obtain⟨i,l,e⟩:=aKK (l:=y::r) (by simp);exact⟨x::i,l,by rw[e];rfl⟩
theorem Run.cut:∀ (n:Nat) {R b:Rows} {S c:List Int} {es fs:List y3} {cs:List Ans},fs.length=n->Run R S (es++fs) cs b c->∃d bs i f,cs=d++bs/\Run R S es d i f/\Run i f fs bs b c
 |0,R,b,S,c,es,fs,cs,hn,h=>by have e:fs= []:=bK2 hn;subst e;rw[bKI]at h;exact⟨cs,[],b,c,by rw[bKI],h,.nil⟩
 |n+1,R,b,S,c,es,fs,cs,hn,h=>by
  obtain⟨w,g,rfl⟩:=aKK (l:=fs) (by intro z;rw[z]at hn;cases hn);rcases Desk.Run.inv h with⟨z,_⟩|⟨l,e,t,a,i,f,j,u,r,p⟩
  ·rw[<- bKQ]at z;simp at z
  ·rw[<- bKQ]at j;obtain⟨v,o⟩:=cQN j rfl;cases o;subst v;obtain⟨d,bs,R2,q,k,m,s⟩:=Run.cut n (by simpa using hn) r;exact⟨d,bs++ [a],R2,q,by rw[u,k,bKQ],m,.snoc s p⟩
theorem bJM{α β:Type}{F:α->β->Prop}:∀ {xs:List α} {d bs:List β},bYi F xs (d++bs)->∃b c,xs=b++c/\bYi F b d/\bYi F c bs
 |xs,[],bs,h=>⟨[],xs,rfl,.nil,h⟩
 |x::xs,a::d,bs,.cons h1 h2=>by obtain⟨b,c,e,g,f⟩:=bJM h2;exact⟨x::b,c,by rw[e];rfl,.cons h1 g,f⟩
theorem bZu{α β:Type}{F:α->β->Prop}{xs:List α}{ys:List β}(h:bYi F xs ys):∀ {i:Nat} {y:β},ys[i]? =some y->∃x,xs[i]? =some x/\F x y:=by
 induction h with
 |nil=>intro i y e;simp at e
 |@cons a b c d g l k=>
  intro i y e;cases i with
  |zero=>cases e;exact⟨a,rfl,g⟩
  |succ i=>obtain⟨u,f,j⟩:=k (i:=i) (by simpa using e);exact⟨u,by simpa using f,j⟩
theorem vE{H:Hp}{b a:List Nat}{es c:List y3}(h:b.length=es.length)(j:∀ (i:Nat)(d:Nat)(e:y3),b[i]? =some d->es[i]? =some e->H d=some (.tup (z8 e))) (k:a.length=c.length) (l:∀ (i:Nat)(d:Nat)(e:y3),a[i]? =some d->c[i]? =some e->H d=some (.tup (z8 e))) {p:Nat} (m:H p=some (.lst (b.map V.ref++a.map V.ref))):y6 H p (b++a) (es++c):=by
 refine⟨by rw[bKR];exact m,by rw[bWW,bWW,h,k],λi d e f g=>?_⟩;by_cases n:i<b.length
 ·rw[bW7 n]at f;rw[bW7 (by omega)]at g;exact j i d e f g
 ·rw[bW0 (by omega)]at f g;rw[h]at f;exact l _ d e f g
def OnE(R:Rows)(S:List Int)(e:y3)(l:List Nat):Prop:=∃a d,e= .on a d/\Bk.aQ0 R S d a l
theorem aJm{R g:Rows}{S i:List Int}:∀ (n:Nat) {fs:List y3} {bs:List Ans},fs.length=n->(∀e∈fs,∃b d,e= .on b d)->Run R S fs bs g i->g=R/\i=S/\∃c,bs=c.map .nums/\bYi (OnE R S) fs c
 |0,fs,bs,hn,hf,h=>by
  rcases Desk.Run.inv h with⟨rfl,rfl,rfl,rfl⟩|⟨_,_,_,_,_,_,rfl,_⟩
  ·exact⟨rfl,rfl,[],rfl,.nil⟩
  ·simp at hn
 |n+1,fs,bs,hn,hf,h=>by
  rcases Desk.Run.inv h with⟨rfl,rfl,rfl,rfl⟩|⟨l,e,p,a,r,q,rfl,rfl,m,k⟩
  ·simp at hn
  ·obtain⟨rfl,rfl,c,rfl,j⟩:=aJm n (by simpa using hn) (λe f=>hf e (by simp[f])) m;obtain⟨b,d,rfl⟩:=hf e (by simp);cases k with
   |on o=>exact⟨rfl,rfl,c++ [_],by rw[bKR];rfl,Paired.snoc j ⟨b,d,rfl,o⟩⟩
   |oneN _ f=>rcases f with z|⟨_,z⟩|⟨_,z⟩|⟨_,z⟩|⟨_,z⟩|z|z|z|z<;> cases z
def z6:List Int->List y3
 |[]=> []
 |d::r=> .on false d:: .on true d::z6 r
theorem aQ8:∀ (xs:List Int)(d:Int),z6 (xs++ [d])=z6 xs++ [.on false d,.on true d]
 |[],d=>rfl
 |x::r,d=>by show _::_::z6 (r++ [d])=_;rw[aQ8 r d];rfl
theorem aQg:∀ (xs:List Int),∀e∈z6 xs,∃a d,e= .on a d
 |[],e,h=>nomatch h
 |x::r,e,h=>by
  rcases bWU.mp h with rfl|h
  ·exact⟨_,_,rfl⟩
  ·rcases bWU.mp h with rfl|h
   ·exact⟨_,_,rfl⟩
   ·exact aQg r e h
theorem wS:∀xs:List Int,(z6 xs).length=2*xs.length
 |[]=>rfl
 |x::r=>by show(z6 r).length+1+1=_;rw[wS r,bKH];omega
theorem aWA{K:bWI}{a:Nat}{F:List Int}{A:List Nat}{u:TE}{σ:L2.St}{D:Nat}{Q:VK}{H:Hp}(g:Int->y3)(hl:H a=some (.lst (F.map V.int)))(w:H D=none)(hz:F.length<=1000) (L:∀x∈F,∀ (H':Hp)(R:VK),(∀t,H' t=none->R (.ref t) (upd H' t (.tup (z8 (g x)))))->u (sub σ A (some (.int x))) H' R) (I:∀ (H':Hp)(qas:List Nat),xV H H'->y6 H' D qas (F.map g)->Q (.ref D) H'):bXE (Itl K a) A bV6 u σ D Q (upd H D (.lst [])):=by
 refine⟨λi m B H'=>m=F.length - i/\i<=F.length/\∃qas:List Nat,B=qas.map V.ref/\xV H H'/\y6 H' D qas ((F.take i).map g),⟨F.length,by simp,bKt _,[],rfl,yI w _,yB,by simp,λi d e h=>by simp at h⟩,?_⟩;rintro i m B H' ⟨rfl,N,qas,rfl,n,b⟩;refine⟨b.1,?_⟩;by_cases c:i<F.length
 ·have r:=bWF c;refine .inr ⟨⟨_,.int F[i],SqL.of (n _ _ hl),by rw[bWY,r];rfl⟩,λv E J=>?_⟩;obtain⟨rfl,y⟩:=J;have C:(F.map V.int)[i]? =some v:=y _ (SqL.of (n _ _ hl));rw[bWY,r]at C;cases C;have G:qas.length=i:=by rw[b.2.1,bWK,bKz];omega
  have M:F.take (i+1)=F.take i++ [F[i]]:=by rw[bYf,r];rfl
  show u _ _ _;refine L _ (bYI c) _ _ λt s=>?_;have p:=yI s (.tup (z8 (g F[i])));refine⟨zlt (by rw[bWK];omega),p _ _ b.1,F.length - (i+1),by omega,rfl,c,qas++ [t],by simp,λx o e=>?_,?_⟩
  ·rw[yH (yE e w)];exact p _ _ (n _ _ e)
  ·rw[M,bKR];have l:∀ {x:Nat} {q:List V},upd E t (.tup (z8 (g F[i]))) x=some (.tup q)->upd (upd E t (.tup (z8 (g F[i])))) D (.lst (qas.map V.ref++ [.ref t])) x=some (.tup q):=λ{x q} e=>by
    rw[yH (λz=>by rw[z,p _ _ b.1]at e;cases e)];exact e
   refine vE b.2.1 (λj d e f k=>l (p _ _ (b.2.2 j d e f k))) rfl (λj d e f k=>?_) yB;match j,f,k with
   |0,f,k=>cases f;cases k;exact l yB
   |j+1,f,k=>cases f
 ·obtain rfl:i=F.length:=by omega
  rw[bYp]at b;exact .inl ⟨⟨_,SqL.of (n _ _ hl),by rw[bWK];exact bWN _⟩,I _ _ n b⟩
theorem X9:∀ (b:List Int)(R:Rows)(S:List Int),∃c e,Run R S (b.map y3.shut) c R e/\∀z,Dm.cts e z=(Dm.cts S z && !b.contains z)
 |[],R,S=>⟨[],S,.nil,λz=>by simp⟩
 |d::b,R,S=>by obtain⟨a,i,d1,h⟩:=aKJ R S d;obtain⟨c,f,g,j⟩:=X9 b R i;refine⟨[a]++c,f,v8 (aQH d1) g,λz=>?_⟩;rw[j,h,bYJ,Bool.not_or,Bool.and_assoc]
theorem bZ9{R:Rows}{ks:List Nat}{pos:Nat->Nat}{es:List y3}(W:Way R ks pos es)(x:List Int)(u:Nat):∃h B S,Run [] [] ((x.take u).map y3.shut++es++(x.drop u).map y3.shut) h B S/\Cor R pos B/\∀z,Dm.cts S z=Dm.cts x z:=by
 obtain⟨k,a,j,f⟩:=X9 (x.take u) [] [];obtain⟨l,B,b,i⟩:=W.run a;obtain⟨m,g,d,c⟩:=X9 (x.drop u) B a;refine⟨_,B,g,v8 (v8 j b) d,i,λz=>?_⟩;rw[c,f];have e:Dm.cts x z=(Dm.cts [] z && !x.contains z):=by unfold Dm.cts;simp
 rw[e,Bool.and_assoc];congr 1;rw[<- Bool.not_or];congr 1;rw[Bool.eq_iff_iff];simp only[Bool.or_eq_true,bKW];rw[<- bKn,cQc]
structure Z9(H:Hp)(R:Rows)(wa t:Nat):Prop where
 ex:∃ (ds na:Nat)(das:List Nat)(es:List y3)(ks:List Nat)(pos:Nat->Nat),H t=some (.tup [.ref ds,.ref na])/\ds≠wa/\y6 H ds das es/\H na=some (.dK (Z6 ks pos))/\Way R ks pos es
theorem Z9.sameT{H H':Hp}{R:Rows}{wa t:Nat}(h:Z9 H R wa t)(k:xO H H'):Z9 H' R wa t:=by
 obtain⟨g,l,b,i,e,a,f,d,c,j,m⟩:=h.ex;exact⟨g,l,b,i,e,a,k.tup f,d,c.same k,k _ _ (λ_ z=>nomatch z) j,m⟩
theorem Z9.put{H:Hp}{R:Rows}{wa t:Nat}{r vs:List V}(h:Z9 H R wa t)(hw:H wa=some (.lst r)):Z9 (upd H wa (.lst vs)) R wa t:=by
 obtain⟨m,o,g,n,l,c,b,j,a,f,q⟩:=h.ex;refine⟨m,o,g,n,l,c,?_,j,⟨by rw[yH j];exact a.1,a.2.1,λi d e k p=>?_⟩,?_,q⟩
 ·rw[yH (λz=>by rw[z,hw]at b;cases b)];exact b
 ·have z:=a.2.2 i d e k p;rw[yH (λy=>by rw[y,hw]at z;cases z)];exact z
 ·rw[yH (λz=>by rw[z,hw]at f;cases f)];exact f
theorem bJl{H H':Hp}{ra:Nat}{rs:List Nat}{R:Rows}(h:x2 H ra rs R)(k:xO H H'):x2 H' ra rs R:=
 ⟨k.lst h.lst,h.len,h.nd,λi b r a c=>let ⟨cp,e1,e2⟩:=h.row i b r a c;⟨cp,k.lst e1,e2⟩⟩
structure Ctx(K:bWI)(Tb a oa ra sa ea qa wa:Nat)(ns:List Int)(ord:List Nat)(rs:List Nat)(R:Rows)(xy xs:List Int)(eas qas:List Nat)(ts:List Nat)(H:Hp):Prop where
 s:SqL K H a (ns.map V.int)
 o:H oa=some (.lst (ord.map λi=>V.int (i:Nat)))
 b:x2 H ra rs R
 sh:H sa=some (.lst (xy.map V.int))
 e:y6 H ea eas (xy.map y3.shut)
 q:y6 H qa qas (z6 xs)
 w:H wa=some (.lst (ts.map V.ref))
 ws:∀t∈ts,Z9 H R wa t
 t:zO Tb H
section
variable {K:bWI}{Tb a oa ra sa ea qa wa:Nat}{ns:List Int}{ord:List Nat}{rs:List Nat}{R:Rows}{xy xs:List Int}{eas qas ts:List Nat}{H H':Hp}
theorem Ctx.sameT(h:Ctx K Tb a oa ra sa ea qa wa ns ord rs R xy xs eas qas ts H)(k:xO H H')(t:zO Tb H'):Ctx K Tb a oa ra sa ea qa wa ns ord rs R xy xs eas qas ts H':=
 ⟨k.seq h.s,k.lst h.o,bJl h.b k,k.lst h.sh,h.e.same k,h.q.same k,k.lst h.w,λx c=>(h.ws x c).sameT k,t⟩
theorem Ctx.same(h:Ctx K Tb a oa ra sa ea qa wa ns ord rs R xy xs eas qas ts H)(k:xV H H'):Ctx K Tb a oa ra sa ea qa wa ns ord rs R xy xs eas qas ts H':=h.sameT k.t (Desk.uU h.t k)
end
theorem aYd:∀ (xs:List Int)(i:Nat),i<2*xs.length->∃a d,(z6 xs)[i]? =some (.on a d):=λxs i b=>by
 have hl:i<(z6 xs).length:=by rw[wS];exact b
 obtain⟨a,d,e⟩:=aQg xs _ (bYI hl);exact⟨a,d,by rw[bWF hl,e]⟩
end Wh
namespace Wh
open PySem L2 PyProof.Rows
open Bk (Row Rows xX y3 Ans lk dt)
open Law (y7 xW x2 aVS uT jI)
open Thr (xT zO)
open Desk (z8 y6 Wf Run Q4 uS)
abbrev bJ2:Stmt:=y7 "law"
def bQE(e:Nat)(K:bWI):Sp:=λc H Q _=>∃ (a:Nat)(b:List Int),c= [.ref a]/\SqL K H a (b.map V.int)/\b.length<=63/\zO e H/\∀d,Q (.bl true) d
section
variable {K:bWI}
theorem bJ6:yJ ["_law_script","_law_many","_law_order","_law_rows","_law_shut","_law_extra","_law_asks","_law_k","_law_date","_law_ways","_law_turn","_law_deeds","_law_numbers","_law_told","_law_one"] ["_law_script"] (yD bJ2):=scM
theorem bX9:y9 ["_law_script","_law_many","_law_order","_law_rows","_law_shut","_law_extra","_law_asks","_law_k","_law_date","_law_ways","_law_turn","_law_deeds","_law_numbers","_law_told","_law_one"] (yD bJ2) "_law_k" ["_law_script"] [0] (lsN [(".0",.local),("_law_k",.local),("_law_at",.globalImplicit),("_law_script",.free)]):=
 lcM
theorem bZa:y9 ["_law_script","_law_many","_law_order","_law_rows","_law_shut","_law_extra","_law_asks","_law_k","_law_date","_law_ways","_law_turn","_law_deeds","_law_numbers","_law_told","_law_one"] (yD bJ2) "_law_date" [] [] (lsN [(".0",.local),("_law_date",.local)]):=
 lcM
seal PE PA PS PSs PT in
theorem bJF(T:vD mg)(Z:FnG P w K mg base n "_law_at" ["_law_script","_law_k"] (aJs K))(a5:FnG P w K mg base n "_law_forest" ["_law_cells"] aJx) (I:FnG P w K mg base n "_law_in_order" ["_law_order","_law_rows","_law_plain"] aXX) (O:FnG P w K mg base n "_law_hung_late" ["_law_order","_law_rows"] bXr) (c6:FnG P w K mg base n "_law_fits" ["_law_found","_law_rows","_law_shut","_law_numbers","_law_ask"] bXo) (a1:FnG P w K mg base n "answers" ["deeds"] (uS Rf)) (F:Fun K "law" "law" bJ2 f fd):y0 P w K mg base CX0 (n+1) f fd ["_law_script"] (bQE Rf.2 K):=by
 have sc:=bJ6;refine F.ok (k:=n) sc (λn6 A outer s H0 vs Q E hr h=>?_);obtain⟨a,M,rfl,hS,n0,hT,q⟩:=h;refine⟨_,(yC (yO (i:=1) (y2 wB yK (y2 zJ (zE Z hr rfl (yA (pv 0) (yA yK yF))) yK))) (yC (aJk (zE a5 hr rfl (yA (J8 bX9 rfl (zF rfl T.b_range (yA (pv 1) yF)) (λ_ _ _ _ _=>zG) (λ_ _ _ _ _=>(zE Z hr rfl (yA (pv 1) (yA (y2 wB yK (pv 0)) yF))))) yF)) (bXi rfl (zY (yZ (i:=2)) (zY (yZ (i:=3)) aZw)))) (yC (yO (i:=4) (xR (yA (y2 zJ (zE Z hr rfl (yA (pv 0) (yA yK yF))) yK) (yA (y2 zJ (zE Z hr rfl (yA (pv 0) (yA yK yF))) yK) yF)))) (yC (aVq (i:=5) bZa rfl sc.nd rfl rfl (xB (pv 4)) (λ_ _ _ _ _=>zG) (λ_ _ _ _ _=>(zW (yA y1 (yA (pv 0) yF))))) (yC (yO (i:=6) (xR yF)) (yC (zK bKB rfl (zF rfl T.b_range (yA yK yF)) (yZ (i:=7)) (yC (yO (i:=8) (y2 Q7 (y2 zJ (zE Z hr rfl (yA (pv 0) (yA (y2 wB yK (pv 7)) yF))) yK) yK)) (yG (yO (i:=6) (y2 qX (pv 6) (xR (yA (zW (yA y1 (yA (pv 8) yF))) (yA (zW (yA y1 (yA (pv 8) yF))) yF)))))))) (yC (yO (i:=9) (xR (yA (zE I hr rfl (yA (pv 2) (yA (pv 3) (yA qZ yF)))) (yA (zE O hr rfl (yA (pv 2) (yA (pv 3) yF))) yF)))) (yC (yQ (vJ bKj bKp bKq y8 (pv 9) (yA (zE I hr rfl (yA (pv 2) (yA (pv 3) (yA qZ yF)))) yF))) (yC (zK bKB rfl (zF rfl T.b_range (yA yK yF)) (yZ (i:=10)) (yC (aJk (yN yL (pv 9) (pv 10)) (bXi rfl (zY (yZ (i:=11)) (zY (yZ (i:=12)) aZw)))) (yC (zC (yU aQy (pv 10) yK) (yG (yO (i:=11) (y2 qX (pv 5) (pv 11)))) (yG (yO (i:=11) (y2 qX (y2 qX (uP Z0 (pv 5) Y2 (Y3 (y2 Q7 (pv 10) yK))) (pv 11)) (uP Z0 (pv 5) (Y3 (y2 Q7 (pv 10) yK)) Y2))))) (yC (yO (i:=13) (zE a1 hr rfl (yA (y2 qX (pv 11) (pv 6)) yF))) (yC (zC (PW.pt (aZy (aXI (wH (yT aZV rfl T.b_isinstance wT (yA (pv 13) (yA (aW3 (v:= .ty "list") rfl T.b_list u7 rfl) yF))))) (aXJ (yU bJJ (yT yM rfl T.b_len xU (yA (pv 13) yF)) (y2 wB (yT yM rfl T.b_len xU (yA (pv 11) yF)) (yT yM rfl T.b_len xU (yA (pv 6) yF))))))) (yG (yP qZ)) yY) (yG (zK bKB rfl (zF rfl T.b_range (yA (yT yM rfl T.b_len xU (yA (pv 6) yF)) yF)) (yZ (i:=7)) (yC (yO (i:=14) (yN yL (pv 13) (y2 wB (yT yM rfl T.b_len xU (yA (pv 11) yF)) (pv 7)))) (yG (zC (aXI (wH (zE c6 hr rfl (yA (pv 14) (yA (pv 3) (yA (pv 4) (yA (pv 12) (yA (yN yL (pv 6) (pv 7)) yF)))))))) (yG (yP qZ)) yY)))))))))) (yG (yP qZ))))))))))),?_⟩;refine⟨_,rfl,a,M,0,rfl,hS,_,_,rfl,rfl,(show(0:Int)<7 by decide),_,_,rfl,rfl,?_⟩;dsimp only[yS];obtain⟨m,hm,n1⟩:∃m:Nat,1+M.getD 0 0 % 7=(m:Int)/\m<=7:=by have j:=cXq (M.getD 0 0) (show(7:Int)≠0 by decide);have G:=cXG (M.getD 0 0) (show(0:Int)<7 by decide);exact⟨(1+M.getD 0 0 % 7).toNat,by omega,by omega⟩
 rw[hm];refine⟨_,rfl,_,rfl,by omega,by omega,λD hD=>?_⟩;rw[bKs];refine aZ8 (λ_=>true) (λi=>V.int (M.getD (5+i) 0)) hD (by rw[bKg];omega) (λi hi H' R hH hR=>hR) (λi hi _ H' R hH hR=>?_) ?_
 ·have kk:xV H0 H':=λb o e=>(hH b (yE e hD)).trans e;refine⟨_,rfl,_,rfl,_,_,rfl,rfl,a,M,5+i,?_,kk.t.seq hS,hR⟩;show [V.ref a,V.int (5+((i:Nat):Int))]=_;rw[show(5:Int)+((i:Nat):Int)=((5+i:Nat):Int) by omega]
 have k1:=yI hD (.lst (((bWS m).filter λ_=>true).map λi=>V.int (M.getD (5+i) 0)));have e7:upd H0 D (.lst (((bWS m).filter λ_=>true).map λi=>V.int (M.getD (5+i) 0))) D=some (.lst (((bWS m).map λi=>M.getD (5+i) 0).map V.int)):=by rw[yB,bYY.mpr (λ_ _=>rfl),bYH];rfl
 generalize upd H0 D (.lst (((bWS m).filter λ_=>true).map λi=>V.int (M.getD (5+i) 0)))=H1 at k1 e7 ⊢;refine⟨D,(bWS m).map λi=>M.getD (5+i) 0,rfl,e7,by rw[bWK,bKo];omega,λH2 t oa ra rs R b5 k2 ht ho hB j0 hF=>?_⟩;rw[bWK,bKo]at j0;have b7:=(k1.trans k2).t.seq hS;have T2:=Desk.uU hT (k1.trans k2);refine⟨t,[.ref oa,.ref ra],rfl,SqT.of ht,rfl,.ref oa,[.ref ra],rfl,.ref ra,[],rfl,rfl,?_⟩;dsimp only[yS];clear ht k1 k2 e7 hD hS hT;refine⟨_,rfl,a,M,1,rfl,b7,_,_,rfl,rfl,(show(0:Int)<20 by decide),_,rfl,a,M,2,rfl,b7,_,_,rfl,rfl,(show(0:Int)<20 by decide),z2,λsa i1=>?_⟩;dsimp only[yS];generalize hx:M.getD 1 0 % 20=x;generalize hy:M.getD 2 0 % 20=y;have k3:=yI i1 (.lst [V.int x,V.int y]);have U:upd H2 sa (.lst [V.int x,V.int y]) sa=some (.lst ([x,y].map V.int)):=yB;generalize upd H2 sa (.lst [V.int x,V.int y])=H3 at k3 U ⊢;refine⟨_,rfl,sa,rfl,⟨_,SqL.of U⟩,λea h7=>aWA (F:= [x,y]) y3.shut U h7 (by show 2<=1000;decide) (λd _ H' R' i9=>⟨_,rfl,z2,λt ht=>i9 t ht⟩) λH4 g k4 hE=>?_⟩;dsimp only[yS];refine⟨z0,λq0 g5=>?_⟩;dsimp only[yS];have k5:=yI g5 (.lst []);have f0:y6 (upd H4 q0 (.lst [])) q0 [] (z6 []):=⟨yB,rfl,λi d e h=>by simp at h⟩;have kA:=(k3.trans k4).trans k5;have e3:=hE.same k5.t;have b8:=k5 _ _ (k4 _ _ U);generalize upd H4 q0 (.lst [])=H5 at k5 f0 kA e3 b8 ⊢;refine⟨_,rfl,by decide,by decide,?_⟩;refine z9 (n:=2) (λt σ H=>∃ (xs:List Int)(qa:Nat)(r:List Nat)(o7 o8:Option V),σ= [some (.ref a),some (.int (m:Nat)),some (.ref oa),some (.ref ra),some (.ref sa),some (.ref ea),some (.ref qa),o7,o8,none,none,none,none,none,none]/\xV H5 H/\y6 H qa r (z6 xs)/\xs.length=t) ?_ ?_ ?_
 ·exact⟨[],q0,[],none,none,rfl,λ_ _ e=>e,f0,rfl⟩
 ·rintro i σ H hi ⟨xs,qa,r,o7,o8,rfl,g6,hq,a4⟩;rw[cQk];dsimp only[yS];have e2:r.length=2*i:=by rw[hq.2.1,wS,a4]
  refine⟨_,rfl,_,rfl,_,_,rfl,rfl,a,M,3+i,?_,(kA.trans g6).t.seq b7,_,_,rfl,rfl,(show(0:Int)<24 by decide),_,_,rfl,rfl,?_⟩
  ·show [V.ref a,V.int (3+((i:Nat):Int))]=_;rw[show(3:Int)+((i:Nat):Int)=((3+i:Nat):Int) by omega]
  dsimp only[yS];generalize M.getD (3+i) 0 % 24 - 2=d;refine⟨_,rfl,_,rfl,z2,λp1 b9=>⟨_,rfl,z2,λp2 b0=>⟨z2,λl2 m1=>?_⟩⟩⟩;have Y:=yI b9 (.tup [.str "waiting",.int d]);have b2:=yI b0 (.tup [.str "overdue",.int d]);have b3:=yI m1 (.lst [.ref p1,.ref p2]);have c1:=b3 _ _ (b2 _ _ (yB (H:=H) (a:=p1) (o:= .tup [.str "waiting",.int d])));have c2:=b3 _ _ (yB (H:=upd H p1 (.tup [.str "waiting",.int d])) (a:=p2) (o:= .tup [.str "overdue",.int d]));have bb:=(Y.trans b2).trans b3;refine⟨qa,l2,_,_,rfl,rfl,bb _ _ hq.1,yB,by rw[bWK,e2,bKg];simp;omega,λp3 a9=>?_⟩;have b4:=yI a9 (.lst (r.map V.ref++ [.ref p1,.ref p2]));refine⟨xs++ [d],p3,r++ [p1,p2],_,_,rfl,g6.trans (bb.trans b4),?_,by rw[bWW,a4];rfl⟩;rw[aQ8];refine vE hq.2.1 (λi d' e j G=>b4 _ _ (bb _ _ (hq.2.2 i d' e j G))) rfl (λi d' e j G=>?_) yB;match i,j,G with
  |0,j,G=>cases j;cases G;exact b4 _ _ c1
  |1,j,G=>cases j;cases G;exact b4 _ _ c2
  |i+2,j,G=>cases j
 rintro σ H6 ⟨xs,qa,r,o7,o8,rfl,k6,g0,a4⟩;have kB:=kA.trans k6;have b6:=kB _ _ ho;have c0:=hB.same kB;refine⟨_,rfl,_,rfl,oa,ra,rs,R,b5,false,rfl,b6,c0,hF,by omega,λH7 t0 l4 j6 f2 l3 i8 f4 k7 j2 f5 e8 h3 i5=>?_⟩;refine⟨_,rfl,_,rfl,oa,ra,rs,R,b5,rfl,k7 _ _ b6,c0.same k7,hF,by omega,λH8 t1 j1 j8 g7 j4 j7 i4 k8 m2 h4 e5 c9 i0=>⟨z2,λN a7=>?_⟩⟩;dsimp only[yS];have k9:=yI a7 (.lst [V.ref t0,V.ref t1]);have W0:Z9 (upd H8 N (.lst [V.ref t0,V.ref t1])) R N t0:=⟨l4,j6,f2,l3,i8,f4,k9 _ _ (k8 _ _ f5),yE (k8 _ _ e8.1) a7,e8.same (k8.trans k9).t,k9 _ _ (k8 _ _ h3),i5⟩;have W1:Z9 (upd H8 N (.lst [V.ref t0,V.ref t1])) R N t1:=⟨j1,j8,g7,j4,j7,i4,k9 _ _ h4,yE e5.1 a7,e5.same k9.t,k9 _ _ c9,i0⟩;have a8:upd H8 N (.lst [V.ref t0,V.ref t1]) N=some (.lst [V.ref t0,V.ref t1]):=yB;have kC:=(kB.trans (k7.trans k8)).trans k9;have i3:H2 N=none:=(kB.trans (k7.trans k8)).fresh a7;have kD:=(k7.trans k8).trans k9;have d7:H6 N=none:=(k7.trans k8).fresh a7;generalize upd H8 N (.lst [V.ref t0,V.ref t1])=H9 at k9 W0 W1 a8 kC kD ⊢;refine⟨_,rfl,.inl ⟨rfl,_,SqL.of a8⟩,_,rfl,_,rfl,oa,ra,rs,R,b5,true,rfl,kD _ _ b6,c0.same kD,hF,by omega,λc4 t2 m3 k0 f6 i7 l5 f8 a6 d9 i2 f1 c7 h6=>⟨N,_,_,rfl,rfl,a6 _ _ a8,zlt (by show 2<=100000;decide),?_⟩⟩;have a3:=a6 _ _ a8;have W2:Z9 c4 R N t2:=⟨m3,k0,f6,i7,l5,f8,i2,(λz=>by rw[z,a8]at d9;cases d9),f1,c7,h6⟩;have kE:xV H6 (upd c4 N (.lst ([V.ref t0,V.ref t1]++ [V.ref t2]))):=xT (kD.trans a6) d7;have C:Ctx K Rf.2 a oa ra sa ea qa N M b5 rs R [x,y] xs g r [t0,t1,t2] (upd c4 N (.lst ([V.ref t0,V.ref t1]++ [V.ref t2]))):=by
  refine⟨(kB.trans kE).t.seq b7,kE _ _ b6,c0.same kE,kE _ _ (k6 _ _ b8),(e3.same k6.t).same kE.t,g0.same kE.t,yB,λt ht=>?_,Desk.uU T2 (kB.trans kE)⟩;rcases bWU.mp ht with rfl|ht
  ·exact(W0.sameT a6.t).put a3
  rcases bWU.mp ht with rfl|ht
  ·exact(W1.sameT a6.t).put a3
  ·rw[bW8.mp ht];exact W2.put a3
 generalize upd c4 N (.lst ([V.ref t0,V.ref t1]++ [V.ref t2]))=Hw at C ⊢;clear W0 W1 W2 a8 a3 kC kD kE k9 a6 f5 e8 h3 i5 h4 e5 c9 i0 i2 f1 c7 h6 j2 m2 d9 k7 k8 a7 i3 d7 b6 c0 k6 kB kA k5 k4 k3 hE e3 b8 U f0 g0 g5 h7 i1 T2 b7 hB ho;refine⟨_,rfl,by decide,by decide,?_⟩;refine z9 (n:=3) (λt σ H=>∃o7 e4 e0 e1 d0 X:Option V,σ= [some (.ref a),some (.int (m:Nat)),some (.ref oa),some (.ref ra),some (.ref sa),some (.ref ea),some (.ref qa),o7,o8,some (.ref N),e4,e0,e1,d0,X]/\Ctx K Rf.2 a oa ra sa ea qa N M b5 rs R [x,y] xs g r [t0,t1,t2] H) ?_ ?_ ?_
 ·exact⟨_,none,none,none,none,none,rfl,C⟩
 ·rintro J σ H e6 ⟨o7,e4,e0,e1,d0,X,rfl,C⟩;rw[cQk];dsimp only[yS];obtain⟨tw,j5,f7⟩:∃tw,([t0,t1,t2].map V.ref)[J]? =some (V.ref tw)/\tw∈ [t0,t1,t2]:=by
   have hl:J< [t0,t1,t2].length:=e6;exact⟨[t0,t1,t2][J],by rw[bWY,bWF hl];rfl,bYI hl⟩
  obtain⟨ds,na,L,es,ks,m0,g1,g2,g3,g4,W⟩:=(C.ws tw f7).ex;refine⟨_,rfl,_,rfl,N,_,_,V.ref tw,rfl,rfl,SqL.of C.w,yV j5,tw,[.ref ds,.ref na],rfl,SqT.of g1,rfl,.ref ds,[.ref na],rfl,.ref na,[],rfl,rfl,?_⟩;dsimp only[yS];have j9:es.length<=21:=bKh W.len (by omega);have n7:L.length<=21:=by rw[g3.2.1];exact j9
  have d3:g.length=2:=by rw[C.e.2.1];rfl
  have d8:r.length=4:=by rw[C.q.2.1,wS,a4]
  refine w1 (λσ' H'=>∃ (dd:Nat)(S:List Nat)(u:Nat),σ'= [some (.ref a),some (.int (m:Nat)),some (.ref oa),some (.ref ra),some (.ref sa),some (.ref ea),some (.ref qa),o7,o8,some (.ref N),some (.int (J:Nat)),some (.ref dd),some (.ref na),d0,X]/\xV H H'/\y6 H' dd S (([x,y].take u).map y3.shut++es++([x,y].drop u).map y3.shut)) ?qB (λd2=>?_);case qB=>
   rintro σ' H1 ⟨dd,S,u,rfl,kk,a0⟩;have C1:=C.same kk;have c9:=kk _ _ g4;have h8:S.length=es.length+2:=by rw[a0.2.1,bWW,bWW,bWK,bWK,bKz,bYu];show min u 2+es.length+(2 - u)=_;omega
   generalize g9:([x,y].take u).map y3.shut++es++([x,y].drop u).map y3.shut=fs at a0;have m7:fs.length=es.length+2:=by rw[<- a0.2.1,h8]
   refine⟨_,rfl,_,rfl,dd,qa,_,_,rfl,rfl,a0.1,C1.q.1,by rw[bWK,bWK,bKg];omega,λp1 b9=>?_⟩;have Y:=yI b9 (.lst (S.map V.ref++r.map V.ref));have m5:=vE a0.2.1 (λi d e j G=>Y _ _ (a0.2.2 i d e j G)) C1.q.2.1 (λi d e j G=>Y _ _ (C1.q.2.2 i d e j G)) (yB (H:=H1) (a:=p1) (o:= .lst (S.map V.ref++r.map V.ref)));have l6:∀e∈fs++z6 xs,Wf e:=λe he=>by
    rcases bKn.mp he with z|z
    ·rw[<- g9]at z;rcases bKn.mp z with z|z
     ·rcases bKn.mp z with z|z
      ·obtain⟨_,_,rfl⟩:=bK1.mp z;exact bK3
      ·exact W.wf e z
     ·obtain⟨_,_,rfl⟩:=bK1.mp z;exact bK3
    ·obtain⟨a2,d,rfl⟩:=aQg xs e z;exact bK3
   have m6:(fs++z6 xs).length<=27:=by rw[bWW,wS,a4];omega
   refine⟨p1,S++r,fs++z6 xs,rfl,m5,by omega,l6,(C1.same Y).t,λl H2 m9 n8 R' S' k2 T2 g8 n2 hl b0=>?_⟩;obtain⟨n4,n3,B,S1,rfl,d6,f9⟩:=Run.cut _ rfl g8;obtain⟨m8,B',S',d5,hC,i6⟩:=bZ9 W [x,y] u;rw[g9]at d5;obtain⟨-,rfl,rfl⟩:=Desk.Run.det _ rfl d5 d6;obtain⟨-, -,ls,rfl,e9⟩:=aJm _ rfl (aQg xs) f9;obtain⟨ys,zs,rfl,a9,c8⟩:=bJM b0;have C2:=(C1.same Y).sameT k2 T2;have d1:=a0.same (Y.t.trans k2);have c7:=k2 _ _ (λ_ z=>by cases z) (Y _ _ c9);have h5:ys.length=S.length:=by rw[bYz a9,<- d6.len,a0.2.1]
   have l9:zs.length=4:=by rw[bYz c8,bWK,<- bYz e9,wS,a4]
   dsimp only[yS];refine⟨_,rfl,_,"list",_,_,rfl,.lst hl,jM _,_,rfl,onF rfl ?_⟩;refine⟨_,rfl,l,_,rfl,.inl (SqL.of hl),_,rfl,dd,_,rfl,.inl (SqL.of d1.1),_,rfl,qa,_,rfl,.inl (SqL.of C2.q.1),_,_,rfl,rfl,rfl,_,rfl,onF ?_ ?_⟩
   ·rw[bWW,bWK,bWK,h5,l9,d8];simp
   have e2:(r.map V.ref).length=4:=by rw[bWK,d8]
   refine⟨_,rfl,qa,_,rfl,.inl (SqL.of C2.q.1),?_⟩;rw[e2];refine⟨_,rfl,by decide,by decide,?_⟩;refine z9 (n:=4) (λt σ H=>∃o7 X:Option V,σ= [some (.ref a),some (.int (m:Nat)),some (.ref oa),some (.ref ra),some (.ref sa),some (.ref ea),some (.ref qa),o7,o8,some (.ref N),some (.int (J:Nat)),some (.ref dd),some (.ref na),some (.ref l),X]/\xV H2 H) ?_ ?_ ?_
   ·exact⟨_,_,rfl,λ_ _ e=>e⟩
   ·rintro i σ H hi ⟨o7,X,rfl,k5⟩;rw[cQk];dsimp only[yS];have C5:=C2.same k5;have ei:(((S.map V.ref).length:Nat):Int)+((i:Nat):Int)=((S.length+i:Nat):Int):=by rw[bWK];omega
    obtain⟨a2,d,d4⟩:=aYd xs i (by omega);obtain⟨lst,l7,l0⟩:∃lst,ls[i]? =some lst/\Bk.aQ0 B' S' d a2 lst:=by
     have c5:i<ls.length:=by rw[<- bYz e9,wS];omega
     have h9:=bWF c5;obtain⟨e,j,l8,d',rfl,G⟩:=bZu e9 h9;rw[d4]at j;cases j;exact⟨_,h9,G⟩
    obtain⟨v,m4,fa,rfl,_,j3⟩:∃v,zs[i]? =some v/\Q4 [] H2 (.nums lst) v:=bZu c8 (by rw[bWY,l7];rfl);obtain⟨ka,f3,h0⟩:∃ka,r[i]? =some ka/\H ka=some (.tup (z8 (.on a2 d))):=by
     have c5:i<r.length:=by omega
     exact⟨r[i],bWF c5,C5.q.2.2 i _ _ (bWF c5) d4⟩
    refine⟨_,rfl,_,rfl,dd,_,rfl,.inl (SqL.of (k5 _ _ d1.1)),_,rfl,_,_,rfl,rfl,?_⟩;rw[ei];refine⟨l,_,_,V.ref fa,rfl,rfl,SqL.of (k5 _ _ hl),yV ?_,?_⟩
    ·rw[bW0 (by omega),h5,Nat.add_sub_cancel_left];exact m4
    dsimp only[yS];refine⟨_,rfl,_,rfl,_,rfl,_,rfl,_,rfl,_,rfl,qa,_,_,V.ref ka,rfl,rfl,SqL.of C5.q.1,yV (by rw[bWY,f3];rfl),?_⟩;exact⟨fa,ra,sa,na,ka,rs,R,B',[x,y],S',ks,lst,m0,d,a2,rfl,k5 _ _ j3,C5.b,C5.sh,k5 _ _ c7,W.nd,W.key,h0,hC,i6,l0,by omega,λH6 k6=>⟨_,rfl,onF rfl ⟨_,_,rfl,k5.trans k6⟩⟩⟩
   ·rintro σ H ⟨o7,X,rfl,k5⟩;exact⟨_,_,_,_,_,_,rfl,C2.same k5⟩
  refine⟨_,rfl,rfl,_,rfl,?_⟩;refine aJW (λc=>?_) (λc=>?_)
  ·refine⟨_,rfl,_,rfl,ea,ds,_,_,rfl,rfl,C.e.1,g3.1,by rw[bWK,bWK,bKg];omega,λp hp=>?_⟩;have Y:=yI hp (.lst (g.map V.ref++L.map V.ref));refine d2 _ _ ⟨p,g++L,2,rfl,Y,?_⟩;show y6 _ p _ ([x,y].map y3.shut++es++ []);rw[bKI];exact vE C.e.2.1 (λi d e j G=>Y _ _ (C.e.2.2 i d e j G)) g3.2.1 (λi d e j G=>Y _ _ (g3.2.2 i d e j G)) yB
  ·obtain⟨u,rfl⟩:∃u,J=u+1:=by
    refine⟨J - 1,?_⟩;have:J≠0:=λz=>by subst z;exact c rfl
    omega
   have eu:((u+1:Nat):Int) - 1=((u:Nat):Int):=by omega
   refine⟨_,rfl,_,rfl,_,_,rfl,rfl,?_⟩;rw[eu];refine⟨_,rfl,ea,_,rfl,SqL.of C.e.1,λp1 b9=>?_⟩;have Y:=yI b9 (.lst (qK (g.map V.ref) none (some (u:Nat))));have c1:upd H p1 (.lst (qK (g.map V.ref) none (some (u:Nat)))) p1=some (.lst ((g.map V.ref).take u)):=yB.trans (congrArg (λz=>some (HO.lst z)) (aZY _ u));generalize upd H p1 (.lst (qK (g.map V.ref) none (some (u:Nat))))=Ha at Y c1 ⊢;refine⟨_,rfl,p1,ds,_,_,rfl,rfl,c1,Y _ _ g3.1,by rw[bKz,bWK,bWK,bKg];omega,λp2 b0=>?_⟩;have b2:=yI b0 (.lst ((g.map V.ref).take u++L.map V.ref));have c2:upd Ha p2 (.lst ((g.map V.ref).take u++L.map V.ref)) p2=some (.lst ((g.map V.ref).take u++L.map V.ref)):=yB;generalize upd Ha p2 (.lst ((g.map V.ref).take u++L.map V.ref))=Hb at b2 c2 ⊢;refine⟨_,rfl,_,rfl,_,_,rfl,rfl,?_⟩;rw[eu];refine⟨_,rfl,ea,_,rfl,SqL.of (b2 _ _ (Y _ _ C.e.1)),λp3 a9=>?_⟩;have b3:=yI a9 (.lst (qK (g.map V.ref) (some (u:Nat)) none));have c3:upd Hb p3 (.lst (qK (g.map V.ref) (some (u:Nat)) none)) p3=some (.lst ((g.map V.ref).drop u)):=yB.trans (congrArg (λz=>some (HO.lst z)) (aZX _ u));generalize upd Hb p3 (.lst (qK (g.map V.ref) (some (u:Nat)) none))=Hc at b3 c3 ⊢;refine⟨p2,p3,_,_,rfl,rfl,b3 _ _ c2,c3,by rw[bWW,bKz,bYu,bWK,bWK,bKg];omega,λp4 c8=>?_⟩;have b4:=yI c8 (.lst ((g.map V.ref).take u++L.map V.ref++(g.map V.ref).drop u));have bb:=((Y.trans b2).trans b3).trans b4;refine d2 _ _ ⟨p4,g.take u++L++g.drop u,u,rfl,bb,?_⟩;have tk:∀ (i:Nat)(d:Nat)(e:y3),(g.take u)[i]? =some d->(([x,y].take u).map y3.shut)[i]? =some e->upd Hc p4 (.lst ((g.map V.ref).take u++L.map V.ref++(g.map V.ref).drop u)) d=some (.tup (z8 e)):=λi d e j G=>by
    rw[List.map_take,bY4]at G;rw[bY4]at j;split at j
    ·rw[if_pos (by assumption)]at G;exact bb _ _ (C.e.2.2 i d e j G)
    ·cases j
   have dk:∀ (i:Nat)(d:Nat)(e:y3),(g.drop u)[i]? =some d->(([x,y].drop u).map y3.shut)[i]? =some e->upd Hc p4 (.lst ((g.map V.ref).take u++L.map V.ref++(g.map V.ref).drop u)) d=some (.tup (z8 e)):=λi d e j G=>by rw[List.map_drop,List.getElem?_drop]at G;rw[List.getElem?_drop]at j;exact bb _ _ (C.e.2.2 _ d e j G)
   have l1:(g.take u).length=(([x,y].take u).map y3.shut).length:=by rw[bWK,bKz,bKz,d3];rfl
   have l2:(g.drop u).length=(([x,y].drop u).map y3.shut).length:=by rw[bWK,bYu,bYu,d3];rfl
   refine vE (by rw[bWW,bWW,l1,g3.2.1]) (λi d e j G=>?_) l2 dk (by rw[yB,bKR,List.map_take,List.map_drop]);by_cases hi:i<(g.take u).length
   ·rw[bW7 hi]at j;rw[bW7 (by rw[<- l1];exact hi)]at G;exact tk i d e j G
   ·rw[bW0 (by omega)]at j;rw[bW0 (by rw[<- l1];omega),<- l1]at G;exact bb _ _ (g3.2.2 _ d e j G)
 rintro σ H ⟨n5,e4,e0,e1,d0,X,rfl,C⟩;exact q H
end
end Wh
namespace Desk
open PySem L2 PyProof.Rows
section
variable {K:bWI}
abbrev Y9:Stmt:=yW "Refused" "__init__"
theorem aVv:yJ ["self","words"] ["self","words"] (yD Y9):=scM
theorem aJ9(F:Fun K "__init__" "Refused.__init__" Y9 f fd):y0 P w K mg base CX0 (n+1) f fd ["self","words"] (zV K):=by
 have i:=aVv;refine F.ok (k:=n) i (λc A outer s H l Q E j h=>?_);obtain⟨e,C,tp,y,rfl,d,g,q⟩:=h;refine⟨_,(yG (bJW (pv 0) (pv 1) rfl)),?_⟩;exact⟨_,rfl,_,rfl,e,C,tp,rfl,d,g,λb a=>q b a⟩
abbrev jD:Stmt:=yW "NoLetter" "__init__"
theorem aZI:yJ ["self"] ["self"] (yD jD):=scM
theorem aZm(a:aJF P w K mg base n "Refused" "__init__" ["self","words"] (zV K))(j:wQ K C)(F:Fun K "__init__" "NoLetter.__init__" jD f fd):y0 P w K mg base CX0 (n+1) f fd ["self"] (zL K C "no letter"):=by
 have l:=aZI;refine F.ok (k:=n) l (λd A outer s H m Q E g h=>?_);obtain⟨e,tp,rfl,i,q⟩:=h;refine⟨_,(yG (yQ (vK a g rfl (yA (pv 0) (yA y1 yF))))),?_⟩;exact⟨_,rfl,e,C,tp,_,rfl,i,j,λc b=>q c b⟩
abbrev aQQ:Stmt:=yW "NoTerm" "__init__"
theorem aKx:yJ ["self"] ["self"] (yD aQQ):=scM
theorem aWR(a:aJF P w K mg base n "Refused" "__init__" ["self","words"] (zV K))(j:wQ K C)(F:Fun K "__init__" "NoTerm.__init__" aQQ f fd):y0 P w K mg base CX0 (n+1) f fd ["self"] (zL K C "no term"):=by
 have l:=aKx;refine F.ok (k:=n) l (λd A outer s H m Q E g h=>?_);obtain⟨e,tp,rfl,i,q⟩:=h;refine⟨_,(yG (yQ (vK a g rfl (yA (pv 0) (yA y1 yF))))),?_⟩;exact⟨_,rfl,e,C,tp,_,rfl,i,j,λc b=>q c b⟩
abbrev aQP:Stmt:=yW "HasOne" "__init__"
theorem aKw:yJ ["self"] ["self"] (yD aQP):=scM
theorem aWQ(a:aJF P w K mg base n "Refused" "__init__" ["self","words"] (zV K))(j:wQ K C)(F:Fun K "__init__" "HasOne.__init__" aQP f fd):y0 P w K mg base CX0 (n+1) f fd ["self"] (zL K C "has one"):=by
 have l:=aKw;refine F.ok (k:=n) l (λd A outer s H m Q E g h=>?_);obtain⟨e,tp,rfl,i,q⟩:=h;refine⟨_,(yG (yQ (vK a g rfl (yA (pv 0) (yA y1 yF))))),?_⟩;exact⟨_,rfl,e,C,tp,_,rfl,i,j,λc b=>q c b⟩
abbrev Y8:Stmt:=yW "HasNone" "__init__"
theorem aVu:yJ ["self"] ["self"] (yD Y8):=scM
theorem aJ8(a:aJF P w K mg base n "Refused" "__init__" ["self","words"] (zV K))(j:wQ K C)(F:Fun K "__init__" "HasNone.__init__" Y8 f fd):y0 P w K mg base CX0 (n+1) f fd ["self"] (zL K C "has none"):=by
 have l:=aVu;refine F.ok (k:=n) l (λd A outer s H m Q E g h=>?_);obtain⟨e,tp,rfl,i,q⟩:=h;refine⟨_,(yG (yQ (vK a g rfl (yA (pv 0) (yA y1 yF))))),?_⟩;exact⟨_,rfl,e,C,tp,_,rfl,i,j,λc b=>q c b⟩
abbrev uA:Stmt:=yW "OwnThread" "__init__"
theorem aXQ:yJ ["self"] ["self"] (yD uA):=scM
theorem aXA(a:aJF P w K mg base n "Refused" "__init__" ["self","words"] (zV K))(j:wQ K C)(F:Fun K "__init__" "OwnThread.__init__" uA f fd):y0 P w K mg base CX0 (n+1) f fd ["self"] (zL K C "own thread"):=by
 have l:=aXQ;refine F.ok (k:=n) l (λd A outer s H m Q E g h=>?_);obtain⟨e,tp,rfl,i,q⟩:=h;refine⟨_,(yG (yQ (vK a g rfl (yA (pv 0) (yA y1 yF))))),?_⟩;exact⟨_,rfl,e,C,tp,_,rfl,i,j,λc b=>q c b⟩
abbrev X0:Stmt:=yW "SameWay" "__init__"
theorem aVw:yJ ["self"] ["self"] (yD X0):=scM
theorem aVa(a:aJF P w K mg base n "Refused" "__init__" ["self","words"] (zV K))(j:wQ K C)(F:Fun K "__init__" "SameWay.__init__" X0 f fd):y0 P w K mg base CX0 (n+1) f fd ["self"] (zL K C "same way"):=by
 have l:=aVw;refine F.ok (k:=n) l (λd A outer s H m Q E g h=>?_);obtain⟨e,tp,rfl,i,q⟩:=h;refine⟨_,(yG (yQ (vK a g rfl (yA (pv 0) (yA y1 yF))))),?_⟩;exact⟨_,rfl,e,C,tp,_,rfl,i,j,λc b=>q c b⟩
abbrev wJ:Stmt:=yW "OtherPartner" "__init__"
theorem X8:yJ ["self"] ["self"] (yD wJ):=scM
theorem qW(a:aJF P w K mg base n "Refused" "__init__" ["self","words"] (zV K))(j:wQ K C)(F:Fun K "__init__" "OtherPartner.__init__" wJ f fd):y0 P w K mg base CX0 (n+1) f fd ["self"] (zL K C "other partner"):=by
 have l:=X8;refine F.ok (k:=n) l (λd A outer s H m Q E g h=>?_);obtain⟨e,tp,rfl,i,q⟩:=h;refine⟨_,(yG (yQ (vK a g rfl (yA (pv 0) (yA y1 yF))))),?_⟩;exact⟨_,rfl,e,C,tp,_,rfl,i,j,λc b=>q c b⟩
abbrev jE:Stmt:=yW "TooEarly" "__init__"
theorem aZJ:yJ ["self"] ["self"] (yD jE):=scM
theorem aZn(a:aJF P w K mg base n "Refused" "__init__" ["self","words"] (zV K))(j:wQ K C)(F:Fun K "__init__" "TooEarly.__init__" jE f fd):y0 P w K mg base CX0 (n+1) f fd ["self"] (zL K C "too early"):=by
 have l:=aZJ;refine F.ok (k:=n) l (λd A outer s H m Q E g h=>?_);obtain⟨e,tp,rfl,i,q⟩:=h;refine⟨_,(yG (yQ (vK a g rfl (yA (pv 0) (yA y1 yF))))),?_⟩;exact⟨_,rfl,e,C,tp,_,rfl,i,j,λc b=>q c b⟩
abbrev aQO:Stmt:=yW "Copied" "__init__"
theorem aKv:yJ ["self"] ["self"] (yD aQO):=scM
theorem aWP(a:aJF P w K mg base n "Refused" "__init__" ["self","words"] (zV K))(j:wQ K C)(F:Fun K "__init__" "Copied.__init__" aQO f fd):y0 P w K mg base CX0 (n+1) f fd ["self"] (zL K C "copied"):=by
 have l:=aKv;refine F.ok (k:=n) l (λd A outer s H m Q E g h=>?_);obtain⟨e,tp,rfl,i,q⟩:=h;refine⟨_,(yG (yQ (vK a g rfl (yA (pv 0) (yA y1 yF))))),?_⟩;exact⟨_,rfl,e,C,tp,_,rfl,i,j,λc b=>q c b⟩
abbrev jC:Stmt:=yW "Answered" "__init__"
theorem aZH:yJ ["self"] ["self"] (yD jC):=scM
theorem aZl(a:aJF P w K mg base n "Refused" "__init__" ["self","words"] (zV K))(j:wQ K C)(F:Fun K "__init__" "Answered.__init__" jC f fd):y0 P w K mg base CX0 (n+1) f fd ["self"] (zL K C "answered"):=by
 have l:=aZH;refine F.ok (k:=n) l (λd A outer s H m Q E g h=>?_);obtain⟨e,tp,rfl,i,q⟩:=h;refine⟨_,(yG (yQ (vK a g rfl (yA (pv 0) (yA y1 yF))))),?_⟩;exact⟨_,rfl,e,C,tp,_,rfl,i,j,λc b=>q c b⟩
abbrev v9:Stmt:=yW "CountsNot" "__init__"
theorem aXP:yJ ["self"] ["self"] (yD v9):=scM
theorem aXz(a:aJF P w K mg base n "Refused" "__init__" ["self","words"] (zV K))(j:wQ K C)(F:Fun K "__init__" "CountsNot.__init__" v9 f fd):y0 P w K mg base CX0 (n+1) f fd ["self"] (zL K C "counts not"):=by
 have l:=aXP;refine F.ok (k:=n) l (λd A outer s H m Q E g h=>?_);obtain⟨e,tp,rfl,i,q⟩:=h;refine⟨_,(yG (yQ (vK a g rfl (yA (pv 0) (yA y1 yF))))),?_⟩;exact⟨_,rfl,e,C,tp,_,rfl,i,j,λc b=>q c b⟩
end
end Desk
namespace End4
open PySem L2 PyProof.Rows
section
variable {K:bWI}{x m qual t:Str}{st:Stmt}{f C R CB CL:Nat}{oc:bWG}{od an:Option Nat}{osl:Array (Option bWG)}{kV doc pm cdv ct:bWG}
structure wK(K:bWI)(x:Str)(st:Stmt)(f:Nat):Prop where
 ns:bKw K bKd x=some (some (.ref f))
 ex:∃fd,Fun K x x st f fd
def Def(K:bWI)(x:Str)(st:Stmt):Prop:=∃f,wK K x st f
theorem xE(a:bKw K bKd x=some (some (.ref f)))(l:K.lookup f=some ⟨oc,od,.func (bKF x x (xH st) (xA st) (yD st) .none kV doc pm an cdv ct),osl⟩)
  (c:bYq K cdv x=true) (k:bKy K (.ref f)=true):wK K x st f:=⟨a,_,Q6 l c k⟩
theorem x3(a:bKw K bKd x=some (some (.ref f)))(l:K.lookup f=some ⟨oc,od,.func (bKF x x (xH st) (xA st) (yD st) .none kV doc pm an cdv ct),osl⟩)
  (c:bYq K cdv x=true) (k:bKy K (.ref f)=true):Def K x st:=⟨f,xE a l c k⟩
structure Mtd(K:bWI)(C:Nat)(m qual:Str)(st:Stmt):Prop where
 ex:∃f fd,bJa K C m f/\Fun K m qual st f fd
theorem xQ(a:bKm K (.ref C) m=some (some (.ref f)))(i:cQm K (.ref f)=true)(l:K.lookup f=some ⟨oc,od,.func (bKF m qual (xH st) (xA st) (yD st) .none kV doc pm an cdv ct),osl⟩)
  (c:bYq K cdv qual=true) (k:bKy K (.ref f)=true):Mtd K C m qual st:=⟨f,_,⟨a,i,k⟩,Q6 l c k⟩
structure MkD(K:bWI)(x:Str)(C:Nat)(qual:Str)(st:Stmt):Prop where
 ns:bKw K bKd x=some (some (.ref C))
 ex:∃f fd,Mk K C f/\Fun K "__init__" qual st f fd
theorem bXc(a:bKw K bKd x=some (some (.ref C)))(mk:PySem.W.makesIn K C=true)(d:bKy K (.ref C)=true)(b:bKm K (.ref C) "__init__"=some (some (.ref f)))(i:cQm K (.ref f)=true) (l:K.lookup f=some ⟨oc,od,.func (bKF "__init__" qual (xH st) (xA st) (yD st) .none kV doc pm an cdv ct),osl⟩) (c:bYq K cdv qual=true) (k:bKy K (.ref f)=true):MkD K x C qual st:=
 ⟨a,f,_,⟨mk,b,i,d⟩,Q6 l c k⟩
structure Exc(K:bWI)(R:Nat)(x qual:Str)(st:Stmt):Prop where
 ex:∃C f fd,bKw K bKd x=some (some (.ref C))/\wQ K C/\cQS K C (.ref R)=some true/\bKm K (.ref C) "__init__"=some (some (.ref f))/\cQm K (.ref f)=true/\bKy K (.ref C)=true/\Fun K "__init__" qual st f fd
theorem vG(a:bKw K bKd x=some (some (.ref C)))(e:aYu K C=true)(b:cQS K C (.ref R)=some true)(g:bKy K (.ref C)=true)(d:bKm K (.ref C) "__init__"=some (some (.ref f)))(i:cQm K (.ref f)=true) (l:K.lookup f=some ⟨oc,od,.func (bKF "__init__" qual (xH st) (xA st) (yD st) .none kV doc pm an cdv ct),osl⟩) (c:bYq K cdv qual=true) (k:bKy K (.ref f)=true):Exc K R x qual st:=
 ⟨C,f,_,a,aWi e,b,d,i,g,Q6 l c k⟩
structure bVA(K:bWI)(x:Str)(R:Nat)(qual:Str)(st:Stmt):Prop where
 ns:bKw K bKd x=some (some (.ref R))
 cl:wQ K R
 ex:∃f fd,PySem.W.readsIn K R (.type "type")=true/\PySem.W.findCls K (.ref R) (.type "type") "__init__"=some (.val (.ref f))/\cXg K (.ref R) "__getattribute__"=some (some (.builtin "type.__getattribute__"))/\Fun K "__init__" qual st f fd
theorem bZD(a:bKw K bKd x=some (some (.ref R)))(e:aYu K R=true)(rd:PySem.W.readsIn K R (.type "type")=true)(b:PySem.W.findCls K (.ref R) (.type "type") "__init__"=some (.val (.ref f))) (sp:cXg K (.ref R) "__getattribute__"=some (some (.builtin "type.__getattribute__"))) (l:K.lookup f=some ⟨oc,od,.func (bKF "__init__" qual (xH st) (xA st) (yD st) .none kV doc pm an cdv ct),osl⟩) (c:bYq K cdv qual=true) (k:bKy K (.ref f)=true):bVA K x R qual st:=
 ⟨a,aWi e,f,_,rd,b,sp,Q6 l c k⟩
theorem bVE(s:cQn K CB Str.empty=true)(e:cQD K CB=true)(c:cXf K CB=true)(r:bKm K (.ref CB) "__setattr__"=some (some (.builtin "object.__setattr__")))
  (m:cQn K CL Str.empty=true) (p:cQD K CL=true) (l:cXf K CL=true) (k:bKm K (.ref CL) "__setattr__"=some (some (.builtin "object.__setattr__")))
  (o:bKm K (.ref CB) "letters"=some none) (d:bKm K (.ref CB) "shut"=some none)
  (g:bKm K (.ref CL) "number"=some none) (h:bKm K (.ref CL) "way"=some none) (i:bKm K (.ref CL) "day"=some none) (j:bKm K (.ref CL) "partner"=some none)
  (f:bKm K (.ref CL) "term"=some none) (n:bKm K (.ref CL) "link"=some none) (q:bKm K (.ref CL) "file"=some none) (a:bKm K (.ref CL) "copies"=some none) (b:bKm K (.ref CL) "void"=some none):
  Desk.Cl K CB CL:=⟨⟨s,e,c,r⟩,⟨m,p,l,k⟩,o,d,g,h,i,j,f,n,q,a,b⟩
end
section
variable {P:bW3}{w:bKa}{K:bWI}{h:Heap}{mg:Str->Option bWG}{base:Heap}{x m qual t:Str}{st:Stmt}{f C R:Nat}{k:Nat}{ps:List Str}{sp:Sp}{CX:CXT}
def vC(x qual:Str)(st:Stmt)(ps:List Str):Prop:=∀ (kV doc pm:bWG)(an:Option Nat)(cdv ct:bWG)(a:List bWG),a.length=ps.length->cQo (bKF x qual (xH st) (xA st) (yD st) .none kV doc pm an cdv ct) ⟨a,[]⟩=pure (ps.zip a)
theorem jW{a:bYF}(F:Fun K x qual st f a):bKy K (.ref f)=true:=F.2
theorem gOf(P:bW3)(w:bKa)(base:Heap)(k:Nat)(X:K.In h)(G:h.Ns bKd mg)(D:Def K x st)(b:vC x x st ps)(ok:∀f c,Fun K x x st f c->y0 P w K mg base CX0 k f c ps sp):FnG P w K mg base k x ps sp:=by
 obtain⟨f,a,c,F⟩:=D;exact⟨f,c,ok f c F,F.binds b,jW F,bYA X G a⟩
theorem xOf(P:bW3)(w:bKa)(base:Heap)(k:Nat)(X:K.In h)(G:h.Ns bKd mg)(D:Def K x st)(b:vC x x st ps)(ok:∀f c,Fun K x x st f c->y0 P w K mg base (CXR P w) k f c ps sp):FnX P w K mg base k x ps sp:=by
 obtain⟨f,a,c,F⟩:=D;exact⟨f,c,ok f c F,F.binds b,jW F,bYA X G a⟩
structure DoG(P:bW3)(w:bKa)(K:bWI)(mg:Str->Option bWG)(base:Heap)(k:Nat)(f:Nat)(ps:List Str)(sp:Sp):Prop where
 ex:∃fd,y0 P w K mg base (CXR P w) k f fd ps sp/\wP K fd ps []/\bKy K (.ref f)=true
theorem dOf(mg:Str->Option bWG)(P:bW3)(w:bKa)(base:Heap)(k:Nat)(D:wK K x st f)(b:vC x x st ps)(ok:∀f c,Fun K x x st f c->y0 P w K mg base (CXR P w) k f c ps sp):DoG P w K mg base k f ps sp:=by
 obtain⟨a,c,F⟩:=D;exact⟨c,ok f c F,F.binds b,jW F⟩
theorem mOf(mg:Str->Option bWG)(P:bW3)(w:bKa)(base:Heap)(k:Nat)(c:Cls K C)(D:Mtd K C m qual st)(b:vC m qual st ps)(ok:∀f a,Fun K m qual st f a->y0 P w K mg base CX0 k f a ps sp):MG P w K mg base CX0 k C m ps sp:=by
 obtain⟨f,a,M,F⟩:=D.ex;exact⟨⟨f,a,ok f a F,F.binds b,M⟩,c⟩
theorem aZk(mg:Str->Option bWG)(P:bW3)(w:bKa)(base:Heap)(k:Nat)(c:Cls K C)(D:Mtd K C m qual st)(b:vC m qual st ps)(ok:∀f a,Fun K m qual st f a->y0 P w K mg base (CXR P w) k f a ps sp):MG P w K mg base (CXR P w) k C m ps sp:=by
 obtain⟨f,a,M,F⟩:=D.ex;exact⟨⟨f,a,ok f a F,F.binds b,M⟩,c⟩
theorem kOf(P:bW3)(w:bKa)(base:Heap)(k:Nat)(X:K.In h)(G:h.Ns bKd mg)(D:MkD K x C qual st)(b:vC "__init__" qual st ps)(ok:∀f a,Fun K "__init__" qual st f a->y0 P w K mg base CX0 k f a ps sp):MkG P w K mg base k x C ps sp:=by
 obtain⟨f,a,M,F⟩:=D.ex;exact⟨⟨f,a,ok f a F,F.binds b,M,bYA X G D.ns⟩⟩
theorem eOf(P:bW3)(w:bKa)(base:Heap)(k:Nat)(t:Str)(X:K.In h)(G:h.Ns bKd mg)(D:Exc K R x qual st)(b:vC "__init__" qual st ["self"])(ok:∀C f c,wQ K C->Fun K "__init__" qual st f c->y0 P w K mg base CX0 k f c ["self"] (zL K C t)):∃C,ExG P w K mg base k x R C t:=by
 obtain⟨C,f,c,a,e,g,d,i,j,F⟩:=D.ex;exact⟨C,⟨f,c,ok C f c e F,F.binds b,d,i,j,bYA X G a⟩,e,g⟩
theorem rOf(P:bW3)(w:bKa)(base:Heap)(k:Nat)(X:K.In h)(G:h.Ns bKd mg)(D:bVA K x R qual st)(b:vC "__init__" qual st ps)(ok:∀f a,Fun K "__init__" qual st f a->y0 P w K mg base CX0 k f a ps sp):aJF P w K mg base k x "__init__" ps sp:=by
 obtain⟨f,a,rd,c,s,F⟩:=D.ex;exact⟨⟨R,f,a,ok f a F,F.binds b,rd,c,s,jW F,bYA X G D.ns⟩⟩
end
def Pr(w:bKa):List DictEntry->List (Str×Nat)->Prop
 |[],[]=>True
 |e::es,(x,f)::r=>(∃t,e.key= .str x t)/\e.hash=hashStr w x/\e.val= .ref f/\Pr w es r
 |_,_=>False
abbrev bXa(r:List (Str×Nat)):List (Key×bWG):=r.map λp=>(Sum.inr p.1,.ref p.2)
theorem aJj{P:bW3}{w:bKa}:∀ {es:List DictEntry} {r:List (Str×Nat)},Pr w es r->Pairs (xJ P w) es (bXa r)
 |[],[],_=> .nil
 |e::es,(x,f)::r,⟨⟨t,h1⟩,h2,h3,h4⟩=> .cons (by rw[h1];exact v5 P w x t) h3 (aJj h4)
 |[],_::_,h=>nomatch h
 |_::_,[],h=>nomatch h
theorem aW7{P:bW3}{w:bKa}:∀ {es:List DictEntry} {r:List (Str×Nat)},Pr w es r->∀e∈es,∃k,(xJ P w).is k e.key=true/\e.hash=(xJ P w).hash k
 |[],_,_,e,he=>nomatch he
 |e::es,(x,f)::r,⟨⟨t,h1⟩,h2,h3,h4⟩,e',he=>by
  rcases bWU.mp he with rfl|z
  ·exact⟨Sum.inr x,by rw[h1];exact v5 P w x t,h2⟩
  ·exact aW7 h4 e' z
 |_::_,[],h,_,_=>nomatch h
theorem bZ5{P:bW3}{w:bKa}{K:bWI}{D:Nat}{es:Array DictEntry}{d:Nat}{r:List (Str×Nat)}(l:K.lookup D=some ⟨.type "dict",none,.dict es d, #[]⟩)(p:Pr w es.toList r)(f:(r.map (·.1)).Nodup):Desk.bVC P w K D (bXa r):=by
 refine⟨⟨_,es,d,l,⟨rfl,rfl,rfl⟩,rfl,λe g=>aW7 p e (Array.mem_toList_iff.mpr g),aJj p,?_⟩⟩;have e:(bXa r).map (·.1)=(r.map (·.1)).map Sum.inr:=by simp[bXa,Function.comp_def]
 rw[e];exact List.Pairwise.map _ (λa b c z=>c (Sum.inr.inj z)) f
theorem w9:∀ {r:List (Str×Nat)} {x:Str} {f:Nat},(r.map (·.1)).Nodup->∀i:Nat,r[i]? =some (x,f)->cQI (bXa r) (Sum.inr x:Key)=some (.ref f)
 |[],_,_,_,_,h=>by simp at h
 |(y,g)::r,x,f,nd,0,h=>by cases h;simp[cQI,bXa]
 |(y,g)::r,x,f,nd,i+1,h=>by
  have c:r[i]? =some (x,f):=by simpa using h
  have a:=bK4.mp nd;have d:¬ ((Sum.inr y:Key)=Sum.inr x):=λz=>a.1 (by
   rw[Sum.inr.inj z];exact bK1.mpr ⟨(x,f),bW1 c,rfl⟩)
  have b:=w9 a.2 i c;unfold cQI at b ⊢;simp only[bXa,bKv,cQb,decide_eq_false d]at b ⊢;exact b
end End4
namespace L2
open PySem
section
variable {P:bW3}{w:bKa}{K:bWI}{mg:Str->Option bWG}{base:Heap}{j k:Nat}{x t:Str}{ps:List Str}{sp:Sp}{C Rf:Nat}{CX:CXT}
theorem FnG.up(G:FnG P w K mg base j x ps sp)(h:j<=k:=by decide):FnG P w K mg base k x ps sp:=G.mono h
theorem FnX.up(G:FnX P w K mg base j x ps sp)(h:j<=k:=by decide):FnX P w K mg base k x ps sp:=G.mono h
theorem MG.up(G:MG P w K mg base CX j C x ps sp)(h:j<=k:=by decide):MG P w K mg base CX k C x ps sp:=G.mono h
theorem MkG.up(G:MkG P w K mg base j x C ps sp)(h:j<=k:=by decide):MkG P w K mg base k x C ps sp:=G.mono h
theorem ExG.up(G:ExG P w K mg base j x Rf C t)(h:j<=k:=by decide):ExG P w K mg base k x Rf C t:=G.mono h
end
end L2
namespace End4
open PySem L2 PyProof.Rows
theorem bd1{x qual:Str}{st:Stmt}{a:Str}(h:∀ (kV doc pm:bWG)(an:Option Nat)(cdv ct b:bWG),cQo (bKF x qual (xH st) (xA st) (yD st) .none kV doc pm an cdv ct) ⟨[b],[]⟩=pure (cQ5 [a] [b])):vC x qual st [a]:=by
 intro kV doc pm an cdv ct c l;rcases c with _|⟨_,_|⟨_,_⟩⟩<;> first|(cases l;done)|exact h _ _ _ _ _ _ _
theorem bd2{x qual:Str}{st:Stmt}{a b:Str}(h:∀ (kV doc pm:bWG)(an:Option Nat)(cdv ct c d:bWG),cQo (bKF x qual (xH st) (xA st) (yD st) .none kV doc pm an cdv ct) ⟨[c,d],[]⟩=pure (cQ5 [a,b] [c,d])):vC x qual st [a,b]:=by
 intro kV doc pm an cdv ct e l;rcases e with _|⟨_,_|⟨_,_|⟨_,_⟩⟩⟩<;> first|(cases l;done)|exact h _ _ _ _ _ _ _ _
theorem bd3{x qual:Str}{st:Stmt}{a f b:Str}(h:∀ (kV doc pm:bWG)(an:Option Nat)(cdv ct d c e:bWG),cQo (bKF x qual (xH st) (xA st) (yD st) .none kV doc pm an cdv ct) ⟨[d,c,e],[]⟩=pure (cQ5 [a,f,b] [d,c,e])):vC x qual st [a,f,b]:=by
 intro kV doc pm an cdv ct g l;rcases g with _|⟨_,_|⟨_,_|⟨_,_|⟨_,_⟩⟩⟩⟩<;> first|(cases l;done)|exact h _ _ _ _ _ _ _ _ _
theorem bd4{x qual:Str}{st:Stmt}{a i b e:Str}(h:∀ (kV doc pm:bWG)(an:Option Nat)(cdv ct f d g c:bWG),cQo (bKF x qual (xH st) (xA st) (yD st) .none kV doc pm an cdv ct) ⟨[f,d,g,c],[]⟩=pure (cQ5 [a,i,b,e] [f,d,g,c])):vC x qual st [a,i,b,e]:=by
 intro kV doc pm an cdv ct j l;rcases j with _|⟨_,_|⟨_,_|⟨_,_|⟨_,_|⟨_,_⟩⟩⟩⟩⟩<;> first|(cases l;done)|exact h _ _ _ _ _ _ _ _ _ _
theorem bd5{x qual:Str}{st:Stmt}{a k b e f:Str}(h:∀ (kV doc pm:bWG)(an:Option Nat)(cdv ct g d i c j:bWG),cQo (bKF x qual (xH st) (xA st) (yD st) .none kV doc pm an cdv ct) ⟨[g,d,i,c,j],[]⟩=pure (cQ5 [a,k,b,e,f] [g,d,i,c,j])):vC x qual st [a,k,b,e,f]:=by
 intro kV doc pm an cdv ct m l;rcases m with _|⟨_,_|⟨_,_|⟨_,_|⟨_,_|⟨_,_|⟨_,_⟩⟩⟩⟩⟩⟩<;> first|(cases l;done)|exact h _ _ _ _ _ _ _ _ _ _ _
theorem bd6{x qual:Str}{st:Stmt}{a n b f g m:Str}(h:∀ (kV doc pm:bWG)(an:Option Nat)(cdv ct i e j c k d:bWG),cQo (bKF x qual (xH st) (xA st) (yD st) .none kV doc pm an cdv ct) ⟨[i,e,j,c,k,d],[]⟩=pure (cQ5 [a,n,b,f,g,m] [i,e,j,c,k,d])):vC x qual st [a,n,b,f,g,m]:=by
 intro kV doc pm an cdv ct o l;rcases o with _|⟨_,_|⟨_,_|⟨_,_|⟨_,_|⟨_,_|⟨_,_|⟨_,_⟩⟩⟩⟩⟩⟩⟩<;> first|(cases l;done)|exact h _ _ _ _ _ _ _ _ _ _ _ _
theorem bd7{x qual:Str}{st:Stmt}{a o b g i n e:Str}(h:∀ (kV doc pm:bWG)(an:Option Nat)(cdv ct j f k c m d p:bWG),cQo (bKF x qual (xH st) (xA st) (yD st) .none kV doc pm an cdv ct) ⟨[j,f,k,c,m,d,p],[]⟩=pure (cQ5 [a,o,b,g,i,n,e] [j,f,k,c,m,d,p])):vC x qual st [a,o,b,g,i,n,e]:=by
 intro kV doc pm an cdv ct q l;rcases q with _|⟨_,_|⟨_,_|⟨_,_|⟨_,_|⟨_,_|⟨_,_|⟨_,_|⟨_,_⟩⟩⟩⟩⟩⟩⟩⟩<;> first|(cases l;done)|exact h _ _ _ _ _ _ _ _ _ _ _ _ _
theorem bdA{x qual:Str}{st:Stmt}{ps:List Str}(h:vC x qual st ps:=by
  first|refine bd1 λa b c d e f g=>?_|refine bd2 λa b c d e f g i=>?_|refine bd3 λa b c d e f g i j=>?_|refine bd4 λa b c d e f g i j k=>?_|refine bd5 λa b c d e f g i j k l=>?_|refine bd6 λa b c d e f g i j k l m=>?_|refine bd7 λa b c d e f g i j k l m n=>?_
  kernel_rfl):vC x qual st ps:=h
end End4
namespace End4
open PySem L2 PyProof.Rows
set_option maxHeartbeats 0 in
theorem all_mk{l:PySem.W.OpenLaw}{w:bKa}{K:bWI}{h:Heap}{mg:Str->Option bWG}{fa R L CL cA J fA fL DD i y B x D H z E I A u q r p k j:Nat}{e2 f9:Option Nat}{e9:Array (Option bWG)}{d0 i5 f4 h0 i6:bWG}{a7:Array DictEntry}{h6:Nat}{tW tO:Tok} (X:K.In h) (G:h.Ns bKd mg) (c6:mg "law"=some (.ref fa)) (d58:bVA K "Refused" R "Refused.__init__" Desk.Y9) (d59:Exc K R "NoLetter" "NoLetter.__init__" Desk.jD) (d60:Exc K R "NoTerm" "NoTerm.__init__" Desk.aQQ) (d61:Exc K R "HasOne" "HasOne.__init__" Desk.aQP) (d62:Exc K R "HasNone" "HasNone.__init__" Desk.Y8) (d63:Exc K R "OwnThread" "OwnThread.__init__" Desk.uA) (d64:Exc K R "SameWay" "SameWay.__init__" Desk.X0) (d65:Exc K R "OtherPartner" "OtherPartner.__init__" Desk.wJ) (d66:Exc K R "TooEarly" "TooEarly.__init__" Desk.jE) (d67:Exc K R "Copied" "Copied.__init__" Desk.aQO) (d68:Exc K R "Answered" "Answered.__init__" Desk.jC) (d69:Exc K R "CountsNot" "CountsNot.__init__" Desk.v9) (d9:MkD K "Letter" CL "Letter.__init__" Desk.aKn) (d24:MkD K "Book" L "Book.__init__" Desk.aKg) (cl:Desk.Cl K L CL) (d10:Mtd K CL "state" "Letter.state" Desk.aKs) (d11:Mtd K CL "is_answered_by" "Letter.is_answered_by" Desk.aKf) (d12:Mtd K CL "has_gone_to" "Letter.has_gone_to" Desk.bZE) (d13:Mtd K CL "make_void" "Letter.make_void" Desk.bZK) (d15:Mtd K L "letter_at" "Book.letter_at" Desk.Y7) (d16:Mtd K L "answers_to" "Book.answers_to" Desk.aJo) (d17:Mtd K L "copies_of" "Book.copies_of" Desk.Y6) (d18:Mtd K L "state_of" "Book.state_of" Desk.aQN) (d19:Mtd K L "letters_in" "Book.letters_in" Desk.vT) (d20:Mtd K L "answered_by" "Book.answered_by" Desk.Y5) (d21:Mtd K L "waiting_pairs" "Book.waiting_pairs" Desk.aKp) (d22:Mtd K L "waiting" "Book.waiting" Desk.qE) (d23:Mtd K L "overdue" "Book.overdue" Desk.qD) (d25:Mtd K L "add_letter" "Book.add_letter" Desk.bVP) (d28:Mtd K L "enter" "Book.enter" Desk.aKl) (d29:Mtd K L "reply" "Book.reply" Desk.aKr) (d30:Mtd K L "loosen" "Book.loosen" Desk.aZE) (d31:Mtd K L "put_term" "Book.put_term" Desk.aQM) (d32:Mtd K L "send_copy" "Book.send_copy" Desk.bZI) (d33:Mtd K L "cancel" "Book.cancel" Desk.aZC) (d34:Mtd K L "shut_day" "Book.shut_day" Desk.bZJ) (d35:Mtd K L "put_day" "Book.put_day" Desk.aZF) (d36:Mtd K L "thread_of" "Book.thread_of" Desk.uR) (d37:Mtd K L "lay_thread" "Book.lay_thread" Desk.bVU) (d38:Mtd K L "check_hanging" "Book.check_hanging" Desk.aKh) (d39:Mtd K L "hang" "Book.hang" Desk.bZF) (d1:Def K "open_by_rest" Days.bZH) (d2:Def K "place_of" Days.aKq) (d3:Def K "counts" Days.aZD) (d4:Def K "closed_days" Days.aQI) (d5:Def K "day_at" Days.aKi) (d6:Def K "due_day" Days.bVR) (d7:Def K "top_of" Thr.aKu) (d8:Def K "thread" Thr.aZG) (d14:Def K "other_way" Desk.aKo) (d26:Def K "check_term" Desk.aKt) (d27:Def K "check_days" Desk.aKj) (d56:Def K "answer" Desk.aZB) (d57:Def K "answers" Desk.qC) (d70:Def K "_law_kids_of" Law.bQj) (d71:Def K "_law_waits_on" Law.aJq) (d72:Def K "_law_due_by" Law.aKk) (d73:Def K "_law_list_on" Law.aQL) (d74:Def K "_law_forest" Wh.aQJ) (d75:Def K "_law_at" Wh.sAt) (d76:Def K "_law_in_order" Wh.aQK) (d77:Def K "_law_hung_late" Wh.bZG) (d78:Def K "_law_fits" Wh.bQi) (d40:wK K "do_enter" Desk.jF i) (d41:wK K "do_reply" Desk.jH y) (d42:wK K "do_hang" Desk.X4 B) (d43:wK K "do_loose" Desk.jG x) (d44:wK K "do_date" Desk.X2 D) (d45:wK K "do_term" Desk.X6 H) (d46:wK K "do_copy" Desk.X1 z) (d47:wK K "do_file" Desk.X3 E) (d48:wK K "do_void" Desk.X7 I) (d49:wK K "do_shut" Desk.X5 A) (d50:wK K "ask_state" Desk.uB u) (d51:wK K "ask_thread" Desk.vM q) (d52:wK K "ask_copies" Desk.vL r) (d53:wK K "ask_letters" Desk.wX p) (d54:wK K "ask_waiting" Desk.wZ k) (d55:wK K "ask_overdue" Desk.wY j) (dL:wK K "law" Wh.bJ2 fL) (aA:bKw K bKd "answers_to_each"=some (some (.ref fA))) (lA:K.lookup fA=some ⟨d0,e2,.func (bKF "answers_to_each" "answers_to_each" (xH Thr.aZA) (xA Thr.aZA) (yD Thr.aZA) .none i5 f4 h0 f9 (.ref cA) i6),e9⟩) (cA1:bYq K (.ref cA) "answers_to_each"=true) (kA:bKy K (.ref fA)=true) (nD:bKw K bKd "DEEDS"=some (some (.ref DD))) (lD:K.lookup DD=some ⟨.type "dict",none,.dict a7 h6, #[]⟩) (pD:Pr w a7.toList [("in",i),("out",i),("reply",y),("hang",B),("loose",x),("date",D),("term",H),("copy",z),("file",E),("void",I),("shut",A),("state",u),("thread",q),("copies",r),("letters",p),("waiting",k),("overdue",j)]) (z_len:bKw K bKd "len"=some none) (z_min:bKw K bKd "min"=some none) (z_sum:bKw K bKd "sum"=some none) (z_sorted:bKw K bKd "sorted"=some none) (z_isinstance:bKw K bKd "isinstance"=some none) (z_int:bKw K bKd "int"=some none) (z_str:bKw K bKd "str"=some none) (z_bool:bKw K bKd "bool"=some none) (z_list:bKw K bKd "list"=some none) (z_tuple:bKw K bKd "tuple"=some none) (z_set:bKw K bKd "set"=some none) (z_range:bKw K bKd "range"=some none) (z_reversed:bKw K bKd "reversed"=some none) (z_max:bKw K bKd "max"=some none) (y_week:bKw K bKd "WEEK"=some (some (.int 7 tW))) (y_open:bKw K bKd "OPEN_DAYS"=some (some (.int 5 tO))) (tb:cXl K cA J=true) (tn:K.lookup J=none) :∃ (g:bYF)(c:Nat),cXl K c J=true/\K.lookup J=none/\(∀ (s:bWJ)(v:bWG),BindsTo s g ⟨[v],[]⟩ [("_law_script",v)])/\∀base:Heap,K.In base->base.Ns bKd mg->bYK base c J->base.BuiltinsAt mg J->y0 l.prog w K mg base CX0 11 fa g ["_law_script"] (Wh.bQE J K):=by
 obtain⟨aL,a0,Q⟩:=dL;have e:=c6.symm.trans (bYA X G aL);cases e;have TD:Days.vD mg:=⟨bW2 X G z_len,bW2 X G z_min,bW2 X G z_sum,bW2 X G z_sorted,bW2 X G z_isinstance,bW2 X G z_int,bW2 X G z_str,bW2 X G z_bool,bW2 X G z_list,bW2 X G z_tuple,bW2 X G z_set,bW2 X G z_range,bW2 X G z_reversed,⟨_,bYA X G y_week⟩,⟨_,bYA X G y_open⟩⟩;have TT:Thr.vD mg:=⟨bW2 X G z_len,bW2 X G z_sorted,bW2 X G z_isinstance,bW2 X G z_int,bW2 X G z_str,bW2 X G z_bool,bW2 X G z_list,bW2 X G z_tuple,bW2 X G z_range⟩;have V:Desk.vD mg:=⟨bW2 X G z_len,bW2 X G z_sorted,bW2 X G z_list⟩;have TL:Law.vD mg:=⟨bW2 X G z_len,bW2 X G z_range⟩;have TW:Wh.vD mg:=⟨bW2 X G z_len,bW2 X G z_sorted,bW2 X G z_isinstance,bW2 X G z_int,bW2 X G z_list,bW2 X G z_range,bW2 X G z_reversed⟩;have bL:∀ (s:bWJ)(v:bWG),BindsTo s a0 ⟨[v],[]⟩ [("_law_script",v)]:=by obtain⟨oc,od,kV,j7,pm,an,j9,ct,j8,rfl,lk,k0⟩:=Q.ex;exact λs v=> .of_eq rfl
 refine⟨a0,cA,tb,tn,bL,λbase _ _ M hB=>?_⟩;have g0:FnG l.prog w K mg base 2 "answers_to_each" ["links","dates"] (Thr.bZY J):=⟨fA,_,Thr.bJD TT M hB lA cA1,(Q6 (st:=Thr.aZA) lA cA1 kA).binds bdA,kA,bYA X G aA⟩;have g1:=gOf l.prog w base 1 X G d1 bdA λf g F=>Days.bZo TD F;have g2:=gOf l.prog w base 1 X G d2 bdA λf g F=>Days.aY1 TD F;have g3:=gOf l.prog w base 2 X G d3 bdA λf g F=>Days.aWV TD g1.up F;have g4:=gOf l.prog w base 2 X G d4 bdA λf g F=>Days.aWU TD g1.up F;have g5:=gOf l.prog w base 1 X G d5 bdA λf g F=>Days.aYU TD F;have g6:=gOf l.prog w base 3 X G d6 bdA λf g F=>Days.bJE TD g4.up g2.up g5.up F;have g7:=gOf l.prog w base 1 X G d7 bdA λf g F=>Thr.aY5 TT F;have g8:=gOf l.prog w base 3 X G d8 bdA λf g F=>Thr.aW0 TT g0.up g7.up F;have g9:=kOf l.prog w base 1 X G d9 bdA λf g F=>Desk.aYY (n:=0) cl F;have c9:=mOf mg l.prog w base 1 cl.l d10 bdA λf g F=>Desk.aY3 (n:=0) cl F;have i7:=mOf mg l.prog w base 1 cl.l d11 bdA λf g F=>Desk.aYQ (n:=0) cl F;have b3:=mOf mg l.prog w base 1 cl.l d12 bdA λf g F=>Desk.bZj (n:=0) cl F;have c4:=mOf mg l.prog w base 1 cl.l d13 bdA λf g F=>Desk.bZr (n:=0) cl F;have a9:=gOf l.prog w base 1 X G d14 bdA λf g F=>Desk.aYZ (n:=0) F;have a4:=mOf mg l.prog w base 2 cl.b d16 bdA λf g F=>Desk.aYR (n:=1) cl i7.up F;have e3:=mOf mg l.prog w base 1 cl.b d19 bdA λf g F=>Desk.aXC (n:=0) cl F;have h3:=mOf mg l.prog w base 1 cl.b d20 bdA λf g F=>Desk.aZo (n:=0) cl F;have a1:=mOf mg l.prog w base 4 cl.b d21 bdA λf g F=>Desk.aY0 (n:=3) V cl h3.up g6.up F;have h7:=mOf mg l.prog w base 5 cl.b d22 bdA λf g F=>Desk.aVn (n:=4) cl a1.up F;have b0:=mOf mg l.prog w base 5 cl.b d23 bdA λf g F=>Desk.aVk (n:=4) cl a1.up F;have j5:=kOf l.prog w base 1 X G d24 bdA λf g F=>Desk.aYS (n:=0) cl F;have a2:=mOf mg l.prog w base 3 cl.b d25 bdA λf g F=>Desk.bJC (n:=1) V cl g9.up F;have j2:=dOf mg l.prog w base 2 d53 bdA λf g F=>Desk.W9 (n:=1) (Rf:=(R,J)) e3.up F;have b4:=dOf mg l.prog w base 6 d54 bdA λf g F=>Desk.J7 (n:=5) (Rf:=(R,J)) h7.up F;have b6:=dOf mg l.prog w base 6 d55 bdA λf g F=>Desk.J2 (n:=5) (Rf:=(R,J)) b0.up F;have N:=rOf l.prog w base 1 X G d58 bdA λf g F=>Desk.aJ9 (n:=0) F;obtain⟨_,j1⟩:=eOf l.prog w base 2 "no letter" X G d59 bdA λC f g M F=>Desk.aZm (n:=1) N M F;obtain⟨_,i4⟩:=eOf l.prog w base 2 "no term" X G d60 bdA λC f g M F=>Desk.aWR (n:=1) N M F;obtain⟨_,c1⟩:=eOf l.prog w base 2 "has one" X G d61 bdA λC f g M F=>Desk.aWQ (n:=1) N M F;obtain⟨_,b8⟩:=eOf l.prog w base 2 "has none" X G d62 bdA λC f g M F=>Desk.aJ8 (n:=1) N M F;obtain⟨_,e4⟩:=eOf l.prog w base 2 "own thread" X G d63 bdA λC f g M F=>Desk.aXA (n:=1) N M F;obtain⟨_,j3⟩:=eOf l.prog w base 2 "same way" X G d64 bdA λC f g M F=>Desk.aVa (n:=1) N M F;obtain⟨_,i3⟩:=eOf l.prog w base 2 "other partner" X G d65 bdA λC f g M F=>Desk.qW (n:=1) N M F;obtain⟨_,i8⟩:=eOf l.prog w base 2 "too early" X G d66 bdA λC f g M F=>Desk.aZn (n:=1) N M F;obtain⟨_,j6⟩:=eOf l.prog w base 2 "copied" X G d67 bdA λC f g M F=>Desk.aWP (n:=1) N M F;obtain⟨_,j0⟩:=eOf l.prog w base 2 "answered" X G d68 bdA λC f g M F=>Desk.aZl (n:=1) N M F;obtain⟨_,f1⟩:=eOf l.prog w base 2 "counts not" X G d69 bdA λC f g M F=>Desk.aXz (n:=1) N M F;have c5:=gOf l.prog w base 1 X G d70 bdA λf g F=>Law.bZm TL F;have c3:=gOf l.prog w base 2 X G d71 bdA λf g F=>Law.aY6 TL (bW2 X G z_min) c5.up F;have a6:=gOf l.prog w base 1 X G d72 bdA λf g F=>Law.aYW TL F;have e5:=gOf l.prog w base 3 X G d73 bdA λf g F=>Law.aWX TL (bW2 X G z_sorted) c3.up a6.up F;have i1:=gOf l.prog w base 1 X G d74 bdA λf g F=>Wh.aWW TW F;have b5:=gOf l.prog w base 1 X G d75 bdA λf g F=>Wh.bZg TW F;have f0:=gOf l.prog w base 1 X G d76 bdA λf g F=>Wh.aVj TW F;have e6:=gOf l.prog w base 1 X G d77 bdA λf g F=>Wh.bZl TW F;have b7:=gOf l.prog w base 4 X G d78 bdA λf g F=>Wh.bZi (n:=3) TW e5.up a6.up F;have O:=aZk mg l.prog w base 4 cl.b d15 bdA λf g F=>Desk.bZg (n:=2) (Rf:=(R,J)) V cl j1.up F;have c2:=aZk mg l.prog w base 5 cl.b d17 bdA λf g F=>Desk.aZp (n:=4) (Rf:=(R,J)) V cl O.up F;have b1:=aZk mg l.prog w base 5 cl.b d18 bdA λf g F=>Desk.aVm (n:=4) (Rf:=(R,J)) cl O.up c9.up F;have Y:=xOf l.prog w base 4 X G d26 bdA λf g F=>Desk.aY4 (n:=2) (Rf:=(R,J)) i4.up F;have U:=xOf l.prog w base 4 X G d27 bdA λf g F=>Desk.aYV (n:=2) (Rf:=(R,J)) i8.up F;have f8:=aZk mg l.prog w base 5 cl.b d28 bdA λf g F=>Desk.aYX (n:=4) (Rf:=(R,J)) cl Y.up a2.up F;have h2:=aZk mg l.prog w base 5 cl.b d29 bdA λf g F=>Desk.aY2 (n:=4) (Rf:=(R,J)) cl O.up Y.up U.up a9.up a2.up F;have a8:=aZk mg l.prog w base 5 cl.b d30 bdA λf g F=>Desk.aWY (n:=3) (Rf:=(R,J)) cl O.up b8.up F;have h9:=aZk mg l.prog w base 5 cl.b d31 bdA λf g F=>Desk.aVl (n:=4) (Rf:=(R,J)) cl O.up Y.up F;have i9:=aZk mg l.prog w base 5 cl.b d32 bdA λf g F=>Desk.bZp (n:=3) (Rf:=(R,J)) V cl O.up b3.up j6.up F;have h5:=aZk mg l.prog w base 5 cl.b d33 bdA λf g F=>Desk.aWT (n:=3) (Rf:=(R,J)) V cl O.up a4.up c4.up j0.up F;have f2:=aZk mg l.prog w base 4 cl.b d34 bdA λf g F=>Desk.bZq (n:=2) (Rf:=(R,J)) cl g3.up f1.up F;have h8:=aZk mg l.prog w base 5 cl.b d35 bdA λf g F=>Desk.aWZ (n:=4) (Rf:=(R,J)) cl O.up a4.up U.up F;have Z:=aZk mg l.prog w base 5 cl.b d36 bdA λf g F=>Desk.aZt (n:=4) (Rf:=(R,J)) cl O.up g8.up F;have a5:=aZk mg l.prog w base 6 cl.b d37 bdA λf g F=>Desk.bJG (n:=5) (Rf:=(R,J)) V cl Z.up F;have h1:=aZk mg l.prog w base 6 cl.b d38 bdA λf g F=>Desk.aYT (n:=4) (Rf:=(R,J)) cl Z.up U.up c1.up e4.up j3.up i3.up F;have e1:=aZk mg l.prog w base 7 cl.b d39 bdA λf g F=>Desk.bZk (n:=6) (Rf:=(R,J)) cl O.up h1.up a5.up F;have e0:=dOf mg l.prog w base 6 d40 bdA λf g F=>Desk.aZq (n:=5) (Rf:=(R,J)) f8.up F;have f3:=dOf mg l.prog w base 6 d41 bdA λf g F=>Desk.aZs (n:=5) (Rf:=(R,J)) h2.up F;have h4:=dOf mg l.prog w base 8 d42 bdA λf g F=>Desk.aVf (n:=7) (Rf:=(R,J)) e1.up F;have f7:=dOf mg l.prog w base 6 d43 bdA λf g F=>Desk.aZr (n:=5) (Rf:=(R,J)) a8.up F
 have f6:=dOf mg l.prog w base 6 d44 bdA λf g F=>Desk.aVd (n:=5) (Rf:=(R,J)) h8.up F;have b2:=dOf mg l.prog w base 6 d45 bdA λf g F=>Desk.aVh (n:=5) (Rf:=(R,J)) h9.up F;have i2:=dOf mg l.prog w base 6 d46 bdA λf g F=>Desk.aVc (n:=5) (Rf:=(R,J)) i9.up F;have b9:=dOf mg l.prog w base 7 d47 bdA λf g F=>Desk.aVe (n:=6) (Rf:=(R,J)) a5.up F;have e7:=dOf mg l.prog w base 6 d48 bdA λf g F=>Desk.aVi (n:=5) (Rf:=(R,J)) h5.up F;have c0:=dOf mg l.prog w base 5 d49 bdA λf g F=>Desk.aVg (n:=4) (Rf:=(R,J)) f2.up F;have c8:=dOf mg l.prog w base 6 d50 bdA λf g F=>Desk.aXB (n:=5) (Rf:=(R,J)) b1.up F;have f5:=dOf mg l.prog w base 6 d51 bdA λf g F=>Desk.aQx (n:=5) (Rf:=(R,J)) Z.up F;have c7:=dOf mg l.prog w base 6 d52 bdA λf g F=>Desk.aQw (n:=5) (Rf:=(R,J)) c2.up F;have P:(([("in",i),("out",i),("reply",y),("hang",B),("loose",x),("date",D),("term",H),("copy",z),("file",E),("void",I),("shut",A),("state",u),("thread",q),("copies",r),("letters",p),("waiting",k),("overdue",j)]:List (Str×Nat)).map (·.1)).Nodup:=show(["in","out","reply","hang","loose","date","term","copy","file","void","shut","state","thread","copies","letters","waiting","overdue"]:List Str).Nodup from dk;have all:Desk.bJd l.prog w K mg base 8 (R,J) L CL (bXa [("in",i),("out",i),("reply",y),("hang",B),("loose",x),("date",D),("term",H),("copy",z),("file",E),("void",I),("shut",A),("state",u),("thread",q),("copies",r),("letters",p),("waiting",k),("overdue",j)]):=by
  intro e i0;cases e with
  |enter k1 d T t=>
   obtain⟨g,a,b,c⟩:=e0.ex;rcases i0 with rfl|rfl
   ·exact⟨i,g,_,w9 P 0 rfl,a.mono (by decide),⟨_,d,T,t,rfl⟩,b,c⟩
   ·exact⟨i,g,_,w9 P 1 rfl,a.mono (by decide),⟨_,d,T,t,rfl⟩,b,c⟩
  |reply m d t=>obtain⟨g,a,b,c⟩:=f3.ex;exact⟨y,g,_,w9 P 2 rfl,a.mono (by decide),⟨m,d,t,rfl⟩,b,c⟩
  |hang m o=>obtain⟨g,a,b,c⟩:=h4.ex;exact⟨B,g,_,w9 P 3 rfl,a.mono (by decide),⟨m,o,rfl⟩,b,c⟩
  |loose m=>obtain⟨g,a,b,c⟩:=f7.ex;exact⟨x,g,_,w9 P 4 rfl,a.mono (by decide),⟨m,rfl⟩,b,c⟩
  |date m d=>obtain⟨g,a,b,c⟩:=f6.ex;exact⟨D,g,_,w9 P 5 rfl,a.mono (by decide),⟨m,d,rfl⟩,b,c⟩
  |term m t=>obtain⟨g,a,b,c⟩:=b2.ex;exact⟨H,g,_,w9 P 6 rfl,a.mono (by decide),⟨m,t,rfl⟩,b,c⟩
  |copy m T=>obtain⟨g,a,b,c⟩:=i2.ex;exact⟨z,g,_,w9 P 7 rfl,a.mono (by decide),⟨m,T,rfl⟩,b,c⟩
  |file m S=>obtain⟨g,a,b,c⟩:=b9.ex;exact⟨E,g,_,w9 P 8 rfl,a.mono (by decide),⟨m,S,rfl⟩,b,c⟩
  |void m=>obtain⟨g,a,b,c⟩:=e7.ex;exact⟨I,g,_,w9 P 9 rfl,a.mono (by decide),⟨m,rfl⟩,b,c⟩
  |shut d=>obtain⟨g,a,b,c⟩:=c0.ex;exact⟨A,g,_,w9 P 10 rfl,a.mono (by decide),⟨d,rfl⟩,b,c⟩
  |state m=>obtain⟨g,a,b,c⟩:=c8.ex;exact⟨u,g,_,w9 P 11 rfl,a.mono (by decide),⟨m,rfl⟩,b,c⟩
  |thread m=>obtain⟨g,a,b,c⟩:=f5.ex;exact⟨q,g,_,w9 P 12 rfl,a.mono (by decide),⟨m,rfl⟩,b,c⟩
  |copies m=>obtain⟨g,a,b,c⟩:=c7.ex;exact⟨r,g,_,w9 P 13 rfl,a.mono (by decide),⟨m,rfl⟩,b,c⟩
  |letters S=>obtain⟨g,a,b,c⟩:=j2.ex;exact⟨p,g,_,w9 P 14 rfl,a.mono (by decide),⟨S,rfl⟩,b,c⟩
  |on a3 d=>
   cases a3
   ·obtain⟨g,a,b,c⟩:=b4.ex;exact⟨k,g,_,w9 P 15 rfl,a.mono (by decide),⟨d,rfl⟩,b,c⟩
   ·obtain⟨g,a,b,c⟩:=b6.ex;exact⟨j,g,_,w9 P 16 rfl,a.mono (by decide),⟨d,rfl⟩,b,c⟩
 have e8:=gOf l.prog w base 9 X G d56 bdA λf g F=>Desk.aWS (n:=8) (Rf:=(R,J)) (bYA X G nD) (bZ5 lD pD P) (bYA X G d58.ns) d58.cl all F;have j4:=gOf l.prog w base 10 X G d57 bdA λf g F=>Desk.aVb (n:=8) (Rf:=(R,J)) j5.up e8.up F;exact Wh.bJF (n:=10) (Rf:=(R,J)) TW b5.up i1.up f0.up e6.up b7.up j4.up Q
end End4
namespace End4
open PySem L2 PyProof.Rows
theorem walk{l:PySem.W.OpenLaw}{q:bW3}{loose:List Str}{o:(Str->Option bWG)->Heap->Prop}{e:bKa->Heap->Prop}{d:DefRec}{K:Params->bWI}{T:Nat}(m:l.most=some 63)(b:d.params.defaults= []) (v:∀ (w:bKa)(h:Heap),e w h->(K w.params).In h) (g:∀ (w:bKa)(h:Heap),e w h->h.get? T=some (cQi #[])) (F:∀ (w:bKa)(mg:Str->Option bWG)(i:Nat)(h:Heap),(K w.params).In h->h.Ns bKd mg->mg d.name=some (.ref i)-> ∃ (j:bYF)(c:Nat),cXl (K w.params) c T=true/\(K w.params).lookup T=none/\(∀ (s:bWJ)(u:bWG),BindsTo s j ⟨[u],[]⟩ [("_law_script",u)])/\∀base:Heap,(K w.params).In base->base.Ns bKd mg->bYK base c T->base.BuiltinsAt mg T->y0 l.prog w (K w.params) mg base CX0 11 i j ["_law_script"] (Wh.bQE T (K w.params))): PySem.W.WalkO q loose o e l.row.toRowW d [] (λf t=>PySem.call f t):=
 L2.bQW (n:=63) (k:=11) (x:="_law_script") (CX:=CX0) (sp:=Wh.bQE) m (by decide) b ⟨rfl,by decide,by decide⟩ v g F (λ_ _ a p hl y r=>⟨a,p,rfl,r,hl,.inl y,λ_=>rfl⟩) λ_ _ _ _ z=>z
end End4
open PySem PySem.W PyProof.Rows
namespace PySem.W.Fast
def tw15116213305628616955:=0
def tw16092126474896725784:=0
def tw16240633891899935611:=0
def tw17646906903776027290:=0
def tw15996969904535668130:=0
def tw1471415000539380127:=0
def tw15156302038873594324:=0
def tw14749068951408004318:=0
def tw6643665373887309703:=0
def tw3120022350230408581:=0
def tw4153342025338324438:=0
def tw16504697963865392377:=0
def tw2624076727495028991:=0
def tw8201160738819880225:=0
def tw1603368368100173611:=0
def tw15429446956672841709:=0
def tw5098557139336145513:=0
def tw17105279529901572554:=0
def tw13520971489548548244:=0
def tw12543958965509056465:=0
def tw1833612680789812551:=0
def tw10795743832280640312:=0
def tw15857569255551106805:=0
def tw13041014546518894793:=0
def tw25598549833256233:=0
def tw3602073438625303578:=0
def tw17745908830519632048:=0
def tw8960322866906256162:=0
def tw6800660759339976291:=0
def tw350587356171444241:=0
def tw12435970454208543432:=0
def tw8302090454574221553:=0
def tw18231012773454887890:=0
def tw2403832033334825869:=0
def tw12179105014077589034:=0
def tw5740149561806118354:=0
def tw16244607779635501107:=0
def tw7943020983276172183:=0
def tw12000722448700486146:=0
def tw13893737163125392055:=0
def tw11002658397469963577:=0
def tw12848751222150434390:=0
def tw12557104029616482718:=0
def tw14396130742988138295:=0
def tw16895335176110590267:=0
def tw2659179581730974461:=0
def tw15565203589101282646:=0
def tw14769793299117250187:=0
def tw629946614719838110:=0
def tw5752503849675802973:=0
def tw2634839265583949792:=0
def tw6298350460133163685:=0
def tw16592789969472460294:=0
def tw10990869731040743534:=0
def tw526798787505089932:=0
def tw9593454699578261970:=0
def tw183326982895485691:=0
def tw8093734036835984812:=0
def tw13415277921457815094:=0
def tw15339919537368550950:=0
def tw12153737710869970379:=0
def tw18176412110093162473:=0
def tw620646518323397204:=0
def tw9474048606960750379:=0
def tw16316094320278126024:=0
def tw15362040808740196425:=0
def tw4790209289900422933:=0
def tw988306621201298896:=0
def tw7213633885362112437:=0
def tw10020644369330931741:=0
def tw809271008773483574:=0
def tw16158407195639714248:=0
def tw1005852116838534327:=0
def tw9531208789424977879:=0
def tw9044096405554114295:=0
def tw4123594409520075058:=0
def tw8489700744333206977:=0
def tw15985764580178366536:=0
def tw4768786741103468838:=0
def tw2133047163806020309:=0
def tw14644433687878377405:=0
def tw13382204957379951525:=0
def tw12448789937451363097:=0
def tw12595909145625171632:=0
def tw3025487160363829053:=0
def tw9970708926589822330:=0
def tw9339071422431642402:=0
def tw8067085437521318818:=0
def tw17548097371707438480:=0
def tw1625151473670249741:=0
def tw10385288835746103496:=0
def tw12516961308801615409:=0
def tw6075845948947327419:=0
def tw8361533049320769645:=0
def tw5588628630017782316:=0
def tw664988074082048055:=0
def tw10556480540398259791:=0
def tw17910646618321637652:=0
def tw7602727531859392854:=0
def tw9205246535507644855:=0
def tw10434487816960245782:=0
def tw6159805010034442195:=0
def tw6434840542619228951:=0
def tw9917721118328116704:=0
def tw5940166410844650983:=0
def tw18293585354668301231:=0
def tw4327045529217600308:=0
def tw9897795417100492494:=0
def tw9815113305389723491:=0
def tw17270416373532711595:=0
def tw15612509591284839811:=0
def tw11629094815128427143:=0
def tw15326648686751925025:=0
def tw9427752644815443169:=0
def tw17947404579673323379:=0
def tw16589634431907542081:=0
def tw11430953035770838555:=0
def tw5745360823657330535:=0
def tw4551428634603820060:=0
def tw1623370090655046842:=0
def tw15178561888680470492:=0
def tw7051158889058529468:=0
def tw10833253367292062847:=0
def tw11511186686983598664:=0
def tw16942682720198053222:=0
def tw5540978091544466344:=0
def tw3035046200666962584:=0
def tw17453164611195893353:=0
def tw8330669061085754967:=0
def tw7869811243438092027:=0
def tw1366843659790249102:=0
def tw6299417229162079650:=0
def tw5848918854641374443:=0
def tw990545175635203186:=0
def tw15704172665914399029:=0
def tw10825700852326100857:=0
def tw16674547796719224438:=0
def tw4823992116787011860:=0
def tw15052696456388579691:=0
def tw5135866658492752081:=0
def tw8217196972079183527:=0
def tw6827272667229720070:=0
def tw2227544062030799690:=0
def tw14665361616426262735:=0
def tw5913164765068316351:=0
def tw9294367437666987919:=0
def tw793916932188508931:=0
def tw2068040594888575505:=0
def tw15529128819061951601:=0
def tw11795212852532230097:=0
def tw11994355621777971473:=0
def tw5361770495729394050:=0
def tw9411213695513180246:=0
def tw10500859488746037195:=0
def tw9388120489742628234:=0
def tw16272569630242240896:=0
def tw16737956975231233690:=0
def tw4405787615634473893:=0
def tw16177787124651079532:=0
def tw13849633338921299831:=0
def tw12916149976318269751:=0
def tw17025519930512438718:=0
def tw12060797797258582832:=0
def tw17180313784669790185:=0
def tw1143653566037112302:=0
def tw1941494334827324354:=0
def tw11938409189425288590:=0
def tw16907079377587572324:=0
def tw3369654773029193368:=0
def tw13420051994210777612:=0
def tw11937572424511415533:=0
def tw15579043721979350611:=0
def tw12649792305274331616:=0
def tw15221264925427623839:=0
def tw13451520895404222156:=0
def tw16387362326140444017:=0
def tw14380994394956838891:=0
def tw5190812286679356543:=0
def tw4679262971897665857:=0
def tw17151523695794351969:=0
def tw10036019919981795627:=0
def tw235397523429680524:=0
def tw6447486376595916308:=0
def tw10270118550794508109:=0
def tw6384345708874563856:=0
def tw9516787822827251233:=0
def tw5587099661005500162:=0
def tw10121196164435130182:=0
def tw11691953781149320960:=0
def tw11519679852447686026:=0
def tw3596219664860776753:=0
def tw2325411376880847863:=0
def tw1188028375998302045:=0
def tw14201686408955248930:=0
def tw14916918158495345136:=0
def tw17456170394059311253:=0
def tw18404719047314794157:=0
def tw5743925740772921451:=0
def tw1832336181749079543:=0
def tw11557353399727310660:=0
def tw7058610019130014791:=0
def tw13858148364572502176:=0
def tw11830532476183712857:=0
end PySem.W.Fast
set_option maxRecDepth 100000 in
set_option maxHeartbeats 0 in
theorem PySem.Challenge.cw_letterdesk_k07_whole_entered_whenever_holds : PySem.Challenge.rw_letterdesk_k07_whole_entered_whenever.Holds := by
 w_on;o_law;k_head;(case hw=>w_witness2);k_fill;refine End4.walk (l:=PySem.Challenge.rw_letterdesk_k07_whole_entered_whenever) rfl rfl (λw h Y=>PySem.W.km_in_of Y) (λw h Y=>PySem.W.km_tabs_of Y _ (bWV ..)) ?F;case F=>
  intro w d c h b G a;refine' End4.all_mk b G a ?d58 ?d59 ?d60 ?d61 ?d62 ?d63 ?d64 ?d65 ?d66 ?d67 ?d68 ?d69 ?d9 ?d24 ?cl ?d10 ?d11 ?d12 ?d13 ?d15 ?d16 ?d17 ?d18 ?d19 ?d20 ?d21 ?d22 ?d23 ?d25 ?d28 ?d29 ?d30 ?d31 ?d32 ?d33 ?d34 ?d35 ?d36 ?d37 ?d38 ?d39 ?d1 ?d2 ?d3 ?d4 ?d5 ?d6 ?d7 ?d8 ?d14 ?d26 ?d27 ?d56 ?d57 ?d70 ?d71 ?d72 ?d73 ?d74 ?d75 ?d76 ?d77 ?d78 ?d40 ?d41 ?d42 ?d43 ?d44 ?d45 ?d46 ?d47 ?d48 ?d49 ?d50 ?d51 ?d52 ?d53 ?d54 ?d55 ?dL ?aA ?lA ?cA1 ?kA ?nD ?lD ?pD ?z_len ?z_min ?z_sum ?z_sorted ?z_isinstance ?z_int ?z_str ?z_bool ?z_list ?z_tuple ?z_set ?z_range ?z_reversed ?z_max ?y_week ?y_open ?tb ?tn;(case d58=>apply End4.bZD<;> first|k_is|kernel_rfl);(case d59=>apply End4.vG<;> first|k_is|kernel_rfl);(case d60=>apply End4.vG<;> first|k_is|kernel_rfl);(case d61=>apply End4.vG<;> first|k_is|kernel_rfl);(case d62=>apply End4.vG<;> first|k_is|kernel_rfl);(case d63=>apply End4.vG<;> first|k_is|kernel_rfl);(case d64=>apply End4.vG<;> first|k_is|kernel_rfl);(case d65=>apply End4.vG<;> first|k_is|kernel_rfl);(case d66=>apply End4.vG<;> first|k_is|kernel_rfl);(case d67=>apply End4.vG<;> first|k_is|kernel_rfl);(case d68=>apply End4.vG<;> first|k_is|kernel_rfl);(case d69=>apply End4.vG<;> first|k_is|kernel_rfl);(case d9=>apply End4.bXc<;> k_is);(case d24=>apply End4.bXc<;> k_is);(case cl=>apply End4.bVE<;> k_is);(case d10=>apply End4.xQ<;> k_is);(case d11=>apply End4.xQ<;> k_is);(case d12=>apply End4.xQ<;> k_is);(case d13=>apply End4.xQ<;> k_is);(case d15=>apply End4.xQ<;> k_is);(case d16=>apply End4.xQ<;> k_is);(case d17=>apply End4.xQ<;> k_is);(case d18=>apply End4.xQ<;> k_is);(case d19=>apply End4.xQ<;> k_is);(case d20=>apply End4.xQ<;> k_is);(case d21=>apply End4.xQ<;> k_is);(case d22=>apply End4.xQ<;> k_is);(case d23=>apply End4.xQ<;> k_is);(case d25=>apply End4.xQ<;> k_is);(case d28=>apply End4.xQ<;> k_is);(case d29=>apply End4.xQ<;> k_is);(case d30=>apply End4.xQ<;> k_is);(case d31=>apply End4.xQ<;> k_is);(case d32=>apply End4.xQ<;> k_is);(case d33=>apply End4.xQ<;> k_is);(case d34=>apply End4.xQ<;> k_is);(case d35=>apply End4.xQ<;> k_is);(case d36=>apply End4.xQ<;> k_is);(case d37=>apply End4.xQ<;> k_is);(case d38=>apply End4.xQ<;> k_is);(case d39=>apply End4.xQ<;> k_is);(case d1=>apply End4.x3<;> k_is);(case d2=>apply End4.x3<;> k_is);(case d3=>apply End4.x3<;> k_is);(case d4=>apply End4.x3<;> k_is);(case d5=>apply End4.x3<;> k_is);(case d6=>apply End4.x3<;> k_is);(case d7=>apply End4.x3<;> k_is);(case d8=>apply End4.x3<;> k_is);(case d14=>apply End4.x3<;> k_is);(case d26=>apply End4.x3<;> k_is);(case d27=>apply End4.x3<;> k_is);(case d56=>apply End4.x3<;> k_is);(case d57=>apply End4.x3<;> k_is);(case d70=>apply End4.x3<;> k_is);(case d71=>apply End4.x3<;> k_is);(case d72=>apply End4.x3<;> k_is);(case d73=>apply End4.x3<;> k_is);(case d74=>apply End4.x3<;> k_is);(case d75=>apply End4.x3<;> k_is);(case d76=>apply End4.x3<;> k_is);(case d77=>apply End4.x3<;> k_is);(case d78=>apply End4.x3<;> k_is);(case d40=>apply End4.xE<;> k_is);(case d41=>apply End4.xE<;> k_is);(case d42=>apply End4.xE<;> k_is);(case d43=>apply End4.xE<;> k_is);(case d44=>apply End4.xE<;> k_is);(case d45=>apply End4.xE<;> k_is);(case d46=>apply End4.xE<;> k_is);(case d47=>apply End4.xE<;> k_is);(case d48=>apply End4.xE<;> k_is);(case d49=>apply End4.xE<;> k_is);(case d50=>apply End4.xE<;> k_is);(case d51=>apply End4.xE<;> k_is);(case d52=>apply End4.xE<;> k_is);(case d53=>apply End4.xE<;> k_is);(case d54=>apply End4.xE<;> k_is);(case d55=>apply End4.xE<;> k_is);(case dL=>apply End4.xE<;> k_is);(case aA=>k_is);(case lA=>k_is);(case cA1=>k_is);(case kA=>k_is);(case nD=>k_is);(case lD=>k_is);(case pD=>exact⟨⟨_,rfl⟩,rfl,rfl,⟨_,rfl⟩,rfl,rfl,⟨_,rfl⟩,rfl,rfl,⟨_,rfl⟩,rfl,rfl,⟨_,rfl⟩,rfl,rfl,⟨_,rfl⟩,rfl,rfl,⟨_,rfl⟩,rfl,rfl,⟨_,rfl⟩,rfl,rfl,⟨_,rfl⟩,rfl,rfl,⟨_,rfl⟩,rfl,rfl,⟨_,rfl⟩,rfl,rfl,⟨_,rfl⟩,rfl,rfl,⟨_,rfl⟩,rfl,rfl,⟨_,rfl⟩,rfl,rfl,⟨_,rfl⟩,rfl,rfl,⟨_,rfl⟩,rfl,rfl,⟨_,rfl⟩,rfl,rfl,bK3⟩);(case z_len=>k_is);(case z_min=>k_is);(case z_sum=>k_is);(case z_sorted=>k_is);(case z_isinstance=>k_is);(case z_int=>k_is);(case z_str=>k_is);(case z_bool=>k_is);(case z_list=>k_is);(case z_tuple=>k_is);(case z_set=>k_is);(case z_range=>k_is);(case z_reversed=>k_is);(case z_max=>k_is);(case y_week=>k_is);(case y_open=>k_is);(case tb=>kernel_rfl);(case tn=>kernel_rfl)
