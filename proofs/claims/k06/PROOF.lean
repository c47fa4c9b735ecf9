import PyProof.Rows.All
import Wide.All
import OpenK.AllK
import Wide.FinOn
import KE.KLam
import KE.KNestM
import KE.KSortTup
import Lean
import OpenK.KCls
import PyProof.CollectWalk
import PyProof.CompMap
import PyProof.DictStraight
import PyProof.EqAt
import PyProof.EqKinds
import PyProof.ExcArgs
import PyProof.ExcBaseAll.Exception
import PyProof.FactsAll.set
import PyProof.FactsBase
import PyProof.InstStoreFacts
import PyProof.ListRange
import PyProof.LongRange
import PyProof.MakeMany
import PyProof.MinMaxWalk
import PyProof.NeKinds
import PyProof.Rows.SetFrom
import PyProof.Rows.SortWalk
import PyProof.SeqI3
import PyProof.SetKind
import PyProof.SetNew
import PyProof.SetScanFacts
import PyProof.StationsW
import PyProof.TupleCall
import PyProof.WalkInts
import PyProof.Walks
import PySem.Challenge.RW_letterdesk_k06_whole_waiting_and_overdue
set_option Elab.async false
set_option linter.all false
set_option maxRecDepth 100000
set_option maxHeartbeats 4000000
open Array renaming length_toList → cQ8, getElem?_eq_getElem → cXe, getElem?_toList → cXk, getElem?_eq_some_iff → cZd, getD → cZg, getElem?_eq_none → cZF, getElem?_extract_of_lt → cJL, getElem?_append_left → cJV, perm_iff_toList_perm → cJW
open Classical renaming choose_spec → cJq
open False renaming elim → cXi
open ForInStep renaming yield → cJv
open Int renaming toNat_natCast → cQm, zero_add → cXV, not_lt → cZB
open List renaming getElem?_eq_getElem → bYK, length_map → bYP, mem_cons → bYU, getElem?_eq_some_iff → bYW, mem_cons_of_mem → bYX, range → bYY, mem_cons_self → bY0, mem_singleton → bY2, mem_of_getElem? → bY3, size_toArray → bY4, getElem?_map → bY5, length_append → bY8, mem_append_right → bY9, getElem?_append_right → cQb, getElem?_eq_none → cQl, mem_range → cQn, mem_append → cQp, getElem?_append_left → cQs, getD → cQv, map_cons → cQy, getElem_of_mem → cQC, length_range → cQE, take_length → cQI, length_cons → cQK, length_filter_le → cQL, take_add_one → cQN, append_nil → cQO, mem_map → cQQ, mem_filter → cQT, toArray → cQU, filter_append → cQW, length_singleton → cQY, length_pos_iff → cQZ, append_assoc → cQ1, length_take → cQ4, map_append → cQ5, pairwise_singleton → cXb, pairwise_cons → cXc, contains_iff_mem → cXm, filter_cons_of_neg → cXr, filter_cons_of_pos → cXs, eq_nil_of_length_eq_zero → cXz, getElem_inj → cXA, lookup_cons → cXB, mem_append_left → cXI, filter_sublist → cXN, getElem?_range → cXO, getElem_mem → cXQ, length → cXT, length_nil → cXW, map_map → cXX, nodup_cons → cXY, ext_getElem? → cX3, any_cons → cX5, lookup → cX6, contains_cons → cX8, find?_cons → cZa, range_succ → cZb, nodup_append → cZe, pairwise_iff_getElem → cZh, replicate → cZj, not_mem_nil → cZm, filterMap_cons → cZv, filter_eq_self → cZw, getElem?_set_self → cZG, all_eq_true → cZU, append_inj' → cZV, nodup_range → cZW, all_cons → cZZ, zip → cJa, pairwise_map → cJg, cons_append → cJn, countP_cons → cJo, forIn_cons → cJw, getElem?_set_ne → cJx, pairwise_append → cJy, map_congr_left → cJH, toList_toArray → cJI, Perm → cJR, filter_congr → cJY, foldl_append → cJZ, getElem?_eq_none_iff → cJ6, length_erase_of_mem → cVb
open List.Nodup renaming mem_erase_iff → cVa
open Nat renaming le_refl → bYS, ne_of_lt → cQc, lt_of_lt_of_le → cQe, le_trans → cQo, zero_le → cQJ, lt_succ_of_lt → cQV, lt_irrefl → cQX, sub_self → cQ7, le_succ_of_le → cXj, not_lt_zero → cXx, lt_succ_self → cXC, le_succ → cXU, le_of_eq → cZn, le_of_lt → cZo, ne_of_gt → cZp, lt_or_ge → cZN
open Ne renaming symm → cQu
open Option.some renaming inj → bY6, injEq → cJ0
open PyProof.Rows renaming seqObj → cQB, envOfC → cXJ, IntsAre → cZi, get?_update_seq → cZD, IsTup → cZJ, callWith_type1 → cZQ, listUpdate_at → cZ1, entry_list_sort → cJM, args_list_sort → cJT, slot_list_sort → cJU
open PyProof.Rows.F renaming plain_set_update_loop → cX9, entry_set_update_loop → cJb
open PyProof.Rows.IntsAre renaming int_at → cJS
open PySem renaming Value → bYL, wpAny_bind → bYN, Shared → bYO, wpAny_pure → bYR, wpAny → bYT, model → bYV, Program → bY7, sizeLine → cQd, World → cQf, mainGlobals → cQj, sizeLine_eq → cQk, starEach → cQr, Around → cQt, bootBuiltins → cQw, Paired → cQA, wpAny_mono → cQP, rawInt → cQ3, wpAny_holding → cQ6, mem_of_lookup → cXg, compareOp → cXh, backTo → cXp, wpAny_Call_Name_kw → cXq, SetTable → cXw, Builtin → cXy, codeAny_mono → cXE, wpAny_call_entry → cXF, FuncData → cXK, wpAny_newObj_type → cXL, wpAny_truthy_bool → cXM, wpAny_setField → cXS, Scope → cX1, codeAny_builtin → cX2, codeAny → cX4, keywordEach → cX7, wpAny_passesOwn → cZc, wpAny_setState_of → cZf, binaryOp → cZs, bindArgs → cZt, wpAny_askSetting → cZu, wpAny_setEntries_of → cZx, wpAny_callSpecial?_slot → cZy, attributeBase → cZz, behindInMarks → cZA, sysModules → cZE, NameKind → cZH, isSubtype → cZR, pickOrder → cZS, setFlight → cZT, backToKw → cZX, wpAny_call → cZY, plainId_quiet → cZ2, wpAny_attempt → cZ3, wpAny_newList → cZ4, holding → cZ5, sliceBounds → cZ6, valueAt → cZ7, getMethod → cJd, noteFrame → cJe, scanBound → cJf, wpAny_standAt → cJm, builtinLookup_eq_fast → cJt, plainObj_wpAny_Assign_Attribute → cJu, assignEach → cJA, codeAny_call_builtin → cJB, isInstance → cJC, letOwnedTupleGo → cJD, wpAny_execs_nil → cJE, wpAny_ite_split → cJF, wpAny_fieldsOf → cJO, fits_of_scanBound → cJ3, foldedSetIterable → cJ4, wpAny_pyIter_list → cJ5, wpAny_comprehension_free → cVd
open PySem.Around renaming under_plainId → cXH
open PySem.Builtin.List renaming listExtendWith → cZP, listTooLong → cZ9, listLengthHint → cJP, listSameRef → cJ9
open PySem.Calls renaming call_function_entry → cZ8, Name_function_global → cJX
open PySem.Code renaming quiet_builtin → cJQ
open PySem.F renaming plainAttrs_list → cQa, slot_list_append → cQh, type_list_append → cQi, called_set → cXD, slot_list_pop → cJr, type_list_pop → cJs, excBase_Exception → cJ7, plain_extend_loop → cJ8, args_tuple_add_2 → cVc
open PySem.Heap renaming get?_push_of_some → bYQ, lt_size → bYZ, get?_push_size → cQg, get?_update_other → cQq, get?_update_self → cQS, size_push → cXl, SameBut → cXP, ExtBut → cJl, get?_update_ne → cJG
open PySem.Heap.SameBut renaming update → cXf
open PySem.Obj renaming mapSeq → cQF, mapFields → cQ2, isFreed_of_fields → cXa, data_mapFields → cXd
open PySem.Paired renaming length → cXt, snoc → cZI
open PySem.PassesOwn renaming never → cQz
open PySem.SeqAt renaming EqAt → cVf
open PySem.SetTable renaming below → cQM, grown → cZl, insertAt → cZM
open PySem.SetTable.below renaming go → cZL
open PySem.SetTable.probe renaming go → cJ2
open PySem.Str renaming ofString → cJc
open PySem.W renaming Frag → bYM, mg_none_of → bY1, findIn → cQx, kitOne → cQD, nsIn → cQG, keepIn → cQH, fnOf → cQR, katRev → cQ0, kia_one → cXn, kia_tup → cXo, codeIn → cXu, emptyDict → cXv, mg_of → cXG, CodeHd → cXR, instObj → cXZ, kla_obj → cX0, tabObj → cZk, isFn → cZq, plainGet → cZr, callWith_K → cZC, hasDictIn → cZK, methodCall_KW → cZO, mroIn → cZ0, kitx_dict → cJh, kitx_list → cJi, plainOver → cJj, specialIn → cJk, codeHdIn → cJp, callWith_K0 → cJJ, plainGet_of → cJK, lookIn → cJN, methodObj → cJ1, KatTups → cVe
open PySem.W.KatTups renaming cons → cJz
open True renaming intro → cQ9
theorem dk {p:Prop}[Decidable p](h:decide p=true:=by decide +kernel):p:=of_decide_eq_true h
namespace L2
open PySem PySem.Spec PyProof.Rows
abbrev Key:=Sum Int Str
def aWI:Key->bYL->Bool
 |.inl k,v=>Value.isInt k v
 |.inr x,v=>Value.isStrOf x v
def bYw(w:cQf):Key->Int
 |.inl k=>hashInt k
 |.inr x=>hashStr w x
def zB:∀ {k:Key} {v:bYL},aWI k v=true->(∃i t,k=Sum.inl i/\v=Value.int i t)\/(∃x t,k=Sum.inr x/\v=Value.str x t)
 |.inl i,v,h=>by obtain⟨t,e⟩:=Value.isInt_shape (k:=i) (v:=v) h;exact .inl ⟨i,t,rfl,e⟩
 |.inr x,v,h=>by obtain⟨t,e⟩:=Value.isStrOf_shape (x:=x) (v:=v) h;exact .inr ⟨x,t,rfl,e⟩
def aYf(i:Int)(t:Tok):aWI (.inl i) (.int i t)=true:=by simp[aWI,Value.isInt]
def aYg(x:Str)(t:Tok):aWI (.inr x) (.str x t)=true:=by simp[aWI,Value.isStrOf]
def bWG(a b:Int):decide ((Sum.inl a:Key)=Sum.inl b)=(a==b):=by
 by_cases e:a=b
 ·subst e;simp
 ·have h:¬ (Sum.inl a:Key)=Sum.inl b:=λq=>e (Sum.inl.inj q);rw[decide_eq_false h];exact(beq_eq_false_iff_ne.mpr e).symm
def bWJ(a b:Str):decide ((Sum.inr a:Key)=Sum.inr b)=decide (a=b):=by
 by_cases e:a=b
 ·subst e;simp
 ·have h:¬ (Sum.inr a:Key)=Sum.inr b:=λq=>e (Sum.inr.inj q);rw[decide_eq_false h,decide_eq_false e]
def bWH(a:Int)(b:Str):decide ((Sum.inl a:Key)=Sum.inr b)=false:=decide_eq_false (λq=>nomatch q)
def bWI(a:Str)(b:Int):decide ((Sum.inr a:Key)=Sum.inl b)=false:=decide_eq_false (λq=>nomatch q)
def zD(prog:bY7)(w:cQf):PySem.KeyKind prog w Key where
 is:=aWI
 hash:=bYw w
 inj:=λv a b ha hb=>by
  rcases zB ha with⟨i,t,rfl,rfl⟩|⟨x,t,rfl,rfl⟩
  ·rcases zB hb with⟨j,u,rfl,e⟩|⟨y,u,rfl,e⟩
   ·injection e with e1 _;rw[e1]
   ·exact nomatch e
  ·rcases zB hb with⟨j,u,rfl,e⟩|⟨y,u,rfl,e⟩
   ·exact nomatch e
   ·injection e with e1 _;rw[e1]
 byValue:=λk v h=>by
  rcases zB h with⟨i,t,rfl,rfl⟩|⟨x,t,rfl,rfl⟩<;> rfl
 pyHash:=λhv h=>by
  rcases zB hv with⟨i,t,rfl,rfl⟩|⟨x,t,rfl,rfl⟩
  ·exact wpAny_pyHash_int h
  ·exact wpAny_pyHash_str h
 eqBool:=λhu hv h=>by
  rcases zB hu with⟨i,t,rfl,rfl⟩|⟨x,t,rfl,rfl⟩
  ·rcases zB hv with⟨j,u,rfl,rfl⟩|⟨y,u,rfl,rfl⟩
   ·rw[bWG]at h;exact wpAny_eqBool_int h
   ·rw[bWH]at h;exact SeqAt.EqAt.int_str i t y u _ _ _ _ h
  ·rcases zB hv with⟨j,u,rfl,rfl⟩|⟨y,u,rfl,rfl⟩
   ·rw[bWI]at h;exact SeqAt.EqAt.str_int x t j u _ _ _ _ h
   ·rw[bWJ]at h;exact wpAny_eqBool_str h
 «strs»:=λk x t v h=>by
  rcases zB h with⟨i,u,rfl,e⟩|⟨y,u,rfl,e⟩
  ·exact nomatch e
  ·injection e with e1 _
   subst e1
   cases v<;> rfl
def aJL(prog:bY7)(w:cQf)(i:Int)(t:Tok):(zD prog w).is (.inl i) (.int i t)=true:=aYf i t
def qJ(prog:bY7)(w:cQf)(x:Str)(t:Tok):(zD prog w).is (.inr x) (.str x t)=true:=aYg x t
end L2
namespace L2
open PySem PySem.Spec PyProof.Rows
inductive V where
 |non|bl (b:Bool)|int (i:Int)|str (x:Str)|byt (b:Array UInt8)|flt (b:UInt64)|ref (a:Addr)|ty (n:String)
 deriving DecidableEq
def zO:V->bYL->Prop
 |.non,u=>u=Value.none
 |.bl b,u=>u=Value.bool b
 |.int i,u=>∃t,u=Value.int i t
 |.str x,u=>∃t,u=Value.str x t
 |.byt b,u=>∃t,u=Value.bytes b t
 |.flt b,u=>∃t,u=Value.float b t
 |.ref a,u=>u=Value.ref a
 |.ty n,u=>u=Value.type n
abbrev xW:List V->List bYL->Prop:=cQA zO
def xW.length{xs:List V}{us:List bYL}(r:xW xs us):xs.length=us.length:=cXt r
def xW.get:∀ {xs:List V} {us:List bYL} {i:Nat} {x:V},xW xs us->xs[i]? =some x->∃u,us[i]? =some u/\zO x u
 |_,_,_,_,.nil,e=>by simp at e
 |_,_,0,_,.cons r _,e=>by simp at e;subst e;exact⟨_,rfl,r⟩
 |_,_,i+1,x,.cons _ t,e=>by obtain⟨u,h1,h2⟩:=xW.get (i:=i) (x:=x) t (by simpa using e);exact⟨u,by simpa using h1,h2⟩
def xW.set{x:V}{u:bYL}(r:zO x u):∀ {xs:List V} {us:List bYL} (i:Nat),xW xs us->xW (xs.set i x) (us.set i u)
 |_,_,_,.nil=> .nil
 |_,_,0,.cons _ t=> .cons r t
 |_,_,i+1,.cons q t=> .cons q (xW.set r i t)
def xW.append:∀ {xs ys:List V} {us a:List bYL},xW xs us->xW ys a->xW (xs++ys) (us++a)
 |_,_,_,_,.nil,s=>s
 |_,_,_,_,.cons r t,s=> .cons r (xW.append t s)
def xW.take:∀ {xs:List V} {us:List bYL} (n:Nat),xW xs us->xW (xs.take n) (us.take n)
 |_,_,0,_=> .nil
 |_,_,_+1,.nil=> .nil
 |_,_,n+1,.cons r t=> .cons r (xW.take n t)
def xW.drop:∀ {xs:List V} {us:List bYL} (n:Nat),xW xs us->xW (xs.drop n) (us.drop n)
 |_,_,0,r=>r
 |_,_,_+1,.nil=> .nil
 |_,_,n+1,.cons _ t=>xW.drop n t
def aZh:Option V->Option bYL->Prop
 |some v,some u=>zO v u
 |none,none=>True
 |_,_=>False
def KV{κ:Type}:List (κ×V)->List (κ×bYL)->Prop:=cQA λ(p:κ×V)(q:κ×bYL)=>p.1=q.1/\zO p.2 q.2
def kV:Key->V
 |.inl i=> .int i
 |.inr x=> .str x
inductive HO where
 |lst (xs:List V)
 |tup (xs:List V)
 |dK (kvs:List (Key×V))|dT (kvs:List (List Key×V))
 |set (S:Int->Bool) (n:Nat)
 |ins (C dx:Addr) (fs:List (Str×V))
 |own (x:Addr)
 |xd (fs:List (Str×V))
 |met (f x:Addr)
 |rng (lo hi:Int)
 |frz (o:Obj) (u:HO)
 |tbl (ps:Array bYL)
 |ext (φ:Heap->Prop)
abbrev Hp:=Addr->Option HO
def upd(H:Hp)(a:Addr)(o:HO):Hp:=λb=>if b=a then some o else H b
def yB{H:Hp}{a:Addr}{o:HO}:upd H a o a=some o:=by unfold upd;rw[if_pos rfl]
def yI{H:Hp}{a b:Addr}{o:HO}(h:b≠a):upd H a o b=H b:=by unfold upd;rw[if_neg h]
def jD{H:Hp}{a:Addr}{o u:HO}:upd (upd H a o) a u=upd H a u:=by
 funext b;unfold upd;split<;> rfl
def aXc{H:Hp}{a b:Addr}{o u:HO}(h:H a=some o)(h':H b=some u)(d:o≠u):a≠b:=by
 intro e;subst e;rw[h]at h';exact d (bY6 h')
def yJ{H:Hp}{a b:Addr}{o:HO}(h:H a=some o)(h':H b=none):a≠b:=by
 intro e;subst e;rw[h]at h';cases h'
section
variable (P:bY7)(w:cQf)
def zH(H:Hp)(h:Heap)(a:Addr):HO->Prop
 |.lst xs=>xs.length<=cQd/\∃ (c:List bYL)(n:Nat),xW xs c/\h.get? a=some {cls:= .type "list",data:= .seq c.toArray n}
 |.tup xs=>xs.length<=cQd/\∃c:List bYL,xW xs c/\cZJ h a c.toArray
 |.dK b=>b.length<=cQd/\(a==cZE)=false/\∃d,KV b d/\h.DictOf (zD P w) a d
 |.dT b=>b.length<=cQd/\(a==cZE)=false/\∃xs:List (List Key×Addr×bYL),
   cQA (λ(p:List Key×V)(q:List Key×Addr×bYL)=>p.1=q.1/\H q.2.1=some (.tup (p.1.map kV))/\zO p.2 q.2.2) b xs/\
   ∃o es e,h.get? a=some o/\o.ExactDict/\o.data= .dict es e/\es.toList=xs.map (entryOfKey (tupleKind (zD P w)))/\(xs.map (·.1)).Nodup
 |.set S n=>h.SetOf (intKind P w) a S n
 |.ins C dx fs=>H dx=some (.own a)/\fs.length<=1000/\dx≠a/\h.get? a=some (cXZ C dx)/\
   ∃mA,h.Ns1 dx mA/\(∀f,aZh (fs.lookup f) (mA f))/\PySem.Within mA (fs.map (·.1))
 |.own _=>∃o,h.get? a=some o
 |.xd fs=>∃mA,h.Ns1 a mA/\∀f,aZh (fs.lookup f) (mA f)
 |.rng lo hi=>∃t u v,h.get? a=some {cls:= .type "range",data:= .fields #[.int lo t,.int hi u,.int 1 v] }
 |.frz o u=>h.get? a=some o/\zH H h a u
 |.tbl ps=>h.get? a=some {cls:= .none,data:= .fields ps}
 |.met f x=>h.get? a=some (cJ1 (.ref f) (.ref x))
 |.ext φ=>φ h/\(∃o,h.get? a=some o)/\∀h1 h2:Heap,φ h1->(∀o,h1.get? a=some o->h2.get? a=some o)->φ h2
def HOk(H:Hp)(h:Heap):Prop:=∀a o,H a=some o->zH P w H h a o
end
section
variable {P:bY7}{w:cQf}{H H':Hp}{h h':Heap}{a:Addr}{o:HO}
def zH.lt(x:zH P w H h a o):a<h.objs.size:=by
 cases o with
 |lst xs=>obtain⟨_,_,_,_,e⟩:=x;exact bYZ e
 |tup xs=>obtain⟨_,_,_,p⟩:=x;exact p.lt
 |dK b=>obtain⟨_,_,_,_,o,_,_,e,_⟩:=x;exact bYZ e
 |dT b=>obtain⟨_,_,_,_,o,_,_,e,_⟩:=x;exact bYZ e
 |set S n=>obtain⟨o,_,_,_,e,_⟩:=x;exact bYZ e
 |ins C dx fs=>obtain⟨_,_,_,e,_⟩:=x;exact bYZ e
 |own y=>obtain⟨_,e⟩:=x;exact bYZ e
 |xd fs=>obtain⟨_,⟨_,_,_,e,_⟩,_⟩:=x;exact bYZ e
 |rng lo hi=>obtain⟨_,_,_,e⟩:=x;exact bYZ e
 |frz c u=>obtain⟨e,_⟩:=x;exact bYZ e
 |tbl ps=>exact bYZ (show h.get? a=some _ from x)
 |met f y=>exact bYZ (show h.get? a=some _ from x)
 |ext φ=>obtain⟨_,⟨_,e⟩,_⟩:=x;exact bYZ e
def Paired.mapP{α β:Type}{F G:α->β->Prop}:∀ {d:List α} {c:List β},cQA F d c->(∀a b,F a b->G a b)->cQA G d c
 |_,_,.nil,_=> .nil
 |_,_,.cons r t,f=> .cons (f _ _ r) (Paired.mapP t f)
def zH.stay(x:zH P w H h a o)(k:∀b u,(b=a\/H b=some (.own a))->h.get? b=some u->h'.get? b=some u) (E:∀b,H b=some (.own a)->H' b=some (.own a)) (A:∀b xs,H b=some (.tup xs)->H' b=some (.tup xs)):zH P w H' h' a o:=by
 induction o with
 |lst xs=>obtain⟨z,j,n,r,e⟩:=x;exact⟨z,j,n,r,k _ _ (.inl rfl) e⟩
 |tup xs=>obtain⟨z,j,r,g,e,c⟩:=x;exact⟨z,j,r,g,k _ _ (.inl rfl) e,c⟩
 |dK m=>obtain⟨z,y,s,r,g,es,i,e,c⟩:=x;exact⟨z,y,s,r,g,es,i,k _ _ (.inl rfl) e,c⟩
 |dT m=>obtain⟨z,y,xs,r,g,es,i,e,c⟩:=x;exact⟨z,y,xs,Paired.mapP r λp q z=>⟨z.1,A _ _ z.2.1,z.2.2⟩,g,es,i,k _ _ (.inl rfl) e,c⟩
 |set S n=>obtain⟨g,es,i,t,e,c⟩:=x;exact⟨g,es,i,t,k _ _ (.inl rfl) e,c⟩
 |ins C dx fs=>obtain⟨d,z,ne,e,mA,⟨l,es,i,D,c⟩,r⟩:=x;exact⟨E _ d,z,ne,k _ _ (.inl rfl) e,mA,⟨l,es,i,k _ _ (.inr d) D,c⟩,r⟩
 |own y=>obtain⟨g,e⟩:=x;exact⟨g,k _ _ (.inl rfl) e⟩
 |xd fs=>obtain⟨mA,⟨l,es,i,e,c⟩,r⟩:=x;exact⟨mA,⟨l,es,i,k _ _ (.inl rfl) e,c⟩,r⟩
 |rng lo hi=>obtain⟨t,u,v,e⟩:=x;exact⟨t,u,v,k _ _ (.inl rfl) e⟩
 |frz g u B=>obtain⟨e,q⟩:=x;exact⟨k _ _ (.inl rfl) e,B q⟩
 |tbl ps=>have e:h.get? a=some {cls:= .none,data:= .fields ps}:=x;show h'.get? a=some {cls:= .none,data:= .fields ps};exact k a _ (.inl rfl) e
 |met f y=>have e:h.get? a=some (cJ1 (.ref f) (.ref y)):=x;show h'.get? a=some (cJ1 (.ref f) (.ref y));exact k a _ (.inl rfl) e
 |ext φ=>obtain⟨p,⟨o,e⟩,st⟩:=x;exact⟨st _ _ p λo q=>k _ _ (.inl rfl) q,⟨o,k _ _ (.inl rfl) e⟩,st⟩
def HOk.lt(x:HOk P w H h)(e:H a=some o):a<h.objs.size:=(x a o e).lt
def HOk.fresh(x:HOk P w H h)(e:h.objs.size<=a):H a=none:=by
 cases q:H a with
 |none=>rfl
 |some u=>exact absurd (cQe (x.lt q) e) (cQX _)
def HOk.kept(x:HOk P w H h)(k:∀b u,h.get? b=some u->h'.get? b=some u):HOk P w H h':=λa o e=>
 (x a o e).stay (λb u _ q=>k b u q) (λ_ q=>q) λ_ _ q=>q
def HOk.laid(x:HOk P w H h)(k:∀b u,h.get? b=some u->h'.get? b=some u)(i:h.objs.size<=a)(d:zH P w (upd H a o) h' a o):HOk P w (upd H a o) h':=λb u e=>by
 have f:=x.fresh i;by_cases g:b=a
 ·subst g;rw[yB]at e;cases e;exact d
 ·rw[yI g]at e;exact(x b u e).stay (λc v _ q=>k c v q) (λc q=>by rw[yI (yJ q f)];exact q) λc xs q=>by rw[yI (yJ q f)];exact q
end
def Rd(H:Hp)(a:Addr)(u:HO):Prop:=H a=some u\/∃o,H a=some (.frz o u)
def Rd.ok{P:bY7}{w:cQf}{H:Hp}{h:Heap}{a:Addr}{u:HO}(r:Rd H a u)(x:HOk P w H h):zH P w H h a u:=by
 rcases r with r|⟨o,r⟩
 ·exact x a u r
 ·obtain⟨_,q⟩:=x a _ r;exact q
def Mut:Option HO->Prop
 |some (.lst _)=>True
 |some (.dK _)=>True
 |some (.dT _)=>True
 |some (.set _ _)=>True
 |some (.ins _ _ _)=>True
 |some (.ext _)=>True
 |_=>False
section
variable {P:bY7}{w:cQf}{H:Hp}{h h':Heap}{x e:Addr}{o':HO}
def HOk.write(ok:HOk P w H h)(i:Mut (H x))(o:e=x\/H e=some (.own x))(k:∀b u,b≠e->h.get? b=some u->h'.get? b=some u)(m:∃u,h'.get? e=some u)
  (l:zH P w (upd H x o') h' x o'):HOk P w (upd H x o') h':=λb u q=>by
 have d:∀c y,H c=some (.own y)->c≠x:=λc y r z=>by subst z;rw[r]at i;exact i
 have f:∀c xs,H c=some (.tup xs)->c≠x:=λc xs r z=>by subst z;rw[r]at i;exact i
 by_cases j:b=x
 ·subst j;rw[yB]at q;cases q;exact l
 ·rw[yI j]at q;by_cases a:b=e
  ·have n:H b=some (.own x):=by
    rcases o with z|z
    ·exact absurd (a.trans z) j
    ·rw[a];exact z
   rw[q]at n;cases n;obtain⟨v,p⟩:=m;exact⟨v,by rw[a];exact p⟩
  ·refine(ok b u q).stay (λc v g r=>k c v ?_ r) (λc r=>by rw[yI (d c b r)];exact r) λc xs r=>by rw[yI (f c xs r)];exact r
   rcases g with rfl|g
   ·exact a
   ·rintro rfl;rcases o with z|z
    ·exact d c b g z
    ·rw[g]at z;cases z;exact j rfl
end
structure Un(fs ex:List Addr)(H H':Hp)(h h':Heap):Prop where
 keep:∀b o,h.get? b=some o->H b=none->b∉fs->b∉ex->h'.get? b=some o
 slot:∀b o,h.get? b=some o->H b=none->b∈fs->b∉ex->∃sl,h'.get? b=some {o with slots:=sl}
 free:∀b o,h.get? b=some o->H b=none->b∉ex->H' b=none
 there:∀b o,h.get? b=some o->b∉ex->∃o',h'.get? b=some o'
 tups:∀b xs,H b=some (.tup xs)->H' b=some (.tup xs)
 frzs:∀b o u,H b=some (.frz o u)->H' b=some (.frz o u)
 tbls:∀b ps,H b=some (.tbl ps)->∃more,H' b=some (.tbl (ps++more))
section
variable {fs fs' ex ex':List Addr}{H H1 H2:Hp}{h h1 h2 h':Heap}{a x e:Addr}{o:HO}
def Un.any(u:Un fs ex H H1 h h1){b:Addr}{a:Obj}(q:h.get? b=some a)(n:H b=none)(c:b∉ex):∃e,h1.get? b=some {a with slots:=e}:=by
 by_cases d:b∈fs
 ·exact u.slot b a q n d c
 ·exact⟨a.slots,u.keep b a q n d c⟩
def Un.kept(k:∀b u,h.get? b=some u->h'.get? b=some u):Un fs ex H H h h':=
 ⟨λb a q _ _ _=>k b a q,λb a q _ _ _=>⟨a.slots,k b a q⟩,λ_ _ _ n _=>n,λb a q _=>⟨a,k b a q⟩,λ_ _ q=>q,λ_ _ _ q=>q,λ_ ps q=>⟨#[],by rw[q];simp⟩⟩
def Un.refl:Un fs ex H H h h:=Un.kept λ_ _ q=>q
def Un.laid(k:∀b u,h.get? b=some u->h'.get? b=some u)(hp:h.objs.size<=a)(hn:H a=none):Un fs ex H (upd H a o) h h' where
 keep:=λb u q _ _ _=>k b u q
 slot:=λb u q _ _ _=>⟨u.slots,k b u q⟩
 free:=λb u q n _=>by rw[yI (cQc (cQe (bYZ q) hp))];exact n
 there:=λb u q _=>⟨u,k b u q⟩
 tups:=λb xs q=>by rw[yI (yJ q hn)];exact q
 frzs:=λb u xs q=>by rw[yI (yJ q hn)];exact q
 tbls:=λb ps q=>⟨#[],by rw[yI (yJ q hn),q];simp⟩
def Un.write(c:Mut (H x))(j:e=x\/H e=some (.own x))(k:∀b u,b≠e->h.get? b=some u->h'.get? b=some u)(f:∃u,h'.get? e=some u):Un fs ex H (upd H x o) h h':=by
 have g:∀b,H b=none->b≠x:=λb n z=>by subst z;rw[n]at c;exact c
 have i:∀b,H b=none->b≠e:=λb n z=>by
  subst z;rcases j with r|r
  ·exact g b n r
  ·rw[n]at r;cases r
 have d:∀b u,H b=some u->¬Mut (some u)->b≠x:=λb u q nm z=>by subst z;rw[q]at c;exact nm c
 refine⟨λb u q n _ _=>k b u (i b n) q,λb u q n _ _=>⟨u.slots,k b u (i b n) q⟩,λb u q n _=>by rw[yI (g b n)];exact n,λb u q _=>?_,
  λb xs q=>by rw[yI (d b _ q λz=>z)];exact q,λb u xs q=>by rw[yI (d b _ q λz=>z)];exact q,λb ps q=>⟨#[],by rw[yI (d b _ q λz=>z),q];simp⟩⟩
 by_cases a:b=e
 ·subst a;exact f
 ·exact⟨u,k b u a q⟩
end
def trk(h:Heap)(H:Hp):List Addr:=(bYY h.objs.size).filter λa=>(H a).isSome
def aK9(h:Heap)(H:Hp):Heap:=PySem.W.hideAll h (trk h H)
def aYa(h:Heap)(H:Hp):(aK9 h H).objs.size=h.objs.size:=PySem.W.hideAll_size _ _
def bXo{h:Heap}{H:Hp}{b:Addr}{o:Obj}(e:h.get? b=some o)(n:H b=none):(aK9 h H).get? b=some o:=
 PySem.W.hideAll_get _ e λa=>by have q:(H b).isSome=true:=(cQT.mp a).2;rw[n]at q;simp at q
def bJ7{h:Heap}{H:Hp}{b:Addr}{o:Obj}(e:(aK9 h H).get? b=some o):h.get? b=some o/\H b=none:=by
 have a:h.get? b=some o:=PySem.W.of_hideAll (trk h H) e;refine⟨a,?_⟩;cases q:H b with
 |none=>rfl
 |some x=>have c:b∈trk h H:=cQT.mpr ⟨cQn.mpr (bYZ a),by simp[q]⟩;have z:(aK9 h H).get? b=none:=PySem.W.hideAll_none (trk h H) c;rw[z]at e;cases e
def bJG(g h:Heap)(L:Addr):List (Addr×Obj):=(bYY h.objs.size).filterMap λa=>if a=L\/(g.get? a).isSome=true then none else(h.get? a).map λo=>(a,o)
def jX(g h:Heap)(L d:Addr):List (Addr×Obj):=(bJG g h L).filter λp=>decide (p.1≠d)
end L2
namespace L2
open PySem PySem.Spec PyProof.Rows
structure Mod(K:bYM)(mg:Str->Option bYL)(base:Heap):Prop where
 kin:K.In base
 glob:base.Ns cQj mg
 blt:∃mb,base.Ns builtinsNs mb/\∀x:Str,x≠"__name__"->mb x=cQw x
 nolimit:base.NoLimit
structure Cx where
 prog:bY7
 w:cQf
 K:bYM
 mg:Str->Option bYL
 base:Heap
 A:cQt
 N:List Str
 s₀:bYO
 H₀:Hp
 env:Env
 outer:List Env
 stack:List Env
 ex:List Addr
 fn:Str->Bool
 calm:Bool
 pn:List (Addr×Obj)
 xe:bYL->bYO->Prop
def frs(l:List Env):List Addr:=l.filterMap (·.frame)
abbrev Cx.fs(X:Cx):List Addr:=frs X.outer
def Vis(a:cX1)(x:Str):Prop:=a.names.lookup x=some .local\/a.names.lookup x=some .cell\/a.names.lookup x=some .free
def Loc(a:cX1)(x:Str):Prop:=a.names.lookup x=some .local\/a.names.lookup x=some .cell
def bYr(env:Env)(h:Heap)(m:Str->Option bYL)(x:Str)(u:bYL):Prop:=
 (env.kindOf x=some .local/\m x=some u)\/((env.kindOf x=some .cell\/env.kindOf x=some .free)/\∃c,env.cells.lookup x=some c/\h.IsCell c (some u))
structure Cx.Ok(X:Cx):Prop where
 mod:Mod X.K X.mg X.base
 kind:X.env.scope.kind= .function
 glob:X.env.globals=cQj
 blt:X.env.builtins=builtinsNs
 above:X.s₀.heap.objs.size<=X.env.locals
 inj:∀x y c,X.env.cells.lookup x=some c->X.env.cells.lookup y=some c->x=y
 has:∀x,(X.env.kindOf x=some .cell\/X.env.kindOf x=some .free)->∃c,X.env.cells.lookup x=some c
 cab:∀x c,X.fn x=true->X.env.cells.lookup x=some c->X.s₀.heap.objs.size<=c
 hd:X.calm=true->X.A.handled=none
 frames:X.A.frames=some X.stack
 stk:X.stack=X.outer\/(X.stack=X.env::X.outer/\X.env.frame=some X.env.locals)
 exf:∀b∈X.ex,b≠X.env.locals/\∀x c,X.env.cells.lookup x=some c->c≠b
 bs:∀b o,X.base.get? b=some o->X.s₀.heap.get? b=some o/\X.H₀ b=none
 bsz:X.base.objs.size<=X.s₀.heap.objs.size
 noex:∀b o,X.base.get? b=some o->b∉X.ex
 exfs:∀b∈X.ex,b∉X.fs
 funs:X.s₀.heap.FunFrames X.base X.outer
 frf:∀b∈X.fs,X.H₀ b=none
structure Inv(X:Cx)(pins:List (Addr×Obj))(σ:List (Option V))(H:Hp)(s:bYO):Prop where
 ok:X.Ok
 os:s.os=X.s₀.os
 bare:AllBare s.gens
 base:Un X.fs X.ex X.H₀ H X.s₀.heap s.heap
 loc:∃m,s.heap.Ns X.env.locals m/\∀ (i:Nat)(x:Str)(v:V),X.N[i]? =some x->σ[i]? =some (some v)->Vis X.env.scope x->∃u,zO v u/\bYr X.env s.heap m x u
 cell:∀x c,X.env.cells.lookup x=some c->∃v,s.heap.IsCell c v
 free:H X.env.locals=none
 freeC:∀x c,X.env.cells.lookup x=some c->H c=none
 pin:∀p∈X.pn++pins,s.heap.get? p.1=some p.2/\H p.1=none/\p.1≠X.env.locals/\p.1∉X.fs/\∀v,p.2.data≠ .cell v
 hok:HOk X.prog X.w H s.heap
 len:σ.length=X.N.length
section
variable {X:Cx}{pins:List (Addr×Obj)}{σ:List (Option V)}{H H':Hp}{s:bYO}{h':Heap}
def Cx.Ok.nofr(ok:X.Ok){b:Addr}{o:Obj}(e:X.base.get? b=some o):b∉X.fs:=λa=>by
 have:=(ok.funs.mem a).1;rw[e]at this;cases this
def Inv.bs(I:Inv X pins σ H s):∀b o,X.base.get? b=some o->s.heap.get? b=some o/\H b=none:=λb o e=>
 ⟨I.base.keep b o (I.ok.bs b o e).1 (I.ok.bs b o e).2 (I.ok.nofr e) (I.ok.noex b o e),I.base.free b o (I.ok.bs b o e).1 (I.ok.bs b o e).2 (I.ok.noex b o e)⟩
def Inv.bk(I:Inv X pins σ H s):∀b o,X.base.get? b=some o->s.heap.get? b=some o:=λb o e=>(I.bs b o e).1
def Inv.mod(I:Inv X pins σ H s):Mod X.K X.mg X.base:=I.ok.mod
def Inv.kIn(I:Inv X pins σ H s):X.K.In s.heap:=I.ok.mod.kin.keeps I.bk
def Inv.nolimit(I:Inv X pins σ H s):s.heap.NoLimit:=I.ok.mod.nolimit.keeps I.bk
def Inv.lt(I:Inv X pins σ H s):X.env.locals<s.heap.objs.size:=let ⟨_,hn,_⟩:=I.loc;hn.lt
def Inv.sz(I:Inv X pins σ H s):X.s₀.heap.objs.size<=s.heap.objs.size:=cQo I.ok.above (cZo I.lt)
def Inv.nofs(I:Inv X pins σ H s){a:Addr}(h:s.heap.objs.size<=a):a∉X.fs:=λb=>by
 obtain⟨_,o,c,_⟩:=I.ok.funs.mem b;exact absurd (cQe (bYZ c) (cQo I.sz h)) (cQX _)
def Inv.cne(I:Inv X pins σ H s):∀x c,X.env.cells.lookup x=some c->c≠X.env.locals:=λx c e z=>by
 obtain⟨v,o,f,d⟩:=I.cell x c e;obtain⟨m,⟨o',es,g,a,b,_⟩,_⟩:=I.loc;rw[z,a]at f;cases f;rw[b]at d;cases d
def Inv.funs(I:Inv X pins σ H s):s.heap.FunFrames X.base X.outer:=by
 have all:∀ (l:List Env),(∀b∈frs l,b∈X.fs)->X.s₀.heap.FunFrames X.base l->s.heap.FunFrames X.base l:=by
  intro l;induction l with
  |nil=>intro _ _;trivial
  |cons env r j=>intro f hl;obtain⟨g,⟨L,o,c,h,m,k⟩,i⟩:=hl;have d:L∈X.fs:=f L (by unfold frs;rw[cZv,c];exact bY0);obtain⟨n,e⟩:=I.base.slot L o m (I.ok.frf L d) d λz=>I.ok.exfs L z d;exact⟨g,⟨L,_,c,h,e,k⟩,j (λb a=>f b (by unfold frs;rw[cZv,c];exact bYX _ a)) i⟩
 exact all X.outer (λ_ a=>a) I.ok.funs
def Inv.stack(I:Inv X pins σ H s):s.heap.FunFrames X.base X.stack:=by
 rcases I.ok.stk with e|⟨e,b⟩
 ·rw[e];exact I.funs
 ·rw[e];obtain⟨m,a,_⟩:=I.loc;refine .cons (by rw[I.ok.kind];decide) b a ?_ I.funs;exact Heap.get?_none_of_le (cQo I.ok.bsz I.ok.above)
def Inv.stkSub(I:Inv X pins σ H s):∀b∈frs X.stack,b∈X.env.locals::X.fs:=λb a=>by
 rcases I.ok.stk with e|⟨e,c⟩
 ·rw[e]at a;exact bYX _ a
 ·rw[e]at a;unfold frs at a;rw[cZv,c]at a;exact a
def Inv.stkFree(I:Inv X pins σ H s):∀b∈frs X.stack,H b=none:=λb a=>by
 rcases bYU.mp (I.stkSub b a)with e|a
 ·rw[e];exact I.free
 ·obtain⟨_,o,c,_⟩:=I.ok.funs.mem a;exact I.base.free b o c (I.ok.frf b a) λz=>I.ok.exfs b z a
def Inv.step{g':Array GenState}{t':Nat}{d':Drawn}{ch:List Addr}(I:Inv X pins σ H s) (h:∀b∈ch,(b∈X.ex\/X.s₀.heap.objs.size<=b)/\b≠X.env.locals/\(∀x c,X.env.cells.lookup x=some c->c≠b)/\∀p∈X.pn++pins,p.1≠b) (keep:∀b o,b≠X.env.locals->b∉X.fs->b∉ch->s.heap.get? b=some o->H b=none->h'.get? b=some o) (A:∀b o,b≠X.env.locals->b∈X.fs->b∉ch->s.heap.get? b=some o->H b=none->∃K,h'.get? b=some {o with slots:=K}) (f:∀b o,b∉ch->s.heap.get? b=some o->H b=none->H' b=none) (there:∀b o,b∉ch->s.heap.get? b=some o->∃o',h'.get? b=some o') (D:∀b xs,H b=some (.tup xs)->H' b=some (.tup xs)) (G:∀b o u,H b=some (.frz o u)->H' b=some (.frz o u)) (J:∀b ps,H b=some (.tbl ps)->∃more,H' b=some (.tbl (ps++more))) (W:∀m,s.heap.Ns X.env.locals m->h'.Ns X.env.locals m) (L:HOk X.prog X.w H' h') (T:AllBare g'): Inv X pins σ H' {s with heap:=h',gens:=g',drawn:=d',toks:=t'}:=by
 have E:∀b o,X.s₀.heap.get? b=some o->b≠X.env.locals:=λb o e=>cQc (cQe (bYZ e) I.ok.above);have t:∀b o,X.s₀.heap.get? b=some o->b∉X.ex->b∉ch:=λb o e a B=>by
  rcases(h b B).1 with z|z
  ·exact a z
  ·exact absurd (cQe (bYZ e) z) (cQX _)
 have j:∀x c,X.env.cells.lookup x=some c->∀v,s.heap.IsCell c v->h'.IsCell c v:=λx c e v ⟨o,C,M⟩=>by
  have g:c∉ch:=λz=>(h c z).2.2.1 x c e rfl;by_cases O:c∈X.fs
  ·obtain⟨K,q⟩:=A c o (I.cne x c e) O g C (I.freeC x c e);exact⟨_,q,M⟩
  ·exact⟨o,keep c o (I.cne x c e) O g C (I.freeC x c e),M⟩
 refine⟨I.ok,I.os,T,⟨λb o e n B a=>?_,λb o e n B a=>?_,λb o e n a=>?_,λb o e a=>?_,λb xs e=>D b xs (I.base.tups b xs e),λb o xs e=>G b o xs (I.base.frzs b o xs e),λb ps e=>?_⟩,?_,λx c e=>?_,?_,λx c e=>?_,λp Q=>?_,L,I.len⟩
 ·exact keep b o (E b o e) B (t b o e a) (I.base.keep b o e n B a) (I.base.free b o e n a)
 ·obtain⟨K,y⟩:=I.base.slot b o e n B a;obtain⟨N,F⟩:=A b _ (E b o e) B (t b o e a) y (I.base.free b o e n a);exact⟨N,F⟩
 ·obtain⟨o',y⟩:=I.base.there b o e a;exact f b o' (t b o e a) y (I.base.free b o e n a)
 ·obtain⟨o',y⟩:=I.base.there b o e a;exact there b o' (t b o e a) y
 ·obtain⟨S,y⟩:=I.base.tbls b ps e;obtain⟨U,F⟩:=J b _ y;exact⟨S++U,by rw[F,Array.append_assoc]⟩
 ·obtain⟨m,R,hl⟩:=I.loc;refine⟨m,W m R,λi x v y F V=>?_⟩;obtain⟨u,r,l⟩:=hl i x v y F V;refine⟨u,r,?_⟩;rcases l with l|⟨k,c,e,z⟩
  ·exact .inl l
  ·exact .inr ⟨k,c,e,j x c e _ z⟩
 ·obtain⟨v,z⟩:=I.cell x c e;exact⟨v,j x c e v z⟩
 ·obtain⟨m,⟨o,_,_,C,_⟩,_⟩:=I.loc;exact f _ o (λz=>(h _ z).2.1 rfl) C I.free
 ·obtain⟨v,o,C,M⟩:=I.cell x c e;exact f c o (λz=>(h c z).2.2.1 x c e rfl) C (I.freeC x c e)
 ·obtain⟨e,n,ne,P,d⟩:=I.pin p Q;have g:p.1∉ch:=λz=>(h p.1 z).2.2.2 p Q rfl;exact⟨keep p.1 p.2 ne P g e n,f p.1 p.2 g e n,ne,P,d⟩
def Inv.un{t':Nat}(I:Inv X pins σ H s)(u:Un X.fs [] H H' s.heap h')(f:HOk X.prog X.w H' h'):Inv X pins σ H' {s with heap:=h',toks:=t'}:=by
 obtain⟨m,⟨o,es,p,h,r⟩,_⟩:=id I.loc;obtain⟨l,i⟩:=u.any h I.free (by simp);exact I.step (g':=s.gens) (d':=s.drawn) (ch:= []) (λ_ z=>nomatch z) (λb o _ c _ e n=>u.keep b o e n c (by simp)) (λb o _ c _ e n=>u.slot b o e n c (by simp)) (λb o _ e n=>u.free b o e n (by simp)) (λb o _ e=>u.there b o e (by simp)) u.tups u.frzs u.tbls (λq k=>by
  obtain⟨o',d,g,a,j⟩:=k;rw[h]at a;cases a;exact⟨_,d,g,i,j⟩) f I.bare
def Inv.call{g':Array GenState}{t':Nat}{d':Drawn}{ch:List Addr}(I:Inv X pins σ H s)(u:Un (frs X.stack) ch H H' s.heap h')(h:HOk X.prog X.w H' h')(q:AllBare g') (f:∀b∈ch,(b∈X.ex\/X.s₀.heap.objs.size<=b)/\b≠X.env.locals/\(∀x c,X.env.cells.lookup x=some c->c≠b)/\∀p∈X.pn++pins,p.1≠b): Inv X pins σ H' {s with heap:=h',gens:=g',drawn:=d',toks:=t'}:=by
 obtain⟨m,⟨o,es,A,k,r⟩,_⟩:=id I.loc;obtain⟨y,i⟩:=u.any k I.free λz=>(f _ z).2.1 rfl;exact I.step (ch:=ch) f (λb o i l a e n=>u.keep b o e n (λz=>(bYU.mp (I.stkSub b z)).elim i l) a) (λb o _ _ a e n=>u.any e n a) (λb o a e n=>u.free b o e n a) (λb o a e=>u.there b o e a) u.tups u.frzs u.tbls (λB v=>by
  obtain⟨o',g,j,d,t⟩:=v;rw[k]at d;cases d;exact⟨_,g,j,i,t⟩) h q
def Inv.turned{t':Nat}{it:Addr}(I:Inv X pins σ H s)(k:∀b o,b≠it->s.heap.get? b=some o->h'.get? b=some o)(h:H it=none)(f:it≠X.env.locals) (h1:it∈X.ex\/X.s₀.heap.objs.size<=it) (h2:∀x c,X.env.cells.lookup x=some c->c≠it) (g:∀p∈X.pn++pins,p.1≠it):Inv X pins σ H {s with heap:=h',toks:=t'}:=by
 have d:∀b u,H b=some u->b≠it:=λb u e z=>by rw[z,h]at e;cases e
 refine I.step (g':=s.gens) (d':=s.drawn) (ch:= [it]) (λb i=>?_) (λb o _ _ a e _=>k b o (λz=>a (by simp[z])) e) (λb o _ _ a e _=>⟨o.slots,k b o (λz=>a (by simp[z])) e⟩) (λ_ _ _ _ n=>n)
  (λb o a e=>⟨o,k b o (λz=>a (by simp[z])) e⟩) (λ_ _ e=>e) (λ_ _ _ e=>e) (λb ps e=>⟨#[],by rw[e];simp⟩) (λm l=>?_) (λb u e=>?_) I.bare
 ·have e:b=it:=by simpa using i
  subst e;exact⟨h1,f,h2,g⟩
 ·obtain⟨o,es,j,t,r⟩:=l;exact⟨o,es,j,k _ o (cQu f) t,r⟩
 ·refine(I.hok b u e).stay (λc v a q=>k c v ?_ q) (λ_ q=>q) λ_ _ q=>q;rcases a with z|z
  ·rw[z];exact d b u e
  ·exact d c _ z
def Inv.tok(I:Inv X pins σ H s)(t:Nat):Inv X pins σ H {s with toks:=t}:=I.un (h':=s.heap) (t':=t) Un.refl I.hok
def Inv.kept{t':Nat}(I:Inv X pins σ H s)(k:∀b u,s.heap.get? b=some u->h'.get? b=some u):Inv X pins σ H {s with heap:=h',toks:=t'}:=I.un (Un.kept k) (I.hok.kept k)
def Inv.laid{a:Addr}{o:HO}{t':Nat}(I:Inv X pins σ H s)(k:∀b u,s.heap.get? b=some u->h'.get? b=some u)(c:s.heap.objs.size<=a)(d:zH X.prog X.w (upd H a o) h' a o):
  Inv X pins σ (upd H a o) {s with heap:=h',toks:=t'}:=I.un (Un.laid k c (I.hok.fresh c)) (I.hok.laid k c d)
def Inv.write{x e:Addr}{o:HO}{t':Nat}(I:Inv X pins σ H s)(d:Mut (H x))(f:e=x\/H e=some (.own x))(k:∀b u,b≠e->s.heap.get? b=some u->h'.get? b=some u)(a:∃u,h'.get? e=some u)
  (c:zH X.prog X.w (upd H x o) h' x o):Inv X pins σ (upd H x o) {s with heap:=h',toks:=t'}:=I.un (Un.write d f k a) (I.hok.write d f k a c)
def Inv.pins_of{a:List (Addr×Obj)}(I:Inv X pins σ H s)(h:∀p∈a,s.heap.get? p.1=some p.2/\H p.1=none/\p.1≠X.env.locals/\p.1∉X.fs/\∀v,p.2.data≠ .cell v):Inv X a σ H s:=
 ⟨I.ok,I.os,I.bare,I.base,I.loc,I.cell,I.free,I.freeC,λp b=>(cQp.mp b).elim (λz=>I.pin p (cXI _ z)) (h p),I.hok,I.len⟩
def aVM{N:List Str}(d:N.Nodup){i j:Nat}{x:Str}(a:N[i]? =some x)(b:N[j]? =some x):i=j:=by
 obtain⟨h1,e⟩:=bYW.mp a;obtain⟨h2,c⟩:=bYW.mp b;exact(cXA d).mp (e.trans c.symm)
def aQ3{M:Model}{A:cQt}{E:bYL->bYO->Prop}{i:Nat}{x:Str}{v:V}{u:bYL}{Q:Unit->bYO->Prop}(I:Inv X pins σ H s)(hN:X.N.Nodup)(hi:X.N[i]? =some x)(B:Loc X.env.scope x)(r:zO v u) (h:∀s',Inv X pins (σ.set i (some v)) H s'->(∃a,cXP a s.heap s'.heap/\(a=X.env.locals\/X.env.cells.lookup x=some a))->Q () s') (hf:X.fn x=true\/X.env.scope.names.lookup x=some .local:=by first|exact .inl rfl|exact .inr rfl|assumption):bYT M A (storeName X.env x u) Q E s:=by
 obtain⟨m,Y,hl⟩:=id I.loc;have S:(X.env.scope.kind== .class || (X.env.scope.kind== .module && X.env.locals !=X.env.globals))=false:=by rw[I.ok.kind];rfl
 have hiσ:i<σ.length:=by rw[I.len];exact(bYW.mp hi).1
 have cne:=I.cne;have g:∀ {a:Addr} {h':Heap},(∃o,s.heap.get? a=some o/\H a=none)->cXP a s.heap h'->HOk X.prog X.w H h':=λ{a h'} ha f b ob e=>by
  obtain⟨_,_,C⟩:=ha;refine(I.hok b ob e).stay (λc U t q=>(f.2 c ?_).trans q) (λ_ q=>q) λ_ _ q=>q;rintro rfl;rcases t with rfl|t
  ·rw[C]at e;cases e
  ·rw[C]at t;cases t
 rcases B with F|F
 ·refine wpAny_storeName_local F Y (λh' a0 f=>?_) S;obtain⟨oL,_,_,W,_⟩:=id Y;refine h _ ⟨I.ok,I.os,I.bare,⟨λb o e n G B=>?_,λb o e n G B=>?_,I.base.free,λb o e B=>?_,I.base.tups,I.base.frzs,I.base.tbls⟩,⟨_,a0,λj y Z l D e3=>?_⟩,λy c e=>?_,I.free,I.freeC,λp hp=>?_,g ⟨oL,W,I.free⟩ f,by simpa using I.len⟩ ⟨_,f,.inl rfl⟩
  ·exact(f.2 b (cQc (cQe (bYZ e) I.ok.above))).trans (I.base.keep b o e n G B)
  ·obtain⟨sl,l⟩:=I.base.slot b o e n G B;exact⟨sl,(f.2 b (cQc (cQe (bYZ e) I.ok.above))).trans l⟩
  ·obtain⟨o',l⟩:=I.base.there b o e B;exact⟨o',(f.2 b (cQc (cQe (bYZ e) I.ok.above))).trans l⟩
  ·by_cases K:j=i
   ·subst K;rw[hi]at l;cases l;rw[cZG hiσ]at D;cases D;exact⟨u,r,.inl ⟨F,by simp⟩⟩
   ·rw[cJx (cQu K)]at D;obtain⟨u',r',q⟩:=hl j y Z l D e3;refine⟨u',r',?_⟩;rcases q with⟨k,e⟩|⟨k,c,e,z⟩
    ·refine .inl ⟨k,?_⟩;have:y≠x:=λe=>K (aVM hN l (e ▸ hi));simp[this,e]
    ·exact .inr ⟨k,c,e,z.sameBut f (cne y c e)⟩
  ·obtain⟨U,z⟩:=I.cell y c e;exact⟨U,z.sameBut f (cne y c e)⟩
  ·obtain⟨e,n,ne,nf,d⟩:=I.pin p hp;exact⟨(f.2 p.1 ne).trans e,n,ne,nf,d⟩
 ·have J:X.fn x=true:=by
   rcases hf with z|z
   ·exact z
   ·rw[z]at F;cases F
  obtain⟨c,t⟩:=I.ok.has x (.inl F);obtain⟨U,z⟩:=I.cell x c t;refine wpAny_storeName_cell I.ok.kind F t z (λh' P f=>?_);obtain⟨oc,L,R⟩:=id z;refine h {s with heap:=h'} ⟨I.ok,I.os,I.bare,⟨λb o e n G B=>?_,λb o e n G B=>?_,I.base.free,λb o e B=>?_,I.base.tups,I.base.frzs,I.base.tbls⟩,⟨m,Y.sameBut f (cQu (cne x c t)),λj y Z l D e3=>?_⟩,λy T e=>?_,I.free,I.freeC,λp hp=>?_,g ⟨oc,L,I.freeC x c t⟩ f,by simpa using I.len⟩ ⟨c,f,.inr t⟩
  ·exact(f.2 b (cQc (cQe (bYZ e) (I.ok.cab x c J t)))).trans (I.base.keep b o e n G B)
  ·obtain⟨sl,l⟩:=I.base.slot b o e n G B;exact⟨sl,(f.2 b (cQc (cQe (bYZ e) (I.ok.cab x c J t)))).trans l⟩
  ·obtain⟨o',l⟩:=I.base.there b o e B;exact⟨o',(f.2 b (cQc (cQe (bYZ e) (I.ok.cab x c J t)))).trans l⟩
  ·by_cases K:j=i
   ·subst K;rw[hi]at l;cases l;rw[cZG hiσ]at D;cases D;exact⟨u,r,.inr ⟨.inl F,c,t,P⟩⟩
   ·rw[cJx (cQu K)]at D;obtain⟨u',r',q⟩:=hl j y Z l D e3;refine⟨u',r',?_⟩;rcases q with q|⟨k,T,e,z'⟩
    ·exact .inl q
    ·refine .inr ⟨k,T,e,z'.sameBut f ?_⟩;rintro rfl;exact K (aVM hN l (I.ok.inj _ _ _ e t ▸ hi))
  ·by_cases O:T=c
   ·subst O;exact⟨_,P⟩
   ·obtain⟨w2,z2⟩:=I.cell y T e;exact⟨w2,z2.sameBut f O⟩
  ·obtain⟨e,n,ne,nf,d⟩:=I.pin p hp;refine⟨(f.2 p.1 ?_).trans e,n,ne,nf,d⟩;intro q;rw[q,L]at e;have q':oc=p.2:=bY6 e;exact d U (by rw[<- q'];exact R)
def aWj{M:Model}{A:cQt}{E:bYL->bYO->Prop}{i:Nat}{x:Str}{v:V}{u:bYL}{Q:Unit->bYO->Prop}(I:Inv X pins σ H s)(b:X.N.Nodup)(hi:X.N[i]? =some x)(a:Loc X.env.scope x)(r:zO v u) (h:∀s',Inv X pins (σ.set i (some v)) H s'->Q () s') (c:X.fn x=true\/X.env.scope.names.lookup x=some .local:=by first|exact .inl rfl|exact .inr rfl|assumption):bYT M A (storeName X.env x u) Q E s:=
 aQ3 I b hi a r (λs' d _=>h s' d) c
def Inv.call'{s':bYO}{ch:List Addr}(I:Inv X pins σ H s)(j:s'.os=s.os)(u:Un (frs X.stack) ch H H' s.heap s'.heap)(d:HOk X.prog X.w H' s'.heap)(i:AllBare s'.gens) (a:∀b∈ch,(b∈X.ex\/X.s₀.heap.objs.size<=b)/\b≠X.env.locals/\(∀x c,X.env.cells.lookup x=some c->c≠b)/\∀p∈X.pn++pins,p.1≠b):Inv X pins σ H' s':=by
 obtain⟨h',g,h,f,o'⟩:=s';have e:o'=s.os:=j;subst e;exact I.call (g':=g) (t':=f) (d':=h) u d i a
end
abbrev XK:=bYL->Option Addr->Hp->Prop
abbrev St:=List (Option V)
abbrev VK:=V->Hp->Prop
abbrev TE:=St->Hp->VK->Prop
abbrev TT:=St->Hp->(Bool->Hp->Prop)->Prop
abbrev TA:=St->Hp->(List V->Hp->Prop)->Prop
structure aJn where
 nx:St->Hp->Prop
 rt:VK
 bk:St->Hp->Prop:=λ_ _=>False
 ct:St->Hp->Prop:=λ_ _=>False
abbrev TS:=aJn->St->Hp->Prop
def EP(X:Cx)(pins:List (Addr×Obj))(σ:St)(Q:VK)(u:bYL)(s':bYO):Prop:=∃v H',Inv X pins σ H' s'/\zO v u/\Q v H'
def TP(X:Cx)(pins:List (Addr×Obj))(σ:St)(Q:Bool->Hp->Prop)(b:Bool)(s':bYO):Prop:=∃H',Inv X pins σ H' s'/\Q b H'
def AP(X:Cx)(pins:List (Addr×Obj))(σ:St)(Q:List V->Hp->Prop)(us:List bYL)(s':bYO):Prop:=∃a H',Inv X pins σ H' s'/\xW a us/\Q a H'
def SP(X:Cx)(pins:List (Addr×Obj))(D:aJn)(f:Flow)(s':bYO):Prop:=
 match f with
 |.next=>∃a H',Inv X pins a H' s'/\D.nx a H'
 |.brk=>∃a H',Inv X pins a H' s'/\D.bk a H'
 |.cont=>∃a H',Inv X pins a H' s'/\D.ct a H'
 |.ret u=>∃v a H',Inv X pins a H' s'/\zO v u/\D.rt v H'
def PE(X:Cx)(e:Expr)(t:TE):Prop:=
 ∀ (pins:List (Addr×Obj))(s:bYO)(σ:St)(H:Hp)(Q:VK),Inv X pins σ H s->t σ H Q->bYT (bYV X.prog X.w) X.A (eval e X.env) (EP X pins σ Q) X.xe s
def PT(X:Cx)(e:Expr)(t:TT):Prop:=
 ∀ (pins:List (Addr×Obj))(s:bYO)(σ:St)(H:Hp)(Q:Bool->Hp->Prop),Inv X pins σ H s->t σ H Q->bYT (bYV X.prog X.w) X.A (isTrue e X.env (eval e X.env)) (TP X pins σ Q) X.xe s
def PW(X:Cx)(e:Expr)(t:TT):Prop:=
 ∀ (a:Sem bYL)(pins:List (Addr×Obj))(s:bYO)(σ:St)(H:Hp)(Q:Bool->Hp->Prop),Inv X pins σ H s->t σ H Q->bYT (bYV X.prog X.w) X.A (isTrue e X.env a) (TP X pins σ Q) X.xe s
def PW.pt{X:Cx}{e:Expr}{t:TT}(h:PW X e t):PT X e t:=h _
def PA(X:Cx)(es:List Expr)(t:TA):Prop:=
 ∀ (pos:Pos)(pins:List (Addr×Obj))(s:bYO)(σ:St)(H:Hp)(Q:List V->Hp->Prop),Inv X pins σ H s->t σ H Q->bYT (bYV X.prog X.w) X.A (spliced (cXp pos (cQr es X.env))) (AP X pins σ Q) X.xe s
def PS(X:Cx)(st:Stmt)(t:TS):Prop:=
 ∀ (pins:List (Addr×Obj))(s:bYO)(σ:St)(H:Hp)(D:aJn),Inv X pins σ H s->t D σ H->bYT (bYV X.prog X.w) X.A (exec st X.env) (SP X pins D) X.xe s
def PSs(X:Cx)(st:List Stmt)(t:TS):Prop:=
 ∀ (pins:List (Addr×Obj))(s:bYO)(σ:St)(H:Hp)(D:aJn),Inv X pins σ H s->t D σ H->bYT (bYV X.prog X.w) X.A (execs st X.env) (SP X pins D) X.xe s
def thn{α:Type}{t:Sem α}{Q b:α->bYO->Prop}{M:Model}{A:cQt}{E:bYL->bYO->Prop}{s:bYO}(h:bYT M A t Q E s)(c:∀a s,Q a s->b a s):bYT M A t b E s:=cQP h c λ_ _ x=>x
end L2
namespace L2
open PySem PySem.Spec PyProof.Rows
section
variable {X:Cx}
def bin{a b:Expr}{ta tb:TE}(j:PE X a ta)(g:PE X b tb){pins:List (Addr×Obj)}{s:bYO}{σ:St}{H:Hp}{R:V->V->Hp->Prop}(I:Inv X pins σ H s)(h:ta σ H λx H1=>tb σ H1 λy H2=>R x y H2) {α:Type} {Q:α->bYO->Prop} {f:bYL->bYL->Sem α} (i:∀v u e x y H2,Inv X pins σ H2 e->zO x v->zO y u->R x y H2->bYT (bYV X.prog X.w) X.A (f v u) Q X.xe e): bYT (bYV X.prog X.w) X.A (eval a X.env) (λv c=>bYT (bYV X.prog X.w) X.A (eval b X.env) (λu d=>bYT (bYV X.prog X.w) X.A (f v u) Q X.xe d) X.xe c) X.xe s:=by
 refine thn (j pins s σ H _ I h) λv s1 ⟨x,H1,I1,r1,q1⟩=>?_;refine thn (g pins s1 σ H1 _ I1 q1) λu e ⟨y,H2,I2,r2,q2⟩=>?_;exact i v u e x y H2 I2 r1 r2 q2
inductive bV9(i:Nat)(σ:St)(H:Hp)(Q:VK):Prop|mk (v) (_:σ[i]? =some (some v)) (_:Q v H)
def tC(v:V):TE:=λ_ H Q=>Q v H
def bJk{i:Nat}{x:Str}{pos:Pos}(k:X.N[i]? =some x)(n:Vis X.env.scope x)(f:(x==("__debug__":Str))=false:=by decide)(d:(x==("__classdict__":Str))=false:=by decide):PE X (.Name x pos) (bV9 i):=by
 intro pins s σ H Q I h;obtain⟨v,e,h⟩:=h;obtain⟨m,j,hl⟩:=I.loc;obtain⟨u,r,l⟩:=hl i x v k e n;have fin:EP X pins σ Q u s:=⟨v,H,I,r,h⟩;rcases l with⟨b,o⟩|⟨b,c,g,a⟩
 ·exact wpAny_Name (wpAny_loadName_local I.ok.kind b j o fin) f
 ·rcases b with b|b
  ·exact wpAny_Name (wpAny_loadName_cell I.ok.kind b g a fin) f
  ·exact wpAny_Name (wpAny_loadName_free I.ok.kind b g a fin d) f
def yE{i j pos}:PE X (.Constant (.int i) j pos) (tC (.int i)):=λ_ _ _ H _ I h=>wpAny_Constant_int ⟨.int i,H,I.tok _,⟨_,rfl⟩,h⟩
def wQ{b j pos}:PE X (.Constant (.bool b) j pos) (tC (.bl b)):=λ_ _ _ H _ I h=>Constant_bool ⟨.bl b,H,I,rfl,h⟩
def x6{j pos}:PE X (.Constant .none j pos) (tC .non):=λ_ _ _ H _ I h=>Constant_none ⟨.non,H,I,rfl,h⟩
def yR{x j pos}:PE X (.Constant (.str x) j pos) (tC (.str x)):=λ_ _ _ H _ I h=>Calls.Constant_str ⟨.str x,H,I.tok _,⟨_,rfl⟩,h⟩
def Gl(X:Cx)(x:Str):Prop:=X.env.kindOf x=some .globalImplicit
def uW{E:bYL->bYO->Prop}{pins:List (Addr×Obj)}{s:bYO}{σ:St}{H:Hp}{x:Str}{u:bYL}{pos:Pos}{Q:bYL->bYO->Prop}(I:Inv X pins σ H s)(c:Gl X x)(a:X.mg x=some u)(h:Q u s) (b:(x==("__debug__":Str))=false:=by decide):bYT (bYV X.prog X.w) X.A (eval (.Name x pos) X.env) Q E s:=
 cJX I.ok.kind c (Calls.loadGlobal_global (by rw[I.ok.glob];exact I.mod.glob.keeps I.bk) a h) b
def aXp{E:bYL->bYO->Prop}{pins:List (Addr×Obj)}{s:bYO}{σ:St}{H:Hp}{x:Str}{u:bYL}{pos:Pos}{Q:bYL->bYO->Prop}(I:Inv X pins σ H s)(c:Gl X x)(e:X.mg x=none)(d:cQw x=some u)(h:Q u s) (a:x≠"__name__":=by decide) (b:(x==("__debug__":Str))=false:=by decide):bYT (bYV X.prog X.w) X.A (eval (.Name x pos) X.env) Q E s:=by
 obtain⟨f,h1,h2⟩:=I.mod.blt;exact cJX I.ok.kind c (Calls.loadGlobal_builtin (by rw[I.ok.glob];exact I.mod.glob.keeps I.bk) e (by rw[I.ok.blt];exact h1.keeps I.bk) ((h2 x a).trans d) h) b
def uB{x:Str}{v:V}{u:bYL}{pos:Pos}(c:Gl X x)(a:X.mg x=some u)(r:zO v u)(b:(x==("__debug__":Str))=false:=by decide):PE X (.Name x pos) (tC v):=
 λ_ _ _ H _ I h=>uW I c a ⟨v,H,I,r,h⟩ b
def xS{x:Str}{v:V}{u:bYL}{pos:Pos}(e:Gl X x)(a:X.mg x=none)(c:cQw x=some u)(r:zO v u)(d:x≠"__name__":=by decide)(b:(x==("__debug__":Str))=false:=by decide):PE X (.Name x pos) (tC v):=
 λ_ _ _ H _ I h=>aXp I e a c ⟨v,H,I,r,h⟩ d b
variable {a b:Expr}{ta tb:TE}{pos:Pos}
def PC(X:Cx)(op:CmpOp)(a b:Expr)(t:TE):Prop:=
 ∀ (pins:List (Addr×Obj))(s:bYO)(σ:St)(H:Hp)(Q:VK),Inv X pins σ H s->t σ H Q->
  bYT (bYV X.prog X.w) X.A (eval a X.env) (λv c=>bYT (bYV X.prog X.w) X.A (eval b X.env) (λu d=>bYT (bYV X.prog X.w) X.A (cXh op v u) (EP X pins σ Q) X.xe d) X.xe c) X.xe s
def bXH(b:Expr){op:CmpOp}(h:op≠ .In)(h2:op≠ .NotIn):cZA op b=false:=by
 have c:(op==CmpOp.In)=false:=by cases op<;> first|rfl|exact absurd rfl h
 have a:(op==CmpOp.NotIn)=false:=by cases op<;> first|rfl|exact absurd rfl h2
 cases b<;> simp[cZA,c,a]
inductive tBQ(Q:Bool->Hp->Prop)(x:V)(H1:Hp):Prop|mk (c) (_:x= .bl c) (_:Q c H1)
def tB(t:TE):TT:=λσ H Q=>t σ H λx H1=>tBQ Q x H1
def bW3{op:CmpOp}{t:TE}(h:PC X op a b t)(h1:cZA op b=false:=by first|exact bXH _ (by decide) (by decide)|rfl):PT X (.Compare a [op] [b] pos) (tB t):=by
 intro pins s σ H Q I hw;refine wpAny_isTrue_Compare1 (thn (h pins s σ H _ I hw) λv e h1=>thn h1 λu f h2=>thn h2 λc s3 ⟨x,H1,I1,r1,q1⟩=>?_) h1;obtain⟨d,rfl,q⟩:=q1;cases r1;exact cXM ⟨H1,I1,q⟩
def xZ{e:Expr}{t:TE}(h:PE X e t)(b:∀a,isTrue e X.env a=(do let v <- a;standAt e.pos;cZ5 [v] (truthy v)):=by intro _;rfl):PT X e (tB t):=by
 intro pins s σ H Q I hw;refine isTrue_plain (thn (h pins s σ H _ I hw) λv s1 ⟨x,H1,I1,r1,q1⟩=>?_) (b _);obtain⟨d,rfl,q⟩:=q1;cases r1;exact cXM ⟨H1,I1,q⟩
variable {tA tB':TT}{jX:List Expr}
def bYD(t u:TT):TT:=λσ H Q=>t σ H λc H1=>if c=true then u σ H1 Q else Q false H1
def tOr(t u:TT):TT:=λσ H Q=>t σ H λc H1=>if c=true then Q true H1 else u σ H1 Q
def bYH(t:TT):TT:=λσ H Q=>t σ H λc H1=>Q (!c) H1
def wR(b:PT X a tA):PW X (.BoolOp .And [a] pos) tA:=by
 intro f pins s σ H Q I h;refine isTrue_and (thn (b pins s σ H Q I h) λc d e=>?_);cases c with
 |true=>exact isTrue_and_nil e
 |false=>exact e
def vT(b:PT X a tA):PW X (.BoolOp .Or [a] pos) tA:=by
 intro f pins s σ H Q I h;refine isTrue_or (thn (b pins s σ H Q I h) λc d e=>?_);cases c with
 |false=>exact isTrue_or_nil e
 |true=>exact e
def vS(d:PT X a tA)(e:PW X (.BoolOp .And (b::jX) pos) tB'):PW X (.BoolOp .And (a::b::jX) pos) (bYD tA tB'):=by
 intro f pins s σ H Q I h;refine isTrue_and (thn (d pins s σ H _ I h) λc s1 ⟨H1,I1,q1⟩=>?_);cases c with
 |true=>exact e f pins s1 σ H1 Q I1 q1
 |false=>exact⟨H1,I1,q1⟩
def jW(d:PT X a tA)(e:PW X (.BoolOp .Or (b::jX) pos) tB'):PW X (.BoolOp .Or (a::b::jX) pos) (tOr tA tB'):=by
 intro f pins s σ H Q I h;refine isTrue_or (thn (d pins s σ H _ I h) λc s1 ⟨H1,I1,q1⟩=>?_);cases c with
 |true=>exact⟨H1,I1,q1⟩
 |false=>exact e f pins s1 σ H1 Q I1 q1
def vF(b:PT X a tA):PT X (.UnaryOp .Not a pos) (bYH tA):=by
 intro pins s σ H Q I h;exact isTrue_not (b pins s σ H (λc H1=>Q (!c) H1) I h)
inductive bKk(tb:TE)(σ:St)(Q:VK)(x:V)(H1:Hp):Prop|mk (c) (_:x= .bl c) (_:if c=true then tb σ H1 Q else Q (.bl false) H1)
def bK5(ta tb:TE):TE:=λσ H Q=>ta σ H λx H1=>bKk tb σ Q x H1
inductive bYa(tb:TE)(σ:St)(Q:VK)(x:V)(H1:Hp):Prop|mk (c) (_:x= .bl c) (_:if c=true then Q (.bl true) H1 else tb σ H1 Q)
def bYI(ta tb:TE):TE:=λσ H Q=>ta σ H λx H1=>bYa tb σ Q x H1
inductive bKo(Q:VK)(x:V)(H1:Hp):Prop|mk (c) (_:x= .bl c) (_:Q (.bl (!c)) H1)
def bK9(ta:TE):TE:=λσ H Q=>ta σ H λx H1=>bKo Q x H1
def aZU{op}{t:TE}(h:PE X a t):PE X (.BoolOp op [a] pos) t:=λpins s σ H Q I hw=>BoolOp_one (h pins s σ H Q I hw)
def aVT(e:PE X a ta)(f:PE X (.BoolOp .And (b::jX) pos) tb):PE X (.BoolOp .And (a::b::jX) pos) (bK5 ta tb):=by
 intro pins s σ H Q I h;refine BoolOp_and (thn (e pins s σ H _ I h) λv s1 ⟨x,H1,I1,r1,d⟩=>?_);obtain⟨c,rfl,d⟩:=d;cases r1;refine cXM ?_;cases c with
 |true=>exact f pins s1 σ H1 Q I1 d
 |false=>exact⟨.bl false,H1,I1,rfl,d⟩
def bWZ(e:PE X a ta)(f:PE X (.BoolOp .Or (b::jX) pos) tb):PE X (.BoolOp .Or (a::b::jX) pos) (bYI ta tb):=by
 intro pins s σ H Q I h;refine BoolOp_or (thn (e pins s σ H _ I h) λv s1 ⟨x,H1,I1,r1,d⟩=>?_);obtain⟨c,rfl,d⟩:=d;cases r1;refine cXM ?_;cases c with
 |false=>exact f pins s1 σ H1 Q I1 d
 |true=>exact⟨.bl true,H1,I1,rfl,d⟩
def bJj(d:PE X a ta):PE X (.UnaryOp .Not a pos) (bK9 ta):=by
 intro pins s σ H Q I h;refine UnaryOp_ (thn (d pins s σ H _ I h) λv s1 ⟨x,H1,I1,r1,b⟩=>?_);obtain⟨c,rfl,b⟩:=b;cases r1;exact not_of (cXM ⟨.bl (!c),H1,I1,rfl,b⟩)
def tIf(t:TT)(ta tb:TE):TE:=λσ H Q=>t σ H λc H1=>if c=true then ta σ H1 Q else tb σ H1 Q
def aVU{c:Expr}(e:PT X c tA)(f:PE X a ta)(g:PE X b tb):PE X (.IfExp c a b pos) (tIf tA ta tb):=by
 intro pins s σ H Q I h;refine wpAny_IfExp (thn (e pins s σ H _ I h) λd s1 ⟨H1,I1,q1⟩=>?_);cases d with
 |true=>exact f pins s1 σ H1 Q I1 q1
 |false=>exact g pins s1 σ H1 Q I1 q1
end
end L2
namespace L2
open PySem PySem.Spec PyProof.Rows
def SqL(K:bYM)(H:Hp)(a:Addr)(xs:List V):Prop:=
 Rd H a (.lst xs)\/
  ∃ (o:Obj)(b:Array bYL)(n:Nat),K.lookup a=some o/\o.cls= .type "list"/\o.dict=none/\o.data= .seq b n/\b.size<=cQd/\xW xs b.toList
def SqT(K:bYM)(H:Hp)(a:Addr)(xs:List V):Prop:=
 Rd H a (.tup xs)\/
  ∃ (o:Obj)(b:Array bYL)(n:Nat),K.lookup a=some o/\o.cls= .type "tuple"/\o.data= .seq b n/\b.size<=cQd/\xW xs b.toList
def bYs:bYL->Option V
 |.none=>some .non
 |.bool b=>some (.bl b)
 |.int i _=>some (.int i)
 |.str x _=>some (.str x)
 |.bytes b _=>some (.byt b)
 |.float b _=>some (.flt b)
 |.ref a=>some (.ref a)
 |.type n=>some (.ty n)
 |_=>none
def zO.abs{x:V}{u:bYL}(r:zO x u):bYs u=some x:=by
 cases x with
 |non=>cases r;rfl
 |bl _=>cases r;rfl
 |int _=>obtain⟨t,rfl⟩:=r;rfl
 |str _=>obtain⟨t,rfl⟩:=r;rfl
 |byt _=>obtain⟨t,rfl⟩:=r;rfl
 |flt _=>obtain⟨t,rfl⟩:=r;rfl
 |ref _=>cases r;rfl
 |ty _=>cases r;rfl
def zO.inj{x y:V}{u:bYL}(r:zO x u)(q:zO y u):x=y:=bY6 (r.abs.symm.trans q.abs)
def xW.inj:∀ {xs ys:List V} {us:List bYL},xW xs us->xW ys us->xs=ys
 |_,_,_,.nil,.nil=>rfl
 |_,_,_,.cons r t,.cons r' t'=>by rw[r.inj r',xW.inj t t']
section
variable {X:Cx}{pins:List (Addr×Obj)}{σ:St}{H:Hp}{s:bYO}{a:Addr}{xs ys:List V}
def SqL.of{K:bYM}(h:H a=some (.lst xs)):SqL K H a xs:= .inl (.inl h)
def SqT.of{K:bYM}(h:H a=some (.tup xs)):SqT K H a xs:= .inl (.inl h)
def Inv.list(I:Inv X pins σ H s)(h:SqL X.K H a xs):∃b:List bYL,xW xs b/\PlainL s.heap a b.toArray/\xs.length<=cQd:=by
 rcases h with h|⟨o,b,n,f,g,d,c,i,r⟩
 ·obtain⟨z,b,n,r,e⟩:=h.ok I.hok;exact⟨b,r,⟨_,n,e,rfl,rfl,rfl⟩,z⟩
 ·refine⟨b.toList,r,⟨o,n,I.kIn a o f,g,d,by simpa using c⟩,?_⟩;have e:=r.length;simp only[cQ8]at e;omega
def Inv.tuple(I:Inv X pins σ H s)(h:SqT X.K H a xs):∃b:List bYL,xW xs b/\cZJ s.heap a b.toArray/\xs.length<=cQd:=by
 rcases h with h|⟨o,b,n,d,f,c,g,r⟩
 ·obtain⟨z,b,r,p⟩:=h.ok I.hok;exact⟨b,r,p,z⟩
 ·refine⟨b.toList,r,⟨o,I.kIn a o d,f,n,by simpa using c⟩,?_⟩;have e:=r.length;simp only[cQ8]at e;omega
def Inv.list_inj(I:Inv X pins σ H s)(h:SqL X.K H a xs)(h':SqL X.K H a ys):xs=ys:=by
 obtain⟨c,r,⟨o,n,e,_,_,d⟩,_⟩:=I.list h;obtain⟨b,i,⟨o',j,g,_,_,f⟩,_⟩:=I.list h';rw[e]at g;cases g;rw[d]at f;injection f with d1 _;have:c=b:=by simpa using congrArg Array.toList d1
 subst this;exact r.inj i
end
abbrev Cx.wish(X:Cx)(E:bYL->bYO->Prop):Cx:={X with xe:=E}
abbrev Cx.nox(X:Cx):Cx:=X.wish λ_ _=>False
def Cx.Ok.wish{X:Cx}(ok:X.Ok)(E:bYL->bYO->Prop):(X.wish E).Ok:=
 ⟨ok.mod,ok.kind,ok.glob,ok.blt,ok.above,ok.inj,ok.has,ok.cab,ok.hd,ok.frames,ok.stk,ok.exf,ok.bs,ok.bsz,ok.noex,ok.exfs,ok.funs,ok.frf⟩
def Cx.Ok.unwish{X:Cx}{E:bYL->bYO->Prop}(ok:(X.wish E).Ok):X.Ok:=
 ⟨ok.mod,ok.kind,ok.glob,ok.blt,ok.above,ok.inj,ok.has,ok.cab,ok.hd,ok.frames,ok.stk,ok.exf,ok.bs,ok.bsz,ok.noex,ok.exfs,ok.funs,ok.frf⟩
section
variable {X:Cx}{pins:List (Addr×Obj)}{σ:St}{H:Hp}{s:bYO}{E:bYL->bYO->Prop}
def Inv.wish(I:Inv X pins σ H s)(E:bYL->bYO->Prop):Inv (X.wish E) pins σ H s:=⟨I.ok.wish E,I.os,I.bare,I.base,I.loc,I.cell,I.free,I.freeC,I.pin,I.hok,I.len⟩
def Inv.unwish(I:Inv (X.wish E) pins σ H s):Inv X pins σ H s:=⟨I.ok.unwish,I.os,I.bare,I.base,I.loc,I.cell,I.free,I.freeC,I.pin,I.hok,I.len⟩
def SP.unwish{D:aJn}{f:Flow}{s':bYO}(h:SP (X.wish E) pins D f s'):SP X pins D f s':=by
 cases f with
 |next=>obtain⟨a,H',I,q⟩:=h;exact⟨a,H',I.unwish,q⟩
 |brk=>obtain⟨a,H',I,q⟩:=h;exact⟨a,H',I.unwish,q⟩
 |cont=>obtain⟨a,H',I,q⟩:=h;exact⟨a,H',I.unwish,q⟩
 |ret u=>obtain⟨v,a,H',I,r,q⟩:=h;exact⟨v,a,H',I.unwish,r,q⟩
def PSs.nox{st:List Stmt}{t:TS}(h:PSs X.nox st t):PSs X st t:=λpins s σ H D I hw=>
 cQP (h pins s σ H D (I.wish _) hw) (λ_ _ q=>q.unwish) λ_ _ z=>cXi z
end
section
variable {X:Cx}{st:Stmt}{jX:List Stmt}{t u:TS}{e:Expr}{te:TE}{pos:Pos}
def aJg:TS:=λD σ H=>D.nx σ H
def bKF(t u:TS):TS:=λD σ H=>t {D with nx:=u D} σ H
def yS:PSs X [] aJg:=λ_ _ σ H _ I h=>cJE ⟨σ,H,I,h⟩
def yC(h1:PS X st t)(h2:PSs X jX u):PSs X (st::jX) (bKF t u):=by
 intro pins s σ H D I h;refine wpAny_execs_cons (thn (h1 pins s σ H {D with nx:=u D} I h) λf b q=>?_);cases f with
 |next=>obtain⟨a,H',c,q⟩:=q;exact h2 pins b a H' D c q
 |ret v=>exact q
 |brk=>exact q
 |cont=>exact q
def yF(h1:PS X st t):PSs X [st] t:=by
 intro pins s σ H D I h;refine wpAny_execs_cons (thn (h1 pins s σ H D I h) λf a q=>?_);cases f with
 |next=>exact cJE q
 |ret v=>exact q
 |brk=>exact q
 |cont=>exact q
def Inv.quiet{pins:List (Addr×Obj)}{σ:St}{H:Hp}{s:bYO}(I:Inv X pins σ H s):interactive X.env=false:=by simp[interactive,I.ok.kind]
def aVv(te:TE):TS:=λD σ H=>te σ H λ_ H1=>D.nx σ H1
def yY(b:PE X e te)(a:swapsWith e none pos.line X.env=pure false:=by rfl):PS X (.Expr e pos) (aVv te):=by
 intro pins s σ H D I h;exact wpAny_Expr_any (thn (b pins s σ H _ I h) λv s1 ⟨x,H1,I1,r1,q1⟩=>⟨σ,H1,I1,q1⟩) I.quiet a
def bYn(te:TE):TS:=λD σ H=>te σ H D.rt
def yP(a:PE X e te):PS X (.Return (some e) pos) (bYn te):=by
 intro pins s σ H D I h;exact wpAny_Return_some (thn (a pins s σ H _ I h) λv s1 ⟨x,H1,I1,r1,q1⟩=>⟨x,σ,H1,I1,r1,q1⟩)
def bKE(c:TT)(t u:TS):TS:=λD σ H=>c σ H λb H1=>if b=true then t D σ H1 else u D σ H1
def y7{c:Expr}{a b:List Stmt}{tc:TT}(e:PT X c tc)(f:PSs X a t)(g:PSs X b u):PS X (.If c a b pos) (bKE tc t u):=by
 intro pins s σ H D I h;refine wpAny_If (thn (e pins s σ H _ I h) λd s1 ⟨H1,I1,q1⟩=>?_);cases d with
 |true=>exact f pins s1 σ H1 D I1 q1
 |false=>exact g pins s1 σ H1 D I1 q1
end
abbrev TG:=V->St->Hp->(St->Hp->Prop)->Prop
abbrev TGs:=List V->St->Hp->(St->Hp->Prop)->Prop
def PG(X:Cx)(a:Expr)(t:TG):Prop:=
 ∀ (pins:List (Addr×Obj))(s:bYO)(σ:St)(H:Hp)(v:V)(u:bYL)(Q:St->Hp->Prop),Inv X pins σ H s->zO v u->t v σ H Q->
  bYT (bYV X.prog X.w) X.A (assign a X.env u) (λ_ s'=>∃b H',Inv X pins b H' s'/\Q b H') X.xe s
def PGs(X:Cx)(d:List Expr)(t:TGs):Prop:=
 ∀ (pins:List (Addr×Obj))(s:bYO)(σ:St)(H:Hp)(c:List V)(b:List bYL)(Q:St->Hp->Prop),Inv X pins σ H s->xW c b->t c σ H Q->
  bYT (bYV X.prog X.w) X.A (assignInOrder ((cJA d X.env).map (·.2)) b) (λ_ s'=>∃a H',Inv X pins a H' s'/\Q a H') X.xe s
abbrev bKK:=V->V->V->Hp->(Hp->Prop)->Prop
def bYh(X:Cx)(t:bKK):Prop:=
 ∀ (pins:List (Addr×Obj))(s:bYO)(σ:St)(H:Hp)(o i v:V)(a b u:bYL)(Q:Hp->Prop),Inv X pins σ H s->zO o a->zO i b->zO v u->t o i v H Q->
  bYT (bYV X.prog X.w) X.A (setItem a b u) (λ_ s'=>∃H',Inv X pins σ H' s'/\Q H') X.xe s
section
variable {X:Cx}{pos:Pos}
def yW(i:Nat):TG:=λv σ H Q=>Q (σ.set i (some v)) H
def y9{i:Nat}{x:Str}(b:X.N.Nodup:=by exact ‹yN _ _ _›.nd)(hi:X.N[i]? =some x:=by rfl)(a:Loc X.env.scope x:=by first|exact Or.inl rfl|exact Or.inr rfl)(c:X.fn x=true\/X.env.scope.names.lookup x=some .local:=by first|exact .inl rfl|exact .inr rfl|assumption):PG X (.Name x pos) (yW i):=by
 intro pins s σ H v u Q I r h;exact wpAny_assign_Name (aWj I b hi a r (λs' d=>⟨_,H,d,h⟩) c)
inductive bYt(vs:List V)(σ:St)(H:Hp)(Q:St->Hp->Prop):Prop|mk (_:vs= []) (_:Q σ H)
inductive bKP(t:TG)(u:TGs)(vs:List V)(σ:St)(H:Hp)(Q:St->Hp->Prop):Prop|mk (v r) (_:vs=v::r) (_:t v σ H λσ' H'=>u r σ' H' Q)
def aQG:PGs X [] bYt:=by
 intro pins s σ H b a Q I r h;obtain⟨e,h⟩:=h;subst e;cases r;exact assignInOrder_nil ⟨σ,H,I,h⟩
def zE{e:Expr}{es:List Expr}{t:TG}{u:TGs}(h1:PG X e t)(h2:PGs X es u) (a:(cJA (e::es) X.env).map (·.2)=assign e X.env::(cJA es X.env).map (·.2):=by rfl):PGs X (e::es) (bKP t u):=by
 intro pins s σ H d f Q I r h;obtain⟨v,g,c,h⟩:=h;subst c;cases r with
 |cons r b=>rw[a];refine assignInOrder_cons (thn (h1 pins s σ H _ _ _ I r h) λ_ s1 ⟨σ1,H1,I1,q1⟩=>?_);exact h2 pins s1 σ1 H1 _ _ Q I1 b q1
inductive bYv(K:bYM)(n:Nat)(t:TGs)(v:V)(σ:St)(H:Hp)(Q:St->Hp->Prop):Prop|mk (a xs) (_:v= .ref a) (_:SqT K H a xs) (_:xs.length=n) (_:t xs σ H Q)
def aZV{es:List Expr}{k:Nat}{t:TGs}{n:Nat}(g:X.calm=true)(h:PGs X es t) (j:(cJA es X.env).length=n:=by rfl) (c:(cJA es X.env).findIdx? (·.1)=none:=by rfl):PG X (.Tuple es k pos) (bYv X.K n t):=by
 intro pins s σ H v u Q I r hw;obtain⟨a,xs,p,q,hl,hw⟩:=hw;subst p;cases r;obtain⟨l,d,i,w⟩:=I.tuple q;refine assign_Tuple_tuple (I.ok.hd g) i (by simp[j,<- hl,d.length]) c λh' m=>?_;have f:Inv X pins σ H {s with heap:=h'}:=I.kept (t':=s.toks) λb o e=>m b o (cQc (bYZ e)) e;exact h pins _ σ H xs _ Q f (by simpa using d) hw
def bYu(to a:TE)(t:bKK):TG:=λv σ H Q=>to σ H λo H1=>a σ H1 λi H2=>t o i v H2 λb=>Q σ b
def qD{o i:Expr}{to a:TE}{t:bKK}(d:PE X o to)(hi:PE X i a)(b:bYh X t)
  (c:∀v,assign (.Subscript o i pos) X.env v=(do
   let ov <- cZ5 [v] (eval o X.env)
   let iv <- cZ5 [v,ov] (eval i X.env)
   standAt pos
   cZ5 [v,ov,iv] (setItem ov iv v)
   release [v,ov,iv] []):=by intro _;rfl):PG X (.Subscript o i pos) (bYu to a t):=by
 intro pins s σ H v u Q I r h
 rw[c]
 refine bYN (cQ6 (thn (d pins s σ H _ I h) λov s1 ⟨x,H1,I1,r1,q1⟩=>?_))
 refine bYN (cQ6 (thn (hi pins s1 σ H1 _ I1 q1) λiv s2 ⟨y,H2,I2,r2,q2⟩=>?_))
 refine bYN (cJm (bYN (cQ6 (thn (b pins s2 σ H2 x y v ov iv u _ I2 r1 r2 r q2) λ_ s3 ⟨H3,I3,q3⟩=>?_))))
 exact wpAny_release ⟨σ,H3,I3,q3⟩
def bKD(te:TE)(g:TG):TS:=λD σ H=>te σ H λx H1=>g x σ H1 D.nx
def vE{tg e:Expr}{te:TE}{g:TG}(b:PE X e te)(c:PG X tg g)(a:swapsWithSole [tg] e pos.line X.env=pure false:=by rfl)(hw:swappedStores [tg] e X.env=pure none:=by rfl)
  (h1:(cJA [tg] X.env).map (·.2)= [assign tg X.env]:=by rfl):PS X (.Assign [tg] e pos) (bKD te g):=by
 intro pins s σ H D I h
 refine wpAny_Assign_stores (thn (b pins s σ H _ I h) λv s1 ⟨x,H1,I1,r1,q1⟩=>?_) a hw
 rw[h1]
 exact thn (c pins s1 σ H1 x v _ I1 r1 q1) λ_ d q=>q
def yU{i:Nat}{x:Str}{e:Expr}{te:TE}{pos':Pos}(d:PE X e te)(c:X.N.Nodup:=by exact ‹yN _ _ _›.nd)(hi:X.N[i]? =some x:=by rfl)(f:Loc X.env.scope x:=by first|exact Or.inl rfl|exact Or.inr rfl)(b:swapsWith e (some (.Name x pos')) pos.line X.env=pure false:=by rfl)(a:X.fn x=true\/X.env.scope.names.lookup x=some .local:=by first|exact .inl rfl|exact .inr rfl|assumption):
  PS X (.Assign [.Name x pos'] e pos) (bKD te (yW i)):=by
 intro pins s σ H D I h
 refine wpAny_Assign_Name (thn (d pins s σ H _ I h) λv s1 ⟨y,H1,I1,r1,q1⟩=>?_) b
 exact aWj I1 c hi f r1 (λj g=>⟨_,H1,g,q1⟩) a
end
section
variable {X:Cx}{pos:Pos}
def bKs(c:TT)(tb:TS):TS:=λD σ H=>∃W:Nat->St->Hp->Prop,(∃m,W m σ H)/\∀m σ H,W m σ H->
 c σ H λb H1=>if b=true then ∃N:St->Hp->Prop,(∀a H',N a H'->∃d,d<m/\W d a H')/\tb {D with nx:=N,ct:=N,bk:=D.nx} σ H1 else D.nx σ H1
def uC{c:Expr}{body:List Stmt}{tc:TT}{tb:TS}(r:PassesOwn (bYV X.prog X.w) X.A X.env X.xe)(x:PT X c tc)(y:PSs X body tb):PS X (.While c body [] pos) (bKs tc tb):=by
 intro pins s σ H D I h;obtain⟨W,⟨z,B⟩,turn⟩:=h;refine wpAny_While (codeAny_whileLoop (λn s'=>∃e H',Inv X pins e H' s'/\W n e H') ?_ z ⟨σ,H,I,B⟩);rintro n u ⟨d,H1,t,C⟩;refine cZc r (thn (x pins u d H1 _ t (turn n d H1 C)) λb s2 ⟨H2,I2,i⟩=>?_);cases b with
 |true=>
  obtain⟨N,q,i⟩:=i;rw[if_pos rfl];refine cZc r (thn (y pins s2 d H2 _ I2 i) λf E j=>?_);cases f with
  |next=>obtain⟨a,g,m,p⟩:=j;obtain⟨o,l,k⟩:=q a g p;exact⟨o,l,a,g,m,k⟩
  |cont=>obtain⟨a,g,m,p⟩:=j;obtain⟨o,l,k⟩:=q a g p;exact⟨o,l,a,g,m,k⟩
  |brk=>exact j
  |ret v=>exact j
 |false=>rw[if_neg Bool.false_ne_true];exact cJE ⟨d,H2,I2,i⟩
end
structure It where
 go:Nat->Hp->Prop
 yld:Nat->Hp->V->Hp->Prop
 stop:Nat->Hp->Prop
def bZ2(X:Cx)(pins:List (Addr×Obj))(H:Hp)(b:Addr):Prop:=
 H b=none/\b≠X.env.locals/\b∉X.fs/\(b∈X.ex\/X.s₀.heap.objs.size<=b)/\(∀x c,X.env.cells.lookup x=some c->c≠b)/\∀p∈X.pn++pins,p.1≠b
def Inv.fpOk{X:Cx}{pins:List (Addr×Obj)}{σ:St}{H H':Hp}{s:bYO}{b:Addr}(I:Inv X pins σ H s)(a:s.heap.objs.size<=b)(f:H' b=none):bZ2 X pins H' b:=by
 refine⟨f,cZp (cQe I.lt a),I.nofs a,.inr (cQo I.sz a),λx c e z=>?_,λp d z=>?_⟩
 ·obtain⟨v,q⟩:=I.cell x c e;exact absurd (cQe q.lt (by rw[z];exact a)) (cQX _)
 ·exact absurd (cQe (bYZ (I.pin p d).1) (by rw[z];exact a)) (cQX _)
structure bKy(P:bY7)(w:cQf)(K:bYM)(tg:Expr)(J:It)(fp:List Addr)(it:Addr)(tn:Nat->Heap->Prop):Prop where
 mem:it∈fp
 obj:∀i h,tn i h->∀b∈fp,∃o,h.get? b=some o/\∀v,o.data≠ .cell v
 keep:∀i h h',tn i h->(∀b∈fp,∀o,h.get? b=some o->h'.get? b=some o)->tn i h'
 item:∀ (X:Cx),X.prog=P->X.w=w->X.K=K->X.calm=true->∀ (i:Nat)(pins:List (Addr×Obj))(s:bYO)(σ:St)(H:Hp)(E:bYL->bYO->Prop),Inv X pins σ H s->(∀b∈fp,bZ2 X pins H b)->tn i s.heap->J.go i H->
  bYT (bYV P w) X.A (pyNext (.ref it)) (λr s1=>∃u,r=some u/\
   bYT (bYV P w) X.A (cJD tg (.ref it) u) (λ_ s2=>∃x H',Inv X pins σ H' s2/\zO x u/\J.yld i H x H'/\tn (i+1) s2.heap/\∀b∈fp,H' b=none) E s1) E s
 done:∀ (X:Cx),X.prog=P->X.w=w->X.K=K->X.calm=true->∀ (i:Nat)(pins:List (Addr×Obj))(s:bYO)(σ:St)(H:Hp)(E:bYL->bYO->Prop),Inv X pins σ H s->(∀b∈fp,bZ2 X pins H b)->tn i s.heap->J.stop i H->
  bYT (bYV P w) X.A (pyNext (.ref it)) (λr s1=>r=none/\Inv X pins σ H s1) E s
 self:∀ (A:cQt)(i:Nat)(s:bYO)(Q:bYL->bYO->Prop)(E:bYL->bYO->Prop),tn i s.heap->Q (.ref it) s->bYT (bYV P w) A (pyIter (.ref it)) Q E s
abbrev TI:=St->Hp->(It->Hp->Prop)->Prop
def PIE(X:Cx)(pins:List (Addr×Obj))(σ:St)(tg:Expr)(R:It->Hp->Prop)(a:bYL)(e:bYO):Prop:=
 ∃ (c:Addr)(d:List Addr)(tn:Nat->Heap->Prop)(J:It)(H':Hp),a= .ref c/\Inv X pins σ H' e/\bKy X.prog X.w X.K tg J d c tn/\tn 0 e.heap/\(∀b∈d,bZ2 X pins H' b)/\R J H'
def PI(X:Cx)(tg a:Expr)(c:TI):Prop:=
 ∀ (pins:List (Addr×Obj))(s:bYO)(σ:St)(H:Hp)(R:It->Hp->Prop),Inv X pins σ H s->c σ H R->
  bYT (bYV X.prog X.w) X.A (eval a X.env) (λv b=>bYT (bYV X.prog X.w) X.A (pyIter v) (PIE X pins σ tg R) X.xe b) X.xe s
def bWC{M:Model}{A:cQt}{E:bYL->bYO->Prop}{s:bYO}{tg:Expr}{it:Addr}{u:bYL}{o:Obj}{n:String}{vs:Array bYL}{Q:Unit->bYO->Prop}(e:s.heap.get? it=some o)(c:o.cls= .type n)(b:o.data= .fields vs) (d: ["enumerate","zip","dict_itemiterator","dict_reverseitemiterator","odict_iterator","itertools.zip_longest","itertools.pairwise"].contains n=false) (a:Q () s):bYT M A (cJD tg (.ref it) u) Q E s:=by
 unfold cJD;cases tg<;> first
  |exact bYR a
  |(cases u<;> first
    |exact bYR a
    |(refine bYN (wpAny_load e ?_)
      rw[c,b]
      show bYT M A (if(["enumerate","zip","dict_itemiterator","dict_reverseitemiterator","odict_iterator","itertools.zip_longest","itertools.pairwise"].contains n && vs[0]? ==some (cQ3 _))=true then _ else _) Q E s
      rw[if_neg (by intro h;rw[d,Bool.false_and]at h;cases h)]
      exact bYR a))
def Itl(K:bYM)(a:Addr):It:=
 ⟨λi H=>∃xs x,SqL K H a xs/\xs[i]? =some x,λi H x H'=>H'=H/\∀xs,SqL K H a xs->xs[i]? =some x,λi H=>∃xs,SqL K H a xs/\xs.length<=i⟩
def Itr(lo:Int)(n:Nat):It:=⟨λi _=>i<n,λi H x H'=>H'=H/\x= .int (lo+i),λi _=>n<=i⟩
def bQ1{P:bY7}{w:cQf}{K:bYM}{tg:Expr}(a it:Addr):bKy P w K tg (Itl K a) [it] it (λi h=>h.IsListIter it a i) where
 mem:=by simp
 obj:=λi h st b hb=>by
  have e:b=it:=by simpa using hb
  subst e
  obtain⟨o,e,c,d⟩:=st
  exact⟨o,e,λv z=>by rw[d]at z;cases z⟩
 keep:=λi h h' st k=>st.at λo e=>k it (by simp) o e
 item:=by
  intro X hP hw hK hc i pins s σ H E I hf st hg
  subst hP hw hK
  obtain⟨xs,x,hq,hx⟩:=hg
  obtain⟨its,rv,p,hz⟩:=I.list hq
  obtain⟨u,hu,ru⟩:=rv.get hx
  obtain⟨f0,f1,f2,f3,f4,f5⟩:=hf it (by simp)
  refine wpAny_pyNext_list_item st p.isList (x:=u) (by simpa using hu) λh' st' sb=>?_
  have I1:Inv X pins σ H {s with heap:=h'}:=I.turned (t':=s.toks) (λb o hb e=>(sb.2 b hb).trans e) f0 f1 f3 f4 f5
  obtain⟨o,e,c,d⟩:=id st'
  exact⟨u,rfl,bWC (s:={s with heap:=h'}) e c d (by decide) ⟨x,H,I1,ru,⟨rfl,λys hy=>by rw[I.list_inj hy hq];exact hx⟩,st',λb hb=>(hf b hb).1⟩⟩
 done:=by
  intro X hP hw hK hc i pins s σ H E I hf st hg
  subst hP hw hK
  obtain⟨xs,hq,hx⟩:=hg
  obtain⟨its,rv,p,hz⟩:=I.list hq
  obtain⟨f0,f1,f2,f3,f4,f5⟩:=hf it (by simp)
  have hl:=rv.length
  exact wpAny_pyNext_list_end (I.ok.hd hc) st p.isList (by simp;omega) λh' eb=>⟨rfl,I.turned (t':=s.toks) (λb o hb e=>eb b o hb e) f0 f1 f3 f4 f5⟩
 self:=λ_ _ _ _ _ st h=>wpAny_pyIter_listiter st h
def aKF{P:bY7}{w:cQf}{K:bYM}{tg:Expr}(it:Addr)(lo:Int)(n:Nat):bKy P w K tg (Itr lo n) [it] it (λi h=>IsRangeIter h it (lo+(i:Nat)*1) ((n:Int) - (i:Nat)) 1) where
 mem:=by simp
 obj:=λi h st b hb=>by
  have e:b=it:=by simpa using hb
  subst e
  exact⟨_,st,λv z=>by
   have z':Data.fields _=Data.cell v:=z
   cases z'⟩
 keep:=λi h h' st k=>k it (by simp) _ st
 item:=by
  intro X hP hw hK hc i pins s σ H E I hf st hg
  subst hP hw hK
  obtain⟨f0,f1,f2,f3,f4,f5⟩:=hf it (by simp)
  have W:=Walks.range (prog:=X.prog) (w:=X.w) (I.ok.hd hc) it lo 1 n
  refine W.item i s _ _ hg st λv h' tk hv st' kk=>?_
  obtain⟨t,rfl⟩:=hv
  have I1:Inv X pins σ H {s with heap:=h',toks:=tk}:=I.turned (λb o hb e=>kk b o (by simpa using hb) e) f0 f1 f3 f4 f5
  refine⟨_,rfl,bWC (s:={s with heap:=h',toks:=tk}) (n:="range_iterator") st' rfl rfl (by decide) ⟨.int (lo+i),H,I1,⟨t,?_⟩,⟨rfl,rfl⟩,st',λb hb=>(hf b hb).1⟩⟩
  rw[Int.mul_one]
 done:=by
  intro X hP hw hK hc i pins s σ H E I hf st hg
  subst hP hw hK
  obtain⟨f0,f1,f2,f3,f4,f5⟩:=hf it (by simp)
  exact wpAny_pyNext_range_end (I.ok.hd hc) st (by have:n<=i:=hg;omega) λh' eb=>⟨rfl,I.turned (t':=s.toks) (λb o hb e=>eb b o hb e) f0 f1 f3 f4 f5⟩
 self:=λ_ _ _ _ _ st h=>wpAny_pyIter_rangeiter st h
end L2
namespace L2
open PySem PySem.Spec PyProof.Rows
section
variable {X:Cx}{tg:Expr}
inductive bWE(K:bYM)(R:It->Hp->Prop)(x:V)(H1:Hp):Prop|mk (a) (_:x= .ref a) (_:(∃xs,SqL K H1 a xs)) (_:R (Itl K a) H1)
def bKQ(K:bYM)(tl:TE):TI:=λσ H R=>tl σ H λx H1=>bWE K R x H1
def xL{l:Expr}{tl:TE}(hl:PE X l tl):PI X tg l (bKQ X.K tl):=by
 intro pins s σ H R I h;refine thn (hl pins s σ H _ I h) λv s1 ⟨x,H1,I1,r1,q1⟩=>?_;obtain⟨a,e,⟨xs,f⟩,q⟩:=q1;subst e;cases r1;obtain⟨d,i,p,g⟩:=I1.list f;refine cJ5 p.isList ?_;refine⟨s1.heap.objs.size,[s1.heap.objs.size],_,_,H1,rfl,I1.kept (t':=s1.toks) λb o e=>bYQ _ e,bQ1 a _,⟨_,cQg _ rfl,rfl,rfl⟩,λb c=>?_,q⟩;have e:b=s1.heap.objs.size:=by simpa using c
 subst e;exact I1.fpOk (bYS _) (I1.hok.fresh (bYS _))
def bZe{pins:List (Addr×Obj)}{σ:St}{H:Hp}{s:bYO}{R:It->Hp->Prop}{E:bYL->bYO->Prop}{lo hi:Int}{t u v:Tok}{tk:Nat}(I:Inv X pins σ H s)(h1: -(2 ^ 62)<=lo)(h2:lo<2 ^ 62)(c: -(2 ^ 62)<=hi)(g:hi<2 ^ 62) (q:R (Itr lo (hi - lo).toNat) H):bYT (bYV X.prog X.w) X.A (pyIter (.ref s.heap.objs.size)) (PIE X pins σ tg R) E {s with heap:=s.heap.push {cls:= .type "range",data:= .fields #[.int lo t,.int hi u,.int 1 v] },toks:=tk}:=by
 refine wpAny_pyIter_range (IsRange.new ..) (small_one h1 h2 c g) ?_;have a:Inv X pins σ H {s with heap:=s.heap.push {cls:= .type "range",data:= .fields #[.int lo t,.int hi u,.int 1 v] },toks:=tk}:=I.kept λb o e=>bYQ _ e;refine⟨(s.heap.push {cls:= .type "range",data:= .fields #[.int lo t,.int hi u,.int 1 v] }).objs.size,[(s.heap.push {cls:= .type "range",data:= .fields #[.int lo t,.int hi u,.int 1 v] }).objs.size],_,_,H,rfl,a.kept (t':=tk) λb o e=>bYQ _ e,aKF _ lo (hi - lo).toNat,?_,λb d=>?_,q⟩
 ·have h:lo+((0:Nat):Int)*1=lo:=by simp
  have f:(((hi - lo).toNat:Nat):Int) - ((0:Nat):Int)=Builtin.Range.rangeSize lo hi 1:=by rw[rangeSize_one];split<;> omega
  show IsRangeIter _ _ (lo+((0:Nat):Int)*1) ((((hi - lo).toNat:Nat):Int) - ((0:Nat):Int)) 1;rw[h,f];exact cQg _ rfl
 ·have e:b=(s.heap.push {cls:= .type "range",data:= .fields #[.int lo t,.int hi u,.int 1 v] }).objs.size:=by simpa using d
  subst e;exact a.fpOk (bYS _) (a.hok.fresh (bYS _))
inductive bWF(R:It->Hp->Prop)(vs:List V)(H1:Hp):Prop|mk (j:Int) (_:vs= [.int j]) (_: -(2 ^ 62)<=j) (_:j<2 ^ 62) (_:R (Itr 0 j.toNat) H1)
def bKR(ta:TA):TI:=λσ H R=>ta σ H λa H1=>bWF R a H1
def zL{a:Expr}{ta:TA}{p pos:Pos}(g:Gl X "range")(k:X.mg "range"=none)(i:PA X [a] ta)(d:cQr [a] X.env= [(false,eval a X.env)]:=by rfl):PI X tg (.Call (.Name "range" p) [a] [] pos) (bKR ta):=by
 intro pins s σ H R I h;refine Call_ (aXp I g k boot_range (cZQ (thn (i pos pins s σ H _ I h) λus s1 ⟨vs,H1,I1,r1,b⟩=>?_) d rfl));obtain⟨j,e,b,c,q⟩:=b;subst e;cases r1 with
 |cons r f=>cases f;obtain⟨t,rfl⟩:=r;exact call_range_1 (bZe I1 (by omega) (by omega) b c (by simpa using q))
def bYG(d:TI)(g:TG)(tb:TS):TS:=λD σ H=>d σ H λJ H1=>∃W:Nat->Nat->St->Hp->Prop,(∃m,W 0 m σ H1)/\∀i m σ H,W i m σ H->
 (J.stop i H/\D.nx σ H)\/(J.go i H/\∃N:St->Hp->Prop,(∀a H',N a H'->∃c,c<m/\W (i+1) c a H')/\∀x H',J.yld i H x H'->g x σ H' λb H2=>tb {D with nx:=N,ct:=N,bk:=D.nx} b H2)
def aZX(a:List Addr)(h:Heap):List (Addr×Obj):=a.filterMap λb=>(h.get? b).map λo=>(b,o)
def jN{a:List Addr}{h:Heap}{b:Addr}{o:Obj}(c:b∈a)(e:h.get? b=some o):(b,o)∈aZX a h:=List.mem_filterMap.mpr ⟨b,c,by rw[e];rfl⟩
def aYA{a:List Addr}{h:Heap}{p:Addr×Obj}(c:p∈aZX a h):p.1∈a/\h.get? p.1=some p.2:=by
 obtain⟨b,d,e⟩:=List.mem_filterMap.mp c;cases q:h.get? b with
 |none=>rw[q]at e;cases e
 |some o=>rw[q]at e;have f:(b,o)=p:=bY6 e;subst f;exact⟨d,q⟩
def Inv.pinned{pins:List (Addr×Obj)}{σ:St}{H:Hp}{s:bYO}{a:List Addr}(I:Inv X pins σ H s)(g:∀b∈a,bZ2 X pins H b)(l:∀b∈a,∃o,s.heap.get? b=some o/\∀v,o.data≠ .cell v):Inv X (pins++aZX a s.heap) σ H s:=
 I.pins_of λp k=>(cQp.mp k).elim (λz=>I.pin p (bY9 _ z)) λz=>by obtain⟨c,e⟩:=aYA z;obtain⟨j,h,i,_⟩:=g p.1 c;obtain⟨o,f,d⟩:=l p.1 c;rw[e]at f;cases f;exact⟨e,j,h,i,d⟩
def Inv.unpinned{pins pl:List (Addr×Obj)}{σ:St}{H:Hp}{s:bYO}(I:Inv X (pins++pl) σ H s):Inv X pins σ H s:=I.pins_of λp a=>I.pin p (bY9 _ (cXI _ a))
def zT{t:Expr}{body:List Stmt}{Q:TI}{g:TG}{tb:TS}{pos:Pos}(C:PassesOwn (bYV X.prog X.w) X.A X.env X.xe)(R:X.calm=true)(hi:PI X tg t Q)(hg:PG X tg g)(c:PSs X body tb) (hs:∀x,cJ4 t X.env x=pure x:=by intro _;rfl):PS X (.For tg t body [] pos) (bYG Q g tb):=by
 intro pins s σ H D I h;refine wpAny_For (thn (hi pins s σ H _ I h) λv s1 h1=>thn h1 λa0 s2 h2=>?_) hs;obtain⟨it,K,tn,J,H2,e,I2,T,O,V,W,⟨m0,w0⟩,turn⟩:=h2;subst e;have q:∀ {H':Hp},(∀b∈K,H' b=none)->∀b∈K,bZ2 X pins H' b:=λZ b c=>⟨Z b c,(V b c).2⟩;refine codeAny_forLoop_any (λn s'=>∃i l H',Inv X pins l H' s'/\tn i s'.heap/\(∀b∈K,H' b=none)/\W i n l H') ?_ m0 ⟨0,σ,H2,I2,O,λb c=>(V b c).1,w0⟩;rintro n U ⟨i,y,L,S,G,F,w3⟩;rcases turn i n y L w3 with⟨E,qn⟩|⟨go,N,hN,step⟩
 ·refine cZc C (thn (T.done X rfl rfl rfl R i pins U y L X.xe S (q F) G E) λr s4 ⟨hr,I4⟩=>?_);subst hr;exact cJE ⟨y,L,I4,qn⟩
 ·refine cZc C (thn (T.item X rfl rfl rfl R i pins U y L X.xe S (q F) G go) λr s4 ⟨u,hr,h4⟩=>?_);subst hr;refine cZc C (thn h4 λ_ s5 ⟨x,H5,I5,r5,y5,st5,fr5⟩=>?_);have M:=I5.pinned (q fr5) (T.obj _ _ st5);refine cZc C (thn (hg _ s5 y H5 x u _ M r5 (step x H5 y5)) λ_ s6 ⟨σ6,H6,I6,q6⟩=>?_);refine cZc C (thn (c _ s6 σ6 H6 _ I6 q6) λf P z=>?_);have p:∀ {a:St} {j:Hp},Inv X (pins++aZX K s5.heap) a j P->N a j->∃m,m<n/\∃i l H',Inv X pins l H' P/\tn i P.heap/\(∀b∈K,H' b=none)/\W i m l H':=λ{a j} k B=>by
   obtain⟨m',hm,Y⟩:=hN a j B;refine⟨m',hm,i+1,a,j,k.unpinned,T.keep _ _ _ st5 λb c o e=>(k.pin (b,o) (bY9 _ (bY9 _ (jN c e)))).1,λb c=>?_,Y⟩;obtain⟨o,e,d⟩:=T.obj _ _ st5 b c;exact(k.pin (b,o) (bY9 _ (bY9 _ (jN c e)))).2.1
  cases f with
  |next=>obtain⟨a,j,k,B⟩:=z;exact p k B
  |cont=>obtain⟨a,j,k,B⟩:=z;exact p k B
  |brk=>obtain⟨a,j,k,z⟩:=z;exact⟨a,j,k.unpinned,z⟩
  |ret v=>obtain⟨x7,a,j,k,r7,z⟩:=z;exact⟨x7,a,j,k.unpinned,r7,z⟩
end
def zJ{K:bYM}{a:Addr}{xs:List V}{g:TG}{tb:TS}{D:aJn}{σ:St}{H:Hp}(b:Nat->St->Hp->Prop)(h0:b 0 σ H)(hl:∀i σ H,i<=xs.length->b i σ H->SqL K H a xs) (j:∀i x σ H,xs[i]? =some x->b i σ H->g x σ H λc H2=>tb {D with nx:=b (i+1),ct:=b (i+1),bk:=D.nx} c H2) (k:∀σ H,b xs.length σ H->D.nx σ H): ∃W:Nat->Nat->St->Hp->Prop,(∃m,W 0 m σ H)/\∀i m σ H,W i m σ H-> ((Itl K a).stop i H/\D.nx σ H)\/((Itl K a).go i H/\∃N:St->Hp->Prop,(∀d H',N d H'->∃h,h<m/\W (i+1) h d H')/\∀x H',(Itl K a).yld i H x H'->g x σ H' λc H2=>tb {D with nx:=N,ct:=N,bk:=D.nx} c H2):=by
 refine⟨λi m σ H=>m=xs.length - i/\i<=xs.length/\b i σ H,⟨xs.length,by simp,cQJ _,h0⟩,?_⟩;rintro i m σ H ⟨rfl,hi,p⟩;have q:=hl i σ H hi p;by_cases f:i<xs.length
 ·refine .inr ⟨⟨xs,xs[i],q,by simp[f]⟩,b (i+1),λd H' l=>⟨xs.length - (i+1),by omega,rfl,f,l⟩,λx H' y=>?_⟩;obtain⟨e,y⟩:=y;subst e;exact j i x σ _ (y xs q) p
 ·have e:i=xs.length:=by omega
  subst e;exact .inl ⟨⟨xs,q,bYS _⟩,k σ H p⟩
def z7{lo:Int}{n:Nat}{g:TG}{tb:TS}{D:aJn}{σ:St}{H:Hp}(c:Nat->St->Hp->Prop)(h0:c 0 σ H) (h:∀i σ H,i<n->c i σ H->g (.int (lo+i)) σ H λb H2=>tb {D with nx:=c (i+1),ct:=c (i+1),bk:=D.nx} b H2) (j:∀σ H,c n σ H->D.nx σ H): ∃W:Nat->Nat->St->Hp->Prop,(∃m,W 0 m σ H)/\∀i m σ H,W i m σ H-> ((Itr lo n).stop i H/\D.nx σ H)\/((Itr lo n).go i H/\∃N:St->Hp->Prop,(∀d H',N d H'->∃f,f<m/\W (i+1) f d H')/\∀x H',(Itr lo n).yld i H x H'->g x σ H' λb H2=>tb {D with nx:=N,ct:=N,bk:=D.nx} b H2):=by
 refine⟨λi m σ H=>m=n - i/\i<=n/\c i σ H,⟨n,by simp,cQJ _,h0⟩,?_⟩;rintro i m σ H ⟨rfl,hi,p⟩;by_cases a:i<n
 ·refine .inr ⟨a,c (i+1),λd H' k=>⟨n - (i+1),by omega,rfl,a,k⟩,λx H' y=>?_⟩;obtain⟨e,y⟩:=y;subst e y;exact h i σ _ a p
 ·have e:i=n:=by omega
  subst e;exact .inl ⟨bYS _,j σ H p⟩
end L2
namespace L2
open PySem PySem.Spec PyProof.Rows
abbrev R2:=V->V->Hp->VK->Prop
def OpR(X:Cx)(f:bYL->bYL->Sem bYL)(r:R2):Prop:=
 ∀ (pins:List (Addr×Obj))(s:bYO)(σ:St)(H:Hp)(x y:V)(v u:bYL)(Q:VK),Inv X pins σ H s->zO x v->zO y u->r x y H Q->
  bYT (bYV X.prog X.w) X.A (f v u) (EP X pins σ Q) X.xe s
def UnR(X:Cx)(f:bYL->Sem bYL)(r:V->Hp->VK->Prop):Prop:=
 ∀ (pins:List (Addr×Obj))(s:bYO)(σ:St)(H:Hp)(x:V)(v:bYL)(Q:VK),Inv X pins σ H s->zO x v->r x H Q->
  bYT (bYV X.prog X.w) X.A (f v) (EP X pins σ Q) X.xe s
def qE(X:Cx)(f:bYL)(r:List V->Hp->VK->Prop):Prop:=
 ∀ (pins:List (Addr×Obj))(s:bYO)(σ:St)(H:Hp)(xs:List V)(a:List bYL)(Q:VK),Inv X pins σ H s->xW xs a->r xs H Q->
  bYT (bYV X.prog X.w) X.A (call f a) (EP X pins σ Q) X.xe s
def tOp(r:R2)(ta tb:TE):TE:=λσ H Q=>ta σ H λx H1=>tb σ H1 λy H2=>r x y H2 Q
def tUn(r:V->Hp->VK->Prop)(ta:TE):TE:=λσ H Q=>ta σ H λx H1=>r x H1 Q
inductive rI(C:Int->Int->Prop)(g:Int->Int->V)(x:V)(y:V)(H:Hp)(Q:VK):Prop|mk (i j) (_:x= .int i) (_:y= .int j) (_:C i j) (_:Q (g i j) H)
inductive rI0(g:Int->Int->V)(x:V)(y:V)(H:Hp)(Q:VK):Prop|mk (i j) (_:x= .int i) (_:y= .int j) (_:Q (g i j) H)
inductive rU(g:Int->V)(x:V)(H:Hp)(Q:VK):Prop|mk (i) (_:x= .int i) (_:Q (g i) H)
section
variable {X:Cx}{a b c:Expr}{ta tb tc:TE}{pos:Pos}
def bKM(j:PE X a ta)(g:PE X b tb){pins:List (Addr×Obj)}{s:bYO}{σ:St}{H:Hp}{R:V->V->Hp->Prop}(I:Inv X pins σ H s) (h:ta σ H λx H1=>tb σ H1 λy H2=>R x y H2) {Q:bYL->bYO->Prop} {f:bYL->bYL->Sem bYL} (i:∀v u e x y H2,Inv X pins σ H2 e->zO x v->zO y u->R x y H2->bYT (bYV X.prog X.w) X.A (f v u) Q X.xe e): bYT (bYV X.prog X.w) X.A (eval a X.env) (λv c=>bYT (bYV X.prog X.w) X.A (eval b X.env) (λu d=>bYT (bYV X.prog X.w) X.A (f v u) Q X.xe d) X.xe c) X.xe s:=by
 refine thn (j pins s σ H _ I h) λv s1 ⟨x,H1,I1,r1,q1⟩=>?_;refine thn (g pins s1 σ H1 _ I1 q1) λu e ⟨y,H2,I2,r2,q2⟩=>?_;exact i v u e x y H2 I2 r1 r2 q2
def yV{op:Operator}{r:R2}(j:OpR X (cZs op) r)(f:PE X a ta)(d:PE X b tb):PE X (.BinOp a op b pos) (tOp r ta tb):=by
 intro pins s σ H Q I h;exact wpAny_BinOp (bKM f d I h λv u c x y H2 g e i q=>j pins c σ H2 x y v u Q g e i q)
def aYX{op:UnaryOp}{r:V->Hp->VK->Prop}(c:UnR X (unaryOp op) r)(b:PE X a ta):PE X (.UnaryOp op a pos) (tUn r ta):=by
 intro pins s σ H Q I h;exact UnaryOp_ (thn (b pins s σ H _ I h) λv s1 ⟨x,H1,I1,r1,q1⟩=>c pins s1 σ H1 x v Q I1 r1 q1)
def opI{f:bYL->bYL->Sem bYL}{C:Int->Int->Prop}{g:Int->Int->Int} (a:∀ (i j:Int)(t u:Tok)(s:bYO)(Q:bYL->bYO->Prop)(E:bYL->bYO->Prop),C i j->Q (.int (g i j) s.toks) {s with toks:=s.toks+1}->bYT (bYV X.prog X.w) X.A (f (.int i t) (.int j u)) Q E s): OpR X f (rI C λi j=> .int (g i j)):=by
 intro pins s σ H x y v u Q I d e h;obtain⟨i,j,rfl,rfl,b,q⟩:=h;obtain⟨t,rfl⟩:=d;obtain⟨c,rfl⟩:=e;exact a i j t c s _ _ b ⟨.int (g i j),H,I.tok _,⟨_,rfl⟩,q⟩
def bYi{f:bYL->bYL->Sem bYL}{g:Int->Int->Int} (a:∀ (i j:Int)(t u:Tok)(s:bYO)(Q:bYL->bYO->Prop)(E:bYL->bYO->Prop),Q (.int (g i j) s.toks) {s with toks:=s.toks+1}->bYT (bYV X.prog X.w) X.A (f (.int i t) (.int j u)) Q E s): OpR X f (rI0 λi j=> .int (g i j)):=by
 intro pins s σ H x y v u Q I c d h;obtain⟨i,j,rfl,rfl,q⟩:=h;obtain⟨t,rfl⟩:=c;obtain⟨b,rfl⟩:=d;exact a i j t b s _ _ ⟨.int (g i j),H,I.tok _,⟨_,rfl⟩,q⟩
def bKA{f:bYL->bYL->Sem bYL}{g:Int->Int->Bool} (a:∀ (i j:Int)(t u:Tok)(s:bYO)(Q:bYL->bYO->Prop)(E:bYL->bYO->Prop),Q (.bool (g i j)) s->bYT (bYV X.prog X.w) X.A (f (.int i t) (.int j u)) Q E s): OpR X f (rI0 λi j=> .bl (g i j)):=by
 intro pins s σ H x y v u Q I c d h;obtain⟨i,j,rfl,rfl,q⟩:=h;obtain⟨t,rfl⟩:=c;obtain⟨b,rfl⟩:=d;exact a i j t b s _ _ ⟨.bl (g i j),H,I,rfl,q⟩
def bYq(i j:Int):Prop:=0<j/\j<1073741824
def bYe(i j:Int):Prop:=0<=j/\j<=1000000/\i.natAbs<2 ^ 64
def bKG(i j:Int):Prop:=(-(2 ^ 64)<i/\i<2 ^ 64)\/(-(2 ^ 64)<j/\j<2 ^ 64)
def bKG.ok{i j:Int}(h:bKG i j):IntMulOk i j:=by
 rcases h with⟨h1,h2⟩|⟨h1,h2⟩
 ·exact .of_left (intBits_le_64 h1 h2)
 ·exact .of_right (intBits_le_64 h1 h2)
def x9:OpR X (cZs .Add) (rI0 λi j=> .int (i+j)):=bYi λ_ _ _ _ _ _ _ q=>add_int q
def wU:OpR X (cZs .Sub) (rI0 λi j=> .int (i - j)):=bYi λ_ _ _ _ _ _ _ q=>sub_int q
def aVP:OpR X (cZs .Mult) (rI bKG λi j=> .int (i*j)):=opI λ_ _ _ _ _ _ _ a q=>mul_int q a.ok
def X5:OpR X (cZs .FloorDiv) (rI bYq λi j=> .int (i / j)):=opI λi j _ _ _ _ _ a q=>by
 have h1:(0:Int)<j:=a.1;have h2:j<1073741824:=a.2;exact floordiv_int (by omega) (by rw[Int.fdiv_eq_ediv_of_nonneg i (by omega)];exact q) (.inl (PyProof.noPylong_small (by omega)))
def y0:OpR X (cZs .Mod) (rI (λ_ j=>0<j) λi j=> .int (i % j)):=opI λi j _ _ _ _ _ a q=>by
 have h1:(0:Int)<j:=a;exact mod_int' (by omega) (by rw[Int.fmod_eq_emod_of_nonneg i (by omega)];exact q)
def aQB:OpR X (cZs .Pow) (rI bYe λi j=> .int (i ^ j.toNat)):=opI λ_ _ _ _ _ _ _ a q=>pow_int_small a.1 a.2.1 a.2.2 q
def unI{f:bYL->Sem bYL}{g:Int->Int} (a:∀ (i:Int)(t:Tok)(s:bYO)(Q:bYL->bYO->Prop)(E:bYL->bYO->Prop),Q (.int (g i) s.toks) {s with toks:=s.toks+1}->bYT (bYV X.prog X.w) X.A (f (.int i t)) Q E s): UnR X f (rU λi=> .int (g i)):=by
 intro pins s σ H x v Q I b h;obtain⟨i,rfl,q⟩:=h;obtain⟨t,rfl⟩:=b;exact a i t s _ _ ⟨.int (g i),H,I.tok _,⟨_,rfl⟩,q⟩
def aJj:UnR X (unaryOp .USub) (rU λi=> .int (-i)):=unI λ_ _ _ _ _ q=>neg_int q
end
def bYk:V->V->Bool
 |.non,.non=>true|.non,.int _=>true|.int _,.non=>true|.non,.bl _=>true|.bl _,.non=>true|.non,.str _=>true|.str _,.non=>true
 |.int _,.int _=>true|.bl _,.bl _=>true|.str _,.str _=>true|.byt _,.byt _=>true
 |.int _,.str _=>true|.str _,.int _=>true|.bl _,.str _=>true|.str _,.bl _=>true
 |_,_=>false
inductive rEq(x:V)(y:V)(H:Hp)(Q:VK):Prop|mk (_:bYk x y=true) (_:Q (.bl (decide (x=y))) H)
inductive rNe(x:V)(y:V)(H:Hp)(Q:VK):Prop|mk (_:bYk x y=true) (_:Q (.bl (!decide (x=y))) H)
def aKY{i j:Int}:decide (V.int i=V.int j)=(i==j):=by
 rw[Bool.eq_iff_iff];simp
def bZ6{i j:Bool}:decide (V.bl i=V.bl j)=(i==j):=by
 rw[Bool.eq_iff_iff];simp
def aKZ{i j:Str}:decide (V.str i=V.str j)=(i==j):=by
 rw[Bool.eq_iff_iff];simp
def aKX{i j:Array UInt8}:decide (V.byt i=V.byt j)=(i.toList==j.toList):=by
 rw[Bool.eq_iff_iff];cases i;cases j;simp
section
variable {X:Cx}{a b c:Expr}{ta tb tc:TE}{pos:Pos}
def xR{pins:List (Addr×Obj)}{σ:St}{H:Hp}{s:bYO}{Q:VK}{k a:Bool}(I:Inv X pins σ H s)(q:Q (.bl k) H)(e:k=a):EP X pins σ Q (.bool a) s:=by
 subst e;exact⟨.bl k,H,I,rfl,q⟩
def zI:OpR X (cXh .Eq) rEq:=by
 intro pins s σ H x y v u Q I d a h;obtain⟨c,q⟩:=h;cases x with
 |non=>
  cases d;cases y with
  |non=>cases a;exact PySem.EqNone.eq_none_none (xR I q (by simp))
  |bl j=>cases a;exact PySem.EqNone.eq_none_bool (xR I q (by simp))
  |int j=>obtain⟨b,rfl⟩:=a;exact PySem.EqNone.eq_none_int (xR I q (by simp))
  |str j=>obtain⟨b,rfl⟩:=a;exact PySem.EqNone.eq_none_str (xR I q (by simp))
  |_=>exact absurd (show false=true from c) Bool.false_ne_true
 |bl i=>
  cases d;cases y with
  |non=>cases a;exact PySem.EqNone.eq_bool_none (xR I q (by simp))
  |bl j=>cases a;exact eq_bool (xR I q bZ6)
  |str j=>obtain⟨b,rfl⟩:=a;exact PySem.EqMixed.eq_bool_str (xR I q (by simp))
  |_=>exact absurd (show false=true from c) Bool.false_ne_true
 |int i=>
  obtain⟨t,rfl⟩:=d;cases y with
  |non=>cases a;exact PySem.EqNone.eq_int_none (xR I q (by simp))
  |int j=>obtain⟨b,rfl⟩:=a;exact eq_int (xR I q aKY)
  |str j=>obtain⟨b,rfl⟩:=a;exact PySem.EqMixed.eq_int_str (xR I q (by simp))
  |_=>exact absurd (show false=true from c) Bool.false_ne_true
 |str i=>
  obtain⟨t,rfl⟩:=d;cases y with
  |non=>cases a;exact PySem.EqNone.eq_str_none (xR I q (by simp))
  |bl j=>cases a;exact PySem.EqMixed.eq_str_bool (xR I q (by simp))
  |int j=>obtain⟨b,rfl⟩:=a;exact PySem.EqMixed.eq_str_int (xR I q (by simp))
  |str j=>obtain⟨b,rfl⟩:=a;exact eq_str (xR I q aKZ)
  |_=>exact absurd (show false=true from c) Bool.false_ne_true
 |byt i=>
  obtain⟨t,rfl⟩:=d;cases y with
  |byt j=>obtain⟨b,rfl⟩:=a;exact PySem.W.eq_bytes (xR I q aKX)
  |_=>exact absurd (show false=true from c) Bool.false_ne_true
 |_=>cases y<;> exact absurd (show false=true from c) Bool.false_ne_true
def Y0:OpR X (cXh .NotEq) rNe:=by
 intro pins s σ H x y v u Q I d a h;obtain⟨c,q⟩:=h;cases x with
 |non=>
  cases d;cases y with
  |non=>cases a;exact PySem.EqNone.ne_none_none (xR I q (by simp))
  |bl j=>cases a;exact PySem.EqNone.ne_none_bool (xR I q (by simp))
  |int j=>obtain⟨b,rfl⟩:=a;exact PySem.EqNone.ne_none_int (xR I q (by simp))
  |str j=>obtain⟨b,rfl⟩:=a;exact PySem.EqNone.ne_none_str (xR I q (by simp))
  |_=>exact absurd (show false=true from c) Bool.false_ne_true
 |bl i=>
  cases d;cases y with
  |non=>cases a;exact PySem.EqNone.ne_bool_none (xR I q (by simp))
  |bl j=>cases a;exact ne_bool (xR I q (congrArg not bZ6))
  |str j=>obtain⟨b,rfl⟩:=a;exact PySem.EqMixed.ne_bool_str (xR I q (by simp))
  |_=>exact absurd (show false=true from c) Bool.false_ne_true
 |int i=>
  obtain⟨t,rfl⟩:=d;cases y with
  |non=>cases a;exact PySem.EqNone.ne_int_none (xR I q (by simp))
  |int j=>obtain⟨b,rfl⟩:=a;exact ne_int (xR I q (congrArg not aKY))
  |str j=>obtain⟨b,rfl⟩:=a;exact PySem.EqMixed.ne_int_str (xR I q (by simp))
  |_=>exact absurd (show false=true from c) Bool.false_ne_true
 |str i=>
  obtain⟨t,rfl⟩:=d;cases y with
  |non=>cases a;exact PySem.EqNone.ne_str_none (xR I q (by simp))
  |bl j=>cases a;exact PySem.EqMixed.ne_str_bool (xR I q (by simp))
  |int j=>obtain⟨b,rfl⟩:=a;exact PySem.EqMixed.ne_str_int (xR I q (by simp))
  |str j=>obtain⟨b,rfl⟩:=a;exact ne_str (xR I q (congrArg not aKZ))
  |_=>exact absurd (show false=true from c) Bool.false_ne_true
 |byt i=>
  obtain⟨t,rfl⟩:=d;cases y with
  |byt j=>obtain⟨b,rfl⟩:=a;exact PySem.W.ne_bytes (xR I q (congrArg not aKX))
  |_=>exact absurd (show false=true from c) Bool.false_ne_true
 |_=>cases y<;> exact absurd (show false=true from c) Bool.false_ne_true
def vL:OpR X (cXh .Lt) (rI0 λi j=> .bl (decide (i<j))):=bKA λ_ _ _ _ _ _ _ q=>lt_int q
def aYR:OpR X (cXh .LtE) (rI0 λi j=> .bl (decide (i<=j))):=bKA λ_ _ _ _ _ _ _ q=>le_int q
def aXg:OpR X (cXh .Gt) (rI0 λi j=> .bl (decide (j<i))):=bKA λ_ _ _ _ _ _ _ q=>gt_int q
def bKT:OpR X (cXh .GtE) (rI0 λi j=> .bl (decide (j<=i))):=bKA λ_ _ _ _ _ _ _ q=>ge_int q
def aXr:OpR X (cXh .Is) (λx y H Q=>y= .non/\Q (.bl (decide (x= .non))) H):=by
 intro pins s σ H x y v u Q I a b h;obtain⟨rfl,q⟩:=h;cases b;refine is_none_gen (xR I q ?_);cases x<;> first
  |(cases a;rfl)
  |(obtain⟨t,rfl⟩:=a;rfl)
def wA:OpR X (cXh .IsNot) (λx y H Q=>y= .non/\Q (.bl (!decide (x= .non))) H):=by
 intro pins s σ H x y v u Q I a b h;obtain⟨rfl,q⟩:=h;cases b;refine isnot_none_gen (xR I q ?_);cases x<;> first
  |(cases a;rfl)
  |(obtain⟨t,rfl⟩:=a;rfl)
def bJh(b:Expr){op:CmpOp}(h:op≠ .In:=by decide)(h2:op≠ .NotIn:=by decide):cZA op b=false:=by
 have c:(op==CmpOp.In)=false:=by cases op<;> first|rfl|exact absurd rfl h
 have a:(op==CmpOp.NotIn)=false:=by cases op<;> first|rfl|exact absurd rfl h2
 cases b<;> simp[cZA,c,a]
def zR{op:CmpOp}{r:R2}(k:OpR X (cXh op) r)(f:PE X a ta)(d:PE X b tb)(i:cZA op b=false:=by first|exact bJh _|with_unfolding_all rfl):PE X (.Compare a [op] [b] pos) (tOp r ta tb):=by
 intro pins s σ H Q I h;exact wpAny_Compare1 (bKM f d I h λv u c x y H2 g e j q=>k pins c σ H2 x y v u Q g e j q) i
inductive bKr(Q:Bool->Hp->Prop)(x:V)(H':Hp):Prop|mk (k) (_:x= .bl k) (_:Q k H')
def bKq(t:TE):TT:=λσ H Q=>t σ H λx H'=>bKr Q x H'
def yM{op:CmpOp}{r:R2}(i:OpR X (cXh op) r)(f:PE X a ta)(g:PE X b tb)(d:cZA op b=false:=by first|exact bJh _|with_unfolding_all rfl):PT X (.Compare a [op] [b] pos) (bKq (tOp r ta tb)):=by
 intro pins s σ H Q I h;refine wpAny_isTrue_Compare1 (thn (f pins s σ H _ I h) λv s1 ⟨x,H1,I1,r1,q1⟩=>thn (g pins s1 σ H1 _ I1 q1) λu s2 ⟨y,H2,I2,r2,q2⟩=>
  thn (i pins s2 σ H2 x y v u _ I2 r1 r2 q2) λc s3 ⟨z,H3,I3,r3,k,e,q3⟩=>?_) d
 subst e;cases r3;exact cXM ⟨H3,I3,q3⟩
inductive bV6(r':R2)(tc:TE)(σ:St)(Q:VK)(y:V)(z:V)(H3:Hp):Prop|mk (k) (_:z= .bl k) (_:(if k=true then tc σ H3 λw' H4=>r' y w' H4 Q else Q (.bl false) H3))
def bKl(r b:R2)(ta tb tc:TE):TE:=λσ H Q=>ta σ H λx H1=>tb σ H1 λy H2=>r x y H2 λz a=>bV6 b tc σ Q y z a
def bZc{op f:CmpOp}{r i:R2}(p:OpR X (cXh op) r)(g:OpR X (cXh f) i)(n:PE X a ta)(l:PE X b tb)(j:PE X c tc) (o:lastMarks [op,f] [b,c]=false:=by with_unfolding_all rfl):PT X (.Compare a [op,f] [b,c] pos) (bKq (bKl r i ta tb tc)):=by
 intro pins s σ H Q I h;refine isTrue_chain (thn (n pins s σ H _ I h) λv s1 ⟨x,H1,I1,r1,q1⟩=>test_link (thn (l pins s1 σ H1 _ I1 q1) λu s2 ⟨y,H2,I2,r2,q2⟩=>
  thn (p pins s2 σ H2 x y v u _ I2 r1 r2 q2) λd s3 ⟨z,H3,I3,r3,k,e,q3⟩=>?_)) o
 subst e;cases r3;refine cXM ?_;cases k with
 |false=>obtain⟨t,q,m⟩:=q3;cases q;exact ite_ff ⟨H3,I3,m⟩
 |true=>refine ite_tt (test_last (thn (j pins s3 σ H3 _ I3 q3) λw' s4 ⟨z',H4,I4,r4,q4⟩=>thn (g pins s4 σ H4 y z' u w' _ I4 r2 r4 q4) λd' s5 ⟨z2,H5,I5,r5,k2,e2,q5⟩=>?_));subst e2;cases r5;exact cXM ⟨H5,I5,q5⟩
def aZM:(cQd:Nat)<2 ^ 63:=by rw[cQk];decide
inductive aJZ(x:V)(y:V)(H:Hp)(Q:VK):Prop|mk (i j) (_:x= .str i) (_:y= .str j) (_:i.length+j.length<=cQd) (_:Q (.str (i++j)) H)
def aXq:OpR X (cZs .Add) aJZ:=by
 intro pins s σ H x y v u Q I c d h;obtain⟨i,j,rfl,rfl,a,q⟩:=h;obtain⟨t,rfl⟩:=c;obtain⟨b,rfl⟩:=d;exact add_str (λb tk=>⟨.str (i++j),H,I.tok _,⟨_,rfl⟩,q⟩) a
def aQ6{x:V}{us:List bYL}(r:xW [x] us):∃u,us= [u]/\zO x u:=by
 cases r with
 |cons b a=>cases a;exact⟨_,rfl,b⟩
def bKv{x y:V}{us:List bYL}(r:xW [x,y] us):∃u a,us= [u,a]/\zO x u/\zO y a:=by
 cases r with
 |cons e c=>
  cases c with
  |cons b d=>cases d;exact⟨_,_,rfl,e,b⟩
inductive aWu(xs:List V)(H:Hp)(Q:VK):Prop|mk (i j) (_:xs= [.int i,.int j]) (_:Q (.int (if j > i then j else i)) H)
def aKQ(b:X.calm=true):qE X (.builtin "max") aWu:=by
 intro pins s σ H xs c Q I r h;obtain⟨i,j,rfl,q⟩:=h;obtain⟨u,e,rfl,⟨t,rfl⟩,⟨d,rfl⟩⟩:=bKv r;refine max_two_ints (I.ok.hd b) λh' tk k=>⟨_,H,I.kept k,?_,q⟩;by_cases a:j > i
 ·rw[if_pos a,if_pos a];exact⟨_,rfl⟩
 ·rw[if_neg a,if_neg a];exact⟨_,rfl⟩
inductive aWv(xs:List V)(H:Hp)(Q:VK):Prop|mk (i j) (_:xs= [.int i,.int j]) (_:Q (.int (if j<i then j else i)) H)
def aKR(b:X.calm=true):qE X (.builtin "min") aWv:=by
 intro pins s σ H xs c Q I r h;obtain⟨i,j,rfl,q⟩:=h;obtain⟨u,e,rfl,⟨t,rfl⟩,⟨d,rfl⟩⟩:=bKv r;refine min_two_ints (I.ok.hd b) λh' tk k=>⟨_,H,I.kept k,?_,q⟩;by_cases a:j<i
 ·rw[if_pos a,if_pos a];exact⟨_,rfl⟩
 ·rw[if_neg a,if_neg a];exact⟨_,rfl⟩
def vB:qE X (.type "int") (λxs H Q=>(∃i,xs= [.int i]/\Q (.int i) H)\/∃k,xs= [.bl k]/\Q (.int (if k then 1 else 0)) H):=by
 intro pins s σ H xs b Q I r h;rcases h with⟨i,rfl,q⟩|⟨k,rfl,q⟩
 ·obtain⟨u,rfl,t,rfl⟩:=aQ6 r;exact call_int_int ⟨.int i,H,I,⟨_,rfl⟩,q⟩
 ·obtain⟨u,rfl,a⟩:=aQ6 r;cases a;exact call_int_bool ⟨.int (if k then 1 else 0),H,I.tok _,⟨_,rfl⟩,q⟩
end
end L2
namespace L2
open PySem PySem.Spec PyProof.Rows
structure bJC(h:Heap)(x dx C:Addr)(mA:Str->Option bYL):Prop where
 obj:h.get? x=some (cXZ C dx)
 ns:h.Ns1 dx mA
 ne:dx≠x
def aZN{h:Heap}{dx:Addr}{mA:Str->Option bYL}(n:h.Ns1 dx mA):∃c,h.get? dx=some c/\∀name,cJN name c=some (mA name):=by
 obtain⟨o,es,l,k,f,d,_,j⟩:=n;refine⟨o,k,λname=>?_⟩;have e:=j name;unfold nsFind findBy at e;rw[<- Array.find?_toList]at e;unfold cJN;rw[f];dsimp only;split
 ·rename_i y q;rw[q]at e;exact congrArg some e
 ·rename_i q;rw[q]at e;have a:es.toList.any (·.refKey)=false:=by
   rw[List.any_eq_false];intro y g;obtain⟨z,t,b⟩:=d y (Array.mem_toList_iff.mp g);simp[DictEntry.refKey,b]
  have i:¬es.toList.any (·.refKey)=true:=by rw[a];exact Bool.false_ne_true
  rw[if_neg i];exact congrArg some e
def bJC.look{h:Heap}{x dx C:Addr}{mA:Str->Option bYL}(I:bJC h x dx C mA):∃a,PySem.W.InstAt h x (cXZ C dx) C (some a)/\∀name,cJN name a=some (mA name):=
 let ⟨a,ho,hl⟩:=aZN I.ns
 ⟨a,⟨I.obj,rfl,rfl,ho⟩,hl⟩
section
variable {prog:bY7}{w:cQf}{A:cQt}{E:bYL->bYO->Prop}{s:bYO}{K:bYM}{x dx C f:Addr}{mA:Str->Option bYL}{name:Str}{v:bYL}
def bJT{a:Bool}{Q:bYL->bYO->Prop}(X:K.In s.heap)(I:bJC s.heap x dx C mA)(f:cZr K C name=true)(d:cZK K C=true) (e:cQx K (.ref C) name=some none) (c:mA name=some v) (b:PySem.W.handedIn v=true) (h:Q v {s with toks:=s.toks+1}): bYT (bYV prog w) A (getAttr (.ref x) name a) Q E s:=by
 obtain⟨g,J,hl⟩:=I.look;exact PySem.W.get_value X J (cJK f).1 (PySem.W.findObj_own d e rfl (by rw[hl,c])) b h
def bXl{pl:Sem Bool}{Q:bYL×List bYL->bYO->Prop}(X:K.In s.heap)(I:bJC s.heap x dx C mA)(a:cZr K C name=true) (e:cQx K (.ref C) name=some (some (.ref f))) (d:cZq K (.ref f)=true) (b:mA name=none) (h:Q (.ref f,[.ref x]) s): bYT (bYV prog w) A (cJd (.ref x) name pl) Q E s:=by
 obtain⟨c,J,hl⟩:=I.look;exact PySem.W.method_fn X J (cJK a).1 (cJK a).2 e (beq_iff_eq.mp d) (by show(cJN name c).map (·.isSome)=some false;rw[hl,b];rfl) h
def bV0{j:List Str}{Q:Unit->bYO->Prop}(X:K.In s.heap)(I:bJC s.heap x dx C mA) (n:cQx K (.ref C) "__setattr__"=some (some (.builtin "object.__setattr__"))) (t:cJj K C=true) (m:PySem.W.takerIn K C name=some none) (o:cZK K C=true) (hw:PySem.Within mA j) (hsz:j.length<=cQd) (h:∀h',bJC h' x dx C (λy=>if y=name then some v else mA y)->cXP dx s.heap h'->Q () {s with heap:=h',toks:=s.toks+2}): bYT (bYV prog w) A (setAttr (.ref x) name v) Q E s:=by
 obtain⟨u,J,hl⟩:=I.look;refine PySem.W.set_plain X J n (PySem.W.osa_open (s:={s with toks:=s.toks+1}) (r:=none) X J t m λb=>?_);obtain⟨z,l,f⟩:=PySem.W.any_some o;have q:s.heap.get? x=some ⟨.ref C,some dx,.plain, #[]⟩:=I.obj;refine bYN (bYR (bYN (bYN (wpAny_loadPart q (bYN (PySem.W.Looks.here (s:={s with toks:=s.toks+1}) (PySem.W.looks_clsIn X l) ?_))))));rw[f];refine bYR (a:=some dx) (bYN (bYR (bYN ?_)));refine wpAny_nsSet1 (s:={s with toks:=s.toks+1}) I.ns λh' c d=>?_;obtain⟨B,p,k,e,g,i⟩:=c.count (PySem.Within.cons name v hw);refine bYN (wpAny_lookBehind e (by rw[g];exact pastItsLine_dict (cQo i (by rw[cQK];omega))) ?_);exact bYR (h _ ⟨(d.2 _ (cQu I.ne)).trans I.obj,c,I.ne⟩ d)
def bXE{R:Result->bYO->Prop}{vs:List bYL}{a:List (Str×bYL)}(X:K.In s.heap)(b:PySem.W.makesIn K C=true) (hi:cQx K (.ref C) "__init__"=some (some (.ref f))) (c:PySem.W.typeIn K (.ref f)=some (.type "function")) (h:cX4 (bYV prog w) (A.under (.builtin "type.__call__" ⟨.ref C::vs,a⟩)) (.call (.ref f) ⟨.ref (s.heap.objs.size+1)::vs,a⟩) (PySem.W.InitBack (s.heap.objs.size+1) R) {s with heap:=(s.heap.push cXv).push (cXZ C s.heap.objs.size) }): cX4 (bYV prog w) A (.call (.ref C) ⟨vs,a⟩) R s:=by
 obtain⟨i,g,d,t,e⟩:=s;exact PySem.W.make_core (PySem.W.makes_of X b) (PySem.W.looks_findIn X hi) (λself=>PySem.W.bind_fn X self c) (.inl rfl) h
end
def aXh(f:Str)(v:V):List (Str×V)->List (Str×V)
 |[]=> [(f,v)]
 |(g,x)::r=>if g=f then(g,v)::r else(g,x)::aXh f v r
def aQv(f g:Str)(v:V):∀fs:List (Str×V),(aXh f v fs).lookup g=if g=f then some v else fs.lookup g
 |[]=>by
  show cX6 g [(f,v)]=_;by_cases h:g=f
  ·have a:(g==f)=true:=beq_iff_eq.mpr h;simp only[cX6,a,if_pos h]
  ·have a:(g==f)=false:=beq_eq_false_iff_ne.mpr h;simp only[cX6,a,if_neg h]
 |(k,x)::r=>by
  have c:=aQv f g v r;rw[show aXh f v ((k,x)::r)=(if k=f then(k,v)::r else(k,x)::aXh f v r)from rfl];by_cases b:k=f
  ·rw[if_pos b];by_cases h:g=k
   ·have a:(g==k)=true:=beq_iff_eq.mpr h;simp only[cX6,a,if_pos (h.trans b)]
   ·have a:(g==k)=false:=beq_eq_false_iff_ne.mpr h;simp only[cX6,a,if_neg (λe:g=f=>h (e.trans b.symm))]
  ·rw[if_neg b];by_cases h:g=k
   ·have a:(g==k)=true:=beq_iff_eq.mpr h;simp only[cX6,a,if_neg (λe:g=f=>b (h.symm.trans e))]
   ·have a:(g==k)=false:=beq_eq_false_iff_ne.mpr h;simp only[cX6,a];exact c
def aQm(f:Str)(v:V):∀fs:List (Str×V),f∈(aXh f v fs).map (·.1)/\∀g,g∈fs.map (·.1)->g∈(aXh f v fs).map (·.1)
 |[]=>⟨by simp[aXh],λg h=>by simp at h⟩
 |(k,x)::r=>by
  obtain⟨c,b⟩:=aQm f v r;rw[show aXh f v ((k,x)::r)=(if k=f then(k,v)::r else(k,x)::aXh f v r)from rfl];by_cases a:k=f
  ·rw[if_pos a];subst a;exact⟨by simp,λg h=>by simpa using h⟩
  ·rw[if_neg a];refine⟨?_,λg h=>?_⟩
   ·rw[cQy];exact bYX _ c
   ·rw[cQy]at h ⊢;rcases bYU.mp h with e|e
    ·exact bYU.mpr (.inl e)
    ·exact bYX _ (b g e)
def aQu(f:Str)(v:V):∀fs:List (Str×V),(aXh f v fs).length<=fs.length+1
 |[]=>by simp[aXh]
 |(k,x)::r=>by
  have b:=aQu f v r;rw[show aXh f v ((k,x)::r)=(if k=f then(k,v)::r else(k,x)::aXh f v r)from rfl];by_cases a:k=f
  ·rw[if_pos a,cQK,cQK];omega
  ·rw[if_neg a,cQK,cQK];omega
def aZh.some_of{v:V}{o:Option bYL}(r:aZh (some v) o):∃u,o=some u/\zO v u:=by
 cases o with
 |none=>exact(show False from r).elim
 |some u=>exact⟨u,rfl,r⟩
def aZh.none_of{o:Option bYL}(r:aZh none o):o=none:=by
 cases o with
 |none=>rfl
 |some u=>exact(show False from r).elim
def aZA{v:V}{u:bYL}(r:zO v u):PySem.W.handedIn u=true:=by
 cases v with
 |non=>cases (show u=Value.none from r);rfl
 |bl b=>cases (show u=Value.bool b from r);rfl
 |int i=>obtain⟨t,e⟩:=(show ∃t,u=Value.int i t from r);cases e;rfl
 |str x=>obtain⟨t,e⟩:=(show ∃t,u=Value.str x t from r);cases e;rfl
 |byt b=>obtain⟨t,e⟩:=(show ∃t,u=Value.bytes b t from r);cases e;rfl
 |flt b=>obtain⟨t,e⟩:=(show ∃t,u=Value.float b t from r);cases e;rfl
 |ref a=>cases (show u=Value.ref a from r);rfl
 |ty n=>cases (show u=Value.type n from r);rfl
section
variable {P:bY7}{w:cQf}{H H':Hp}{h h':Heap}{a C dx:Addr}{fs fs':List (Str×V)}
def aQj(b:HOk P w H h)(e:H a=some (.ins C dx fs)):∃mA,bJC h a dx C mA/\(∀f,aZh (fs.lookup f) (mA f))/\PySem.Within mA (fs.map (·.1))/\fs.length<=1000/\H dx=some (.own a):=by
 obtain⟨d,z,ne,c,mA,n,r,q⟩:=(show zH P w H h a (.ins C dx fs)from b a _ e);exact⟨mA,⟨c,n,ne⟩,r,q,z,d⟩
end
structure Cls(K:bYM)(C:Addr):Prop where
 pg:cZr K C Str.empty=true
 hd:cZK K C=true
 po:cJj K C=true
 sa:cQx K (.ref C) "__setattr__"=some (some (.builtin "object.__setattr__"))
def Cls.get{K:bYM}{C:Addr}(c:Cls K C)(f:Str):cZr K C f=true:=c.pg
def wL(K:bYM)(C:Addr)(f:Str):Prop:=cQx K (.ref C) f=some none
def wL.taker{K:bYM}{C:Addr}{f:Str}(n:wL K C f):PySem.W.takerIn K C f=some none:=by
 unfold PySem.W.takerIn;rw[show cQx K (.ref C) f=some none from n];rfl
structure bWg(K:bYM)(C:Addr)(m:Str)(f:Addr):Prop where
 at_:cQx K (.ref C) m=some (some (.ref f))
 fn:cZq K (.ref f)=true
 kp:cQH K (.ref f)=true
section
variable {X:Cx}{pins:List (Addr×Obj)}{σ:St}{H:Hp}{s:bYO}{a C dx:Addr}{fs:List (Str×V)}{f:Str}{v:V}{A:cQt}{E:bYL->bYO->Prop}
def aWF{b:Bool}{Q:bYL->bYO->Prop}(I:Inv X pins σ H s)(e:H a=some (.ins C dx fs))(c:Cls X.K C)(n:wL X.K C f)(l:fs.lookup f=some v) (h:∀u s',Inv X pins σ H s'->zO v u->Q u s'):bYT (bYV X.prog X.w) A (getAttr (.ref a) f b) Q E s:=by
 obtain⟨mA,O,r,_,_,_⟩:=aQj I.hok e;obtain⟨u,g,d⟩:=aZh.some_of (v:=v) (o:=mA f) (by rw[<- l];exact r f);exact bJT I.kIn O (c.get f) c.hd n g (aZA d) (h u _ (I.tok _) d)
def X3{m:Str}{g:Addr}{pl:Sem Bool}{Q:bYL×List bYL->bYO->Prop}(I:Inv X pins σ H s)(e:H a=some (.ins C dx fs))(c:Cls X.K C)(k:bWg X.K C m g)(l:fs.lookup m=none) (h:Q (.ref g,[.ref a]) s):bYT (bYV X.prog X.w) A (cJd (.ref a) m pl) Q E s:=by
 obtain⟨mA,O,r,_,_,_⟩:=aQj I.hok e;have b:mA m=none:=aZh.none_of (by rw[<- l];exact r m);exact bXl I.kIn O (c.get m) k.at_ k.fn b h
def aKA{y:V}{u:bYL}{Q:Unit->bYO->Prop}(I:Inv X pins σ H s)(e:H a=some (.ins C dx fs))(c:Cls X.K C)(n:wL X.K C f)(hl:fs.length<1000)(t:zO y u) (h:∀s',Inv X pins σ (upd H a (.ins C dx (aXh f y fs))) s'->Q () s'):bYT (bYV X.prog X.w) A (setAttr (.ref a) f u) Q E s:=by
 obtain⟨mA,O,r,i,_,j⟩:=aQj I.hok e;have k:(fs.map (·.1)).length<=cQd:=by rw[bYP,cQk];omega
 refine bV0 I.kIn O c.sa c.po n.taker c.hd i k λh' d v=>h _ ?_;have m:∃o,h'.get? dx=some o:=let ⟨o,_,_,e',_⟩:=d.ns;⟨o,e'⟩;refine I.write (x:=a) (e:=dx) (by rw[e];exact cQ9) (.inr j) (λb q l z=>(v.2 b l).trans z) m ?_;refine⟨by rw[yI O.ne];exact j,?_,O.ne,d.obj,_,d.ns,λg=>?_,λg p=>?_⟩
 ·have:=aQu f y fs;omega
 ·show aZh ((aXh f y fs).lookup g) (if g=f then some u else mA g);rw[aQv];by_cases q:g=f
  ·rw[if_pos q,if_pos q];exact t
  ·rw[if_neg q,if_neg q];exact r g
 ·by_cases q:g=f
  ·rw[q];exact(aQm f y fs).1
  ·refine(aQm f y fs).2 g (i g λz=>p ?_);show(if g=f then some u else mA g)=none;rw[if_neg q];exact z
def Inv.made(I:Inv X pins σ H s):Inv X pins σ (upd (upd H s.heap.objs.size (.own (s.heap.objs.size+1))) (s.heap.objs.size+1) (.ins C s.heap.objs.size [])) {s with heap:=(s.heap.push cXv).push (cXZ C s.heap.objs.size) }:=by
 have c:(s.heap.push cXv).get? s.heap.objs.size=some cXv:=cQg s.heap rfl;have g:((s.heap.push cXv).push (cXZ C s.heap.objs.size)).get? (s.heap.objs.size+1)=some (cXZ C s.heap.objs.size):=by have:=cQg (s.heap.push cXv) (o:=cXZ C s.heap.objs.size) rfl;rwa [cXl]at this
 have d:(s.heap.push cXv).Ns s.heap.objs.size (λ_=>none):=⟨cXv, #[],_,c,rfl,(λe i=>absurd i (by simp)),λ_=>rfl⟩;have f:=I.laid (a:=s.heap.objs.size) (o:= .own (s.heap.objs.size+1)) (h':=s.heap.push cXv) (t':=s.toks) (λb u q=>bYQ _ q) (bYS _) ⟨_,c⟩;refine f.laid (a:=s.heap.objs.size+1) (o:= .ins C s.heap.objs.size []) (t':=s.toks) (λb u q=>bYQ _ q) (cZn (cXl _ _)) ?_;have ne:s.heap.objs.size≠s.heap.objs.size+1:=cQc (cXC _);refine⟨by rw[yI ne,yB],cQJ _,ne,g,λ_=>none,(Heap.Ns1.of_empty d).at λo q=>bYQ _ q,λ_=>cQ9,λy h=>absurd rfl h⟩
def aKN{prog:bY7}{w:cQf}{env:Env}{e:Expr}{f:Str}{pos:Pos}{s:bYO}{Q:bYL->bYO->Prop}(b:cZz e f env (eval e env)=eval e env) (h:bYT (bYV prog w) A (eval e env) (λo a=>bYT (bYV prog w) A (getAttr o f true) Q E a) E s):bYT (bYV prog w) A (eval (.Attribute e f pos) env) Q E s:=
 Attribute_any_ h (by rw[arm_eval_Attribute,b])
end
inductive bK7(K:bYM)(f:Str)(Q:VK)(x:V)(H1:Hp):Prop|mk (a C dx fs v) (_:x= .ref a) (_:H1 a=some (.ins C dx fs)) (_:Cls K C) (_:wL K C f) (_:fs.lookup f=some v) (_:Q v H1)
def bYl(K:bYM)(ta:TE)(f:Str):TE:=λσ H Q=>ta σ H λx H1=>bK7 K f Q x H1
inductive bK2(K:bYM)(f:Str)(D:aJn)(σ:St)(y:V)(x:V)(H2:Hp):Prop|mk (a C dx fs) (_:x= .ref a) (_:H2 a=some (.ins C dx fs)) (_:Cls K C) (_:wL K C f) (_:fs.length<1000) (_:D.nx σ (upd H2 a (.ins C dx (aXh f y fs))))
def bYC(K:bYM)(ta tv:TE)(f:Str):TS:=λD σ H=>tv σ H λy H1=>ta σ H1 λx H2=>bK2 K f D σ y x H2
section
variable {X:Cx}{o e value:Expr}{f:Str}{pos pos' tpos:Pos}{ta tv:TE}
def y3(i:PE X e ta)(g:cZz e f X.env (eval e X.env)=eval e X.env):PE X (.Attribute e f pos) (bYl X.K ta f):=by
 intro pins s σ H Q I h;refine aKN g (thn (i pins s σ H _ I h) λu s1 ⟨x,H1,I1,rx,a,C,dx,fs,v,ex,ea,c,n,l,q⟩=>?_);subst ex;obtain rfl:u=Value.ref a:=rx;exact aWF I1 ea c n l λj k d b=>⟨v,H1,d,b,q⟩
def zQ(e:PE X o ta)(d:PE X value tv)(b:swapsWith value (some (.Attribute o f pos')) pos.line X.env=pure false):PS X (.Assign [.Attribute o f pos'] value pos) (bYC X.K ta tv f):=by
 intro pins s σ H D I h;refine cJu (thn (d pins s σ H _ I h) λu s1 ⟨y,H1,I1,ry,q⟩=>thn (e pins s1 σ H1 _ I1 q) λov s2 ⟨x,H2,I2,rx,a,C,dx,fs,ex,ea,c,n,l,q2⟩=>?_) b;subst ex;obtain rfl:ov=Value.ref a:=rx;exact aKA I2 ea c n l ry λi g=>⟨σ,_,g,q2⟩
def bJ4{pl:Sem Bool}{m:Str}{apos:Pos}{args:List Expr}{pins:List (Addr×Obj)}{s:bYO}{σ:St}{H:Hp}{Q:bYL->bYO->Prop}{te:TE}(i:PE X e te)(I:Inv X pins σ H s)
  (h:te σ H λx H1=>∃a C dx fs g,x= .ref a/\H1 a=some (.ins C dx fs)/\Cls X.K C/\bWg X.K C m g/\fs.lookup m=none/\
   ∀b,Inv X pins σ H1 b->bYT (bYV X.prog X.w) X.A (callWith pos (.ref g) [.ref a] (cXp pos (cQr args X.env)) (cZX pos (cX7 [] X.env))) Q X.xe b)
  (d:eval (.Call (.Attribute e m apos) args [] pos) X.env=(do
   let ov <- eval e X.env
   standAt apos.atName
   let (f,first) <- cZ5 [ov] (cJd ov m pl)
   callWith pos f first (cXp pos (cQr args X.env)) (cZX pos (cX7 [] X.env)))):
  bYT (bYV X.prog X.w) X.A (eval (.Call (.Attribute e m apos) args [] pos) X.env) Q X.xe s:=by
 refine cZO (pl:=pl) (thn (i pins s σ H _ I h) λu b ⟨x,H1,I1,rx,a,C,dx,fs,g,ex,ea,c,k,l,q⟩=>?_) d
 subst ex
 obtain rfl:u=Value.ref a:=rx
 exact X3 I1 ea c k l (q b I1)
end
section
variable {X:Cx}{pins:List (Addr×Obj)}{σ:St}{H:Hp}{s:bYO}{A:cQt}{E:bYL->bYO->Prop}{Q:bYL->bYO->Prop}{c:bYL}{b:Bool}
inductive aJq(K:bYM)(H:Hp):V->bYL->Prop where
 |non:aJq K H .non (.type "NoneType")
 |bl (x:Bool):aJq K H (.bl x) (.type "bool")
 |int (i:Int):aJq K H (.int i) (.type "int")
 |str (x:Str):aJq K H (.str x) (.type "str")
 |flt (x:UInt64):aJq K H (.flt x) (.type "float")
 |lst {a:Addr} {xs:List V} (e:H a=some (.lst xs)):aJq K H (.ref a) (.type "list")
 |frz {a:Addr} {o:Obj} {xs:List V} (e:H a=some (.frz o (.lst xs))):aJq K H (.ref a) (.type "list")
 |tup {a:Addr} {xs:List V} (e:H a=some (.tup xs)):aJq K H (.ref a) (.type "tuple")
 |dK {a:Addr} {kvs:List (Key×V)} (e:H a=some (.dK kvs)):aJq K H (.ref a) (.type "dict")
 |dT {a:Addr} {kvs:List (List Key×V)} (e:H a=some (.dT kvs)):aJq K H (.ref a) (.type "dict")
 |ins {a C dx:Addr} {fs:List (Str×V)} (e:H a=some (.ins C dx fs)) (cl:Cls K C) (ha:cQx K (.ref C) "__class__"=some (some (.builtin "object.__class__")))
   (hn:cJk K (.builtin "object.__class__") "__get__"=some (some (.builtin "getset_descriptor.__get__"))) (htk:PySem.W.takesIn K (.builtin "object.__class__")=some true)
   (hm:cZ0 K C (.type "object")=some true):aJq K H (.ref a) (.ref C)
def aYd{x:V}{u t:bYL}(I:Inv X pins σ H s)(f:zO x u)(ty:aJq X.K H x t)(e:cQD X.K t c=some b)(h:∀tk,Q (.bool b) {s with toks:=tk}): bYT (bYV X.prog X.w) A (call (.builtin "isinstance") [u,c]) Q E s:=by
 cases ty with
 |non=>cases (show u=Value.none from f);exact cXn PySem.W.kitx_none I.kIn cQ9 e (λz=>nomatch z) h
 |bl y=>cases (show u=Value.bool y from f);exact cXn PySem.W.kitx_bool I.kIn cQ9 e (λz=>nomatch z) h
 |int i=>obtain⟨t,q⟩:=(show ∃t,u=Value.int i t from f);cases q;exact cXn PySem.W.kitx_int I.kIn cQ9 e (λz=>nomatch z) h
 |str y=>obtain⟨t,q⟩:=(show ∃t,u=Value.str y t from f);cases q;exact cXn PySem.W.kitx_str I.kIn cQ9 e (λz=>nomatch z) h
 |flt y=>obtain⟨t,q⟩:=(show ∃t,u=Value.float y t from f);cases q;exact cXn PySem.W.kitx_float I.kIn cQ9 e (λz=>nomatch z) h
 |@lst a xs d=>cases (show u=Value.ref a from f);obtain⟨_,_,n,_,h1⟩:=(show zH X.prog X.w H s.heap a (.lst xs)from I.hok a _ d);exact cXn cJi I.kIn ⟨_,h1,rfl⟩ e (λz=>nomatch z) h
 |@frz a k xs d=>cases (show u=Value.ref a from f);obtain⟨_,_,_,n,_,h1⟩:=(show zH X.prog X.w H s.heap a (.frz k (.lst xs))from I.hok a _ d);exact cXn cJi I.kIn ⟨_,h1,rfl⟩ e (λz=>nomatch z) h
 |@tup a xs d=>cases (show u=Value.ref a from f);obtain⟨_,_,_,p⟩:=(show zH X.prog X.w H s.heap a (.tup xs)from I.hok a _ d);obtain⟨o,h1,h2,_⟩:=p;exact cXn PySem.W.kitx_tuple I.kIn ⟨o,h1,h2⟩ e (λz=>nomatch z) h
 |@dK a g d=>cases (show u=Value.ref a from f);obtain⟨_,_,B,_,p⟩:=(show zH X.prog X.w H s.heap a (.dK g)from I.hok a _ d);obtain⟨o,es,r,h1,h2,_⟩:=p;exact cXn cJh I.kIn ⟨o,h1,h2.1⟩ e (λz=>nomatch z) h
 |@dT a g d=>cases (show u=Value.ref a from f);obtain⟨_,_,xs,_,o,es,r,h1,h2,_⟩:=(show zH X.prog X.w H s.heap a (.dT g)from I.hok a _ d);exact cXn cJh I.kIn ⟨o,h1,h2.1⟩ e (λz=>nomatch z) h
 |@ins a C dx fs d cl v l j m=>cases (show u=Value.ref a from f);obtain⟨mA,O,_⟩:=aQj I.hok d;obtain⟨D,J,_⟩:=O.look;exact cXn (PySem.W.kitx_own (cl.get _) cl.hd v l j m) I.kIn J e (λz=>nomatch z) h
end
end L2
namespace L2
open PySem PySem.Spec PyProof.Rows
structure vW(k:Nat)(A:cQt):Prop where
 hd:A.handled=none
 dp:A.depth+3*k+5<recursionLimit
 un:A.units+16*k+200<cLine
def vW.mono{j k:Nat}{A:cQt}(r:vW k A)(h:j<=k):vW j A:=⟨r.hd,by have:=r.dp;omega,by have:=r.un;omega⟩
def vW.deeper{k:Nat}{A:cQt}(r:vW (k+1) A)(env:Env):vW k (A.deeper env):=
 ⟨r.hd,by have:=r.dp;show A.depth+1+3*k+5<_;omega,by have:=r.un;show A.units+3+16*k+200<_;omega⟩
def aWS{A:cQt}{C:Addr}{us:List bYL}{a:List (Str×bYL)}:(A.under (.builtin "type.__call__" ⟨.ref C::us,a⟩)).depth=A.depth+1:=by
 first|rfl|simp[Around.under,Code.weight,Code.isCreation,Code.isGuard,Code.isCaller,Code.frames,Code.isFrame,guardIds]
def aWT{A:cQt}{C:Addr}{us:List bYL}{a:List (Str×bYL)}:(A.under (.builtin "type.__call__" ⟨.ref C::us,a⟩)).units=A.units+1:=by
 first|rfl|simp[Around.under,Code.cUnits,Code.frames,Code.isFrame]
def vW.make{k:Nat}{A:cQt}(r:vW (k+1) A)(C:Addr)(us:List bYL)(a:List (Str×bYL)):vW k (A.under (.builtin "type.__call__" ⟨.ref C::us,a⟩)):=
 ⟨r.hd,by have:=r.dp;rw[aWS];omega,by have:=r.un;rw[aWT];omega⟩
def vW.depth{k:Nat}{A:cQt}(r:vW k A):A.depth<recursionLimit:=by have:=r.dp;omega
def vW.units{k:Nat}{A:cQt}(r:vW k A):A.units+64<cLine:=by have:=r.un;omega
def vW.units0{k:Nat}{A:cQt}(r:vW k A):A.units<cLine:=by have:=r.un;omega
def bZO:TA:=λ_ H Q=>Q [] H
def aKD(ta:TE)(a:TA):TA:=λσ H Q=>ta σ H λx H1=>a σ H1 λxs H2=>Q (x::xs) H2
section
variable {X:Cx}{e:Expr}{es:List Expr}{te:TE}{t:TA}{pos:Pos}
def yD:PA X [] bZO:=λ_ _ _ _ H Q I h=>Calls.spliced_nil ⟨[],H,I,.nil,h⟩
def yA(c:PE X e te)(a:PA X es t)(b:cQr (e::es) X.env=(false,eval e X.env)::cQr es X.env:=by rfl):PA X (e::es) (aKD te t):=by
 intro pos pins s σ H Q I h;rw[b];show bYT _ _ (spliced ((false,eval e X.env)::cXp pos (cQr es X.env))) _ _ s;refine Calls.spliced_cons (thn (c pins s σ H _ I h) λu s1 ⟨x,H1,I1,r1,q1⟩=>?_);exact thn (a pos pins s1 σ H1 _ I1 q1) λus s2 ⟨xs,H2,I2,r2,q2⟩=>⟨x::xs,H2,I2,.cons r1 r2,q2⟩
inductive bYd(Q:VK)(xs:List V)(H1:Hp):Prop|mk (_:xs.length<=cQd) (_:∀p,H1 p=none->Q (.ref p) (upd H1 p (.tup xs)))
def bYo(t:TA):TE:=λσ H Q=>t σ H λxs H1=>bYd Q xs H1
inductive bK8(Q:VK)(xs:List V)(H1:Hp):Prop|mk (_:xs.length<=cQd) (_:∀p,H1 p=none->Q (.ref p) (upd H1 p (.lst xs)))
def bYm(t:TA):TE:=λσ H Q=>t σ H λxs H1=>bK8 Q xs H1
def xG{x1}(h:PA X es t):PE X (.Tuple es x1 pos) (bYo t):=by
 intro pins s σ H Q I c;refine wpAny_Tuple_spliced (thn (h pos pins s σ H _ I c) λus s1 ⟨xs,H1,I1,r,z,q⟩=>⟨by rw[<- r.length];exact z,?_⟩);have a:H1 s1.heap.objs.size=none:=I1.hok.fresh (bYS _);refine⟨.ref s1.heap.objs.size,upd H1 s1.heap.objs.size (.tup xs),I1.laid (t':=s1.toks) (λb u e=>bYQ _ e) (bYS _) ?_,rfl,q _ a⟩;exact⟨z,us,r,⟨_,cQg _ rfl,rfl,_,rfl⟩⟩
def y6(h:PA X es t):PE X (.List es pos) (bYm t):=by
 intro pins s σ H Q I c;refine wpAny_List_spliced (thn (h pos pins s σ H _ I c) λus s1 ⟨xs,H1,I1,r,z,q⟩=>⟨by rw[<- r.length];exact z,?_⟩);have a:H1 s1.heap.objs.size=none:=I1.hok.fresh (bYS _);refine⟨.ref s1.heap.objs.size,upd H1 s1.heap.objs.size (.lst xs),I1.laid (t':=s1.toks) (λb u e=>bYQ _ e) (bYS _) ?_,rfl,q _ a⟩;exact⟨z,us,0,r,cQg _ rfl⟩
end
abbrev Sp:=List V->Hp->VK->XK->Prop
abbrev CXT:=List Env->Hp->bYO->XK->bYL->bYO->Prop
structure bJA(P:bY7)(w:cQf)(K:bYM)(mg:Str->Option bYL)(base:Heap)(A:cQt)(outer:List Env)(s:bYO)(H:Hp):Prop where
 frames:A.frames=some outer
 mod:Mod K mg base
 bs:∀b o,base.get? b=some o->s.heap.get? b=some o/\H b=none
 bsz:base.objs.size<=s.heap.objs.size
 funs:s.heap.FunFrames base outer
 frf:∀b∈frs outer,H b=none
 hok:HOk P w H s.heap
 bare:AllBare s.gens
def CE(outer:List Env)(P:bY7)(w:cQf)(H:Hp)(s:bYO)(Q:VK)(u:bYL)(s':bYO):Prop:=
 ∃v H',s'.os=s.os/\AllBare s'.gens/\Un (frs outer) [] H H' s.heap s'.heap/\HOk P w H' s'.heap/\zO v u/\Q v H'
def CR(CX:CXT)(outer:List Env)(P:bY7)(w:cQf)(H:Hp)(s:bYO)(Q:VK)(E:XK)(r:Result)(s':bYO):Prop:=
 match r with
 |.ok (.ret u)=>CE outer P w H s Q u s'
 |.ok _=>False
 |.error e=>CX outer H s E e s'
structure xE(P:bY7)(w:cQf)(K:bYM)(mg:Str->Option bYL)(base:Heap)(CX:CXT)(k:Nat)(f:Addr)(fd:cXK)(ps:List Str)(sp:Sp):Prop where
 len:∀vs H Q E,sp vs H Q E->vs.length=ps.length
 run:∀ (A:cQt)(outer:List Env)(s:bYO)(H:Hp)(args:Args)(us:List bYL)(vs:List V)(Q:VK)(E:XK),vW k A->bJA P w K mg base A outer s H->BindsTo s fd args (ps.zip us)->xW vs us->sp vs H Q E->
  cX4 (bYV P w) A (.call (.ref f) args) (CR CX outer P w H s Q E) s
def xE.mono{P:bY7}{w:cQf}{K:bYM}{mg:Str->Option bYL}{base:Heap}{CX:CXT}{j k:Nat}{f:Addr}{fd:cXK}{ps:List Str}{sp:Sp}(F:xE P w K mg base CX j f fd ps sp)(h:j<=k):
  xE P w K mg base CX k f fd ps sp:=⟨F.len,λA outer s H args c a Q E b=>F.run A outer s H args c a Q E (b.mono h)⟩
def bJA.make{P:bY7}{w:cQf}{K:bYM}{mg:Str->Option bYL}{base:Heap}{A:cQt}{outer:List Env}{s:bYO}{H:Hp}(e:bJA P w K mg base A outer s H)(C:Addr)(us:List bYL)(a:List (Str×bYL)):
  bJA P w K mg base (A.under (.builtin "type.__call__" ⟨.ref C::us,a⟩)) outer s H:=⟨by first|exact e.frames|(simpa[Around.under,Code.envs,Code.isFrame,pushEnvs]using e.frames),e.mod,e.bs,e.bsz,e.funs,e.frf,e.hok,e.bare⟩
section
variable {X:Cx}{pins:List (Addr×Obj)}{σ:St}{H:Hp}{s s':bYO}
def Inv.env0(I:Inv X pins σ H s):bJA X.prog X.w X.K X.mg X.base X.A X.stack s H:=
 ⟨I.ok.frames,I.ok.mod,I.bs,cQo I.ok.bsz I.sz,I.stack,I.stkFree,I.hok,I.bare⟩
def Inv.after{Q:VK}{u:bYL}(I:Inv X pins σ H s)(h:CE X.stack X.prog X.w H s Q u s'):EP X pins σ Q u s':=by
 obtain⟨v,H',f,bare,un,a,r,q⟩:=h;obtain⟨e,g,d,t,c⟩:=s';obtain rfl:c=s.os:=f;exact⟨v,H',I.call (h':=e) (g':=g) (d':=d) (t':=t) (ch:= []) un a bare (λb z=>absurd z (by simp)),r,q⟩
end
def bZK(sp:Sp)(dvs:List V)(E:XK)(t:TA):TE:=λσ H Q=>t σ H λa H1=>sp (a++dvs) H1 Q E
inductive bKn(C:Addr)(m:Str)(sp:Sp)(dvs:List V)(E:XK)(t:TA)(σ:St)(Q:VK)(x:V)(H1:Hp):Prop|mk (a dx fs) (_:x= .ref a) (_:H1 a=some (.ins C dx fs)) (_:fs.lookup m=none) (_:t σ H1 λvs H2=>sp (x::(vs++dvs)) H2 Q E)
def bZN(C:Addr)(m:Str)(sp:Sp)(dvs:List V)(E:XK)(ta:TE)(t:TA):TE:=λσ H Q=>ta σ H λx H1=>bKn C m sp dvs E t σ Q x H1
def bZM(C:Addr)(sp:Sp)(dvs:List V)(E:XK)(t:TA):TE:=λσ H Q=>t σ H λa H1=>∀x dx,H1 x=none->H1 dx=none->dx≠x->
 sp (.ref x::(a++dvs)) (upd (upd H1 dx (.own x)) x (.ins C dx [])) (λv H2=>v= .non/\Q (.ref x) H2) E
def v6(K:bYM)(fd:cXK)(ps:List Str)(ds:List bYL):Prop:=
 ∀ (s:bYO)(a:List bYL),K.In s.heap->(a++ds).length=ps.length->BindsTo s fd ⟨a,[]⟩ (ps.zip (a++ds))
def v6.all{K:bYM}{fd:cXK}{ps:List Str}(h:∀a:List bYL,a.length=ps.length->cZt fd ⟨a,[]⟩=pure (ps.zip a)):v6 K fd ps []:=λs a _ hl=>by
 rw[cQO]at hl ⊢;exact .of_eq (h a hl)
def vP(CX:CXT)(X:Cx)(E:XK):Prop:=∀ (pins:List (Addr×Obj))(σ:St)(H:Hp)(s:bYO)(e:bYL)(s':bYO),Inv X pins σ H s->CX X.stack H s E e s'->X.xe e s'
section
variable {X:Cx}{CX:CXT}{k:Nat}{f C:Addr}{fd:cXK}{ps:List Str}{sp:Sp}{dvs:List V}{ds:List bYL}{E:XK}{x m:Str}{p pos apos:Pos}{e o:Expr}{es:List Expr}{ta:TE}{t:TA}
def aZ1{pins:List (Addr×Obj)}{σ:St}{H:Hp}{s:bYO}{Q:VK}{us:List bYL}{vs:List V}(F:xE X.prog X.w X.K X.mg X.base CX k f fd ps sp)(d:vW k X.A)(c:v6 X.K fd ps ds)(g:xW dvs ds)(i:vP CX X E) (I:Inv X pins σ H s) (r:xW vs us) (h:sp (vs++dvs) H Q E):bYT (bYV X.prog X.w) X.A (call (.ref f) us) (EP X pins σ Q) X.xe s:=by
 have b:xW (vs++dvs) (us++ds):=r.append g;have hl:(us++ds).length=ps.length:=by rw[<- b.length];exact F.len _ _ _ _ h
 refine cZY (cXE (F.run X.A X.stack s H ⟨us,[]⟩ (us++ds) (vs++dvs) Q E d I.env0 (c s us I.kIn hl) b h) λr s' a=>?_);cases r with
 |error e=>exact i pins σ H s e s' I a
 |ok j=>
  cases j with
  |ret u=>exact I.after a
  |next=>exact cXi a
  |brk=>exact cXi a
  |cont=>exact cXi a
def aYW(F:xE X.prog X.w X.K X.mg X.base CX k f fd ps sp)(g:vW k X.A)(m:Gl X x)(o:X.mg x=some (.ref f))(c:cQH X.K (.ref f)=true)(d:v6 X.K fd ps ds)(j:xW dvs ds)(l:vP CX X E)
  (n:PA X (e::es) t) (b:(x==("__debug__":Str))=false:=by decide) (i:cQr (e::es) X.env=(false,eval e X.env)::cQr es X.env:=by rfl) (a:(cXp pos (cQr es X.env)).any (·.1)=false:=by rfl):
  PE X (.Call (.Name x p) (e::es) [] pos) (bZK sp dvs E t):=by
 intro pins s σ H Q I h
 refine cXq (uW I m o ?_ b)
 refine cZC (h₀:=X.base) I.ok.mod.kin c (thn (n pos pins s σ H _ I h) λus s1 ⟨vs,H1,I1,r,q⟩=>⟨I1.kIn,?_⟩) i a
 exact aZ1 F g d j l I1 r q
def bVs{pl:Sem Bool}(p:PE X o ta)(c:Cls X.K C)(g:bWg X.K C m f)(F:xE X.prog X.w X.K X.mg X.base CX k f fd ps sp)(n:vW k X.A)(j:v6 X.K fd ps ds)(v:xW dvs ds)(y:vP CX X E)(z:PA X (e::es) t)
  (b:cQr (e::es) X.env=(false,eval e X.env)::cQr es X.env:=by rfl) (d:(cXp pos (cQr es X.env)).any (·.1)=false:=by rfl)
  (i:eval (.Call (.Attribute o m apos) (e::es) [] pos) X.env=(do
   let ov <- eval o X.env
   standAt apos.atName
   let (f,first) <- cZ5 [ov] (cJd ov m pl)
   callWith pos f first (cXp pos (cQr (e::es) X.env)) (cZX pos (cX7 [] X.env))):=by rfl):
  PE X (.Call (.Attribute o m apos) (e::es) [] pos) (bZN C m sp dvs E ta t):=by
 intro pins s σ H Q I h
 refine cZO (pl:=pl) (thn (p pins s σ H _ I h) λu s1 ⟨x,H1,I1,rx,a,dx,fs,ex,ea,l,q⟩=>?_) i
 subst ex
 obtain rfl:u=Value.ref a:=rx
 refine X3 I1 ea c g l ?_
 refine cZC (first:= [.ref a]) (h₀:=X.base) I.ok.mod.kin g.kp (thn (z pos pins s1 σ H1 _ I1 q) λus s2 ⟨vs,H2,I2,r,q2⟩=>⟨I2.kIn,?_⟩) b d
 exact aZ1 (us:= .ref a::us) (vs:= .ref a::vs) F n j v y I2 (.cons rfl r) q2
def bZb{pl:Sem Bool}(n:PE X o ta)(c:Cls X.K C)(b:bWg X.K C m f)(F:xE X.prog X.w X.K X.mg X.base CX k f fd ps sp)(d:vW k X.A)(j:v6 X.K fd ps ds)(e:xW dvs ds)(g:vP CX X E)
  (i:eval (.Call (.Attribute o m apos) [] [] pos) X.env=(do
   let ov <- eval o X.env
   standAt apos.atName
   let (f,first) <- cZ5 [ov] (cJd ov m pl)
   callWith pos f first (cXp pos (cQr [] X.env)) (cZX pos (cX7 [] X.env))):=by rfl):
  PE X (.Call (.Attribute o m apos) [] [] pos) (bZN C m sp dvs E ta bZO):=by
 intro pins s σ H Q I h
 refine cZO (pl:=pl) (thn (n pins s σ H _ I h) λu s1 ⟨x,H1,I1,rx,a,dx,fs,ex,ea,l,q⟩=>?_) i
 subst ex
 obtain rfl:u=Value.ref a:=rx
 refine X3 I1 ea c b l ?_
 exact cJJ (first:= [.ref a]) I1.kIn b.kp (aZ1 (us:= [.ref a]) (vs:= [.ref a]) F d j e g I1 (.cons rfl .nil) q)
structure Mk(K:bYM)(C f:Addr):Prop where
 makes:PySem.W.makesIn K C=true
 init:cQx K (.ref C) "__init__"=some (some (.ref f))
 fn:cZq K (.ref f)=true
 kp:cQH K (.ref C)=true
def aVY{pins:List (Addr×Obj)}{σ:St}{H:Hp}{s:bYO}{Q:VK}{us:List bYL}{vs:List V}(M:Mk X.K C f)(F:xE X.prog X.w X.K X.mg X.base CX k f fd ps sp)(i:vW (k+1) X.A)(g:v6 X.K fd ps ds)(j:xW dvs ds) (l:vP CX X E) (I:Inv X pins σ H s) (r:xW vs us) (h:∀x dx,H x=none->H dx=none->dx≠x->sp (.ref x::(vs++dvs)) (upd (upd H dx (.own x)) x (.ins C dx [])) (λv H2=>v= .non/\Q (.ref x) H2) E): bYT (bYV X.prog X.w) X.A (call (.ref C) us) (EP X pins σ Q) X.xe s:=by
 have d:=h (s.heap.objs.size+1) s.heap.objs.size (I.hok.fresh (cXU _)) (I.hok.fresh (bYS _)) (cQc (cXC _));have b:=Inv.made (C:=C) I;have c:xW (V.ref (s.heap.objs.size+1)::(vs++dvs)) (Value.ref (s.heap.objs.size+1)::(us++ds)):= .cons rfl (r.append j);have hl:(Value.ref (s.heap.objs.size+1)::us++ds).length=ps.length:=by have e:=c.length;rw[F.len _ _ _ _ d]at e;exact e.symm
 refine cZY (bXE (f:=f) I.kIn M.makes M.init (beq_iff_eq.mp M.fn) (cXE (F.run _ X.stack _ _ ⟨Value.ref (s.heap.objs.size+1)::us,[]⟩ (Value.ref (s.heap.objs.size+1)::(us++ds)) _ _ E (i.make C us []) (b.env0.make C us []) (g _ (Value.ref (s.heap.objs.size+1)::us) b.kIn hl) c d) λr s' a=>?_));cases r with
 |error e=>exact l pins σ _ _ e s' b a
 |ok p=>
  cases p with
  |ret u=>obtain⟨v,H',m,q,o,n⟩:=b.after a;subst o;exact⟨q,⟨V.ref (s.heap.objs.size+1),H',m,rfl,n⟩⟩
  |next=>exact cXi a
  |brk=>exact cXi a
  |cont=>exact cXi a
def bVr(M:Mk X.K C f)(F:xE X.prog X.w X.K X.mg X.base CX k f fd ps sp)(d:vW (k+1) X.A)(l:Gl X x)(n:X.mg x=some (.ref C))(c:v6 X.K fd ps ds)(i:xW dvs ds)(j:vP CX X E)
  (m:PA X (e::es) t) (b:(x==("__debug__":Str))=false:=by decide) (g:cQr (e::es) X.env=(false,eval e X.env)::cQr es X.env:=by rfl) (a:(cXp pos (cQr es X.env)).any (·.1)=false:=by rfl):
  PE X (.Call (.Name x p) (e::es) [] pos) (bZM C sp dvs E t):=by
 intro pins s σ H Q I h
 refine cXq (uW I l n ?_ b)
 refine cZC (h₀:=X.base) I.ok.mod.kin M.kp (thn (m pos pins s σ H _ I h) λus s1 ⟨vs,H1,I1,r,q⟩=>⟨I1.kIn,?_⟩) g a
 exact aVY M F d c i j I1 r q
def bZa(M:Mk X.K C f)(F:xE X.prog X.w X.K X.mg X.base CX k f fd ps sp)(b:vW (k+1) X.A)(g:Gl X x)(c:X.mg x=some (.ref C))(i:v6 X.K fd ps ds)(d:xW dvs ds)(e:vP CX X E) (a:(x==("__debug__":Str))=false:=by decide):PE X (.Call (.Name x p) [] [] pos) (bZM C sp dvs E bZO):=by
 intro pins s σ H Q I h;refine cXq (uW I g c ?_ a);exact cJJ I.kIn M.kp (aVY (us:= []) M F b i d e I .nil h)
end
section
variable {X:Cx}{CX:CXT}{k:Nat}{f C:Addr}{fd:cXK}{ps ks:List Str}{sp:Sp}{E:XK}{x m:Str}{p pos apos kpos:Pos}{e o:Expr}{es:List Expr}{kws:List Keyword}{te ta:TE}{t tk:TA}{nm:Option Str}
variable {g:List bYL->List bYL->List bYL}{gV:List V->List V->List V}
end
structure yN(N P:List Str)(sc:cX1):Prop where
 kind:sc.kind= .function
 co:sc.isCoroutine=false
 gen:sc.isGenerator=false
 nd:N.Nodup
 pre:N.take P.length=P
 par:∀x∈P,sc.names.lookup x=some .local\/sc.names.lookup x=some .cell
 nofree:∀y∈sc.names,y.2≠ .free
def aZp{a:Str->Option cZH}{x:Str}:∀ {binds:List (Str×bYL)} {m:Str->Option bYL},(∀v,(x,v)∉binds)->bindL a binds m x=m x
 |[],_,_=>rfl
 |(n,v)::r,m,h=>by
  unfold bindL;rw[aZp λw hw=>h w (bYX _ hw)];split
  ·have:x≠n:=by rintro rfl;exact h v bY0
   simp[this]
  ·rfl
def aZn{a:Str->Option cZH}{x:Str}:∀ {binds:List (Str×bYL)} {m:Str->Option bYL},(∀v,(x,v)∉binds)->bindC a binds m x=m x
 |[],_,_=>rfl
 |(n,v)::r,m,h=>by
  unfold bindC;rw[aZn λw hw=>h w (bYX _ hw)];split
  ·rfl
  ·have:x≠n:=by rintro rfl;exact h v bY0
   simp[this]
def aZo{a:Str->Option cZH}{x:Str}{v:bYL}:∀ {P:List Str} {vs:List bYL} {i:Nat} {m:Str->Option bYL},P.Nodup->P[i]? =some x->vs[i]? =some v->a x=some .local->
  bindL a (P.zip vs) m x=some v
 |[],_,_,_,_,h,_,_=>by simp at h
 |_::_,[],_,_,_,_,h,_=>by simp at h
 |p::P,w::vs,0,m,nd,h1,h2,hk=>by simp at h1 h2;subst h1;subst h2;show bindL a ((p,w)::P.zip vs) m p=_;unfold bindL;rw[aZp λv b=>(cXY.mp nd).1 (List.of_mem_zip b).1,if_pos hk];simp
 |p::P,w::vs,i+1,m,nd,h1,h2,hk=>by show bindL a ((p,w)::P.zip vs) m x=_;unfold bindL;exact aZo (i:=i) (cXY.mp nd).2 (by simpa using h1) (by simpa using h2) hk
def aZm{a:Str->Option cZH}{x:Str}{v:bYL}:∀ {P:List Str} {vs:List bYL} {i:Nat} {m:Str->Option bYL},P.Nodup->P[i]? =some x->vs[i]? =some v->a x≠some .local->
  bindC a (P.zip vs) m x=some v
 |[],_,_,_,_,h,_,_=>by simp at h
 |_::_,[],_,_,_,_,h,_=>by simp at h
 |p::P,w::vs,0,m,nd,h1,h2,hk=>by simp at h1 h2;subst h1;subst h2;show bindC a ((p,w)::P.zip vs) m p=_;unfold bindC;rw[aZn λv b=>(cXY.mp nd).1 (List.of_mem_zip b).1,if_neg hk];simp
 |p::P,w::vs,i+1,m,nd,h1,h2,hk=>by show bindC a ((p,w)::P.zip vs) m x=_;unfold bindC;exact aZm (i:=i) (cXY.mp nd).2 (by simpa using h1) (by simpa using h2) hk
def start(N:List Str)(vs:List V):St:=vs.map some++cZj (N.length - vs.length) none
def aXE(CX:CXT)(P:bY7)(w:cQf)(K:bYM)(mg:Str->Option bYL)(base:Heap)(N:List Str)(qual:Str)(scope:cX1)(f:Addr)(cd:bYL)(A:cQt)(outer:List Env)(s:bYO)(H:Hp)(E:XK):Cx where
 prog:=P
 w:=w
 K:=K
 mg:=mg
 base:=base
 A:=A.deeper (cXJ qual scope s.heap.objs.size f cd)
 N:=N
 s₀:=s
 H₀:=H
 env:=cXJ qual scope s.heap.objs.size f cd
 outer:=outer
 stack:=cXJ qual scope s.heap.objs.size f cd::outer
 ex:= []
 calm:=true
 fn:=λ_=>true
 pn:= []
 xe:=λe s'=>bYT (bYV P w) (A.deeper (cXJ qual scope s.heap.objs.size f cd)) (leaving (cXJ qual scope s.heap.objs.size f cd) e) (λ_ s''=>CX outer H s E e s'') (λe' s''=>CX outer H s E e' s'') s'
def aVA{a:cX1}{n:Nat}{x:Str}(h:a.names.lookup x=some .cell):∃c,(cellsFrom n a.names []).lookup x=some c:=by
 have q:=PySem.W.cellsFrom_some a.names n [] (.inl h);exact Option.isSome_iff_exists.mp q
def aYb{CX:CXT}{P:bY7}{w:cQf}{K:bYM}{mg:Str->Option bYL}{base:Heap}{N ps:List Str}{qual:Str}{scope:cX1}{f:Addr}{o:bYL}{A:cQt}{outer:List Env}{s B:bYO}{H:Hp}{E:XK}{us:List bYL}{vs:List V} (S:yN N ps scope) (D:A.handled=none) (d:bJA P w K mg base A outer s H) (hl:vs.length=ps.length) (r:xW vs us) (x:InCallC s s.heap.objs.size (bindL (cXJ qual scope s.heap.objs.size f o).kindOf (ps.zip us) λ_=>none) (cellsFrom (s.heap.objs.size+1) scope.names []) (bindC (cXJ qual scope s.heap.objs.size f o).kindOf (ps.zip us) λ_=>none) B): Inv (aXE CX P w K mg base N qual scope f o A outer s H E) [] (start N vs) H B:=by
 have F:ps.length<=N.length:=by have:=congrArg cXT S.pre;rw[cQ4]at this;omega
 obtain⟨h1,tk,rfl,t⟩:=x.done;have g:∀b:Addr,b∉(aXE CX P w K mg base N qual scope f o A outer s H E).ex:=λb z=>absurd (show b∈([]:List Addr)from z) (by simp);refine⟨⟨d.mod,S.kind,rfl,rfl,bYS _,λy z c h1 h2=>?_,λy j=>?_,λy c _ h=>?_,λ_=>D,Around.frames_deeper d.frames,.inr ⟨rfl,rfl⟩,λb z=>absurd z (g b),d.bs,d.bsz,λb _ _=>g b,λb z=>absurd z (g b),d.funs,d.frf⟩,rfl,d.bare,Un.kept t,⟨_,x.toInCall.ns,λi y v h1 h2 J=>?_⟩,λy c h=>⟨_,x.cell y c h⟩,d.hok.fresh (bYS _),λy c h=>?_,λp m=>absurd (show p∈([]:List (Addr×Obj))from m) (by simp),d.hok.kept t,?_⟩
 ·exact name_of_addr x.apart (cXg h1) (cXg h2)
 ·have j:scope.names.lookup y=some .cell\/scope.names.lookup y=some .free:=j;rcases j with j|j
  ·exact aVA j
  ·exact absurd rfl (S.nofree _ (cXg j))
 ·exact cZo (x.above y c (cXg h))
 ·have hi:i<vs.length:=by
   unfold start at h2;by_cases hi:i<vs.length
   ·exact hi
   ·rw[cQb (by simpa using hi)]at h2;rw[List.getElem?_replicate]at h2;split at h2<;> cases h2
  have I:vs[i]? =some v:=by
   unfold start at h2;rw[cQs (by simpa using hi),bY5]at h2;cases e:vs[i]? with
   |none=>rw[e]at h2;cases h2
   |some a=>rw[e]at h2;cases h2;rfl
  obtain⟨u,C,G⟩:=r.get I;have m:ps[i]? =some y:=by rw[<- S.pre,List.getElem?_take_of_lt (by omega)];exact h1
  have l:ps.Nodup:=by rw[<- S.pre];exact S.nd.sublist (List.take_sublist _ _)
  refine⟨u,G,?_⟩;rcases S.par y (bY3 m)with k|k
  ·exact .inl ⟨k,aZo l m C k⟩
  ·obtain⟨c,e⟩:=aVA (n:=s.heap.objs.size+1) k;refine .inr ⟨.inl k,c,e,?_⟩;have q:=x.cell y c e;rw[aZm l m C (by show scope.names.lookup y≠_;rw[k];decide)]at q;exact q
 ·exact d.hok.fresh (cZo (x.above y c (cXg h)))
 ·unfold start;show _=N.length;rw[bY8,bYP,List.length_replicate];omega
def bJR{CX:CXT}{P:bY7}{w:cQf}{K:bYM}{mg:Str->Option bYL}{base:Heap}{k:Nat}{f:Addr}{name qual:Str}{c:Arguments}{body:List Stmt}{scope:cX1}{F kV j L a ct oc:bYL}{M U:Option Addr} {C:Array (Option bYL)} {N ps:List Str} {sp:Sp} (lk:K.lookup f=some ⟨oc,U,.func (cQR name qual c body scope F kV j L M a ct),C⟩) (B:cXu K a qual=true) (S:yN N ps scope) (len:∀vs H Q E,sp vs H Q E->vs.length=ps.length) (g:∀ (A:cQt)(outer:List Env)(s:bYO)(H:Hp)(vs:List V)(Q:VK)(E:XK),vW k (A.deeper (cXJ qual scope s.heap.objs.size f a))->sp vs H Q E-> ∃t,PSs (aXE CX P w K mg base N qual scope f a A outer s H E) body t/\t {nx:=λ_ H'=>Q .non H',rt:=Q} (start N vs) H): xE P w K mg base CX (k+1) f (cQR name qual c body scope F kV j L M a ct) ps sp:=by
 refine⟨len,λA outer s H args X vs Q E p l T r m=>?_⟩;have hl:=len _ _ _ _ m;have O:K.In s.heap:=l.mod.kin.keeps λb o e=>(l.bs b o e).1;have z:s.heap.NoLimit:=l.mod.nolimit.keeps λb o e=>(l.bs b o e).1;have h:∀y∈ps.zip X,scope.names.lookup y.1=some .local\/(scope.names.lookup y.1=some .cell/\((cellsFrom (s.heap.objs.size+1) scope.names []).lookup y.1).isSome=true):=λ⟨n,v⟩ hy=>by
  rcases S.par n (List.of_mem_zip hy).1 with q|q
  ·exact .inl q
  ·exact .inr ⟨q,PySem.W.cellsFrom_some _ _ _ (.inl q)⟩
 refine codeAny_call_function p.depth (O _ _ lk) rfl S.co S.gen rfl (PySem.W.codeRec_of O B) (T _ _ _ _ ?_);refine wpAny_newFunctionEnv_cells S.kind h λenv Y G x=>?_;subst Y;refine⟨z.keeps x.toInCall.keep,codeAny_func ?_⟩;obtain⟨t,R,Z⟩:=g A outer s H vs Q E (p.deeper _) m;have I:Inv (aXE CX P w K mg base N qual scope f a A outer s H E) [] (start N vs) H G:=aYb S p.hd l hl r x;refine cQP (R [] G (start N vs) H _ I Z) (λfl s' i=>?_) λe s' i=>i;have fin:∀ {d:St} {H':Hp} {v:V} {u:bYL},Inv (aXE CX P w K mg base N qual scope f a A outer s H E) [] d H' s'->zO v u->Q v H'->CE outer P w H s Q u s':=
  λ{d H' v u} J D q=>⟨v,H',J.os,J.bare,J.base,J.hok,D,q⟩
 cases fl with
 |ret u=>obtain⟨v,d,H',J,D,q⟩:=i;exact fin J D q
 |next=>obtain⟨d,H',J,q⟩:=i;exact fin (v:=V.non) (u:=Value.none) J rfl q
 |brk=>obtain⟨_,_,_,q⟩:=i;exact cXi q
 |cont=>obtain⟨_,_,_,q⟩:=i;exact cXi q
end L2
namespace L2
open PySem PySem.Spec PyProof.Rows
section
variable {X:Cx}{x:Str}{p pos:Pos}{e:Expr}{es:List Expr}{t:TA}{id T:String}{r:List V->Hp->VK->Prop}
def tCB(r:List V->Hp->VK->Prop)(t:TA):TE:=λσ H Q=>t σ H λa H1=>r a H1 Q
def yQ(f:qE X (.builtin id) r)(j:Gl X x)(c:X.mg x=none)(d:cQw x=some (.builtin id))(g:PA X (e::es) t)(i:x≠"__name__":=by decide)(b:(x==("__debug__":Str))=false:=by decide)
  (k:cQr (e::es) X.env=(false,eval e X.env)::cQr es X.env:=by rfl) (a:(cXp pos (cQr es X.env)).any (·.1)=false:=by rfl):PE X (.Call (.Name x p) (e::es) [] pos) (tCB r t):=by
 intro pins s σ H Q I h
 refine cXq (aXp I j c d ?_ i b)
 exact PyProof.Rows.callWith_builtin1 (thn (g pos pins s σ H _ I h) λus s1 ⟨vs,H1,I1,r1,q1⟩=>f pins s1 σ H1 vs us Q I1 r1 q1) k a
def x5(f:qE X (.type T) r)(j:Gl X x)(c:X.mg x=none)(d:cQw x=some (.type T))(g:PA X (e::es) t)(i:x≠"__name__":=by decide)(b:(x==("__debug__":Str))=false:=by decide)
  (k:cQr (e::es) X.env=(false,eval e X.env)::cQr es X.env:=by rfl) (a:(cXp pos (cQr es X.env)).any (·.1)=false:=by rfl):PE X (.Call (.Name x p) (e::es) [] pos) (tCB r t):=by
 intro pins s σ H Q I h
 refine cXq (aXp I j c d ?_ i b)
 exact cZQ (thn (g pos pins s σ H _ I h) λus s1 ⟨vs,H1,I1,r1,q1⟩=>f pins s1 σ H1 vs us Q I1 r1 q1) k a
end
end L2
namespace HT
open PySem PyProof.Rows
def bZf(A:cQt)(s:bYO)(a:Int)(t:Tok)(c:Int)(u:Tok)(prog:bY7)(w:cQf)(E:bYL->bYO->Prop)(Q:bYL->bYO->Prop)(h:Q (.bool (decide (a<c))) s): bYT (bYV prog w) A (richCompare .Lt (.int a t) (.int c u)) Q E s:=
 (PyProof.Rows.lt_int h:bYT (bYV prog w) A (cXh .Lt (.int a t) (.int c u)) Q E s)
section
open PySem.SeqAt
open PySem.AutoSeq1 (wpAny_loadPart')
open PySem.MeetsSeq PySem.MeetsSeq2 PySem.MeetsSeq3
end
section
variable {prog:bY7}{w:cQf}{A:cQt}{E:bYL->bYO->Prop}{s:bYO}
def bJH{t b:Addr}{vs a:List bYL}{Q:bYL->bYO->Prop}(v:cZJ s.heap t vs.toArray)(x:cZJ s.heap b a.toArray)(u:vs≠ []) (h1:a= []->Q (.ref t) s) (h2:a≠ []->Q (.ref s.heap.objs.size) {s with heap:=s.heap.push {cls:= .type "tuple",data:= .seq (vs++a).toArray} }) (j:vs.length+a.length<=cQd):bYT (bYV prog w) A (cZs .Add (.ref t) (.ref b)) Q E s:=by
 obtain⟨⟨cls,q,data,o⟩,i,l,n,p⟩:=id v;obtain⟨⟨r,h,k,d⟩,c,f,m,g⟩:=id x;simp only at l p f g;subst l p f g;have e:vs.toArray++a.toArray=(vs++a).toArray:=by simp
 by_cases hw:a= []
 ·exact concat_meets ⟨_,i,rfl⟩ ⟨_,c,rfl⟩ noFill_tuple_add seq_tuple_add PySem.F.slot_tuple_add PySem.F.entry_tuple_add (cVc _ _)
   (tuple_addW1 t b vs.toArray a.toArray n m q h o d (by simpa using u) (by simp[hw])) ⟨i,c,h1 hw⟩
 ·refine concat_meets ⟨_,i,rfl⟩ ⟨_,c,rfl⟩ noFill_tuple_add seq_tuple_add PySem.F.slot_tuple_add PySem.F.entry_tuple_add (cVc _ _)
   (tuple_addW2 t b vs.toArray a.toArray n m q h o d (by simpa using u) (by simpa using hw) (by rw[bY4,bY4];exact j)) ⟨i,c,?_⟩
  rw[e];exact h2 hw
def sIx(n d:Nat):Option Int->Nat
 |none=>d
 |some v=>if v<0 then(v+(n:Int)).toNat else min v.toNat n
def bZh(n d:Nat):sIx n d none=d:=rfl
end
end HT
namespace L2
open PySem PySem.Spec PyProof.Rows
abbrev TO:=St->Hp->(Option Int->Hp->Prop)->Prop
def PO(X:Cx)(e:Option Expr)(t:TO):Prop:=
 ∀ (pins:List (Addr×Obj))(s:bYO)(σ:St)(H:Hp)(Q:Option Int->Hp->Prop),Inv X pins σ H s->t σ H Q->
  bYT (bYV X.prog X.w) X.A (evalPart e X.env) (λu s'=>∃o H',Inv X pins σ H' s'/\IsPart u o/\Q o H') X.xe s
def bV8:TO:=λ_ H Q=>Q none H
inductive bKp(Q:Option Int->Hp->Prop)(x:V)(H1:Hp):Prop|mk (i) (_:x= .int i) (_:Q (some i) H1)
def bYb(t:TE):TO:=λσ H Q=>t σ H λx H1=>bKp Q x H1
def aXn{a:List Int}:∀ {us:List bYL},xW (a.map V.int) us->cZi us a:=by
 induction a with
 |nil=>intro us r;rw[List.map_nil]at r;cases r;exact .nil
 |cons n a d=>
  intro us r;rw[cQy]at r;cases r with
  |cons c b=>obtain⟨t,e⟩:=c;subst e;exact .cons n t (d b)
section
variable {X:Cx}{e:Expr}{te:TE}{lo hi:Option Expr}{tl th:TO}{pos p2:Pos}
def aJ2:PO X none bV8:=by
 intro pins s σ H Q I h;rw[evalPart_none];exact bYR ⟨none,H,I,.none,h⟩
def aQH(h:PE X e te):PO X (some e) (bYb te):=by
 intro pins s σ H Q I hw;rw[evalPart_some];refine thn (h pins s σ H _ I hw) λu s1 ⟨x,H1,I1,r1,q1⟩=>?_;obtain⟨i,rfl,q⟩:=q1;obtain⟨t,rfl⟩:=r1;exact⟨some i,H1,I1,.int i t,q⟩
def SlR(X:Cx)(r:V->Option Int->Option Int->Hp->VK->Prop):Prop:=
 ∀ (pins:List (Addr×Obj))(s:bYO)(σ:St)(H:Hp)(x:V)(v c a:bYL)(lo hi:Option Int)(b:Addr)(Q:VK),Inv X pins σ H s->zO x v->s.heap.IsSliceOf b c a .none->IsPart c lo->IsPart a hi->r x lo hi H Q->
  ∃T id,typeLookup (.type T) "__getitem__"=pure (some (.builtin id))/\s.TypeIs v T/\bYT (bYV X.prog X.w) X.A (getItem v (.ref b)) (EP X pins σ Q) X.xe s
def tSl(r:V->Option Int->Option Int->Hp->VK->Prop)(te:TE)(tl th:TO):TE:=λσ H Q=>te σ H λx H1=>tl σ H1 λl H2=>th σ H2 λu a=>r x l u a Q
def Q5{r:V->Option Int->Option Int->Hp->VK->Prop}(c:SlR X r)(d:PE X e te)(hl:PO X lo tl)(g:PO X hi th):PE X (.Subscript e (.Slice lo hi none p2) pos) (tSl r te tl th):=by
 intro pins s σ H Q I h;refine Subscript_ (thn (d pins s σ H _ I h) λv s1 ⟨x,H1,I1,r1,q1⟩=>?_);refine wpAny_Slice (thn (hl pins s1 σ H1 _ I1 q1) λvl s2 ⟨l,H2,I2,pl,q2⟩=>thn (g pins s2 σ H2 _ I2 q2) λvu s3 ⟨u,H3,I3,pu,q3⟩=>?_);rw[evalPart_none];refine bYR ?_;have j:Inv X pins σ H3 {s3 with heap:=s3.heap.push {cls:= .type "slice",data:= .fields #[vl,vu,.none] } }:=I3.kept (t':=s3.toks) λb k q=>bYQ _ q;obtain⟨T,id,f,a,i⟩:=c pins {s3 with heap:=s3.heap.push {cls:= .type "slice",data:= .fields #[vl,vu,.none] } } σ H3 x v vl vu l u s3.heap.objs.size Q j r1 (Heap.IsSliceOf.new ..) pl pu q3;show bYT (bYV X.prog X.w) X.A (subscriptTail e (.Slice lo hi none p2) v (.ref s3.heap.objs.size)) (EP X pins σ Q) X.xe {s3 with heap:=s3.heap.push {cls:= .type "slice",data:= .fields #[vl,vu,.none] } };exact tail_any (ops:= [.ref s3.heap.objs.size,v]) a f i (by with_unfolding_all rfl)
def Z5(xs:List V)(lo hi:Option Int):List V:=(xs.drop (HT.sIx xs.length 0 lo)).take (HT.sIx xs.length xs.length hi - HT.sIx xs.length 0 lo)
def aJA(xs:List V)(lo hi:Option Int):(Z5 xs lo hi).length<=xs.length:=by
 unfold Z5;rw[cQ4,List.length_drop];omega
inductive bKV(K:bYM)(x:V)(y:V)(H:Hp)(Q:VK):Prop|mk (a b xs ys) (_:x= .ref a) (_:y= .ref b) (_:SqT K H a xs) (_:SqT K H b ys) (_:xs≠ []) (_:xs.length+ys.length<=cQd) (_:(ys= []->Q (.ref a) H)) (_:(ys≠ []->∀p,H p=none->Q (.ref p) (upd H p (.tup (xs++ys)))))
def xW.nil_iff{xs:List V}{us:List bYL}(r:xW xs us):us= []↔xs= []:=by
 cases r with
 |nil=>simp
 |cons _ _=>simp
def bVp:OpR X (cZs .Add) (bKV X.K):=by
 intro pins s σ H x y v u Q I n r h;obtain⟨a,b,xs,ys,rfl,rfl,p,g,l,e,j,i⟩:=h;cases n;cases r;obtain⟨k,d,m,_⟩:=I.tuple p;obtain⟨f,c,p2,_⟩:=I.tuple g;refine HT.bJH m p2 (λz=>l (d.nil_iff.mp z)) (λz=>⟨.ref a,H,I,rfl,j (c.nil_iff.mp z)⟩) (λz=>?_) (by rw[<- d.length,<- c.length];exact e);refine⟨.ref s.heap.objs.size,_,I.laid (t':=s.toks) (o:= .tup (xs++ys)) (λb t q=>bYQ _ q) (bYS _) ?_,rfl,i (λw=>z (c.nil_iff.mpr w)) _ (I.hok.fresh (bYS _))⟩;exact⟨by rw[bY8];exact e,_,d.append c,IsTup.new _ _⟩
end
end L2
namespace L2
open PySem PySem.Spec PyProof.Rows
def ixN(n:Nat)(i:Int):Option Nat:=if 0<=i then(if i<n then some i.toNat else none)else if -(n:Int)<=i then some (i+n).toNat else none
def atI{α:Type}(xs:List α)(i:Int):Option α:=(ixN xs.length i).bind λj=>xs[j]?
def aYe{n:Nat}{i:Int}{j:Nat}(h:ixN n i=some j):seqIndex? i n=some j/\j<n/\ -(n:Int)<=i/\i<n:=by
 unfold ixN at h;by_cases h0:0<=i
 ·rw[if_pos h0]at h;by_cases h1:i<n
  ·rw[if_pos h1]at h;have e:i.toNat=j:=bY6 h;exact⟨by rw[seqIndex_of h0 h1,e],by omega,by omega,h1⟩
  ·rw[if_neg h1]at h;cases h
 ·rw[if_neg h0]at h;by_cases h1: -(n:Int)<=i
  ·rw[if_pos h1]at h;have e:(i+n).toNat=j:=bY6 h;exact⟨by rw[seqIndex_neg (by omega) h1,e],by omega,h1,by omega⟩
  ·rw[if_neg h1]at h;cases h
def aJs{α:Type}{xs:List α}{i:Int}{v:α}(h:atI xs i=some v):∃j,seqIndex? i xs.length=some j/\xs[j]? =some v/\j<xs.length/\ -(xs.length:Int)<=i/\i<xs.length:=by
 unfold atI at h;cases e:ixN xs.length i with
 |none=>rw[e]at h;cases h
 |some j=>rw[e]at h;obtain⟨h1,h2,a,b⟩:=aYe e;exact⟨j,h1,h,h2,a,b⟩
def yT{α:Type}{xs:List α}{j:Nat}{v:α}(h:xs[j]? =some v):atI xs (j:Int)=some v:=by
 have a:j<xs.length:=(bYW.mp h).1;have e:ixN xs.length (j:Int)=some j:=by unfold ixN;rw[if_pos (by omega),if_pos (by omega)];simp
 unfold atI;rw[e];exact h
def bJF(b:Expr):Prop:=∀o i,subscripted b false o i=operate [o,i] (getItem o i)
def IxR(X:Cx)(r:R2):Prop:=
 ∀ (value a:Expr)(pins:List (Addr×Obj))(s:bYO)(σ:St)(H:Hp)(x y:V)(v u:bYL)(Q:VK),Inv X pins σ H s->zO x v->zO y u->r x y H Q->
  subscripted a false v u=operate [v,u] (getItem v u)->bYT (bYV X.prog X.w) X.A (subscriptTail value a v u) (EP X pins σ Q) X.xe s
def MtR(X:Cx)(id:String)(r:V->List V->Hp->VK->Prop):Prop:=
 ∀ (pins:List (Addr×Obj))(s:bYO)(σ:St)(H:Hp)(x:V)(xs:List V)(v:bYL)(a:List bYL)(Q:VK),Inv X pins σ H s->zO x v->xW xs a->r x xs H Q->
  bYT (bYV X.prog X.w) X.A (call (.builtin id) (v::a)) (EP X pins σ Q) X.xe s
section
variable {X:Cx}{a b:Expr}{ta tb:TE}{pos:Pos}
def IxR.or{r c:R2}(h:IxR X r)(h':IxR X c):IxR X (λx y H Q=>r x y H Q\/c x y H Q):=by
 intro value a pins s σ H x y v u Q I d e q b;rcases q with q|q
 ·exact h value a pins s σ H x y v u Q I d e q b
 ·exact h' value a pins s σ H x y v u Q I d e q b
def yL{r:R2}(e:IxR X r)(i:PE X a ta)(d:PE X b tb)(f:bJF b:=by exact λ_ _=>rfl):PE X (.Subscript a b pos) (tOp r ta tb):=by
 intro pins s σ H Q I h;exact Subscript_ (bKM i d I h λv u c x y H2 j g k q=>e a b pins c σ H2 x y v u Q j g k q (f _ _))
inductive bWh(K:bYM)(x:V)(y:V)(H:Hp)(Q:VK):Prop|mk (p xs i v) (_:x= .ref p) (_:y= .int i) (_:SqL K H p xs) (_:atI xs i=some v) (_:Q v H)
inductive bKW(K:bYM)(x:V)(y:V)(H:Hp)(Q:VK):Prop|mk (p xs i v) (_:x= .ref p) (_:y= .int i) (_:SqT K H p xs) (_:atI xs i=some v) (_:Q v H)
inductive bYj(x:V)(y:V)(H:Hp)(Q:VK):Prop|mk (z i c) (_:x= .str z) (_:y= .int i) (_:z.length<=cQd) (_:atI z.cps.toList i=some c) (_:Q (.str ⟨#[c]⟩) H)
def yK:IxR X (bWh X.K):=by
 intro value a pins s σ H x y v u Q I o A h f;obtain⟨p,xs,i,z,rfl,rfl,n,l,q⟩:=h;cases o;obtain⟨t,rfl⟩:=A;obtain⟨e,r,d,B⟩:=I.list n;obtain⟨j,h1,h2,C,m,k⟩:=aJs l;obtain⟨w,g,b⟩:=r.get h2;have hl:=r.length;have D:=aZM;have fin:EP X pins σ Q w s:=⟨z,H,I,b,q⟩;by_cases h0:0<=i
 ·have c:i.toNat=j:=by
   rw[seqIndex_of h0 k]at h1;exact bY6 h1
  exact item_listR d.isList h0 (by omega) (by rw[c];simpa using g) fin f
 ·have c:(i+(e.toArray.size:Int)).toNat=j:=by
   rw[seqIndex_neg (by omega) m]at h1;rw[bY4,<- hl];exact bY6 h1
  exact subscriptTail_builtinR (x:=w) d.isList.typeIs slot_list_getitem.lookup
   (wpAny_getItem_list_neg (Q:=λr s'=>r=w/\EP X pins σ Q r s') d.isList (by omega) (by rw[bY4]<;> omega) (by omega) (by rw[c];simpa using g) ⟨rfl,fin⟩) f
def yX:IxR X (bKW X.K):=by
 intro value a pins s σ H x y v u Q I l m h d;obtain⟨p,xs,i,z,rfl,rfl,k,f,q⟩:=h;cases l;obtain⟨t,rfl⟩:=m;obtain⟨g,r,c,n⟩:=I.tuple k;obtain⟨j,h1,h2,o,C,B⟩:=aJs f;obtain⟨w,e,b⟩:=r.get h2;have hl:=r.length;have A:=aZM;have fin:EP X pins σ Q w s:=⟨z,H,I,b,q⟩;exact subscriptTail_builtinR (x:=w) c.typeIs slot_tuple_getitem.lookup
  (getItem_tuple (j:=j) (Q:=λr s'=>r=w/\EP X pins σ Q r s') c (by omega) (by omega) (by rw[bY4,<- hl];exact h1) (by simpa using e) ⟨rfl,fin⟩) d
def aQl:IxR X bYj:=by
 intro value a pins s σ H x y v u Q I l m h b;obtain⟨z,i,c,rfl,rfl,n,e,q⟩:=h;obtain⟨t,rfl⟩:=l;obtain⟨r,rfl⟩:=m;obtain⟨j,h1,h2,o,g,d⟩:=aJs e;have hl:z.cps.toList.length=z.length:=by simp[Str.length]
 rw[hl]at h1 g d;have p:=aZM;exact tail_any (typeIs_str s z t) slot_str_getitem.lookup (getItem_str (c:=c) (by
  have k:decide (i< -(2 ^ 63:Int))=false:=decide_eq_false (by omega);have f:decide (i≥2 ^ 63)=false:=decide_eq_false (by omega);rw[k,f,Bool.or_false]) (by rw[h1];simpa using h2) ⟨.str ⟨#[c]⟩,H,I.tok _,⟨_,rfl⟩,q⟩) b
def rIx(K:bYM):R2:=λx y H Q=>bWh K x y H Q\/bKW K x y H Q\/bYj x y H Q
def aVI:IxR X (rIx X.K):=yK.or (yX.or aQl)
def aWU(its:List bYL)(n j:Nat)(u:bYL):cQF (·.setIfInBounds j u) {cls:= .type "list",data:= .seq its.toArray n}= {cls:= .type "list",data:= .seq (its.set j u).toArray n}:=by
 simp[cQF]
def Inv.lst{pins:List (Addr×Obj)}{σ:St}{H:Hp}{s:bYO}{p:Addr}{xs:List V}(I:Inv X pins σ H s)(h:H p=some (.lst xs)): ∃ (its:List bYL)(n:Nat),xW xs its/\s.heap.get? p=some {cls:= .type "list",data:= .seq its.toArray n}/\xs.length<=cQd:=by
 obtain⟨z,its,n,r,e⟩:=I.hok p _ h;exact⟨its,n,r,e,z⟩
def Inv.lstUpd{pins:List (Addr×Obj)}{σ:St}{H:Hp}{s:bYO}{p:Addr}{xs ys:List V}{its its':List bYL}{n a:Nat}{f:Obj->Obj}(I:Inv X pins σ H s)(h:H p=some (.lst xs)) (i:s.heap.get? p=some {cls:= .type "list",data:= .seq its.toArray n}) (c:f {cls:= .type "list",data:= .seq its.toArray n}= {cls:= .type "list",data:= .seq its'.toArray a}) (r:xW ys its') (d:ys.length<=cQd) (t:Nat): Inv X pins σ (upd H p (.lst ys)) {s with heap:=s.heap.update p f,toks:=t}:=by
 have e:(s.heap.update p f).get? p=some {cls:= .type "list",data:= .seq its'.toArray a}:=by rw[cQS f i (by rw[c]<;> rfl),c]
 refine I.write (x:=p) (e:=p) (by rw[h];trivial) (.inl rfl) (λb u g q=>(cQq _ _ (cQu g)).trans q) ⟨_,e⟩ ?_;exact⟨d,its',a,r,e⟩
inductive bKX(o:V)(i:V)(v:V)(H:Hp)(Q:(Hp->Prop)):Prop|mk (p xs k j) (_:o= .ref p) (_:i= .int k) (_:H p=some (.lst xs)) (_:ixN xs.length k=some j) (_:Q (upd H p (.lst (xs.set j v))))
def zV:bYh X bKX:=by
 intro pins s σ H o i v A B u Q I x m y h;obtain⟨p,xs,k,j,rfl,rfl,g,w,q⟩:=h;cases x;obtain⟨t,rfl⟩:=m;obtain⟨a,n,r,c,l⟩:=I.lst g;obtain⟨h1,h2,d,f⟩:=aYe w;have hl:=r.length;have z:=aZM;have e:Inv X pins σ (upd H p (.lst (xs.set j v))) {s with heap:=s.heap.update p (cQF (·.setIfInBounds j u)) }:=
  I.lstUpd g c (aWU a n j u) (r.set y j) (by rw[List.length_set];exact l) s.toks
 by_cases h0:0<=k
 ·have b:k.toNat=j:=by
   rw[seqIndex_of h0 f]at h1;exact bY6 h1
  exact PySem.W.ki_setAt c h0 (by omega) (by rw[bY4,<- hl];exact f) (by rw[b];exact⟨_,e,q⟩)
 ·have b:(k+(a.toArray.size:Int)).toNat=j:=by
   rw[seqIndex_neg (by omega) d]at h1;rw[bY4,<- hl];exact bY6 h1
  exact PySem.W.ki_setBack c (by omega) (by rw[bY4,<- hl];exact d) (by omega) (by rw[b];exact⟨_,e,q⟩)
def aZ7(lo hi:Option Int)(n:Nat):(cZ6 lo hi none n).1=((HT.sIx n 0 lo:Nat):Int)/\(cZ6 lo hi none n).2.1=((HT.sIx n n hi:Nat):Int)/\(cZ6 lo hi none n).2.2=1:=by
 refine⟨?_,?_,rfl⟩
 ·cases lo with
  |none=>simp[cZ6,HT.sIx]
  |some i=>
   simp only[cZ6,HT.sIx,Option.getD_none,show(1:Int) > 0 by decide,if_true];by_cases h:i<0
   ·simp only[h,if_true]<;> omega
   ·simp only[h,if_false]<;> omega
 ·cases hi with
  |none=>simp[cZ6,HT.sIx]
  |some i=>
   simp only[cZ6,HT.sIx,Option.getD_none,show(1:Int) > 0 by decide,if_true];by_cases h:i<0
   ·simp only[h,if_true]<;> omega
   ·simp only[h,if_false]<;> omega
def aX9(its:List bYL)(lo hi:Option Int):slicePick its.toArray lo hi none=((its.drop (HT.sIx its.length 0 lo)).take (HT.sIx its.length its.length hi - HT.sIx its.length 0 lo)).toArray:=by
 obtain⟨h1,h2,a⟩:=aZ7 lo hi its.toArray.size;unfold slicePick;rw[h1,h2,a];simp only[sliceRange_one,pick_run,bY4]<;> rfl
inductive bYA(K:bYM)(x:V)(lo:Option Int)(hi:Option Int)(H:Hp)(Q:VK):Prop|mk (a xs) (_:x= .ref a) (_:SqL K H a xs) (_:∀p,H p=none->Q (.ref p) (upd H p (.lst (Z5 xs lo hi))))
def aX8:SlR X (bYA X.K):=by
 intro pins s σ H x v n p lo hi t Q I l g i f h;obtain⟨a,xs,rfl,k,q⟩:=h;cases l;obtain⟨j,r,d,e⟩:=I.list k;have c:=r.length;refine⟨"list",_,slot_list_getitem.lookup,d.isList.typeIs,?_⟩;refine wpAny_getItem_list_slice d.isList g i f .none (by simp) ?_ (by rw[bY4]<;> omega);rw[aX9,<- c];refine⟨.ref s.heap.objs.size,_,I.laid (t':=s.toks) (o:= .lst (Z5 xs lo hi)) (λb m q=>bYQ _ q) (bYS _) ?_,rfl,q _ (I.hok.fresh (bYS _))⟩;exact⟨cQo (aJA xs lo hi) e,_,0,(r.drop (HT.sIx xs.length 0 lo)).take (HT.sIx xs.length xs.length hi - HT.sIx xs.length 0 lo),cQg _ rfl⟩
def J9:V->Bool
 |.non=>true
 |.bl _=>true
 |.int _=>true
 |.str _=>true
 |_=>false
def eqV:V->V->Bool
 |.non,.non=>true
 |.bl a,.bl b=>a==b
 |.bl a,.int b=>(if a then 1 else 0)==b
 |.int a,.bl b=>a==(if b then 1 else 0)
 |.int a,.int b=>a==b
 |.str a,.str b=>a==b
 |_,_=>false
def bZ9{A:cQt}{s:bYO}{y x:V}{u v:bYL}(f:zO y u)(c:zO x v)(g:J9 y=true)(e:J9 x=true):cVf A s u v (eqV y x):=by
 cases y with
 |non=>
  cases f;cases x with
  |non=>cases c;exact SeqAt.EqAt.same _
  |bl b=>cases c;exact SeqAt.EqAt.none_bool b
  |int b=>obtain⟨t,rfl⟩:=c;exact SeqAt.EqAt.none_int b t
  |str b=>obtain⟨t,rfl⟩:=c;exact SeqAt.EqAt.none_str b t
  |_=>exact absurd (show false=true from e) Bool.false_ne_true
 |bl a=>
  cases f;cases x with
  |non=>cases c;exact SeqAt.EqAt.bool_none a
  |bl b=>cases c;exact SeqAt.EqAt.bool_bool a b
  |int b=>obtain⟨t,rfl⟩:=c;exact SeqAt.EqAt.bool_int a b t
  |str b=>obtain⟨t,rfl⟩:=c;exact SeqAt.EqAt.bool_str a b t
  |_=>exact absurd (show false=true from e) Bool.false_ne_true
 |int a=>
  obtain⟨d,rfl⟩:=f;cases x with
  |non=>cases c;exact SeqAt.EqAt.int_none a d
  |bl b=>cases c;exact SeqAt.EqAt.int_bool a d b
  |int b=>obtain⟨t,rfl⟩:=c;exact SeqAt.EqAt.int_int a d b t
  |str b=>obtain⟨t,rfl⟩:=c;exact SeqAt.EqAt.int_str a d b t
  |_=>exact absurd (show false=true from e) Bool.false_ne_true
 |str a=>
  obtain⟨d,rfl⟩:=f;cases x with
  |non=>cases c;exact SeqAt.EqAt.str_none a d
  |bl b=>cases c;exact SeqAt.EqAt.str_bool a d b
  |int b=>obtain⟨t,rfl⟩:=c;exact SeqAt.EqAt.str_int a d b t
  |str b=>obtain⟨t,rfl⟩:=c;exact SeqAt.EqAt.str_str a d b t
  |_=>exact absurd (show false=true from e) Bool.false_ne_true
 |_=>exact absurd (show false=true from g) Bool.false_ne_true
def eqU(x:V)(u:bYL):Bool:=match u with
 |.none=>eqV .non x
 |.bool b=>eqV (.bl b) x
 |.int i _=>eqV (.int i) x
 |.str z _=>eqV (.str z) x
 |_=>false
def bJa{x y:V}{u:bYL}(r:zO y u)(f:J9 y=true):eqU x u=eqV y x:=by
 cases y with
 |non=>cases r;rfl
 |bl b=>cases r;rfl
 |int i=>obtain⟨t,rfl⟩:=r;rfl
 |str z=>obtain⟨t,rfl⟩:=r;rfl
 |_=>exact absurd (show false=true from f) Bool.false_ne_true
def aQf{x:V}:∀ {xs:List V} {us:List bYL},xW xs us->xs.all J9=true->us.any (eqU x)=xs.any λy=>eqV y x
 |_,_,.nil,_=>rfl
 |y::xs,u::us,.cons r t,f=>by rw[cZZ,Bool.and_eq_true]at f;rw[cX5,cX5,bJa r f.1,aQf t f.2]
def qZ{A:cQt}{s:bYO}{x:V}{v:bYL}(c:zO x v)(b:J9 x=true):∀ {xs:List V} {us:List bYL},xW xs us->xs.all J9=true->∀u∈us,cVf A s u v (eqU x u)
 |_,_,.nil,_=>λu a=>by cases a
 |y::xs,u::us,.cons r t,f=>λd a=>by
  rw[cZZ,Bool.and_eq_true]at f;rcases bYU.mp a with rfl|a
  ·rw[bJa r f.1];exact bZ9 r c f.1 b
  ·exact qZ c b t f.2 d a
def inV(x:V)(xs:List V):Bool:=xs.any λy=>eqV y x
inductive rIn(K:bYM)(neg:Bool)(x:V)(y:V)(H:Hp)(Q:VK):Prop|mk (p xs) (_:y= .ref p) (_:(SqL K H p xs\/SqT K H p xs)) (_:J9 x=true) (_:xs.all J9=true) (_:Q (.bl (if neg then !inV x xs else inV x xs)) H)
def vD:OpR X (cXh .In) (rIn X.K false):=by
 intro pins s σ H x y v u Q I e g h;obtain⟨p,xs,rfl,b,d,fs,q⟩:=h;cases g;rcases b with b|b
 ·obtain⟨a,r,c,f⟩:=I.list b;refine SeqAt.in_listAt (eqU x) c.isList (λw hw=>qZ e d r fs w (by simpa using hw)) ⟨.bl _,H,I,rfl,?_⟩;rw[show a.toArray.any (eqU x)=a.any (eqU x) by simp,aQf r fs];exact q
 ·obtain⟨a,r,c,f⟩:=I.tuple b;refine SeqAt.in_tupleAt (eqU x) c (λw hw=>qZ e d r fs w (by simpa using hw)) ⟨.bl _,H,I,rfl,?_⟩;rw[show a.toArray.any (eqU x)=a.any (eqU x) by simp,aQf r fs];exact q
def W7:OpR X (cXh .NotIn) (rIn X.K true):=by
 intro pins s σ H x y v u Q I e g h;obtain⟨p,xs,rfl,b,d,fs,q⟩:=h;cases g;rcases b with b|b
 ·obtain⟨a,r,c,f⟩:=I.list b;refine SeqAt.notIn_listAt (eqU x) c.isList (λw hw=>qZ e d r fs w (by simpa using hw)) ⟨.bl _,H,I,rfl,?_⟩;rw[show a.toArray.any (eqU x)=a.any (eqU x) by simp,aQf r fs];exact q
 ·obtain⟨a,r,c,f⟩:=I.tuple b;refine SeqAt.notIn_tupleAt (eqU x) c (λw hw=>qZ e d r fs w (by simpa using hw)) ⟨.bl _,H,I,rfl,?_⟩;rw[show a.toArray.any (eqU x)=a.any (eqU x) by simp,aQf r fs];exact q
inductive aXB(K:bYM)(xs:List V)(H:Hp)(Q:VK):Prop|mk (p ys) (_:xs= [.ref p]) (_:(SqL K H p ys\/SqT K H p ys)) (_:Q (.int ys.length) H)
def yO:qE X (.builtin "len") (aXB X.K):=by
 intro pins s σ H xs j Q I r h;obtain⟨p,ys,rfl,b,q⟩:=h;obtain⟨u,rfl,g⟩:=aQ6 r;cases g;have i:=aZM;rcases b with b|b
 ·obtain⟨d,e,c,f⟩:=I.list b;have a:=e.length;exact Calls.call_len_list c.isList (by simp only[bY4]<;> omega) ⟨.int ys.length,H,I.tok _,⟨s.toks+1,by rw[bY4,a]⟩,q⟩
 ·obtain⟨d,e,c,f⟩:=I.tuple b;have a:=e.length;exact len_tuple c (by simp only[bY4]<;> omega) ⟨.int ys.length,H,I.tok _,⟨s.toks+1,by rw[bY4,a]⟩,q⟩
inductive aXC(K:bYM)(xs:List V)(H:Hp)(Q:VK):Prop|mk (p ys) (_:xs= [.ref p]) (_:(SqL K H p ys\/SqT K H p ys)) (_:∀l,H l=none->Q (.ref l) (upd H l (.lst ys)))
def uS:qE X (.type "list") (aXC X.K):=by
 intro pins s σ H xs x Q I r h;obtain⟨p,ys,rfl,i,q⟩:=h;obtain⟨u,rfl,v⟩:=aQ6 r;cases v;have fin:∀ (a:List bYL),xW ys a->ys.length<=cQd->∀ (h':Heap)(c:Nat),(∀b o',s.heap.get? b=some o'->h'.get? b=some o')->
   h'.get? s.heap.objs.size=some {cls:= .type "list",dict:=none,data:= .seq a.toArray c,slots:= #[] }->EP X pins σ Q (.ref s.heap.objs.size) {s with heap:=h'}:=λa d f h' c j e=>
  ⟨.ref s.heap.objs.size,_,I.laid (t':=s.toks) j (bYS _) (show zH X.prog X.w _ h' _ (.lst ys)from⟨f,a,c,d,e⟩),rfl,q _ (I.hok.fresh (bYS _))⟩
 rcases i with i|i
 ·obtain⟨a,d,l,f⟩:=I.list i;have g:=d.length;obtain⟨o,t,k,n,m⟩:=l.isList;exact call_list_seq p (.inl rfl) t k m (λh' c j e=>fin a d f h' c j e) (by simp only[bY4]<;> omega)
 ·obtain⟨a,d,l,f⟩:=I.tuple i;have g:=d.length;obtain⟨o,t,k,n,m⟩:=l;exact call_list_seq p (.inr rfl) t k m (λh' c j e=>fin a d f h' c j e) (by simp only[bY4]<;> omega)
inductive aXa(K:bYM)(xs:List V)(H:Hp)(Q:VK):Prop|mk (p ys) (_:xs= [.ref p]) (_:((SqL K H p ys/\∀l,H l=none->Q (.ref l) (upd H l (.tup ys)))\/(SqT K H p ys/\Q (.ref p) H)))
def qU:qE X (.type "tuple") (aXa X.K):=by
 intro pins s σ H xs n Q I r h;obtain⟨p,ys,rfl,h⟩:=h;obtain⟨u,rfl,k⟩:=aQ6 r;cases k;rcases h with⟨f,q⟩|⟨f,q⟩
 ·obtain⟨a,d,c,i⟩:=I.list f;have j:=d.length;refine call_tuple_list c.isList (λh' m=>?_) (by simp only[bY4]<;> omega);have g:Inv X pins σ H {s with heap:=h'}:=I.kept (t':=s.toks) m;have l:Inv X pins σ (upd H h'.objs.size (.tup ys)) {s with heap:=h'.push {cls:= .type "tuple",data:= .seq a.toArray} }:=
   g.laid (t':=s.toks) (λb o e=>bYQ _ e) (bYS _) (show zH X.prog X.w _ _ _ (.tup ys)from⟨i,a,d,IsTup.new _ _⟩)
  exact⟨.ref h'.objs.size,_,l,rfl,q _ (g.hok.fresh (bYS _))⟩
 ·obtain⟨a,d,c,i⟩:=I.tuple f;exact call_tuple_same c ⟨.ref p,H,I,rfl,q⟩
def tyV(K:bYM)(T:String)(x:V)(H:Hp):Prop:=match x with
 |.str _=>T="str"
 |.int _=>T="int"
 |.ref p=>(T="list"/\∃xs,SqL K H p xs)\/(T="tuple"/\∃o,K.lookup p=some o/\o.cls= .type "tuple"/\o.dict=none)\/
   (T="dict"/\((∃a,H p=some (.dK a))\/∃a,H p=some (.dT a)))\/(T="set"/\∃S n,H p=some (.set S n))
 |_=>False
def bJx{pins:List (Addr×Obj)}{σ:St}{H:Hp}{s:bYO}{T:String}{x:V}{v:bYL}(I:Inv X pins σ H s)(r:zO x v)(ty:tyV X.K T x H): s.TypeIs v T/\∀a,v= .ref a->∃h,s.heap.get? a=some h/\h.dict=none:=by
 cases x with
 |str z=>obtain⟨t,rfl⟩:=r;cases (show T="str" from ty);exact⟨typeIs_str s z t,λ_ e=>nomatch e⟩
 |int i=>obtain⟨t,rfl⟩:=r;cases (show T="int" from ty);exact⟨typeIs_int s i t,λ_ e=>nomatch e⟩
 |ref p=>
  cases r;rcases ty with⟨rfl,xs,m⟩|⟨rfl,o,b,k,f⟩|⟨rfl,b⟩|⟨rfl,S,n,b⟩
  ·obtain⟨l,_,j,_⟩:=I.list m;refine⟨j.isList.typeIs,λa e=>?_⟩;cases e;obtain⟨o,n,e,c,f,_⟩:=j;exact⟨o,e,f⟩
  ·refine⟨⟨o,I.kIn p o b,k⟩,λa e=>?_⟩;cases e;exact⟨o,I.kIn _ o b,f⟩
  ·have z:∃o,s.heap.get? p=some o/\o.ExactDict:=by
    rcases b with⟨d,b⟩|⟨d,b⟩
    ·obtain⟨_,_,_,_,o,_,_,e,ex,_⟩:=I.hok p _ b;exact⟨o,e,ex⟩
    ·obtain⟨_,_,_,_,o,_,_,e,ex,_⟩:=I.hok p _ b;exact⟨o,e,ex⟩
   obtain⟨o,e,ex⟩:=z;refine⟨⟨o,e,ex.1⟩,λa g=>?_⟩;cases g;exact⟨o,e,ex.2.1⟩
  ·obtain⟨o,_,_,_,e,ex,_⟩:=I.hok p _ b;refine⟨⟨o,e,ex.1⟩,λa g=>?_⟩;cases g;exact⟨o,e,ex.2.1⟩
 |_=>exact cXi ty
inductive bK6(K:bYM)(T:String)(r:V->List V->Hp->VK->Prop)(Q:VK)(x:V)(H1:Hp):Prop|mk (_:tyV K T x H1) (_:r x [] H1 Q)
def bYE(K:bYM)(T:String)(r:V->List V->Hp->VK->Prop)(to:TE):TE:=λσ H Q=>to σ H λx H1=>bK6 K T r Q x H1
inductive bYF(K:bYM)(T:String)(r:V->List V->Hp->VK->Prop)(t:TA)(σ:St)(Q:VK)(x:V)(H1:Hp):Prop|mk (_:tyV K T x H1) (_:t σ H1 λxs H2=>r x xs H2 Q)
def tBM(K:bYM)(T:String)(r:V->List V->Hp->VK->Prop)(to:TE)(t:TA):TE:=λσ H Q=>to σ H λx H1=>bYF K T r t σ Q x H1
variable {o e:Expr}{es:List Expr}{to:TE}{t:TA}{name:Str}{apos cpos:Pos}{T id:String}{r:V->List V->Hp->VK->Prop}
def aYV(e:PlainAttrs T)(c:Slot T name id)(d:typeOf (.builtin id)=pure (.type "method_descriptor"))(f:MtR X id r)(g:PE X o to) (b:cZz o name X.env (eval o X.env)=eval o X.env:=by rfl) (a:(apos.endLine==cpos.line)=true:=by rfl):PE X (.Call (.Attribute o name apos) [] [] cpos) (bYE X.K T r to):=by
 intro pins s σ H Q I h;refine wpAny_Call_method0_late b a (thn (g pins s σ H _ I h) λv s1 ⟨x,H1,I1,r1,ty,q1⟩=>?_);obtain⟨h1,h2⟩:=bJx I1 r1 ty;exact⟨T,id,e,c,d,h1,h2,Calls.callWith_builtin rfl (PySem.evalArgs_none (f pins s1 σ H1 x [] v [] Q I1 r1 .nil q1))⟩
def vM(k:PlainAttrs T)(f:Slot T name id)(g:typeOf (.builtin id)=pure (.type "method_descriptor"))(m:MtR X id r)(n:PE X o to)(l:PA X (e::es) t)
  (b:cZz o name X.env (eval o X.env)=eval o X.env:=by rfl)
  (d:((cXp cpos (cQr (e::es) X.env)).all (λx=> !x.1) && (cZX cpos (cX7 [] X.env)).all (λx=>x.1.isSome) && decide ((e::es).length+([]:List Keyword).length+(if([]:List Keyword).isEmpty then 0 else 1)<30))=true:=by rfl)
  (c:(apos.endLine==cpos.line)=true:=by rfl) (j:cQr (e::es) X.env=(false,eval e X.env)::cQr es X.env:=by rfl) (a:(cXp cpos (cQr es X.env)).any (·.1)=false:=by rfl):
  PE X (.Call (.Attribute o name apos) (e::es) [] cpos) (tBM X.K T r to t):=by
 intro pins s σ H Q I h
 refine wpAny_Call_method_late b d c rfl (thn (n pins s σ H _ I h) λv s1 ⟨x,H1,I1,r1,ty,q1⟩=>?_)
 obtain⟨h1,h2⟩:=bJx I1 r1 ty
 refine⟨T,id,k,f,g,h1,h2,?_⟩
 have i:=l cpos pins s1 σ H1 _ I1 q1
 rw[j]at i ⊢
 refine Calls.callWith_builtin (by show(false || (cXp cpos (cQr es X.env)).any (·.1))=false;rw[a]<;> rfl) (Calls.evalArgs_plain ?_)
 exact thn i λus s2 ⟨vs,H2,I2,r2,q2⟩=>m pins s2 σ H2 x vs v us Q I2 r1 r2 q2
end
end L2
namespace L2
open PySem PySem.Spec PyProof.Rows
def MtM(X:Cx)(id:String)(r:V->List V->Hp->VK->Prop):Prop:=
 ∀ (pins:List (Addr×Obj))(s:bYO)(σ:St)(H:Hp)(x:V)(xs:List V)(v:bYL)(a:List bYL)(Q:VK),Inv X pins σ H s->zO x v->xW xs a->r x xs H Q->
  bYT (bYV X.prog X.w) X.A (call (.builtin id) (v::a)) (EP X pins σ Q) X.xe s
def xW.one:∀ {x:V} {us:List bYL},xW [x] us->∃u,us= [u]/\zO x u
 |_,_,.cons r .nil=>⟨_,rfl,r⟩
def xW.two:∀ {x y:V} {us:List bYL},xW [x,y] us->∃u v,us= [u,v]/\zO x u/\zO y v
 |_,_,_,.cons r (.cons q .nil)=>⟨_,_,rfl,r,q⟩
def xW.zero:∀ {us:List bYL},xW [] us->us= []
 |_,.nil=>rfl
def xW.dropLast{xs:List V}{us:List bYL}(h:xW xs us):xW xs.dropLast us.dropLast:=by
 induction h with
 |nil=>exact .nil
 |cons r t a=>
  cases t with
  |nil=>exact .nil
  |cons q b=>exact .cons r a
def xW.reverse{xs:List V}{us:List bYL}(h:xW xs us):xW xs.reverse us.reverse:=by
 induction h with
 |nil=>exact .nil
 |cons r t a=>rw[List.reverse_cons,List.reverse_cons];exact xW.append a (.cons r .nil)
def aWE{α:Type}(l:List α):l.eraseIdx (l.length - 1)=l.dropLast:=by
 induction l with
 |nil=>rfl
 |cons a r c=>
  cases r with
  |nil=>rfl
  |cons b r=>
   have e:(a::b::r).length - 1=((b::r).length - 1)+1:=by have h1:(a::b::r).length=r.length+2:=rfl;have h2:(b::r).length=r.length+1:=rfl;omega
   rw[e,List.eraseIdx_cons_succ,c];all_goals rfl
section
variable {X:Cx}{pins:List (Addr×Obj)}{σ:St}{H:Hp}{s:bYO}{l b:Addr}{xs ys zs:List V}
def Inv.lset{its its':List bYL}{n:Nat}{f:Array bYL->Array bYL}{t':Nat}(I:Inv X pins σ H s)(b:H l=some (.lst xs)) (e:s.heap.get? l=some {cls:= .type "list",data:= .seq its.toArray n}) (h:f its.toArray=its'.toArray) (d:xW ys its') (c:ys.length<=cQd): Inv X pins σ (upd H l (.lst ys)) {s with heap:=s.heap.update l (cQF f),toks:=t'}:=by
 have q:=PySem.IsL.update e f;rw[h]at q;refine I.write (x:=l) (e:=l) (by rw[b];exact trivial) (.inl rfl) (λi u g a=>(cQq s.heap (cQF f) (cQu g)).trans a) ⟨_,q⟩ ?_;exact⟨c,its',_,d,q⟩
def Inv.lnew{its:List bYL}{t':Nat}(I:Inv X pins σ H s)(a:xW ys its)(hz:ys.length<=cQd): Inv X pins σ (upd H s.heap.objs.size (.lst ys)) {s with heap:=s.heap.push {cls:= .type "list",data:= .seq its.toArray},toks:=t'}:=
 I.laid (λ_ _ q=>bYQ _ q) (bYS _) ⟨hz,its,0,a,cQg _ rfl⟩
def Inv.fresh(I:Inv X pins σ H s):H s.heap.objs.size=none:=I.hok.fresh (bYS _)
def Inv.lstM(I:Inv X pins σ H s)(a:H l=some (.lst xs)):xs.length<=cQd/\∃ (its:List bYL)(n:Nat),xW xs its/\xs.length=its.length/\s.heap.get? l=some {cls:= .type "list",data:= .seq its.toArray n}:=by
 obtain⟨z,its,n,r,e⟩:=I.hok l _ a;exact⟨z,its,n,r,r.length,e⟩
def bXI{n:Nat}(h:n<=cQd):cZ9 n=false:=by
 unfold cZ9;exact decide_eq_false (by omega)
end
section
variable {X:Cx}
inductive aY1(x:V)(vs:List V)(H:Hp)(Q:VK):Prop|mk (l xs y) (_:x= .ref l) (_:vs= [y]) (_:H l=some (.lst xs)) (_:xs.length<cQd) (_:Q .non (upd H l (.lst (xs++ [y]))))
def xD:MtM X "list.append" aY1:=by
 intro pins s σ H x i v j Q I d f h;obtain⟨l,xs,y,rfl,rfl,b,g,q⟩:=h;cases d;obtain⟨u,rfl,c⟩:=f.one;obtain⟨z,a,n,r,hl,e⟩:=I.lstM b;refine call_meets F.slot_list_append ⟨_,e,rfl⟩ F.entry_list_append (F.args_list_append_2 _ _) (PySem.list_append l a.toArray n u (by rw[bY4];omega)) ⟨e,?_⟩;refine⟨.non,_,I.lset (its':=a++ [u]) b e (by simp) (r.append (.cons c .nil)) ?_,rfl,q⟩;rw[bY8,cQY];omega
inductive bVu(x:V)(vs:List V)(H:Hp)(Q:VK):Prop|mk (l b xs zs) (_:x= .ref l) (_:vs= [.ref b]) (_:H l=some (.lst xs)) (_:H b=some (.lst zs)) (_:xs.length+zs.length<=cQd) (_:Q .non (upd H l (.lst (xs++zs))))
def aYu:MtM X "list.extend" bVu:=by
 intro pins s σ H x A v B Q I p t h;obtain⟨l,b,xs,zs,rfl,rfl,g,o,y,q⟩:=h;cases p;obtain⟨u,rfl,i⟩:=t.one;cases i;obtain⟨z,c,n,r,hl,e⟩:=I.lstM g;obtain⟨z2,a,j,m,w,k⟩:=I.lstM o;have f:c.toArray.size+a.toArray.size<=cQd:=by rw[bY4,bY4];omega
 have d:¬ (!c.toArray.isEmpty && cZ9 (c.toArray.size+a.toArray.size))=true:=by rw[bXI f,Bool.and_false];exact Bool.false_ne_true
 refine call_meets F.slot_list_extend ⟨_,e,rfl⟩ F.entry_list_extend (F.args_list_extend_2 _ _)
  (AutoSeq1.list_extend_list_list_0 l c.toArray n b a.toArray j d (by rw[bY4];omega) (by omega)) ⟨e,k,?_⟩
 refine⟨.non,_,I.lset (its':=c++a) g e (by simp) (r.append m) ?_,rfl,q⟩;rw[bY8];omega
inductive bYz(x:V)(vs:List V)(H:Hp)(Q:VK):Prop|mk (l xs y) (_:x= .ref l) (_:vs= []) (_:H l=some (.lst xs)) (_:xs[xs.length - 1]? =some y) (_:Q y (upd H l (.lst xs.dropLast)))
def aYv:MtM X "list.pop" bYz:=by
 intro pins s σ H x m v o Q I j k h;obtain⟨l,xs,y,rfl,rfl,d,i,q⟩:=h;cases j;have c:=k.zero;subst c;obtain⟨z,a,n,r,hl,e⟩:=I.lstM d;obtain⟨u,g,f⟩:=r.get i;have b:a.toArray[a.toArray.size - 1]? =some u:=by show a.toArray[a.length - 1]? =some u;rw[<- cXk,<- hl];exact g
 refine call_meets F.slot_list_pop ⟨_,e,rfl⟩ F.entry_list_pop (F.args_list_pop_1 _) (MeetsSeq.list_pop_last l a.toArray n u b (by rw[bY4];omega)) ⟨e,?_⟩;refine⟨y,_,I.lset (its':=a.dropLast) d e ?_ r.dropLast ?_,f,q⟩
 ·show a.toArray.eraseIdxIfInBounds (a.toArray.size - 1)=a.dropLast.toArray;rw[bY4,List.eraseIdxIfInBounds_toArray,aWE]
 ·rw[List.length_dropLast];omega
inductive bYy(x:V)(y:V)(H:Hp)(Q:VK):Prop|mk (l b xs zs) (_:x= .ref l) (_:y= .ref b) (_:H l=some (.lst xs)) (_:H b=some (.lst zs)) (_:xs.length+zs.length<=cQd) (_:∀p,H p=none->Q (.ref p) (upd H p (.lst (xs++zs))))
def aZS:OpR X (cZs .Add) bYy:=by
 intro pins s σ H x y v u Q I k m h;obtain⟨l,b,xs,zs,rfl,rfl,f,j,p,q⟩:=h;cases k;cases m;obtain⟨z,c,n,r,hl,e⟩:=I.lstM f;obtain⟨z2,a,t,i,o,g⟩:=I.lstM j;refine PySem.P.add_list e g ?_ (by rw[bY4,bY4];omega);have d:c.toArray++a.toArray=(c++a).toArray:=by simp
 rw[d];exact⟨.ref _,_,I.lnew (t':=s.toks) (r.append i) (by rw[bY8];omega),rfl,q _ I.fresh⟩
end
section
variable {prog:bY7}{w:cQf}{A:cQt}{E:bYL->bYO->Prop}{s:bYO}
end
section
variable {X:Cx}
end
end L2
namespace Att
open PySem PySem.W PySem.Calls PyProof.Rows
def aQk{P:Params}{h:Heap}:∀ (c:List Int)(vs:List bYL),WellAll P h vs (c.map WData.int)->cZi vs c:=by
 intro c;induction c with
 |nil=>intro vs w;rw[List.map_nil]at w;cases w;exact .nil
 |cons n c d=>
  intro vs w;rw[cQy]at w;cases w with
  |cons a b=>cases a;exact .cons _ _ (d _ b)
def bQD{l:OpenLaw}{n:Nat}(s:l.most=some n){P:Params}{h:Heap}{args:List WData}{vals:List bYL} (c:l.row.toRowW.claim.pre args=true) (k:WellAll P h vals args): ∃a m b,vals= [Value.ref a]/\args= [WData.list (b.map WData.int)]/\h.get? a=some {cls:= .type "list",data:= .seq m.toArray}/\cZi m b/\b.length<=n:=by
 have j:WShape.hasAll [] args [.list .int]=true:=(pre_splitW c).1;have o:l.pre.holds [] {args:=args}=true:=(pre_splitW c).2;obtain⟨d,r,rfl,h1,h2⟩:=hasAllW_cons j;obtain rfl:=hasAllW_nil h2;obtain⟨xs,rfl,p⟩:=hasW_list h1;obtain⟨b,rfl⟩:=items_int p;have e:b.length<=n:=by
  unfold OpenLaw.pre at o;have i:(WTm.not (.lt (.lit (.int (n:Int))) (.len (.arg 0)))).holds [] {args:= [.list (b.map .int)] }=true:=by have i:=(holds_andW o).1;rw[s]at i;exact i
  have g:=condW_of i (w_not (w_lt w_lit (w_len_list (w_arg rfl))));rw[bYP]at g;refine Nat.le_of_not_lt λq=>?_;have t:(n:Int)<((b.length:Nat):Int):=by omega
  first
   |(rw[decide_eq_true t]at g;exact absurd g (by decide))
   |(simp at g;omega)
 cases k with
 |cons u v=>
  cases v;cases u with
  |list w f=>exact⟨_,_,b,rfl,rfl,w,aQk b _ f,e⟩
def aYY(l:OpenLaw)(args:List WData):l.row.toRowW.claim.post args (.bool true) args=true:=
 postW_of (r:=l.row.toRowW) (X:=(true==true))
  (show WShape.has [] (.bool true) .bool=true by first|rfl|decide|simp[WShape.has,WShape.arms,WShape.armsAll])
  (show(WTm.eq .res (.lit (.bool true))).value [] {args:=args,res:=some (.bool true),after:=args}=some (.bool (true==true))from w_eq_bool (w_res rfl) w_lit) rfl
def aJu{l:OpenLaw}{n:Nat}{q:bY7}{loose:List Str}{A:(Str->Option bYL)->Heap->Prop}{y:cQf->Heap->Prop}{d:DefRec} (E:l.most=some n) (v:d.params.defaults= []) (call:∀ (w:cQf)(s₀ b:bYO)(mg p:Str->Option bYL)(g:Addr)(o:Obj)(s k c:bYL)(a:Addr)(vs:List bYL)(m:List Int), Ground q loose [] A w s₀ mg p b.heap->y w b.heap-> b.heap.get? g=some o->o.data= .func (docDef d.name d.params d.body d.scope s k c)->b.heap.CodeRec k d.name->mg d.name=some (.ref g)-> b.heap.get? a=some {cls:= .type "list",data:= .seq vs.toArray}->cZi vs m->m.length<=n->b.gens= #[]-> cX4 (bYV l.prog w) callerA (.call (.ref g) ⟨[.ref a],[]⟩) (λr s'=>r= .ok (.ret (.bool true))/\OldK b.heap s'.heap/\s'.os=b.os/\AllBare s'.gens) b): WalkO q loose A y l.row.toRowW d [] (λf vs=>PySem.call f vs):=by
 intro w s₀ b mg p G Y g o s k c C kV N H t z u J args vals O i B F x L;obtain rfl:C= .none:=Dflts.none z v;obtain rfl:kV= .none:=Dflts.noKw z;obtain⟨a,vs,m,rfl,rfl,j,e,h⟩:=bQD E i x;refine enter_call (cXE (call w s₀ b mg p g o s k c a vs m G Y N (fd_plain H) t u j e h J) λr s' K=>?_);obtain⟨rfl,h2,D,I⟩:=K;exact⟨.inl ⟨.bool true,.bool true,[],rfl,λ_=>rfl,.bool true,aYY l _,λ_=>⟨List.Pairwise.nil,λ_ M=>(nomatch M)⟩⟩,h2,D,I⟩
section
variable {prog:bY7}{w:cQf}{A:cQt}{E:bYL->bYO->Prop}{s:bYO}{K:Frag}
end
end Att
namespace L2
open PySem PySem.Spec PyProof.Rows
def jE:∀ {vs:List bYL} {a:List Int},cZi vs a->xW (a.map V.int) vs
 |_,_,.nil=> .nil
 |_,_,.cons n t h=> .cons ⟨t,rfl⟩ (jE h)
end L2
namespace L2
open PySem PySem.Spec PyProof.Rows
end L2
namespace L2
open PySem PySem.Spec PyProof.Rows
def xX(s:Stmt):Arguments:=match s with
 |.FunctionDef _ a _ _ _ _ _ _ _ _=>a
 |_=>{posonlyargs:= [],args:= [],vararg:=none,kwonlyargs:= [],kw_defaults:= [],kwarg:=none,defaults:= [] }
def xQ(s:Stmt):List Stmt:=match s with
 |.FunctionDef _ _ b _ _ _ _ _ _ _=>b
 |_=> []
def yH(s:Stmt):cX1:=match s with
 |.FunctionDef _ _ _ _ _ _ a _ _ _=>a
 |_=>{kind:= .function,names:= [],isGenerator:=false,isCoroutine:=false}
abbrev CX0:CXT:=λ_ _ _ _ _ _=>False
abbrev E0:XK:=λ_ _ _=>False
def v0{X:Cx}:vP CX0 X E0:=λ_ _ _ _ _ _ _ h=>h.elim
structure Fun(K:bYM)(x qual:Str)(st:Stmt)(f:Addr)(fd:cXK):Prop where
 ex:∃ (oc:bYL)(od:Option Addr)(kV doc pm:bYL)(an:Option Addr)(cdv ct:bYL)(osl:Array (Option bYL)),
  fd=cQR x qual (xX st) (xQ st) (yH st) .none kV doc pm an cdv ct/\K.lookup f=some ⟨oc,od,.func fd,osl⟩/\cXu K cdv qual=true
 kp:cQH K (.ref f)=true
section
variable {P:bY7}{w:cQf}{K:bYM}{mg:Str->Option bYL}{base:Heap}
def Fun.ok{x qual:Str}{st:Stmt}{f:Addr}{fd:cXK}{N ps:List Str}{k:Nat}{sp:Sp}(F:Fun K x qual st f fd)(S:yN N ps (yH st)) (b:∀ (a:bYL)(A:cQt)(outer:List Env)(s:bYO)(H:Hp)(vs:List V)(Q:VK)(E:XK),vW k (A.deeper (cXJ qual (yH st) s.heap.objs.size f a))->sp vs H Q E-> ∃t,PSs (aXE CX0 P w K mg base N qual (yH st) f a A outer s H E).nox (xQ st) t/\t {nx:=λ_ H'=>Q .non H',rt:=Q} (start N vs) H) (len:∀vs H Q E,sp vs H Q E->vs.length=ps.length:=by intro _ _ _ _ h;first|(cases h;subst_vars;exact rfl)|repeat (first|(obtain⟨rfl,_⟩:=h;exact rfl)|(obtain⟨_,h⟩:=h))):xE P w K mg base CX0 (k+1) f fd ps sp:=by
 obtain⟨m,j,kV,g,l,n,a,ct,i,rfl,lk,c⟩:=F.ex;refine bJR lk c S len λA outer s H vs Q E e d=>?_;obtain⟨t,h,q⟩:=b a A outer s H vs Q E e d;exact⟨t,h.nox,q⟩
def Fun.binds{x qual:Str}{st:Stmt}{f:Addr}{fd:cXK}{ps:List Str}(F:Fun K x qual st f fd) (h:∀ (kV b c:bYL)(d:Option Addr)(a ct:bYL)(us:List bYL),us.length=ps.length->cZt (cQR x qual (xX st) (xQ st) (yH st) .none kV b c d a ct) ⟨us,[]⟩=pure (ps.zip us)):v6 K fd ps []:=by
 obtain⟨j,i,kV,b,c,d,a,ct,g,rfl,lk,e⟩:=F.ex;exact .all (h kV b c d a ct)
def aXm{x qual:Str}{st:Stmt}{f:Addr}{h:bYL}{i e:Option Addr}{d:Array (Option bYL)}{kV b g a ct:bYL}(l:K.lookup f=some ⟨h,i,.func (cQR x qual (xX st) (xQ st) (yH st) .none kV b g e a ct),d⟩)
  (c:cXu K a qual=true) (k:cQH K (.ref f)=true):Fun K x qual st f (cQR x qual (xX st) (xQ st) (yH st) .none kV b g e a ct):=⟨⟨h,i,kV,b,g,e,a,ct,d,rfl,l,c⟩,k⟩
end
def bWD{A:cQt}{k:Nat}(a:vW k A):A.units+1<cLine:=Nat.lt_of_le_of_lt (Nat.add_le_add_left (by decide:1<=64) _) a.units
section
variable {X:Cx}
def pv(i:Nat){x:Str}{pos:Pos}(d:X.N[i]? =some x:=by rfl)(c:Vis X.env.scope x:=by first|exact Or.inl rfl|exact Or.inr (Or.inl rfl)|exact Or.inr (Or.inr rfl))(b:(x==("__debug__":Str))=false:=by decide)
  (a:(x==("__classdict__":Str))=false:=by decide):PE X (.Name x pos) (bV9 i):=bJk d c b a
end
def qB{c A B:Prop} [Decidable c] (h1:c->A)(h2:¬c->B):if c then A else B:=by
 by_cases h:c
 ·rw[if_pos h];exact h1 h
 ·rw[if_neg h];exact h2 h
def xC(H H':Hp):Prop:=∀b o,H b=some o->H' b=some o
def xC.refl(H:Hp):xC H H:=λ_ _ h=>h
def xC.trans{H H1 H2:Hp}(a:xC H H1)(b:xC H1 H2):xC H H2:=λc o h=>b c o (a c o h)
def xC.seq{K:bYM}{H H':Hp}{a:Addr}{xs:List V}(e:xC H H')(h:SqL K H a xs):SqL K H' a xs:=by
 rcases h with(h|⟨o,h⟩)|h
 ·exact .inl (.inl (e _ _ h))
 ·exact .inl (.inr ⟨o,e _ _ h⟩)
 ·exact .inr h
end L2
namespace L2
open PySem
def scM{N P:List Str}{sc:Scope}(h:decide (sc.kind=.function/\sc.isCoroutine=false/\sc.isGenerator=false/\N.Nodup/\N.take P.length=P/\(∀x∈P,sc.names.lookup x=some .local\/sc.names.lookup x=some .cell)/\∀y∈sc.names,y.2≠.free)=true:=by decide +kernel):yN N P sc:=
 have z:=of_decide_eq_true h;⟨z.1,z.2.1,z.2.2.1,z.2.2.2.1,z.2.2.2.2.1,z.2.2.2.2.2.1,z.2.2.2.2.2.2⟩
end L2
namespace L2
open PySem PySem.Spec PyProof.Rows
def qV(env:Env)(l:List (Str×cZH))(cs:List (Str×Nat)):Sem (List (Str×Nat)):=do
 let mut cs:=cs
 for (name,kind)in l do
  if kind== .free then cs:=(name,<- cellOf env name)::cs
 return cs
def aWx(env:Env)(cs:List (Str×Nat)):qV env [] cs=pure cs:=by simp[qV]
def aJy{env:Env}{n:Str}{c:Nat}{r:List (Str×cZH)}{cs:List (Str×Nat)}(h:env.cells.lookup n=some c):qV env ((n,.free)::r) cs=qV env r ((n,c)::cs):=by
 have e:cellOf env n=pure c:=by unfold cellOf;rw[h]
 simp[qV,e]
def aZr{env:Env}{n:Str}{k:cZH}{r:List (Str×cZH)}{cs:List (Str×Nat)}(h:k≠ .free):qV env ((n,k)::r) cs=qV env r cs:=by
 simp[qV,h]
def aJz{env:Env}:∀ (l:List (Str×cZH))(cs:List (Str×Nat)),(∀y∈l,y.2= .free->∃c,env.cells.lookup y.1=some c)->(∀y c,cs.lookup y=some c->env.cells.lookup y=some c)->
  ∃cl,qV env l cs=pure cl/\(∀y c,cl.lookup y=some c->env.cells.lookup y=some c)/\(∀y,(∃c,cs.lookup y=some c)->∃c,cl.lookup y=some c)/\(∀y,(y,NameKind.free)∈l->∃c,cl.lookup y=some c)
 |[],cs,_,h=>⟨cs,aWx env cs,h,λ_ z=>z,λ_ z=>by cases z⟩
 |(n,k)::r,cs,hl,h=>by
  by_cases m:k= .free
  ·subst m;obtain⟨c,o⟩:=hl (n,.free) bY0 rfl;obtain⟨cl,f,j,d,i⟩:=aJz r ((n,c)::cs) (λy a=>hl y (bYX _ a)) (λy b e=>by
    rw[cXB]at e;split at e
    ·rename_i z;cases e;rw[beq_iff_eq.mp z];exact o
    ·exact h y b e)
   have g:∀y,(∃c,cs.lookup y=some c)->∃b,((n,c)::cs).lookup y=some b:=λy ⟨b,e⟩=>by
    rw[cXB];split
    ·exact⟨_,rfl⟩
    ·exact⟨b,e⟩
   refine⟨cl,by rw[aJy o];exact f,j,λy z=>d y (g y z),λy a=>?_⟩;rcases bYU.mp a with e|a
   ·cases e;exact d _ ⟨c,by rw[cXB,beq_self_eq_true]⟩
   ·exact i y a
  ·obtain⟨cl,f,j,d,i⟩:=aJz r cs (λy a=>hl y (bYX _ a)) h;refine⟨cl,by rw[aZr m];exact f,j,d,λy a=>?_⟩;rcases bYU.mp a with e|a
   ·cases e;exact absurd rfl m
   ·exact i y a
abbrev blk(X:Cx)(N:List Str)(sc:cX1)(cl:List (Str×Nat))(C:Nat)(s:bYO)(H:Hp)(ex:List Nat):Cx:=
 {X with N:=N,s₀:=s,H₀:=H,env:=compEnvC sc cl C X.env,outer:=X.stack,ex:=ex,fn:=λ_=>false,pn:= [],xe:=λ_ _=>False}
def sub(σ:St)(fr:List Nat)(o:Option V):St:=o::fr.map λi=>(σ[i]?).join
abbrev lsN(l:List (Str×cZH)):PySem.Scope:={kind:= .function,names:=l,isGenerator:=false,isCoroutine:=false,more:= [] }
def ixK{X:Cx}{K:bYM}(h:X.K=K:=by rfl):IxR X (bWh K):=by subst h;exact yK
def ixT{X:Cx}{K:bYM}(h:X.K=K:=by rfl):IxR X (bKW K):=by subst h;exact yX
structure xN(N:List Str)(osc:cX1)(x:Str)(names:List Str)(fr:List Nat)(sc:cX1):Prop where
 kind:sc.kind= .function
 nocell:∀y∈sc.names,y.2≠ .cell
 loc:∀y∈sc.names,y.2= .local->sc.names.lookup y.1=some .local
 var:sc.names.lookup x=some .local
 free:∀y∈sc.names,y.2= .free->osc.names.lookup y.1=some .cell\/osc.names.lookup y.1=some .free
 flk:∀y∈sc.names,y.2= .free->sc.names.lookup y.1=some .free
 nd:(x::names).Nodup
 len:fr.length=names.length
 taken:∀p∈names.zip fr,N[p.2]? =some p.1/\(p.1,NameKind.free)∈sc.names
def xN.from_{N:List Str}{b sc:cX1}{x:Str}{names:List Str}{fr:List Nat}(S:xN N b x names fr sc)(j:Nat)(y:Str)(h:names[j]? =some y):∃i,fr[j]? =some i/\N[i]? =some y/\(y,NameKind.free)∈sc.names:=by
 have e:j<names.length:=(bYW.mp h).1;have a:j<fr.length:=by rw[S.len];exact e
 have z:(names.zip fr)[j]? =some (y,fr[j]):=by rw[List.getElem?_zip_eq_some];exact⟨h,bYK a⟩
 obtain⟨c,d⟩:=S.taken _ (bY3 z);exact⟨fr[j],bYK a,c,d⟩
def bWo(X:Cx)(ifs:List Expr)(t:TT):Prop:=
 ∀ (pins:List (Nat×Obj))(s:bYO)(σ:St)(H:Hp)(Q:Bool->Hp->Prop),Inv X pins σ H s->t σ H Q->
  bYT (bYV X.prog X.w) X.A (forIn ifs true λc r=>if r=true then do let ok <- isTrue c X.env (eval c X.env);pure (cJv ok)else pure (cJv r)) (TP X pins σ Q) X.xe s
def bYp:TT:=λ_ H Q=>Q true H
def wK{X:Cx}:bWo X [] bYp:=λpins s σ H Q I h=>by
 simp only[List.forIn_nil];exact bYR ⟨H,I,h⟩
def w7{X:Cx}{c:Expr}{a:TT}(d:PT X c a):bWo X [c] a:=λpins s σ H Q I h=>by
 simp only[cJw,List.forIn_nil,if_true,bind_assoc,pure_bind];refine bYN (thn (d pins s σ H Q I h) λb e z=>?_);exact bYR z
def bWf(J:It)(fr:List Nat)(tif:TT)(te:TE)(σ:St)(D:Nat)(Q:VK)(g:Hp):Prop:=
 ∃W:Nat->Nat->List V->Hp->Prop,(∃m,W 0 m [] g)/\∀i m a H,W i m a H->H D=some (.lst a)/\
  ((J.stop i H/\Q (.ref D) H)\/(J.go i H/\∀v e,J.yld i H v e->tif (sub σ fr (some v)) e λb f=>
   if b=true then te (sub σ fr (some v)) f λy d=>a.length<cQd/\d D=some (.lst a)/\∃c,c<m/\W (i+1) c (a++ [y]) (upd d D (.lst (a++ [y])))
   else ∃c,c<m/\W (i+1) c a f))
def tLc(wi:TI)(fr:List Nat)(tif:TT)(te:TE):TE:=λσ H Q=>wi σ H λJ a=>∀D,a D=none->bWf J fr tif te σ D Q (upd a D (.lst []))
def aXu{env:Env}:∀ {names:List (Str×cZH)} {y:Str},names.lookup y=some .free->
  (names.map λ(n,k)=>if(k==NameKind.free && env.scope.kind== .function && env.kindOf n==some .cell)then(n,NameKind.cell)else(n,k)).lookup y=some .cell\/
  (names.map λ(n,k)=>if(k==NameKind.free && env.scope.kind== .function && env.kindOf n==some .cell)then(n,NameKind.cell)else(n,k)).lookup y=some .free
 |[],_,h=>by simp at h
 |(n,k)::r,y,h=>by
  have b:= @aXu env r y;rw[cQy];dsimp only;cases a:y==n with
  |true=>
   rw[cXB,a]at h;cases h;split
   ·left;rw[cXB,a]
   ·right;rw[cXB,a]
  |false=>
   rw[cXB,a]at h;split
   ·rw[cXB,a];exact b h
   ·rw[cXB,a];exact b h
def aZZ{env:Env}{sc:cX1}{y:Str}(h:sc.names.lookup y=some .free):(relabel sc env).names.lookup y=some .cell\/(relabel sc env).names.lookup y=some .free:=aXu h
section
variable {X:Cx}{pins:List (Nat×Obj)}{σ:St}{H:Hp}{s:bYO}
def bXC{prog:bY7}{w:cQf}{A:cQt}{R:Result->bYO->Prop}{s:bYO}{elt a iter:Expr}{ifs:List Expr}{scope:cX1}{pos:Pos}{it l:bYL}{env:Env}(I:Nat->bYO->Prop)
  (turn:∀n s,I n s->bYT (bYV prog w) A (pyNext it) (λr d=>match r with
   |none=>R (.ok .next) d
   |some v=>bYT (bYV prog w) A (cJD a it v) (λ_ e=>bYT (bYV prog w) A (assign a env v) (λ_ k=>
     bYT (bYV prog w) A (forIn ifs true λc r=>if r=true then do let ok <- isTrue c env (eval c env);pure (cJv ok)else pure (cJv r)) (λok b=>
      if ok=true then bYT (bYV prog w) A (eval elt env) (λx f=>
       bYT (bYV prog w) A (call (.builtin "list.append") [l,x]) (λ_ i=>∃m,m<n/\I m i) (λ_ _=>False) f) (λ_ _=>False) b
      else ∃m,m<n/\I m b) (λ_ _=>False) k) (λ_ _=>False) e) (λ_ _=>False) d) (λ_ _=>False) s)
  (n:Nat) (h:I n s):cX4 (bYV prog w) A (.compLoop (.ListComp elt [⟨a,iter,ifs,0⟩] scope pos) 0 it l env) R s:=by
 refine codeAny_loop rfl I (λn s u=>?_) n h
 show bYT _ A ((compTurn (.ListComp elt [⟨a,iter,ifs,0⟩] scope pos) 0 it l env).onRaise (λx=>do cJe x env;theTreesLotGoes x)) _ _ s
 refine wpAny_noted ?_
 rw[compTurn_list]
 refine bYN (cJm (bYN (cQP (turn n s u) (λr d g=>?_) λ_ _ z=>z.elim)))
 cases r with
 |none=>exact bYR g
 |some v=>
  refine bYN (cQP g (λ_ e o=>?_) λ_ _ z=>z.elim);refine bYN (cQP o (λ_ k p=>bYN (cQP p (λok b j=>?_) λ_ _ z=>z.elim)) λ_ _ z=>z.elim);cases ok with
  |false=>exact bYR ⟨rfl,j⟩
  |true=>refine bYN (bYN (cQP j (λx f q=>bYN (cQP q (λ_ i t=>?_) λ_ _ z=>z.elim)) λ_ _ z=>z.elim));exact bYR (bYR ⟨rfl,t⟩)
def bJe{elt iter:Expr}{x:Str}{px:Pos}{ifs:List Expr}{sc:cX1}{pos:Pos}{names:List Str}{fr:List Nat}{tif:TT}{te:TE}{cl:List (Str×Nat)}{E:bYL->bYO->Prop}(S:xN X.N X.env.scope x names fr sc)(hc:X.calm=true)
  (d:∀y c,cl.lookup y=some c->X.env.cells.lookup y=some c) (a1:∀y,(y,NameKind.free)∈sc.names->∃c,cl.lookup y=some c)
  (c7:∀cl C s H ex,bWo (blk X (x::names) sc cl C s H ex) ifs tif) (he:∀cl C s H ex,PE (blk X (x::names) sc cl C s H ex) elt te)
  {J:It} {it:Nat} {f:List Nat} {tn:Nat->Heap->Prop} {Q:VK} (I:Inv X pins σ H s) (T:bKy X.prog X.w X.K (.Name x px) J f it tn) (st:tn 0 s.heap) (hf:∀b∈f,bZ2 X pins H b)
  (q:∀D,H D=none->bWf J fr tif te σ D Q (upd H D (.lst []))) {RR:bYL->Nat->Result->bYO->Prop}
  (b6:∀D C B g,Inv X pins σ g B->g C=none->C≠X.env.locals->X.s₀.heap.objs.size<=C->(∀y c,X.env.cells.lookup y=some c->c≠C)->(∀p∈X.pn++pins,p.1≠C)->(∃m,B.heap.Ns C m)->Q (.ref D) g->RR (.ref D) C (.ok .next) B):
  bYT (bYV X.prog X.w) X.A (newList []) (λa8 s₃=>bYT (bYV X.prog X.w) X.A (newFunctionEnv sc X.env.globals cl [] X.env.qual none .none (some X.env)) (λa0 s₄=>
   cX4 (bYV X.prog X.w) X.A (.compStart (.ListComp elt [⟨.Name x px,iter,ifs,0⟩] sc pos) 0 (.ref it) a8 {a0 with scope:=relabel sc X.env}) (RR a8 a0.locals) s₄) E s₃) E s:=by
 refine cXL (wpAny_newFunctionEnv S.nocell (by intro y hy;simp at hy) (λt a4 a5=>?_) S.kind)
 dsimp only at a4 a5 ⊢
 have l:Inv X pins σ (upd H s.heap.objs.size (.lst [])) {s with heap:=s.heap.push {cls:= .type "list",dict:=none,data:= .seq ([]:List bYL).toArray} }:=I.lnew (t':=s.toks) (ys:= []) (its:= []) .nil (cQJ _)
 have b3:=I.fresh
 obtain⟨W,⟨m0,w0⟩,turn⟩:=q s.heap.objs.size b3
 have Z:∀b∈f,∃o,s.heap.get? b=some o/\∀v,o.data≠ .cell v:=T.obj 0 _ st
 have hG:(s.heap.push {cls:= .type "list",dict:=none,data:= .seq ([]:List bYL).toArray}).objs.size=s.heap.objs.size+1:=cXl ..
 have kG:∀b o,s.heap.get? b=some o->(s.heap.push {cls:= .type "list",dict:=none,data:= .seq ([]:List bYL).toArray}).get? b=some o:=λb o e=>bYQ _ e
 generalize d0:s.heap.push {cls:= .type "list",dict:=none,data:= .seq ([]:List bYL).toArray}=G at a4 a5 l hG kG ⊢
 generalize c1:s.heap.objs.size=D at b3 turn w0 hG l ⊢
 have keep:∀b o,G.get? b=some o->t.get? b=some o:=λb o e=>a5.extBut b o (cQc (bYZ e)) (bYQ _ e)
 have b0:∀b∈f,b≠G.objs.size:=λb a=>by obtain⟨o,e,_⟩:=Z b a;exact cQc (bYZ (kG b o e))
 have a3:∀y c,X.env.cells.lookup y=some c->c≠G.objs.size:=λy c e=>by obtain⟨v,z⟩:=l.cell y c e;exact cQc z.lt
 have c6:(blk X (x::names) sc cl G.objs.size {s with heap:=G} (upd H D (.lst [])) f).Ok:=by
  refine⟨I.ok.mod,?_,I.ok.glob,I.ok.blt,bYS _,?_,?_,?_,I.ok.hd,I.ok.frames,.inl rfl,?_,l.bs,cQo I.ok.bsz l.sz,?_,?_,l.stack,l.stkFree⟩
  ·show(relabel sc X.env).kind= .function;exact S.kind
  ·exact λy z c h1 h2=>I.ok.inj y z c (d y c h1) (d z c h2)
  ·intro y hy;have c9:(relabel sc X.env).names.lookup y=some .cell\/(relabel sc X.env).names.lookup y=some .free:=hy;have U:(y,NameKind.cell)∈(relabel sc X.env).names\/(y,NameKind.free)∈(relabel sc X.env).names:=c9.imp cXg cXg;have c5:(y,NameKind.free)∈sc.names:=by
    rcases U with U|U
    ·obtain⟨⟨n,k⟩,Y,e⟩:=cQQ.mp (show(y,NameKind.cell)∈sc.names.map _ from U);dsimp only at e;split at e
     ·rename_i M;cases e;have:k= .free:=by
       simp only[Bool.and_eq_true,beq_iff_eq]at M;exact M.1.1
      rw[this]at Y;exact Y
     ·cases e;exact absurd rfl (S.nocell _ Y)
    ·obtain⟨⟨n,k⟩,Y,e⟩:=cQQ.mp (show(y,NameKind.free)∈sc.names.map _ from U);dsimp only at e;split at e
     ·cases e
     ·cases e;exact Y
   exact a1 y c5
  ·exact λy c h _=>by cases h
  ·intro b a;exact⟨b0 b a,λy c e=>(hf b a).2.2.2.2.1 y c (d y c e)⟩
  ·intro b o e a;obtain⟨f0,f1,f2,f3,f4,f5⟩:=hf b a;rcases f3 with z|z
   ·exact I.ok.noex b o e z
   ·exact absurd (cQe (bYZ e) (cQo I.ok.bsz z)) (cQX _)
  ·intro b a z;obtain⟨f0,f1,f2,f3,f4,f5⟩:=hf b a;rcases bYU.mp (I.stkSub b z)with z|z
   ·exact f1 z
   ·exact f2 z
 have IY:Inv (blk X (x::names) sc cl G.objs.size {s with heap:=G} (upd H D (.lst [])) f) [] (sub σ fr none) (upd H D (.lst [])) {s with heap:=t,toks:=s.toks+([]:List (Str×bYL)).length}:=by
  refine⟨c6,rfl,I.bare,Un.kept keep,⟨_,a4,?_⟩,?_,l.hok.fresh (bYS _),λy c e=>l.freeC y c (d y c e),λp hp=>absurd (show p∈([]:List (Nat×Obj))from hp) (by simp),l.hok.kept keep,?_⟩
  ·intro i y v h1 h2 h3;cases i with
   |zero=>cases h2
   |succ j=>
    have c3:names[j]? =some y:=h1;obtain⟨i',e1,e2,e3⟩:=S.from_ j y c3;have c4:σ[i']? =some (some v):=by
     have z:(fr.map λi=>(σ[i]?).join)[j]? =some (some v):=h2;rw[bY5,e1]at z;have P:(σ[i']?).join=some v:=bY6 z;cases q:σ[i']? with
     |none=>rw[q]at P;cases P
     |some o=>rw[q]at P;rw[show o=some v from P]
    obtain⟨m,Y,hl⟩:=l.loc;have b2:Vis X.env.scope y:= .inr (S.free _ e3 rfl);obtain⟨u,ru,lk⟩:=hl i' y v e2 c4 b2;refine⟨u,ru,.inr ⟨?_,?_⟩⟩
    ·exact aZZ (S.flk _ e3 rfl)
    ·rcases lk with⟨k,_⟩|⟨k,c,e,z⟩
     ·rcases S.free _ e3 rfl with z|z
      ·have P:X.env.kindOf y=some .cell:=z;rw[k]at P;cases P
      ·have P:X.env.kindOf y=some .free:=z;rw[k]at P;cases P
     ·obtain⟨c',e'⟩:=a1 y e3;have:=d y c' e';rw[e]at this;cases this;exact⟨c,e',z.keeps keep⟩
  ·intro y c e;obtain⟨v,z⟩:=l.cell y c (d y c e);exact⟨v,z.keeps keep⟩
  ·show(sub σ fr none).length=(x::names).length;simp[sub,S.len]
 have b1:∀ {o:Option V} {g:Hp} {B:bYO} {pl:List (Nat×Obj)},Inv (blk X (x::names) sc cl G.objs.size {s with heap:=G} (upd H D (.lst [])) f) pl (sub σ fr o) g B->Inv X pins σ g B:=λ{o g B pl} I'=>
  l.call' (ch:=f) I'.os I'.base I'.hok I'.bare λb a=>by obtain⟨f0,f1,f2,f3,f4,f5⟩:=hf b a;exact⟨f3,f1,f4,f5⟩
 have O:∀ {g:Hp},(∀b∈f,g b=none)->∀b∈f,bZ2 (blk X (x::names) sc cl G.objs.size {s with heap:=G} (upd H D (.lst [])) f) [] g b:=λ{g} Y b a=>by
  obtain⟨f0,f1,f2,f3,f4,f5⟩:=hf b a;refine⟨Y b a,b0 b a,λz=>?_,.inl a,λy c e=>f4 y c (d y c e),λp hp=>absurd (show p∈([]:List (Nat×Obj))from hp) (by simp)⟩;rcases bYU.mp (I.stkSub b z)with z|z
  ·exact f1 z
  ·exact f2 z
 have b7:∀b∈f,upd H D (.lst []) b=none:=λb a=>by
  obtain⟨o,e,_⟩:=Z b a;have c2:b≠D:=by rw[<- c1];exact cQc (bYZ e)
  rw[yI c2];exact(hf b a).1
 have a6:tn 0 t:=T.keep 0 _ _ st λb a o e=>keep b o (kG b o e)
 have b4:cX4 (bYV X.prog X.w) X.A (.compLoop (.ListComp elt [⟨.Name x px,iter,ifs,0⟩] sc pos) 0 (.ref it) (.ref D) (compEnvC sc cl G.objs.size X.env)) (RR (.ref D) G.objs.size) {s with heap:=t,toks:=s.toks+([]:List (Str×bYL)).length}:=by
  refine bXC (λn B=>∃i F o g,Inv (blk X (x::names) sc cl G.objs.size {s with heap:=G} (upd H D (.lst [])) f) [] (sub σ fr o) g B/\tn i B.heap/\(∀b∈f,g b=none)/\W i n F g) ?_ m0
   ⟨0,[],none,_,IY,a6,b7,w0⟩
  rintro n B ⟨i,F,o,g,I',b5,a7,w'⟩;obtain⟨hD,c0⟩:=turn i n F g w';rcases c0 with⟨a9,qn⟩|⟨go,step⟩
  ·refine thn (T.done (blk X (x::names) sc cl G.objs.size {s with heap:=G} (upd H D (.lst [])) f) rfl rfl rfl hc i [] B _ g (λ_ _=>False) I' (O a7) b5 a9) λr s1 ⟨hr,I1⟩=>?_;subst hr;obtain⟨mC,b9,_⟩:=I1.loc;exact b6 D G.objs.size s1 g (b1 I1) I1.free (cZp l.lt) l.sz a3 (λp hp=>cQc (bYZ (l.pin p hp).1)) ⟨mC,b9⟩ qn
  ·refine thn (T.item (blk X (x::names) sc cl G.objs.size {s with heap:=G} (upd H D (.lst [])) f) rfl rfl rfl hc i [] B _ g (λ_ _=>False) I' (O a7) b5 go) λr s1 ⟨u,hr,h1⟩=>?_;subst hr;refine thn h1 λ_ s2 ⟨v,H2,I2,rv,yl,st2,fr2⟩=>?_;have c8:=I2.pinned (O fr2) (T.obj _ _ st2);have pg:PG (blk X (x::names) sc cl G.objs.size {s with heap:=G} (upd H D (.lst [])) f) (.Name x px) (yW 0):=y9 S.nd rfl (.inl (lookup_relabel_local S.var)) (.inr (lookup_relabel_local S.var));have L:∀ {o:Option V} {H3:Hp} {s3:bYO},Inv (blk X (x::names) sc cl G.objs.size {s with heap:=G} (upd H D (.lst [])) f) ([]++aZX f s2.heap) (sub σ fr o) H3 s3->tn (i+1) s3.heap/\∀b∈f,H3 b=none:=λ{o H3 s3} J3=>by
    refine⟨T.keep _ _ _ st2 λb a ob e=>(J3.pin (b,ob) (bY9 _ (bY9 _ (jN a e)))).1,λb a=>?_⟩;obtain⟨ob,e,_⟩:=T.obj _ _ st2 b a;exact(J3.pin (b,ob) (bY9 _ (bY9 _ (jN a e)))).2.1
   refine thn (pg _ s2 _ H2 v u (λσ' b8=>σ'=sub σ fr (some v)/\b8=H2) c8 rv ⟨rfl,rfl⟩) λ_ s3 ⟨σ3,H3,I3',e3,e3'⟩=>?_;subst e3;subst e3';refine thn (c7 cl G.objs.size {s with heap:=G} (upd H D (.lst [])) f _ s3 _ _ _ I3' (step v _ yl)) λb s4 ⟨H4,I4,q4⟩=>?_;cases b with
   |false=>have a2:∃R,R<n/\W (i+1) R F H4:=q4;obtain⟨R,U,w4⟩:=a2;obtain⟨z1,z2⟩:=L I4;show ∃m,m<n/\_;exact⟨R,U,i+1,F,some v,H4,I4.unpinned,z1,z2,w4⟩
   |true=>have a2:te (sub σ fr (some v)) H4 λy H5=>F.length<cQd/\H5 D=some (.lst F)/\∃R,R<n/\W (i+1) R (F++ [y]) (upd H5 D (.lst (F++ [y]))):=q4;show bYT _ _ _ _ _ _;refine thn (he cl G.objs.size {s with heap:=G} (upd H D (.lst [])) f _ s4 _ _ _ I4 a2) λue s5 ⟨y,H5,I5,r5,hl,hD5,R,U,w5⟩=>?_;refine thn (xD _ s5 _ H5 (.ref D) [y] (.ref D) [ue] (λ_ H6=>H6=upd H5 D (.lst (F++ [y]))) I5 rfl (.cons r5 .nil) ⟨D,F,y,rfl,rfl,hD5,hl,rfl⟩) λ_ s6 ⟨_,H6,I6,_,e6⟩=>?_;subst e6;obtain⟨z1,z2⟩:=L I6;exact⟨R,U,i+1,F++ [y],some v,_,I6.unpinned,z1,z2,w5⟩
 exact codeAny_compStart_list b4 (T.self _ 0 _ _ _ a6 b4)
def aJJ{sc:cX1}{x:Str}{names:List Str}{fr:List Nat}(S:xN X.N X.env.scope x names fr sc)(I:Inv X pins σ H s): ∃cl,closureFor sc X.env=pure cl/\(∀y c,cl.lookup y=some c->X.env.cells.lookup y=some c)/\(∀y,(y,NameKind.free)∈sc.names->∃c,cl.lookup y=some c):=by
 obtain⟨cl,a,g,_,f⟩:=aJz (env:=X.env) sc.names [] (λy d b=>I.ok.has y.1 (S.free y d b)) (λy c e=>by simp at e);exact⟨cl,a,g,f⟩
end
section
variable {X:Cx}{elt iter:Expr}{x:Str}{px:Pos}{ifs:List Expr}{sc:cX1}{pos:Pos}{names:List Str}{fr:List Nat}{wi:TI}{tif:TT}{te:TE}
def aQF(S:xN X.N X.env.scope x names fr sc)(u:X.calm=true)(B:PI X (.Name x px) iter wi)(d:∀cl C s H ex,bWo (blk X (x::names) sc cl C s H ex) ifs tif) (E:∀cl C s H ex,PE (blk X (x::names) sc cl C s H ex) elt te) (y:∀v,cJ4 iter X.env v=pure v:=by intro _;rfl):PE X (.ListComp elt [⟨.Name x px,iter,ifs,0⟩] sc pos) (tLc wi fr tif te):=by
 intro pins s σ H Q I h;obtain⟨cl,k,L,n⟩:=aJJ S I;rw[eval_ListComp];refine cVd (use:=none) rfl y k S.kind S.loc (thn (B pins s σ H _ I h) λv R f=>thn f λF U a=>?_);obtain⟨V,W,tn,J,Y,rfl,i,T,l,r,q⟩:=a;refine bJe (RR:=λc C=>compPost (bYV X.prog X.w) X.A X.xe none (EP X pins σ Q) c C) S u L n d E i T l r q ?_;intro D C P G p f a j K z g M;obtain⟨m,g⟩:=g;exact⟨m,g,λZ O=>⟨.ref D,G,p.turned (t':=P.toks) (λb o t e=>(O.2 b t).trans e) f (cQu (cQu a)) (.inr j) K z,rfl,M⟩⟩
def aZY{i:Nat}{y:Str}{d c:Pos}(S:xN X.N X.env.scope x names fr sc)(U:X.calm=true)(Z:X.N.Nodup)(hy:X.N[i]? =some y)(hl:X.env.scope.names.lookup y=some .local)(Y:PI X (.Name x px) iter wi)
  (p:∀cl C s H ex,bWo (blk X (x::names) sc cl C s H ex) ifs tif) (he:∀cl C s H ex,PE (blk X (x::names) sc cl C s H ex) elt te)
  (k:swapsWith (.ListComp elt [⟨.Name x px,iter,ifs,0⟩] sc pos) (some (.Name y d)) c.line X.env=pure true:=by rfl) (V:∀v,cJ4 iter X.env v=pure v:=by intro _;rfl):
  PS X (.Assign [.Name y d] (.ListComp elt [⟨.Name x px,iter,ifs,0⟩] sc pos) c) (bKD (tLc wi fr tif te) (yW i)):=by
 intro pins s σ H D I h
 obtain⟨cl,G,c2,M⟩:=aJJ S I
 rw[exec_Assign_Name_used _ _ _ _ k]
 refine bYN (cJm (bYN ?_))
 show bYT _ X.A (do let _ <- comprehension (.ListComp elt [⟨.Name x px,iter,ifs,0⟩] sc pos) sc X.env _ (newList []) false (eval iter X.env) (some (assign (.Name y d) X.env))) _ _ s
 refine bYN (cQP (cVd (use:=some (assign (.Name y d) X.env)) (Q:=λ_ f=>SP X pins D .next f) rfl V G S.kind S.loc (thn (Y pins s σ H _ I h) λv s1 t=>thn t λa0 s2 g=>?_)) (λ_ f r=>bYR (bYR r)) λ_ _ e=>e)
 obtain⟨it,fp,tn,J,H1,rfl,E,T,K,P,q⟩:=g
 refine bJe (RR:=λn C=>compPost (bYV X.prog X.w) X.A X.xe (some (assign (.Name y d) X.env)) (λ_ f=>SP X pins D .next f) n C) S U c2 M p he E T K P q ?_
 intro L C f H' O t g F B W z r
 obtain⟨m,z⟩:=z
 show bYT _ X.A (assign (.Name y d) X.env (.ref L)) _ _ f
 refine wpAny_assign_Name (aQ3 O Z hy (.inl hl) (v:= .ref L) rfl (λs'' I'' ⟨a,sb,u⟩=>?_) (.inr hl))
 have l:C≠a:=by
  rcases u with rfl|u
  ·exact g
  ·exact cQu (B y a u)
 exact⟨m,z.sameBut sb l,λh' j=>⟨_,H',I''.turned (t':=s''.toks) (λb o R e=>(j.2 b R).trans e) t g (.inr F) B W,r⟩⟩
end
def aZJ{K:bYM}{a:Nat}{xs:List V}{fr:List Nat}{tif:TT}{te:TE}{σ:St}{D:Nat}{Q:VK}{H:Hp}(p:V->Bool)(f:V->V)(hl:SqL K H a xs)(r:H D=none)(hz:xs.length<=cQd) (x:∀v∈xs,∀ (c:Hp)(R:Bool->Hp->Prop),(∀b,b≠D->c b=H b)->R (p v) c->tif (sub σ fr (some v)) c R) (u:∀v∈xs,p v=true->∀ (c:Hp)(R:VK),(∀b,b≠D->c b=H b)->R (f v) c->te (sub σ fr (some v)) c R) (z:Q (.ref D) (upd H D (.lst ((xs.filter p).map f)))):bWf (Itl K a) fr tif te σ D Q (upd H D (.lst [])):=by
 have e:∀g,SqL K (upd H D (.lst g)) a xs:=λg=>by
  rcases hl with(h|⟨o,h⟩)|h
  ·exact .inl (.inl (by rw[yI (yJ h r)];exact h))
  ·exact .inl (.inr ⟨o,by rw[yI (yJ h r)];exact h⟩)
  ·exact .inr h
 refine⟨λi m g c=>m=xs.length - i/\i<=xs.length/\g=((xs.take i).filter p).map f/\c=upd H D (.lst g),⟨xs.length,by simp,cQJ _,by simp,rfl⟩,?_⟩;rintro i m g c ⟨rfl,B,rfl,rfl⟩;refine⟨yB,?_⟩;by_cases d:i<xs.length
 ·refine .inr ⟨⟨xs,xs[i],e _,bYK d⟩,λv C t=>?_⟩;obtain⟨rfl,y⟩:=t;have s:xs[i]? =some v:=y xs (e _);have n:v∈xs:=bY3 s;have l:xs.take (i+1)=xs.take i++ [v]:=by rw[cQN,s];rfl
  have j:∀b,b≠D->upd H D (.lst (((xs.take i).filter p).map f)) b=H b:=λb w=>yI w;have k:(((xs.take i).filter p).map f).length<cQd:=by rw[bYP];have A:=cQL p (xs.take i);rw[cQ4]at A;omega
  refine x v n _ _ j ?_;cases q:p v with
  |false=>show ∃E,_;refine⟨xs.length - (i+1),by omega,rfl,d,?_,rfl⟩;rw[l,cQW,cXr (by rw[q];decide)];simp
  |true=>show te _ _ _;refine u v n q _ _ j ⟨k,yB,xs.length - (i+1),by omega,rfl,d,?_,by rw[jD]⟩;rw[l,cQW,cXs q];simp
 ·obtain rfl:i=xs.length:=by omega
  refine .inl ⟨⟨xs,e _,bYS _⟩,?_⟩;rw[cQI];exact z
end L2
namespace L2
open PySem
def lcM{N:List Str}{osc:Scope}{x:Str}{names:List Str}{fr:List Nat}{sc:Scope}(h:decide (sc.kind=.function/\(∀y∈sc.names,y.2≠.cell)/\(∀y∈sc.names,y.2=.local->sc.names.lookup y.1=some .local)/\sc.names.lookup x=some .local/\(∀y∈sc.names,y.2=.free->osc.names.lookup y.1=some .cell\/osc.names.lookup y.1=some .free)/\(∀y∈sc.names,y.2=.free->sc.names.lookup y.1=some .free)/\(x::names).Nodup/\fr.length=names.length/\∀p∈names.zip fr,N[p.2]?=some p.1/\(p.1,NameKind.free)∈sc.names)=true:=by decide +kernel):xN N osc x names fr sc:=
 have z:=of_decide_eq_true h;⟨z.1,z.2.1,z.2.2.1,z.2.2.2.1,z.2.2.2.2.1,z.2.2.2.2.2.1,z.2.2.2.2.2.2.1,z.2.2.2.2.2.2.2.1,z.2.2.2.2.2.2.2.2⟩
end L2
namespace Stb
open PySem
def bQ4(xs:Array Nat):Prop:=∀i j:Nat,i<j->j<xs.size->xs.getD i 0<xs.getD j 0
def bJS{xs:Array Nat}{i:Nat}(h:i<xs.size)(d e:Nat):xs.getD i d=xs.getD i e:=by
 simp[cZg,h]
def aJG{xs:Array Nat}{j:Nat}(f:bQ4 xs):∀ (a c b:Nat),b<=xs.size->c<=b->b - c<=a->
  (∀k,k<c->xs.getD k 0<j)->(∀k,b<=k->k<xs.size->j<=xs.getD k 0)->
  (∀k,k<cZL xs j a c b->xs.getD k 0<j)/\(∀k,cZL xs j a c b<=k->k<xs.size->j<=xs.getD k 0)/\cZL xs j a c b<=xs.size
 |0,c,b,h1,h2,h3,h4,h5=>by
  have e:c=b:=by omega
  subst e;unfold cZL;exact⟨h4,h5,h1⟩
 |a+1,c,b,h1,h2,h3,h4,h5=>by
  unfold cZL;by_cases hl:c<b
  ·rw[if_pos hl];dsimp only;have h:(c+b) / 2<xs.size:=by omega
   have e:=bJS h j 0;by_cases i:xs.getD ((c+b) / 2) j<j
   ·rw[if_pos i];refine aJG f a _ _ h1 (by omega) (by omega) (λk l=>?_) h5;by_cases d:k=(c+b) / 2
    ·subst d;omega
    ·have:=f k ((c+b) / 2) (by omega) h;omega
   ·rw[if_neg i];refine aJG f a _ _ (by omega) (by omega) (by omega) h4 (λk l d=>?_);by_cases g:k=(c+b) / 2
    ·subst g;omega
    ·have:=f ((c+b) / 2) k (by omega) d;omega
  ·rw[if_neg hl];have e:c=b:=by omega
   subst e;exact⟨h4,h5,h1⟩
def jH{xs:Array Nat}(a:bQ4 xs)(j:Nat): (∀k,k<cQM xs j->xs.getD k 0<j)/\(∀k,cQM xs j<=k->k<xs.size->j<=xs.getD k 0)/\cQM xs j<=xs.size:=by
 unfold cQM;exact aJG a xs.size 0 xs.size (bYS _) (cQJ _) (by omega) (λk b=>absurd b (cXx _)) (λk c d=>by omega)
def aWq{xs:Array Nat}(c:bQ4 xs){i:Nat}(e:i<xs.size):cQM xs (xs.getD i 0+1)=i+1:=by
 obtain⟨d,f,g⟩:=jH c (xs.getD i 0+1);have a:i<cQM xs (xs.getD i 0+1):=by apply Nat.lt_of_not_le;intro h;have:=f i h e;omega
 have b:¬i+1<cQM xs (xs.getD i 0+1):=λh=>by have q:=d (i+1) h;have:=c i (i+1) (by omega) (by omega);omega
 omega
def aWr{xs:Array Nat}(b:bQ4 xs):cQM xs 0=0:=by
 obtain⟨a,d,c⟩:=jH b 0;apply Nat.le_antisymm _ (cQJ _);apply Nat.le_of_not_lt;intro h;have:=a 0 h;omega
def aXJ{α:Type}(xs:Array α)(p:Nat)(x:α)(h:p<=xs.size):(cZM xs p x).size=xs.size+1:=by
 unfold cZM;simp;omega
def Z8{xs:Array Nat}{p x k:Nat}(h:p<=xs.size):(cZM xs p x).getD k 0=if k<p then xs.getD k 0 else if k=p then x else xs.getD (k - 1) 0:=by
 unfold cZM;have d:(xs.extract 0 p).size=p:=by simp;omega
 have f:((xs.extract 0 p).push x).size=p+1:=by rw[Array.size_push,d]
 simp only[Array.getD_eq_getD_getElem?];by_cases b:k<p
 ·rw[if_pos b,cJV (by omega),Array.getElem?_push,if_neg (by omega),cJL (by omega)];have a:k<xs.size:=by omega
  simp[a]
 ·rw[if_neg b];by_cases c:k=p
  ·subst c;rw[if_pos rfl,cJV (by omega),Array.getElem?_push,if_pos (by omega)];rfl
  ·rw[if_neg c,Array.getElem?_append_right (by omega),f];by_cases g:k - (p+1)<xs.size - p
   ·rw[cJL (by omega)];have a:k - 1<xs.size:=by omega
    have e:p+(k - (p+1))=k - 1:=by omega
    simp[a,e]
   ·rw[cZF (by simp;omega),cZF (by omega)]
def aJ5{xs:Array Nat}(c:bQ4 xs){j:Nat}(l:∀k,k<xs.size->xs.getD k 0≠j):bQ4 (cZM xs (cQM xs j) j):=by
 obtain⟨b1,f,b⟩:=jH c j;intro i k d h;rw[aXJ _ _ _ b]at h;rw[Z8 b,Z8 b];by_cases e:i<cQM xs j
 ·rw[if_pos e];have v:=b1 i e;by_cases g:k<cQM xs j
  ·rw[if_pos g];exact c i k d (by omega)
  ·rw[if_neg g];by_cases a:k=cQM xs j
   ·rw[if_pos a];exact v
   ·rw[if_neg a];have:=f (k - 1) (by omega) (by omega);omega
 ·rw[if_neg e,if_neg (show ¬k<cQM xs j by omega),if_neg (show ¬k=cQM xs j by omega)];by_cases a:i=cQM xs j
  ·rw[if_pos a];have:=f (k - 1) (by omega) (by omega);have:=l (k - 1) (by omega);omega
  ·rw[if_neg a];exact c (i - 1) (k - 1) (by omega) (by omega)
def aKg(n:Nat):bQ4 (Array.range n):=by
 intro i j b a;rw[Array.size_range]at a;simp[cZg,a,Nat.lt_trans b a,b]
def aY4{l:List Nat}(h:l.Pairwise (·<·)):bQ4 l.toArray:=by
 intro i j b d;have a:j<l.length:=by simpa using d
 have c:i<l.length:=Nat.lt_trans b a;have:=cZh.mp h i j c a b;simp[cZg,a,c,this]
structure Tab(b:Bool)(t:cXw):Prop where
 rise:bQ4 t.place
 dum:t.dummies= #[]
 led:b=true\/t.led=true
def aK8(j:Nat):SetTable.has #[] j=false:=by
 unfold SetTable.has;simp
def bZH{b:Bool}{t:cXw}(T:Tab b t){j:Nat}(h:t.slot j= .empty):∀k,k<t.place.size->t.place.getD k 0≠j:=by
 intro k a e;obtain⟨b1,d,g⟩:=jH T.rise j;have c:cQM t.place j=k:=by
  have i:¬k<cQM t.place j:=λh=>by have:=b1 k h;omega
  have l:¬cQM t.place j<k:=λh=>by have:=d _ (bYS _) (by omega);have:=T.rise _ k h a;omega
  omega
 unfold SetTable.slot at h;dsimp only at h;rw[c]at h;have f:t.place[k]? =some j:=by
  rw[cXe a];have:t.place.getD k 0=t.place[k]:=by simp[cZg,a]
  rw[<- this,e]
 rw[f]at h;simp at h
def bZG{b:Bool}{t:cXw}(T:Tab b t)(j:Nat):t.slot j≠ .dummy:=by
 unfold SetTable.slot;dsimp only;rw[T.dum,aK8];split<;> simp
def aXt{b:Bool}{t:cXw}(T:Tab b t)(f:Nat->Int)(h:Int):∀ (a:Nat)(p:SetTable.Probe),p.dummy=none->∀j d,cJ2 t f h a p=some (.empty j d)->t.slot j= .empty/\d=none
 |0,p,_,j,d,e=>by unfold cJ2 at e;cases e
 |a+1,p,hp,j,d,e=>by
  have c:(t.advance p).dummy=none:=by
   unfold SetTable.advance;split
   ·exact hp
   ·exact hp
  unfold cJ2 at e;cases q:t.slot p.j with
  |empty=>rw[q]at e;simp only[cJ0,SetTable.Met.empty.injEq]at e;obtain⟨rfl,rfl⟩:=e;exact⟨q,hp⟩
  |dummy=>exact absurd q (bZG T _)
  |live i=>
   rw[q]at e;dsimp only at e;split at e
   ·cases e
   ·exact aXt T f h a _ c j d e
def uH{b:Bool}{t:cXw}(T:Tab b t)(n:Nat):Tab b (t.standIn n):=⟨aKg n,rfl,T.led⟩
def aWL{b:Bool}{t:cXw}(T:Tab b t)(l:Array (Int×bYL))(h:Int)(x:bYL):Tab b (layNew t l h x).2.1:=by
 unfold layNew;cases q:t.freeSlot h with
 |none=>exact uH T _
 |some i=>
  obtain⟨a,m⟩:=i;dsimp only;have f:t.slot a= .empty:=by
   unfold SetTable.freeSlot at q;split at q
   ·rename_i j d e;simp only[cJ0,Prod.mk.injEq]at q;obtain⟨k,g⟩:=aXt T _ h _ _ rfl j d e;rw[<- q.1,g];exact k
   ·cases q
  have c:Tab b (t.put a).1:=by unfold SetTable.put;dsimp only;refine⟨aJ5 T.rise (bZH T f),?_,T.led⟩;rw[T.dum,aK8];rfl
  unfold SetTable.orStandIn;split
  ·exact c
  ·exact uH c _
def aZ0{b:Bool}{t:cXw}(T:Tab b t)(i:Array (Int×bYL))(c:Nat):Tab b (relayAll t i c).2.1:=by
 unfold relayAll;cases q:t.relaid (i.map (·.1)) c with
 |none=>exact uH T _
 |some r=>
  obtain⟨n,g⟩:=r;dsimp only;have o:Tab b n:=by
   unfold SetTable.relaid SetTable.laid at q;simp only[Option.bind_eq_bind,Option.bind_eq_some_iff]at q;obtain⟨d,_,e⟩:=q;simp only[Option.pure_def,cJ0,Prod.mk.injEq]at e;obtain⟨rfl,_⟩:=e;refine⟨aY4 ?_,rfl,T.led⟩;rw[List.map_filterMap];have sub:∀ (f:Nat->Option Nat),(∀j k,f j=some k->k=j)->∀l:List Nat,List.Sublist (l.filterMap f) l:=by
    intro f m l;induction l with
    |nil=>exact List.Sublist.slnil
    |cons a r h=>
     rw[cZv];cases e:f a with
     |none=>exact h.cons a
     |some k=>rw[m a k e];exact h.cons_cons a
   refine List.Pairwise.sublist (sub _ ?_ _) List.pairwise_lt_range;intro j k e;cases q:d.getD j none with
   |none=>rw[q]at e;cases e
   |some z=>rw[q]at e;simpa using e.symm
  split
  ·exact o
  ·exact uH T _
def bQY{b a:Bool}(h:b=true\/a=true):Tab b (.fresh 0 0 a):=⟨λi j d c=>absurd c (cXx _),rfl,h⟩
end Stb
namespace Stb
open PySem
def Ent(a:List Int)(b:List (Int×bYL)):Prop:=cQA (λ(k:Int)(e:Int×bYL)=>e.1=hashInt k/\∃t,e.2=Value.int k t) a b
def Ent.mem_l:∀ {b:List Int} {c:List (Int×bYL)},Ent b c->∀k∈b,∃e∈c,∃t,e.2=Value.int k t
 |_,_,.nil,k,a=>by cases a
 |_,_,.cons r t,k,a=>by
  rcases bYU.mp a with rfl|a
  ·exact⟨_,bY0 ..,r.2⟩
  ·obtain⟨e,d,z⟩:=Ent.mem_l t k a;exact⟨e,bYX _ d,z⟩
def Ent.mem_r:∀ {b:List Int} {c:List (Int×bYL)},Ent b c->∀e∈c,∃k∈b,e.1=hashInt k/\∃t,e.2=Value.int k t
 |_,_,.nil,e,a=>by cases a
 |_,_,.cons r t,e,a=>by
  rcases bYU.mp a with rfl|a
  ·exact⟨_,bY0 ..,r⟩
  ·obtain⟨k,d,z⟩:=Ent.mem_r t e a;exact⟨k,bYX _ d,z⟩
def Ent.elems{prog:bY7}{w:cQf}{d:List Int}{b:List (Int×bYL)}(h:Ent d b):ElemsOf (intKind prog w) b:=λe f=>by
 obtain⟨k,_,c,t,a⟩:=h.mem_r e f;refine⟨⟨k,?_,c⟩,?_⟩
 ·rw[a];exact intKind_is prog w k t
 ·rw[a];rfl
def Ent.length{b:List Int}{a:List (Int×bYL)}(h:Ent b a):b.length=a.length:=cXt h
def Ent.append:∀ {b ls:List Int} {a fs:List (Int×bYL)},Ent b a->Ent ls fs->Ent (b++ls) (a++fs)
 |_,_,_,_,.nil,s=>s
 |_,_,_,_,.cons r t,s=> .cons r (Ent.append t s)
def Ent.perm{g fs:List (Int×bYL)}(p:cJR g fs):∀ {a:List Int},Ent a g->∃b,Ent b fs/\b.Perm a:=by
 induction p with
 |nil=>exact λ{a} h=>⟨a,h,.rfl⟩
 |cons x p k=>
  intro a h;cases h with
  |cons r t=>obtain⟨b,e,c⟩:=k t;exact⟨_::b,.cons r e,c.cons _⟩
 |swap x y l=>
  intro a h;cases h with
  |cons r t=>
   cases t with
   |cons o j=>exact⟨_::_::_,.cons o (.cons r j),.swap ..⟩
 |trans p q f d=>intro a h;obtain⟨b,e,c⟩:=f h;obtain⟨n,i,m⟩:=d e;exact⟨n,i,m.trans c⟩
abbrev aJx(w:cQf):Bool:=w.params.followText "set-order"
def aQ8(w:cQf)(h:Heap)(a:Nat)(d:List Int):Prop:=
 ∃o b e t c,h.get? a=some o/\o.ExactSet/\o.data= .set b e t/\Ent c b.toList/\c.Perm d/\d.Nodup/\b.size<cJf/\t.fits b.size=true/\Tab (aJx w) t
def aQ8.at{w:cQf}{h h':Heap}{a:Nat}{b:List Int}(x:aQ8 w h a b)(k:∀o,h.get? a=some o->h'.get? a=some o):aQ8 w h' a b:=
 let ⟨o,es,ep,t,ls,ho,r⟩:=x;⟨o,es,ep,t,ls,k o ho,r⟩
def aQ8.there{w:cQf}{h:Heap}{a:Nat}{b:List Int}(x:aQ8 w h a b):∃o,h.get? a=some o:=
 let ⟨o,es,ep,t,ls,ho,r⟩:=x;⟨o,ho⟩
def aQ8.type{w:cQf}{s:bYO}{a:Nat}{b:List Int}(x:aQ8 w s.heap a b):s.TypeIs (.ref a) "set":=
 let ⟨o,es,ep,t,ls,ho,he,r⟩:=x;⟨o,ho,he.1⟩
def aY0{h:Heap}{a:Nat}{o:Obj}{e:Array (Int×bYL)}{c:Nat}{t:cXw}(f:h.get? a=some o)(d:o.data= .set e c t)(b:Array (Int×bYL))(t':cXw): (h.update a (Obj.putSet b t')).get? a=some {o with data:= .set b (c+1) t'}:=by
 have q:=cQS (Obj.putSet b t') f (by rw[putSet_of b t' d];rfl);rw[putSet_of b t' d]at q;exact q
section
variable {prog:bY7}{w:cQf}{A:cQt}{E:bYL->bYO->Prop}{s:bYO}
def aK7{b:Bool}{Q:Unit->bYO->Prop}(h:Q () s):bYT (bYV prog w) A (match b with|true=>rule "set.scan.the-table-gave-way"|false=>pure ()) Q E s:=by
 cases b
 ·exact bYR h
 ·exact wpAny_rule h
def bWs{a:Nat}{p:List Int}{k:Int}{tk:Tok}{Q:Bool->bYO->Prop}(hS:aQ8 w s.heap a p)(a6:p.length+1<cJf) (h:∀n b,cXP a s.heap n->aQ8 w n a (if k∈p then p else p++ [k])->Q b {s with heap:=n}): bYT (bYV prog w) A (setAddHashed a (.int k tk) (hashInt k)) Q E s:=by
 obtain⟨o,D,ep,t,ls,W,N,S,l,T,U,hb,hf,hT⟩:=hS;have R:=l.elems (prog:=prog) (w:=w);have a8:D.size=p.length:=by rw[<- cQ8,<- l.length,T.length_eq]
 unfold setAddHashed setAddHashedIn;refine cQ6 (bYN (cZf W S hf ?_));dsimp only;rw[byScan_of (knd:=intKind prog w) rfl hb R];simp only[↓reduceIte];unfold setAddByScan;refine bYN ?_;refine bYN (wpAny_rule ?_);refine bYN (wpAny_setScan_of (knd:=intKind prog w) (k:=k) (intKind_is prog w k tk) W S hf R ?_);cases hr:List.findIdx? (λe=>(intKind prog w).is k e.2) D.toList with
 |some j=>
  dsimp only;obtain⟨hj,a0,_⟩:=List.findIdx?_eq_some_iff_getElem.mp hr;have B:k∈p:=by
   obtain⟨k',a5,_,t',e'⟩:=l.mem_r _ (cXQ hj);rw[e']at a0;have:k=k':=by have z:(k'==k)=true:=a0;exact(beq_iff_eq.mp z).symm
   rw[this];exact T.mem_iff.mp a5
  refine bYR (bYR ?_);have q:=h s.heap false (Heap.SameBut.refl a s.heap) (by rw[if_pos B];exact⟨o,D,ep,t,ls,W,N,S,l,T,U,hb,hf,hT⟩);exact q
 |none=>
  dsimp only;have B:k∉p:=λz=>by obtain⟨e,he,t',e'⟩:=l.mem_l k (T.mem_iff.mpr z);have q:=List.findIdx?_eq_none_iff.mp hr e he;rw[e',intKind_is]at q;cases q
  rw[if_neg B]at h;have Y:(p++ [k]).Nodup:=by rw[cZe];exact⟨U,cXb ..,λx hx y hy=>by rw[bY2.mp hy];rintro rfl;exact B hx⟩
  have d:=layNew_perm t D (hashInt k) (.int k tk);have f:=layNew_fits t D (hashInt k) (.int k tk);have g:=aWL hT D (hashInt k) (.int k tk);generalize hL:layNew t D (hashInt k) (.int k tk)=L at d f g ⊢;obtain⟨c,t1,m,a9⟩:=L;dsimp only at d f g ⊢;rw[Array.toList_push]at d;obtain⟨Z,H,a1⟩:=(l.append (ls:= [k]) (fs:= [(hashInt k,.int k tk)]) (.cons ⟨rfl,tk,rfl⟩ .nil)).perm d.symm;have F:Z.Perm (p++ [k]):=a1.trans (T.append_right [k]);have u:c.size<cJf:=by rw[<- cQ8,d.length_eq,bY8,cQ8];simpa using (by omega:D.size+1<cJf)
  have G:∀i:cXw,i.fits c.size=true->Tab (aJx w) i->
    bYT (bYV prog w) A (do
     storeSet a c i
     if(!m && i.tooFull)=true then do
       (match(relayAll i c (cZl c.size)).2.2 with|true=>rule "set.scan.the-table-gave-way"|false=>pure ())
       storeSet a (relayAll i c (cZl c.size)).1 (relayAll i c (cZl c.size)).2.1
       pure (some true)
      else pure (some true)) (λr V=>∃n,r=some true/\V= {s with heap:=n}/\cXP a s.heap n/\aQ8 w n a (p++ [k])) E s:=by
   intro i a7 X
   refine bYN (wpAny_storeSet_of W S ?_ (cJ3 u))
   have C:=cXf s.heap a (Obj.putSet c i)
   have J:=aY0 W S c i
   split
   ·have v:=relayAll_perm i c (cZl c.size);have K:=relayAll_fits i c (cZl c.size);have I:=aZ0 X c (cZl c.size);generalize b0:relayAll i c (cZl c.size)=Rl at v K I ⊢;obtain⟨M,t3,a4⟩:=Rl;dsimp only at v K I ⊢;obtain⟨a2,O,a3⟩:=H.perm v.symm;have P:M.size=c.size:=by rw[<- cQ8,v.length_eq,cQ8]
    refine bYN (aK7 ?_);refine bYN (wpAny_storeSet_of J rfl ?_ (cJ3 (by rw[P];exact u)));refine bYR ⟨_,rfl,rfl,C.trans (cXf _ a _),_,M,_,t3,a2,aY0 J rfl M t3,N,rfl,O,a3.trans F,Y,by rw[P];exact u,K,I⟩
   ·exact bYR ⟨_,rfl,rfl,C,_,c,_,i,Z,J,N,rfl,H,F,Y,u,a7,X⟩
  have done:∀ (r:Option Bool)(V:bYO),(∃n,r=some true/\V= {s with heap:=n}/\cXP a s.heap n/\aQ8 w n a (p++ [k]))->
    bYT (bYV prog w) A (match r with|some added=>pure added|none=>setAddHashedIn a (.int k tk) (hashInt k) 99999) Q E V:=by
   rintro r V ⟨n,rfl,rfl,h1,h2⟩
   exact bYR (h n true h1 h2)
  refine bYN (aK7 ?_);split
  ·refine bYN ?_;rw[hashByValue_scannable 8 (show(Value.int k tk).scannable=true from rfl)];refine bYR ?_;have e:(if plainKind (Value.int k tk)=true then t1 else {t1 with plain:=false})=t1:=rfl;rw[e];exact cQP (G t1 f g) done λ_ _ z=>z
  ·refine bYN (bYR ?_);simp only[↓reduceIte];exact cQP (G t1 f g) done λ_ _ z=>z
end
end Stb
namespace Stb
open PySem
def zN:Slot "set_iterator" "__next__" "set_iterator.__next__":=
 .of (owner:="set_iterator") (n:="__next__") (by rw[typeLookup_type,cJt];kernel_rfl) dk dk dk
  (by first|exact .inl dk|exact .inr dk) (by rw[isSubtype_type];kernel_rfl)
def jI:entryFor table "set_iterator.__next__"=some cXy.«set_iterator.__next__»:=entryFor_of_tree (by kernel_rfl)
def aVS:Manifest.owners.lookup (String.ofList ['r', 'o', 't', 'a', 'r', 'e', 't', 'i', '_', 't', 'e', 's'].reverse)=some Manifest.sig_set_iterator:=by kernel_rfl
def qS(a:bYL):argsOk "set_iterator.__next__" ⟨[a],[]⟩:=by
 unfold argsOk;rw[signature?_of (id:="set_iterator.__next__") (n:= ['_', '_', 't', 'x', 'e', 'n', '_', '_']) (o:= ['r', 'o', 't', 'a', 'r', 'e', 't', 'i', '_', 't', 'e', 's']) (by kernel_rfl) aVS];kernel_rfl
def aWD:entryFor table "set.__iter__"=some cXy.«frozenset.__iter__»:=
 entryFor_alias (id':="frozenset.__iter__") (by kernel_rfl) rfl dk (by kernel_rfl)
def W8:Slot "set_iterator" "__iter__" "set_iterator.__iter__":=
 .of (owner:="set_iterator") (n:="__iter__") (by rw[typeLookup_type,cJt];kernel_rfl) dk dk dk
  (by first|exact .inl dk|exact .inr dk) (by rw[isSubtype_type];kernel_rfl)
def uN(first:bYL)(i:Nat)(a:Nat)(n b:Nat):Obj:={cls:= .type "set_iterator",data:= .fields #[first,.int i 0,.ref a,.int n 0,.int b 0] }
section
variable {prog:bY7}{w:cQf}{A:cQt}{E:bYL->bYO->Prop}{s:bYO}
def bQX{I:Nat}{Q:Option bYL->bYO->Prop}{h₁:Heap}(h:A.handled=none)(i:cJl I s.heap h₁)(g:∀d,cJl I s.heap d->Q none {s with heap:=d}):
  bYT (bYV prog w) A.in1 (do raiseNew (<- newExc (.type "StopIteration") []):Sem PySem.Fin) (λf c=>∃r,f= .done (.ret r)/\bYT (bYV prog w) A (pure (some r)) Q E c)
   (λe c=>bYT (bYV prog w) A (do if <- cJC e (.type "StopIteration")then pure none else throw e) Q E c) {s with heap:=h₁}:=by
 refine bYN ?_
 simp only[newExc,newTuple]
 refine bYN (cXL ?_ (by size_fits))
 refine bYN (m:=firstArgMember _ _) (wpAny_of_eq (a:=Value.none) (by first|rfl|(simp only[firstArgMember];rfl)) ?_)
 refine cXL ?_ (by size_fits)
 simp only[raiseNew]
 refine bYN (wpAny_handled ?_)
 rw[show A.in1.handled=none from h]
 refine bYN (bYR (wpAny_throw ?_))
 refine bYN (wpAny_isInstance (T:="StopIteration") (b:=true) ⟨_,cQg _ rfl,rfl⟩ isSubtype_stop ?_)
 exact bYR (g _ ((i.push _).push _))
def aYw{I a:Nat}{o:Obj}{f:Array (Int×bYL)}{d:Nat}{t:cXw}{b i nx:Nat}{x:bYL}{Q:Option bYL->bYO->Prop} (u:s.heap.get? a=some o) (p:o.data= .set f d t) (l:t.fits f.size=true) (e:s.heap.get? I=some (uN (.int b 0) i a f.size d)) (q:∀ (j:Option (bYL×Nat)->bYO->Prop)(r:bYL->bYO->Prop)(n:cQt),j (some (x,nx)) s->bYT (bYV prog w) n (setNext a b i d) j r s) (m:∀h,h.get? I=some (uN (.int nx 0) (i+1) a f.size d)->cXP I s.heap h->Q (some x) {s with heap:=h}):bYT (bYV prog w) A (pyNext (.ref I)) Q E s:=by
 have k:s.TypeIs (.ref I) "set_iterator":=⟨_,e,rfl⟩;unfold pyNext;refine bYN (cZ3 (cZy (name:=cJc "__next__") k zN (cXF zN k jI ?_ (qS _))));unfold cXy.«set_iterator.__next__»;refine bYN (bYR ?_);refine bYN (cJO e rfl ?_);show bYT _ _ (setEntries a >>=_) _ _ s;refine bYN (cZx u p l ?_);rw[if_neg (by simp)];show bYT _ _ (setNext a ((b:Int)).toNat ((i:Int)).toNat ((d:Int)).toNat >>=_) _ _ s;rw[cQm,cQm,cQm];refine bYN (q _ _ _ ?_);show bYT _ _ (setField (.ref I) 0 (cQ3 nx) >>=_) _ _ s;refine bYN (cXS e rfl (by simp) ?_);have c:=cQS (cQ2 (·.setIfInBounds 0 (cQ3 (nx:Int)))) e (cXa (cXd rfl _));refine bYN (cXS c rfl (by simp) (bYR ⟨x,rfl,bYR (m _ ?_ ((cXf ..).trans (cXf ..)))⟩));have g:=cQS (cQ2 (·.setIfInBounds 1 (cQ3 ((i:Int)+1)))) c (cXa (cXd rfl _));exact g
end
end Stb
namespace Stb
open PySem
section
variable {prog:bY7}{w:cQf}{A:cQt}{E:bYL->bYO->Prop}{s:bYO}
def bXh{I a:Nat}{o:Obj}{e:Array (Int×bYL)}{c:Nat}{t:cXw}{b i:Nat}{Q:Option bYL->bYO->Prop}(l:A.handled=none) (r:s.heap.get? a=some o) (n:o.data= .set e c t) (j:t.fits e.size=true) (d:s.heap.get? I=some (uN (.int b 0) i a e.size c)) (p:∀ (f:Option (bYL×Nat)->bYO->Prop)(q:bYL->bYO->Prop)(m:cQt),f none s->bYT (bYV prog w) m (setNext a b i c) f q s) (k:∀g,cJl I s.heap g->Q none {s with heap:=g}):bYT (bYV prog w) A (pyNext (.ref I)) Q E s:=by
 have h:s.TypeIs (.ref I) "set_iterator":=⟨_,d,rfl⟩;unfold pyNext;refine bYN (cZ3 (cZy (name:=cJc "__next__") h zN (cXF zN h jI ?_ (qS _))));unfold cXy.«set_iterator.__next__»;refine bYN (bYR ?_);refine bYN (cJO d rfl ?_);show bYT _ _ (setEntries a >>=_) _ _ s;refine bYN (cZx r n j ?_);rw[if_neg (by simp)];show bYT _ _ (setNext a ((b:Int)).toNat ((i:Int)).toNat ((c:Int)).toNat >>=_) _ _ s;rw[cQm,cQm,cQm];refine bYN (p _ _ _ ?_);show bYT _ _ (setField (.ref I) 2 .none >>=_) _ _ s;refine bYN (cXS d rfl (by simp) ?_);exact bQX l (cXf ..).extBut k
def bXq{h:Heap}{I:Nat}{f:bYL}{i:Nat}{a:Nat}{n b:Nat}(c:h.get? I=some (uN f i a n b)): (h.update I (cQ2 (·.setIfInBounds 1 (cQ3 ((i:Int)+1))))).get? I=some (uN f (i+1) a n b):=by
 have q:=cQS (cQ2 (·.setIfInBounds 1 (cQ3 ((i:Int)+1)))) c (cXa (cXd (o:=uN f i a n b) rfl _));rw[q];rfl
def bXp{h:Heap}{I:Nat}{f:bYL}{i:Nat}{a:Nat}{n b:Nat}(c:h.get? I=some (uN f i a n b)): (h.update I (cQ2 (·.setIfInBounds 0 (cQ3 (0:Int))))).get? I=some (uN (.int 0 0) i a n b):=by
 have q:=cQS (cQ2 (·.setIfInBounds 0 (cQ3 (0:Int)))) c (cXa (cXd (o:=uN f i a n b) rfl _));rw[q];rfl
def aWV{I a p:Nat}{o:Obj}{b:Array (Int×bYL)}{k:Nat}{t:cXw}{i j:Nat}{pl:Array bYL}{op:Obj}{c:Nat}{e:Int×bYL}{Q:Option bYL->bYO->Prop} (q:s.heap.get? a=some o) (n:o.data= .set b k t) (l:t.fits b.size=true) (d:s.heap.get? I=some (uN (.ref p) i a b.size k)) (x:s.heap.get? p=some op) (h:op.data= .seq pl c) (u:pl[i]? =some (.int j 0)) (v:b[j]? =some e) (r:∀g,g.get? I=some (uN (.ref p) (i+1) a b.size k)->cXP I s.heap g->Q (some e.2) {s with heap:=g}):bYT (bYV prog w) A (pyNext (.ref I)) Q E s:=by
 have m:s.TypeIs (.ref I) "set_iterator":=⟨_,d,rfl⟩;unfold pyNext;refine bYN (cZ3 (cZy (name:=cJc "__next__") m zN (cXF zN m jI ?_ (qS _))));unfold cXy.«set_iterator.__next__»;refine bYN (bYR ?_);refine bYN (cJO d rfl ?_);show bYT _ _ (setEntries a >>=_) _ _ s;refine bYN (cZx q n l ?_);rw[if_neg (by simp)];show bYT _ _ (seqItems? (.ref p) >>=_) _ _ s;refine bYN (wpAny_seqItems x h ?_);dsimp only;simp only[cQm,u];refine bYN ?_;unfold setNextDrawn;refine bYN (cZf q n l ?_);dsimp only;rw[if_neg (by simp)];obtain⟨y,ex⟩:=e;rw[v];refine bYR ?_;have f:=bXq d;refine bYN (cXS d rfl (by simp) ?_);refine bYR ⟨ex,rfl,?_⟩;refine bYR ?_;exact r _ f (cXf s.heap I _)
def aK3{I a p:Nat}{o:Obj}{e:Array (Int×bYL)}{j:Nat}{t:cXw}{i:Nat}{pl:Array bYL}{op:Obj}{c:Nat}{Q:Option bYL->bYO->Prop}(m:A.handled=none) (v:s.heap.get? a=some o) (q:o.data= .set e j t) (k:t.fits e.size=true) (b:s.heap.get? I=some (uN (.ref p) i a e.size j)) (r:s.heap.get? p=some op) (f:op.data= .seq pl c) (n:pl[i]? =none) (l:∀g,cJl I s.heap g->Q none {s with heap:=g}):bYT (bYV prog w) A (pyNext (.ref I)) Q E s:=by
 have h:s.TypeIs (.ref I) "set_iterator":=⟨_,b,rfl⟩;unfold pyNext;refine bYN (cZ3 (cZy (name:=cJc "__next__") h zN (cXF zN h jI ?_ (qS _))));unfold cXy.«set_iterator.__next__»;refine bYN (bYR ?_);refine bYN (cJO b rfl ?_);show bYT _ _ (setEntries a >>=_) _ _ s;refine bYN (cZx v q k ?_);rw[if_neg (by simp)];show bYT _ _ (seqItems? (.ref p) >>=_) _ _ s;refine bYN (wpAny_seqItems r f ?_);dsimp only;simp only[cQm,n];refine bYN (cXS b rfl (by simp) ?_);have d:=bXp b;refine bYN (cXS d rfl (by simp) ?_);have u:=(cXf s.heap I (cQ2 (·.setIfInBounds 0 (cQ3 (0:Int))))).trans (cXf _ I (cQ2 (·.setIfInBounds 2 Value.none)));exact bQX (s:=s) m u.extBut l
def X1{α:Type}:∀ {l:List α} {i:Nat} (h:i<l.length),cJR (l[i]::l.eraseIdx i) l
 |x::r,0,_=> .rfl
 |x::r,i+1,h=>by have a:=X1 (l:=r) (i:=i) (by simpa using h);exact(List.Perm.swap ..).trans (a.cons x)
def aZW{α:Type}(f:Nat->Nat):∀ (a k:Nat)(left:List α)(out:Array α),left.length=a->cJR (cZS.go f a k left out).toList (out.toList++left)
 |0,k,left,out,h=>by have e:left= []:=List.length_eq_zero_iff.mp h;subst e;unfold cZS.go;rw[cQO]
 |a+1,k,left,out,h=>by unfold cZS.go;have b:f k % left.length<left.length:=Nat.mod_lt _ (by omega);rw[bYK b];dsimp only;refine(aZW f a (k+1) _ _ (by rw[List.length_eraseIdx,if_pos b];omega)).trans ?_;rw[Array.toList_push,cQ1,List.singleton_append];exact(X1 b).append_left _
def bZ0{a:Nat}{o:Obj}{b:Array (Int×bYL)}{c:Nat}{t:cXw}{Q:Array (Int×bYL)->bYO->Prop}(g:s.heap.get? a=some o)(d:o.data= .set b c t)(f:t.fits b.size=true) (e:aJx w=true) (h:Q (cZS (w.params.setOrder a c) b) s):bYT (bYV prog w) A (setWalk a) Q E s:=by
 unfold setWalk setsByText;refine bYN (cZf g d f ?_);dsimp only;refine bYN (bYN (cZu (bYR ?_)));show bYT (bYV prog w) A (if aJx w=true then _ else _) Q E s;rw[if_pos e];exact bYN (cZu (bYR h))
def aYx{a:Nat}{o:Obj}{d:Array (Int×bYL)}{c:Nat}{t:cXw}{b i:Nat}{Q:Option (bYL×Nat)->bYO->Prop}(k:s.heap.get? a=some o)(f:o.data= .set d c t) (j:t.fits d.size=true) (g:aJx w=true) (h:Q (((cZS (w.params.setOrder a c) d)[i]?).map λe=>(e.2,b)) s):bYT (bYV prog w) A (setNext a b i c) Q E s:=by
 unfold setNext setsByText;refine bYN (cZf k f j ?_);dsimp only;refine bYN (bYN (cZu (bYR ?_)));show bYT (bYV prog w) A (if aJx w=true then _ else _) Q E s;rw[if_pos g];rw[if_neg (by simp)];exact bYN (bZ0 k f j g (bYR h))
def bXG{a:Nat}{o:Obj}{c:Array (Int×bYL)}{e:Nat}{t:cXw}{b i:Nat}{Q:Option (bYL×Nat)->bYO->Prop}(l:s.heap.get? a=some o)(f:o.data= .set c e t)
  (k:t.fits c.size=true) (g:aJx w=false) (d:(!t.plain && decide (c.size > 1))=false) (hl:t.led=true)
  (h:Q (match c[cQM t.place b]?,t.place[cQM t.place b]? with|some (_,x),some j=>some (x,j+1)|_,_=>none) s):bYT (bYV prog w) A (setNext a b i e) Q E s:=by
 unfold setNext setsByText
 refine bYN (cZf l f k ?_)
 dsimp only
 refine bYN (bYN (cZu (bYR ?_)))
 show bYT (bYV prog w) A (if aJx w=true then _ else _) Q E s
 rw[g,if_neg (by decide)]
 show bYT (bYV prog w) A (if(!t.plain && decide (c.size > 1))=true then _ else _) Q E s
 rw[d,if_neg (by decide)]
 refine bYN ?_
 show bYT (bYV prog w) A (if(!t.led && !c.isEmpty)=true then _ else _) _ E s
 rw[hl]
 simp only[Bool.not_true,Bool.false_and,Bool.false_eq_true,↓reduceIte]
 exact bYR (bYR h)
end
end Stb
namespace Stb
open PySem
def aZi(a:List Int)(vs:List bYL):Prop:=cQA (λ(k:Int)(v:bYL)=>∃t,v=Value.int k t) a vs
def Ent.vals:∀ {b:List Int} {a:List (Int×bYL)},Ent b a->aZi b (a.map (·.2))
 |_,_,.nil=> .nil
 |_,_,.cons r t=> .cons r.2 (Ent.vals t)
def bXB{α:Type}{xs ys:List α}(hl:xs.length=ys.length)(h:∀ (j:Nat)(x:α),xs[j]? =some x->ys[j]? =some x):xs=ys:=by
 apply cX3;intro i;cases e:xs[i]? with
 |some x=>exact(h i x e).symm
 |none=>have:=cJ6.mp e;exact(cJ6.mpr (by omega)).symm
def Z6{α β:Type}{f:α->Option β}:∀ {l:List α} (h:∀x∈l,(f x).isSome=true) (i:Nat),(l.filterMap f)[i]? =l[i]?.bind f
 |[],_,i=>by simp
 |x::r,h,i=>by
  obtain⟨y,e⟩:=Option.isSome_iff_exists.mp (h x (bY0 ..));rw[List.filterMap_cons_some e];cases i with
  |zero=>simp[e]
  |succ i=>simpa using Z6 (λz a=>h z (bYX _ a)) i
def aXG:entryFor table "set_iterator.__iter__"=some cXy.«dict_keyiterator.__iter__»:=
 entryFor_alias (id':="dict_keyiterator.__iter__") (by kernel_rfl) rfl dk (by kernel_rfl)
def aZk(a:bYL):argsOk "set_iterator.__iter__" ⟨[a],[]⟩:=by
 unfold argsOk;rw[signature?_of (id:="set_iterator.__iter__") (n:= ['_', '_', 'r', 'e', 't', 'i', '_', '_']) (o:= ['r', 'o', 't', 'a', 'r', 'e', 't', 'i', '_', 't', 'e', 's']) (by kernel_rfl) aVS];kernel_rfl
section
variable {prog:bY7}{w:cQf}{A:cQt}{E:bYL->bYO->Prop}{s:bYO}
def aK2{α:Type}:∀ (n:Nat)(xs:List α)(s:bYO)(Q:List α->bYO->Prop),xs.length=n->(∀c d,cJR c xs->Q c {s with drawn:=d})->bYT (bYV prog w) A (drawOrder n xs) Q E s
 |0,xs,s,Q,hl,h=>by have e:xs= []:=List.length_eq_zero_iff.mp hl;subst e;unfold drawOrder;exact bYR (h [] s.drawn .rfl)
 |n+1,[],s,Q,hl,h=>by cases hl
 |n+1,x::r,s,Q,hl,h=>by
  unfold drawOrder;have a:w.draws .order (s.drawn.get .order) % (x::r).length<(x::r).length:=Nat.mod_lt _ (Nat.succ_pos _);refine bYN (m:=choose .order (x::r).length) ?_;have g:∀ (b:Nat->bYO->Prop),b (w.draws .order (s.drawn.get .order) % (x::r).length) {s with drawn:=s.drawn.bump .order}->bYT (bYV prog w) A (choose .order (x::r).length) b E s:=by intro b j Γ p hΓ;show Sem.wp _ _ (.choose .order (x::r).length .pure) _ _ _ _;rw[Sem.wp_choose];exact⟨Nat.succ_ne_zero _,j⟩
  refine g _ ?_;generalize k:w.draws .order (s.drawn.get .order) % (x::r).length=i at a ⊢;rw[bYK a];dsimp only;refine bYN (aK2 n _ _ _ (by rw[List.length_eraseIdx,if_pos a];simpa using hl) λc d f=>?_);exact bYR (h _ _ ((f.cons _).trans (X1 a)))
def bQE{I a:Nat}{f:bYL}{i n c:Nat}{Q:bYL->bYO->Prop}(d:s.heap.get? I=some (uN f i a n c))(h:Q (.ref I) s):bYT (bYV prog w) A (pyIter (.ref I)) Q E s:=by
 have b:s.TypeIs (.ref I) "set_iterator":=⟨_,d,rfl⟩;refine wpAny_pyIter_slot b W8 (cXF W8 b aXG ?_ (aZk _));show bYT _ _ (ret (.ref I)) _ _ s;exact bYR ⟨_,rfl,"set_iterator",_,b,zN.lookup,h⟩
def aKG{I a:Nat}{o:Obj}{es:Array (Int×bYL)}{ep:Nat}{t:cXw}{vs:List bYL}{g:Nat->Nat}(hd:o.data= .set es ep t)(hf:t.fits es.size=true)(hv:vs.length=es.size)(hne:a≠I)
  (hx:∀ (s:bYO)(i:Nat)(A':cQt)(E':bYL->bYO->Prop)(Q':Option (bYL×Nat)->bYO->Prop),s.heap.get? a=some o->i<=es.size->Q' ((vs[i]?).map λx=>(x,g (i+1))) s->bYT (bYV prog w) A' (setNext a (g i) i ep) Q' E' s)
  (hh:A.handled=none):Walks prog w A I [I,a] [I] es.size (λi v=>vs[i]? =some v) (λi h=>i<=es.size/\h.get? a=some o/\h.get? I=some (uN (.int (g i) 0) i a es.size ep)) where
 sub:=λb hb=>by simp at hb;simp[hb]
 frame:=λi h h' st k=>⟨st.1,k a (by simp) o st.2.1,k I (by simp) _ st.2.2⟩
 item:=λi s Q E hi st hQ=>by
  obtain⟨h1,h2,h3⟩:=st
  have hlt:i<vs.length:=by omega
  refine aYw (nx:=g (i+1)) (x:=vs[i]) h2 hd hf h3 (λQ' E' A' hq=>hx s i A' E' Q' h2 h1 (by rw[bYK hlt];exact hq)) λh' hI' sb=>?_
  exact hQ _ h' s.toks (bYK hlt) ⟨by omega,sb.extBut a o hne h2,hI'⟩ λb ob hb e=>sb.extBut b ob (λz=>hb (by simp[z])) e
 done:=λs Q E st hQ=>by
  obtain⟨h1,h2,h3⟩:=st
  refine bXh hh h2 hd hf h3 (λQ' E' A' hq=>hx s es.size A' E' Q' h2 h1 (by rw[cQl (by omega)];exact hq)) λh' sb=>?_
  exact hQ h' s.toks λb ob hb e=>sb b ob (λz=>hb (by simp[z])) e
 self:=λi s Q E st hQ=>bQE st.2.2 hQ
def aVy{I a p:Nat}{o op:Obj}{es:Array (Int×bYL)}{ep c:Nat}{t:cXw}{vs:List bYL}{ys:List Nat}(hd:o.data= .set es ep t)(hf:t.fits es.size=true)(hv:ys.length=es.size)
  (hpd:op.data= .seq (ys.map λ(j:Nat)=>Value.int j 0).toArray c) (hne:a≠I) (hnp:p≠I) (hx:∀ (i j:Nat),ys[i]? =some j->∃e,es[j]? =some e/\vs[i]? =some e.2)
  (hh:A.handled=none):Walks prog w A I [I,a,p] [I] es.size (λi v=>vs[i]? =some v) (λi h=>i<=es.size/\h.get? a=some o/\h.get? p=some op/\h.get? I=some (uN (.ref p) i a es.size ep)) where
 sub:=λb hb=>by simp at hb;simp[hb]
 frame:=λi h h' st k=>⟨st.1,k a (by simp) o st.2.1,k p (by simp) op st.2.2.1,k I (by simp) _ st.2.2.2⟩
 item:=λi s Q E hi st hQ=>by
  obtain⟨h1,h2,h3,h4⟩:=st
  have hlt:i<ys.length:=by omega
  obtain⟨e,he,hve⟩:=hx i ys[i] (bYK hlt)
  refine aWV (j:=ys[i]) (e:=e) h2 hd hf h4 h3 hpd (by simp[hlt]) he λh' hI' sb=>?_
  exact hQ _ h' s.toks hve ⟨by omega,sb.extBut a o hne h2,sb.extBut p op hnp h3,hI'⟩ λb ob hb e=>sb.extBut b ob (λz=>hb (by simp[z])) e
 done:=λs Q E st hQ=>by
  obtain⟨h1,h2,h3,h4⟩:=st
  refine aK3 hh h2 hd hf h4 h3 hpd (by simp[hv]) λh' sb=>?_
  exact hQ h' s.toks λb ob hb e=>sb b ob (λz=>hb (by simp[z])) e
 self:=λi s Q E st hQ=>bQE st.2.2.2 hQ
def bJY{a:Nat}{V:List Int}{Q:bYL->bYO->Prop}(hS:aQ8 w s.heap a V) (h:∀ (I:Nat)(h':Heap)(d:Drawn)(fp:List Nat)(St:Nat->Heap->Prop)(vs:List bYL)(ls:List Int),s.heap.objs.size<=I->(∀b∈fp,b=a\/s.heap.objs.size<=b)->(∀b∈fp,b<h'.objs.size)->aZi ls vs->ls.Perm V-> (∀ (A:cQt),A.handled=none->Walks prog w A I fp [I] V.length (λi v=>vs[i]? =some v) St)->St 0 h'->(∀b o,s.heap.get? b=some o->h'.get? b=some o)-> Q (.ref I) {s with heap:=h',drawn:=d}):bYT (bYV prog w) A (pyIter (.ref a)) Q E s:=by
 have hT:=hS.type;obtain⟨o,f,C,t,ls,N,a9,K,B,Y,a7,l,q,O⟩:=hS;have J:f.size=V.length:=by rw[<- cQ8,<- B.length,Y.length_eq]
 have y:a<s.heap.objs.size:=bYZ N;refine wpAny_pyIter_slot hT F.slot_set_iter (cXF F.slot_set_iter hT aWD ?_ (F.args_set_iter_1 _));unfold cXy.«frozenset.__iter__» Builtin.Frozenset.slot0 slotArgs;simp only[List.isEmpty_nil,Bool.not_true,Bool.false_eq_true,↓reduceIte,bind_assoc,cXW,bne_self_eq_false];unfold Builtin.Frozenset.addrOf Builtin.Frozenset.sizeOf;refine bYN (bYR ?_);try dsimp only
 refine bYN (bYR ?_);refine bYN (bYN (cZx N K q (bYR ?_)));refine bYN ?_;unfold setDrawn setsByText;refine bYN (cZf N K q ?_);dsimp only;refine bYN (bYN (cZu (bYR ?_)));refine bYR ?_;refine cJF (λc=>?_) (λc=>?_)
 ·refine bYN (aK2 f.size (bYY f.size) s _ cQE λD d P=>?_);have T:D.length=f.size:=by rw[P.length_eq,cQE]
  have S:∀j∈D,j<f.size:=λj X=>cQn.mp (P.mem_iff.mp X);refine bYN (wpAny_newTuple ?_ (by rw[bYP,T];exact cJ3 l));have a1:=bYQ {cls:= .type "tuple",data:= .seq (D.map λ(i:Nat)=>cQ3 (i:Int)).toArray} N;refine bYN (wpAny_setEpoch_of a1 K q ?_);refine bYN (cXL (bYR ⟨_,rfl,"set_iterator",_,⟨_,cQg _ rfl,rfl⟩,zN.lookup,?_⟩));have M:cJR (D.filterMap λj=>f[j]?) f.toList:=(P.filterMap _).trans (by rw[filterMap_getElem?_range]);obtain⟨k,m,n⟩:=B.perm M.symm;have a2:∀ (i j:Nat),D[i]? =some j->∃e,f[j]? =some e/\((D.filterMap λj=>f[j]?).map (·.2))[i]? =some e.2:=λi j e=>by have X:j<f.size:=S j (bY3 e);refine⟨f[j],cXe X,?_⟩;rw[bY5,Z6 (λx hx=>by rw[cXe (S x hx)];rfl),e,Option.bind_some,cXe X];rfl
  have fin:∀ (u:Heap)(W:Obj),W.data= .seq (D.map λ(i:Nat)=>Value.int i 0).toArray 0->u.objs.size=s.heap.objs.size+1->u.get? s.heap.objs.size=some W->(∀b o,s.heap.get? b=some o->u.get? b=some o)->
    Q (.ref u.objs.size) {s with heap:=u.push (uN (.ref s.heap.objs.size) 0 a f.size C),drawn:=d}:=by
   intro u W a6 r a0 hk
   refine h u.objs.size _ d [u.objs.size,a,s.heap.objs.size] (λi h=>i<=f.size/\h.get? a=some o/\h.get? s.heap.objs.size=some W/\h.get? u.objs.size=some (uN (.ref s.heap.objs.size) i a f.size C)) _ k ?_ ?_ ?_ m.vals (n.trans Y)
    (λA hh=>by rw[<- J];exact aVy (o:=o) (ys:=D) (c:=0) K q T a6 (cQc (by rw[r];exact cQV y)) (cQc (by rw[r];exact cXC _)) a2 hh) ⟨cQJ _,bYQ _ (hk _ _ N),bYQ _ a0,cQg _ rfl⟩ λb ob e=>bYQ _ (hk _ _ e)
   ·omega
   ·intro b l;simp only[bYU,cZm,or_false]at l;rcases l with rfl|rfl|rfl
    ·right;omega
    ·left;rfl
    ·right;exact bYS _
   ·intro b l;rw[cXl];simp only[bYU,cZm,or_false]at l;rcases l with rfl|rfl|rfl
    ·exact cXC _
    ·rw[r];exact cQV (cQV y)
    ·rw[r];exact cQV (cXC _)
  exact fin _ _ rfl (cXl ..) (cQg _ rfl) λb ob e=>bYQ _ e
 ·refine bYN (bYR ?_);refine bYN (wpAny_setEpoch_of N K q ?_);refine bYN (cXL (bYR ⟨_,rfl,"set_iterator",_,⟨_,cQg _ rfl,rfl⟩,zN.lookup,?_⟩));have fin:∀ (vs:List bYL)(g:Nat->Nat)(k:List Int),g 0=0->vs.length=f.size->aZi k vs->k.Perm V->
    (∀ (s:bYO)(i:Nat)(A':cQt)(E':bYL->bYO->Prop)(Z:Option (bYL×Nat)->bYO->Prop),s.heap.get? a=some o->i<=f.size->Z ((vs[i]?).map λx=>(x,g (i+1))) s->bYT (bYV prog w) A' (setNext a (g i) i C) Z E' s)->
    Q (.ref s.heap.objs.size) {s with heap:=s.heap.push {cls:= .type "set_iterator",dict:=none,data:= .fields [cQ3 0,cQ3 0,Value.ref a,cQ3 (f.size:Int),cQ3 (C:Int)].toArray} }:=by
   intro vs g k g0 a5 hv n hx
   refine h s.heap.objs.size _ s.drawn [s.heap.objs.size,a] (λi h=>i<=f.size/\h.get? a=some o/\h.get? s.heap.objs.size=some (uN (.int (g i) 0) i a f.size C)) vs k (bYS _) ?_ ?_ hv n
    (λA hh=>by rw[<- J];exact aKG (o:=o) (g:=g) K q a5 (cQc y) hx hh) ⟨cQJ _,bYQ _ N,?_⟩ λb ob e=>bYQ _ e
   ·intro b l;simp only[bYU,cZm,or_false]at l;rcases l with rfl|rfl
    ·right;exact bYS _
    ·left;rfl
   ·intro b l;rw[cXl];simp only[bYU,cZm,or_false]at l;rcases l with rfl|rfl
    ·exact cXC _
    ·exact cQV y
   ·rw[g0];exact cQg _ rfl
  cases G:aJx w with
  |true=>
   have pp:cJR (cZS (w.params.setOrder a C) f).toList f.toList:=by have:=aZW (w.params.setOrder a C) f.size 0 f.toList #[] (by simp);simpa[cZS]using this
   obtain⟨k,m,n⟩:=B.perm pp.symm;refine fin ((cZS (w.params.setOrder a C) f).toList.map (·.2)) (λ_=>0) k rfl (by rw[bYP,pp.length_eq];simp) m.vals (n.trans Y) λs i A' E' Z R hi p=>?_;refine aYx R K q G ?_;rw[bY5,cXk]at p;cases e:(cZS (w.params.setOrder a C) f)[i]? with
   |none=>rw[e]at p;exact p
   |some z=>rw[e]at p;exact p
  |false=>
   have a4:(!t.plain && decide (f.size > 1))=false:=by have c':¬ ((!aJx w && (!t.plain && decide (f.size > 1)))=true):=c;rw[G]at c';simpa using c'
   have U:t.led=true:=O.led.resolve_left (by rw[G];decide);have a8:t.place.size=f.size:=by have:=q;simp only[SetTable.fits,Bool.and_eq_true,beq_iff_eq]at this;exact this.1
   refine fin (f.toList.map (·.2)) (λi=>if i=0 then 0 else t.place.getD (i - 1) 0+1) ls (by simp) (by simp) B.vals Y λs i A' E' Z R hi p=>?_;refine bXG R K q G a4 U ?_;have a3:cQM t.place (if i=0 then 0 else t.place.getD (i - 1) 0+1)=i:=by
    by_cases h0:i=0
    ·rw[if_pos h0,aWr O.rise,h0]
    ·rw[if_neg h0,aWq O.rise (by omega)];omega
   rw[a3];by_cases L:i<f.size
   ·have H:i<t.place.size:=by omega
    rw[cXe L,cXe H];rw[bY5,cXk,cXe L]at p;have e1:t.place.getD i 0=t.place[i]:=by simp[cZg,H]
    simpa[e1]using p
   ·rw[cZF (by omega)];rw[bY5,cXk,cZF (by omega)]at p;exact p
end
end Stb
namespace Stb
open PySem PyProof.Rows
section
variable {prog:bY7}{w:cQf}{A:cQt}{E:bYL->bYO->Prop}{s:bYO}
def bJW{r:Nat}{Q:Bool->bYO->Prop}(c:s.TypeIs (.ref r) "set")(h:Q false s):bYT (bYV prog w) A (cJP (.ref r)) Q E s:=by
 unfold cJP;refine bYN (wpAny_specialOf c PySem.F.slot_set_len.lookup ?_);generalize a:("set.__len__":String)=q;wp_delta;rw[show splitId q=some ("set","__len__")from by subst a;decide+kernel];subst a;refine bYN (wpAny_isInstance (T:="set") (b:=true) c sub_set_self ?_);refine cJF (λz=>absurd z (by decide)) (λ_=>?_);refine cJF (λ_=>?_) (λz=>absurd dk z);exact bYN (wpAny_typeOf c (bYR h))
def aWy{a:Nat}{r:List Int}{R:List bYL->bYO->Prop}(hh:A.handled=none)(hS:aQ8 w s.heap a r)(hn:r.length<=cQd) (h:∀ (h':Heap)(tk:Nat)(d:Drawn)(vs:List bYL)(ls:List Int),s.heap.objs.size<h'.objs.size->(∀b o,s.heap.get? b=some o->h'.get? b=some o)->aZi ls vs->ls.Perm r->R vs {s with heap:=h',toks:=tk,drawn:=d}): bYT (bYV prog w) A (collect (.ref a)) R E s:=by
 have hT:=hS.type;obtain⟨oa,a3⟩:=hS.there;have H:a<s.heap.objs.size:=bYZ a3;unfold collect;refine bYN (wpAny_runValue (cX2 entry_proto_collect' ?_));rw[cXH PySem.F.plain_proto_collect _];show bYT _ A.in1 (newList [] >>=λl=>again (.builtin "list.__iadd__" ⟨[l,.ref a],[]⟩)) _ _ s;refine bYN (cXL ?_);refine bYR ⟨cZ2 PySem.F.plain_list_iadd _,cX2 entry_list_iadd' ?_⟩;rw[cXH PySem.F.plain_list_iadd _];have hL:(s.heap.push {cls:= .type "list",data:= .seq ([]:List bYL).toArray}).get? s.heap.objs.size=some {cls:= .type "list",data:= .seq #[] }:=cQg _ rfl;have u:aQ8 w (s.heap.push {cls:= .type "list",data:= .seq ([]:List bYL).toArray}) a r:=hS.at λo e=>bYQ _ e;have k:(s.heap.push {cls:= .type "list",data:= .seq ([]:List bYL).toArray}).objs.size=s.heap.objs.size+1:=cXl ..;generalize a2:s.heap.push {cls:= .type "list",data:= .seq ([]:List bYL).toArray}=H1 at hL u k ⊢;have V:∀b o,s.heap.get? b=some o->H1.get? b=some o:=λb o e=>by rw[<- a2];exact bYQ _ e
 show bYT _ A.in1 (cZP (.ref s.heap.objs.size) (.ref a) (.ref s.heap.objs.size)) _ _ {s with heap:=H1};have O:Shared.TypeIs {s with heap:=H1} (.ref a) "set":=u.type (s:={s with heap:=H1});unfold cZP;refine bYN (wpAny_typeOf (T:="set") O ?_);have q1:cJ9 (.ref s.heap.objs.size) (.ref a)=false:=by simp[cJ9,cZp H]
 have q2:(Value.type "set"==Value.type "list")=false:=by decide
 have q3:(Value.type "set"==Value.type "tuple")=false:=by decide
 simp only[q1,q2,q3,Bool.or_false,Bool.false_eq_true,if_false];refine bYN (bJY (s:={s with heap:=H1}) u ?_);intro I h2 d fp St vs ls hI a8 b0 hv hp W N t;have C:s.heap.objs.size∉fp:=λz=>by
  rcases a8 _ z with e|e
  ·exact cZp H e
  ·have e':H1.objs.size<=s.heap.objs.size:=e;rw[k]at e';exact absurd e' (Nat.not_succ_le_self _)
 have y:=t _ _ hL;have M:∀ (J:Heap)(c:Nat),St 0 J->(∀b o,b≠s.heap.objs.size->h2.get? b=some o->J.get? b=some o)->J.get? s.heap.objs.size=some {cls:= .type "list",data:= .seq #[] c}->
   cX4 (bYV prog w) A (.builtin "list.extend.loop" ⟨[.ref s.heap.objs.size,.ref I,.ref s.heap.objs.size],[]⟩)
    (λq g=>∃ (h':Heap)(tk:Nat)(f:Array bYL)(B:Nat),q= .ok (.ret (.ref s.heap.objs.size))/\g= {s with heap:=h',toks:=tk,drawn:=d}/\
     (∀b o,s.heap.get? b=some o->h'.get? b=some o)/\h'.get? s.heap.objs.size=some {cls:= .type "list",dict:=none,data:= .seq f B,slots:= #[] }/\ItemsOf (λi v=>vs[i]? =some v) f r.length) {s with heap:=J,drawn:=d}:=by
  intro J c P U m
  refine codeAny_extend_loopS (W A.in1 hh).toS hn s.heap.objs.size C (.ref s.heap.objs.size) r.length 0 _ #[] c rfl (cQJ _) P m (ItemsOf.nil _) λg Q B S a0 L=>?_
  obtain⟨a9,g',d',a6,a4⟩:=g
  have eg:g'=s.gens:=S.gens
  have ed:d'=d:=S.drawn
  have eo:a4=s.os:=S.os
  subst eg ed eo
  refine⟨a9,a6,Q,B,rfl,rfl,λb o e=>?_,a0,L⟩
  have p:b<s.heap.objs.size:=bYZ e
  refine S.heap b o (λz=>?_) (U b o (cQc p) (t b o (V b o e)))
  rcases bYU.mp z with z|z
  ·exact cQc p z
  ·have z':b=I:=bY2.mp z;have D:H1.objs.size<=I:=hI;rw[k,<- z']at D;exact absurd (cQe p (Nat.le_of_succ_le D)) (cQX _)
 have n:∀ (q:Result)(g:bYO),(∃ (h':Heap)(tk:Nat)(f:Array bYL)(B:Nat),q= .ok (.ret (.ref s.heap.objs.size))/\g= {s with heap:=h',toks:=tk,drawn:=d}/\ (∀b o,s.heap.get? b=some o->h'.get? b=some o)/\h'.get? s.heap.objs.size=some {cls:= .type "list",dict:=none,data:= .seq f B,slots:= #[] }/\ItemsOf (λi v=>vs[i]? =some v) f r.length)->
   ∃tk h',q= .ok (.ret (.ref s.heap.objs.size))/\g= {s with heap:=h',toks:=tk,drawn:=d}/\bYT (bYV prog w) A (do
    let o <- load s.heap.objs.size
    match o.data with
    |.seq xs _=>pure xs.toList
    |_=>unsupported "internal:collect") R E {s with heap:=h',toks:=tk,drawn:=d}:=by
  rintro q g ⟨h',tk,f,B,rfl,rfl,hk,hg,K⟩
  refine⟨tk,h',rfl,rfl,bYN (wpAny_load hg (bYR ?_))⟩
  have a7:vs.length=r.length:=by rw[<- cXt hv,hp.length_eq]
  have e:f.toList=vs:=bXB (by rw[cQ8,K.1,a7]) λj x hx=>K.2 j x (by rw[<- cXk];exact hx)
  show R f.toList _
  rw[e]
  exact h h' tk d vs ls (bYZ hg) hk hv hp
 have Y:Shared.TypeIs {s with heap:=h2,drawn:=d} (.ref a) "set":=by obtain⟨o',a5,a1⟩:=O;exact⟨o',t _ _ a5,a1⟩
 refine bYN (cQ6 (bJW Y ?_));refine cJF (λ_=>?_) (λ_=>?_)
 ·refine bYN (wpAny_rule ?_);refine bYN ?_;show bYT _ _ (updateSeq s.heap.objs.size (·.push .none) >>=λ_=>updateSeq s.heap.objs.size (·.pop)) _ _ _;refine bYN (wpAny_updateSeq y rfl ?_);have m:=cQS (cQF (·.push Value.none)) y rfl;refine wpAny_updateSeq (hz:=by seq_fits) m rfl ?_;have X:=cQS (cQF (·.pop)) m rfl;refine bYR ⟨cZ2 cJ8 _,cXE (M _ _ ?_ (λb o p e=>?_) X) λq g z=>?_⟩
  ·refine(W A.in1 hh).frame 0 _ _ N λb p o e=>?_;have G:b≠s.heap.objs.size:=λz=>C (z ▸ p);exact(cQq _ _ (cQu G)).trans ((cQq _ _ (cQu G)).trans e)
  ·exact(cQq _ _ (cQu p)).trans ((cQq _ _ (cQu p)).trans e)
  ·obtain⟨tk,h',rfl,rfl,Z⟩:=n q g z;exact Z
 ·refine bYR ⟨cZ2 cJ8 _,cXE (M _ _ N (λb o _ e=>e) y) λq g z=>?_⟩;obtain⟨tk,h',rfl,rfl,Z⟩:=n q g z;exact Z
def Z9:∀ {a:List Int} {vs:List bYL},aZi a vs->cZi vs a
 |_,_,.nil=> .nil
 |_,_,.cons ⟨t,e⟩ r=>by subst e;exact .cons _ t (Z9 r)
def aKB{a:Nat}{f:List Int}{Q:bYL->bYO->Prop}(B:A.handled=none)(F:aQ8 w s.heap a f)(D:f.length<64) (h:∀ (l:Nat)(h':Heap)(tk:Nat)(d:Drawn)(out:List bYL)(r:List Int)(n:Nat),s.heap.objs.size<=l->(∀b o,s.heap.get? b=some o->h'.get? b=some o)->h'.get? l=some {cls:= .type "list",data:= .seq out.toArray n}-> cZi out r->r.Perm f->r.Pairwise (·<=·)->Q (.ref l) {s with heap:=h',toks:=tk,drawn:=d}):bYT (bYV prog w) A (call (.builtin "sorted") [.ref a]) Q E s:=by
 refine cZ8 kind_sorted plain_sorted entry_sorted (args_sorted1 _) ?_;unfold cXy.«sorted»;refine bYN (m:=checkCount "sorted" 1 1 _) (bYR ?_);refine bYN (aWy (A:=A.in1) B F (by rw[cQk];omega) λq tk d i G j z u t=>?_);have y:=Z9 u;have p:i.length=f.length:=by rw[<- cXt u,t.length_eq]
 refine bYN (cZ4 ?_ (by rw[p,cQk];omega));have c:(q.push {cls:= .type "list",data:= .seq i.toArray}).get? q.objs.size=some (cQB "list" i.toArray 0):=cQg _ rfl;refine bYN (cQ6 (cXF slot_list_sort ⟨_,c,rfl⟩ entry_list_sort (list_sort_tree c y (by omega) λout g C v x=>⟨_,rfl,?_⟩) (args_list_sort _)));obtain⟨n,e⟩:=sortedHeap_at (out:=out) c;refine bYR ⟨_,rfl,h q.objs.size _ tk d out.toList g n (cZo j) (λb o e=>?_) (by simpa using e) C (v.trans t) x⟩;have k:=z b o e;rw[sortedHeap_old (cQc (bYZ k)) (by rw[cXl];exact cQV (bYZ k))];exact bYQ _ k
end
end Stb
namespace Stb
open PySem PyProof.Rows
def met(val:Nat->Int):Nat->List Int
 |0=> []
 |i+1=>if val i∈met val i then met val i else met val i++ [val i]
def aJK(val:Nat->Int):∀i,(met val i).length<=i
 |0=>bYS _
 |i+1=>by
  have a:=aJK val i;unfold met;split
  ·omega
  ·rw[bY8,cQY];omega
def aYt(val:Nat->Int)(d:Int):∀i,d∈met val i↔∃j,j<i/\val j=d
 |0=>by simp[met]
 |i+1=>by
  have c:=aYt val d i;have step:d∈met val (i+1)↔d∈met val i\/d=val i:=by
   show d∈(if val i∈met val i then met val i else met val i++ [val i])↔_;split
   ·rename_i a;constructor
    ·exact .inl
    ·rintro(z|rfl)
     ·exact z
     ·exact a
   ·simp
  rw[step,c];constructor
  ·rintro(⟨j,b,e⟩|rfl)
   ·exact⟨j,by omega,e⟩
   ·exact⟨i,by omega,rfl⟩
  ·rintro⟨j,b,e⟩;by_cases h:j=i
   ·subst h;exact .inr e.symm
   ·exact .inl ⟨j,by omega,e⟩
section
variable {prog:bY7}{w:cQf}{A:cQt}
def bJQ{R:Result->bYO->Prop}{I:Nat}{J y:List Nat}{n:Nat}{P:Nat->bYL->Prop}{St:Nat->Heap->Prop}(W:Walks prog w A.in1 I J y n P St)(S:Nat)(f:S∉J) (val:Nat->Int) (q:∀i v,P i v->∃t,v= .int (val i) t) (a:n+1<cJf): ∀ (k i:Nat)(s:bYO),n - i=k->i<=n->St i s.heap->aQ8 w s.heap S (met val i)-> (∀r tk,(∀b o,b∉S::y->s.heap.get? b=some o->r.get? b=some o)->aQ8 w r S (met val n)->R (.ok (.ret .none)) {s with heap:=r,toks:=tk})-> cX4 (bYV prog w) A (.builtin "set.update.loop" ⟨[.ref S,.ref I],[]⟩) R s:=by
 have g:S∉y:=λh=>f (W.sub _ h);intro k;induction k with
 |zero=>
  intro i s M N d D hR;obtain rfl:i=n:=by omega
  refine cX2 cJb ?_;rw[cXH cX9 _];refine bYN (m:=pyNext (.ref I)) (W.done s _ _ d λr tk l=>?_);exact bYR (hR r tk (λb o a e=>l b o (λz=>a (bYX _ z)) e) (D.at λo e=>l S o g e))
 |succ k O=>
  intro i s M N d D hR;have j:i<n:=by omega
  refine cX2 cJb ?_;rw[cXH cX9 _];refine bYN (m:=pyNext (.ref I)) (W.item i s _ _ j d λv G x Q p u=>?_);obtain⟨t,rfl⟩:=q i v Q;show bYT _ A.in1 (cZ5 [Value.int (val i) t] (setAdd S (.int (val i) t)) >>=_) _ _ {s with heap:=G,toks:=x};refine bYN (cQ6 ?_);unfold setAdd;refine cQ6 ?_;refine bYN ((intKind prog w).pyHash (k:=val i) (intKind_is _ _ _ _) ?_);have c:(met val i).length+1<cJf:=by have:=aJK val i;omega
  refine bWs (s:={s with heap:=G,toks:=x+1}) (D.at λo e=>u S o g e) c λT b K B=>?_;refine bYR ⟨cZ2 cX9 _,O (i+1) _ (by omega) j (W.frame _ G _ p λb a o e=>?_) B λL E C H=>?_⟩
  ·exact K.extBut b o (λz=>f (z ▸ a)) e
  ·refine hR L E (λb o a e=>C b o a (K.extBut b o (λz=>a (by rw[z];exact bY0)) (u b o (λz=>a (bYX _ z)) e))) H
variable {E:bYL->bYO->Prop}{s:bYO}
def bWO(a:bYL){Q₁:bYL->bYO->Prop} (h:Q₁ (.ref s.heap.objs.size) {s with heap:=s.heap.push {cls:= .type "set",dict:=none,data:= .set #[] 0 (.fresh 0 0 (!aJx w)) } }): cX4 (bYV prog w) A (.call (.builtin "set.__new__") ⟨[.type "set",a],[]⟩) (wants Q₁ E) s:=by
 refine codeAny_of_tree ?_;show bYT _ A.in1 (do checkBuiltinCall "set.__new__" ⟨[.type "set",a],[]⟩;again (.builtin "set.__new__" ⟨[.type "set",a],[]⟩)) _ _ s;refine bYN (wpAny_of_eq (PySem.F.newCall_set_1 a) (bYR ⟨cZ2 PySem.F.plain_set_new _,cX2 PySem.F.entry_set_new ?_⟩));rw[cXH PySem.F.plain_set_new _];unfold cXy.«set.__new__» Builtin.Frozenset.newClass;have b:=sub_set_self;obtain⟨e,g,d,tk,c⟩:=s;dsimp only;wp_walk;refine cZu (bYR ?_);dsimp only;simp only[newObj];refine bYN (wpAny_alloc (bYR ?_));exact bYR h
set_option maxHeartbeats 3200000 in
def zV{l:Nat}{items:Array bYL}{L:List Int}{Q:bYL->bYO->Prop}(hh:A.handled=none)(hl:s.heap.IsList l items)(hi:cZi items.toList L)(B:items.size+1<cJf) (h:∀ (h':Heap)(tk:Nat),aQ8 w h' s.heap.objs.size (met (λi=>L.getD i 0) items.size)->(∀b o,s.heap.get? b=some o->h'.get? b=some o)->Q (.ref s.heap.objs.size) {s with heap:=h',toks:=tk}): bYT (bYV prog w) A (call (.type "set") [.ref l]) Q E s:=by
 obtain⟨c,tl,a2⟩:=cXD.mro;have W:=cXD.made;have a1:=cXD.sub;refine cZY (codeAny_of_tree ?_);show bYT _ _ (callAny (.type "set") _) _ _ _;refine bYR ⟨cJQ _ dk,cX2 PySem.F.entry_type_call ?_⟩;rw[Around.under_plain (weight_type_call_type "set" [.ref l] []) rfl];have h1:=cXD.notType;have h2:=cXD.canCreate;have a8:=PySem.F.typeCall_set_1 (.ref l);repeat (any_goals (first|assumption|wp_step))
 refine cXE (bWO (.ref l) (E:=E) (Q₁:=λu g=>u= .ref s.heap.objs.size/\g= {s with heap:=s.heap.push {cls:= .type "set",dict:=none,data:= .set #[] 0 (.fresh 0 0 (!aJx w)) } }) ⟨rfl,rfl⟩) λr g V=>?_;cases r with
 |error e=>exact V
 |ok fl=>
  cases fl with
  |ret u=>
   obtain⟨rfl,rfl⟩:=V;generalize q:({cls:= .type "set",dict:=none,data:= .set #[] 0 (.fresh 0 0 (!aJx w)) }:Obj)=O;have Y:(s.heap.push O).get? s.heap.objs.size=some O:=cQg _ (by rw[<- q];rfl);have hT:Shared.TypeIs {s with heap:=s.heap.push O} (.ref s.heap.objs.size) "set":=⟨_,Y,by rw[<- q]⟩;have M:aQ8 w (s.heap.push O) s.heap.objs.size []:=by
    refine⟨O, #[],0,.fresh 0 0 (!aJx w),[],Y,?_,?_,.nil,.rfl,List.nodup_nil,by decide,rfl,bQY ?_⟩
    ·rw[<- q];exact⟨rfl,rfl,rfl⟩
    ·rw[<- q]
    ·cases aJx w<;> simp
   have d:(s.heap.push O).objs.size=s.heap.objs.size+1:=cXl ..;have p:∀b o,s.heap.get? b=some o->(s.heap.push O).get? b=some o:=λb o e=>bYQ _ e;generalize hH:s.heap.push O=H at Y hT M d p ⊢;have a6:=cXD.init.lookup;have a7:=cXD.init.bind (.ref s.heap.objs.size);repeat (any_goals (first|assumption|wp_step))
   refine cXE (cJB (R:=wants (λr j=>r= .none/\∃h' tk,j= {s with heap:=h',toks:=tk}/\aQ8 w h' s.heap.objs.size (met (λi=>L.getD i 0) items.size)/\
     (∀b o,s.heap.get? b=some o->h'.get? b=some o)) E) cXD.init.plain PySem.F.entry_set_init (check_set_init_1 hT ?_)) λD j a=>?_
   ·obtain⟨ol,N,K,nl,x⟩:=hl;obtain⟨a0,k,X,f⟩:=ol;simp only at K x;subst K;subst x;have y:H.get? l=some {cls:= .type "list",dict:=k,data:= .seq items nl,slots:=f}:=p _ _ N;have a3:=PySem.F.sub_list_set;have a4:=PySem.F.sub_list_frozenset;have a5:(Value.type "list"==Value.type "dict")=false:=by decide
    have I:H.IsList l items:=⟨_,y,rfl,nl,rfl⟩;subst q;unfold cXy.«set.__init__» noKeywords Builtin.Frozenset.updateFrom;generalize T:pyIter=PI;wp_walk;subst T;refine cJ5 (l:=l) (items:=items) ?hl ?_;case hl=>exact I
    refine bYN (wpAny_runValue ?_);have C:l<s.heap.objs.size:=bYZ N;have Z:A.in1.in1.in1.handled=none:=by simp[hh]
    have P:l≠H.objs.size:=by rw[d];exact cQc (cQV C)
    have S:s.heap.objs.size∉ [H.objs.size,l]:=by rw[d];simp only[bYU,cZm,or_false,not_or];exact⟨cQc (cXC _),cZp C⟩
    have G:∀ (i:Nat)(v:bYL),items[i]? =some v->∃t,v= .int ((λi=>L.getD i 0) i) t:=λi v hv=>
     cJS hi i v (by rw[cXk];exact hv)
    refine bJQ (Walks.list Z _ l P items) s.heap.objs.size S (λi=>L.getD i 0) G B (items.size - 0) 0 _ (by omega) (cQJ _) ⟨⟨_,cQg _ rfl,rfl,rfl⟩,I.push _⟩ ?hS0 ?hR;case hS0=>exact M.at λo e=>bYQ _ e
    case hR=>
     intro h' tk hk n;show bYT _ _ _ _ _ _;refine bYR ?_;show bYT _ _ (ret Value.none) _ _ _;refine bYR ⟨rfl,h',tk,rfl,n,λb o e=>?_⟩;have B:=bYZ e;refine hk b o (λz=>?_) (bYQ _ (p _ _ e));simp only[bYU,cZm,or_false]at z;rcases z with z|z
     ·exact cQc B z
     ·rw[z]at B;have J:H.objs.size<s.heap.objs.size:=B;rw[d]at J;exact absurd J (Nat.not_lt.mpr (cXU _))
   ·cases D with
    |error e=>exact a
    |ok m=>
     cases m with
     |ret r=>
      obtain⟨rfl,h',tk,rfl,n,U⟩:=a;repeat (any_goals (first|assumption|wp_step))
      exact h _ _ n U
     |_=>exact a.elim
  |_=>exact V.elim
end
end Stb
namespace L2
open PySem PySem.Spec PyProof.Rows
section
variable {X:Cx}{tg:Expr}
end
section
variable {X:Cx}
inductive aKP(K:bYM)(xs:List V)(H:Hp)(Q:VK):Prop|mk (x c t b) (_:xs= [x,.ty c]) (_:aJq K H x t) (_:cQD K t (.type c)=some b) (_:Q (.bl b) H)
def zA:qE X (.builtin "isinstance") (aKP X.K):=by
 intro a s σ H i g Q I r h;obtain⟨x,c,t,b,rfl,ty,e,q⟩:=h;obtain⟨u,v,rfl,d,f⟩:=xW.two r;cases f;exact aYd I d ty e λtk=>⟨.bl b,H,I.tok tk,rfl,q⟩
def bKe(w:cQf)(a:Nat)(b:List Int):HO:= .ext λh=>Stb.aQ8 w h a b
def bQ7(D:X.calm=true):qE X (.type "set") (λy H Q=>∃ (p:Nat)(b:List Int),y= [.ref p]/\SqL X.K H p (b.map V.int)/\b.length<4000/\∀ (l:Nat)(c:List Int),H l=none->c.Nodup->c.length<=b.length->(∀d,d∈c↔d∈b)->Q (.ref l) (upd H l (bKe X.w l c))):=by
 intro A s σ H y O Q I r h;obtain⟨p,b,rfl,G,N,q⟩:=h;obtain⟨u,rfl,B⟩:=aQ6 r;cases B;obtain⟨a,J,E,L⟩:=I.list G;have n:cZi a b:=aXn J;have v:a.length=b.length:=n.length;refine Stb.zV (I.ok.hd D) E.isList (by simpa using n) (by rw[bY4];unfold cJf;omega) λP tk f C=>?_;rw[bY4]at f;have m:(Stb.met (λi=>b.getD i 0) a.length).Nodup:=by obtain⟨o,S,U,t,R,_,_,_,_,_,m,_⟩:=f;exact m
 have hl:=Stb.aJK (λi=>b.getD i 0) a.length;refine⟨.ref s.heap.objs.size,_,I.laid (t':=tk) (o:=bKe X.w s.heap.objs.size (Stb.met (λi=>b.getD i 0) a.length)) C (bYS _) ⟨f,f.there,λT M z k=>z.at k⟩,rfl,q _ _ I.fresh m (by omega) λd=>?_⟩;rw[Stb.aYt];constructor
 ·rintro⟨j,x,rfl⟩;have g:j<b.length:=by omega
  simp[cQv,bYK g]
 ·intro F;obtain⟨j,x,e⟩:=cQC F;exact⟨j,by omega,by simp[cQv,bYK x,e]⟩
def aQ9(v:X.calm=true):qE X (.builtin "sorted") (λm H Q=>∃ (p:Nat)(f:List Int),m= [.ref p]/\H p=some (bKe X.w p f)/\f.length<64/\∀ (l:Nat)(b:List Int),H l=none->b.Perm f->b.Pairwise (·<=·)->Q (.ref l) (upd H l (.lst (b.map V.int)))):=by
 intro c s σ H m D Q I r h;obtain⟨p,f,rfl,z,i,q⟩:=h;obtain⟨u,rfl,o⟩:=aQ6 r;cases o;obtain⟨B,_,_⟩:=(show zH X.prog X.w H s.heap p (bKe X.w p f)from I.hok p _ z);refine Stb.aKB (I.ok.hd v) B i λl k tk d out b n hl t A y e g=>?_;have x:H l=none:=I.hok.fresh hl;have j:b.length<=cQd:=by rw[e.length_eq,cQk];omega
 have a:Inv X c σ (upd H l (.lst (b.map V.int))) {s with heap:=k,toks:=tk}:=I.laid t hl ⟨by rw[bYP];exact j,out,n,jE y,A⟩;have C:Inv X c σ (upd H l (.lst (b.map V.int))) {s with heap:=k,toks:=tk,drawn:=d}:=by refine⟨a.ok,a.os,a.bare,a.base,a.loc,a.cell,a.free,a.freeC,a.pin,a.hok,a.len⟩
 exact⟨.ref l,_,C,rfl,q l b x e g⟩
def aVc(n d:Nat)(a:Nat):HT.sIx n d (some (a:Int))=min a n:=by
 unfold HT.sIx;simp only;split<;> omega
end
end L2
namespace L2
open PySem PySem.Spec PyProof.Rows
def uL(K:bYM):cQD K (.type "NoneType") (.type "list")=some false:=by kernel_rfl
def vX(K:bYM):cQD K (.type "NoneType") (.type "tuple")=some false:=by kernel_rfl
def W0(K:bYM):cQD K (.type "bool") (.type "bool")=some true:=by kernel_rfl
def aJI(K:bYM):cQD K (.type "bool") (.type "int")=some true:=by kernel_rfl
def qG(K:bYM):cQD K (.type "bool") (.type "str")=some false:=by kernel_rfl
def aZG(K:bYM):cQD K (.type "bool") (.type "list")=some false:=by kernel_rfl
def aXK(K:bYM):cQD K (.type "bool") (.type "tuple")=some false:=by kernel_rfl
def qH(K:bYM):cQD K (.type "int") (.type "bool")=some false:=by kernel_rfl
def aXo(K:bYM):cQD K (.type "int") (.type "int")=some true:=by kernel_rfl
def jK(K:bYM):cQD K (.type "int") (.type "str")=some false:=by kernel_rfl
def aQn(K:bYM):cQD K (.type "int") (.type "list")=some false:=by kernel_rfl
def W1(K:bYM):cQD K (.type "int") (.type "tuple")=some false:=by kernel_rfl
def aQo(K:bYM):cQD K (.type "str") (.type "bool")=some false:=by kernel_rfl
def aWJ(K:bYM):cQD K (.type "str") (.type "int")=some false:=by kernel_rfl
def vY(K:bYM):cQD K (.type "str") (.type "str")=some true:=by kernel_rfl
def aQp(K:bYM):cQD K (.type "str") (.type "list")=some false:=by kernel_rfl
def W3(K:bYM):cQD K (.type "str") (.type "tuple")=some false:=by kernel_rfl
def x8(K:bYM):cQD K (.type "list") (.type "list")=some true:=by kernel_rfl
def z8(K:bYM):cQD K (.type "list") (.type "tuple")=some false:=by kernel_rfl
def zC(K:bYM):cQD K (.type "tuple") (.type "list")=some false:=by kernel_rfl
def zS(K:bYM):cQD K (.type "tuple") (.type "tuple")=some true:=by kernel_rfl
section
variable {X:Cx}{pins:List (Nat×Obj)}{σ:St}{H:Hp}{s:bYO}
def aWG{A:cQt}{E:bYL->bYO->Prop}{Q:bYL->bYO->Prop}{x:V}{u t:bYL}{tp:Nat}{cs:List bYL}{b:Bool}(I:Inv X pins σ H s)(d:zO x u)(ty:aJq X.K H x t) (m:cZJ s.heap tp cs.toArray) (e:PySem.W.kitAny X.K t cs=some b) (h:∀tk,Q (.bool b) {s with toks:=tk}):bYT (bYV X.prog X.w) A (call (.builtin "isinstance") [u,.ref tp]) Q E s:=by
 obtain⟨⟨cls,Y,data,T⟩,f,v,n,B⟩:=m;simp only at v B;subst v B;cases ty with
 |non=>cases (show u=Value.none from d);exact cXo PySem.W.kitx_none I.kIn cQ9 f e (λz=>nomatch z) h
 |bl y=>cases (show u=Value.bool y from d);exact cXo PySem.W.kitx_bool I.kIn cQ9 f e (λz=>nomatch z) h
 |int i=>obtain⟨t,q⟩:=(show ∃t,u=Value.int i t from d);cases q;exact cXo PySem.W.kitx_int I.kIn cQ9 f e (λz=>nomatch z) h
 |str y=>obtain⟨t,q⟩:=(show ∃t,u=Value.str y t from d);cases q;exact cXo PySem.W.kitx_str I.kIn cQ9 f e (λz=>nomatch z) h
 |flt y=>obtain⟨t,q⟩:=(show ∃t,u=Value.float y t from d);cases q;exact cXo PySem.W.kitx_float I.kIn cQ9 f e (λz=>nomatch z) h
 |@lst a k c=>cases (show u=Value.ref a from d);obtain⟨_,_,n,_,g⟩:=(show zH X.prog X.w H s.heap a (.lst k)from I.hok a _ c);exact cXo cJi I.kIn ⟨_,g,rfl⟩ f e (λz=>nomatch z) h
 |@frz a D k c=>cases (show u=Value.ref a from d);obtain⟨_,_,_,n,_,g⟩:=(show zH X.prog X.w H s.heap a (.frz D (.lst k))from I.hok a _ c);exact cXo cJi I.kIn ⟨_,g,rfl⟩ f e (λz=>nomatch z) h
 |@tup a k c=>cases (show u=Value.ref a from d);obtain⟨_,_,_,p⟩:=(show zH X.prog X.w H s.heap a (.tup k)from I.hok a _ c);obtain⟨o,g,l,_⟩:=p;exact cXo PySem.W.kitx_tuple I.kIn ⟨o,g,l⟩ f e (λz=>nomatch z) h
 |@dK a j c=>cases (show u=Value.ref a from d);obtain⟨_,_,R,_,p⟩:=(show zH X.prog X.w H s.heap a (.dK j)from I.hok a _ c);obtain⟨o,L,M,g,l,_⟩:=p;exact cXo cJh I.kIn ⟨o,g,l.1⟩ f e (λz=>nomatch z) h
 |@dT a j c=>cases (show u=Value.ref a from d);obtain⟨_,_,k,_,o,L,M,g,l,_⟩:=(show zH X.prog X.w H s.heap a (.dT j)from I.hok a _ c);exact cXo cJh I.kIn ⟨o,g,l.1⟩ f e (λz=>nomatch z) h
 |@ins a C U fs c cl N F r G=>cases (show u=Value.ref a from d);obtain⟨P,O,_⟩:=aQj I.hok c;obtain⟨S,J,_⟩:=O.look;exact cXo (PySem.W.kitx_own (cl.get _) cl.hd N F r G) I.kIn J f e (λz=>nomatch z) h
end
section
variable {X:Cx}
inductive aWt(K:bYM)(xs:List V)(H:Hp)(Q:VK):Prop|mk (x p c d t b b') (_:xs= [x,.ref p]) (_:SqT K H p [.ty c,.ty d]) (_:aJq K H x t) (_:cQD K t (.type c)=some b) (_:cQD K t (.type d)=some b') (_:Q (.bl (b || b')) H)
def qT:qE X (.builtin "isinstance") (aWt X.K):=by
 intro pins s σ H A w Q I r h;obtain⟨x,p,c,d,t,b,a,rfl,m,ty,n,k,q⟩:=h;obtain⟨u,v,rfl,e,o⟩:=xW.two r;cases o;obtain⟨j,l,i,_⟩:=I.tuple m;obtain⟨y,z,rfl,g,f⟩:=xW.two l;cases g;cases f;refine aWG I e ty i (b:=b || a) ?_ λtk=>⟨.bl (b || a),H,I.tok tk,rfl,q⟩;unfold PySem.W.kitAny;rw[n];cases b
 ·simp only[Bool.false_or];unfold PySem.W.kitAny;rw[k];cases a<;> rfl
 ·rfl
inductive bW4(K:bYM)(x:V)(y:V)(H:Hp)(Q:VK):Prop|mk (a b xs) (_:x= .ref a) (_:y= .ref b) (_:SqL K H a xs) (_:SqL K H b []) (_:Q (.bl xs.isEmpty) H)
inductive bW5(K:bYM)(x:V)(y:V)(H:Hp)(Q:VK):Prop|mk (a b xs) (_:x= .ref a) (_:y= .ref b) (_:SqL K H a xs) (_:SqL K H b []) (_:Q (.bl (!xs.isEmpty)) H)
def aVO(d:X.A.units<cLine):OpR X (cXh .Eq) (bW4 X.K):=by
 intro pins s σ H x y v u Q I l o h;obtain⟨a,b,w,rfl,rfl,m,g,q⟩:=h;cases l;cases o;obtain⟨r,n,f,_⟩:=I.list m;obtain⟨t,i,c,_⟩:=I.list g;cases i;cases n with
 |nil=>exact SeqAt.eq_listAt (e:=λ_=>true) f.isList c.isList rfl d (λj k p=>absurd k (cXx _)) ⟨.bl true,H,I,rfl,q⟩
 |cons _ _=>exact SeqAt.eq_list_lengthsAt f.isList c.isList (by simp) d ⟨.bl false,H,I,rfl,q⟩
def vR(d:X.A.units<cLine):OpR X (cXh .NotEq) (bW5 X.K):=by
 intro pins s σ H x y v u Q I l o h;obtain⟨a,b,B,rfl,rfl,m,g,q⟩:=h;cases l;cases o;obtain⟨r,n,f,_⟩:=I.list m;obtain⟨t,i,c,_⟩:=I.list g;cases i;cases n with
 |nil=>have z:=SeqAt.RcNeAt.lists (A:=X.A) (s:=s) (e:=λ_=>true) f.isList c.isList rfl d (λj k p=>absurd k (cXx _));exact z X.prog X.w X.xe _ ⟨.bl false,H,I,rfl,q⟩
 |cons _ _=>exact(SeqAt.RcNeAt.lists_lengths f.isList c.isList (by simp) d) X.prog X.w X.xe _ ⟨.bl true,H,I,rfl,q⟩
structure FnG(P:bY7)(w:cQf)(K:bYM)(mg:Str->Option bYL)(base:Heap)(k:Nat)(x:Str)(ps:List Str)(sp:Sp):Prop where
 ex:∃f fd,xE P w K mg base CX0 k f fd ps sp/\v6 K fd ps []/\cQH K (.ref f)=true/\mg x=some (.ref f)
def FnG.mono{P:bY7}{w:cQf}{K:bYM}{mg:Str->Option bYL}{base:Heap}{j k:Nat}{x:Str}{c:List Str}{sp:Sp}(G:FnG P w K mg base j x c sp)(h:j<=k):FnG P w K mg base k x c sp:=
 let ⟨f,fd,a,b⟩:=G.ex;⟨f,fd,a.mono h,b⟩
def xJ{k:Nat}{x:Str}{g:List Str}{sp:Sp}{e:Expr}{a:List Expr}{t:TA}{p pos:Pos}(G:FnG X.prog X.w X.K X.mg X.base k x g sp)(h:vW k X.A)(l:Gl X x)(n:PA X (e::a) t)
  (d:(x==("__debug__":Str))=false:=by decide) (i:cQr (e::a) X.env=(false,eval e X.env)::cQr a X.env:=by rfl) (c:(cXp pos (cQr a X.env)).any (·.1)=false:=by rfl):
  PE X (.Call (.Name x p) (e::a) [] pos) (bZK sp [] E0 t):=by
 obtain⟨f,o,F,b,j,m⟩:=G.ex
 exact aYW F h l m j b .nil v0 n d i c
end
inductive Dt where
 |non|bl (b:Bool)|int (n:Int)|str (x:Str)|lst (ds:List Dt)|tup (ds:List Dt)
mutual
def Is(H:Hp):V->Dt->Prop
 |v,.non=>v= .non
 |v,.bl b=>v= .bl b
 |v,.int n=>v= .int n
 |v,.str x=>v= .str x
 |v,.lst ds=>∃a c,v= .ref a/\H a=some (.lst c)/\zY H c ds
 |v,.tup ds=>∃a c,v= .ref a/\H a=some (.tup c)/\zY H c ds
def zY(H:Hp):List V->List Dt->Prop
 |[],[]=>True
 |x::xs,d::ds=>Is H x d/\zY H xs ds
 |_,_=>False
end
mutual
def Dt.size:Dt->Nat
 |.lst a=>1+zK a
 |.tup a=>1+zK a
 |_=>1
def zK:List Dt->Nat
 |[]=>0
 |d::ds=>d.size+zK ds
end
def zY.length{H:Hp}:∀ {xs:List V} {ds:List Dt},zY H xs ds->xs.length=ds.length
 |[],[],_=>rfl
 |_::xs,_::ds,h=>by unfold zY at h;simp[zY.length h.2]
 |[],_::_,h=>by unfold zY at h;exact h.elim
 |_::_,[],h=>by unfold zY at h;exact h.elim
def zY.get{H:Hp}:∀ {xs:List V} {ds:List Dt} {i:Nat} {d:Dt},zY H xs ds->ds[i]? =some d->∃x,xs[i]? =some x/\Is H x d
 |x::xs,d::ds,0,_,h,e=>by unfold zY at h;simp at e;subst e;exact⟨x,rfl,h.1⟩
 |_::xs,_::ds,i+1,d,h,e=>by unfold zY at h;simpa using zY.get (i:=i) (d:=d) h.2 (by simpa using e)
 |[],[],_,_,_,e=>by simp at e
 |[],_::_,_,_,h,_=>by unfold zY at h;exact h.elim
 |_::_,[],_,_,h,_=>by unfold zY at h;exact h.elim
def zF{t u:TS}{D:aJn}{σ:L2.St}{H:Hp}(R:L2.St->Hp->Prop)(d:∀a b,R a b->u D a b)(c:(∀a b,R a b->u D a b)->t {D with nx:=u D} σ H):bKF t u D σ H:=c d
def onT{c:Bool}{A B:Prop}(e:c=true)(h:A):if c=true then A else B:=by rw[e];exact h
def onF{c:Bool}{A B:Prop}(e:c=false)(h:B):if c=true then A else B:=by rw[e];exact h
def z0:([]:List V).length<=cQd:=by decide
def z1{a:V}: [a].length<=cQd:=by show 1<=cQd;decide
def z2{a b:V}: [a,b].length<=cQd:=by show 2<=cQd;decide
def z3{a b c:V}: [a,b,c].length<=cQd:=by show 3<=cQd;decide
def z4{a b c d:V}: [a,b,c,d].length<=cQd:=by show 4<=cQd;decide
def z5{a b c d e:V}: [a,b,c,d,e].length<=cQd:=by show 5<=cQd;decide
def zn{l:List V}(h:l.length<=100000):l.length<=cQd:=by rw[cQk];omega
def zlt{l:List V}(h:l.length<=100000):l.length<cQd:=by rw[cQk];omega
def xC.fresh{H a:Hp}(k:xC H a){p:Nat}(h:a p=none):H p=none:=by
 cases e:H p with
 |none=>rfl
 |some o=>rw[k _ _ e]at h;cases h
def yG{H:Hp}{p:Nat}(h:H p=none)(o:HO):xC H (upd H p o):=λb u q=>by rw[yI (yJ q h)];exact q
end L2
namespace Rvl
open PySem PyProof.Rows
section
variable {prog:bY7}{w:cQf}{A:cQt}{E:bYL->bYO->Prop}{s:bYO}
end
end Rvl
namespace L2
open PySem PySem.Spec PyProof.Rows
section
variable {X:Cx}
end
end L2
namespace L2
open PySem PySem.Spec PyProof.Rows
def Q3{n:Nat}{k:List Nat}{d:TT}{h:TE}{σ:St}{D:Nat}{Q:VK}{H:Hp}(p:Nat->Bool)(f:Nat->V)(y:H D=none)(hz:n<=cQd) (s:∀i,i<n->∀ (c:Hp)(R:Bool->Hp->Prop),(∀b,b≠D->c b=H b)->R (p i) c->d (sub σ k (some (.int (i:Nat)))) c R) (q:∀i,i<n->p i=true->∀ (c:Hp)(R:VK),(∀b,b≠D->c b=H b)->R (f i) c->h (sub σ k (some (.int (i:Nat)))) c R) (w:Q (.ref D) (upd H D (.lst (((bYY n).filter p).map f)))):bWf (Itr 0 n) k d h σ D Q (upd H D (.lst [])):=by
 refine⟨λi m l c=>m=n - i/\i<=n/\l=((bYY i).filter p).map f/\c=upd H D (.lst l),⟨n,by simp,cQJ _,by simp,rfl⟩,?_⟩;rintro i m l c ⟨rfl,z,rfl,rfl⟩;refine⟨yB,?_⟩;by_cases a:i<n
 ·refine .inr ⟨a,λv A o=>?_⟩;obtain⟨u,t⟩:=o;subst u;subst t;rw[cXV];have e:∀b,b≠D->upd H D (.lst (((bYY i).filter p).map f)) b=H b:=λb r=>yI r;have g:(((bYY i).filter p).map f).length<cQd:=by
   rw[bYP];have x:=cQL p (bYY i);rw[cQE]at x;omega
  refine s i a _ _ e ?_;cases j:p i with
  |false=>show ∃B,_;refine⟨n - (i+1),by omega,rfl,a,?_,rfl⟩;rw[cZb,cQW,cXr (by rw[j];decide)];simp
  |true=>show h _ _ _;refine q i a j _ _ e ⟨g,yB,n - (i+1),by omega,rfl,a,?_,by rw[jD]⟩;rw[cZb,cQW,cXs j];simp
 ·obtain rfl:i=n:=by omega
  exact .inl ⟨bYS _,w⟩
end L2
namespace Stree
open PySem PySem.W PyProof.Rows
def Asks{α:Type}(n:Nat)(lt:Nat->Nat->Bool):KasT α->(α->Prop)->Prop
 |.ret a,Q=>Q a
 |.ask i j k,Q=>i<n/\j<n/\Asks n lt (k (lt i j)) Q
def Asks.bind{α β:Type}{n:Nat}{lt:Nat->Nat->Bool}{f:α->KasT β}{Q:β->Prop}:∀ {t:KasT α} {R:α->Prop},Asks n lt t R->(∀a,R a->Asks n lt (f a) Q)->Asks n lt (t.bind f) Q
 |.ret a,R,h,hf=>hf a h
 |.ask i j k,R,h,hf=>⟨h.1,h.2.1,Asks.bind (t:=k (lt i j)) h.2.2 hf⟩
def Asks.wp{α:Type}{n:Nat}{lt:Nat->Nat->Bool}{b:Nat->Nat->(Bool->bYO->Prop)->bYO->Prop}{s:bYO}{G:α->bYO->Prop}(c:∀i j C,i<n->j<n->C (lt i j) s->b i j C s):
  ∀ {t:KasT α} {R:α->Prop},Asks n lt t R->(∀a,R a->G a s)->t.kasWp b G s
 |.ret a,R,h,hf=>hf a h
 |.ask i j k,R,h,hf=>c i j _ h.1 h.2.1 (Asks.wp c (t:=k (lt i j)) h.2.2 hf)
section
variable {n:Nat}{r:Nat->Int}{p:Array Nat}
abbrev W5(r:Nat->Int):Nat->Nat->Bool:=λi j=>decide (r i<r j)
abbrev R(r:Nat->Int)(p:Array Nat)(k:Nat):Int:=r (p.getD k 0)
structure Ok(n:Nat)(p:Array Nat):Prop where
 perm:p.toList.Perm (bYY n)
def Ok.size(h:Ok n p):p.size=n:=by have:=h.perm.length_eq;simpa using this
def Ok.lt(h:Ok n p)(h0:0<n)(k:Nat):p.getD k 0<n:=by
 by_cases a:k<p.size
 ·have:p.toList[k]'(by simpa using a)∈p.toList:=cXQ _;have:=cQn.mp (h.perm.mem_iff.mp this);simpa[cZg,a]using this
 ·simpa[cZg,a]using h0
def Ok.ne(h:Ok n p){i j:Nat}(g:i<n)(k:j<n)(c:i≠j):p.getD i 0≠p.getD j 0:=by
 have f:=h.size;have d:p.toList.Nodup:=h.perm.nodup_iff.mpr cZW;intro e;have a:i<p.size:=by omega
 have b:j<p.size:=by omega
 simp[cZg,a,b]at e;have:=(cXA (xs:=p.toList) (h₀:=by simpa using a) (h₁:=by simpa using b) d).mp (by simpa using e);exact c this
def Inj(n:Nat)(r:Nat->Int):Prop:=∀i j,i<n->j<n->r i=r j->i=j
def Ok.rne(h:Ok n p)(b:Inj n r){i j:Nat}(c:i<n)(d:j<n)(a:i≠j):R r p i≠R r p j:=λe=>
 h.ne c d a (b _ _ (h.lt (by omega) i) (h.lt (by omega) j) e)
def Srt(r:Nat->Int)(p:Array Nat)(k:Nat):Prop:=∀i j,i<j->j<k->R r p i<R r p j
def Dsc(r:Nat->Int)(p:Array Nat)(k:Nat):Prop:=∀i j,i<j->j<k->R r p j<R r p i
def Srt.one:Srt r p 1:=λi j a b=>by omega
def aXI(p:Array Nat)(k:Nat):p.getD k 0=(p[k]?).getD 0:=by simp[cZg,cZd];split<;> simp_all
def aZl(h:Ok n p)(hr:Inj n r):∀ (f m:Nat),1<=m->m+f<=n->Srt r p m->Asks n (W5 r) (kas_asc p f m) (λm'=>m<=m'/\m'<=m+f/\Srt r p m'/\(m'<m+f->R r p m'<R r p (m' - 1)))
 |0,m,h1,h2,hs=>⟨bYS _,bYS _,hs,λz=>absurd z (by omega)⟩
 |f+1,m,h1,h2,hs=>by
  refine⟨h.lt (by omega) _,h.lt (by omega) _,?_⟩
  by_cases c:r (p.getD m 0)<r (p.getD (m - 1) 0)
  ·have e:W5 r (p.getD m 0) (p.getD (m - 1) 0)=true:=decide_eq_true c
   rw[e];show Asks n (W5 r) (ite _ _ _) _;rw[if_pos rfl]
   exact⟨bYS _,by omega,hs,λ_=>c⟩
  ·have e:W5 r (p.getD m 0) (p.getD (m - 1) 0)=false:=decide_eq_false c
   rw[e];show Asks n (W5 r) (ite _ _ _) _;rw[if_neg (by decide)]
   have hne:=h.rne hr (i:=m) (j:=m - 1) (by omega) (by omega) (by omega)
   have hlt:R r p (m - 1)<R r p m:=by
    have:¬R r p m<R r p (m - 1):=c
    omega
   have hs':Srt r p (m+1):=λi j hij hj=>by
    by_cases hjm:j<m
    ·exact hs i j hij hjm
    ·have:j=m:=by omega
     subst this
     by_cases hi:i=j - 1
     ·rw[hi];exact hlt
     ·have:=hs i (j - 1) (by omega) (by omega);omega
   have z:=aZl h hr f (m+1) (by omega) (by omega) hs'
   have e2:m+1+f=m+(f+1):=by omega
   rw[e2]at z
   exact Asks.mono z λm' ⟨a,b,c,d⟩=>⟨by omega,b,c,d⟩
where
 Asks.mono {α:Type} {n:Nat} {lt:Nat->Nat->Bool} {Q Q':α->Prop}:∀ {t:KasT α},Asks n lt t Q->(∀a,Q a->Q' a)->Asks n lt t Q'
  |.ret a,h,hf=>hf a h
  |.ask i j k,h,hf=>⟨h.1,h.2.1,Asks.mono (t:=k (lt i j)) h.2.2 hf⟩
def aK1(h:Ok n p)(q:Inj n r):∀ (f m:Nat),1<=m->m+f<=n->Dsc r p m->Asks n (W5 r) (kas_desc f p m 0) (λz=>z.1=p/\z.2.2=0/\m<=z.2.1/\z.2.1<=m+f/\Dsc r p z.2.1)
 |0,m,h1,h2,hs=>⟨rfl,rfl,bYS _,bYS _,hs⟩
 |f+1,m,h1,h2,hs=>by
  refine⟨h.lt (by omega) _,h.lt (by omega) _,?_⟩;by_cases c:r (p.getD m 0)<r (p.getD (m - 1) 0)
  ·have e:W5 r (p.getD m 0) (p.getD (m - 1) 0)=true:=decide_eq_true c;rw[e];show Asks n (W5 r) (ite _ _ _) _;rw[if_pos rfl,if_neg (by omega)];have g:Dsc r p (m+1):=λi j o w=>by
    by_cases k:j<m
    ·exact hs i j o k
    ·have:j=m:=by omega
     subst this;have u:R r p j<R r p (j - 1):=c;by_cases t:i=j - 1
     ·rw[t];exact u
     ·have:=hs i (j - 1) (by omega) (by omega);omega
   have z:=aK1 h q f (m+1) (by omega) (by omega) g;have s:m+1+f=m+(f+1):=by omega
   rw[s]at z;exact aZl.Asks.mono z λz ⟨a,b,c,d,e⟩=>⟨a,b,by omega,d,e⟩
  ·have e:W5 r (p.getD m 0) (p.getD (m - 1) 0)=false:=decide_eq_false c;rw[e];show Asks n (W5 r) (ite _ _ _) _;rw[if_neg (by decide)];refine⟨h.lt (by omega) _,h.lt (by omega) _,?_⟩;have v:=h.rne q (i:=m) (j:=m - 1) (by omega) (by omega) (by omega);have l:R r p (m - 1)<R r p m:=by
    have:¬R r p m<R r p (m - 1):=c;omega
   have e:W5 r (p.getD (m - 1) 0) (p.getD m 0)=true:=decide_eq_true l;rw[e];show Asks n (W5 r) (ite _ _ _) _;rw[if_pos rfl];exact⟨rfl,rfl,bYS _,Nat.le_add_right _ _,hs⟩
def bWq{m:Nat}(b:m<=p.size)(k:Nat)(a:k<m):R r (kas_rev p 0 m) k=R r p (m - 1 - k):=by
 unfold R kas_rev;rw[aXI,aXI,getElem?_mirror_all b,if_pos ⟨cQJ _,a⟩,Nat.zero_add]
def bJl(h:Ok n p)(m:Nat):Ok n (kas_rev p 0 m):=⟨(cJW.mp (mirror_perm p 0 m _)).trans h.perm⟩
def bZQ(h:Ok n p)(f:Inj n r){m:Nat}(g:1<=m)(e:m<=n)(k:Dsc r p m):Asks n (W5 r) (kas_tail3 m n p) (λz=>1<=z.1/\z.1<=n/\Ok n z.2/\Srt r z.2 z.1):=by
 have d:Srt r (kas_rev p 0 m) m:=λi j l o=>by rw[bWq (by rw[h.size];exact e) i (by omega),bWq (by rw[h.size];exact e) j o];exact k _ _ (by omega) (by omega)
 refine Asks.bind (aZl (bJl h m) f (n - m) m g (by omega) d) λm' ⟨a,b,c,_⟩=>?_;exact⟨by omega,by omega,bJl h m,c⟩
def bXa(h:Ok n p)(f:Inj n r)(y:1<=n):Asks n (W5 r) (kas_count n p) (λz=>1<=z.1/\z.1<=n/\Ok n z.2/\Srt r z.2 z.1):=by
 refine Asks.bind (aZl h f (n - 1) 1 (bYS _) (by omega) Srt.one) λm ⟨a,b,c,d⟩=>?_;by_cases e:m=n
 ·rw[if_pos (by simpa using e)];exact⟨a,by omega,h,c⟩
 ·rw[if_neg (by simpa using e)];by_cases k:m > 1
  ·rw[if_pos k];refine⟨h.lt (by omega) _,h.lt (by omega) _,?_⟩;have g:R r p 0<R r p (m - 1):=c 0 (m - 1) (by omega) (by omega);have s:W5 r (p.getD 0 0) (p.getD (m - 1) 0)=true:=decide_eq_true g;rw[s];show Asks n (W5 r) (ite _ _ _) _;rw[if_pos rfl];exact⟨a,by omega,h,c⟩
  ·rw[if_neg k];have u:m=1:=by omega
   subst u;have x:=d (by omega);refine Asks.bind (aK1 h f (n - 2) 2 (by omega) (by omega) ?_) λz ⟨z1,z2,z3,z4,z5⟩=>?_
   ·intro i j v o;have w:i=0:=by omega
    have o:j=1:=by omega
    subst w;subst o;exact x
   ·obtain⟨q,l,t⟩:=z;simp only at z1 z2 z3 z4 z5;subst z1;subst z2;rw[if_neg (by simp)];exact bZQ h f (by show 1<=l;omega) (by show l<=n;omega) z5
def aXQ(h:Ok n p)(g:Inj n r){k:Nat}(s:k<n)(b:Srt r p k):∀ (f l u:Nat),l<=u->u<=k->u - l<=f->(∀i,i<l->R r p i<R r p k)->(∀i,u<=i->i<k->R r p k<R r p i)->
  Asks n (W5 r) (kas_place p k f l u) (λq=>q<=k/\(∀i,i<q->R r p i<R r p k)/\∀i,q<=i->i<k->R r p k<R r p i)
 |0,l,u,h1,h2,h3,h4,h5=>⟨by omega,h4,λi m a=>h5 i (by omega) a⟩
 |f+1,l,u,h1,h2,h3,h4,h5=>by
  unfold kas_place;by_cases c:l≥u
  ·rw[if_pos c];exact⟨by omega,h4,λi m a=>h5 i (by omega) a⟩
  ·rw[if_neg c];refine⟨h.lt (by omega) _,h.lt (by omega) _,?_⟩;have w:(l+u) / 2<u:=by omega
   have hl:l<=(l+u) / 2:=by omega
   by_cases d:r (p.getD k 0)<r (p.getD ((l+u) / 2) 0)
   ·have e:W5 r (p.getD k 0) (p.getD ((l+u) / 2) 0)=true:=decide_eq_true d;rw[e];show Asks n (W5 r) (ite _ _ _) _;rw[if_pos rfl];refine aXQ h g s b f l _ hl (by omega) (by omega) h4 λi m a=>?_;have t:R r p k<R r p ((l+u) / 2):=d;by_cases o:i=(l+u) / 2
    ·rw[o];exact t
    ·have:=b ((l+u) / 2) i (by omega) a;omega
   ·have e:W5 r (p.getD k 0) (p.getD ((l+u) / 2) 0)=false:=decide_eq_false d;rw[e];show Asks n (W5 r) (ite _ _ _) _;rw[if_neg (by decide)];have t:¬R r p k<R r p ((l+u) / 2):=d;have v:=h.rne g (i:=k) (j:=(l+u) / 2) (by omega) (by omega) (by omega);refine aXQ h g s b f _ u (by omega) h2 (by omega) (λi m=>?_) h5;by_cases o:i=(l+u) / 2
    ·rw[o];omega
    ·have:=b i ((l+u) / 2) (by omega) (by omega);omega
def bWp{k l:Nat}(h:k<p.size)(hl:l<=k)(i:Nat):R r (bubble p k (k - l)) i=if i=l then R r p k else if l<i/\i<=k then R r p (i - 1)else R r p i:=by
 have e:=getElem?_bubble h (k - l) (by omega) i;rw[show k - (k - l)=l by omega]at e;have d:∀q:Array Nat,∀a b:Nat,∀c:Array Nat,q[a]? =c[b]? ->R r q a=R r c b:=λq a b c z=>by unfold R;rw[aXI,aXI,z]
 by_cases f:i=l
 ·rw[if_pos f]at e ⊢;exact d _ _ _ _ e
 ·rw[if_neg f]at e ⊢;by_cases g:l<i/\i<=k
  ·rw[if_pos g]at e ⊢;exact d _ _ _ _ e
  ·rw[if_neg g]at e ⊢;exact d _ _ _ _ e
def bZ5(c:Inj n r):∀ (f k:Nat)(p:Array Nat),Ok n p->k+f=n->Srt r p k->Asks n (W5 r) (kas_bin f p k) (λd=>Ok n d/\Srt r d n)
 |0,k,p,h,e,hs=>⟨h,by rw[<- e];exact hs⟩
 |f+1,k,p,h,e,hs=>by
  refine Asks.bind (aXQ h c (k:=k) (by omega) hs k 0 k (by omega) (bYS _) (by omega) (λi g=>absurd g (by omega)) (λi g b=>absurd b (by omega))) λl ⟨h1,h2,h3⟩=>?_;refine bZ5 c f (k+1) _ ⟨(cJW.mp (bubble_perm p k _)).trans h.perm⟩ (by omega) λi j t u=>?_;have q:k<p.size:=by rw[h.size];omega
  rw[bWp q h1,bWp q h1];by_cases s:i=l
  ·rw[if_pos s];by_cases a:j=l
   ·omega
   ·rw[if_neg a,if_pos ⟨by omega,by omega⟩];exact h3 _ (by omega) (by omega)
  ·rw[if_neg s];by_cases a:j=l
   ·rw[if_pos a,if_neg (by omega)];exact h2 i (by omega)
   ·rw[if_neg a];by_cases o:l<i/\i<=k
    ·rw[if_pos o,if_pos ⟨by omega,by omega⟩];exact hs _ _ (by omega) (by omega)
    ·rw[if_neg o];by_cases m:l<j/\j<=k
     ·rw[if_pos m];by_cases cl:i=j - 1
      ·omega
      ·exact hs _ _ (by omega) (by omega)
     ·rw[if_neg m];exact hs _ _ (by omega) (by omega)
def bV1(a:Inj n r)(b:1<=n):Asks n (W5 r) (kas_sort n) (λp=>Ok n p/\Srt r p n):=by
 have h0:Ok n (cQU (bYY n)):=⟨by simp⟩;refine Asks.bind (bXa h0 a b) λz ⟨h1,h2,h3,h4⟩=>?_;by_cases c:z.1<n
 ·rw[if_pos c,Nat.max_eq_left h1];exact bZ5 a _ _ _ h3 (by omega) h4
 ·rw[if_neg c];exact⟨h3,by rw[show n=z.1 by omega];exact h4⟩
def aZ9(d:Inj n r)(f:1<=n):Asks n (W5 r) (kas_sort n) (λp=>p.toList.Perm (bYY n)/\p.toList.Pairwise (λi j=>r i<r j)):=by
 refine aZl.Asks.mono (bV1 d f) λp ⟨h1,h2⟩=>⟨h1.perm,?_⟩;rw[cZh];intro i j e g c;have b:i<p.size:=by simpa using e
 have a:j<p.size:=by simpa using g
 have z:=h2 i j c (by rw[<- h1.size];exact a);simpa[R,cZg,b,a]using z
end
end Stree
namespace Stree
open PySem PySem.W PySem.Calls PyProof.Rows
section
variable {prog:bY7}{w:cQf}{A:cQt}{E:bYL->bYO->Prop}
def aZx{f:bYL}{vs:List bYL}{kS:Nat}{J:List bYL->bYO->Prop}{body:bYL->PUnit->Sem (ForInStep PUnit)}
  (e:∀a s v,J a s->vs[a.length]? =some v->bYT (bYV prog w) A (body v ⟨⟩) (λr b=>r= .yield ⟨⟩/\∃k,J (a++ [k]) b) E s):
  ∀ (r a:List bYL)(s:bYO),vs.drop a.length=r->a.length<=vs.length->J a s->bYT (bYV prog w) A (forIn r PUnit.unit body) (λ_ b=>∃a,a.length=vs.length/\J a b) E s
 |[],a,s,hr,hle,hJ=>by rw[List.forIn_nil];refine bYR ⟨a,?_,hJ⟩;have:=congrArg cXT hr;rw[List.length_drop]at this;simp at this;omega
 |v::r,a,s,hr,hle,hJ=>by
  rw[cJw];have d:vs[a.length]? =some v:=by have:=congrArg (λl=>l[0]?) hr;simpa using this
  have g:a.length<vs.length:=by
   rcases cZN a.length vs.length with h|h
   ·exact h
   ·rw[cQl h]at d;cases d
  refine bYN (cQP (e a s v hJ d) (λq b i=>?_) λ_ _ x=>x);obtain⟨rfl,k,c⟩:=i;show bYT (bYV prog w) A (forIn r PUnit.unit body) _ E b;refine aZx (kS:=kS) (f:=f) e r (a++ [k]) b ?_ (by rw[bY8,cQY];omega) c;rw[bY8,cQY,List.drop_add_one_eq_tail_drop,hr];rfl
def bKh{s:bYO}{a:Nat}{vs:List bYL}{f:bYL}{b:Bool}{P:PySem.Fin->bYO->Prop}{n0:Nat}(W:s.heap.get? a=some (cQB "list" vs.toArray n0))(a8:vs.length<64)(J:Nat->List bYL->bYO->Prop) (h0:∀n q,(∀c o,c≠a->s.heap.get? c=some o->q.get? c=some o)->q.get? a=some (cQB "list" #[] n)->q.get? (s.heap.objs.size+1)=some (cQB "list" #[] 0)->J n [] {s with heap:=q}) (hget:∀n g l,J n g l->(∃e,l.heap.get? (s.heap.objs.size+1)=some (cQB "list" g.toArray e))/\l.heap.get? a=some (cQB "list" #[] n)) (hcall:∀n g l v,J n g l->vs[g.length]? =some v->bYT (bYV prog w) A (call f [v]) (λk m=>(∃e,m.heap.get? (s.heap.objs.size+1)=some (cQB "list" g.toArray e))/\ ∀q c,cXP (s.heap.objs.size+1) m.heap q->q.get? (s.heap.objs.size+1)=some (cQB "list" (g++ [k]).toArray c)->J n (g++ [k]) {m with heap:=q}) (λ_ _=>False) l) (hend:∀n g l,J n g l->g.length=vs.length->∃r:Nat->Int,Inj vs.length r/\ (2<=vs.length->∃κ,(∀Q:SortKind->bYO->Prop,Q κ l->bYT (bYV prog w) A (keyKind' g.toArray) Q (λ_ _=>False) l)/\∀i j C,i<vs.length->j<vs.length->C (decide (r i<r j)) l->kas_ask prog w A κ (katRev b g) i j C l)/\ ∀ (p:List Nat) q c B,p.Perm (bYY vs.length)->p.Pairwise (λi j=>r i<r j)->(∀d,d≠a->d≠s.heap.objs.size+1->q.get? d=l.heap.get? d)->q.get? (s.heap.objs.size+1)=some (cQB "list" #[] c)-> q.get? a=some (cQB "list" (katRev b (p.map λi=>(katRev b vs).getD i Value.none)).toArray B)->P (.done (.ret .none)) {l with heap:=q}): bYT (bYV prog w) A (ksk_tree a f b) P E s:=by
 have ha:a<s.heap.objs.size:=bYZ W;have S:a≠s.heap.objs.size+1:=cQc (cQV ha);obtain⟨n,N⟩:∃n,(s.heap.update a (cQF λ_=>(#[]:Array bYL))).get? a=some (cQB "list" #[] n):=⟨_,cZD W λ_=> #[]⟩;have T:((s.heap.update a (cQF λ_=>(#[]:Array bYL))).push (cQB "tuple" vs.toArray 0)).objs.size=s.heap.objs.size+1:=by rw[size_push',Heap.size_update]
 unfold ksk_tree;refine bYN (listItems_at W rfl ?_);refine bYN (cZ1 W rfl ?_ (by rw[bY4,cQk];omega) (cQJ _));refine bYN (seqEpoch_at N rfl ?_);refine bYN (wpAny_newTuple ?_ (by show vs.length<=_;rw[cQk];omega));refine bYN (cZ4 ?_ (cQJ _));refine cQ6 ?_;have J0:=h0 n (((s.heap.update a (cQF λ_=>(#[]:Array bYL))).push (cQB "tuple" vs.toArray 0)).push (cQB "list" #[] 0))
  (λc o hc e=>bYQ _ (bYQ _ ((cQq _ _ (cQu hc)).trans e)))
  (bYQ _ (bYQ _ N)) (by rw[<- T];exact cQg _ rfl)
 show bYT _ _ (ksk_rest a f b vs.toArray n (.ref ((s.heap.update a (cQF λ_=>(#[]:Array bYL))).push (cQB "tuple" vs.toArray 0)).objs.size)) _ _ _;rw[T];unfold ksk_rest;refine bYN (wpAny_rule ?_);first
  |rw[List.forIn_toArray]
  |(rw[<- Array.forIn_toList];simp only[cJI])
  |rw[<- Array.forIn_toList]
 refine bYN (cQP (aZx (f:=f) (kS:=s.heap.objs.size+1) (J:=J n) (vs:=vs) (λg l v Z hv=>?_) vs [] _ (by simp) (cQJ _) J0) (λ_ l hd=>?_) λ_ _ x=>x)
 ·have b1:g.length<vs.length:=by
   rcases cZN g.length vs.length with h|h
   ·exact h
   ·rw[cQl h]at hv;cases hv
  refine bYN (cZ3 (cQP (hcall n g l v Z hv) (λk m hk=>?_) λ_ _ hF=>hF.elim));obtain⟨⟨e,nk⟩,c⟩:=hk;have s1:=cXf m.heap (s.heap.objs.size+1) (cQF (·.push k));have ea:(cQU g).push k=cQU (g++ [k]):=by simp
  obtain⟨B,F⟩:∃B,(m.heap.update (s.heap.objs.size+1) (cQF (·.push k))).get? (s.heap.objs.size+1)=some (cQB "list" (cQU (g++ [k])) B):=⟨_,by rw[<- ea];exact cZD nk (·.push k)⟩;try dsimp only
  refine bYN (cZ1 nk rfl ?_ (by rw[bY4,cQk];omega) (cQo (cZn (Array.size_push ..)) (by rw[bY4,cQk];omega)));exact bYR ⟨rfl,k,c _ B s1 F⟩
 ·obtain⟨g,hl,Z⟩:=hd;obtain⟨⟨e,H⟩,a6⟩:=hget n g l Z;try dsimp only
  refine bYN (listItems_at H rfl ?_);obtain⟨r,hr,O,U⟩:=hend n g l Z hl;have step:∀t:Sem PySem.Fin,bYT (bYV prog w) A t P E l->bYT (bYV prog w) A (if b=true then(do let _ <- rule "list.sort.reverse";t)else t) P E l:=by
   intro t ht;split
   ·exact bYN (wpAny_rule ht)
   ·exact ht
  have L:(katRev b g).length=(katRev b vs).length:=by rw[kat_len,kat_len,hl]
  have D:∀ (Y:SortSt)(p:List Nat),p.Perm (bYY vs.length)->p.Pairwise (λi j=>r i<r j)->(arrOf Y).map (·.2)=cQU (p.map λi=>(katRev b vs).getD i Value.none)->failedOf Y=none->
    bYT (bYV prog w) A (ksk_tail a b n (.ref (s.heap.objs.size+1)) Y) P E l:=by
   intro Y p u G R hf
   have a5:p.length=vs.length:=by rw[u.length_eq,cQE]
   obtain⟨ck,b0⟩:∃ck,(l.heap.update (s.heap.objs.size+1) (cQF λ_=>(#[]:Array bYL))).get? (s.heap.objs.size+1)=some (cQB "list" #[] ck):=⟨_,cZD H λ_=> #[]⟩
   have na:(l.heap.update (s.heap.objs.size+1) (cQF λ_=>(#[]:Array bYL))).get? a=some (cQB "list" #[] n):=(cQq _ _ (cQu S)).trans a6
   obtain⟨B,F⟩:∃B,((l.heap.update (s.heap.objs.size+1) (cQF λ_=>(#[]:Array bYL))).update a (cQF λ_=>cQU (katRev b (p.map λi=>(katRev b vs).getD i Value.none)))).get? a=some (cQB "list" (cQU (katRev b (p.map λi=>(katRev b vs).getD i Value.none))) B):=
    ⟨_,cZD na λ_=>cQU (katRev b (p.map λi=>(katRev b vs).getD i Value.none))⟩
   have a0:(cQU (katRev b (p.map λi=>(katRev b vs).getD i Value.none))).size=vs.length:=by rw[bY4,kat_len,bYP,a5]
   unfold ksk_tail
   try dsimp only
   rw[R,kat_outs]
   refine bYN (cZ1 H rfl ?_ (by rw[bY4,cQk];omega) (cQJ _))
   refine bYN (wpAny_letGo ?_)
   refine bYN (seqEpoch_at na rfl ?_)
   refine bYN (cZ1 na rfl ?_ (cQJ _) (cQo (cZn a0) (by rw[cQk];omega)))
   rw[hf]
   simp only[bne_self_eq_false,Bool.false_eq_true,if_false]
   refine bYR (U p _ ck B u G (λd h1 y=>?_) ?_ F)
   ·exact(cQq _ _ (cQu h1)).trans (cQq _ _ (cQu y))
   ·exact(cQq _ _ S).trans b0
  unfold ksk_end;try dsimp only
  refine step _ ?_;rw[kat_pairs b hl];by_cases y:vs.toArray.size<2
  ·rw[if_pos y,if_pos y];refine bYN (bYR ?_);refine bYN (bYR ?_);have I:vs.length<2:=by rw[bY4]at y;exact y
   refine D _ (bYY vs.length) (List.Perm.refl _) ?_ ?_ rfl
   ·rw[cZh];intro i j X hj b2;rw[cQE]at X hj;omega
   ·show((cQU (katRev b g)).zip (cQU (katRev b vs))).map (·.2)=_;apply Array.toList_inj.mp;rw[Array.toList_map,Array.toList_zip];simp only[cJI];have n:(cJa (katRev b g) (katRev b vs)).map (·.2)=katRev b vs:=List.map_snd_zip (cZn L.symm);rw[n];apply cX3;intro i;rw[bY5];by_cases X:i<vs.length
    ·have K:i<(katRev b vs).length:=by rw[kat_len];exact X
     rw[cXO X];simp[cQv,bYK K]
    ·have K:(katRev b vs).length<=i:=by rw[kat_len];omega
     rw[cQl K,cQl (by rw[cQE];omega)];rfl
  ·have I:2<=vs.length:=by rw[bY4]at y;omega
   rw[if_neg y,if_neg y];obtain⟨κ,hκ,M⟩:=O I;refine bYN (cQP (hκ (λk m=>k=κ/\m=l) ⟨rfl,rfl⟩) (λk m hq=>?_) λ_ _ x=>x.elim);obtain⟨rfl,rfl⟩:=hq;have a7:(kas_sort (katRev b vs).length).kasWp (kas_ask prog w A k (katRev b g)) (λp V=>V=m/\p.toList.Perm (bYY vs.length)/\p.toList.Pairwise (λi j=>r i<r j)) m:=by rw[kat_len];exact Asks.wp (lt:=W5 r) M (aZ9 hr (by omega)) λp hp=>⟨rfl,hp⟩
   refine bYN (cQP (kat_run (Q:=λz V=>∃p:Array Nat,arrOf z=p.map (kas_item ((cQU (katRev b g)).zip (cQU (katRev b vs))))/\failedOf z=none/\
     V=m/\p.toList.Perm (bYY vs.length)/\p.toList.Pairwise (λi j=>r i<r j))
    L (by rw[kat_len];exact I) (by rw[kat_len];exact a8) (λp' z V a1 a2 a3 a4=>⟨p',a2,a3,a4⟩) a7) ?_ λ_ _ x=>x)
   rintro⟨⟨⟩,z⟩ V ⟨p,a9,hf,rfl,u,G⟩;try dsimp only
   exact D _ p.toList u G (kat_snds L a9) hf
end
end Stree
namespace L2
open PySem PySem.Spec PyProof.Rows
abbrev bKz(X:Cx)(A:cQt)(N:List Str)(qual:Str)(sc:cX1)(L q:Nat)(cd:bYL)(cl:List (Str×Nat))(s:bYO)(H:Hp):Cx:=
 {X with A:=A.deeper (PySem.W.envX qual sc L q cd cl),N:=N,s₀:=s,H₀:=H,env:=PySem.W.envX qual sc L q cd cl,outer:=X.stack,stack:=PySem.W.envX qual sc L q cd cl::X.stack,ex:= [],fn:=λ_=>false,calm:=true,pn:= [],xe:=λ_ _=>False}
section
variable {X:Cx}{pins:List (Nat×Obj)}{σ:St}{H:Hp}{s:bYO}
def bXs{A:cQt}{x:Str}{names:List Str}{M:List Nat}{f:cX1}{cl:List (Str×Nat)}{name qual:Str}{d:Arguments}{body:Expr}{pm O:bYL}{q t:Nat}{te:TE}{v:V}{u:bYL}{Q:VK} (I:Inv X pins σ H s) (hA:A.frames=some X.stack) (hd:A.handled=none) (K:A.depth<recursionLimit) (S:xN X.N X.env.scope x names M f) (a1:f.isCoroutine=false) (P:f.isGenerator=false) (a:∀y c,cl.lookup y=some c->X.env.cells.lookup y=some c) (C:∀y,(y,NameKind.free)∈f.names->∃c,cl.lookup y=some c) (ho:s.heap.get? q=some (cX0 name qual d body f cl pm t O)) (a0:s.heap.CodeRec (.ref t) qual) (E:∀u:bYL,cZt (PySem.W.kla_fn name qual d body f cl pm (.ref t) O) ⟨[u],[]⟩=pure [(x,u)]) (he:∀A L cd s H,PE (bKz X A (x::names) qual f L q cd cl s H) body te) (r:zO v u) (h:te (sub σ M (some v)) H Q): bYT (bYV X.prog X.w) A (call (.ref q) [u]) (EP X pins σ Q) (λ_ _=>False) s:=by
 have a2:cX4 (bYV X.prog X.w) A (.call (.ref q) ⟨[u],[]⟩) (λr s'=>match r with|.ok (.ret u)=>EP X pins σ Q u s'|_=>False) s:=by
  refine PySem.W.kla_callFunE K ho rfl a1 P rfl a0 ?_;rw[E u];refine bYR (wpAny_newFunctionEnv S.nocell (λy hy=>by rw[bY2.mp hy];exact S.var) (λB a4 a5=>?_) S.kind);have keep:∀b o,s.heap.get? b=some o->B.get? b=some o:=λb o e=>a5.extBut b o (cQc (bYZ e)) (bYQ _ e);refine⟨I.nolimit.keeps keep,?_⟩;show cX4 _ _ (.expr body (PySem.W.envX qual f s.heap.objs.size q (.ref t) cl)) _ _;have a3:(bKz X A (x::names) qual f s.heap.objs.size q (.ref t) cl s H).Ok:=by
   refine⟨I.ok.mod,S.kind,rfl,rfl,bYS _,?_,?_,?_,λ_=>hd,Around.frames_deeper hA,.inr ⟨rfl,rfl⟩,?_,I.bs,cQo I.ok.bsz I.sz,?_,?_,I.stack,I.stkFree⟩
   ·exact λy z c T Y=>I.ok.inj y z c (a y c T) (a z c Y)
   ·intro y hy;have g:f.names.lookup y=some .cell\/f.names.lookup y=some .free:=hy;rcases g with g|g
    ·exact absurd rfl (S.nocell _ (cXg g))
    ·exact C y (cXg g)
   ·exact λy c h _=>by cases h
   ·exact λb E=>absurd (show b∈([]:List Nat)from E) (by simp)
   ·exact λb o _ E=>absurd (show b∈([]:List Nat)from E) (by simp)
   ·exact λb E=>absurd (show b∈([]:List Nat)from E) (by simp)
  have IY:Inv (bKz X A (x::names) qual f s.heap.objs.size q (.ref t) cl s H) [] (sub σ M (some v)) H {s with heap:=B,toks:=s.toks+ [(x,u)].length}:=by
   refine⟨a3,rfl,I.bare,Un.kept keep,⟨_,a4,?_⟩,?_,I.hok.fresh (bYS _),λy c e=>I.freeC y c (a y c e),λp hp=>absurd (show p∈([]:List (Nat×Obj))from hp) (by simp),I.hok.kept keep,?_⟩
   ·intro i y n T Y h3;cases i with
    |zero=>
     have F:x=y:=by simpa using T
     have G:v=n:=by have z:(some (some v):Option (Option V))=some (some n):=Y;cases z;rfl
     subst F;subst G;exact⟨u,r,.inl ⟨S.var,by simp[cX6]⟩⟩
    |succ j=>
     have F:names[j]? =some y:=T;obtain⟨Z,e1,e2,U⟩:=S.from_ j y F;have G:σ[Z]? =some (some n):=by
      have z:(M.map λi=>(σ[i]?).join)[j]? =some (some n):=Y;rw[bY5,e1]at z;have l:(σ[Z]?).join=some n:=bY6 z;cases q:σ[Z]? with
      |none=>rw[q]at l;cases l
      |some o=>rw[q]at l;rw[show o=some n from l]
     obtain⟨m,hn,hl⟩:=I.loc;have R:Vis X.env.scope y:= .inr (S.free _ U rfl);obtain⟨u',ru,lk⟩:=hl Z y n e2 G R;refine⟨u',ru,.inr ⟨?_,?_⟩⟩
     ·exact .inr (S.flk _ U rfl)
     ·rcases lk with⟨k,_⟩|⟨k,c,e,z⟩
      ·rcases S.free _ U rfl with z|z
       ·have l:X.env.kindOf y=some .cell:=z;rw[k]at l;cases l
       ·have l:X.env.kindOf y=some .free:=z;rw[k]at l;cases l
      ·obtain⟨t,e'⟩:=C y U;have:=a y t e';rw[e]at this;cases this;exact⟨c,e',z.keeps keep⟩
   ·intro y c e;obtain⟨v,z⟩:=I.cell y c (a y c e);exact⟨v,z.keeps keep⟩
   ·show(sub σ M (some v)).length=(x::names).length;simp[sub,S.len]
  refine PySem.W.kla_codeExpr (cQP (he A s.heap.objs.size (.ref t) s H [] _ (sub σ M (some v)) H Q IY h) (λw s' D=>?_) (λ_ _ z=>z.elim));obtain⟨n,H',J,rv,q⟩:=D;exact I.after ⟨n,H',J.os,J.bare,J.base,J.hok,rv,q⟩
 refine cZY (cXE a2 λr s' D=>?_);cases r with
 |error e=>exact D
 |ok fl=>
  cases fl with
  |ret u=>exact D
  |next=>exact D
  |brk=>exact D
  |cont=>exact D
end
end L2
namespace L2
open PySem PySem.Spec PyProof.Rows
def aKT(c:Nat)(qual:Str):HO:= .ext λh=>h.CodeRec (.ref c) qual
def bWP(q:Nat)(o:Obj):HO:= .ext λh=>h.get? q=some o
def bQ9{P:bY7}{w:cQf}{H:Hp}{h:Heap}{c:Nat}{qual:Str}(r:h.CodeRec (.ref c) qual):zH P w H h c (aKT c qual):=by
 obtain⟨s,o,p,t,e,b,i,n⟩:=id r;cases e;refine⟨r,⟨o,b⟩,λb i z k=>?_⟩;obtain⟨q,g,a,j,m,l,d,f⟩:=z;cases m;exact⟨_,g,a,j,rfl,k _ l,d,f⟩
def aYz{P:bY7}{w:cQf}{H:Hp}{h:Heap}{q:Nat}{o:Obj}(r:h.get? q=some o):zH P w H h q (bWP q o):=⟨r,⟨o,r⟩,λa b z k=>k _ z⟩
def Y9(pos:Pos)(qual:Str)(P:Nat)(H:Hp):Prop:=
 H P=some (.tbl #[])\/∃a,H P=some (.tbl (#[]++ #[cQ3 pos.line,cQ3 pos.col,.ref a]))/\H a=some (aKT a qual)
def x3(H c:Hp):Prop:=∀b o,(∀a,o≠ .tbl a)->H b=some o->c b=some o
def xC.t{H a:Hp}(k:xC H a):x3 H a:=λb o _ e=>k b o e
def x3.refl(H:Hp):x3 H H:=λ_ _ _ e=>e
def x3.trans{H d f:Hp}(a:x3 H d)(b:x3 d f):x3 H f:=λc o n e=>b c o n (a c o n e)
def x3.lst{H b:Hp}(k:x3 H b){a:Nat}{xs:List V}(h:H a=some (.lst xs)):b a=some (.lst xs):=k a _ (λ_ z=>nomatch z) h
def x3.tup{H b:Hp}(k:x3 H b){a:Nat}{xs:List V}(h:H a=some (.tup xs)):b a=some (.tup xs):=k a _ (λ_ z=>nomatch z) h
def x3.ext{H b:Hp}(k:x3 H b){a:Nat}{φ:Heap->Prop}(h:H a=some (.ext φ)):b a=some (.ext φ):=k a _ (λ_ z=>nomatch z) h
def x3.seq{K:bYM}{H b:Hp}{a:Nat}{xs:List V}(k:x3 H b)(h:SqL K H a xs):SqL K b a xs:=by
 rcases h with h|h
 ·rcases h with h|⟨o,h⟩
  ·exact .inl (.inl (k.lst h))
  ·exact .inl (.inr ⟨o,k a _ (λ_ z=>nomatch z) h⟩)
 ·exact .inr h
def aVw:PySem.TriplesOk (#[]:Array bYL).toList:=trivial
def aVx{a b:Int}{v:bYL}:PySem.TriplesOk ((#[]++ #[cQ3 a,cQ3 b,v]:Array bYL)).toList:=trivial
def aKM{pos:Pos}{v:bYL}:codeAmong pos ((#[]++ #[cQ3 pos.line,cQ3 pos.col,v]:Array bYL)).toList=some v:=by
 show(if((pos.line:Int)==pos.line && (pos.col:Int)==pos.col)=true then some v else _)=some v;simp
section
variable {X:Cx}{pins:List (Nat×Obj)}{σ:St}{H:Hp}{s:bYO}
def Inv.tab{P:Nat}{d more:Array bYL}{h':Heap}{t':Nat}(I:Inv X pins σ H s)(i:H P=some (.tbl d))(f:cJl P s.heap h')(j:h'.get? P=some {cls:= .none,data:= .fields (d++more) }): Inv X pins σ (upd H P (.tbl (d++more))) {s with heap:=h',toks:=t'}:=by
 have h:∀b,H b=none->b≠P:=λb n z=>by rw[z,i]at n;cases n
 have ne:∀b o,H b=some o->(∀d,o≠ .tbl d)->b≠P:=λb o e n z=>by subst z;rw[i]at e;cases e;exact n _ rfl
 refine I.un (t':=t') ⟨λb o e n _ _=>f b o (h b n) e,λb o e n _ _=>⟨o.slots,f b o (h b n) e⟩,λb o e n _=>by rw[yI (h b n)];exact n,λb o e _=>?_,λb k e=>?_,λb o u e=>?_,λb l e=>?_⟩ λb u e=>?_
 ·by_cases a:b=P
  ·exact⟨_,by rw[a];exact j⟩
  ·exact⟨o,f b o a e⟩
 ·rw[yI (ne b _ e λ_ z=>nomatch z)];exact e
 ·rw[yI (ne b _ e λ_ z=>nomatch z)];exact e
 ·by_cases a:b=P
  ·subst a;rw[i]at e;cases e;exact⟨more,yB⟩
  ·exact⟨#[],by rw[yI a,e];simp⟩
 ·by_cases a:b=P
  ·subst a;rw[yB]at e;cases e;exact j
  ·rw[yI a]at e;refine(I.hok b u e).stay (λc v g q=>f c v ?_ q) (λc q=>?_) λc k q=>?_
   ·rcases g with rfl|g
    ·exact a
    ·exact ne c _ g λ_ z=>nomatch z
   ·rw[yI (ne c _ q λ_ z=>nomatch z)];exact q
   ·rw[yI (ne c _ q λ_ z=>nomatch z)];exact q
def bXt{name qual:Str}{d:Arguments}{body:Expr}{r:cX1}{c P:Nat}{pos:Pos}{fl:Nat}{cl:List (Str×Nat)}{E:bYL->bYO->Prop}{Q:bYL->bYO->Prop}(I:Inv X pins σ H s)(N:closureFor r X.env=pure cl)(j:X.env.code= .ref c) (C:cXR X.base c P) (hB:X.base.BuiltinsAt X.mg P) (hT:Y9 pos qual P H) (hq:∀ (q f:Nat)(g:bYL)(L:Hp)(s':bYO),Inv X pins σ L s'->H q=none->L q=some (bWP q (cX0 name qual d body r cl ((X.mg "__name__").getD .none) f g))->L f=some (aKT f qual)->Y9 pos qual P L->x3 H L->Q (.ref q) s'): bYT (bYV X.prog X.w) X.A (makeFunction name qual d (.expr body) r X.env [] [] [] pos fl) Q E s:=by
 have V:s.heap.Ns cQj X.mg:=I.ok.mod.glob.keeps I.bk;have hC:=C.keeps I.bk;obtain⟨bm,ob,b1,b2,b3,b4,b5,b6⟩:=hB;have F:s.heap.BuiltinsAt X.mg P:=⟨bm,ob,b1,b2,b3,b4,I.bk _ _ b5,b6⟩;rcases hT with p|⟨f,p,K⟩
 ·have l:s.heap.get? P=some (cZk #[]):=I.hok P _ p;have a2:cQj≠P:=λz=>by
   obtain⟨o,es,ep,e,hd,_⟩:=V;rw[z,l]at e;cases e;cases hd
  refine PySem.W.kla_makeFunction (mg:=X.mg) N I.ok.glob V j hC l aVw rfl a2 F λf g h tk M i G B x=>?_;have T:=I.tab (t':=tk) p M x;have y:P≠f:=cQc (cQe (bYZ l) i);have Z:H f=none:=I.hok.fresh i;have O:upd H P (.tbl (#[]++ #[cQ3 pos.line,cQ3 pos.col,.ref f])) f=none:=by rw[yI (cQu y)];exact Z
  have I2:Inv X pins σ (upd (upd H P (.tbl (#[]++ #[cQ3 pos.line,cQ3 pos.col,.ref f]))) f (aKT f qual)) {s with heap:=h,toks:=tk}:=by
   have a3:cJl P s.heap h:=M;have U:∀b,H b=none->b≠P:=λb n z=>by rw[z,p]at n;cases n
   have ne:∀b o,H b=some o->(∀ps,o≠ .tbl ps)->b≠P:=λb o e n z=>by subst z;rw[p]at e;cases e;exact n _ rfl
   have a1:∀b o,s.heap.get? b=some o->b≠f:=λb o e=>cQc (cQe (bYZ e) i);have S:∀b,b≠P->b≠f->upd (upd H P (.tbl (#[]++ #[cQ3 pos.line,cQ3 pos.col,.ref f]))) f (aKT f qual) b=H b:=λb Y h2=>by rw[yI h2,yI Y]
   have hl:∀b u,H b=some u->b≠f:=λb u e=>yJ e Z;refine I.un (t':=tk) ⟨λb o e n _ _=>M b o (U b n) e,λb o e n _ _=>⟨o.slots,M b o (U b n) e⟩,λb o e n _=>by rw[S b (U b n) (a1 b o e)];exact n,λb o e _=>?_,λb xs e=>?_,λb o u e=>?_,λb qs e=>?_⟩ λb u e=>?_
   ·by_cases J:b=P
    ·exact⟨_,by rw[J];exact x⟩
    ·exact⟨o,M b o J e⟩
   ·rw[S b (ne b _ e λ_ z=>nomatch z) (hl b _ e)];exact e
   ·rw[S b (ne b _ e λ_ z=>nomatch z) (hl b _ e)];exact e
   ·by_cases J:b=P
    ·subst J;rw[p]at e;cases e;exact⟨_,by rw[yI y];exact yB⟩
    ·exact⟨#[],by rw[S b J (hl b _ e),e];simp⟩
   ·by_cases D:b=f
    ·subst D;rw[yB]at e;cases e;exact bQ9 B
    ·rw[yI D]at e;refine(T.hok b u e).stay (λc v _ q=>q) (λc q=>?_) λc xs q=>?_
     ·rw[yI (yJ q O)];exact q
     ·rw[yI (yJ q O)];exact q
  have m:H h.objs.size=none:=I.hok.fresh (cQo i (cZo G));have I3:=I2.laid (a:=h.objs.size) (o:=bWP h.objs.size (cX0 name qual d body r cl ((X.mg "__name__").getD .none) f g)) (t':=tk) (h':=h.push (cX0 name qual d body r cl ((X.mg "__name__").getD .none) f g))
   (λb o e=>bYQ _ e) (bYS _) (aYz (cQg _ rfl))
  have R:f≠h.objs.size:=cQc G;have a0:P≠h.objs.size:=cQc (bYZ x);refine hq h.objs.size f g _ _ I3 m yB (by rw[yI R];exact yB) (.inr ⟨f,by rw[yI a0,yI y];exact yB,by rw[yI R];exact yB⟩) λb o n e=>?_;have Y:b≠P:=λz=>by subst z;rw[p]at e;cases e;exact n _ rfl
  rw[yI (yJ e m),yI (yJ e Z),yI Y];exact e
 ·have l:s.heap.get? P=some (cZk (#[]++ #[cQ3 pos.line,cQ3 pos.col,.ref f])):=I.hok P _ p;refine PySem.W.kla_makeFunctionHit (mg:=X.mg) N I.ok.glob V j hC l aVx aKM F λg h tk hk i=>?_;have T:Inv X pins σ H {s with heap:=h,toks:=tk}:=I.kept hk;have m:H h.objs.size=none:=T.hok.fresh (bYS _);have I3:=T.laid (a:=h.objs.size) (o:=bWP h.objs.size (cX0 name qual d body r cl ((X.mg "__name__").getD .none) f g)) (t':=tk) (h':=h.push (cX0 name qual d body r cl ((X.mg "__name__").getD .none) f g))
   (λb o e=>bYQ _ e) (bYS _) (aYz (cQg _ rfl))
  have k:=yG m (bWP h.objs.size (cX0 name qual d body r cl ((X.mg "__name__").getD .none) f g));exact hq h.objs.size f g _ _ I3 m yB (k _ _ K) (.inr ⟨f,k _ _ p,k _ _ K⟩) k.t
end
end L2
namespace Stree
open PySem PySem.W PySem.Calls PyProof.Rows
def aQh{α:Type}(p q:α->Bool):∀ (l:List α),(∀a∈l,p a=true->q a=true)->(∃a∈l,p a=false/\q a=true)->l.countP p<l.countP q
 |[],_,h=>by obtain⟨a,b,_⟩:=h;cases b
 |x::r,hs,h=>by
  have e:r.countP p<=r.countP q:=List.countP_mono_left λa b=>hs a (bYX _ b);obtain⟨a,b,c,d⟩:=h;rcases bYU.mp b with rfl|b
  ·rw[cJo,cJo,c,d];simp;omega
  ·have g:=aQh p q r (λa b=>hs a (bYX _ b)) ⟨a,b,c,d⟩;rw[cJo,cJo];have:=hs x bY0;cases f:p x with
   |false=>cases q x<;> simp<;> omega
   |true=>rw[this f];simp;omega
def aJ4{n:Nat}(lt:Nat->Nat->Bool)(g:∀i,i<n->lt i i=false)(p:∀i j k,i<n->j<n->k<n->lt i j=true->lt j k=true->lt i k=true)(f:∀i j,i<n->j<n->i≠j->lt i j=true\/lt j i=true): ∃r:Nat->Int,Inj n r/\∀i j,i<n->j<n->decide (r i<r j)=lt i j:=by
 refine⟨λi=>((bYY n).countP λm=>lt m i:Nat),?_,?_⟩
 ·have up:∀i j,i<n->j<n->lt i j=true->((bYY n).countP λm=>lt m i)<((bYY n).countP λm=>lt m j):=λi j a b h=>
   aQh _ _ _ (λm o d=>p m i j (cQn.mp o) a b d h) ⟨i,cQn.mpr a,g i a,h⟩
  intro i j a b e;by_cases c:i=j
  ·exact c
  ·exfalso;have q:(((bYY n).countP λm=>lt m i:Nat):Int)=((bYY n).countP λm=>lt m j:Nat):=e;rcases f i j a b c with h|h
   ·have:=up i j a b h;omega
   ·have:=up j i b a h;omega
 ·intro i j a b;have up:∀i j,i<n->j<n->lt i j=true->((bYY n).countP λm=>lt m i)<((bYY n).countP λm=>lt m j):=λi j a b h=>
   aQh _ _ _ (λm o d=>p m i j (cQn.mp o) a b d h) ⟨i,cQn.mpr a,g i a,h⟩
  cases h:lt i j with
  |true=>have:=up i j a b h;exact decide_eq_true (by show(((bYY n).countP λm=>lt m i:Nat):Int)<((bYY n).countP λm=>lt m j:Nat);omega)
  |false=>
   refine decide_eq_false ?_;show ¬ (((bYY n).countP λm=>lt m i:Nat):Int)<((bYY n).countP λm=>lt m j:Nat);by_cases c:i=j
   ·subst c;omega
   ·rcases f i j a b c with l|l
    ·rw[h]at l;cases l
    ·have:=up j i b a l;omega
section
variable {prog:bY7}{w:cQf}{A:cQt}{E:bYL->bYO->Prop}{s:bYO}
def aXD{r:Nat}{n:Nat}{t u v:Tok}{Q:List bYL->bYO->Prop}(O:A.handled=none)(K:IsRange s.heap r 0 n 1 t u v)(V:n<64) (M:∀m tk H,(∀b o,s.heap.get? b=some o->m.get? b=some o)->s.heap.objs.size<m.objs.size->cZi H ((bYY n).map Int.ofNat)->Q H {s with heap:=m,toks:=tk}):bYT (bYV prog w) A (collect (.ref r)) Q E s:=by
 have I:Builtin.Range.rangeSize 0 n 1=(n:Int):=by rw[rangeSize_one];split<;> omega
 have C:Builtin.Range.small 0 n 1=true:=small_one (by decide) (by decide) (by omega) (by omega);unfold collect;refine bYN (wpAny_runValue (cX2 F.entry_proto_collect ?_));rw[cXH F.plain_proto_collect _];show bYT _ A.in1 (newList [] >>=λl=>again (.builtin "list.__iadd__" ⟨[l,.ref r],[]⟩)) _ _ s;refine bYN (cXL ?_);refine bYR ⟨cZ2 F.plain_list_iadd _,cX2 F.entry_list_iadd ?_⟩;rw[cXH F.plain_list_iadd _];have d:(s.heap.push {cls:= .type "list",data:= .seq ([]:List bYL).toArray}).get? s.heap.objs.size=some {cls:= .type "list",data:= .seq ([]:List bYL).toArray}:=cQg _ rfl;show bYT _ A.in1 (cZP (.ref s.heap.objs.size) (.ref r) (.ref s.heap.objs.size)) _ _ _;refine cQP (wpAny_extend_range (A:=A) (R:=λq y=>q= .ok (.ret (.ref s.heap.objs.size))/\∃a g,y.heap.get? s.heap.objs.size=some {cls:= .type "list",dict:=none,data:= .seq a g,slots:= #[] }/\Q a.toList y) (s:={s with heap:=s.heap.push {cls:= .type "list",data:= .seq ([]:List bYL).toArray} }) O (bYQ _ K) C I (by omega) s.heap.objs.size (.ref s.heap.objs.size) 0 d λm tk a g J j c=>⟨rfl,a,g,j,?_⟩) (λfin y B=>?_) λe y P=>by obtain⟨z,_⟩:=P;cases z
 rotate_left
 ·cases fin with
  |done f=>
   obtain⟨e,a,g,p,h⟩:=B;have U:f= .ret (.ref s.heap.objs.size):=by cases e;rfl
   subst U;exact bYN (wpAny_load p (bYR h))
  |again g=>
   exact⟨B.1,cXE B.2 λq L T=>by
    obtain⟨rfl,a,g,p,h⟩:=T;exact bYN (wpAny_load p (bYR h))⟩
 refine M m tk a.toList (λb o e=>J b o (cQc (bYZ e)) (bYQ _ e)) (bYZ j) ?_;have len:a.toList.length=n:=by rw[cQ8];exact c.1
 have all:∀ (k:Nat)(l:List bYL),l.length<=n->k+l.length=n->(∀i v,l[i]? =some v->∃t,v=Value.int ((k+i:Nat):Int) t)->cZi l ((List.range' k l.length).map Int.ofNat):=by
  intro k l;induction l generalizing k with
  |nil=>intro _ _ _;exact .nil
  |cons x l S=>
   intro p h G;obtain⟨t,rfl⟩:=G 0 x rfl;rw[cQK,List.range'_succ,cQy];exact .cons _ _ (S (k+1) (by rw[cQK]at p;omega) (by rw[cQK]at h;omega) λi v D=>by
    obtain⟨N,e⟩:=G (i+1) v D;exact⟨N,by rw[e,show k+(i+1)=k+1+i by omega]⟩)
 have z:=all 0 a.toList (by omega) (by omega) λi v D=>by obtain⟨t,e⟩:=c.2 i v (by rw[<- cXk];exact D);exact⟨t,by rw[e,show(0:Int)+(i:Int)*1=((0+i:Nat):Int) by omega]⟩
 rw[len]at z;rw[List.range_eq_range'];exact z
def aJa{r:Nat}{n:Nat}{t u v:Tok}{b:Bool}{f:bYL}{i:List (Str×bYL)}{Q:bYL->bYO->Prop}(G:A.handled=none)(F:IsRange s.heap r 0 n 1 t u v)(D:n<64) (l:argsOk "sorted" ⟨[.ref r],i⟩) (q:∀x,argsOk "list.sort" ⟨[.ref x],i⟩) (C:∀x,cXy.«list.sort» ⟨[.ref x],i⟩=ksk_tree x f b) (h:∀a c tk d,(∀b o,s.heap.get? b=some o->c.get? b=some o)->s.heap.objs.size<=a->c.get? a=some (cQB "list" d.toArray 0)->cZi d ((bYY n).map Int.ofNat)-> bYT (bYV prog w) A.in1.in1 (ksk_tree a f b) (λfin z=>fin= .done (.ret .none)/\Q (.ref a) z) (λ_ _=>False) {s with heap:=c,toks:=tk}): bYT (bYV prog w) A (call (.builtin "sorted") [.ref r] i) Q E s:=by
 refine call_function_entry_kw kind_sorted plain_sorted entry_sorted l ?_;unfold cXy.«sorted»;refine bYN (m:=checkCount "sorted" 1 1 _) (bYR ?_);refine bYN (aXD (A:=A.in1) (by simpa using G) F D λc tk d B j y=>?_);have H:d.length=n:=by rw[y.length];simp
 refine bYN (cZ4 ?_ (by rw[cQk];omega));have g:(c.push (cQB "list" d.toArray 0)).get? c.objs.size=some (cQB "list" d.toArray 0):=cQg _ rfl;have k:s.heap.objs.size<=c.objs.size:=cZo j;refine bYN (cQ6 (wpAny_call_entry_kw slot_list_sort ⟨_,g,rfl⟩ entry_list_sort ?body (q _)));case body=>
  show bYT (bYV prog w) A.in1.in1 (cXy.«list.sort» ⟨[.ref c.objs.size],i⟩) _ _ _;rw[C c.objs.size];refine cQP (h c.objs.size (c.push (cQB "list" d.toArray 0)) tk d (λb o e=>bYQ _ (B b o e)) k g y) (λfin z p=>?_) λ_ _ x=>x.elim;obtain⟨rfl,p⟩:=p;exact⟨_,rfl,bYR ⟨_,rfl,p⟩⟩
end
end Stree
namespace Stree
open PySem PySem.W PySem.Calls PyProof.Rows
def wG(a b:Int×Int):Bool:=decide (a.1<b.1) || (decide (a.1=b.1) && decide (a.2<b.2))
def wZ(a:Int×Int):wG a a=false:=by simp[wG]
def aXM{a b c:Int×Int}(d:wG a b=true)(e:wG b c=true):wG a c=true:=by
 simp only[wG,Bool.or_eq_true,Bool.and_eq_true,decide_eq_true_eq]at d e ⊢;omega
def aXL{a b:Int×Int}(h:a≠b):wG a b=true\/wG b a=true:=by
 have c:¬ (a.1=b.1/\a.2=b.2):=λ⟨x,y⟩=>h (Prod.ext x y);simp only[wG,Bool.or_eq_true,Bool.and_eq_true,decide_eq_true_eq];omega
section
variable {prog:bY7}{w:cQf}{A:cQt}{E:bYL->bYO->Prop}{s:bYO}
def aJC{a c:Int}{t t':Tok}{Q:Bool->bYO->Prop}(h:Q (a==c) s):bYT (bYV prog w) A (eqBool (.int a t) (.int c t')) Q E s:=
 (L2.bZ9 (A:=A) (s:=s) (y:= .int a) (x:= .int c) ⟨t,rfl⟩ ⟨t',rfl⟩ rfl rfl) prog w E Q h
def aYs{x y:Nat}{i f:Obj}{n k:Nat}{a b c d:Int}{p l o r:Tok}{Q:Bool->bYO->Prop}(q:s.heap.get? x=some i)(dx:i.data= .seq #[.int a p,.int b l] n)(t:s.heap.get? y=some f)(j:f.data= .seq #[.int c o,.int d r] k) (h:Q (wG (a,b) (c,d)) s):bYT (bYV prog w) A (keyLt' (tuples' true) (.ref x) (.ref y)) Q E s:=by
 refine kat_lt q dx t j ?_;refine kat_cons (aJC ?_);unfold wG at h;by_cases e:a=c
 ·subst e;simp only[Int.lt_irrefl,decide_false,Bool.false_or,decide_true,Bool.true_and]at h;rw[beq_self_eq_true];refine kat_yes (kat_cons (aJC ?_));by_cases g:b=d
  ·subst g;rw[beq_self_eq_true];refine kat_yes (kat_nil ?_);simpa using h
  ·rw[beq_eq_false_iff_ne.mpr g];refine kat_no (kat_one _ _ ?_);exact lt_int h
 ·rw[beq_eq_false_iff_ne.mpr e];have m:Q (decide (a<c)) s:=by
   have:decide (a=c)=false:=decide_eq_false e;simpa[this]using h
  refine kat_no ?_;exact oneLt_int m
end
end Stree
namespace L2
open PySem PySem.Spec PyProof.Rows
def ixb(b:Bool)(n i:Nat):Nat:=if b=true then n - 1 - i else i
def aZF{b:Bool}{n i:Nat}(h:i<n):ixb b n i<n:=by unfold ixb;split<;> omega
def bJZ{b:Bool}{n i j:Nat}(a:i<n)(c:j<n)(h:ixb b n i=ixb b n j):i=j:=by unfold ixb at h;split at h<;> omega
def aXT{α:Type}{b:Bool}{l:List α}{n i:Nat}{d:α}(a:l.length=n)(c:i<n):(cQ0 b l).getD i d=l.getD (ixb b n i) d:=by
 unfold cQ0 ixb;split
 ·simp only[cQv];rw[List.getElem?_reverse (by omega),a]
 ·rfl
def bWX{n:Nat}{b:Bool}{a:Nat->Int×Int}{r:Nat->Int}{p:List Nat}(l:p.Perm (bYY n))(g:p.Pairwise λi j=>r i<r j)(k:∀i j,i<n->j<n->decide (r i<r j)=Stree.wG (a (ixb b n i)) (a (ixb b n j))): (cQ0 b (p.map (ixb b n))).Perm (bYY n)/\(cQ0 b (p.map (ixb b n))).Pairwise λi j=>Stree.wG (if b=true then a j else a i) (if b=true then a i else a j)=true:=by
 have f:(p.map (ixb b n)).Pairwise λi j=>Stree.wG (a i) (a j)=true:=by rw[cJg];have m:∀i∈p,i<n:=λi c=>cQn.mp (l.mem_iff.mp c);refine g.imp_of_mem λ{i j} c hj h=>?_;rw[<- k i j (m i c) (m j hj)];exact decide_eq_true h
 have d:=l.map (ixb b n);cases b with
 |false=>
  have e:ixb false n=id:=by funext i;rfl
  rw[e]at d f ⊢;rw[List.map_id,List.map_id]at d;rw[List.map_id]at f ⊢;exact⟨d,f⟩
 |true=>
  have e:(bYY n).map (ixb true n)=(bYY n).reverse:=by
   apply cX3;intro i;by_cases c:i<n
   ·rw[bY5,cXO c,List.getElem?_reverse (by simpa using c),cQE,cXO (by omega)];rfl
   ·rw[cQl (by simp;omega),cQl (by simp;omega)]
  rw[e]at d;refine⟨(List.reverse_perm _).trans (d.trans (List.reverse_perm _)),?_⟩;show((p.map (ixb true n)).reverse).Pairwise _;rw[List.pairwise_reverse];exact f
def bJB(H:Hp)(b:Nat->Int×Int)(c:List bYL):Prop:=∀i v,c[i]? =some v->∃a,v= .ref a/\H a=some (.tup [.int (b i).1,.int (b i).2])
def bZP(te:TE)(fr:List Nat)(tb:TE)(P:Nat)(lpos:Pos)(qual:Str)(b:Bool):TE:=λσ H Q=>te σ H λv e=>∃n:Nat,v= .int n/\n<64/\Y9 lpos qual P e/\∃kz:Nat->Int×Int,
 (∀i j,i<n->j<n->kz i=kz j->i=j)/\
 (∀i c,i<n->x3 e c->Y9 lpos qual P c->∀R:VK,(∀a d,x3 c d->d P=c P->d a=some (.tup [.int (kz i).1,.int (kz i).2])->R (.ref a) d)->tb (sub σ fr (some (.int i))) c R)/\
 ∀H5 l (out:List Nat),x3 e H5->Y9 lpos qual P H5->e l=none->out.Perm (bYY n)->(out.Pairwise λi j=>Stree.wG (if b=true then kz j else kz i) (if b=true then kz i else kz j)=true)->H5 l=some (.lst (out.map λi=> .int (i:Nat)))->Q (.ref l) H5
def Y9.keep{lpos:Pos}{qual:Str}{P:Nat}{H a:Hp}(t:Y9 lpos qual P H)(k:x3 H a)(e:a P=H P):Y9 lpos qual P a:=by
 rcases t with t|⟨c,b,d⟩
 ·exact .inl (e.trans t)
 ·exact .inr ⟨c,e.trans b,k.ext d⟩
section
variable {X:Cx}{e body:Expr}{te tb:TE}{x:Str}{names:List Str}{fr:List Nat}{sc:cX1}{params:Arguments}{qual:Str}{p p2 p3 pos lpos kp kp2 bp:Pos}{j:Nat}{b:Bool}{c P:Nat}{k:Nat}
def aKe(d6:Gl X "sorted")(f9:X.mg "sorted"=none)(f6:Gl X "range")(e9:X.mg "range"=none)(he:PE X e te)(S:xN X.N X.env.scope x names fr sc)(e7:sc.isCoroutine=false)(b7:sc.isGenerator=false)
  (a9:X.env.code= .ref c) (C:cXR X.base c P) (hB:X.base.BuiltinsAt X.mg P) (hr:vW (k+1) X.A) (b6:defaultsOf params X.env=([],[])) (hq:X.env.qual++"<lambda>"=qual)
  (hb:∀ (cl:List (Str×Nat))(pm d7 b0 u:bYL),cZt (PySem.W.kla_fn "<lambda>" qual params body sc cl pm d7 b0) ⟨[u],[]⟩=pure [(x,u)])
  (b2:∀A L q cd cl s H,PE (bKz X A (x::names) qual sc L q cd cl s H) body tb) (b1:cQw "sorted"=some (.builtin "sorted"):=dk)
  (s2:cQr [e] X.env= [(false,eval e X.env)]:=by rfl):
  PE X (.Call (.Name "sorted" p) [.Call (.Name "range" p2) [e] [] p3] [⟨some "key",.Lambda params body sc lpos,kp⟩,⟨some "reverse",.Constant (.bool b) j bp,kp2⟩] pos) (bZP te fr tb P lpos qual b):=by
 intro g s σ H Q I h
 refine cXq (aXp I d6 f9 b1 ?_)
 refine callWith_kw ?_
 show bYT _ _ (spliced ((false,eval (.Call (.Name "range" p2) [e] [] p3) X.env):: [])) _ _ s
 refine Calls.spliced_cons ?_
 refine cXq (aXp I f6 e9 boot_range ?_)
 refine cZQ ?_ s2 rfl
 refine thn (yA he yD s2 p3 g s σ H (λvs H1=>match vs with|[v]=>(∃n:Nat,v= .int n/\n<64/\Y9 lpos qual P H1/\∃kz:Nat->Int×Int,
   (∀i j,i<n->j<n->kz i=kz j->i=j)/\
   (∀i D,i<n->x3 H1 D->Y9 lpos qual P D->∀R:VK,(∀a Y,x3 D Y->Y P=D P->Y a=some (.tup [.int (kz i).1,.int (kz i).2])->R (.ref a) Y)->tb (sub σ fr (some (.int i))) D R)/\
   ∀H5 l (out:List Nat),x3 H1 H5->Y9 lpos qual P H5->H1 l=none->out.Perm (bYY n)->(out.Pairwise λi j=>Stree.wG (if b=true then kz j else kz i) (if b=true then kz i else kz j)=true)->H5 l=some (.lst (out.map λi=> .int (i:Nat)))->Q (.ref l) H5)|_=>False) I h) λus s1 ⟨vs,H1,I1,r1,z⟩=>?_
 match vs,z with
 |[v],⟨n,e2,hn,hT,kz,hinj,hkey,hfin⟩=>
  subst e2;obtain⟨u,rfl,ru⟩:=aQ6 r1;obtain⟨t,rfl⟩:=ru;refine call_range_1 (Calls.spliced_nil ?_);have fR:=I1.fpOk (b:=s1.heap.objs.size) (bYS _) I1.fresh;have I2:Inv X ((s1.heap.objs.size,{cls:= .type "range",data:= .fields #[.int 0 s1.toks,.int (n:Int) t,.int 1 (s1.toks+1)] })::g) σ H1 {s1 with heap:=s1.heap.push {cls:= .type "range",data:= .fields #[.int 0 s1.toks,.int (n:Int) t,.int 1 (s1.toks+1)] },toks:=s1.toks+1+1}:=by
   have I0:Inv X g σ H1 {s1 with heap:=s1.heap.push {cls:= .type "range",data:= .fields #[.int 0 s1.toks,.int (n:Int) t,.int 1 (s1.toks+1)] },toks:=s1.toks+1+1}:=I1.kept λb o e=>bYQ _ e;refine I0.pins_of λq hq=>?_;rcases bYU.mp hq with rfl|hq
   ·exact⟨cQg _ rfl,fR.1,fR.2.1,fR.2.2.1,λv z=>by cases z⟩
   ·exact I0.pin q (bY9 _ hq)
  obtain⟨cl,c1,c2,c4⟩:=aJJ S I2;refine kws_cons (PySem.W.kla_eval b6 ?_);rw[hq];refine bXt I2 c1 a9 C hB hT λq c' b0 H' s' I3 g8 f5 a7 f4 c8=>?_;refine kws_cons (Constant_bool (kws_nil ?_));show bYT _ _ (call (.builtin "sorted") [.ref s1.heap.objs.size] [(cJc "key",.ref q),(cJc "reverse",.bool b)]) _ _ s';have a3:IsRange s'.heap s1.heap.objs.size 0 n 1 s1.toks t (s1.toks+1):=(I3.pin _ (bY9 _ (bY0 ..))).1;have I4:Inv X g σ H' s':=I3.pins_of λp G=>I3.pin p (bY9 _ (bYX _ G));refine Stree.aJa hr.hd a3 hn (ksk_s2 _ _ _) (λx=>ksk_l2 _ _ _) (λx=>ksk_t2 q x b) λa M tk vs hk a1 ha hI=>?_;have a0:vs.length=n:=by rw[hI.length];simp
  have I5:Inv X g σ H' {s' with heap:=M,toks:=tk}:=I4.kept hk;have Z:=I4.fpOk (b:=a) a1 (I4.hok.fresh a1);have c7:a<M.objs.size:=bYZ ha;have c0:s'.heap.objs.size<=M.objs.size+1:=cQo a1 (cZo (cQV c7));have O:=I4.fpOk (b:=M.objs.size+1) c0 (I4.hok.fresh c0);refine Stree.bKh (s:={s' with heap:=M,toks:=tk}) ha (by rw[a0];exact hn) (λe1 w U=>∃ (D:Hp)(e:Nat),Inv X ((a,cQB "list" #[] e1)::(M.objs.size+1,cQB "list" w.toArray e)::g) σ D U/\x3 H' D/\Y9 lpos qual P D/\bJB D kz w) ?h0 ?hget ?hcall ?hend;case h0=>
   intro e1 h2 k2 a2 q2;have I6:Inv X g σ H' {s' with heap:=h2,toks:=tk}:=I5.turned (t':=tk) (h':=h2) (λb o hb e=>k2 b o hb e) Z.1 Z.2.1 Z.2.2.2.1 Z.2.2.2.2.1 Z.2.2.2.2.2;refine⟨H',0,I6.pins_of λp G=>?_,x3.refl _,f4,λi v B=>by simp at B⟩;rcases bYU.mp G with rfl|G
   ·exact⟨a2,Z.1,Z.2.1,Z.2.2.1,λv z=>by cases z⟩
   ·rcases bYU.mp G with rfl|G
    ·exact⟨q2,O.1,O.2.1,O.2.2.1,λv z=>by cases z⟩
    ·exact I6.pin p (bY9 _ G)
  case hget=>
   rintro e1 w U ⟨D,e,J,_,_,_⟩;exact⟨⟨e,(J.pin _ (bY9 _ (bYX _ (bY0 ..)))).1⟩,(J.pin _ (bY9 _ (bY0 ..))).1⟩
  case hcall=>
   rintro e1 w U v ⟨D,e,J,k3,t3,z3⟩ B;have F:w.length<n:=by
    rcases cZN w.length vs.length with h|h
    ·omega
    ·rw[cQl h]at B;cases B
   obtain⟨t',rfl⟩:∃t',v=Value.int (w.length:Nat) t':=by
    have r:=jE hI;have e3:((((bYY n).map Int.ofNat)).map V.int)[w.length]? =some (V.int (w.length:Nat)):=by simp[F]
    obtain⟨u,hu,ru⟩:=r.get e3;rw[B]at hu;cases hu;exact ru
   have d9:U.heap.get? q=some (cX0 "<lambda>" qual params body sc cl ((X.mg "__name__").getD .none) c' b0):=(J.hok q _ (k3.ext f5)).1;have b3:U.heap.CodeRec (.ref c') qual:=(J.hok c' _ (k3.ext a7)).1;refine cQP (bXs (A:=X.A.in1.in1) J I.ok.frames hr.hd (by have:=hr.dp;show X.A.depth<_;omega) S e7 b7 c2 c4 d9 b3 (λu=>hb cl _ _ _ u) (λA L cd s H=>b2 A L q cd cl s H) (v:= .int (w.length:Nat)) ⟨t',rfl⟩ (Q:=λv Y=>∃a4,v= .ref a4/\x3 D Y/\Y P=D P/\Y a4=some (.tup [.int (kz w.length).1,.int (kz w.length).2])) (hkey w.length D F (c8.trans k3) t3 _ λa4 Y k4 p4 e4=>⟨a4,rfl,k4,p4,e4⟩)) (λkv s4 d5=>?_) λ_ _ x=>x;obtain⟨v4,Y,J4,e5,a4,rfl,k4,p4,e4⟩:=d5;cases e5;refine⟨⟨e,(J4.pin _ (bY9 _ (bYX _ (bY0 ..)))).1⟩,λh5 c5 sb g6=>?_⟩;have e8:Inv X g σ Y s4:=J4.pins_of λp G=>J4.pin p (bY9 _ (bYX _ (bYX _ G)));have pa:=J4.pin _ (bY9 _ (bY0 ..));have pk:=J4.pin _ (bY9 _ (bYX _ (bY0 ..)));have J5:Inv X g σ Y {s4 with heap:=h5,toks:=s4.toks}:=e8.turned (t':=s4.toks) (h':=h5) (it:=M.objs.size+1) (λb o hb e=>(sb.2 b hb).trans e) pk.2.1 O.2.1 O.2.2.2.1 O.2.2.2.2.1 O.2.2.2.2.2;refine⟨Y,c5,J5.pins_of λp G=>?_,k3.trans k4,t3.keep k4 p4,λi v B=>?_⟩
   ·rcases bYU.mp G with rfl|G
    ·exact⟨(sb.2 _ (cQc (cQV c7))).trans pa.1,pa.2⟩
    ·rcases bYU.mp G with rfl|G
     ·exact⟨g6,pk.2.1,O.2.1,O.2.2.1,λv z=>by cases z⟩
     ·exact J5.pin p (bY9 _ G)
   ·by_cases f7:i<w.length
    ·rw[cQs f7]at B;obtain⟨a6,e6,h6⟩:=z3 i v B;exact⟨a6,e6,k4.tup h6⟩
    ·rw[cQb (by omega)]at B;have:i - w.length=0:=by
      rcases cZN (i - w.length) 1 with h|h
      ·omega
      ·rw[cQl (by simpa using h)]at B;cases B
     have ei:i=w.length:=by omega
     subst ei;simp at B;exact⟨a4,B.symm,e4⟩
  case hend=>
   rintro e1 w U ⟨D,e,J,k3,t3,z3⟩ hl;have J':Inv X g σ D U:=J.pins_of λp G=>J.pin p (bY9 _ (bYX _ (bYX _ G)));have b8:w.length=n:=by omega
   obtain⟨r,g4,b4⟩:=Stree.aJ4 (n:=n) (λi j=>Stree.wG (kz (ixb b n i)) (kz (ixb b n j))) (λi _=>Stree.wZ _) (λi j k _ _ _ M h2=>Stree.aXM M h2)
    (λi j F hj e0=>Stree.aXL λz=>e0 (bJZ F hj (hinj _ _ (aZF F) (aZF hj) z)))
   have ob:∀i,i<n->∃a o t1 t2 m,w.getD i Value.none= .ref a/\U.heap.get? a=some o/\o.cls= .type "tuple"/\o.data= .seq #[.int (kz i).1 t1,.int (kz i).2 t2] m:=λi F=>by obtain⟨a6,e6,h6⟩:=z3 i (w.getD i Value.none) (by simp[cQv,bYK (show i<w.length by omega)]);obtain⟨g7,rv,pl,_⟩:=J'.tuple (SqT.of h6);obtain⟨u1,u2,rfl,r1,r2⟩:=xW.two rv;obtain⟨t1,rfl⟩:=r1;obtain⟨t2,rfl⟩:=r2;obtain⟨o,g1,g2,m,g3⟩:=pl;exact⟨a6,o,t1,t2,m,e6,g1,g2,g3⟩
   refine⟨r,by rw[a0];exact g4,λ_=>⟨tuples' true,λQ' c9=>?_,λi j C' F hj hC=>?_⟩,λp h5 c5 c6 a8 d8 k5 g5 o5=>?_⟩
   ·have c3:∀ (l:List bYL)(k:Nat),(∀ (i:Nat)(v:bYL),l[i]? =some v->∃a o t1 t2 m x y,v=Value.ref a/\U.heap.get? a=some o/\o.cls= .type "tuple"/\o.data= .seq #[.int x t1,.int y t2] m)->
      ∃fs,cVe U.heap l fs/\fs.length=l.length/\∀f∈fs,∃x t,f=Value.int x t:=by
     intro l
     induction l with
     |nil=>intro _ _;exact⟨[],trivial,rfl,λf hf=>by cases hf⟩
     |cons v l ih=>
      intro k B;obtain⟨a,o,t1,t2,m,x,y,rfl,g1,g2,g3⟩:=B 0 v rfl;obtain⟨fs,f1,f2,f3⟩:=ih (k+1) λi v h=>B (i+1) v h;refine⟨.int x t1::fs,cJz g1 g2 g3 rfl f1,by simp[f2],λf hf=>?_⟩;rcases bYU.mp hf with rfl|hf
      ·exact⟨x,t1,rfl⟩
      ·exact f3 f hf
    obtain⟨fs,f1,f2,f3⟩:=c3 w 0 λi v B=>by
     have F:i<n:=by
      rcases cZN i w.length with h|h
      ·omega
      ·rw[cQl h]at B;cases B
     obtain⟨a,o,t1,t2,m,g0,g1,g2,g3⟩:=ob i F;have:w.getD i Value.none=v:=by simp[cQv,B]
     rw[this]at g0;exact⟨a,o,t1,t2,m,_,_,g0,g1,g2,g3⟩
    refine PySem.W.kat_kind (T:= .type "int") f1 (by omega) (λv B=>?_) rfl c9;obtain⟨x,t,rfl⟩:=f3 v B;exact .now
   ·rw[a0]at F hj;obtain⟨ai,oi,t1,t2,m1,g0,g1,g2,g3⟩:=ob _ (aZF (b:=b) F);obtain⟨aj,oj,t3,t4,m2,d0,d1,d2,d3⟩:=ob _ (aZF (b:=b) hj);show bYT _ _ (keyLt' _ ((cQ0 b w).getD i Value.none) ((cQ0 b w).getD j Value.none)) _ _ _;rw[aXT b8 F,aXT b8 hj,g0,d0];refine Stree.aYs g1 g3 d1 d3 ?_;have:=b4 i j F hj;rw[this]at hC;exact hC
   ·rw[a0]at a8;obtain⟨q1,q2⟩:=bWX a8 d8 b4;have hm:∀i∈p,i<n:=λi F=>cQn.mp (a8.mem_iff.mp F);have vv:∀l:List Nat,(∀i∈l,i<n)->xW ((l.map (ixb b n)).map λi=>V.int (i:Nat)) (l.map λi=>(cQ0 b vs).getD i Value.none):=by
     intro l;induction l with
     |nil=>intro _;exact .nil
     |cons i l ih=>
      intro h;refine .cons ?_ (ih λj hj=>h j (bYX _ hj));have F:=h i bY0;show zO (V.int (ixb b n i:Nat)) ((cQ0 b vs).getD i Value.none);rw[aXT a0 F];have hx:=aZF (b:=b) F;have e3:((((bYY n).map Int.ofNat)).map V.int)[ixb b n i]? =some (V.int (ixb b n i:Nat)):=by simp[hx]
      obtain⟨u,hu,ru⟩:=(jE hI).get e3;have:vs.getD (ixb b n i) Value.none=u:=by simp[cQv,hu]
      rw[this];exact ru
    have v2:=vv p hm;have v3:xW ((cQ0 b (p.map (ixb b n))).map λi=>V.int (i:Nat)) (cQ0 b (p.map λi=>(cQ0 b vs).getD i Value.none)):=by
     unfold cQ0 at v2 ⊢;split
     ·rw[List.map_reverse];rename_i a5;simp only[a5]at v2 ⊢;exact v2.reverse
     ·rename_i a5;simp only[a5]at v2 ⊢;exact v2
    have na:D a=none:=(J.pin _ (bY9 _ (bY0 ..))).2.1;have nk:D (M.objs.size+1)=none:=(J.pin _ (bY9 _ (bYX _ (bY0 ..)))).2.1;have b5:(cQ0 b (p.map (ixb b n))).length=n:=by rw[q1.length_eq,cQE]
    have f0:Inv X g σ (upd D a (.lst ((cQ0 b (p.map (ixb b n))).map λi=>V.int (i:Nat)))) {U with heap:=h5,gens:=U.gens,drawn:=U.drawn,toks:=U.toks}:=by
     have K:∀d,d∉ [a,M.objs.size+1]->d≠a/\d≠M.objs.size+1:=λd E=>⟨λz=>E (by simp[z]),λz=>E (by simp[z])⟩;refine J'.step (ch:= [a,M.objs.size+1]) (λd E=>?_) (λd o _ _ E e _=>?_) (λd o _ _ E e _=>?_) (λd o E e n=>?_) (λd o E e=>?_) (λd xs e=>?_) (λd o u e=>?_) (λd qs e=>?_) (λm f8=>?_) (λd u e=>?_) J'.bare
     ·rcases bYU.mp E with rfl|E
      ·exact⟨Z.2.2.2.1,Z.2.1,Z.2.2.2.2.1,Z.2.2.2.2.2⟩
      ·rw[bY2.mp E];exact⟨O.2.2.2.1,O.2.1,O.2.2.2.2.1,O.2.2.2.2.2⟩
     ·exact(k5 d (K d E).1 (K d E).2).trans e
     ·exact⟨o.slots,(k5 d (K d E).1 (K d E).2).trans e⟩
     ·rw[yI (K d E).1];exact n
     ·exact⟨o,(k5 d (K d E).1 (K d E).2).trans e⟩
     ·rw[yI (yJ e na)];exact e
     ·rw[yI (yJ e na)];exact e
     ·exact⟨#[],by rw[yI (yJ e na),e];simp⟩
     ·obtain⟨o,es,ep,ho,r⟩:=f8;exact⟨o,es,ep,(k5 _ (cQu Z.2.1) (cQu O.2.1)).trans ho,r⟩
     ·by_cases E:d=a
      ·subst E;rw[yB]at e;cases e;exact⟨by rw[bYP,b5,cQk];omega,_,c6,v3,o5⟩
      ·rw[yI E]at e;refine(J'.hok d u e).stay (λc v hc q=>?_) (λc q=>by rw[yI (yJ q na)];exact q) λc xs q=>by rw[yI (yJ q na)];exact q
       have a7:c≠a:=by
        rcases hc with rfl|hc
        ·exact E
        ·exact yJ hc na
       have d4:c≠M.objs.size+1:=by
        rcases hc with rfl|hc
        ·exact yJ e nk
        ·exact yJ hc nk
       exact(k5 c a7 d4).trans q
    have b9:=yG na (.lst ((cQ0 b (p.map (ixb b n))).map λi=>V.int (i:Nat)));have hP:upd D a (.lst ((cQ0 b (p.map (ixb b n))).map λi=>V.int (i:Nat))) P=D P:=by
     rcases t3 with t|⟨_,t,_⟩
     ·rw[yI (yJ t na)]
     ·rw[yI (yJ t na)]
    have nl:H1 a=none:=by
     cases hz:H1 a with
     |none=>rfl
     |some o=>exact absurd (I1.hok.lt hz) (Nat.not_lt.mpr (cQo (cZo (bYZ a3)) a1))
    exact⟨rfl,.ref a,_,f0,rfl,hfin _ a _ (c8.trans (k3.trans b9.t)) (t3.keep b9.t hP) nl q1 q2 yB⟩
end
end L2
namespace Stree
open PySem PySem.W PySem.Calls PyProof.Rows
open PySem.SeqAt
open PySem.AutoSeq1 (wpAny_loadPart')
open PySem.MeetsSeq PySem.MeetsSeq2 PySem.MeetsSeq3
def W4{α:Type} [DecidableEq α] (lt:α->α->Bool):List α->List α->Bool
 |[],[]=>false
 |[],_::_=>true
 |_::_,[]=>false
 |x::xs,y::ys=>if x=y then W4 lt xs ys else lt x y
def aYq{α:Type} [DecidableEq α] {lt:α->α->Bool}(x y:α)(xs ys:List α):W4 lt (x::xs) (y::ys)=if x=y then W4 lt xs ys else lt x y:=rfl
def aJi{α:Type} [DecidableEq α] {lt:α->α->Bool}{rep:α->bYL->Prop}(l b:Nat)(items items2:Array bYL)(n S:Nat)(W H:Option Nat)(T G:Array (Option bYL))(xs ys:List α)(K:cQA rep xs items.toList)(L:cQA rep ys items2.toList): Meets (cXy.«tuple.__lt__» ⟨[.ref l,.ref b],[]⟩) (λA R s=>s.heap.get? l=some {cls:= .type "tuple",dict:=W,data:= .seq items n,slots:=T}/\s.heap.get? b=some {cls:= .type "tuple",dict:=H,data:= .seq items2 S,slots:=G}/\ (∀x y u v,rep x u->rep y v->EqAt A.in1 s u v (decide (x=y)))/\(∀x y u v,x≠y->rep x u->rep y v->∀ (prog:bY7)(w:cQf)(E:bYL->bYO->Prop)(Q:bYL->bYO->Prop),Q (.bool (lt x y)) s->bYT (bYV prog w) A.in1 (richCompare .Lt u v) Q E s)/\ R (.ok (.ret (.bool (W4 lt xs ys)))) s):=
 .of_wp λprog w A R s h=>by
  obtain⟨M,g,d,tk,N⟩:=s;obtain⟨hl,P,D,C,h⟩:=h;have Z:=AutoSeq1.sub_tuple_tuple;have z1:items.size=xs.length:=by have:=K.length;simpa using this.symm
  have z2:items2.size=ys.length:=by have:=L.length;simpa using this.symm
  wp_walk using wpAny_loadPart' hl,wpAny_loadPart' P,wpAny_forIn_list _ (λjX b J=>b.1=none/\J=⟨M,g,d,tk,N⟩/\∃ (t B:List bYL)(i j:List α),jX=t.zip B/\
   cQA rep i t/\cQA rep j B/\i.length+items2.size=j.length+items.size/\R (.ok (.ret (.bool (W4 lt i j)))) ⟨M,g,d,tk,N⟩) _
  case turn=>
   rintro⟨y,x⟩ jX b J ⟨o,rfl,t,B,i,j,k,p,m,f,hR⟩;cases p with
   |nil=>rw[List.zip_nil_left]at k;cases k
   |@cons a y' U V I q=>
    cases m with
    |nil=>rw[List.zip_nil_right]at k;cases k
    |@cons c x' X Y z r=>
     rw[List.zip_cons_cons]at k;injection k with hyx hrest
     injection hyx with hy hx
     subst hy hx;rw[aYq]at hR;simp only[cQK]at f;refine bYN (D a c _ _ I z prog w _ _ ?_);by_cases e:a=c
     ·rw[if_pos e]at hR;rw[decide_eq_true e];wp_walk;exact⟨rfl,rfl,_,_,_,_,hrest,q,r,by omega,hR⟩
     ·rw[if_neg e]at hR;rw[decide_eq_false e];have F:=C a c _ _ e I z prog w;wp_walk using F;exact⟨_,rfl,by simpa using hR⟩
  case fin=>
   rintro⟨b1,b2⟩ J ⟨o,rfl,t,B,i,j,k,p,m,f,hR⟩;simp only at o;subst o;have O:W4 lt i j=decide (items.size<items2.size):=by
    cases p with
    |nil=>
     cases m with
     |nil=>simp only[cXW]at f;exact(decide_eq_false (by omega)).symm
     |cons z hw=>simp only[cXW,cQK]at f;exact(decide_eq_true (by omega)).symm
    |cons I O=>
     cases m with
     |nil=>simp only[cXW,cQK]at f;exact(decide_eq_false (by omega)).symm
     |cons z hw=>rw[List.zip_cons_cons]at k;cases k
   rw[O]at hR;wp_walk;exact⟨_,rfl,by simpa[Builtin.Tuple.tupleCompareSizes]using hR⟩
  case h=>
   exact⟨rfl,rfl,items.toList,items2.toList,xs,ys,rfl,K,L,by omega,h⟩
section
variable {A:cQt}{s:bYO}{α:Type} [DecidableEq α] {lt:α->α->Bool}{rep:α->bYL->Prop}{l b:Nat}{items items2:List bYL}{xs ys:List α}
def bWn(A:cQt)(s:bYO)(u v:bYL)(c:Bool):Prop:=∀ (prog:bY7)(w:cQf)(E:bYL->bYO->Prop)(Q:bYL->bYO->Prop),Q (.bool c) s->bYT (bYV prog w) A (richCompare .Lt u v) Q E s
def bJf(hl:cZJ s.heap l items.toArray)(q:cZJ s.heap b items2.toArray)(z:cQA rep xs items)(B:cQA rep ys items2)(C:A.units<cLine)
  (f:∀x y u v,rep x u->rep y v->EqAt A.in1 s u v (decide (x=y))) (e:∀x y u v,x≠y->rep x u->rep y v->bWn A.in1 s u v (lt x y)):bWn A s (.ref l) (.ref b) (W4 lt xs ys):=λprog w E Q h=>by
 obtain⟨⟨cls,D,data,t⟩,p,k,n,m⟩:=id hl
 obtain⟨⟨o,i,j,g⟩,d,a,r,c⟩:=id q
 simp only at k m a c
 subst k m a c
 exact richCompare_meets_room (op:= .Lt) ⟨_,p,rfl⟩ ⟨_,d,rfl⟩ PySem.F.slot_tuple_lt PySem.F.entry_tuple_lt (PySem.F.args_tuple_lt_2 _ _) (aJi (lt:=lt) l b items.toArray items2.toArray n r D i t g xs ys z B)
  ⟨p,d,f,e,show Value.bool (W4 lt xs ys)≠Value.notImplemented/\Q (.bool (W4 lt xs ys)) s from⟨(λx=>nomatch x),h⟩⟩ C
def bWt:∀ {xs ys:List α},((bYY (min xs.length ys.length)).all (λj=>decide (xs[j]? =ys[j]?)) && xs.length==ys.length)=decide (xs=ys):=by
 intro xs ys;rw[Bool.eq_iff_iff];simp only[Bool.and_eq_true,cZU,cQn,decide_eq_true_eq,beq_iff_eq];constructor
 ·rintro⟨a,c⟩;apply cX3;intro i;by_cases b:i<xs.length
  ·exact a i (by omega)
  ·rw[cQl (by omega),cQl (by omega)]
 ·rintro rfl;exact⟨λ_ _=>rfl,rfl⟩
def X7{rep:α->bYL->Prop}:∀ {xs:List α} {us:List bYL} {i:Nat} {u:bYL},cQA rep xs us->us[i]? =some u->∃x,xs[i]? =some x/\rep x u
 |_,_,0,_,.cons r _,h=>by simp at h;subst h;exact⟨_,rfl,r⟩
 |_,_,i+1,_,.cons _ t,h=>by simpa using X7 (i:=i) t (by simpa using h)
 |_,_,i,_,.nil,h=>by simp at h
def X6{rep:α->bYL->Prop}(a:∀x y u,rep x u->rep y u->x=y):∀ {xs ys:List α} {us:List bYL},cQA rep xs us->cQA rep ys us->xs=ys
 |_,_,_,.nil,.nil=>rfl
 |_,_,_,.cons r t,.cons r' t'=>by rw[a _ _ _ r r',X6 a t t']
def bJb(hl:cZJ s.heap l items.toArray)(k:cZJ s.heap b items2.toArray)(d:cQA rep xs items)(f:cQA rep ys items2)(t:A.units<cLine)(r:∀x y u,rep x u->rep y u->x=y) (c:∀x y u v,rep x u->rep y v->EqAt A.in1 s u v (decide (x=y))):EqAt A s (.ref l) (.ref b) (decide (xs=ys)):=by
 by_cases e:l=b
 ·subst e;obtain⟨o,h,_,n,a⟩:=hl;obtain⟨G,i,_,H,m⟩:=k;rw[h]at i;cases i;rw[a]at m;have g:items=items2:=by
   have:items.toArray=items2.toArray:=by injection m
   simpa using congrArg Array.toList this
  subst g;rw[decide_eq_true (X6 r d f)];exact EqAt.same _
 ·refine EqAt.of_refs e ?_;have z:=RcAt.tuples (A:=A) (s:=s) (e:=λj=>decide (xs[j]? =ys[j]?)) (show s.heap.IsTuple l items.toArray from hl) (show s.heap.IsTuple b items2.toArray from k) t λj h a=>?_
  ·have C:items.toArray.size=xs.length:=by rw[bY4];exact d.length.symm
   have g:items2.toArray.size=ys.length:=by rw[bY4];exact f.length.symm
   rw[C,g,bWt]at z;exact z
  ·have F:items[j]? =some items[j]:=bYK (by simpa using h);have p:items2[j]? =some items2[j]:=bYK (by simpa using a);obtain⟨x,w,E⟩:=X7 d F;obtain⟨y,B,D⟩:=X7 f p;have q:=c x y _ _ E D;show EqAt A.in1 s items[j] items2[j] (decide (xs[j]? =ys[j]?));rw[w,B];have:decide (some x=some y)=decide (x=y):=by simp
   rw[this];exact q
end
def bVy(i:Int)(u:bYL):Prop:=∃t,u= .int i t
def rep2(h:Heap)(p:Int×Int)(u:bYL):Prop:=∃a b,u= .ref a/\cZJ h a b.toArray/\cQA bVy [p.1,p.2] b
def rep3(h:Heap)(c:List (Int×Int))(u:bYL):Prop:=∃a b,u= .ref a/\cZJ h a b.toArray/\cQA (rep2 h) c b
def aVW(x y:Int)(u:bYL)(a:bVy x u)(b:bVy y u):x=y:=by
 obtain⟨t,rfl⟩:=a;obtain⟨c,e⟩:=b;cases e;rfl
def bZW{h:Heap}{a:Nat}{i j:List bYL}(d:cZJ h a i.toArray)(g:cZJ h a j.toArray):i=j:=by
 obtain⟨o,f,_,n,e⟩:=d;obtain⟨k,c,_,l,b⟩:=g;rw[f]at c;cases c;rw[e]at b;have:i.toArray=j.toArray:=by injection b
 simpa using congrArg Array.toList this
def bZg{h:Heap}(x y:Int×Int)(u:bYL)(c:rep2 h x u)(k:rep2 h y u):x=y:=by
 obtain⟨a,i,rfl,f,b⟩:=c;obtain⟨l,j,e,g,d⟩:=k;cases e;rw[bZW f g]at b;have:=X6 aVW b d;injection this with e1 e2;injection e2 with e2 _;exact Prod.ext e1 e2
section
variable {A:cQt}{s:bYO}
def eq1(x y:Int)(u v:bYL)(a:bVy x u)(c:bVy y v):EqAt A s u v (decide (x=y)):=by
 obtain⟨t,rfl⟩:=a;obtain⟨b,rfl⟩:=c;have:decide (x=y)=(x==y):=by rw[Bool.eq_iff_iff];simp
 rw[this];exact EqAt.int_int x t y b
def lt1(x y:Int)(u v:bYL)(d:x≠y)(a:bVy x u)(c:bVy y v):bWn A s u v (decide (x<y)):=by
 obtain⟨t,rfl⟩:=a;obtain⟨b,rfl⟩:=c;exact λprog w E Q h=>HT.bZf A s x t y b prog w E Q h
def eq2(d:A.units<cLine)(x y:Int×Int)(u v:bYL)(c:rep2 s.heap x u)(k:rep2 s.heap y v):EqAt A s u v (decide (x=y)):=by
 obtain⟨a,i,rfl,g,l⟩:=c;obtain⟨b,j,rfl,h,f⟩:=k;have z:=bJb g h l f d aVW λx y u v=>eq1 x y u v;have:decide ([x.1,x.2]= [y.1,y.2])=decide (x=y):=by
  rw[Bool.eq_iff_iff,decide_eq_true_eq,decide_eq_true_eq];constructor
  ·intro e;injection e with e1 e2;injection e2 with e2 _;exact Prod.ext e1 e2
  ·rintro rfl;rfl
 rw[this]at z;exact z
def aYp(x y:Int×Int):W4 (λa b:Int=>decide (a<b)) [x.1,x.2] [y.1,y.2]=wG x y:=by
 unfold wG W4 W4 W4;by_cases c:x.1=y.1
 ·by_cases d:x.2=y.2<;> simp[c,d]
 ·simp[c]
def lt2(d:A.units<cLine)(x y:Int×Int)(u v:bYL)(k:x≠y)(c:rep2 s.heap x u)(h:rep2 s.heap y v):bWn A s u v (wG x y):=by
 obtain⟨a,i,rfl,f,l⟩:=c;obtain⟨b,j,rfl,g,e⟩:=h;have z:=bJf (lt:=λa b:Int=>decide (a<b)) f g l e d (λx y u v=>eq1 x y u v) (λx y u v=>lt1 x y u v);rw[aYp]at z;exact z
def eq3(d:A.units+1<cLine)(x y:List (Int×Int))(u v:bYL)(c:rep3 s.heap x u)(h:rep3 s.heap y v):EqAt A s u v (decide (x=y)):=by
 obtain⟨a,i,rfl,f,k⟩:=c;obtain⟨b,j,rfl,g,e⟩:=h;exact bJb f g k e (by omega) bZg λx y u v=>eq2 (A:=A.in1) d x y u v
def lt3(c:A.units+1<cLine)(x y:List (Int×Int))(u v:bYL)(k:x≠y)(d:rep3 s.heap x u)(h:rep3 s.heap y v):bWn A s u v (W4 wG x y):=by
 obtain⟨a,i,rfl,f,l⟩:=d;obtain⟨b,j,rfl,g,e⟩:=h;exact bJf f g l e (by omega) (λx y u v=>eq2 (A:=A.in1) c x y u v) (λx y u v=>lt2 (A:=A.in1) c x y u v)
end
section
variable {prog:bY7}{w:cQf}{A:cQt}{E:bYL->bYO->Prop}{s:bYO}
def bJ3{x y:Nat}{m f:Obj}{n k:Nat}{u v:bYL}{a c:List (Int×Int)}{i j:Int}{r p:Tok}{Q:Bool->bYO->Prop}(g:A.units+1<cLine)(t:s.heap.get? x=some m)(dx:m.data= .seq #[u,.int i r] n)(z:s.heap.get? y=some f)(o:f.data= .seq #[v,.int j p] k) (l:rep3 s.heap a u) (d:rep3 s.heap c v) (b:a=c->i=j) (h:Q (decide (a≠c) && W4 wG a c) s):bYT (bYV prog w) A (keyLt' (tuples' false) (.ref x) (.ref y)) Q E s:=by
 refine kat_lt t dx z o ?_;refine kat_cons (eq3 g a c u v l d prog w _ _ ?_);by_cases e:a=c
 ·rw[decide_eq_true e];refine kat_yes (kat_cons (aJC ?_));rw[beq_iff_eq.mpr (b e)];refine kat_yes (kat_nil ?_);simpa[e]using h
 ·rw[decide_eq_false e];have q:Q (W4 wG a c) s:=by simpa[e]using h
  exact kat_no (kat_one _ _ (lt3 g a c u v e l d prog w _ _ q))
def aZ8{a:Nat}{vs:List bYL}{P:PySem.Fin->bYO->Prop}{n0:Nat}(J:s.heap.get? a=some (cQB "list" vs.toArray n0))(R:vs.length<64)(r:Nat->Int)(Z:Inj vs.length r) (G:2<=vs.length->∃κ,∀f,(∀c o,c≠a->s.heap.get? c=some o->f.get? c=some o)->(∀Q:SortKind->bYO->Prop,Q κ {s with heap:=f}->bYT (bYV prog w) A (keyKind' vs.toArray) Q (λ_ _=>False) {s with heap:=f})/\ ∀i j C,i<vs.length->j<vs.length->C (decide (r i<r j)) {s with heap:=f}->kas_ask prog w A κ vs i j C {s with heap:=f}) (F:∀ (p:List Nat) f c,p.Perm (bYY vs.length)->p.Pairwise (λi j=>r i<r j)->(∀d o,d≠a->s.heap.get? d=some o->f.get? d=some o)->f.get? a=some (cQB "list" (p.map λi=>vs.getD i Value.none).toArray c)->P (.done (.ret .none)) {s with heap:=f}): bYT (bYV prog w) A (cXy.«list.sort» ⟨[.ref a],[]⟩) P E s:=by
 have ha:a<s.heap.objs.size:=bYZ J;obtain⟨t,z⟩:∃t,(s.heap.update a (cQF λ_=>(#[]:Array bYL))).get? a=some (cQB "list" #[] t):=⟨_,cZD J λ_=> #[]⟩;rw[list_sort_plain];refine bYN (listItems_at J rfl ?_);refine bYN (cZ1 J rfl ?_ (by rw[bY4,cQk];omega) (cQJ _));refine bYN (seqEpoch_at z rfl ?_);refine bYN (wpAny_newTuple ?_ (by show vs.length<=_;rw[cQk];omega));refine bYN (cZ4 ?_ (cQJ _));refine cQ6 ?_;have U:∀c o,c≠a->s.heap.get? c=some o->(((s.heap.update a (cQF λ_=>(#[]:Array bYL))).push (cQB "tuple" vs.toArray 0)).push (cQB "list" #[] 0)).get? c=some o:=λc o Y e=>
  bYQ _ (bYQ _ ((cQq _ _ (cQu Y)).trans e))
 have H:(((s.heap.update a (cQF λ_=>(#[]:Array bYL))).push (cQB "tuple" vs.toArray 0)).push (cQB "list" #[] 0)).get? a=some (cQB "list" #[] t):=bYQ _ (bYQ _ z);show bYT (bYV prog w) A _ P E {s with heap:=((s.heap.update a (cQF λ_=>(#[]:Array bYL))).push (cQB "tuple" vs.toArray 0)).push (cQB "list" #[] 0) };generalize ((s.heap.update a (cQF λ_=>(#[]:Array bYL))).push (cQB "tuple" vs.toArray 0)).push (cQB "list" #[] 0)=h1 at U H ⊢;dsimp only;have l:∀ (y:SortSt)(p:List Nat),p.Perm (bYY vs.length)->p.Pairwise (λi j=>r i<r j)->(arrOf y).map (·.2)=cQU (p.map λi=>vs.getD i Value.none)->failedOf y=none->
   bYT (bYV prog w) A (do
    let b:=(<- seqEpoch a) !=t
    Builtin.List.listUpdate (.ref a) λ_=>(arrOf y).map (·.2)
    if let some e:=failedOf y then rule "list.sort.comparison-raised";throw e
    if b then rule "list.sort.modified";raiseError "ValueError" "list modified during sort"
    ret .none) P E {s with heap:=h1}:=by
  intro y p h n B K
  have T:p.length=vs.length:=by rw[h.length_eq,cQE]
  rw[B]
  obtain⟨S,N⟩:∃S,(h1.update a (cQF λ_=>cQU (p.map λi=>vs.getD i Value.none))).get? a=some (cQB "list" (cQU (p.map λi=>vs.getD i Value.none)) S):=⟨_,cZD H λ_=>cQU (p.map λi=>vs.getD i Value.none)⟩
  have M:(cQU (p.map λi=>vs.getD i Value.none)).size=vs.length:=by rw[bY4,bYP,T]
  refine bYN (seqEpoch_at H rfl ?_)
  refine bYN (cZ1 H rfl ?_ (cQJ _) (cQo (cZn M) (by rw[cQk];omega)))
  rw[K]
  simp only[bne_self_eq_false,Bool.false_eq_true,if_false]
  exact bYR (F p _ S h n (λd o V e=>(cQq _ _ (cQu V)).trans (U d o V e)) N)
 by_cases m:vs.toArray.size<2
 ·rw[if_pos m,if_pos m];refine bYN (bYR ?_);refine bYN (bYR ?_);have q:vs.length<2:=by rw[bY4]at m;exact m
  refine l (SortSt.mk' general' (vs.toArray.zip vs.toArray) #[] 7 none) (bYY vs.length) (List.Perm.refl _) ?_ ?_ rfl
  ·rw[cZh];intro i j I hj a0;rw[cQE]at I hj;omega
  ·show((cQU vs).zip (cQU vs)).map (·.2)=_;apply Array.toList_inj.mp;rw[Array.toList_map,Array.toList_zip];simp only[cJI];have t:(cJa vs vs).map (·.2)=vs:=List.map_snd_zip (bYS _);rw[t];apply cX3;intro i;rw[bY5];by_cases I:i<vs.length
   ·rw[cXO I];simp[cQv,bYK I]
   ·rw[cQl (by omega),cQl (by rw[cQE];omega)];rfl
 ·have q:2<=vs.length:=by rw[bY4]at m;omega
  rw[if_neg m,if_neg m];obtain⟨κ,hκ⟩:=G q;obtain⟨hκ,v⟩:=hκ h1 U;refine bYN (cQP (hκ (λk D=>k=κ/\D= {s with heap:=h1}) ⟨rfl,rfl⟩) (λk D hq=>?_) λ_ _ x=>x.elim);obtain⟨rfl,rfl⟩:=hq;have O:(kas_sort vs.length).kasWp (kas_ask prog w A k vs) (λp u=>u= {s with heap:=h1}/\p.toList.Perm (bYY vs.length)/\p.toList.Pairwise (λi j=>r i<r j)) {s with heap:=h1}:=
   Asks.wp (lt:=W5 r) v (aZ9 Z (by omega)) λp hp=>⟨rfl,hp⟩
  refine bYN (cQP (kat_run (Q:=λg u=>∃p:Array Nat,arrOf g=p.map (kas_item (vs.toArray.zip vs.toArray))/\failedOf g=none/\
    u= {s with heap:=h1}/\p.toList.Perm (bYY vs.length)/\p.toList.Pairwise (λi j=>r i<r j))
   rfl q R (λp' g u a1 W X a4=>⟨p',W,X,a4⟩) O) ?_ λ_ _ x=>x)
  rintro⟨⟨⟩,g⟩ u ⟨p,L,K,rfl,h,n⟩;dsimp only;exact l _ p.toList h n (kat_snds rfl L) K
end
end Stree
namespace Stree
open PySem PySem.W PySem.Calls PyProof.Rows
abbrev qQ:=List (Int×Int)
abbrev jL:qQ->qQ->Bool:=W4 wG
def vQ:∀a:qQ,jL a a=false
 |[]=>rfl
 |x::r=>by show(if x=x then W4 wG r r else wG x x)=false;rw[if_pos rfl];exact vQ r
def X4:∀ {a b c:qQ},jL a b=true->jL b c=true->jL a c=true
 |[],[],_,h,_=>by cases h
 |[],_::_,[],_,h=>by cases h
 |[],_::_,_::_,_,_=>rfl
 |_::_,[],_,h,_=>by cases h
 |_::_,_::_,[],_,h=>by cases h
 |x::a,y::b,z::c,h1,h2=>by
  have f:(if x=y then W4 wG a b else wG x y)=true:=h1;have d:(if y=z then W4 wG b c else wG y z)=true:=h2;show(if x=z then W4 wG a c else wG x z)=true;by_cases i:x=y
  ·rw[if_pos i]at f;subst i;by_cases g:x=z
   ·rw[if_pos g]at d ⊢;exact X4 f d
   ·rw[if_neg g]at d ⊢;exact d
  ·rw[if_neg i]at f;by_cases g:y=z
   ·rw[if_pos g]at d;subst g;rw[if_neg i];exact f
   ·rw[if_neg g]at d;have j:=aXM f d;have:x≠z:=λe=>by rw[e,wZ]at j;cases j
    rw[if_neg this];exact j
def aXN:∀ {a b:qQ},a≠b->jL a b=true\/jL b a=true
 |[],[],h=>absurd rfl h
 |[],_::_,_=> .inl rfl
 |_::_,[],_=> .inr rfl
 |x::a,y::b,h=>by
  show(if x=y then W4 wG a b else wG x y)=true\/(if y=x then W4 wG b a else wG y x)=true;by_cases e:x=y
  ·subst e;rw[if_pos rfl,if_pos rfl];exact aXN λz=>h (by rw[z])
  ·rw[if_neg e,if_neg (cQu e)];exact aXL e
def aVK:∀ (a:qQ) {b:qQ},b≠ []->jL a (a++b)=true
 |[],[],h=>absurd rfl h
 |[],_::_,_=>rfl
 |x::a,b,h=>by show(if x=x then W4 wG a (a++b)else _)=true;rw[if_pos rfl];exact aVK a h
def aZL:∀ (a:qQ) {x y:Int×Int} {b c:qQ},wG x y=true->jL (a++x::b) (a++y::c)=true
 |[],x,y,b,c,h=>by
  show(if x=y then W4 wG b c else wG x y)=true;have:x≠y:=λe=>by rw[e,wZ]at h;cases h
  rw[if_neg this];exact h
 |z::a,x,y,b,c,h=>by show(if z=z then W4 wG (a++x::b) (a++y::c)else _)=true;rw[if_pos rfl];exact aZL a h
def uniq{α:Type}{lt:α->α->Prop}(d:∀a,¬lt a a)(i:∀a b c,lt a b->lt b c->lt a c):∀ {l m:List α},l.Pairwise lt->m.Pairwise lt->(∀a,a∈l↔a∈m)->l=m
 |[],[],_,_,_=>rfl
 |[],y::m,_,_,h=>by have:=(h y).mpr bY0;cases this
 |x::l,[],_,_,h=>by have:=(h x).mp bY0;cases this
 |x::l,y::m,h1,h2,h=>by
  obtain⟨j,k⟩:=cXc.mp h1;obtain⟨b1,n⟩:=cXc.mp h2;have e:x=y:=by
   rcases bYU.mp ((h x).mp bY0)with e|e
   ·exact e
   ·rcases bYU.mp ((h y).mpr bY0)with g|g
    ·exact g.symm
    ·exact absurd (i _ _ _ (j y g) (b1 x e)) (d x)
  subst e;rw[uniq d i k n λa=>?_];constructor
  ·intro f;rcases bYU.mp ((h a).mp (bYX _ f))with e|e
   ·subst e;exact absurd (j a f) (d a)
   ·exact e
  ·intro f;rcases bYU.mp ((h a).mpr (bYX _ f))with e|e
   ·subst e;exact absurd (b1 a f) (d a)
   ·exact e
def IsTup.keep{h h':Heap}{a x:Nat}{vs its:Array bYL}{n:Nat}(b:h.get? a=some (cQB "list" vs n))(k:∀c o,c≠a->h.get? c=some o->h'.get? c=some o)(t:cZJ h x its):cZJ h' x its:=by
 obtain⟨o,e,c,m,d⟩:=t;refine⟨o,k x o (λz=>?_) e,c,m,d⟩;rw[z,b]at e;cases e;have f:Value.type "list"=Value.type "tuple":=c;injection f with c'';exact absurd c'' (by decide)
def rep2.keep{h h':Heap}{a:Nat}{vs:Array bYL}{n:Nat}(b:h.get? a=some (cQB "list" vs n))(k:∀c o,c≠a->h.get? c=some o->h'.get? c=some o){p:Int×Int}{u:bYL}(t:rep2 h p u):rep2 h' p u:=
 let ⟨x,its,e,t1,t2⟩:=t;⟨x,its,e,IsTup.keep b k t1,t2⟩
def rep3.keep{h h':Heap}{a:Nat}{vs:Array bYL}{n:Nat}(b:h.get? a=some (cQB "list" vs n))(k:∀c o,c≠a->h.get? c=some o->h'.get? c=some o){p:qQ}{u:bYL}(t:rep3 h p u):rep3 h' p u:=
 let ⟨x,its,e,t1,t2⟩:=t;⟨x,its,e,IsTup.keep b k t1,L2.Paired.mapP t2 λ_ _ z=>rep2.keep b k z⟩
end Stree
namespace L2
open PySem PySem.Spec PyProof.Rows
open Stree (qQ jL)
def bJE(H:Hp)(p:Int×Int)(x:V):Prop:=∃c,x= .ref c/\H c=some (.tup [.int p.1,.int p.2])
def Y8(H:Hp)(b:Nat)(c:qQ):Prop:=∃a,H b=some (.tup a)/\cQA (bJE H) c a
section
variable {X:Cx}{pins:List (Nat×Obj)}{σ:St}{H:Hp}{s:bYO}{k:Nat}
def aYT{α β γ:Type}{F:α->β->Prop}{G:β->γ->Prop}{K:α->γ->Prop}(h:∀a b c,F a b->G b c->K a c):∀ {l:List α} {m:List β} {n:List γ},cQA F l m->cQA G m n->cQA K l n
 |_,_,_,.nil,.nil=> .nil
 |_,_,_,.cons a r,.cons b t=> .cons (h _ _ _ a b) (aYT h r t)
def Inv.rep2(I:Inv X pins σ H s){p:Int×Int}{x:V}{u:bYL}(h:bJE H p x)(r:zO x u):Stree.rep2 s.heap p u:=by
 obtain⟨c,rfl,e⟩:=h;cases r;obtain⟨a,d,g,_⟩:=I.tuple (SqT.of e);obtain⟨i,j,rfl,f,b⟩:=xW.two d;exact⟨c,_,rfl,g,.cons f (.cons b .nil)⟩
def Inv.rep3(I:Inv X pins σ H s){b:Nat}{f:qQ}(h:Y8 H b f):Stree.rep3 s.heap f (.ref b):=by
 obtain⟨j,e,z⟩:=h;obtain⟨d,g,i,_⟩:=I.tuple (SqT.of e);exact⟨b,d,rfl,i,aYT (F:=bJE H) (G:=zO) (K:=Stree.rep2 s.heap) (λ_ _ _ a c=>I.rep2 a c) z g⟩
def J8(hr:vW k X.A):qE X (.builtin "sorted") (λxs H Q=>∃ (p:Nat)(its:List V)(d:Nat->qQ)(kn:Nat->Int),xs= [.ref p]/\H p=some (.lst its)/\its.length<64/\ (∀i j,i<its.length->j<its.length->d i=d j->i=j)/\(∀i x,its[i]? =some x->∃a b,x= .ref a/\H a=some (.tup [.ref b,.int (kn i)])/\Y8 H b (d i))/\ ∀l (out:List Nat),H l=none->out.Perm (bYY its.length)->(out.Pairwise λi j=>jL (d i) (d j)=true)->Q (.ref l) (upd H l (.lst (out.map λi=>its.getD i .non)))):=by
 intro pins s σ H xs us Q I r h;obtain⟨p,its,d,kn,rfl,hp,b0,M,a5,q⟩:=h;obtain⟨u,rfl,ru⟩:=aQ6 r;cases ru;obtain⟨g,rv,pl,hz⟩:=I.list (SqL.of hp);have Z:g.length=its.length:=rv.length.symm;refine cZ8 kind_sorted plain_sorted entry_sorted (args_sorted1 _) ?_;unfold cXy.«sorted»;refine bYN (m:=checkCount "sorted" 1 1 _) (bYR ?_);refine bYN (collect_list pl.isList ?_ (by rw[cQk];omega));refine bYN (cZ4 ?_ (by rw[cQk];omega));have N:((s.heap.push (cQB "list" #[] 0)).update s.heap.objs.size (cQF (·++g.toArray))).objs.size=s.heap.objs.size+1:=by rw[Heap.size_update,size_push']
 have y:(((s.heap.push (cQB "list" #[] 0)).update s.heap.objs.size (cQF (·++g.toArray))).push (cQB "list" g.toArray 0)).get? (s.heap.objs.size+1)=some (cQB "list" g.toArray 0):=by rw[<- N];exact cQg _ rfl
 have keep:∀b o,s.heap.get? b=some o->(((s.heap.push (cQB "list" #[] 0)).update s.heap.objs.size (cQF (·++g.toArray))).push (cQB "list" g.toArray 0)).get? b=some o:=λb o q=>by have F:b<s.heap.objs.size:=bYZ q;rw[Heap.get?_push_ne _ _ _ (by rw[N];exact cQc (cQV F)),cJG _ _ _ _ (cQc F),Heap.get?_push_ne _ _ _ (cQc F)];exact q
 show bYT _ _ _ _ _ {s with heap:=((s.heap.push (cQB "list" #[] 0)).update s.heap.objs.size (cQF (·++g.toArray))).push (cQB "list" g.toArray 0) };rw[N];generalize a9:((s.heap.push (cQB "list" #[] 0)).update s.heap.objs.size (cQF (·++g.toArray))).push (cQB "list" g.toArray 0)=K at y keep ⊢;refine bYN (cQ6 (cXF cJU ⟨_,y,rfl⟩ cJM ?body (cJT _)));case body=>
  have I1:Inv X pins σ H {s with heap:=K}:=I.kept (t':=s.toks) keep;have U:s.heap.objs.size<=s.heap.objs.size+1:=cXU _;have fa:=I.fpOk (b:=s.heap.objs.size+1) U (I.hok.fresh U);obtain⟨r,a8,a0⟩:=Stree.aJ4 (n:=g.length) (λi j=>jL (d i) (d j)) (λi _=>Stree.vQ _) (λi j k _ _ _ K E=>Stree.X4 K E)
   (λi j B O a6=>Stree.aXN λz=>a6 (M i j (by omega) (by omega) z))
  have ob:∀i,i<g.length->∃a o u t m,g.getD i Value.none= .ref a/\K.get? a=some o/\o.cls= .type "tuple"/\o.data= .seq #[u,.int (kn i) t] m/\Stree.rep3 K (d i) u:=λi B=>by
   have C:i<its.length:=by omega
   obtain⟨a,b,e1,e2,e3⟩:=a5 i its[i] (bYK C);obtain⟨u0,R,G⟩:=rv.get (bYK C);rw[e1]at G;cases G;obtain⟨b1,rj,pj,_⟩:=I1.tuple (SqT.of e2);obtain⟨u1,u2,rfl,q1,q2⟩:=xW.two rj;cases q1;obtain⟨t,rfl⟩:=q2;obtain⟨o,J,D,m,S⟩:=pj;exact⟨a,o,_,t,m,by simp[cQv,R],J,D,S,I1.rep3 e3⟩
  refine Stree.aZ8 (s:={s with heap:=K}) y (by omega) r a8 (λE=>⟨tuples' false,λE k2=>⟨λQ' a2=>?_,λi j C' B O hC=>?_⟩⟩) λp h5 c5 P a3 k5 o5=>?_
  ·have kt:∀ {x:Nat} {o:Obj},K.get? x=some o->o.cls= .type "tuple"->E.get? x=some o:=λ{x o} e c=>k2 x o (λz=>by rw[z,y]at e;cases e;have c':Value.type "list"=Value.type "tuple":=c;injection c' with c'';exact absurd c'' (by decide)) e;have a1:∀ (l:List bYL),(∀ (i:Nat)(v:bYL),l[i]? =some v->∃a o u w m,v=Value.ref a/\E.get? a=some o/\o.cls= .type "tuple"/\o.data= .seq #[u,w] m/\∃c its,u= .ref c/\cZJ E c its)->
     ∃fs,cVe E l fs/\fs.length=l.length/\∀f∈fs,∃c its,f=Value.ref c/\cZJ E c its:=by
    intro l
    induction l with
    |nil=>intro _;exact⟨[],trivial,rfl,λf Y=>by cases Y⟩
    |cons v l ih=>
     intro L;obtain⟨a,o,u,w,m,rfl,J,D,S,c,its,rfl,g4⟩:=L 0 v rfl;obtain⟨fs,f1,f2,f3⟩:=ih λi v h=>L (i+1) v h;refine⟨.ref c::fs,cJz J D S rfl f1,by simp[f2],λf Y=>?_⟩;rcases bYU.mp Y with rfl|Y
     ·exact⟨c,its,rfl,g4⟩
     ·exact f3 f Y
   obtain⟨fs,f1,f2,f3⟩:=a1 g λi v L=>by
    have B:i<g.length:=by
     rcases cZN i g.length with h|h
     ·exact h
     ·rw[cQl h]at L;cases L
    obtain⟨a,o,u,t,m,g0,J,D,S,g4⟩:=ob i B;have:g.getD i Value.none=v:=by simp[cQv,L]
    rw[this]at g0;obtain⟨c,its,e,g5,_⟩:=g4;exact⟨a,o,u,_,m,g0,kt J D,D,S,c,_,e,Stree.IsTup.keep y k2 g5⟩
   refine PySem.W.kat_kind (T:= .type "tuple") f1 (by omega) (λv L=>?_) rfl a2;obtain⟨c,its,rfl,o,J,D,_⟩:=f3 v L;have z:PySem.W.Looks (bYV X.prog X.w) E (typeOf (.ref c)) o.cls:=(PySem.W.Looks.ld J).andThen .now;rw[D]at z;exact z
  ·obtain⟨ai,oi,ui,t1,m1,g0,J,D,S,g4⟩:=ob i B;obtain⟨aj,oj,uj,t3,m2,d0,d1,d2,d3,d4⟩:=ob j O;have kt:∀ {x:Nat} {o:Obj},K.get? x=some o->o.cls= .type "tuple"->E.get? x=some o:=λ{x o} e c=>k2 x o (λz=>by rw[z,y]at e;cases e;have c':Value.type "list"=Value.type "tuple":=c;injection c' with c'';exact absurd c'' (by decide)) e;show bYT _ _ (keyLt' _ (g.getD i Value.none) (g.getD j Value.none)) _ _ _;rw[g0,d0];refine Stree.bJ3 (by have:=hr.un;show X.A.units+1+1+1<cLine;omega) (kt J D) S (kt d1 d2) d3 (Stree.rep3.keep y k2 g4) (Stree.rep3.keep y k2 d4) (λz=>by rw[M i j (by omega) (by omega) z]) ?_;have e1:=a0 i j B O;rw[e1]at hC;by_cases z:d i=d j
   ·have:jL (d i) (d j)=false:=by rw[z];exact Stree.vQ _
    rw[this]at hC;simpa[z]using hC
   ·have:decide (d i≠d j)=true:=decide_eq_true z;rw[this,Bool.true_and];exact hC
  ·have hm:∀i∈p,i<g.length:=λi B=>cQn.mp (P.mem_iff.mp B);have vv:∀l:List Nat,(∀i∈l,i<g.length)->xW (l.map λi=>its.getD i .non) (l.map λi=>g.getD i Value.none):=by
    intro l;induction l with
    |nil=>intro _;exact .nil
    |cons i l ih=>
     intro h;refine .cons ?_ (ih λj O=>h j (bYX _ O));have B:=h i bY0;have C:i<its.length:=by omega
     obtain⟨u0,R,G⟩:=rv.get (bYK C);show zO (its.getD i .non) (g.getD i Value.none);have e1:g.getD i Value.none=u0:=by simp[cQv,R]
     have e2:its.getD i .non=its[i]:=by simp[cQv,bYK C]
     rw[e1,e2];exact G
   have v2:=vv p hm;have a7:p.Perm (bYY its.length):=by rw[<- Z];exact P
   have F:p.length=g.length:=by rw[P.length_eq,cQE]
   have a4:p.Pairwise λi j=>jL (d i) (d j)=true:=a3.imp_of_mem λ{i j} B O h=>by have:=a0 i j (hm i B) (hm j O);rw[<- this];exact decide_eq_true h
   have I5:Inv X pins σ (upd H (s.heap.objs.size+1) (.lst (p.map λi=>its.getD i .non))) {s with heap:=h5}:=
    I.laid (t':=s.toks) (λb o e=>k5 b o (cQc (cQV (bYZ e))) (keep b o e)) U ⟨by rw[bYP,cQk];omega,_,c5,v2,o5⟩
   exact⟨_,rfl,bYR ⟨_,rfl,⟨.ref _,_,I5,rfl,q _ p fa.1 a7 a4⟩⟩⟩
end
end L2
namespace L2
open PySem PySem.Spec PyProof.Rows
section
variable {X:Cx}
def uK:qE X (.builtin "sorted") (λxs H Q=>∃ (p:Nat)(its:List V)(g:Nat->Int×Int),xs= [.ref p]/\H p=some (.lst its)/\its.length<64/\ (∀i j,i<its.length->j<its.length->g i=g j->i=j)/\(∀i x,its[i]? =some x->∃a,x= .ref a/\H a=some (.tup [.int (g i).1,.int (g i).2]))/\ ∀l (out:List Nat),H l=none->out.Perm (bYY its.length)->(out.Pairwise λi j=>Stree.wG (g i) (g j)=true)->Q (.ref l) (upd H l (.lst (out.map λi=>its.getD i .non)))):=by
 intro J s σ H xs us Q I r h;obtain⟨p,its,g,rfl,hp,b2,a3,a7,q⟩:=h;obtain⟨u,rfl,ru⟩:=aQ6 r;cases ru;obtain⟨d,rv,pl,hz⟩:=I.list (SqL.of hp);have Z:d.length=its.length:=rv.length.symm;refine cZ8 kind_sorted plain_sorted entry_sorted (args_sorted1 _) ?_;unfold cXy.«sorted»;refine bYN (m:=checkCount "sorted" 1 1 _) (bYR ?_);refine bYN (collect_list pl.isList ?_ (by rw[cQk];omega));refine bYN (cZ4 ?_ (by rw[cQk];omega));have Y:((s.heap.push (cQB "list" #[] 0)).update s.heap.objs.size (cQF (·++d.toArray))).objs.size=s.heap.objs.size+1:=by rw[Heap.size_update,size_push']
 have w:(((s.heap.push (cQB "list" #[] 0)).update s.heap.objs.size (cQF (·++d.toArray))).push (cQB "list" d.toArray 0)).get? (s.heap.objs.size+1)=some (cQB "list" d.toArray 0):=by rw[<- Y];exact cQg _ rfl
 have keep:∀b o,s.heap.get? b=some o->(((s.heap.push (cQB "list" #[] 0)).update s.heap.objs.size (cQF (·++d.toArray))).push (cQB "list" d.toArray 0)).get? b=some o:=λb o q=>by have a1:b<s.heap.objs.size:=bYZ q;refine bYQ _ ?_;exact(cQq _ _ (cZp a1)).trans (bYQ _ q)
 show bYT _ _ _ _ _ {s with heap:=((s.heap.push (cQB "list" #[] 0)).update s.heap.objs.size (cQF (·++d.toArray))).push (cQB "list" d.toArray 0) };rw[Y];generalize b1:((s.heap.push (cQB "list" #[] 0)).update s.heap.objs.size (cQF (·++d.toArray))).push (cQB "list" d.toArray 0)=L at w keep ⊢;refine bYN (cQ6 (cXF cJU ⟨_,w,rfl⟩ cJM ?body (cJT _)));case body=>
  have I1:Inv X J σ H {s with heap:=L}:=I.kept (t':=s.toks) keep;have S:s.heap.objs.size<=s.heap.objs.size+1:=cXU _;have fa:=I.fpOk (b:=s.heap.objs.size+1) S (I.hok.fresh S);obtain⟨r,b0,a0⟩:=Stree.aJ4 (n:=d.length) (λi j=>Stree.wG (g i) (g j)) (λi _=>Stree.wZ _) (λi j k _ _ _ L R=>Stree.aXM L R)
   (λi j A K a8=>Stree.aXL λz=>a8 (a3 i j (by omega) (by omega) z))
  have ob:∀i,i<d.length->∃a o C E m,d.getD i Value.none= .ref a/\L.get? a=some o/\o.cls= .type "tuple"/\o.data= .seq #[.int (g i).1 C,.int (g i).2 E] m:=λi A=>by
   have B:i<its.length:=by omega
   obtain⟨a,e1,e2⟩:=a7 i its[i] (bYK B);obtain⟨u0,N,D⟩:=rv.get (bYK B);rw[e1]at D;cases D;obtain⟨b3,rj,pj,_⟩:=I1.tuple (SqT.of e2);obtain⟨u1,u2,rfl,q1,q2⟩:=xW.two rj;obtain⟨C,rfl⟩:=q1;obtain⟨E,rfl⟩:=q2;obtain⟨o,P,F,m,O⟩:=pj;exact⟨a,o,C,E,m,by simp[cQv,N],P,F,O⟩
  refine Stree.aZ8 (s:={s with heap:=L}) w (by omega) r b0 (λR=>⟨tuples' true,λR k2=>⟨λQ' a4=>?_,λi j C' A K hC=>?_⟩⟩) λp h5 c5 M a5 k5 o5=>?_
  ·have kt:∀ {x:Nat} {o:Obj},L.get? x=some o->o.cls= .type "tuple"->R.get? x=some o:=λ{x o} e c=>k2 x o (λz=>by rw[z,w]at e;cases e;have c':Value.type "list"=Value.type "tuple":=c;injection c' with c'';exact absurd c'' (by decide)) e;have a2:∀ (l:List bYL),(∀ (i:Nat)(v:bYL),l[i]? =some v->∃a o C E m x y,v=Value.ref a/\R.get? a=some o/\o.cls= .type "tuple"/\o.data= .seq #[.int x C,.int y E] m)->
     ∃fs,cVe R l fs/\fs.length=l.length/\∀f∈fs,∃x t,f=Value.int x t:=by
    intro l
    induction l with
    |nil=>intro _;exact⟨[],trivial,rfl,λf U=>by cases U⟩
    |cons v l ih=>
     intro G;obtain⟨a,o,C,E,m,x,y,rfl,P,F,O⟩:=G 0 v rfl;obtain⟨fs,f1,f2,f3⟩:=ih λi v h=>G (i+1) v h;refine⟨.int x C::fs,cJz P F O rfl f1,by simp[f2],λf U=>?_⟩;rcases bYU.mp U with rfl|U
     ·exact⟨x,C,rfl⟩
     ·exact f3 f U
   obtain⟨fs,f1,f2,f3⟩:=a2 d λi v G=>by
    have A:i<d.length:=by
     rcases cZN i d.length with h|h
     ·exact h
     ·rw[cQl h]at G;cases G
    obtain⟨a,o,C,E,m,g0,P,F,O⟩:=ob i A;have:d.getD i Value.none=v:=by simp[cQv,G]
    rw[this]at g0;exact⟨a,o,C,E,m,_,_,g0,kt P F,F,O⟩
   refine PySem.W.kat_kind (T:= .type "int") f1 (by omega) (λv G=>?_) rfl a4;obtain⟨x,t,rfl⟩:=f3 v G;exact .now
  ·obtain⟨ai,oi,C,E,m1,g0,P,F,O⟩:=ob i A;obtain⟨aj,oj,t3,t4,m2,d0,d1,d2,d3⟩:=ob j K;have kt:∀ {x:Nat} {o:Obj},L.get? x=some o->o.cls= .type "tuple"->R.get? x=some o:=λ{x o} e c=>k2 x o (λz=>by rw[z,w]at e;cases e;have c':Value.type "list"=Value.type "tuple":=c;injection c' with c'';exact absurd c'' (by decide)) e;show bYT _ _ (keyLt' _ (d.getD i Value.none) (d.getD j Value.none)) _ _ _;rw[g0,d0];refine Stree.aYs (kt P F) O (kt d1 d2) d3 ?_;have e1:=a0 i j A K;rw[e1]at hC;exact hC
  ·have hm:∀i∈p,i<d.length:=λi A=>cQn.mp (M.mem_iff.mp A);have vv:∀l:List Nat,(∀i∈l,i<d.length)->xW (l.map λi=>its.getD i .non) (l.map λi=>d.getD i Value.none):=by
    intro l;induction l with
    |nil=>intro _;exact .nil
    |cons i l ih=>
     intro h;refine .cons ?_ (ih λj K=>h j (bYX _ K));have A:=h i bY0;have B:i<its.length:=by omega
     obtain⟨u0,N,D⟩:=rv.get (bYK B);show zO (its.getD i .non) (d.getD i Value.none);have e1:d.getD i Value.none=u0:=by simp[cQv,N]
     have e2:its.getD i .non=its[i]:=by simp[cQv,bYK B]
     rw[e1,e2];exact D
   have v2:=vv p hm;have a9:p.Perm (bYY its.length):=by rw[<- Z];exact M
   have a1:p.length=d.length:=by rw[M.length_eq,cQE]
   have a6:p.Pairwise λi j=>Stree.wG (g i) (g j)=true:=a5.imp_of_mem λ{i j} A K h=>by have:=a0 i j (hm i A) (hm j K);rw[<- this];exact decide_eq_true h
   have I5:Inv X J σ (upd H (s.heap.objs.size+1) (.lst (p.map λi=>its.getD i .non))) {s with heap:=h5}:=
    I.laid (t':=s.toks) (λb o e=>k5 b o (cQc (cQV (bYZ e))) (keep b o e)) S ⟨by rw[bYP,cQk];omega,_,c5,v2,o5⟩
   exact⟨_,rfl,bYR ⟨_,rfl,⟨.ref _,_,I5,rfl,q _ p fa.1 a9 a6⟩⟩⟩
end
end L2
namespace Fm
open Stree (qQ jL wG)
structure Ok(n:Nat)(L:Nat->Option Nat)(rk:Nat->Nat):Prop where
 lt:∀i j,i<n->L i=some j->j<n/\rk j<rk i
def rdF(L:Nat->Option Nat)(D:Nat->Int):Nat->Nat->qQ
 |0,i=> [(D i,(i:Int))]
 |f+1,i=>match L i with
  |none=> [(D i,(i:Int))]
  |some j=>rdF L D f j++ [(D i,(i:Int))]
def tpF(L:Nat->Option Nat):Nat->Nat->Nat
 |0,i=>i
 |f+1,i=>match L i with
  |none=>i
  |some j=>tpF L f j
section
variable {n:Nat}{L:Nat->Option Nat}{D:Nat->Int}{rk:Nat->Nat}
def aXR{i:Nat}(h:L i=none):∀f,rdF L D f i= [(D i,(i:Int))]
 |0=>rfl
 |f+1=>by unfold rdF;rw[h]
def aZe{i:Nat}(h:L i=none):∀f,tpF L f i=i
 |0=>rfl
 |f+1=>by unfold tpF;rw[h]
def jO(o:Ok n L rk):∀ (f g i:Nat),i<n->rk i<=f->rk i<=g->rdF L D f i=rdF L D g i
 |f,g,i,hi,hf,hg=>by
  cases h:L i with
  |none=>rw[aXR h,aXR h]
  |some j=>
   obtain⟨a,b⟩:=o.lt i j hi h;cases f with
   |zero=>omega
   |succ f=>
    cases g with
    |zero=>omega
    |succ g=>show(match L i with|none=>_|some j=>rdF L D f j++ [(D i,(i:Int))])=(match L i with|none=>_|some j=>rdF L D g j++ [(D i,(i:Int))]);rw[h];show rdF L D f j++_=rdF L D g j++_;rw[jO o f g j a (by omega) (by omega)]
def jT(o:Ok n L rk):∀ (f g i:Nat),i<n->rk i<=f->rk i<=g->tpF L f i=tpF L g i
 |f,g,i,hi,hf,hg=>by
  cases h:L i with
  |none=>rw[aZe h,aZe h]
  |some j=>
   obtain⟨a,b⟩:=o.lt i j hi h;cases f with
   |zero=>omega
   |succ f=>
    cases g with
    |zero=>omega
    |succ g=>show(match L i with|none=>_|some j=>tpF L f j)=(match L i with|none=>_|some j=>tpF L g j);rw[h];exact jT o f g j a (by omega) (by omega)
def rd(L:Nat->Option Nat)(D:Nat->Int)(rk:Nat->Nat)(i:Nat):qQ:=rdF L D (rk i) i
def tp(L:Nat->Option Nat)(rk:Nat->Nat)(i:Nat):Nat:=tpF L (rk i) i
def X8{i:Nat}(h:L i=none):rd L D rk i= [(D i,(i:Int))]:=aXR h _
def wC{i:Nat}(h:L i=none):tp L rk i=i:=aZe h _
def uD(o:Ok n L rk){i j:Nat}(a:i<n)(h:L i=some j):rd L D rk i=rd L D rk j++ [(D i,(i:Int))]:=by
 obtain⟨b,c⟩:=o.lt i j a h;unfold rd;cases d:rk i with
 |zero=>omega
 |succ m=>show(match L i with|none=>_|some j=>rdF L D m j++ [(D i,(i:Int))])=_;rw[h];show rdF L D m j++_=_;rw[jO o m (rk j) j b (by omega) (bYS _)]
def uI(o:Ok n L rk){i j:Nat}(a:i<n)(h:L i=some j):tp L rk i=tp L rk j:=by
 obtain⟨b,c⟩:=o.lt i j a h;unfold tp;cases d:rk i with
 |zero=>omega
 |succ m=>show(match L i with|none=>_|some j=>tpF L m j)=_;rw[h];exact jT o m (rk j) j b (by omega) (bYS _)
def aXy(o:Ok n L rk){P:Nat->Prop}(h0:∀i,i<n->L i=none->P i)(a:∀i j,i<n->L i=some j->P j->P i):∀ (m i:Nat),rk i<=m->i<n->P i
 |m,i,hm,hi=>by
  cases h:L i with
  |none=>exact h0 i hi h
  |some j=>
   obtain⟨b,c⟩:=o.lt i j hi h;cases m with
   |zero=>omega
   |succ m=>exact a i j hi h (aXy o h0 a m j (by omega) b)
def bQ0(o:Ok n L rk){i:Nat}(a:i<n):tp L rk i<n/\L (tp L rk i)=none:=
 aXy o (P:=λi=>tp L rk i<n/\L (tp L rk i)=none) (λi a h=>by rw[wC h];exact⟨a,h⟩) (λi j a h b=>by rw[uI o a h];exact b) (rk i) i (bYS _) a
def aXS(o:Ok n L rk){i:Nat}(a:i<n):∃r,rd L D rk i=r++ [(D i,(i:Int))]:=by
 cases h:L i with
 |none=>exact⟨[],X8 h⟩
 |some j=>exact⟨_,uD o a h⟩
def aY2(o:Ok n L rk){i j:Nat}(a:i<n)(b:j<n)(h:rd L D rk i=rd L D rk j):i=j:=by
 obtain⟨r,e⟩:=aXS (D:=D) o a;obtain⟨d,c⟩:=aXS (D:=D) o b;rw[e,c]at h;have:=(cZV h rfl).2;injection this with z _;have:=congrArg Prod.snd z;simp only at this;omega
def bVv(o:Ok n L rk){i:Nat}(a:i<n):∃r,rd L D rk i=(D (tp L rk i),((tp L rk i:Nat):Int))::r:=
 aXy o (P:=λi=>∃r,rd L D rk i=(D (tp L rk i),((tp L rk i:Nat):Int))::r) (λi a h=>⟨[],by rw[X8 h,wC h]⟩)
  (λi j a h ⟨r,e⟩=>⟨r++ [(D i,(i:Int))],by rw[uD o a h,uI o a h,e];rfl⟩) (rk i) i (bYS _) a
def Un(L:Nat->Option Nat)(D:Nat->Int)(rk:Nat->Nat)(v z:Nat):Prop:=rd L D rk v<+:rd L D rk z
def bKu(o:Ok n L rk){i:Nat}(a:i<n):Un L D rk (tp L rk i) i:=by
 obtain⟨r,e⟩:=bVv (D:=D) o a;have h:=(bQ0 o a).2;unfold Un;rw[X8 h,e];exact⟨r,rfl⟩
def bZX(o:Ok n L rk){v:Nat}(q:v<n):∀ {k:Nat},k<n->Un L D rk v k->k≠v->∃c,c<n/\L c=some v/\Un L D rk c k:=λ{k} a g b=>by
 refine aXy o (P:=λk=>Un L D rk v k->k≠v->∃c,c<n/\L c=some v/\Un L D rk c k) (λk a h g b=>?_) (λk p a h u g b=>?_) (rk k) k (bYS _) a g b
 ·obtain⟨r,e⟩:=g;obtain⟨j,m⟩:=aXS (D:=D) o q;rw[X8 h,m]at e;have hl:=congrArg cXT e;simp only[bY8,cQK,cXW]at hl;have w:j= []:=cXz (by omega);have t:r= []:=cXz (by omega);rw[w,t]at e;injection e with z _;have:=congrArg Prod.snd z;simp only at this;omega
 ·obtain⟨y,_⟩:=o.lt k p a h;have d:=g;unfold Un at d;rw[uD o a h]at d;by_cases f:p=v
  ·subst f;exact⟨k,a,h,List.prefix_refl _⟩
  ·have i:Un L D rk v p:=by
    obtain⟨r,e⟩:=d;rcases List.eq_nil_or_concat r with rfl|⟨j,x,rfl⟩
    ·rw[cQO]at e;obtain⟨j,m⟩:=aXS (D:=D) o q;rw[m]at e;have:=(cZV e rfl).2;injection this with z _;have:=congrArg Prod.snd z;simp only at this;omega
    ·rw[List.concat_eq_append,<- cQ1]at e;exact⟨j,(cZV e rfl).1⟩
   obtain⟨c,s,hl,l⟩:=u i f;refine⟨c,s,hl,?_⟩;unfold Un;rw[uD o a h];exact List.IsPrefix.trans l (List.prefix_append _ _)
def bKt(o:Ok n L rk){v z:Nat}(c:v<n)(hz:z<n)(h:Un L D rk v z)(a:z≠v):jL (rd L D rk v) (rd L D rk z)=true:=by
 obtain⟨r,e⟩:=h;rw[<- e];refine Stree.aVK _ λb=>a ?_;rw[b,cQO]at e;exact(aY2 o c hz e).symm
def bKf(o:Ok n L rk){v c d z:Nat}(h:c<n)(g:d<n)(b:L c=some v)(i:L d=some v)(a:wG (D c,(c:Int)) (D d,(d:Int))=true)(f:Un L D rk c z):jL (rd L D rk z) (rd L D rk d)=true:=by
 obtain⟨r,e⟩:=f;rw[<- e,uD o h b,uD o g i,cQ1];exact Stree.aZL _ a
structure aJm(n:Nat)(L:Nat->Option Nat)(D:Nat->Int)(rk:Nat->Nat)(root:Nat)(told nx:List Nat):Prop where
 tl:∀x∈told,x<n/\tp L rk x=root
 al:∀x∈nx,x<n/\tp L rk x=root
 tt:told.Pairwise λx y=>jL (rd L D rk x) (rd L D rk y)=true
 ta:∀x∈told,∀y∈nx,jL (rd L D rk x) (rd L D rk y)=true
 aa:nx.Pairwise λx y=>∀z,Un L D rk x z->jL (rd L D rk z) (rd L D rk y)=true
 all:∀k,k<n->tp L rk k=root->k∈told\/∃a∈nx,Un L D rk a k
def aJm.start(o:Ok n L rk){i:Nat}(b:i<n):aJm n L D rk (tp L rk i) [] [tp L rk i]:=by
 have h:=bQ0 o b;refine⟨λx a=>(nomatch a),λx a=>?_,.nil,λx a=>(nomatch a),cXb _ _,λk c e=> .inr ⟨_,bY2.mpr rfl,?_⟩⟩
 ·rw[bY2.mp a];exact⟨h.1,by rw[wC h.2]⟩
 ·have z:=bKu (D:=D) o c;rw[e]at z;exact z
def aJm.step(o:Ok n L rk){j v:Nat}{m jX z9:List Nat}(W:aJm n L D rk j m (v::jX))(E:∀i,i∈z9↔i<n/\L i=some v)(H:z9.Pairwise λx y=>wG (D x,(x:Int)) (D y,(y:Int))=true):aJm n L D rk j (m++ [v]) (z9++jX):=by
 obtain⟨B,p⟩:=W.al v bY0;obtain⟨G,I⟩:=cXc.mp W.aa;have b:∀c∈z9,c<n/\L c=some v/\tp L rk c=j/\Un L D rk v c/\c≠v:=λc l=>by
  obtain⟨t,s⟩:=(E c).mp l;refine⟨t,s,by rw[uI o t s];exact p,?_,λz=>?_⟩
  ·unfold Un;rw[uD o t s];exact List.prefix_append _ _
  ·have:=(o.lt c v t s).2;rw[z]at this;omega
 have self:∀x,Un L D rk x x:=λx=>List.prefix_refl _;refine⟨λx f=>?_,λx f=>?_,?_,λx f y g=>?_,?_,λk q A=>?_⟩
 ·rcases cQp.mp f with f|f
  ·exact W.tl x f
  ·rw[bY2.mp f];exact⟨B,p⟩
 ·rcases cQp.mp f with f|f
  ·exact⟨(b x f).1,(b x f).2.2.1⟩
  ·exact W.al x (bYX _ f)
 ·refine cJy.mpr ⟨W.tt,cXb _ _,λx f y g=>?_⟩;rw[bY2.mp g];exact W.ta x f v bY0
 ·have r:∀y∈z9++jX,jL (rd L D rk v) (rd L D rk y)=true:=λy g=>by
   rcases cQp.mp g with g|g
   ·exact bKt o B (b y g).1 (b y g).2.2.2.1 (b y g).2.2.2.2
   ·exact G y g v (self v)
  rcases cQp.mp f with f|f
  ·exact Stree.X4 (W.ta x f v bY0) (r y g)
  ·rw[bY2.mp f];exact r y g
 ·refine cJy.mpr ⟨H.imp_of_mem λ{c d} l hd h z u=>bKf o (b c l).1 (b d hd).1 (b c l).2.1 (b d hd).2.1 h u,I,λc l y g z u=>?_⟩;exact G y g z (List.IsPrefix.trans (b c l).2.2.2.1 u)
 ·rcases W.all k q A with h|⟨a,C,F⟩
  ·exact .inl (cXI _ h)
  ·rcases bYU.mp C with rfl|C
   ·by_cases e:k=a
    ·exact .inl (bY9 _ (bY2.mpr e))
    ·obtain⟨c,l,hl,w⟩:=bZX o B q F e;exact .inr ⟨c,cXI _ ((E c).mpr ⟨l,hl⟩),w⟩
   ·exact .inr ⟨a,bY9 _ C,F⟩
def aJm.nodup{b:Nat}{a nx:List Nat}(W:aJm n L D rk b a nx):a.Nodup:=
 W.tt.imp λ{x y} h z=>by rw[z,Stree.vQ]at h;cases h
def wP:∀ {n:Nat} {l:List Nat},l.Nodup->(∀x∈l,x<n)->l.length<=n
 |0,[],_,_=>bYS _
 |0,x::_,_,h=>absurd (h x bY0) (cXx _)
 |n+1,l,nd,h=>by
  by_cases b:n∈l
  ·have c:=wP (n:=n) (l:=l.erase n) (nd.erase n) λx a=>by
    have:=(cVa nd).mp a;have:=h x this.2;omega
   rw[cVb b]at c;omega
  ·have c:=wP (n:=n) (l:=l) nd λx a=>by
    have:=h x a;have:x≠n:=λz=>b (z ▸ a);omega
   omega
def aJm.len{b:Nat}{a nx:List Nat}(W:aJm n L D rk b a nx):a.length<=n:=wP W.nodup λx c=>(W.tl x c).1
def aJm.done{b:Nat}{c:List Nat}(W:aJm n L D rk b c [])(k:Nat):k∈c↔k<n/\tp L rk k=b:=
 ⟨λh=>W.tl k h,λ⟨d,f⟩=>(W.all k d f).elim id λ⟨a,e,_⟩=>nomatch e⟩
end
end Fm
namespace Fm
open Stree (qQ jL wG)
section
variable {n:Nat}{L:Nat->Option Nat}{D:Nat->Int}{rk rk':Nat->Nat}
def aY3(o:Ok n L rk)(b:Ok n L rk'){i:Nat}(a:i<n):rd L D rk i=rd L D rk' i:=by
 unfold rd;rw[jO o (rk i) (max (rk i) (rk' i)) i a (bYS _) (Nat.le_max_left _ _),jO b (rk' i) (max (rk i) (rk' i)) i a (bYS _) (Nat.le_max_right _ _)]
def qO(o:Ok n L rk)(b:Ok n L rk'){i:Nat}(a:i<n):tp L rk i=tp L rk' i:=by
 unfold tp;rw[jT o (rk i) (max (rk i) (rk' i)) i a (bYS _) (Nat.le_max_left _ _),jT b (rk' i) (max (rk i) (rk' i)) i a (bYS _) (Nat.le_max_right _ _)]
def bVw(o:Ok n L rk){i:Nat}(c:i<n):∃l:List Nat,(rd L D rk i).map (·.2)=l.map (λk:Nat=>(k:Int))/\l.Nodup/\(∀k∈l,k<n/\rk k<=rk i):=
 aXy o (P:=λi=>∃l:List Nat,(rd L D rk i).map (·.2)=l.map (λk:Nat=>(k:Int))/\l.Nodup/\(∀k∈l,k<n/\rk k<=rk i)) (λi c h=>⟨[i],by rw[X8 h];rfl,by simp,λk d=>by rw[bY2.mp d];exact⟨c,bYS _⟩⟩)
  (λi j c h ⟨l,e,nd,hl⟩=>by
   obtain⟨p,m⟩:=o.lt i j c h;refine⟨l++ [i],by rw[uD o c h,cQ5,cQ5,e];rfl,?_,λk d=>?_⟩
   ·rw[cZe];refine⟨nd,by simp,λa g b f z=>?_⟩;rw[bY2.mp f]at z;have:=(hl a g).2;rw[z]at this;omega
   ·rcases cQp.mp d with d|d
    ·have:=hl k d;exact⟨this.1,by omega⟩
    ·rw[bY2.mp d];exact⟨c,bYS _⟩) (rk i) i (bYS _) c
def bW6(o:Ok n L rk){i:Nat}(b:i<n):(rd L D rk i).length<=n:=by
 obtain⟨l,e,a,hl⟩:=bVw (D:=D) o b;have h:=congrArg cXT e;rw[bYP,bYP]at h;rw[h];exact wP a λk c=>(hl k c).1
def bJV(o:Ok n L rk){a b:Nat}(ha:a<n)(hb:b<n)(h0:L a=none)(hne:tp L rk b≠a):Ok n (λi=>if i=a then some b else L i) (λi=>if tp L rk i=a then rk i+rk b+1 else rk i) where
 lt:=λi j hi h=>by
  by_cases e:i=a
  ·subst e
   rw[if_pos rfl]at h
   cases h
   rw[if_neg hne,if_pos (wC h0)]
   exact⟨hb,by omega⟩
  ·rw[if_neg e]at h
   obtain⟨hj,hr⟩:=o.lt i j hi h
   have et:=uI o hi h
   refine⟨hj,?_⟩
   rw[et]
   split<;> omega
def bXD(o:Ok n L rk)(a:Nat):Ok n (λi=>if i=a then none else L i) rk where
 lt:=λi j hi h=>by
  by_cases e:i=a
  ·rw[if_pos e]at h;cases h
  ·rw[if_neg e]at h;exact o.lt i j hi h
def bJy(rk:Nat->Nat):Option Nat->Nat
 |none=>0
 |some j=>rk j+1
def bXi(o:Ok n L rk)(l:Option Nat)(hl:∀j,l=some j->j<n):Ok (n+1) (λi=>if i=n then l else L i) (λi=>if i=n then bJy rk l else rk i) where
 lt:=λi j hi h=>by
  by_cases e:i=n
  ·rw[if_pos e]at h
   have hj:=hl j h
   rw[if_pos e,if_neg (by omega),h]
   exact⟨by omega,cXC _⟩
  ·rw[if_neg e]at h
   obtain⟨hj,hr⟩:=o.lt i j (by omega) h
   rw[if_neg e,if_neg (by omega)]
   exact⟨by omega,hr⟩
def bWd(o:Ok n L rk){i:Nat}(a:i<n):tp L rk (tp L rk i)=tp L rk i:=wC (bQ0 o a).2
def Ok.congr{b:Nat->Option Nat}(o:Ok n L rk)(h:∀i,i<n->L i=b i):Ok n b rk:=⟨λi j a e=>o.lt i j a ((h i a).trans e)⟩
end
end Fm
namespace Dm
def opn(d:Int):Bool:=decide (d % 7<5)
def cts(a:List Int)(d:Int):Bool:=opn d && !(a.contains d)
def cnt(b:List Int)(a:Int):Nat->Nat
 |0=>0
 |n+1=>cnt b a n+(if cts b (a+n)then 1 else 0)
def place(d:Int):Int:=d / 7*5+(if 4<d % 7 then 4 else d % 7)
def zP(p:Int):Int:=p / 5*7+p % 5
def aKf(d:Int):place d=place (d - 1)+(if opn d then 1 else 0):=by
 unfold place opn;simp only[decide_eq_true_eq];split<;> split<;> split<;> omega
def bJJ(b:List Int)(a:Int)(n m:Nat):cnt b a (n+m)=cnt b a n+cnt b (a+n) m:=by
 induction m with
 |zero=>rfl
 |succ m d=>have e:cnt b a (n+(m+1))=cnt b a (n+m)+(if cts b (a+((n+m:Nat):Int))then 1 else 0):=rfl;have c:cnt b (a+n) (m+1)=cnt b (a+n) m+(if cts b (a+n+(m:Int))then 1 else 0):=rfl;rw[e,c,d,show a+((n+m:Nat):Int)=a+n+(m:Int) by omega];omega
def vC(a b:Int)(d:Int):Bool:=decide (a<=d) && decide (d<=b)
def aJF{S:List Int}(i:S.Nodup)(a b:Int)(h:a<=b+1): (S.filter (vC a (b+1))).length=(S.filter (vC a b)).length+(if S.contains (b+1)then 1 else 0):=by
 induction S with
 |nil=>rfl
 |cons x r d=>
  have c:=cXY.mp i;have d:=d c.2;by_cases k:x=b+1
  ·subst k;have j:r.contains (b+1)=false:=by
    rw[<- Bool.not_eq_true,cXm];exact c.1
   rw[j]at d;have f:vC a (b+1) (b+1)=true:=by simp[vC,h]
   have g:vC a b (b+1)=false:=by simp[vC];omega
   rw[cXs f,cXr (by rw[g];decide)];simp at d ⊢;omega
  ·have f:vC a (b+1) x=vC a b x:=by
    unfold vC;have:decide (x<=b+1)=decide (x<=b):=by rw[decide_eq_decide];omega
    rw[this]
   have g:(x::r).contains (b+1)=r.contains (b+1):=by
    rw[cX8];have:(b+1==x)=false:=by simp;omega
    rw[this,Bool.false_or]
   rw[g];by_cases e:vC a b x=true
   ·rw[cXs (by rw[f];exact e),cXs e];simp only[cQK];omega
   ·rw[cXr (by rw[f];exact e),cXr e];exact d
def aWz{b S:List Int}(e:S.Nodup)(i:∀d,d∈S↔d∈b/\opn d=true)(a:Int)(n:Nat): (cnt b a n:Int)=place (a+n - 1) - place (a - 1) - ((S.filter (vC a (a+n - 1))).length:Nat):=by
 induction n with
 |zero=>
  have:S.filter (vC a (a+(0:Nat) - 1))= []:=by rw[List.filter_eq_nil_iff];intro x _;simp[vC];omega
  rw[this];simp[cnt]
 |succ n j=>
  have f:=aJF e a (a+n - 1) (by omega);rw[show a+(n:Int) - 1+1=a+n by omega]at f;have p:=aKf (a+n);rw[show a+((n+1:Nat):Int) - 1=a+n by omega];show((cnt b a n+(if cts b (a+n)then 1 else 0):Nat):Int)=_;have c:(if cts b (a+n)then 1 else 0:Nat)+(if S.contains (a+n)then 1 else 0:Nat)=(if opn (a+n)then 1 else 0:Nat):=by
   have h:S.contains (a+n)=(b.contains (a+n) && opn (a+n)):=by rw[Bool.eq_iff_iff,cXm,Bool.and_eq_true,cXm];exact i _
   rw[h];unfold cts;cases opn (a+↑n)<;> cases b.contains (a+↑n)<;> rfl
  have g:place (a+n)=place (a+n - 1)+((if opn (a+n)then 1 else 0:Nat):Int):=by rw[p];cases opn (a+↑n)<;> rfl
  rw[g,f];push_cast;omega
def aJ1(p:Int):place (zP p)=p:=by
 unfold place zP;split<;> omega
def aZT(p:Int):opn (zP p)=true:=by
 unfold opn zP;rw[decide_eq_true_eq];omega
def bXd{p q:Int}(h:p<q):zP p<zP q:=by
 unfold zP;omega
def bXc{p q:Int}(h:p<=q):zP p<=zP q:=by
 unfold zP;omega
def aJB(d:Int):d<zP (place d+1):=by
 unfold place zP;split<;> omega
def uT(date:Int)(p c:Int):Int:=if date<c/\c<=zP p then p+1 else p
def aXF(date:Int)(p:Int)(C:List Int):Int:=C.foldl (uT date) p
def vG(date e:Int)(c:Int):Bool:=decide (date<c) && decide (c<=e)
def aVB{date:Int}(g:Int):∀ (d b:List Int)(p:Int),(b++d).Pairwise (·<·)->
  p=g+((b.filter (vG date (zP p))).length:Nat)->(∀c∈b,date<c->c≠zP p)->g<=p->
  ∃q,aXF date p d=q/\q=g+(((b++d).filter (vG date (zP q))).length:Nat)/\(∀c∈b++d,date<c->c≠zP q)/\g<=q
 |[],b,p,_,h1,h2,h3=>⟨p,rfl,by rw[cQO];exact h1,by rw[cQO];exact h2,h3⟩
 |c::d,b,p,hs,h1,h2,h3=>by
  have f:((b++ [c])++d).Pairwise (·<·):=by rw[cQ1];exact hs
  have lt:∀x∈b,x<c:=λx a=>(cJy.mp hs).2.2 x a c (bY0 ..);have fin:=aVB (date:=date) g d (b++ [c]);have step:aXF date p (c::d)=aXF date (uT date p c) d:=rfl;rw[step,show b++c::d=(b++ [c])++d by simp];by_cases j:date<c/\c<=zP p
  ·have e:uT date p c=p+1:=if_pos j;rw[e];have up:=bXd (show p<p+1 by omega);refine fin (p+1) f ?_ ?_ (by omega)
   ·have k:b.filter (vG date (zP (p+1)))=b.filter (vG date (zP p)):=by
     refine cJY λx a=>?_;have:=lt x a;unfold vG;have q:decide (x<=zP (p+1))=decide (x<=zP p):=by rw[decide_eq_decide];omega
     rw[q]
    have h:vG date (zP (p+1)) c=true:=by simp[vG];omega
    rw[cQW,k,cXs h,bY8];simp only[List.filter_nil,cQK,cXW];omega
   ·intro x a i;rcases cQp.mp a with a|a
    ·have:=lt x a;omega
    ·have:x=c:=by simpa using a
     omega
  ·have e:uT date p c=p:=if_neg j;rw[e];refine fin p f ?_ ?_ h3
   ·have h:vG date (zP p) c=false:=by simp[vG];omega
    rw[cQW,cXr (by rw[h];decide)];simpa using h1
   ·intro x a i;rcases cQp.mp a with a|a
    ·exact h2 x a i
    ·have:x=c:=by simpa using a
     omega
structure Due(sh:List Int)(date term D:Int):Prop where
 later:date<D
 cts:cts sh D=true
 cnt:(cnt sh (date+1) (D - date).toNat:Int)=term
def bZ8{g C:List Int}{date term:Int}(p:1<=term)(c:C.Pairwise (·<·))(f:∀d,d∈C↔d∈g/\opn d=true): Due g date term (zP (aXF date (place date+term) C)):=by
 obtain⟨q,e,l,b,o⟩:=aVB (date:=date) (place date+term) C [] (place date+term) (by simpa using c) (by simp) (by simp) (Int.le_refl _);rw[e];rw[List.nil_append]at l b;have a:date<zP q:=Int.lt_of_lt_of_le (aJB date) (bXc (by omega));refine⟨a,?_,?_⟩
 ·unfold Dm.cts;rw[aZT,Bool.true_and,Bool.not_eq_true'];rw[<- Bool.not_eq_true,cXm];exact λz=>b _ ((f _).mpr ⟨z,aZT q⟩) a rfl
 ·have m:C.Nodup:=c.imp λh=>by omega
  have k:=aWz m f (date+1) (zP q - date).toNat;have j:date+1+((zP q - date).toNat:Int) - 1=zP q:=by omega
  have i:date+1 - 1=date:=by omega
  rw[j,i,aJ1]at k;have n:C.filter (vC (date+1) (zP q))=C.filter (vG date (zP q)):=by
   refine cJY λx _=>?_;unfold vC vG;have:decide (date+1<=x)=decide (date<x):=by rw[decide_eq_decide];omega
   rw[this]
  rw[n]at k;omega
def bQ8(b:List Int)(a:Int){n m:Nat}(h:n<=m):cnt b a n<=cnt b a m:=by
 obtain⟨k,rfl⟩:=Nat.le.dest h;rw[bJJ];omega
def Due.less{a:List Int}{date term D:Int}(u:Due a date term D){n:Nat}(h:date+n<D):(Dm.cnt a (date+1) n:Int)<term:=by
 have e:(D - date).toNat=((D - date).toNat - 1)+1:=by have:=u.later;omega
 have k:=u.cnt;rw[e]at k;have b:Dm.cnt a (date+1) (((D - date).toNat - 1)+1)=Dm.cnt a (date+1) ((D - date).toNat - 1)+(if Dm.cts a (date+1+(((D - date).toNat - 1:Nat):Int))then 1 else 0):=rfl;have c:date+1+(((D - date).toNat - 1:Nat):Int)=D:=by have:=u.later;omega
 rw[c,u.cts]at b;have m:=bQ8 a (date+1) (show n<=(D - date).toNat - 1 by omega);simp only[if_true]at b;omega
def Due.uniq{d:List Int}{date term D c:Int}(u:Due d date term D)(v:Due d date term c):D=c:=by
 have a:=u.later;have b:=v.later;have e:¬D<c:=λh=>by have:=v.less (n:=(D - date).toNat) (by omega);have:=u.cnt;omega
 have f:¬c<D:=λh=>by have:=u.less (n:=(c - date).toNat) (by omega);have:=v.cnt;omega
 omega
end Dm
namespace Bk
open PySem (Str)
open Stree (qQ jL wG)
structure Row where
 way:Str
 date:Int
 partner:Str
 term:Int
 link:Option Nat
 place:Str
 void:Bool
 copies:List Str
abbrev Rows:=List Row
def lk(R:Rows)(i:Nat):Option Nat:=(R[i]?).bind (·.link)
def dt(R:Rows)(i:Nat):Int:=((R[i]?).map (·.date)).getD 0
def wW(R:Rows)(m:Int):Bool:=decide (0<=m) && (match R[m.toNat]? with|some r=> !r.void|none=>false)
def wJ{R:Rows}{m:Int}(h:wW R m=true):∃ (k:Nat)(r:Row),m=(k:Int)/\k<R.length/\R[k]? =some r/\r.void=false:=by
 unfold wW at h;rw[Bool.and_eq_true,decide_eq_true_eq]at h;obtain⟨c,a⟩:=h;cases e:R[m.toNat]? with
 |none=>rw[e]at a;cases a
 |some r=>rw[e]at a;refine⟨m.toNat,r,by omega,(bYW.mp e).1,e,?_⟩;have b:(!r.void)=true:=a;simpa using b
def jF(R:Rows):Prop:=∃a,Fm.Ok R.length (lk R) a
def wI(R:Rows)(i:Nat)(l:List Nat):Prop:=∃a,Fm.Ok R.length (lk R) a/\(l.Pairwise λx y=>jL (Fm.rd (lk R) (dt R) a x) (Fm.rd (lk R) (dt R) a y)=true)/\∀k,k∈l↔k<R.length/\Fm.tp (lk R) a k=Fm.tp (lk R) a i
def wI.uniq{R:Rows}{i:Nat}{l m:List Nat}(q:i<R.length)(g:wI R i l)(f:wI R i m):l=m:=by
 obtain⟨n,o,p,e⟩:=g;obtain⟨s,d,r,j⟩:=f;refine Stree.uniq (lt:=λx y=>jL (Fm.rd (lk R) (dt R) n x) (Fm.rd (lk R) (dt R) n y)=true) (λa h=>by rw[Stree.vQ]at h;cases h) (λa b c g f=>Stree.X4 g f) p ?_ λk=>?_
 ·refine r.imp_of_mem λ{x y} hx hy h=>?_;rw[Fm.aY3 o d ((j x).mp hx).1,Fm.aY3 o d ((j y).mp hy).1];exact h
 ·rw[e k,j k];constructor
  ·rintro⟨a,b⟩;exact⟨a,by rw[<- Fm.qO o d a,<- Fm.qO o d q];exact b⟩
  ·rintro⟨a,b⟩;exact⟨a,by rw[Fm.qO o d a,Fm.qO o d q];exact b⟩
def z9(R:Rows)(i:Nat):List Nat:=(bYY R.length).filter λk=>decide (lk R k=some i)
def Q1(R:Rows)(i:Nat)(d:Int):Bool:=match R[i]? with
 |none=>false
 |some r=> !r.void && decide (1<=r.term) && decide (r.date<=d) && (z9 R i).all λk=>decide (d<dt R k)
def xO(R:Rows)(i:Nat)(f:Row->Row):Rows:=match R[i]? with
 |some r=>R.set i (f r)
 |none=>R
def zU(R:Rows)(i:Nat)(f:Row->Row):(xO R i f).length=R.length:=by unfold xO;split<;> simp
def zM(R:Rows)(i j:Nat)(f:Row->Row):(xO R i f)[j]? =if j=i then(R[j]?).map f else R[j]? :=by
 unfold xO;by_cases e:j=i
 ·subst e;rw[if_pos rfl];cases h:R[j]? with
  |none=>simp[h]
  |some r=>have a:j<R.length:=(bYW.mp h).1;simp[cZG a]
 ·rw[if_neg e];cases h:R[i]? with
  |none=>rfl
  |some r=>simp[cJx (cQu e)]
def laid(R:Rows)(l:List Nat)(name:Str):Rows:=l.foldl (λR k=>xO R k λr=>{r with place:=name}) R
def qY(R:Rows)(i:Nat)(f:Row->Row)(h:∀r,(f r).link=r.link):lk (xO R i f)=lk R:=by
 funext j;unfold lk;rw[zM];by_cases e:j=i
 ·rw[if_pos e];cases R[j]? with
  |none=>rfl
  |some r=>exact h r
 ·rw[if_neg e]
def wY(name:Str):∀ (l:List Nat)(R:Rows),(laid R l name).length=R.length
 |[],R=>rfl
 |k::l,R=>by show(laid (xO R k _) l name).length=_;rw[wY name l,zU]
def aQr(name:Str):∀ (l:List Nat)(R:Rows),lk (laid R l name)=lk R
 |[],R=>rfl
 |k::l,R=>by show lk (laid (xO R k _) l name)=_;rw[aQr name l,qY R k (λr=>{r with place:=name}) λ_=>rfl]
def v9(name:Str):∀ (l:List Nat)(R:Rows)(j:Nat),(laid R l name)[j]? =if j∈l then(R[j]?).map (λr=>{r with place:=name})else R[j]?
 |[],R,j=>by simp[laid]
 |k::l,R,j=>by
  show(laid (xO R k _) l name)[j]? =_;rw[v9 name l,zM];by_cases e:j=k
  ·subst e;rw[if_pos rfl,if_pos bY0];split
   ·cases R[j]? <;> rfl
   ·rfl
  ·rw[if_neg e];by_cases hl:j∈l
   ·rw[if_pos hl,if_pos (bYX _ hl)]
   ·rw[if_neg hl,if_neg (by simp[e,hl])]
def jF.laid{R:Rows}(t:jF R)(l:List Nat)(name:Str):jF (laid R l name):=by
 obtain⟨a,o⟩:=t;refine⟨a,?_⟩;rw[wY,aQr];exact o
def jF.same{R:Rows}(t:jF R)(i:Nat)(f:Row->Row)(h:∀r,(f r).link=r.link):jF (xO R i f):=by
 obtain⟨a,o⟩:=t;refine⟨a,?_⟩;rw[zU,qY R i f h];exact o
def aVL(R:Rows){i:Nat}(a:i<R.length)(f:Row->Row)(l:Option Nat)(h:∀r,(f r).link=l):lk (xO R i f)=λj=>if j=i then l else lk R j:=by
 funext j;unfold lk;rw[zM];by_cases e:j=i
 ·subst e;rw[if_pos rfl,if_pos rfl,bYK a];exact h _
 ·rw[if_neg e,if_neg e]
def jF.loose{R:Rows}(t:jF R){i:Nat}(b:i<R.length)(f:Row->Row)(h:∀r,(f r).link=none):jF (xO R i f):=by
 obtain⟨a,o⟩:=t;refine⟨a,?_⟩;rw[zU,aVL R b f none h];exact Fm.bXD o i
def jF.hang{R:Rows}{rk:Nat->Nat}(o:Fm.Ok R.length (lk R) rk){i j:Nat}(b:i<R.length)(c:j<R.length)(h0:lk R i=none)(a:Fm.tp (lk R) rk j≠i)(f:Row->Row)(h:∀r,(f r).link=some j):jF (xO R i f):=by
 refine⟨λk=>if Fm.tp (lk R) rk k=i then rk k+rk j+1 else rk k,?_⟩;rw[zU,aVL R b f (some j) h];exact Fm.bJV o b c h0 a
def bJ2(R:Rows)(r:Row):∀i,i<R.length+1->lk (R++ [r]) i=if i=R.length then r.link else lk R i:=λi a=>by
 unfold lk;by_cases e:i=R.length
 ·subst e;rw[if_pos rfl,cQb (bYS _)];simp
 ·rw[if_neg e,cQs (by omega)]
def jF.enter{R:Rows}(t:jF R)(r:Row)(h:∀j,r.link=some j->j<R.length):jF (R++ [r]):=by
 obtain⟨a,o⟩:=t;have z:=Fm.bXi o r.link h;refine⟨λi=>if i=R.length then Fm.bJy a r.link else a i,?_⟩;rw[bY8,cQY];exact z.congr λi b=>(bJ2 R r i b).symm
end Bk
namespace Bk
open PySem (Str)
open Stree (qQ jL wG)
def bQF{n:Nat}{L:Nat->Option Nat}{D:Nat->Int}{rk:Nat->Nat}(o:Fm.Ok n L rk):∀l:List Nat,l.Nodup->(∀k∈l,k<n)->∃m:List Nat,m.Perm l/\m.Pairwise λx y=>jL (Fm.rd L D rk x) (Fm.rd L D rk y)=true
 |[],_,_=>⟨[],.refl _,.nil⟩
 |x::l,nd,h=>by
  obtain⟨m,i,s⟩:=bQF (D:=D) o l (cXY.mp nd).2 λk c=>h k (bYX _ c);have t:x<n:=h x bY0;have g:∀k∈m,k<n/\k≠x:=λk c=>⟨h k (bYX _ (i.mem_iff.mp c)),λz=>(cXY.mp nd).1 (by rw[<- z];exact i.mem_iff.mp c)⟩;have ins:∀m:List Nat,(∀k∈m,k<n/\k≠x)->(m.Pairwise λx y=>jL (Fm.rd L D rk x) (Fm.rd L D rk y)=true)->∃d:List Nat,d.Perm (x::m)/\d.Pairwise λx y=>jL (Fm.rd L D rk x) (Fm.rd L D rk y)=true:=by
   intro m;induction m with
   |nil=>intro _ _;exact⟨[x],.refl _,cXb _ _⟩
   |cons y m r=>
    intro q j;obtain⟨a,b⟩:=cXc.mp j;have p:=q y bY0;rcases Stree.aXN (λz=>p.2 (Fm.aY2 o p.1 t z):Fm.rd L D rk y≠Fm.rd L D rk x)with z|z
    ·obtain⟨d,e,f⟩:=r (λk c=>q k (bYX _ c)) b;refine⟨y::d,(List.Perm.cons _ e).trans (List.Perm.swap _ _ _),cXc.mpr ⟨λk c=>?_,f⟩⟩;rcases bYU.mp (e.mem_iff.mp c)with rfl|c
     ·exact z
     ·exact a k c
    ·refine⟨x::y::m,.refl _,cXc.mpr ⟨λk c=>?_,j⟩⟩;rcases bYU.mp c with rfl|c
     ·exact z
     ·exact Stree.X4 z (a k c)
  obtain⟨d,e,f⟩:=ins m g s;exact⟨d,e.trans (List.Perm.cons _ i),f⟩
def bQZ{R:Rows}(t:jF R)(i:Nat):∃l,wI R i l:=by
 obtain⟨a,o⟩:=t;obtain⟨m,b,d⟩:=bQF (D:=dt R) o ((bYY R.length).filter λk=>decide (Fm.tp (lk R) a k=Fm.tp (lk R) a i)) (cZW.sublist cXN) λk c=>cQn.mp (cQT.mp c).1;refine⟨m,a,o,d,λk=>?_⟩;rw[b.mem_iff,cQT,cQn,decide_eq_true_eq]
open Classical in
noncomputable def thr (R:Rows) (i:Nat):List Nat:=if h:∃l,wI R i l then choose h else []
def J2{R:Rows}(t:jF R)(i:Nat):wI R i (thr R i):=by
 have h:=bQZ t i;unfold thr;rw[dif_pos h];exact cJq h
def aJh{R:Rows}{i:Nat}(b:i<R.length){l:List Nat}(h:wI R i l):thr R i=l:=
 wI.uniq b (by obtain⟨a,o,_⟩:=h;exact J2 ⟨a,o⟩ i) h
open Classical in
noncomputable def due (shut:List Int) (d t:Int):Int:=if h:∃D,Dm.Due shut d t D then choose h else d
def bZ7{shut:List Int}{d t D:Int}(h:Dm.Due shut d t D):due shut d t=D:=by
 have a:∃D,Dm.Due shut d t D:=⟨D,h⟩;unfold due;rw[dif_pos a];exact(cJq a).uniq h
structure aKL(R:Rows)(shut:List Int)(d:Int)(late:Bool)(l:List Nat):Prop where
 mem:∀k,k∈l↔k<R.length/\Q1 R k d=true/\(late=true->due shut (dt R k) (((R[k]?).map (·.term)).getD 0)<d)
 ord:l.Pairwise λx y=>wG (due shut (dt R x) (((R[x]?).map (·.term)).getD 0),(x:Int)) (due shut (dt R y) (((R[y]?).map (·.term)).getD 0),(y:Int))=true
def aKL.uniq{R:Rows}{shut:List Int}{d:Int}{e:Bool}{l m:List Nat}(f:aKL R shut d e l)(g:aKL R shut d e m):l=m:=
 Stree.uniq (lt:=λx y=>wG (due shut (dt R x) (((R[x]?).map (·.term)).getD 0),(x:Int)) (due shut (dt R y) (((R[y]?).map (·.term)).getD 0),(y:Int))=true) (λa h=>by rw[Stree.wZ]at h;cases h) (λa b c f g=>Stree.aXM f g) f.ord g.ord λk=>by rw[f.mem k,g.mem k]
inductive Ans where
 |num (n:Int)|txt (x:Str)|nums (l:List Nat)|txts (l:List Str)|row (r:Row)
inductive xP where
 |enter (way:Str) (day:Int) (who:Str) (term:Int)|reply (m:Int) (day term:Int)|hang (m o:Int)|loose (m:Int)|date (m d:Int)|term (m t:Int)
 |copy (m:Int) (who:Str)|file (m:Int) (name:Str)|void (m:Int)|shut (d:Int)|state (m:Int)|thread (m:Int)|copies (m:Int)|letters (name:Str)|on (late:Bool) (d:Int)
def uY(a:Str):Str:=if a="in" then "out" else "in"
inductive x2(R:Rows)(S:List Int):xP->Ans->Rows->List Int->Prop
 |enter {way who:Str} {d t:Int} (h:0<=t):x2 R S (.enter way d who t) (.num R.length) (R++ [⟨way,d,who,t,none,"",false,[]⟩]) S
 |enterT {way who:Str} {d t:Int} (h:t<0):x2 R S (.enter way d who t) (.txt "no term") R S
 |replyN {m d t:Int} (h:wW R m=false):x2 R S (.reply m d t) (.txt "no letter") R S
 |replyT {m d t:Int} (h:wW R m=true) (ht:t<0):x2 R S (.reply m d t) (.txt "no term") R S
 |replyE {k:Nat} {d t:Int} {r:Row} (hk:R[k]? =some r) (h:r.void=false) (ht:0<=t) (hd:d<r.date):x2 R S (.reply k d t) (.txt "too early") R S
 |reply {k:Nat} {d t:Int} {r:Row} (hk:R[k]? =some r) (h:r.void=false) (ht:0<=t) (hd:r.date<=d):x2 R S (.reply k d t) (.num R.length) (R++ [⟨uY r.way,d,r.partner,t,some k,r.place,false,[]⟩]) S
 |hangN {m o:Int} (h:wW R m=false\/wW R o=false):x2 R S (.hang m o) (.txt "no letter") R S
 |hangH {i j:Nat} {r q:Row} (hi:R[i]? =some r) (hv:r.void=false) (hj:R[j]? =some q) (hw:q.void=false) (h:r.link≠none):x2 R S (.hang i j) (.txt "has one") R S
 |hangO {i j:Nat} {r q:Row} (hi:R[i]? =some r) (hv:r.void=false) (hj:R[j]? =some q) (hw:q.void=false) (h:r.link=none) (ho:(thr R j).head? =some i):x2 R S (.hang i j) (.txt "own thread") R S
 |hangW {i j:Nat} {r q:Row} (hi:R[i]? =some r) (hv:r.void=false) (hj:R[j]? =some q) (hw:q.void=false) (h:r.link=none) (ho:(thr R j).head? ≠some i) (h1:r.way=q.way):x2 R S (.hang i j) (.txt "same way") R S
 |hangP {i j:Nat} {r q:Row} (hi:R[i]? =some r) (hv:r.void=false) (hj:R[j]? =some q) (hw:q.void=false) (h:r.link=none) (ho:(thr R j).head? ≠some i) (h1:r.way≠q.way) (h2:r.partner≠q.partner):x2 R S (.hang i j) (.txt "other partner") R S
 |hangE {i j:Nat} {r q:Row} (hi:R[i]? =some r) (hv:r.void=false) (hj:R[j]? =some q) (hw:q.void=false) (h:r.link=none) (ho:(thr R j).head? ≠some i) (h1:r.way≠q.way) (h2:r.partner=q.partner) (h3:r.date<q.date):x2 R S (.hang i j) (.txt "too early") R S
 |hang {i j:Nat} {r q:Row} (hi:R[i]? =some r) (hv:r.void=false) (hj:R[j]? =some q) (hw:q.void=false) (h:r.link=none) (ho:(thr R j).head? ≠some i) (h1:r.way≠q.way) (h2:r.partner=q.partner) (h3:q.date<=r.date):
   x2 R S (.hang i j) (.txt "hung") (xO (laid R (thr R i) q.place) i λr=>{r with link:=some j}) S
 |oneN {m:Int} {e:xP} (h:wW R m=false) (he:e= .loose m\/(∃d,e= .date m d)\/(∃t,e= .term m t)\/(∃w,e= .copy m w)\/(∃w,e= .file m w)\/e= .void m\/e= .state m\/e= .thread m\/e= .copies m):x2 R S e (.txt "no letter") R S
 |looseN {k:Nat} {r:Row} (hk:R[k]? =some r) (hv:r.void=false) (h:r.link=none):x2 R S (.loose k) (.txt "has none") R S
 |loose {k:Nat} {r:Row} (hk:R[k]? =some r) (hv:r.void=false) (h:r.link≠none):x2 R S (.loose k) (.txt "loose") (xO R k λr=>{r with link:=none}) S
 |dateE {k:Nat} {r:Row} {d:Int} (hk:R[k]? =some r) (hv:r.void=false) (h:(∃j,r.link=some j/\d<dt R j)\/∃c∈z9 R k,dt R c<d):x2 R S (.date k d) (.txt "too early") R S
 |date {k:Nat} {r:Row} {d:Int} (hk:R[k]? =some r) (hv:r.void=false) (h1:∀j,r.link=some j->dt R j<=d) (h2:∀c∈z9 R k,d<=dt R c):x2 R S (.date k d) (.txt "dated") (xO R k λr=>{r with date:=d}) S
 |termN {k:Nat} {r:Row} {t:Int} (hk:R[k]? =some r) (hv:r.void=false) (h:t<0):x2 R S (.term k t) (.txt "no term") R S
 |term {k:Nat} {r:Row} {t:Int} (hk:R[k]? =some r) (hv:r.void=false) (h:0<=t):x2 R S (.term k t) (.txt "set") (xO R k λr=>{r with term:=t}) S
 |copyC {k:Nat} {r:Row} {w:Str} (hk:R[k]? =some r) (hv:r.void=false) (h:w=r.partner\/w∈r.copies):x2 R S (.copy k w) (.txt "copied") R S
 |copy {k:Nat} {r:Row} {w:Str} (hk:R[k]? =some r) (hv:r.void=false) (h:w≠r.partner) (h2:w∉r.copies):x2 R S (.copy k w) (.num (r.copies.length+1)) (xO R k λr=>{r with copies:=r.copies++ [w] }) S
 |file {k:Nat} {r:Row} {w:Str} (hk:R[k]? =some r) (hv:r.void=false):x2 R S (.file k w) (.num (thr R k).length) (laid R (thr R k) w) S
 |voidA {k:Nat} {r:Row} (hk:R[k]? =some r) (hv:r.void=false) (h:z9 R k≠ []):x2 R S (.void k) (.txt "answered") R S
 |void {k:Nat} {r:Row} (hk:R[k]? =some r) (hv:r.void=false) (h:z9 R k= []):x2 R S (.void k) (.txt "void") (xO R k λr=>{r with link:=none,void:=true}) S
 |shutN {d:Int} (h:Dm.cts S d=false):x2 R S (.shut d) (.txt "counts not") R S
 |shut {d:Int} (h:Dm.cts S d=true):x2 R S (.shut d) (.txt "shut") R (S++ [d])
 |state {k:Nat} {r:Row} (hk:R[k]? =some r) (hv:r.void=false):x2 R S (.state k) (.row r) R S
 |thread {k:Nat} {r:Row} (hk:R[k]? =some r) (hv:r.void=false):x2 R S (.thread k) (.nums (thr R k)) R S
 |copies {k:Nat} {r:Row} (hk:R[k]? =some r) (hv:r.void=false):x2 R S (.copies k) (.txts r.copies) R S
 |letters {w:Str}:x2 R S (.letters w) (.nums ((bYY R.length).filter λk=>match R[k]? with|some r=> !r.void && decide (r.place=w)|none=>false)) R S
 |on {late:Bool} {d:Int} {l:List Nat} (h:aKL R S d late l):x2 R S (.on late d) (.nums l) R S
end Bk
namespace Bk
open PySem (Str)
open Stree (qQ jL wG)
def wI.head{R:Rows}{j:Nat}(i:j<R.length){l:List Nat}(h:wI R j l):∃c,Fm.Ok R.length (lk R) c/\l.head? =some (Fm.tp (lk R) c j):=by
 obtain⟨c,o,p,e⟩:=h;refine⟨c,o,?_⟩;have f:=Fm.bQ0 o i;have k:Fm.tp (lk R) c j∈l:=(e _).mpr ⟨f.1,Fm.bWd o i⟩;cases l with
 |nil=>cases k
 |cons x r=>
  by_cases z:x=Fm.tp (lk R) c j
  ·rw[z];rfl
  ·exfalso;obtain⟨a,b⟩:=cXc.mp p;have d:=(e x).mp bY0;have s:Fm.tp (lk R) c j∈r:=by
    rcases bYU.mp k with w|w
    ·exact absurd w.symm z
    ·exact w
   have n:=a _ s;have m:Fm.Un (lk R) (dt R) c (Fm.tp (lk R) c j) x:=by have:=Fm.bKu (D:=dt R) o d.1;rw[d.2]at this;exact this
   have q:=Fm.bKt o f.1 d.1 m z;have g:=Stree.X4 n q;rw[Stree.vQ]at g;cases g
def jS{R:Rows}(t:jF R){j:Nat}(b:j<R.length):∃a,Fm.Ok R.length (lk R) a/\(thr R j).head? =some (Fm.tp (lk R) a j):=(J2 t j).head b
def wO{R:Rows}{k:Nat}{r:Row}(h:R[k]? =some r):k<R.length:=(bYW.mp h).1
def uA{R:Rows}{k:Nat}{r:Row}(h:R[k]? =some r):lk R k=r.link:=by unfold lk;rw[h];rfl
def vK{R:Rows}{k:Nat}{r:Row}(h:R[k]? =some r):dt R k=r.date:=by unfold dt;rw[h];rfl
def x2.tree{R l:Rows}{S n:List Int}{e:xP}{a:Ans}(t:jF R)(h:x2 R S e a l n):jF l:=by
 cases h with
 |enter h=>exact t.enter _ λj c=>nomatch c
 |reply b h w x=>exact t.enter _ λj c=>by cases c;exact wO b
 |@hang i j r q m d c hw h u s k v=>
  obtain⟨g,o,p⟩:=jS t (wO c);have f:Fm.tp (lk R) g j≠i:=λz=>u (by rw[p,z]);refine jF.hang (R:=laid R (thr R i) q.place) (rk:=g) (i:=i) (j:=j) ?_ ?_ ?_ ?_ ?_ _ λ_=>rfl
  ·rw[wY,aQr];exact o
  ·rw[wY];exact wO m
  ·rw[wY];exact wO c
  ·rw[aQr,uA m];exact h
  ·rw[aQr];exact f
 |loose b d h=>exact t.loose (wO b) _ λ_=>rfl
 |date b d s k=>exact t.same _ _ λ_=>rfl
 |term b d h=>exact t.same _ _ λ_=>rfl
 |copy b d h k=>exact t.same _ _ λ_=>rfl
 |file b d=>exact t.laid _ _
 |void b d h=>exact t.loose (wO b) _ λ_=>rfl
 |_=>exact t
def bZV:jF []:=⟨λ_=>0,⟨λi j a=>absurd a (cXx _)⟩⟩
end Bk
namespace Bk
open PySem (Str)
open Stree (qQ jL wG)
def bWm(r q:Row):Prop:=r.void=false/\q.void=false/\r.way≠q.way/\r.partner=q.partner/\q.date<=r.date/\r.place=q.place
structure Y4(R:Rows):Prop where
 tree:jF R
 way:∀r∈R,r.way="in"\/r.way="out"
 ans:∀ (i j:Nat)(r:Row),R[i]? =some r->r.link=some j->∃q,R[j]? =some q/\bWm r q
def aXA:Y4 [] where
 tree:=bZV
 way:=λr h=>absurd h (by simp)
 ans:=λi j r h=>by simp at h
def aVQ{w:Str}(h:w="in"\/w="out"):uY w≠w/\(uY w="in"\/uY w="out"):=by
 rcases h with rfl|rfl
 ·exact⟨by decide,.inr rfl⟩
 ·exact⟨by decide,.inl rfl⟩
def aQw{R:Rows}{i:Nat}{f:Row->Row}{r:Row}(h:r∈xO R i f):r∈R\/∃q∈R,r=f q:=by
 unfold xO at h;split at h
 ·rename_i q a;rcases List.mem_or_eq_of_mem_set h with h|h
  ·exact .inl h
  ·exact .inr ⟨q,bY3 a,h⟩
 ·exact .inl h
def aJl{R:Rows}(h:∀r∈R,r.way="in"\/r.way="out")(i:Nat)(f:Row->Row)(b:∀r,(f r).way=r.way):∀r∈xO R i f,r.way="in"\/r.way="out":=λr a=>by
 rcases aQw a with a|⟨q,c,rfl⟩
 ·exact h r a
 ·rw[b];exact h q c
def aWm{name:Str}:∀ (l:List Nat) {R:Rows},(∀r∈R,r.way="in"\/r.way="out")->∀r∈laid R l name,r.way="in"\/r.way="out"
 |[],R,h=>h
 |k::l,R,h=>aWm l (aJl h k (λr=>{r with place:=name}) λ_=>rfl)
def bJ6{R:Rows}{k i:Nat}{r:Row}(h:z9 R k= [])(a:R[i]? =some r):r.link≠some k:=λe=>by
 have:i∈z9 R k:=cQT.mpr ⟨cQn.mpr (wO a),decide_eq_true (by rw[uA a];exact e)⟩;rw[h]at this;cases this
def bXF{R:Rows}{k i:Nat}{r:Row}(a:R[i]? =some r)(e:r.link=some k):i∈z9 R k:=
 cQT.mpr ⟨cQn.mpr (wO a),decide_eq_true (by rw[uA a];exact e)⟩
def bZT{R:Rows}(t:jF R){i a b:Nat}{r:Row}(c:R[a]? =some r)(e:r.link=some b)(d:b<R.length):a∈thr R i↔b∈thr R i:=by
 obtain⟨f,o,_,h⟩:=J2 t i;rw[h a,h b,Fm.uI o (wO c) (by rw[uA c];exact e)];exact⟨λz=>⟨d,z.2⟩,λz=>⟨wO c,z.2⟩⟩
def bZU{R:Rows}(t:jF R){i:Nat}(a:i<R.length):i∈thr R i:=by
 obtain⟨b,o,_,h⟩:=J2 t i;exact(h i).mpr ⟨a,rfl⟩
def Y4.laid{R:Rows}(b:Y4 R)(i:Nat)(name:Str):Y4 (laid R (thr R i) name) where
 tree:=b.tree.laid _ _
 way:=aWm _ b.way
 ans:=λx j r hx hl=>by
  rw[v9]at hx
  have back:∃r0,R[x]? =some r0/\r=(if x∈thr R i then {r0 with place:=name}else r0):=by
   by_cases hm:x∈thr R i
   ·rw[if_pos hm]at hx
    cases e:R[x]? with
    |none=>rw[e]at hx;cases hx
    |some r0=>rw[e]at hx;cases hx;exact⟨r0,rfl,by rw[if_pos hm]⟩
   ·rw[if_neg hm]at hx
    exact⟨r,hx,by rw[if_neg hm]⟩
  obtain⟨r0,h0,e0⟩:=back
  have hl0:r0.link=some j:=by rw[e0]at hl;split at hl<;> exact hl
  obtain⟨q0,hq0,f1,f2,f3,f4,f5,f6⟩:=b.ans x j r0 h0 hl0
  have hiff:=bZT (i:=i) b.tree h0 hl0 (wO hq0)
  refine⟨if j∈thr R i then {q0 with place:=name}else q0,by rw[v9,hq0];split<;> rfl,?_⟩
  by_cases hm:x∈thr R i
  ·rw[if_pos (hiff.mp hm),e0,if_pos hm]
   exact⟨f1,f2,f3,f4,f5,rfl⟩
  ·rw[if_neg (λz=>hm (hiff.mpr z)),e0,if_neg hm]
   exact⟨f1,f2,f3,f4,f5,f6⟩
def Y4.set{R:Rows}(b:Y4 R){k:Nat}{f:Row->Row}(t:jF (xO R k f))(hw:∀r,(f r).way=r.way)(h1:∀r j q,R[k]? =some r->(f r).link=some j->j≠k->R[j]? =some q->bWm (f r) q/\True)(h0:∀r j,R[k]? =some r->(f r).link=some j->j≠k/\j<R.length)
  (h2:∀r i q,R[k]? =some r->R[i]? =some q->i≠k->q.link=some k->bWm q (f r)):Y4 (xO R k f) where
 tree:=t
 way:=aJl b.way k f hw
 ans:=λi j r hi hl=>by
  rw[zM]at hi
  by_cases e:i=k
  ·subst e
   rw[if_pos rfl]at hi
   cases e0:R[i]? with
   |none=>rw[e0]at hi;cases hi
   |some r0=>
    rw[e0]at hi
    cases hi
    obtain⟨hjk,hjl⟩:=h0 r0 j e0 hl
    have hq:=bYK hjl
    exact⟨R[j],by rw[zM,if_neg hjk];exact hq,(h1 r0 j _ e0 hl hjk hq).1⟩
  ·rw[if_neg e]at hi
   obtain⟨q,hq,hf⟩:=b.ans i j r hi hl
   by_cases ej:j=k
   ·subst ej
    exact⟨f q,by rw[zM,if_pos rfl,hq];rfl,h2 q i r hq hi e hl⟩
   ·exact⟨q,by rw[zM,if_neg ej];exact hq,hf⟩
def aYr{R:Rows}(t:jF R){k j:Nat}{r:Row}(h:R[k]? =some r)(e:r.link=some j):j≠k:=λz=>by
 obtain⟨a,o⟩:=t;have:=(o.lt k j (wO h) (by rw[uA h];exact e)).2;rw[z]at this;omega
def x2.book{R R':Rows}{S S':List Int}{e:xP}{a:Ans}(b:Y4 R)(hw:∀D d w t,e= .enter D d w t->D="in"\/D="out")(h:x2 R S e a R' S'):Y4 R':=by
 have C:=h.tree b.tree;have a1:∀ (r:Row)(j:Nat) {i:Nat} {x:Row},R[i]? =some x->x.link=some j->∃q,(R++ [r])[j]? =some q/\bWm x q:=λr j {i x} m hl=>by obtain⟨q,n,A⟩:=b.ans i j x m hl;exact⟨q,by rw[cQs (wO n)];exact n,A⟩
 have snoc:∀r:Row,(r.way="in"\/r.way="out")->(∀j,r.link=some j->∃q,R[j]? =some q/\bWm r q)->jF (R++ [r])->Y4 (R++ [r]):=λr u p t=>⟨t,λx g=>by
   rcases cQp.mp g with g|g
   ·exact b.way x g
   ·rw[bY2.mp g];exact u,λi j x m hl=>by
   by_cases Z:i<R.length
   ·rw[cQs Z]at m;exact a1 r j m hl
   ·have a4:i<(R++ [r]).length:=(bYW.mp m).1;rw[bY8,cQY]at a4;have:i=R.length:=by omega
    subst this;rw[cQb (bYS _)]at m;simp at m;subst m;obtain⟨q,n,A⟩:=p j hl;exact⟨q,by rw[cQs (wO n)];exact n,A⟩⟩
 have plain:∀ (k:Nat)(f:Row->Row),(∀r,(f r).way=r.way/\(f r).date=r.date/\(f r).partner=r.partner/\(f r).link=r.link/\(f r).place=r.place/\(f r).void=r.void)->jF (xO R k f)->Y4 (xO R k f):=λk f A t=>by
  refine b.set t (λr=>(A r).1) (λr j q l hl a5 n=>?_) (λr j l hl=>?_) (λr i q l m a6 hl=>?_)
  ·obtain⟨g1,T,Y,g4,U,Q⟩:=A r;rw[g4]at hl;obtain⟨P,c,u,p,M,X,W,h6⟩:=b.ans k j r l hl;rw[n]at c;cases c;exact⟨⟨by rw[Q];exact u,p,by rw[g1];exact M,by rw[Y];exact X,by rw[T];exact W,by rw[U];exact h6⟩,trivial⟩
  ·rw[(A r).2.2.2.1]at hl;obtain⟨q,n,_⟩:=b.ans k j r l hl;exact⟨aYr b.tree l hl,wO n⟩
  ·obtain⟨g1,T,Y,g4,U,Q⟩:=A r;obtain⟨P,c,u,p,M,X,W,h6⟩:=b.ans i k q m hl;rw[l]at c;cases c;exact⟨u,by rw[Q];exact p,by rw[g1];exact M,by rw[Y];exact X,by rw[T];exact W,by rw[U];exact h6⟩
 cases h with
 |enter h=>exact snoc _ (hw _ _ _ _ rfl) (λj B=>nomatch B) C
 |@reply k d t r l h ht hd=>have O:=b.way r (bY3 l);exact snoc _ (aVQ O).2 (λj B=>by cases B;exact⟨r,l,rfl,h,(aVQ O).1,rfl,hd,rfl⟩) C
 |@hang i j r q m F B a3 h ho u p M=>
  have bl:=b.laid i q.place;obtain⟨rk,o,hh⟩:=jS b.tree (wO B);have N:Fm.tp (lk R) rk j≠i:=λz=>ho (by rw[hh,z]);have V:j∉thr R i:=λz=>by obtain⟨a0,o',_,hm⟩:=J2 b.tree i;have z2:=((hm j).mp z).2;have z3:Fm.tp (lk R) a0 i=i:=Fm.wC (by rw[uA m];exact h);rw[z3,Fm.qO o' o (wO B)]at z2;exact N z2
  have a2:=bZU b.tree (wO m);have gi:(laid R (thr R i) q.place)[i]? =some {r with place:=q.place}:=by rw[v9,if_pos a2,m];rfl
  have gj:(laid R (thr R i) q.place)[j]? =some q:=by rw[v9,if_neg V];exact B
  refine bl.set C (λ_=>rfl) (λx y z g hl s K=>?_) (λx y g hl=>?_) (λx y z g s v hl=>?_)
  ·rw[gi]at g;cases g;cases hl;rw[gj]at K;cases K;exact⟨⟨F,a3,u,p,M,rfl⟩,trivial⟩
  ·cases hl;exact⟨λz=>N (by rw[z,Fm.wC (by rw[uA m];exact h)]),by rw[wY];exact wO B⟩
  ·obtain⟨P,c,G,J,I,E,L,H⟩:=bl.ans y i z s hl;rw[g]at c;cases c;exact⟨G,J,I,E,L,H⟩
 |@loose k r l F h=>refine b.set C (λ_=>rfl) (λx y z g hl=>nomatch hl) (λx y g hl=>nomatch hl) (λx y z g s v hl=>?_);obtain⟨P,c,G,J,I,E,L,H⟩:=b.ans y k z s hl;rw[g]at c;cases c;exact⟨G,J,I,E,L,H⟩
 |@date k r d l F u p=>
  refine b.set C (λ_=>rfl) (λx y z g hl v K=>?_) (λx y g hl=>?_) (λx y z g s v hl=>?_)
  ·rw[l]at g;cases g;obtain⟨P,c,G,J,I,E,L,H⟩:=b.ans k y r l hl;rw[K]at c;cases c;exact⟨⟨G,J,I,E,by rw[<- vK K];exact u y hl,H⟩,trivial⟩
  ·obtain⟨q,n,_⟩:=b.ans k y x g hl;exact⟨aYr b.tree g hl,wO n⟩
  ·obtain⟨P,c,G,J,I,E,L,H⟩:=b.ans y k z s hl;rw[g]at c;cases c;exact⟨G,J,I,E,by rw[<- vK s];exact p y (bXF s hl),H⟩
 |term l F h=>exact plain _ _ (λr=>⟨rfl,rfl,rfl,rfl,rfl,rfl⟩) C
 |copy l F h p=>exact plain _ _ (λr=>⟨rfl,rfl,rfl,rfl,rfl,rfl⟩) C
 |file l F=>exact b.laid _ _
 |void l F h=>exact b.set C (λ_=>rfl) (λx y z g hl=>nomatch hl) (λx y g hl=>nomatch hl) (λx y z g s v hl=>absurd hl (bJ6 h s))
 |_=>exact b
end Bk
namespace Law
open PySem L2 PyProof.Rows
open Bk (Row Rows)
def aZB(x:Str):Stmt->Bool
 |.FunctionDef n _ _ _ _ _ _ _ _ _=>n==x
 |_=>false
def xF(x:Str):Stmt:=(PySem.Challenge.pw_letterdesk_k06_whole_waiting_and_overdue.main.body.find? (aZB x)).getD (.Pass ⟨0,0,0,0⟩)
abbrev bVB:Stmt:=xF "_law_good"
abbrev bZi:Stmt:=xF "_law_kids_of"
def xB:cQw "len"=some (.builtin "len"):=dk
structure vJ(mg:Str->Option bYL):Prop where
 b_len:mg "len"=none
 b_range:mg "range"=none
def w6:Option Nat->V
 |none=> .non
 |some j=> .int (j:Nat)
def bWr(H:Hp)(b:Nat)(r:Row):Prop:=∃a,H b=some (.lst [.str r.way,.int r.date,.str r.partner,.int r.term,w6 r.link,.str r.place,.bl r.void,.ref a])/\H a=some (.lst (r.copies.map V.str))
structure xA(H:Hp)(ra:Nat)(rs:List Nat)(R:Rows):Prop where
 lst:H ra=some (.lst (rs.map V.ref))
 len:rs.length=R.length
 nd:rs.Nodup
 row:∀ (i:Nat)(b:Nat)(r:Row),rs[i]? =some b->R[i]? =some r->bWr H b r
def xA.get{H:Hp}{f:Nat}{a:List Nat}{R:Rows}(h:xA H f a R){i:Nat}{r:Row}(d:R[i]? =some r):∃b,(a.map V.ref)[i]? =some (.ref b)/\a[i]? =some b/\bWr H b r:=by
 have e:i<a.length:=by rw[h.len];exact Bk.wO d
 have c:=bYK e;exact⟨a[i],by rw[bY5,c];rfl,c,h.row i _ r c d⟩
inductive W9(vs:List V)(H:Hp)(Q:VK)(_:XK):Prop|mk (ra:Nat) (rs:List Nat) (R:Rows) (m:Int) (_:vs= [.ref ra,.int m]) (_:xA H ra rs R) (_:Q (.bl (Bk.wW R m)) H)
section
variable {K:bYM}
def bVO:yN ["_law_rows","_law_number"] ["_law_rows","_law_number"] (yH bVB):=scM
def bVc(T:vJ mg)(F:Fun K "_law_good" "_law_good" bVB f fd):xE P w K mg base CX0 1 f fd ["_law_rows","_law_number"] W9:=by
 have i:=bVO;refine F.ok (k:=0) i (λj A outer s H t Q E u h=>?_);obtain⟨g,l,R,m,rfl,c,q⟩:=h;refine⟨_,(yF (yP (aVT (zR aYR yE (pv 1)) (aVT (zR vL (pv 1) (yQ yO rfl T.b_len xB (yA (pv 0) yD))) (aZU (bJj (yL yK (yL yK (pv 0) (pv 1)) yE))))))),?_⟩;refine⟨_,rfl,_,_,rfl,rfl,_,rfl,?_⟩;unfold Bk.wW at q;cases d:decide (0<=m)with
 |false=>rw[d,Bool.false_and]at q;exact onF rfl q
 |true=>
  rw[d,Bool.true_and]at q;have h0:0<=m:=of_decide_eq_true d;refine onT rfl ⟨_,rfl,_,rfl,g,_,rfl,.inl (SqL.of c.lst),_,_,rfl,rfl,_,rfl,?_⟩;have hl:(l.map V.ref).length=R.length:=by rw[bYP];exact c.len
  rw[hl];obtain⟨k,rfl⟩:∃k:Nat,m=(k:Int):=⟨m.toNat,by omega⟩;rw[cQm]at q;cases e:decide ((k:Int)<(R.length:Nat))with
  |false=>
   have a:R.length<=k:=by have:=of_decide_eq_false e;omega
   rw[cQl a]at q;exact onF rfl q
  |true=>
   have a:k<R.length:=by have:=of_decide_eq_true e;omega
   obtain⟨b,o,r,p,n,v⟩:=c.get (bYK a);rw[bYK a]at q;refine onT rfl ⟨_,rfl,_,rfl,g,_,_,_,rfl,rfl,SqL.of c.lst,yT o,b,_,6,_,rfl,rfl,SqL.of n,rfl,_,rfl,q⟩
def bVR:yN ["_law_rows","_law_number"] ["_law_rows","_law_number"] (yH bZi):=scM
def bJ1:xN ["_law_rows","_law_number"] (yH bZi) "_law_k" ["_law_number","_law_rows"] [1,0] (lsN [(".0",.local),("_law_k",.local),("_law_number",.free),("_law_rows",.free)]):=
 lcM
inductive aWd(vs:List V)(H:Hp)(Q:VK)(_:XK):Prop|mk (ra:Nat) (rs:List Nat) (R:Rows) (m:Nat) (_:vs= [.ref ra,.int (m:Nat)]) (_:xA H ra rs R) (_:R.length<=100) (_:∀r,H r=none->Q (.ref r) (upd H r (.lst ((Bk.z9 R m).map λi=>V.int (i:Nat)))))
def aJD{o:Option Nat}{m:Nat}:decide (w6 o=V.int (m:Nat))=decide (o=some m):=by
 cases o with
 |none=>rfl
 |some j=>show decide (V.int (j:Nat)=V.int (m:Nat))=decide (some j=some m);rw[Bool.eq_iff_iff];simp;omega
def bVf(T:vJ mg)(F:Fun K "_law_kids_of" "_law_kids_of" bZi f fd):xE P w K mg base CX0 1 f fd ["_law_rows","_law_number"] aWd:=by
 have p:=bVR;refine F.ok (k:=0) p (λr A outer s H z Q E B h=>?_);obtain⟨e,n,R,m,rfl,c,hR,q⟩:=h;refine⟨_,(yF (yP (aQF bJ1 rfl (zL rfl T.b_range (yA (yQ yO rfl T.b_len xB (yA (pv 0) yD)) yD)) (λ_ _ _ _ _=>(w7 (yM zI (yL ixK (yL ixK (pv 2) (pv 0)) yE) (pv 1)))) (λ_ _ _ _ _=>(pv 0))))),?_⟩;have hl:(n.map V.ref).length=R.length:=by rw[bYP];exact c.len
 refine⟨_,rfl,e,_,rfl,.inl (SqL.of c.lst),?_⟩;rw[hl];refine⟨_,rfl,by omega,by omega,λD d=>?_⟩;rw[cQm];refine Q3 (λk=>decide (Bk.lk R k=some m)) (λk=>V.int (k:Nat)) d (by rw[cQk];omega) (λk i l u j a=>?_) (λk i _ l u j a=>⟨_,rfl,a⟩) (q D d);obtain⟨b,v,y,x,o,C⟩:=c.get (bYK i);have g:l e=some (.lst (n.map V.ref)):=by rw[j e (yJ c.lst d)];exact c.lst
 have t:l b=_:=(j b (yJ o d)).trans o;refine⟨_,rfl,_,rfl,e,_,_,_,rfl,rfl,SqL.of g,yT v,b,_,4,_,rfl,rfl,SqL.of t,rfl,_,rfl,?_,_,rfl,?_⟩
 ·cases R[k].link<;> rfl
 ·rw[aJD,<- Bk.uA (bYK i)];exact a
end
end Law
namespace L2
open PySem PySem.Spec PyProof.Rows
section
variable {X:Cx}
inductive aWw(K:bYM)(xs:List V)(H:Hp)(Q:VK):Prop|mk (p:Nat) (ns:List Int) (_:xs= [.ref p]) (_:SqL K H p (ns.map V.int)) (_:ns≠ []) (_:∀m,m∈ns->(∀x∈ns,m<=x)->Q (.int m) H)
def aKS(J:X.calm=true):qE X (.builtin "min") (aWw X.K):=by
 intro C s σ H Y U Q I r h;obtain⟨p,c,rfl,P,n,q⟩:=h;obtain⟨u,rfl,D⟩:=aQ6 r;cases D;obtain⟨a,R,w,T⟩:=I.list P;have B:cZi a c:=aXn R;have f:a.length=c.length:=B.length;have m:0<a.length:=by rw[f];exact cQZ.mpr n
 obtain⟨o,S,_⟩:=id w.isList;have l:p<s.heap.objs.size:=bYZ S;have d:∀ (i:Nat)(v:bYL),a.toArray[i]? =some v->∃t,v=Value.int (c.getD i 0) t:=λi v y=>cJS B i v (by simpa using y);refine call_min_walk (cJ5 w.isList ?_);refine⟨s.heap.objs.size,[s.heap.objs.size,p],[s.heap.objs.size],a.toArray.size,_,_,_,rfl,Walks.list (A:=X.A.in1) (by simpa using I.ok.hd J) _ p (cQc l) a.toArray,⟨⟨_,cQg _ rfl,rfl,rfl⟩,w.isList.push _⟩,λb g=>?_,by rw[bY4];exact m,CmpOf.ints_lt (λi=>c.getD i 0) d,λv V tk y G=>?_⟩
 ·show b<(s.heap.push _).objs.size;rw[cXl];rcases bYU.mp g with rfl|g
  ·exact cXC _
  ·rw[bY2.mp g];exact cQV l
 ·obtain⟨t,rfl⟩:=d _ _ y;obtain⟨W,F⟩:=argBest_lt (λi=>c.getD i 0) (a.toArray.size - 1);have L:a.toArray.size=c.length:=by rw[bY4];exact f
  have g:argBest (λi j=>decide (c.getD i 0<c.getD j 0)) (a.toArray.size - 1)<c.length:=by omega
  refine⟨.int _,H,I.kept (t':=tk) λb E e=>G b E (λz=>by rw[bY2.mp z]at e;exact cQX _ (bYZ e)) (bYQ _ e),⟨t,rfl⟩,q _ ?_ λx O=>?_⟩
  ·generalize argBest (λi j=>decide (c.getD i 0<c.getD j 0)) (a.toArray.size - 1)=k at g;simp[cQv,bYK g]
  ·obtain⟨j,M,e⟩:=cQC O;have:=F j (by omega);have N:c.getD j 0=x:=by simp[cQv,bYK M,e]
   rw[N]at this;exact this
end
end L2
namespace Law
open PySem L2 PyProof.Rows
open Bk (Row Rows)
abbrev aV2:Stmt:=xF "_law_waits_on"
def aKO:cQw "min"=some (.builtin "min"):=dk
def bWr.same{H a:Hp}{b:Nat}{r:Row}(h:bWr H b r)(k:xC H a):bWr a b r:=let ⟨cp,e1,e2⟩:=h;⟨cp,k _ _ e1,k _ _ e2⟩
def xA.same{H c:Hp}{d:Nat}{a:List Nat}{R:Rows}(h:xA H d a R)(k:xC H c):xA c d a R:=
 ⟨k _ _ h.lst,h.len,h.nd,λi b r f e=>(h.row i b r f e).same k⟩
inductive bQU(vs:List V)(H:Hp)(Q:VK)(_:XK):Prop|mk (ra:Nat) (rs:List Nat) (R:Rows) (k:Nat) (d:Int) (_:vs= [.ref ra,.int (k:Nat),.int d]) (_:xA H ra rs R) (_:R.length<=100) (_:k<R.length) (_:∀H',xC H H'->Q (.bl (Bk.Q1 R k d)) H')
section
variable {K:bYM}
def bZD:yN ["_law_rows","_law_number","_law_date","_law_one","_law_dates"] ["_law_rows","_law_number","_law_date"] (yH aV2):=scM
def bXA:xN ["_law_rows","_law_number","_law_date","_law_one","_law_dates"] (yH aV2) "_law_k" ["_law_rows"] [0] (lsN [(".0",.local),("_law_k",.local),("_law_rows",.free)]):=
 lcM
def dtV(R:Rows):V->V
 |.int n=> .int (Bk.dt R n.toNat)
 |_=> .non
def bX3(T:vJ mg)(p:mg "min"=none)(a:FnG P w K mg base 1 "_law_kids_of" ["_law_rows","_law_number"] aWd)(F:Fun K "_law_waits_on" "_law_waits_on" aV2 f fd):xE P w K mg base CX0 2 f fd ["_law_rows","_law_number","_law_date"] bQU:=by
 have sc:=bZD;refine F.ok (k:=1) sc (λa1 A outer s H0 vs Q E U h=>?_);obtain⟨u,rs,R,k,d,rfl,C,hR,hk,q⟩:=h;refine⟨_,(yC (yU (i:=3) (yL yK (pv 0) (pv 1))) (yC (y7 (PW.pt (jW (xZ (yL yK (pv 3) yE)) (jW (yM vL (yL yK (pv 3) yE) yE) (vT (yM aXg (yL yK (pv 3) yE) (pv 2)))))) (yF (yP wQ)) yS) (yC (aZY (i:=4) bXA rfl sc.nd rfl rfl (xL (xJ a U rfl (yA (pv 0) (yA (pv 1) yD)))) (λ_ _ _ _ _=>wK) (λ_ _ _ _ _=>(yL ixK (yL ixK (pv 1) (pv 0)) yE))) (yF (yP (bWZ (zR (aVO U.units0) (pv 4) (y6 yD)) (aZU (zR aXg (yQ (aKS rfl) rfl p aKO (yA (pv 4) yD)) (pv 2))))))))),?_⟩;have x:=bYK hk;obtain⟨b,g1,g2,cp,H,g4⟩:=C.get x;have qw:Bk.Q1 R k d=(!R[k].void && decide (1<=R[k].term) && decide (R[k].date<=d) && (Bk.z9 R k).all λj=>decide (d<Bk.dt R j)):=by unfold Bk.Q1;rw[x]
 rw[qw]at q;refine⟨_,rfl,_,rfl,u,_,_,_,rfl,rfl,SqL.of C.lst,yT g1,?_⟩;dsimp only[yW];refine⟨_,rfl,b,_,6,_,rfl,rfl,SqL.of H,rfl,_,rfl,?_⟩;cases t:R[k].void with
 |true=>rw[t]at q;exact onT rfl (onT rfl (q _ (xC.refl _)))
 |false=>
  rw[t]at q;refine onF rfl ⟨_,rfl,b,_,3,_,rfl,rfl,SqL.of H,rfl,_,_,rfl,rfl,_,rfl,?_⟩;cases ht:decide (R[k].term<1)with
  |true=>have:decide (1<=R[k].term)=false:=decide_eq_false (by have:=of_decide_eq_true ht;omega);rw[this]at q;exact onT rfl (onT rfl (q _ (xC.refl _)))
  |false=>
   have:decide (1<=R[k].term)=true:=decide_eq_true (by have:=of_decide_eq_false ht;omega);rw[this]at q;refine onF rfl ⟨_,rfl,b,_,1,_,rfl,rfl,SqL.of H,rfl,_,rfl,_,_,rfl,rfl,_,rfl,?_⟩;cases W:decide (R[k].date > d)with
   |true=>have:decide (R[k].date<=d)=false:=decide_eq_false (by have:=of_decide_eq_true W;omega);rw[this]at q;exact onT rfl (q _ (xC.refl _))
   |false=>
    have:decide (R[k].date<=d)=true:=decide_eq_true (by have:=of_decide_eq_false W;omega);rw[this]at q;refine onF rfl ?_;refine⟨_,rfl,_,rfl,u,rs,R,k,rfl,C,hR,λr S=>⟨r,rfl,⟨_,SqL.of yB⟩,λD B=>?_⟩⟩;have k1:=yG S (.lst ((Bk.z9 R k).map λi=>V.int (i:Nat)));have g:=C.same k1;have a0:(Bk.z9 R k).length<=R.length:=by have:=cQL (λj=>decide (Bk.lk R j=some k)) (bYY R.length);rw[cQE]at this;exact this
    refine aZJ (λ_=>true) (dtV R) (SqL.of yB) B (zn (by rw[bYP];omega)) (λv t H' R' _ h=>h) (λv t _ H' R' Y z=>?_) ?_
    ·obtain⟨j,hj,rfl⟩:=cQQ.mp t;have J:j<R.length:=cQn.mp (cQT.mp hj).1;have y:=bYK J;obtain⟨X,j1,j2,cj,Z,j4⟩:=g.get y;have O:H' u=some (.lst (rs.map V.ref)):=by rw[Y u (yJ g.lst B)];exact g.lst
     have N:=(Y X (yJ Z B)).trans Z;have e:dtV R (V.int (j:Nat))=V.int R[j].date:=by show V.int (Bk.dt R (j:Int).toNat)=_;rw[cQm,Bk.vK y]
     rw[e]at z;exact⟨_,rfl,_,rfl,u,_,_,_,rfl,rfl,SqL.of O,yT j1,X,_,1,_,rfl,rfl,SqL.of N,rfl,z⟩
    ·have ff:((Bk.z9 R k).map λi=>V.int (i:Nat)).filter (λ_=>true)=(Bk.z9 R k).map λi=>V.int (i:Nat):=cZw.mpr λ_ _=>rfl;have em:((Bk.z9 R k).map λi=>V.int (i:Nat)).map (dtV R)=((Bk.z9 R k).map (Bk.dt R)).map V.int:=by
      rw[cXX,cXX];refine cJH λj _=>?_;show V.int (Bk.dt R (j:Int).toNat)=V.int (Bk.dt R j);rw[cQm]
     rw[ff,em];dsimp only[yW];have k2:=yG B (.lst (((Bk.z9 R k).map (Bk.dt R)).map V.int));have c:upd (upd H0 r (.lst ((Bk.z9 R k).map λi=>V.int (i:Nat)))) D (.lst (((Bk.z9 R k).map (Bk.dt R)).map V.int)) D=some (.lst (((Bk.z9 R k).map (Bk.dt R)).map V.int)):=yB;have kA:=k1.trans k2;generalize upd (upd H0 r (.lst ((Bk.z9 R k).map λi=>V.int (i:Nat)))) D (.lst (((Bk.z9 R k).map (Bk.dt R)).map V.int))=H2 at c kA ⊢;refine⟨_,rfl,z0,λpn G=>?_⟩;have I:=yG G (.lst []);refine⟨D,pn,_,rfl,rfl,SqL.of (I _ _ c),SqL.of yB,_,rfl,?_⟩;have o:=q _ (kA.trans I);cases n:Bk.z9 R k with
     |nil=>rw[n]at o;exact onT rfl o
     |cons j l=>
      rw[n]at o;refine onF rfl ⟨_,rfl,D,(j::l).map (Bk.dt R),rfl,SqL.of (by rw[<- n];exact I _ _ c),by simp,λm hm L=>?_⟩;refine⟨_,rfl,_,_,rfl,rfl,?_⟩;have e:((!false && true && true && (j::l).all λj=>decide (d<Bk.dt R j)):Bool)=decide (m > d):=by
       rw[Bool.eq_iff_iff];simp only[Bool.not_false,Bool.true_and,cZU,decide_eq_true_eq];constructor
       ·intro h;obtain⟨i,M,rfl⟩:=cQQ.mp hm;exact h i M
       ·intro h i M;have:=L _ (cQQ.mpr ⟨i,M,rfl⟩);omega
      rw[e]at o;exact o
end
end Law
namespace Bk
def aZs:∀shut:List Int,∃C:List Int,C.Pairwise (·<·)/\∀d,d∈C↔d∈shut/\Dm.opn d=true
 |[]=>⟨[],.nil,λd=>by simp⟩
 |x::l=>by
  obtain⟨C,m,n⟩:=aZs l;have ins:∀C:List Int,C.Pairwise (·<·)->∃g:List Int,g.Pairwise (·<·)/\∀d,d∈g↔d=x\/d∈C:=by
   intro C;induction C with
   |nil=>intro _;exact⟨[x],cXb _ _,λd=>by simp⟩
   |cons y C p=>
    intro h;obtain⟨a,b⟩:=cXc.mp h;by_cases e:x=y
    ·subst e;exact⟨x::C,h,λd=>by simp⟩
    ·by_cases j:x<y
     ·refine⟨x::y::C,cXc.mpr ⟨λd f=>?_,h⟩,λd=>by simp⟩;rcases bYU.mp f with rfl|f
      ·exact j
      ·have:=a d f;omega
     ·obtain⟨g,k,i⟩:=p b;refine⟨y::g,cXc.mpr ⟨λd f=>?_,k⟩,λd=>?_⟩
      ·rcases(i d).mp f with rfl|f
       ·omega
       ·exact a d f
      ·rw[bYU,i d,bYU];constructor
       ·rintro(h|h|h)
        ·exact .inr (.inl h)
        ·exact .inl h
        ·exact .inr (.inr h)
       ·rintro(h|h|h)
        ·exact .inr (.inl h)
        ·exact .inl h
        ·exact .inr (.inr h)
  by_cases o:Dm.opn x=true
  ·obtain⟨g,k,i⟩:=ins C m;refine⟨g,k,λd=>?_⟩;rw[i d,n d,bYU];constructor
   ·rintro(rfl|⟨h,c⟩)
    ·exact⟨.inl rfl,o⟩
    ·exact⟨.inr h,c⟩
   ·rintro⟨h|h,c⟩
    ·exact .inl h
    ·exact .inr ⟨h,c⟩
  ·refine⟨C,m,λd=>?_⟩;rw[n d,bYU];constructor
   ·rintro⟨h,c⟩;exact⟨.inr h,c⟩
   ·rintro⟨h|h,c⟩
    ·rw[h]at c;exact absurd c o
    ·exact⟨h,c⟩
def bWB(shut:List Int)(d:Int){t:Int}(b:1<=t):Dm.Due shut d t (due shut d t):=by
 obtain⟨C,a,c⟩:=aZs shut;have h:=Dm.bZ8 (date:=d) b a c;rw[bZ7 h];exact h
end Bk
namespace Law
open PySem L2 PyProof.Rows
open Bk (Row Rows)
abbrev bQc:Stmt:=xF "_law_due_by"
abbrev aXX:Stmt:=xF "_law_list_on"
def vA:cQw "sorted"=some (.builtin "sorted"):=dk
inductive bQM(K:bYM)(vs:List V)(H:Hp)(Q:VK)(_:XK):Prop|mk (a:Nat) (ns:List Int) (d t D:Int) (_:vs= [.ref a,.int d,.int t]) (_:SqL K H a (ns.map V.int)) (_:Dm.Due ns d t D) (_:Q (.int D) H)
section
variable {K:bYM}
def jJ(d:Int):∀ns:List Int,inV (.int d) (ns.map V.int)=ns.contains d
 |[]=>rfl
 |n::r=>by have a:=jJ d r;unfold inV at a ⊢;rw[cQy,cX5,a,cX8];congr 1;show(n==d)=(d==n);rw[Bool.eq_iff_iff,beq_iff_eq,beq_iff_eq];exact eq_comm
def uV:∀ns:List Int,(ns.map V.int).all J9=true
 |[]=>rfl
 |n::r=>by rw[cQy,cZZ,uV r];rfl
def bZs:yN ["_law_shut","_law_date","_law_term","_law_many"] ["_law_shut","_law_date","_law_term"] (yH bQc):=scM
def bXS(T:vJ mg)(F:Fun K "_law_due_by" "_law_due_by" bQc f fd):xE P w K mg base CX0 1 f fd ["_law_shut","_law_date","_law_term"] (bQM K):=by
 have G:=bZs;refine F.ok (k:=0) G (λI A outer s J M Q E N h=>?_);obtain⟨a,g,d,t,D,rfl,L,p,q⟩:=h;refine⟨_,(yC (yU (i:=3) yE) (yC (uC cQz (yM vL (pv 3) (pv 2)) (yC (yU (i:=1) (yV x9 (pv 1) yE)) (yF (y7 (PW.pt (vS (yM vL (yV y0 (pv 1) yE) yE) (wR (yM W7 (pv 1) (pv 0))))) (yF (yU (i:=3) (yV x9 (pv 3) yE))) yS)))) (yF (yP (pv 1))))),?_⟩;refine⟨λm σ H=>∃n:Nat,σ= [some (.ref a),some (.int (d+n)),some (.int t),some (.int (Dm.cnt g (d+1) n))]/\H=J/\d+n<=D/\m=(D - (d+n)).toNat,⟨(D - d).toNat,0,?_,rfl,by have:=p.later;omega,by simp⟩,?_⟩
 ·rw[show d+((0:Nat):Int)=d by simp];rfl
 rintro m σ H ⟨n,rfl,rfl,r,rfl⟩;refine⟨_,rfl,_,rfl,_,_,rfl,rfl,_,rfl,?_⟩;refine qB (λc=>?_) (λc=>?_)
 ·have v:((Dm.cnt g (d+1) n:Nat):Int)<t:=of_decide_eq_true c;have C:d+n<D:=by
   by_cases e:d+n=D
   ·have:=p.cnt;rw[<- e,show(d+n - d).toNat=n by omega]at this;omega
   ·omega
  refine⟨λo x=>∃y,y<(D - (d+n)).toNat/\∃n:Nat,o= [some (.ref a),some (.int (d+n)),some (.int t),some (.int (Dm.cnt g (d+1) n))]/\x=H/\d+n<=D/\y=(D - (d+n)).toNat,λo x z=>z,?_⟩;refine⟨_,rfl,_,_,rfl,rfl,?_⟩;dsimp only[yW];have l:Dm.cnt g (d+1) (n+1)=Dm.cnt g (d+1) n+(if Dm.cts g (d+1+n)then 1 else 0):=rfl;have j:d+((n+1:Nat):Int)=d+n+1:=by omega
  refine⟨_,rfl,_,_,rfl,rfl,(show(0:Int)<7 by decide),_,_,rfl,rfl,_,rfl,?_⟩;have b:Dm.cts g (d+1+n)=(decide ((d+n+1) % 7<5) && !(g.contains (d+n+1))):=by rw[show d+1+(n:Int)=d+n+1 by omega];rfl
  cases B:decide ((d+(n:Int)+1) % 7<5)with
  |false=>rw[B,Bool.false_and]at b;rw[b]at l;refine onF rfl (onF rfl ⟨(D - (d+(n+1:Nat))).toNat,by omega,n+1,?_,rfl,by omega,rfl⟩);rw[l,j];rfl
  |true=>
   rw[B,Bool.true_and]at b;refine onT rfl ⟨_,rfl,_,rfl,a,_,rfl,.inl L,rfl,uV g,_,rfl,?_⟩;rw[if_pos rfl,jJ];cases u:g.contains (d+(n:Int)+1)with
   |true=>rw[u]at b;rw[b]at l;refine onF rfl ⟨(D - (d+(n+1:Nat))).toNat,by omega,n+1,?_,rfl,by omega,rfl⟩;rw[l,j];rfl
   |false=>rw[u]at b;rw[b]at l;refine onT rfl ⟨_,rfl,_,_,rfl,rfl,(D - (d+(n+1:Nat))).toNat,by omega,n+1,?_,rfl,by omega,rfl⟩;rw[l,j];simp
 ·have v:¬ ((Dm.cnt g (d+1) n:Nat):Int)<t:=of_decide_eq_false (Bool.eq_false_iff.mpr c);have e:d+n=D:=by
   refine Int.le_antisymm r (cZB.mp λz=>v (p.less z))
  refine⟨_,rfl,?_⟩;rw[e];exact q
noncomputable def jZ (R:Rows) (shut:List Int) (k:Nat):Int:=Bk.due shut (Bk.dt R k) (((R[k]?).map (·.term)).getD 0)
noncomputable def Y3 (R:Rows) (shut:List Int) (d:Int) (a:Bool) (k:Nat):Bool:=Bk.Q1 R k d && (!a || decide (jZ R shut k<d))
inductive aQc(vs:List V)(H:Hp)(Q:VK)(_:XK):Prop|mk (ra sa:Nat) (rs:List Nat) (R:Rows) (shut:List Int) (d:Int) (late:Bool) (_:vs= [.ref ra,.ref sa,.int d,.bl late]) (_:xA H ra rs R) (_:H sa=some (.lst (shut.map V.int))) (_:R.length<64) (_:∀ (r:Nat)(H':Hp)(l:List Nat),xC H H'->H r=none->H' r=some (.lst (l.map λi=>V.int (i:Nat)))->Bk.aKL R shut d late l->Q (.ref r) H')
def aKH(H:Hp)(g:Nat->Int)(k:Nat)(x:V):Prop:=∃p,x= .ref p/\H p=some (.tup [.int (g k),.int (k:Nat)])
def aKH.tk{H b:Hp}{g:Nat->Int}(t:∀a c,H a=some (.tup c)->b a=some (.tup c)){k:Nat}{x:V}(h:aKH H g k x):aKH b g k x:=let ⟨p,e,a⟩:=h;⟨p,e,t _ _ a⟩
def aXz{R:Rows}{k:Nat}{d:Int}(a:k<R.length)(h:Bk.Q1 R k d=true):1<=R[k].term:=by
 unfold Bk.Q1 at h;rw[bYK a]at h;simp only[Bool.and_eq_true,decide_eq_true_eq]at h;exact h.1.1.2
def bQy:yN ["_law_rows","_law_shut","_law_date","_law_late","_law_made","_law_k","_law_last"] ["_law_rows","_law_shut","_law_date","_law_late"] (yH aXX):=scM
def aYm:xN ["_law_rows","_law_shut","_law_date","_law_late","_law_made","_law_k","_law_last"] (yH aXX) "_law_pair" [] [] (lsN [(".0",.local),("_law_pair",.local)]):=
 lcM
def bX6{α β:Type}{F:α->β->Prop}:∀ {l:List α} {m:List β} {i:Nat} {y:β},cQA F l m->m[i]? =some y->∃x,l[i]? =some x/\F x y
 |_,_,0,_,.cons r _,h=>by simp at h;subst h;exact⟨_,rfl,r⟩
 |_,_,i+1,_,.cons _ t,h=>by simpa using bX6 (i:=i) t (by simpa using h)
 |_,_,i,_,.nil,h=>by simp at h
def aXs{α β:Type}{F:α->β->Prop}{x:α}{y:β}(r:F x y):∀ {l:List α} {m:List β},cQA F l m->cQA F (l++ [x]) (m++ [y])
 |_,_,.nil=> .cons r .nil
 |_,_,.cons a t=> .cons a (aXs r t)
def aQ5{a H:Hp}{c:Nat}{o:HO}(k:xC a H)(h:a c=none):xC a (upd H c o):=λb u q=>by rw[yI (yJ q h)];exact k b u q
def bKB(H:Hp):V->V
 |.ref p=>match H p with
  |some (.tup [_,y])=>y
  |_=> .non
 |_=> .non
def aV4{H:Hp}{p:Nat}{x y:V}(h:H p=some (.tup [x,y])):bKB H (.ref p)=y:=by
 show(match H p with|some (.tup [_,y])=>y|_=>V.non)=y;rw[h]
def aYL(T:vJ mg)(D:mg "sorted"=none)(n:FnG P w K mg base 2 "_law_waits_on" ["_law_rows","_law_number","_law_date"] bQU)(B:FnG P w K mg base 2 "_law_due_by" ["_law_shut","_law_date","_law_term"] (bQM K)) (F:Fun K "_law_list_on" "_law_list_on" aXX f fd):xE P w K mg base CX0 3 f fd ["_law_rows","_law_shut","_law_date","_law_late"] aQc:=by
 have sc:=bQy;refine F.ok (k:=2) sc (λb9 A outer s H0 vs Q E hr h=>?_);obtain⟨N,sa,rs,R,shut,d,c,rfl,hB,b3,hR,q⟩:=h;refine⟨_,(yC (yU (i:=4) (y6 yD)) (yC (zT cQz rfl (zL rfl T.b_range (yA (yQ yO rfl T.b_len xB (yA (pv 0) yD)) yD)) (y9 (i:=5)) (yF (y7 (xZ (xJ n hr rfl (yA (pv 0) (yA (pv 5) (yA (pv 2) yD))))) (yC (yU (i:=6) (xJ B hr rfl (yA (pv 1) (yA (yL yK (yL yK (pv 0) (pv 5)) yE) (yA (yL yK (yL yK (pv 0) (pv 5)) yE) yD))))) (yF (y7 (PW.pt (jW (vF (xZ (pv 3))) (vT (yM vL (pv 6) (pv 2))))) (yF (yY (vM cQa cQh cQi xD (pv 4) (yA (xG (yA (pv 6) (yA (pv 5) yD))) yD)))) yS))) yS))) (yF (yP (aQF aYm rfl (xL (yQ uK rfl D vA (yA (pv 4) yD))) (λ_ _ _ _ _=>wK) (λ_ _ _ _ _=>(yL ixT (pv 0) yE))))))),?_⟩;refine⟨z0,λC a5=>?_⟩;dsimp only[yW];have k1:=yG a5 (.lst []);have hl:(rs.map V.ref).length=R.length:=by rw[bYP];exact hB.len
 refine⟨_,rfl,N,_,rfl,.inl (SqL.of (k1 _ _ hB.lst)),?_⟩;rw[hl];refine⟨_,rfl,by omega,by omega,?_⟩;rw[cQm];refine z7 (λt σ H=>∃ (g:List V)(M O:Option V),σ= [some (.ref N),some (.ref sa),some (.int d),some (.bl c),some (.ref C),M,O]/\xC H0 H/\H C=some (.lst g)/\
  cQA (aKH H (jZ R shut)) ((bYY t).filter (Y3 R shut d c)) g) ?_ ?_ ?_
 ·exact⟨[],none,none,rfl,k1,yB,.nil⟩
 ·rintro k σ H hk ⟨g,M,O,rfl,o,y,U⟩;rw[cXV];dsimp only[yW];have a8:=hB.same o;have Z:=bYK hk;rw[cZb,cQW];have stay:∀Y M O,xC H Y->Y3 R shut d c k=false->∃ (g:List V)(p5 p6:Option V),[some (V.ref N),some (V.ref sa),some (V.int d),some (V.bl c),some (V.ref C),M,O]= [some (.ref N),some (.ref sa),some (.int d),some (.bl c),some (.ref C),p5,p6]/\xC H0 Y/\Y C=some (.lst g)/\
    cQA (aKH Y (jZ R shut)) ((bYY k).filter (Y3 R shut d c)++ [k].filter (Y3 R shut d c)) g:=λY M O kk e=>by
   have e3: [k].filter (Y3 R shut d c)= []:=by simp[e]
   rw[e3,cQO]
   exact⟨g,M,O,rfl,o.trans kk,kk _ _ y,Paired.mapP U λ_ _ z=>z.tk λa xs e=>kk _ _ e⟩
  refine⟨_,rfl,_,rfl,_,rfl,N,rs,R,k,d,rfl,a8,by omega,hk,λH2 I=>⟨_,rfl,?_⟩⟩;cases hw:Bk.Q1 R k d with
  |false=>exact onF rfl (stay H2 _ _ I (by unfold Y3;rw[hw];rfl))
  |true=>
   have b5:=aXz hk hw;have W:=a8.same I;obtain⟨b,g1,g2,cp,g3,g4⟩:=W.get Z;have hD:=Bk.bWB shut (Bk.dt R k) b5;have eD:jZ R shut k=Bk.due shut (Bk.dt R k) R[k].term:=by unfold jZ;rw[Z];rfl
   rw[<- eD,Bk.vK Z]at hD;refine onT rfl ?_;refine⟨_,rfl,_,rfl,_,rfl,N,_,_,_,rfl,rfl,SqL.of W.lst,yT g1,b,_,1,_,rfl,rfl,SqL.of g3,rfl,_,rfl,_,rfl,N,_,_,_,rfl,rfl,SqL.of W.lst,yT g1,b,_,3,_,rfl,rfl,SqL.of g3,rfl,?_⟩;refine⟨sa,shut,_,_,jZ R shut k,rfl,SqL.of (I _ _ (o _ _ b3)),hD,?_⟩;dsimp only[yW];have a7:Y3 R shut d c k=true->aVv (tBM K "list" aY1 (bV9 4) (aKD (bYo (aKD (bV9 6) (aKD (bV9 5) bZO))) bZO)) {nx:=λσ H=>∃ (g:List V)(M O:Option V),σ= [some (.ref N),some (.ref sa),some (.int d),some (.bl c),some (.ref C),M,O]/\xC H0 H/\H C=some (.lst g)/\cQA (aKH H (jZ R shut)) ((bYY k).filter (Y3 R shut d c)++ [k].filter (Y3 R shut d c)) g,rt:=Q} [some (.ref N),some (.ref sa),some (.int d),some (.bl c),some (.ref C),some (.int (k:Nat)),some (.int (jZ R shut k))] H2:=λe=>by
    have a3:=I _ _ y;refine⟨_,rfl,.inl ⟨rfl,_,SqL.of a3⟩,_,rfl,_,rfl,z2,λq3 b6=>?_⟩;have k5:=yG b6 (.tup [V.int (jZ R shut k),V.int (k:Nat)]);have b1:=k5 _ _ a3;have il:g.length<=k:=by rw[<- U.length];exact cQo (cQL _ _) (by simp)
    have t6:∀a xs,upd H2 q3 (.tup [V.int (jZ R shut k),V.int (k:Nat)]) a=some (.tup xs)->upd (upd H2 q3 (.tup [V.int (jZ R shut k),V.int (k:Nat)])) C (.lst (g++ [V.ref q3])) a=some (.tup xs):=λa xs e=>by rw[yI (aXc e b1 (by intro z;cases z))];exact e
    have e3: [k].filter (Y3 R shut d c)= [k]:=by simp[e]
    refine⟨C,g,.ref q3,rfl,rfl,b1,zlt (by omega),g++ [.ref q3],_,_,rfl,aQ5 (o.trans (I.trans k5)) a5,yB,?_⟩;rw[e3];exact aXs ⟨q3,rfl,t6 _ _ yB⟩ (Paired.mapP U λ_ _ z=>z.tk λa xs e=>t6 _ _ (k5 _ _ (I _ _ e)))
   refine⟨_,rfl,_,rfl,?_⟩;by_cases j:c=true
   ·refine onF (by rw[j];rfl) ⟨_,rfl,_,rfl,_,_,rfl,rfl,_,rfl,?_⟩;cases a1:decide (jZ R shut k<d)with
    |true=>exact onT rfl (a7 (by unfold Y3;rw[hw,j,a1];rfl))
    |false=>exact onF rfl (stay H2 _ _ I (by unfold Y3;rw[hw,j,a1];rfl))
   ·have hf:c=false:=by simpa using j
    exact onT (by rw[hf];rfl) (onT rfl (a7 (by unfold Y3;rw[hw,hf];rfl)))
 ·rintro σ H1 ⟨g,M,O,rfl,o,y,U⟩;generalize L:(bYY R.length).filter (Y3 R shut d c)=fam at U;have a6:fam.length=g.length:=U.length;have fn:fam.length<=R.length:=by rw[<- L];exact cQo (cQL _ _) (by simp)
  have a4:∀k,k∈fam↔k<R.length/\Y3 R shut d c k=true:=λk=>by rw[<- L,cQT,cQn]
  have b7:fam.Nodup:=by rw[<- L];exact cZW.sublist cXN
  refine⟨_,rfl,C,g,λm=>(jZ R shut (fam.getD m 0),((fam.getD m 0:Nat):Int)),rfl,y,by omega,λa b ha hb e=>?_,λm x hx=>?_,λl out hl X b2=>?_⟩
  ·have G:fam.getD a 0=fam.getD b 0:=by have:=congrArg Prod.snd e;simp only at this;omega
   have a9:a<fam.length:=by omega
   have a2:b<fam.length:=by omega
   simp[cQv,bYK a9,bYK a2]at G;exact(cXA (h₀:=a9) (h₁:=a2) b7).mp G
  ·obtain⟨k,hk,p,e1,G⟩:=bX6 U hx;have:fam.getD m 0=k:=by simp[cQv,hk]
   show ∃a,x=V.ref a/\H1 a=some (.tup [V.int (jZ R shut (fam.getD m 0)),V.int ((fam.getD m 0:Nat):Int)]);rw[this];exact⟨p,e1,G⟩
  ·have hm:∀m∈out,m<g.length:=λm hm=>cQn.mp (X.mem_iff.mp hm);have I:=yG hl (.lst (out.map λi=>g.getD i .non));refine⟨l,rfl,⟨_,SqL.of yB⟩,λr S=>?_⟩;have b8:out.length=g.length:=by rw[X.length_eq,cQE]
   have b0:∀m∈out,∃p,g.getD m .non= .ref p/\H1 p=some (.tup [.int (jZ R shut (fam.getD m 0)),.int ((fam.getD m 0:Nat):Int)]):=λm u=>by
    have J:=hm m u;have hg:g[m]? =some (g.getD m .non):=by simp[cQv,bYK J]
    obtain⟨k,hk,p,e1,G⟩:=bX6 U hg;have:fam.getD m 0=k:=by simp[cQv,hk]
    rw[this];exact⟨p,e1,G⟩
   refine aZJ (λ_=>true) (bKB H1) (SqL.of yB) S (zn (by rw[bYP];omega)) (λv hv Y R' _ h=>h) (λv hv _ Y R' hH a0=>?_) ?_
   ·obtain⟨m,u,rfl⟩:=cQQ.mp hv;obtain⟨p,e1,G⟩:=b0 m u;rw[e1]at a0 ⊢;have e4:=I _ _ G;have e5:=(hH p (yJ e4 S)).trans e4;rw[aV4 G]at a0;exact⟨_,rfl,p,_,1,_,rfl,rfl,SqT.of e5,rfl,a0⟩
   ·have ff:(out.map λi=>g.getD i .non).filter (λ_=>true)=out.map λi=>g.getD i .non:=cZw.mpr λ_ _=>rfl;have e6:((out.map λi=>g.getD i .non).map (bKB H1))=(out.map λm=>fam.getD m 0).map λi=>V.int (i:Nat):=by
     rw[cXX,cXX];refine cJH λm u=>?_;obtain⟨p,e1,G⟩:=b0 m u;show bKB H1 (g.getD m .non)=V.int (fam.getD m 0:Nat);rw[e1];exact aV4 G
    rw[ff,e6];refine q r _ (out.map λm=>fam.getD m 0) (o.trans (I.trans (yG S _))) ((o.trans I).fresh S) yB ⟨λk=>?_,?_⟩
    ·have b4:k∈out.map (λm=>fam.getD m 0)↔k∈fam:=by
      constructor
      ·intro h;obtain⟨m,u,rfl⟩:=cQQ.mp h;have J:m<fam.length:=by rw[a6];exact hm m u
       simp[cQv,bYK J]
      ·intro h;obtain⟨m,J,e⟩:=cQC h;refine cQQ.mpr ⟨m,X.mem_iff.mpr (cQn.mpr (by omega)),?_⟩;simp[cQv,bYK J,e]
     rw[b4,a4 k];unfold Y3;rw[Bool.and_eq_true,Bool.or_eq_true,decide_eq_true_eq];refine and_congr Iff.rfl (and_congr Iff.rfl ?_);cases c<;> simp[jZ]
    ·rw[cJg];exact b2
end
end Law
namespace Law
open PySem L2 PyProof.Rows
open Bk (Row Rows)
open Stree (qQ jL wG)
abbrev aXW:Stmt:=xF "_law_family"
def zX{a H:Hp}{c:Nat}{o:HO}(k:xC a H)(h:a c=none):xC a (upd H c o):=λb u q=>by rw[yI (yJ q h)];exact k b u q
def wT{H:Hp}{p:Nat}{c:List V}{o:HO}(h:H p=some (.lst c)):∀a b,H a=some (.tup b)->upd H p o a=some (.tup b):=λa b e=>by rw[yI (aXc e h (by intro z;cases z))];exact e
structure bZ3(H:Hp)(ra:Nat)(rs:List Nat)(n:Nat)(L:Nat->Option Nat)(D:Nat->Int):Prop where
 lst:H ra=some (.lst (rs.map V.ref))
 len:rs.length=n
 row:∀i b,rs[i]? =some b->∃xs,H b=some (.lst xs)/\xs[1]? =some (.int (D i))/\xs[4]? =some (w6 (L i))
inductive aQb(vs:List V)(H:Hp)(Q:VK)(_:XK):Prop|mk (ra:Nat) (rs:List Nat) (n:Nat) (L:Nat->Option Nat) (rk:Nat->Nat) (D:Nat->Int) (i:Nat) (_:vs= [.ref ra,.int (i:Nat)]) (_:bZ3 H ra rs n L D) (_:Fm.Ok n L rk) (_:n<=60) (_:i<n) (_:∀ (H':Hp)(r:Nat)(out:List Nat),xC H H'->H r=none->H' r=some (.lst (out.map λi=>V.int (i:Nat)))->(out.Pairwise λx y=>jL (Fm.rd L D rk x) (Fm.rd L D rk y)=true)->(∀k,k∈out↔k<n/\Fm.tp L rk k=Fm.tp L rk i)->Q (.ref r) H')
def Tk(H c:Hp):Prop:=∀a b,H a=some (.tup b)->c a=some (.tup b)
def xC.tk{H b:Hp}(k:xC H b):Tk H b:=λa c e=>k a _ e
def Tk.trans{H d f:Hp}(a:Tk H d)(b:Tk d f):Tk H f:=λc g e=>b c g (a c g e)
def Y8.tk{H d:Hp}(k:Tk H d){b:Nat}{a:qQ}(h:Y8 H b a):Y8 d b a:=let ⟨xs,e,z⟩:=h;⟨xs,k _ _ e,Paired.mapP z λ_ _ ⟨c,w1,w2⟩=>⟨c,w1,k _ _ w2⟩⟩
def bKx(H:Hp)(rd:Nat->qQ)(k:Nat)(x:V):Prop:=∃p b,x= .ref p/\H p=some (.tup [.ref b,.int (k:Nat)])/\Y8 H b (rd k)
def bKx.tk{H d:Hp}{rd:Nat->qQ}(t:Tk H d){k:Nat}{x:V}(h:bKx H rd k x):bKx d rd k x:=let ⟨p,b,e,a,c⟩:=h;⟨p,b,e,t _ _ a,Y8.tk t c⟩
def Y1{α β:Type}{F:α->β->Prop}:∀ {l:List α} {m:List β} {i:Nat} {y:β},cQA F l m->m[i]? =some y->∃x,l[i]? =some x/\F x y
 |_,_,0,_,.cons r _,h=>by simp at h;subst h;exact⟨_,rfl,r⟩
 |_,_,i+1,_,.cons _ t,h=>by simpa using Y1 (i:=i) t (by simpa using h)
 |_,_,i,_,.nil,h=>by simp at h
def aQC{α β:Type}{F:α->β->Prop}{x:α}{y:β}(r:F x y):∀ {l:List α} {m:List β},cQA F l m->cQA F (l++ [x]) (m++ [y])
 |_,_,.nil=> .cons r .nil
 |_,_,.cons a t=> .cons a (aQC r t)
section
variable {K:bYM}
def bQx:yN ["_law_rows","_law_number","_law_root","_law_keys","_law_k","_law_key","_law_top"] ["_law_rows","_law_number"] (yH aXW):=scM
def aYl:xN ["_law_rows","_law_number","_law_root","_law_keys","_law_k","_law_key","_law_top"] (yH aXW) "_law_pair" [] [] (lsN [(".0",.local),("_law_pair",.local)]):=
 lcM
def bKg(H:Hp):V->V
 |.ref p=>match H p with
  |some (.tup [_,y])=>y
  |_=> .non
 |_=> .non
def aV5{H:Hp}{p:Nat}{x y:V}(h:H p=some (.tup [x,y])):bKg H (.ref p)=y:=by
 show(match H p with|some (.tup [_,y])=>y|_=>V.non)=y;rw[h]
def aYK(T:vJ mg)(Y:mg "sorted"=none)(F:Fun K "_law_family" "_law_family" aXW f fd):xE P w K mg base CX0 2 f fd ["_law_rows","_law_number"] aQb:=by
 have sc:=bQx;refine F.ok (k:=1) sc (λf2 A outer s H0 vs Q E hr h=>?_);obtain⟨W,rs,n,L,g,D,i,rfl,hR,ho,hn,hi,q⟩:=h;refine⟨_,(yC (yU (i:=2) (pv 1)) (yC (uC cQz (yM wA (yL yK (yL yK (pv 0) (pv 2)) yE) x6) (yF (yU (i:=2) (yL yK (yL yK (pv 0) (pv 2)) yE)))) (yC (yU (i:=3) (y6 yD)) (yC (zT cQz rfl (zL rfl T.b_range (yA (yQ yO rfl T.b_len xB (yA (pv 0) yD)) yD)) (y9 (i:=4)) (yC (yU (i:=5) (xG (yA (xG (yA (yL yK (yL yK (pv 0) (pv 4)) yE) (yA (pv 4) yD))) yD))) (yC (yU (i:=6) (pv 4)) (yC (uC cQz (yM wA (yL yK (yL yK (pv 0) (pv 6)) yE) x6) (yC (yU (i:=6) (yL yK (yL yK (pv 0) (pv 6)) yE)) (yF (yU (i:=5) (yV bVp (xG (yA (xG (yA (yL yK (yL yK (pv 0) (pv 6)) yE) (yA (pv 6) yD))) yD)) (pv 5)))))) (yF (y7 (yM zI (pv 6) (pv 2)) (yF (yY (vM cQa cQh cQi xD (pv 3) (yA (xG (yA (pv 5) (yA (pv 4) yD))) yD)))) yS)))))) (yF (yP (aQF aYl rfl (xL (yQ (J8 hr) rfl Y vA (yA (pv 3) yD))) (λ_ _ _ _ _=>wK) (λ_ _ _ _ _=>(yL ixT (pv 0) yE))))))))),?_⟩;have row:∀ {H:Hp} {t:Nat},xC H0 H->t<n->∃b G,(rs.map V.ref)[t]? =some (.ref b)/\H b=some (.lst G)/\G[1]? =some (.int (D t))/\G[4]? =some (w6 (L t)):=λ{H t} k ht=>by
  have d0:t<rs.length:=by rw[hR.len];exact ht
  have hb:=bYK d0;obtain⟨G,h1,h2,h3⟩:=hR.row t _ hb;exact⟨rs[t],G,by rw[bY5,hb];rfl,k _ _ h1,h2,h3⟩
 refine⟨_,rfl,?_⟩;dsimp only[yW];refine⟨λm σ H=>∃t:Nat,σ= [some (.ref W),some (.int (i:Nat)),some (.int (t:Nat)),none,none,none,none]/\H=H0/\t<n/\Fm.tp L g t=Fm.tp L g i/\m=g t,⟨g i,i,rfl,rfl,hi,rfl,rfl⟩,?_⟩;rintro m σ H ⟨t,rfl,rfl,ht,c8,rfl⟩;obtain⟨b,G,g1,g2,g3,g4⟩:=row (xC.refl H) ht;refine⟨_,rfl,_,rfl,W,_,_,_,rfl,rfl,SqL.of hR.lst,yT g1,b,G,4,_,rfl,rfl,SqL.of g2,yT (j:=4) g4,rfl,_,rfl,?_⟩;cases hl:L t with
 |some j=>obtain⟨hj,b2⟩:=ho.lt t j ht hl;refine onT rfl ⟨λσ' H'=>∃m',m'<g t/\∃t:Nat,σ'= [some (.ref W),some (.int (i:Nat)),some (.int (t:Nat)),none,none,none,none]/\H'=H/\t<n/\Fm.tp L g t=Fm.tp L g i/\m'=g t,λσ' H' z=>z,?_⟩;refine⟨_,rfl,_,rfl,W,_,_,_,rfl,rfl,SqL.of hR.lst,yT g1,b,G,4,_,rfl,rfl,SqL.of g2,yT (j:=4) g4,?_⟩;rw[hl];exact⟨g j,b2,j,rfl,rfl,hj,by rw[<- c8,Fm.uI ho ht hl],rfl⟩
 |none=>
  have c3:t=Fm.tp L g i:=by rw[<- c8,Fm.wC hl]
  subst c3;refine onF rfl ?_;refine⟨z0,λka c4=>?_⟩;dsimp only[yW];have k1:=yG c4 (.lst []);have b8:(rs.map V.ref).length=n:=by rw[bYP];exact hR.len
  refine⟨_,rfl,W,_,rfl,.inl (SqL.of (k1 _ _ hR.lst)),?_⟩;rw[b8];refine⟨_,rfl,by omega,by omega,?_⟩;rw[cQm];refine z7 (λt σ H'=>∃ (d:List V)(o4 o5 o6:Option V),σ= [some (.ref W),some (.int (i:Nat)),some (.int (Fm.tp L g i:Nat)),some (.ref ka),o4,o5,o6]/\xC H H'/\H' ka=some (.lst d)/\
   cQA (bKx H' (Fm.rd L D g)) ((bYY t).filter λk=>decide (Fm.tp L g k=Fm.tp L g i)) d) ?_ ?_ ?_
  ·exact⟨[],none,none,none,rfl,k1,yB,.nil⟩
  ·rintro k σ M hk ⟨d,o4,o5,o6,rfl,y,I,hP⟩;rw[cXV];dsimp only[yW];obtain⟨b,G,g1,g2,g3,g4⟩:=row y hk;have d8:=y _ _ hR.lst;refine⟨_,rfl,_,rfl,W,_,_,_,rfl,rfl,SqL.of d8,yT g1,b,G,1,_,rfl,rfl,SqL.of g2,yT (j:=1) g3,_,rfl,z2,λp1 a0=>⟨z1,λp2 b4=>?_⟩⟩;dsimp only[yW];have d6:=yG a0 (.tup [V.int (D k),V.int (k:Nat)]);have c6:=yG b4 (.tup [V.ref p1]);have X:Y8 (upd (upd M p1 (.tup [V.int (D k),V.int (k:Nat)])) p2 (.tup [V.ref p1])) p2 [(D k,(k:Int))]:=⟨[.ref p1],yB,.cons ⟨p1,rfl,c6 _ _ yB⟩ .nil⟩;have c7:xC M (upd (upd M p1 (.tup [V.int (D k),V.int (k:Nat)])) p2 (.tup [V.ref p1])):=d6.trans c6;generalize upd (upd M p1 (.tup [V.int (D k),V.int (k:Nat)])) p2 (.tup [V.ref p1])=H2 at X c7 ⊢;refine⟨_,rfl,?_⟩;dsimp only[yW];refine⟨λm σ N=>∃ (o:Nat)(S:qQ)(kb:Nat),σ= [some (.ref W),some (.int (i:Nat)),some (.int (Fm.tp L g i:Nat)),some (.ref ka),some (.int (k:Nat)),some (.ref kb),some (.int (o:Nat))]/\xC M N/\o<n/\
     Y8 N kb ((D o,(o:Int))::S)/\Fm.rd L D g k=Fm.rd L D g o++S/\Fm.tp L g o=Fm.tp L g k/\m=g o,⟨g k,k,[],p2,rfl,c7,hk,X,by rw[cQO],rfl,rfl⟩,?_⟩
   rintro m σ N ⟨o,S,kb,rfl,u,a7,Z,b7,c2,rfl⟩;have B:=y.trans u;obtain⟨b,G,g1,g2,g3,g4⟩:=row B a7;refine⟨_,rfl,_,rfl,W,_,_,_,rfl,rfl,SqL.of (B _ _ hR.lst),yT g1,b,G,4,_,rfl,rfl,SqL.of g2,yT (j:=4) g4,rfl,_,rfl,?_⟩;cases O:L o with
   |some j=>
    obtain⟨hj,b2⟩:=ho.lt o j a7 O;refine onT rfl ⟨λσ N=>∃m',m'<g o/\∃ (o:Nat)(S:qQ)(kb:Nat),σ= [some (.ref W),some (.int (i:Nat)),some (.int (Fm.tp L g i:Nat)),some (.ref ka),some (.int (k:Nat)),some (.ref kb),some (.int (o:Nat))]/\xC M N/\o<n/\
     Y8 N kb ((D o,(o:Int))::S)/\Fm.rd L D g k=Fm.rd L D g o++S/\Fm.tp L g o=Fm.tp L g k/\m'=g o,λσ' H' z=>z,?_⟩
    refine⟨_,rfl,_,rfl,W,_,_,_,rfl,rfl,SqL.of (B _ _ hR.lst),yT g1,b,G,4,_,rfl,rfl,SqL.of g2,yT (j:=4) g4,?_⟩;rw[O];dsimp only[yW,w6];obtain⟨b',e0,d3,d2,c9,f3⟩:=row B hj;refine⟨_,rfl,_,rfl,W,_,_,_,rfl,rfl,SqL.of (B _ _ hR.lst),yT d3,b',e0,1,_,rfl,rfl,SqL.of d2,yT (j:=1) c9,_,rfl,z2,λJ d9=>⟨z1,λq2 e8=>?_⟩⟩;have d4:=yG d9 (.tup [V.int (D j),V.int (j:Nat)]);have b9:=yG e8 (.tup [V.ref J]);have b3:xC N (upd (upd N J (.tup [V.int (D j),V.int (j:Nat)])) q2 (.tup [V.ref J])):=d4.trans b9;have e1:upd (upd N J (.tup [V.int (D j),V.int (j:Nat)])) q2 (.tup [V.ref J]) J=some (.tup [V.int (D j),V.int (j:Nat)]):=b9 _ _ yB;have U:upd (upd N J (.tup [V.int (D j),V.int (j:Nat)])) q2 (.tup [V.ref J]) q2=some (.tup [V.ref J]):=yB;generalize upd (upd N J (.tup [V.int (D j),V.int (j:Nat)])) q2 (.tup [V.ref J])=H4 at b3 e1 U ⊢;obtain⟨ys,y1,y2⟩:=Y8.tk (xC.tk b3) Z;have a9:ys.length=S.length+1:=by have:=y2.length;simpa using this.symm
    have c1:(Fm.rd L D g k).length<=n:=Fm.bW6 ho hk;rw[b7,bY8]at c1;have d5:ys≠ []:=λz=>by rw[z]at a9;simp at a9
    refine⟨_,rfl,q2,kb,_,ys,rfl,rfl,SqT.of U,SqT.of y1,by simp,by rw[cQk];show 1+ys.length<=_;omega,λz=>absurd z d5,λ_ q3 b5=>?_⟩;have C:=yG b5 (.tup ([V.ref J]++ys));refine⟨g j,b2,j,(D o,(o:Int))::S,q3,rfl,u.trans (b3.trans C),hj,⟨_,yB,.cons ⟨J,rfl,C _ _ e1⟩ (Paired.mapP y2 λ_ _ ⟨c,w1,w2⟩=>⟨c,w1,C _ _ w2⟩)⟩,?_,?_,rfl⟩
    ·rw[b7,Fm.uD ho a7 O,cQ1];rfl
    ·rw[<- c2,Fm.uI ho a7 O]
   |none=>
    have b6:o=Fm.tp L g k:=by rw[<- c2,Fm.wC O]
    have d7:Fm.rd L D g k=(D o,(o:Int))::S:=by rw[b7,Fm.X8 O];rfl
    refine onF rfl ?_;refine⟨_,rfl,_,rfl,rfl,_,rfl,?_⟩;rw[cZb,cQW];by_cases ec:Fm.tp L g k=Fm.tp L g i
    ·have hd:decide ((V.int (o:Nat))=V.int (Fm.tp L g i:Nat))=true:=by rw[b6,ec];simp
     refine onT (by rw[b6,ec];simp) ?_;have b0:=u _ _ I;refine⟨_,rfl,.inl ⟨rfl,_,SqL.of b0⟩,_,rfl,_,rfl,z2,λq3 b5=>?_⟩;have C:=yG b5 (.tup [V.ref kb,V.int (k:Nat)]);have b1:=C _ _ b0;have il:d.length<=k:=by have:=hP.length;rw[<- this];exact cQo (cQL _ _) (by simp)
     have t6:Tk (upd N q3 (.tup [V.ref kb,V.int (k:Nat)])) (upd (upd N q3 (.tup [V.ref kb,V.int (k:Nat)])) ka (.lst (d++ [V.ref q3]))):=λa G e=>wT b1 a G e;refine⟨ka,d,.ref q3,rfl,rfl,b1,zlt (by omega),d++ [.ref q3],_,_,_,rfl,zX (y.trans (u.trans C)) c4,yB,?_⟩;have e3: [k].filter (λk=>decide (Fm.tp L g k=Fm.tp L g i))= [k]:=by simp[ec]
     rw[e3];refine aQC ⟨q3,kb,rfl,t6 _ _ yB,?_⟩ (Paired.mapP hP λ_ _ z=>z.tk ((xC.tk (u.trans C)).trans t6));rw[d7];exact Y8.tk ((xC.tk C).trans t6) Z
    ·refine onF ?_ ⟨d,_,_,_,rfl,y.trans u,u _ _ I,?_⟩
     ·rw[b6];simp;omega
     ·have e3: [k].filter (λk=>decide (Fm.tp L g k=Fm.tp L g i))= []:=by simp[ec]
      rw[e3,cQO];exact Paired.mapP hP λ_ _ z=>z.tk (xC.tk u)
  ·rintro σ M ⟨d,o4,o5,o6,rfl,y,I,hP⟩;generalize a6:(bYY n).filter (λk=>decide (Fm.tp L g k=Fm.tp L g i))=fam at hP;have f1:fam.length=d.length:=hP.length;have fn:fam.length<=n:=by rw[<- a6];exact cQo (cQL _ _) (by simp)
   have a1:∀k,k∈fam↔k<n/\Fm.tp L g k=Fm.tp L g i:=λk=>by rw[<- a6,cQT,cQn,decide_eq_true_eq]
   have e7:fam.Nodup:=by rw[<- a6];exact cZW.sublist cXN
   have a2:∀m,m<d.length->fam.getD m 0∈fam:=λm hm=>by
    have e9:m<fam.length:=by omega
    simp[cQv,bYK e9]
   refine⟨_,rfl,ka,d,λm=>Fm.rd L D g (fam.getD m 0),λm=>((fam.getD m 0:Nat):Int),rfl,I,by omega,λa b ha hb e=>?_,λm x hx=>?_,λl out hl a0 b4=>?_⟩
   ·have U:=Fm.aY2 ho ((a1 _).mp (a2 a ha)).1 ((a1 _).mp (a2 b hb)).1 e;have c5:a<fam.length:=by omega
    have c0:b<fam.length:=by omega
    simp[cQv,bYK c5,bYK c0]at U;exact(cXA (h₀:=c5) (h₁:=c0) e7).mp U
   ·obtain⟨k,hk,p,b,e1,U,e3⟩:=Y1 hP hx;have:fam.getD m 0=k:=by simp[cQv,hk]
    show ∃a b,x=V.ref a/\M a=some (.tup [V.ref b,V.int ((fam.getD m 0:Nat):Int)])/\Y8 M b (Fm.rd L D g (fam.getD m 0));rw[this];exact⟨p,b,e1,U,e3⟩
   ·have hm:∀m∈out,m<d.length:=λm hm=>cQn.mp (a0.mem_iff.mp hm);have k2:=yG hl (.lst (out.map λi=>d.getD i .non));refine⟨l,rfl,⟨_,SqL.of yB⟩,λr a8=>?_⟩;have f0:out.length=d.length:=by rw[a0.length_eq,cQE]
    refine aZJ (λ_=>true) (bKg M) (SqL.of yB) a8 (zn (by rw[bYP];omega)) ?_ ?_ ?_
    ·intro v hv H' R hH a5;exact a5
    ·intro v hv _ H' R hH a5;obtain⟨m,a3,rfl⟩:=cQQ.mp hv;have a4:=hm m a3;have hg:d[m]? =some (d.getD m .non):=by simp[cQv,bYK a4]
     obtain⟨k,hk,p,b,e1,U,e3⟩:=Y1 hP hg;rw[e1]at a5 ⊢;have e4:=k2 _ _ U;have d1:p≠r:=yJ e4 a8;have e5:H' p=some (.tup [.ref b,.int (k:Nat)]):=by rw[hH p d1];exact e4
     refine⟨_,rfl,p,_,1,.int (k:Nat),rfl,rfl,SqT.of e5,rfl,?_⟩;have:bKg M (.ref p)= .int (k:Nat):=aV5 U;rw[this]at a5;exact a5
    ·have ff:(out.map λi=>d.getD i .non).filter (λ_=>true)=out.map λi=>d.getD i .non:=cZw.mpr λ_ _=>rfl;rw[ff,cXX];have e6:(out.map (bKg M∘λi=>d.getD i .non))=(out.map λm=>fam.getD m 0).map λi=>V.int (i:Nat):=by
      rw[cXX];refine cJH λm a3=>?_;have a4:=hm m a3;have hg:d[m]? =some (d.getD m .non):=by simp[cQv,bYK a4]
      obtain⟨k,hk,p,b,e1,U,e3⟩:=Y1 hP hg;show bKg M (d.getD m .non)=V.int (fam.getD m 0:Nat);have:fam.getD m 0=k:=by simp[cQv,hk]
      rw[e1,this];exact aV5 U
     rw[e6];refine q _ r (out.map λm=>fam.getD m 0) (y.trans (k2.trans (yG a8 _))) ((y.trans k2).fresh a8) yB ?_ λk=>?_
     ·rw[cJg];exact b4
     ·rw[<- a1 k];constructor
      ·intro h;obtain⟨m,a3,rfl⟩:=cQQ.mp h;exact a2 m (hm m a3)
      ·intro h;obtain⟨m,a4,e⟩:=cQC h;refine cQQ.mpr ⟨m,a0.mem_iff.mpr (cQn.mpr (by omega)),?_⟩;simp[cQv,bYK a4,e]
end
def xA.rows{H:Hp}{d:Nat}{c:List Nat}{R:Rows}(h:xA H d c R):bZ3 H d c R.length (Bk.lk R) (Bk.dt R):=
 ⟨h.lst,h.len,λi b e=>by
  have f:i<R.length:=by rw[<- h.len];exact(bYW.mp e).1
  have a:=bYK f;obtain⟨j,g,k⟩:=h.row i b _ e a;exact⟨_,g,by rw[Bk.vK a];rfl,by rw[Bk.uA a];rfl⟩⟩
end Law
namespace Law
open PySem L2 PyProof.Rows
open Bk (Row Rows)
def uO(r:Row)(a:Nat):List V:= [.str r.way,.int r.date,.str r.partner,.int r.term,w6 r.link,.str r.place,.bl r.void,.ref a]
def qK{r:Row}{a:Nat}{l:List Str}:HO.lst (uO r a)≠HO.lst (l.map V.str):=λz=>by
 injection z with z
 match l,z with
 |[],z=>cases z
 |[_],z=>injection z with _ z;cases z
 |_::_::_,z=>injection z with _ z;injection z with z _;cases z
def aQJ{r:Row}{a:Nat}{l:List Nat}:HO.lst (uO r a)≠HO.lst (l.map V.ref):=λz=>by
 injection z with z
 match l,z with
 |[],z=>cases z
 |_::_,z=>injection z with z _;cases z
def xA.upd{H:Hp}{s:Nat}{m:List Nat}{R:Rows}{k:Nat}{b:Nat}{r:Row}(h:xA H s m R)(l:m[k]? =some b)(v:R[k]? =some r)(f:Row->Row){j:Nat}(a:H j=some (.lst ((f r).copies.map V.str))):xA (upd H b (.lst (uO (f r) j))) s m (Bk.xO R k f):=by
 obtain⟨A,o,_⟩:=h.row k b r l v;have p:s≠b:=aXc h.lst o (cQu aQJ);refine⟨by rw[yI p];exact h.lst,by rw[Bk.zU];exact h.len,h.nd,λi c q g d=>?_⟩;rw[Bk.zM]at d;by_cases e:i=k
 ·subst e;rw[l]at g;cases g;rw[if_pos rfl,v]at d;cases d;exact⟨j,yB,by rw[yI (aXc a o (cQu qK))];exact a⟩
 ·rw[if_neg e]at d;obtain⟨x,y,t⟩:=h.row i c q g d;have n:c≠b:=λz=>by
   have w:=bYW.mp g;have u:=bYW.mp l;exact e ((cXA (h₀:=w.1) (h₁:=u.1) h.nd).mp (by rw[w.2,u.2];exact z))
  exact⟨x,by rw[yI n];exact y,by rw[yI (aXc t o (cQu qK))];exact t⟩
def NoC(a:List Nat)(H:Hp)(s:Nat):Prop:=∀b∈a,∀l,H b=some (.lst l)->l[7]? ≠some (.ref s)
def But(a:List Nat)(H c:Hp):Prop:=(∀b o,b∉a->H b=some o->c b=some o)/\(∀b∈a,∃o,c b=some o)/\∀s u,H s=some u->NoC a H s->NoC a c s
def xA.dom{H:Hp}{g:Nat}{a:List Nat}{R:Rows}(h:xA H g a R):∀b∈a,∃o,H b=some o:=λb d=>by
 obtain⟨i,c,e⟩:=cQC d;have f:=bYK (show i<R.length by rw[<- h.len];exact c);obtain⟨k,j,_⟩:=h.row i b _ (by rw[bYK c,e]) f;exact⟨_,j⟩
def But.of{c:List Nat}{H g:Hp}(f:∀b∈c,∃o,H b=some o)(k:xC H g):But c H g:=⟨λb o _ e=>k b o e,λb a=>let ⟨o,e⟩:=f b a;⟨o,k _ _ e⟩,λs u e n b a l h=>by
 obtain⟨o,d⟩:=f b a;have:=k _ _ d;rw[h]at this;cases this;exact n b a l d⟩
def But.trans{d:List Nat}{H g h:Hp}(a:But d H g)(b:But d g h):But d H h:=⟨λc o n e=>b.1 c o n (a.1 c o n e),b.2.1,λs u e n=>by
 by_cases f:s∈d
 ·obtain⟨o,i⟩:=a.2.1 s f;exact b.2.2 s o i (a.2.2 s u e n)
 ·exact b.2.2 s u (a.1 s u f e) (a.2.2 s u e n)⟩
def But.upd{d:List Nat}{H:Hp}{k:Nat}{b:Nat}{l l':List V}(h:∀b∈d,∃o,H b=some o)(g:d[k]? =some b)(hl:H b=some (.lst l))(f:l'[7]? =l[7]?):But d H (upd H b (.lst l')):=
 ⟨λc u n e=>by rw[yI (λz=>n (by rw[z];exact bY3 g))];exact e,λc a=>by
  by_cases z:c=b
  ·rw[z];exact⟨_,yB⟩
  ·rw[yI z];exact h c a,λs u e n c a x ex=>by
  by_cases z:c=b
  ·subst z;rw[yB]at ex;cases ex;rw[f];exact n c a l hl
  ·rw[yI z]at ex;exact n c a x ex⟩
abbrev bVE:Stmt:=xF "_law_lost"
inductive bJr(vs:List V)(H:Hp)(Q:VK)(_:XK):Prop|mk (ra:Nat) (rs:List Nat) (R:Rows) (k:Nat) (r:Row) (_:vs= [.ref ra,.int (k:Nat)]) (_:xA H ra rs R) (_:R.length<=100) (_:R[k]? =some r) (_:∀ (H':Hp)(a:Str)(R':Rows),But rs H H'->xA H' ra rs R'->((Bk.z9 R k≠ []/\a="answered"/\R'=R)\/(Bk.z9 R k= []/\a="void"/\R'=Bk.xO R k λr=>{r with link:=none,void:=true}))->Q (.str a) H')
section
variable {K:bYM}
def bVS:yN ["_law_rows","_law_number","_law_one"] ["_law_rows","_law_number"] (yH bVE):=scM
def bVg(a:FnG P w K mg base 1 "_law_kids_of" ["_law_rows","_law_number"] aWd)(F:Fun K "_law_lost" "_law_lost" bVE f fd):xE P w K mg base CX0 2 f fd ["_law_rows","_law_number"] bJr:=by
 have z:=bVS;refine F.ok (k:=1) z (λB A outer s H L Q E t h=>?_);obtain⟨v,C,R,k,r,rfl,d,hR,p,q⟩:=h;refine⟨_,(yC (yU (i:=2) (yL yK (pv 0) (pv 1))) (yC (y7 (yM (vR t.units0) (xJ a t rfl (yA (pv 0) (yA (pv 1) yD))) (y6 yD)) (yF (yP yR)) yS) (yC (vE x6 (qD (pv 2) yE zV)) (yC (vE wQ (qD (pv 2) yE zV)) (yF (yP yR)))))),?_⟩;obtain⟨b,I,o,J,G,D⟩:=d.get p;refine⟨_,rfl,_,rfl,v,_,_,_,rfl,rfl,SqL.of d.lst,yT I,?_⟩;dsimp only[yW];refine⟨_,rfl,_,rfl,v,C,R,k,rfl,d,hR,λu n=>⟨z0,λpn m=>?_⟩⟩;have y:=yG n (.lst ((Bk.z9 R k).map λi=>V.int (i:Nat)));have x:=yG m (.lst []);refine⟨u,pn,_,rfl,rfl,SqL.of (x _ _ yB),SqL.of yB,_,rfl,?_⟩;have kA:=y.trans x;generalize upd (upd H u (.lst ((Bk.z9 R k).map λi=>V.int (i:Nat)))) pn (.lst [])=H2 at kA ⊢;have c:=d.same kA;cases g:Bk.z9 R k with
 |cons j l=>exact onT rfl (q H2 _ R (But.of d.dom kA) c (.inl ⟨by rw[g];simp,rfl,rfl⟩))
 |nil=>refine onF rfl ?_;have e:=kA _ _ G;refine⟨_,rfl,b,_,4,4,rfl,rfl,e,rfl,?_⟩;refine⟨_,rfl,b,_,6,6,rfl,rfl,yB,rfl,?_⟩;rw[jD];exact q _ _ _ ((But.of d.dom kA).trans (But.upd c.dom o e rfl)) (c.upd o p (λr=>{r with link:=none,void:=true}) (kA _ _ D)) (.inr ⟨g,rfl,rfl⟩)
end
end Law
namespace Law
open PySem L2 PyProof.Rows
open Bk (Row Rows)
abbrev aY9:Stmt:=xF "_law_dated"
def aKK(R:Rows)(k:Nat)(r:Row)(d:Int):Prop:=(∃j,r.link=some j/\d<Bk.dt R j)\/∃c∈Bk.z9 R k,Bk.dt R c<d
inductive bQK(vs:List V)(H:Hp)(Q:VK)(_:XK):Prop|mk (ra:Nat) (rs:List Nat) (R:Rows) (k:Nat) (r:Row) (d:Int) (_:vs= [.ref ra,.int (k:Nat),.int d]) (_:xA H ra rs R) (_:R.length<=100) (_:R[k]? =some r) (_:(∀j,r.link=some j->j<R.length)) (_:∀ (H':Hp)(a:Str)(R':Rows),But rs H H'->xA H' ra rs R'->((aKK R k r d/\a="too early"/\R'=R)\/(¬aKK R k r d/\a="dated"/\R'=Bk.xO R k λr=>{r with date:=d}))->Q (.str a) H')
section
variable {K:bYM}
def bZp:yN ["_law_rows","_law_number","_law_date","_law_one","_law_k"] ["_law_rows","_law_number","_law_date"] (yH aY9):=scM
def bXP(a:FnG P w K mg base 1 "_law_kids_of" ["_law_rows","_law_number"] aWd)(F:Fun K "_law_dated" "_law_dated" aY9 f fd):xE P w K mg base CX0 2 f fd ["_law_rows","_law_number","_law_date"] bQK:=by
 have sc:=bZp;refine F.ok (k:=1) sc (λa0 A outer s H vs Q E hr h=>?_);obtain⟨z,rs,R,k,r,d,rfl,n,hR,hk,Y,q⟩:=h;refine⟨_,(yC (yU (i:=3) (yL yK (pv 0) (pv 1))) (yC (y7 (PW.pt (vS (yM wA (yL yK (pv 3) yE) x6) (wR (yM vL (pv 2) (yL yK (yL yK (pv 0) (yL yK (pv 3) yE)) yE))))) (yF (yP yR)) yS) (yC (zT cQz rfl (xL (xJ a hr rfl (yA (pv 0) (yA (pv 1) yD)))) (y9 (i:=4)) (yF (y7 (yM vL (yL yK (yL yK (pv 0) (pv 4)) yE) (pv 2)) (yF (yP yR)) yS))) (yC (vE (pv 2) (qD (pv 3) yE zV)) (yF (yP yR)))))),?_⟩;obtain⟨b,g1,g2,cp,W,g4⟩:=n.get hk;refine⟨_,rfl,_,rfl,z,_,_,_,rfl,rfl,SqL.of n.lst,yT g1,?_⟩;dsimp only[yW];refine zF (λJ O=>J= [some (.ref z),some (.int (k:Nat)),some (.int d),some (.ref b),none]/\O=H/\∀j,r.link=some j->Bk.dt R j<=d) ?jX (λo=>?_);case jX=>
  rintro J O ⟨rfl,rfl,h1⟩;refine⟨_,rfl,_,rfl,z,rs,R,k,rfl,n,hR,λS T=>⟨S,rfl,⟨_,SqL.of yB⟩,?_⟩⟩;have kA:=yG T (.lst ((Bk.z9 R k).map λi=>V.int (i:Nat)));have p:upd O S (.lst ((Bk.z9 R k).map λi=>V.int (i:Nat))) S=some (.lst ((Bk.z9 R k).map λi=>V.int (i:Nat))):=yB;generalize upd O S (.lst ((Bk.z9 R k).map λi=>V.int (i:Nat)))=H2 at kA p ⊢;have m:=n.same kA;refine zJ (xs:=(Bk.z9 R k).map λi=>V.int (i:Nat)) (λt σ L=>∃M,σ= [some (.ref z),some (.int (k:Nat)),some (.int d),some (.ref b),M]/\L=H2/\∀u j,u<t->(Bk.z9 R k)[u]? =some j->d<=Bk.dt R j) ?_ ?_ ?_ ?_
  ·exact⟨_,rfl,rfl,λu j C=>absurd C (cXx _)⟩
  ·rintro t σ L _ ⟨M,rfl,rfl,_⟩;exact SqL.of p
  ·rintro t x σ L G ⟨M,rfl,rfl,l⟩;rw[bY5]at G;cases N:(Bk.z9 R k)[t]? with
   |none=>rw[N]at G;cases G
   |some j=>
    rw[N]at G;cases G;have B:=bY3 N;have v:j<R.length:=cQn.mp (cQT.mp B).1;have g:=bYK v;obtain⟨Z,X,j2,cj,U,j4⟩:=m.get g;dsimp only[yW];refine⟨_,rfl,_,rfl,z,_,_,_,rfl,rfl,SqL.of m.lst,yT X,Z,_,1,_,rfl,rfl,SqL.of U,rfl,_,rfl,_,_,rfl,rfl,_,rfl,?_⟩;cases D:decide (R[j].date<d)with
    |true=>exact onT rfl (q _ _ R (But.of n.dom kA) m (.inl ⟨.inr ⟨j,B,by rw[Bk.vK g];exact of_decide_eq_true D⟩,rfl,rfl⟩))
    |false=>
     refine onF rfl ⟨_,rfl,rfl,λu i C y=>?_⟩;by_cases e:u=t
     ·subst e;rw[N]at y;cases y;rw[Bk.vK g];have:=of_decide_eq_false D;omega
     ·exact l u i (by omega) y
  ·rintro σ L ⟨M,rfl,rfl,l⟩;rw[bYP]at l;have I:=kA _ _ W;refine⟨_,rfl,_,rfl,b,_,1,1,rfl,rfl,I,rfl,?_⟩;refine q _ _ _ ((But.of n.dom kA).trans (But.upd m.dom g2 I rfl)) (m.upd g2 hk (λr=>{r with date:=d}) (kA _ _ g4)) (.inr ⟨?_,rfl,rfl⟩);rintro(⟨j,e1,e2⟩|⟨c,hc,e2⟩)
   ·have:=h1 j e1;omega
   ·obtain⟨u,C,e⟩:=cQC hc;have:=l u c C (by rw[bYK C,e]);omega
 refine⟨_,rfl,b,_,4,_,rfl,rfl,SqL.of W,rfl,rfl,_,rfl,?_⟩;cases hl:r.link with
 |none=>exact onF rfl (onF rfl (o _ _ ⟨rfl,rfl,λj hj=>by rw[hl]at hj;cases hj⟩))
 |some j=>
  have v:=Y j hl;have g:=bYK v;obtain⟨Z,X,j2,cj,U,j4⟩:=n.get g;refine onT rfl ⟨_,rfl,_,rfl,_,rfl,b,_,4,_,rfl,rfl,SqL.of W,rfl,?_⟩;rw[hl];refine⟨z,_,_,_,rfl,rfl,SqL.of n.lst,yT X,Z,_,1,_,rfl,rfl,SqL.of U,rfl,_,_,rfl,rfl,_,rfl,?_⟩;cases D:decide (d<R[j].date)with
  |true=>exact onT rfl (q _ _ R (But.of n.dom (xC.refl _)) n (.inl ⟨.inl ⟨j,hl,by rw[Bk.vK g];exact of_decide_eq_true D⟩,rfl,rfl⟩))
  |false=>exact onF rfl (o _ _ ⟨rfl,rfl,λi y=>by rw[hl]at y;cases y;rw[Bk.vK g];have:=of_decide_eq_false D;omega⟩)
end
end Law
namespace Law
open PySem L2 PyProof.Rows
open Bk (Row Rows x2 xP Ans)
abbrev bVD:Stmt:=xF "_law_hung"
inductive bJq(vs:List V)(H:Hp)(Q:VK)(_:XK):Prop|mk (ra:Nat) (rs:List Nat) (R:Rows) (m o:Int) (_:vs= [.ref ra,.int m,.int o]) (_:xA H ra rs R) (_:R.length<=60) (_:Bk.jF R) (_:∀ (H':Hp)(a:Str)(R':Rows),But rs H H'->xA H' ra rs R'->(∀S,x2 R S (.hang m o) (.txt a) R' S)->Q (.str a) H')
def aQI{r:Row}{b:Nat}{l:List Nat}:HO.lst (uO r b)≠HO.lst (l.map λi=>V.int (i:Nat)):=λz=>by
 injection z with z
 cases l with
 |nil=>cases z
 |cons a l=>cases z
def aQs(R:Rows)(l:List Nat)(k:Nat)(name:Str):Bk.laid R (l++ [k]) name=Bk.xO (Bk.laid R l name) k λr=>{r with place:=name}:=by
 unfold Bk.laid;rw[cJZ];rfl
def w8{a b:Str}:decide (V.str a=V.str b)=decide (a=b):=by rw[Bool.eq_iff_iff];simp
def aWB{a b:Nat}:decide (V.int (a:Nat)=V.int (b:Nat))=decide (a=b):=by rw[Bool.eq_iff_iff];simp;omega
section
variable {K:bYM}
def aVJ{K:bYM}{H:Hp}{n l:Nat}{d:List Nat}{R:Rows}{a:List Nat}{name:Str}{t:Nat}{k:Nat}(j:xA H n d (Bk.laid R (a.take t) name))(o:a[t]? =some k)(g:k<R.length)(hl:H l=some (.lst (a.map λi=>V.int (i:Nat)))): ∃ (b c:Nat)(r:Row),(d.map V.ref)[k]? =some (.ref b)/\H b=some (.lst (uO r c))/\xA (upd H b (.lst (uO {r with place:=name} c))) n d (Bk.laid R (a.take (t+1)) name)/\But d H (upd H b (.lst (uO {r with place:=name} c)))/\upd H b (.lst (uO {r with place:=name} c)) l=some (.lst (a.map λi=>V.int (i:Nat)))/\b∈d:=by
 have f:k<(Bk.laid R (a.take t) name).length:=by rw[Bk.wY];exact g
 have m:=bYK f;obtain⟨b,q,e,c,h,p⟩:=j.get m;refine⟨b,c,_,q,h,?_,But.upd j.dom e h rfl,?_,bY3 e⟩
 ·rw[show a.take (t+1)=a.take t++ [k]from by rw[cQN,o];rfl,aQs];exact j.upd e m (λr=>{r with place:=name}) p
 ·rw[yI (aXc hl h (cQu aQI))];exact hl
def bVQ:yN ["_law_rows","_law_number","_law_goal","_law_one","_law_other","_law_k","_law_row"] ["_law_rows","_law_number","_law_goal"] (yH bVD):=scM
def bVe(y:FnG P w K mg base 2 "_law_good" ["_law_rows","_law_number"] W9)(a:FnG P w K mg base 2 "_law_family" ["_law_rows","_law_number"] aQb)(F:Fun K "_law_hung" "_law_hung" bVD f fd):xE P w K mg base CX0 3 f fd ["_law_rows","_law_number","_law_goal"] bJq:=by
 have sc:=bVQ;refine F.ok (k:=2) sc (λb6 A outer s H vs Q E hr h=>?_);obtain⟨J,N,R,m,o,rfl,C,hR,hT,q⟩:=h;refine⟨_,(yC (y7 (PW.pt (jW (vF (xZ (xJ y hr rfl (yA (pv 0) (yA (pv 1) yD))))) (vT (vF (xZ (xJ y hr rfl (yA (pv 0) (yA (pv 2) yD)))))))) (yF (yP yR)) yS) (yC (yU (i:=3) (yL yK (pv 0) (pv 1))) (yC (yU (i:=4) (yL yK (pv 0) (pv 2))) (yC (y7 (yM wA (yL yK (pv 3) yE) x6) (yF (yP yR)) yS) (yC (y7 (yM zI (yL yK (xJ a hr rfl (yA (pv 0) (yA (pv 2) yD))) yE) (pv 1)) (yF (yP yR)) yS) (yC (y7 (yM zI (yL yK (pv 3) yE) (yL yK (pv 4) yE)) (yF (yP yR)) yS) (yC (y7 (yM Y0 (yL yK (pv 3) yE) (yL yK (pv 4) yE)) (yF (yP yR)) yS) (yC (y7 (yM vL (yL yK (pv 3) yE) (yL yK (pv 4) yE)) (yF (yP yR)) yS) (yC (zT cQz rfl (xL (xJ a hr rfl (yA (pv 0) (yA (pv 1) yD)))) (y9 (i:=5)) (yC (yU (i:=6) (yL yK (pv 0) (pv 5))) (yF (vE (yL yK (pv 4) yE) (qD (pv 6) yE zV))))) (yC (vE (pv 2) (qD (pv 3) yE zV)) (yF (yP yR)))))))))))),?_⟩;have v:But N H H:=But.of C.dom (xC.refl _);refine⟨_,rfl,_,rfl,J,N,R,m,rfl,C,_,rfl,?_⟩;cases h1:Bk.wW R m with
 |false=>exact onT rfl (onT rfl (q H _ R v C λS=> .hangN (.inl h1)))
 |true=>
 refine onF rfl ⟨_,rfl,_,rfl,J,N,R,o,rfl,C,_,rfl,?_⟩;cases h2:Bk.wW R o with
 |false=>exact onT rfl (q H _ R v C λS=> .hangN (.inr h2))
 |true=>
 obtain⟨i,r,rfl,I,L,Z⟩:=Bk.wJ h1;obtain⟨j,p,rfl,D,M,hw⟩:=Bk.wJ h2;obtain⟨b,g1,g2,cp,g3,g4⟩:=C.get L;obtain⟨Y,f1,f2,b5,f3,f4⟩:=C.get M;refine onF rfl ⟨_,rfl,_,rfl,J,_,_,_,rfl,rfl,SqL.of C.lst,yT g1,?_⟩;dsimp only[yW];refine⟨_,rfl,_,rfl,J,_,_,_,rfl,rfl,SqL.of C.lst,yT f1,?_⟩;dsimp only[yW];refine⟨_,rfl,b,_,4,_,rfl,rfl,SqL.of g3,rfl,rfl,_,rfl,?_⟩;cases u:r.link with
 |some x=>exact onT rfl (q H _ R v C λS=> .hangH L Z M hw (by rw[u];simp))
 |none=>
 obtain⟨rk,ok⟩:=hT;have hT:Bk.jF R:=⟨rk,ok⟩;refine onF rfl ⟨_,rfl,_,rfl,J,N,R.length,Bk.lk R,rk,Bk.dt R,j,rfl,C.rows,ok,hR,D,λH1 l out k1 nl hl hp hm=>?_⟩;have et:=Bk.aJh D ⟨rk,ok,hp,hm⟩;subst et;obtain⟨_,_,a5⟩:=Bk.jS hT D;obtain⟨hd,U⟩:∃hd,(Bk.thr R j).head? =some hd:=⟨_,a5⟩;have e0:(((Bk.thr R j).map λi=>V.int (i:Nat)))[0]? =some (.int (hd:Nat)):=by rw[bY5,<- List.head?_eq_getElem?,U];rfl
 have g:=C.same k1;have O:=k1 _ _ g3;have T:=k1 _ _ f3;have n:But N H H1:=But.of C.dom k1;refine⟨l,_,0,_,rfl,rfl,SqL.of hl,yT e0,_,rfl,rfl,_,rfl,?_⟩;rw[aWB];refine qB (λc=>?_) (λc=>?_)
 ·have e:hd=i:=of_decide_eq_true c;exact q H1 _ R n g λS=> .hangO L Z M hw u (by rw[U,e])
 have B:(Bk.thr R j).head? ≠some i:=λz=>c (decide_eq_true (by rw[U]at z;exact bY6 z));refine⟨_,rfl,b,_,0,_,rfl,rfl,SqL.of O,rfl,_,rfl,Y,_,0,_,rfl,rfl,SqL.of T,rfl,rfl,_,rfl,?_⟩;rw[w8];refine qB (λc1=>?_) (λc1=>?_)
 ·exact q H1 _ R n g λS=> .hangW L Z M hw u B (of_decide_eq_true c1)
 have h3:=of_decide_eq_false (Bool.eq_false_iff.mpr c1);refine⟨_,rfl,b,_,2,_,rfl,rfl,SqL.of O,rfl,_,rfl,Y,_,2,_,rfl,rfl,SqL.of T,rfl,rfl,_,rfl,?_⟩;rw[w8];cases a0:decide (r.partner=p.partner)with
 |false=>exact onT rfl (q H1 _ R n g λS=> .hangP L Z M hw u B h3 (of_decide_eq_false a0))
 |true=>
 have h4:=of_decide_eq_true a0;refine onF rfl ⟨_,rfl,b,_,1,_,rfl,rfl,SqL.of O,rfl,_,rfl,Y,_,1,_,rfl,rfl,SqL.of T,rfl,_,_,rfl,rfl,_,rfl,?_⟩;refine qB (λc2=>?_) (λc2=>?_)
 ·exact q H1 _ R n g λS=> .hangE L Z M hw u B h3 h4 (of_decide_eq_true c2)
 have h5:p.date<=r.date:=by have:=of_decide_eq_false (Bool.eq_false_iff.mpr c2);omega
 refine⟨_,rfl,_,rfl,J,N,R.length,Bk.lk R,rk,Bk.dt R,i,rfl,g.rows,ok,hR,I,λH2 l2 b4 k2 b7 a2 b3 X=>⟨l2,rfl,⟨_,SqL.of a2⟩,?_⟩⟩;have a8:=Bk.aJh I ⟨rk,ok,b3,X⟩;subst a8;have b9:i≠j:=λz=>by subst z;have e1:=Bk.jS hT I;obtain⟨b1,o2,W⟩:=e1;rw[Fm.wC (by rw[Bk.uA L];exact u)]at W;exact B W
 have b0:j∉Bk.thr R i:=λz=>by have e1:=(X j).mp z;rw[Fm.wC (i:=i) (by rw[Bk.uA L];exact u)]at e1;obtain⟨b1,o2,W⟩:=Bk.jS hT D;rw[Fm.qO o2 ok D,e1.2]at W;exact B W
 refine zJ (xs:=(Bk.thr R i).map λi=>V.int (i:Nat)) (λt σ H3=>∃o5 o6:Option V,σ= [some (.ref J),some (.int (i:Nat)),some (.int (j:Nat)),some (.ref b),some (.ref Y),o5,o6]/\xA H3 J N (Bk.laid R ((Bk.thr R i).take t) p.place)/\But N H2 H3/\H3 l2=some (.lst ((Bk.thr R i).map λi=>V.int (i:Nat)))) ?_ ?_ ?_ ?_
 ·exact⟨none,none,rfl,g.same k2,But.of (g.same k2).dom (xC.refl _),a2⟩
 ·rintro t σ H3 ht ⟨o5,o6,rfl,d,k3,G⟩;exact SqL.of G
 ·rintro t x σ H3 hx ⟨o5,o6,rfl,d,k3,G⟩;rw[bY5]at hx;cases hc:(Bk.thr R i)[t]? with
  |none=>rw[hc]at hx;cases hx
  |some k=>
   rw[hc]at hx;cases hx;have a7:k<R.length:=((X k).mp (bY3 hc)).1;obtain⟨bk,ck,b8,e1,W,e3,e4,e5,e6⟩:=aVJ (K:=K) d hc a7 G;have a6:(Bk.laid R ((Bk.thr R i).take t) p.place)[j]? =some p:=by rw[Bk.v9,if_neg (λz=>b0 (List.mem_of_mem_take z))];exact M
   obtain⟨a3,d1,d2,a9,d3,d4⟩:=d.get a6;obtain rfl:Y=a3:=bY6 (f2.symm.trans d2);dsimp only[yW];refine⟨_,rfl,_,rfl,J,_,_,_,rfl,rfl,SqL.of d.lst,yT e1,?_⟩;dsimp only[yW];exact⟨_,rfl,Y,_,5,_,rfl,rfl,SqL.of d3,rfl,_,rfl,bk,_,5,5,rfl,rfl,W,rfl,_,_,rfl,e3,k3.trans e4,e5⟩
 ·rintro σ H3 ⟨o5,o6,rfl,d,k3,G⟩;rw[bYP,cQI]at d;have a4:i<(Bk.laid R (Bk.thr R i) p.place).length:=by rw[Bk.wY];exact I
  have a1:=bYK a4;obtain⟨b',d1,d2,a9,d3,d4⟩:=d.get a1;obtain rfl:b=b':=bY6 (g2.symm.trans d2);refine⟨_,rfl,_,rfl,b,_,4,4,rfl,rfl,d3,rfl,?_⟩;refine q _ _ _ ((n.trans ((But.of g.dom k2).trans k3)).trans (But.upd d.dom d2 d3 rfl)) (d.upd d2 a1 (λr=>{r with link:=some j}) d4) λS=> .hang L Z M hw u B h3 h4 h5
end
end Law
namespace L2
open PySem
def tbV:Option Nat->bYL
 |none=> .none
 |some T=> .ref T
structure Y5(h:Heap)(e:Nat)(cls:bYL)(dx:Option Nat)(tb:Option Nat):Prop where
 obj:∃oe vs,h.get? e=some oe/\oe.cls=cls/\oe.dict=dx/\oe.data= .fields vs/\vs[1]? =some (tbV tb)
 ent:∀T,tb=some T->T≠e/\∃oT ts,h.get? T=some oT/\oT.data= .fields ts/\ts[3]? =some .none
def Y5.keeps{h h':Heap}{e:Nat}{cls:bYL}{dx tb:Option Nat}(x:Y5 h e cls dx tb)(k:∀b o,(b=e\/tb=some b)->h.get? b=some o->h'.get? b=some o):Y5 h' e cls dx tb:=by
 obtain⟨d,i,q,j,g,n,m⟩:=x.obj;refine⟨⟨d,i,k e d (.inl rfl) q,j,g,n,m⟩,λT c=>?_⟩;obtain⟨ne,a,l,r,f,p⟩:=x.ent T c;exact⟨ne,a,l,k T a (.inr c) r,f,p⟩
structure bKI(fs:List Nat)(e:Nat)(tb:Option Nat)(h h':Heap):Prop where
 keep:∀b o,b≠e->tb≠some b->b∉fs->h.get? b=some o->h'.get? b=some o
 slot:∀b o,b≠e->tb≠some b->h.get? b=some o->∃sl,h'.get? b=some {o with slots:=sl}
 there:∀b o,h.get? b=some o->∃o',h'.get? b=some o'
def aXb(f:Array bYL->Array bYL)(o:Obj):(o.mapFields f).dict=o.dict:=by
 obtain⟨c,d,dt,a⟩:=o;cases dt<;> rfl
section
variable {M:Model}{A:cQt}{E:bYL->bYO->Prop}{s:bYO}{base:Heap}{env:Env}{outer:List Env}{L e:Nat}{cls:bYL}{dx tb:Option Nat}
def aYy{a:Obj}{vs:Array bYL}(hl:s.heap.FunFrames base (env::outer))(d:s.heap.get? e=some a)(c:a.data= .fields vs):e∉(env::outer).filterMap (·.frame):=λg=>by
 obtain⟨_,o,b,f⟩:=hl.mem g;rw[d]at b;cases b;exact f vs c
def aZu{head:bYL}{r:Bool}{Q:Unit->bYO->Prop}{i:Obj}{vs:Array bYL}(u:A.frames=some (env::outer))(hl:s.heap.FunFrames base (env::outer))(H:env.frame=some L)
  (B:s.heap.get? e=some i) (v:i.data= .fields vs) (hz:1<vs.size)
  (h:∀t T,Y5 t e i.cls i.dict (some T)->s.heap.objs.size<=T->bKI ((env::outer).filterMap (·.frame)) e none s.heap t->Q () {s with heap:=t}):
  bYT M A (do let fr <- frameOf env;let place <- entryPlaceOf L r;let en <- EntryCells.newEntry head fr .none (cQ3 L) .none place;setField (.ref e) 1 en) (λ_ G=>bYT M A (cZT (.ref e) none) Q E G) E s:=by
 have n:=aYy hl B v
 refine bYN (wpAny_frameOf_fun u hl H λa d=>?_)
 refine bYN (wpAny_entryPlaceOf λplace J=>?_)
 unfold EntryCells.newEntry newFields
 refine bYN (cXL ?_ (J.sizeOk5 _ _ _ _ _))
 have F:a.get? e=some i:=(d.2.1 e n).trans B
 generalize m:({cls:= .type "traceback",dict:=none,data:= .fields ([head,.ref L,.none,cQ3 L,.none]++(if place.isEmpty then cZj 6 Value.none else place)).toArray}:Obj)=ob
 have c:ob.data= .fields ([head,.ref L,.none,cQ3 L,.none]++(if place.isEmpty then cZj 6 Value.none else place)).toArray:=by rw[<- m]
 have j:ob.isFreed=false:=cXa c
 have D:(a.push ob).get? e=some i:=bYQ ob F
 have l:a.objs.size≠e:=cZp (bYZ F)
 refine cXS D v hz ?_
 have d3:=cXd v (·.setIfInBounds 1 (Value.ref a.objs.size))
 have w:=cQS (cQ2 (·.setIfInBounds 1 (Value.ref a.objs.size))) D (cXa d3)
 have C:=(cQq (a.push ob) (cQ2 (·.setIfInBounds 1 (Value.ref a.objs.size))) (cQu l)).trans (cQg a j)
 have k:3<([head,.ref L,.none,cQ3 L,.none]++(if place.isEmpty then cZj 6 Value.none else place)).toArray.size:=by simp
 unfold cZT
 refine bYN (wpAny_field w d3 (x:= .ref a.objs.size) (by simp[hz]) ?_)
 rw[if_pos (show(Value.ref a.objs.size !=Value.none)=true from by simp)]
 refine cXS C c k (h _ a.objs.size ?_ ?_ ?_)
 ·refine⟨⟨_,_,(cQq _ _ l).trans w,Obj.cls_mapFields _ _,aXb _ _,d3,by simp[tbV,hz]⟩,λT I=>?_⟩;cases I;refine⟨l,_,_,cQS _ C (cXa (cXd c _)),cXd c _,?_⟩;rw[Array.getElem?_setIfInBounds_self_of_lt k];rfl
 ·exact cZn d.1.symm
 ·have y:∀b o,b≠e->a.get? b=some o->(((a.push ob).update e (cQ2 (·.setIfInBounds 1 (Value.ref a.objs.size)))).update a.objs.size (cQ2 (·.setIfInBounds 3 ((none:Option Nat).elim Value.none λf=>cQ3 f)))).get? b=some o:=λb o g q=>by
   rw[cQq _ _ (cZp (bYZ q)),cQq _ _ (cQu g)];exact bYQ _ q
  refine⟨λb o g _ K q=>y b o g ((d.2.1 b K).trans q),λb o g _ q=>?_,λb o q=>?_⟩
  ·obtain⟨z,p⟩:=d.2.2 b o q;exact⟨z,y b _ g p⟩
  ·by_cases g:b=e
   ·subst g;exact⟨_,(cQq _ _ l).trans w⟩
   ·obtain⟨z,p⟩:=d.2.2 b o q;exact⟨_,y b _ g p⟩
def aVN{Q:Unit->bYO->Prop}(i:A.frames=some (env::outer))(hl:s.heap.FunFrames base (env::outer))(n:env.frame=some L)(x:Y5 s.heap e cls dx tb) (h:∀g T,Y5 g e cls dx (some T)->s.heap.objs.size<=T->bKI ((env::outer).filterMap (·.frame)) e tb s.heap g->Q () {s with heap:=g}): bYT M A (cJe (.ref e) env) (λ_ H=>bYT M A (cZT (.ref e) none) Q E H) E s:=by
 obtain⟨N,w,u,G,D,t,B⟩:=x.obj;subst G D;have v:=(cZd.mp B).1;unfold cJe;simp only[n];refine bYN (wpAny_field u t B ?_);cases tb with
 |none=>rw[if_neg (by decide)];exact aZu i hl n u t v h
 |some T=>
  obtain⟨ne,K,I,l,j,C⟩:=x.ent T rfl;rw[if_pos (show(tbV (some T) !=Value.none)=true from by simp[tbV])];refine bYN (wpAny_field l j C ?_);rw[if_neg (show ¬ ((Value.none==cQ3 L)=true)from by simp[cQ3])];refine bYN (cXS l j (cZd.mp C).1 ?_);have f:∀b,b≠T->(s.heap.update T (cQ2 (·.setIfInBounds 3 Value.none))).get? b=s.heap.get? b:=λb k=>cQq _ _ (cQu k);have r:∀b o,s.heap.get? b=some o->(∀w,o.data≠ .fields w)->b≠T:=λb o q m z=>by rw[z,l]at q;cases q;exact m I j
  refine aZu (s:={s with heap:=s.heap.update T (cQ2 (·.setIfInBounds 3 Value.none)) }) i (hl.of_keeps λb o q m=>⟨o,(f b (r b o q m)).trans q,rfl⟩) n ((f e (cQu ne)).trans u) t v λg J y F p=>h g J y ?_ ⟨λb o a c d q=>?_,λb o a c q=>?_,λb o q=>?_⟩
  ·rw[<- Heap.size_after_update s.heap T (cQ2 (·.setIfInBounds 3 Value.none))];exact F
  ·exact p.keep b o a (by simp) d ((f b λz=>c (by rw[z])).trans q)
  ·exact p.slot b o a (by simp) ((f b λz=>c (by rw[z])).trans q)
  ·by_cases k:b=T
   ·subst k;exact p.there _ _ (cQS _ l (cXa (cXd j _)))
   ·exact p.there b o ((f b k).trans q)
def aYo{Q:Unit->bYO->Prop}(b:A.frames=some (env::outer))(hl:s.heap.FunFrames base (env::outer))(c:env.frame=some L)(x:Y5 s.heap e cls dx tb) (h:∀a T,Y5 a e cls dx (some T)->s.heap.objs.size<=T->bKI ((env::outer).filterMap (·.frame)) e tb s.heap a->Q () {s with heap:=a}):bYT M A (leaving env (.ref e)) Q E s:=by
 unfold leaving;exact bYN (aVN b hl c x h)
def bXu{T:Nat}{Q:Unit->bYO->Prop}(x:Y5 s.heap e cls dx (some T)) (h:∀d,Y5 d e cls dx (some T)->(∀b o,b≠T->s.heap.get? b=some o->d.get? b=some o)->(∀b o,s.heap.get? b=some o->∃n,d.get? b=some n)->Q () {s with heap:=d}):bYT M A (cZT (.ref e) none) Q E s:=by
 obtain⟨w,r,l,t,p,k,i⟩:=x.obj;obtain⟨ne,y,z,m,f,v⟩:=x.ent T rfl;have g:=(cZd.mp v).1;have j:=cQS (cQ2 (·.setIfInBounds 3 Value.none)) m (cXa (cXd f _));have a:∀b,b≠T->(s.heap.update T (cQ2 (·.setIfInBounds 3 Value.none))).get? b=s.heap.get? b:=λb c=>cQq _ _ (cQu c);refine wpAny_setFlight_none l k i m f g (h _ ⟨⟨w,r,(a e (cQu ne)).trans l,t,p,k,i⟩,λB u=>?_⟩ (λb o c q=>(a b c).trans q) λb o q=>?_)
 ·cases u;exact⟨ne,_,_,j,cXd f _,by simp[g]⟩
 ·by_cases c:b=T
  ·subst c;exact⟨_,j⟩
  ·exact⟨o,(a b c).trans q⟩
end
end L2
namespace L2
open PySem PySem.W PySem.Calls PyProof.Rows Builtin Builtin.ObjectAttr
def qA:List bYL:= [.type "Exception",.type "BaseException",.type "object"]
def aJE:List bYL->Bool
 |.ref _::r=>aJE r
 |l=>l==qA
def aKE:∀l:List bYL,aJE l=true->∃a:List Nat,l=a.map Value.ref++qA:=by
 intro l;induction l with
 |nil=>intro e;cases e
 |cons v r b=>
  intro e;cases v with
  |ref c=>obtain⟨a,h⟩:=b e;exact⟨c::a,by rw[h];rfl⟩
  |_=>exact⟨[],beq_iff_eq.mp e⟩
def aQ4(self:bYL):∀rs:List Nat,refuseLoop self "__setattr__" (rs.map Value.ref++qA)=pure ()
 |[]=>PySem.F.store_Exception.passes self
 |c::rs=>by rw[cQy,cJn,refuseLoop_ref];exact aQ4 self rs
def aWk{T:String}{b:Bool}(h:qA.contains (.type T)=b):∀rs:List Nat,(rs.map Value.ref++qA).contains (.type T)=b
 |[]=>h
 |c::rs=>by rw[cQy,cJn,cX8,aWk h rs];rfl
def bXj(K:Frag)(C:Nat):Bool:=match K.lookup C with
 |some ⟨_,_,.cls cd,sl⟩=> !cd.hasDel && cd.hasDict && (sl.toList[4]?).join==some (.builtin "Exception.__new__") && aJE cd.mro && cd.mro.contains (.ref C) &&
   specialIn K (.ref C) "__call__"==some (some (.builtin "type.__call__")) && instIn K (.ref C) (.type "type")==some true && typeIn K (.ref C)==some (.type "type") &&
   findIn K (.ref C) "__setattr__"==some (some (.builtin "object.__setattr__")) && findIn K (.ref C) "__getattribute__"==some (some (.builtin "BaseException.__getattribute__")) &&
   findIn K (.ref C) "__getattr__"==some none && findIn K (.ref C) "words"==some none
 |_=>false
structure v7(K:Frag)(C:Nat):Prop where
 cls:∃oc od cd sl,K.lookup C=some ⟨oc,od,.cls cd,sl⟩/\cd.hasDel=false/\cd.hasDict=true/\(sl.toList[4]?).join=some (.builtin "Exception.__new__")/\(∃rs:List Nat,cd.mro=rs.map Value.ref++qA)/\cd.mro.contains (.ref C)=true
 call:specialIn K (.ref C) "__call__"=some (some (.builtin "type.__call__"))
 typ:instIn K (.ref C) (.type "type")=some true
 ty:typeIn K (.ref C)=some (.type "type")
 sa:findIn K (.ref C) "__setattr__"=some (some (.builtin "object.__setattr__"))
 ga:findIn K (.ref C) "__getattribute__"=some (some (.builtin "BaseException.__getattribute__"))
 gh:findIn K (.ref C) "__getattr__"=some none
 wd:findIn K (.ref C) "words"=some none
def aK4{K:Frag}{C:Nat}(e:bXj K C=true):v7 K C:=by
 unfold bXj at e;split at e
 ·rename_i p d h j r;simp only[Bool.and_eq_true,Bool.not_eq_true',beq_iff_eq]at e;obtain⟨⟨⟨⟨⟨⟨⟨⟨⟨⟨⟨o,l⟩,q⟩,n⟩,f⟩,k⟩,i⟩,m⟩,g⟩,b⟩,c⟩,a⟩:=e;exact⟨⟨p,d,h,j,r,o,l,q,aKE _ n,f⟩,k,i,m,g,b,c,a⟩
 ·cases e
abbrev wM(C t:Nat)(dx:Option Nat):Obj:={cls:= .ref C,dict:=dx,data:= .fields #[.ref t,.none,.none,.none,.bool false,.none] }
abbrev W6:Obj:={cls:= .type "tuple",data:= .seq #[] }
section
variable {M:Model}{K:Frag}{C:Nat}{h:Heap}
def v7.sub(X:K.In h)(c:v7 K C){T:String}{b:Bool}(e:qA.contains (.type T)=b):Looks M h (cZR (.ref C) (.type T)) b:=by
 obtain⟨i,n,g,m,f,p,l,j,⟨k,d⟩,o⟩:=c.cls;have a:clsIn K C=some g:=by unfold clsIn;rw[f]
 refine looks_mroIn X ?_;unfold mroIn;rw[a,Option.bind_some,d,if_neg (by simp[qA]),aWk e]
def v7.self(X:K.In h)(c:v7 K C):Looks M h (cZR (.ref C) (.ref C)) true:=by
 obtain⟨g,m,f,l,e,n,k,i,⟨j,b⟩,d⟩:=c.cls;have a:clsIn K C=some f:=by unfold clsIn;rw[e]
 refine looks_mroIn X ?_;unfold mroIn;rw[a,Option.bind_some,if_neg (by rw[b];simp[qA]),d]
def v7.made(X:K.In h)(c:v7 K C):Looks M h (Bind.madeBy (.ref C)) (some "Exception.__new__"):=by
 obtain⟨r,i,a,m,d,p,n,g,⟨j,o⟩,b⟩:=c.cls;have e:clsIn K C=some a:=by unfold clsIn;rw[d]
 have f:Looks M h (mroOf (.ref C)) a.mro:=(looks_clsIn X e).andThen .now;obtain⟨v,l,hl⟩:∃v l,a.mro=v::l:=by
  cases q:a.mro with
  |nil=>rw[q]at b;cases b
  |cons v l=>exact⟨v,l,rfl⟩
 intro A Q E s k q;unfold Bind.madeBy;refine bYN (f A _ E s k ?_);rw[hl,cJw];refine bYN (bYN (bYN (bYN (wpAny_loadPart (k _ _ (X _ _ d)) (bYR ?_)))));dsimp only;rw[<- cXk,g];exact bYR (bYR (bYR q))
def v7.base(X:K.In h)(c:v7 K C):Looks M h (Bind.staticBase (.ref C)) (.ref C):=by
 have made:=c.made (M:=M) X;obtain⟨p,g,a,j,f,o,m,r,⟨i,n⟩,b⟩:=c.cls;have d:clsIn K C=some a:=by unfold clsIn;rw[f]
 have e:Looks M h (mroOf (.ref C)) a.mro:=(looks_clsIn X d).andThen .now;obtain⟨v,l,hl⟩:∃v l,a.mro=v::l:=by
  cases q:a.mro with
  |nil=>rw[q]at b;cases b
  |cons v l=>exact⟨v,l,rfl⟩
 intro A Q E s k q;unfold Bind.staticBase;refine bYN (e A _ E s k ?_);rw[hl,cJw];exact bYN (bYN (bYN (made A _ E s k (bYR (bYR (bYR q))))))
def v7.here(X:K.In h)(c:v7 K C):Looks M h (Bind.madeHere "BaseException.__new__" (.ref C)) ():=
 (c.base X).andThen ((c.made X).andThen (Looks.of_pure (by simp only[Option.map_some,cJ7.canon,bne_self_eq_false,Bool.false_eq_true,if_false])))
end
section
variable {prog:bY7}{w:cQf}{A:cQt}{R:Result->bYO->Prop}{K:Frag}{C f:Nat}{h:Heap}{g:Array GenState}{d:Drawn}{t:Nat}{os:OsState}
def bJO(X:K.In h)(c:v7 K C)(m:R (.ok (.ret (.ref (h.objs.size+1)))) ⟨(h.push W6).push (wM C h.objs.size none),g,d,t,os⟩): cX4 (bYV prog w) A (.call (.builtin "Exception.__new__") ⟨[.ref C],[]⟩) R ⟨h,g,d,t,os⟩:=by
 have F:=cJ7;have made:=c.made (M:=bYV prog w) X;have k:=c.base (M:=bYV prog w) X;have here:=c.here (M:=bYV prog w) X;have u:Looks (bYV prog w) h (cZR (.ref C) (.type "Exception")) true:=c.sub X dk;have q:Looks (bYV prog w) h (cZR (.ref C) (.type "AttributeError")) false:=c.sub X dk;have y:Looks (bYV prog w) h (cZR (.ref C) (.type "NameError")) false:=c.sub X dk;obtain⟨n,e,f,j,o,l,v,z,⟨s,x⟩,r⟩:=c.cls;have i:h.get? C=some ⟨n,e,.cls f,j⟩:=X _ _ o;refine codeAny_call_builtin_code (cJQ _ F.quiet) ?_;simp only[checkBuiltinCall,F.newKind,F.newSplit,F.newRow];have args:Bind.checkArgs "Exception.__new__" ⟨.any,"Exception","Exception",.cls,[⟨"args",.varPos,false⟩,⟨"kwargs",.varKw,false⟩]⟩ ⟨[.ref C],[]⟩=pure ():=by kernel_rfl
 rw[args];repeat (first|simp only[bne_self_eq_false,Bool.false_eq_true,if_false]|lk)
 have a:=F.ends;refine codeAny_builtinAt F.entry ?_;unfold cXy.«BaseException.__new__»;refine PySem.wpAt_bind ?_;show PySem.wpAt _ _ _ (stack >>=_) _ _ _;refine PySem.wpAt_bind (PySem.wpAt_stack λp b=>PySem.wpAt_of_wpAny ?_);wp_walk;refine PySem.wpAt_of_wpAny ?_;rw[F.owner];repeat (first|simp only[Bool.not_true,Bool.false_eq_true,if_false]|lk)
 refine nd_load (bYQ _ (bYQ _ i)) (bYR ?_);dsimp only;refine bYR ?_;rw[l];refine bYR (bYR ?_);show R _ _;rw[cXl];exact m
def bXk(X:K.In h)(c:v7 K C)(q:findIn K (.ref C) "__init__"=some (some (.ref f)))(n:typeIn K (.ref f)=some (.type "function")) (y:cX4 (bYV prog w) (A.under (.builtin "type.__call__" ⟨[.ref C],[]⟩)) (.call (.ref f) ⟨[.ref (h.objs.size+1)],[]⟩) (InitBack (h.objs.size+1) R) ⟨(h.push W6).push (wM C h.objs.size none),g,d,t,os⟩): cX4 (bYV prog w) A (.call (.ref C) ⟨[],[]⟩) R ⟨h,g,d,t,os⟩:=by
 obtain⟨B,m,j,p,D,L,I,N,⟨G,x⟩,F⟩:=c.cls;have l:h.get? C=some ⟨B,m,.cls j,p⟩:=X _ _ D;have call:=looks_specialIn (M:=bYV prog w) X c.call;have i:=looks_instIn (M:=bYV prog w) X c.typ;have made:=c.made (M:=bYV prog w) X;have s:j.mro.isEmpty=false:=by rw[x];simp[qA]
 refine codeAny_of_tree ?_;show bYT _ _ (callAny (.ref C) _) _ _ _;refine nd_load l ?_;show bYT _ _ (callAny.viaDunder (.ref C) _) _ _ _;unfold callAny.viaDunder;refine bYN (call.at ?_);dsimp only;rw[tc_bind];refine bYN (bYR (bYN (bYR ?_)));refine bYR (a:=Fin.again (.call (.builtin "type.__call__") ⟨[.ref C],[]⟩)) (And.intro rfl ?_);refine codeAny_call_builtin_at (cJQ _ dk) entry_typeCall (check_slot tc_kind tc_split i (tc_args _ _ _) ?_);unfold cXy.«type.__call__»;have P:Looks (bYV prog w) h (mroOf (.ref C)) j.mro:=((Looks.ld (part:=none) l).andThen .now).andThen .now;repeat (first|simp only[s,Bool.false_eq_true,if_false]|with_reducible refine cZY ?_|lk)
 refine bJO X c ?_;have k:∀b o,h.get? b=some o->((h.push W6).push (wM C h.objs.size none)).get? b=some o:=λb o e=>bYQ _ (bYQ _ e);have u:((h.push W6).push (wM C h.objs.size none)).get? (h.objs.size+1)=some (wM C h.objs.size none):=by heap_get
 have J:Looks (bYV prog w) ((h.push W6).push (wM C h.objs.size none)) (typeOf (.ref (h.objs.size+1))) (.ref C):=(Looks.ld u).andThen .now;have E:=(c.self (M:=bYV prog w) X).keeps k;have H:=(looks_findIn (M:=bYV prog w) X q).keeps k;have b1:=(bind_fn (M:=bYV prog w) X (.ref (h.objs.size+1)) n).keeps k;unfold cJC callSpecial? specialOf;repeat (first|with_reducible refine cZY ?_|lk)
 refine cXE y λr O z=>?_;rcases r with e|(v|_|_|_)<;> first|exact z|exact z.elim|skip
 obtain⟨rfl,z⟩:=z;exact bYR (bYR z)
end
section
variable {prog:bY7}{w:cQf}{A:cQt}{E:bYL->bYO->Prop}{K:Frag}{C e tp:Nat}{s:bYO}{v:bYL}
def bJP{Q:Unit->bYO->Prop}(X:K.In s.heap)(c:v7 K C)(k:s.heap.get? e=some (wM C tp none)) (M:∀d tk,d.get? e=some (wM C tp (some s.heap.objs.size))->d.Ns1 s.heap.objs.size (λy=>if y="words" then some v else none)->(∀b o,b≠e->s.heap.get? b=some o->d.get? b=some o)->Q () {s with heap:=d,toks:=tk}): bYT (bYV prog w) A (setAttr (.ref e) "words" v) Q E s:=by
 have I:InstAt s.heap e (wM C tp none) C none:=⟨k,rfl,rfl,cQ9⟩;refine set_plain X I c.sa ?_;have j:=PySem.F.store_object;obtain⟨W,P,x,T,O,V,H,Y,⟨S,L⟩,R⟩:=c.cls;have u:clsIn K C=some x:=by unfold clsIn;rw[O]
 have sub:Looks (bYV prog w) s.heap (cJC (.ref e) (.type "object")) true:=I.type.andThen (c.sub X dk);have N:Looks (bYV prog w) s.heap (mroOf (.ref C)) x.mro:=(looks_clsIn X u).andThen .now;refine cJB j.slot.plain j.entry (@check_slot (bYV prog w) _ _ {s with toks:=s.toks+1} "object.__setattr__" "object" "__setattr__" (.ref e) [.str "words" s.toks,v] [] _ j.kind j.split sub (j.args (.ref e) (.str "words" s.toks) v) ?_);rw[osa_eq,refuse_eq];have h:∀ (b:Nat)(o:Obj),s.heap.get? b=some o->s.heap.get? b=some o:=λ_ _ e=>e;refine bYN (bYN (I.type _ _ _ _ h (bYN (N _ _ _ _ h ?_))));rw[L,aQ4];refine bYR (bYN (I.type _ _ _ _ h (bYN ((looks_findIn X c.wd) _ _ _ _ h (bYN (bYR ?_))))));have g:e≠s.heap.objs.size:=cQc (bYZ k);have f:(s.heap.push emptyDict).get? e=some (wM C tp none):=bYQ _ k;refine bYN (bYR (bYN (bYN (wpAny_loadPart k (bYN ((looks_clsIn X u) _ _ _ _ h ?_))))));rw[H];refine bYN (wpAny_alloc ?_);refine bYN (wpAny_update f ?_);refine bYR (a:=some s.heap.objs.size) ?_;show bYT _ _ (storeInDict s.heap.objs.size (.str "words" s.toks) "words" v) _ _ _;have m:((s.heap.push emptyDict).update e λo=>{o with dict:=some s.heap.objs.size}).get? s.heap.objs.size=some emptyDict:=(cJG _ _ _ _ g.symm).trans (Heap.get?_push_at rfl rfl);have p:((s.heap.push emptyDict).update e λo=>{o with dict:=some s.heap.objs.size}).Ns s.heap.objs.size (λ_=>none):=⟨_, #[],_,m,rfl,λe G=>absurd G (by simp),λ_=>rfl⟩;have n:=cQS (λo=>{o with dict:=some s.heap.objs.size}) f rfl;unfold storeInDict newKeyGuard;refine bYN (bYR (bYN (wpAny_nsSet1 (Heap.Ns1.of_empty p) λd i z=>?_)));obtain⟨U,J,B,l,r,t⟩:=i.count (Within.cons "words" v Within.nil);refine bYN (wpAny_lookBehind l (by rw[r];exact pastItsLine_dict (cQo t (by rw[cQK,cXW,cQk];omega))) ?_);refine bYR ?_;refine M d _ ((z.2 e g).trans n) i λb o D q=>?_;exact(z.2 b (cQc (bYZ q))).trans ((cJG _ _ _ _ D).trans (bYQ _ q))
def bga:Slot "Exception" "__getattribute__" "BaseException.__getattribute__":=
 .of (owner:="BaseException") (n:="__getattribute__") (by rw[typeLookup_type,cJt];kernel_rfl) dk dk dk (by first|exact .inl dk|exact .inr dk) (by rw[isSubtype_type];kernel_rfl)
def bJN{a:Bool}{Q:bYL->bYO->Prop}{b d:Obj}{dx:Nat}(X:K.In s.heap)(c:v7 K C)(q:s.heap.get? e=some b)(i:b.cls= .ref C)(p:b.dict=some dx)(j:notCls b=true)(x:s.heap.get? dx=some d) (hl:lookIn "words" d=some (some v)) (u:handedIn v=true) (t:Q v {s with toks:=s.toks+1}):bYT (bYV prog w) A (getAttr (.ref e) "words" a) Q E s:=by
 have I:InstAt s.heap e b C (some d):=⟨q,i,j,by rw[p];exact x⟩;obtain⟨H,r,m,B,f,G,o,J,⟨z,D⟩,y⟩:=c.cls;have g:clsIn K C=some m:=by unfold clsIn;rw[f]
 have k:findObj K C (some d) "words"=some (.value v):=by unfold findObj;rw[g,Option.bind_some,c.wd];simp only[Option.bind_some];unfold W.ownOf;rw[o,if_pos rfl];dsimp only;rw[hl];rfl
 have h:=I.type (M:=bYV prog w);have n:=looks_find (M:=bYV prog w) X I k;have sub:Looks (bYV prog w) s.heap (cJC (.ref e) (.type "BaseException")) true:=I.type.andThen (c.sub X dk);refine bYN (wpAny_mkText (cQ6 (bYN (h _ _ _ _ (λ_ _ e=>e) (bYN (looks_findIn X c.ga _ _ _ _ (λ_ _ e=>e) ?_))))));dsimp only;rw[show(onTheHeap (Value.ref C) && Value.builtin "BaseException.__getattribute__"==Value.builtin "object.__getattribute__")=false from by rw[show(Value.builtin "BaseException.__getattribute__"==Value.builtin "object.__getattribute__")=false from dk,Bool.and_false],if_neg (by decide)];have l:Looks (bYV prog w) s.heap (hookBefore (.ref C)) none:=looks_hook (mc:= .ref C) X (by rw[if_pos (show onTheHeap (Value.ref C)=true from rfl)];exact c.gh);refine bYN (l _ _ _ _ (λ_ _ e=>e) (bYN (cZ3 (cQ6 ?_))));unfold callGetattribute;rw[show(a && onTheHeap (Value.builtin "BaseException.__getattribute__"))=false from Bool.and_false _,if_neg (by decide)];unfold boundAndCalled;rw[bga.bind];refine bYN (bYR ?_);show bYT _ _ (call (.builtin "BaseException.__getattribute__") [.ref e,.str "words" s.toks]) _ _ _;refine cZY (cJB bga.plain F.entry_bexc_ga ?_);refine @check_slot (bYV prog w) _ _ {s with toks:=s.toks+1} "BaseException.__getattribute__" "BaseException" "__getattribute__" (.ref e) [.str "words" s.toks] [] _ dk dk sub (F.args_bexc_ga (.ref e) (.str "words" s.toks)) ?_;unfold cXy.«object.__getattribute__»;refine bYN (bYR (bYN (bYR ?_)));refine bYN (h _ _ _ _ (λ_ _ e=>e) (bYN (n _ _ _ _ (λ_ _ e=>e) (bYR ?_))));show bYT _ _ (handedOut v) _ _ _;rw[handedOut_of u];exact bYR t
def aK5{M:Model}{Q:Bool->bYO->Prop}{h:Obj}{Rf:Nat}(X:K.In s.heap)(c:v7 K C)(b:v7 K Rf)(l:mroIn K C (.ref Rf)=some true)(f:s.heap.get? e=some h)(j:h.cls= .ref C)(n:Q true s): bYT M A (excMatches (.ref e) (.ref Rf)) Q E s:=by
 obtain⟨a,g,d,t,os⟩:=s;dsimp only at X f;have B:Looks M a (typeOf (.ref e)) (.ref C):=j ▸ (Looks.ld f).andThen .now;have w:Looks M a (cZR (.ref C) (.ref Rf)) true:=looks_mroIn X l;have y:Looks M a (cJC (.ref Rf) (.type "tuple")) false:=(looks_typeIn X b.ty).andThen (Looks.of_pure tc_notTuple);have F:Looks M a (cZR (.ref Rf) (.type "BaseException")) true:=b.sub X dk;have x:Looks M a (typeOf (.ref Rf)) (.type "type"):=looks_typeIn X b.ty;have q:Looks M a (cZR (.type "type") (.type "type")) true:=Looks.of_pure tc_sub;obtain⟨o,i,k,m,p,G,z,H,⟨u,D⟩,r⟩:=b.cls;have v:a.get? Rf=some ⟨o,i,.cls k,m⟩:=X _ _ p;unfold excMatches isExcClass;repeat (first|simp only[Bool.not_true,Bool.false_eq_true,if_false,if_true]|lk)
 exact n
def aK6{M:Model}{env:Env}{x:Sem bYL}{Q:Flow->bYO->Prop}(j:A.handled=none) (h:bYT M A x (λv a=>∃e tp i C,v= .ref e/\K.In a.heap/\v7 K C/\a.heap.get? e=some (wM C tp i)/\E (.ref e) a) E s):bYT M A (raiseStmt env (some x) none) Q E s:=by
 unfold raiseStmt;refine bYN (cQP h (λv a k=>?_) λ_ _ x=>x);obtain⟨e,tp,i,C,rfl,X,c,f,l⟩:=k;obtain⟨b,g,d,tk,os⟩:=a;dsimp only at X f;have o:Looks M b (typeOf (.ref e)) (.ref C):=(Looks.ld f).andThen .now;have m:Looks M b (cZR (.ref C) (.type "BaseException")) true:=c.sub X dk;have n:Looks M b (typeOf (.ref C)) (.type "type"):=looks_typeIn X c.ty;unfold excFromValue isExcClass cJC;repeat (first|simp only[Bool.false_eq_true,if_false,if_true]|lk)
 show bYT M A handled _ _ _;refine wpAny_handled ?_;rw[j];exact wpAny_throw l
end
end L2
namespace L2
open PySem PySem.Spec PyProof.Rows
def CXR(P:bY7)(w:cQf):CXT:=λouter H s E d b=>∃ (e C c tb:Nat)(a:Hp),d= .ref e/\b.os=s.os/\AllBare b.gens/\Un (frs outer) [] H a s.heap b.heap/\HOk P w a b.heap/\
 Y5 b.heap e (.ref C) (some c) (some tb)/\a e=none/\a tb=none/\s.heap.objs.size<=e/\s.heap.objs.size<=tb/\E (.ref C) (some c) a
section
variable {P:bY7}{w:cQf}{K:bYM}{mg:Str->Option bYL}{base:Heap}{N:List Str}{qual:Str}{scope:cX1}{f:Nat}{cd:bYL}{A:cQt}{outer:List Env}{s₀:bYO}{H₀:Hp}{E:XK}
 {pins:List (Nat×Obj)} {σ:St} {H:Hp} {s:bYO}
def bKw{e C dx:Nat}{tb:Option Nat}(I:Inv (aXE (CXR P w) P w K mg base N qual scope f cd A outer s₀ H₀ E) pins σ H s)(x:Y5 s.heap e (.ref C) (some dx) tb)(D:H e=none)(B:s₀.heap.objs.size<=e) (t:∀T,tb=some T->H T=none/\s₀.heap.objs.size<=T) (q:E (.ref C) (some dx) H):(aXE (CXR P w) P w K mg base N qual scope f cd A outer s₀ H₀ E).xe (.ref e) s:=by
 have ne:∀b o,s₀.heap.get? b=some o->b≠e:=λb o a=>cQc (cQe (bYZ a) B);have l:∀b o,s₀.heap.get? b=some o->tb≠some b:=λb o a z=>absurd (cQe (bYZ a) (t b z).2) (cQX _);have M:∀b,b∈(cXJ qual scope s₀.heap.objs.size f cd::outer).filterMap (·.frame)->b=s₀.heap.objs.size\/b∈frs outer:=λb d=>by rw[cZv,show(cXJ qual scope s₀.heap.objs.size f cd).frame=some s₀.heap.objs.size from rfl]at d;exact bYU.mp d
 have j:∀b o,s₀.heap.get? b=some o->b∉frs outer->b∉(cXJ qual scope s₀.heap.objs.size f cd::outer).filterMap (·.frame):=λb o a d z=>
  (M b z).elim (cQc (bYZ a)) d
 show bYT (bYV P w) (A.deeper (cXJ qual scope s₀.heap.objs.size f cd)) (leaving (cXJ qual scope s₀.heap.objs.size f cd) (.ref e)) _ _ s;refine aYo (base:=base) (outer:=outer) (L:=s₀.heap.objs.size) I.ok.frames I.stack rfl x λQ T y m p=>?_;refine⟨e,C,dx,T,H,rfl,I.os,I.bare,?_,?_,y,D,I.hok.fresh m,B,cQo I.sz m,q⟩
 ·refine⟨λb o a n d g=>?_,λb o a n d g=>?_,λb o a n g=>I.base.free b o a n g,λb o a g=>?_,I.base.tups,I.base.frzs,I.base.tbls⟩
  ·exact p.keep b o (ne b o a) (l b o a) (j b o a d) (I.base.keep b o a n d g)
  ·obtain⟨O,i⟩:=I.base.slot b o a n d g;obtain⟨k,J⟩:=p.slot b _ (ne b o a) (l b o a) i;exact⟨k,J⟩
  ·obtain⟨F,i⟩:=I.base.there b o a g;exact p.there b F i
 ·refine λb u a=>(I.hok b u a).stay (λc v G r=>?_) (λ_ r=>r) λ_ _ r=>r;have h:H c≠none:=by
   rcases G with z|z
   ·rw[z,a];simp
   ·rw[z];simp
  refine p.keep c v (λz=>h (by rw[z];exact D)) (λz=>h (t c z).1) (λz=>h (I.stkFree c z)) r
def zZ:vP (CXR P w) (aXE (CXR P w) P w K mg base N qual scope f cd A outer s₀ H₀ E) E:=by
 intro a σ H s q o I h;obtain⟨e,C,p,tb,l,rfl,n,bare,un,c,x,k,i,d,g,m⟩:=h;have j:Inv (aXE (CXR P w) P w K mg base N qual scope f cd A outer s₀ H₀ E) a σ l o:=I.call' n un c bare λb z=>absurd z (by simp);exact bKw j x k (cQo I.sz d) (λT z=>by cases z;exact⟨i,cQo I.sz g⟩) m
def Fun.okX{x:Str}{st:Stmt}{e:cXK}{ps:List Str}{k:Nat}{sp:Sp}(F:Fun K x qual st f e)(S:yN N ps (yH st)) (b:∀ (a:bYL)(A:cQt)(outer:List Env)(s:bYO)(H:Hp)(vs:List V)(Q:VK)(E:XK),vW k (A.deeper (cXJ qual (yH st) s.heap.objs.size f a))->sp vs H Q E-> ∃t,PSs (aXE (CXR P w) P w K mg base N qual (yH st) f a A outer s H E) (xQ st) t/\t {nx:=λ_ j=>Q .non j,rt:=Q} (start N vs) H) (len:∀vs H Q E,sp vs H Q E->vs.length=ps.length:=by intro _ _ _ _ h;first|(cases h;subst_vars;exact rfl)|repeat (first|(obtain⟨rfl,_⟩:=h;exact rfl)|(obtain⟨_,h⟩:=h))):xE P w K mg base (CXR P w) (k+1) f e ps sp:=by
 obtain⟨o,m,kV,i,n,p,a,ct,l,rfl,lk,c⟩:=F.ex;exact bJR lk c S len λA outer s H vs Q E g d=>b a A outer s H vs Q E g d
end
structure FnX(P:bY7)(w:cQf)(K:bYM)(mg:Str->Option bYL)(base:Heap)(k:Nat)(x:Str)(ps:List Str)(sp:Sp):Prop where
 ex:∃f fd,xE P w K mg base (CXR P w) k f fd ps sp/\v6 K fd ps []/\cQH K (.ref f)=true/\mg x=some (.ref f)
def FnX.mono{P:bY7}{w:cQf}{K:bYM}{mg:Str->Option bYL}{base:Heap}{j k:Nat}{x:Str}{ps:List Str}{sp:Sp}(G:FnX P w K mg base j x ps sp)(h:j<=k):FnX P w K mg base k x ps sp:=
 let ⟨f,fd,a,b⟩:=G.ex;⟨f,fd,a.mono h,b⟩
structure MG(P:bY7)(w:cQf)(K:bYM)(mg:Str->Option bYL)(base:Heap)(CX:CXT)(k:Nat)(C:Nat)(m:Str)(ps:List Str)(sp:Sp):Prop where
 ex:∃f fd,xE P w K mg base CX k f fd ps sp/\v6 K fd ps []/\bWg K C m f
 cl:Cls K C
def MG.mono{P:bY7}{w:cQf}{K:bYM}{mg:Str->Option bYL}{base:Heap}{CX:CXT}{j k:Nat}{C:Nat}{m:Str}{ps:List Str}{sp:Sp}(G:MG P w K mg base CX j C m ps sp)(h:j<=k):MG P w K mg base CX k C m ps sp:=
 let ⟨f,fd,a,b⟩:=G.ex;⟨⟨f,fd,a.mono h,b⟩,G.cl⟩
structure MkG(P:bY7)(w:cQf)(K:bYM)(mg:Str->Option bYL)(base:Heap)(k:Nat)(x:Str)(C:Nat)(ps:List Str)(sp:Sp):Prop where
 ex:∃f fd,xE P w K mg base CX0 k f fd ps sp/\v6 K fd ps []/\Mk K C f/\mg x=some (.ref C)
def MkG.mono{P:bY7}{w:cQf}{K:bYM}{mg:Str->Option bYL}{base:Heap}{j k:Nat}{x:Str}{C:Nat}{ps:List Str}{sp:Sp}(G:MkG P w K mg base j x C ps sp)(h:j<=k):MkG P w K mg base k x C ps sp:=
 let ⟨f,fd,a,b⟩:=G.ex;⟨f,fd,a.mono h,b⟩
section
variable {X:Cx}{k:Nat}{x m:Str}{C:Nat}{ps:List Str}{sp:Sp}{e o:Expr}{es:List Expr}{ta:TE}{t:TA}{p pos apos:Pos}{E:XK}{CX:CXT}
def aQE{P:bY7}{w:cQf}{K:bYM}{mg:Str->Option bYL}{base:Heap}{N:List Str}{qual:Str}{scope:cX1}{f:Nat}{cd:bYL}{A:cQt}{outer:List Env}{s₀:bYO}{H₀:Hp}
  (G:FnX P w K mg base k x ps sp) (d:vW k (A.deeper (cXJ qual scope s₀.heap.objs.size f cd))) (i:Gl (aXE (CXR P w) P w K mg base N qual scope f cd A outer s₀ H₀ E) x) (j:PA (aXE (CXR P w) P w K mg base N qual scope f cd A outer s₀ H₀ E) (e::es) t)
  (c:(x==("__debug__":Str))=false:=by decide) (h:cQr (e::es) (cXJ qual scope s₀.heap.objs.size f cd)=(false,eval e (cXJ qual scope s₀.heap.objs.size f cd))::cQr es (cXJ qual scope s₀.heap.objs.size f cd):=by rfl)
  (a:(cXp pos (cQr es (cXJ qual scope s₀.heap.objs.size f cd))).any (·.1)=false:=by rfl):
  PE (aXE (CXR P w) P w K mg base N qual scope f cd A outer s₀ H₀ E) (.Call (.Name x p) (e::es) [] pos) (bZK sp [] E t):=by
 obtain⟨g,n,F,b,m,l⟩:=G.ex
 exact aYW F d i l m b .nil zZ j c h a
def v1{pl:Sem Bool}(G:MG X.prog X.w X.K X.mg X.base CX k C m ps sp)(d:vW k X.A)(h:vP CX X E)(n:PE X o ta)(i:PA X (e::es) t)
  (a:cQr (e::es) X.env=(false,eval e X.env)::cQr es X.env:=by rfl) (c:(cXp pos (cQr es X.env)).any (·.1)=false:=by rfl)
  (j:eval (.Call (.Attribute o m apos) (e::es) [] pos) X.env=(do
   let ov <- eval o X.env
   standAt apos.atName
   let (f,first) <- cZ5 [ov] (cJd ov m pl)
   callWith pos f first (cXp pos (cQr (e::es) X.env)) (cZX pos (cX7 [] X.env))):=by rfl):
  PE X (.Call (.Attribute o m apos) (e::es) [] pos) (bZN C m sp [] E ta t):=by
 obtain⟨g,p,F,b,l⟩:=G.ex
 exact bVs n G.cl l F d b .nil h i a c j
def bX9{pl:Sem Bool}(G:MG X.prog X.w X.K X.mg X.base CX k C m ps sp)(a:vW k X.A)(c:vP CX X E)(h:PE X o ta)
  (d:eval (.Call (.Attribute o m apos) [] [] pos) X.env=(do
   let ov <- eval o X.env
   standAt apos.atName
   let (f,first) <- cZ5 [ov] (cJd ov m pl)
   callWith pos f first (cXp pos (cQr [] X.env)) (cZX pos (cX7 [] X.env))):=by rfl):
  PE X (.Call (.Attribute o m apos) [] [] pos) (bZN C m sp [] E ta bZO):=by
 obtain⟨g,i,F,b,e⟩:=G.ex
 exact bZb h G.cl e F a b .nil c d
def bKU(G:MkG X.prog X.w X.K X.mg X.base k x C ps sp)(d:vW (k+1) X.A)(f:Gl X x)(i:PA X (e::es) t)(c:(x==("__debug__":Str))=false:=by decide)
  (l:cQr (e::es) X.env=(false,eval e X.env)::cQr es X.env:=by rfl) (a:(cXp pos (cQr es X.env)).any (·.1)=false:=by rfl):PE X (.Call (.Name x p) (e::es) [] pos) (bZM C sp [] E0 t):=by
 obtain⟨g,m,F,b,j,h⟩:=G.ex
 exact bVr j F d f h b .nil v0 i c l a
def bJi(G:MkG X.prog X.w X.K X.mg X.base k x C ps sp)(c:vW (k+1) X.A)(d:Gl X x)(a:(x==("__debug__":Str))=false:=by decide):PE X (.Call (.Name x p) [] [] pos) (bZM C sp [] E0 bZO):=by
 obtain⟨g,h,F,b,f,e⟩:=G.ex;exact bZa f F c d e b .nil v0 a
end
end L2
namespace L2
open PySem PySem.Spec PyProof.Rows
def qF(e C tp:Nat)(dx:Option Nat):HO:= .ext λh=>h.get? e=some (wM C tp dx)
def aVD{P:bY7}{w:cQf}{H:Hp}{h:Heap}{e C tp:Nat}{dx:Option Nat}(b:h.get? e=some (wM C tp dx)):zH P w H h e (qF e C tp dx):=⟨b,⟨_,b⟩,λc d a k=>k _ a⟩
def aVC{P:bY7}{w:cQf}{H:Hp}{h:Heap}{e C tp:Nat}{dx:Option Nat}(ok:HOk P w H h)(a:H e=some (qF e C tp dx)):h.get? e=some (wM C tp dx):=(ok e _ a).1
section
variable {X:Cx}{pins:List (Nat×Obj)}{σ:St}{H:Hp}{s:bYO}
def Inv.forget{e:Nat}{φ:Heap->Prop}(I:Inv X pins σ H s)(h:H e=some (.ext φ)):Inv X pins σ (λb=>if b=e then none else H b) s:=by
 have ne:∀b u,H b=some u->(∀φ,u≠ .ext φ)->b≠e:=λb u q n z=>by rw[z,h]at q;cases q;exact n _ rfl
 refine⟨I.ok,I.os,I.bare,⟨I.base.keep,I.base.slot,λb o q n i=>?_,I.base.there,λb f q=>?_,λb o u q=>?_,λb ps q=>?_⟩,I.loc,I.cell,?_,λx c q=>?_,λp j=>?_,λb u q=>?_,I.len⟩
 ·show(if b=e then none else H b)=none;rw[I.base.free b o q n i];split<;> rfl
 ·have z:=I.base.tups b f q;show(if b=e then none else H b)=_;rw[if_neg (ne b _ z λ_ y=>by cases y),z]
 ·have z:=I.base.frzs b o u q;show(if b=e then none else H b)=_;rw[if_neg (ne b _ z λ_ y=>by cases y),z]
 ·obtain⟨m,z⟩:=I.base.tbls b ps q;refine⟨m,?_⟩;show(if b=e then none else H b)=_;rw[if_neg (ne b _ z λ_ y=>by cases y),z]
 ·show(if _=e then none else H _)=none;rw[I.free];split<;> rfl
 ·show(if c=e then none else H c)=none;rw[I.freeC x c q];split<;> rfl
 ·obtain⟨l,g,k⟩:=I.pin p j;refine⟨l,?_,k⟩;show(if p.1=e then none else H p.1)=none;rw[g];split<;> rfl
 ·have a:(if b=e then none else H b)=some u:=q;by_cases d:b=e
  ·rw[if_pos d]at a;cases a
  ·rw[if_neg d]at a;refine(I.hok b u a).stay (λc v _ r=>r) (λc r=>?_) λc f r=>?_
   ·show(if c=e then none else H c)=_;rw[if_neg (ne c _ r λ_ y=>by cases y),r]
   ·show(if c=e then none else H c)=_;rw[if_neg (ne c _ r λ_ y=>by cases y),r]
inductive bK1(K:bYM)(D:aJn)(σ:St)(y:V)(x:V)(H2:Hp):Prop|mk (e C tp) (_:x= .ref e) (_:H2 e=some (qF e C tp none)) (_:v7 K C) (_:∀dx,H2 dx=none->D.nx σ (upd (upd H2 dx (.xd [("words",y)])) e (qF e C tp (some dx))))
def bYB(K:bYM)(d c:TE):TS:=λD σ H=>c σ H λy a=>d σ a λx b=>bK1 K D σ y x b
def bW1{o a:Expr}{A w:TE}{pos i:Pos}(O:PE X o A)(N:PE X a w)(G:swapsWith a (some (.Attribute o "words" i)) pos.line X.env=pure false): PS X (.Assign [.Attribute o "words" i] a pos) (bYB X.K A w):=by
 intro pins s σ H D I h;refine cJu (thn (N pins s σ H _ I h) λu s1 ⟨y,H1,I1,ry,q⟩=>thn (O pins s1 σ H1 _ I1 q) λov s2 ⟨x,H2,I2,rx,e,C,tp,ex,ea,c,q2⟩=>?_) G;subst ex;obtain rfl:ov=Value.ref e:=rx;have J:=aVC I2.hok ea;have g:H2 s2.heap.objs.size=none:=I2.hok.fresh (bYS _);have L:=q2 _ g;refine bJP I2.kIn c J λQ tk E F k=>⟨σ,_,I2.un (t':=tk) ?_ ?_,L⟩
 ·have nb:∀b,H2 b=none->b≠e:=λb n z=>by rw[z,ea]at n;cases n
  have M:∀b o,s2.heap.get? b=some o->b≠s2.heap.objs.size:=λb o r=>cQc (bYZ r);have m:∀b u,H2 b=some u->(∀φ,u≠ .ext φ)->upd (upd H2 s2.heap.objs.size (.xd [("words",y)])) e (qF e C tp (some s2.heap.objs.size)) b=some u:=λb u r n=>by rw[yI (λz=>by rw[z,ea]at r;cases r;exact n _ rfl),yI (yJ r g)];exact r
  refine⟨λb o r n _ _=>k b o (nb b n) r,λb o r n _ _=>⟨o.slots,k b o (nb b n) r⟩,λb o r n _=>?_,λb o r _=>?_,λb P r=>m b _ r (λ_ z=>by cases z),λb o u r=>m b _ r (λ_ z=>by cases z),λb ps r=>⟨#[],by rw[m b _ r (λ_ z=>by cases z)];simp⟩⟩
  ·rw[yI (nb b n),yI (M b o r)];exact n
  ·by_cases j:b=e
   ·subst j;exact⟨_,E⟩
   ·exact⟨o,k b o j r⟩
 ·intro b v r;by_cases j:b=e
  ·subst j;rw[yB]at r;cases r;exact aVD E
  ·rw[yI j]at r;by_cases B:b=s2.heap.objs.size
   ·subst B;rw[yB]at r;cases r;refine⟨_,F,λf=>?_⟩;show aZh (cX6 f [("words",y)]) (if f="words" then some u else none);by_cases p:f="words"
    ·subst p;exact ry
    ·rw[if_neg p];have:(f==("words":Str))=false:=by simpa using p
     simp[cX6,this,aZh]
   ·rw[yI B]at r;have ne:∀c t,H2 c=some t->(∀φ,t≠ .ext φ)->c≠e:=λc t d n z=>by rw[z,ea]at d;cases d;exact n _ rfl
    refine(I2.hok b v r).stay (λc o l d=>k c o ?_ d) (λc d=>?_) λc P d=>?_
    ·rcases l with rfl|l
     ·exact j
     ·exact ne c _ l λ_ z=>by cases z
    ·rw[yI (ne c _ d λ_ z=>by cases z),yI (yJ d g)];exact d
    ·rw[yI (ne c _ d λ_ z=>by cases z),yI (yJ d g)];exact d
end
inductive wS(K:bYM)(vs:List V)(H:Hp)(Q:VK)(_:XK):Prop|mk (e C tp:Nat) (y:V) (_:vs= [.ref e,y]) (_:H e=some (qF e C tp none)) (_:v7 K C) (_:∀dx,H dx=none->Q .non (upd (upd H dx (.xd [("words",y)])) e (qF e C tp (some dx))))
inductive bZI(C:Nat)(t:Str)(vs:List V)(H:Hp)(Q:VK):Prop|mk (e tp:Nat) (_:vs= [.ref e]) (_:H e=some (qF e C tp none)) (_:∀dx,H dx=none->Q .non (upd (upd H dx (.xd [("words",.str t)])) e (qF e C tp (some dx))))
def wH(K:bYM)(C:Nat)(t:Str):Sp:=λa H Q _=>bZI C t a H Q
structure aWn(P:bY7)(w:cQf)(K:bYM)(mg:Str->Option bYL)(base:Heap)(k:Nat)(x m:Str)(ps:List Str)(sp:Sp):Prop where
 ex:∃ (R f:Nat)(fd:cXK),xE P w K mg base CX0 k f fd ps sp/\v6 K fd ps []/\PySem.W.readsIn K R (.type "type")=true/\PySem.W.findCls K (.ref R) (.type "type") m=some (.val (.ref f))/\
  cJk K (.ref R) "__getattribute__"=some (some (.builtin "type.__getattribute__"))/\cQH K (.ref f)=true/\mg x=some (.ref R)
section
variable {X:Cx}{k:Nat}{x m:Str}{ps:List Str}{sp:Sp}{e:Expr}{es:List Expr}{t:TA}{p pos apos:Pos}
def uZ{pl:Sem Bool}(G:aWn X.prog X.w X.K X.mg X.base k x m ps sp)(n:vW k X.A)(o:Gl X x)(u:PA X (e::es) t)(d:(x==("__debug__":Str))=false:=by decide)
  (a:cQr (e::es) X.env=(false,eval e X.env)::cQr es X.env:=by rfl) (c:(cXp pos (cQr es X.env)).any (·.1)=false:=by rfl)
  (j:eval (.Call (.Attribute (.Name x p) m apos) (e::es) [] pos) X.env=(do
   let ov <- eval (.Name x p) X.env
   standAt apos.atName
   let (f,first) <- cZ5 [ov] (cJd ov m pl)
   callWith pos f first (cXp pos (cQr (e::es) X.env)) (cZX pos (cX7 [] X.env))):=by rfl):
  PE X (.Call (.Attribute (.Name x p) m apos) (e::es) [] pos) (bZK sp [] E0 t):=by
 obtain⟨R,f,z,F,b,q,i,g,y,v⟩:=G.ex
 intro pins s σ H Q I h
 refine cZO (pl:=pl) (uW I o v ?_ d) j
 refine PySem.W.method_cls I.kIn g (PySem.W.cls_value I.kIn q i rfl ?_)
 have l:=I.tok (s.toks+1)
 refine cZC (first:= []) (h₀:=X.base) I.ok.mod.kin y (thn (u pos pins _ σ H _ l h) λus s2 ⟨vs,H2,I2,r,q2⟩=>⟨I2.kIn,?_⟩) a c
 exact aZ1 F n b .nil v0 I2 r q2
end
structure ExG(P:bY7)(w:cQf)(K:bYM)(mg:Str->Option bYL)(base:Heap)(k:Nat)(x:Str)(Rf:Nat)(C:Nat)(t:Str):Prop where
 ex:∃f fd,xE P w K mg base CX0 k f fd ["self"] (wH K C t)/\v6 K fd ["self"] []/\cQx K (.ref C) "__init__"=some (some (.ref f))/\cZq K (.ref f)=true/\cQH K (.ref C)=true/\mg x=some (.ref C)
 cl:v7 K C
 sub:cZ0 K C (.ref Rf)=some true
def ExG.mono{P:bY7}{w:cQf}{K:bYM}{mg:Str->Option bYL}{base:Heap}{j k:Nat}{x:Str}{Rf C:Nat}{t:Str}(G:ExG P w K mg base j x Rf C t)(h:j<=k):ExG P w K mg base k x Rf C t:=
 let ⟨f,fd,a,b⟩:=G.ex;⟨⟨f,fd,a.mono h,b⟩,G.cl,G.sub⟩
def bJm(C:Nat)(t:Str)(E:XK):TS:=λ_ _ H=>∀a,H a=none->E (.ref C) (some a) (upd H a (.xd [("words",.str t)]))
section
variable {P:bY7}{w:cQf}{K:bYM}{mg:Str->Option bYL}{base:Heap}{N:List Str}{qual:Str}{scope:cX1}{f:Nat}{cd:bYL}{A:cQt}{outer:List Env}{s₀:bYO}{H₀:Hp}{E:XK}{k:Nat}{x t:Str}{Rf C:Nat}{np cpos pos:Pos}
def wB(G:ExG P w K mg base k x Rf C t)(S:vW (k+1) (A.deeper (cXJ qual scope s₀.heap.objs.size f cd)))(X:Gl (aXE (CXR P w) P w K mg base N qual scope f cd A outer s₀ H₀ E) x)(B:(x==("__debug__":Str))=false:=by decide):
  PS (aXE (CXR P w) P w K mg base N qual scope f cd A outer s₀ H₀ E) (.Raise (some (.Call (.Name x np) [] [] cpos)) none pos) (bJm C t E):=by
 intro pins s σ H D I h
 obtain⟨fi,fd,F,b,U,R,kp,hm⟩:=G.ex
 rw[arm_exec_Raise]
 refine bYN (cJm ?_)
 show bYT _ _ (raiseStmt _ (some (do let v <- eval (.Call (.Name x np) [] [] cpos) (cXJ qual scope s₀.heap.objs.size f cd);standAt pos;pure v)) none) _ _ _
 refine aK6 (K:=K) (I.ok.hd rfl) (bYN ?_)
 refine cXq (uW I X hm ?_ B)
 refine cJJ I.kIn kp (cZY ?_)
 obtain⟨a,g,d,tk,M⟩:=s
 have Q:Inv (aXE (CXR P w) P w K mg base N qual scope f cd A outer s₀ H₀ E) pins σ H ⟨a.push W6,g,d,tk,M⟩:=I.kept (t':=tk) λb u e=>bYQ _ e
 have V:((a.push W6).push (wM C a.objs.size none)).get? (a.objs.size+1)=some (wM C a.objs.size none):=by heap_get
 have p:Inv (aXE (CXR P w) P w K mg base N qual scope f cd A outer s₀ H₀ E) pins σ (upd H (a.objs.size+1) (qF (a.objs.size+1) C a.objs.size none)) ⟨(a.push W6).push (wM C a.objs.size none),g,d,tk,M⟩:=
  Q.laid (t':=tk) (λb u e=>bYQ _ e) (cZn (cXl _ _)) (aVD V)
 have n:H (a.objs.size+1)=none:=I.hok.fresh (cXU _)
 refine bXk I.kIn G.cl U (beq_iff_eq.mp R) (cXE (F.run _ (cXJ qual scope s₀.heap.objs.size f cd::outer) _ _ ⟨[.ref (a.objs.size+1)],[]⟩ [.ref (a.objs.size+1)] [.ref (a.objs.size+1)] (λv L=>v= .non/\∃c,upd H (a.objs.size+1) (qF (a.objs.size+1) C a.objs.size none) c=none/\L=upd (upd (upd H (a.objs.size+1) (qF (a.objs.size+1) C a.objs.size none)) c (.xd [("words",.str t)])) (a.objs.size+1) (qF (a.objs.size+1) C a.objs.size (some c))) E0 (S.make C [] []) (p.env0.make C [] []) (b _ [.ref (a.objs.size+1)] p.kIn rfl) (.cons rfl .nil) ⟨a.objs.size+1,a.objs.size,rfl,yB,λc j=>⟨rfl,c,j,rfl⟩⟩) λr s' i=>?_)
 cases r with
 |error e=>exact cXi i
 |ok Z=>
  cases Z with
  |next=>exact cXi i
  |brk=>exact cXi i
  |cont=>exact cXi i
  |ret u=>
   obtain⟨v,L,y,rv,rfl,c,j,rfl⟩:=p.after i;have l:a.objs.size+1≠c:=yJ yB j;have J:H c=none:=by rw[yI (cQu l)]at j;exact j
   have o:=aVC y.hok yB;have O:=y.forget (e:=a.objs.size+1) yB;have Y:(λb=>if b=a.objs.size+1 then none else upd (upd (upd H (a.objs.size+1) (qF (a.objs.size+1) C a.objs.size none)) c (.xd [("words",.str t)])) (a.objs.size+1) (qF (a.objs.size+1) C a.objs.size (some c)) b)=upd H c (.xd [("words",.str t)]):=by
    funext b;by_cases m:b=a.objs.size+1
    ·rw[if_pos m,m,yI l,n]
    ·rw[if_neg m,yI m];by_cases q:b=c
     ·rw[q,yB,yB]
     ·rw[yI q,yI q,yI m]
   rw[Y]at O;refine⟨rv,bYN (cJm (bYR ⟨a.objs.size+1,a.objs.size,some c,C,rfl,y.kIn,G.cl,o,?_⟩))⟩;refine bKw (tb:=none) O ⟨⟨_,_,o,rfl,rfl,rfl,rfl⟩,λT z=>by cases z⟩ (by rw[yI l];exact n) (cQo I.sz (cXU _)) (λT z=>by cases z) (h c J)
end
end L2
namespace L2
open PySem PySem.Spec PyProof.Rows
def bVh{X:Cx}{A:cQt}{a:Bool}{pn:List (Nat×Obj)}{xe:bYL->bYO->Prop}(o:X.Ok)(b:A.frames=X.A.frames)(c:a=true->A.handled=none):Cx.Ok {X with A:=A,calm:=a,pn:=pn,xe:=xe}:=
 ⟨o.mod,o.kind,o.glob,o.blt,o.above,o.inj,o.has,o.cab,c,b.trans o.frames,o.stk,o.exf,o.bs,o.bsz,o.noex,o.exfs,o.funs,o.frf⟩
def Inv.mark{X:Cx}{A:cQt}{b:Bool}{pn pins a:List (Nat×Obj)}{xe:bYL->bYO->Prop}{σ:St}{H:Hp}{s:bYO}(I:Inv X pins σ H s)(c:A.frames=X.A.frames)(d:b=true->A.handled=none) (e:∀p∈pn++a,p∈X.pn++pins):Inv {X with A:=A,calm:=b,pn:=pn,xe:=xe} a σ H s:=
 ⟨bVh I.ok c d,I.os,I.bare,I.base,I.loc,I.cell,I.free,I.freeC,λp h=>I.pin p (e p h),I.hok,I.len⟩
def bJ9{X:Cx}{pn:List (Nat×Obj)}{xe:bYL->bYO->Prop}(o:Cx.Ok {X with A:=X.A,calm:=X.calm,pn:=pn,xe:=xe}):X.Ok:=
 ⟨o.mod,o.kind,o.glob,o.blt,o.above,o.inj,o.has,o.cab,o.hd,o.frames,o.stk,o.exf,o.bs,o.bsz,o.noex,o.exfs,o.funs,o.frf⟩
def Inv.names{X:Cx}{pins:List (Nat×Obj)}{σ:St}{H:Hp}{s:bYO}{h':Heap}{j:Str->Option bYL}{t':Nat}(I:Inv X pins σ H s)(t:h'.Ns X.env.locals j)(d:cXP X.env.locals s.heap h'): Inv X pins (cZj X.N.length none) H {s with heap:=h',toks:=t'}:=by
 have a:∀b o,X.s₀.heap.get? b=some o->b≠X.env.locals:=λb o q=>cQc (cQe (bYZ q) I.ok.above);refine⟨I.ok,I.os,I.bare,⟨λb o q n f e=>(d.2 b (a b o q)).trans (I.base.keep b o q n f e),λb o q n f e=>?_,I.base.free,λb o q e=>?_,I.base.tups,I.base.frzs,I.base.tbls⟩,⟨j,t,λi x v _ g _=>?_⟩,λx c q=>?_,I.free,I.freeC,λp B=>?_,λb u q=>?_,by simp⟩
 ·obtain⟨y,z⟩:=I.base.slot b o q n f e;exact⟨y,(d.2 b (a b o q)).trans z⟩
 ·obtain⟨k,z⟩:=I.base.there b o q e;exact⟨k,(d.2 b (a b o q)).trans z⟩
 ·rw[List.getElem?_replicate]at g;split at g<;> cases g
 ·obtain⟨v,z⟩:=I.cell x c q;exact⟨v,z.sameBut d (I.cne x c q)⟩
 ·obtain⟨C,l,h,w,A⟩:=I.pin p B;exact⟨(d.2 p.1 h).trans C,l,h,w,A⟩
 ·refine(I.hok b u q).stay (λc v m r=>(d.2 c ?_).trans r) (λ_ r=>r) λ_ _ r=>r;rintro rfl;rcases m with z|z
  ·rw[<- z,I.free]at q;cases q
  ·rw[I.free]at z;cases z
def bKH(K:bYM)(Rf:Nat)(Q:VK):XK:=λcls b a=>∃ (C d:Nat)(t:Str),cls= .ref C/\b=some d/\v7 K C/\cZ0 K C (.ref Rf)=some true/\a d=some (.xd [("words",.str t)])/\Q (.str t) a
section
variable {X:Cx}{pins:List (Nat×Obj)}{σ:St}{H:Hp}{s:bYO}
def Inv.recs{h':Heap}{ch:List Nat}(I:Inv X pins σ H s)(j:∀b∈ch,s.heap.objs.size<=b\/(X.s₀.heap.objs.size<=b/\b≠X.env.locals/\(∀x c,X.env.cells.lookup x=some c->c≠b)/\∀p∈X.pn++pins,p.1≠b))(m:∀b∈ch,H b=none) (keep:∀b o,b∉frs X.stack->b∉ch->s.heap.get? b=some o->h'.get? b=some o) (a:∀b o,b∉ch->s.heap.get? b=some o->∃k,h'.get? b=some {o with slots:=k}):Inv X pins σ H {s with heap:=h'}:=by
 have i:HOk X.prog X.w H h':=λb u q=>(I.hok b u q).stay (λc v l r=>by
  have f:H c≠none:=by
   rcases l with z|z
   ·rw[z,q];simp
   ·rw[z];simp
  exact keep c v (λz=>f (I.stkFree c z)) (λz=>f (m c z)) r) (λ_ r=>r) λ_ _ r=>r
 refine I.call (g':=s.gens) (t':=s.toks) (d':=s.drawn) (ch:=ch) ⟨λb o q _ h d=>keep b o h d q,λb o q _ _ d=>a b o d q,λ_ _ _ n _=>n,λb o q d=>?_,λ_ _ q=>q,λ_ _ _ q=>q,λ_ y q=>⟨#[],by rw[q];simp⟩⟩ i I.bare λb h=>?_
 ·obtain⟨k,z⟩:=a b o d q;exact⟨_,z⟩
 ·rcases j b h with z|⟨z1,z2,z3,z4⟩
  ·refine⟨.inr (cQo I.sz z),λe=>?_,λx c q e=>?_,λp t e=>?_⟩
   ·rw[e]at z;exact absurd (cQe I.lt z) (cQX _)
   ·obtain⟨v,o,g,_⟩:=I.cell x c q;rw[e]at g;exact absurd (cQe (bYZ g) z) (cQX _)
   ·have g:=(I.pin p t).1;rw[e]at g;exact absurd (cQe (bYZ g) z) (cQX _)
  ·exact⟨.inr z1,z2,z3,z4⟩
def bW2{body:List Stmt}{tb:XK->TS}{W n:Str}{i:Nat}{Rf:Nat}{cp p1 p2 p3 F tp:Pos}(hN:X.N.Nodup)(hi:X.N[i]? =some n)(hl:X.env.scope.names.lookup n=some .local)(hg:Gl X W)(hm:X.mg W=some (.ref Rf))(cr:v7 X.K Rf) (a1:X.stack=X.env::X.outer) (b7:X.env.frame=some X.env.locals) (d0:X.calm=true) (b5:(n==("__debug__":Str))=false) (a9:(W==("__debug__":Str))=false) (c9:(n==("__classdict__":Str))=false) (hA:∀e,(X.A.mark (some (.ref e))).frames=X.A.frames) (j:∀ (pn:List (Nat×Obj))(xe:bYL->bYO->Prop)(E:XK),vP (CXR X.prog X.w) {X with A:=X.A,calm:=X.calm,pn:=pn,xe:=xe} E->PSs {X with A:=X.A,calm:=X.calm,pn:=pn,xe:=xe} body (tb E)): PS X (.Try body [.ExceptHandler (some (.Name W cp)) (some n) [.Return (some (.Attribute (.Name n p1) "words" p2)) p3] F] [] [] tp) (λD σ H=>tb (bKH X.K Rf D.rt) D σ H):=by
 intro pins s σ H D I h;refine wpAny_Try_except ?_;have l:X.calm=true->X.A.handled=none:=I.ok.hd;have go:∀ (a2:List (Nat×Obj))(B:St)(M:Hp)(Y:bYO)(g:bYL)(k:bYO),Inv X pins B M Y->CXR X.prog X.w X.stack M Y (bKH X.K Rf D.rt) g k->
   bYT (bYV X.prog X.w) X.A (cJe g X.env) (λ_ U=>bYT (bYV X.prog X.w) X.A (cZT g none) (λ_ R=>bYT (bYV X.prog X.w) X.A (handleBy g X.env [.ExceptHandler (some (.Name W cp)) (some n) [.Return (some (.Attribute (.Name n p1) "words" p2)) p3] F]) (SP X pins D) X.xe R) X.xe U) X.xe k:=by
  intro _ B M Y g k J1 hx
  obtain⟨e,C',dx,b3,H',rfl,os,bare,un,b1,x,he,ht,a0,a5,hE⟩:=hx
  obtain⟨C,d,t,ec,ed,cC,hs,hd,hq⟩:=hE
  have eC:C'=C:=by cases ec;rfl
  subst eC
  have eD:dx=d:=by cases ed;rfl
  subst eD
  have Z:Inv X pins B H' k:=J1.call' os un b1 bare λb z=>absurd z (by simp)
  have big:∀b,Y.heap.objs.size<=b->X.s₀.heap.objs.size<=b/\b≠X.env.locals/\(∀x c,X.env.cells.lookup x=some c->c≠b)/\∀p∈X.pn++pins,p.1≠b:=λb z=>by
   refine⟨cQo J1.sz z,λe=>?_,λx c q e=>?_,λp F e=>?_⟩
   ·rw[e]at z;exact absurd (cQe J1.lt z) (cQX _)
   ·obtain⟨v,o,O,_⟩:=J1.cell x c q;rw[e]at O;exact absurd (cQe (bYZ O) z) (cQX _)
   ·have O:=(J1.pin p F).1;rw[e]at O;exact absurd (cQe (bYZ O) z) (cQX _)
  refine aVN (base:=X.base) (outer:=X.outer) (L:=X.env.locals) (a1 ▸ Z.ok.frames) (a1 ▸ Z.stack) b7 x λh3 T y nT p=>?_
  have b9:frs X.stack=(X.env::X.outer).filterMap (·.frame):=by rw[a1];rfl
  have J3:Inv X pins B H' {k with heap:=h3}:=Z.recs (ch:= [e,b3]) (λb j=>by
    rcases bYU.mp j with rfl|j
    ·exact .inr (big _ a0)
    ·rw[bY2.mp j];exact .inr (big _ a5)) (λb j=>by
    rcases bYU.mp j with rfl|j
    ·exact he
    ·rw[bY2.mp j];exact ht)
   (λb o j S q=>p.keep b o (λz=>S (by simp[z])) (λz=>S (by cases z;simp)) (b9 ▸ j) q)
   (λb o S q=>p.slot b o (λz=>S (by simp[z])) (λz=>S (by cases z;simp)) q)
  have a8:H' T=none:=Z.hok.fresh nT
  have P:X.s₀.heap.objs.size<=T/\T≠X.env.locals/\(∀x c,X.env.cells.lookup x=some c->c≠T)/\∀p∈X.pn++pins,p.1≠T:=by
   refine⟨cQo Z.sz nT,λe=>?_,λx c q e=>?_,λp F e=>?_⟩
   ·rw[e]at nT;exact absurd (cQe Z.lt nT) (cQX _)
   ·obtain⟨v,o,O,_⟩:=Z.cell x c q;rw[e]at O;exact absurd (cQe (bYZ O) nT) (cQX _)
   ·have O:=(Z.pin p F).1;rw[e]at O;exact absurd (cQe (bYZ O) nT) (cQX _)
  have mk:∀ {σ:St} {H:Hp} {s:bYO},Inv X pins σ H s->Inv {X with A:=X.A.mark (some (.ref e)),calm:=false,pn:=X.pn,xe:=λ_ _=>True} pins σ H s:=λJ=>J.mark (hA e) (λz=>by cases z) λp F=>F
  have un:∀ {σ:St} {H:Hp} {s:bYO},Inv {X with A:=X.A.mark (some (.ref e)),calm:=false,pn:=X.pn,xe:=λ_ _=>True} pins σ H s->Inv X pins σ H s:=λ{σ H s} J=>Inv.mark (X:={X with A:=X.A.mark (some (.ref e)),calm:=false,pn:=X.pn,xe:=λ_ _=>True}) J (hA e).symm l λp F=>F
  refine wpAny_handleBy_cons (codeAny_handlers_test ?_) (by intro q;cases q)
  refine uW (X:={X with A:=X.A.mark (some (.ref e)),calm:=false,pn:=X.pn,xe:=λ_ _=>True}) (mk J3) hg hm ?_ a9
  obtain⟨oe,vs,g1,g2,g3,g4,g5⟩:=y.obj
  refine aK5 J3.kIn cC cr hs g1 g2 ?_
  refine codeAny_handlers_suite_as ?_
  refine bXu (s:={k with heap:=h3}) y λh4 y4 k4 t4=>?_
  have J4:Inv X pins B H' {k with heap:=h4}:=Inv.recs (s:={k with heap:=h3}) (h':=h4) (ch:= [T]) J3 (λb j=>by rw[bY2.mp j];exact .inr P) (λb j=>by rw[bY2.mp j];exact a8)
   (λb o _ S q=>k4 b o (λz=>S (by simp[z])) q) (λb o S q=>⟨o.slots,k4 b o (λz=>S (by simp[z])) q⟩)
  refine aQ3 (X:={X with A:=X.A.mark (some (.ref e)),calm:=false,pn:=X.pn,xe:=λ_ _=>True}) (v:= .ref e) (u:= .ref e) (mk J4) hN hi (.inl hl) rfl (λs5 J5 ⟨a,sb,ha⟩=>?_) (.inr hl)
  have a4:e≠a/\T≠a:=by
   rcases ha with z|z
   ·rw[z];exact⟨(big _ a0).2.1,P.2.1⟩
   ·exact⟨λq=>(big _ a0).2.2.1 n a z q.symm,λq=>P.2.2.1 n a z q.symm⟩
  have y5:Y5 s5.heap e (.ref C') (some dx) (some T):=y4.keeps λb o j q=>(sb.2 b (by
   rcases j with rfl|j
   ·exact a4.1
   ·cases j;exact a4.2)).trans q
  obtain⟨c5,c8,f1,f2,f3,f4,f5⟩:=y5.obj
  obtain⟨mA,c0,a3⟩:=J5.hok dx _ hd
  obtain⟨od,b4,c6⟩:=aZN c0
  obtain⟨u,hu,ru⟩:=aZh.some_of (v:=V.str t) (o:=mA "words") (a3 "words")
  obtain⟨m5,a6,c7⟩:=J5.loc
  obtain⟨u5,r5,l5⟩:=c7 i n (.ref e) hi (cZG (by rw[J4.len];exact(bYW.mp hi).1)) (.inl hl)
  obtain rfl:u5=Value.ref e:=r5
  have b6:m5 n=some (.ref e):=by
   rcases l5 with⟨_,z⟩|⟨z,_⟩
   ·exact z
   ·rw[show X.env.kindOf n=some .local from hl]at z;rcases z with z|z<;> cases z
  refine wpAny_execs_cons (wpAny_Return_some (aKN rfl ?_))
  refine wpAny_Name (wpAny_loadName_local J5.ok.kind hl a6 b6 ?_) b5
  refine bJN J5.kIn cC f1 f2 f3 (by obtain⟨c1,c2,c3,c4⟩:=c5;cases f4;rfl) b4 (by rw[c6,hu]) (aZA ru) ?_
  have J6:=(un J5).tok (s5.toks+1)
  obtain⟨m6,a7,_⟩:=J6.loc
  refine wpAny_nameGoes hl a7 (by rw[J6.ok.kind];rfl) λh7 m7 b2 b8=>?_
  exact⟨.str t,_,H',J6.names (t':=s5.toks+1+1) b2 b8,ru,hq⟩
 have b0:vP (CXR X.prog X.w) {X with A:=X.A,calm:=X.calm,pn:=X.pn++pins,xe:=λg k=>bYT (bYV X.prog X.w) X.A (cJe g X.env) (λ_ U=>bYT (bYV X.prog X.w) X.A (cZT g none) (λ_ R=>bYT (bYV X.prog X.w) X.A (handleBy g X.env [.ExceptHandler (some (.Name W cp)) (some n) [.Return (some (.Attribute (.Name n p1) "words" p2)) p3] F]) (SP X pins D) X.xe R) X.xe U) X.xe k} (bKH X.K Rf D.rt):=
  λa2 B M Y g k J hx=>go [] B M Y g k (Inv.mark (X:={X with A:=X.A,calm:=X.calm,pn:=X.pn++pins,xe:=λg k=>bYT (bYV X.prog X.w) X.A (cJe g X.env) (λ_ U=>bYT (bYV X.prog X.w) X.A (cZT g none) (λ_ R=>bYT (bYV X.prog X.w) X.A (handleBy g X.env [.ExceptHandler (some (.Name W cp)) (some n) [.Return (some (.Attribute (.Name n p1) "words" p2)) p3] F]) (SP X pins D) X.xe R) X.xe U) X.xe k}) J rfl l λp Q=>cXI _ Q) hx
 have I':Inv {X with A:=X.A,calm:=X.calm,pn:=X.pn++pins,xe:=λg k=>bYT (bYV X.prog X.w) X.A (cJe g X.env) (λ_ U=>bYT (bYV X.prog X.w) X.A (cZT g none) (λ_ R=>bYT (bYV X.prog X.w) X.A (handleBy g X.env [.ExceptHandler (some (.Name W cp)) (some n) [.Return (some (.Attribute (.Name n p1) "words" p2)) p3] F]) (SP X pins D) X.xe R) X.xe U) X.xe k} [] σ H s:=
  I.mark rfl l λp Q=>by simpa using Q
 have G:∀ {σ:St} {H:Hp} {s:bYO},Inv {X with A:=X.A,calm:=X.calm,pn:=X.pn++pins,xe:=λg k=>bYT (bYV X.prog X.w) X.A (cJe g X.env) (λ_ U=>bYT (bYV X.prog X.w) X.A (cZT g none) (λ_ R=>bYT (bYV X.prog X.w) X.A (handleBy g X.env [.ExceptHandler (some (.Name W cp)) (some n) [.Return (some (.Attribute (.Name n p1) "words" p2)) p3] F]) (SP X pins D) X.xe R) X.xe U) X.xe k} [] σ H s->Inv X pins σ H s:=
  λ{σ H s} J=>⟨bJ9 J.ok,J.os,J.bare,J.base,J.loc,J.cell,J.free,J.freeC,λp Q=>J.pin p (by simpa using Q),J.hok,J.len⟩
 refine cQP (j _ _ _ b0 [] s σ H D I' h) (λf Y q=>?_) λ_ _ q=>q;cases f with
 |next=>obtain⟨m,M,J,q⟩:=q;exact yS pins Y m M D (G J) q
 |ret v=>obtain⟨u,m,M,J,r,q⟩:=q;exact⟨u,m,M,G J,r,q⟩
 |brk=>obtain⟨m,M,J,q⟩:=q;exact⟨m,M,G J,q⟩
 |cont=>obtain⟨m,M,J,q⟩:=q;exact⟨m,M,G J,q⟩
end
end L2
namespace L2
open PySem PySem.Spec PyProof.Rows
def aYj{P:bY7}{w:cQf}{K:bYM}{mg mb:Str->Option bYL}{CX:CXT}{k:Nat}{fa a c T:Nat}{fd:cXK}{x:Str}{sp:Sp}{f:bYO}{vs:List bYL}{X:List Int} (KX:K.In f.heap) (I:f.heap.Ns cQj mg) (l:f.heap.Ns builtinsNs mb) (a6:∀x:Str,x≠"__name__"->mb x=cQw x) (R:f.heap.NoLimit) (hg:f.gens= #[]) (M:f.heap.get? a=some {cls:= .type "list",data:= .seq vs.toArray}) (hi:cZi vs X) (hl:X.length<=cQd) (hr:vW k callerA) (hC:cXR f.heap c T) (L:f.heap.get? T=some (cZk #[])) (a2:K.lookup T=none) (a7:∃Z B,mg "__builtins__"=some (.ref Z)/\Z≠builtinsNs/\f.heap.get? Z=some B/\B.cls= .type "module"/\B.dict=some builtinsNs/\B.data= .plain) (F:∀base:Heap,K.In base->base.Ns cQj mg->cXR base c T->base.BuiltinsAt mg T->xE P w K mg base CX k fa fd [x] sp) (G:∀ (s:bYO)(u:bYL),BindsTo s fd ⟨[u],[]⟩ [(x,u)]) (a3:∀H:Hp,H T=some (.tbl #[])->SqL K H a (X.map V.int)->sp [.ref a] H (λv _=>v= .bl true) λ_ _ _=>False) (a5:∀H e j,CX [] H f (λ_ _ _=>False) e j->False): cX4 (bYV P w) callerA (.call (.ref fa) ⟨[.ref a],[]⟩) (λr j=>r= .ok (.ret (.bool true))/\OldK f.heap j.heap/\j.os=f.os/\AllBare j.gens) f:=by
 have rv:=jE hi;have U:=hi.length;have a1:a≠T:=λz=>by rw[z,L]at M;cases M
 have C:∀H:Hp,H T=some (.tbl #[])->SqL K H a (X.map V.int)->HOk P w H f.heap->(∀b,H b≠none->b=T\/(b=a/\∃o xs,H b=some (.frz o (.lst xs))))->(H a≠none->K.lookup a=none)->
   cX4 (bYV P w) callerA (.call (.ref fa) ⟨[.ref a],[]⟩) (λr j=>r= .ok (.ret (.bool true))/\OldK f.heap j.heap/\j.os=f.os/\AllBare j.gens) f:=by
  intro H hH hS S hA hK
  have i:∀ {b:Nat} {o:Obj},f.heap.get? b=some o->H b=none->(aK9 f.heap H).get? b=some o:=λe n=>bXo e n
  have p:∀ {b:Nat} {o:Obj},f.heap.get? b=some o->(∀ps,o≠cZk ps)->(∀A,o≠ {cls:= .type "list",data:= .seq A})->H b=none:=λ{b o} e n1 n2=>by
   cases q:H b with
   |none=>rfl
   |some u=>
    rcases hA b (by rw[q];simp)with z|⟨z,_⟩
    ·rw[z,L]at e;cases e;exact absurd rfl (n1 _)
    ·rw[z,M]at e;cases e;exact absurd rfl (n2 _)
  have y:∀ {b:Nat} {m:Str->Option bYL},f.heap.Ns b m->(aK9 f.heap H).Ns b m:=λ{b m} ⟨o,es,ep,e,d,r⟩=>⟨o,es,ep,i e (p e (λps z=>by rw[z]at d;cases d) (λA z=>by rw[z]at d;cases d)),d,r⟩
  have Y:K.In (aK9 f.heap H):=λb o e=>i (KX b o e) (by
   cases q:H b with
   |none=>rfl
   |some u=>
    rcases hA b (by rw[q];simp)with z|⟨z,_⟩
    ·rw[z,a2]at e;cases e
    ·subst z;rw[hK (by rw[q];simp)]at e;cases e)
  have hM:Mod K mg (aK9 f.heap H):=⟨Y,y I,⟨mb,y l,a6⟩,let ⟨mc,h1,h2⟩:=R;⟨mc,y h1,h2⟩⟩
  have e0:bJA P w K mg (aK9 f.heap H) callerA [] f H:=⟨rfl,hM,λb o e=>bJ7 e,cZn (aYa _ _),trivial,λb l=>absurd (show b∈([]:List Nat)from l) (by simp),S,.of_eq hg⟩
  have a8:cXR (aK9 f.heap H) c T:=by
   obtain⟨o,vs,file,tf,E,tg,a9,text,tt,e,N,r⟩:=hC;exact⟨o,vs,file,tf,E,tg,a9,text,tt,i e (p e (λps z=>by rw[z]at N;cases N) (λA z=>by
    rw[z]at N;have c':Value.type "list"=Value.type "code":=N;injection c' with c''
    exact absurd c'' (by decide))),N,r⟩
  have a4:(aK9 f.heap H).BuiltinsAt mg T:=by
   obtain⟨Z,B,b1,b2,J,b4,b5,Q⟩:=a7;refine⟨Z,B,b1,b2,λz=>?_,λz=>?_,i J (p J (λps z=>by rw[z]at b4;cases b4) (λA z=>by rw[z]at Q;cases Q)),b4,b5,Q⟩
   ·obtain⟨o,es,ep,e,d,_⟩:=I;rw[z,e]at J;cases J;rw[d]at Q;cases Q
   ·rw[z,L]at J;cases J;cases b4
  refine cXE ((F _ Y (y I) a8 a4).run callerA [] f H ⟨[.ref a],[]⟩ [.ref a] [.ref a] _ _ hr e0 (G f (.ref a)) (.cons rfl .nil) (a3 H hH hS)) λr j h=>?_
  cases r with
  |error e=>exact(a5 H e j h).elim
  |ok fl=>
   cases fl with
   |next=>exact cXi h
   |brk=>exact cXi h
   |cont=>exact cXi h
   |ret u=>
    obtain⟨v,H',os,bare,un,D,r',q⟩:=h;have q':v= .bl true:=q;subst q';obtain rfl:u=Value.bool true:=r';obtain⟨more,hm⟩:=un.tbls T _ hH;have O:j.heap.get? T=some (cZk (#[]++more)):=D T _ hm;have get:∀b o,b≠T->f.heap.get? b=some o->j.heap.get? b=some o:=λb o g e=>by
     cases q:H b with
     |none=>exact un.keep b o e q (by intro z;exact absurd (show b∈([]:List Nat)from z) (by simp)) (by simp)
     |some u=>
      rcases hA b (by rw[q];simp)with z|⟨_,B,xs,z⟩
      ·exact absurd z g
      ·have z2:=un.frzs b B _ z;obtain⟨e1,_⟩:=S b _ z;obtain⟨e2,_⟩:=D b _ z2;rw[e]at e1;cases e1;exact e2
    refine⟨rfl,⟨λb o e=>?_,λb o e=>?_⟩,os,bare⟩
    ·by_cases g:b=T
     ·subst g;rw[L]at e;cases e;exact .inr (.inl ⟨(hC.tab L).isCodeTable,rfl, #[],more,rfl,O⟩)
     ·exact .inl (get b o g e)
    ·by_cases g:b=T
     ·exact⟨_,by rw[g];exact O⟩
     ·exact⟨o,get b o g e⟩
 have a0:∀H:Hp,zH P w H f.heap T (.tbl #[]):=λH=>L;cases hk:K.lookup a with
 |some o=>
  have e:=KX a o hk;rw[M]at e;cases e;refine C (λb=>if b=T then some (.tbl #[])else none) (if_pos rfl) (.inr ⟨_,vs.toArray,_,hk,rfl,rfl,rfl,by rw[bY4,U];exact hl,by simpa using rv⟩) (λb u z=>?_) (λb z=>?_) λz=>absurd (if_neg a1) z
  ·by_cases g:b=T
   ·have t:=(if_pos g).symm.trans z;cases t;subst g;exact a0 _
   ·have t:=(if_neg g).symm.trans z;cases t
  ·by_cases g:b=T
   ·exact .inl g
   ·exact absurd (if_neg g) z
 |none=>
  refine C (λb=>if b=T then some (.tbl #[])else if b=a then some (.frz {cls:= .type "list",data:= .seq vs.toArray} (.lst (X.map V.int)))else none) (if_pos rfl)
   (.inl (.inr ⟨{cls:= .type "list",data:= .seq vs.toArray},by show(if a=T then _ else _)=_;rw[if_neg a1,if_pos rfl]⟩)) (λb u z=>?_) (λb z=>?_) λ_=>hk
  ·by_cases g:b=T
   ·have t:=(if_pos g).symm.trans z;cases t;subst g;exact a0 _
   ·have z1:=(if_neg g).symm.trans z;by_cases l:b=a
    ·have t:=(if_pos l).symm.trans z1;cases t;subst l;exact⟨M,by rw[bYP];exact hl,vs,_,rv,M⟩
    ·have t:=(if_neg l).symm.trans z1;cases t
  ·by_cases g:b=T
   ·exact .inl g
   ·by_cases l:b=a
    ·exact .inr ⟨l,_,_,by show(if b=T then _ else _)=_;rw[if_neg g,if_pos l]⟩
    ·exact absurd (by show(if b=T then _ else _)=_;rw[if_neg g,if_neg l]) z
def bZ1{l:PySem.W.OpenLaw}{n k:Nat}{q:bY7}{loose:List Str}{Z:(Str->Option bYL)->Heap->Prop}{y:cQf->Heap->Prop}{d:DefRec}{K:Params->bYM}{CX:CXT}{sp:Nat->bYM->Sp}{x:Str}{T:Nat} (Q:l.most=some n) (A:n<=cQd) (D:d.params.defaults= []) (U:vW k callerA) (S:∀ (w:cQf)(h:Heap),y w h->(K w.params).In h) (B:∀ (w:cQf)(h:Heap),y w h->h.get? T=some (cZk #[])) (F:∀ (w:cQf)(mg:Str->Option bYL)(r:Nat)(h:Heap),(K w.params).In h->h.Ns cQj mg->mg d.name=some (.ref r)-> ∃ (E:cXK)(c:Nat),cJp (K w.params) c T=true/\(K w.params).lookup T=none/\(∀ (s:bYO)(u:bYL),BindsTo s E ⟨[u],[]⟩ [(x,u)])/\ ∀base:Heap,(K w.params).In base->base.Ns cQj mg->cXR base c T->base.BuiltinsAt mg T->xE l.prog w (K w.params) mg base CX k r E [x] (sp T (K w.params))) (L:∀ (K:bYM)(H:Hp)(a:Nat)(t:List Int),t.length<=n->H T=some (.tbl #[])->SqL K H a (t.map V.int)->sp T K [.ref a] H (λv _=>v= .bl true) λ_ _ _=>False) (z:∀ (H:Hp)(s:bYO)(e:bYL)(J:bYO),CX [] H s (λ_ _ _=>False) e J->False): PySem.W.WalkO q loose Z y l.row.toRowW d [] (λf N=>PySem.call f N):=by
 refine Att.aJu Q D λw s₀ m mg mb r o pm cd a0 a N t G Y ho hd a1 C p j i hg=>?_;have M:=S w _ Y;obtain⟨E,c,P,I,R,X⟩:=F w mg r _ M G.T.g C;exact aYj M G.T.g G.T.b G.T.builtins G.T.nolimit hg p j (cQo i A) U (PySem.W.codeHd_of_K M P) (B w _ Y) I G.T.bmain X R (λH O hS=>L _ H a t i O hS) λH e J=>z H m e J
end L2
namespace Thr
open PySem L2 PyProof.Rows
open Stree (qQ jL wG)
def aZB(x:Str):Stmt->Bool
 |.FunctionDef n _ _ _ _ _ _ _ _ _=>n==x
 |_=>false
def xF(x:Str):Stmt:=(PySem.Challenge.pw_letterdesk_k06_whole_waiting_and_overdue.main.body.find? (aZB x)).getD (.Pass ⟨0,0,0,0⟩)
abbrev aVf:Stmt:=xF "thread"
abbrev bQm:Stmt:=xF "top_of"
abbrev aJ6:Stmt:=xF "answers_to_each"
def xB:cQw "len"=some (.builtin "len"):=dk
def vA:cQw "sorted"=some (.builtin "sorted"):=dk
def yZ:cQw "isinstance"=some (.builtin "isinstance"):=dk
def uR:cQw "int"=some (.type "int"):=dk
def z6:cQw "list"=some (.type "list"):=dk
def wV:cQw "tuple"=some (.type "tuple"):=dk
structure vJ(mg:Str->Option bYL):Prop where
 b_len:mg "len"=none
 b_sorted:mg "sorted"=none
 b_isinstance:mg "isinstance"=none
 b_int:mg "int"=none
 b_str:mg "str"=none
 b_bool:mg "bool"=none
 b_list:mg "list"=none
 b_tuple:mg "tuple"=none
 b_range:mg "range"=none
def zX{a H:Hp}{c:Nat}{o:HO}(k:xC a H)(h:a c=none):xC a (upd H c o):=λb u q=>by rw[yI (yJ q h)];exact k b u q
def aWN{K:bYM}{a:Nat}{xs:List V}{G:List Nat}{σ:L2.St}{D:Nat}{Q:VK}{H:Hp}(hl:SqL K H a xs)(s:H D=none)(hz:xs.length<=1000) (F:∀ (d:Hp)(c:List Nat),xC H d->d D=some (.lst (c.map V.ref))->c.length=xs.length->c.Nodup->(∀b∈c,d b=some (.lst [])/\H b=none/\b≠D)->Q (.ref D) d):bWf (Itl K a) G bYp (bYm bZO) σ D Q (upd H D (.lst [])):=by
 refine⟨λi m o d=>m=xs.length - i/\i<=xs.length/\∃c:List Nat,o=c.map V.ref/\c.length=i/\c.Nodup/\xC H d/\d D=some (.lst o)/\∀b∈c,d b=some (.lst [])/\H b=none/\b≠D,
  ⟨xs.length,by simp,cQJ _,[],rfl,rfl,.nil,yG s _,yB,λb e=>nomatch e⟩,?_⟩
 rintro i m o d ⟨rfl,I,c,rfl,q,u,j,k,g⟩;refine⟨k,?_⟩;have t:=xC.seq j hl;by_cases l:i<xs.length
 ·refine .inr ⟨⟨xs,xs[i],t,bYK l⟩,λv J A=>?_⟩;obtain⟨rfl,y⟩:=A;refine⟨z0,λp h=>?_⟩;have f:p≠D:=cQu (yJ k h);have n:p∉c:=λz=>by rw[(g p z).1]at h;cases h
  refine⟨zlt (by rw[bYP];omega),by rw[yI (cQu f)];exact k,xs.length - (i+1),by omega,rfl,by omega,c++ [p],by simp,by simp[q],?_,?_,yB,λb e=>?_⟩
  ·rw[cZe];exact⟨u,by simp,λx C y E z=>by rw[bY2.mp E]at z;exact n (z ▸ C)⟩
  ·exact zX (j.trans (yG h _)) s
  ·rcases cQp.mp e with e|e
   ·obtain⟨w,B,r⟩:=g b e;exact⟨by rw[yI r,yI (yJ w h)];exact w,B,r⟩
   ·rw[bY2.mp e];exact⟨by rw[yI f];exact yB,j.fresh h,f⟩
 ·refine .inl ⟨⟨xs,t,by omega⟩,F d c j k (by omega) u g⟩
def w6:Option Nat->V
 |none=> .non
 |some j=> .int (j:Nat)
def vZ(n:Nat)(L:Nat->Option Nat):List V:=(bYY n).map λi=>w6 (L i)
def qW(n:Nat)(D:Nat->Int):List V:=(bYY n).map λi=> .int (D i)
def jM{n i:Nat}{L:Nat->Option Nat}(h:i<n):(vZ n L)[i]? =some (w6 (L i)):=by unfold vZ;rw[bY5,cXO h];rfl
def aWA{n i:Nat}{D:Nat->Int}(h:i<n):(qW n D)[i]? =some (.int (D i)):=by unfold qW;rw[bY5,cXO h];rfl
inductive bKj(K:bYM)(vs:List V)(H:Hp)(Q:VK)(_:XK):Prop|mk (a:Nat) (n:Nat) (L:Nat->Option Nat) (rk:Nat->Nat) (i:Nat) (_:vs= [.ref a,.int (i:Nat)]) (_:SqL K H a (vZ n L)) (_:Fm.Ok n L rk) (_:i<n) (_:Q (.int (Fm.tp L rk i:Nat)) H)
def wF(T:Nat):Hp->Prop:=Y9 ⟨116,48,116,71⟩ "answers_to_each.<locals>.<lambda>" T
structure bYf(n:Nat)(L:Nat->Option Nat)(D:Nat->Int)(kd:Nat->List Nat):Prop where
 mem:∀j i,i∈kd j↔i<n/\L i=some j
 ord:∀j,(kd j).Pairwise λx y=>wG (D y,(y:Int)) (D x,(x:Int))=true
inductive bV3(T:Nat)(vs:List V)(H:Hp)(Q:VK)(_:XK):Prop|mk (la da:Nat) (n:Nat) (L:Nat->Option Nat) (rk:Nat->Nat) (D:Nat->Int) (_:vs= [.ref la,.ref da]) (_:H la=some (.lst (vZ n L))) (_:H da=some (.lst (qW n D))) (_:Fm.Ok n L rk) (_:n<=63) (_:wF T H) (_:∀ (H':Hp)(a:Nat)(rs:List Nat)(kd:Nat->List Nat),x3 H H'->wF T H'->H' a=some (.lst (rs.map V.ref))->rs.length=n->(∀j b,rs[j]? =some b->H' b=some (.lst ((kd j).map λi=>V.int (i:Nat))))->bYf n L D kd->Q (.ref a) H')
inductive aWh(T:Nat)(vs:List V)(H:Hp)(Q:VK)(_:XK):Prop|mk (la da:Nat) (n:Nat) (L:Nat->Option Nat) (rk:Nat->Nat) (D:Nat->Int) (i:Nat) (_:vs= [.ref la,.ref da,.int (i:Nat)]) (_:H la=some (.lst (vZ n L))) (_:H da=some (.lst (qW n D))) (_:Fm.Ok n L rk) (_:n<=63) (_:i<n) (_:wF T H) (_:∀ (H':Hp)(r:Nat)(told:List Nat),(∀b u,(∀ps,u≠HO.tbl ps)->H b=some u->b≠r)->x3 H H'->wF T H'->H' r=some (.lst (told.map λi=>V.int (i:Nat)))->(told.Pairwise λx y=>jL (Fm.rd L D rk x) (Fm.rd L D rk y)=true)->(∀k,k∈told↔k<n/\Fm.tp L rk k=Fm.tp L rk i)->Q (.ref r) H')
section
variable {K:bYM}
def bZC:yN ["links","number","top"] ["links","number"] (yH bQm):=scM
def bX2(T:vJ mg)(F:Fun K "top_of" "top_of" bQm f fd):xE P w K mg base CX0 1 f fd ["links","number"] (bKj K):=by
 have u:=bZC;refine F.ok (k:=0) u (λv A outer s B C Q E D h=>?_);obtain⟨a,n,L,b,i,rfl,o,r,x,q⟩:=h;refine⟨_,(yC (yU (i:=2) (pv 1)) (yC (uC cQz (yM wA (yL yK (pv 0) (pv 2)) x6) (yF (yU (i:=2) (yL yK (pv 0) (pv 2))))) (yF (yP (pv 2))))),?_⟩;refine⟨_,rfl,?_⟩;refine⟨λm σ H=>∃t:Nat,σ= [some (.ref a),some (.int (i:Nat)),some (.int (t:Nat))]/\H=B/\t<n/\Fm.tp L b t=Fm.tp L b i/\m=b t,⟨b i,i,rfl,rfl,x,rfl,rfl⟩,?_⟩;rintro m σ H ⟨t,rfl,rfl,e,c,rfl⟩;refine⟨_,rfl,_,rfl,a,_,_,_,rfl,rfl,o,yT (jM e),rfl,_,rfl,?_⟩;cases hl:L t with
 |none=>refine onF rfl ⟨_,rfl,?_⟩;rw[Fm.wC hl]at c;rw[c];exact q
 |some j=>obtain⟨y,g⟩:=r.lt t j e hl;refine onT rfl ⟨λd l=>∃p,p<b t/\∃t:Nat,d= [some (.ref a),some (.int (i:Nat)),some (.int (t:Nat))]/\l=H/\t<n/\Fm.tp L b t=Fm.tp L b i/\p=b t,λd l z=>z,?_⟩;refine⟨_,rfl,_,rfl,a,_,_,_,rfl,rfl,o,yT (jM e),?_⟩;rw[hl];exact⟨b j,g,j,rfl,rfl,y,by rw[<- c,Fm.uI r e hl],rfl⟩
def bKa:yN ["links","dates","answers","letter"] ["links","dates"] (yH aJ6):=scM
def bWK:xN ["links","dates","answers","letter"] (yH aJ6) "link" [] [] (lsN [(".0",.local),("link",.local)]):=
 lcM
def bJ0:xN ["links","dates","answers","letter"] (yH aJ6) "n" ["dates"] [1] (lsN [("n",.local),("dates",.free)]):=
 lcM
def bWR{oc:bYL}{od an:Option Nat}{b1:Array (Option bYL)}{kV a2 pm ct:bYL}(T:vJ mg)(C:cXR base c Tb)(hB:base.BuiltinsAt mg Tb) (lk:K.lookup f=some ⟨oc,od,.func (cQR "answers_to_each" "answers_to_each" (xX aJ6) (xQ aJ6) (yH aJ6) .none kV a2 pm an (.ref c) ct),b1⟩) (b0:cXu K (.ref c) "answers_to_each"=true): xE P w K mg base CX0 2 f (cQR "answers_to_each" "answers_to_each" (xX aJ6) (xQ aJ6) (yH aJ6) .none kV a2 pm an (.ref c) ct) ["links","dates"] (bV3 Tb):=by
 have sc:=bKa;refine bJR (k:=1) lk b0 sc (λvs H Q E h=>by obtain⟨S,da,n,L,rk,D,rfl,_⟩:=h;rfl) λA outer s H0 vs Q E hr h=>?_;suffices M:∃t,PSs (aXE CX0 P w K mg base ["links","dates","answers","letter"] "answers_to_each" (yH aJ6) f (.ref c) A outer s H0 E).nox (xQ aJ6) t/\t {nx:=λ_ H'=>Q .non H',rt:=Q} (start ["links","dates","answers","letter"] vs) H0 by obtain⟨t,g,v⟩:=M;exact⟨t,g.nox,v⟩
 obtain⟨S,da,n,L,rk,D,rfl,r,b4,ho,hn,hT,q⟩:=h;refine⟨_,(yC (aZY (i:=2) bWK rfl sc.nd rfl rfl (xL (pv 0)) (λ_ _ _ _ _=>wK) (λ_ _ _ _ _=>(y6 yD))) (yC (zT cQz rfl (xL (aKe (qual:="answers_to_each.<locals>.<lambda>") rfl T.b_sorted rfl T.b_range (yQ yO rfl T.b_len xB (yA (pv 0) yD)) bJ0 rfl rfl rfl C hB hr rfl rfl (λ_ _ _ _ _=>rfl) (λ_ _ _ _ _ _ _=>xG (yA (yL ixK (pv 1) (pv 0)) (yA (pv 0) yD))))) (y9 (i:=3)) (yF (y7 (yM wA (yL yK (pv 0) (pv 3)) x6) (yF (yY (vM cQa cQh cQi xD (yL yK (pv 2) (yL yK (pv 0) (pv 3))) (yA (pv 3) yD)))) yS))) (yF (yP (pv 2))))),?_⟩;have B:(vZ n L).length=n:=by simp[vZ]
 refine⟨_,rfl,S,rfl,⟨_,SqL.of r⟩,λa ha=>aWN (SqL.of r) ha (by omega) λH1 d X hD a6 nd y=>?_⟩;rw[B]at a6;dsimp only[yW];have a1:=X _ _ r;have Z:=X _ _ b4;have b3:wF Tb H1:=by
  rcases hT with t|⟨c',t1,t2⟩
  ·exact .inl (X _ _ t)
  ·exact .inr ⟨c',X _ _ t1,X _ _ t2⟩
 refine⟨_,rfl,S,_,rfl,.inl (SqL.of a1),?_⟩;rw[B];refine⟨n,rfl,by omega,b3,λi=>(D i,(i:Int)),λi j _ _ z=>?_,λi H3 O k3 t3 R hR=>?_,λH5 l out k5 t5 nl I a7 h5=>⟨l,rfl,⟨_,SqL.of h5⟩,?_⟩⟩
 ·have:=congrArg Prod.snd z;simp only at this;omega
 ·refine⟨_,rfl,_,rfl,da,_,_,_,rfl,rfl,SqL.of (k3.lst Z),yT (aWA O),_,rfl,z2,λp hp=>hR p _ (yG hp _).t ?_ yB⟩;rcases t3 with t|⟨_,t,_⟩
  ·rw[yI (yJ t hp)]
  ·rw[yI (yJ t hp)]
 ·have hm:∀i∈out,i<n:=λi O=>cQn.mp (I.mem_iff.mp O);have kk:x3 H0 H5:=X.t.trans k5;have nr:∀b o,H0 b=some o->b∉d:=λb o e z=>by rw[(y b z).2.1]at e;cases e
  have r5:∀b∈d,H5 b=some (.lst []):=λb u=>k5.lst (y b u).1;have nT:Tb∉d:=λz=>by
   have e:=r5 _ z;rcases t5 with t|⟨_,t,_⟩
   ·rw[t]at e;cases e
   ·rw[t]at e;cases e
  have b2:l∉d:=λz=>by rw[(y l z).1]at nl;cases nl
  have Y:a∉d:=λz=>(y a z).2.2 rfl;have a3:H5 a=some (.lst (d.map V.ref)):=k5.lst hD;refine zJ (xs:=out.map λi=>V.int (i:Nat)) (λt σ H=>∃lt,σ= [some (.ref S),some (.ref da),some (.ref a),lt]/\(∀b o,H5 b=some o->b∉d->H b=some o)/\
   ∀j b,d[j]? =some b->H b=some (.lst (((out.take t).filter λi=>decide (L i=some j)).map λi=>V.int (i:Nat)))) ?_ ?_ ?_ ?_
  ·exact⟨none,rfl,λb o e _=>e,λj b u=>r5 b (bY3 u)⟩
  ·rintro t σ H ht ⟨lt,rfl,g,v⟩;exact SqL.of (g _ _ h5 b2)
  ·rintro t x σ H M ⟨lt,rfl,g,v⟩;rw[bY5]at M;cases he:out[t]? with
   |none=>rw[he]at M;cases M
   |some i=>
    rw[he]at M;cases M;have O:=hm i (bY3 he);have a5:out.take (t+1)=out.take t++ [i]:=by rw[cQN,he];rfl
    have G:H S=some (.lst (vZ n L)):=g _ _ (kk.lst r) (nr _ _ r);have a9:H a=some (.lst (d.map V.ref)):=g _ _ a3 Y;dsimp only[yW];refine⟨_,rfl,_,rfl,S,_,_,_,rfl,rfl,SqL.of G,yT (jM O),rfl,_,rfl,?_⟩;cases hl:L i with
    |none=>
     refine onF rfl ⟨_,rfl,g,λj b u=>?_⟩;rw[v j b u,a5,cQW];have: [i].filter (λi=>decide (L i=some j))= []:=by simp[hl]
     rw[this,cQO]
    |some j=>
     obtain⟨hj,_⟩:=ho.lt i j O hl;have N:j<d.length:=by omega
     have u:=bYK N;have a0:=v j _ u;refine onT rfl ?_;refine⟨_,rfl,_,rfl,_,rfl,S,_,_,_,rfl,rfl,SqL.of G,yT (jM O),?_⟩;rw[hl];refine⟨a,_,_,.ref d[j],rfl,rfl,SqL.of a9,yT (by rw[bY5,u];rfl),.inl ⟨rfl,_,SqL.of a0⟩,_,rfl,d[j],_,_,rfl,rfl,a0,zlt ?_,_,rfl,λb o e a4=>?_,λU b m=>?_⟩
     ·rw[bYP];have:=cQL (λi=>decide (L i=some j)) (out.take t);have h3:=List.length_take_le t out;have h4:out.length=n:=by rw[I.length_eq,cQE]
      have h5:(out.take t).length<=out.length:=by rw[cQ4];omega
      omega
     ·rw[yI (λz=>a4 (by rw[z];exact cXQ N))];exact g b o e a4
     ·rw[a5,cQW];by_cases J:U=j
      ·subst J;rw[u]at m;cases m;rw[yB];have: [i].filter (λi=>decide (L i=some U))= [i]:=by simp[hl]
       rw[this,cQ5];rfl
      ·have a8:b≠d[j]:=λz=>by
        have h6:U<d.length:=(bYW.mp m).1;have h7:d[U]=b:=(bYW.mp m).2;exact J ((cXA (h₀:=h6) (h₁:=N) nd).mp (h7.trans z))
       rw[yI a8,v U b m];have: [i].filter (λi=>decide (L i=some U))= []:=by simp[hl,cQu J]
       rw[this,cQO]
  ·rintro σ H ⟨lt,rfl,g,v⟩;rw[bYP,cQI]at v;refine⟨_,rfl,q H a d (λj=>out.filter λi=>decide (L i=some j)) (λb o nt e=>g b o (kk b o nt e) (nr b o e)) ?_ (g _ _ a3 Y) a6 v ⟨λj i=>?_,λj=>?_⟩⟩
   ·rcases t5 with t|⟨c',t1,t2⟩
    ·exact .inl (g _ _ t nT)
    ·exact .inr ⟨c',g _ _ t1 nT,g _ _ t2 λz=>by rw[r5 _ z]at t2;cases t2⟩
   ·rw[cQT,I.mem_iff,cQn,decide_eq_true_eq]
   ·exact(a7.imp λh=>by simpa using h).sublist cXN
end
def aWK{n:Nat}{L:Nat->Option Nat}{D:Nat->Int}{a:Nat->List Nat}(h:bYf n L D a)(j:Nat):(a j).length<=n:=
 Fm.wP ((h.ord j).imp λ{x y} e z=>by rw[z,Stree.wZ]at e;cases e) λx b=>((h.mem j x).mp b).1
def bWe{n:Nat}{L:Nat->Option Nat}{D:Nat->Int}{rk:Nat->Nat}{a:Nat}{b nx:List Nat}(W:Fm.aJm n L D rk a b nx):nx.length<=n:=
 Fm.wP (W.aa.imp λ{x y} e z=>by have:=e x (List.prefix_refl _);rw[z,Stree.vQ]at this;cases this) λx c=>(W.al x c).1
section
variable {K:bYM}
def bQC:yN ["links","dates","number","answers","told","ahead","letter"] ["links","dates","number"] (yH aVf):=scM
def aYP(T:vJ mg)(g:FnG P w K mg base 2 "answers_to_each" ["links","dates"] (bV3 Tb))(p:FnG P w K mg base 2 "top_of" ["links","number"] (bKj K))(F:Fun K "thread" "thread" aVf f fd): xE P w K mg base CX0 3 f fd ["links","dates","number"] (aWh Tb):=by
 have sc:=bQC;refine F.ok (k:=2) sc (λa5 A outer s H0 vs Q E hr h=>?_);obtain⟨la,da,n,L,y,D,i,rfl,Y,a3,ho,hn,hi,hT,q⟩:=h;refine⟨_,(yC (yU (i:=3) (xJ g hr rfl (yA (pv 0) (yA (pv 1) yD)))) (yC (yU (i:=4) (y6 yD)) (yC (yU (i:=5) (y6 (yA (xJ p hr rfl (yA (pv 0) (yA (pv 2) yD))) yD))) (yC (uC cQz (yM aXg (yQ yO rfl T.b_len xB (yA (pv 5) yD)) yE) (yC (yU (i:=6) (aYV cQa cJr cJs aYv (pv 5))) (yC (yY (vM cQa cQh cQi xD (pv 4) (yA (pv 6) yD))) (yF (yY (vM cQa PySem.F.slot_list_extend PySem.F.type_list_extend aYu (pv 5) (yA (yL yK (pv 3) (pv 6)) yD))))))) (yF (yP (pv 4))))))),?_⟩;refine⟨_,rfl,_,rfl,la,da,n,L,y,D,rfl,Y,a3,ho,hn,hT,λO a rs kd k1 t1 ha a6 a4 hk=>?_⟩;dsimp only[yW];refine⟨z0,λx N=>?_⟩;dsimp only[yW];have k2:=yG N (.lst []);refine⟨_,rfl,_,rfl,la,n,L,y,i,rfl,SqL.of (k2 _ _ (k1.lst Y)),ho,hi,z1,λo J=>?_⟩;dsimp only[yW];have U:O o=none:=k2.fresh J;have B:x≠o:=yJ yB J;have k3:xC O (upd (upd O x (.lst [])) o (.lst [V.int (Fm.tp L y i:Nat)])):=k2.trans (yG J _);refine⟨λm σ H=>∃ (c I:List Nat)(lt:Option V),σ= [some (.ref la),some (.ref da),some (.int (i:Nat)),some (.ref a),some (.ref x),some (.ref o),lt]/\xC O H/\H x=some (.lst (c.map λi=>V.int (i:Nat)))/\
   H o=some (.lst (I.map λi=>V.int (i:Nat)))/\Fm.aJm n L D y (Fm.tp L y i) c I.reverse/\m=n - c.length,
  ⟨n,[],[Fm.tp L y i],none,rfl,k3,by rw[yI B];exact yB,yB,Fm.aJm.start ho hi,by simp⟩,?_⟩
 rintro m σ H ⟨c,I,lt,rfl,r,a0,C,W,rfl⟩;refine⟨_,rfl,o,_,rfl,.inl (SqL.of C),_,_,rfl,rfl,_,rfl,?_⟩;rcases List.eq_nil_or_concat I with rfl|⟨d,v,rfl⟩
 ·refine onF rfl ⟨_,rfl,q H x c (λb u n e=>yJ (k1 b u n e) N) (k1.trans r.t) ?_ a0 W.tt λk=>W.done k⟩;rcases t1 with t|⟨c',t1,t2⟩
  ·exact .inl (r _ _ t)
  ·exact .inr ⟨c',r _ _ t1,r _ _ t2⟩
 ·rw[List.concat_eq_append]at C W ⊢;have S:decide ((((d++ [v]).map λi=>V.int (i:Nat)).length:Int) > 0)=true:=by
   refine decide_eq_true ?_;rw[bYP,bY8,cQY];omega
  refine onT S ⟨λX H'=>∃m',m'<n - c.length/\∃ (c I:List Nat)(lt:Option V),X= [some (.ref la),some (.ref da),some (.int (i:Nat)),some (.ref a),some (.ref x),some (.ref o),lt]/\xC O H'/\H' x=some (.lst (c.map λi=>V.int (i:Nat)))/\
   H' o=some (.lst (I.map λi=>V.int (i:Nat)))/\Fm.aJm n L D y (Fm.tp L y i) c I.reverse/\m'=n - c.length,λX H' z=>z,?_⟩
  have G:((d++ [v]).map λi=>V.int (i:Nat))[((d++ [v]).map λi=>V.int (i:Nat)).length - 1]? =some (V.int (v:Nat)):=by simp
  have M:((d++ [v]).map λi=>V.int (i:Nat)).dropLast=d.map λi=>V.int (i:Nat):=by simp
  refine⟨_,rfl,.inl ⟨rfl,_,SqL.of C⟩,o,_,_,rfl,rfl,C,G,?_⟩;rw[M];dsimp only[yW];have W':Fm.aJm n L D y (Fm.tp L y i) c (v::d.reverse):=by
   have:(d++ [v]).reverse=v::d.reverse:=by simp
   rw[this]at W;exact W
  have hv:=(W'.al v bY0).1;have W2:=W'.step ho (z9:=(kd v).reverse) (λj=>by rw[List.mem_reverse];exact hk.mem v j) (by rw[List.pairwise_reverse];exact hk.ord v);have l1:=W'.len;have l2:=bWe W';have l3:=aWK hk v;have l4:=W2.len;rw[cQK,List.length_reverse]at l2;rw[bY8,cQY]at l4;have R:upd H o (.lst (d.map λi=>V.int (i:Nat))) x=some (.lst (c.map λi=>V.int (i:Nat))):=by rw[yI B];exact a0
  show aVv _ _ _ _;refine⟨_,rfl,.inl ⟨rfl,_,SqL.of R⟩,_,rfl,x,_,_,rfl,rfl,R,zlt (by rw[bYP];omega),?_⟩;have Z:upd (upd H o (.lst (d.map λi=>V.int (i:Nat)))) x (.lst ((c.map λi=>V.int (i:Nat))++ [V.int (v:Nat)])) o=some (.lst (d.map λi=>V.int (i:Nat))):=by rw[yI (cQu B)];exact yB
  have k6:xC O (upd (upd H o (.lst (d.map λi=>V.int (i:Nat)))) x (.lst ((c.map λi=>V.int (i:Nat))++ [V.int (v:Nat)]))):=zX (zX r U) N;have a1:v<rs.length:=by omega
  have hb:=bYK a1;have a2:=k6 _ _ (a4 v _ hb);refine⟨_,rfl,.inl ⟨rfl,_,SqL.of Z⟩,_,rfl,_,rfl,a,_,_,.ref rs[v],rfl,rfl,SqL.of (k6 _ _ ha),yT (by rw[bY5,hb];rfl),o,rs[v],_,_,rfl,rfl,Z,a2,zn (l:=(d.map λi=>V.int (i:Nat))++((kd v).map λi=>V.int (i:Nat))) (by rw[bY8,bYP,bYP];omega) |> λz=>by rw[bY8]at z;exact z,?_⟩;refine⟨n - (c.length+1),by omega,c++ [v],d++kd v,some (.int (v:Nat)),rfl,zX k6 U,?_,?_,?_,by rw[bY8,cQY]⟩
  ·rw[yI B,yB,cQ5];rfl
  ·rw[yB,cQ5]
  ·rw[List.reverse_append];exact W2
end
end Thr
namespace Desk
open PySem L2 PyProof.Rows
open Bk (Row Rows)
def aZB(x:Str):Stmt->Bool
 |.FunctionDef n _ _ _ _ _ _ _ _ _=>n==x
 |_=>false
def bKS(x:Str):Stmt->Bool
 |.ClassDef n _ _ _ _ _ _ _ _ _ _=>n==x
 |_=>false
def bJI:Stmt->List Stmt
 |.ClassDef _ _ _ b _ _ _ _ _ _ _=>b
 |_=> []
abbrev text:List Stmt:=PySem.Challenge.pw_letterdesk_k06_whole_waiting_and_overdue.main.body
def xF(x:Str):Stmt:=(text.find? (aZB x)).getD (.Pass ⟨0,0,0,0⟩)
def xI(c m:Str):Stmt:=((bJI ((text.find? (bKS c)).getD (.Pass ⟨0,0,0,0⟩))).find? (aZB m)).getD (.Pass ⟨0,0,0,0⟩)
def xB:cQw "len"=some (.builtin "len"):=dk
def vA:cQw "sorted"=some (.builtin "sorted"):=dk
def z6:cQw "list"=some (.type "list"):=dk
structure vJ(mg:Str->Option bYL):Prop where
 b_len:mg "len"=none
 b_sorted:mg "sorted"=none
 b_list:mg "list"=none
structure Cl(K:bYM)(CB CL:Nat):Prop where
 b:Cls K CB
 l:Cls K CL
 letters:wL K CB "letters"
 shut:wL K CB "shut"
 number:wL K CL "number"
 way:wL K CL "way"
 day:wL K CL "day"
 partner:wL K CL "partner"
 term:wL K CL "term"
 link:wL K CL "link"
 file:wL K CL "file"
 copies:wL K CL "copies"
 void:wL K CL "void"
abbrev w6:Option Nat->V:=Thr.w6
def Q0(r:Row):Int:=if r.void then 0 else r.term
def X2(r:Row):V:=if r.void then .non else .str r.place
def aZK(i:Nat)(r:Row)(c:Nat):List (Str×V):=
 [("number",.int (i:Nat)),("way",.str r.way),("day",.int r.date),("partner",.str r.partner),("term",.int (Q0 r)),("link",w6 r.link),("file",X2 r),("copies",.ref c),("void",.bl r.void)]
def aWo(CL:Nat)(H:Hp)(b:Nat)(i:Nat)(r:Row)(c:Nat):Prop:=∃a,H b=some (.ins CL a (aZK i r c))
def stV(r:Row):List V:= [.str r.way,.int r.date,.str r.partner,.int (Q0 r),w6 r.link,X2 r]
inductive bQO(CL:Nat)(vs:List V)(H:Hp)(Q:VK)(_:XK):Prop|mk (x dx:Nat) (i:Nat) (way:Str) (d:Int) (who:Str) (t:Int) (_:vs= [.ref x,.int (i:Nat),.str way,.int d,.str who,.int t]) (_:H x=some (.ins CL dx [])) (_:∀ (c:Nat)(H':Hp),H c=none->H' x=some (.ins CL dx (aZK i ⟨way,d,who,t,none,"",false,[]⟩ c))->H' c=some (.lst [])->(∀b,b≠x->b≠c->H' b=H b)->Q .non H')
inductive aVu(CL:Nat)(vs:List V)(H:Hp)(Q:VK)(_:XK):Prop|mk (b:Nat) (i:Nat) (r:Row) (c:Nat) (_:vs= [.ref b]) (_:aWo CL H b i r c) (_:∀t,H t=none->Q (.ref t) (upd H t (.tup (stV r))))
inductive bQI(CL:Nat)(vs:List V)(H:Hp)(Q:VK)(_:XK):Prop|mk (b b2:Nat) (i j:Nat) (r r2:Row) (c c2:Nat) (_:vs= [.ref b,.ref b2]) (_:aWo CL H b i r c) (_:aWo CL H b2 j r2 c2) (_:Q (.bl (decide (r2.link=some i))) H)
inductive bJo(CL:Nat)(vs:List V)(H:Hp)(Q:VK)(_:XK):Prop|mk (b:Nat) (i:Nat) (r:Row) (c:Nat) (who:Str) (_:vs= [.ref b,.str who]) (_:aWo CL H b i r c) (_:H c=some (.lst (r.copies.map V.str))) (_:Q (.bl (decide (who=r.partner) || r.copies.contains who)) H)
inductive bJv(CL:Nat)(vs:List V)(H:Hp)(Q:VK)(_:XK):Prop|mk (b dx:Nat) (i:Nat) (r:Row) (c:Nat) (_:vs= [.ref b]) (_:H b=some (.ins CL dx (aZK i r c))) (_:Q .non (upd H b (.ins CL dx (aZK i {r with link:=none,void:=true} c))))
inductive bQQ(vs:List V)(H:Hp)(Q:VK)(_:XK):Prop|mk (way:Str) (_:vs= [.str way]) (_:Q (.str (Bk.uY way)) H)
section
variable {K:bYM}
abbrev bQe:Stmt:=xI "Letter" "__init__"
abbrev bQj:Stmt:=xI "Letter" "state"
abbrev aY6:Stmt:=xI "Letter" "is_answered_by"
abbrev bVA:Stmt:=xI "Letter" "has_gone_to"
abbrev bVJ:Stmt:=xI "Letter" "make_void"
abbrev bQf:Stmt:=xF "other_way"
def bZu:yN ["self","number","way","day","partner","term"] ["self","number","way","day","partner","term"] (yH bQe):=scM
def bXU(T:Cl K CB CL)(F:Fun K "__init__" "Letter.__init__" bQe f fd):xE P w K mg base CX0 (n+1) f fd ["self","number","way","day","partner","term"] (bQO CL):=by
 have o:=bZu;refine F.ok (k:=n) o (λr A outer s H z Q E B h=>?_);obtain⟨x,e,i,m,d,u,t,rfl,v,q⟩:=h;refine⟨_,(yC (zQ (pv 0) (pv 1) rfl) (yC (zQ (pv 0) (pv 2) rfl) (yC (zQ (pv 0) (pv 3) rfl) (yC (zQ (pv 0) (pv 4) rfl) (yC (zQ (pv 0) (pv 5) rfl) (yC (zQ (pv 0) x6 rfl) (yC (zQ (pv 0) yR rfl) (yC (zQ (pv 0) (y6 yD) rfl) (yF (zQ (pv 0) wQ rfl)))))))))),?_⟩;refine⟨_,rfl,_,rfl,x,CL,e,_,rfl,v,T.l,T.number,(show 0<1000 by decide),?_⟩;refine⟨_,rfl,_,rfl,x,CL,e,_,rfl,yB,T.l,T.way,(show 1<1000 by decide),?_⟩;refine⟨_,rfl,_,rfl,x,CL,e,_,rfl,yB,T.l,T.day,(show 2<1000 by decide),?_⟩;refine⟨_,rfl,_,rfl,x,CL,e,_,rfl,yB,T.l,T.partner,(show 3<1000 by decide),?_⟩;refine⟨_,rfl,_,rfl,x,CL,e,_,rfl,yB,T.l,T.term,(show 4<1000 by decide),?_⟩;refine⟨_,rfl,x,CL,e,_,rfl,yB,T.l,T.link,(show 5<1000 by decide),?_⟩;refine⟨_,rfl,x,CL,e,_,rfl,yB,T.l,T.file,(show 6<1000 by decide),?_⟩;refine⟨z0,λc g=>?_⟩;have a:x≠c:=yJ yB g;refine⟨_,rfl,x,CL,e,_,rfl,(yI a).trans yB,T.l,T.copies,(show 7<1000 by decide),?_⟩;refine⟨_,rfl,x,CL,e,_,rfl,yB,T.l,T.void,(show 8<1000 by decide),?_⟩;have j:H c=none:=by simp only[yI (cQu a)]at g;exact g
 refine q c _ j yB (by rw[yI (cQu a),yI (cQu a),yB]) λb y p=>?_;simp only[yI y,yI p]
def bZz:yN ["self"] ["self"] (yH bQj):=scM
def bXZ(T:Cl K CB CL)(F:Fun K "state" "Letter.state" bQj f fd):xE P w K mg base CX0 (n+1) f fd ["self"] (aVu CL):=by
 have e:=bZz;refine F.ok (k:=n) e (λg A outer s H m Q E o h=>?_);obtain⟨b,i,r,c,rfl,⟨d,a⟩,q⟩:=h;refine⟨_,(yF (yP (xG (yA (y3 (pv 0) rfl) (yA (y3 (pv 0) rfl) (yA (y3 (pv 0) rfl) (yA (y3 (pv 0) rfl) (yA (y3 (pv 0) rfl) (yA (y3 (pv 0) rfl) yD))))))))),?_⟩;refine⟨_,rfl,b,CL,d,_,_,rfl,a,T.l,T.way,rfl,?_⟩;refine⟨_,rfl,b,CL,d,_,_,rfl,a,T.l,T.day,rfl,?_⟩;refine⟨_,rfl,b,CL,d,_,_,rfl,a,T.l,T.partner,rfl,?_⟩;refine⟨_,rfl,b,CL,d,_,_,rfl,a,T.l,T.term,rfl,?_⟩;refine⟨_,rfl,b,CL,d,_,_,rfl,a,T.l,T.link,rfl,?_⟩;refine⟨_,rfl,b,CL,d,_,_,rfl,a,T.l,T.file,rfl,?_⟩;exact⟨by show 6<=cQd;decide,λt j=>q t j⟩
def aJD{o:Option Nat}{m:Nat}:decide (w6 o=V.int (m:Nat))=decide (o=some m):=by
 cases o with
 |none=>rfl
 |some j=>show decide (V.int (j:Nat)=V.int (m:Nat))=decide (some j=some m);rw[Bool.eq_iff_iff];simp;omega
def bZl:yN ["self","other"] ["self","other"] (yH aY6):=scM
def bXL(T:Cl K CB CL)(F:Fun K "is_answered_by" "Letter.is_answered_by" aY6 f fd):xE P w K mg base CX0 (n+1) f fd ["self","other"] (bQI CL):=by
 have e:=bZl;refine F.ok (k:=n) e (λg A outer s H u Q E v h=>?_);obtain⟨b,o,i,j,r,p,c,x,rfl,⟨t,m⟩,⟨a,d⟩,q⟩:=h;refine⟨_,(yF (yP (zR zI (y3 (pv 1) rfl) (y3 (pv 0) rfl)))),?_⟩;refine⟨_,rfl,o,CL,a,_,_,rfl,d,T.l,T.link,rfl,?_⟩;refine⟨_,rfl,b,CL,t,_,_,rfl,m,T.l,T.number,rfl,?_⟩;rw[<- aJD]at q;refine⟨?_,q⟩;cases p.link<;> rfl
def wX(x:Str):∀ns:List Str,inV (.str x) (ns.map V.str)=ns.contains x
 |[]=>rfl
 |n::r=>by have a:=wX x r;unfold inV at a ⊢;rw[cQy,cX5,a,cX8];congr 1;show(n==x)=(x==n);rw[Bool.eq_iff_iff,beq_iff_eq,beq_iff_eq];exact eq_comm
def aZw:∀ns:List Str,(ns.map V.str).all J9=true
 |[]=>rfl
 |n::r=>by rw[cQy,cZZ,aZw r];rfl
def bVN:yN ["self","person"] ["self","person"] (yH bVA):=scM
def bVb(T:Cl K CB CL)(F:Fun K "has_gone_to" "Letter.has_gone_to" bVA f fd):xE P w K mg base CX0 (n+1) f fd ["self","person"] (bJo CL):=by
 have j:=bVN;refine F.ok (k:=n) j (λo A outer s H t Q E u h=>?_);obtain⟨b,i,r,c,a,rfl,⟨e,d⟩,m,q⟩:=h;refine⟨_,(yF (yP (bWZ (zR zI (pv 1) (y3 (pv 0) rfl)) (aZU (zR vD (pv 1) (y3 (pv 0) rfl)))))),?_⟩;refine⟨_,rfl,_,rfl,b,CL,e,_,_,rfl,d,T.l,T.partner,rfl,rfl,?_⟩;have p:decide (V.str a=V.str r.partner)=decide (a=r.partner):=by rw[Bool.eq_iff_iff];simp
 refine⟨_,rfl,?_⟩;rw[p];cases g:decide (a=r.partner)with
 |true=>rw[g,Bool.true_or]at q;exact onT rfl q
 |false=>rw[g,Bool.false_or]at q;refine onF rfl ⟨_,rfl,_,rfl,b,CL,e,_,_,rfl,d,T.l,T.copies,rfl,c,_,rfl,.inl (SqL.of m),rfl,aZw _,?_⟩;rw[if_neg (by decide),wX];exact q
def bVY:yN ["self"] ["self"] (yH bVJ):=scM
def bVn(T:Cl K CB CL)(F:Fun K "make_void" "Letter.make_void" bVJ f fd):xE P w K mg base CX0 (n+1) f fd ["self"] (bJv CL):=by
 have d:=bVY;refine F.ok (k:=n) d (λe A outer s H j Q E m h=>?_);obtain⟨b,a,i,r,c,rfl,g,q⟩:=h;refine⟨_,(yC (zQ (pv 0) wQ rfl) (yC (zQ (pv 0) x6 rfl) (yC (zQ (pv 0) x6 rfl) (yF (zQ (pv 0) yE rfl))))),?_⟩;refine⟨_,rfl,b,CL,a,_,rfl,g,T.l,T.void,(show 9<1000 by decide),?_⟩;refine⟨_,rfl,b,CL,a,_,rfl,yB,T.l,T.link,(show 9<1000 by decide),?_⟩;refine⟨_,rfl,b,CL,a,_,rfl,yB,T.l,T.file,(show 9<1000 by decide),?_⟩;refine⟨_,rfl,b,CL,a,_,rfl,yB,T.l,T.term,(show 9<1000 by decide),?_⟩;rw[jD,jD,jD];exact q
def bZv:yN ["way"] ["way"] (yH bQf):=scM
def bXV(F:Fun K "other_way" "other_way" bQf f fd):xE P w K mg base CX0 (n+1) f fd ["way"] bQQ:=by
 have b:=bZv;refine F.ok (k:=n) b (λc A outer s H g Q E e h=>?_);obtain⟨a,rfl,q⟩:=h;refine⟨_,(yF (yP (aVU (yM zI (pv 0) yR) yR yR))),?_⟩;unfold Bk.uY at q;have d:decide (V.str a=V.str "in")=decide (a="in"):=by rw[Bool.eq_iff_iff];simp
 refine⟨_,rfl,rfl,_,rfl,?_⟩;rw[d];by_cases hw:a="in"
 ·rw[if_pos hw]at q;exact onT (decide_eq_true hw) q
 ·rw[if_neg hw]at q;exact onF (decide_eq_false hw) q
end
end Desk
namespace L2
open PySem PySem.Spec PyProof.Rows
section
variable {κ:Type} [DecidableEq κ]
def aQd(kvs:List (κ×V))(k:κ):Option V:=(kvs.find? λa=>decide (a.1=k)).map (·.2)
def aJ3(kvs:List (κ×V))(k:κ)(v:V):List (κ×V):=
 if(kvs.any λa=>decide (a.1=k))=true then kvs.map (λa=>if a.1=k then(a.1,v)else a)else kvs++ [(k,v)]
def wE{p:κ×V}{r:List (κ×V)}{k:κ}(e:p.1=k):aQd (p::r) k=some p.2:=by simp[aQd,cZa,e]
def wD{p:κ×V}{r:List (κ×V)}{k:κ}(e:¬p.1=k):aQd (p::r) k=aQd r k:=by simp[aQd,cZa,e]
def aQe(k:κ):∀kvs:List (κ×V),(kvs.any λa=>decide (a.1=k))=(aQd kvs k).isSome
 |[]=>rfl
 |p::r=>by
  rw[cX5];by_cases e:p.1=k
  ·simp only[wE e,decide_eq_true e,Bool.true_or,Option.isSome_some]
  ·rw[wD e,decide_eq_false e,Bool.false_or];exact aQe k r
def aWl(k j:κ)(y:V):∀kvs:List (κ×V),aQd (kvs.map λa=>if a.1=k then(a.1,y)else a) j=(aQd kvs j).map λx=>if j=k then y else x
 |[]=>rfl
 |p::r=>by
  have b:=aWl k j y r;rw[cQy];by_cases h:p.1=k
  ·rw[if_pos h];by_cases e:p.1=j
   ·rw[wE (p:=(p.1,y)) e,wE e,Option.map_some,if_pos (e.symm.trans h)]
   ·rw[wD (p:=(p.1,y)) e,wD e,b]
  ·rw[if_neg h];by_cases e:p.1=j
   ·rw[wE (p:=p) e,wE e,Option.map_some,if_neg (λz=>h (e.trans z))]
   ·rw[wD (p:=p) e,wD e,b]
def aJk(k j:κ)(y:V):∀kvs:List (κ×V),aQd kvs k=none->aQd (kvs++ [(k,y)]) j=if j=k then some y else aQd kvs j
 |[],_=>by
  by_cases e:k=j
  ·rw[if_pos e.symm];exact wE (p:=(k,y)) e
  ·rw[if_neg (λz=>e z.symm)];exact wD (p:=(k,y)) e
 |p::r,hn=>by
  rw[cJn];have a:¬p.1=k:=λz=>by rw[wE z]at hn;cases hn
  rw[wD a]at hn;have b:=aJk k j y r hn;by_cases e:p.1=j
  ·rw[wE e,wE e,if_neg (λz=>a (e.trans z))]
  ·rw[wD e,wD e,b]
def bZY(kvs:List (κ×V))(k j:κ)(y:V):aQd (aJ3 kvs k y) j=if j=k then some y else aQd kvs j:=by
 unfold aJ3;by_cases a:(kvs.any λc=>decide (c.1=k))=true
 ·rw[if_pos a,aWl];rw[aQe]at a;by_cases e:j=k
  ·obtain⟨x,b⟩:=Option.isSome_iff_exists.mp a;rw[if_pos e,e,b,Option.map_some,if_pos rfl]
  ·rw[if_neg e];cases aQd kvs j with
   |none=>rfl
   |some x=>rw[Option.map_some,if_neg e]
 ·rw[if_neg a];refine aJk k j y kvs ?_;rw[aQe]at a;cases q:aQd kvs k with
  |none=>rfl
  |some x=>rw[q]at a;exact(a rfl).elim
def qI(kvs:List (κ×V))(k:κ)(v:V):(aJ3 kvs k v).length<=kvs.length+1:=by
 unfold aJ3;split
 ·rw[bYP];omega
 ·rw[bY8,cQK,cXW];omega
def aZh.isSome_eq{o:Option V}{u:Option bYL}(r:aZh o u):o.isSome=u.isSome:=by
 cases o with
 |none=>cases u with
  |none=>rfl
  |some _=>exact(show False from r).elim
 |some _=>cases u with
  |none=>exact(show False from r).elim
  |some _=>rfl
def KV.val{kvs:List (κ×V)}{vs:List (κ×bYL)}(r:KV kvs vs)(k:κ):aZh (aQd kvs k) (cZ7 vs k):=by
 unfold KV at r;induction r with
 |nil=>exact cQ9
 |@cons p q i a h t f=>
  obtain⟨d,g⟩:=h;by_cases e:p.1=k
  ·have c:q.1=k:=d.symm.trans e;have b:cZ7 (q::a) k=some q.2:=by simp[cZ7,cZa,c]
   rw[wE e,b];exact g
  ·have c:¬q.1=k:=λz=>e (d.trans z);have b:cZ7 (q::a) k=cZ7 a k:=by simp[cZ7,cZa,c]
   rw[wD e,b];exact f
def KV.any{kvs:List (κ×V)}{vs:List (κ×bYL)}(r:KV kvs vs)(k:κ):(kvs.any λa=>decide (a.1=k))=vs.any λa=>decide (a.1=k):=by
 unfold KV at r;induction r with
 |nil=>rfl
 |cons h t b=>rw[cX5,cX5,b,h.1]
def KV.repl{kvs:List (κ×V)}{vs:List (κ×bYL)}(r:KV kvs vs)(k:κ){y:V}{u:bYL}(f:zO y u): KV (kvs.map λa=>if a.1=k then(a.1,y)else a) (vs.map λa=>if a.1=k then(a.1,u)else a):=by
 unfold KV at r ⊢;induction r with
 |nil=>exact .nil
 |@cons p q g i h t d=>
  rw[cQy,cQy];refine .cons ?_ d;obtain⟨b,c⟩:=h;by_cases e:p.1=k
  ·rw[if_pos e,if_pos (b.symm.trans e)];exact⟨b,f⟩
  ·rw[if_neg e,if_neg (λz=>e (b.trans z))];exact⟨b,c⟩
def KV.put{kvs:List (κ×V)}{vs:List (κ×bYL)}(r:KV kvs vs)(k:κ){y:V}{u:bYL}(a:zO y u):KV (aJ3 kvs k y) (stored vs k u):=by
 unfold aJ3 stored;rw[r.any k];by_cases e:(vs.any λb=>decide (b.1=k))=true
 ·rw[if_pos e,if_pos e];exact r.repl k a
 ·rw[if_neg e,if_neg e];exact cZI r ⟨rfl,a⟩
def KV.length{kvs:List (κ×V)}{vs:List (κ×bYL)}(r:KV kvs vs):kvs.length=vs.length:=cXt r
end
def bXr{P:bY7}{w:cQf}{k:Key}{u:bYL}(r:zO (kV k) u):(zD P w).is k u=true:=by
 cases k with
 |inl i=>obtain⟨t,e⟩:=(show ∃t,u=Value.int i t from r);subst e;exact aJL P w i t
 |inr x=>obtain⟨t,e⟩:=(show ∃t,u=Value.str x t from r);subst e;exact qJ P w x t
def aZD{P:bY7}{w:cQf}:∀ {a:List Key} {us:List bYL},xW (a.map kV) us->ItemsAre (zD P w) a us
 |[],_,r=>by rw[List.map_nil]at r;cases r;exact .nil
 |k::a,_,r=>by
  rw[cQy]at r;cases r with
  |cons h t=>exact .cons (bXr h) (aZD t)
abbrev KT(H:Hp):List (List Key×V)->List (List Key×Addr×bYL)->Prop:=cQA λp q=>p.1=q.1/\H q.2.1=some (.tup (p.1.map kV))/\zO p.2 q.2.2
def KT.val{H:Hp}{kvs:List (List Key×V)}{xs:List (List Key×Addr×bYL)}(r:KT H kvs xs)(k:List Key):aZh (aQd kvs k) ((atKey xs k).map (·.2)):=by
 induction r with
 |nil=>exact cQ9
 |@cons p q i a h t g=>
  obtain⟨d,_,f⟩:=h;by_cases e:p.1=k
  ·have c:q.1=k:=d.symm.trans e;have b:atKey (q::a) k=some q.2:=by simp[atKey,cZa,c]
   rw[wE e,b];exact f
  ·have c:¬q.1=k:=λz=>e (d.trans z);have b:atKey (q::a) k=atKey a k:=by simp[atKey,cZa,c]
   rw[wD e,b];exact g
def KT.repl{H:Hp}{kvs:List (List Key×V)}{xs:List (List Key×Addr×bYL)}(r:KT H kvs xs)(k:List Key){y:V}{u:bYL}(g:zO y u): KT H (kvs.map λb=>if b.1=k then(b.1,y)else b) (xs.map (putAt k u)):=by
 induction r with
 |nil=>exact .nil
 |@cons p q i j h t f=>
  rw[cQy,cQy];refine .cons ?_ f;obtain⟨a,c,d⟩:=h;unfold putAt;by_cases e:p.1=k
  ·rw[if_pos e,if_pos (a.symm.trans e)];exact⟨a,c,g⟩
  ·rw[if_neg e,if_neg (λz=>e (a.trans z))];exact⟨a,c,d⟩
def KT.put{H:Hp}{kvs:List (List Key×V)}{xs:List (List Key×Addr×bYL)}(r:KT H kvs xs)(k:List Key){b:Addr}{y:V}{u:bYL}(d:H b=some (.tup (k.map kV)))(a:zO y u): KT H (aJ3 kvs k y) (storedH xs k b u):=by
 have e:(kvs.any λc=>decide (c.1=k))=(atKey xs k).isSome:=by rw[aQe,(r.val k).isSome_eq,Option.isSome_map]
 unfold aJ3 storedH;rw[e];by_cases q:(atKey xs k).isSome=true
 ·rw[if_pos q,if_pos q];exact r.repl k a
 ·rw[if_neg q,if_neg q];exact cZI r ⟨rfl,d,a⟩
def KT.keeps{H a:Hp}{kvs:List (List Key×V)}{xs:List (List Key×Addr×bYL)}(r:KT H kvs xs)(d:∀b c,H b=some (.tup c)->a b=some (.tup c)):KT a kvs xs:=
 Paired.mapP r λ_ _ z=>⟨z.1,d _ _ z.2.1,z.2.2⟩
section
variable {P:bY7}{w:cQf}{H:Hp}{h:Heap}{a:Addr}
def bW7{u:HO}(ok:HOk P w H h)(e:Rd H a u):zH P w H h a u:=e.ok ok
def bWz{kvs:List (Key×V)}(ok:HOk P w H h)(e:Rd H a (.dK kvs)):kvs.length<=cQd/\(a==cZE)=false/\∃b,KV kvs b/\h.DictOf (zD P w) a b:=
 show zH P w H h a (.dK kvs)from bW7 ok e
def bKO{kvs:List (Key×V)}(ok:HOk P w H h)(e:H a=some (.dK kvs)):kvs.length<=cQd/\(a==cZE)=false/\∃b,KV kvs b/\h.DictOf (zD P w) a b:=bWz ok (.inl e)
def aYi{c:List Key}(ok:HOk P w H h)(e:H a=some (.tup (c.map kV))):(tupleKind (zD P w)).is h c a:=by
 obtain⟨_,b,r,o,d,g,n,f⟩:=(show zH P w H h a (.tup (c.map kV))from ok a _ e);exact⟨o,b.toArray,n,d,g,f,by simpa using aZD r⟩
def bWA{kvs:List (List Key×V)}(ok:HOk P w H h)(e:Rd H a (.dT kvs)):kvs.length<=cQd/\(a==cZE)=false/\ ∃c,KT H kvs c/\h.DictOfH (tupleKind (zD P w)) a c:=by
 obtain⟨z,y,c,r,o,n,u,s,g,f,k,i⟩:=(show zH P w H h a (.dT kvs)from bW7 ok e);refine⟨z,y,c,r,o,n,u,s,g,f,k,λx b=>?_,i⟩;have all:∀ {l:List (List Key×V)} {m:List (List Key×Addr×bYL)},KT H l m->∀x∈m,(tupleKind (zD P w)).is h x.1 x.2.1:=by
  intro l m q;induction q with
  |nil=>intro x b;exact nomatch b
  |@cons p q v A d t j=>
   intro x b;rcases bYU.mp b with e|b
   ·subst e;exact aYi ok (by rw[<- d.1];exact d.2.1)
   ·exact j x b
 exact all r x b
def vK{kvs:List (List Key×V)}(ok:HOk P w H h)(e:H a=some (.dT kvs)):kvs.length<=cQd/\(a==cZE)=false/\
  ∃b,KT H kvs b/\h.DictOfH (tupleKind (zD P w)) a b:=bWA ok (.inl e)
end
def bWk(H:Hp)(a:Addr)(y:V)(r:Option V):Prop:=
 (∃kvs k,Rd H a (.dK kvs)/\y=kV k/\r=aQd kvs k)\/∃kvs k b,Rd H a (.dT kvs)/\y= .ref b/\H b=some (.tup (k.map kV))/\r=aQd kvs k
def bWl(H:Hp)(a:Addr)(y v:V)(c:Hp):Prop:=
 (∃kvs k,H a=some (.dK kvs)/\y=kV k/\kvs.length<cQd/\c=upd H a (.dK (aJ3 kvs k v)))\/
 ∃kvs k b,H a=some (.dT kvs)/\y= .ref b/\H b=some (.tup (k.map kV))/\kvs.length<cQd/\c=upd H a (.dT (aJ3 kvs k v))
def bWk.k{H:Hp}{a:Addr}{kvs:List (Key×V)}{k:Key}(e:H a=some (.dK kvs)):bWk H a (kV k) (aQd kvs k):= .inl ⟨kvs,k,.inl e,rfl,rfl⟩
def bWl.k{H:Hp}{a:Addr}{kvs:List (Key×V)}{k:Key}{v:V}(e:H a=some (.dK kvs))(hl:kvs.length<cQd):bWl H a (kV k) v (upd H a (.dK (aJ3 kvs k v))):= .inl ⟨kvs,k,e,rfl,hl,rfl⟩
section
variable {X:Cx}{pins:List (Addr×Obj)}{σ:St}{H:Hp}{s:bYO}{a:Addr}{y v:V}{u r:bYL}{o:Option V}{A:cQt}{E:bYL->bYO->Prop}
def Inv.big(I:Inv X pins σ H s):cZE<s.heap.objs.size:=by
 have h:cQj<s.heap.objs.size:=(I.mod.glob.keeps I.bk).lt;exact Nat.lt_trans (by decide) h
def bJL{Q:bYL->bYO->Prop}(n:A.units+1<cLine)(I:Inv X pins σ H s)(g:bWk H a y o)(m:zO y u)(h:∀j,Inv X pins σ H j->Q (.bool (!o.isSome)) j): bYT (bYV X.prog X.w) A (cXh .NotIn u (.ref a)) Q E s:=by
 rcases g with⟨kvs,k,e,i,l⟩|⟨kvs,k,b,e,i,p,l⟩
 ·subst i;obtain⟨z,d,r,c,f⟩:=bWz I.hok e;refine wpAny_notIn_of (bXr m) d f.mapOf ?_;rw[<- (c.val k).isSome_eq,<- l];exact h _ (I.tok _)
 ·subst i;cases (show u=Value.ref b from m);obtain⟨z,d,t,c,f⟩:=bWA I.hok e;refine wpAny_notIn_heap (tupleKind_room_in1 n) (aYi I.hok p) d f ?_;have q:=(c.val k).isSome_eq;rw[Option.isSome_map]at q;rw[<- q,<- l];exact h _ (I.tok _)
def aKW{h':Heap}{t':Nat}{c:HO}(I:Inv X pins σ H s)(g:Mut (H a))(f:cXP a s.heap h')(i:∃q,h'.get? a=some q)(d:zH X.prog X.w (upd H a c) h' a c): Inv X pins σ (upd H a c) {s with heap:=h',toks:=t'}:=
 I.write (x:=a) (e:=a) g (.inl rfl) (λb q h z=>(f.2 b h).trans z) i d
def bWy{P:bY7}{w:cQf}{d:Hp}{h':Heap}{kvs:List (Key×V)}{vs:List (Key×bYL)}(z:kvs.length<=cQd)(c:(a==cZE)=false)(b:KV kvs vs)(e:h'.DictOf (zD P w) a vs):
  zH P w d h' a (.dK kvs):=⟨z,c,vs,b,e⟩
def aKV{B:Hp}{Q:Unit->bYO->Prop}(P:A.units+1<cLine)(I:Inv X pins σ H s)(g:bWl H a y v B)(C:zO y u)(F:zO v r)(h:∀G,Inv X pins σ B G->Q () G): bYT (bYV X.prog X.w) A (setItem (.ref a) u r) Q E s:=by
 rcases g with⟨kvs,k,e,p,l,t⟩|⟨kvs,k,b,e,p,D,l,t⟩
 ·subst p t;obtain⟨z,n,L,d,o⟩:=bKO I.hok e;have j:L.length<=cQd:=by rw[<- d.length];exact z
  have hl:(aJ3 kvs k v).length<=cQd:=by have:=qI kvs k v;omega
  refine wpAny_setItem_pairs (hsz:=j) (bXr C) o λx f m=>h _ ?_;have O:∃q,x.get? a=some q:=let ⟨q,_,_,i,_⟩:=f;⟨q,i⟩;exact aKW I (by rw[e];exact cQ9) m O (bWy hl n (d.put k F) f)
 ·subst p t;cases (show u=Value.ref b from C);obtain⟨z,n,U,d,o⟩:=vK I.hok e;have j:U.length<=cQd:=by rw[<- cXt d];exact z
  have hl:(aJ3 kvs k v).length<=cQd:=by have:=qI kvs k v;omega
  refine wpAny_setItem_heap (hsz:=j) (tupleKind_room_in1 P) (aYi I.hok D) o λx f m=>h _ ?_;obtain⟨q,S,T,i,M,K,R,_,N⟩:=f;refine aKW I (by rw[e];exact cQ9) m ⟨q,i⟩ ⟨hl,n,_,(d.put k D F).keeps λc V J=>?_,q,S,T,i,M,K,R,N⟩;rw[yI (aXc J e (λz=>nomatch z))];exact J
end
section
variable {X:Cx}{pins:List (Addr×Obj)}{σ:St}{H:Hp}{s:bYO}{a:Addr}{kvs:List (Key×V)}{k:Key}{u:bYL}{A:cQt}{E:bYL->bYO->Prop}
end
def bYg(i:Expr):Prop:=∀b a,subscripted i false b a=operate [b,a] (getItem b a)
def bV5{prog:bY7}{w:cQf}{A:cQt}{E:bYL->bYO->Prop}{s:bYO}{env:Env}{value a:Expr}{pos:Pos}{T id:String}{Q:bYL->bYO->Prop} (hl:typeLookup (.type T) "__getitem__"=pure (some (.builtin id))) (k:bYg a) (h:bYT (bYV prog w) A (eval value env) (λo e=>bYT (bYV prog w) A (eval a env) (λi b=>b.TypeIs o T/\bYT (bYV prog w) A (getItem o i) Q E b) E e) E s): bYT (bYV prog w) A (eval (.Subscript value a pos) env) Q E s:=by
 refine Subscript_ (cQP h (λo e f=>cQP f (λi b c=>?_) λ_ _ x=>x) λ_ _ x=>x);obtain⟨j,c⟩:=c;unfold subscriptTail;refine bYN ?_;rw[getitemInPython_of_ne j.not_modules];refine bYN (wpAny_specialOf j hl ?_);have fin:bYT (bYV prog w) A (subscripted a false o i) (λr d=>bYT (bYV prog w) A (letTemporaryGo value o r >>=λ_=>pure r) Q E d) E b:=by rw[k o i];exact wpAny_operating (cQP c (λr d g=>bYN (wpAny_letTemporaryGo (bYR g))) λ_ _ x=>x)
 first
  |exact bYR (bYN fin)
  |exact bYN (bYR (bYN fin))
  |exact bYN fin
inductive bZL(Q:VK)(y:V)(x:V)(H2:Hp):Prop|mk (a o) (_:x= .ref a) (_:bWk H2 a y o) (_:Q (.bl (!o.isSome)) H2)
def bV7(ty td:TE):TE:=λσ H Q=>ty σ H λy a=>td σ a λx b=>bZL Q y x b
inductive bW8(D:aJn)(σ:St)(v:V)(x:V)(y:V)(H3:Hp):Prop|mk (a H4) (_:x= .ref a) (_:bWl H3 a y v H4) (_:D.nx σ H4)
def bKZ(td ty tv:TE):TS:=λD σ H=>tv σ H λv a=>td σ a λx b=>ty σ b λy c=>bW8 D σ v x y c
section
variable {X:Cx}{o i e value:Expr}{pos pos' tpos:Pos}{td ty tv:TE}
def aYU(b:X.A.units+1<cLine)(c:PE X i ty)(e:PE X o td):PC X .NotIn i o (bV7 ty td):=by
 intro pins s σ H Q I h;refine thn (c pins s σ H _ I h) λiv s1 ⟨y,H1,I1,ry,q1⟩=>thn (e pins s1 σ H1 _ I1 q1) λu s2 ⟨x,H2,I2,rx,a,ov,ex,g,q2⟩=>?_;subst ex;obtain rfl:u=Value.ref a:=rx;exact bJL b I2 g ry λf d=>⟨.bl (!ov.isSome),H2,d,rfl,q2⟩
def bVt(b:X.A.units+1<cLine)(j:PE X o td)(e:PE X i ty)(f:PE X value tv)(c:swapsWith value (some (.Subscript o i pos')) pos.line X.env=pure false): PS X (.Assign [.Subscript o i pos'] value pos) (bKZ td ty tv):=by
 intro pins s σ H D I h;refine wpAny_Assign_Subscript (thn (f pins s σ H _ I h) λr s1 ⟨v,H1,I1,rv,q1⟩=>thn (j pins s1 σ H1 _ I1 q1) λu s2 ⟨x,H2,I2,rx,q2⟩=>thn (e pins s2 σ H2 _ I2 q2) λiv s3 ⟨y,H3,I3,ry,a,H4,ex,g,q3⟩=>?_) c;subst ex;obtain rfl:u=Value.ref a:=rx;exact aKV b I3 g ry rv λk d=>⟨σ,H4,d,q3⟩
end
def bXf{P:bY7}{w:cQf}{H:Hp}(h:Heap)(a:cZE<h.objs.size):zH P w H (h.push {cls:= .type "dict",data:= .dict #[] }) h.objs.size (.dK []):=
 ⟨cQJ _,beq_eq_false_iff_ne.mpr (cQu (cQc a)),[],.nil,Heap.DictOf.new h⟩
def bKm:TE:=λ_ H Q=>∀p,H p=none->Q (.ref p) (upd H p (.dK []))
section
variable {X:Cx}{pos:Pos}
def bX8:PE X (.Dict [] [] pos) bKm:=λpins s σ H Q I h=>
 wpAny_Dict_empty ⟨.ref s.heap.objs.size,_,I.laid (a:=s.heap.objs.size) (o:= .dK []) (t':=s.toks) (λ_ _ q=>bYQ _ q) (bYS _) (bXf s.heap I.big),rfl,h _ (I.hok.fresh (bYS _))⟩
end
structure M1(X:Cx)(o:Expr)(m:Str)(apos:Pos)(e:Expr)(cpos:Pos):Prop where
 base:cZz o m X.env (eval o X.env)=eval o X.env
 few:((cXp cpos (cQr [e] X.env)).all (λx=> !x.1) && (cZX cpos (cX7 [] X.env)).all (λx=>x.1.isSome)
  && decide (([e]:List Expr).length+([]:List Keyword).length+(if([]:List Keyword).isEmpty then 0 else 1)<30))=true
 line:(apos.endLine==cpos.line)=true
 trees:cXp cpos (cQr [e] X.env)= [(false,eval e X.env)]
structure M2(X:Cx)(o:Expr)(m:Str)(apos:Pos)(e f:Expr)(cpos:Pos):Prop where
 base:cZz o m X.env (eval o X.env)=eval o X.env
 few:((cXp cpos (cQr [e,f] X.env)).all (λx=> !x.1) && (cZX cpos (cX7 [] X.env)).all (λx=>x.1.isSome)
  && decide (([e,f]:List Expr).length+([]:List Keyword).length+(if([]:List Keyword).isEmpty then 0 else 1)<30))=true
 line:(apos.endLine==cpos.line)=true
 trees:cXp cpos (cQr [e,f] X.env)= [(false,eval e X.env),(false,eval f X.env)]
section
variable {X:Cx}{pins:List (Addr×Obj)}{σ:St}{H:Hp}{s:bYO}{a:Addr}{y d:V}{u r:bYL}{o:Option V}{A:cQt}{E:bYL->bYO->Prop}
end
section
variable {X:Cx}{o e f:Expr}{apos cpos:Pos}{td ty tx:TE}
end
section
variable {X:Cx}{pins:List (Addr×Obj)}{σ:St}{H:Hp}{s:bYO}{a:Addr}{kvs:List (Key×V)}{A:cQt}{E:bYL->bYO->Prop}
end
section
variable {X:Cx}{pins:List (Addr×Obj)}{σ:St}{H:Hp}{s:bYO}{a:Addr}{y:V}{u:bYL}{A:cQt}{E:bYL->bYO->Prop}
end
end L2
namespace L2
open PySem PySem.Spec PyProof.Rows
section
variable {κ:Type} [DecidableEq κ]
end
end L2
namespace Days
open PySem L2 PyProof.Rows
def aZB(x:Str):Stmt->Bool
 |.FunctionDef n _ _ _ _ _ _ _ _ _=>n==x
 |_=>false
def xF(x:Str):Stmt:=(PySem.Challenge.pw_letterdesk_k06_whole_waiting_and_overdue.main.body.find? (aZB x)).getD (.Pass ⟨0,0,0,0⟩)
abbrev aVa:Stmt:=xF "counts"
abbrev bVF:Stmt:=xF "open_by_rest"
abbrev aXU:Stmt:=xF "closed_days"
abbrev bQh:Stmt:=xF "place_of"
def aKO:cQw "min"=some (.builtin "min"):=dk
def vA:cQw "sorted"=some (.builtin "sorted"):=dk
def bWx:cQw "set"=some (.type "set"):=dk
structure vJ(mg:Str->Option bYL):Prop where
 b_len:mg "len"=none
 b_min:mg "min"=none
 b_sum:mg "sum"=none
 b_sorted:mg "sorted"=none
 b_isinstance:mg "isinstance"=none
 b_int:mg "int"=none
 b_str:mg "str"=none
 b_bool:mg "bool"=none
 b_list:mg "list"=none
 b_tuple:mg "tuple"=none
 b_set:mg "set"=none
 b_range:mg "range"=none
 b_reversed:mg "reversed"=none
 week:∃t,mg "WEEK"=some (.int 7 t)
 opens:∃t,mg "OPEN_DAYS"=some (.int 5 t)
inductive bQP(vs:List V)(H:Hp)(Q:VK)(_:XK):Prop|mk (d) (_:vs= [.int d]) (_:Q (.bl (Dm.opn d)) H)
inductive bQR(vs:List V)(H:Hp)(Q:VK)(_:XK):Prop|mk (d) (_:vs= [.int d]) (_:Q (.int (Dm.place d)) H)
inductive aV9(K:bYM)(vs:List V)(H:Hp)(Q:VK)(_:XK):Prop|mk (a:Nat) (ns:List Int) (_:vs= [.ref a]) (_:SqL K H a (ns.map V.int)) (_:ns.length<64) (_:∀ (r:Nat)(H':Hp)(C:List Int),xC H H'->H r=none->C.Pairwise (·<·)->(∀d,d∈C↔d∈ns/\Dm.opn d=true)->C.length<=ns.length->H' r=some (.lst (C.map V.int))->Q (.ref r) H')
inductive aWb(K:bYM)(vs:List V)(H:Hp)(Q:VK)(_:XK):Prop|mk (a:Nat) (ns:List Int) (d:Int) (_:vs= [.ref a,.int d]) (_:SqL K H a (ns.map V.int)) (_:Q (.bl (Dm.cts ns d)) H)
abbrev bK0:Stmt:=xF "due_day"
abbrev bQa:Stmt:=xF "day_at"
inductive bQL(vs:List V)(H:Hp)(Q:VK)(_:XK):Prop|mk (d) (_:vs= [.int d]) (_:Q (.int (Dm.zP d)) H)
inductive bKi(K:bYM)(vs:List V)(H:Hp)(Q:VK)(_:XK):Prop|mk (a:Nat) (ns:List Int) (d t:Int) (_:vs= [.ref a,.int d,.int t]) (_:SqL K H a (ns.map V.int)) (_:ns.length<64) (_:1<=t) (_:∀ (H':Hp)(D:Int),xC H H'->Dm.Due ns d t D->Q (.int D) H')
section
variable {K:bYM}
def bVT:yN ["date"] ["date"] (yH bVF):=scM
def bVi(T:vJ mg)(F:Fun K "open_by_rest" "open_by_rest" bVF f fd):xE P w K mg base CX0 1 f fd ["date"] bQP:=by
 obtain⟨l,b⟩:=T.week;obtain⟨g,a⟩:=T.opens;have c:=bVT;refine F.ok (k:=0) c (λe A outer s H i Q E j h=>?_);obtain⟨d,rfl,q⟩:=h;refine⟨_,(yF (yP (zR vL (yV y0 (pv 0) (uB (v:= .int 7) rfl b ⟨_,rfl⟩)) (uB (v:= .int 5) rfl a ⟨_,rfl⟩)))),?_⟩;exact⟨_,rfl,_,_,rfl,rfl,(show(0:Int)<7 by decide),_,_,rfl,rfl,q⟩
def bZx:yN ["date"] ["date"] (yH bQh):=scM
def bXX(T:vJ mg)(F:Fun K "place_of" "place_of" bQh f fd):xE P w K mg base CX0 1 f fd ["date"] bQR:=by
 obtain⟨m,b⟩:=T.week;obtain⟨i,a⟩:=T.opens;have c:=bZx;refine F.ok (k:=0) c (λg A outer s H j Q E l h=>?_);obtain⟨d,rfl,q⟩:=h;refine⟨_,(yF (yP (yV x9 (yV aVP (yV X5 (pv 0) (uB (v:= .int 7) rfl b ⟨_,rfl⟩)) (uB (v:= .int 5) rfl a ⟨_,rfl⟩)) (yQ (aKR rfl) rfl T.b_min aKO (yA (yV y0 (pv 0) (uB (v:= .int 7) rfl b ⟨_,rfl⟩)) (yA (yV wU (uB (v:= .int 5) rfl a ⟨_,rfl⟩) yE) yD)))))),?_⟩;refine⟨_,rfl,_,_,rfl,rfl,⟨by decide,by decide⟩,_,_,rfl,rfl,.inr ⟨by decide,by decide⟩,_,rfl,_,_,rfl,rfl,(show(0:Int)<7 by decide),_,_,rfl,rfl,_,_,rfl,_,_,rfl,rfl,?_⟩;have e:(if 5 - 1<d % 7 then 5 - 1 else d % 7:Int)=if 4<d % 7 then 4 else d % 7:=rfl;exact q
def bQv:yN ["shut","date"] ["shut","date"] (yH aVa):=scM
def jJ(d:Int):∀ns:List Int,inV (.int d) (ns.map V.int)=ns.contains d
 |[]=>rfl
 |n::r=>by have a:=jJ d r;unfold inV at a ⊢;rw[cQy,cX5,a,cX8];congr 1;show(n==d)=(d==n);rw[Bool.eq_iff_iff,beq_iff_eq,beq_iff_eq];exact eq_comm
def uV:∀ns:List Int,(ns.map V.int).all J9=true
 |[]=>rfl
 |n::r=>by rw[cQy,cZZ,uV r];rfl
def aYI(T:vJ mg)(b:FnG P w K mg base 1 "open_by_rest" ["date"] bQP)(F:Fun K "counts" "counts" aVa f fd):xE P w K mg base CX0 2 f fd ["shut","date"] (aWb K):=by
 have e:=bQv;refine F.ok (k:=1) e (λg A outer s H m Q E i h=>?_);obtain⟨a,l,d,rfl,j,q⟩:=h;refine⟨_,(yF (yP (aVT (xJ b i rfl (yA (pv 1) yD)) (aZU (zR W7 (pv 1) (pv 0)))))),?_⟩;refine⟨_,rfl,d,rfl,_,rfl,?_⟩;unfold Dm.cts at q;cases c:Dm.opn d with
 |false=>rw[c]at q;exact q
 |true=>rw[c,Bool.true_and]at q;rw[if_pos rfl];refine⟨_,rfl,_,rfl,a,_,rfl,.inl j,rfl,uV l,?_⟩;rw[if_pos rfl,jJ];exact q
def bQu:yN ["shut"] ["shut"] (yH aXU):=scM
def aYk:xN ["shut"] (yH aXU) "date" [] [] (lsN [(".0",.local),("date",.local),("open_by_rest",.globalImplicit)]):=
 lcM
def aQi(p:Int->Bool):∀ns:List Int,((ns.map V.int).filter λv=>match v with|.int d=>p d|_=>false)=(ns.filter p).map V.int
 |[]=>rfl
 |n::r=>by have a:=aQi p r;rw[cQy,List.filter_cons,List.filter_cons,a];show(if p n=true then _ else _)=_;split<;> rfl
def aYH(T:vJ mg)(c:FnG P w K mg base 1 "open_by_rest" ["date"] bQP)(F:Fun K "closed_days" "closed_days" aXU f fd):xE P w K mg base CX0 2 f fd ["shut"] (aV9 K):=by
 have B:=bQu;refine F.ok (k:=1) B (λC A outer s H Y Q E G h=>?_);obtain⟨a,X,rfl,U,L,q⟩:=h;refine⟨_,(yF (yP (aQF aYk rfl (xL (yQ (aQ9 rfl) rfl T.b_sorted vA (yA (x5 (bQ7 rfl) rfl T.b_set bWx (yA (pv 0) yD)) yD))) (λ_ _ _ _ _=>(w7 (xZ (xJ c G rfl (yA (pv 0) yD))))) (λ_ _ _ _ _=>(pv 0))))),?_⟩;refine⟨_,rfl,a,X,rfl,U,by omega,λl x hl W t e=>?_⟩;refine⟨l,x,rfl,yB,by omega,λr S m g J=>?_⟩;refine⟨r,rfl,⟨_,SqL.of yB⟩,λD j=>?_⟩;have i:S.Pairwise (·<·):=by
  have n:S.Nodup:=(g.nodup_iff).mpr W;have p:S.Pairwise (λa b=>a<=b/\a≠b):=J.and n;exact p.imp λ⟨h1,p⟩=>by omega
 have z:(S.map V.int).length<=cQd:=by rw[bYP,g.length_eq,cQk];omega
 refine aZJ (λv=>match v with|.int d=>Dm.opn d|_=>false) id (SqL.of yB) j z ?_ ?_ ?_
 ·intro v u N R I hR;obtain⟨d,Z,rfl⟩:=cQQ.mp u;exact⟨_,rfl,d,rfl,_,rfl,hR⟩
 ·intro v u M N R I hR;exact⟨_,rfl,hR⟩
 ·rw[aQi,List.map_id];have o:=yG hl (bKe w l x);have y:=yG m (.lst (S.map V.int));have O:=yG j (.lst ((S.filter Dm.opn).map V.int));refine q D _ (S.filter Dm.opn) (o.trans (y.trans O)) ?_ (i.sublist cXN) ?_ ?_ yB
  ·exact(xC.trans o y).fresh j
  ·intro d;rw[cQT,g.mem_iff,e]
  ·have:=cQL Dm.opn S;rw[g.length_eq]at this;omega
def bZq:yN ["place"] ["place"] (yH bQa):=scM
def bXQ(T:vJ mg)(F:Fun K "day_at" "day_at" bQa f fd):xE P w K mg base CX0 1 f fd ["place"] bQL:=by
 obtain⟨l,b⟩:=T.week;obtain⟨g,a⟩:=T.opens;have c:=bZq;refine F.ok (k:=0) c (λe A outer s H i Q E j h=>?_);obtain⟨d,rfl,q⟩:=h;refine⟨_,(yF (yP (yV x9 (yV aVP (yV X5 (pv 0) (uB (v:= .int 5) rfl a ⟨_,rfl⟩)) (uB (v:= .int 7) rfl b ⟨_,rfl⟩)) (yV y0 (pv 0) (uB (v:= .int 5) rfl a ⟨_,rfl⟩))))),?_⟩;exact⟨_,rfl,_,_,rfl,rfl,⟨by decide,by decide⟩,_,_,rfl,rfl,.inr ⟨by decide,by decide⟩,_,rfl,_,_,rfl,rfl,(show(0:Int)<5 by decide),_,_,rfl,rfl,q⟩
def bKb:yN ["shut","date","term","place","closed"] ["shut","date","term"] (yH bK0):=scM
def bXg(d p:Int)(C:List Int)(i:Nat)(c:Int)(h:C[i]? =some c):Dm.aXF d p (C.take (i+1))=Dm.uT d (Dm.aXF d p (C.take i)) c:=by
 unfold Dm.aXF;rw[cQN,h];show(C.take i++ [c]).foldl _ p=_;rw[cJZ];rfl
def bWS(T:vJ mg)(b:FnG P w K mg base 2 "closed_days" ["shut"] (aV9 K))(j:FnG P w K mg base 2 "place_of" ["date"] bQR)(g:FnG P w K mg base 2 "day_at" ["place"] bQL) (F:Fun K "due_day" "due_day" bK0 f fd):xE P w K mg base CX0 3 f fd ["shut","date","term"] (bKi K):=by
 have I:=bKb;refine F.ok (k:=2) I (λL A outer s H W Q E p h=>?_);obtain⟨a,S,d,t,rfl,R,B,J,q⟩:=h;refine⟨_,(yC (yU (i:=3) (yV x9 (xJ j p rfl (yA (pv 1) yD)) (pv 2))) (yC (zT cQz rfl (xL (xJ b p rfl (yA (pv 0) yD))) (y9 (i:=4)) (yF (y7 (bZc vL aYR (pv 1) (pv 4) (xJ g p rfl (yA (pv 3) yD))) (yF (yU (i:=3) (yV x9 (pv 3) yE))) yS))) (yF (yP (xJ g p rfl (yA (pv 3) yD)))))),?_⟩;refine⟨_,rfl,d,rfl,_,rfl,_,_,rfl,rfl,?_⟩;refine⟨_,rfl,a,S,rfl,R,B,λr N C G O M U hl o=>⟨r,rfl,⟨_,SqL.of o⟩,?_⟩⟩;refine zJ (xs:=C.map V.int) (λi σ H=>∃cl,σ= [some (.ref a),some (.int d),some (.int t),some (.int (Dm.aXF d (Dm.place d+t) (C.take i))),cl]/\H=N) ?_ ?_ ?_ ?_
 ·exact⟨none,rfl,rfl⟩
 ·rintro i σ H X ⟨cl,rfl,rfl⟩;exact SqL.of o
 ·rintro i x σ H n ⟨cl,rfl,rfl⟩;rw[bY5]at n;cases y:C[i]? with
  |none=>rw[y]at n;cases n
  |some c=>
   rw[y]at n;cases n;have u:=bXg d (Dm.place d+t) C i c y;generalize Dm.aXF d (Dm.place d+t) (C.take i)=pl at u ⊢;dsimp only[yW];refine⟨_,rfl,_,rfl,_,_,rfl,rfl,_,rfl,?_⟩;refine qB (λv=>?_) (λv=>?_)
   ·have m:d<c:=of_decide_eq_true v;refine⟨_,rfl,pl,rfl,_,_,rfl,rfl,_,rfl,?_⟩;refine qB (λD=>?_) (λD=>?_)
    ·have l:c<=Dm.zP pl:=of_decide_eq_true D;refine⟨_,rfl,_,_,rfl,rfl,some (.int c),?_,rfl⟩;have e:Dm.uT d pl c=pl+1:=if_pos ⟨m,l⟩;rw[u,e];rfl
    ·have l:¬c<=Dm.zP pl:=of_decide_eq_false (Bool.eq_false_iff.mpr D);refine⟨some (.int c),?_,rfl⟩;have e:Dm.uT d pl c=pl:=if_neg λz=>l z.2;rw[u,e];rfl
   ·have m:¬d<c:=of_decide_eq_false (Bool.eq_false_iff.mpr v);refine⟨_,rfl,?_⟩;refine onF rfl ⟨some (.int c),?_,rfl⟩;have e:Dm.uT d pl c=pl:=if_neg λz=>m z.1;rw[u,e];rfl
 ·rintro σ H ⟨cl,rfl,rfl⟩;rw[bYP,cQI];exact⟨_,rfl,_,rfl,q _ _ G (Dm.bZ8 J M U)⟩
end
end Days
namespace Desk
open PySem L2 PyProof.Rows
open Bk (Row Rows)
structure PB(CB CL:Nat)(H:Hp)(ba la sa:Nat)(ls cs:List Nat)(R:Rows)(S:List Int):Prop where
 book:∃dx,H ba=some (.ins CB dx [("letters",.ref la),("shut",.ref sa)])
 lst:H la=some (.lst (ls.map V.ref))
 sht:H sa=some (.lst (S.map V.int))
 len:ls.length=R.length
 clen:cs.length=R.length
 nd:ls.Nodup
 cnd:cs.Nodup
 las:la≠sa
 lac:la∉cs
 sac:sa∉cs
 row:∀ (i:Nat)(b c:Nat)(r:Row),ls[i]? =some b->cs[i]? =some c->R[i]? =some r->aWo CL H b i r c/\H c=some (.lst (r.copies.map V.str))
def PB.get{l CL:Nat}{H:Hp}{j la sa:Nat}{ls cs:List Nat}{R:Rows}{S:List Int}(h:PB l CL H j la sa ls cs R S){i:Nat}{r:Row}(e:R[i]? =some r): ∃b c,(ls.map V.ref)[i]? =some (.ref b)/\ls[i]? =some b/\cs[i]? =some c/\aWo CL H b i r c/\H c=some (.lst (r.copies.map V.str)):=by
 have f:i<R.length:=Bk.wO e;have a:=bYK (show i<ls.length by rw[h.len];exact f);have d:=bYK (show i<cs.length by rw[h.clen];exact f);obtain⟨k,g⟩:=h.row i _ _ r a d e;exact⟨_,_,by rw[bY5,a];rfl,a,d,k,g⟩
def PB.sameT{f CL:Nat}{H d:Hp}{a la sa:Nat}{ls cs:List Nat}{R:Rows}{S:List Int}(h:PB f CL H a la sa ls cs R S)(k:x3 H d):PB f CL d a la sa ls cs R S:=
 ⟨let ⟨dx,e⟩:=h.book;⟨dx,k _ _ (λ_ z=>nomatch z) e⟩,k.lst h.lst,k.lst h.sht,h.len,h.clen,h.nd,h.cnd,h.las,h.lac,h.sac,λi b c r l j g=>
  let ⟨⟨dx,e1⟩,e2⟩:=h.row i b c r l j g;⟨⟨dx,k _ _ (λ_ z=>nomatch z) e1⟩,k.lst e2⟩⟩
def PB.same{c CL:Nat}{H a:Hp}{b la sa:Nat}{ls cs:List Nat}{R:Rows}{S:List Int}(h:PB c CL H b la sa ls cs R S)(k:xC H a):PB c CL a b la sa ls cs R S:=h.sameT k.t
def aKI(T:Nat)(H a:Hp):Prop:=x3 H a/\(Thr.wF T H->Thr.wF T a)
def aKI.of{T:Nat}{H a:Hp}(k:xC H a):aKI T H a:=⟨k.t,λt=>by
 rcases t with t|⟨d,b,c⟩
 ·exact .inl (k _ _ t)
 ·exact .inr ⟨d,k _ _ b,k _ _ c⟩⟩
def aKI.trans{T:Nat}{H c d:Hp}(a:aKI T H c)(b:aKI T c d):aKI T H d:=⟨a.1.trans b.1,λt=>b.2 (a.2 t)⟩
def xK(K:bYM)(Rf:Nat×Nat)(H:Hp)(E:XK)(t:Str):Prop:=∀ (C b:Nat)(a:Hp),v7 K C->cZ0 K C (.ref Rf.1)=some true->aKI Rf.2 H a->a b=some (.xd [("words",.str t)])->E (.ref C) (some b) a
def xK.go{K:bYM}{Rf:Nat×Nat}{H:Hp}{E:XK}{t:Str}(h:xK K Rf H E t){b:Hp}(k:aKI Rf.2 H b):xK K Rf b E t:=λC d a c m f e=>h C d a c m (k.trans f) e
def xK.raise{P:bY7}{w:cQf}{K:bYM}{mg:Str->Option bYL}{base:Heap}{k:Nat}{x:Str}{Rf:Nat×Nat}{C:Nat}{H:Hp}{E:XK}{t:Str}(h:xK K Rf H E t)(G:ExG P w K mg base k x Rf.1 C t){D:aJn}{σ:L2.St}:bJm C t E D σ H:=
 λb a=>h C b _ G.cl G.sub (aKI.of (yG a _)) yB
inductive aV6(K:bYM)(Rf:Nat×Nat)(CB CL:Nat)(vs:List V)(H:Hp)(Q:VK)(E:XK):Prop|mk (ba la sa:Nat) (ls cs:List Nat) (R:Rows) (S:List Int) (m:Int) (_:vs= [.ref ba,.int m]) (_:PB CB CL H ba la sa ls cs R S) (_:(∀ (k:Nat)(r:Row)(b:Nat),m=(k:Int)->R[k]? =some r->r.void=false->ls[k]? =some b->Q (.ref b) H)) (_:(Bk.wW R m=false->xK K Rf H E "no letter"))
inductive aVr(CB CL:Nat)(vs:List V)(H:Hp)(Q:VK)(_:XK):Prop|mk (ba la sa:Nat) (ls cs:List Nat) (R:Rows) (S:List Int) (i:Nat) (b:Nat) (_:vs= [.ref ba,.ref b]) (_:PB CB CL H ba la sa ls cs R S) (_:ls[i]? =some b) (_:R.length<=100) (_:∀l,H l=none->Q (.ref l) (upd H l (.lst ((Bk.z9 R i).map λk=>(ls.map V.ref).getD k .non))))
inductive aWa(K:bYM)(Rf:Nat×Nat)(CB CL:Nat)(vs:List V)(H:Hp)(Q:VK)(E:XK):Prop|mk (ba la sa:Nat) (ls cs:List Nat) (R:Rows) (S:List Int) (m:Int) (_:vs= [.ref ba,.int m]) (_:PB CB CL H ba la sa ls cs R S) (_:(∀ (k:Nat)(r:Row)(l:Nat),m=(k:Int)->R[k]? =some r->r.void=false->H l=none->Q (.ref l) (upd H l (.lst (r.copies.map V.str))))) (_:(Bk.wW R m=false->xK K Rf H E "no letter"))
inductive aJf(K:bYM)(Rf:Nat×Nat)(CB CL:Nat)(vs:List V)(H:Hp)(Q:VK)(E:XK):Prop|mk (ba la sa:Nat) (ls cs:List Nat) (R:Rows) (S:List Int) (m:Int) (_:vs= [.ref ba,.int m]) (_:PB CB CL H ba la sa ls cs R S) (_:(∀ (k:Nat)(r:Row)(l:Nat),m=(k:Int)->R[k]? =some r->r.void=false->H l=none->Q (.ref l) (upd H l (.tup (stV r))))) (_:(Bk.wW R m=false->xK K Rf H E "no letter"))
section
variable {K:bYM}
abbrev aQM:Stmt:=xI "Book" "letter_at"
abbrev aV0:Stmt:=xI "Book" "answers_to"
abbrev aQL:Stmt:=xI "Book" "copies_of"
abbrev aX0:Stmt:=xI "Book" "state_of"
def bVL:yN ["self","number"] ["self","number"] (yH aQM):=scM
def bXn{R:Rows}{m:Int}(h:m<0):Bk.wW R m=false:=by
 unfold Bk.wW;rw[decide_eq_false (by omega),Bool.false_and]
def bXm{R:Rows}{m:Int}(h:(R.length:Int)<=m):Bk.wW R m=false:=by
 unfold Bk.wW;rw[cQl (by omega)];simp
def aZz{R:Rows}{k:Nat}{r:Row}(h:R[k]? =some r):Bk.wW R (k:Int)= !r.void:=by
 unfold Bk.wW;rw[cQm,h];simp
def bJ8(T:vJ mg)(cl:Cl K CB CL)(a:ExG P w K mg base n "NoLetter" Rf.1 C1 "no letter")(F:Fun K "letter_at" "Book.letter_at" aQM f fd):xE P w K mg base (CXR P w) (n+2) f fd ["self","number"] (aV6 K Rf CB CL):=by
 have x:=bVL;refine F.okX (k:=n+1) x (λz A outer s H I Q E B h=>?_);obtain⟨g,o,M,D,O,R,S,m,rfl,e,q,j⟩:=h;refine⟨_,(yC (y7 (PW.pt (jW (yM vL (pv 1) yE) (jW (yM bKT (pv 1) (yQ yO rfl T.b_len xB (yA (y3 (pv 0) rfl) yD))) (vT (xZ (y3 (yL yK (y3 (pv 0) rfl) (pv 1)) rfl)))))) (yF (wB a B rfl)) yS) (yF (yP (yL yK (y3 (pv 0) rfl) (pv 1))))),?_⟩;obtain⟨p,i⟩:=e.book;have hl:(D.map V.ref).length=R.length:=by rw[bYP];exact e.len
 refine⟨_,rfl,_,_,rfl,rfl,_,rfl,?_⟩;refine qB (λc=>?_) (λc=>?_)
 ·exact onT rfl ((j (bXn (of_decide_eq_true c))).raise a)
 ·have L:¬m<0:=of_decide_eq_false (Bool.eq_false_iff.mpr c);refine⟨_,rfl,_,rfl,g,CB,p,_,_,rfl,i,cl.b,cl.letters,rfl,o,_,rfl,.inl (SqL.of e.lst),_,_,rfl,rfl,_,rfl,?_⟩;rw[hl];refine qB (λc=>?_) (λc=>?_)
  ·exact onT rfl ((j (bXm (of_decide_eq_true c))).raise a)
  ·have G:¬m≥(R.length:Nat):=of_decide_eq_false (Bool.eq_false_iff.mpr c);obtain⟨k,rfl⟩:∃k:Nat,m=(k:Int):=⟨m.toNat,by omega⟩;have y:k<R.length:=by omega
   have d:=bYK y;obtain⟨b,U,u,v,N,⟨r,C⟩,J⟩:=e.get d;refine⟨_,rfl,g,CB,p,_,_,rfl,i,cl.b,cl.letters,rfl,_,rfl,o,_,_,_,rfl,rfl,SqL.of e.lst,yT u,b,CL,r,_,_,rfl,C,cl.l,cl.void,rfl,_,rfl,?_⟩;cases t:R[k].void with
   |true=>exact onT rfl ((j (by rw[aZz d,t];rfl)).raise a)
   |false=>exact onF rfl ⟨_,rfl,g,CB,p,_,_,rfl,i,cl.b,cl.letters,rfl,_,rfl,o,_,_,_,rfl,rfl,SqL.of e.lst,yT u,q k _ b rfl d t v⟩
def aWP{K:bYM}{a:Nat}{xs:List V}{r:List Nat}{j:TT}{n:TE}{σ:L2.St}{D:Nat}{Q:VK}{H:Hp}(p:Nat->Bool)(f:Nat->V)(hl:SqL K H a xs)(s:H D=none)(hz:xs.length<=cQd) (z:∀i v,xs[i]? =some v->∀ (c:Hp)(R:Bool->Hp->Prop),(∀b,b≠D->c b=H b)->R (p i) c->j (sub σ r (some v)) c R) (w:∀i v,xs[i]? =some v->p i=true->∀ (c:Hp)(R:VK),(∀b,b≠D->c b=H b)->R (f i) c->n (sub σ r (some v)) c R) (A:Q (.ref D) (upd H D (.lst (((bYY xs.length).filter p).map f)))):bWf (Itl K a) r j n σ D Q (upd H D (.lst [])):=by
 have e:∀g,SqL K (upd H D (.lst g)) a xs:=λg=>by
  rcases hl with(h|⟨o,h⟩)|h
  ·exact .inl (.inl (by rw[yI (yJ h s)];exact h))
  ·exact .inl (.inr ⟨o,by rw[yI (yJ h s)];exact h⟩)
  ·exact .inr h
 refine⟨λi m g c=>m=xs.length - i/\i<=xs.length/\g=((bYY i).filter p).map f/\c=upd H D (.lst g),⟨xs.length,by simp,cQJ _,by simp,rfl⟩,?_⟩;rintro i m g c ⟨rfl,C,rfl,rfl⟩;refine⟨yB,?_⟩;by_cases d:i<xs.length
 ·refine .inr ⟨⟨xs,xs[i],e _,bYK d⟩,λv E u=>?_⟩;obtain⟨rfl,y⟩:=u;have t:xs[i]? =some v:=y xs (e _);have k:∀b,b≠D->upd H D (.lst (((bYY i).filter p).map f)) b=H b:=λb x=>yI x;have l:(((bYY i).filter p).map f).length<cQd:=by
   rw[bYP];have B:=cQL p (bYY i);rw[cQE]at B;omega
  refine z i v t _ _ k ?_;cases q:p i with
  |false=>show ∃F,_;refine⟨xs.length - (i+1),by omega,rfl,d,?_,rfl⟩;rw[cZb,cQW,cXr (by rw[q];decide)];simp
  |true=>show n _ _ _;refine w i v t q _ _ k ⟨l,yB,xs.length - (i+1),by omega,rfl,d,?_,by rw[jD]⟩;rw[cZb,cQW,cXs q];simp
 ·obtain rfl:i=xs.length:=by omega
  exact .inl ⟨⟨xs,e _,bYS _⟩,A⟩
def bZm:yN ["self","letter"] ["self","letter"] (yH aV0):=scM
def bXw:xN ["self","letter"] (yH aV0) "other" ["letter"] [1] (lsN [(".0",.local),("other",.local),("letter",.free)]):=
 lcM
def bXM(cl:Cl K CB CL)(a:MG P w K mg base CX0 n CL "is_answered_by" ["self","other"] (bQI CL))(F:Fun K "answers_to" "Book.answers_to" aV0 f fd):xE P w K mg base CX0 (n+1) f fd ["self","letter"] (aVr CB CL):=by
 have G:=bZm;refine F.ok (k:=n) G (λI A outer s H Y Q E M h=>?_);obtain⟨L,U,sa,t,cs,R,S,i,b,rfl,d,y,hR,q⟩:=h;refine⟨_,(yF (yP (aQF bXw rfl (xL (y3 (pv 0) rfl)) (λ_ _ _ _ _=>(w7 (xZ (v1 a M v0 (pv 1) (yA (pv 0) yD))))) (λ_ _ _ _ _=>(pv 0))))),?_⟩;obtain⟨X,J⟩:=d.book;have hl:(t.map V.ref).length=R.length:=by rw[bYP];exact d.len
 have r:i<R.length:=by rw[<- d.len];exact(bYW.mp y).1
 obtain⟨O,cc,g1,C,g3,⟨g,o⟩,Z⟩:=d.get (bYK r);obtain rfl:b=O:=bY6 (y.symm.trans C);refine⟨_,rfl,L,CB,X,_,_,rfl,J,cl.b,cl.letters,rfl,U,rfl,⟨_,SqL.of d.lst⟩,λD e=>?_⟩;refine aWP (λk=>decide (Bk.lk R k=some i)) (λk=>(t.map V.ref).getD k .non) (SqL.of d.lst) e (zn (by omega)) (λj v p W N m c=>?_) (λj v p _ W N m c=>?_) ?_
 ·have T:j<R.length:=by rw[<- hl];exact(bYW.mp p).1
  have l:=bYK T;obtain⟨z,c2,B,k2,k3,⟨u,x⟩,k5⟩:=d.get l;obtain rfl:v= .ref z:=bY6 (p.symm.trans B);rw[Bk.uA l]at c;exact⟨_,rfl,b,g,_,rfl,(m _ (yJ o e)).trans o,rfl,_,rfl,b,z,i,j,_,_,_,_,rfl,⟨g,(m _ (yJ o e)).trans o⟩,⟨u,(m _ (yJ x e)).trans x⟩,_,rfl,c⟩
 ·have:(t.map V.ref).getD j .non=v:=by simp only[cQv,p];rfl
  rw[this]at c;exact⟨_,rfl,c⟩
 ·rw[hl];exact q D e
def aVk:yN ["self","number"] ["self","number"] (yH aQL):=scM
def aJS(T:vJ mg)(cl:Cl K CB CL)(a:MG P w K mg base (CXR P w) n CB "letter_at" ["self","number"] (aV6 K Rf CB CL))(F:Fun K "copies_of" "Book.copies_of" aQL f fd):xE P w K mg base (CXR P w) (n+1) f fd ["self","number"] (aWa K Rf CB CL):=by
 have o:=aVk;refine F.okX (k:=n) o (λp A outer s H N Q E u h=>?_);obtain⟨i,B,G,D,I,R,S,m,rfl,e,q,z⟩:=h;refine⟨_,(yF (yP (x5 uS rfl T.b_list z6 (yA (y3 (v1 a u zZ (pv 0) (yA (pv 1) yD)) rfl) yD)))),?_⟩;obtain⟨J,t⟩:=e.book;refine⟨_,rfl,i,J,_,rfl,t,rfl,_,rfl,i,B,G,D,I,R,S,m,rfl,e,λk r b C g L c=>?_,z⟩;obtain⟨y,M,U,j,O,⟨d,x⟩,v⟩:=e.get g;obtain rfl:b=y:=bY6 (c.symm.trans j);refine⟨b,CL,d,_,_,rfl,x,cl.l,cl.copies,rfl,?_⟩;exact⟨M,_,rfl,.inl (SqL.of v),λl hl=>q k r l C g L hl⟩
def aKx:yN ["self","number"] ["self","number"] (yH aX0):=scM
def aKc(cl:Cl K CB CL)(a:MG P w K mg base (CXR P w) n CB "letter_at" ["self","number"] (aV6 K Rf CB CL))(c:MG P w K mg base CX0 n CL "state" ["self"] (aVu CL))(F:Fun K "state_of" "Book.state_of" aX0 f fd): xE P w K mg base (CXR P w) (n+1) f fd ["self","number"] (aJf K Rf CB CL):=by
 have u:=aKx;refine F.okX (k:=n) u (λv A outer s H O Q E l h=>?_);obtain⟨j,C,I,G,J,R,S,m,rfl,g,q,B⟩:=h;refine⟨_,(yF (yP (bX9 c l v0 (v1 a l zZ (pv 0) (yA (pv 1) yD))))),?_⟩;obtain⟨L,y⟩:=g.book;refine⟨_,rfl,j,L,_,rfl,y,rfl,_,rfl,j,C,I,G,J,R,S,m,rfl,g,λk r b D i M e=>?_,B⟩;obtain⟨z,N,V,p,U,⟨d,o⟩,T⟩:=g.get i;obtain rfl:b=z:=bY6 (e.symm.trans p);exact⟨b,d,_,rfl,o,rfl,b,k,r,N,rfl,⟨d,o⟩,λt x=>q k r t D i M x⟩
end
end Desk
namespace Desk
open PySem L2 PyProof.Rows
open Bk (Row Rows)
open Law (aKH jZ Y3 bX6 aXs aQ5)
def Z7(R:Rows)(w:Str):List Nat:=(bYY R.length).filter λk=>match R[k]? with|some r=> !r.void && decide (r.place=w)|none=>false
inductive aQ1(CB CL:Nat)(vs:List V)(H:Hp)(Q:VK)(_:XK):Prop|mk (ba la sa:Nat) (ls cs:List Nat) (R:Rows) (S:List Int) (w:Str) (_:vs= [.ref ba,.str w]) (_:PB CB CL H ba la sa ls cs R S) (_:R.length<64) (_:∀l,H l=none->Q (.ref l) (upd H l (.lst ((Z7 R w).map λi=>V.int (i:Nat)))))
def bJz(R:Rows)(n:Nat)(d:Int)(a:List (Key×V)):Prop:=∀j:Nat,(aQd a (Sum.inl (j:Int))).isSome=true↔∃k,k<n/\Bk.lk R k=some j/\Bk.dt R k<=d
inductive aXv(CB CL:Nat)(vs:List V)(H:Hp)(Q:VK)(_:XK):Prop|mk (ba la sa:Nat) (ls cs:List Nat) (R:Rows) (S:List Int) (d:Int) (_:vs= [.ref ba,.int d]) (_:PB CB CL H ba la sa ls cs R S) (_:R.length<64) (_:∀ (a:Nat)(H':Hp)(kvs:List (Key×V)),xC H H'->H a=none->H' a=some (.dK kvs)->bJz R R.length d kvs->Q (.ref a) H')
inductive aVt(CB CL:Nat)(vs:List V)(H:Hp)(Q:VK)(_:XK):Prop|mk (ba la sa:Nat) (ls cs:List Nat) (R:Rows) (S:List Int) (d:Int) (_:vs= [.ref ba,.int d]) (_:PB CB CL H ba la sa ls cs R S) (_:R.length<64) (_:S.length<64) (_:∀ (l:Nat)(H':Hp)(ks:List Nat)(ps:List V),xC H H'->H l=none->H' l=some (.lst ps)->cQA (aKH H' (jZ R S)) ks ps->Bk.aKL R S d false ks->Q (.ref l) H')
inductive bKC(CB CL:Nat)(late:Bool)(vs:List V)(H:Hp)(Q:VK)(_:XK):Prop|mk (ba la sa:Nat) (ls cs:List Nat) (R:Rows) (S:List Int) (d:Int) (_:vs= [.ref ba,.int d]) (_:PB CB CL H ba la sa ls cs R S) (_:R.length<64) (_:S.length<64) (_:∀ (l:Nat)(H':Hp)(ks:List Nat),xC H H'->H l=none->H' l=some (.lst (ks.map λi=>V.int (i:Nat)))->Bk.aKL R S d late ks->Q (.ref l) H')
def aQD{X:Cx}{K:bYM}{e:Expr}{f:Str}{pos:Pos}{a:TE}(d:PE X e a)(c:cZz e f X.env (eval e X.env)=eval e X.env)(b:X.K=K:=by rfl):PE X (.Attribute e f pos) (bYl K a f):=b ▸ y3 d c
section
variable {K:bYM}
abbrev jP:Stmt:=xI "Book" "letters_in"
abbrev aQK:Stmt:=xI "Book" "answered_by"
abbrev bQg:Stmt:=xI "Book" "waiting_pairs"
abbrev Q9:Stmt:=xI "Book" "waiting"
abbrev Q8:Stmt:=xI "Book" "overdue"
def aZ6:yN ["self","name"] ["self","name"] (yH jP):=scM
def aZI:xN ["self","name"] (yH jP) "letter" ["name"] [1] (lsN [(".0",.local),("letter",.local),("name",.free)]):=
 lcM
def bJM{r:Row}{w:Str}:decide (X2 r=V.str w)=(!r.void && decide (r.place=w)):=by
 unfold X2;cases r.void with
 |true=>rfl
 |false=>show decide (V.str r.place=V.str w)=(true && decide (r.place=w));rw[Bool.true_and,Bool.eq_iff_iff];simp
def aZR(cl:Cl K CB CL)(F:Fun K "letters_in" "Book.letters_in" jP f fd):xE P w K mg base CX0 (n+1) f fd ["self","name"] (aQ1 CB CL):=by
 have x:=aZ6;refine F.ok (k:=n) x (λy A outer s H U Q E W h=>?_);obtain⟨B,G,X,I,Y,R,S,w,rfl,d,hR,q⟩:=h;refine⟨_,(yF (yP (aQF aZI rfl (xL (y3 (pv 0) rfl)) (λ_ _ _ _ _=>(w7 (yM zI (aQD (K:=K) (pv 0) rfl) (pv 1)))) (λ_ _ _ _ _=>(aQD (K:=K) (pv 0) rfl))))),?_⟩;obtain⟨M,z⟩:=d.book;have hl:(I.map V.ref).length=R.length:=by rw[bYP];exact d.len
 refine⟨_,rfl,B,CB,M,_,_,rfl,z,cl.b,cl.letters,rfl,G,rfl,⟨_,SqL.of d.lst⟩,λD o=>?_⟩;refine aWP (λk=>match R[k]? with|some r=> !r.void && decide (r.place=w)|none=>false) (λk=>V.int (k:Nat)) (SqL.of d.lst) o (zn (by omega)) (λj v i J C t a=>?_) (λj v i _ J C t a=>?_) ?_
 ·have u:j<R.length:=by rw[<- hl];exact(bYW.mp i).1
  have m:=bYK u;obtain⟨g,N,p,T,L,⟨c,e⟩,O⟩:=d.get m;obtain rfl:v= .ref g:=bY6 (i.symm.trans p);rw[m]at a;dsimp only at a;rw[<- bJM]at a;refine⟨_,rfl,g,CL,c,_,_,rfl,(t _ (yJ e o)).trans e,cl.l,cl.file,rfl,_,rfl,?_,_,rfl,a⟩;unfold X2;cases R[j].void<;> rfl
 ·have u:j<R.length:=by rw[<- hl];exact(bYW.mp i).1
  obtain⟨g,N,p,T,L,⟨c,e⟩,O⟩:=d.get (bYK u);obtain rfl:v= .ref g:=bY6 (i.symm.trans p);exact⟨_,rfl,g,CL,c,_,_,rfl,(t _ (yJ e o)).trans e,cl.l,cl.number,rfl,a⟩
 ·rw[hl];exact q D o
def aVj:yN ["self","day","answered","letter"] ["self","day"] (yH aQK):=scM
def aZj{R:Rows}{t:Nat}{d:Int}{a:List (Key×V)}(h:bJz R t d a)(g:∀j,Bk.lk R t=some j->¬Bk.dt R t<=d):bJz R (t+1) d a:=λj=>by
 rw[h j];constructor
 ·rintro⟨k,f,b⟩;exact⟨k,by omega,b⟩
 ·rintro⟨k,f,b,c⟩;by_cases e:k=t
  ·subst e;exact absurd c (g j b)
  ·exact⟨k,by omega,b,c⟩
def bQ5{R:Rows}{t:Nat}{d:Int}{a:List (Key×V)}(h:bJz R t d a){i:Nat}(hl:Bk.lk R t=some i)(f:Bk.dt R t<=d){v:V}:bJz R (t+1) d (aJ3 a (Sum.inl (i:Int)) v):=λj=>by
 rw[bZY];by_cases e:j=i
 ·subst e;rw[if_pos rfl];exact⟨λ_=>⟨t,by omega,hl,f⟩,λ_=>rfl⟩
 ·rw[if_neg (λz=>e (by have:=Sum.inl.inj z;omega)),h j];constructor
  ·rintro⟨k,c,b⟩;exact⟨k,by omega,b⟩
  ·rintro⟨k,c,b,l⟩;by_cases g:k=t
   ·subst g;rw[hl]at b;exact absurd (bY6 b).symm e
   ·exact⟨k,by omega,b,l⟩
def aJR(cl:Cl K CB CL)(F:Fun K "answered_by" "Book.answered_by" aQK f fd):xE P w K mg base CX0 (n+1) f fd ["self","day"] (aXv CB CL):=by
 have X:=aVj;refine F.ok (k:=n) X (λY A outer s H vs Q E hr h=>?_);obtain⟨N,la,sa,O,cs,R,S,d,rfl,C,hR,q⟩:=h;refine⟨_,(yC (yU (i:=2) bX8) (yC (zT cQz rfl (xL (y3 (pv 0) rfl)) (y9 (i:=3)) (yF (y7 (PW.pt (vS (yM wA (y3 (pv 3) rfl) x6) (wR (yM aYR (y3 (pv 3) rfl) (pv 1))))) (yF (bVt (bWD hr) (pv 2) (y3 (pv 3) rfl) wQ rfl)) yS))) (yF (yP (pv 2))))),?_⟩;obtain⟨dx,Z⟩:=C.book;have hl:(O.map V.ref).length=R.length:=by rw[bYP];exact C.len
 intro a L;dsimp only[yW];have G:=yG L (.dK []);refine⟨_,rfl,N,CB,dx,_,_,rfl,G _ _ Z,cl.b,cl.letters,rfl,la,rfl,⟨_,SqL.of (G _ _ C.lst)⟩,?_⟩;refine zJ (xs:=O.map V.ref) (λt σ m=>∃ (e:List (Key×V))(o:Option V),σ= [some (.ref N),some (.int d),some (.ref a),o]/\xC H m/\m a=some (.dK e)/\e.length<=t/\bJz R t d e) ?_ ?_ ?_ ?_
 ·exact⟨[],none,rfl,G,yB,cQJ _,λj=>⟨λz=>(by cases z),λ⟨k,z,_⟩=>absurd z (cXx _)⟩⟩
 ·rintro t σ m M ⟨e,o,rfl,g,y,T,r⟩;exact SqL.of (g _ _ C.lst)
 ·rintro t x σ m W ⟨e,o,rfl,g,y,T,r⟩;have M:t<R.length:=by rw[<- hl];exact(bYW.mp W).1
  have v:=bYK M;obtain⟨b,c,g1,g2,g3,⟨p,I⟩,g5⟩:=(C.same g).get v;obtain rfl:x= .ref b:=bY6 (W.symm.trans g1);dsimp only[yW];refine⟨_,rfl,b,CL,p,_,_,rfl,I,cl.l,cl.link,rfl,rfl,_,rfl,?_⟩;have D:=Bk.uA v;have B:=Bk.vK v;cases u:R[t].link with
  |none=>exact onF rfl (onF rfl ⟨e,_,rfl,g,y,by omega,aZj r λj J=>by rw[D,u]at J;cases J⟩)
  |some i=>
   refine onT rfl ⟨_,rfl,b,CL,p,_,_,rfl,I,cl.l,cl.day,rfl,_,rfl,_,_,rfl,rfl,_,rfl,?_⟩;cases U:decide (R[t].date<=d)with
   |false=>exact onF rfl ⟨e,_,rfl,g,y,by omega,aZj r λj J=>by rw[B];exact of_decide_eq_false U⟩
   |true=>
    refine onT rfl ⟨_,rfl,_,rfl,b,CL,p,_,_,rfl,I,cl.l,cl.link,rfl,a,upd m a (.dK (aJ3 e (Sum.inl (i:Int)) (.bl true))),rfl,?_,?_⟩
    ·rw[u];exact bWl.k (k:=Sum.inl (i:Int)) y (by rw[cQk];omega)
    refine⟨_,_,rfl,?_,yB,cQo (qI _ _ _) (by omega),bQ5 r (by rw[D,u]) (by rw[B];exact of_decide_eq_true U)⟩;exact aQ5 g L
 ·rintro σ m ⟨e,o,rfl,g,y,T,r⟩;rw[hl]at r;exact⟨_,rfl,q a m e g L y r⟩
def bZZ{R:Rows}{i:Nat}{r:Row}{d:Int}{a:List (Key×V)}(j:R[i]? =some r)(g:bJz R R.length d a): Bk.Q1 R i d=(decide (Q0 r > 0) && (decide (r.date<=d) && !(aQd a (Sum.inl (i:Int))).isSome)):=by
 have l:((Bk.z9 R i).all λk=>decide (d<Bk.dt R k))= !(aQd a (Sum.inl (i:Int))).isSome:=by
  rw[Bool.eq_iff_iff,cZU,Bool.not_eq_true',Bool.eq_false_iff,ne_eq,g i];constructor
  ·rintro h ⟨k,b,f,m⟩;have:=of_decide_eq_true (h k (cQT.mpr ⟨cQn.mpr b,decide_eq_true f⟩));omega
  ·intro h k c;obtain⟨b,f⟩:=cQT.mp c;refine decide_eq_true ?_;by_cases z:Bk.dt R k<=d
   ·exact absurd ⟨k,cQn.mp b,of_decide_eq_true f,z⟩ h
   ·omega
 unfold Bk.Q1;rw[j];dsimp only;rw[l];unfold Q0;cases r.void with
 |true=>rfl
 |false=>
  rw[if_neg (by decide)];have e:decide (1<=r.term)=decide (r.term > 0):=by rw[Bool.eq_iff_iff];simp;omega
  rw[e];simp[Bool.and_assoc]
def bZw:yN ["self","day","answered","pairs","letter"] ["self","day"] (yH bQg):=scM
def bXW(T:vJ mg)(cl:Cl K CB CL)(j:MG P w K mg base CX0 n CB "answered_by" ["self","day"] (aXv CB CL))(r:FnG P w K mg base n "due_day" ["shut","date","term"] (Days.bKi K)) (F:Fun K "waiting_pairs" "Book.waiting_pairs" bQg f fd):xE P w K mg base CX0 (n+1) f fd ["self","day"] (aVt CB CL):=by
 have sc:=bZw;refine F.ok (k:=n) sc (λc1 A outer s H vs Q E hr h=>?_);obtain⟨W,la,sa,ls,cs,R,S,d,rfl,hB,hR,hS,q⟩:=h;refine⟨_,(yC (yU (i:=2) (v1 j hr v0 (pv 0) (yA (pv 1) yD))) (yC (yU (i:=3) (y6 yD)) (yC (zT cQz rfl (xL (y3 (pv 0) rfl)) (y9 (i:=4)) (yF (y7 (PW.pt (vS (yM aXg (y3 (pv 4) rfl) yE) (vS (yM aYR (y3 (pv 4) rfl) (pv 1)) (wR (bW3 (aYU (bWD hr) (y3 (pv 4) rfl) (pv 2))))))) (yF (yY (vM cQa cQh cQi xD (pv 3) (yA (xG (yA (xJ r hr rfl (yA (y3 (pv 0) rfl) (yA (y3 (pv 4) rfl) (yA (y3 (pv 4) rfl) yD)))) (yA (y3 (pv 4) rfl) yD))) yD)))) yS))) (yF (yP (yQ uK rfl T.b_sorted vA (yA (pv 3) yD))))))),?_⟩;obtain⟨dx,hb⟩:=hB.book;have hl:(ls.map V.ref).length=R.length:=by rw[bYP];exact hB.len
 refine⟨_,rfl,W,dx,_,rfl,hb,rfl,_,rfl,W,la,sa,ls,cs,R,S,d,rfl,hB,hR,λa H0 b4 X c2 a6 hA=>?_⟩;dsimp only[yW];refine⟨z0,λy B=>?_⟩;dsimp only[yW];have k1:xC H (upd H0 y (.lst [])):=X.trans (yG B _);have c0:H y=none:=X.fresh B;refine⟨_,rfl,W,CB,dx,_,_,rfl,k1 _ _ hb,cl.b,cl.letters,rfl,la,rfl,⟨_,SqL.of (k1 _ _ hB.lst)⟩,?_⟩;have c3:a≠y:=yJ a6 B;refine zJ (xs:=ls.map V.ref) (λt σ G=>∃ (g:List V)(o:Option V),σ= [some (.ref W),some (.int d),some (.ref a),some (.ref y),o]/\xC H0 G/\G y=some (.lst g)/\
  cQA (aKH G (jZ R S)) ((bYY t).filter (Y3 R S d false)) g) ?_ ?_ ?_ ?_
 ·exact⟨[],none,rfl,yG B _,yB,.nil⟩
 ·rintro t σ G ht ⟨g,o,rfl,M,L,J⟩;exact SqL.of (M _ _ (X _ _ hB.lst))
 ·rintro t x σ G hx ⟨g,o,rfl,M,L,J⟩;have ht:t<R.length:=by rw[<- hl];exact(bYW.mp hx).1
  have N:=bYK ht;have U:=(hB.same X).same M;obtain⟨b1,b0⟩:=U.book;obtain⟨b,c,g1,g2,g3,⟨v,Y⟩,g5⟩:=U.get N;obtain rfl:x= .ref b:=bY6 (hx.symm.trans g1);rw[cZb,cQW];dsimp only[yW];have hw:=bZZ N hA;have u:Y3 R S d false t=Bk.Q1 R t d:=by unfold Y3;simp
  have stay:∀o',Y3 R S d false t=false->∃ (g:List V)(p:Option V),[some (V.ref W),some (V.int d),some (V.ref a),some (V.ref y),o']= [some (.ref W),some (.int d),some (.ref a),some (.ref y),p]/\xC H0 G/\G y=some (.lst g)/\
    cQA (aKH G (jZ R S)) ((bYY t).filter (Y3 R S d false)++ [t].filter (Y3 R S d false)) g:=λo' e=>by
   have e3: [t].filter (Y3 R S d false)= []:=by simp[e]
   rw[e3,cQO]
   exact⟨g,o',rfl,M,L,J⟩
  refine⟨_,rfl,b,CL,v,_,_,rfl,Y,cl.l,cl.term,rfl,_,_,rfl,rfl,_,rfl,?_⟩;cases h1:decide (Q0 R[t] > 0)with
  |false=>exact onF rfl (onF rfl (stay _ (by rw[u,hw,h1];rfl)))
  |true=>
   refine onT rfl ⟨_,rfl,b,CL,v,_,_,rfl,Y,cl.l,cl.day,rfl,_,rfl,_,_,rfl,rfl,_,rfl,?_⟩;cases h2:decide (R[t].date<=d)with
   |false=>exact onF rfl (onF rfl (stay _ (by rw[u,hw,h1,h2];rfl)))
   |true=>
    refine onT rfl ⟨_,rfl,b,CL,v,_,_,rfl,Y,cl.l,cl.number,rfl,_,rfl,a,_,rfl,bWk.k (k:=Sum.inl (t:Int)) (M _ _ a6),_,rfl,?_⟩;cases h3:(aQd b4 (Sum.inl (t:Int))).isSome with
    |true=>exact onF rfl (stay _ (by rw[u,hw,h1,h2,h3];rfl))
    |false=>
     have a0:Bk.Q1 R t d=true:=by rw[hw,h1,h2,h3];rfl
     have b7:=Law.aXz ht a0;have hv:R[t].void=false:=by
      cases hv:R[t].void with
      |false=>rfl
      |true=>have:=of_decide_eq_true h1;unfold Q0 at this;rw[hv]at this;simp at this
     have a3:Q0 R[t]=R[t].term:=by unfold Q0;rw[hv];rfl
     refine onT rfl ⟨_,rfl,.inl ⟨rfl,_,SqL.of L⟩,_,rfl,W,CB,b1,_,_,rfl,b0,cl.b,cl.shut,rfl,_,rfl,b,CL,v,_,_,rfl,Y,cl.l,cl.day,rfl,_,rfl,b,CL,v,_,_,rfl,Y,cl.l,cl.term,rfl,?_⟩;refine⟨sa,S,_,_,rfl,SqL.of U.sht,hS,by rw[a3];exact b7,λH2 D O hD=>?_⟩;have eD:D=jZ R S t:=by unfold jZ;rw[N,Bk.vK N];rw[a3]at hD;exact(Bk.bZ7 hD).symm
     subst eD;refine⟨_,rfl,b,CL,v,_,_,rfl,O _ _ Y,cl.l,cl.number,rfl,z2,λq3 b8=>?_⟩;have b3:=O _ _ L;have k5:=yG b8 (.tup [V.int (jZ R S t),V.int (t:Nat)]);have a8:=k5 _ _ b3;have il:g.length<=t:=by rw[<- J.length];exact cQo (cQL _ _) (by simp)
     have t6:∀a xs,upd H2 q3 (.tup [V.int (jZ R S t),V.int (t:Nat)]) a=some (.tup xs)->upd (upd H2 q3 (.tup [V.int (jZ R S t),V.int (t:Nat)])) y (.lst (g++ [V.ref q3])) a=some (.tup xs):=λa xs e=>by rw[yI (aXc e a8 (by intro z;cases z))];exact e
     have e3: [t].filter (Y3 R S d false)= [t]:=by simp[u,a0]
     refine⟨y,g,.ref q3,rfl,rfl,a8,zlt (by omega),g++ [.ref q3],_,rfl,aQ5 (M.trans (O.trans k5)) B,yB,?_⟩;rw[e3];exact aXs ⟨q3,rfl,t6 _ _ yB⟩ (Paired.mapP J λ_ _ z=>z.tk λa xs e=>t6 _ _ (k5 _ _ (O _ _ e)))
 ·rintro σ G ⟨g,o,rfl,M,L,J⟩;rw[hl]at J;generalize I:(bYY R.length).filter (Y3 R S d false)=fam at J;have a5:fam.length=g.length:=J.length;have fn:fam.length<=R.length:=by rw[<- I];exact cQo (cQL _ _) (by simp)
  have a4:∀k,k∈fam↔k<R.length/\Y3 R S d false k=true:=λk=>by rw[<- I,cQT,cQn]
  have b9:fam.Nodup:=by rw[<- I];exact cZW.sublist cXN
  refine⟨_,rfl,y,g,λm=>(jZ R S (fam.getD m 0),((fam.getD m 0:Nat):Int)),rfl,L,by omega,λa b ha hb e=>?_,λm x hx=>?_,λl out a9 a1 b2=>?_⟩
  ·have Z:fam.getD a 0=fam.getD b 0:=by have:=congrArg Prod.snd e;simp only at this;omega
   have a7:a<fam.length:=by omega
   have a2:b<fam.length:=by omega
   simp[cQv,bYK a7,bYK a2]at Z;exact(cXA (h₀:=a7) (h₁:=a2) b9).mp Z
  ·obtain⟨k,hk,p,L,Z⟩:=bX6 J hx;have:fam.getD m 0=k:=by simp[cQv,hk]
   show ∃a,x=V.ref a/\G a=some (.tup [V.int (jZ R S (fam.getD m 0)),V.int ((fam.getD m 0:Nat):Int)]);rw[this];exact⟨p,L,Z⟩
  ·have hm:∀m∈out,m<g.length:=λm hm=>cQn.mp (a1.mem_iff.mp hm);have O:=yG a9 (.lst (out.map λi=>g.getD i .non));refine q l _ (out.map λm=>fam.getD m 0) _ (X.trans (M.trans O)) ((X.trans M).fresh a9) yB ?_ ⟨λk=>?_,?_⟩
   ·have go:∀o:List Nat,(∀m∈o,m<g.length)->cQA (aKH (upd G l (.lst (out.map λi=>g.getD i .non))) (jZ R S)) (o.map λm=>fam.getD m 0) (o.map λi=>g.getD i .non):=by
     intro o;induction o with
     |nil=>intro _;exact .nil
     |cons m o ih=>
      intro h;refine .cons ?_ (ih λx hx=>h x (bYX _ hx));have C:=h m bY0;have hg:g[m]? =some (g.getD m .non):=by simp[cQv,bYK C]
      obtain⟨k,hk,p,L,Z⟩:=bX6 J hg;have:fam.getD m 0=k:=by simp[cQv,hk]
      show aKH _ _ (fam.getD m 0) (g.getD m .non);rw[this];exact⟨p,L,O _ _ Z⟩
    exact go out hm
   ·have b6:k∈out.map (λm=>fam.getD m 0)↔k∈fam:=by
     constructor
     ·intro h;obtain⟨m,b5,rfl⟩:=cQQ.mp h;have C:m<fam.length:=by rw[a5];exact hm m b5
      simp[cQv,bYK C]
     ·intro h;obtain⟨m,C,e⟩:=cQC h;refine cQQ.mpr ⟨m,a1.mem_iff.mpr (cQn.mpr (by omega)),?_⟩;simp[cQv,bYK C,e]
    rw[b6,a4 k];unfold Y3;simp
   ·rw[cJg];exact b2
def aZE{α:Type}(a:List Nat)(g:Nat->Bool)(h:Nat->α):((bYY a.length).filter λm=>g (a.getD m 0)).map (λm=>h (a.getD m 0))=(a.filter g).map h:=by
 have e:(bYY a.length).map (λm=>a.getD m 0)=a:=by
  apply cX3;intro i;rw[bY5];by_cases b:i<a.length
  ·rw[cXO b];simp[bYK b]
  ·rw[cQl (by simpa using b),cQl (by omega)];rfl
 conv=>rhs;rw[<- e,List.filter_map,cXX]
 rfl
def aKy:yN ["self","day"] ["self","day"] (yH Q9):=scM
def aWR:xN ["self","day"] (yH Q9) "pair" [] [] (lsN [(".0",.local),("pair",.local)]):=
 lcM
def aKd(cl:Cl K CB CL)(a:MG P w K mg base CX0 n CB "waiting_pairs" ["self","day"] (aVt CB CL))(F:Fun K "waiting" "Book.waiting" Q9 f fd):xE P w K mg base CX0 (n+1) f fd ["self","day"] (bKC CB CL false):=by
 have M:=aKy;refine F.ok (k:=n) M (λO A outer s H vs Q E W h=>?_);obtain⟨B,Y,sa,Z,cs,R,S,d,rfl,I,hR,hS,q⟩:=h;refine⟨_,(yF (yP (aQF aWR rfl (xL (v1 a W v0 (pv 0) (yA (pv 1) yD))) (λ_ _ _ _ _=>wK) (λ_ _ _ _ _=>(yL ixT (pv 0) yE))))),?_⟩;obtain⟨dx,T⟩:=I.book;refine⟨_,rfl,B,dx,_,rfl,T,rfl,_,rfl,B,Y,sa,Z,cs,R,S,d,rfl,I,hR,hS,λl H1 g U u a0 o L c=>?_⟩;have r:g.length=U.length:=L.length;have a1:g.length<=R.length:=Fm.wP (c.ord.imp λ{x y} e z=>by rw[z,Stree.wZ]at e;cases e) λx hx=>((c.mem x).mp hx).1;refine⟨l,rfl,⟨_,SqL.of o⟩,λD t=>?_⟩;refine aWP (λ_=>true) (λm=>V.int (g.getD m 0:Nat)) (SqL.of o) t (zn (by omega)) (λj v J H' X C b=>b) (λj v J _ H' X C b=>?_) ?_
 ·obtain⟨k,N,p,e1,G⟩:=bX6 L J;subst e1;have:g.getD j 0=k:=by simp[cQv,N]
  rw[this]at b;exact⟨_,rfl,p,_,1,_,rfl,rfl,SqT.of ((C p (yJ G t)).trans G),rfl,b⟩
 ·have e:=aZE g (λ_=>true) λi=>V.int (i:Nat);rw[r]at e;rw[e,cZw.mpr λ_ _=>rfl];exact q D _ g (u.trans (yG t _)) (u.fresh t) yB c
def aKu:yN ["self","day"] ["self","day"] (yH Q8):=scM
def aWQ:xN ["self","day"] (yH Q8) "pair" ["day"] [1] (lsN [(".0",.local),("pair",.local),("day",.free)]):=
 lcM
def aW9(cl:Cl K CB CL)(g:MG P w K mg base CX0 n CB "waiting_pairs" ["self","day"] (aVt CB CL))(F:Fun K "overdue" "Book.overdue" Q8 f fd):xE P w K mg base CX0 (n+1) f fd ["self","day"] (bKC CB CL true):=by
 have W:=aKu;refine F.ok (k:=n) W (λX A outer s H vs Q E hr h=>?_);obtain⟨T,la,sa,ls,cs,R,S,d,rfl,U,hR,hS,q⟩:=h;refine⟨_,(yF (yP (aQF aWQ rfl (xL (v1 g hr v0 (pv 0) (yA (pv 1) yD))) (λ_ _ _ _ _=>(w7 (yM vL (yL ixT (pv 0) yE) (pv 1)))) (λ_ _ _ _ _=>(yL ixT (pv 0) yE))))),?_⟩;obtain⟨dx,Y⟩:=U.book;refine⟨_,rfl,T,dx,_,rfl,Y,rfl,_,rfl,T,la,sa,ls,cs,R,S,d,rfl,U,hR,hS,λl H1 t Z O a0 B N r=>?_⟩;have C:t.length=Z.length:=N.length;have a1:t.length<=R.length:=Fm.wP (r.ord.imp λ{x y} e z=>by rw[z,Stree.wZ]at e;cases e) λx hx=>((r.mem x).mp hx).1;refine⟨l,rfl,⟨_,SqL.of B⟩,λD u=>?_⟩;refine aWP (λm=>decide (jZ R S (t.getD m 0)<d)) (λm=>V.int (t.getD m 0:Nat)) (SqL.of B) u (zn (by omega)) (λj v M H' R' J o=>?_) (λj v M _ H' R' J o=>?_) ?_
 ·obtain⟨k,I,p,L,G⟩:=bX6 N M;subst L;have:t.getD j 0=k:=by simp[cQv,I]
  rw[this]at o;exact⟨_,rfl,p,_,0,_,rfl,rfl,SqT.of ((J p (yJ G u)).trans G),rfl,_,rfl,_,_,rfl,rfl,_,rfl,o⟩
 ·obtain⟨k,I,p,L,G⟩:=bX6 N M;subst L;have:t.getD j 0=k:=by simp[cQv,I]
  rw[this]at o;exact⟨_,rfl,p,_,1,_,rfl,rfl,SqT.of ((J p (yJ G u)).trans G),rfl,o⟩
 ·have e:=aZE t (λk=>decide (jZ R S k<d)) λi=>V.int (i:Nat);rw[C]at e;rw[e];refine q D _ (t.filter λk=>decide (jZ R S k<d)) (O.trans (yG u _)) (O.fresh u) yB ⟨λk=>?_,r.ord.sublist cXN⟩;rw[cQT,r.mem k,decide_eq_true_eq];unfold jZ;constructor
  ·rintro⟨⟨a,b,_⟩,c⟩;exact⟨a,b,λ_=>c⟩
  ·rintro⟨a,b,c⟩;exact⟨⟨a,b,λz=>by cases z⟩,c rfl⟩
end
end Desk
namespace Desk
open PySem L2 PyProof.Rows
open Bk (Row Rows)
def own(la sa:Nat)(ls cs:List Nat):List Nat:=la::sa::(ls++cs)
def Y6(o:List Nat)(H c:Hp):Prop:=∀b u,b∉o->(∀a,u≠ .tbl a)->H b=some u->c b=some u
def Y6.of{o:List Nat}{H a:Hp}(k:x3 H a):Y6 o H a:=λb u _ n e=>k b u n e
def Y6.trans{o:List Nat}{H d f:Hp}(a:Y6 o H d)(b:Y6 o d f):Y6 o H f:=λc u n t e=>b c u n t (a c u n t e)
def Y6.upd{o:List Nat}{H:Hp}{b:Nat}(a:b∈o)(u:HO):Y6 o H (upd H b u):=λc v n _ e=>by
 rw[yI (λz=>n (by rw[z];exact a))];exact e
def aVR{la sa:Nat}{ls cs:List Nat}:la∈own la sa ls cs:=bY0
def aYS{la sa:Nat}{ls cs:List Nat}:sa∈own la sa ls cs:=bYX _ bY0
def aJ0{la sa b:Nat}{ls cs:List Nat}(h:b∈ls):b∈own la sa ls cs:=bYX _ (bYX _ (cXI _ h))
def bVq{la sa b:Nat}{ls cs:List Nat}(h:b∈cs):b∈own la sa ls cs:=bYX _ (bYX _ (bY9 _ h))
section
variable {CB CL:Nat}{H:Hp}{ba la sa:Nat}{ls cs:List Nat}{R:Rows}{S:List Int}
def PB.l_ne(h:PB CB CL H ba la sa ls cs R S){b a:Nat}{xs:List V}(j:b∈ls)(f:H a=some (.lst xs)):a≠b:=λz=>by
 obtain⟨i,d,e⟩:=cQC j;obtain⟨l,o,n,c,m,⟨p,g⟩,k⟩:=h.get (bYK (show i<R.length by rw[<- h.len];exact d));rw[bYK d,e]at c;cases c;rw[z,g]at f;cases f
def PB.ba_ne(h:PB CB CL H ba la sa ls cs R S):ba∉ls:=λz=>by
 obtain⟨i,b,e⟩:=cQC z;obtain⟨j,m,l,a,k,⟨n,d⟩,g⟩:=h.get (bYK (show i<R.length by rw[<- h.len];exact b));rw[bYK b,e]at a;cases a;obtain⟨f,c⟩:=h.book;rw[d]at c;cases c
def PB.set(h:PB CB CL H ba la sa ls cs R S){k:Nat}{b c dx:Nat}{r:Row}(l:ls[k]? =some b)(s:cs[k]? =some c)(t:R[k]? =some r)(f:Row->Row)(v:(f r).copies=r.copies): PB CB CL (upd H b (.ins CL dx (aZK k (f r) c))) ba la sa ls cs (Bk.xO R k f) S:=by
 have a:=bY3 l;refine⟨?_,?_,?_,by rw[Bk.zU];exact h.len,by rw[Bk.zU];exact h.clen,h.nd,h.cnd,h.las,h.lac,h.sac,λi u x A m n j=>?_⟩
 ·obtain⟨d,e⟩:=h.book;exact⟨d,by rw[yI (λz=>h.ba_ne (by rw[z];exact a))];exact e⟩
 ·rw[yI (h.l_ne a h.lst)];exact h.lst
 ·rw[yI (h.l_ne a h.sht)];exact h.sht
 ·rw[Bk.zM]at j;by_cases e:i=k
  ·subst e;rw[if_pos rfl,t]at j;cases j;rw[l]at m;cases m;rw[s]at n;cases n;obtain⟨_,g⟩:=h.row i b c r l s t;refine⟨⟨dx,yB⟩,?_⟩;rw[yI (h.l_ne a g),v];exact g
  ·rw[if_neg e]at j;obtain⟨⟨d,B⟩,g⟩:=h.row i u x A m n j;have q:u≠b:=λz=>by
    subst z;obtain⟨w,o⟩:=bYW.mp m;obtain⟨y,p⟩:=bYW.mp l;exact e ((cXA h.nd).mp (o.trans p.symm))
   exact⟨⟨d,by rw[yI q];exact B⟩,by rw[yI (h.l_ne a g)];exact g⟩
def PB.copy(h:PB CB CL H ba la sa ls cs R S){k:Nat}{c:Nat}{r:Row}(f:cs[k]? =some c)(n:R[k]? =some r)(g:Str): PB CB CL (upd H c (.lst ((r.copies++ [g]).map V.str))) ba la sa ls cs (Bk.xO R k λr=>{r with copies:=r.copies++ [g] }) S:=by
 have j:=bY3 f;obtain⟨b0,I,K,G,y,⟨B,J⟩,A⟩:=h.get n;rw[f]at y;cases y;have o:∀ {a C dx fs},H a=some (.ins C dx fs)->a≠c:=λq z=>by rw[z,A]at q;cases q
 refine⟨?_,?_,?_,by rw[Bk.zU];exact h.len,by rw[Bk.zU];exact h.clen,h.nd,h.cnd,h.las,h.lac,h.sac,λi v w F x m d=>?_⟩
 ·obtain⟨b,e⟩:=h.book;exact⟨b,by rw[yI (o e)];exact e⟩
 ·rw[yI (λz=>h.lac (by rw[z];exact j))];exact h.lst
 ·rw[yI (λz=>h.sac (by rw[z];exact j))];exact h.sht
 ·rw[Bk.zM]at d;by_cases e:i=k
  ·subst e;rw[if_pos rfl,n]at d;cases d;rw[f]at m;cases m;obtain⟨⟨b,l⟩,u⟩:=h.row i v c r x f n;exact⟨⟨b,by rw[yI (o l)];exact l⟩,yB⟩
  ·rw[if_neg e]at d;obtain⟨⟨b,l⟩,u⟩:=h.row i v w F x m d;have p:w≠c:=λz=>by
    subst z;obtain⟨D,s⟩:=bYW.mp m;obtain⟨E,t⟩:=bYW.mp f;exact e ((cXA h.cnd).mp (s.trans t.symm))
   exact⟨⟨b,by rw[yI (o l)];exact l⟩,by rw[yI p];exact u⟩
def PB.shutD(h:PB CB CL H ba la sa ls cs R S)(d:Int):PB CB CL (upd H sa (.lst ((S++ [d]).map V.int))) ba la sa ls cs R (S++ [d]):=by
 have c:∀ {a C dx fs},H a=some (.ins C dx fs)->a≠sa:=λq z=>by rw[z,h.sht]at q;cases q
 refine⟨?_,?_,yB,h.len,h.clen,h.nd,h.cnd,h.las,h.lac,h.sac,λi m n o j g l=>?_⟩
 ·obtain⟨b,e⟩:=h.book;exact⟨b,by rw[yI (c e)];exact e⟩
 ·rw[yI h.las];exact h.lst
 ·obtain⟨⟨b,f⟩,k⟩:=h.row i m n o j g l;exact⟨⟨b,by rw[yI (c f)];exact f⟩,by rw[yI (λz=>h.sac (by rw[<- z];exact bY3 g))];exact k⟩
def PB.enter(h:PB CB CL H ba la sa ls cs R S){l c dx:Nat}{r:Row}{s:Hp}(hl:H l=none)(g:H c=none)(I:l≠c)(K:r.copies= [])(N:s l=some (.ins CL dx (aZK R.length r c)))(M:s c=some (.lst [])) (k:∀b o,H b=some o->s b=some o):PB CB CL (upd s la (.lst ((ls++ [l]).map V.ref))) ba la sa (ls++ [l]) (cs++ [c]) (R++ [r]) S:=by
 have v:l≠la:=λz=>by rw[z,h.lst]at hl;cases hl
 have m:c≠la:=λz=>by rw[z,h.lst]at g;cases g
 have G:∀ {a C dx fs},H a=some (.ins C dx fs)->a≠la:=λq z=>by rw[z,h.lst]at q;cases q
 have L:∀i b,ls[i]? =some b->i<R.length:=λi b q=>by rw[<- h.len];exact(bYW.mp q).1
 have nl:l∉ls:=λz=>by obtain⟨i,d,e⟩:=cQC z;obtain⟨x,y,u,j,A,⟨f,F⟩,E⟩:=h.get (bYK (show i<R.length by rw[<- h.len];exact d));rw[bYK d,e]at j;cases j;rw[F]at hl;cases hl
 have J:c∉cs:=λz=>by obtain⟨i,d,e⟩:=cQC z;obtain⟨x,y,u,j,A,F,E⟩:=h.get (bYK (show i<R.length by rw[<- h.clen];exact d));rw[bYK d,e]at A;cases A;rw[E]at g;cases g
 refine⟨?_,yB,?_,by simp[h.len],by simp[h.clen],?_,?_,h.las,?_,?_,λi x y O t p n=>?_⟩
 ·obtain⟨f,e⟩:=h.book;exact⟨f,by rw[yI (G e)];exact k _ _ e⟩
 ·rw[yI (cQu h.las)];exact k _ _ h.sht
 ·exact cZe.mpr ⟨h.nd,cXb _ _,λa D b w z=>nl (by rw[<- bY2.mp w,<- z];exact D)⟩
 ·exact cZe.mpr ⟨h.cnd,cXb _ _,λa D b w z=>J (by rw[<- bY2.mp w,<- z];exact D)⟩
 ·intro z;rcases cQp.mp z with z|z
  ·exact h.lac z
  ·exact m (bY2.mp z).symm
 ·intro z;rcases cQp.mp z with z|z
  ·exact h.sac z
  ·rw[<- bY2.mp z,h.sht]at g;cases g
 ·by_cases d:i<R.length
  ·rw[cQs (by rw[h.len];exact d)]at t;rw[cQs (by rw[h.clen];exact d)]at p;rw[cQs d]at n;obtain⟨⟨f,u⟩,j⟩:=h.row i x y O t p n;exact⟨⟨f,by rw[yI (G u)];exact k _ _ u⟩,by rw[yI (λz=>h.lac (by rw[<- z];exact bY3 p))];exact k _ _ j⟩
  ·have B:i=R.length:=by
    have:=(bYW.mp n).1;simp at this;omega
   subst B;rw[cQb (by rw[h.len];exact bYS _),h.len,cQ7]at t;rw[cQb (by rw[h.clen];exact bYS _),h.clen,cQ7]at p;rw[cQb (bYS _),cQ7]at n;cases t;cases p;cases n;exact⟨⟨dx,by rw[yI v];exact N⟩,by rw[yI m,M,K];rfl⟩
end
inductive aVs(CB:Nat)(vs:List V)(H:Hp)(Q:VK)(_:XK):Prop|mk (x dx:Nat) (_:vs= [.ref x]) (_:H x=some (.ins CB dx [])) (_:∀ (la sa:Nat)(H':Hp),H la=none->H sa=none->la≠sa->H' x=some (.ins CB dx [("letters",.ref la),("shut",.ref sa)])->H' la=some (.lst [])->H' sa=some (.lst [])->(∀b,b≠x->b≠la->b≠sa->H' b=H b)->Q .non H')
inductive bV2(CB CL:Nat)(vs:List V)(H:Hp)(Q:VK)(_:XK):Prop|mk (ba la sa:Nat) (ls cs:List Nat) (R:Rows) (S:List Int) (way:Str) (d:Int) (who:Str) (t:Int) (_:vs= [.ref ba,.str way,.int d,.str who,.int t]) (_:PB CB CL H ba la sa ls cs R S) (_:R.length<=1000) (_:∀ (l c:Nat)(H':Hp),H l=none->H c=none->PB CB CL H' ba la sa (ls++ [l]) (cs++ [c]) (R++ [⟨way,d,who,t,none,"",false,[]⟩]) S->(∀b o,b≠la->H b=some o->H' b=some o)->Q (.ref l) H')
inductive aZd(K:bYM)(Rf:Nat×Nat)(vs:List V)(H:Hp)(Q:VK)(E:XK):Prop|mk (t:Int) (_:vs= [.int t]) (_:(0<=t->Q .non H)) (_:(t<0->xK K Rf H E "no term"))
inductive aZb(K:bYM)(Rf:Nat×Nat)(vs:List V)(H:Hp)(Q:VK)(E:XK):Prop|mk (a b:Int) (_:vs= [.int a,.int b]) (_:(a<=b->Q .non H)) (_:(b<a->xK K Rf H E "too early"))
section
variable {K:bYM}
abbrev aY7:Stmt:=xI "Book" "__init__"
abbrev bKY:Stmt:=xI "Book" "add_letter"
abbrev bQk:Stmt:=xF "check_term"
abbrev bQb:Stmt:=xF "check_days"
def bZn:yN ["self"] ["self"] (yH aY7):=scM
def bXN(cl:Cl K CB CL)(F:Fun K "__init__" "Book.__init__" aY7 f fd):xE P w K mg base CX0 (n+1) f fd ["self"] (aVs CB):=by
 have o:=bZn;refine F.ok (k:=n) o (λt A outer s H u Q E v h=>?_);obtain⟨x,l,rfl,j,q⟩:=h;refine⟨_,(yC (zQ (pv 0) (y6 yD) rfl) (yF (zQ (pv 0) (y6 yD) rfl))),?_⟩;refine⟨z0,λla g=>?_⟩;have c:x≠la:=yJ j g;refine⟨_,rfl,x,CB,l,_,rfl,(yI c).trans j,cl.b,cl.letters,(show 0<1000 by decide),?_⟩;refine⟨z0,λsa a=>?_⟩;have d:x≠sa:=yJ yB a;have e:la≠sa:=λz=>by rw[<- z,yI (cQu c),yB]at a;cases a
 refine⟨_,rfl,x,CB,l,_,rfl,(yI d).trans yB,cl.b,cl.shut,(show 1<1000 by decide),?_⟩;have i:H sa=none:=by rw[yI (cQu d),yI (cQu e)]at a;exact a
 refine q la sa _ g i e yB ?_ ?_ λb m r p=>?_
 ·rw[yI (cQu c),yI e,yI (cQu c),yB]
 ·rw[yI (cQu d),yB]
 ·rw[yI m,yI p,yI m,yI r]
def bW9:yN ["self","way","day","partner","term","letter"] ["self","way","day","partner","term"] (yH bKY):=scM
def bWQ(T:vJ mg)(cl:Cl K CB CL)(a:MkG P w K mg base n "Letter" CL ["self","number","way","day","partner","term"] (bQO CL))(F:Fun K "add_letter" "Book.add_letter" bKY f fd): xE P w K mg base CX0 (n+2) f fd ["self","way","day","partner","term"] (bV2 CB CL):=by
 have M:=bW9;refine F.ok (k:=n+1) M (λO A outer s H vs Q E U h=>?_);obtain⟨ba,la,sa,ls,cs,R,S,u,d,B,t,rfl,l,hR,q⟩:=h;refine⟨_,(yC (yU (i:=5) (bKU a U rfl (yA (yQ yO rfl T.b_len xB (yA (y3 (pv 0) rfl) yD)) (yA (pv 1) (yA (pv 2) (yA (pv 3) (yA (pv 4) yD))))))) (yC (yY (vM cQa cQh cQi xD (y3 (pv 0) rfl) (yA (pv 5) yD))) (yF (yP (pv 5))))),?_⟩;obtain⟨J,I⟩:=l.book;have hl:(ls.map V.ref).length=R.length:=by rw[bYP];exact l.len
 refine⟨_,rfl,ba,CB,J,_,_,rfl,I,cl.b,cl.letters,rfl,la,_,rfl,.inl (SqL.of l.lst),?_⟩;rw[hl];refine⟨_,rfl,_,rfl,_,rfl,_,rfl,λx xd D G v=>?_⟩;refine⟨x,xd,R.length,u,d,B,t,rfl,yB,λc Y j Z N L=>⟨rfl,?_⟩⟩;dsimp only[yW];have r:c≠x:=λz=>by rw[z,yB]at j;cases j
 have C:c≠xd:=λz=>by rw[z,yI v,yB]at j;cases j
 have g:H c=none:=by rw[yI r,yI C]at j;exact j
 have m:∀b o,H b=some o->Y b=some o:=λb o e=>by have b1:=yJ e D;have X:=yJ e g;have W:=yJ e G;rw[L b b1 X,yI b1,yI W];exact e
 refine⟨_,rfl,ba,CB,J,_,_,rfl,m _ _ I,cl.b,cl.letters,rfl,.inl ⟨rfl,_,SqL.of (m _ _ l.lst)⟩,_,rfl,la,_,_,rfl,rfl,m _ _ l.lst,zlt (by omega),?_⟩;refine⟨_,rfl,?_⟩;have p:=l.enter D g (cQu r) rfl Z N m;rw[cQ5]at p;refine q x c _ D g p λb o y e=>?_;rw[yI y];exact m b o e
def bZB:yN ["term"] ["term"] (yH bQk):=scM
def bX1(a:ExG P w K mg base n "NoTerm" Rf.1 C1 "no term")(F:Fun K "check_term" "check_term" bQk f fd):xE P w K mg base (CXR P w) (n+2) f fd ["term"] (aZd K Rf):=by
 have d:=bZB;refine F.okX (k:=n+1) d (λe A outer s H i Q E b h=>?_);obtain⟨t,rfl,q,g⟩:=h;refine⟨_,(yF (y7 (yM vL (pv 0) yE) (yF (wB a b rfl)) yS)),?_⟩;refine⟨_,rfl,_,_,rfl,rfl,_,rfl,?_⟩;refine qB (λc=>?_) (λc=>?_)
 ·exact(g (of_decide_eq_true c)).raise a
 ·exact q (by have:=of_decide_eq_false (Bool.eq_false_iff.mpr c);omega)
def bZr:yN ["asked_day","reply_day"] ["asked_day","reply_day"] (yH bQb):=scM
def bXR(d:ExG P w K mg base n "TooEarly" Rf.1 C1 "too early")(F:Fun K "check_days" "check_days" bQb f fd):xE P w K mg base (CXR P w) (n+2) f fd ["asked_day","reply_day"] (aZb K Rf):=by
 have e:=bZr;refine F.okX (k:=n+1) e (λg A outer s H l Q E i h=>?_);obtain⟨a,b,rfl,q,j⟩:=h;refine⟨_,(yF (y7 (yM vL (pv 1) (pv 0)) (yF (wB d i rfl)) yS)),?_⟩;refine⟨_,rfl,_,rfl,_,_,rfl,rfl,_,rfl,?_⟩;refine qB (λc=>?_) (λc=>?_)
 ·exact(j (of_decide_eq_true c)).raise d
 ·exact q (by have:=of_decide_eq_false (Bool.eq_false_iff.mpr c);omega)
end
end Desk
namespace Desk
open PySem L2 PyProof.Rows
open Bk (Row Rows)
def vO(o:List Nat)(H a:Hp):Prop:=∀b u,b∉o->H b=some u->a b=some u
def vO.of{o:List Nat}{H a:Hp}(k:xC H a):vO o H a:=λb u _ e=>k b u e
def vO.trans{o:List Nat}{H d f:Hp}(a:vO o H d)(b:vO o d f):vO o H f:=λc u n e=>b c u n (a c u n e)
def vO.upd{o:List Nat}{H:Hp}{b:Nat}(a:b∈o)(u:HO):vO o H (upd H b u):=λc v n e=>by
 rw[yI (λz=>n (by rw[z];exact a))];exact e
def vO.t{o:List Nat}{H a:Hp}(k:vO o H a):Y6 o H a:=λb u n _ e=>k b u n e
def qP(H:Hp)(o a:List Nat):Prop:=∀b∈a,b∈o\/H b=none
def qP.refl{H:Hp}{o:List Nat}:qP H o o:=λb h=> .inl h
def qP.snoc{H:Hp}{la sa l c:Nat}{ls cs:List Nat}(hl:H l=none)(a:H c=none):qP H (own la sa ls cs) (own la sa (ls++ [l]) (cs++ [c])):=λb h=>by
 rcases bYU.mp h with e|h
 ·exact .inl (by rw[e];exact aVR)
 rcases bYU.mp h with e|h
 ·exact .inl (by rw[e];exact aYS)
 rcases cQp.mp h with h|h
 ·rcases cQp.mp h with h|h
  ·exact .inl (aJ0 h)
  ·exact .inr (by rw[bY2.mp h];exact hl)
 ·rcases cQp.mp h with h|h
  ·exact .inl (bVq h)
  ·exact .inr (by rw[bY2.mp h];exact a)
def aZf(g CL f la sa:Nat)(ls cs:List Nat)(H:Hp)(d:Rows)(e:List Int)(q:Hp->Prop):Prop:=∀ (c:Hp)(b a:List Nat),PB g CL c f la sa b a d e->vO (own la sa ls cs) H c->qP H (own la sa ls cs) (own la sa b a)->q c
def bWL(i:Nat)(r:Row)(c:Nat)(t:Int):List (Str×V):=
 [("number",.int (i:Nat)),("way",.str r.way),("day",.int r.date),("partner",.str r.partner),("term",.int t),("link",w6 r.link),("file",X2 r),("copies",.ref c),("void",.bl r.void)]
inductive bQN(K:bYM)(Rf:Nat×Nat)(CB CL:Nat)(vs:List V)(H:Hp)(Q:VK)(E:XK):Prop|mk (ba la sa:Nat) (ls cs:List Nat) (R:Rows) (S:List Int) (way:Str) (d:Int) (who:Str) (t:Int) (_:vs= [.ref ba,.str way,.int d,.str who,.int t]) (_:PB CB CL H ba la sa ls cs R S) (_:R.length<=1000) (_:(0<=t->aZf CB CL ba la sa ls cs H (R++ [⟨way,d,who,t,none,"",false,[]⟩]) S (Q (.int (R.length:Nat))))) (_:(t<0->xK K Rf H E "no term"))
inductive bQS(K:bYM)(Rf:Nat×Nat)(CB CL:Nat)(vs:List V)(H:Hp)(Q:VK)(E:XK):Prop|mk (ba la sa:Nat) (ls cs:List Nat) (R:Rows) (S:List Int) (m d t:Int) (_:vs= [.ref ba,.int m,.int d,.int t]) (_:PB CB CL H ba la sa ls cs R S) (_:R.length<=1000) (_:(Bk.wW R m=false->xK K Rf H E "no letter")) (_:(Bk.wW R m=true->t<0->xK K Rf H E "no term")) (_:∀ (k:Nat)(r:Row),m=(k:Int)->R[k]? =some r->r.void=false->0<=t->(d<r.date->xK K Rf H E "too early")/\(r.date<=d->aZf CB CL ba la sa ls cs H (R++ [⟨Bk.uY r.way,d,r.partner,t,some k,r.place,false,[]⟩]) S (Q (.int (R.length:Nat)))))
inductive aWe(K:bYM)(Rf:Nat×Nat)(CB CL:Nat)(vs:List V)(H:Hp)(Q:VK)(E:XK):Prop|mk (ba la sa:Nat) (ls cs:List Nat) (R:Rows) (S:List Int) (m:Int) (_:vs= [.ref ba,.int m]) (_:PB CB CL H ba la sa ls cs R S) (_:(Bk.wW R m=false->xK K Rf H E "no letter")) (_:∀ (k:Nat)(r:Row),m=(k:Int)->R[k]? =some r->r.void=false->(r.link=none->xK K Rf H E "has none")/\(r.link≠none->aZf CB CL ba la sa ls cs H (Bk.xO R k λr=>{r with link:=none}) S (Q .non)))
inductive aJd(K:bYM)(Rf:Nat×Nat)(CB CL:Nat)(vs:List V)(H:Hp)(Q:VK)(E:XK):Prop|mk (ba la sa:Nat) (ls cs:List Nat) (R:Rows) (S:List Int) (m t:Int) (_:vs= [.ref ba,.int m,.int t]) (_:PB CB CL H ba la sa ls cs R S) (_:(Bk.wW R m=false->xK K Rf H E "no letter")) (_:∀ (k:Nat)(r:Row),m=(k:Int)->R[k]? =some r->r.void=false->(t<0->xK K Rf H E "no term")/\(0<=t->aZf CB CL ba la sa ls cs H (Bk.xO R k λr=>{r with term:=t}) S (Q .non)))
inductive bJt(K:bYM)(Rf:Nat×Nat)(CB CL:Nat)(vs:List V)(H:Hp)(Q:VK)(E:XK):Prop|mk (ba la sa:Nat) (ls cs:List Nat) (R:Rows) (S:List Int) (m:Int) (who:Str) (_:vs= [.ref ba,.int m,.str who]) (_:PB CB CL H ba la sa ls cs R S) (_:(∀r∈R,r.copies.length<=1000)) (_:(Bk.wW R m=false->xK K Rf H E "no letter")) (_:∀ (k:Nat)(r:Row),m=(k:Int)->R[k]? =some r->r.void=false->(who=r.partner\/who∈r.copies->xK K Rf H E "copied")/\(who≠r.partner->who∉r.copies->aZf CB CL ba la sa ls cs H (Bk.xO R k λr=>{r with copies:=r.copies++ [who] }) S (Q (.int ((r.copies.length:Nat)+1)))))
inductive aV8(K:bYM)(Rf:Nat×Nat)(CB CL:Nat)(vs:List V)(H:Hp)(Q:VK)(E:XK):Prop|mk (ba la sa:Nat) (ls cs:List Nat) (R:Rows) (S:List Int) (m:Int) (_:vs= [.ref ba,.int m]) (_:PB CB CL H ba la sa ls cs R S) (_:R.length<=100) (_:(Bk.wW R m=false->xK K Rf H E "no letter")) (_:∀ (k:Nat)(r:Row),m=(k:Int)->R[k]? =some r->r.void=false->(Bk.z9 R k≠ []->xK K Rf H E "answered")/\(Bk.z9 R k= []->aZf CB CL ba la sa ls cs H (Bk.xO R k λr=>{r with link:=none,void:=true}) S (Q .non)))
inductive bJu(K:bYM)(Rf:Nat×Nat)(CB CL:Nat)(vs:List V)(H:Hp)(Q:VK)(E:XK):Prop|mk (ba la sa:Nat) (ls cs:List Nat) (R:Rows) (S:List Int) (d:Int) (_:vs= [.ref ba,.int d]) (_:PB CB CL H ba la sa ls cs R S) (_:S.length<=1000) (_:(Dm.cts S d=false->xK K Rf H E "counts not")) (_:(Dm.cts S d=true->aZf CB CL ba la sa ls cs H R (S++ [d]) (Q .non)))
inductive aWf(K:bYM)(Rf:Nat×Nat)(CB CL:Nat)(vs:List V)(H:Hp)(Q:VK)(E:XK):Prop|mk (ba la sa:Nat) (ls cs:List Nat) (R:Rows) (S:List Int) (m d:Int) (_:vs= [.ref ba,.int m,.int d]) (_:PB CB CL H ba la sa ls cs R S) (_:R.length<=100) (_:Bk.Y4 R) (_:(Bk.wW R m=false->xK K Rf H E "no letter")) (_:∀ (k:Nat)(r:Row),m=(k:Int)->R[k]? =some r->r.void=false->(((∃j,r.link=some j/\d<Bk.dt R j)\/∃c∈Bk.z9 R k,Bk.dt R c<d)->xK K Rf H E "too early")/\((∀j,r.link=some j->Bk.dt R j<=d)->(∀c∈Bk.z9 R k,d<=Bk.dt R c)->aZf CB CL ba la sa ls cs H (Bk.xO R k λr=>{r with date:=d}) S (Q .non)))
def aKz(R:Rows)(r:Row)(f:Row->Row):Bk.xO (R++ [r]) R.length f=R++ [f r]:=by
 apply cX3;intro i;rw[Bk.zM];by_cases e:i=R.length
 ·subst e;rw[if_pos rfl,cQb (bYS _),cQb (bYS _),cQ7];rfl
 ·rw[if_neg e];by_cases h:i<R.length
  ·rw[cQs h,cQs h]
  ·rw[cQl (by simp;omega),cQl (by simp;omega)]
section
variable {K:bYM}
abbrev bQd:Stmt:=xI "Book" "enter"
abbrev bQi:Stmt:=xI "Book" "reply"
abbrev aVd:Stmt:=xI "Book" "loosen"
abbrev aXY:Stmt:=xI "Book" "put_term"
abbrev bVH:Stmt:=xI "Book" "send_copy"
abbrev aJ9:Stmt:=xI "Book" "cancel"
abbrev bVI:Stmt:=xI "Book" "shut_day"
abbrev aVe:Stmt:=xI "Book" "put_day"
def bZt:yN ["self","way","day","partner","term"] ["self","way","day","partner","term"] (yH bQd):=scM
def bXT(cl:Cl K CB CL)(g:FnX P w K mg base n "check_term" ["term"] (aZd K Rf))(a:MG P w K mg base CX0 n CB "add_letter" ["self","way","day","partner","term"] (bV2 CB CL)) (F:Fun K "enter" "Book.enter" bQd f fd):xE P w K mg base (CXR P w) (n+1) f fd ["self","way","day","partner","term"] (bQN K Rf CB CL):=by
 have C:=bZt;refine F.okX (k:=n) C (λI A outer s H Y Q E v h=>?_);obtain⟨r,O,T,x,y,R,S,m,d,o,t,rfl,j,hR,q,N⟩:=h;refine⟨_,(yC (yY (aQE g v rfl (yA (pv 4) yD))) (yF (yP (y3 (v1 a v v0 (pv 0) (yA (pv 1) (yA (pv 2) (yA (pv 3) (yA (pv 4) yD))))) rfl)))),?_⟩;obtain⟨U,L⟩:=j.book;refine⟨_,rfl,t,rfl,λJ=>?_,N⟩;refine⟨_,rfl,r,U,_,rfl,L,rfl,_,rfl,_,rfl,_,rfl,_,rfl,r,O,T,x,y,R,S,m,d,o,t,rfl,j,hR,λl c M hl D i B=>?_⟩;have V:(x++ [l])[R.length]? =some l:=by rw[<- j.len,cQb (bYS _),cQ7];rfl
 have G:(y++ [c])[R.length]? =some c:=by rw[<- j.clen,cQb (bYS _),cQ7];rfl
 obtain⟨⟨p,W⟩,X⟩:=i.row R.length l c _ V G (by rw[cQb (bYS _),cQ7];rfl);exact⟨l,CL,p,_,_,rfl,W,cl.l,cl.number,rfl,q J M _ _ i (λb u n e=>B b u (λz=>n (by rw[z];exact aVR)) e) (qP.snoc hl D)⟩
def bZy:yN ["self","number","day","term","asked","letter"] ["self","number","day","term"] (yH bQi):=scM
def qX{R:Rows}{k:Nat}{r:Row}(b:R[k]? =some r)(a:r.void=false):Bk.wW R (k:Int)=true:=by rw[aZz b,a];rfl
def aXH{r:Row}(a:r.void=false):X2 r= .str r.place:=by unfold X2;rw[a];rfl
def bZR{r:Row}(a:r.void=false):Q0 r=r.term:=by unfold Q0;rw[a];rfl
def bXY(cl:Cl K CB CL)(o:MG P w K mg base (CXR P w) n CB "letter_at" ["self","number"] (aV6 K Rf CB CL))(j:FnX P w K mg base n "check_term" ["term"] (aZd K Rf)) (g:FnX P w K mg base n "check_days" ["asked_day","reply_day"] (aZb K Rf)) (p:FnG P w K mg base n "other_way" ["way"] bQQ) (a:MG P w K mg base CX0 n CB "add_letter" ["self","way","day","partner","term"] (bV2 CB CL)) (F:Fun K "reply" "Book.reply" bQi f fd):xE P w K mg base (CXR P w) (n+1) f fd ["self","number","day","term"] (bQS K Rf CB CL):=by
 have sc:=bZy;refine F.okX (k:=n) sc (λa0 A outer s H vs Q E C h=>?_);obtain⟨J,V,sa,L,I,R,S,m,d,t,rfl,B,hR,q1,q2,q3⟩:=h;refine⟨_,(yC (yU (i:=4) (v1 o C zZ (pv 0) (yA (pv 1) yD))) (yC (yY (aQE j C rfl (yA (pv 3) yD))) (yC (yY (aQE g C rfl (yA (y3 (pv 4) rfl) (yA (pv 2) yD)))) (yC (yU (i:=5) (v1 a C v0 (pv 0) (yA (xJ p C rfl (yA (y3 (pv 4) rfl) yD)) (yA (pv 2) (yA (y3 (pv 4) rfl) (yA (pv 3) yD)))))) (yC (zQ (pv 5) (pv 1) rfl) (yC (zQ (pv 5) (y3 (pv 4) rfl) rfl) (yF (yP (y3 (pv 5) rfl))))))))),?_⟩;obtain⟨M,hb⟩:=B.book;refine⟨_,rfl,J,M,_,rfl,hb,rfl,_,rfl,J,V,sa,L,I,R,S,m,rfl,B,λk r b em Y N W=>?_,q1⟩;subst em;obtain⟨U,cc,g1,g2,g3,⟨v,y⟩,g5⟩:=B.get Y;obtain rfl:b=U:=bY6 (W.symm.trans g2);dsimp only[yW];refine⟨_,rfl,t,rfl,λT=>?_,λT=>q2 (qX Y N) T⟩;obtain⟨q4,q5⟩:=q3 k r rfl Y N T;refine⟨_,rfl,b,CL,v,_,_,rfl,y,cl.l,cl.day,rfl,_,rfl,r.date,d,rfl,λhd=>?_,q4⟩;refine⟨_,rfl,J,M,_,rfl,hb,rfl,_,rfl,b,CL,v,_,_,rfl,y,cl.l,cl.way,rfl,r.way,rfl,_,rfl,_,rfl,b,CL,v,_,_,rfl,y,cl.l,cl.partner,rfl,_,rfl,J,V,sa,L,I,R,S,Bk.uY r.way,d,r.partner,t,rfl,B,hR,λl c H1 hl hc G k1=>?_⟩;dsimp only[yW];have h1:(L++ [l])[R.length]? =some l:=by rw[<- B.len,cQb (bYS _),cQ7];rfl
 have h2:(I++ [c])[R.length]? =some c:=by rw[<- B.clen,cQb (bYS _),cQ7];rfl
 have h3:(R++ [(⟨Bk.uY r.way,d,r.partner,t,none,"",false,[]⟩:Row)])[R.length]? =some ⟨Bk.uY r.way,d,r.partner,t,none,"",false,[]⟩:=by rw[cQb (bYS _),cQ7];rfl
 obtain⟨⟨q,f1⟩,f2⟩:=G.row R.length l c _ h1 h2 h3;refine⟨_,rfl,_,rfl,l,CL,q,_,rfl,f1,cl.l,cl.link,(show 9<1000 by decide),?_⟩;have O:b≠l:=yJ y hl;have Z:b≠V:=λz=>by rw[z,B.lst]at y;cases y
 have X:upd H1 l (.ins CL q (aXh "link" (.int (k:Nat)) (aZK R.length ⟨Bk.uY r.way,d,r.partner,t,none,"",false,[]⟩ c))) b=some (.ins CL v (aZK k r cc)):=(yI O).trans (k1 _ _ Z y);refine⟨_,rfl,b,CL,v,_,_,rfl,X,cl.l,cl.file,rfl,_,rfl,l,CL,q,_,rfl,yB,cl.l,cl.file,(show 9<1000 by decide),?_⟩;rw[jD];refine⟨_,rfl,l,CL,q,_,_,rfl,yB,cl.l,cl.number,rfl,?_⟩;have D:=G.set (dx:=q) h1 h2 h3 (λx=>{x with link:=some k,place:=r.place}) rfl;rw[aKz]at D;have e9:aXh "file" (X2 r) (aXh "link" (.int (k:Nat)) (aZK R.length ⟨Bk.uY r.way,d,r.partner,t,none,"",false,[]⟩ c))=aZK R.length ⟨Bk.uY r.way,d,r.partner,t,some k,r.place,false,[]⟩ c:=by rw[aXH N];rfl
 refine q5 hd _ (L++ [l]) (I++ [c]) ?_ (λU u nb e=>?_) (qP.snoc hl hc)
 ·rw[e9];exact D
 ·rw[yI (λz=>by rw[z]at e;rw[hl]at e;cases e)];exact k1 U u (λz=>nb (by rw[z];exact aVR)) e
def bQz:yN ["self","number","letter"] ["self","number"] (yH aVd):=scM
def aYM(cl:Cl K CB CL)(c:MG P w K mg base (CXR P w) (n+1) CB "letter_at" ["self","number"] (aV6 K Rf CB CL))(a:ExG P w K mg base n "HasNone" Rf.1 C1 "has none") (F:Fun K "loosen" "Book.loosen" aVd f fd):xE P w K mg base (CXR P w) (n+2) f fd ["self","number"] (aWe K Rf CB CL):=by
 have x:=bQz;refine F.okX (k:=n+1) x (λz A outer s H W Q E u h=>?_);obtain⟨t,I,M,L,O,R,S,m,rfl,g,D,C⟩:=h;refine⟨_,(yC (yU (i:=2) (v1 c u zZ (pv 0) (yA (pv 1) yD))) (yC (y7 (yM aXr (y3 (pv 2) rfl) x6) (yF (wB a u rfl)) yS) (yF (zQ (pv 2) x6 rfl)))),?_⟩;obtain⟨T,B⟩:=g.book;refine⟨_,rfl,t,T,_,rfl,B,rfl,_,rfl,t,I,M,L,O,R,S,m,rfl,g,λk r b J p V q=>?_,D⟩;obtain⟨G,Y,Z,o,N,⟨d,v⟩,X⟩:=g.get p;obtain rfl:b=G:=bY6 (q.symm.trans o);obtain⟨U,y⟩:=C k r J p V;dsimp only[yW];refine⟨_,rfl,b,CL,d,_,_,rfl,v,cl.l,cl.link,rfl,rfl,_,rfl,?_⟩;cases e:r.link with
 |none=>exact onT rfl ((U e).raise a)
 |some j=>refine onF rfl ⟨_,rfl,b,CL,d,_,rfl,v,cl.l,cl.link,(show 9<1000 by decide),?_⟩;exact y (by rw[e];simp) _ _ _ (g.set o N p (λr=>{r with link:=none}) rfl) (vO.upd (aJ0 (bY3 o)) _) qP.refl
def aKv:yN ["self","number","term","letter"] ["self","number","term"] (yH aXY):=scM
def aKa(cl:Cl K CB CL)(c:MG P w K mg base (CXR P w) n CB "letter_at" ["self","number"] (aV6 K Rf CB CL))(a:FnX P w K mg base n "check_term" ["term"] (aZd K Rf)) (F:Fun K "put_term" "Book.put_term" aXY f fd):xE P w K mg base (CXR P w) (n+1) f fd ["self","number","term"] (aJd K Rf CB CL):=by
 have x:=aKv;refine F.okX (k:=n) x (λz A outer s H Y Q E u h=>?_);obtain⟨q,M,T,O,V,R,S,m,t,rfl,d,D,G⟩:=h;refine⟨_,(yC (yU (i:=3) (v1 c u zZ (pv 0) (yA (pv 1) yD))) (yC (yY (aQE a u rfl (yA (pv 2) yD))) (yF (zQ (pv 3) (pv 2) rfl)))),?_⟩;obtain⟨W,C⟩:=d.book;refine⟨_,rfl,q,W,_,rfl,C,rfl,_,rfl,q,M,T,O,V,R,S,m,rfl,d,λk r b N g v j=>?_,D⟩;obtain⟨L,p,g1,e,U,⟨o,J⟩,Z⟩:=d.get g;obtain rfl:b=L:=bY6 (j.symm.trans e);obtain⟨X,y⟩:=G k r N g v;dsimp only[yW];refine⟨_,rfl,t,rfl,λB=>?_,X⟩;refine⟨_,rfl,_,rfl,b,CL,o,_,rfl,J,cl.l,cl.term,(show 9<1000 by decide),?_⟩;have I:aXh "term" (.int t) (aZK k r p)=aZK k {r with term:=t} p:=by show bWL k {r with term:=t} p t=_;unfold bWL aZK;rw[bZR (r:={r with term:=t}) v]
 rw[I];exact y B _ _ _ (d.set e U g (λr=>{r with term:=t}) rfl) (vO.upd (aJ0 (bY3 e)) _) qP.refl
def bVV:yN ["self","number","person","letter"] ["self","number","person"] (yH bVH):=scM
def bVk(T:vJ mg)(cl:Cl K CB CL)(e:MG P w K mg base (CXR P w) (n+1) CB "letter_at" ["self","number"] (aV6 K Rf CB CL))(a:MG P w K mg base CX0 (n+1) CL "has_gone_to" ["self","person"] (bJo CL))(d:ExG P w K mg base n "Copied" Rf.1 C1 "copied") (F:Fun K "send_copy" "Book.send_copy" bVH f fd):xE P w K mg base (CXR P w) (n+2) f fd ["self","number","person"] (bJt K Rf CB CL):=by
 have J:=bVV;refine F.okX (k:=n+1) J (λM A outer s H vs Q E x h=>?_);obtain⟨C,Y,sa,ls,cs,R,S,m,g,rfl,t,v,U,O⟩:=h;refine⟨_,(yC (yU (i:=3) (v1 e x zZ (pv 0) (yA (pv 1) yD))) (yC (y7 (xZ (v1 a x v0 (pv 3) (yA (pv 2) yD))) (yF (wB d x rfl)) yS) (yC (yY (vM cQa cQh cQi xD (y3 (pv 3) rfl) (yA (pv 2) yD))) (yF (yP (yQ yO rfl T.b_len xB (yA (y3 (pv 3) rfl) yD))))))),?_⟩;obtain⟨dx,N⟩:=t.book;refine⟨_,rfl,C,dx,_,rfl,N,rfl,_,rfl,C,Y,sa,ls,cs,R,S,m,rfl,t,λk r b Z p hv y=>?_,U⟩;obtain⟨X,u,g1,I,G,⟨j,o⟩,q⟩:=t.get p;obtain rfl:b=X:=bY6 (y.symm.trans I);obtain⟨q3,L⟩:=O k r Z p hv;have D:=v r (bY3 p);dsimp only[yW];refine⟨_,rfl,b,j,_,rfl,o,rfl,_,rfl,b,k,r,u,g,rfl,⟨j,o⟩,q,_,rfl,?_⟩;refine qB (λc=>?_) (λc=>?_)
 ·refine(q3 ?_).raise d;rw[Bool.or_eq_true,decide_eq_true_eq,cXm]at c;exact c
 ·rw[Bool.or_eq_true,decide_eq_true_eq,cXm,not_or]at c;have B:b≠u:=λz=>by rw[z,q]at o;cases o
  refine⟨_,rfl,b,CL,j,_,_,rfl,o,cl.l,cl.copies,rfl,.inl ⟨rfl,_,SqL.of q⟩,_,rfl,u,_,_,rfl,rfl,q,zlt (by rw[bYP];omega),?_⟩;refine⟨_,rfl,b,CL,j,_,_,rfl,(yI B).trans o,cl.l,cl.copies,rfl,u,_,rfl,.inl (SqL.of yB),?_⟩;have W:r.copies.map V.str++ [V.str g]=(r.copies++ [g]).map V.str:=by simp
  rw[W];have e8:((r.copies++ [g]).map V.str).length=r.copies.length+1:=by simp
  rw[e8];exact L c.1 c.2 _ _ _ (t.copy G p g) (vO.upd (bVq (bY3 G)) _) qP.refl
def bQt:yN ["self","number","letter"] ["self","number"] (yH aJ9):=scM
def aYG(T:vJ mg)(cl:Cl K CB CL)(e:MG P w K mg base (CXR P w) (n+1) CB "letter_at" ["self","number"] (aV6 K Rf CB CL))(d:MG P w K mg base CX0 (n+1) CB "answers_to" ["self","letter"] (aVr CB CL))(g:MG P w K mg base CX0 (n+1) CL "make_void" ["self"] (bJv CL))(a:ExG P w K mg base n "Answered" Rf.1 C1 "answered") (F:Fun K "cancel" "Book.cancel" aJ9 f fd):xE P w K mg base (CXR P w) (n+2) f fd ["self","number"] (aV8 K Rf CB CL):=by
 have M:=bQt;refine F.okX (k:=n+1) M (λO A outer s H vs Q E u h=>?_);obtain⟨t,G,I,x,J,R,S,m,rfl,p,hR,W,U⟩:=h;refine⟨_,(yC (yU (i:=2) (v1 e u zZ (pv 0) (yA (pv 1) yD))) (yC (y7 (yM aXg (yQ yO rfl T.b_len xB (yA (v1 d u v0 (pv 0) (yA (pv 2) yD)) yD)) yE) (yF (wB a u rfl)) yS) (yF (yY (bX9 g u v0 (pv 2)))))),?_⟩;obtain⟨L,C⟩:=p.book;refine⟨_,rfl,t,L,_,rfl,C,rfl,_,rfl,t,G,I,x,J,R,S,m,rfl,p,λk r b Y v hv y=>?_,W⟩;obtain⟨X,cc,g1,q,Z,⟨o,D⟩,g5⟩:=p.get v;obtain rfl:b=X:=bY6 (y.symm.trans q);obtain⟨q3,N⟩:=U k r Y v hv;dsimp only[yW];refine⟨_,rfl,t,L,_,rfl,C,rfl,_,rfl,t,G,I,x,J,R,S,k,b,rfl,p,q,hR,λl hl=>?_⟩;refine⟨l,_,rfl,.inl (SqL.of yB),_,_,rfl,rfl,_,rfl,?_⟩;have j:=yG hl (.lst ((Bk.z9 R k).map λk=>(x.map V.ref).getD k .non));rw[bYP];refine qB (λc=>?_) (λc=>?_)
 ·refine((q3 λz=>?_).go (aKI.of j)).raise a;have:=of_decide_eq_true c;rw[z]at this;simp at this
 ·have B:Bk.z9 R k= []:=by
   have:=of_decide_eq_false (Bool.eq_false_iff.mpr c);exact cXz (by omega)
  refine⟨_,rfl,b,o,_,rfl,j _ _ D,rfl,b,o,k,r,cc,rfl,j _ _ D,?_⟩;exact N B _ _ _ ((p.same j).set q Z v (λr=>{r with link:=none,void:=true}) rfl) ((vO.of j).trans (vO.upd (aJ0 (bY3 q)) _)) qP.refl
def bVW:yN ["self","day"] ["self","day"] (yH bVI):=scM
def bVl(cl:Cl K CB CL)(c:FnG P w K mg base (n+1) "counts" ["shut","date"] (Days.aWb K))(a:ExG P w K mg base n "CountsNot" Rf.1 C1 "counts not") (F:Fun K "shut_day" "Book.shut_day" bVI f fd):xE P w K mg base (CXR P w) (n+2) f fd ["self","day"] (bJu K Rf CB CL):=by
 have p:=bVW;refine F.okX (k:=n+1) p (λq A outer s H v Q E l h=>?_);obtain⟨j,x,m,y,z,R,S,d,rfl,e,B,t,r⟩:=h;refine⟨_,(yC (y7 (vF (xZ (xJ c l rfl (yA (y3 (pv 0) rfl) (yA (pv 1) yD))))) (yF (wB a l rfl)) yS) (yF (yY (vM cQa cQh cQi xD (y3 (pv 0) rfl) (yA (pv 1) yD))))),?_⟩;obtain⟨o,i⟩:=e.book;refine⟨_,rfl,j,CB,o,_,_,rfl,i,cl.b,cl.shut,rfl,_,rfl,m,S,d,rfl,SqL.of e.sht,_,rfl,?_⟩;cases g:Dm.cts S d with
 |false=>exact onT rfl ((t g).raise a)
 |true=>
  refine onF rfl ⟨_,rfl,j,CB,o,_,_,rfl,i,cl.b,cl.shut,rfl,.inl ⟨rfl,_,SqL.of e.sht⟩,_,rfl,m,_,_,rfl,rfl,e.sht,zlt (by rw[bYP];omega),?_⟩;have u:S.map V.int++ [V.int d]=(S++ [d]).map V.int:=by simp
  rw[u];exact r g _ _ _ (e.shutD d) (vO.upd aYS _) qP.refl
def bQA:yN ["self","number","day","letter","reply"] ["self","number","day"] (yH aVe):=scM
def aYN(cl:Cl K CB CL)(g:MG P w K mg base (CXR P w) n CB "letter_at" ["self","number"] (aV6 K Rf CB CL))(p:MG P w K mg base CX0 n CB "answers_to" ["self","letter"] (aVr CB CL))(a:FnX P w K mg base n "check_days" ["asked_day","reply_day"] (aZb K Rf)) (F:Fun K "put_day" "Book.put_day" aVe f fd):xE P w K mg base (CXR P w) (n+1) f fd ["self","number","day"] (aWf K Rf CB CL):=by
 have sc:=bQA;refine F.okX (k:=n) sc (λa7 A outer s H vs Q E L h=>?_);obtain⟨B,la,sa,G,cs,R,S,m,d,rfl,y,hR,a0,q1,q2⟩:=h;refine⟨_,(yC (yU (i:=3) (v1 g L zZ (pv 0) (yA (pv 1) yD))) (yC (y7 (yM wA (y3 (pv 3) rfl) x6) (yF (yY (aQE a L rfl (yA (y3 (v1 g L zZ (pv 0) (yA (y3 (pv 3) rfl) yD)) rfl) (yA (pv 2) yD))))) yS) (yC (zT PassesOwn.leaving rfl (xL (v1 p L v0 (pv 0) (yA (pv 3) yD))) (y9 (i:=4)) (yF (yY (aQE a L rfl (yA (pv 2) (yA (y3 (pv 4) rfl) yD)))))) (yF (zQ (pv 3) (pv 2) rfl))))),?_⟩;obtain⟨dx,hb⟩:=y.book;refine⟨_,rfl,B,dx,_,rfl,hb,rfl,_,rfl,B,la,sa,G,cs,R,S,m,rfl,y,λk r b em hk hv a4=>?_,q1⟩;obtain⟨b',cc,g1,Z,g3,⟨D,g4⟩,g5⟩:=y.get hk;obtain rfl:b=b':=bY6 (a4.symm.trans Z);obtain⟨q3,q4⟩:=q2 k r em hk hv;dsimp only[yW];refine zF (λU H'=>U= [some (.ref B),some (.int m),some (.int d),some (.ref b),none]/\H'=H/\∀j,r.link=some j->Bk.dt R j<=d) ?_ λjn=>?_
 ·rintro U H' ⟨rfl,rfl,hj⟩;refine⟨_,rfl,B,dx,_,rfl,hb,rfl,_,rfl,B,la,sa,G,cs,R,S,k,b,rfl,y,Z,hR,λl hl=>?_⟩;have W:=yG hl (.lst ((Bk.z9 R k).map λk=>(G.map V.ref).getD k .non));refine⟨l,rfl,⟨_,SqL.of yB⟩,?_⟩;refine zJ (xs:=(Bk.z9 R k).map λk=>(G.map V.ref).getD k .non) (λt σ H1=>∃o:Option V,σ= [some (.ref B),some (.int m),some (.int d),some (.ref b),o]/\H1=upd H' l (.lst ((Bk.z9 R k).map λk=>(G.map V.ref).getD k .non))/\∀i c,i<t->(Bk.z9 R k)[i]? =some c->d<=Bk.dt R c) ?_ ?_ ?_ ?_
  ·exact⟨none,rfl,rfl,λi c z=>absurd z (cXx _)⟩
  ·rintro t σ H1 ht ⟨o,rfl,rfl,hd⟩;exact SqL.of yB
  ·rintro t x σ H1 O ⟨o,rfl,rfl,hd⟩;rw[bY5]at O;cases J:(Bk.z9 R k)[t]? with
   |none=>rw[J]at O;cases O
   |some c=>
    rw[J]at O;have X:=bY3 J;have a3:c<R.length:=cQn.mp (cQT.mp X).1;have I:=bYK a3;obtain⟨bc,c2,f1,f2,f3,⟨a2,f4⟩,f5⟩:=(y.same W).get I;have ex:(G.map V.ref).getD c .non= .ref bc:=by simp only[cQv,f1];rfl
    obtain rfl:x= .ref bc:=by have z:=bY6 O;rw[<- z];exact ex
    dsimp only[yW];refine⟨_,rfl,_,rfl,bc,CL,a2,_,_,rfl,f4,cl.l,cl.day,rfl,d,R[c].date,rfl,λq=>?_,λq=>?_⟩
    ·refine⟨_,rfl,rfl,λi c' hi C=>?_⟩;by_cases e:i=t
     ·subst e;rw[J]at C;cases C;rw[Bk.vK I];exact q
     ·exact hd i c' (by omega) C
    ·exact(q3 (.inr ⟨c,X,by rw[Bk.vK I];exact q⟩)).go (aKI.of W)
  ·rintro σ H1 ⟨o,rfl,rfl,hd⟩;have Y:∀c∈Bk.z9 R k,d<=Bk.dt R c:=λc J=>by
    obtain⟨i,hi,e⟩:=cQC J;exact hd i c (by rw[bYP];exact hi) (by rw[bYK hi,e])
   refine⟨_,rfl,_,rfl,b,CL,D,_,rfl,W _ _ g4,cl.l,cl.day,(show 9<1000 by decide),?_⟩;exact q4 hj Y _ _ _ ((y.same W).set Z g3 hk (λr=>{r with date:=d}) rfl) ((vO.of W).trans (vO.upd (aJ0 (bY3 Z)) _)) qP.refl
 ·refine⟨_,rfl,b,CL,D,_,_,rfl,g4,cl.l,cl.link,rfl,rfl,_,rfl,?_⟩;cases v:r.link with
  |none=>exact onF rfl (jn _ _ ⟨rfl,rfl,λj hj=>by rw[v]at hj;cases hj⟩)
  |some j=>
   obtain⟨qj,u,a1⟩:=a0.ans k j r hk v;obtain⟨bj,cj,f1,f2,f3,⟨a5,f4⟩,f5⟩:=y.get u;refine onT rfl ⟨_,rfl,B,dx,_,rfl,hb,rfl,_,rfl,b,CL,D,_,_,rfl,g4,cl.l,cl.link,rfl,?_⟩;rw[v];refine⟨B,la,sa,G,cs,R,S,(j:Nat),rfl,y,λk2 r2 b2 e2 T a6 N=>?_,λhg=>?_⟩
   ·obtain rfl:j=k2:=by omega
    rw[u]at T;cases T;rw[f2]at N;cases N;refine⟨bj,CL,a5,_,_,rfl,f4,cl.l,cl.day,rfl,_,rfl,qj.date,d,rfl,λq=>?_,λq=>?_⟩
    ·refine jn _ _ ⟨rfl,rfl,λj' M=>?_⟩;rw[v]at M;cases M;rw[Bk.vK u];exact q
    ·exact q3 (.inl ⟨j,v,by rw[Bk.vK u];exact q⟩)
   ·rw[qX u a1.2.1]at hg;cases hg
end
end Desk
namespace Desk
open PySem L2 PyProof.Rows
open Bk (Row Rows)
open Thr (wF vZ qW)
def bQ3{R:Rows}(b:Bk.Y4 R){rk:Nat->Nat}(o:Fm.Ok R.length (Bk.lk R) rk){i:Nat}(e:i<R.length):∀r q,R[i]? =some r->R[Fm.tp (Bk.lk R) rk i]? =some q->r.void=q.void:=
 Fm.aXy o (P:=λi=>∀r q,R[i]? =some r->R[Fm.tp (Bk.lk R) rk i]? =some q->r.void=q.void)
  (λi _ h r q a c=>by rw[Fm.wC h,a]at c;cases c;rfl)
  (λi j e h g r q a c=>by
   rw[Bk.uA a]at h;obtain⟨k,f,d⟩:=b.ans i j r a h;rw[Fm.uI o e (by rw[Bk.uA a];exact h)]at c;rw[d.1,<- g k q f c,d.2.1]) (rk i) i (bYS _) e
def bZS{R:Rows}(b:Bk.Y4 R){k j:Nat}{r:Row}(e:R[k]? =some r)(g:r.void=false)(h:j∈Bk.thr R k):∃q,R[j]? =some q/\q.void=false:=by
 obtain⟨l,o,_,i⟩:=Bk.J2 b.tree k;obtain⟨a,d⟩:=(i j).mp h;have c:=Bk.wO e;have f:=(Fm.bQ0 o c).1;refine⟨_,bYK a,?_⟩;rw[bQ3 b o a _ _ (bYK a) (by rw[d];exact bYK f),<- bQ3 b o c _ _ e (bYK f)];exact g
def bWc{R:Rows}(t:Bk.jF R){i j:Nat}{r:Row}(e:R[i]? =some r)(hl:r.link=none)(a:j<R.length):j∈Bk.thr R i↔(Bk.thr R j).head? =some i:=by
 obtain⟨h,o,f⟩:=Bk.jS t a;obtain⟨b,c,_,g⟩:=Bk.J2 t i;rw[g j,f];have d:Fm.tp (Bk.lk R) b i=i:=Fm.wC (by rw[Bk.uA e];exact hl);rw[d,Fm.qO c o a];exact⟨λz=>by rw[z.2],λz=>⟨a,bY6 z⟩⟩
inductive jQ(K:bYM)(Rf:Nat×Nat)(CB CL:Nat)(vs:List V)(H:Hp)(Q:VK)(E:XK):Prop|mk (ba la sa:Nat) (ls cs:List Nat) (R:Rows) (S:List Int) (m:Int) (_:vs= [.ref ba,.int m]) (_:PB CB CL H ba la sa ls cs R S) (_:R.length<64) (_:Bk.jF R) (_:wF Rf.2 H) (_:(Bk.wW R m=false->xK K Rf H E "no letter")) (_:∀ (k:Nat)(r:Row),m=(k:Int)->R[k]? =some r->r.void=false->∀ (H':Hp)(l:Nat),(∀b u,(∀ps,u≠HO.tbl ps)->H b=some u->b≠l)->x3 H H'->wF Rf.2 H'->H' l=some (.lst ((Bk.thr R k).map λi=>V.int (i:Nat)))->Q (.ref l) H')
def bWi(T g CL f la sa:Nat)(ls cs:List Nat)(H:Hp)(d:Rows)(e:List Int)(q:Hp->Prop):Prop:=∀ (c:Hp)(b a:List Nat),PB g CL c f la sa b a d e->Y6 (own la sa ls cs) H c->qP H (own la sa ls cs) (own la sa b a)->wF T c->q c
inductive bV4(K:bYM)(Rf:Nat×Nat)(CB CL:Nat)(vs:List V)(H:Hp)(Q:VK)(E:XK):Prop|mk (ba la sa:Nat) (ls cs:List Nat) (R:Rows) (S:List Int) (m:Int) (name:Str) (_:vs= [.ref ba,.int m,.str name]) (_:PB CB CL H ba la sa ls cs R S) (_:R.length<64) (_:Bk.Y4 R) (_:wF Rf.2 H) (_:(Bk.wW R m=false->xK K Rf H E "no letter")) (_:∀ (k:Nat)(r:Row),m=(k:Int)->R[k]? =some r->r.void=false->∀ (H':Hp),PB CB CL H' ba la sa ls cs (Bk.laid R (Bk.thr R k) name) S->Y6 (own la sa ls cs) H H'->wF Rf.2 H'->Q (.int ((Bk.thr R k).length:Nat)) H')
section
variable {K:bYM}
abbrev Y2:Stmt:=xI "Book" "thread_of"
abbrev bK4:Stmt:=xI "Book" "lay_thread"
def aVp:yN ["self","number","links","dates"] ["self","number"] (yH Y2):=scM
def aQt:xN ["self","number","links","dates"] (yH Y2) "letter" [] [] (lsN [(".0",.local),("letter",.local)]):=
 lcM
def aJX(cl:Cl K CB CL)(a:MG P w K mg base (CXR P w) n CB "letter_at" ["self","number"] (aV6 K Rf CB CL))(d:FnG P w K mg base n "thread" ["links","dates","number"] (Thr.aWh Rf.2)) (F:Fun K "thread_of" "Book.thread_of" Y2 f fd):xE P w K mg base (CXR P w) (n+1) f fd ["self","number"] (jQ K Rf CB CL):=by
 have sc:=aVp;refine F.okX (k:=n) sc (λa1 A outer s H vs Q E hr h=>?_);obtain⟨N,la,sa,ls,cs,R,S,m,rfl,B,hR,hT,tb,q1,q2⟩:=h;refine⟨_,(yC (yY (v1 a hr zZ (pv 0) (yA (pv 1) yD))) (yC (aZY (i:=2) aQt rfl sc.nd rfl rfl (xL (y3 (pv 0) rfl)) (λ_ _ _ _ _=>wK) (λ_ _ _ _ _=>(aQD (K:=K) (pv 0) rfl))) (yC (aZY (i:=3) aQt rfl sc.nd rfl rfl (xL (y3 (pv 0) rfl)) (λ_ _ _ _ _=>wK) (λ_ _ _ _ _=>(aQD (K:=K) (pv 0) rfl))) (yF (yP (xJ d hr rfl (yA (pv 2) (yA (pv 3) (yA (pv 1) yD))))))))),?_⟩;obtain⟨Z,W⟩:=B.book;have hl:(ls.map V.ref).length=R.length:=by rw[bYP];exact B.len
 refine⟨_,rfl,N,Z,_,rfl,W,rfl,_,rfl,N,la,sa,ls,cs,R,S,m,rfl,B,λk r b em hk p a2=>?_,q1⟩;subst em;have M:=Bk.wO hk;have x:(bYY R.length).filter (λ_=>true)=bYY R.length:=cZw.mpr λ_ _=>rfl;refine⟨_,rfl,N,CB,Z,_,_,rfl,W,cl.b,cl.letters,rfl,la,rfl,⟨_,SqL.of B.lst⟩,λD hD=>?_⟩;refine aWP (λ_=>true) (λi=>Thr.w6 (Bk.lk R i)) (SqL.of B.lst) hD (zn (by omega)) (λj v p X O L c=>c) (λj v p _ X O L c=>?_) ?_
 ·have T:j<R.length:=by rw[<- hl];exact(bYW.mp p).1
  have g:=bYK T;obtain⟨I,c2,q,G,Y,⟨y,J⟩,k5⟩:=B.get g;obtain rfl:v= .ref I:=bY6 (p.symm.trans q);rw[Bk.uA g]at c;exact⟨_,rfl,I,CL,y,_,_,rfl,(L _ (yJ J hD)).trans J,cl.l,cl.link,rfl,c⟩
 rw[hl,x];dsimp only[yW];have q:=yG hD (.lst ((bYY R.length).map λi=>Thr.w6 (Bk.lk R i)));have z:=B.same q;refine⟨_,rfl,N,CB,Z,_,_,rfl,q _ _ W,cl.b,cl.letters,rfl,la,rfl,⟨_,SqL.of z.lst⟩,λD2 C=>?_⟩;refine aWP (λ_=>true) (λi=>V.int (Bk.dt R i)) (SqL.of z.lst) C (zn (by omega)) (λj v p X O L c=>c) (λj v p _ X O L c=>?_) ?_
 ·have T:j<R.length:=by rw[<- hl];exact(bYW.mp p).1
  have g:=bYK T;obtain⟨I,c2,q,G,Y,⟨y,J⟩,k5⟩:=z.get g;obtain rfl:v= .ref I:=bY6 (p.symm.trans q);rw[Bk.vK g]at c;exact⟨_,rfl,I,CL,y,_,_,rfl,(L _ (yJ J C)).trans J,cl.l,cl.day,rfl,c⟩
 rw[hl,x];dsimp only[yW];have G:=yG C (.lst ((bYY R.length).map λi=>V.int (Bk.dt R i)));obtain⟨rk,o⟩:=hT;have U:wF Rf.2 (upd (upd H D (.lst ((bYY R.length).map λi=>Thr.w6 (Bk.lk R i)))) D2 (.lst ((bYY R.length).map λi=>V.int (Bk.dt R i)))):=by
  have kk:=q.trans G;rcases tb with t|⟨c',t1,t2⟩
  ·exact .inl (kk _ _ t)
  ·exact .inr ⟨c',kk _ _ t1,kk _ _ t2⟩
 refine⟨_,rfl,_,rfl,_,rfl,D,D2,R.length,Bk.lk R,rk,Bk.dt R,k,rfl,G _ _ yB,yB,o,by omega,M,U,λH3 r3 a0 n3 Y t3 h3 hp hm=>?_⟩;have e:=Bk.aJh M ⟨rk,o,hp,hm⟩;refine q2 k r rfl hk p H3 r3 (λb u nt e=>n3 b u nt ((q.trans G) _ _ e)) ((q.trans G).t.trans Y) t3 ?_;rw[e];exact h3
end
end Desk
namespace Desk
open PySem L2 PyProof.Rows
open Bk (Row Rows)
open Thr (wF vZ qW)
def xU{T:Nat}{o:List Nat}{H g:Hp}(t:wF T H)(k:vO o H g)(h:∀b∈o,∀u,H b=some u->(∃c,u= .lst c)\/∃C a fs,u= .ins C a fs):wF T g:=by
 have no:∀b u,H b=some u->(∀c,u≠ .lst c)->(∀C a fs,u≠ .ins C a fs)->b∉o:=λb u e i j z=>by
  rcases h b z u e with⟨c,q⟩|⟨C,a,fs,q⟩
  ·exact i _ q
  ·exact j _ _ _ q
 rcases t with t|⟨l,f,d⟩
 ·exact .inl (k _ _ (no _ _ t (by intro _ z;cases z) (by intro _ _ _ z;cases z)) t)
 ·exact .inr ⟨l,k _ _ (no _ _ f (by intro _ z;cases z) (by intro _ _ _ z;cases z)) f,k _ _ (no _ _ d (by intro _ z;cases z) (by intro _ _ _ z;cases z)) d⟩
def PB.kinds{r CL:Nat}{H:Hp}{l la sa:Nat}{ls cs:List Nat}{R:Rows}{S:List Int}(h:PB r CL H l la sa ls cs R S):∀b∈own la sa ls cs,∀u,H b=some u->(∃p,u= .lst p)\/∃C k fs,u= .ins C k fs:=λb a u e=>by
 rcases bYU.mp a with rfl|a
 ·rw[h.lst]at e;cases e;exact .inl ⟨_,rfl⟩
 rcases bYU.mp a with rfl|a
 ·rw[h.sht]at e;cases e;exact .inl ⟨_,rfl⟩
 rcases cQp.mp a with a|a
 ·obtain⟨i,c,q⟩:=cQC a;obtain⟨m,n,o,d,f,⟨k,j⟩,g⟩:=h.get (bYK (show i<R.length by rw[<- h.len];exact c));rw[bYK c,q]at d;cases d;rw[j]at e;cases e;exact .inr ⟨_,_,_,rfl⟩
 ·obtain⟨i,c,q⟩:=cQC a;obtain⟨m,n,o,d,f,j,g⟩:=h.get (bYK (show i<R.length by rw[<- h.clen];exact c));rw[bYK c,q]at f;cases f;rw[g]at e;cases e;exact .inl ⟨_,rfl⟩
def PB.notown{s CL:Nat}{H:Hp}{k la sa:Nat}{ls cs:List Nat}{R:Rows}{S:List Int}(h:PB s CL H k la sa ls cs R S){l:Nat}(n:∀b u,(∀m,u≠HO.tbl m)->H b=some u->b≠l):l∉own la sa ls cs:=λa=>by
 rcases bYU.mp a with e|a
 ·exact n la _ (by intro _ z;cases z) h.lst e.symm
 rcases bYU.mp a with e|a
 ·exact n sa _ (by intro _ z;cases z) h.sht e.symm
 rcases cQp.mp a with a|a
 ·obtain⟨i,c,q⟩:=cQC a;obtain⟨o,p,r,d,f,⟨t,j⟩,g⟩:=h.get (bYK (show i<R.length by rw[<- h.len];exact c));rw[bYK c,q]at d;cases d;exact n l _ (by intro _ z;cases z) j rfl
 ·obtain⟨i,c,q⟩:=cQC a;obtain⟨o,p,r,d,f,j,g⟩:=h.get (bYK (show i<R.length by rw[<- h.clen];exact c));rw[bYK c,q]at f;cases f;exact n l _ (by intro _ z;cases z) g rfl
def PB.notnone{c CL:Nat}{H:Hp}{a la sa:Nat}{ls cs:List Nat}{R:Rows}{S:List Int}(h:PB c CL H a la sa ls cs R S){l:Nat}(n:H l=none):l∉own la sa ls cs:=h.notown λb u _ e=>yJ e n
def bZd{j:Nat}{q:Row}{c:Nat}{name:Str}(a:q.void=false):aXh "file" (.str name) (aZK j q c)=aZK j {q with place:=name} c:=by
 have b:X2 {q with place:=name}= .str name:=aXH (r:={q with place:=name}) a;unfold aZK;rw[b];rfl
def aQs(R:Rows)(l:List Nat)(k:Nat)(name:Str):Bk.laid R (l++ [k]) name=Bk.xO (Bk.laid R l name) k λr=>{r with place:=name}:=by
 unfold Bk.laid;rw[cJZ];rfl
def aZH{R:Rows}{l:List Nat}{name:Str}{j:Nat}{q:Row}(h:R[j]? =some q):∃a,(Bk.laid R l name)[j]? =some a/\a.void=q.void:=by
 rw[Bk.v9,h];by_cases e:j∈l
 ·rw[if_pos e];exact⟨_,rfl,rfl⟩
 ·rw[if_neg e];exact⟨q,rfl,rfl⟩
inductive bQJ(K:bYM)(Rf:Nat×Nat)(CB CL:Nat)(vs:List V)(H:Hp)(Q:VK)(E:XK):Prop|mk (ba la sa:Nat) (ls cs:List Nat) (R:Rows) (S:List Int) (i j:Nat) (b b2:Nat) (r q:Row) (_:vs= [.ref ba,.ref b,.ref b2]) (_:PB CB CL H ba la sa ls cs R S) (_:R.length<64) (_:Bk.jF R) (_:wF Rf.2 H) (_:R[i]? =some r) (_:r.void=false) (_:R[j]? =some q) (_:q.void=false) (_:ls[i]? =some b) (_:ls[j]? =some b2) (_:(r.link≠none->xK K Rf H E "has one")) (_:(r.link=none->(Bk.thr R j).head? =some i->xK K Rf H E "own thread")) (_:(r.link=none->(Bk.thr R j).head? ≠some i->(r.way=q.way->xK K Rf H E "same way")/\(r.way≠q.way->(r.partner≠q.partner->xK K Rf H E "other partner")/\(r.partner=q.partner->(r.date<q.date->xK K Rf H E "too early")/\(q.date<=r.date->∀H',x3 H H'->wF Rf.2 H'->Q .non H')))))
section
variable {K:bYM}
def bKd:yN ["self","number","name","numbers","member","letter"] ["self","number","name"] (yH bK4):=scM
def bWU(T:vJ mg)(cl:Cl K CB CL)(a:MG P w K mg base (CXR P w) n CB "thread_of" ["self","number"] (jQ K Rf CB CL))(F:Fun K "lay_thread" "Book.lay_thread" bK4 f fd):xE P w K mg base (CXR P w) (n+1) f fd ["self","number","name"] (bV4 K Rf CB CL):=by
 have sc:=bKd;refine F.okX (k:=n) sc (λa0 A outer s H vs Q E hr h=>?_);obtain⟨G,L,sa,ls,X,R,S,m,g,rfl,Y,hR,y,tb,q1,q2⟩:=h;refine⟨_,(yC (yU (i:=3) (v1 a hr zZ (pv 0) (yA (pv 1) yD))) (yC (zT PassesOwn.leaving rfl (xL (pv 3)) (y9 (i:=4)) (yC (yU (i:=5) (yL yK (y3 (pv 0) rfl) (pv 4))) (yF (zQ (pv 5) (pv 2) rfl)))) (yF (yP (yQ yO rfl T.b_len xB (yA (pv 3) yD)))))),?_⟩;obtain⟨dx,hb⟩:=Y.book;refine⟨_,rfl,G,dx,_,rfl,hb,rfl,_,rfl,G,L,sa,ls,X,R,S,m,rfl,Y,hR,y.tree,tb,q1,λk r em hk hv H1 l _ k1 t1 hl=>?_⟩;dsimp only[yW];have C:=Y.sameT k1;have a1:=Bk.wO hk;refine⟨_,rfl,l,rfl,⟨_,SqL.of hl⟩,?_⟩;refine zJ (xs:=(Bk.thr R k).map λi=>V.int (i:Nat)) (λt σ p=>∃M I:Option V,σ= [some (.ref G),some (.int m),some (.str g),some (.ref l),M,I]/\PB CB CL p G L sa ls X (Bk.laid R ((Bk.thr R k).take t) g) S/\vO (own L sa ls X) H1 p/\p l=some (.lst ((Bk.thr R k).map λi=>V.int (i:Nat)))) ?_ ?_ ?_ ?_
 ·exact⟨none,none,rfl,C,λb u _ e=>e,hl⟩
 ·rintro t σ p ht ⟨M,I,rfl,d,D,o⟩;exact SqL.of o
 ·rintro t x σ p B ⟨M,I,rfl,d,D,o⟩;rw[bY5]at B;cases J:(Bk.thr R k)[t]? with
  |none=>rw[J]at B;cases B
  |some j=>
   rw[J]at B;cases B;obtain⟨qj,W,Z⟩:=bZS y hk hv (bY3 J);obtain⟨q',q,v⟩:=aZH (l:=(Bk.thr R k).take t) (name:=g) W;rw[Z]at v;obtain⟨b,c,g1,g2,g3,⟨O,g4⟩,g5⟩:=d.get q;obtain⟨N,U⟩:=d.book;dsimp only[yW];refine⟨_,rfl,G,CB,N,_,_,rfl,U,cl.b,cl.letters,rfl,_,rfl,L,_,_,_,rfl,rfl,SqL.of d.lst,yT g1,?_⟩;dsimp only[yW];refine⟨_,rfl,_,rfl,b,CL,O,_,rfl,g4,cl.l,cl.file,(show 9<1000 by decide),_,_,rfl,?_,D.trans (vO.upd (aJ0 (bY3 g2)) _),?_⟩
   ·rw[bZd v,show(Bk.thr R k).take (t+1)=(Bk.thr R k).take t++ [j]from by rw[cQN,J];rfl,aQs];exact d.set g2 g3 q (λr=>{r with place:=g}) rfl
   ·rw[yI (λz=>by rw[z,g4]at o;cases o)];exact o
 ·rintro σ p ⟨M,I,rfl,d,D,o⟩;rw[bYP,cQI]at d;refine⟨_,rfl,l,_,rfl,.inl (SqL.of o),?_⟩;rw[bYP];exact q2 k r em hk hv p d ((Y6.of k1).trans D.t) (xU t1 D C.kinds)
abbrev aY8:Stmt:=xI "Book" "check_hanging"
abbrev bVC:Stmt:=xI "Book" "hang"
def bZo:yN ["self","letter","asked"] ["self","letter","asked"] (yH aY8):=scM
def aVE(d:Nat):∀ns:List Nat,inV (.int (d:Nat)) (ns.map λi=>V.int (i:Nat))=ns.contains d
 |[]=>rfl
 |n::r=>by have a:=aVE d r;unfold inV at a ⊢;rw[cQy,cX5,a,cX8];congr 1;show((n:Int)==(d:Int))=(d==n);rw[Bool.eq_iff_iff,beq_iff_eq,beq_iff_eq];omega
def aZv:∀ns:List Nat,(ns.map λi=>V.int (i:Nat)).all J9=true
 |[]=>rfl
 |n::r=>by rw[cQy,cZZ,aZv r];rfl
def bXO(cl:Cl K CB CL)(o:MG P w K mg base (CXR P w) (n+1) CB "thread_of" ["self","number"] (jQ K Rf CB CL))(g:FnX P w K mg base (n+1) "check_days" ["asked_day","reply_day"] (aZb K Rf)) (m:ExG P w K mg base n "HasOne" Rf.1 C1 "has one") (d:ExG P w K mg base n "OwnThread" Rf.1 C2 "own thread") (e:ExG P w K mg base n "SameWay" Rf.1 C3 "same way") (a:ExG P w K mg base n "OtherPartner" Rf.1 C4 "other partner") (F:Fun K "check_hanging" "Book.check_hanging" aY8 f fd):xE P w K mg base (CXR P w) (n+2) f fd ["self","letter","asked"] (bQJ K Rf CB CL):=by
 have sc:=bZo;refine F.okX (k:=n+1) sc (λa0 A outer s H vs Q E C h=>?_);obtain⟨ba,la,sa,ls,cs,R,S,i,j,b,D,r,q,rfl,I,hR,hT,tb,U,hv,Z,hw,X,Y,q1,q2,q3⟩:=h;refine⟨_,(yC (y7 (yM wA (y3 (pv 1) rfl) x6) (yF (wB m C rfl)) yS) (yC (y7 (yM vD (y3 (pv 2) rfl) (v1 o C zZ (pv 0) (yA (y3 (pv 1) rfl) yD))) (yF (wB d C rfl)) yS) (yC (y7 (yM zI (y3 (pv 1) rfl) (y3 (pv 2) rfl)) (yF (wB e C rfl)) yS) (yC (y7 (yM Y0 (y3 (pv 1) rfl) (y3 (pv 2) rfl)) (yF (wB a C rfl)) yS) (yF (yY (aQE g C rfl (yA (y3 (pv 2) rfl) (yA (y3 (pv 1) rfl) yD))))))))),?_⟩;obtain⟨dx,hb⟩:=I.book;obtain⟨b',c1,g1,g2,g3,⟨p,O⟩,g5⟩:=I.get U;obtain rfl:b=b':=bY6 (X.symm.trans g2);obtain⟨M,c2,f1,f2,f3,⟨t,f4⟩,f5⟩:=I.get Z;obtain rfl:D=M:=bY6 (Y.symm.trans f2);refine⟨_,rfl,b,CL,p,_,_,rfl,O,cl.l,cl.link,rfl,rfl,_,rfl,?_⟩;cases u:r.link with
 |some x=>exact onT rfl ((q1 (by rw[u];simp)).raise m)
 |none=>
  have J:=q2 u;have W:=q3 u;refine onF rfl ⟨_,rfl,D,CL,t,_,_,rfl,f4,cl.l,cl.number,rfl,_,rfl,ba,dx,_,rfl,hb,rfl,_,rfl,b,CL,p,_,_,rfl,O,cl.l,cl.number,rfl,?_⟩;refine⟨ba,la,sa,ls,cs,R,S,(i:Nat),rfl,I,hR,hT,tb,(λhg=>by rw[qX U hv]at hg;cases hg),λk r' em hk a1 H1 l _ B G hl=>?_⟩;obtain rfl:i=k:=by omega
  refine⟨l,_,rfl,.inl (SqL.of hl),rfl,aZv _,_,rfl,?_⟩;rw[if_neg (show ¬ (false=true) by decide),aVE];have T:=Bk.wO Z;have own:=bWc hT U u T;have y:=B _ _ (λ_ z=>by cases z) O;have v:=B _ _ (λ_ z=>by cases z) f4;refine qB (λc=>?_) (λc=>?_)
  ·exact((J (own.mp (cXm.mp c))).go ⟨B,λ_=>G⟩).raise d
  ·have N:(Bk.thr R j).head? ≠some i:=λz=>c (cXm.mpr (own.mpr z));obtain⟨q4,q5⟩:=W N;refine⟨_,rfl,b,CL,p,_,_,rfl,y,cl.l,cl.way,rfl,_,rfl,D,CL,t,_,_,rfl,v,cl.l,cl.way,rfl,rfl,_,rfl,?_⟩;have e1:decide (V.str r.way=V.str q.way)=decide (r.way=q.way):=by rw[Bool.eq_iff_iff];simp
   rw[e1];refine qB (λc=>?_) (λc=>?_)
   ·exact((q4 (of_decide_eq_true c)).go ⟨B,λ_=>G⟩).raise e
   ·obtain⟨q6,q7⟩:=q5 (of_decide_eq_false (Bool.eq_false_iff.mpr c));refine⟨_,rfl,b,CL,p,_,_,rfl,y,cl.l,cl.partner,rfl,_,rfl,D,CL,t,_,_,rfl,v,cl.l,cl.partner,rfl,rfl,_,rfl,?_⟩;have e2:decide (V.str r.partner=V.str q.partner)=decide (r.partner=q.partner):=by rw[Bool.eq_iff_iff];simp
    rw[e2];cases hp:decide (r.partner=q.partner)with
    |false=>exact onT rfl (((q6 (of_decide_eq_false hp)).go ⟨B,λ_=>G⟩).raise a)
    |true=>obtain⟨q8,q9⟩:=q7 (of_decide_eq_true hp);refine onF rfl ⟨_,rfl,D,CL,t,_,_,rfl,v,cl.l,cl.day,rfl,_,rfl,b,CL,p,_,_,rfl,y,cl.l,cl.day,rfl,q.date,r.date,rfl,λL=>q9 L H1 B G,λL=>(q8 L).go ⟨B,λ_=>G⟩⟩
inductive bJp(K:bYM)(Rf:Nat×Nat)(CB CL:Nat)(vs:List V)(H:Hp)(Q:VK)(E:XK):Prop|mk (ba la sa:Nat) (ls cs:List Nat) (R:Rows) (S:List Int) (m o:Int) (_:vs= [.ref ba,.int m,.int o]) (_:PB CB CL H ba la sa ls cs R S) (_:R.length<64) (_:Bk.Y4 R) (_:wF Rf.2 H) (_:(Bk.wW R m=false\/Bk.wW R o=false->xK K Rf H E "no letter")) (_:∀ (i j:Nat)(r q:Row),m=(i:Int)->o=(j:Int)->R[i]? =some r->r.void=false->R[j]? =some q->q.void=false->(r.link≠none->xK K Rf H E "has one")/\(r.link=none->(Bk.thr R j).head? =some i->xK K Rf H E "own thread")/\(r.link=none->(Bk.thr R j).head? ≠some i->(r.way=q.way->xK K Rf H E "same way")/\(r.way≠q.way->(r.partner≠q.partner->xK K Rf H E "other partner")/\(r.partner=q.partner->(r.date<q.date->xK K Rf H E "too early")/\(q.date<=r.date->bWi Rf.2 CB CL ba la sa ls cs H (Bk.xO (Bk.laid R (Bk.thr R i) q.place) i λr=>{r with link:=some j}) S (Q .non))))))
def bVP:yN ["self","number","other","letter","asked"] ["self","number","other"] (yH bVC):=scM
def bVd(cl:Cl K CB CL)(a:MG P w K mg base (CXR P w) n CB "letter_at" ["self","number"] (aV6 K Rf CB CL))(c:MG P w K mg base (CXR P w) n CB "check_hanging" ["self","letter","asked"] (bQJ K Rf CB CL))(d:MG P w K mg base (CXR P w) n CB "lay_thread" ["self","number","name"] (bV4 K Rf CB CL)) (F:Fun K "hang" "Book.hang" bVC f fd):xE P w K mg base (CXR P w) (n+1) f fd ["self","number","other"] (bJp K Rf CB CL):=by
 have sc:=bVP;refine F.okX (k:=n) sc (λa3 A outer s H vs Q E L h=>?_);obtain⟨e,v,y,M,x,R,S,m,o,rfl,J,hR,B,tb,q1,q2⟩:=h;refine⟨_,(yC (yU (i:=3) (v1 a L zZ (pv 0) (yA (pv 1) yD))) (yC (yU (i:=4) (v1 a L zZ (pv 0) (yA (pv 2) yD))) (yC (yY (v1 c L zZ (pv 0) (yA (pv 3) (yA (pv 4) yD)))) (yC (yY (v1 d L zZ (pv 0) (yA (pv 1) (yA (y3 (pv 4) rfl) yD)))) (yF (zQ (pv 3) (pv 2) rfl)))))),?_⟩;obtain⟨Z,X⟩:=J.book;refine⟨_,rfl,e,Z,_,rfl,X,rfl,_,rfl,e,v,y,M,x,R,S,m,rfl,J,λi r b em D hv G=>?_,λu=>q1 (.inl u)⟩;dsimp only[yW];refine⟨_,rfl,e,Z,_,rfl,X,rfl,_,rfl,e,v,y,M,x,R,S,o,rfl,J,λj q O eo T hw I=>?_,λu=>q1 (.inr u)⟩;dsimp only[yW];obtain⟨q3,q4,q5⟩:=q2 i j r q em eo D hv T hw;refine⟨_,rfl,e,Z,_,rfl,X,rfl,_,rfl,_,rfl,e,v,y,M,x,R,S,i,j,b,O,r,q,rfl,J,hR,B.tree,tb,D,hv,T,hw,G,I,q3,q4,λh1 h2=>?_⟩;obtain⟨q6,q7⟩:=q5 h1 h2;refine⟨q6,λh3=>?_⟩;obtain⟨q8,q9⟩:=q7 h3;refine⟨q8,λh4=>?_⟩;obtain⟨a1,a0⟩:=q9 h4;refine⟨a1,λh5 H1 k1 t1=>?_⟩;have p:=J.sameT k1;obtain⟨W,Y⟩:=p.book;obtain⟨V,c2,f1,f2,f3,⟨U,f4⟩,f5⟩:=p.get T;obtain rfl:O=V:=bY6 (I.symm.trans f2);refine⟨_,rfl,e,W,_,rfl,Y,rfl,_,rfl,_,rfl,O,CL,U,_,_,rfl,f4,cl.l,cl.file,rfl,?_⟩;rw[aXH hw];refine⟨e,v,y,M,x,R,S,m,q.place,rfl,p,hR,B,t1,(λu=>by rw[em,qX D hv]at u;cases u),λk r' a5 hk a4 H2 g k2 t2=>?_⟩;obtain rfl:i=k:=by omega
 rw[D]at hk;cases hk;obtain⟨r2,C,a2⟩:=aZH (l:=Bk.thr R i) (name:=q.place) D;obtain⟨b',c1,g1,N,g3,⟨z,g4⟩,g5⟩:=g.get C;obtain rfl:b=b':=bY6 (G.symm.trans N);subst eo;refine⟨_,rfl,_,rfl,b,CL,z,_,rfl,g4,cl.l,cl.link,(show 9<1000 by decide),?_⟩;have kk:=vO.upd (H:=H2) (aJ0 (la:=v) (sa:=y) (cs:=x) (bY3 N)) (.ins CL z (aZK i {r2 with link:=some j} c1));exact a0 h5 _ _ _ (g.set N g3 C (λr=>{r with link:=some j}) rfl) (((Y6.of k1).trans k2).trans kk.t) qP.refl (xU t2 kk g.kinds)
end
end Desk
namespace Desk
open PySem L2 PyProof.Rows
open Bk (Row Rows xP Ans x2)
open Thr (wF vZ qW)
def xH:xP->List V
 |.enter e d b t=> [.str e,.int d,.str b,.int t]
 |.reply m d t=> [.str "reply",.int m,.int d,.int t]
 |.hang m o=> [.str "hang",.int m,.int o]
 |.loose m=> [.str "loose",.int m]
 |.date m d=> [.str "date",.int m,.int d]
 |.term m t=> [.str "term",.int m,.int t]
 |.copy m b=> [.str "copy",.int m,.str b]
 |.file m a=> [.str "file",.int m,.str a]
 |.void m=> [.str "void",.int m]
 |.shut d=> [.str "shut",.int d]
 |.state m=> [.str "state",.int m]
 |.thread m=> [.str "thread",.int m]
 |.copies m=> [.str "copies",.int m]
 |.letters a=> [.str "letters",.str a]
 |.on c d=> [.str (if c then "overdue" else "waiting"),.int d]
def vI(o:List Nat)(H:Hp):Ans->V->Prop
 |.num n,v=>v= .int n
 |.txt x,v=>v= .str x
 |.nums l,v=>∃p,v= .ref p/\p∉o/\H p=some (.lst (l.map λi=>V.int (i:Nat)))
 |.txts l,v=>∃p,v= .ref p/\p∉o/\H p=some (.lst (l.map V.str))
 |.row r,v=>∃p,v= .ref p/\p∉o/\H p=some (.tup (stV r))
def uQ(H:Hp)(v:V):Prop:=∀p,v= .ref p->∀u,(∀a,u≠HO.tbl a)->H p≠some u
def uQ.none{H:Hp}{l:Nat}(h:H l=none):uQ H (.ref l):=λp z u _ e=>by cases z;rw[h]at e;cases e
def uQ.nl{H:Hp}{l:Nat}(h:∀b u,(∀c,u≠HO.tbl c)->H b=some u->b≠l):uQ H (.ref l):=λp z u a e=>by cases z;exact h _ u a e rfl
structure Sz(R:Rows)(S:List Int):Prop where
 r:R.length<64
 s:S.length<64
 c:∀r∈R,r.copies.length<=1000
inductive aJb(K:bYM)(Rf:Nat×Nat)(CB CL:Nat)(p:xP->Prop)(vs:List V)(H:Hp)(Q:VK)(E:XK):Prop|mk (ba da la sa:Nat) (ls cs:List Nat) (R:Rows) (S:List Int) (e:xP) (_:vs= [.ref ba,.ref da]) (_:p e) (_:H da=some (.tup (xH e))) (_:PB CB CL H ba la sa ls cs R S) (_:Sz R S) (_:Bk.Y4 R) (_:wF Rf.2 H) (_:(∀ (a:Ans)(R':Rows)(S':List Int)(v:V)(H':Hp)(ls' cs':List Nat),x2 R S e a R' S'->PB CB CL H' ba la sa ls' cs' R' S'->Y6 (own la sa ls cs) H H'->qP H (own la sa ls cs) (own la sa ls' cs')->wF Rf.2 H'->vI (own la sa ls' cs') H' a v->uQ H v->Q v H')) (_:(∀t,x2 R S e (.txt t) R S->xK K Rf H E t))
section
variable {K:bYM}
abbrev Z2:Stmt:=xF "do_enter"
def aVl:yN ["book","deed"] ["book","deed"] (yH Z2):=scM
def aJT(a:MG P w K mg base (CXR P w) n CB "enter" ["self","way","day","partner","term"] (bQN K Rf CB CL))(F:Fun K "do_enter" "do_enter" Z2 f fd):xE P w K mg base (CXR P w) (n+1) f fd ["book","deed"] (aJb K Rf CB CL λe=>∃ (b:Str)(d:Int)(c:Str)(t:Int),e= .enter b d c t):=by
 have G:=aVl;refine F.okX (k:=n) G (λI A outer s H U Q E L h=>?_);obtain⟨v,i,x,B,y,C,R,S,e,rfl,⟨b,d,c,t,rfl⟩,g,u,D,N,tb,q,M⟩:=h;refine⟨_,(yF (yP (v1 a L zZ (pv 0) (yA (yL yX (pv 1) yE) (yA (yL yX (pv 1) yE) (yA (yL yX (pv 1) yE) (yA (yL yX (pv 1) yE) yD))))))),?_⟩;obtain⟨T,J⟩:=u.book;have tk:∀ {j},vO (own x B y C) H j->wF Rf.2 j:=λk=>xU tb k u.kinds;have g:H i=some (.tup _):=g;refine⟨_,rfl,v,T,_,rfl,J,rfl,_,rfl,i,_,0,_,rfl,rfl,SqT.of g,rfl,_,rfl,i,_,1,_,rfl,rfl,SqT.of g,rfl,_,rfl,i,_,2,_,rfl,rfl,SqT.of g,rfl,_,rfl,i,_,3,_,rfl,rfl,SqT.of g,rfl,?_⟩;refine⟨v,x,B,y,C,R,S,b,d,c,t,rfl,u,by have:=D.r;omega,λp j m l o k O=>?_,λp=>M _ (.enterT p)⟩;exact q (.num R.length) _ _ _ j m l (.enter p) o k.t O (tk k) rfl (λ_ z=>nomatch z)
abbrev Z4:Stmt:=xF "do_reply"
def aVn:yN ["book","deed"] ["book","deed"] (yH Z4):=scM
def aJV(a:MG P w K mg base (CXR P w) n CB "reply" ["self","number","day","term"] (bQS K Rf CB CL))(F:Fun K "do_reply" "do_reply" Z4 f fd):xE P w K mg base (CXR P w) (n+1) f fd ["book","deed"] (aJb K Rf CB CL λe=>∃ (m:Int)(d:Int)(t:Int),e= .reply m d t):=by
 have J:=aVn;refine F.okX (k:=n) J (λL A outer s H W Q E N h=>?_);obtain⟨x,i,y,C,B,D,R,S,e,rfl,⟨m,d,t,rfl⟩,b,u,I,T,tb,q,p⟩:=h;refine⟨_,(yF (yP (v1 a N zZ (pv 0) (yA (yL yX (pv 1) yE) (yA (yL yX (pv 1) yE) (yA (yL yX (pv 1) yE) yD)))))),?_⟩;obtain⟨V,M⟩:=u.book;have tk:∀ {g},vO (own y C B D) H g->wF Rf.2 g:=λk=>xU tb k u.kinds;have b:H i=some (.tup _):=b;refine⟨_,rfl,x,V,_,rfl,M,rfl,_,rfl,i,_,1,_,rfl,rfl,SqT.of b,rfl,_,rfl,i,_,2,_,rfl,rfl,SqT.of b,rfl,_,rfl,i,_,3,_,rfl,rfl,SqT.of b,rfl,?_⟩;refine⟨x,y,C,B,D,R,S,m,d,t,rfl,u,by have:=I.r;omega,λh=>p _ (.replyN h),λh c=>p _ (.replyT h c),λk r O v G c=>?_⟩;subst O;exact⟨λb=>p _ (.replyE v G c b),λb g l j o k U=>q (.num R.length) _ _ _ g l j (.reply v G c b) o k.t U (tk k) rfl (λ_ z=>nomatch z)⟩
abbrev aQV:Stmt:=xF "do_hang"
def aKo:yN ["book","deed"] ["book","deed"] (yH aQV):=scM
def aW3(a:MG P w K mg base (CXR P w) n CB "hang" ["self","number","other"] (bJp K Rf CB CL))(F:Fun K "do_hang" "do_hang" aQV f fd):xE P w K mg base (CXR P w) (n+1) f fd ["book","deed"] (aJb K Rf CB CL λe=>∃ (m:Int)(o:Int),e= .hang m o):=by
 have V:=aKo;refine F.okX (k:=n) V (λW A outer s H vs Q E Y h=>?_);obtain⟨L,I,M,O,N,T,R,S,e,rfl,⟨m,o,rfl⟩,v,J,U,D,tb,q,c⟩:=h;refine⟨_,(yC (yY (v1 a Y zZ (pv 0) (yA (yL yX (pv 1) yE) (yA (yL yX (pv 1) yE) yD)))) (yF (yP yR))),?_⟩;obtain⟨dx,X⟩:=J.book;have tk:∀ {x},vO (own M O N T) H x->wF Rf.2 x:=λk=>xU tb k J.kinds;have v:H I=some (.tup _):=v;refine⟨_,rfl,L,dx,_,rfl,X,rfl,_,rfl,I,_,1,_,rfl,rfl,SqT.of v,rfl,_,rfl,I,_,2,_,rfl,rfl,SqT.of v,rfl,?_⟩;refine⟨L,M,O,N,T,R,S,m,o,rfl,J,U.r,D,tb,λh=>c _ (.hangN h),λi j r q' Z eo b l d hw=>?_⟩;subst Z;subst eo;refine⟨λh=>c _ (.hangH b l d hw h),λh g=>c _ (.hangO b l d hw h g),λh g=>⟨λp=>c _ (.hangW b l d hw h g p),λp=>⟨λu=>c _ (.hangP b l d hw h g p u),λu=>⟨λG=>c _ (.hangE b l d hw h g p u G),λG x B y C k gr t=>?_⟩⟩⟩⟩;exact q (.txt "hung") _ _ _ x B y (.hang b l d hw h g p u G) C k gr t rfl (λ_ z=>nomatch z)
abbrev Z3:Stmt:=xF "do_loose"
def aVm:yN ["book","deed"] ["book","deed"] (yH Z3):=scM
def aJU(a:MG P w K mg base (CXR P w) n CB "loosen" ["self","number"] (aWe K Rf CB CL))(F:Fun K "do_loose" "do_loose" Z3 f fd):xE P w K mg base (CXR P w) (n+1) f fd ["book","deed"] (aJb K Rf CB CL λe=>∃ (m:Int),e= .loose m):=by
 have D:=aVm;refine F.okX (k:=n) D (λG A outer s H U Q E J h=>?_);obtain⟨o,B,u,x,v,y,R,S,e,rfl,⟨m,rfl⟩,i,j,T,M,tb,q,p⟩:=h;refine⟨_,(yC (yY (v1 a J zZ (pv 0) (yA (yL yX (pv 1) yE) yD))) (yF (yP yR))),?_⟩;obtain⟨O,I⟩:=j.book;have tk:∀ {b},vO (own u x v y) H b->wF Rf.2 b:=λk=>xU tb k j.kinds;have i:H B=some (.tup _):=i;refine⟨_,rfl,o,O,_,rfl,I,rfl,_,rfl,B,_,1,_,rfl,rfl,SqT.of i,rfl,?_⟩;refine⟨o,u,x,v,y,R,S,m,rfl,j,λh=>p _ (.oneN h (.inl rfl)),λk r L l C=>?_⟩;subst L;exact⟨λh=>p _ (.looseN l C h),λh b d c g k N=>q (.txt "loose") _ _ _ b d c (.loose l C h) g k.t N (tk k) rfl (λ_ z=>nomatch z)⟩
abbrev aQT:Stmt:=xF "do_date"
def aKm:yN ["book","deed"] ["book","deed"] (yH aQT):=scM
def aW1(a:MG P w K mg base (CXR P w) n CB "put_day" ["self","number","day"] (aWf K Rf CB CL))(F:Fun K "do_date" "do_date" aQT f fd):xE P w K mg base (CXR P w) (n+1) f fd ["book","deed"] (aJb K Rf CB CL λe=>∃ (m:Int)(d:Int),e= .date m d):=by
 have J:=aKm;refine F.okX (k:=n) J (λM A outer s H X Q E O h=>?_);obtain⟨v,o,y,C,B,D,R,S,e,rfl,⟨m,d,rfl⟩,b,p,I,l,tb,q,x⟩:=h;refine⟨_,(yC (yY (v1 a O zZ (pv 0) (yA (yL yX (pv 1) yE) (yA (yL yX (pv 1) yE) yD)))) (yF (yP yR))),?_⟩;obtain⟨V,N⟩:=p.book;have tk:∀ {c},vO (own y C B D) H c->wF Rf.2 c:=λk=>xU tb k p.kinds;have b:H o=some (.tup _):=b;refine⟨_,rfl,v,V,_,rfl,N,rfl,_,rfl,o,_,1,_,rfl,rfl,SqT.of b,rfl,_,rfl,o,_,2,_,rfl,rfl,SqT.of b,rfl,?_⟩;refine⟨v,y,C,B,D,R,S,m,d,rfl,p,by have:=I.r;omega,l,λh=>x _ (.oneN h (.inr (.inl ⟨d,rfl⟩))),λk r T u G=>?_⟩;subst T;exact⟨λh=>x _ (.dateE u G h),λW L c i g j k U=>q (.txt "dated") _ _ _ c i g (.date u G W L) j k.t U (tk k) rfl (λ_ z=>nomatch z)⟩
abbrev aQX:Stmt:=xF "do_term"
def aKq:yN ["book","deed"] ["book","deed"] (yH aQX):=scM
def aW5(a:MG P w K mg base (CXR P w) n CB "put_term" ["self","number","term"] (aJd K Rf CB CL))(F:Fun K "do_term" "do_term" aQX f fd):xE P w K mg base (CXR P w) (n+1) f fd ["book","deed"] (aJb K Rf CB CL λe=>∃ (m:Int)(t:Int),e= .term m t):=by
 have D:=aKq;refine F.okX (k:=n) D (λG A outer s H U Q E J h=>?_);obtain⟨p,j,v,y,x,B,R,S,e,rfl,⟨m,t,rfl⟩,b,l,T,M,tb,q,u⟩:=h;refine⟨_,(yC (yY (v1 a J zZ (pv 0) (yA (yL yX (pv 1) yE) (yA (yL yX (pv 1) yE) yD)))) (yF (yP yR))),?_⟩;obtain⟨O,I⟩:=l.book;have tk:∀ {c},vO (own v y x B) H c->wF Rf.2 c:=λk=>xU tb k l.kinds;have b:H j=some (.tup _):=b;refine⟨_,rfl,p,O,_,rfl,I,rfl,_,rfl,j,_,1,_,rfl,rfl,SqT.of b,rfl,_,rfl,j,_,2,_,rfl,rfl,SqT.of b,rfl,?_⟩;refine⟨p,v,y,x,B,R,S,m,t,rfl,l,λh=>u _ (.oneN h (.inr (.inr (.inl ⟨t,rfl⟩)))),λk r L o C=>?_⟩;subst L;exact⟨λh=>u _ (.termN o C h),λh c g d i k N=>q (.txt "set") _ _ _ c g d (.term o C h) i k.t N (tk k) rfl (λ_ z=>nomatch z)⟩
abbrev aQS:Stmt:=xF "do_copy"
def aKl:yN ["book","deed"] ["book","deed"] (yH aQS):=scM
def aW0(a:MG P w K mg base (CXR P w) n CB "send_copy" ["self","number","person"] (bJt K Rf CB CL))(F:Fun K "do_copy" "do_copy" aQS f fd):xE P w K mg base (CXR P w) (n+1) f fd ["book","deed"] (aJb K Rf CB CL λe=>∃ (m:Int)(b:Str),e= .copy m b):=by
 have J:=aKl;refine F.okX (k:=n) J (λM A outer s H Y Q E O h=>?_);obtain⟨v,o,y,C,B,D,R,S,e,rfl,⟨m,b,rfl⟩,d,p,I,U,tb,q,x⟩:=h;refine⟨_,(yF (yP (v1 a O zZ (pv 0) (yA (yL yX (pv 1) yE) (yA (yL yX (pv 1) yE) yD))))),?_⟩;obtain⟨W,N⟩:=p.book;have tk:∀ {g},vO (own y C B D) H g->wF Rf.2 g:=λk=>xU tb k p.kinds;have d:H o=some (.tup _):=d;refine⟨_,rfl,v,W,_,rfl,N,rfl,_,rfl,o,_,1,_,rfl,rfl,SqT.of d,rfl,_,rfl,o,_,2,_,rfl,rfl,SqT.of d,rfl,?_⟩;refine⟨v,y,C,B,D,R,S,m,b,rfl,p,I.c,λh=>x _ (.oneN h (.inr (.inr (.inr (.inl ⟨b,rfl⟩))))),λk r T u G=>?_⟩;subst T;exact⟨λh=>x _ (.copyC u G h),λX L g j i l k V=>q (.num (r.copies.length+1)) _ _ _ g j i (.copy u G X L) l k.t V (tk k) rfl (λ_ z=>nomatch z)⟩
abbrev aQU:Stmt:=xF "do_file"
def aKn:yN ["book","deed"] ["book","deed"] (yH aQU):=scM
def aW2(a:MG P w K mg base (CXR P w) n CB "lay_thread" ["self","number","name"] (bV4 K Rf CB CL))(F:Fun K "do_file" "do_file" aQU f fd):xE P w K mg base (CXR P w) (n+1) f fd ["book","deed"] (aJb K Rf CB CL λe=>∃ (m:Int)(name:Str),e= .file m name):=by
 have y:=aKn;refine F.okX (k:=n) y (λC A outer s H O Q E G h=>?_);obtain⟨p,l,t,u,g,j,R,S,e,rfl,⟨m,name,rfl⟩,b,o,x,i,tb,q,I⟩:=h;refine⟨_,(yF (yP (v1 a G zZ (pv 0) (yA (yL yX (pv 1) yE) (yA (yL yX (pv 1) yE) yD))))),?_⟩;obtain⟨M,D⟩:=o.book;have tk:∀ {c},vO (own t u g j) H c->wF Rf.2 c:=λk=>xU tb k o.kinds;have b:H l=some (.tup _):=b;refine⟨_,rfl,p,M,_,rfl,D,rfl,_,rfl,l,_,1,_,rfl,rfl,SqT.of b,rfl,_,rfl,l,_,2,_,rfl,rfl,SqT.of b,rfl,?_⟩;refine⟨p,t,u,g,j,R,S,m,name,rfl,o,x.r,i,tb,λh=>I _ (.oneN h (.inr (.inr (.inr (.inr (.inl ⟨name,rfl⟩)))))),λk r J B N c d v L=>?_⟩;subst J;exact q (.num (Bk.thr R k).length) _ _ _ c g j (.file B N) d v qP.refl L rfl (λ_ z=>nomatch z)
abbrev aQY:Stmt:=xF "do_void"
def aKr:yN ["book","deed"] ["book","deed"] (yH aQY):=scM
def aW6(a:MG P w K mg base (CXR P w) n CB "cancel" ["self","number"] (aV8 K Rf CB CL))(F:Fun K "do_void" "do_void" aQY f fd):xE P w K mg base (CXR P w) (n+1) f fd ["book","deed"] (aJb K Rf CB CL λe=>∃ (m:Int),e= .void m):=by
 have G:=aKr;refine F.okX (k:=n) G (λI A outer s H U Q E L h=>?_);obtain⟨o,B,u,x,v,y,R,S,e,rfl,⟨m,rfl⟩,i,j,D,N,tb,q,p⟩:=h;refine⟨_,(yC (yY (v1 a L zZ (pv 0) (yA (yL yX (pv 1) yE) yD))) (yF (yP yR))),?_⟩;obtain⟨T,J⟩:=j.book;have tk:∀ {b},vO (own u x v y) H b->wF Rf.2 b:=λk=>xU tb k j.kinds;have i:H B=some (.tup _):=i;refine⟨_,rfl,o,T,_,rfl,J,rfl,_,rfl,B,_,1,_,rfl,rfl,SqT.of i,rfl,?_⟩;refine⟨o,u,x,v,y,R,S,m,rfl,j,by have:=D.r;omega,λh=>p _ (.oneN h (.inr (.inr (.inr (.inr (.inr (.inl rfl))))))),λk r M l C=>?_⟩;subst M;exact⟨λh=>p _ (.voidA l C h),λh b d c g k O=>q (.txt "void") _ _ _ b d c (.void l C h) g k.t O (tk k) rfl (λ_ z=>nomatch z)⟩
abbrev aQW:Stmt:=xF "do_shut"
def aKp:yN ["book","deed"] ["book","deed"] (yH aQW):=scM
def aW4(a:MG P w K mg base (CXR P w) n CB "shut_day" ["self","day"] (bJu K Rf CB CL))(F:Fun K "do_shut" "do_shut" aQW f fd):xE P w K mg base (CXR P w) (n+1) f fd ["book","deed"] (aJb K Rf CB CL λe=>∃ (d:Int),e= .shut d):=by
 have y:=aKp;refine F.okX (k:=n) y (λB A outer s H M Q E D h=>?_);obtain⟨m,v,o,r,p,u,R,S,e,rfl,⟨d,rfl⟩,j,l,x,I,tb,q,G⟩:=h;refine⟨_,(yC (yY (v1 a D zZ (pv 0) (yA (yL yX (pv 1) yE) yD))) (yF (yP yR))),?_⟩;obtain⟨L,C⟩:=l.book;have tk:∀ {b},vO (own o r p u) H b->wF Rf.2 b:=λk=>xU tb k l.kinds;have j:H v=some (.tup _):=j;refine⟨_,rfl,m,L,_,rfl,C,rfl,_,rfl,v,_,1,_,rfl,rfl,SqT.of j,rfl,?_⟩;refine⟨m,o,r,p,u,R,S,d,rfl,l,by have:=x.s;omega,λh=>G _ (.shutN h),λh b g c i k J=>?_⟩;exact q (.txt "shut") _ _ _ b g c (.shut h) i k.t J (tk k) rfl (λ_ z=>nomatch z)
abbrev qN:Stmt:=xF "ask_state"
def aZ5:yN ["book","deed"] ["book","deed"] (yH qN):=scM
def aZQ(a:MG P w K mg base (CXR P w) n CB "state_of" ["self","number"] (aJf K Rf CB CL))(F:Fun K "ask_state" "ask_state" qN f fd):xE P w K mg base (CXR P w) (n+1) f fd ["book","deed"] (aJb K Rf CB CL λe=>∃ (m:Int),e= .state m):=by
 have v:=aZ5;refine F.okX (k:=n) v (λy A outer s H M Q E B h=>?_);obtain⟨j,u,o,p,d,i,R,S,e,rfl,⟨m,rfl⟩,g,b,L,G,tb,q,C⟩:=h;refine⟨_,(yF (yP (v1 a B zZ (pv 0) (yA (yL yX (pv 1) yE) yD)))),?_⟩;obtain⟨I,z⟩:=b.book;have tk:∀ {H'},vO (own o p d i) H H'->wF Rf.2 H':=λk=>xU tb k b.kinds;have g:H u=some (.tup _):=g;refine⟨_,rfl,j,I,_,rfl,z,rfl,_,rfl,u,_,1,_,rfl,rfl,SqT.of g,rfl,?_⟩;refine⟨j,o,p,d,i,R,S,m,rfl,b,λk r l D x J hl=>?_,λh=>C _ (.oneN h (.inr (.inr (.inr (.inr (.inr (.inr (.inl rfl))))))))⟩;subst D;have c:=yG hl (.tup (stV r));exact q (.row r) _ _ _ _ d i (.state x J) (b.same c) (Y6.of c.t) qP.refl (tk (vO.of c)) ⟨l,rfl,b.notnone hl,yB⟩ (uQ.none hl)
abbrev u9:Stmt:=xF "ask_thread"
def aX6:yN ["book","deed"] ["book","deed"] (yH u9):=scM
def aXP(a:MG P w K mg base (CXR P w) n CB "thread_of" ["self","number"] (jQ K Rf CB CL))(F:Fun K "ask_thread" "ask_thread" u9 f fd):xE P w K mg base (CXR P w) (n+1) f fd ["book","deed"] (aJb K Rf CB CL λe=>∃ (m:Int),e= .thread m):=by
 have y:=aX6;refine F.okX (k:=n) y (λB A outer s H N Q E D h=>?_);obtain⟨p,v,t,u,d,j,R,S,e,rfl,⟨m,rfl⟩,i,b,x,g,tb,q,G⟩:=h;refine⟨_,(yF (yP (v1 a D zZ (pv 0) (yA (yL yX (pv 1) yE) yD)))),?_⟩;obtain⟨L,C⟩:=b.book;have tk:∀ {c},vO (own t u d j) H c->wF Rf.2 c:=λk=>xU tb k b.kinds;have i:H v=some (.tup _):=i;refine⟨_,rfl,p,L,_,rfl,C,rfl,_,rfl,v,_,1,_,rfl,rfl,SqT.of i,rfl,?_⟩;refine⟨p,t,u,d,j,R,S,m,rfl,b,x.r,g.tree,tb,λh=>G _ (.oneN h (.inr (.inr (.inr (.inr (.inr (.inr (.inr (.inl rfl))))))))),λk r I z M c l nl o J hl=>?_⟩;subst I;exact q (.nums (Bk.thr R k)) _ _ _ c d j (.thread z M) (b.sameT o) (Y6.of o) qP.refl J ⟨l,rfl,b.notown nl,hl⟩ (uQ.nl nl)
abbrev u4:Stmt:=xF "ask_copies"
def aX5:yN ["book","deed"] ["book","deed"] (yH u4):=scM
def aXO(a:MG P w K mg base (CXR P w) n CB "copies_of" ["self","number"] (aWa K Rf CB CL))(F:Fun K "ask_copies" "ask_copies" u4 f fd):xE P w K mg base (CXR P w) (n+1) f fd ["book","deed"] (aJb K Rf CB CL λe=>∃ (m:Int),e= .copies m):=by
 have v:=aX5;refine F.okX (k:=n) v (λy A outer s H M Q E B h=>?_);obtain⟨j,u,o,p,d,i,R,S,e,rfl,⟨m,rfl⟩,g,b,L,G,tb,q,C⟩:=h;refine⟨_,(yF (yP (v1 a B zZ (pv 0) (yA (yL yX (pv 1) yE) yD)))),?_⟩;obtain⟨I,z⟩:=b.book;have tk:∀ {H'},vO (own o p d i) H H'->wF Rf.2 H':=λk=>xU tb k b.kinds;have g:H u=some (.tup _):=g;refine⟨_,rfl,j,I,_,rfl,z,rfl,_,rfl,u,_,1,_,rfl,rfl,SqT.of g,rfl,?_⟩;refine⟨j,o,p,d,i,R,S,m,rfl,b,λk r l D x J hl=>?_,λh=>C _ (.oneN h (.inr (.inr (.inr (.inr (.inr (.inr (.inr (.inr rfl)))))))))⟩;subst D;have c:=yG hl (.lst (r.copies.map V.str));exact q (.txts r.copies) _ _ _ _ d i (.copies x J) (b.same c) (Y6.of c.t) qP.refl (tk (vO.of c)) ⟨l,rfl,b.notnone hl,yB⟩ (uQ.none hl)
abbrev uE:Stmt:=xF "ask_letters"
def aXi:yN ["book","deed"] ["book","deed"] (yH uE):=scM
def aXd(a:MG P w K mg base CX0 n CB "letters_in" ["self","name"] (aQ1 CB CL))(F:Fun K "ask_letters" "ask_letters" uE f fd):xE P w K mg base (CXR P w) (n+1) f fd ["book","deed"] (aJb K Rf CB CL λe=>∃ (name:Str),e= .letters name):=by
 have x:=aXi;refine F.okX (k:=n) x (λy A outer s H G Q E B h=>?_);obtain⟨m,u,o,p,d,j,R,S,e,rfl,⟨name,rfl⟩,g,b,v,C,tb,q,I⟩:=h;refine⟨_,(yF (yP (v1 a B v0 (pv 0) (yA (yL yX (pv 1) yE) yD)))),?_⟩;obtain⟨D,z⟩:=b.book;have tk:∀ {H'},vO (own o p d j) H H'->wF Rf.2 H':=λk=>xU tb k b.kinds;have g:H u=some (.tup _):=g;refine⟨_,rfl,m,D,_,rfl,z,rfl,_,rfl,u,_,1,_,rfl,rfl,SqT.of g,rfl,?_⟩;refine⟨m,o,p,d,j,R,S,name,rfl,b,v.r,λl hl=>?_⟩;have c:=yG hl (.lst ((Z7 R name).map λi=>V.int (i:Nat)));exact q (.nums (Z7 R name)) _ _ _ _ d j .letters (b.same c) (Y6.of c.t) qP.refl (tk (vO.of c)) ⟨l,rfl,b.notnone hl,yB⟩ (uQ.none hl)
abbrev uG:Stmt:=xF "ask_waiting"
def aXk:yN ["book","deed"] ["book","deed"] (yH uG):=scM
def aXf(a:MG P w K mg base CX0 n CB "waiting" ["self","day"] (bKC CB CL false))(F:Fun K "ask_waiting" "ask_waiting" uG f fd):xE P w K mg base (CXR P w) (n+1) f fd ["book","deed"] (aJb K Rf CB CL λe=>∃ (d:Int),e= .on false d):=by
 have B:=aXk;refine F.okX (k:=n) B (λC A outer s H M Q E I h=>?_);obtain⟨v,z,x,y,j,p,R,S,e,rfl,⟨d,rfl⟩,o,b,u,J,tb,q,N⟩:=h;refine⟨_,(yF (yP (v1 a I v0 (pv 0) (yA (yL yX (pv 1) yE) yD)))),?_⟩;obtain⟨L,G⟩:=b.book;have tk:∀ {c},vO (own x y j p) H c->wF Rf.2 c:=λk=>xU tb k b.kinds;have o:H z=some (.tup _):=o;refine⟨_,rfl,v,L,_,rfl,G,rfl,_,rfl,z,_,1,_,rfl,rfl,SqT.of o,rfl,?_⟩;refine⟨v,x,y,j,p,R,S,d,rfl,b,u.r,u.s,λl c D g hl m i=>?_⟩;exact q (.nums D) _ _ _ c j p (.on i) (b.same g) (Y6.of g.t) qP.refl (tk (vO.of g)) ⟨l,rfl,b.notnone hl,m⟩ (uQ.none hl)
abbrev uF:Stmt:=xF "ask_overdue"
def aXj:yN ["book","deed"] ["book","deed"] (yH uF):=scM
def aXe(a:MG P w K mg base CX0 n CB "overdue" ["self","day"] (bKC CB CL true))(F:Fun K "ask_overdue" "ask_overdue" uF f fd):xE P w K mg base (CXR P w) (n+1) f fd ["book","deed"] (aJb K Rf CB CL λe=>∃ (d:Int),e= .on true d):=by
 have B:=aXj;refine F.okX (k:=n) B (λC A outer s H M Q E I h=>?_);obtain⟨v,z,x,y,j,p,R,S,e,rfl,⟨d,rfl⟩,o,b,u,J,tb,q,N⟩:=h;refine⟨_,(yF (yP (v1 a I v0 (pv 0) (yA (yL yX (pv 1) yE) yD)))),?_⟩;obtain⟨L,G⟩:=b.book;have tk:∀ {c},vO (own x y j p) H c->wF Rf.2 c:=λk=>xU tb k b.kinds;have o:H z=some (.tup _):=o;refine⟨_,rfl,v,L,_,rfl,G,rfl,_,rfl,z,_,1,_,rfl,rfl,SqT.of o,rfl,?_⟩;refine⟨v,x,y,j,p,R,S,d,rfl,b,u.r,u.s,λl c D g hl m i=>?_⟩;exact q (.nums D) _ _ _ c j p (.on i) (b.same g) (Y6.of g.t) qP.refl (tk (vO.of g)) ⟨l,rfl,b.notnone hl,m⟩ (uQ.none hl)
end
end Desk
namespace Desk
open PySem L2 PyProof.Rows
open Bk (Row Rows xP Ans x2)
open Thr (wF vZ qW)
structure bKL(P:bY7)(w:cQf)(K:bYM)(D:Nat)(kvs:List (Key×bYL)):Prop where
 at_:∃o es ep,K.lookup D=some o/\o.ExactDict/\o.data= .dict es ep/\KeysOf (zD P w) es/\Pairs (zD P w) es.toList kvs/\(kvs.map (·.1)).Nodup
inductive bYc(kvs:List (Key×bYL))(Q:VK)(y:V)(H1:Hp):Prop|mk (x:Str) (f:Nat) (_:y= .str x) (_:cZ7 kvs (Sum.inr x)=some (.ref f)) (_:Q (.ref f) H1)
def bYJ(a:List (Key×bYL))(b:TE):TE:=λσ H Q=>b σ H λy c=>bYc a Q y c
def bW0{X:Cx}{x:Str}{D:Nat}{a:List (Key×bYL)}{i:Expr}{d:TE}{p pos:Pos}(t:Gl X x)(A:X.mg x=some (.ref D))(T:bKL X.prog X.w X.K D a)(n:PE X i d)(l:bYg i)(c:(x==("__debug__":Str))=false:=by decide):
  PE X (.Subscript (.Name x p) i pos) (bYJ a d):=by
 intro b s σ H Q I h
 refine bV5 PySem.F.slot_dict_getitem.lookup l (uW I t A (thn (n b s σ H _ I h) λiv s2 ⟨y,H2,I2,ry,x',f,ex,hv,q2⟩=>?_) c)
 subst ex
 obtain⟨o,u,z,v,j,g,q,m,r⟩:=T.at_
 have e:s2.heap.DictOf (zD X.prog X.w) D a:=⟨o,u,z,I2.kIn _ _ v,j,g,q,m,r⟩
 exact⟨e.typeIs,wpAny_getItem_of (bXr (k:=Sum.inr x') ry) e.mapOf hv ⟨.ref f,H2,I2.tok _,rfl,q2⟩⟩
inductive bJw(P:bY7)(w:cQf)(K:bYM)(mg:Str->Option bYL)(base:Heap)(k i:Nat)(E:XK)(t:TA)(σ:L2.St)(H:Hp)(Q:VK):Prop|mk (f) (_:σ[i]? =some (some (.ref f))) (_:cQH K (.ref f)=true) (_:t σ H λvs H1=>∃fd ps sp,xE P w K mg base (CXR P w) k f fd ps sp/\v6 K fd ps []/\sp vs H1 Q E)
def bX7{X:Cx}{k i:Nat}{x:Str}{e:Expr}{c:List Expr}{t:TA}{E:XK}{p pos:Pos}(y:vW k X.A)(z:X.N[i]? =some x)(D:Vis X.env.scope x)(C:vP (CXR X.prog X.w) X E)(J:PA X (e::c) t)
  (l:(x==("__debug__":Str))=false:=by decide) (g:(x==("__classdict__":Str))=false:=by decide) (B:cQr (e::c) X.env=(false,eval e X.env)::cQr c X.env:=by rfl) (j:(cXp pos (cQr c X.env)).any (·.1)=false:=by rfl):
  PE X (.Call (.Name x p) (e::c) [] pos) (bJw X.prog X.w X.K X.mg X.base k i E t):=by
 intro a s σ H Q I h
 obtain⟨f,o,L,q⟩:=h
 refine cXq (thn (bJk (pos:=p) z D l g a s σ H (λv d=>v= .ref f/\d=H) I ⟨_,o,rfl,rfl⟩) ?_)
 rintro u n ⟨v,d,m,G,rfl,rfl⟩
 obtain rfl:u=Value.ref f:=G
 refine cZC (h₀:=X.base) I.ok.mod.kin L (thn (J pos a n σ d _ m q) λus s2 ⟨vs,H2,I2,r,fd,ps,sp,F,b,q2⟩=>⟨I2.kIn,?_⟩) B j
 exact aZ1 F y b .nil C I2 r (by rw[cQO];exact q2)
def aYh:xP->Str
 |.enter b _ _ _=>b
 |.reply _ _ _=>"reply"
 |.hang _ _=>"hang"
 |.loose _=>"loose"
 |.date _ _=>"date"
 |.term _ _=>"term"
 |.copy _ _=>"copy"
 |.file _ _=>"file"
 |.void _=>"void"
 |.shut _=>"shut"
 |.state _=>"state"
 |.thread _=>"thread"
 |.copies _=>"copies"
 |.letters _=>"letters"
 |.on a _=>if a then "overdue" else "waiting"
def Wf:xP->Prop
 |.enter a _ _ _=>a="in"\/a="out"
 |_=>True
def bXe(e:xP):atI (xH e) 0=some (.str (aYh e)):=by cases e<;> rfl
def bWj(P:bY7)(w:cQf)(K:bYM)(mg:Str->Option bYL)(base:Heap)(n:Nat)(Rf:Nat×Nat)(c CL:Nat)(a:List (Key×bYL)):Prop:=∀e:xP,Wf e->∃ (f:Nat)(b:cXK)(p:xP->Prop),cZ7 a (Sum.inr (aYh e))=some (.ref f)/\
 xE P w K mg base (CXR P w) n f b ["book","deed"] (aJb K Rf c CL p)/\p e/\v6 K b ["book","deed"] []/\cQH K (.ref f)=true
inductive aQa(Rf:Nat×Nat)(CB CL:Nat)(vs:List V)(H:Hp)(Q:VK)(_:XK):Prop|mk (ba da la sa:Nat) (ls cs:List Nat) (R:Rows) (S:List Int) (e:xP) (_:vs= [.ref ba,.ref da]) (_:Wf e) (_:H da=some (.tup (xH e))) (_:PB CB CL H ba la sa ls cs R S) (_:Sz R S) (_:Bk.Y4 R) (_:wF Rf.2 H) (_:∀ (a:Ans)(R':Rows)(S':List Int)(v:V)(H':Hp)(ls' cs':List Nat),x2 R S e a R' S'->PB CB CL H' ba la sa ls' cs' R' S'->Y6 (own la sa ls cs) H H'->qP H (own la sa ls cs) (own la sa ls' cs')->wF Rf.2 H'->vI (own la sa ls' cs') H' a v->uQ H v->Q v H')
section
variable {K:bYM}
abbrev aJ7:Stmt:=xF "answer"
def bQr:yN ["book","deed","do","refusal"] ["book","deed"] (yH aJ7):=scM
def aYE(L:mg "DEEDS"=some (.ref D))(X:bKL P w K D kvs)(hR:mg "Refused"=some (.ref Rf.1))(cR:v7 K Rf.1)(all:bWj P w K mg base n Rf CB CL kvs)(F:Fun K "answer" "answer" aJ7 f fd): xE P w K mg base CX0 (n+1) f fd ["book","deed"] (aQa Rf CB CL):=by
 have m:=bQr;refine F.ok (k:=n) m (λG A outer s H vs Q E J h=>?_);obtain⟨I,v,N,U,p,u,R,S,e,rfl,c,r,x,B,d,tb,q⟩:=h;refine⟨_,(yC (yU (i:=2) (bW0 rfl L X (yL yX (pv 1) yE) (λ_ _=>rfl))) (yF (bW2 (i:=3) m.nd rfl rfl rfl hR cR rfl rfl rfl (by decide) (by decide) (by decide) (λ_=>rfl) (tb:=λE=>bYn (bJw P w K mg base n 2 E (aKD (bV9 0) (aKD (bV9 1) bZO)))) (λpn xe E V=>yF (yP (bX7 J rfl (Or.inl rfl) V (yA (pv 0) (yA (pv 1) yD)))))))),?_⟩;obtain⟨o,a,pe,Y,M,g,b,j⟩:=all e c;refine⟨_,rfl,v,_,0,_,rfl,rfl,SqT.of r,bXe e,aYh e,o,rfl,Y,?_⟩;dsimp only[yW];refine⟨o,rfl,j,_,rfl,_,rfl,a,_,_,M,b,I,v,N,U,p,u,R,S,e,rfl,g,r,x,B,d,tb,q,λt l=>?_⟩;intro C W O y Z k T;exact⟨C,W,t,rfl,rfl,y,Z,T,q (.txt t) R S _ O p u l (x.sameT k.1) (Y6.of k.1) qP.refl (k.2 tb) rfl (λ_ z=>nomatch z)⟩
inductive Run:Rows->List Int->List xP->List Ans->Rows->List Int->Prop
 |nil {R:Rows} {S:List Int}:Run R S [] [] R S
 |snoc {R R' R'':Rows} {S S' S'':List Int} {es:List xP} {as:List Ans} {e:xP} {a:Ans} (h:Run R S es as R' S') (d:x2 R' S' e a R'' S''):Run R S (es++ [e]) (as++ [a]) R'' S''
def Run.len{R c:Rows}{S e:List Int}{a:List xP}{b:List Ans}(h:Run R S a b c e):a.length=b.length:=by
 induction h with
 |nil=>rfl
 |snoc h d f=>simp[f]
structure Up(t:Nat)(R:Rows)(S:List Int):Prop where
 r:R.length<=t
 s:S.length<=t
 c:∀r∈R,r.copies.length<=t
def Up.set{t:Nat}{R:Rows}{S:List Int}(u:Up t R S)(k:Nat)(f:Row->Row)(b:∀r,(f r).copies.length<=r.copies.length+1):Up (t+1) (Bk.xO R k f) S:=
 ⟨by rw[Bk.zU];exact cXj u.r,cXj u.s,λr a=>by
  rcases Bk.aQw a with h|⟨q,h,rfl⟩
  ·exact cXj (u.c r h)
  ·exact cQo (b q) (Nat.succ_le_succ (u.c q h))⟩
def aQq{name:Str}:∀ (l:List Nat)(R:Rows)(t:Nat),(∀r∈R,r.copies.length<=t)->∀r∈Bk.laid R l name,r.copies.length<=t
 |[],R,t,h,r,hr=>h r hr
 |k::l,R,t,h,r,hr=>aQq l (Bk.xO R k λr=>{r with place:=name}) t (λq b=>by
   rcases Bk.aQw b with z|⟨a,z,rfl⟩
   ·exact h q z
   ·exact h a z) r hr
def Up.laid{t:Nat}{R:Rows}{S:List Int}(u:Up t R S)(l:List Nat)(name:Str):Up t (Bk.laid R l name) S:=⟨by rw[Bk.wY];exact u.r,u.s,aQq l R t u.c⟩
def Up.le{t:Nat}{R:Rows}{S:List Int}(u:Up t R S):Up (t+1) R S:=⟨cXj u.r,cXj u.s,λr h=>cXj (u.c r h)⟩
def Up.snoc{t:Nat}{R:Rows}{S:List Int}(u:Up t R S)(r:Row)(h:r.copies= []):Up (t+1) (R++ [r]) S:=⟨by simpa using u.r,cXj u.s,λq a=>by
 rcases cQp.mp a with z|z
 ·exact cXj (u.c q z)
 ·rw[bY2.mp z,h];exact cQJ _⟩
def Up.done{t:Nat}{R b:Rows}{S d:List Int}{e:xP}{a:Ans}(u:Up t R S)(h:x2 R S e a b d):Up (t+1) b d:=by
 cases h with
 |enter _=>exact u.snoc _ rfl
 |reply _ _ _ _=>exact u.snoc _ rfl
 |hang _ _ _ _ _ _ _ _ _=>exact(u.laid _ _).set _ _ λ_=>cXU _
 |loose _ _ _=>exact u.set _ _ λ_=>cXU _
 |date _ _ _ _=>exact u.set _ _ λ_=>cXU _
 |term _ _ _=>exact u.set _ _ λ_=>cXU _
 |copy _ _ _ _=>exact u.set _ _ λr=>by simp
 |file _ _=>exact(u.laid _ _).le
 |void _ _ _=>exact u.set _ _ λ_=>cXU _
 |shut _=>exact⟨cXj u.r,by simpa using u.s,λr h=>cXj (u.c r h)⟩
 |_=>exact u.le
def Up.sz{t:Nat}{R:Rows}{S:List Int}(u:Up t R S)(h:t<64):Sz R S:=⟨by have:=u.r;omega,by have:=u.s;omega,λr a=>by have:=u.c r a;omega⟩
end
end Desk
namespace Law
open PySem L2 PyProof.Rows
open Bk (Row Rows x2 xP Ans)
open Desk (xH vI uQ Wf)
abbrev aXV:Stmt:=xF "_law_entered"
def aQ7(e:Nat)(c a:List Nat)(H d:Hp):Prop:=(∀x o,x∉e::c->H x=some o->d x=some o)/\(∀b∈a,b∈c\/H b=none)/\∀s u,H s=some u->NoC c H s->NoC a d s
def But.step{d:Nat}{a:List Nat}{H c:Hp}(k:But a H c):aQ7 d a a H c:=⟨λx o n e=>k.1 x o (λz=>n (bYX _ z)) e,λb h=> .inl h,k.2.2⟩
def aQ7.pre{f:Nat}{c a:List Nat}{H g d:Hp}(i:∀b∈c,∃o,H b=some o)(k:xC H g)(s:aQ7 f c a g d):aQ7 f c a H d:=
 ⟨λx o n e=>s.1 x o n (k _ _ e),λb h=>(s.2.1 b h).imp id λz=>k.fresh z,λx u e n=>s.2.2 x u (k _ _ e) ((But.of i k).2.2 x u e n)⟩
inductive aQ0(vs:List V)(H:Hp)(Q:VK)(_:XK):Prop|mk (ra da:Nat) (rs:List Nat) (R:Rows) (e:xP) (_:vs= [.ref ra,.ref da]) (_:H da=some (.tup (xH e))) (_:Wf e) (_:((∃way d who t,e= .enter way d who t)\/∃m d t,e= .reply m d t)) (_:xA H ra rs R) (_:R.length<=60) (_:∀ (H':Hp)(a:Ans)(v:V)(R':Rows)(rs':List Nat),aQ7 ra rs rs' H H'->xA H' ra rs' R'->(∀S,x2 R S e a R' S)->vI [] H' a v->uQ H v->Q v H')
def aWs{H:Hp}{j:Nat}{p:List Nat}{R:Rows}(h:xA H j p R){r:Row}(O:r.copies= []){d b:Nat}(v:H d=none)(E:upd H d (.lst []) b=none): xA (upd (upd (upd H d (.lst [])) b (.lst (uO r d))) j (.lst ((p++ [b]).map V.ref))) j (p++ [b]) (R++ [r])/\aQ7 j p (p++ [b]) H (upd (upd (upd H d (.lst [])) b (.lst (uO r d))) j (.lst ((p++ [b]).map V.ref))):=by
 have M:=yG v (.lst []);have T:=yG E (.lst (uO r d));have D:=M.trans T;have m:H b=none:=M.fresh E;have A:b≠j:=λz=>by rw[z,h.lst]at m;cases m
 have K:d≠j:=λz=>by rw[z,h.lst]at v;cases v
 have L:d≠b:=λz=>by rw[<- z,yB]at E;cases E
 have nb:b∉p:=λz=>by obtain⟨o,e⟩:=h.dom b z;rw[m]at e;cases e
 have rne:∀ {a r' f},H a=some (.lst (uO r' f))->a≠j:=λq z=>by rw[z,h.lst]at q;exact aQJ (bY6 q).symm
 refine⟨⟨yB,by simp[h.len],?_,λi c q g k=>?_⟩,λx o n e=>?_,λc t=>?_,λs u e n c t l G=>?_⟩
 ·exact cZe.mpr ⟨h.nd,cXb _ _,λa S c v z=>nb (by rw[<- bY2.mp v,<- z];exact S)⟩
 ·by_cases w:i<R.length
  ·rw[cQs (by rw[h.len];exact w)]at g;rw[cQs w]at k;obtain⟨f,F,B⟩:=h.row i c q g k;have I:f≠j:=λz=>by
    rw[z,h.lst]at B;have hl:=congrArg cXT (HO.lst.inj (bY6 B));have:=bY3 g;cases p with
    |nil=>cases this
    |cons x W=>
     cases C:q.copies with
     |nil=>rw[C]at hl;simp at hl
     |cons y U=>rw[C]at B;have:=HO.lst.inj (bY6 B);simp at this
   exact⟨f,by rw[yI (rne F)];exact D _ _ F,by rw[yI I];exact D _ _ B⟩
  ·have J:i=R.length:=by
    have:=(bYW.mp k).1;simp at this;omega
   subst J;rw[cQb (by rw[h.len];exact bYS _),h.len,cQ7]at g;rw[cQb (bYS _),cQ7]at k;cases g;cases k;exact⟨d,by rw[yI A,yB];rfl,by rw[yI K,yI L,yB,O];rfl⟩
 ·have P:x≠j:=λz=>n (by rw[z];exact bY0);rw[yI P];exact D _ _ e
 ·rcases cQp.mp t with z|z
  ·exact .inl z
  ·exact .inr (by rw[bY2.mp z];exact m)
 ·rcases cQp.mp t with z|z
  ·have z2:c≠j:=λy=>by
    obtain⟨i,w,Q⟩:=cQC z;obtain⟨f,F,_⟩:=h.row i c _ (by rw[bYK w,Q]) (bYK (show i<R.length by rw[<- h.len];exact w));exact rne F y
   obtain⟨o,N⟩:=h.dom c z;rw[yI z2,D _ _ N]at G;exact n c z l (by rw[N];exact G)
  ·rw[bY2.mp z,yI A,yB]at G;cases G;intro y;have:d=s:=by injection y with y;injection y
   rw[<- this,v]at e;cases e
section
variable {K:bYM}
def uR:cQw "int"=some (.type "int"):=dk
def aKs:yN ["_law_rows","_law_deed","_law_way","_law_date","_law_partner","_law_link","_law_place","_law_one"] ["_law_rows","_law_deed"] (yH aXV):=scM
def aW7(T:vJ mg)(a4:mg "int"=none)(C:FnG P w K mg base 2 "_law_good" ["_law_rows","_law_number"] W9)(F:Fun K "_law_entered" "_law_entered" aXV f fd):xE P w K mg base CX0 3 f fd ["_law_rows","_law_deed"] aQ0:=by
 have sc:=aKs;refine F.ok (k:=2) sc (λb6 A outer s H vs Q E hr h=>?_);obtain⟨M,o,X,R,e,rfl,y,b3,v,J,hR,q⟩:=h;refine⟨_,(yC (vE (xG (yA (yL yX (pv 1) yE) (yA (yL yX (pv 1) yE) (yA (yL yX (pv 1) yE) (yA x6 (yA yR yD)))))) (aZV rfl (zE (y9 (i:=2)) (zE (y9 (i:=3)) (zE (y9 (i:=4)) (zE (y9 (i:=5)) (zE (y9 (i:=6)) aQG))))))) (yC (y7 (yM zI (pv 2) yR) (yC (y7 (vF (xZ (xJ C hr rfl (yA (pv 0) (yA (yL yX (pv 1) yE) yD))))) (yF (yP yR)) yS) (yC (yU (i:=7) (yL yK (pv 0) (yL yX (pv 1) yE))) (yC (yU (i:=2) (yL yK (y6 (yA yR (yA yR yD))) (x5 vB rfl a4 uR (yA (zR zI (yL yK (pv 7) yE) yR) yD)))) (yF (vE (xG (yA (yL yX (pv 1) yE) (yA (yL yK (pv 7) yE) (yA (yL yX (pv 1) yE) (yA (yL yK (pv 7) yE) yD))))) (aZV rfl (zE (y9 (i:=3)) (zE (y9 (i:=4)) (zE (y9 (i:=5)) (zE (y9 (i:=6)) aQG)))))))))) yS) (yC (y7 (yM vL (yL yX (pv 1) yE) yE) (yF (yP yR)) yS) (yC (y7 (PW.pt (vS (yM wA (pv 5) x6) (wR (yM vL (pv 3) (yL yK (yL yK (pv 0) (pv 5)) yE))))) (yF (yP yR)) yS) (yC (yY (vM cQa cQh cQi xD (pv 0) (yA (y6 (yA (pv 2) (yA (pv 3) (yA (pv 4) (yA (yL yX (pv 1) yE) (yA (pv 5) (yA (pv 6) (yA wQ (yA (y6 yD) yD))))))))) yD))) (yF (yP (yV wU (yQ yO rfl T.b_len xB (yA (pv 0) yD)) yE)))))))),?_⟩;have h0:∃a b c,(xH e)[0]? =some (.str a)/\(xH e)[1]? =some (.int b)/\(xH e)[2]? =some c/\a=Desk.aYh e:=by
  rcases v with⟨g,d,l,t,rfl⟩|⟨m,d,t,rfl⟩
  ·exact⟨_,_,_,rfl,rfl,rfl,rfl⟩
  ·exact⟨_,_,_,rfl,rfl,rfl,rfl⟩
 obtain⟨N,b0,G,d0,d1,d2,ea⟩:=h0;refine⟨_,rfl,o,_,0,_,rfl,rfl,SqT.of y,yT (j:=0) d0,_,rfl,o,_,1,_,rfl,rfl,SqT.of y,yT (j:=1) d1,_,rfl,o,_,2,_,rfl,rfl,SqT.of y,yT (j:=2) d2,z5,λtp b1=>?_⟩;have W:=yG b1 (.tup [.str N,.int b0,G,.non,.str ""]);refine⟨tp,[.str N,.int b0,G,.non,.str ""],rfl,SqT.of yB,rfl,.str N,[.int b0,G,.non,.str ""],rfl,.int b0,[G,.non,.str ""],rfl,G,[.non,.str ""],rfl,.non,[.str ""],rfl,.str "",[],rfl,rfl,?_⟩;generalize upd H tp (.tup [.str N,.int b0,G,.non,.str ""])=H1 at W ⊢;dsimp only[yW];refine zF (λu H'=>∃ (g l place:Str)(d t:Int)(lk:Option Nat)(o7:Option V),u= [some (.ref M),some (.ref o),some (.str g),some (.int d),some (.str l),some (w6 lk),some (.str place),o7]/\xC H H'/\(xH e)[3]? =some (.int t)/\(∀k,lk=some k->k<R.length)/\
  (t<0->∀S,x2 R S e (.txt "no term") R S)/\(0<=t->(∃k,lk=some k/\d<Bk.dt R k)->∀S,x2 R S e (.txt "too early") R S)/\(0<=t->(∀k,lk=some k->Bk.dt R k<=d)->∀S,x2 R S e (.num R.length) (R++ [⟨g,d,l,t,lk,place,false,[]⟩]) S)) ?jX (λn=>?_)
 case jX=>
  rintro u H2 ⟨g,l,place,d,t,lk,o7,rfl,B,d3,b5,t1,t2,t3⟩;have p:=J.same B;have a5:=B _ _ y;have stay:∀ {H3:Hp} {x:Str},xC H H3->(∀S,x2 R S e (.txt x) R S)->Q (.str x) H3:=λ{H3 x} k dn=>q H3 (.txt x) _ R X (But.of J.dom k).step (J.same k) dn rfl (λ_ z=>nomatch z);refine⟨_,rfl,o,_,3,_,rfl,rfl,SqT.of a5,yT (j:=3) d3,_,_,rfl,rfl,_,rfl,?_⟩;refine qB (λc=>?_) (λc=>?_)
  ·exact stay B (t1 (of_decide_eq_true c))
  have ht:0<=t:=by have:=of_decide_eq_false (Bool.eq_false_iff.mpr c);omega
  dsimp only[aJg];refine zF (λu H'=>u= [some (.ref M),some (.ref o),some (.str g),some (.int d),some (.str l),some (w6 lk),some (.str place),o7]/\H'=H2/\∀k,lk=some k->Bk.dt R k<=d) ?rest2 (λn=>?_);case rest2=>
   rintro u H' ⟨rfl,rfl,h1⟩;refine⟨_,rfl,.inl ⟨rfl,_,SqL.of p.lst⟩,_,rfl,_,rfl,_,rfl,_,rfl,o,_,3,_,rfl,rfl,SqT.of a5,yT (j:=3) d3,_,rfl,_,rfl,z0,λcp a1=>⟨zn (by show 8<=100000;omega),λb hb=>?_⟩⟩;have hE:=aWs p (r:=⟨g,d,l,t,lk,place,false,[]⟩) rfl a1 hb;have k3:=(yG a1 (.lst [])).trans (yG hb (.lst (uO ⟨g,d,l,t,lk,place,false,[]⟩ cp)));refine⟨M,_,_,rfl,rfl,k3 _ _ p.lst,zlt (by rw[bYP,J.len];omega),?_⟩;have el:X.map V.ref++ [V.ref b]=(X++ [b]).map V.ref:=by simp
   rw[el];refine⟨_,rfl,M,_,rfl,.inl (SqL.of yB),?_⟩;refine⟨_,_,rfl,rfl,?_⟩;have en:(((((X++ [b]).map V.ref).length:Nat):Int) - 1)=(R.length:Int):=by rw[bYP,bY8,J.len];simp
   show Q (V.int _) _;rw[en];exact q _ (.num R.length) _ _ _ (hE.2.pre J.dom B) hE.1 (t3 ht h1) rfl (λ_ z=>nomatch z)
  cases lk with
  |none=>exact⟨_,rfl,rfl,_,rfl,onF rfl (onF rfl (n _ _ ⟨rfl,rfl,λk z=>nomatch z⟩))⟩
  |some j=>
   have b2:=b5 j rfl;have U:=bYK b2;obtain⟨bj,j1,j2,cj,j3,j4⟩:=p.get U;refine⟨_,rfl,rfl,_,rfl,onT rfl ⟨_,rfl,_,rfl,_,rfl,M,_,_,_,rfl,rfl,SqL.of p.lst,yT j1,bj,_,1,_,rfl,rfl,SqL.of j3,rfl,_,_,rfl,rfl,_,rfl,?_⟩⟩;cases a6:decide (d<R[j].date)with
   |true=>exact onT rfl (stay B (t2 ht ⟨j,rfl,by rw[Bk.vK U];exact of_decide_eq_true a6⟩))
   |false=>exact onF rfl (n _ _ ⟨rfl,rfl,λi O=>by cases O;rw[Bk.vK U];have:=of_decide_eq_false a6;omega⟩)
 refine⟨_,rfl,rfl,_,rfl,?_⟩;rcases v with⟨g,d,l,t,rfl⟩|⟨m,d,t,rfl⟩
 ·have a2:g="in"\/g="out":=b3;obtain rfl:N=g:=by cases d0;rfl
  obtain rfl:b0=d:=by cases d1;rfl
  obtain rfl:G= .str l:=by cases d2;rfl
  refine onF (by rcases a2 with rfl|rfl<;> decide) ?_;exact n _ _ ⟨N,l,"",b0,t,none,none,rfl,W,rfl,(λk z=>nomatch z),(λh S=> .enterT h),(λh ⟨k,z,_⟩=>nomatch z),λh _ S=> .enter h⟩
 ·obtain rfl:N="reply":=by cases d0;rfl
  obtain rfl:b0=m:=by cases d1;rfl
  obtain rfl:G= .int d:=by cases d2;rfl
  refine onT rfl ?_;have L:H1 o=some (.tup [.str "reply",.int b0,.int d,.int t]):=W _ _ y;have D:=J.same W;refine⟨_,rfl,_,rfl,o,_,1,_,rfl,rfl,SqT.of L,rfl,M,X,R,b0,rfl,D,_,rfl,?_⟩;cases h1:Bk.wW R b0 with
  |false=>exact onT rfl (q H1 (.txt "no letter") _ R X (But.of J.dom W).step D (λS=> .replyN h1) rfl (λ_ z=>nomatch z))
  |true=>
  obtain⟨i,r,rfl,a9,O,hv⟩:=Bk.wJ h1;obtain⟨b,g1,g2,cp,g3,g4⟩:=D.get O;refine onF rfl ⟨_,rfl,_,rfl,o,_,1,_,rfl,rfl,SqT.of L,rfl,M,_,_,_,rfl,rfl,SqL.of D.lst,yT g1,?_⟩;dsimp only[yW];refine⟨z2,λl2 a7=>⟨_,rfl,b,_,0,_,rfl,rfl,SqL.of (yG a7 (.lst [.str "in",.str "out"]) _ _ g3),rfl,rfl,.inr ⟨_,rfl,?_⟩⟩⟩;have B:=yG a7 (.lst [.str "in",.str "out"]);have a3:=W.trans B;have I:upd H1 l2 (.lst [.str "in",.str "out"]) l2=some (.lst [.str "in",.str "out"]):=yB;generalize upd H1 l2 (.lst [.str "in",.str "out"])=H3 at B a3 I ⊢;have a8:atI [V.str "in",V.str "out"] (if decide (V.str r.way=V.str "in")=true then 1 else 0)=some (.str (Bk.uY r.way)):=by
   rw[w8];unfold Bk.uY;by_cases z:r.way="in"
   ·rw[if_pos z,decide_eq_true z];rfl
   ·rw[if_neg z,decide_eq_false z];rfl
  have Z:=B _ _ L;have Y:=B _ _ g3;refine⟨l2,_,_,_,rfl,rfl,SqL.of I,a8,?_⟩;dsimp only[yW];refine⟨_,rfl,o,_,2,_,rfl,rfl,SqT.of Z,rfl,_,rfl,b,_,2,_,rfl,rfl,SqL.of Y,rfl,_,rfl,o,_,1,_,rfl,rfl,SqT.of Z,rfl,_,rfl,b,_,5,_,rfl,rfl,SqL.of Y,rfl,z4,λt4 b4=>?_⟩;have k4:=yG b4 (.tup [.int d,.str r.partner,.int (i:Nat),.str r.place]);refine⟨t4,[.int d,.str r.partner,.int (i:Nat),.str r.place],rfl,SqT.of yB,rfl,.int d,[.str r.partner,.int (i:Nat),.str r.place],rfl,.str r.partner,[.int (i:Nat),.str r.place],rfl,.int (i:Nat),[.str r.place],rfl,.str r.place,[],rfl,rfl,?_⟩;refine n _ _ ⟨Bk.uY r.way,r.partner,r.place,d,t,some i,_,rfl,a3.trans k4,rfl,(λk z=>by cases z;exact a9),(λh S=> .replyT h1 h),(λh ⟨k,z,y⟩ S=>?_),(λh y S=>?_)⟩
  ·cases z;rw[Bk.vK O]at y;exact .replyE O hv h y
  ·have:=y i rfl;rw[Bk.vK O]at this;exact .reply O hv h this
end
end Law
namespace Law
open PySem L2 PyProof.Rows
open Bk (Row Rows x2 xP Ans)
open Desk (xH vI uQ Wf wX)
abbrev bVK:Stmt:=xF "_law_with_one"
def xA.tupNo{H:Hp}{d:Nat}{a:List Nat}{R:Rows}(h:xA H d a R){x:Nat}{ys:List V}(e:H x=some (.tup ys)):x∉a:=λz=>by
 obtain⟨i,b,f⟩:=cQC z;obtain⟨g,c,_⟩:=h.row i x _ (by rw[bYK b,f]) (bYK (show i<R.length by rw[<- h.len];exact b));rw[e]at c;cases c
def aJv{H:Hp}{m:Nat}{f:List Nat}{R:Rows}{k:Nat}{b:Nat}{r:Row}(h:xA H m f R)(p:f[k]? =some b)(t:R[k]? =some r){v a:Nat}(B:H b=some (.lst (uO r v)))(w:List Str)(d:H a=none): xA (upd (upd H a (.lst (w.map V.str))) b (.lst (uO r a))) m f (Bk.xO R k λr=>{r with copies:=w})/\aQ7 m f f H (upd (upd H a (.lst (w.map V.str))) b (.lst (uO r a))):=by
 have j:=yG d (.lst (w.map V.str));have A:=h.same j;refine⟨A.upd p t (λr=>{r with copies:=w}) yB,λx o n e=>?_,λc i=> .inl i,λs u e n c i l g=>?_⟩
 ·rw[yI (λz=>n (bYX _ (by rw[z];exact bY3 p)))];exact j _ _ e
 ·by_cases z:c=b
  ·subst z;rw[yB]at g;cases g;intro y;have:a=s:=by injection y with y;injection y
   rw[<- this,d]at e;cases e
  ·rw[yI z]at g;obtain⟨o,q⟩:=h.dom c i;rw[j _ _ q]at g;exact n c i l (by rw[q];exact g)
def Y7(e:xP)(m:Int):Prop:=e= .loose m\/(∃d,e= .date m d)\/(∃t,e= .term m t)\/(∃w,e= .copy m w)\/(∃w,e= .file m w)\/e= .void m
inductive bQW(vs:List V)(H:Hp)(Q:VK)(_:XK):Prop|mk (ra da:Nat) (rs:List Nat) (R:Rows) (e:xP) (m:Int) (_:vs= [.ref ra,.ref da]) (_:H da=some (.tup (xH e))) (_:Y7 e m) (_:xA H ra rs R) (_:R.length<=60) (_:Bk.Y4 R) (_:(∀r∈R,r.copies.length<=1000)) (_:∀ (H':Hp)(a:Ans)(v:V)(R':Rows),aQ7 ra rs rs H H'->xA H' ra rs R'->(∀S,x2 R S e a R' S)->vI [] H' a v->uQ H v->Q v H')
def Y7.at1{e:xP}{m:Int}(h:Y7 e m):(xH e)[1]? =some (.int m):=by
 rcases h with rfl|⟨d,rfl⟩|⟨d,rfl⟩|⟨d,rfl⟩|⟨d,rfl⟩|rfl<;> rfl
def Y7.no{e:xP}{m:Int}{R:Rows}(h:Y7 e m)(g:Bk.wW R m=false)(S:List Int):x2 R S e (.txt "no letter") R S:=by
 refine .oneN g ?_;rcases h with rfl|⟨d,rfl⟩|⟨d,rfl⟩|⟨d,rfl⟩|⟨d,rfl⟩|rfl<;> simp
section
variable {K:bYM}
def bVZ:yN ["_law_rows","_law_deed","_law_one","_law_numbers","_law_k","_law_row"] ["_law_rows","_law_deed"] (yH bVK):=scM
def bVo(T:vJ mg)(X:FnG P w K mg base 2 "_law_good" ["_law_rows","_law_number"] W9)(M:FnG P w K mg base 2 "_law_dated" ["_law_rows","_law_number","_law_date"] bQK)(U:FnG P w K mg base 2 "_law_lost" ["_law_rows","_law_number"] bJr) (G:FnG P w K mg base 2 "_law_family" ["_law_rows","_law_number"] aQb) (F:Fun K "_law_with_one" "_law_with_one" bVK f fd):xE P w K mg base CX0 3 f fd ["_law_rows","_law_deed"] bQW:=by
 have sc:=bVZ;refine F.ok (k:=2) sc (λc3 A outer s H vs Q E hr h=>?_);obtain⟨W,l,rs,R,e,m,rfl,n,D,y,hR,a3,a8,q⟩:=h;refine⟨_,(yC (y7 (vF (xZ (xJ X hr rfl (yA (pv 0) (yA (yL yX (pv 1) yE) yD))))) (yF (yP yR)) yS) (yC (yU (i:=2) (yL yK (pv 0) (yL yX (pv 1) yE))) (yC (y7 (yM zI (yL yX (pv 1) yE) yR) (yF (yP (xJ M hr rfl (yA (pv 0) (yA (yL yX (pv 1) yE) (yA (yL yX (pv 1) yE) yD)))))) yS) (yC (y7 (yM zI (yL yX (pv 1) yE) yR) (yF (yP (xJ U hr rfl (yA (pv 0) (yA (yL yX (pv 1) yE) yD))))) yS) (yC (y7 (yM zI (yL yX (pv 1) yE) yR) (yC (y7 (yM aXr (yL yK (pv 2) yE) x6) (yF (yP yR)) yS) (yC (vE x6 (qD (pv 2) yE zV)) (yF (yP yR)))) yS) (yC (y7 (yM zI (yL yX (pv 1) yE) yR) (yC (y7 (yM vL (yL yX (pv 1) yE) yE) (yF (yP yR)) yS) (yC (vE (yL yX (pv 1) yE) (qD (pv 2) yE zV)) (yF (yP yR)))) yS) (yC (y7 (yM zI (yL yX (pv 1) yE) yR) (yC (y7 (PW.pt (jW (yM zI (yL yX (pv 1) yE) (yL yK (pv 2) yE)) (vT (yM vD (yL yX (pv 1) yE) (yL yK (pv 2) yE))))) (yF (yP yR)) yS) (yC (vE (yV aZS (yL yK (pv 2) yE) (y6 (yA (yL yX (pv 1) yE) yD))) (qD (pv 2) yE zV)) (yF (yP (yQ yO rfl T.b_len xB (yA (yL yK (pv 2) yE) yD)))))) yS) (yC (yU (i:=3) (xJ G hr rfl (yA (pv 0) (yA (yL yX (pv 1) yE) yD)))) (yC (zT cQz rfl (xL (pv 3)) (y9 (i:=4)) (yC (yU (i:=5) (yL yK (pv 0) (pv 4))) (yF (vE (yL yX (pv 1) yE) (qD (pv 5) yE zV))))) (yF (yP (yQ yO rfl T.b_len xB (yA (pv 3) yD))))))))))))),?_⟩;have b7:aQ7 W rs rs H H:=(But.of y.dom (xC.refl _)).step;have txt:∀ {x:Str},(∀S,x2 R S e (.txt x) R S)->Q (.str x) H:=λ{x} dn=>q H (.txt x) _ R b7 y dn rfl (λ_ z=>nomatch z);refine⟨_,rfl,_,rfl,l,_,1,_,rfl,rfl,SqT.of n,yT (j:=1) D.at1,W,rs,R,m,rfl,y,_,rfl,?_⟩;cases h1:Bk.wW R m with
 |false=>exact onT rfl (txt λS=>D.no h1 S)
 |true=>
 obtain⟨i,r,rfl,a7,u,C⟩:=Bk.wJ h1;obtain⟨b,g1,g2,cp,N,g4⟩:=y.get u;refine onF rfl ⟨_,rfl,_,rfl,l,_,1,_,rfl,rfl,SqT.of n,yT (j:=1) D.at1,W,_,_,_,rfl,rfl,SqL.of y.lst,yT g1,?_⟩;dsimp only[yW];have a6:∀j,r.link=some j->j<R.length:=λj hj=>by obtain⟨p,hp,_⟩:=a3.ans i j r u hj;exact(bYW.mp hp).1
 have up:∀ {x:Str} (g:Row->Row),(∀r,(g r).copies=r.copies)->(∀S,x2 R S e (.txt x) (Bk.xO R i g) S)->Q (.str x) (upd H b (.lst (uO (g r) cp))):=λ{x} g hg dn=>
  q _ (.txt x) _ _ (But.upd (l':=uO (g r) cp) y.dom g2 N rfl).step (y.upd g2 u g (by rw[hg];exact g4)) dn rfl (λ_ z=>nomatch z)
 rcases D with rfl|⟨d,rfl⟩|⟨t,rfl⟩|⟨o,rfl⟩|⟨Z,rfl⟩|rfl
 ·refine⟨_,rfl,l,_,0,_,rfl,rfl,SqT.of n,rfl,rfl,_,rfl,onF (by decide) ⟨_,rfl,l,_,0,_,rfl,rfl,SqT.of n,rfl,rfl,_,rfl,onF (by decide) ⟨_,rfl,l,_,0,_,rfl,rfl,SqT.of n,rfl,rfl,_,rfl,onT (by decide) ⟨_,rfl,b,_,4,_,rfl,rfl,SqL.of N,rfl,rfl,_,rfl,?_⟩⟩⟩⟩;cases b0:r.link with
  |none=>exact onT rfl (txt λS=> .looseN u C b0)
  |some j=>refine onF rfl ⟨_,rfl,b,_,4,4,rfl,rfl,N,rfl,?_⟩;exact up (λr=>{r with link:=none}) (λ_=>rfl) λS=> .loose u C (by rw[b0];simp)
 ·refine⟨_,rfl,l,_,0,_,rfl,rfl,SqT.of n,rfl,rfl,_,rfl,onT (by decide) ⟨_,rfl,_,rfl,l,_,1,_,rfl,rfl,SqT.of n,rfl,_,rfl,l,_,2,_,rfl,rfl,SqT.of n,rfl,W,rs,R,i,r,d,rfl,y,by omega,u,a6,λH' a R' L a0 O=>?_⟩⟩;refine q H' (.txt a) _ R' L.step a0 (λS=>?_) rfl (λ_ z=>nomatch z);rcases O with⟨Y,rfl,rfl⟩|⟨Y,rfl,rfl⟩
  ·exact .dateE u C Y
  ·refine .date u C (λj hj=>?_) (λc O=>?_)
   ·exact cZB.mp λz=>Y (.inl ⟨j,hj,z⟩)
   ·exact cZB.mp λz=>Y (.inr ⟨c,O,z⟩)
 ·refine⟨_,rfl,l,_,0,_,rfl,rfl,SqT.of n,rfl,rfl,_,rfl,onF (by decide) ⟨_,rfl,l,_,0,_,rfl,rfl,SqT.of n,rfl,rfl,_,rfl,onF (by decide) ⟨_,rfl,l,_,0,_,rfl,rfl,SqT.of n,rfl,rfl,_,rfl,onF (by decide) ⟨_,rfl,l,_,0,_,rfl,rfl,SqT.of n,rfl,rfl,_,rfl,onT (by decide) ⟨_,rfl,l,_,2,_,rfl,rfl,SqT.of n,rfl,_,_,rfl,rfl,_,rfl,?_⟩⟩⟩⟩⟩;refine qB (λc=>?_) (λc=>?_)
  ·exact txt λS=> .termN u C (of_decide_eq_true c)
  ·refine⟨_,rfl,l,_,2,_,rfl,rfl,SqT.of n,rfl,_,rfl,b,_,3,3,rfl,rfl,N,rfl,?_⟩;exact up (λr=>{r with term:=t}) (λ_=>rfl) λS=> .term u C (by have:=of_decide_eq_false (Bool.eq_false_iff.mpr c);omega)
 ·refine⟨_,rfl,l,_,0,_,rfl,rfl,SqT.of n,rfl,rfl,_,rfl,onF (by decide) ⟨_,rfl,l,_,0,_,rfl,rfl,SqT.of n,rfl,rfl,_,rfl,onF (by decide) ⟨_,rfl,l,_,0,_,rfl,rfl,SqT.of n,rfl,rfl,_,rfl,onF (by decide) ⟨_,rfl,l,_,0,_,rfl,rfl,SqT.of n,rfl,rfl,_,rfl,onF (by decide) ⟨_,rfl,l,_,0,_,rfl,rfl,SqT.of n,rfl,rfl,_,rfl,onT (by decide) ⟨_,rfl,l,_,2,_,rfl,rfl,SqT.of n,rfl,_,rfl,b,_,2,_,rfl,rfl,SqL.of N,rfl,rfl,_,rfl,?_⟩⟩⟩⟩⟩⟩;rw[w8];cases a4:decide (o=r.partner)with
  |true=>exact onT rfl (onT rfl (txt λS=> .copyC u C (.inl (of_decide_eq_true a4))))
  |false=>
  refine onF rfl ⟨_,rfl,l,_,2,_,rfl,rfl,SqT.of n,rfl,_,rfl,b,_,7,_,rfl,rfl,SqL.of N,rfl,cp,_,rfl,.inl (SqL.of g4),rfl,cZU.mpr (λv C=>by obtain⟨x,_,rfl⟩:=cQQ.mp C;rfl),?_⟩;rw[if_neg (by decide),wX];refine⟨_,rfl,?_⟩;cases a2:r.copies.contains o with
  |true=>exact onT rfl (txt λS=> .copyC u C (.inr (by simpa using a2)))
  |false=>
  have c0:r.copies.length<=1000:=a8 r (bY3 u);refine onF rfl ⟨_,rfl,b,_,7,_,rfl,rfl,SqL.of N,rfl,_,rfl,l,_,2,_,rfl,rfl,SqT.of n,rfl,z1,λl1 b4=>?_⟩;have k1:=yG b4 (.lst [.str o]);refine⟨cp,l1,_,_,rfl,rfl,k1 _ _ g4,yB,by rw[bYP,cQk];simp;omega,λc2 B=>?_⟩;have a1:=aJv (y.same k1) g2 u (k1 _ _ N) (r.copies++ [o]) B;have e5:r.copies.map V.str++ [V.str o]=(r.copies++ [o]).map V.str:=by simp
  rw[e5];have k2:=yG B (.lst ((r.copies++ [o]).map V.str));have b2:c2≠b:=λz=>by rw[z,k1 _ _ N]at B;cases B
  refine⟨_,rfl,b,_,7,7,rfl,rfl,k2 _ _ (k1 _ _ N),rfl,?_⟩;refine⟨_,rfl,b,_,7,_,rfl,rfl,SqL.of yB,rfl,c2,(r.copies++ [o]).map V.str,rfl,.inl (SqL.of (by rw[yI b2];exact yB)),?_⟩;have en:(((((r.copies++ [o]).map V.str).length:Nat)):Int)=(r.copies.length+1:Nat):=by simp
  rw[en];have hE:Bk.xO R i (λq=>{q with copies:=r.copies++ [o] })=Bk.xO R i (λq=>{q with copies:=q.copies++ [o] }):=by unfold Bk.xO;rw[u]
  rw[hE]at a1;exact q _ (.num _) _ _ (a1.2.pre y.dom k1) a1.1 (λS=> .copy u C (of_decide_eq_false a4) (by simpa using a2)) rfl (λ_ z=>nomatch z)
 ·obtain⟨rk,ok⟩:=a3.tree;refine⟨_,rfl,l,_,0,_,rfl,rfl,SqT.of n,rfl,rfl,_,rfl,onF (by decide) ⟨_,rfl,l,_,0,_,rfl,rfl,SqT.of n,rfl,rfl,_,rfl,onF (by decide) ⟨_,rfl,l,_,0,_,rfl,rfl,SqT.of n,rfl,rfl,_,rfl,onF (by decide) ⟨_,rfl,l,_,0,_,rfl,rfl,SqT.of n,rfl,rfl,_,rfl,onF (by decide) ⟨_,rfl,l,_,0,_,rfl,rfl,SqT.of n,rfl,rfl,_,rfl,onF (by decide) ⟨_,rfl,_,rfl,l,_,1,_,rfl,rfl,SqT.of n,rfl,W,rs,R.length,Bk.lk R,rk,Bk.dt R,i,rfl,y.rows,ok,hR,a7,λH2 l2 c1 k2 c4 b1 b9 a9=>?_⟩⟩⟩⟩⟩⟩;have b6:=Bk.aJh a7 ⟨rk,ok,b9,a9⟩;subst b6;dsimp only[yW];have a5:=y.same k2;have b8:H2 l=some (.tup [.str "file",.int (i:Nat),.str Z]):=k2 _ _ n;have b3:=y.tupNo n;refine⟨_,rfl,l2,rfl,⟨_,SqL.of b1⟩,?_⟩;refine zJ (xs:=(Bk.thr R i).map λi=>V.int (i:Nat)) (λt σ H3=>∃o5 o6:Option V,σ= [some (.ref W),some (.ref l),some (.ref b),some (.ref l2),o5,o6]/\xA H3 W rs (Bk.laid R ((Bk.thr R i).take t) Z)/\But rs H2 H3/\H3 l2=some (.lst ((Bk.thr R i).map λi=>V.int (i:Nat)))) ?_ ?_ ?_ ?_
  ·exact⟨none,none,rfl,a5,But.of a5.dom (xC.refl _),b1⟩
  ·rintro t σ H3 ht ⟨o5,o6,rfl,I,k3,J⟩;exact SqL.of J
  ·rintro t x σ H3 hx ⟨o5,o6,rfl,I,k3,J⟩;rw[bY5]at hx;cases O:(Bk.thr R i)[t]? with
   |none=>rw[O]at hx;cases hx
   |some k=>rw[O]at hx;cases hx;have b5:k<R.length:=((a9 k).mp (bY3 O)).1;obtain⟨bk,ck,c5,e1,e2,e3,e4,e5,e6⟩:=aVJ (K:=K) I O b5 J;dsimp only[yW];refine⟨_,rfl,_,rfl,W,_,_,_,rfl,rfl,SqL.of I.lst,yT e1,?_⟩;dsimp only[yW];exact⟨_,rfl,l,_,2,_,rfl,rfl,SqT.of (k3.1 _ _ b3 b8),rfl,_,rfl,bk,_,5,5,rfl,rfl,e2,rfl,_,_,rfl,e3,k3.trans e4,e5⟩
  ·rintro σ H3 ⟨o5,o6,rfl,I,k3,J⟩;rw[bYP,cQI]at I;refine⟨_,rfl,l2,_,rfl,.inl (SqL.of J),?_⟩;rw[bYP];exact q _ (.num _) _ _ (((But.of y.dom k2).trans k3).step) I (λS=> .file u C) rfl (λ_ z=>nomatch z)
 ·refine⟨_,rfl,l,_,0,_,rfl,rfl,SqT.of n,rfl,rfl,_,rfl,onF (by decide) ⟨_,rfl,l,_,0,_,rfl,rfl,SqT.of n,rfl,rfl,_,rfl,onT (by decide) ⟨_,rfl,_,rfl,l,_,1,_,rfl,rfl,SqT.of n,rfl,W,rs,R,i,r,rfl,y,by omega,u,λH' a R' L a0 O=>?_⟩⟩⟩;refine q H' (.txt a) _ R' L.step a0 (λS=>?_) rfl (λ_ z=>nomatch z);rcases O with⟨Y,rfl,rfl⟩|⟨Y,rfl,rfl⟩
  ·exact .voidA u C Y
  ·exact .void u C Y
end
end Law
namespace Law
open PySem L2 PyProof.Rows
open Bk (Row Rows x2 xP Ans)
open Desk (xH vI uQ Wf wX stV)
abbrev bQl:Stmt:=xF "_law_told_of"
def aKJ(e:xP):Prop:=(∃m,e= .state m)\/(∃m,e= .thread m)\/(∃m,e= .copies m)\/(∃w,e= .letters w)\/∃a d,e= .on a d
inductive bQT(vs:List V)(H:Hp)(Q:VK)(_:XK):Prop|mk (ra sa da:Nat) (rs:List Nat) (R:Rows) (S:List Int) (e:xP) (_:vs= [.ref ra,.ref sa,.ref da]) (_:H da=some (.tup (xH e))) (_:aKJ e) (_:xA H ra rs R) (_:H sa=some (.lst (S.map V.int))) (_:R.length<=60) (_:Bk.Y4 R) (_:∀ (H':Hp)(a:Ans)(v:V),xC H H'->x2 R S e a R S->vI [] H' a v->uQ H v->Q v H')
def z6:cQw "list"=some (.type "list"):=dk
def wV:cQw "tuple"=some (.type "tuple"):=dk
section
variable {K:bYM}
def bVX:yN ["_law_rows","_law_shut","_law_deed","_law_here"] ["_law_rows","_law_shut","_law_deed"] (yH bQl):=scM
def bXy:xN ["_law_rows","_law_shut","_law_deed","_law_here"] (yH bQl) "_law_k" ["_law_rows"] [0] (lsN [(".0",.local),("_law_k",.local),("_law_rows",.free)]):=
 lcM
def bXz:xN ["_law_rows","_law_shut","_law_deed","_law_here"] (yH bQl) "_law_k" ["_law_deed","_law_rows"] [2,0] (lsN [(".0",.local),("_law_k",.local),("_law_deed",.free),("_law_rows",.free)]):=
 lcM
def Z7(R:Rows)(w:Str):V->Bool
 |.int n=>match R[n.toNat]? with|some r=>decide (r.place=w)|none=>false
 |_=>false
def bVm(T:vJ mg)(a0:mg "list"=none)(a5:mg "tuple"=none)(W:FnG P w K mg base 2 "_law_good" ["_law_rows","_law_number"] W9)(t:FnG P w K mg base 3 "_law_list_on" ["_law_rows","_law_shut","_law_date","_law_late"] aQc) (G:FnG P w K mg base 2 "_law_family" ["_law_rows","_law_number"] aQb) (F:Fun K "_law_told_of" "_law_told_of" bQl f fd):xE P w K mg base CX0 4 f fd ["_law_rows","_law_shut","_law_deed"] bQT:=by
 have sc:=bVX;refine F.ok (k:=3) sc (λc0 A outer s H vs Q E hr h=>?_);obtain⟨C,sa,g,Z,R,S,e,rfl,y,a4,L,a8,hR,a7,q⟩:=h;have a3:vW 2 _:=hr.mono (by omega);refine⟨_,(yC (y7 (yM zI (yL yX (pv 2) yE) yR) (yC (aZY (i:=3) bXy rfl sc.nd rfl rfl (zL rfl T.b_range (yA (yQ yO rfl T.b_len xB (yA (pv 0) yD)) yD)) (λ_ _ _ _ _=>(w7 (vF (xZ (yL ixK (yL ixK (pv 1) (pv 0)) yE))))) (λ_ _ _ _ _=>(pv 0))) (yF (yP (aQF bXz rfl (xL (pv 3)) (λ_ _ _ _ _=>(w7 (yM zI (yL ixK (yL ixK (pv 2) (pv 0)) yE) (yL ixT (pv 1) yE)))) (λ_ _ _ _ _=>(pv 0)))))) yS) (yC (y7 (yM vD (yL yX (pv 2) yE) (y6 (yA yR (yA yR yD)))) (yF (yP (xJ t hr rfl (yA (pv 0) (yA (pv 1) (yA (yL yX (pv 2) yE) (yA (zR zI (yL yX (pv 2) yE) yR) yD))))))) yS) (yC (y7 (vF (xZ (xJ W a3 rfl (yA (pv 0) (yA (yL yX (pv 2) yE) yD))))) (yF (yP yR)) yS) (yC (y7 (yM zI (yL yX (pv 2) yE) yR) (yF (yP (xJ G a3 rfl (yA (pv 0) (yA (yL yX (pv 2) yE) yD))))) yS) (yC (y7 (yM zI (yL yX (pv 2) yE) yR) (yF (yP (x5 uS rfl a0 z6 (yA (yL yK (yL yK (pv 0) (yL yX (pv 2) yE)) yE) yD)))) yS) (yF (yP (x5 qU rfl a5 wV (yA (Q5 aX8 (yL yK (pv 0) (yL yX (pv 2) yE)) aJ2 (aQH yE)) yD))))))))),?_⟩;have txt:∀ {B:Hp} {x:Str},xC H B->x2 R S e (.txt x) R S->Q (.str x) B:=λ{B x} k dn=>q B (.txt x) _ k dn rfl (λ_ z=>nomatch z);have one:∀ {m:Int} {x:Str},xH e= [.str x,.int m]->True:=λ_=>trivial;rcases a4 with⟨m,rfl⟩|⟨m,rfl⟩|⟨m,rfl⟩|⟨j,rfl⟩|⟨o,d,rfl⟩
 ·refine⟨_,rfl,g,_,0,_,rfl,rfl,SqT.of y,rfl,rfl,_,rfl,onF (by decide) ?_⟩;refine⟨_,rfl,g,_,0,_,rfl,rfl,SqT.of y,rfl,z2,λJ u=>⟨J,_,rfl,.inl (SqL.of yB),rfl,rfl,_,rfl,onF (by decide) ?_⟩⟩;have n:=yG u (.lst [.str "waiting",.str "overdue"]);generalize upd H J (.lst [.str "waiting",.str "overdue"])=H1 at n ⊢;have a:H1 g=some (.tup [.str "state",.int m]):=n _ _ y;have c:=L.same n;refine⟨_,rfl,_,rfl,g,_,1,_,rfl,rfl,SqT.of a,rfl,C,Z,R,m,rfl,c,_,rfl,?_⟩;cases X:Bk.wW R m with
  |false=>exact onT rfl (txt n (.oneN X (by simp)))
  |true=>
  obtain⟨i,r,rfl,M,hi,U⟩:=Bk.wJ X;obtain⟨b,g1,g2,cp,O,g4⟩:=c.get hi;refine onF rfl ⟨_,rfl,g,_,0,_,rfl,rfl,SqT.of a,rfl,rfl,_,rfl,onF (by decide) ⟨_,rfl,g,_,0,_,rfl,rfl,SqT.of a,rfl,rfl,_,rfl,onF (by decide) ?_⟩⟩;refine⟨_,rfl,_,rfl,g,_,1,_,rfl,rfl,SqT.of a,rfl,C,_,_,_,rfl,rfl,SqL.of c.lst,yT g1,_,rfl,b,_,rfl,SqL.of O,λp2 N=>⟨p2,_,rfl,.inl ⟨SqL.of yB,λp3 a6=>?_⟩⟩⟩;have b7:Z5 (uO r cp) none (some 6)=stV r:=by unfold stV Desk.Q0 Desk.X2;rw[U];cases b6:r.link<;> (unfold uO;rw[b6];rfl)
  have k2:=yG N (.lst (Z5 (uO r cp) none (some 6)));have k3:=yG a6 (.tup (Z5 (uO r cp) none (some 6)));exact q _ (.row r) _ ((n.trans k2).trans k3) (.state hi U) ⟨p3,rfl,by simp,by rw[<- b7];exact yB⟩ (.none ((n.trans k2).fresh a6))
 ·refine⟨_,rfl,g,_,0,_,rfl,rfl,SqT.of y,rfl,rfl,_,rfl,onF (by decide) ?_⟩;refine⟨_,rfl,g,_,0,_,rfl,rfl,SqT.of y,rfl,z2,λJ u=>⟨J,_,rfl,.inl (SqL.of yB),rfl,rfl,_,rfl,onF (by decide) ?_⟩⟩;have n:=yG u (.lst [.str "waiting",.str "overdue"]);generalize upd H J (.lst [.str "waiting",.str "overdue"])=H1 at n ⊢;have a:H1 g=some (.tup [.str "thread",.int m]):=n _ _ y;have c:=L.same n;refine⟨_,rfl,_,rfl,g,_,1,_,rfl,rfl,SqT.of a,rfl,C,Z,R,m,rfl,c,_,rfl,?_⟩;cases X:Bk.wW R m with
  |false=>exact onT rfl (txt n (.oneN X (by simp)))
  |true=>
  obtain⟨i,r,rfl,M,hi,U⟩:=Bk.wJ X;obtain⟨rk,ok⟩:=a7.tree;refine onF rfl ⟨_,rfl,g,_,0,_,rfl,rfl,SqT.of a,rfl,rfl,_,rfl,onT (by decide) ?_⟩;refine⟨_,rfl,_,rfl,g,_,1,_,rfl,rfl,SqT.of a,rfl,C,Z,R.length,Bk.lk R,rk,Bk.dt R,i,rfl,c.rows,ok,hR,M,λH2 l2 b9 k2 a9 b8 b4 b5=>?_⟩;have b0:=Bk.aJh M ⟨rk,ok,b4,b5⟩;subst b0;exact q _ (.nums (Bk.thr R i)) _ (n.trans k2) (.thread hi U) ⟨l2,rfl,by simp,b8⟩ (.none (n.fresh a9))
 ·refine⟨_,rfl,g,_,0,_,rfl,rfl,SqT.of y,rfl,rfl,_,rfl,onF (by decide) ?_⟩;refine⟨_,rfl,g,_,0,_,rfl,rfl,SqT.of y,rfl,z2,λJ u=>⟨J,_,rfl,.inl (SqL.of yB),rfl,rfl,_,rfl,onF (by decide) ?_⟩⟩;have n:=yG u (.lst [.str "waiting",.str "overdue"]);generalize upd H J (.lst [.str "waiting",.str "overdue"])=H1 at n ⊢;have a:H1 g=some (.tup [.str "copies",.int m]):=n _ _ y;have c:=L.same n;refine⟨_,rfl,_,rfl,g,_,1,_,rfl,rfl,SqT.of a,rfl,C,Z,R,m,rfl,c,_,rfl,?_⟩;cases X:Bk.wW R m with
  |false=>exact onT rfl (txt n (.oneN X (by simp)))
  |true=>
  obtain⟨i,r,rfl,M,hi,U⟩:=Bk.wJ X;obtain⟨b,g1,g2,cp,O,g4⟩:=c.get hi;refine onF rfl ⟨_,rfl,g,_,0,_,rfl,rfl,SqT.of a,rfl,rfl,_,rfl,onF (by decide) ⟨_,rfl,g,_,0,_,rfl,rfl,SqT.of a,rfl,rfl,_,rfl,onT (by decide) ?_⟩⟩;refine⟨_,rfl,_,rfl,g,_,1,_,rfl,rfl,SqT.of a,rfl,C,_,_,_,rfl,rfl,SqL.of c.lst,yT g1,b,_,7,_,rfl,rfl,SqL.of O,rfl,cp,_,rfl,.inl (SqL.of g4),λp2 N=>?_⟩;have k2:=yG N (.lst (r.copies.map V.str));exact q _ (.txts r.copies) _ (n.trans k2) (.copies hi U) ⟨p2,rfl,by simp,yB⟩ (.none (n.fresh N))
 ·have b3:H g=some (.tup [.str "letters",.str j]):=y;refine⟨_,rfl,g,_,0,_,rfl,rfl,SqT.of y,rfl,rfl,_,rfl,onT (by decide) ?_⟩;have hl:(Z.map V.ref).length=R.length:=by rw[bYP];exact L.len
  refine⟨_,rfl,C,_,rfl,.inl (SqL.of L.lst),?_⟩;rw[hl];refine⟨_,rfl,by omega,by omega,λD hD=>?_⟩;rw[cQm];refine Q3 (λk=>match R[k]? with|some r=> !r.void|none=>false) (λk=>V.int (k:Nat)) hD (by rw[cQk];omega) (λk I B R' Y p=>?_) (λk I _ B R' Y p=>⟨_,rfl,p⟩) ?_
  ·obtain⟨b,g1,g2,cp,O,g4⟩:=L.get (bYK I);have a2:B C=some (.lst (Z.map V.ref)):=by rw[Y C (yJ L.lst hD)];exact L.lst
   have hb:B b=_:=(Y b (yJ O hD)).trans O;rw[bYK I]at p;exact⟨_,rfl,_,rfl,C,_,_,_,rfl,rfl,SqL.of a2,yT g1,b,_,6,_,rfl,rfl,SqL.of hb,rfl,_,rfl,p⟩
  have k1:=yG hD (.lst (((bYY R.length).filter λk=>match R[k]? with|some r=> !r.void|none=>false).map λk=>V.int (k:Nat)));have a1:upd H D (.lst (((bYY R.length).filter λk=>match R[k]? with|some r=> !r.void|none=>false).map λk=>V.int (k:Nat))) D=some (.lst (((bYY R.length).filter λk=>match R[k]? with|some r=> !r.void|none=>false).map λk=>V.int (k:Nat))):=yB;generalize upd H D (.lst (((bYY R.length).filter λk=>match R[k]? with|some r=> !r.void|none=>false).map λk=>V.int (k:Nat)))=H1 at k1 a1 ⊢;have c:=L.same k1;have a:=k1 _ _ b3;dsimp only[yW];refine⟨_,rfl,D,rfl,⟨_,SqL.of a1⟩,λE hE=>?_⟩;refine aZJ (Z7 R j) id (SqL.of a1) hE ?_ (λv U B R' Y p=>?_) (λv U _ B R' Y p=>⟨_,rfl,p⟩) ?_
  ·rw[bYP,cQk];have:=cQL (λk=>match R[k]? with|some r=> !r.void|none=>false) (bYY R.length);rw[cQE]at this;omega
  ·obtain⟨k,I,rfl⟩:=cQQ.mp U;have I:k<R.length:=cQn.mp (cQT.mp I).1;obtain⟨b,g1,g2,cp,O,g4⟩:=c.get (bYK I);have a2:B C=some (.lst (Z.map V.ref)):=by rw[Y C (yJ c.lst hE)];exact c.lst
   have hb:B b=_:=(Y b (yJ O hE)).trans O;have b2:B g=_:=(Y g (yJ a hE)).trans a;have e1:Z7 R j (V.int (k:Nat))=decide (R[k].place=j):=by show(match R[((k:Nat):Int).toNat]? with|some r=>decide (r.place=j)|none=>false)=_;rw[cQm,bYK I]
   rw[e1]at p;refine⟨_,rfl,_,rfl,C,_,_,_,rfl,rfl,SqL.of a2,yT g1,b,_,5,_,rfl,rfl,SqL.of hb,rfl,_,rfl,g,_,1,_,rfl,rfl,SqT.of b2,rfl,rfl,_,rfl,?_⟩;rw[w8];exact p
  ·have ef:(((((bYY R.length).filter λk=>match R[k]? with|some r=> !r.void|none=>false).map λk=>V.int (k:Nat)).filter (Z7 R j)).map id)=((bYY R.length).filter λk=>match R[k]? with|some r=> !r.void && decide (r.place=j)|none=>false).map λk=>V.int (k:Nat):=by
    rw[List.map_id,List.filter_map,List.filter_filter];congr 1;refine cJY λk I=>?_;have I:k<R.length:=cQn.mp I;show(Z7 R j (V.int (k:Nat)) && _)=_;show((match R[((k:Nat):Int).toNat]? with|some r=>decide (r.place=j)|none=>false) && _)=_;rw[cQm,bYK I];exact Bool.and_comm _ _
   rw[ef];exact q _ (.nums _) _ (k1.trans (yG hE _)) .letters ⟨E,rfl,by simp,yB⟩ (.none (k1.fresh hE))
 ·refine⟨_,rfl,g,_,0,_,rfl,rfl,SqT.of y,rfl,rfl,_,rfl,onF (by cases o<;> decide) ?_⟩;refine⟨_,rfl,g,_,0,_,rfl,rfl,SqT.of y,rfl,z2,λJ u=>⟨J,_,rfl,.inl (SqL.of yB),rfl,rfl,_,rfl,onT (by cases o<;> decide) ?_⟩⟩;have n:=yG u (.lst [.str "waiting",.str "overdue"]);generalize upd H J (.lst [.str "waiting",.str "overdue"])=H1 at n ⊢;have a:H1 g=some (.tup [.str (if o then "overdue" else "waiting"),.int d]):=n _ _ y;have c:=L.same n;have e1:decide (V.str (if o then "overdue" else "waiting")=V.str "overdue")=o:=by cases o<;> decide
  refine⟨_,rfl,_,rfl,_,rfl,g,_,1,_,rfl,rfl,SqT.of a,rfl,_,rfl,g,_,0,_,rfl,rfl,SqT.of a,rfl,rfl,?_⟩;rw[e1];refine⟨C,sa,Z,R,S,d,o,rfl,c,n _ _ a8,by omega,λr B l k nl hl b1=>?_⟩;exact q _ (.nums l) _ (n.trans k) (.on b1) ⟨r,rfl,by simp,hl⟩ (.none (n.fresh nl))
end
end Law
namespace Law
open PySem L2 PyProof.Rows
open Bk (Row Rows x2 xP Ans)
open Desk (xH vI uQ Wf wX stV)
abbrev bVz:Stmt:=xF "_law_done_by"
structure LBk(H:Hp)(ra sa:Nat)(rs:List Nat)(R:Rows)(S:List Int):Prop where
 book:xA H ra rs R
 shut:H sa=some (.lst (S.map V.int))
 ne:sa≠ra
 no:sa∉rs
 noC:NoC rs H sa
def aZg(e sa:Nat)(c a:List Nat)(H d:Hp):Prop:=(∀x o,x≠sa->x≠e->x∉c->H x=some o->d x=some o)/\(∀b∈a,b∈c\/H b=none)/\∀s u,H s=some u->NoC c H s->NoC a d s
def LBk.same{H b:Hp}{c sa:Nat}{a:List Nat}{R:Rows}{S:List Int}(h:LBk H c sa a R S)(k:xC H b):LBk b c sa a R S:=
 ⟨h.book.same k,k _ _ h.shut,h.ne,h.no,(But.of h.book.dom k).2.2 sa _ h.shut h.noC⟩
def LBk.step{H c:Hp}{b sa:Nat}{d a:List Nat}{R f:Rows}{S:List Int}(h:LBk H b sa d R S)(k:aQ7 b d a H c)(j:xA c b a f):LBk c b sa a f S/\aZg b sa d a H c:=
 ⟨⟨j,k.1 sa _ (λz=>(bYU.mp z).elim h.ne h.no) h.shut,h.ne,λz=>(k.2.1 sa z).elim h.no (λy=>by have:=h.shut;rw[y]at this;cases this),k.2.2 sa _ h.shut h.noC⟩,λx o _ g i e=>k.1 x o (λz=>(bYU.mp z).elim g i) e,k.2.1,k.2.2⟩
def LBk.put{H:Hp}{g sa:Nat}{f:List Nat}{R:Rows}{S:List Int}(h:LBk H g sa f R S)(d:Int):LBk (upd H sa (.lst ((S++ [d]).map V.int))) g sa f R (S++ [d])/\aZg g sa f f H (upd H sa (.lst ((S++ [d]).map V.int))):=by
 refine⟨⟨⟨by rw[yI (cQu h.ne)];exact h.book.lst,h.book.len,h.book.nd,λi b r a m=>?_⟩,yB,h.ne,h.no,λb a l c=>?_⟩,λx o n _ _ e=>by rw[yI n];exact e,λb a=> .inl a,λs u e n b a l c=>n b a l (by rw[yI (λz=>h.no (by rw[<- z];exact a))]at c;exact c)⟩
 ·obtain⟨j,k,t⟩:=h.book.row i b r a m;have p:b≠sa:=λz=>h.no (by rw[<- z];exact bY3 a);have q:j≠sa:=λz=>h.noC b (bY3 a) _ k (by rw[<- z];rfl);exact⟨j,by rw[yI p];exact k,by rw[yI q];exact t⟩
 ·rw[yI (λz=>h.no (by rw[<- z];exact a))]at c;exact h.noC b a l c
inductive aXw(vs:List V)(H:Hp)(Q:VK)(_:XK):Prop|mk (ra sa da:Nat) (rs:List Nat) (R:Rows) (S:List Int) (e:xP) (_:vs= [.ref ra,.ref sa,.ref da]) (_:H da=some (.tup (xH e))) (_:Wf e) (_:LBk H ra sa rs R S) (_:R.length<=60) (_:S.length<=60) (_:Bk.Y4 R) (_:(∀r∈R,r.copies.length<=1000)) (_:∀ (H':Hp)(a:Ans)(v:V)(R':Rows)(S':List Int)(rs':List Nat),aZg ra sa rs rs' H H'->LBk H' ra sa rs' R' S'->x2 R S e a R' S'->vI [] H' a v->uQ H v->Q v H')
def uQ.pre{H a:Hp}(k:xC H a){v:V}(h:uQ a v):uQ H v:=λp e u b z=>h p e u b (k _ _ z)
def aZg.pre{g sa:Nat}{c a:List Nat}{H d f:Hp}(l:∀b∈c,∃o,H b=some o)(k:xC H d)(s:aZg g sa c a d f):aZg g sa c a H f:=
 ⟨λx o i j m e=>s.1 x o i j m (k _ _ e),λb h=>(s.2.1 b h).imp id λz=>k.fresh z,λx u e n=>s.2.2 x u (k _ _ e) ((But.of l k).2.2 x u e n)⟩
section
variable {K:bYM}
def bVM:yN ["_law_rows","_law_shut","_law_deed"] ["_law_rows","_law_shut","_law_deed"] (yH bVz):=scM
def bVa(u:FnG P w K mg base 4 "_law_entered" ["_law_rows","_law_deed"] aQ0)(J:FnG P w K mg base 4 "_law_hung" ["_law_rows","_law_number","_law_goal"] bJq) (y:FnG P w K mg base 4 "_law_told_of" ["_law_rows","_law_shut","_law_deed"] bQT) (r:FnG P w K mg base 4 "_law_with_one" ["_law_rows","_law_deed"] bQW) (F:Fun K "_law_done_by" "_law_done_by" bVz f fd):xE P w K mg base CX0 5 f fd ["_law_rows","_law_shut","_law_deed"] aXw:=by
 have sc:=bVM;refine F.ok (k:=4) sc (λa5 A outer s H vs Q E hr h=>?_);obtain⟨W,sa,g,L,R,S,e,rfl,hd,a0,M,hR,hS,O,Y,q⟩:=h;refine⟨_,(yC (y7 (yM vD (yL yX (pv 2) yE) (y6 (yA yR (yA yR (yA yR yD))))) (yF (yP (xJ u hr rfl (yA (pv 0) (yA (pv 2) yD))))) yS) (yC (y7 (yM zI (yL yX (pv 2) yE) yR) (yF (yP (xJ J hr rfl (yA (pv 0) (yA (yL yX (pv 2) yE) (yA (yL yX (pv 2) yE) yD)))))) yS) (yC (y7 (yM zI (yL yX (pv 2) yE) yR) (yC (y7 (PW.pt (jW (yM aXg (yV y0 (yL yX (pv 2) yE) yE) yE) (vT (yM vD (yL yX (pv 2) yE) (pv 1))))) (yF (yP yR)) yS) (yC (yY (vM cQa cQh cQi xD (pv 1) (yA (yL yX (pv 2) yE) yD))) (yF (yP yR)))) yS) (yC (y7 (yM vD (yL yX (pv 2) yE) (y6 (yA yR (yA yR (yA yR (yA yR (yA yR (yA yR yD)))))))) (yF (yP (xJ y hr rfl (yA (pv 0) (yA (pv 1) (yA (pv 2) yD)))))) yS) (yF (yP (xJ r hr rfl (yA (pv 0) (yA (pv 2) yD))))))))),?_⟩;have h0:(xH e)[0]? =some (.str (Desk.aYh e)):=by cases e<;> rfl
 refine⟨_,rfl,g,_,0,_,rfl,rfl,SqT.of hd,yT (j:=0) h0,z3,λl0 a3=>⟨l0,_,rfl,.inl (SqL.of yB),rfl,rfl,_,rfl,?_⟩⟩;have n:=yG a3 (.lst [.str "in",.str "out",.str "reply"]);generalize upd H l0 (.lst [.str "in",.str "out",.str "reply"])=H1 at n ⊢;have c:=n _ _ hd;have p:=M.same n;have a2:((∃I d N t,e= .enter I d N t)\/∃m d t,e= .reply m d t)->aQ0 [.ref W,.ref g] H1 Q E0:=λhf=>by refine⟨W,g,L,R,e,rfl,c,a0,hf,p.book,hR,λT a v R' a4 st D X av nv=>?_⟩;have:=p.step st D;exact q T a v R' S a4 (this.2.pre M.book.dom n) this.1 (X S) av (uQ.pre n nv)
 have one:∀ {U:Hp} {m:Int},xC H U->Y7 e m->bQW [.ref W,.ref g] U Q E0:=λ{U m} k hf=>by have C:=M.same k;refine⟨W,g,L,R,e,m,rfl,k _ _ hd,hf,C.book,hR,O,Y,λT a v R' st D X av nv=>?_⟩;have:=C.step st D;exact q T a v R' S L (this.2.pre M.book.dom k) this.1 (X S) av (uQ.pre k nv)
 have G:∀ {U:Hp},xC H U->aKJ e->bQT [.ref W,.ref sa,.ref g] U Q E0:=λ{U} k hf=>by have C:=M.same k;refine⟨W,sa,g,L,R,S,e,rfl,k _ _ hd,hf,C.book,C.shut,hR,O,λT a v k2 X av nv=>?_⟩;exact q T a v R S L ⟨λx o _ _ _ e=>k2 _ _ (k _ _ e),λb hb=> .inl hb,(But.of M.book.dom (k.trans k2)).2.2⟩ (C.same k2) X av (uQ.pre k nv)
 cases e with
 |enter I d N t=>have Z:I="in"\/I="out":=a0;refine onT (by rcases Z with rfl|rfl<;> rfl) ⟨_,rfl,_,rfl,a2 (.inl ⟨_,_,_,_,rfl⟩)⟩
 |reply m d t=>exact onT rfl ⟨_,rfl,_,rfl,a2 (.inr ⟨_,_,_,rfl⟩)⟩
 |hang m o=>refine onF rfl ⟨_,rfl,g,_,0,_,rfl,rfl,SqT.of c,rfl,rfl,_,rfl,onT rfl ⟨_,rfl,_,rfl,g,_,1,_,rfl,rfl,SqT.of c,rfl,_,rfl,g,_,2,_,rfl,rfl,SqT.of c,rfl,?_⟩⟩;refine⟨W,L,R,m,o,rfl,p.book,hR,O.tree,λT a R' st D X=>?_⟩;have:=p.step st.step D;exact q T (.txt a) _ R' S L (this.2.pre M.book.dom n) this.1 (X S) rfl (λ_ z=>nomatch z)
 |shut d=>
  refine onF rfl ⟨_,rfl,g,_,0,_,rfl,rfl,SqT.of c,rfl,rfl,_,rfl,onF rfl ⟨_,rfl,g,_,0,_,rfl,rfl,SqT.of c,rfl,rfl,_,rfl,onT rfl ?_⟩⟩;refine⟨_,rfl,g,_,1,_,rfl,rfl,SqT.of c,rfl,_,_,rfl,rfl,(show(0:Int)<7 by decide),_,_,rfl,rfl,_,rfl,?_⟩;have no:Dm.cts S d=false->Q (.str "counts not") H1:=λh=>q H1 (.txt "counts not") _ R S L ⟨λx o _ _ _ e=>n _ _ e,λb hb=> .inl hb,(But.of M.book.dom n).2.2⟩ p (.shutN h) rfl (λ_ z=>nomatch z);cases h1:decide (d % 7 > 4)with
  |true=>exact onT rfl (onT rfl (no (by unfold Dm.cts Dm.opn;rw[decide_eq_false (by have:=of_decide_eq_true h1;omega)];rfl)))
  |false=>
  refine onF rfl ⟨_,rfl,g,_,1,_,rfl,rfl,SqT.of c,rfl,_,rfl,sa,_,rfl,.inl (SqL.of p.shut),rfl,cZU.mpr (λv hv=>by obtain⟨x,_,rfl⟩:=cQQ.mp hv;rfl),?_⟩;rw[if_neg (by decide),jJ];refine⟨_,rfl,?_⟩;cases h2:S.contains d with
  |true=>exact onT rfl (no (by unfold Dm.cts;rw[h2];simp))
  |false=>
  refine onF rfl ⟨_,rfl,.inl ⟨rfl,_,SqL.of p.shut⟩,_,rfl,g,_,1,_,rfl,rfl,SqT.of c,rfl,sa,_,_,rfl,rfl,p.shut,zlt (by rw[bYP];omega),?_⟩;have e5:S.map V.int++ [V.int d]=(S++ [d]).map V.int:=by simp
  rw[e5];have:=p.put d;exact q _ (.txt "shut") _ R (S++ [d]) L (this.2.pre M.book.dom n) this.1 (.shut (by unfold Dm.cts Dm.opn;rw[h2,decide_eq_true (by have:=of_decide_eq_false h1;omega)];rfl)) rfl (λ_ z=>nomatch z)
 |loose m=>exact onF rfl ⟨_,rfl,g,_,0,_,rfl,rfl,SqT.of c,rfl,rfl,_,rfl,onF rfl ⟨_,rfl,g,_,0,_,rfl,rfl,SqT.of c,rfl,rfl,_,rfl,onF rfl ⟨_,rfl,g,_,0,_,rfl,rfl,SqT.of c,rfl,zn (by show 6<=100000;omega),λl i=>⟨l,_,rfl,.inl (SqL.of yB),rfl,rfl,_,rfl,onF rfl ⟨_,rfl,_,rfl,one (n.trans (yG i _)) (.inl rfl)⟩⟩⟩⟩⟩
 |date m d=>exact onF rfl ⟨_,rfl,g,_,0,_,rfl,rfl,SqT.of c,rfl,rfl,_,rfl,onF rfl ⟨_,rfl,g,_,0,_,rfl,rfl,SqT.of c,rfl,rfl,_,rfl,onF rfl ⟨_,rfl,g,_,0,_,rfl,rfl,SqT.of c,rfl,zn (by show 6<=100000;omega),λl i=>⟨l,_,rfl,.inl (SqL.of yB),rfl,rfl,_,rfl,onF rfl ⟨_,rfl,_,rfl,one (n.trans (yG i _)) (.inr (.inl ⟨_,rfl⟩))⟩⟩⟩⟩⟩
 |term m t=>exact onF rfl ⟨_,rfl,g,_,0,_,rfl,rfl,SqT.of c,rfl,rfl,_,rfl,onF rfl ⟨_,rfl,g,_,0,_,rfl,rfl,SqT.of c,rfl,rfl,_,rfl,onF rfl ⟨_,rfl,g,_,0,_,rfl,rfl,SqT.of c,rfl,zn (by show 6<=100000;omega),λl i=>⟨l,_,rfl,.inl (SqL.of yB),rfl,rfl,_,rfl,onF rfl ⟨_,rfl,_,rfl,one (n.trans (yG i _)) (.inr (.inr (.inl ⟨_,rfl⟩)))⟩⟩⟩⟩⟩
 |copy m N=>exact onF rfl ⟨_,rfl,g,_,0,_,rfl,rfl,SqT.of c,rfl,rfl,_,rfl,onF rfl ⟨_,rfl,g,_,0,_,rfl,rfl,SqT.of c,rfl,rfl,_,rfl,onF rfl ⟨_,rfl,g,_,0,_,rfl,rfl,SqT.of c,rfl,zn (by show 6<=100000;omega),λl i=>⟨l,_,rfl,.inl (SqL.of yB),rfl,rfl,_,rfl,onF rfl ⟨_,rfl,_,rfl,one (n.trans (yG i _)) (.inr (.inr (.inr (.inl ⟨_,rfl⟩))))⟩⟩⟩⟩⟩
 |file m a1=>exact onF rfl ⟨_,rfl,g,_,0,_,rfl,rfl,SqT.of c,rfl,rfl,_,rfl,onF rfl ⟨_,rfl,g,_,0,_,rfl,rfl,SqT.of c,rfl,rfl,_,rfl,onF rfl ⟨_,rfl,g,_,0,_,rfl,rfl,SqT.of c,rfl,zn (by show 6<=100000;omega),λl i=>⟨l,_,rfl,.inl (SqL.of yB),rfl,rfl,_,rfl,onF rfl ⟨_,rfl,_,rfl,one (n.trans (yG i _)) (.inr (.inr (.inr (.inr (.inl ⟨_,rfl⟩)))))⟩⟩⟩⟩⟩
 |void m=>exact onF rfl ⟨_,rfl,g,_,0,_,rfl,rfl,SqT.of c,rfl,rfl,_,rfl,onF rfl ⟨_,rfl,g,_,0,_,rfl,rfl,SqT.of c,rfl,rfl,_,rfl,onF rfl ⟨_,rfl,g,_,0,_,rfl,rfl,SqT.of c,rfl,zn (by show 6<=100000;omega),λl i=>⟨l,_,rfl,.inl (SqL.of yB),rfl,rfl,_,rfl,onF rfl ⟨_,rfl,_,rfl,one (n.trans (yG i _)) (.inr (.inr (.inr (.inr (.inr rfl)))))⟩⟩⟩⟩⟩
 |state m=>exact onF rfl ⟨_,rfl,g,_,0,_,rfl,rfl,SqT.of c,rfl,rfl,_,rfl,onF rfl ⟨_,rfl,g,_,0,_,rfl,rfl,SqT.of c,rfl,rfl,_,rfl,onF rfl ⟨_,rfl,g,_,0,_,rfl,rfl,SqT.of c,rfl,zn (by show 6<=100000;omega),λl i=>⟨l,_,rfl,.inl (SqL.of yB),rfl,rfl,_,rfl,onT rfl ⟨_,rfl,_,rfl,_,rfl,G (n.trans (yG i _)) (.inl ⟨_,rfl⟩)⟩⟩⟩⟩⟩
 |thread m=>exact onF rfl ⟨_,rfl,g,_,0,_,rfl,rfl,SqT.of c,rfl,rfl,_,rfl,onF rfl ⟨_,rfl,g,_,0,_,rfl,rfl,SqT.of c,rfl,rfl,_,rfl,onF rfl ⟨_,rfl,g,_,0,_,rfl,rfl,SqT.of c,rfl,zn (by show 6<=100000;omega),λl i=>⟨l,_,rfl,.inl (SqL.of yB),rfl,rfl,_,rfl,onT rfl ⟨_,rfl,_,rfl,_,rfl,G (n.trans (yG i _)) (.inr (.inl ⟨_,rfl⟩))⟩⟩⟩⟩⟩
 |copies m=>exact onF rfl ⟨_,rfl,g,_,0,_,rfl,rfl,SqT.of c,rfl,rfl,_,rfl,onF rfl ⟨_,rfl,g,_,0,_,rfl,rfl,SqT.of c,rfl,rfl,_,rfl,onF rfl ⟨_,rfl,g,_,0,_,rfl,rfl,SqT.of c,rfl,zn (by show 6<=100000;omega),λl i=>⟨l,_,rfl,.inl (SqL.of yB),rfl,rfl,_,rfl,onT rfl ⟨_,rfl,_,rfl,_,rfl,G (n.trans (yG i _)) (.inr (.inr (.inl ⟨_,rfl⟩)))⟩⟩⟩⟩⟩
 |letters a1=>exact onF rfl ⟨_,rfl,g,_,0,_,rfl,rfl,SqT.of c,rfl,rfl,_,rfl,onF rfl ⟨_,rfl,g,_,0,_,rfl,rfl,SqT.of c,rfl,rfl,_,rfl,onF rfl ⟨_,rfl,g,_,0,_,rfl,rfl,SqT.of c,rfl,zn (by show 6<=100000;omega),λl i=>⟨l,_,rfl,.inl (SqL.of yB),rfl,rfl,_,rfl,onT rfl ⟨_,rfl,_,rfl,_,rfl,G (n.trans (yG i _)) (.inr (.inr (.inr (.inl ⟨_,rfl⟩))))⟩⟩⟩⟩⟩
 |on B d=>exact onF (by cases B<;> rfl) ⟨_,rfl,g,_,0,_,rfl,rfl,SqT.of c,rfl,rfl,_,rfl,onF (by cases B<;> rfl) ⟨_,rfl,g,_,0,_,rfl,rfl,SqT.of c,rfl,rfl,_,rfl,onF (by cases B<;> rfl) ⟨_,rfl,g,_,0,_,rfl,rfl,SqT.of c,rfl,zn (by show 6<=100000;omega),λl i=>⟨l,_,rfl,.inl (SqL.of yB),rfl,rfl,_,rfl,onT (by cases B<;> rfl) ⟨_,rfl,_,rfl,_,rfl,G (n.trans (yG i _)) (.inr (.inr (.inr (.inr ⟨_,_,rfl⟩))))⟩⟩⟩⟩⟩
end
end Law
namespace Desk
open PySem L2 PyProof.Rows
open Bk (Row Rows xP Ans x2)
open Thr (wF vZ qW)
def zG(H:Hp)(ds:Nat)(a:List Nat)(b:List xP):Prop:=H ds=some (.lst (a.map V.ref))/\a.length=b.length/\∀ (i:Nat)(d:Nat)(e:xP),a[i]? =some d->b[i]? =some e->H d=some (.tup (xH e))
def zG.same{H b:Hp}{ds:Nat}{a:List Nat}{c:List xP}(h:zG H ds a c)(k:x3 H b):zG b ds a c:=⟨k.lst h.1,h.2.1,λi d e f g=>k.tup (h.2.2 i d e f g)⟩
def vI.kept{o b:List Nat}{H d:Hp}{a:Ans}{v:V}(h:vI o H a v)(k:Y6 o H d)(g:qP H o b):vI b d a v:=by
 have c:∀p u,p∉o->H p=some u->p∉b:=λp u n e z=>by
  rcases g p z with q|q
  ·exact n q
  ·rw[q]at e;cases e
 cases a with
 |num n=>exact h
 |txt x=>exact h
 |nums l=>obtain⟨p,e,n,q⟩:=h;exact⟨p,e,c p _ n q,k _ _ n (by intro _ z;cases z) q⟩
 |txts l=>obtain⟨p,e,n,q⟩:=h;exact⟨p,e,c p _ n q,k _ _ n (by intro _ z;cases z) q⟩
 |row r=>obtain⟨p,e,n,q⟩:=h;exact⟨p,e,c p _ n q,k _ _ n (by intro _ z;cases z) q⟩
def vI.bare{o:List Nat}{H:Hp}{a:Ans}{v:V}(h:vI o H a v):vI [] H a v:=by
 cases a with
 |num n=>exact h
 |txt x=>exact h
 |nums l=>obtain⟨p,e,n,q⟩:=h;exact⟨p,e,by simp,q⟩
 |txts l=>obtain⟨p,e,n,q⟩:=h;exact⟨p,e,by simp,q⟩
 |row r=>obtain⟨p,e,n,q⟩:=h;exact⟨p,e,by simp,q⟩
def vI.more{o:List Nat}{D:Nat}{H:Hp}{a:Ans}{v:V}(h:vI o H a v)(n:∀p,v= .ref p->p≠D):vI (D::o) H a v:=by
 have b:∀p,v= .ref p->p∉o->p∉D::o:=λp e q z=>(bYU.mp z).elim (n p e) q;cases a with
 |num n=>exact h
 |txt x=>exact h
 |nums l=>obtain⟨p,e,q⟩:=h;exact⟨p,e,b p e q.1,q.2⟩
 |txts l=>obtain⟨p,e,q⟩:=h;exact⟨p,e,b p e q.1,q.2⟩
 |row r=>obtain⟨p,e,q⟩:=h;exact⟨p,e,b p e q.1,q.2⟩
def x0(H:Hp)(r:Row)(v:V):Prop:=if r.void then v= .str "void" else ∃p,v= .ref p/\H p=some (.tup (stV r))
def x0.same{H a:Hp}{r:Row}{v:V}(h:x0 H r v)(k:x3 H a):x0 a r v:=by
 unfold x0 at h ⊢;split
 ·rename_i e;rw[if_pos e]at h;exact h
 ·rename_i e;rw[if_neg e]at h;obtain⟨p,e,q⟩:=h;exact⟨p,e,k.tup q⟩
structure J7(H0:Hp)(CB CL T:Nat)(ba:Nat)(es:List xP)(as:List Ans)(H:Hp)(o:List Nat):Prop where
 ex:∃ (la sa:Nat)(ls cs:List Nat)(R:Rows)(S:List Int),o=own la sa ls cs/\PB CB CL H ba la sa ls cs R S/\Up es.length R S/\Bk.Y4 R/\Run [] [] es as R S
 tab:wF T H
 keep:x3 H0 H
 new:∀b∈o,∀u,(∀ps,u≠HO.tbl ps)->H0 b≠some u
inductive jA(Rf:Nat×Nat)(vs:List V)(H:Hp)(Q:VK)(_:XK):Prop|mk (ds:Nat) (das:List Nat) (es:List xP) (_:vs= [.ref ds]) (_:zG H ds das es) (_:es.length<60) (_:(∀e∈es,Wf e)) (_:wF Rf.2 H) (_:∀ (l:Nat)(H':Hp)(vs:List V)(as:List Ans)(R':Rows)(S':List Int),x3 H H'->wF Rf.2 H'->Run [] [] es as R' S'->Bk.Y4 R'->H' l=some (.lst vs)->cQA (λv a=>vI [] H' a v) vs as->Q (.ref l) H')
inductive aWg(CB CL:Nat)(vs:List V)(H:Hp)(Q:VK)(_:XK):Prop|mk (ba la sa:Nat) (ls cs:List Nat) (R:Rows) (S:List Int) (_:vs= [.ref ba]) (_:PB CB CL H ba la sa ls cs R S) (_:R.length<64) (_:∀ (l:Nat)(H':Hp)(vs:List V),xC H H'->H' l=some (.lst vs)->cQA (λv r=>x0 H' r v) vs R->Q (.ref l) H')
inductive v5(Rf:Nat×Nat)(vs:List V)(H:Hp)(Q:VK)(_:XK):Prop|mk (ds:Nat) (das:List Nat) (es:List xP) (_:vs= [.ref ds]) (_:zG H ds das es) (_:es.length<60) (_:(∀e∈es,Wf e)) (_:wF Rf.2 H) (_:∀ (l:Nat)(H':Hp)(vs:List V)(as:List Ans)(R':Rows)(S':List Int),x3 H H'->wF Rf.2 H'->Run [] [] es as R' S'->Bk.Y4 R'->H' l=some (.lst vs)->cQA (λv r=>x0 H' r v) vs R'->Q (.ref l) H')
def jR{T:Nat}{H a:Hp}(t:wF T H)(k:xC H a):wF T a:=(aKI.of k).2 t
def J7.start{H:Hp}{p CL T x dx la sa:Nat}{f a:Hp}(tb:wF T H)(s:H x=none)(l:H dx=none)(B:dx≠x)(v:f=upd (upd H dx (.own x)) x (.ins p dx []))(j:f la=none)(g:f sa=none)(n:la≠sa) (E:a x=some (.ins p dx [("letters",.ref la),("shut",.ref sa)])) (A:a la=some (.lst [])) (w:a sa=some (.lst [])) (D:∀b,b≠x->b≠la->b≠sa->a b=f b):J7 H p CL T x [] [] a (own la sa [] [])/\xC H a:=by
 have m:∀b,f b=none->H b=none:=λb e=>by
  subst v;by_cases z:b=x
  ·rw[z];exact s
  ·rw[yI z]at e;by_cases z2:b=dx
   ·rw[z2];exact l
   ·rw[yI z2]at e;exact e
 have k:xC H a:=λb o e=>by have b1:=yJ e s;have C:=yJ e l;rw[D b b1 (yJ e (m _ j)) (yJ e (m _ g)),v,yI b1,yI C];exact e
 refine⟨⟨⟨la,sa,[],[],[],[],rfl,⟨⟨dx,E⟩,A,w,rfl,rfl,.nil,.nil,n,by simp,by simp,λi b c r e=>by simp at e⟩,⟨bYS _,bYS _,λr h=>by simp at h⟩,Bk.aXA,.nil⟩,jR tb k,k.t,λb d u _ z=>?_⟩,k⟩;have q:H b=none->False:=λy=>by rw[y]at z;cases z
 rcases bYU.mp d with e|d
 ·exact q (by rw[e];exact m _ j)
 rcases bYU.mp d with e|d
 ·exact q (by rw[e];exact m _ g)
 ·simp at d
def J7.step{F:Hp}{y CL T l:Nat}{s:List xP}{B:List Ans}{H:Hp}{o:List Nat}{e:xP}(g:J7 F y CL T l s B H o)(hw:Wf e)(hz:s.length<60){x:Nat}(W:H x=some (.tup (xH e))){Q:VK}{Rf:Nat×Nat}(O:Rf.2=T) (q:∀ (a:Ans)(v:V)(h:Hp)(p:List Nat),J7 F y CL T l (s++ [e]) (B++ [a]) h p->vI p h a v->uQ H v->Y6 o H h->qP H o p->Q v h):aQa Rf y CL [.ref l,.ref x] H Q E0:=by
 subst O;obtain⟨A,D,P,X,R,S,rfl,Y,C,j,i⟩:=g.ex;refine⟨l,x,A,D,P,X,R,S,e,rfl,hw,W,Y,C.sz (by omega),j,g.tab,λa K I v h n m c r k E M U N=>?_⟩;refine q a v h _ ⟨⟨A,D,n,m,K,I,rfl,r,?_,Bk.x2.book j ?_ c,.snoc i c⟩,M,λb u f e=>k b u (λz=>g.new b z u f e) f (g.keep b u f e),λb J u f z0=>?_⟩ U N k E
 ·rw[bY8,cQY];exact C.done c
 ·intro G d w t L;subst L;exact hw
 ·rcases E b J with z|z
  ·exact g.new b z u f z0
  ·rw[g.keep b u f z0]at z;cases z
def J7.write{l:Hp}{y CL T p:Nat}{x:List xP}{v:List Ans}{H:Hp}{o:List Nat}(g:J7 l y CL T p x v H o){D:Nat}{xs ys:List V}(F:H D=some (.lst xs))(nD:D∉o)(h0:l D=none):J7 l y CL T p x v (upd H D (.lst ys)) o:=by
 have h:∀ {a u},H a=some u->(∀xs,u≠ .lst xs)->a≠D:=λq n z=>by rw[z,F]at q;cases q;exact n _ rfl
 obtain⟨I,L,J,M,R,S,rfl,d,K,j,f⟩:=g.ex;refine⟨⟨I,L,J,M,R,S,rfl,⟨?_,?_,?_,d.len,d.clen,d.nd,d.cnd,d.las,d.lac,d.sac,λi b c r N m E=>?_⟩,K,j,f⟩,?_,λb u B e=>?_,g.new⟩
 ·obtain⟨k,e⟩:=d.book;exact⟨k,by rw[yI (h e (by intro _ z;cases z))];exact e⟩
 ·rw[yI (λz=>nD (by rw[<- z];exact aVR))];exact d.lst
 ·rw[yI (λz=>nD (by rw[<- z];exact aYS))];exact d.sht
 ·obtain⟨⟨k,A⟩,C⟩:=d.row i b c r N m E;exact⟨⟨k,by rw[yI (h A (by intro _ z;cases z))];exact A⟩,by rw[yI (λz=>nD (by rw[<- z];exact bVq (bY3 m)))];exact C⟩
 ·rcases g.tab with t|⟨G,w,s⟩
  ·exact .inl (by rw[yI (h t (by intro _ z;cases z))];exact t)
  ·exact .inr ⟨G,by rw[yI (h w (by intro _ z;cases z))];exact w,by rw[yI (h s (by intro _ z;cases z))];exact s⟩
 ·rw[yI (yJ e h0)];exact g.keep b u B e
section
variable {K:bYM}
abbrev Q6:Stmt:=xF "answers"
abbrev aQN:Stmt:=xF "standing"
abbrev aX1:Stmt:=xI "Book" "standing_states"
def aKk:yN ["deeds","book"] ["deeds"] (yH Q6):=scM
def aWM:xN ["deeds","book"] (yH Q6) "deed" ["book"] [1] (lsN [(".0",.local),("deed",.local),("answer",.globalImplicit),("book",.free)]):=
 lcM
def jV{α β:Type}{F G:α->β->Prop}(h:∀a b,F a b->G a b):∀ {l:List α} {m:List β},cQA F l m->cQA G l m
 |_,_,.nil=> .nil
 |_,_,.cons r t=> .cons (h _ _ r) (jV h t)
def aWZ(G:MkG P w K mg base n "Book" CB ["self"] (aVs CB))(d:FnG P w K mg base (n+1) "answer" ["book","deed"] (aQa Rf CB CL))(F:Fun K "answers" "answers" Q6 f fd): xE P w K mg base CX0 (n+2) f fd ["deeds"] (jA Rf):=by
 have sc:=aKk;refine F.ok (k:=n+1) sc (λb6 A outer s H vs Q E hr h=>?_);obtain⟨ds,c,r,rfl,hD,b4,a7,tb,q⟩:=h;refine⟨_,(yC (yU (i:=1) (bJi G hr rfl)) (yF (yP (aQF aWM rfl (xL (pv 0)) (λ_ _ _ _ _=>wK) (λ_ _ _ _ _=>(xJ d hr rfl (yA (pv 1) (yA (pv 0) yD)))))))),?_⟩;intro x dx hx b3 a6;refine⟨x,dx,rfl,yB,λla sa H1 b1 a4 a9 h1 h2 h3 h4=>⟨rfl,?_⟩⟩;dsimp only[yW];obtain⟨g0,k0⟩:=J7.start (CL:=CL) tb hx b3 a6 rfl b1 a4 a9 h1 h2 h3 h4;have a5:=hD.same k0.t;refine⟨_,rfl,ds,rfl,⟨_,SqL.of a5.1⟩,λD j=>?_⟩;have b0:(c.map V.ref).length=r.length:=by rw[bYP];exact hD.2.1
 have a2:H D=none:=k0.fresh j;refine⟨λi m I H'=>m=r.length - i/\i<=r.length/\H' D=some (.lst I)/\∃ (Y:List Ans)(o:List Nat),J7 H CB CL Rf.2 x (r.take i) Y H' o/\D∉o/\cQA (λv a=>vI (D::o) H' a v) I Y,⟨r.length,by simp,cQJ _,yB,[],own la sa [] [],?_,?_,.nil⟩,?_⟩
 ·have kD:=yG j (.lst []);obtain⟨N,M,L,J,R,S,e1,e2,e3,e4,T⟩:=g0.ex;exact⟨⟨N,M,L,J,R,S,e1,e2.same kD,e3,e4,T⟩,jR g0.tab kD,λb u nt e=>kD _ _ (g0.keep b u nt e),g0.new⟩
 ·intro z;rcases bYU.mp z with e|z
  ·rw[e,h2]at j;cases j
  rcases bYU.mp z with e|z
  ·rw[e,h3]at j;cases j
  ·simp at z
 ·rintro i m I H' ⟨rfl,hi,l,Y,o,g,nD,hP⟩;have C:=hD.same g.keep;refine⟨l,?_⟩;by_cases B:i<r.length
  ·have a1:i<c.length:=by rw[hD.2.1];exact B
   have O:=bYK a1;have Z:=bYK B;refine .inr ⟨⟨c.map V.ref,.ref c[i],SqL.of C.1,by rw[bY5,O];rfl⟩,λv H2 yl=>?_⟩;obtain⟨rfl,y⟩:=yl;have hv:(c.map V.ref)[i]? =some v:=y _ (SqL.of C.1);rw[bY5,O]at hv;cases hv;refine⟨_,rfl,_,rfl,?_⟩;refine g.step (a7 _ (cXQ B)) (by rw[cQ4];omega) (C.2.2 i _ _ O Z) rfl λa v W U g3 av nv k3 gr=>?_;have b2:r.take (i+1)=r.take i++ [r[i]]:=by rw[cQN,Z];rfl
   have b5:I.length<=i:=by obtain⟨N,M,L,J,R,S,e1,e2,e3,e4,T⟩:=g.ex;have:=T.len;rw[hP.length,<- this,cQ4];omega
   have X:W D=some (.lst I):=k3 _ _ nD (by intro _ z;cases z) l;have a0:D∉U:=λz=>by
    rcases gr D z with y|y
    ·exact nD y
    ·rw[l]at y;cases y
   refine⟨by rw[cQk];omega,X,r.length - (i+1),by omega,rfl,B,yB,Y++ [a],U,?_,a0,?_⟩
   ·rw[b2];exact g3.write X a0 a2
   ·have k4:Y6 (D::U) W (upd W D (.lst (I++ [v]))):=Y6.upd bY0 _;have k5:Y6 (D::o) H2 W:=λb u nb nt e=>k3 b u (λz=>nb (bYX _ z)) nt e;have a3:qP H2 (D::o) (D::U):=λb hb=>by
     rcases bYU.mp hb with e|hb
     ·exact .inl (by rw[e];exact bY0)
     ·exact(gr b hb).imp (bYX _) id
    have a8:vI (D::U) W a v:=av.more λp e z=>by rw[z]at e;exact nv D e _ (by intro _ z;cases z) l
    exact Law.aXs (F:=λv' a'=>vI (D::U) (upd W D (.lst (I++ [v]))) a' v') (a8.kept k4 qP.refl) (jV (λv a (h:vI (D::o) H2 a v)=>(h.kept k5 a3).kept k4 qP.refl) hP)
  ·obtain rfl:i=r.length:=by omega
   obtain⟨N,M,L,J,R,S,e1,e2,e3,e4,T⟩:=g.ex;rw[cQI]at T;exact .inl ⟨⟨c.map V.ref,SqL.of C.1,by rw[b0];exact bYS _⟩,q D H' I Y R S g.keep g.tab T e4 l (jV (λv a h=>h.bare) hP)⟩
def bQB:yN ["self"] ["self"] (yH aX1):=scM
def aYn:xN ["self"] (yH aX1) "letter" [] [] (lsN [(".0",.local),("letter",.local)]):=
 lcM
def aYO(cl:Cl K CB CL)(d:MG P w K mg base CX0 n CL "state" ["self"] (aVu CL))(F:Fun K "standing_states" "Book.standing_states" aX1 f fd):xE P w K mg base CX0 (n+1) f fd ["self"] (aWg CB CL):=by
 have sc:=bQB;refine F.ok (k:=n) sc (λa0 A outer s H vs Q E hr h=>?_);obtain⟨ba,la,sa,L,cs,R,S,rfl,M,hR,q⟩:=h;refine⟨_,(yF (yP (aQF aYn rfl (xL (y3 (pv 0) rfl)) (λ_ _ _ _ _=>wK) (λ_ _ _ _ _=>(aVU (xZ (aQD (K:=K) (pv 0) rfl)) yR (bX9 d hr v0 (pv 0))))))),?_⟩;obtain⟨dx,hb⟩:=M.book;have hl:(L.map V.ref).length=R.length:=by rw[bYP];exact M.len
 refine⟨_,rfl,ba,CB,dx,_,_,rfl,hb,cl.b,cl.letters,rfl,la,rfl,⟨_,SqL.of M.lst⟩,λD Y=>?_⟩;refine⟨λi m a G=>m=R.length - i/\i<=R.length/\xC H G/\G D=some (.lst a)/\cQA (λv r=>x0 G r v) a (R.take i),⟨R.length,by simp,cQJ _,yG Y _,yB,.nil⟩,?_⟩;rintro i m a G ⟨rfl,hi,O,u,N⟩;have o:=M.same O;refine⟨u,?_⟩;by_cases B:i<R.length
 ·have C:=bYK B;obtain⟨b,c,g1,g2,g3,⟨x,U⟩,g5⟩:=o.get C;refine .inr ⟨⟨L.map V.ref,.ref b,SqL.of o.lst,g1⟩,λv Z yl=>?_⟩;obtain⟨rfl,y⟩:=yl;have J:(L.map V.ref)[i]? =some v:=y _ (SqL.of o.lst);rw[g1]at J;cases J;have W:R.take (i+1)=R.take i++ [R[i]]:=by rw[cQN,C];rfl
  have a1:a.length<=i:=by rw[N.length,cQ4];omega
  refine⟨_,rfl,b,CL,x,_,_,rfl,U,cl.l,cl.void,rfl,_,rfl,?_⟩;have fin:∀ (v:V)(g:Hp),xC Z g->x0 g R[i] v->a.length<cQd/\g D=some (.lst a)/\∃m',m'<R.length - i/\(m'=R.length - (i+1)/\i+1<=R.length/\xC H (upd g D (.lst (a++ [v])))/\upd g D (.lst (a++ [v])) D=some (.lst (a++ [v]))/\cQA (λj r=>x0 (upd g D (.lst (a++ [v]))) r j) (a++ [v]) (R.take (i+1))):=λv g T sv=>by
   have I:=T _ _ u;have X:∀ (j:V)(r:Row),x0 g r j->x0 (upd g D (.lst (a++ [v]))) r j:=λj r h=>by
    unfold x0 at h ⊢;split
    ·rename_i e;rw[if_pos e]at h;exact h
    ·rename_i e;rw[if_neg e]at h;obtain⟨p,e,q⟩:=h;exact⟨p,e,by rw[yI (aXc q I (by intro z;cases z))];exact q⟩
   refine⟨by rw[cQk];omega,I,R.length - (i+1),by omega,rfl,B,Law.aQ5 (O.trans T) Y,yB,?_⟩;rw[W];exact Law.aXs (F:=λj r=>x0 (upd g D (.lst (a++ [v]))) r j) (X _ _ sv) (jV (λj r (h:x0 Z r j)=>X j r (h.same T.t)) N)
  cases J:R[i].void with
  |true=>exact onT rfl (fin _ _ (xC.refl _) (by unfold x0;rw[J];rfl))
  |false=>refine onF rfl ⟨_,rfl,b,x,_,rfl,U,rfl,b,i,_,c,rfl,⟨x,U⟩,λt ht=>?_⟩;exact fin _ _ (yG ht _) (by unfold x0;rw[J];exact⟨t,rfl,yB⟩)
 ·obtain rfl:i=R.length:=by omega
  rw[cQI]at N;exact .inl ⟨⟨L.map V.ref,SqL.of o.lst,by rw[hl];exact bYS _⟩,q D G a O u N⟩
def aVo:yN ["deeds","book","deed"] ["deeds"] (yH aQN):=scM
def aJW(d:MkG P w K mg base n "Book" CB ["self"] (aVs CB))(c:FnG P w K mg base (n+1) "answer" ["book","deed"] (aQa Rf CB CL))(b:MG P w K mg base CX0 (n+1) CB "standing_states" ["self"] (aWg CB CL)) (F:Fun K "standing" "standing" aQN f fd):xE P w K mg base CX0 (n+2) f fd ["deeds"] (v5 Rf):=by
 have sc:=aVo;refine F.ok (k:=n+1) sc (λa5 A outer s H vs Q E J h=>?_);obtain⟨ds,e,m,rfl,y,a4,X,tb,q⟩:=h;refine⟨_,(yC (yU (i:=1) (bJi d J rfl)) (yC (zT cQz rfl (xL (pv 0)) (y9 (i:=2)) (yF (yY (xJ c J rfl (yA (pv 1) (yA (pv 2) yD)))))) (yF (yP (bX9 b J v0 (pv 1)))))),?_⟩;intro x dx hx a3 W;refine⟨x,dx,rfl,yB,λla sa H1 a0 O Y h1 h2 h3 h4=>⟨rfl,?_⟩⟩;dsimp only[yW];obtain⟨g0,k0⟩:=J7.start (CL:=CL) tb hx a3 W rfl a0 O Y h1 h2 h3 h4;have U:=y.same k0.t;have z:(e.map V.ref).length=m.length:=by rw[bYP];exact y.2.1
 refine⟨_,rfl,ds,rfl,⟨_,SqL.of U.1⟩,?_⟩;refine zJ (xs:=e.map V.ref) (λi σ D=>∃ (C:Option V)(p:List Ans)(o:List Nat),σ= [some (.ref ds),some (.ref x),C]/\J7 H CB CL Rf.2 x (m.take i) p D o) ?_ ?_ ?_ ?_
 ·exact⟨none,[],_,rfl,g0⟩
 ·rintro i σ D hi ⟨C,p,o,rfl,g⟩;exact SqL.of (y.same g.keep).1
 ·rintro i v σ D T ⟨C,p,o,rfl,g⟩;have j:i<m.length:=by rw[<- z];exact(bYW.mp T).1
  have B:=bYK (show i<e.length by rw[y.2.1];exact j);have u:=bYK j;rw[bY5,B]at T;cases T;have Z:=y.same g.keep;have a1:m.take (i+1)=m.take i++ [m[i]]:=by rw[cQN,u];rfl
  dsimp only[yW];refine⟨_,rfl,_,rfl,?_⟩;refine g.step (X _ (cXQ j)) (by rw[cQ4];omega) (Z.2.2 i _ _ B u) rfl λa v H3 o' g3 av nv k3 gr=>?_;rw[<- a1]at g3;exact⟨_,_,o',rfl,g3⟩
 ·rintro σ D ⟨C,p,o,rfl,g⟩;rw[z,cQI]at g;obtain⟨N,M,I,G,R,S,e1,e2,e3,e4,e5⟩:=g.ex;obtain⟨L,hb⟩:=e2.book;refine⟨_,rfl,x,L,_,rfl,hb,rfl,x,N,M,I,G,R,S,rfl,e2,by have:=e3.r;omega,λl H5 vs k5 a2 hP=>?_⟩;exact q l H5 vs p R S (g.keep.trans k5.t) (jR g.tab k5) e5 e4 a2 hP
end
end Desk
namespace Law
open PySem L2 PyProof.Rows
open Bk (Row Rows x2 xP Ans)
open Desk (xH vI uQ Wf Up Run zG jV)
structure LGo(H0:Hp)(ra sa:Nat)(es:List xP)(as:List Ans)(H:Hp)(rs:List Nat):Prop where
 ex:∃ (R:Rows)(S:List Int),LBk H ra sa rs R S/\Up es.length R S/\Bk.Y4 R/\Run [] [] es as R S
 keep:xC H0 H
 newR:H0 ra=none
 newS:H0 sa=none
 newB:∀b∈rs,H0 b=none
def LGo.same{f H d:Hp}{e sa:Nat}{h:List xP}{i:List Ans}{c:List Nat}(g:LGo f e sa h i H c)(k:xC H d):LGo f e sa h i d c:=
 ⟨let ⟨R,S,a,b⟩:=g.ex;⟨R,S,a.same k,b⟩,g.keep.trans k,g.newR,g.newS,g.newB⟩
def LGo.start{H:Hp}{a sa:Nat}(e:H a=none)(c:upd H a (.lst []) sa=none):LGo H a sa [] [] (upd (upd H a (.lst [])) sa (.lst [])) []:=by
 have f:=yG e (.lst []);have g:=yG c (.lst []);have ne:sa≠a:=λz=>by rw[z,yB]at c;cases c
 exact⟨⟨[],[],⟨⟨g _ _ yB,rfl,.nil,λi b r h=>by simp at h⟩,yB,ne,by simp,λb d=>by simp at d⟩,⟨bYS _,bYS _,λr h=>by simp at h⟩,Bk.aXA,.nil⟩,f.trans g,e,f.fresh c,λb d=>by simp at d⟩
def bWu{H g:Hp}{j sa:Nat}{b:List Nat}{o:Rows}{u:List Int}{a:Ans}{v:V}(t:LBk g j sa b o u)(k:∃c,H j=some (.lst c))(m:∃c,H sa=some (.lst c))(f:vI [] g a v)(s:uQ H v):vI (sa::j::b) g a v:=by
 have no:∀p,v= .ref p->(∀r d,g p≠some (.lst (uO r d)))->p∉sa::j::b:=λp e n z=>by
  rcases bYU.mp z with z|z
  ·obtain⟨c,h⟩:=m;exact s p e (.lst c) (by intro _ y;cases y) (by rw[z];exact h)
  rcases bYU.mp z with z|z
  ·obtain⟨c,h⟩:=k;exact s p e (.lst c) (by intro _ y;cases y) (by rw[z];exact h)
  ·obtain⟨i,q,w⟩:=cQC z;obtain⟨d,A,_⟩:=t.book.row i p _ (by rw[bYK q,w]) (bYK (show i<o.length by rw[<- t.book.len];exact q));exact n _ d A
 cases a with
 |num n=>exact f
 |txt x=>exact f
 |nums l=>obtain⟨p,e,_,h⟩:=f;exact⟨p,e,no p e λr d z=>by rw[h]at z;exact aQI (bY6 z).symm,h⟩
 |txts l=>obtain⟨p,e,_,h⟩:=f;exact⟨p,e,no p e λr d z=>by rw[h]at z;exact qK (bY6 z).symm,h⟩
 |row r=>obtain⟨p,e,_,h⟩:=f;exact⟨p,e,no p e λr d z=>(by rw[h]at z;cases z),h⟩
def LGo.step{F H:Hp}{j sa:Nat}{y:List xP}{E:List Ans}{u:List Nat}{e:xP}(g:LGo F j sa y E H u)(hw:Wf e)(hz:y.length<60){A:Nat}(O:H A=some (.tup (xH e))){Q:VK} (q:∀ (a:Ans)(v:V)(i:Hp)(f:List Nat),LGo F j sa (y++ [e]) (E++ [a]) i f->aZg j sa u f H i->vI (sa::j::f) i a v->uQ H v->Q v i):aXw [.ref j,.ref sa,.ref A] H Q E0:=by
 obtain⟨R,S,B,n,m,k⟩:=g.ex;refine⟨j,sa,A,u,R,S,e,rfl,O,hw,B,by have:=n.r;omega,by have:=n.s;omega,m,λr K=>by have:=n.c r K;omega,λi a v L I f p l C N D=>?_⟩;refine q a v i f ⟨⟨L,I,l,?_,Bk.x2.book m ?_ C,.snoc k C⟩,λx o h=>?_,g.newR,g.newS,λb J=>?_⟩ p (bWu l ⟨_,B.book.lst⟩ ⟨_,B.shut⟩ N D) D
 ·rw[bY8,cQY];exact n.done C
 ·intro G d w t M;subst M;exact hw
 ·exact p.1 x o (yJ h g.newS) (yJ h g.newR) (λz=>by rw[g.newB x z]at h;cases h) (g.keep _ _ h)
 ·rcases p.2.1 b J with z|z
  ·exact g.newB b z
  ·exact g.keep.fresh z
structure aWp(H0:Hp)(ra sa:Nat)(H:Hp)(rs:List Nat)(D:Nat)(xs:List V):Prop where
 at_:H D=some (.lst xs)
 new:H0 D=none
 nr:D≠ra
 ns:D≠sa
 nb:D∉rs
 nc:NoC rs H D
def aWp.step{e H d:Hp}{b sa D:Nat}{c a:List Nat}{xs:List V}(h:aWp e b sa H c D xs)(st:aZg b sa c a H d):aWp e b sa d a D xs:=
 ⟨st.1 D _ h.ns h.nr h.nb h.at_,h.new,h.nr,h.ns,λz=>(st.2.1 D z).elim h.nb (λy=>by have:=h.at_;rw[y]at this;cases this),st.2.2 D _ h.at_ h.nc⟩
def aWp.same{e H c:Hp}{d sa D:Nat}{a:List Nat}{xs:List V}(h:aWp e d sa H a D xs)(f:∀b∈a,∃o,H b=some o)(k:xC H c):aWp e d sa c a D xs:=
 ⟨k _ _ h.at_,h.new,h.nr,h.ns,h.nb,(But.of f k).2.2 D _ h.at_ h.nc⟩
def LGo.dom{d H:Hp}{c sa:Nat}{e:List xP}{f:List Ans}{a:List Nat}(g:LGo d c sa e f H a):∀b∈a,∃o,H b=some o:=let ⟨R,S,h,_⟩:=g.ex;h.book.dom
def LGo.write{m H:Hp}{n sa D:Nat}{t:List xP}{q:List Ans}{f:List Nat}{xs:List V}(g:LGo m n sa t q H f)(h:aWp m n sa H f D xs)(ys:List V):LGo m n sa t q (upd H D (.lst ys)) f/\aWp m n sa (upd H D (.lst ys)) f D ys:=by
 obtain⟨R,S,c,w,p,d⟩:=g.ex;have nb:∀b∈f,b≠D:=λb a z=>h.nb (by rw[<- z];exact a);refine⟨⟨⟨R,S,⟨⟨by rw[yI (cQu h.nr)];exact c.book.lst,c.book.len,c.book.nd,λi b r a v=>?_⟩,by rw[yI (cQu h.ns)];exact c.shut,c.ne,c.no,λb a l k=>c.noC b a l (by rw[yI (nb b a)]at k;exact k)⟩,w,p,d⟩,λx o e=>?_,g.newR,g.newS,g.newB⟩,yB,h.new,h.nr,h.ns,h.nb,λb a l k=>h.nc b a l (by rw[yI (nb b a)]at k;exact k)⟩
 ·obtain⟨u,s,y⟩:=c.book.row i b r a v;have j:=bY3 a;exact⟨u,by rw[yI (nb b j)];exact s,by rw[yI (λz=>h.nc b j _ s (by rw[<- z];rfl))];exact y⟩
 ·rw[yI (yJ e h.new)];exact g.keep _ _ e
def aWp.write{d H:Hp}{c sa D E:Nat}{a:List Nat}{xs:List V}(h:aWp d c sa H a D xs)(ne:D≠E)(g:E∉a)(u:HO):aWp d c sa (upd H E u) a D xs:=
 ⟨by rw[yI ne];exact h.at_,h.new,h.nr,h.ns,h.nb,λb e l f=>h.nc b e l (by rw[yI (λz=>g (by rw[<- z];exact e))]at f;exact f)⟩
end Law
namespace Bk
open PySem (Str)
def bJU{R:Rows}{k:Nat}{r:Row}(b:R[k]? =some r)(a:r.void=false):wW R (k:Int)=true:=by
 unfold wW;rw[cQm,b];simp[a]
def one(R:Rows)(S:List Int)(m:Int)(f:Nat->Row->Ans×Rows×List Int):Ans×Rows×List Int:=if wW R m=false then(.txt "no letter",R,S)else match R[m.toNat]? with
 |some r=>f m.toNat r
 |none=>(.txt "no letter",R,S)
def bWW{R:Rows}{S:List Int}{m:Int}{f:Nat->Row->Ans×Rows×List Int}(h:wW R m=false):one R S m f=(.txt "no letter",R,S):=if_pos h
def zW{R:Rows}{k:Nat}{r:Row}(b:R[k]? =some r)(a:r.void=false):¬wW R (k:Int)=false:=by rw[bJU b a];exact Bool.noConfusion
def xY{R:Rows}{S:List Int}{k:Nat}{r:Row}{f:Nat->Row->Ans×Rows×List Int}(a:R[k]? =some r)(b:r.void=false):one R S (k:Int) f=f k r:=(if_neg (zW a b)).trans (by rw[cQm,a])
open Classical in
noncomputable def out (R:Rows) (S:List Int):xP->Ans×Rows×List Int
 |.enter b d e t=>if t<0 then(.txt "no term",R,S)else(.num R.length,R++ [⟨b,d,e,t,none,"",false,[]⟩],S)
 |.reply m d t=>if wW R m=false then(.txt "no letter",R,S)else if t<0 then(.txt "no term",R,S)else one R S m λk r=>if d<r.date then(.txt "too early",R,S)else(.num R.length,R++ [⟨uY r.way,d,r.partner,t,some k,r.place,false,[]⟩],S)
 |.hang m o=>if wW R m=false\/wW R o=false then(.txt "no letter",R,S)else one R S m λi r=>one R S o λj q=>if r.link≠none then(.txt "has one",R,S)else if(thr R j).head? =some i then(.txt "own thread",R,S)else
   if r.way=q.way then(.txt "same way",R,S)else if r.partner≠q.partner then(.txt "other partner",R,S)else if r.date<q.date then(.txt "too early",R,S)else(.txt "hung",xO (laid R (thr R i) q.place) i λr=>{r with link:=some j},S)
 |.loose m=>one R S m λk r=>if r.link=none then(.txt "has none",R,S)else(.txt "loose",xO R k λr=>{r with link:=none},S)
 |.date m d=>one R S m λk r=>if(∃j,r.link=some j/\d<dt R j)\/∃c∈z9 R k,dt R c<d then(.txt "too early",R,S)else(.txt "dated",xO R k λr=>{r with date:=d},S)
 |.term m t=>one R S m λk r=>if t<0 then(.txt "no term",R,S)else(.txt "set",xO R k λr=>{r with term:=t},S)
 |.copy m w=>one R S m λk r=>if w=r.partner\/w∈r.copies then(.txt "copied",R,S)else(.num (r.copies.length+1),xO R k λr=>{r with copies:=r.copies++ [w] },S)
 |.file m w=>one R S m λk _=>(.num (thr R k).length,laid R (thr R k) w,S)
 |.void m=>one R S m λk r=>if z9 R k= []then(.txt "void",xO R k λr=>{r with link:=none,void:=true},S)else(.txt "answered",R,S)
 |.shut d=>if Dm.cts S d=true then(.txt "shut",R,S++ [d])else(.txt "counts not",R,S)
 |.state m=>one R S m λ_ r=>(.row r,R,S)
 |.thread m=>one R S m λk _=>(.nums (thr R k),R,S)
 |.copies m=>one R S m λ_ r=>(.txts r.copies,R,S)
 |.letters w=>(.nums ((bYY R.length).filter λk=>match R[k]? with|some r=> !r.void && decide (r.place=w)|none=>false),R,S)
 |.on a d=>if h:∃l,aKL R S d a l then(.nums (choose h),R,S)else(.nums [],R,S)
def x2.out{R s:Rows}{S r:List Int}{e:xP}{a:Ans}(h:x2 R S e a s r):out R S e=(a,s,r):=by
 cases h with
 |enter h=>exact if_neg (cZB.mpr h)
 |enterT h=>exact if_pos h
 |replyN h=>exact if_pos h
 |replyT h o=>exact(if_neg (by rw[h];exact Bool.noConfusion)).trans (if_pos o)
 |replyE f h o q=>exact(if_neg (zW f h)).trans ((if_neg (cZB.mpr o)).trans ((xY f h).trans (if_pos q)))
 |reply f h o q=>exact(if_neg (zW f h)).trans ((if_neg (cZB.mpr o)).trans ((xY f h).trans (if_neg (cZB.mpr q))))
 |hangN h=>exact if_pos h
 |hangH g d i hw h=>exact(if_neg (not_or.mpr ⟨zW g d,zW i hw⟩)).trans ((xY g d).trans ((xY i hw).trans (if_pos h)))
 |hangO g d i hw h n=>exact(if_neg (not_or.mpr ⟨zW g d,zW i hw⟩)).trans ((xY g d).trans ((xY i hw).trans ((if_neg (not_not_intro h)).trans (if_pos n))))
 |hangW g d i hw h n m=>exact(if_neg (not_or.mpr ⟨zW g d,zW i hw⟩)).trans ((xY g d).trans ((xY i hw).trans ((if_neg (not_not_intro h)).trans ((if_neg n).trans (if_pos m)))))
 |hangP g d i hw h n m k=>exact(if_neg (not_or.mpr ⟨zW g d,zW i hw⟩)).trans ((xY g d).trans ((xY i hw).trans ((if_neg (not_not_intro h)).trans ((if_neg n).trans ((if_neg m).trans (if_pos k))))))
 |hangE g d i hw h n m k p=>exact(if_neg (not_or.mpr ⟨zW g d,zW i hw⟩)).trans ((xY g d).trans ((xY i hw).trans ((if_neg (not_not_intro h)).trans ((if_neg n).trans ((if_neg m).trans ((if_neg (not_not_intro k)).trans (if_pos p)))))))
 |hang g d i hw h n m k p=>exact(if_neg (not_or.mpr ⟨zW g d,zW i hw⟩)).trans ((xY g d).trans ((xY i hw).trans ((if_neg (not_not_intro h)).trans ((if_neg n).trans ((if_neg m).trans ((if_neg (not_not_intro k)).trans (if_neg (cZB.mpr p))))))))
 |oneN h t=>rcases t with rfl|⟨_,rfl⟩|⟨_,rfl⟩|⟨_,rfl⟩|⟨_,rfl⟩|rfl|rfl|rfl|rfl<;> (unfold Bk.out;exact bWW h)
 |looseN f d h=>unfold Bk.out;exact(xY f d).trans (if_pos h)
 |loose f d h=>unfold Bk.out;exact(xY f d).trans (if_neg h)
 |dateE f d h=>unfold Bk.out;exact(xY f d).trans (if_pos h)
 |date f d m k=>unfold Bk.out;exact(xY f d).trans (if_neg (not_or.mpr ⟨λ⟨j,a,b⟩=>absurd (m j a) (Int.not_le.mpr b),λ⟨c,a,b⟩=>absurd (k c a) (Int.not_le.mpr b)⟩))
 |termN f d h=>unfold Bk.out;exact(xY f d).trans (if_pos h)
 |term f d h=>unfold Bk.out;exact(xY f d).trans (if_neg (cZB.mpr h))
 |copyC f d h=>unfold Bk.out;exact(xY f d).trans (if_pos h)
 |copy f d h k=>unfold Bk.out;exact(xY f d).trans (if_neg (not_or.mpr ⟨h,k⟩))
 |file f d=>unfold Bk.out;exact xY f d
 |voidA f d h=>unfold Bk.out;exact(xY f d).trans (if_neg h)
 |void f d h=>unfold Bk.out;exact(xY f d).trans (if_pos h)
 |shutN h=>exact if_neg (by rw[h];exact Bool.noConfusion)
 |shut h=>exact if_pos h
 |state f d=>unfold Bk.out;exact xY f d
 |thread f d=>unfold Bk.out;exact xY f d
 |copies f d=>unfold Bk.out;exact xY f d
 |letters=>rfl
 |on h=>exact(dif_pos ⟨_,h⟩).trans (by rw[(cJq (⟨_,h⟩:∃l,aKL R S _ _ l)).uniq h])
def x2.det{R d R2:Rows}{S f g:List Int}{e c:xP}{a b:Ans}(j:c=e)(h:x2 R S e a d f)(i:x2 R S c b R2 g):a=b/\d=R2/\f=g:=by
 subst j;have q:=h.out.symm.trans i.out;exact⟨congrArg (·.1) q,congrArg (·.2.1) q,congrArg (·.2.2) q⟩
end Bk
namespace Desk
open Bk (Row Rows x2 xP Ans)
def Run.inv{R c:Rows}{S b:List Int}{l:List xP}{bs:List Ans}(h:Run R S l bs c b):(l= []/\bs= []/\c=R/\b=S)\/∃i e j a f g,l=i++ [e]/\bs=j++ [a]/\Run R S i j f g/\x2 f g e a c b:=by
 cases h with
 |nil=>exact .inl ⟨rfl,rfl,rfl,rfl⟩
 |snoc h d=>exact .inr ⟨_,_,_,_,_,_,rfl,rfl,h,d⟩
def Run.det{R:Rows}{S:List Int}:∀ (n:Nat) {b:List xP} {f bs:List Ans} {c R2:Rows} {i j:List Int},b.length=n->Run R S b f c i->Run R S b bs R2 j->f=bs/\c=R2/\i=j
 |0,b,f,bs,c,R2,i,j,hn,h,h2=>by
  rcases h.inv with⟨rfl,rfl,rfl,rfl⟩|⟨_,_,_,_,_,_,rfl,_⟩
  ·rcases h2.inv with⟨_,rfl,rfl,rfl⟩|⟨r,u,_,_,_,_,z,_⟩
   ·exact⟨rfl,rfl,rfl⟩
   ·exact absurd (congrArg cXT z) (by simp)
  ·simp at hn
 |n+1,b,f,bs,c,R2,i,j,hn,h,h2=>by
  rcases h.inv with⟨rfl,_⟩|⟨q,e,s,a,w,v,rfl,rfl,g,d⟩
  ·simp at hn
  ·rcases h2.inv with⟨z,_⟩|⟨o,u,k,x,m,l,z,rfl,t,p⟩
   ·exact absurd (congrArg cXT z) (by simp)
   ·obtain⟨rfl,z2⟩:=cZV z rfl;cases z2;obtain⟨rfl,rfl,rfl⟩:=Run.det n (by simpa using hn) g t;obtain⟨rfl,rfl,rfl⟩:=Bk.x2.det rfl d p;exact⟨rfl,rfl,rfl⟩
end Desk
namespace Law
open PySem L2 PyProof.Rows
open Bk (Row Rows x2 xP Ans)
open Desk (xH vI uQ Wf Up Run zG jV)
def qR{o b:List Nat}{H c:Hp}{a:Ans}{v:V}(h:vI o H a v)(k:∀p u,p∉o->H p=some u->p∉b/\c p=some u):vI b c a v:=by
 cases a with
 |num n=>exact h
 |txt x=>exact h
 |nums l=>obtain⟨p,e,n,q⟩:=h;exact⟨p,e,k p _ n q⟩
 |txts l=>obtain⟨p,e,n,q⟩:=h;exact⟨p,e,k p _ n q⟩
 |row r=>obtain⟨p,e,n,q⟩:=h;exact⟨p,e,k p _ n q⟩
structure Mid(H0:Hp)(ra sa ds us:Nat)(es:List xP)(das:List Nat)(i:Nat)(H:Hp):Prop where
 ne:ds≠us
 wf:∀e∈es,Wf e
 len:das.length=es.length
 at_:∀ (j:Nat)(d:Nat)(e:xP),das[j]? =some d->es[j]? =some e->H d=some (.tup (xH e))
 ex:∃ (rs:List Nat)(as:List Ans)(vs:List V),LGo H0 ra sa (es.take i) as H rs/\aWp H0 ra sa H rs ds (das.map V.ref)/\aWp H0 ra sa H rs us vs/\cQA (λv a=>vI (us::ds::sa::ra::rs) H a v) vs as
def Mid.same{f H c:Hp}{l sa ds us:Nat}{h:List xP}{b:List Nat}{i:Nat}(m:Mid f l sa ds us h b i H)(k:xC H c):Mid f l sa ds us h b i c:=by
 obtain⟨t,w,o,g,q,s,p⟩:=m.ex;exact⟨m.ne,m.wf,m.len,λj d e x r=>k _ _ (m.at_ j d e x r),t,w,o,g.same k,q.same g.dom k,s.same g.dom k,jV (λv a z=>qR z λp u n e=>⟨n,k _ _ e⟩) p⟩
def Mid.keep{b H:Hp}{c sa ds us:Nat}{d:List xP}{a:List Nat}{i:Nat}(m:Mid b c sa ds us d a i H):xC b H:=let ⟨rs,as,vs,g,_⟩:=m.ex;g.keep
def Mid.push{t H:Hp}{A sa ds us:Nat}{k:List xP}{b:List Nat}{i:Nat}(m:Mid t A sa ds us k b i H)(r:i=k.length){d:Nat}{e:xP}(F:H d=some (.tup (xH e)))(hw:Wf e):Mid t A sa ds us (k++ [e]) (b++ [d]) i (upd H ds (.lst ((b++ [d]).map V.ref))):=by
 obtain⟨D,E,B,g,o,C,p⟩:=m.ex;have w:=g.write o ((b++ [d]).map V.ref);have tk:∀ {x ys},H x=some (.tup ys)->upd H ds (.lst ((b++ [d]).map V.ref)) x=some (.tup ys):=λ{x ys} h=>by rw[yI (λz=>by rw[z,o.at_]at h;cases h)];exact h
 refine⟨m.ne,λx f=>?_,by simp[m.len],λj x y l c=>?_,D,E,B,?_,w.2,C.write (cQu m.ne) o.nb _,jV (λv a z=>qR z λp u n h=>⟨n,?_⟩) p⟩
 ·rcases cQp.mp f with f|f
  ·exact m.wf x f
  ·rw[bY2.mp f];exact hw
 ·by_cases s:j<k.length
  ·rw[cQs (by rw[m.len];exact s)]at l;rw[cQs s]at c;exact tk (m.at_ j x y l c)
  ·have q:j=k.length:=by
    have:=(bYW.mp c).1;simp at this;omega
   subst q;rw[cQb (by rw[m.len];exact bYS _),m.len,cQ7]at l;rw[cQb (bYS _),cQ7]at c;cases l;cases c;exact tk F
 ·rw[r,List.take_left' rfl];have:=w.1;rw[r,cQI]at this;exact this
 ·rw[yI (λz=>n (by rw[z];exact bYX _ bY0))];exact h
def Mid.next{W H:Hp}{k sa ds us:Nat}{o:List xP}{c:List Nat}{i:Nat}(m:Mid W k sa ds us o c i H)(hz:i<60){d:Nat}{e:xP}(hd:c[i]? =some d)(F:o[i]? =some e){Q:VK} (q:∀ (v:V)(b:Hp)(vs:List V),H us=some (.lst vs)->b us=some (.lst vs)->vs.length=i->Mid W k sa ds us o c (i+1) (upd b us (.lst (vs++ [v])))->Q v b):aXw [.ref k,.ref sa,.ref d] H Q E0:=by
 obtain⟨T,as,vs,g,N,G,p⟩:=m.ex;have a0:i<o.length:=(bYW.mp F).1;have A:(o.take i).length=i:=by rw[cQ4];omega
 have J:vs.length=i:=by obtain⟨R,S,_,_,_,hr⟩:=g.ex;rw[cXt p,<- hr.len,A]
 have hw:Wf e:=m.wf e (bY3 F);refine g.step hw (by rw[A];exact hz) (m.at_ i d e hd F) λa v b f Y t B U=>?_;have t1:=N.step t;have E:=G.step t;refine q v b vs G.at_ E.at_ J ?_;have w:=Y.write E (vs++ [v]);obtain⟨R,S,M,_⟩:=g.ex;have tk:∀ {x ys},H x=some (.tup ys)->upd b us (.lst (vs++ [v])) x=some (.tup ys):=λ{x ys} h=>by
  have D:x≠sa:=λz=>by rw[z,M.shut]at h;cases h
  have I:x≠k:=λz=>by rw[z,M.book.lst]at h;cases h
  have s:=t.1 x _ D I (M.book.tupNo h) h;rw[yI (λz=>by rw[z,E.at_]at s;cases s)];exact s
 have o2:∀p u,p∉us::ds::sa::k::T->H p=some u->p∉us::ds::sa::k::f/\upd b us (.lst (vs++ [v])) p=some u:=λp u n h=>by
  have D:p≠us:=λz=>n (by rw[z];exact bY0);have I:p≠ds:=λz=>n (by rw[z];simp);have X:p≠sa:=λz=>n (by rw[z];simp);have O:p≠k:=λz=>n (by rw[z];simp);have P:p∉T:=λz=>n (by simp[z]);refine⟨λz=>?_,by rw[yI D];exact t.1 p u X O P h⟩;simp only[bYU,D,I,X,O,false_or]at z;rcases t.2.1 p z with y|y
  ·exact P y
  ·rw[h]at y;cases y
 have Z:o.take (i+1)=o.take i++ [e]:=by rw[cQN,F];rfl
 refine⟨m.ne,m.wf,m.len,λj x y h1 s=>tk (m.at_ j x y h1 s),f,as++ [a],vs++ [v],by rw[Z];exact w.1,t1.write m.ne E.nb _,w.2,?_⟩;refine cZI (jV (λv a z=>qR z o2) p) ?_;have C:∀x,v= .ref x->x≠us:=λx ex z=>U x ex (.lst vs) (by intro _ y;cases y) (by rw[z];exact G.at_);have L:∀x,v= .ref x->x≠ds:=λx ex z=>U x ex (.lst (c.map V.ref)) (by intro _ y;cases y) (by rw[z];exact N.at_);have K:∀x u,v= .ref x->x∉sa::k::f->b x=some u->x∉us::ds::sa::k::f/\upd b us (.lst (vs++ [v])) x=some u:=λx u ex n h=>
  ⟨λz=>(bYU.mp z).elim (C x ex) λz=>(bYU.mp z).elim (L x ex) n,by rw[yI (C x ex)];exact h⟩
 cases a with
 |num n=>exact B
 |txt x=>exact B
 |nums l=>obtain⟨x,ex,n,h⟩:=B;exact⟨x,ex,K x _ ex n h⟩
 |txts l=>obtain⟨x,ex,n,h⟩:=B;exact⟨x,ex,K x _ ex n h⟩
 |row r=>obtain⟨x,ex,n,h⟩:=B;exact⟨x,ex,K x _ ex n h⟩
end Law
namespace Law
open PySem L2 PyProof.Rows
open Bk (Row Rows x2 xP Ans)
open Desk (xH vI uQ Wf wX stV)
def aZy(a:Array Nat):∀ (m:Nat)(b:Array Nat),((cZj m a).foldl (·++·) b).size=b.size+m*a.size
 |0,b=>by simp
 |m+1,b=>by rw[List.replicate_succ,List.foldl_cons,aZy a m,Array.size_append,Nat.succ_mul];omega
def bJ5{x:Str}{n:Int}(a:x.length<=1)(f:n<=100):(Txt.mul x n).length<=100:=by
 unfold Txt.mul;split
 ·decide
 ·split
  ·omega
  ·rename_i c _;show((cZj n.toNat x.cps).foldl (·++·) #[]).size<=100;rw[aZy];have b:x.cps.size<=1:=a;have d:n.toNat*x.cps.size<=n.toNat*1:=Nat.mul_le_mul_left _ b;have e:(#[]:Array Nat).size=0:=rfl;omega
inductive bX5(x:V)(y:V)(H:Hp)(Q:VK):Prop|mk (i n) (_:x= .str i) (_:y= .int n) (_:i.length<=1) (_:0<=n) (_:n<=100) (_:∀z:Str,z.length<=100->Q (.str z) H)
def aQA{X:Cx}:OpR X (cZs .Mult) bX5:=by
 intro b s σ H x y v u Q I f g h;obtain⟨i,n,rfl,rfl,a,j,c,q⟩:=h;obtain⟨t,rfl⟩:=f;obtain⟨d,rfl⟩:=g;refine SB.mul ⟨?_,λe _=>?_,λe _=>?_⟩ λd k=>⟨.str (Txt.mul i n),H,I.tok _,⟨_,rfl⟩,q _ (bJ5 a c)⟩
 ·rw[decide_eq_false (by omega),decide_eq_false (by omega)];rfl
 ·have:(1:Int)<=(2 ^ 63 - 1) / n:=Int.le_ediv_of_mul_le (by omega) (by omega);omega
 ·have:i.length*n.toNat<=1*n.toNat:=Nat.mul_le_mul_right _ a;unfold Builtin.Str.tooLong;simp only[decide_eq_false_iff_not,cQk];omega
def bZ4{l:List V}(h:0<l.length)(x:Int):∃v∈l,atI l (x % (l.length:Nat))=some v:=by
 have c:=Int.emod_nonneg x (show((l.length:Nat):Int)≠0 by omega);have d:=Int.emod_lt_of_pos x (show(0:Int)<((l.length:Nat):Int) by omega);obtain⟨k,b⟩:∃k:Nat,x % (l.length:Nat)=(k:Int):=⟨(x % (l.length:Nat)).toNat,by omega⟩;have a:k<l.length:=by omega
 refine⟨l[k],cXQ a,?_⟩;rw[b];exact yT (bYK a)
def X0{a:List Int}(h:a≠ [])(x:Int):∃n,atI (a.map V.int) (x % ((a.map V.int).length:Nat))=some (.int n):=by
 obtain⟨v,b,e⟩:=bZ4 (l:=a.map V.int) (by rw[bYP];exact cQZ.mpr h) x;obtain⟨n,_,rfl⟩:=cQQ.mp b;exact⟨n,e⟩
def aJt{l:List Nat}(h:l≠ [])(x:Int):∃n,atI (l.map λi=>V.int (i:Nat)) (x % ((l.map λi=>V.int (i:Nat)).length:Nat))=some (.int n):=by
 obtain⟨v,a,e⟩:=bZ4 (l:=l.map λi=>V.int (i:Nat)) (by rw[bYP];exact cQZ.mpr h) x;obtain⟨n,_,rfl⟩:=cQQ.mp a;exact⟨n,e⟩
def vN(H:Hp)(v:V):Prop:=∃p e,v= .ref p/\H p=some (.tup (xH e))/\Wf e
def vN.same{H d:Hp}{v:V}(h:vN H v)(k:xC H d):vN d v:=let ⟨p,e,a,b,c⟩:=h;⟨p,e,a,k _ _ b,c⟩
abbrev Q7:Stmt:=xF "_law_hanging"
inductive aJc(vs:List V)(H:Hp)(Q:VK)(_:XK):Prop|mk (ra ca:Nat) (rs:List Nat) (R:Rows) (ns:List Int) (k:Nat) (m:Int) (_:vs= [.ref ra,.ref ca,.int (k:Nat),.int m]) (_:xA H ra rs R) (_:R.length<=60) (_:H ca=some (.lst (ns.map V.int))) (_:ns≠ []) (_:∀ (H':Hp)(v:V),xC H H'->vN H' v->Q v H')
section
variable {K:bYM}
def aKt:yN ["_law_rows","_law_cells","_law_k","_law_number","_law_near","_law_far","_law_free","_law_goal","_law_fits","_law_j","_law_one"] ["_law_rows","_law_cells","_law_k","_law_number"] (yH Q7):=scM
def aWO:xN ["_law_rows","_law_cells","_law_k","_law_number","_law_near","_law_far","_law_free","_law_goal","_law_fits","_law_j","_law_one"] (yH Q7) "_law_j" ["_law_rows"] [0] (lsN [(".0",.local),("_law_j",.local),("_law_rows",.free)]):=
 lcM
def aW8(T:vJ mg)(a8:mg "int"=none)(J:FnG P w K mg base 1 "_law_good" ["_law_rows","_law_number"] W9)(F:Fun K "_law_hanging" "_law_hanging" Q7 f fd):xE P w K mg base CX0 2 f fd ["_law_rows","_law_cells","_law_k","_law_number"] aJc:=by
 have sc:=aKt;refine F.ok (k:=1) sc (λb1 A outer s H vs Q E hr h=>?_);obtain⟨v,W,rs,R,ns,k,m,rfl,hB,hR,hc,a0,q⟩:=h;refine⟨_,(yC (yU (i:=4) (yL yK (pv 1) (yV y0 (yV x9 (pv 2) yE) (yQ yO rfl T.b_len xB (yA (pv 1) yD))))) (yC (yU (i:=5) (yL yK (pv 1) (yV y0 (yV x9 (pv 2) yE) (yQ yO rfl T.b_len xB (yA (pv 1) yD))))) (yC (aZY (i:=6) aWO rfl sc.nd rfl rfl (zL rfl T.b_range (yA (yQ yO rfl T.b_len xB (yA (pv 0) yD)) yD)) (λ_ _ _ _ _=>(w7 (yM aXr (yL ixK (yL ixK (pv 1) (pv 0)) yE) x6))) (λ_ _ _ _ _=>(pv 0))) (yC (y7 (PW.pt (vS (yM (vR hr.units0) (pv 6) (y6 yD)) (wR (yM aXg (yV y0 (pv 4) yE) yE)))) (yF (yU (i:=3) (yL yK (pv 6) (yV y0 (pv 5) (yQ yO rfl T.b_len xB (yA (pv 6) yD)))))) yS) (yC (yU (i:=7) (yV wU (yV y0 (yV x9 (pv 4) (pv 2)) (yV x9 (yQ yO rfl T.b_len xB (yA (pv 0) yD)) yE)) (x5 vB rfl a8 uR (yA (zR zI (yV y0 (pv 4) yE) yE) yD)))) (yC (yU (i:=8) (y6 yD)) (yC (zT cQz rfl (zL rfl T.b_range (yA (yQ yO rfl T.b_len xB (yA (pv 0) yD)) yD)) (y9 (i:=9)) (yF (y7 (PW.pt (vS (xZ (xJ J hr rfl (yA (pv 0) (yA (pv 3) yD)))) (wR (yM Y0 (yL yK (yL yK (pv 0) (pv 9)) yE) (yL yK (yL yK (pv 0) (pv 3)) yE))))) (yC (yU (i:=10) (yL yK (pv 0) (pv 9))) (yF (y7 (PW.pt (vS (yM zI (yL yK (pv 10) yE) (yL yK (yL yK (pv 0) (pv 3)) yE)) (wR (yM aYR (yL yK (pv 10) yE) (yL yK (yL yK (pv 0) (pv 3)) yE))))) (yF (yY (vM cQa cQh cQi xD (pv 8) (yA (pv 9) yD)))) yS))) yS))) (yC (y7 (PW.pt (vS (yM (vR hr.units0) (pv 8) (y6 yD)) (wR (yM aXg (yV y0 (pv 4) yE) yE)))) (yF (yU (i:=7) (yL yK (pv 8) (yV y0 (yV x9 (yV X5 (pv 4) yE) (pv 2)) (yQ yO rfl T.b_len xB (yA (pv 8) yD)))))) yS) (yF (yP (xG (yA yR (yA (pv 3) (yA (pv 7) yD)))))))))))))),?_⟩;have hl:(rs.map V.ref).length=R.length:=by rw[bYP];exact hB.len
 have S:(0:Int)<((ns.map V.int).length:Nat):=by rw[bYP];have:=cQZ.mpr a0;omega
 obtain⟨g,a3⟩:=X0 a0 ((k:Nat)+1);obtain⟨M,a7⟩:=X0 a0 ((k:Nat)+2);refine⟨_,rfl,_,rfl,_,_,rfl,rfl,_,rfl,W,_,rfl,.inl (SqL.of hc),_,_,rfl,rfl,S,W,_,_,_,rfl,rfl,SqL.of hc,a3,?_⟩;dsimp only[yW];refine⟨_,rfl,_,rfl,_,_,rfl,rfl,_,rfl,W,_,rfl,.inl (SqL.of hc),_,_,rfl,rfl,S,W,_,_,_,rfl,rfl,SqL.of hc,a7,?_⟩;dsimp only[yW];refine⟨_,rfl,v,_,rfl,.inl (SqL.of hB.lst),?_⟩;rw[hl];refine⟨_,rfl,by omega,by omega,λD hD=>?_⟩;rw[cQm];refine Q3 (λj=>decide (w6 (Bk.lk R j)=V.non)) (λk=>V.int (k:Nat)) hD (by rw[cQk];omega) (λj hj Y R' hH O=>?_) (λk hk _ Y R' hH O=>⟨_,rfl,O⟩) ?_
 ·have N:=bYK hj;obtain⟨b,g1,g2,cp,g3,g4⟩:=hB.get N;have a9:Y v=some (.lst (rs.map V.ref)):=by rw[hH v (yJ hB.lst hD)];exact hB.lst
  have hb:Y b=_:=(hH b (yJ g3 hD)).trans g3;rw[Bk.uA N]at O;exact⟨_,rfl,_,rfl,v,_,_,_,rfl,rfl,SqL.of a9,yT g1,b,_,4,_,rfl,rfl,SqL.of hb,rfl,rfl,_,rfl,O⟩
 generalize b2:(bYY R.length).filter (λj=>decide (w6 (Bk.lk R j)=V.non))=free;have k1:=yG hD (.lst (free.map λi=>V.int (i:Nat)));have Z:upd H D (.lst (free.map λi=>V.int (i:Nat))) D=some (.lst (free.map λi=>V.int (i:Nat))):=yB;generalize upd H D (.lst (free.map λi=>V.int (i:Nat)))=H1 at k1 Z ⊢;dsimp only[yW];refine zF (λG Y=>∃m':Int,G= [some (.ref v),some (.ref W),some (.int (k:Nat)),some (.int m'),some (.int g),some (.int M),some (.ref D),none,none,none,none]/\xC H Y) ?jX (λd=>?_);case jX=>
  rintro G H2 ⟨m',rfl,k2⟩;have a6:=hB.same k2;refine⟨_,rfl,_,rfl,_,_,rfl,rfl,_,rfl,v,_,rfl,.inl (SqL.of a6.lst),_,_,rfl,rfl,_,_,rfl,rfl,(show(0:Int)<(((rs.map V.ref).length:Nat):Int)+1 by omega),_,rfl,_,_,rfl,rfl,(show(0:Int)<11 by decide),rfl,.inr ⟨_,rfl,_,_,rfl,rfl,?_⟩⟩;dsimp only[yW];refine⟨z0,λU a1=>?_⟩;dsimp only[yW];refine⟨_,rfl,v,_,rfl,.inl (SqL.of ((yG a1 (.lst [])) _ _ a6.lst)),?_⟩;rw[hl];refine⟨_,rfl,by omega,by omega,?_⟩;rw[cQm];have a4:H U=none:=k2.fresh a1;generalize ((g+(k:Nat)) % ((R.length:Nat)+1) - if decide (V.int (g % 11)=V.int 5)=true then 1 else 0)=goal;refine z7 (λt σ H3=>∃ (a:List Nat)(o9 L:Option V),σ= [some (.ref v),some (.ref W),some (.int (k:Nat)),some (.int m'),some (.int g),some (.int M),some (.ref D),some (.int goal),some (.ref U),o9,L]/\xC H H3/\H3 U=some (.lst (a.map λi=>V.int (i:Nat)))/\a.length<=t) ?_ ?_ ?_
  ·exact⟨[],none,none,rfl,k2.trans (yG a1 _),yB,bYS _⟩
  ·rintro j σ H3 hj ⟨a,o9,L,rfl,I,n,a5⟩;rw[cXV];dsimp only[yW];have u:=hB.same I;have N:=bYK hj;obtain⟨bj,j1,j2,cj,j3,j4⟩:=u.get N;refine⟨_,rfl,_,rfl,v,rs,R,m',rfl,u,_,rfl,?_⟩;cases h1:Bk.wW R m' with
   |false=>exact onF rfl (onF rfl ⟨a,_,_,rfl,I,n,by omega⟩)
   |true=>
   obtain⟨i,r,rfl,b0,hi,hv⟩:=Bk.wJ h1;obtain⟨b,g1,g2,cp,g3,g4⟩:=u.get hi;refine onT rfl ⟨_,rfl,_,rfl,v,_,_,_,rfl,rfl,SqL.of u.lst,yT j1,bj,_,0,_,rfl,rfl,SqL.of j3,rfl,_,rfl,_,rfl,v,_,_,_,rfl,rfl,SqL.of u.lst,yT g1,b,_,0,_,rfl,rfl,SqL.of g3,rfl,rfl,_,rfl,?_⟩;refine qB (λc1=>?_) (λc1=>?_)
   ·refine⟨_,rfl,_,rfl,v,_,_,_,rfl,rfl,SqL.of u.lst,yT j1,?_⟩;dsimp only[yW];refine⟨_,rfl,bj,_,2,_,rfl,rfl,SqL.of j3,rfl,_,rfl,_,rfl,v,_,_,_,rfl,rfl,SqL.of u.lst,yT g1,b,_,2,_,rfl,rfl,SqL.of g3,rfl,rfl,_,rfl,?_⟩;rw[w8];cases h2:decide (R[j].partner=r.partner)with
    |false=>exact onF rfl (onF rfl ⟨a,_,_,rfl,I,n,by omega⟩)
    |true=>
    refine onT rfl ⟨_,rfl,bj,_,1,_,rfl,rfl,SqL.of j3,rfl,_,rfl,_,rfl,v,_,_,_,rfl,rfl,SqL.of u.lst,yT g1,b,_,1,_,rfl,rfl,SqL.of g3,rfl,_,_,rfl,rfl,_,rfl,?_⟩;refine qB (λc2=>?_) (λc2=>?_)
    ·refine⟨_,rfl,.inl ⟨rfl,_,SqL.of n⟩,_,rfl,U,_,_,rfl,rfl,n,zlt (by rw[bYP];omega),?_⟩;have e5:(a.map λi=>V.int (i:Nat))++ [V.int (j:Nat)]=(a++ [j]).map λi=>V.int (i:Nat):=by simp
     rw[e5];refine⟨a++ [j],_,_,rfl,λx o e=>?_,yB,by rw[bY8];simp;omega⟩;rw[yI (λz=>by rw[z,a4]at e;cases e)];exact I _ _ e
    ·exact⟨a,_,_,rfl,I,n,by omega⟩
   ·exact⟨a,_,_,rfl,I,n,by omega⟩
  ·rintro σ H3 ⟨a,o9,L,rfl,I,n,a5⟩;dsimp only[aJg];refine zF (λG Y=>∃g':Int,G= [some (.ref v),some (.ref W),some (.int (k:Nat)),some (.int m'),some (.int g),some (.int M),some (.ref D),some (.int g'),some (.ref U),o9,L]/\xC H Y) ?rest2 (λd=>?_);case rest2=>
    rintro G H4 ⟨g',rfl,k4⟩;refine⟨_,rfl,_,rfl,z3,λp hp=>?_⟩;exact q _ _ (k4.trans (yG hp _)) ⟨p,.hang m' g',rfl,yB,trivial⟩
   refine⟨_,rfl,z0,λpn B=>⟨U,pn,_,rfl,rfl,SqL.of ((yG B (.lst [])) _ _ n),SqL.of yB,_,rfl,?_⟩⟩;have C:=yG B (.lst []);generalize upd H3 pn (.lst [])=H4 at C ⊢;by_cases l:a= []
   ·subst l;exact onF rfl (onF rfl (d _ _ ⟨goal,rfl,I.trans C⟩))
   refine onT (by cases a with|nil=>exact absurd rfl l|cons=>rfl) ⟨_,rfl,_,_,rfl,rfl,(show(0:Int)<7 by decide),_,_,rfl,rfl,_,rfl,?_⟩;refine qB (λc=>?_) (λc=>d _ _ ⟨goal,rfl,I.trans C⟩);obtain⟨g',a2⟩:=aJt l (g / 7+(k:Nat));have y:=C _ _ n;have X:(0:Int)<((a.map λi=>V.int (i:Nat)).length:Nat):=by rw[bYP];have:=cQZ.mpr l;omega
   refine⟨_,rfl,_,rfl,_,_,rfl,rfl,⟨by decide,by decide⟩,_,rfl,_,_,rfl,rfl,_,rfl,U,_,rfl,.inl (SqL.of y),_,_,rfl,rfl,X,U,_,_,_,rfl,rfl,SqL.of y,a2,?_⟩;dsimp only[yW];exact d _ _ ⟨g',rfl,I.trans C⟩
 refine⟨_,rfl,z0,λpn B=>⟨D,pn,_,rfl,rfl,SqL.of ((yG B (.lst [])) _ _ Z),SqL.of yB,_,rfl,?_⟩⟩;have C:=yG B (.lst []);generalize upd H1 pn (.lst [])=H4 at C ⊢;by_cases l:free= []
 ·subst l;exact onF rfl (onF rfl (d _ _ ⟨m,rfl,k1.trans C⟩))
 refine onT (by cases free with|nil=>exact absurd rfl l|cons=>rfl) ⟨_,rfl,_,_,rfl,rfl,(show(0:Int)<5 by decide),_,_,rfl,rfl,_,rfl,?_⟩;refine qB (λc=>?_) (λc=>d _ _ ⟨m,rfl,k1.trans C⟩);obtain⟨g',a2⟩:=aJt l M;have y:=C _ _ Z;have X:(0:Int)<((free.map λi=>V.int (i:Nat)).length:Nat):=by rw[bYP];have:=cQZ.mpr l;omega
 refine⟨_,rfl,_,rfl,_,rfl,D,_,rfl,.inl (SqL.of y),_,_,rfl,rfl,X,D,_,_,_,rfl,rfl,SqL.of y,a2,?_⟩;dsimp only[yW];exact d _ _ ⟨g',rfl,k1.trans C⟩
end
end Law
namespace Law
open PySem L2 PyProof.Rows
open Bk (Row Rows x2 xP Ans)
open Desk (xH vI uQ Wf wX stV)
def aWH{K:bYM}{x i:V}{H:Hp}{Q:VK}{a:Nat}{xs:List V}{j:Int}(e:x= .ref a)(d:i= .int j)(c:SqL K H a xs)(h0:0<=j)(f:j<(xs.length:Nat))(q:∀v∈xs,Q v H):bWh K x i H Q:=by
 obtain⟨k,rfl⟩:∃k:Nat,j=(k:Int):=⟨j.toNat,by omega⟩;have b:k<xs.length:=by omega
 exact⟨a,xs,_,_,e,d,c,yT (bYK b),q _ (cXQ b)⟩
def qC{K:bYM}{x i:V}{H:Hp}{Q:VK}{a:Nat}{xs:List V}{j:Int}(d:x= .ref a)(c:i= .int j)(b:SqL K H a xs)(h0:0<=j)(e:j<(xs.length:Nat))(f:∀v∈xs,∃n,v= .int n)(q:∀n,V.int n∈xs->Q (.int n) H):bWh K x i H Q:=
 aWH d c b h0 e λv m=>by obtain⟨n,rfl⟩:=f v m;exact q n m
def aQl{K:bYM}{x i:V}{H:Hp}{Q:VK}{a:Nat}{xs:List V}{j:Int}(d:x= .ref a)(c:i= .int j)(b:SqL K H a xs)(h0:0<=j)(e:j<(xs.length:Nat))(f:∀v∈xs,∃n,v= .str n)(q:∀n,V.str n∈xs->Q (.str n) H):bWh K x i H Q:=
 aWH d c b h0 e λv m=>by obtain⟨n,rfl⟩:=f v m;exact q n m
def b0{b:Bool}:(0:Int)<=(if b=true then 1 else 0):=by split<;> decide
def b1{b:Bool}:(if b=true then(1:Int)else 0)<2:=by split<;> decide
def md0{x n:Int}(h:0<n):0<=x % n:=Int.emod_nonneg x (by omega)
def md1{x n:Int}(h:0<n):x % n<n:=Int.emod_lt_of_pos x h
structure jY(H0 H:Hp)(ma:Nat)(n:Nat):Prop where
 k:xC H0 H
 new:H0 ma=none
 ex:∃vs,H ma=some (.lst vs)/\vs.length=n/\∀v∈vs,vN H v
def jY.same{f H d:Hp}{e:Nat}{n:Nat}(m:jY f H e n)(k:xC H d):jY f d e n:=
 ⟨m.k.trans k,m.new,let ⟨vs,a,b,c⟩:=m.ex;⟨vs,k _ _ a,b,λv g=>(c v g).same k⟩⟩
def jY.push{j H:Hp}{d:Nat}{n:Nat}(m:jY j H d n){vs:List V}(e:H d=some (.lst vs)){v:V}(l:vN H v):jY j (upd H d (.lst (vs++ [v]))) d (n+1):=by
 obtain⟨k,i,r,a,b,c⟩:=m;rw[e]at a;cases a;have q:∀v,vN H v->vN (upd H d (.lst (vs++ [v]))) v:=λv ⟨p,e',h1,h2,h3⟩=>⟨p,e',h1,by rw[yI (λz=>by rw[z,e]at h2;cases h2)];exact h2,h3⟩;have f:∀v x,vN H v->vN (upd H d x) v:=λv x ⟨p,e',h1,h2,h3⟩=>⟨p,e',h1,by rw[yI (λz=>by rw[z,e]at h2;cases h2)];exact h2,h3⟩;refine⟨λx o h=>by rw[yI (λz=>by rw[z,i]at h;cases h)];exact k _ _ h,i,_,yB,by simp[b],λu g=>?_⟩;rcases cQp.mp g with g|g
 ·exact f _ _ (c u g)
 ·rw[bY2.mp g];exact f _ _ l
def bZF{v:V}{i:Nat}{u:TS}{D:aJn}{σ:L2.St}{H:Hp}(h:u D (σ.set i (some v)) H):bKF (bKD (tC v) (yW i)) u D σ H:=h
abbrev aVZ:Stmt:=xF "_law_about"
inductive bQG(vs:List V)(H:Hp)(Q:VK)(_:XK):Prop|mk (ra ca:Nat) (rs:List Nat) (R:Rows) (ns:List Int) (k:Nat) (m turn:Int) (_:vs= [.ref ra,.ref ca,.int (k:Nat),.int m,.int turn]) (_:xA H ra rs R) (_:R.length<=60) (_:H ca=some (.lst (ns.map V.int))) (_:k<ns.length) (_:15<=turn) (_:turn<24) (_:∀ (H':Hp)(v:V),xC H H'->vN H' v->Q v H')
section
variable {K:bYM}
def bZj:yN ["_law_rows","_law_cells","_law_k","_law_number","_law_turn","_law_near","_law_far","_law_base","_law_tied","_law_name","_law_way","_law_further","_law_menu","_law_stop","_law_asks"] ["_law_rows","_law_cells","_law_k","_law_number","_law_turn"] (yH aVZ):=scM
def bXv:xN ["_law_rows","_law_cells","_law_k","_law_number","_law_turn","_law_near","_law_far","_law_base","_law_tied","_law_name","_law_way","_law_further","_law_menu","_law_stop","_law_asks"] (yH aVZ) "_law_j" ["_law_rows"] [0] (lsN [(".0",.local),("_law_j",.local),("_law_rows",.free)]):=
 lcM
seal PE PA PS PSs PT in
def bXJ(T:vJ mg)(a0:mg "int"=none)(L:FnG P w K mg base 1 "_law_good" ["_law_rows","_law_number"] W9)(F:Fun K "_law_about" "_law_about" aVZ f fd):xE P w K mg base CX0 2 f fd ["_law_rows","_law_cells","_law_k","_law_number","_law_turn"] bQG:=by
 have sc:=bZj;refine F.ok (k:=1) sc (λi9 A outer s H vs Q E hr h=>?_);obtain⟨Y,W,rs,R,ns,k,m,turn,rfl,hB,hR,hc,b5,j5,j0,q⟩:=h;refine⟨_,(yC (yU (i:=5) (yL yK (pv 1) (yV y0 (yV x9 (pv 2) yE) (yQ yO rfl T.b_len xB (yA (pv 1) yD))))) (yC (yU (i:=6) (yL yK (pv 1) (yV y0 (yV x9 (pv 2) yE) (yQ yO rfl T.b_len xB (yA (pv 1) yD))))) (yC (yU (i:=7) yE) (yC (y7 (xZ (xJ L hr rfl (yA (pv 0) (yA (pv 3) yD)))) (yF (yU (i:=7) (yL yK (yL yK (pv 0) (pv 3)) yE))) yS) (yC (aZY (i:=8) bXv rfl sc.nd rfl rfl (zL rfl T.b_range (yA (yQ yO rfl T.b_len xB (yA (pv 0) yD)) yD)) (λ_ _ _ _ _=>(w7 (yM wA (yL ixK (yL ixK (pv 1) (pv 0)) yE) x6))) (λ_ _ _ _ _=>(pv 0))) (yC (y7 (PW.pt (vS (yM zI (pv 4) yE) (vS (yM (vR hr.units0) (pv 8) (y6 yD)) (wR (yM aXg (yV y0 (pv 5) yE) yE))))) (yF (yU (i:=3) (yL yK (pv 8) (yV y0 (pv 6) (yQ yO rfl T.b_len xB (yA (pv 8) yD)))))) yS) (yC (yU (i:=9) (yL yK (y6 (yA yR (yA yR (yA yR (yA yR (yA yR (yA (yV aQA yR yE) yD))))))) (yV y0 (pv 5) (yL yK (y6 (yA yE (yA yE yD))) (yV y0 (yL yK (pv 1) (pv 2)) yE))))) (yC (yU (i:=10) (x5 vB rfl a0 uR (yA (zR zI (yV y0 (yL yK (pv 1) (pv 2)) yE) yE) yD))) (yC (yU (i:=11) (yV wU (yV x9 (pv 7) (yV y0 (pv 5) (yL yK (y6 (yA yE (yA yE yD))) (pv 10)))) (yL yK (y6 (yA yE (yA yE yD))) (pv 10)))) (yC (yU (i:=12) (y6 (yA (xG (yA yR (yA (pv 3) yD))) (yA (xG (yA yR (yA (pv 3) (yA (pv 11) yD)))) yD)))) (yC (yY (vM cQa cQh cQi xD (pv 12) (yA (xG (yA yR (yA (pv 3) (yA (yL yK (y6 (yA yE (yA yE (yA yE (yA yE (yA (aYX aJj yE) yD)))))) (yV y0 (pv 5) yE)) yD)))) yD))) (yC (yY (vM cQa cQh cQi xD (pv 12) (yA (xG (yA yR (yA (pv 3) (yA (yL yK (y6 (yA yR (yA yR (yA yR (yA yR (yA yR (yA (yV aQA yR yE) yD))))))) (yV y0 (pv 5) yE)) yD)))) yD))) (yC (yU (i:=13) (yL yK (y6 (yA (yV wU (yV y0 (pv 5) yE) yE) (yA (yV x9 (pv 7) (yV y0 (pv 5) yE)) yD))) (x5 vB rfl a0 uR (yA (zR zI (yV y0 (pv 6) yE) yE) yD)))) (yC (yU (i:=12) (yV aZS (pv 12) (y6 (yA (xG (yA yR (yA (pv 3) (yA (pv 9) yD)))) (yA (xG (yA yR (yA (pv 3) yD))) (yA (xG (yA yR (yA (pv 13) yD))) yD)))))) (yC (yU (i:=14) (y6 (yA (xG (yA yR (yA (pv 3) yD))) (yA (xG (yA yR (yA (pv 3) yD))) (yA (xG (yA yR (yA (yV wU (yV y0 (pv 6) yE) yE) yD))) yD))))) (yC (yU (i:=14) (yV aZS (pv 14) (y6 (yA (xG (yA yR (yA (pv 9) yD))) (yA (xG (yA yR (yA (yV wU (yV y0 (pv 6) yE) yE) yD))) (yA (xG (yA yR (yA (pv 3) yD))) yD)))))) (yC (y7 (yM vL (pv 4) yE) (yF (yP (yL yK (pv 12) (yV wU (pv 4) yE)))) yS) (yF (yP (yL yK (pv 14) (yV y0 (yV x9 (yV X5 (pv 5) yE) (pv 4)) yE))))))))))))))))))))),?_⟩;have b4:ns≠ []:=λz=>by rw[z]at b5;simp at b5
 have hl:(rs.map V.ref).length=R.length:=by rw[bYP];exact hB.len
 have X:(0:Int)<((ns.map V.int).length:Nat):=by rw[bYP];have:=cQZ.mpr b4;omega
 have d6:(ns.map V.int)[k]? =some (.int ns[k]):=by rw[bY5,bYK b5];rfl
 obtain⟨d,b8⟩:=X0 b4 ((k:Nat)+1);obtain⟨l,e2⟩:=X0 b4 ((k:Nat)+2);refine⟨_,rfl,_,rfl,_,_,rfl,rfl,_,rfl,W,_,rfl,.inl (SqL.of hc),_,_,rfl,rfl,X,W,_,_,_,rfl,rfl,SqL.of hc,b8,?_⟩;dsimp only[yW];refine⟨_,rfl,_,rfl,_,_,rfl,rfl,_,rfl,W,_,rfl,.inl (SqL.of hc),_,_,rfl,rfl,X,W,_,_,_,rfl,rfl,SqL.of hc,e2,?_⟩;dsimp only[yW];refine bZF ?_;refine zF (λp t=>∃bs:Int,p= [some (.ref Y),some (.ref W),some (.int (k:Nat)),some (.int m),some (.int turn),some (.int d),some (.int l),some (.int bs),none,none,none,none,none,none,none]/\t=H) ?jX (λg=>?_);case jX=>
  rintro p t ⟨bs,rfl,rfl⟩;refine⟨_,rfl,Y,_,rfl,.inl (SqL.of hB.lst),?_⟩;rw[hl];refine⟨_,rfl,by omega,by omega,λD hD=>?_⟩;rw[cQm];refine Q3 (λj=> !decide (w6 (Bk.lk R j)=V.non)) (λk=>V.int (k:Nat)) hD (by rw[cQk];omega) (λj hj H1 R' hH O=>?_) (λk hk _ t R' hH O=>⟨_,rfl,O⟩) ?_
  ·have d9:=bYK hj;obtain⟨b,Z,g2,cp,o,y⟩:=hB.get d9;have h4:H1 Y=some (.lst (rs.map V.ref)):=by rw[hH Y (yJ hB.lst hD)];exact hB.lst
   have hb:H1 b=_:=(hH b (yJ o hD)).trans o;rw[Bk.uA d9]at O;exact⟨_,rfl,_,rfl,Y,_,_,_,rfl,rfl,SqL.of h4,yT Z,b,_,4,_,rfl,rfl,SqL.of hb,rfl,rfl,_,rfl,O⟩
  generalize j2:(bYY R.length).filter (λj=> !decide (w6 (Bk.lk R j)=V.non))=free;have k1:=yG hD (.lst (free.map λi=>V.int (i:Nat)));have b2:upd t D (.lst (free.map λi=>V.int (i:Nat))) D=some (.lst (free.map λi=>V.int (i:Nat))):=yB;generalize upd t D (.lst (free.map λi=>V.int (i:Nat)))=H1 at k1 b2 ⊢;dsimp only[yW];refine zF (λp H2=>∃m:Int,p= [some (.ref Y),some (.ref W),some (.int (k:Nat)),some (.int m),some (.int turn),some (.int d),some (.int l),some (.int bs),some (.ref D),none,none,none,none,none,none]/\xC t H2) ?rest2 (λg=>?_);case rest2=>
   rintro p H2 ⟨m,rfl,k2⟩;refine⟨_,_,rfl,rfl,by decide,by decide,by decide,λu i5=>⟨zn (by show 6<=100000;omega),λl6 f7=>?_⟩⟩;have e6:=yG f7 (.lst [.str "old",.str "",.str "new",.str "old files",.str "Old, ~",.str u]);have h6:upd H2 l6 (.lst [.str "old",.str "",.str "new",.str "old files",.str "Old, ~",.str u]) l6=some (.lst [.str "old",.str "",.str "new",.str "old files",.str "Old, ~",.str u]):=yB;generalize upd H2 l6 (.lst [.str "old",.str "",.str "new",.str "old files",.str "Old, ~",.str u])=H3 at e6 h6 ⊢;refine⟨_,rfl,z2,λl2 i1=>?_⟩;have e7:=yG i1 (.lst [.int 3,.int 6]);have h7:upd H3 l2 (.lst [.int 3,.int 6]) l2=some (.lst [.int 3,.int 6]):=yB;have d4:=e7 _ _ h6;have k4:=(k2.trans e6).trans e7;generalize upd H3 l2 (.lst [.int 3,.int 6])=H4 at e7 h7 d4 k4 ⊢;have c0:=k4 _ _ hc;refine⟨_,rfl,_,rfl,W,_,_,_,rfl,rfl,SqL.of c0,yT d6,_,_,rfl,rfl,(show(0:Int)<2 by decide),?_⟩;refine qC rfl rfl (SqL.of h7) (md0 (by decide)) (md1 (by decide)) (by simp) λj hj=>?_;have i6:j=3\/j=6:=by simpa using hj
   refine⟨_,_,rfl,rfl,(show(0:Int)<j by omega),?_⟩;refine aQl rfl rfl (SqL.of d4) (md0 (by omega)) (Int.lt_of_lt_of_le (md1 (by omega)) (show j<=6 by omega)) (by simp) λe _=>?_;dsimp only[yW];refine⟨_,rfl,_,rfl,W,_,_,_,rfl,rfl,SqL.of c0,yT d6,_,_,rfl,rfl,(show(0:Int)<11 by decide),rfl,.inr ⟨_,rfl,?_⟩⟩;generalize i7:decide (V.int (ns[k] % 11)=V.int 4)=wb;dsimp only[yW];refine⟨_,rfl,_,rfl,z2,λl9 e8=>⟨_,rfl,?_⟩⟩;have e9:=yG e8 (.lst [.int 9,.int 3001]);refine qC rfl rfl (SqL.of yB) b0 b1 (by simp) λj hj=>?_;have j1:j=9\/j=3001:=by simpa using hj
   refine⟨_,_,rfl,rfl,(show(0:Int)<j by omega),_,_,rfl,rfl,z2,λl4 f9=>⟨_,rfl,?_⟩⟩;have J:=(k4.trans e9).trans (yG f9 (.lst [.int 4,.int 1500]));refine qC rfl rfl (SqL.of yB) b0 b1 (by simp) λj4 _=>?_;refine⟨_,_,rfl,rfl,?_⟩;generalize upd (upd H4 l9 (.lst [.int 9,.int 3001])) l4 (.lst [.int 4,.int 1500])=H5 at J ⊢;dsimp only[yW];refine⟨_,rfl,z2,λp1 e5=>⟨_,rfl,_,rfl,z3,λp2 a8=>⟨z2,λU d1=>?_⟩⟩⟩;have M1:jY t (upd (upd (upd H5 p1 (.tup [.str "loose",.int m])) p2 (.tup [.str "date",.int m,.int (bs+d % j - j4)])) U (.lst [.ref p1,.ref p2])) U 2:=by
    have a1:=yG e5 (.tup [.str "loose",.int m]);have a2:=yG a8 (.tup [.str "date",.int m,.int (bs+d % j - j4)]);have a3:=yG d1 (.lst [.ref p1,.ref p2]);refine⟨((J.trans a1).trans a2).trans a3,((J.trans a1).trans a2).fresh d1,_,yB,rfl,λv a=>?_⟩;rcases bYU.mp a with rfl|a
    ·exact⟨p1,.loose m,rfl,a3 _ _ (a2 _ _ yB),trivial⟩
    ·rw[bY2.mp a];exact⟨p2,.date m (bs+d % j - j4),rfl,a3 _ _ yB,trivial⟩
   generalize upd (upd (upd H5 p1 (.tup [.str "loose",.int m])) p2 (.tup [.str "date",.int m,.int (bs+d % j - j4)])) U (.lst [.ref p1,.ref p2])=H6 at M1 ⊢;dsimp only[yW];obtain⟨e3,e0, -, -⟩:=M1.ex;refine⟨_,rfl,.inl ⟨rfl,_,SqL.of e0⟩,_,rfl,_,rfl,zn (by show 5<=100000;omega),λl5 i3=>⟨_,rfl,_,_,rfl,rfl,(show(0:Int)<5 by decide),?_⟩⟩;refine qC rfl rfl (SqL.of yB) (md0 (by decide)) (md1 (by decide)) (by simp) λtm _=>⟨z3,λp3 h0=>?_⟩;have a5:=(yG i3 (.lst [.int 0,.int 2,.int 6,.int 1,.int (-1)])).trans (yG h0 (.tup [.str "term",.int m,.int tm]));have d5:vN (upd (upd H6 l5 (.lst [.int 0,.int 2,.int 6,.int 1,.int (-1)])) p3 (.tup [.str "term",.int m,.int tm])) (.ref p3):=⟨p3,.term m tm,rfl,yB,trivial⟩;generalize upd (upd H6 l5 (.lst [.int 0,.int 2,.int 6,.int 1,.int (-1)])) p3 (.tup [.str "term",.int m,.int tm])=H7 at a5 d5 ⊢;have M2:=M1.same a5;have a9:=a5 _ _ e0;refine⟨U,_,_,rfl,rfl,a9,?_,?_⟩
   ·obtain⟨ws,w1,w2,_⟩:=M2.ex;rw[a9]at w1;cases w1;exact zlt (by omega)
   have M3:=M2.push a9 d5;generalize upd H7 U (.lst (e3++ [.ref p3]))=H8 at M3 ⊢;obtain⟨i4,d8, -, -⟩:=M3.ex;refine⟨_,rfl,.inl ⟨rfl,_,SqL.of d8⟩,_,rfl,_,_,rfl,rfl,by decide,by decide,by decide,λz4 j3=>⟨zn (by show 6<=100000;omega),λl7 f5=>⟨_,rfl,_,_,rfl,rfl,(show(0:Int)<6 by decide),?_⟩⟩⟩;refine aQl rfl rfl (SqL.of yB) (md0 (by decide)) (md1 (by decide)) (by simp) λM _=>⟨z3,λp4 h2=>?_⟩;have a7:=(yG f5 (.lst [.str "ann",.str "cy",.str "bo",.str "",.str "ann lee",.str z4])).trans (yG h2 (.tup [.str "copy",.int m,.str M]));have d7:vN (upd (upd H8 l7 (.lst [.str "ann",.str "cy",.str "bo",.str "",.str "ann lee",.str z4])) p4 (.tup [.str "copy",.int m,.str M])) (.ref p4):=⟨p4,.copy m M,rfl,yB,trivial⟩;generalize upd (upd H8 l7 (.lst [.str "ann",.str "cy",.str "bo",.str "",.str "ann lee",.str z4])) p4 (.tup [.str "copy",.int m,.str M])=H9 at a7 d7 ⊢;have M4:=M3.same a7;have b6:=a7 _ _ d8;refine⟨U,_,_,rfl,rfl,b6,?_,?_⟩
   ·obtain⟨ws,w1,w2,_⟩:=M4.ex;rw[b6]at w1;cases w1;exact zlt (by omega)
   have M5:=M4.push b6 d7;generalize upd H9 U (.lst (i4++ [.ref p4]))=H10 at M5 ⊢;refine⟨_,rfl,_,_,rfl,rfl,(show(0:Int)<24 by decide),_,_,rfl,rfl,_,rfl,_,rfl,_,_,rfl,rfl,(show(0:Int)<12 by decide),_,_,rfl,rfl,z2,λl8 h9=>⟨_,rfl,_,_,rfl,rfl,(show(0:Int)<3 by decide),rfl,.inr ⟨_,rfl,?_⟩⟩⟩;refine qC rfl rfl (SqL.of yB) b0 b1 (by simp) λn _=>?_;have M6:=M5.same (yG h9 (.lst [.int (d % 24 - 2),.int (bs+d % 12)]));generalize upd H10 l8 (.lst [.int (d % 24 - 2),.int (bs+d % 12)])=H11 at M6 ⊢;dsimp only[yW];obtain⟨b7,g7,b9,g9⟩:=M6.ex;refine⟨_,rfl,_,rfl,_,rfl,z3,λC g8=>⟨_,rfl,z2,λS h8=>⟨_,rfl,z2,λG f6=>⟨z3,λb3 d2=>?_⟩⟩⟩⟩;have c1:=yG g8 (.tup [.str "file",.int m,.str e]);have c2:=yG h8 (.tup [.str "void",.int m]);have c3:=yG f6 (.tup [.str "shut",.int n]);have c4:=yG d2 (.lst [.ref C,.ref S,.ref G]);refine⟨U,b3,_,_,rfl,rfl,c4 _ _ (c3 _ _ (c2 _ _ (c1 _ _ g7))),yB,by rw[b9,cQk];show 7<=16777216;omega,λmb c6=>?_⟩;have c5:=yG c6 (.lst (b7++ [.ref C,.ref S,.ref G]));have M7:jY t (upd (upd (upd (upd (upd H11 C (.tup [.str "file",.int m,.str e])) S (.tup [.str "void",.int m])) G (.tup [.str "shut",.int n])) b3 (.lst [.ref C,.ref S,.ref G])) mb (.lst (b7++ [.ref C,.ref S,.ref G]))) mb 7:=by
    have kk:=(((M6.k.trans c1).trans c2).trans c3).trans c4;refine⟨kk.trans c5,kk.fresh c6,_,yB,by rw[bY8,b9];rfl,λv a=>?_⟩;rcases cQp.mp a with a|a
    ·exact(g9 v a).same ((((c1.trans c2).trans c3).trans c4).trans c5)
    ·rcases bYU.mp a with rfl|a
     ·exact⟨C,.file m e,rfl,c5 _ _ (c4 _ _ (c3 _ _ (c2 _ _ yB))),trivial⟩
     ·rcases bYU.mp a with rfl|a
      ·exact⟨S,.void m,rfl,c5 _ _ (c4 _ _ (c3 _ _ yB)),trivial⟩
      ·rw[bY2.mp a];exact⟨G,.shut n,rfl,c5 _ _ (c4 _ _ yB),trivial⟩
   generalize upd (upd (upd (upd (upd H11 C (.tup [.str "file",.int m,.str e])) S (.tup [.str "void",.int m])) G (.tup [.str "shut",.int n])) b3 (.lst [.ref C,.ref S,.ref G])) mb (.lst (b7++ [.ref C,.ref S,.ref G]))=H12 at M7 ⊢;dsimp only[yW];refine⟨_,rfl,z2,λr1 i2=>⟨_,rfl,z2,λr2 e4=>⟨_,rfl,_,_,rfl,rfl,(show(0:Int)<26 by decide),_,_,rfl,rfl,z2,λr3 g6=>⟨z3,λna c9=>?_⟩⟩⟩⟩;have f1:=yG i2 (.tup [.str "state",.int m]);have f2:=yG e4 (.tup [.str "thread",.int m]);have f3:=yG g6 (.tup [.str "overdue",.int (l % 26 - 1)]);have f4:=yG c9 (.lst [.ref r1,.ref r2,.ref r3]);have M8:=(((M7.same f1).same f2).same f3).same f4;have N1:jY t (upd (upd (upd (upd H12 r1 (.tup [.str "state",.int m])) r2 (.tup [.str "thread",.int m])) r3 (.tup [.str "overdue",.int (l % 26 - 1)])) na (.lst [.ref r1,.ref r2,.ref r3])) na 3:=by
    have kk:=((M7.k.trans f1).trans f2).trans f3;refine⟨kk.trans f4,kk.fresh c9,_,yB,rfl,λv a=>?_⟩;rcases bYU.mp a with rfl|a
    ·exact⟨r1,.state m,rfl,f4 _ _ (f3 _ _ (f2 _ _ yB)),trivial⟩
    ·rcases bYU.mp a with rfl|a
     ·exact⟨r2,.thread m,rfl,f4 _ _ (f3 _ _ yB),trivial⟩
     ·rw[bY2.mp a];exact⟨r3,.on true (l % 26 - 1),rfl,f4 _ _ yB,trivial⟩
   generalize upd (upd (upd (upd H12 r1 (.tup [.str "state",.int m])) r2 (.tup [.str "thread",.int m])) r3 (.tup [.str "overdue",.int (l % 26 - 1)])) na (.lst [.ref r1,.ref r2,.ref r3])=H13 at M8 N1 ⊢;dsimp only[yW];obtain⟨a6,h3,d0,f8⟩:=N1.ex;refine⟨_,rfl,_,rfl,z2,λI i0=>⟨_,rfl,_,_,rfl,rfl,(show(0:Int)<26 by decide),_,_,rfl,rfl,z2,λN f0=>⟨_,rfl,z2,λB g0=>⟨z3,λa4 e1=>?_⟩⟩⟩⟩;have Z:=yG i0 (.tup [.str "letters",.str e]);have g2:=yG f0 (.tup [.str "waiting",.int (l % 26 - 1)]);have o:=yG g0 (.tup [.str "copies",.int m]);have y:=yG e1 (.lst [.ref I,.ref N,.ref B]);refine⟨na,a4,_,_,rfl,rfl,y _ _ (o _ _ (g2 _ _ (Z _ _ h3))),yB,by rw[d0,cQk];show 6<=16777216;omega,λnb d3=>?_⟩;have g5:=yG d3 (.lst (a6++ [.ref I,.ref N,.ref B]));have M9:=((((M8.same Z).same g2).same o).same y).same g5;have N2:jY t (upd (upd (upd (upd (upd H13 I (.tup [.str "letters",.str e])) N (.tup [.str "waiting",.int (l % 26 - 1)])) B (.tup [.str "copies",.int m])) a4 (.lst [.ref I,.ref N,.ref B])) nb (.lst (a6++ [.ref I,.ref N,.ref B]))) nb 6:=by
    have kk:=(((M8.k.trans Z).trans g2).trans o).trans y;refine⟨kk.trans g5,kk.fresh d3,_,yB,by rw[bY8,d0];rfl,λv a=>?_⟩;rcases cQp.mp a with a|a
    ·exact(f8 v a).same ((((Z.trans g2).trans o).trans y).trans g5)
    ·rcases bYU.mp a with rfl|a
     ·exact⟨I,.letters e,rfl,g5 _ _ (y _ _ (o _ _ (g2 _ _ yB))),trivial⟩
     ·rcases bYU.mp a with rfl|a
      ·exact⟨N,.on false (l % 26 - 1),rfl,g5 _ _ (y _ _ (o _ _ yB)),trivial⟩
      ·rw[bY2.mp a];exact⟨B,.copies m,rfl,g5 _ _ (y _ _ yB),trivial⟩
   generalize upd (upd (upd (upd (upd H13 I (.tup [.str "letters",.str e])) N (.tup [.str "waiting",.int (l % 26 - 1)])) B (.tup [.str "copies",.int m])) a4 (.lst [.ref I,.ref N,.ref B])) nb (.lst (a6++ [.ref I,.ref N,.ref B]))=H14 at M9 N2 ⊢;dsimp only[yW];refine⟨_,rfl,_,_,rfl,rfl,_,rfl,?_⟩;refine qB (λc=>?_) (λc=>?_)
   ·have c:turn<22:=of_decide_eq_true c;obtain⟨us,u1,u2,u3⟩:=M9.ex;refine⟨_,rfl,_,rfl,_,_,rfl,rfl,?_⟩;exact aWH rfl rfl (SqL.of u1) (by omega) (by rw[u2];show turn - 15<7;omega) λv a=>q _ _ M9.k (u3 v a)
   ·obtain⟨us,u1,u2,u3⟩:=N2.ex;refine⟨_,rfl,_,rfl,_,_,rfl,rfl,⟨by decide,by decide⟩,_,rfl,_,_,rfl,rfl,_,_,rfl,rfl,(show(0:Int)<6 by decide),?_⟩;exact aWH rfl rfl (SqL.of u1) (md0 (by decide)) (by rw[u2];exact md1 (by decide)) λv a=>q _ _ N2.k (u3 v a)
  refine⟨_,rfl,rfl,_,rfl,?_⟩;cases j6:decide (V.int turn=V.int 15)with
  |false=>exact onF rfl (onF rfl (g _ _ ⟨m,rfl,k1⟩))
  |true=>
  refine onT rfl ⟨_,rfl,z0,λpn c8=>⟨D,pn,_,rfl,rfl,SqL.of ((yG c8 (.lst [])) _ _ b2),SqL.of yB,_,rfl,?_⟩⟩;have J:=yG c8 (.lst []);generalize upd H1 pn (.lst [])=H4 at J ⊢;by_cases x:free= []
  ·subst x;exact onF rfl (onF rfl (g _ _ ⟨m,rfl,k1.trans J⟩))
  refine onT (by cases free with|nil=>exact absurd rfl x|cons=>rfl) ⟨_,rfl,_,_,rfl,rfl,(show(0:Int)<4 by decide),_,_,rfl,rfl,_,rfl,?_⟩;refine qB (λc=>?_) (λc=>g _ _ ⟨m,rfl,k1.trans J⟩);obtain⟨g',h5⟩:=aJt x l;have c7:=J _ _ b2;have a8:(0:Int)<((free.map λi=>V.int (i:Nat)).length:Nat):=by rw[bYP];have:=cQZ.mpr x;omega
  refine⟨_,rfl,_,rfl,_,rfl,D,_,rfl,.inl (SqL.of c7),_,_,rfl,rfl,a8,D,_,_,_,rfl,rfl,SqL.of c7,h5,?_⟩;dsimp only[yW];exact g _ _ ⟨g',rfl,k1.trans J⟩
 refine⟨_,rfl,_,rfl,Y,rs,R,m,rfl,hB,_,rfl,?_⟩;cases h1:Bk.wW R m with
 |false=>exact onF rfl (g _ _ ⟨0,rfl,rfl⟩)
 |true=>
 obtain⟨i,r,rfl,i8,hi,a⟩:=Bk.wJ h1;obtain⟨b,Z,g2,cp,o,y⟩:=hB.get hi;refine onT rfl ⟨_,rfl,_,rfl,Y,_,_,_,rfl,rfl,SqL.of hB.lst,yT Z,b,_,1,_,rfl,rfl,SqL.of o,rfl,?_⟩;dsimp only[yW];exact g _ _ ⟨r.date,rfl,rfl⟩
end
end Law
namespace Law
open PySem L2 PyProof.Rows
open Bk (Row Rows x2 xP Ans)
open Desk (xH vI uQ Wf wX stV)
def bWw:cQw "max"=some (.builtin "max"):=dk
def aJH{c:TT}{t u:TS}{D:aJn}{σ:L2.St}{H:Hp}(I:Bool->Hp->Prop)(h:∀Kk:Bool->Hp->Prop,(∀b a,I b a->Kk b a)->c σ H Kk)(e:∀a,I true a->t D σ a)(d:∀a,I false a->u D σ a):bKE c t u D σ H:=
 h _ λb a i=>by
  cases b with
  |true=>exact onT rfl (e a i)
  |false=>exact onF rfl (d a i)
def bJn{c:TT}{t u r:TS}{D:aJn}{σ:L2.St}{H:Hp}(h:bKE c t u {D with nx:=r D} σ H):bKF (bKE c t u) r D σ H:=h
def p60:(0:Int)<10 ^ (60:Int).toNat:=dk
def c60:bYe 10 60:=⟨by decide,by decide,by decide⟩
abbrev aVb:Stmt:=xF "_law_deed_at"
inductive aWc(vs:List V)(H:Hp)(Q:VK)(_:XK):Prop|mk (ra ca:Nat) (rs:List Nat) (R:Rows) (ns:List Int) (k:Nat) (_:vs= [.ref ra,.ref ca,.int (k:Nat)]) (_:xA H ra rs R) (_:R.length<=60) (_:H ca=some (.lst (ns.map V.int))) (_:k<ns.length) (_:∀ (H':Hp)(v:V),xC H H'->vN H' v->Q v H')
section
variable {K:bYM}
def bQw:yN ["_law_rows","_law_cells","_law_k","_law_near","_law_far","_law_turn","_law_number","_law_term","_law_date","_law_who","_law_twin","_law_base"] ["_law_rows","_law_cells","_law_k"] (yH aVb):=scM
seal PE PA PS PSs PT in
def aYJ(T:vJ mg)(Z:mg "int"=none)(a6:mg "max"=none)(U:FnG P w K mg base 2 "_law_good" ["_law_rows","_law_number"] W9)(y:FnG P w K mg base 2 "_law_hanging" ["_law_rows","_law_cells","_law_k","_law_number"] aJc) (N:FnG P w K mg base 2 "_law_about" ["_law_rows","_law_cells","_law_k","_law_number","_law_turn"] bQG) (F:Fun K "_law_deed_at" "_law_deed_at" aVb f fd):xE P w K mg base CX0 3 f fd ["_law_rows","_law_cells","_law_k"] aWc:=by
 have sc:=bQw;refine F.ok (k:=2) sc (λc7 A outer s H vs Q E hr h=>?_);obtain⟨G,g,rs,R,D,k,rfl,hB,hR,L,X,q⟩:=h;refine⟨_,(yC (yU (i:=3) (yL yK (pv 1) (yV y0 (yV x9 (pv 2) yE) (yQ yO rfl T.b_len xB (yA (pv 1) yD))))) (yC (yU (i:=4) (yL yK (pv 1) (yV y0 (yV x9 (pv 2) yE) (yQ yO rfl T.b_len xB (yA (pv 1) yD))))) (yC (yU (i:=5) (yV y0 (yV x9 (yL yK (pv 1) (pv 2)) (yV aVP yE (pv 2))) yE)) (yC (yU (i:=6) (yV y0 (yV x9 (pv 4) (pv 2)) (yQ (aKQ rfl) rfl a6 bWw (yA yE (yA (yQ yO rfl T.b_len xB (yA (pv 0) yD)) yD))))) (yC (y7 (yM zI (yV y0 (yL yK (pv 1) (pv 2)) yE) yE) (yF (yU (i:=6) (yL yK (y6 (yA (aYX aJj yE) (yA (yQ yO rfl T.b_len xB (yA (pv 0) yD)) (yA (yV aQB yE yE) (yA (yV wU (aYX aJj yE) (yV y0 (pv 3) (yV aQB yE yE))) (yA (yV x9 (yQ yO rfl T.b_len xB (yA (pv 0) yD)) (yV y0 (pv 3) (yV aQB yE yE))) yD)))))) (yV y0 (pv 3) yE)))) yS) (yC (yU (i:=7) (yL yK (y6 (yA yE (yA yE (yA yE (yA yE (yA yE (yA yE yD))))))) (yV y0 (yV X5 (pv 3) yE) yE))) (yC (y7 (yM zI (yV y0 (yL yK (pv 1) (pv 2)) yE) yE) (yF (yU (i:=7) (yL yK (y6 (yA (aYX aJj yE) (yA yE (yA (yV wU (aYX aJj yE) (yV y0 (pv 4) (yV aQB yE yE))) (yA (yV y0 (pv 4) yE) yD))))) (yV y0 (pv 4) yE)))) yS) (yC (y7 (PW.pt (jW (yM vL (pv 5) yE) (vT (yM (aVO hr.units0) (pv 0) (y6 yD))))) (yC (yU (i:=8) (yV x9 (yV wU (yV y0 (pv 3) yE) yE) (yV aVP (yV aQB yE yE) (x5 vB rfl Z uR (yA (zR zI (yV y0 (yL yK (pv 1) (pv 2)) yE) yE) yD))))) (yC (y7 (yM zI (yV y0 (yL yK (pv 1) (pv 2)) yE) yE) (yF (yU (i:=8) (yL yK (y6 (yA (yV wU (yV y0 (pv 3) yE) yE) (yA (yV y0 (pv 3) (yV aQB yE yE)) (yA (yV wU yE (yV y0 (pv 3) (yV aQB yE yE))) yD)))) (yV y0 (pv 4) yE)))) yS) (yC (yU (i:=9) (yL yK (y6 (yA yR (yA yR (yA yR (yA yR yD))))) (yV y0 (pv 4) yE))) (yC (y7 (yM zI (yV y0 (yL yK (pv 1) (pv 2)) yE) yE) (yC (yU (i:=10) (yV aXq (yV aXq (yV aQA yR (yV y0 (yL yK (pv 1) yE) yE)) yR) (yV aQA yR (yV wU yE (yV y0 (yL yK (pv 1) yE) yE))))) (yF (yU (i:=9) (yL yK (y6 (yA yR (yA (pv 10) (yA (yV aQA yR yE) yD)))) (yV y0 (pv 4) yE))))) yS) (yF (yP (xG (yA (yL yK (y6 (yA yR (yA yR yD))) (yV y0 (yV X5 (pv 4) yE) yE)) (yA (pv 8) (yA (pv 9) (yA (pv 7) yD))))))))))) yS) (yC (y7 (yM vL (pv 5) yE) (yC (yU (i:=11) (yV y0 (pv 3) yE)) (yC (y7 (xZ (xJ U hr rfl (yA (pv 0) (yA (pv 6) yD)))) (yF (yU (i:=11) (yV wU (yV x9 (yL yK (yL yK (pv 0) (pv 6)) yE) (yV y0 (pv 3) (yL yK (y6 (yA yE (yA yE yD))) (x5 vB rfl Z uR (yA (zR zI (yV y0 (yL yK (pv 1) (pv 2)) yE) yE) yD))))) yE))) yS) (yF (yP (xG (yA yR (yA (pv 6) (yA (pv 11) (yA (pv 7) yD))))))))) yS) (yC (y7 (yM vL (pv 5) yE) (yF (yP (xJ y hr rfl (yA (pv 0) (yA (pv 1) (yA (pv 2) (yA (pv 6) yD))))))) yS) (yF (yP (xJ N hr rfl (yA (pv 0) (yA (pv 1) (yA (pv 2) (yA (pv 6) (yA (pv 5) yD)))))))))))))))))),?_⟩;have W:D≠ []:=λz=>by rw[z]at X;simp at X
 have Y:(0:Int)<((D.map V.int).length:Nat):=by rw[bYP];have:=cQZ.mpr W;omega
 have u:(D.map V.int)[k]? =some (.int D[k]):=by rw[bY5,bYK X];rfl
 have b5:(D.map V.int)[0]? =some (.int (D[0]'(by omega))):=by rw[bY5,bYK (by omega:0<D.length)];rfl
 obtain⟨l,a3⟩:=X0 W ((k:Nat)+1);obtain⟨M,b3⟩:=X0 W ((k:Nat)+2);refine⟨_,rfl,_,rfl,_,_,rfl,rfl,_,rfl,g,_,rfl,.inl (SqL.of L),_,_,rfl,rfl,Y,g,_,_,_,rfl,rfl,SqL.of L,a3,?_⟩;dsimp only[yW];refine⟨_,rfl,_,rfl,_,_,rfl,rfl,_,rfl,g,_,rfl,.inl (SqL.of L),_,_,rfl,rfl,Y,g,_,_,_,rfl,rfl,SqL.of L,b3,?_⟩;dsimp only[yW];refine⟨_,rfl,_,rfl,g,_,_,_,rfl,rfl,SqL.of L,yT u,_,rfl,_,_,rfl,rfl,.inl ⟨by decide,by decide⟩,_,_,rfl,rfl,_,_,rfl,rfl,(show(0:Int)<24 by decide),?_⟩;dsimp only[yW];obtain⟨turn,o⟩:∃turn:Int,turn=(D[k]+5*(k:Nat)) % 24:=⟨_,rfl⟩;have d2:0<=turn:=by rw[o];exact md0 (by decide)
 have a8:turn<24:=by rw[o];exact md1 (by decide)
 rw[<- o];refine⟨_,rfl,_,rfl,_,_,rfl,rfl,_,rfl,G,_,rfl,.inl (SqL.of hB.lst),_,_,rfl,_,_,rfl,rfl,?_,?_⟩
 ·show(0:Int)<(if _ then _ else _);split<;> omega
 dsimp only[yW];refine zF (λe C=>∃m:Int,e= [some (.ref G),some (.ref g),some (.int (k:Nat)),some (.int l),some (.int M),some (.int turn),some (.int m),none,none,none,none,none]/\xC H C) ?jX (λa=>?_);case jX=>
  rintro e H1 ⟨m,rfl,k1⟩;refine⟨zn (by show 6<=100000;omega),λl6 b7=>⟨_,rfl,_,_,rfl,rfl,⟨by decide,by decide⟩,_,_,rfl,rfl,(show(0:Int)<6 by decide),?_⟩⟩;refine qC rfl rfl (SqL.of yB) (md0 (by decide)) (md1 (by decide)) (by simp) λt0 _=>?_;have k2:=k1.trans (yG b7 (.lst [.int 0,.int 2,.int 1,.int 5,.int 3,.int 7]));generalize upd H1 l6 (.lst [.int 0,.int 2,.int 1,.int 5,.int 3,.int 7])=H2 at k2 ⊢;have b6:=k2 _ _ L;dsimp only[yW];refine zF (λe C=>∃t:Int,e= [some (.ref G),some (.ref g),some (.int (k:Nat)),some (.int l),some (.int M),some (.int turn),some (.int m),some (.int t),none,none,none,none]/\xC H C) ?rest2 (λa=>?_);case rest2=>
   rintro e H3 ⟨t,rfl,k3⟩;have d0:=k3 _ _ L;have c1:=hB.same k3;refine bJn (aJH (λb C=>xC H C) ?_ ?_ ?_)
   ·intro Kk hK;refine⟨_,rfl,_,_,rfl,rfl,_,rfl,?_⟩;refine qB (λc=>hK _ _ k3) (λc=>?_);exact⟨_,rfl,z0,λpn a5=>⟨G,pn,_,rfl,rfl,SqL.of ((yG a5 (.lst [])) _ _ c1.lst),SqL.of yB,_,rfl,hK _ _ (k3.trans (yG a5 _))⟩⟩
   ·intro H4 O;have B:=O _ _ L;refine⟨_,rfl,_,_,rfl,rfl,(show(0:Int)<20 by decide),_,_,rfl,rfl,_,_,rfl,rfl,⟨by decide,by decide,by decide⟩,_,rfl,_,rfl,g,_,_,_,rfl,rfl,SqL.of B,yT u,_,_,rfl,rfl,(show(0:Int)<37 by decide),rfl,.inr ⟨_,rfl,_,_,rfl,rfl,.inl ⟨dk,dk⟩,_,_,rfl,rfl,?_⟩⟩;dsimp only[yW];refine zF (λe C=>∃d:Int,e= [some (.ref G),some (.ref g),some (.int (k:Nat)),some (.int l),some (.int M),some (.int turn),some (.int m),some (.int t),some (.int d),none,none,none]/\xC H C) ?rest3 (λa=>?_);case rest3=>
     rintro e H5 ⟨d,rfl,k5⟩;refine⟨zn (by show 4<=100000;omega),λl4 b8=>⟨_,rfl,_,_,rfl,rfl,(show(0:Int)<4 by decide),?_⟩⟩;refine aQl rfl rfl (SqL.of yB) (md0 (by decide)) (md1 (by decide)) (by simp) λa7 _=>?_;have k6:=k5.trans (yG b8 (.lst [.str "ann",.str "bo",.str "ann",.str ""]));generalize upd H5 l4 (.lst [.str "ann",.str "bo",.str "ann",.str ""])=H6 at k6 ⊢;have a2:=k6 _ _ L;dsimp only[yW];refine zF (λe C=>∃ (a1:Str)(b2:Option V),e= [some (.ref G),some (.ref g),some (.int (k:Nat)),some (.int l),some (.int M),some (.int turn),some (.int m),some (.int t),some (.int d),some (.str a1),b2,none]/\xC H C) ?rest4 (λa=>?_);case rest4=>
      rintro e H7 ⟨a1,b2,rfl,k7⟩;refine⟨z2,λl2 a4=>⟨_,rfl,_,_,rfl,rfl,⟨by decide,by decide⟩,_,_,rfl,rfl,(show(0:Int)<2 by decide),?_⟩⟩;refine aQl rfl rfl (SqL.of yB) (md0 (by decide)) (md1 (by decide)) (by simp) λa0 a9=>?_;have hw:a0="in"\/a0="out":=by simpa using a9
      refine⟨_,rfl,_,rfl,_,rfl,z4,λp hp=>?_⟩;exact q _ _ ((k7.trans (yG a4 _)).trans (yG hp _)) ⟨p,.enter a0 d a1 t,rfl,yB,hw⟩
     refine⟨_,rfl,_,rfl,g,_,_,_,rfl,rfl,SqL.of a2,yT u,_,_,rfl,rfl,(show(0:Int)<13 by decide),rfl,_,rfl,?_⟩;refine qB (λc=>?_) (λc=>a _ _ ⟨a7,none,rfl,k6⟩);have S:∀x:Int,0<=x % 40/\x % 40<=39:=λx=>⟨md0 (by decide),by have:=md1 (x:=x) (n:=40) (by decide);omega⟩;refine⟨_,rfl,g,_,_,_,rfl,rfl,SqL.of a2,yT (j:=0) b5,_,_,rfl,rfl,(show(0:Int)<40 by decide),_,_,rfl,rfl,by decide,(S _).1,by have:=(S (D[0]'(by omega))).2;omega,λza b9=>?_⟩;refine⟨_,_,rfl,rfl,by rw[cQk];show za.length+1<=_;omega,?_⟩;refine⟨_,rfl,g,_,_,_,rfl,rfl,SqL.of a2,yT (j:=0) b5,_,_,rfl,rfl,(show(0:Int)<40 by decide),_,_,rfl,rfl,_,_,rfl,rfl,by decide,by have:=(S (D[0]'(by omega))).2;omega,by have:=(S (D[0]'(by omega))).1;omega,λzb c6=>?_⟩;have c8:(za++("y":Str)).length<=101:=by
      show(za.cps++_).size<=101;rw[Array.size_append];have:za.cps.size<=100:=b9;have:("y":Str).cps.size=1:=by decide
      omega
     refine⟨_,_,rfl,rfl,by rw[cQk];omega,?_⟩;dsimp only[yW];refine⟨_,rfl,_,_,rfl,rfl,by decide,by decide,by decide,λzc c4=>⟨z3,λl3 I=>⟨_,rfl,_,_,rfl,rfl,(show(0:Int)<3 by decide),?_⟩⟩⟩;refine aQl rfl rfl (SqL.of yB) (md0 (by decide)) (md1 (by decide)) (by simp) λb4 _=>?_;dsimp only[yW];exact a _ _ ⟨b4,_,rfl,k6.trans (yG I _)⟩
    refine⟨_,rfl,_,rfl,g,_,_,_,rfl,rfl,SqL.of B,yT u,_,_,rfl,rfl,(show(0:Int)<37 by decide),rfl,_,rfl,?_⟩;refine qB (λc=>?_) (λc=>a _ _ ⟨_,rfl,O⟩);refine⟨_,rfl,_,_,rfl,rfl,(show(0:Int)<2001 by decide),_,_,rfl,rfl,_,rfl,_,_,rfl,rfl,c60,_,_,rfl,rfl,p60,_,rfl,_,_,rfl,rfl,c60,_,_,rfl,rfl,p60,_,_,rfl,rfl,z3,λl3 I=>⟨_,rfl,_,_,rfl,rfl,(show(0:Int)<3 by decide),?_⟩⟩;refine qC rfl rfl (SqL.of yB) (md0 (by decide)) (md1 (by decide)) (by simp) λd1 _=>?_;dsimp only[yW];exact a _ _ ⟨d1,rfl,O.trans (yG I _)⟩
   ·intro H4 O;have B:=O _ _ L;have J:=hB.same O;dsimp only[aJg];refine⟨_,rfl,_,_,rfl,rfl,_,rfl,?_⟩;refine qB (λc=>?_) (λc=>?_)
    ·refine⟨_,rfl,_,_,rfl,rfl,(show(0:Int)<20 by decide),?_⟩;dsimp only[yW];refine zF (λe C=>∃bs:Int,e= [some (.ref G),some (.ref g),some (.int (k:Nat)),some (.int l),some (.int M),some (.int turn),some (.int m),some (.int t),none,none,none,some (.int bs)]/\xC H C) ?rest5 (λa=>?_);case rest5=>
      rintro e H5 ⟨bs,rfl,k5⟩;refine⟨_,rfl,_,rfl,_,rfl,z4,λp hp=>?_⟩;exact q _ _ (k5.trans (yG hp _)) ⟨p,.reply m bs t,rfl,yB,trivial⟩
     refine⟨_,rfl,_,rfl,G,rs,R,m,rfl,J,_,rfl,?_⟩;cases h1:Bk.wW R m with
     |false=>exact onF rfl (a _ _ ⟨_,rfl,O⟩)
     |true=>
     obtain⟨i,r,rfl,c5,hi,hv⟩:=Bk.wJ h1;obtain⟨b,g1,g2,cp,g3,g4⟩:=J.get hi;refine onT rfl ⟨_,rfl,_,rfl,G,_,_,_,rfl,rfl,SqL.of J.lst,yT g1,b,_,1,_,rfl,rfl,SqL.of g3,rfl,_,rfl,z2,λl2 a4=>?_⟩;have e2:=yG a4 (.lst [.int 7,.int 3000]);have c0:=e2 _ _ B;refine⟨_,rfl,_,rfl,g,_,_,_,rfl,rfl,SqL.of c0,yT u,_,_,rfl,rfl,(show(0:Int)<11 by decide),rfl,.inr ⟨_,rfl,?_⟩⟩;refine qC rfl rfl (SqL.of yB) b0 b1 (by simp) λj hj=>?_;have c9:j=7\/j=3000:=by simpa using hj
     refine⟨_,_,rfl,rfl,(show(0:Int)<j by omega),_,_,rfl,rfl,_,_,rfl,rfl,?_⟩;dsimp only[yW];exact a _ _ ⟨_,rfl,O.trans e2⟩
    ·have c:¬turn<12:=of_decide_eq_false (Bool.eq_false_iff.mpr c);refine⟨_,rfl,_,_,rfl,rfl,_,rfl,?_⟩;refine qB (λc2=>?_) (λc2=>?_)
     ·exact⟨_,rfl,_,rfl,_,rfl,_,rfl,G,g,rs,R,D,k,m,rfl,J,hR,B,W,λC v k5 hd=>q _ _ (O.trans k5) hd⟩
     ·have c2:¬turn<15:=of_decide_eq_false (Bool.eq_false_iff.mpr c2);exact⟨_,rfl,_,rfl,_,rfl,_,rfl,_,rfl,G,g,rs,R,D,k,m,turn,rfl,J,hR,B,X,by omega,a8,λC v k5 hd=>q _ _ (O.trans k5) hd⟩
  refine⟨_,rfl,_,rfl,g,_,_,_,rfl,rfl,SqL.of b6,yT u,_,_,rfl,rfl,(show(0:Int)<29 by decide),rfl,_,rfl,?_⟩;refine qB (λc=>?_) (λc=>a _ _ ⟨t0,rfl,k2⟩);refine⟨_,rfl,_,rfl,_,rfl,_,_,rfl,rfl,c60,_,_,rfl,rfl,p60,_,_,rfl,rfl,_,rfl,_,_,rfl,rfl,(show(0:Int)<990 by decide),z4,λl3 I=>⟨_,rfl,_,_,rfl,rfl,(show(0:Int)<4 by decide),?_⟩⟩;refine qC rfl rfl (SqL.of yB) (md0 (by decide)) (md1 (by decide)) (by simp) λt1 _=>?_;dsimp only[yW];exact a _ _ ⟨t1,rfl,k2.trans (yG I _)⟩
 refine⟨_,rfl,_,rfl,g,_,_,_,rfl,rfl,SqL.of L,yT u,_,_,rfl,rfl,(show(0:Int)<23 by decide),rfl,_,rfl,?_⟩;refine qB (λc=>?_) (λc=>a _ _ ⟨_,rfl,xC.refl _⟩);refine⟨_,rfl,_,rfl,G,_,rfl,.inl (SqL.of hB.lst),_,_,rfl,rfl,⟨by decide,by decide,by decide⟩,_,rfl,_,rfl,_,_,rfl,rfl,c60,_,_,rfl,rfl,p60,_,_,rfl,rfl,_,rfl,G,_,rfl,.inl (SqL.of hB.lst),_,rfl,_,_,rfl,rfl,c60,_,_,rfl,rfl,p60,_,_,rfl,rfl,zn (by show 5<=100000;omega),λl5 c3=>⟨_,rfl,_,_,rfl,rfl,(show(0:Int)<5 by decide),?_⟩⟩;refine qC rfl rfl (SqL.of yB) (md0 (by decide)) (md1 (by decide)) (by simp) λm1 _=>?_;dsimp only[yW];exact a _ _ ⟨m1,rfl,yG c3 _⟩
end
end Law
namespace Law
open PySem L2 PyProof.Rows
open Bk (Row Rows x2 xP Ans)
open Desk (xH vI uQ Wf Up Run zG jV)
abbrev aV1:Stmt:=xF "_law_story"
inductive aZc(vs:List V)(H:Hp)(Q:VK)(_:XK):Prop|mk (ca:Nat) (ns:List Int) (_:vs= [.ref ca]) (_:H ca=some (.lst (ns.map V.int))) (_:ns.length<=40) (_:∀ (H':Hp)(t ds us:Nat)(das:List Nat)(es:List xP)(vs:List V)(as:List Ans)(R:Rows)(S:List Int),xC H H'->H' t=some (.tup [.ref ds,.ref us])->zG H' ds das es->H' us=some (.lst vs)->cQA (λv a=>vI [] H' a v) vs as->Run [] [] es as R S->(∀e∈es,Wf e)->es.length<=ns.length+3->Q (.ref t) H')
def Mid.start{H k f m:Hp}{r sa ds us:Nat}(g:LGo H r sa [] [] k [])(l:List xP)(a:List Nat)(i:xC k f)(q:k ds=none)(s:f ds=some (.lst (a.map V.ref)))(n:xC f m)(c:f us=none)(v:m us=some (.lst []))(w:∀e∈l,Wf e)(len:a.length=l.length) (p:∀ (j:Nat)(d:Nat)(e:xP),a[j]? =some d->l[j]? =some e->f d=some (.tup (xH e))):Mid H r sa ds us l a 0 m:=by
 have ne:ds≠us:=λz=>by rw[<- z,s]at c;cases c
 obtain⟨R,S,t,_⟩:=g.ex;have d1:∀ {x},k x=none->x≠r/\x≠sa:=λ{x} h=>⟨λz=>(by rw[z,t.book.lst]at h;cases h),λz=>(by rw[z,t.shut]at h;cases h)⟩;refine⟨ne,w,len,λj d e y u=>n _ _ (p j d e y u),[],[],[],(g.same i).same n,⟨n _ _ s,g.keep.fresh q,(d1 q).1,(d1 q).2,by simp,λb o=>by simp at o⟩,⟨v,g.keep.fresh (i.fresh c),(d1 (i.fresh c)).1,(d1 (i.fresh c)).2,by simp,λb o=>by simp at o⟩,.nil⟩
section
variable {K:bYM}
def bZA:yN ["_law_cells","_law_rows","_law_shut","_law_deeds","_law_dues","_law_k","_law_deed"] ["_law_cells"] (yH aV1):=scM
def bXx:xN ["_law_cells","_law_rows","_law_shut","_law_deeds","_law_dues","_law_k","_law_deed"] (yH aV1) "_law_deed" ["_law_rows","_law_shut"] [1,2] (lsN [(".0",.local),("_law_deed",.local),("_law_done_by",.globalImplicit),("_law_rows",.free),("_law_shut",.free)]):=
 lcM
seal PE PA PS PSs PT in
def bX0(T:vJ mg)(l:FnG P w K mg base 5 "_law_done_by" ["_law_rows","_law_shut","_law_deed"] aXw)(B:FnG P w K mg base 5 "_law_deed_at" ["_law_rows","_law_cells","_law_k"] aWc)(F:Fun K "_law_story" "_law_story" aV1 f fd):xE P w K mg base CX0 6 f fd ["_law_cells"] aZc:=by
 have sc:=bZA;refine F.ok (k:=5) sc (λd0 A outer s H vs Q E hr h=>?_);obtain⟨ca,ns,rfl,hc,hn,q⟩:=h;refine⟨_,(yC (yU (i:=1) (y6 yD)) (yC (yU (i:=2) (y6 yD)) (yC (yU (i:=3) (y6 yD)) (yC (yU (i:=4) (y6 yD)) (yC (y7 (PW.pt (vS (yM (vR hr.units0) (pv 0) (y6 yD)) (wR (yM zI (yV y0 (yL yK (pv 0) yE) yE) yE)))) (yC (yU (i:=3) (y6 (yA (xG (yA yR (yA yE (yA yR (yA yE yD))))) (yA (xG (yA yR (yA yE (yA yE (yA yE yD))))) (yA (xG (yA yR (yA yE (yA yE yD)))) yD))))) (yF (aZY (i:=4) bXx rfl sc.nd rfl rfl (xL (pv 3)) (λ_ _ _ _ _=>wK) (λ_ _ _ _ _=>(xJ l hr rfl (yA (pv 1) (yA (pv 2) (yA (pv 0) yD)))))))) yS) (yC (zT cQz rfl (zL rfl T.b_range (yA (yQ yO rfl T.b_len xB (yA (pv 0) yD)) yD)) (y9 (i:=5)) (yC (yU (i:=6) (xJ B hr rfl (yA (pv 1) (yA (pv 0) (yA (pv 5) yD))))) (yC (yY (vM cQa cQh cQi xD (pv 3) (yA (pv 6) yD))) (yF (yY (vM cQa cQh cQi xD (pv 4) (yA (xJ l hr rfl (yA (pv 1) (yA (pv 2) (yA (pv 6) yD)))) yD))))))) (yF (yP (xG (yA (pv 3) (yA (pv 4) yD))))))))))),?_⟩;refine⟨z0,λU c6=>?_⟩;dsimp only[yW];refine⟨z0,λsa c3=>?_⟩;dsimp only[yW];have g0:=LGo.start c6 c3;generalize upd (upd H U (.lst [])) sa (.lst [])=H2 at g0 ⊢;refine⟨z0,λC b3=>?_⟩;dsimp only[yW];refine⟨z0,λG b4=>?_⟩;dsimp only[yW];have k3:=yG b3 (.lst []);have k4:=yG b4 (.lst []);have M0:Mid H U sa C G [] [] 0 (upd (upd H2 C (.lst [])) G (.lst [])):=Mid.start g0 [] [] k3 b3 yB k4 b4 yB (λe h=>by simp at h) rfl (λj d e h=>by simp at h);have gk:=g0.same (k3.trans k4);generalize upd (upd H2 C (.lst [])) G (.lst [])=H4 at M0 gk k4 ⊢;have b0:=M0.keep _ _ hc;refine zF (λσ' X=>∃ (C G:Nat)(x:List xP)(b:List Nat),σ'= [some (.ref ca),some (.ref U),some (.ref sa),some (.ref C),some (.ref G),none,none]/\Mid H U sa C G x b x.length X/\x.length<=3) ?jX (λa0=>?_);case jX=>
  rintro σ' H5 ⟨C,G,x,b,rfl,M5,h3⟩;refine⟨_,rfl,ca,_,rfl,.inl (SqL.of (M5.keep _ _ hc)),?_⟩;rw[bYP];refine⟨_,rfl,by omega,by omega,?_⟩;rw[cQm];refine z7 (λt σ H6=>∃ (x:List xP)(b:List Nat)(o5 o6:Option V),σ= [some (.ref ca),some (.ref U),some (.ref sa),some (.ref C),some (.ref G),o5,o6]/\Mid H U sa C G x b x.length H6/\x.length<=3+t) ?_ ?_ ?_
  ·exact⟨x,b,none,none,rfl,M5,by omega⟩
  ·rintro k σ H6 hk ⟨x,b,o5,o6,rfl,M6,c1⟩;rw[cXV];dsimp only[yW];obtain⟨rs,as,vs,g6,s6,u6,p6⟩:=M6.ex;obtain⟨R,S,hL,hu,b5,O⟩:=g6.ex;have b6:=hu.r;rw[cQI]at b6;refine⟨_,rfl,_,rfl,_,rfl,U,ca,rs,R,ns,k,rfl,hL.book,by omega,M6.keep _ _ hc,hk,λH7 v k7 c4=>?_⟩;obtain⟨p,e,rfl,hp,hw⟩:=c4;dsimp only[yW];have M7:=M6.same k7;have b2:=k7 _ _ s6.at_;refine⟨_,rfl,.inl ⟨rfl,_,SqL.of b2⟩,_,rfl,C,_,_,rfl,rfl,b2,zlt (by rw[bYP,M6.len];omega),?_⟩;have el:b.map V.ref++ [V.ref p]=(b++ [p]).map V.ref:=by simp
   rw[el];have M8:=M7.push rfl hp hw;generalize upd H7 C (.lst ((b++ [p]).map V.ref))=H8 at M8 ⊢;obtain⟨c9,d2,d1,g8,s8,u8,p8⟩:=M8.ex;have W:(b++ [p])[x.length]? =some p:=by rw[<- M6.len,cQb (bYS _),cQ7];rfl
   have Y:(x++ [e])[x.length]? =some e:=by rw[cQb (bYS _),cQ7];rfl
   refine⟨_,rfl,.inl ⟨rfl,_,SqL.of u8.at_⟩,_,rfl,_,rfl,_,rfl,M8.next (by omega) W Y λv H9 ws _ a7 c7 M9=>⟨G,_,_,rfl,rfl,a7,zlt (by omega),x++ [e],b++ [p],_,_,rfl,?_,by rw[bY8];simp;omega⟩⟩;rw[bY8];exact M9
  ·rintro σ H6 ⟨x,b,o5,o6,rfl,M6,c1⟩;refine⟨_,rfl,_,rfl,z2,λt ht=>?_⟩;have k6:=yG ht (.tup [.ref C,.ref G]);have M7:=M6.same k6;obtain⟨rs,as,vs,g7,s7,u7,p7⟩:=M7.ex;obtain⟨R,S,hL,hu,b5,O⟩:=g7.ex;rw[cQI]at O;exact q _ t C G b x vs as R S M7.keep yB ⟨s7.at_,M7.len,M7.at_⟩ u7.at_ (jV (λv a z=>qR z λp u n e=>⟨by simp,e⟩) p7) O M7.wf (by omega)
 refine⟨_,rfl,z0,λpn b1=>⟨ca,pn,_,rfl,rfl,SqL.of ((yG b1 (.lst [])) _ _ b0),SqL.of yB,_,rfl,?_⟩⟩;have k5:=yG b1 (.lst []);generalize upd H4 pn (.lst [])=H5 at k5 ⊢;have a5:∀X,xC H4 X->_:=λX k=>a0 [some (.ref ca),some (.ref U),some (.ref sa),some (.ref C),some (.ref G),none,none] X ⟨C,G,[],[],rfl,M0.same k,by simp⟩;by_cases Z:ns= []
 ·subst Z;exact onF rfl (onF rfl (a5 _ k5))
 have c8:(ns.map V.int)[0]? =some (.int (ns[0]'(cQZ.mpr Z))):=by rw[bY5,bYK (cQZ.mpr Z)];rfl
 refine onT (by cases ns with|nil=>exact absurd rfl Z|cons=>rfl) ⟨_,rfl,ca,_,_,_,rfl,rfl,SqL.of (k5 _ _ b0),yT (j:=0) c8,_,_,rfl,rfl,(show(0:Int)<5 by decide),rfl,_,rfl,?_⟩;refine qB (λc=>?_) (λc=>a5 _ k5);refine⟨z4,λI b8=>⟨z4,λJ b9=>⟨z3,λL c5=>⟨z3,λdl a9=>?_⟩⟩⟩⟩;have a1:=yG b8 (.tup (xH (.enter "in" 4 "ann" 2)));have a2:=yG b9 (.tup (xH (.reply 0 4 1)));have a3:=yG c5 (.tup (xH (.hang 0 1)));have a4:=yG a9 (.lst ([I,J,L].map V.ref));have g5:=((gk.same k5).same a1).same (a2.trans a3);have e1:=a4 _ _ (a3 _ _ (a2 _ _ (yB (H:=H5) (a:=I) (o:= .tup (xH (.enter "in" 4 "ann" 2))))));have e2:=a4 _ _ (a3 _ _ (yB (H:=upd H5 I (.tup (xH (.enter "in" 4 "ann" 2)))) (a:=J) (o:= .tup (xH (.reply 0 4 1)))));have e3:=a4 _ _ (yB (H:=upd (upd H5 I (.tup (xH (.enter "in" 4 "ann" 2)))) J (.tup (xH (.reply 0 4 1)))) (a:=L) (o:= .tup (xH (.hang 0 1))));have e4:=yB (H:=upd (upd (upd H5 I (.tup (xH (.enter "in" 4 "ann" 2)))) J (.tup (xH (.reply 0 4 1)))) L (.tup (xH (.hang 0 1)))) (a:=dl) (o:= .lst ([I,J,L].map V.ref));have b7:∀D,upd (upd (upd (upd H5 I (.tup (xH (.enter "in" 4 "ann" 2)))) J (.tup (xH (.reply 0 4 1)))) L (.tup (xH (.hang 0 1)))) dl (.lst ([I,J,L].map V.ref)) D=none->Mid H U sa dl D [.enter "in" 4 "ann" 2,.reply 0 4 1,.hang 0 1] [I,J,L] 0 (upd (upd (upd (upd (upd H5 I (.tup (xH (.enter "in" 4 "ann" 2)))) J (.tup (xH (.reply 0 4 1)))) L (.tup (xH (.hang 0 1)))) dl (.lst ([I,J,L].map V.ref))) D (.lst [])):=λD hD=>by
  refine Mid.start g5 _ _ a4 a9 e4 (yG hD (.lst [])) hD yB (λe he=>?_) rfl (λj d e W Y=>?_)
  ·simp only[bYU,List.mem_nil_iff,or_false]at he;rcases he with rfl|rfl|rfl
   ·exact .inl rfl
   ·trivial
   ·trivial
  ·match j,W,Y with
   |0,W,Y=>cases W;cases Y;exact e1
   |1,W,Y=>cases W;cases Y;exact e2
   |2,W,Y=>cases W;cases Y;exact e3
 dsimp only[yW];refine⟨_,rfl,dl,rfl,⟨_,SqL.of e4⟩,λD hD=>?_⟩;have M6:=b7 D hD;refine⟨λi m ys X=>m=3 - i/\i<=3/\X D=some (.lst ys)/\Mid H U sa dl D [.enter "in" 4 "ann" 2,.reply 0 4 1,.hang 0 1] [I,J,L] i X,⟨3,rfl,by omega,yB,M6⟩,?_⟩;rintro i m ys X ⟨rfl,hi,a6,M⟩;refine⟨a6,?_⟩;obtain⟨rs,as,vs,g,s1,s2,p⟩:=M.ex;by_cases N:i<3
 ·have a8:([I,J,L]:List Nat)[i]? =some ([I,J,L][i]'(by simpa using N)):=bYK (by simpa using N);have c0:([.enter "in" 4 "ann" 2,.reply 0 4 1,.hang 0 1]:List xP)[i]? =some (([.enter "in" 4 "ann" 2,.reply 0 4 1,.hang 0 1]:List xP)[i]'(by simpa using N)):=bYK (by simpa using N);refine .inr ⟨⟨_,_,SqL.of s1.at_,by rw[bY5,a8];rfl⟩,λv H7 yl=>?_⟩;obtain⟨rfl,y⟩:=yl;have hv:=y _ (SqL.of s1.at_);rw[bY5,a8]at hv;cases hv;refine⟨_,rfl,_,rfl,_,rfl,?_⟩;refine M.next (by omega) a8 c0 λv H8 ws c2 a7 c7 M8=>?_;have ey:ys=ws:=by rw[c2]at a6;cases a6;rfl
  subst ey;exact⟨by rw[cQk];omega,a7,3 - (i+1),by omega,rfl,N,yB,M8⟩
 ·have:i=3:=by omega
  subst this;refine .inl ⟨⟨_,SqL.of s1.at_,by simp⟩,?_⟩;exact a0 _ _ ⟨dl,D,_,_,rfl,M,by simp⟩
end
end Law
namespace Alike
open PySem L2 PyProof.Rows
open Law (xF)
abbrev aY5:Stmt:=xF "_law_alike"
abbrev bVG:Stmt:=xF "_law_room"
abbrev bQn:Stmt:=xF "_law_whole"
def xB:cQw "len"=some (.builtin "len"):=dk
def yZ:cQw "isinstance"=some (.builtin "isinstance"):=dk
def uR:cQw "int"=some (.type "int"):=dk
def aZq:cQw "str"=some (.type "str"):=dk
def aJw:cQw "bool"=some (.type "bool"):=dk
def z6:cQw "list"=some (.type "list"):=dk
def wV:cQw "tuple"=some (.type "tuple"):=dk
structure vJ(mg:Str->Option bYL):Prop where
 b_len:mg "len"=none
 b_sorted:mg "sorted"=none
 b_isinstance:mg "isinstance"=none
 b_int:mg "int"=none
 b_str:mg "str"=none
 b_bool:mg "bool"=none
 b_list:mg "list"=none
 b_tuple:mg "tuple"=none
 b_range:mg "range"=none
inductive bQV(vs:List V)(H:Hp)(Q:VK)(_:XK):Prop|mk (n) (_:vs= [.int n]) (_:Q (.bl true) H)
inductive bJs(K:bYM)(vs:List V)(H:Hp)(Q:VK)(_:XK):Prop|mk (a:Nat) (ns:List Int) (x y:Int) (_:vs= [.ref a,.int x,.int y]) (_:SqL K H a (ns.map V.int)) (_:ns.length<=63) (_:Q (.int x) H)
section
variable {K:bYM}
def bZE:yN ["_law_found"] ["_law_found"] (yH bQn):=scM
def bX4(T:vJ mg)(F:Fun K "_law_whole" "_law_whole" bQn f fd):xE P w K mg base CX0 1 f fd ["_law_found"] bQV:=by
 have a:=bZE;refine F.ok (k:=0) a (λb A outer s H d Q E c h=>?_);obtain⟨n,rfl,q⟩:=h;refine⟨_,(yF (yP (aVT (yQ zA rfl T.b_isinstance yZ (yA (pv 0) (yA (xS (v:= .ty "int") rfl T.b_int uR rfl) yD))) (aZU (bJj (yQ zA rfl T.b_isinstance yZ (yA (pv 0) (yA (xS (v:= .ty "bool") rfl T.b_bool aJw rfl) yD)))))))),?_⟩;refine⟨_,rfl,_,"int",_,_,rfl,.int n,aXo _,_,rfl,onT rfl ?_⟩;exact⟨_,rfl,_,"bool",_,_,rfl,.int n,qH _,_,rfl,q⟩
def bVU:yN ["_law_script","_law_most","_law_bound"] ["_law_script","_law_most","_law_bound"] (yH bVG):=scM
def bVj(T:vJ mg)(F:Fun K "_law_room" "_law_room" bVG f fd):xE P w K mg base CX0 1 f fd ["_law_script","_law_most","_law_bound"] (bJs K):=by
 have b:=bVU;refine F.ok (k:=0) b (λc A outer s H g Q E i h=>?_);obtain⟨a,j,x,y,rfl,e,d,q⟩:=h;refine⟨_,(yC (y7 (yM aXg (yQ yO rfl T.b_len xB (yA (pv 0) yD)) yE) (yF (yP (pv 2))) yS) (yF (yP (pv 1)))),?_⟩;refine⟨_,rfl,a,_,rfl,.inl e,_,_,rfl,rfl,_,rfl,onF ?_ ⟨_,rfl,q⟩⟩;rw[bYP];exact decide_eq_false (by omega)
end
def Sq(K:bYM)(H:Hp)(a:Nat)(xs:List V):Prop:=H a=some (.lst xs)\/H a=some (.tup xs)
def Sq.same{K:bYM}{H b:Hp}{a:Nat}{xs:List V}(k:xC H b)(h:Sq K H a xs):Sq K b a xs:=h.imp (k _ _) (k _ _)
def Sq.ix{K:bYM}{H:Hp}{a:Nat}{xs:List V}{i:Nat}{v:V}{Q:VK}(h:Sq K H a xs)(e:xs[i]? =some v)(q:Q v H):rIx K (.ref a) (.int (i:Int)) H Q:=by
 rcases h with h|h
 ·exact .inl ⟨a,xs,_,v,rfl,rfl,SqL.of h,yT e,q⟩
 ·exact .inr (.inl ⟨a,xs,_,v,rfl,rfl,SqT.of h,yT e,q⟩)
def xV:List (Nat×Dt)->Nat
 |[]=>0
 |q::r=>q.2.size+xV r
def y8:∀a b:List (Nat×Dt),xV (a++b)=xV a+xV b
 |[],b=>by simp[xV]
 |q::r,b=>by rw[cJn];show q.2.size+xV (r++b)=q.2.size+xV r+xV b;rw[y8 r b];omega
def vH:∀ {a:List (Nat×Dt)} {ds:List Dt},a.map (·.2)=ds->xV a=zK ds
 |[],[],_=>by simp[xV,zK]
 |q::r,d::ds,h=>by rw[cQy]at h;cases h;show q.2.size+xV r=q.2.size+zK (r.map (·.2));rw[vH rfl]
 |[],_::_,h=>by cases h
 |_::_,[],h=>by cases h
def jB:∀qs:List (Nat×Dt),qs.length<=xV qs
 |[]=>bYS _
 |q::r=>by
  have:=jB r;have a:1<=q.2.size:=by cases q.2<;> simp[Dt.size]
  show r.length+1<=q.2.size+xV r;omega
def uX:∀ds:List Dt,ds.length<=zK ds
 |[]=>bYS _
 |d::r=>by
  have:=uX r;have a:1<=d.size:=by cases d<;> simp[Dt.size]
  show r.length+1<=d.size+zK r;omega
def aZa{α:Type}:∀ {l:List α},l≠ []->∃a b,l=a++ [b]
 |[],h=>absurd rfl h
 |[x],_=>⟨[],x,rfl⟩
 |x::y::r,_=>by obtain⟨i,l,e⟩:=aZa (l:=y::r) (by simp);exact⟨x::i,l,by rw[e];rfl⟩
def zX{a H:Hp}{c:Nat}{o:HO}(k:xC a H)(h:a c=none):xC a (upd H c o):=λb u q=>by rw[yI (yJ q h)];exact k b u q
mutual
def nb:Dt->Bool
 |.bl _=>false
 |.lst a=>nbs a
 |.tup a=>nbs a
 |.non=>true
 |.int _=>true
 |.str _=>true
def nbs:List Dt->Bool
 |[]=>true
 |d::r=>nb d && nbs r
end
def aJN:∀ {ds:List Dt} {i:Nat} (h:i<ds.length),nbs ds=true->nb ds[i]=true
 |d::r,0,h,e=>by unfold nbs at e;rw[Bool.and_eq_true]at e;exact e.1
 |d::r,i+1,h,e=>by unfold nbs at e;rw[Bool.and_eq_true]at e;exact aJN (ds:=r) (by simpa using h) e.2
def bJD(a H:Hp)(q:Nat×Dt):Prop:=∃x y,H q.1=some (.tup [x,y])/\Is a x q.2/\Is a y q.2/\nb q.2=true
def bJD.keep{c H b:Hp}{q:Nat×Dt}(p:bJD c H q)(k:∀a d,H a=some (.tup d)->b a=some (.tup d)):bJD c b q:=let ⟨x,y,h,r⟩:=p;⟨x,y,k _ _ h,r⟩
def jC{H:Hp}{p:Nat}{o:HO}(h:H p=none):∀a b,H a=some (.tup b)->upd H p o a=some (.tup b):=λa b e=>by rw[yI (yJ e h)];exact e
def wT{H:Hp}{p:Nat}{c:List V}{o:HO}(h:H p=some (.lst c)):∀a b,H a=some (.tup b)->upd H p o a=some (.tup b):=λa b e=>by rw[yI (aXc e h (by intro z;cases z))];exact e
def WU(c:Hp)(v u:V)(b:Nat)(m:Nat)(σ:L2.St)(H:Hp):Prop:=∃a l r k,σ= [some v,some u,some (.ref b),l,r,k]/\xC c H/\H b=some (.lst (a.map λq=> .ref q.1))/\(∀q∈a,bJD c H q)/\m=xV a/\xV a<=50000
inductive bQH(vs:List V)(H:Hp)(Q:VK)(_:XK):Prop|mk (v u d) (_:vs= [v,u]) (_:Is H v d) (_:Is H u d) (_:nb d=true) (_:d.size<=50000) (_:∀H',xC H H'->Q (.bl true) H')
section
variable {K:bYM}
def bZk:yN ["_law_found","_law_due","_law_todo","_law_one","_law_other","_law_k"] ["_law_found","_law_due"] (yH aY5):=scM
seal PE PA PS PSs PT in
def bXK(T:vJ mg)(Z:FnG P w K mg base 1 "_law_whole" ["_law_found"] bQV)(F:Fun K "_law_alike" "_law_alike" aY5 f fd):xE P w K mg base CX0 2 f fd ["_law_found","_law_due"] bQH:=by
 have sc:=bZk;refine F.ok (k:=1) sc (λc6 A outer s H0 vs Q E hr h=>?_);obtain⟨v,u,d,rfl,hv,hu,c1,hd,q⟩:=h;refine⟨_,(yC (yU (i:=2) (y6 (yA (xG (yA (pv 0) (yA (pv 1) yD))) yD))) (yC (uC cQz (yM (vR hr.units0) (pv 2) (y6 yD)) (yC (vE (aYV cQa cJr cJs aYv (pv 2)) (aZV rfl (zE (y9 (i:=3)) (zE (y9 (i:=4)) aQG)))) (yF (y7 (xZ (yQ qT rfl T.b_isinstance yZ (yA (pv 4) (yA (xG (yA (xS (v:= .ty "list") rfl T.b_list z6 rfl) (yA (xS (v:= .ty "tuple") rfl T.b_tuple wV rfl) yD))) yD)))) (yC (y7 (yM Y0 (yQ zA rfl T.b_isinstance yZ (yA (pv 3) (yA (xS (v:= .ty "list") rfl T.b_list z6 rfl) yD))) (yQ zA rfl T.b_isinstance yZ (yA (pv 4) (yA (xS (v:= .ty "list") rfl T.b_list z6 rfl) yD)))) (yF (yP wQ)) yS) (yC (y7 (yM Y0 (yQ zA rfl T.b_isinstance yZ (yA (pv 3) (yA (xS (v:= .ty "tuple") rfl T.b_tuple wV rfl) yD))) (yQ zA rfl T.b_isinstance yZ (yA (pv 4) (yA (xS (v:= .ty "tuple") rfl T.b_tuple wV rfl) yD)))) (yF (yP wQ)) yS) (yC (y7 (yM Y0 (yQ yO rfl T.b_len xB (yA (pv 3) yD)) (yQ yO rfl T.b_len xB (yA (pv 4) yD))) (yF (yP wQ)) yS) (yF (zT cQz rfl (zL rfl T.b_range (yA (yQ yO rfl T.b_len xB (yA (pv 4) yD)) yD)) (y9 (i:=5)) (yF (yY (vM cQa cQh cQi xD (pv 2) (yA (xG (yA (yL aVI (pv 3) (pv 5)) (yA (yL aVI (pv 4) (pv 5)) yD))) yD))))))))) (yF (y7 (yM aXr (pv 4) x6) (yF (y7 (yM wA (pv 3) x6) (yF (yP wQ)) yS)) (yF (y7 (xZ (yQ zA rfl T.b_isinstance yZ (yA (pv 4) (yA (xS (v:= .ty "str") rfl T.b_str aZq rfl) yD)))) (yF (y7 (PW.pt (jW (vF (xZ (yQ zA rfl T.b_isinstance yZ (yA (pv 3) (yA (xS (v:= .ty "str") rfl T.b_str aZq rfl) yD))))) (vT (yM Y0 (pv 3) (pv 4))))) (yF (yP wQ)) yS)) (yF (y7 (PW.pt (jW (vF (xZ (xJ Z hr rfl (yA (pv 3) yD)))) (vT (yM Y0 (pv 3) (pv 4))))) (yF (yP wQ)) yS)))))))))) (yF (yP wQ)))),?_⟩;refine⟨_,rfl,_,rfl,z2,λp0 b1=>⟨z1,λB b4=>?_⟩⟩;have a5:H0 B=none:=(yG b1 _).fresh b4;refine⟨WU H0 v u B,⟨d.size,[(p0,d)],none,none,none,rfl,zX (yG b1 _) a5,yB,?_,by simp[xV],by simpa[xV]using hd⟩,?_⟩
 ·intro q t;rw[bY2.mp t];exact⟨v,u,jC b4 _ _ yB,hv,hu,c1⟩
 rintro m σ H ⟨qs,l,r,k,rfl,hk,hT,hP,rfl,a6⟩;refine⟨_,rfl,z0,λpn a0=>?_⟩;have c0:pn≠B:=cQu (yJ hT a0);have a4:upd H pn (.lst []) B=some (.lst (qs.map λq=> .ref q.1)):=by rw[yI (cQu c0)];exact hT
 refine⟨B,pn,_,rfl,rfl,SqL.of a4,SqL.of yB,_,rfl,?_⟩;by_cases b0:qs= []
 ·subst b0;rw[if_neg (by decide)];exact q _ (hk.trans (yG a0 _))
 obtain⟨c,⟨lp,d⟩,rfl⟩:=aZa b0;rw[if_pos (by simp)];refine⟨λD I=>∃m',m'<xV (c++ [(lp,d)])/\WU H0 v u B m' D I,λD I z=>z,?_⟩;obtain⟨x,y,b6,hx,hy,C⟩:=hP (lp,d) (by simp);have a8:((c++ [(lp,d)]).map λq=>V.ref q.1)[((c++ [(lp,d)]).map λq=>V.ref q.1).length - 1]? =some (.ref lp):=by simp
 have a9:((c++ [(lp,d)]).map λq=>V.ref q.1).dropLast=c.map λq=>V.ref q.1:=by simp
 have b3:∀a N,H a=some (.tup N)->upd (upd H pn (.lst [])) B (.lst (c.map λq=>V.ref q.1)) a=some (.tup N):=λa N e=>wT a4 _ _ (jC a0 _ _ e);refine⟨_,rfl,.inl ⟨rfl,_,SqL.of a4⟩,B,_,.ref lp,rfl,rfl,a4,a8,?_⟩;rw[a9];have L:xC H0 (upd (upd H pn (.lst [])) B (.lst (c.map λq=>V.ref q.1))):=zX (hk.trans (yG a0 _)) a5;have a1:upd (upd H pn (.lst [])) B (.lst (c.map λq=>V.ref q.1)) B=some (.lst (c.map λq=> .ref q.1)):=yB;have a3:∀q∈c,bJD H0 (upd (upd H pn (.lst [])) B (.lst (c.map λq=>V.ref q.1))) q:=λq t=>(hP q (by simp[t])).keep b3;have a7:=b3 _ _ b6;generalize c5:upd (upd H pn (.lst [])) B (.lst (c.map λq=>V.ref q.1))=H2 at L a1 a3 a7 ⊢;refine⟨lp,[x,y],rfl,SqT.of a7,rfl,x,[y],rfl,y,[],rfl,rfl,?_⟩;have c4:1<=d.size:=by cases d<;> simp[Dt.size]
 have c7:xV c+d.size<=50000:=by rw[y8]at a6;simpa[xV]using a6
 have hm:xV c<xV (c++ [(lp,d)]):=by rw[y8];simp[xV];omega
 have fin:∀H3,(∀b o,H2 b=some o->H3 b=some o)->∃m',m'<xV (c++ [(lp,d)])/\WU H0 v u B m' [some v,some u,some (.ref B),some x,some y,k] H3:=λH3 k3=>
  ⟨xV c,hm,c,some x,some y,k,rfl,L.trans k3,k3 _ _ a1,λq t=>(a3 q t).keep λa N e=>k3 _ _ e,rfl,by omega⟩
 refine⟨_,rfl,z2,λp1 b8=>?_⟩;have j:xC H2 (upd H2 p1 (.tup [.ty "list",.ty "tuple"])):=yG b8 _;cases d with
 |non=>
  have ex:x= .non:=by unfold Is at hx;exact hx
  have ey:y= .non:=by unfold Is at hy;exact hy
  subst ex;subst ey;refine⟨_,p1,"list","tuple",_,_,_,rfl,SqT.of yB,.non,uL _,vX _,_,rfl,onF rfl ?_⟩;refine⟨_,rfl,rfl,_,rfl,onT rfl ?_⟩;refine⟨_,rfl,rfl,_,rfl,onF rfl ?_⟩;exact fin _ j
 |bl b=>unfold nb at C;cases C
 |int n=>
  have ex:x= .int n:=by unfold Is at hx;exact hx
  have ey:y= .int n:=by unfold Is at hy;exact hy
  subst ex;subst ey;refine⟨_,p1,"list","tuple",_,_,_,rfl,SqT.of yB,.int n,aQn _,W1 _,_,rfl,onF rfl ?_⟩;refine⟨_,rfl,rfl,_,rfl,onF rfl ?_⟩;refine⟨_,rfl,_,"str",_,_,rfl,.int n,jK _,_,rfl,onF rfl ?_⟩;refine⟨_,rfl,n,rfl,_,rfl,onF rfl ⟨_,rfl,_,rfl,rfl,_,rfl,onF (by simp) ?_⟩⟩;exact fin _ j
 |str z=>
  have ex:x= .str z:=by unfold Is at hx;exact hx
  have ey:y= .str z:=by unfold Is at hy;exact hy
  subst ex;subst ey;refine⟨_,p1,"list","tuple",_,_,_,rfl,SqT.of yB,.str z,aQp _,W3 _,_,rfl,onF rfl ?_⟩;refine⟨_,rfl,rfl,_,rfl,onF rfl ?_⟩;refine⟨_,rfl,_,"str",_,_,rfl,.str z,vY _,_,rfl,onT rfl ?_⟩;refine⟨_,rfl,_,"str",_,_,rfl,.str z,vY _,_,rfl,onF rfl ⟨_,rfl,_,rfl,rfl,_,rfl,onF (by simp) ?_⟩⟩;exact fin _ j
 |lst g=>
  unfold Is at hx hy;obtain⟨a,N,rfl,ha,O⟩:=hx;obtain⟨b,ys,rfl,hb,Y⟩:=hy;have lx:=O.length;have ly:=Y.length;have a2:=L _ _ ha;have R:=L _ _ hb;have c2:zK g+1<=50000:=by
   have:Dt.size (.lst g)=1+zK g:=by simp[Dt.size]
   omega
  have b5:g.length<=zK g:=uX g;have C:nbs g=true:=by unfold nb at C;exact C
  refine⟨_,p1,"list","tuple",_,_,_,rfl,SqT.of yB,.lst (j _ _ R),x8 _,z8 _,_,rfl,onT rfl ?_⟩;refine⟨_,rfl,_,"list",_,_,rfl,.lst (j _ _ a2),x8 _,_,rfl,_,"list",_,_,rfl,.lst (j _ _ R),x8 _,rfl,_,rfl,onF rfl ?_⟩;refine⟨_,rfl,_,"tuple",_,_,rfl,.lst (j _ _ a2),z8 _,_,rfl,_,"tuple",_,_,rfl,.lst (j _ _ R),z8 _,rfl,_,rfl,onF rfl ?_⟩;refine⟨_,rfl,a,_,rfl,.inl (SqL.of (j _ _ a2)),_,rfl,b,_,rfl,.inl (SqL.of (j _ _ R)),rfl,_,rfl,onF (by simp[lx,ly]) ?_⟩;refine⟨_,rfl,b,_,rfl,.inl (SqL.of (j _ _ R)),_,rfl,by omega,by omega,?_⟩;have S:Dt.size (.lst g)=1+zK g:=by simp[Dt.size]
  generalize b9:upd H2 p1 (.tup [.ty "list",.ty "tuple"])=H3 at j ⊢;refine z7 (λi D I=>∃ (G:List (Nat×Dt))(kk:Option V),D= [some v,some u,some (.ref B),some (.ref a),some (.ref b),kk]/\xC H0 I/\I B=some (.lst ((c++G).map λq=> .ref q.1))/\(∀q∈c++G,bJD H0 I q)/\G.map (·.2)=g.take i) ?_ ?_ ?_
  ·exact⟨[],k,rfl,L.trans j,by rw[cQO];exact j _ _ a1,λq t=>(a3 q (by simpa using t)).keep λa N e=>j _ _ e,rfl⟩
  ·rintro i D I hi ⟨G,kk,rfl,U,X,h3,W⟩;have J:i<g.length:=by rw[<- ly];omega
   obtain⟨xi,ex,ix⟩:=O.get (bYK J);obtain⟨yi,ey,iy⟩:=Y.get (bYK J);show aVv _ _ _ _;have sa:Sq K I a N:=Sq.same U (.inl ha);have sb:Sq K I b ys:=Sq.same U (.inl hb);refine⟨_,rfl,.inl ⟨rfl,_,SqL.of X⟩,_,rfl,_,rfl,?_⟩;rw[cXV];refine sa.ix ex ⟨_,rfl,_,rfl,?_⟩;refine sb.ix ey ⟨z2,λp hp=>?_⟩;have c3:G.length=i:=by have:=congrArg cXT W;simp at this;omega
   have b7:=jB c;have M:upd I p (.tup [xi,yi]) B=some (.lst ((c++G).map λq=> .ref q.1)):=by rw[yI (yJ X hp)];exact X
   refine⟨B,_,.ref p,rfl,rfl,M,zlt (by simp;omega),G++ [(p,g[i])],_,rfl,zX (U.trans (yG hp _)) a5,?_,?_,?_⟩
   ·rw[yB];simp
   ·intro q t;rw[<- cQ1,cQp]at t;rcases t with t|t
    ·exact(h3 q t).keep λa N e=>wT M _ _ (jC hp _ _ e)
    ·rw[bY2.mp t];exact⟨xi,yi,wT M _ _ yB,ix,iy,aJN J C⟩
   ·rw[cQ5,W,cQN,bYK J];rfl
  ·rintro D I ⟨G,kk,rfl,U,X,h3,W⟩;have e1:g.take ((ys.length:Nat):Int).toNat=g:=by rw[cQm,ly,cQI]
   rw[e1]at W;have e2:=vH W;refine⟨xV (c++G),?_,c++G,some (.ref a),some (.ref b),kk,rfl,U,X,h3,rfl,?_⟩
   ·rw[y8,y8,e2];simp[xV,S]
   ·rw[y8,e2];omega
 |tup g=>
  unfold Is at hx hy;obtain⟨a,N,rfl,ha,O⟩:=hx;obtain⟨b,ys,rfl,hb,Y⟩:=hy;have lx:=O.length;have ly:=Y.length;have a2:=L _ _ ha;have R:=L _ _ hb;have c2:zK g+1<=50000:=by
   have:Dt.size (.tup g)=1+zK g:=by simp[Dt.size]
   omega
  have b5:g.length<=zK g:=uX g;have C:nbs g=true:=by unfold nb at C;exact C
  refine⟨_,p1,"list","tuple",_,_,_,rfl,SqT.of yB,.tup (j _ _ R),zC _,zS _,_,rfl,onT rfl ?_⟩;refine⟨_,rfl,_,"list",_,_,rfl,.tup (j _ _ a2),zC _,_,rfl,_,"list",_,_,rfl,.tup (j _ _ R),zC _,rfl,_,rfl,onF rfl ?_⟩;refine⟨_,rfl,_,"tuple",_,_,rfl,.tup (j _ _ a2),zS _,_,rfl,_,"tuple",_,_,rfl,.tup (j _ _ R),zS _,rfl,_,rfl,onF rfl ?_⟩;refine⟨_,rfl,a,_,rfl,.inr (SqT.of (j _ _ a2)),_,rfl,b,_,rfl,.inr (SqT.of (j _ _ R)),rfl,_,rfl,onF (by simp[lx,ly]) ?_⟩;refine⟨_,rfl,b,_,rfl,.inr (SqT.of (j _ _ R)),_,rfl,by omega,by omega,?_⟩;have S:Dt.size (.tup g)=1+zK g:=by simp[Dt.size]
  generalize b9:upd H2 p1 (.tup [.ty "list",.ty "tuple"])=H3 at j ⊢;refine z7 (λi D I=>∃ (G:List (Nat×Dt))(kk:Option V),D= [some v,some u,some (.ref B),some (.ref a),some (.ref b),kk]/\xC H0 I/\I B=some (.lst ((c++G).map λq=> .ref q.1))/\(∀q∈c++G,bJD H0 I q)/\G.map (·.2)=g.take i) ?_ ?_ ?_
  ·exact⟨[],k,rfl,L.trans j,by rw[cQO];exact j _ _ a1,λq t=>(a3 q (by simpa using t)).keep λa N e=>j _ _ e,rfl⟩
  ·rintro i D I hi ⟨G,kk,rfl,U,X,h3,W⟩;have J:i<g.length:=by rw[<- ly];omega
   obtain⟨xi,ex,ix⟩:=O.get (bYK J);obtain⟨yi,ey,iy⟩:=Y.get (bYK J);show aVv _ _ _ _;have sa:Sq K I a N:=Sq.same U (.inr ha);have sb:Sq K I b ys:=Sq.same U (.inr hb);refine⟨_,rfl,.inl ⟨rfl,_,SqL.of X⟩,_,rfl,_,rfl,?_⟩;rw[cXV];refine sa.ix ex ⟨_,rfl,_,rfl,?_⟩;refine sb.ix ey ⟨z2,λp hp=>?_⟩;have c3:G.length=i:=by have:=congrArg cXT W;simp at this;omega
   have b7:=jB c;have M:upd I p (.tup [xi,yi]) B=some (.lst ((c++G).map λq=> .ref q.1)):=by rw[yI (yJ X hp)];exact X
   refine⟨B,_,.ref p,rfl,rfl,M,zlt (by simp;omega),G++ [(p,g[i])],_,rfl,zX (U.trans (yG hp _)) a5,?_,?_,?_⟩
   ·rw[yB];simp
   ·intro q t;rw[<- cQ1,cQp]at t;rcases t with t|t
    ·exact(h3 q t).keep λa N e=>wT M _ _ (jC hp _ _ e)
    ·rw[bY2.mp t];exact⟨xi,yi,wT M _ _ yB,ix,iy,aJN J C⟩
   ·rw[cQ5,W,cQN,bYK J];rfl
  ·rintro D I ⟨G,kk,rfl,U,X,h3,W⟩;have e1:g.take ((ys.length:Nat):Int).toNat=g:=by rw[cQm,ly,cQI]
   rw[e1]at W;have e2:=vH W;refine⟨xV (c++G),?_,c++G,some (.ref a),some (.ref b),kk,rfl,U,X,h3,rfl,?_⟩
   ·rw[y8,y8,e2];simp[xV,S]
   ·rw[y8,e2];omega
end
end Alike
namespace Alike
open PySem L2 PyProof.Rows
open Bk (Row Rows x2 xP Ans)
open Desk (xH vI stV x0)
def vDt:V->Dt
 |.int n=> .int n
 |.str x=> .str x
 |_=> .non
def aJp(v:V):Prop:=v= .non\/(∃n,v= .int n)\/∃x,v= .str x
def aJp.is{H:Hp}{v:V}(h:aJp v):Is H v (vDt v):=by
 rcases h with rfl|⟨n,rfl⟩|⟨x,rfl⟩
 ·show Is H .non .non;unfold Is;rfl
 ·show Is H (.int n) (.int n);unfold Is;rfl
 ·show Is H (.str x) (.str x);unfold Is;rfl
def v8{H:Hp}:∀ {xs:List V},(∀v∈xs,aJp v)->zY H xs (xs.map vDt)
 |[],_=>by show zY H [] [];unfold zY;trivial
 |x::xs,h=>by show zY H (x::xs) (vDt x::xs.map vDt);unfold zY;exact⟨(h x bY0).is,v8 λv a=>h v (bYX _ a)⟩
def wN{H:Hp}{α:Type}{F:V->α->Prop}{g:α->Dt}(b:∀v a,F v a->Is H v (g a)):∀ {vs:List V} {c:List α},cQA F vs c->zY H vs (c.map g)
 |_,_,.nil=>by show zY H [] [];unfold zY;trivial
 |_,_,.cons r t=>by rw[cQy];unfold zY;exact⟨b _ _ r,wN b t⟩
def bYx(v:V):nb (vDt v)=true:=by cases v<;> (unfold vDt;unfold nb;rfl)
def aQx{α:Type}{g:α->Dt}(h:∀a,nb (g a)=true):∀l:List α,nbs (l.map g)=true
 |[]=>by show nbs []=true;unfold nbs;rfl
 |a::l=>by rw[cQy];unfold nbs;rw[h a,aQx h l];rfl
def aWC(e:xP):∀v∈xH e,aJp v:=by cases e<;> simp[xH,aJp]
def aWi(r:Row):∀v∈stV r,aJp v:=by
 intro v a;unfold stV at a;simp only[bYU,List.mem_nil_iff,or_false]at a;rcases a with rfl|rfl|rfl|rfl|rfl|rfl
 ·exact .inr (.inr ⟨_,rfl⟩)
 ·exact .inr (.inl ⟨_,rfl⟩)
 ·exact .inr (.inr ⟨_,rfl⟩)
 ·exact .inr (.inl ⟨_,rfl⟩)
 ·cases r.link with
  |none=>exact .inl rfl
  |some j=>exact .inr (.inl ⟨_,rfl⟩)
 ·unfold Desk.X2;split
  ·exact .inl rfl
  ·exact .inr (.inr ⟨_,rfl⟩)
def aXl(e:xP):Dt:= .tup ((xH e).map vDt)
def jU:Ans->Dt
 |.num n=> .int n
 |.txt x=> .str x
 |.nums l=> .lst (l.map λi=> .int (i:Nat))
 |.txts l=> .lst (l.map .str)
 |.row r=> .tup ((stV r).map vDt)
def aQ2(r:Row):Dt:=if r.void then .str "void" else .tup ((stV r).map vDt)
def aYc{H:Hp}{p:Nat}{xs:List V}(h:H p=some (.tup xs))(k:∀v∈xs,aJp v):Is H (.ref p) (.tup (xs.map vDt)):=by
 unfold Is;exact⟨p,xs,rfl,h,v8 k⟩
def bJX{H:Hp}{p:Nat}{e:xP}(h:H p=some (.tup (xH e))):Is H (.ref p) (aXl e):=aYc h (aWC e)
def bJc{o:List Nat}{H:Hp}{a:Ans}{v:V}(h:vI o H a v):Is H v (jU a):=by
 cases a with
 |num n=>show Is H v (.int n);unfold Is;exact h
 |txt x=>show Is H v (.str x);unfold Is;exact h
 |nums l=>
  obtain⟨p,e,_,q⟩:=h;show Is H v (.lst (l.map λi=> .int (i:Nat)));unfold Is;refine⟨p,_,e,q,?_⟩;have:=v8 (H:=H) (xs:=l.map λi=>V.int (i:Nat)) λv b=>by obtain⟨i,_,rfl⟩:=cQQ.mp b;exact .inr (.inl ⟨_,rfl⟩)
  rw[cXX]at this;exact this
 |txts l=>
  obtain⟨p,e,_,q⟩:=h;show Is H v (.lst (l.map .str));unfold Is;refine⟨p,_,e,q,?_⟩;have:=v8 (H:=H) (xs:=l.map V.str) λv b=>by obtain⟨i,_,rfl⟩:=cQQ.mp b;exact .inr (.inr ⟨_,rfl⟩)
  rw[cXX]at this;exact this
 |row r=>obtain⟨p,e,_,q⟩:=h;subst e;exact aYc q (aWi r)
def aVH{H:Hp}{r:Row}{v:V}(h:x0 H r v):Is H v (aQ2 r):=by
 unfold x0 at h;unfold aQ2;split
 ·rename_i e;rw[if_pos e]at h;unfold Is;exact h
 ·rename_i e;rw[if_neg e]at h;obtain⟨p,e,q⟩:=h;subst e;exact aYc q (aWi r)
def bWM(a:Ans):nb (jU a)=true:=by
 cases a with
 |num n=>show nb (.int n)=true;unfold nb;rfl
 |txt x=>show nb (.str x)=true;unfold nb;rfl
 |nums l=>show nb (.lst (l.map λi=> .int (i:Nat)))=true;unfold nb;exact aQx (λi=>by unfold nb;rfl) l
 |txts l=>show nb (.lst (l.map .str))=true;unfold nb;exact aQx (λi=>by unfold nb;rfl) l
 |row r=>show nb (.tup ((stV r).map vDt))=true;unfold nb;exact aQx bYx _
end Alike
namespace Alike
open PySem L2 PyProof.Rows
open Bk (Row Rows x2 xP Ans)
open Desk (xH vI stV x0 Up Run)
def Q4:∀ (n:Nat)(l:List Nat),l.Nodup->(∀k∈l,k<n)->l.length<=n
 |0,l,_,h=>by
  cases l with
  |nil=>exact bYS _
  |cons a r=>exact absurd (h a bY0) (cXx _)
 |n+1,l,nd,h=>by
  by_cases d:n∈l
  ·have:=Q4 n (l.erase n) (nd.erase n) λk b=>by
    have c:=(cVa nd).mp b;have f:=h k c.2;have e:=c.1;omega
   rw[cVb d]at this;omega
  ·have:=Q4 n l nd λk b=>by
    have f:=h k b;have e:k≠n:=λz=>d (by rw[<- z];exact b);omega
   omega
def w9{α:Type}{g:α->Dt}(h:∀a,(g a).size=1):∀l:List α,zK (l.map g)=l.length
 |[]=>by simp[zK]
 |a::l=>by rw[cQy];show(g a).size+zK (l.map g)=l.length+1;rw[h a,w9 h l];omega
def aV3{α:Type}{g:α->Dt}{c:Nat}:∀ (l:List α),(∀a∈l,(g a).size<=c)->zK (l.map g)<=l.length*c
 |[],_=>by simp[zK]
 |a::l,h=>by rw[cQy,cQK,Nat.succ_mul];show(g a).size+zK (l.map g)<=_;have e:=h a bY0;have f:=aV3 l λb d=>h b (bYX _ d);omega
def bQ2(v:V):(vDt v).size=1:=by cases v<;> simp[vDt,Dt.size]
def aK0(e:xP):(aXl e).size<=5:=by
 have h:(aXl e).size=1+zK ((xH e).map vDt):=by unfold aXl;simp[Dt.size]
 rw[h,w9 bQ2];cases e<;> simp[xH]
def aKC(r:Row):(aQ2 r).size<=7:=by
 unfold aQ2;split
 ·simp[Dt.size]
 ·have h:Dt.size (.tup ((stV r).map vDt))=1+zK ((stV r).map vDt):=by simp[Dt.size]
  rw[h,w9 bQ2];simp[stV]
def bWb{R:Rows}(t:Bk.jF R){k:Nat}:(Bk.thr R k).length<=R.length:=by
 obtain⟨d,o,a,b⟩:=Bk.J2 t k;refine Q4 _ _ (a.imp λ{x y} h z=>?_) λj c=>((b j).mp c).1;rw[z,Stree.vQ]at h;cases h
def bWV{R:Rows}{S:List Int}{d:Int}{a:Bool}{l:List Nat}(h:Bk.aKL R S d a l):l.length<=R.length:=by
 refine Q4 _ _ (h.ord.imp λ{x y} h z=>?_) λj b=>((h.mem j).mp b).1;rw[z,Stree.wZ]at h;cases h
def aQy(l:List Nat):(jU (.nums l)).size=1+l.length:=by
 have h:(jU (.nums l)).size=1+zK (l.map λi=>Dt.int (i:Nat)):=by unfold jU;simp[Dt.size]
 rw[h,w9 (λi=>by simp[Dt.size])]
def bQ6{t:Nat}{R j:Rows}{S l:List Int}{e:xP}{a:Ans}(h:x2 R S e a j l)(g:Bk.Y4 R)(f:Up t R S):(jU a).size<=t+7:=by
 have b:∀x:Str,(jU (.txt x)).size=1:=λx=>by unfold jU;simp[Dt.size]
 have d:∀n:Int,(jU (.num n)).size=1:=λn=>by unfold jU;simp[Dt.size]
 have m:=f.r;cases h<;> (try rw[b])<;> (try rw[d])<;> try omega
 case state hk hv=>
  rename_i k r;have h:(jU (.row r)).size=1+zK ((stV r).map vDt):=by unfold jU;simp[Dt.size]
  rw[h,w9 bQ2];simp[stV]
 case thread hk hv=>
  rename_i k r;rw[aQy];have:=bWb g.tree (k:=k);omega
 case copies hk hv=>
  rename_i k r;have h:(jU (.txts r.copies)).size=1+zK (r.copies.map Dt.str):=by unfold jU;simp[Dt.size]
  rw[h,w9 (λi=>by simp[Dt.size])];have:=f.c r (bY3 hk);omega
 case letters=>
  rw[aQy];refine cQo (Nat.add_le_add_left (cQL _ _) 1) ?_;rw[cQE];omega
 case on h=>
  rw[aQy];have:=bWV h;omega
def aZ2:∀ (n:Nat) {f:List xP} {j:List Ans} {b:Rows} {i:List Int},f.length=n->(∀e∈f,Desk.Wf e)->Run [] [] f j b i->Up n b i/\Bk.Y4 b/\∀a∈j,(jU a).size<=n+7
 |0,f,j,b,i,hn,hw,h=>by
  rcases h.inv with⟨_,rfl,rfl,rfl⟩|⟨_,_,_,_,_,_,rfl,_⟩
  ·exact⟨⟨bYS _,bYS _,λr h=>by simp at h⟩,Bk.aXA,λa h=>by simp at h⟩
  ·simp at hn
 |n+1,f,j,b,i,hn,hw,h=>by
  rcases h.inv with⟨rfl,_⟩|⟨p,e,u,a,y,z,rfl,rfl,g,d⟩
  ·simp at hn
  ·obtain⟨m,l,q⟩:=aZ2 n (by simpa using hn) (λe v=>hw e (cXI _ v)) g;have k:=hw e (by simp);refine⟨m.done d,Bk.x2.book l (λo d w t s=>by subst s;exact k) d,λx c=>?_⟩;rcases cQp.mp c with c|c
   ·have:=q x c;omega
   ·rw[bY2.mp c];have:=bQ6 d l m;omega
end Alike
namespace Alike
open PySem L2 PyProof.Rows
open Law (xF)
abbrev aQO:Stmt:=xF "_law_unturned"
abbrev sAt:Stmt:=xF "_law_at"
inductive aV6(K:bYM)(vs:List V)(H:Hp)(Q:VK)(_:XK):Prop|mk (a:Nat) (ns:List Int) (k:Nat) (_:vs= [.ref a,.int (k:Int)]) (_:SqL K H a (ns.map V.int)) (_:Q (.int (ns.getD k 0)) H)
section
variable {K:bYM}
def bVL:yN ["_law_script","_law_k"] ["_law_script","_law_k"] (yH sAt):=scM
seal PE PA PS PSs PT in
def bJ8(T:vJ mg)(F:Fun K "_law_at" "_law_at" sAt f fd):xE P w K mg base CX0 1 f fd ["_law_script","_law_k"] (aV6 K):=by
 have j:=bVL;refine F.ok (k:=0) j (λl A outer s H m Q E n h=>?_);obtain⟨a,b,k,rfl,i,q⟩:=h;refine⟨_,(yC (y7 (yM vL (pv 1) (yQ yO rfl T.b_len xB (yA (pv 0) yD))) (yF (yP (yL yK (pv 0) (pv 1)))) yS) (yF (yP yE))),?_⟩;refine⟨_,rfl,_,rfl,a,_,rfl,.inl i,_,_,rfl,rfl,_,rfl,?_⟩;refine qB (λc=>?_) (λc=>?_)
 ·have d:=of_decide_eq_true c;have g:k<b.length:=by rw[bYP]at d;omega
  refine⟨_,rfl,_,rfl,a,_,_,.int (b.getD k 0),rfl,rfl,i,yT ?_,q⟩;simp[bY5,cQv,bYK g]
 ·have d:=of_decide_eq_false (Bool.eq_false_iff.mpr c);have g:¬k<b.length:=by rw[bYP]at d;omega
  have e:b.getD k 0=0:=by simp[cQv,cQl (show b.length<=k by omega)]
  rw[e]at q;exact q
end
def aJo(a H:Hp)(q:Nat×Dt):Prop:=∃x y,H q.1=some (.tup [x,y])/\Is a x q.2/\Is a y q.2
def aJo.keep{c H b:Hp}{q:Nat×Dt}(p:aJo c H q)(k:∀a d,H a=some (.tup d)->b a=some (.tup d)):aJo c b q:=let ⟨x,y,h,r⟩:=p;⟨x,y,k _ _ h,r⟩
def WUU(c:Hp)(v u:V)(b:Nat)(m:Nat)(σ:L2.St)(H:Hp):Prop:=∃a l r k,σ= [some v,some u,some (.ref b),l,r,k]/\xC c H/\H b=some (.lst (a.map λq=> .ref q.1))/\(∀q∈a,aJo c H q)/\m=xV a/\xV a<=1000
inductive aXx(vs:List V)(H:Hp)(Q:VK)(_:XK):Prop|mk (v u d) (_:vs= [v,u]) (_:Is H v d) (_:Is H u d) (_:d.size<=1000) (_:∀H',xC H H'->Q (.bl true) H')
section
variable {K:bYM}
def aVq:yN ["_law_found","_law_due","_law_todo","_law_left","_law_right","_law_k"] ["_law_found","_law_due"] (yH aQO):=scM
seal PE PA PS PSs PT in
def aJY(T:vJ mg)(F:Fun K "_law_unturned" "_law_unturned" aQO f fd):xE P w K mg base CX0 1 f fd ["_law_found","_law_due"] aXx:=by
 have sc:=aVq;refine F.ok (k:=0) sc (λc6 A outer s H0 vs Q E hr h=>?_);obtain⟨v,u,d,rfl,hv,hu,hd,q⟩:=h;refine⟨_,(yC (yU (i:=2) (y6 (yA (xG (yA (pv 0) (yA (pv 1) yD))) yD))) (yC (uC cQz (yM (vR hr.units0) (pv 2) (y6 yD)) (yC (vE (aYV cQa cJr cJs aYv (pv 2)) (aZV rfl (zE (y9 (i:=3)) (zE (y9 (i:=4)) aQG)))) (yF (y7 (xZ (yQ qT rfl T.b_isinstance yZ (yA (pv 4) (yA (xG (yA (xS (v:= .ty "list") rfl T.b_list z6 rfl) (yA (xS (v:= .ty "tuple") rfl T.b_tuple wV rfl) yD))) yD)))) (yC (y7 (yM Y0 (yQ zA rfl T.b_isinstance yZ (yA (pv 3) (yA (xS (v:= .ty "list") rfl T.b_list z6 rfl) yD))) (yQ zA rfl T.b_isinstance yZ (yA (pv 4) (yA (xS (v:= .ty "list") rfl T.b_list z6 rfl) yD)))) (yF (yP wQ)) yS) (yC (y7 (PW.pt (jW (vF (xZ (yQ qT rfl T.b_isinstance yZ (yA (pv 3) (yA (xG (yA (xS (v:= .ty "list") rfl T.b_list z6 rfl) (yA (xS (v:= .ty "tuple") rfl T.b_tuple wV rfl) yD))) yD))))) (vT (yM Y0 (yQ yO rfl T.b_len xB (yA (pv 3) yD)) (yQ yO rfl T.b_len xB (yA (pv 4) yD)))))) (yF (yP wQ)) yS) (yF (zT cQz rfl (zL rfl T.b_range (yA (yQ yO rfl T.b_len xB (yA (pv 4) yD)) yD)) (y9 (i:=5)) (yF (yY (vM cQa cQh cQi xD (pv 2) (yA (xG (yA (yL aVI (pv 3) (pv 5)) (yA (yL aVI (pv 4) (pv 5)) yD))) yD)))))))) (yF (y7 (PW.pt (jW (yM aXr (pv 3) x6) (vT (yM aXr (pv 4) x6)))) (yF (y7 (PW.pt (jW (yM wA (pv 3) x6) (vT (yM wA (pv 4) x6)))) (yF (yP wQ)) yS)) (yF (y7 (yM Y0 (yQ zA rfl T.b_isinstance yZ (yA (pv 3) (yA (xS (v:= .ty "bool") rfl T.b_bool aJw rfl) yD))) (yQ zA rfl T.b_isinstance yZ (yA (pv 4) (yA (xS (v:= .ty "bool") rfl T.b_bool aJw rfl) yD)))) (yF (yP wQ)) (yF (y7 (yM Y0 (yQ zA rfl T.b_isinstance yZ (yA (pv 3) (yA (xS (v:= .ty "str") rfl T.b_str aZq rfl) yD))) (yQ zA rfl T.b_isinstance yZ (yA (pv 4) (yA (xS (v:= .ty "str") rfl T.b_str aZq rfl) yD)))) (yF (yP wQ)) (yF (y7 (PW.pt (jW (vF (xZ (yQ qT rfl T.b_isinstance yZ (yA (pv 3) (yA (xG (yA (xS (v:= .ty "str") rfl T.b_str aZq rfl) (yA (xS (v:= .ty "int") rfl T.b_int uR rfl) yD))) yD))))) (vT (yM Y0 (pv 3) (pv 4))))) (yF (yP wQ)) yS)))))))))))) (yF (yP wQ)))),?_⟩;refine⟨_,rfl,_,rfl,z2,λp0 b3=>⟨z1,λt b5=>?_⟩⟩;have a6:H0 t=none:=(yG b3 _).fresh b5;refine⟨WUU H0 v u t,⟨d.size,[(p0,d)],none,none,none,rfl,zX (yG b3 _) a6,yB,?_,by simp[xV],by simpa[xV]using hd⟩,?_⟩
 ·intro q j;rw[bY2.mp j];exact⟨v,u,jC b5 _ _ yB,hv,hu⟩
 rintro m σ H ⟨qs,l,r,k,rfl,hk,hT,hP,rfl,a7⟩;refine⟨_,rfl,z0,λpn a1=>?_⟩;have c1:pn≠t:=cQu (yJ hT a1);have a5:upd H pn (.lst []) t=some (.lst (qs.map λq=> .ref q.1)):=by rw[yI (cQu c1)];exact hT
 refine⟨t,pn,_,rfl,rfl,SqL.of a5,SqL.of yB,_,rfl,?_⟩;by_cases b1:qs= []
 ·subst b1;rw[if_neg (by decide)];exact q _ (hk.trans (yG a1 _))
 obtain⟨c,⟨lp,d⟩,rfl⟩:=aZa b1;rw[if_pos (by simp)];refine⟨λB D=>∃m',m'<xV (c++ [(lp,d)])/\WUU H0 v u t m' B D,λB D z=>z,?_⟩;obtain⟨x,y,b7,N,S⟩:=hP (lp,d) (by simp);have a9:((c++ [(lp,d)]).map λq=>V.ref q.1)[((c++ [(lp,d)]).map λq=>V.ref q.1).length - 1]? =some (.ref lp):=by simp
 have b0:((c++ [(lp,d)]).map λq=>V.ref q.1).dropLast=c.map λq=>V.ref q.1:=by simp
 have b4:∀a O,H a=some (.tup O)->upd (upd H pn (.lst [])) t (.lst (c.map λq=>V.ref q.1)) a=some (.tup O):=λa O e=>wT a5 _ _ (jC a1 _ _ e);refine⟨_,rfl,.inl ⟨rfl,_,SqL.of a5⟩,t,_,.ref lp,rfl,rfl,a5,a9,?_⟩;rw[b0];have J:xC H0 (upd (upd H pn (.lst [])) t (.lst (c.map λq=>V.ref q.1))):=zX (hk.trans (yG a1 _)) a6;have a3:upd (upd H pn (.lst [])) t (.lst (c.map λq=>V.ref q.1)) t=some (.lst (c.map λq=> .ref q.1)):=yB;have a4:∀q∈c,aJo H0 (upd (upd H pn (.lst [])) t (.lst (c.map λq=>V.ref q.1))) q:=λq j=>(hP q (by simp[j])).keep b4;have a8:=b4 _ _ b7;generalize c5:upd (upd H pn (.lst [])) t (.lst (c.map λq=>V.ref q.1))=H2 at J a3 a4 a8 ⊢;refine⟨lp,[x,y],rfl,SqT.of a8,rfl,x,[y],rfl,y,[],rfl,rfl,?_⟩;have c4:1<=d.size:=by cases d<;> simp[Dt.size]
 have c7:xV c+d.size<=1000:=by rw[y8]at a7;simpa[xV]using a7
 have hm:xV c<xV (c++ [(lp,d)]):=by rw[y8];simp[xV];omega
 have fin:∀H3,(∀b o,H2 b=some o->H3 b=some o)->∃m',m'<xV (c++ [(lp,d)])/\WUU H0 v u t m' [some v,some u,some (.ref t),some x,some y,k] H3:=λH3 k3=>
  ⟨xV c,hm,c,some x,some y,k,rfl,J.trans k3,k3 _ _ a3,λq j=>(a4 q j).keep λa O e=>k3 _ _ e,rfl,by omega⟩
 refine⟨_,rfl,z2,λp1 b9=>?_⟩;have R:xC H2 (upd H2 p1 (.tup [.ty "list",.ty "tuple"])):=yG b9 _;cases d with
 |non=>
  have ex:x= .non:=by unfold Is at N;exact N
  have ey:y= .non:=by unfold Is at S;exact S
  subst ex;subst ey;refine⟨_,p1,"list","tuple",_,_,_,rfl,SqT.of yB,.non,uL _,vX _,_,rfl,onF rfl ?_⟩;refine⟨_,rfl,rfl,_,rfl,onT rfl (onT rfl ?_)⟩;refine⟨_,rfl,rfl,_,rfl,onF rfl ?_⟩;refine⟨_,rfl,rfl,_,rfl,onF rfl ?_⟩;exact fin _ R
 |bl b=>
  have ex:x= .bl b:=by unfold Is at N;exact N
  have ey:y= .bl b:=by unfold Is at S;exact S
  subst ex;subst ey;refine⟨_,p1,"list","tuple",_,_,_,rfl,SqT.of yB,.bl b,aZG _,aXK _,_,rfl,onF rfl ?_⟩;refine⟨_,rfl,rfl,_,rfl,onF rfl ?_⟩;refine⟨_,rfl,rfl,_,rfl,onF rfl ?_⟩;refine⟨_,rfl,_,"bool",_,_,rfl,.bl b,W0 _,_,rfl,_,"bool",_,_,rfl,.bl b,W0 _,rfl,_,rfl,onF rfl ?_⟩;refine⟨_,rfl,_,"str",_,_,rfl,.bl b,qG _,_,rfl,_,"str",_,_,rfl,.bl b,qG _,rfl,_,rfl,onF rfl ?_⟩;refine⟨_,rfl,z2,λZ G=>?_⟩;refine⟨_,Z,"str","int",_,_,_,rfl,SqT.of yB,.bl b,qG _,aJI _,_,rfl,onF rfl ?_⟩;refine⟨_,rfl,_,rfl,rfl,_,rfl,onF (by simp) ?_⟩;exact fin _ (R.trans (yG G _))
 |int n=>
  have ex:x= .int n:=by unfold Is at N;exact N
  have ey:y= .int n:=by unfold Is at S;exact S
  subst ex;subst ey;refine⟨_,p1,"list","tuple",_,_,_,rfl,SqT.of yB,.int n,aQn _,W1 _,_,rfl,onF rfl ?_⟩;refine⟨_,rfl,rfl,_,rfl,onF rfl ?_⟩;refine⟨_,rfl,rfl,_,rfl,onF rfl ?_⟩;refine⟨_,rfl,_,"bool",_,_,rfl,.int n,qH _,_,rfl,_,"bool",_,_,rfl,.int n,qH _,rfl,_,rfl,onF rfl ?_⟩;refine⟨_,rfl,_,"str",_,_,rfl,.int n,jK _,_,rfl,_,"str",_,_,rfl,.int n,jK _,rfl,_,rfl,onF rfl ?_⟩;refine⟨_,rfl,z2,λZ G=>?_⟩;refine⟨_,Z,"str","int",_,_,_,rfl,SqT.of yB,.int n,jK _,aXo _,_,rfl,onF rfl ?_⟩;refine⟨_,rfl,_,rfl,rfl,_,rfl,onF (by simp) ?_⟩;exact fin _ (R.trans (yG G _))
 |str z=>
  have ex:x= .str z:=by unfold Is at N;exact N
  have ey:y= .str z:=by unfold Is at S;exact S
  subst ex;subst ey;refine⟨_,p1,"list","tuple",_,_,_,rfl,SqT.of yB,.str z,aQp _,W3 _,_,rfl,onF rfl ?_⟩;refine⟨_,rfl,rfl,_,rfl,onF rfl ?_⟩;refine⟨_,rfl,rfl,_,rfl,onF rfl ?_⟩;refine⟨_,rfl,_,"bool",_,_,rfl,.str z,aQo _,_,rfl,_,"bool",_,_,rfl,.str z,aQo _,rfl,_,rfl,onF rfl ?_⟩;refine⟨_,rfl,_,"str",_,_,rfl,.str z,vY _,_,rfl,_,"str",_,_,rfl,.str z,vY _,rfl,_,rfl,onF rfl ?_⟩;refine⟨_,rfl,z2,λZ G=>?_⟩;refine⟨_,Z,"str","int",_,_,_,rfl,SqT.of yB,.str z,vY _,aWJ _,_,rfl,onF rfl ?_⟩;refine⟨_,rfl,_,rfl,rfl,_,rfl,onF (by simp) ?_⟩;exact fin _ (R.trans (yG G _))
 |lst g=>
  unfold Is at N S;obtain⟨a,O,rfl,ha,U⟩:=N;obtain⟨b,ys,rfl,hb,a0⟩:=S;have lx:=U.length;have ly:=a0.length;have a2:=J _ _ ha;have b2:=J _ _ hb;have c2:zK g+1<=1000:=by
   have:Dt.size (.lst g)=1+zK g:=by simp[Dt.size]
   omega
  have b6:g.length<=zK g:=uX g;refine⟨_,p1,"list","tuple",_,_,_,rfl,SqT.of yB,.lst (R _ _ b2),x8 _,z8 _,_,rfl,onT rfl ?_⟩;refine⟨_,rfl,_,"list",_,_,rfl,.lst (R _ _ a2),x8 _,_,rfl,_,"list",_,_,rfl,.lst (R _ _ b2),x8 _,rfl,_,rfl,onF rfl ?_⟩;refine⟨_,rfl,z2,λZ G=>?_⟩;have I:=R.trans (yG G (.tup [.ty "list",.ty "tuple"]));refine⟨_,Z,"list","tuple",_,_,_,rfl,SqT.of yB,.lst (I _ _ a2),x8 _,z8 _,_,rfl,onF rfl ?_⟩;refine⟨_,rfl,a,_,rfl,.inl (SqL.of (I _ _ a2)),_,rfl,b,_,rfl,.inl (SqL.of (I _ _ b2)),rfl,_,rfl,onF (by simp[lx,ly]) ?_⟩;refine⟨_,rfl,b,_,rfl,.inl (SqL.of (I _ _ b2)),_,rfl,by omega,by omega,?_⟩;have W:Dt.size (.lst g)=1+zK g:=by simp[Dt.size]
  generalize c0:upd (upd H2 p1 (.tup [.ty "list",.ty "tuple"])) Z (.tup [.ty "list",.ty "tuple"])=H3 at I ⊢;refine z7 (λi B D=>∃ (C:List (Nat×Dt))(kk:Option V),B= [some v,some u,some (.ref t),some (.ref a),some (.ref b),kk]/\xC H0 D/\D t=some (.lst ((c++C).map λq=> .ref q.1))/\(∀q∈c++C,aJo H0 D q)/\C.map (·.2)=g.take i) ?_ ?_ ?_
  ·exact⟨[],k,rfl,J.trans I,by rw[cQO];exact I _ _ a3,λq j=>(a4 q (by simpa using j)).keep λa O e=>I _ _ e,rfl⟩
  ·rintro i B D hi ⟨C,kk,rfl,X,h2,h3,Y⟩;have M:i<g.length:=by rw[<- ly];omega
   obtain⟨xi,ex,ix⟩:=U.get (bYK M);obtain⟨yi,ey,iy⟩:=a0.get (bYK M);show aVv _ _ _ _;have sa:Sq K D a O:=Sq.same X (.inl ha);have sb:Sq K D b ys:=Sq.same X (.inl hb);refine⟨_,rfl,.inl ⟨rfl,_,SqL.of h2⟩,_,rfl,_,rfl,?_⟩;rw[cXV];refine sa.ix ex ⟨_,rfl,_,rfl,?_⟩;refine sb.ix ey ⟨z2,λp hp=>?_⟩;have c3:C.length=i:=by have:=congrArg cXT Y;simp at this;omega
   have b8:=jB c;have L:upd D p (.tup [xi,yi]) t=some (.lst ((c++C).map λq=> .ref q.1)):=by rw[yI (yJ h2 hp)];exact h2
   refine⟨t,_,.ref p,rfl,rfl,L,zlt (by simp;omega),C++ [(p,g[i])],_,rfl,zX (X.trans (yG hp _)) a6,?_,?_,?_⟩
   ·rw[yB];simp
   ·intro q j;rw[<- cQ1,cQp]at j;rcases j with j|j
    ·exact(h3 q j).keep λa O e=>wT L _ _ (jC hp _ _ e)
    ·rw[bY2.mp j];exact⟨xi,yi,wT L _ _ yB,ix,iy⟩
   ·rw[cQ5,Y,cQN,bYK M];rfl
  ·rintro B D ⟨C,kk,rfl,X,h2,h3,Y⟩;have e1:g.take ((ys.length:Nat):Int).toNat=g:=by rw[cQm,ly,cQI]
   rw[e1]at Y;have e2:=vH Y;refine⟨xV (c++C),?_,c++C,some (.ref a),some (.ref b),kk,rfl,X,h2,h3,rfl,?_⟩
   ·rw[y8,y8,e2];simp[xV,W]
   ·rw[y8,e2];omega
 |tup g=>
  unfold Is at N S;obtain⟨a,O,rfl,ha,U⟩:=N;obtain⟨b,ys,rfl,hb,a0⟩:=S;have lx:=U.length;have ly:=a0.length;have a2:=J _ _ ha;have b2:=J _ _ hb;have c2:zK g+1<=1000:=by
   have:Dt.size (.tup g)=1+zK g:=by simp[Dt.size]
   omega
  have b6:g.length<=zK g:=uX g;refine⟨_,p1,"list","tuple",_,_,_,rfl,SqT.of yB,.tup (R _ _ b2),zC _,zS _,_,rfl,onT rfl ?_⟩;refine⟨_,rfl,_,"list",_,_,rfl,.tup (R _ _ a2),zC _,_,rfl,_,"list",_,_,rfl,.tup (R _ _ b2),zC _,rfl,_,rfl,onF rfl ?_⟩;refine⟨_,rfl,z2,λZ G=>?_⟩;have I:=R.trans (yG G (.tup [.ty "list",.ty "tuple"]));refine⟨_,Z,"list","tuple",_,_,_,rfl,SqT.of yB,.tup (I _ _ a2),zC _,zS _,_,rfl,onF rfl ?_⟩;refine⟨_,rfl,a,_,rfl,.inr (SqT.of (I _ _ a2)),_,rfl,b,_,rfl,.inr (SqT.of (I _ _ b2)),rfl,_,rfl,onF (by simp[lx,ly]) ?_⟩;refine⟨_,rfl,b,_,rfl,.inr (SqT.of (I _ _ b2)),_,rfl,by omega,by omega,?_⟩;have W:Dt.size (.tup g)=1+zK g:=by simp[Dt.size]
  generalize c0:upd (upd H2 p1 (.tup [.ty "list",.ty "tuple"])) Z (.tup [.ty "list",.ty "tuple"])=H3 at I ⊢;refine z7 (λi B D=>∃ (C:List (Nat×Dt))(kk:Option V),B= [some v,some u,some (.ref t),some (.ref a),some (.ref b),kk]/\xC H0 D/\D t=some (.lst ((c++C).map λq=> .ref q.1))/\(∀q∈c++C,aJo H0 D q)/\C.map (·.2)=g.take i) ?_ ?_ ?_
  ·exact⟨[],k,rfl,J.trans I,by rw[cQO];exact I _ _ a3,λq j=>(a4 q (by simpa using j)).keep λa O e=>I _ _ e,rfl⟩
  ·rintro i B D hi ⟨C,kk,rfl,X,h2,h3,Y⟩;have M:i<g.length:=by rw[<- ly];omega
   obtain⟨xi,ex,ix⟩:=U.get (bYK M);obtain⟨yi,ey,iy⟩:=a0.get (bYK M);show aVv _ _ _ _;have sa:Sq K D a O:=Sq.same X (.inr ha);have sb:Sq K D b ys:=Sq.same X (.inr hb);refine⟨_,rfl,.inl ⟨rfl,_,SqL.of h2⟩,_,rfl,_,rfl,?_⟩;rw[cXV];refine sa.ix ex ⟨_,rfl,_,rfl,?_⟩;refine sb.ix ey ⟨z2,λp hp=>?_⟩;have c3:C.length=i:=by have:=congrArg cXT Y;simp at this;omega
   have b8:=jB c;have L:upd D p (.tup [xi,yi]) t=some (.lst ((c++C).map λq=> .ref q.1)):=by rw[yI (yJ h2 hp)];exact h2
   refine⟨t,_,.ref p,rfl,rfl,L,zlt (by simp;omega),C++ [(p,g[i])],_,rfl,zX (X.trans (yG hp _)) a6,?_,?_,?_⟩
   ·rw[yB];simp
   ·intro q j;rw[<- cQ1,cQp]at j;rcases j with j|j
    ·exact(h3 q j).keep λa O e=>wT L _ _ (jC hp _ _ e)
    ·rw[bY2.mp j];exact⟨xi,yi,wT L _ _ yB,ix,iy⟩
   ·rw[cQ5,Y,cQN,bYK M];rfl
  ·rintro B D ⟨C,kk,rfl,X,h2,h3,Y⟩;have e1:g.take ((ys.length:Nat):Int).toNat=g:=by rw[cQm,ly,cQI]
   rw[e1]at Y;have e2:=vH Y;refine⟨xV (c++C),?_,c++C,some (.ref a),some (.ref b),kk,rfl,X,h2,h3,rfl,?_⟩
   ·rw[y8,y8,e2];simp[xV,W]
   ·rw[y8,e2];omega
end
end Alike
namespace Alike
open PySem L2 PyProof.Rows
open Bk (Row Rows x2 xP Ans)
open Desk (xH vI stV x0 Up Run zG Wf jA v5)
open Law (xF LGo LBk xA aXw uO)
open Thr (wF)
def aVF{H:Hp}{α:Type}{g:α->Dt}:∀ {vs:List V} {b:List α},vs.length=b.length->(∀ (i:Nat) v a,vs[i]? =some v->b[i]? =some a->Is H v (g a))->zY H vs (b.map g)
 |[],[],_,_=>by show zY H [] [];unfold zY;trivial
 |v::vs,a::b,hl,h=>by rw[cQy];unfold zY;exact⟨h 0 v a rfl rfl,aVF (by simpa using hl) λi v a c d=>h (i+1) v a c d⟩
 |[],_::_,hl,_=>by simp at hl
 |_::_,[],hl,_=>by simp at hl
def aZC{H:Hp}{p:Nat}{vs:List V}{ds:List Dt}(h:H p=some (.lst vs))(k:zY H vs ds):Is H (.ref p) (.lst ds):=by
 unfold Is;exact⟨p,vs,rfl,h,k⟩
def aVG{H:Hp}{ds:Nat}{b:List Nat}{f:List xP}(h:zG H ds b f):Is H (.ref ds) (.lst (f.map aXl)):=
 aZC h.1 (aVF (by rw[bYP];exact h.2.1) λi v e a g=>by
  rw[bY5]at a;cases c:b[i]? with
  |none=>rw[c]at a;cases a
  |some d=>
   rw[c]at a;cases a;exact bJX (h.2.2 i d e c g))
def bWN{α:Type}{g:α->Dt}(h:∀a,nb (g a)=true)(l:List α):nb (.lst (l.map g))=true:=by unfold nb;exact aQx h l
def aX7{α:Type}{g:α->Dt}{c n:Nat}{l:List α}(h:∀a∈l,(g a).size<=c)(hl:l.length<=n):Dt.size (.lst (l.map g))<=1+n*c:=by
 have b:Dt.size (.lst (l.map g))=1+zK (l.map g):=by simp[Dt.size]
 have e:=aV3 l h;have d:l.length*c<=n*c:=Nat.mul_le_mul_right _ hl;omega
def Run.cut:∀ (n:Nat) {R c:Rows} {S b:List Int} {f fs:List xP} {cs:List Ans},fs.length=n->Run R S (f++fs) cs c b->∃d bs i j,cs=d++bs/\Run R S f d i j/\Run i j fs bs c b
 |0,R,c,S,b,f,fs,cs,hn,h=>by have e:fs= []:=cXz hn;subst e;rw[cQO]at h;exact⟨cs,[],c,b,by rw[cQO],h,.nil⟩
 |n+1,R,c,S,b,f,fs,cs,hn,h=>by
  obtain⟨x,g,rfl⟩:=aZa (l:=fs) (by intro z;rw[z]at hn;cases hn);rcases Desk.Run.inv h with⟨z,_⟩|⟨l,e,o,a,i,j,k,s,v,p⟩
  ·rw[<- cQ1]at z;simp at z
  ·rw[<- cQ1]at k;obtain⟨r,q⟩:=cZV k rfl;cases q;subst r;obtain⟨d,bs,R2,u,w,m,t⟩:=Run.cut n (by simpa using hn) v;exact⟨d,bs++ [a],R2,u,by rw[s,w,cQ1],m,.snoc t p⟩
abbrev aJ8:Stmt:=xF "_law_book_of"
abbrev aXZ:Stmt:=xF "_law_standing_of"
inductive aV7(vs:List V)(H:Hp)(Q:VK)(_:XK):Prop|mk (ds:Nat) (das:List Nat) (es:List xP) (_:vs= [.ref ds]) (_:zG H ds das es) (_:es.length<=60) (_:(∀e∈es,Wf e)) (_:∀ (t ra sa:Nat)(H':Hp)(rs:List Nat)(as:List Ans),LGo H ra sa es as H' rs->H' t=some (.tup [.ref ra,.ref sa])->Q (.ref t) H')
inductive aJe(vs:List V)(H:Hp)(Q:VK)(_:XK):Prop|mk (ra:Nat) (rs:List Nat) (R:Rows) (_:vs= [.ref ra]) (_:xA H ra rs R) (_:R.length<=60) (_:∀ (d:Nat)(H':Hp)(ws:List V),xC H H'->H d=none->H' d=some (.lst ws)->cQA (λv r=>x0 H' r v) ws R->Q (.ref d) H')
section
variable {K:bYM}
def bQs:yN ["_law_deeds","_law_rows","_law_shut","_law_deed"] ["_law_deeds"] (yH aJ8):=scM
seal PE PA PS PSs PT in
def aYF(a:FnG P w K mg base n "_law_done_by" ["_law_rows","_law_shut","_law_deed"] aXw)(F:Fun K "_law_book_of" "_law_book_of" aJ8 f fd):xE P w K mg base CX0 (n+1) f fd ["_law_deeds"] aV7:=by
 have R:=bQs;refine F.ok (k:=n) R (λS A outer s M W Q E U h=>?_);obtain⟨N,o,p,rfl,e,hl,D,q⟩:=h;refine⟨_,(yC (yU (i:=1) (y6 yD)) (yC (yU (i:=2) (y6 yD)) (yC (zT cQz rfl (xL (pv 0)) (y9 (i:=3)) (yF (yY (xJ a U rfl (yA (pv 1) (yA (pv 2) (yA (pv 3) yD))))))) (yF (yP (xG (yA (pv 1) (yA (pv 2) yD)))))))),?_⟩;refine⟨z0,λz C=>?_⟩;dsimp only[yW];refine⟨z0,λu G=>?_⟩;dsimp only[yW];have I:=LGo.start C G;generalize upd (upd M z (.lst [])) u (.lst [])=H6 at I ⊢;refine⟨_,rfl,N,rfl,⟨_,SqL.of (I.keep _ _ e.1)⟩,?_⟩;refine zJ (xs:=o.map V.ref) (λt σ y=>∃ (j:List Nat)(c:List Ans)(B:Option V),σ= [some (.ref N),some (.ref z),some (.ref u),B]/\LGo M z u (p.take t) c y j) ?_ ?_ ?_ ?_
 ·exact⟨[],[],none,rfl,I⟩
 ·rintro t σ y J ⟨j,c,B,rfl,g⟩;exact SqL.of (g.keep _ _ e.1)
 ·rintro t x σ y m ⟨j,c,B,rfl,g⟩;rw[bY5]at m;cases r:o[t]? with
  |none=>rw[r]at m;cases m
  |some d=>
   rw[r]at m;cases m;have l:t<p.length:=by rw[<- e.2.1];exact(bYW.mp r).1
   have L:=bYK l;dsimp only[yW];refine⟨_,rfl,_,rfl,_,rfl,g.step (D _ (cXQ l)) (by rw[cQ4];omega) (g.keep _ _ (e.2.2 t d _ r L)) λb v Y H T X av Z=>?_⟩;have O:p.take (t+1)=p.take t++ [p[t]]:=by rw[cQN,L];rfl
   exact⟨H,c++ [b],_,rfl,by rw[O];exact T⟩
 rintro σ y ⟨j,c,B,rfl,g⟩;rw[bYP,e.2.1,cQI]at g;dsimp only[aJg];refine⟨_,rfl,_,rfl,z2,λt J=>?_⟩;exact q t z u _ j c (g.same (yG J _)) yB
def aKw:yN ["_law_rows","_law_made","_law_row"] ["_law_rows"] (yH aXZ):=scM
seal PE PA PS PSs PT in
def aKb(T:vJ mg)(F:Fun K "_law_standing_of" "_law_standing_of" aXZ f fd):xE P w K mg base CX0 1 f fd ["_law_rows"] aJe:=by
 have sc:=aKw;refine F.ok (k:=0) sc (λa8 A outer s Z vs Q E hr h=>?_);obtain⟨ra,rs,R,rfl,I,a9,q⟩:=h;refine⟨_,(yC (yU (i:=1) (y6 yD)) (yC (zT cQz rfl (xL (pv 0)) (y9 (i:=2)) (yF (yY (vM cQa cQh cQi xD (pv 1) (yA (yL yK (y6 (yA (x5 qU rfl T.b_tuple wV (yA (Q5 aX8 (pv 2) aJ2 (aQH yE)) yD)) (yA yR yD))) (x5 vB rfl T.b_int uR (yA (yL yK (pv 2) yE) yD))) yD))))) (yF (yP (pv 1))))),?_⟩;refine⟨z0,λu n=>?_⟩;dsimp only[yW];have k8:=yG n (.lst []);refine⟨_,rfl,ra,rfl,⟨_,SqL.of (k8 _ _ I.lst)⟩,?_⟩;refine zJ (xs:=rs.map V.ref) (λt σ g=>∃ (m:List V)(O:Option V),σ= [some (.ref ra),some (.ref u),O]/\xC Z g/\g u=some (.lst m)/\cQA (λv r=>x0 g r v) m (R.take t)) ?_ ?_ ?_ ?_
 ·exact⟨[],none,rfl,k8,yB,.nil⟩
 ·rintro t σ g ht ⟨m,O,rfl,y,c,d⟩;exact SqL.of (y _ _ I.lst)
 ·rintro t x σ g D ⟨m,O,rfl,y,c,d⟩;rw[bY5]at D;cases N:rs[t]? with
  |none=>rw[N]at D;cases D
  |some b=>
   rw[N]at D;cases D;have X:t<R.length:=by rw[<- I.len];exact(bYW.mp N).1
   have J:=bYK X;obtain⟨l,e1,e2⟩:=I.row t b _ N J;have b9:g b=some (.lst (uO R[t] l)):=y _ _ e1;have b0:m.length=t:=by rw[cXt d,cQ4];omega
   dsimp only[yW];refine⟨_,rfl,.inl ⟨rfl,_,SqL.of c⟩,_,rfl,_,rfl,b,_,rfl,SqL.of b9,λM W=>⟨M,_,rfl,.inl ⟨SqL.of yB,λj a0=>⟨z2,λS a7=>?_⟩⟩⟩⟩;have a2:=yG W (.lst (Z5 (uO R[t] l) none (some 6)));have a3:=yG a0 (.tup (Z5 (uO R[t] l) none (some 6)));have a4:=yG a7 (.lst [.ref j,.str "void"]);have B:=(a2.trans a3).trans a4;have G:=a4 _ _ (yB (H:=upd g M (.lst (Z5 (uO R[t] l) none (some 6)))) (a:=j) (o:= .tup (Z5 (uO R[t] l) none (some 6))));have e4:upd (upd (upd g M (.lst (Z5 (uO R[t] l) none (some 6)))) j (.tup (Z5 (uO R[t] l) none (some 6)))) S (.lst [.ref j,.str "void"]) S=some (.lst [.ref j,.str "void"]):=yB;generalize upd (upd (upd g M (.lst (Z5 (uO R[t] l) none (some 6)))) j (.tup (Z5 (uO R[t] l) none (some 6)))) S (.lst [.ref j,.str "void"])=H10 at B G e4 ⊢;have Y:=B _ _ b9;have U:atI [V.ref j,V.str "void"] (if R[t].void=true then 1 else 0)=some (if R[t].void=true then .str "void" else .ref j):=by cases R[t].void<;> rfl
   refine⟨_,rfl,b,_,6,_,rfl,rfl,SqL.of Y,rfl,.inr ⟨_,rfl,S,_,_,_,rfl,rfl,SqL.of e4,U,u,_,_,rfl,rfl,B _ _ c,zlt (by omega),?_⟩⟩;have C:Z u=none:=n;have a5:∀L,xC Z (upd H10 u (.lst L)):=λL x o e=>by rw[yI (yJ e C)];exact B _ _ (y _ _ e)
   have tk:∀ {x zs L},g x=some (.tup zs)->upd H10 u (.lst L) x=some (.tup zs):=λ{x zs L} e=>by rw[yI (λz=>by rw[z,c]at e;cases e)];exact B _ _ e
   refine⟨m++ [if R[t].void=true then .str "void" else .ref j],_,rfl,a5 _,yB,?_⟩;have et:R.take (t+1)=R.take t++ [R[t]]:=by rw[cQN,J];rfl
   rw[et];refine cZI (Desk.jV (λv r z=>?_) d) ?_
   ·unfold x0 at z ⊢;split
    ·rename_i e;rw[if_pos e]at z;exact z
    ·rename_i e;rw[if_neg e]at z;obtain⟨p,e,q⟩:=z;exact⟨p,e,tk q⟩
   ·unfold x0;cases hv:R[t].void with
    |true=>exact rfl
    |false=>
     have a6:Z5 (uO R[t] l) none (some 6)=stV R[t]:=by unfold stV Desk.Q0 Desk.X2;rw[hv];cases a1:R[t].link<;> (unfold uO;rw[a1];rfl)
     rw[a6]at G;refine⟨j,rfl,?_⟩;rw[yI (λz=>by rw[z,B _ _ c]at G;cases G)];exact G
 rintro σ g ⟨m,O,rfl,y,c,d⟩;rw[bYP,I.len,cQI]at d;exact⟨_,rfl,q u g m y n c d⟩
end
end Alike
namespace Alike
open PySem L2 PyProof.Rows
open Bk (Row Rows x2 xP Ans)
open Desk (xH vI stV x0 Up Run zG Wf jA v5)
open Law (xF LGo LBk xA aZc uO)
open Thr (wF)
def bJK(ns:List Int)(a b:Option Int):∃ms:List Int,Z5 (ns.map V.int) a b=ms.map V.int/\ms.length<=HT.sIx ns.length ns.length b - HT.sIx ns.length 0 a:=by
 refine⟨(ns.drop (HT.sIx ns.length 0 a)).take (HT.sIx ns.length ns.length b - HT.sIx ns.length 0 a),?_,?_⟩
 ·unfold Z5;rw[bYP,List.map_take,List.map_drop]
 ·rw[cQ4];exact Nat.min_le_left _ _
def aKU(ns:List Int)(a b:Nat):∃c:List Int,Z5 (ns.map V.int) (some (a:Int)) (some (b:Int))=c.map V.int/\c.length<=b - a:=by
 obtain⟨c,d,e⟩:=bJK ns (some (a:Int)) (some (b:Int));refine⟨c,d,cQo e ?_⟩;rw[aVc,aVc];omega
def bXb(xs:List V)(m:Nat):Z5 xs (some (m:Int)) none=xs.drop m:=by
 unfold Z5;rw[HT.bZh,aVc];by_cases h:m<=xs.length
 ·rw[Nat.min_eq_left h,List.take_of_length_le (by rw[List.length_drop];exact bYS _)]
 ·rw[Nat.min_eq_right (by omega),List.drop_of_length_le (bYS _),List.drop_of_length_le (by omega)];simp
def bWY{α β:Type}{F:α->β->Prop}:∀ {xs:List α} {d bs:List β},cQA F xs (d++bs)->∃c b,xs=c++b/\cQA F c d/\cQA F b bs
 |xs,[],bs,h=>⟨[],xs,rfl,.nil,h⟩
 |x::xs,a::d,bs,.cons h1 h2=>by obtain⟨c,b,e,g,f⟩:=bWY h2;exact⟨x::c,b,by rw[e];rfl,.cons h1 g,f⟩
def aZt{H:Hp}{das a:List Nat}{es b:List xP}(g:das.length=es.length)(j:∀ (i:Nat)(d:Nat)(e:xP),das[i]? =some d->es[i]? =some e->H d=some (.tup (xH e))) (m:a.length=b.length) (h:∀ (i:Nat)(d:Nat)(e:xP),a[i]? =some d->b[i]? =some e->H d=some (.tup (xH e))) {p:Nat} (l:H p=some (.lst (das.map V.ref++a.map V.ref))):zG H p (das++a) (es++b):=by
 refine⟨by rw[cQ5];exact l,by rw[bY8,bY8,g,m],λi d e c f=>?_⟩;by_cases k:i<das.length
 ·rw[cQs k]at c;rw[cQs (by omega)]at f;exact j i d e c f
 ·rw[cQb (by omega)]at c f;rw[g]at c;exact h _ d e c f
structure Has(K:bYM)(Tb a ds ra sa:Nat)(ns:List Int)(das:List Nat)(es:List xP)(rs:List Nat)(R:Rows)(S:List Int)(H:Hp):Prop where
 s:SqL K H a (ns.map V.int)
 d:zG H ds das es
 b:xA H ra rs R
 sh:H sa=some (.lst (S.map V.int))
 t:wF Tb H
def bWv{H H':Hp}{ra:Nat}{rs:List Nat}{R:Rows}(h:xA H ra rs R)(k:x3 H H'):xA H' ra rs R:=
 ⟨k.lst h.lst,h.len,h.nd,λi b r a c=>let ⟨cp,e1,e2⟩:=h.row i b r a c;⟨cp,k.lst e1,k.lst e2⟩⟩
section
variable {K:bYM}{Tb a ds ra sa:Nat}{ns:List Int}{das:List Nat}{es:List xP}{rs:List Nat}{R:Rows}{S:List Int}{H H':Hp}
def Has.sameT(h:Has K Tb a ds ra sa ns das es rs R S H)(k:x3 H H')(t:wF Tb H'):Has K Tb a ds ra sa ns das es rs R S H':=
 ⟨k.seq h.s,h.d.same k,bWv h.b k,k.lst h.sh,t⟩
def Has.same(h:Has K Tb a ds ra sa ns das es rs R S H)(k:xC H H'):Has K Tb a ds ra sa ns das es rs R S H':=h.sameT k.t (Desk.jR h.t k)
end
def OnE(R:Rows)(S:List Int)(e:xP)(l:List Nat):Prop:=∃a d,e= .on a d/\Bk.aKL R S d a l
def aVX{R i:Rows}{S g:List Int}:∀ (n:Nat) {fs:List xP} {bs:List Ans},fs.length=n->(∀e∈fs,∃b d,e= .on b d)->Run R S fs bs i g->i=R/\g=S/\∃c,bs=c.map .nums/\cQA (OnE R S) fs c
 |0,fs,bs,hn,hf,h=>by
  rcases Desk.Run.inv h with⟨rfl,rfl,rfl,rfl⟩|⟨_,_,_,_,_,_,rfl,_⟩
  ·exact⟨rfl,rfl,[],rfl,.nil⟩
  ·simp at hn
 |n+1,fs,bs,hn,hf,h=>by
  rcases Desk.Run.inv h with⟨rfl,rfl,rfl,rfl⟩|⟨l,e,j,a,q,r,rfl,rfl,o,k⟩
  ·simp at hn
  ·obtain⟨rfl,rfl,c,rfl,m⟩:=aVX n (by simpa using hn) (λe f=>hf e (by simp[f])) o;obtain⟨b,d,rfl⟩:=hf e (by simp);cases k with
   |on p=>exact⟨rfl,rfl,c++ [_],by rw[cQ5];rfl,cZI m ⟨b,d,rfl,p⟩⟩
   |oneN _ f=>rcases f with z|⟨_,z⟩|⟨_,z⟩|⟨_,z⟩|⟨_,z⟩|z|z|z|z<;> cases z
def aYQ{R:Rows}{S:List Int}:∀ {fs:List xP} {ls a:List (List Nat)},cQA (OnE R S) fs ls->cQA (OnE R S) fs a->ls=a
 |_,_,_,.nil,.nil=>rfl
 |_,_,_,.cons ⟨late,d,e,h⟩ r,.cons ⟨late',d',e',h'⟩ r'=>by rw[e]at e';cases e';rw[h.uniq h',aYQ r r']
end Alike
namespace Alike
open PySem L2 PyProof.Rows
open Bk (Row Rows x2 xP Ans)
open Desk (xH vI stV x0 Up Run zG Wf jA v5)
open Law (xF LGo LBk xA aZc uO aQc aWH aJH bJn md0 md1)
open Thr (wF)
def uJ:List Int->List xP
 |[]=> []
 |d::r=> .on false d:: .on true d::uJ r
def aQg:∀ (xs:List Int)(d:Int),uJ (xs++ [d])=uJ xs++ [.on false d,.on true d]
 |[],d=>rfl
 |x::r,d=>by show _::_::uJ (r++ [d])=_;rw[aQg r d];rfl
def aJr:∀ (xs:List Int),∀e∈uJ xs,∃a d,e= .on a d
 |[],e,h=>nomatch h
 |x::r,e,h=>by
  rcases bYU.mp h with rfl|h
  ·exact⟨_,_,rfl⟩
  ·rcases bYU.mp h with rfl|h
   ·exact⟨_,_,rfl⟩
   ·exact aJr r e h
def jG:∀xs:List Int,(uJ xs).length=2*xs.length
 |[]=>rfl
 |x::r=>by show(uJ r).length+1+1=_;rw[jG r,cQK];omega
def aVz(a:Nat)(H:Hp)(v:V)(l:List Nat):Prop:=∃p,v= .ref p/\p≠a/\H p=some (.lst (l.map λi=>V.int (i:Nat)))
abbrev bK3:Stmt:=xF "law"
def bZJ(d:Nat)(K:bYM):Sp:=λe H Q _=>∃ (a:Nat)(b:List Int),e= [.ref a]/\SqL K H a (b.map V.int)/\b.length<=63/\wF d H/\∀c,Q (.bl true) c
section
variable {K:bYM}
def bKc:yN ["_law_script","_law_deeds","_law_rows","_law_shut","_law_handed","_law_found","_law_dates","_law_k","_law_asks","_law_date","_law_told","_law_due"] ["_law_script"] (yH bK3):=scM
seal PE PA PS PSs PT in
def bWT(T:vJ mg)(a6:FnG P w K mg base n "_law_story" ["_law_cells"] aZc)(b0:FnG P w K mg base n "_law_room" ["_law_script","_law_most","_law_bound"] (bJs K))(Y:FnG P w K mg base n "_law_book_of" ["_law_deeds"] aV7) (I:FnG P w K mg base n "_law_standing_of" ["_law_rows"] aJe) (C:FnG P w K mg base n "_law_unturned" ["_law_found","_law_due"] aXx) (a0:FnG P w K mg base n "_law_at" ["_law_script","_law_k"] (aV6 K)) (a5:FnG P w K mg base n "_law_alike" ["_law_found","_law_due"] bQH) (L:FnG P w K mg base n "_law_list_on" ["_law_rows","_law_shut","_law_date","_law_late"] aQc) (Z:FnG P w K mg base n "answers" ["deeds"] (jA Rf)) (W:FnG P w K mg base n "standing" ["deeds"] (v5 Rf)) (F:Fun K "law" "law" bK3 f fd):xE P w K mg base CX0 (n+1) f fd ["_law_script"] (bZJ Rf.2 K):=by
 have sc:=bKc;refine F.ok (k:=n) sc (λj9 A outer s H0 vs Q E N h=>?_);obtain⟨a,ns,rfl,hS,h7,hT,q⟩:=h;refine⟨_,(yC (yU (i:=1) (yL yX (xJ a6 N rfl (yA (Q5 aX8 (pv 0) (aQH yE) (aQH (yV x9 yE (xJ b0 N rfl (yA (pv 0) (yA yE (yA yE yD))))))) yD)) yE)) (yC (vE (xJ Y N rfl (yA (pv 1) yD)) (aZV rfl (zE (y9 (i:=2)) (zE (y9 (i:=3)) aQG)))) (yC (yU (i:=4) (x5 uS rfl T.b_list z6 (yA (pv 1) yD))) (yC (yU (i:=5) (xJ W N rfl (yA (pv 4) yD))) (yC (y7 (vF (xZ (xJ C N rfl (yA (pv 4) (yA (pv 1) yD))))) (yF (yP wQ)) yS) (yC (y7 (vF (xZ (xJ C N rfl (yA (pv 5) (yA (xJ I N rfl (yA (pv 2) yD)) yD))))) (yF (yP wQ)) yS) (yC (yU (i:=6) (y6 yD)) (yC (zT cQz rfl (zL rfl T.b_range (yA yE yD)) (y9 (i:=7)) (yF (yY (vM cQa cQh cQi xD (pv 6) (yA (yV wU (yV y0 (xJ a0 N rfl (yA (pv 0) (yA (pv 7) yD))) yE) yE) yD))))) (yC (y7 (PW.pt (vS (yM (vR N.units0) (pv 2) (y6 yD)) (wR (yM zI (yV y0 (xJ a0 N rfl (yA (pv 0) (yA yE yD))) yE) yE)))) (yF (vE (yV x9 (yL yK (yL yK (pv 2) (yV y0 (xJ a0 N rfl (yA (pv 0) (yA yE yD))) (yQ yO rfl T.b_len xB (yA (pv 2) yD)))) yE) (yV y0 (xJ a0 N rfl (yA (pv 0) (yA yE yD))) yE)) (qD (pv 6) yE zV))) yS) (yC (yU (i:=8) (y6 yD)) (yC (zT cQz rfl (xL (pv 6)) (y9 (i:=9)) (yF (yU (i:=8) (yV aZS (pv 8) (y6 (yA (xG (yA yR (yA (pv 9) yD))) (yA (xG (yA yR (yA (pv 9) yD))) yD))))))) (yC (yU (i:=10) (xJ Z N rfl (yA (yV aZS (pv 1) (pv 8)) yD))) (yC (y7 (PW.pt (jW (vF (xZ (yQ zA rfl T.b_isinstance yZ (yA (pv 10) (yA (xS (v:= .ty "list") rfl T.b_list z6 rfl) yD))))) (vT (yM Y0 (yQ yO rfl T.b_len xB (yA (pv 10) yD)) (yV x9 (yQ yO rfl T.b_len xB (yA (pv 1) yD)) (yQ yO rfl T.b_len xB (yA (pv 8) yD))))))) (yF (yP wQ)) yS) (yC (yU (i:=11) (y6 yD)) (yC (zT cQz rfl (xL (pv 6)) (y9 (i:=9)) (yC (yY (vM cQa cQh cQi xD (pv 11) (yA (xJ L N rfl (yA (pv 2) (yA (pv 3) (yA (pv 9) (yA wQ yD))))) yD))) (yF (yY (vM cQa cQh cQi xD (pv 11) (yA (xJ L N rfl (yA (pv 2) (yA (pv 3) (yA (pv 9) (yA wQ yD))))) yD)))))) (yF (yP (xJ a5 N rfl (yA (Q5 aX8 (pv 10) (aQH (yQ yO rfl T.b_len xB (yA (pv 1) yD))) aJ2) (yA (pv 11) yD)))))))))))))))))))),?_⟩;refine⟨_,rfl,_,rfl,_,rfl,a,ns,20,60,rfl,hS,h7,_,_,rfl,rfl,_,rfl,a,_,rfl,hS,λp hp=>?_⟩;obtain⟨ms,j0,m0⟩:=aKU ns 3 23;have k0:=yG hp (.lst (Z5 (ns.map V.int) (some 3) (some (3+20))));refine⟨p,ms,rfl,yB.trans (congrArg (λz=>some (HO.lst z)) j0),by omega,λH1 t ds us y es vs as R S k1 ht hD j2 hP a7 c9 j3=>?_⟩;have c5:es.length<=23:=by omega
 have g5:=(k0.trans k1).t.seq hS;have T1:=Desk.jR hT (k0.trans k1);refine⟨t,_,0,_,rfl,rfl,SqT.of ht,rfl,?_⟩;dsimp only[yW];refine⟨_,rfl,ds,y,es,rfl,hD,by omega,c9,λt2 ra sa H2 rs cs g f1=>?_⟩;obtain⟨R2,S2,hL,h8,l8,g1⟩:=g.ex;obtain⟨rfl,rfl,rfl⟩:=Run.det es.length rfl a7 g1;have i3:R.length<=23:=cQo h8.r c5;have A2:Has K Rf.2 a ds ra sa ns y es rs R S H2:=⟨g.keep.t.seq g5,hD.same g.keep.t,hL.book,hL.shut,Desk.jR T1 g.keep⟩;clear hD j2 hP ht g5 T1 g hL k1;refine⟨t2,[.ref ra,.ref sa],rfl,SqT.of f1,rfl,.ref ra,[.ref sa],rfl,.ref sa,[],rfl,rfl,?_⟩;dsimp only[yW];refine⟨_,rfl,ds,_,rfl,.inl (SqL.of A2.d.1),λhl d5=>?_⟩;have k2:=yG d5 (.lst (y.map V.ref));have A3:=A2.same k2;have D3:zG (upd H2 hl (.lst (y.map V.ref))) hl y es:=⟨yB,A2.d.2.1,λi d e D U=>k2 _ _ (A2.d.2.2 i d e D U)⟩;generalize upd H2 hl (.lst (y.map V.ref))=H3 at A3 D3 ⊢;dsimp only[yW];refine⟨_,rfl,hl,y,es,rfl,D3,by omega,c9,A3.t,λl H4 ws bs R2 S2 k4 T4 e0 l9 f0 f7=>?_⟩;obtain⟨-,rfl, -⟩:=Run.det es.length rfl a7 e0;have A4:=A3.sameT k4 T4;have D4:=D3.same k4;dsimp only[yW];refine⟨_,rfl,_,rfl,.ref hl,.ref ds,.lst (es.map aXl),rfl,aVG D4,aVG A4.d,cQo (aX7 (n:=23) (c:=5) (λe _=>aK0 e) c5) (by decide),λH5 k5=>⟨_,rfl,onF rfl ?_⟩⟩;have A5:=A4.same k5;refine⟨_,rfl,_,rfl,ra,rs,R,rfl,A5.b,by omega,λd1 H6 k3 k6 l3 f6 g2=>?_⟩;have A6:=A5.same k6;refine⟨.ref l,.ref d1,.lst (R.map aQ2),rfl,aZC (k6 _ _ (k5 _ _ f0)) (wN (F:=λv r=>x0 H6 r v) (λv r z=>aVH z) (Desk.jV (λv r z=>(z.same k5.t).same k6.t) f7)),aZC f6 (wN (λv r z=>aVH z) g2),cQo (aX7 (n:=23) (c:=7) (λr _=>aKC r) i3) (by decide),λH7 k7=>⟨_,rfl,onF rfl ?_⟩⟩;have A7:=A6.same k7;clear A2 A3 A4 A5 A6 D3 D4 f7 g2 f0 f6 k4 k5 k6 k7 k2 d5 f1;refine⟨z0,λda d2=>?_⟩;dsimp only[yW];have k8:=yG d2 (.lst []);refine⟨_,rfl,by decide,by decide,?_⟩;refine z7 (n:=3) (λt σ H=>∃ (B:List Int)(o7:Option V),σ= [some (.ref a),some (.ref ds),some (.ref ra),some (.ref sa),some (.ref hl),some (.ref l),some (.ref da),o7,none,none,none,none]/\xC H7 H/\H da=some (.lst (B.map V.int))/\B.length=t) ?_ ?_ ?_
 ·exact⟨[],none,rfl,k8,yB,rfl⟩
 ·rintro i σ H hi ⟨B,o7,rfl,k9,hx,a2⟩;rw[cXV];dsimp only[yW];refine⟨_,rfl,.inl ⟨rfl,_,SqL.of hx⟩,_,rfl,_,rfl,a,ns,i,rfl,k9.t.seq A7.s,_,_,rfl,rfl,(show(0:Int)<34 by decide),_,_,rfl,rfl,da,_,_,rfl,rfl,hx,zlt (by rw[bYP];omega),?_⟩;exact⟨B++ [ns.getD i 0 % 34 - 2],_,rfl,λx o e=>by rw[yI (yJ e d2)];exact k9 _ _ e,by rw[yB,cQ5];rfl,by rw[bY8,a2];rfl⟩
 rintro σ H8 ⟨e8,o7,rfl,k9,d9,a9⟩;dsimp only[aJg];refine zF (λσ' H'=>∃B:List Int,σ'= [some (.ref a),some (.ref ds),some (.ref ra),some (.ref sa),some (.ref hl),some (.ref l),some (.ref da),o7,none,none,none,none]/\xC H7 H'/\H' da=some (.lst (B.map V.int))/\B.length=3) ?jX (λb7=>?_);case jX=>
  rintro σ' H9 ⟨B,rfl,G,hx,a2⟩;have A9:=A7.same G;refine⟨z0,λq0 i9=>?_⟩;dsimp only[yW];have f3:=yG i9 (.lst []);refine⟨_,rfl,da,rfl,⟨_,SqL.of (f3 _ _ hx)⟩,?_⟩;refine zJ (xs:=B.map V.int) (λt σ H=>∃ (qa:Nat)(M:List Nat)(o9:Option V),σ= [some (.ref a),some (.ref ds),some (.ref ra),some (.ref sa),some (.ref hl),some (.ref l),some (.ref da),o7,some (.ref qa),o9,none,none]/\xC H9 H/\zG H qa M (uJ (B.take t))) ?_ ?_ ?_ ?_
  ·exact⟨q0,[],none,rfl,f3,yB,rfl,λi d e h=>by simp at h⟩
  ·rintro t σ H ht ⟨qa,M,o9,rfl,a1,hq⟩;exact SqL.of (a1 _ _ hx)
  ·rintro t x σ H J ⟨qa,M,o9,rfl,a1,hq⟩;rw[bY5]at J;cases hd:B[t]? with
   |none=>rw[hd]at J;cases J
   |some d=>
    rw[hd]at J;cases J;have h0:t<B.length:=(bYW.mp hd).1;have et:B.take (t+1)=B.take t++ [d]:=by rw[cQN,hd];rfl
    have c4:M.length=2*t:=by rw[hq.2.1,jG,cQ4];omega
    dsimp only[yW];refine⟨_,rfl,_,rfl,z2,λp1 c0=>⟨_,rfl,z2,λp2 c3=>⟨z2,λl2 d4=>?_⟩⟩⟩;have b1:=yG c0 (.tup [.str "waiting",.int d]);have b2:=yG c3 (.tup [.str "overdue",.int d]);have b3:=yG d4 (.lst [.ref p1,.ref p2]);have c1:=b3 _ _ (b2 _ _ (yB (H:=H) (a:=p1) (o:= .tup [.str "waiting",.int d])));have c2:=b3 _ _ (yB (H:=upd H p1 (.tup [.str "waiting",.int d])) (a:=p2) (o:= .tup [.str "overdue",.int d]));have bb:=(b1.trans b2).trans b3;refine⟨qa,l2,_,_,rfl,rfl,bb _ _ hq.1,yB,by rw[bYP,c4,cQk];simp;omega,λp3 i5=>?_⟩;have b4:=yG i5 (.lst (M.map V.ref++ [.ref p1,.ref p2]));refine⟨p3,M++ [p1,p2],_,rfl,a1.trans (bb.trans b4),?_⟩;rw[et,aQg];refine aZt hq.2.1 (λi d' e D U=>b4 _ _ (bb _ _ (hq.2.2 i d' e D U))) rfl (λi d' e D U=>?_) yB;match i,D,U with
    |0,D,U=>cases D;cases U;exact b4 _ _ c1
    |1,D,U=>cases D;cases U;exact b4 _ _ c2
    |i+2,D,U=>cases D
  rintro σ i8 ⟨qa,M,o9,rfl,a1,hq⟩;rw[bYP,cQI]at hq;have X:=A9.same a1;have g0:=a1 _ _ hx;dsimp only[aJg];have c4:M.length=6:=by rw[hq.2.1,jG,a2]
  have j7:y.length<=23:=by rw[X.d.2.1];exact c5
  refine⟨_,rfl,_,rfl,ds,qa,_,_,rfl,rfl,X.d.1,hq.1,by rw[bYP,bYP,cQk];omega,λp1 c0=>?_⟩;have b1:=yG c0 (.lst (y.map V.ref++M.map V.ref));have i7:=aZt X.d.2.1 (λi d e D U=>b1 _ _ (X.d.2.2 i d e D U)) hq.2.1 (λi d e D U=>b1 _ _ (hq.2.2 i d e D U)) (yB (H:=i8) (a:=p1) (o:= .lst (y.map V.ref++M.map V.ref)));have d7:∀e∈es++uJ B,Wf e:=λe he=>by
   rcases cQp.mp he with z|z
   ·exact c9 e z
   ·obtain⟨j6,d,rfl⟩:=aJr B e z;exact cQ9
  have j5:(es++uJ B).length<=29:=by rw[bY8,jG,a2];omega
  refine⟨p1,y++M,es++uJ B,rfl,i7,by omega,d7,(X.same b1).t,λm b9 j8 m1 R' S' c7 i4 a4 j4 hm e9=>?_⟩;obtain⟨_,_,g8⟩:=aZ2 _ rfl d7 a4;obtain⟨l4,l0,R1,S1,rfl,a8,c8⟩:=Run.cut _ rfl a4;obtain⟨-,rfl,rfl⟩:=Run.det es.length rfl a7 a8;obtain⟨-, -,ls,rfl,d0⟩:=aVX _ rfl (aJr B) c8;obtain⟨ys,zs,rfl,e7,b6⟩:=bWY e9;have b5:=(X.same b1).sameT c7 i4;have b8:=c7.lst (b1 _ _ g0);have g6:=hq.same (b1.t.trans c7);have e6:ys.length=y.length:=by rw[cXt e7,<- a8.len,X.d.2.1]
  have i6:zs.length=6:=by rw[cXt b6,bYP,<- cXt d0,jG,a2]
  dsimp only[yW];refine⟨_,rfl,_,"list",_,_,rfl,.lst hm,x8 _,_,rfl,onF rfl ?_⟩;refine⟨_,rfl,m,_,rfl,.inl (SqL.of hm),_,rfl,ds,_,rfl,.inl (SqL.of b5.d.1),_,rfl,qa,_,rfl,.inl (SqL.of g6.1),_,_,rfl,rfl,rfl,_,rfl,onF ?_ ?_⟩
  ·rw[bY8,bYP,bYP,e6,i6,c4];simp
  refine⟨z0,λdu f5=>?_⟩;dsimp only[yW];have f9:=yG f5 (.lst []);refine⟨_,rfl,da,rfl,⟨_,SqL.of (f9 _ _ b8)⟩,?_⟩;refine zJ (xs:=B.map V.int) (λt σ H=>∃ (us:List V)(ks:List (List Nat))(o9:Option V),σ= [some (.ref a),some (.ref ds),some (.ref ra),some (.ref sa),some (.ref hl),some (.ref l),some (.ref da),o7,some (.ref qa),o9,some (.ref m),some (.ref du)]/\xC b9 H/\H du=some (.lst us)/\us.length=2*t/\cQA (aVz du H) us ks/\cQA (OnE R S) (uJ (B.take t)) ks) ?_ ?_ ?_ ?_
  ·exact⟨[],[],_,rfl,f9,yB,rfl,.nil,.nil⟩
  ·rintro t σ H ht ⟨us,ks,o9,rfl,O,D,U,h3,h4⟩;exact SqL.of (O _ _ b8)
  ·rintro t x σ H J ⟨us,ks,o9,rfl,O,D,U,h3,h4⟩;rw[bY5]at J;cases hd:B[t]? with
   |none=>rw[hd]at J;cases J
   |some d=>
    rw[hd]at J;cases J;have h0:t<B.length:=(bYW.mp hd).1;have et:B.take (t+1)=B.take t++ [d]:=by rw[cQN,hd];rfl
    have f8:=b5.same O;dsimp only[yW];have one:∀ (H:Hp)(us:List V)(ks:List (List Nat))(l:List Nat)(r:Nat)(H':Hp),xC b9 H->H du=some (.lst us)->cQA (aVz du H) us ks->xC H H'->H r=none->H' r=some (.lst (l.map λi=>V.int (i:Nat)))->
      xC b9 (upd H' du (.lst (us++ [.ref r])))/\cQA (aVz du (upd H' du (.lst (us++ [.ref r])))) (us++ [.ref r]) (ks++ [l]):=λH us ks l r H' k D h3 k' N hl=>by
     refine⟨λx o e=>by rw[yI (yJ e f5)];exact k' _ _ (k _ _ e),cZI (Desk.jV (λv l z=>?_) h3) ⟨r,rfl,(λz=>by rw[z,D]at N;cases N),?_⟩⟩
     ·obtain⟨p,e,n,q⟩:=z;exact⟨p,e,n,by rw[yI n];exact k' _ _ q⟩
     ·rw[yI (λz=>by rw[z,D]at N;cases N)];exact hl
    refine⟨_,rfl,.inl ⟨rfl,_,SqL.of D⟩,_,rfl,_,rfl,_,rfl,ra,sa,rs,R,S,d,false,rfl,f8.b,f8.sh,by omega,λr1 l5 l1 a3 j1 i2 h9=>⟨du,_,_,rfl,rfl,a3 _ _ D,zlt (by omega),?_⟩⟩;obtain⟨e1,e2⟩:=one _ _ _ _ _ _ O D h3 a3 j1 i2;have d8:=b5.same e1;refine⟨_,rfl,.inl ⟨rfl,_,SqL.of yB⟩,_,rfl,_,rfl,_,rfl,ra,sa,rs,R,S,d,true,rfl,d8.b,d8.sh,by omega,λr2 l7 l2 f2 h5 d4 h6=>⟨du,_,_,rfl,rfl,f2 _ _ yB,zlt (by rw[bY8];simp;omega),?_⟩⟩;obtain⟨e3,e4⟩:=one _ _ _ _ _ _ e1 yB e2 f2 h5 d4;refine⟨_,_,_,rfl,e3,yB,by simp;omega,e4,?_⟩;rw[et,aQg];have e5:=cZI (cZI h4 ⟨false,d,rfl,h9⟩) (⟨true,d,rfl,h6⟩:OnE R S (.on true d) l2);rw[cQ1]at e5;exact e5
  rintro σ f4 ⟨us,ks,l6,rfl,O,D,U,h3,h4⟩;rw[bYP,cQI]at h4;obtain rfl:=aYQ d0 h4;dsimp only[aJg];have g9:=b5.same O;refine⟨_,rfl,_,rfl,ds,_,rfl,.inl (SqL.of g9.d.1),_,rfl,m,_,rfl,SqL.of (O _ _ hm),λp2 c3=>?_⟩;have a3:=yG c3 (.lst (Z5 (ys++zs) (some ((y.map V.ref).length:Nat)) none));have e1:Z5 (ys++zs) (some ((y.map V.ref).length:Nat)) none=zs:=by rw[bXb,bYP,<- e6,List.drop_left]
  refine⟨_,rfl,.ref p2,.ref du,.lst (ls.map λl=>jU (.nums l)),rfl,aZC (yB.trans (by rw[e1])) ?_,aZC (a3 _ _ D) ?_,bWN (λl=>bWM (.nums l)) _,cQo (aX7 (n:=6) (c:=40) (λl hl=>?_) (by rw[<- cXt d0,jG,a2];decide)) (by decide),λi1 _=>q i1⟩
  ·have e2:=wN (F:=λv a=>vI [] (upd f4 p2 (.lst (Z5 (ys++zs) (some ((y.map V.ref).length:Nat)) none))) a v) (λv a z=>bJc z) (Desk.jV (λv a z=>Law.qR z λp u n e=>⟨n,a3 _ _ (O _ _ e)⟩) b6);rw[cXX]at e2;exact e2
  ·exact wN (F:=λv l=>aVz du (upd f4 p2 (.lst (Z5 (ys++zs) (some ((y.map V.ref).length:Nat)) none))) v l) (λv l z=>by obtain⟨p,rfl,_,e⟩:=z;exact bJc (a:= .nums l) (o:= []) ⟨p,rfl,(λz=>nomatch z),e⟩) (Desk.jV (λv l z=>by obtain⟨p,e,n,z⟩:=z;exact⟨p,e,n,a3 _ _ z⟩) h3)
  ·have:=g8 (.nums l) (bY9 _ (List.mem_map_of_mem hl));omega
 have A8:=A7.same k9;refine aJH (λb H'=>xC H8 H'/\(b=true->R≠ [])) ?_ ?_ ?_
 ·intro Kk hK;refine⟨_,rfl,z0,λpn d6=>⟨ra,pn,_,rfl,rfl,SqL.of ((yG d6 (.lst [])) _ _ A8.b.lst),SqL.of yB,_,rfl,?_⟩⟩;have G:=yG d6 (.lst []);refine qB (λc=>?_) (λc=>hK _ _ ⟨G,λz=>nomatch z⟩);refine⟨_,rfl,a,ns,0,rfl,G.t.seq A8.s,_,_,rfl,rfl,(show(0:Int)<7 by decide),rfl,_,rfl,hK _ _ ⟨G,λ_ z=>?_⟩⟩;have e:=A8.b.len;rw[z]at e;rw[cXz e]at c;simp at c
 ·rintro H9 ⟨G,c6⟩;have c6:=c6 rfl;have A9:=A8.same G;have g7:=G _ _ d9;have d3:(0:Int)<((rs.map V.ref).length:Nat):=by
   rw[bYP,A9.b.len];have:=cQZ.mpr c6;omega
  refine⟨_,rfl,_,rfl,a,ns,1,rfl,A9.s,_,rfl,ra,_,rfl,.inl (SqL.of A9.b.lst),_,_,rfl,rfl,d3,?_⟩;refine aWH rfl rfl (SqL.of A9.b.lst) (md0 d3) (md1 d3) λv hv=>?_;obtain⟨b,hb,rfl⟩:=cQQ.mp hv;obtain⟨j,hj,ej⟩:=List.mem_iff_getElem.mp hb;have i0:j<R.length:=by rw[<- A9.b.len];exact hj
  obtain⟨cp,g3,g4⟩:=A9.b.row j b R[j] (by rw[bYK hj,ej]) (bYK i0);refine⟨b,_,1,_,rfl,rfl,SqL.of g3,rfl,_,rfl,a,ns,2,rfl,A9.s,_,_,rfl,rfl,(show(0:Int)<9 by decide),_,_,rfl,rfl,_,rfl,da,_,0,0,rfl,rfl,g7,?_,?_⟩
  ·rw[bYP,a9];rfl
  ·refine b7 _ _ ⟨e8.set 0 (R[j].date+ns.getD 2 0 % 9),rfl,λx o e=>by rw[yI (yJ e d2)];exact G _ _ (k9 _ _ e),by rw[yB,List.map_set],by rw[List.length_set];exact a9⟩
 ·rintro H9 ⟨G,_⟩;exact b7 _ _ ⟨e8,rfl,k9.trans G,G _ _ d9,a9⟩
end
end Alike
namespace Desk
open PySem L2 PyProof.Rows
section
variable {K:bYM}
abbrev aQQ:Stmt:=xI "Refused" "__init__"
def aKi:yN ["self","words"] ["self","words"] (yH aQQ):=scM
def aWX(F:Fun K "__init__" "Refused.__init__" aQQ f fd):xE P w K mg base CX0 (n+1) f fd ["self","words"] (wS K):=by
 have b:=aKi;refine F.ok (k:=n) b (λc A outer s H j Q E l h=>?_);obtain⟨e,C,tp,y,rfl,g,d,q⟩:=h;refine⟨_,(yF (bW1 (pv 0) (pv 1) rfl)),?_⟩;exact⟨_,rfl,_,rfl,e,C,tp,rfl,g,d,λi a=>q i a⟩
abbrev Z0:Stmt:=xI "NoLetter" "__init__"
def aVh:yN ["self"] ["self"] (yH Z0):=scM
def aJP(a:aWn P w K mg base n "Refused" "__init__" ["self","words"] (wS K))(i:v7 K C)(F:Fun K "__init__" "NoLetter.__init__" Z0 f fd):xE P w K mg base CX0 (n+1) f fd ["self"] (wH K C "no letter"):=by
 have c:=aVh;refine F.ok (k:=n) c (λd A outer s H m Q E g h=>?_);obtain⟨e,tp,rfl,j,q⟩:=h;refine⟨_,(yF (yY (uZ a g rfl (yA (pv 0) (yA yR yD))))),?_⟩;exact⟨_,rfl,e,C,tp,_,rfl,j,i,λl b=>q l b⟩
abbrev aX4:Stmt:=xI "NoTerm" "__init__"
def bQq:yN ["self"] ["self"] (yH aX4):=scM
def aYD(a:aWn P w K mg base n "Refused" "__init__" ["self","words"] (wS K))(i:v7 K C)(F:Fun K "__init__" "NoTerm.__init__" aX4 f fd):xE P w K mg base CX0 (n+1) f fd ["self"] (wH K C "no term"):=by
 have c:=bQq;refine F.ok (k:=n) c (λd A outer s H m Q E g h=>?_);obtain⟨e,tp,rfl,j,q⟩:=h;refine⟨_,(yF (yY (uZ a g rfl (yA (pv 0) (yA yR yD))))),?_⟩;exact⟨_,rfl,e,C,tp,_,rfl,j,i,λl b=>q l b⟩
abbrev aX3:Stmt:=xI "HasOne" "__init__"
def bQp:yN ["self"] ["self"] (yH aX3):=scM
def aYC(a:aWn P w K mg base n "Refused" "__init__" ["self","words"] (wS K))(i:v7 K C)(F:Fun K "__init__" "HasOne.__init__" aX3 f fd):xE P w K mg base CX0 (n+1) f fd ["self"] (wH K C "has one"):=by
 have c:=bQp;refine F.ok (k:=n) c (λd A outer s H m Q E g h=>?_);obtain⟨e,tp,rfl,j,q⟩:=h;refine⟨_,(yF (yY (uZ a g rfl (yA (pv 0) (yA yR yD))))),?_⟩;exact⟨_,rfl,e,C,tp,_,rfl,j,i,λl b=>q l b⟩
abbrev aQP:Stmt:=xI "HasNone" "__init__"
def aKh:yN ["self"] ["self"] (yH aQP):=scM
def aWW(a:aWn P w K mg base n "Refused" "__init__" ["self","words"] (wS K))(i:v7 K C)(F:Fun K "__init__" "HasNone.__init__" aQP f fd):xE P w K mg base CX0 (n+1) f fd ["self"] (wH K C "has none"):=by
 have c:=aKh;refine F.ok (k:=n) c (λd A outer s H m Q E g h=>?_);obtain⟨e,tp,rfl,j,q⟩:=h;refine⟨_,(yF (yY (uZ a g rfl (yA (pv 0) (yA yR yD))))),?_⟩;exact⟨_,rfl,e,C,tp,_,rfl,j,i,λl b=>q l b⟩
abbrev qM:Stmt:=xI "OwnThread" "__init__"
def aZ4:yN ["self"] ["self"] (yH qM):=scM
def aZP(a:aWn P w K mg base n "Refused" "__init__" ["self","words"] (wS K))(i:v7 K C)(F:Fun K "__init__" "OwnThread.__init__" qM f fd):xE P w K mg base CX0 (n+1) f fd ["self"] (wH K C "own thread"):=by
 have c:=aZ4;refine F.ok (k:=n) c (λd A outer s H m Q E g h=>?_);obtain⟨e,tp,rfl,j,q⟩:=h;refine⟨_,(yF (yY (uZ a g rfl (yA (pv 0) (yA yR yD))))),?_⟩;exact⟨_,rfl,e,C,tp,_,rfl,j,i,λl b=>q l b⟩
abbrev aQR:Stmt:=xI "SameWay" "__init__"
def aKj:yN ["self"] ["self"] (yH aQR):=scM
def aWY(a:aWn P w K mg base n "Refused" "__init__" ["self","words"] (wS K))(i:v7 K C)(F:Fun K "__init__" "SameWay.__init__" aQR f fd):xE P w K mg base CX0 (n+1) f fd ["self"] (wH K C "same way"):=by
 have c:=aKj;refine F.ok (k:=n) c (λd A outer s H m Q E g h=>?_);obtain⟨e,tp,rfl,j,q⟩:=h;refine⟨_,(yF (yY (uZ a g rfl (yA (pv 0) (yA yR yD))))),?_⟩;exact⟨_,rfl,e,C,tp,_,rfl,j,i,λl b=>q l b⟩
abbrev vU:Stmt:=xI "OtherPartner" "__init__"
def aQZ:yN ["self"] ["self"] (yH vU):=scM
def aQz(a:aWn P w K mg base n "Refused" "__init__" ["self","words"] (wS K))(i:v7 K C)(F:Fun K "__init__" "OtherPartner.__init__" vU f fd):xE P w K mg base CX0 (n+1) f fd ["self"] (wH K C "other partner"):=by
 have c:=aQZ;refine F.ok (k:=n) c (λd A outer s H m Q E g h=>?_);obtain⟨e,tp,rfl,j,q⟩:=h;refine⟨_,(yF (yY (uZ a g rfl (yA (pv 0) (yA yR yD))))),?_⟩;exact⟨_,rfl,e,C,tp,_,rfl,j,i,λl b=>q l b⟩
abbrev Z1:Stmt:=xI "TooEarly" "__init__"
def aVi:yN ["self"] ["self"] (yH Z1):=scM
def aJQ(a:aWn P w K mg base n "Refused" "__init__" ["self","words"] (wS K))(i:v7 K C)(F:Fun K "__init__" "TooEarly.__init__" Z1 f fd):xE P w K mg base CX0 (n+1) f fd ["self"] (wH K C "too early"):=by
 have c:=aVi;refine F.ok (k:=n) c (λd A outer s H m Q E g h=>?_);obtain⟨e,tp,rfl,j,q⟩:=h;refine⟨_,(yF (yY (uZ a g rfl (yA (pv 0) (yA yR yD))))),?_⟩;exact⟨_,rfl,e,C,tp,_,rfl,j,i,λl b=>q l b⟩
abbrev aX2:Stmt:=xI "Copied" "__init__"
def bQo:yN ["self"] ["self"] (yH aX2):=scM
def aYB(a:aWn P w K mg base n "Refused" "__init__" ["self","words"] (wS K))(i:v7 K C)(F:Fun K "__init__" "Copied.__init__" aX2 f fd):xE P w K mg base CX0 (n+1) f fd ["self"] (wH K C "copied"):=by
 have c:=bQo;refine F.ok (k:=n) c (λd A outer s H m Q E g h=>?_);obtain⟨e,tp,rfl,j,q⟩:=h;refine⟨_,(yF (yY (uZ a g rfl (yA (pv 0) (yA yR yD))))),?_⟩;exact⟨_,rfl,e,C,tp,_,rfl,j,i,λl b=>q l b⟩
abbrev X9:Stmt:=xI "Answered" "__init__"
def aVg:yN ["self"] ["self"] (yH X9):=scM
def aJO(a:aWn P w K mg base n "Refused" "__init__" ["self","words"] (wS K))(i:v7 K C)(F:Fun K "__init__" "Answered.__init__" X9 f fd):xE P w K mg base CX0 (n+1) f fd ["self"] (wH K C "answered"):=by
 have c:=aVg;refine F.ok (k:=n) c (λd A outer s H m Q E g h=>?_);obtain⟨e,tp,rfl,j,q⟩:=h;refine⟨_,(yF (yY (uZ a g rfl (yA (pv 0) (yA yR yD))))),?_⟩;exact⟨_,rfl,e,C,tp,_,rfl,j,i,λl b=>q l b⟩
abbrev qL:Stmt:=xI "CountsNot" "__init__"
def aZ3:yN ["self"] ["self"] (yH qL):=scM
def aZO(a:aWn P w K mg base n "Refused" "__init__" ["self","words"] (wS K))(i:v7 K C)(F:Fun K "__init__" "CountsNot.__init__" qL f fd):xE P w K mg base CX0 (n+1) f fd ["self"] (wH K C "counts not"):=by
 have c:=aZ3;refine F.ok (k:=n) c (λd A outer s H m Q E g h=>?_);obtain⟨e,tp,rfl,j,q⟩:=h;refine⟨_,(yF (yY (uZ a g rfl (yA (pv 0) (yA yR yD))))),?_⟩;exact⟨_,rfl,e,C,tp,_,rfl,j,i,λl b=>q l b⟩
end
end Desk
namespace End4
open PySem L2 PyProof.Rows
section
variable {K:bYM}{x m qual t:Str}{st:Stmt}{f C R CB CL:Nat}{oc:bYL}{od an:Option Nat}{osl:Array (Option bYL)}{kV doc pm cdv ct:bYL}
structure vV(K:bYM)(x:Str)(st:Stmt)(f:Nat):Prop where
 ns:cQG K cQj x=some (some (.ref f))
 ex:∃fd,Fun K x x st f fd
def Def(K:bYM)(x:Str)(st:Stmt):Prop:=∃f,vV K x st f
def xT(a:cQG K cQj x=some (some (.ref f)))(l:K.lookup f=some ⟨oc,od,.func (cQR x x (xX st) (xQ st) (yH st) .none kV doc pm an cdv ct),osl⟩)
  (c:cXu K cdv x=true) (k:cQH K (.ref f)=true):vV K x st f:=⟨a,_,aXm l c k⟩
def xM(a:cQG K cQj x=some (some (.ref f)))(l:K.lookup f=some ⟨oc,od,.func (cQR x x (xX st) (xQ st) (yH st) .none kV doc pm an cdv ct),osl⟩)
  (c:cXu K cdv x=true) (k:cQH K (.ref f)=true):Def K x st:=⟨f,xT a l c k⟩
structure Mtd(K:bYM)(C:Nat)(m qual:Str)(st:Stmt):Prop where
 ex:∃f fd,bWg K C m f/\Fun K m qual st f fd
def x4(a:cQx K (.ref C) m=some (some (.ref f)))(i:cZq K (.ref f)=true)(l:K.lookup f=some ⟨oc,od,.func (cQR m qual (xX st) (xQ st) (yH st) .none kV doc pm an cdv ct),osl⟩)
  (c:cXu K cdv qual=true) (k:cQH K (.ref f)=true):Mtd K C m qual st:=⟨f,_,⟨a,i,k⟩,aXm l c k⟩
structure MkD(K:bYM)(x:Str)(C:Nat)(qual:Str)(st:Stmt):Prop where
 ns:cQG K cQj x=some (some (.ref C))
 ex:∃f fd,Mk K C f/\Fun K "__init__" qual st f fd
def bJg(a:cQG K cQj x=some (some (.ref C)))(mk:PySem.W.makesIn K C=true)(b:cQH K (.ref C)=true)(d:cQx K (.ref C) "__init__"=some (some (.ref f)))(i:cZq K (.ref f)=true) (l:K.lookup f=some ⟨oc,od,.func (cQR "__init__" qual (xX st) (xQ st) (yH st) .none kV doc pm an cdv ct),osl⟩) (c:cXu K cdv qual=true) (k:cQH K (.ref f)=true):MkD K x C qual st:=
 ⟨a,f,_,⟨mk,d,i,b⟩,aXm l c k⟩
structure Exc(K:bYM)(R:Nat)(x qual:Str)(st:Stmt):Prop where
 ex:∃C f fd,cQG K cQj x=some (some (.ref C))/\v7 K C/\cZ0 K C (.ref R)=some true/\cQx K (.ref C) "__init__"=some (some (.ref f))/\cZq K (.ref f)=true/\cQH K (.ref C)=true/\Fun K "__init__" qual st f fd
def uU(a:cQG K cQj x=some (some (.ref C)))(e:bXj K C=true)(g:cZ0 K C (.ref R)=some true)(b:cQH K (.ref C)=true)(d:cQx K (.ref C) "__init__"=some (some (.ref f)))(i:cZq K (.ref f)=true) (l:K.lookup f=some ⟨oc,od,.func (cQR "__init__" qual (xX st) (xQ st) (yH st) .none kV doc pm an cdv ct),osl⟩) (c:cXu K cdv qual=true) (k:cQH K (.ref f)=true):Exc K R x qual st:=
 ⟨C,f,_,a,aK4 e,g,d,i,b,aXm l c k⟩
structure bKJ(K:bYM)(x:Str)(R:Nat)(qual:Str)(st:Stmt):Prop where
 ns:cQG K cQj x=some (some (.ref R))
 cl:v7 K R
 ex:∃f fd,PySem.W.readsIn K R (.type "type")=true/\PySem.W.findCls K (.ref R) (.type "type") "__init__"=some (.val (.ref f))/\cJk K (.ref R) "__getattribute__"=some (some (.builtin "type.__getattribute__"))/\Fun K "__init__" qual st f fd
def bVx(a:cQG K cQj x=some (some (.ref R)))(e:bXj K R=true)(rd:PySem.W.readsIn K R (.type "type")=true)(b:PySem.W.findCls K (.ref R) (.type "type") "__init__"=some (.val (.ref f))) (sp:cJk K (.ref R) "__getattribute__"=some (some (.builtin "type.__getattribute__"))) (l:K.lookup f=some ⟨oc,od,.func (cQR "__init__" qual (xX st) (xQ st) (yH st) .none kV doc pm an cdv ct),osl⟩) (c:cXu K cdv qual=true) (k:cQH K (.ref f)=true):bKJ K x R qual st:=
 ⟨a,aK4 e,f,_,rd,b,sp,aXm l c k⟩
def bKN(b1:cZr K CB Str.empty=true)(m:cZK K CB=true)(h:cJj K CB=true)(c:cQx K (.ref CB) "__setattr__"=some (some (.builtin "object.__setattr__")))
  (o:cZr K CL Str.empty=true) (p:cZK K CL=true) (d:cJj K CL=true) (e:cQx K (.ref CL) "__setattr__"=some (some (.builtin "object.__setattr__")))
  (j:cQx K (.ref CB) "letters"=some none) (k:cQx K (.ref CB) "shut"=some none)
  (r:cQx K (.ref CL) "number"=some none) (f:cQx K (.ref CL) "way"=some none) (g:cQx K (.ref CL) "day"=some none) (i:cQx K (.ref CL) "partner"=some none)
  (n:cQx K (.ref CL) "term"=some none) (q:cQx K (.ref CL) "link"=some none) (l:cQx K (.ref CL) "file"=some none) (a:cQx K (.ref CL) "copies"=some none) (b:cQx K (.ref CL) "void"=some none):
  Desk.Cl K CB CL:=⟨⟨b1,m,h,c⟩,⟨o,p,d,e⟩,j,k,r,f,g,i,n,q,l,a,b⟩
end
section
variable {P:bY7}{w:cQf}{K:bYM}{h:Heap}{mg:Str->Option bYL}{base:Heap}{x m qual t:Str}{st:Stmt}{f C R:Nat}{k:Nat}{ps:List Str}{sp:Sp}{CX:CXT}
def uP(x qual:Str)(st:Stmt)(ps:List Str):Prop:=∀ (kV doc pm:bYL)(an:Option Nat)(cdv ct:bYL)(a:List bYL),a.length=ps.length->cZt (cQR x qual (xX st) (xQ st) (yH st) .none kV doc pm an cdv ct) ⟨a,[]⟩=pure (ps.zip a)
def Q2{a:cXK}(F:Fun K x qual st f a):cQH K (.ref f)=true:=F.2
def gOf(P:bY7)(w:cQf)(base:Heap)(k:Nat)(X:K.In h)(G:h.Ns cQj mg)(D:Def K x st)(b:uP x x st ps)(ok:∀f c,Fun K x x st f c->xE P w K mg base CX0 k f c ps sp):FnG P w K mg base k x ps sp:=by
 obtain⟨f,a,c,F⟩:=D;exact⟨f,c,ok f c F,F.binds b,Q2 F,cXG X G a⟩
def xOf(P:bY7)(w:cQf)(base:Heap)(k:Nat)(X:K.In h)(G:h.Ns cQj mg)(D:Def K x st)(b:uP x x st ps)(ok:∀f c,Fun K x x st f c->xE P w K mg base (CXR P w) k f c ps sp):FnX P w K mg base k x ps sp:=by
 obtain⟨f,a,c,F⟩:=D;exact⟨f,c,ok f c F,F.binds b,Q2 F,cXG X G a⟩
structure DoG(P:bY7)(w:cQf)(K:bYM)(mg:Str->Option bYL)(base:Heap)(k:Nat)(f:Nat)(ps:List Str)(sp:Sp):Prop where
 ex:∃fd,xE P w K mg base (CXR P w) k f fd ps sp/\v6 K fd ps []/\cQH K (.ref f)=true
def dOf(mg:Str->Option bYL)(P:bY7)(w:cQf)(base:Heap)(k:Nat)(D:vV K x st f)(b:uP x x st ps)(ok:∀f c,Fun K x x st f c->xE P w K mg base (CXR P w) k f c ps sp):DoG P w K mg base k f ps sp:=by
 obtain⟨a,c,F⟩:=D;exact⟨c,ok f c F,F.binds b,Q2 F⟩
def mOf(mg:Str->Option bYL)(P:bY7)(w:cQf)(base:Heap)(k:Nat)(c:Cls K C)(D:Mtd K C m qual st)(b:uP m qual st ps)(ok:∀f a,Fun K m qual st f a->xE P w K mg base CX0 k f a ps sp):MG P w K mg base CX0 k C m ps sp:=by
 obtain⟨f,a,M,F⟩:=D.ex;exact⟨⟨f,a,ok f a F,F.binds b,M⟩,c⟩
def aJM(mg:Str->Option bYL)(P:bY7)(w:cQf)(base:Heap)(k:Nat)(c:Cls K C)(D:Mtd K C m qual st)(b:uP m qual st ps)(ok:∀f a,Fun K m qual st f a->xE P w K mg base (CXR P w) k f a ps sp):MG P w K mg base (CXR P w) k C m ps sp:=by
 obtain⟨f,a,M,F⟩:=D.ex;exact⟨⟨f,a,ok f a F,F.binds b,M⟩,c⟩
def kOf(P:bY7)(w:cQf)(base:Heap)(k:Nat)(X:K.In h)(G:h.Ns cQj mg)(D:MkD K x C qual st)(b:uP "__init__" qual st ps)(ok:∀f a,Fun K "__init__" qual st f a->xE P w K mg base CX0 k f a ps sp):MkG P w K mg base k x C ps sp:=by
 obtain⟨f,a,M,F⟩:=D.ex;exact⟨⟨f,a,ok f a F,F.binds b,M,cXG X G D.ns⟩⟩
def eOf(P:bY7)(w:cQf)(base:Heap)(k:Nat)(t:Str)(X:K.In h)(G:h.Ns cQj mg)(D:Exc K R x qual st)(b:uP "__init__" qual st ["self"])(ok:∀C f c,v7 K C->Fun K "__init__" qual st f c->xE P w K mg base CX0 k f c ["self"] (wH K C t)):∃C,ExG P w K mg base k x R C t:=by
 obtain⟨C,f,c,a,e,g,d,i,j,F⟩:=D.ex;exact⟨C,⟨f,c,ok C f c e F,F.binds b,d,i,j,cXG X G a⟩,e,g⟩
def rOf(P:bY7)(w:cQf)(base:Heap)(k:Nat)(X:K.In h)(G:h.Ns cQj mg)(D:bKJ K x R qual st)(b:uP "__init__" qual st ps)(ok:∀f a,Fun K "__init__" qual st f a->xE P w K mg base CX0 k f a ps sp):aWn P w K mg base k x "__init__" ps sp:=by
 obtain⟨f,a,rd,c,s,F⟩:=D.ex;exact⟨⟨R,f,a,ok f a F,F.binds b,rd,c,s,Q2 F,cXG X G D.ns⟩⟩
end
def Pr(w:cQf):List DictEntry->List (Str×Nat)->Prop
 |[],[]=>True
 |e::es,(x,f)::r=>(∃t,e.key= .str x t)/\e.hash=hashStr w x/\e.val= .ref f/\Pr w es r
 |_,_=>False
abbrev bJd(r:List (Str×Nat)):List (Key×bYL):=r.map λp=>(Sum.inr p.1,.ref p.2)
def aVV{P:bY7}{w:cQf}:∀ {a:List DictEntry} {r:List (Str×Nat)},Pr w a r->Pairs (zD P w) a (bJd r)
 |[],[],_=> .nil
 |e::a,(x,f)::r,⟨⟨t,h1⟩,h2,h3,h4⟩=> .cons (by rw[h1];exact qJ P w x t) h3 (aVV h4)
 |[],_::_,h=>nomatch h
 |_::_,[],h=>nomatch h
def aYZ{P:bY7}{w:cQf}:∀ {a:List DictEntry} {r:List (Str×Nat)},Pr w a r->∀e∈a,∃k,(zD P w).is k e.key=true/\e.hash=(zD P w).hash k
 |[],_,_,e,he=>nomatch he
 |e::a,(x,f)::r,⟨⟨t,h1⟩,h2,h3,h4⟩,e',he=>by
  rcases bYU.mp he with rfl|z
  ·exact⟨Sum.inr x,by rw[h1];exact qJ P w x t,h2⟩
  ·exact aYZ h4 e' z
 |_::_,[],h,_,_=>nomatch h
def bWa{P:bY7}{w:cQf}{K:bYM}{D:Nat}{d:Array DictEntry}{f:Nat}{r:List (Str×Nat)}(l:K.lookup D=some ⟨.type "dict",none,.dict d f, #[]⟩)(p:Pr w d.toList r)(g:(r.map (·.1)).Nodup):Desk.bKL P w K D (bJd r):=by
 refine⟨⟨_,d,f,l,⟨rfl,rfl,rfl⟩,rfl,λe h=>aYZ p e (Array.mem_toList_iff.mpr h),aVV p,?_⟩⟩;have e:(bJd r).map (·.1)=(r.map (·.1)).map Sum.inr:=by simp[bJd,Function.comp_def]
 rw[e];exact List.Pairwise.map _ (λa b c z=>c (Sum.inr.inj z)) g
def uM:∀ {r:List (Str×Nat)} {x:Str} {f:Nat},(r.map (·.1)).Nodup->∀i:Nat,r[i]? =some (x,f)->cZ7 (bJd r) (Sum.inr x:Key)=some (.ref f)
 |[],_,_,_,_,h=>by simp at h
 |(y,g)::r,x,f,nd,0,h=>by cases h;simp[cZ7,bJd]
 |(y,g)::r,x,f,nd,i+1,h=>by
  have c:r[i]? =some (x,f):=by simpa using h
  have a:=cXY.mp nd;have d:¬ ((Sum.inr y:Key)=Sum.inr x):=λz=>a.1 (by
   rw[Sum.inr.inj z];exact cQQ.mpr ⟨(x,f),bY3 c,rfl⟩)
  have b:=uM a.2 i c;unfold cZ7 at b ⊢;simp only[bJd,cQy,cZa,decide_eq_false d]at b ⊢;exact b
end End4
namespace L2
open PySem
section
variable {P:bY7}{w:cQf}{K:bYM}{mg:Str->Option bYL}{base:Heap}{j k:Nat}{x t:Str}{ps:List Str}{sp:Sp}{C Rf:Nat}{CX:CXT}
def FnG.up(G:FnG P w K mg base j x ps sp)(h:j<=k:=by decide):FnG P w K mg base k x ps sp:=G.mono h
def FnX.up(G:FnX P w K mg base j x ps sp)(h:j<=k:=by decide):FnX P w K mg base k x ps sp:=G.mono h
def MG.up(G:MG P w K mg base CX j C x ps sp)(h:j<=k:=by decide):MG P w K mg base CX k C x ps sp:=G.mono h
def MkG.up(G:MkG P w K mg base j x C ps sp)(h:j<=k:=by decide):MkG P w K mg base k x C ps sp:=G.mono h
def ExG.up(G:ExG P w K mg base j x Rf C t)(h:j<=k:=by decide):ExG P w K mg base k x Rf C t:=G.mono h
end
end L2
namespace End4
open PySem L2 PyProof.Rows
def bd1{x qual:Str}{st:Stmt}{b:Str}(h:∀ (kV doc pm:bYL)(an:Option Nat)(cdv ct a:bYL),cZt (cQR x qual (xX st) (xQ st) (yH st) .none kV doc pm an cdv ct) ⟨[a],[]⟩=pure (cJa [b] [a])):uP x qual st [b]:=by
 intro kV doc pm an cdv ct c l;rcases c with _|⟨_,_|⟨_,_⟩⟩<;> first|(cases l;done)|exact h _ _ _ _ _ _ _
def bd2{x qual:Str}{st:Stmt}{d c:Str}(h:∀ (kV doc pm:bYL)(an:Option Nat)(cdv ct a b:bYL),cZt (cQR x qual (xX st) (xQ st) (yH st) .none kV doc pm an cdv ct) ⟨[a,b],[]⟩=pure (cJa [d,c] [a,b])):uP x qual st [d,c]:=by
 intro kV doc pm an cdv ct e l;rcases e with _|⟨_,_|⟨_,_|⟨_,_⟩⟩⟩<;> first|(cases l;done)|exact h _ _ _ _ _ _ _ _
def bd3{x qual:Str}{st:Stmt}{f e a:Str}(h:∀ (kV doc pm:bYL)(an:Option Nat)(cdv ct d c b:bYL),cZt (cQR x qual (xX st) (xQ st) (yH st) .none kV doc pm an cdv ct) ⟨[d,c,b],[]⟩=pure (cJa [f,e,a] [d,c,b])):uP x qual st [f,e,a]:=by
 intro kV doc pm an cdv ct g l;rcases g with _|⟨_,_|⟨_,_|⟨_,_|⟨_,_⟩⟩⟩⟩<;> first|(cases l;done)|exact h _ _ _ _ _ _ _ _ _
def bd4{x qual:Str}{st:Stmt}{i f a e:Str}(h:∀ (kV doc pm:bYL)(an:Option Nat)(cdv ct d c b g:bYL),cZt (cQR x qual (xX st) (xQ st) (yH st) .none kV doc pm an cdv ct) ⟨[d,c,b,g],[]⟩=pure (cJa [i,f,a,e] [d,c,b,g])):uP x qual st [i,f,a,e]:=by
 intro kV doc pm an cdv ct j l;rcases j with _|⟨_,_|⟨_,_|⟨_,_|⟨_,_|⟨_,_⟩⟩⟩⟩⟩<;> first|(cases l;done)|exact h _ _ _ _ _ _ _ _ _ _
def bd5{x qual:Str}{st:Stmt}{k i a g b:Str}(h:∀ (kV doc pm:bYL)(an:Option Nat)(cdv ct e d c j f:bYL),cZt (cQR x qual (xX st) (xQ st) (yH st) .none kV doc pm an cdv ct) ⟨[e,d,c,j,f],[]⟩=pure (cJa [k,i,a,g,b] [e,d,c,j,f])):uP x qual st [k,i,a,g,b]:=by
 intro kV doc pm an cdv ct m l;rcases m with _|⟨_,_|⟨_,_|⟨_,_|⟨_,_|⟨_,_|⟨_,_⟩⟩⟩⟩⟩⟩<;> first|(cases l;done)|exact h _ _ _ _ _ _ _ _ _ _ _
def bd6{x qual:Str}{st:Stmt}{n k a j b e:Str}(h:∀ (kV doc pm:bYL)(an:Option Nat)(cdv ct g d c m i f:bYL),cZt (cQR x qual (xX st) (xQ st) (yH st) .none kV doc pm an cdv ct) ⟨[g,d,c,m,i,f],[]⟩=pure (cJa [n,k,a,j,b,e] [g,d,c,m,i,f])):uP x qual st [n,k,a,j,b,e]:=by
 intro kV doc pm an cdv ct o l;rcases o with _|⟨_,_|⟨_,_|⟨_,_|⟨_,_|⟨_,_|⟨_,_|⟨_,_⟩⟩⟩⟩⟩⟩⟩<;> first|(cases l;done)|exact h _ _ _ _ _ _ _ _ _ _ _ _
def bd7{x qual:Str}{st:Stmt}{p n a k b f m:Str}(h:∀ (kV doc pm:bYL)(an:Option Nat)(cdv ct i d c o j g e:bYL),cZt (cQR x qual (xX st) (xQ st) (yH st) .none kV doc pm an cdv ct) ⟨[i,d,c,o,j,g,e],[]⟩=pure (cJa [p,n,a,k,b,f,m] [i,d,c,o,j,g,e])):uP x qual st [p,n,a,k,b,f,m]:=by
 intro kV doc pm an cdv ct q l;rcases q with _|⟨_,_|⟨_,_|⟨_,_|⟨_,_|⟨_,_|⟨_,_|⟨_,_|⟨_,_⟩⟩⟩⟩⟩⟩⟩⟩<;> first|(cases l;done)|exact h _ _ _ _ _ _ _ _ _ _ _ _ _
def bdA{x qual:Str}{st:Stmt}{ps:List Str}(h:uP x qual st ps:=by
  first|refine bd1 λa b c d e f g=>?_|refine bd2 λa b c d e f g i=>?_|refine bd3 λa b c d e f g i j=>?_|refine bd4 λa b c d e f g i j k=>?_|refine bd5 λa b c d e f g i j k l=>?_|refine bd6 λa b c d e f g i j k l m=>?_|refine bd7 λa b c d e f g i j k l m n=>?_
  kernel_rfl):uP x qual st ps:=h
end End4
namespace End4
open PySem L2 PyProof.Rows
set_option maxHeartbeats 0 in
def all_mk{l:PySem.W.OpenLaw}{w:cQf}{K:bYM}{h:Heap}{mg:Str->Option bYL}{fa R L CL cA J fA fL DD i x D y E B z H I A u q r j p k:Nat}{e8 j1:Option Nat}{h5:Array (Option bYL)}{k5 e0 f6 b8 l0:bYL}{a9:Array DictEntry}{i6:Nat}{tW tO:Tok} (X:K.In h) (G:h.Ns cQj mg) (f7:mg "law"=some (.ref fa)) (d60:bKJ K "Refused" R "Refused.__init__" Desk.aQQ) (d61:Exc K R "NoLetter" "NoLetter.__init__" Desk.Z0) (d62:Exc K R "NoTerm" "NoTerm.__init__" Desk.aX4) (d63:Exc K R "HasOne" "HasOne.__init__" Desk.aX3) (d64:Exc K R "HasNone" "HasNone.__init__" Desk.aQP) (d65:Exc K R "OwnThread" "OwnThread.__init__" Desk.qM) (d66:Exc K R "SameWay" "SameWay.__init__" Desk.aQR) (d67:Exc K R "OtherPartner" "OtherPartner.__init__" Desk.vU) (d68:Exc K R "TooEarly" "TooEarly.__init__" Desk.Z1) (d69:Exc K R "Copied" "Copied.__init__" Desk.aX2) (d70:Exc K R "Answered" "Answered.__init__" Desk.X9) (d71:Exc K R "CountsNot" "CountsNot.__init__" Desk.qL) (d9:MkD K "Letter" CL "Letter.__init__" Desk.bQe) (d24:MkD K "Book" L "Book.__init__" Desk.aY7) (cl:Desk.Cl K L CL) (d10:Mtd K CL "state" "Letter.state" Desk.bQj) (d11:Mtd K CL "is_answered_by" "Letter.is_answered_by" Desk.aY6) (d12:Mtd K CL "has_gone_to" "Letter.has_gone_to" Desk.bVA) (d13:Mtd K CL "make_void" "Letter.make_void" Desk.bVJ) (d15:Mtd K L "letter_at" "Book.letter_at" Desk.aQM) (d16:Mtd K L "answers_to" "Book.answers_to" Desk.aV0) (d17:Mtd K L "copies_of" "Book.copies_of" Desk.aQL) (d18:Mtd K L "state_of" "Book.state_of" Desk.aX0) (d19:Mtd K L "letters_in" "Book.letters_in" Desk.jP) (d20:Mtd K L "answered_by" "Book.answered_by" Desk.aQK) (d21:Mtd K L "waiting_pairs" "Book.waiting_pairs" Desk.bQg) (d22:Mtd K L "waiting" "Book.waiting" Desk.Q9) (d23:Mtd K L "overdue" "Book.overdue" Desk.Q8) (d25:Mtd K L "add_letter" "Book.add_letter" Desk.bKY) (d28:Mtd K L "enter" "Book.enter" Desk.bQd) (d29:Mtd K L "reply" "Book.reply" Desk.bQi) (d30:Mtd K L "loosen" "Book.loosen" Desk.aVd) (d31:Mtd K L "put_term" "Book.put_term" Desk.aXY) (d32:Mtd K L "send_copy" "Book.send_copy" Desk.bVH) (d33:Mtd K L "cancel" "Book.cancel" Desk.aJ9) (d34:Mtd K L "shut_day" "Book.shut_day" Desk.bVI) (d35:Mtd K L "put_day" "Book.put_day" Desk.aVe) (d36:Mtd K L "thread_of" "Book.thread_of" Desk.Y2) (d37:Mtd K L "lay_thread" "Book.lay_thread" Desk.bK4) (d38:Mtd K L "check_hanging" "Book.check_hanging" Desk.aY8) (d39:Mtd K L "hang" "Book.hang" Desk.bVC) (d58:Mtd K L "standing_states" "Book.standing_states" Desk.aX1) (d1:Def K "open_by_rest" Days.bVF) (d2:Def K "place_of" Days.bQh) (d3:Def K "counts" Days.aVa) (d4:Def K "closed_days" Days.aXU) (d5:Def K "day_at" Days.bQa) (d6:Def K "due_day" Days.bK0) (d7:Def K "top_of" Thr.bQm) (d8:Def K "thread" Thr.aVf) (d14:Def K "other_way" Desk.bQf) (d26:Def K "check_term" Desk.bQk) (d27:Def K "check_days" Desk.bQb) (d56:Def K "answer" Desk.aJ7) (d57:Def K "answers" Desk.Q6) (d59:Def K "standing" Desk.aQN) (d72:Def K "_law_good" Law.bVB) (d73:Def K "_law_kids_of" Law.bZi) (d74:Def K "_law_waits_on" Law.aV2) (d75:Def K "_law_due_by" Law.bQc) (d76:Def K "_law_list_on" Law.aXX) (d77:Def K "_law_family" Law.aXW) (d78:Def K "_law_lost" Law.bVE) (d79:Def K "_law_dated" Law.aY9) (d80:Def K "_law_hung" Law.bVD) (d81:Def K "_law_entered" Law.aXV) (d82:Def K "_law_with_one" Law.bVK) (d83:Def K "_law_told_of" Law.bQl) (d84:Def K "_law_done_by" Law.bVz) (d85:Def K "_law_hanging" Law.Q7) (d86:Def K "_law_about" Law.aVZ) (d87:Def K "_law_deed_at" Law.aVb) (d88:Def K "_law_story" Law.aV1) (d89:Def K "_law_whole" Alike.bQn) (d90:Def K "_law_room" Alike.bVG) (d91:Def K "_law_alike" Alike.aY5) (d92:Def K "_law_at" Alike.sAt) (d93:Def K "_law_unturned" Alike.aQO) (d94:Def K "_law_book_of" Alike.aJ8) (d95:Def K "_law_standing_of" Alike.aXZ) (d40:vV K "do_enter" Desk.Z2 i) (d41:vV K "do_reply" Desk.Z4 x) (d42:vV K "do_hang" Desk.aQV D) (d43:vV K "do_loose" Desk.Z3 y) (d44:vV K "do_date" Desk.aQT E) (d45:vV K "do_term" Desk.aQX B) (d46:vV K "do_copy" Desk.aQS z) (d47:vV K "do_file" Desk.aQU H) (d48:vV K "do_void" Desk.aQY I) (d49:vV K "do_shut" Desk.aQW A) (d50:vV K "ask_state" Desk.qN u) (d51:vV K "ask_thread" Desk.u9 q) (d52:vV K "ask_copies" Desk.u4 r) (d53:vV K "ask_letters" Desk.uE j) (d54:vV K "ask_waiting" Desk.uG p) (d55:vV K "ask_overdue" Desk.uF k) (dL:vV K "law" Alike.bK3 fL) (aA:cQG K cQj "answers_to_each"=some (some (.ref fA))) (lA:K.lookup fA=some ⟨k5,e8,.func (cQR "answers_to_each" "answers_to_each" (xX Thr.aJ6) (xQ Thr.aJ6) (yH Thr.aJ6) .none e0 f6 b8 j1 (.ref cA) l0),h5⟩) (cA1:cXu K (.ref cA) "answers_to_each"=true) (kA:cQH K (.ref fA)=true) (nD:cQG K cQj "DEEDS"=some (some (.ref DD))) (lD:K.lookup DD=some ⟨.type "dict",none,.dict a9 i6, #[]⟩) (pD:Pr w a9.toList [("in",i),("out",i),("reply",x),("hang",D),("loose",y),("date",E),("term",B),("copy",z),("file",H),("void",I),("shut",A),("state",u),("thread",q),("copies",r),("letters",j),("waiting",p),("overdue",k)]) (z_len:cQG K cQj "len"=some none) (z_min:cQG K cQj "min"=some none) (z_sum:cQG K cQj "sum"=some none) (z_sorted:cQG K cQj "sorted"=some none) (z_isinstance:cQG K cQj "isinstance"=some none) (z_int:cQG K cQj "int"=some none) (z_str:cQG K cQj "str"=some none) (z_bool:cQG K cQj "bool"=some none) (z_list:cQG K cQj "list"=some none) (z_tuple:cQG K cQj "tuple"=some none) (z_set:cQG K cQj "set"=some none) (z_range:cQG K cQj "range"=some none) (z_reversed:cQG K cQj "reversed"=some none) (z_max:cQG K cQj "max"=some none) (y_week:cQG K cQj "WEEK"=some (some (.int 7 tW))) (y_open:cQG K cQj "OPEN_DAYS"=some (some (.int 5 tO))) (tb:cJp K cA J=true) (tn:K.lookup J=none) :∃ (g:cXK)(c:Nat),cJp K c J=true/\K.lookup J=none/\(∀ (s:bYO)(v:bYL),BindsTo s g ⟨[v],[]⟩ [("_law_script",v)])/\∀base:Heap,K.In base->base.Ns cQj mg->cXR base c J->base.BuiltinsAt mg J->xE l.prog w K mg base CX0 11 fa g ["_law_script"] (Alike.bZJ J K):=by
 obtain⟨aL,b0,Q⟩:=dL;have e:=f7.symm.trans (cXG X G aL);cases e;have TD:Days.vJ mg:=⟨bY1 X G z_len,bY1 X G z_min,bY1 X G z_sum,bY1 X G z_sorted,bY1 X G z_isinstance,bY1 X G z_int,bY1 X G z_str,bY1 X G z_bool,bY1 X G z_list,bY1 X G z_tuple,bY1 X G z_set,bY1 X G z_range,bY1 X G z_reversed,⟨_,cXG X G y_week⟩,⟨_,cXG X G y_open⟩⟩;have TT:Thr.vJ mg:=⟨bY1 X G z_len,bY1 X G z_sorted,bY1 X G z_isinstance,bY1 X G z_int,bY1 X G z_str,bY1 X G z_bool,bY1 X G z_list,bY1 X G z_tuple,bY1 X G z_range⟩;have Y:Desk.vJ mg:=⟨bY1 X G z_len,bY1 X G z_sorted,bY1 X G z_list⟩;have T:Law.vJ mg:=⟨bY1 X G z_len,bY1 X G z_range⟩;have TA:Alike.vJ mg:=⟨bY1 X G z_len,bY1 X G z_sorted,bY1 X G z_isinstance,bY1 X G z_int,bY1 X G z_str,bY1 X G z_bool,bY1 X G z_list,bY1 X G z_tuple,bY1 X G z_range⟩;have bL:∀ (s:bYO)(v:bYL),BindsTo s b0 ⟨[v],[]⟩ [("_law_script",v)]:=by obtain⟨oc,od,kV,l8,pm,an,l6,ct,l7,rfl,lk,l9⟩:=Q.ex;exact λs v=> .of_eq rfl
 refine⟨b0,cA,tb,tn,bL,λbase _ _ M hB=>?_⟩;have g0:FnG l.prog w K mg base 2 "answers_to_each" ["links","dates"] (Thr.bV3 J):=⟨fA,_,Thr.bWR TT M hB lA cA1,(aXm (st:=Thr.aJ6) lA cA1 kA).binds bdA,kA,cXG X G aA⟩;have g1:=gOf l.prog w base 1 X G d1 bdA λf g F=>Days.bVi TD F;have g2:=gOf l.prog w base 1 X G d2 bdA λf g F=>Days.bXX TD F;have g3:=gOf l.prog w base 2 X G d3 bdA λf g F=>Days.aYI TD g1.up F;have g4:=gOf l.prog w base 2 X G d4 bdA λf g F=>Days.aYH TD g1.up F;have g5:=gOf l.prog w base 1 X G d5 bdA λf g F=>Days.bXQ TD F;have g6:=gOf l.prog w base 3 X G d6 bdA λf g F=>Days.bWS TD g4.up g2.up g5.up F;have g7:=gOf l.prog w base 1 X G d7 bdA λf g F=>Thr.bX2 TT F;have g8:=gOf l.prog w base 3 X G d8 bdA λf g F=>Thr.aYP TT g0.up g7.up F;have g9:=kOf l.prog w base 1 X G d9 bdA λf g F=>Desk.bXU (n:=0) cl F;have b2:=mOf mg l.prog w base 1 cl.l d10 bdA λf g F=>Desk.bXZ (n:=0) cl F;have e9:=mOf mg l.prog w base 1 cl.l d11 bdA λf g F=>Desk.bXL (n:=0) cl F;have b9:=mOf mg l.prog w base 1 cl.l d12 bdA λf g F=>Desk.bVb (n:=0) cl F;have h0:=mOf mg l.prog w base 1 cl.l d13 bdA λf g F=>Desk.bVn (n:=0) cl F;have f4:=gOf l.prog w base 1 X G d14 bdA λf g F=>Desk.bXV (n:=0) F;have a4:=mOf mg l.prog w base 2 cl.b d16 bdA λf g F=>Desk.bXM (n:=1) cl e9.up F;have e1:=mOf mg l.prog w base 1 cl.b d19 bdA λf g F=>Desk.aZR (n:=0) cl F;have i2:=mOf mg l.prog w base 1 cl.b d20 bdA λf g F=>Desk.aJR (n:=0) cl F;have a8:=mOf mg l.prog w base 4 cl.b d21 bdA λf g F=>Desk.bXW (n:=3) Y cl i2.up g6.up F;have j7:=mOf mg l.prog w base 5 cl.b d22 bdA λf g F=>Desk.aKd (n:=4) cl a8.up F;have f1:=mOf mg l.prog w base 5 cl.b d23 bdA λf g F=>Desk.aW9 (n:=4) cl a8.up F;have a6:=kOf l.prog w base 1 X G d24 bdA λf g F=>Desk.bXN (n:=0) cl F;have a5:=mOf mg l.prog w base 3 cl.b d25 bdA λf g F=>Desk.bWQ (n:=1) Y cl g9.up F;have d0:=dOf mg l.prog w base 2 d53 bdA λf g F=>Desk.aXd (n:=1) (Rf:=(R,J)) e1.up F;have i4:=dOf mg l.prog w base 6 d54 bdA λf g F=>Desk.aXf (n:=5) (Rf:=(R,J)) j7.up F;have h9:=dOf mg l.prog w base 6 d55 bdA λf g F=>Desk.aXe (n:=5) (Rf:=(R,J)) f1.up F;have k2:=mOf mg l.prog w base 2 cl.b d58 bdA λf g F=>Desk.aYO (n:=1) cl b2.up F;have N:=rOf l.prog w base 1 X G d60 bdA λf g F=>Desk.aWX (n:=0) F;obtain⟨_,f9⟩:=eOf l.prog w base 2 "no letter" X G d61 bdA λC f g M F=>Desk.aJP (n:=1) N M F;obtain⟨_,j0⟩:=eOf l.prog w base 2 "no term" X G d62 bdA λC f g M F=>Desk.aYD (n:=1) N M F;obtain⟨_,c0⟩:=eOf l.prog w base 2 "has one" X G d63 bdA λC f g M F=>Desk.aYC (n:=1) N M F;obtain⟨_,e5⟩:=eOf l.prog w base 2 "has none" X G d64 bdA λC f g M F=>Desk.aWW (n:=1) N M F;obtain⟨_,l2⟩:=eOf l.prog w base 2 "own thread" X G d65 bdA λC f g M F=>Desk.aZP (n:=1) N M F;obtain⟨_,l4⟩:=eOf l.prog w base 2 "same way" X G d66 bdA λC f g M F=>Desk.aWY (n:=1) N M F;obtain⟨_,f3⟩:=eOf l.prog w base 2 "other partner" X G d67 bdA λC f g M F=>Desk.aQz (n:=1) N M F;obtain⟨_,e4⟩:=eOf l.prog w base 2 "too early" X G d68 bdA λC f g M F=>Desk.aJQ (n:=1) N M F;obtain⟨_,j3⟩:=eOf l.prog w base 2 "copied" X G d69 bdA λC f g M F=>Desk.aYB (n:=1) N M F;obtain⟨_,i5⟩:=eOf l.prog w base 2 "answered" X G d70 bdA λC f g M F=>Desk.aJO (n:=1) N M F;obtain⟨_,i9⟩:=eOf l.prog w base 2 "counts not" X G d71 bdA λC f g M F=>Desk.aZO (n:=1) N M F;have S:=gOf l.prog w base 1 X G d72 bdA λf g F=>Law.bVc T F;have Z:=gOf l.prog w base 1 X G d73 bdA λf g F=>Law.bVf T F;have h1:=gOf l.prog w base 2 X G d74 bdA λf g F=>Law.bX3 T (bY1 X G z_min) Z.up F;have c7:=gOf l.prog w base 1 X G d75 bdA λf g F=>Law.bXS T F;have b5:=gOf l.prog w base 3 X G d76 bdA λf g F=>Law.aYL T (bY1 X G z_sorted) h1.up c7.up F;have a3:=gOf l.prog w base 2 X G d77 bdA λf g F=>Law.aYK T (bY1 X G z_sorted) F;have j5:=gOf l.prog w base 2 X G d78 bdA λf g F=>Law.bVg Z.up F;have j8:=gOf l.prog w base 2 X G d79 bdA λf g F=>Law.bXP Z.up F;have h4:=gOf l.prog w base 3 X G d80 bdA λf g F=>Law.bVe S.up a3.up F;have k6:=gOf l.prog w base 3 X G d81 bdA λf g F=>Law.aW7 T (bY1 X G z_int) S.up F;have h7:=gOf l.prog w base 3 X G d82 bdA λf g F=>Law.bVo T S.up j8.up j5.up a3.up F;have j6:=gOf l.prog w base 4 X G d83 bdA λf g F=>Law.bVm T (bY1 X G z_list) (bY1 X G z_tuple) S.up b5.up a3.up F;have a7:=gOf l.prog w base 5 X G d84 bdA λf g F=>Law.bVa k6.up h4.up j6.up h7.up F;have j9:=gOf l.prog w base 2 X G d85 bdA λf g F=>Law.aW8 T (bY1 X G z_int) S.up F;have h3:=gOf l.prog w base 2 X G d86 bdA λf g F=>Law.bXJ T (bY1 X G z_int) S.up F;have c4:=gOf l.prog w base 3 X G d87 bdA λf g F=>Law.aYJ T (bY1 X G z_int) (bY1 X G z_max) S.up j9.up h3.up F;have f8:=gOf l.prog w base 6 X G d88 bdA λf g F=>Law.bX0 T a7.up c4.up F;have e6:=gOf l.prog w base 1 X G d89 bdA λf g F=>Alike.bX4 TA F;have k0:=gOf l.prog w base 1 X G d90 bdA λf g F=>Alike.bVj TA F;have c3:=gOf l.prog w base 2 X G d91 bdA λf g F=>Alike.bXK TA e6.up F;have c5:=gOf l.prog w base 1 X G d92 bdA λf g F=>Alike.bJ8 TA F;have i8:=gOf l.prog w base 1 X G d93 bdA λf g F=>Alike.aJY TA F;have k9:=gOf l.prog w base 6 X G d94 bdA λf g F=>Alike.aYF (n:=5) a7.up F;have k4:=gOf l.prog w base 1 X G d95 bdA λf g F=>Alike.aKb TA F;have O:=aJM mg l.prog w base 4 cl.b d15 bdA λf g F=>Desk.bJ8 (n:=2) (Rf:=(R,J)) Y cl f9.up F;have i3:=aJM mg l.prog w base 5 cl.b d17 bdA λf g F=>Desk.aJS (n:=4) (Rf:=(R,J)) Y cl O.up F;have b7:=aJM mg l.prog w base 5 cl.b d18 bdA λf g F=>Desk.aKc (n:=4) (Rf:=(R,J)) cl O.up b2.up F;have a0:=xOf l.prog w base 4 X G d26 bdA λf g F=>Desk.bX1 (n:=2) (Rf:=(R,J)) j0.up F;have a1:=xOf l.prog w base 4 X G d27 bdA λf g F=>Desk.bXR (n:=2) (Rf:=(R,J)) e4.up F;have k3:=aJM mg l.prog w base 5 cl.b d28 bdA λf g F=>Desk.bXT (n:=4) (Rf:=(R,J)) cl a0.up a5.up F;have j2:=aJM mg l.prog w base 5 cl.b d29 bdA λf g F=>Desk.bXY (n:=4) (Rf:=(R,J)) cl O.up a0.up a1.up f4.up a5.up F;have c9:=aJM mg l.prog w base 5 cl.b d30 bdA λf g F=>Desk.aYM (n:=3) (Rf:=(R,J)) cl O.up e5.up F
 have h2:=aJM mg l.prog w base 5 cl.b d31 bdA λf g F=>Desk.aKa (n:=4) (Rf:=(R,J)) cl O.up a0.up F;have k1:=aJM mg l.prog w base 5 cl.b d32 bdA λf g F=>Desk.bVk (n:=3) (Rf:=(R,J)) Y cl O.up b9.up j3.up F;have b6:=aJM mg l.prog w base 5 cl.b d33 bdA λf g F=>Desk.aYG (n:=3) (Rf:=(R,J)) Y cl O.up a4.up h0.up i5.up F;have l1:=aJM mg l.prog w base 4 cl.b d34 bdA λf g F=>Desk.bVl (n:=2) (Rf:=(R,J)) cl g3.up i9.up F;have i7:=aJM mg l.prog w base 5 cl.b d35 bdA λf g F=>Desk.aYN (n:=4) (Rf:=(R,J)) cl O.up a4.up a1.up F;have a2:=aJM mg l.prog w base 5 cl.b d36 bdA λf g F=>Desk.aJX (n:=4) (Rf:=(R,J)) cl O.up g8.up F;have b1:=aJM mg l.prog w base 6 cl.b d37 bdA λf g F=>Desk.bWU (n:=5) (Rf:=(R,J)) Y cl a2.up F;have l3:=aJM mg l.prog w base 6 cl.b d38 bdA λf g F=>Desk.bXO (n:=4) (Rf:=(R,J)) cl a2.up a1.up c0.up l2.up l4.up f3.up F;have i0:=aJM mg l.prog w base 7 cl.b d39 bdA λf g F=>Desk.bVd (n:=6) (Rf:=(R,J)) cl O.up l3.up b1.up F;have c1:=dOf mg l.prog w base 6 d40 bdA λf g F=>Desk.aJT (n:=5) (Rf:=(R,J)) k3.up F;have j4:=dOf mg l.prog w base 6 d41 bdA λf g F=>Desk.aJV (n:=5) (Rf:=(R,J)) j2.up F;have h8:=dOf mg l.prog w base 8 d42 bdA λf g F=>Desk.aW3 (n:=7) (Rf:=(R,J)) i0.up F;have i1:=dOf mg l.prog w base 6 d43 bdA λf g F=>Desk.aJU (n:=5) (Rf:=(R,J)) c9.up F;have f2:=dOf mg l.prog w base 6 d44 bdA λf g F=>Desk.aW1 (n:=5) (Rf:=(R,J)) i7.up F;have e3:=dOf mg l.prog w base 6 d45 bdA λf g F=>Desk.aW5 (n:=5) (Rf:=(R,J)) h2.up F;have e7:=dOf mg l.prog w base 6 d46 bdA λf g F=>Desk.aW0 (n:=5) (Rf:=(R,J)) k1.up F;have c6:=dOf mg l.prog w base 7 d47 bdA λf g F=>Desk.aW2 (n:=6) (Rf:=(R,J)) b1.up F;have h6:=dOf mg l.prog w base 6 d48 bdA λf g F=>Desk.aW6 (n:=5) (Rf:=(R,J)) b6.up F;have k8:=dOf mg l.prog w base 5 d49 bdA λf g F=>Desk.aW4 (n:=4) (Rf:=(R,J)) l1.up F;have e2:=dOf mg l.prog w base 6 d50 bdA λf g F=>Desk.aZQ (n:=5) (Rf:=(R,J)) b7.up F;have c8:=dOf mg l.prog w base 6 d51 bdA λf g F=>Desk.aXP (n:=5) (Rf:=(R,J)) a2.up F;have f0:=dOf mg l.prog w base 6 d52 bdA λf g F=>Desk.aXO (n:=5) (Rf:=(R,J)) i3.up F;have P:(([("in",i),("out",i),("reply",x),("hang",D),("loose",y),("date",E),("term",B),("copy",z),("file",H),("void",I),("shut",A),("state",u),("thread",q),("copies",r),("letters",j),("waiting",p),("overdue",k)]:List (Str×Nat)).map (·.1)).Nodup:=show(["in","out","reply","hang","loose","date","term","copy","file","void","shut","state","thread","copies","letters","waiting","overdue"]:List Str).Nodup from dk;have all:Desk.bWj l.prog w K mg base 8 (R,J) L CL (bJd [("in",i),("out",i),("reply",x),("hang",D),("loose",y),("date",E),("term",B),("copy",z),("file",H),("void",I),("shut",A),("state",u),("thread",q),("copies",r),("letters",j),("waiting",p),("overdue",k)]):=by
  intro e k7;cases e with
  |enter l5 d V t=>
   obtain⟨g,a,b,c⟩:=c1.ex;rcases k7 with rfl|rfl
   ·exact⟨i,g,_,uM P 0 rfl,a.mono (by decide),⟨_,d,V,t,rfl⟩,b,c⟩
   ·exact⟨i,g,_,uM P 1 rfl,a.mono (by decide),⟨_,d,V,t,rfl⟩,b,c⟩
  |reply m d t=>obtain⟨g,a,b,c⟩:=j4.ex;exact⟨x,g,_,uM P 2 rfl,a.mono (by decide),⟨m,d,t,rfl⟩,b,c⟩
  |hang m o=>obtain⟨g,a,b,c⟩:=h8.ex;exact⟨D,g,_,uM P 3 rfl,a.mono (by decide),⟨m,o,rfl⟩,b,c⟩
  |loose m=>obtain⟨g,a,b,c⟩:=i1.ex;exact⟨y,g,_,uM P 4 rfl,a.mono (by decide),⟨m,rfl⟩,b,c⟩
  |date m d=>obtain⟨g,a,b,c⟩:=f2.ex;exact⟨E,g,_,uM P 5 rfl,a.mono (by decide),⟨m,d,rfl⟩,b,c⟩
  |term m t=>obtain⟨g,a,b,c⟩:=e3.ex;exact⟨B,g,_,uM P 6 rfl,a.mono (by decide),⟨m,t,rfl⟩,b,c⟩
  |copy m V=>obtain⟨g,a,b,c⟩:=e7.ex;exact⟨z,g,_,uM P 7 rfl,a.mono (by decide),⟨m,V,rfl⟩,b,c⟩
  |file m U=>obtain⟨g,a,b,c⟩:=c6.ex;exact⟨H,g,_,uM P 8 rfl,a.mono (by decide),⟨m,U,rfl⟩,b,c⟩
  |void m=>obtain⟨g,a,b,c⟩:=h6.ex;exact⟨I,g,_,uM P 9 rfl,a.mono (by decide),⟨m,rfl⟩,b,c⟩
  |shut d=>obtain⟨g,a,b,c⟩:=k8.ex;exact⟨A,g,_,uM P 10 rfl,a.mono (by decide),⟨d,rfl⟩,b,c⟩
  |state m=>obtain⟨g,a,b,c⟩:=e2.ex;exact⟨u,g,_,uM P 11 rfl,a.mono (by decide),⟨m,rfl⟩,b,c⟩
  |thread m=>obtain⟨g,a,b,c⟩:=c8.ex;exact⟨q,g,_,uM P 12 rfl,a.mono (by decide),⟨m,rfl⟩,b,c⟩
  |copies m=>obtain⟨g,a,b,c⟩:=f0.ex;exact⟨r,g,_,uM P 13 rfl,a.mono (by decide),⟨m,rfl⟩,b,c⟩
  |letters U=>obtain⟨g,a,b,c⟩:=d0.ex;exact⟨j,g,_,uM P 14 rfl,a.mono (by decide),⟨U,rfl⟩,b,c⟩
  |on b3 d=>
   cases b3
   ·obtain⟨g,a,b,c⟩:=i4.ex;exact⟨p,g,_,uM P 15 rfl,a.mono (by decide),⟨d,rfl⟩,b,c⟩
   ·obtain⟨g,a,b,c⟩:=h9.ex;exact⟨k,g,_,uM P 16 rfl,a.mono (by decide),⟨d,rfl⟩,b,c⟩
 have b4:=gOf l.prog w base 9 X G d56 bdA λf g F=>Desk.aYE (n:=8) (Rf:=(R,J)) (cXG X G nD) (bWa lD pD P) (cXG X G d60.ns) d60.cl all F;have c2:=gOf l.prog w base 10 X G d57 bdA λf g F=>Desk.aWZ (n:=8) (Rf:=(R,J)) a6.up b4.up F;have f5:=gOf l.prog w base 10 X G d59 bdA λf g F=>Desk.aJW (n:=8) (Rf:=(R,J)) a6.up b4.up k2.up F;exact Alike.bWT (n:=10) (Rf:=(R,J)) TA f8.up k0.up k9.up k4.up i8.up c5.up c3.up b5.up c2.up f5.up Q
end End4
namespace End4
open PySem L2 PyProof.Rows
def walk{l:PySem.W.OpenLaw}{q:bY7}{loose:List Str}{r:(Str->Option bYL)->Heap->Prop}{b:cQf->Heap->Prop}{d:DefRec}{K:Params->bYM}{T:Nat}(o:l.most=some 63)(g:d.params.defaults= []) (p:∀ (w:cQf)(h:Heap),b w h->(K w.params).In h) (e:∀ (w:cQf)(h:Heap),b w h->h.get? T=some (cZk #[])) (F:∀ (w:cQf)(mg:Str->Option bYL)(i:Nat)(h:Heap),(K w.params).In h->h.Ns cQj mg->mg d.name=some (.ref i)-> ∃ (j:cXK)(c:Nat),cJp (K w.params) c T=true/\(K w.params).lookup T=none/\(∀ (s:bYO)(u:bYL),BindsTo s j ⟨[u],[]⟩ [("_law_script",u)])/\∀base:Heap,(K w.params).In base->base.Ns cQj mg->cXR base c T->base.BuiltinsAt mg T->xE l.prog w (K w.params) mg base CX0 11 i j ["_law_script"] (Alike.bZJ T (K w.params))): PySem.W.WalkO q loose r b l.row.toRowW d [] (λf m=>PySem.call f m):=
 L2.bZ1 (n:=63) (k:=11) (x:="_law_script") (CX:=CX0) (sp:=Alike.bZJ) o (by decide) g ⟨rfl,by decide,by decide⟩ p e F (λ_ _ a y hl t v=>⟨a,y,rfl,v,hl,.inl t,λ_=>rfl⟩) λ_ _ _ _ z=>z
end End4
open PySem PySem.W PyProof.Rows
namespace PySem.W.Fast
def tw5267716284262166433:=0
def tw4574352788134030185:=0
def tw381057772114747504:=0
def tw13563534361280340415:=0
def tw2792202237424353507:=0
def tw17662060998125625676:=0
def tw1085709519626780516:=0
def tw482901332392379859:=0
def tw2666204120726428949:=0
def tw122619531651437152:=0
def tw11421035440140736278:=0
def tw13293020608830275279:=0
def tw6534792828421096499:=0
def tw148576222813899980:=0
def tw1895350752577068623:=0
def tw10062078882762428043:=0
def tw7149204855012364329:=0
def tw3423044650631065588:=0
def tw17332178804430147523:=0
def tw7291913181092302860:=0
def tw4181787062944220464:=0
def tw14668032352609773566:=0
def tw3473593004646926019:=0
def tw7491132471709035586:=0
def tw9491796674323860217:=0
def tw17027290316801432589:=0
def tw13433007825637273807:=0
def tw5974380139061930230:=0
def tw14061747340182927439:=0
def tw12038995220159055159:=0
def tw18010702948557221855:=0
def tw7849185791598344401:=0
def tw3867221798356080423:=0
def tw14115843613567017128:=0
def tw17191666398727689670:=0
def tw5297967472074050073:=0
def tw4357361608782714544:=0
def tw10146812958779295257:=0
def tw16310047939293361961:=0
def tw14852483184467831919:=0
def tw15255445102882252681:=0
def tw11730926678506217011:=0
def tw4358593487892098141:=0
def tw15967492951621410229:=0
def tw10336264511284167213:=0
def tw5014026890318739130:=0
def tw3822626628736409390:=0
def tw11452957023925982544:=0
def tw6744135953152663317:=0
def tw319349108137335120:=0
def tw17694083636797486667:=0
def tw18365384584368880355:=0
def tw1106928264921017652:=0
def tw13409891743565577075:=0
def tw15315865908672300154:=0
def tw16556597636605652462:=0
def tw11897920498827781762:=0
def tw175013885655646553:=0
def tw8137234323905038147:=0
def tw16750983708345650371:=0
def tw14152100642559464027:=0
def tw201740406158188176:=0
def tw16980047107301261851:=0
def tw381727330051619449:=0
def tw5938236238591185338:=0
def tw10025989864068601733:=0
def tw265535151282227838:=0
def tw2188647907844208076:=0
def tw2545490565614003983:=0
def tw5289920278813369802:=0
def tw11050801620580643959:=0
def tw5862461743961726092:=0
def tw3927003230054641159:=0
def tw13724844238547794507:=0
def tw3282478017384219552:=0
def tw460637822919888368:=0
def tw13967081815954930916:=0
def tw2772181257751039402:=0
def tw5207969209540080249:=0
def tw13181837527995868932:=0
def tw892071214597660174:=0
def tw10617775192797409554:=0
def tw491177518915161080:=0
def tw539095926069579230:=0
def tw16055103525893071134:=0
def tw10649640436236412001:=0
def tw6629888002329860994:=0
def tw13192678261991012474:=0
def tw16568904208738278237:=0
def tw9074692932416413605:=0
def tw10488417458936040802:=0
def tw7110877541875776984:=0
def tw10410929562666654932:=0
def tw7610679722688374867:=0
def tw3741899440283553038:=0
def tw7381617356366439740:=0
def tw9676396075988474371:=0
def tw18054147872363721317:=0
def tw2004677113527524477:=0
def tw11022356647954930676:=0
def tw6204652120566744220:=0
def tw15329022425760986593:=0
def tw1686855102411383424:=0
def tw12648159380606001543:=0
def tw15391165250858911573:=0
def tw12012966172606641182:=0
def tw11949162459247606368:=0
def tw10995028657164664432:=0
def tw2349249680320763557:=0
def tw601764381712650412:=0
def tw6119472145519187922:=0
def tw9028501858423168465:=0
def tw4625825541211746670:=0
def tw13637055583510056123:=0
def tw9632101098966543202:=0
def tw2032766905712234995:=0
def tw17510609493635401773:=0
def tw61061174230765040:=0
def tw215711844169528034:=0
def tw17599878557882506442:=0
def tw2921183904840596358:=0
def tw4967486185933677278:=0
def tw9749306733883183106:=0
def tw16126971669446272319:=0
def tw12816748835974044992:=0
def tw17358117652642007282:=0
def tw16642586173283329551:=0
def tw7545956106539143179:=0
def tw15488592774683227515:=0
def tw6780913676420759800:=0
def tw15614128279002221610:=0
def tw15338712754497377735:=0
def tw2951150430931640088:=0
def tw11678369536486313103:=0
def tw10959804836256952941:=0
def tw16843639996966228486:=0
def tw1127313539759577545:=0
def tw10684814804659296721:=0
def tw8358907208408835886:=0
def tw3599411403428239403:=0
def tw10833868269316238740:=0
def tw7832246720929728009:=0
def tw1068989109094462649:=0
def tw17027156481846360205:=0
def tw14103529925095981168:=0
def tw13511057796224883341:=0
def tw10906824673976636317:=0
def tw8586172737602149117:=0
def tw17264540076322895783:=0
def tw2113634646925926965:=0
def tw11250787542342125752:=0
def tw12996716347465053489:=0
def tw5624052738051648485:=0
def tw16753962725288439343:=0
def tw16148792829687567113:=0
def tw15386542550553464061:=0
def tw10100889244176610966:=0
def tw2472462409307401061:=0
def tw2468154074561610147:=0
def tw17330969112857294812:=0
def tw4125261462485300914:=0
def tw8811914220193086142:=0
def tw7448330816249868590:=0
def tw10912979182249777217:=0
def tw9086765398450516871:=0
def tw5792753706236023700:=0
def tw9504642902148683334:=0
def tw3024404577033526599:=0
def tw4855202354302483572:=0
def tw17796835495660000222:=0
def tw13386173842787054049:=0
def tw9654846262741982003:=0
def tw14762360044867429969:=0
def tw16855345620130882494:=0
def tw11626526622253283571:=0
def tw4148147112885486894:=0
def tw3189690226598609220:=0
def tw2526117364326744085:=0
def tw18254132404573769893:=0
def tw5437149435762010164:=0
def tw9932904121849246705:=0
def tw13137410210106651885:=0
def tw12780380551092126287:=0
def tw11078121764171165438:=0
def tw7221443015942768131:=0
def tw6138632056191717592:=0
def tw3171819215214274371:=0
def tw11116089957194542000:=0
def tw7567509352125121725:=0
def tw13411548407724306314:=0
def tw13894139691505111815:=0
def tw8602832636998118679:=0
def tw11310910924311351074:=0
def tw9911219189025554712:=0
def tw11056911262790262388:=0
def tw333641916825154484:=0
def tw5613457827684162005:=0
def tw13030387607890619784:=0
def tw9805383027948207348:=0
def tw9918113092023029285:=0
def tw16700896560544149407:=0
def tw16891922544133538130:=0
def tw5045465499335103203:=0
def tw11449501561302480614:=0
def tw17979687000119310664:=0
def tw8721965582660578109:=0
def tw12559760219167905545:=0
def tw14905659544024616989:=0
def tw18252087776123850148:=0
def tw2193621770234873783:=0
def tw11425197580927979727:=0
def tw17368742220926634652:=0
def tw16180041163286827756:=0
def tw4878839333977424080:=0
def tw17330640514636371421:=0
def tw6406190946567449029:=0
def tw10133059658857575136:=0
def tw9716327179980266749:=0
def tw9012945044492408823:=0
def tw11328967430272317568:=0
def tw1528683695906984676:=0
def tw18418963767611497586:=0
def tw13478042654729387063:=0
def tw14187285789631513910:=0
def tw3580393400410785303:=0
def tw7632418243365187221:=0
def tw11073544742198997756:=0
def tw5926262873028584270:=0
def tw18382288259506541199:=0
def tw8867376477038328034:=0
def tw5757172016641702751:=0
def tw6896134063475540436:=0
def tw10416933259507053317:=0
def tw14451958109104631379:=0
def tw14592016820472623827:=0
def tw8944956973527087920:=0
def tw4060596654085179814:=0
def tw1135393916649332362:=0
def tw16254325468611734405:=0
def tw18161350548806702998:=0
def tw8249349276772463129:=0
def tw17092321127587513159:=0
def tw13302301493849888421:=0
def tw7094971831551261666:=0
def tw15926208157372369797:=0
def tw17937774119148753863:=0
def tw7664417880830845018:=0
def tw3543225531110458742:=0
def tw1256247460620371897:=0
def tw10285670538175194886:=0
def tw1321570784124360468:=0
def tw9017106257162563416:=0
def tw15654759252176997602:=0
def tw12407039274088196677:=0
def tw16080680212212779346:=0
def tw3520062893144207836:=0
def tw13994530438907093756:=0
def tw5355345725165820756:=0
def tw13585773215324012646:=0
def tw7712397248686927454:=0
def tw2157109254318737660:=0
def tw5384772135933535612:=0
def tw6760405524713151372:=0
def tw13537263940297528031:=0
def tw6887541319325807054:=0
def tw18037846333509221924:=0
def tw1854107649377189807:=0
def tw14123297975599849056:=0
def tw3391003441732654349:=0
def tw11386076627112028656:=0
def tw6173909754357763713:=0
def tw17424808750231366362:=0
def tw17689203549585162214:=0
def tw7386645814290633443:=0
def tw13212245709608418064:=0
def tw7004077644413738634:=0
def tw5381787126799361140:=0
def tw8104334436948429915:=0
def tw15854844589347277675:=0
def tw2355013605974640688:=0
def tw14686023954044991420:=0
def tw10557308058927385478:=0
def tw10848123546926404007:=0
def tw12912994346246739635:=0
def tw7719776415742553991:=0
def tw6994345973167795054:=0
def tw13858968452121160914:=0
def tw6418469820654567415:=0
def tw10737167521274965110:=0
def tw15086227889470446897:=0
def tw4187418385149744258:=0
def tw15931634985493155655:=0
def tw6510504871789027015:=0
def tw9321615054002274029:=0
def tw7150603849023502710:=0
def tw47063804151751387:=0
def tw12365357054160216416:=0
def tw15823499473932184096:=0
def tw12730244864946810697:=0
def tw12968597172209412823:=0
def tw2706551479080503690:=0
def tw9556110732866487298:=0
def tw10376335654312453900:=0
def tw17039427452791572647:=0
def tw5018709633232711113:=0
def tw5601404899095687541:=0
def tw673607662834104736:=0
def tw15946160782765625023:=0
def tw6377972581953655895:=0
def tw12565903182227422318:=0
def tw3989244872677623808:=0
def tw17123981126880967001:=0
def tw1576573198330320773:=0
def tw9730033796401203461:=0
def tw3467807474897298585:=0
def tw18255868508313295914:=0
def tw3289427039472363192:=0
def tw12030094796662791574:=0
def tw5629505913368084017:=0
def tw17161712941061234623:=0
def tw1054299291963507159:=0
def tw10459630960447189259:=0
def tw16597359533558267184:=0
def tw15287456416765587689:=0
def tw15170663370807795847:=0
def tw12669759825290340291:=0
def tw2662318617447864331:=0
def tw3418294569188793435:=0
def tw3378915811752397576:=0
def tw15251196816218971289:=0
def tw2914198867523320485:=0
def tw15541219132578100786:=0
def tw4187517971171912184:=0
def tw18191698439071442852:=0
def tw4997468391343407015:=0
def tw2417369720725850885:=0
def tw14882224684273503836:=0
def tw17804342512545812327:=0
def tw5650021495183419858:=0
def tw16923047634562142123:=0
def tw6711403006310439116:=0
def tw17937407721752358842:=0
def tw6733829395374611746:=0
def tw1569514769802391702:=0
def tw16695814242340895026:=0
def tw16574061737814536405:=0
def tw7787081700007484122:=0
def tw15205320464669955572:=0
def tw14665003524224680056:=0
def tw9152917947220231543:=0
def tw8898079251094890109:=0
def tw2886571465140758692:=0
def tw5656384265938346407:=0
def tw8868562470748661069:=0
def tw12736209725932703081:=0
def tw14887377084398080295:=0
def tw15430767574656271332:=0
def tw10648718063191168704:=0
def tw6642536004243051212:=0
def tw14555620959798247158:=0
def tw13466329810282959616:=0
def tw2225992582994331047:=0
def tw3041652511496045410:=0
def tw8396806504757785512:=0
def tw15689071985142224101:=0
def tw5364777497735938049:=0
def tw9950524475684556219:=0
def tw9552257964942113727:=0
def tw636324128379581807:=0
def tw4763087558029182368:=0
def tw5757354378232503690:=0
def tw2079153599880325889:=0
def tw9626587710091827294:=0
def tw3127809465284409632:=0
def tw7443995775559886148:=0
def tw10504868380833623962:=0
def tw4218273220169385267:=0
def tw203229024457143003:=0
def tw10860742078727594036:=0
def tw3961684741649347176:=0
def tw2578594017547316398:=0
def tw18339379723017148693:=0
def tw8971877041567453734:=0
def tw9007475812170747132:=0
def tw18289409509634413724:=0
def tw1000043354178494790:=0
def tw9034026176682761848:=0
def tw12445114848992984619:=0
def tw12036059445039669849:=0
def tw1296274139755420496:=0
def tw8165962235003799629:=0
def tw8396429988882123128:=0
def tw18442216400041793813:=0
def tw6698212515323549522:=0
def tw10415112398534956197:=0
def tw16287928477663349712:=0
def tw9481204810836110832:=0
def tw3117311688029476036:=0
def tw1814797408998137808:=0
def tw891988431953727888:=0
def tw8022622948923831601:=0
def tw13741351379857334076:=0
def tw1798745931705389912:=0
def tw5236108086737095733:=0
def tw18411940448656520283:=0
def tw17318905083356319460:=0
def tw17537924075751406290:=0
def tw962219435895765839:=0
def tw4551966951168574102:=0
def tw16920858079575100225:=0
def tw9375010966459184810:=0
def tw10948019437902072295:=0
def tw13997753608992332131:=0
def tw9981549028626804679:=0
def tw18263211184258332219:=0
def tw11890257569976734804:=0
def tw13071823585559042554:=0
def tw10712186105041309981:=0
def tw7171782015914923065:=0
def tw4102842583415255678:=0
def tw14890252116220311601:=0
def tw15530566421995209233:=0
def tw1453724895229473073:=0
def tw17636135392759280020:=0
def tw6571870370476209778:=0
def tw3501218850419263021:=0
def tw9602932309281869189:=0
def tw17413975771712847621:=0
def tw11135784699592466498:=0
def tw4522373575998399644:=0
def tw1908948120097472319:=0
def tw9719051197126006917:=0
def tw4444968575282333350:=0
def tw11794545285029631580:=0
def tw10506815765264189487:=0
def tw2409424789372620936:=0
def tw1663131252239871754:=0
def tw15568518653285201656:=0
def tw17164673008151268087:=0
def tw3905147652805334227:=0
def tw10607853430380469890:=0
def tw16250532221741738308:=0
def tw5134047039283585963:=0
def tw8858944178770217054:=0
def tw9797898008253819620:=0
def tw14538352906679336562:=0
def tw4501749650904283471:=0
def tw1864914516348283771:=0
def tw5403086221681382000:=0
def tw7931802699103610255:=0
def tw11685796478404809699:=0
def tw12329801933293395585:=0
def tw10593166131788836422:=0
def tw15513146528694676370:=0
def tw2418498275037544715:=0
def tw9304110462806119325:=0
def tw14113017751539241831:=0
def tw14299526279505674937:=0
def tw2393153077010001169:=0
def tw5740077692231758850:=0
def tw85859663426630847:=0
def tw2189212132987378607:=0
def tw2996677822955839555:=0
def tw7550968569473017022:=0
def tw764403955854757487:=0
def tw2970464253244049523:=0
def tw15263708094748378035:=0
def tw16991287474748059108:=0
def tw5628513534883489680:=0
def tw15043077075683218810:=0
def tw16210766920600723386:=0
def tw6293554015854649451:=0
def tw11425951232853201520:=0
def tw16495130875379884765:=0
def tw15416727937825279185:=0
def tw15654823084311399806:=0
def tw13263156202353151284:=0
def tw10759712838842338959:=0
def tw1496968052598141051:=0
def tw8560735299481093324:=0
def tw10073386447363967585:=0
def tw15734571288803905667:=0
def tw2940392355551200562:=0
def tw3189354604285521482:=0
def tw17657662024478044548:=0
def tw6034826980563110641:=0
def tw5490488067635039705:=0
def tw6613029547538504722:=0
def tw12878510648935506797:=0
def tw17950109452124449176:=0
def tw5677735368783640111:=0
def tw14178379323489405941:=0
def tw17028715002173755838:=0
def tw18433633285989028676:=0
def tw10399297554877895356:=0
def tw11670245835255791655:=0
def tw2499825968359079535:=0
def tw17140984402864446683:=0
def tw9178241804877055301:=0
def tw16844931015179767299:=0
def tw9154976183535112195:=0
def tw4455959728838013899:=0
def tw14438458945965767693:=0
def tw17717548887406987982:=0
def tw2143944140650163244:=0
def tw2874378894696175603:=0
def tw15481767303469027896:=0
def tw1773983163488511572:=0
def tw9242898014105701733:=0
def tw5052576488863301535:=0
def tw3982742857826559865:=0
def tw5627602924395624670:=0
def tw7041029413442085671:=0
def tw2622061807284024394:=0
def tw17912515667737938269:=0
def tw17517320215080711085:=0
def tw10176873661886548481:=0
def tw4142723131848163001:=0
def tw6650675539928180473:=0
def tw1552492492328490128:=0
def tw2873102097162475904:=0
def tw8474327731737827524:=0
def tw1943104225172144126:=0
def tw13377038173424082975:=0
def tw923721335735190108:=0
def tw16608983696875916659:=0
def tw6562955135579987245:=0
def tw16792802676538985984:=0
def tw6094498948363548185:=0
def tw841060924669957555:=0
def tw10901944249974273092:=0
def tw15188886587075653660:=0
def tw3924293807064699344:=0
def tw10838662933436855172:=0
def tw1636448808862586542:=0
def tw18329596154101133923:=0
def tw12513776067122705380:=0
def tw4937700217043271412:=0
def tw16909347489564372660:=0
def tw14344626356527487859:=0
def tw10493919905379989294:=0
def tw7936216582386117923:=0
def tw14054019393673867299:=0
def tw1500802051396305637:=0
def tw11816227494152620037:=0
def tw14676242613248636910:=0
def tw15721529313421592556:=0
def tw1100395704549534309:=0
def tw15881810681128494674:=0
def tw5850444757413062720:=0
def tw9158186075181924420:=0
def tw204730403375807941:=0
def tw7254662524796809870:=0
def tw17563248160260377766:=0
def tw8644888397140920534:=0
def tw10369252331730421591:=0
def tw15633786797989051033:=0
def tw2932325346678863938:=0
def tw3102190166551050138:=0
def tw14019014810484607614:=0
def tw8494883399742106555:=0
def tw7176295293024903584:=0
def tw13345737234040813538:=0
def tw14851783440083234590:=0
def tw5319408929912415048:=0
def tw11311195731212775152:=0
def tw17581859829247947053:=0
def tw15701616411955319485:=0
def tw9206295484781167993:=0
def tw14485489804534111723:=0
def tw11169169932725364439:=0
def tw11823981461236243159:=0
def tw16654591553569373189:=0
def tw11126173605540962390:=0
def tw11974556054904258996:=0
def tw3340988008024762819:=0
def tw4162434835552283332:=0
def tw10706612866450106829:=0
def tw16732773337298948516:=0
def tw4136246250869219743:=0
def tw12982672654615811584:=0
def tw10653827362067466388:=0
def tw11712896741032610640:=0
def tw15478951077887229660:=0
def tw13882485716931335305:=0
def tw730946073174771094:=0
def tw9605121942782442733:=0
def tw17231850633744732290:=0
def tw1604292187427360737:=0
def tw3870728386985339701:=0
def tw15228363555461324867:=0
def tw17370520552560043216:=0
def tw11479749624244062720:=0
def tw8510116751841961728:=0
def tw9471485273248975764:=0
def tw13482039077560659643:=0
def tw3541606787088213681:=0
def tw3607126166596084340:=0
def tw17109946335545019666:=0
def tw7375542731564890243:=0
def tw9548219122614068857:=0
def tw12127130841507672607:=0
def tw8669374939197842504:=0
def tw11687465312111329583:=0
def tw9091304231555714604:=0
def tw187593059185557426:=0
def tw12790855120737186437:=0
def tw9700052233283220623:=0
def tw285833097343743618:=0
def tw6362790523936265810:=0
def tw119359573856426930:=0
def tw12668616417037003613:=0
def tw18375000327244696502:=0
def tw362201753234570907:=0
def tw16403160730466648138:=0
def tw11568162028262412805:=0
def tw5875085943337578539:=0
def tw7338878595980782209:=0
def tw12072786278316480827:=0
def tw14376558667349911230:=0
def tw12764202129947449530:=0
def tw17753262238705956774:=0
def tw13159211959120597013:=0
def tw5489313281047408947:=0
def tw11173823340181833800:=0
def tw14130659845418976294:=0
def tw5796898792140943735:=0
def tw17923539670073437707:=0
def tw17139994544616978486:=0
def tw571286762902951441:=0
def tw9171875323384099801:=0
def tw12693563774759693561:=0
def tw11144366432496605845:=0
def tw6436240589704569344:=0
def tw1766526113094759526:=0
def tw5028308281237377467:=0
def tw1957538392125153141:=0
def tw11439547387809657489:=0
def tw18008581119651454625:=0
def tw10735214251065349425:=0
def tw4671064391217300179:=0
def tw859505713462209672:=0
def tw18018451256383347872:=0
def tw6561119437002797586:=0
def tw3204887128423847541:=0
def tw11097248716709571144:=0
def tw17086698478067281898:=0
def tw6309190709608649671:=0
def tw17196474892528350183:=0
def tw13599667458309372451:=0
def tw268837040330818547:=0
def tw15378180756356443526:=0
def tw12281060798948972224:=0
def tw17831993783414504653:=0
def tw3696547892505047053:=0
def tw17718913595329001886:=0
def tw13828929164764463450:=0
def tw9281518046408470779:=0
def tw13165616838385920810:=0
def tw17361226516325051242:=0
def tw9238226917935191984:=0
def tw16598018832642103639:=0
def tw11352038822742717829:=0
def tw11407900706175381744:=0
def tw3961267249931698113:=0
def tw9038823979001472819:=0
def tw4352916607326443696:=0
def tw6225111135000922717:=0
def tw5522743394317836230:=0
def tw7022232181367224452:=0
def tw3861415083639530205:=0
def tw1277130979668869474:=0
def tw10879385677648504345:=0
def tw5801954641072775977:=0
def tw2333833645474768367:=0
def tw10036744336075837576:=0
def tw170961485593855450:=0
def tw15435714761920719732:=0
def tw13469046469105441393:=0
def tw490219677244911643:=0
def tw2590185770818893209:=0
def tw17977997017190101438:=0
def tw12744414900040733376:=0
def tw14395723814793551859:=0
def tw8656337718345102332:=0
def tw6886005846613346929:=0
def tw929992521779755918:=0
def tw962715330455179466:=0
def tw4868591752231366822:=0
def tw5648696488948232774:=0
def tw8093693037895699777:=0
def tw6714174953800331424:=0
def tw14708693068277763544:=0
def tw13693580533474539491:=0
def tw3586901999610541211:=0
def tw576101622710028159:=0
def tw6797763153559280143:=0
def tw17779440962411522070:=0
def tw1039354808282713349:=0
def tw7232076567292859077:=0
def tw2563495520155797666:=0
def tw3468503026108206831:=0
def tw3986928472488034758:=0
def tw384401460875105858:=0
def tw8890503130623211045:=0
def tw13746288474823815906:=0
def tw874089078549986941:=0
def tw9695291308371311888:=0
def tw4484068085524902605:=0
def tw11995033460525867539:=0
def tw13080200863011922763:=0
def tw6447436129310141129:=0
def tw4258387968616181584:=0
def tw4698844908188831422:=0
def tw14457569184592732629:=0
def tw11281352943973228332:=0
def tw17242289791084592499:=0
def tw757671126941248336:=0
def tw8838532871791128434:=0
def tw10454510582019362428:=0
def tw6743177907073418652:=0
def tw3011206394437389896:=0
def tw18400077244495045674:=0
def tw17061054270719245808:=0
def tw4313377354149958962:=0
def tw12467466558169546673:=0
def tw4093060304605031979:=0
def tw2434155492120367934:=0
def tw3798617184008979810:=0
def tw14318351884977653099:=0
def tw1619661756230625437:=0
def tw13812379111309524843:=0
def tw16047973117539642359:=0
def tw10264505372083913606:=0
def tw10807949811438734925:=0
def tw14791043725321057328:=0
def tw13430779626711788289:=0
def tw14671022317368634371:=0
def tw13301486118477473665:=0
end PySem.W.Fast
set_option maxRecDepth 100000 in
set_option maxHeartbeats 0 in
theorem PySem.Challenge.cw_letterdesk_k06_whole_waiting_and_overdue_holds : PySem.Challenge.rw_letterdesk_k06_whole_waiting_and_overdue.Holds := by
 w_on;o_law;k_head;(case hw=>w_witness2);k_fill;refine End4.walk (l:=PySem.Challenge.rw_letterdesk_k06_whole_waiting_and_overdue) rfl rfl (λw h Y=>PySem.W.km_in_of Y) (λw h Y=>PySem.W.km_tabs_of Y _ (bY0 ..)) ?F;case F=>
  intro w c d h b G a;refine' End4.all_mk b G a ?d60 ?d61 ?d62 ?d63 ?d64 ?d65 ?d66 ?d67 ?d68 ?d69 ?d70 ?d71 ?d9 ?d24 ?cl ?d10 ?d11 ?d12 ?d13 ?d15 ?d16 ?d17 ?d18 ?d19 ?d20 ?d21 ?d22 ?d23 ?d25 ?d28 ?d29 ?d30 ?d31 ?d32 ?d33 ?d34 ?d35 ?d36 ?d37 ?d38 ?d39 ?d58 ?d1 ?d2 ?d3 ?d4 ?d5 ?d6 ?d7 ?d8 ?d14 ?d26 ?d27 ?d56 ?d57 ?d59 ?d72 ?d73 ?d74 ?d75 ?d76 ?d77 ?d78 ?d79 ?d80 ?d81 ?d82 ?d83 ?d84 ?d85 ?d86 ?d87 ?d88 ?d89 ?d90 ?d91 ?d92 ?d93 ?d94 ?d95 ?d40 ?d41 ?d42 ?d43 ?d44 ?d45 ?d46 ?d47 ?d48 ?d49 ?d50 ?d51 ?d52 ?d53 ?d54 ?d55 ?dL ?aA ?lA ?cA1 ?kA ?nD ?lD ?pD ?z_len ?z_min ?z_sum ?z_sorted ?z_isinstance ?z_int ?z_str ?z_bool ?z_list ?z_tuple ?z_set ?z_range ?z_reversed ?z_max ?y_week ?y_open ?tb ?tn;(case d60=>apply End4.bVx<;> first|k_is|kernel_rfl);(case d61=>apply End4.uU<;> first|k_is|kernel_rfl);(case d62=>apply End4.uU<;> first|k_is|kernel_rfl);(case d63=>apply End4.uU<;> first|k_is|kernel_rfl);(case d64=>apply End4.uU<;> first|k_is|kernel_rfl);(case d65=>apply End4.uU<;> first|k_is|kernel_rfl);(case d66=>apply End4.uU<;> first|k_is|kernel_rfl);(case d67=>apply End4.uU<;> first|k_is|kernel_rfl);(case d68=>apply End4.uU<;> first|k_is|kernel_rfl);(case d69=>apply End4.uU<;> first|k_is|kernel_rfl);(case d70=>apply End4.uU<;> first|k_is|kernel_rfl);(case d71=>apply End4.uU<;> first|k_is|kernel_rfl);(case d9=>apply End4.bJg<;> k_is);(case d24=>apply End4.bJg<;> k_is);(case cl=>apply End4.bKN<;> k_is);(case d10=>apply End4.x4<;> k_is);(case d11=>apply End4.x4<;> k_is);(case d12=>apply End4.x4<;> k_is);(case d13=>apply End4.x4<;> k_is);(case d15=>apply End4.x4<;> k_is);(case d16=>apply End4.x4<;> k_is);(case d17=>apply End4.x4<;> k_is);(case d18=>apply End4.x4<;> k_is);(case d19=>apply End4.x4<;> k_is);(case d20=>apply End4.x4<;> k_is);(case d21=>apply End4.x4<;> k_is);(case d22=>apply End4.x4<;> k_is);(case d23=>apply End4.x4<;> k_is);(case d25=>apply End4.x4<;> k_is);(case d28=>apply End4.x4<;> k_is);(case d29=>apply End4.x4<;> k_is);(case d30=>apply End4.x4<;> k_is);(case d31=>apply End4.x4<;> k_is);(case d32=>apply End4.x4<;> k_is);(case d33=>apply End4.x4<;> k_is);(case d34=>apply End4.x4<;> k_is);(case d35=>apply End4.x4<;> k_is);(case d36=>apply End4.x4<;> k_is);(case d37=>apply End4.x4<;> k_is);(case d38=>apply End4.x4<;> k_is);(case d39=>apply End4.x4<;> k_is);(case d58=>apply End4.x4<;> k_is);(case d1=>apply End4.xM<;> k_is);(case d2=>apply End4.xM<;> k_is);(case d3=>apply End4.xM<;> k_is);(case d4=>apply End4.xM<;> k_is);(case d5=>apply End4.xM<;> k_is);(case d6=>apply End4.xM<;> k_is);(case d7=>apply End4.xM<;> k_is);(case d8=>apply End4.xM<;> k_is);(case d14=>apply End4.xM<;> k_is);(case d26=>apply End4.xM<;> k_is);(case d27=>apply End4.xM<;> k_is);(case d56=>apply End4.xM<;> k_is);(case d57=>apply End4.xM<;> k_is);(case d59=>apply End4.xM<;> k_is);(case d72=>apply End4.xM<;> k_is);(case d73=>apply End4.xM<;> k_is);(case d74=>apply End4.xM<;> k_is);(case d75=>apply End4.xM<;> k_is);(case d76=>apply End4.xM<;> k_is);(case d77=>apply End4.xM<;> k_is);(case d78=>apply End4.xM<;> k_is);(case d79=>apply End4.xM<;> k_is);(case d80=>apply End4.xM<;> k_is);(case d81=>apply End4.xM<;> k_is);(case d82=>apply End4.xM<;> k_is);(case d83=>apply End4.xM<;> k_is);(case d84=>apply End4.xM<;> k_is);(case d85=>apply End4.xM<;> k_is);(case d86=>apply End4.xM<;> k_is);(case d87=>apply End4.xM<;> k_is);(case d88=>apply End4.xM<;> k_is);(case d89=>apply End4.xM<;> k_is);(case d90=>apply End4.xM<;> k_is);(case d91=>apply End4.xM<;> k_is);(case d92=>apply End4.xM<;> k_is);(case d93=>apply End4.xM<;> k_is);(case d94=>apply End4.xM<;> k_is);(case d95=>apply End4.xM<;> k_is);(case d40=>apply End4.xT<;> k_is);(case d41=>apply End4.xT<;> k_is);(case d42=>apply End4.xT<;> k_is);(case d43=>apply End4.xT<;> k_is);(case d44=>apply End4.xT<;> k_is);(case d45=>apply End4.xT<;> k_is);(case d46=>apply End4.xT<;> k_is);(case d47=>apply End4.xT<;> k_is);(case d48=>apply End4.xT<;> k_is);(case d49=>apply End4.xT<;> k_is);(case d50=>apply End4.xT<;> k_is);(case d51=>apply End4.xT<;> k_is);(case d52=>apply End4.xT<;> k_is);(case d53=>apply End4.xT<;> k_is);(case d54=>apply End4.xT<;> k_is);(case d55=>apply End4.xT<;> k_is);(case dL=>apply End4.xT<;> k_is);(case aA=>k_is);(case lA=>k_is);(case cA1=>k_is);(case kA=>k_is);(case nD=>k_is);(case lD=>k_is);(case pD=>exact⟨⟨_,rfl⟩,rfl,rfl,⟨_,rfl⟩,rfl,rfl,⟨_,rfl⟩,rfl,rfl,⟨_,rfl⟩,rfl,rfl,⟨_,rfl⟩,rfl,rfl,⟨_,rfl⟩,rfl,rfl,⟨_,rfl⟩,rfl,rfl,⟨_,rfl⟩,rfl,rfl,⟨_,rfl⟩,rfl,rfl,⟨_,rfl⟩,rfl,rfl,⟨_,rfl⟩,rfl,rfl,⟨_,rfl⟩,rfl,rfl,⟨_,rfl⟩,rfl,rfl,⟨_,rfl⟩,rfl,rfl,⟨_,rfl⟩,rfl,rfl,⟨_,rfl⟩,rfl,rfl,⟨_,rfl⟩,rfl,rfl,cQ9⟩);(case z_len=>k_is);(case z_min=>k_is);(case z_sum=>k_is);(case z_sorted=>k_is);(case z_isinstance=>k_is);(case z_int=>k_is);(case z_str=>k_is);(case z_bool=>k_is);(case z_list=>k_is);(case z_tuple=>k_is);(case z_set=>k_is);(case z_range=>k_is);(case z_reversed=>k_is);(case z_max=>k_is);(case y_week=>k_is);(case y_open=>k_is);(case tb=>kernel_rfl);(case tn=>kernel_rfl)
